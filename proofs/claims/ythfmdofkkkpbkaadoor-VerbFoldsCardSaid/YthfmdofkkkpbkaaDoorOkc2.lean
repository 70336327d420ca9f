/-
  The model's runs are what is told in Lean.
-/
import Derived.Test.YthfmdofkkkpbkaaDoorProg
import Derived.KernelRfl
import Derived.Test.YthfmdofkkkpbkaaDoorShelf
import Derived.Test.YthfmdofkkkpbkaaDoorOkc1
set_option linter.unusedVariables false
set_option linter.unusedSimpArgs false
namespace Go.Proofs.YthfmdofkkkpbkaaDoor
open Go.Abs Go.Abs.Sh
set_option maxHeartbeats 1000000 in
theorem ok_path_all_of_path_atom_1 (s : ByteArray) (r : Bool) (h : Sh.path_all_of_path_atom_1 s = some r) : FnOK Tryd.prog 48 [.v (.string s), .v (.func (.func 67) #[] #[])] (.v (.bool r)) := by
  unfold Sh.path_all_of_path_atom_1 at h
  refine fn_ok Tryd.func48 rfl (Nat.le_of_ble_eq_true rfl) rfl rfl fun g0 hn hio => ?_
  refine ht_seq ?_
  refine ht_seqR hn (El := [_, _, (4, .v (.bool false))]) (init := [0, 1]) (fin := [0, 1]) (sps := [⟨[], [], [2], [(.slot 4)]⟩]) (es' := [(_, _), (_, _)]) (by kernel_rfl) rfl rfl
   ⟨st_plain rfl (op_assign _ _ _ _ rfl rfl),
   trivial⟩ ?_
  refine pt_then ?_
  refine ht_seq ?_
  refine ht_seq ?_
  refine ht_seqR hn (El := [_, _, (6, .v (.string s)), (7, .v (.int .i64 (s.size : Int))), (8, .v (.int .i64 0))]) (init := [0, 1]) (fin := [0, 1, 3, 4]) (sps := [⟨[0], [], [2], [(.slot 6)]⟩, ⟨[2], [], [3], [(.slot 7)]⟩, ⟨[], [], [4], [(.slot 8)]⟩]) (es' := [(_, _), (_, _), (7, .v (.int .i64 (s.size : Int))), (8, .v (.int .i64 0))]) (by kernel_rfl) rfl rfl
   ⟨st_plain rfl (op_move _ _ _ _ rfl rfl),
   st_plain rfl (op_len_str _ _ _ Tryd.underlying9 rfl),
   st_plain rfl (op_move _ _ _ _ rfl rfl),
   trivial⟩ ?_
  refine pt_then ?_
  refine ht_loopS h (fun (s9 : Int) => [(0, .v (.string s)), (1, .v (.func (.func 67) #[] #[])), (7, .v (.int .i64 (s.size : Int))), (8, .v (.int .i64 s9))]) (fun (() : Unit) => []) ?_ ?_
  ·rintro ⟨⟩ h
   refine pt_then ?_
   refine ht_seq ?_
   refine ht_seqR hn (El := [(4, .v (.bool true))]) (init := []) (fin := [0]) (sps := [⟨[], [], [0], [(.slot 4)]⟩]) (es' := [(4, .v (.bool true))]) (by kernel_rfl) rfl rfl
    ⟨st_plain rfl (op_assign _ _ _ _ rfl rfl),
    trivial⟩ ?_
   refine pt_then ?_
   refine ht_ret ?_
   obtain rfl := Option.some.inj h
   exact pt_ret hio rfl (.tmp _ _ .nil) rfl rfl
  ·rintro u12 hl13 hr14 s9 rr17 h ho15
   refine ht_seq ?_
   refine ht_seqR hn (El := [_, _, _, _, (9, .v (.bool ((decide (s9 < (s.size : Int))))))]) (init := [0, 1, 2, 3]) (fin := [0, 1, 2, 3, 4]) (sps := [⟨[3, 2], [], [4], [(.slot 9)]⟩]) (es' := [(_, _), (_, _), (_, _), (_, _), (9, .v (.bool ((decide (s9 < (s.size : Int))))))]) (by kernel_rfl) rfl rfl
    ⟨st_plain rfl (op_bin _ _ _ _ _ rfl rfl rfl),
    trivial⟩ ?_
   refine pt_then ?_
   refine ht_seq ?_
   refine ht_cond _ rfl (fun hb18 => ?_) (fun hb18 => ?_)
   ·have h := cond_t hb18 h
    refine ht_skip ?_
    refine pt_then ?_
    refine ht_seq ?_
    refine ht_block ?_
    refine ht_seq ?_
    refine ht_seqR hn (El := [_, _, _, _, _, (10, .v (.int .i64 s9)), (5, .v (.int .i64 s9))]) (init := [0, 1, 2, 3, 4]) (fin := [0, 1, 2, 3, 6]) (sps := [⟨[3], [], [5], [(.slot 10)]⟩, ⟨[5], [], [6], [(.slot 5)]⟩]) (es' := [(_, _), (_, _), (_, _), (_, _), (5, .v (.int .i64 s9))]) (by kernel_rfl) rfl rfl
     ⟨st_plain rfl (op_move _ _ _ _ rfl rfl),
     st_plain rfl (op_assign _ _ _ _ rfl rfl),
     trivial⟩ ?_
    refine pt_then ?_
    refine ht_seq ?_
    obtain ⟨v2, hv2, h⟩ := bind_some h
    obtain ⟨v3, hv3, h⟩ := bind_some h
    refine ht_seqR hn (El := [_, _, _, _, _, (11, .v (.func (.func 67) #[] #[])), (12, .v (.string s)), (13, .v (.int .i64 s9)), (14, .v (.int .u8 v2)), (15, .v (.bool v3)), (16, .v (.bool (!v3)))]) (init := [0, 1, 2, 3, 4]) (fin := [0, 1, 2, 3, 10]) (sps := [⟨[1], [], [5], [(.slot 11)]⟩, ⟨[0], [], [6], [(.slot 12)]⟩, ⟨[4], [], [7], [(.slot 13)]⟩, ⟨[6, 7], [], [8], [(.slot 14)]⟩, ⟨[8, 5], [], [9], [(.slot 15)]⟩, ⟨[9], [], [10], [(.slot 16)]⟩]) (es' := [(_, _), (_, _), (_, _), (_, _), (16, .v (.bool (!v3)))]) (by kernel_rfl) rfl rfl
     ⟨st_plain rfl (op_move _ _ _ _ rfl rfl),
     st_plain rfl (op_move _ _ _ _ rfl rfl),
     st_plain rfl (op_move _ _ _ _ rfl rfl),
     st_plain rfl (op_chr _ _ _ s9 _ Tryd.underlying9 rfl rfl hv2),
     st_plain rfl (op_call _ _ 67 _ _ rfl Tryd.call67 rfl (ok_path_atom_1 v2 _ hv3) rfl rfl),
     st_plain rfl (op_un _ _ _ _ rfl rfl),
     trivial⟩ ?_
    refine pt_then ?_
    refine ht_cond _ rfl (fun hb19 => ?_) (fun hb19 => ?_)
    ·have h := cond_t hb19 h
     refine ht_seq ?_
     refine ht_seqR hn (El := [_, _, _, _, _, (4, .v (.bool false))]) (init := [0, 1, 2, 3, 4]) (fin := [5]) (sps := [⟨[], [], [5], [(.slot 4)]⟩]) (es' := [(4, .v (.bool false))]) (by kernel_rfl) rfl rfl
      ⟨st_plain rfl (op_assign _ _ _ _ rfl rfl),
      trivial⟩ ?_
     refine pt_then ?_
     refine ht_ret ?_
     refine pt_r_in ?_
     refine pt_r_then ?_
     refine pt_r_then ?_
     refine pt_r_in ?_
     refine pt_r_then ?_
     have h := hr14 _ (ho15 _ (Option.some.inj h).symm).symm
     obtain rfl := Option.some.inj h
     exact pt_ret hio rfl (.tmp _ _ .nil) rfl rfl
    ·have h := cond_f hb19 h
     refine ht_skip ?_
     refine pt_inb ?_
     refine pt_then ?_
     obtain ⟨v5, hv5, h⟩ := bind_some h
     refine ht_seqR hn (El := [_, _, _, _, _, (17, .v (.int .i64 v5)), (8, .v (.int .i64 v5))]) (init := [0, 1, 2, 3, 4]) (fin := [0, 1, 2, 6]) (sps := [⟨[3], [], [5], [(.slot 17)]⟩, ⟨[5], [3], [6], [(.slot 8)]⟩]) (es' := [(_, _), (_, _), (_, _), (8, .v (.int .i64 v5))]) (by kernel_rfl) rfl rfl
      ⟨st_plain rfl (op_bin _ _ _ _ _ rfl rfl (ibind (f := Value.int .i64) (Option.some.inj hv5))),
      st_plain rfl (LOp.drop [_] (op_move _ _ _ _ rfl rfl)),
      trivial⟩ ?_
     exact pt_next _ (Option.some.inj h).symm rfl
   ·have h := cond_f hb18 h
    refine ht_exit ?_
    refine pt_x_then ?_
    refine pt_x_then ?_
    refine pt_x_in ?_
    refine pt_pick [] (by kernel_rfl) (es' := []) rfl ?_
    exact hl13 _ (ho15 _ (Option.some.inj h).symm).symm
set_option maxHeartbeats 1000000 in
theorem ok_path_atom (s : ByteArray) (r : Bool) (h : Sh.path_atom s = some r) : FnOK Tryd.prog 56 [.v (.string s)] (.v (.bool r)) := by
  unfold Sh.path_atom at h
  refine fn_ok Tryd.func56 rfl (Nat.le_of_ble_eq_true rfl) rfl rfl fun g0 hn hio => ?_
  refine ht_seq ?_
  refine ht_seqR hn (El := [_, (2, .v (.bool false))]) (init := [0]) (fin := [0]) (sps := [⟨[], [], [1], [(.slot 2)]⟩]) (es' := [(_, _)]) (by kernel_rfl) rfl rfl
   ⟨st_plain rfl (op_assign _ _ _ _ rfl rfl),
   trivial⟩ ?_
  refine pt_then ?_
  refine ht_seq ?_
  refine ht_joinS h (fun (s2 : Bool) => [(2, .v (.bool s2))]) ?_ ?_
  ·rintro s2 h
   refine pt_then ?_
   refine ht_ret ?_
   obtain rfl := Option.some.inj h
   exact pt_ret hio rfl (.tmp _ _ .nil) rfl rfl
  ·intro u3 h hl4 hr5
   refine cond_some h (fun hg1_2 h => ?_) (fun hg1_2 h => ?_)
   ·obtain ⟨v1, hv1, h⟩ := bind_some h
    refine ht_seqR hn (El := [_, (3, .v (.string s)), (4, .v (.bool ((!(s.toList == (⟨#[]⟩ : ByteArray).toList))))), (5, .v (.bool true)), (6, .v (.string s)), (7, .v (.bool v1)), (8, .v (.bool v1)), (2, .v (.bool v1))]) (init := [0]) (fin := [7]) (sps := [⟨[0], [], [1], [(.slot 3)]⟩, ⟨[1], [], [2], [(.slot 4)]⟩, ⟨[2], [], [3], [(.slot 5)]⟩, ⟨[3, 0], [], [4], [(.slot 6)]⟩, ⟨[3, 4], [], [5], [(.slot 7)]⟩, ⟨[3, 5], [], [6], [(.slot 8)]⟩, ⟨[6], [], [7], [(.slot 2)]⟩]) (es' := [(2, .v (.bool v1))]) (by kernel_rfl) rfl rfl
     ⟨st_plain rfl (op_move _ _ _ _ rfl rfl),
     st_plain rfl (op_bin _ _ _ _ _ rfl rfl rfl),
     st_plain rfl (op_move _ _ _ _ (congrArg (fun b => AV.v (Value.bool b)) hg1_2) rfl),
     st_run 2 5 true rfl rfl rfl (List.Mem.head _) (op_move _ _ _ _ rfl rfl),
     st_run 2 5 true rfl rfl rfl (List.Mem.head _) (op_call _ _ 48 _ _ rfl Tryd.call48 rfl (ok_path_all_of_path_atom_1 s _ hv1) rfl rfl),
     st_plain rfl (op_pick _ _ true _ rfl rfl),
     st_plain rfl (op_assign _ _ _ _ rfl rfl),
     trivial⟩ ?_
    exact hl4 _ (Option.some.inj h).symm
   ·refine ht_seqR hn (El := [_, (3, .v (.string s)), (4, .v (.bool ((!(s.toList == (⟨#[]⟩ : ByteArray).toList))))), (5, .v (.bool false)), (6, .v undef), (7, .v undef), (8, .v (.bool false)), (2, .v (.bool false))]) (init := [0]) (fin := [7]) (sps := [⟨[0], [], [1], [(.slot 3)]⟩, ⟨[1], [], [2], [(.slot 4)]⟩, ⟨[2], [], [3], [(.slot 5)]⟩, ⟨[3], [], [4], [(.slot 6)]⟩, ⟨[3], [], [5], [(.slot 7)]⟩, ⟨[3], [], [6], [(.slot 8)]⟩, ⟨[6], [], [7], [(.slot 2)]⟩]) (es' := [(2, .v (.bool false))]) (by kernel_rfl) rfl rfl
     ⟨st_plain rfl (op_move _ _ _ _ rfl rfl),
     st_plain rfl (op_bin _ _ _ _ _ rfl rfl rfl),
     st_plain rfl (op_move _ _ _ _ (congrArg (fun b => AV.v (Value.bool b)) hg1_2) rfl),
     st_skip 2 5 _ true rfl rfl rfl rfl (List.Mem.head _),
     st_skip 2 5 _ true rfl rfl rfl rfl (List.Mem.head _),
     st_plain rfl (op_pick _ _ false _ rfl rfl),
     st_plain rfl (op_assign _ _ _ _ rfl rfl),
     trivial⟩ ?_
    exact hl4 _ (Option.some.inj h).symm
set_option maxHeartbeats 1000000 in
theorem ok_path_dotted_of_path_atom (mx : Int) (s : ByteArray) (r : Bool) (h : Sh.path_dotted_of_path_atom s = some r) : FnG Tryd.prog (GL mx) 39 [.v (.string s), .v (.func (.func 56) #[] #[])] (.v (.bool r)) := by
  unfold Sh.path_dotted_of_path_atom at h
  refine fn_okG Tryd.func39 rfl (Nat.le_of_ble_eq_true rfl) rfl rfl fun g0 hn hio => ?_
  refine ht_seq ?_
  refine ht_seqR hn (El := [_, _, _, (3, .box 43 [.v (.func (.func 56) #[] #[])]), (4, .box 4 [.v (.bool false)])]) (init := [0, 1, 2]) (fin := [0, 2, 3, 4]) (sps := [⟨[1], [], [3], [(.slot 3)]⟩, ⟨[], [], [4], [(.slot 4)]⟩]) (es' := [(_, _), (_, _), (3, .box 43 [.v (.func (.func 56) #[] #[])]), (4, .box 4 [.v (.bool false)])]) (by kernel_rfl) rfl rfl
   ⟨st_plain rfl (op_box _ _ _ _ rfl rfl rfl),
   st_plain rfl (op_alloc _ _ zr4),
   trivial⟩ ?_
  refine pt_then ?_
  refine ht_seq ?_
  refine ht_seq ?_
  obtain ⟨v1, hv1, h⟩ := bind_some h
  refine ht_seqR hn (El := [_, _, _, _, (6, .v (.string s)), (7, .cloB 71 [.box 9 [.v (.string v1.1)], .box 9 [.v (.string v1.2.1)], .box 3 [.v (.int .i64 v1.2.2)]])]) (init := [0, 1, 2, 3]) (fin := [1, 2, 3, 5]) (sps := [⟨[0], [], [4], [(.slot 6)]⟩, ⟨[4], [], [5], [(.slot 7)]⟩]) (es' := [(_, _), (_, _), (_, _), (7, .cloB 71 [.box 9 [.v (.string v1.1)], .box 9 [.v (.string v1.2.1)], .box 3 [.v (.int .i64 v1.2.2)]])]) (by kernel_rfl) rfl rfl
   ⟨st_plain rfl (op_move _ _ _ _ rfl rfl),
   st_plain rfl (op_callS _ _ 47 _ _ rfl Tryd.call47 rfl rfl (ok_strings_SplitSeq s (⟨#[46]⟩ : ByteArray) _ hv1) rfl),
   trivial⟩ ?_
  refine pt_then ?_
  refine ht_block ?_
  refine ht_pick [3, 0, 1, 2] (by kernel_rfl) (es' := [(7, .cloB 71 [.box 9 [.v (.string v1.1)], .box 9 [.v (.string v1.2.1)], .box 3 [.v (.int .i64 v1.2.2)]]), (13, .glob (GL mx)), (3, .box 43 [.v (.func (.func 56) #[] #[])]), (4, .box 4 [.v (.bool false)])]) rfl ?_
  refine ht_rangeF h 71 7 8 14 _ [13, 3, 4] Tryd.call71 (fun (() : Unit) => [(13, .glob (GL mx)), (3, .box 43 [.v (.func (.func 56) #[] #[])]), (4, .box 4 [.v (.bool false)])]) (fun (() : Unit) => [(13, .glob (GL mx)), (3, .box 43 [.v (.func (.func 56) #[] #[])]), (4, .box 4 [.v (.bool false)])]) (fun l J Y hY t t' h => ok_strings_splitSeq_1 mx l J Y hY v1.1 v1.2.1 v1.2.2 t t' h) hn rfl (fun _ => rfl) (fun _ => rfl) (fun _ => rfl) rfl rfl (fun _ => ⟨rfl, rfl⟩) rfl (glIn_look 13 rfl) ?_ ?_ ?_
  ·rintro kk g0 hn hio x ⟨⟩ u h
   refine ht_es (es' := [(8, .v (.string x)), (13, .glob (GL mx)), (3, .box 43 [.v (.func (.func 56) #[] #[])]), (4, .box 4 [.v (.bool false)]), (13, .v (kk.tm.getD 13 undef)), (3, .v (kk.tm.getD 3 undef)), (4, .v (kk.tm.getD 4 undef)), (14, .inv kk.ready)]) rfl ?_
   refine ht_seqR hn (El := [_, _, _, _, _, _, _, _, (5, .v (.string x))]) (init := [0, 1, 2, 3, 4, 5, 6, 7]) (fin := [1, 2, 3, 4, 5, 6, 7, 8]) (sps := [⟨[0], [], [8], [(.slot 5)]⟩]) (es' := [(_, _), (_, _), (_, _), (_, _), (_, _), (_, _), (_, _), (5, .v (.string x))]) (by kernel_rfl) rfl rfl
    ⟨st_plain rfl (op_assign _ _ _ _ rfl rfl),
    trivial⟩ ?_
   refine pt_pick [0, 1, 2, 3, 4, 5, 7, 6] (by kernel_rfl) (es' := [(13, .glob (GL mx)), (3, .box 43 [.v (.func (.func 56) #[] #[])]), (4, .box 4 [.v (.bool false)]), (13, .v (kk.tm.getD 13 undef)), (3, .v (kk.tm.getD 3 undef)), (4, .v (kk.tm.getD 4 undef)), (5, .v (.string x)), (14, .inv kk.ready)]) rfl ?_
   refine pt_begin (es := [(13, .glob (GL mx)), (3, .box 43 [.v (.func (.func 56) #[] #[])]), (4, .box 4 [.v (.bool false)]), (13, .v (kk.tm.getD 13 undef)), (3, .v (kk.tm.getD 3 undef)), (4, .v (kk.tm.getD 4 undef)), (5, .v (.string x))]) 14 rfl ?_
   refine ht_block ?_
   refine ht_seq ?_
   obtain ⟨v2, hv2, h⟩ := bind_some h
   refine ht_seqR hn (El := [_, _, _, _, _, _, _, _, (9, .v (.func (.func 56) #[] #[])), (10, .v (.string x)), (11, .v (.bool v2)), (12, .v (.bool (!v2)))]) (init := [0, 1, 2, 3, 4, 5, 6, 7]) (fin := [0, 1, 2, 3, 4, 5, 7, 11]) (sps := [⟨[1], [], [8], [(.slot 9)]⟩, ⟨[6], [], [9], [(.slot 10)]⟩, ⟨[9, 8], [], [10], [(.slot 11)]⟩, ⟨[10], [], [11], [(.slot 12)]⟩]) (es' := [(_, _), (_, _), (_, _), (_, _), (_, _), (_, _), (_, _), (12, .v (.bool (!v2)))]) (by kernel_rfl) rfl rfl
    ⟨st_plain rfl (op_load _ _ _ _ _ _ Tryd.underlying43 rfl rfl rfl (Nat.le_of_ble_eq_true rfl) rfl rfl rfl),
    st_plain rfl (op_move _ _ _ _ rfl rfl),
    st_plain rfl (op_call _ _ 56 _ _ rfl Tryd.call56 rfl (ok_path_atom x _ hv2) rfl rfl),
    st_plain rfl (op_un _ _ _ _ rfl rfl),
    trivial⟩ ?_
   refine pt_then ?_
   refine ht_cond _ rfl (fun hb5 => ?_) (fun hb5 => ?_)
   ·have h := cond_t hb5 h
    refine ht_seq ?_
    refine ht_seqR hn (El := [_, _, _, _, _, _, _, _, (4, .box 4 [.v (.bool false)])]) (init := [0, 1, 2, 3, 4, 5, 6, 7]) (fin := [0, 1, 8, 3, 4, 5, 6]) (sps := [⟨[], [2], [8], [.cell 4 0]⟩]) (es' := [(_, _), (_, _), (4, .box 4 [.v (.bool false)]), (_, _), (_, _), (_, _), (_, _)]) (by kernel_rfl) rfl rfl
     ⟨st_plain rfl (op_store _ _ _ _ _ _ _ _ sz4 rfl rfl rfl rfl (Nat.le_of_ble_eq_true rfl) rfl rfl),
     trivial⟩ ?_
    refine pt_then ?_
    refine ht_ret ?_
    refine pt_r_in ?_
    obtain rfl := Option.some.inj h
    exact pt_rret 14 [13, 3, 4] _ rfl rfl (by kernel_rfl)
   ·have h := cond_f hb5 h
    refine ht_skip ?_
    refine pt_inb ?_
    refine pt_pick [0, 1, 2, 3, 4, 5, 6] (by kernel_rfl) (es' := [(_, _), (_, _), (_, _), (_, _), (_, _), (_, _), (_, _)]) rfl ?_
    obtain rfl := Option.some.inj h
    exact pt_rnext 14 [13, 3, 4] _ rfl rfl (by kernel_rfl)
  ·rintro D ⟨⟩ h
   refine pt_inb ?_
   refine pt_then ?_
   refine ht_seq ?_
   refine ht_seqR hn (El := [_, _, _, (4, .box 4 [.v (.bool true)])]) (init := [0, 1, 2]) (fin := [0, 3]) (sps := [⟨[], [2], [3], [.cell 4 0]⟩]) (es' := [(_, _), (4, .box 4 [.v (.bool true)])]) (by kernel_rfl) rfl rfl
    ⟨st_plain rfl (op_store _ _ _ _ _ _ _ _ sz4 rfl rfl rfl rfl (Nat.le_of_ble_eq_true rfl) rfl rfl),
    trivial⟩ ?_
   refine pt_then ?_
   refine ht_ret ?_
   refine pt_pick [1] (by kernel_rfl) (es' := [(_, _)]) rfl ?_
   obtain rfl := Option.some.inj h
   exact pt_ret hio rfl (.cell1 _ _ _ _ Tryd.underlying4 rfl .nil) rfl rfl
  ·rintro D ⟨⟩ h
   refine pt_pick [2] (by kernel_rfl) (es' := [(_, _)]) rfl ?_
   refine pt_r_in ?_
   refine pt_r_then ?_
   obtain rfl := Option.some.inj h
   exact pt_ret hio rfl (.cell1 _ _ _ _ Tryd.underlying4 rfl .nil) rfl rfl
set_option maxHeartbeats 1000000 in
theorem ok_path_local (mx : Int) (s : ByteArray) (r : Bool) (h : Sh.path_local s = some r) : FnG Tryd.prog (GL mx) 44 [.v (.string s)] (.v (.bool r)) := by
  unfold Sh.path_local at h
  refine fn_okG Tryd.func44 rfl (Nat.le_of_ble_eq_true rfl) rfl rfl fun g0 hn hio => ?_
  refine ht_seq ?_
  refine ht_seqR hn (El := [_, _, (2, .v (.bool false))]) (init := [0, 1]) (fin := [0, 1]) (sps := [⟨[], [], [2], [(.slot 2)]⟩]) (es' := [(_, _), (_, _)]) (by kernel_rfl) rfl rfl
   ⟨st_plain rfl (op_assign _ _ _ _ rfl rfl),
   trivial⟩ ?_
  refine pt_then ?_
  refine ht_seq ?_
  refine ht_joinS h (fun (s2 : Bool) => [(10, .glob (GL mx)), (2, .v (.bool s2))]) ?_ ?_
  ·rintro s2 h
   refine pt_then ?_
   refine ht_ret ?_
   refine pt_pick [1] (by kernel_rfl) (es' := [(_, _)]) rfl ?_
   obtain rfl := Option.some.inj h
   exact pt_ret hio rfl (.tmp _ _ .nil) rfl rfl
  ·intro u3 h hl4 hr5
   refine cond_some h (fun hg1_3 h => ?_) (fun hg1_3 h => ?_)
   ·obtain ⟨v1, hv1, h⟩ := bind_some h
    refine ht_seqR hn (El := [_, _, (3, .v (.string s)), (4, .v (.int .i64 (s.size : Int))), (5, .v (.bool ((decide ((s.size : Int) ≤ 64))))), (6, .v (.bool true)), (7, .v (.string s)), (8, .v (.bool v1)), (9, .v (.bool v1)), (2, .v (.bool v1))]) (init := [0, 1]) (fin := [1, 9]) (sps := [⟨[0], [], [2], [(.slot 3)]⟩, ⟨[2], [], [3], [(.slot 4)]⟩, ⟨[3], [], [4], [(.slot 5)]⟩, ⟨[4], [], [5], [(.slot 6)]⟩, ⟨[5, 0], [], [6], [(.slot 7)]⟩, ⟨[5, 6, 1], [], [7], [(.slot 8)]⟩, ⟨[5, 7], [], [8], [(.slot 9)]⟩, ⟨[8], [], [9], [(.slot 2)]⟩]) (es' := [(_, _), (2, .v (.bool v1))]) (by kernel_rfl) rfl rfl
     ⟨st_plain rfl (op_move _ _ _ _ rfl rfl),
     st_plain rfl (op_len_str _ _ _ Tryd.underlying9 rfl),
     st_plain rfl (op_bin _ _ _ _ _ rfl rfl rfl),
     st_plain rfl (op_move _ _ _ _ (congrArg (fun b => AV.v (Value.bool b)) hg1_3) rfl),
     st_run 3 6 true rfl rfl rfl (List.Mem.head _) (op_move _ _ _ _ rfl rfl),
     st_run 3 6 true rfl rfl rfl (List.Mem.head _) (op_callG _ _ 10 39 _ _ rfl Tryd.call39 rfl rfl (fun _ h => h) (ok_path_dotted_of_path_atom mx s _ hv1) rfl rfl),
     st_plain rfl (op_pick _ _ true _ rfl rfl),
     st_plain rfl (op_assign _ _ _ _ rfl rfl),
     trivial⟩ ?_
    exact hl4 _ (Option.some.inj h).symm
   ·refine ht_seqR hn (El := [_, _, (3, .v (.string s)), (4, .v (.int .i64 (s.size : Int))), (5, .v (.bool ((decide ((s.size : Int) ≤ 64))))), (6, .v (.bool false)), (7, .v undef), (8, .v undef), (9, .v (.bool false)), (2, .v (.bool false))]) (init := [0, 1]) (fin := [1, 9]) (sps := [⟨[0], [], [2], [(.slot 3)]⟩, ⟨[2], [], [3], [(.slot 4)]⟩, ⟨[3], [], [4], [(.slot 5)]⟩, ⟨[4], [], [5], [(.slot 6)]⟩, ⟨[5], [], [6], [(.slot 7)]⟩, ⟨[5], [], [7], [(.slot 8)]⟩, ⟨[5], [], [8], [(.slot 9)]⟩, ⟨[8], [], [9], [(.slot 2)]⟩]) (es' := [(_, _), (2, .v (.bool false))]) (by kernel_rfl) rfl rfl
     ⟨st_plain rfl (op_move _ _ _ _ rfl rfl),
     st_plain rfl (op_len_str _ _ _ Tryd.underlying9 rfl),
     st_plain rfl (op_bin _ _ _ _ _ rfl rfl rfl),
     st_plain rfl (op_move _ _ _ _ (congrArg (fun b => AV.v (Value.bool b)) hg1_3) rfl),
     st_skip 3 6 _ true rfl rfl rfl rfl (List.Mem.head _),
     st_skip 3 6 _ true rfl rfl rfl rfl (List.Mem.head _),
     st_plain rfl (op_pick _ _ false _ rfl rfl),
     st_plain rfl (op_assign _ _ _ _ rfl rfl),
     trivial⟩ ?_
    exact hl4 _ (Option.some.inj h).symm
set_option maxHeartbeats 1000000 in
theorem ok_path_Check (mx : Int) (p : T_Path) (r : Int) (h : Sh.path_Check p = some r) : FnG Tryd.prog (GL mx) 36 [.agg [.v (.bool p.Null), .v (.string p.Local), .v (.string p.Domain)]] (.v (.int .i64 r)) := by
  unfold Sh.path_Check at h
  refine fn_okG Tryd.func36 rfl (Nat.le_of_ble_eq_true rfl) rfl rfl fun g0 hn hio => ?_
  refine ht_seq ?_
  refine ht_seqR hn (El := [_, _, (1, .box 23 [.v (.bool p.Null), .v (.string p.Local), .v (.string p.Domain)]), (2, .v (.int .i64 0))]) (init := [0, 1]) (fin := [1, 2]) (sps := [⟨[0], [], [2], [(.slot 1)]⟩, ⟨[], [], [3], [(.slot 2)]⟩]) (es' := [(_, _), (1, .box 23 [.v (.bool p.Null), .v (.string p.Local), .v (.string p.Domain)])]) (by kernel_rfl) rfl rfl
   ⟨st_plain rfl (op_box _ _ _ _ rfl rfl rfl),
   st_plain rfl (op_assign _ _ _ _ rfl rfl),
   trivial⟩ ?_
  refine pt_then ?_
  refine ht_seq ?_
  refine ht_seqR hn (El := [_, _, (5, .agg [.v (.bool p.Null), .v (.string p.Local), .v (.string p.Domain)]), (6, .agg [.v (.bool true), .v (.string (⟨#[]⟩ : ByteArray)), .v (.string (⟨#[]⟩ : ByteArray))]), (7, .v (.bool (((p.Null == true) && ((p.Local.toList == (⟨#[]⟩ : ByteArray).toList) && ((p.Domain.toList == (⟨#[]⟩ : ByteArray).toList) && true)))))), (3, .v (.bool (((p.Null == true) && ((p.Local.toList == (⟨#[]⟩ : ByteArray).toList) && ((p.Domain.toList == (⟨#[]⟩ : ByteArray).toList) && true))))))]) (init := [0, 1]) (fin := [0, 1, 5]) (sps := [⟨[1], [], [2], [(.slot 5)]⟩, ⟨[], [], [3], [(.slot 6)]⟩, ⟨[2, 3], [], [4], [(.slot 7)]⟩, ⟨[4], [], [5], [(.slot 3)]⟩]) (es' := [(_, _), (_, _), (3, .v (.bool (((p.Null == true) && ((p.Local.toList == (⟨#[]⟩ : ByteArray).toList) && ((p.Domain.toList == (⟨#[]⟩ : ByteArray).toList) && true))))))]) (by kernel_rfl) rfl rfl
   ⟨st_plain rfl (op_loadA _ _ _ _ _ _ _ Tryd.underlying23 rfl sz23 rfl rfl (Nat.le_of_ble_eq_true rfl) rfl rfl),
   st_plain rfl (op_build _ _ _ _ [1, 1, 1] _ _ Tryd.underlying23 zr23 (fs23 _ Tryd.underlying23) (.copy _ Src.nil) rfl rfl rfl),
   st_plain rfl (op_eq_st _ _ [.bool p.Null, .string p.Local, .string p.Domain] [.bool true, .string (⟨#[]⟩ : ByteArray), .string (⟨#[]⟩ : ByteArray)] (((p.Null == true) && ((p.Local.toList == (⟨#[]⟩ : ByteArray).toList) && ((p.Domain.toList == (⟨#[]⟩ : ByteArray).toList) && true)))) _ false (by kernel_rfl) (by kernel_rfl) (by kernel_rfl) (by kernel_rfl) (by kernel_rfl) rfl rfl rfl rfl (by kernel_rfl) rfl),
   st_plain rfl (op_assign _ _ _ _ rfl rfl),
   trivial⟩ ?_
  refine pt_then ?_
  refine ht_seq ?_
  refine ht_joinS h (fun (s3 : Bool) => [(27, .glob (GL mx)), (3, .v (.bool (((p.Null == true) && ((p.Local.toList == (⟨#[]⟩ : ByteArray).toList) && ((p.Domain.toList == (⟨#[]⟩ : ByteArray).toList) && true)))))), (4, .v (.bool s3))]) ?_ ?_
  ·rintro s3 h
   refine pt_then ?_
   refine ht_seq ?_
   refine ht_seq ?_
   refine ht_joinS h (fun (s7 : Bool) => [(27, .glob (GL mx)), (26, .v (.bool s7))]) ?_ ?_
   ·rintro s7 h
    refine pt_then ?_
    refine ht_cond _ rfl (fun hb11 => ?_) (fun hb11 => ?_)
    ·have h := cond_t hb11 h
     refine ht_seq ?_
     refine ht_seqR hn (El := [_, _, (2, .v (.int .i64 5))]) (init := [0, 1]) (fin := [0, 2]) (sps := [⟨[], [], [2], [(.slot 2)]⟩]) (es' := [(_, _), (2, .v (.int .i64 5))]) (by kernel_rfl) rfl rfl
      ⟨st_plain rfl (op_assign _ _ _ _ rfl rfl),
      trivial⟩ ?_
     refine pt_then ?_
     refine ht_ret ?_
     refine pt_pick [1] (by kernel_rfl) (es' := [(_, _)]) rfl ?_
     refine pt_r_then ?_
     obtain rfl := Option.some.inj h
     exact pt_ret hio rfl (.tmp _ _ .nil) rfl rfl
    ·have h := cond_f hb11 h
     refine ht_skip ?_
     refine pt_then ?_
     refine ht_seq ?_
     refine ht_seqR hn (El := [_, _, (2, .v (.int .i64 0))]) (init := [0, 1]) (fin := [0, 2]) (sps := [⟨[], [], [2], [(.slot 2)]⟩]) (es' := [(_, _), (2, .v (.int .i64 0))]) (by kernel_rfl) rfl rfl
      ⟨st_plain rfl (op_assign _ _ _ _ rfl rfl),
      trivial⟩ ?_
     refine pt_then ?_
     refine ht_ret ?_
     refine pt_pick [1] (by kernel_rfl) (es' := [(_, _)]) rfl ?_
     obtain rfl := Option.some.inj h
     exact pt_ret hio rfl (.tmp _ _ .nil) rfl rfl
   ·intro u8 h hl9 hr10
    refine cond_some h (fun hg3_2 h => ?_) (fun hg3_2 h => ?_)
    ·refine ht_seqR hn (El := [_, _, _, (21, .v (.bool (((p.Null == true) && ((p.Local.toList == (⟨#[]⟩ : ByteArray).toList) && ((p.Domain.toList == (⟨#[]⟩ : ByteArray).toList) && true)))))), (22, .v (.bool ((!(((p.Null == true) && ((p.Local.toList == (⟨#[]⟩ : ByteArray).toList) && ((p.Domain.toList == (⟨#[]⟩ : ByteArray).toList) && true)))))))), (23, .v (.bool true)), (24, .v (.bool s3)), (25, .v (.bool (!s3))), (26, .v (.bool (!s3)))]) (init := [0, 1, 2]) (fin := [0, 8]) (sps := [⟨[1], [], [3], [(.slot 21)]⟩, ⟨[3], [], [4], [(.slot 22)]⟩, ⟨[4], [], [5], [(.slot 23)]⟩, ⟨[5, 2], [], [6], [(.slot 24)]⟩, ⟨[5, 6], [], [7], [(.slot 25)]⟩, ⟨[5, 7], [], [8], [(.slot 26)]⟩]) (es' := [(_, _), (26, .v (.bool (!s3)))]) (by kernel_rfl) rfl rfl
      ⟨st_plain rfl (op_move _ _ _ _ rfl rfl),
      st_plain rfl (op_un _ _ _ _ rfl rfl),
      st_plain rfl (op_move _ _ _ _ (congrArg (fun b => AV.v (Value.bool b)) hg3_2) rfl),
      st_run 2 23 true rfl rfl rfl (List.Mem.head _) (op_move _ _ _ _ rfl rfl),
      st_run 2 23 true rfl rfl rfl (List.Mem.head _) (op_un _ _ _ _ rfl rfl),
      st_plain rfl (op_pick _ _ true _ rfl rfl),
      trivial⟩ ?_
     exact hl9 _ (Option.some.inj h).symm
    ·refine ht_seqR hn (El := [_, _, _, (21, .v (.bool (((p.Null == true) && ((p.Local.toList == (⟨#[]⟩ : ByteArray).toList) && ((p.Domain.toList == (⟨#[]⟩ : ByteArray).toList) && true)))))), (22, .v (.bool ((!(((p.Null == true) && ((p.Local.toList == (⟨#[]⟩ : ByteArray).toList) && ((p.Domain.toList == (⟨#[]⟩ : ByteArray).toList) && true)))))))), (23, .v (.bool false)), (24, .v undef), (25, .v undef), (26, .v (.bool false))]) (init := [0, 1, 2]) (fin := [0, 8]) (sps := [⟨[1], [], [3], [(.slot 21)]⟩, ⟨[3], [], [4], [(.slot 22)]⟩, ⟨[4], [], [5], [(.slot 23)]⟩, ⟨[5], [], [6], [(.slot 24)]⟩, ⟨[5], [], [7], [(.slot 25)]⟩, ⟨[5], [], [8], [(.slot 26)]⟩]) (es' := [(_, _), (26, .v (.bool false))]) (by kernel_rfl) rfl rfl
      ⟨st_plain rfl (op_move _ _ _ _ rfl rfl),
      st_plain rfl (op_un _ _ _ _ rfl rfl),
      st_plain rfl (op_move _ _ _ _ (congrArg (fun b => AV.v (Value.bool b)) hg3_2) rfl),
      st_skip 2 23 _ true rfl rfl rfl rfl (List.Mem.head _),
      st_skip 2 23 _ true rfl rfl rfl rfl (List.Mem.head _),
      st_plain rfl (op_pick _ _ false _ rfl rfl),
      trivial⟩ ?_
     exact hl9 _ (Option.some.inj h).symm
  ·intro u4 h hl5 hr6
   refine cond_some h (fun hg2_3 h => ?_) (fun hg2_3 h => ?_)
   ·obtain ⟨v1, hv1, h⟩ := bind_some h
    refine cond_some h (fun hg2_8 h => ?_) (fun hg2_8 h => ?_)
    ·obtain ⟨v2, hv2, h⟩ := bind_some h
     refine ht_seqR hn (El := (_ :: _ :: _ :: (8, .ptr 1 0) :: (9, .v (.bool p.Null)) :: (10, .v (.bool (!p.Null))) :: (11, .v (.bool true)) :: (12, .ptr 1 1) :: (13, .v (.string p.Local)) :: (14, .v (.bool v1)) :: (15, .v (.bool v1)) :: (16, .v (.bool true)) :: (17, .ptr 1 2) :: (18, .v (.string p.Domain)) :: (19, .v (.bool v2)) :: (20, .v (.bool v2)) :: (4, .v (.bool v2)) :: [])) (init := [0, 1, 2]) (fin := [0, 2, 16]) (sps := [⟨[1], [], [3], [(.slot 8)]⟩, ⟨[3, 1], [], [4], [(.slot 9)]⟩, ⟨[4], [], [5], [(.slot 10)]⟩, ⟨[5], [], [6], [(.slot 11)]⟩, ⟨[6, 1], [], [7], [(.slot 12)]⟩, ⟨[6, 7, 1], [], [8], [(.slot 13)]⟩, ⟨[6, 8, 0], [], [9], [(.slot 14)]⟩, ⟨[6, 9], [], [10], [(.slot 15)]⟩, ⟨[10], [], [11], [(.slot 16)]⟩, ⟨[11, 1], [], [12], [(.slot 17)]⟩, ⟨[11, 12, 1], [], [13], [(.slot 18)]⟩, ⟨[11, 13, 0], [], [14], [(.slot 19)]⟩, ⟨[11, 14], [], [15], [(.slot 20)]⟩, ⟨[15], [], [16], [(.slot 4)]⟩]) (es' := [(_, _), (_, _), (4, .v (.bool v2))]) (by kernel_rfl) rfl rfl
      ⟨st_plain rfl (op_fieldAddr _ _ _ _ 1 0 _ Tryd.underlying23 rfl sz4 rfl rfl (by decide)),
      st_plain rfl (op_load _ _ _ _ _ _ Tryd.underlying4 rfl rfl rfl (Nat.le_of_ble_eq_true rfl) rfl rfl rfl),
      st_plain rfl (op_un _ _ _ _ rfl rfl),
      st_plain rfl (op_move _ _ _ _ (congrArg (fun b => AV.v (Value.bool b)) hg2_3) rfl),
      st_run 3 11 true rfl rfl rfl (List.Mem.head _) (op_fieldAddr _ _ _ _ 1 0 _ Tryd.underlying23 rfl sz9 rfl rfl (by decide)),
      st_run 3 11 true rfl rfl rfl (List.Mem.head _) (op_load _ _ _ _ _ _ Tryd.underlying9 rfl rfl rfl (Nat.le_of_ble_eq_true rfl) rfl rfl rfl),
      st_run 3 11 true rfl rfl rfl (List.Mem.head _) (op_callG _ _ 27 44 _ _ rfl Tryd.call44 rfl rfl (fun _ h => h) (ok_path_local mx p.Local _ hv1) rfl rfl),
      st_plain rfl (op_pick _ _ true _ rfl rfl),
      st_plain rfl (op_move _ _ _ _ (congrArg (fun b => AV.v (Value.bool b)) hg2_8) rfl),
      st_run 8 16 true rfl rfl rfl (List.Mem.head _) (op_fieldAddr _ _ _ _ 1 0 _ Tryd.underlying23 rfl sz9 rfl rfl (by decide)),
      st_run 8 16 true rfl rfl rfl (List.Mem.head _) (op_load _ _ _ _ _ _ Tryd.underlying9 rfl rfl rfl (Nat.le_of_ble_eq_true rfl) rfl rfl rfl),
      st_run 8 16 true rfl rfl rfl (List.Mem.head _) (op_callG _ _ 27 34 _ _ rfl Tryd.call34 rfl rfl (fun _ h => h) (ok_path_Domain mx p.Domain _ hv2) rfl rfl),
      st_plain rfl (op_pick _ _ true _ rfl rfl),
      st_plain rfl (op_assign _ _ _ _ rfl rfl),
      trivial⟩ ?_
     exact hl5 _ (Option.some.inj h).symm
    ·refine ht_seqR hn (El := (_ :: _ :: _ :: (8, .ptr 1 0) :: (9, .v (.bool p.Null)) :: (10, .v (.bool (!p.Null))) :: (11, .v (.bool true)) :: (12, .ptr 1 1) :: (13, .v (.string p.Local)) :: (14, .v (.bool v1)) :: (15, .v (.bool v1)) :: (16, .v (.bool false)) :: (17, .v undef) :: (18, .v undef) :: (19, .v undef) :: (20, .v (.bool false)) :: (4, .v (.bool false)) :: [])) (init := [0, 1, 2]) (fin := [0, 2, 16]) (sps := [⟨[1], [], [3], [(.slot 8)]⟩, ⟨[3, 1], [], [4], [(.slot 9)]⟩, ⟨[4], [], [5], [(.slot 10)]⟩, ⟨[5], [], [6], [(.slot 11)]⟩, ⟨[6, 1], [], [7], [(.slot 12)]⟩, ⟨[6, 7, 1], [], [8], [(.slot 13)]⟩, ⟨[6, 8, 0], [], [9], [(.slot 14)]⟩, ⟨[6, 9], [], [10], [(.slot 15)]⟩, ⟨[10], [], [11], [(.slot 16)]⟩, ⟨[11], [], [12], [(.slot 17)]⟩, ⟨[11], [], [13], [(.slot 18)]⟩, ⟨[11], [], [14], [(.slot 19)]⟩, ⟨[11], [], [15], [(.slot 20)]⟩, ⟨[15], [], [16], [(.slot 4)]⟩]) (es' := [(_, _), (_, _), (4, .v (.bool false))]) (by kernel_rfl) rfl rfl
      ⟨st_plain rfl (op_fieldAddr _ _ _ _ 1 0 _ Tryd.underlying23 rfl sz4 rfl rfl (by decide)),
      st_plain rfl (op_load _ _ _ _ _ _ Tryd.underlying4 rfl rfl rfl (Nat.le_of_ble_eq_true rfl) rfl rfl rfl),
      st_plain rfl (op_un _ _ _ _ rfl rfl),
      st_plain rfl (op_move _ _ _ _ (congrArg (fun b => AV.v (Value.bool b)) hg2_3) rfl),
      st_run 3 11 true rfl rfl rfl (List.Mem.head _) (op_fieldAddr _ _ _ _ 1 0 _ Tryd.underlying23 rfl sz9 rfl rfl (by decide)),
      st_run 3 11 true rfl rfl rfl (List.Mem.head _) (op_load _ _ _ _ _ _ Tryd.underlying9 rfl rfl rfl (Nat.le_of_ble_eq_true rfl) rfl rfl rfl),
      st_run 3 11 true rfl rfl rfl (List.Mem.head _) (op_callG _ _ 27 44 _ _ rfl Tryd.call44 rfl rfl (fun _ h => h) (ok_path_local mx p.Local _ hv1) rfl rfl),
      st_plain rfl (op_pick _ _ true _ rfl rfl),
      st_plain rfl (op_move _ _ _ _ (congrArg (fun b => AV.v (Value.bool b)) hg2_8) rfl),
      st_skip 8 16 _ true rfl rfl rfl rfl (List.Mem.head _),
      st_skip 8 16 _ true rfl rfl rfl rfl (List.Mem.head _),
      st_skip 8 16 _ true rfl rfl rfl rfl (List.Mem.head _),
      st_plain rfl (op_pick _ _ false _ rfl rfl),
      st_plain rfl (op_assign _ _ _ _ rfl rfl),
      trivial⟩ ?_
     exact hl5 _ (Option.some.inj h).symm
   ·refine ht_seqR hn (El := (_ :: _ :: _ :: (8, .ptr 1 0) :: (9, .v (.bool p.Null)) :: (10, .v (.bool (!p.Null))) :: (11, .v (.bool false)) :: (12, .v undef) :: (13, .v undef) :: (14, .v undef) :: (15, .v (.bool false)) :: (16, .v (.bool false)) :: (17, .v undef) :: (18, .v undef) :: (19, .v undef) :: (20, .v (.bool false)) :: (4, .v (.bool false)) :: [])) (init := [0, 1, 2]) (fin := [0, 2, 16]) (sps := [⟨[1], [], [3], [(.slot 8)]⟩, ⟨[3, 1], [], [4], [(.slot 9)]⟩, ⟨[4], [], [5], [(.slot 10)]⟩, ⟨[5], [], [6], [(.slot 11)]⟩, ⟨[6], [], [7], [(.slot 12)]⟩, ⟨[6], [], [8], [(.slot 13)]⟩, ⟨[6], [], [9], [(.slot 14)]⟩, ⟨[6], [], [10], [(.slot 15)]⟩, ⟨[10], [], [11], [(.slot 16)]⟩, ⟨[11], [], [12], [(.slot 17)]⟩, ⟨[11], [], [13], [(.slot 18)]⟩, ⟨[11], [], [14], [(.slot 19)]⟩, ⟨[11], [], [15], [(.slot 20)]⟩, ⟨[15], [], [16], [(.slot 4)]⟩]) (es' := [(_, _), (_, _), (4, .v (.bool false))]) (by kernel_rfl) rfl rfl
     ⟨st_plain rfl (op_fieldAddr _ _ _ _ 1 0 _ Tryd.underlying23 rfl sz4 rfl rfl (by decide)),
     st_plain rfl (op_load _ _ _ _ _ _ Tryd.underlying4 rfl rfl rfl (Nat.le_of_ble_eq_true rfl) rfl rfl rfl),
     st_plain rfl (op_un _ _ _ _ rfl rfl),
     st_plain rfl (op_move _ _ _ _ (congrArg (fun b => AV.v (Value.bool b)) hg2_3) rfl),
     st_skip 3 11 _ true rfl rfl rfl rfl (List.Mem.head _),
     st_skip 3 11 _ true rfl rfl rfl rfl (List.Mem.head _),
     st_skip 3 11 _ true rfl rfl rfl rfl (List.Mem.head _),
     st_plain rfl (op_pick _ _ false _ rfl rfl),
     st_plain rfl (op_move _ _ _ _ rfl rfl),
     st_skip 8 16 _ true rfl rfl rfl rfl (List.Mem.head _),
     st_skip 8 16 _ true rfl rfl rfl rfl (List.Mem.head _),
     st_skip 8 16 _ true rfl rfl rfl rfl (List.Mem.head _),
     st_plain rfl (op_pick _ _ false _ rfl rfl),
     st_plain rfl (op_assign _ _ _ _ rfl rfl),
     trivial⟩ ?_
    exact hl5 _ (Option.some.inj h).symm
set_option maxHeartbeats 1000000 in
theorem ok_path_Parse (mx : Int) (s : ByteArray) (r : (T_Path × Int)) (h : Sh.path_Parse s = some r) : FnG Tryd.prog (GL mx) 42 [.v (.string s)] (.tup [.agg [.v (.bool r.1.Null), .v (.string r.1.Local), .v (.string r.1.Domain)], .v (.int .i64 r.2)]) := by
  unfold Sh.path_Parse at h
  refine fn_okG Tryd.func42 rfl (Nat.le_of_ble_eq_true rfl) rfl rfl fun g0 hn hio => ?_
  refine ht_seq ?_
  refine ht_seqR hn (El := [_, _, (2, .box 23 [.v (.bool false), .v (.string (⟨#[]⟩ : ByteArray)), .v (.string (⟨#[]⟩ : ByteArray))]), (3, .v (.int .i64 0))]) (init := [0, 1]) (fin := [0, 1, 2]) (sps := [⟨[], [], [2], [(.slot 2)]⟩, ⟨[], [], [3], [(.slot 3)]⟩]) (es' := [(_, _), (_, _), (2, .box 23 [.v (.bool false), .v (.string (⟨#[]⟩ : ByteArray)), .v (.string (⟨#[]⟩ : ByteArray))])]) (by kernel_rfl) rfl rfl
   ⟨st_plain rfl (op_alloc _ _ zr23),
   st_plain rfl (op_assign _ _ _ _ rfl rfl),
   trivial⟩ ?_
  refine pt_then ?_
  refine ht_seq ?_
  refine ht_seq ?_
  refine ht_seqR hn (El := [_, _, _, (11, .v (.string s)), (12, .v (.bool ((s.toList == (⟨#[60, 62]⟩ : ByteArray).toList))))]) (init := [0, 1, 2]) (fin := [0, 1, 2, 4]) (sps := [⟨[0], [], [3], [(.slot 11)]⟩, ⟨[3], [], [4], [(.slot 12)]⟩]) (es' := [(_, _), (_, _), (_, _), (12, .v (.bool ((s.toList == (⟨#[60, 62]⟩ : ByteArray).toList))))]) (by kernel_rfl) rfl rfl
   ⟨st_plain rfl (op_move _ _ _ _ rfl rfl),
   st_plain rfl (op_bin _ _ _ _ _ rfl rfl rfl),
   trivial⟩ ?_
  refine pt_then ?_
  refine ht_cond _ rfl (fun hb1 => ?_) (fun hb1 => ?_)
  ·have h := cond_t hb1 h
   refine ht_seq ?_
   refine ht_seqR hn (El := [_, _, _, _, (13, .agg [.v (.bool true), .v (.string (⟨#[]⟩ : ByteArray)), .v (.string (⟨#[]⟩ : ByteArray))]), (2, .box 23 [.v (.bool true), .v (.string (⟨#[]⟩ : ByteArray)), .v (.string (⟨#[]⟩ : ByteArray))]), (3, .v (.int .i64 0))]) (init := [0, 1, 2, 3]) (fin := [1, 5, 6]) (sps := [⟨[], [], [4], [(.slot 13)]⟩, ⟨[4], [2], [5], [.cell 2 0, .cell 2 1, .cell 2 2]⟩, ⟨[], [], [6], [(.slot 3)]⟩]) (es' := [(_, _), (2, .box 23 [.v (.bool true), .v (.string (⟨#[]⟩ : ByteArray)), .v (.string (⟨#[]⟩ : ByteArray))]), (3, .v (.int .i64 0))]) (by kernel_rfl) rfl rfl
    ⟨st_plain rfl (op_build _ _ _ _ [1, 1, 1] _ _ Tryd.underlying23 zr23 (fs23 _ Tryd.underlying23) (.copy _ Src.nil) rfl rfl rfl),
    st_plain rfl (op_store _ _ _ _ _ _ _ _ sz23 rfl rfl rfl rfl (Nat.le_of_ble_eq_true rfl) rfl rfl),
    st_plain rfl (op_assign _ _ _ _ rfl rfl),
    trivial⟩ ?_
   refine pt_then ?_
   refine ht_ret ?_
   refine pt_pick [1, 2] (by kernel_rfl) (es' := [(_, _), (_, _)]) rfl ?_
   refine pt_r_then ?_
   obtain rfl := Option.some.inj h
   exact pt_ret hio rfl (.cellA _ _ _ _ Tryd.underlying23 rfl sz23 (.tmp _ _ .nil)) rfl rfl
  ·have h := cond_f hb1 h
   refine ht_skip ?_
   refine pt_then ?_
   refine ht_seq ?_
   obtain ⟨v2, hv2, h⟩ := bind_some h
   refine ht_seqR hn (El := [_, _, _, _, (15, .v (.string s)), (16, .tup [.v (.string v2.1), .v (.bool v2.2)]), (14, .tup [.v (.string v2.1), .v (.bool v2.2)]), (17, .v (.string v2.1)), (18, .v (.bool v2.2)), (4, .v (.string v2.1)), (5, .v (.bool v2.2))]) (init := [0, 1, 2, 3]) (fin := [1, 2, 9, 10]) (sps := [⟨[0], [], [4], [(.slot 15)]⟩, ⟨[4], [], [5], [(.slot 16)]⟩, ⟨[], [5], [6], [(.slot 14)]⟩, ⟨[6], [], [7], [(.slot 17)]⟩, ⟨[6], [], [8], [(.slot 18)]⟩, ⟨[7], [], [9], [(.slot 4)]⟩, ⟨[8], [], [10], [(.slot 5)]⟩]) (es' := [(_, _), (_, _), (4, .v (.string v2.1)), (5, .v (.bool v2.2))]) (by kernel_rfl) rfl rfl
    ⟨st_plain rfl (op_move _ _ _ _ rfl rfl),
    st_plain rfl (op_call _ _ 51 _ _ rfl Tryd.call51 rfl (ok_strings_CutPrefix s (⟨#[60]⟩ : ByteArray) _ hv2) rfl rfl),
    st_plain rfl (op_move_take _ _ _ _ rfl),
    st_plain rfl (op_extract _ _ _ _ _ rfl rfl (Nat.le_of_ble_eq_true rfl) rfl rfl),
    st_plain rfl (op_extract _ _ _ _ _ rfl rfl (Nat.le_of_ble_eq_true rfl) rfl rfl),
    st_plain rfl (op_assign _ _ _ _ rfl rfl),
    st_plain rfl (op_assign _ _ _ _ rfl rfl),
    trivial⟩ ?_
   refine pt_then ?_
   refine ht_seq ?_
   obtain ⟨v3, hv3, h⟩ := bind_some h
   refine ht_seqR hn (El := [_, _, _, _, (20, .v (.string v2.1)), (21, .tup [.v (.string v3.1), .v (.bool v3.2)]), (19, .tup [.v (.string v3.1), .v (.bool v3.2)]), (22, .v (.string v3.1)), (23, .v (.bool v3.2)), (4, .v (.string v3.1)), (6, .v (.bool v3.2))]) (init := [0, 1, 2, 3]) (fin := [0, 1, 3, 9, 10]) (sps := [⟨[2], [], [4], [(.slot 20)]⟩, ⟨[4], [], [5], [(.slot 21)]⟩, ⟨[], [5], [6], [(.slot 19)]⟩, ⟨[6], [], [7], [(.slot 22)]⟩, ⟨[6], [], [8], [(.slot 23)]⟩, ⟨[7], [2], [9], [(.slot 4)]⟩, ⟨[8], [], [10], [(.slot 6)]⟩]) (es' := [(_, _), (_, _), (_, _), (4, .v (.string v3.1)), (6, .v (.bool v3.2))]) (by kernel_rfl) rfl rfl
    ⟨st_plain rfl (op_move _ _ _ _ rfl rfl),
    st_plain rfl (op_call _ _ 52 _ _ rfl Tryd.call52 rfl (ok_strings_CutSuffix v2.1 (⟨#[62]⟩ : ByteArray) _ hv3) rfl rfl),
    st_plain rfl (op_move_take _ _ _ _ rfl),
    st_plain rfl (op_extract _ _ _ _ _ rfl rfl (Nat.le_of_ble_eq_true rfl) rfl rfl),
    st_plain rfl (op_extract _ _ _ _ _ rfl rfl (Nat.le_of_ble_eq_true rfl) rfl rfl),
    st_plain rfl (LOp.drop [_] (op_assign _ _ _ _ rfl rfl)),
    st_plain rfl (op_assign _ _ _ _ rfl rfl),
    trivial⟩ ?_
   refine pt_then ?_
   refine ht_seq ?_
   obtain ⟨v4, hv4, h⟩ := bind_some h
   refine ht_seqR hn (El := [_, _, _, _, _, (25, .v (.string v3.1)), (26, .tup [.v (.string v4.1), .v (.string v4.2.1), .v (.bool v4.2.2)]), (24, .tup [.v (.string v4.1), .v (.string v4.2.1), .v (.bool v4.2.2)]), (27, .v (.string v4.1)), (28, .v (.string v4.2.1)), (29, .v (.bool v4.2.2)), (7, .v (.string v4.1)), (8, .v (.string v4.2.1)), (9, .v (.bool v4.2.2))]) (init := [0, 1, 2, 3, 4]) (fin := [0, 1, 2, 4, 11, 12, 13]) (sps := [⟨[3], [], [5], [(.slot 25)]⟩, ⟨[5], [], [6], [(.slot 26)]⟩, ⟨[], [6], [7], [(.slot 24)]⟩, ⟨[7], [], [8], [(.slot 27)]⟩, ⟨[7], [], [9], [(.slot 28)]⟩, ⟨[7], [], [10], [(.slot 29)]⟩, ⟨[8], [], [11], [(.slot 7)]⟩, ⟨[9], [], [12], [(.slot 8)]⟩, ⟨[10], [], [13], [(.slot 9)]⟩]) (es' := [(_, _), (_, _), (_, _), (_, _), (7, .v (.string v4.1)), (8, .v (.string v4.2.1)), (9, .v (.bool v4.2.2))]) (by kernel_rfl) rfl rfl
    ⟨st_plain rfl (op_move _ _ _ _ rfl rfl),
    st_plain rfl (op_call _ _ 30 _ _ rfl Tryd.call30 rfl (ok_strings_Cut v3.1 (⟨#[64]⟩ : ByteArray) _ hv4) rfl rfl),
    st_plain rfl (op_move_take _ _ _ _ rfl),
    st_plain rfl (op_extract _ _ _ _ _ rfl rfl (Nat.le_of_ble_eq_true rfl) rfl rfl),
    st_plain rfl (op_extract _ _ _ _ _ rfl rfl (Nat.le_of_ble_eq_true rfl) rfl rfl),
    st_plain rfl (op_extract _ _ _ _ _ rfl rfl (Nat.le_of_ble_eq_true rfl) rfl rfl),
    st_plain rfl (op_assign _ _ _ _ rfl rfl),
    st_plain rfl (op_assign _ _ _ _ rfl rfl),
    st_plain rfl (op_assign _ _ _ _ rfl rfl),
    trivial⟩ ?_
   refine pt_then ?_
   refine ht_seq ?_
   refine ht_seqR hn (El := [_, _, _, _, _, _, _, (30, .v (.string v4.1)), (31, .v (.string v4.2.1)), (32, .agg [.v (.bool false), .v (.string v4.1), .v (.string v4.2.1)]), (10, .box 23 [.v (.bool false), .v (.string (⟨#[]⟩ : ByteArray)), .v (.string (⟨#[]⟩ : ByteArray))]), (10, .box 23 [.v (.bool false), .v (.string v4.1), .v (.string v4.2.1)])]) (init := [0, 1, 2, 3, 4, 5, 6]) (fin := [0, 1, 2, 3, 6, 11]) (sps := [⟨[4], [], [7], [(.slot 30)]⟩, ⟨[5], [], [8], [(.slot 31)]⟩, ⟨[7, 8], [], [9], [(.slot 32)]⟩, ⟨[], [], [10], [(.slot 10)]⟩, ⟨[9], [10], [11], [.cell 10 0, .cell 10 1, .cell 10 2]⟩]) (es' := [(_, _), (_, _), (_, _), (_, _), (_, _), (10, .box 23 [.v (.bool false), .v (.string v4.1), .v (.string v4.2.1)])]) (by kernel_rfl) rfl rfl
    ⟨st_plain rfl (op_move _ _ _ _ rfl rfl),
    st_plain rfl (op_move _ _ _ _ rfl rfl),
    st_plain rfl (op_build _ _ _ _ [1, 1, 1] _ _ Tryd.underlying23 zr23 (fs23 _ Tryd.underlying23) (.copy _ (.copy _ Src.nil)) rfl rfl rfl),
    st_plain rfl (op_alloc _ _ zr23),
    st_plain rfl (op_store _ _ _ _ _ _ _ _ sz23 rfl rfl rfl rfl (Nat.le_of_ble_eq_true rfl) rfl rfl),
    trivial⟩ ?_
   refine pt_then ?_
   refine ht_seq ?_
   refine ht_seq ?_
   refine ht_joinS h (fun (s6 : Bool) => [(50, .glob (GL mx)), (2, .box 23 [.v (.bool false), .v (.string (⟨#[]⟩ : ByteArray)), .v (.string (⟨#[]⟩ : ByteArray))]), (10, .box 23 [.v (.bool false), .v (.string v4.1), .v (.string v4.2.1)]), (47, .v (.bool s6))]) ?_ ?_
   ·rintro s6 h
    refine pt_then ?_
    refine ht_cond _ rfl (fun hb10 => ?_) (fun hb10 => ?_)
    ·have h := cond_t hb10 h
     refine ht_seq ?_
     refine ht_seqR hn (El := [_, _, _, _, (48, .agg [.v (.bool false), .v (.string (⟨#[]⟩ : ByteArray)), .v (.string (⟨#[]⟩ : ByteArray))]), (2, .box 23 [.v (.bool false), .v (.string (⟨#[]⟩ : ByteArray)), .v (.string (⟨#[]⟩ : ByteArray))]), (3, .v (.int .i64 5))]) (init := [0, 1, 2, 3]) (fin := [0, 5, 6]) (sps := [⟨[], [], [4], [(.slot 48)]⟩, ⟨[], [4, 1], [5], [.cell 2 0, .cell 2 1, .cell 2 2]⟩, ⟨[], [], [6], [(.slot 3)]⟩]) (es' := [(_, _), (2, .box 23 [.v (.bool false), .v (.string (⟨#[]⟩ : ByteArray)), .v (.string (⟨#[]⟩ : ByteArray))]), (3, .v (.int .i64 5))]) (by kernel_rfl) rfl rfl
      ⟨st_plain rfl (op_build _ _ _ _ [1, 1, 1] _ _ Tryd.underlying23 zr23 (fs23 _ Tryd.underlying23) Src.nil rfl rfl rfl),
      st_plain rfl (op_store_self _ _ _ 48 2 3 sz23 rfl rfl rfl rfl rfl (.eq _ (.eq _ (.eq _ (.nil _)))) rfl),
      st_plain rfl (op_assign _ _ _ _ rfl rfl),
      trivial⟩ ?_
     refine pt_then ?_
     refine ht_ret ?_
     refine pt_pick [1, 2] (by kernel_rfl) (es' := [(_, _), (_, _)]) rfl ?_
     refine pt_r_then ?_
     obtain rfl := Option.some.inj h
     exact pt_ret hio rfl (.cellA _ _ _ _ Tryd.underlying23 rfl sz23 (.tmp _ _ .nil)) rfl rfl
    ·have h := cond_f hb10 h
     refine ht_skip ?_
     refine pt_then ?_
     refine ht_seq ?_
     refine ht_seqR hn (El := [_, _, _, _, (49, .agg [.v (.bool false), .v (.string v4.1), .v (.string v4.2.1)]), (2, .box 23 [.v (.bool false), .v (.string v4.1), .v (.string v4.2.1)]), (3, .v (.int .i64 0))]) (init := [0, 1, 2, 3]) (fin := [0, 5, 6]) (sps := [⟨[2], [], [4], [(.slot 49)]⟩, ⟨[4], [1], [5], [.cell 2 0, .cell 2 1, .cell 2 2]⟩, ⟨[], [], [6], [(.slot 3)]⟩]) (es' := [(_, _), (2, .box 23 [.v (.bool false), .v (.string v4.1), .v (.string v4.2.1)]), (3, .v (.int .i64 0))]) (by kernel_rfl) rfl rfl
      ⟨st_plain rfl (op_loadA _ _ _ _ _ _ _ Tryd.underlying23 rfl sz23 rfl rfl (Nat.le_of_ble_eq_true rfl) rfl rfl),
      st_plain rfl (op_store _ _ _ _ _ _ _ _ sz23 rfl rfl rfl rfl (Nat.le_of_ble_eq_true rfl) rfl rfl),
      st_plain rfl (op_assign _ _ _ _ rfl rfl),
      trivial⟩ ?_
     refine pt_then ?_
     refine ht_ret ?_
     refine pt_pick [1, 2] (by kernel_rfl) (es' := [(_, _), (_, _)]) rfl ?_
     obtain rfl := Option.some.inj h
     exact pt_ret hio rfl (.cellA _ _ _ _ Tryd.underlying23 rfl sz23 (.tmp _ _ .nil)) rfl rfl
   ·intro u7 h hl8 hr9
    refine cond_some h (fun hg7_2 h => ?_) (fun hg7_2 h => ?_)
    ·refine ht_seqR hn (El := (_ :: _ :: _ :: _ :: _ :: _ :: (33, .v (.bool v2.2)) :: (34, .v (.bool (!v2.2))) :: (35, .v (.bool true)) :: (36, .v undef) :: (37, .v undef) :: (38, .v (.bool true)) :: (39, .v (.bool true)) :: (40, .v undef) :: (41, .v undef) :: (42, .v (.bool true)) :: (43, .v (.bool true)) :: (44, .v undef) :: (45, .v undef) :: (46, .v undef) :: (47, .v (.bool true)) :: [])) (init := [0, 1, 2, 3, 4, 5]) (fin := [0, 1, 5, 20]) (sps := (⟨[2], [], [6], [(.slot 33)]⟩ :: ⟨[6], [], [7], [(.slot 34)]⟩ :: ⟨[7], [], [8], [(.slot 35)]⟩ :: ⟨[8], [], [9], [(.slot 36)]⟩ :: ⟨[8], [], [10], [(.slot 37)]⟩ :: ⟨[8], [], [11], [(.slot 38)]⟩ :: ⟨[11], [], [12], [(.slot 39)]⟩ :: ⟨[12], [], [13], [(.slot 40)]⟩ :: ⟨[12], [], [14], [(.slot 41)]⟩ :: ⟨[12], [], [15], [(.slot 42)]⟩ :: ⟨[15], [], [16], [(.slot 43)]⟩ :: ⟨[16], [], [17], [(.slot 44)]⟩ :: ⟨[16], [], [18], [(.slot 45)]⟩ :: ⟨[16], [], [19], [(.slot 46)]⟩ :: ⟨[16], [], [20], [(.slot 47)]⟩ :: [])) (es' := [(_, _), (_, _), (_, _), (47, .v (.bool true))]) (by kernel_rfl) rfl rfl
      ⟨st_plain rfl (op_move _ _ _ _ rfl rfl),
      st_plain rfl (op_un _ _ _ _ rfl rfl),
      st_plain rfl (op_move _ _ _ _ (congrArg (fun b => AV.v (Value.bool b)) hg7_2) rfl),
      st_skip 2 35 _ false rfl rfl rfl rfl (List.Mem.head _),
      st_skip 2 35 _ false rfl rfl rfl rfl (List.Mem.head _),
      st_plain rfl (op_pick _ _ true _ rfl rfl),
      st_plain rfl (op_move _ _ _ _ rfl rfl),
      st_skip 6 39 _ false rfl rfl rfl rfl (List.Mem.head _),
      st_skip 6 39 _ false rfl rfl rfl rfl (List.Mem.head _),
      st_plain rfl (op_pick _ _ true _ rfl rfl),
      st_plain rfl (op_move _ _ _ _ rfl rfl),
      st_skip 10 43 _ false rfl rfl rfl rfl (List.Mem.head _),
      st_skip 10 43 _ false rfl rfl rfl rfl (List.Mem.head _),
      st_skip 10 43 _ false rfl rfl rfl rfl (List.Mem.head _),
      st_plain rfl (op_pick _ _ true _ rfl rfl),
      trivial⟩ ?_
     exact hl8 _ (Option.some.inj h).symm
    ·refine cond_some h (fun hg7_6 h => ?_) (fun hg7_6 h => ?_)
     ·refine ht_seqR hn (El := (_ :: _ :: _ :: _ :: _ :: _ :: (33, .v (.bool v2.2)) :: (34, .v (.bool (!v2.2))) :: (35, .v (.bool false)) :: (36, .v (.bool v3.2)) :: (37, .v (.bool (!v3.2))) :: (38, .v (.bool (!v3.2))) :: (39, .v (.bool true)) :: (40, .v undef) :: (41, .v undef) :: (42, .v (.bool true)) :: (43, .v (.bool true)) :: (44, .v undef) :: (45, .v undef) :: (46, .v undef) :: (47, .v (.bool true)) :: [])) (init := [0, 1, 2, 3, 4, 5]) (fin := [0, 1, 5, 20]) (sps := (⟨[2], [], [6], [(.slot 33)]⟩ :: ⟨[6], [], [7], [(.slot 34)]⟩ :: ⟨[7], [], [8], [(.slot 35)]⟩ :: ⟨[8, 3], [], [9], [(.slot 36)]⟩ :: ⟨[8, 9], [], [10], [(.slot 37)]⟩ :: ⟨[8, 10], [], [11], [(.slot 38)]⟩ :: ⟨[11], [], [12], [(.slot 39)]⟩ :: ⟨[12], [], [13], [(.slot 40)]⟩ :: ⟨[12], [], [14], [(.slot 41)]⟩ :: ⟨[12], [], [15], [(.slot 42)]⟩ :: ⟨[15], [], [16], [(.slot 43)]⟩ :: ⟨[16], [], [17], [(.slot 44)]⟩ :: ⟨[16], [], [18], [(.slot 45)]⟩ :: ⟨[16], [], [19], [(.slot 46)]⟩ :: ⟨[16], [], [20], [(.slot 47)]⟩ :: [])) (es' := [(_, _), (_, _), (_, _), (47, .v (.bool true))]) (by kernel_rfl) rfl rfl
       ⟨st_plain rfl (op_move _ _ _ _ rfl rfl),
       st_plain rfl (op_un _ _ _ _ rfl rfl),
       st_plain rfl (op_move _ _ _ _ (congrArg (fun b => AV.v (Value.bool b)) hg7_2) rfl),
       st_run 2 35 false rfl rfl rfl (List.Mem.head _) (op_move _ _ _ _ rfl rfl),
       st_run 2 35 false rfl rfl rfl (List.Mem.head _) (op_un _ _ _ _ rfl rfl),
       st_plain rfl (op_pick _ _ false _ rfl rfl),
       st_plain rfl (op_move _ _ _ _ (congrArg (fun b => AV.v (Value.bool b)) hg7_6) rfl),
       st_skip 6 39 _ false rfl rfl rfl rfl (List.Mem.head _),
       st_skip 6 39 _ false rfl rfl rfl rfl (List.Mem.head _),
       st_plain rfl (op_pick _ _ true _ rfl rfl),
       st_plain rfl (op_move _ _ _ _ rfl rfl),
       st_skip 10 43 _ false rfl rfl rfl rfl (List.Mem.head _),
       st_skip 10 43 _ false rfl rfl rfl rfl (List.Mem.head _),
       st_skip 10 43 _ false rfl rfl rfl rfl (List.Mem.head _),
       st_plain rfl (op_pick _ _ true _ rfl rfl),
       trivial⟩ ?_
      exact hl8 _ (Option.some.inj h).symm
     ·refine cond_some h (fun hg7_10 h => ?_) (fun hg7_10 h => ?_)
      ·refine ht_seqR hn (El := (_ :: _ :: _ :: _ :: _ :: _ :: (33, .v (.bool v2.2)) :: (34, .v (.bool (!v2.2))) :: (35, .v (.bool false)) :: (36, .v (.bool v3.2)) :: (37, .v (.bool (!v3.2))) :: (38, .v (.bool (!v3.2))) :: (39, .v (.bool false)) :: (40, .v (.bool v4.2.2)) :: (41, .v (.bool (!v4.2.2))) :: (42, .v (.bool (!v4.2.2))) :: (43, .v (.bool true)) :: (44, .v undef) :: (45, .v undef) :: (46, .v undef) :: (47, .v (.bool true)) :: [])) (init := [0, 1, 2, 3, 4, 5]) (fin := [0, 1, 5, 20]) (sps := (⟨[2], [], [6], [(.slot 33)]⟩ :: ⟨[6], [], [7], [(.slot 34)]⟩ :: ⟨[7], [], [8], [(.slot 35)]⟩ :: ⟨[8, 3], [], [9], [(.slot 36)]⟩ :: ⟨[8, 9], [], [10], [(.slot 37)]⟩ :: ⟨[8, 10], [], [11], [(.slot 38)]⟩ :: ⟨[11], [], [12], [(.slot 39)]⟩ :: ⟨[12, 4], [], [13], [(.slot 40)]⟩ :: ⟨[12, 13], [], [14], [(.slot 41)]⟩ :: ⟨[12, 14], [], [15], [(.slot 42)]⟩ :: ⟨[15], [], [16], [(.slot 43)]⟩ :: ⟨[16], [], [17], [(.slot 44)]⟩ :: ⟨[16], [], [18], [(.slot 45)]⟩ :: ⟨[16], [], [19], [(.slot 46)]⟩ :: ⟨[16], [], [20], [(.slot 47)]⟩ :: [])) (es' := [(_, _), (_, _), (_, _), (47, .v (.bool true))]) (by kernel_rfl) rfl rfl
        ⟨st_plain rfl (op_move _ _ _ _ rfl rfl),
        st_plain rfl (op_un _ _ _ _ rfl rfl),
        st_plain rfl (op_move _ _ _ _ (congrArg (fun b => AV.v (Value.bool b)) hg7_2) rfl),
        st_run 2 35 false rfl rfl rfl (List.Mem.head _) (op_move _ _ _ _ rfl rfl),
        st_run 2 35 false rfl rfl rfl (List.Mem.head _) (op_un _ _ _ _ rfl rfl),
        st_plain rfl (op_pick _ _ false _ rfl rfl),
        st_plain rfl (op_move _ _ _ _ (congrArg (fun b => AV.v (Value.bool b)) hg7_6) rfl),
        st_run 6 39 false rfl rfl rfl (List.Mem.head _) (op_move _ _ _ _ rfl rfl),
        st_run 6 39 false rfl rfl rfl (List.Mem.head _) (op_un _ _ _ _ rfl rfl),
        st_plain rfl (op_pick _ _ false _ rfl rfl),
        st_plain rfl (op_move _ _ _ _ (congrArg (fun b => AV.v (Value.bool b)) hg7_10) rfl),
        st_skip 10 43 _ false rfl rfl rfl rfl (List.Mem.head _),
        st_skip 10 43 _ false rfl rfl rfl rfl (List.Mem.head _),
        st_skip 10 43 _ false rfl rfl rfl rfl (List.Mem.head _),
        st_plain rfl (op_pick _ _ true _ rfl rfl),
        trivial⟩ ?_
       exact hl8 _ (Option.some.inj h).symm
      ·obtain ⟨v5, hv5, h⟩ := bind_some h
       refine ht_seqR hn (El := (_ :: _ :: _ :: _ :: _ :: _ :: (33, .v (.bool v2.2)) :: (34, .v (.bool (!v2.2))) :: (35, .v (.bool false)) :: (36, .v (.bool v3.2)) :: (37, .v (.bool (!v3.2))) :: (38, .v (.bool (!v3.2))) :: (39, .v (.bool false)) :: (40, .v (.bool v4.2.2)) :: (41, .v (.bool (!v4.2.2))) :: (42, .v (.bool (!v4.2.2))) :: (43, .v (.bool false)) :: (44, .agg [.v (.bool false), .v (.string v4.1), .v (.string v4.2.1)]) :: (45, .v (.int .i64 v5)) :: (46, .v (.bool (v5 != 0))) :: (47, .v (.bool (v5 != 0))) :: [])) (init := [0, 1, 2, 3, 4, 5]) (fin := [0, 1, 5, 20]) (sps := (⟨[2], [], [6], [(.slot 33)]⟩ :: ⟨[6], [], [7], [(.slot 34)]⟩ :: ⟨[7], [], [8], [(.slot 35)]⟩ :: ⟨[8, 3], [], [9], [(.slot 36)]⟩ :: ⟨[8, 9], [], [10], [(.slot 37)]⟩ :: ⟨[8, 10], [], [11], [(.slot 38)]⟩ :: ⟨[11], [], [12], [(.slot 39)]⟩ :: ⟨[12, 4], [], [13], [(.slot 40)]⟩ :: ⟨[12, 13], [], [14], [(.slot 41)]⟩ :: ⟨[12, 14], [], [15], [(.slot 42)]⟩ :: ⟨[15], [], [16], [(.slot 43)]⟩ :: ⟨[16, 5], [], [17], [(.slot 44)]⟩ :: ⟨[16, 17, 0], [], [18], [(.slot 45)]⟩ :: ⟨[16, 18], [], [19], [(.slot 46)]⟩ :: ⟨[16, 19], [], [20], [(.slot 47)]⟩ :: [])) (es' := [(_, _), (_, _), (_, _), (47, .v (.bool (v5 != 0)))]) (by kernel_rfl) rfl rfl
        ⟨st_plain rfl (op_move _ _ _ _ rfl rfl),
        st_plain rfl (op_un _ _ _ _ rfl rfl),
        st_plain rfl (op_move _ _ _ _ (congrArg (fun b => AV.v (Value.bool b)) hg7_2) rfl),
        st_run 2 35 false rfl rfl rfl (List.Mem.head _) (op_move _ _ _ _ rfl rfl),
        st_run 2 35 false rfl rfl rfl (List.Mem.head _) (op_un _ _ _ _ rfl rfl),
        st_plain rfl (op_pick _ _ false _ rfl rfl),
        st_plain rfl (op_move _ _ _ _ (congrArg (fun b => AV.v (Value.bool b)) hg7_6) rfl),
        st_run 6 39 false rfl rfl rfl (List.Mem.head _) (op_move _ _ _ _ rfl rfl),
        st_run 6 39 false rfl rfl rfl (List.Mem.head _) (op_un _ _ _ _ rfl rfl),
        st_plain rfl (op_pick _ _ false _ rfl rfl),
        st_plain rfl (op_move _ _ _ _ (congrArg (fun b => AV.v (Value.bool b)) hg7_10) rfl),
        st_run 10 43 false rfl rfl rfl (List.Mem.head _) (op_loadA _ _ _ _ _ _ _ Tryd.underlying23 rfl sz23 rfl rfl (Nat.le_of_ble_eq_true rfl) rfl rfl),
        st_run 10 43 false rfl rfl rfl (List.Mem.head _) (op_callG _ _ 50 36 _ _ rfl Tryd.call36 rfl rfl (fun _ h => h) (ok_path_Check mx (T_Path.mk false v4.1 v4.2.1) _ hv5) rfl rfl),
        st_run 10 43 false rfl rfl rfl (List.Mem.head _) (op_bin _ _ _ _ _ rfl rfl rfl),
        st_plain rfl (op_pick _ _ false _ rfl rfl),
        trivial⟩ ?_
       exact hl8 _ (Option.some.inj h).symm
theorem ok_strconv_Atoi (s : ByteArray) (r : Int × Unit) (h : Sh.strconv_Atoi s = some r) : FnOK Tryd.prog 75 [.v (.string s)] (.tup [.v (.int .i64 r.1), .v .nilIface]) := lib_strconv_Atoi (fun s n w h1 h2 => Tryd.strconv_Atoi s n h1 h2 w) s r h
set_option maxHeartbeats 1000000 in
theorem ok_number_Parse (s : ByteArray) (digits : Int) (r : (Int × Bool)) (h : Sh.number_Parse s digits = some r) : FnOK Tryd.prog 64 [.v (.string s), .v (.int .i64 digits)] (.tup [.v (.int .i64 r.1), .v (.bool r.2)]) := by
  unfold Sh.number_Parse at h
  refine fn_ok Tryd.func64 rfl (Nat.le_of_ble_eq_true rfl) rfl rfl fun g0 hn hio => ?_
  refine ht_seq ?_
  refine ht_seqR hn (El := [_, _, (4, .v (.int .i64 0)), (5, .v (.bool false))]) (init := [0, 1]) (fin := [0, 1]) (sps := [⟨[], [], [2], [(.slot 4)]⟩, ⟨[], [], [3], [(.slot 5)]⟩]) (es' := [(_, _), (_, _)]) (by kernel_rfl) rfl rfl
   ⟨st_plain rfl (op_assign _ _ _ _ rfl rfl),
   st_plain rfl (op_assign _ _ _ _ rfl rfl),
   trivial⟩ ?_
  refine pt_then ?_
  refine ht_seq ?_
  refine ht_seq ?_
  refine ht_joinS h (fun (s3 : Bool) => [(0, .v (.string s)), (26, .v (.bool s3))]) ?_ ?_
  ·rintro s3 h
   refine pt_then ?_
   refine ht_cond _ rfl (fun hb7 => ?_) (fun hb7 => ?_)
   ·have h := cond_t hb7 h
    refine ht_seq ?_
    refine ht_seqR hn (El := [_, _, (4, .v (.int .i64 0)), (5, .v (.bool false))]) (init := [0, 1]) (fin := [2, 3]) (sps := [⟨[], [], [2], [(.slot 4)]⟩, ⟨[], [], [3], [(.slot 5)]⟩]) (es' := [(4, .v (.int .i64 0)), (5, .v (.bool false))]) (by kernel_rfl) rfl rfl
     ⟨st_plain rfl (op_assign _ _ _ _ rfl rfl),
     st_plain rfl (op_assign _ _ _ _ rfl rfl),
     trivial⟩ ?_
    refine pt_then ?_
    refine ht_ret ?_
    refine pt_r_then ?_
    obtain rfl := Option.some.inj h
    exact pt_ret hio rfl (.tmp _ _ (.tmp _ _ .nil)) rfl rfl
   ·have h := cond_f hb7 h
    refine ht_skip ?_
    refine pt_then ?_
    refine ht_seq ?_
    refine ht_seq ?_
    refine ht_seqR hn (El := [_, _, (27, .v (.string s)), (28, .v (.int .i64 (s.size : Int))), (29, .v (.int .i64 0))]) (init := [0, 1]) (fin := [0, 3, 4]) (sps := [⟨[0], [], [2], [(.slot 27)]⟩, ⟨[2], [], [3], [(.slot 28)]⟩, ⟨[], [], [4], [(.slot 29)]⟩]) (es' := [(_, _), (28, .v (.int .i64 (s.size : Int))), (29, .v (.int .i64 0))]) (by kernel_rfl) rfl rfl
     ⟨st_plain rfl (op_move _ _ _ _ rfl rfl),
     st_plain rfl (op_len_str _ _ _ Tryd.underlying9 rfl),
     st_plain rfl (op_move _ _ _ _ rfl rfl),
     trivial⟩ ?_
    refine pt_then ?_
    refine ht_loopS h (fun (s24 : Int) => [(0, .v (.string s)), (28, .v (.int .i64 (s.size : Int))), (29, .v (.int .i64 s24))]) (fun (() : Unit) => [(0, .v (.string s))]) ?_ ?_
    ·rintro ⟨⟩ h
     refine pt_then ?_
     refine ht_seq ?_
     obtain ⟨v43, hv43, h⟩ := bind_some h
     refine ht_seqR hn (El := [_, (44, .v (.string s)), (45, .tup [.v (.int .i64 v43.1), .v (.nilIface)]), (43, .tup [.v (.int .i64 v43.1), .v (.nilIface)]), (46, .v (.int .i64 v43.1)), (47, .v (.nilIface)), (7, .v (.int .i64 v43.1)), (8, .v (.nilIface))]) (init := [0]) (fin := [6, 7]) (sps := [⟨[0], [], [1], [(.slot 44)]⟩, ⟨[1], [], [2], [(.slot 45)]⟩, ⟨[], [2], [3], [(.slot 43)]⟩, ⟨[3], [], [4], [(.slot 46)]⟩, ⟨[3], [], [5], [(.slot 47)]⟩, ⟨[4], [], [6], [(.slot 7)]⟩, ⟨[5], [], [7], [(.slot 8)]⟩]) (es' := [(7, .v (.int .i64 v43.1)), (8, .v (.nilIface))]) (by kernel_rfl) rfl rfl
      ⟨st_plain rfl (op_move _ _ _ _ rfl rfl),
      st_plain rfl (op_call _ _ 75 _ _ rfl Tryd.call75 rfl (ok_strconv_Atoi s _ hv43) rfl rfl),
      st_plain rfl (op_move_take _ _ _ _ rfl),
      st_plain rfl (op_extract _ _ _ _ _ rfl rfl (Nat.le_of_ble_eq_true rfl) rfl rfl),
      st_plain rfl (op_extract _ _ _ _ _ rfl rfl (Nat.le_of_ble_eq_true rfl) rfl rfl),
      st_plain rfl (op_assign _ _ _ _ rfl rfl),
      st_plain rfl (op_assign _ _ _ _ rfl rfl),
      trivial⟩ ?_
     refine pt_then ?_
     refine ht_seq ?_
     refine ht_anyR (by kernel_rfl) hn (El := [_, _, (48, .v (.int .i64 v43.1)), (49, .v (.nilIface)), (50, .v (.bool true)), (4, .v (.int .i64 v43.1)), (5, .v (.bool true))]) (init := [0, 1]) (fin := [5, 6]) (sps := [⟨[0], [], [2], [(.slot 48)]⟩, ⟨[1], [], [3], [(.slot 49)]⟩, ⟨[3], [], [4], [(.slot 50)]⟩, ⟨[2], [], [5], [(.slot 4)]⟩, ⟨[4], [], [6], [(.slot 5)]⟩]) (es' := [(4, .v (.int .i64 v43.1)), (5, .v (.bool true))]) (by kernel_rfl) rfl rfl
      ⟨st_plain rfl (op_move _ _ _ _ rfl rfl),
      st_plain rfl (op_move _ _ _ _ rfl rfl),
      st_plain rfl (op_ifnil _ _ false Tryd.underlying61 rfl),
      st_plain rfl (op_assign _ _ _ _ rfl rfl),
      st_plain rfl (op_assign _ _ _ _ rfl rfl),
      trivial⟩ ?_
     refine pt_then ?_
     refine ht_ret ?_
     obtain rfl := Option.some.inj h
     exact pt_ret hio rfl (.tmp _ _ (.tmp _ _ .nil)) rfl rfl
    ·rintro u31 hl32 hr33 s24 rr36 h ho34
     refine ht_seq ?_
     refine ht_seqR hn (El := [_, _, _, (30, .v (.bool ((decide (s24 < (s.size : Int))))))]) (init := [0, 1, 2]) (fin := [0, 1, 2, 3]) (sps := [⟨[2, 1], [], [3], [(.slot 30)]⟩]) (es' := [(_, _), (_, _), (_, _), (30, .v (.bool ((decide (s24 < (s.size : Int))))))]) (by kernel_rfl) rfl rfl
      ⟨st_plain rfl (op_bin _ _ _ _ _ rfl rfl rfl),
      trivial⟩ ?_
     refine pt_then ?_
     refine ht_seq ?_
     refine ht_cond _ rfl (fun hb37 => ?_) (fun hb37 => ?_)
     ·have h := cond_t hb37 h
      refine ht_skip ?_
      refine pt_then ?_
      refine ht_seq ?_
      refine ht_block ?_
      refine ht_seq ?_
      refine ht_seqR hn (El := [_, _, _, _, (31, .v (.int .i64 s24)), (6, .v (.int .i64 s24))]) (init := [0, 1, 2, 3]) (fin := [0, 1, 2, 5]) (sps := [⟨[2], [], [4], [(.slot 31)]⟩, ⟨[4], [], [5], [(.slot 6)]⟩]) (es' := [(_, _), (_, _), (_, _), (6, .v (.int .i64 s24))]) (by kernel_rfl) rfl rfl
       ⟨st_plain rfl (op_move _ _ _ _ rfl rfl),
       st_plain rfl (op_assign _ _ _ _ rfl rfl),
       trivial⟩ ?_
      refine pt_then ?_
      refine ht_seq ?_
      refine ht_joinS h (fun (s38 : Bool) => [(0, .v (.string s)), (28, .v (.int .i64 (s.size : Int))), (29, .v (.int .i64 s24)), (41, .v (.bool s38))]) ?_ ?_
      ·rintro s38 h
       refine pt_then ?_
       refine ht_cond _ rfl (fun hb42 => ?_) (fun hb42 => ?_)
       ·have h := cond_t hb42 h
        refine ht_seq ?_
        refine ht_seqR hn (El := [_, _, _, _, (4, .v (.int .i64 0)), (5, .v (.bool false))]) (init := [0, 1, 2, 3]) (fin := [4, 5]) (sps := [⟨[], [], [4], [(.slot 4)]⟩, ⟨[], [], [5], [(.slot 5)]⟩]) (es' := [(4, .v (.int .i64 0)), (5, .v (.bool false))]) (by kernel_rfl) rfl rfl
         ⟨st_plain rfl (op_assign _ _ _ _ rfl rfl),
         st_plain rfl (op_assign _ _ _ _ rfl rfl),
         trivial⟩ ?_
        refine pt_then ?_
        refine ht_ret ?_
        refine pt_r_in ?_
        refine pt_r_then ?_
        refine pt_r_then ?_
        refine pt_r_in ?_
        refine pt_r_then ?_
        have h := hr33 _ (ho34 _ (Option.some.inj h).symm).symm
        obtain rfl := Option.some.inj h
        exact pt_ret hio rfl (.tmp _ _ (.tmp _ _ .nil)) rfl rfl
       ·have h := cond_f hb42 h
        refine ht_skip ?_
        refine pt_inb ?_
        refine pt_then ?_
        obtain ⟨v16, hv16, h⟩ := bind_some h
        refine ht_seqR hn (El := [_, _, _, _, (42, .v (.int .i64 v16)), (29, .v (.int .i64 v16))]) (init := [0, 1, 2, 3]) (fin := [0, 1, 5]) (sps := [⟨[2], [], [4], [(.slot 42)]⟩, ⟨[4], [2], [5], [(.slot 29)]⟩]) (es' := [(_, _), (_, _), (29, .v (.int .i64 v16))]) (by kernel_rfl) rfl rfl
         ⟨st_plain rfl (op_bin _ _ _ _ _ rfl rfl (ibind (f := Value.int .i64) (Option.some.inj hv16))),
         st_plain rfl (LOp.drop [_] (op_move _ _ _ _ rfl rfl)),
         trivial⟩ ?_
        exact pt_next _ (Option.some.inj h).symm rfl
      ·intro u39 h hl40 hr41
       obtain ⟨v9, hv9, h⟩ := bind_some h
       refine cond_some h (fun hg6_4 h => ?_) (fun hg6_4 h => ?_)
       ·refine ht_seqR hn (El := [_, _, _, _, (32, .v (.string s)), (33, .v (.int .i64 s24)), (34, .v (.int .u8 v9)), (35, .v (.bool ((decide (v9 < 48))))), (36, .v (.bool true)), (37, .v undef), (38, .v undef), (39, .v undef), (40, .v undef), (41, .v (.bool true))]) (init := [0, 1, 2, 3]) (fin := [0, 1, 2, 13]) (sps := [⟨[0], [], [4], [(.slot 32)]⟩, ⟨[3], [], [5], [(.slot 33)]⟩, ⟨[4, 5], [], [6], [(.slot 34)]⟩, ⟨[6], [], [7], [(.slot 35)]⟩, ⟨[7], [], [8], [(.slot 36)]⟩, ⟨[8], [], [9], [(.slot 37)]⟩, ⟨[8], [], [10], [(.slot 38)]⟩, ⟨[8], [], [11], [(.slot 39)]⟩, ⟨[8], [], [12], [(.slot 40)]⟩, ⟨[8], [], [13], [(.slot 41)]⟩]) (es' := [(_, _), (_, _), (_, _), (41, .v (.bool true))]) (by kernel_rfl) rfl rfl
         ⟨st_plain rfl (op_move _ _ _ _ rfl rfl),
         st_plain rfl (op_move _ _ _ _ rfl rfl),
         st_plain rfl (op_chr _ _ _ s24 _ Tryd.underlying9 rfl rfl hv9),
         st_plain rfl (op_bin _ _ _ _ _ rfl rfl rfl),
         st_plain rfl (op_move _ _ _ _ (congrArg (fun b => AV.v (Value.bool b)) hg6_4) rfl),
         st_skip 4 36 _ false rfl rfl rfl rfl (List.Mem.head _),
         st_skip 4 36 _ false rfl rfl rfl rfl (List.Mem.head _),
         st_skip 4 36 _ false rfl rfl rfl rfl (List.Mem.head _),
         st_skip 4 36 _ false rfl rfl rfl rfl (List.Mem.head _),
         st_plain rfl (op_pick _ _ true _ rfl rfl),
         trivial⟩ ?_
        exact hl40 _ (Option.some.inj h).symm
       ·obtain ⟨v10, hv10, h⟩ := bind_some h
        refine ht_seqR hn (El := [_, _, _, _, (32, .v (.string s)), (33, .v (.int .i64 s24)), (34, .v (.int .u8 v9)), (35, .v (.bool ((decide (v9 < 48))))), (36, .v (.bool false)), (37, .v (.string s)), (38, .v (.int .i64 s24)), (39, .v (.int .u8 v10)), (40, .v (.bool ((decide (57 < v10))))), (41, .v (.bool ((decide (57 < v10)))))]) (init := [0, 1, 2, 3]) (fin := [0, 1, 2, 13]) (sps := [⟨[0], [], [4], [(.slot 32)]⟩, ⟨[3], [], [5], [(.slot 33)]⟩, ⟨[4, 5], [], [6], [(.slot 34)]⟩, ⟨[6], [], [7], [(.slot 35)]⟩, ⟨[7], [], [8], [(.slot 36)]⟩, ⟨[8, 0], [], [9], [(.slot 37)]⟩, ⟨[8, 3], [], [10], [(.slot 38)]⟩, ⟨[8, 9, 10], [], [11], [(.slot 39)]⟩, ⟨[8, 11], [], [12], [(.slot 40)]⟩, ⟨[8, 12], [], [13], [(.slot 41)]⟩]) (es' := [(_, _), (_, _), (_, _), (41, .v (.bool ((decide (57 < v10)))))]) (by kernel_rfl) rfl rfl
         ⟨st_plain rfl (op_move _ _ _ _ rfl rfl),
         st_plain rfl (op_move _ _ _ _ rfl rfl),
         st_plain rfl (op_chr _ _ _ s24 _ Tryd.underlying9 rfl rfl hv9),
         st_plain rfl (op_bin _ _ _ _ _ rfl rfl rfl),
         st_plain rfl (op_move _ _ _ _ (congrArg (fun b => AV.v (Value.bool b)) hg6_4) rfl),
         st_run 4 36 false rfl rfl rfl (List.Mem.head _) (op_move _ _ _ _ rfl rfl),
         st_run 4 36 false rfl rfl rfl (List.Mem.head _) (op_move _ _ _ _ rfl rfl),
         st_run 4 36 false rfl rfl rfl (List.Mem.head _) (op_chr _ _ _ s24 _ Tryd.underlying9 rfl rfl hv10),
         st_run 4 36 false rfl rfl rfl (List.Mem.head _) (op_bin _ _ _ _ _ rfl rfl rfl),
         st_plain rfl (op_pick _ _ false _ rfl rfl),
         trivial⟩ ?_
        exact hl40 _ (Option.some.inj h).symm
     ·have h := cond_f hb37 h
      refine ht_exit ?_
      refine pt_x_then ?_
      refine pt_x_then ?_
      refine pt_x_in ?_
      refine pt_pick [0] (by kernel_rfl) (es' := [(_, _)]) rfl ?_
      exact hl32 _ (ho34 _ (Option.some.inj h).symm).symm
  ·intro u4 h hl5 hr6
   refine cond_some h (fun hg1_2 h => ?_) (fun hg1_2 h => ?_)
   ·refine ht_seqR hn (El := (_ :: _ :: (9, .v (.string s)) :: (10, .v (.bool ((s.toList == (⟨#[]⟩ : ByteArray).toList)))) :: (11, .v (.bool true)) :: (12, .v undef) :: (13, .v undef) :: (14, .v undef) :: (15, .v undef) :: (16, .v undef) :: (17, .v (.bool true)) :: (18, .v (.bool true)) :: (19, .v undef) :: (20, .v undef) :: (21, .v undef) :: (22, .v undef) :: (23, .v undef) :: (24, .v undef) :: (25, .v undef) :: (26, .v (.bool true)) :: [])) (init := [0, 1]) (fin := [0, 19]) (sps := (⟨[0], [], [2], [(.slot 9)]⟩ :: ⟨[2], [], [3], [(.slot 10)]⟩ :: ⟨[3], [], [4], [(.slot 11)]⟩ :: ⟨[4], [], [5], [(.slot 12)]⟩ :: ⟨[4], [], [6], [(.slot 13)]⟩ :: ⟨[4], [], [7], [(.slot 14)]⟩ :: ⟨[4], [], [8], [(.slot 15)]⟩ :: ⟨[4], [], [9], [(.slot 16)]⟩ :: ⟨[4], [], [10], [(.slot 17)]⟩ :: ⟨[10], [], [11], [(.slot 18)]⟩ :: ⟨[11], [], [12], [(.slot 19)]⟩ :: ⟨[11], [], [13], [(.slot 20)]⟩ :: ⟨[11], [], [14], [(.slot 21)]⟩ :: ⟨[11], [], [15], [(.slot 22)]⟩ :: ⟨[15], [], [16], [(.slot 23)]⟩ :: ⟨[15], [], [17], [(.slot 24)]⟩ :: ⟨[11], [], [18], [(.slot 25)]⟩ :: ⟨[11], [], [19], [(.slot 26)]⟩ :: [])) (es' := [(_, _), (26, .v (.bool true))]) (by kernel_rfl) rfl rfl
     ⟨st_plain rfl (op_move _ _ _ _ rfl rfl),
     st_plain rfl (op_bin _ _ _ _ _ rfl rfl rfl),
     st_plain rfl (op_move _ _ _ _ (congrArg (fun b => AV.v (Value.bool b)) hg1_2) rfl),
     st_skip 2 11 _ false rfl rfl rfl rfl (List.Mem.head _),
     st_skip 2 11 _ false rfl rfl rfl rfl (List.Mem.head _),
     st_skip 2 11 _ false rfl rfl rfl rfl (List.Mem.head _),
     st_skip 2 11 _ false rfl rfl rfl rfl (List.Mem.head _),
     st_skip 2 11 _ false rfl rfl rfl rfl (List.Mem.head _),
     st_plain rfl (op_pick _ _ true _ rfl rfl),
     st_plain rfl (op_move _ _ _ _ rfl rfl),
     st_skip 9 18 _ false rfl rfl rfl rfl (List.Mem.head _),
     st_skip 9 18 _ false rfl rfl rfl rfl (List.Mem.head _),
     st_skip 9 18 _ false rfl rfl rfl rfl (List.Mem.head _),
     st_skip 9 18 _ false rfl rfl rfl rfl (List.Mem.head _),
     st_skipU 13 22 _ true rfl rfl rfl rfl (List.Mem.head _),
     st_skipU 13 22 _ true rfl rfl rfl rfl (List.Mem.head _),
     st_skip 9 18 _ false rfl rfl rfl rfl (List.Mem.head _),
     st_plain rfl (op_pick _ _ true _ rfl rfl),
     trivial⟩ ?_
    exact hl5 _ (Option.some.inj h).symm
   ·obtain ⟨v1, hv1, h⟩ := bind_some h
    refine cond_some h (fun hg1_9 h => ?_) (fun hg1_9 h => ?_)
    ·refine ht_seqR hn (El := (_ :: _ :: (9, .v (.string s)) :: (10, .v (.bool ((s.toList == (⟨#[]⟩ : ByteArray).toList)))) :: (11, .v (.bool false)) :: (12, .v (.string s)) :: (13, .v (.int .i64 (s.size : Int))) :: (14, .v (.int .i64 digits)) :: (15, .v (.int .i64 v1)) :: (16, .v (.bool ((decide (v1 < (s.size : Int)))))) :: (17, .v (.bool ((decide (v1 < (s.size : Int)))))) :: (18, .v (.bool true)) :: (19, .v undef) :: (20, .v undef) :: (21, .v undef) :: (22, .v undef) :: (23, .v undef) :: (24, .v undef) :: (25, .v undef) :: (26, .v (.bool true)) :: [])) (init := [0, 1]) (fin := [0, 19]) (sps := (⟨[0], [], [2], [(.slot 9)]⟩ :: ⟨[2], [], [3], [(.slot 10)]⟩ :: ⟨[3], [], [4], [(.slot 11)]⟩ :: ⟨[4, 0], [], [5], [(.slot 12)]⟩ :: ⟨[4, 5], [], [6], [(.slot 13)]⟩ :: ⟨[4, 1], [], [7], [(.slot 14)]⟩ :: ⟨[4, 7], [], [8], [(.slot 15)]⟩ :: ⟨[4, 6, 8], [], [9], [(.slot 16)]⟩ :: ⟨[4, 9], [], [10], [(.slot 17)]⟩ :: ⟨[10], [], [11], [(.slot 18)]⟩ :: ⟨[11], [], [12], [(.slot 19)]⟩ :: ⟨[11], [], [13], [(.slot 20)]⟩ :: ⟨[11], [], [14], [(.slot 21)]⟩ :: ⟨[11], [], [15], [(.slot 22)]⟩ :: ⟨[15], [], [16], [(.slot 23)]⟩ :: ⟨[15], [], [17], [(.slot 24)]⟩ :: ⟨[11], [], [18], [(.slot 25)]⟩ :: ⟨[11], [], [19], [(.slot 26)]⟩ :: [])) (es' := [(_, _), (26, .v (.bool true))]) (by kernel_rfl) rfl rfl
      ⟨st_plain rfl (op_move _ _ _ _ rfl rfl),
      st_plain rfl (op_bin _ _ _ _ _ rfl rfl rfl),
      st_plain rfl (op_move _ _ _ _ (congrArg (fun b => AV.v (Value.bool b)) hg1_2) rfl),
      st_run 2 11 false rfl rfl rfl (List.Mem.head _) (op_move _ _ _ _ rfl rfl),
      st_run 2 11 false rfl rfl rfl (List.Mem.head _) (op_len_str _ _ _ Tryd.underlying9 rfl),
      st_run 2 11 false rfl rfl rfl (List.Mem.head _) (op_move _ _ _ _ rfl rfl),
      st_run 2 11 false rfl rfl rfl (List.Mem.head _) ((Option.some.inj hv1) ▸ op_min _ _ _ _ rfl rfl),
      st_run 2 11 false rfl rfl rfl (List.Mem.head _) (op_bin _ _ _ _ _ rfl rfl rfl),
      st_plain rfl (op_pick _ _ false _ rfl rfl),
      st_plain rfl (op_move _ _ _ _ (congrArg (fun b => AV.v (Value.bool b)) hg1_9) rfl),
      st_skip 9 18 _ false rfl rfl rfl rfl (List.Mem.head _),
      st_skip 9 18 _ false rfl rfl rfl rfl (List.Mem.head _),
      st_skip 9 18 _ false rfl rfl rfl rfl (List.Mem.head _),
      st_skip 9 18 _ false rfl rfl rfl rfl (List.Mem.head _),
      st_skipU 13 22 _ true rfl rfl rfl rfl (List.Mem.head _),
      st_skipU 13 22 _ true rfl rfl rfl rfl (List.Mem.head _),
      st_skip 9 18 _ false rfl rfl rfl rfl (List.Mem.head _),
      st_plain rfl (op_pick _ _ true _ rfl rfl),
      trivial⟩ ?_
     exact hl5 _ (Option.some.inj h).symm
    ·obtain ⟨v2, hv2, h⟩ := bind_some h
     refine cond_some h (fun hg1_13 h => ?_) (fun hg1_13 h => ?_)
     ·refine ht_seqR hn (El := (_ :: _ :: (9, .v (.string s)) :: (10, .v (.bool ((s.toList == (⟨#[]⟩ : ByteArray).toList)))) :: (11, .v (.bool false)) :: (12, .v (.string s)) :: (13, .v (.int .i64 (s.size : Int))) :: (14, .v (.int .i64 digits)) :: (15, .v (.int .i64 v1)) :: (16, .v (.bool ((decide (v1 < (s.size : Int)))))) :: (17, .v (.bool ((decide (v1 < (s.size : Int)))))) :: (18, .v (.bool false)) :: (19, .v (.string s)) :: (20, .v (.int .u8 v2)) :: (21, .v (.bool (v2 == 48))) :: (22, .v (.bool true)) :: (23, .v (.string s)) :: (24, .v (.bool ((!(s.toList == (⟨#[48]⟩ : ByteArray).toList))))) :: (25, .v (.bool ((!(s.toList == (⟨#[48]⟩ : ByteArray).toList))))) :: (26, .v (.bool ((!(s.toList == (⟨#[48]⟩ : ByteArray).toList))))) :: [])) (init := [0, 1]) (fin := [0, 19]) (sps := (⟨[0], [], [2], [(.slot 9)]⟩ :: ⟨[2], [], [3], [(.slot 10)]⟩ :: ⟨[3], [], [4], [(.slot 11)]⟩ :: ⟨[4, 0], [], [5], [(.slot 12)]⟩ :: ⟨[4, 5], [], [6], [(.slot 13)]⟩ :: ⟨[4, 1], [], [7], [(.slot 14)]⟩ :: ⟨[4, 7], [], [8], [(.slot 15)]⟩ :: ⟨[4, 6, 8], [], [9], [(.slot 16)]⟩ :: ⟨[4, 9], [], [10], [(.slot 17)]⟩ :: ⟨[10], [], [11], [(.slot 18)]⟩ :: ⟨[11, 0], [], [12], [(.slot 19)]⟩ :: ⟨[11, 12], [], [13], [(.slot 20)]⟩ :: ⟨[11, 13], [], [14], [(.slot 21)]⟩ :: ⟨[11, 14], [], [15], [(.slot 22)]⟩ :: ⟨[15, 0], [], [16], [(.slot 23)]⟩ :: ⟨[15, 16], [], [17], [(.slot 24)]⟩ :: ⟨[11, 15, 17], [], [18], [(.slot 25)]⟩ :: ⟨[11, 18], [], [19], [(.slot 26)]⟩ :: [])) (es' := [(_, _), (26, .v (.bool ((!(s.toList == (⟨#[48]⟩ : ByteArray).toList)))))]) (by kernel_rfl) rfl rfl
       ⟨st_plain rfl (op_move _ _ _ _ rfl rfl),
       st_plain rfl (op_bin _ _ _ _ _ rfl rfl rfl),
       st_plain rfl (op_move _ _ _ _ (congrArg (fun b => AV.v (Value.bool b)) hg1_2) rfl),
       st_run 2 11 false rfl rfl rfl (List.Mem.head _) (op_move _ _ _ _ rfl rfl),
       st_run 2 11 false rfl rfl rfl (List.Mem.head _) (op_len_str _ _ _ Tryd.underlying9 rfl),
       st_run 2 11 false rfl rfl rfl (List.Mem.head _) (op_move _ _ _ _ rfl rfl),
       st_run 2 11 false rfl rfl rfl (List.Mem.head _) ((Option.some.inj hv1) ▸ op_min _ _ _ _ rfl rfl),
       st_run 2 11 false rfl rfl rfl (List.Mem.head _) (op_bin _ _ _ _ _ rfl rfl rfl),
       st_plain rfl (op_pick _ _ false _ rfl rfl),
       st_plain rfl (op_move _ _ _ _ (congrArg (fun b => AV.v (Value.bool b)) hg1_9) rfl),
       st_run 9 18 false rfl rfl rfl (List.Mem.head _) (op_move _ _ _ _ rfl rfl),
       st_run 9 18 false rfl rfl rfl (List.Mem.head _) (op_chr _ _ _ 0 _ Tryd.underlying9 rfl rfl hv2),
       st_run 9 18 false rfl rfl rfl (List.Mem.head _) (op_bin _ _ _ _ _ rfl rfl rfl),
       st_run 9 18 false rfl rfl rfl (List.Mem.head _) (op_move _ _ _ _ (congrArg (fun b => AV.v (Value.bool b)) hg1_13) rfl),
       st_run 13 22 true rfl rfl rfl (List.Mem.head _) (op_move _ _ _ _ rfl rfl),
       st_run 13 22 true rfl rfl rfl (List.Mem.head _) (op_bin _ _ _ _ _ rfl rfl rfl),
       st_run 9 18 false rfl rfl rfl (List.Mem.head _) (op_pick _ _ true _ rfl rfl),
       st_plain rfl (op_pick _ _ false _ rfl rfl),
       trivial⟩ ?_
      exact hl5 _ (Option.some.inj h).symm
     ·refine ht_seqR hn (El := (_ :: _ :: (9, .v (.string s)) :: (10, .v (.bool ((s.toList == (⟨#[]⟩ : ByteArray).toList)))) :: (11, .v (.bool false)) :: (12, .v (.string s)) :: (13, .v (.int .i64 (s.size : Int))) :: (14, .v (.int .i64 digits)) :: (15, .v (.int .i64 v1)) :: (16, .v (.bool ((decide (v1 < (s.size : Int)))))) :: (17, .v (.bool ((decide (v1 < (s.size : Int)))))) :: (18, .v (.bool false)) :: (19, .v (.string s)) :: (20, .v (.int .u8 v2)) :: (21, .v (.bool (v2 == 48))) :: (22, .v (.bool false)) :: (23, .v undef) :: (24, .v undef) :: (25, .v (.bool false)) :: (26, .v (.bool false)) :: [])) (init := [0, 1]) (fin := [0, 19]) (sps := (⟨[0], [], [2], [(.slot 9)]⟩ :: ⟨[2], [], [3], [(.slot 10)]⟩ :: ⟨[3], [], [4], [(.slot 11)]⟩ :: ⟨[4, 0], [], [5], [(.slot 12)]⟩ :: ⟨[4, 5], [], [6], [(.slot 13)]⟩ :: ⟨[4, 1], [], [7], [(.slot 14)]⟩ :: ⟨[4, 7], [], [8], [(.slot 15)]⟩ :: ⟨[4, 6, 8], [], [9], [(.slot 16)]⟩ :: ⟨[4, 9], [], [10], [(.slot 17)]⟩ :: ⟨[10], [], [11], [(.slot 18)]⟩ :: ⟨[11, 0], [], [12], [(.slot 19)]⟩ :: ⟨[11, 12], [], [13], [(.slot 20)]⟩ :: ⟨[11, 13], [], [14], [(.slot 21)]⟩ :: ⟨[11, 14], [], [15], [(.slot 22)]⟩ :: ⟨[15], [], [16], [(.slot 23)]⟩ :: ⟨[15], [], [17], [(.slot 24)]⟩ :: ⟨[11, 15], [], [18], [(.slot 25)]⟩ :: ⟨[11, 18], [], [19], [(.slot 26)]⟩ :: [])) (es' := [(_, _), (26, .v (.bool false))]) (by kernel_rfl) rfl rfl
       ⟨st_plain rfl (op_move _ _ _ _ rfl rfl),
       st_plain rfl (op_bin _ _ _ _ _ rfl rfl rfl),
       st_plain rfl (op_move _ _ _ _ (congrArg (fun b => AV.v (Value.bool b)) hg1_2) rfl),
       st_run 2 11 false rfl rfl rfl (List.Mem.head _) (op_move _ _ _ _ rfl rfl),
       st_run 2 11 false rfl rfl rfl (List.Mem.head _) (op_len_str _ _ _ Tryd.underlying9 rfl),
       st_run 2 11 false rfl rfl rfl (List.Mem.head _) (op_move _ _ _ _ rfl rfl),
       st_run 2 11 false rfl rfl rfl (List.Mem.head _) ((Option.some.inj hv1) ▸ op_min _ _ _ _ rfl rfl),
       st_run 2 11 false rfl rfl rfl (List.Mem.head _) (op_bin _ _ _ _ _ rfl rfl rfl),
       st_plain rfl (op_pick _ _ false _ rfl rfl),
       st_plain rfl (op_move _ _ _ _ (congrArg (fun b => AV.v (Value.bool b)) hg1_9) rfl),
       st_run 9 18 false rfl rfl rfl (List.Mem.head _) (op_move _ _ _ _ rfl rfl),
       st_run 9 18 false rfl rfl rfl (List.Mem.head _) (op_chr _ _ _ 0 _ Tryd.underlying9 rfl rfl hv2),
       st_run 9 18 false rfl rfl rfl (List.Mem.head _) (op_bin _ _ _ _ _ rfl rfl rfl),
       st_run 9 18 false rfl rfl rfl (List.Mem.head _) (op_move _ _ _ _ (congrArg (fun b => AV.v (Value.bool b)) hg1_13) rfl),
       st_skip 13 22 _ true rfl rfl rfl rfl (List.Mem.head _),
       st_skip 13 22 _ true rfl rfl rfl rfl (List.Mem.head _),
       st_run 9 18 false rfl rfl rfl (List.Mem.head _) (op_pick _ _ false _ rfl rfl),
       st_plain rfl (op_pick _ _ false _ rfl rfl),
       trivial⟩ ?_
      exact hl5 _ (Option.some.inj h).symm
set_option maxHeartbeats 1000000 in
theorem ok_verb_oneOf (s : ByteArray) (words : (List ByteArray)) (r : (ByteArray × Bool)) (h : Sh.verb_oneOf s words = some r) : FnOK Tryd.prog 65 [.v (.string s), .fl .shr 1 (List.map Value.string words)] (.tup [.v (.string r.1), .v (.bool r.2)]) := by
  unfold Sh.verb_oneOf at h
  refine fn_ok Tryd.func65 rfl (Nat.le_of_ble_eq_true rfl) rfl rfl fun g0 hn hio => ?_
  refine ht_seq ?_
  refine ht_seqR hn (El := [_, _, (4, .v (.string (⟨#[]⟩ : ByteArray))), (5, .v (.bool false))]) (init := [0, 1]) (fin := [0, 1]) (sps := [⟨[], [], [2], [(.slot 4)]⟩, ⟨[], [], [3], [(.slot 5)]⟩]) (es' := [(_, _), (_, _)]) (by kernel_rfl) rfl rfl
   ⟨st_plain rfl (op_assign _ _ _ _ rfl rfl),
   st_plain rfl (op_assign _ _ _ _ rfl rfl),
   trivial⟩ ?_
  refine pt_then ?_
  refine ht_seq ?_
  refine ht_seq ?_
  refine ht_seqR hn (El := [_, _, (8, .fl .shr 1 (List.map Value.string words)), (9, .v (.int .i64 (words.length : Int))), (10, .v (.int .i64 0))]) (init := [0, 1]) (fin := [0, 2, 3, 4]) (sps := [⟨[1], [], [2], [(.slot 8)]⟩, ⟨[2], [], [3], [(.slot 9)]⟩, ⟨[], [], [4], [(.slot 10)]⟩]) (es' := [(_, _), (8, .fl .shr 1 (List.map Value.string words)), (9, .v (.int .i64 (words.length : Int))), (10, .v (.int .i64 0))]) (by kernel_rfl) rfl rfl
   ⟨st_plain rfl (op_move _ _ _ _ rfl rfl),
   st_plain rfl (op_len_fl _ _ _ Tryd.underlying40 rfl (by decide) (map_len _)),
   st_plain rfl (op_move _ _ _ _ rfl rfl),
   trivial⟩ ?_
  refine pt_then ?_
  refine ht_loopS h (fun (s10 : Int) => [(0, .v (.string s)), (8, .fl .shr 1 (List.map Value.string words)), (9, .v (.int .i64 (words.length : Int))), (10, .v (.int .i64 s10))]) (fun (() : Unit) => []) ?_ ?_
  ·rintro ⟨⟩ h
   refine pt_then ?_
   refine ht_seq ?_
   refine ht_seqR hn (El := [(4, .v (.string (⟨#[]⟩ : ByteArray))), (5, .v (.bool false))]) (init := []) (fin := [0, 1]) (sps := [⟨[], [], [0], [(.slot 4)]⟩, ⟨[], [], [1], [(.slot 5)]⟩]) (es' := [(4, .v (.string (⟨#[]⟩ : ByteArray))), (5, .v (.bool false))]) (by kernel_rfl) rfl rfl
    ⟨st_plain rfl (op_assign _ _ _ _ rfl rfl),
    st_plain rfl (op_assign _ _ _ _ rfl rfl),
    trivial⟩ ?_
   refine pt_then ?_
   refine ht_ret ?_
   obtain rfl := Option.some.inj h
   exact pt_ret hio rfl (.tmp _ _ (.tmp _ _ .nil)) rfl rfl
  ·rintro u13 hl14 hr15 s10 rr18 h ho16
   refine ht_seq ?_
   refine ht_seqR hn (El := [_, _, _, _, (11, .v (.bool ((decide (s10 < (words.length : Int))))))]) (init := [0, 1, 2, 3]) (fin := [0, 1, 2, 3, 4]) (sps := [⟨[3, 2], [], [4], [(.slot 11)]⟩]) (es' := [(_, _), (_, _), (_, _), (_, _), (11, .v (.bool ((decide (s10 < (words.length : Int))))))]) (by kernel_rfl) rfl rfl
    ⟨st_plain rfl (op_bin _ _ _ _ _ rfl rfl rfl),
    trivial⟩ ?_
   refine pt_then ?_
   refine ht_seq ?_
   refine ht_cond _ rfl (fun hb19 => ?_) (fun hb19 => ?_)
   ·have h := cond_t hb19 h
    refine ht_skip ?_
    refine pt_then ?_
    refine ht_seq ?_
    refine ht_block ?_
    refine ht_seq ?_
    obtain ⟨v2, hv2, h⟩ := bind_some h
    obtain ⟨v3, hv3, h⟩ := bind_some h
    refine ht_seqR hn (El := [_, _, _, _, _, (12, .eref (.slot 8) (v2 * 1)), (13, .v (.string v3)), (7, .v (.string v3))]) (init := [0, 1, 2, 3, 4]) (fin := [0, 1, 2, 3, 7]) (sps := [⟨[1, 3], [], [5], [(.slot 12)]⟩, ⟨[5, 1], [], [6], [(.slot 13)]⟩, ⟨[6], [], [7], [(.slot 7)]⟩]) (es' := [(_, _), (_, _), (_, _), (_, _), (7, .v (.string v3))]) (by kernel_rfl) rfl rfl
     ⟨st_plain rfl (op_ix _ _ _ _ _ _ _ _ Tryd.underlying40 sz9 (by decide) rfl rfl rfl (ix_ok hv2).1 (map_lt (ix_ok hv2).2) rfl),
     st_plain rfl (op_load_e _ _ _ _ _ _ Tryd.underlying9 rfl rfl rfl (map_get hv3)),
     st_plain rfl (op_assign _ _ _ _ rfl rfl),
     trivial⟩ ?_
    refine pt_then ?_
    refine ht_seq ?_
    obtain ⟨v4, hv4, h⟩ := bind_some h
    refine ht_seqR hn (El := [_, _, _, _, _, (14, .v (.string s)), (15, .v (.string v3)), (16, .v (.bool v4))]) (init := [0, 1, 2, 3, 4]) (fin := [0, 1, 2, 3, 4, 7]) (sps := [⟨[0], [], [5], [(.slot 14)]⟩, ⟨[4], [], [6], [(.slot 15)]⟩, ⟨[5, 6], [], [7], [(.slot 16)]⟩]) (es' := [(_, _), (_, _), (_, _), (_, _), (_, _), (16, .v (.bool v4))]) (by kernel_rfl) rfl rfl
     ⟨st_plain rfl (op_move _ _ _ _ rfl rfl),
     st_plain rfl (op_move _ _ _ _ rfl rfl),
     st_plain rfl (op_call _ _ 33 _ _ rfl Tryd.call33 rfl (ok_verb_equalFold s v3 _ hv4) rfl rfl),
     trivial⟩ ?_
    refine pt_then ?_
    refine ht_cond _ rfl (fun hb20 => ?_) (fun hb20 => ?_)
    ·have h := cond_t hb20 h
     refine ht_seq ?_
     refine ht_seqR hn (El := [_, _, _, _, _, _, (17, .v (.string v3)), (4, .v (.string v3)), (5, .v (.bool true))]) (init := [0, 1, 2, 3, 4, 5]) (fin := [7, 8]) (sps := [⟨[4], [], [6], [(.slot 17)]⟩, ⟨[6], [], [7], [(.slot 4)]⟩, ⟨[], [], [8], [(.slot 5)]⟩]) (es' := [(4, .v (.string v3)), (5, .v (.bool true))]) (by kernel_rfl) rfl rfl
      ⟨st_plain rfl (op_move _ _ _ _ rfl rfl),
      st_plain rfl (op_assign _ _ _ _ rfl rfl),
      st_plain rfl (op_assign _ _ _ _ rfl rfl),
      trivial⟩ ?_
     refine pt_then ?_
     refine ht_ret ?_
     refine pt_r_in ?_
     refine pt_r_then ?_
     refine pt_r_then ?_
     refine pt_r_in ?_
     refine pt_r_then ?_
     have h := hr15 _ (ho16 _ (Option.some.inj h).symm).symm
     obtain rfl := Option.some.inj h
     exact pt_ret hio rfl (.tmp _ _ (.tmp _ _ .nil)) rfl rfl
    ·have h := cond_f hb20 h
     refine ht_skip ?_
     refine pt_inb ?_
     refine pt_then ?_
     obtain ⟨v6, hv6, h⟩ := bind_some h
     refine ht_seqR hn (El := [_, _, _, _, _, _, (18, .v (.int .i64 v6)), (10, .v (.int .i64 v6))]) (init := [0, 1, 2, 3, 4, 5]) (fin := [0, 1, 2, 7]) (sps := [⟨[3], [], [6], [(.slot 18)]⟩, ⟨[6], [3], [7], [(.slot 10)]⟩]) (es' := [(_, _), (_, _), (_, _), (10, .v (.int .i64 v6))]) (by kernel_rfl) rfl rfl
      ⟨st_plain rfl (op_bin _ _ _ _ _ rfl rfl (ibind (f := Value.int .i64) (Option.some.inj hv6))),
      st_plain rfl (LOp.drop [_] (op_move _ _ _ _ rfl rfl)),
      trivial⟩ ?_
     exact pt_next _ (Option.some.inj h).symm rfl
   ·have h := cond_f hb19 h
    refine ht_exit ?_
    refine pt_x_then ?_
    refine pt_x_then ?_
    refine pt_x_in ?_
    refine pt_pick [] (by kernel_rfl) (es' := []) rfl ?_
    exact hl14 _ (ho16 _ (Option.some.inj h).symm).symm
set_option maxHeartbeats 1000000 in
theorem ok_verb_parameter (kind : Int) (key : ByteArray) (val : ByteArray) (r : (T_Param × Bool)) (h : Sh.verb_parameter kind key val = some r) : FnOK Tryd.prog 53 [.v (.int .i64 kind), .v (.string key), .v (.string val)] (.tup [.agg [.v (.string r.1.Key), .v (.string r.1.Val)], .v (.bool r.2)]) := by
  unfold Sh.verb_parameter at h
  refine fn_ok Tryd.func53 rfl (Nat.le_of_ble_eq_true rfl) rfl rfl fun g0 hn hio => ?_
  refine ht_seq ?_
  refine ht_seqR hn (El := [_, _, _, (6, .box 46 [.v (.string (⟨#[]⟩ : ByteArray)), .v (.string (⟨#[]⟩ : ByteArray))]), (7, .v (.bool false))]) (init := [0, 1, 2]) (fin := [0, 1, 2, 3]) (sps := [⟨[], [], [3], [(.slot 6)]⟩, ⟨[], [], [4], [(.slot 7)]⟩]) (es' := [(_, _), (_, _), (_, _), (6, .box 46 [.v (.string (⟨#[]⟩ : ByteArray)), .v (.string (⟨#[]⟩ : ByteArray))])]) (by kernel_rfl) rfl rfl
   ⟨st_plain rfl (op_alloc _ _ zr46),
   st_plain rfl (op_assign _ _ _ _ rfl rfl),
   trivial⟩ ?_
  refine pt_then ?_
  refine ht_seq ?_
  refine ht_block ?_
  refine ht_seq ?_
  refine ht_joinS h (fun (s1 : Bool) => [(0, .v (.int .i64 kind)), (1, .v (.string key)), (2, .v (.string val)), (6, .box 46 [.v (.string (⟨#[]⟩ : ByteArray)), .v (.string (⟨#[]⟩ : ByteArray))]), (14, .v (.bool s1))]) ?_ ?_
  ·rintro s1 h
   refine pt_then ?_
   refine ht_cond _ rfl (fun hb5 => ?_) (fun hb5 => ?_)
   ·have h := cond_t hb5 h
    refine ht_seq ?_
    obtain ⟨v6, hv6, h⟩ := bind_some h
    refine ht_seqR hn (El := [_, _, _, _, _, (22, .v (.string val)), (23, .tup [.v (.int .i64 v6.1), .v (.bool v6.2)]), (21, .tup [.v (.int .i64 v6.1), .v (.bool v6.2)]), (24, .v (.int .i64 v6.1)), (25, .v (.bool v6.2)), (8, .v (.int .i64 v6.1)), (9, .v (.bool v6.2))]) (init := [0, 1, 2, 3, 4]) (fin := [2, 3, 11]) (sps := [⟨[2], [], [5], [(.slot 22)]⟩, ⟨[5], [], [6], [(.slot 23)]⟩, ⟨[], [6], [7], [(.slot 21)]⟩, ⟨[7], [], [8], [(.slot 24)]⟩, ⟨[7], [], [9], [(.slot 25)]⟩, ⟨[8], [], [10], [(.slot 8)]⟩, ⟨[9], [], [11], [(.slot 9)]⟩]) (es' := [(_, _), (_, _), (9, .v (.bool v6.2))]) (by kernel_rfl) rfl rfl
     ⟨st_plain rfl (op_move _ _ _ _ rfl rfl),
     st_plain rfl (op_call _ _ 64 _ _ rfl Tryd.call64 rfl (ok_number_Parse val 9 _ hv6) rfl rfl),
     st_plain rfl (op_move_take _ _ _ _ rfl),
     st_plain rfl (op_extract _ _ _ _ _ rfl rfl (Nat.le_of_ble_eq_true rfl) rfl rfl),
     st_plain rfl (op_extract _ _ _ _ _ rfl rfl (Nat.le_of_ble_eq_true rfl) rfl rfl),
     st_plain rfl (op_assign _ _ _ _ rfl rfl),
     st_plain rfl (op_assign _ _ _ _ rfl rfl),
     trivial⟩ ?_
    refine pt_then ?_
    refine ht_seq ?_
    refine ht_seqR hn (El := [_, _, _, (26, .v (.string val)), (27, .agg [.v (.string (⟨#[83, 73, 90, 69]⟩ : ByteArray)), .v (.string val)]), (28, .v (.bool v6.2)), (6, .box 46 [.v (.string (⟨#[83, 73, 90, 69]⟩ : ByteArray)), .v (.string val)]), (7, .v (.bool v6.2))]) (init := [0, 1, 2]) (fin := [6, 7]) (sps := [⟨[0], [], [3], [(.slot 26)]⟩, ⟨[3], [], [4], [(.slot 27)]⟩, ⟨[2], [], [5], [(.slot 28)]⟩, ⟨[4], [1], [6], [.cell 6 0, .cell 6 1]⟩, ⟨[5], [], [7], [(.slot 7)]⟩]) (es' := [(6, .box 46 [.v (.string (⟨#[83, 73, 90, 69]⟩ : ByteArray)), .v (.string val)]), (7, .v (.bool v6.2))]) (by kernel_rfl) rfl rfl
     ⟨st_plain rfl (op_move _ _ _ _ rfl rfl),
     st_plain rfl (op_build _ _ _ _ [1, 1] _ _ Tryd.underlying46 zr46 (fs46 _ Tryd.underlying46) (.copy _ (.copy _ Src.nil)) rfl rfl rfl),
     st_plain rfl (op_move _ _ _ _ rfl rfl),
     st_plain rfl (op_store _ _ _ _ _ _ _ _ sz46 rfl rfl rfl rfl (Nat.le_of_ble_eq_true rfl) rfl rfl),
     st_plain rfl (op_assign _ _ _ _ rfl rfl),
     trivial⟩ ?_
    refine pt_then ?_
    refine ht_ret ?_
    refine pt_r_in ?_
    refine pt_r_then ?_
    obtain rfl := Option.some.inj h
    exact pt_ret hio rfl (.cellA _ _ _ _ Tryd.underlying46 rfl sz46 (.tmp _ _ .nil)) rfl rfl
   ·have h := cond_f hb5 h
    refine ht_seq ?_
    refine ht_joinS h (fun (s7 : Bool) => [(0, .v (.int .i64 kind)), (1, .v (.string key)), (2, .v (.string val)), (6, .box 46 [.v (.string (⟨#[]⟩ : ByteArray)), .v (.string (⟨#[]⟩ : ByteArray))]), (29, .v (.bool s7))]) ?_ ?_
    ·rintro s7 h
     refine pt_then ?_
     refine ht_cond _ rfl (fun hb11 => ?_) (fun hb11 => ?_)
     ·have h := cond_t hb11 h
      refine ht_seq ?_
      obtain ⟨v12, hv12, h⟩ := bind_some h
      refine ht_seqR hn (El := [_, _, _, _, _, (37, .v (.string val)), (38, .fl (.own 9) 1 (List.map Value.string ([(⟨#[70, 85, 76, 76]⟩ : ByteArray), (⟨#[72, 68, 82, 83]⟩ : ByteArray)]))), (39, .tup [.v (.string v12.1), .v (.bool v12.2)]), (36, .tup [.v (.string v12.1), .v (.bool v12.2)]), (40, .v (.string v12.1)), (41, .v (.bool v12.2)), (10, .v (.string v12.1)), (11, .v (.bool v12.2))]) (init := [0, 1, 2, 3, 4]) (fin := [3, 11, 12]) (sps := [⟨[2], [], [5], [(.slot 37)]⟩, ⟨[], [], [6], [(.slot 38)]⟩, ⟨[5, 6], [], [7], [(.slot 39)]⟩, ⟨[], [7], [8], [(.slot 36)]⟩, ⟨[8], [], [9], [(.slot 40)]⟩, ⟨[8], [], [10], [(.slot 41)]⟩, ⟨[9], [], [11], [(.slot 10)]⟩, ⟨[10], [], [12], [(.slot 11)]⟩]) (es' := [(_, _), (10, .v (.string v12.1)), (11, .v (.bool v12.2))]) (by kernel_rfl) rfl rfl
       ⟨st_plain rfl (op_move _ _ _ _ rfl rfl),
       st_plain rfl (op_buildSlice _ _ 1 (.string ByteArray.empty) (List.map Value.string ([(⟨#[70, 85, 76, 76]⟩ : ByteArray), (⟨#[72, 68, 82, 83]⟩ : ByteArray)])) [(0, .string (⟨#[70, 85, 76, 76]⟩ : ByteArray)), (1, .string (⟨#[72, 68, 82, 83]⟩ : ByteArray))] Tryd.underlying40 sz9 zr9 (fun _ V w o a hv hes => by simp only [List.map_toArray, List.map_cons, List.map_nil]; try rfl) (litfill (by simp [Instr.fill, Value.cells]; rfl) (by simp [List.range, List.range.loop] <;> rfl)) (by simp [Value.oneCell']) rfl (by decide) (by decide) (by decide)),
       st_plain rfl (op_call _ _ 65 _ _ rfl Tryd.call65 rfl (ok_verb_oneOf val ([(⟨#[70, 85, 76, 76]⟩ : ByteArray), (⟨#[72, 68, 82, 83]⟩ : ByteArray)]) _ hv12) rfl rfl),
       st_plain rfl (op_move_take _ _ _ _ rfl),
       st_plain rfl (op_extract _ _ _ _ _ rfl rfl (Nat.le_of_ble_eq_true rfl) rfl rfl),
       st_plain rfl (op_extract _ _ _ _ _ rfl rfl (Nat.le_of_ble_eq_true rfl) rfl rfl),
       st_plain rfl (op_assign _ _ _ _ rfl rfl),
       st_plain rfl (op_assign _ _ _ _ rfl rfl),
       trivial⟩ ?_
      refine pt_then ?_
      refine ht_seq ?_
      refine ht_seqR hn (El := [_, _, _, (42, .v (.string v12.1)), (43, .agg [.v (.string (⟨#[82, 69, 84]⟩ : ByteArray)), .v (.string v12.1)]), (44, .v (.bool v12.2)), (6, .box 46 [.v (.string (⟨#[82, 69, 84]⟩ : ByteArray)), .v (.string v12.1)]), (7, .v (.bool v12.2))]) (init := [0, 1, 2]) (fin := [6, 7]) (sps := [⟨[1], [], [3], [(.slot 42)]⟩, ⟨[3], [], [4], [(.slot 43)]⟩, ⟨[2], [], [5], [(.slot 44)]⟩, ⟨[4], [0], [6], [.cell 6 0, .cell 6 1]⟩, ⟨[5], [], [7], [(.slot 7)]⟩]) (es' := [(6, .box 46 [.v (.string (⟨#[82, 69, 84]⟩ : ByteArray)), .v (.string v12.1)]), (7, .v (.bool v12.2))]) (by kernel_rfl) rfl rfl
       ⟨st_plain rfl (op_move _ _ _ _ rfl rfl),
       st_plain rfl (op_build _ _ _ _ [1, 1] _ _ Tryd.underlying46 zr46 (fs46 _ Tryd.underlying46) (.copy _ (.copy _ Src.nil)) rfl rfl rfl),
       st_plain rfl (op_move _ _ _ _ rfl rfl),
       st_plain rfl (op_store _ _ _ _ _ _ _ _ sz46 rfl rfl rfl rfl (Nat.le_of_ble_eq_true rfl) rfl rfl),
       st_plain rfl (op_assign _ _ _ _ rfl rfl),
       trivial⟩ ?_
      refine pt_then ?_
      refine ht_ret ?_
      refine pt_r_in ?_
      refine pt_r_then ?_
      obtain rfl := Option.some.inj h
      exact pt_ret hio rfl (.cellA _ _ _ _ Tryd.underlying46 rfl sz46 (.tmp _ _ .nil)) rfl rfl
     ·have h := cond_f hb11 h
      refine ht_seq ?_
      refine ht_joinS h (fun (s13 : Bool) => [(2, .v (.string val)), (6, .box 46 [.v (.string (⟨#[]⟩ : ByteArray)), .v (.string (⟨#[]⟩ : ByteArray))]), (45, .v (.bool s13))]) ?_ ?_
      ·rintro s13 h
       refine pt_then ?_
       refine ht_cond _ rfl (fun hb17 => ?_) (fun hb17 => ?_)
       ·have h := cond_t hb17 h
        refine ht_seq ?_
        obtain ⟨v18, hv18, h⟩ := bind_some h
        refine ht_seqR hn (El := [_, _, _, (53, .v (.string val)), (54, .fl (.own 9) 1 (List.map Value.string ([(⟨#[78, 69, 86, 69, 82]⟩ : ByteArray), (⟨#[70, 65, 73, 76, 85, 82, 69]⟩ : ByteArray)]))), (55, .tup [.v (.string v18.1), .v (.bool v18.2)]), (52, .tup [.v (.string v18.1), .v (.bool v18.2)]), (56, .v (.string v18.1)), (57, .v (.bool v18.2)), (12, .v (.string v18.1)), (13, .v (.bool v18.2))]) (init := [0, 1, 2]) (fin := [1, 9, 10]) (sps := [⟨[0], [], [3], [(.slot 53)]⟩, ⟨[], [], [4], [(.slot 54)]⟩, ⟨[3, 4], [], [5], [(.slot 55)]⟩, ⟨[], [5], [6], [(.slot 52)]⟩, ⟨[6], [], [7], [(.slot 56)]⟩, ⟨[6], [], [8], [(.slot 57)]⟩, ⟨[7], [], [9], [(.slot 12)]⟩, ⟨[8], [], [10], [(.slot 13)]⟩]) (es' := [(_, _), (12, .v (.string v18.1)), (13, .v (.bool v18.2))]) (by kernel_rfl) rfl rfl
         ⟨st_plain rfl (op_move _ _ _ _ rfl rfl),
         st_plain rfl (op_buildSlice _ _ 1 (.string ByteArray.empty) (List.map Value.string ([(⟨#[78, 69, 86, 69, 82]⟩ : ByteArray), (⟨#[70, 65, 73, 76, 85, 82, 69]⟩ : ByteArray)])) [(0, .string (⟨#[78, 69, 86, 69, 82]⟩ : ByteArray)), (1, .string (⟨#[70, 65, 73, 76, 85, 82, 69]⟩ : ByteArray))] Tryd.underlying40 sz9 zr9 (fun _ V w o a hv hes => by simp only [List.map_toArray, List.map_cons, List.map_nil]; try rfl) (litfill (by simp [Instr.fill, Value.cells]; rfl) (by simp [List.range, List.range.loop] <;> rfl)) (by simp [Value.oneCell']) rfl (by decide) (by decide) (by decide)),
         st_plain rfl (op_call _ _ 65 _ _ rfl Tryd.call65 rfl (ok_verb_oneOf val ([(⟨#[78, 69, 86, 69, 82]⟩ : ByteArray), (⟨#[70, 65, 73, 76, 85, 82, 69]⟩ : ByteArray)]) _ hv18) rfl rfl),
         st_plain rfl (op_move_take _ _ _ _ rfl),
         st_plain rfl (op_extract _ _ _ _ _ rfl rfl (Nat.le_of_ble_eq_true rfl) rfl rfl),
         st_plain rfl (op_extract _ _ _ _ _ rfl rfl (Nat.le_of_ble_eq_true rfl) rfl rfl),
         st_plain rfl (op_assign _ _ _ _ rfl rfl),
         st_plain rfl (op_assign _ _ _ _ rfl rfl),
         trivial⟩ ?_
        refine pt_then ?_
        refine ht_seq ?_
        refine ht_seqR hn (El := [_, _, _, (58, .v (.string v18.1)), (59, .agg [.v (.string (⟨#[78, 79, 84, 73, 70, 89]⟩ : ByteArray)), .v (.string v18.1)]), (60, .v (.bool v18.2)), (6, .box 46 [.v (.string (⟨#[78, 79, 84, 73, 70, 89]⟩ : ByteArray)), .v (.string v18.1)]), (7, .v (.bool v18.2))]) (init := [0, 1, 2]) (fin := [6, 7]) (sps := [⟨[1], [], [3], [(.slot 58)]⟩, ⟨[3], [], [4], [(.slot 59)]⟩, ⟨[2], [], [5], [(.slot 60)]⟩, ⟨[4], [0], [6], [.cell 6 0, .cell 6 1]⟩, ⟨[5], [], [7], [(.slot 7)]⟩]) (es' := [(6, .box 46 [.v (.string (⟨#[78, 79, 84, 73, 70, 89]⟩ : ByteArray)), .v (.string v18.1)]), (7, .v (.bool v18.2))]) (by kernel_rfl) rfl rfl
         ⟨st_plain rfl (op_move _ _ _ _ rfl rfl),
         st_plain rfl (op_build _ _ _ _ [1, 1] _ _ Tryd.underlying46 zr46 (fs46 _ Tryd.underlying46) (.copy _ (.copy _ Src.nil)) rfl rfl rfl),
         st_plain rfl (op_move _ _ _ _ rfl rfl),
         st_plain rfl (op_store _ _ _ _ _ _ _ _ sz46 rfl rfl rfl rfl (Nat.le_of_ble_eq_true rfl) rfl rfl),
         st_plain rfl (op_assign _ _ _ _ rfl rfl),
         trivial⟩ ?_
        refine pt_then ?_
        refine ht_ret ?_
        refine pt_r_in ?_
        refine pt_r_then ?_
        obtain rfl := Option.some.inj h
        exact pt_ret hio rfl (.cellA _ _ _ _ Tryd.underlying46 rfl sz46 (.tmp _ _ .nil)) rfl rfl
       ·have h := cond_f hb17 h
        refine ht_skip ?_
        refine pt_inb ?_
        refine pt_then ?_
        refine ht_seq ?_
        refine ht_seqR hn (El := [_, _, _, (61, .agg [.v (.string (⟨#[]⟩ : ByteArray)), .v (.string (⟨#[]⟩ : ByteArray))]), (6, .box 46 [.v (.string (⟨#[]⟩ : ByteArray)), .v (.string (⟨#[]⟩ : ByteArray))]), (7, .v (.bool false))]) (init := [0, 1, 2]) (fin := [4, 5]) (sps := [⟨[], [], [3], [(.slot 61)]⟩, ⟨[], [3, 1], [4], [.cell 6 0, .cell 6 1]⟩, ⟨[], [], [5], [(.slot 7)]⟩]) (es' := [(6, .box 46 [.v (.string (⟨#[]⟩ : ByteArray)), .v (.string (⟨#[]⟩ : ByteArray))]), (7, .v (.bool false))]) (by kernel_rfl) rfl rfl
         ⟨st_plain rfl (op_build _ _ _ _ [1, 1] _ _ Tryd.underlying46 zr46 (fs46 _ Tryd.underlying46) Src.nil rfl rfl rfl),
         st_plain rfl (op_store_self _ _ _ 61 6 2 sz46 rfl rfl rfl rfl rfl (.eq _ (.eq _ (.nil _))) rfl),
         st_plain rfl (op_assign _ _ _ _ rfl rfl),
         trivial⟩ ?_
        refine pt_then ?_
        refine ht_ret ?_
        obtain rfl := Option.some.inj h
        exact pt_ret hio rfl (.cellA _ _ _ _ Tryd.underlying46 rfl sz46 (.tmp _ _ .nil)) rfl rfl
      ·intro u14 h hl15 hr16
       refine cond_some h (fun hg7_2 h => ?_) (fun hg7_2 h => ?_)
       ·refine ht_seqR hn (El := [_, _, _, _, _, (46, .v (.int .i64 kind)), (47, .v (.bool (kind == 3))), (48, .v (.bool true)), (49, .v (.string key)), (50, .v (.bool ((key.toList == (⟨#[110, 111, 116, 105, 102, 121]⟩ : ByteArray).toList)))), (51, .v (.bool ((key.toList == (⟨#[110, 111, 116, 105, 102, 121]⟩ : ByteArray).toList)))), (45, .v (.bool ((key.toList == (⟨#[110, 111, 116, 105, 102, 121]⟩ : ByteArray).toList))))]) (init := [0, 1, 2, 3, 4]) (fin := [2, 3, 11]) (sps := [⟨[0], [], [5], [(.slot 46)]⟩, ⟨[5], [], [6], [(.slot 47)]⟩, ⟨[6], [], [7], [(.slot 48)]⟩, ⟨[7, 1], [], [8], [(.slot 49)]⟩, ⟨[7, 8], [], [9], [(.slot 50)]⟩, ⟨[7, 9], [], [10], [(.slot 51)]⟩, ⟨[10], [], [11], [(.slot 45)]⟩]) (es' := [(_, _), (_, _), (45, .v (.bool ((key.toList == (⟨#[110, 111, 116, 105, 102, 121]⟩ : ByteArray).toList))))]) (by kernel_rfl) rfl rfl
         ⟨st_plain rfl (op_move _ _ _ _ rfl rfl),
         st_plain rfl (op_bin _ _ _ _ _ rfl rfl rfl),
         st_plain rfl (op_move _ _ _ _ (congrArg (fun b => AV.v (Value.bool b)) hg7_2) rfl),
         st_run 2 48 true rfl rfl rfl (List.Mem.head _) (op_move _ _ _ _ rfl rfl),
         st_run 2 48 true rfl rfl rfl (List.Mem.head _) (op_bin _ _ _ _ _ rfl rfl rfl),
         st_plain rfl (op_pick _ _ true _ rfl rfl),
         st_plain rfl (op_assign _ _ _ _ rfl rfl),
         trivial⟩ ?_
        exact hl15 _ (Option.some.inj h).symm
       ·refine ht_seqR hn (El := [_, _, _, _, _, (46, .v (.int .i64 kind)), (47, .v (.bool (kind == 3))), (48, .v (.bool false)), (49, .v undef), (50, .v undef), (51, .v (.bool false)), (45, .v (.bool false))]) (init := [0, 1, 2, 3, 4]) (fin := [2, 3, 11]) (sps := [⟨[0], [], [5], [(.slot 46)]⟩, ⟨[5], [], [6], [(.slot 47)]⟩, ⟨[6], [], [7], [(.slot 48)]⟩, ⟨[7], [], [8], [(.slot 49)]⟩, ⟨[7], [], [9], [(.slot 50)]⟩, ⟨[7], [], [10], [(.slot 51)]⟩, ⟨[10], [], [11], [(.slot 45)]⟩]) (es' := [(_, _), (_, _), (45, .v (.bool false))]) (by kernel_rfl) rfl rfl
         ⟨st_plain rfl (op_move _ _ _ _ rfl rfl),
         st_plain rfl (op_bin _ _ _ _ _ rfl rfl rfl),
         st_plain rfl (op_move _ _ _ _ (congrArg (fun b => AV.v (Value.bool b)) hg7_2) rfl),
         st_skip 2 48 _ true rfl rfl rfl rfl (List.Mem.head _),
         st_skip 2 48 _ true rfl rfl rfl rfl (List.Mem.head _),
         st_plain rfl (op_pick _ _ false _ rfl rfl),
         st_plain rfl (op_assign _ _ _ _ rfl rfl),
         trivial⟩ ?_
        exact hl15 _ (Option.some.inj h).symm
    ·intro u8 h hl9 hr10
     refine cond_some h (fun hg4_2 h => ?_) (fun hg4_2 h => ?_)
     ·refine ht_seqR hn (El := [_, _, _, _, _, (30, .v (.int .i64 kind)), (31, .v (.bool (kind == 2))), (32, .v (.bool true)), (33, .v (.string key)), (34, .v (.bool ((key.toList == (⟨#[114, 101, 116]⟩ : ByteArray).toList)))), (35, .v (.bool ((key.toList == (⟨#[114, 101, 116]⟩ : ByteArray).toList)))), (29, .v (.bool ((key.toList == (⟨#[114, 101, 116]⟩ : ByteArray).toList))))]) (init := [0, 1, 2, 3, 4]) (fin := [0, 1, 2, 3, 11]) (sps := [⟨[0], [], [5], [(.slot 30)]⟩, ⟨[5], [], [6], [(.slot 31)]⟩, ⟨[6], [], [7], [(.slot 32)]⟩, ⟨[7, 1], [], [8], [(.slot 33)]⟩, ⟨[7, 8], [], [9], [(.slot 34)]⟩, ⟨[7, 9], [], [10], [(.slot 35)]⟩, ⟨[10], [], [11], [(.slot 29)]⟩]) (es' := [(_, _), (_, _), (_, _), (_, _), (29, .v (.bool ((key.toList == (⟨#[114, 101, 116]⟩ : ByteArray).toList))))]) (by kernel_rfl) rfl rfl
       ⟨st_plain rfl (op_move _ _ _ _ rfl rfl),
       st_plain rfl (op_bin _ _ _ _ _ rfl rfl rfl),
       st_plain rfl (op_move _ _ _ _ (congrArg (fun b => AV.v (Value.bool b)) hg4_2) rfl),
       st_run 2 32 true rfl rfl rfl (List.Mem.head _) (op_move _ _ _ _ rfl rfl),
       st_run 2 32 true rfl rfl rfl (List.Mem.head _) (op_bin _ _ _ _ _ rfl rfl rfl),
       st_plain rfl (op_pick _ _ true _ rfl rfl),
       st_plain rfl (op_assign _ _ _ _ rfl rfl),
       trivial⟩ ?_
      exact hl9 _ (Option.some.inj h).symm
     ·refine ht_seqR hn (El := [_, _, _, _, _, (30, .v (.int .i64 kind)), (31, .v (.bool (kind == 2))), (32, .v (.bool false)), (33, .v undef), (34, .v undef), (35, .v (.bool false)), (29, .v (.bool false))]) (init := [0, 1, 2, 3, 4]) (fin := [0, 1, 2, 3, 11]) (sps := [⟨[0], [], [5], [(.slot 30)]⟩, ⟨[5], [], [6], [(.slot 31)]⟩, ⟨[6], [], [7], [(.slot 32)]⟩, ⟨[7], [], [8], [(.slot 33)]⟩, ⟨[7], [], [9], [(.slot 34)]⟩, ⟨[7], [], [10], [(.slot 35)]⟩, ⟨[10], [], [11], [(.slot 29)]⟩]) (es' := [(_, _), (_, _), (_, _), (_, _), (29, .v (.bool false))]) (by kernel_rfl) rfl rfl
       ⟨st_plain rfl (op_move _ _ _ _ rfl rfl),
       st_plain rfl (op_bin _ _ _ _ _ rfl rfl rfl),
       st_plain rfl (op_move _ _ _ _ (congrArg (fun b => AV.v (Value.bool b)) hg4_2) rfl),
       st_skip 2 32 _ true rfl rfl rfl rfl (List.Mem.head _),
       st_skip 2 32 _ true rfl rfl rfl rfl (List.Mem.head _),
       st_plain rfl (op_pick _ _ false _ rfl rfl),
       st_plain rfl (op_assign _ _ _ _ rfl rfl),
       trivial⟩ ?_
      exact hl9 _ (Option.some.inj h).symm
  ·intro u2 h hl3 hr4
   refine cond_some h (fun hg1_2 h => ?_) (fun hg1_2 h => ?_)
   ·refine ht_seqR hn (El := [_, _, _, _, (15, .v (.int .i64 kind)), (16, .v (.bool (kind == 2))), (17, .v (.bool true)), (18, .v (.string key)), (19, .v (.bool ((key.toList == (⟨#[115, 105, 122, 101]⟩ : ByteArray).toList)))), (20, .v (.bool ((key.toList == (⟨#[115, 105, 122, 101]⟩ : ByteArray).toList)))), (14, .v (.bool ((key.toList == (⟨#[115, 105, 122, 101]⟩ : ByteArray).toList))))]) (init := [0, 1, 2, 3]) (fin := [0, 1, 2, 3, 10]) (sps := [⟨[0], [], [4], [(.slot 15)]⟩, ⟨[4], [], [5], [(.slot 16)]⟩, ⟨[5], [], [6], [(.slot 17)]⟩, ⟨[6, 1], [], [7], [(.slot 18)]⟩, ⟨[6, 7], [], [8], [(.slot 19)]⟩, ⟨[6, 8], [], [9], [(.slot 20)]⟩, ⟨[9], [], [10], [(.slot 14)]⟩]) (es' := [(_, _), (_, _), (_, _), (_, _), (14, .v (.bool ((key.toList == (⟨#[115, 105, 122, 101]⟩ : ByteArray).toList))))]) (by kernel_rfl) rfl rfl
     ⟨st_plain rfl (op_move _ _ _ _ rfl rfl),
     st_plain rfl (op_bin _ _ _ _ _ rfl rfl rfl),
     st_plain rfl (op_move _ _ _ _ (congrArg (fun b => AV.v (Value.bool b)) hg1_2) rfl),
     st_run 2 17 true rfl rfl rfl (List.Mem.head _) (op_move _ _ _ _ rfl rfl),
     st_run 2 17 true rfl rfl rfl (List.Mem.head _) (op_bin _ _ _ _ _ rfl rfl rfl),
     st_plain rfl (op_pick _ _ true _ rfl rfl),
     st_plain rfl (op_assign _ _ _ _ rfl rfl),
     trivial⟩ ?_
    exact hl3 _ (Option.some.inj h).symm
   ·refine ht_seqR hn (El := [_, _, _, _, (15, .v (.int .i64 kind)), (16, .v (.bool (kind == 2))), (17, .v (.bool false)), (18, .v undef), (19, .v undef), (20, .v (.bool false)), (14, .v (.bool false))]) (init := [0, 1, 2, 3]) (fin := [0, 1, 2, 3, 10]) (sps := [⟨[0], [], [4], [(.slot 15)]⟩, ⟨[4], [], [5], [(.slot 16)]⟩, ⟨[5], [], [6], [(.slot 17)]⟩, ⟨[6], [], [7], [(.slot 18)]⟩, ⟨[6], [], [8], [(.slot 19)]⟩, ⟨[6], [], [9], [(.slot 20)]⟩, ⟨[9], [], [10], [(.slot 14)]⟩]) (es' := [(_, _), (_, _), (_, _), (_, _), (14, .v (.bool false))]) (by kernel_rfl) rfl rfl
     ⟨st_plain rfl (op_move _ _ _ _ rfl rfl),
     st_plain rfl (op_bin _ _ _ _ _ rfl rfl rfl),
     st_plain rfl (op_move _ _ _ _ (congrArg (fun b => AV.v (Value.bool b)) hg1_2) rfl),
     st_skip 2 17 _ true rfl rfl rfl rfl (List.Mem.head _),
     st_skip 2 17 _ true rfl rfl rfl rfl (List.Mem.head _),
     st_plain rfl (op_pick _ _ false _ rfl rfl),
     st_plain rfl (op_assign _ _ _ _ rfl rfl),
     trivial⟩ ?_
    exact hl3 _ (Option.some.inj h).symm
set_option maxHeartbeats 1000000 in
theorem ok_verb_parameters_1_cap (bx : Nat) (q : T_Param) (cap : T_Param) (r : Bool) (h : Sh.verb_parameters_1_cap q cap = some r) : FnG Tryd.prog [(bx, [.string cap.Key, .string cap.Val])] 55 [.agg [.v (.string q.Key), .v (.string q.Val)], .v (.pointer (some ⟨bx, 0, none⟩))] (.v (.bool r)) := by
  unfold Sh.verb_parameters_1_cap at h
  refine fn_okG Tryd.func55 rfl (Nat.le_of_ble_eq_true rfl) rfl rfl fun g0 hn hio => ?_
  refine ht_seq ?_
  refine ht_seqR hn (El := [_, _, _, (2, .box 46 [.v (.string q.Key), .v (.string q.Val)]), (3, .v (.bool false))]) (init := [0, 1, 2]) (fin := [1, 2, 3]) (sps := [⟨[0], [], [3], [(.slot 2)]⟩, ⟨[], [], [4], [(.slot 3)]⟩]) (es' := [(_, _), (_, _), (2, .box 46 [.v (.string q.Key), .v (.string q.Val)])]) (by kernel_rfl) rfl rfl
   ⟨st_plain rfl (op_box _ _ _ _ rfl rfl rfl),
   st_plain rfl (op_assign _ _ _ _ rfl rfl),
   trivial⟩ ?_
  refine pt_then ?_
  refine ht_seq ?_
  refine ht_seqR hn (El := [_, _, _, (4, .ptr 2 0), (5, .v (.string q.Key)), (6, .v (.pointer (some ⟨bx, 0, none⟩))), (7, .v (.string cap.Key)), (8, .v (.bool (q.Key.toList == cap.Key.toList))), (3, .v (.bool (q.Key.toList == cap.Key.toList)))]) (init := [0, 1, 2]) (fin := [1, 8]) (sps := [⟨[2], [], [3], [(.slot 4)]⟩, ⟨[3, 2], [], [4], [(.slot 5)]⟩, ⟨[0], [], [5], [(.slot 6)]⟩, ⟨[5, 1], [], [6], [(.slot 7)]⟩, ⟨[4, 6], [], [7], [(.slot 8)]⟩, ⟨[7], [], [8], [(.slot 3)]⟩]) (es' := [(_, _), (3, .v (.bool (q.Key.toList == cap.Key.toList)))]) (by kernel_rfl) rfl rfl
   ⟨st_plain rfl (op_fieldAddr _ _ _ _ 2 0 _ Tryd.underlying46 rfl sz9 rfl rfl (by decide)),
   st_plain rfl (op_load _ _ _ _ _ _ Tryd.underlying9 rfl rfl rfl (Nat.le_of_ble_eq_true rfl) rfl rfl rfl),
   st_plain rfl (op_fieldAddr_v _ _ _ _ bx 0 _ Tryd.underlying46 rfl sz9 rfl rfl),
   st_plain rfl (op_load_glob _ _ 9 bx 0 _ _ Tryd.underlying9 rfl rfl rfl (.head _) rfl),
   st_plain rfl (op_bin _ _ _ _ _ rfl rfl rfl),
   st_plain rfl (op_assign _ _ _ _ rfl rfl),
   trivial⟩ ?_
  refine pt_then ?_
  refine ht_ret ?_
  refine pt_pick [1] (by kernel_rfl) (es' := [(_, _)]) rfl ?_
  obtain rfl := Option.some.inj h
  exact pt_ret hio rfl (.tmp _ _ .nil) rfl rfl
set_option maxHeartbeats 1000000 in
theorem ok_slices_IndexFunc_api_Param_api_Param_of_verb_parameters_1 (bx : Nat) (s : (List T_Param)) (cap : T_Param) (r : Int) (h : Sh.slices_IndexFunc_api_Param_api_Param_of_verb_parameters_1 s cap = some r) : FnG Tryd.prog [(bx, [.string cap.Key, .string cap.Val])] 66 [.fl .shr 2 (List.flatten (List.map T_Param.enc s)), .v (.func (.func 55) #[] #[.pointer (some ⟨bx, 0, none⟩)])] (.v (.int .i64 r)) := by
  unfold Sh.slices_IndexFunc_api_Param_api_Param_of_verb_parameters_1 at h
  refine fn_okG Tryd.func66 rfl (Nat.le_of_ble_eq_true rfl) rfl rfl fun g0 hn hio => ?_
  refine ht_seq ?_
  refine ht_seqR hn (El := [_, _, _, (4, .v (.int .i64 0))]) (init := [0, 1, 2]) (fin := [0, 1, 2]) (sps := [⟨[], [], [3], [(.slot 4)]⟩]) (es' := [(_, _), (_, _), (_, _)]) (by kernel_rfl) rfl rfl
   ⟨st_plain rfl (op_assign _ _ _ _ rfl rfl),
   trivial⟩ ?_
  refine pt_then ?_
  refine ht_seq ?_
  refine ht_seq ?_
  refine ht_seqR hn (El := [_, _, _, (6, .fl .shr 2 (List.flatten (List.map T_Param.enc s))), (7, .v (.int .i64 (s.length : Int))), (8, .v (.int .i64 0))]) (init := [0, 1, 2]) (fin := [0, 1, 2, 4, 5]) (sps := [⟨[0], [], [3], [(.slot 6)]⟩, ⟨[3], [], [4], [(.slot 7)]⟩, ⟨[], [], [5], [(.slot 8)]⟩]) (es' := [(_, _), (_, _), (_, _), (7, .v (.int .i64 (s.length : Int))), (8, .v (.int .i64 0))]) (by kernel_rfl) rfl rfl
   ⟨st_plain rfl (op_move _ _ _ _ rfl rfl),
   st_plain rfl (op_len_fl _ _ _ Tryd.underlying24 rfl (by decide) (flat_len T_Param.len _)),
   st_plain rfl (op_move _ _ _ _ rfl rfl),
   trivial⟩ ?_
  refine pt_then ?_
  refine ht_loopS h (fun (s10 : Int) => [(0, .fl .shr 2 (List.flatten (List.map T_Param.enc s))), (1, .v (.func (.func 55) #[] #[.pointer (some ⟨bx, 0, none⟩)])), (19, .glob [(bx, [.string cap.Key, .string cap.Val])]), (7, .v (.int .i64 (s.length : Int))), (8, .v (.int .i64 s10))]) (fun (() : Unit) => [(19, .glob [(bx, [.string cap.Key, .string cap.Val])])]) ?_ ?_
  ·rintro ⟨⟩ h
   refine pt_then ?_
   refine ht_seq ?_
   refine ht_seqR hn (El := [_, (4, .v (.int .i64 (-1)))]) (init := [0]) (fin := [0, 1]) (sps := [⟨[], [], [1], [(.slot 4)]⟩]) (es' := [(_, _), (4, .v (.int .i64 (-1)))]) (by kernel_rfl) rfl rfl
    ⟨st_plain rfl (op_assign _ _ _ _ rfl rfl),
    trivial⟩ ?_
   refine pt_then ?_
   refine ht_ret ?_
   refine pt_pick [1] (by kernel_rfl) (es' := [(_, _)]) rfl ?_
   obtain rfl := Option.some.inj h
   exact pt_ret hio rfl (.tmp _ _ .nil) rfl rfl
  ·rintro u13 hl14 hr15 s10 rr18 h ho16
   refine ht_seq ?_
   refine ht_seqR hn (El := [_, _, _, _, _, (9, .v (.bool ((decide (s10 < (s.length : Int))))))]) (init := [0, 1, 2, 3, 4]) (fin := [0, 1, 2, 3, 4, 5]) (sps := [⟨[4, 3], [], [5], [(.slot 9)]⟩]) (es' := [(_, _), (_, _), (_, _), (_, _), (_, _), (9, .v (.bool ((decide (s10 < (s.length : Int))))))]) (by kernel_rfl) rfl rfl
    ⟨st_plain rfl (op_bin _ _ _ _ _ rfl rfl rfl),
    trivial⟩ ?_
   refine pt_then ?_
   refine ht_seq ?_
   refine ht_cond _ rfl (fun hb19 => ?_) (fun hb19 => ?_)
   ·have h := cond_t hb19 h
    refine ht_skip ?_
    refine pt_then ?_
    refine ht_seq ?_
    refine ht_block ?_
    refine ht_seq ?_
    refine ht_seqR hn (El := [_, _, _, _, _, _, (10, .v (.int .i64 s10)), (5, .v (.int .i64 s10))]) (init := [0, 1, 2, 3, 4, 5]) (fin := [0, 1, 2, 3, 4, 7]) (sps := [⟨[4], [], [6], [(.slot 10)]⟩, ⟨[6], [], [7], [(.slot 5)]⟩]) (es' := [(_, _), (_, _), (_, _), (_, _), (_, _), (5, .v (.int .i64 s10))]) (by kernel_rfl) rfl rfl
     ⟨st_plain rfl (op_move _ _ _ _ rfl rfl),
     st_plain rfl (op_assign _ _ _ _ rfl rfl),
     trivial⟩ ?_
    refine pt_then ?_
    refine ht_seq ?_
    obtain ⟨v2, hv2, h⟩ := bind_some h
    obtain ⟨v3, hv3, h⟩ := bind_some h
    obtain ⟨v4, hv4, h⟩ := bind_some h
    refine ht_seqR hn (El := [_, _, _, _, _, _, (11, .v (.func (.func 55) #[] #[.pointer (some ⟨bx, 0, none⟩)])), (12, .fl .shr 2 (List.flatten (List.map T_Param.enc s))), (13, .v (.int .i64 s10)), (14, .eref (.slot 12) (v2 * 2)), (15, .agg [.v (.string v3.Key), .v (.string v3.Val)]), (16, .v (.bool v4))]) (init := [0, 1, 2, 3, 4, 5]) (fin := [0, 1, 2, 3, 4, 5, 11]) (sps := [⟨[1], [], [6], [(.slot 11)]⟩, ⟨[0], [], [7], [(.slot 12)]⟩, ⟨[5], [], [8], [(.slot 13)]⟩, ⟨[7, 8], [], [9], [(.slot 14)]⟩, ⟨[9, 7], [], [10], [(.slot 15)]⟩, ⟨[10, 6, 2], [], [11], [(.slot 16)]⟩]) (es' := [(_, _), (_, _), (_, _), (_, _), (_, _), (_, _), (16, .v (.bool v4))]) (by kernel_rfl) rfl rfl
     ⟨st_plain rfl (op_move _ _ _ _ rfl rfl),
     st_plain rfl (op_move _ _ _ _ rfl rfl),
     st_plain rfl (op_move _ _ _ _ rfl rfl),
     st_plain rfl (op_ix _ _ _ _ _ _ _ _ Tryd.underlying24 sz46 (by decide) rfl rfl rfl (ix_ok hv2).1 (flat_lt T_Param.len (ix_ok hv2).2) rfl),
     st_plain rfl (op_load_eA _ _ _ _ _ _ _ Tryd.underlying46 rfl sz46 rfl rfl (flat_get T_Param.len hv3) rfl (by decide)),
     st_plain rfl (op_callV _ _ 19 55 (.pointer (some ⟨bx, 0, none⟩)) _ _ rfl Tryd.call55 rfl rfl (fun _ h => h) (ok_verb_parameters_1_cap bx v3 cap _ hv4) rfl rfl),
     trivial⟩ ?_
    refine pt_then ?_
    refine ht_cond _ rfl (fun hb20 => ?_) (fun hb20 => ?_)
    ·have h := cond_t hb20 h
     refine ht_seq ?_
     refine ht_seqR hn (El := [_, _, _, _, _, _, _, (17, .v (.int .i64 s10)), (4, .v (.int .i64 s10))]) (init := [0, 1, 2, 3, 4, 5, 6]) (fin := [2, 8]) (sps := [⟨[5], [], [7], [(.slot 17)]⟩, ⟨[7], [], [8], [(.slot 4)]⟩]) (es' := [(_, _), (4, .v (.int .i64 s10))]) (by kernel_rfl) rfl rfl
      ⟨st_plain rfl (op_move _ _ _ _ rfl rfl),
      st_plain rfl (op_assign _ _ _ _ rfl rfl),
      trivial⟩ ?_
     refine pt_then ?_
     refine ht_ret ?_
     refine pt_pick [1] (by kernel_rfl) (es' := [(_, _)]) rfl ?_
     refine pt_r_in ?_
     refine pt_r_then ?_
     refine pt_r_then ?_
     refine pt_r_in ?_
     refine pt_r_then ?_
     have h := hr15 _ (ho16 _ (Option.some.inj h).symm).symm
     obtain rfl := Option.some.inj h
     exact pt_ret hio rfl (.tmp _ _ .nil) rfl rfl
    ·have h := cond_f hb20 h
     refine ht_skip ?_
     refine pt_inb ?_
     refine pt_then ?_
     obtain ⟨v6, hv6, h⟩ := bind_some h
     refine ht_seqR hn (El := [_, _, _, _, _, _, _, (18, .v (.int .i64 v6)), (8, .v (.int .i64 v6))]) (init := [0, 1, 2, 3, 4, 5, 6]) (fin := [0, 1, 2, 3, 8]) (sps := [⟨[4], [], [7], [(.slot 18)]⟩, ⟨[7], [4], [8], [(.slot 8)]⟩]) (es' := [(_, _), (_, _), (_, _), (_, _), (8, .v (.int .i64 v6))]) (by kernel_rfl) rfl rfl
      ⟨st_plain rfl (op_bin _ _ _ _ _ rfl rfl (ibind (f := Value.int .i64) (Option.some.inj hv6))),
      st_plain rfl (LOp.drop [_] (op_move _ _ _ _ rfl rfl)),
      trivial⟩ ?_
     exact pt_next _ (Option.some.inj h).symm rfl
   ·have h := cond_f hb19 h
    refine ht_exit ?_
    refine pt_x_then ?_
    refine pt_x_then ?_
    refine pt_x_in ?_
    refine pt_pick [2] (by kernel_rfl) (es' := [(_, _)]) rfl ?_
    exact hl14 _ (ho16 _ (Option.some.inj h).symm).symm
set_option maxHeartbeats 1000000 in
theorem ok_slices_ContainsFunc_api_Param_api_Param_of_verb_parameters_1 (bx : Nat) (s : (List T_Param)) (cap : T_Param) (r : Bool) (h : Sh.slices_ContainsFunc_api_Param_api_Param_of_verb_parameters_1 s cap = some r) : FnG Tryd.prog [(bx, [.string cap.Key, .string cap.Val])] 54 [.fl .shr 2 (List.flatten (List.map T_Param.enc s)), .v (.func (.func 55) #[] #[.pointer (some ⟨bx, 0, none⟩)])] (.v (.bool r)) := by
  unfold Sh.slices_ContainsFunc_api_Param_api_Param_of_verb_parameters_1 at h
  refine fn_okG Tryd.func54 rfl (Nat.le_of_ble_eq_true rfl) rfl rfl fun g0 hn hio => ?_
  refine ht_seq ?_
  refine ht_seqR hn (El := [_, _, _, (4, .v (.bool false))]) (init := [0, 1, 2]) (fin := [0, 1, 2]) (sps := [⟨[], [], [3], [(.slot 4)]⟩]) (es' := [(_, _), (_, _), (_, _)]) (by kernel_rfl) rfl rfl
   ⟨st_plain rfl (op_assign _ _ _ _ rfl rfl),
   trivial⟩ ?_
  refine pt_then ?_
  refine ht_seq ?_
  obtain ⟨v1, hv1, h⟩ := bind_some h
  refine ht_seqR hn (El := [_, _, _, (5, .fl .shr 2 (List.flatten (List.map T_Param.enc s))), (6, .v (.func (.func 55) #[] #[.pointer (some ⟨bx, 0, none⟩)])), (7, .v (.int .i64 v1)), (8, .v (.bool ((decide (0 ≤ v1))))), (4, .v (.bool ((decide (0 ≤ v1)))))]) (init := [0, 1, 2]) (fin := [2, 7]) (sps := [⟨[0], [], [3], [(.slot 5)]⟩, ⟨[1], [], [4], [(.slot 6)]⟩, ⟨[3, 4, 2], [], [5], [(.slot 7)]⟩, ⟨[5], [], [6], [(.slot 8)]⟩, ⟨[6], [], [7], [(.slot 4)]⟩]) (es' := [(_, _), (4, .v (.bool ((decide (0 ≤ v1)))))]) (by kernel_rfl) rfl rfl
   ⟨st_plain rfl (op_move _ _ _ _ rfl rfl),
   st_plain rfl (op_move _ _ _ _ rfl rfl),
   st_plain rfl (op_callG _ _ 9 66 _ _ rfl Tryd.call66 rfl rfl (fun _ h => h) (ok_slices_IndexFunc_api_Param_api_Param_of_verb_parameters_1 bx s cap _ hv1) rfl rfl),
   st_plain rfl (op_bin _ _ _ _ _ rfl rfl rfl),
   st_plain rfl (op_assign _ _ _ _ rfl rfl),
   trivial⟩ ?_
  refine pt_then ?_
  refine ht_ret ?_
  refine pt_pick [1] (by kernel_rfl) (es' := [(_, _)]) rfl ?_
  obtain rfl := Option.some.inj h
  exact pt_ret hio rfl (.tmp _ _ .nil) rfl rfl
set_option maxHeartbeats 1000000 in
theorem ok_verb_parameters (mx : Int) (kind : Int) (s : ByteArray) (r : ((List T_Param) × Bool)) (h : Sh.verb_parameters kind s = some r) : FnG Tryd.prog (GL mx) 43 [.v (.int .i64 kind), .v (.string s)] (.tup [.fl .ro 2 (List.flatten (List.map T_Param.enc r.1)), .v (.bool r.2)]) := by
  unfold Sh.verb_parameters at h
  refine fn_okG Tryd.func43 rfl (Nat.le_of_ble_eq_true rfl) rfl rfl fun g0 hn hio => ?_
  refine ht_seq ?_
  refine ht_seqR hn (El := [_, _, _, (2, .box 3 [.v (.int .i64 kind)]), (4, .box 24 [.v (.slice none 0 0)]), (5, .box 4 [.v (.bool false)])]) (init := [0, 1, 2]) (fin := [1, 2, 3, 4, 5]) (sps := [⟨[0], [], [3], [(.slot 2)]⟩, ⟨[], [], [4], [(.slot 4)]⟩, ⟨[], [], [5], [(.slot 5)]⟩]) (es' := [(_, _), (_, _), (2, .box 3 [.v (.int .i64 kind)]), (4, .box 24 [.v (.slice none 0 0)]), (5, .box 4 [.v (.bool false)])]) (by kernel_rfl) rfl rfl
   ⟨st_plain rfl (op_box _ _ _ _ rfl rfl rfl),
   st_plain rfl (op_alloc _ _ zr24),
   st_plain rfl (op_alloc _ _ zr4),
   trivial⟩ ?_
  refine pt_then ?_
  refine ht_seq ?_
  refine ht_seqR hn (El := [_, _, _, _, _, (6, .box 24 [.v (.slice none 0 0)])]) (init := [0, 1, 2, 3, 4]) (fin := [0, 1, 2, 3, 4, 5]) (sps := [⟨[], [], [5], [(.slot 6)]⟩]) (es' := [(_, _), (_, _), (_, _), (_, _), (_, _), (6, .box 24 [.v (.slice none 0 0)])]) (by kernel_rfl) rfl rfl
   ⟨st_plain rfl (op_alloc _ _ zr24),
   trivial⟩ ?_
  refine pt_then ?_
  refine ht_seq ?_
  refine ht_seq ?_
  refine ht_seqR hn (El := [_, _, _, _, _, _, (14, .v (.string s)), (15, .v (.bool ((s.toList == (⟨#[]⟩ : ByteArray).toList))))]) (init := [0, 1, 2, 3, 4, 5]) (fin := [0, 1, 2, 3, 4, 5, 7]) (sps := [⟨[0], [], [6], [(.slot 14)]⟩, ⟨[6], [], [7], [(.slot 15)]⟩]) (es' := [(_, _), (_, _), (_, _), (_, _), (_, _), (_, _), (15, .v (.bool ((s.toList == (⟨#[]⟩ : ByteArray).toList))))]) (by kernel_rfl) rfl rfl
   ⟨st_plain rfl (op_move _ _ _ _ rfl rfl),
   st_plain rfl (op_bin _ _ _ _ _ rfl rfl rfl),
   trivial⟩ ?_
  refine pt_then ?_
  refine ht_cond _ rfl (fun hb33 => ?_) (fun hb33 => ?_)
  ·have h := cond_t hb33 h
   refine ht_seq ?_
   refine ht_seqR hn (El := [_, _, _, _, _, _, _, (16, .v (.slice none 0 0)), (4, .box 24 [.v (.slice none 0 0)]), (5, .box 4 [.v (.bool true)])]) (init := [0, 1, 2, 3, 4, 5, 6]) (fin := [1, 8, 9]) (sps := [⟨[5], [], [7], [(.slot 16)]⟩, ⟨[7], [3], [8], [.cell 4 0]⟩, ⟨[], [4], [9], [.cell 5 0]⟩]) (es' := [(_, _), (4, .box 24 [.v (.slice none 0 0)]), (5, .box 4 [.v (.bool true)])]) (by kernel_rfl) rfl rfl
    ⟨st_plain rfl (op_load _ _ _ _ _ _ Tryd.underlying24 rfl rfl rfl (Nat.le_of_ble_eq_true rfl) rfl rfl rfl),
    st_plain rfl (op_store _ _ _ _ _ _ _ _ sz24 rfl rfl rfl rfl (Nat.le_of_ble_eq_true rfl) rfl rfl),
    st_plain rfl (op_store _ _ _ _ _ _ _ _ sz4 rfl rfl rfl rfl (Nat.le_of_ble_eq_true rfl) rfl rfl),
    trivial⟩ ?_
   refine pt_then ?_
   refine ht_ret ?_
   refine pt_pick [1, 2] (by kernel_rfl) (es' := [(_, _), (_, _)]) rfl ?_
   refine pt_sub (fs := [(4, .box 24 [.fl (.own 46) 2 (List.flatten (List.map T_Param.enc []))]), (5, .box 4 [.v (.bool true)])]) (.box _ _ (subs_cons (sub_nil 46 2) (subs_nil)) rfl (.same _ .nil)) ?_
   refine pt_frz 0 hio (es' := [(4, .box 24 [.fl .ro 2 (List.flatten (List.map T_Param.enc []))]), (5, .box 4 [.v (.bool true)])]) rfl ?_
   refine pt_r_then ?_
   obtain rfl := Option.some.inj h
   exact pt_ret hio rfl (.cell1 _ _ _ _ Tryd.underlying24 rfl (.cell1 _ _ _ _ Tryd.underlying4 rfl .nil)) rfl rfl
  ·have h := cond_f hb33 h
   refine ht_skip ?_
   refine pt_then ?_
   refine ht_seq ?_
   obtain ⟨v2, hv2, h⟩ := bind_some h
   refine ht_seqR hn (El := [_, _, _, _, _, _, _, (18, .v (.string s)), (19, .tup [.v (.string v2.1), .v (.bool v2.2)]), (17, .tup [.v (.string v2.1), .v (.bool v2.2)]), (20, .v (.string v2.1)), (21, .v (.bool v2.2)), (1, .v (.string v2.1)), (7, .v (.bool v2.2))]) (init := [0, 1, 2, 3, 4, 5, 6]) (fin := [1, 2, 3, 4, 5, 12, 13]) (sps := [⟨[0], [], [7], [(.slot 18)]⟩, ⟨[7], [], [8], [(.slot 19)]⟩, ⟨[], [8], [9], [(.slot 17)]⟩, ⟨[9], [], [10], [(.slot 20)]⟩, ⟨[9], [], [11], [(.slot 21)]⟩, ⟨[10], [0], [12], [(.slot 1)]⟩, ⟨[11], [], [13], [(.slot 7)]⟩]) (es' := [(_, _), (_, _), (_, _), (_, _), (_, _), (1, .v (.string v2.1)), (7, .v (.bool v2.2))]) (by kernel_rfl) rfl rfl
    ⟨st_plain rfl (op_move _ _ _ _ rfl rfl),
    st_plain rfl (op_call _ _ 51 _ _ rfl Tryd.call51 rfl (ok_strings_CutPrefix s (⟨#[32]⟩ : ByteArray) _ hv2) rfl rfl),
    st_plain rfl (op_move_take _ _ _ _ rfl),
    st_plain rfl (op_extract _ _ _ _ _ rfl rfl (Nat.le_of_ble_eq_true rfl) rfl rfl),
    st_plain rfl (op_extract _ _ _ _ _ rfl rfl (Nat.le_of_ble_eq_true rfl) rfl rfl),
    st_plain rfl (LOp.drop [_] (op_assign _ _ _ _ rfl rfl)),
    st_plain rfl (op_assign _ _ _ _ rfl rfl),
    trivial⟩ ?_
   refine pt_then ?_
   refine ht_seq ?_
   refine ht_seq ?_
   refine ht_seqR hn (El := [_, _, _, _, _, _, _, (22, .v (.bool v2.2)), (23, .v (.bool (!v2.2)))]) (init := [0, 1, 2, 3, 4, 5, 6]) (fin := [0, 1, 2, 3, 4, 5, 8]) (sps := [⟨[6], [], [7], [(.slot 22)]⟩, ⟨[7], [], [8], [(.slot 23)]⟩]) (es' := [(_, _), (_, _), (_, _), (_, _), (_, _), (_, _), (23, .v (.bool (!v2.2)))]) (by kernel_rfl) rfl rfl
    ⟨st_plain rfl (op_move _ _ _ _ rfl rfl),
    st_plain rfl (op_un _ _ _ _ rfl rfl),
    trivial⟩ ?_
   refine pt_then ?_
   refine ht_cond _ rfl (fun hb34 => ?_) (fun hb34 => ?_)
   ·have h := cond_t hb34 h
    refine ht_seq ?_
    refine ht_seqR hn (El := [_, _, _, _, _, _, _, (4, .box 24 [.v (.slice none 0 0)]), (5, .box 4 [.v (.bool false)])]) (init := [0, 1, 2, 3, 4, 5, 6]) (fin := [0, 7, 8]) (sps := [⟨[], [2], [7], [.cell 4 0]⟩, ⟨[], [3], [8], [.cell 5 0]⟩]) (es' := [(_, _), (4, .box 24 [.v (.slice none 0 0)]), (5, .box 4 [.v (.bool false)])]) (by kernel_rfl) rfl rfl
     ⟨st_plain rfl (op_store _ _ _ _ _ _ _ _ sz24 rfl rfl rfl rfl (Nat.le_of_ble_eq_true rfl) rfl rfl),
     st_plain rfl (op_store _ _ _ _ _ _ _ _ sz4 rfl rfl rfl rfl (Nat.le_of_ble_eq_true rfl) rfl rfl),
     trivial⟩ ?_
    refine pt_then ?_
    refine ht_ret ?_
    refine pt_pick [1, 2] (by kernel_rfl) (es' := [(_, _), (_, _)]) rfl ?_
    refine pt_sub (fs := [(4, .box 24 [.fl (.own 46) 2 (List.flatten (List.map T_Param.enc []))]), (5, .box 4 [.v (.bool false)])]) (.box _ _ (subs_cons (sub_nil 46 2) (subs_nil)) rfl (.same _ .nil)) ?_
    refine pt_frz 0 hio (es' := [(4, .box 24 [.fl .ro 2 (List.flatten (List.map T_Param.enc []))]), (5, .box 4 [.v (.bool false)])]) rfl ?_
    refine pt_r_then ?_
    obtain rfl := Option.some.inj h
    exact pt_ret hio rfl (.cell1 _ _ _ _ Tryd.underlying24 rfl (.cell1 _ _ _ _ Tryd.underlying4 rfl .nil)) rfl rfl
   ·have h := cond_f hb34 h
    refine ht_skip ?_
    refine pt_then ?_
    refine ht_seq ?_
    refine ht_seq ?_
    obtain ⟨v4, hv4, h⟩ := bind_some h
    refine ht_seqR hn (El := [_, _, _, _, _, _, _, (24, .v (.string v2.1)), (25, .cloB 71 [.box 9 [.v (.string v4.1)], .box 9 [.v (.string v4.2.1)], .box 3 [.v (.int .i64 v4.2.2)]])]) (init := [0, 1, 2, 3, 4, 5, 6]) (fin := [0, 1, 2, 3, 4, 8]) (sps := [⟨[5], [], [7], [(.slot 24)]⟩, ⟨[7], [], [8], [(.slot 25)]⟩]) (es' := [(_, _), (_, _), (_, _), (_, _), (_, _), (25, .cloB 71 [.box 9 [.v (.string v4.1)], .box 9 [.v (.string v4.2.1)], .box 3 [.v (.int .i64 v4.2.2)]])]) (by kernel_rfl) rfl rfl
     ⟨st_plain rfl (op_move _ _ _ _ rfl rfl),
     st_plain rfl (op_callS _ _ 47 _ _ rfl Tryd.call47 rfl rfl (ok_strings_SplitSeq v2.1 (⟨#[32]⟩ : ByteArray) _ hv4) rfl),
     trivial⟩ ?_
    refine pt_then ?_
    refine ht_block ?_
    refine ht_pick [5, 0, 1, 2, 3, 4] (by kernel_rfl) (es' := [(25, .cloB 71 [.box 9 [.v (.string v4.1)], .box 9 [.v (.string v4.2.1)], .box 3 [.v (.int .i64 v4.2.2)]]), (53, .glob (GL mx)), (2, .box 3 [.v (.int .i64 kind)]), (4, .box 24 [.v (.slice none 0 0)]), (5, .box 4 [.v (.bool false)]), (6, .box 24 [.v (.slice none 0 0)])]) rfl ?_
    refine ht_sub (fs := [(25, .cloB 71 [.box 9 [.v (.string v4.1)], .box 9 [.v (.string v4.2.1)], .box 3 [.v (.int .i64 v4.2.2)]]), (53, .glob (GL mx)), (2, .box 3 [.v (.int .i64 kind)]), (4, .box 24 [.v (.slice none 0 0)]), (5, .box 4 [.v (.bool false)]), (6, .box 24 [.fl (.own 46) 2 (List.flatten (List.map T_Param.enc []))])]) (.same _ (.same _ (.same _ (.same _ (.same _ (.box _ _ (subs_cons (sub_nil 46 2) (subs_nil)) rfl .nil)))))) ?_
    refine ht_rangeF h 71 25 26 54 _ [53, 2, 4, 5, 6] Tryd.call71 (fun (s46 : (List T_Param)) => [(53, .glob (GL mx)), (2, .box 3 [.v (.int .i64 kind)]), (4, .box 24 [.v (.slice none 0 0)]), (5, .box 4 [.v (.bool false)]), (6, .box 24 [.fl (.own 46) 2 (List.flatten (List.map T_Param.enc s46))])]) (fun (s52 : (List T_Param)) => [(53, .glob (GL mx)), (2, .box 3 [.v (.int .i64 kind)]), (4, .box 24 [.v (.slice none 0 0)]), (5, .box 4 [.v (.bool false)]), (6, .box 24 [.fl (.own 46) 2 (List.flatten (List.map T_Param.enc s52))])]) (fun l J Y hY t t' h => ok_strings_splitSeq_1 mx l J Y hY v4.1 v4.2.1 v4.2.2 t t' h) hn rfl (fun _ => rfl) (fun _ => rfl) (fun _ => rfl) rfl rfl (fun _ => ⟨rfl, rfl⟩) rfl (glIn_look 53 rfl) ?_ ?_ ?_
    ·rintro kk g0 hn hio x s46 u h
     refine ht_es (es' := [(26, .v (.string x)), (53, .glob (GL mx)), (2, .box 3 [.v (.int .i64 kind)]), (4, .box 24 [.v (.slice none 0 0)]), (5, .box 4 [.v (.bool false)]), (6, .box 24 [.fl (.own 46) 2 (List.flatten (List.map T_Param.enc s46))]), (53, .v (kk.tm.getD 53 undef)), (2, .v (kk.tm.getD 2 undef)), (4, .v (kk.tm.getD 4 undef)), (5, .v (kk.tm.getD 5 undef)), (6, .v (kk.tm.getD 6 undef)), (54, .inv kk.ready)]) rfl ?_
     refine ht_seqR hn (El := [_, _, _, _, _, _, _, _, _, _, _, _, (8, .v (.string x))]) (init := [0, 1, 2, 3, 4, 5, 6, 7, 8, 9, 10, 11]) (fin := [1, 2, 3, 4, 5, 6, 7, 8, 9, 10, 11, 12]) (sps := [⟨[0], [], [12], [(.slot 8)]⟩]) (es' := [(_, _), (_, _), (_, _), (_, _), (_, _), (_, _), (_, _), (_, _), (_, _), (_, _), (_, _), (8, .v (.string x))]) (by kernel_rfl) rfl rfl
      ⟨st_plain rfl (op_assign _ _ _ _ rfl rfl),
      trivial⟩ ?_
     refine pt_pick [0, 1, 2, 3, 4, 5, 6, 7, 8, 9, 11, 10] (by kernel_rfl) (es' := [(53, .glob (GL mx)), (2, .box 3 [.v (.int .i64 kind)]), (4, .box 24 [.v (.slice none 0 0)]), (5, .box 4 [.v (.bool false)]), (6, .box 24 [.fl (.own 46) 2 (List.flatten (List.map T_Param.enc s46))]), (53, .v (kk.tm.getD 53 undef)), (2, .v (kk.tm.getD 2 undef)), (4, .v (kk.tm.getD 4 undef)), (5, .v (kk.tm.getD 5 undef)), (6, .v (kk.tm.getD 6 undef)), (8, .v (.string x)), (54, .inv kk.ready)]) rfl ?_
     refine pt_begin (es := [(53, .glob (GL mx)), (2, .box 3 [.v (.int .i64 kind)]), (4, .box 24 [.v (.slice none 0 0)]), (5, .box 4 [.v (.bool false)]), (6, .box 24 [.fl (.own 46) 2 (List.flatten (List.map T_Param.enc s46))]), (53, .v (kk.tm.getD 53 undef)), (2, .v (kk.tm.getD 2 undef)), (4, .v (kk.tm.getD 4 undef)), (5, .v (kk.tm.getD 5 undef)), (6, .v (kk.tm.getD 6 undef)), (8, .v (.string x))]) 54 rfl ?_
     refine ht_block ?_
     refine ht_seq ?_
     obtain ⟨v5, hv5, h⟩ := bind_some h
     refine ht_seqR hn (El := (_ :: _ :: _ :: _ :: _ :: _ :: _ :: _ :: _ :: _ :: _ :: _ :: (28, .v (.string x)) :: (29, .tup [.v (.string v5.1), .v (.string v5.2.1), .v (.bool v5.2.2)]) :: (27, .tup [.v (.string v5.1), .v (.string v5.2.1), .v (.bool v5.2.2)]) :: (30, .v (.string v5.1)) :: (31, .v (.string v5.2.1)) :: (32, .v (.bool v5.2.2)) :: (9, .v (.string v5.1)) :: (10, .v (.string v5.2.1)) :: (11, .v (.bool v5.2.2)) :: [])) (init := [0, 1, 2, 3, 4, 5, 6, 7, 8, 9, 10, 11]) (fin := [0, 1, 2, 3, 4, 5, 6, 7, 8, 9, 11, 18, 19]) (sps := [⟨[10], [], [12], [(.slot 28)]⟩, ⟨[12], [], [13], [(.slot 29)]⟩, ⟨[], [13], [14], [(.slot 27)]⟩, ⟨[14], [], [15], [(.slot 30)]⟩, ⟨[14], [], [16], [(.slot 31)]⟩, ⟨[14], [], [17], [(.slot 32)]⟩, ⟨[15], [], [18], [(.slot 9)]⟩, ⟨[16], [], [19], [(.slot 10)]⟩, ⟨[17], [], [20], [(.slot 11)]⟩]) (es' := [(_, _), (_, _), (_, _), (_, _), (_, _), (_, _), (_, _), (_, _), (_, _), (_, _), (_, _), (9, .v (.string v5.1)), (10, .v (.string v5.2.1))]) (by kernel_rfl) rfl rfl
      ⟨st_plain rfl (op_move _ _ _ _ rfl rfl),
      st_plain rfl (op_call _ _ 30 _ _ rfl Tryd.call30 rfl (ok_strings_Cut x (⟨#[61]⟩ : ByteArray) _ hv5) rfl rfl),
      st_plain rfl (op_move_take _ _ _ _ rfl),
      st_plain rfl (op_extract _ _ _ _ _ rfl rfl (Nat.le_of_ble_eq_true rfl) rfl rfl),
      st_plain rfl (op_extract _ _ _ _ _ rfl rfl (Nat.le_of_ble_eq_true rfl) rfl rfl),
      st_plain rfl (op_extract _ _ _ _ _ rfl rfl (Nat.le_of_ble_eq_true rfl) rfl rfl),
      st_plain rfl (op_assign _ _ _ _ rfl rfl),
      st_plain rfl (op_assign _ _ _ _ rfl rfl),
      st_plain rfl (op_assign _ _ _ _ rfl rfl),
      trivial⟩ ?_
     refine pt_then ?_
     refine ht_seq ?_
     obtain ⟨v6, hv6, h⟩ := bind_some h
     obtain ⟨v7, hv7, h⟩ := bind_some h
     refine ht_anyR (by kernel_rfl) hn (El := (_ :: _ :: _ :: _ :: _ :: _ :: _ :: _ :: _ :: _ :: _ :: _ :: _ :: (34, .v (.int .i64 kind)) :: (35, .v (.string v5.1)) :: (36, .v (.string v6)) :: (37, .v (.string v5.2.1)) :: (38, .tup [.agg [.v (.string v7.1.Key), .v (.string v7.1.Val)], .v (.bool v7.2)]) :: (33, .tup [.agg [.v (.string v7.1.Key), .v (.string v7.1.Val)], .any]) :: (33, .tup [.any, .v (.bool v7.2)]) :: (39, .agg [.v (.string v7.1.Key), .v (.string v7.1.Val)]) :: (33, .tup [.any, .any]) :: (40, .v (.bool v7.2)) :: (12, .box 46 [.v (.string (⟨#[]⟩ : ByteArray)), .v (.string (⟨#[]⟩ : ByteArray))]) :: (12, .box 46 [.v (.string v7.1.Key), .v (.string v7.1.Val)]) :: (13, .v (.bool v7.2)) :: [])) (init := [0, 1, 2, 3, 4, 5, 6, 7, 8, 9, 10, 11, 12]) (fin := [0, 1, 2, 3, 4, 5, 6, 7, 8, 9, 10, 24, 25]) (sps := [⟨[1], [], [13], [(.slot 34)]⟩, ⟨[11], [], [14], [(.slot 35)]⟩, ⟨[14], [], [15], [(.slot 36)]⟩, ⟨[12], [], [16], [(.slot 37)]⟩, ⟨[13, 15, 16], [], [17], [(.slot 38)]⟩, ⟨[], [17], [18, 19], [(.slot 33)]⟩, ⟨[], [18], [21, 20], [(.slot 39)]⟩, ⟨[19], [], [22], [(.slot 40)]⟩, ⟨[], [], [23], [(.slot 12)]⟩, ⟨[20], [23], [24], [.cell 12 0, .cell 12 1]⟩, ⟨[22], [], [25], [(.slot 13)]⟩]) (es' := [(_, _), (_, _), (_, _), (_, _), (_, _), (_, _), (_, _), (_, _), (_, _), (_, _), (_, _), (12, .box 46 [.v (.string v7.1.Key), .v (.string v7.1.Val)]), (13, .v (.bool v7.2))]) (by kernel_rfl) rfl rfl
      ⟨st_plain rfl (op_load _ _ _ _ _ _ Tryd.underlying3 rfl rfl rfl (Nat.le_of_ble_eq_true rfl) rfl rfl rfl),
      st_plain rfl (op_move _ _ _ _ rfl rfl),
      st_plain rfl (op_call _ _ 31 _ _ rfl Tryd.call31 rfl (ok_path_Fold v5.1 _ hv6) rfl rfl),
      st_plain rfl (op_move _ _ _ _ rfl rfl),
      st_plain rfl (op_call _ _ 53 _ _ rfl Tryd.call53 rfl (ok_verb_parameter kind v6 v5.2.1 _ hv7) rfl rfl),
      st_plain rfl (LOp.split (A := []) 33 0 _ _ _ (op_move_take _ _ _ _ rfl) (Nat.le_of_ble_eq_true rfl) rfl rfl),
      st_plain rfl (op_extract_take _ _ _ _ _ rfl (Nat.le_of_ble_eq_true rfl) rfl rfl (by decide) rfl),
      st_plain rfl (op_extract _ _ _ _ _ rfl rfl (Nat.le_of_ble_eq_true rfl) rfl rfl),
      st_plain rfl (op_alloc _ _ zr46),
      st_plain rfl (op_store _ _ _ _ _ _ _ _ sz46 rfl rfl rfl rfl (Nat.le_of_ble_eq_true rfl) rfl rfl),
      st_plain rfl (op_assign _ _ _ _ rfl rfl),
      trivial⟩ ?_
     refine pt_then ?_
     refine ht_seq ?_
     refine ht_seq ?_
     refine ht_joinS h (fun (s53 : Bool) => [(53, .glob (GL mx)), (2, .box 3 [.v (.int .i64 kind)]), (4, .box 24 [.v (.slice none 0 0)]), (5, .box 4 [.v (.bool false)]), (6, .box 24 [.fl (.own 46) 2 (List.flatten (List.map T_Param.enc s46))]), (53, .v (kk.tm.getD 53 undef)), (2, .v (kk.tm.getD 2 undef)), (4, .v (kk.tm.getD 4 undef)), (5, .v (kk.tm.getD 5 undef)), (6, .v (kk.tm.getD 6 undef)), (54, .inv kk.busy), (12, .box 46 [.v (.string v7.1.Key), .v (.string v7.1.Val)]), (47, .v (.bool s53))]) ?_ ?_
     ·rintro s53 h
      refine pt_then ?_
      refine ht_cond _ rfl (fun hb57 => ?_) (fun hb57 => ?_)
      ·have h := cond_t hb57 h
       refine ht_seq ?_
       refine ht_seqR hn (El := (_ :: _ :: _ :: _ :: _ :: _ :: _ :: _ :: _ :: _ :: _ :: _ :: _ :: (4, .box 24 [.v (.slice none 0 0)]) :: (5, .box 4 [.v (.bool false)]) :: [])) (init := [0, 1, 2, 3, 4, 5, 6, 7, 8, 9, 10, 11, 12]) (fin := [0, 1, 13, 14, 4, 5, 6, 7, 8, 9, 10]) (sps := [⟨[], [2], [13], [.cell 4 0]⟩, ⟨[], [3], [14], [.cell 5 0]⟩]) (es' := [(_, _), (_, _), (4, .box 24 [.v (.slice none 0 0)]), (5, .box 4 [.v (.bool false)]), (_, _), (_, _), (_, _), (_, _), (_, _), (_, _), (_, _)]) (by kernel_rfl) rfl rfl
        ⟨st_plain rfl (op_store _ _ _ _ _ _ _ _ sz24 rfl rfl rfl rfl (Nat.le_of_ble_eq_true rfl) rfl rfl),
        st_plain rfl (op_store _ _ _ _ _ _ _ _ sz4 rfl rfl rfl rfl (Nat.le_of_ble_eq_true rfl) rfl rfl),
        trivial⟩ ?_
       refine pt_then ?_
       refine ht_ret ?_
       refine pt_r_then ?_
       refine pt_r_in ?_
       obtain rfl := Option.some.inj h
       exact pt_rret 54 [53, 2, 4, 5, 6] _ rfl rfl (by kernel_rfl)
      ·have h := cond_f hb57 h
       refine ht_skip ?_
       refine pt_then ?_
       obtain ⟨v14, hv14, h⟩ := bind_some h
       refine ht_seqR hn (El := (_ :: _ :: _ :: _ :: _ :: _ :: _ :: _ :: _ :: _ :: _ :: _ :: _ :: (48, .same (.cell 6 0)) :: (49, .agg [.v (.string v7.1.Key), .v (.string v7.1.Val)]) :: (50, .fl (.own 46) 2 (List.flatten (List.map T_Param.enc [v7.1]))) :: (51, .fl (.own 46) 2 (List.flatten (List.map T_Param.enc v14))) :: (6, .box 24 [.any]) :: (6, .box 24 [.fl (.own 46) 2 (List.flatten (List.map T_Param.enc v14))]) :: [])) (init := [0, 1, 2, 3, 4, 5, 6, 7, 8, 9, 10, 11, 12]) (fin := [0, 1, 2, 3, 18, 5, 6, 7, 8, 9, 10]) (sps := [⟨[4], [], [13], [(.slot 48)]⟩, ⟨[11], [], [14], [(.slot 49)]⟩, ⟨[14], [], [15], [(.slot 50)]⟩, ⟨[13, 15], [4], [17, 16], [(.slot 51)]⟩, ⟨[], [13, 16, 17], [18], [.cell 6 0]⟩]) (es' := [(_, _), (_, _), (_, _), (_, _), (6, .box 24 [.fl (.own 46) 2 (List.flatten (List.map T_Param.enc v14))]), (_, _), (_, _), (_, _), (_, _), (_, _), (_, _)]) (by kernel_rfl) rfl rfl
        ⟨st_plain rfl (op_load _ _ _ _ _ _ Tryd.underlying24 rfl rfl rfl (Nat.le_of_ble_eq_true rfl) rfl rfl rfl),
        st_plain rfl (op_loadA _ _ _ _ _ _ _ Tryd.underlying46 rfl sz46 rfl rfl (Nat.le_of_ble_eq_true rfl) rfl rfl),
        st_plain rfl (op_buildSlice _ _ 2 (.agg #[.string ByteArray.empty, .string ByteArray.empty]) (List.flatten (List.map T_Param.enc [v7.1])) [(0, .agg #[.string v7.1.Key, .string v7.1.Val])] Tryd.underlying24 sz46 zr46 (fun _ V w o a hv hes => by have e0 := agg_v (ys := [.string v7.1.Key, .string v7.1.Val]) hv hes (x := .tmp 49) rfl; simp only [List.map_toArray, List.map_cons, List.map_nil, e0]; try rfl) (litfill (by simp [Instr.fill, Value.cells]; rfl) (by simp [List.range, List.range.loop, T_Param.enc] <;> rfl)) (by simp [Value.oneCell', T_Param.enc]) rfl (by decide) (by decide) (by decide)),
        st_plain rfl (op_app_cell _ _ _ _ _ _ el24 rfl rfl (Nat.le_of_ble_eq_true rfl) rfl (flat_len T_Param.len _) (flat_len T_Param.len _) hv14 (flat_app (app_eq hv14)) (Nat.ne_of_beq_eq_false rfl) rfl rfl),
        st_plain rfl (LOp.drop [_] (op_store_take _ _ _ _ _ _ _ _ sz24 rfl rfl rfl (Nat.le_of_ble_eq_true rfl) rfl rfl)),
        trivial⟩ ?_
       refine pt_inb ?_
       obtain rfl := Option.some.inj h
       exact pt_rnext 54 [53, 2, 4, 5, 6] _ rfl rfl (by kernel_rfl)
     ·intro u54 h hl55 hr56
      refine cond_some h (fun hg11_2 h => ?_) (fun hg11_2 h => ?_)
      ·refine ht_seqR hn (El := (_ :: _ :: _ :: _ :: _ :: _ :: _ :: _ :: _ :: _ :: _ :: _ :: _ :: (41, .v (.bool v7.2)) :: (42, .v (.bool (!v7.2))) :: (43, .v (.bool true)) :: (44, .v undef) :: (45, .v undef) :: (46, .v undef) :: (47, .v (.bool true)) :: [])) (init := [0, 1, 2, 3, 4, 5, 6, 7, 8, 9, 10, 11, 12]) (fin := [0, 1, 2, 3, 4, 5, 6, 7, 8, 9, 10, 11, 19]) (sps := [⟨[12], [], [13], [(.slot 41)]⟩, ⟨[13], [], [14], [(.slot 42)]⟩, ⟨[14], [], [15], [(.slot 43)]⟩, ⟨[15], [], [16], [(.slot 44)]⟩, ⟨[15], [], [17], [(.slot 45)]⟩, ⟨[15], [], [18], [(.slot 46)]⟩, ⟨[15], [], [19], [(.slot 47)]⟩]) (es' := [(_, _), (_, _), (_, _), (_, _), (_, _), (_, _), (_, _), (_, _), (_, _), (_, _), (_, _), (_, _), (47, .v (.bool true))]) (by kernel_rfl) rfl rfl
        ⟨st_plain rfl (op_move _ _ _ _ rfl rfl),
        st_plain rfl (op_un _ _ _ _ rfl rfl),
        st_plain rfl (op_move _ _ _ _ (congrArg (fun b => AV.v (Value.bool b)) hg11_2) rfl),
        st_skip 2 43 _ false rfl rfl rfl rfl (List.Mem.head _),
        st_skip 2 43 _ false rfl rfl rfl rfl (List.Mem.head _),
        st_skip 2 43 _ false rfl rfl rfl rfl (List.Mem.head _),
        st_plain rfl (op_pick _ _ true _ rfl rfl),
        trivial⟩ ?_
       exact hl55 _ (Option.some.inj h).symm
      ·obtain ⟨v8, hv8, h⟩ := bind_some h
       refine ht_seqR hn (El := (_ :: _ :: _ :: _ :: _ :: _ :: _ :: _ :: _ :: _ :: _ :: _ :: _ :: (41, .v (.bool v7.2)) :: (42, .v (.bool (!v7.2))) :: (43, .v (.bool false)) :: (44, .same (.cell 6 0)) :: (45, .clo 55 [12]) :: (46, .v (.bool v8)) :: (47, .v (.bool v8)) :: [])) (init := [0, 1, 2, 3, 4, 5, 6, 7, 8, 9, 10, 11, 12]) (fin := [0, 1, 2, 3, 4, 5, 6, 7, 8, 9, 10, 11, 19]) (sps := [⟨[12], [], [13], [(.slot 41)]⟩, ⟨[13], [], [14], [(.slot 42)]⟩, ⟨[14], [], [15], [(.slot 43)]⟩, ⟨[15, 4], [], [16], [(.slot 44)]⟩, ⟨[15], [], [17], [(.slot 45)]⟩, ⟨[15, 16, 4, 17, 11], [], [18], [(.slot 46)]⟩, ⟨[15, 18], [], [19], [(.slot 47)]⟩]) (es' := [(_, _), (_, _), (_, _), (_, _), (_, _), (_, _), (_, _), (_, _), (_, _), (_, _), (_, _), (_, _), (47, .v (.bool v8))]) (by kernel_rfl) rfl rfl
        ⟨st_plain rfl (op_move _ _ _ _ rfl rfl),
        st_plain rfl (op_un _ _ _ _ rfl rfl),
        st_plain rfl (op_move _ _ _ _ (congrArg (fun b => AV.v (Value.bool b)) hg11_2) rfl),
        st_run 2 43 false rfl rfl rfl (List.Mem.head _) (op_load _ _ _ _ _ _ Tryd.underlying24 rfl rfl rfl (Nat.le_of_ble_eq_true rfl) rfl rfl rfl),
        st_run 2 43 false rfl rfl rfl (List.Mem.head _) (op_makeFunc_name _ _ _ 12 (by decide)),
        st_run 2 43 false rfl rfl rfl (List.Mem.head _) (op_callC _ 46 12 45 54 55 [.string v7.1.Key, .string v7.1.Val] [.tmp 44] _ _ rfl Tryd.call54 rfl rfl rfl rfl (fun bx => ok_slices_ContainsFunc_api_Param_api_Param_of_verb_parameters_1 bx s46 v7.1 _ hv8) rfl rfl),
        st_plain rfl (op_pick _ _ false _ rfl rfl),
        trivial⟩ ?_
       exact hl55 _ (Option.some.inj h).symm
    ·rintro D s46 h
     refine pt_inb ?_
     refine pt_then ?_
     refine ht_seq ?_
     refine ht_frz 4 hio (es' := [(53, .glob (GL mx)), (2, .box 3 [.v (.int .i64 kind)]), (4, .box 24 [.v (.slice none 0 0)]), (5, .box 4 [.v (.bool false)]), (6, .box 24 [.fl .ro 2 (List.flatten (List.map T_Param.enc s46))])]) rfl ?_
     refine ht_seqR hn (El := [_, _, _, _, _, (52, .fl .ro 2 (List.flatten (List.map T_Param.enc s46))), (4, .box 24 [.fl .ro 2 (List.flatten (List.map T_Param.enc s46))]), (5, .box 4 [.v (.bool true)])]) (init := [0, 1, 2, 3, 4]) (fin := [0, 6, 7]) (sps := [⟨[4], [], [5], [(.slot 52)]⟩, ⟨[5], [2], [6], [.cell 4 0]⟩, ⟨[], [3], [7], [.cell 5 0]⟩]) (es' := [(_, _), (4, .box 24 [.fl .ro 2 (List.flatten (List.map T_Param.enc s46))]), (5, .box 4 [.v (.bool true)])]) (by kernel_rfl) rfl rfl
      ⟨st_plain rfl (op_load _ _ _ _ _ _ Tryd.underlying24 rfl rfl rfl (Nat.le_of_ble_eq_true rfl) rfl rfl rfl),
      st_plain rfl (op_store _ _ _ _ _ _ _ _ sz24 rfl rfl rfl rfl (Nat.le_of_ble_eq_true rfl) rfl rfl),
      st_plain rfl (op_store _ _ _ _ _ _ _ _ sz4 rfl rfl rfl rfl (Nat.le_of_ble_eq_true rfl) rfl rfl),
      trivial⟩ ?_
     refine pt_then ?_
     refine ht_ret ?_
     refine pt_pick [1, 2] (by kernel_rfl) (es' := [(_, _), (_, _)]) rfl ?_
     obtain rfl := Option.some.inj h
     exact pt_ret hio rfl (.cell1 _ _ _ _ Tryd.underlying24 rfl (.cell1 _ _ _ _ Tryd.underlying4 rfl .nil)) rfl rfl
    ·rintro D s52 h
     refine pt_pick [2, 3] (by kernel_rfl) (es' := [(_, _), (_, _)]) rfl ?_
     refine pt_sub (fs := [(4, .box 24 [.fl (.own 46) 2 (List.flatten (List.map T_Param.enc []))]), (5, .box 4 [.v (.bool false)])]) (.box _ _ (subs_cons (sub_nil 46 2) (subs_nil)) rfl (.same _ .nil)) ?_
     refine pt_frz 0 hio (es' := [(4, .box 24 [.fl .ro 2 (List.flatten (List.map T_Param.enc []))]), (5, .box 4 [.v (.bool false)])]) rfl ?_
     refine pt_r_in ?_
     refine pt_r_then ?_
     obtain rfl := Option.some.inj h
     exact pt_ret hio rfl (.cell1 _ _ _ _ Tryd.underlying24 rfl (.cell1 _ _ _ _ Tryd.underlying4 rfl .nil)) rfl rfl
set_option maxHeartbeats 1000000 in
theorem ok_verb_pathCommand (mx : Int) (kind : Int) (line : ByteArray) (r : (T_Cmd × Bool)) (h : Sh.verb_pathCommand kind line = some r) : FnG Tryd.prog (GL mx) 35 [.v (.int .i64 kind), .v (.string line)] (.tup [.agg [.v (.int .i64 r.1.Kind), .v (.string r.1.Text), .v (.bool r.1.Path.Null), .v (.string r.1.Path.Local), .v (.string r.1.Path.Domain), .fl .ro 2 (List.flatten (List.map T_Param.enc r.1.Params))], .v (.bool r.2)]) := by
  unfold Sh.verb_pathCommand at h
  refine fn_okG Tryd.func35 rfl (Nat.le_of_ble_eq_true rfl) rfl rfl fun g0 hn hio => ?_
  refine ht_seq ?_
  refine ht_seqR hn (El := [_, _, _, (4, .box 26 [.v (.int .i64 0), .v (.string (⟨#[]⟩ : ByteArray)), .v (.bool false), .v (.string (⟨#[]⟩ : ByteArray)), .v (.string (⟨#[]⟩ : ByteArray)), .v (.slice none 0 0)]), (5, .v (.bool false))]) (init := [0, 1, 2]) (fin := [0, 1, 2, 3]) (sps := [⟨[], [], [3], [(.slot 4)]⟩, ⟨[], [], [4], [(.slot 5)]⟩]) (es' := [(_, _), (_, _), (_, _), (4, .box 26 [.v (.int .i64 0), .v (.string (⟨#[]⟩ : ByteArray)), .v (.bool false), .v (.string (⟨#[]⟩ : ByteArray)), .v (.string (⟨#[]⟩ : ByteArray)), .v (.slice none 0 0)])]) (by kernel_rfl) rfl rfl
   ⟨st_plain rfl (op_alloc _ _ zr26),
   st_plain rfl (op_assign _ _ _ _ rfl rfl),
   trivial⟩ ?_
  refine pt_then ?_
  refine ht_seq ?_
  obtain ⟨v1, hv1, h⟩ := bind_some h
  obtain ⟨v2, hv2, h⟩ := bind_some h
  refine ht_seqR hn (El := [_, _, _, _, (13, .v (.string line)), (14, .v (.int .i64 kind)), (15, .v (.string v1)), (16, .tup [.v (.string v2.1), .v (.bool v2.2)]), (12, .tup [.v (.string v2.1), .v (.bool v2.2)]), (17, .v (.string v2.1)), (18, .v (.bool v2.2)), (6, .v (.string v2.1)), (7, .v (.bool v2.2))]) (init := [0, 1, 2, 3]) (fin := [0, 2, 3, 11, 12]) (sps := [⟨[1], [], [4], [(.slot 13)]⟩, ⟨[0], [], [5], [(.slot 14)]⟩, ⟨[5], [], [6], [(.slot 15)]⟩, ⟨[4, 6], [], [7], [(.slot 16)]⟩, ⟨[], [7], [8], [(.slot 12)]⟩, ⟨[8], [], [9], [(.slot 17)]⟩, ⟨[8], [], [10], [(.slot 18)]⟩, ⟨[9], [], [11], [(.slot 6)]⟩, ⟨[10], [], [12], [(.slot 7)]⟩]) (es' := [(_, _), (_, _), (_, _), (6, .v (.string v2.1)), (7, .v (.bool v2.2))]) (by kernel_rfl) rfl rfl
   ⟨st_plain rfl (op_move _ _ _ _ rfl rfl),
   st_plain rfl (op_move _ _ _ _ rfl rfl),
   st_plain rfl (op_call _ _ 27 _ _ rfl Tryd.call27 rfl (ok_verb_opening kind _ hv1) rfl rfl),
   st_plain rfl (op_call _ _ 32 _ _ rfl Tryd.call32 rfl (ok_verb_cutFold line v1 _ hv2) rfl rfl),
   st_plain rfl (op_move_take _ _ _ _ rfl),
   st_plain rfl (op_extract _ _ _ _ _ rfl rfl (Nat.le_of_ble_eq_true rfl) rfl rfl),
   st_plain rfl (op_extract _ _ _ _ _ rfl rfl (Nat.le_of_ble_eq_true rfl) rfl rfl),
   st_plain rfl (op_assign _ _ _ _ rfl rfl),
   st_plain rfl (op_assign _ _ _ _ rfl rfl),
   trivial⟩ ?_
  refine pt_then ?_
  refine ht_seq ?_
  refine ht_seq ?_
  refine ht_seqR hn (El := [_, _, _, _, _, (19, .v (.bool v2.2)), (20, .v (.bool (!v2.2)))]) (init := [0, 1, 2, 3, 4]) (fin := [0, 1, 2, 3, 6]) (sps := [⟨[4], [], [5], [(.slot 19)]⟩, ⟨[5], [], [6], [(.slot 20)]⟩]) (es' := [(_, _), (_, _), (_, _), (_, _), (20, .v (.bool (!v2.2)))]) (by kernel_rfl) rfl rfl
   ⟨st_plain rfl (op_move _ _ _ _ rfl rfl),
   st_plain rfl (op_un _ _ _ _ rfl rfl),
   trivial⟩ ?_
  refine pt_then ?_
  refine ht_cond _ rfl (fun hb15 => ?_) (fun hb15 => ?_)
  ·have h := cond_t hb15 h
   refine ht_seq ?_
   refine ht_seqR hn (El := [_, _, _, _, _, (21, .agg [.v (.int .i64 0), .v (.string (⟨#[]⟩ : ByteArray)), .v (.bool false), .v (.string (⟨#[]⟩ : ByteArray)), .v (.string (⟨#[]⟩ : ByteArray)), .v (.slice none 0 0)]), (4, .box 26 [.v (.int .i64 0), .v (.string (⟨#[]⟩ : ByteArray)), .v (.bool false), .v (.string (⟨#[]⟩ : ByteArray)), .v (.string (⟨#[]⟩ : ByteArray)), .v (.slice none 0 0)]), (5, .v (.bool false))]) (init := [0, 1, 2, 3, 4]) (fin := [1, 6, 7]) (sps := [⟨[], [], [5], [(.slot 21)]⟩, ⟨[], [5, 2], [6], [.cell 4 0, .cell 4 1, .cell 4 2, .cell 4 3, .cell 4 4, .cell 4 5]⟩, ⟨[], [], [7], [(.slot 5)]⟩]) (es' := [(_, _), (4, .box 26 [.v (.int .i64 0), .v (.string (⟨#[]⟩ : ByteArray)), .v (.bool false), .v (.string (⟨#[]⟩ : ByteArray)), .v (.string (⟨#[]⟩ : ByteArray)), .v (.slice none 0 0)]), (5, .v (.bool false))]) (by kernel_rfl) rfl rfl
    ⟨st_plain rfl (op_build _ _ _ _ [1, 1, 3, 1] _ _ Tryd.underlying26 zr26 (fs26 _ Tryd.underlying26) Src.nil rfl rfl rfl),
    st_plain rfl (op_store_self _ _ _ 21 4 6 sz26 rfl rfl rfl rfl rfl (.eq _ (.eq _ (.eq _ (.eq _ (.eq _ (.eq _ (.nil _))))))) rfl),
    st_plain rfl (op_assign _ _ _ _ rfl rfl),
    trivial⟩ ?_
   refine pt_then ?_
   refine ht_ret ?_
   refine pt_pick [1, 2] (by kernel_rfl) (es' := [(_, _), (_, _)]) rfl ?_
   refine pt_sub (fs := [(4, .box 26 [.v (.int .i64 0), .v (.string (⟨#[]⟩ : ByteArray)), .v (.bool false), .v (.string (⟨#[]⟩ : ByteArray)), .v (.string (⟨#[]⟩ : ByteArray)), .fl (.own 46) 2 (List.flatten (List.map T_Param.enc []))]), (5, .v (.bool false))]) (.box _ _ (subs_cons (sub_refl _) (subs_cons (sub_refl _) (subs_cons (sub_refl _) (subs_cons (sub_refl _) (subs_cons (sub_refl _) (subs_cons (sub_nil 46 2) (subs_nil))))))) rfl (.same _ .nil)) ?_
   refine pt_frz 0 hio (es' := [(4, .box 26 [.v (.int .i64 0), .v (.string (⟨#[]⟩ : ByteArray)), .v (.bool false), .v (.string (⟨#[]⟩ : ByteArray)), .v (.string (⟨#[]⟩ : ByteArray)), .fl .ro 2 (List.flatten (List.map T_Param.enc []))]), (5, .v (.bool false))]) rfl ?_
   refine pt_r_then ?_
   obtain rfl := Option.some.inj h
   exact pt_ret hio rfl (.cellA _ _ _ _ Tryd.underlying26 rfl sz26 (.tmp _ _ .nil)) rfl rfl
  ·have h := cond_f hb15 h
   refine ht_skip ?_
   refine pt_then ?_
   refine ht_seq ?_
   obtain ⟨v4, hv4, h⟩ := bind_some h
   obtain ⟨v5, hv5, h⟩ := bind_some h
   refine ht_seqR hn (El := [_, _, _, _, _, (22, .v (.string v2.1)), (23, .v (.int .i64 v4)), (24, .v (.int .i64 v5)), (8, .v (.int .i64 v5))]) (init := [0, 1, 2, 3, 4]) (fin := [0, 1, 2, 3, 8]) (sps := [⟨[3], [], [5], [(.slot 22)]⟩, ⟨[5], [], [6], [(.slot 23)]⟩, ⟨[6], [], [7], [(.slot 24)]⟩, ⟨[7], [], [8], [(.slot 8)]⟩]) (es' := [(_, _), (_, _), (_, _), (_, _), (8, .v (.int .i64 v5))]) (by kernel_rfl) rfl rfl
    ⟨st_plain rfl (op_move _ _ _ _ rfl rfl),
    st_plain rfl (op_call _ _ 41 _ _ rfl Tryd.call41 rfl (ok_strings_Index v2.1 (⟨#[62]⟩ : ByteArray) _ hv4) rfl rfl),
    st_plain rfl (op_bin _ _ _ _ _ rfl rfl (ibind (f := Value.int .i64) (Option.some.inj hv5))),
    st_plain rfl (op_assign _ _ _ _ rfl rfl),
    trivial⟩ ?_
   refine pt_then ?_
   refine ht_seq ?_
   obtain ⟨v6, hv6, h⟩ := bind_some h
   obtain ⟨v7, hv7, h⟩ := bind_some h
   refine ht_seqR hn (El := (_ :: _ :: _ :: _ :: _ :: (26, .v (.string v2.1)) :: (27, .v (.int .i64 v5)) :: (28, .v (.string v6)) :: (29, .tup [.agg [.v (.bool v7.1.Null), .v (.string v7.1.Local), .v (.string v7.1.Domain)], .v (.int .i64 v7.2)]) :: (25, .tup [.agg [.v (.bool v7.1.Null), .v (.string v7.1.Local), .v (.string v7.1.Domain)], .v (.int .i64 v7.2)]) :: (30, .agg [.v (.bool v7.1.Null), .v (.string v7.1.Local), .v (.string v7.1.Domain)]) :: (31, .v (.int .i64 v7.2)) :: (9, .box 23 [.v (.bool false), .v (.string (⟨#[]⟩ : ByteArray)), .v (.string (⟨#[]⟩ : ByteArray))]) :: (9, .box 23 [.v (.bool v7.1.Null), .v (.string v7.1.Local), .v (.string v7.1.Domain)]) :: (10, .v (.int .i64 v7.2)) :: [])) (init := [0, 1, 2, 3, 4]) (fin := [0, 1, 2, 3, 4, 13, 14]) (sps := [⟨[3], [], [5], [(.slot 26)]⟩, ⟨[4], [], [6], [(.slot 27)]⟩, ⟨[5, 6], [], [7], [(.slot 28)]⟩, ⟨[7, 1], [], [8], [(.slot 29)]⟩, ⟨[], [8], [9], [(.slot 25)]⟩, ⟨[9], [], [10], [(.slot 30)]⟩, ⟨[9], [], [11], [(.slot 31)]⟩, ⟨[], [], [12], [(.slot 9)]⟩, ⟨[10], [12], [13], [.cell 9 0, .cell 9 1, .cell 9 2]⟩, ⟨[11], [], [14], [(.slot 10)]⟩]) (es' := [(_, _), (_, _), (_, _), (_, _), (_, _), (9, .box 23 [.v (.bool v7.1.Null), .v (.string v7.1.Local), .v (.string v7.1.Domain)]), (10, .v (.int .i64 v7.2))]) (by kernel_rfl) rfl rfl
    ⟨st_plain rfl (op_move _ _ _ _ rfl rfl),
    st_plain rfl (op_move _ _ _ _ rfl rfl),
    st_plain rfl (op_substr _ _ _ 0 v5 _ Tryd.underlying9 rfl rfl ⟨_, rfl⟩ hv6),
    st_plain rfl (op_callG _ _ 56 42 _ _ rfl Tryd.call42 rfl rfl (fun _ h => h) (ok_path_Parse mx v6 _ hv7) rfl rfl),
    st_plain rfl (op_move_take _ _ _ _ rfl),
    st_plain rfl (op_extract_no _ _ _ _ _ _ rfl rfl (Nat.le_of_ble_eq_true rfl) rfl rfl),
    st_plain rfl (op_extract _ _ _ _ _ rfl rfl (Nat.le_of_ble_eq_true rfl) rfl rfl),
    st_plain rfl (op_alloc _ _ zr23),
    st_plain rfl (op_store _ _ _ _ _ _ _ _ sz23 rfl rfl rfl rfl (Nat.le_of_ble_eq_true rfl) rfl rfl),
    st_plain rfl (op_assign _ _ _ _ rfl rfl),
    trivial⟩ ?_
   refine pt_then ?_
   refine ht_seq ?_
   refine ht_seq ?_
   refine ht_joinS h (fun (s16 : Bool) => [(0, .v (.int .i64 kind)), (56, .glob (GL mx)), (4, .box 26 [.v (.int .i64 0), .v (.string (⟨#[]⟩ : ByteArray)), .v (.bool false), .v (.string (⟨#[]⟩ : ByteArray)), .v (.string (⟨#[]⟩ : ByteArray)), .v (.slice none 0 0)]), (6, .v (.string v2.1)), (8, .v (.int .i64 v5)), (9, .box 23 [.v (.bool v7.1.Null), .v (.string v7.1.Local), .v (.string v7.1.Domain)]), (41, .v (.bool s16))]) ?_ ?_
   ·rintro s16 h
    refine pt_then ?_
    refine ht_cond _ rfl (fun hb20 => ?_) (fun hb20 => ?_)
    ·have h := cond_t hb20 h
     refine ht_seq ?_
     refine ht_seqR hn (El := [_, _, _, _, _, _, _, (42, .agg [.v (.int .i64 0), .v (.string (⟨#[]⟩ : ByteArray)), .v (.bool false), .v (.string (⟨#[]⟩ : ByteArray)), .v (.string (⟨#[]⟩ : ByteArray)), .v (.slice none 0 0)]), (4, .box 26 [.v (.int .i64 0), .v (.string (⟨#[]⟩ : ByteArray)), .v (.bool false), .v (.string (⟨#[]⟩ : ByteArray)), .v (.string (⟨#[]⟩ : ByteArray)), .v (.slice none 0 0)]), (5, .v (.bool false))]) (init := [0, 1, 2, 3, 4, 5, 6]) (fin := [1, 8, 9]) (sps := [⟨[], [], [7], [(.slot 42)]⟩, ⟨[], [7, 2], [8], [.cell 4 0, .cell 4 1, .cell 4 2, .cell 4 3, .cell 4 4, .cell 4 5]⟩, ⟨[], [], [9], [(.slot 5)]⟩]) (es' := [(_, _), (4, .box 26 [.v (.int .i64 0), .v (.string (⟨#[]⟩ : ByteArray)), .v (.bool false), .v (.string (⟨#[]⟩ : ByteArray)), .v (.string (⟨#[]⟩ : ByteArray)), .v (.slice none 0 0)]), (5, .v (.bool false))]) (by kernel_rfl) rfl rfl
      ⟨st_plain rfl (op_build _ _ _ _ [1, 1, 3, 1] _ _ Tryd.underlying26 zr26 (fs26 _ Tryd.underlying26) Src.nil rfl rfl rfl),
      st_plain rfl (op_store_self _ _ _ 42 4 6 sz26 rfl rfl rfl rfl rfl (.eq _ (.eq _ (.eq _ (.eq _ (.eq _ (.eq _ (.nil _))))))) rfl),
      st_plain rfl (op_assign _ _ _ _ rfl rfl),
      trivial⟩ ?_
     refine pt_then ?_
     refine ht_ret ?_
     refine pt_pick [1, 2] (by kernel_rfl) (es' := [(_, _), (_, _)]) rfl ?_
     refine pt_sub (fs := [(4, .box 26 [.v (.int .i64 0), .v (.string (⟨#[]⟩ : ByteArray)), .v (.bool false), .v (.string (⟨#[]⟩ : ByteArray)), .v (.string (⟨#[]⟩ : ByteArray)), .fl (.own 46) 2 (List.flatten (List.map T_Param.enc []))]), (5, .v (.bool false))]) (.box _ _ (subs_cons (sub_refl _) (subs_cons (sub_refl _) (subs_cons (sub_refl _) (subs_cons (sub_refl _) (subs_cons (sub_refl _) (subs_cons (sub_nil 46 2) (subs_nil))))))) rfl (.same _ .nil)) ?_
     refine pt_frz 0 hio (es' := [(4, .box 26 [.v (.int .i64 0), .v (.string (⟨#[]⟩ : ByteArray)), .v (.bool false), .v (.string (⟨#[]⟩ : ByteArray)), .v (.string (⟨#[]⟩ : ByteArray)), .fl .ro 2 (List.flatten (List.map T_Param.enc []))]), (5, .v (.bool false))]) rfl ?_
     refine pt_r_then ?_
     obtain rfl := Option.some.inj h
     exact pt_ret hio rfl (.cellA _ _ _ _ Tryd.underlying26 rfl sz26 (.tmp _ _ .nil)) rfl rfl
    ·have h := cond_f hb20 h
     refine ht_skip ?_
     refine pt_then ?_
     refine ht_seq ?_
     obtain ⟨v13, hv13, h⟩ := bind_some h
     obtain ⟨v14, hv14, h⟩ := bind_some h
     refine ht_seqR hn (El := (_ :: _ :: _ :: _ :: _ :: _ :: _ :: (44, .v (.int .i64 kind)) :: (45, .v (.string v2.1)) :: (46, .v (.int .i64 v5)) :: (47, .v (.string v13)) :: (48, .tup [.fl .ro 2 (List.flatten (List.map T_Param.enc v14.1)), .v (.bool v14.2)]) :: (43, .tup [.fl .ro 2 (List.flatten (List.map T_Param.enc v14.1)), .v (.bool v14.2)]) :: (49, .fl .ro 2 (List.flatten (List.map T_Param.enc v14.1))) :: (50, .v (.bool v14.2)) :: (11, .fl .ro 2 (List.flatten (List.map T_Param.enc v14.1))) :: (7, .v (.bool v14.2)) :: [])) (init := [0, 1, 2, 3, 4, 5, 6]) (fin := [0, 1, 2, 5, 15, 16]) (sps := [⟨[0], [], [7], [(.slot 44)]⟩, ⟨[3], [], [8], [(.slot 45)]⟩, ⟨[4], [], [9], [(.slot 46)]⟩, ⟨[8, 9], [], [10], [(.slot 47)]⟩, ⟨[7, 10, 1], [], [11], [(.slot 48)]⟩, ⟨[], [11], [12], [(.slot 43)]⟩, ⟨[12], [], [13], [(.slot 49)]⟩, ⟨[12], [], [14], [(.slot 50)]⟩, ⟨[13], [], [15], [(.slot 11)]⟩, ⟨[14], [], [16], [(.slot 7)]⟩]) (es' := [(_, _), (_, _), (_, _), (_, _), (11, .fl .ro 2 (List.flatten (List.map T_Param.enc v14.1))), (7, .v (.bool v14.2))]) (by kernel_rfl) rfl rfl
      ⟨st_plain rfl (op_move _ _ _ _ rfl rfl),
      st_plain rfl (op_move _ _ _ _ rfl rfl),
      st_plain rfl (op_move _ _ _ _ rfl rfl),
      st_plain rfl (op_substr _ _ _ v5 (v2.1.size : Int) _ Tryd.underlying9 rfl ⟨_, rfl⟩ rfl hv13),
      st_plain rfl (op_callG _ _ 56 43 _ _ rfl Tryd.call43 rfl rfl (fun _ h => h) (ok_verb_parameters mx kind v13 _ hv14) rfl rfl),
      st_plain rfl (op_move_take _ _ _ _ rfl),
      st_plain rfl (op_extract _ _ _ _ _ rfl rfl (Nat.le_of_ble_eq_true rfl) rfl rfl),
      st_plain rfl (op_extract _ _ _ _ _ rfl rfl (Nat.le_of_ble_eq_true rfl) rfl rfl),
      st_plain rfl (op_assign _ _ _ _ rfl rfl),
      st_plain rfl (op_assign _ _ _ _ rfl rfl),
      trivial⟩ ?_
     refine pt_then ?_
     refine ht_seq ?_
     refine ht_seqR hn (El := [_, _, _, _, _, _, (51, .v (.int .i64 kind)), (52, .agg [.v (.bool v7.1.Null), .v (.string v7.1.Local), .v (.string v7.1.Domain)]), (53, .fl .ro 2 (List.flatten (List.map T_Param.enc v14.1))), (54, .agg [.v (.int .i64 kind), .v (.string (⟨#[]⟩ : ByteArray)), .v (.bool v7.1.Null), .v (.string v7.1.Local), .v (.string v7.1.Domain), .fl .ro 2 (List.flatten (List.map T_Param.enc v14.1))]), (55, .v (.bool v14.2)), (4, .box 26 [.v (.int .i64 kind), .v (.string (⟨#[]⟩ : ByteArray)), .v (.bool v7.1.Null), .v (.string v7.1.Local), .v (.string v7.1.Domain), .fl .ro 2 (List.flatten (List.map T_Param.enc v14.1))]), (5, .v (.bool v14.2))]) (init := [0, 1, 2, 3, 4, 5]) (fin := [1, 11, 12]) (sps := [⟨[0], [], [6], [(.slot 51)]⟩, ⟨[3], [], [7], [(.slot 52)]⟩, ⟨[4], [], [8], [(.slot 53)]⟩, ⟨[6, 7, 8], [], [9], [(.slot 54)]⟩, ⟨[5], [], [10], [(.slot 55)]⟩, ⟨[9], [2], [11], [.cell 4 0, .cell 4 1, .cell 4 2, .cell 4 3, .cell 4 4, .cell 4 5]⟩, ⟨[10], [], [12], [(.slot 5)]⟩]) (es' := [(_, _), (4, .box 26 [.v (.int .i64 kind), .v (.string (⟨#[]⟩ : ByteArray)), .v (.bool v7.1.Null), .v (.string v7.1.Local), .v (.string v7.1.Domain), .fl .ro 2 (List.flatten (List.map T_Param.enc v14.1))]), (5, .v (.bool v14.2))]) (by kernel_rfl) rfl rfl
      ⟨st_plain rfl (op_move _ _ _ _ rfl rfl),
      st_plain rfl (op_loadA _ _ _ _ _ _ _ Tryd.underlying23 rfl sz23 rfl rfl (Nat.le_of_ble_eq_true rfl) rfl rfl),
      st_plain rfl (op_move _ _ _ _ rfl rfl),
      st_plain rfl (op_build _ _ _ _ [1, 1, 3, 1] _ _ Tryd.underlying26 zr26 (fs26 _ Tryd.underlying26) (.copy _ (.copy _ (.copy _ Src.nil))) rfl rfl rfl),
      st_plain rfl (op_move _ _ _ _ rfl rfl),
      st_plain rfl (op_store _ _ _ _ _ _ _ _ sz26 rfl rfl rfl rfl (Nat.le_of_ble_eq_true rfl) rfl rfl),
      st_plain rfl (op_assign _ _ _ _ rfl rfl),
      trivial⟩ ?_
     refine pt_then ?_
     refine ht_ret ?_
     refine pt_pick [1, 2] (by kernel_rfl) (es' := [(_, _), (_, _)]) rfl ?_
     obtain rfl := Option.some.inj h
     exact pt_ret hio rfl (.cellA _ _ _ _ Tryd.underlying26 rfl sz26 (.tmp _ _ .nil)) rfl rfl
   ·intro u17 h hl18 hr19
    refine cond_some h (fun hg6_2 h => ?_) (fun hg6_2 h => ?_)
    ·refine ht_seqR hn (El := (_ :: _ :: _ :: _ :: _ :: _ :: _ :: (32, .v (.int .i64 v7.2)) :: (33, .v (.bool (v7.2 != 0))) :: (34, .v (.bool true)) :: (35, .v undef) :: (36, .v undef) :: (37, .v undef) :: (38, .v undef) :: (39, .v undef) :: (40, .v undef) :: (41, .v (.bool true)) :: [])) (init := [0, 1, 2, 3, 4, 5, 6]) (fin := [0, 1, 2, 3, 4, 5, 16]) (sps := [⟨[6], [], [7], [(.slot 32)]⟩, ⟨[7], [], [8], [(.slot 33)]⟩, ⟨[8], [], [9], [(.slot 34)]⟩, ⟨[9], [], [10], [(.slot 35)]⟩, ⟨[9], [], [11], [(.slot 36)]⟩, ⟨[9], [], [12], [(.slot 37)]⟩, ⟨[12], [], [13], [(.slot 38)]⟩, ⟨[12], [], [14], [(.slot 39)]⟩, ⟨[9], [], [15], [(.slot 40)]⟩, ⟨[9], [], [16], [(.slot 41)]⟩]) (es' := [(_, _), (_, _), (_, _), (_, _), (_, _), (_, _), (41, .v (.bool true))]) (by kernel_rfl) rfl rfl
      ⟨st_plain rfl (op_move _ _ _ _ rfl rfl),
      st_plain rfl (op_bin _ _ _ _ _ rfl rfl rfl),
      st_plain rfl (op_move _ _ _ _ (congrArg (fun b => AV.v (Value.bool b)) hg6_2) rfl),
      st_skip 2 34 _ false rfl rfl rfl rfl (List.Mem.head _),
      st_skip 2 34 _ false rfl rfl rfl rfl (List.Mem.head _),
      st_skip 2 34 _ false rfl rfl rfl rfl (List.Mem.head _),
      st_skipU 5 37 _ true rfl rfl rfl rfl (List.Mem.head _),
      st_skipU 5 37 _ true rfl rfl rfl rfl (List.Mem.head _),
      st_skip 2 34 _ false rfl rfl rfl rfl (List.Mem.head _),
      st_plain rfl (op_pick _ _ true _ rfl rfl),
      trivial⟩ ?_
     exact hl18 _ (Option.some.inj h).symm
    ·refine cond_some h (fun hg6_5 h => ?_) (fun hg6_5 h => ?_)
     ·refine ht_seqR hn (El := (_ :: _ :: _ :: _ :: _ :: _ :: _ :: (32, .v (.int .i64 v7.2)) :: (33, .v (.bool (v7.2 != 0))) :: (34, .v (.bool false)) :: (35, .v (.int .i64 kind)) :: (36, .v (.bool (kind == 3))) :: (37, .v (.bool true)) :: (38, .ptr 9 0) :: (39, .v (.bool v7.1.Null)) :: (40, .v (.bool v7.1.Null)) :: (41, .v (.bool v7.1.Null)) :: [])) (init := [0, 1, 2, 3, 4, 5, 6]) (fin := [0, 1, 2, 3, 4, 5, 16]) (sps := [⟨[6], [], [7], [(.slot 32)]⟩, ⟨[7], [], [8], [(.slot 33)]⟩, ⟨[8], [], [9], [(.slot 34)]⟩, ⟨[9, 0], [], [10], [(.slot 35)]⟩, ⟨[9, 10], [], [11], [(.slot 36)]⟩, ⟨[9, 11], [], [12], [(.slot 37)]⟩, ⟨[12, 5], [], [13], [(.slot 38)]⟩, ⟨[12, 13, 5], [], [14], [(.slot 39)]⟩, ⟨[9, 12, 14], [], [15], [(.slot 40)]⟩, ⟨[9, 15], [], [16], [(.slot 41)]⟩]) (es' := [(_, _), (_, _), (_, _), (_, _), (_, _), (_, _), (41, .v (.bool v7.1.Null))]) (by kernel_rfl) rfl rfl
       ⟨st_plain rfl (op_move _ _ _ _ rfl rfl),
       st_plain rfl (op_bin _ _ _ _ _ rfl rfl rfl),
       st_plain rfl (op_move _ _ _ _ (congrArg (fun b => AV.v (Value.bool b)) hg6_2) rfl),
       st_run 2 34 false rfl rfl rfl (List.Mem.head _) (op_move _ _ _ _ rfl rfl),
       st_run 2 34 false rfl rfl rfl (List.Mem.head _) (op_bin _ _ _ _ _ rfl rfl rfl),
       st_run 2 34 false rfl rfl rfl (List.Mem.head _) (op_move _ _ _ _ (congrArg (fun b => AV.v (Value.bool b)) hg6_5) rfl),
       st_run 5 37 true rfl rfl rfl (List.Mem.head _) (op_fieldAddr _ _ _ _ 9 0 _ Tryd.underlying23 rfl sz4 rfl rfl (by decide)),
       st_run 5 37 true rfl rfl rfl (List.Mem.head _) (op_load _ _ _ _ _ _ Tryd.underlying4 rfl rfl rfl (Nat.le_of_ble_eq_true rfl) rfl rfl rfl),
       st_run 2 34 false rfl rfl rfl (List.Mem.head _) (op_pick _ _ true _ rfl rfl),
       st_plain rfl (op_pick _ _ false _ rfl rfl),
       trivial⟩ ?_
      exact hl18 _ (Option.some.inj h).symm
     ·refine ht_seqR hn (El := (_ :: _ :: _ :: _ :: _ :: _ :: _ :: (32, .v (.int .i64 v7.2)) :: (33, .v (.bool (v7.2 != 0))) :: (34, .v (.bool false)) :: (35, .v (.int .i64 kind)) :: (36, .v (.bool (kind == 3))) :: (37, .v (.bool false)) :: (38, .v undef) :: (39, .v undef) :: (40, .v (.bool false)) :: (41, .v (.bool false)) :: [])) (init := [0, 1, 2, 3, 4, 5, 6]) (fin := [0, 1, 2, 3, 4, 5, 16]) (sps := [⟨[6], [], [7], [(.slot 32)]⟩, ⟨[7], [], [8], [(.slot 33)]⟩, ⟨[8], [], [9], [(.slot 34)]⟩, ⟨[9, 0], [], [10], [(.slot 35)]⟩, ⟨[9, 10], [], [11], [(.slot 36)]⟩, ⟨[9, 11], [], [12], [(.slot 37)]⟩, ⟨[12], [], [13], [(.slot 38)]⟩, ⟨[12], [], [14], [(.slot 39)]⟩, ⟨[9, 12], [], [15], [(.slot 40)]⟩, ⟨[9, 15], [], [16], [(.slot 41)]⟩]) (es' := [(_, _), (_, _), (_, _), (_, _), (_, _), (_, _), (41, .v (.bool false))]) (by kernel_rfl) rfl rfl
       ⟨st_plain rfl (op_move _ _ _ _ rfl rfl),
       st_plain rfl (op_bin _ _ _ _ _ rfl rfl rfl),
       st_plain rfl (op_move _ _ _ _ (congrArg (fun b => AV.v (Value.bool b)) hg6_2) rfl),
       st_run 2 34 false rfl rfl rfl (List.Mem.head _) (op_move _ _ _ _ rfl rfl),
       st_run 2 34 false rfl rfl rfl (List.Mem.head _) (op_bin _ _ _ _ _ rfl rfl rfl),
       st_run 2 34 false rfl rfl rfl (List.Mem.head _) (op_move _ _ _ _ (congrArg (fun b => AV.v (Value.bool b)) hg6_5) rfl),
       st_skip 5 37 _ true rfl rfl rfl rfl (List.Mem.head _),
       st_skip 5 37 _ true rfl rfl rfl rfl (List.Mem.head _),
       st_run 2 34 false rfl rfl rfl (List.Mem.head _) (op_pick _ _ false _ rfl rfl),
       st_plain rfl (op_pick _ _ false _ rfl rfl),
       trivial⟩ ?_
      exact hl18 _ (Option.some.inj h).symm
set_option maxHeartbeats 1000000 in
theorem ok_verb_command (mx : Int) (line : ByteArray) (r : (T_Cmd × Bool)) (h : Sh.verb_command line = some r) : FnG Tryd.prog (GL mx) 19 [.v (.string line)] (.tup [.agg [.v (.int .i64 r.1.Kind), .v (.string r.1.Text), .v (.bool r.1.Path.Null), .v (.string r.1.Path.Local), .v (.string r.1.Path.Domain), .fl .ro 2 (List.flatten (List.map T_Param.enc r.1.Params))], .v (.bool r.2)]) := by
  unfold Sh.verb_command at h
  refine fn_okG Tryd.func19 rfl (Nat.le_of_ble_eq_true rfl) rfl rfl fun g0 hn hio => ?_
  refine ht_seq ?_
  refine ht_seqR hn (El := [_, _, (2, .box 26 [.v (.int .i64 0), .v (.string (⟨#[]⟩ : ByteArray)), .v (.bool false), .v (.string (⟨#[]⟩ : ByteArray)), .v (.string (⟨#[]⟩ : ByteArray)), .v (.slice none 0 0)]), (3, .v (.bool false))]) (init := [0, 1]) (fin := [0, 1, 2]) (sps := [⟨[], [], [2], [(.slot 2)]⟩, ⟨[], [], [3], [(.slot 3)]⟩]) (es' := [(_, _), (_, _), (2, .box 26 [.v (.int .i64 0), .v (.string (⟨#[]⟩ : ByteArray)), .v (.bool false), .v (.string (⟨#[]⟩ : ByteArray)), .v (.string (⟨#[]⟩ : ByteArray)), .v (.slice none 0 0)])]) (by kernel_rfl) rfl rfl
   ⟨st_plain rfl (op_alloc _ _ zr26),
   st_plain rfl (op_assign _ _ _ _ rfl rfl),
   trivial⟩ ?_
  refine pt_then ?_
  refine ht_seq ?_
  obtain ⟨v1, hv1, h⟩ := bind_some h
  refine ht_seqR hn (El := [_, _, _, (9, .v (.string line)), (10, .tup [.v (.string v1.1), .v (.string v1.2.1), .v (.bool v1.2.2)]), (8, .tup [.v (.string v1.1), .v (.string v1.2.1), .v (.bool v1.2.2)]), (11, .v (.string v1.1)), (12, .v (.string v1.2.1)), (13, .v (.bool v1.2.2)), (4, .v (.string v1.1)), (5, .v (.string v1.2.1)), (6, .v (.bool v1.2.2))]) (init := [0, 1, 2]) (fin := [0, 1, 2, 10, 11]) (sps := [⟨[0], [], [3], [(.slot 9)]⟩, ⟨[3], [], [4], [(.slot 10)]⟩, ⟨[], [4], [5], [(.slot 8)]⟩, ⟨[5], [], [6], [(.slot 11)]⟩, ⟨[5], [], [7], [(.slot 12)]⟩, ⟨[5], [], [8], [(.slot 13)]⟩, ⟨[6], [], [9], [(.slot 4)]⟩, ⟨[7], [], [10], [(.slot 5)]⟩, ⟨[8], [], [11], [(.slot 6)]⟩]) (es' := [(_, _), (_, _), (_, _), (5, .v (.string v1.2.1)), (6, .v (.bool v1.2.2))]) (by kernel_rfl) rfl rfl
   ⟨st_plain rfl (op_move _ _ _ _ rfl rfl),
   st_plain rfl (op_call _ _ 30 _ _ rfl Tryd.call30 rfl (ok_strings_Cut line (⟨#[32]⟩ : ByteArray) _ hv1) rfl rfl),
   st_plain rfl (op_move_take _ _ _ _ rfl),
   st_plain rfl (op_extract _ _ _ _ _ rfl rfl (Nat.le_of_ble_eq_true rfl) rfl rfl),
   st_plain rfl (op_extract _ _ _ _ _ rfl rfl (Nat.le_of_ble_eq_true rfl) rfl rfl),
   st_plain rfl (op_extract _ _ _ _ _ rfl rfl (Nat.le_of_ble_eq_true rfl) rfl rfl),
   st_plain rfl (op_assign _ _ _ _ rfl rfl),
   st_plain rfl (op_assign _ _ _ _ rfl rfl),
   st_plain rfl (op_assign _ _ _ _ rfl rfl),
   trivial⟩ ?_
  refine pt_then ?_
  refine ht_seq ?_
  obtain ⟨v2, hv2, h⟩ := bind_some h
  refine ht_seqR hn (El := [_, _, _, _, _, (14, .v (.string line)), (15, .v (.int .i64 v2)), (16, .agg [.v (.int .i64 v2), .v (.string (⟨#[]⟩ : ByteArray)), .v (.bool false), .v (.string (⟨#[]⟩ : ByteArray)), .v (.string (⟨#[]⟩ : ByteArray)), .v (.slice none 0 0)]), (7, .box 26 [.v (.int .i64 0), .v (.string (⟨#[]⟩ : ByteArray)), .v (.bool false), .v (.string (⟨#[]⟩ : ByteArray)), .v (.string (⟨#[]⟩ : ByteArray)), .v (.slice none 0 0)]), (7, .box 26 [.v (.int .i64 v2), .v (.string (⟨#[]⟩ : ByteArray)), .v (.bool false), .v (.string (⟨#[]⟩ : ByteArray)), .v (.string (⟨#[]⟩ : ByteArray)), .v (.slice none 0 0)])]) (init := [0, 1, 2, 3, 4]) (fin := [0, 1, 2, 3, 4, 9]) (sps := [⟨[0], [], [5], [(.slot 14)]⟩, ⟨[5], [], [6], [(.slot 15)]⟩, ⟨[6], [], [7], [(.slot 16)]⟩, ⟨[], [], [8], [(.slot 7)]⟩, ⟨[7], [8], [9], [.cell 7 0, .cell 7 1, .cell 7 2, .cell 7 3, .cell 7 4, .cell 7 5]⟩]) (es' := [(_, _), (_, _), (_, _), (_, _), (_, _), (7, .box 26 [.v (.int .i64 v2), .v (.string (⟨#[]⟩ : ByteArray)), .v (.bool false), .v (.string (⟨#[]⟩ : ByteArray)), .v (.string (⟨#[]⟩ : ByteArray)), .v (.slice none 0 0)])]) (by kernel_rfl) rfl rfl
   ⟨st_plain rfl (op_move _ _ _ _ rfl rfl),
   st_plain rfl (op_call _ _ 17 _ _ rfl Tryd.call17 rfl (ok_verb_kindOf line _ hv2) rfl rfl),
   st_plain rfl (op_build _ _ _ _ [1, 1, 3, 1] _ _ Tryd.underlying26 zr26 (fs26 _ Tryd.underlying26) (.copy _ Src.nil) rfl rfl rfl),
   st_plain rfl (op_alloc _ _ zr26),
   st_plain rfl (op_store _ _ _ _ _ _ _ _ sz26 rfl rfl rfl rfl (Nat.le_of_ble_eq_true rfl) rfl rfl),
   trivial⟩ ?_
  refine pt_then ?_
  refine ht_seq ?_
  refine ht_seq ?_
  refine ht_seqR hn (El := [_, _, _, _, _, _, (17, .ptr 7 0), (18, .v (.int .i64 v2))]) (init := [0, 1, 2, 3, 4, 5]) (fin := [0, 1, 2, 3, 4, 5, 7]) (sps := [⟨[5], [], [6], [(.slot 17)]⟩, ⟨[6, 5], [], [7], [(.slot 18)]⟩]) (es' := [(_, _), (_, _), (_, _), (_, _), (_, _), (_, _), (18, .v (.int .i64 v2))]) (by kernel_rfl) rfl rfl
   ⟨st_plain rfl (op_fieldAddr _ _ _ _ 7 0 _ Tryd.underlying26 rfl sz3 rfl rfl (by decide)),
   st_plain rfl (op_load _ _ _ _ _ _ Tryd.underlying3 rfl rfl rfl (Nat.le_of_ble_eq_true rfl) rfl rfl rfl),
   trivial⟩ ?_
  refine pt_then ?_
  refine ht_block ?_
  refine ht_seq ?_
  refine ht_joinS h (fun (s30 : Bool) => [(0, .v (.string line)), (65, .glob (GL mx)), (2, .box 26 [.v (.int .i64 0), .v (.string (⟨#[]⟩ : ByteArray)), .v (.bool false), .v (.string (⟨#[]⟩ : ByteArray)), .v (.string (⟨#[]⟩ : ByteArray)), .v (.slice none 0 0)]), (5, .v (.string v1.2.1)), (6, .v (.bool v1.2.2)), (7, .box 26 [.v (.int .i64 v2), .v (.string (⟨#[]⟩ : ByteArray)), .v (.bool false), .v (.string (⟨#[]⟩ : ByteArray)), .v (.string (⟨#[]⟩ : ByteArray)), .v (.slice none 0 0)]), (18, .v (.int .i64 v2)), (19, .v (.bool s30))]) ?_ ?_
  ·rintro s30 h
   refine pt_then ?_
   refine ht_cond _ rfl (fun hb35 => ?_) (fun hb35 => ?_)
   ·have h := cond_t hb35 h
    refine ht_seq ?_
    obtain ⟨v10, hv10, h⟩ := bind_some h
    refine ht_seqR hn (El := (_ :: _ :: _ :: _ :: _ :: _ :: _ :: _ :: (22, .ptr 7 0) :: (23, .v (.int .i64 v2)) :: (24, .v (.string line)) :: (25, .tup [.agg [.v (.int .i64 v10.1.Kind), .v (.string v10.1.Text), .v (.bool v10.1.Path.Null), .v (.string v10.1.Path.Local), .v (.string v10.1.Path.Domain), .fl .ro 2 (List.flatten (List.map T_Param.enc v10.1.Params))], .v (.bool v10.2)]) :: (26, .agg [.v (.int .i64 v10.1.Kind), .v (.string v10.1.Text), .v (.bool v10.1.Path.Null), .v (.string v10.1.Path.Local), .v (.string v10.1.Path.Domain), .fl .ro 2 (List.flatten (List.map T_Param.enc v10.1.Params))]) :: (27, .v (.bool v10.2)) :: (2, .box 26 [.v (.int .i64 v10.1.Kind), .v (.string v10.1.Text), .v (.bool v10.1.Path.Null), .v (.string v10.1.Path.Local), .v (.string v10.1.Path.Domain), .fl .ro 2 (List.flatten (List.map T_Param.enc v10.1.Params))]) :: (3, .v (.bool v10.2)) :: [])) (init := [0, 1, 2, 3, 4, 5, 6, 7]) (fin := [1, 14, 15]) (sps := [⟨[5], [], [8], [(.slot 22)]⟩, ⟨[8, 5], [], [9], [(.slot 23)]⟩, ⟨[0], [], [10], [(.slot 24)]⟩, ⟨[9, 10, 1], [], [11], [(.slot 25)]⟩, ⟨[11], [], [12], [(.slot 26)]⟩, ⟨[11], [], [13], [(.slot 27)]⟩, ⟨[12], [2], [14], [.cell 2 0, .cell 2 1, .cell 2 2, .cell 2 3, .cell 2 4, .cell 2 5]⟩, ⟨[13], [], [15], [(.slot 3)]⟩]) (es' := [(_, _), (2, .box 26 [.v (.int .i64 v10.1.Kind), .v (.string v10.1.Text), .v (.bool v10.1.Path.Null), .v (.string v10.1.Path.Local), .v (.string v10.1.Path.Domain), .fl .ro 2 (List.flatten (List.map T_Param.enc v10.1.Params))]), (3, .v (.bool v10.2))]) (by kernel_rfl) rfl rfl
     ⟨st_plain rfl (op_fieldAddr _ _ _ _ 7 0 _ Tryd.underlying26 rfl sz3 rfl rfl (by decide)),
     st_plain rfl (op_load _ _ _ _ _ _ Tryd.underlying3 rfl rfl rfl (Nat.le_of_ble_eq_true rfl) rfl rfl rfl),
     st_plain rfl (op_move _ _ _ _ rfl rfl),
     st_plain rfl (op_callG _ _ 65 35 _ _ rfl Tryd.call35 rfl rfl (fun _ h => h) (ok_verb_pathCommand mx v2 line _ hv10) rfl rfl),
     st_plain rfl (op_extract_no _ _ _ _ _ _ rfl rfl (Nat.le_of_ble_eq_true rfl) rfl rfl),
     st_plain rfl (op_extract _ _ _ _ _ rfl rfl (Nat.le_of_ble_eq_true rfl) rfl rfl),
     st_plain rfl (op_store _ _ _ _ _ _ _ _ sz26 rfl rfl rfl rfl (Nat.le_of_ble_eq_true rfl) rfl rfl),
     st_plain rfl (op_assign _ _ _ _ rfl rfl),
     trivial⟩ ?_
    refine pt_then ?_
    refine ht_ret ?_
    refine pt_pick [1, 2] (by kernel_rfl) (es' := [(_, _), (_, _)]) rfl ?_
    refine pt_r_in ?_
    refine pt_r_then ?_
    obtain rfl := Option.some.inj h
    exact pt_ret hio rfl (.cellA _ _ _ _ Tryd.underlying26 rfl sz26 (.tmp _ _ .nil)) rfl rfl
   ·have h := cond_f hb35 h
    refine ht_seq ?_
    refine ht_joinS h (fun (s37 : Bool) => [(65, .glob (GL mx)), (2, .box 26 [.v (.int .i64 0), .v (.string (⟨#[]⟩ : ByteArray)), .v (.bool false), .v (.string (⟨#[]⟩ : ByteArray)), .v (.string (⟨#[]⟩ : ByteArray)), .v (.slice none 0 0)]), (5, .v (.string v1.2.1)), (6, .v (.bool v1.2.2)), (7, .box 26 [.v (.int .i64 v2), .v (.string (⟨#[]⟩ : ByteArray)), .v (.bool false), .v (.string (⟨#[]⟩ : ByteArray)), .v (.string (⟨#[]⟩ : ByteArray)), .v (.slice none 0 0)]), (18, .v (.int .i64 v2)), (28, .v (.bool s37))]) ?_ ?_
    ·rintro s37 h
     refine pt_then ?_
     refine ht_cond _ rfl (fun hb42 => ?_) (fun hb42 => ?_)
     ·have h := cond_t hb42 h
      refine ht_seq ?_
      refine ht_seqR hn (El := [_, _, _, _, _, _, _, (31, .v (.string v1.2.1)), (32, .ptr 7 1), (7, .box 26 [.v (.int .i64 v2), .v (.string v1.2.1), .v (.bool false), .v (.string (⟨#[]⟩ : ByteArray)), .v (.string (⟨#[]⟩ : ByteArray)), .v (.slice none 0 0)])]) (init := [0, 1, 2, 3, 4, 5, 6]) (fin := [0, 1, 2, 9]) (sps := [⟨[2], [], [7], [(.slot 31)]⟩, ⟨[4], [], [8], [(.slot 32)]⟩, ⟨[8, 7], [4], [9], [.cell 7 1]⟩]) (es' := [(_, _), (_, _), (_, _), (7, .box 26 [.v (.int .i64 v2), .v (.string v1.2.1), .v (.bool false), .v (.string (⟨#[]⟩ : ByteArray)), .v (.string (⟨#[]⟩ : ByteArray)), .v (.slice none 0 0)])]) (by kernel_rfl) rfl rfl
       ⟨st_plain rfl (op_move _ _ _ _ rfl rfl),
       st_plain rfl (op_fieldAddr _ _ _ _ 7 0 _ Tryd.underlying26 rfl sz9 rfl rfl (by decide)),
       st_plain rfl (op_store _ _ _ _ _ _ _ _ sz9 rfl rfl rfl rfl (Nat.le_of_ble_eq_true rfl) rfl rfl),
       trivial⟩ ?_
      refine pt_then ?_
      refine ht_seq ?_
      obtain ⟨v18, hv18, h⟩ := bind_some h
      refine ht_anyR (by kernel_rfl) hn (El := [_, _, _, _, (33, .agg [.v (.int .i64 v2), .v (.string v1.2.1), .v (.bool false), .v (.string (⟨#[]⟩ : ByteArray)), .v (.string (⟨#[]⟩ : ByteArray)), .v (.slice none 0 0)]), (34, .v (.string v1.2.1)), (35, .v (.bool v18)), (2, .box 26 [.v (.int .i64 v2), .v (.string v1.2.1), .v (.bool false), .v (.string (⟨#[]⟩ : ByteArray)), .v (.string (⟨#[]⟩ : ByteArray)), .v (.slice none 0 0)]), (3, .v (.bool v18))]) (init := [0, 1, 2, 3]) (fin := [0, 7, 8]) (sps := [⟨[3], [], [4], [(.slot 33)]⟩, ⟨[2], [], [5], [(.slot 34)]⟩, ⟨[5, 0], [], [6], [(.slot 35)]⟩, ⟨[4], [1], [7], [.cell 2 0, .cell 2 1, .cell 2 2, .cell 2 3, .cell 2 4, .cell 2 5]⟩, ⟨[6], [], [8], [(.slot 3)]⟩]) (es' := [(_, _), (2, .box 26 [.v (.int .i64 v2), .v (.string v1.2.1), .v (.bool false), .v (.string (⟨#[]⟩ : ByteArray)), .v (.string (⟨#[]⟩ : ByteArray)), .v (.slice none 0 0)]), (3, .v (.bool v18))]) (by kernel_rfl) rfl rfl
       ⟨st_plain rfl (op_loadA _ _ _ _ _ _ _ Tryd.underlying26 rfl sz26 rfl rfl (Nat.le_of_ble_eq_true rfl) rfl rfl),
       st_plain rfl (op_move _ _ _ _ rfl rfl),
       st_plain rfl (op_callG _ _ 65 34 _ _ rfl Tryd.call34 rfl rfl (fun _ h => h) (ok_path_Domain mx v1.2.1 _ hv18) rfl rfl),
       st_plain rfl (op_store _ _ _ _ _ _ _ _ sz26 rfl rfl rfl rfl (Nat.le_of_ble_eq_true rfl) rfl rfl),
       st_plain rfl (op_assign _ _ _ _ rfl rfl),
       trivial⟩ ?_
      refine pt_then ?_
      refine ht_ret ?_
      refine pt_pick [1, 2] (by kernel_rfl) (es' := [(_, _), (_, _)]) rfl ?_
      refine pt_sub (fs := [(2, .box 26 [.v (.int .i64 v2), .v (.string v1.2.1), .v (.bool false), .v (.string (⟨#[]⟩ : ByteArray)), .v (.string (⟨#[]⟩ : ByteArray)), .fl (.own 46) 2 (List.flatten (List.map T_Param.enc []))]), (3, .v (.bool v18))]) (.box _ _ (subs_cons (sub_refl _) (subs_cons (sub_refl _) (subs_cons (sub_refl _) (subs_cons (sub_refl _) (subs_cons (sub_refl _) (subs_cons (sub_nil 46 2) (subs_nil))))))) rfl (.same _ .nil)) ?_
      refine pt_frz 0 hio (es' := [(2, .box 26 [.v (.int .i64 v2), .v (.string v1.2.1), .v (.bool false), .v (.string (⟨#[]⟩ : ByteArray)), .v (.string (⟨#[]⟩ : ByteArray)), .fl .ro 2 (List.flatten (List.map T_Param.enc []))]), (3, .v (.bool v18))]) rfl ?_
      refine pt_r_in ?_
      refine pt_r_then ?_
      obtain rfl := Option.some.inj h
      exact pt_ret hio rfl (.cellA _ _ _ _ Tryd.underlying26 rfl sz26 (.tmp _ _ .nil)) rfl rfl
     ·have h := cond_f hb42 h
      refine ht_seq ?_
      refine ht_seqR hn (El := [_, _, _, _, _, _, _, (37, .v (.bool (v2 == 6))), (36, .v (.bool (v2 == 6)))]) (init := [0, 1, 2, 3, 4, 5, 6]) (fin := [0, 1, 2, 3, 4, 5, 8]) (sps := [⟨[5], [], [7], [(.slot 37)]⟩, ⟨[7], [], [8], [(.slot 36)]⟩]) (es' := [(_, _), (_, _), (_, _), (_, _), (_, _), (_, _), (36, .v (.bool (v2 == 6)))]) (by kernel_rfl) rfl rfl
       ⟨st_plain rfl (op_bin _ _ _ _ _ rfl rfl rfl),
       st_plain rfl (op_assign _ _ _ _ rfl rfl),
       trivial⟩ ?_
      refine pt_then ?_
      refine ht_cond _ rfl (fun hb43 => ?_) (fun hb43 => ?_)
      ·have h := cond_t hb43 h
       refine ht_seq ?_
       refine ht_seqR hn (El := [_, _, _, _, _, _, _, (38, .v (.string v1.2.1)), (39, .ptr 7 1), (7, .box 26 [.v (.int .i64 v2), .v (.string v1.2.1), .v (.bool false), .v (.string (⟨#[]⟩ : ByteArray)), .v (.string (⟨#[]⟩ : ByteArray)), .v (.slice none 0 0)])]) (init := [0, 1, 2, 3, 4, 5, 6]) (fin := [0, 1, 2, 9]) (sps := [⟨[2], [], [7], [(.slot 38)]⟩, ⟨[4], [], [8], [(.slot 39)]⟩, ⟨[8, 7], [4], [9], [.cell 7 1]⟩]) (es' := [(_, _), (_, _), (_, _), (7, .box 26 [.v (.int .i64 v2), .v (.string v1.2.1), .v (.bool false), .v (.string (⟨#[]⟩ : ByteArray)), .v (.string (⟨#[]⟩ : ByteArray)), .v (.slice none 0 0)])]) (by kernel_rfl) rfl rfl
        ⟨st_plain rfl (op_move _ _ _ _ rfl rfl),
        st_plain rfl (op_fieldAddr _ _ _ _ 7 0 _ Tryd.underlying26 rfl sz9 rfl rfl (by decide)),
        st_plain rfl (op_store _ _ _ _ _ _ _ _ sz9 rfl rfl rfl rfl (Nat.le_of_ble_eq_true rfl) rfl rfl),
        trivial⟩ ?_
       refine pt_then ?_
       refine ht_seq ?_
       refine ht_seqR hn (El := [_, _, _, _, (40, .agg [.v (.int .i64 v2), .v (.string v1.2.1), .v (.bool false), .v (.string (⟨#[]⟩ : ByteArray)), .v (.string (⟨#[]⟩ : ByteArray)), .v (.slice none 0 0)]), (41, .v (.string v1.2.1)), (42, .v (.bool ((!(v1.2.1.toList == (⟨#[]⟩ : ByteArray).toList))))), (2, .box 26 [.v (.int .i64 v2), .v (.string v1.2.1), .v (.bool false), .v (.string (⟨#[]⟩ : ByteArray)), .v (.string (⟨#[]⟩ : ByteArray)), .v (.slice none 0 0)]), (3, .v (.bool ((!(v1.2.1.toList == (⟨#[]⟩ : ByteArray).toList)))))]) (init := [0, 1, 2, 3]) (fin := [0, 7, 8]) (sps := [⟨[3], [], [4], [(.slot 40)]⟩, ⟨[2], [], [5], [(.slot 41)]⟩, ⟨[5], [], [6], [(.slot 42)]⟩, ⟨[4], [1], [7], [.cell 2 0, .cell 2 1, .cell 2 2, .cell 2 3, .cell 2 4, .cell 2 5]⟩, ⟨[6], [], [8], [(.slot 3)]⟩]) (es' := [(_, _), (2, .box 26 [.v (.int .i64 v2), .v (.string v1.2.1), .v (.bool false), .v (.string (⟨#[]⟩ : ByteArray)), .v (.string (⟨#[]⟩ : ByteArray)), .v (.slice none 0 0)]), (3, .v (.bool ((!(v1.2.1.toList == (⟨#[]⟩ : ByteArray).toList)))))]) (by kernel_rfl) rfl rfl
        ⟨st_plain rfl (op_loadA _ _ _ _ _ _ _ Tryd.underlying26 rfl sz26 rfl rfl (Nat.le_of_ble_eq_true rfl) rfl rfl),
        st_plain rfl (op_move _ _ _ _ rfl rfl),
        st_plain rfl (op_bin _ _ _ _ _ rfl rfl rfl),
        st_plain rfl (op_store _ _ _ _ _ _ _ _ sz26 rfl rfl rfl rfl (Nat.le_of_ble_eq_true rfl) rfl rfl),
        st_plain rfl (op_assign _ _ _ _ rfl rfl),
        trivial⟩ ?_
       refine pt_then ?_
       refine ht_ret ?_
       refine pt_pick [1, 2] (by kernel_rfl) (es' := [(_, _), (_, _)]) rfl ?_
       refine pt_sub (fs := [(2, .box 26 [.v (.int .i64 v2), .v (.string v1.2.1), .v (.bool false), .v (.string (⟨#[]⟩ : ByteArray)), .v (.string (⟨#[]⟩ : ByteArray)), .fl (.own 46) 2 (List.flatten (List.map T_Param.enc []))]), (3, .v (.bool ((!(v1.2.1.toList == (⟨#[]⟩ : ByteArray).toList)))))]) (.box _ _ (subs_cons (sub_refl _) (subs_cons (sub_refl _) (subs_cons (sub_refl _) (subs_cons (sub_refl _) (subs_cons (sub_refl _) (subs_cons (sub_nil 46 2) (subs_nil))))))) rfl (.same _ .nil)) ?_
       refine pt_frz 0 hio (es' := [(2, .box 26 [.v (.int .i64 v2), .v (.string v1.2.1), .v (.bool false), .v (.string (⟨#[]⟩ : ByteArray)), .v (.string (⟨#[]⟩ : ByteArray)), .fl .ro 2 (List.flatten (List.map T_Param.enc []))]), (3, .v (.bool ((!(v1.2.1.toList == (⟨#[]⟩ : ByteArray).toList)))))]) rfl ?_
       refine pt_r_in ?_
       refine pt_r_then ?_
       obtain rfl := Option.some.inj h
       exact pt_ret hio rfl (.cellA _ _ _ _ Tryd.underlying26 rfl sz26 (.tmp _ _ .nil)) rfl rfl
      ·have h := cond_f hb43 h
       refine ht_seq ?_
       refine ht_seqR hn (El := [_, _, _, _, _, _, _, (44, .v (.bool (v2 == 11))), (43, .v (.bool (v2 == 11)))]) (init := [0, 1, 2, 3, 4, 5, 6]) (fin := [0, 1, 2, 3, 4, 5, 8]) (sps := [⟨[5], [], [7], [(.slot 44)]⟩, ⟨[7], [], [8], [(.slot 43)]⟩]) (es' := [(_, _), (_, _), (_, _), (_, _), (_, _), (_, _), (43, .v (.bool (v2 == 11)))]) (by kernel_rfl) rfl rfl
        ⟨st_plain rfl (op_bin _ _ _ _ _ rfl rfl rfl),
        st_plain rfl (op_assign _ _ _ _ rfl rfl),
        trivial⟩ ?_
       refine pt_then ?_
       refine ht_cond _ rfl (fun hb44 => ?_) (fun hb44 => ?_)
       ·have h := cond_t hb44 h
        refine ht_seq ?_
        refine ht_seqR hn (El := [_, _, _, _, _, _, _, (45, .v (.string v1.2.1)), (46, .ptr 7 1), (7, .box 26 [.v (.int .i64 v2), .v (.string v1.2.1), .v (.bool false), .v (.string (⟨#[]⟩ : ByteArray)), .v (.string (⟨#[]⟩ : ByteArray)), .v (.slice none 0 0)])]) (init := [0, 1, 2, 3, 4, 5, 6]) (fin := [0, 1, 2, 3, 9]) (sps := [⟨[2], [], [7], [(.slot 45)]⟩, ⟨[4], [], [8], [(.slot 46)]⟩, ⟨[8, 7], [4], [9], [.cell 7 1]⟩]) (es' := [(_, _), (_, _), (_, _), (_, _), (7, .box 26 [.v (.int .i64 v2), .v (.string v1.2.1), .v (.bool false), .v (.string (⟨#[]⟩ : ByteArray)), .v (.string (⟨#[]⟩ : ByteArray)), .v (.slice none 0 0)])]) (by kernel_rfl) rfl rfl
         ⟨st_plain rfl (op_move _ _ _ _ rfl rfl),
         st_plain rfl (op_fieldAddr _ _ _ _ 7 0 _ Tryd.underlying26 rfl sz9 rfl rfl (by decide)),
         st_plain rfl (op_store _ _ _ _ _ _ _ _ sz9 rfl rfl rfl rfl (Nat.le_of_ble_eq_true rfl) rfl rfl),
         trivial⟩ ?_
        refine pt_then ?_
        refine ht_seq ?_
        refine ht_joinS h (fun (s45 : Bool) => [(65, .glob (GL mx)), (2, .box 26 [.v (.int .i64 v2), .v (.string v1.2.1), .v (.bool false), .v (.string (⟨#[]⟩ : ByteArray)), .v (.string (⟨#[]⟩ : ByteArray)), .v (.slice none 0 0)]), (3, .v (.bool s45))]) ?_ ?_
        ·rintro s45 h
         refine pt_then ?_
         refine ht_ret ?_
         refine pt_pick [1, 2] (by kernel_rfl) (es' := [(_, _), (_, _)]) rfl ?_
         refine pt_sub (fs := [(2, .box 26 [.v (.int .i64 v2), .v (.string v1.2.1), .v (.bool false), .v (.string (⟨#[]⟩ : ByteArray)), .v (.string (⟨#[]⟩ : ByteArray)), .fl (.own 46) 2 (List.flatten (List.map T_Param.enc []))]), (3, .v (.bool s45))]) (.box _ _ (subs_cons (sub_refl _) (subs_cons (sub_refl _) (subs_cons (sub_refl _) (subs_cons (sub_refl _) (subs_cons (sub_refl _) (subs_cons (sub_nil 46 2) (subs_nil))))))) rfl (.same _ .nil)) ?_
         refine pt_frz 0 hio (es' := [(2, .box 26 [.v (.int .i64 v2), .v (.string v1.2.1), .v (.bool false), .v (.string (⟨#[]⟩ : ByteArray)), .v (.string (⟨#[]⟩ : ByteArray)), .fl .ro 2 (List.flatten (List.map T_Param.enc []))]), (3, .v (.bool s45))]) rfl ?_
         refine pt_r_in ?_
         refine pt_r_then ?_
         obtain rfl := Option.some.inj h
         exact pt_ret hio rfl (.cellA _ _ _ _ Tryd.underlying26 rfl sz26 (.tmp _ _ .nil)) rfl rfl
        ·intro u46 h hl47 hr48
         refine cond_some h (fun hg16_3 h => ?_) (fun hg16_3 h => ?_)
         ·refine ht_anyR (by kernel_rfl) hn (El := [_, _, _, _, _, (47, .agg [.v (.int .i64 v2), .v (.string v1.2.1), .v (.bool false), .v (.string (⟨#[]⟩ : ByteArray)), .v (.string (⟨#[]⟩ : ByteArray)), .v (.slice none 0 0)]), (48, .v (.bool v1.2.2)), (49, .v (.bool (!v1.2.2))), (50, .v (.bool true)), (51, .v undef), (52, .v undef), (53, .v (.bool true)), (2, .box 26 [.v (.int .i64 v2), .v (.string v1.2.1), .v (.bool false), .v (.string (⟨#[]⟩ : ByteArray)), .v (.string (⟨#[]⟩ : ByteArray)), .v (.slice none 0 0)]), (3, .v (.bool true))]) (init := [0, 1, 2, 3, 4]) (fin := [0, 12, 13]) (sps := [⟨[4], [], [5], [(.slot 47)]⟩, ⟨[3], [], [6], [(.slot 48)]⟩, ⟨[6], [], [7], [(.slot 49)]⟩, ⟨[7], [], [8], [(.slot 50)]⟩, ⟨[8], [], [9], [(.slot 51)]⟩, ⟨[8], [], [10], [(.slot 52)]⟩, ⟨[8], [], [11], [(.slot 53)]⟩, ⟨[5], [1], [12], [.cell 2 0, .cell 2 1, .cell 2 2, .cell 2 3, .cell 2 4, .cell 2 5]⟩, ⟨[11], [], [13], [(.slot 3)]⟩]) (es' := [(_, _), (2, .box 26 [.v (.int .i64 v2), .v (.string v1.2.1), .v (.bool false), .v (.string (⟨#[]⟩ : ByteArray)), .v (.string (⟨#[]⟩ : ByteArray)), .v (.slice none 0 0)]), (3, .v (.bool true))]) (by kernel_rfl) rfl rfl
           ⟨st_plain rfl (op_loadA _ _ _ _ _ _ _ Tryd.underlying26 rfl sz26 rfl rfl (Nat.le_of_ble_eq_true rfl) rfl rfl),
           st_plain rfl (op_move _ _ _ _ rfl rfl),
           st_plain rfl (op_un _ _ _ _ rfl rfl),
           st_plain rfl (op_move _ _ _ _ (congrArg (fun b => AV.v (Value.bool b)) hg16_3) rfl),
           st_skip 3 50 _ false rfl rfl rfl rfl (List.Mem.head _),
           st_skip 3 50 _ false rfl rfl rfl rfl (List.Mem.head _),
           st_plain rfl (op_pick _ _ true _ rfl rfl),
           st_plain rfl (op_store _ _ _ _ _ _ _ _ sz26 rfl rfl rfl rfl (Nat.le_of_ble_eq_true rfl) rfl rfl),
           st_plain rfl (op_assign _ _ _ _ rfl rfl),
           trivial⟩ ?_
          exact hl47 _ (Option.some.inj h).symm
         ·obtain ⟨v21, hv21, h⟩ := bind_some h
          refine ht_anyR (by kernel_rfl) hn (El := [_, _, _, _, _, (47, .agg [.v (.int .i64 v2), .v (.string v1.2.1), .v (.bool false), .v (.string (⟨#[]⟩ : ByteArray)), .v (.string (⟨#[]⟩ : ByteArray)), .v (.slice none 0 0)]), (48, .v (.bool v1.2.2)), (49, .v (.bool (!v1.2.2))), (50, .v (.bool false)), (51, .v (.string v1.2.1)), (52, .v (.bool v21)), (53, .v (.bool v21)), (2, .box 26 [.v (.int .i64 v2), .v (.string v1.2.1), .v (.bool false), .v (.string (⟨#[]⟩ : ByteArray)), .v (.string (⟨#[]⟩ : ByteArray)), .v (.slice none 0 0)]), (3, .v (.bool v21))]) (init := [0, 1, 2, 3, 4]) (fin := [0, 12, 13]) (sps := [⟨[4], [], [5], [(.slot 47)]⟩, ⟨[3], [], [6], [(.slot 48)]⟩, ⟨[6], [], [7], [(.slot 49)]⟩, ⟨[7], [], [8], [(.slot 50)]⟩, ⟨[8, 2], [], [9], [(.slot 51)]⟩, ⟨[8, 9, 0], [], [10], [(.slot 52)]⟩, ⟨[8, 10], [], [11], [(.slot 53)]⟩, ⟨[5], [1], [12], [.cell 2 0, .cell 2 1, .cell 2 2, .cell 2 3, .cell 2 4, .cell 2 5]⟩, ⟨[11], [], [13], [(.slot 3)]⟩]) (es' := [(_, _), (2, .box 26 [.v (.int .i64 v2), .v (.string v1.2.1), .v (.bool false), .v (.string (⟨#[]⟩ : ByteArray)), .v (.string (⟨#[]⟩ : ByteArray)), .v (.slice none 0 0)]), (3, .v (.bool v21))]) (by kernel_rfl) rfl rfl
           ⟨st_plain rfl (op_loadA _ _ _ _ _ _ _ Tryd.underlying26 rfl sz26 rfl rfl (Nat.le_of_ble_eq_true rfl) rfl rfl),
           st_plain rfl (op_move _ _ _ _ rfl rfl),
           st_plain rfl (op_un _ _ _ _ rfl rfl),
           st_plain rfl (op_move _ _ _ _ (congrArg (fun b => AV.v (Value.bool b)) hg16_3) rfl),
           st_run 3 50 false rfl rfl rfl (List.Mem.head _) (op_move _ _ _ _ rfl rfl),
           st_run 3 50 false rfl rfl rfl (List.Mem.head _) (op_callG _ _ 65 34 _ _ rfl Tryd.call34 rfl rfl (fun _ h => h) (ok_path_Domain mx v1.2.1 _ hv21) rfl rfl),
           st_plain rfl (op_pick _ _ false _ rfl rfl),
           st_plain rfl (op_store _ _ _ _ _ _ _ _ sz26 rfl rfl rfl rfl (Nat.le_of_ble_eq_true rfl) rfl rfl),
           st_plain rfl (op_assign _ _ _ _ rfl rfl),
           trivial⟩ ?_
          exact hl47 _ (Option.some.inj h).symm
       ·have h := cond_f hb44 h
        refine ht_seq ?_
        refine ht_seqR hn (El := [_, _, _, _, _, _, _, (55, .v (.bool (v2 == 10))), (54, .v (.bool (v2 == 10)))]) (init := [0, 1, 2, 3, 4, 5, 6]) (fin := [0, 1, 2, 3, 4, 5, 8]) (sps := [⟨[5], [], [7], [(.slot 55)]⟩, ⟨[7], [], [8], [(.slot 54)]⟩]) (es' := [(_, _), (_, _), (_, _), (_, _), (_, _), (_, _), (54, .v (.bool (v2 == 10)))]) (by kernel_rfl) rfl rfl
         ⟨st_plain rfl (op_bin _ _ _ _ _ rfl rfl rfl),
         st_plain rfl (op_assign _ _ _ _ rfl rfl),
         trivial⟩ ?_
        refine pt_then ?_
        refine ht_cond _ rfl (fun hb49 => ?_) (fun hb49 => ?_)
        ·have h := cond_t hb49 h
         refine ht_seq ?_
         obtain ⟨v27, hv27, h⟩ := bind_some h
         refine ht_anyR (by kernel_rfl) hn (El := [_, _, _, _, _, _, _, (56, .agg [.v (.int .i64 v2), .v (.string (⟨#[]⟩ : ByteArray)), .v (.bool false), .v (.string (⟨#[]⟩ : ByteArray)), .v (.string (⟨#[]⟩ : ByteArray)), .v (.slice none 0 0)]), (57, .v (.string v1.2.1)), (58, .v (.bool v27)), (2, .box 26 [.v (.int .i64 v2), .v (.string (⟨#[]⟩ : ByteArray)), .v (.bool false), .v (.string (⟨#[]⟩ : ByteArray)), .v (.string (⟨#[]⟩ : ByteArray)), .v (.slice none 0 0)]), (3, .v (.bool v27))]) (init := [0, 1, 2, 3, 4, 5, 6]) (fin := [0, 10, 11]) (sps := [⟨[4], [], [7], [(.slot 56)]⟩, ⟨[2], [], [8], [(.slot 57)]⟩, ⟨[8], [], [9], [(.slot 58)]⟩, ⟨[7], [1], [10], [.cell 2 0, .cell 2 1, .cell 2 2, .cell 2 3, .cell 2 4, .cell 2 5]⟩, ⟨[9], [], [11], [(.slot 3)]⟩]) (es' := [(_, _), (2, .box 26 [.v (.int .i64 v2), .v (.string (⟨#[]⟩ : ByteArray)), .v (.bool false), .v (.string (⟨#[]⟩ : ByteArray)), .v (.string (⟨#[]⟩ : ByteArray)), .v (.slice none 0 0)]), (3, .v (.bool v27))]) (by kernel_rfl) rfl rfl
          ⟨st_plain rfl (op_loadA _ _ _ _ _ _ _ Tryd.underlying26 rfl sz26 rfl rfl (Nat.le_of_ble_eq_true rfl) rfl rfl),
          st_plain rfl (op_move _ _ _ _ rfl rfl),
          st_plain rfl (op_call _ _ 33 _ _ rfl Tryd.call33 rfl (ok_verb_equalFold v1.2.1 (⟨#[67, 82, 65, 77, 45, 77, 68, 53]⟩ : ByteArray) _ hv27) rfl rfl),
          st_plain rfl (op_store _ _ _ _ _ _ _ _ sz26 rfl rfl rfl rfl (Nat.le_of_ble_eq_true rfl) rfl rfl),
          st_plain rfl (op_assign _ _ _ _ rfl rfl),
          trivial⟩ ?_
         refine pt_then ?_
         refine ht_ret ?_
         refine pt_pick [1, 2] (by kernel_rfl) (es' := [(_, _), (_, _)]) rfl ?_
         refine pt_sub (fs := [(2, .box 26 [.v (.int .i64 v2), .v (.string (⟨#[]⟩ : ByteArray)), .v (.bool false), .v (.string (⟨#[]⟩ : ByteArray)), .v (.string (⟨#[]⟩ : ByteArray)), .fl (.own 46) 2 (List.flatten (List.map T_Param.enc []))]), (3, .v (.bool v27))]) (.box _ _ (subs_cons (sub_refl _) (subs_cons (sub_refl _) (subs_cons (sub_refl _) (subs_cons (sub_refl _) (subs_cons (sub_refl _) (subs_cons (sub_nil 46 2) (subs_nil))))))) rfl (.same _ .nil)) ?_
         refine pt_frz 0 hio (es' := [(2, .box 26 [.v (.int .i64 v2), .v (.string (⟨#[]⟩ : ByteArray)), .v (.bool false), .v (.string (⟨#[]⟩ : ByteArray)), .v (.string (⟨#[]⟩ : ByteArray)), .fl .ro 2 (List.flatten (List.map T_Param.enc []))]), (3, .v (.bool v27))]) rfl ?_
         refine pt_r_in ?_
         refine pt_r_then ?_
         obtain rfl := Option.some.inj h
         exact pt_ret hio rfl (.cellA _ _ _ _ Tryd.underlying26 rfl sz26 (.tmp _ _ .nil)) rfl rfl
        ·have h := cond_f hb49 h
         refine ht_seq ?_
         refine ht_seqR hn (El := [_, _, _, _, _, _, _, (60, .v (.bool (v2 == 7))), (59, .v (.bool (v2 == 7)))]) (init := [0, 1, 2, 3, 4, 5, 6]) (fin := [0, 1, 3, 4, 8]) (sps := [⟨[5], [], [7], [(.slot 60)]⟩, ⟨[7], [], [8], [(.slot 59)]⟩]) (es' := [(_, _), (_, _), (_, _), (_, _), (59, .v (.bool (v2 == 7)))]) (by kernel_rfl) rfl rfl
          ⟨st_plain rfl (op_bin _ _ _ _ _ rfl rfl rfl),
          st_plain rfl (op_assign _ _ _ _ rfl rfl),
          trivial⟩ ?_
         refine pt_then ?_
         refine ht_cond _ rfl (fun hb50 => ?_) (fun hb50 => ?_)
         ·have h := cond_t hb50 h
          refine ht_seq ?_
          refine ht_seqR hn (El := [_, _, _, _, _, (61, .agg [.v (.int .i64 v2), .v (.string (⟨#[]⟩ : ByteArray)), .v (.bool false), .v (.string (⟨#[]⟩ : ByteArray)), .v (.string (⟨#[]⟩ : ByteArray)), .v (.slice none 0 0)]), (2, .box 26 [.v (.int .i64 v2), .v (.string (⟨#[]⟩ : ByteArray)), .v (.bool false), .v (.string (⟨#[]⟩ : ByteArray)), .v (.string (⟨#[]⟩ : ByteArray)), .v (.slice none 0 0)]), (3, .v (.bool true))]) (init := [0, 1, 2, 3, 4]) (fin := [0, 6, 7]) (sps := [⟨[3], [], [5], [(.slot 61)]⟩, ⟨[5], [1], [6], [.cell 2 0, .cell 2 1, .cell 2 2, .cell 2 3, .cell 2 4, .cell 2 5]⟩, ⟨[], [], [7], [(.slot 3)]⟩]) (es' := [(_, _), (2, .box 26 [.v (.int .i64 v2), .v (.string (⟨#[]⟩ : ByteArray)), .v (.bool false), .v (.string (⟨#[]⟩ : ByteArray)), .v (.string (⟨#[]⟩ : ByteArray)), .v (.slice none 0 0)]), (3, .v (.bool true))]) (by kernel_rfl) rfl rfl
           ⟨st_plain rfl (op_loadA _ _ _ _ _ _ _ Tryd.underlying26 rfl sz26 rfl rfl (Nat.le_of_ble_eq_true rfl) rfl rfl),
           st_plain rfl (op_store _ _ _ _ _ _ _ _ sz26 rfl rfl rfl rfl (Nat.le_of_ble_eq_true rfl) rfl rfl),
           st_plain rfl (op_assign _ _ _ _ rfl rfl),
           trivial⟩ ?_
          refine pt_then ?_
          refine ht_ret ?_
          refine pt_pick [1, 2] (by kernel_rfl) (es' := [(_, _), (_, _)]) rfl ?_
          refine pt_sub (fs := [(2, .box 26 [.v (.int .i64 v2), .v (.string (⟨#[]⟩ : ByteArray)), .v (.bool false), .v (.string (⟨#[]⟩ : ByteArray)), .v (.string (⟨#[]⟩ : ByteArray)), .fl (.own 46) 2 (List.flatten (List.map T_Param.enc []))]), (3, .v (.bool true))]) (.box _ _ (subs_cons (sub_refl _) (subs_cons (sub_refl _) (subs_cons (sub_refl _) (subs_cons (sub_refl _) (subs_cons (sub_refl _) (subs_cons (sub_nil 46 2) (subs_nil))))))) rfl (.same _ .nil)) ?_
          refine pt_frz 0 hio (es' := [(2, .box 26 [.v (.int .i64 v2), .v (.string (⟨#[]⟩ : ByteArray)), .v (.bool false), .v (.string (⟨#[]⟩ : ByteArray)), .v (.string (⟨#[]⟩ : ByteArray)), .fl .ro 2 (List.flatten (List.map T_Param.enc []))]), (3, .v (.bool true))]) rfl ?_
          refine pt_r_in ?_
          refine pt_r_then ?_
          obtain rfl := Option.some.inj h
          exact pt_ret hio rfl (.cellA _ _ _ _ Tryd.underlying26 rfl sz26 (.tmp _ _ .nil)) rfl rfl
         ·have h := cond_f hb50 h
          refine ht_skip ?_
          refine pt_inb ?_
          refine pt_then ?_
          refine ht_seq ?_
          refine ht_seqR hn (El := [_, _, _, _, _, (62, .agg [.v (.int .i64 v2), .v (.string (⟨#[]⟩ : ByteArray)), .v (.bool false), .v (.string (⟨#[]⟩ : ByteArray)), .v (.string (⟨#[]⟩ : ByteArray)), .v (.slice none 0 0)]), (63, .v (.bool v1.2.2)), (64, .v (.bool (!v1.2.2))), (2, .box 26 [.v (.int .i64 v2), .v (.string (⟨#[]⟩ : ByteArray)), .v (.bool false), .v (.string (⟨#[]⟩ : ByteArray)), .v (.string (⟨#[]⟩ : ByteArray)), .v (.slice none 0 0)]), (3, .v (.bool (!v1.2.2)))]) (init := [0, 1, 2, 3, 4]) (fin := [0, 8, 9]) (sps := [⟨[3], [], [5], [(.slot 62)]⟩, ⟨[2], [], [6], [(.slot 63)]⟩, ⟨[6], [], [7], [(.slot 64)]⟩, ⟨[5], [1], [8], [.cell 2 0, .cell 2 1, .cell 2 2, .cell 2 3, .cell 2 4, .cell 2 5]⟩, ⟨[7], [], [9], [(.slot 3)]⟩]) (es' := [(_, _), (2, .box 26 [.v (.int .i64 v2), .v (.string (⟨#[]⟩ : ByteArray)), .v (.bool false), .v (.string (⟨#[]⟩ : ByteArray)), .v (.string (⟨#[]⟩ : ByteArray)), .v (.slice none 0 0)]), (3, .v (.bool (!v1.2.2)))]) (by kernel_rfl) rfl rfl
           ⟨st_plain rfl (op_loadA _ _ _ _ _ _ _ Tryd.underlying26 rfl sz26 rfl rfl (Nat.le_of_ble_eq_true rfl) rfl rfl),
           st_plain rfl (op_move _ _ _ _ rfl rfl),
           st_plain rfl (op_un _ _ _ _ rfl rfl),
           st_plain rfl (op_store _ _ _ _ _ _ _ _ sz26 rfl rfl rfl rfl (Nat.le_of_ble_eq_true rfl) rfl rfl),
           st_plain rfl (op_assign _ _ _ _ rfl rfl),
           trivial⟩ ?_
          refine pt_then ?_
          refine ht_ret ?_
          refine pt_pick [1, 2] (by kernel_rfl) (es' := [(_, _), (_, _)]) rfl ?_
          refine pt_sub (fs := [(2, .box 26 [.v (.int .i64 v2), .v (.string (⟨#[]⟩ : ByteArray)), .v (.bool false), .v (.string (⟨#[]⟩ : ByteArray)), .v (.string (⟨#[]⟩ : ByteArray)), .fl (.own 46) 2 (List.flatten (List.map T_Param.enc []))]), (3, .v (.bool (!v1.2.2)))]) (.box _ _ (subs_cons (sub_refl _) (subs_cons (sub_refl _) (subs_cons (sub_refl _) (subs_cons (sub_refl _) (subs_cons (sub_refl _) (subs_cons (sub_nil 46 2) (subs_nil))))))) rfl (.same _ .nil)) ?_
          refine pt_frz 0 hio (es' := [(2, .box 26 [.v (.int .i64 v2), .v (.string (⟨#[]⟩ : ByteArray)), .v (.bool false), .v (.string (⟨#[]⟩ : ByteArray)), .v (.string (⟨#[]⟩ : ByteArray)), .fl .ro 2 (List.flatten (List.map T_Param.enc []))]), (3, .v (.bool (!v1.2.2)))]) rfl ?_
          obtain rfl := Option.some.inj h
          exact pt_ret hio rfl (.cellA _ _ _ _ Tryd.underlying26 rfl sz26 (.tmp _ _ .nil)) rfl rfl
    ·intro u38 h hl39 hr40
     refine ht_seq ?_
     refine ht_seqR hn (El := [_, _, _, _, _, _, _, _, (29, .v (.bool (v2 == 1))), (28, .v (.bool (v2 == 1)))]) (init := [0, 1, 2, 3, 4, 5, 6, 7]) (fin := [1, 2, 3, 4, 5, 6, 9]) (sps := [⟨[6], [], [8], [(.slot 29)]⟩, ⟨[8], [], [9], [(.slot 28)]⟩]) (es' := [(_, _), (_, _), (_, _), (_, _), (_, _), (_, _), (28, .v (.bool (v2 == 1)))]) (by kernel_rfl) rfl rfl
      ⟨st_plain rfl (op_bin _ _ _ _ _ rfl rfl rfl),
      st_plain rfl (op_assign _ _ _ _ rfl rfl),
      trivial⟩ ?_
     refine pt_then ?_
     refine ht_cond _ rfl (fun hb41 => ?_) (fun hb41 => ?_)
     ·have h := cond_t hb41 h
      refine ht_skip ?_
      exact hl39 _ (Option.some.inj h).symm
     ·have h := cond_f hb41 h
      refine ht_seqR hn (El := [_, _, _, _, _, _, _, (30, .v (.bool (v2 == 9))), (28, .v (.bool (v2 == 9)))]) (init := [0, 1, 2, 3, 4, 5, 6]) (fin := [0, 1, 2, 3, 4, 5, 8]) (sps := [⟨[5], [], [7], [(.slot 30)]⟩, ⟨[7], [6], [8], [(.slot 28)]⟩]) (es' := [(_, _), (_, _), (_, _), (_, _), (_, _), (_, _), (28, .v (.bool (v2 == 9)))]) (by kernel_rfl) rfl rfl
       ⟨st_plain rfl (op_bin _ _ _ _ _ rfl rfl rfl),
       st_plain rfl (LOp.drop [_] (op_assign _ _ _ _ rfl rfl)),
       trivial⟩ ?_
      exact hl39 _ (Option.some.inj h).symm
  ·intro u31 h hl32 hr33
   refine ht_seq ?_
   refine ht_seqR hn (El := [_, _, _, _, _, _, _, (20, .v (.bool (v2 == 2))), (19, .v (.bool (v2 == 2)))]) (init := [0, 1, 2, 3, 4, 5, 6]) (fin := [0, 1, 2, 3, 4, 5, 6, 8]) (sps := [⟨[6], [], [7], [(.slot 20)]⟩, ⟨[7], [], [8], [(.slot 19)]⟩]) (es' := [(_, _), (_, _), (_, _), (_, _), (_, _), (_, _), (_, _), (19, .v (.bool (v2 == 2)))]) (by kernel_rfl) rfl rfl
    ⟨st_plain rfl (op_bin _ _ _ _ _ rfl rfl rfl),
    st_plain rfl (op_assign _ _ _ _ rfl rfl),
    trivial⟩ ?_
   refine pt_then ?_
   refine ht_cond _ rfl (fun hb34 => ?_) (fun hb34 => ?_)
   ·have h := cond_t hb34 h
    refine ht_skip ?_
    exact hl32 _ (Option.some.inj h).symm
   ·have h := cond_f hb34 h
    refine ht_seqR hn (El := [_, _, _, _, _, _, _, _, (21, .v (.bool (v2 == 3))), (19, .v (.bool (v2 == 3)))]) (init := [0, 1, 2, 3, 4, 5, 6, 7]) (fin := [0, 1, 2, 3, 4, 5, 6, 9]) (sps := [⟨[6], [], [8], [(.slot 21)]⟩, ⟨[8], [7], [9], [(.slot 19)]⟩]) (es' := [(_, _), (_, _), (_, _), (_, _), (_, _), (_, _), (_, _), (19, .v (.bool (v2 == 3)))]) (by kernel_rfl) rfl rfl
     ⟨st_plain rfl (op_bin _ _ _ _ _ rfl rfl rfl),
     st_plain rfl (LOp.drop [_] (op_assign _ _ _ _ rfl rfl)),
     trivial⟩ ?_
    exact hl32 _ (Option.some.inj h).symm
end Go.Proofs.YthfmdofkkkpbkaaDoor
