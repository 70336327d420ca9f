/-
  The model's runs are what is told in Lean.
-/
import Derived.Test.YtadkeipbkbkneaaDoorProg
import Derived.KernelRfl
import Derived.Test.YtadkeipbkbkneaaDoorShelf
import Derived.Test.YtadkeipbkbkneaaDoorOkc2
set_option linter.unusedVariables false
set_option linter.unusedSimpArgs false
namespace Go.Proofs.YtadkeipbkbkneaaDoor
open Go.Abs Go.Abs.Sh

set_option maxHeartbeats 1000000 in
theorem ok_wherrylaw10_CramHexes (mx : Int) (b : (List Int)) (r : Bool) (h : Sh.wherrylaw10_CramHexes b = some r) : FnG Tryd.prog (GL mx) 6 [.fl .shr 1 (List.map (Value.int .u8) b)] (.v (.bool r)) := by
  unfold Sh.wherrylaw10_CramHexes at h
  refine fn_okG Tryd.func6 rfl (Nat.le_of_ble_eq_true rfl) rfl rfl fun g0 hn hio => ?_
  refine ht_seq ?_
  refine ht_seqR hn (El := [_, _, (2, .v (.bool false))]) (init := [0, 1]) (fin := [0, 1]) (sps := [⟨[], [], [2], [(.slot 2)]⟩]) (es' := [(_, _), (_, _)]) (by kernel_rfl) rfl rfl
   ⟨st_plain rfl (op_assign _ _ _ _ rfl rfl),
   trivial⟩ ?_
  refine pt_then ?_
  refine ht_seq ?_
  refine ht_seq ?_
  refine ht_seqR hn (El := [_, _, (7, .fl .shr 1 (List.map (Value.int .u8) b)), (8, .v (.int .i64 (b.length : Int))), (9, .v (.bool ((decide (300 < (b.length : Int))))))]) (init := [0, 1]) (fin := [0, 1, 4]) (sps := [⟨[0], [], [2], [(.slot 7)]⟩, ⟨[2], [], [3], [(.slot 8)]⟩, ⟨[3], [], [4], [(.slot 9)]⟩]) (es' := [(_, _), (_, _), (9, .v (.bool ((decide (300 < (b.length : Int))))))]) (by kernel_rfl) rfl rfl
   ⟨st_plain rfl (op_move _ _ _ _ rfl rfl),
   st_plain rfl (op_len_fl _ _ _ Tryd.underlying22 rfl (by decide) (map_len _)),
   st_plain rfl (op_bin _ _ _ _ _ rfl rfl rfl),
   trivial⟩ ?_
  refine pt_then ?_
  refine ht_cond _ rfl (fun hb1 => ?_) (fun hb1 => ?_)
  ·have h := cond_t hb1 h
   refine ht_seq ?_
   refine ht_seqR hn (El := [_, _, _, (2, .v (.bool true))]) (init := [0, 1, 2]) (fin := [1, 3]) (sps := [⟨[], [], [3], [(.slot 2)]⟩]) (es' := [(_, _), (2, .v (.bool true))]) (by kernel_rfl) rfl rfl
    ⟨st_plain rfl (op_assign _ _ _ _ rfl rfl),
    trivial⟩ ?_
   refine pt_then ?_
   refine ht_ret ?_
   refine pt_pick [1] (by kernel_rfl) (es' := [(_, _)]) rfl ?_
   refine pt_r_then ?_
   obtain rfl := Option.some.inj h
   exact pt_ret hio rfl (.tmp _ _ .nil) rfl rfl
  ·have h := cond_f hb1 h
   refine ht_skip ?_
   refine pt_then ?_
   refine ht_seq ?_
   obtain ⟨v2, hv2, h⟩ := bind_some h
   obtain ⟨v3, hv3, h⟩ := bind_some h
   refine ht_seqR hn (El := [_, _, _, (10, .fl .shr 1 (List.map (Value.int .u8) b)), (11, .v (.string v2)), (12, .fl .shr 1 (List.map (Value.int .u8) b)), (13, .v (.string v3)), (3, .v (.string v2)), (4, .v (.string v3))]) (init := [0, 1, 2]) (fin := [0, 1, 7, 8]) (sps := [⟨[0], [], [3], [(.slot 10)]⟩, ⟨[3], [], [4], [(.slot 11)]⟩, ⟨[0], [], [5], [(.slot 12)]⟩, ⟨[5], [], [6], [(.slot 13)]⟩, ⟨[4], [], [7], [(.slot 3)]⟩, ⟨[6], [], [8], [(.slot 4)]⟩]) (es' := [(_, _), (_, _), (3, .v (.string v2)), (4, .v (.string v3))]) (by kernel_rfl) rfl rfl
    ⟨st_plain rfl (op_move _ _ _ _ rfl rfl),
    st_plain rfl (op_call _ _ 14 _ _ rfl Tryd.call14 rfl (ok_cram_Hex b _ hv2) rfl rfl),
    st_plain rfl (op_move _ _ _ _ rfl rfl),
    st_plain rfl (op_call _ _ 12 _ _ rfl Tryd.call12 rfl (ok_cram_Encode b _ hv3) rfl rfl),
    st_plain rfl (op_assign _ _ _ _ rfl rfl),
    st_plain rfl (op_assign _ _ _ _ rfl rfl),
    trivial⟩ ?_
   refine pt_then ?_
   refine ht_seq ?_
   refine ht_seq ?_
   obtain ⟨v4, hv4, h⟩ := bind_some h
   refine ht_seqR hn (El := [_, _, _, _, (14, .v (.string v2)), (15, .v (.int .i64 (v2.size : Int))), (16, .fl .shr 1 (List.map (Value.int .u8) b)), (17, .v (.int .i64 (b.length : Int))), (18, .v (.int .i64 v4)), (19, .v (.bool (((v2.size : Int) != v4))))]) (init := [0, 1, 2, 3]) (fin := [0, 1, 2, 3, 9]) (sps := [⟨[2], [], [4], [(.slot 14)]⟩, ⟨[4], [], [5], [(.slot 15)]⟩, ⟨[0], [], [6], [(.slot 16)]⟩, ⟨[6], [], [7], [(.slot 17)]⟩, ⟨[7], [], [8], [(.slot 18)]⟩, ⟨[5, 8], [], [9], [(.slot 19)]⟩]) (es' := [(_, _), (_, _), (_, _), (_, _), (19, .v (.bool (((v2.size : Int) != v4))))]) (by kernel_rfl) rfl rfl
    ⟨st_plain rfl (op_move _ _ _ _ rfl rfl),
    st_plain rfl (op_len_str _ _ _ Tryd.underlying9 rfl),
    st_plain rfl (op_move _ _ _ _ rfl rfl),
    st_plain rfl (op_len_fl _ _ _ Tryd.underlying22 rfl (by decide) (map_len _)),
    st_plain rfl (op_bin _ _ _ _ _ rfl rfl (ibind (f := Value.int .i64) (Option.some.inj hv4))),
    st_plain rfl (op_bin _ _ _ _ _ rfl rfl rfl),
    trivial⟩ ?_
   refine pt_then ?_
   refine ht_cond _ rfl (fun hb5 => ?_) (fun hb5 => ?_)
   ·have h := cond_t hb5 h
    refine ht_seq ?_
    refine ht_seqR hn (El := [_, _, _, _, _, (2, .v (.bool false))]) (init := [0, 1, 2, 3, 4]) (fin := [1, 5]) (sps := [⟨[], [], [5], [(.slot 2)]⟩]) (es' := [(_, _), (2, .v (.bool false))]) (by kernel_rfl) rfl rfl
     ⟨st_plain rfl (op_assign _ _ _ _ rfl rfl),
     trivial⟩ ?_
    refine pt_then ?_
    refine ht_ret ?_
    refine pt_pick [1] (by kernel_rfl) (es' := [(_, _)]) rfl ?_
    refine pt_r_then ?_
    obtain rfl := Option.some.inj h
    exact pt_ret hio rfl (.tmp _ _ .nil) rfl rfl
   ·have h := cond_f hb5 h
    refine ht_skip ?_
    refine pt_then ?_
    refine ht_seq ?_
    refine ht_seq ?_
    refine ht_seqR hn (El := [_, _, _, _, _, (5, .v (.int .i64 0))]) (init := [0, 1, 2, 3, 4]) (fin := [0, 1, 2, 3, 5]) (sps := [⟨[], [], [5], [(.slot 5)]⟩]) (es' := [(_, _), (_, _), (_, _), (_, _), (5, .v (.int .i64 0))]) (by kernel_rfl) rfl rfl
     ⟨st_plain rfl (op_assign _ _ _ _ rfl rfl),
     trivial⟩ ?_
    refine pt_then ?_
    refine ht_loopS h (fun (s24 : Int) => [(0, .fl .shr 1 (List.map (Value.int .u8) b)), (71, .glob (GL mx)), (3, .v (.string v2)), (4, .v (.string v3)), (5, .v (.int .i64 s24))]) (fun (() : Unit) => [(0, .fl .shr 1 (List.map (Value.int .u8) b)), (71, .glob (GL mx)), (4, .v (.string v3))]) ?_ ?_
    ·rintro ⟨⟩ h
     refine pt_then ?_
     refine ht_seq ?_
     refine ht_seqR hn (El := [_, _, _, (6, .v (.int .i64 0))]) (init := [0, 1, 2]) (fin := [0, 1, 2, 3]) (sps := [⟨[], [], [3], [(.slot 6)]⟩]) (es' := [(_, _), (_, _), (_, _), (6, .v (.int .i64 0))]) (by kernel_rfl) rfl rfl
      ⟨st_plain rfl (op_assign _ _ _ _ rfl rfl),
      trivial⟩ ?_
     refine pt_then ?_
     refine ht_seq ?_
     refine ht_loopS h (fun (s50 : Int) => [(0, .fl .shr 1 (List.map (Value.int .u8) b)), (71, .glob (GL mx)), (4, .v (.string v3)), (6, .v (.int .i64 s50))]) (fun (s56 : Int) => [(0, .fl .shr 1 (List.map (Value.int .u8) b)), (71, .glob (GL mx)), (6, .v (.int .i64 s56))]) ?_ ?_
     ·rintro s56 h
      refine pt_then ?_
      refine ht_seq ?_
      refine ht_joinS h (fun (s72 : Bool) => [(71, .glob (GL mx)), (2, .v (.bool s72))]) ?_ ?_
      ·rintro s72 h
       refine pt_then ?_
       refine ht_ret ?_
       refine pt_pick [1] (by kernel_rfl) (es' := [(_, _)]) rfl ?_
       obtain rfl := Option.some.inj h
       exact pt_ret hio rfl (.tmp _ _ .nil) rfl rfl
      ·intro u73 h hl74 hr75
       obtain ⟨v68, hv68, h⟩ := bind_some h
       obtain ⟨v69, hv69, h⟩ := bind_some h
       obtain ⟨v70, hv70, h⟩ := bind_some h
       refine cond_some h (fun hg14_7 h => ?_) (fun hg14_7 h => ?_)
       ·obtain ⟨v71, hv71, h⟩ := bind_some h
        refine ht_seqR hn (El := [_, _, _, (61, .v (.int .i64 s56)), (62, .fl .shr 1 (List.map (Value.int .u8) b)), (63, .v (.int .i64 (b.length : Int))), (64, .v (.int .i64 v68)), (65, .v (.int .i64 v69)), (66, .v (.int .i64 v70)), (67, .v (.bool (s56 == v70))), (68, .v (.bool true)), (69, .v (.bool v71)), (70, .v (.bool v71)), (2, .v (.bool v71))]) (init := [0, 1, 2]) (fin := [1, 13]) (sps := [⟨[2], [], [3], [(.slot 61)]⟩, ⟨[0], [], [4], [(.slot 62)]⟩, ⟨[4], [], [5], [(.slot 63)]⟩, ⟨[5], [], [6], [(.slot 64)]⟩, ⟨[6], [], [7], [(.slot 65)]⟩, ⟨[7], [], [8], [(.slot 66)]⟩, ⟨[3, 8], [], [9], [(.slot 67)]⟩, ⟨[9], [], [10], [(.slot 68)]⟩, ⟨[10, 1], [], [11], [(.slot 69)]⟩, ⟨[10, 11], [], [12], [(.slot 70)]⟩, ⟨[12], [], [13], [(.slot 2)]⟩]) (es' := [(_, _), (2, .v (.bool v71))]) (by kernel_rfl) rfl rfl
         ⟨st_plain rfl (op_move _ _ _ _ rfl rfl),
         st_plain rfl (op_move _ _ _ _ rfl rfl),
         st_plain rfl (op_len_fl _ _ _ Tryd.underlying22 rfl (by decide) (map_len _)),
         st_plain rfl (op_bin _ _ _ _ _ rfl rfl (rem_ok hv68)),
         st_plain rfl (op_bin _ _ _ _ _ rfl rfl (ibind (f := Value.int .i64) (Option.some.inj hv69))),
         st_plain rfl (op_bin _ _ _ _ _ rfl rfl (rem_ok hv70)),
         st_plain rfl (op_bin _ _ _ _ _ rfl rfl rfl),
         st_plain rfl (op_move _ _ _ _ (congrArg (fun b => AV.v (Value.bool b)) hg14_7) rfl),
         st_run 7 68 true rfl rfl rfl (List.Mem.head _) (op_callG _ _ 71 19 _ _ rfl Tryd.call19 rfl rfl (fun _ h => h) (ok_wherrylaw10_wakes mx  _ hv71) rfl rfl),
         st_plain rfl (op_pick _ _ true _ rfl rfl),
         st_plain rfl (op_assign _ _ _ _ rfl rfl),
         trivial⟩ ?_
        exact hl74 _ (Option.some.inj h).symm
       ·refine ht_seqR hn (El := [_, _, _, (61, .v (.int .i64 s56)), (62, .fl .shr 1 (List.map (Value.int .u8) b)), (63, .v (.int .i64 (b.length : Int))), (64, .v (.int .i64 v68)), (65, .v (.int .i64 v69)), (66, .v (.int .i64 v70)), (67, .v (.bool (s56 == v70))), (68, .v (.bool false)), (69, .v undef), (70, .v (.bool false)), (2, .v (.bool false))]) (init := [0, 1, 2]) (fin := [1, 13]) (sps := [⟨[2], [], [3], [(.slot 61)]⟩, ⟨[0], [], [4], [(.slot 62)]⟩, ⟨[4], [], [5], [(.slot 63)]⟩, ⟨[5], [], [6], [(.slot 64)]⟩, ⟨[6], [], [7], [(.slot 65)]⟩, ⟨[7], [], [8], [(.slot 66)]⟩, ⟨[3, 8], [], [9], [(.slot 67)]⟩, ⟨[9], [], [10], [(.slot 68)]⟩, ⟨[10], [], [11], [(.slot 69)]⟩, ⟨[10], [], [12], [(.slot 70)]⟩, ⟨[12], [], [13], [(.slot 2)]⟩]) (es' := [(_, _), (2, .v (.bool false))]) (by kernel_rfl) rfl rfl
         ⟨st_plain rfl (op_move _ _ _ _ rfl rfl),
         st_plain rfl (op_move _ _ _ _ rfl rfl),
         st_plain rfl (op_len_fl _ _ _ Tryd.underlying22 rfl (by decide) (map_len _)),
         st_plain rfl (op_bin _ _ _ _ _ rfl rfl (rem_ok hv68)),
         st_plain rfl (op_bin _ _ _ _ _ rfl rfl (ibind (f := Value.int .i64) (Option.some.inj hv69))),
         st_plain rfl (op_bin _ _ _ _ _ rfl rfl (rem_ok hv70)),
         st_plain rfl (op_bin _ _ _ _ _ rfl rfl rfl),
         st_plain rfl (op_move _ _ _ _ (congrArg (fun b => AV.v (Value.bool b)) hg14_7) rfl),
         st_skip 7 68 _ true rfl rfl rfl rfl (List.Mem.head _),
         st_plain rfl (op_pick _ _ false _ rfl rfl),
         st_plain rfl (op_assign _ _ _ _ rfl rfl),
         trivial⟩ ?_
        exact hl74 _ (Option.some.inj h).symm
     ·rintro u57 hl58 hr59 s50 rr62 h ho60
      refine ht_seq ?_
      refine ht_seq ?_
      refine ht_joinS h (fun (s63 : Bool) => [(0, .fl .shr 1 (List.map (Value.int .u8) b)), (71, .glob (GL mx)), (4, .v (.string v3)), (6, .v (.int .i64 s50)), (58, .v (.bool s63))]) ?_ ?_
      ·rintro s63 h
       refine pt_then ?_
       refine ht_cond _ rfl (fun hb67 => ?_) (fun hb67 => ?_)
       ·have h := cond_t hb67 h
        refine ht_skip ?_
        refine pt_then ?_
        refine ht_block ?_
        obtain ⟨v43, hv43, h⟩ := bind_some h
        refine ht_seqR hn (El := [_, _, _, _, _, (59, .v (.int .i64 s50)), (60, .v (.int .i64 v43)), (6, .v (.int .i64 v43))]) (init := [0, 1, 2, 3, 4]) (fin := [0, 1, 2, 7]) (sps := [⟨[3], [], [5], [(.slot 59)]⟩, ⟨[5], [], [6], [(.slot 60)]⟩, ⟨[6], [3], [7], [(.slot 6)]⟩]) (es' := [(_, _), (_, _), (_, _), (6, .v (.int .i64 v43))]) (by kernel_rfl) rfl rfl
         ⟨st_plain rfl (op_move _ _ _ _ rfl rfl),
         st_plain rfl (op_bin _ _ _ _ _ rfl rfl (ibind (f := Value.int .i64) (Option.some.inj hv43))),
         st_plain rfl (LOp.drop [_] (op_assign _ _ _ _ rfl rfl)),
         trivial⟩ ?_
        refine pt_inb ?_
        exact pt_next _ (Option.some.inj h).symm rfl
       ·have h := cond_f hb67 h
        refine ht_exit ?_
        refine pt_x_then ?_
        refine pt_x_then ?_
        refine pt_x_in ?_
        refine pt_pick [0, 1, 3] (by kernel_rfl) (es' := [(_, _), (_, _), (_, _)]) rfl ?_
        exact hl58 _ (ho60 _ (Option.some.inj h).symm).symm
      ·intro u64 h hl65 hr66
       refine cond_some h (fun hg12_4 h => ?_) (fun hg12_4 h => ?_)
       ·obtain ⟨v35, hv35, h⟩ := bind_some h
        obtain ⟨v36, hv36, h⟩ := bind_some h
        obtain ⟨v37, hv37, h⟩ := bind_some h
        refine ht_seqR hn (El := (_ :: _ :: _ :: _ :: (45, .v (.int .i64 s50)) :: (46, .v (.string v3)) :: (47, .v (.int .i64 (v3.size : Int))) :: (48, .v (.bool ((decide (s50 < (v3.size : Int)))))) :: (49, .v (.bool true)) :: (50, .v (.string v3)) :: (51, .v (.string v3)) :: (52, .v (.int .i64 (v3.size : Int))) :: (53, .v (.int .i64 v35)) :: (54, .v (.int .i64 s50)) :: (55, .v (.int .i64 v36)) :: (56, .v (.int .u8 v37)) :: (57, .v (.bool (v37 == 61))) :: (58, .v (.bool (v37 == 61))) :: [])) (init := [0, 1, 2, 3]) (fin := [0, 1, 2, 3, 17]) (sps := [⟨[3], [], [4], [(.slot 45)]⟩, ⟨[2], [], [5], [(.slot 46)]⟩, ⟨[5], [], [6], [(.slot 47)]⟩, ⟨[4, 6], [], [7], [(.slot 48)]⟩, ⟨[7], [], [8], [(.slot 49)]⟩, ⟨[8, 2], [], [9], [(.slot 50)]⟩, ⟨[8, 2], [], [10], [(.slot 51)]⟩, ⟨[8, 10], [], [11], [(.slot 52)]⟩, ⟨[8, 11], [], [12], [(.slot 53)]⟩, ⟨[8, 3], [], [13], [(.slot 54)]⟩, ⟨[8, 12, 13], [], [14], [(.slot 55)]⟩, ⟨[8, 9, 14], [], [15], [(.slot 56)]⟩, ⟨[8, 15], [], [16], [(.slot 57)]⟩, ⟨[8, 16], [], [17], [(.slot 58)]⟩]) (es' := [(_, _), (_, _), (_, _), (_, _), (58, .v (.bool (v37 == 61)))]) (by kernel_rfl) rfl rfl
         ⟨st_plain rfl (op_move _ _ _ _ rfl rfl),
         st_plain rfl (op_move _ _ _ _ rfl rfl),
         st_plain rfl (op_len_str _ _ _ Tryd.underlying9 rfl),
         st_plain rfl (op_bin _ _ _ _ _ rfl rfl rfl),
         st_plain rfl (op_move _ _ _ _ (congrArg (fun b => AV.v (Value.bool b)) hg12_4) rfl),
         st_run 4 49 true rfl rfl rfl (List.Mem.head _) (op_move _ _ _ _ rfl rfl),
         st_run 4 49 true rfl rfl rfl (List.Mem.head _) (op_move _ _ _ _ rfl rfl),
         st_run 4 49 true rfl rfl rfl (List.Mem.head _) (op_len_str _ _ _ Tryd.underlying9 rfl),
         st_run 4 49 true rfl rfl rfl (List.Mem.head _) (op_bin _ _ _ _ _ rfl rfl (ibind (f := Value.int .i64) (Option.some.inj hv35))),
         st_run 4 49 true rfl rfl rfl (List.Mem.head _) (op_move _ _ _ _ rfl rfl),
         st_run 4 49 true rfl rfl rfl (List.Mem.head _) (op_bin _ _ _ _ _ rfl rfl (ibind (f := Value.int .i64) (Option.some.inj hv36))),
         st_run 4 49 true rfl rfl rfl (List.Mem.head _) (op_chr _ _ _ v36 _ Tryd.underlying9 rfl rfl hv37),
         st_run 4 49 true rfl rfl rfl (List.Mem.head _) (op_bin _ _ _ _ _ rfl rfl rfl),
         st_plain rfl (op_pick _ _ true _ rfl rfl),
         trivial⟩ ?_
        exact hl65 _ (Option.some.inj h).symm
       ·refine ht_seqR hn (El := (_ :: _ :: _ :: _ :: (45, .v (.int .i64 s50)) :: (46, .v (.string v3)) :: (47, .v (.int .i64 (v3.size : Int))) :: (48, .v (.bool ((decide (s50 < (v3.size : Int)))))) :: (49, .v (.bool false)) :: (50, .v undef) :: (51, .v undef) :: (52, .v undef) :: (53, .v undef) :: (54, .v undef) :: (55, .v undef) :: (56, .v undef) :: (57, .v undef) :: (58, .v (.bool false)) :: [])) (init := [0, 1, 2, 3]) (fin := [0, 1, 2, 3, 17]) (sps := [⟨[3], [], [4], [(.slot 45)]⟩, ⟨[2], [], [5], [(.slot 46)]⟩, ⟨[5], [], [6], [(.slot 47)]⟩, ⟨[4, 6], [], [7], [(.slot 48)]⟩, ⟨[7], [], [8], [(.slot 49)]⟩, ⟨[8], [], [9], [(.slot 50)]⟩, ⟨[8], [], [10], [(.slot 51)]⟩, ⟨[8], [], [11], [(.slot 52)]⟩, ⟨[8], [], [12], [(.slot 53)]⟩, ⟨[8], [], [13], [(.slot 54)]⟩, ⟨[8], [], [14], [(.slot 55)]⟩, ⟨[8], [], [15], [(.slot 56)]⟩, ⟨[8], [], [16], [(.slot 57)]⟩, ⟨[8], [], [17], [(.slot 58)]⟩]) (es' := [(_, _), (_, _), (_, _), (_, _), (58, .v (.bool false))]) (by kernel_rfl) rfl rfl
         ⟨st_plain rfl (op_move _ _ _ _ rfl rfl),
         st_plain rfl (op_move _ _ _ _ rfl rfl),
         st_plain rfl (op_len_str _ _ _ Tryd.underlying9 rfl),
         st_plain rfl (op_bin _ _ _ _ _ rfl rfl rfl),
         st_plain rfl (op_move _ _ _ _ (congrArg (fun b => AV.v (Value.bool b)) hg12_4) rfl),
         st_skip 4 49 _ true rfl rfl rfl rfl (List.Mem.head _),
         st_skip 4 49 _ true rfl rfl rfl rfl (List.Mem.head _),
         st_skip 4 49 _ true rfl rfl rfl rfl (List.Mem.head _),
         st_skip 4 49 _ true rfl rfl rfl rfl (List.Mem.head _),
         st_skip 4 49 _ true rfl rfl rfl rfl (List.Mem.head _),
         st_skip 4 49 _ true rfl rfl rfl rfl (List.Mem.head _),
         st_skip 4 49 _ true rfl rfl rfl rfl (List.Mem.head _),
         st_skip 4 49 _ true rfl rfl rfl rfl (List.Mem.head _),
         st_plain rfl (op_pick _ _ false _ rfl rfl),
         trivial⟩ ?_
        exact hl65 _ (Option.some.inj h).symm
    ·rintro u27 hl28 hr29 s24 rr32 h ho30
     refine ht_seq ?_
     refine ht_seq ?_
     refine ht_seqR hn (El := [_, _, _, _, _, (20, .v (.int .i64 s24)), (21, .fl .shr 1 (List.map (Value.int .u8) b)), (22, .v (.int .i64 (b.length : Int))), (23, .v (.bool ((decide (s24 < (b.length : Int))))))]) (init := [0, 1, 2, 3, 4]) (fin := [0, 1, 2, 3, 4, 8]) (sps := [⟨[4], [], [5], [(.slot 20)]⟩, ⟨[0], [], [6], [(.slot 21)]⟩, ⟨[6], [], [7], [(.slot 22)]⟩, ⟨[5, 7], [], [8], [(.slot 23)]⟩]) (es' := [(_, _), (_, _), (_, _), (_, _), (_, _), (23, .v (.bool ((decide (s24 < (b.length : Int))))))]) (by kernel_rfl) rfl rfl
      ⟨st_plain rfl (op_move _ _ _ _ rfl rfl),
      st_plain rfl (op_move _ _ _ _ rfl rfl),
      st_plain rfl (op_len_fl _ _ _ Tryd.underlying22 rfl (by decide) (map_len _)),
      st_plain rfl (op_bin _ _ _ _ _ rfl rfl rfl),
      trivial⟩ ?_
     refine pt_then ?_
     refine ht_cond _ rfl (fun hb33 => ?_) (fun hb33 => ?_)
     ·have h := cond_t hb33 h
      refine ht_skip ?_
      refine pt_then ?_
      refine ht_seq ?_
      refine ht_block ?_
      refine ht_seq ?_
      obtain ⟨v7, hv7, h⟩ := bind_some h
      obtain ⟨v8, hv8, h⟩ := bind_some h
      obtain ⟨v9, hv9, h⟩ := bind_some h
      obtain ⟨v10, hv10, h⟩ := bind_some h
      obtain ⟨v11, hv11, h⟩ := bind_some h
      obtain ⟨v12, hv12, h⟩ := bind_some h
      obtain ⟨v13, hv13, h⟩ := bind_some h
      obtain ⟨v14, hv14, h⟩ := bind_some h
      obtain ⟨v15, hv15, h⟩ := bind_some h
      obtain ⟨v16, hv16, h⟩ := bind_some h
      obtain ⟨v17, hv17, h⟩ := bind_some h
      obtain ⟨v18, hv18, h⟩ := bind_some h
      refine ht_anyR (by kernel_rfl) hn (El := (_ :: _ :: _ :: _ :: _ :: _ :: (26, .v (.string v2)) :: (27, .v (.int .i64 s24)) :: (28, .v (.int .i64 v7)) :: (29, .v (.int .u8 v8)) :: (30, .v (.int .i64 v9)) :: (31, .v (.int .i64 v10)) :: (32, .v (.string v2)) :: (33, .v (.int .i64 s24)) :: (34, .v (.int .i64 v11)) :: (35, .v (.int .i64 v12)) :: (36, .v (.int .u8 v13)) :: (37, .v (.int .i64 v14)) :: (38, .v (.int .i64 v15)) :: (39, .fl .shr 1 (List.map (Value.int .u8) b)) :: (40, .v (.int .i64 s24)) :: (41, .eref (.slot 39) (v16 * 1)) :: (42, .v (.int .u8 v17)) :: (43, .v (.int .i64 v18)) :: (44, .v (.bool (v15 != v18))) :: [])) (init := [0, 1, 2, 3, 4, 5]) (fin := [0, 1, 2, 3, 4, 24]) (sps := (⟨[2], [], [6], [(.slot 26)]⟩ :: ⟨[4], [], [7], [(.slot 27)]⟩ :: ⟨[7], [], [8], [(.slot 28)]⟩ :: ⟨[6, 8], [], [9], [(.slot 29)]⟩ :: ⟨[9], [], [10], [(.slot 30)]⟩ :: ⟨[10], [], [11], [(.slot 31)]⟩ :: ⟨[2], [], [12], [(.slot 32)]⟩ :: ⟨[4], [], [13], [(.slot 33)]⟩ :: ⟨[13], [], [14], [(.slot 34)]⟩ :: ⟨[14], [], [15], [(.slot 35)]⟩ :: ⟨[12, 15], [], [16], [(.slot 36)]⟩ :: ⟨[16], [], [17], [(.slot 37)]⟩ :: ⟨[11, 17], [], [18], [(.slot 38)]⟩ :: ⟨[0], [], [19], [(.slot 39)]⟩ :: ⟨[4], [], [20], [(.slot 40)]⟩ :: ⟨[19, 20], [], [21], [(.slot 41)]⟩ :: ⟨[21, 19], [], [22], [(.slot 42)]⟩ :: ⟨[22], [], [23], [(.slot 43)]⟩ :: ⟨[18, 23], [], [24], [(.slot 44)]⟩ :: [])) (es' := [(_, _), (_, _), (_, _), (_, _), (_, _), (44, .v (.bool (v15 != v18)))]) (by kernel_rfl) rfl rfl
       ⟨st_plain rfl (op_move _ _ _ _ rfl rfl),
       st_plain rfl (op_move _ _ _ _ rfl rfl),
       st_plain rfl (op_bin _ _ _ _ _ rfl rfl (ibind (f := Value.int .i64) (Option.some.inj hv7))),
       st_plain rfl (op_chr _ _ _ v7 _ Tryd.underlying9 rfl rfl hv8),
       st_plain rfl (op_call _ _ 21 _ _ rfl Tryd.call21 rfl (ok_wherrylaw10_digit v8 _ hv9) rfl rfl),
       st_plain rfl (op_bin _ _ _ _ _ rfl rfl (ibind (f := Value.int .i64) (Option.some.inj hv10))),
       st_plain rfl (op_move _ _ _ _ rfl rfl),
       st_plain rfl (op_move _ _ _ _ rfl rfl),
       st_plain rfl (op_bin _ _ _ _ _ rfl rfl (ibind (f := Value.int .i64) (Option.some.inj hv11))),
       st_plain rfl (op_bin _ _ _ _ _ rfl rfl (ibind (f := Value.int .i64) (Option.some.inj hv12))),
       st_plain rfl (op_chr _ _ _ v12 _ Tryd.underlying9 rfl rfl hv13),
       st_plain rfl (op_call _ _ 21 _ _ rfl Tryd.call21 rfl (ok_wherrylaw10_digit v13 _ hv14) rfl rfl),
       st_plain rfl (op_bin _ _ _ _ _ rfl rfl (ibind (f := Value.int .i64) (Option.some.inj hv15))),
       st_plain rfl (op_move _ _ _ _ rfl rfl),
       st_plain rfl (op_move _ _ _ _ rfl rfl),
       st_plain rfl (op_ix _ _ _ _ _ _ _ _ Tryd.underlying22 sz5 (by decide) rfl rfl rfl (ix_ok hv16).1 (map_lt (ix_ok hv16).2) rfl),
       st_plain rfl (op_load_e _ _ _ _ _ _ Tryd.underlying5 rfl rfl rfl (map_get hv17)),
       st_plain rfl ((Option.some.inj hv18) ▸ op_conv _ _ _ Tryd.underlying5 Tryd.underlying3 rfl),
       st_plain rfl (op_bin _ _ _ _ _ rfl rfl rfl),
       trivial⟩ ?_
      refine pt_then ?_
      refine ht_cond _ rfl (fun hb34 => ?_) (fun hb34 => ?_)
      ·have h := cond_t hb34 h
       refine ht_seq ?_
       refine ht_seqR hn (El := [_, _, _, _, _, _, (2, .v (.bool false))]) (init := [0, 1, 2, 3, 4, 5]) (fin := [1, 6]) (sps := [⟨[], [], [6], [(.slot 2)]⟩]) (es' := [(_, _), (2, .v (.bool false))]) (by kernel_rfl) rfl rfl
        ⟨st_plain rfl (op_assign _ _ _ _ rfl rfl),
        trivial⟩ ?_
       refine pt_then ?_
       refine ht_ret ?_
       refine pt_pick [1] (by kernel_rfl) (es' := [(_, _)]) rfl ?_
       refine pt_r_in ?_
       refine pt_r_then ?_
       refine pt_r_then ?_
       refine pt_r_in ?_
       refine pt_r_then ?_
       have h := hr29 _ (ho30 _ (Option.some.inj h).symm).symm
       obtain rfl := Option.some.inj h
       exact pt_ret hio rfl (.tmp _ _ .nil) rfl rfl
      ·have h := cond_f hb34 h
       refine ht_skip ?_
       refine pt_inb ?_
       refine pt_then ?_
       obtain ⟨v20, hv20, h⟩ := bind_some h
       refine ht_seqR hn (El := [_, _, _, _, _, _, (24, .v (.int .i64 s24)), (25, .v (.int .i64 v20)), (5, .v (.int .i64 v20))]) (init := [0, 1, 2, 3, 4, 5]) (fin := [0, 1, 2, 3, 8]) (sps := [⟨[4], [], [6], [(.slot 24)]⟩, ⟨[6], [], [7], [(.slot 25)]⟩, ⟨[7], [4], [8], [(.slot 5)]⟩]) (es' := [(_, _), (_, _), (_, _), (_, _), (5, .v (.int .i64 v20))]) (by kernel_rfl) rfl rfl
        ⟨st_plain rfl (op_move _ _ _ _ rfl rfl),
        st_plain rfl (op_bin _ _ _ _ _ rfl rfl (ibind (f := Value.int .i64) (Option.some.inj hv20))),
        st_plain rfl (LOp.drop [_] (op_assign _ _ _ _ rfl rfl)),
        trivial⟩ ?_
       exact pt_next _ (Option.some.inj h).symm rfl
     ·have h := cond_f hb33 h
      refine ht_exit ?_
      refine pt_x_then ?_
      refine pt_x_then ?_
      refine pt_x_in ?_
      refine pt_pick [0, 1, 3] (by kernel_rfl) (es' := [(_, _), (_, _), (_, _)]) rfl ?_
      exact hl28 _ (ho30 _ (Option.some.inj h).symm).symm

end Go.Proofs.YtadkeipbkbkneaaDoor
