/-
  The model's runs are what is told in Lean.
-/
import Derived.Test.YtpmngahekkagpaaDoorProg
import Derived.KernelRfl
import Derived.Test.YtpmngahekkagpaaDoorShelf
import Derived.Test.YtpmngahekkagpaaDoorOkc3
set_option linter.unusedVariables false
set_option linter.unusedSimpArgs false
namespace Go.Proofs.YtpmngahekkagpaaDoor
open Go.Abs Go.Abs.Sh

set_option maxHeartbeats 1000000 in
theorem ok_wherrylaw11_PathLong (mx : Int) (over : Int) (c : Int) (r : Bool) (h : Sh.wherrylaw11_PathLong over c = some r) : FnG Tryd.prog (GL mx) 7 [.v (.int .i64 over), .v (.int .u8 c)] (.v (.bool r)) := by
  unfold Sh.wherrylaw11_PathLong at h
  refine fn_okG Tryd.func7 rfl (Nat.le_of_ble_eq_true rfl) rfl rfl fun g0 hn hio => ?_
  refine ht_seq ?_
  refine ht_seqR hn (El := [_, _, _, (4, .v (.bool false))]) (init := [0, 1, 2]) (fin := [0, 1, 2]) (sps := [⟨[], [], [3], [(.slot 4)]⟩]) (es' := [(_, _), (_, _), (_, _)]) (by kernel_rfl) rfl rfl
   ⟨st_plain rfl (op_assign _ _ _ _ rfl rfl),
   trivial⟩ ?_
  refine pt_then ?_
  refine ht_seq ?_
  obtain ⟨v1, hv1, h⟩ := bind_some h
  obtain ⟨v2, hv2, h⟩ := bind_some h
  obtain ⟨v3, hv3, h⟩ := bind_some h
  refine ht_seqR hn (El := [_, _, _, (11, .v (.int .i64 over)), (12, .v (.int .u64 v1)), (13, .v (.int .u64 v2)), (14, .v (.int .i64 v3)), (0, .v (.int .i64 v3))]) (init := [0, 1, 2]) (fin := [1, 2, 7]) (sps := [⟨[0], [], [3], [(.slot 11)]⟩, ⟨[3], [], [4], [(.slot 12)]⟩, ⟨[4], [], [5], [(.slot 13)]⟩, ⟨[5], [], [6], [(.slot 14)]⟩, ⟨[6], [0], [7], [(.slot 0)]⟩]) (es' := [(_, _), (_, _), (0, .v (.int .i64 v3))]) (by kernel_rfl) rfl rfl
   ⟨st_plain rfl (op_move _ _ _ _ rfl rfl),
   st_plain rfl ((Option.some.inj hv1) ▸ op_conv _ _ _ Tryd.underlying3 Tryd.underlying45 rfl),
   st_plain rfl (op_bin _ _ _ _ _ rfl rfl (rem_ok hv2)),
   st_plain rfl ((Option.some.inj hv3) ▸ op_conv _ _ _ Tryd.underlying45 Tryd.underlying3 rfl),
   st_plain rfl (LOp.drop [_] (op_assign _ _ _ _ rfl rfl)),
   trivial⟩ ?_
  refine pt_then ?_
  refine ht_seq ?_
  refine ht_joinS h (fun (s9 : Int) => [(83, .glob (GL mx)), (0, .v (.int .i64 v3)), (1, .v (.int .u8 s9))]) ?_ ?_
  ·rintro s9 h
   refine pt_then ?_
   refine ht_seq ?_
   refine ht_seqR hn (El := [_, _, _, (5, .v (.string (⟨#[]⟩ : ByteArray)))]) (init := [0, 1, 2]) (fin := [0, 1, 2, 3]) (sps := [⟨[], [], [3], [(.slot 5)]⟩]) (es' := [(_, _), (_, _), (_, _), (5, .v (.string (⟨#[]⟩ : ByteArray)))]) (by kernel_rfl) rfl rfl
    ⟨st_plain rfl (op_assign _ _ _ _ rfl rfl),
    trivial⟩ ?_
   refine pt_then ?_
   refine ht_seq ?_
   refine ht_loopS h (fun (s23 : ByteArray) => [(83, .glob (GL mx)), (0, .v (.int .i64 v3)), (1, .v (.int .u8 s9)), (5, .v (.string s23))]) (fun (s25 : ByteArray) => [(83, .glob (GL mx)), (0, .v (.int .i64 v3)), (5, .v (.string s25))]) ?_ ?_
   ·rintro s25 h
    refine pt_then ?_
    refine ht_seq ?_
    obtain ⟨v33, hv33, h⟩ := bind_some h
    obtain ⟨v34, hv34, h⟩ := bind_some h
    obtain ⟨v35, hv35, h⟩ := bind_some h
    refine ht_seqR hn (El := [_, _, _, (29, .v (.string s25)), (30, .v (.string s25)), (31, .v (.int .i64 v3)), (32, .v (.string v33)), (33, .v (.string v34)), (34, .agg [.v (.bool false), .v (.string v34), .v (.string (⟨#[120]⟩ : ByteArray))]), (35, .v (.int .i64 v35)), (6, .v (.int .i64 v35))]) (init := [0, 1, 2]) (fin := [0, 1, 2, 10]) (sps := [⟨[2], [], [3], [(.slot 29)]⟩, ⟨[2], [], [4], [(.slot 30)]⟩, ⟨[1], [], [5], [(.slot 31)]⟩, ⟨[4, 5], [], [6], [(.slot 32)]⟩, ⟨[3, 6], [], [7], [(.slot 33)]⟩, ⟨[7], [], [8], [(.slot 34)]⟩, ⟨[8, 0], [], [9], [(.slot 35)]⟩, ⟨[9], [], [10], [(.slot 6)]⟩]) (es' := [(_, _), (_, _), (_, _), (6, .v (.int .i64 v35))]) (by kernel_rfl) rfl rfl
     ⟨st_plain rfl (op_move _ _ _ _ rfl rfl),
     st_plain rfl (op_move _ _ _ _ rfl rfl),
     st_plain rfl (op_move _ _ _ _ rfl rfl),
     st_plain rfl (op_substr _ _ _ 0 v3 _ Tryd.underlying9 rfl rfl ⟨_, rfl⟩ hv33),
     st_plain rfl (op_bin _ _ _ _ _ rfl rfl (cat_ok hv34)),
     st_plain rfl (op_build _ _ _ _ [1, 1, 1] _ _ Tryd.underlying23 zr23 (fs23 _ Tryd.underlying23) (.copy _ (.copy _ Src.nil)) rfl rfl rfl),
     st_plain rfl (op_callG _ _ 83 13 _ _ rfl Tryd.call13 rfl rfl (fun _ h => h) (ok_path_Check mx ((T_Path.mk false v34 (⟨#[120]⟩ : ByteArray))) _ hv35) rfl rfl),
     st_plain rfl (op_assign _ _ _ _ rfl rfl),
     trivial⟩ ?_
    refine pt_then ?_
    refine ht_seq ?_
    obtain ⟨v36, hv36, h⟩ := bind_some h
    obtain ⟨v37, hv37, h⟩ := bind_some h
    obtain ⟨v38, hv38, h⟩ := bind_some h
    refine ht_seqR hn (El := [_, _, _, _, (36, .v (.string s25)), (37, .v (.int .i64 v3)), (38, .v (.int .i64 v36)), (39, .v (.string v37)), (40, .v (.bool v38)), (7, .v (.bool v38))]) (init := [0, 1, 2, 3]) (fin := [0, 1, 2, 3, 9]) (sps := [⟨[2], [], [4], [(.slot 36)]⟩, ⟨[1], [], [5], [(.slot 37)]⟩, ⟨[5], [], [6], [(.slot 38)]⟩, ⟨[4, 6], [], [7], [(.slot 39)]⟩, ⟨[7, 0], [], [8], [(.slot 40)]⟩, ⟨[8], [], [9], [(.slot 7)]⟩]) (es' := [(_, _), (_, _), (_, _), (_, _), (7, .v (.bool v38))]) (by kernel_rfl) rfl rfl
     ⟨st_plain rfl (op_move _ _ _ _ rfl rfl),
     st_plain rfl (op_move _ _ _ _ rfl rfl),
     st_plain rfl (op_bin _ _ _ _ _ rfl rfl (ibind (f := Value.int .i64) (Option.some.inj hv36))),
     st_plain rfl (op_substr _ _ _ 0 v36 _ Tryd.underlying9 rfl rfl ⟨_, rfl⟩ hv37),
     st_plain rfl (op_callG _ _ 83 14 _ _ rfl Tryd.call14 rfl rfl (fun _ h => h) (ok_path_Domain mx v37 _ hv38) rfl rfl),
     st_plain rfl (op_assign _ _ _ _ rfl rfl),
     trivial⟩ ?_
    refine pt_then ?_
    refine ht_seq ?_
    obtain ⟨v39, hv39, h⟩ := bind_some h
    obtain ⟨v40, hv40, h⟩ := bind_some h
    obtain ⟨v41, hv41, h⟩ := bind_some h
    obtain ⟨v42, hv42, h⟩ := bind_some h
    obtain ⟨v43, hv43, h⟩ := bind_some h
    obtain ⟨v44, hv44, h⟩ := bind_some h
    obtain ⟨v45, hv45, h⟩ := bind_some h
    obtain ⟨v46, hv46, h⟩ := bind_some h
    obtain ⟨v47, hv47, h⟩ := bind_some h
    obtain ⟨v48, hv48, h⟩ := bind_some h
    refine ht_anyR (by kernel_rfl) hn (El := (_ :: _ :: _ :: _ :: _ :: (41, .v (.string s25)) :: (42, .v (.string v39)) :: (43, .v (.string v40)) :: (44, .v (.string s25)) :: (45, .v (.string v41)) :: (46, .v (.string v42)) :: (47, .v (.string v43)) :: (48, .v (.string s25)) :: (49, .v (.string v44)) :: (50, .v (.string v45)) :: (51, .v (.string v46)) :: (52, .v (.string s25)) :: (53, .v (.string v47)) :: (54, .v (.string v48)) :: (8, .v (.string v48)) :: [])) (init := [0, 1, 2, 3, 4]) (fin := [0, 1, 2, 3, 4, 19]) (sps := (⟨[2], [], [5], [(.slot 41)]⟩ :: ⟨[5], [], [6], [(.slot 42)]⟩ :: ⟨[6], [], [7], [(.slot 43)]⟩ :: ⟨[2], [], [8], [(.slot 44)]⟩ :: ⟨[8], [], [9], [(.slot 45)]⟩ :: ⟨[7, 9], [], [10], [(.slot 46)]⟩ :: ⟨[10], [], [11], [(.slot 47)]⟩ :: ⟨[2], [], [12], [(.slot 48)]⟩ :: ⟨[12], [], [13], [(.slot 49)]⟩ :: ⟨[11, 13], [], [14], [(.slot 50)]⟩ :: ⟨[14], [], [15], [(.slot 51)]⟩ :: ⟨[2], [], [16], [(.slot 52)]⟩ :: ⟨[16], [], [17], [(.slot 53)]⟩ :: ⟨[15, 17], [], [18], [(.slot 54)]⟩ :: ⟨[18], [], [19], [(.slot 8)]⟩ :: [])) (es' := [(_, _), (_, _), (_, _), (_, _), (_, _), (8, .v (.string v48))]) (by kernel_rfl) rfl rfl
     ⟨st_plain rfl (op_move _ _ _ _ rfl rfl),
     st_plain rfl (op_substr _ _ _ 0 63 _ Tryd.underlying9 rfl rfl ⟨_, rfl⟩ hv39),
     st_plain rfl (op_bin _ _ _ _ _ rfl rfl (cat_ok hv40)),
     st_plain rfl (op_move _ _ _ _ rfl rfl),
     st_plain rfl (op_substr _ _ _ 0 63 _ Tryd.underlying9 rfl rfl ⟨_, rfl⟩ hv41),
     st_plain rfl (op_bin _ _ _ _ _ rfl rfl (cat_ok hv42)),
     st_plain rfl (op_bin _ _ _ _ _ rfl rfl (cat_ok hv43)),
     st_plain rfl (op_move _ _ _ _ rfl rfl),
     st_plain rfl (op_substr _ _ _ 0 63 _ Tryd.underlying9 rfl rfl ⟨_, rfl⟩ hv44),
     st_plain rfl (op_bin _ _ _ _ _ rfl rfl (cat_ok hv45)),
     st_plain rfl (op_bin _ _ _ _ _ rfl rfl (cat_ok hv46)),
     st_plain rfl (op_move _ _ _ _ rfl rfl),
     st_plain rfl (op_substr _ _ _ 0 63 _ Tryd.underlying9 rfl rfl ⟨_, rfl⟩ hv47),
     st_plain rfl (op_bin _ _ _ _ _ rfl rfl (cat_ok hv48)),
     st_plain rfl (op_assign _ _ _ _ rfl rfl),
     trivial⟩ ?_
    refine pt_then ?_
    refine ht_seq ?_
    obtain ⟨v49, hv49, h⟩ := bind_some h
    obtain ⟨v50, hv50, h⟩ := bind_some h
    obtain ⟨v51, hv51, h⟩ := bind_some h
    obtain ⟨v52, hv52, h⟩ := bind_some h
    obtain ⟨v53, hv53, h⟩ := bind_some h
    refine ht_anyR (by kernel_rfl) hn (El := (_ :: _ :: _ :: _ :: _ :: _ :: (55, .v (.string v48)) :: (56, .v (.string v49)) :: (57, .v (.string s25)) :: (58, .v (.int .i64 v3)) :: (59, .v (.int .i64 v50)) :: (60, .v (.string v51)) :: (61, .v (.string v52)) :: (62, .v (.bool v53)) :: (9, .v (.bool v53)) :: [])) (init := [0, 1, 2, 3, 4, 5]) (fin := [0, 1, 3, 4, 14]) (sps := [⟨[5], [], [6], [(.slot 55)]⟩, ⟨[6], [], [7], [(.slot 56)]⟩, ⟨[2], [], [8], [(.slot 57)]⟩, ⟨[1], [], [9], [(.slot 58)]⟩, ⟨[9], [], [10], [(.slot 59)]⟩, ⟨[8, 10], [], [11], [(.slot 60)]⟩, ⟨[7, 11], [], [12], [(.slot 61)]⟩, ⟨[12, 0], [], [13], [(.slot 62)]⟩, ⟨[13], [], [14], [(.slot 9)]⟩]) (es' := [(_, _), (_, _), (_, _), (_, _), (9, .v (.bool v53))]) (by kernel_rfl) rfl rfl
     ⟨st_plain rfl (op_move _ _ _ _ rfl rfl),
     st_plain rfl (op_substr _ _ _ 0 254 _ Tryd.underlying9 rfl rfl ⟨_, rfl⟩ hv49),
     st_plain rfl (op_move _ _ _ _ rfl rfl),
     st_plain rfl (op_move _ _ _ _ rfl rfl),
     st_plain rfl (op_bin _ _ _ _ _ rfl rfl (ibind (f := Value.int .i64) (Option.some.inj hv50))),
     st_plain rfl (op_substr _ _ _ 0 v50 _ Tryd.underlying9 rfl rfl ⟨_, rfl⟩ hv51),
     st_plain rfl (op_bin _ _ _ _ _ rfl rfl (cat_ok hv52)),
     st_plain rfl (op_callG _ _ 83 14 _ _ rfl Tryd.call14 rfl rfl (fun _ h => h) (ok_path_Domain mx v52 _ hv53) rfl rfl),
     st_plain rfl (op_assign _ _ _ _ rfl rfl),
     trivial⟩ ?_
    refine pt_then ?_
    refine ht_seq ?_
    refine ht_seqR hn (El := [_, _, _, _, _, (10, .v (.int .i64 0))]) (init := [0, 1, 2, 3, 4]) (fin := [0, 1, 2, 3, 4, 5]) (sps := [⟨[], [], [5], [(.slot 10)]⟩]) (es' := [(_, _), (_, _), (_, _), (_, _), (_, _), (10, .v (.int .i64 0))]) (by kernel_rfl) rfl rfl
     ⟨st_plain rfl (op_assign _ _ _ _ rfl rfl),
     trivial⟩ ?_
    refine pt_then ?_
    refine ht_seq ?_
    refine ht_joinS h (fun (s55 : Int) => [(83, .glob (GL mx)), (0, .v (.int .i64 v3)), (6, .v (.int .i64 v35)), (7, .v (.bool v38)), (9, .v (.bool v53)), (10, .v (.int .i64 s55))]) ?_ ?_
    ·rintro s55 h
     refine pt_then ?_
     refine ht_seq ?_
     refine ht_joinS h (fun (s63 : Bool) => [(83, .glob (GL mx)), (4, .v (.bool s63))]) ?_ ?_
     ·rintro s63 h
      refine pt_then ?_
      refine ht_ret ?_
      refine pt_pick [1] (by kernel_rfl) (es' := [(_, _)]) rfl ?_
      obtain rfl := Option.some.inj h
      exact pt_ret hio rfl (.tmp _ _ .nil) rfl rfl
     ·intro u64 h hl65 hr66
      refine cond_some h (fun hg14_3 h => ?_) (fun hg14_3 h => ?_)
      ·obtain ⟨v60, hv60, h⟩ := bind_some h
       refine cond_some h (fun hg14_9 h => ?_) (fun hg14_9 h => ?_)
       ·obtain ⟨v61, hv61, h⟩ := bind_some h
        refine cond_some h (fun hg14_15 h => ?_) (fun hg14_15 h => ?_)
        ·obtain ⟨v62, hv62, h⟩ := bind_some h
         refine ht_seqR hn (El := (_ :: _ :: _ :: _ :: _ :: _ :: (65, .v (.int .i64 v35)) :: (66, .v (.int .i64 s55)) :: (67, .v (.bool (v35 == s55))) :: (68, .v (.bool true)) :: (69, .v (.bool v38)) :: (70, .v (.int .i64 v3)) :: (71, .v (.bool (v3 == 0))) :: (72, .v (.bool ((v38 == (v3 == 0))))) :: (73, .v (.bool ((v38 == (v3 == 0))))) :: (74, .v (.bool true)) :: (75, .v (.bool v53)) :: (76, .v (.int .i64 v3)) :: (77, .v (.bool (v3 == 0))) :: (78, .v (.bool ((v53 == (v3 == 0))))) :: (79, .v (.bool ((v53 == (v3 == 0))))) :: (80, .v (.bool true)) :: (81, .v (.bool v62)) :: (82, .v (.bool v62)) :: (4, .v (.bool v62)) :: [])) (init := [0, 1, 2, 3, 4, 5]) (fin := [0, 24]) (sps := (⟨[2], [], [6], [(.slot 65)]⟩ :: ⟨[5], [], [7], [(.slot 66)]⟩ :: ⟨[6, 7], [], [8], [(.slot 67)]⟩ :: ⟨[8], [], [9], [(.slot 68)]⟩ :: ⟨[9, 3], [], [10], [(.slot 69)]⟩ :: ⟨[9, 1], [], [11], [(.slot 70)]⟩ :: ⟨[9, 11], [], [12], [(.slot 71)]⟩ :: ⟨[9, 10, 12], [], [13], [(.slot 72)]⟩ :: ⟨[9, 13], [], [14], [(.slot 73)]⟩ :: ⟨[14], [], [15], [(.slot 74)]⟩ :: ⟨[15, 4], [], [16], [(.slot 75)]⟩ :: ⟨[15, 1], [], [17], [(.slot 76)]⟩ :: ⟨[15, 17], [], [18], [(.slot 77)]⟩ :: ⟨[15, 16, 18], [], [19], [(.slot 78)]⟩ :: ⟨[15, 19], [], [20], [(.slot 79)]⟩ :: ⟨[20], [], [21], [(.slot 80)]⟩ :: ⟨[21, 0], [], [22], [(.slot 81)]⟩ :: ⟨[21, 22], [], [23], [(.slot 82)]⟩ :: ⟨[23], [], [24], [(.slot 4)]⟩ :: [])) (es' := [(_, _), (4, .v (.bool v62))]) (by kernel_rfl) rfl rfl
          ⟨st_plain rfl (op_move _ _ _ _ rfl rfl),
          st_plain rfl (op_move _ _ _ _ rfl rfl),
          st_plain rfl (op_bin _ _ _ _ _ rfl rfl rfl),
          st_plain rfl (op_move _ _ _ _ (congrArg (fun b => AV.v (Value.bool b)) hg14_3) rfl),
          st_run 3 68 true rfl rfl rfl (List.Mem.head _) (op_move _ _ _ _ rfl rfl),
          st_run 3 68 true rfl rfl rfl (List.Mem.head _) (op_move _ _ _ _ rfl rfl),
          st_run 3 68 true rfl rfl rfl (List.Mem.head _) (op_bin _ _ _ _ _ rfl rfl rfl),
          st_run 3 68 true rfl rfl rfl (List.Mem.head _) (op_beq _ _ _ _ Tryd.underlying4 rfl rfl),
          st_plain rfl (op_pick _ _ true _ rfl rfl),
          st_plain rfl (op_move _ _ _ _ (congrArg (fun b => AV.v (Value.bool b)) hg14_9) rfl),
          st_run 9 74 true rfl rfl rfl (List.Mem.head _) (op_move _ _ _ _ rfl rfl),
          st_run 9 74 true rfl rfl rfl (List.Mem.head _) (op_move _ _ _ _ rfl rfl),
          st_run 9 74 true rfl rfl rfl (List.Mem.head _) (op_bin _ _ _ _ _ rfl rfl rfl),
          st_run 9 74 true rfl rfl rfl (List.Mem.head _) (op_beq _ _ _ _ Tryd.underlying4 rfl rfl),
          st_plain rfl (op_pick _ _ true _ rfl rfl),
          st_plain rfl (op_move _ _ _ _ (congrArg (fun b => AV.v (Value.bool b)) hg14_15) rfl),
          st_run 15 80 true rfl rfl rfl (List.Mem.head _) (op_callG _ _ 83 24 _ _ rfl Tryd.call24 rfl rfl (fun _ h => h) (ok_wherrylaw11_wakes mx  _ hv62) rfl rfl),
          st_plain rfl (op_pick _ _ true _ rfl rfl),
          st_plain rfl (op_assign _ _ _ _ rfl rfl),
          trivial⟩ ?_
         exact hl65 _ (Option.some.inj h).symm
        ·refine ht_seqR hn (El := (_ :: _ :: _ :: _ :: _ :: _ :: (65, .v (.int .i64 v35)) :: (66, .v (.int .i64 s55)) :: (67, .v (.bool (v35 == s55))) :: (68, .v (.bool true)) :: (69, .v (.bool v38)) :: (70, .v (.int .i64 v3)) :: (71, .v (.bool (v3 == 0))) :: (72, .v (.bool ((v38 == (v3 == 0))))) :: (73, .v (.bool ((v38 == (v3 == 0))))) :: (74, .v (.bool true)) :: (75, .v (.bool v53)) :: (76, .v (.int .i64 v3)) :: (77, .v (.bool (v3 == 0))) :: (78, .v (.bool ((v53 == (v3 == 0))))) :: (79, .v (.bool ((v53 == (v3 == 0))))) :: (80, .v (.bool false)) :: (81, .v undef) :: (82, .v (.bool false)) :: (4, .v (.bool false)) :: [])) (init := [0, 1, 2, 3, 4, 5]) (fin := [0, 24]) (sps := (⟨[2], [], [6], [(.slot 65)]⟩ :: ⟨[5], [], [7], [(.slot 66)]⟩ :: ⟨[6, 7], [], [8], [(.slot 67)]⟩ :: ⟨[8], [], [9], [(.slot 68)]⟩ :: ⟨[9, 3], [], [10], [(.slot 69)]⟩ :: ⟨[9, 1], [], [11], [(.slot 70)]⟩ :: ⟨[9, 11], [], [12], [(.slot 71)]⟩ :: ⟨[9, 10, 12], [], [13], [(.slot 72)]⟩ :: ⟨[9, 13], [], [14], [(.slot 73)]⟩ :: ⟨[14], [], [15], [(.slot 74)]⟩ :: ⟨[15, 4], [], [16], [(.slot 75)]⟩ :: ⟨[15, 1], [], [17], [(.slot 76)]⟩ :: ⟨[15, 17], [], [18], [(.slot 77)]⟩ :: ⟨[15, 16, 18], [], [19], [(.slot 78)]⟩ :: ⟨[15, 19], [], [20], [(.slot 79)]⟩ :: ⟨[20], [], [21], [(.slot 80)]⟩ :: ⟨[21], [], [22], [(.slot 81)]⟩ :: ⟨[21], [], [23], [(.slot 82)]⟩ :: ⟨[23], [], [24], [(.slot 4)]⟩ :: [])) (es' := [(_, _), (4, .v (.bool false))]) (by kernel_rfl) rfl rfl
          ⟨st_plain rfl (op_move _ _ _ _ rfl rfl),
          st_plain rfl (op_move _ _ _ _ rfl rfl),
          st_plain rfl (op_bin _ _ _ _ _ rfl rfl rfl),
          st_plain rfl (op_move _ _ _ _ (congrArg (fun b => AV.v (Value.bool b)) hg14_3) rfl),
          st_run 3 68 true rfl rfl rfl (List.Mem.head _) (op_move _ _ _ _ rfl rfl),
          st_run 3 68 true rfl rfl rfl (List.Mem.head _) (op_move _ _ _ _ rfl rfl),
          st_run 3 68 true rfl rfl rfl (List.Mem.head _) (op_bin _ _ _ _ _ rfl rfl rfl),
          st_run 3 68 true rfl rfl rfl (List.Mem.head _) (op_beq _ _ _ _ Tryd.underlying4 rfl rfl),
          st_plain rfl (op_pick _ _ true _ rfl rfl),
          st_plain rfl (op_move _ _ _ _ (congrArg (fun b => AV.v (Value.bool b)) hg14_9) rfl),
          st_run 9 74 true rfl rfl rfl (List.Mem.head _) (op_move _ _ _ _ rfl rfl),
          st_run 9 74 true rfl rfl rfl (List.Mem.head _) (op_move _ _ _ _ rfl rfl),
          st_run 9 74 true rfl rfl rfl (List.Mem.head _) (op_bin _ _ _ _ _ rfl rfl rfl),
          st_run 9 74 true rfl rfl rfl (List.Mem.head _) (op_beq _ _ _ _ Tryd.underlying4 rfl rfl),
          st_plain rfl (op_pick _ _ true _ rfl rfl),
          st_plain rfl (op_move _ _ _ _ (congrArg (fun b => AV.v (Value.bool b)) hg14_15) rfl),
          st_skip 15 80 _ true rfl rfl rfl rfl (List.Mem.head _),
          st_plain rfl (op_pick _ _ false _ rfl rfl),
          st_plain rfl (op_assign _ _ _ _ rfl rfl),
          trivial⟩ ?_
         exact hl65 _ (Option.some.inj h).symm
       ·refine ht_seqR hn (El := (_ :: _ :: _ :: _ :: _ :: _ :: (65, .v (.int .i64 v35)) :: (66, .v (.int .i64 s55)) :: (67, .v (.bool (v35 == s55))) :: (68, .v (.bool true)) :: (69, .v (.bool v38)) :: (70, .v (.int .i64 v3)) :: (71, .v (.bool (v3 == 0))) :: (72, .v (.bool ((v38 == (v3 == 0))))) :: (73, .v (.bool ((v38 == (v3 == 0))))) :: (74, .v (.bool false)) :: (75, .v undef) :: (76, .v undef) :: (77, .v undef) :: (78, .v undef) :: (79, .v (.bool false)) :: (80, .v (.bool false)) :: (81, .v undef) :: (82, .v (.bool false)) :: (4, .v (.bool false)) :: [])) (init := [0, 1, 2, 3, 4, 5]) (fin := [0, 24]) (sps := (⟨[2], [], [6], [(.slot 65)]⟩ :: ⟨[5], [], [7], [(.slot 66)]⟩ :: ⟨[6, 7], [], [8], [(.slot 67)]⟩ :: ⟨[8], [], [9], [(.slot 68)]⟩ :: ⟨[9, 3], [], [10], [(.slot 69)]⟩ :: ⟨[9, 1], [], [11], [(.slot 70)]⟩ :: ⟨[9, 11], [], [12], [(.slot 71)]⟩ :: ⟨[9, 10, 12], [], [13], [(.slot 72)]⟩ :: ⟨[9, 13], [], [14], [(.slot 73)]⟩ :: ⟨[14], [], [15], [(.slot 74)]⟩ :: ⟨[15], [], [16], [(.slot 75)]⟩ :: ⟨[15], [], [17], [(.slot 76)]⟩ :: ⟨[15], [], [18], [(.slot 77)]⟩ :: ⟨[15], [], [19], [(.slot 78)]⟩ :: ⟨[15], [], [20], [(.slot 79)]⟩ :: ⟨[20], [], [21], [(.slot 80)]⟩ :: ⟨[21], [], [22], [(.slot 81)]⟩ :: ⟨[21], [], [23], [(.slot 82)]⟩ :: ⟨[23], [], [24], [(.slot 4)]⟩ :: [])) (es' := [(_, _), (4, .v (.bool false))]) (by kernel_rfl) rfl rfl
         ⟨st_plain rfl (op_move _ _ _ _ rfl rfl),
         st_plain rfl (op_move _ _ _ _ rfl rfl),
         st_plain rfl (op_bin _ _ _ _ _ rfl rfl rfl),
         st_plain rfl (op_move _ _ _ _ (congrArg (fun b => AV.v (Value.bool b)) hg14_3) rfl),
         st_run 3 68 true rfl rfl rfl (List.Mem.head _) (op_move _ _ _ _ rfl rfl),
         st_run 3 68 true rfl rfl rfl (List.Mem.head _) (op_move _ _ _ _ rfl rfl),
         st_run 3 68 true rfl rfl rfl (List.Mem.head _) (op_bin _ _ _ _ _ rfl rfl rfl),
         st_run 3 68 true rfl rfl rfl (List.Mem.head _) (op_beq _ _ _ _ Tryd.underlying4 rfl rfl),
         st_plain rfl (op_pick _ _ true _ rfl rfl),
         st_plain rfl (op_move _ _ _ _ (congrArg (fun b => AV.v (Value.bool b)) hg14_9) rfl),
         st_skip 9 74 _ true rfl rfl rfl rfl (List.Mem.head _),
         st_skip 9 74 _ true rfl rfl rfl rfl (List.Mem.head _),
         st_skip 9 74 _ true rfl rfl rfl rfl (List.Mem.head _),
         st_skip 9 74 _ true rfl rfl rfl rfl (List.Mem.head _),
         st_plain rfl (op_pick _ _ false _ rfl rfl),
         st_plain rfl (op_move _ _ _ _ rfl rfl),
         st_skip 15 80 _ true rfl rfl rfl rfl (List.Mem.head _),
         st_plain rfl (op_pick _ _ false _ rfl rfl),
         st_plain rfl (op_assign _ _ _ _ rfl rfl),
         trivial⟩ ?_
        exact hl65 _ (Option.some.inj h).symm
      ·refine ht_seqR hn (El := (_ :: _ :: _ :: _ :: _ :: _ :: (65, .v (.int .i64 v35)) :: (66, .v (.int .i64 s55)) :: (67, .v (.bool (v35 == s55))) :: (68, .v (.bool false)) :: (69, .v undef) :: (70, .v undef) :: (71, .v undef) :: (72, .v undef) :: (73, .v (.bool false)) :: (74, .v (.bool false)) :: (75, .v undef) :: (76, .v undef) :: (77, .v undef) :: (78, .v undef) :: (79, .v (.bool false)) :: (80, .v (.bool false)) :: (81, .v undef) :: (82, .v (.bool false)) :: (4, .v (.bool false)) :: [])) (init := [0, 1, 2, 3, 4, 5]) (fin := [0, 24]) (sps := (⟨[2], [], [6], [(.slot 65)]⟩ :: ⟨[5], [], [7], [(.slot 66)]⟩ :: ⟨[6, 7], [], [8], [(.slot 67)]⟩ :: ⟨[8], [], [9], [(.slot 68)]⟩ :: ⟨[9], [], [10], [(.slot 69)]⟩ :: ⟨[9], [], [11], [(.slot 70)]⟩ :: ⟨[9], [], [12], [(.slot 71)]⟩ :: ⟨[9], [], [13], [(.slot 72)]⟩ :: ⟨[9], [], [14], [(.slot 73)]⟩ :: ⟨[14], [], [15], [(.slot 74)]⟩ :: ⟨[15], [], [16], [(.slot 75)]⟩ :: ⟨[15], [], [17], [(.slot 76)]⟩ :: ⟨[15], [], [18], [(.slot 77)]⟩ :: ⟨[15], [], [19], [(.slot 78)]⟩ :: ⟨[15], [], [20], [(.slot 79)]⟩ :: ⟨[20], [], [21], [(.slot 80)]⟩ :: ⟨[21], [], [22], [(.slot 81)]⟩ :: ⟨[21], [], [23], [(.slot 82)]⟩ :: ⟨[23], [], [24], [(.slot 4)]⟩ :: [])) (es' := [(_, _), (4, .v (.bool false))]) (by kernel_rfl) rfl rfl
        ⟨st_plain rfl (op_move _ _ _ _ rfl rfl),
        st_plain rfl (op_move _ _ _ _ rfl rfl),
        st_plain rfl (op_bin _ _ _ _ _ rfl rfl rfl),
        st_plain rfl (op_move _ _ _ _ (congrArg (fun b => AV.v (Value.bool b)) hg14_3) rfl),
        st_skip 3 68 _ true rfl rfl rfl rfl (List.Mem.head _),
        st_skip 3 68 _ true rfl rfl rfl rfl (List.Mem.head _),
        st_skip 3 68 _ true rfl rfl rfl rfl (List.Mem.head _),
        st_skip 3 68 _ true rfl rfl rfl rfl (List.Mem.head _),
        st_plain rfl (op_pick _ _ false _ rfl rfl),
        st_plain rfl (op_move _ _ _ _ rfl rfl),
        st_skip 9 74 _ true rfl rfl rfl rfl (List.Mem.head _),
        st_skip 9 74 _ true rfl rfl rfl rfl (List.Mem.head _),
        st_skip 9 74 _ true rfl rfl rfl rfl (List.Mem.head _),
        st_skip 9 74 _ true rfl rfl rfl rfl (List.Mem.head _),
        st_plain rfl (op_pick _ _ false _ rfl rfl),
        st_plain rfl (op_move _ _ _ _ rfl rfl),
        st_skip 15 80 _ true rfl rfl rfl rfl (List.Mem.head _),
        st_plain rfl (op_pick _ _ false _ rfl rfl),
        st_plain rfl (op_assign _ _ _ _ rfl rfl),
        trivial⟩ ?_
       exact hl65 _ (Option.some.inj h).symm
    ·intro u56 h hl57 hr58
     refine ht_seq ?_
     refine ht_seqR hn (El := [_, _, _, _, _, _, (63, .v (.int .i64 v3)), (64, .v (.bool (v3 == 1)))]) (init := [0, 1, 2, 3, 4, 5]) (fin := [0, 1, 2, 3, 4, 5, 7]) (sps := [⟨[1], [], [6], [(.slot 63)]⟩, ⟨[6], [], [7], [(.slot 64)]⟩]) (es' := [(_, _), (_, _), (_, _), (_, _), (_, _), (_, _), (64, .v (.bool (v3 == 1)))]) (by kernel_rfl) rfl rfl
      ⟨st_plain rfl (op_move _ _ _ _ rfl rfl),
      st_plain rfl (op_bin _ _ _ _ _ rfl rfl rfl),
      trivial⟩ ?_
     refine pt_then ?_
     refine ht_cond _ rfl (fun hb59 => ?_) (fun hb59 => ?_)
     ·have h := cond_t hb59 h
      refine ht_seqR hn (El := [_, _, _, _, _, _, _, (10, .v (.int .i64 5))]) (init := [0, 1, 2, 3, 4, 5, 6]) (fin := [0, 1, 2, 3, 4, 7]) (sps := [⟨[], [5], [7], [(.slot 10)]⟩]) (es' := [(_, _), (_, _), (_, _), (_, _), (_, _), (10, .v (.int .i64 5))]) (by kernel_rfl) rfl rfl
       ⟨st_plain rfl (LOp.drop [_] (op_assign _ _ _ _ rfl rfl)),
       trivial⟩ ?_
      exact hl57 _ (Option.some.inj h).symm
     ·have h := cond_f hb59 h
      refine ht_skip ?_
      refine pt_pick [0, 1, 2, 3, 4, 5] (by kernel_rfl) (es' := [(_, _), (_, _), (_, _), (_, _), (_, _), (_, _)]) rfl ?_
      exact hl57 _ (Option.some.inj h).symm
   ·rintro u26 hl27 hr28 s23 rr31 h ho29
    refine ht_seq ?_
    refine ht_seq ?_
    refine ht_seqR hn (El := [_, _, _, _, (21, .v (.string s23)), (22, .v (.int .i64 (s23.size : Int))), (23, .v (.bool ((decide ((s23.size : Int) < 64)))))]) (init := [0, 1, 2, 3]) (fin := [0, 1, 2, 3, 6]) (sps := [⟨[3], [], [4], [(.slot 21)]⟩, ⟨[4], [], [5], [(.slot 22)]⟩, ⟨[5], [], [6], [(.slot 23)]⟩]) (es' := [(_, _), (_, _), (_, _), (_, _), (23, .v (.bool ((decide ((s23.size : Int) < 64)))))]) (by kernel_rfl) rfl rfl
     ⟨st_plain rfl (op_move _ _ _ _ rfl rfl),
     st_plain rfl (op_len_str _ _ _ Tryd.underlying9 rfl),
     st_plain rfl (op_bin _ _ _ _ _ rfl rfl rfl),
     trivial⟩ ?_
    refine pt_then ?_
    refine ht_cond _ rfl (fun hb32 => ?_) (fun hb32 => ?_)
    ·have h := cond_t hb32 h
     refine ht_skip ?_
     refine pt_then ?_
     refine ht_block ?_
     obtain ⟨v19, hv19, h⟩ := bind_some h
     obtain ⟨v20, hv20, h⟩ := bind_some h
     refine ht_seqR hn (El := [_, _, _, _, _, (24, .v (.string s23)), (25, .v (.int .u8 s9)), (26, .fl (.own 5) 1 (List.map (Value.int .u8) [s9])), (27, .v (.string v19)), (28, .v (.string v20)), (5, .v (.string v20))]) (init := [0, 1, 2, 3, 4]) (fin := [0, 1, 2, 10]) (sps := [⟨[3], [], [5], [(.slot 24)]⟩, ⟨[2], [], [6], [(.slot 25)]⟩, ⟨[6], [], [7], [(.slot 26)]⟩, ⟨[7], [], [8], [(.slot 27)]⟩, ⟨[5, 8], [], [9], [(.slot 28)]⟩, ⟨[9], [3], [10], [(.slot 5)]⟩]) (es' := [(_, _), (_, _), (_, _), (5, .v (.string v20))]) (by kernel_rfl) rfl rfl
      ⟨st_plain rfl (op_move _ _ _ _ rfl rfl),
      st_plain rfl (op_move _ _ _ _ rfl rfl),
      st_plain rfl (op_buildSlice _ _ 1 (.int .u8 0) (List.map (Value.int .u8) [s9]) [(0, .int .u8 s9)] Tryd.underlying43 sz5 zr5 (fun _ V w o a hv hes => by have e0 := rd_v hv hes (x := .tmp 25) rfl; simp only [List.map_toArray, List.map_cons, List.map_nil, e0]; try rfl) (litfill (by simp [Instr.fill, Value.cells]; rfl) (by simp [List.range, List.range.loop])) (by simp [Value.oneCell']) rfl (by decide) (by decide) (by decide)),
      st_plain rfl ((Option.some.inj hv19) ▸ op_bytes_str _ _ _ [s9] Tryd.underlying43 Tryd.underlying9 Tryd.underlying5 rfl),
      st_plain rfl (op_bin _ _ _ _ _ rfl rfl (cat_ok hv20)),
      st_plain rfl (LOp.drop [_] (op_assign _ _ _ _ rfl rfl)),
      trivial⟩ ?_
     refine pt_inb ?_
     exact pt_next _ (Option.some.inj h).symm rfl
    ·have h := cond_f hb32 h
     refine ht_exit ?_
     refine pt_x_then ?_
     refine pt_x_then ?_
     refine pt_x_in ?_
     refine pt_pick [0, 1, 3] (by kernel_rfl) (es' := [(_, _), (_, _), (_, _)]) rfl ?_
     exact hl27 _ (ho29 _ (Option.some.inj h).symm).symm
  ·intro u10 h hl11 hr12
   refine ht_seq ?_
   refine ht_joinS h (fun (s13 : Bool) => [(1, .v (.int .u8 c)), (83, .glob (GL mx)), (0, .v (.int .i64 v3)), (20, .v (.bool s13))]) ?_ ?_
   ·rintro s13 h
    refine pt_then ?_
    refine ht_cond _ rfl (fun hb17 => ?_) (fun hb17 => ?_)
    ·have h := cond_t hb17 h
     refine ht_seqR hn (El := [_, _, _, _, (1, .v (.int .u8 97))]) (init := [0, 1, 2, 3]) (fin := [1, 2, 4]) (sps := [⟨[], [0], [4], [(.slot 1)]⟩]) (es' := [(_, _), (_, _), (1, .v (.int .u8 97))]) (by kernel_rfl) rfl rfl
      ⟨st_plain rfl (LOp.drop [_] (op_assign _ _ _ _ rfl rfl)),
      trivial⟩ ?_
     exact hl11 _ (Option.some.inj h).symm
    ·have h := cond_f hb17 h
     refine ht_skip ?_
     refine pt_pick [1, 2, 0] (by kernel_rfl) (es' := [(_, _), (_, _), (_, _)]) rfl ?_
     exact hl11 _ (Option.some.inj h).symm
   ·intro u14 h hl15 hr16
    refine cond_some h (fun hg2_2 h => ?_) (fun hg2_2 h => ?_)
    ·refine ht_seqR hn (El := [_, _, _, (15, .v (.int .u8 c)), (16, .v (.bool ((decide (c < 97))))), (17, .v (.bool true)), (18, .v undef), (19, .v undef), (20, .v (.bool true))]) (init := [0, 1, 2]) (fin := [0, 1, 2, 8]) (sps := [⟨[0], [], [3], [(.slot 15)]⟩, ⟨[3], [], [4], [(.slot 16)]⟩, ⟨[4], [], [5], [(.slot 17)]⟩, ⟨[5], [], [6], [(.slot 18)]⟩, ⟨[5], [], [7], [(.slot 19)]⟩, ⟨[5], [], [8], [(.slot 20)]⟩]) (es' := [(_, _), (_, _), (_, _), (20, .v (.bool true))]) (by kernel_rfl) rfl rfl
      ⟨st_plain rfl (op_move _ _ _ _ rfl rfl),
      st_plain rfl (op_bin _ _ _ _ _ rfl rfl rfl),
      st_plain rfl (op_move _ _ _ _ (congrArg (fun b => AV.v (Value.bool b)) hg2_2) rfl),
      st_skip 2 17 _ false rfl rfl rfl rfl (List.Mem.head _),
      st_skip 2 17 _ false rfl rfl rfl rfl (List.Mem.head _),
      st_plain rfl (op_pick _ _ true _ rfl rfl),
      trivial⟩ ?_
     exact hl15 _ (Option.some.inj h).symm
    ·refine ht_seqR hn (El := [_, _, _, (15, .v (.int .u8 c)), (16, .v (.bool ((decide (c < 97))))), (17, .v (.bool false)), (18, .v (.int .u8 c)), (19, .v (.bool ((decide (122 < c))))), (20, .v (.bool ((decide (122 < c)))))]) (init := [0, 1, 2]) (fin := [0, 1, 2, 8]) (sps := [⟨[0], [], [3], [(.slot 15)]⟩, ⟨[3], [], [4], [(.slot 16)]⟩, ⟨[4], [], [5], [(.slot 17)]⟩, ⟨[5, 0], [], [6], [(.slot 18)]⟩, ⟨[5, 6], [], [7], [(.slot 19)]⟩, ⟨[5, 7], [], [8], [(.slot 20)]⟩]) (es' := [(_, _), (_, _), (_, _), (20, .v (.bool ((decide (122 < c)))))]) (by kernel_rfl) rfl rfl
      ⟨st_plain rfl (op_move _ _ _ _ rfl rfl),
      st_plain rfl (op_bin _ _ _ _ _ rfl rfl rfl),
      st_plain rfl (op_move _ _ _ _ (congrArg (fun b => AV.v (Value.bool b)) hg2_2) rfl),
      st_run 2 17 false rfl rfl rfl (List.Mem.head _) (op_move _ _ _ _ rfl rfl),
      st_run 2 17 false rfl rfl rfl (List.Mem.head _) (op_bin _ _ _ _ _ rfl rfl rfl),
      st_plain rfl (op_pick _ _ false _ rfl rfl),
      trivial⟩ ?_
     exact hl15 _ (Option.some.inj h).symm

end Go.Proofs.YtpmngahekkagpaaDoor
