/-
  The model's runs are what is told in Lean.
-/
import Derived.Test.YtbioodcjmceefaaProg
import Derived.KernelRfl
import Derived.Test.YtbioodcjmceefaaOkc3
set_option linter.unusedVariables false
set_option linter.unusedSimpArgs false
namespace Go.Proofs.Ytbioodcjmceefaa
open Go.Abs Go.Abs.Sh

set_option maxHeartbeats 1000000 in
theorem ok_wherrylaw18_DiaryTrips (l : (List T_Rec)) (n : Int) (keep : Int) (r : Bool) (h : Sh.wherrylaw18_DiaryTrips l n keep = some r) : FnOK Try.prog 6 [.fr .shr true 15 (List.flatten (List.map T_Rec.ienc l)), .v (.int .i64 n), .v (.int .i64 keep)] (.v (.bool r)) := by
  unfold Sh.wherrylaw18_DiaryTrips at h
  refine fn_ok Try.func6 rfl (Nat.le_of_ble_eq_true rfl) rfl rfl fun g0 hn hio => ?_
  refine ht_seq ?_
  refine ht_seqR hn (El := [_, _, _, (6, .v (.bool false))]) (init := [0, 1, 2]) (fin := [0, 1, 2]) (sps := [⟨[], [], [3], [(.slot 6)]⟩]) (es' := [(_, _), (_, _), (_, _)]) (by kernel_rfl) rfl rfl
   ⟨st_plain rfl (op_assign _ _ _ _ rfl rfl),
   trivial⟩ ?_
  refine pt_then ?_
  refine ht_seq ?_
  refine ht_seq ?_
  refine ht_joinS h (fun (s2 : Bool) => [(0, .fr .shr true 15 (List.flatten (List.map T_Rec.ienc l))), (1, .v (.int .i64 n)), (2, .v (.int .i64 keep)), (20, .v (.bool s2))]) ?_ ?_
  ·rintro s2 h
   refine pt_then ?_
   refine ht_cond _ rfl (fun hb6 => ?_) (fun hb6 => ?_)
   ·have h := cond_t hb6 h
    refine ht_seq ?_
    refine ht_seqR hn (El := [_, _, _, _, (6, .v (.bool true))]) (init := [0, 1, 2, 3]) (fin := [4]) (sps := [⟨[], [], [4], [(.slot 6)]⟩]) (es' := [(6, .v (.bool true))]) (by kernel_rfl) rfl rfl
     ⟨st_plain rfl (op_assign _ _ _ _ rfl rfl),
     trivial⟩ ?_
    refine pt_then ?_
    refine ht_ret ?_
    refine pt_r_then ?_
    obtain rfl := Option.some.inj h
    exact pt_ret hio rfl (.tmp _ _ .nil) rfl rfl
   ·have h := cond_f hb6 h
    refine ht_skip ?_
    refine pt_then ?_
    refine ht_seq ?_
    obtain ⟨v7, hv7, h⟩ := bind_some h
    refine ht_seqR hn (El := [_, _, _, _, (22, .tup [.obox (Option.isSome v7.1) 64 [.v (.int .i64 (((Option.getD v7.1 (default : T_diary_Diary))).limit)), .fr (.own 46) false 15 (List.flatten (List.map T_Rec.ienc (((Option.getD v7.1 (default : T_diary_Diary))).recs))), .v (.int .i64 (((Option.getD v7.1 (default : T_diary_Diary))).used)), .v (.int .i64 (((Option.getD v7.1 (default : T_diary_Diary))).safe)), .v (.int .i64 (((Option.getD v7.1 (default : T_diary_Diary))).kept)), .v (.int .i64 (((Option.getD v7.1 (default : T_diary_Diary))).life)), .v (.bool (((Option.getD v7.1 (default : T_diary_Diary))).off)), .v (.int .i64 (((Option.getD v7.1 (default : T_diary_Diary))).trip)), .v (.int .i64 (((Option.getD v7.1 (default : T_diary_Diary))).tripKeep))], .v (.int .i64 v7.2)]), (21, .tup [.obox (Option.isSome v7.1) 64 [.v (.int .i64 (((Option.getD v7.1 (default : T_diary_Diary))).limit)), .fr (.own 46) false 15 (List.flatten (List.map T_Rec.ienc (((Option.getD v7.1 (default : T_diary_Diary))).recs))), .v (.int .i64 (((Option.getD v7.1 (default : T_diary_Diary))).used)), .v (.int .i64 (((Option.getD v7.1 (default : T_diary_Diary))).safe)), .v (.int .i64 (((Option.getD v7.1 (default : T_diary_Diary))).kept)), .v (.int .i64 (((Option.getD v7.1 (default : T_diary_Diary))).life)), .v (.bool (((Option.getD v7.1 (default : T_diary_Diary))).off)), .v (.int .i64 (((Option.getD v7.1 (default : T_diary_Diary))).trip)), .v (.int .i64 (((Option.getD v7.1 (default : T_diary_Diary))).tripKeep))], .v (.int .i64 v7.2)]), (23, .obox (Option.isSome v7.1) 64 [.v (.int .i64 (((Option.getD v7.1 (default : T_diary_Diary))).limit)), .fr (.own 46) false 15 (List.flatten (List.map T_Rec.ienc (((Option.getD v7.1 (default : T_diary_Diary))).recs))), .v (.int .i64 (((Option.getD v7.1 (default : T_diary_Diary))).used)), .v (.int .i64 (((Option.getD v7.1 (default : T_diary_Diary))).safe)), .v (.int .i64 (((Option.getD v7.1 (default : T_diary_Diary))).kept)), .v (.int .i64 (((Option.getD v7.1 (default : T_diary_Diary))).life)), .v (.bool (((Option.getD v7.1 (default : T_diary_Diary))).off)), .v (.int .i64 (((Option.getD v7.1 (default : T_diary_Diary))).trip)), .v (.int .i64 (((Option.getD v7.1 (default : T_diary_Diary))).tripKeep))]), (21, .tup [.any, .v (.int .i64 v7.2)]), (24, .v (.int .i64 v7.2)), (7, .obox (Option.isSome v7.1) 64 [.v (.int .i64 (((Option.getD v7.1 (default : T_diary_Diary))).limit)), .fr (.own 46) false 15 (List.flatten (List.map T_Rec.ienc (((Option.getD v7.1 (default : T_diary_Diary))).recs))), .v (.int .i64 (((Option.getD v7.1 (default : T_diary_Diary))).used)), .v (.int .i64 (((Option.getD v7.1 (default : T_diary_Diary))).safe)), .v (.int .i64 (((Option.getD v7.1 (default : T_diary_Diary))).kept)), .v (.int .i64 (((Option.getD v7.1 (default : T_diary_Diary))).life)), .v (.bool (((Option.getD v7.1 (default : T_diary_Diary))).off)), .v (.int .i64 (((Option.getD v7.1 (default : T_diary_Diary))).trip)), .v (.int .i64 (((Option.getD v7.1 (default : T_diary_Diary))).tripKeep))]), (8, .v (.int .i64 v7.2))]) (init := [0, 1, 2, 3]) (fin := [0, 1, 2, 9, 10]) (sps := [⟨[], [], [4], [(.slot 22)]⟩, ⟨[], [4], [5], [(.slot 21)]⟩, ⟨[], [5], [7, 6], [(.slot 23)]⟩, ⟨[7], [], [8], [(.slot 24)]⟩, ⟨[], [6], [9], [(.slot 7)]⟩, ⟨[8], [], [10], [(.slot 8)]⟩]) (es' := [(_, _), (_, _), (_, _), (7, .obox (Option.isSome v7.1) 64 [.v (.int .i64 (((Option.getD v7.1 (default : T_diary_Diary))).limit)), .fr (.own 46) false 15 (List.flatten (List.map T_Rec.ienc (((Option.getD v7.1 (default : T_diary_Diary))).recs))), .v (.int .i64 (((Option.getD v7.1 (default : T_diary_Diary))).used)), .v (.int .i64 (((Option.getD v7.1 (default : T_diary_Diary))).safe)), .v (.int .i64 (((Option.getD v7.1 (default : T_diary_Diary))).kept)), .v (.int .i64 (((Option.getD v7.1 (default : T_diary_Diary))).life)), .v (.bool (((Option.getD v7.1 (default : T_diary_Diary))).off)), .v (.int .i64 (((Option.getD v7.1 (default : T_diary_Diary))).trip)), .v (.int .i64 (((Option.getD v7.1 (default : T_diary_Diary))).tripKeep))]), (8, .v (.int .i64 v7.2))]) (by kernel_rfl) rfl rfl
     ⟨st_plain rfl (op_call _ _ 10 _ _ rfl Try.call10 rfl (ok_diary_New 131072 _ hv7) rfl rfl),
     st_plain rfl (op_move_take _ _ _ _ rfl),
     st_plain rfl (op_extract_take _ _ _ _ _ rfl (Nat.le_of_ble_eq_true rfl) rfl rfl (by decide) rfl),
     st_plain rfl (op_extract _ _ _ _ _ rfl rfl (Nat.le_of_ble_eq_true rfl) rfl rfl),
     st_plain rfl (op_assign_take _ _ _ _ rfl),
     st_plain rfl (op_assign _ _ _ _ rfl rfl),
     trivial⟩ ?_
    refine pt_ob (d := default) (f := fun (v8 : T_diary_Diary) => [.v (.int .i64 v8.limit), .fr (.own 46) false 15 (List.flatten (List.map T_Rec.ienc v8.recs)), .v (.int .i64 v8.used), .v (.int .i64 v8.safe), .v (.int .i64 v8.kept), .v (.int .i64 v8.life), .v (.bool v8.off), .v (.int .i64 v8.trip), .v (.int .i64 v8.tripKeep)]) 3 9 7 64 h (es1 := fun v8 => [(0, .fr .shr true 15 (List.flatten (List.map T_Rec.ienc l))), (1, .v (.int .i64 n)), (2, .v (.int .i64 keep)), (7, .box 64 [.v (.int .i64 v8.limit), .fr (.own 46) false 15 (List.flatten (List.map T_Rec.ienc v8.recs)), .v (.int .i64 v8.used), .v (.int .i64 v8.safe), .v (.int .i64 v8.kept), .v (.int .i64 v8.life), .v (.bool v8.off), .v (.int .i64 v8.trip), .v (.int .i64 v8.tripKeep)]), (8, .v (.int .i64 v7.2))]) (es0 := [(0, .fr .shr true 15 (List.flatten (List.map T_Rec.ienc l))), (1, .v (.int .i64 n)), (2, .v (.int .i64 keep)), (7, .v (.pointer none)), (8, .v (.int .i64 v7.2))]) rfl (fun _ => rfl) (by kernel_rfl) (fun _ => rfl) (fun _ => rfl) rfl (fun v8 hv9 h => ?_) (fun hv9 h => ?_)
    ·refine pt_then ?_
     refine ht_seq ?_
     refine ht_seq ?_
     refine ht_joinS h (fun (s10 : Bool) => [(0, .fr .shr true 15 (List.flatten (List.map T_Rec.ienc l))), (1, .v (.int .i64 n)), (2, .v (.int .i64 keep)), (7, .box 64 [.v (.int .i64 v8.limit), .fr (.own 46) false 15 (List.flatten (List.map T_Rec.ienc v8.recs)), .v (.int .i64 v8.used), .v (.int .i64 v8.safe), .v (.int .i64 v8.kept), .v (.int .i64 v8.life), .v (.bool v8.off), .v (.int .i64 v8.trip), .v (.int .i64 v8.tripKeep)]), (30, .v (.bool s10))]) ?_ ?_
     ·rintro s10 h
      refine pt_then ?_
      refine ht_cond _ rfl (fun hb14 => ?_) (fun hb14 => ?_)
      ·have h := cond_t hb14 h
       refine ht_seq ?_
       refine ht_seqR hn (El := [_, _, _, _, _, (6, .v (.bool false))]) (init := [0, 1, 2, 3, 4]) (fin := [5]) (sps := [⟨[], [], [5], [(.slot 6)]⟩]) (es' := [(6, .v (.bool false))]) (by kernel_rfl) rfl rfl
        ⟨st_plain rfl (op_assign _ _ _ _ rfl rfl),
        trivial⟩ ?_
       refine pt_then ?_
       refine ht_ret ?_
       refine pt_r_then ?_
       obtain rfl := Option.some.inj h
       exact pt_ret hio rfl (.tmp _ _ .nil) rfl rfl
      ·have h := cond_f hb14 h
       refine ht_skip ?_
       refine pt_then ?_
       refine ht_seq ?_
       obtain ⟨v15, hv15, h⟩ := bind_some h
       obtain ⟨v16, hv16, h⟩ := bind_some h
       obtain ⟨v17, hv17, h⟩ := bind_some h
       obtain ⟨v18, hv18, h⟩ := bind_some h
       obtain ⟨v19, hv19, h⟩ := bind_some h
       obtain ⟨v20, hv20, h⟩ := bind_some h
       refine ht_seqR hn (El := (_ :: _ :: _ :: _ :: _ :: (31, .v (.int .i64 n)) :: (32, .v (.int .u64 v15)) :: (33, .fr .shr true 15 (List.flatten (List.map T_Rec.ienc l))) :: (34, .v (.int .i64 (l.length : Int))) :: (35, .v (.int .i64 v16)) :: (36, .v (.int .u64 v17)) :: (37, .v (.int .u64 v18)) :: (38, .v (.int .i64 v19)) :: (39, .v (.int .i64 v20)) :: (1, .v (.int .i64 v20)) :: [])) (init := [0, 1, 2, 3, 4]) (fin := [0, 2, 3, 14]) (sps := [⟨[1], [], [5], [(.slot 31)]⟩, ⟨[5], [], [6], [(.slot 32)]⟩, ⟨[0], [], [7], [(.slot 33)]⟩, ⟨[7], [], [8], [(.slot 34)]⟩, ⟨[8], [], [9], [(.slot 35)]⟩, ⟨[9], [], [10], [(.slot 36)]⟩, ⟨[6, 10], [], [11], [(.slot 37)]⟩, ⟨[11], [], [12], [(.slot 38)]⟩, ⟨[12], [], [13], [(.slot 39)]⟩, ⟨[13], [1], [14], [(.slot 1)]⟩]) (es' := [(_, _), (_, _), (_, _), (1, .v (.int .i64 v20))]) (by kernel_rfl) rfl rfl
        ⟨st_plain rfl (op_move _ _ _ _ rfl rfl),
        st_plain rfl ((Option.some.inj hv15) ▸ op_conv _ _ _ Try.underlying3 Try.underlying36 rfl),
        st_plain rfl (op_move _ _ _ _ rfl rfl),
        st_plain rfl (op_len_fr _ _ _ Try.underlying31 rfl (by decide) (gflat_len T_Rec.ilen _)),
        st_plain rfl (op_bin _ _ _ _ _ rfl rfl (ibind (f := Value.int .i64) (Option.some.inj hv16))),
        st_plain rfl ((Option.some.inj hv17) ▸ op_conv _ _ _ Try.underlying3 Try.underlying36 rfl),
        st_plain rfl (op_bin _ _ _ _ _ rfl rfl (rem_ok hv18)),
        st_plain rfl ((Option.some.inj hv19) ▸ op_conv _ _ _ Try.underlying36 Try.underlying3 rfl),
        st_plain rfl (op_bin _ _ _ _ _ rfl rfl (ibind (f := Value.int .i64) (Option.some.inj hv20))),
        st_plain rfl (LOp.drop [_] (op_assign _ _ _ _ rfl rfl)),
        trivial⟩ ?_
       refine pt_then ?_
       refine ht_seq ?_
       obtain ⟨v21, hv21, h⟩ := bind_some h
       refine ht_seqR hn (El := [_, _, _, _, (40, .ptr 7 0), (41, .v (.int .i64 v20)), (42, .v (.int .i64 keep)), (43, .tup []), (7, .box 64 [.v (.int .i64 v21.limit), .fr (.own 46) false 15 (List.flatten (List.map T_Rec.ienc v21.recs)), .v (.int .i64 v21.used), .v (.int .i64 v21.safe), .v (.int .i64 v21.kept), .v (.int .i64 v21.life), .v (.bool v21.off), .v (.int .i64 v21.trip), .v (.int .i64 v21.tripKeep)])]) (init := [0, 1, 2, 3]) (fin := [0, 1, 8, 3]) (sps := [⟨[2], [], [4], [(.slot 40)]⟩, ⟨[3], [], [5], [(.slot 41)]⟩, ⟨[1], [], [6], [(.slot 42)]⟩, ⟨[4, 5, 6], [2], [8, 7], [(.slot 43), (.cell 7 0), (.cell 7 1), (.cell 7 2), (.cell 7 3), (.cell 7 4), (.cell 7 5), (.cell 7 6), (.cell 7 7), (.cell 7 8)]⟩]) (es' := [(_, _), (_, _), (7, .box 64 [.v (.int .i64 v21.limit), .fr (.own 46) false 15 (List.flatten (List.map T_Rec.ienc v21.recs)), .v (.int .i64 v21.used), .v (.int .i64 v21.safe), .v (.int .i64 v21.kept), .v (.int .i64 v21.life), .v (.bool v21.off), .v (.int .i64 v21.trip), .v (.int .i64 v21.tripKeep)]), (_, _)]) (by kernel_rfl) rfl rfl
        ⟨st_plain rfl (op_move _ _ _ _ rfl rfl),
        st_plain rfl (op_move _ _ _ _ rfl rfl),
        st_plain rfl (op_move _ _ _ _ rfl rfl),
        st_plain rfl (op_callP _ _ _ _ 43 23 [.tmp 40] [.tmp 41, .tmp 42] _ _ _ rfl Try.call23 rfl rfl rfl (ok_diary_Diary_Trip v8 v20 keep _ hv21) (Nat.le_of_ble_eq_true rfl) rfl rfl rfl rfl rfl rfl rfl rfl),
        trivial⟩ ?_
       refine pt_then ?_
       refine ht_seq ?_
       refine ht_seq ?_
       refine ht_seqR hn (El := [_, _, _, _, (9, .v (.int .i64 0))]) (init := [0, 1, 2, 3]) (fin := [0, 1, 2, 3, 4]) (sps := [⟨[], [], [4], [(.slot 9)]⟩]) (es' := [(_, _), (_, _), (_, _), (_, _), (9, .v (.int .i64 0))]) (by kernel_rfl) rfl rfl
        ⟨st_plain rfl (op_assign _ _ _ _ rfl rfl),
        trivial⟩ ?_
       refine pt_then ?_
       refine ht_loopS h (fun ((s54, s55, s56, s57, s58, s59, s60, s61, s62, s63) : Int × (List T_Rec) × Int × Int × Int × Int × Bool × Int × Int × Int) => [(0, .fr .shr true 15 (List.flatten (List.map T_Rec.ienc l))), (2, .v (.int .i64 keep)), (7, .box 64 [.v (.int .i64 s54), .fr (.own 46) false 15 (List.flatten (List.map T_Rec.ienc s55)), .v (.int .i64 s56), .v (.int .i64 s57), .v (.int .i64 s58), .v (.int .i64 s59), .v (.bool s60), .v (.int .i64 s61), .v (.int .i64 s62)]), (1, .v (.int .i64 v20)), (9, .v (.int .i64 s63))]) (fun ((s71, s72, s73, s74, s75, s76, s77, s78, s79) : Int × (List T_Rec) × Int × Int × Int × Int × Bool × Int × Int) => [(0, .fr .shr true 15 (List.flatten (List.map T_Rec.ienc l))), (2, .v (.int .i64 keep)), (7, .box 64 [.v (.int .i64 s71), .fr (.own 46) false 15 (List.flatten (List.map T_Rec.ienc s72)), .v (.int .i64 s73), .v (.int .i64 s74), .v (.int .i64 s75), .v (.int .i64 s76), .v (.bool s77), .v (.int .i64 s78), .v (.int .i64 s79)]), (1, .v (.int .i64 v20))]) ?_ ?_
       ·rintro ⟨s71, s72, s73, s74, s75, s76, s77, s78, s79⟩ h
        refine pt_then ?_
        refine ht_seq ?_
        refine ht_seq ?_
        refine ht_joinS h (fun ((s95, s96, s97, s98, s99, s100, s101, s102, s103, s104) : Int × (List T_Rec) × Int × Int × Int × Int × Bool × Int × Int × Bool) => [(0, .fr .shr true 15 (List.flatten (List.map T_Rec.ienc l))), (2, .v (.int .i64 keep)), (7, .box 64 [.v (.int .i64 s95), .fr (.own 46) false 15 (List.flatten (List.map T_Rec.ienc s96)), .v (.int .i64 s97), .v (.int .i64 s98), .v (.int .i64 s99), .v (.int .i64 s100), .v (.bool s101), .v (.int .i64 s102), .v (.int .i64 s103)]), (1, .v (.int .i64 v20)), (86, .v (.bool s104))]) ?_ ?_
        ·rintro ⟨s95, s96, s97, s98, s99, s100, s101, s102, s103, s104⟩ h
         refine pt_then ?_
         refine ht_cond _ rfl (fun hb108 => ?_) (fun hb108 => ?_)
         ·have h := cond_t hb108 h
          refine ht_seq ?_
          refine ht_seqR hn (El := [_, _, _, _, _, (6, .v (.bool false))]) (init := [0, 1, 2, 3, 4]) (fin := [5]) (sps := [⟨[], [], [5], [(.slot 6)]⟩]) (es' := [(6, .v (.bool false))]) (by kernel_rfl) rfl rfl
           ⟨st_plain rfl (op_assign _ _ _ _ rfl rfl),
           trivial⟩ ?_
          refine pt_then ?_
          refine ht_ret ?_
          refine pt_r_then ?_
          obtain rfl := Option.some.inj h
          exact pt_ret hio rfl (.tmp _ _ .nil) rfl rfl
         ·have h := cond_f hb108 h
          refine ht_skip ?_
          refine pt_then ?_
          refine ht_seq ?_
          obtain ⟨v109, hv109, h⟩ := bind_some h
          refine ht_seqR hn (El := [_, _, _, _, _, (87, .ptr 7 0), (88, .tup []), (7, .box 64 [.v (.int .i64 v109.limit), .fr (.own 46) false 15 (List.flatten (List.map T_Rec.ienc v109.recs)), .v (.int .i64 v109.used), .v (.int .i64 v109.safe), .v (.int .i64 v109.kept), .v (.int .i64 v109.life), .v (.bool v109.off), .v (.int .i64 v109.trip), .v (.int .i64 v109.tripKeep)])]) (init := [0, 1, 2, 3, 4]) (fin := [0, 1, 7, 3]) (sps := [⟨[2], [], [5], [(.slot 87)]⟩, ⟨[5], [2], [7, 6], [(.slot 88), (.cell 7 0), (.cell 7 1), (.cell 7 2), (.cell 7 3), (.cell 7 4), (.cell 7 5), (.cell 7 6), (.cell 7 7), (.cell 7 8)]⟩]) (es' := [(_, _), (_, _), (7, .box 64 [.v (.int .i64 v109.limit), .fr (.own 46) false 15 (List.flatten (List.map T_Rec.ienc v109.recs)), .v (.int .i64 v109.used), .v (.int .i64 v109.safe), .v (.int .i64 v109.kept), .v (.int .i64 v109.life), .v (.bool v109.off), .v (.int .i64 v109.trip), .v (.int .i64 v109.tripKeep)]), (_, _)]) (by kernel_rfl) rfl rfl
           ⟨st_plain rfl (op_move _ _ _ _ rfl rfl),
           st_plain rfl (op_callP _ _ _ _ 88 25 [.tmp 87] [] _ _ _ rfl Try.call25 rfl rfl rfl (ok_diary_Diary_Start (T_diary_Diary.mk s95 s96 s97 s98 s99 s100 s101 s102 s103) _ hv109) (Nat.le_of_ble_eq_true rfl) rfl rfl rfl rfl rfl rfl rfl rfl),
           trivial⟩ ?_
          refine pt_then ?_
          refine ht_seq ?_
          obtain ⟨v110, hv110, h⟩ := bind_some h
          obtain ⟨v111, hv111, h⟩ := bind_some h
          obtain ⟨v112, hv112, h⟩ := bind_some h
          refine ht_seqR hn (El := [_, _, _, _, (89, .v (.int .i64 keep)), (90, .v (.int .i64 v110)), (91, .v (.int .i64 v20)), (92, .fr .shr true 15 (List.flatten (List.map T_Rec.ienc l))), (93, .v (.int .i64 (l.length : Int))), (94, .v (.int .i64 v111)), (95, .v (.int .i64 v112)), (11, .v (.int .i64 v112))]) (init := [0, 1, 2, 3]) (fin := [0, 2, 11]) (sps := [⟨[1], [], [4], [(.slot 89)]⟩, ⟨[4], [], [5], [(.slot 90)]⟩, ⟨[3], [], [6], [(.slot 91)]⟩, ⟨[0], [], [7], [(.slot 92)]⟩, ⟨[7], [], [8], [(.slot 93)]⟩, ⟨[6, 8], [], [9], [(.slot 94)]⟩, ⟨[5, 9], [], [10], [(.slot 95)]⟩, ⟨[10], [], [11], [(.slot 11)]⟩]) (es' := [(_, _), (_, _), (11, .v (.int .i64 v112))]) (by kernel_rfl) rfl rfl
           ⟨st_plain rfl (op_move _ _ _ _ rfl rfl),
           st_plain rfl ((Option.some.inj hv110) ▸ op_max _ _ _ _ rfl rfl),
           st_plain rfl (op_move _ _ _ _ rfl rfl),
           st_plain rfl (op_move _ _ _ _ rfl rfl),
           st_plain rfl (op_len_fr _ _ _ Try.underlying31 rfl (by decide) (gflat_len T_Rec.ilen _)),
           st_plain rfl ((Option.some.inj hv111) ▸ op_min _ _ _ _ rfl rfl),
           st_plain rfl ((Option.some.inj hv112) ▸ op_min _ _ _ _ rfl rfl),
           st_plain rfl (op_assign _ _ _ _ rfl rfl),
           trivial⟩ ?_
          refine pt_then ?_
          refine ht_seq ?_
          obtain ⟨v113, hv113, h⟩ := bind_some h
          refine ht_seqR hn (El := [_, _, _, (97, .ptr 7 0), (98, .tup [.fr (.own 46) false 15 (List.flatten (List.map T_Rec.ienc v113.1)), .v (.int .i64 v113.2.1)]), (7, .box 64 [.v (.int .i64 v113.2.2.limit), .fr (.own 46) false 15 (List.flatten (List.map T_Rec.ienc v113.2.2.recs)), .v (.int .i64 v113.2.2.used), .v (.int .i64 v113.2.2.safe), .v (.int .i64 v113.2.2.kept), .v (.int .i64 v113.2.2.life), .v (.bool v113.2.2.off), .v (.int .i64 v113.2.2.trip), .v (.int .i64 v113.2.2.tripKeep)]), (96, .tup [.fr (.own 46) false 15 (List.flatten (List.map T_Rec.ienc v113.1)), .v (.int .i64 v113.2.1)]), (99, .fr (.own 46) false 15 (List.flatten (List.map T_Rec.ienc v113.1))), (96, .tup [.any, .v (.int .i64 v113.2.1)]), (100, .v (.int .i64 v113.2.1)), (12, .fr (.own 46) false 15 (List.flatten (List.map T_Rec.ienc v113.1))), (13, .v (.int .i64 v113.2.1))]) (init := [0, 1, 2]) (fin := [0, 5, 2, 10, 11]) (sps := [⟨[1], [], [3], [(.slot 97)]⟩, ⟨[3], [1], [5, 4], [(.slot 98), (.cell 7 0), (.cell 7 1), (.cell 7 2), (.cell 7 3), (.cell 7 4), (.cell 7 5), (.cell 7 6), (.cell 7 7), (.cell 7 8)]⟩, ⟨[], [4], [6], [(.slot 96)]⟩, ⟨[], [6], [8, 7], [(.slot 99)]⟩, ⟨[8], [], [9], [(.slot 100)]⟩, ⟨[], [7], [10], [(.slot 12)]⟩, ⟨[9], [], [11], [(.slot 13)]⟩]) (es' := [(_, _), (7, .box 64 [.v (.int .i64 v113.2.2.limit), .fr (.own 46) false 15 (List.flatten (List.map T_Rec.ienc v113.2.2.recs)), .v (.int .i64 v113.2.2.used), .v (.int .i64 v113.2.2.safe), .v (.int .i64 v113.2.2.kept), .v (.int .i64 v113.2.2.life), .v (.bool v113.2.2.off), .v (.int .i64 v113.2.2.trip), .v (.int .i64 v113.2.2.tripKeep)]), (_, _), (12, .fr (.own 46) false 15 (List.flatten (List.map T_Rec.ienc v113.1))), (13, .v (.int .i64 v113.2.1))]) (by kernel_rfl) rfl rfl
           ⟨st_plain rfl (op_move _ _ _ _ rfl rfl),
           st_plain rfl (op_callP _ _ _ _ 98 30 [.tmp 97] [] _ _ _ rfl Try.call30 rfl rfl rfl (ok_diary_Diary_Read v109 _ hv113) (Nat.le_of_ble_eq_true rfl) rfl rfl rfl rfl rfl rfl rfl rfl),
           st_plain rfl (op_move_take _ _ _ _ rfl),
           st_plain rfl (op_extract_take _ _ _ _ _ rfl (Nat.le_of_ble_eq_true rfl) rfl rfl (by decide) rfl),
           st_plain rfl (op_extract _ _ _ _ _ rfl rfl (Nat.le_of_ble_eq_true rfl) rfl rfl),
           st_plain rfl (op_assign_take _ _ _ _ rfl),
           st_plain rfl (op_assign _ _ _ _ rfl rfl),
           trivial⟩ ?_
          refine pt_then ?_
          refine ht_seq ?_
          refine ht_joinS h (fun (s121 : Bool) => [(6, .v (.bool s121))]) ?_ ?_
          ·rintro s121 h
           refine pt_then ?_
           refine ht_ret ?_
           obtain rfl := Option.some.inj h
           exact pt_ret hio rfl (.tmp _ _ .nil) rfl rfl
          ·intro u122 h hl123 hr124
           refine cond_some h (fun hg21_2 h => ?_) (fun hg21_2 h => ?_)
           ·obtain ⟨v114, hv114, h⟩ := bind_some h
            refine cond_some h (fun hg21_7 h => ?_) (fun hg21_7 h => ?_)
            ·obtain ⟨v115, hv115, h⟩ := bind_some h
             obtain ⟨v116, hv116, h⟩ := bind_some h
             refine cond_some h (fun hg21_14 h => ?_) (fun hg21_14 h => ?_)
             ·obtain ⟨v117, hv117, h⟩ := bind_some h
              refine cond_some h (fun hg21_20 h => ?_) (fun hg21_20 h => ?_)
              ·obtain ⟨v118, hv118, h⟩ := bind_some h
               refine cond_some h (fun hg21_25 h => ?_) (fun hg21_25 h => ?_)
               ·obtain ⟨v119, hv119, h⟩ := bind_some h
                refine cond_some h (fun hg21_30 h => ?_) (fun hg21_30 h => ?_)
                ·obtain ⟨v120, hv120, h⟩ := bind_some h
                 refine ht_seqR hn (El := (_ :: _ :: _ :: _ :: _ :: (101, .v (.int .i64 v113.2.1)) :: (102, .v (.bool (v113.2.1 == 0))) :: (103, .v (.bool true)) :: (104, .ptr 7 0) :: (105, .v (.int .i64 v114.1)) :: (7, .box 64 [.v (.int .i64 v114.2.limit), .fr (.own 46) false 15 (List.flatten (List.map T_Rec.ienc v114.2.recs)), .v (.int .i64 v114.2.used), .v (.int .i64 v114.2.safe), .v (.int .i64 v114.2.kept), .v (.int .i64 v114.2.life), .v (.bool v114.2.off), .v (.int .i64 v114.2.trip), .v (.int .i64 v114.2.tripKeep)]) :: (106, .v (.bool (v114.1 == 1))) :: (107, .v (.bool (v114.1 == 1))) :: (108, .v (.bool true)) :: (109, .fr (.own 46) false 15 (List.flatten (List.map T_Rec.ienc v113.1))) :: (110, .fr .shr true 15 (List.flatten (List.map T_Rec.ienc l))) :: (111, .v (.int .i64 v112)) :: (112, .fr .shr true 15 (List.flatten (List.map T_Rec.ienc v115))) :: (113, .v (.bool v116)) :: (114, .v (.bool v116)) :: (115, .v (.bool true)) :: (116, .ptr 7 0) :: (117, .v (.int .i64 v117.1)) :: (7, .box 64 [.v (.int .i64 v117.2.limit), .fr (.own 46) false 15 (List.flatten (List.map T_Rec.ienc v117.2.recs)), .v (.int .i64 v117.2.used), .v (.int .i64 v117.2.safe), .v (.int .i64 v117.2.kept), .v (.int .i64 v117.2.life), .v (.bool v117.2.off), .v (.int .i64 v117.2.trip), .v (.int .i64 v117.2.tripKeep)]) :: (118, .v (.int .i64 v112)) :: (119, .v (.bool (v117.1 == v112))) :: (120, .v (.bool (v117.1 == v112))) :: (121, .v (.bool true)) :: (122, .ptr 7 0) :: (123, .v (.int .i64 v118.1)) :: (7, .box 64 [.v (.int .i64 v118.2.limit), .fr (.own 46) false 15 (List.flatten (List.map T_Rec.ienc v118.2.recs)), .v (.int .i64 v118.2.used), .v (.int .i64 v118.2.safe), .v (.int .i64 v118.2.kept), .v (.int .i64 v118.2.life), .v (.bool v118.2.off), .v (.int .i64 v118.2.trip), .v (.int .i64 v118.2.tripKeep)]) :: (124, .v (.bool (v118.1 == 0))) :: (125, .v (.bool (v118.1 == 0))) :: (126, .v (.bool true)) :: (127, .box 64 [.v (.int .i64 v118.2.limit), .fr (.own 46) false 15 (List.flatten (List.map T_Rec.ienc v118.2.recs)), .v (.int .i64 v118.2.used), .v (.int .i64 v118.2.safe), .v (.int .i64 v118.2.kept), .v (.int .i64 v118.2.life), .v (.bool v118.2.off), .v (.int .i64 v118.2.trip), .v (.int .i64 v118.2.tripKeep)]) :: (128, .v (.int .i64 v119.1)) :: (127, .box 64 [.v (.int .i64 v119.2.limit), .fr (.own 46) false 15 (List.flatten (List.map T_Rec.ienc v119.2.recs)), .v (.int .i64 v119.2.used), .v (.int .i64 v119.2.safe), .v (.int .i64 v119.2.kept), .v (.int .i64 v119.2.life), .v (.bool v119.2.off), .v (.int .i64 v119.2.trip), .v (.int .i64 v119.2.tripKeep)]) :: (129, .v (.bool (v119.1 == 0))) :: (130, .v (.bool (v119.1 == 0))) :: (131, .v (.bool true)) :: (132, .v (.bool v120)) :: (133, .v (.bool v120)) :: (6, .v (.bool v120)) :: [])) (init := [0, 1, 2, 3, 4]) (fin := [42]) (sps := (⟨[4], [], [5], [(.slot 101)]⟩ :: ⟨[5], [], [6], [(.slot 102)]⟩ :: ⟨[6], [], [7], [(.slot 103)]⟩ :: ⟨[7, 1], [], [8], [(.slot 104)]⟩ :: ⟨[7, 8], [1], [10, 9], [(.slot 105), (.cell 7 0), (.cell 7 1), (.cell 7 2), (.cell 7 3), (.cell 7 4), (.cell 7 5), (.cell 7 6), (.cell 7 7), (.cell 7 8)]⟩ :: ⟨[7, 9], [], [11], [(.slot 106)]⟩ :: ⟨[7, 11], [], [12], [(.slot 107)]⟩ :: ⟨[12], [], [13], [(.slot 108)]⟩ :: ⟨[13], [3], [14], [(.slot 109)]⟩ :: ⟨[13, 0], [], [15], [(.slot 110)]⟩ :: ⟨[13, 2], [], [16], [(.slot 111)]⟩ :: ⟨[13, 15, 16], [], [17], [(.slot 112)]⟩ :: ⟨[13, 14, 17], [], [18], [(.slot 113)]⟩ :: ⟨[13, 18], [], [19], [(.slot 114)]⟩ :: ⟨[19], [], [20], [(.slot 115)]⟩ :: ⟨[20, 10], [], [21], [(.slot 116)]⟩ :: ⟨[20, 21], [10], [23, 22], [(.slot 117), (.cell 7 0), (.cell 7 1), (.cell 7 2), (.cell 7 3), (.cell 7 4), (.cell 7 5), (.cell 7 6), (.cell 7 7), (.cell 7 8)]⟩ :: ⟨[20, 2], [], [24], [(.slot 118)]⟩ :: ⟨[20, 22, 24], [], [25], [(.slot 119)]⟩ :: ⟨[20, 25], [], [26], [(.slot 120)]⟩ :: ⟨[26], [], [27], [(.slot 121)]⟩ :: ⟨[27, 23], [], [28], [(.slot 122)]⟩ :: ⟨[27, 28], [23], [30, 29], [(.slot 123), (.cell 7 0), (.cell 7 1), (.cell 7 2), (.cell 7 3), (.cell 7 4), (.cell 7 5), (.cell 7 6), (.cell 7 7), (.cell 7 8)]⟩ :: ⟨[27, 29], [], [31], [(.slot 124)]⟩ :: ⟨[27, 31], [], [32], [(.slot 125)]⟩ :: ⟨[32], [], [33], [(.slot 126)]⟩ :: ⟨[33], [8, 21, 28, 30], [34], [(.slot 127)]⟩ :: ⟨[33], [34], [36, 35], [(.slot 128), (.cell 127 0), (.cell 127 1), (.cell 127 2), (.cell 127 3), (.cell 127 4), (.cell 127 5), (.cell 127 6), (.cell 127 7), (.cell 127 8)]⟩ :: ⟨[33, 35], [], [37], [(.slot 129)]⟩ :: ⟨[33, 37], [], [38], [(.slot 130)]⟩ :: ⟨[38], [], [39], [(.slot 131)]⟩ :: ⟨[39], [], [40], [(.slot 132)]⟩ :: ⟨[39, 40], [], [41], [(.slot 133)]⟩ :: ⟨[41], [], [42], [(.slot 6)]⟩ :: [])) (es' := [(6, .v (.bool v120))]) (by kernel_rfl) rfl rfl
                  ⟨st_plain rfl (op_move _ _ _ _ rfl rfl),
                  st_plain rfl (op_bin _ _ _ _ _ rfl rfl rfl),
                  st_plain rfl (op_move _ _ _ _ (congrArg (fun b => AV.v (Value.bool b)) hg21_2) rfl),
                  st_run 2 103 true rfl rfl rfl (List.Mem.head _) (op_move _ _ _ _ rfl rfl),
                  st_run 2 103 true rfl rfl rfl (List.Mem.head _) (op_callP _ _ _ _ 105 36 [.tmp 104] [] _ _ _ rfl Try.call36 rfl rfl rfl (ok_diary_Diary_Life v113.2.2 _ hv114) (Nat.le_of_ble_eq_true rfl) rfl rfl rfl rfl rfl rfl rfl rfl),
                  st_run 2 103 true rfl rfl rfl (List.Mem.head _) (op_bin _ _ _ _ _ rfl rfl rfl),
                  st_plain rfl (op_pick _ _ true _ rfl rfl),
                  st_plain rfl (op_move _ _ _ _ (congrArg (fun b => AV.v (Value.bool b)) hg21_7) rfl),
                  st_run 7 108 true rfl rfl rfl (List.Mem.head _) (op_move_take _ _ _ _ rfl),
                  st_run 7 108 true rfl rfl rfl (List.Mem.head _) (op_move _ _ _ _ rfl rfl),
                  st_run 7 108 true rfl rfl rfl (List.Mem.head _) (op_move _ _ _ _ rfl rfl),
                  st_run 7 108 true rfl rfl rfl (List.Mem.head _) (op_slice_fr _ _ (Int.toNat 0) (Int.toNat v112) _ Try.underlying31 sz46 (by decide) rfl rfl rfl ⟨_, congrArg (fun j => AV.v (Value.int .i64 j)) (sli_bd hv115).2.1⟩ (sli_bd hv115).2.2.1 (by rw [gflat_len T_Rec.ilen]; exact Nat.mul_le_mul_right _ (sli_bd hv115).2.2.2) (gflat_sli T_Rec.ilen hv115)),
                  st_run 7 108 true rfl rfl rfl (List.Mem.head _) (op_call _ _ 27 _ _ rfl Try.call27 rfl (ok_wherrykeep_Recs v113.1 v115 _ hv116) rfl rfl),
                  st_plain rfl (op_pick _ _ true _ rfl rfl),
                  st_plain rfl (op_move _ _ _ _ (congrArg (fun b => AV.v (Value.bool b)) hg21_14) rfl),
                  st_run 14 115 true rfl rfl rfl (List.Mem.head _) (op_move _ _ _ _ rfl rfl),
                  st_run 14 115 true rfl rfl rfl (List.Mem.head _) (op_callP _ _ _ _ 117 32 [.tmp 116] [] _ _ _ rfl Try.call32 rfl rfl rfl (ok_diary_Diary_Kept v114.2 _ hv117) (Nat.le_of_ble_eq_true rfl) rfl rfl rfl rfl rfl rfl rfl rfl),
                  st_run 14 115 true rfl rfl rfl (List.Mem.head _) (op_move _ _ _ _ rfl rfl),
                  st_run 14 115 true rfl rfl rfl (List.Mem.head _) (op_bin _ _ _ _ _ rfl rfl rfl),
                  st_plain rfl (op_pick _ _ true _ rfl rfl),
                  st_plain rfl (op_move _ _ _ _ (congrArg (fun b => AV.v (Value.bool b)) hg21_20) rfl),
                  st_run 20 121 true rfl rfl rfl (List.Mem.head _) (op_move _ _ _ _ rfl rfl),
                  st_run 20 121 true rfl rfl rfl (List.Mem.head _) (op_callP _ _ _ _ 123 17 [.tmp 122] [] _ _ _ rfl Try.call17 rfl rfl rfl (ok_diary_Diary_Sync v117.2 _ hv118) (Nat.le_of_ble_eq_true rfl) rfl rfl rfl rfl rfl rfl rfl rfl),
                  st_run 20 121 true rfl rfl rfl (List.Mem.head _) (op_bin _ _ _ _ _ rfl rfl rfl),
                  st_plain rfl (op_pick _ _ true _ rfl rfl),
                  st_plain rfl (op_move _ _ _ _ (congrArg (fun b => AV.v (Value.bool b)) hg21_25) rfl),
                  st_run 25 126 true rfl rfl rfl (List.Mem.head _) (LOp.drop [_] (LOp.drop [_] (LOp.drop [_] (op_move_take _ _ _ _ rfl)))),
                  st_run 25 126 true rfl rfl rfl (List.Mem.head _) (op_callP _ _ _ _ 128 32 [.tmp 127] [] _ _ _ rfl Try.call32 rfl rfl rfl (ok_diary_Diary_Kept v118.2 _ hv119) (Nat.le_of_ble_eq_true rfl) rfl rfl rfl rfl rfl rfl rfl rfl),
                  st_run 25 126 true rfl rfl rfl (List.Mem.head _) (op_bin _ _ _ _ _ rfl rfl rfl),
                  st_plain rfl (op_pick _ _ true _ rfl rfl),
                  st_plain rfl (op_move _ _ _ _ (congrArg (fun b => AV.v (Value.bool b)) hg21_30) rfl),
                  st_run 30 131 true rfl rfl rfl (List.Mem.head _) (op_call _ _ 12 _ _ rfl Try.call12 rfl (ok_wherrylaw18_wakes  _ hv120) rfl rfl),
                  st_plain rfl (op_pick _ _ true _ rfl rfl),
                  st_plain rfl (op_assign _ _ _ _ rfl rfl),
                  trivial⟩ ?_
                 exact hl123 _ (Option.some.inj h).symm
                ·refine ht_seqR hn (El := (_ :: _ :: _ :: _ :: _ :: (101, .v (.int .i64 v113.2.1)) :: (102, .v (.bool (v113.2.1 == 0))) :: (103, .v (.bool true)) :: (104, .ptr 7 0) :: (105, .v (.int .i64 v114.1)) :: (7, .box 64 [.v (.int .i64 v114.2.limit), .fr (.own 46) false 15 (List.flatten (List.map T_Rec.ienc v114.2.recs)), .v (.int .i64 v114.2.used), .v (.int .i64 v114.2.safe), .v (.int .i64 v114.2.kept), .v (.int .i64 v114.2.life), .v (.bool v114.2.off), .v (.int .i64 v114.2.trip), .v (.int .i64 v114.2.tripKeep)]) :: (106, .v (.bool (v114.1 == 1))) :: (107, .v (.bool (v114.1 == 1))) :: (108, .v (.bool true)) :: (109, .fr (.own 46) false 15 (List.flatten (List.map T_Rec.ienc v113.1))) :: (110, .fr .shr true 15 (List.flatten (List.map T_Rec.ienc l))) :: (111, .v (.int .i64 v112)) :: (112, .fr .shr true 15 (List.flatten (List.map T_Rec.ienc v115))) :: (113, .v (.bool v116)) :: (114, .v (.bool v116)) :: (115, .v (.bool true)) :: (116, .ptr 7 0) :: (117, .v (.int .i64 v117.1)) :: (7, .box 64 [.v (.int .i64 v117.2.limit), .fr (.own 46) false 15 (List.flatten (List.map T_Rec.ienc v117.2.recs)), .v (.int .i64 v117.2.used), .v (.int .i64 v117.2.safe), .v (.int .i64 v117.2.kept), .v (.int .i64 v117.2.life), .v (.bool v117.2.off), .v (.int .i64 v117.2.trip), .v (.int .i64 v117.2.tripKeep)]) :: (118, .v (.int .i64 v112)) :: (119, .v (.bool (v117.1 == v112))) :: (120, .v (.bool (v117.1 == v112))) :: (121, .v (.bool true)) :: (122, .ptr 7 0) :: (123, .v (.int .i64 v118.1)) :: (7, .box 64 [.v (.int .i64 v118.2.limit), .fr (.own 46) false 15 (List.flatten (List.map T_Rec.ienc v118.2.recs)), .v (.int .i64 v118.2.used), .v (.int .i64 v118.2.safe), .v (.int .i64 v118.2.kept), .v (.int .i64 v118.2.life), .v (.bool v118.2.off), .v (.int .i64 v118.2.trip), .v (.int .i64 v118.2.tripKeep)]) :: (124, .v (.bool (v118.1 == 0))) :: (125, .v (.bool (v118.1 == 0))) :: (126, .v (.bool true)) :: (127, .box 64 [.v (.int .i64 v118.2.limit), .fr (.own 46) false 15 (List.flatten (List.map T_Rec.ienc v118.2.recs)), .v (.int .i64 v118.2.used), .v (.int .i64 v118.2.safe), .v (.int .i64 v118.2.kept), .v (.int .i64 v118.2.life), .v (.bool v118.2.off), .v (.int .i64 v118.2.trip), .v (.int .i64 v118.2.tripKeep)]) :: (128, .v (.int .i64 v119.1)) :: (127, .box 64 [.v (.int .i64 v119.2.limit), .fr (.own 46) false 15 (List.flatten (List.map T_Rec.ienc v119.2.recs)), .v (.int .i64 v119.2.used), .v (.int .i64 v119.2.safe), .v (.int .i64 v119.2.kept), .v (.int .i64 v119.2.life), .v (.bool v119.2.off), .v (.int .i64 v119.2.trip), .v (.int .i64 v119.2.tripKeep)]) :: (129, .v (.bool (v119.1 == 0))) :: (130, .v (.bool (v119.1 == 0))) :: (131, .v (.bool false)) :: (132, .v undef) :: (133, .v (.bool false)) :: (6, .v (.bool false)) :: [])) (init := [0, 1, 2, 3, 4]) (fin := [42]) (sps := (⟨[4], [], [5], [(.slot 101)]⟩ :: ⟨[5], [], [6], [(.slot 102)]⟩ :: ⟨[6], [], [7], [(.slot 103)]⟩ :: ⟨[7, 1], [], [8], [(.slot 104)]⟩ :: ⟨[7, 8], [1], [10, 9], [(.slot 105), (.cell 7 0), (.cell 7 1), (.cell 7 2), (.cell 7 3), (.cell 7 4), (.cell 7 5), (.cell 7 6), (.cell 7 7), (.cell 7 8)]⟩ :: ⟨[7, 9], [], [11], [(.slot 106)]⟩ :: ⟨[7, 11], [], [12], [(.slot 107)]⟩ :: ⟨[12], [], [13], [(.slot 108)]⟩ :: ⟨[13], [3], [14], [(.slot 109)]⟩ :: ⟨[13, 0], [], [15], [(.slot 110)]⟩ :: ⟨[13, 2], [], [16], [(.slot 111)]⟩ :: ⟨[13, 15, 16], [], [17], [(.slot 112)]⟩ :: ⟨[13, 14, 17], [], [18], [(.slot 113)]⟩ :: ⟨[13, 18], [], [19], [(.slot 114)]⟩ :: ⟨[19], [], [20], [(.slot 115)]⟩ :: ⟨[20, 10], [], [21], [(.slot 116)]⟩ :: ⟨[20, 21], [10], [23, 22], [(.slot 117), (.cell 7 0), (.cell 7 1), (.cell 7 2), (.cell 7 3), (.cell 7 4), (.cell 7 5), (.cell 7 6), (.cell 7 7), (.cell 7 8)]⟩ :: ⟨[20, 2], [], [24], [(.slot 118)]⟩ :: ⟨[20, 22, 24], [], [25], [(.slot 119)]⟩ :: ⟨[20, 25], [], [26], [(.slot 120)]⟩ :: ⟨[26], [], [27], [(.slot 121)]⟩ :: ⟨[27, 23], [], [28], [(.slot 122)]⟩ :: ⟨[27, 28], [23], [30, 29], [(.slot 123), (.cell 7 0), (.cell 7 1), (.cell 7 2), (.cell 7 3), (.cell 7 4), (.cell 7 5), (.cell 7 6), (.cell 7 7), (.cell 7 8)]⟩ :: ⟨[27, 29], [], [31], [(.slot 124)]⟩ :: ⟨[27, 31], [], [32], [(.slot 125)]⟩ :: ⟨[32], [], [33], [(.slot 126)]⟩ :: ⟨[33], [8, 21, 28, 30], [34], [(.slot 127)]⟩ :: ⟨[33], [34], [36, 35], [(.slot 128), (.cell 127 0), (.cell 127 1), (.cell 127 2), (.cell 127 3), (.cell 127 4), (.cell 127 5), (.cell 127 6), (.cell 127 7), (.cell 127 8)]⟩ :: ⟨[33, 35], [], [37], [(.slot 129)]⟩ :: ⟨[33, 37], [], [38], [(.slot 130)]⟩ :: ⟨[38], [], [39], [(.slot 131)]⟩ :: ⟨[39], [], [40], [(.slot 132)]⟩ :: ⟨[39], [], [41], [(.slot 133)]⟩ :: ⟨[41], [], [42], [(.slot 6)]⟩ :: [])) (es' := [(6, .v (.bool false))]) (by kernel_rfl) rfl rfl
                  ⟨st_plain rfl (op_move _ _ _ _ rfl rfl),
                  st_plain rfl (op_bin _ _ _ _ _ rfl rfl rfl),
                  st_plain rfl (op_move _ _ _ _ (congrArg (fun b => AV.v (Value.bool b)) hg21_2) rfl),
                  st_run 2 103 true rfl rfl rfl (List.Mem.head _) (op_move _ _ _ _ rfl rfl),
                  st_run 2 103 true rfl rfl rfl (List.Mem.head _) (op_callP _ _ _ _ 105 36 [.tmp 104] [] _ _ _ rfl Try.call36 rfl rfl rfl (ok_diary_Diary_Life v113.2.2 _ hv114) (Nat.le_of_ble_eq_true rfl) rfl rfl rfl rfl rfl rfl rfl rfl),
                  st_run 2 103 true rfl rfl rfl (List.Mem.head _) (op_bin _ _ _ _ _ rfl rfl rfl),
                  st_plain rfl (op_pick _ _ true _ rfl rfl),
                  st_plain rfl (op_move _ _ _ _ (congrArg (fun b => AV.v (Value.bool b)) hg21_7) rfl),
                  st_run 7 108 true rfl rfl rfl (List.Mem.head _) (op_move_take _ _ _ _ rfl),
                  st_run 7 108 true rfl rfl rfl (List.Mem.head _) (op_move _ _ _ _ rfl rfl),
                  st_run 7 108 true rfl rfl rfl (List.Mem.head _) (op_move _ _ _ _ rfl rfl),
                  st_run 7 108 true rfl rfl rfl (List.Mem.head _) (op_slice_fr _ _ (Int.toNat 0) (Int.toNat v112) _ Try.underlying31 sz46 (by decide) rfl rfl rfl ⟨_, congrArg (fun j => AV.v (Value.int .i64 j)) (sli_bd hv115).2.1⟩ (sli_bd hv115).2.2.1 (by rw [gflat_len T_Rec.ilen]; exact Nat.mul_le_mul_right _ (sli_bd hv115).2.2.2) (gflat_sli T_Rec.ilen hv115)),
                  st_run 7 108 true rfl rfl rfl (List.Mem.head _) (op_call _ _ 27 _ _ rfl Try.call27 rfl (ok_wherrykeep_Recs v113.1 v115 _ hv116) rfl rfl),
                  st_plain rfl (op_pick _ _ true _ rfl rfl),
                  st_plain rfl (op_move _ _ _ _ (congrArg (fun b => AV.v (Value.bool b)) hg21_14) rfl),
                  st_run 14 115 true rfl rfl rfl (List.Mem.head _) (op_move _ _ _ _ rfl rfl),
                  st_run 14 115 true rfl rfl rfl (List.Mem.head _) (op_callP _ _ _ _ 117 32 [.tmp 116] [] _ _ _ rfl Try.call32 rfl rfl rfl (ok_diary_Diary_Kept v114.2 _ hv117) (Nat.le_of_ble_eq_true rfl) rfl rfl rfl rfl rfl rfl rfl rfl),
                  st_run 14 115 true rfl rfl rfl (List.Mem.head _) (op_move _ _ _ _ rfl rfl),
                  st_run 14 115 true rfl rfl rfl (List.Mem.head _) (op_bin _ _ _ _ _ rfl rfl rfl),
                  st_plain rfl (op_pick _ _ true _ rfl rfl),
                  st_plain rfl (op_move _ _ _ _ (congrArg (fun b => AV.v (Value.bool b)) hg21_20) rfl),
                  st_run 20 121 true rfl rfl rfl (List.Mem.head _) (op_move _ _ _ _ rfl rfl),
                  st_run 20 121 true rfl rfl rfl (List.Mem.head _) (op_callP _ _ _ _ 123 17 [.tmp 122] [] _ _ _ rfl Try.call17 rfl rfl rfl (ok_diary_Diary_Sync v117.2 _ hv118) (Nat.le_of_ble_eq_true rfl) rfl rfl rfl rfl rfl rfl rfl rfl),
                  st_run 20 121 true rfl rfl rfl (List.Mem.head _) (op_bin _ _ _ _ _ rfl rfl rfl),
                  st_plain rfl (op_pick _ _ true _ rfl rfl),
                  st_plain rfl (op_move _ _ _ _ (congrArg (fun b => AV.v (Value.bool b)) hg21_25) rfl),
                  st_run 25 126 true rfl rfl rfl (List.Mem.head _) (LOp.drop [_] (LOp.drop [_] (LOp.drop [_] (op_move_take _ _ _ _ rfl)))),
                  st_run 25 126 true rfl rfl rfl (List.Mem.head _) (op_callP _ _ _ _ 128 32 [.tmp 127] [] _ _ _ rfl Try.call32 rfl rfl rfl (ok_diary_Diary_Kept v118.2 _ hv119) (Nat.le_of_ble_eq_true rfl) rfl rfl rfl rfl rfl rfl rfl rfl),
                  st_run 25 126 true rfl rfl rfl (List.Mem.head _) (op_bin _ _ _ _ _ rfl rfl rfl),
                  st_plain rfl (op_pick _ _ true _ rfl rfl),
                  st_plain rfl (op_move _ _ _ _ (congrArg (fun b => AV.v (Value.bool b)) hg21_30) rfl),
                  st_skip 30 131 _ true rfl rfl rfl rfl (List.Mem.head _),
                  st_plain rfl (op_pick _ _ false _ rfl rfl),
                  st_plain rfl (op_assign _ _ _ _ rfl rfl),
                  trivial⟩ ?_
                 exact hl123 _ (Option.some.inj h).symm
               ·refine ht_seqR hn (El := (_ :: _ :: _ :: _ :: _ :: (101, .v (.int .i64 v113.2.1)) :: (102, .v (.bool (v113.2.1 == 0))) :: (103, .v (.bool true)) :: (104, .ptr 7 0) :: (105, .v (.int .i64 v114.1)) :: (7, .box 64 [.v (.int .i64 v114.2.limit), .fr (.own 46) false 15 (List.flatten (List.map T_Rec.ienc v114.2.recs)), .v (.int .i64 v114.2.used), .v (.int .i64 v114.2.safe), .v (.int .i64 v114.2.kept), .v (.int .i64 v114.2.life), .v (.bool v114.2.off), .v (.int .i64 v114.2.trip), .v (.int .i64 v114.2.tripKeep)]) :: (106, .v (.bool (v114.1 == 1))) :: (107, .v (.bool (v114.1 == 1))) :: (108, .v (.bool true)) :: (109, .fr (.own 46) false 15 (List.flatten (List.map T_Rec.ienc v113.1))) :: (110, .fr .shr true 15 (List.flatten (List.map T_Rec.ienc l))) :: (111, .v (.int .i64 v112)) :: (112, .fr .shr true 15 (List.flatten (List.map T_Rec.ienc v115))) :: (113, .v (.bool v116)) :: (114, .v (.bool v116)) :: (115, .v (.bool true)) :: (116, .ptr 7 0) :: (117, .v (.int .i64 v117.1)) :: (7, .box 64 [.v (.int .i64 v117.2.limit), .fr (.own 46) false 15 (List.flatten (List.map T_Rec.ienc v117.2.recs)), .v (.int .i64 v117.2.used), .v (.int .i64 v117.2.safe), .v (.int .i64 v117.2.kept), .v (.int .i64 v117.2.life), .v (.bool v117.2.off), .v (.int .i64 v117.2.trip), .v (.int .i64 v117.2.tripKeep)]) :: (118, .v (.int .i64 v112)) :: (119, .v (.bool (v117.1 == v112))) :: (120, .v (.bool (v117.1 == v112))) :: (121, .v (.bool true)) :: (122, .ptr 7 0) :: (123, .v (.int .i64 v118.1)) :: (7, .box 64 [.v (.int .i64 v118.2.limit), .fr (.own 46) false 15 (List.flatten (List.map T_Rec.ienc v118.2.recs)), .v (.int .i64 v118.2.used), .v (.int .i64 v118.2.safe), .v (.int .i64 v118.2.kept), .v (.int .i64 v118.2.life), .v (.bool v118.2.off), .v (.int .i64 v118.2.trip), .v (.int .i64 v118.2.tripKeep)]) :: (124, .v (.bool (v118.1 == 0))) :: (125, .v (.bool (v118.1 == 0))) :: (126, .v (.bool false)) :: (127, .v undef) :: (128, .v undef) :: (129, .v undef) :: (130, .v (.bool false)) :: (131, .v (.bool false)) :: (132, .v undef) :: (133, .v (.bool false)) :: (6, .v (.bool false)) :: [])) (init := [0, 1, 2, 3, 4]) (fin := [41]) (sps := (⟨[4], [], [5], [(.slot 101)]⟩ :: ⟨[5], [], [6], [(.slot 102)]⟩ :: ⟨[6], [], [7], [(.slot 103)]⟩ :: ⟨[7, 1], [], [8], [(.slot 104)]⟩ :: ⟨[7, 8], [1], [10, 9], [(.slot 105), (.cell 7 0), (.cell 7 1), (.cell 7 2), (.cell 7 3), (.cell 7 4), (.cell 7 5), (.cell 7 6), (.cell 7 7), (.cell 7 8)]⟩ :: ⟨[7, 9], [], [11], [(.slot 106)]⟩ :: ⟨[7, 11], [], [12], [(.slot 107)]⟩ :: ⟨[12], [], [13], [(.slot 108)]⟩ :: ⟨[13], [3], [14], [(.slot 109)]⟩ :: ⟨[13, 0], [], [15], [(.slot 110)]⟩ :: ⟨[13, 2], [], [16], [(.slot 111)]⟩ :: ⟨[13, 15, 16], [], [17], [(.slot 112)]⟩ :: ⟨[13, 14, 17], [], [18], [(.slot 113)]⟩ :: ⟨[13, 18], [], [19], [(.slot 114)]⟩ :: ⟨[19], [], [20], [(.slot 115)]⟩ :: ⟨[20, 10], [], [21], [(.slot 116)]⟩ :: ⟨[20, 21], [10], [23, 22], [(.slot 117), (.cell 7 0), (.cell 7 1), (.cell 7 2), (.cell 7 3), (.cell 7 4), (.cell 7 5), (.cell 7 6), (.cell 7 7), (.cell 7 8)]⟩ :: ⟨[20, 2], [], [24], [(.slot 118)]⟩ :: ⟨[20, 22, 24], [], [25], [(.slot 119)]⟩ :: ⟨[20, 25], [], [26], [(.slot 120)]⟩ :: ⟨[26], [], [27], [(.slot 121)]⟩ :: ⟨[27, 23], [], [28], [(.slot 122)]⟩ :: ⟨[27, 28], [23], [30, 29], [(.slot 123), (.cell 7 0), (.cell 7 1), (.cell 7 2), (.cell 7 3), (.cell 7 4), (.cell 7 5), (.cell 7 6), (.cell 7 7), (.cell 7 8)]⟩ :: ⟨[27, 29], [], [31], [(.slot 124)]⟩ :: ⟨[27, 31], [], [32], [(.slot 125)]⟩ :: ⟨[32], [], [33], [(.slot 126)]⟩ :: ⟨[33], [], [34], [(.slot 127)]⟩ :: ⟨[33], [], [35], [(.slot 128)]⟩ :: ⟨[33], [], [36], [(.slot 129)]⟩ :: ⟨[33], [], [37], [(.slot 130)]⟩ :: ⟨[37], [], [38], [(.slot 131)]⟩ :: ⟨[38], [], [39], [(.slot 132)]⟩ :: ⟨[38], [], [40], [(.slot 133)]⟩ :: ⟨[40], [], [41], [(.slot 6)]⟩ :: [])) (es' := [(6, .v (.bool false))]) (by kernel_rfl) rfl rfl
                 ⟨st_plain rfl (op_move _ _ _ _ rfl rfl),
                 st_plain rfl (op_bin _ _ _ _ _ rfl rfl rfl),
                 st_plain rfl (op_move _ _ _ _ (congrArg (fun b => AV.v (Value.bool b)) hg21_2) rfl),
                 st_run 2 103 true rfl rfl rfl (List.Mem.head _) (op_move _ _ _ _ rfl rfl),
                 st_run 2 103 true rfl rfl rfl (List.Mem.head _) (op_callP _ _ _ _ 105 36 [.tmp 104] [] _ _ _ rfl Try.call36 rfl rfl rfl (ok_diary_Diary_Life v113.2.2 _ hv114) (Nat.le_of_ble_eq_true rfl) rfl rfl rfl rfl rfl rfl rfl rfl),
                 st_run 2 103 true rfl rfl rfl (List.Mem.head _) (op_bin _ _ _ _ _ rfl rfl rfl),
                 st_plain rfl (op_pick _ _ true _ rfl rfl),
                 st_plain rfl (op_move _ _ _ _ (congrArg (fun b => AV.v (Value.bool b)) hg21_7) rfl),
                 st_run 7 108 true rfl rfl rfl (List.Mem.head _) (op_move_take _ _ _ _ rfl),
                 st_run 7 108 true rfl rfl rfl (List.Mem.head _) (op_move _ _ _ _ rfl rfl),
                 st_run 7 108 true rfl rfl rfl (List.Mem.head _) (op_move _ _ _ _ rfl rfl),
                 st_run 7 108 true rfl rfl rfl (List.Mem.head _) (op_slice_fr _ _ (Int.toNat 0) (Int.toNat v112) _ Try.underlying31 sz46 (by decide) rfl rfl rfl ⟨_, congrArg (fun j => AV.v (Value.int .i64 j)) (sli_bd hv115).2.1⟩ (sli_bd hv115).2.2.1 (by rw [gflat_len T_Rec.ilen]; exact Nat.mul_le_mul_right _ (sli_bd hv115).2.2.2) (gflat_sli T_Rec.ilen hv115)),
                 st_run 7 108 true rfl rfl rfl (List.Mem.head _) (op_call _ _ 27 _ _ rfl Try.call27 rfl (ok_wherrykeep_Recs v113.1 v115 _ hv116) rfl rfl),
                 st_plain rfl (op_pick _ _ true _ rfl rfl),
                 st_plain rfl (op_move _ _ _ _ (congrArg (fun b => AV.v (Value.bool b)) hg21_14) rfl),
                 st_run 14 115 true rfl rfl rfl (List.Mem.head _) (op_move _ _ _ _ rfl rfl),
                 st_run 14 115 true rfl rfl rfl (List.Mem.head _) (op_callP _ _ _ _ 117 32 [.tmp 116] [] _ _ _ rfl Try.call32 rfl rfl rfl (ok_diary_Diary_Kept v114.2 _ hv117) (Nat.le_of_ble_eq_true rfl) rfl rfl rfl rfl rfl rfl rfl rfl),
                 st_run 14 115 true rfl rfl rfl (List.Mem.head _) (op_move _ _ _ _ rfl rfl),
                 st_run 14 115 true rfl rfl rfl (List.Mem.head _) (op_bin _ _ _ _ _ rfl rfl rfl),
                 st_plain rfl (op_pick _ _ true _ rfl rfl),
                 st_plain rfl (op_move _ _ _ _ (congrArg (fun b => AV.v (Value.bool b)) hg21_20) rfl),
                 st_run 20 121 true rfl rfl rfl (List.Mem.head _) (op_move _ _ _ _ rfl rfl),
                 st_run 20 121 true rfl rfl rfl (List.Mem.head _) (op_callP _ _ _ _ 123 17 [.tmp 122] [] _ _ _ rfl Try.call17 rfl rfl rfl (ok_diary_Diary_Sync v117.2 _ hv118) (Nat.le_of_ble_eq_true rfl) rfl rfl rfl rfl rfl rfl rfl rfl),
                 st_run 20 121 true rfl rfl rfl (List.Mem.head _) (op_bin _ _ _ _ _ rfl rfl rfl),
                 st_plain rfl (op_pick _ _ true _ rfl rfl),
                 st_plain rfl (op_move _ _ _ _ (congrArg (fun b => AV.v (Value.bool b)) hg21_25) rfl),
                 st_skip 25 126 _ true rfl rfl rfl rfl (List.Mem.head _),
                 st_skip 25 126 _ true rfl rfl rfl rfl (List.Mem.head _),
                 st_skip 25 126 _ true rfl rfl rfl rfl (List.Mem.head _),
                 st_plain rfl (op_pick _ _ false _ rfl rfl),
                 st_plain rfl (op_move _ _ _ _ rfl rfl),
                 st_skip 30 131 _ true rfl rfl rfl rfl (List.Mem.head _),
                 st_plain rfl (op_pick _ _ false _ rfl rfl),
                 st_plain rfl (op_assign _ _ _ _ rfl rfl),
                 trivial⟩ ?_
                exact hl123 _ (Option.some.inj h).symm
              ·refine ht_seqR hn (El := (_ :: _ :: _ :: _ :: _ :: (101, .v (.int .i64 v113.2.1)) :: (102, .v (.bool (v113.2.1 == 0))) :: (103, .v (.bool true)) :: (104, .ptr 7 0) :: (105, .v (.int .i64 v114.1)) :: (7, .box 64 [.v (.int .i64 v114.2.limit), .fr (.own 46) false 15 (List.flatten (List.map T_Rec.ienc v114.2.recs)), .v (.int .i64 v114.2.used), .v (.int .i64 v114.2.safe), .v (.int .i64 v114.2.kept), .v (.int .i64 v114.2.life), .v (.bool v114.2.off), .v (.int .i64 v114.2.trip), .v (.int .i64 v114.2.tripKeep)]) :: (106, .v (.bool (v114.1 == 1))) :: (107, .v (.bool (v114.1 == 1))) :: (108, .v (.bool true)) :: (109, .fr (.own 46) false 15 (List.flatten (List.map T_Rec.ienc v113.1))) :: (110, .fr .shr true 15 (List.flatten (List.map T_Rec.ienc l))) :: (111, .v (.int .i64 v112)) :: (112, .fr .shr true 15 (List.flatten (List.map T_Rec.ienc v115))) :: (113, .v (.bool v116)) :: (114, .v (.bool v116)) :: (115, .v (.bool true)) :: (116, .ptr 7 0) :: (117, .v (.int .i64 v117.1)) :: (7, .box 64 [.v (.int .i64 v117.2.limit), .fr (.own 46) false 15 (List.flatten (List.map T_Rec.ienc v117.2.recs)), .v (.int .i64 v117.2.used), .v (.int .i64 v117.2.safe), .v (.int .i64 v117.2.kept), .v (.int .i64 v117.2.life), .v (.bool v117.2.off), .v (.int .i64 v117.2.trip), .v (.int .i64 v117.2.tripKeep)]) :: (118, .v (.int .i64 v112)) :: (119, .v (.bool (v117.1 == v112))) :: (120, .v (.bool (v117.1 == v112))) :: (121, .v (.bool false)) :: (122, .v undef) :: (123, .v undef) :: (124, .v undef) :: (125, .v (.bool false)) :: (126, .v (.bool false)) :: (127, .v undef) :: (128, .v undef) :: (129, .v undef) :: (130, .v (.bool false)) :: (131, .v (.bool false)) :: (132, .v undef) :: (133, .v (.bool false)) :: (6, .v (.bool false)) :: [])) (init := [0, 1, 2, 3, 4]) (fin := [40]) (sps := (⟨[4], [], [5], [(.slot 101)]⟩ :: ⟨[5], [], [6], [(.slot 102)]⟩ :: ⟨[6], [], [7], [(.slot 103)]⟩ :: ⟨[7, 1], [], [8], [(.slot 104)]⟩ :: ⟨[7, 8], [1], [10, 9], [(.slot 105), (.cell 7 0), (.cell 7 1), (.cell 7 2), (.cell 7 3), (.cell 7 4), (.cell 7 5), (.cell 7 6), (.cell 7 7), (.cell 7 8)]⟩ :: ⟨[7, 9], [], [11], [(.slot 106)]⟩ :: ⟨[7, 11], [], [12], [(.slot 107)]⟩ :: ⟨[12], [], [13], [(.slot 108)]⟩ :: ⟨[13], [3], [14], [(.slot 109)]⟩ :: ⟨[13, 0], [], [15], [(.slot 110)]⟩ :: ⟨[13, 2], [], [16], [(.slot 111)]⟩ :: ⟨[13, 15, 16], [], [17], [(.slot 112)]⟩ :: ⟨[13, 14, 17], [], [18], [(.slot 113)]⟩ :: ⟨[13, 18], [], [19], [(.slot 114)]⟩ :: ⟨[19], [], [20], [(.slot 115)]⟩ :: ⟨[20, 10], [], [21], [(.slot 116)]⟩ :: ⟨[20, 21], [10], [23, 22], [(.slot 117), (.cell 7 0), (.cell 7 1), (.cell 7 2), (.cell 7 3), (.cell 7 4), (.cell 7 5), (.cell 7 6), (.cell 7 7), (.cell 7 8)]⟩ :: ⟨[20, 2], [], [24], [(.slot 118)]⟩ :: ⟨[20, 22, 24], [], [25], [(.slot 119)]⟩ :: ⟨[20, 25], [], [26], [(.slot 120)]⟩ :: ⟨[26], [], [27], [(.slot 121)]⟩ :: ⟨[27], [], [28], [(.slot 122)]⟩ :: ⟨[27], [], [29], [(.slot 123)]⟩ :: ⟨[27], [], [30], [(.slot 124)]⟩ :: ⟨[27], [], [31], [(.slot 125)]⟩ :: ⟨[31], [], [32], [(.slot 126)]⟩ :: ⟨[32], [], [33], [(.slot 127)]⟩ :: ⟨[32], [], [34], [(.slot 128)]⟩ :: ⟨[32], [], [35], [(.slot 129)]⟩ :: ⟨[32], [], [36], [(.slot 130)]⟩ :: ⟨[36], [], [37], [(.slot 131)]⟩ :: ⟨[37], [], [38], [(.slot 132)]⟩ :: ⟨[37], [], [39], [(.slot 133)]⟩ :: ⟨[39], [], [40], [(.slot 6)]⟩ :: [])) (es' := [(6, .v (.bool false))]) (by kernel_rfl) rfl rfl
                ⟨st_plain rfl (op_move _ _ _ _ rfl rfl),
                st_plain rfl (op_bin _ _ _ _ _ rfl rfl rfl),
                st_plain rfl (op_move _ _ _ _ (congrArg (fun b => AV.v (Value.bool b)) hg21_2) rfl),
                st_run 2 103 true rfl rfl rfl (List.Mem.head _) (op_move _ _ _ _ rfl rfl),
                st_run 2 103 true rfl rfl rfl (List.Mem.head _) (op_callP _ _ _ _ 105 36 [.tmp 104] [] _ _ _ rfl Try.call36 rfl rfl rfl (ok_diary_Diary_Life v113.2.2 _ hv114) (Nat.le_of_ble_eq_true rfl) rfl rfl rfl rfl rfl rfl rfl rfl),
                st_run 2 103 true rfl rfl rfl (List.Mem.head _) (op_bin _ _ _ _ _ rfl rfl rfl),
                st_plain rfl (op_pick _ _ true _ rfl rfl),
                st_plain rfl (op_move _ _ _ _ (congrArg (fun b => AV.v (Value.bool b)) hg21_7) rfl),
                st_run 7 108 true rfl rfl rfl (List.Mem.head _) (op_move_take _ _ _ _ rfl),
                st_run 7 108 true rfl rfl rfl (List.Mem.head _) (op_move _ _ _ _ rfl rfl),
                st_run 7 108 true rfl rfl rfl (List.Mem.head _) (op_move _ _ _ _ rfl rfl),
                st_run 7 108 true rfl rfl rfl (List.Mem.head _) (op_slice_fr _ _ (Int.toNat 0) (Int.toNat v112) _ Try.underlying31 sz46 (by decide) rfl rfl rfl ⟨_, congrArg (fun j => AV.v (Value.int .i64 j)) (sli_bd hv115).2.1⟩ (sli_bd hv115).2.2.1 (by rw [gflat_len T_Rec.ilen]; exact Nat.mul_le_mul_right _ (sli_bd hv115).2.2.2) (gflat_sli T_Rec.ilen hv115)),
                st_run 7 108 true rfl rfl rfl (List.Mem.head _) (op_call _ _ 27 _ _ rfl Try.call27 rfl (ok_wherrykeep_Recs v113.1 v115 _ hv116) rfl rfl),
                st_plain rfl (op_pick _ _ true _ rfl rfl),
                st_plain rfl (op_move _ _ _ _ (congrArg (fun b => AV.v (Value.bool b)) hg21_14) rfl),
                st_run 14 115 true rfl rfl rfl (List.Mem.head _) (op_move _ _ _ _ rfl rfl),
                st_run 14 115 true rfl rfl rfl (List.Mem.head _) (op_callP _ _ _ _ 117 32 [.tmp 116] [] _ _ _ rfl Try.call32 rfl rfl rfl (ok_diary_Diary_Kept v114.2 _ hv117) (Nat.le_of_ble_eq_true rfl) rfl rfl rfl rfl rfl rfl rfl rfl),
                st_run 14 115 true rfl rfl rfl (List.Mem.head _) (op_move _ _ _ _ rfl rfl),
                st_run 14 115 true rfl rfl rfl (List.Mem.head _) (op_bin _ _ _ _ _ rfl rfl rfl),
                st_plain rfl (op_pick _ _ true _ rfl rfl),
                st_plain rfl (op_move _ _ _ _ (congrArg (fun b => AV.v (Value.bool b)) hg21_20) rfl),
                st_skip 20 121 _ true rfl rfl rfl rfl (List.Mem.head _),
                st_skip 20 121 _ true rfl rfl rfl rfl (List.Mem.head _),
                st_skip 20 121 _ true rfl rfl rfl rfl (List.Mem.head _),
                st_plain rfl (op_pick _ _ false _ rfl rfl),
                st_plain rfl (op_move _ _ _ _ rfl rfl),
                st_skip 25 126 _ true rfl rfl rfl rfl (List.Mem.head _),
                st_skip 25 126 _ true rfl rfl rfl rfl (List.Mem.head _),
                st_skip 25 126 _ true rfl rfl rfl rfl (List.Mem.head _),
                st_plain rfl (op_pick _ _ false _ rfl rfl),
                st_plain rfl (op_move _ _ _ _ rfl rfl),
                st_skip 30 131 _ true rfl rfl rfl rfl (List.Mem.head _),
                st_plain rfl (op_pick _ _ false _ rfl rfl),
                st_plain rfl (op_assign _ _ _ _ rfl rfl),
                trivial⟩ ?_
               exact hl123 _ (Option.some.inj h).symm
             ·refine ht_seqR hn (El := (_ :: _ :: _ :: _ :: _ :: (101, .v (.int .i64 v113.2.1)) :: (102, .v (.bool (v113.2.1 == 0))) :: (103, .v (.bool true)) :: (104, .ptr 7 0) :: (105, .v (.int .i64 v114.1)) :: (7, .box 64 [.v (.int .i64 v114.2.limit), .fr (.own 46) false 15 (List.flatten (List.map T_Rec.ienc v114.2.recs)), .v (.int .i64 v114.2.used), .v (.int .i64 v114.2.safe), .v (.int .i64 v114.2.kept), .v (.int .i64 v114.2.life), .v (.bool v114.2.off), .v (.int .i64 v114.2.trip), .v (.int .i64 v114.2.tripKeep)]) :: (106, .v (.bool (v114.1 == 1))) :: (107, .v (.bool (v114.1 == 1))) :: (108, .v (.bool true)) :: (109, .fr (.own 46) false 15 (List.flatten (List.map T_Rec.ienc v113.1))) :: (110, .fr .shr true 15 (List.flatten (List.map T_Rec.ienc l))) :: (111, .v (.int .i64 v112)) :: (112, .fr .shr true 15 (List.flatten (List.map T_Rec.ienc v115))) :: (113, .v (.bool v116)) :: (114, .v (.bool v116)) :: (115, .v (.bool false)) :: (116, .v undef) :: (117, .v undef) :: (118, .v undef) :: (119, .v undef) :: (120, .v (.bool false)) :: (121, .v (.bool false)) :: (122, .v undef) :: (123, .v undef) :: (124, .v undef) :: (125, .v (.bool false)) :: (126, .v (.bool false)) :: (127, .v undef) :: (128, .v undef) :: (129, .v undef) :: (130, .v (.bool false)) :: (131, .v (.bool false)) :: (132, .v undef) :: (133, .v (.bool false)) :: (6, .v (.bool false)) :: [])) (init := [0, 1, 2, 3, 4]) (fin := [39]) (sps := (⟨[4], [], [5], [(.slot 101)]⟩ :: ⟨[5], [], [6], [(.slot 102)]⟩ :: ⟨[6], [], [7], [(.slot 103)]⟩ :: ⟨[7, 1], [], [8], [(.slot 104)]⟩ :: ⟨[7, 8], [1], [10, 9], [(.slot 105), (.cell 7 0), (.cell 7 1), (.cell 7 2), (.cell 7 3), (.cell 7 4), (.cell 7 5), (.cell 7 6), (.cell 7 7), (.cell 7 8)]⟩ :: ⟨[7, 9], [], [11], [(.slot 106)]⟩ :: ⟨[7, 11], [], [12], [(.slot 107)]⟩ :: ⟨[12], [], [13], [(.slot 108)]⟩ :: ⟨[13], [3], [14], [(.slot 109)]⟩ :: ⟨[13, 0], [], [15], [(.slot 110)]⟩ :: ⟨[13, 2], [], [16], [(.slot 111)]⟩ :: ⟨[13, 15, 16], [], [17], [(.slot 112)]⟩ :: ⟨[13, 14, 17], [], [18], [(.slot 113)]⟩ :: ⟨[13, 18], [], [19], [(.slot 114)]⟩ :: ⟨[19], [], [20], [(.slot 115)]⟩ :: ⟨[20], [], [21], [(.slot 116)]⟩ :: ⟨[20], [], [22], [(.slot 117)]⟩ :: ⟨[20], [], [23], [(.slot 118)]⟩ :: ⟨[20], [], [24], [(.slot 119)]⟩ :: ⟨[20], [], [25], [(.slot 120)]⟩ :: ⟨[25], [], [26], [(.slot 121)]⟩ :: ⟨[26], [], [27], [(.slot 122)]⟩ :: ⟨[26], [], [28], [(.slot 123)]⟩ :: ⟨[26], [], [29], [(.slot 124)]⟩ :: ⟨[26], [], [30], [(.slot 125)]⟩ :: ⟨[30], [], [31], [(.slot 126)]⟩ :: ⟨[31], [], [32], [(.slot 127)]⟩ :: ⟨[31], [], [33], [(.slot 128)]⟩ :: ⟨[31], [], [34], [(.slot 129)]⟩ :: ⟨[31], [], [35], [(.slot 130)]⟩ :: ⟨[35], [], [36], [(.slot 131)]⟩ :: ⟨[36], [], [37], [(.slot 132)]⟩ :: ⟨[36], [], [38], [(.slot 133)]⟩ :: ⟨[38], [], [39], [(.slot 6)]⟩ :: [])) (es' := [(6, .v (.bool false))]) (by kernel_rfl) rfl rfl
               ⟨st_plain rfl (op_move _ _ _ _ rfl rfl),
               st_plain rfl (op_bin _ _ _ _ _ rfl rfl rfl),
               st_plain rfl (op_move _ _ _ _ (congrArg (fun b => AV.v (Value.bool b)) hg21_2) rfl),
               st_run 2 103 true rfl rfl rfl (List.Mem.head _) (op_move _ _ _ _ rfl rfl),
               st_run 2 103 true rfl rfl rfl (List.Mem.head _) (op_callP _ _ _ _ 105 36 [.tmp 104] [] _ _ _ rfl Try.call36 rfl rfl rfl (ok_diary_Diary_Life v113.2.2 _ hv114) (Nat.le_of_ble_eq_true rfl) rfl rfl rfl rfl rfl rfl rfl rfl),
               st_run 2 103 true rfl rfl rfl (List.Mem.head _) (op_bin _ _ _ _ _ rfl rfl rfl),
               st_plain rfl (op_pick _ _ true _ rfl rfl),
               st_plain rfl (op_move _ _ _ _ (congrArg (fun b => AV.v (Value.bool b)) hg21_7) rfl),
               st_run 7 108 true rfl rfl rfl (List.Mem.head _) (op_move_take _ _ _ _ rfl),
               st_run 7 108 true rfl rfl rfl (List.Mem.head _) (op_move _ _ _ _ rfl rfl),
               st_run 7 108 true rfl rfl rfl (List.Mem.head _) (op_move _ _ _ _ rfl rfl),
               st_run 7 108 true rfl rfl rfl (List.Mem.head _) (op_slice_fr _ _ (Int.toNat 0) (Int.toNat v112) _ Try.underlying31 sz46 (by decide) rfl rfl rfl ⟨_, congrArg (fun j => AV.v (Value.int .i64 j)) (sli_bd hv115).2.1⟩ (sli_bd hv115).2.2.1 (by rw [gflat_len T_Rec.ilen]; exact Nat.mul_le_mul_right _ (sli_bd hv115).2.2.2) (gflat_sli T_Rec.ilen hv115)),
               st_run 7 108 true rfl rfl rfl (List.Mem.head _) (op_call _ _ 27 _ _ rfl Try.call27 rfl (ok_wherrykeep_Recs v113.1 v115 _ hv116) rfl rfl),
               st_plain rfl (op_pick _ _ true _ rfl rfl),
               st_plain rfl (op_move _ _ _ _ (congrArg (fun b => AV.v (Value.bool b)) hg21_14) rfl),
               st_skip 14 115 _ true rfl rfl rfl rfl (List.Mem.head _),
               st_skip 14 115 _ true rfl rfl rfl rfl (List.Mem.head _),
               st_skip 14 115 _ true rfl rfl rfl rfl (List.Mem.head _),
               st_skip 14 115 _ true rfl rfl rfl rfl (List.Mem.head _),
               st_plain rfl (op_pick _ _ false _ rfl rfl),
               st_plain rfl (op_move _ _ _ _ rfl rfl),
               st_skip 20 121 _ true rfl rfl rfl rfl (List.Mem.head _),
               st_skip 20 121 _ true rfl rfl rfl rfl (List.Mem.head _),
               st_skip 20 121 _ true rfl rfl rfl rfl (List.Mem.head _),
               st_plain rfl (op_pick _ _ false _ rfl rfl),
               st_plain rfl (op_move _ _ _ _ rfl rfl),
               st_skip 25 126 _ true rfl rfl rfl rfl (List.Mem.head _),
               st_skip 25 126 _ true rfl rfl rfl rfl (List.Mem.head _),
               st_skip 25 126 _ true rfl rfl rfl rfl (List.Mem.head _),
               st_plain rfl (op_pick _ _ false _ rfl rfl),
               st_plain rfl (op_move _ _ _ _ rfl rfl),
               st_skip 30 131 _ true rfl rfl rfl rfl (List.Mem.head _),
               st_plain rfl (op_pick _ _ false _ rfl rfl),
               st_plain rfl (op_assign _ _ _ _ rfl rfl),
               trivial⟩ ?_
              exact hl123 _ (Option.some.inj h).symm
            ·refine ht_seqR hn (El := (_ :: _ :: _ :: _ :: _ :: (101, .v (.int .i64 v113.2.1)) :: (102, .v (.bool (v113.2.1 == 0))) :: (103, .v (.bool true)) :: (104, .ptr 7 0) :: (105, .v (.int .i64 v114.1)) :: (7, .box 64 [.v (.int .i64 v114.2.limit), .fr (.own 46) false 15 (List.flatten (List.map T_Rec.ienc v114.2.recs)), .v (.int .i64 v114.2.used), .v (.int .i64 v114.2.safe), .v (.int .i64 v114.2.kept), .v (.int .i64 v114.2.life), .v (.bool v114.2.off), .v (.int .i64 v114.2.trip), .v (.int .i64 v114.2.tripKeep)]) :: (106, .v (.bool (v114.1 == 1))) :: (107, .v (.bool (v114.1 == 1))) :: (108, .v (.bool false)) :: (109, .v undef) :: (110, .v undef) :: (111, .v undef) :: (112, .v undef) :: (113, .v undef) :: (114, .v (.bool false)) :: (115, .v (.bool false)) :: (116, .v undef) :: (117, .v undef) :: (118, .v undef) :: (119, .v undef) :: (120, .v (.bool false)) :: (121, .v (.bool false)) :: (122, .v undef) :: (123, .v undef) :: (124, .v undef) :: (125, .v (.bool false)) :: (126, .v (.bool false)) :: (127, .v undef) :: (128, .v undef) :: (129, .v undef) :: (130, .v (.bool false)) :: (131, .v (.bool false)) :: (132, .v undef) :: (133, .v (.bool false)) :: (6, .v (.bool false)) :: [])) (init := [0, 1, 2, 3, 4]) (fin := [39]) (sps := (⟨[4], [], [5], [(.slot 101)]⟩ :: ⟨[5], [], [6], [(.slot 102)]⟩ :: ⟨[6], [], [7], [(.slot 103)]⟩ :: ⟨[7, 1], [], [8], [(.slot 104)]⟩ :: ⟨[7, 8], [1], [10, 9], [(.slot 105), (.cell 7 0), (.cell 7 1), (.cell 7 2), (.cell 7 3), (.cell 7 4), (.cell 7 5), (.cell 7 6), (.cell 7 7), (.cell 7 8)]⟩ :: ⟨[7, 9], [], [11], [(.slot 106)]⟩ :: ⟨[7, 11], [], [12], [(.slot 107)]⟩ :: ⟨[12], [], [13], [(.slot 108)]⟩ :: ⟨[13], [], [14], [(.slot 109)]⟩ :: ⟨[13], [], [15], [(.slot 110)]⟩ :: ⟨[13], [], [16], [(.slot 111)]⟩ :: ⟨[13], [], [17], [(.slot 112)]⟩ :: ⟨[13], [], [18], [(.slot 113)]⟩ :: ⟨[13], [], [19], [(.slot 114)]⟩ :: ⟨[19], [], [20], [(.slot 115)]⟩ :: ⟨[20], [], [21], [(.slot 116)]⟩ :: ⟨[20], [], [22], [(.slot 117)]⟩ :: ⟨[20], [], [23], [(.slot 118)]⟩ :: ⟨[20], [], [24], [(.slot 119)]⟩ :: ⟨[20], [], [25], [(.slot 120)]⟩ :: ⟨[25], [], [26], [(.slot 121)]⟩ :: ⟨[26], [], [27], [(.slot 122)]⟩ :: ⟨[26], [], [28], [(.slot 123)]⟩ :: ⟨[26], [], [29], [(.slot 124)]⟩ :: ⟨[26], [], [30], [(.slot 125)]⟩ :: ⟨[30], [], [31], [(.slot 126)]⟩ :: ⟨[31], [], [32], [(.slot 127)]⟩ :: ⟨[31], [], [33], [(.slot 128)]⟩ :: ⟨[31], [], [34], [(.slot 129)]⟩ :: ⟨[31], [], [35], [(.slot 130)]⟩ :: ⟨[35], [], [36], [(.slot 131)]⟩ :: ⟨[36], [], [37], [(.slot 132)]⟩ :: ⟨[36], [], [38], [(.slot 133)]⟩ :: ⟨[38], [], [39], [(.slot 6)]⟩ :: [])) (es' := [(6, .v (.bool false))]) (by kernel_rfl) rfl rfl
              ⟨st_plain rfl (op_move _ _ _ _ rfl rfl),
              st_plain rfl (op_bin _ _ _ _ _ rfl rfl rfl),
              st_plain rfl (op_move _ _ _ _ (congrArg (fun b => AV.v (Value.bool b)) hg21_2) rfl),
              st_run 2 103 true rfl rfl rfl (List.Mem.head _) (op_move _ _ _ _ rfl rfl),
              st_run 2 103 true rfl rfl rfl (List.Mem.head _) (op_callP _ _ _ _ 105 36 [.tmp 104] [] _ _ _ rfl Try.call36 rfl rfl rfl (ok_diary_Diary_Life v113.2.2 _ hv114) (Nat.le_of_ble_eq_true rfl) rfl rfl rfl rfl rfl rfl rfl rfl),
              st_run 2 103 true rfl rfl rfl (List.Mem.head _) (op_bin _ _ _ _ _ rfl rfl rfl),
              st_plain rfl (op_pick _ _ true _ rfl rfl),
              st_plain rfl (op_move _ _ _ _ (congrArg (fun b => AV.v (Value.bool b)) hg21_7) rfl),
              st_skip 7 108 _ true rfl rfl rfl rfl (List.Mem.head _),
              st_skip 7 108 _ true rfl rfl rfl rfl (List.Mem.head _),
              st_skip 7 108 _ true rfl rfl rfl rfl (List.Mem.head _),
              st_skip 7 108 _ true rfl rfl rfl rfl (List.Mem.head _),
              st_skip 7 108 _ true rfl rfl rfl rfl (List.Mem.head _),
              st_plain rfl (op_pick _ _ false _ rfl rfl),
              st_plain rfl (op_move _ _ _ _ rfl rfl),
              st_skip 14 115 _ true rfl rfl rfl rfl (List.Mem.head _),
              st_skip 14 115 _ true rfl rfl rfl rfl (List.Mem.head _),
              st_skip 14 115 _ true rfl rfl rfl rfl (List.Mem.head _),
              st_skip 14 115 _ true rfl rfl rfl rfl (List.Mem.head _),
              st_plain rfl (op_pick _ _ false _ rfl rfl),
              st_plain rfl (op_move _ _ _ _ rfl rfl),
              st_skip 20 121 _ true rfl rfl rfl rfl (List.Mem.head _),
              st_skip 20 121 _ true rfl rfl rfl rfl (List.Mem.head _),
              st_skip 20 121 _ true rfl rfl rfl rfl (List.Mem.head _),
              st_plain rfl (op_pick _ _ false _ rfl rfl),
              st_plain rfl (op_move _ _ _ _ rfl rfl),
              st_skip 25 126 _ true rfl rfl rfl rfl (List.Mem.head _),
              st_skip 25 126 _ true rfl rfl rfl rfl (List.Mem.head _),
              st_skip 25 126 _ true rfl rfl rfl rfl (List.Mem.head _),
              st_plain rfl (op_pick _ _ false _ rfl rfl),
              st_plain rfl (op_move _ _ _ _ rfl rfl),
              st_skip 30 131 _ true rfl rfl rfl rfl (List.Mem.head _),
              st_plain rfl (op_pick _ _ false _ rfl rfl),
              st_plain rfl (op_assign _ _ _ _ rfl rfl),
              trivial⟩ ?_
             exact hl123 _ (Option.some.inj h).symm
           ·refine ht_seqR hn (El := (_ :: _ :: _ :: _ :: _ :: (101, .v (.int .i64 v113.2.1)) :: (102, .v (.bool (v113.2.1 == 0))) :: (103, .v (.bool false)) :: (104, .v undef) :: (105, .v undef) :: (106, .v undef) :: (107, .v (.bool false)) :: (108, .v (.bool false)) :: (109, .v undef) :: (110, .v undef) :: (111, .v undef) :: (112, .v undef) :: (113, .v undef) :: (114, .v (.bool false)) :: (115, .v (.bool false)) :: (116, .v undef) :: (117, .v undef) :: (118, .v undef) :: (119, .v undef) :: (120, .v (.bool false)) :: (121, .v (.bool false)) :: (122, .v undef) :: (123, .v undef) :: (124, .v undef) :: (125, .v (.bool false)) :: (126, .v (.bool false)) :: (127, .v undef) :: (128, .v undef) :: (129, .v undef) :: (130, .v (.bool false)) :: (131, .v (.bool false)) :: (132, .v undef) :: (133, .v (.bool false)) :: (6, .v (.bool false)) :: [])) (init := [0, 1, 2, 3, 4]) (fin := [38]) (sps := (⟨[4], [], [5], [(.slot 101)]⟩ :: ⟨[5], [], [6], [(.slot 102)]⟩ :: ⟨[6], [], [7], [(.slot 103)]⟩ :: ⟨[7], [], [8], [(.slot 104)]⟩ :: ⟨[7], [], [9], [(.slot 105)]⟩ :: ⟨[7], [], [10], [(.slot 106)]⟩ :: ⟨[7], [], [11], [(.slot 107)]⟩ :: ⟨[11], [], [12], [(.slot 108)]⟩ :: ⟨[12], [], [13], [(.slot 109)]⟩ :: ⟨[12], [], [14], [(.slot 110)]⟩ :: ⟨[12], [], [15], [(.slot 111)]⟩ :: ⟨[12], [], [16], [(.slot 112)]⟩ :: ⟨[12], [], [17], [(.slot 113)]⟩ :: ⟨[12], [], [18], [(.slot 114)]⟩ :: ⟨[18], [], [19], [(.slot 115)]⟩ :: ⟨[19], [], [20], [(.slot 116)]⟩ :: ⟨[19], [], [21], [(.slot 117)]⟩ :: ⟨[19], [], [22], [(.slot 118)]⟩ :: ⟨[19], [], [23], [(.slot 119)]⟩ :: ⟨[19], [], [24], [(.slot 120)]⟩ :: ⟨[24], [], [25], [(.slot 121)]⟩ :: ⟨[25], [], [26], [(.slot 122)]⟩ :: ⟨[25], [], [27], [(.slot 123)]⟩ :: ⟨[25], [], [28], [(.slot 124)]⟩ :: ⟨[25], [], [29], [(.slot 125)]⟩ :: ⟨[29], [], [30], [(.slot 126)]⟩ :: ⟨[30], [], [31], [(.slot 127)]⟩ :: ⟨[30], [], [32], [(.slot 128)]⟩ :: ⟨[30], [], [33], [(.slot 129)]⟩ :: ⟨[30], [], [34], [(.slot 130)]⟩ :: ⟨[34], [], [35], [(.slot 131)]⟩ :: ⟨[35], [], [36], [(.slot 132)]⟩ :: ⟨[35], [], [37], [(.slot 133)]⟩ :: ⟨[37], [], [38], [(.slot 6)]⟩ :: [])) (es' := [(6, .v (.bool false))]) (by kernel_rfl) rfl rfl
             ⟨st_plain rfl (op_move _ _ _ _ rfl rfl),
             st_plain rfl (op_bin _ _ _ _ _ rfl rfl rfl),
             st_plain rfl (op_move _ _ _ _ (congrArg (fun b => AV.v (Value.bool b)) hg21_2) rfl),
             st_skip 2 103 _ true rfl rfl rfl rfl (List.Mem.head _),
             st_skip 2 103 _ true rfl rfl rfl rfl (List.Mem.head _),
             st_skip 2 103 _ true rfl rfl rfl rfl (List.Mem.head _),
             st_plain rfl (op_pick _ _ false _ rfl rfl),
             st_plain rfl (op_move _ _ _ _ rfl rfl),
             st_skip 7 108 _ true rfl rfl rfl rfl (List.Mem.head _),
             st_skip 7 108 _ true rfl rfl rfl rfl (List.Mem.head _),
             st_skip 7 108 _ true rfl rfl rfl rfl (List.Mem.head _),
             st_skip 7 108 _ true rfl rfl rfl rfl (List.Mem.head _),
             st_skip 7 108 _ true rfl rfl rfl rfl (List.Mem.head _),
             st_plain rfl (op_pick _ _ false _ rfl rfl),
             st_plain rfl (op_move _ _ _ _ rfl rfl),
             st_skip 14 115 _ true rfl rfl rfl rfl (List.Mem.head _),
             st_skip 14 115 _ true rfl rfl rfl rfl (List.Mem.head _),
             st_skip 14 115 _ true rfl rfl rfl rfl (List.Mem.head _),
             st_skip 14 115 _ true rfl rfl rfl rfl (List.Mem.head _),
             st_plain rfl (op_pick _ _ false _ rfl rfl),
             st_plain rfl (op_move _ _ _ _ rfl rfl),
             st_skip 20 121 _ true rfl rfl rfl rfl (List.Mem.head _),
             st_skip 20 121 _ true rfl rfl rfl rfl (List.Mem.head _),
             st_skip 20 121 _ true rfl rfl rfl rfl (List.Mem.head _),
             st_plain rfl (op_pick _ _ false _ rfl rfl),
             st_plain rfl (op_move _ _ _ _ rfl rfl),
             st_skip 25 126 _ true rfl rfl rfl rfl (List.Mem.head _),
             st_skip 25 126 _ true rfl rfl rfl rfl (List.Mem.head _),
             st_skip 25 126 _ true rfl rfl rfl rfl (List.Mem.head _),
             st_plain rfl (op_pick _ _ false _ rfl rfl),
             st_plain rfl (op_move _ _ _ _ rfl rfl),
             st_skip 30 131 _ true rfl rfl rfl rfl (List.Mem.head _),
             st_plain rfl (op_pick _ _ false _ rfl rfl),
             st_plain rfl (op_assign _ _ _ _ rfl rfl),
             trivial⟩ ?_
            exact hl123 _ (Option.some.inj h).symm
        ·intro u105 h hl106 hr107
         obtain ⟨v93, hv93, h⟩ := bind_some h
         refine cond_some h (fun hg16_5 h => ?_) (fun hg16_5 h => ?_)
         ·obtain ⟨v94, hv94, h⟩ := bind_some h
          refine ht_seqR hn (El := (_ :: _ :: _ :: _ :: (77, .v (.int .i64 v20)) :: (78, .fr .shr true 15 (List.flatten (List.map T_Rec.ienc l))) :: (79, .v (.int .i64 (l.length : Int))) :: (80, .v (.int .i64 v93)) :: (81, .v (.bool (v20 == v93))) :: (82, .v (.bool true)) :: (83, .ptr 7 0) :: (84, .v (.int .i64 v94.1)) :: (7, .box 64 [.v (.int .i64 v94.2.limit), .fr (.own 46) false 15 (List.flatten (List.map T_Rec.ienc v94.2.recs)), .v (.int .i64 v94.2.used), .v (.int .i64 v94.2.safe), .v (.int .i64 v94.2.kept), .v (.int .i64 v94.2.life), .v (.bool v94.2.off), .v (.int .i64 v94.2.trip), .v (.int .i64 v94.2.tripKeep)]) :: (85, .v (.bool (v94.1 != 7))) :: (86, .v (.bool (v94.1 != 7))) :: [])) (init := [0, 1, 2, 3]) (fin := [0, 1, 12, 3, 14]) (sps := [⟨[3], [], [4], [(.slot 77)]⟩, ⟨[0], [], [5], [(.slot 78)]⟩, ⟨[5], [], [6], [(.slot 79)]⟩, ⟨[6], [], [7], [(.slot 80)]⟩, ⟨[4, 7], [], [8], [(.slot 81)]⟩, ⟨[8], [], [9], [(.slot 82)]⟩, ⟨[9, 2], [], [10], [(.slot 83)]⟩, ⟨[9, 10], [2], [12, 11], [(.slot 84), (.cell 7 0), (.cell 7 1), (.cell 7 2), (.cell 7 3), (.cell 7 4), (.cell 7 5), (.cell 7 6), (.cell 7 7), (.cell 7 8)]⟩, ⟨[9, 11], [], [13], [(.slot 85)]⟩, ⟨[9, 13], [], [14], [(.slot 86)]⟩]) (es' := [(_, _), (_, _), (7, .box 64 [.v (.int .i64 v94.2.limit), .fr (.own 46) false 15 (List.flatten (List.map T_Rec.ienc v94.2.recs)), .v (.int .i64 v94.2.used), .v (.int .i64 v94.2.safe), .v (.int .i64 v94.2.kept), .v (.int .i64 v94.2.life), .v (.bool v94.2.off), .v (.int .i64 v94.2.trip), .v (.int .i64 v94.2.tripKeep)]), (_, _), (86, .v (.bool (v94.1 != 7)))]) (by kernel_rfl) rfl rfl
           ⟨st_plain rfl (op_move _ _ _ _ rfl rfl),
           st_plain rfl (op_move _ _ _ _ rfl rfl),
           st_plain rfl (op_len_fr _ _ _ Try.underlying31 rfl (by decide) (gflat_len T_Rec.ilen _)),
           st_plain rfl (op_bin _ _ _ _ _ rfl rfl (ibind (f := Value.int .i64) (Option.some.inj hv93))),
           st_plain rfl (op_bin _ _ _ _ _ rfl rfl rfl),
           st_plain rfl (op_move _ _ _ _ (congrArg (fun b => AV.v (Value.bool b)) hg16_5) rfl),
           st_run 5 82 true rfl rfl rfl (List.Mem.head _) (op_move _ _ _ _ rfl rfl),
           st_run 5 82 true rfl rfl rfl (List.Mem.head _) (op_callP _ _ _ _ 84 17 [.tmp 83] [] _ _ _ rfl Try.call17 rfl rfl rfl (ok_diary_Diary_Sync (T_diary_Diary.mk s71 s72 s73 s74 s75 s76 s77 s78 s79) _ hv94) (Nat.le_of_ble_eq_true rfl) rfl rfl rfl rfl rfl rfl rfl rfl),
           st_run 5 82 true rfl rfl rfl (List.Mem.head _) (op_bin _ _ _ _ _ rfl rfl rfl),
           st_plain rfl (op_pick _ _ true _ rfl rfl),
           trivial⟩ ?_
          exact hl106 _ (Option.some.inj h).symm
         ·refine ht_seqR hn (El := [_, _, _, _, (77, .v (.int .i64 v20)), (78, .fr .shr true 15 (List.flatten (List.map T_Rec.ienc l))), (79, .v (.int .i64 (l.length : Int))), (80, .v (.int .i64 v93)), (81, .v (.bool (v20 == v93))), (82, .v (.bool false)), (83, .v undef), (84, .v undef), (85, .v undef), (86, .v (.bool false))]) (init := [0, 1, 2, 3]) (fin := [0, 1, 2, 3, 13]) (sps := [⟨[3], [], [4], [(.slot 77)]⟩, ⟨[0], [], [5], [(.slot 78)]⟩, ⟨[5], [], [6], [(.slot 79)]⟩, ⟨[6], [], [7], [(.slot 80)]⟩, ⟨[4, 7], [], [8], [(.slot 81)]⟩, ⟨[8], [], [9], [(.slot 82)]⟩, ⟨[9], [], [10], [(.slot 83)]⟩, ⟨[9], [], [11], [(.slot 84)]⟩, ⟨[9], [], [12], [(.slot 85)]⟩, ⟨[9], [], [13], [(.slot 86)]⟩]) (es' := [(_, _), (_, _), (_, _), (_, _), (86, .v (.bool false))]) (by kernel_rfl) rfl rfl
           ⟨st_plain rfl (op_move _ _ _ _ rfl rfl),
           st_plain rfl (op_move _ _ _ _ rfl rfl),
           st_plain rfl (op_len_fr _ _ _ Try.underlying31 rfl (by decide) (gflat_len T_Rec.ilen _)),
           st_plain rfl (op_bin _ _ _ _ _ rfl rfl (ibind (f := Value.int .i64) (Option.some.inj hv93))),
           st_plain rfl (op_bin _ _ _ _ _ rfl rfl rfl),
           st_plain rfl (op_move _ _ _ _ (congrArg (fun b => AV.v (Value.bool b)) hg16_5) rfl),
           st_skip 5 82 _ true rfl rfl rfl rfl (List.Mem.head _),
           st_skip 5 82 _ true rfl rfl rfl rfl (List.Mem.head _),
           st_skip 5 82 _ true rfl rfl rfl rfl (List.Mem.head _),
           st_plain rfl (op_pick _ _ false _ rfl rfl),
           trivial⟩ ?_
          exact hl106 _ (Option.some.inj h).symm
       ·rintro u80 hl81 hr82 ⟨s54, s55, s56, s57, s58, s59, s60, s61, s62, s63⟩ rr85 h ho83
        refine ht_seq ?_
        refine ht_seq ?_
        refine ht_seqR hn (El := [_, _, _, _, _, (44, .v (.int .i64 s63)), (45, .fr .shr true 15 (List.flatten (List.map T_Rec.ienc l))), (46, .v (.int .i64 (l.length : Int))), (47, .v (.bool ((decide (s63 < (l.length : Int))))))]) (init := [0, 1, 2, 3, 4]) (fin := [0, 1, 2, 3, 4, 8]) (sps := [⟨[4], [], [5], [(.slot 44)]⟩, ⟨[0], [], [6], [(.slot 45)]⟩, ⟨[6], [], [7], [(.slot 46)]⟩, ⟨[5, 7], [], [8], [(.slot 47)]⟩]) (es' := [(_, _), (_, _), (_, _), (_, _), (_, _), (47, .v (.bool ((decide (s63 < (l.length : Int))))))]) (by kernel_rfl) rfl rfl
         ⟨st_plain rfl (op_move _ _ _ _ rfl rfl),
         st_plain rfl (op_move _ _ _ _ rfl rfl),
         st_plain rfl (op_len_fr _ _ _ Try.underlying31 rfl (by decide) (gflat_len T_Rec.ilen _)),
         st_plain rfl (op_bin _ _ _ _ _ rfl rfl rfl),
         trivial⟩ ?_
        refine pt_then ?_
        refine ht_cond _ rfl (fun hb86 => ?_) (fun hb86 => ?_)
        ·have h := cond_t hb86 h
         refine ht_skip ?_
         refine pt_then ?_
         refine ht_seq ?_
         refine ht_block ?_
         refine ht_seq ?_
         obtain ⟨v23, hv23, h⟩ := bind_some h
         obtain ⟨v24, hv24, h⟩ := bind_some h
         obtain ⟨v25, hv25, h⟩ := bind_some h
         refine ht_seqR hn (El := [_, _, _, _, _, _, (50, .ptr 7 0), (51, .fr .shr true 15 (List.flatten (List.map T_Rec.ienc l))), (52, .v (.int .i64 s63)), (53, .eref (.slot 51) (v23 * 15)), (54, .agg [.v (.int .i64 v24.Kind), .v (.bool v24.Mail.From.Null), .v (.string v24.Mail.From.Local), .v (.string v24.Mail.From.Domain), .fl .shr 3 (List.flatten (List.map T_Path.enc v24.Mail.To)), .fl .shr 1 (List.map (Value.int .u8) v24.Mail.Body), .v (.bool v24.Mail.Quiet), .v (.string v24.Mail.Helo), .v (.int .i64 v24.Mail.At), .v (.int .i64 v24.Id), .fl .shr 1 (List.map (Value.int .i64) v24.Ids), .v (.int .i64 v24.Origin), .v (.int .i64 v24.Number), .v (.int .i64 v24.Offset), .fl .shr 1 (List.map (Value.int .u8) v24.Data)]), (55, .v (.int .i64 v25.1)), (7, .box 64 [.v (.int .i64 v25.2.limit), .fr (.own 46) false 15 (List.flatten (List.map T_Rec.ienc v25.2.recs)), .v (.int .i64 v25.2.used), .v (.int .i64 v25.2.safe), .v (.int .i64 v25.2.kept), .v (.int .i64 v25.2.life), .v (.bool v25.2.off), .v (.int .i64 v25.2.trip), .v (.int .i64 v25.2.tripKeep)]), (10, .v (.int .i64 v25.1))]) (init := [0, 1, 2, 3, 4, 5]) (fin := [0, 1, 12, 3, 4, 13]) (sps := [⟨[2], [], [6], [(.slot 50)]⟩, ⟨[0], [], [7], [(.slot 51)]⟩, ⟨[4], [], [8], [(.slot 52)]⟩, ⟨[7, 8], [], [9], [(.slot 53)]⟩, ⟨[9, 7], [], [10], [(.slot 54)]⟩, ⟨[6, 10], [2], [12, 11], [(.slot 55), (.cell 7 0), (.cell 7 1), (.cell 7 2), (.cell 7 3), (.cell 7 4), (.cell 7 5), (.cell 7 6), (.cell 7 7), (.cell 7 8)]⟩, ⟨[11], [], [13], [(.slot 10)]⟩]) (es' := [(_, _), (_, _), (7, .box 64 [.v (.int .i64 v25.2.limit), .fr (.own 46) false 15 (List.flatten (List.map T_Rec.ienc v25.2.recs)), .v (.int .i64 v25.2.used), .v (.int .i64 v25.2.safe), .v (.int .i64 v25.2.kept), .v (.int .i64 v25.2.life), .v (.bool v25.2.off), .v (.int .i64 v25.2.trip), .v (.int .i64 v25.2.tripKeep)]), (_, _), (_, _), (10, .v (.int .i64 v25.1))]) (by kernel_rfl) rfl rfl
          ⟨st_plain rfl (op_move _ _ _ _ rfl rfl),
          st_plain rfl (op_move _ _ _ _ rfl rfl),
          st_plain rfl (op_move _ _ _ _ rfl rfl),
          st_plain rfl (op_ix_fr _ _ _ _ _ _ _ _ Try.underlying31 sz46 (by decide) rfl rfl rfl (ix_ok hv23).1 (gflat_lt T_Rec.ilen (ix_ok hv23).2) rfl),
          st_plain rfl (op_loadA_fr _ _ _ _ _ _ _ _ Try.underlying46 rfl sz46 rfl rfl (gflat_get T_Rec.ilen hv24) (.cons (.v _) (.cons (.v _) (.cons (.v _) (.cons (.v _) (.cons (.fl _ _ rfl) (.cons (.fl _ _ rfl) (.cons (.v _) (.cons (.v _) (.cons (.v _) (.cons (.v _) (.cons (.fl _ _ rfl) (.cons (.v _) (.cons (.v _) (.cons (.v _) (.cons (.fl _ _ rfl) (.nil)))))))))))))))) rfl (by decide)),
          st_plain rfl (op_callP _ _ _ _ 55 15 [.tmp 50] [.tmp 54] _ _ _ rfl Try.call15 rfl rfl rfl (ok_diary_Diary_Put (T_diary_Diary.mk s54 s55 s56 s57 s58 s59 s60 s61 s62) ((T_Rec.mk v24.Kind ((T_Mail.mk (T_Path.mk v24.Mail.From.Null v24.Mail.From.Local v24.Mail.From.Domain) v24.Mail.To v24.Mail.Body v24.Mail.Quiet v24.Mail.Helo v24.Mail.At)) v24.Id v24.Ids v24.Origin v24.Number v24.Offset v24.Data)) _ hv25) (Nat.le_of_ble_eq_true rfl) rfl rfl rfl rfl rfl rfl rfl rfl),
          st_plain rfl (op_assign _ _ _ _ rfl rfl),
          trivial⟩ ?_
         refine pt_then ?_
         refine ht_seq ?_
         refine ht_seq ?_
         refine ht_seqR hn (El := [_, _, _, _, _, _, (56, .v (.int .i64 v25.1)), (57, .v (.bool (v25.1 == 8)))]) (init := [0, 1, 2, 3, 4, 5]) (fin := [0, 1, 2, 3, 4, 5, 7]) (sps := [⟨[5], [], [6], [(.slot 56)]⟩, ⟨[6], [], [7], [(.slot 57)]⟩]) (es' := [(_, _), (_, _), (_, _), (_, _), (_, _), (_, _), (57, .v (.bool (v25.1 == 8)))]) (by kernel_rfl) rfl rfl
          ⟨st_plain rfl (op_move _ _ _ _ rfl rfl),
          st_plain rfl (op_bin _ _ _ _ _ rfl rfl rfl),
          trivial⟩ ?_
         refine pt_then ?_
         refine ht_cond _ rfl (fun hb87 => ?_) (fun hb87 => ?_)
         ·have h := cond_t hb87 h
          refine ht_seq ?_
          obtain ⟨v27, hv27, h⟩ := bind_some h
          refine ht_seqR hn (El := [_, _, _, _, _, _, _, (58, .v (.bool v27)), (6, .v (.bool v27))]) (init := [0, 1, 2, 3, 4, 5, 6]) (fin := [8]) (sps := [⟨[], [], [7], [(.slot 58)]⟩, ⟨[7], [], [8], [(.slot 6)]⟩]) (es' := [(6, .v (.bool v27))]) (by kernel_rfl) rfl rfl
           ⟨st_plain rfl (op_call _ _ 12 _ _ rfl Try.call12 rfl (ok_wherrylaw18_wakes  _ hv27) rfl rfl),
           st_plain rfl (op_assign _ _ _ _ rfl rfl),
           trivial⟩ ?_
          refine pt_then ?_
          refine ht_ret ?_
          refine pt_r_then ?_
          refine pt_r_in ?_
          refine pt_r_then ?_
          refine pt_r_then ?_
          refine pt_r_in ?_
          refine pt_r_then ?_
          have h := hr82 _ (ho83 _ (Option.some.inj h).symm).symm
          obtain rfl := Option.some.inj h
          exact pt_ret hio rfl (.tmp _ _ .nil) rfl rfl
         ·have h := cond_f hb87 h
          refine ht_skip ?_
          refine pt_then ?_
          refine ht_seq ?_
          refine ht_joinS h (fun (s88 : Bool) => [(0, .fr .shr true 15 (List.flatten (List.map T_Rec.ienc l))), (2, .v (.int .i64 keep)), (7, .box 64 [.v (.int .i64 v25.2.limit), .fr (.own 46) false 15 (List.flatten (List.map T_Rec.ienc v25.2.recs)), .v (.int .i64 v25.2.used), .v (.int .i64 v25.2.safe), .v (.int .i64 v25.2.kept), .v (.int .i64 v25.2.life), .v (.bool v25.2.off), .v (.int .i64 v25.2.trip), .v (.int .i64 v25.2.tripKeep)]), (1, .v (.int .i64 v20)), (9, .v (.int .i64 s63)), (76, .v (.bool s88))]) ?_ ?_
          ·rintro s88 h
           refine pt_then ?_
           refine ht_cond _ rfl (fun hb92 => ?_) (fun hb92 => ?_)
           ·have h := cond_t hb92 h
            refine ht_seq ?_
            refine ht_seqR hn (El := [_, _, _, _, _, _, (6, .v (.bool false))]) (init := [0, 1, 2, 3, 4, 5]) (fin := [6]) (sps := [⟨[], [], [6], [(.slot 6)]⟩]) (es' := [(6, .v (.bool false))]) (by kernel_rfl) rfl rfl
             ⟨st_plain rfl (op_assign _ _ _ _ rfl rfl),
             trivial⟩ ?_
            refine pt_then ?_
            refine ht_ret ?_
            refine pt_r_in ?_
            refine pt_r_then ?_
            refine pt_r_then ?_
            refine pt_r_in ?_
            refine pt_r_then ?_
            have h := hr82 _ (ho83 _ (Option.some.inj h).symm).symm
            obtain rfl := Option.some.inj h
            exact pt_ret hio rfl (.tmp _ _ .nil) rfl rfl
           ·have h := cond_f hb92 h
            refine ht_skip ?_
            refine pt_inb ?_
            refine pt_then ?_
            obtain ⟨v36, hv36, h⟩ := bind_some h
            refine ht_seqR hn (El := [_, _, _, _, _, _, (48, .v (.int .i64 s63)), (49, .v (.int .i64 v36)), (9, .v (.int .i64 v36))]) (init := [0, 1, 2, 3, 4, 5]) (fin := [0, 1, 2, 3, 8]) (sps := [⟨[4], [], [6], [(.slot 48)]⟩, ⟨[6], [], [7], [(.slot 49)]⟩, ⟨[7], [4], [8], [(.slot 9)]⟩]) (es' := [(_, _), (_, _), (_, _), (_, _), (9, .v (.int .i64 v36))]) (by kernel_rfl) rfl rfl
             ⟨st_plain rfl (op_move _ _ _ _ rfl rfl),
             st_plain rfl (op_bin _ _ _ _ _ rfl rfl (ibind (f := Value.int .i64) (Option.some.inj hv36))),
             st_plain rfl (LOp.drop [_] (op_assign _ _ _ _ rfl rfl)),
             trivial⟩ ?_
            exact pt_next _ (Option.some.inj h).symm rfl
          ·intro u89 h hl90 hr91
           obtain ⟨v28, hv28, h⟩ := bind_some h
           refine cond_some h (fun hg14_4 h => ?_) (fun hg14_4 h => ?_)
           ·refine cond_some h (fun hg14_8 h => ?_) (fun hg14_8 h => ?_)
            ·refine ht_seqR hn (El := (_ :: _ :: _ :: _ :: _ :: _ :: _ :: (59, .v (.int .i64 s63)) :: (60, .v (.int .i64 v20)) :: (61, .v (.int .i64 v28)) :: (62, .v (.bool ((decide (s63 < v28))))) :: (63, .v (.bool true)) :: (64, .v (.int .i64 v25.1)) :: (65, .v (.bool (v25.1 != 0))) :: (66, .v (.bool (v25.1 != 0))) :: (67, .v (.bool true)) :: (68, .v undef) :: (69, .v undef) :: (70, .v undef) :: (71, .v undef) :: (72, .v undef) :: (73, .v undef) :: (74, .v undef) :: (75, .v undef) :: (76, .v (.bool true)) :: [])) (init := [0, 1, 2, 3, 4, 5, 6]) (fin := [0, 1, 2, 3, 4, 24]) (sps := (⟨[4], [], [7], [(.slot 59)]⟩ :: ⟨[3], [], [8], [(.slot 60)]⟩ :: ⟨[8], [], [9], [(.slot 61)]⟩ :: ⟨[7, 9], [], [10], [(.slot 62)]⟩ :: ⟨[10], [], [11], [(.slot 63)]⟩ :: ⟨[11, 5], [], [12], [(.slot 64)]⟩ :: ⟨[11, 12], [], [13], [(.slot 65)]⟩ :: ⟨[11, 13], [], [14], [(.slot 66)]⟩ :: ⟨[14], [], [15], [(.slot 67)]⟩ :: ⟨[15], [], [16], [(.slot 68)]⟩ :: ⟨[15], [], [17], [(.slot 69)]⟩ :: ⟨[15], [], [18], [(.slot 70)]⟩ :: ⟨[15], [], [19], [(.slot 71)]⟩ :: ⟨[15], [], [20], [(.slot 72)]⟩ :: ⟨[20], [], [21], [(.slot 73)]⟩ :: ⟨[20], [], [22], [(.slot 74)]⟩ :: ⟨[15], [], [23], [(.slot 75)]⟩ :: ⟨[15], [], [24], [(.slot 76)]⟩ :: [])) (es' := [(_, _), (_, _), (_, _), (_, _), (_, _), (76, .v (.bool true))]) (by kernel_rfl) rfl rfl
              ⟨st_plain rfl (op_move _ _ _ _ rfl rfl),
              st_plain rfl (op_move _ _ _ _ rfl rfl),
              st_plain rfl (op_bin _ _ _ _ _ rfl rfl (ibind (f := Value.int .i64) (Option.some.inj hv28))),
              st_plain rfl (op_bin _ _ _ _ _ rfl rfl rfl),
              st_plain rfl (op_move _ _ _ _ (congrArg (fun b => AV.v (Value.bool b)) hg14_4) rfl),
              st_run 4 63 true rfl rfl rfl (List.Mem.head _) (op_move _ _ _ _ rfl rfl),
              st_run 4 63 true rfl rfl rfl (List.Mem.head _) (op_bin _ _ _ _ _ rfl rfl rfl),
              st_plain rfl (op_pick _ _ true _ rfl rfl),
              st_plain rfl (op_move _ _ _ _ (congrArg (fun b => AV.v (Value.bool b)) hg14_8) rfl),
              st_skip 8 67 _ false rfl rfl rfl rfl (List.Mem.head _),
              st_skip 8 67 _ false rfl rfl rfl rfl (List.Mem.head _),
              st_skip 8 67 _ false rfl rfl rfl rfl (List.Mem.head _),
              st_skip 8 67 _ false rfl rfl rfl rfl (List.Mem.head _),
              st_skip 8 67 _ false rfl rfl rfl rfl (List.Mem.head _),
              st_skipU 13 72 _ true rfl rfl rfl rfl (List.Mem.head _),
              st_skipU 13 72 _ true rfl rfl rfl rfl (List.Mem.head _),
              st_skip 8 67 _ false rfl rfl rfl rfl (List.Mem.head _),
              st_plain rfl (op_pick _ _ true _ rfl rfl),
              trivial⟩ ?_
             exact hl90 _ (Option.some.inj h).symm
            ·obtain ⟨v29, hv29, h⟩ := bind_some h
             refine cond_some h (fun hg14_13 h => ?_) (fun hg14_13 h => ?_)
             ·refine ht_seqR hn (El := (_ :: _ :: _ :: _ :: _ :: _ :: _ :: (59, .v (.int .i64 s63)) :: (60, .v (.int .i64 v20)) :: (61, .v (.int .i64 v28)) :: (62, .v (.bool ((decide (s63 < v28))))) :: (63, .v (.bool true)) :: (64, .v (.int .i64 v25.1)) :: (65, .v (.bool (v25.1 != 0))) :: (66, .v (.bool (v25.1 != 0))) :: (67, .v (.bool false)) :: (68, .v (.int .i64 s63)) :: (69, .v (.int .i64 v20)) :: (70, .v (.int .i64 v29)) :: (71, .v (.bool ((decide (v29 ≤ s63))))) :: (72, .v (.bool true)) :: (73, .v (.int .i64 v25.1)) :: (74, .v (.bool (v25.1 != 7))) :: (75, .v (.bool (v25.1 != 7))) :: (76, .v (.bool (v25.1 != 7))) :: [])) (init := [0, 1, 2, 3, 4, 5, 6]) (fin := [0, 1, 2, 3, 4, 24]) (sps := (⟨[4], [], [7], [(.slot 59)]⟩ :: ⟨[3], [], [8], [(.slot 60)]⟩ :: ⟨[8], [], [9], [(.slot 61)]⟩ :: ⟨[7, 9], [], [10], [(.slot 62)]⟩ :: ⟨[10], [], [11], [(.slot 63)]⟩ :: ⟨[11, 5], [], [12], [(.slot 64)]⟩ :: ⟨[11, 12], [], [13], [(.slot 65)]⟩ :: ⟨[11, 13], [], [14], [(.slot 66)]⟩ :: ⟨[14], [], [15], [(.slot 67)]⟩ :: ⟨[15, 4], [], [16], [(.slot 68)]⟩ :: ⟨[15, 3], [], [17], [(.slot 69)]⟩ :: ⟨[15, 17], [], [18], [(.slot 70)]⟩ :: ⟨[15, 16, 18], [], [19], [(.slot 71)]⟩ :: ⟨[15, 19], [], [20], [(.slot 72)]⟩ :: ⟨[20, 5], [], [21], [(.slot 73)]⟩ :: ⟨[20, 21], [], [22], [(.slot 74)]⟩ :: ⟨[15, 20, 22], [], [23], [(.slot 75)]⟩ :: ⟨[15, 23], [], [24], [(.slot 76)]⟩ :: [])) (es' := [(_, _), (_, _), (_, _), (_, _), (_, _), (76, .v (.bool (v25.1 != 7)))]) (by kernel_rfl) rfl rfl
               ⟨st_plain rfl (op_move _ _ _ _ rfl rfl),
               st_plain rfl (op_move _ _ _ _ rfl rfl),
               st_plain rfl (op_bin _ _ _ _ _ rfl rfl (ibind (f := Value.int .i64) (Option.some.inj hv28))),
               st_plain rfl (op_bin _ _ _ _ _ rfl rfl rfl),
               st_plain rfl (op_move _ _ _ _ (congrArg (fun b => AV.v (Value.bool b)) hg14_4) rfl),
               st_run 4 63 true rfl rfl rfl (List.Mem.head _) (op_move _ _ _ _ rfl rfl),
               st_run 4 63 true rfl rfl rfl (List.Mem.head _) (op_bin _ _ _ _ _ rfl rfl rfl),
               st_plain rfl (op_pick _ _ true _ rfl rfl),
               st_plain rfl (op_move _ _ _ _ (congrArg (fun b => AV.v (Value.bool b)) hg14_8) rfl),
               st_run 8 67 false rfl rfl rfl (List.Mem.head _) (op_move _ _ _ _ rfl rfl),
               st_run 8 67 false rfl rfl rfl (List.Mem.head _) (op_move _ _ _ _ rfl rfl),
               st_run 8 67 false rfl rfl rfl (List.Mem.head _) (op_bin _ _ _ _ _ rfl rfl (ibind (f := Value.int .i64) (Option.some.inj hv29))),
               st_run 8 67 false rfl rfl rfl (List.Mem.head _) (op_bin _ _ _ _ _ rfl rfl rfl),
               st_run 8 67 false rfl rfl rfl (List.Mem.head _) (op_move _ _ _ _ (congrArg (fun b => AV.v (Value.bool b)) hg14_13) rfl),
               st_run 13 72 true rfl rfl rfl (List.Mem.head _) (op_move _ _ _ _ rfl rfl),
               st_run 13 72 true rfl rfl rfl (List.Mem.head _) (op_bin _ _ _ _ _ rfl rfl rfl),
               st_run 8 67 false rfl rfl rfl (List.Mem.head _) (op_pick _ _ true _ rfl rfl),
               st_plain rfl (op_pick _ _ false _ rfl rfl),
               trivial⟩ ?_
              exact hl90 _ (Option.some.inj h).symm
             ·refine ht_seqR hn (El := (_ :: _ :: _ :: _ :: _ :: _ :: _ :: (59, .v (.int .i64 s63)) :: (60, .v (.int .i64 v20)) :: (61, .v (.int .i64 v28)) :: (62, .v (.bool ((decide (s63 < v28))))) :: (63, .v (.bool true)) :: (64, .v (.int .i64 v25.1)) :: (65, .v (.bool (v25.1 != 0))) :: (66, .v (.bool (v25.1 != 0))) :: (67, .v (.bool false)) :: (68, .v (.int .i64 s63)) :: (69, .v (.int .i64 v20)) :: (70, .v (.int .i64 v29)) :: (71, .v (.bool ((decide (v29 ≤ s63))))) :: (72, .v (.bool false)) :: (73, .v undef) :: (74, .v undef) :: (75, .v (.bool false)) :: (76, .v (.bool false)) :: [])) (init := [0, 1, 2, 3, 4, 5, 6]) (fin := [0, 1, 2, 3, 4, 24]) (sps := (⟨[4], [], [7], [(.slot 59)]⟩ :: ⟨[3], [], [8], [(.slot 60)]⟩ :: ⟨[8], [], [9], [(.slot 61)]⟩ :: ⟨[7, 9], [], [10], [(.slot 62)]⟩ :: ⟨[10], [], [11], [(.slot 63)]⟩ :: ⟨[11, 5], [], [12], [(.slot 64)]⟩ :: ⟨[11, 12], [], [13], [(.slot 65)]⟩ :: ⟨[11, 13], [], [14], [(.slot 66)]⟩ :: ⟨[14], [], [15], [(.slot 67)]⟩ :: ⟨[15, 4], [], [16], [(.slot 68)]⟩ :: ⟨[15, 3], [], [17], [(.slot 69)]⟩ :: ⟨[15, 17], [], [18], [(.slot 70)]⟩ :: ⟨[15, 16, 18], [], [19], [(.slot 71)]⟩ :: ⟨[15, 19], [], [20], [(.slot 72)]⟩ :: ⟨[20], [], [21], [(.slot 73)]⟩ :: ⟨[20], [], [22], [(.slot 74)]⟩ :: ⟨[15, 20], [], [23], [(.slot 75)]⟩ :: ⟨[15, 23], [], [24], [(.slot 76)]⟩ :: [])) (es' := [(_, _), (_, _), (_, _), (_, _), (_, _), (76, .v (.bool false))]) (by kernel_rfl) rfl rfl
               ⟨st_plain rfl (op_move _ _ _ _ rfl rfl),
               st_plain rfl (op_move _ _ _ _ rfl rfl),
               st_plain rfl (op_bin _ _ _ _ _ rfl rfl (ibind (f := Value.int .i64) (Option.some.inj hv28))),
               st_plain rfl (op_bin _ _ _ _ _ rfl rfl rfl),
               st_plain rfl (op_move _ _ _ _ (congrArg (fun b => AV.v (Value.bool b)) hg14_4) rfl),
               st_run 4 63 true rfl rfl rfl (List.Mem.head _) (op_move _ _ _ _ rfl rfl),
               st_run 4 63 true rfl rfl rfl (List.Mem.head _) (op_bin _ _ _ _ _ rfl rfl rfl),
               st_plain rfl (op_pick _ _ true _ rfl rfl),
               st_plain rfl (op_move _ _ _ _ (congrArg (fun b => AV.v (Value.bool b)) hg14_8) rfl),
               st_run 8 67 false rfl rfl rfl (List.Mem.head _) (op_move _ _ _ _ rfl rfl),
               st_run 8 67 false rfl rfl rfl (List.Mem.head _) (op_move _ _ _ _ rfl rfl),
               st_run 8 67 false rfl rfl rfl (List.Mem.head _) (op_bin _ _ _ _ _ rfl rfl (ibind (f := Value.int .i64) (Option.some.inj hv29))),
               st_run 8 67 false rfl rfl rfl (List.Mem.head _) (op_bin _ _ _ _ _ rfl rfl rfl),
               st_run 8 67 false rfl rfl rfl (List.Mem.head _) (op_move _ _ _ _ (congrArg (fun b => AV.v (Value.bool b)) hg14_13) rfl),
               st_skip 13 72 _ true rfl rfl rfl rfl (List.Mem.head _),
               st_skip 13 72 _ true rfl rfl rfl rfl (List.Mem.head _),
               st_run 8 67 false rfl rfl rfl (List.Mem.head _) (op_pick _ _ false _ rfl rfl),
               st_plain rfl (op_pick _ _ false _ rfl rfl),
               trivial⟩ ?_
              exact hl90 _ (Option.some.inj h).symm
           ·obtain ⟨v30, hv30, h⟩ := bind_some h
            refine cond_some h (fun hg14_13 h => ?_) (fun hg14_13 h => ?_)
            ·refine ht_seqR hn (El := (_ :: _ :: _ :: _ :: _ :: _ :: _ :: (59, .v (.int .i64 s63)) :: (60, .v (.int .i64 v20)) :: (61, .v (.int .i64 v28)) :: (62, .v (.bool ((decide (s63 < v28))))) :: (63, .v (.bool false)) :: (64, .v undef) :: (65, .v undef) :: (66, .v (.bool false)) :: (67, .v (.bool false)) :: (68, .v (.int .i64 s63)) :: (69, .v (.int .i64 v20)) :: (70, .v (.int .i64 v30)) :: (71, .v (.bool ((decide (v30 ≤ s63))))) :: (72, .v (.bool true)) :: (73, .v (.int .i64 v25.1)) :: (74, .v (.bool (v25.1 != 7))) :: (75, .v (.bool (v25.1 != 7))) :: (76, .v (.bool (v25.1 != 7))) :: [])) (init := [0, 1, 2, 3, 4, 5, 6]) (fin := [0, 1, 2, 3, 4, 24]) (sps := (⟨[4], [], [7], [(.slot 59)]⟩ :: ⟨[3], [], [8], [(.slot 60)]⟩ :: ⟨[8], [], [9], [(.slot 61)]⟩ :: ⟨[7, 9], [], [10], [(.slot 62)]⟩ :: ⟨[10], [], [11], [(.slot 63)]⟩ :: ⟨[11], [], [12], [(.slot 64)]⟩ :: ⟨[11], [], [13], [(.slot 65)]⟩ :: ⟨[11], [], [14], [(.slot 66)]⟩ :: ⟨[14], [], [15], [(.slot 67)]⟩ :: ⟨[15, 4], [], [16], [(.slot 68)]⟩ :: ⟨[15, 3], [], [17], [(.slot 69)]⟩ :: ⟨[15, 17], [], [18], [(.slot 70)]⟩ :: ⟨[15, 16, 18], [], [19], [(.slot 71)]⟩ :: ⟨[15, 19], [], [20], [(.slot 72)]⟩ :: ⟨[20, 5], [], [21], [(.slot 73)]⟩ :: ⟨[20, 21], [], [22], [(.slot 74)]⟩ :: ⟨[15, 20, 22], [], [23], [(.slot 75)]⟩ :: ⟨[15, 23], [], [24], [(.slot 76)]⟩ :: [])) (es' := [(_, _), (_, _), (_, _), (_, _), (_, _), (76, .v (.bool (v25.1 != 7)))]) (by kernel_rfl) rfl rfl
              ⟨st_plain rfl (op_move _ _ _ _ rfl rfl),
              st_plain rfl (op_move _ _ _ _ rfl rfl),
              st_plain rfl (op_bin _ _ _ _ _ rfl rfl (ibind (f := Value.int .i64) (Option.some.inj hv28))),
              st_plain rfl (op_bin _ _ _ _ _ rfl rfl rfl),
              st_plain rfl (op_move _ _ _ _ (congrArg (fun b => AV.v (Value.bool b)) hg14_4) rfl),
              st_skip 4 63 _ true rfl rfl rfl rfl (List.Mem.head _),
              st_skip 4 63 _ true rfl rfl rfl rfl (List.Mem.head _),
              st_plain rfl (op_pick _ _ false _ rfl rfl),
              st_plain rfl (op_move _ _ _ _ rfl rfl),
              st_run 8 67 false rfl rfl rfl (List.Mem.head _) (op_move _ _ _ _ rfl rfl),
              st_run 8 67 false rfl rfl rfl (List.Mem.head _) (op_move _ _ _ _ rfl rfl),
              st_run 8 67 false rfl rfl rfl (List.Mem.head _) (op_bin _ _ _ _ _ rfl rfl (ibind (f := Value.int .i64) (Option.some.inj hv30))),
              st_run 8 67 false rfl rfl rfl (List.Mem.head _) (op_bin _ _ _ _ _ rfl rfl rfl),
              st_run 8 67 false rfl rfl rfl (List.Mem.head _) (op_move _ _ _ _ (congrArg (fun b => AV.v (Value.bool b)) hg14_13) rfl),
              st_run 13 72 true rfl rfl rfl (List.Mem.head _) (op_move _ _ _ _ rfl rfl),
              st_run 13 72 true rfl rfl rfl (List.Mem.head _) (op_bin _ _ _ _ _ rfl rfl rfl),
              st_run 8 67 false rfl rfl rfl (List.Mem.head _) (op_pick _ _ true _ rfl rfl),
              st_plain rfl (op_pick _ _ false _ rfl rfl),
              trivial⟩ ?_
             exact hl90 _ (Option.some.inj h).symm
            ·refine ht_seqR hn (El := (_ :: _ :: _ :: _ :: _ :: _ :: _ :: (59, .v (.int .i64 s63)) :: (60, .v (.int .i64 v20)) :: (61, .v (.int .i64 v28)) :: (62, .v (.bool ((decide (s63 < v28))))) :: (63, .v (.bool false)) :: (64, .v undef) :: (65, .v undef) :: (66, .v (.bool false)) :: (67, .v (.bool false)) :: (68, .v (.int .i64 s63)) :: (69, .v (.int .i64 v20)) :: (70, .v (.int .i64 v30)) :: (71, .v (.bool ((decide (v30 ≤ s63))))) :: (72, .v (.bool false)) :: (73, .v undef) :: (74, .v undef) :: (75, .v (.bool false)) :: (76, .v (.bool false)) :: [])) (init := [0, 1, 2, 3, 4, 5, 6]) (fin := [0, 1, 2, 3, 4, 24]) (sps := (⟨[4], [], [7], [(.slot 59)]⟩ :: ⟨[3], [], [8], [(.slot 60)]⟩ :: ⟨[8], [], [9], [(.slot 61)]⟩ :: ⟨[7, 9], [], [10], [(.slot 62)]⟩ :: ⟨[10], [], [11], [(.slot 63)]⟩ :: ⟨[11], [], [12], [(.slot 64)]⟩ :: ⟨[11], [], [13], [(.slot 65)]⟩ :: ⟨[11], [], [14], [(.slot 66)]⟩ :: ⟨[14], [], [15], [(.slot 67)]⟩ :: ⟨[15, 4], [], [16], [(.slot 68)]⟩ :: ⟨[15, 3], [], [17], [(.slot 69)]⟩ :: ⟨[15, 17], [], [18], [(.slot 70)]⟩ :: ⟨[15, 16, 18], [], [19], [(.slot 71)]⟩ :: ⟨[15, 19], [], [20], [(.slot 72)]⟩ :: ⟨[20], [], [21], [(.slot 73)]⟩ :: ⟨[20], [], [22], [(.slot 74)]⟩ :: ⟨[15, 20], [], [23], [(.slot 75)]⟩ :: ⟨[15, 23], [], [24], [(.slot 76)]⟩ :: [])) (es' := [(_, _), (_, _), (_, _), (_, _), (_, _), (76, .v (.bool false))]) (by kernel_rfl) rfl rfl
              ⟨st_plain rfl (op_move _ _ _ _ rfl rfl),
              st_plain rfl (op_move _ _ _ _ rfl rfl),
              st_plain rfl (op_bin _ _ _ _ _ rfl rfl (ibind (f := Value.int .i64) (Option.some.inj hv28))),
              st_plain rfl (op_bin _ _ _ _ _ rfl rfl rfl),
              st_plain rfl (op_move _ _ _ _ (congrArg (fun b => AV.v (Value.bool b)) hg14_4) rfl),
              st_skip 4 63 _ true rfl rfl rfl rfl (List.Mem.head _),
              st_skip 4 63 _ true rfl rfl rfl rfl (List.Mem.head _),
              st_plain rfl (op_pick _ _ false _ rfl rfl),
              st_plain rfl (op_move _ _ _ _ rfl rfl),
              st_run 8 67 false rfl rfl rfl (List.Mem.head _) (op_move _ _ _ _ rfl rfl),
              st_run 8 67 false rfl rfl rfl (List.Mem.head _) (op_move _ _ _ _ rfl rfl),
              st_run 8 67 false rfl rfl rfl (List.Mem.head _) (op_bin _ _ _ _ _ rfl rfl (ibind (f := Value.int .i64) (Option.some.inj hv30))),
              st_run 8 67 false rfl rfl rfl (List.Mem.head _) (op_bin _ _ _ _ _ rfl rfl rfl),
              st_run 8 67 false rfl rfl rfl (List.Mem.head _) (op_move _ _ _ _ (congrArg (fun b => AV.v (Value.bool b)) hg14_13) rfl),
              st_skip 13 72 _ true rfl rfl rfl rfl (List.Mem.head _),
              st_skip 13 72 _ true rfl rfl rfl rfl (List.Mem.head _),
              st_run 8 67 false rfl rfl rfl (List.Mem.head _) (op_pick _ _ false _ rfl rfl),
              st_plain rfl (op_pick _ _ false _ rfl rfl),
              trivial⟩ ?_
             exact hl90 _ (Option.some.inj h).symm
        ·have h := cond_f hb86 h
         refine ht_exit ?_
         refine pt_x_then ?_
         refine pt_x_then ?_
         refine pt_x_in ?_
         refine pt_pick [0, 1, 2, 3] (by kernel_rfl) (es' := [(_, _), (_, _), (_, _), (_, _)]) rfl ?_
         exact hl81 _ (ho83 _ (Option.some.inj h).symm).symm
     ·intro u11 h hl12 hr13
      refine cond_some h (fun hg4_2 h => ?_) (fun hg4_2 h => ?_)
      ·refine ht_seqR hn (El := [_, _, _, _, _, (25, .v (.int .i64 v7.2)), (26, .v (.bool (v7.2 != 0))), (27, .v (.bool true)), (28, .v undef), (29, .v undef), (30, .v (.bool true))]) (init := [0, 1, 2, 3, 4]) (fin := [0, 1, 2, 3, 10]) (sps := [⟨[4], [], [5], [(.slot 25)]⟩, ⟨[5], [], [6], [(.slot 26)]⟩, ⟨[6], [], [7], [(.slot 27)]⟩, ⟨[7], [], [8], [(.slot 28)]⟩, ⟨[7], [], [9], [(.slot 29)]⟩, ⟨[7], [], [10], [(.slot 30)]⟩]) (es' := [(_, _), (_, _), (_, _), (_, _), (30, .v (.bool true))]) (by kernel_rfl) rfl rfl
        ⟨st_plain rfl (op_move _ _ _ _ rfl rfl),
        st_plain rfl (op_bin _ _ _ _ _ rfl rfl rfl),
        st_plain rfl (op_move _ _ _ _ (congrArg (fun b => AV.v (Value.bool b)) hg4_2) rfl),
        st_skip 2 27 _ false rfl rfl rfl rfl (List.Mem.head _),
        st_skip 2 27 _ false rfl rfl rfl rfl (List.Mem.head _),
        st_plain rfl (op_pick _ _ true _ rfl rfl),
        trivial⟩ ?_
       exact hl12 _ (Option.some.inj h).symm
      ·refine ht_seqR hn (El := [_, _, _, _, _, (25, .v (.int .i64 v7.2)), (26, .v (.bool (v7.2 != 0))), (27, .v (.bool false)), (28, .ptr 7 0), (29, .v (.bool false)), (30, .v (.bool false))]) (init := [0, 1, 2, 3, 4]) (fin := [0, 1, 2, 3, 10]) (sps := [⟨[4], [], [5], [(.slot 25)]⟩, ⟨[5], [], [6], [(.slot 26)]⟩, ⟨[6], [], [7], [(.slot 27)]⟩, ⟨[7, 3], [], [8], [(.slot 28)]⟩, ⟨[7, 8, 3], [], [9], [(.slot 29)]⟩, ⟨[7, 9], [], [10], [(.slot 30)]⟩]) (es' := [(_, _), (_, _), (_, _), (_, _), (30, .v (.bool false))]) (by kernel_rfl) rfl rfl
        ⟨st_plain rfl (op_move _ _ _ _ rfl rfl),
        st_plain rfl (op_bin _ _ _ _ _ rfl rfl rfl),
        st_plain rfl (op_move _ _ _ _ (congrArg (fun b => AV.v (Value.bool b)) hg4_2) rfl),
        st_run 2 27 false rfl rfl rfl (List.Mem.head _) (op_move _ _ _ _ rfl rfl),
        st_run 2 27 false rfl rfl rfl (List.Mem.head _) (op_pnil _ _ false (by kernel_rfl) rfl rfl),
        st_plain rfl (op_pick _ _ false _ rfl rfl),
        trivial⟩ ?_
       exact hl12 _ (Option.some.inj h).symm
    ·refine pt_then ?_
     refine ht_seq ?_
     refine ht_seq ?_
     refine ht_joinS h (fun (() : Unit) => [(0, .fr .shr true 15 (List.flatten (List.map T_Rec.ienc l))), (1, .v (.int .i64 n)), (2, .v (.int .i64 keep)), (7, .v (.pointer none)), (30, .v (.bool true))]) ?_ ?_
     ·rintro ⟨⟩ h
      refine pt_then ?_
      refine ht_cond true rfl (fun _ => ?_) (fun hb => by cases hb)
      refine ht_seq ?_
      refine ht_seqR hn (El := [_, _, _, _, _, (6, .v (.bool false))]) (init := [0, 1, 2, 3, 4]) (fin := [5]) (sps := [⟨[], [], [5], [(.slot 6)]⟩]) (es' := [(6, .v (.bool false))]) (by kernel_rfl) rfl rfl
       ⟨st_plain rfl (op_assign _ _ _ _ rfl rfl),
       trivial⟩ ?_
      refine pt_then ?_
      refine ht_ret ?_
      refine pt_r_then ?_
      obtain rfl := Option.some.inj h
      exact pt_ret hio rfl (.tmp _ _ .nil) rfl rfl
     ·intro u125 h hl126 hr127
      refine cond_some h (fun hg4_2 h => ?_) (fun hg4_2 h => ?_)
      ·refine ht_seqR hn (El := [_, _, _, _, _, (25, .v (.int .i64 v7.2)), (26, .v (.bool (v7.2 != 0))), (27, .v (.bool true)), (28, .v undef), (29, .v undef), (30, .v (.bool true))]) (init := [0, 1, 2, 3, 4]) (fin := [0, 1, 2, 3, 10]) (sps := [⟨[4], [], [5], [(.slot 25)]⟩, ⟨[5], [], [6], [(.slot 26)]⟩, ⟨[6], [], [7], [(.slot 27)]⟩, ⟨[7], [], [8], [(.slot 28)]⟩, ⟨[7], [], [9], [(.slot 29)]⟩, ⟨[7], [], [10], [(.slot 30)]⟩]) (es' := [(_, _), (_, _), (_, _), (_, _), (30, .v (.bool true))]) (by kernel_rfl) rfl rfl
        ⟨st_plain rfl (op_move _ _ _ _ rfl rfl),
        st_plain rfl (op_bin _ _ _ _ _ rfl rfl rfl),
        st_plain rfl (op_move _ _ _ _ (congrArg (fun b => AV.v (Value.bool b)) hg4_2) rfl),
        st_skip 2 27 _ false rfl rfl rfl rfl (List.Mem.head _),
        st_skip 2 27 _ false rfl rfl rfl rfl (List.Mem.head _),
        st_plain rfl (op_pick _ _ true _ rfl rfl),
        trivial⟩ ?_
       exact hl126 _ (Option.some.inj h).symm
      ·refine ht_seqR hn (El := [_, _, _, _, _, (25, .v (.int .i64 v7.2)), (26, .v (.bool (v7.2 != 0))), (27, .v (.bool false)), (28, .v (.pointer none)), (29, .v (.bool true)), (30, .v (.bool true))]) (init := [0, 1, 2, 3, 4]) (fin := [0, 1, 2, 3, 10]) (sps := [⟨[4], [], [5], [(.slot 25)]⟩, ⟨[5], [], [6], [(.slot 26)]⟩, ⟨[6], [], [7], [(.slot 27)]⟩, ⟨[7, 3], [], [8], [(.slot 28)]⟩, ⟨[7, 8], [], [9], [(.slot 29)]⟩, ⟨[7, 9], [], [10], [(.slot 30)]⟩]) (es' := [(_, _), (_, _), (_, _), (_, _), (30, .v (.bool true))]) (by kernel_rfl) rfl rfl
        ⟨st_plain rfl (op_move _ _ _ _ rfl rfl),
        st_plain rfl (op_bin _ _ _ _ _ rfl rfl rfl),
        st_plain rfl (op_move _ _ _ _ (congrArg (fun b => AV.v (Value.bool b)) hg4_2) rfl),
        st_run 2 27 false rfl rfl rfl (List.Mem.head _) (op_move _ _ _ _ rfl rfl),
        st_run 2 27 false rfl rfl rfl (List.Mem.head _) (op_nilnil _ _ false (by kernel_rfl) rfl rfl),
        st_plain rfl (op_pick _ _ false _ rfl rfl),
        trivial⟩ ?_
       exact hl126 _ (Option.some.inj h).symm
  ·intro u3 h hl4 hr5
   obtain ⟨v1, hv1, h⟩ := bind_some h
   refine cond_some h (fun hg1_2 h => ?_) (fun hg1_2 h => ?_)
   ·refine ht_seqR hn (El := [_, _, _, (14, .fr .shr true 15 (List.flatten (List.map T_Rec.ienc l))), (15, .v (.bool v1)), (16, .v (.bool true)), (17, .v undef), (18, .v undef), (19, .v undef), (20, .v (.bool true))]) (init := [0, 1, 2]) (fin := [0, 1, 2, 9]) (sps := [⟨[0], [], [3], [(.slot 14)]⟩, ⟨[3], [], [4], [(.slot 15)]⟩, ⟨[4], [], [5], [(.slot 16)]⟩, ⟨[5], [], [6], [(.slot 17)]⟩, ⟨[5], [], [7], [(.slot 18)]⟩, ⟨[5], [], [8], [(.slot 19)]⟩, ⟨[5], [], [9], [(.slot 20)]⟩]) (es' := [(_, _), (_, _), (_, _), (20, .v (.bool true))]) (by kernel_rfl) rfl rfl
     ⟨st_plain rfl (op_move _ _ _ _ rfl rfl),
     st_plain rfl (op_call _ _ 13 _ _ rfl Try.call13 rfl (ok_wherrylaw18_Heavy l _ hv1) rfl rfl),
     st_plain rfl (op_move _ _ _ _ (congrArg (fun b => AV.v (Value.bool b)) hg1_2) rfl),
     st_skip 2 16 _ false rfl rfl rfl rfl (List.Mem.head _),
     st_skip 2 16 _ false rfl rfl rfl rfl (List.Mem.head _),
     st_skip 2 16 _ false rfl rfl rfl rfl (List.Mem.head _),
     st_plain rfl (op_pick _ _ true _ rfl rfl),
     trivial⟩ ?_
    exact hl4 _ (Option.some.inj h).symm
   ·refine ht_seqR hn (El := [_, _, _, (14, .fr .shr true 15 (List.flatten (List.map T_Rec.ienc l))), (15, .v (.bool v1)), (16, .v (.bool false)), (17, .fr .shr true 15 (List.flatten (List.map T_Rec.ienc l))), (18, .v (.int .i64 (l.length : Int))), (19, .v (.bool (((l.length : Int) == 0)))), (20, .v (.bool (((l.length : Int) == 0))))]) (init := [0, 1, 2]) (fin := [0, 1, 2, 9]) (sps := [⟨[0], [], [3], [(.slot 14)]⟩, ⟨[3], [], [4], [(.slot 15)]⟩, ⟨[4], [], [5], [(.slot 16)]⟩, ⟨[5, 0], [], [6], [(.slot 17)]⟩, ⟨[5, 6], [], [7], [(.slot 18)]⟩, ⟨[5, 7], [], [8], [(.slot 19)]⟩, ⟨[5, 8], [], [9], [(.slot 20)]⟩]) (es' := [(_, _), (_, _), (_, _), (20, .v (.bool (((l.length : Int) == 0))))]) (by kernel_rfl) rfl rfl
     ⟨st_plain rfl (op_move _ _ _ _ rfl rfl),
     st_plain rfl (op_call _ _ 13 _ _ rfl Try.call13 rfl (ok_wherrylaw18_Heavy l _ hv1) rfl rfl),
     st_plain rfl (op_move _ _ _ _ (congrArg (fun b => AV.v (Value.bool b)) hg1_2) rfl),
     st_run 2 16 false rfl rfl rfl (List.Mem.head _) (op_move _ _ _ _ rfl rfl),
     st_run 2 16 false rfl rfl rfl (List.Mem.head _) (op_len_fr _ _ _ Try.underlying31 rfl (by decide) (gflat_len T_Rec.ilen _)),
     st_run 2 16 false rfl rfl rfl (List.Mem.head _) (op_bin _ _ _ _ _ rfl rfl rfl),
     st_plain rfl (op_pick _ _ false _ rfl rfl),
     trivial⟩ ?_
    exact hl4 _ (Option.some.inj h).symm

end Go.Proofs.Ytbioodcjmceefaa
