/-
  The model's runs are what is told in Lean.
-/
import Derived.Test.YtbioodcjmceefaaProg
import Derived.KernelRfl
import Derived.Test.YtbioodcjmceefaaOkc1
set_option linter.unusedVariables false
set_option linter.unusedSimpArgs false
namespace Go.Proofs.Ytbioodcjmceefaa
open Go.Abs Go.Abs.Sh

set_option maxHeartbeats 1000000 in
theorem ok_wherrylaw18_wakes (r : Bool) (h : Sh.wherrylaw18_wakes  = some r) : FnOK Try.prog 12 [] (.v (.bool r)) := by
  unfold Sh.wherrylaw18_wakes at h
  refine fn_ok Try.func12 rfl (Nat.le_of_ble_eq_true rfl) rfl rfl fun g0 hn hio => ?_
  refine ht_seq ?_
  refine ht_seqR hn (El := [(0, .v (.bool false))]) (init := []) (fin := []) (sps := [⟨[], [], [0], [(.slot 0)]⟩]) (es' := []) (by kernel_rfl) rfl rfl
   ⟨st_plain rfl (op_assign _ _ _ _ rfl rfl),
   trivial⟩ ?_
  refine pt_then ?_
  refine ht_seq ?_
  obtain ⟨v1, hv1, h⟩ := bind_some h
  refine ht_seqR hn (El := [(5, .tup [.obox (Option.isSome v1.1) 64 [.v (.int .i64 (((Option.getD v1.1 (default : T_diary_Diary))).limit)), .fr (.own 46) false 15 (List.flatten (List.map T_Rec.ienc (((Option.getD v1.1 (default : T_diary_Diary))).recs))), .v (.int .i64 (((Option.getD v1.1 (default : T_diary_Diary))).used)), .v (.int .i64 (((Option.getD v1.1 (default : T_diary_Diary))).safe)), .v (.int .i64 (((Option.getD v1.1 (default : T_diary_Diary))).kept)), .v (.int .i64 (((Option.getD v1.1 (default : T_diary_Diary))).life)), .v (.bool (((Option.getD v1.1 (default : T_diary_Diary))).off)), .v (.int .i64 (((Option.getD v1.1 (default : T_diary_Diary))).trip)), .v (.int .i64 (((Option.getD v1.1 (default : T_diary_Diary))).tripKeep))], .v (.int .i64 v1.2)]), (4, .tup [.obox (Option.isSome v1.1) 64 [.v (.int .i64 (((Option.getD v1.1 (default : T_diary_Diary))).limit)), .fr (.own 46) false 15 (List.flatten (List.map T_Rec.ienc (((Option.getD v1.1 (default : T_diary_Diary))).recs))), .v (.int .i64 (((Option.getD v1.1 (default : T_diary_Diary))).used)), .v (.int .i64 (((Option.getD v1.1 (default : T_diary_Diary))).safe)), .v (.int .i64 (((Option.getD v1.1 (default : T_diary_Diary))).kept)), .v (.int .i64 (((Option.getD v1.1 (default : T_diary_Diary))).life)), .v (.bool (((Option.getD v1.1 (default : T_diary_Diary))).off)), .v (.int .i64 (((Option.getD v1.1 (default : T_diary_Diary))).trip)), .v (.int .i64 (((Option.getD v1.1 (default : T_diary_Diary))).tripKeep))], .v (.int .i64 v1.2)]), (6, .obox (Option.isSome v1.1) 64 [.v (.int .i64 (((Option.getD v1.1 (default : T_diary_Diary))).limit)), .fr (.own 46) false 15 (List.flatten (List.map T_Rec.ienc (((Option.getD v1.1 (default : T_diary_Diary))).recs))), .v (.int .i64 (((Option.getD v1.1 (default : T_diary_Diary))).used)), .v (.int .i64 (((Option.getD v1.1 (default : T_diary_Diary))).safe)), .v (.int .i64 (((Option.getD v1.1 (default : T_diary_Diary))).kept)), .v (.int .i64 (((Option.getD v1.1 (default : T_diary_Diary))).life)), .v (.bool (((Option.getD v1.1 (default : T_diary_Diary))).off)), .v (.int .i64 (((Option.getD v1.1 (default : T_diary_Diary))).trip)), .v (.int .i64 (((Option.getD v1.1 (default : T_diary_Diary))).tripKeep))]), (4, .tup [.any, .v (.int .i64 v1.2)]), (7, .v (.int .i64 v1.2)), (1, .obox (Option.isSome v1.1) 64 [.v (.int .i64 (((Option.getD v1.1 (default : T_diary_Diary))).limit)), .fr (.own 46) false 15 (List.flatten (List.map T_Rec.ienc (((Option.getD v1.1 (default : T_diary_Diary))).recs))), .v (.int .i64 (((Option.getD v1.1 (default : T_diary_Diary))).used)), .v (.int .i64 (((Option.getD v1.1 (default : T_diary_Diary))).safe)), .v (.int .i64 (((Option.getD v1.1 (default : T_diary_Diary))).kept)), .v (.int .i64 (((Option.getD v1.1 (default : T_diary_Diary))).life)), .v (.bool (((Option.getD v1.1 (default : T_diary_Diary))).off)), .v (.int .i64 (((Option.getD v1.1 (default : T_diary_Diary))).trip)), .v (.int .i64 (((Option.getD v1.1 (default : T_diary_Diary))).tripKeep))]), (2, .v (.int .i64 v1.2))]) (init := []) (fin := [5, 6]) (sps := [⟨[], [], [0], [(.slot 5)]⟩, ⟨[], [0], [1], [(.slot 4)]⟩, ⟨[], [1], [3, 2], [(.slot 6)]⟩, ⟨[3], [], [4], [(.slot 7)]⟩, ⟨[], [2], [5], [(.slot 1)]⟩, ⟨[4], [], [6], [(.slot 2)]⟩]) (es' := [(1, .obox (Option.isSome v1.1) 64 [.v (.int .i64 (((Option.getD v1.1 (default : T_diary_Diary))).limit)), .fr (.own 46) false 15 (List.flatten (List.map T_Rec.ienc (((Option.getD v1.1 (default : T_diary_Diary))).recs))), .v (.int .i64 (((Option.getD v1.1 (default : T_diary_Diary))).used)), .v (.int .i64 (((Option.getD v1.1 (default : T_diary_Diary))).safe)), .v (.int .i64 (((Option.getD v1.1 (default : T_diary_Diary))).kept)), .v (.int .i64 (((Option.getD v1.1 (default : T_diary_Diary))).life)), .v (.bool (((Option.getD v1.1 (default : T_diary_Diary))).off)), .v (.int .i64 (((Option.getD v1.1 (default : T_diary_Diary))).trip)), .v (.int .i64 (((Option.getD v1.1 (default : T_diary_Diary))).tripKeep))]), (2, .v (.int .i64 v1.2))]) (by kernel_rfl) rfl rfl
   ⟨st_plain rfl (op_call _ _ 10 _ _ rfl Try.call10 rfl (ok_diary_New 200 _ hv1) rfl rfl),
   st_plain rfl (op_move_take _ _ _ _ rfl),
   st_plain rfl (op_extract_take _ _ _ _ _ rfl (Nat.le_of_ble_eq_true rfl) rfl rfl (by decide) rfl),
   st_plain rfl (op_extract _ _ _ _ _ rfl rfl (Nat.le_of_ble_eq_true rfl) rfl rfl),
   st_plain rfl (op_assign_take _ _ _ _ rfl),
   st_plain rfl (op_assign _ _ _ _ rfl rfl),
   trivial⟩ ?_
  refine pt_ob (d := default) (f := fun (v2 : T_diary_Diary) => [.v (.int .i64 v2.limit), .fr (.own 46) false 15 (List.flatten (List.map T_Rec.ienc v2.recs)), .v (.int .i64 v2.used), .v (.int .i64 v2.safe), .v (.int .i64 v2.kept), .v (.int .i64 v2.life), .v (.bool v2.off), .v (.int .i64 v2.trip), .v (.int .i64 v2.tripKeep)]) 0 9 1 64 h (es1 := fun v2 => [(1, .box 64 [.v (.int .i64 v2.limit), .fr (.own 46) false 15 (List.flatten (List.map T_Rec.ienc v2.recs)), .v (.int .i64 v2.used), .v (.int .i64 v2.safe), .v (.int .i64 v2.kept), .v (.int .i64 v2.life), .v (.bool v2.off), .v (.int .i64 v2.trip), .v (.int .i64 v2.tripKeep)]), (2, .v (.int .i64 v1.2))]) (es0 := [(1, .v (.pointer none)), (2, .v (.int .i64 v1.2))]) rfl (fun _ => rfl) (by kernel_rfl) (fun _ => rfl) (fun _ => rfl) rfl (fun v2 hv3 h => ?_) (fun hv3 h => ?_)
  ·refine pt_then ?_
   refine ht_seq ?_
   refine ht_seq ?_
   refine ht_joinS h (fun ((s7, s8, s9, s10, s11, s12, s13, s14, s15, s16) : Int × (List T_Rec) × Int × Int × Int × Int × Bool × Int × Int × Bool) => [(1, .box 64 [.v (.int .i64 s7), .fr (.own 46) false 15 (List.flatten (List.map T_Rec.ienc s8)), .v (.int .i64 s9), .v (.int .i64 s10), .v (.int .i64 s11), .v (.int .i64 s12), .v (.bool s13), .v (.int .i64 s14), .v (.int .i64 s15)]), (30, .v (.bool s16))]) ?_ ?_
   ·rintro ⟨s7, s8, s9, s10, s11, s12, s13, s14, s15, s16⟩ h
    refine pt_then ?_
    refine ht_cond _ rfl (fun hb20 => ?_) (fun hb20 => ?_)
    ·have h := cond_t hb20 h
     refine ht_seq ?_
     refine ht_seqR hn (El := [_, _, (0, .v (.bool false))]) (init := [0, 1]) (fin := [2]) (sps := [⟨[], [], [2], [(.slot 0)]⟩]) (es' := [(0, .v (.bool false))]) (by kernel_rfl) rfl rfl
      ⟨st_plain rfl (op_assign _ _ _ _ rfl rfl),
      trivial⟩ ?_
     refine pt_then ?_
     refine ht_ret ?_
     refine pt_r_then ?_
     obtain rfl := Option.some.inj h
     exact pt_ret hio rfl (.tmp _ _ .nil) rfl rfl
    ·have h := cond_f hb20 h
     refine ht_skip ?_
     refine pt_then ?_
     refine ht_seq ?_
     obtain ⟨v21, hv21, h⟩ := bind_some h
     refine ht_seqR hn (El := [_, _, (31, .ptr 1 0), (32, .tup []), (1, .box 64 [.v (.int .i64 v21.limit), .fr (.own 46) false 15 (List.flatten (List.map T_Rec.ienc v21.recs)), .v (.int .i64 v21.used), .v (.int .i64 v21.safe), .v (.int .i64 v21.kept), .v (.int .i64 v21.life), .v (.bool v21.off), .v (.int .i64 v21.trip), .v (.int .i64 v21.tripKeep)])]) (init := [0, 1]) (fin := [4]) (sps := [⟨[0], [], [2], [(.slot 31)]⟩, ⟨[2], [0], [4, 3], [(.slot 32), (.cell 1 0), (.cell 1 1), (.cell 1 2), (.cell 1 3), (.cell 1 4), (.cell 1 5), (.cell 1 6), (.cell 1 7), (.cell 1 8)]⟩]) (es' := [(1, .box 64 [.v (.int .i64 v21.limit), .fr (.own 46) false 15 (List.flatten (List.map T_Rec.ienc v21.recs)), .v (.int .i64 v21.used), .v (.int .i64 v21.safe), .v (.int .i64 v21.kept), .v (.int .i64 v21.life), .v (.bool v21.off), .v (.int .i64 v21.trip), .v (.int .i64 v21.tripKeep)])]) (by kernel_rfl) rfl rfl
      ⟨st_plain rfl (op_move _ _ _ _ rfl rfl),
      st_plain rfl (op_callP _ _ _ _ 32 21 [.tmp 31] [_] _ _ _ rfl Try.call21 rfl rfl rfl (ok_diary_Diary_Crash (T_diary_Diary.mk s7 s8 s9 s10 s11 s12 s13 s14 s15) 0 _ hv21) (Nat.le_of_ble_eq_true rfl) rfl rfl rfl rfl rfl rfl rfl rfl),
      trivial⟩ ?_
     refine pt_then ?_
     refine ht_seq ?_
     obtain ⟨v22, hv22, h⟩ := bind_some h
     refine ht_seqR hn (El := [_, (33, .ptr 1 0), (34, .tup []), (1, .box 64 [.v (.int .i64 v22.limit), .fr (.own 46) false 15 (List.flatten (List.map T_Rec.ienc v22.recs)), .v (.int .i64 v22.used), .v (.int .i64 v22.safe), .v (.int .i64 v22.kept), .v (.int .i64 v22.life), .v (.bool v22.off), .v (.int .i64 v22.trip), .v (.int .i64 v22.tripKeep)])]) (init := [0]) (fin := [3]) (sps := [⟨[0], [], [1], [(.slot 33)]⟩, ⟨[1], [0], [3, 2], [(.slot 34), (.cell 1 0), (.cell 1 1), (.cell 1 2), (.cell 1 3), (.cell 1 4), (.cell 1 5), (.cell 1 6), (.cell 1 7), (.cell 1 8)]⟩]) (es' := [(1, .box 64 [.v (.int .i64 v22.limit), .fr (.own 46) false 15 (List.flatten (List.map T_Rec.ienc v22.recs)), .v (.int .i64 v22.used), .v (.int .i64 v22.safe), .v (.int .i64 v22.kept), .v (.int .i64 v22.life), .v (.bool v22.off), .v (.int .i64 v22.trip), .v (.int .i64 v22.tripKeep)])]) (by kernel_rfl) rfl rfl
      ⟨st_plain rfl (op_move _ _ _ _ rfl rfl),
      st_plain rfl (op_callP _ _ _ _ 34 25 [.tmp 33] [] _ _ _ rfl Try.call25 rfl rfl rfl (ok_diary_Diary_Start v21 _ hv22) (Nat.le_of_ble_eq_true rfl) rfl rfl rfl rfl rfl rfl rfl rfl),
      trivial⟩ ?_
     refine pt_then ?_
     refine ht_seq ?_
     obtain ⟨v23, hv23, h⟩ := bind_some h
     refine ht_seqR hn (El := [_, (36, .ptr 1 0), (37, .tup [.fr (.own 46) false 15 (List.flatten (List.map T_Rec.ienc v23.1)), .v (.int .i64 v23.2.1)]), (1, .box 64 [.v (.int .i64 v23.2.2.limit), .fr (.own 46) false 15 (List.flatten (List.map T_Rec.ienc v23.2.2.recs)), .v (.int .i64 v23.2.2.used), .v (.int .i64 v23.2.2.safe), .v (.int .i64 v23.2.2.kept), .v (.int .i64 v23.2.2.life), .v (.bool v23.2.2.off), .v (.int .i64 v23.2.2.trip), .v (.int .i64 v23.2.2.tripKeep)]), (35, .tup [.fr (.own 46) false 15 (List.flatten (List.map T_Rec.ienc v23.1)), .v (.int .i64 v23.2.1)]), (38, .fr (.own 46) false 15 (List.flatten (List.map T_Rec.ienc v23.1))), (35, .tup [.any, .v (.int .i64 v23.2.1)]), (39, .v (.int .i64 v23.2.1)), (3, .fr (.own 46) false 15 (List.flatten (List.map T_Rec.ienc v23.1))), (2, .v (.int .i64 v23.2.1))]) (init := [0]) (fin := [3, 8, 9]) (sps := [⟨[0], [], [1], [(.slot 36)]⟩, ⟨[1], [0], [3, 2], [(.slot 37), (.cell 1 0), (.cell 1 1), (.cell 1 2), (.cell 1 3), (.cell 1 4), (.cell 1 5), (.cell 1 6), (.cell 1 7), (.cell 1 8)]⟩, ⟨[], [2], [4], [(.slot 35)]⟩, ⟨[], [4], [6, 5], [(.slot 38)]⟩, ⟨[6], [], [7], [(.slot 39)]⟩, ⟨[], [5], [8], [(.slot 3)]⟩, ⟨[7], [], [9], [(.slot 2)]⟩]) (es' := [(1, .box 64 [.v (.int .i64 v23.2.2.limit), .fr (.own 46) false 15 (List.flatten (List.map T_Rec.ienc v23.2.2.recs)), .v (.int .i64 v23.2.2.used), .v (.int .i64 v23.2.2.safe), .v (.int .i64 v23.2.2.kept), .v (.int .i64 v23.2.2.life), .v (.bool v23.2.2.off), .v (.int .i64 v23.2.2.trip), .v (.int .i64 v23.2.2.tripKeep)]), (3, .fr (.own 46) false 15 (List.flatten (List.map T_Rec.ienc v23.1))), (2, .v (.int .i64 v23.2.1))]) (by kernel_rfl) rfl rfl
      ⟨st_plain rfl (op_move _ _ _ _ rfl rfl),
      st_plain rfl (op_callP _ _ _ _ 37 30 [.tmp 36] [] _ _ _ rfl Try.call30 rfl rfl rfl (ok_diary_Diary_Read v22 _ hv23) (Nat.le_of_ble_eq_true rfl) rfl rfl rfl rfl rfl rfl rfl rfl),
      st_plain rfl (op_move_take _ _ _ _ rfl),
      st_plain rfl (op_extract_take _ _ _ _ _ rfl (Nat.le_of_ble_eq_true rfl) rfl rfl (by decide) rfl),
      st_plain rfl (op_extract _ _ _ _ _ rfl rfl (Nat.le_of_ble_eq_true rfl) rfl rfl),
      st_plain rfl (op_assign_take _ _ _ _ rfl),
      st_plain rfl (op_assign _ _ _ _ rfl rfl),
      trivial⟩ ?_
     refine pt_then ?_
     refine ht_seq ?_
     refine ht_joinS h (fun (s30 : Bool) => [(0, .v (.bool s30))]) ?_ ?_
     ·rintro s30 h
      refine pt_then ?_
      refine ht_ret ?_
      obtain rfl := Option.some.inj h
      exact pt_ret hio rfl (.tmp _ _ .nil) rfl rfl
     ·intro u31 h hl32 hr33
      refine cond_some h (fun hg7_2 h => ?_) (fun hg7_2 h => ?_)
      ·refine cond_some h (fun hg7_7 h => ?_) (fun hg7_7 h => ?_)
       ·obtain ⟨v24, hv24, h⟩ := bind_some h
        obtain ⟨v25, hv25, h⟩ := bind_some h
        refine cond_some h (fun hg7_14 h => ?_) (fun hg7_14 h => ?_)
        ·obtain ⟨v26, hv26, h⟩ := bind_some h
         refine cond_some h (fun hg7_19 h => ?_) (fun hg7_19 h => ?_)
         ·obtain ⟨v27, hv27, h⟩ := bind_some h
          refine cond_some h (fun hg7_24 h => ?_) (fun hg7_24 h => ?_)
          ·obtain ⟨v28, hv28, h⟩ := bind_some h
           refine cond_some h (fun hg7_29 h => ?_) (fun hg7_29 h => ?_)
           ·obtain ⟨v29, hv29, h⟩ := bind_some h
            refine ht_seqR hn (El := (_ :: _ :: _ :: (40, .v (.int .i64 v23.2.1)) :: (41, .v (.bool (v23.2.1 == 0))) :: (42, .v (.bool true)) :: (43, .same (.slot 3)) :: (44, .v (.int .i64 (v23.1.length : Int))) :: (45, .v (.bool (((v23.1.length : Int) == 1)))) :: (46, .v (.bool (((v23.1.length : Int) == 1)))) :: (47, .v (.bool true)) :: (48, .fr (.own 46) false 15 (List.flatten (List.map T_Rec.ienc v23.1))) :: (49, .eref (.slot 48) (v24 * 15)) :: (50, .eref (.slot 48) (v24 * 15 + 9)) :: (51, .v (.int .i64 v25.Id)) :: (52, .v (.bool (v25.Id == 1))) :: (53, .v (.bool (v25.Id == 1))) :: (54, .v (.bool true)) :: (55, .ptr 1 0) :: (56, .v (.int .i64 v26.1)) :: (1, .box 64 [.v (.int .i64 v26.2.limit), .fr (.own 46) false 15 (List.flatten (List.map T_Rec.ienc v26.2.recs)), .v (.int .i64 v26.2.used), .v (.int .i64 v26.2.safe), .v (.int .i64 v26.2.kept), .v (.int .i64 v26.2.life), .v (.bool v26.2.off), .v (.int .i64 v26.2.trip), .v (.int .i64 v26.2.tripKeep)]) :: (57, .v (.bool (v26.1 == 104))) :: (58, .v (.bool (v26.1 == 104))) :: (59, .v (.bool true)) :: (60, .ptr 1 0) :: (61, .v (.int .i64 v27.1)) :: (1, .box 64 [.v (.int .i64 v27.2.limit), .fr (.own 46) false 15 (List.flatten (List.map T_Rec.ienc v27.2.recs)), .v (.int .i64 v27.2.used), .v (.int .i64 v27.2.safe), .v (.int .i64 v27.2.kept), .v (.int .i64 v27.2.life), .v (.bool v27.2.off), .v (.int .i64 v27.2.trip), .v (.int .i64 v27.2.tripKeep)]) :: (62, .v (.bool (v27.1 == 1))) :: (63, .v (.bool (v27.1 == 1))) :: (64, .v (.bool true)) :: (65, .box 64 [.v (.int .i64 v27.2.limit), .fr (.own 46) false 15 (List.flatten (List.map T_Rec.ienc v27.2.recs)), .v (.int .i64 v27.2.used), .v (.int .i64 v27.2.safe), .v (.int .i64 v27.2.kept), .v (.int .i64 v27.2.life), .v (.bool v27.2.off), .v (.int .i64 v27.2.trip), .v (.int .i64 v27.2.tripKeep)]) :: (66, .v (.int .i64 v28.1)) :: (65, .box 64 [.v (.int .i64 v28.2.limit), .fr (.own 46) false 15 (List.flatten (List.map T_Rec.ienc v28.2.recs)), .v (.int .i64 v28.2.used), .v (.int .i64 v28.2.safe), .v (.int .i64 v28.2.kept), .v (.int .i64 v28.2.life), .v (.bool v28.2.off), .v (.int .i64 v28.2.trip), .v (.int .i64 v28.2.tripKeep)]) :: (67, .v (.bool (v28.1 == 0))) :: (68, .v (.bool (v28.1 == 0))) :: (69, .v (.bool true)) :: (70, .agg [.v (.int .i64 0), .v (.bool false), .v (.string (⟨#[]⟩ : ByteArray)), .v (.string (⟨#[]⟩ : ByteArray)), .v (.slice none 0 0), .v (.slice none 0 0), .v (.bool false), .v (.string (⟨#[]⟩ : ByteArray)), .v (.int .i64 0), .v (.int .i64 0), .v (.slice none 0 0), .v (.int .i64 0), .v (.int .i64 0), .v (.int .i64 0), .v (.slice none 0 0)]) :: (71, .v (.int .i64 v29)) :: (72, .v (.bool (v29 == 104))) :: (73, .v (.bool (v29 == 104))) :: (0, .v (.bool (v29 == 104))) :: [])) (init := [0, 1, 2]) (fin := [40]) (sps := (⟨[2], [], [3], [(.slot 40)]⟩ :: ⟨[3], [], [4], [(.slot 41)]⟩ :: ⟨[4], [], [5], [(.slot 42)]⟩ :: ⟨[5, 1], [], [6], [(.slot 43)]⟩ :: ⟨[5, 6, 1], [], [7], [(.slot 44)]⟩ :: ⟨[5, 7], [], [8], [(.slot 45)]⟩ :: ⟨[5, 8], [], [9], [(.slot 46)]⟩ :: ⟨[9], [], [10], [(.slot 47)]⟩ :: ⟨[10], [6, 1], [11], [(.slot 48)]⟩ :: ⟨[10, 11], [], [12], [(.slot 49)]⟩ :: ⟨[10, 12, 11], [], [13], [(.slot 50)]⟩ :: ⟨[10, 13, 11], [], [14], [(.slot 51)]⟩ :: ⟨[10, 14], [], [15], [(.slot 52)]⟩ :: ⟨[10, 15], [], [16], [(.slot 53)]⟩ :: ⟨[16], [], [17], [(.slot 54)]⟩ :: ⟨[17, 0], [], [18], [(.slot 55)]⟩ :: ⟨[17, 18], [0], [20, 19], [(.slot 56), (.cell 1 0), (.cell 1 1), (.cell 1 2), (.cell 1 3), (.cell 1 4), (.cell 1 5), (.cell 1 6), (.cell 1 7), (.cell 1 8)]⟩ :: ⟨[17, 19], [], [21], [(.slot 57)]⟩ :: ⟨[17, 21], [], [22], [(.slot 58)]⟩ :: ⟨[22], [], [23], [(.slot 59)]⟩ :: ⟨[23, 20], [], [24], [(.slot 60)]⟩ :: ⟨[23, 24], [20], [26, 25], [(.slot 61), (.cell 1 0), (.cell 1 1), (.cell 1 2), (.cell 1 3), (.cell 1 4), (.cell 1 5), (.cell 1 6), (.cell 1 7), (.cell 1 8)]⟩ :: ⟨[23, 25], [], [27], [(.slot 62)]⟩ :: ⟨[23, 27], [], [28], [(.slot 63)]⟩ :: ⟨[28], [], [29], [(.slot 64)]⟩ :: ⟨[29], [18, 24, 26], [30], [(.slot 65)]⟩ :: ⟨[29], [30], [32, 31], [(.slot 66), (.cell 65 0), (.cell 65 1), (.cell 65 2), (.cell 65 3), (.cell 65 4), (.cell 65 5), (.cell 65 6), (.cell 65 7), (.cell 65 8)]⟩ :: ⟨[29, 31], [], [33], [(.slot 67)]⟩ :: ⟨[29, 33], [], [34], [(.slot 68)]⟩ :: ⟨[34], [], [35], [(.slot 69)]⟩ :: ⟨[35], [], [36], [(.slot 70)]⟩ :: ⟨[35, 36], [], [37], [(.slot 71)]⟩ :: ⟨[35, 37], [], [38], [(.slot 72)]⟩ :: ⟨[35, 38], [], [39], [(.slot 73)]⟩ :: ⟨[39], [], [40], [(.slot 0)]⟩ :: [])) (es' := [(0, .v (.bool (v29 == 104)))]) (by kernel_rfl) rfl rfl
             ⟨st_plain rfl (op_move _ _ _ _ rfl rfl),
             st_plain rfl (op_bin _ _ _ _ _ rfl rfl rfl),
             st_plain rfl (op_move _ _ _ _ (congrArg (fun b => AV.v (Value.bool b)) hg7_2) rfl),
             st_run 2 42 true rfl rfl rfl (List.Mem.head _) (op_move _ _ _ _ rfl rfl),
             st_run 2 42 true rfl rfl rfl (List.Mem.head _) (op_len_fr _ _ _ Try.underlying31 rfl (by decide) (gflat_len T_Rec.ilen _)),
             st_run 2 42 true rfl rfl rfl (List.Mem.head _) (op_bin _ _ _ _ _ rfl rfl rfl),
             st_plain rfl (op_pick _ _ true _ rfl rfl),
             st_plain rfl (op_move _ _ _ _ (congrArg (fun b => AV.v (Value.bool b)) hg7_7) rfl),
             st_run 7 47 true rfl rfl rfl (List.Mem.head _) (LOp.drop [_] (op_move_take _ _ _ _ rfl)),
             st_run 7 47 true rfl rfl rfl (List.Mem.head _) (op_ix_fr _ _ _ _ _ _ _ _ Try.underlying31 sz46 (by decide) rfl rfl rfl (ix_ok hv24).1 (gflat_lt T_Rec.ilen (ix_ok hv24).2) rfl),
             st_run 7 47 true rfl rfl rfl (List.Mem.head _) (op_fieldAddr_e _ _ _ _ _ _ _ Try.underlying46 rfl sz3 rfl rfl rfl),
             st_run 7 47 true rfl rfl rfl (List.Mem.head _) (op_load_fr _ _ _ _ _ _ _ Try.underlying3 rfl rfl rfl (gflat_cell T_Rec.ilen hv25 rfl) (.v _)),
             st_run 7 47 true rfl rfl rfl (List.Mem.head _) (op_bin _ _ _ _ _ rfl rfl rfl),
             st_plain rfl (op_pick _ _ true _ rfl rfl),
             st_plain rfl (op_move _ _ _ _ (congrArg (fun b => AV.v (Value.bool b)) hg7_14) rfl),
             st_run 14 54 true rfl rfl rfl (List.Mem.head _) (op_move _ _ _ _ rfl rfl),
             st_run 14 54 true rfl rfl rfl (List.Mem.head _) (op_callP _ _ _ _ 56 35 [.tmp 55] [] _ _ _ rfl Try.call35 rfl rfl rfl (ok_diary_Diary_Used v23.2.2 _ hv26) (Nat.le_of_ble_eq_true rfl) rfl rfl rfl rfl rfl rfl rfl rfl),
             st_run 14 54 true rfl rfl rfl (List.Mem.head _) (op_bin _ _ _ _ _ rfl rfl rfl),
             st_plain rfl (op_pick _ _ true _ rfl rfl),
             st_plain rfl (op_move _ _ _ _ (congrArg (fun b => AV.v (Value.bool b)) hg7_19) rfl),
             st_run 19 59 true rfl rfl rfl (List.Mem.head _) (op_move _ _ _ _ rfl rfl),
             st_run 19 59 true rfl rfl rfl (List.Mem.head _) (op_callP _ _ _ _ 61 36 [.tmp 60] [] _ _ _ rfl Try.call36 rfl rfl rfl (ok_diary_Diary_Life v26.2 _ hv27) (Nat.le_of_ble_eq_true rfl) rfl rfl rfl rfl rfl rfl rfl rfl),
             st_run 19 59 true rfl rfl rfl (List.Mem.head _) (op_bin _ _ _ _ _ rfl rfl rfl),
             st_plain rfl (op_pick _ _ true _ rfl rfl),
             st_plain rfl (op_move _ _ _ _ (congrArg (fun b => AV.v (Value.bool b)) hg7_24) rfl),
             st_run 24 64 true rfl rfl rfl (List.Mem.head _) (LOp.drop [_] (LOp.drop [_] (op_move_take _ _ _ _ rfl))),
             st_run 24 64 true rfl rfl rfl (List.Mem.head _) (op_callP _ _ _ _ 66 32 [.tmp 65] [] _ _ _ rfl Try.call32 rfl rfl rfl (ok_diary_Diary_Kept v27.2 _ hv28) (Nat.le_of_ble_eq_true rfl) rfl rfl rfl rfl rfl rfl rfl rfl),
             st_run 24 64 true rfl rfl rfl (List.Mem.head _) (op_bin _ _ _ _ _ rfl rfl rfl),
             st_plain rfl (op_pick _ _ true _ rfl rfl),
             st_plain rfl (op_move _ _ _ _ (congrArg (fun b => AV.v (Value.bool b)) hg7_29) rfl),
             st_run 29 69 true rfl rfl rfl (List.Mem.head _) (op_build _ _ _ _ [1, 8, 1, 1, 1, 1, 1, 1] _ _ Try.underlying46 zr46 (fs46 _ Try.underlying46) Src.nil rfl rfl rfl),
             st_run 29 69 true rfl rfl rfl (List.Mem.head _) (op_call _ _ 33 _ _ rfl Try.call33 rfl ((ok_diary_Room ((T_Rec.mk 0 ((T_Mail.mk ((T_Path.mk false (⟨#[]⟩ : ByteArray) (⟨#[]⟩ : ByteArray))) [] [] false (⟨#[]⟩ : ByteArray) 0)) 0 [] 0 0 0 [])) _ hv29).args (subs_cons (sub_agg (subs_cons (sub_refl _) (subs_cons (sub_refl _) (subs_cons (sub_refl _) (subs_cons (sub_refl _) (subs_cons (sub_nil_shr 3) (subs_cons (sub_nil_shr 1) (subs_cons (sub_refl _) (subs_cons (sub_refl _) (subs_cons (sub_refl _) (subs_cons (sub_refl _) (subs_cons (sub_nil_shr 1) (subs_cons (sub_refl _) (subs_cons (sub_refl _) (subs_cons (sub_refl _) (subs_cons (sub_nil_shr 1) (subs_nil))))))))))))))))) (subs_nil))) rfl rfl),
             st_run 29 69 true rfl rfl rfl (List.Mem.head _) (op_bin _ _ _ _ _ rfl rfl rfl),
             st_plain rfl (op_pick _ _ true _ rfl rfl),
             st_plain rfl (op_assign _ _ _ _ rfl rfl),
             trivial⟩ ?_
            exact hl32 _ (Option.some.inj h).symm
           ·refine ht_seqR hn (El := (_ :: _ :: _ :: (40, .v (.int .i64 v23.2.1)) :: (41, .v (.bool (v23.2.1 == 0))) :: (42, .v (.bool true)) :: (43, .same (.slot 3)) :: (44, .v (.int .i64 (v23.1.length : Int))) :: (45, .v (.bool (((v23.1.length : Int) == 1)))) :: (46, .v (.bool (((v23.1.length : Int) == 1)))) :: (47, .v (.bool true)) :: (48, .fr (.own 46) false 15 (List.flatten (List.map T_Rec.ienc v23.1))) :: (49, .eref (.slot 48) (v24 * 15)) :: (50, .eref (.slot 48) (v24 * 15 + 9)) :: (51, .v (.int .i64 v25.Id)) :: (52, .v (.bool (v25.Id == 1))) :: (53, .v (.bool (v25.Id == 1))) :: (54, .v (.bool true)) :: (55, .ptr 1 0) :: (56, .v (.int .i64 v26.1)) :: (1, .box 64 [.v (.int .i64 v26.2.limit), .fr (.own 46) false 15 (List.flatten (List.map T_Rec.ienc v26.2.recs)), .v (.int .i64 v26.2.used), .v (.int .i64 v26.2.safe), .v (.int .i64 v26.2.kept), .v (.int .i64 v26.2.life), .v (.bool v26.2.off), .v (.int .i64 v26.2.trip), .v (.int .i64 v26.2.tripKeep)]) :: (57, .v (.bool (v26.1 == 104))) :: (58, .v (.bool (v26.1 == 104))) :: (59, .v (.bool true)) :: (60, .ptr 1 0) :: (61, .v (.int .i64 v27.1)) :: (1, .box 64 [.v (.int .i64 v27.2.limit), .fr (.own 46) false 15 (List.flatten (List.map T_Rec.ienc v27.2.recs)), .v (.int .i64 v27.2.used), .v (.int .i64 v27.2.safe), .v (.int .i64 v27.2.kept), .v (.int .i64 v27.2.life), .v (.bool v27.2.off), .v (.int .i64 v27.2.trip), .v (.int .i64 v27.2.tripKeep)]) :: (62, .v (.bool (v27.1 == 1))) :: (63, .v (.bool (v27.1 == 1))) :: (64, .v (.bool true)) :: (65, .box 64 [.v (.int .i64 v27.2.limit), .fr (.own 46) false 15 (List.flatten (List.map T_Rec.ienc v27.2.recs)), .v (.int .i64 v27.2.used), .v (.int .i64 v27.2.safe), .v (.int .i64 v27.2.kept), .v (.int .i64 v27.2.life), .v (.bool v27.2.off), .v (.int .i64 v27.2.trip), .v (.int .i64 v27.2.tripKeep)]) :: (66, .v (.int .i64 v28.1)) :: (65, .box 64 [.v (.int .i64 v28.2.limit), .fr (.own 46) false 15 (List.flatten (List.map T_Rec.ienc v28.2.recs)), .v (.int .i64 v28.2.used), .v (.int .i64 v28.2.safe), .v (.int .i64 v28.2.kept), .v (.int .i64 v28.2.life), .v (.bool v28.2.off), .v (.int .i64 v28.2.trip), .v (.int .i64 v28.2.tripKeep)]) :: (67, .v (.bool (v28.1 == 0))) :: (68, .v (.bool (v28.1 == 0))) :: (69, .v (.bool false)) :: (70, .v undef) :: (71, .v undef) :: (72, .v undef) :: (73, .v (.bool false)) :: (0, .v (.bool false)) :: [])) (init := [0, 1, 2]) (fin := [40]) (sps := (⟨[2], [], [3], [(.slot 40)]⟩ :: ⟨[3], [], [4], [(.slot 41)]⟩ :: ⟨[4], [], [5], [(.slot 42)]⟩ :: ⟨[5, 1], [], [6], [(.slot 43)]⟩ :: ⟨[5, 6, 1], [], [7], [(.slot 44)]⟩ :: ⟨[5, 7], [], [8], [(.slot 45)]⟩ :: ⟨[5, 8], [], [9], [(.slot 46)]⟩ :: ⟨[9], [], [10], [(.slot 47)]⟩ :: ⟨[10], [6, 1], [11], [(.slot 48)]⟩ :: ⟨[10, 11], [], [12], [(.slot 49)]⟩ :: ⟨[10, 12, 11], [], [13], [(.slot 50)]⟩ :: ⟨[10, 13, 11], [], [14], [(.slot 51)]⟩ :: ⟨[10, 14], [], [15], [(.slot 52)]⟩ :: ⟨[10, 15], [], [16], [(.slot 53)]⟩ :: ⟨[16], [], [17], [(.slot 54)]⟩ :: ⟨[17, 0], [], [18], [(.slot 55)]⟩ :: ⟨[17, 18], [0], [20, 19], [(.slot 56), (.cell 1 0), (.cell 1 1), (.cell 1 2), (.cell 1 3), (.cell 1 4), (.cell 1 5), (.cell 1 6), (.cell 1 7), (.cell 1 8)]⟩ :: ⟨[17, 19], [], [21], [(.slot 57)]⟩ :: ⟨[17, 21], [], [22], [(.slot 58)]⟩ :: ⟨[22], [], [23], [(.slot 59)]⟩ :: ⟨[23, 20], [], [24], [(.slot 60)]⟩ :: ⟨[23, 24], [20], [26, 25], [(.slot 61), (.cell 1 0), (.cell 1 1), (.cell 1 2), (.cell 1 3), (.cell 1 4), (.cell 1 5), (.cell 1 6), (.cell 1 7), (.cell 1 8)]⟩ :: ⟨[23, 25], [], [27], [(.slot 62)]⟩ :: ⟨[23, 27], [], [28], [(.slot 63)]⟩ :: ⟨[28], [], [29], [(.slot 64)]⟩ :: ⟨[29], [18, 24, 26], [30], [(.slot 65)]⟩ :: ⟨[29], [30], [32, 31], [(.slot 66), (.cell 65 0), (.cell 65 1), (.cell 65 2), (.cell 65 3), (.cell 65 4), (.cell 65 5), (.cell 65 6), (.cell 65 7), (.cell 65 8)]⟩ :: ⟨[29, 31], [], [33], [(.slot 67)]⟩ :: ⟨[29, 33], [], [34], [(.slot 68)]⟩ :: ⟨[34], [], [35], [(.slot 69)]⟩ :: ⟨[35], [], [36], [(.slot 70)]⟩ :: ⟨[35], [], [37], [(.slot 71)]⟩ :: ⟨[35], [], [38], [(.slot 72)]⟩ :: ⟨[35], [], [39], [(.slot 73)]⟩ :: ⟨[39], [], [40], [(.slot 0)]⟩ :: [])) (es' := [(0, .v (.bool false))]) (by kernel_rfl) rfl rfl
             ⟨st_plain rfl (op_move _ _ _ _ rfl rfl),
             st_plain rfl (op_bin _ _ _ _ _ rfl rfl rfl),
             st_plain rfl (op_move _ _ _ _ (congrArg (fun b => AV.v (Value.bool b)) hg7_2) rfl),
             st_run 2 42 true rfl rfl rfl (List.Mem.head _) (op_move _ _ _ _ rfl rfl),
             st_run 2 42 true rfl rfl rfl (List.Mem.head _) (op_len_fr _ _ _ Try.underlying31 rfl (by decide) (gflat_len T_Rec.ilen _)),
             st_run 2 42 true rfl rfl rfl (List.Mem.head _) (op_bin _ _ _ _ _ rfl rfl rfl),
             st_plain rfl (op_pick _ _ true _ rfl rfl),
             st_plain rfl (op_move _ _ _ _ (congrArg (fun b => AV.v (Value.bool b)) hg7_7) rfl),
             st_run 7 47 true rfl rfl rfl (List.Mem.head _) (LOp.drop [_] (op_move_take _ _ _ _ rfl)),
             st_run 7 47 true rfl rfl rfl (List.Mem.head _) (op_ix_fr _ _ _ _ _ _ _ _ Try.underlying31 sz46 (by decide) rfl rfl rfl (ix_ok hv24).1 (gflat_lt T_Rec.ilen (ix_ok hv24).2) rfl),
             st_run 7 47 true rfl rfl rfl (List.Mem.head _) (op_fieldAddr_e _ _ _ _ _ _ _ Try.underlying46 rfl sz3 rfl rfl rfl),
             st_run 7 47 true rfl rfl rfl (List.Mem.head _) (op_load_fr _ _ _ _ _ _ _ Try.underlying3 rfl rfl rfl (gflat_cell T_Rec.ilen hv25 rfl) (.v _)),
             st_run 7 47 true rfl rfl rfl (List.Mem.head _) (op_bin _ _ _ _ _ rfl rfl rfl),
             st_plain rfl (op_pick _ _ true _ rfl rfl),
             st_plain rfl (op_move _ _ _ _ (congrArg (fun b => AV.v (Value.bool b)) hg7_14) rfl),
             st_run 14 54 true rfl rfl rfl (List.Mem.head _) (op_move _ _ _ _ rfl rfl),
             st_run 14 54 true rfl rfl rfl (List.Mem.head _) (op_callP _ _ _ _ 56 35 [.tmp 55] [] _ _ _ rfl Try.call35 rfl rfl rfl (ok_diary_Diary_Used v23.2.2 _ hv26) (Nat.le_of_ble_eq_true rfl) rfl rfl rfl rfl rfl rfl rfl rfl),
             st_run 14 54 true rfl rfl rfl (List.Mem.head _) (op_bin _ _ _ _ _ rfl rfl rfl),
             st_plain rfl (op_pick _ _ true _ rfl rfl),
             st_plain rfl (op_move _ _ _ _ (congrArg (fun b => AV.v (Value.bool b)) hg7_19) rfl),
             st_run 19 59 true rfl rfl rfl (List.Mem.head _) (op_move _ _ _ _ rfl rfl),
             st_run 19 59 true rfl rfl rfl (List.Mem.head _) (op_callP _ _ _ _ 61 36 [.tmp 60] [] _ _ _ rfl Try.call36 rfl rfl rfl (ok_diary_Diary_Life v26.2 _ hv27) (Nat.le_of_ble_eq_true rfl) rfl rfl rfl rfl rfl rfl rfl rfl),
             st_run 19 59 true rfl rfl rfl (List.Mem.head _) (op_bin _ _ _ _ _ rfl rfl rfl),
             st_plain rfl (op_pick _ _ true _ rfl rfl),
             st_plain rfl (op_move _ _ _ _ (congrArg (fun b => AV.v (Value.bool b)) hg7_24) rfl),
             st_run 24 64 true rfl rfl rfl (List.Mem.head _) (LOp.drop [_] (LOp.drop [_] (op_move_take _ _ _ _ rfl))),
             st_run 24 64 true rfl rfl rfl (List.Mem.head _) (op_callP _ _ _ _ 66 32 [.tmp 65] [] _ _ _ rfl Try.call32 rfl rfl rfl (ok_diary_Diary_Kept v27.2 _ hv28) (Nat.le_of_ble_eq_true rfl) rfl rfl rfl rfl rfl rfl rfl rfl),
             st_run 24 64 true rfl rfl rfl (List.Mem.head _) (op_bin _ _ _ _ _ rfl rfl rfl),
             st_plain rfl (op_pick _ _ true _ rfl rfl),
             st_plain rfl (op_move _ _ _ _ (congrArg (fun b => AV.v (Value.bool b)) hg7_29) rfl),
             st_skip 29 69 _ true rfl rfl rfl rfl (List.Mem.head _),
             st_skip 29 69 _ true rfl rfl rfl rfl (List.Mem.head _),
             st_skip 29 69 _ true rfl rfl rfl rfl (List.Mem.head _),
             st_plain rfl (op_pick _ _ false _ rfl rfl),
             st_plain rfl (op_assign _ _ _ _ rfl rfl),
             trivial⟩ ?_
            exact hl32 _ (Option.some.inj h).symm
          ·refine ht_seqR hn (El := (_ :: _ :: _ :: (40, .v (.int .i64 v23.2.1)) :: (41, .v (.bool (v23.2.1 == 0))) :: (42, .v (.bool true)) :: (43, .same (.slot 3)) :: (44, .v (.int .i64 (v23.1.length : Int))) :: (45, .v (.bool (((v23.1.length : Int) == 1)))) :: (46, .v (.bool (((v23.1.length : Int) == 1)))) :: (47, .v (.bool true)) :: (48, .fr (.own 46) false 15 (List.flatten (List.map T_Rec.ienc v23.1))) :: (49, .eref (.slot 48) (v24 * 15)) :: (50, .eref (.slot 48) (v24 * 15 + 9)) :: (51, .v (.int .i64 v25.Id)) :: (52, .v (.bool (v25.Id == 1))) :: (53, .v (.bool (v25.Id == 1))) :: (54, .v (.bool true)) :: (55, .ptr 1 0) :: (56, .v (.int .i64 v26.1)) :: (1, .box 64 [.v (.int .i64 v26.2.limit), .fr (.own 46) false 15 (List.flatten (List.map T_Rec.ienc v26.2.recs)), .v (.int .i64 v26.2.used), .v (.int .i64 v26.2.safe), .v (.int .i64 v26.2.kept), .v (.int .i64 v26.2.life), .v (.bool v26.2.off), .v (.int .i64 v26.2.trip), .v (.int .i64 v26.2.tripKeep)]) :: (57, .v (.bool (v26.1 == 104))) :: (58, .v (.bool (v26.1 == 104))) :: (59, .v (.bool true)) :: (60, .ptr 1 0) :: (61, .v (.int .i64 v27.1)) :: (1, .box 64 [.v (.int .i64 v27.2.limit), .fr (.own 46) false 15 (List.flatten (List.map T_Rec.ienc v27.2.recs)), .v (.int .i64 v27.2.used), .v (.int .i64 v27.2.safe), .v (.int .i64 v27.2.kept), .v (.int .i64 v27.2.life), .v (.bool v27.2.off), .v (.int .i64 v27.2.trip), .v (.int .i64 v27.2.tripKeep)]) :: (62, .v (.bool (v27.1 == 1))) :: (63, .v (.bool (v27.1 == 1))) :: (64, .v (.bool false)) :: (65, .v undef) :: (66, .v undef) :: (67, .v undef) :: (68, .v (.bool false)) :: (69, .v (.bool false)) :: (70, .v undef) :: (71, .v undef) :: (72, .v undef) :: (73, .v (.bool false)) :: (0, .v (.bool false)) :: [])) (init := [0, 1, 2]) (fin := [39]) (sps := (⟨[2], [], [3], [(.slot 40)]⟩ :: ⟨[3], [], [4], [(.slot 41)]⟩ :: ⟨[4], [], [5], [(.slot 42)]⟩ :: ⟨[5, 1], [], [6], [(.slot 43)]⟩ :: ⟨[5, 6, 1], [], [7], [(.slot 44)]⟩ :: ⟨[5, 7], [], [8], [(.slot 45)]⟩ :: ⟨[5, 8], [], [9], [(.slot 46)]⟩ :: ⟨[9], [], [10], [(.slot 47)]⟩ :: ⟨[10], [6, 1], [11], [(.slot 48)]⟩ :: ⟨[10, 11], [], [12], [(.slot 49)]⟩ :: ⟨[10, 12, 11], [], [13], [(.slot 50)]⟩ :: ⟨[10, 13, 11], [], [14], [(.slot 51)]⟩ :: ⟨[10, 14], [], [15], [(.slot 52)]⟩ :: ⟨[10, 15], [], [16], [(.slot 53)]⟩ :: ⟨[16], [], [17], [(.slot 54)]⟩ :: ⟨[17, 0], [], [18], [(.slot 55)]⟩ :: ⟨[17, 18], [0], [20, 19], [(.slot 56), (.cell 1 0), (.cell 1 1), (.cell 1 2), (.cell 1 3), (.cell 1 4), (.cell 1 5), (.cell 1 6), (.cell 1 7), (.cell 1 8)]⟩ :: ⟨[17, 19], [], [21], [(.slot 57)]⟩ :: ⟨[17, 21], [], [22], [(.slot 58)]⟩ :: ⟨[22], [], [23], [(.slot 59)]⟩ :: ⟨[23, 20], [], [24], [(.slot 60)]⟩ :: ⟨[23, 24], [20], [26, 25], [(.slot 61), (.cell 1 0), (.cell 1 1), (.cell 1 2), (.cell 1 3), (.cell 1 4), (.cell 1 5), (.cell 1 6), (.cell 1 7), (.cell 1 8)]⟩ :: ⟨[23, 25], [], [27], [(.slot 62)]⟩ :: ⟨[23, 27], [], [28], [(.slot 63)]⟩ :: ⟨[28], [], [29], [(.slot 64)]⟩ :: ⟨[29], [], [30], [(.slot 65)]⟩ :: ⟨[29], [], [31], [(.slot 66)]⟩ :: ⟨[29], [], [32], [(.slot 67)]⟩ :: ⟨[29], [], [33], [(.slot 68)]⟩ :: ⟨[33], [], [34], [(.slot 69)]⟩ :: ⟨[34], [], [35], [(.slot 70)]⟩ :: ⟨[34], [], [36], [(.slot 71)]⟩ :: ⟨[34], [], [37], [(.slot 72)]⟩ :: ⟨[34], [], [38], [(.slot 73)]⟩ :: ⟨[38], [], [39], [(.slot 0)]⟩ :: [])) (es' := [(0, .v (.bool false))]) (by kernel_rfl) rfl rfl
            ⟨st_plain rfl (op_move _ _ _ _ rfl rfl),
            st_plain rfl (op_bin _ _ _ _ _ rfl rfl rfl),
            st_plain rfl (op_move _ _ _ _ (congrArg (fun b => AV.v (Value.bool b)) hg7_2) rfl),
            st_run 2 42 true rfl rfl rfl (List.Mem.head _) (op_move _ _ _ _ rfl rfl),
            st_run 2 42 true rfl rfl rfl (List.Mem.head _) (op_len_fr _ _ _ Try.underlying31 rfl (by decide) (gflat_len T_Rec.ilen _)),
            st_run 2 42 true rfl rfl rfl (List.Mem.head _) (op_bin _ _ _ _ _ rfl rfl rfl),
            st_plain rfl (op_pick _ _ true _ rfl rfl),
            st_plain rfl (op_move _ _ _ _ (congrArg (fun b => AV.v (Value.bool b)) hg7_7) rfl),
            st_run 7 47 true rfl rfl rfl (List.Mem.head _) (LOp.drop [_] (op_move_take _ _ _ _ rfl)),
            st_run 7 47 true rfl rfl rfl (List.Mem.head _) (op_ix_fr _ _ _ _ _ _ _ _ Try.underlying31 sz46 (by decide) rfl rfl rfl (ix_ok hv24).1 (gflat_lt T_Rec.ilen (ix_ok hv24).2) rfl),
            st_run 7 47 true rfl rfl rfl (List.Mem.head _) (op_fieldAddr_e _ _ _ _ _ _ _ Try.underlying46 rfl sz3 rfl rfl rfl),
            st_run 7 47 true rfl rfl rfl (List.Mem.head _) (op_load_fr _ _ _ _ _ _ _ Try.underlying3 rfl rfl rfl (gflat_cell T_Rec.ilen hv25 rfl) (.v _)),
            st_run 7 47 true rfl rfl rfl (List.Mem.head _) (op_bin _ _ _ _ _ rfl rfl rfl),
            st_plain rfl (op_pick _ _ true _ rfl rfl),
            st_plain rfl (op_move _ _ _ _ (congrArg (fun b => AV.v (Value.bool b)) hg7_14) rfl),
            st_run 14 54 true rfl rfl rfl (List.Mem.head _) (op_move _ _ _ _ rfl rfl),
            st_run 14 54 true rfl rfl rfl (List.Mem.head _) (op_callP _ _ _ _ 56 35 [.tmp 55] [] _ _ _ rfl Try.call35 rfl rfl rfl (ok_diary_Diary_Used v23.2.2 _ hv26) (Nat.le_of_ble_eq_true rfl) rfl rfl rfl rfl rfl rfl rfl rfl),
            st_run 14 54 true rfl rfl rfl (List.Mem.head _) (op_bin _ _ _ _ _ rfl rfl rfl),
            st_plain rfl (op_pick _ _ true _ rfl rfl),
            st_plain rfl (op_move _ _ _ _ (congrArg (fun b => AV.v (Value.bool b)) hg7_19) rfl),
            st_run 19 59 true rfl rfl rfl (List.Mem.head _) (op_move _ _ _ _ rfl rfl),
            st_run 19 59 true rfl rfl rfl (List.Mem.head _) (op_callP _ _ _ _ 61 36 [.tmp 60] [] _ _ _ rfl Try.call36 rfl rfl rfl (ok_diary_Diary_Life v26.2 _ hv27) (Nat.le_of_ble_eq_true rfl) rfl rfl rfl rfl rfl rfl rfl rfl),
            st_run 19 59 true rfl rfl rfl (List.Mem.head _) (op_bin _ _ _ _ _ rfl rfl rfl),
            st_plain rfl (op_pick _ _ true _ rfl rfl),
            st_plain rfl (op_move _ _ _ _ (congrArg (fun b => AV.v (Value.bool b)) hg7_24) rfl),
            st_skip 24 64 _ true rfl rfl rfl rfl (List.Mem.head _),
            st_skip 24 64 _ true rfl rfl rfl rfl (List.Mem.head _),
            st_skip 24 64 _ true rfl rfl rfl rfl (List.Mem.head _),
            st_plain rfl (op_pick _ _ false _ rfl rfl),
            st_plain rfl (op_move _ _ _ _ rfl rfl),
            st_skip 29 69 _ true rfl rfl rfl rfl (List.Mem.head _),
            st_skip 29 69 _ true rfl rfl rfl rfl (List.Mem.head _),
            st_skip 29 69 _ true rfl rfl rfl rfl (List.Mem.head _),
            st_plain rfl (op_pick _ _ false _ rfl rfl),
            st_plain rfl (op_assign _ _ _ _ rfl rfl),
            trivial⟩ ?_
           exact hl32 _ (Option.some.inj h).symm
         ·refine ht_seqR hn (El := (_ :: _ :: _ :: (40, .v (.int .i64 v23.2.1)) :: (41, .v (.bool (v23.2.1 == 0))) :: (42, .v (.bool true)) :: (43, .same (.slot 3)) :: (44, .v (.int .i64 (v23.1.length : Int))) :: (45, .v (.bool (((v23.1.length : Int) == 1)))) :: (46, .v (.bool (((v23.1.length : Int) == 1)))) :: (47, .v (.bool true)) :: (48, .fr (.own 46) false 15 (List.flatten (List.map T_Rec.ienc v23.1))) :: (49, .eref (.slot 48) (v24 * 15)) :: (50, .eref (.slot 48) (v24 * 15 + 9)) :: (51, .v (.int .i64 v25.Id)) :: (52, .v (.bool (v25.Id == 1))) :: (53, .v (.bool (v25.Id == 1))) :: (54, .v (.bool true)) :: (55, .ptr 1 0) :: (56, .v (.int .i64 v26.1)) :: (1, .box 64 [.v (.int .i64 v26.2.limit), .fr (.own 46) false 15 (List.flatten (List.map T_Rec.ienc v26.2.recs)), .v (.int .i64 v26.2.used), .v (.int .i64 v26.2.safe), .v (.int .i64 v26.2.kept), .v (.int .i64 v26.2.life), .v (.bool v26.2.off), .v (.int .i64 v26.2.trip), .v (.int .i64 v26.2.tripKeep)]) :: (57, .v (.bool (v26.1 == 104))) :: (58, .v (.bool (v26.1 == 104))) :: (59, .v (.bool false)) :: (60, .v undef) :: (61, .v undef) :: (62, .v undef) :: (63, .v (.bool false)) :: (64, .v (.bool false)) :: (65, .v undef) :: (66, .v undef) :: (67, .v undef) :: (68, .v (.bool false)) :: (69, .v (.bool false)) :: (70, .v undef) :: (71, .v undef) :: (72, .v undef) :: (73, .v (.bool false)) :: (0, .v (.bool false)) :: [])) (init := [0, 1, 2]) (fin := [38]) (sps := (⟨[2], [], [3], [(.slot 40)]⟩ :: ⟨[3], [], [4], [(.slot 41)]⟩ :: ⟨[4], [], [5], [(.slot 42)]⟩ :: ⟨[5, 1], [], [6], [(.slot 43)]⟩ :: ⟨[5, 6, 1], [], [7], [(.slot 44)]⟩ :: ⟨[5, 7], [], [8], [(.slot 45)]⟩ :: ⟨[5, 8], [], [9], [(.slot 46)]⟩ :: ⟨[9], [], [10], [(.slot 47)]⟩ :: ⟨[10], [6, 1], [11], [(.slot 48)]⟩ :: ⟨[10, 11], [], [12], [(.slot 49)]⟩ :: ⟨[10, 12, 11], [], [13], [(.slot 50)]⟩ :: ⟨[10, 13, 11], [], [14], [(.slot 51)]⟩ :: ⟨[10, 14], [], [15], [(.slot 52)]⟩ :: ⟨[10, 15], [], [16], [(.slot 53)]⟩ :: ⟨[16], [], [17], [(.slot 54)]⟩ :: ⟨[17, 0], [], [18], [(.slot 55)]⟩ :: ⟨[17, 18], [0], [20, 19], [(.slot 56), (.cell 1 0), (.cell 1 1), (.cell 1 2), (.cell 1 3), (.cell 1 4), (.cell 1 5), (.cell 1 6), (.cell 1 7), (.cell 1 8)]⟩ :: ⟨[17, 19], [], [21], [(.slot 57)]⟩ :: ⟨[17, 21], [], [22], [(.slot 58)]⟩ :: ⟨[22], [], [23], [(.slot 59)]⟩ :: ⟨[23], [], [24], [(.slot 60)]⟩ :: ⟨[23], [], [25], [(.slot 61)]⟩ :: ⟨[23], [], [26], [(.slot 62)]⟩ :: ⟨[23], [], [27], [(.slot 63)]⟩ :: ⟨[27], [], [28], [(.slot 64)]⟩ :: ⟨[28], [], [29], [(.slot 65)]⟩ :: ⟨[28], [], [30], [(.slot 66)]⟩ :: ⟨[28], [], [31], [(.slot 67)]⟩ :: ⟨[28], [], [32], [(.slot 68)]⟩ :: ⟨[32], [], [33], [(.slot 69)]⟩ :: ⟨[33], [], [34], [(.slot 70)]⟩ :: ⟨[33], [], [35], [(.slot 71)]⟩ :: ⟨[33], [], [36], [(.slot 72)]⟩ :: ⟨[33], [], [37], [(.slot 73)]⟩ :: ⟨[37], [], [38], [(.slot 0)]⟩ :: [])) (es' := [(0, .v (.bool false))]) (by kernel_rfl) rfl rfl
           ⟨st_plain rfl (op_move _ _ _ _ rfl rfl),
           st_plain rfl (op_bin _ _ _ _ _ rfl rfl rfl),
           st_plain rfl (op_move _ _ _ _ (congrArg (fun b => AV.v (Value.bool b)) hg7_2) rfl),
           st_run 2 42 true rfl rfl rfl (List.Mem.head _) (op_move _ _ _ _ rfl rfl),
           st_run 2 42 true rfl rfl rfl (List.Mem.head _) (op_len_fr _ _ _ Try.underlying31 rfl (by decide) (gflat_len T_Rec.ilen _)),
           st_run 2 42 true rfl rfl rfl (List.Mem.head _) (op_bin _ _ _ _ _ rfl rfl rfl),
           st_plain rfl (op_pick _ _ true _ rfl rfl),
           st_plain rfl (op_move _ _ _ _ (congrArg (fun b => AV.v (Value.bool b)) hg7_7) rfl),
           st_run 7 47 true rfl rfl rfl (List.Mem.head _) (LOp.drop [_] (op_move_take _ _ _ _ rfl)),
           st_run 7 47 true rfl rfl rfl (List.Mem.head _) (op_ix_fr _ _ _ _ _ _ _ _ Try.underlying31 sz46 (by decide) rfl rfl rfl (ix_ok hv24).1 (gflat_lt T_Rec.ilen (ix_ok hv24).2) rfl),
           st_run 7 47 true rfl rfl rfl (List.Mem.head _) (op_fieldAddr_e _ _ _ _ _ _ _ Try.underlying46 rfl sz3 rfl rfl rfl),
           st_run 7 47 true rfl rfl rfl (List.Mem.head _) (op_load_fr _ _ _ _ _ _ _ Try.underlying3 rfl rfl rfl (gflat_cell T_Rec.ilen hv25 rfl) (.v _)),
           st_run 7 47 true rfl rfl rfl (List.Mem.head _) (op_bin _ _ _ _ _ rfl rfl rfl),
           st_plain rfl (op_pick _ _ true _ rfl rfl),
           st_plain rfl (op_move _ _ _ _ (congrArg (fun b => AV.v (Value.bool b)) hg7_14) rfl),
           st_run 14 54 true rfl rfl rfl (List.Mem.head _) (op_move _ _ _ _ rfl rfl),
           st_run 14 54 true rfl rfl rfl (List.Mem.head _) (op_callP _ _ _ _ 56 35 [.tmp 55] [] _ _ _ rfl Try.call35 rfl rfl rfl (ok_diary_Diary_Used v23.2.2 _ hv26) (Nat.le_of_ble_eq_true rfl) rfl rfl rfl rfl rfl rfl rfl rfl),
           st_run 14 54 true rfl rfl rfl (List.Mem.head _) (op_bin _ _ _ _ _ rfl rfl rfl),
           st_plain rfl (op_pick _ _ true _ rfl rfl),
           st_plain rfl (op_move _ _ _ _ (congrArg (fun b => AV.v (Value.bool b)) hg7_19) rfl),
           st_skip 19 59 _ true rfl rfl rfl rfl (List.Mem.head _),
           st_skip 19 59 _ true rfl rfl rfl rfl (List.Mem.head _),
           st_skip 19 59 _ true rfl rfl rfl rfl (List.Mem.head _),
           st_plain rfl (op_pick _ _ false _ rfl rfl),
           st_plain rfl (op_move _ _ _ _ rfl rfl),
           st_skip 24 64 _ true rfl rfl rfl rfl (List.Mem.head _),
           st_skip 24 64 _ true rfl rfl rfl rfl (List.Mem.head _),
           st_skip 24 64 _ true rfl rfl rfl rfl (List.Mem.head _),
           st_plain rfl (op_pick _ _ false _ rfl rfl),
           st_plain rfl (op_move _ _ _ _ rfl rfl),
           st_skip 29 69 _ true rfl rfl rfl rfl (List.Mem.head _),
           st_skip 29 69 _ true rfl rfl rfl rfl (List.Mem.head _),
           st_skip 29 69 _ true rfl rfl rfl rfl (List.Mem.head _),
           st_plain rfl (op_pick _ _ false _ rfl rfl),
           st_plain rfl (op_assign _ _ _ _ rfl rfl),
           trivial⟩ ?_
          exact hl32 _ (Option.some.inj h).symm
        ·refine ht_seqR hn (El := (_ :: _ :: _ :: (40, .v (.int .i64 v23.2.1)) :: (41, .v (.bool (v23.2.1 == 0))) :: (42, .v (.bool true)) :: (43, .same (.slot 3)) :: (44, .v (.int .i64 (v23.1.length : Int))) :: (45, .v (.bool (((v23.1.length : Int) == 1)))) :: (46, .v (.bool (((v23.1.length : Int) == 1)))) :: (47, .v (.bool true)) :: (48, .fr (.own 46) false 15 (List.flatten (List.map T_Rec.ienc v23.1))) :: (49, .eref (.slot 48) (v24 * 15)) :: (50, .eref (.slot 48) (v24 * 15 + 9)) :: (51, .v (.int .i64 v25.Id)) :: (52, .v (.bool (v25.Id == 1))) :: (53, .v (.bool (v25.Id == 1))) :: (54, .v (.bool false)) :: (55, .v undef) :: (56, .v undef) :: (57, .v undef) :: (58, .v (.bool false)) :: (59, .v (.bool false)) :: (60, .v undef) :: (61, .v undef) :: (62, .v undef) :: (63, .v (.bool false)) :: (64, .v (.bool false)) :: (65, .v undef) :: (66, .v undef) :: (67, .v undef) :: (68, .v (.bool false)) :: (69, .v (.bool false)) :: (70, .v undef) :: (71, .v undef) :: (72, .v undef) :: (73, .v (.bool false)) :: (0, .v (.bool false)) :: [])) (init := [0, 1, 2]) (fin := [37]) (sps := (⟨[2], [], [3], [(.slot 40)]⟩ :: ⟨[3], [], [4], [(.slot 41)]⟩ :: ⟨[4], [], [5], [(.slot 42)]⟩ :: ⟨[5, 1], [], [6], [(.slot 43)]⟩ :: ⟨[5, 6, 1], [], [7], [(.slot 44)]⟩ :: ⟨[5, 7], [], [8], [(.slot 45)]⟩ :: ⟨[5, 8], [], [9], [(.slot 46)]⟩ :: ⟨[9], [], [10], [(.slot 47)]⟩ :: ⟨[10], [6, 1], [11], [(.slot 48)]⟩ :: ⟨[10, 11], [], [12], [(.slot 49)]⟩ :: ⟨[10, 12, 11], [], [13], [(.slot 50)]⟩ :: ⟨[10, 13, 11], [], [14], [(.slot 51)]⟩ :: ⟨[10, 14], [], [15], [(.slot 52)]⟩ :: ⟨[10, 15], [], [16], [(.slot 53)]⟩ :: ⟨[16], [], [17], [(.slot 54)]⟩ :: ⟨[17], [], [18], [(.slot 55)]⟩ :: ⟨[17], [], [19], [(.slot 56)]⟩ :: ⟨[17], [], [20], [(.slot 57)]⟩ :: ⟨[17], [], [21], [(.slot 58)]⟩ :: ⟨[21], [], [22], [(.slot 59)]⟩ :: ⟨[22], [], [23], [(.slot 60)]⟩ :: ⟨[22], [], [24], [(.slot 61)]⟩ :: ⟨[22], [], [25], [(.slot 62)]⟩ :: ⟨[22], [], [26], [(.slot 63)]⟩ :: ⟨[26], [], [27], [(.slot 64)]⟩ :: ⟨[27], [], [28], [(.slot 65)]⟩ :: ⟨[27], [], [29], [(.slot 66)]⟩ :: ⟨[27], [], [30], [(.slot 67)]⟩ :: ⟨[27], [], [31], [(.slot 68)]⟩ :: ⟨[31], [], [32], [(.slot 69)]⟩ :: ⟨[32], [], [33], [(.slot 70)]⟩ :: ⟨[32], [], [34], [(.slot 71)]⟩ :: ⟨[32], [], [35], [(.slot 72)]⟩ :: ⟨[32], [], [36], [(.slot 73)]⟩ :: ⟨[36], [], [37], [(.slot 0)]⟩ :: [])) (es' := [(0, .v (.bool false))]) (by kernel_rfl) rfl rfl
          ⟨st_plain rfl (op_move _ _ _ _ rfl rfl),
          st_plain rfl (op_bin _ _ _ _ _ rfl rfl rfl),
          st_plain rfl (op_move _ _ _ _ (congrArg (fun b => AV.v (Value.bool b)) hg7_2) rfl),
          st_run 2 42 true rfl rfl rfl (List.Mem.head _) (op_move _ _ _ _ rfl rfl),
          st_run 2 42 true rfl rfl rfl (List.Mem.head _) (op_len_fr _ _ _ Try.underlying31 rfl (by decide) (gflat_len T_Rec.ilen _)),
          st_run 2 42 true rfl rfl rfl (List.Mem.head _) (op_bin _ _ _ _ _ rfl rfl rfl),
          st_plain rfl (op_pick _ _ true _ rfl rfl),
          st_plain rfl (op_move _ _ _ _ (congrArg (fun b => AV.v (Value.bool b)) hg7_7) rfl),
          st_run 7 47 true rfl rfl rfl (List.Mem.head _) (LOp.drop [_] (op_move_take _ _ _ _ rfl)),
          st_run 7 47 true rfl rfl rfl (List.Mem.head _) (op_ix_fr _ _ _ _ _ _ _ _ Try.underlying31 sz46 (by decide) rfl rfl rfl (ix_ok hv24).1 (gflat_lt T_Rec.ilen (ix_ok hv24).2) rfl),
          st_run 7 47 true rfl rfl rfl (List.Mem.head _) (op_fieldAddr_e _ _ _ _ _ _ _ Try.underlying46 rfl sz3 rfl rfl rfl),
          st_run 7 47 true rfl rfl rfl (List.Mem.head _) (op_load_fr _ _ _ _ _ _ _ Try.underlying3 rfl rfl rfl (gflat_cell T_Rec.ilen hv25 rfl) (.v _)),
          st_run 7 47 true rfl rfl rfl (List.Mem.head _) (op_bin _ _ _ _ _ rfl rfl rfl),
          st_plain rfl (op_pick _ _ true _ rfl rfl),
          st_plain rfl (op_move _ _ _ _ (congrArg (fun b => AV.v (Value.bool b)) hg7_14) rfl),
          st_skip 14 54 _ true rfl rfl rfl rfl (List.Mem.head _),
          st_skip 14 54 _ true rfl rfl rfl rfl (List.Mem.head _),
          st_skip 14 54 _ true rfl rfl rfl rfl (List.Mem.head _),
          st_plain rfl (op_pick _ _ false _ rfl rfl),
          st_plain rfl (op_move _ _ _ _ rfl rfl),
          st_skip 19 59 _ true rfl rfl rfl rfl (List.Mem.head _),
          st_skip 19 59 _ true rfl rfl rfl rfl (List.Mem.head _),
          st_skip 19 59 _ true rfl rfl rfl rfl (List.Mem.head _),
          st_plain rfl (op_pick _ _ false _ rfl rfl),
          st_plain rfl (op_move _ _ _ _ rfl rfl),
          st_skip 24 64 _ true rfl rfl rfl rfl (List.Mem.head _),
          st_skip 24 64 _ true rfl rfl rfl rfl (List.Mem.head _),
          st_skip 24 64 _ true rfl rfl rfl rfl (List.Mem.head _),
          st_plain rfl (op_pick _ _ false _ rfl rfl),
          st_plain rfl (op_move _ _ _ _ rfl rfl),
          st_skip 29 69 _ true rfl rfl rfl rfl (List.Mem.head _),
          st_skip 29 69 _ true rfl rfl rfl rfl (List.Mem.head _),
          st_skip 29 69 _ true rfl rfl rfl rfl (List.Mem.head _),
          st_plain rfl (op_pick _ _ false _ rfl rfl),
          st_plain rfl (op_assign _ _ _ _ rfl rfl),
          trivial⟩ ?_
         exact hl32 _ (Option.some.inj h).symm
       ·refine ht_seqR hn (El := (_ :: _ :: _ :: (40, .v (.int .i64 v23.2.1)) :: (41, .v (.bool (v23.2.1 == 0))) :: (42, .v (.bool true)) :: (43, .same (.slot 3)) :: (44, .v (.int .i64 (v23.1.length : Int))) :: (45, .v (.bool (((v23.1.length : Int) == 1)))) :: (46, .v (.bool (((v23.1.length : Int) == 1)))) :: (47, .v (.bool false)) :: (48, .v undef) :: (49, .v undef) :: (50, .v undef) :: (51, .v undef) :: (52, .v undef) :: (53, .v (.bool false)) :: (54, .v (.bool false)) :: (55, .v undef) :: (56, .v undef) :: (57, .v undef) :: (58, .v (.bool false)) :: (59, .v (.bool false)) :: (60, .v undef) :: (61, .v undef) :: (62, .v undef) :: (63, .v (.bool false)) :: (64, .v (.bool false)) :: (65, .v undef) :: (66, .v undef) :: (67, .v undef) :: (68, .v (.bool false)) :: (69, .v (.bool false)) :: (70, .v undef) :: (71, .v undef) :: (72, .v undef) :: (73, .v (.bool false)) :: (0, .v (.bool false)) :: [])) (init := [0, 1, 2]) (fin := [37]) (sps := (⟨[2], [], [3], [(.slot 40)]⟩ :: ⟨[3], [], [4], [(.slot 41)]⟩ :: ⟨[4], [], [5], [(.slot 42)]⟩ :: ⟨[5, 1], [], [6], [(.slot 43)]⟩ :: ⟨[5, 6, 1], [], [7], [(.slot 44)]⟩ :: ⟨[5, 7], [], [8], [(.slot 45)]⟩ :: ⟨[5, 8], [], [9], [(.slot 46)]⟩ :: ⟨[9], [], [10], [(.slot 47)]⟩ :: ⟨[10], [], [11], [(.slot 48)]⟩ :: ⟨[10], [], [12], [(.slot 49)]⟩ :: ⟨[10], [], [13], [(.slot 50)]⟩ :: ⟨[10], [], [14], [(.slot 51)]⟩ :: ⟨[10], [], [15], [(.slot 52)]⟩ :: ⟨[10], [], [16], [(.slot 53)]⟩ :: ⟨[16], [], [17], [(.slot 54)]⟩ :: ⟨[17], [], [18], [(.slot 55)]⟩ :: ⟨[17], [], [19], [(.slot 56)]⟩ :: ⟨[17], [], [20], [(.slot 57)]⟩ :: ⟨[17], [], [21], [(.slot 58)]⟩ :: ⟨[21], [], [22], [(.slot 59)]⟩ :: ⟨[22], [], [23], [(.slot 60)]⟩ :: ⟨[22], [], [24], [(.slot 61)]⟩ :: ⟨[22], [], [25], [(.slot 62)]⟩ :: ⟨[22], [], [26], [(.slot 63)]⟩ :: ⟨[26], [], [27], [(.slot 64)]⟩ :: ⟨[27], [], [28], [(.slot 65)]⟩ :: ⟨[27], [], [29], [(.slot 66)]⟩ :: ⟨[27], [], [30], [(.slot 67)]⟩ :: ⟨[27], [], [31], [(.slot 68)]⟩ :: ⟨[31], [], [32], [(.slot 69)]⟩ :: ⟨[32], [], [33], [(.slot 70)]⟩ :: ⟨[32], [], [34], [(.slot 71)]⟩ :: ⟨[32], [], [35], [(.slot 72)]⟩ :: ⟨[32], [], [36], [(.slot 73)]⟩ :: ⟨[36], [], [37], [(.slot 0)]⟩ :: [])) (es' := [(0, .v (.bool false))]) (by kernel_rfl) rfl rfl
         ⟨st_plain rfl (op_move _ _ _ _ rfl rfl),
         st_plain rfl (op_bin _ _ _ _ _ rfl rfl rfl),
         st_plain rfl (op_move _ _ _ _ (congrArg (fun b => AV.v (Value.bool b)) hg7_2) rfl),
         st_run 2 42 true rfl rfl rfl (List.Mem.head _) (op_move _ _ _ _ rfl rfl),
         st_run 2 42 true rfl rfl rfl (List.Mem.head _) (op_len_fr _ _ _ Try.underlying31 rfl (by decide) (gflat_len T_Rec.ilen _)),
         st_run 2 42 true rfl rfl rfl (List.Mem.head _) (op_bin _ _ _ _ _ rfl rfl rfl),
         st_plain rfl (op_pick _ _ true _ rfl rfl),
         st_plain rfl (op_move _ _ _ _ (congrArg (fun b => AV.v (Value.bool b)) hg7_7) rfl),
         st_skip 7 47 _ true rfl rfl rfl rfl (List.Mem.head _),
         st_skip 7 47 _ true rfl rfl rfl rfl (List.Mem.head _),
         st_skip 7 47 _ true rfl rfl rfl rfl (List.Mem.head _),
         st_skip 7 47 _ true rfl rfl rfl rfl (List.Mem.head _),
         st_skip 7 47 _ true rfl rfl rfl rfl (List.Mem.head _),
         st_plain rfl (op_pick _ _ false _ rfl rfl),
         st_plain rfl (op_move _ _ _ _ rfl rfl),
         st_skip 14 54 _ true rfl rfl rfl rfl (List.Mem.head _),
         st_skip 14 54 _ true rfl rfl rfl rfl (List.Mem.head _),
         st_skip 14 54 _ true rfl rfl rfl rfl (List.Mem.head _),
         st_plain rfl (op_pick _ _ false _ rfl rfl),
         st_plain rfl (op_move _ _ _ _ rfl rfl),
         st_skip 19 59 _ true rfl rfl rfl rfl (List.Mem.head _),
         st_skip 19 59 _ true rfl rfl rfl rfl (List.Mem.head _),
         st_skip 19 59 _ true rfl rfl rfl rfl (List.Mem.head _),
         st_plain rfl (op_pick _ _ false _ rfl rfl),
         st_plain rfl (op_move _ _ _ _ rfl rfl),
         st_skip 24 64 _ true rfl rfl rfl rfl (List.Mem.head _),
         st_skip 24 64 _ true rfl rfl rfl rfl (List.Mem.head _),
         st_skip 24 64 _ true rfl rfl rfl rfl (List.Mem.head _),
         st_plain rfl (op_pick _ _ false _ rfl rfl),
         st_plain rfl (op_move _ _ _ _ rfl rfl),
         st_skip 29 69 _ true rfl rfl rfl rfl (List.Mem.head _),
         st_skip 29 69 _ true rfl rfl rfl rfl (List.Mem.head _),
         st_skip 29 69 _ true rfl rfl rfl rfl (List.Mem.head _),
         st_plain rfl (op_pick _ _ false _ rfl rfl),
         st_plain rfl (op_assign _ _ _ _ rfl rfl),
         trivial⟩ ?_
        exact hl32 _ (Option.some.inj h).symm
      ·refine ht_seqR hn (El := (_ :: _ :: _ :: (40, .v (.int .i64 v23.2.1)) :: (41, .v (.bool (v23.2.1 == 0))) :: (42, .v (.bool false)) :: (43, .v undef) :: (44, .v undef) :: (45, .v undef) :: (46, .v (.bool false)) :: (47, .v (.bool false)) :: (48, .v undef) :: (49, .v undef) :: (50, .v undef) :: (51, .v undef) :: (52, .v undef) :: (53, .v (.bool false)) :: (54, .v (.bool false)) :: (55, .v undef) :: (56, .v undef) :: (57, .v undef) :: (58, .v (.bool false)) :: (59, .v (.bool false)) :: (60, .v undef) :: (61, .v undef) :: (62, .v undef) :: (63, .v (.bool false)) :: (64, .v (.bool false)) :: (65, .v undef) :: (66, .v undef) :: (67, .v undef) :: (68, .v (.bool false)) :: (69, .v (.bool false)) :: (70, .v undef) :: (71, .v undef) :: (72, .v undef) :: (73, .v (.bool false)) :: (0, .v (.bool false)) :: [])) (init := [0, 1, 2]) (fin := [37]) (sps := (⟨[2], [], [3], [(.slot 40)]⟩ :: ⟨[3], [], [4], [(.slot 41)]⟩ :: ⟨[4], [], [5], [(.slot 42)]⟩ :: ⟨[5], [], [6], [(.slot 43)]⟩ :: ⟨[5], [], [7], [(.slot 44)]⟩ :: ⟨[5], [], [8], [(.slot 45)]⟩ :: ⟨[5], [], [9], [(.slot 46)]⟩ :: ⟨[9], [], [10], [(.slot 47)]⟩ :: ⟨[10], [], [11], [(.slot 48)]⟩ :: ⟨[10], [], [12], [(.slot 49)]⟩ :: ⟨[10], [], [13], [(.slot 50)]⟩ :: ⟨[10], [], [14], [(.slot 51)]⟩ :: ⟨[10], [], [15], [(.slot 52)]⟩ :: ⟨[10], [], [16], [(.slot 53)]⟩ :: ⟨[16], [], [17], [(.slot 54)]⟩ :: ⟨[17], [], [18], [(.slot 55)]⟩ :: ⟨[17], [], [19], [(.slot 56)]⟩ :: ⟨[17], [], [20], [(.slot 57)]⟩ :: ⟨[17], [], [21], [(.slot 58)]⟩ :: ⟨[21], [], [22], [(.slot 59)]⟩ :: ⟨[22], [], [23], [(.slot 60)]⟩ :: ⟨[22], [], [24], [(.slot 61)]⟩ :: ⟨[22], [], [25], [(.slot 62)]⟩ :: ⟨[22], [], [26], [(.slot 63)]⟩ :: ⟨[26], [], [27], [(.slot 64)]⟩ :: ⟨[27], [], [28], [(.slot 65)]⟩ :: ⟨[27], [], [29], [(.slot 66)]⟩ :: ⟨[27], [], [30], [(.slot 67)]⟩ :: ⟨[27], [], [31], [(.slot 68)]⟩ :: ⟨[31], [], [32], [(.slot 69)]⟩ :: ⟨[32], [], [33], [(.slot 70)]⟩ :: ⟨[32], [], [34], [(.slot 71)]⟩ :: ⟨[32], [], [35], [(.slot 72)]⟩ :: ⟨[32], [], [36], [(.slot 73)]⟩ :: ⟨[36], [], [37], [(.slot 0)]⟩ :: [])) (es' := [(0, .v (.bool false))]) (by kernel_rfl) rfl rfl
        ⟨st_plain rfl (op_move _ _ _ _ rfl rfl),
        st_plain rfl (op_bin _ _ _ _ _ rfl rfl rfl),
        st_plain rfl (op_move _ _ _ _ (congrArg (fun b => AV.v (Value.bool b)) hg7_2) rfl),
        st_skip 2 42 _ true rfl rfl rfl rfl (List.Mem.head _),
        st_skip 2 42 _ true rfl rfl rfl rfl (List.Mem.head _),
        st_skip 2 42 _ true rfl rfl rfl rfl (List.Mem.head _),
        st_plain rfl (op_pick _ _ false _ rfl rfl),
        st_plain rfl (op_move _ _ _ _ rfl rfl),
        st_skip 7 47 _ true rfl rfl rfl rfl (List.Mem.head _),
        st_skip 7 47 _ true rfl rfl rfl rfl (List.Mem.head _),
        st_skip 7 47 _ true rfl rfl rfl rfl (List.Mem.head _),
        st_skip 7 47 _ true rfl rfl rfl rfl (List.Mem.head _),
        st_skip 7 47 _ true rfl rfl rfl rfl (List.Mem.head _),
        st_plain rfl (op_pick _ _ false _ rfl rfl),
        st_plain rfl (op_move _ _ _ _ rfl rfl),
        st_skip 14 54 _ true rfl rfl rfl rfl (List.Mem.head _),
        st_skip 14 54 _ true rfl rfl rfl rfl (List.Mem.head _),
        st_skip 14 54 _ true rfl rfl rfl rfl (List.Mem.head _),
        st_plain rfl (op_pick _ _ false _ rfl rfl),
        st_plain rfl (op_move _ _ _ _ rfl rfl),
        st_skip 19 59 _ true rfl rfl rfl rfl (List.Mem.head _),
        st_skip 19 59 _ true rfl rfl rfl rfl (List.Mem.head _),
        st_skip 19 59 _ true rfl rfl rfl rfl (List.Mem.head _),
        st_plain rfl (op_pick _ _ false _ rfl rfl),
        st_plain rfl (op_move _ _ _ _ rfl rfl),
        st_skip 24 64 _ true rfl rfl rfl rfl (List.Mem.head _),
        st_skip 24 64 _ true rfl rfl rfl rfl (List.Mem.head _),
        st_skip 24 64 _ true rfl rfl rfl rfl (List.Mem.head _),
        st_plain rfl (op_pick _ _ false _ rfl rfl),
        st_plain rfl (op_move _ _ _ _ rfl rfl),
        st_skip 29 69 _ true rfl rfl rfl rfl (List.Mem.head _),
        st_skip 29 69 _ true rfl rfl rfl rfl (List.Mem.head _),
        st_skip 29 69 _ true rfl rfl rfl rfl (List.Mem.head _),
        st_plain rfl (op_pick _ _ false _ rfl rfl),
        st_plain rfl (op_assign _ _ _ _ rfl rfl),
        trivial⟩ ?_
       exact hl32 _ (Option.some.inj h).symm
   ·intro u17 h hl18 hr19
    refine cond_some h (fun hg2_2 h => ?_) (fun hg2_2 h => ?_)
    ·refine ht_seqR hn (El := (_ :: _ :: (8, .v (.int .i64 v1.2)) :: (9, .v (.bool (v1.2 != 0))) :: (10, .v (.bool true)) :: (11, .v undef) :: (12, .v undef) :: (13, .v (.bool true)) :: (14, .v (.bool true)) :: (15, .v undef) :: (16, .v undef) :: (17, .v undef) :: (18, .v undef) :: (19, .v (.bool true)) :: (20, .v (.bool true)) :: (21, .v undef) :: (22, .v undef) :: (23, .v undef) :: (24, .v (.bool true)) :: (25, .v (.bool true)) :: (26, .v undef) :: (27, .v undef) :: (28, .v undef) :: (29, .v undef) :: (30, .v (.bool true)) :: [])) (init := [0, 1]) (fin := [0, 24]) (sps := (⟨[1], [], [2], [(.slot 8)]⟩ :: ⟨[2], [], [3], [(.slot 9)]⟩ :: ⟨[3], [], [4], [(.slot 10)]⟩ :: ⟨[4], [], [5], [(.slot 11)]⟩ :: ⟨[4], [], [6], [(.slot 12)]⟩ :: ⟨[4], [], [7], [(.slot 13)]⟩ :: ⟨[7], [], [8], [(.slot 14)]⟩ :: ⟨[8], [], [9], [(.slot 15)]⟩ :: ⟨[8], [], [10], [(.slot 16)]⟩ :: ⟨[8], [], [11], [(.slot 17)]⟩ :: ⟨[8], [], [12], [(.slot 18)]⟩ :: ⟨[8], [], [13], [(.slot 19)]⟩ :: ⟨[13], [], [14], [(.slot 20)]⟩ :: ⟨[14], [], [15], [(.slot 21)]⟩ :: ⟨[14], [], [16], [(.slot 22)]⟩ :: ⟨[14], [], [17], [(.slot 23)]⟩ :: ⟨[14], [], [18], [(.slot 24)]⟩ :: ⟨[18], [], [19], [(.slot 25)]⟩ :: ⟨[19], [], [20], [(.slot 26)]⟩ :: ⟨[19], [], [21], [(.slot 27)]⟩ :: ⟨[19], [], [22], [(.slot 28)]⟩ :: ⟨[19], [], [23], [(.slot 29)]⟩ :: ⟨[19], [], [24], [(.slot 30)]⟩ :: [])) (es' := [(_, _), (30, .v (.bool true))]) (by kernel_rfl) rfl rfl
      ⟨st_plain rfl (op_move _ _ _ _ rfl rfl),
      st_plain rfl (op_bin _ _ _ _ _ rfl rfl rfl),
      st_plain rfl (op_move _ _ _ _ (congrArg (fun b => AV.v (Value.bool b)) hg2_2) rfl),
      st_skip 2 10 _ false rfl rfl rfl rfl (List.Mem.head _),
      st_skip 2 10 _ false rfl rfl rfl rfl (List.Mem.head _),
      st_plain rfl (op_pick _ _ true _ rfl rfl),
      st_plain rfl (op_move _ _ _ _ rfl rfl),
      st_skip 6 14 _ false rfl rfl rfl rfl (List.Mem.head _),
      st_skip 6 14 _ false rfl rfl rfl rfl (List.Mem.head _),
      st_skip 6 14 _ false rfl rfl rfl rfl (List.Mem.head _),
      st_skip 6 14 _ false rfl rfl rfl rfl (List.Mem.head _),
      st_plain rfl (op_pick _ _ true _ rfl rfl),
      st_plain rfl (op_move _ _ _ _ rfl rfl),
      st_skip 12 20 _ false rfl rfl rfl rfl (List.Mem.head _),
      st_skip 12 20 _ false rfl rfl rfl rfl (List.Mem.head _),
      st_skip 12 20 _ false rfl rfl rfl rfl (List.Mem.head _),
      st_plain rfl (op_pick _ _ true _ rfl rfl),
      st_plain rfl (op_move _ _ _ _ rfl rfl),
      st_skip 17 25 _ false rfl rfl rfl rfl (List.Mem.head _),
      st_skip 17 25 _ false rfl rfl rfl rfl (List.Mem.head _),
      st_skip 17 25 _ false rfl rfl rfl rfl (List.Mem.head _),
      st_skip 17 25 _ false rfl rfl rfl rfl (List.Mem.head _),
      st_plain rfl (op_pick _ _ true _ rfl rfl),
      trivial⟩ ?_
     exact hl18 _ (Option.some.inj h).symm
    ·obtain ⟨v4, hv4, h⟩ := bind_some h
     refine cond_some h (fun hg2_12 h => ?_) (fun hg2_12 h => ?_)
     ·refine ht_seqR hn (El := (_ :: _ :: (8, .v (.int .i64 v1.2)) :: (9, .v (.bool (v1.2 != 0))) :: (10, .v (.bool false)) :: (11, .ptr 1 0) :: (12, .v (.bool false)) :: (13, .v (.bool false)) :: (14, .v (.bool false)) :: (15, .ptr 1 0) :: (16, .agg [.v (.int .i64 0), .v (.bool false), .v (.string (⟨#[]⟩ : ByteArray)), .v (.string (⟨#[]⟩ : ByteArray)), .v (.slice none 0 0), .v (.slice none 0 0), .v (.bool false), .v (.string (⟨#[]⟩ : ByteArray)), .v (.int .i64 0), .v (.int .i64 1), .v (.slice none 0 0), .v (.int .i64 0), .v (.int .i64 0), .v (.int .i64 0), .v (.slice none 0 0)]) :: (17, .v (.int .i64 v4.1)) :: (1, .box 64 [.v (.int .i64 v4.2.limit), .fr (.own 46) false 15 (List.flatten (List.map T_Rec.ienc v4.2.recs)), .v (.int .i64 v4.2.used), .v (.int .i64 v4.2.safe), .v (.int .i64 v4.2.kept), .v (.int .i64 v4.2.life), .v (.bool v4.2.off), .v (.int .i64 v4.2.trip), .v (.int .i64 v4.2.tripKeep)]) :: (18, .v (.bool (v4.1 != 0))) :: (19, .v (.bool (v4.1 != 0))) :: (20, .v (.bool true)) :: (21, .v undef) :: (22, .v undef) :: (23, .v undef) :: (24, .v (.bool true)) :: (25, .v (.bool true)) :: (26, .v undef) :: (27, .v undef) :: (28, .v undef) :: (29, .v undef) :: (30, .v (.bool true)) :: [])) (init := [0, 1]) (fin := [12, 25]) (sps := (⟨[1], [], [2], [(.slot 8)]⟩ :: ⟨[2], [], [3], [(.slot 9)]⟩ :: ⟨[3], [], [4], [(.slot 10)]⟩ :: ⟨[4, 0], [], [5], [(.slot 11)]⟩ :: ⟨[4, 5, 0], [], [6], [(.slot 12)]⟩ :: ⟨[4, 6], [], [7], [(.slot 13)]⟩ :: ⟨[7], [], [8], [(.slot 14)]⟩ :: ⟨[8, 0], [], [9], [(.slot 15)]⟩ :: ⟨[8], [], [10], [(.slot 16)]⟩ :: ⟨[8, 9, 10], [0], [12, 11], [(.slot 17), (.cell 1 0), (.cell 1 1), (.cell 1 2), (.cell 1 3), (.cell 1 4), (.cell 1 5), (.cell 1 6), (.cell 1 7), (.cell 1 8)]⟩ :: ⟨[8, 11], [], [13], [(.slot 18)]⟩ :: ⟨[8, 13], [], [14], [(.slot 19)]⟩ :: ⟨[14], [], [15], [(.slot 20)]⟩ :: ⟨[15], [], [16], [(.slot 21)]⟩ :: ⟨[15], [], [17], [(.slot 22)]⟩ :: ⟨[15], [], [18], [(.slot 23)]⟩ :: ⟨[15], [], [19], [(.slot 24)]⟩ :: ⟨[19], [], [20], [(.slot 25)]⟩ :: ⟨[20], [], [21], [(.slot 26)]⟩ :: ⟨[20], [], [22], [(.slot 27)]⟩ :: ⟨[20], [], [23], [(.slot 28)]⟩ :: ⟨[20], [], [24], [(.slot 29)]⟩ :: ⟨[20], [], [25], [(.slot 30)]⟩ :: [])) (es' := [(1, .box 64 [.v (.int .i64 v4.2.limit), .fr (.own 46) false 15 (List.flatten (List.map T_Rec.ienc v4.2.recs)), .v (.int .i64 v4.2.used), .v (.int .i64 v4.2.safe), .v (.int .i64 v4.2.kept), .v (.int .i64 v4.2.life), .v (.bool v4.2.off), .v (.int .i64 v4.2.trip), .v (.int .i64 v4.2.tripKeep)]), (30, .v (.bool true))]) (by kernel_rfl) rfl rfl
       ⟨st_plain rfl (op_move _ _ _ _ rfl rfl),
       st_plain rfl (op_bin _ _ _ _ _ rfl rfl rfl),
       st_plain rfl (op_move _ _ _ _ (congrArg (fun b => AV.v (Value.bool b)) hg2_2) rfl),
       st_run 2 10 false rfl rfl rfl (List.Mem.head _) (op_move _ _ _ _ rfl rfl),
       st_run 2 10 false rfl rfl rfl (List.Mem.head _) (op_pnil _ _ false (by kernel_rfl) rfl rfl),
       st_plain rfl (op_pick _ _ false _ rfl rfl),
       st_plain rfl (op_move _ _ _ _ rfl rfl),
       st_run 6 14 false rfl rfl rfl (List.Mem.head _) (op_move _ _ _ _ rfl rfl),
       st_run 6 14 false rfl rfl rfl (List.Mem.head _) (op_build _ _ _ _ [1, 8, 1, 1, 1, 1, 1, 1] _ _ Try.underlying46 zr46 (fs46 _ Try.underlying46) (.copy _ Src.nil) rfl rfl rfl),
       st_run 6 14 false rfl rfl rfl (List.Mem.head _) (op_callP _ _ _ _ 17 15 [.tmp 15] [.tmp 16] _ _ _ rfl Try.call15 rfl rfl rfl ((ok_diary_Diary_Put v2 ((T_Rec.mk 0 ((T_Mail.mk ((T_Path.mk false (⟨#[]⟩ : ByteArray) (⟨#[]⟩ : ByteArray))) [] [] false (⟨#[]⟩ : ByteArray) 0)) 1 [] 0 0 0 [])) _ hv4).args (subs_cons (sub_refl _) (subs_cons (sub_agg (subs_cons (sub_refl _) (subs_cons (sub_refl _) (subs_cons (sub_refl _) (subs_cons (sub_refl _) (subs_cons (sub_nil_shr 3) (subs_cons (sub_nil_shr 1) (subs_cons (sub_refl _) (subs_cons (sub_refl _) (subs_cons (sub_refl _) (subs_cons (sub_refl _) (subs_cons (sub_nil_shr 1) (subs_cons (sub_refl _) (subs_cons (sub_refl _) (subs_cons (sub_refl _) (subs_cons (sub_nil_shr 1) (subs_nil))))))))))))))))) (subs_nil)))) (Nat.le_of_ble_eq_true rfl) rfl rfl rfl rfl rfl rfl rfl rfl),
       st_run 6 14 false rfl rfl rfl (List.Mem.head _) (op_bin _ _ _ _ _ rfl rfl rfl),
       st_plain rfl (op_pick _ _ false _ rfl rfl),
       st_plain rfl (op_move _ _ _ _ (congrArg (fun b => AV.v (Value.bool b)) hg2_12) rfl),
       st_skip 12 20 _ false rfl rfl rfl rfl (List.Mem.head _),
       st_skip 12 20 _ false rfl rfl rfl rfl (List.Mem.head _),
       st_skip 12 20 _ false rfl rfl rfl rfl (List.Mem.head _),
       st_plain rfl (op_pick _ _ true _ rfl rfl),
       st_plain rfl (op_move _ _ _ _ rfl rfl),
       st_skip 17 25 _ false rfl rfl rfl rfl (List.Mem.head _),
       st_skip 17 25 _ false rfl rfl rfl rfl (List.Mem.head _),
       st_skip 17 25 _ false rfl rfl rfl rfl (List.Mem.head _),
       st_skip 17 25 _ false rfl rfl rfl rfl (List.Mem.head _),
       st_plain rfl (op_pick _ _ true _ rfl rfl),
       trivial⟩ ?_
      exact hl18 _ (Option.some.inj h).symm
     ·obtain ⟨v5, hv5, h⟩ := bind_some h
      refine cond_some h (fun hg2_17 h => ?_) (fun hg2_17 h => ?_)
      ·refine ht_seqR hn (El := (_ :: _ :: (8, .v (.int .i64 v1.2)) :: (9, .v (.bool (v1.2 != 0))) :: (10, .v (.bool false)) :: (11, .ptr 1 0) :: (12, .v (.bool false)) :: (13, .v (.bool false)) :: (14, .v (.bool false)) :: (15, .ptr 1 0) :: (16, .agg [.v (.int .i64 0), .v (.bool false), .v (.string (⟨#[]⟩ : ByteArray)), .v (.string (⟨#[]⟩ : ByteArray)), .v (.slice none 0 0), .v (.slice none 0 0), .v (.bool false), .v (.string (⟨#[]⟩ : ByteArray)), .v (.int .i64 0), .v (.int .i64 1), .v (.slice none 0 0), .v (.int .i64 0), .v (.int .i64 0), .v (.int .i64 0), .v (.slice none 0 0)]) :: (17, .v (.int .i64 v4.1)) :: (1, .box 64 [.v (.int .i64 v4.2.limit), .fr (.own 46) false 15 (List.flatten (List.map T_Rec.ienc v4.2.recs)), .v (.int .i64 v4.2.used), .v (.int .i64 v4.2.safe), .v (.int .i64 v4.2.kept), .v (.int .i64 v4.2.life), .v (.bool v4.2.off), .v (.int .i64 v4.2.trip), .v (.int .i64 v4.2.tripKeep)]) :: (18, .v (.bool (v4.1 != 0))) :: (19, .v (.bool (v4.1 != 0))) :: (20, .v (.bool false)) :: (21, .ptr 1 0) :: (22, .v (.int .i64 v5.1)) :: (1, .box 64 [.v (.int .i64 v5.2.limit), .fr (.own 46) false 15 (List.flatten (List.map T_Rec.ienc v5.2.recs)), .v (.int .i64 v5.2.used), .v (.int .i64 v5.2.safe), .v (.int .i64 v5.2.kept), .v (.int .i64 v5.2.life), .v (.bool v5.2.off), .v (.int .i64 v5.2.trip), .v (.int .i64 v5.2.tripKeep)]) :: (23, .v (.bool (v5.1 != 0))) :: (24, .v (.bool (v5.1 != 0))) :: (25, .v (.bool true)) :: (26, .v undef) :: (27, .v undef) :: (28, .v undef) :: (29, .v undef) :: (30, .v (.bool true)) :: [])) (init := [0, 1]) (fin := [18, 26]) (sps := (⟨[1], [], [2], [(.slot 8)]⟩ :: ⟨[2], [], [3], [(.slot 9)]⟩ :: ⟨[3], [], [4], [(.slot 10)]⟩ :: ⟨[4, 0], [], [5], [(.slot 11)]⟩ :: ⟨[4, 5, 0], [], [6], [(.slot 12)]⟩ :: ⟨[4, 6], [], [7], [(.slot 13)]⟩ :: ⟨[7], [], [8], [(.slot 14)]⟩ :: ⟨[8, 0], [], [9], [(.slot 15)]⟩ :: ⟨[8], [], [10], [(.slot 16)]⟩ :: ⟨[8, 9, 10], [0], [12, 11], [(.slot 17), (.cell 1 0), (.cell 1 1), (.cell 1 2), (.cell 1 3), (.cell 1 4), (.cell 1 5), (.cell 1 6), (.cell 1 7), (.cell 1 8)]⟩ :: ⟨[8, 11], [], [13], [(.slot 18)]⟩ :: ⟨[8, 13], [], [14], [(.slot 19)]⟩ :: ⟨[14], [], [15], [(.slot 20)]⟩ :: ⟨[15, 12], [], [16], [(.slot 21)]⟩ :: ⟨[15, 16], [12], [18, 17], [(.slot 22), (.cell 1 0), (.cell 1 1), (.cell 1 2), (.cell 1 3), (.cell 1 4), (.cell 1 5), (.cell 1 6), (.cell 1 7), (.cell 1 8)]⟩ :: ⟨[15, 17], [], [19], [(.slot 23)]⟩ :: ⟨[15, 19], [], [20], [(.slot 24)]⟩ :: ⟨[20], [], [21], [(.slot 25)]⟩ :: ⟨[21], [], [22], [(.slot 26)]⟩ :: ⟨[21], [], [23], [(.slot 27)]⟩ :: ⟨[21], [], [24], [(.slot 28)]⟩ :: ⟨[21], [], [25], [(.slot 29)]⟩ :: ⟨[21], [], [26], [(.slot 30)]⟩ :: [])) (es' := [(1, .box 64 [.v (.int .i64 v5.2.limit), .fr (.own 46) false 15 (List.flatten (List.map T_Rec.ienc v5.2.recs)), .v (.int .i64 v5.2.used), .v (.int .i64 v5.2.safe), .v (.int .i64 v5.2.kept), .v (.int .i64 v5.2.life), .v (.bool v5.2.off), .v (.int .i64 v5.2.trip), .v (.int .i64 v5.2.tripKeep)]), (30, .v (.bool true))]) (by kernel_rfl) rfl rfl
        ⟨st_plain rfl (op_move _ _ _ _ rfl rfl),
        st_plain rfl (op_bin _ _ _ _ _ rfl rfl rfl),
        st_plain rfl (op_move _ _ _ _ (congrArg (fun b => AV.v (Value.bool b)) hg2_2) rfl),
        st_run 2 10 false rfl rfl rfl (List.Mem.head _) (op_move _ _ _ _ rfl rfl),
        st_run 2 10 false rfl rfl rfl (List.Mem.head _) (op_pnil _ _ false (by kernel_rfl) rfl rfl),
        st_plain rfl (op_pick _ _ false _ rfl rfl),
        st_plain rfl (op_move _ _ _ _ rfl rfl),
        st_run 6 14 false rfl rfl rfl (List.Mem.head _) (op_move _ _ _ _ rfl rfl),
        st_run 6 14 false rfl rfl rfl (List.Mem.head _) (op_build _ _ _ _ [1, 8, 1, 1, 1, 1, 1, 1] _ _ Try.underlying46 zr46 (fs46 _ Try.underlying46) (.copy _ Src.nil) rfl rfl rfl),
        st_run 6 14 false rfl rfl rfl (List.Mem.head _) (op_callP _ _ _ _ 17 15 [.tmp 15] [.tmp 16] _ _ _ rfl Try.call15 rfl rfl rfl ((ok_diary_Diary_Put v2 ((T_Rec.mk 0 ((T_Mail.mk ((T_Path.mk false (⟨#[]⟩ : ByteArray) (⟨#[]⟩ : ByteArray))) [] [] false (⟨#[]⟩ : ByteArray) 0)) 1 [] 0 0 0 [])) _ hv4).args (subs_cons (sub_refl _) (subs_cons (sub_agg (subs_cons (sub_refl _) (subs_cons (sub_refl _) (subs_cons (sub_refl _) (subs_cons (sub_refl _) (subs_cons (sub_nil_shr 3) (subs_cons (sub_nil_shr 1) (subs_cons (sub_refl _) (subs_cons (sub_refl _) (subs_cons (sub_refl _) (subs_cons (sub_refl _) (subs_cons (sub_nil_shr 1) (subs_cons (sub_refl _) (subs_cons (sub_refl _) (subs_cons (sub_refl _) (subs_cons (sub_nil_shr 1) (subs_nil))))))))))))))))) (subs_nil)))) (Nat.le_of_ble_eq_true rfl) rfl rfl rfl rfl rfl rfl rfl rfl),
        st_run 6 14 false rfl rfl rfl (List.Mem.head _) (op_bin _ _ _ _ _ rfl rfl rfl),
        st_plain rfl (op_pick _ _ false _ rfl rfl),
        st_plain rfl (op_move _ _ _ _ (congrArg (fun b => AV.v (Value.bool b)) hg2_12) rfl),
        st_run 12 20 false rfl rfl rfl (List.Mem.head _) (op_move _ _ _ _ rfl rfl),
        st_run 12 20 false rfl rfl rfl (List.Mem.head _) (op_callP _ _ _ _ 22 17 [.tmp 21] [] _ _ _ rfl Try.call17 rfl rfl rfl (ok_diary_Diary_Sync v4.2 _ hv5) (Nat.le_of_ble_eq_true rfl) rfl rfl rfl rfl rfl rfl rfl rfl),
        st_run 12 20 false rfl rfl rfl (List.Mem.head _) (op_bin _ _ _ _ _ rfl rfl rfl),
        st_plain rfl (op_pick _ _ false _ rfl rfl),
        st_plain rfl (op_move _ _ _ _ (congrArg (fun b => AV.v (Value.bool b)) hg2_17) rfl),
        st_skip 17 25 _ false rfl rfl rfl rfl (List.Mem.head _),
        st_skip 17 25 _ false rfl rfl rfl rfl (List.Mem.head _),
        st_skip 17 25 _ false rfl rfl rfl rfl (List.Mem.head _),
        st_skip 17 25 _ false rfl rfl rfl rfl (List.Mem.head _),
        st_plain rfl (op_pick _ _ true _ rfl rfl),
        trivial⟩ ?_
       exact hl18 _ (Option.some.inj h).symm
      ·obtain ⟨v6, hv6, h⟩ := bind_some h
       refine ht_seqR hn (El := (_ :: _ :: (8, .v (.int .i64 v1.2)) :: (9, .v (.bool (v1.2 != 0))) :: (10, .v (.bool false)) :: (11, .ptr 1 0) :: (12, .v (.bool false)) :: (13, .v (.bool false)) :: (14, .v (.bool false)) :: (15, .ptr 1 0) :: (16, .agg [.v (.int .i64 0), .v (.bool false), .v (.string (⟨#[]⟩ : ByteArray)), .v (.string (⟨#[]⟩ : ByteArray)), .v (.slice none 0 0), .v (.slice none 0 0), .v (.bool false), .v (.string (⟨#[]⟩ : ByteArray)), .v (.int .i64 0), .v (.int .i64 1), .v (.slice none 0 0), .v (.int .i64 0), .v (.int .i64 0), .v (.int .i64 0), .v (.slice none 0 0)]) :: (17, .v (.int .i64 v4.1)) :: (1, .box 64 [.v (.int .i64 v4.2.limit), .fr (.own 46) false 15 (List.flatten (List.map T_Rec.ienc v4.2.recs)), .v (.int .i64 v4.2.used), .v (.int .i64 v4.2.safe), .v (.int .i64 v4.2.kept), .v (.int .i64 v4.2.life), .v (.bool v4.2.off), .v (.int .i64 v4.2.trip), .v (.int .i64 v4.2.tripKeep)]) :: (18, .v (.bool (v4.1 != 0))) :: (19, .v (.bool (v4.1 != 0))) :: (20, .v (.bool false)) :: (21, .ptr 1 0) :: (22, .v (.int .i64 v5.1)) :: (1, .box 64 [.v (.int .i64 v5.2.limit), .fr (.own 46) false 15 (List.flatten (List.map T_Rec.ienc v5.2.recs)), .v (.int .i64 v5.2.used), .v (.int .i64 v5.2.safe), .v (.int .i64 v5.2.kept), .v (.int .i64 v5.2.life), .v (.bool v5.2.off), .v (.int .i64 v5.2.trip), .v (.int .i64 v5.2.tripKeep)]) :: (23, .v (.bool (v5.1 != 0))) :: (24, .v (.bool (v5.1 != 0))) :: (25, .v (.bool false)) :: (26, .ptr 1 0) :: (27, .agg [.v (.int .i64 0), .v (.bool false), .v (.string (⟨#[]⟩ : ByteArray)), .v (.string (⟨#[]⟩ : ByteArray)), .v (.slice none 0 0), .v (.slice none 0 0), .v (.bool false), .v (.string (⟨#[]⟩ : ByteArray)), .v (.int .i64 0), .v (.int .i64 2), .v (.slice none 0 0), .v (.int .i64 0), .v (.int .i64 0), .v (.int .i64 0), .v (.slice none 0 0)]) :: (28, .v (.int .i64 v6.1)) :: (1, .box 64 [.v (.int .i64 v6.2.limit), .fr (.own 46) false 15 (List.flatten (List.map T_Rec.ienc v6.2.recs)), .v (.int .i64 v6.2.used), .v (.int .i64 v6.2.safe), .v (.int .i64 v6.2.kept), .v (.int .i64 v6.2.life), .v (.bool v6.2.off), .v (.int .i64 v6.2.trip), .v (.int .i64 v6.2.tripKeep)]) :: (29, .v (.bool (v6.1 != 8))) :: (30, .v (.bool (v6.1 != 8))) :: [])) (init := [0, 1]) (fin := [25, 27]) (sps := (⟨[1], [], [2], [(.slot 8)]⟩ :: ⟨[2], [], [3], [(.slot 9)]⟩ :: ⟨[3], [], [4], [(.slot 10)]⟩ :: ⟨[4, 0], [], [5], [(.slot 11)]⟩ :: ⟨[4, 5, 0], [], [6], [(.slot 12)]⟩ :: ⟨[4, 6], [], [7], [(.slot 13)]⟩ :: ⟨[7], [], [8], [(.slot 14)]⟩ :: ⟨[8, 0], [], [9], [(.slot 15)]⟩ :: ⟨[8], [], [10], [(.slot 16)]⟩ :: ⟨[8, 9, 10], [0], [12, 11], [(.slot 17), (.cell 1 0), (.cell 1 1), (.cell 1 2), (.cell 1 3), (.cell 1 4), (.cell 1 5), (.cell 1 6), (.cell 1 7), (.cell 1 8)]⟩ :: ⟨[8, 11], [], [13], [(.slot 18)]⟩ :: ⟨[8, 13], [], [14], [(.slot 19)]⟩ :: ⟨[14], [], [15], [(.slot 20)]⟩ :: ⟨[15, 12], [], [16], [(.slot 21)]⟩ :: ⟨[15, 16], [12], [18, 17], [(.slot 22), (.cell 1 0), (.cell 1 1), (.cell 1 2), (.cell 1 3), (.cell 1 4), (.cell 1 5), (.cell 1 6), (.cell 1 7), (.cell 1 8)]⟩ :: ⟨[15, 17], [], [19], [(.slot 23)]⟩ :: ⟨[15, 19], [], [20], [(.slot 24)]⟩ :: ⟨[20], [], [21], [(.slot 25)]⟩ :: ⟨[21, 18], [], [22], [(.slot 26)]⟩ :: ⟨[21], [], [23], [(.slot 27)]⟩ :: ⟨[21, 22, 23], [18], [25, 24], [(.slot 28), (.cell 1 0), (.cell 1 1), (.cell 1 2), (.cell 1 3), (.cell 1 4), (.cell 1 5), (.cell 1 6), (.cell 1 7), (.cell 1 8)]⟩ :: ⟨[21, 24], [], [26], [(.slot 29)]⟩ :: ⟨[21, 26], [], [27], [(.slot 30)]⟩ :: [])) (es' := [(1, .box 64 [.v (.int .i64 v6.2.limit), .fr (.own 46) false 15 (List.flatten (List.map T_Rec.ienc v6.2.recs)), .v (.int .i64 v6.2.used), .v (.int .i64 v6.2.safe), .v (.int .i64 v6.2.kept), .v (.int .i64 v6.2.life), .v (.bool v6.2.off), .v (.int .i64 v6.2.trip), .v (.int .i64 v6.2.tripKeep)]), (30, .v (.bool (v6.1 != 8)))]) (by kernel_rfl) rfl rfl
        ⟨st_plain rfl (op_move _ _ _ _ rfl rfl),
        st_plain rfl (op_bin _ _ _ _ _ rfl rfl rfl),
        st_plain rfl (op_move _ _ _ _ (congrArg (fun b => AV.v (Value.bool b)) hg2_2) rfl),
        st_run 2 10 false rfl rfl rfl (List.Mem.head _) (op_move _ _ _ _ rfl rfl),
        st_run 2 10 false rfl rfl rfl (List.Mem.head _) (op_pnil _ _ false (by kernel_rfl) rfl rfl),
        st_plain rfl (op_pick _ _ false _ rfl rfl),
        st_plain rfl (op_move _ _ _ _ rfl rfl),
        st_run 6 14 false rfl rfl rfl (List.Mem.head _) (op_move _ _ _ _ rfl rfl),
        st_run 6 14 false rfl rfl rfl (List.Mem.head _) (op_build _ _ _ _ [1, 8, 1, 1, 1, 1, 1, 1] _ _ Try.underlying46 zr46 (fs46 _ Try.underlying46) (.copy _ Src.nil) rfl rfl rfl),
        st_run 6 14 false rfl rfl rfl (List.Mem.head _) (op_callP _ _ _ _ 17 15 [.tmp 15] [.tmp 16] _ _ _ rfl Try.call15 rfl rfl rfl ((ok_diary_Diary_Put v2 ((T_Rec.mk 0 ((T_Mail.mk ((T_Path.mk false (⟨#[]⟩ : ByteArray) (⟨#[]⟩ : ByteArray))) [] [] false (⟨#[]⟩ : ByteArray) 0)) 1 [] 0 0 0 [])) _ hv4).args (subs_cons (sub_refl _) (subs_cons (sub_agg (subs_cons (sub_refl _) (subs_cons (sub_refl _) (subs_cons (sub_refl _) (subs_cons (sub_refl _) (subs_cons (sub_nil_shr 3) (subs_cons (sub_nil_shr 1) (subs_cons (sub_refl _) (subs_cons (sub_refl _) (subs_cons (sub_refl _) (subs_cons (sub_refl _) (subs_cons (sub_nil_shr 1) (subs_cons (sub_refl _) (subs_cons (sub_refl _) (subs_cons (sub_refl _) (subs_cons (sub_nil_shr 1) (subs_nil))))))))))))))))) (subs_nil)))) (Nat.le_of_ble_eq_true rfl) rfl rfl rfl rfl rfl rfl rfl rfl),
        st_run 6 14 false rfl rfl rfl (List.Mem.head _) (op_bin _ _ _ _ _ rfl rfl rfl),
        st_plain rfl (op_pick _ _ false _ rfl rfl),
        st_plain rfl (op_move _ _ _ _ (congrArg (fun b => AV.v (Value.bool b)) hg2_12) rfl),
        st_run 12 20 false rfl rfl rfl (List.Mem.head _) (op_move _ _ _ _ rfl rfl),
        st_run 12 20 false rfl rfl rfl (List.Mem.head _) (op_callP _ _ _ _ 22 17 [.tmp 21] [] _ _ _ rfl Try.call17 rfl rfl rfl (ok_diary_Diary_Sync v4.2 _ hv5) (Nat.le_of_ble_eq_true rfl) rfl rfl rfl rfl rfl rfl rfl rfl),
        st_run 12 20 false rfl rfl rfl (List.Mem.head _) (op_bin _ _ _ _ _ rfl rfl rfl),
        st_plain rfl (op_pick _ _ false _ rfl rfl),
        st_plain rfl (op_move _ _ _ _ (congrArg (fun b => AV.v (Value.bool b)) hg2_17) rfl),
        st_run 17 25 false rfl rfl rfl (List.Mem.head _) (op_move _ _ _ _ rfl rfl),
        st_run 17 25 false rfl rfl rfl (List.Mem.head _) (op_build _ _ _ _ [1, 8, 1, 1, 1, 1, 1, 1] _ _ Try.underlying46 zr46 (fs46 _ Try.underlying46) (.copy _ Src.nil) rfl rfl rfl),
        st_run 17 25 false rfl rfl rfl (List.Mem.head _) (op_callP _ _ _ _ 28 15 [.tmp 26] [.tmp 27] _ _ _ rfl Try.call15 rfl rfl rfl ((ok_diary_Diary_Put v5.2 ((T_Rec.mk 0 ((T_Mail.mk ((T_Path.mk false (⟨#[]⟩ : ByteArray) (⟨#[]⟩ : ByteArray))) [] [] false (⟨#[]⟩ : ByteArray) 0)) 2 [] 0 0 0 [])) _ hv6).args (subs_cons (sub_refl _) (subs_cons (sub_agg (subs_cons (sub_refl _) (subs_cons (sub_refl _) (subs_cons (sub_refl _) (subs_cons (sub_refl _) (subs_cons (sub_nil_shr 3) (subs_cons (sub_nil_shr 1) (subs_cons (sub_refl _) (subs_cons (sub_refl _) (subs_cons (sub_refl _) (subs_cons (sub_refl _) (subs_cons (sub_nil_shr 1) (subs_cons (sub_refl _) (subs_cons (sub_refl _) (subs_cons (sub_refl _) (subs_cons (sub_nil_shr 1) (subs_nil))))))))))))))))) (subs_nil)))) (Nat.le_of_ble_eq_true rfl) rfl rfl rfl rfl rfl rfl rfl rfl),
        st_run 17 25 false rfl rfl rfl (List.Mem.head _) (op_bin _ _ _ _ _ rfl rfl rfl),
        st_plain rfl (op_pick _ _ false _ rfl rfl),
        trivial⟩ ?_
       exact hl18 _ (Option.some.inj h).symm
  ·refine pt_then ?_
   refine ht_seq ?_
   refine ht_seq ?_
   refine ht_joinS h (fun (() : Unit) => [(1, .v (.pointer none)), (30, .v (.bool true))]) ?_ ?_
   ·rintro ⟨⟩ h
    refine pt_then ?_
    refine ht_cond true rfl (fun _ => ?_) (fun hb => by cases hb)
    refine ht_seq ?_
    refine ht_seqR hn (El := [_, _, (0, .v (.bool false))]) (init := [0, 1]) (fin := [2]) (sps := [⟨[], [], [2], [(.slot 0)]⟩]) (es' := [(0, .v (.bool false))]) (by kernel_rfl) rfl rfl
     ⟨st_plain rfl (op_assign _ _ _ _ rfl rfl),
     trivial⟩ ?_
    refine pt_then ?_
    refine ht_ret ?_
    refine pt_r_then ?_
    obtain rfl := Option.some.inj h
    exact pt_ret hio rfl (.tmp _ _ .nil) rfl rfl
   ·intro u34 h hl35 hr36
    refine cond_some h (fun hg2_2 h => ?_) (fun hg2_2 h => ?_)
    ·refine ht_seqR hn (El := (_ :: _ :: (8, .v (.int .i64 v1.2)) :: (9, .v (.bool (v1.2 != 0))) :: (10, .v (.bool true)) :: (11, .v undef) :: (12, .v undef) :: (13, .v (.bool true)) :: (14, .v (.bool true)) :: (15, .v undef) :: (16, .v undef) :: (17, .v undef) :: (18, .v undef) :: (19, .v (.bool true)) :: (20, .v (.bool true)) :: (21, .v undef) :: (22, .v undef) :: (23, .v undef) :: (24, .v (.bool true)) :: (25, .v (.bool true)) :: (26, .v undef) :: (27, .v undef) :: (28, .v undef) :: (29, .v undef) :: (30, .v (.bool true)) :: [])) (init := [0, 1]) (fin := [0, 24]) (sps := (⟨[1], [], [2], [(.slot 8)]⟩ :: ⟨[2], [], [3], [(.slot 9)]⟩ :: ⟨[3], [], [4], [(.slot 10)]⟩ :: ⟨[4], [], [5], [(.slot 11)]⟩ :: ⟨[4], [], [6], [(.slot 12)]⟩ :: ⟨[4], [], [7], [(.slot 13)]⟩ :: ⟨[7], [], [8], [(.slot 14)]⟩ :: ⟨[8], [], [9], [(.slot 15)]⟩ :: ⟨[8], [], [10], [(.slot 16)]⟩ :: ⟨[8], [], [11], [(.slot 17)]⟩ :: ⟨[8], [], [12], [(.slot 18)]⟩ :: ⟨[8], [], [13], [(.slot 19)]⟩ :: ⟨[13], [], [14], [(.slot 20)]⟩ :: ⟨[14], [], [15], [(.slot 21)]⟩ :: ⟨[14], [], [16], [(.slot 22)]⟩ :: ⟨[14], [], [17], [(.slot 23)]⟩ :: ⟨[14], [], [18], [(.slot 24)]⟩ :: ⟨[18], [], [19], [(.slot 25)]⟩ :: ⟨[19], [], [20], [(.slot 26)]⟩ :: ⟨[19], [], [21], [(.slot 27)]⟩ :: ⟨[19], [], [22], [(.slot 28)]⟩ :: ⟨[19], [], [23], [(.slot 29)]⟩ :: ⟨[19], [], [24], [(.slot 30)]⟩ :: [])) (es' := [(_, _), (30, .v (.bool true))]) (by kernel_rfl) rfl rfl
      ⟨st_plain rfl (op_move _ _ _ _ rfl rfl),
      st_plain rfl (op_bin _ _ _ _ _ rfl rfl rfl),
      st_plain rfl (op_move _ _ _ _ (congrArg (fun b => AV.v (Value.bool b)) hg2_2) rfl),
      st_skip 2 10 _ false rfl rfl rfl rfl (List.Mem.head _),
      st_skip 2 10 _ false rfl rfl rfl rfl (List.Mem.head _),
      st_plain rfl (op_pick _ _ true _ rfl rfl),
      st_plain rfl (op_move _ _ _ _ rfl rfl),
      st_skip 6 14 _ false rfl rfl rfl rfl (List.Mem.head _),
      st_skip 6 14 _ false rfl rfl rfl rfl (List.Mem.head _),
      st_skip 6 14 _ false rfl rfl rfl rfl (List.Mem.head _),
      st_skip 6 14 _ false rfl rfl rfl rfl (List.Mem.head _),
      st_plain rfl (op_pick _ _ true _ rfl rfl),
      st_plain rfl (op_move _ _ _ _ rfl rfl),
      st_skip 12 20 _ false rfl rfl rfl rfl (List.Mem.head _),
      st_skip 12 20 _ false rfl rfl rfl rfl (List.Mem.head _),
      st_skip 12 20 _ false rfl rfl rfl rfl (List.Mem.head _),
      st_plain rfl (op_pick _ _ true _ rfl rfl),
      st_plain rfl (op_move _ _ _ _ rfl rfl),
      st_skip 17 25 _ false rfl rfl rfl rfl (List.Mem.head _),
      st_skip 17 25 _ false rfl rfl rfl rfl (List.Mem.head _),
      st_skip 17 25 _ false rfl rfl rfl rfl (List.Mem.head _),
      st_skip 17 25 _ false rfl rfl rfl rfl (List.Mem.head _),
      st_plain rfl (op_pick _ _ true _ rfl rfl),
      trivial⟩ ?_
     exact hl35 _ (Option.some.inj h).symm
    ·refine ht_seqR hn (El := (_ :: _ :: (8, .v (.int .i64 v1.2)) :: (9, .v (.bool (v1.2 != 0))) :: (10, .v (.bool false)) :: (11, .v (.pointer none)) :: (12, .v (.bool true)) :: (13, .v (.bool true)) :: (14, .v (.bool true)) :: (15, .v undef) :: (16, .v undef) :: (17, .v undef) :: (18, .v undef) :: (19, .v (.bool true)) :: (20, .v (.bool true)) :: (21, .v undef) :: (22, .v undef) :: (23, .v undef) :: (24, .v (.bool true)) :: (25, .v (.bool true)) :: (26, .v undef) :: (27, .v undef) :: (28, .v undef) :: (29, .v undef) :: (30, .v (.bool true)) :: [])) (init := [0, 1]) (fin := [0, 24]) (sps := (⟨[1], [], [2], [(.slot 8)]⟩ :: ⟨[2], [], [3], [(.slot 9)]⟩ :: ⟨[3], [], [4], [(.slot 10)]⟩ :: ⟨[4, 0], [], [5], [(.slot 11)]⟩ :: ⟨[4, 5], [], [6], [(.slot 12)]⟩ :: ⟨[4, 6], [], [7], [(.slot 13)]⟩ :: ⟨[7], [], [8], [(.slot 14)]⟩ :: ⟨[8], [], [9], [(.slot 15)]⟩ :: ⟨[8], [], [10], [(.slot 16)]⟩ :: ⟨[8], [], [11], [(.slot 17)]⟩ :: ⟨[8], [], [12], [(.slot 18)]⟩ :: ⟨[8], [], [13], [(.slot 19)]⟩ :: ⟨[13], [], [14], [(.slot 20)]⟩ :: ⟨[14], [], [15], [(.slot 21)]⟩ :: ⟨[14], [], [16], [(.slot 22)]⟩ :: ⟨[14], [], [17], [(.slot 23)]⟩ :: ⟨[14], [], [18], [(.slot 24)]⟩ :: ⟨[18], [], [19], [(.slot 25)]⟩ :: ⟨[19], [], [20], [(.slot 26)]⟩ :: ⟨[19], [], [21], [(.slot 27)]⟩ :: ⟨[19], [], [22], [(.slot 28)]⟩ :: ⟨[19], [], [23], [(.slot 29)]⟩ :: ⟨[19], [], [24], [(.slot 30)]⟩ :: [])) (es' := [(_, _), (30, .v (.bool true))]) (by kernel_rfl) rfl rfl
      ⟨st_plain rfl (op_move _ _ _ _ rfl rfl),
      st_plain rfl (op_bin _ _ _ _ _ rfl rfl rfl),
      st_plain rfl (op_move _ _ _ _ (congrArg (fun b => AV.v (Value.bool b)) hg2_2) rfl),
      st_run 2 10 false rfl rfl rfl (List.Mem.head _) (op_move _ _ _ _ rfl rfl),
      st_run 2 10 false rfl rfl rfl (List.Mem.head _) (op_nilnil _ _ false (by kernel_rfl) rfl rfl),
      st_plain rfl (op_pick _ _ false _ rfl rfl),
      st_plain rfl (op_move _ _ _ _ rfl rfl),
      st_skip 6 14 _ false rfl rfl rfl rfl (List.Mem.head _),
      st_skip 6 14 _ false rfl rfl rfl rfl (List.Mem.head _),
      st_skip 6 14 _ false rfl rfl rfl rfl (List.Mem.head _),
      st_skip 6 14 _ false rfl rfl rfl rfl (List.Mem.head _),
      st_plain rfl (op_pick _ _ true _ rfl rfl),
      st_plain rfl (op_move _ _ _ _ rfl rfl),
      st_skip 12 20 _ false rfl rfl rfl rfl (List.Mem.head _),
      st_skip 12 20 _ false rfl rfl rfl rfl (List.Mem.head _),
      st_skip 12 20 _ false rfl rfl rfl rfl (List.Mem.head _),
      st_plain rfl (op_pick _ _ true _ rfl rfl),
      st_plain rfl (op_move _ _ _ _ rfl rfl),
      st_skip 17 25 _ false rfl rfl rfl rfl (List.Mem.head _),
      st_skip 17 25 _ false rfl rfl rfl rfl (List.Mem.head _),
      st_skip 17 25 _ false rfl rfl rfl rfl (List.Mem.head _),
      st_skip 17 25 _ false rfl rfl rfl rfl (List.Mem.head _),
      st_plain rfl (op_pick _ _ true _ rfl rfl),
      trivial⟩ ?_
     exact hl35 _ (Option.some.inj h).symm

set_option maxHeartbeats 1000000 in
theorem ok_wherrykeep_Path (a : T_Path) (b : T_Path) (r : Bool) (h : Sh.wherrykeep_Path a b = some r) : FnOK Try.prog 64 [.agg [.v (.bool a.Null), .v (.string a.Local), .v (.string a.Domain)], .agg [.v (.bool b.Null), .v (.string b.Local), .v (.string b.Domain)]] (.v (.bool r)) := by
  unfold Sh.wherrykeep_Path at h
  refine fn_ok Try.func64 rfl (Nat.le_of_ble_eq_true rfl) rfl rfl fun g0 hn hio => ?_
  refine ht_seq ?_
  refine ht_seqR hn (El := [_, _, (2, .box 39 [.v (.bool a.Null), .v (.string a.Local), .v (.string a.Domain)]), (3, .box 39 [.v (.bool b.Null), .v (.string b.Local), .v (.string b.Domain)]), (4, .v (.bool false))]) (init := [0, 1]) (fin := [2, 3]) (sps := [⟨[0], [], [2], [(.slot 2)]⟩, ⟨[1], [], [3], [(.slot 3)]⟩, ⟨[], [], [4], [(.slot 4)]⟩]) (es' := [(2, .box 39 [.v (.bool a.Null), .v (.string a.Local), .v (.string a.Domain)]), (3, .box 39 [.v (.bool b.Null), .v (.string b.Local), .v (.string b.Domain)])]) (by kernel_rfl) rfl rfl
   ⟨st_plain rfl (op_box _ _ _ _ rfl rfl rfl),
   st_plain rfl (op_box _ _ _ _ rfl rfl rfl),
   st_plain rfl (op_assign _ _ _ _ rfl rfl),
   trivial⟩ ?_
  refine pt_then ?_
  refine ht_seq ?_
  refine ht_joinS h (fun (s2 : Bool) => [(4, .v (.bool s2))]) ?_ ?_
  ·rintro s2 h
   refine pt_then ?_
   refine ht_ret ?_
   obtain rfl := Option.some.inj h
   exact pt_ret hio rfl (.tmp _ _ .nil) rfl rfl
  ·intro u3 h hl4 hr5
   obtain ⟨v1, hv1, h⟩ := bind_some h
   refine cond_some h (fun hg1_5 h => ?_) (fun hg1_5 h => ?_)
   ·refine cond_some h (fun hg1_12 h => ?_) (fun hg1_12 h => ?_)
    ·refine ht_seqR hn (El := (_ :: _ :: (5, .ptr 2 0) :: (6, .v (.bool a.Null)) :: (7, .ptr 3 0) :: (8, .v (.bool b.Null)) :: (9, .v (.bool (a.Null == b.Null))) :: (10, .v (.bool true)) :: (11, .ptr 2 1) :: (12, .v (.string a.Local)) :: (13, .ptr 3 1) :: (14, .v (.string b.Local)) :: (15, .v (.bool (a.Local.toList == b.Local.toList))) :: (16, .v (.bool (a.Local.toList == b.Local.toList))) :: (17, .v (.bool true)) :: (18, .ptr 2 2) :: (19, .v (.string a.Domain)) :: (20, .ptr 3 2) :: (21, .v (.string b.Domain)) :: (22, .v (.bool (a.Domain.toList == b.Domain.toList))) :: (23, .v (.bool (a.Domain.toList == b.Domain.toList))) :: (4, .v (.bool (a.Domain.toList == b.Domain.toList))) :: [])) (init := [0, 1]) (fin := [21]) (sps := (⟨[0], [], [2], [(.slot 5)]⟩ :: ⟨[2, 0], [], [3], [(.slot 6)]⟩ :: ⟨[1], [], [4], [(.slot 7)]⟩ :: ⟨[4, 1], [], [5], [(.slot 8)]⟩ :: ⟨[3, 5], [], [6], [(.slot 9)]⟩ :: ⟨[6], [], [7], [(.slot 10)]⟩ :: ⟨[7, 0], [], [8], [(.slot 11)]⟩ :: ⟨[7, 8, 0], [], [9], [(.slot 12)]⟩ :: ⟨[7, 1], [], [10], [(.slot 13)]⟩ :: ⟨[7, 10, 1], [], [11], [(.slot 14)]⟩ :: ⟨[7, 9, 11], [], [12], [(.slot 15)]⟩ :: ⟨[7, 12], [], [13], [(.slot 16)]⟩ :: ⟨[13], [], [14], [(.slot 17)]⟩ :: ⟨[14, 0], [], [15], [(.slot 18)]⟩ :: ⟨[14, 15, 0], [], [16], [(.slot 19)]⟩ :: ⟨[14, 1], [], [17], [(.slot 20)]⟩ :: ⟨[14, 17, 1], [], [18], [(.slot 21)]⟩ :: ⟨[14, 16, 18], [], [19], [(.slot 22)]⟩ :: ⟨[14, 19], [], [20], [(.slot 23)]⟩ :: ⟨[20], [], [21], [(.slot 4)]⟩ :: [])) (es' := [(4, .v (.bool (a.Domain.toList == b.Domain.toList)))]) (by kernel_rfl) rfl rfl
      ⟨st_plain rfl (op_fieldAddr _ _ _ _ 2 0 _ Try.underlying39 rfl sz4 rfl rfl (by decide)),
      st_plain rfl (op_load _ _ _ _ _ _ Try.underlying4 rfl rfl rfl (Nat.le_of_ble_eq_true rfl) rfl rfl rfl),
      st_plain rfl (op_fieldAddr _ _ _ _ 3 0 _ Try.underlying39 rfl sz4 rfl rfl (by decide)),
      st_plain rfl (op_load _ _ _ _ _ _ Try.underlying4 rfl rfl rfl (Nat.le_of_ble_eq_true rfl) rfl rfl rfl),
      st_plain rfl (op_beq _ _ _ _ Try.underlying4 rfl rfl),
      st_plain rfl (op_move _ _ _ _ (congrArg (fun b => AV.v (Value.bool b)) hg1_5) rfl),
      st_run 5 10 true rfl rfl rfl (List.Mem.head _) (op_fieldAddr _ _ _ _ 2 0 _ Try.underlying39 rfl sz9 rfl rfl (by decide)),
      st_run 5 10 true rfl rfl rfl (List.Mem.head _) (op_load _ _ _ _ _ _ Try.underlying9 rfl rfl rfl (Nat.le_of_ble_eq_true rfl) rfl rfl rfl),
      st_run 5 10 true rfl rfl rfl (List.Mem.head _) (op_fieldAddr _ _ _ _ 3 0 _ Try.underlying39 rfl sz9 rfl rfl (by decide)),
      st_run 5 10 true rfl rfl rfl (List.Mem.head _) (op_load _ _ _ _ _ _ Try.underlying9 rfl rfl rfl (Nat.le_of_ble_eq_true rfl) rfl rfl rfl),
      st_run 5 10 true rfl rfl rfl (List.Mem.head _) (op_bin _ _ _ _ _ rfl rfl rfl),
      st_plain rfl (op_pick _ _ true _ rfl rfl),
      st_plain rfl (op_move _ _ _ _ (congrArg (fun b => AV.v (Value.bool b)) hg1_12) rfl),
      st_run 12 17 true rfl rfl rfl (List.Mem.head _) (op_fieldAddr _ _ _ _ 2 0 _ Try.underlying39 rfl sz9 rfl rfl (by decide)),
      st_run 12 17 true rfl rfl rfl (List.Mem.head _) (op_load _ _ _ _ _ _ Try.underlying9 rfl rfl rfl (Nat.le_of_ble_eq_true rfl) rfl rfl rfl),
      st_run 12 17 true rfl rfl rfl (List.Mem.head _) (op_fieldAddr _ _ _ _ 3 0 _ Try.underlying39 rfl sz9 rfl rfl (by decide)),
      st_run 12 17 true rfl rfl rfl (List.Mem.head _) (op_load _ _ _ _ _ _ Try.underlying9 rfl rfl rfl (Nat.le_of_ble_eq_true rfl) rfl rfl rfl),
      st_run 12 17 true rfl rfl rfl (List.Mem.head _) (op_bin _ _ _ _ _ rfl rfl rfl),
      st_plain rfl (op_pick _ _ true _ rfl rfl),
      st_plain rfl (op_assign _ _ _ _ rfl rfl),
      trivial⟩ ?_
     exact hl4 _ (Option.some.inj h).symm
    ·refine ht_seqR hn (El := (_ :: _ :: (5, .ptr 2 0) :: (6, .v (.bool a.Null)) :: (7, .ptr 3 0) :: (8, .v (.bool b.Null)) :: (9, .v (.bool (a.Null == b.Null))) :: (10, .v (.bool true)) :: (11, .ptr 2 1) :: (12, .v (.string a.Local)) :: (13, .ptr 3 1) :: (14, .v (.string b.Local)) :: (15, .v (.bool (a.Local.toList == b.Local.toList))) :: (16, .v (.bool (a.Local.toList == b.Local.toList))) :: (17, .v (.bool false)) :: (18, .v undef) :: (19, .v undef) :: (20, .v undef) :: (21, .v undef) :: (22, .v undef) :: (23, .v (.bool false)) :: (4, .v (.bool false)) :: [])) (init := [0, 1]) (fin := [21]) (sps := (⟨[0], [], [2], [(.slot 5)]⟩ :: ⟨[2, 0], [], [3], [(.slot 6)]⟩ :: ⟨[1], [], [4], [(.slot 7)]⟩ :: ⟨[4, 1], [], [5], [(.slot 8)]⟩ :: ⟨[3, 5], [], [6], [(.slot 9)]⟩ :: ⟨[6], [], [7], [(.slot 10)]⟩ :: ⟨[7, 0], [], [8], [(.slot 11)]⟩ :: ⟨[7, 8, 0], [], [9], [(.slot 12)]⟩ :: ⟨[7, 1], [], [10], [(.slot 13)]⟩ :: ⟨[7, 10, 1], [], [11], [(.slot 14)]⟩ :: ⟨[7, 9, 11], [], [12], [(.slot 15)]⟩ :: ⟨[7, 12], [], [13], [(.slot 16)]⟩ :: ⟨[13], [], [14], [(.slot 17)]⟩ :: ⟨[14], [], [15], [(.slot 18)]⟩ :: ⟨[14], [], [16], [(.slot 19)]⟩ :: ⟨[14], [], [17], [(.slot 20)]⟩ :: ⟨[14], [], [18], [(.slot 21)]⟩ :: ⟨[14], [], [19], [(.slot 22)]⟩ :: ⟨[14], [], [20], [(.slot 23)]⟩ :: ⟨[20], [], [21], [(.slot 4)]⟩ :: [])) (es' := [(4, .v (.bool false))]) (by kernel_rfl) rfl rfl
      ⟨st_plain rfl (op_fieldAddr _ _ _ _ 2 0 _ Try.underlying39 rfl sz4 rfl rfl (by decide)),
      st_plain rfl (op_load _ _ _ _ _ _ Try.underlying4 rfl rfl rfl (Nat.le_of_ble_eq_true rfl) rfl rfl rfl),
      st_plain rfl (op_fieldAddr _ _ _ _ 3 0 _ Try.underlying39 rfl sz4 rfl rfl (by decide)),
      st_plain rfl (op_load _ _ _ _ _ _ Try.underlying4 rfl rfl rfl (Nat.le_of_ble_eq_true rfl) rfl rfl rfl),
      st_plain rfl (op_beq _ _ _ _ Try.underlying4 rfl rfl),
      st_plain rfl (op_move _ _ _ _ (congrArg (fun b => AV.v (Value.bool b)) hg1_5) rfl),
      st_run 5 10 true rfl rfl rfl (List.Mem.head _) (op_fieldAddr _ _ _ _ 2 0 _ Try.underlying39 rfl sz9 rfl rfl (by decide)),
      st_run 5 10 true rfl rfl rfl (List.Mem.head _) (op_load _ _ _ _ _ _ Try.underlying9 rfl rfl rfl (Nat.le_of_ble_eq_true rfl) rfl rfl rfl),
      st_run 5 10 true rfl rfl rfl (List.Mem.head _) (op_fieldAddr _ _ _ _ 3 0 _ Try.underlying39 rfl sz9 rfl rfl (by decide)),
      st_run 5 10 true rfl rfl rfl (List.Mem.head _) (op_load _ _ _ _ _ _ Try.underlying9 rfl rfl rfl (Nat.le_of_ble_eq_true rfl) rfl rfl rfl),
      st_run 5 10 true rfl rfl rfl (List.Mem.head _) (op_bin _ _ _ _ _ rfl rfl rfl),
      st_plain rfl (op_pick _ _ true _ rfl rfl),
      st_plain rfl (op_move _ _ _ _ (congrArg (fun b => AV.v (Value.bool b)) hg1_12) rfl),
      st_skip 12 17 _ true rfl rfl rfl rfl (List.Mem.head _),
      st_skip 12 17 _ true rfl rfl rfl rfl (List.Mem.head _),
      st_skip 12 17 _ true rfl rfl rfl rfl (List.Mem.head _),
      st_skip 12 17 _ true rfl rfl rfl rfl (List.Mem.head _),
      st_skip 12 17 _ true rfl rfl rfl rfl (List.Mem.head _),
      st_plain rfl (op_pick _ _ false _ rfl rfl),
      st_plain rfl (op_assign _ _ _ _ rfl rfl),
      trivial⟩ ?_
     exact hl4 _ (Option.some.inj h).symm
   ·refine ht_seqR hn (El := (_ :: _ :: (5, .ptr 2 0) :: (6, .v (.bool a.Null)) :: (7, .ptr 3 0) :: (8, .v (.bool b.Null)) :: (9, .v (.bool (a.Null == b.Null))) :: (10, .v (.bool false)) :: (11, .v undef) :: (12, .v undef) :: (13, .v undef) :: (14, .v undef) :: (15, .v undef) :: (16, .v (.bool false)) :: (17, .v (.bool false)) :: (18, .v undef) :: (19, .v undef) :: (20, .v undef) :: (21, .v undef) :: (22, .v undef) :: (23, .v (.bool false)) :: (4, .v (.bool false)) :: [])) (init := [0, 1]) (fin := [21]) (sps := (⟨[0], [], [2], [(.slot 5)]⟩ :: ⟨[2, 0], [], [3], [(.slot 6)]⟩ :: ⟨[1], [], [4], [(.slot 7)]⟩ :: ⟨[4, 1], [], [5], [(.slot 8)]⟩ :: ⟨[3, 5], [], [6], [(.slot 9)]⟩ :: ⟨[6], [], [7], [(.slot 10)]⟩ :: ⟨[7], [], [8], [(.slot 11)]⟩ :: ⟨[7], [], [9], [(.slot 12)]⟩ :: ⟨[7], [], [10], [(.slot 13)]⟩ :: ⟨[7], [], [11], [(.slot 14)]⟩ :: ⟨[7], [], [12], [(.slot 15)]⟩ :: ⟨[7], [], [13], [(.slot 16)]⟩ :: ⟨[13], [], [14], [(.slot 17)]⟩ :: ⟨[14], [], [15], [(.slot 18)]⟩ :: ⟨[14], [], [16], [(.slot 19)]⟩ :: ⟨[14], [], [17], [(.slot 20)]⟩ :: ⟨[14], [], [18], [(.slot 21)]⟩ :: ⟨[14], [], [19], [(.slot 22)]⟩ :: ⟨[14], [], [20], [(.slot 23)]⟩ :: ⟨[20], [], [21], [(.slot 4)]⟩ :: [])) (es' := [(4, .v (.bool false))]) (by kernel_rfl) rfl rfl
     ⟨st_plain rfl (op_fieldAddr _ _ _ _ 2 0 _ Try.underlying39 rfl sz4 rfl rfl (by decide)),
     st_plain rfl (op_load _ _ _ _ _ _ Try.underlying4 rfl rfl rfl (Nat.le_of_ble_eq_true rfl) rfl rfl rfl),
     st_plain rfl (op_fieldAddr _ _ _ _ 3 0 _ Try.underlying39 rfl sz4 rfl rfl (by decide)),
     st_plain rfl (op_load _ _ _ _ _ _ Try.underlying4 rfl rfl rfl (Nat.le_of_ble_eq_true rfl) rfl rfl rfl),
     st_plain rfl (op_beq _ _ _ _ Try.underlying4 rfl rfl),
     st_plain rfl (op_move _ _ _ _ (congrArg (fun b => AV.v (Value.bool b)) hg1_5) rfl),
     st_skip 5 10 _ true rfl rfl rfl rfl (List.Mem.head _),
     st_skip 5 10 _ true rfl rfl rfl rfl (List.Mem.head _),
     st_skip 5 10 _ true rfl rfl rfl rfl (List.Mem.head _),
     st_skip 5 10 _ true rfl rfl rfl rfl (List.Mem.head _),
     st_skip 5 10 _ true rfl rfl rfl rfl (List.Mem.head _),
     st_plain rfl (op_pick _ _ false _ rfl rfl),
     st_plain rfl (op_move _ _ _ _ rfl rfl),
     st_skip 12 17 _ true rfl rfl rfl rfl (List.Mem.head _),
     st_skip 12 17 _ true rfl rfl rfl rfl (List.Mem.head _),
     st_skip 12 17 _ true rfl rfl rfl rfl (List.Mem.head _),
     st_skip 12 17 _ true rfl rfl rfl rfl (List.Mem.head _),
     st_skip 12 17 _ true rfl rfl rfl rfl (List.Mem.head _),
     st_plain rfl (op_pick _ _ false _ rfl rfl),
     st_plain rfl (op_assign _ _ _ _ rfl rfl),
     trivial⟩ ?_
    exact hl4 _ (Option.some.inj h).symm

set_option maxHeartbeats 1000000 in
theorem ok_wherrykeep_Paths (a : (List T_Path)) (b : (List T_Path)) (r : Bool) (h : Sh.wherrykeep_Paths a b = some r) : FnOK Try.prog 65 [.fl .shr 3 (List.flatten (List.map T_Path.enc a)), .fl .shr 3 (List.flatten (List.map T_Path.enc b))] (.v (.bool r)) := by
  unfold Sh.wherrykeep_Paths at h
  refine fn_ok Try.func65 rfl (Nat.le_of_ble_eq_true rfl) rfl rfl fun g0 hn hio => ?_
  refine ht_seq ?_
  refine ht_seqR hn (El := [_, _, (4, .v (.bool false))]) (init := [0, 1]) (fin := [0, 1]) (sps := [⟨[], [], [2], [(.slot 4)]⟩]) (es' := [(_, _), (_, _)]) (by kernel_rfl) rfl rfl
   ⟨st_plain rfl (op_assign _ _ _ _ rfl rfl),
   trivial⟩ ?_
  refine pt_then ?_
  refine ht_seq ?_
  refine ht_seq ?_
  refine ht_seqR hn (El := [_, _, (6, .fl .shr 3 (List.flatten (List.map T_Path.enc a))), (7, .v (.int .i64 (a.length : Int))), (8, .fl .shr 3 (List.flatten (List.map T_Path.enc b))), (9, .v (.int .i64 (b.length : Int))), (10, .v (.bool (((a.length : Int) != (b.length : Int)))))]) (init := [0, 1]) (fin := [0, 1, 6]) (sps := [⟨[0], [], [2], [(.slot 6)]⟩, ⟨[2], [], [3], [(.slot 7)]⟩, ⟨[1], [], [4], [(.slot 8)]⟩, ⟨[4], [], [5], [(.slot 9)]⟩, ⟨[3, 5], [], [6], [(.slot 10)]⟩]) (es' := [(_, _), (_, _), (10, .v (.bool (((a.length : Int) != (b.length : Int)))))]) (by kernel_rfl) rfl rfl
   ⟨st_plain rfl (op_move _ _ _ _ rfl rfl),
   st_plain rfl (op_len_fl _ _ _ Try.underlying40 rfl (by decide) (flat_len T_Path.len _)),
   st_plain rfl (op_move _ _ _ _ rfl rfl),
   st_plain rfl (op_len_fl _ _ _ Try.underlying40 rfl (by decide) (flat_len T_Path.len _)),
   st_plain rfl (op_bin _ _ _ _ _ rfl rfl rfl),
   trivial⟩ ?_
  refine pt_then ?_
  refine ht_cond _ rfl (fun hb1 => ?_) (fun hb1 => ?_)
  ·have h := cond_t hb1 h
   refine ht_seq ?_
   refine ht_seqR hn (El := [_, _, _, (4, .v (.bool false))]) (init := [0, 1, 2]) (fin := [3]) (sps := [⟨[], [], [3], [(.slot 4)]⟩]) (es' := [(4, .v (.bool false))]) (by kernel_rfl) rfl rfl
    ⟨st_plain rfl (op_assign _ _ _ _ rfl rfl),
    trivial⟩ ?_
   refine pt_then ?_
   refine ht_ret ?_
   refine pt_r_then ?_
   obtain rfl := Option.some.inj h
   exact pt_ret hio rfl (.tmp _ _ .nil) rfl rfl
  ·have h := cond_f hb1 h
   refine ht_skip ?_
   refine pt_then ?_
   refine ht_seq ?_
   refine ht_seq ?_
   refine ht_seqR hn (El := [_, _, _, (5, .v (.int .i64 0))]) (init := [0, 1, 2]) (fin := [0, 1, 3]) (sps := [⟨[], [], [3], [(.slot 5)]⟩]) (es' := [(_, _), (_, _), (5, .v (.int .i64 0))]) (by kernel_rfl) rfl rfl
    ⟨st_plain rfl (op_assign _ _ _ _ rfl rfl),
    trivial⟩ ?_
   refine pt_then ?_
   refine ht_loopS h (fun (s13 : Int) => [(0, .fl .shr 3 (List.flatten (List.map T_Path.enc a))), (1, .fl .shr 3 (List.flatten (List.map T_Path.enc b))), (5, .v (.int .i64 s13))]) (fun (() : Unit) => []) ?_ ?_
   ·rintro ⟨⟩ h
    refine pt_then ?_
    refine ht_seq ?_
    refine ht_seqR hn (El := [(4, .v (.bool true))]) (init := []) (fin := [0]) (sps := [⟨[], [], [0], [(.slot 4)]⟩]) (es' := [(4, .v (.bool true))]) (by kernel_rfl) rfl rfl
     ⟨st_plain rfl (op_assign _ _ _ _ rfl rfl),
     trivial⟩ ?_
    refine pt_then ?_
    refine ht_ret ?_
    obtain rfl := Option.some.inj h
    exact pt_ret hio rfl (.tmp _ _ .nil) rfl rfl
   ·rintro u16 hl17 hr18 s13 rr21 h ho19
    refine ht_seq ?_
    refine ht_seq ?_
    refine ht_seqR hn (El := [_, _, _, (11, .v (.int .i64 s13)), (12, .fl .shr 3 (List.flatten (List.map T_Path.enc a))), (13, .v (.int .i64 (a.length : Int))), (14, .v (.bool ((decide (s13 < (a.length : Int))))))]) (init := [0, 1, 2]) (fin := [0, 1, 2, 6]) (sps := [⟨[2], [], [3], [(.slot 11)]⟩, ⟨[0], [], [4], [(.slot 12)]⟩, ⟨[4], [], [5], [(.slot 13)]⟩, ⟨[3, 5], [], [6], [(.slot 14)]⟩]) (es' := [(_, _), (_, _), (_, _), (14, .v (.bool ((decide (s13 < (a.length : Int))))))]) (by kernel_rfl) rfl rfl
     ⟨st_plain rfl (op_move _ _ _ _ rfl rfl),
     st_plain rfl (op_move _ _ _ _ rfl rfl),
     st_plain rfl (op_len_fl _ _ _ Try.underlying40 rfl (by decide) (flat_len T_Path.len _)),
     st_plain rfl (op_bin _ _ _ _ _ rfl rfl rfl),
     trivial⟩ ?_
    refine pt_then ?_
    refine ht_cond _ rfl (fun hb22 => ?_) (fun hb22 => ?_)
    ·have h := cond_t hb22 h
     refine ht_skip ?_
     refine pt_then ?_
     refine ht_seq ?_
     refine ht_block ?_
     refine ht_seq ?_
     obtain ⟨v3, hv3, h⟩ := bind_some h
     obtain ⟨v4, hv4, h⟩ := bind_some h
     obtain ⟨v5, hv5, h⟩ := bind_some h
     obtain ⟨v6, hv6, h⟩ := bind_some h
     obtain ⟨v7, hv7, h⟩ := bind_some h
     refine ht_anyR (by kernel_rfl) hn (El := [_, _, _, _, (17, .fl .shr 3 (List.flatten (List.map T_Path.enc a))), (18, .v (.int .i64 s13)), (19, .eref (.slot 17) (v3 * 3)), (20, .agg [.v (.bool v4.Null), .v (.string v4.Local), .v (.string v4.Domain)]), (21, .fl .shr 3 (List.flatten (List.map T_Path.enc b))), (22, .v (.int .i64 s13)), (23, .eref (.slot 21) (v5 * 3)), (24, .agg [.v (.bool v6.Null), .v (.string v6.Local), .v (.string v6.Domain)]), (25, .v (.bool v7)), (26, .v (.bool (!v7)))]) (init := [0, 1, 2, 3]) (fin := [0, 1, 2, 13]) (sps := [⟨[0], [], [4], [(.slot 17)]⟩, ⟨[2], [], [5], [(.slot 18)]⟩, ⟨[4, 5], [], [6], [(.slot 19)]⟩, ⟨[6, 4], [], [7], [(.slot 20)]⟩, ⟨[1], [], [8], [(.slot 21)]⟩, ⟨[2], [], [9], [(.slot 22)]⟩, ⟨[8, 9], [], [10], [(.slot 23)]⟩, ⟨[10, 8], [], [11], [(.slot 24)]⟩, ⟨[7, 11], [], [12], [(.slot 25)]⟩, ⟨[12], [], [13], [(.slot 26)]⟩]) (es' := [(_, _), (_, _), (_, _), (26, .v (.bool (!v7)))]) (by kernel_rfl) rfl rfl
      ⟨st_plain rfl (op_move _ _ _ _ rfl rfl),
      st_plain rfl (op_move _ _ _ _ rfl rfl),
      st_plain rfl (op_ix _ _ _ _ _ _ _ _ Try.underlying40 sz39 (by decide) rfl rfl rfl (ix_ok hv3).1 (flat_lt T_Path.len (ix_ok hv3).2) rfl),
      st_plain rfl (op_load_eA _ _ _ _ _ _ _ Try.underlying39 rfl sz39 rfl rfl (flat_get T_Path.len hv4) rfl (by decide)),
      st_plain rfl (op_move _ _ _ _ rfl rfl),
      st_plain rfl (op_move _ _ _ _ rfl rfl),
      st_plain rfl (op_ix _ _ _ _ _ _ _ _ Try.underlying40 sz39 (by decide) rfl rfl rfl (ix_ok hv5).1 (flat_lt T_Path.len (ix_ok hv5).2) rfl),
      st_plain rfl (op_load_eA _ _ _ _ _ _ _ Try.underlying39 rfl sz39 rfl rfl (flat_get T_Path.len hv6) rfl (by decide)),
      st_plain rfl (op_call _ _ 64 _ _ rfl Try.call64 rfl (ok_wherrykeep_Path v4 v6 _ hv7) rfl rfl),
      st_plain rfl (op_un _ _ _ _ rfl rfl),
      trivial⟩ ?_
     refine pt_then ?_
     refine ht_cond _ rfl (fun hb23 => ?_) (fun hb23 => ?_)
     ·have h := cond_t hb23 h
      refine ht_seq ?_
      refine ht_seqR hn (El := [_, _, _, _, (4, .v (.bool false))]) (init := [0, 1, 2, 3]) (fin := [4]) (sps := [⟨[], [], [4], [(.slot 4)]⟩]) (es' := [(4, .v (.bool false))]) (by kernel_rfl) rfl rfl
       ⟨st_plain rfl (op_assign _ _ _ _ rfl rfl),
       trivial⟩ ?_
      refine pt_then ?_
      refine ht_ret ?_
      refine pt_r_in ?_
      refine pt_r_then ?_
      refine pt_r_then ?_
      refine pt_r_in ?_
      refine pt_r_then ?_
      have h := hr18 _ (ho19 _ (Option.some.inj h).symm).symm
      obtain rfl := Option.some.inj h
      exact pt_ret hio rfl (.tmp _ _ .nil) rfl rfl
     ·have h := cond_f hb23 h
      refine ht_skip ?_
      refine pt_inb ?_
      refine pt_then ?_
      obtain ⟨v9, hv9, h⟩ := bind_some h
      refine ht_seqR hn (El := [_, _, _, _, (15, .v (.int .i64 s13)), (16, .v (.int .i64 v9)), (5, .v (.int .i64 v9))]) (init := [0, 1, 2, 3]) (fin := [0, 1, 6]) (sps := [⟨[2], [], [4], [(.slot 15)]⟩, ⟨[4], [], [5], [(.slot 16)]⟩, ⟨[5], [2], [6], [(.slot 5)]⟩]) (es' := [(_, _), (_, _), (5, .v (.int .i64 v9))]) (by kernel_rfl) rfl rfl
       ⟨st_plain rfl (op_move _ _ _ _ rfl rfl),
       st_plain rfl (op_bin _ _ _ _ _ rfl rfl (ibind (f := Value.int .i64) (Option.some.inj hv9))),
       st_plain rfl (LOp.drop [_] (op_assign _ _ _ _ rfl rfl)),
       trivial⟩ ?_
      exact pt_next _ (Option.some.inj h).symm rfl
    ·have h := cond_f hb22 h
     refine ht_exit ?_
     refine pt_x_then ?_
     refine pt_x_then ?_
     refine pt_x_in ?_
     refine pt_pick [] (by kernel_rfl) (es' := []) rfl ?_
     exact hl17 _ (ho19 _ (Option.some.inj h).symm).symm

set_option maxHeartbeats 1000000 in
theorem ok_wherrykeep_Bytes (a : (List Int)) (b : (List Int)) (r : Bool) (h : Sh.wherrykeep_Bytes a b = some r) : FnOK Try.prog 61 [.fl .shr 1 (List.map (Value.int .u8) a), .fl .shr 1 (List.map (Value.int .u8) b)] (.v (.bool r)) := by
  unfold Sh.wherrykeep_Bytes at h
  refine fn_ok Try.func61 rfl (Nat.le_of_ble_eq_true rfl) rfl rfl fun g0 hn hio => ?_
  refine ht_seq ?_
  refine ht_seqR hn (El := [_, _, (4, .v (.bool false))]) (init := [0, 1]) (fin := [0, 1]) (sps := [⟨[], [], [2], [(.slot 4)]⟩]) (es' := [(_, _), (_, _)]) (by kernel_rfl) rfl rfl
   ⟨st_plain rfl (op_assign _ _ _ _ rfl rfl),
   trivial⟩ ?_
  refine pt_then ?_
  refine ht_seq ?_
  refine ht_seq ?_
  refine ht_seqR hn (El := [_, _, (6, .fl .shr 1 (List.map (Value.int .u8) a)), (7, .v (.int .i64 (a.length : Int))), (8, .fl .shr 1 (List.map (Value.int .u8) b)), (9, .v (.int .i64 (b.length : Int))), (10, .v (.bool (((a.length : Int) != (b.length : Int)))))]) (init := [0, 1]) (fin := [0, 1, 6]) (sps := [⟨[0], [], [2], [(.slot 6)]⟩, ⟨[2], [], [3], [(.slot 7)]⟩, ⟨[1], [], [4], [(.slot 8)]⟩, ⟨[4], [], [5], [(.slot 9)]⟩, ⟨[3, 5], [], [6], [(.slot 10)]⟩]) (es' := [(_, _), (_, _), (10, .v (.bool (((a.length : Int) != (b.length : Int)))))]) (by kernel_rfl) rfl rfl
   ⟨st_plain rfl (op_move _ _ _ _ rfl rfl),
   st_plain rfl (op_len_fl _ _ _ Try.underlying41 rfl (by decide) (map_len _)),
   st_plain rfl (op_move _ _ _ _ rfl rfl),
   st_plain rfl (op_len_fl _ _ _ Try.underlying41 rfl (by decide) (map_len _)),
   st_plain rfl (op_bin _ _ _ _ _ rfl rfl rfl),
   trivial⟩ ?_
  refine pt_then ?_
  refine ht_cond _ rfl (fun hb1 => ?_) (fun hb1 => ?_)
  ·have h := cond_t hb1 h
   refine ht_seq ?_
   refine ht_seqR hn (El := [_, _, _, (4, .v (.bool false))]) (init := [0, 1, 2]) (fin := [3]) (sps := [⟨[], [], [3], [(.slot 4)]⟩]) (es' := [(4, .v (.bool false))]) (by kernel_rfl) rfl rfl
    ⟨st_plain rfl (op_assign _ _ _ _ rfl rfl),
    trivial⟩ ?_
   refine pt_then ?_
   refine ht_ret ?_
   refine pt_r_then ?_
   obtain rfl := Option.some.inj h
   exact pt_ret hio rfl (.tmp _ _ .nil) rfl rfl
  ·have h := cond_f hb1 h
   refine ht_skip ?_
   refine pt_then ?_
   refine ht_seq ?_
   refine ht_seq ?_
   refine ht_seqR hn (El := [_, _, _, (5, .v (.int .i64 0))]) (init := [0, 1, 2]) (fin := [0, 1, 3]) (sps := [⟨[], [], [3], [(.slot 5)]⟩]) (es' := [(_, _), (_, _), (5, .v (.int .i64 0))]) (by kernel_rfl) rfl rfl
    ⟨st_plain rfl (op_assign _ _ _ _ rfl rfl),
    trivial⟩ ?_
   refine pt_then ?_
   refine ht_loopS h (fun (s12 : Int) => [(0, .fl .shr 1 (List.map (Value.int .u8) a)), (1, .fl .shr 1 (List.map (Value.int .u8) b)), (5, .v (.int .i64 s12))]) (fun (() : Unit) => []) ?_ ?_
   ·rintro ⟨⟩ h
    refine pt_then ?_
    refine ht_seq ?_
    refine ht_seqR hn (El := [(4, .v (.bool true))]) (init := []) (fin := [0]) (sps := [⟨[], [], [0], [(.slot 4)]⟩]) (es' := [(4, .v (.bool true))]) (by kernel_rfl) rfl rfl
     ⟨st_plain rfl (op_assign _ _ _ _ rfl rfl),
     trivial⟩ ?_
    refine pt_then ?_
    refine ht_ret ?_
    obtain rfl := Option.some.inj h
    exact pt_ret hio rfl (.tmp _ _ .nil) rfl rfl
   ·rintro u15 hl16 hr17 s12 rr20 h ho18
    refine ht_seq ?_
    refine ht_seq ?_
    refine ht_seqR hn (El := [_, _, _, (11, .v (.int .i64 s12)), (12, .fl .shr 1 (List.map (Value.int .u8) a)), (13, .v (.int .i64 (a.length : Int))), (14, .v (.bool ((decide (s12 < (a.length : Int))))))]) (init := [0, 1, 2]) (fin := [0, 1, 2, 6]) (sps := [⟨[2], [], [3], [(.slot 11)]⟩, ⟨[0], [], [4], [(.slot 12)]⟩, ⟨[4], [], [5], [(.slot 13)]⟩, ⟨[3, 5], [], [6], [(.slot 14)]⟩]) (es' := [(_, _), (_, _), (_, _), (14, .v (.bool ((decide (s12 < (a.length : Int))))))]) (by kernel_rfl) rfl rfl
     ⟨st_plain rfl (op_move _ _ _ _ rfl rfl),
     st_plain rfl (op_move _ _ _ _ rfl rfl),
     st_plain rfl (op_len_fl _ _ _ Try.underlying41 rfl (by decide) (map_len _)),
     st_plain rfl (op_bin _ _ _ _ _ rfl rfl rfl),
     trivial⟩ ?_
    refine pt_then ?_
    refine ht_cond _ rfl (fun hb21 => ?_) (fun hb21 => ?_)
    ·have h := cond_t hb21 h
     refine ht_skip ?_
     refine pt_then ?_
     refine ht_seq ?_
     refine ht_block ?_
     refine ht_seq ?_
     obtain ⟨v3, hv3, h⟩ := bind_some h
     obtain ⟨v4, hv4, h⟩ := bind_some h
     obtain ⟨v5, hv5, h⟩ := bind_some h
     obtain ⟨v6, hv6, h⟩ := bind_some h
     refine ht_anyR (by kernel_rfl) hn (El := [_, _, _, _, (17, .fl .shr 1 (List.map (Value.int .u8) a)), (18, .v (.int .i64 s12)), (19, .eref (.slot 17) (v3 * 1)), (20, .v (.int .u8 v4)), (21, .fl .shr 1 (List.map (Value.int .u8) b)), (22, .v (.int .i64 s12)), (23, .eref (.slot 21) (v5 * 1)), (24, .v (.int .u8 v6)), (25, .v (.bool (v4 != v6)))]) (init := [0, 1, 2, 3]) (fin := [0, 1, 2, 12]) (sps := [⟨[0], [], [4], [(.slot 17)]⟩, ⟨[2], [], [5], [(.slot 18)]⟩, ⟨[4, 5], [], [6], [(.slot 19)]⟩, ⟨[6, 4], [], [7], [(.slot 20)]⟩, ⟨[1], [], [8], [(.slot 21)]⟩, ⟨[2], [], [9], [(.slot 22)]⟩, ⟨[8, 9], [], [10], [(.slot 23)]⟩, ⟨[10, 8], [], [11], [(.slot 24)]⟩, ⟨[7, 11], [], [12], [(.slot 25)]⟩]) (es' := [(_, _), (_, _), (_, _), (25, .v (.bool (v4 != v6)))]) (by kernel_rfl) rfl rfl
      ⟨st_plain rfl (op_move _ _ _ _ rfl rfl),
      st_plain rfl (op_move _ _ _ _ rfl rfl),
      st_plain rfl (op_ix _ _ _ _ _ _ _ _ Try.underlying41 sz5 (by decide) rfl rfl rfl (ix_ok hv3).1 (map_lt (ix_ok hv3).2) rfl),
      st_plain rfl (op_load_e _ _ _ _ _ _ Try.underlying5 rfl rfl rfl (map_get hv4)),
      st_plain rfl (op_move _ _ _ _ rfl rfl),
      st_plain rfl (op_move _ _ _ _ rfl rfl),
      st_plain rfl (op_ix _ _ _ _ _ _ _ _ Try.underlying41 sz5 (by decide) rfl rfl rfl (ix_ok hv5).1 (map_lt (ix_ok hv5).2) rfl),
      st_plain rfl (op_load_e _ _ _ _ _ _ Try.underlying5 rfl rfl rfl (map_get hv6)),
      st_plain rfl (op_bin _ _ _ _ _ rfl rfl rfl),
      trivial⟩ ?_
     refine pt_then ?_
     refine ht_cond _ rfl (fun hb22 => ?_) (fun hb22 => ?_)
     ·have h := cond_t hb22 h
      refine ht_seq ?_
      refine ht_seqR hn (El := [_, _, _, _, (4, .v (.bool false))]) (init := [0, 1, 2, 3]) (fin := [4]) (sps := [⟨[], [], [4], [(.slot 4)]⟩]) (es' := [(4, .v (.bool false))]) (by kernel_rfl) rfl rfl
       ⟨st_plain rfl (op_assign _ _ _ _ rfl rfl),
       trivial⟩ ?_
      refine pt_then ?_
      refine ht_ret ?_
      refine pt_r_in ?_
      refine pt_r_then ?_
      refine pt_r_then ?_
      refine pt_r_in ?_
      refine pt_r_then ?_
      have h := hr17 _ (ho18 _ (Option.some.inj h).symm).symm
      obtain rfl := Option.some.inj h
      exact pt_ret hio rfl (.tmp _ _ .nil) rfl rfl
     ·have h := cond_f hb22 h
      refine ht_skip ?_
      refine pt_inb ?_
      refine pt_then ?_
      obtain ⟨v8, hv8, h⟩ := bind_some h
      refine ht_seqR hn (El := [_, _, _, _, (15, .v (.int .i64 s12)), (16, .v (.int .i64 v8)), (5, .v (.int .i64 v8))]) (init := [0, 1, 2, 3]) (fin := [0, 1, 6]) (sps := [⟨[2], [], [4], [(.slot 15)]⟩, ⟨[4], [], [5], [(.slot 16)]⟩, ⟨[5], [2], [6], [(.slot 5)]⟩]) (es' := [(_, _), (_, _), (5, .v (.int .i64 v8))]) (by kernel_rfl) rfl rfl
       ⟨st_plain rfl (op_move _ _ _ _ rfl rfl),
       st_plain rfl (op_bin _ _ _ _ _ rfl rfl (ibind (f := Value.int .i64) (Option.some.inj hv8))),
       st_plain rfl (LOp.drop [_] (op_assign _ _ _ _ rfl rfl)),
       trivial⟩ ?_
      exact pt_next _ (Option.some.inj h).symm rfl
    ·have h := cond_f hb21 h
     refine ht_exit ?_
     refine pt_x_then ?_
     refine pt_x_then ?_
     refine pt_x_in ?_
     refine pt_pick [] (by kernel_rfl) (es' := []) rfl ?_
     exact hl16 _ (ho18 _ (Option.some.inj h).symm).symm

set_option maxHeartbeats 1000000 in
theorem ok_wherrykeep_Mail (a : T_Mail) (b : T_Mail) (r : Bool) (h : Sh.wherrykeep_Mail a b = some r) : FnOK Try.prog 59 [.agg [.v (.bool a.From.Null), .v (.string a.From.Local), .v (.string a.From.Domain), .fl .shr 3 (List.flatten (List.map T_Path.enc a.To)), .fl .shr 1 (List.map (Value.int .u8) a.Body), .v (.bool a.Quiet), .v (.string a.Helo), .v (.int .i64 a.At)], .agg [.v (.bool b.From.Null), .v (.string b.From.Local), .v (.string b.From.Domain), .fl .shr 3 (List.flatten (List.map T_Path.enc b.To)), .fl .shr 1 (List.map (Value.int .u8) b.Body), .v (.bool b.Quiet), .v (.string b.Helo), .v (.int .i64 b.At)]] (.v (.bool r)) := by
  unfold Sh.wherrykeep_Mail at h
  refine fn_ok Try.func59 rfl (Nat.le_of_ble_eq_true rfl) rfl rfl fun g0 hn hio => ?_
  refine ht_seq ?_
  refine ht_seqR hn (El := [_, _, (2, .box 43 [.v (.bool a.From.Null), .v (.string a.From.Local), .v (.string a.From.Domain), .fl .shr 3 (List.flatten (List.map T_Path.enc a.To)), .fl .shr 1 (List.map (Value.int .u8) a.Body), .v (.bool a.Quiet), .v (.string a.Helo), .v (.int .i64 a.At)]), (3, .box 43 [.v (.bool b.From.Null), .v (.string b.From.Local), .v (.string b.From.Domain), .fl .shr 3 (List.flatten (List.map T_Path.enc b.To)), .fl .shr 1 (List.map (Value.int .u8) b.Body), .v (.bool b.Quiet), .v (.string b.Helo), .v (.int .i64 b.At)]), (4, .v (.bool false))]) (init := [0, 1]) (fin := [2, 3]) (sps := [⟨[0], [], [2], [(.slot 2)]⟩, ⟨[1], [], [3], [(.slot 3)]⟩, ⟨[], [], [4], [(.slot 4)]⟩]) (es' := [(2, .box 43 [.v (.bool a.From.Null), .v (.string a.From.Local), .v (.string a.From.Domain), .fl .shr 3 (List.flatten (List.map T_Path.enc a.To)), .fl .shr 1 (List.map (Value.int .u8) a.Body), .v (.bool a.Quiet), .v (.string a.Helo), .v (.int .i64 a.At)]), (3, .box 43 [.v (.bool b.From.Null), .v (.string b.From.Local), .v (.string b.From.Domain), .fl .shr 3 (List.flatten (List.map T_Path.enc b.To)), .fl .shr 1 (List.map (Value.int .u8) b.Body), .v (.bool b.Quiet), .v (.string b.Helo), .v (.int .i64 b.At)])]) (by kernel_rfl) rfl rfl
   ⟨st_plain rfl (op_box _ _ _ _ rfl rfl rfl),
   st_plain rfl (op_box _ _ _ _ rfl rfl rfl),
   st_plain rfl (op_assign _ _ _ _ rfl rfl),
   trivial⟩ ?_
  refine pt_then ?_
  refine ht_seq ?_
  refine ht_joinS h (fun (s5 : Bool) => [(4, .v (.bool s5))]) ?_ ?_
  ·rintro s5 h
   refine pt_then ?_
   refine ht_ret ?_
   obtain rfl := Option.some.inj h
   exact pt_ret hio rfl (.tmp _ _ .nil) rfl rfl
  ·intro u6 h hl7 hr8
   obtain ⟨v1, hv1, h⟩ := bind_some h
   refine cond_some h (fun hg1_5 h => ?_) (fun hg1_5 h => ?_)
   ·obtain ⟨v2, hv2, h⟩ := bind_some h
    refine cond_some h (fun hg1_12 h => ?_) (fun hg1_12 h => ?_)
    ·obtain ⟨v3, hv3, h⟩ := bind_some h
     refine cond_some h (fun hg1_19 h => ?_) (fun hg1_19 h => ?_)
     ·obtain ⟨v4, hv4, h⟩ := bind_some h
      refine cond_some h (fun hg1_26 h => ?_) (fun hg1_26 h => ?_)
      ·refine cond_some h (fun hg1_33 h => ?_) (fun hg1_33 h => ?_)
       ·refine ht_seqR hn (El := (_ :: _ :: (5, .ptr 2 0) :: (6, .agg [.v (.bool a.From.Null), .v (.string a.From.Local), .v (.string a.From.Domain)]) :: (7, .ptr 3 0) :: (8, .agg [.v (.bool b.From.Null), .v (.string b.From.Local), .v (.string b.From.Domain)]) :: (9, .v (.bool v1)) :: (10, .v (.bool true)) :: (11, .ptr 2 3) :: (12, .fl .shr 3 (List.flatten (List.map T_Path.enc a.To))) :: (13, .ptr 3 3) :: (14, .fl .shr 3 (List.flatten (List.map T_Path.enc b.To))) :: (15, .v (.bool v2)) :: (16, .v (.bool v2)) :: (17, .v (.bool true)) :: (18, .ptr 2 4) :: (19, .fl .shr 1 (List.map (Value.int .u8) a.Body)) :: (20, .ptr 3 4) :: (21, .fl .shr 1 (List.map (Value.int .u8) b.Body)) :: (22, .v (.bool v3)) :: (23, .v (.bool v3)) :: (24, .v (.bool true)) :: (25, .ptr 2 5) :: (26, .v (.bool a.Quiet)) :: (27, .ptr 3 5) :: (28, .v (.bool b.Quiet)) :: (29, .v (.bool (a.Quiet == b.Quiet))) :: (30, .v (.bool (a.Quiet == b.Quiet))) :: (31, .v (.bool true)) :: (32, .ptr 2 6) :: (33, .v (.string a.Helo)) :: (34, .ptr 3 6) :: (35, .v (.string b.Helo)) :: (36, .v (.bool (a.Helo.toList == b.Helo.toList))) :: (37, .v (.bool (a.Helo.toList == b.Helo.toList))) :: (38, .v (.bool true)) :: (39, .ptr 2 7) :: (40, .v (.int .i64 a.At)) :: (41, .ptr 3 7) :: (42, .v (.int .i64 b.At)) :: (43, .v (.bool (a.At == b.At))) :: (44, .v (.bool (a.At == b.At))) :: (4, .v (.bool (a.At == b.At))) :: [])) (init := [0, 1]) (fin := [42]) (sps := (⟨[0], [], [2], [(.slot 5)]⟩ :: ⟨[2, 0], [], [3], [(.slot 6)]⟩ :: ⟨[1], [], [4], [(.slot 7)]⟩ :: ⟨[4, 1], [], [5], [(.slot 8)]⟩ :: ⟨[3, 5], [], [6], [(.slot 9)]⟩ :: ⟨[6], [], [7], [(.slot 10)]⟩ :: ⟨[7, 0], [], [8], [(.slot 11)]⟩ :: ⟨[7, 8, 0], [], [9], [(.slot 12)]⟩ :: ⟨[7, 1], [], [10], [(.slot 13)]⟩ :: ⟨[7, 10, 1], [], [11], [(.slot 14)]⟩ :: ⟨[7, 9, 11], [], [12], [(.slot 15)]⟩ :: ⟨[7, 12], [], [13], [(.slot 16)]⟩ :: ⟨[13], [], [14], [(.slot 17)]⟩ :: ⟨[14, 0], [], [15], [(.slot 18)]⟩ :: ⟨[14, 15, 0], [], [16], [(.slot 19)]⟩ :: ⟨[14, 1], [], [17], [(.slot 20)]⟩ :: ⟨[14, 17, 1], [], [18], [(.slot 21)]⟩ :: ⟨[14, 16, 18], [], [19], [(.slot 22)]⟩ :: ⟨[14, 19], [], [20], [(.slot 23)]⟩ :: ⟨[20], [], [21], [(.slot 24)]⟩ :: ⟨[21, 0], [], [22], [(.slot 25)]⟩ :: ⟨[21, 22, 0], [], [23], [(.slot 26)]⟩ :: ⟨[21, 1], [], [24], [(.slot 27)]⟩ :: ⟨[21, 24, 1], [], [25], [(.slot 28)]⟩ :: ⟨[21, 23, 25], [], [26], [(.slot 29)]⟩ :: ⟨[21, 26], [], [27], [(.slot 30)]⟩ :: ⟨[27], [], [28], [(.slot 31)]⟩ :: ⟨[28, 0], [], [29], [(.slot 32)]⟩ :: ⟨[28, 29, 0], [], [30], [(.slot 33)]⟩ :: ⟨[28, 1], [], [31], [(.slot 34)]⟩ :: ⟨[28, 31, 1], [], [32], [(.slot 35)]⟩ :: ⟨[28, 30, 32], [], [33], [(.slot 36)]⟩ :: ⟨[28, 33], [], [34], [(.slot 37)]⟩ :: ⟨[34], [], [35], [(.slot 38)]⟩ :: ⟨[35, 0], [], [36], [(.slot 39)]⟩ :: ⟨[35, 36, 0], [], [37], [(.slot 40)]⟩ :: ⟨[35, 1], [], [38], [(.slot 41)]⟩ :: ⟨[35, 38, 1], [], [39], [(.slot 42)]⟩ :: ⟨[35, 37, 39], [], [40], [(.slot 43)]⟩ :: ⟨[35, 40], [], [41], [(.slot 44)]⟩ :: ⟨[41], [], [42], [(.slot 4)]⟩ :: [])) (es' := [(4, .v (.bool (a.At == b.At)))]) (by kernel_rfl) rfl rfl
         ⟨st_plain rfl (op_fieldAddr _ _ _ _ 2 0 _ Try.underlying43 rfl sz39 rfl rfl (by decide)),
         st_plain rfl (op_loadA _ _ _ _ _ _ _ Try.underlying39 rfl sz39 rfl rfl (Nat.le_of_ble_eq_true rfl) rfl rfl),
         st_plain rfl (op_fieldAddr _ _ _ _ 3 0 _ Try.underlying43 rfl sz39 rfl rfl (by decide)),
         st_plain rfl (op_loadA _ _ _ _ _ _ _ Try.underlying39 rfl sz39 rfl rfl (Nat.le_of_ble_eq_true rfl) rfl rfl),
         st_plain rfl (op_call _ _ 64 _ _ rfl Try.call64 rfl (ok_wherrykeep_Path (T_Path.mk a.From.Null a.From.Local a.From.Domain) (T_Path.mk b.From.Null b.From.Local b.From.Domain) _ hv1) rfl rfl),
         st_plain rfl (op_move _ _ _ _ (congrArg (fun b => AV.v (Value.bool b)) hg1_5) rfl),
         st_run 5 10 true rfl rfl rfl (List.Mem.head _) (op_fieldAddr _ _ _ _ 2 0 _ Try.underlying43 rfl sz40 rfl rfl (by decide)),
         st_run 5 10 true rfl rfl rfl (List.Mem.head _) (op_load _ _ _ _ _ _ Try.underlying40 rfl rfl rfl (Nat.le_of_ble_eq_true rfl) rfl rfl rfl),
         st_run 5 10 true rfl rfl rfl (List.Mem.head _) (op_fieldAddr _ _ _ _ 3 0 _ Try.underlying43 rfl sz40 rfl rfl (by decide)),
         st_run 5 10 true rfl rfl rfl (List.Mem.head _) (op_load _ _ _ _ _ _ Try.underlying40 rfl rfl rfl (Nat.le_of_ble_eq_true rfl) rfl rfl rfl),
         st_run 5 10 true rfl rfl rfl (List.Mem.head _) (op_call _ _ 65 _ _ rfl Try.call65 rfl (ok_wherrykeep_Paths a.To b.To _ hv2) rfl rfl),
         st_plain rfl (op_pick _ _ true _ rfl rfl),
         st_plain rfl (op_move _ _ _ _ (congrArg (fun b => AV.v (Value.bool b)) hg1_12) rfl),
         st_run 12 17 true rfl rfl rfl (List.Mem.head _) (op_fieldAddr _ _ _ _ 2 0 _ Try.underlying43 rfl sz41 rfl rfl (by decide)),
         st_run 12 17 true rfl rfl rfl (List.Mem.head _) (op_load _ _ _ _ _ _ Try.underlying41 rfl rfl rfl (Nat.le_of_ble_eq_true rfl) rfl rfl rfl),
         st_run 12 17 true rfl rfl rfl (List.Mem.head _) (op_fieldAddr _ _ _ _ 3 0 _ Try.underlying43 rfl sz41 rfl rfl (by decide)),
         st_run 12 17 true rfl rfl rfl (List.Mem.head _) (op_load _ _ _ _ _ _ Try.underlying41 rfl rfl rfl (Nat.le_of_ble_eq_true rfl) rfl rfl rfl),
         st_run 12 17 true rfl rfl rfl (List.Mem.head _) (op_call _ _ 61 _ _ rfl Try.call61 rfl (ok_wherrykeep_Bytes a.Body b.Body _ hv3) rfl rfl),
         st_plain rfl (op_pick _ _ true _ rfl rfl),
         st_plain rfl (op_move _ _ _ _ (congrArg (fun b => AV.v (Value.bool b)) hg1_19) rfl),
         st_run 19 24 true rfl rfl rfl (List.Mem.head _) (op_fieldAddr _ _ _ _ 2 0 _ Try.underlying43 rfl sz4 rfl rfl (by decide)),
         st_run 19 24 true rfl rfl rfl (List.Mem.head _) (op_load _ _ _ _ _ _ Try.underlying4 rfl rfl rfl (Nat.le_of_ble_eq_true rfl) rfl rfl rfl),
         st_run 19 24 true rfl rfl rfl (List.Mem.head _) (op_fieldAddr _ _ _ _ 3 0 _ Try.underlying43 rfl sz4 rfl rfl (by decide)),
         st_run 19 24 true rfl rfl rfl (List.Mem.head _) (op_load _ _ _ _ _ _ Try.underlying4 rfl rfl rfl (Nat.le_of_ble_eq_true rfl) rfl rfl rfl),
         st_run 19 24 true rfl rfl rfl (List.Mem.head _) (op_beq _ _ _ _ Try.underlying4 rfl rfl),
         st_plain rfl (op_pick _ _ true _ rfl rfl),
         st_plain rfl (op_move _ _ _ _ (congrArg (fun b => AV.v (Value.bool b)) hg1_26) rfl),
         st_run 26 31 true rfl rfl rfl (List.Mem.head _) (op_fieldAddr _ _ _ _ 2 0 _ Try.underlying43 rfl sz9 rfl rfl (by decide)),
         st_run 26 31 true rfl rfl rfl (List.Mem.head _) (op_load _ _ _ _ _ _ Try.underlying9 rfl rfl rfl (Nat.le_of_ble_eq_true rfl) rfl rfl rfl),
         st_run 26 31 true rfl rfl rfl (List.Mem.head _) (op_fieldAddr _ _ _ _ 3 0 _ Try.underlying43 rfl sz9 rfl rfl (by decide)),
         st_run 26 31 true rfl rfl rfl (List.Mem.head _) (op_load _ _ _ _ _ _ Try.underlying9 rfl rfl rfl (Nat.le_of_ble_eq_true rfl) rfl rfl rfl),
         st_run 26 31 true rfl rfl rfl (List.Mem.head _) (op_bin _ _ _ _ _ rfl rfl rfl),
         st_plain rfl (op_pick _ _ true _ rfl rfl),
         st_plain rfl (op_move _ _ _ _ (congrArg (fun b => AV.v (Value.bool b)) hg1_33) rfl),
         st_run 33 38 true rfl rfl rfl (List.Mem.head _) (op_fieldAddr _ _ _ _ 2 0 _ Try.underlying43 rfl sz3 rfl rfl (by decide)),
         st_run 33 38 true rfl rfl rfl (List.Mem.head _) (op_load _ _ _ _ _ _ Try.underlying3 rfl rfl rfl (Nat.le_of_ble_eq_true rfl) rfl rfl rfl),
         st_run 33 38 true rfl rfl rfl (List.Mem.head _) (op_fieldAddr _ _ _ _ 3 0 _ Try.underlying43 rfl sz3 rfl rfl (by decide)),
         st_run 33 38 true rfl rfl rfl (List.Mem.head _) (op_load _ _ _ _ _ _ Try.underlying3 rfl rfl rfl (Nat.le_of_ble_eq_true rfl) rfl rfl rfl),
         st_run 33 38 true rfl rfl rfl (List.Mem.head _) (op_bin _ _ _ _ _ rfl rfl rfl),
         st_plain rfl (op_pick _ _ true _ rfl rfl),
         st_plain rfl (op_assign _ _ _ _ rfl rfl),
         trivial⟩ ?_
        exact hl7 _ (Option.some.inj h).symm
       ·refine ht_seqR hn (El := (_ :: _ :: (5, .ptr 2 0) :: (6, .agg [.v (.bool a.From.Null), .v (.string a.From.Local), .v (.string a.From.Domain)]) :: (7, .ptr 3 0) :: (8, .agg [.v (.bool b.From.Null), .v (.string b.From.Local), .v (.string b.From.Domain)]) :: (9, .v (.bool v1)) :: (10, .v (.bool true)) :: (11, .ptr 2 3) :: (12, .fl .shr 3 (List.flatten (List.map T_Path.enc a.To))) :: (13, .ptr 3 3) :: (14, .fl .shr 3 (List.flatten (List.map T_Path.enc b.To))) :: (15, .v (.bool v2)) :: (16, .v (.bool v2)) :: (17, .v (.bool true)) :: (18, .ptr 2 4) :: (19, .fl .shr 1 (List.map (Value.int .u8) a.Body)) :: (20, .ptr 3 4) :: (21, .fl .shr 1 (List.map (Value.int .u8) b.Body)) :: (22, .v (.bool v3)) :: (23, .v (.bool v3)) :: (24, .v (.bool true)) :: (25, .ptr 2 5) :: (26, .v (.bool a.Quiet)) :: (27, .ptr 3 5) :: (28, .v (.bool b.Quiet)) :: (29, .v (.bool (a.Quiet == b.Quiet))) :: (30, .v (.bool (a.Quiet == b.Quiet))) :: (31, .v (.bool true)) :: (32, .ptr 2 6) :: (33, .v (.string a.Helo)) :: (34, .ptr 3 6) :: (35, .v (.string b.Helo)) :: (36, .v (.bool (a.Helo.toList == b.Helo.toList))) :: (37, .v (.bool (a.Helo.toList == b.Helo.toList))) :: (38, .v (.bool false)) :: (39, .v undef) :: (40, .v undef) :: (41, .v undef) :: (42, .v undef) :: (43, .v undef) :: (44, .v (.bool false)) :: (4, .v (.bool false)) :: [])) (init := [0, 1]) (fin := [42]) (sps := (⟨[0], [], [2], [(.slot 5)]⟩ :: ⟨[2, 0], [], [3], [(.slot 6)]⟩ :: ⟨[1], [], [4], [(.slot 7)]⟩ :: ⟨[4, 1], [], [5], [(.slot 8)]⟩ :: ⟨[3, 5], [], [6], [(.slot 9)]⟩ :: ⟨[6], [], [7], [(.slot 10)]⟩ :: ⟨[7, 0], [], [8], [(.slot 11)]⟩ :: ⟨[7, 8, 0], [], [9], [(.slot 12)]⟩ :: ⟨[7, 1], [], [10], [(.slot 13)]⟩ :: ⟨[7, 10, 1], [], [11], [(.slot 14)]⟩ :: ⟨[7, 9, 11], [], [12], [(.slot 15)]⟩ :: ⟨[7, 12], [], [13], [(.slot 16)]⟩ :: ⟨[13], [], [14], [(.slot 17)]⟩ :: ⟨[14, 0], [], [15], [(.slot 18)]⟩ :: ⟨[14, 15, 0], [], [16], [(.slot 19)]⟩ :: ⟨[14, 1], [], [17], [(.slot 20)]⟩ :: ⟨[14, 17, 1], [], [18], [(.slot 21)]⟩ :: ⟨[14, 16, 18], [], [19], [(.slot 22)]⟩ :: ⟨[14, 19], [], [20], [(.slot 23)]⟩ :: ⟨[20], [], [21], [(.slot 24)]⟩ :: ⟨[21, 0], [], [22], [(.slot 25)]⟩ :: ⟨[21, 22, 0], [], [23], [(.slot 26)]⟩ :: ⟨[21, 1], [], [24], [(.slot 27)]⟩ :: ⟨[21, 24, 1], [], [25], [(.slot 28)]⟩ :: ⟨[21, 23, 25], [], [26], [(.slot 29)]⟩ :: ⟨[21, 26], [], [27], [(.slot 30)]⟩ :: ⟨[27], [], [28], [(.slot 31)]⟩ :: ⟨[28, 0], [], [29], [(.slot 32)]⟩ :: ⟨[28, 29, 0], [], [30], [(.slot 33)]⟩ :: ⟨[28, 1], [], [31], [(.slot 34)]⟩ :: ⟨[28, 31, 1], [], [32], [(.slot 35)]⟩ :: ⟨[28, 30, 32], [], [33], [(.slot 36)]⟩ :: ⟨[28, 33], [], [34], [(.slot 37)]⟩ :: ⟨[34], [], [35], [(.slot 38)]⟩ :: ⟨[35], [], [36], [(.slot 39)]⟩ :: ⟨[35], [], [37], [(.slot 40)]⟩ :: ⟨[35], [], [38], [(.slot 41)]⟩ :: ⟨[35], [], [39], [(.slot 42)]⟩ :: ⟨[35], [], [40], [(.slot 43)]⟩ :: ⟨[35], [], [41], [(.slot 44)]⟩ :: ⟨[41], [], [42], [(.slot 4)]⟩ :: [])) (es' := [(4, .v (.bool false))]) (by kernel_rfl) rfl rfl
         ⟨st_plain rfl (op_fieldAddr _ _ _ _ 2 0 _ Try.underlying43 rfl sz39 rfl rfl (by decide)),
         st_plain rfl (op_loadA _ _ _ _ _ _ _ Try.underlying39 rfl sz39 rfl rfl (Nat.le_of_ble_eq_true rfl) rfl rfl),
         st_plain rfl (op_fieldAddr _ _ _ _ 3 0 _ Try.underlying43 rfl sz39 rfl rfl (by decide)),
         st_plain rfl (op_loadA _ _ _ _ _ _ _ Try.underlying39 rfl sz39 rfl rfl (Nat.le_of_ble_eq_true rfl) rfl rfl),
         st_plain rfl (op_call _ _ 64 _ _ rfl Try.call64 rfl (ok_wherrykeep_Path (T_Path.mk a.From.Null a.From.Local a.From.Domain) (T_Path.mk b.From.Null b.From.Local b.From.Domain) _ hv1) rfl rfl),
         st_plain rfl (op_move _ _ _ _ (congrArg (fun b => AV.v (Value.bool b)) hg1_5) rfl),
         st_run 5 10 true rfl rfl rfl (List.Mem.head _) (op_fieldAddr _ _ _ _ 2 0 _ Try.underlying43 rfl sz40 rfl rfl (by decide)),
         st_run 5 10 true rfl rfl rfl (List.Mem.head _) (op_load _ _ _ _ _ _ Try.underlying40 rfl rfl rfl (Nat.le_of_ble_eq_true rfl) rfl rfl rfl),
         st_run 5 10 true rfl rfl rfl (List.Mem.head _) (op_fieldAddr _ _ _ _ 3 0 _ Try.underlying43 rfl sz40 rfl rfl (by decide)),
         st_run 5 10 true rfl rfl rfl (List.Mem.head _) (op_load _ _ _ _ _ _ Try.underlying40 rfl rfl rfl (Nat.le_of_ble_eq_true rfl) rfl rfl rfl),
         st_run 5 10 true rfl rfl rfl (List.Mem.head _) (op_call _ _ 65 _ _ rfl Try.call65 rfl (ok_wherrykeep_Paths a.To b.To _ hv2) rfl rfl),
         st_plain rfl (op_pick _ _ true _ rfl rfl),
         st_plain rfl (op_move _ _ _ _ (congrArg (fun b => AV.v (Value.bool b)) hg1_12) rfl),
         st_run 12 17 true rfl rfl rfl (List.Mem.head _) (op_fieldAddr _ _ _ _ 2 0 _ Try.underlying43 rfl sz41 rfl rfl (by decide)),
         st_run 12 17 true rfl rfl rfl (List.Mem.head _) (op_load _ _ _ _ _ _ Try.underlying41 rfl rfl rfl (Nat.le_of_ble_eq_true rfl) rfl rfl rfl),
         st_run 12 17 true rfl rfl rfl (List.Mem.head _) (op_fieldAddr _ _ _ _ 3 0 _ Try.underlying43 rfl sz41 rfl rfl (by decide)),
         st_run 12 17 true rfl rfl rfl (List.Mem.head _) (op_load _ _ _ _ _ _ Try.underlying41 rfl rfl rfl (Nat.le_of_ble_eq_true rfl) rfl rfl rfl),
         st_run 12 17 true rfl rfl rfl (List.Mem.head _) (op_call _ _ 61 _ _ rfl Try.call61 rfl (ok_wherrykeep_Bytes a.Body b.Body _ hv3) rfl rfl),
         st_plain rfl (op_pick _ _ true _ rfl rfl),
         st_plain rfl (op_move _ _ _ _ (congrArg (fun b => AV.v (Value.bool b)) hg1_19) rfl),
         st_run 19 24 true rfl rfl rfl (List.Mem.head _) (op_fieldAddr _ _ _ _ 2 0 _ Try.underlying43 rfl sz4 rfl rfl (by decide)),
         st_run 19 24 true rfl rfl rfl (List.Mem.head _) (op_load _ _ _ _ _ _ Try.underlying4 rfl rfl rfl (Nat.le_of_ble_eq_true rfl) rfl rfl rfl),
         st_run 19 24 true rfl rfl rfl (List.Mem.head _) (op_fieldAddr _ _ _ _ 3 0 _ Try.underlying43 rfl sz4 rfl rfl (by decide)),
         st_run 19 24 true rfl rfl rfl (List.Mem.head _) (op_load _ _ _ _ _ _ Try.underlying4 rfl rfl rfl (Nat.le_of_ble_eq_true rfl) rfl rfl rfl),
         st_run 19 24 true rfl rfl rfl (List.Mem.head _) (op_beq _ _ _ _ Try.underlying4 rfl rfl),
         st_plain rfl (op_pick _ _ true _ rfl rfl),
         st_plain rfl (op_move _ _ _ _ (congrArg (fun b => AV.v (Value.bool b)) hg1_26) rfl),
         st_run 26 31 true rfl rfl rfl (List.Mem.head _) (op_fieldAddr _ _ _ _ 2 0 _ Try.underlying43 rfl sz9 rfl rfl (by decide)),
         st_run 26 31 true rfl rfl rfl (List.Mem.head _) (op_load _ _ _ _ _ _ Try.underlying9 rfl rfl rfl (Nat.le_of_ble_eq_true rfl) rfl rfl rfl),
         st_run 26 31 true rfl rfl rfl (List.Mem.head _) (op_fieldAddr _ _ _ _ 3 0 _ Try.underlying43 rfl sz9 rfl rfl (by decide)),
         st_run 26 31 true rfl rfl rfl (List.Mem.head _) (op_load _ _ _ _ _ _ Try.underlying9 rfl rfl rfl (Nat.le_of_ble_eq_true rfl) rfl rfl rfl),
         st_run 26 31 true rfl rfl rfl (List.Mem.head _) (op_bin _ _ _ _ _ rfl rfl rfl),
         st_plain rfl (op_pick _ _ true _ rfl rfl),
         st_plain rfl (op_move _ _ _ _ (congrArg (fun b => AV.v (Value.bool b)) hg1_33) rfl),
         st_skip 33 38 _ true rfl rfl rfl rfl (List.Mem.head _),
         st_skip 33 38 _ true rfl rfl rfl rfl (List.Mem.head _),
         st_skip 33 38 _ true rfl rfl rfl rfl (List.Mem.head _),
         st_skip 33 38 _ true rfl rfl rfl rfl (List.Mem.head _),
         st_skip 33 38 _ true rfl rfl rfl rfl (List.Mem.head _),
         st_plain rfl (op_pick _ _ false _ rfl rfl),
         st_plain rfl (op_assign _ _ _ _ rfl rfl),
         trivial⟩ ?_
        exact hl7 _ (Option.some.inj h).symm
      ·refine ht_seqR hn (El := (_ :: _ :: (5, .ptr 2 0) :: (6, .agg [.v (.bool a.From.Null), .v (.string a.From.Local), .v (.string a.From.Domain)]) :: (7, .ptr 3 0) :: (8, .agg [.v (.bool b.From.Null), .v (.string b.From.Local), .v (.string b.From.Domain)]) :: (9, .v (.bool v1)) :: (10, .v (.bool true)) :: (11, .ptr 2 3) :: (12, .fl .shr 3 (List.flatten (List.map T_Path.enc a.To))) :: (13, .ptr 3 3) :: (14, .fl .shr 3 (List.flatten (List.map T_Path.enc b.To))) :: (15, .v (.bool v2)) :: (16, .v (.bool v2)) :: (17, .v (.bool true)) :: (18, .ptr 2 4) :: (19, .fl .shr 1 (List.map (Value.int .u8) a.Body)) :: (20, .ptr 3 4) :: (21, .fl .shr 1 (List.map (Value.int .u8) b.Body)) :: (22, .v (.bool v3)) :: (23, .v (.bool v3)) :: (24, .v (.bool true)) :: (25, .ptr 2 5) :: (26, .v (.bool a.Quiet)) :: (27, .ptr 3 5) :: (28, .v (.bool b.Quiet)) :: (29, .v (.bool (a.Quiet == b.Quiet))) :: (30, .v (.bool (a.Quiet == b.Quiet))) :: (31, .v (.bool false)) :: (32, .v undef) :: (33, .v undef) :: (34, .v undef) :: (35, .v undef) :: (36, .v undef) :: (37, .v (.bool false)) :: (38, .v (.bool false)) :: (39, .v undef) :: (40, .v undef) :: (41, .v undef) :: (42, .v undef) :: (43, .v undef) :: (44, .v (.bool false)) :: (4, .v (.bool false)) :: [])) (init := [0, 1]) (fin := [42]) (sps := (⟨[0], [], [2], [(.slot 5)]⟩ :: ⟨[2, 0], [], [3], [(.slot 6)]⟩ :: ⟨[1], [], [4], [(.slot 7)]⟩ :: ⟨[4, 1], [], [5], [(.slot 8)]⟩ :: ⟨[3, 5], [], [6], [(.slot 9)]⟩ :: ⟨[6], [], [7], [(.slot 10)]⟩ :: ⟨[7, 0], [], [8], [(.slot 11)]⟩ :: ⟨[7, 8, 0], [], [9], [(.slot 12)]⟩ :: ⟨[7, 1], [], [10], [(.slot 13)]⟩ :: ⟨[7, 10, 1], [], [11], [(.slot 14)]⟩ :: ⟨[7, 9, 11], [], [12], [(.slot 15)]⟩ :: ⟨[7, 12], [], [13], [(.slot 16)]⟩ :: ⟨[13], [], [14], [(.slot 17)]⟩ :: ⟨[14, 0], [], [15], [(.slot 18)]⟩ :: ⟨[14, 15, 0], [], [16], [(.slot 19)]⟩ :: ⟨[14, 1], [], [17], [(.slot 20)]⟩ :: ⟨[14, 17, 1], [], [18], [(.slot 21)]⟩ :: ⟨[14, 16, 18], [], [19], [(.slot 22)]⟩ :: ⟨[14, 19], [], [20], [(.slot 23)]⟩ :: ⟨[20], [], [21], [(.slot 24)]⟩ :: ⟨[21, 0], [], [22], [(.slot 25)]⟩ :: ⟨[21, 22, 0], [], [23], [(.slot 26)]⟩ :: ⟨[21, 1], [], [24], [(.slot 27)]⟩ :: ⟨[21, 24, 1], [], [25], [(.slot 28)]⟩ :: ⟨[21, 23, 25], [], [26], [(.slot 29)]⟩ :: ⟨[21, 26], [], [27], [(.slot 30)]⟩ :: ⟨[27], [], [28], [(.slot 31)]⟩ :: ⟨[28], [], [29], [(.slot 32)]⟩ :: ⟨[28], [], [30], [(.slot 33)]⟩ :: ⟨[28], [], [31], [(.slot 34)]⟩ :: ⟨[28], [], [32], [(.slot 35)]⟩ :: ⟨[28], [], [33], [(.slot 36)]⟩ :: ⟨[28], [], [34], [(.slot 37)]⟩ :: ⟨[34], [], [35], [(.slot 38)]⟩ :: ⟨[35], [], [36], [(.slot 39)]⟩ :: ⟨[35], [], [37], [(.slot 40)]⟩ :: ⟨[35], [], [38], [(.slot 41)]⟩ :: ⟨[35], [], [39], [(.slot 42)]⟩ :: ⟨[35], [], [40], [(.slot 43)]⟩ :: ⟨[35], [], [41], [(.slot 44)]⟩ :: ⟨[41], [], [42], [(.slot 4)]⟩ :: [])) (es' := [(4, .v (.bool false))]) (by kernel_rfl) rfl rfl
        ⟨st_plain rfl (op_fieldAddr _ _ _ _ 2 0 _ Try.underlying43 rfl sz39 rfl rfl (by decide)),
        st_plain rfl (op_loadA _ _ _ _ _ _ _ Try.underlying39 rfl sz39 rfl rfl (Nat.le_of_ble_eq_true rfl) rfl rfl),
        st_plain rfl (op_fieldAddr _ _ _ _ 3 0 _ Try.underlying43 rfl sz39 rfl rfl (by decide)),
        st_plain rfl (op_loadA _ _ _ _ _ _ _ Try.underlying39 rfl sz39 rfl rfl (Nat.le_of_ble_eq_true rfl) rfl rfl),
        st_plain rfl (op_call _ _ 64 _ _ rfl Try.call64 rfl (ok_wherrykeep_Path (T_Path.mk a.From.Null a.From.Local a.From.Domain) (T_Path.mk b.From.Null b.From.Local b.From.Domain) _ hv1) rfl rfl),
        st_plain rfl (op_move _ _ _ _ (congrArg (fun b => AV.v (Value.bool b)) hg1_5) rfl),
        st_run 5 10 true rfl rfl rfl (List.Mem.head _) (op_fieldAddr _ _ _ _ 2 0 _ Try.underlying43 rfl sz40 rfl rfl (by decide)),
        st_run 5 10 true rfl rfl rfl (List.Mem.head _) (op_load _ _ _ _ _ _ Try.underlying40 rfl rfl rfl (Nat.le_of_ble_eq_true rfl) rfl rfl rfl),
        st_run 5 10 true rfl rfl rfl (List.Mem.head _) (op_fieldAddr _ _ _ _ 3 0 _ Try.underlying43 rfl sz40 rfl rfl (by decide)),
        st_run 5 10 true rfl rfl rfl (List.Mem.head _) (op_load _ _ _ _ _ _ Try.underlying40 rfl rfl rfl (Nat.le_of_ble_eq_true rfl) rfl rfl rfl),
        st_run 5 10 true rfl rfl rfl (List.Mem.head _) (op_call _ _ 65 _ _ rfl Try.call65 rfl (ok_wherrykeep_Paths a.To b.To _ hv2) rfl rfl),
        st_plain rfl (op_pick _ _ true _ rfl rfl),
        st_plain rfl (op_move _ _ _ _ (congrArg (fun b => AV.v (Value.bool b)) hg1_12) rfl),
        st_run 12 17 true rfl rfl rfl (List.Mem.head _) (op_fieldAddr _ _ _ _ 2 0 _ Try.underlying43 rfl sz41 rfl rfl (by decide)),
        st_run 12 17 true rfl rfl rfl (List.Mem.head _) (op_load _ _ _ _ _ _ Try.underlying41 rfl rfl rfl (Nat.le_of_ble_eq_true rfl) rfl rfl rfl),
        st_run 12 17 true rfl rfl rfl (List.Mem.head _) (op_fieldAddr _ _ _ _ 3 0 _ Try.underlying43 rfl sz41 rfl rfl (by decide)),
        st_run 12 17 true rfl rfl rfl (List.Mem.head _) (op_load _ _ _ _ _ _ Try.underlying41 rfl rfl rfl (Nat.le_of_ble_eq_true rfl) rfl rfl rfl),
        st_run 12 17 true rfl rfl rfl (List.Mem.head _) (op_call _ _ 61 _ _ rfl Try.call61 rfl (ok_wherrykeep_Bytes a.Body b.Body _ hv3) rfl rfl),
        st_plain rfl (op_pick _ _ true _ rfl rfl),
        st_plain rfl (op_move _ _ _ _ (congrArg (fun b => AV.v (Value.bool b)) hg1_19) rfl),
        st_run 19 24 true rfl rfl rfl (List.Mem.head _) (op_fieldAddr _ _ _ _ 2 0 _ Try.underlying43 rfl sz4 rfl rfl (by decide)),
        st_run 19 24 true rfl rfl rfl (List.Mem.head _) (op_load _ _ _ _ _ _ Try.underlying4 rfl rfl rfl (Nat.le_of_ble_eq_true rfl) rfl rfl rfl),
        st_run 19 24 true rfl rfl rfl (List.Mem.head _) (op_fieldAddr _ _ _ _ 3 0 _ Try.underlying43 rfl sz4 rfl rfl (by decide)),
        st_run 19 24 true rfl rfl rfl (List.Mem.head _) (op_load _ _ _ _ _ _ Try.underlying4 rfl rfl rfl (Nat.le_of_ble_eq_true rfl) rfl rfl rfl),
        st_run 19 24 true rfl rfl rfl (List.Mem.head _) (op_beq _ _ _ _ Try.underlying4 rfl rfl),
        st_plain rfl (op_pick _ _ true _ rfl rfl),
        st_plain rfl (op_move _ _ _ _ (congrArg (fun b => AV.v (Value.bool b)) hg1_26) rfl),
        st_skip 26 31 _ true rfl rfl rfl rfl (List.Mem.head _),
        st_skip 26 31 _ true rfl rfl rfl rfl (List.Mem.head _),
        st_skip 26 31 _ true rfl rfl rfl rfl (List.Mem.head _),
        st_skip 26 31 _ true rfl rfl rfl rfl (List.Mem.head _),
        st_skip 26 31 _ true rfl rfl rfl rfl (List.Mem.head _),
        st_plain rfl (op_pick _ _ false _ rfl rfl),
        st_plain rfl (op_move _ _ _ _ rfl rfl),
        st_skip 33 38 _ true rfl rfl rfl rfl (List.Mem.head _),
        st_skip 33 38 _ true rfl rfl rfl rfl (List.Mem.head _),
        st_skip 33 38 _ true rfl rfl rfl rfl (List.Mem.head _),
        st_skip 33 38 _ true rfl rfl rfl rfl (List.Mem.head _),
        st_skip 33 38 _ true rfl rfl rfl rfl (List.Mem.head _),
        st_plain rfl (op_pick _ _ false _ rfl rfl),
        st_plain rfl (op_assign _ _ _ _ rfl rfl),
        trivial⟩ ?_
       exact hl7 _ (Option.some.inj h).symm
     ·refine ht_seqR hn (El := (_ :: _ :: (5, .ptr 2 0) :: (6, .agg [.v (.bool a.From.Null), .v (.string a.From.Local), .v (.string a.From.Domain)]) :: (7, .ptr 3 0) :: (8, .agg [.v (.bool b.From.Null), .v (.string b.From.Local), .v (.string b.From.Domain)]) :: (9, .v (.bool v1)) :: (10, .v (.bool true)) :: (11, .ptr 2 3) :: (12, .fl .shr 3 (List.flatten (List.map T_Path.enc a.To))) :: (13, .ptr 3 3) :: (14, .fl .shr 3 (List.flatten (List.map T_Path.enc b.To))) :: (15, .v (.bool v2)) :: (16, .v (.bool v2)) :: (17, .v (.bool true)) :: (18, .ptr 2 4) :: (19, .fl .shr 1 (List.map (Value.int .u8) a.Body)) :: (20, .ptr 3 4) :: (21, .fl .shr 1 (List.map (Value.int .u8) b.Body)) :: (22, .v (.bool v3)) :: (23, .v (.bool v3)) :: (24, .v (.bool false)) :: (25, .v undef) :: (26, .v undef) :: (27, .v undef) :: (28, .v undef) :: (29, .v undef) :: (30, .v (.bool false)) :: (31, .v (.bool false)) :: (32, .v undef) :: (33, .v undef) :: (34, .v undef) :: (35, .v undef) :: (36, .v undef) :: (37, .v (.bool false)) :: (38, .v (.bool false)) :: (39, .v undef) :: (40, .v undef) :: (41, .v undef) :: (42, .v undef) :: (43, .v undef) :: (44, .v (.bool false)) :: (4, .v (.bool false)) :: [])) (init := [0, 1]) (fin := [42]) (sps := (⟨[0], [], [2], [(.slot 5)]⟩ :: ⟨[2, 0], [], [3], [(.slot 6)]⟩ :: ⟨[1], [], [4], [(.slot 7)]⟩ :: ⟨[4, 1], [], [5], [(.slot 8)]⟩ :: ⟨[3, 5], [], [6], [(.slot 9)]⟩ :: ⟨[6], [], [7], [(.slot 10)]⟩ :: ⟨[7, 0], [], [8], [(.slot 11)]⟩ :: ⟨[7, 8, 0], [], [9], [(.slot 12)]⟩ :: ⟨[7, 1], [], [10], [(.slot 13)]⟩ :: ⟨[7, 10, 1], [], [11], [(.slot 14)]⟩ :: ⟨[7, 9, 11], [], [12], [(.slot 15)]⟩ :: ⟨[7, 12], [], [13], [(.slot 16)]⟩ :: ⟨[13], [], [14], [(.slot 17)]⟩ :: ⟨[14, 0], [], [15], [(.slot 18)]⟩ :: ⟨[14, 15, 0], [], [16], [(.slot 19)]⟩ :: ⟨[14, 1], [], [17], [(.slot 20)]⟩ :: ⟨[14, 17, 1], [], [18], [(.slot 21)]⟩ :: ⟨[14, 16, 18], [], [19], [(.slot 22)]⟩ :: ⟨[14, 19], [], [20], [(.slot 23)]⟩ :: ⟨[20], [], [21], [(.slot 24)]⟩ :: ⟨[21], [], [22], [(.slot 25)]⟩ :: ⟨[21], [], [23], [(.slot 26)]⟩ :: ⟨[21], [], [24], [(.slot 27)]⟩ :: ⟨[21], [], [25], [(.slot 28)]⟩ :: ⟨[21], [], [26], [(.slot 29)]⟩ :: ⟨[21], [], [27], [(.slot 30)]⟩ :: ⟨[27], [], [28], [(.slot 31)]⟩ :: ⟨[28], [], [29], [(.slot 32)]⟩ :: ⟨[28], [], [30], [(.slot 33)]⟩ :: ⟨[28], [], [31], [(.slot 34)]⟩ :: ⟨[28], [], [32], [(.slot 35)]⟩ :: ⟨[28], [], [33], [(.slot 36)]⟩ :: ⟨[28], [], [34], [(.slot 37)]⟩ :: ⟨[34], [], [35], [(.slot 38)]⟩ :: ⟨[35], [], [36], [(.slot 39)]⟩ :: ⟨[35], [], [37], [(.slot 40)]⟩ :: ⟨[35], [], [38], [(.slot 41)]⟩ :: ⟨[35], [], [39], [(.slot 42)]⟩ :: ⟨[35], [], [40], [(.slot 43)]⟩ :: ⟨[35], [], [41], [(.slot 44)]⟩ :: ⟨[41], [], [42], [(.slot 4)]⟩ :: [])) (es' := [(4, .v (.bool false))]) (by kernel_rfl) rfl rfl
       ⟨st_plain rfl (op_fieldAddr _ _ _ _ 2 0 _ Try.underlying43 rfl sz39 rfl rfl (by decide)),
       st_plain rfl (op_loadA _ _ _ _ _ _ _ Try.underlying39 rfl sz39 rfl rfl (Nat.le_of_ble_eq_true rfl) rfl rfl),
       st_plain rfl (op_fieldAddr _ _ _ _ 3 0 _ Try.underlying43 rfl sz39 rfl rfl (by decide)),
       st_plain rfl (op_loadA _ _ _ _ _ _ _ Try.underlying39 rfl sz39 rfl rfl (Nat.le_of_ble_eq_true rfl) rfl rfl),
       st_plain rfl (op_call _ _ 64 _ _ rfl Try.call64 rfl (ok_wherrykeep_Path (T_Path.mk a.From.Null a.From.Local a.From.Domain) (T_Path.mk b.From.Null b.From.Local b.From.Domain) _ hv1) rfl rfl),
       st_plain rfl (op_move _ _ _ _ (congrArg (fun b => AV.v (Value.bool b)) hg1_5) rfl),
       st_run 5 10 true rfl rfl rfl (List.Mem.head _) (op_fieldAddr _ _ _ _ 2 0 _ Try.underlying43 rfl sz40 rfl rfl (by decide)),
       st_run 5 10 true rfl rfl rfl (List.Mem.head _) (op_load _ _ _ _ _ _ Try.underlying40 rfl rfl rfl (Nat.le_of_ble_eq_true rfl) rfl rfl rfl),
       st_run 5 10 true rfl rfl rfl (List.Mem.head _) (op_fieldAddr _ _ _ _ 3 0 _ Try.underlying43 rfl sz40 rfl rfl (by decide)),
       st_run 5 10 true rfl rfl rfl (List.Mem.head _) (op_load _ _ _ _ _ _ Try.underlying40 rfl rfl rfl (Nat.le_of_ble_eq_true rfl) rfl rfl rfl),
       st_run 5 10 true rfl rfl rfl (List.Mem.head _) (op_call _ _ 65 _ _ rfl Try.call65 rfl (ok_wherrykeep_Paths a.To b.To _ hv2) rfl rfl),
       st_plain rfl (op_pick _ _ true _ rfl rfl),
       st_plain rfl (op_move _ _ _ _ (congrArg (fun b => AV.v (Value.bool b)) hg1_12) rfl),
       st_run 12 17 true rfl rfl rfl (List.Mem.head _) (op_fieldAddr _ _ _ _ 2 0 _ Try.underlying43 rfl sz41 rfl rfl (by decide)),
       st_run 12 17 true rfl rfl rfl (List.Mem.head _) (op_load _ _ _ _ _ _ Try.underlying41 rfl rfl rfl (Nat.le_of_ble_eq_true rfl) rfl rfl rfl),
       st_run 12 17 true rfl rfl rfl (List.Mem.head _) (op_fieldAddr _ _ _ _ 3 0 _ Try.underlying43 rfl sz41 rfl rfl (by decide)),
       st_run 12 17 true rfl rfl rfl (List.Mem.head _) (op_load _ _ _ _ _ _ Try.underlying41 rfl rfl rfl (Nat.le_of_ble_eq_true rfl) rfl rfl rfl),
       st_run 12 17 true rfl rfl rfl (List.Mem.head _) (op_call _ _ 61 _ _ rfl Try.call61 rfl (ok_wherrykeep_Bytes a.Body b.Body _ hv3) rfl rfl),
       st_plain rfl (op_pick _ _ true _ rfl rfl),
       st_plain rfl (op_move _ _ _ _ (congrArg (fun b => AV.v (Value.bool b)) hg1_19) rfl),
       st_skip 19 24 _ true rfl rfl rfl rfl (List.Mem.head _),
       st_skip 19 24 _ true rfl rfl rfl rfl (List.Mem.head _),
       st_skip 19 24 _ true rfl rfl rfl rfl (List.Mem.head _),
       st_skip 19 24 _ true rfl rfl rfl rfl (List.Mem.head _),
       st_skip 19 24 _ true rfl rfl rfl rfl (List.Mem.head _),
       st_plain rfl (op_pick _ _ false _ rfl rfl),
       st_plain rfl (op_move _ _ _ _ rfl rfl),
       st_skip 26 31 _ true rfl rfl rfl rfl (List.Mem.head _),
       st_skip 26 31 _ true rfl rfl rfl rfl (List.Mem.head _),
       st_skip 26 31 _ true rfl rfl rfl rfl (List.Mem.head _),
       st_skip 26 31 _ true rfl rfl rfl rfl (List.Mem.head _),
       st_skip 26 31 _ true rfl rfl rfl rfl (List.Mem.head _),
       st_plain rfl (op_pick _ _ false _ rfl rfl),
       st_plain rfl (op_move _ _ _ _ rfl rfl),
       st_skip 33 38 _ true rfl rfl rfl rfl (List.Mem.head _),
       st_skip 33 38 _ true rfl rfl rfl rfl (List.Mem.head _),
       st_skip 33 38 _ true rfl rfl rfl rfl (List.Mem.head _),
       st_skip 33 38 _ true rfl rfl rfl rfl (List.Mem.head _),
       st_skip 33 38 _ true rfl rfl rfl rfl (List.Mem.head _),
       st_plain rfl (op_pick _ _ false _ rfl rfl),
       st_plain rfl (op_assign _ _ _ _ rfl rfl),
       trivial⟩ ?_
      exact hl7 _ (Option.some.inj h).symm
    ·refine ht_seqR hn (El := (_ :: _ :: (5, .ptr 2 0) :: (6, .agg [.v (.bool a.From.Null), .v (.string a.From.Local), .v (.string a.From.Domain)]) :: (7, .ptr 3 0) :: (8, .agg [.v (.bool b.From.Null), .v (.string b.From.Local), .v (.string b.From.Domain)]) :: (9, .v (.bool v1)) :: (10, .v (.bool true)) :: (11, .ptr 2 3) :: (12, .fl .shr 3 (List.flatten (List.map T_Path.enc a.To))) :: (13, .ptr 3 3) :: (14, .fl .shr 3 (List.flatten (List.map T_Path.enc b.To))) :: (15, .v (.bool v2)) :: (16, .v (.bool v2)) :: (17, .v (.bool false)) :: (18, .v undef) :: (19, .v undef) :: (20, .v undef) :: (21, .v undef) :: (22, .v undef) :: (23, .v (.bool false)) :: (24, .v (.bool false)) :: (25, .v undef) :: (26, .v undef) :: (27, .v undef) :: (28, .v undef) :: (29, .v undef) :: (30, .v (.bool false)) :: (31, .v (.bool false)) :: (32, .v undef) :: (33, .v undef) :: (34, .v undef) :: (35, .v undef) :: (36, .v undef) :: (37, .v (.bool false)) :: (38, .v (.bool false)) :: (39, .v undef) :: (40, .v undef) :: (41, .v undef) :: (42, .v undef) :: (43, .v undef) :: (44, .v (.bool false)) :: (4, .v (.bool false)) :: [])) (init := [0, 1]) (fin := [42]) (sps := (⟨[0], [], [2], [(.slot 5)]⟩ :: ⟨[2, 0], [], [3], [(.slot 6)]⟩ :: ⟨[1], [], [4], [(.slot 7)]⟩ :: ⟨[4, 1], [], [5], [(.slot 8)]⟩ :: ⟨[3, 5], [], [6], [(.slot 9)]⟩ :: ⟨[6], [], [7], [(.slot 10)]⟩ :: ⟨[7, 0], [], [8], [(.slot 11)]⟩ :: ⟨[7, 8, 0], [], [9], [(.slot 12)]⟩ :: ⟨[7, 1], [], [10], [(.slot 13)]⟩ :: ⟨[7, 10, 1], [], [11], [(.slot 14)]⟩ :: ⟨[7, 9, 11], [], [12], [(.slot 15)]⟩ :: ⟨[7, 12], [], [13], [(.slot 16)]⟩ :: ⟨[13], [], [14], [(.slot 17)]⟩ :: ⟨[14], [], [15], [(.slot 18)]⟩ :: ⟨[14], [], [16], [(.slot 19)]⟩ :: ⟨[14], [], [17], [(.slot 20)]⟩ :: ⟨[14], [], [18], [(.slot 21)]⟩ :: ⟨[14], [], [19], [(.slot 22)]⟩ :: ⟨[14], [], [20], [(.slot 23)]⟩ :: ⟨[20], [], [21], [(.slot 24)]⟩ :: ⟨[21], [], [22], [(.slot 25)]⟩ :: ⟨[21], [], [23], [(.slot 26)]⟩ :: ⟨[21], [], [24], [(.slot 27)]⟩ :: ⟨[21], [], [25], [(.slot 28)]⟩ :: ⟨[21], [], [26], [(.slot 29)]⟩ :: ⟨[21], [], [27], [(.slot 30)]⟩ :: ⟨[27], [], [28], [(.slot 31)]⟩ :: ⟨[28], [], [29], [(.slot 32)]⟩ :: ⟨[28], [], [30], [(.slot 33)]⟩ :: ⟨[28], [], [31], [(.slot 34)]⟩ :: ⟨[28], [], [32], [(.slot 35)]⟩ :: ⟨[28], [], [33], [(.slot 36)]⟩ :: ⟨[28], [], [34], [(.slot 37)]⟩ :: ⟨[34], [], [35], [(.slot 38)]⟩ :: ⟨[35], [], [36], [(.slot 39)]⟩ :: ⟨[35], [], [37], [(.slot 40)]⟩ :: ⟨[35], [], [38], [(.slot 41)]⟩ :: ⟨[35], [], [39], [(.slot 42)]⟩ :: ⟨[35], [], [40], [(.slot 43)]⟩ :: ⟨[35], [], [41], [(.slot 44)]⟩ :: ⟨[41], [], [42], [(.slot 4)]⟩ :: [])) (es' := [(4, .v (.bool false))]) (by kernel_rfl) rfl rfl
      ⟨st_plain rfl (op_fieldAddr _ _ _ _ 2 0 _ Try.underlying43 rfl sz39 rfl rfl (by decide)),
      st_plain rfl (op_loadA _ _ _ _ _ _ _ Try.underlying39 rfl sz39 rfl rfl (Nat.le_of_ble_eq_true rfl) rfl rfl),
      st_plain rfl (op_fieldAddr _ _ _ _ 3 0 _ Try.underlying43 rfl sz39 rfl rfl (by decide)),
      st_plain rfl (op_loadA _ _ _ _ _ _ _ Try.underlying39 rfl sz39 rfl rfl (Nat.le_of_ble_eq_true rfl) rfl rfl),
      st_plain rfl (op_call _ _ 64 _ _ rfl Try.call64 rfl (ok_wherrykeep_Path (T_Path.mk a.From.Null a.From.Local a.From.Domain) (T_Path.mk b.From.Null b.From.Local b.From.Domain) _ hv1) rfl rfl),
      st_plain rfl (op_move _ _ _ _ (congrArg (fun b => AV.v (Value.bool b)) hg1_5) rfl),
      st_run 5 10 true rfl rfl rfl (List.Mem.head _) (op_fieldAddr _ _ _ _ 2 0 _ Try.underlying43 rfl sz40 rfl rfl (by decide)),
      st_run 5 10 true rfl rfl rfl (List.Mem.head _) (op_load _ _ _ _ _ _ Try.underlying40 rfl rfl rfl (Nat.le_of_ble_eq_true rfl) rfl rfl rfl),
      st_run 5 10 true rfl rfl rfl (List.Mem.head _) (op_fieldAddr _ _ _ _ 3 0 _ Try.underlying43 rfl sz40 rfl rfl (by decide)),
      st_run 5 10 true rfl rfl rfl (List.Mem.head _) (op_load _ _ _ _ _ _ Try.underlying40 rfl rfl rfl (Nat.le_of_ble_eq_true rfl) rfl rfl rfl),
      st_run 5 10 true rfl rfl rfl (List.Mem.head _) (op_call _ _ 65 _ _ rfl Try.call65 rfl (ok_wherrykeep_Paths a.To b.To _ hv2) rfl rfl),
      st_plain rfl (op_pick _ _ true _ rfl rfl),
      st_plain rfl (op_move _ _ _ _ (congrArg (fun b => AV.v (Value.bool b)) hg1_12) rfl),
      st_skip 12 17 _ true rfl rfl rfl rfl (List.Mem.head _),
      st_skip 12 17 _ true rfl rfl rfl rfl (List.Mem.head _),
      st_skip 12 17 _ true rfl rfl rfl rfl (List.Mem.head _),
      st_skip 12 17 _ true rfl rfl rfl rfl (List.Mem.head _),
      st_skip 12 17 _ true rfl rfl rfl rfl (List.Mem.head _),
      st_plain rfl (op_pick _ _ false _ rfl rfl),
      st_plain rfl (op_move _ _ _ _ rfl rfl),
      st_skip 19 24 _ true rfl rfl rfl rfl (List.Mem.head _),
      st_skip 19 24 _ true rfl rfl rfl rfl (List.Mem.head _),
      st_skip 19 24 _ true rfl rfl rfl rfl (List.Mem.head _),
      st_skip 19 24 _ true rfl rfl rfl rfl (List.Mem.head _),
      st_skip 19 24 _ true rfl rfl rfl rfl (List.Mem.head _),
      st_plain rfl (op_pick _ _ false _ rfl rfl),
      st_plain rfl (op_move _ _ _ _ rfl rfl),
      st_skip 26 31 _ true rfl rfl rfl rfl (List.Mem.head _),
      st_skip 26 31 _ true rfl rfl rfl rfl (List.Mem.head _),
      st_skip 26 31 _ true rfl rfl rfl rfl (List.Mem.head _),
      st_skip 26 31 _ true rfl rfl rfl rfl (List.Mem.head _),
      st_skip 26 31 _ true rfl rfl rfl rfl (List.Mem.head _),
      st_plain rfl (op_pick _ _ false _ rfl rfl),
      st_plain rfl (op_move _ _ _ _ rfl rfl),
      st_skip 33 38 _ true rfl rfl rfl rfl (List.Mem.head _),
      st_skip 33 38 _ true rfl rfl rfl rfl (List.Mem.head _),
      st_skip 33 38 _ true rfl rfl rfl rfl (List.Mem.head _),
      st_skip 33 38 _ true rfl rfl rfl rfl (List.Mem.head _),
      st_skip 33 38 _ true rfl rfl rfl rfl (List.Mem.head _),
      st_plain rfl (op_pick _ _ false _ rfl rfl),
      st_plain rfl (op_assign _ _ _ _ rfl rfl),
      trivial⟩ ?_
     exact hl7 _ (Option.some.inj h).symm
   ·refine ht_seqR hn (El := (_ :: _ :: (5, .ptr 2 0) :: (6, .agg [.v (.bool a.From.Null), .v (.string a.From.Local), .v (.string a.From.Domain)]) :: (7, .ptr 3 0) :: (8, .agg [.v (.bool b.From.Null), .v (.string b.From.Local), .v (.string b.From.Domain)]) :: (9, .v (.bool v1)) :: (10, .v (.bool false)) :: (11, .v undef) :: (12, .v undef) :: (13, .v undef) :: (14, .v undef) :: (15, .v undef) :: (16, .v (.bool false)) :: (17, .v (.bool false)) :: (18, .v undef) :: (19, .v undef) :: (20, .v undef) :: (21, .v undef) :: (22, .v undef) :: (23, .v (.bool false)) :: (24, .v (.bool false)) :: (25, .v undef) :: (26, .v undef) :: (27, .v undef) :: (28, .v undef) :: (29, .v undef) :: (30, .v (.bool false)) :: (31, .v (.bool false)) :: (32, .v undef) :: (33, .v undef) :: (34, .v undef) :: (35, .v undef) :: (36, .v undef) :: (37, .v (.bool false)) :: (38, .v (.bool false)) :: (39, .v undef) :: (40, .v undef) :: (41, .v undef) :: (42, .v undef) :: (43, .v undef) :: (44, .v (.bool false)) :: (4, .v (.bool false)) :: [])) (init := [0, 1]) (fin := [42]) (sps := (⟨[0], [], [2], [(.slot 5)]⟩ :: ⟨[2, 0], [], [3], [(.slot 6)]⟩ :: ⟨[1], [], [4], [(.slot 7)]⟩ :: ⟨[4, 1], [], [5], [(.slot 8)]⟩ :: ⟨[3, 5], [], [6], [(.slot 9)]⟩ :: ⟨[6], [], [7], [(.slot 10)]⟩ :: ⟨[7], [], [8], [(.slot 11)]⟩ :: ⟨[7], [], [9], [(.slot 12)]⟩ :: ⟨[7], [], [10], [(.slot 13)]⟩ :: ⟨[7], [], [11], [(.slot 14)]⟩ :: ⟨[7], [], [12], [(.slot 15)]⟩ :: ⟨[7], [], [13], [(.slot 16)]⟩ :: ⟨[13], [], [14], [(.slot 17)]⟩ :: ⟨[14], [], [15], [(.slot 18)]⟩ :: ⟨[14], [], [16], [(.slot 19)]⟩ :: ⟨[14], [], [17], [(.slot 20)]⟩ :: ⟨[14], [], [18], [(.slot 21)]⟩ :: ⟨[14], [], [19], [(.slot 22)]⟩ :: ⟨[14], [], [20], [(.slot 23)]⟩ :: ⟨[20], [], [21], [(.slot 24)]⟩ :: ⟨[21], [], [22], [(.slot 25)]⟩ :: ⟨[21], [], [23], [(.slot 26)]⟩ :: ⟨[21], [], [24], [(.slot 27)]⟩ :: ⟨[21], [], [25], [(.slot 28)]⟩ :: ⟨[21], [], [26], [(.slot 29)]⟩ :: ⟨[21], [], [27], [(.slot 30)]⟩ :: ⟨[27], [], [28], [(.slot 31)]⟩ :: ⟨[28], [], [29], [(.slot 32)]⟩ :: ⟨[28], [], [30], [(.slot 33)]⟩ :: ⟨[28], [], [31], [(.slot 34)]⟩ :: ⟨[28], [], [32], [(.slot 35)]⟩ :: ⟨[28], [], [33], [(.slot 36)]⟩ :: ⟨[28], [], [34], [(.slot 37)]⟩ :: ⟨[34], [], [35], [(.slot 38)]⟩ :: ⟨[35], [], [36], [(.slot 39)]⟩ :: ⟨[35], [], [37], [(.slot 40)]⟩ :: ⟨[35], [], [38], [(.slot 41)]⟩ :: ⟨[35], [], [39], [(.slot 42)]⟩ :: ⟨[35], [], [40], [(.slot 43)]⟩ :: ⟨[35], [], [41], [(.slot 44)]⟩ :: ⟨[41], [], [42], [(.slot 4)]⟩ :: [])) (es' := [(4, .v (.bool false))]) (by kernel_rfl) rfl rfl
     ⟨st_plain rfl (op_fieldAddr _ _ _ _ 2 0 _ Try.underlying43 rfl sz39 rfl rfl (by decide)),
     st_plain rfl (op_loadA _ _ _ _ _ _ _ Try.underlying39 rfl sz39 rfl rfl (Nat.le_of_ble_eq_true rfl) rfl rfl),
     st_plain rfl (op_fieldAddr _ _ _ _ 3 0 _ Try.underlying43 rfl sz39 rfl rfl (by decide)),
     st_plain rfl (op_loadA _ _ _ _ _ _ _ Try.underlying39 rfl sz39 rfl rfl (Nat.le_of_ble_eq_true rfl) rfl rfl),
     st_plain rfl (op_call _ _ 64 _ _ rfl Try.call64 rfl (ok_wherrykeep_Path (T_Path.mk a.From.Null a.From.Local a.From.Domain) (T_Path.mk b.From.Null b.From.Local b.From.Domain) _ hv1) rfl rfl),
     st_plain rfl (op_move _ _ _ _ (congrArg (fun b => AV.v (Value.bool b)) hg1_5) rfl),
     st_skip 5 10 _ true rfl rfl rfl rfl (List.Mem.head _),
     st_skip 5 10 _ true rfl rfl rfl rfl (List.Mem.head _),
     st_skip 5 10 _ true rfl rfl rfl rfl (List.Mem.head _),
     st_skip 5 10 _ true rfl rfl rfl rfl (List.Mem.head _),
     st_skip 5 10 _ true rfl rfl rfl rfl (List.Mem.head _),
     st_plain rfl (op_pick _ _ false _ rfl rfl),
     st_plain rfl (op_move _ _ _ _ rfl rfl),
     st_skip 12 17 _ true rfl rfl rfl rfl (List.Mem.head _),
     st_skip 12 17 _ true rfl rfl rfl rfl (List.Mem.head _),
     st_skip 12 17 _ true rfl rfl rfl rfl (List.Mem.head _),
     st_skip 12 17 _ true rfl rfl rfl rfl (List.Mem.head _),
     st_skip 12 17 _ true rfl rfl rfl rfl (List.Mem.head _),
     st_plain rfl (op_pick _ _ false _ rfl rfl),
     st_plain rfl (op_move _ _ _ _ rfl rfl),
     st_skip 19 24 _ true rfl rfl rfl rfl (List.Mem.head _),
     st_skip 19 24 _ true rfl rfl rfl rfl (List.Mem.head _),
     st_skip 19 24 _ true rfl rfl rfl rfl (List.Mem.head _),
     st_skip 19 24 _ true rfl rfl rfl rfl (List.Mem.head _),
     st_skip 19 24 _ true rfl rfl rfl rfl (List.Mem.head _),
     st_plain rfl (op_pick _ _ false _ rfl rfl),
     st_plain rfl (op_move _ _ _ _ rfl rfl),
     st_skip 26 31 _ true rfl rfl rfl rfl (List.Mem.head _),
     st_skip 26 31 _ true rfl rfl rfl rfl (List.Mem.head _),
     st_skip 26 31 _ true rfl rfl rfl rfl (List.Mem.head _),
     st_skip 26 31 _ true rfl rfl rfl rfl (List.Mem.head _),
     st_skip 26 31 _ true rfl rfl rfl rfl (List.Mem.head _),
     st_plain rfl (op_pick _ _ false _ rfl rfl),
     st_plain rfl (op_move _ _ _ _ rfl rfl),
     st_skip 33 38 _ true rfl rfl rfl rfl (List.Mem.head _),
     st_skip 33 38 _ true rfl rfl rfl rfl (List.Mem.head _),
     st_skip 33 38 _ true rfl rfl rfl rfl (List.Mem.head _),
     st_skip 33 38 _ true rfl rfl rfl rfl (List.Mem.head _),
     st_skip 33 38 _ true rfl rfl rfl rfl (List.Mem.head _),
     st_plain rfl (op_pick _ _ false _ rfl rfl),
     st_plain rfl (op_assign _ _ _ _ rfl rfl),
     trivial⟩ ?_
    exact hl7 _ (Option.some.inj h).symm

set_option maxHeartbeats 1000000 in
theorem ok_wherrykeep_Ints (a : (List Int)) (b : (List Int)) (r : Bool) (h : Sh.wherrykeep_Ints a b = some r) : FnOK Try.prog 60 [.fl .shr 1 (List.map (Value.int .i64) a), .fl .shr 1 (List.map (Value.int .i64) b)] (.v (.bool r)) := by
  unfold Sh.wherrykeep_Ints at h
  refine fn_ok Try.func60 rfl (Nat.le_of_ble_eq_true rfl) rfl rfl fun g0 hn hio => ?_
  refine ht_seq ?_
  refine ht_seqR hn (El := [_, _, (4, .v (.bool false))]) (init := [0, 1]) (fin := [0, 1]) (sps := [⟨[], [], [2], [(.slot 4)]⟩]) (es' := [(_, _), (_, _)]) (by kernel_rfl) rfl rfl
   ⟨st_plain rfl (op_assign _ _ _ _ rfl rfl),
   trivial⟩ ?_
  refine pt_then ?_
  refine ht_seq ?_
  refine ht_seq ?_
  refine ht_seqR hn (El := [_, _, (6, .fl .shr 1 (List.map (Value.int .i64) a)), (7, .v (.int .i64 (a.length : Int))), (8, .fl .shr 1 (List.map (Value.int .i64) b)), (9, .v (.int .i64 (b.length : Int))), (10, .v (.bool (((a.length : Int) != (b.length : Int)))))]) (init := [0, 1]) (fin := [0, 1, 6]) (sps := [⟨[0], [], [2], [(.slot 6)]⟩, ⟨[2], [], [3], [(.slot 7)]⟩, ⟨[1], [], [4], [(.slot 8)]⟩, ⟨[4], [], [5], [(.slot 9)]⟩, ⟨[3, 5], [], [6], [(.slot 10)]⟩]) (es' := [(_, _), (_, _), (10, .v (.bool (((a.length : Int) != (b.length : Int)))))]) (by kernel_rfl) rfl rfl
   ⟨st_plain rfl (op_move _ _ _ _ rfl rfl),
   st_plain rfl (op_len_fl _ _ _ Try.underlying44 rfl (by decide) (map_len _)),
   st_plain rfl (op_move _ _ _ _ rfl rfl),
   st_plain rfl (op_len_fl _ _ _ Try.underlying44 rfl (by decide) (map_len _)),
   st_plain rfl (op_bin _ _ _ _ _ rfl rfl rfl),
   trivial⟩ ?_
  refine pt_then ?_
  refine ht_cond _ rfl (fun hb1 => ?_) (fun hb1 => ?_)
  ·have h := cond_t hb1 h
   refine ht_seq ?_
   refine ht_seqR hn (El := [_, _, _, (4, .v (.bool false))]) (init := [0, 1, 2]) (fin := [3]) (sps := [⟨[], [], [3], [(.slot 4)]⟩]) (es' := [(4, .v (.bool false))]) (by kernel_rfl) rfl rfl
    ⟨st_plain rfl (op_assign _ _ _ _ rfl rfl),
    trivial⟩ ?_
   refine pt_then ?_
   refine ht_ret ?_
   refine pt_r_then ?_
   obtain rfl := Option.some.inj h
   exact pt_ret hio rfl (.tmp _ _ .nil) rfl rfl
  ·have h := cond_f hb1 h
   refine ht_skip ?_
   refine pt_then ?_
   refine ht_seq ?_
   refine ht_seq ?_
   refine ht_seqR hn (El := [_, _, _, (5, .v (.int .i64 0))]) (init := [0, 1, 2]) (fin := [0, 1, 3]) (sps := [⟨[], [], [3], [(.slot 5)]⟩]) (es' := [(_, _), (_, _), (5, .v (.int .i64 0))]) (by kernel_rfl) rfl rfl
    ⟨st_plain rfl (op_assign _ _ _ _ rfl rfl),
    trivial⟩ ?_
   refine pt_then ?_
   refine ht_loopS h (fun (s12 : Int) => [(0, .fl .shr 1 (List.map (Value.int .i64) a)), (1, .fl .shr 1 (List.map (Value.int .i64) b)), (5, .v (.int .i64 s12))]) (fun (() : Unit) => []) ?_ ?_
   ·rintro ⟨⟩ h
    refine pt_then ?_
    refine ht_seq ?_
    refine ht_seqR hn (El := [(4, .v (.bool true))]) (init := []) (fin := [0]) (sps := [⟨[], [], [0], [(.slot 4)]⟩]) (es' := [(4, .v (.bool true))]) (by kernel_rfl) rfl rfl
     ⟨st_plain rfl (op_assign _ _ _ _ rfl rfl),
     trivial⟩ ?_
    refine pt_then ?_
    refine ht_ret ?_
    obtain rfl := Option.some.inj h
    exact pt_ret hio rfl (.tmp _ _ .nil) rfl rfl
   ·rintro u15 hl16 hr17 s12 rr20 h ho18
    refine ht_seq ?_
    refine ht_seq ?_
    refine ht_seqR hn (El := [_, _, _, (11, .v (.int .i64 s12)), (12, .fl .shr 1 (List.map (Value.int .i64) a)), (13, .v (.int .i64 (a.length : Int))), (14, .v (.bool ((decide (s12 < (a.length : Int))))))]) (init := [0, 1, 2]) (fin := [0, 1, 2, 6]) (sps := [⟨[2], [], [3], [(.slot 11)]⟩, ⟨[0], [], [4], [(.slot 12)]⟩, ⟨[4], [], [5], [(.slot 13)]⟩, ⟨[3, 5], [], [6], [(.slot 14)]⟩]) (es' := [(_, _), (_, _), (_, _), (14, .v (.bool ((decide (s12 < (a.length : Int))))))]) (by kernel_rfl) rfl rfl
     ⟨st_plain rfl (op_move _ _ _ _ rfl rfl),
     st_plain rfl (op_move _ _ _ _ rfl rfl),
     st_plain rfl (op_len_fl _ _ _ Try.underlying44 rfl (by decide) (map_len _)),
     st_plain rfl (op_bin _ _ _ _ _ rfl rfl rfl),
     trivial⟩ ?_
    refine pt_then ?_
    refine ht_cond _ rfl (fun hb21 => ?_) (fun hb21 => ?_)
    ·have h := cond_t hb21 h
     refine ht_skip ?_
     refine pt_then ?_
     refine ht_seq ?_
     refine ht_block ?_
     refine ht_seq ?_
     obtain ⟨v3, hv3, h⟩ := bind_some h
     obtain ⟨v4, hv4, h⟩ := bind_some h
     obtain ⟨v5, hv5, h⟩ := bind_some h
     obtain ⟨v6, hv6, h⟩ := bind_some h
     refine ht_anyR (by kernel_rfl) hn (El := [_, _, _, _, (17, .fl .shr 1 (List.map (Value.int .i64) a)), (18, .v (.int .i64 s12)), (19, .eref (.slot 17) (v3 * 1)), (20, .v (.int .i64 v4)), (21, .fl .shr 1 (List.map (Value.int .i64) b)), (22, .v (.int .i64 s12)), (23, .eref (.slot 21) (v5 * 1)), (24, .v (.int .i64 v6)), (25, .v (.bool (v4 != v6)))]) (init := [0, 1, 2, 3]) (fin := [0, 1, 2, 12]) (sps := [⟨[0], [], [4], [(.slot 17)]⟩, ⟨[2], [], [5], [(.slot 18)]⟩, ⟨[4, 5], [], [6], [(.slot 19)]⟩, ⟨[6, 4], [], [7], [(.slot 20)]⟩, ⟨[1], [], [8], [(.slot 21)]⟩, ⟨[2], [], [9], [(.slot 22)]⟩, ⟨[8, 9], [], [10], [(.slot 23)]⟩, ⟨[10, 8], [], [11], [(.slot 24)]⟩, ⟨[7, 11], [], [12], [(.slot 25)]⟩]) (es' := [(_, _), (_, _), (_, _), (25, .v (.bool (v4 != v6)))]) (by kernel_rfl) rfl rfl
      ⟨st_plain rfl (op_move _ _ _ _ rfl rfl),
      st_plain rfl (op_move _ _ _ _ rfl rfl),
      st_plain rfl (op_ix _ _ _ _ _ _ _ _ Try.underlying44 sz3 (by decide) rfl rfl rfl (ix_ok hv3).1 (map_lt (ix_ok hv3).2) rfl),
      st_plain rfl (op_load_e _ _ _ _ _ _ Try.underlying3 rfl rfl rfl (map_get hv4)),
      st_plain rfl (op_move _ _ _ _ rfl rfl),
      st_plain rfl (op_move _ _ _ _ rfl rfl),
      st_plain rfl (op_ix _ _ _ _ _ _ _ _ Try.underlying44 sz3 (by decide) rfl rfl rfl (ix_ok hv5).1 (map_lt (ix_ok hv5).2) rfl),
      st_plain rfl (op_load_e _ _ _ _ _ _ Try.underlying3 rfl rfl rfl (map_get hv6)),
      st_plain rfl (op_bin _ _ _ _ _ rfl rfl rfl),
      trivial⟩ ?_
     refine pt_then ?_
     refine ht_cond _ rfl (fun hb22 => ?_) (fun hb22 => ?_)
     ·have h := cond_t hb22 h
      refine ht_seq ?_
      refine ht_seqR hn (El := [_, _, _, _, (4, .v (.bool false))]) (init := [0, 1, 2, 3]) (fin := [4]) (sps := [⟨[], [], [4], [(.slot 4)]⟩]) (es' := [(4, .v (.bool false))]) (by kernel_rfl) rfl rfl
       ⟨st_plain rfl (op_assign _ _ _ _ rfl rfl),
       trivial⟩ ?_
      refine pt_then ?_
      refine ht_ret ?_
      refine pt_r_in ?_
      refine pt_r_then ?_
      refine pt_r_then ?_
      refine pt_r_in ?_
      refine pt_r_then ?_
      have h := hr17 _ (ho18 _ (Option.some.inj h).symm).symm
      obtain rfl := Option.some.inj h
      exact pt_ret hio rfl (.tmp _ _ .nil) rfl rfl
     ·have h := cond_f hb22 h
      refine ht_skip ?_
      refine pt_inb ?_
      refine pt_then ?_
      obtain ⟨v8, hv8, h⟩ := bind_some h
      refine ht_seqR hn (El := [_, _, _, _, (15, .v (.int .i64 s12)), (16, .v (.int .i64 v8)), (5, .v (.int .i64 v8))]) (init := [0, 1, 2, 3]) (fin := [0, 1, 6]) (sps := [⟨[2], [], [4], [(.slot 15)]⟩, ⟨[4], [], [5], [(.slot 16)]⟩, ⟨[5], [2], [6], [(.slot 5)]⟩]) (es' := [(_, _), (_, _), (5, .v (.int .i64 v8))]) (by kernel_rfl) rfl rfl
       ⟨st_plain rfl (op_move _ _ _ _ rfl rfl),
       st_plain rfl (op_bin _ _ _ _ _ rfl rfl (ibind (f := Value.int .i64) (Option.some.inj hv8))),
       st_plain rfl (LOp.drop [_] (op_assign _ _ _ _ rfl rfl)),
       trivial⟩ ?_
      exact pt_next _ (Option.some.inj h).symm rfl
    ·have h := cond_f hb21 h
     refine ht_exit ?_
     refine pt_x_then ?_
     refine pt_x_then ?_
     refine pt_x_in ?_
     refine pt_pick [] (by kernel_rfl) (es' := []) rfl ?_
     exact hl16 _ (ho18 _ (Option.some.inj h).symm).symm

end Go.Proofs.Ytbioodcjmceefaa
