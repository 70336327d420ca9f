/-
  The model's runs are what is told in Lean.
-/
import Derived.Test.YtbioodcjmceefaaProg
import Derived.KernelRfl
import Derived.Test.YtbioodcjmceefaaOkc3
set_option linter.unusedVariables false
set_option linter.unusedSimpArgs false
namespace Go.Proofs.Ytbioodcjmceefaa
open Go.Abs Go.Abs.Sh

set_option maxHeartbeats 1000000 in
theorem ok_wherrylaw18_DiaryTwice (l : (List T_Rec)) (keep : Int) (n : Int) (r : Bool) (h : Sh.wherrylaw18_DiaryTwice l keep n = some r) : FnOK Try.prog 8 [.fr .shr true 15 (List.flatten (List.map T_Rec.ienc l)), .v (.int .i64 keep), .v (.int .i64 n)] (.v (.bool r)) := by
  unfold Sh.wherrylaw18_DiaryTwice at h
  refine fn_ok Try.func8 rfl (Nat.le_of_ble_eq_true rfl) rfl rfl fun g0 hn hio => ?_
  refine ht_seq ?_
  refine ht_seqR hn (El := [_, _, _, (6, .v (.bool false))]) (init := [0, 1, 2]) (fin := [0, 1, 2]) (sps := [⟨[], [], [3], [(.slot 6)]⟩]) (es' := [(_, _), (_, _), (_, _)]) (by kernel_rfl) rfl rfl
   ⟨st_plain rfl (op_assign _ _ _ _ rfl rfl),
   trivial⟩ ?_
  refine pt_then ?_
  refine ht_seq ?_
  refine ht_seq ?_
  obtain ⟨v1, hv1, h⟩ := bind_some h
  refine ht_seqR hn (El := [_, _, _, (12, .fr .shr true 15 (List.flatten (List.map T_Rec.ienc l))), (13, .v (.bool v1))]) (init := [0, 1, 2]) (fin := [0, 1, 2, 4]) (sps := [⟨[0], [], [3], [(.slot 12)]⟩, ⟨[3], [], [4], [(.slot 13)]⟩]) (es' := [(_, _), (_, _), (_, _), (13, .v (.bool v1))]) (by kernel_rfl) rfl rfl
   ⟨st_plain rfl (op_move _ _ _ _ rfl rfl),
   st_plain rfl (op_call _ _ 13 _ _ rfl Try.call13 rfl (ok_wherrylaw18_Heavy l _ hv1) rfl rfl),
   trivial⟩ ?_
  refine pt_then ?_
  refine ht_cond _ rfl (fun hb2 => ?_) (fun hb2 => ?_)
  ·have h := cond_t hb2 h
   refine ht_seq ?_
   refine ht_seqR hn (El := [_, _, _, _, (6, .v (.bool true))]) (init := [0, 1, 2, 3]) (fin := [4]) (sps := [⟨[], [], [4], [(.slot 6)]⟩]) (es' := [(6, .v (.bool true))]) (by kernel_rfl) rfl rfl
    ⟨st_plain rfl (op_assign _ _ _ _ rfl rfl),
    trivial⟩ ?_
   refine pt_then ?_
   refine ht_ret ?_
   refine pt_r_then ?_
   obtain rfl := Option.some.inj h
   exact pt_ret hio rfl (.tmp _ _ .nil) rfl rfl
  ·have h := cond_f hb2 h
   refine ht_skip ?_
   refine pt_then ?_
   refine ht_seq ?_
   obtain ⟨v3, hv3, h⟩ := bind_some h
   refine ht_seqR hn (El := [_, _, _, _, (15, .tup [.obox (Option.isSome v3.1) 64 [.v (.int .i64 (((Option.getD v3.1 (default : T_diary_Diary))).limit)), .fr (.own 46) false 15 (List.flatten (List.map T_Rec.ienc (((Option.getD v3.1 (default : T_diary_Diary))).recs))), .v (.int .i64 (((Option.getD v3.1 (default : T_diary_Diary))).used)), .v (.int .i64 (((Option.getD v3.1 (default : T_diary_Diary))).safe)), .v (.int .i64 (((Option.getD v3.1 (default : T_diary_Diary))).kept)), .v (.int .i64 (((Option.getD v3.1 (default : T_diary_Diary))).life)), .v (.bool (((Option.getD v3.1 (default : T_diary_Diary))).off)), .v (.int .i64 (((Option.getD v3.1 (default : T_diary_Diary))).trip)), .v (.int .i64 (((Option.getD v3.1 (default : T_diary_Diary))).tripKeep))], .v (.int .i64 v3.2)]), (14, .tup [.obox (Option.isSome v3.1) 64 [.v (.int .i64 (((Option.getD v3.1 (default : T_diary_Diary))).limit)), .fr (.own 46) false 15 (List.flatten (List.map T_Rec.ienc (((Option.getD v3.1 (default : T_diary_Diary))).recs))), .v (.int .i64 (((Option.getD v3.1 (default : T_diary_Diary))).used)), .v (.int .i64 (((Option.getD v3.1 (default : T_diary_Diary))).safe)), .v (.int .i64 (((Option.getD v3.1 (default : T_diary_Diary))).kept)), .v (.int .i64 (((Option.getD v3.1 (default : T_diary_Diary))).life)), .v (.bool (((Option.getD v3.1 (default : T_diary_Diary))).off)), .v (.int .i64 (((Option.getD v3.1 (default : T_diary_Diary))).trip)), .v (.int .i64 (((Option.getD v3.1 (default : T_diary_Diary))).tripKeep))], .v (.int .i64 v3.2)]), (16, .obox (Option.isSome v3.1) 64 [.v (.int .i64 (((Option.getD v3.1 (default : T_diary_Diary))).limit)), .fr (.own 46) false 15 (List.flatten (List.map T_Rec.ienc (((Option.getD v3.1 (default : T_diary_Diary))).recs))), .v (.int .i64 (((Option.getD v3.1 (default : T_diary_Diary))).used)), .v (.int .i64 (((Option.getD v3.1 (default : T_diary_Diary))).safe)), .v (.int .i64 (((Option.getD v3.1 (default : T_diary_Diary))).kept)), .v (.int .i64 (((Option.getD v3.1 (default : T_diary_Diary))).life)), .v (.bool (((Option.getD v3.1 (default : T_diary_Diary))).off)), .v (.int .i64 (((Option.getD v3.1 (default : T_diary_Diary))).trip)), .v (.int .i64 (((Option.getD v3.1 (default : T_diary_Diary))).tripKeep))]), (14, .tup [.any, .v (.int .i64 v3.2)]), (17, .v (.int .i64 v3.2)), (7, .obox (Option.isSome v3.1) 64 [.v (.int .i64 (((Option.getD v3.1 (default : T_diary_Diary))).limit)), .fr (.own 46) false 15 (List.flatten (List.map T_Rec.ienc (((Option.getD v3.1 (default : T_diary_Diary))).recs))), .v (.int .i64 (((Option.getD v3.1 (default : T_diary_Diary))).used)), .v (.int .i64 (((Option.getD v3.1 (default : T_diary_Diary))).safe)), .v (.int .i64 (((Option.getD v3.1 (default : T_diary_Diary))).kept)), .v (.int .i64 (((Option.getD v3.1 (default : T_diary_Diary))).life)), .v (.bool (((Option.getD v3.1 (default : T_diary_Diary))).off)), .v (.int .i64 (((Option.getD v3.1 (default : T_diary_Diary))).trip)), .v (.int .i64 (((Option.getD v3.1 (default : T_diary_Diary))).tripKeep))]), (8, .v (.int .i64 v3.2))]) (init := [0, 1, 2, 3]) (fin := [0, 1, 2, 9, 10]) (sps := [⟨[], [], [4], [(.slot 15)]⟩, ⟨[], [4], [5], [(.slot 14)]⟩, ⟨[], [5], [7, 6], [(.slot 16)]⟩, ⟨[7], [], [8], [(.slot 17)]⟩, ⟨[], [6], [9], [(.slot 7)]⟩, ⟨[8], [], [10], [(.slot 8)]⟩]) (es' := [(_, _), (_, _), (_, _), (7, .obox (Option.isSome v3.1) 64 [.v (.int .i64 (((Option.getD v3.1 (default : T_diary_Diary))).limit)), .fr (.own 46) false 15 (List.flatten (List.map T_Rec.ienc (((Option.getD v3.1 (default : T_diary_Diary))).recs))), .v (.int .i64 (((Option.getD v3.1 (default : T_diary_Diary))).used)), .v (.int .i64 (((Option.getD v3.1 (default : T_diary_Diary))).safe)), .v (.int .i64 (((Option.getD v3.1 (default : T_diary_Diary))).kept)), .v (.int .i64 (((Option.getD v3.1 (default : T_diary_Diary))).life)), .v (.bool (((Option.getD v3.1 (default : T_diary_Diary))).off)), .v (.int .i64 (((Option.getD v3.1 (default : T_diary_Diary))).trip)), .v (.int .i64 (((Option.getD v3.1 (default : T_diary_Diary))).tripKeep))]), (8, .v (.int .i64 v3.2))]) (by kernel_rfl) rfl rfl
    ⟨st_plain rfl (op_call _ _ 10 _ _ rfl Try.call10 rfl (ok_diary_New 131072 _ hv3) rfl rfl),
    st_plain rfl (op_move_take _ _ _ _ rfl),
    st_plain rfl (op_extract_take _ _ _ _ _ rfl (Nat.le_of_ble_eq_true rfl) rfl rfl (by decide) rfl),
    st_plain rfl (op_extract _ _ _ _ _ rfl rfl (Nat.le_of_ble_eq_true rfl) rfl rfl),
    st_plain rfl (op_assign_take _ _ _ _ rfl),
    st_plain rfl (op_assign _ _ _ _ rfl rfl),
    trivial⟩ ?_
   refine pt_ob (d := default) (f := fun (v4 : T_diary_Diary) => [.v (.int .i64 v4.limit), .fr (.own 46) false 15 (List.flatten (List.map T_Rec.ienc v4.recs)), .v (.int .i64 v4.used), .v (.int .i64 v4.safe), .v (.int .i64 v4.kept), .v (.int .i64 v4.life), .v (.bool v4.off), .v (.int .i64 v4.trip), .v (.int .i64 v4.tripKeep)]) 3 9 7 64 h (es1 := fun v4 => [(0, .fr .shr true 15 (List.flatten (List.map T_Rec.ienc l))), (1, .v (.int .i64 keep)), (2, .v (.int .i64 n)), (7, .box 64 [.v (.int .i64 v4.limit), .fr (.own 46) false 15 (List.flatten (List.map T_Rec.ienc v4.recs)), .v (.int .i64 v4.used), .v (.int .i64 v4.safe), .v (.int .i64 v4.kept), .v (.int .i64 v4.life), .v (.bool v4.off), .v (.int .i64 v4.trip), .v (.int .i64 v4.tripKeep)]), (8, .v (.int .i64 v3.2))]) (es0 := [(0, .fr .shr true 15 (List.flatten (List.map T_Rec.ienc l))), (1, .v (.int .i64 keep)), (2, .v (.int .i64 n)), (7, .v (.pointer none)), (8, .v (.int .i64 v3.2))]) rfl (fun _ => rfl) (by kernel_rfl) (fun _ => rfl) (fun _ => rfl) rfl (fun v4 hv5 h => ?_) (fun hv5 h => ?_)
   ·refine pt_then ?_
    refine ht_seq ?_
    refine ht_seq ?_
    refine ht_joinS h (fun (s6 : Bool) => [(0, .fr .shr true 15 (List.flatten (List.map T_Rec.ienc l))), (1, .v (.int .i64 keep)), (2, .v (.int .i64 n)), (7, .box 64 [.v (.int .i64 v4.limit), .fr (.own 46) false 15 (List.flatten (List.map T_Rec.ienc v4.recs)), .v (.int .i64 v4.used), .v (.int .i64 v4.safe), .v (.int .i64 v4.kept), .v (.int .i64 v4.life), .v (.bool v4.off), .v (.int .i64 v4.trip), .v (.int .i64 v4.tripKeep)]), (23, .v (.bool s6))]) ?_ ?_
    ·rintro s6 h
     refine pt_then ?_
     refine ht_cond _ rfl (fun hb10 => ?_) (fun hb10 => ?_)
     ·have h := cond_t hb10 h
      refine ht_seq ?_
      refine ht_seqR hn (El := [_, _, _, _, _, (6, .v (.bool false))]) (init := [0, 1, 2, 3, 4]) (fin := [5]) (sps := [⟨[], [], [5], [(.slot 6)]⟩]) (es' := [(6, .v (.bool false))]) (by kernel_rfl) rfl rfl
       ⟨st_plain rfl (op_assign _ _ _ _ rfl rfl),
       trivial⟩ ?_
      refine pt_then ?_
      refine ht_ret ?_
      refine pt_r_then ?_
      obtain rfl := Option.some.inj h
      exact pt_ret hio rfl (.tmp _ _ .nil) rfl rfl
     ·have h := cond_f hb10 h
      refine ht_skip ?_
      refine pt_then ?_
      refine ht_seq ?_
      obtain ⟨v11, hv11, h⟩ := bind_some h
      obtain ⟨v12, hv12, h⟩ := bind_some h
      obtain ⟨v13, hv13, h⟩ := bind_some h
      refine ht_seqR hn (El := [_, _, _, _, _, (24, .v (.int .i64 n)), (25, .v (.int .u64 v11)), (26, .v (.int .u64 v12)), (27, .v (.int .i64 v13)), (2, .v (.int .i64 v13))]) (init := [0, 1, 2, 3, 4]) (fin := [0, 1, 3, 9]) (sps := [⟨[2], [], [5], [(.slot 24)]⟩, ⟨[5], [], [6], [(.slot 25)]⟩, ⟨[6], [], [7], [(.slot 26)]⟩, ⟨[7], [], [8], [(.slot 27)]⟩, ⟨[8], [2], [9], [(.slot 2)]⟩]) (es' := [(_, _), (_, _), (_, _), (2, .v (.int .i64 v13))]) (by kernel_rfl) rfl rfl
       ⟨st_plain rfl (op_move _ _ _ _ rfl rfl),
       st_plain rfl ((Option.some.inj hv11) ▸ op_conv _ _ _ Try.underlying3 Try.underlying36 rfl),
       st_plain rfl (op_bin _ _ _ _ _ rfl rfl (rem_ok hv12)),
       st_plain rfl ((Option.some.inj hv13) ▸ op_conv _ _ _ Try.underlying36 Try.underlying3 rfl),
       st_plain rfl (LOp.drop [_] (op_assign _ _ _ _ rfl rfl)),
       trivial⟩ ?_
      refine pt_then ?_
      refine ht_seq ?_
      refine ht_seqR hn (El := [_, _, _, _, (9, .v (.int .i64 0))]) (init := [0, 1, 2, 3]) (fin := [0, 1, 2, 3, 4]) (sps := [⟨[], [], [4], [(.slot 9)]⟩]) (es' := [(_, _), (_, _), (_, _), (_, _), (9, .v (.int .i64 0))]) (by kernel_rfl) rfl rfl
       ⟨st_plain rfl (op_assign _ _ _ _ rfl rfl),
       trivial⟩ ?_
      refine pt_then ?_
      refine ht_seq ?_
      refine ht_seq ?_
      refine ht_seqR hn (El := [_, _, _, _, _, (10, .v (.int .i64 0))]) (init := [0, 1, 2, 3, 4]) (fin := [0, 1, 2, 3, 4, 5]) (sps := [⟨[], [], [5], [(.slot 10)]⟩]) (es' := [(_, _), (_, _), (_, _), (_, _), (_, _), (10, .v (.int .i64 0))]) (by kernel_rfl) rfl rfl
       ⟨st_plain rfl (op_assign _ _ _ _ rfl rfl),
       trivial⟩ ?_
      refine pt_then ?_
      refine ht_loopS h (fun ((s118, s119, s120, s121, s122, s123, s124, s125, s126, s127, s128) : Int × (List T_Rec) × Int × Int × Int × Int × Bool × Int × Int × Int × Int) => [(0, .fr .shr true 15 (List.flatten (List.map T_Rec.ienc l))), (1, .v (.int .i64 keep)), (7, .box 64 [.v (.int .i64 s118), .fr (.own 46) false 15 (List.flatten (List.map T_Rec.ienc s119)), .v (.int .i64 s120), .v (.int .i64 s121), .v (.int .i64 s122), .v (.int .i64 s123), .v (.bool s124), .v (.int .i64 s125), .v (.int .i64 s126)]), (2, .v (.int .i64 v13)), (9, .v (.int .i64 s127)), (10, .v (.int .i64 s128))]) (fun ((s168, s169, s170, s171, s172, s173, s174, s175, s176) : Int × (List T_Rec) × Int × Int × Int × Int × Bool × Int × Int) => [(0, .fr .shr true 15 (List.flatten (List.map T_Rec.ienc l))), (1, .v (.int .i64 keep)), (7, .box 64 [.v (.int .i64 s168), .fr (.own 46) false 15 (List.flatten (List.map T_Rec.ienc s169)), .v (.int .i64 s170), .v (.int .i64 s171), .v (.int .i64 s172), .v (.int .i64 s173), .v (.bool s174), .v (.int .i64 s175), .v (.int .i64 s176)])]) ?_ ?_
      ·rintro ⟨s168, s169, s170, s171, s172, s173, s174, s175, s176⟩ h
       refine pt_then ?_
       refine ht_seq ?_
       refine ht_seqR hn (El := [_, _, _, (11, .v (.int .i64 0))]) (init := [0, 1, 2]) (fin := [0, 1, 2, 3]) (sps := [⟨[], [], [3], [(.slot 11)]⟩]) (es' := [(_, _), (_, _), (_, _), (11, .v (.int .i64 0))]) (by kernel_rfl) rfl rfl
        ⟨st_plain rfl (op_assign _ _ _ _ rfl rfl),
        trivial⟩ ?_
       refine pt_then ?_
       refine ht_seq ?_
       refine ht_joinS h (fun (s223 : Int) => [(7, .box 64 [.v (.int .i64 s168), .fr (.own 46) false 15 (List.flatten (List.map T_Rec.ienc s169)), .v (.int .i64 s170), .v (.int .i64 s171), .v (.int .i64 s172), .v (.int .i64 s173), .v (.bool s174), .v (.int .i64 s175), .v (.int .i64 s176)]), (11, .v (.int .i64 s223))]) ?_ ?_
       ·rintro s223 h
        refine pt_then ?_
        refine ht_seq ?_
        refine ht_joinS h (fun (s231 : Bool) => [(6, .v (.bool s231))]) ?_ ?_
        ·rintro s231 h
         refine pt_then ?_
         refine ht_ret ?_
         obtain rfl := Option.some.inj h
         exact pt_ret hio rfl (.tmp _ _ .nil) rfl rfl
        ·intro u232 h hl233 hr234
         obtain ⟨v228, hv228, h⟩ := bind_some h
         refine cond_some h (fun hg27_4 h => ?_) (fun hg27_4 h => ?_)
         ·obtain ⟨v229, hv229, h⟩ := bind_some h
          refine cond_some h (fun hg27_10 h => ?_) (fun hg27_10 h => ?_)
          ·obtain ⟨v230, hv230, h⟩ := bind_some h
           refine ht_seqR hn (El := (_ :: _ :: (80, .ptr 7 0) :: (81, .v (.int .i64 v228.1)) :: (7, .box 64 [.v (.int .i64 v228.2.limit), .fr (.own 46) false 15 (List.flatten (List.map T_Rec.ienc v228.2.recs)), .v (.int .i64 v228.2.used), .v (.int .i64 v228.2.safe), .v (.int .i64 v228.2.kept), .v (.int .i64 v228.2.life), .v (.bool v228.2.off), .v (.int .i64 v228.2.trip), .v (.int .i64 v228.2.tripKeep)]) :: (82, .v (.int .i64 s223)) :: (83, .v (.bool (v228.1 == s223))) :: (84, .v (.bool true)) :: (85, .box 64 [.v (.int .i64 v228.2.limit), .fr (.own 46) false 15 (List.flatten (List.map T_Rec.ienc v228.2.recs)), .v (.int .i64 v228.2.used), .v (.int .i64 v228.2.safe), .v (.int .i64 v228.2.kept), .v (.int .i64 v228.2.life), .v (.bool v228.2.off), .v (.int .i64 v228.2.trip), .v (.int .i64 v228.2.tripKeep)]) :: (86, .v (.int .i64 v229.1)) :: (85, .box 64 [.v (.int .i64 v229.2.limit), .fr (.own 46) false 15 (List.flatten (List.map T_Rec.ienc v229.2.recs)), .v (.int .i64 v229.2.used), .v (.int .i64 v229.2.safe), .v (.int .i64 v229.2.kept), .v (.int .i64 v229.2.life), .v (.bool v229.2.off), .v (.int .i64 v229.2.trip), .v (.int .i64 v229.2.tripKeep)]) :: (87, .v (.int .i64 s223)) :: (88, .v (.bool (v229.1 == s223))) :: (89, .v (.bool (v229.1 == s223))) :: (90, .v (.bool true)) :: (91, .v (.bool v230)) :: (92, .v (.bool v230)) :: (6, .v (.bool v230)) :: [])) (init := [0, 1]) (fin := [17]) (sps := [⟨[0], [], [2], [(.slot 80)]⟩, ⟨[2], [0], [4, 3], [(.slot 81), (.cell 7 0), (.cell 7 1), (.cell 7 2), (.cell 7 3), (.cell 7 4), (.cell 7 5), (.cell 7 6), (.cell 7 7), (.cell 7 8)]⟩, ⟨[1], [], [5], [(.slot 82)]⟩, ⟨[3, 5], [], [6], [(.slot 83)]⟩, ⟨[6], [], [7], [(.slot 84)]⟩, ⟨[7], [2, 4], [8], [(.slot 85)]⟩, ⟨[7], [8], [10, 9], [(.slot 86), (.cell 85 0), (.cell 85 1), (.cell 85 2), (.cell 85 3), (.cell 85 4), (.cell 85 5), (.cell 85 6), (.cell 85 7), (.cell 85 8)]⟩, ⟨[7, 1], [], [11], [(.slot 87)]⟩, ⟨[7, 9, 11], [], [12], [(.slot 88)]⟩, ⟨[7, 12], [], [13], [(.slot 89)]⟩, ⟨[13], [], [14], [(.slot 90)]⟩, ⟨[14], [], [15], [(.slot 91)]⟩, ⟨[14, 15], [], [16], [(.slot 92)]⟩, ⟨[16], [], [17], [(.slot 6)]⟩]) (es' := [(6, .v (.bool v230))]) (by kernel_rfl) rfl rfl
            ⟨st_plain rfl (op_move _ _ _ _ rfl rfl),
            st_plain rfl (op_callP _ _ _ _ 81 34 [.tmp 80] [] _ _ _ rfl Try.call34 rfl rfl rfl (ok_diary_Diary_Len (T_diary_Diary.mk s168 s169 s170 s171 s172 s173 s174 s175 s176) _ hv228) (Nat.le_of_ble_eq_true rfl) rfl rfl rfl rfl rfl rfl rfl rfl),
            st_plain rfl (op_move _ _ _ _ rfl rfl),
            st_plain rfl (op_bin _ _ _ _ _ rfl rfl rfl),
            st_plain rfl (op_move _ _ _ _ (congrArg (fun b => AV.v (Value.bool b)) hg27_4) rfl),
            st_run 4 84 true rfl rfl rfl (List.Mem.head _) (LOp.drop [_] (op_move_take _ _ _ _ rfl)),
            st_run 4 84 true rfl rfl rfl (List.Mem.head _) (op_callP _ _ _ _ 86 31 [.tmp 85] [] _ _ _ rfl Try.call31 rfl rfl rfl (ok_diary_Diary_Safe v228.2 _ hv229) (Nat.le_of_ble_eq_true rfl) rfl rfl rfl rfl rfl rfl rfl rfl),
            st_run 4 84 true rfl rfl rfl (List.Mem.head _) (op_move _ _ _ _ rfl rfl),
            st_run 4 84 true rfl rfl rfl (List.Mem.head _) (op_bin _ _ _ _ _ rfl rfl rfl),
            st_plain rfl (op_pick _ _ true _ rfl rfl),
            st_plain rfl (op_move _ _ _ _ (congrArg (fun b => AV.v (Value.bool b)) hg27_10) rfl),
            st_run 10 90 true rfl rfl rfl (List.Mem.head _) (op_call _ _ 12 _ _ rfl Try.call12 rfl (ok_wherrylaw18_wakes  _ hv230) rfl rfl),
            st_plain rfl (op_pick _ _ true _ rfl rfl),
            st_plain rfl (op_assign _ _ _ _ rfl rfl),
            trivial⟩ ?_
           exact hl233 _ (Option.some.inj h).symm
          ·refine ht_seqR hn (El := (_ :: _ :: (80, .ptr 7 0) :: (81, .v (.int .i64 v228.1)) :: (7, .box 64 [.v (.int .i64 v228.2.limit), .fr (.own 46) false 15 (List.flatten (List.map T_Rec.ienc v228.2.recs)), .v (.int .i64 v228.2.used), .v (.int .i64 v228.2.safe), .v (.int .i64 v228.2.kept), .v (.int .i64 v228.2.life), .v (.bool v228.2.off), .v (.int .i64 v228.2.trip), .v (.int .i64 v228.2.tripKeep)]) :: (82, .v (.int .i64 s223)) :: (83, .v (.bool (v228.1 == s223))) :: (84, .v (.bool true)) :: (85, .box 64 [.v (.int .i64 v228.2.limit), .fr (.own 46) false 15 (List.flatten (List.map T_Rec.ienc v228.2.recs)), .v (.int .i64 v228.2.used), .v (.int .i64 v228.2.safe), .v (.int .i64 v228.2.kept), .v (.int .i64 v228.2.life), .v (.bool v228.2.off), .v (.int .i64 v228.2.trip), .v (.int .i64 v228.2.tripKeep)]) :: (86, .v (.int .i64 v229.1)) :: (85, .box 64 [.v (.int .i64 v229.2.limit), .fr (.own 46) false 15 (List.flatten (List.map T_Rec.ienc v229.2.recs)), .v (.int .i64 v229.2.used), .v (.int .i64 v229.2.safe), .v (.int .i64 v229.2.kept), .v (.int .i64 v229.2.life), .v (.bool v229.2.off), .v (.int .i64 v229.2.trip), .v (.int .i64 v229.2.tripKeep)]) :: (87, .v (.int .i64 s223)) :: (88, .v (.bool (v229.1 == s223))) :: (89, .v (.bool (v229.1 == s223))) :: (90, .v (.bool false)) :: (91, .v undef) :: (92, .v (.bool false)) :: (6, .v (.bool false)) :: [])) (init := [0, 1]) (fin := [17]) (sps := [⟨[0], [], [2], [(.slot 80)]⟩, ⟨[2], [0], [4, 3], [(.slot 81), (.cell 7 0), (.cell 7 1), (.cell 7 2), (.cell 7 3), (.cell 7 4), (.cell 7 5), (.cell 7 6), (.cell 7 7), (.cell 7 8)]⟩, ⟨[1], [], [5], [(.slot 82)]⟩, ⟨[3, 5], [], [6], [(.slot 83)]⟩, ⟨[6], [], [7], [(.slot 84)]⟩, ⟨[7], [2, 4], [8], [(.slot 85)]⟩, ⟨[7], [8], [10, 9], [(.slot 86), (.cell 85 0), (.cell 85 1), (.cell 85 2), (.cell 85 3), (.cell 85 4), (.cell 85 5), (.cell 85 6), (.cell 85 7), (.cell 85 8)]⟩, ⟨[7, 1], [], [11], [(.slot 87)]⟩, ⟨[7, 9, 11], [], [12], [(.slot 88)]⟩, ⟨[7, 12], [], [13], [(.slot 89)]⟩, ⟨[13], [], [14], [(.slot 90)]⟩, ⟨[14], [], [15], [(.slot 91)]⟩, ⟨[14], [], [16], [(.slot 92)]⟩, ⟨[16], [], [17], [(.slot 6)]⟩]) (es' := [(6, .v (.bool false))]) (by kernel_rfl) rfl rfl
            ⟨st_plain rfl (op_move _ _ _ _ rfl rfl),
            st_plain rfl (op_callP _ _ _ _ 81 34 [.tmp 80] [] _ _ _ rfl Try.call34 rfl rfl rfl (ok_diary_Diary_Len (T_diary_Diary.mk s168 s169 s170 s171 s172 s173 s174 s175 s176) _ hv228) (Nat.le_of_ble_eq_true rfl) rfl rfl rfl rfl rfl rfl rfl rfl),
            st_plain rfl (op_move _ _ _ _ rfl rfl),
            st_plain rfl (op_bin _ _ _ _ _ rfl rfl rfl),
            st_plain rfl (op_move _ _ _ _ (congrArg (fun b => AV.v (Value.bool b)) hg27_4) rfl),
            st_run 4 84 true rfl rfl rfl (List.Mem.head _) (LOp.drop [_] (op_move_take _ _ _ _ rfl)),
            st_run 4 84 true rfl rfl rfl (List.Mem.head _) (op_callP _ _ _ _ 86 31 [.tmp 85] [] _ _ _ rfl Try.call31 rfl rfl rfl (ok_diary_Diary_Safe v228.2 _ hv229) (Nat.le_of_ble_eq_true rfl) rfl rfl rfl rfl rfl rfl rfl rfl),
            st_run 4 84 true rfl rfl rfl (List.Mem.head _) (op_move _ _ _ _ rfl rfl),
            st_run 4 84 true rfl rfl rfl (List.Mem.head _) (op_bin _ _ _ _ _ rfl rfl rfl),
            st_plain rfl (op_pick _ _ true _ rfl rfl),
            st_plain rfl (op_move _ _ _ _ (congrArg (fun b => AV.v (Value.bool b)) hg27_10) rfl),
            st_skip 10 90 _ true rfl rfl rfl rfl (List.Mem.head _),
            st_plain rfl (op_pick _ _ false _ rfl rfl),
            st_plain rfl (op_assign _ _ _ _ rfl rfl),
            trivial⟩ ?_
           exact hl233 _ (Option.some.inj h).symm
         ·refine ht_seqR hn (El := (_ :: _ :: (80, .ptr 7 0) :: (81, .v (.int .i64 v228.1)) :: (7, .box 64 [.v (.int .i64 v228.2.limit), .fr (.own 46) false 15 (List.flatten (List.map T_Rec.ienc v228.2.recs)), .v (.int .i64 v228.2.used), .v (.int .i64 v228.2.safe), .v (.int .i64 v228.2.kept), .v (.int .i64 v228.2.life), .v (.bool v228.2.off), .v (.int .i64 v228.2.trip), .v (.int .i64 v228.2.tripKeep)]) :: (82, .v (.int .i64 s223)) :: (83, .v (.bool (v228.1 == s223))) :: (84, .v (.bool false)) :: (85, .v undef) :: (86, .v undef) :: (87, .v undef) :: (88, .v undef) :: (89, .v (.bool false)) :: (90, .v (.bool false)) :: (91, .v undef) :: (92, .v (.bool false)) :: (6, .v (.bool false)) :: [])) (init := [0, 1]) (fin := [16]) (sps := [⟨[0], [], [2], [(.slot 80)]⟩, ⟨[2], [0], [4, 3], [(.slot 81), (.cell 7 0), (.cell 7 1), (.cell 7 2), (.cell 7 3), (.cell 7 4), (.cell 7 5), (.cell 7 6), (.cell 7 7), (.cell 7 8)]⟩, ⟨[1], [], [5], [(.slot 82)]⟩, ⟨[3, 5], [], [6], [(.slot 83)]⟩, ⟨[6], [], [7], [(.slot 84)]⟩, ⟨[7], [], [8], [(.slot 85)]⟩, ⟨[7], [], [9], [(.slot 86)]⟩, ⟨[7], [], [10], [(.slot 87)]⟩, ⟨[7], [], [11], [(.slot 88)]⟩, ⟨[7], [], [12], [(.slot 89)]⟩, ⟨[12], [], [13], [(.slot 90)]⟩, ⟨[13], [], [14], [(.slot 91)]⟩, ⟨[13], [], [15], [(.slot 92)]⟩, ⟨[15], [], [16], [(.slot 6)]⟩]) (es' := [(6, .v (.bool false))]) (by kernel_rfl) rfl rfl
           ⟨st_plain rfl (op_move _ _ _ _ rfl rfl),
           st_plain rfl (op_callP _ _ _ _ 81 34 [.tmp 80] [] _ _ _ rfl Try.call34 rfl rfl rfl (ok_diary_Diary_Len (T_diary_Diary.mk s168 s169 s170 s171 s172 s173 s174 s175 s176) _ hv228) (Nat.le_of_ble_eq_true rfl) rfl rfl rfl rfl rfl rfl rfl rfl),
           st_plain rfl (op_move _ _ _ _ rfl rfl),
           st_plain rfl (op_bin _ _ _ _ _ rfl rfl rfl),
           st_plain rfl (op_move _ _ _ _ (congrArg (fun b => AV.v (Value.bool b)) hg27_4) rfl),
           st_skip 4 84 _ true rfl rfl rfl rfl (List.Mem.head _),
           st_skip 4 84 _ true rfl rfl rfl rfl (List.Mem.head _),
           st_skip 4 84 _ true rfl rfl rfl rfl (List.Mem.head _),
           st_skip 4 84 _ true rfl rfl rfl rfl (List.Mem.head _),
           st_plain rfl (op_pick _ _ false _ rfl rfl),
           st_plain rfl (op_move _ _ _ _ rfl rfl),
           st_skip 10 90 _ true rfl rfl rfl rfl (List.Mem.head _),
           st_plain rfl (op_pick _ _ false _ rfl rfl),
           st_plain rfl (op_assign _ _ _ _ rfl rfl),
           trivial⟩ ?_
          exact hl233 _ (Option.some.inj h).symm
       ·intro u224 h hl225 hr226
        refine ht_seq ?_
        refine ht_seqR hn (El := [_, _, _, _, (76, .v (.int .i64 keep)), (77, .v (.bool ((decide (0 < keep)))))]) (init := [0, 1, 2, 3]) (fin := [0, 2, 3, 5]) (sps := [⟨[1], [], [4], [(.slot 76)]⟩, ⟨[4], [], [5], [(.slot 77)]⟩]) (es' := [(_, _), (_, _), (_, _), (77, .v (.bool ((decide (0 < keep)))))]) (by kernel_rfl) rfl rfl
         ⟨st_plain rfl (op_move _ _ _ _ rfl rfl),
         st_plain rfl (op_bin _ _ _ _ _ rfl rfl rfl),
         trivial⟩ ?_
        refine pt_then ?_
        refine ht_cond _ rfl (fun hb227 => ?_) (fun hb227 => ?_)
        ·have h := cond_t hb227 h
         refine ht_seqR hn (El := [_, _, _, _, (78, .fr .shr true 15 (List.flatten (List.map T_Rec.ienc l))), (79, .v (.int .i64 (l.length : Int))), (11, .v (.int .i64 (l.length : Int)))]) (init := [0, 1, 2, 3]) (fin := [1, 6]) (sps := [⟨[0], [], [4], [(.slot 78)]⟩, ⟨[4], [], [5], [(.slot 79)]⟩, ⟨[5], [2], [6], [(.slot 11)]⟩]) (es' := [(_, _), (11, .v (.int .i64 (l.length : Int)))]) (by kernel_rfl) rfl rfl
          ⟨st_plain rfl (op_move _ _ _ _ rfl rfl),
          st_plain rfl (op_len_fr _ _ _ Try.underlying31 rfl (by decide) (gflat_len T_Rec.ilen _)),
          st_plain rfl (LOp.drop [_] (op_assign _ _ _ _ rfl rfl)),
          trivial⟩ ?_
         exact hl225 _ (Option.some.inj h).symm
        ·have h := cond_f hb227 h
         refine ht_skip ?_
         refine pt_pick [1, 2] (by kernel_rfl) (es' := [(_, _), (_, _)]) rfl ?_
         exact hl225 _ (Option.some.inj h).symm
      ·rintro u177 hl178 hr179 ⟨s118, s119, s120, s121, s122, s123, s124, s125, s126, s127, s128⟩ rr182 h ho180
       refine ht_seq ?_
       refine ht_seq ?_
       refine ht_seqR hn (El := [_, _, _, _, _, _, (28, .v (.int .i64 s128)), (29, .fr .shr true 15 (List.flatten (List.map T_Rec.ienc l))), (30, .v (.int .i64 (l.length : Int))), (31, .v (.bool ((decide (s128 < (l.length : Int))))))]) (init := [0, 1, 2, 3, 4, 5]) (fin := [0, 1, 2, 3, 4, 5, 9]) (sps := [⟨[5], [], [6], [(.slot 28)]⟩, ⟨[0], [], [7], [(.slot 29)]⟩, ⟨[7], [], [8], [(.slot 30)]⟩, ⟨[6, 8], [], [9], [(.slot 31)]⟩]) (es' := [(_, _), (_, _), (_, _), (_, _), (_, _), (_, _), (31, .v (.bool ((decide (s128 < (l.length : Int))))))]) (by kernel_rfl) rfl rfl
        ⟨st_plain rfl (op_move _ _ _ _ rfl rfl),
        st_plain rfl (op_move _ _ _ _ rfl rfl),
        st_plain rfl (op_len_fr _ _ _ Try.underlying31 rfl (by decide) (gflat_len T_Rec.ilen _)),
        st_plain rfl (op_bin _ _ _ _ _ rfl rfl rfl),
        trivial⟩ ?_
       refine pt_then ?_
       refine ht_cond _ rfl (fun hb183 => ?_) (fun hb183 => ?_)
       ·have h := cond_t hb183 h
        refine ht_skip ?_
        refine pt_then ?_
        refine ht_seq ?_
        refine ht_block ?_
        refine ht_seq ?_
        refine ht_seq ?_
        obtain ⟨v15, hv15, h⟩ := bind_some h
        obtain ⟨v16, hv16, h⟩ := bind_some h
        obtain ⟨v17, hv17, h⟩ := bind_some h
        refine ht_seqR hn (El := (_ :: _ :: _ :: _ :: _ :: _ :: _ :: (34, .ptr 7 0) :: (35, .fr .shr true 15 (List.flatten (List.map T_Rec.ienc l))) :: (36, .v (.int .i64 s128)) :: (37, .eref (.slot 35) (v15 * 15)) :: (38, .agg [.v (.int .i64 v16.Kind), .v (.bool v16.Mail.From.Null), .v (.string v16.Mail.From.Local), .v (.string v16.Mail.From.Domain), .fl .shr 3 (List.flatten (List.map T_Path.enc v16.Mail.To)), .fl .shr 1 (List.map (Value.int .u8) v16.Mail.Body), .v (.bool v16.Mail.Quiet), .v (.string v16.Mail.Helo), .v (.int .i64 v16.Mail.At), .v (.int .i64 v16.Id), .fl .shr 1 (List.map (Value.int .i64) v16.Ids), .v (.int .i64 v16.Origin), .v (.int .i64 v16.Number), .v (.int .i64 v16.Offset), .fl .shr 1 (List.map (Value.int .u8) v16.Data)]) :: (39, .v (.int .i64 v17.1)) :: (7, .box 64 [.v (.int .i64 v17.2.limit), .fr (.own 46) false 15 (List.flatten (List.map T_Rec.ienc v17.2.recs)), .v (.int .i64 v17.2.used), .v (.int .i64 v17.2.safe), .v (.int .i64 v17.2.kept), .v (.int .i64 v17.2.life), .v (.bool v17.2.off), .v (.int .i64 v17.2.trip), .v (.int .i64 v17.2.tripKeep)]) :: (40, .v (.bool (v17.1 != 0))) :: [])) (init := [0, 1, 2, 3, 4, 5, 6]) (fin := [0, 1, 13, 3, 4, 5, 14]) (sps := [⟨[2], [], [7], [(.slot 34)]⟩, ⟨[0], [], [8], [(.slot 35)]⟩, ⟨[5], [], [9], [(.slot 36)]⟩, ⟨[8, 9], [], [10], [(.slot 37)]⟩, ⟨[10, 8], [], [11], [(.slot 38)]⟩, ⟨[7, 11], [2], [13, 12], [(.slot 39), (.cell 7 0), (.cell 7 1), (.cell 7 2), (.cell 7 3), (.cell 7 4), (.cell 7 5), (.cell 7 6), (.cell 7 7), (.cell 7 8)]⟩, ⟨[12], [], [14], [(.slot 40)]⟩]) (es' := [(_, _), (_, _), (7, .box 64 [.v (.int .i64 v17.2.limit), .fr (.own 46) false 15 (List.flatten (List.map T_Rec.ienc v17.2.recs)), .v (.int .i64 v17.2.used), .v (.int .i64 v17.2.safe), .v (.int .i64 v17.2.kept), .v (.int .i64 v17.2.life), .v (.bool v17.2.off), .v (.int .i64 v17.2.trip), .v (.int .i64 v17.2.tripKeep)]), (_, _), (_, _), (_, _), (40, .v (.bool (v17.1 != 0)))]) (by kernel_rfl) rfl rfl
         ⟨st_plain rfl (op_move _ _ _ _ rfl rfl),
         st_plain rfl (op_move _ _ _ _ rfl rfl),
         st_plain rfl (op_move _ _ _ _ rfl rfl),
         st_plain rfl (op_ix_fr _ _ _ _ _ _ _ _ Try.underlying31 sz46 (by decide) rfl rfl rfl (ix_ok hv15).1 (gflat_lt T_Rec.ilen (ix_ok hv15).2) rfl),
         st_plain rfl (op_loadA_fr _ _ _ _ _ _ _ _ Try.underlying46 rfl sz46 rfl rfl (gflat_get T_Rec.ilen hv16) (.cons (.v _) (.cons (.v _) (.cons (.v _) (.cons (.v _) (.cons (.fl _ _ rfl) (.cons (.fl _ _ rfl) (.cons (.v _) (.cons (.v _) (.cons (.v _) (.cons (.v _) (.cons (.fl _ _ rfl) (.cons (.v _) (.cons (.v _) (.cons (.v _) (.cons (.fl _ _ rfl) (.nil)))))))))))))))) rfl (by decide)),
         st_plain rfl (op_callP _ _ _ _ 39 15 [.tmp 34] [.tmp 38] _ _ _ rfl Try.call15 rfl rfl rfl (ok_diary_Diary_Put (T_diary_Diary.mk s118 s119 s120 s121 s122 s123 s124 s125 s126) ((T_Rec.mk v16.Kind ((T_Mail.mk (T_Path.mk v16.Mail.From.Null v16.Mail.From.Local v16.Mail.From.Domain) v16.Mail.To v16.Mail.Body v16.Mail.Quiet v16.Mail.Helo v16.Mail.At)) v16.Id v16.Ids v16.Origin v16.Number v16.Offset v16.Data)) _ hv17) (Nat.le_of_ble_eq_true rfl) rfl rfl rfl rfl rfl rfl rfl rfl),
         st_plain rfl (op_bin _ _ _ _ _ rfl rfl rfl),
         trivial⟩ ?_
        refine pt_then ?_
        refine ht_cond _ rfl (fun hb184 => ?_) (fun hb184 => ?_)
        ·have h := cond_t hb184 h
         refine ht_seq ?_
         obtain ⟨v19, hv19, h⟩ := bind_some h
         refine ht_seqR hn (El := [_, _, _, _, _, _, _, (41, .v (.bool v19)), (6, .v (.bool v19))]) (init := [0, 1, 2, 3, 4, 5, 6]) (fin := [8]) (sps := [⟨[], [], [7], [(.slot 41)]⟩, ⟨[7], [], [8], [(.slot 6)]⟩]) (es' := [(6, .v (.bool v19))]) (by kernel_rfl) rfl rfl
          ⟨st_plain rfl (op_call _ _ 12 _ _ rfl Try.call12 rfl (ok_wherrylaw18_wakes  _ hv19) rfl rfl),
          st_plain rfl (op_assign _ _ _ _ rfl rfl),
          trivial⟩ ?_
         refine pt_then ?_
         refine ht_ret ?_
         refine pt_r_then ?_
         refine pt_r_in ?_
         refine pt_r_then ?_
         refine pt_r_then ?_
         refine pt_r_in ?_
         refine pt_r_then ?_
         have h := hr179 _ (ho180 _ (Option.some.inj h).symm).symm
         obtain rfl := Option.some.inj h
         exact pt_ret hio rfl (.tmp _ _ .nil) rfl rfl
        ·have h := cond_f hb184 h
         refine ht_skip ?_
         refine pt_then ?_
         refine ht_seq ?_
         obtain ⟨v20, hv20, h⟩ := bind_some h
         refine ht_seqR hn (El := [_, _, _, _, _, _, _, (42, .ptr 7 0), (43, .v (.int .i64 keep)), (44, .tup []), (7, .box 64 [.v (.int .i64 v20.limit), .fr (.own 46) false 15 (List.flatten (List.map T_Rec.ienc v20.recs)), .v (.int .i64 v20.used), .v (.int .i64 v20.safe), .v (.int .i64 v20.kept), .v (.int .i64 v20.life), .v (.bool v20.off), .v (.int .i64 v20.trip), .v (.int .i64 v20.tripKeep)])]) (init := [0, 1, 2, 3, 4, 5, 6]) (fin := [0, 1, 10, 3, 4, 5]) (sps := [⟨[2], [], [7], [(.slot 42)]⟩, ⟨[1], [], [8], [(.slot 43)]⟩, ⟨[7, 8], [2], [10, 9], [(.slot 44), (.cell 7 0), (.cell 7 1), (.cell 7 2), (.cell 7 3), (.cell 7 4), (.cell 7 5), (.cell 7 6), (.cell 7 7), (.cell 7 8)]⟩]) (es' := [(_, _), (_, _), (7, .box 64 [.v (.int .i64 v20.limit), .fr (.own 46) false 15 (List.flatten (List.map T_Rec.ienc v20.recs)), .v (.int .i64 v20.used), .v (.int .i64 v20.safe), .v (.int .i64 v20.kept), .v (.int .i64 v20.life), .v (.bool v20.off), .v (.int .i64 v20.trip), .v (.int .i64 v20.tripKeep)]), (_, _), (_, _), (_, _)]) (by kernel_rfl) rfl rfl
          ⟨st_plain rfl (op_move _ _ _ _ rfl rfl),
          st_plain rfl (op_move _ _ _ _ rfl rfl),
          st_plain rfl (op_callP _ _ _ _ 44 21 [.tmp 42] [.tmp 43] _ _ _ rfl Try.call21 rfl rfl rfl (ok_diary_Diary_Crash v17.2 keep _ hv20) (Nat.le_of_ble_eq_true rfl) rfl rfl rfl rfl rfl rfl rfl rfl),
          trivial⟩ ?_
         refine pt_then ?_
         refine ht_seq ?_
         obtain ⟨v21, hv21, h⟩ := bind_some h
         refine ht_seqR hn (El := [_, _, _, _, _, _, (45, .ptr 7 0), (46, .v (.int .i64 keep)), (47, .tup []), (7, .box 64 [.v (.int .i64 v21.limit), .fr (.own 46) false 15 (List.flatten (List.map T_Rec.ienc v21.recs)), .v (.int .i64 v21.used), .v (.int .i64 v21.safe), .v (.int .i64 v21.kept), .v (.int .i64 v21.life), .v (.bool v21.off), .v (.int .i64 v21.trip), .v (.int .i64 v21.tripKeep)])]) (init := [0, 1, 2, 3, 4, 5]) (fin := [0, 1, 9, 3, 4, 5]) (sps := [⟨[2], [], [6], [(.slot 45)]⟩, ⟨[1], [], [7], [(.slot 46)]⟩, ⟨[6, 7], [2], [9, 8], [(.slot 47), (.cell 7 0), (.cell 7 1), (.cell 7 2), (.cell 7 3), (.cell 7 4), (.cell 7 5), (.cell 7 6), (.cell 7 7), (.cell 7 8)]⟩]) (es' := [(_, _), (_, _), (7, .box 64 [.v (.int .i64 v21.limit), .fr (.own 46) false 15 (List.flatten (List.map T_Rec.ienc v21.recs)), .v (.int .i64 v21.used), .v (.int .i64 v21.safe), .v (.int .i64 v21.kept), .v (.int .i64 v21.life), .v (.bool v21.off), .v (.int .i64 v21.trip), .v (.int .i64 v21.tripKeep)]), (_, _), (_, _), (_, _)]) (by kernel_rfl) rfl rfl
          ⟨st_plain rfl (op_move _ _ _ _ rfl rfl),
          st_plain rfl (op_move _ _ _ _ rfl rfl),
          st_plain rfl (op_callP _ _ _ _ 47 21 [.tmp 45] [.tmp 46] _ _ _ rfl Try.call21 rfl rfl rfl (ok_diary_Diary_Crash v20 keep _ hv21) (Nat.le_of_ble_eq_true rfl) rfl rfl rfl rfl rfl rfl rfl rfl),
          trivial⟩ ?_
         refine pt_then ?_
         refine ht_seq ?_
         obtain ⟨v22, hv22, h⟩ := bind_some h
         refine ht_seqR hn (El := [_, _, _, _, _, _, (48, .ptr 7 0), (49, .tup []), (7, .box 64 [.v (.int .i64 v22.limit), .fr (.own 46) false 15 (List.flatten (List.map T_Rec.ienc v22.recs)), .v (.int .i64 v22.used), .v (.int .i64 v22.safe), .v (.int .i64 v22.kept), .v (.int .i64 v22.life), .v (.bool v22.off), .v (.int .i64 v22.trip), .v (.int .i64 v22.tripKeep)])]) (init := [0, 1, 2, 3, 4, 5]) (fin := [0, 1, 8, 3, 4, 5]) (sps := [⟨[2], [], [6], [(.slot 48)]⟩, ⟨[6], [2], [8, 7], [(.slot 49), (.cell 7 0), (.cell 7 1), (.cell 7 2), (.cell 7 3), (.cell 7 4), (.cell 7 5), (.cell 7 6), (.cell 7 7), (.cell 7 8)]⟩]) (es' := [(_, _), (_, _), (7, .box 64 [.v (.int .i64 v22.limit), .fr (.own 46) false 15 (List.flatten (List.map T_Rec.ienc v22.recs)), .v (.int .i64 v22.used), .v (.int .i64 v22.safe), .v (.int .i64 v22.kept), .v (.int .i64 v22.life), .v (.bool v22.off), .v (.int .i64 v22.trip), .v (.int .i64 v22.tripKeep)]), (_, _), (_, _), (_, _)]) (by kernel_rfl) rfl rfl
          ⟨st_plain rfl (op_move _ _ _ _ rfl rfl),
          st_plain rfl (op_callP _ _ _ _ 49 25 [.tmp 48] [] _ _ _ rfl Try.call25 rfl rfl rfl (ok_diary_Diary_Start v21 _ hv22) (Nat.le_of_ble_eq_true rfl) rfl rfl rfl rfl rfl rfl rfl rfl),
          trivial⟩ ?_
         refine pt_then ?_
         refine ht_seq ?_
         refine ht_joinS h (fun (s186 : Int) => [(0, .fr .shr true 15 (List.flatten (List.map T_Rec.ienc l))), (1, .v (.int .i64 keep)), (7, .box 64 [.v (.int .i64 v22.limit), .fr (.own 46) false 15 (List.flatten (List.map T_Rec.ienc v22.recs)), .v (.int .i64 v22.used), .v (.int .i64 v22.safe), .v (.int .i64 v22.kept), .v (.int .i64 v22.life), .v (.bool v22.off), .v (.int .i64 v22.trip), .v (.int .i64 v22.tripKeep)]), (2, .v (.int .i64 v13)), (10, .v (.int .i64 s128)), (9, .v (.int .i64 s186))]) ?_ ?_
         ·rintro s186 h
          refine pt_then ?_
          refine ht_seq ?_
          refine ht_joinS h (fun ((s193, s194, s195, s196, s197, s198, s199, s200, s201, s202) : Int × (List T_Rec) × Int × Int × Int × Int × Bool × Int × Int × Int) => [(0, .fr .shr true 15 (List.flatten (List.map T_Rec.ienc l))), (1, .v (.int .i64 keep)), (7, .box 64 [.v (.int .i64 s193), .fr (.own 46) false 15 (List.flatten (List.map T_Rec.ienc s194)), .v (.int .i64 s195), .v (.int .i64 s196), .v (.int .i64 s197), .v (.int .i64 s198), .v (.bool s199), .v (.int .i64 s200), .v (.int .i64 s201)]), (2, .v (.int .i64 v13)), (10, .v (.int .i64 s128)), (9, .v (.int .i64 s202))]) ?_ ?_
          ·rintro ⟨s193, s194, s195, s196, s197, s198, s199, s200, s201, s202⟩ h
           refine pt_then ?_
           refine ht_seq ?_
           refine ht_joinS h (fun ((s208, s209, s210, s211, s212, s213, s214, s215, s216, s217) : Int × (List T_Rec) × Int × Int × Int × Int × Bool × Int × Int × Bool) => [(0, .fr .shr true 15 (List.flatten (List.map T_Rec.ienc l))), (1, .v (.int .i64 keep)), (7, .box 64 [.v (.int .i64 s208), .fr (.own 46) false 15 (List.flatten (List.map T_Rec.ienc s209)), .v (.int .i64 s210), .v (.int .i64 s211), .v (.int .i64 s212), .v (.int .i64 s213), .v (.bool s214), .v (.int .i64 s215), .v (.int .i64 s216)]), (2, .v (.int .i64 v13)), (10, .v (.int .i64 s128)), (9, .v (.int .i64 s202)), (75, .v (.bool s217))]) ?_ ?_
           ·rintro ⟨s208, s209, s210, s211, s212, s213, s214, s215, s216, s217⟩ h
            refine pt_then ?_
            refine ht_cond _ rfl (fun hb221 => ?_) (fun hb221 => ?_)
            ·have h := cond_t hb221 h
             refine ht_seq ?_
             refine ht_seqR hn (El := [_, _, _, _, _, _, _, (6, .v (.bool false))]) (init := [0, 1, 2, 3, 4, 5, 6]) (fin := [7]) (sps := [⟨[], [], [7], [(.slot 6)]⟩]) (es' := [(6, .v (.bool false))]) (by kernel_rfl) rfl rfl
              ⟨st_plain rfl (op_assign _ _ _ _ rfl rfl),
              trivial⟩ ?_
             refine pt_then ?_
             refine ht_ret ?_
             refine pt_r_in ?_
             refine pt_r_then ?_
             refine pt_r_then ?_
             refine pt_r_in ?_
             refine pt_r_then ?_
             have h := hr179 _ (ho180 _ (Option.some.inj h).symm).symm
             obtain rfl := Option.some.inj h
             exact pt_ret hio rfl (.tmp _ _ .nil) rfl rfl
            ·have h := cond_f hb221 h
             refine ht_skip ?_
             refine pt_inb ?_
             refine pt_then ?_
             obtain ⟨v67, hv67, h⟩ := bind_some h
             refine ht_seqR hn (El := [_, _, _, _, _, _, _, (32, .v (.int .i64 s128)), (33, .v (.int .i64 v67)), (10, .v (.int .i64 v67))]) (init := [0, 1, 2, 3, 4, 5, 6]) (fin := [0, 1, 2, 3, 5, 9]) (sps := [⟨[4], [], [7], [(.slot 32)]⟩, ⟨[7], [], [8], [(.slot 33)]⟩, ⟨[8], [4], [9], [(.slot 10)]⟩]) (es' := [(_, _), (_, _), (_, _), (_, _), (_, _), (10, .v (.int .i64 v67))]) (by kernel_rfl) rfl rfl
              ⟨st_plain rfl (op_move _ _ _ _ rfl rfl),
              st_plain rfl (op_bin _ _ _ _ _ rfl rfl (ibind (f := Value.int .i64) (Option.some.inj hv67))),
              st_plain rfl (LOp.drop [_] (op_assign _ _ _ _ rfl rfl)),
              trivial⟩ ?_
             exact pt_next _ (Option.some.inj h).symm rfl
           ·intro u218 h hl219 hr220
            obtain ⟨v49, hv49, h⟩ := bind_some h
            obtain ⟨v50, hv50, h⟩ := bind_some h
            refine cond_some h (fun hg22_5 h => ?_) (fun hg22_5 h => ?_)
            ·refine ht_seqR hn (El := (_ :: _ :: _ :: _ :: _ :: _ :: (61, .ptr 7 0) :: (62, .v (.int .i64 v49.1)) :: (7, .box 64 [.v (.int .i64 v49.2.limit), .fr (.own 46) false 15 (List.flatten (List.map T_Rec.ienc v49.2.recs)), .v (.int .i64 v49.2.used), .v (.int .i64 v49.2.safe), .v (.int .i64 v49.2.kept), .v (.int .i64 v49.2.life), .v (.bool v49.2.off), .v (.int .i64 v49.2.trip), .v (.int .i64 v49.2.tripKeep)]) :: (63, .v (.int .i64 s128)) :: (64, .v (.int .i64 v50)) :: (65, .v (.bool (v49.1 != v50))) :: (66, .v (.bool true)) :: (67, .v undef) :: (68, .v undef) :: (69, .v undef) :: (70, .v undef) :: (71, .v (.bool true)) :: (72, .v (.bool true)) :: (73, .v undef) :: (74, .v undef) :: (75, .v (.bool true)) :: [])) (init := [0, 1, 2, 3, 4, 5]) (fin := [0, 1, 8, 3, 4, 5, 21]) (sps := (⟨[2], [], [6], [(.slot 61)]⟩ :: ⟨[6], [2], [8, 7], [(.slot 62), (.cell 7 0), (.cell 7 1), (.cell 7 2), (.cell 7 3), (.cell 7 4), (.cell 7 5), (.cell 7 6), (.cell 7 7), (.cell 7 8)]⟩ :: ⟨[4], [], [9], [(.slot 63)]⟩ :: ⟨[9], [], [10], [(.slot 64)]⟩ :: ⟨[7, 10], [], [11], [(.slot 65)]⟩ :: ⟨[11], [], [12], [(.slot 66)]⟩ :: ⟨[12], [], [13], [(.slot 67)]⟩ :: ⟨[12], [], [14], [(.slot 68)]⟩ :: ⟨[12], [], [15], [(.slot 69)]⟩ :: ⟨[12], [], [16], [(.slot 70)]⟩ :: ⟨[12], [], [17], [(.slot 71)]⟩ :: ⟨[17], [], [18], [(.slot 72)]⟩ :: ⟨[18], [], [19], [(.slot 73)]⟩ :: ⟨[18], [], [20], [(.slot 74)]⟩ :: ⟨[18], [], [21], [(.slot 75)]⟩ :: [])) (es' := [(_, _), (_, _), (7, .box 64 [.v (.int .i64 v49.2.limit), .fr (.own 46) false 15 (List.flatten (List.map T_Rec.ienc v49.2.recs)), .v (.int .i64 v49.2.used), .v (.int .i64 v49.2.safe), .v (.int .i64 v49.2.kept), .v (.int .i64 v49.2.life), .v (.bool v49.2.off), .v (.int .i64 v49.2.trip), .v (.int .i64 v49.2.tripKeep)]), (_, _), (_, _), (_, _), (75, .v (.bool true))]) (by kernel_rfl) rfl rfl
              ⟨st_plain rfl (op_move _ _ _ _ rfl rfl),
              st_plain rfl (op_callP _ _ _ _ 62 36 [.tmp 61] [] _ _ _ rfl Try.call36 rfl rfl rfl (ok_diary_Diary_Life (T_diary_Diary.mk s193 s194 s195 s196 s197 s198 s199 s200 s201) _ hv49) (Nat.le_of_ble_eq_true rfl) rfl rfl rfl rfl rfl rfl rfl rfl),
              st_plain rfl (op_move _ _ _ _ rfl rfl),
              st_plain rfl (op_bin _ _ _ _ _ rfl rfl (ibind (f := Value.int .i64) (Option.some.inj hv50))),
              st_plain rfl (op_bin _ _ _ _ _ rfl rfl rfl),
              st_plain rfl (op_move _ _ _ _ (congrArg (fun b => AV.v (Value.bool b)) hg22_5) rfl),
              st_skip 5 66 _ false rfl rfl rfl rfl (List.Mem.head _),
              st_skip 5 66 _ false rfl rfl rfl rfl (List.Mem.head _),
              st_skip 5 66 _ false rfl rfl rfl rfl (List.Mem.head _),
              st_skip 5 66 _ false rfl rfl rfl rfl (List.Mem.head _),
              st_plain rfl (op_pick _ _ true _ rfl rfl),
              st_plain rfl (op_move _ _ _ _ rfl rfl),
              st_skip 11 72 _ false rfl rfl rfl rfl (List.Mem.head _),
              st_skip 11 72 _ false rfl rfl rfl rfl (List.Mem.head _),
              st_plain rfl (op_pick _ _ true _ rfl rfl),
              trivial⟩ ?_
             exact hl219 _ (Option.some.inj h).symm
            ·obtain ⟨v51, hv51, h⟩ := bind_some h
             refine cond_some h (fun hg22_11 h => ?_) (fun hg22_11 h => ?_)
             ·refine ht_seqR hn (El := (_ :: _ :: _ :: _ :: _ :: _ :: (61, .ptr 7 0) :: (62, .v (.int .i64 v49.1)) :: (7, .box 64 [.v (.int .i64 v49.2.limit), .fr (.own 46) false 15 (List.flatten (List.map T_Rec.ienc v49.2.recs)), .v (.int .i64 v49.2.used), .v (.int .i64 v49.2.safe), .v (.int .i64 v49.2.kept), .v (.int .i64 v49.2.life), .v (.bool v49.2.off), .v (.int .i64 v49.2.trip), .v (.int .i64 v49.2.tripKeep)]) :: (63, .v (.int .i64 s128)) :: (64, .v (.int .i64 v50)) :: (65, .v (.bool (v49.1 != v50))) :: (66, .v (.bool false)) :: (67, .ptr 7 0) :: (68, .v (.int .i64 v51.1)) :: (7, .box 64 [.v (.int .i64 v51.2.limit), .fr (.own 46) false 15 (List.flatten (List.map T_Rec.ienc v51.2.recs)), .v (.int .i64 v51.2.used), .v (.int .i64 v51.2.safe), .v (.int .i64 v51.2.kept), .v (.int .i64 v51.2.life), .v (.bool v51.2.off), .v (.int .i64 v51.2.trip), .v (.int .i64 v51.2.tripKeep)]) :: (69, .v (.int .i64 s202)) :: (70, .v (.bool (v51.1 != s202))) :: (71, .v (.bool (v51.1 != s202))) :: (72, .v (.bool true)) :: (73, .v undef) :: (74, .v undef) :: (75, .v (.bool true)) :: [])) (init := [0, 1, 2, 3, 4, 5]) (fin := [0, 1, 15, 3, 4, 5, 22]) (sps := (⟨[2], [], [6], [(.slot 61)]⟩ :: ⟨[6], [2], [8, 7], [(.slot 62), (.cell 7 0), (.cell 7 1), (.cell 7 2), (.cell 7 3), (.cell 7 4), (.cell 7 5), (.cell 7 6), (.cell 7 7), (.cell 7 8)]⟩ :: ⟨[4], [], [9], [(.slot 63)]⟩ :: ⟨[9], [], [10], [(.slot 64)]⟩ :: ⟨[7, 10], [], [11], [(.slot 65)]⟩ :: ⟨[11], [], [12], [(.slot 66)]⟩ :: ⟨[12, 8], [], [13], [(.slot 67)]⟩ :: ⟨[12, 13], [8], [15, 14], [(.slot 68), (.cell 7 0), (.cell 7 1), (.cell 7 2), (.cell 7 3), (.cell 7 4), (.cell 7 5), (.cell 7 6), (.cell 7 7), (.cell 7 8)]⟩ :: ⟨[12, 5], [], [16], [(.slot 69)]⟩ :: ⟨[12, 14, 16], [], [17], [(.slot 70)]⟩ :: ⟨[12, 17], [], [18], [(.slot 71)]⟩ :: ⟨[18], [], [19], [(.slot 72)]⟩ :: ⟨[19], [], [20], [(.slot 73)]⟩ :: ⟨[19], [], [21], [(.slot 74)]⟩ :: ⟨[19], [], [22], [(.slot 75)]⟩ :: [])) (es' := [(_, _), (_, _), (7, .box 64 [.v (.int .i64 v51.2.limit), .fr (.own 46) false 15 (List.flatten (List.map T_Rec.ienc v51.2.recs)), .v (.int .i64 v51.2.used), .v (.int .i64 v51.2.safe), .v (.int .i64 v51.2.kept), .v (.int .i64 v51.2.life), .v (.bool v51.2.off), .v (.int .i64 v51.2.trip), .v (.int .i64 v51.2.tripKeep)]), (_, _), (_, _), (_, _), (75, .v (.bool true))]) (by kernel_rfl) rfl rfl
               ⟨st_plain rfl (op_move _ _ _ _ rfl rfl),
               st_plain rfl (op_callP _ _ _ _ 62 36 [.tmp 61] [] _ _ _ rfl Try.call36 rfl rfl rfl (ok_diary_Diary_Life (T_diary_Diary.mk s193 s194 s195 s196 s197 s198 s199 s200 s201) _ hv49) (Nat.le_of_ble_eq_true rfl) rfl rfl rfl rfl rfl rfl rfl rfl),
               st_plain rfl (op_move _ _ _ _ rfl rfl),
               st_plain rfl (op_bin _ _ _ _ _ rfl rfl (ibind (f := Value.int .i64) (Option.some.inj hv50))),
               st_plain rfl (op_bin _ _ _ _ _ rfl rfl rfl),
               st_plain rfl (op_move _ _ _ _ (congrArg (fun b => AV.v (Value.bool b)) hg22_5) rfl),
               st_run 5 66 false rfl rfl rfl (List.Mem.head _) (op_move _ _ _ _ rfl rfl),
               st_run 5 66 false rfl rfl rfl (List.Mem.head _) (op_callP _ _ _ _ 68 32 [.tmp 67] [] _ _ _ rfl Try.call32 rfl rfl rfl (ok_diary_Diary_Kept v49.2 _ hv51) (Nat.le_of_ble_eq_true rfl) rfl rfl rfl rfl rfl rfl rfl rfl),
               st_run 5 66 false rfl rfl rfl (List.Mem.head _) (op_move _ _ _ _ rfl rfl),
               st_run 5 66 false rfl rfl rfl (List.Mem.head _) (op_bin _ _ _ _ _ rfl rfl rfl),
               st_plain rfl (op_pick _ _ false _ rfl rfl),
               st_plain rfl (op_move _ _ _ _ (congrArg (fun b => AV.v (Value.bool b)) hg22_11) rfl),
               st_skip 11 72 _ false rfl rfl rfl rfl (List.Mem.head _),
               st_skip 11 72 _ false rfl rfl rfl rfl (List.Mem.head _),
               st_plain rfl (op_pick _ _ true _ rfl rfl),
               trivial⟩ ?_
              exact hl219 _ (Option.some.inj h).symm
             ·obtain ⟨v52, hv52, h⟩ := bind_some h
              refine ht_seqR hn (El := (_ :: _ :: _ :: _ :: _ :: _ :: (61, .ptr 7 0) :: (62, .v (.int .i64 v49.1)) :: (7, .box 64 [.v (.int .i64 v49.2.limit), .fr (.own 46) false 15 (List.flatten (List.map T_Rec.ienc v49.2.recs)), .v (.int .i64 v49.2.used), .v (.int .i64 v49.2.safe), .v (.int .i64 v49.2.kept), .v (.int .i64 v49.2.life), .v (.bool v49.2.off), .v (.int .i64 v49.2.trip), .v (.int .i64 v49.2.tripKeep)]) :: (63, .v (.int .i64 s128)) :: (64, .v (.int .i64 v50)) :: (65, .v (.bool (v49.1 != v50))) :: (66, .v (.bool false)) :: (67, .ptr 7 0) :: (68, .v (.int .i64 v51.1)) :: (7, .box 64 [.v (.int .i64 v51.2.limit), .fr (.own 46) false 15 (List.flatten (List.map T_Rec.ienc v51.2.recs)), .v (.int .i64 v51.2.used), .v (.int .i64 v51.2.safe), .v (.int .i64 v51.2.kept), .v (.int .i64 v51.2.life), .v (.bool v51.2.off), .v (.int .i64 v51.2.trip), .v (.int .i64 v51.2.tripKeep)]) :: (69, .v (.int .i64 s202)) :: (70, .v (.bool (v51.1 != s202))) :: (71, .v (.bool (v51.1 != s202))) :: (72, .v (.bool false)) :: (73, .ptr 7 0) :: (74, .v (.bool v52.1)) :: (7, .box 64 [.v (.int .i64 v52.2.limit), .fr (.own 46) false 15 (List.flatten (List.map T_Rec.ienc v52.2.recs)), .v (.int .i64 v52.2.used), .v (.int .i64 v52.2.safe), .v (.int .i64 v52.2.kept), .v (.int .i64 v52.2.life), .v (.bool v52.2.off), .v (.int .i64 v52.2.trip), .v (.int .i64 v52.2.tripKeep)]) :: (75, .v (.bool v52.1)) :: [])) (init := [0, 1, 2, 3, 4, 5]) (fin := [0, 1, 22, 3, 4, 5, 23]) (sps := (⟨[2], [], [6], [(.slot 61)]⟩ :: ⟨[6], [2], [8, 7], [(.slot 62), (.cell 7 0), (.cell 7 1), (.cell 7 2), (.cell 7 3), (.cell 7 4), (.cell 7 5), (.cell 7 6), (.cell 7 7), (.cell 7 8)]⟩ :: ⟨[4], [], [9], [(.slot 63)]⟩ :: ⟨[9], [], [10], [(.slot 64)]⟩ :: ⟨[7, 10], [], [11], [(.slot 65)]⟩ :: ⟨[11], [], [12], [(.slot 66)]⟩ :: ⟨[12, 8], [], [13], [(.slot 67)]⟩ :: ⟨[12, 13], [8], [15, 14], [(.slot 68), (.cell 7 0), (.cell 7 1), (.cell 7 2), (.cell 7 3), (.cell 7 4), (.cell 7 5), (.cell 7 6), (.cell 7 7), (.cell 7 8)]⟩ :: ⟨[12, 5], [], [16], [(.slot 69)]⟩ :: ⟨[12, 14, 16], [], [17], [(.slot 70)]⟩ :: ⟨[12, 17], [], [18], [(.slot 71)]⟩ :: ⟨[18], [], [19], [(.slot 72)]⟩ :: ⟨[19, 15], [], [20], [(.slot 73)]⟩ :: ⟨[19, 20], [15], [22, 21], [(.slot 74), (.cell 7 0), (.cell 7 1), (.cell 7 2), (.cell 7 3), (.cell 7 4), (.cell 7 5), (.cell 7 6), (.cell 7 7), (.cell 7 8)]⟩ :: ⟨[19, 21], [], [23], [(.slot 75)]⟩ :: [])) (es' := [(_, _), (_, _), (7, .box 64 [.v (.int .i64 v52.2.limit), .fr (.own 46) false 15 (List.flatten (List.map T_Rec.ienc v52.2.recs)), .v (.int .i64 v52.2.used), .v (.int .i64 v52.2.safe), .v (.int .i64 v52.2.kept), .v (.int .i64 v52.2.life), .v (.bool v52.2.off), .v (.int .i64 v52.2.trip), .v (.int .i64 v52.2.tripKeep)]), (_, _), (_, _), (_, _), (75, .v (.bool v52.1))]) (by kernel_rfl) rfl rfl
               ⟨st_plain rfl (op_move _ _ _ _ rfl rfl),
               st_plain rfl (op_callP _ _ _ _ 62 36 [.tmp 61] [] _ _ _ rfl Try.call36 rfl rfl rfl (ok_diary_Diary_Life (T_diary_Diary.mk s193 s194 s195 s196 s197 s198 s199 s200 s201) _ hv49) (Nat.le_of_ble_eq_true rfl) rfl rfl rfl rfl rfl rfl rfl rfl),
               st_plain rfl (op_move _ _ _ _ rfl rfl),
               st_plain rfl (op_bin _ _ _ _ _ rfl rfl (ibind (f := Value.int .i64) (Option.some.inj hv50))),
               st_plain rfl (op_bin _ _ _ _ _ rfl rfl rfl),
               st_plain rfl (op_move _ _ _ _ (congrArg (fun b => AV.v (Value.bool b)) hg22_5) rfl),
               st_run 5 66 false rfl rfl rfl (List.Mem.head _) (op_move _ _ _ _ rfl rfl),
               st_run 5 66 false rfl rfl rfl (List.Mem.head _) (op_callP _ _ _ _ 68 32 [.tmp 67] [] _ _ _ rfl Try.call32 rfl rfl rfl (ok_diary_Diary_Kept v49.2 _ hv51) (Nat.le_of_ble_eq_true rfl) rfl rfl rfl rfl rfl rfl rfl rfl),
               st_run 5 66 false rfl rfl rfl (List.Mem.head _) (op_move _ _ _ _ rfl rfl),
               st_run 5 66 false rfl rfl rfl (List.Mem.head _) (op_bin _ _ _ _ _ rfl rfl rfl),
               st_plain rfl (op_pick _ _ false _ rfl rfl),
               st_plain rfl (op_move _ _ _ _ (congrArg (fun b => AV.v (Value.bool b)) hg22_11) rfl),
               st_run 11 72 false rfl rfl rfl (List.Mem.head _) (op_move _ _ _ _ rfl rfl),
               st_run 11 72 false rfl rfl rfl (List.Mem.head _) (op_callP _ _ _ _ 74 37 [.tmp 73] [] _ _ _ rfl Try.call37 rfl rfl rfl (ok_diary_Diary_Off v51.2 _ hv52) (Nat.le_of_ble_eq_true rfl) rfl rfl rfl rfl rfl rfl rfl rfl),
               st_plain rfl (op_pick _ _ false _ rfl rfl),
               trivial⟩ ?_
              exact hl219 _ (Option.some.inj h).symm
          ·intro u203 h hl204 hr205
           refine ht_seq ?_
           obtain ⟨v30, hv30, h⟩ := bind_some h
           refine ht_seqR hn (El := [_, _, _, _, _, _, (54, .v (.int .i64 s128)), (55, .v (.int .i64 v30)), (56, .v (.int .i64 v13)), (57, .v (.bool (v30 == v13)))]) (init := [0, 1, 2, 3, 4, 5]) (fin := [0, 1, 2, 3, 4, 5, 9]) (sps := [⟨[4], [], [6], [(.slot 54)]⟩, ⟨[6], [], [7], [(.slot 55)]⟩, ⟨[3], [], [8], [(.slot 56)]⟩, ⟨[7, 8], [], [9], [(.slot 57)]⟩]) (es' := [(_, _), (_, _), (_, _), (_, _), (_, _), (_, _), (57, .v (.bool (v30 == v13)))]) (by kernel_rfl) rfl rfl
            ⟨st_plain rfl (op_move _ _ _ _ rfl rfl),
            st_plain rfl (op_bin _ _ _ _ _ rfl rfl (rem_ok hv30)),
            st_plain rfl (op_move _ _ _ _ rfl rfl),
            st_plain rfl (op_bin _ _ _ _ _ rfl rfl rfl),
            trivial⟩ ?_
           refine pt_then ?_
           refine ht_cond _ rfl (fun hb206 => ?_) (fun hb206 => ?_)
           ·have h := cond_t hb206 h
            refine ht_seq ?_
            refine ht_seq ?_
            obtain ⟨v32, hv32, h⟩ := bind_some h
            refine ht_seqR hn (El := [_, _, _, _, _, _, _, (58, .ptr 7 0), (59, .v (.int .i64 v32.1)), (7, .box 64 [.v (.int .i64 v32.2.limit), .fr (.own 46) false 15 (List.flatten (List.map T_Rec.ienc v32.2.recs)), .v (.int .i64 v32.2.used), .v (.int .i64 v32.2.safe), .v (.int .i64 v32.2.kept), .v (.int .i64 v32.2.life), .v (.bool v32.2.off), .v (.int .i64 v32.2.trip), .v (.int .i64 v32.2.tripKeep)]), (60, .v (.bool (v32.1 != 0)))]) (init := [0, 1, 2, 3, 4, 5, 6]) (fin := [0, 1, 9, 3, 4, 10]) (sps := [⟨[2], [], [7], [(.slot 58)]⟩, ⟨[7], [2], [9, 8], [(.slot 59), (.cell 7 0), (.cell 7 1), (.cell 7 2), (.cell 7 3), (.cell 7 4), (.cell 7 5), (.cell 7 6), (.cell 7 7), (.cell 7 8)]⟩, ⟨[8], [], [10], [(.slot 60)]⟩]) (es' := [(_, _), (_, _), (7, .box 64 [.v (.int .i64 v32.2.limit), .fr (.own 46) false 15 (List.flatten (List.map T_Rec.ienc v32.2.recs)), .v (.int .i64 v32.2.used), .v (.int .i64 v32.2.safe), .v (.int .i64 v32.2.kept), .v (.int .i64 v32.2.life), .v (.bool v32.2.off), .v (.int .i64 v32.2.trip), .v (.int .i64 v32.2.tripKeep)]), (_, _), (_, _), (60, .v (.bool (v32.1 != 0)))]) (by kernel_rfl) rfl rfl
             ⟨st_plain rfl (op_move _ _ _ _ rfl rfl),
             st_plain rfl (op_callP _ _ _ _ 59 17 [.tmp 58] [] _ _ _ rfl Try.call17 rfl rfl rfl (ok_diary_Diary_Sync v22 _ hv32) (Nat.le_of_ble_eq_true rfl) rfl rfl rfl rfl rfl rfl rfl rfl),
             st_plain rfl (op_bin _ _ _ _ _ rfl rfl rfl),
             trivial⟩ ?_
            refine pt_then ?_
            refine ht_cond _ rfl (fun hb207 => ?_) (fun hb207 => ?_)
            ·have h := cond_t hb207 h
             refine ht_seq ?_
             refine ht_seqR hn (El := [_, _, _, _, _, _, (6, .v (.bool false))]) (init := [0, 1, 2, 3, 4, 5]) (fin := [6]) (sps := [⟨[], [], [6], [(.slot 6)]⟩]) (es' := [(6, .v (.bool false))]) (by kernel_rfl) rfl rfl
              ⟨st_plain rfl (op_assign _ _ _ _ rfl rfl),
              trivial⟩ ?_
             refine pt_then ?_
             refine ht_ret ?_
             refine pt_r_then ?_
             refine pt_r_then ?_
             refine pt_r_in ?_
             refine pt_r_then ?_
             refine pt_r_then ?_
             refine pt_r_in ?_
             refine pt_r_then ?_
             have h := hr205 _ (Option.some.inj h).symm
             have h := hr179 _ (ho180 _ (Option.some.inj h).symm).symm
             obtain rfl := Option.some.inj h
             exact pt_ret hio rfl (.tmp _ _ .nil) rfl rfl
            ·have h := cond_f hb207 h
             refine ht_skip ?_
             refine pt_then ?_
             refine ht_seqR hn (El := [_, _, _, _, _, _, (9, .v (.int .i64 0))]) (init := [0, 1, 2, 3, 4, 5]) (fin := [0, 1, 2, 3, 4, 6]) (sps := [⟨[], [], [6], [(.slot 9)]⟩]) (es' := [(_, _), (_, _), (_, _), (_, _), (_, _), (9, .v (.int .i64 0))]) (by kernel_rfl) rfl rfl
              ⟨st_plain rfl (op_assign _ _ _ _ rfl rfl),
              trivial⟩ ?_
             exact hl204 _ (Option.some.inj h).symm
           ·have h := cond_f hb206 h
            refine ht_skip ?_
            refine pt_pick [0, 1, 2, 3, 4, 5] (by kernel_rfl) (es' := [(_, _), (_, _), (_, _), (_, _), (_, _), (_, _)]) rfl ?_
            exact hl204 _ (Option.some.inj h).symm
         ·intro u187 h hl188 hr189
          refine ht_seq ?_
          refine ht_seqR hn (El := [_, _, _, _, _, _, (50, .v (.int .i64 keep)), (51, .v (.bool ((decide (0 < keep)))))]) (init := [0, 1, 2, 3, 4, 5]) (fin := [0, 1, 2, 3, 4, 5, 7]) (sps := [⟨[1], [], [6], [(.slot 50)]⟩, ⟨[6], [], [7], [(.slot 51)]⟩]) (es' := [(_, _), (_, _), (_, _), (_, _), (_, _), (_, _), (51, .v (.bool ((decide (0 < keep)))))]) (by kernel_rfl) rfl rfl
           ⟨st_plain rfl (op_move _ _ _ _ rfl rfl),
           st_plain rfl (op_bin _ _ _ _ _ rfl rfl rfl),
           trivial⟩ ?_
          refine pt_then ?_
          refine ht_cond _ rfl (fun hb190 => ?_) (fun hb190 => ?_)
          ·have h := cond_t hb190 h
           obtain ⟨v24, hv24, h⟩ := bind_some h
           refine ht_seqR hn (El := [_, _, _, _, _, _, _, (52, .v (.int .i64 s127)), (53, .v (.int .i64 v24)), (9, .v (.int .i64 v24))]) (init := [0, 1, 2, 3, 4, 5, 6]) (fin := [0, 1, 2, 3, 5, 9]) (sps := [⟨[4], [], [7], [(.slot 52)]⟩, ⟨[7], [], [8], [(.slot 53)]⟩, ⟨[8], [4], [9], [(.slot 9)]⟩]) (es' := [(_, _), (_, _), (_, _), (_, _), (_, _), (9, .v (.int .i64 v24))]) (by kernel_rfl) rfl rfl
            ⟨st_plain rfl (op_move _ _ _ _ rfl rfl),
            st_plain rfl (op_bin _ _ _ _ _ rfl rfl (ibind (f := Value.int .i64) (Option.some.inj hv24))),
            st_plain rfl (LOp.drop [_] (op_assign _ _ _ _ rfl rfl)),
            trivial⟩ ?_
           exact hl188 _ (Option.some.inj h).symm
          ·have h := cond_f hb190 h
           refine ht_skip ?_
           refine pt_pick [0, 1, 2, 3, 5, 4] (by kernel_rfl) (es' := [(_, _), (_, _), (_, _), (_, _), (_, _), (_, _)]) rfl ?_
           exact hl188 _ (Option.some.inj h).symm
       ·have h := cond_f hb183 h
        refine ht_exit ?_
        refine pt_x_then ?_
        refine pt_x_then ?_
        refine pt_x_in ?_
        refine pt_pick [0, 1, 2] (by kernel_rfl) (es' := [(_, _), (_, _), (_, _)]) rfl ?_
        exact hl178 _ (ho180 _ (Option.some.inj h).symm).symm
    ·intro u7 h hl8 hr9
     refine cond_some h (fun hg4_2 h => ?_) (fun hg4_2 h => ?_)
     ·refine ht_seqR hn (El := [_, _, _, _, _, (18, .v (.int .i64 v3.2)), (19, .v (.bool (v3.2 != 0))), (20, .v (.bool true)), (21, .v undef), (22, .v undef), (23, .v (.bool true))]) (init := [0, 1, 2, 3, 4]) (fin := [0, 1, 2, 3, 10]) (sps := [⟨[4], [], [5], [(.slot 18)]⟩, ⟨[5], [], [6], [(.slot 19)]⟩, ⟨[6], [], [7], [(.slot 20)]⟩, ⟨[7], [], [8], [(.slot 21)]⟩, ⟨[7], [], [9], [(.slot 22)]⟩, ⟨[7], [], [10], [(.slot 23)]⟩]) (es' := [(_, _), (_, _), (_, _), (_, _), (23, .v (.bool true))]) (by kernel_rfl) rfl rfl
       ⟨st_plain rfl (op_move _ _ _ _ rfl rfl),
       st_plain rfl (op_bin _ _ _ _ _ rfl rfl rfl),
       st_plain rfl (op_move _ _ _ _ (congrArg (fun b => AV.v (Value.bool b)) hg4_2) rfl),
       st_skip 2 20 _ false rfl rfl rfl rfl (List.Mem.head _),
       st_skip 2 20 _ false rfl rfl rfl rfl (List.Mem.head _),
       st_plain rfl (op_pick _ _ true _ rfl rfl),
       trivial⟩ ?_
      exact hl8 _ (Option.some.inj h).symm
     ·refine ht_seqR hn (El := [_, _, _, _, _, (18, .v (.int .i64 v3.2)), (19, .v (.bool (v3.2 != 0))), (20, .v (.bool false)), (21, .ptr 7 0), (22, .v (.bool false)), (23, .v (.bool false))]) (init := [0, 1, 2, 3, 4]) (fin := [0, 1, 2, 3, 10]) (sps := [⟨[4], [], [5], [(.slot 18)]⟩, ⟨[5], [], [6], [(.slot 19)]⟩, ⟨[6], [], [7], [(.slot 20)]⟩, ⟨[7, 3], [], [8], [(.slot 21)]⟩, ⟨[7, 8, 3], [], [9], [(.slot 22)]⟩, ⟨[7, 9], [], [10], [(.slot 23)]⟩]) (es' := [(_, _), (_, _), (_, _), (_, _), (23, .v (.bool false))]) (by kernel_rfl) rfl rfl
       ⟨st_plain rfl (op_move _ _ _ _ rfl rfl),
       st_plain rfl (op_bin _ _ _ _ _ rfl rfl rfl),
       st_plain rfl (op_move _ _ _ _ (congrArg (fun b => AV.v (Value.bool b)) hg4_2) rfl),
       st_run 2 20 false rfl rfl rfl (List.Mem.head _) (op_move _ _ _ _ rfl rfl),
       st_run 2 20 false rfl rfl rfl (List.Mem.head _) (op_pnil _ _ false (by kernel_rfl) rfl rfl),
       st_plain rfl (op_pick _ _ false _ rfl rfl),
       trivial⟩ ?_
      exact hl8 _ (Option.some.inj h).symm
   ·refine pt_then ?_
    refine ht_seq ?_
    refine ht_seq ?_
    refine ht_joinS h (fun (() : Unit) => [(0, .fr .shr true 15 (List.flatten (List.map T_Rec.ienc l))), (1, .v (.int .i64 keep)), (2, .v (.int .i64 n)), (7, .v (.pointer none)), (23, .v (.bool true))]) ?_ ?_
    ·rintro ⟨⟩ h
     refine pt_then ?_
     refine ht_cond true rfl (fun _ => ?_) (fun hb => by cases hb)
     refine ht_seq ?_
     refine ht_seqR hn (El := [_, _, _, _, _, (6, .v (.bool false))]) (init := [0, 1, 2, 3, 4]) (fin := [5]) (sps := [⟨[], [], [5], [(.slot 6)]⟩]) (es' := [(6, .v (.bool false))]) (by kernel_rfl) rfl rfl
      ⟨st_plain rfl (op_assign _ _ _ _ rfl rfl),
      trivial⟩ ?_
     refine pt_then ?_
     refine ht_ret ?_
     refine pt_r_then ?_
     obtain rfl := Option.some.inj h
     exact pt_ret hio rfl (.tmp _ _ .nil) rfl rfl
    ·intro u235 h hl236 hr237
     refine cond_some h (fun hg4_2 h => ?_) (fun hg4_2 h => ?_)
     ·refine ht_seqR hn (El := [_, _, _, _, _, (18, .v (.int .i64 v3.2)), (19, .v (.bool (v3.2 != 0))), (20, .v (.bool true)), (21, .v undef), (22, .v undef), (23, .v (.bool true))]) (init := [0, 1, 2, 3, 4]) (fin := [0, 1, 2, 3, 10]) (sps := [⟨[4], [], [5], [(.slot 18)]⟩, ⟨[5], [], [6], [(.slot 19)]⟩, ⟨[6], [], [7], [(.slot 20)]⟩, ⟨[7], [], [8], [(.slot 21)]⟩, ⟨[7], [], [9], [(.slot 22)]⟩, ⟨[7], [], [10], [(.slot 23)]⟩]) (es' := [(_, _), (_, _), (_, _), (_, _), (23, .v (.bool true))]) (by kernel_rfl) rfl rfl
       ⟨st_plain rfl (op_move _ _ _ _ rfl rfl),
       st_plain rfl (op_bin _ _ _ _ _ rfl rfl rfl),
       st_plain rfl (op_move _ _ _ _ (congrArg (fun b => AV.v (Value.bool b)) hg4_2) rfl),
       st_skip 2 20 _ false rfl rfl rfl rfl (List.Mem.head _),
       st_skip 2 20 _ false rfl rfl rfl rfl (List.Mem.head _),
       st_plain rfl (op_pick _ _ true _ rfl rfl),
       trivial⟩ ?_
      exact hl236 _ (Option.some.inj h).symm
     ·refine ht_seqR hn (El := [_, _, _, _, _, (18, .v (.int .i64 v3.2)), (19, .v (.bool (v3.2 != 0))), (20, .v (.bool false)), (21, .v (.pointer none)), (22, .v (.bool true)), (23, .v (.bool true))]) (init := [0, 1, 2, 3, 4]) (fin := [0, 1, 2, 3, 10]) (sps := [⟨[4], [], [5], [(.slot 18)]⟩, ⟨[5], [], [6], [(.slot 19)]⟩, ⟨[6], [], [7], [(.slot 20)]⟩, ⟨[7, 3], [], [8], [(.slot 21)]⟩, ⟨[7, 8], [], [9], [(.slot 22)]⟩, ⟨[7, 9], [], [10], [(.slot 23)]⟩]) (es' := [(_, _), (_, _), (_, _), (_, _), (23, .v (.bool true))]) (by kernel_rfl) rfl rfl
       ⟨st_plain rfl (op_move _ _ _ _ rfl rfl),
       st_plain rfl (op_bin _ _ _ _ _ rfl rfl rfl),
       st_plain rfl (op_move _ _ _ _ (congrArg (fun b => AV.v (Value.bool b)) hg4_2) rfl),
       st_run 2 20 false rfl rfl rfl (List.Mem.head _) (op_move _ _ _ _ rfl rfl),
       st_run 2 20 false rfl rfl rfl (List.Mem.head _) (op_nilnil _ _ false (by kernel_rfl) rfl rfl),
       st_plain rfl (op_pick _ _ false _ rfl rfl),
       trivial⟩ ?_
      exact hl236 _ (Option.some.inj h).symm

end Go.Proofs.Ytbioodcjmceefaa
