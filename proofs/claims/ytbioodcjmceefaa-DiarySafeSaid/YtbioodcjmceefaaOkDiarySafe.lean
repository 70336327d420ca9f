/-
  The model's runs are what is told in Lean.
-/
import Derived.Test.YtbioodcjmceefaaProg
import Derived.KernelRfl
import Derived.Test.YtbioodcjmceefaaOkc3
set_option linter.unusedVariables false
set_option linter.unusedSimpArgs false
namespace Go.Proofs.Ytbioodcjmceefaa
open Go.Abs Go.Abs.Sh

set_option maxHeartbeats 1000000 in
theorem ok_wherrylaw18_DiarySafe (l : (List T_Rec)) (more : (List T_Rec)) (keep : Int) (r : Bool) (h : Sh.wherrylaw18_DiarySafe l more keep = some r) : FnOK Try.prog 4 [.fr .shr true 15 (List.flatten (List.map T_Rec.ienc l)), .fr .shr true 15 (List.flatten (List.map T_Rec.ienc more)), .v (.int .i64 keep)] (.v (.bool r)) := by
  unfold Sh.wherrylaw18_DiarySafe at h
  refine fn_ok Try.func4 rfl (Nat.le_of_ble_eq_true rfl) rfl rfl fun g0 hn hio => ?_
  refine ht_seq ?_
  refine ht_seqR hn (El := [_, _, _, (6, .v (.bool false))]) (init := [0, 1, 2]) (fin := [0, 1, 2]) (sps := [⟨[], [], [3], [(.slot 6)]⟩]) (es' := [(_, _), (_, _), (_, _)]) (by kernel_rfl) rfl rfl
   ⟨st_plain rfl (op_assign _ _ _ _ rfl rfl),
   trivial⟩ ?_
  refine pt_then ?_
  refine ht_seq ?_
  refine ht_seq ?_
  refine ht_joinS h (fun (s3 : Bool) => [(0, .fr .shr true 15 (List.flatten (List.map T_Rec.ienc l))), (1, .fr .shr true 15 (List.flatten (List.map T_Rec.ienc more))), (2, .v (.int .i64 keep)), (22, .v (.bool s3))]) ?_ ?_
  ·rintro s3 h
   refine pt_then ?_
   refine ht_cond _ rfl (fun hb7 => ?_) (fun hb7 => ?_)
   ·have h := cond_t hb7 h
    refine ht_seq ?_
    refine ht_seqR hn (El := [_, _, _, _, (6, .v (.bool true))]) (init := [0, 1, 2, 3]) (fin := [4]) (sps := [⟨[], [], [4], [(.slot 6)]⟩]) (es' := [(6, .v (.bool true))]) (by kernel_rfl) rfl rfl
     ⟨st_plain rfl (op_assign _ _ _ _ rfl rfl),
     trivial⟩ ?_
    refine pt_then ?_
    refine ht_ret ?_
    refine pt_r_then ?_
    obtain rfl := Option.some.inj h
    exact pt_ret hio rfl (.tmp _ _ .nil) rfl rfl
   ·have h := cond_f hb7 h
    refine ht_skip ?_
    refine pt_then ?_
    refine ht_seq ?_
    obtain ⟨v8, hv8, h⟩ := bind_some h
    refine ht_seqR hn (El := [_, _, _, _, (24, .tup [.obox (Option.isSome v8.1) 64 [.v (.int .i64 (((Option.getD v8.1 (default : T_diary_Diary))).limit)), .fr (.own 46) false 15 (List.flatten (List.map T_Rec.ienc (((Option.getD v8.1 (default : T_diary_Diary))).recs))), .v (.int .i64 (((Option.getD v8.1 (default : T_diary_Diary))).used)), .v (.int .i64 (((Option.getD v8.1 (default : T_diary_Diary))).safe)), .v (.int .i64 (((Option.getD v8.1 (default : T_diary_Diary))).kept)), .v (.int .i64 (((Option.getD v8.1 (default : T_diary_Diary))).life)), .v (.bool (((Option.getD v8.1 (default : T_diary_Diary))).off)), .v (.int .i64 (((Option.getD v8.1 (default : T_diary_Diary))).trip)), .v (.int .i64 (((Option.getD v8.1 (default : T_diary_Diary))).tripKeep))], .v (.int .i64 v8.2)]), (23, .tup [.obox (Option.isSome v8.1) 64 [.v (.int .i64 (((Option.getD v8.1 (default : T_diary_Diary))).limit)), .fr (.own 46) false 15 (List.flatten (List.map T_Rec.ienc (((Option.getD v8.1 (default : T_diary_Diary))).recs))), .v (.int .i64 (((Option.getD v8.1 (default : T_diary_Diary))).used)), .v (.int .i64 (((Option.getD v8.1 (default : T_diary_Diary))).safe)), .v (.int .i64 (((Option.getD v8.1 (default : T_diary_Diary))).kept)), .v (.int .i64 (((Option.getD v8.1 (default : T_diary_Diary))).life)), .v (.bool (((Option.getD v8.1 (default : T_diary_Diary))).off)), .v (.int .i64 (((Option.getD v8.1 (default : T_diary_Diary))).trip)), .v (.int .i64 (((Option.getD v8.1 (default : T_diary_Diary))).tripKeep))], .v (.int .i64 v8.2)]), (25, .obox (Option.isSome v8.1) 64 [.v (.int .i64 (((Option.getD v8.1 (default : T_diary_Diary))).limit)), .fr (.own 46) false 15 (List.flatten (List.map T_Rec.ienc (((Option.getD v8.1 (default : T_diary_Diary))).recs))), .v (.int .i64 (((Option.getD v8.1 (default : T_diary_Diary))).used)), .v (.int .i64 (((Option.getD v8.1 (default : T_diary_Diary))).safe)), .v (.int .i64 (((Option.getD v8.1 (default : T_diary_Diary))).kept)), .v (.int .i64 (((Option.getD v8.1 (default : T_diary_Diary))).life)), .v (.bool (((Option.getD v8.1 (default : T_diary_Diary))).off)), .v (.int .i64 (((Option.getD v8.1 (default : T_diary_Diary))).trip)), .v (.int .i64 (((Option.getD v8.1 (default : T_diary_Diary))).tripKeep))]), (23, .tup [.any, .v (.int .i64 v8.2)]), (26, .v (.int .i64 v8.2)), (7, .obox (Option.isSome v8.1) 64 [.v (.int .i64 (((Option.getD v8.1 (default : T_diary_Diary))).limit)), .fr (.own 46) false 15 (List.flatten (List.map T_Rec.ienc (((Option.getD v8.1 (default : T_diary_Diary))).recs))), .v (.int .i64 (((Option.getD v8.1 (default : T_diary_Diary))).used)), .v (.int .i64 (((Option.getD v8.1 (default : T_diary_Diary))).safe)), .v (.int .i64 (((Option.getD v8.1 (default : T_diary_Diary))).kept)), .v (.int .i64 (((Option.getD v8.1 (default : T_diary_Diary))).life)), .v (.bool (((Option.getD v8.1 (default : T_diary_Diary))).off)), .v (.int .i64 (((Option.getD v8.1 (default : T_diary_Diary))).trip)), .v (.int .i64 (((Option.getD v8.1 (default : T_diary_Diary))).tripKeep))]), (8, .v (.int .i64 v8.2))]) (init := [0, 1, 2, 3]) (fin := [0, 1, 2, 9, 10]) (sps := [⟨[], [], [4], [(.slot 24)]⟩, ⟨[], [4], [5], [(.slot 23)]⟩, ⟨[], [5], [7, 6], [(.slot 25)]⟩, ⟨[7], [], [8], [(.slot 26)]⟩, ⟨[], [6], [9], [(.slot 7)]⟩, ⟨[8], [], [10], [(.slot 8)]⟩]) (es' := [(_, _), (_, _), (_, _), (7, .obox (Option.isSome v8.1) 64 [.v (.int .i64 (((Option.getD v8.1 (default : T_diary_Diary))).limit)), .fr (.own 46) false 15 (List.flatten (List.map T_Rec.ienc (((Option.getD v8.1 (default : T_diary_Diary))).recs))), .v (.int .i64 (((Option.getD v8.1 (default : T_diary_Diary))).used)), .v (.int .i64 (((Option.getD v8.1 (default : T_diary_Diary))).safe)), .v (.int .i64 (((Option.getD v8.1 (default : T_diary_Diary))).kept)), .v (.int .i64 (((Option.getD v8.1 (default : T_diary_Diary))).life)), .v (.bool (((Option.getD v8.1 (default : T_diary_Diary))).off)), .v (.int .i64 (((Option.getD v8.1 (default : T_diary_Diary))).trip)), .v (.int .i64 (((Option.getD v8.1 (default : T_diary_Diary))).tripKeep))]), (8, .v (.int .i64 v8.2))]) (by kernel_rfl) rfl rfl
     ⟨st_plain rfl (op_call _ _ 10 _ _ rfl Try.call10 rfl (ok_diary_New 131072 _ hv8) rfl rfl),
     st_plain rfl (op_move_take _ _ _ _ rfl),
     st_plain rfl (op_extract_take _ _ _ _ _ rfl (Nat.le_of_ble_eq_true rfl) rfl rfl (by decide) rfl),
     st_plain rfl (op_extract _ _ _ _ _ rfl rfl (Nat.le_of_ble_eq_true rfl) rfl rfl),
     st_plain rfl (op_assign_take _ _ _ _ rfl),
     st_plain rfl (op_assign _ _ _ _ rfl rfl),
     trivial⟩ ?_
    refine pt_ob (d := default) (f := fun (v9 : T_diary_Diary) => [.v (.int .i64 v9.limit), .fr (.own 46) false 15 (List.flatten (List.map T_Rec.ienc v9.recs)), .v (.int .i64 v9.used), .v (.int .i64 v9.safe), .v (.int .i64 v9.kept), .v (.int .i64 v9.life), .v (.bool v9.off), .v (.int .i64 v9.trip), .v (.int .i64 v9.tripKeep)]) 3 9 7 64 h (es1 := fun v9 => [(0, .fr .shr true 15 (List.flatten (List.map T_Rec.ienc l))), (1, .fr .shr true 15 (List.flatten (List.map T_Rec.ienc more))), (2, .v (.int .i64 keep)), (7, .box 64 [.v (.int .i64 v9.limit), .fr (.own 46) false 15 (List.flatten (List.map T_Rec.ienc v9.recs)), .v (.int .i64 v9.used), .v (.int .i64 v9.safe), .v (.int .i64 v9.kept), .v (.int .i64 v9.life), .v (.bool v9.off), .v (.int .i64 v9.trip), .v (.int .i64 v9.tripKeep)]), (8, .v (.int .i64 v8.2))]) (es0 := [(0, .fr .shr true 15 (List.flatten (List.map T_Rec.ienc l))), (1, .fr .shr true 15 (List.flatten (List.map T_Rec.ienc more))), (2, .v (.int .i64 keep)), (7, .v (.pointer none)), (8, .v (.int .i64 v8.2))]) rfl (fun _ => rfl) (by kernel_rfl) (fun _ => rfl) (fun _ => rfl) rfl (fun v9 hv10 h => ?_) (fun hv10 h => ?_)
    ·refine pt_then ?_
     refine ht_seq ?_
     refine ht_seq ?_
     refine ht_joinS h (fun (s11 : Bool) => [(0, .fr .shr true 15 (List.flatten (List.map T_Rec.ienc l))), (1, .fr .shr true 15 (List.flatten (List.map T_Rec.ienc more))), (2, .v (.int .i64 keep)), (7, .box 64 [.v (.int .i64 v9.limit), .fr (.own 46) false 15 (List.flatten (List.map T_Rec.ienc v9.recs)), .v (.int .i64 v9.used), .v (.int .i64 v9.safe), .v (.int .i64 v9.kept), .v (.int .i64 v9.life), .v (.bool v9.off), .v (.int .i64 v9.trip), .v (.int .i64 v9.tripKeep)]), (32, .v (.bool s11))]) ?_ ?_
     ·rintro s11 h
      refine pt_then ?_
      refine ht_cond _ rfl (fun hb15 => ?_) (fun hb15 => ?_)
      ·have h := cond_t hb15 h
       refine ht_seq ?_
       refine ht_seqR hn (El := [_, _, _, _, _, (6, .v (.bool false))]) (init := [0, 1, 2, 3, 4]) (fin := [5]) (sps := [⟨[], [], [5], [(.slot 6)]⟩]) (es' := [(6, .v (.bool false))]) (by kernel_rfl) rfl rfl
        ⟨st_plain rfl (op_assign _ _ _ _ rfl rfl),
        trivial⟩ ?_
       refine pt_then ?_
       refine ht_ret ?_
       refine pt_r_then ?_
       obtain rfl := Option.some.inj h
       exact pt_ret hio rfl (.tmp _ _ .nil) rfl rfl
      ·have h := cond_f hb15 h
       refine ht_skip ?_
       refine pt_then ?_
       refine ht_seq ?_
       refine ht_seq ?_
       refine ht_seqR hn (El := [_, _, _, _, _, (9, .v (.int .i64 0))]) (init := [0, 1, 2, 3, 4]) (fin := [0, 1, 2, 3, 5]) (sps := [⟨[], [], [5], [(.slot 9)]⟩]) (es' := [(_, _), (_, _), (_, _), (_, _), (9, .v (.int .i64 0))]) (by kernel_rfl) rfl rfl
        ⟨st_plain rfl (op_assign _ _ _ _ rfl rfl),
        trivial⟩ ?_
       refine pt_then ?_
       refine ht_loopS h (fun ((s43, s44, s45, s46, s47, s48, s49, s50, s51, s52) : Int × (List T_Rec) × Int × Int × Int × Int × Bool × Int × Int × Int) => [(0, .fr .shr true 15 (List.flatten (List.map T_Rec.ienc l))), (1, .fr .shr true 15 (List.flatten (List.map T_Rec.ienc more))), (2, .v (.int .i64 keep)), (7, .box 64 [.v (.int .i64 s43), .fr (.own 46) false 15 (List.flatten (List.map T_Rec.ienc s44)), .v (.int .i64 s45), .v (.int .i64 s46), .v (.int .i64 s47), .v (.int .i64 s48), .v (.bool s49), .v (.int .i64 s50), .v (.int .i64 s51)]), (9, .v (.int .i64 s52))]) (fun ((s59, s60, s61, s62, s63, s64, s65, s66, s67) : Int × (List T_Rec) × Int × Int × Int × Int × Bool × Int × Int) => [(0, .fr .shr true 15 (List.flatten (List.map T_Rec.ienc l))), (1, .fr .shr true 15 (List.flatten (List.map T_Rec.ienc more))), (2, .v (.int .i64 keep)), (7, .box 64 [.v (.int .i64 s59), .fr (.own 46) false 15 (List.flatten (List.map T_Rec.ienc s60)), .v (.int .i64 s61), .v (.int .i64 s62), .v (.int .i64 s63), .v (.int .i64 s64), .v (.bool s65), .v (.int .i64 s66), .v (.int .i64 s67)])]) ?_ ?_
       ·rintro ⟨s59, s60, s61, s62, s63, s64, s65, s66, s67⟩ h
        refine pt_then ?_
        refine ht_seq ?_
        refine ht_seq ?_
        refine ht_joinS h (fun ((s82, s83, s84, s85, s86, s87, s88, s89, s90, s91) : Int × (List T_Rec) × Int × Int × Int × Int × Bool × Int × Int × Bool) => [(0, .fr .shr true 15 (List.flatten (List.map T_Rec.ienc l))), (1, .fr .shr true 15 (List.flatten (List.map T_Rec.ienc more))), (2, .v (.int .i64 keep)), (7, .box 64 [.v (.int .i64 s82), .fr (.own 46) false 15 (List.flatten (List.map T_Rec.ienc s83)), .v (.int .i64 s84), .v (.int .i64 s85), .v (.int .i64 s86), .v (.int .i64 s87), .v (.bool s88), .v (.int .i64 s89), .v (.int .i64 s90)]), (61, .v (.bool s91))]) ?_ ?_
        ·rintro ⟨s82, s83, s84, s85, s86, s87, s88, s89, s90, s91⟩ h
         refine pt_then ?_
         refine ht_cond _ rfl (fun hb95 => ?_) (fun hb95 => ?_)
         ·have h := cond_t hb95 h
          refine ht_seq ?_
          refine ht_seqR hn (El := [_, _, _, _, _, (6, .v (.bool false))]) (init := [0, 1, 2, 3, 4]) (fin := [5]) (sps := [⟨[], [], [5], [(.slot 6)]⟩]) (es' := [(6, .v (.bool false))]) (by kernel_rfl) rfl rfl
           ⟨st_plain rfl (op_assign _ _ _ _ rfl rfl),
           trivial⟩ ?_
          refine pt_then ?_
          refine ht_ret ?_
          refine pt_r_then ?_
          obtain rfl := Option.some.inj h
          exact pt_ret hio rfl (.tmp _ _ .nil) rfl rfl
         ·have h := cond_f hb95 h
          refine ht_skip ?_
          refine pt_then ?_
          refine ht_seq ?_
          refine ht_seq ?_
          refine ht_seqR hn (El := [_, _, _, _, _, (11, .v (.int .i64 0))]) (init := [0, 1, 2, 3, 4]) (fin := [0, 1, 2, 3, 5]) (sps := [⟨[], [], [5], [(.slot 11)]⟩]) (es' := [(_, _), (_, _), (_, _), (_, _), (11, .v (.int .i64 0))]) (by kernel_rfl) rfl rfl
           ⟨st_plain rfl (op_assign _ _ _ _ rfl rfl),
           trivial⟩ ?_
          refine pt_then ?_
          refine ht_loopS h (fun ((s123, s124, s125, s126, s127, s128, s129, s130, s131, s132) : Int × (List T_Rec) × Int × Int × Int × Int × Bool × Int × Int × Int) => [(0, .fr .shr true 15 (List.flatten (List.map T_Rec.ienc l))), (1, .fr .shr true 15 (List.flatten (List.map T_Rec.ienc more))), (2, .v (.int .i64 keep)), (7, .box 64 [.v (.int .i64 s123), .fr (.own 46) false 15 (List.flatten (List.map T_Rec.ienc s124)), .v (.int .i64 s125), .v (.int .i64 s126), .v (.int .i64 s127), .v (.int .i64 s128), .v (.bool s129), .v (.int .i64 s130), .v (.int .i64 s131)]), (11, .v (.int .i64 s132))]) (fun ((s139, s140, s141, s142, s143, s144, s145, s146, s147) : Int × (List T_Rec) × Int × Int × Int × Int × Bool × Int × Int) => [(0, .fr .shr true 15 (List.flatten (List.map T_Rec.ienc l))), (1, .fr .shr true 15 (List.flatten (List.map T_Rec.ienc more))), (2, .v (.int .i64 keep)), (7, .box 64 [.v (.int .i64 s139), .fr (.own 46) false 15 (List.flatten (List.map T_Rec.ienc s140)), .v (.int .i64 s141), .v (.int .i64 s142), .v (.int .i64 s143), .v (.int .i64 s144), .v (.bool s145), .v (.int .i64 s146), .v (.int .i64 s147)])]) ?_ ?_
          ·rintro ⟨s139, s140, s141, s142, s143, s144, s145, s146, s147⟩ h
           refine pt_then ?_
           refine ht_seq ?_
           obtain ⟨v160, hv160, h⟩ := bind_some h
           obtain ⟨v161, hv161, h⟩ := bind_some h
           refine ht_seqR hn (El := [_, _, _, _, (81, .v (.int .i64 keep)), (82, .v (.int .i64 v160)), (83, .fr .shr true 15 (List.flatten (List.map T_Rec.ienc more))), (84, .v (.int .i64 (more.length : Int))), (85, .v (.int .i64 v161)), (13, .v (.int .i64 v161))]) (init := [0, 1, 2, 3]) (fin := [0, 1, 2, 3, 9]) (sps := [⟨[2], [], [4], [(.slot 81)]⟩, ⟨[4], [], [5], [(.slot 82)]⟩, ⟨[1], [], [6], [(.slot 83)]⟩, ⟨[6], [], [7], [(.slot 84)]⟩, ⟨[5, 7], [], [8], [(.slot 85)]⟩, ⟨[8], [], [9], [(.slot 13)]⟩]) (es' := [(_, _), (_, _), (_, _), (_, _), (13, .v (.int .i64 v161))]) (by kernel_rfl) rfl rfl
            ⟨st_plain rfl (op_move _ _ _ _ rfl rfl),
            st_plain rfl ((Option.some.inj hv160) ▸ op_max _ _ _ _ rfl rfl),
            st_plain rfl (op_move _ _ _ _ rfl rfl),
            st_plain rfl (op_len_fr _ _ _ Try.underlying31 rfl (by decide) (gflat_len T_Rec.ilen _)),
            st_plain rfl ((Option.some.inj hv161) ▸ op_min _ _ _ _ rfl rfl),
            st_plain rfl (op_assign _ _ _ _ rfl rfl),
            trivial⟩ ?_
           refine pt_then ?_
           refine ht_seq ?_
           obtain ⟨v162, hv162, h⟩ := bind_some h
           refine ht_seqR hn (El := [_, _, _, _, _, (86, .ptr 7 0), (87, .v (.int .i64 keep)), (88, .tup []), (7, .box 64 [.v (.int .i64 v162.limit), .fr (.own 46) false 15 (List.flatten (List.map T_Rec.ienc v162.recs)), .v (.int .i64 v162.used), .v (.int .i64 v162.safe), .v (.int .i64 v162.kept), .v (.int .i64 v162.life), .v (.bool v162.off), .v (.int .i64 v162.trip), .v (.int .i64 v162.tripKeep)])]) (init := [0, 1, 2, 3, 4]) (fin := [0, 1, 8, 4]) (sps := [⟨[3], [], [5], [(.slot 86)]⟩, ⟨[2], [], [6], [(.slot 87)]⟩, ⟨[5, 6], [3], [8, 7], [(.slot 88), (.cell 7 0), (.cell 7 1), (.cell 7 2), (.cell 7 3), (.cell 7 4), (.cell 7 5), (.cell 7 6), (.cell 7 7), (.cell 7 8)]⟩]) (es' := [(_, _), (_, _), (7, .box 64 [.v (.int .i64 v162.limit), .fr (.own 46) false 15 (List.flatten (List.map T_Rec.ienc v162.recs)), .v (.int .i64 v162.used), .v (.int .i64 v162.safe), .v (.int .i64 v162.kept), .v (.int .i64 v162.life), .v (.bool v162.off), .v (.int .i64 v162.trip), .v (.int .i64 v162.tripKeep)]), (_, _)]) (by kernel_rfl) rfl rfl
            ⟨st_plain rfl (op_move _ _ _ _ rfl rfl),
            st_plain rfl (op_move _ _ _ _ rfl rfl),
            st_plain rfl (op_callP _ _ _ _ 88 21 [.tmp 86] [.tmp 87] _ _ _ rfl Try.call21 rfl rfl rfl (ok_diary_Diary_Crash (T_diary_Diary.mk s139 s140 s141 s142 s143 s144 s145 s146 s147) keep _ hv162) (Nat.le_of_ble_eq_true rfl) rfl rfl rfl rfl rfl rfl rfl rfl),
            trivial⟩ ?_
           refine pt_then ?_
           refine ht_seq ?_
           refine ht_seq ?_
           obtain ⟨v163, hv163, h⟩ := bind_some h
           refine ht_seqR hn (El := [_, _, _, _, (90, .ptr 7 0), (91, .tup [.fr (.own 46) false 15 (List.flatten (List.map T_Rec.ienc v163.1)), .v (.int .i64 v163.2.1)]), (7, .box 64 [.v (.int .i64 v163.2.2.limit), .fr (.own 46) false 15 (List.flatten (List.map T_Rec.ienc v163.2.2.recs)), .v (.int .i64 v163.2.2.used), .v (.int .i64 v163.2.2.safe), .v (.int .i64 v163.2.2.kept), .v (.int .i64 v163.2.2.life), .v (.bool v163.2.2.off), .v (.int .i64 v163.2.2.trip), .v (.int .i64 v163.2.2.tripKeep)]), (89, .tup [.fr (.own 46) false 15 (List.flatten (List.map T_Rec.ienc v163.1)), .v (.int .i64 v163.2.1)]), (92, .fr (.own 46) false 15 (List.flatten (List.map T_Rec.ienc v163.1))), (89, .tup [.any, .v (.int .i64 v163.2.1)]), (93, .v (.int .i64 v163.2.1)), (14, .fr (.own 46) false 15 (List.flatten (List.map T_Rec.ienc v163.1))), (15, .v (.int .i64 v163.2.1))]) (init := [0, 1, 2, 3]) (fin := [0, 1, 6, 3, 12]) (sps := [⟨[2], [], [4], [(.slot 90)]⟩, ⟨[4], [2], [6, 5], [(.slot 91), (.cell 7 0), (.cell 7 1), (.cell 7 2), (.cell 7 3), (.cell 7 4), (.cell 7 5), (.cell 7 6), (.cell 7 7), (.cell 7 8)]⟩, ⟨[], [5], [7], [(.slot 89)]⟩, ⟨[], [7], [9, 8], [(.slot 92)]⟩, ⟨[9], [], [10], [(.slot 93)]⟩, ⟨[], [8], [11], [(.slot 14)]⟩, ⟨[10], [], [12], [(.slot 15)]⟩]) (es' := [(_, _), (_, _), (7, .box 64 [.v (.int .i64 v163.2.2.limit), .fr (.own 46) false 15 (List.flatten (List.map T_Rec.ienc v163.2.2.recs)), .v (.int .i64 v163.2.2.used), .v (.int .i64 v163.2.2.safe), .v (.int .i64 v163.2.2.kept), .v (.int .i64 v163.2.2.life), .v (.bool v163.2.2.off), .v (.int .i64 v163.2.2.trip), .v (.int .i64 v163.2.2.tripKeep)]), (_, _), (15, .v (.int .i64 v163.2.1))]) (by kernel_rfl) rfl rfl
            ⟨st_plain rfl (op_move _ _ _ _ rfl rfl),
            st_plain rfl (op_callP _ _ _ _ 91 30 [.tmp 90] [] _ _ _ rfl Try.call30 rfl rfl rfl (ok_diary_Diary_Read v162 _ hv163) (Nat.le_of_ble_eq_true rfl) rfl rfl rfl rfl rfl rfl rfl rfl),
            st_plain rfl (op_move_take _ _ _ _ rfl),
            st_plain rfl (op_extract_take _ _ _ _ _ rfl (Nat.le_of_ble_eq_true rfl) rfl rfl (by decide) rfl),
            st_plain rfl (op_extract _ _ _ _ _ rfl rfl (Nat.le_of_ble_eq_true rfl) rfl rfl),
            st_plain rfl (op_assign_take _ _ _ _ rfl),
            st_plain rfl (op_assign _ _ _ _ rfl rfl),
            trivial⟩ ?_
           refine pt_then ?_
           refine ht_seq ?_
           refine ht_joinS h (fun ((s167, s168, s169, s170, s171, s172, s173, s174, s175, s176) : Int × (List T_Rec) × Int × Int × Int × Int × Bool × Int × Int × Bool) => [(0, .fr .shr true 15 (List.flatten (List.map T_Rec.ienc l))), (1, .fr .shr true 15 (List.flatten (List.map T_Rec.ienc more))), (7, .box 64 [.v (.int .i64 s167), .fr (.own 46) false 15 (List.flatten (List.map T_Rec.ienc s168)), .v (.int .i64 s169), .v (.int .i64 s170), .v (.int .i64 s171), .v (.int .i64 s172), .v (.bool s173), .v (.int .i64 s174), .v (.int .i64 s175)]), (13, .v (.int .i64 v161)), (111, .v (.bool s176))]) ?_ ?_
           ·rintro ⟨s167, s168, s169, s170, s171, s172, s173, s174, s175, s176⟩ h
            refine pt_then ?_
            refine ht_cond _ rfl (fun hb180 => ?_) (fun hb180 => ?_)
            ·have h := cond_t hb180 h
             refine ht_seq ?_
             refine ht_seqR hn (El := [_, _, _, _, _, (6, .v (.bool false))]) (init := [0, 1, 2, 3, 4]) (fin := [5]) (sps := [⟨[], [], [5], [(.slot 6)]⟩]) (es' := [(6, .v (.bool false))]) (by kernel_rfl) rfl rfl
              ⟨st_plain rfl (op_assign _ _ _ _ rfl rfl),
              trivial⟩ ?_
             refine pt_then ?_
             refine ht_ret ?_
             refine pt_r_then ?_
             obtain rfl := Option.some.inj h
             exact pt_ret hio rfl (.tmp _ _ .nil) rfl rfl
            ·have h := cond_f hb180 h
             refine ht_skip ?_
             refine pt_then ?_
             refine ht_seq ?_
             obtain ⟨v181, hv181, h⟩ := bind_some h
             refine ht_seqR hn (El := [_, _, _, _, _, (112, .ptr 7 0), (113, .tup []), (7, .box 64 [.v (.int .i64 v181.limit), .fr (.own 46) false 15 (List.flatten (List.map T_Rec.ienc v181.recs)), .v (.int .i64 v181.used), .v (.int .i64 v181.safe), .v (.int .i64 v181.kept), .v (.int .i64 v181.life), .v (.bool v181.off), .v (.int .i64 v181.trip), .v (.int .i64 v181.tripKeep)])]) (init := [0, 1, 2, 3, 4]) (fin := [0, 1, 7, 3]) (sps := [⟨[2], [], [5], [(.slot 112)]⟩, ⟨[5], [2], [7, 6], [(.slot 113), (.cell 7 0), (.cell 7 1), (.cell 7 2), (.cell 7 3), (.cell 7 4), (.cell 7 5), (.cell 7 6), (.cell 7 7), (.cell 7 8)]⟩]) (es' := [(_, _), (_, _), (7, .box 64 [.v (.int .i64 v181.limit), .fr (.own 46) false 15 (List.flatten (List.map T_Rec.ienc v181.recs)), .v (.int .i64 v181.used), .v (.int .i64 v181.safe), .v (.int .i64 v181.kept), .v (.int .i64 v181.life), .v (.bool v181.off), .v (.int .i64 v181.trip), .v (.int .i64 v181.tripKeep)]), (_, _)]) (by kernel_rfl) rfl rfl
              ⟨st_plain rfl (op_move _ _ _ _ rfl rfl),
              st_plain rfl (op_callP _ _ _ _ 113 25 [.tmp 112] [] _ _ _ rfl Try.call25 rfl rfl rfl (ok_diary_Diary_Start (T_diary_Diary.mk s167 s168 s169 s170 s171 s172 s173 s174 s175) _ hv181) (Nat.le_of_ble_eq_true rfl) rfl rfl rfl rfl rfl rfl rfl rfl),
              trivial⟩ ?_
             refine pt_then ?_
             refine ht_seq ?_
             obtain ⟨v182, hv182, h⟩ := bind_some h
             refine ht_seqR hn (El := [_, _, _, _, (115, .ptr 7 0), (116, .tup [.fr (.own 46) false 15 (List.flatten (List.map T_Rec.ienc v182.1)), .v (.int .i64 v182.2.1)]), (7, .box 64 [.v (.int .i64 v182.2.2.limit), .fr (.own 46) false 15 (List.flatten (List.map T_Rec.ienc v182.2.2.recs)), .v (.int .i64 v182.2.2.used), .v (.int .i64 v182.2.2.safe), .v (.int .i64 v182.2.2.kept), .v (.int .i64 v182.2.2.life), .v (.bool v182.2.2.off), .v (.int .i64 v182.2.2.trip), .v (.int .i64 v182.2.2.tripKeep)]), (114, .tup [.fr (.own 46) false 15 (List.flatten (List.map T_Rec.ienc v182.1)), .v (.int .i64 v182.2.1)]), (117, .fr (.own 46) false 15 (List.flatten (List.map T_Rec.ienc v182.1))), (114, .tup [.any, .v (.int .i64 v182.2.1)]), (118, .v (.int .i64 v182.2.1)), (16, .fr (.own 46) false 15 (List.flatten (List.map T_Rec.ienc v182.1))), (8, .v (.int .i64 v182.2.1))]) (init := [0, 1, 2, 3]) (fin := [0, 1, 6, 3, 11, 12]) (sps := [⟨[2], [], [4], [(.slot 115)]⟩, ⟨[4], [2], [6, 5], [(.slot 116), (.cell 7 0), (.cell 7 1), (.cell 7 2), (.cell 7 3), (.cell 7 4), (.cell 7 5), (.cell 7 6), (.cell 7 7), (.cell 7 8)]⟩, ⟨[], [5], [7], [(.slot 114)]⟩, ⟨[], [7], [9, 8], [(.slot 117)]⟩, ⟨[9], [], [10], [(.slot 118)]⟩, ⟨[], [8], [11], [(.slot 16)]⟩, ⟨[10], [], [12], [(.slot 8)]⟩]) (es' := [(_, _), (_, _), (7, .box 64 [.v (.int .i64 v182.2.2.limit), .fr (.own 46) false 15 (List.flatten (List.map T_Rec.ienc v182.2.2.recs)), .v (.int .i64 v182.2.2.used), .v (.int .i64 v182.2.2.safe), .v (.int .i64 v182.2.2.kept), .v (.int .i64 v182.2.2.life), .v (.bool v182.2.2.off), .v (.int .i64 v182.2.2.trip), .v (.int .i64 v182.2.2.tripKeep)]), (_, _), (16, .fr (.own 46) false 15 (List.flatten (List.map T_Rec.ienc v182.1))), (8, .v (.int .i64 v182.2.1))]) (by kernel_rfl) rfl rfl
              ⟨st_plain rfl (op_move _ _ _ _ rfl rfl),
              st_plain rfl (op_callP _ _ _ _ 116 30 [.tmp 115] [] _ _ _ rfl Try.call30 rfl rfl rfl (ok_diary_Diary_Read v181 _ hv182) (Nat.le_of_ble_eq_true rfl) rfl rfl rfl rfl rfl rfl rfl rfl),
              st_plain rfl (op_move_take _ _ _ _ rfl),
              st_plain rfl (op_extract_take _ _ _ _ _ rfl (Nat.le_of_ble_eq_true rfl) rfl rfl (by decide) rfl),
              st_plain rfl (op_extract _ _ _ _ _ rfl rfl (Nat.le_of_ble_eq_true rfl) rfl rfl),
              st_plain rfl (op_assign_take _ _ _ _ rfl),
              st_plain rfl (op_assign _ _ _ _ rfl rfl),
              trivial⟩ ?_
             refine pt_then ?_
             refine ht_seq ?_
             refine ht_joinS h (fun (s191 : Bool) => [(6, .v (.bool s191))]) ?_ ?_
             ·rintro s191 h
              refine pt_then ?_
              refine ht_ret ?_
              obtain rfl := Option.some.inj h
              exact pt_ret hio rfl (.tmp _ _ .nil) rfl rfl
             ·intro u192 h hl193 hr194
              refine cond_some h (fun hg27_2 h => ?_) (fun hg27_2 h => ?_)
              ·obtain ⟨v183, hv183, h⟩ := bind_some h
               obtain ⟨v184, hv184, h⟩ := bind_some h
               obtain ⟨v185, hv185, h⟩ := bind_some h
               obtain ⟨v186, hv186, h⟩ := bind_some h
               refine cond_some h (fun hg27_12 h => ?_) (fun hg27_12 h => ?_)
               ·obtain ⟨v187, hv187, h⟩ := bind_some h
                refine cond_some h (fun hg27_18 h => ?_) (fun hg27_18 h => ?_)
                ·obtain ⟨v188, hv188, h⟩ := bind_some h
                 obtain ⟨v189, hv189, h⟩ := bind_some h
                 refine cond_some h (fun hg27_27 h => ?_) (fun hg27_27 h => ?_)
                 ·obtain ⟨v190, hv190, h⟩ := bind_some h
                  refine ht_anyR (by kernel_rfl) hn (El := (_ :: _ :: _ :: _ :: _ :: _ :: (119, .v (.int .i64 v182.2.1)) :: (120, .v (.bool (v182.2.1 == 0))) :: (121, .v (.bool true)) :: (122, .fr (.own 46) false 15 (List.flatten (List.map T_Rec.ienc v182.1))) :: (123, .fr .shr true 15 (List.flatten (List.map T_Rec.ienc l))) :: (124, .fr (.own 46) false 15 (List.flatten (List.map T_Rec.ienc v183))) :: (125, .fr .shr true 15 (List.flatten (List.map T_Rec.ienc more))) :: (126, .v (.int .i64 v161)) :: (127, .fr .shr true 15 (List.flatten (List.map T_Rec.ienc v184))) :: (128, .fr (.own 46) true 15 (List.flatten (List.map T_Rec.ienc v185))) :: (124, .any) :: (129, .v (.bool v186)) :: (130, .v (.bool v186)) :: (131, .v (.bool true)) :: (132, .ptr 7 0) :: (133, .v (.int .i64 v187.1)) :: (7, .box 64 [.v (.int .i64 v187.2.limit), .fr (.own 46) false 15 (List.flatten (List.map T_Rec.ienc v187.2.recs)), .v (.int .i64 v187.2.used), .v (.int .i64 v187.2.safe), .v (.int .i64 v187.2.kept), .v (.int .i64 v187.2.life), .v (.bool v187.2.off), .v (.int .i64 v187.2.trip), .v (.int .i64 v187.2.tripKeep)]) :: (134, .v (.int .i64 v161)) :: (135, .v (.bool (v187.1 == v161))) :: (136, .v (.bool (v187.1 == v161))) :: (137, .v (.bool true)) :: (138, .box 64 [.v (.int .i64 v187.2.limit), .fr (.own 46) false 15 (List.flatten (List.map T_Rec.ienc v187.2.recs)), .v (.int .i64 v187.2.used), .v (.int .i64 v187.2.safe), .v (.int .i64 v187.2.kept), .v (.int .i64 v187.2.life), .v (.bool v187.2.off), .v (.int .i64 v187.2.trip), .v (.int .i64 v187.2.tripKeep)]) :: (139, .v (.int .i64 v188.1)) :: (138, .box 64 [.v (.int .i64 v188.2.limit), .fr (.own 46) false 15 (List.flatten (List.map T_Rec.ienc v188.2.recs)), .v (.int .i64 v188.2.used), .v (.int .i64 v188.2.safe), .v (.int .i64 v188.2.kept), .v (.int .i64 v188.2.life), .v (.bool v188.2.off), .v (.int .i64 v188.2.trip), .v (.int .i64 v188.2.tripKeep)]) :: (140, .fr .shr true 15 (List.flatten (List.map T_Rec.ienc l))) :: (141, .v (.int .i64 (l.length : Int))) :: (142, .v (.int .i64 v161)) :: (143, .v (.int .i64 v189)) :: (144, .v (.bool (v188.1 == v189))) :: (145, .v (.bool (v188.1 == v189))) :: (146, .v (.bool true)) :: (147, .v (.bool v190)) :: (148, .v (.bool v190)) :: (6, .v (.bool v190)) :: [])) (init := [0, 1, 2, 3, 4, 5]) (fin := [39]) (sps := (⟨[5], [], [6], [(.slot 119)]⟩ :: ⟨[6], [], [7], [(.slot 120)]⟩ :: ⟨[7], [], [8], [(.slot 121)]⟩ :: ⟨[8], [4], [9], [(.slot 122)]⟩ :: ⟨[8, 0], [], [10], [(.slot 123)]⟩ :: ⟨[8, 10], [], [11], [(.slot 124)]⟩ :: ⟨[8, 1], [], [12], [(.slot 125)]⟩ :: ⟨[8, 3], [], [13], [(.slot 126)]⟩ :: ⟨[8, 12, 13], [], [14], [(.slot 127)]⟩ :: ⟨[8, 14], [11], [16, 15], [(.slot 128)]⟩ :: ⟨[8, 9, 15], [], [17], [(.slot 129)]⟩ :: ⟨[8, 17], [], [18], [(.slot 130)]⟩ :: ⟨[18], [], [19], [(.slot 131)]⟩ :: ⟨[19, 2], [], [20], [(.slot 132)]⟩ :: ⟨[19, 20], [2], [22, 21], [(.slot 133), (.cell 7 0), (.cell 7 1), (.cell 7 2), (.cell 7 3), (.cell 7 4), (.cell 7 5), (.cell 7 6), (.cell 7 7), (.cell 7 8)]⟩ :: ⟨[19, 3], [], [23], [(.slot 134)]⟩ :: ⟨[19, 21, 23], [], [24], [(.slot 135)]⟩ :: ⟨[19, 24], [], [25], [(.slot 136)]⟩ :: ⟨[25], [], [26], [(.slot 137)]⟩ :: ⟨[26], [20, 22], [27], [(.slot 138)]⟩ :: ⟨[26], [27], [29, 28], [(.slot 139), (.cell 138 0), (.cell 138 1), (.cell 138 2), (.cell 138 3), (.cell 138 4), (.cell 138 5), (.cell 138 6), (.cell 138 7), (.cell 138 8)]⟩ :: ⟨[26, 0], [], [30], [(.slot 140)]⟩ :: ⟨[26, 30], [], [31], [(.slot 141)]⟩ :: ⟨[26, 3], [], [32], [(.slot 142)]⟩ :: ⟨[26, 31, 32], [], [33], [(.slot 143)]⟩ :: ⟨[26, 28, 33], [], [34], [(.slot 144)]⟩ :: ⟨[26, 34], [], [35], [(.slot 145)]⟩ :: ⟨[35], [], [36], [(.slot 146)]⟩ :: ⟨[36], [], [37], [(.slot 147)]⟩ :: ⟨[36, 37], [], [38], [(.slot 148)]⟩ :: ⟨[38], [], [39], [(.slot 6)]⟩ :: [])) (es' := [(6, .v (.bool v190))]) (by kernel_rfl) rfl rfl
                   ⟨st_plain rfl (op_move _ _ _ _ rfl rfl),
                   st_plain rfl (op_bin _ _ _ _ _ rfl rfl rfl),
                   st_plain rfl (op_move _ _ _ _ (congrArg (fun b => AV.v (Value.bool b)) hg27_2) rfl),
                   st_run 2 121 true rfl rfl rfl (List.Mem.head _) (op_move_take _ _ _ _ rfl),
                   st_run 2 121 true rfl rfl rfl (List.Mem.head _) (op_move _ _ _ _ rfl rfl),
                   st_run 2 121 true rfl rfl rfl (List.Mem.head _) (op_call _ _ 14 _ _ rfl Try.call14 rfl (ok_wherrykeep_TwinRecs l _ hv183) rfl rfl),
                   st_run 2 121 true rfl rfl rfl (List.Mem.head _) (op_move _ _ _ _ rfl rfl),
                   st_run 2 121 true rfl rfl rfl (List.Mem.head _) (op_move _ _ _ _ rfl rfl),
                   st_run 2 121 true rfl rfl rfl (List.Mem.head _) (op_slice_fr _ _ (Int.toNat 0) (Int.toNat v161) _ Try.underlying31 sz46 (by decide) rfl rfl rfl ⟨_, congrArg (fun j => AV.v (Value.int .i64 j)) (sli_bd hv184).2.1⟩ (sli_bd hv184).2.2.1 (by rw [gflat_len T_Rec.ilen]; exact Nat.mul_le_mul_right _ (sli_bd hv184).2.2.2) (gflat_sli T_Rec.ilen hv184)),
                   st_run 2 121 true rfl rfl rfl (List.Mem.head _) (op_app_fr _ _ _ _ _ el31 rfl rfl (gflat_len T_Rec.ilen _) (gflat_len T_Rec.ilen _) hv185 (gflat_app (app_eq hv185)) (by decide) (by decide)),
                   st_run 2 121 true rfl rfl rfl (List.Mem.head _) (op_call _ _ 27 _ _ rfl Try.call27 rfl (ok_wherrykeep_Recs v182.1 v185 _ hv186) rfl rfl),
                   st_plain rfl (op_pick _ _ true _ rfl rfl),
                   st_plain rfl (op_move _ _ _ _ (congrArg (fun b => AV.v (Value.bool b)) hg27_12) rfl),
                   st_run 12 131 true rfl rfl rfl (List.Mem.head _) (op_move _ _ _ _ rfl rfl),
                   st_run 12 131 true rfl rfl rfl (List.Mem.head _) (op_callP _ _ _ _ 133 32 [.tmp 132] [] _ _ _ rfl Try.call32 rfl rfl rfl (ok_diary_Diary_Kept v182.2.2 _ hv187) (Nat.le_of_ble_eq_true rfl) rfl rfl rfl rfl rfl rfl rfl rfl),
                   st_run 12 131 true rfl rfl rfl (List.Mem.head _) (op_move _ _ _ _ rfl rfl),
                   st_run 12 131 true rfl rfl rfl (List.Mem.head _) (op_bin _ _ _ _ _ rfl rfl rfl),
                   st_plain rfl (op_pick _ _ true _ rfl rfl),
                   st_plain rfl (op_move _ _ _ _ (congrArg (fun b => AV.v (Value.bool b)) hg27_18) rfl),
                   st_run 18 137 true rfl rfl rfl (List.Mem.head _) (LOp.drop [_] (op_move_take _ _ _ _ rfl)),
                   st_run 18 137 true rfl rfl rfl (List.Mem.head _) (op_callP _ _ _ _ 139 31 [.tmp 138] [] _ _ _ rfl Try.call31 rfl rfl rfl (ok_diary_Diary_Safe v187.2 _ hv188) (Nat.le_of_ble_eq_true rfl) rfl rfl rfl rfl rfl rfl rfl rfl),
                   st_run 18 137 true rfl rfl rfl (List.Mem.head _) (op_move _ _ _ _ rfl rfl),
                   st_run 18 137 true rfl rfl rfl (List.Mem.head _) (op_len_fr _ _ _ Try.underlying31 rfl (by decide) (gflat_len T_Rec.ilen _)),
                   st_run 18 137 true rfl rfl rfl (List.Mem.head _) (op_move _ _ _ _ rfl rfl),
                   st_run 18 137 true rfl rfl rfl (List.Mem.head _) (op_bin _ _ _ _ _ rfl rfl (ibind (f := Value.int .i64) (Option.some.inj hv189))),
                   st_run 18 137 true rfl rfl rfl (List.Mem.head _) (op_bin _ _ _ _ _ rfl rfl rfl),
                   st_plain rfl (op_pick _ _ true _ rfl rfl),
                   st_plain rfl (op_move _ _ _ _ (congrArg (fun b => AV.v (Value.bool b)) hg27_27) rfl),
                   st_run 27 146 true rfl rfl rfl (List.Mem.head _) (op_call _ _ 12 _ _ rfl Try.call12 rfl (ok_wherrylaw18_wakes  _ hv190) rfl rfl),
                   st_plain rfl (op_pick _ _ true _ rfl rfl),
                   st_plain rfl (op_assign _ _ _ _ rfl rfl),
                   trivial⟩ ?_
                  exact hl193 _ (Option.some.inj h).symm
                 ·refine ht_anyR (by kernel_rfl) hn (El := (_ :: _ :: _ :: _ :: _ :: _ :: (119, .v (.int .i64 v182.2.1)) :: (120, .v (.bool (v182.2.1 == 0))) :: (121, .v (.bool true)) :: (122, .fr (.own 46) false 15 (List.flatten (List.map T_Rec.ienc v182.1))) :: (123, .fr .shr true 15 (List.flatten (List.map T_Rec.ienc l))) :: (124, .fr (.own 46) false 15 (List.flatten (List.map T_Rec.ienc v183))) :: (125, .fr .shr true 15 (List.flatten (List.map T_Rec.ienc more))) :: (126, .v (.int .i64 v161)) :: (127, .fr .shr true 15 (List.flatten (List.map T_Rec.ienc v184))) :: (128, .fr (.own 46) true 15 (List.flatten (List.map T_Rec.ienc v185))) :: (124, .any) :: (129, .v (.bool v186)) :: (130, .v (.bool v186)) :: (131, .v (.bool true)) :: (132, .ptr 7 0) :: (133, .v (.int .i64 v187.1)) :: (7, .box 64 [.v (.int .i64 v187.2.limit), .fr (.own 46) false 15 (List.flatten (List.map T_Rec.ienc v187.2.recs)), .v (.int .i64 v187.2.used), .v (.int .i64 v187.2.safe), .v (.int .i64 v187.2.kept), .v (.int .i64 v187.2.life), .v (.bool v187.2.off), .v (.int .i64 v187.2.trip), .v (.int .i64 v187.2.tripKeep)]) :: (134, .v (.int .i64 v161)) :: (135, .v (.bool (v187.1 == v161))) :: (136, .v (.bool (v187.1 == v161))) :: (137, .v (.bool true)) :: (138, .box 64 [.v (.int .i64 v187.2.limit), .fr (.own 46) false 15 (List.flatten (List.map T_Rec.ienc v187.2.recs)), .v (.int .i64 v187.2.used), .v (.int .i64 v187.2.safe), .v (.int .i64 v187.2.kept), .v (.int .i64 v187.2.life), .v (.bool v187.2.off), .v (.int .i64 v187.2.trip), .v (.int .i64 v187.2.tripKeep)]) :: (139, .v (.int .i64 v188.1)) :: (138, .box 64 [.v (.int .i64 v188.2.limit), .fr (.own 46) false 15 (List.flatten (List.map T_Rec.ienc v188.2.recs)), .v (.int .i64 v188.2.used), .v (.int .i64 v188.2.safe), .v (.int .i64 v188.2.kept), .v (.int .i64 v188.2.life), .v (.bool v188.2.off), .v (.int .i64 v188.2.trip), .v (.int .i64 v188.2.tripKeep)]) :: (140, .fr .shr true 15 (List.flatten (List.map T_Rec.ienc l))) :: (141, .v (.int .i64 (l.length : Int))) :: (142, .v (.int .i64 v161)) :: (143, .v (.int .i64 v189)) :: (144, .v (.bool (v188.1 == v189))) :: (145, .v (.bool (v188.1 == v189))) :: (146, .v (.bool false)) :: (147, .v undef) :: (148, .v (.bool false)) :: (6, .v (.bool false)) :: [])) (init := [0, 1, 2, 3, 4, 5]) (fin := [39]) (sps := (⟨[5], [], [6], [(.slot 119)]⟩ :: ⟨[6], [], [7], [(.slot 120)]⟩ :: ⟨[7], [], [8], [(.slot 121)]⟩ :: ⟨[8], [4], [9], [(.slot 122)]⟩ :: ⟨[8, 0], [], [10], [(.slot 123)]⟩ :: ⟨[8, 10], [], [11], [(.slot 124)]⟩ :: ⟨[8, 1], [], [12], [(.slot 125)]⟩ :: ⟨[8, 3], [], [13], [(.slot 126)]⟩ :: ⟨[8, 12, 13], [], [14], [(.slot 127)]⟩ :: ⟨[8, 14], [11], [16, 15], [(.slot 128)]⟩ :: ⟨[8, 9, 15], [], [17], [(.slot 129)]⟩ :: ⟨[8, 17], [], [18], [(.slot 130)]⟩ :: ⟨[18], [], [19], [(.slot 131)]⟩ :: ⟨[19, 2], [], [20], [(.slot 132)]⟩ :: ⟨[19, 20], [2], [22, 21], [(.slot 133), (.cell 7 0), (.cell 7 1), (.cell 7 2), (.cell 7 3), (.cell 7 4), (.cell 7 5), (.cell 7 6), (.cell 7 7), (.cell 7 8)]⟩ :: ⟨[19, 3], [], [23], [(.slot 134)]⟩ :: ⟨[19, 21, 23], [], [24], [(.slot 135)]⟩ :: ⟨[19, 24], [], [25], [(.slot 136)]⟩ :: ⟨[25], [], [26], [(.slot 137)]⟩ :: ⟨[26], [20, 22], [27], [(.slot 138)]⟩ :: ⟨[26], [27], [29, 28], [(.slot 139), (.cell 138 0), (.cell 138 1), (.cell 138 2), (.cell 138 3), (.cell 138 4), (.cell 138 5), (.cell 138 6), (.cell 138 7), (.cell 138 8)]⟩ :: ⟨[26, 0], [], [30], [(.slot 140)]⟩ :: ⟨[26, 30], [], [31], [(.slot 141)]⟩ :: ⟨[26, 3], [], [32], [(.slot 142)]⟩ :: ⟨[26, 31, 32], [], [33], [(.slot 143)]⟩ :: ⟨[26, 28, 33], [], [34], [(.slot 144)]⟩ :: ⟨[26, 34], [], [35], [(.slot 145)]⟩ :: ⟨[35], [], [36], [(.slot 146)]⟩ :: ⟨[36], [], [37], [(.slot 147)]⟩ :: ⟨[36], [], [38], [(.slot 148)]⟩ :: ⟨[38], [], [39], [(.slot 6)]⟩ :: [])) (es' := [(6, .v (.bool false))]) (by kernel_rfl) rfl rfl
                   ⟨st_plain rfl (op_move _ _ _ _ rfl rfl),
                   st_plain rfl (op_bin _ _ _ _ _ rfl rfl rfl),
                   st_plain rfl (op_move _ _ _ _ (congrArg (fun b => AV.v (Value.bool b)) hg27_2) rfl),
                   st_run 2 121 true rfl rfl rfl (List.Mem.head _) (op_move_take _ _ _ _ rfl),
                   st_run 2 121 true rfl rfl rfl (List.Mem.head _) (op_move _ _ _ _ rfl rfl),
                   st_run 2 121 true rfl rfl rfl (List.Mem.head _) (op_call _ _ 14 _ _ rfl Try.call14 rfl (ok_wherrykeep_TwinRecs l _ hv183) rfl rfl),
                   st_run 2 121 true rfl rfl rfl (List.Mem.head _) (op_move _ _ _ _ rfl rfl),
                   st_run 2 121 true rfl rfl rfl (List.Mem.head _) (op_move _ _ _ _ rfl rfl),
                   st_run 2 121 true rfl rfl rfl (List.Mem.head _) (op_slice_fr _ _ (Int.toNat 0) (Int.toNat v161) _ Try.underlying31 sz46 (by decide) rfl rfl rfl ⟨_, congrArg (fun j => AV.v (Value.int .i64 j)) (sli_bd hv184).2.1⟩ (sli_bd hv184).2.2.1 (by rw [gflat_len T_Rec.ilen]; exact Nat.mul_le_mul_right _ (sli_bd hv184).2.2.2) (gflat_sli T_Rec.ilen hv184)),
                   st_run 2 121 true rfl rfl rfl (List.Mem.head _) (op_app_fr _ _ _ _ _ el31 rfl rfl (gflat_len T_Rec.ilen _) (gflat_len T_Rec.ilen _) hv185 (gflat_app (app_eq hv185)) (by decide) (by decide)),
                   st_run 2 121 true rfl rfl rfl (List.Mem.head _) (op_call _ _ 27 _ _ rfl Try.call27 rfl (ok_wherrykeep_Recs v182.1 v185 _ hv186) rfl rfl),
                   st_plain rfl (op_pick _ _ true _ rfl rfl),
                   st_plain rfl (op_move _ _ _ _ (congrArg (fun b => AV.v (Value.bool b)) hg27_12) rfl),
                   st_run 12 131 true rfl rfl rfl (List.Mem.head _) (op_move _ _ _ _ rfl rfl),
                   st_run 12 131 true rfl rfl rfl (List.Mem.head _) (op_callP _ _ _ _ 133 32 [.tmp 132] [] _ _ _ rfl Try.call32 rfl rfl rfl (ok_diary_Diary_Kept v182.2.2 _ hv187) (Nat.le_of_ble_eq_true rfl) rfl rfl rfl rfl rfl rfl rfl rfl),
                   st_run 12 131 true rfl rfl rfl (List.Mem.head _) (op_move _ _ _ _ rfl rfl),
                   st_run 12 131 true rfl rfl rfl (List.Mem.head _) (op_bin _ _ _ _ _ rfl rfl rfl),
                   st_plain rfl (op_pick _ _ true _ rfl rfl),
                   st_plain rfl (op_move _ _ _ _ (congrArg (fun b => AV.v (Value.bool b)) hg27_18) rfl),
                   st_run 18 137 true rfl rfl rfl (List.Mem.head _) (LOp.drop [_] (op_move_take _ _ _ _ rfl)),
                   st_run 18 137 true rfl rfl rfl (List.Mem.head _) (op_callP _ _ _ _ 139 31 [.tmp 138] [] _ _ _ rfl Try.call31 rfl rfl rfl (ok_diary_Diary_Safe v187.2 _ hv188) (Nat.le_of_ble_eq_true rfl) rfl rfl rfl rfl rfl rfl rfl rfl),
                   st_run 18 137 true rfl rfl rfl (List.Mem.head _) (op_move _ _ _ _ rfl rfl),
                   st_run 18 137 true rfl rfl rfl (List.Mem.head _) (op_len_fr _ _ _ Try.underlying31 rfl (by decide) (gflat_len T_Rec.ilen _)),
                   st_run 18 137 true rfl rfl rfl (List.Mem.head _) (op_move _ _ _ _ rfl rfl),
                   st_run 18 137 true rfl rfl rfl (List.Mem.head _) (op_bin _ _ _ _ _ rfl rfl (ibind (f := Value.int .i64) (Option.some.inj hv189))),
                   st_run 18 137 true rfl rfl rfl (List.Mem.head _) (op_bin _ _ _ _ _ rfl rfl rfl),
                   st_plain rfl (op_pick _ _ true _ rfl rfl),
                   st_plain rfl (op_move _ _ _ _ (congrArg (fun b => AV.v (Value.bool b)) hg27_27) rfl),
                   st_skip 27 146 _ true rfl rfl rfl rfl (List.Mem.head _),
                   st_plain rfl (op_pick _ _ false _ rfl rfl),
                   st_plain rfl (op_assign _ _ _ _ rfl rfl),
                   trivial⟩ ?_
                  exact hl193 _ (Option.some.inj h).symm
                ·refine ht_anyR (by kernel_rfl) hn (El := (_ :: _ :: _ :: _ :: _ :: _ :: (119, .v (.int .i64 v182.2.1)) :: (120, .v (.bool (v182.2.1 == 0))) :: (121, .v (.bool true)) :: (122, .fr (.own 46) false 15 (List.flatten (List.map T_Rec.ienc v182.1))) :: (123, .fr .shr true 15 (List.flatten (List.map T_Rec.ienc l))) :: (124, .fr (.own 46) false 15 (List.flatten (List.map T_Rec.ienc v183))) :: (125, .fr .shr true 15 (List.flatten (List.map T_Rec.ienc more))) :: (126, .v (.int .i64 v161)) :: (127, .fr .shr true 15 (List.flatten (List.map T_Rec.ienc v184))) :: (128, .fr (.own 46) true 15 (List.flatten (List.map T_Rec.ienc v185))) :: (124, .any) :: (129, .v (.bool v186)) :: (130, .v (.bool v186)) :: (131, .v (.bool true)) :: (132, .ptr 7 0) :: (133, .v (.int .i64 v187.1)) :: (7, .box 64 [.v (.int .i64 v187.2.limit), .fr (.own 46) false 15 (List.flatten (List.map T_Rec.ienc v187.2.recs)), .v (.int .i64 v187.2.used), .v (.int .i64 v187.2.safe), .v (.int .i64 v187.2.kept), .v (.int .i64 v187.2.life), .v (.bool v187.2.off), .v (.int .i64 v187.2.trip), .v (.int .i64 v187.2.tripKeep)]) :: (134, .v (.int .i64 v161)) :: (135, .v (.bool (v187.1 == v161))) :: (136, .v (.bool (v187.1 == v161))) :: (137, .v (.bool false)) :: (138, .v undef) :: (139, .v undef) :: (140, .v undef) :: (141, .v undef) :: (142, .v undef) :: (143, .v undef) :: (144, .v undef) :: (145, .v (.bool false)) :: (146, .v (.bool false)) :: (147, .v undef) :: (148, .v (.bool false)) :: (6, .v (.bool false)) :: [])) (init := [0, 1, 2, 3, 4, 5]) (fin := [38]) (sps := (⟨[5], [], [6], [(.slot 119)]⟩ :: ⟨[6], [], [7], [(.slot 120)]⟩ :: ⟨[7], [], [8], [(.slot 121)]⟩ :: ⟨[8], [4], [9], [(.slot 122)]⟩ :: ⟨[8, 0], [], [10], [(.slot 123)]⟩ :: ⟨[8, 10], [], [11], [(.slot 124)]⟩ :: ⟨[8, 1], [], [12], [(.slot 125)]⟩ :: ⟨[8, 3], [], [13], [(.slot 126)]⟩ :: ⟨[8, 12, 13], [], [14], [(.slot 127)]⟩ :: ⟨[8, 14], [11], [16, 15], [(.slot 128)]⟩ :: ⟨[8, 9, 15], [], [17], [(.slot 129)]⟩ :: ⟨[8, 17], [], [18], [(.slot 130)]⟩ :: ⟨[18], [], [19], [(.slot 131)]⟩ :: ⟨[19, 2], [], [20], [(.slot 132)]⟩ :: ⟨[19, 20], [2], [22, 21], [(.slot 133), (.cell 7 0), (.cell 7 1), (.cell 7 2), (.cell 7 3), (.cell 7 4), (.cell 7 5), (.cell 7 6), (.cell 7 7), (.cell 7 8)]⟩ :: ⟨[19, 3], [], [23], [(.slot 134)]⟩ :: ⟨[19, 21, 23], [], [24], [(.slot 135)]⟩ :: ⟨[19, 24], [], [25], [(.slot 136)]⟩ :: ⟨[25], [], [26], [(.slot 137)]⟩ :: ⟨[26], [], [27], [(.slot 138)]⟩ :: ⟨[26], [], [28], [(.slot 139)]⟩ :: ⟨[26], [], [29], [(.slot 140)]⟩ :: ⟨[26], [], [30], [(.slot 141)]⟩ :: ⟨[26], [], [31], [(.slot 142)]⟩ :: ⟨[26], [], [32], [(.slot 143)]⟩ :: ⟨[26], [], [33], [(.slot 144)]⟩ :: ⟨[26], [], [34], [(.slot 145)]⟩ :: ⟨[34], [], [35], [(.slot 146)]⟩ :: ⟨[35], [], [36], [(.slot 147)]⟩ :: ⟨[35], [], [37], [(.slot 148)]⟩ :: ⟨[37], [], [38], [(.slot 6)]⟩ :: [])) (es' := [(6, .v (.bool false))]) (by kernel_rfl) rfl rfl
                  ⟨st_plain rfl (op_move _ _ _ _ rfl rfl),
                  st_plain rfl (op_bin _ _ _ _ _ rfl rfl rfl),
                  st_plain rfl (op_move _ _ _ _ (congrArg (fun b => AV.v (Value.bool b)) hg27_2) rfl),
                  st_run 2 121 true rfl rfl rfl (List.Mem.head _) (op_move_take _ _ _ _ rfl),
                  st_run 2 121 true rfl rfl rfl (List.Mem.head _) (op_move _ _ _ _ rfl rfl),
                  st_run 2 121 true rfl rfl rfl (List.Mem.head _) (op_call _ _ 14 _ _ rfl Try.call14 rfl (ok_wherrykeep_TwinRecs l _ hv183) rfl rfl),
                  st_run 2 121 true rfl rfl rfl (List.Mem.head _) (op_move _ _ _ _ rfl rfl),
                  st_run 2 121 true rfl rfl rfl (List.Mem.head _) (op_move _ _ _ _ rfl rfl),
                  st_run 2 121 true rfl rfl rfl (List.Mem.head _) (op_slice_fr _ _ (Int.toNat 0) (Int.toNat v161) _ Try.underlying31 sz46 (by decide) rfl rfl rfl ⟨_, congrArg (fun j => AV.v (Value.int .i64 j)) (sli_bd hv184).2.1⟩ (sli_bd hv184).2.2.1 (by rw [gflat_len T_Rec.ilen]; exact Nat.mul_le_mul_right _ (sli_bd hv184).2.2.2) (gflat_sli T_Rec.ilen hv184)),
                  st_run 2 121 true rfl rfl rfl (List.Mem.head _) (op_app_fr _ _ _ _ _ el31 rfl rfl (gflat_len T_Rec.ilen _) (gflat_len T_Rec.ilen _) hv185 (gflat_app (app_eq hv185)) (by decide) (by decide)),
                  st_run 2 121 true rfl rfl rfl (List.Mem.head _) (op_call _ _ 27 _ _ rfl Try.call27 rfl (ok_wherrykeep_Recs v182.1 v185 _ hv186) rfl rfl),
                  st_plain rfl (op_pick _ _ true _ rfl rfl),
                  st_plain rfl (op_move _ _ _ _ (congrArg (fun b => AV.v (Value.bool b)) hg27_12) rfl),
                  st_run 12 131 true rfl rfl rfl (List.Mem.head _) (op_move _ _ _ _ rfl rfl),
                  st_run 12 131 true rfl rfl rfl (List.Mem.head _) (op_callP _ _ _ _ 133 32 [.tmp 132] [] _ _ _ rfl Try.call32 rfl rfl rfl (ok_diary_Diary_Kept v182.2.2 _ hv187) (Nat.le_of_ble_eq_true rfl) rfl rfl rfl rfl rfl rfl rfl rfl),
                  st_run 12 131 true rfl rfl rfl (List.Mem.head _) (op_move _ _ _ _ rfl rfl),
                  st_run 12 131 true rfl rfl rfl (List.Mem.head _) (op_bin _ _ _ _ _ rfl rfl rfl),
                  st_plain rfl (op_pick _ _ true _ rfl rfl),
                  st_plain rfl (op_move _ _ _ _ (congrArg (fun b => AV.v (Value.bool b)) hg27_18) rfl),
                  st_skip 18 137 _ true rfl rfl rfl rfl (List.Mem.head _),
                  st_skip 18 137 _ true rfl rfl rfl rfl (List.Mem.head _),
                  st_skip 18 137 _ true rfl rfl rfl rfl (List.Mem.head _),
                  st_skip 18 137 _ true rfl rfl rfl rfl (List.Mem.head _),
                  st_skip 18 137 _ true rfl rfl rfl rfl (List.Mem.head _),
                  st_skip 18 137 _ true rfl rfl rfl rfl (List.Mem.head _),
                  st_skip 18 137 _ true rfl rfl rfl rfl (List.Mem.head _),
                  st_plain rfl (op_pick _ _ false _ rfl rfl),
                  st_plain rfl (op_move _ _ _ _ rfl rfl),
                  st_skip 27 146 _ true rfl rfl rfl rfl (List.Mem.head _),
                  st_plain rfl (op_pick _ _ false _ rfl rfl),
                  st_plain rfl (op_assign _ _ _ _ rfl rfl),
                  trivial⟩ ?_
                 exact hl193 _ (Option.some.inj h).symm
               ·refine ht_anyR (by kernel_rfl) hn (El := (_ :: _ :: _ :: _ :: _ :: _ :: (119, .v (.int .i64 v182.2.1)) :: (120, .v (.bool (v182.2.1 == 0))) :: (121, .v (.bool true)) :: (122, .fr (.own 46) false 15 (List.flatten (List.map T_Rec.ienc v182.1))) :: (123, .fr .shr true 15 (List.flatten (List.map T_Rec.ienc l))) :: (124, .fr (.own 46) false 15 (List.flatten (List.map T_Rec.ienc v183))) :: (125, .fr .shr true 15 (List.flatten (List.map T_Rec.ienc more))) :: (126, .v (.int .i64 v161)) :: (127, .fr .shr true 15 (List.flatten (List.map T_Rec.ienc v184))) :: (128, .fr (.own 46) true 15 (List.flatten (List.map T_Rec.ienc v185))) :: (124, .any) :: (129, .v (.bool v186)) :: (130, .v (.bool v186)) :: (131, .v (.bool false)) :: (132, .v undef) :: (133, .v undef) :: (134, .v undef) :: (135, .v undef) :: (136, .v (.bool false)) :: (137, .v (.bool false)) :: (138, .v undef) :: (139, .v undef) :: (140, .v undef) :: (141, .v undef) :: (142, .v undef) :: (143, .v undef) :: (144, .v undef) :: (145, .v (.bool false)) :: (146, .v (.bool false)) :: (147, .v undef) :: (148, .v (.bool false)) :: (6, .v (.bool false)) :: [])) (init := [0, 1, 2, 3, 4, 5]) (fin := [37]) (sps := (⟨[5], [], [6], [(.slot 119)]⟩ :: ⟨[6], [], [7], [(.slot 120)]⟩ :: ⟨[7], [], [8], [(.slot 121)]⟩ :: ⟨[8], [4], [9], [(.slot 122)]⟩ :: ⟨[8, 0], [], [10], [(.slot 123)]⟩ :: ⟨[8, 10], [], [11], [(.slot 124)]⟩ :: ⟨[8, 1], [], [12], [(.slot 125)]⟩ :: ⟨[8, 3], [], [13], [(.slot 126)]⟩ :: ⟨[8, 12, 13], [], [14], [(.slot 127)]⟩ :: ⟨[8, 14], [11], [16, 15], [(.slot 128)]⟩ :: ⟨[8, 9, 15], [], [17], [(.slot 129)]⟩ :: ⟨[8, 17], [], [18], [(.slot 130)]⟩ :: ⟨[18], [], [19], [(.slot 131)]⟩ :: ⟨[19], [], [20], [(.slot 132)]⟩ :: ⟨[19], [], [21], [(.slot 133)]⟩ :: ⟨[19], [], [22], [(.slot 134)]⟩ :: ⟨[19], [], [23], [(.slot 135)]⟩ :: ⟨[19], [], [24], [(.slot 136)]⟩ :: ⟨[24], [], [25], [(.slot 137)]⟩ :: ⟨[25], [], [26], [(.slot 138)]⟩ :: ⟨[25], [], [27], [(.slot 139)]⟩ :: ⟨[25], [], [28], [(.slot 140)]⟩ :: ⟨[25], [], [29], [(.slot 141)]⟩ :: ⟨[25], [], [30], [(.slot 142)]⟩ :: ⟨[25], [], [31], [(.slot 143)]⟩ :: ⟨[25], [], [32], [(.slot 144)]⟩ :: ⟨[25], [], [33], [(.slot 145)]⟩ :: ⟨[33], [], [34], [(.slot 146)]⟩ :: ⟨[34], [], [35], [(.slot 147)]⟩ :: ⟨[34], [], [36], [(.slot 148)]⟩ :: ⟨[36], [], [37], [(.slot 6)]⟩ :: [])) (es' := [(6, .v (.bool false))]) (by kernel_rfl) rfl rfl
                 ⟨st_plain rfl (op_move _ _ _ _ rfl rfl),
                 st_plain rfl (op_bin _ _ _ _ _ rfl rfl rfl),
                 st_plain rfl (op_move _ _ _ _ (congrArg (fun b => AV.v (Value.bool b)) hg27_2) rfl),
                 st_run 2 121 true rfl rfl rfl (List.Mem.head _) (op_move_take _ _ _ _ rfl),
                 st_run 2 121 true rfl rfl rfl (List.Mem.head _) (op_move _ _ _ _ rfl rfl),
                 st_run 2 121 true rfl rfl rfl (List.Mem.head _) (op_call _ _ 14 _ _ rfl Try.call14 rfl (ok_wherrykeep_TwinRecs l _ hv183) rfl rfl),
                 st_run 2 121 true rfl rfl rfl (List.Mem.head _) (op_move _ _ _ _ rfl rfl),
                 st_run 2 121 true rfl rfl rfl (List.Mem.head _) (op_move _ _ _ _ rfl rfl),
                 st_run 2 121 true rfl rfl rfl (List.Mem.head _) (op_slice_fr _ _ (Int.toNat 0) (Int.toNat v161) _ Try.underlying31 sz46 (by decide) rfl rfl rfl ⟨_, congrArg (fun j => AV.v (Value.int .i64 j)) (sli_bd hv184).2.1⟩ (sli_bd hv184).2.2.1 (by rw [gflat_len T_Rec.ilen]; exact Nat.mul_le_mul_right _ (sli_bd hv184).2.2.2) (gflat_sli T_Rec.ilen hv184)),
                 st_run 2 121 true rfl rfl rfl (List.Mem.head _) (op_app_fr _ _ _ _ _ el31 rfl rfl (gflat_len T_Rec.ilen _) (gflat_len T_Rec.ilen _) hv185 (gflat_app (app_eq hv185)) (by decide) (by decide)),
                 st_run 2 121 true rfl rfl rfl (List.Mem.head _) (op_call _ _ 27 _ _ rfl Try.call27 rfl (ok_wherrykeep_Recs v182.1 v185 _ hv186) rfl rfl),
                 st_plain rfl (op_pick _ _ true _ rfl rfl),
                 st_plain rfl (op_move _ _ _ _ (congrArg (fun b => AV.v (Value.bool b)) hg27_12) rfl),
                 st_skip 12 131 _ true rfl rfl rfl rfl (List.Mem.head _),
                 st_skip 12 131 _ true rfl rfl rfl rfl (List.Mem.head _),
                 st_skip 12 131 _ true rfl rfl rfl rfl (List.Mem.head _),
                 st_skip 12 131 _ true rfl rfl rfl rfl (List.Mem.head _),
                 st_plain rfl (op_pick _ _ false _ rfl rfl),
                 st_plain rfl (op_move _ _ _ _ rfl rfl),
                 st_skip 18 137 _ true rfl rfl rfl rfl (List.Mem.head _),
                 st_skip 18 137 _ true rfl rfl rfl rfl (List.Mem.head _),
                 st_skip 18 137 _ true rfl rfl rfl rfl (List.Mem.head _),
                 st_skip 18 137 _ true rfl rfl rfl rfl (List.Mem.head _),
                 st_skip 18 137 _ true rfl rfl rfl rfl (List.Mem.head _),
                 st_skip 18 137 _ true rfl rfl rfl rfl (List.Mem.head _),
                 st_skip 18 137 _ true rfl rfl rfl rfl (List.Mem.head _),
                 st_plain rfl (op_pick _ _ false _ rfl rfl),
                 st_plain rfl (op_move _ _ _ _ rfl rfl),
                 st_skip 27 146 _ true rfl rfl rfl rfl (List.Mem.head _),
                 st_plain rfl (op_pick _ _ false _ rfl rfl),
                 st_plain rfl (op_assign _ _ _ _ rfl rfl),
                 trivial⟩ ?_
                exact hl193 _ (Option.some.inj h).symm
              ·refine ht_anyR (by kernel_rfl) hn (El := (_ :: _ :: _ :: _ :: _ :: _ :: (119, .v (.int .i64 v182.2.1)) :: (120, .v (.bool (v182.2.1 == 0))) :: (121, .v (.bool false)) :: (122, .v undef) :: (123, .v undef) :: (124, .v undef) :: (125, .v undef) :: (126, .v undef) :: (127, .v undef) :: (128, .v undef) :: (129, .v undef) :: (130, .v (.bool false)) :: (131, .v (.bool false)) :: (132, .v undef) :: (133, .v undef) :: (134, .v undef) :: (135, .v undef) :: (136, .v (.bool false)) :: (137, .v (.bool false)) :: (138, .v undef) :: (139, .v undef) :: (140, .v undef) :: (141, .v undef) :: (142, .v undef) :: (143, .v undef) :: (144, .v undef) :: (145, .v (.bool false)) :: (146, .v (.bool false)) :: (147, .v undef) :: (148, .v (.bool false)) :: (6, .v (.bool false)) :: [])) (init := [0, 1, 2, 3, 4, 5]) (fin := [36]) (sps := (⟨[5], [], [6], [(.slot 119)]⟩ :: ⟨[6], [], [7], [(.slot 120)]⟩ :: ⟨[7], [], [8], [(.slot 121)]⟩ :: ⟨[8], [], [9], [(.slot 122)]⟩ :: ⟨[8], [], [10], [(.slot 123)]⟩ :: ⟨[8], [], [11], [(.slot 124)]⟩ :: ⟨[8], [], [12], [(.slot 125)]⟩ :: ⟨[8], [], [13], [(.slot 126)]⟩ :: ⟨[8], [], [14], [(.slot 127)]⟩ :: ⟨[8], [], [15], [(.slot 128)]⟩ :: ⟨[8], [], [16], [(.slot 129)]⟩ :: ⟨[8], [], [17], [(.slot 130)]⟩ :: ⟨[17], [], [18], [(.slot 131)]⟩ :: ⟨[18], [], [19], [(.slot 132)]⟩ :: ⟨[18], [], [20], [(.slot 133)]⟩ :: ⟨[18], [], [21], [(.slot 134)]⟩ :: ⟨[18], [], [22], [(.slot 135)]⟩ :: ⟨[18], [], [23], [(.slot 136)]⟩ :: ⟨[23], [], [24], [(.slot 137)]⟩ :: ⟨[24], [], [25], [(.slot 138)]⟩ :: ⟨[24], [], [26], [(.slot 139)]⟩ :: ⟨[24], [], [27], [(.slot 140)]⟩ :: ⟨[24], [], [28], [(.slot 141)]⟩ :: ⟨[24], [], [29], [(.slot 142)]⟩ :: ⟨[24], [], [30], [(.slot 143)]⟩ :: ⟨[24], [], [31], [(.slot 144)]⟩ :: ⟨[24], [], [32], [(.slot 145)]⟩ :: ⟨[32], [], [33], [(.slot 146)]⟩ :: ⟨[33], [], [34], [(.slot 147)]⟩ :: ⟨[33], [], [35], [(.slot 148)]⟩ :: ⟨[35], [], [36], [(.slot 6)]⟩ :: [])) (es' := [(6, .v (.bool false))]) (by kernel_rfl) rfl rfl
                ⟨st_plain rfl (op_move _ _ _ _ rfl rfl),
                st_plain rfl (op_bin _ _ _ _ _ rfl rfl rfl),
                st_plain rfl (op_move _ _ _ _ (congrArg (fun b => AV.v (Value.bool b)) hg27_2) rfl),
                st_skip 2 121 _ true rfl rfl rfl rfl (List.Mem.head _),
                st_skip 2 121 _ true rfl rfl rfl rfl (List.Mem.head _),
                st_skip 2 121 _ true rfl rfl rfl rfl (List.Mem.head _),
                st_skip 2 121 _ true rfl rfl rfl rfl (List.Mem.head _),
                st_skip 2 121 _ true rfl rfl rfl rfl (List.Mem.head _),
                st_skip 2 121 _ true rfl rfl rfl rfl (List.Mem.head _),
                st_skip 2 121 _ true rfl rfl rfl rfl (List.Mem.head _),
                st_skip 2 121 _ true rfl rfl rfl rfl (List.Mem.head _),
                st_plain rfl (op_pick _ _ false _ rfl rfl),
                st_plain rfl (op_move _ _ _ _ rfl rfl),
                st_skip 12 131 _ true rfl rfl rfl rfl (List.Mem.head _),
                st_skip 12 131 _ true rfl rfl rfl rfl (List.Mem.head _),
                st_skip 12 131 _ true rfl rfl rfl rfl (List.Mem.head _),
                st_skip 12 131 _ true rfl rfl rfl rfl (List.Mem.head _),
                st_plain rfl (op_pick _ _ false _ rfl rfl),
                st_plain rfl (op_move _ _ _ _ rfl rfl),
                st_skip 18 137 _ true rfl rfl rfl rfl (List.Mem.head _),
                st_skip 18 137 _ true rfl rfl rfl rfl (List.Mem.head _),
                st_skip 18 137 _ true rfl rfl rfl rfl (List.Mem.head _),
                st_skip 18 137 _ true rfl rfl rfl rfl (List.Mem.head _),
                st_skip 18 137 _ true rfl rfl rfl rfl (List.Mem.head _),
                st_skip 18 137 _ true rfl rfl rfl rfl (List.Mem.head _),
                st_skip 18 137 _ true rfl rfl rfl rfl (List.Mem.head _),
                st_plain rfl (op_pick _ _ false _ rfl rfl),
                st_plain rfl (op_move _ _ _ _ rfl rfl),
                st_skip 27 146 _ true rfl rfl rfl rfl (List.Mem.head _),
                st_plain rfl (op_pick _ _ false _ rfl rfl),
                st_plain rfl (op_assign _ _ _ _ rfl rfl),
                trivial⟩ ?_
               exact hl193 _ (Option.some.inj h).symm
           ·intro u177 h hl178 hr179
            refine cond_some h (fun hg23_2 h => ?_) (fun hg23_2 h => ?_)
            ·refine ht_seqR hn (El := (_ :: _ :: _ :: _ :: _ :: (94, .v (.int .i64 v163.2.1)) :: (95, .v (.bool (v163.2.1 != 7))) :: (96, .v (.bool true)) :: (97, .v undef) :: (98, .v undef) :: (99, .v undef) :: (100, .v undef) :: (101, .v (.bool true)) :: (102, .v (.bool true)) :: (103, .v undef) :: (104, .v undef) :: (105, .v undef) :: (106, .v (.bool true)) :: (107, .v (.bool true)) :: (108, .v undef) :: (109, .v undef) :: (110, .v undef) :: (111, .v (.bool true)) :: [])) (init := [0, 1, 2, 3, 4]) (fin := [0, 1, 2, 3, 22]) (sps := (⟨[4], [], [5], [(.slot 94)]⟩ :: ⟨[5], [], [6], [(.slot 95)]⟩ :: ⟨[6], [], [7], [(.slot 96)]⟩ :: ⟨[7], [], [8], [(.slot 97)]⟩ :: ⟨[7], [], [9], [(.slot 98)]⟩ :: ⟨[7], [], [10], [(.slot 99)]⟩ :: ⟨[7], [], [11], [(.slot 100)]⟩ :: ⟨[7], [], [12], [(.slot 101)]⟩ :: ⟨[12], [], [13], [(.slot 102)]⟩ :: ⟨[13], [], [14], [(.slot 103)]⟩ :: ⟨[13], [], [15], [(.slot 104)]⟩ :: ⟨[13], [], [16], [(.slot 105)]⟩ :: ⟨[13], [], [17], [(.slot 106)]⟩ :: ⟨[17], [], [18], [(.slot 107)]⟩ :: ⟨[18], [], [19], [(.slot 108)]⟩ :: ⟨[18], [], [20], [(.slot 109)]⟩ :: ⟨[18], [], [21], [(.slot 110)]⟩ :: ⟨[18], [], [22], [(.slot 111)]⟩ :: [])) (es' := [(_, _), (_, _), (_, _), (_, _), (111, .v (.bool true))]) (by kernel_rfl) rfl rfl
              ⟨st_plain rfl (op_move _ _ _ _ rfl rfl),
              st_plain rfl (op_bin _ _ _ _ _ rfl rfl rfl),
              st_plain rfl (op_move _ _ _ _ (congrArg (fun b => AV.v (Value.bool b)) hg23_2) rfl),
              st_skip 2 96 _ false rfl rfl rfl rfl (List.Mem.head _),
              st_skip 2 96 _ false rfl rfl rfl rfl (List.Mem.head _),
              st_skip 2 96 _ false rfl rfl rfl rfl (List.Mem.head _),
              st_skip 2 96 _ false rfl rfl rfl rfl (List.Mem.head _),
              st_plain rfl (op_pick _ _ true _ rfl rfl),
              st_plain rfl (op_move _ _ _ _ rfl rfl),
              st_skip 8 102 _ false rfl rfl rfl rfl (List.Mem.head _),
              st_skip 8 102 _ false rfl rfl rfl rfl (List.Mem.head _),
              st_skip 8 102 _ false rfl rfl rfl rfl (List.Mem.head _),
              st_plain rfl (op_pick _ _ true _ rfl rfl),
              st_plain rfl (op_move _ _ _ _ rfl rfl),
              st_skip 13 107 _ false rfl rfl rfl rfl (List.Mem.head _),
              st_skip 13 107 _ false rfl rfl rfl rfl (List.Mem.head _),
              st_skip 13 107 _ false rfl rfl rfl rfl (List.Mem.head _),
              st_plain rfl (op_pick _ _ true _ rfl rfl),
              trivial⟩ ?_
             exact hl178 _ (Option.some.inj h).symm
            ·obtain ⟨v164, hv164, h⟩ := bind_some h
             refine cond_some h (fun hg23_8 h => ?_) (fun hg23_8 h => ?_)
             ·refine ht_seqR hn (El := (_ :: _ :: _ :: _ :: _ :: (94, .v (.int .i64 v163.2.1)) :: (95, .v (.bool (v163.2.1 != 7))) :: (96, .v (.bool false)) :: (97, .ptr 7 0) :: (98, .agg [.v (.int .i64 0), .v (.bool false), .v (.string (⟨#[]⟩ : ByteArray)), .v (.string (⟨#[]⟩ : ByteArray)), .v (.slice none 0 0), .v (.slice none 0 0), .v (.bool false), .v (.string (⟨#[]⟩ : ByteArray)), .v (.int .i64 0), .v (.int .i64 0), .v (.slice none 0 0), .v (.int .i64 0), .v (.int .i64 0), .v (.int .i64 0), .v (.slice none 0 0)]) :: (99, .v (.int .i64 v164.1)) :: (7, .box 64 [.v (.int .i64 v164.2.limit), .fr (.own 46) false 15 (List.flatten (List.map T_Rec.ienc v164.2.recs)), .v (.int .i64 v164.2.used), .v (.int .i64 v164.2.safe), .v (.int .i64 v164.2.kept), .v (.int .i64 v164.2.life), .v (.bool v164.2.off), .v (.int .i64 v164.2.trip), .v (.int .i64 v164.2.tripKeep)]) :: (100, .v (.bool (v164.1 != 7))) :: (101, .v (.bool (v164.1 != 7))) :: (102, .v (.bool true)) :: (103, .v undef) :: (104, .v undef) :: (105, .v undef) :: (106, .v (.bool true)) :: (107, .v (.bool true)) :: (108, .v undef) :: (109, .v undef) :: (110, .v undef) :: (111, .v (.bool true)) :: [])) (init := [0, 1, 2, 3, 4]) (fin := [0, 1, 11, 3, 23]) (sps := (⟨[4], [], [5], [(.slot 94)]⟩ :: ⟨[5], [], [6], [(.slot 95)]⟩ :: ⟨[6], [], [7], [(.slot 96)]⟩ :: ⟨[7, 2], [], [8], [(.slot 97)]⟩ :: ⟨[7], [], [9], [(.slot 98)]⟩ :: ⟨[7, 8, 9], [2], [11, 10], [(.slot 99), (.cell 7 0), (.cell 7 1), (.cell 7 2), (.cell 7 3), (.cell 7 4), (.cell 7 5), (.cell 7 6), (.cell 7 7), (.cell 7 8)]⟩ :: ⟨[7, 10], [], [12], [(.slot 100)]⟩ :: ⟨[7, 12], [], [13], [(.slot 101)]⟩ :: ⟨[13], [], [14], [(.slot 102)]⟩ :: ⟨[14], [], [15], [(.slot 103)]⟩ :: ⟨[14], [], [16], [(.slot 104)]⟩ :: ⟨[14], [], [17], [(.slot 105)]⟩ :: ⟨[14], [], [18], [(.slot 106)]⟩ :: ⟨[18], [], [19], [(.slot 107)]⟩ :: ⟨[19], [], [20], [(.slot 108)]⟩ :: ⟨[19], [], [21], [(.slot 109)]⟩ :: ⟨[19], [], [22], [(.slot 110)]⟩ :: ⟨[19], [], [23], [(.slot 111)]⟩ :: [])) (es' := [(_, _), (_, _), (7, .box 64 [.v (.int .i64 v164.2.limit), .fr (.own 46) false 15 (List.flatten (List.map T_Rec.ienc v164.2.recs)), .v (.int .i64 v164.2.used), .v (.int .i64 v164.2.safe), .v (.int .i64 v164.2.kept), .v (.int .i64 v164.2.life), .v (.bool v164.2.off), .v (.int .i64 v164.2.trip), .v (.int .i64 v164.2.tripKeep)]), (_, _), (111, .v (.bool true))]) (by kernel_rfl) rfl rfl
               ⟨st_plain rfl (op_move _ _ _ _ rfl rfl),
               st_plain rfl (op_bin _ _ _ _ _ rfl rfl rfl),
               st_plain rfl (op_move _ _ _ _ (congrArg (fun b => AV.v (Value.bool b)) hg23_2) rfl),
               st_run 2 96 false rfl rfl rfl (List.Mem.head _) (op_move _ _ _ _ rfl rfl),
               st_run 2 96 false rfl rfl rfl (List.Mem.head _) (op_build _ _ _ _ [1, 8, 1, 1, 1, 1, 1, 1] _ _ Try.underlying46 zr46 (fs46 _ Try.underlying46) Src.nil rfl rfl rfl),
               st_run 2 96 false rfl rfl rfl (List.Mem.head _) (op_callP _ _ _ _ 99 15 [.tmp 97] [.tmp 98] _ _ _ rfl Try.call15 rfl rfl rfl ((ok_diary_Diary_Put v163.2.2 ((T_Rec.mk 0 ((T_Mail.mk ((T_Path.mk false (⟨#[]⟩ : ByteArray) (⟨#[]⟩ : ByteArray))) [] [] false (⟨#[]⟩ : ByteArray) 0)) 0 [] 0 0 0 [])) _ hv164).args (subs_cons (sub_refl _) (subs_cons (sub_agg (subs_cons (sub_refl _) (subs_cons (sub_refl _) (subs_cons (sub_refl _) (subs_cons (sub_refl _) (subs_cons (sub_nil_shr 3) (subs_cons (sub_nil_shr 1) (subs_cons (sub_refl _) (subs_cons (sub_refl _) (subs_cons (sub_refl _) (subs_cons (sub_refl _) (subs_cons (sub_nil_shr 1) (subs_cons (sub_refl _) (subs_cons (sub_refl _) (subs_cons (sub_refl _) (subs_cons (sub_nil_shr 1) (subs_nil))))))))))))))))) (subs_nil)))) (Nat.le_of_ble_eq_true rfl) rfl rfl rfl rfl rfl rfl rfl rfl),
               st_run 2 96 false rfl rfl rfl (List.Mem.head _) (op_bin _ _ _ _ _ rfl rfl rfl),
               st_plain rfl (op_pick _ _ false _ rfl rfl),
               st_plain rfl (op_move _ _ _ _ (congrArg (fun b => AV.v (Value.bool b)) hg23_8) rfl),
               st_skip 8 102 _ false rfl rfl rfl rfl (List.Mem.head _),
               st_skip 8 102 _ false rfl rfl rfl rfl (List.Mem.head _),
               st_skip 8 102 _ false rfl rfl rfl rfl (List.Mem.head _),
               st_plain rfl (op_pick _ _ true _ rfl rfl),
               st_plain rfl (op_move _ _ _ _ rfl rfl),
               st_skip 13 107 _ false rfl rfl rfl rfl (List.Mem.head _),
               st_skip 13 107 _ false rfl rfl rfl rfl (List.Mem.head _),
               st_skip 13 107 _ false rfl rfl rfl rfl (List.Mem.head _),
               st_plain rfl (op_pick _ _ true _ rfl rfl),
               trivial⟩ ?_
              exact hl178 _ (Option.some.inj h).symm
             ·obtain ⟨v165, hv165, h⟩ := bind_some h
              refine cond_some h (fun hg23_13 h => ?_) (fun hg23_13 h => ?_)
              ·refine ht_seqR hn (El := (_ :: _ :: _ :: _ :: _ :: (94, .v (.int .i64 v163.2.1)) :: (95, .v (.bool (v163.2.1 != 7))) :: (96, .v (.bool false)) :: (97, .ptr 7 0) :: (98, .agg [.v (.int .i64 0), .v (.bool false), .v (.string (⟨#[]⟩ : ByteArray)), .v (.string (⟨#[]⟩ : ByteArray)), .v (.slice none 0 0), .v (.slice none 0 0), .v (.bool false), .v (.string (⟨#[]⟩ : ByteArray)), .v (.int .i64 0), .v (.int .i64 0), .v (.slice none 0 0), .v (.int .i64 0), .v (.int .i64 0), .v (.int .i64 0), .v (.slice none 0 0)]) :: (99, .v (.int .i64 v164.1)) :: (7, .box 64 [.v (.int .i64 v164.2.limit), .fr (.own 46) false 15 (List.flatten (List.map T_Rec.ienc v164.2.recs)), .v (.int .i64 v164.2.used), .v (.int .i64 v164.2.safe), .v (.int .i64 v164.2.kept), .v (.int .i64 v164.2.life), .v (.bool v164.2.off), .v (.int .i64 v164.2.trip), .v (.int .i64 v164.2.tripKeep)]) :: (100, .v (.bool (v164.1 != 7))) :: (101, .v (.bool (v164.1 != 7))) :: (102, .v (.bool false)) :: (103, .ptr 7 0) :: (104, .v (.int .i64 v165.1)) :: (7, .box 64 [.v (.int .i64 v165.2.limit), .fr (.own 46) false 15 (List.flatten (List.map T_Rec.ienc v165.2.recs)), .v (.int .i64 v165.2.used), .v (.int .i64 v165.2.safe), .v (.int .i64 v165.2.kept), .v (.int .i64 v165.2.life), .v (.bool v165.2.off), .v (.int .i64 v165.2.trip), .v (.int .i64 v165.2.tripKeep)]) :: (105, .v (.bool (v165.1 != 7))) :: (106, .v (.bool (v165.1 != 7))) :: (107, .v (.bool true)) :: (108, .v undef) :: (109, .v undef) :: (110, .v undef) :: (111, .v (.bool true)) :: [])) (init := [0, 1, 2, 3, 4]) (fin := [0, 1, 17, 3, 24]) (sps := (⟨[4], [], [5], [(.slot 94)]⟩ :: ⟨[5], [], [6], [(.slot 95)]⟩ :: ⟨[6], [], [7], [(.slot 96)]⟩ :: ⟨[7, 2], [], [8], [(.slot 97)]⟩ :: ⟨[7], [], [9], [(.slot 98)]⟩ :: ⟨[7, 8, 9], [2], [11, 10], [(.slot 99), (.cell 7 0), (.cell 7 1), (.cell 7 2), (.cell 7 3), (.cell 7 4), (.cell 7 5), (.cell 7 6), (.cell 7 7), (.cell 7 8)]⟩ :: ⟨[7, 10], [], [12], [(.slot 100)]⟩ :: ⟨[7, 12], [], [13], [(.slot 101)]⟩ :: ⟨[13], [], [14], [(.slot 102)]⟩ :: ⟨[14, 11], [], [15], [(.slot 103)]⟩ :: ⟨[14, 15], [11], [17, 16], [(.slot 104), (.cell 7 0), (.cell 7 1), (.cell 7 2), (.cell 7 3), (.cell 7 4), (.cell 7 5), (.cell 7 6), (.cell 7 7), (.cell 7 8)]⟩ :: ⟨[14, 16], [], [18], [(.slot 105)]⟩ :: ⟨[14, 18], [], [19], [(.slot 106)]⟩ :: ⟨[19], [], [20], [(.slot 107)]⟩ :: ⟨[20], [], [21], [(.slot 108)]⟩ :: ⟨[20], [], [22], [(.slot 109)]⟩ :: ⟨[20], [], [23], [(.slot 110)]⟩ :: ⟨[20], [], [24], [(.slot 111)]⟩ :: [])) (es' := [(_, _), (_, _), (7, .box 64 [.v (.int .i64 v165.2.limit), .fr (.own 46) false 15 (List.flatten (List.map T_Rec.ienc v165.2.recs)), .v (.int .i64 v165.2.used), .v (.int .i64 v165.2.safe), .v (.int .i64 v165.2.kept), .v (.int .i64 v165.2.life), .v (.bool v165.2.off), .v (.int .i64 v165.2.trip), .v (.int .i64 v165.2.tripKeep)]), (_, _), (111, .v (.bool true))]) (by kernel_rfl) rfl rfl
                ⟨st_plain rfl (op_move _ _ _ _ rfl rfl),
                st_plain rfl (op_bin _ _ _ _ _ rfl rfl rfl),
                st_plain rfl (op_move _ _ _ _ (congrArg (fun b => AV.v (Value.bool b)) hg23_2) rfl),
                st_run 2 96 false rfl rfl rfl (List.Mem.head _) (op_move _ _ _ _ rfl rfl),
                st_run 2 96 false rfl rfl rfl (List.Mem.head _) (op_build _ _ _ _ [1, 8, 1, 1, 1, 1, 1, 1] _ _ Try.underlying46 zr46 (fs46 _ Try.underlying46) Src.nil rfl rfl rfl),
                st_run 2 96 false rfl rfl rfl (List.Mem.head _) (op_callP _ _ _ _ 99 15 [.tmp 97] [.tmp 98] _ _ _ rfl Try.call15 rfl rfl rfl ((ok_diary_Diary_Put v163.2.2 ((T_Rec.mk 0 ((T_Mail.mk ((T_Path.mk false (⟨#[]⟩ : ByteArray) (⟨#[]⟩ : ByteArray))) [] [] false (⟨#[]⟩ : ByteArray) 0)) 0 [] 0 0 0 [])) _ hv164).args (subs_cons (sub_refl _) (subs_cons (sub_agg (subs_cons (sub_refl _) (subs_cons (sub_refl _) (subs_cons (sub_refl _) (subs_cons (sub_refl _) (subs_cons (sub_nil_shr 3) (subs_cons (sub_nil_shr 1) (subs_cons (sub_refl _) (subs_cons (sub_refl _) (subs_cons (sub_refl _) (subs_cons (sub_refl _) (subs_cons (sub_nil_shr 1) (subs_cons (sub_refl _) (subs_cons (sub_refl _) (subs_cons (sub_refl _) (subs_cons (sub_nil_shr 1) (subs_nil))))))))))))))))) (subs_nil)))) (Nat.le_of_ble_eq_true rfl) rfl rfl rfl rfl rfl rfl rfl rfl),
                st_run 2 96 false rfl rfl rfl (List.Mem.head _) (op_bin _ _ _ _ _ rfl rfl rfl),
                st_plain rfl (op_pick _ _ false _ rfl rfl),
                st_plain rfl (op_move _ _ _ _ (congrArg (fun b => AV.v (Value.bool b)) hg23_8) rfl),
                st_run 8 102 false rfl rfl rfl (List.Mem.head _) (op_move _ _ _ _ rfl rfl),
                st_run 8 102 false rfl rfl rfl (List.Mem.head _) (op_callP _ _ _ _ 104 17 [.tmp 103] [] _ _ _ rfl Try.call17 rfl rfl rfl (ok_diary_Diary_Sync v164.2 _ hv165) (Nat.le_of_ble_eq_true rfl) rfl rfl rfl rfl rfl rfl rfl rfl),
                st_run 8 102 false rfl rfl rfl (List.Mem.head _) (op_bin _ _ _ _ _ rfl rfl rfl),
                st_plain rfl (op_pick _ _ false _ rfl rfl),
                st_plain rfl (op_move _ _ _ _ (congrArg (fun b => AV.v (Value.bool b)) hg23_13) rfl),
                st_skip 13 107 _ false rfl rfl rfl rfl (List.Mem.head _),
                st_skip 13 107 _ false rfl rfl rfl rfl (List.Mem.head _),
                st_skip 13 107 _ false rfl rfl rfl rfl (List.Mem.head _),
                st_plain rfl (op_pick _ _ true _ rfl rfl),
                trivial⟩ ?_
               exact hl178 _ (Option.some.inj h).symm
              ·obtain ⟨v166, hv166, h⟩ := bind_some h
               refine ht_seqR hn (El := (_ :: _ :: _ :: _ :: _ :: (94, .v (.int .i64 v163.2.1)) :: (95, .v (.bool (v163.2.1 != 7))) :: (96, .v (.bool false)) :: (97, .ptr 7 0) :: (98, .agg [.v (.int .i64 0), .v (.bool false), .v (.string (⟨#[]⟩ : ByteArray)), .v (.string (⟨#[]⟩ : ByteArray)), .v (.slice none 0 0), .v (.slice none 0 0), .v (.bool false), .v (.string (⟨#[]⟩ : ByteArray)), .v (.int .i64 0), .v (.int .i64 0), .v (.slice none 0 0), .v (.int .i64 0), .v (.int .i64 0), .v (.int .i64 0), .v (.slice none 0 0)]) :: (99, .v (.int .i64 v164.1)) :: (7, .box 64 [.v (.int .i64 v164.2.limit), .fr (.own 46) false 15 (List.flatten (List.map T_Rec.ienc v164.2.recs)), .v (.int .i64 v164.2.used), .v (.int .i64 v164.2.safe), .v (.int .i64 v164.2.kept), .v (.int .i64 v164.2.life), .v (.bool v164.2.off), .v (.int .i64 v164.2.trip), .v (.int .i64 v164.2.tripKeep)]) :: (100, .v (.bool (v164.1 != 7))) :: (101, .v (.bool (v164.1 != 7))) :: (102, .v (.bool false)) :: (103, .ptr 7 0) :: (104, .v (.int .i64 v165.1)) :: (7, .box 64 [.v (.int .i64 v165.2.limit), .fr (.own 46) false 15 (List.flatten (List.map T_Rec.ienc v165.2.recs)), .v (.int .i64 v165.2.used), .v (.int .i64 v165.2.safe), .v (.int .i64 v165.2.kept), .v (.int .i64 v165.2.life), .v (.bool v165.2.off), .v (.int .i64 v165.2.trip), .v (.int .i64 v165.2.tripKeep)]) :: (105, .v (.bool (v165.1 != 7))) :: (106, .v (.bool (v165.1 != 7))) :: (107, .v (.bool false)) :: (108, .ptr 7 0) :: (109, .v (.int .i64 v166.1)) :: (7, .box 64 [.v (.int .i64 v166.2.limit), .fr (.own 46) false 15 (List.flatten (List.map T_Rec.ienc v166.2.recs)), .v (.int .i64 v166.2.used), .v (.int .i64 v166.2.safe), .v (.int .i64 v166.2.kept), .v (.int .i64 v166.2.life), .v (.bool v166.2.off), .v (.int .i64 v166.2.trip), .v (.int .i64 v166.2.tripKeep)]) :: (110, .v (.bool (v166.1 != 7))) :: (111, .v (.bool (v166.1 != 7))) :: [])) (init := [0, 1, 2, 3, 4]) (fin := [0, 1, 23, 3, 25]) (sps := (⟨[4], [], [5], [(.slot 94)]⟩ :: ⟨[5], [], [6], [(.slot 95)]⟩ :: ⟨[6], [], [7], [(.slot 96)]⟩ :: ⟨[7, 2], [], [8], [(.slot 97)]⟩ :: ⟨[7], [], [9], [(.slot 98)]⟩ :: ⟨[7, 8, 9], [2], [11, 10], [(.slot 99), (.cell 7 0), (.cell 7 1), (.cell 7 2), (.cell 7 3), (.cell 7 4), (.cell 7 5), (.cell 7 6), (.cell 7 7), (.cell 7 8)]⟩ :: ⟨[7, 10], [], [12], [(.slot 100)]⟩ :: ⟨[7, 12], [], [13], [(.slot 101)]⟩ :: ⟨[13], [], [14], [(.slot 102)]⟩ :: ⟨[14, 11], [], [15], [(.slot 103)]⟩ :: ⟨[14, 15], [11], [17, 16], [(.slot 104), (.cell 7 0), (.cell 7 1), (.cell 7 2), (.cell 7 3), (.cell 7 4), (.cell 7 5), (.cell 7 6), (.cell 7 7), (.cell 7 8)]⟩ :: ⟨[14, 16], [], [18], [(.slot 105)]⟩ :: ⟨[14, 18], [], [19], [(.slot 106)]⟩ :: ⟨[19], [], [20], [(.slot 107)]⟩ :: ⟨[20, 17], [], [21], [(.slot 108)]⟩ :: ⟨[20, 21], [17], [23, 22], [(.slot 109), (.cell 7 0), (.cell 7 1), (.cell 7 2), (.cell 7 3), (.cell 7 4), (.cell 7 5), (.cell 7 6), (.cell 7 7), (.cell 7 8)]⟩ :: ⟨[20, 22], [], [24], [(.slot 110)]⟩ :: ⟨[20, 24], [], [25], [(.slot 111)]⟩ :: [])) (es' := [(_, _), (_, _), (7, .box 64 [.v (.int .i64 v166.2.limit), .fr (.own 46) false 15 (List.flatten (List.map T_Rec.ienc v166.2.recs)), .v (.int .i64 v166.2.used), .v (.int .i64 v166.2.safe), .v (.int .i64 v166.2.kept), .v (.int .i64 v166.2.life), .v (.bool v166.2.off), .v (.int .i64 v166.2.trip), .v (.int .i64 v166.2.tripKeep)]), (_, _), (111, .v (.bool (v166.1 != 7)))]) (by kernel_rfl) rfl rfl
                ⟨st_plain rfl (op_move _ _ _ _ rfl rfl),
                st_plain rfl (op_bin _ _ _ _ _ rfl rfl rfl),
                st_plain rfl (op_move _ _ _ _ (congrArg (fun b => AV.v (Value.bool b)) hg23_2) rfl),
                st_run 2 96 false rfl rfl rfl (List.Mem.head _) (op_move _ _ _ _ rfl rfl),
                st_run 2 96 false rfl rfl rfl (List.Mem.head _) (op_build _ _ _ _ [1, 8, 1, 1, 1, 1, 1, 1] _ _ Try.underlying46 zr46 (fs46 _ Try.underlying46) Src.nil rfl rfl rfl),
                st_run 2 96 false rfl rfl rfl (List.Mem.head _) (op_callP _ _ _ _ 99 15 [.tmp 97] [.tmp 98] _ _ _ rfl Try.call15 rfl rfl rfl ((ok_diary_Diary_Put v163.2.2 ((T_Rec.mk 0 ((T_Mail.mk ((T_Path.mk false (⟨#[]⟩ : ByteArray) (⟨#[]⟩ : ByteArray))) [] [] false (⟨#[]⟩ : ByteArray) 0)) 0 [] 0 0 0 [])) _ hv164).args (subs_cons (sub_refl _) (subs_cons (sub_agg (subs_cons (sub_refl _) (subs_cons (sub_refl _) (subs_cons (sub_refl _) (subs_cons (sub_refl _) (subs_cons (sub_nil_shr 3) (subs_cons (sub_nil_shr 1) (subs_cons (sub_refl _) (subs_cons (sub_refl _) (subs_cons (sub_refl _) (subs_cons (sub_refl _) (subs_cons (sub_nil_shr 1) (subs_cons (sub_refl _) (subs_cons (sub_refl _) (subs_cons (sub_refl _) (subs_cons (sub_nil_shr 1) (subs_nil))))))))))))))))) (subs_nil)))) (Nat.le_of_ble_eq_true rfl) rfl rfl rfl rfl rfl rfl rfl rfl),
                st_run 2 96 false rfl rfl rfl (List.Mem.head _) (op_bin _ _ _ _ _ rfl rfl rfl),
                st_plain rfl (op_pick _ _ false _ rfl rfl),
                st_plain rfl (op_move _ _ _ _ (congrArg (fun b => AV.v (Value.bool b)) hg23_8) rfl),
                st_run 8 102 false rfl rfl rfl (List.Mem.head _) (op_move _ _ _ _ rfl rfl),
                st_run 8 102 false rfl rfl rfl (List.Mem.head _) (op_callP _ _ _ _ 104 17 [.tmp 103] [] _ _ _ rfl Try.call17 rfl rfl rfl (ok_diary_Diary_Sync v164.2 _ hv165) (Nat.le_of_ble_eq_true rfl) rfl rfl rfl rfl rfl rfl rfl rfl),
                st_run 8 102 false rfl rfl rfl (List.Mem.head _) (op_bin _ _ _ _ _ rfl rfl rfl),
                st_plain rfl (op_pick _ _ false _ rfl rfl),
                st_plain rfl (op_move _ _ _ _ (congrArg (fun b => AV.v (Value.bool b)) hg23_13) rfl),
                st_run 13 107 false rfl rfl rfl (List.Mem.head _) (op_move _ _ _ _ rfl rfl),
                st_run 13 107 false rfl rfl rfl (List.Mem.head _) (op_callP _ _ _ _ 109 19 [.tmp 108] [_] _ _ _ rfl Try.call19 rfl rfl rfl ((ok_diary_Diary_Renew v165.2 [] _ hv166).args (subs_cons (sub_refl _) (subs_cons (sub_nil_frs true 15) (subs_nil)))) (Nat.le_of_ble_eq_true rfl) rfl rfl rfl rfl rfl rfl rfl rfl),
                st_run 13 107 false rfl rfl rfl (List.Mem.head _) (op_bin _ _ _ _ _ rfl rfl rfl),
                st_plain rfl (op_pick _ _ false _ rfl rfl),
                trivial⟩ ?_
               exact hl178 _ (Option.some.inj h).symm
          ·rintro u148 hl149 hr150 ⟨s123, s124, s125, s126, s127, s128, s129, s130, s131, s132⟩ rr153 h ho151
           refine ht_seq ?_
           refine ht_seq ?_
           refine ht_seqR hn (El := [_, _, _, _, _, (62, .v (.int .i64 s132)), (63, .fr .shr true 15 (List.flatten (List.map T_Rec.ienc more))), (64, .v (.int .i64 (more.length : Int))), (65, .v (.bool ((decide (s132 < (more.length : Int))))))]) (init := [0, 1, 2, 3, 4]) (fin := [0, 1, 2, 3, 4, 8]) (sps := [⟨[4], [], [5], [(.slot 62)]⟩, ⟨[1], [], [6], [(.slot 63)]⟩, ⟨[6], [], [7], [(.slot 64)]⟩, ⟨[5, 7], [], [8], [(.slot 65)]⟩]) (es' := [(_, _), (_, _), (_, _), (_, _), (_, _), (65, .v (.bool ((decide (s132 < (more.length : Int))))))]) (by kernel_rfl) rfl rfl
            ⟨st_plain rfl (op_move _ _ _ _ rfl rfl),
            st_plain rfl (op_move _ _ _ _ rfl rfl),
            st_plain rfl (op_len_fr _ _ _ Try.underlying31 rfl (by decide) (gflat_len T_Rec.ilen _)),
            st_plain rfl (op_bin _ _ _ _ _ rfl rfl rfl),
            trivial⟩ ?_
           refine pt_then ?_
           refine ht_cond _ rfl (fun hb154 => ?_) (fun hb154 => ?_)
           ·have h := cond_t hb154 h
            refine ht_skip ?_
            refine pt_then ?_
            refine ht_seq ?_
            refine ht_block ?_
            refine ht_seq ?_
            obtain ⟨v97, hv97, h⟩ := bind_some h
            obtain ⟨v98, hv98, h⟩ := bind_some h
            obtain ⟨v99, hv99, h⟩ := bind_some h
            refine ht_seqR hn (El := [_, _, _, _, _, _, (68, .ptr 7 0), (69, .fr .shr true 15 (List.flatten (List.map T_Rec.ienc more))), (70, .v (.int .i64 s132)), (71, .eref (.slot 69) (v97 * 15)), (72, .agg [.v (.int .i64 v98.Kind), .v (.bool v98.Mail.From.Null), .v (.string v98.Mail.From.Local), .v (.string v98.Mail.From.Domain), .fl .shr 3 (List.flatten (List.map T_Path.enc v98.Mail.To)), .fl .shr 1 (List.map (Value.int .u8) v98.Mail.Body), .v (.bool v98.Mail.Quiet), .v (.string v98.Mail.Helo), .v (.int .i64 v98.Mail.At), .v (.int .i64 v98.Id), .fl .shr 1 (List.map (Value.int .i64) v98.Ids), .v (.int .i64 v98.Origin), .v (.int .i64 v98.Number), .v (.int .i64 v98.Offset), .fl .shr 1 (List.map (Value.int .u8) v98.Data)]), (73, .v (.int .i64 v99.1)), (7, .box 64 [.v (.int .i64 v99.2.limit), .fr (.own 46) false 15 (List.flatten (List.map T_Rec.ienc v99.2.recs)), .v (.int .i64 v99.2.used), .v (.int .i64 v99.2.safe), .v (.int .i64 v99.2.kept), .v (.int .i64 v99.2.life), .v (.bool v99.2.off), .v (.int .i64 v99.2.trip), .v (.int .i64 v99.2.tripKeep)]), (12, .v (.int .i64 v99.1))]) (init := [0, 1, 2, 3, 4, 5]) (fin := [0, 1, 2, 12, 4, 13]) (sps := [⟨[3], [], [6], [(.slot 68)]⟩, ⟨[1], [], [7], [(.slot 69)]⟩, ⟨[4], [], [8], [(.slot 70)]⟩, ⟨[7, 8], [], [9], [(.slot 71)]⟩, ⟨[9, 7], [], [10], [(.slot 72)]⟩, ⟨[6, 10], [3], [12, 11], [(.slot 73), (.cell 7 0), (.cell 7 1), (.cell 7 2), (.cell 7 3), (.cell 7 4), (.cell 7 5), (.cell 7 6), (.cell 7 7), (.cell 7 8)]⟩, ⟨[11], [], [13], [(.slot 12)]⟩]) (es' := [(_, _), (_, _), (_, _), (7, .box 64 [.v (.int .i64 v99.2.limit), .fr (.own 46) false 15 (List.flatten (List.map T_Rec.ienc v99.2.recs)), .v (.int .i64 v99.2.used), .v (.int .i64 v99.2.safe), .v (.int .i64 v99.2.kept), .v (.int .i64 v99.2.life), .v (.bool v99.2.off), .v (.int .i64 v99.2.trip), .v (.int .i64 v99.2.tripKeep)]), (_, _), (12, .v (.int .i64 v99.1))]) (by kernel_rfl) rfl rfl
             ⟨st_plain rfl (op_move _ _ _ _ rfl rfl),
             st_plain rfl (op_move _ _ _ _ rfl rfl),
             st_plain rfl (op_move _ _ _ _ rfl rfl),
             st_plain rfl (op_ix_fr _ _ _ _ _ _ _ _ Try.underlying31 sz46 (by decide) rfl rfl rfl (ix_ok hv97).1 (gflat_lt T_Rec.ilen (ix_ok hv97).2) rfl),
             st_plain rfl (op_loadA_fr _ _ _ _ _ _ _ _ Try.underlying46 rfl sz46 rfl rfl (gflat_get T_Rec.ilen hv98) (.cons (.v _) (.cons (.v _) (.cons (.v _) (.cons (.v _) (.cons (.fl _ _ rfl) (.cons (.fl _ _ rfl) (.cons (.v _) (.cons (.v _) (.cons (.v _) (.cons (.v _) (.cons (.fl _ _ rfl) (.cons (.v _) (.cons (.v _) (.cons (.v _) (.cons (.fl _ _ rfl) (.nil)))))))))))))))) rfl (by decide)),
             st_plain rfl (op_callP _ _ _ _ 73 15 [.tmp 68] [.tmp 72] _ _ _ rfl Try.call15 rfl rfl rfl (ok_diary_Diary_Put (T_diary_Diary.mk s123 s124 s125 s126 s127 s128 s129 s130 s131) ((T_Rec.mk v98.Kind ((T_Mail.mk (T_Path.mk v98.Mail.From.Null v98.Mail.From.Local v98.Mail.From.Domain) v98.Mail.To v98.Mail.Body v98.Mail.Quiet v98.Mail.Helo v98.Mail.At)) v98.Id v98.Ids v98.Origin v98.Number v98.Offset v98.Data)) _ hv99) (Nat.le_of_ble_eq_true rfl) rfl rfl rfl rfl rfl rfl rfl rfl),
             st_plain rfl (op_assign _ _ _ _ rfl rfl),
             trivial⟩ ?_
            refine pt_then ?_
            refine ht_seq ?_
            refine ht_seqR hn (El := [_, _, _, _, _, _, (74, .v (.int .i64 v99.1)), (75, .v (.bool (v99.1 != 0)))]) (init := [0, 1, 2, 3, 4, 5]) (fin := [0, 1, 2, 3, 4, 5, 7]) (sps := [⟨[5], [], [6], [(.slot 74)]⟩, ⟨[6], [], [7], [(.slot 75)]⟩]) (es' := [(_, _), (_, _), (_, _), (_, _), (_, _), (_, _), (75, .v (.bool (v99.1 != 0)))]) (by kernel_rfl) rfl rfl
             ⟨st_plain rfl (op_move _ _ _ _ rfl rfl),
             st_plain rfl (op_bin _ _ _ _ _ rfl rfl rfl),
             trivial⟩ ?_
            refine pt_then ?_
            refine ht_cond _ rfl (fun hb155 => ?_) (fun hb155 => ?_)
            ·have h := cond_t hb155 h
             refine ht_seq ?_
             refine ht_joinS h (fun (s156 : Bool) => [(6, .v (.bool s156))]) ?_ ?_
             ·rintro s156 h
              refine pt_then ?_
              refine ht_ret ?_
              refine pt_r_in ?_
              refine pt_r_then ?_
              refine pt_r_then ?_
              refine pt_r_in ?_
              refine pt_r_then ?_
              have h := hr150 _ (ho151 _ (Option.some.inj h).symm).symm
              obtain rfl := Option.some.inj h
              exact pt_ret hio rfl (.tmp _ _ .nil) rfl rfl
             ·intro u157 h hl158 hr159
              refine cond_some h (fun hg19_2 h => ?_) (fun hg19_2 h => ?_)
              ·obtain ⟨v101, hv101, h⟩ := bind_some h
               refine ht_seqR hn (El := [_, _, _, _, _, _, _, (76, .v (.int .i64 v99.1)), (77, .v (.bool (v99.1 == 8))), (78, .v (.bool true)), (79, .v (.bool v101)), (80, .v (.bool v101)), (6, .v (.bool v101))]) (init := [0, 1, 2, 3, 4, 5, 6]) (fin := [12]) (sps := [⟨[5], [], [7], [(.slot 76)]⟩, ⟨[7], [], [8], [(.slot 77)]⟩, ⟨[8], [], [9], [(.slot 78)]⟩, ⟨[9], [], [10], [(.slot 79)]⟩, ⟨[9, 10], [], [11], [(.slot 80)]⟩, ⟨[11], [], [12], [(.slot 6)]⟩]) (es' := [(6, .v (.bool v101))]) (by kernel_rfl) rfl rfl
                ⟨st_plain rfl (op_move _ _ _ _ rfl rfl),
                st_plain rfl (op_bin _ _ _ _ _ rfl rfl rfl),
                st_plain rfl (op_move _ _ _ _ (congrArg (fun b => AV.v (Value.bool b)) hg19_2) rfl),
                st_run 2 78 true rfl rfl rfl (List.Mem.head _) (op_call _ _ 12 _ _ rfl Try.call12 rfl (ok_wherrylaw18_wakes  _ hv101) rfl rfl),
                st_plain rfl (op_pick _ _ true _ rfl rfl),
                st_plain rfl (op_assign _ _ _ _ rfl rfl),
                trivial⟩ ?_
               exact hl158 _ (Option.some.inj h).symm
              ·refine ht_seqR hn (El := [_, _, _, _, _, _, _, (76, .v (.int .i64 v99.1)), (77, .v (.bool (v99.1 == 8))), (78, .v (.bool false)), (79, .v undef), (80, .v (.bool false)), (6, .v (.bool false))]) (init := [0, 1, 2, 3, 4, 5, 6]) (fin := [12]) (sps := [⟨[5], [], [7], [(.slot 76)]⟩, ⟨[7], [], [8], [(.slot 77)]⟩, ⟨[8], [], [9], [(.slot 78)]⟩, ⟨[9], [], [10], [(.slot 79)]⟩, ⟨[9], [], [11], [(.slot 80)]⟩, ⟨[11], [], [12], [(.slot 6)]⟩]) (es' := [(6, .v (.bool false))]) (by kernel_rfl) rfl rfl
                ⟨st_plain rfl (op_move _ _ _ _ rfl rfl),
                st_plain rfl (op_bin _ _ _ _ _ rfl rfl rfl),
                st_plain rfl (op_move _ _ _ _ (congrArg (fun b => AV.v (Value.bool b)) hg19_2) rfl),
                st_skip 2 78 _ true rfl rfl rfl rfl (List.Mem.head _),
                st_plain rfl (op_pick _ _ false _ rfl rfl),
                st_plain rfl (op_assign _ _ _ _ rfl rfl),
                trivial⟩ ?_
               exact hl158 _ (Option.some.inj h).symm
            ·have h := cond_f hb155 h
             refine ht_skip ?_
             refine pt_inb ?_
             refine pt_then ?_
             obtain ⟨v106, hv106, h⟩ := bind_some h
             refine ht_seqR hn (El := [_, _, _, _, _, _, _, (66, .v (.int .i64 s132)), (67, .v (.int .i64 v106)), (11, .v (.int .i64 v106))]) (init := [0, 1, 2, 3, 4, 5, 6]) (fin := [0, 1, 2, 3, 9]) (sps := [⟨[4], [], [7], [(.slot 66)]⟩, ⟨[7], [], [8], [(.slot 67)]⟩, ⟨[8], [4], [9], [(.slot 11)]⟩]) (es' := [(_, _), (_, _), (_, _), (_, _), (11, .v (.int .i64 v106))]) (by kernel_rfl) rfl rfl
              ⟨st_plain rfl (op_move _ _ _ _ rfl rfl),
              st_plain rfl (op_bin _ _ _ _ _ rfl rfl (ibind (f := Value.int .i64) (Option.some.inj hv106))),
              st_plain rfl (LOp.drop [_] (op_assign _ _ _ _ rfl rfl)),
              trivial⟩ ?_
             exact pt_next _ (Option.some.inj h).symm rfl
           ·have h := cond_f hb154 h
            refine ht_exit ?_
            refine pt_x_then ?_
            refine pt_x_then ?_
            refine pt_x_in ?_
            refine pt_pick [0, 1, 2, 3] (by kernel_rfl) (es' := [(_, _), (_, _), (_, _), (_, _)]) rfl ?_
            exact hl149 _ (ho151 _ (Option.some.inj h).symm).symm
        ·intro u92 h hl93 hr94
         obtain ⟨v80, hv80, h⟩ := bind_some h
         refine cond_some h (fun hg12_3 h => ?_) (fun hg12_3 h => ?_)
         ·refine ht_seqR hn (El := (_ :: _ :: _ :: _ :: (52, .ptr 7 0) :: (53, .v (.int .i64 v80.1)) :: (7, .box 64 [.v (.int .i64 v80.2.limit), .fr (.own 46) false 15 (List.flatten (List.map T_Rec.ienc v80.2.recs)), .v (.int .i64 v80.2.used), .v (.int .i64 v80.2.safe), .v (.int .i64 v80.2.kept), .v (.int .i64 v80.2.life), .v (.bool v80.2.off), .v (.int .i64 v80.2.trip), .v (.int .i64 v80.2.tripKeep)]) :: (54, .v (.bool (v80.1 != 0))) :: (55, .v (.bool true)) :: (56, .v undef) :: (57, .v undef) :: (58, .v undef) :: (59, .v undef) :: (60, .v undef) :: (61, .v (.bool true)) :: [])) (init := [0, 1, 2, 3]) (fin := [0, 1, 2, 6, 14]) (sps := [⟨[3], [], [4], [(.slot 52)]⟩, ⟨[4], [3], [6, 5], [(.slot 53), (.cell 7 0), (.cell 7 1), (.cell 7 2), (.cell 7 3), (.cell 7 4), (.cell 7 5), (.cell 7 6), (.cell 7 7), (.cell 7 8)]⟩, ⟨[5], [], [7], [(.slot 54)]⟩, ⟨[7], [], [8], [(.slot 55)]⟩, ⟨[8], [], [9], [(.slot 56)]⟩, ⟨[8], [], [10], [(.slot 57)]⟩, ⟨[8], [], [11], [(.slot 58)]⟩, ⟨[8], [], [12], [(.slot 59)]⟩, ⟨[8], [], [13], [(.slot 60)]⟩, ⟨[8], [], [14], [(.slot 61)]⟩]) (es' := [(_, _), (_, _), (_, _), (7, .box 64 [.v (.int .i64 v80.2.limit), .fr (.own 46) false 15 (List.flatten (List.map T_Rec.ienc v80.2.recs)), .v (.int .i64 v80.2.used), .v (.int .i64 v80.2.safe), .v (.int .i64 v80.2.kept), .v (.int .i64 v80.2.life), .v (.bool v80.2.off), .v (.int .i64 v80.2.trip), .v (.int .i64 v80.2.tripKeep)]), (61, .v (.bool true))]) (by kernel_rfl) rfl rfl
           ⟨st_plain rfl (op_move _ _ _ _ rfl rfl),
           st_plain rfl (op_callP _ _ _ _ 53 17 [.tmp 52] [] _ _ _ rfl Try.call17 rfl rfl rfl (ok_diary_Diary_Sync (T_diary_Diary.mk s59 s60 s61 s62 s63 s64 s65 s66 s67) _ hv80) (Nat.le_of_ble_eq_true rfl) rfl rfl rfl rfl rfl rfl rfl rfl),
           st_plain rfl (op_bin _ _ _ _ _ rfl rfl rfl),
           st_plain rfl (op_move _ _ _ _ (congrArg (fun b => AV.v (Value.bool b)) hg12_3) rfl),
           st_skip 3 55 _ false rfl rfl rfl rfl (List.Mem.head _),
           st_skip 3 55 _ false rfl rfl rfl rfl (List.Mem.head _),
           st_skip 3 55 _ false rfl rfl rfl rfl (List.Mem.head _),
           st_skip 3 55 _ false rfl rfl rfl rfl (List.Mem.head _),
           st_skip 3 55 _ false rfl rfl rfl rfl (List.Mem.head _),
           st_plain rfl (op_pick _ _ true _ rfl rfl),
           trivial⟩ ?_
          exact hl93 _ (Option.some.inj h).symm
         ·obtain ⟨v81, hv81, h⟩ := bind_some h
          refine ht_seqR hn (El := (_ :: _ :: _ :: _ :: (52, .ptr 7 0) :: (53, .v (.int .i64 v80.1)) :: (7, .box 64 [.v (.int .i64 v80.2.limit), .fr (.own 46) false 15 (List.flatten (List.map T_Rec.ienc v80.2.recs)), .v (.int .i64 v80.2.used), .v (.int .i64 v80.2.safe), .v (.int .i64 v80.2.kept), .v (.int .i64 v80.2.life), .v (.bool v80.2.off), .v (.int .i64 v80.2.trip), .v (.int .i64 v80.2.tripKeep)]) :: (54, .v (.bool (v80.1 != 0))) :: (55, .v (.bool false)) :: (56, .ptr 7 0) :: (57, .v (.int .i64 v81.1)) :: (7, .box 64 [.v (.int .i64 v81.2.limit), .fr (.own 46) false 15 (List.flatten (List.map T_Rec.ienc v81.2.recs)), .v (.int .i64 v81.2.used), .v (.int .i64 v81.2.safe), .v (.int .i64 v81.2.kept), .v (.int .i64 v81.2.life), .v (.bool v81.2.off), .v (.int .i64 v81.2.trip), .v (.int .i64 v81.2.tripKeep)]) :: (58, .fr .shr true 15 (List.flatten (List.map T_Rec.ienc l))) :: (59, .v (.int .i64 (l.length : Int))) :: (60, .v (.bool ((v81.1 != (l.length : Int))))) :: (61, .v (.bool ((v81.1 != (l.length : Int))))) :: [])) (init := [0, 1, 2, 3]) (fin := [0, 1, 2, 11, 15]) (sps := [⟨[3], [], [4], [(.slot 52)]⟩, ⟨[4], [3], [6, 5], [(.slot 53), (.cell 7 0), (.cell 7 1), (.cell 7 2), (.cell 7 3), (.cell 7 4), (.cell 7 5), (.cell 7 6), (.cell 7 7), (.cell 7 8)]⟩, ⟨[5], [], [7], [(.slot 54)]⟩, ⟨[7], [], [8], [(.slot 55)]⟩, ⟨[8, 6], [], [9], [(.slot 56)]⟩, ⟨[8, 9], [6], [11, 10], [(.slot 57), (.cell 7 0), (.cell 7 1), (.cell 7 2), (.cell 7 3), (.cell 7 4), (.cell 7 5), (.cell 7 6), (.cell 7 7), (.cell 7 8)]⟩, ⟨[8, 0], [], [12], [(.slot 58)]⟩, ⟨[8, 12], [], [13], [(.slot 59)]⟩, ⟨[8, 10, 13], [], [14], [(.slot 60)]⟩, ⟨[8, 14], [], [15], [(.slot 61)]⟩]) (es' := [(_, _), (_, _), (_, _), (7, .box 64 [.v (.int .i64 v81.2.limit), .fr (.own 46) false 15 (List.flatten (List.map T_Rec.ienc v81.2.recs)), .v (.int .i64 v81.2.used), .v (.int .i64 v81.2.safe), .v (.int .i64 v81.2.kept), .v (.int .i64 v81.2.life), .v (.bool v81.2.off), .v (.int .i64 v81.2.trip), .v (.int .i64 v81.2.tripKeep)]), (61, .v (.bool ((v81.1 != (l.length : Int)))))]) (by kernel_rfl) rfl rfl
           ⟨st_plain rfl (op_move _ _ _ _ rfl rfl),
           st_plain rfl (op_callP _ _ _ _ 53 17 [.tmp 52] [] _ _ _ rfl Try.call17 rfl rfl rfl (ok_diary_Diary_Sync (T_diary_Diary.mk s59 s60 s61 s62 s63 s64 s65 s66 s67) _ hv80) (Nat.le_of_ble_eq_true rfl) rfl rfl rfl rfl rfl rfl rfl rfl),
           st_plain rfl (op_bin _ _ _ _ _ rfl rfl rfl),
           st_plain rfl (op_move _ _ _ _ (congrArg (fun b => AV.v (Value.bool b)) hg12_3) rfl),
           st_run 3 55 false rfl rfl rfl (List.Mem.head _) (op_move _ _ _ _ rfl rfl),
           st_run 3 55 false rfl rfl rfl (List.Mem.head _) (op_callP _ _ _ _ 57 31 [.tmp 56] [] _ _ _ rfl Try.call31 rfl rfl rfl (ok_diary_Diary_Safe v80.2 _ hv81) (Nat.le_of_ble_eq_true rfl) rfl rfl rfl rfl rfl rfl rfl rfl),
           st_run 3 55 false rfl rfl rfl (List.Mem.head _) (op_move _ _ _ _ rfl rfl),
           st_run 3 55 false rfl rfl rfl (List.Mem.head _) (op_len_fr _ _ _ Try.underlying31 rfl (by decide) (gflat_len T_Rec.ilen _)),
           st_run 3 55 false rfl rfl rfl (List.Mem.head _) (op_bin _ _ _ _ _ rfl rfl rfl),
           st_plain rfl (op_pick _ _ false _ rfl rfl),
           trivial⟩ ?_
          exact hl93 _ (Option.some.inj h).symm
       ·rintro u68 hl69 hr70 ⟨s43, s44, s45, s46, s47, s48, s49, s50, s51, s52⟩ rr73 h ho71
        refine ht_seq ?_
        refine ht_seq ?_
        refine ht_seqR hn (El := [_, _, _, _, _, (33, .v (.int .i64 s52)), (34, .fr .shr true 15 (List.flatten (List.map T_Rec.ienc l))), (35, .v (.int .i64 (l.length : Int))), (36, .v (.bool ((decide (s52 < (l.length : Int))))))]) (init := [0, 1, 2, 3, 4]) (fin := [0, 1, 2, 3, 4, 8]) (sps := [⟨[4], [], [5], [(.slot 33)]⟩, ⟨[0], [], [6], [(.slot 34)]⟩, ⟨[6], [], [7], [(.slot 35)]⟩, ⟨[5, 7], [], [8], [(.slot 36)]⟩]) (es' := [(_, _), (_, _), (_, _), (_, _), (_, _), (36, .v (.bool ((decide (s52 < (l.length : Int))))))]) (by kernel_rfl) rfl rfl
         ⟨st_plain rfl (op_move _ _ _ _ rfl rfl),
         st_plain rfl (op_move _ _ _ _ rfl rfl),
         st_plain rfl (op_len_fr _ _ _ Try.underlying31 rfl (by decide) (gflat_len T_Rec.ilen _)),
         st_plain rfl (op_bin _ _ _ _ _ rfl rfl rfl),
         trivial⟩ ?_
        refine pt_then ?_
        refine ht_cond _ rfl (fun hb74 => ?_) (fun hb74 => ?_)
        ·have h := cond_t hb74 h
         refine ht_skip ?_
         refine pt_then ?_
         refine ht_seq ?_
         refine ht_block ?_
         refine ht_seq ?_
         obtain ⟨v17, hv17, h⟩ := bind_some h
         obtain ⟨v18, hv18, h⟩ := bind_some h
         obtain ⟨v19, hv19, h⟩ := bind_some h
         refine ht_seqR hn (El := [_, _, _, _, _, _, (39, .ptr 7 0), (40, .fr .shr true 15 (List.flatten (List.map T_Rec.ienc l))), (41, .v (.int .i64 s52)), (42, .eref (.slot 40) (v17 * 15)), (43, .agg [.v (.int .i64 v18.Kind), .v (.bool v18.Mail.From.Null), .v (.string v18.Mail.From.Local), .v (.string v18.Mail.From.Domain), .fl .shr 3 (List.flatten (List.map T_Path.enc v18.Mail.To)), .fl .shr 1 (List.map (Value.int .u8) v18.Mail.Body), .v (.bool v18.Mail.Quiet), .v (.string v18.Mail.Helo), .v (.int .i64 v18.Mail.At), .v (.int .i64 v18.Id), .fl .shr 1 (List.map (Value.int .i64) v18.Ids), .v (.int .i64 v18.Origin), .v (.int .i64 v18.Number), .v (.int .i64 v18.Offset), .fl .shr 1 (List.map (Value.int .u8) v18.Data)]), (44, .v (.int .i64 v19.1)), (7, .box 64 [.v (.int .i64 v19.2.limit), .fr (.own 46) false 15 (List.flatten (List.map T_Rec.ienc v19.2.recs)), .v (.int .i64 v19.2.used), .v (.int .i64 v19.2.safe), .v (.int .i64 v19.2.kept), .v (.int .i64 v19.2.life), .v (.bool v19.2.off), .v (.int .i64 v19.2.trip), .v (.int .i64 v19.2.tripKeep)]), (10, .v (.int .i64 v19.1))]) (init := [0, 1, 2, 3, 4, 5]) (fin := [0, 1, 2, 12, 4, 13]) (sps := [⟨[3], [], [6], [(.slot 39)]⟩, ⟨[0], [], [7], [(.slot 40)]⟩, ⟨[4], [], [8], [(.slot 41)]⟩, ⟨[7, 8], [], [9], [(.slot 42)]⟩, ⟨[9, 7], [], [10], [(.slot 43)]⟩, ⟨[6, 10], [3], [12, 11], [(.slot 44), (.cell 7 0), (.cell 7 1), (.cell 7 2), (.cell 7 3), (.cell 7 4), (.cell 7 5), (.cell 7 6), (.cell 7 7), (.cell 7 8)]⟩, ⟨[11], [], [13], [(.slot 10)]⟩]) (es' := [(_, _), (_, _), (_, _), (7, .box 64 [.v (.int .i64 v19.2.limit), .fr (.own 46) false 15 (List.flatten (List.map T_Rec.ienc v19.2.recs)), .v (.int .i64 v19.2.used), .v (.int .i64 v19.2.safe), .v (.int .i64 v19.2.kept), .v (.int .i64 v19.2.life), .v (.bool v19.2.off), .v (.int .i64 v19.2.trip), .v (.int .i64 v19.2.tripKeep)]), (_, _), (10, .v (.int .i64 v19.1))]) (by kernel_rfl) rfl rfl
          ⟨st_plain rfl (op_move _ _ _ _ rfl rfl),
          st_plain rfl (op_move _ _ _ _ rfl rfl),
          st_plain rfl (op_move _ _ _ _ rfl rfl),
          st_plain rfl (op_ix_fr _ _ _ _ _ _ _ _ Try.underlying31 sz46 (by decide) rfl rfl rfl (ix_ok hv17).1 (gflat_lt T_Rec.ilen (ix_ok hv17).2) rfl),
          st_plain rfl (op_loadA_fr _ _ _ _ _ _ _ _ Try.underlying46 rfl sz46 rfl rfl (gflat_get T_Rec.ilen hv18) (.cons (.v _) (.cons (.v _) (.cons (.v _) (.cons (.v _) (.cons (.fl _ _ rfl) (.cons (.fl _ _ rfl) (.cons (.v _) (.cons (.v _) (.cons (.v _) (.cons (.v _) (.cons (.fl _ _ rfl) (.cons (.v _) (.cons (.v _) (.cons (.v _) (.cons (.fl _ _ rfl) (.nil)))))))))))))))) rfl (by decide)),
          st_plain rfl (op_callP _ _ _ _ 44 15 [.tmp 39] [.tmp 43] _ _ _ rfl Try.call15 rfl rfl rfl (ok_diary_Diary_Put (T_diary_Diary.mk s43 s44 s45 s46 s47 s48 s49 s50 s51) ((T_Rec.mk v18.Kind ((T_Mail.mk (T_Path.mk v18.Mail.From.Null v18.Mail.From.Local v18.Mail.From.Domain) v18.Mail.To v18.Mail.Body v18.Mail.Quiet v18.Mail.Helo v18.Mail.At)) v18.Id v18.Ids v18.Origin v18.Number v18.Offset v18.Data)) _ hv19) (Nat.le_of_ble_eq_true rfl) rfl rfl rfl rfl rfl rfl rfl rfl),
          st_plain rfl (op_assign _ _ _ _ rfl rfl),
          trivial⟩ ?_
         refine pt_then ?_
         refine ht_seq ?_
         refine ht_seqR hn (El := [_, _, _, _, _, _, (45, .v (.int .i64 v19.1)), (46, .v (.bool (v19.1 != 0)))]) (init := [0, 1, 2, 3, 4, 5]) (fin := [0, 1, 2, 3, 4, 5, 7]) (sps := [⟨[5], [], [6], [(.slot 45)]⟩, ⟨[6], [], [7], [(.slot 46)]⟩]) (es' := [(_, _), (_, _), (_, _), (_, _), (_, _), (_, _), (46, .v (.bool (v19.1 != 0)))]) (by kernel_rfl) rfl rfl
          ⟨st_plain rfl (op_move _ _ _ _ rfl rfl),
          st_plain rfl (op_bin _ _ _ _ _ rfl rfl rfl),
          trivial⟩ ?_
         refine pt_then ?_
         refine ht_cond _ rfl (fun hb75 => ?_) (fun hb75 => ?_)
         ·have h := cond_t hb75 h
          refine ht_seq ?_
          refine ht_joinS h (fun (s76 : Bool) => [(6, .v (.bool s76))]) ?_ ?_
          ·rintro s76 h
           refine pt_then ?_
           refine ht_ret ?_
           refine pt_r_in ?_
           refine pt_r_then ?_
           refine pt_r_then ?_
           refine pt_r_in ?_
           refine pt_r_then ?_
           have h := hr70 _ (ho71 _ (Option.some.inj h).symm).symm
           obtain rfl := Option.some.inj h
           exact pt_ret hio rfl (.tmp _ _ .nil) rfl rfl
          ·intro u77 h hl78 hr79
           refine cond_some h (fun hg11_2 h => ?_) (fun hg11_2 h => ?_)
           ·obtain ⟨v21, hv21, h⟩ := bind_some h
            refine ht_seqR hn (El := [_, _, _, _, _, _, _, (47, .v (.int .i64 v19.1)), (48, .v (.bool (v19.1 == 8))), (49, .v (.bool true)), (50, .v (.bool v21)), (51, .v (.bool v21)), (6, .v (.bool v21))]) (init := [0, 1, 2, 3, 4, 5, 6]) (fin := [12]) (sps := [⟨[5], [], [7], [(.slot 47)]⟩, ⟨[7], [], [8], [(.slot 48)]⟩, ⟨[8], [], [9], [(.slot 49)]⟩, ⟨[9], [], [10], [(.slot 50)]⟩, ⟨[9, 10], [], [11], [(.slot 51)]⟩, ⟨[11], [], [12], [(.slot 6)]⟩]) (es' := [(6, .v (.bool v21))]) (by kernel_rfl) rfl rfl
             ⟨st_plain rfl (op_move _ _ _ _ rfl rfl),
             st_plain rfl (op_bin _ _ _ _ _ rfl rfl rfl),
             st_plain rfl (op_move _ _ _ _ (congrArg (fun b => AV.v (Value.bool b)) hg11_2) rfl),
             st_run 2 49 true rfl rfl rfl (List.Mem.head _) (op_call _ _ 12 _ _ rfl Try.call12 rfl (ok_wherrylaw18_wakes  _ hv21) rfl rfl),
             st_plain rfl (op_pick _ _ true _ rfl rfl),
             st_plain rfl (op_assign _ _ _ _ rfl rfl),
             trivial⟩ ?_
            exact hl78 _ (Option.some.inj h).symm
           ·refine ht_seqR hn (El := [_, _, _, _, _, _, _, (47, .v (.int .i64 v19.1)), (48, .v (.bool (v19.1 == 8))), (49, .v (.bool false)), (50, .v undef), (51, .v (.bool false)), (6, .v (.bool false))]) (init := [0, 1, 2, 3, 4, 5, 6]) (fin := [12]) (sps := [⟨[5], [], [7], [(.slot 47)]⟩, ⟨[7], [], [8], [(.slot 48)]⟩, ⟨[8], [], [9], [(.slot 49)]⟩, ⟨[9], [], [10], [(.slot 50)]⟩, ⟨[9], [], [11], [(.slot 51)]⟩, ⟨[11], [], [12], [(.slot 6)]⟩]) (es' := [(6, .v (.bool false))]) (by kernel_rfl) rfl rfl
             ⟨st_plain rfl (op_move _ _ _ _ rfl rfl),
             st_plain rfl (op_bin _ _ _ _ _ rfl rfl rfl),
             st_plain rfl (op_move _ _ _ _ (congrArg (fun b => AV.v (Value.bool b)) hg11_2) rfl),
             st_skip 2 49 _ true rfl rfl rfl rfl (List.Mem.head _),
             st_plain rfl (op_pick _ _ false _ rfl rfl),
             st_plain rfl (op_assign _ _ _ _ rfl rfl),
             trivial⟩ ?_
            exact hl78 _ (Option.some.inj h).symm
         ·have h := cond_f hb75 h
          refine ht_skip ?_
          refine pt_inb ?_
          refine pt_then ?_
          obtain ⟨v26, hv26, h⟩ := bind_some h
          refine ht_seqR hn (El := [_, _, _, _, _, _, _, (37, .v (.int .i64 s52)), (38, .v (.int .i64 v26)), (9, .v (.int .i64 v26))]) (init := [0, 1, 2, 3, 4, 5, 6]) (fin := [0, 1, 2, 3, 9]) (sps := [⟨[4], [], [7], [(.slot 37)]⟩, ⟨[7], [], [8], [(.slot 38)]⟩, ⟨[8], [4], [9], [(.slot 9)]⟩]) (es' := [(_, _), (_, _), (_, _), (_, _), (9, .v (.int .i64 v26))]) (by kernel_rfl) rfl rfl
           ⟨st_plain rfl (op_move _ _ _ _ rfl rfl),
           st_plain rfl (op_bin _ _ _ _ _ rfl rfl (ibind (f := Value.int .i64) (Option.some.inj hv26))),
           st_plain rfl (LOp.drop [_] (op_assign _ _ _ _ rfl rfl)),
           trivial⟩ ?_
          exact pt_next _ (Option.some.inj h).symm rfl
        ·have h := cond_f hb74 h
         refine ht_exit ?_
         refine pt_x_then ?_
         refine pt_x_then ?_
         refine pt_x_in ?_
         refine pt_pick [0, 1, 2, 3] (by kernel_rfl) (es' := [(_, _), (_, _), (_, _), (_, _)]) rfl ?_
         exact hl69 _ (ho71 _ (Option.some.inj h).symm).symm
     ·intro u12 h hl13 hr14
      refine cond_some h (fun hg4_2 h => ?_) (fun hg4_2 h => ?_)
      ·refine ht_seqR hn (El := [_, _, _, _, _, (27, .v (.int .i64 v8.2)), (28, .v (.bool (v8.2 != 0))), (29, .v (.bool true)), (30, .v undef), (31, .v undef), (32, .v (.bool true))]) (init := [0, 1, 2, 3, 4]) (fin := [0, 1, 2, 3, 10]) (sps := [⟨[4], [], [5], [(.slot 27)]⟩, ⟨[5], [], [6], [(.slot 28)]⟩, ⟨[6], [], [7], [(.slot 29)]⟩, ⟨[7], [], [8], [(.slot 30)]⟩, ⟨[7], [], [9], [(.slot 31)]⟩, ⟨[7], [], [10], [(.slot 32)]⟩]) (es' := [(_, _), (_, _), (_, _), (_, _), (32, .v (.bool true))]) (by kernel_rfl) rfl rfl
        ⟨st_plain rfl (op_move _ _ _ _ rfl rfl),
        st_plain rfl (op_bin _ _ _ _ _ rfl rfl rfl),
        st_plain rfl (op_move _ _ _ _ (congrArg (fun b => AV.v (Value.bool b)) hg4_2) rfl),
        st_skip 2 29 _ false rfl rfl rfl rfl (List.Mem.head _),
        st_skip 2 29 _ false rfl rfl rfl rfl (List.Mem.head _),
        st_plain rfl (op_pick _ _ true _ rfl rfl),
        trivial⟩ ?_
       exact hl13 _ (Option.some.inj h).symm
      ·refine ht_seqR hn (El := [_, _, _, _, _, (27, .v (.int .i64 v8.2)), (28, .v (.bool (v8.2 != 0))), (29, .v (.bool false)), (30, .ptr 7 0), (31, .v (.bool false)), (32, .v (.bool false))]) (init := [0, 1, 2, 3, 4]) (fin := [0, 1, 2, 3, 10]) (sps := [⟨[4], [], [5], [(.slot 27)]⟩, ⟨[5], [], [6], [(.slot 28)]⟩, ⟨[6], [], [7], [(.slot 29)]⟩, ⟨[7, 3], [], [8], [(.slot 30)]⟩, ⟨[7, 8, 3], [], [9], [(.slot 31)]⟩, ⟨[7, 9], [], [10], [(.slot 32)]⟩]) (es' := [(_, _), (_, _), (_, _), (_, _), (32, .v (.bool false))]) (by kernel_rfl) rfl rfl
        ⟨st_plain rfl (op_move _ _ _ _ rfl rfl),
        st_plain rfl (op_bin _ _ _ _ _ rfl rfl rfl),
        st_plain rfl (op_move _ _ _ _ (congrArg (fun b => AV.v (Value.bool b)) hg4_2) rfl),
        st_run 2 29 false rfl rfl rfl (List.Mem.head _) (op_move _ _ _ _ rfl rfl),
        st_run 2 29 false rfl rfl rfl (List.Mem.head _) (op_pnil _ _ false (by kernel_rfl) rfl rfl),
        st_plain rfl (op_pick _ _ false _ rfl rfl),
        trivial⟩ ?_
       exact hl13 _ (Option.some.inj h).symm
    ·refine pt_then ?_
     refine ht_seq ?_
     refine ht_seq ?_
     refine ht_joinS h (fun (() : Unit) => [(0, .fr .shr true 15 (List.flatten (List.map T_Rec.ienc l))), (1, .fr .shr true 15 (List.flatten (List.map T_Rec.ienc more))), (2, .v (.int .i64 keep)), (7, .v (.pointer none)), (32, .v (.bool true))]) ?_ ?_
     ·rintro ⟨⟩ h
      refine pt_then ?_
      refine ht_cond true rfl (fun _ => ?_) (fun hb => by cases hb)
      refine ht_seq ?_
      refine ht_seqR hn (El := [_, _, _, _, _, (6, .v (.bool false))]) (init := [0, 1, 2, 3, 4]) (fin := [5]) (sps := [⟨[], [], [5], [(.slot 6)]⟩]) (es' := [(6, .v (.bool false))]) (by kernel_rfl) rfl rfl
       ⟨st_plain rfl (op_assign _ _ _ _ rfl rfl),
       trivial⟩ ?_
      refine pt_then ?_
      refine ht_ret ?_
      refine pt_r_then ?_
      obtain rfl := Option.some.inj h
      exact pt_ret hio rfl (.tmp _ _ .nil) rfl rfl
     ·intro u195 h hl196 hr197
      refine cond_some h (fun hg4_2 h => ?_) (fun hg4_2 h => ?_)
      ·refine ht_seqR hn (El := [_, _, _, _, _, (27, .v (.int .i64 v8.2)), (28, .v (.bool (v8.2 != 0))), (29, .v (.bool true)), (30, .v undef), (31, .v undef), (32, .v (.bool true))]) (init := [0, 1, 2, 3, 4]) (fin := [0, 1, 2, 3, 10]) (sps := [⟨[4], [], [5], [(.slot 27)]⟩, ⟨[5], [], [6], [(.slot 28)]⟩, ⟨[6], [], [7], [(.slot 29)]⟩, ⟨[7], [], [8], [(.slot 30)]⟩, ⟨[7], [], [9], [(.slot 31)]⟩, ⟨[7], [], [10], [(.slot 32)]⟩]) (es' := [(_, _), (_, _), (_, _), (_, _), (32, .v (.bool true))]) (by kernel_rfl) rfl rfl
        ⟨st_plain rfl (op_move _ _ _ _ rfl rfl),
        st_plain rfl (op_bin _ _ _ _ _ rfl rfl rfl),
        st_plain rfl (op_move _ _ _ _ (congrArg (fun b => AV.v (Value.bool b)) hg4_2) rfl),
        st_skip 2 29 _ false rfl rfl rfl rfl (List.Mem.head _),
        st_skip 2 29 _ false rfl rfl rfl rfl (List.Mem.head _),
        st_plain rfl (op_pick _ _ true _ rfl rfl),
        trivial⟩ ?_
       exact hl196 _ (Option.some.inj h).symm
      ·refine ht_seqR hn (El := [_, _, _, _, _, (27, .v (.int .i64 v8.2)), (28, .v (.bool (v8.2 != 0))), (29, .v (.bool false)), (30, .v (.pointer none)), (31, .v (.bool true)), (32, .v (.bool true))]) (init := [0, 1, 2, 3, 4]) (fin := [0, 1, 2, 3, 10]) (sps := [⟨[4], [], [5], [(.slot 27)]⟩, ⟨[5], [], [6], [(.slot 28)]⟩, ⟨[6], [], [7], [(.slot 29)]⟩, ⟨[7, 3], [], [8], [(.slot 30)]⟩, ⟨[7, 8], [], [9], [(.slot 31)]⟩, ⟨[7, 9], [], [10], [(.slot 32)]⟩]) (es' := [(_, _), (_, _), (_, _), (_, _), (32, .v (.bool true))]) (by kernel_rfl) rfl rfl
        ⟨st_plain rfl (op_move _ _ _ _ rfl rfl),
        st_plain rfl (op_bin _ _ _ _ _ rfl rfl rfl),
        st_plain rfl (op_move _ _ _ _ (congrArg (fun b => AV.v (Value.bool b)) hg4_2) rfl),
        st_run 2 29 false rfl rfl rfl (List.Mem.head _) (op_move _ _ _ _ rfl rfl),
        st_run 2 29 false rfl rfl rfl (List.Mem.head _) (op_nilnil _ _ false (by kernel_rfl) rfl rfl),
        st_plain rfl (op_pick _ _ false _ rfl rfl),
        trivial⟩ ?_
       exact hl196 _ (Option.some.inj h).symm
  ·intro u4 h hl5 hr6
   obtain ⟨v1, hv1, h⟩ := bind_some h
   refine cond_some h (fun hg1_2 h => ?_) (fun hg1_2 h => ?_)
   ·refine ht_seqR hn (El := [_, _, _, (17, .fr .shr true 15 (List.flatten (List.map T_Rec.ienc l))), (18, .v (.bool v1)), (19, .v (.bool true)), (20, .v undef), (21, .v undef), (22, .v (.bool true))]) (init := [0, 1, 2]) (fin := [0, 1, 2, 8]) (sps := [⟨[0], [], [3], [(.slot 17)]⟩, ⟨[3], [], [4], [(.slot 18)]⟩, ⟨[4], [], [5], [(.slot 19)]⟩, ⟨[5], [], [6], [(.slot 20)]⟩, ⟨[5], [], [7], [(.slot 21)]⟩, ⟨[5], [], [8], [(.slot 22)]⟩]) (es' := [(_, _), (_, _), (_, _), (22, .v (.bool true))]) (by kernel_rfl) rfl rfl
     ⟨st_plain rfl (op_move _ _ _ _ rfl rfl),
     st_plain rfl (op_call _ _ 13 _ _ rfl Try.call13 rfl (ok_wherrylaw18_Heavy l _ hv1) rfl rfl),
     st_plain rfl (op_move _ _ _ _ (congrArg (fun b => AV.v (Value.bool b)) hg1_2) rfl),
     st_skip 2 19 _ false rfl rfl rfl rfl (List.Mem.head _),
     st_skip 2 19 _ false rfl rfl rfl rfl (List.Mem.head _),
     st_plain rfl (op_pick _ _ true _ rfl rfl),
     trivial⟩ ?_
    exact hl5 _ (Option.some.inj h).symm
   ·obtain ⟨v2, hv2, h⟩ := bind_some h
    refine ht_seqR hn (El := [_, _, _, (17, .fr .shr true 15 (List.flatten (List.map T_Rec.ienc l))), (18, .v (.bool v1)), (19, .v (.bool false)), (20, .fr .shr true 15 (List.flatten (List.map T_Rec.ienc more))), (21, .v (.bool v2)), (22, .v (.bool v2))]) (init := [0, 1, 2]) (fin := [0, 1, 2, 8]) (sps := [⟨[0], [], [3], [(.slot 17)]⟩, ⟨[3], [], [4], [(.slot 18)]⟩, ⟨[4], [], [5], [(.slot 19)]⟩, ⟨[5, 1], [], [6], [(.slot 20)]⟩, ⟨[5, 6], [], [7], [(.slot 21)]⟩, ⟨[5, 7], [], [8], [(.slot 22)]⟩]) (es' := [(_, _), (_, _), (_, _), (22, .v (.bool v2))]) (by kernel_rfl) rfl rfl
     ⟨st_plain rfl (op_move _ _ _ _ rfl rfl),
     st_plain rfl (op_call _ _ 13 _ _ rfl Try.call13 rfl (ok_wherrylaw18_Heavy l _ hv1) rfl rfl),
     st_plain rfl (op_move _ _ _ _ (congrArg (fun b => AV.v (Value.bool b)) hg1_2) rfl),
     st_run 2 19 false rfl rfl rfl (List.Mem.head _) (op_move _ _ _ _ rfl rfl),
     st_run 2 19 false rfl rfl rfl (List.Mem.head _) (op_call _ _ 13 _ _ rfl Try.call13 rfl (ok_wherrylaw18_Heavy more _ hv2) rfl rfl),
     st_plain rfl (op_pick _ _ false _ rfl rfl),
     trivial⟩ ?_
    exact hl5 _ (Option.some.inj h).symm

end Go.Proofs.Ytbioodcjmceefaa
