/-
  The model's runs are what is told in Lean.
-/
import Derived.Test.YtbioodcjmceefaaProg
import Derived.KernelRfl
import Derived.Test.YtbioodcjmceefaaOkc3
set_option linter.unusedVariables false
set_option linter.unusedSimpArgs false
namespace Go.Proofs.Ytbioodcjmceefaa
open Go.Abs Go.Abs.Sh

set_option maxHeartbeats 1000000 in
theorem ok_wherrylaw18_DiaryRooms (l : (List T_Rec)) (less : Int) (r : Bool) (h : Sh.wherrylaw18_DiaryRooms l less = some r) : FnOK Try.prog 5 [.fr .shr true 15 (List.flatten (List.map T_Rec.ienc l)), .v (.int .i64 less)] (.v (.bool r)) := by
  unfold Sh.wherrylaw18_DiaryRooms at h
  refine fn_ok Try.func5 rfl (Nat.le_of_ble_eq_true rfl) rfl rfl fun g0 hn hio => ?_
  refine ht_seq ?_
  refine ht_seqR hn (El := [_, _, (4, .v (.bool false))]) (init := [0, 1]) (fin := [0, 1]) (sps := [⟨[], [], [2], [(.slot 4)]⟩]) (es' := [(_, _), (_, _)]) (by kernel_rfl) rfl rfl
   ⟨st_plain rfl (op_assign _ _ _ _ rfl rfl),
   trivial⟩ ?_
  refine pt_then ?_
  refine ht_seq ?_
  refine ht_seq ?_
  obtain ⟨v1, hv1, h⟩ := bind_some h
  refine ht_seqR hn (El := [_, _, (11, .fr .shr true 15 (List.flatten (List.map T_Rec.ienc l))), (12, .v (.bool v1))]) (init := [0, 1]) (fin := [0, 1, 3]) (sps := [⟨[0], [], [2], [(.slot 11)]⟩, ⟨[2], [], [3], [(.slot 12)]⟩]) (es' := [(_, _), (_, _), (12, .v (.bool v1))]) (by kernel_rfl) rfl rfl
   ⟨st_plain rfl (op_move _ _ _ _ rfl rfl),
   st_plain rfl (op_call _ _ 13 _ _ rfl Try.call13 rfl (ok_wherrylaw18_Heavy l _ hv1) rfl rfl),
   trivial⟩ ?_
  refine pt_then ?_
  refine ht_cond _ rfl (fun hb2 => ?_) (fun hb2 => ?_)
  ·have h := cond_t hb2 h
   refine ht_seq ?_
   refine ht_seqR hn (El := [_, _, _, (4, .v (.bool true))]) (init := [0, 1, 2]) (fin := [3]) (sps := [⟨[], [], [3], [(.slot 4)]⟩]) (es' := [(4, .v (.bool true))]) (by kernel_rfl) rfl rfl
    ⟨st_plain rfl (op_assign _ _ _ _ rfl rfl),
    trivial⟩ ?_
   refine pt_then ?_
   refine ht_ret ?_
   refine pt_r_then ?_
   obtain rfl := Option.some.inj h
   exact pt_ret hio rfl (.tmp _ _ .nil) rfl rfl
  ·have h := cond_f hb2 h
   refine ht_skip ?_
   refine pt_then ?_
   refine ht_seq ?_
   refine ht_seqR hn (El := [_, _, _, (5, .v (.int .i64 0))]) (init := [0, 1, 2]) (fin := [0, 1, 3]) (sps := [⟨[], [], [3], [(.slot 5)]⟩]) (es' := [(_, _), (_, _), (5, .v (.int .i64 0))]) (by kernel_rfl) rfl rfl
    ⟨st_plain rfl (op_assign _ _ _ _ rfl rfl),
    trivial⟩ ?_
   refine pt_then ?_
   refine ht_seq ?_
   refine ht_seq ?_
   refine ht_seqR hn (El := [_, _, _, (6, .v (.int .i64 0))]) (init := [0, 1, 2]) (fin := [0, 1, 2, 3]) (sps := [⟨[], [], [3], [(.slot 6)]⟩]) (es' := [(_, _), (_, _), (_, _), (6, .v (.int .i64 0))]) (by kernel_rfl) rfl rfl
    ⟨st_plain rfl (op_assign _ _ _ _ rfl rfl),
    trivial⟩ ?_
   refine pt_then ?_
   refine ht_loopS h (fun ((s12, s13) : Int × Int) => [(0, .fr .shr true 15 (List.flatten (List.map T_Rec.ienc l))), (1, .v (.int .i64 less)), (5, .v (.int .i64 s12)), (6, .v (.int .i64 s13))]) (fun (s15 : Int) => [(0, .fr .shr true 15 (List.flatten (List.map T_Rec.ienc l))), (1, .v (.int .i64 less)), (5, .v (.int .i64 s15))]) ?_ ?_
   ·rintro s15 h
    refine pt_then ?_
    refine ht_seq ?_
    obtain ⟨v23, hv23, h⟩ := bind_some h
    obtain ⟨v24, hv24, h⟩ := bind_some h
    obtain ⟨v25, hv25, h⟩ := bind_some h
    refine ht_seqR hn (El := [_, _, _, (26, .v (.int .i64 less)), (27, .v (.int .u64 v23)), (28, .v (.int .u64 v24)), (29, .v (.int .i64 v25)), (1, .v (.int .i64 v25))]) (init := [0, 1, 2]) (fin := [0, 2, 7]) (sps := [⟨[1], [], [3], [(.slot 26)]⟩, ⟨[3], [], [4], [(.slot 27)]⟩, ⟨[4], [], [5], [(.slot 28)]⟩, ⟨[5], [], [6], [(.slot 29)]⟩, ⟨[6], [1], [7], [(.slot 1)]⟩]) (es' := [(_, _), (_, _), (1, .v (.int .i64 v25))]) (by kernel_rfl) rfl rfl
     ⟨st_plain rfl (op_move _ _ _ _ rfl rfl),
     st_plain rfl ((Option.some.inj hv23) ▸ op_conv _ _ _ Try.underlying3 Try.underlying36 rfl),
     st_plain rfl (op_bin _ _ _ _ _ rfl rfl (rem_ok hv24)),
     st_plain rfl ((Option.some.inj hv25) ▸ op_conv _ _ _ Try.underlying36 Try.underlying3 rfl),
     st_plain rfl (LOp.drop [_] (op_assign _ _ _ _ rfl rfl)),
     trivial⟩ ?_
    refine pt_then ?_
    refine ht_seq ?_
    refine ht_seq ?_
    refine ht_joinS h (fun (s27 : Bool) => [(0, .fr .shr true 15 (List.flatten (List.map T_Rec.ienc l))), (5, .v (.int .i64 s15)), (1, .v (.int .i64 v25)), (37, .v (.bool s27))]) ?_ ?_
    ·rintro s27 h
     refine pt_then ?_
     refine ht_cond _ rfl (fun hb31 => ?_) (fun hb31 => ?_)
     ·have h := cond_t hb31 h
      refine ht_seq ?_
      obtain ⟨v32, hv32, h⟩ := bind_some h
      refine ht_seqR hn (El := [_, _, _, _, (38, .v (.bool v32)), (4, .v (.bool v32))]) (init := [0, 1, 2, 3]) (fin := [5]) (sps := [⟨[], [], [4], [(.slot 38)]⟩, ⟨[4], [], [5], [(.slot 4)]⟩]) (es' := [(4, .v (.bool v32))]) (by kernel_rfl) rfl rfl
       ⟨st_plain rfl (op_call _ _ 12 _ _ rfl Try.call12 rfl (ok_wherrylaw18_wakes  _ hv32) rfl rfl),
       st_plain rfl (op_assign _ _ _ _ rfl rfl),
       trivial⟩ ?_
      refine pt_then ?_
      refine ht_ret ?_
      refine pt_r_then ?_
      obtain rfl := Option.some.inj h
      exact pt_ret hio rfl (.tmp _ _ .nil) rfl rfl
     ·have h := cond_f hb31 h
      refine ht_skip ?_
      refine pt_then ?_
      refine ht_seq ?_
      obtain ⟨v33, hv33, h⟩ := bind_some h
      obtain ⟨v34, hv34, h⟩ := bind_some h
      refine ht_seqR hn (El := [_, _, _, _, (40, .v (.int .i64 s15)), (41, .v (.int .i64 v25)), (42, .v (.int .i64 v33)), (43, .tup [.obox (Option.isSome v34.1) 64 [.v (.int .i64 (((Option.getD v34.1 (default : T_diary_Diary))).limit)), .fr (.own 46) false 15 (List.flatten (List.map T_Rec.ienc (((Option.getD v34.1 (default : T_diary_Diary))).recs))), .v (.int .i64 (((Option.getD v34.1 (default : T_diary_Diary))).used)), .v (.int .i64 (((Option.getD v34.1 (default : T_diary_Diary))).safe)), .v (.int .i64 (((Option.getD v34.1 (default : T_diary_Diary))).kept)), .v (.int .i64 (((Option.getD v34.1 (default : T_diary_Diary))).life)), .v (.bool (((Option.getD v34.1 (default : T_diary_Diary))).off)), .v (.int .i64 (((Option.getD v34.1 (default : T_diary_Diary))).trip)), .v (.int .i64 (((Option.getD v34.1 (default : T_diary_Diary))).tripKeep))], .v (.int .i64 v34.2)]), (39, .tup [.obox (Option.isSome v34.1) 64 [.v (.int .i64 (((Option.getD v34.1 (default : T_diary_Diary))).limit)), .fr (.own 46) false 15 (List.flatten (List.map T_Rec.ienc (((Option.getD v34.1 (default : T_diary_Diary))).recs))), .v (.int .i64 (((Option.getD v34.1 (default : T_diary_Diary))).used)), .v (.int .i64 (((Option.getD v34.1 (default : T_diary_Diary))).safe)), .v (.int .i64 (((Option.getD v34.1 (default : T_diary_Diary))).kept)), .v (.int .i64 (((Option.getD v34.1 (default : T_diary_Diary))).life)), .v (.bool (((Option.getD v34.1 (default : T_diary_Diary))).off)), .v (.int .i64 (((Option.getD v34.1 (default : T_diary_Diary))).trip)), .v (.int .i64 (((Option.getD v34.1 (default : T_diary_Diary))).tripKeep))], .v (.int .i64 v34.2)]), (44, .obox (Option.isSome v34.1) 64 [.v (.int .i64 (((Option.getD v34.1 (default : T_diary_Diary))).limit)), .fr (.own 46) false 15 (List.flatten (List.map T_Rec.ienc (((Option.getD v34.1 (default : T_diary_Diary))).recs))), .v (.int .i64 (((Option.getD v34.1 (default : T_diary_Diary))).used)), .v (.int .i64 (((Option.getD v34.1 (default : T_diary_Diary))).safe)), .v (.int .i64 (((Option.getD v34.1 (default : T_diary_Diary))).kept)), .v (.int .i64 (((Option.getD v34.1 (default : T_diary_Diary))).life)), .v (.bool (((Option.getD v34.1 (default : T_diary_Diary))).off)), .v (.int .i64 (((Option.getD v34.1 (default : T_diary_Diary))).trip)), .v (.int .i64 (((Option.getD v34.1 (default : T_diary_Diary))).tripKeep))]), (39, .tup [.any, .v (.int .i64 v34.2)]), (45, .v (.int .i64 v34.2)), (7, .obox (Option.isSome v34.1) 64 [.v (.int .i64 (((Option.getD v34.1 (default : T_diary_Diary))).limit)), .fr (.own 46) false 15 (List.flatten (List.map T_Rec.ienc (((Option.getD v34.1 (default : T_diary_Diary))).recs))), .v (.int .i64 (((Option.getD v34.1 (default : T_diary_Diary))).used)), .v (.int .i64 (((Option.getD v34.1 (default : T_diary_Diary))).safe)), .v (.int .i64 (((Option.getD v34.1 (default : T_diary_Diary))).kept)), .v (.int .i64 (((Option.getD v34.1 (default : T_diary_Diary))).life)), .v (.bool (((Option.getD v34.1 (default : T_diary_Diary))).off)), .v (.int .i64 (((Option.getD v34.1 (default : T_diary_Diary))).trip)), .v (.int .i64 (((Option.getD v34.1 (default : T_diary_Diary))).tripKeep))]), (8, .v (.int .i64 v34.2))]) (init := [0, 1, 2, 3]) (fin := [0, 1, 2, 12, 13]) (sps := [⟨[1], [], [4], [(.slot 40)]⟩, ⟨[2], [], [5], [(.slot 41)]⟩, ⟨[4, 5], [], [6], [(.slot 42)]⟩, ⟨[6], [], [7], [(.slot 43)]⟩, ⟨[], [7], [8], [(.slot 39)]⟩, ⟨[], [8], [10, 9], [(.slot 44)]⟩, ⟨[10], [], [11], [(.slot 45)]⟩, ⟨[], [9], [12], [(.slot 7)]⟩, ⟨[11], [], [13], [(.slot 8)]⟩]) (es' := [(_, _), (_, _), (_, _), (7, .obox (Option.isSome v34.1) 64 [.v (.int .i64 (((Option.getD v34.1 (default : T_diary_Diary))).limit)), .fr (.own 46) false 15 (List.flatten (List.map T_Rec.ienc (((Option.getD v34.1 (default : T_diary_Diary))).recs))), .v (.int .i64 (((Option.getD v34.1 (default : T_diary_Diary))).used)), .v (.int .i64 (((Option.getD v34.1 (default : T_diary_Diary))).safe)), .v (.int .i64 (((Option.getD v34.1 (default : T_diary_Diary))).kept)), .v (.int .i64 (((Option.getD v34.1 (default : T_diary_Diary))).life)), .v (.bool (((Option.getD v34.1 (default : T_diary_Diary))).off)), .v (.int .i64 (((Option.getD v34.1 (default : T_diary_Diary))).trip)), .v (.int .i64 (((Option.getD v34.1 (default : T_diary_Diary))).tripKeep))]), (8, .v (.int .i64 v34.2))]) (by kernel_rfl) rfl rfl
       ⟨st_plain rfl (op_move _ _ _ _ rfl rfl),
       st_plain rfl (op_move _ _ _ _ rfl rfl),
       st_plain rfl (op_bin _ _ _ _ _ rfl rfl (ibind (f := Value.int .i64) (Option.some.inj hv33))),
       st_plain rfl (op_call _ _ 10 _ _ rfl Try.call10 rfl (ok_diary_New v33 _ hv34) rfl rfl),
       st_plain rfl (op_move_take _ _ _ _ rfl),
       st_plain rfl (op_extract_take _ _ _ _ _ rfl (Nat.le_of_ble_eq_true rfl) rfl rfl (by decide) rfl),
       st_plain rfl (op_extract _ _ _ _ _ rfl rfl (Nat.le_of_ble_eq_true rfl) rfl rfl),
       st_plain rfl (op_assign_take _ _ _ _ rfl),
       st_plain rfl (op_assign _ _ _ _ rfl rfl),
       trivial⟩ ?_
      refine pt_ob (d := default) (f := fun (v35 : T_diary_Diary) => [.v (.int .i64 v35.limit), .fr (.own 46) false 15 (List.flatten (List.map T_Rec.ienc v35.recs)), .v (.int .i64 v35.used), .v (.int .i64 v35.safe), .v (.int .i64 v35.kept), .v (.int .i64 v35.life), .v (.bool v35.off), .v (.int .i64 v35.trip), .v (.int .i64 v35.tripKeep)]) 3 9 7 64 h (es1 := fun v35 => [(0, .fr .shr true 15 (List.flatten (List.map T_Rec.ienc l))), (5, .v (.int .i64 s15)), (1, .v (.int .i64 v25)), (7, .box 64 [.v (.int .i64 v35.limit), .fr (.own 46) false 15 (List.flatten (List.map T_Rec.ienc v35.recs)), .v (.int .i64 v35.used), .v (.int .i64 v35.safe), .v (.int .i64 v35.kept), .v (.int .i64 v35.life), .v (.bool v35.off), .v (.int .i64 v35.trip), .v (.int .i64 v35.tripKeep)]), (8, .v (.int .i64 v34.2))]) (es0 := [(0, .fr .shr true 15 (List.flatten (List.map T_Rec.ienc l))), (5, .v (.int .i64 s15)), (1, .v (.int .i64 v25)), (7, .v (.pointer none)), (8, .v (.int .i64 v34.2))]) rfl (fun _ => rfl) (by kernel_rfl) (fun _ => rfl) (fun _ => rfl) rfl (fun v35 hv36 h => ?_) (fun hv36 h => ?_)
      ·refine pt_then ?_
       refine ht_seq ?_
       refine ht_seq ?_
       refine ht_joinS h (fun (s37 : Bool) => [(0, .fr .shr true 15 (List.flatten (List.map T_Rec.ienc l))), (5, .v (.int .i64 s15)), (1, .v (.int .i64 v25)), (7, .box 64 [.v (.int .i64 v35.limit), .fr (.own 46) false 15 (List.flatten (List.map T_Rec.ienc v35.recs)), .v (.int .i64 v35.used), .v (.int .i64 v35.safe), .v (.int .i64 v35.kept), .v (.int .i64 v35.life), .v (.bool v35.off), .v (.int .i64 v35.trip), .v (.int .i64 v35.tripKeep)]), (51, .v (.bool s37))]) ?_ ?_
       ·rintro s37 h
        refine pt_then ?_
        refine ht_cond _ rfl (fun hb41 => ?_) (fun hb41 => ?_)
        ·have h := cond_t hb41 h
         refine ht_seq ?_
         refine ht_seqR hn (El := [_, _, _, _, _, (4, .v (.bool false))]) (init := [0, 1, 2, 3, 4]) (fin := [5]) (sps := [⟨[], [], [5], [(.slot 4)]⟩]) (es' := [(4, .v (.bool false))]) (by kernel_rfl) rfl rfl
          ⟨st_plain rfl (op_assign _ _ _ _ rfl rfl),
          trivial⟩ ?_
         refine pt_then ?_
         refine ht_ret ?_
         refine pt_r_then ?_
         obtain rfl := Option.some.inj h
         exact pt_ret hio rfl (.tmp _ _ .nil) rfl rfl
        ·have h := cond_f hb41 h
         refine ht_skip ?_
         refine pt_then ?_
         refine ht_seq ?_
         refine ht_seqR hn (El := [_, _, _, _, _, (9, .v (.int .i64 0))]) (init := [0, 1, 2, 3, 4]) (fin := [0, 1, 2, 3, 5]) (sps := [⟨[], [], [5], [(.slot 9)]⟩]) (es' := [(_, _), (_, _), (_, _), (_, _), (9, .v (.int .i64 0))]) (by kernel_rfl) rfl rfl
          ⟨st_plain rfl (op_assign _ _ _ _ rfl rfl),
          trivial⟩ ?_
         refine pt_then ?_
         refine ht_seq ?_
         refine ht_seq ?_
         refine ht_seqR hn (El := [_, _, _, _, _, (10, .v (.int .i64 0))]) (init := [0, 1, 2, 3, 4]) (fin := [0, 1, 2, 3, 4, 5]) (sps := [⟨[], [], [5], [(.slot 10)]⟩]) (es' := [(_, _), (_, _), (_, _), (_, _), (_, _), (10, .v (.int .i64 0))]) (by kernel_rfl) rfl rfl
          ⟨st_plain rfl (op_assign _ _ _ _ rfl rfl),
          trivial⟩ ?_
         refine pt_then ?_
         refine ht_loopS h (fun ((s67, s68, s69, s70, s71, s72, s73, s74, s75, s76, s77) : Int × (List T_Rec) × Int × Int × Int × Int × Bool × Int × Int × Int × Int) => [(0, .fr .shr true 15 (List.flatten (List.map T_Rec.ienc l))), (5, .v (.int .i64 s15)), (1, .v (.int .i64 v25)), (7, .box 64 [.v (.int .i64 s67), .fr (.own 46) false 15 (List.flatten (List.map T_Rec.ienc s68)), .v (.int .i64 s69), .v (.int .i64 s70), .v (.int .i64 s71), .v (.int .i64 s72), .v (.bool s73), .v (.int .i64 s74), .v (.int .i64 s75)]), (9, .v (.int .i64 s76)), (10, .v (.int .i64 s77))]) (fun ((s83, s84, s85, s86, s87, s88, s89, s90, s91, s92) : Int × (List T_Rec) × Int × Int × Int × Int × Bool × Int × Int × Int) => [(0, .fr .shr true 15 (List.flatten (List.map T_Rec.ienc l))), (5, .v (.int .i64 s15)), (1, .v (.int .i64 v25)), (7, .box 64 [.v (.int .i64 s83), .fr (.own 46) false 15 (List.flatten (List.map T_Rec.ienc s84)), .v (.int .i64 s85), .v (.int .i64 s86), .v (.int .i64 s87), .v (.int .i64 s88), .v (.bool s89), .v (.int .i64 s90), .v (.int .i64 s91)]), (9, .v (.int .i64 s92))]) ?_ ?_
         ·rintro ⟨s83, s84, s85, s86, s87, s88, s89, s90, s91, s92⟩ h
          refine pt_then ?_
          refine ht_seq ?_
          refine ht_seq ?_
          refine ht_seqR hn (El := [_, _, _, _, _, (68, .v (.int .i64 v25)), (69, .v (.bool (v25 == 1)))]) (init := [0, 1, 2, 3, 4]) (fin := [0, 1, 3, 4, 6]) (sps := [⟨[2], [], [5], [(.slot 68)]⟩, ⟨[5], [], [6], [(.slot 69)]⟩]) (es' := [(_, _), (_, _), (_, _), (_, _), (69, .v (.bool (v25 == 1)))]) (by kernel_rfl) rfl rfl
           ⟨st_plain rfl (op_move _ _ _ _ rfl rfl),
           st_plain rfl (op_bin _ _ _ _ _ rfl rfl rfl),
           trivial⟩ ?_
          refine pt_then ?_
          refine ht_cond _ rfl (fun hb104 => ?_) (fun hb104 => ?_)
          ·have h := cond_t hb104 h
           refine ht_seq ?_
           refine ht_joinS h (fun (s109 : Bool) => [(4, .v (.bool s109))]) ?_ ?_
           ·rintro s109 h
            refine pt_then ?_
            refine ht_ret ?_
            refine pt_r_then ?_
            obtain rfl := Option.some.inj h
            exact pt_ret hio rfl (.tmp _ _ .nil) rfl rfl
           ·intro u110 h hl111 hr112
            refine cond_some h (fun hg20_2 h => ?_) (fun hg20_2 h => ?_)
            ·obtain ⟨v105, hv105, h⟩ := bind_some h
             obtain ⟨v106, hv106, h⟩ := bind_some h
             refine cond_some h (fun hg20_10 h => ?_) (fun hg20_10 h => ?_)
             ·obtain ⟨v107, hv107, h⟩ := bind_some h
              refine cond_some h (fun hg20_16 h => ?_) (fun hg20_16 h => ?_)
              ·obtain ⟨v108, hv108, h⟩ := bind_some h
               refine ht_seqR hn (El := (_ :: _ :: _ :: _ :: _ :: (70, .v (.int .i64 s92)) :: (71, .v (.bool (s92 == 8))) :: (72, .v (.bool true)) :: (73, .ptr 7 0) :: (74, .v (.int .i64 v105.1)) :: (7, .box 64 [.v (.int .i64 v105.2.limit), .fr (.own 46) false 15 (List.flatten (List.map T_Rec.ienc v105.2.recs)), .v (.int .i64 v105.2.used), .v (.int .i64 v105.2.safe), .v (.int .i64 v105.2.kept), .v (.int .i64 v105.2.life), .v (.bool v105.2.off), .v (.int .i64 v105.2.trip), .v (.int .i64 v105.2.tripKeep)]) :: (75, .fr .shr true 15 (List.flatten (List.map T_Rec.ienc l))) :: (76, .v (.int .i64 (l.length : Int))) :: (77, .v (.int .i64 v106)) :: (78, .v (.bool (v105.1 == v106))) :: (79, .v (.bool (v105.1 == v106))) :: (80, .v (.bool true)) :: (81, .box 64 [.v (.int .i64 v105.2.limit), .fr (.own 46) false 15 (List.flatten (List.map T_Rec.ienc v105.2.recs)), .v (.int .i64 v105.2.used), .v (.int .i64 v105.2.safe), .v (.int .i64 v105.2.kept), .v (.int .i64 v105.2.life), .v (.bool v105.2.off), .v (.int .i64 v105.2.trip), .v (.int .i64 v105.2.tripKeep)]) :: (82, .fr .shr true 15 (List.flatten (List.map T_Rec.ienc l))) :: (83, .v (.int .i64 v107.1)) :: (81, .box 64 [.v (.int .i64 v107.2.limit), .fr (.own 46) false 15 (List.flatten (List.map T_Rec.ienc v107.2.recs)), .v (.int .i64 v107.2.used), .v (.int .i64 v107.2.safe), .v (.int .i64 v107.2.kept), .v (.int .i64 v107.2.life), .v (.bool v107.2.off), .v (.int .i64 v107.2.trip), .v (.int .i64 v107.2.tripKeep)]) :: (84, .v (.bool (v107.1 == 8))) :: (85, .v (.bool (v107.1 == 8))) :: (86, .v (.bool true)) :: (87, .v (.bool v108)) :: (88, .v (.bool v108)) :: (4, .v (.bool v108)) :: [])) (init := [0, 1, 2, 3, 4]) (fin := [26]) (sps := (⟨[3], [], [5], [(.slot 70)]⟩ :: ⟨[5], [], [6], [(.slot 71)]⟩ :: ⟨[6], [], [7], [(.slot 72)]⟩ :: ⟨[7, 2], [], [8], [(.slot 73)]⟩ :: ⟨[7, 8], [2], [10, 9], [(.slot 74), (.cell 7 0), (.cell 7 1), (.cell 7 2), (.cell 7 3), (.cell 7 4), (.cell 7 5), (.cell 7 6), (.cell 7 7), (.cell 7 8)]⟩ :: ⟨[7, 0], [], [11], [(.slot 75)]⟩ :: ⟨[7, 11], [], [12], [(.slot 76)]⟩ :: ⟨[7, 12], [], [13], [(.slot 77)]⟩ :: ⟨[7, 9, 13], [], [14], [(.slot 78)]⟩ :: ⟨[7, 14], [], [15], [(.slot 79)]⟩ :: ⟨[15], [], [16], [(.slot 80)]⟩ :: ⟨[16], [8, 10], [17], [(.slot 81)]⟩ :: ⟨[16, 0], [], [18], [(.slot 82)]⟩ :: ⟨[16, 18], [17], [20, 19], [(.slot 83), (.cell 81 0), (.cell 81 1), (.cell 81 2), (.cell 81 3), (.cell 81 4), (.cell 81 5), (.cell 81 6), (.cell 81 7), (.cell 81 8)]⟩ :: ⟨[16, 19], [], [21], [(.slot 84)]⟩ :: ⟨[16, 21], [], [22], [(.slot 85)]⟩ :: ⟨[22], [], [23], [(.slot 86)]⟩ :: ⟨[23], [], [24], [(.slot 87)]⟩ :: ⟨[23, 24], [], [25], [(.slot 88)]⟩ :: ⟨[25], [], [26], [(.slot 4)]⟩ :: [])) (es' := [(4, .v (.bool v108))]) (by kernel_rfl) rfl rfl
                ⟨st_plain rfl (op_move _ _ _ _ rfl rfl),
                st_plain rfl (op_bin _ _ _ _ _ rfl rfl rfl),
                st_plain rfl (op_move _ _ _ _ (congrArg (fun b => AV.v (Value.bool b)) hg20_2) rfl),
                st_run 2 72 true rfl rfl rfl (List.Mem.head _) (op_move _ _ _ _ rfl rfl),
                st_run 2 72 true rfl rfl rfl (List.Mem.head _) (op_callP _ _ _ _ 74 34 [.tmp 73] [] _ _ _ rfl Try.call34 rfl rfl rfl (ok_diary_Diary_Len (T_diary_Diary.mk s83 s84 s85 s86 s87 s88 s89 s90 s91) _ hv105) (Nat.le_of_ble_eq_true rfl) rfl rfl rfl rfl rfl rfl rfl rfl),
                st_run 2 72 true rfl rfl rfl (List.Mem.head _) (op_move _ _ _ _ rfl rfl),
                st_run 2 72 true rfl rfl rfl (List.Mem.head _) (op_len_fr _ _ _ Try.underlying31 rfl (by decide) (gflat_len T_Rec.ilen _)),
                st_run 2 72 true rfl rfl rfl (List.Mem.head _) (op_bin _ _ _ _ _ rfl rfl (ibind (f := Value.int .i64) (Option.some.inj hv106))),
                st_run 2 72 true rfl rfl rfl (List.Mem.head _) (op_bin _ _ _ _ _ rfl rfl rfl),
                st_plain rfl (op_pick _ _ true _ rfl rfl),
                st_plain rfl (op_move _ _ _ _ (congrArg (fun b => AV.v (Value.bool b)) hg20_10) rfl),
                st_run 10 80 true rfl rfl rfl (List.Mem.head _) (LOp.drop [_] (op_move_take _ _ _ _ rfl)),
                st_run 10 80 true rfl rfl rfl (List.Mem.head _) (op_move _ _ _ _ rfl rfl),
                st_run 10 80 true rfl rfl rfl (List.Mem.head _) (op_callP _ _ _ _ 83 19 [.tmp 81] [.tmp 82] _ _ _ rfl Try.call19 rfl rfl rfl (ok_diary_Diary_Renew v105.2 l _ hv107) (Nat.le_of_ble_eq_true rfl) rfl rfl rfl rfl rfl rfl rfl rfl),
                st_run 10 80 true rfl rfl rfl (List.Mem.head _) (op_bin _ _ _ _ _ rfl rfl rfl),
                st_plain rfl (op_pick _ _ true _ rfl rfl),
                st_plain rfl (op_move _ _ _ _ (congrArg (fun b => AV.v (Value.bool b)) hg20_16) rfl),
                st_run 16 86 true rfl rfl rfl (List.Mem.head _) (op_call _ _ 12 _ _ rfl Try.call12 rfl (ok_wherrylaw18_wakes  _ hv108) rfl rfl),
                st_plain rfl (op_pick _ _ true _ rfl rfl),
                st_plain rfl (op_assign _ _ _ _ rfl rfl),
                trivial⟩ ?_
               exact hl111 _ (Option.some.inj h).symm
              ·refine ht_seqR hn (El := (_ :: _ :: _ :: _ :: _ :: (70, .v (.int .i64 s92)) :: (71, .v (.bool (s92 == 8))) :: (72, .v (.bool true)) :: (73, .ptr 7 0) :: (74, .v (.int .i64 v105.1)) :: (7, .box 64 [.v (.int .i64 v105.2.limit), .fr (.own 46) false 15 (List.flatten (List.map T_Rec.ienc v105.2.recs)), .v (.int .i64 v105.2.used), .v (.int .i64 v105.2.safe), .v (.int .i64 v105.2.kept), .v (.int .i64 v105.2.life), .v (.bool v105.2.off), .v (.int .i64 v105.2.trip), .v (.int .i64 v105.2.tripKeep)]) :: (75, .fr .shr true 15 (List.flatten (List.map T_Rec.ienc l))) :: (76, .v (.int .i64 (l.length : Int))) :: (77, .v (.int .i64 v106)) :: (78, .v (.bool (v105.1 == v106))) :: (79, .v (.bool (v105.1 == v106))) :: (80, .v (.bool true)) :: (81, .box 64 [.v (.int .i64 v105.2.limit), .fr (.own 46) false 15 (List.flatten (List.map T_Rec.ienc v105.2.recs)), .v (.int .i64 v105.2.used), .v (.int .i64 v105.2.safe), .v (.int .i64 v105.2.kept), .v (.int .i64 v105.2.life), .v (.bool v105.2.off), .v (.int .i64 v105.2.trip), .v (.int .i64 v105.2.tripKeep)]) :: (82, .fr .shr true 15 (List.flatten (List.map T_Rec.ienc l))) :: (83, .v (.int .i64 v107.1)) :: (81, .box 64 [.v (.int .i64 v107.2.limit), .fr (.own 46) false 15 (List.flatten (List.map T_Rec.ienc v107.2.recs)), .v (.int .i64 v107.2.used), .v (.int .i64 v107.2.safe), .v (.int .i64 v107.2.kept), .v (.int .i64 v107.2.life), .v (.bool v107.2.off), .v (.int .i64 v107.2.trip), .v (.int .i64 v107.2.tripKeep)]) :: (84, .v (.bool (v107.1 == 8))) :: (85, .v (.bool (v107.1 == 8))) :: (86, .v (.bool false)) :: (87, .v undef) :: (88, .v (.bool false)) :: (4, .v (.bool false)) :: [])) (init := [0, 1, 2, 3, 4]) (fin := [26]) (sps := (⟨[3], [], [5], [(.slot 70)]⟩ :: ⟨[5], [], [6], [(.slot 71)]⟩ :: ⟨[6], [], [7], [(.slot 72)]⟩ :: ⟨[7, 2], [], [8], [(.slot 73)]⟩ :: ⟨[7, 8], [2], [10, 9], [(.slot 74), (.cell 7 0), (.cell 7 1), (.cell 7 2), (.cell 7 3), (.cell 7 4), (.cell 7 5), (.cell 7 6), (.cell 7 7), (.cell 7 8)]⟩ :: ⟨[7, 0], [], [11], [(.slot 75)]⟩ :: ⟨[7, 11], [], [12], [(.slot 76)]⟩ :: ⟨[7, 12], [], [13], [(.slot 77)]⟩ :: ⟨[7, 9, 13], [], [14], [(.slot 78)]⟩ :: ⟨[7, 14], [], [15], [(.slot 79)]⟩ :: ⟨[15], [], [16], [(.slot 80)]⟩ :: ⟨[16], [8, 10], [17], [(.slot 81)]⟩ :: ⟨[16, 0], [], [18], [(.slot 82)]⟩ :: ⟨[16, 18], [17], [20, 19], [(.slot 83), (.cell 81 0), (.cell 81 1), (.cell 81 2), (.cell 81 3), (.cell 81 4), (.cell 81 5), (.cell 81 6), (.cell 81 7), (.cell 81 8)]⟩ :: ⟨[16, 19], [], [21], [(.slot 84)]⟩ :: ⟨[16, 21], [], [22], [(.slot 85)]⟩ :: ⟨[22], [], [23], [(.slot 86)]⟩ :: ⟨[23], [], [24], [(.slot 87)]⟩ :: ⟨[23], [], [25], [(.slot 88)]⟩ :: ⟨[25], [], [26], [(.slot 4)]⟩ :: [])) (es' := [(4, .v (.bool false))]) (by kernel_rfl) rfl rfl
                ⟨st_plain rfl (op_move _ _ _ _ rfl rfl),
                st_plain rfl (op_bin _ _ _ _ _ rfl rfl rfl),
                st_plain rfl (op_move _ _ _ _ (congrArg (fun b => AV.v (Value.bool b)) hg20_2) rfl),
                st_run 2 72 true rfl rfl rfl (List.Mem.head _) (op_move _ _ _ _ rfl rfl),
                st_run 2 72 true rfl rfl rfl (List.Mem.head _) (op_callP _ _ _ _ 74 34 [.tmp 73] [] _ _ _ rfl Try.call34 rfl rfl rfl (ok_diary_Diary_Len (T_diary_Diary.mk s83 s84 s85 s86 s87 s88 s89 s90 s91) _ hv105) (Nat.le_of_ble_eq_true rfl) rfl rfl rfl rfl rfl rfl rfl rfl),
                st_run 2 72 true rfl rfl rfl (List.Mem.head _) (op_move _ _ _ _ rfl rfl),
                st_run 2 72 true rfl rfl rfl (List.Mem.head _) (op_len_fr _ _ _ Try.underlying31 rfl (by decide) (gflat_len T_Rec.ilen _)),
                st_run 2 72 true rfl rfl rfl (List.Mem.head _) (op_bin _ _ _ _ _ rfl rfl (ibind (f := Value.int .i64) (Option.some.inj hv106))),
                st_run 2 72 true rfl rfl rfl (List.Mem.head _) (op_bin _ _ _ _ _ rfl rfl rfl),
                st_plain rfl (op_pick _ _ true _ rfl rfl),
                st_plain rfl (op_move _ _ _ _ (congrArg (fun b => AV.v (Value.bool b)) hg20_10) rfl),
                st_run 10 80 true rfl rfl rfl (List.Mem.head _) (LOp.drop [_] (op_move_take _ _ _ _ rfl)),
                st_run 10 80 true rfl rfl rfl (List.Mem.head _) (op_move _ _ _ _ rfl rfl),
                st_run 10 80 true rfl rfl rfl (List.Mem.head _) (op_callP _ _ _ _ 83 19 [.tmp 81] [.tmp 82] _ _ _ rfl Try.call19 rfl rfl rfl (ok_diary_Diary_Renew v105.2 l _ hv107) (Nat.le_of_ble_eq_true rfl) rfl rfl rfl rfl rfl rfl rfl rfl),
                st_run 10 80 true rfl rfl rfl (List.Mem.head _) (op_bin _ _ _ _ _ rfl rfl rfl),
                st_plain rfl (op_pick _ _ true _ rfl rfl),
                st_plain rfl (op_move _ _ _ _ (congrArg (fun b => AV.v (Value.bool b)) hg20_16) rfl),
                st_skip 16 86 _ true rfl rfl rfl rfl (List.Mem.head _),
                st_plain rfl (op_pick _ _ false _ rfl rfl),
                st_plain rfl (op_assign _ _ _ _ rfl rfl),
                trivial⟩ ?_
               exact hl111 _ (Option.some.inj h).symm
             ·refine ht_seqR hn (El := (_ :: _ :: _ :: _ :: _ :: (70, .v (.int .i64 s92)) :: (71, .v (.bool (s92 == 8))) :: (72, .v (.bool true)) :: (73, .ptr 7 0) :: (74, .v (.int .i64 v105.1)) :: (7, .box 64 [.v (.int .i64 v105.2.limit), .fr (.own 46) false 15 (List.flatten (List.map T_Rec.ienc v105.2.recs)), .v (.int .i64 v105.2.used), .v (.int .i64 v105.2.safe), .v (.int .i64 v105.2.kept), .v (.int .i64 v105.2.life), .v (.bool v105.2.off), .v (.int .i64 v105.2.trip), .v (.int .i64 v105.2.tripKeep)]) :: (75, .fr .shr true 15 (List.flatten (List.map T_Rec.ienc l))) :: (76, .v (.int .i64 (l.length : Int))) :: (77, .v (.int .i64 v106)) :: (78, .v (.bool (v105.1 == v106))) :: (79, .v (.bool (v105.1 == v106))) :: (80, .v (.bool false)) :: (81, .v undef) :: (82, .v undef) :: (83, .v undef) :: (84, .v undef) :: (85, .v (.bool false)) :: (86, .v (.bool false)) :: (87, .v undef) :: (88, .v (.bool false)) :: (4, .v (.bool false)) :: [])) (init := [0, 1, 2, 3, 4]) (fin := [25]) (sps := (⟨[3], [], [5], [(.slot 70)]⟩ :: ⟨[5], [], [6], [(.slot 71)]⟩ :: ⟨[6], [], [7], [(.slot 72)]⟩ :: ⟨[7, 2], [], [8], [(.slot 73)]⟩ :: ⟨[7, 8], [2], [10, 9], [(.slot 74), (.cell 7 0), (.cell 7 1), (.cell 7 2), (.cell 7 3), (.cell 7 4), (.cell 7 5), (.cell 7 6), (.cell 7 7), (.cell 7 8)]⟩ :: ⟨[7, 0], [], [11], [(.slot 75)]⟩ :: ⟨[7, 11], [], [12], [(.slot 76)]⟩ :: ⟨[7, 12], [], [13], [(.slot 77)]⟩ :: ⟨[7, 9, 13], [], [14], [(.slot 78)]⟩ :: ⟨[7, 14], [], [15], [(.slot 79)]⟩ :: ⟨[15], [], [16], [(.slot 80)]⟩ :: ⟨[16], [], [17], [(.slot 81)]⟩ :: ⟨[16], [], [18], [(.slot 82)]⟩ :: ⟨[16], [], [19], [(.slot 83)]⟩ :: ⟨[16], [], [20], [(.slot 84)]⟩ :: ⟨[16], [], [21], [(.slot 85)]⟩ :: ⟨[21], [], [22], [(.slot 86)]⟩ :: ⟨[22], [], [23], [(.slot 87)]⟩ :: ⟨[22], [], [24], [(.slot 88)]⟩ :: ⟨[24], [], [25], [(.slot 4)]⟩ :: [])) (es' := [(4, .v (.bool false))]) (by kernel_rfl) rfl rfl
               ⟨st_plain rfl (op_move _ _ _ _ rfl rfl),
               st_plain rfl (op_bin _ _ _ _ _ rfl rfl rfl),
               st_plain rfl (op_move _ _ _ _ (congrArg (fun b => AV.v (Value.bool b)) hg20_2) rfl),
               st_run 2 72 true rfl rfl rfl (List.Mem.head _) (op_move _ _ _ _ rfl rfl),
               st_run 2 72 true rfl rfl rfl (List.Mem.head _) (op_callP _ _ _ _ 74 34 [.tmp 73] [] _ _ _ rfl Try.call34 rfl rfl rfl (ok_diary_Diary_Len (T_diary_Diary.mk s83 s84 s85 s86 s87 s88 s89 s90 s91) _ hv105) (Nat.le_of_ble_eq_true rfl) rfl rfl rfl rfl rfl rfl rfl rfl),
               st_run 2 72 true rfl rfl rfl (List.Mem.head _) (op_move _ _ _ _ rfl rfl),
               st_run 2 72 true rfl rfl rfl (List.Mem.head _) (op_len_fr _ _ _ Try.underlying31 rfl (by decide) (gflat_len T_Rec.ilen _)),
               st_run 2 72 true rfl rfl rfl (List.Mem.head _) (op_bin _ _ _ _ _ rfl rfl (ibind (f := Value.int .i64) (Option.some.inj hv106))),
               st_run 2 72 true rfl rfl rfl (List.Mem.head _) (op_bin _ _ _ _ _ rfl rfl rfl),
               st_plain rfl (op_pick _ _ true _ rfl rfl),
               st_plain rfl (op_move _ _ _ _ (congrArg (fun b => AV.v (Value.bool b)) hg20_10) rfl),
               st_skip 10 80 _ true rfl rfl rfl rfl (List.Mem.head _),
               st_skip 10 80 _ true rfl rfl rfl rfl (List.Mem.head _),
               st_skip 10 80 _ true rfl rfl rfl rfl (List.Mem.head _),
               st_skip 10 80 _ true rfl rfl rfl rfl (List.Mem.head _),
               st_plain rfl (op_pick _ _ false _ rfl rfl),
               st_plain rfl (op_move _ _ _ _ rfl rfl),
               st_skip 16 86 _ true rfl rfl rfl rfl (List.Mem.head _),
               st_plain rfl (op_pick _ _ false _ rfl rfl),
               st_plain rfl (op_assign _ _ _ _ rfl rfl),
               trivial⟩ ?_
              exact hl111 _ (Option.some.inj h).symm
            ·refine ht_seqR hn (El := (_ :: _ :: _ :: _ :: _ :: (70, .v (.int .i64 s92)) :: (71, .v (.bool (s92 == 8))) :: (72, .v (.bool false)) :: (73, .v undef) :: (74, .v undef) :: (75, .v undef) :: (76, .v undef) :: (77, .v undef) :: (78, .v undef) :: (79, .v (.bool false)) :: (80, .v (.bool false)) :: (81, .v undef) :: (82, .v undef) :: (83, .v undef) :: (84, .v undef) :: (85, .v (.bool false)) :: (86, .v (.bool false)) :: (87, .v undef) :: (88, .v (.bool false)) :: (4, .v (.bool false)) :: [])) (init := [0, 1, 2, 3, 4]) (fin := [24]) (sps := (⟨[3], [], [5], [(.slot 70)]⟩ :: ⟨[5], [], [6], [(.slot 71)]⟩ :: ⟨[6], [], [7], [(.slot 72)]⟩ :: ⟨[7], [], [8], [(.slot 73)]⟩ :: ⟨[7], [], [9], [(.slot 74)]⟩ :: ⟨[7], [], [10], [(.slot 75)]⟩ :: ⟨[7], [], [11], [(.slot 76)]⟩ :: ⟨[7], [], [12], [(.slot 77)]⟩ :: ⟨[7], [], [13], [(.slot 78)]⟩ :: ⟨[7], [], [14], [(.slot 79)]⟩ :: ⟨[14], [], [15], [(.slot 80)]⟩ :: ⟨[15], [], [16], [(.slot 81)]⟩ :: ⟨[15], [], [17], [(.slot 82)]⟩ :: ⟨[15], [], [18], [(.slot 83)]⟩ :: ⟨[15], [], [19], [(.slot 84)]⟩ :: ⟨[15], [], [20], [(.slot 85)]⟩ :: ⟨[20], [], [21], [(.slot 86)]⟩ :: ⟨[21], [], [22], [(.slot 87)]⟩ :: ⟨[21], [], [23], [(.slot 88)]⟩ :: ⟨[23], [], [24], [(.slot 4)]⟩ :: [])) (es' := [(4, .v (.bool false))]) (by kernel_rfl) rfl rfl
              ⟨st_plain rfl (op_move _ _ _ _ rfl rfl),
              st_plain rfl (op_bin _ _ _ _ _ rfl rfl rfl),
              st_plain rfl (op_move _ _ _ _ (congrArg (fun b => AV.v (Value.bool b)) hg20_2) rfl),
              st_skip 2 72 _ true rfl rfl rfl rfl (List.Mem.head _),
              st_skip 2 72 _ true rfl rfl rfl rfl (List.Mem.head _),
              st_skip 2 72 _ true rfl rfl rfl rfl (List.Mem.head _),
              st_skip 2 72 _ true rfl rfl rfl rfl (List.Mem.head _),
              st_skip 2 72 _ true rfl rfl rfl rfl (List.Mem.head _),
              st_skip 2 72 _ true rfl rfl rfl rfl (List.Mem.head _),
              st_plain rfl (op_pick _ _ false _ rfl rfl),
              st_plain rfl (op_move _ _ _ _ rfl rfl),
              st_skip 10 80 _ true rfl rfl rfl rfl (List.Mem.head _),
              st_skip 10 80 _ true rfl rfl rfl rfl (List.Mem.head _),
              st_skip 10 80 _ true rfl rfl rfl rfl (List.Mem.head _),
              st_skip 10 80 _ true rfl rfl rfl rfl (List.Mem.head _),
              st_plain rfl (op_pick _ _ false _ rfl rfl),
              st_plain rfl (op_move _ _ _ _ rfl rfl),
              st_skip 16 86 _ true rfl rfl rfl rfl (List.Mem.head _),
              st_plain rfl (op_pick _ _ false _ rfl rfl),
              st_plain rfl (op_assign _ _ _ _ rfl rfl),
              trivial⟩ ?_
             exact hl111 _ (Option.some.inj h).symm
          ·have h := cond_f hb104 h
           refine ht_skip ?_
           refine pt_then ?_
           refine ht_seq ?_
           refine ht_joinS h (fun (s118 : Bool) => [(4, .v (.bool s118))]) ?_ ?_
           ·rintro s118 h
            refine pt_then ?_
            refine ht_ret ?_
            obtain rfl := Option.some.inj h
            exact pt_ret hio rfl (.tmp _ _ .nil) rfl rfl
           ·intro u119 h hl120 hr121
            refine cond_some h (fun hg21_2 h => ?_) (fun hg21_2 h => ?_)
            ·obtain ⟨v113, hv113, h⟩ := bind_some h
             refine cond_some h (fun hg21_8 h => ?_) (fun hg21_8 h => ?_)
             ·obtain ⟨v114, hv114, h⟩ := bind_some h
              refine cond_some h (fun hg21_14 h => ?_) (fun hg21_14 h => ?_)
              ·obtain ⟨v115, hv115, h⟩ := bind_some h
               refine cond_some h (fun hg21_20 h => ?_) (fun hg21_20 h => ?_)
               ·obtain ⟨v116, hv116, h⟩ := bind_some h
                refine cond_some h (fun hg21_27 h => ?_) (fun hg21_27 h => ?_)
                ·obtain ⟨v117, hv117, h⟩ := bind_some h
                 refine ht_seqR hn (El := (_ :: _ :: _ :: _ :: _ :: (89, .v (.int .i64 s92)) :: (90, .v (.bool (s92 == 0))) :: (91, .v (.bool true)) :: (92, .ptr 7 0) :: (93, .v (.int .i64 v113.1)) :: (7, .box 64 [.v (.int .i64 v113.2.limit), .fr (.own 46) false 15 (List.flatten (List.map T_Rec.ienc v113.2.recs)), .v (.int .i64 v113.2.used), .v (.int .i64 v113.2.safe), .v (.int .i64 v113.2.kept), .v (.int .i64 v113.2.life), .v (.bool v113.2.off), .v (.int .i64 v113.2.trip), .v (.int .i64 v113.2.tripKeep)]) :: (94, .v (.int .i64 s15)) :: (95, .v (.bool (v113.1 == s15))) :: (96, .v (.bool (v113.1 == s15))) :: (97, .v (.bool true)) :: (98, .ptr 7 0) :: (99, .agg [.v (.int .i64 0), .v (.bool false), .v (.string (⟨#[]⟩ : ByteArray)), .v (.string (⟨#[]⟩ : ByteArray)), .v (.slice none 0 0), .v (.slice none 0 0), .v (.bool false), .v (.string (⟨#[]⟩ : ByteArray)), .v (.int .i64 0), .v (.int .i64 0), .v (.slice none 0 0), .v (.int .i64 0), .v (.int .i64 0), .v (.int .i64 0), .v (.slice none 0 0)]) :: (100, .v (.int .i64 v114.1)) :: (7, .box 64 [.v (.int .i64 v114.2.limit), .fr (.own 46) false 15 (List.flatten (List.map T_Rec.ienc v114.2.recs)), .v (.int .i64 v114.2.used), .v (.int .i64 v114.2.safe), .v (.int .i64 v114.2.kept), .v (.int .i64 v114.2.life), .v (.bool v114.2.off), .v (.int .i64 v114.2.trip), .v (.int .i64 v114.2.tripKeep)]) :: (101, .v (.bool (v114.1 == 8))) :: (102, .v (.bool (v114.1 == 8))) :: (103, .v (.bool true)) :: (104, .ptr 7 0) :: (105, .fr .shr true 15 (List.flatten (List.map T_Rec.ienc l))) :: (106, .v (.int .i64 v115.1)) :: (7, .box 64 [.v (.int .i64 v115.2.limit), .fr (.own 46) false 15 (List.flatten (List.map T_Rec.ienc v115.2.recs)), .v (.int .i64 v115.2.used), .v (.int .i64 v115.2.safe), .v (.int .i64 v115.2.kept), .v (.int .i64 v115.2.life), .v (.bool v115.2.off), .v (.int .i64 v115.2.trip), .v (.int .i64 v115.2.tripKeep)]) :: (107, .v (.bool (v115.1 == 0))) :: (108, .v (.bool (v115.1 == 0))) :: (109, .v (.bool true)) :: (110, .box 64 [.v (.int .i64 v115.2.limit), .fr (.own 46) false 15 (List.flatten (List.map T_Rec.ienc v115.2.recs)), .v (.int .i64 v115.2.used), .v (.int .i64 v115.2.safe), .v (.int .i64 v115.2.kept), .v (.int .i64 v115.2.life), .v (.bool v115.2.off), .v (.int .i64 v115.2.trip), .v (.int .i64 v115.2.tripKeep)]) :: (111, .v (.int .i64 v116.1)) :: (110, .box 64 [.v (.int .i64 v116.2.limit), .fr (.own 46) false 15 (List.flatten (List.map T_Rec.ienc v116.2.recs)), .v (.int .i64 v116.2.used), .v (.int .i64 v116.2.safe), .v (.int .i64 v116.2.kept), .v (.int .i64 v116.2.life), .v (.bool v116.2.off), .v (.int .i64 v116.2.trip), .v (.int .i64 v116.2.tripKeep)]) :: (112, .fr .shr true 15 (List.flatten (List.map T_Rec.ienc l))) :: (113, .v (.int .i64 (l.length : Int))) :: (114, .v (.bool ((v116.1 == (l.length : Int))))) :: (115, .v (.bool ((v116.1 == (l.length : Int))))) :: (116, .v (.bool true)) :: (117, .v (.bool v117)) :: (118, .v (.bool v117)) :: (4, .v (.bool v117)) :: [])) (init := [0, 1, 2, 3, 4]) (fin := [39]) (sps := (⟨[3], [], [5], [(.slot 89)]⟩ :: ⟨[5], [], [6], [(.slot 90)]⟩ :: ⟨[6], [], [7], [(.slot 91)]⟩ :: ⟨[7, 2], [], [8], [(.slot 92)]⟩ :: ⟨[7, 8], [2], [10, 9], [(.slot 93), (.cell 7 0), (.cell 7 1), (.cell 7 2), (.cell 7 3), (.cell 7 4), (.cell 7 5), (.cell 7 6), (.cell 7 7), (.cell 7 8)]⟩ :: ⟨[7, 1], [], [11], [(.slot 94)]⟩ :: ⟨[7, 9, 11], [], [12], [(.slot 95)]⟩ :: ⟨[7, 12], [], [13], [(.slot 96)]⟩ :: ⟨[13], [], [14], [(.slot 97)]⟩ :: ⟨[14, 10], [], [15], [(.slot 98)]⟩ :: ⟨[14], [], [16], [(.slot 99)]⟩ :: ⟨[14, 15, 16], [10], [18, 17], [(.slot 100), (.cell 7 0), (.cell 7 1), (.cell 7 2), (.cell 7 3), (.cell 7 4), (.cell 7 5), (.cell 7 6), (.cell 7 7), (.cell 7 8)]⟩ :: ⟨[14, 17], [], [19], [(.slot 101)]⟩ :: ⟨[14, 19], [], [20], [(.slot 102)]⟩ :: ⟨[20], [], [21], [(.slot 103)]⟩ :: ⟨[21, 18], [], [22], [(.slot 104)]⟩ :: ⟨[21, 0], [], [23], [(.slot 105)]⟩ :: ⟨[21, 22, 23], [18], [25, 24], [(.slot 106), (.cell 7 0), (.cell 7 1), (.cell 7 2), (.cell 7 3), (.cell 7 4), (.cell 7 5), (.cell 7 6), (.cell 7 7), (.cell 7 8)]⟩ :: ⟨[21, 24], [], [26], [(.slot 107)]⟩ :: ⟨[21, 26], [], [27], [(.slot 108)]⟩ :: ⟨[27], [], [28], [(.slot 109)]⟩ :: ⟨[28], [8, 15, 22, 25], [29], [(.slot 110)]⟩ :: ⟨[28], [29], [31, 30], [(.slot 111), (.cell 110 0), (.cell 110 1), (.cell 110 2), (.cell 110 3), (.cell 110 4), (.cell 110 5), (.cell 110 6), (.cell 110 7), (.cell 110 8)]⟩ :: ⟨[28, 0], [], [32], [(.slot 112)]⟩ :: ⟨[28, 32], [], [33], [(.slot 113)]⟩ :: ⟨[28, 30, 33], [], [34], [(.slot 114)]⟩ :: ⟨[28, 34], [], [35], [(.slot 115)]⟩ :: ⟨[35], [], [36], [(.slot 116)]⟩ :: ⟨[36], [], [37], [(.slot 117)]⟩ :: ⟨[36, 37], [], [38], [(.slot 118)]⟩ :: ⟨[38], [], [39], [(.slot 4)]⟩ :: [])) (es' := [(4, .v (.bool v117))]) (by kernel_rfl) rfl rfl
                  ⟨st_plain rfl (op_move _ _ _ _ rfl rfl),
                  st_plain rfl (op_bin _ _ _ _ _ rfl rfl rfl),
                  st_plain rfl (op_move _ _ _ _ (congrArg (fun b => AV.v (Value.bool b)) hg21_2) rfl),
                  st_run 2 91 true rfl rfl rfl (List.Mem.head _) (op_move _ _ _ _ rfl rfl),
                  st_run 2 91 true rfl rfl rfl (List.Mem.head _) (op_callP _ _ _ _ 93 35 [.tmp 92] [] _ _ _ rfl Try.call35 rfl rfl rfl (ok_diary_Diary_Used (T_diary_Diary.mk s83 s84 s85 s86 s87 s88 s89 s90 s91) _ hv113) (Nat.le_of_ble_eq_true rfl) rfl rfl rfl rfl rfl rfl rfl rfl),
                  st_run 2 91 true rfl rfl rfl (List.Mem.head _) (op_move _ _ _ _ rfl rfl),
                  st_run 2 91 true rfl rfl rfl (List.Mem.head _) (op_bin _ _ _ _ _ rfl rfl rfl),
                  st_plain rfl (op_pick _ _ true _ rfl rfl),
                  st_plain rfl (op_move _ _ _ _ (congrArg (fun b => AV.v (Value.bool b)) hg21_8) rfl),
                  st_run 8 97 true rfl rfl rfl (List.Mem.head _) (op_move _ _ _ _ rfl rfl),
                  st_run 8 97 true rfl rfl rfl (List.Mem.head _) (op_build _ _ _ _ [1, 8, 1, 1, 1, 1, 1, 1] _ _ Try.underlying46 zr46 (fs46 _ Try.underlying46) Src.nil rfl rfl rfl),
                  st_run 8 97 true rfl rfl rfl (List.Mem.head _) (op_callP _ _ _ _ 100 15 [.tmp 98] [.tmp 99] _ _ _ rfl Try.call15 rfl rfl rfl ((ok_diary_Diary_Put v113.2 ((T_Rec.mk 0 ((T_Mail.mk ((T_Path.mk false (⟨#[]⟩ : ByteArray) (⟨#[]⟩ : ByteArray))) [] [] false (⟨#[]⟩ : ByteArray) 0)) 0 [] 0 0 0 [])) _ hv114).args (subs_cons (sub_refl _) (subs_cons (sub_agg (subs_cons (sub_refl _) (subs_cons (sub_refl _) (subs_cons (sub_refl _) (subs_cons (sub_refl _) (subs_cons (sub_nil_shr 3) (subs_cons (sub_nil_shr 1) (subs_cons (sub_refl _) (subs_cons (sub_refl _) (subs_cons (sub_refl _) (subs_cons (sub_refl _) (subs_cons (sub_nil_shr 1) (subs_cons (sub_refl _) (subs_cons (sub_refl _) (subs_cons (sub_refl _) (subs_cons (sub_nil_shr 1) (subs_nil))))))))))))))))) (subs_nil)))) (Nat.le_of_ble_eq_true rfl) rfl rfl rfl rfl rfl rfl rfl rfl),
                  st_run 8 97 true rfl rfl rfl (List.Mem.head _) (op_bin _ _ _ _ _ rfl rfl rfl),
                  st_plain rfl (op_pick _ _ true _ rfl rfl),
                  st_plain rfl (op_move _ _ _ _ (congrArg (fun b => AV.v (Value.bool b)) hg21_14) rfl),
                  st_run 14 103 true rfl rfl rfl (List.Mem.head _) (op_move _ _ _ _ rfl rfl),
                  st_run 14 103 true rfl rfl rfl (List.Mem.head _) (op_move _ _ _ _ rfl rfl),
                  st_run 14 103 true rfl rfl rfl (List.Mem.head _) (op_callP _ _ _ _ 106 19 [.tmp 104] [.tmp 105] _ _ _ rfl Try.call19 rfl rfl rfl (ok_diary_Diary_Renew v114.2 l _ hv115) (Nat.le_of_ble_eq_true rfl) rfl rfl rfl rfl rfl rfl rfl rfl),
                  st_run 14 103 true rfl rfl rfl (List.Mem.head _) (op_bin _ _ _ _ _ rfl rfl rfl),
                  st_plain rfl (op_pick _ _ true _ rfl rfl),
                  st_plain rfl (op_move _ _ _ _ (congrArg (fun b => AV.v (Value.bool b)) hg21_20) rfl),
                  st_run 20 109 true rfl rfl rfl (List.Mem.head _) (LOp.drop [_] (LOp.drop [_] (LOp.drop [_] (op_move_take _ _ _ _ rfl)))),
                  st_run 20 109 true rfl rfl rfl (List.Mem.head _) (op_callP _ _ _ _ 111 31 [.tmp 110] [] _ _ _ rfl Try.call31 rfl rfl rfl (ok_diary_Diary_Safe v115.2 _ hv116) (Nat.le_of_ble_eq_true rfl) rfl rfl rfl rfl rfl rfl rfl rfl),
                  st_run 20 109 true rfl rfl rfl (List.Mem.head _) (op_move _ _ _ _ rfl rfl),
                  st_run 20 109 true rfl rfl rfl (List.Mem.head _) (op_len_fr _ _ _ Try.underlying31 rfl (by decide) (gflat_len T_Rec.ilen _)),
                  st_run 20 109 true rfl rfl rfl (List.Mem.head _) (op_bin _ _ _ _ _ rfl rfl rfl),
                  st_plain rfl (op_pick _ _ true _ rfl rfl),
                  st_plain rfl (op_move _ _ _ _ (congrArg (fun b => AV.v (Value.bool b)) hg21_27) rfl),
                  st_run 27 116 true rfl rfl rfl (List.Mem.head _) (op_call _ _ 12 _ _ rfl Try.call12 rfl (ok_wherrylaw18_wakes  _ hv117) rfl rfl),
                  st_plain rfl (op_pick _ _ true _ rfl rfl),
                  st_plain rfl (op_assign _ _ _ _ rfl rfl),
                  trivial⟩ ?_
                 exact hl120 _ (Option.some.inj h).symm
                ·refine ht_seqR hn (El := (_ :: _ :: _ :: _ :: _ :: (89, .v (.int .i64 s92)) :: (90, .v (.bool (s92 == 0))) :: (91, .v (.bool true)) :: (92, .ptr 7 0) :: (93, .v (.int .i64 v113.1)) :: (7, .box 64 [.v (.int .i64 v113.2.limit), .fr (.own 46) false 15 (List.flatten (List.map T_Rec.ienc v113.2.recs)), .v (.int .i64 v113.2.used), .v (.int .i64 v113.2.safe), .v (.int .i64 v113.2.kept), .v (.int .i64 v113.2.life), .v (.bool v113.2.off), .v (.int .i64 v113.2.trip), .v (.int .i64 v113.2.tripKeep)]) :: (94, .v (.int .i64 s15)) :: (95, .v (.bool (v113.1 == s15))) :: (96, .v (.bool (v113.1 == s15))) :: (97, .v (.bool true)) :: (98, .ptr 7 0) :: (99, .agg [.v (.int .i64 0), .v (.bool false), .v (.string (⟨#[]⟩ : ByteArray)), .v (.string (⟨#[]⟩ : ByteArray)), .v (.slice none 0 0), .v (.slice none 0 0), .v (.bool false), .v (.string (⟨#[]⟩ : ByteArray)), .v (.int .i64 0), .v (.int .i64 0), .v (.slice none 0 0), .v (.int .i64 0), .v (.int .i64 0), .v (.int .i64 0), .v (.slice none 0 0)]) :: (100, .v (.int .i64 v114.1)) :: (7, .box 64 [.v (.int .i64 v114.2.limit), .fr (.own 46) false 15 (List.flatten (List.map T_Rec.ienc v114.2.recs)), .v (.int .i64 v114.2.used), .v (.int .i64 v114.2.safe), .v (.int .i64 v114.2.kept), .v (.int .i64 v114.2.life), .v (.bool v114.2.off), .v (.int .i64 v114.2.trip), .v (.int .i64 v114.2.tripKeep)]) :: (101, .v (.bool (v114.1 == 8))) :: (102, .v (.bool (v114.1 == 8))) :: (103, .v (.bool true)) :: (104, .ptr 7 0) :: (105, .fr .shr true 15 (List.flatten (List.map T_Rec.ienc l))) :: (106, .v (.int .i64 v115.1)) :: (7, .box 64 [.v (.int .i64 v115.2.limit), .fr (.own 46) false 15 (List.flatten (List.map T_Rec.ienc v115.2.recs)), .v (.int .i64 v115.2.used), .v (.int .i64 v115.2.safe), .v (.int .i64 v115.2.kept), .v (.int .i64 v115.2.life), .v (.bool v115.2.off), .v (.int .i64 v115.2.trip), .v (.int .i64 v115.2.tripKeep)]) :: (107, .v (.bool (v115.1 == 0))) :: (108, .v (.bool (v115.1 == 0))) :: (109, .v (.bool true)) :: (110, .box 64 [.v (.int .i64 v115.2.limit), .fr (.own 46) false 15 (List.flatten (List.map T_Rec.ienc v115.2.recs)), .v (.int .i64 v115.2.used), .v (.int .i64 v115.2.safe), .v (.int .i64 v115.2.kept), .v (.int .i64 v115.2.life), .v (.bool v115.2.off), .v (.int .i64 v115.2.trip), .v (.int .i64 v115.2.tripKeep)]) :: (111, .v (.int .i64 v116.1)) :: (110, .box 64 [.v (.int .i64 v116.2.limit), .fr (.own 46) false 15 (List.flatten (List.map T_Rec.ienc v116.2.recs)), .v (.int .i64 v116.2.used), .v (.int .i64 v116.2.safe), .v (.int .i64 v116.2.kept), .v (.int .i64 v116.2.life), .v (.bool v116.2.off), .v (.int .i64 v116.2.trip), .v (.int .i64 v116.2.tripKeep)]) :: (112, .fr .shr true 15 (List.flatten (List.map T_Rec.ienc l))) :: (113, .v (.int .i64 (l.length : Int))) :: (114, .v (.bool ((v116.1 == (l.length : Int))))) :: (115, .v (.bool ((v116.1 == (l.length : Int))))) :: (116, .v (.bool false)) :: (117, .v undef) :: (118, .v (.bool false)) :: (4, .v (.bool false)) :: [])) (init := [0, 1, 2, 3, 4]) (fin := [39]) (sps := (⟨[3], [], [5], [(.slot 89)]⟩ :: ⟨[5], [], [6], [(.slot 90)]⟩ :: ⟨[6], [], [7], [(.slot 91)]⟩ :: ⟨[7, 2], [], [8], [(.slot 92)]⟩ :: ⟨[7, 8], [2], [10, 9], [(.slot 93), (.cell 7 0), (.cell 7 1), (.cell 7 2), (.cell 7 3), (.cell 7 4), (.cell 7 5), (.cell 7 6), (.cell 7 7), (.cell 7 8)]⟩ :: ⟨[7, 1], [], [11], [(.slot 94)]⟩ :: ⟨[7, 9, 11], [], [12], [(.slot 95)]⟩ :: ⟨[7, 12], [], [13], [(.slot 96)]⟩ :: ⟨[13], [], [14], [(.slot 97)]⟩ :: ⟨[14, 10], [], [15], [(.slot 98)]⟩ :: ⟨[14], [], [16], [(.slot 99)]⟩ :: ⟨[14, 15, 16], [10], [18, 17], [(.slot 100), (.cell 7 0), (.cell 7 1), (.cell 7 2), (.cell 7 3), (.cell 7 4), (.cell 7 5), (.cell 7 6), (.cell 7 7), (.cell 7 8)]⟩ :: ⟨[14, 17], [], [19], [(.slot 101)]⟩ :: ⟨[14, 19], [], [20], [(.slot 102)]⟩ :: ⟨[20], [], [21], [(.slot 103)]⟩ :: ⟨[21, 18], [], [22], [(.slot 104)]⟩ :: ⟨[21, 0], [], [23], [(.slot 105)]⟩ :: ⟨[21, 22, 23], [18], [25, 24], [(.slot 106), (.cell 7 0), (.cell 7 1), (.cell 7 2), (.cell 7 3), (.cell 7 4), (.cell 7 5), (.cell 7 6), (.cell 7 7), (.cell 7 8)]⟩ :: ⟨[21, 24], [], [26], [(.slot 107)]⟩ :: ⟨[21, 26], [], [27], [(.slot 108)]⟩ :: ⟨[27], [], [28], [(.slot 109)]⟩ :: ⟨[28], [8, 15, 22, 25], [29], [(.slot 110)]⟩ :: ⟨[28], [29], [31, 30], [(.slot 111), (.cell 110 0), (.cell 110 1), (.cell 110 2), (.cell 110 3), (.cell 110 4), (.cell 110 5), (.cell 110 6), (.cell 110 7), (.cell 110 8)]⟩ :: ⟨[28, 0], [], [32], [(.slot 112)]⟩ :: ⟨[28, 32], [], [33], [(.slot 113)]⟩ :: ⟨[28, 30, 33], [], [34], [(.slot 114)]⟩ :: ⟨[28, 34], [], [35], [(.slot 115)]⟩ :: ⟨[35], [], [36], [(.slot 116)]⟩ :: ⟨[36], [], [37], [(.slot 117)]⟩ :: ⟨[36], [], [38], [(.slot 118)]⟩ :: ⟨[38], [], [39], [(.slot 4)]⟩ :: [])) (es' := [(4, .v (.bool false))]) (by kernel_rfl) rfl rfl
                  ⟨st_plain rfl (op_move _ _ _ _ rfl rfl),
                  st_plain rfl (op_bin _ _ _ _ _ rfl rfl rfl),
                  st_plain rfl (op_move _ _ _ _ (congrArg (fun b => AV.v (Value.bool b)) hg21_2) rfl),
                  st_run 2 91 true rfl rfl rfl (List.Mem.head _) (op_move _ _ _ _ rfl rfl),
                  st_run 2 91 true rfl rfl rfl (List.Mem.head _) (op_callP _ _ _ _ 93 35 [.tmp 92] [] _ _ _ rfl Try.call35 rfl rfl rfl (ok_diary_Diary_Used (T_diary_Diary.mk s83 s84 s85 s86 s87 s88 s89 s90 s91) _ hv113) (Nat.le_of_ble_eq_true rfl) rfl rfl rfl rfl rfl rfl rfl rfl),
                  st_run 2 91 true rfl rfl rfl (List.Mem.head _) (op_move _ _ _ _ rfl rfl),
                  st_run 2 91 true rfl rfl rfl (List.Mem.head _) (op_bin _ _ _ _ _ rfl rfl rfl),
                  st_plain rfl (op_pick _ _ true _ rfl rfl),
                  st_plain rfl (op_move _ _ _ _ (congrArg (fun b => AV.v (Value.bool b)) hg21_8) rfl),
                  st_run 8 97 true rfl rfl rfl (List.Mem.head _) (op_move _ _ _ _ rfl rfl),
                  st_run 8 97 true rfl rfl rfl (List.Mem.head _) (op_build _ _ _ _ [1, 8, 1, 1, 1, 1, 1, 1] _ _ Try.underlying46 zr46 (fs46 _ Try.underlying46) Src.nil rfl rfl rfl),
                  st_run 8 97 true rfl rfl rfl (List.Mem.head _) (op_callP _ _ _ _ 100 15 [.tmp 98] [.tmp 99] _ _ _ rfl Try.call15 rfl rfl rfl ((ok_diary_Diary_Put v113.2 ((T_Rec.mk 0 ((T_Mail.mk ((T_Path.mk false (⟨#[]⟩ : ByteArray) (⟨#[]⟩ : ByteArray))) [] [] false (⟨#[]⟩ : ByteArray) 0)) 0 [] 0 0 0 [])) _ hv114).args (subs_cons (sub_refl _) (subs_cons (sub_agg (subs_cons (sub_refl _) (subs_cons (sub_refl _) (subs_cons (sub_refl _) (subs_cons (sub_refl _) (subs_cons (sub_nil_shr 3) (subs_cons (sub_nil_shr 1) (subs_cons (sub_refl _) (subs_cons (sub_refl _) (subs_cons (sub_refl _) (subs_cons (sub_refl _) (subs_cons (sub_nil_shr 1) (subs_cons (sub_refl _) (subs_cons (sub_refl _) (subs_cons (sub_refl _) (subs_cons (sub_nil_shr 1) (subs_nil))))))))))))))))) (subs_nil)))) (Nat.le_of_ble_eq_true rfl) rfl rfl rfl rfl rfl rfl rfl rfl),
                  st_run 8 97 true rfl rfl rfl (List.Mem.head _) (op_bin _ _ _ _ _ rfl rfl rfl),
                  st_plain rfl (op_pick _ _ true _ rfl rfl),
                  st_plain rfl (op_move _ _ _ _ (congrArg (fun b => AV.v (Value.bool b)) hg21_14) rfl),
                  st_run 14 103 true rfl rfl rfl (List.Mem.head _) (op_move _ _ _ _ rfl rfl),
                  st_run 14 103 true rfl rfl rfl (List.Mem.head _) (op_move _ _ _ _ rfl rfl),
                  st_run 14 103 true rfl rfl rfl (List.Mem.head _) (op_callP _ _ _ _ 106 19 [.tmp 104] [.tmp 105] _ _ _ rfl Try.call19 rfl rfl rfl (ok_diary_Diary_Renew v114.2 l _ hv115) (Nat.le_of_ble_eq_true rfl) rfl rfl rfl rfl rfl rfl rfl rfl),
                  st_run 14 103 true rfl rfl rfl (List.Mem.head _) (op_bin _ _ _ _ _ rfl rfl rfl),
                  st_plain rfl (op_pick _ _ true _ rfl rfl),
                  st_plain rfl (op_move _ _ _ _ (congrArg (fun b => AV.v (Value.bool b)) hg21_20) rfl),
                  st_run 20 109 true rfl rfl rfl (List.Mem.head _) (LOp.drop [_] (LOp.drop [_] (LOp.drop [_] (op_move_take _ _ _ _ rfl)))),
                  st_run 20 109 true rfl rfl rfl (List.Mem.head _) (op_callP _ _ _ _ 111 31 [.tmp 110] [] _ _ _ rfl Try.call31 rfl rfl rfl (ok_diary_Diary_Safe v115.2 _ hv116) (Nat.le_of_ble_eq_true rfl) rfl rfl rfl rfl rfl rfl rfl rfl),
                  st_run 20 109 true rfl rfl rfl (List.Mem.head _) (op_move _ _ _ _ rfl rfl),
                  st_run 20 109 true rfl rfl rfl (List.Mem.head _) (op_len_fr _ _ _ Try.underlying31 rfl (by decide) (gflat_len T_Rec.ilen _)),
                  st_run 20 109 true rfl rfl rfl (List.Mem.head _) (op_bin _ _ _ _ _ rfl rfl rfl),
                  st_plain rfl (op_pick _ _ true _ rfl rfl),
                  st_plain rfl (op_move _ _ _ _ (congrArg (fun b => AV.v (Value.bool b)) hg21_27) rfl),
                  st_skip 27 116 _ true rfl rfl rfl rfl (List.Mem.head _),
                  st_plain rfl (op_pick _ _ false _ rfl rfl),
                  st_plain rfl (op_assign _ _ _ _ rfl rfl),
                  trivial⟩ ?_
                 exact hl120 _ (Option.some.inj h).symm
               ·refine ht_seqR hn (El := (_ :: _ :: _ :: _ :: _ :: (89, .v (.int .i64 s92)) :: (90, .v (.bool (s92 == 0))) :: (91, .v (.bool true)) :: (92, .ptr 7 0) :: (93, .v (.int .i64 v113.1)) :: (7, .box 64 [.v (.int .i64 v113.2.limit), .fr (.own 46) false 15 (List.flatten (List.map T_Rec.ienc v113.2.recs)), .v (.int .i64 v113.2.used), .v (.int .i64 v113.2.safe), .v (.int .i64 v113.2.kept), .v (.int .i64 v113.2.life), .v (.bool v113.2.off), .v (.int .i64 v113.2.trip), .v (.int .i64 v113.2.tripKeep)]) :: (94, .v (.int .i64 s15)) :: (95, .v (.bool (v113.1 == s15))) :: (96, .v (.bool (v113.1 == s15))) :: (97, .v (.bool true)) :: (98, .ptr 7 0) :: (99, .agg [.v (.int .i64 0), .v (.bool false), .v (.string (⟨#[]⟩ : ByteArray)), .v (.string (⟨#[]⟩ : ByteArray)), .v (.slice none 0 0), .v (.slice none 0 0), .v (.bool false), .v (.string (⟨#[]⟩ : ByteArray)), .v (.int .i64 0), .v (.int .i64 0), .v (.slice none 0 0), .v (.int .i64 0), .v (.int .i64 0), .v (.int .i64 0), .v (.slice none 0 0)]) :: (100, .v (.int .i64 v114.1)) :: (7, .box 64 [.v (.int .i64 v114.2.limit), .fr (.own 46) false 15 (List.flatten (List.map T_Rec.ienc v114.2.recs)), .v (.int .i64 v114.2.used), .v (.int .i64 v114.2.safe), .v (.int .i64 v114.2.kept), .v (.int .i64 v114.2.life), .v (.bool v114.2.off), .v (.int .i64 v114.2.trip), .v (.int .i64 v114.2.tripKeep)]) :: (101, .v (.bool (v114.1 == 8))) :: (102, .v (.bool (v114.1 == 8))) :: (103, .v (.bool true)) :: (104, .ptr 7 0) :: (105, .fr .shr true 15 (List.flatten (List.map T_Rec.ienc l))) :: (106, .v (.int .i64 v115.1)) :: (7, .box 64 [.v (.int .i64 v115.2.limit), .fr (.own 46) false 15 (List.flatten (List.map T_Rec.ienc v115.2.recs)), .v (.int .i64 v115.2.used), .v (.int .i64 v115.2.safe), .v (.int .i64 v115.2.kept), .v (.int .i64 v115.2.life), .v (.bool v115.2.off), .v (.int .i64 v115.2.trip), .v (.int .i64 v115.2.tripKeep)]) :: (107, .v (.bool (v115.1 == 0))) :: (108, .v (.bool (v115.1 == 0))) :: (109, .v (.bool false)) :: (110, .v undef) :: (111, .v undef) :: (112, .v undef) :: (113, .v undef) :: (114, .v undef) :: (115, .v (.bool false)) :: (116, .v (.bool false)) :: (117, .v undef) :: (118, .v (.bool false)) :: (4, .v (.bool false)) :: [])) (init := [0, 1, 2, 3, 4]) (fin := [38]) (sps := (⟨[3], [], [5], [(.slot 89)]⟩ :: ⟨[5], [], [6], [(.slot 90)]⟩ :: ⟨[6], [], [7], [(.slot 91)]⟩ :: ⟨[7, 2], [], [8], [(.slot 92)]⟩ :: ⟨[7, 8], [2], [10, 9], [(.slot 93), (.cell 7 0), (.cell 7 1), (.cell 7 2), (.cell 7 3), (.cell 7 4), (.cell 7 5), (.cell 7 6), (.cell 7 7), (.cell 7 8)]⟩ :: ⟨[7, 1], [], [11], [(.slot 94)]⟩ :: ⟨[7, 9, 11], [], [12], [(.slot 95)]⟩ :: ⟨[7, 12], [], [13], [(.slot 96)]⟩ :: ⟨[13], [], [14], [(.slot 97)]⟩ :: ⟨[14, 10], [], [15], [(.slot 98)]⟩ :: ⟨[14], [], [16], [(.slot 99)]⟩ :: ⟨[14, 15, 16], [10], [18, 17], [(.slot 100), (.cell 7 0), (.cell 7 1), (.cell 7 2), (.cell 7 3), (.cell 7 4), (.cell 7 5), (.cell 7 6), (.cell 7 7), (.cell 7 8)]⟩ :: ⟨[14, 17], [], [19], [(.slot 101)]⟩ :: ⟨[14, 19], [], [20], [(.slot 102)]⟩ :: ⟨[20], [], [21], [(.slot 103)]⟩ :: ⟨[21, 18], [], [22], [(.slot 104)]⟩ :: ⟨[21, 0], [], [23], [(.slot 105)]⟩ :: ⟨[21, 22, 23], [18], [25, 24], [(.slot 106), (.cell 7 0), (.cell 7 1), (.cell 7 2), (.cell 7 3), (.cell 7 4), (.cell 7 5), (.cell 7 6), (.cell 7 7), (.cell 7 8)]⟩ :: ⟨[21, 24], [], [26], [(.slot 107)]⟩ :: ⟨[21, 26], [], [27], [(.slot 108)]⟩ :: ⟨[27], [], [28], [(.slot 109)]⟩ :: ⟨[28], [], [29], [(.slot 110)]⟩ :: ⟨[28], [], [30], [(.slot 111)]⟩ :: ⟨[28], [], [31], [(.slot 112)]⟩ :: ⟨[28], [], [32], [(.slot 113)]⟩ :: ⟨[28], [], [33], [(.slot 114)]⟩ :: ⟨[28], [], [34], [(.slot 115)]⟩ :: ⟨[34], [], [35], [(.slot 116)]⟩ :: ⟨[35], [], [36], [(.slot 117)]⟩ :: ⟨[35], [], [37], [(.slot 118)]⟩ :: ⟨[37], [], [38], [(.slot 4)]⟩ :: [])) (es' := [(4, .v (.bool false))]) (by kernel_rfl) rfl rfl
                 ⟨st_plain rfl (op_move _ _ _ _ rfl rfl),
                 st_plain rfl (op_bin _ _ _ _ _ rfl rfl rfl),
                 st_plain rfl (op_move _ _ _ _ (congrArg (fun b => AV.v (Value.bool b)) hg21_2) rfl),
                 st_run 2 91 true rfl rfl rfl (List.Mem.head _) (op_move _ _ _ _ rfl rfl),
                 st_run 2 91 true rfl rfl rfl (List.Mem.head _) (op_callP _ _ _ _ 93 35 [.tmp 92] [] _ _ _ rfl Try.call35 rfl rfl rfl (ok_diary_Diary_Used (T_diary_Diary.mk s83 s84 s85 s86 s87 s88 s89 s90 s91) _ hv113) (Nat.le_of_ble_eq_true rfl) rfl rfl rfl rfl rfl rfl rfl rfl),
                 st_run 2 91 true rfl rfl rfl (List.Mem.head _) (op_move _ _ _ _ rfl rfl),
                 st_run 2 91 true rfl rfl rfl (List.Mem.head _) (op_bin _ _ _ _ _ rfl rfl rfl),
                 st_plain rfl (op_pick _ _ true _ rfl rfl),
                 st_plain rfl (op_move _ _ _ _ (congrArg (fun b => AV.v (Value.bool b)) hg21_8) rfl),
                 st_run 8 97 true rfl rfl rfl (List.Mem.head _) (op_move _ _ _ _ rfl rfl),
                 st_run 8 97 true rfl rfl rfl (List.Mem.head _) (op_build _ _ _ _ [1, 8, 1, 1, 1, 1, 1, 1] _ _ Try.underlying46 zr46 (fs46 _ Try.underlying46) Src.nil rfl rfl rfl),
                 st_run 8 97 true rfl rfl rfl (List.Mem.head _) (op_callP _ _ _ _ 100 15 [.tmp 98] [.tmp 99] _ _ _ rfl Try.call15 rfl rfl rfl ((ok_diary_Diary_Put v113.2 ((T_Rec.mk 0 ((T_Mail.mk ((T_Path.mk false (⟨#[]⟩ : ByteArray) (⟨#[]⟩ : ByteArray))) [] [] false (⟨#[]⟩ : ByteArray) 0)) 0 [] 0 0 0 [])) _ hv114).args (subs_cons (sub_refl _) (subs_cons (sub_agg (subs_cons (sub_refl _) (subs_cons (sub_refl _) (subs_cons (sub_refl _) (subs_cons (sub_refl _) (subs_cons (sub_nil_shr 3) (subs_cons (sub_nil_shr 1) (subs_cons (sub_refl _) (subs_cons (sub_refl _) (subs_cons (sub_refl _) (subs_cons (sub_refl _) (subs_cons (sub_nil_shr 1) (subs_cons (sub_refl _) (subs_cons (sub_refl _) (subs_cons (sub_refl _) (subs_cons (sub_nil_shr 1) (subs_nil))))))))))))))))) (subs_nil)))) (Nat.le_of_ble_eq_true rfl) rfl rfl rfl rfl rfl rfl rfl rfl),
                 st_run 8 97 true rfl rfl rfl (List.Mem.head _) (op_bin _ _ _ _ _ rfl rfl rfl),
                 st_plain rfl (op_pick _ _ true _ rfl rfl),
                 st_plain rfl (op_move _ _ _ _ (congrArg (fun b => AV.v (Value.bool b)) hg21_14) rfl),
                 st_run 14 103 true rfl rfl rfl (List.Mem.head _) (op_move _ _ _ _ rfl rfl),
                 st_run 14 103 true rfl rfl rfl (List.Mem.head _) (op_move _ _ _ _ rfl rfl),
                 st_run 14 103 true rfl rfl rfl (List.Mem.head _) (op_callP _ _ _ _ 106 19 [.tmp 104] [.tmp 105] _ _ _ rfl Try.call19 rfl rfl rfl (ok_diary_Diary_Renew v114.2 l _ hv115) (Nat.le_of_ble_eq_true rfl) rfl rfl rfl rfl rfl rfl rfl rfl),
                 st_run 14 103 true rfl rfl rfl (List.Mem.head _) (op_bin _ _ _ _ _ rfl rfl rfl),
                 st_plain rfl (op_pick _ _ true _ rfl rfl),
                 st_plain rfl (op_move _ _ _ _ (congrArg (fun b => AV.v (Value.bool b)) hg21_20) rfl),
                 st_skip 20 109 _ true rfl rfl rfl rfl (List.Mem.head _),
                 st_skip 20 109 _ true rfl rfl rfl rfl (List.Mem.head _),
                 st_skip 20 109 _ true rfl rfl rfl rfl (List.Mem.head _),
                 st_skip 20 109 _ true rfl rfl rfl rfl (List.Mem.head _),
                 st_skip 20 109 _ true rfl rfl rfl rfl (List.Mem.head _),
                 st_plain rfl (op_pick _ _ false _ rfl rfl),
                 st_plain rfl (op_move _ _ _ _ rfl rfl),
                 st_skip 27 116 _ true rfl rfl rfl rfl (List.Mem.head _),
                 st_plain rfl (op_pick _ _ false _ rfl rfl),
                 st_plain rfl (op_assign _ _ _ _ rfl rfl),
                 trivial⟩ ?_
                exact hl120 _ (Option.some.inj h).symm
              ·refine ht_seqR hn (El := (_ :: _ :: _ :: _ :: _ :: (89, .v (.int .i64 s92)) :: (90, .v (.bool (s92 == 0))) :: (91, .v (.bool true)) :: (92, .ptr 7 0) :: (93, .v (.int .i64 v113.1)) :: (7, .box 64 [.v (.int .i64 v113.2.limit), .fr (.own 46) false 15 (List.flatten (List.map T_Rec.ienc v113.2.recs)), .v (.int .i64 v113.2.used), .v (.int .i64 v113.2.safe), .v (.int .i64 v113.2.kept), .v (.int .i64 v113.2.life), .v (.bool v113.2.off), .v (.int .i64 v113.2.trip), .v (.int .i64 v113.2.tripKeep)]) :: (94, .v (.int .i64 s15)) :: (95, .v (.bool (v113.1 == s15))) :: (96, .v (.bool (v113.1 == s15))) :: (97, .v (.bool true)) :: (98, .ptr 7 0) :: (99, .agg [.v (.int .i64 0), .v (.bool false), .v (.string (⟨#[]⟩ : ByteArray)), .v (.string (⟨#[]⟩ : ByteArray)), .v (.slice none 0 0), .v (.slice none 0 0), .v (.bool false), .v (.string (⟨#[]⟩ : ByteArray)), .v (.int .i64 0), .v (.int .i64 0), .v (.slice none 0 0), .v (.int .i64 0), .v (.int .i64 0), .v (.int .i64 0), .v (.slice none 0 0)]) :: (100, .v (.int .i64 v114.1)) :: (7, .box 64 [.v (.int .i64 v114.2.limit), .fr (.own 46) false 15 (List.flatten (List.map T_Rec.ienc v114.2.recs)), .v (.int .i64 v114.2.used), .v (.int .i64 v114.2.safe), .v (.int .i64 v114.2.kept), .v (.int .i64 v114.2.life), .v (.bool v114.2.off), .v (.int .i64 v114.2.trip), .v (.int .i64 v114.2.tripKeep)]) :: (101, .v (.bool (v114.1 == 8))) :: (102, .v (.bool (v114.1 == 8))) :: (103, .v (.bool false)) :: (104, .v undef) :: (105, .v undef) :: (106, .v undef) :: (107, .v undef) :: (108, .v (.bool false)) :: (109, .v (.bool false)) :: (110, .v undef) :: (111, .v undef) :: (112, .v undef) :: (113, .v undef) :: (114, .v undef) :: (115, .v (.bool false)) :: (116, .v (.bool false)) :: (117, .v undef) :: (118, .v (.bool false)) :: (4, .v (.bool false)) :: [])) (init := [0, 1, 2, 3, 4]) (fin := [37]) (sps := (⟨[3], [], [5], [(.slot 89)]⟩ :: ⟨[5], [], [6], [(.slot 90)]⟩ :: ⟨[6], [], [7], [(.slot 91)]⟩ :: ⟨[7, 2], [], [8], [(.slot 92)]⟩ :: ⟨[7, 8], [2], [10, 9], [(.slot 93), (.cell 7 0), (.cell 7 1), (.cell 7 2), (.cell 7 3), (.cell 7 4), (.cell 7 5), (.cell 7 6), (.cell 7 7), (.cell 7 8)]⟩ :: ⟨[7, 1], [], [11], [(.slot 94)]⟩ :: ⟨[7, 9, 11], [], [12], [(.slot 95)]⟩ :: ⟨[7, 12], [], [13], [(.slot 96)]⟩ :: ⟨[13], [], [14], [(.slot 97)]⟩ :: ⟨[14, 10], [], [15], [(.slot 98)]⟩ :: ⟨[14], [], [16], [(.slot 99)]⟩ :: ⟨[14, 15, 16], [10], [18, 17], [(.slot 100), (.cell 7 0), (.cell 7 1), (.cell 7 2), (.cell 7 3), (.cell 7 4), (.cell 7 5), (.cell 7 6), (.cell 7 7), (.cell 7 8)]⟩ :: ⟨[14, 17], [], [19], [(.slot 101)]⟩ :: ⟨[14, 19], [], [20], [(.slot 102)]⟩ :: ⟨[20], [], [21], [(.slot 103)]⟩ :: ⟨[21], [], [22], [(.slot 104)]⟩ :: ⟨[21], [], [23], [(.slot 105)]⟩ :: ⟨[21], [], [24], [(.slot 106)]⟩ :: ⟨[21], [], [25], [(.slot 107)]⟩ :: ⟨[21], [], [26], [(.slot 108)]⟩ :: ⟨[26], [], [27], [(.slot 109)]⟩ :: ⟨[27], [], [28], [(.slot 110)]⟩ :: ⟨[27], [], [29], [(.slot 111)]⟩ :: ⟨[27], [], [30], [(.slot 112)]⟩ :: ⟨[27], [], [31], [(.slot 113)]⟩ :: ⟨[27], [], [32], [(.slot 114)]⟩ :: ⟨[27], [], [33], [(.slot 115)]⟩ :: ⟨[33], [], [34], [(.slot 116)]⟩ :: ⟨[34], [], [35], [(.slot 117)]⟩ :: ⟨[34], [], [36], [(.slot 118)]⟩ :: ⟨[36], [], [37], [(.slot 4)]⟩ :: [])) (es' := [(4, .v (.bool false))]) (by kernel_rfl) rfl rfl
                ⟨st_plain rfl (op_move _ _ _ _ rfl rfl),
                st_plain rfl (op_bin _ _ _ _ _ rfl rfl rfl),
                st_plain rfl (op_move _ _ _ _ (congrArg (fun b => AV.v (Value.bool b)) hg21_2) rfl),
                st_run 2 91 true rfl rfl rfl (List.Mem.head _) (op_move _ _ _ _ rfl rfl),
                st_run 2 91 true rfl rfl rfl (List.Mem.head _) (op_callP _ _ _ _ 93 35 [.tmp 92] [] _ _ _ rfl Try.call35 rfl rfl rfl (ok_diary_Diary_Used (T_diary_Diary.mk s83 s84 s85 s86 s87 s88 s89 s90 s91) _ hv113) (Nat.le_of_ble_eq_true rfl) rfl rfl rfl rfl rfl rfl rfl rfl),
                st_run 2 91 true rfl rfl rfl (List.Mem.head _) (op_move _ _ _ _ rfl rfl),
                st_run 2 91 true rfl rfl rfl (List.Mem.head _) (op_bin _ _ _ _ _ rfl rfl rfl),
                st_plain rfl (op_pick _ _ true _ rfl rfl),
                st_plain rfl (op_move _ _ _ _ (congrArg (fun b => AV.v (Value.bool b)) hg21_8) rfl),
                st_run 8 97 true rfl rfl rfl (List.Mem.head _) (op_move _ _ _ _ rfl rfl),
                st_run 8 97 true rfl rfl rfl (List.Mem.head _) (op_build _ _ _ _ [1, 8, 1, 1, 1, 1, 1, 1] _ _ Try.underlying46 zr46 (fs46 _ Try.underlying46) Src.nil rfl rfl rfl),
                st_run 8 97 true rfl rfl rfl (List.Mem.head _) (op_callP _ _ _ _ 100 15 [.tmp 98] [.tmp 99] _ _ _ rfl Try.call15 rfl rfl rfl ((ok_diary_Diary_Put v113.2 ((T_Rec.mk 0 ((T_Mail.mk ((T_Path.mk false (⟨#[]⟩ : ByteArray) (⟨#[]⟩ : ByteArray))) [] [] false (⟨#[]⟩ : ByteArray) 0)) 0 [] 0 0 0 [])) _ hv114).args (subs_cons (sub_refl _) (subs_cons (sub_agg (subs_cons (sub_refl _) (subs_cons (sub_refl _) (subs_cons (sub_refl _) (subs_cons (sub_refl _) (subs_cons (sub_nil_shr 3) (subs_cons (sub_nil_shr 1) (subs_cons (sub_refl _) (subs_cons (sub_refl _) (subs_cons (sub_refl _) (subs_cons (sub_refl _) (subs_cons (sub_nil_shr 1) (subs_cons (sub_refl _) (subs_cons (sub_refl _) (subs_cons (sub_refl _) (subs_cons (sub_nil_shr 1) (subs_nil))))))))))))))))) (subs_nil)))) (Nat.le_of_ble_eq_true rfl) rfl rfl rfl rfl rfl rfl rfl rfl),
                st_run 8 97 true rfl rfl rfl (List.Mem.head _) (op_bin _ _ _ _ _ rfl rfl rfl),
                st_plain rfl (op_pick _ _ true _ rfl rfl),
                st_plain rfl (op_move _ _ _ _ (congrArg (fun b => AV.v (Value.bool b)) hg21_14) rfl),
                st_skip 14 103 _ true rfl rfl rfl rfl (List.Mem.head _),
                st_skip 14 103 _ true rfl rfl rfl rfl (List.Mem.head _),
                st_skip 14 103 _ true rfl rfl rfl rfl (List.Mem.head _),
                st_skip 14 103 _ true rfl rfl rfl rfl (List.Mem.head _),
                st_plain rfl (op_pick _ _ false _ rfl rfl),
                st_plain rfl (op_move _ _ _ _ rfl rfl),
                st_skip 20 109 _ true rfl rfl rfl rfl (List.Mem.head _),
                st_skip 20 109 _ true rfl rfl rfl rfl (List.Mem.head _),
                st_skip 20 109 _ true rfl rfl rfl rfl (List.Mem.head _),
                st_skip 20 109 _ true rfl rfl rfl rfl (List.Mem.head _),
                st_skip 20 109 _ true rfl rfl rfl rfl (List.Mem.head _),
                st_plain rfl (op_pick _ _ false _ rfl rfl),
                st_plain rfl (op_move _ _ _ _ rfl rfl),
                st_skip 27 116 _ true rfl rfl rfl rfl (List.Mem.head _),
                st_plain rfl (op_pick _ _ false _ rfl rfl),
                st_plain rfl (op_assign _ _ _ _ rfl rfl),
                trivial⟩ ?_
               exact hl120 _ (Option.some.inj h).symm
             ·refine ht_seqR hn (El := (_ :: _ :: _ :: _ :: _ :: (89, .v (.int .i64 s92)) :: (90, .v (.bool (s92 == 0))) :: (91, .v (.bool true)) :: (92, .ptr 7 0) :: (93, .v (.int .i64 v113.1)) :: (7, .box 64 [.v (.int .i64 v113.2.limit), .fr (.own 46) false 15 (List.flatten (List.map T_Rec.ienc v113.2.recs)), .v (.int .i64 v113.2.used), .v (.int .i64 v113.2.safe), .v (.int .i64 v113.2.kept), .v (.int .i64 v113.2.life), .v (.bool v113.2.off), .v (.int .i64 v113.2.trip), .v (.int .i64 v113.2.tripKeep)]) :: (94, .v (.int .i64 s15)) :: (95, .v (.bool (v113.1 == s15))) :: (96, .v (.bool (v113.1 == s15))) :: (97, .v (.bool false)) :: (98, .v undef) :: (99, .v undef) :: (100, .v undef) :: (101, .v undef) :: (102, .v (.bool false)) :: (103, .v (.bool false)) :: (104, .v undef) :: (105, .v undef) :: (106, .v undef) :: (107, .v undef) :: (108, .v (.bool false)) :: (109, .v (.bool false)) :: (110, .v undef) :: (111, .v undef) :: (112, .v undef) :: (113, .v undef) :: (114, .v undef) :: (115, .v (.bool false)) :: (116, .v (.bool false)) :: (117, .v undef) :: (118, .v (.bool false)) :: (4, .v (.bool false)) :: [])) (init := [0, 1, 2, 3, 4]) (fin := [36]) (sps := (⟨[3], [], [5], [(.slot 89)]⟩ :: ⟨[5], [], [6], [(.slot 90)]⟩ :: ⟨[6], [], [7], [(.slot 91)]⟩ :: ⟨[7, 2], [], [8], [(.slot 92)]⟩ :: ⟨[7, 8], [2], [10, 9], [(.slot 93), (.cell 7 0), (.cell 7 1), (.cell 7 2), (.cell 7 3), (.cell 7 4), (.cell 7 5), (.cell 7 6), (.cell 7 7), (.cell 7 8)]⟩ :: ⟨[7, 1], [], [11], [(.slot 94)]⟩ :: ⟨[7, 9, 11], [], [12], [(.slot 95)]⟩ :: ⟨[7, 12], [], [13], [(.slot 96)]⟩ :: ⟨[13], [], [14], [(.slot 97)]⟩ :: ⟨[14], [], [15], [(.slot 98)]⟩ :: ⟨[14], [], [16], [(.slot 99)]⟩ :: ⟨[14], [], [17], [(.slot 100)]⟩ :: ⟨[14], [], [18], [(.slot 101)]⟩ :: ⟨[14], [], [19], [(.slot 102)]⟩ :: ⟨[19], [], [20], [(.slot 103)]⟩ :: ⟨[20], [], [21], [(.slot 104)]⟩ :: ⟨[20], [], [22], [(.slot 105)]⟩ :: ⟨[20], [], [23], [(.slot 106)]⟩ :: ⟨[20], [], [24], [(.slot 107)]⟩ :: ⟨[20], [], [25], [(.slot 108)]⟩ :: ⟨[25], [], [26], [(.slot 109)]⟩ :: ⟨[26], [], [27], [(.slot 110)]⟩ :: ⟨[26], [], [28], [(.slot 111)]⟩ :: ⟨[26], [], [29], [(.slot 112)]⟩ :: ⟨[26], [], [30], [(.slot 113)]⟩ :: ⟨[26], [], [31], [(.slot 114)]⟩ :: ⟨[26], [], [32], [(.slot 115)]⟩ :: ⟨[32], [], [33], [(.slot 116)]⟩ :: ⟨[33], [], [34], [(.slot 117)]⟩ :: ⟨[33], [], [35], [(.slot 118)]⟩ :: ⟨[35], [], [36], [(.slot 4)]⟩ :: [])) (es' := [(4, .v (.bool false))]) (by kernel_rfl) rfl rfl
               ⟨st_plain rfl (op_move _ _ _ _ rfl rfl),
               st_plain rfl (op_bin _ _ _ _ _ rfl rfl rfl),
               st_plain rfl (op_move _ _ _ _ (congrArg (fun b => AV.v (Value.bool b)) hg21_2) rfl),
               st_run 2 91 true rfl rfl rfl (List.Mem.head _) (op_move _ _ _ _ rfl rfl),
               st_run 2 91 true rfl rfl rfl (List.Mem.head _) (op_callP _ _ _ _ 93 35 [.tmp 92] [] _ _ _ rfl Try.call35 rfl rfl rfl (ok_diary_Diary_Used (T_diary_Diary.mk s83 s84 s85 s86 s87 s88 s89 s90 s91) _ hv113) (Nat.le_of_ble_eq_true rfl) rfl rfl rfl rfl rfl rfl rfl rfl),
               st_run 2 91 true rfl rfl rfl (List.Mem.head _) (op_move _ _ _ _ rfl rfl),
               st_run 2 91 true rfl rfl rfl (List.Mem.head _) (op_bin _ _ _ _ _ rfl rfl rfl),
               st_plain rfl (op_pick _ _ true _ rfl rfl),
               st_plain rfl (op_move _ _ _ _ (congrArg (fun b => AV.v (Value.bool b)) hg21_8) rfl),
               st_skip 8 97 _ true rfl rfl rfl rfl (List.Mem.head _),
               st_skip 8 97 _ true rfl rfl rfl rfl (List.Mem.head _),
               st_skip 8 97 _ true rfl rfl rfl rfl (List.Mem.head _),
               st_skip 8 97 _ true rfl rfl rfl rfl (List.Mem.head _),
               st_plain rfl (op_pick _ _ false _ rfl rfl),
               st_plain rfl (op_move _ _ _ _ rfl rfl),
               st_skip 14 103 _ true rfl rfl rfl rfl (List.Mem.head _),
               st_skip 14 103 _ true rfl rfl rfl rfl (List.Mem.head _),
               st_skip 14 103 _ true rfl rfl rfl rfl (List.Mem.head _),
               st_skip 14 103 _ true rfl rfl rfl rfl (List.Mem.head _),
               st_plain rfl (op_pick _ _ false _ rfl rfl),
               st_plain rfl (op_move _ _ _ _ rfl rfl),
               st_skip 20 109 _ true rfl rfl rfl rfl (List.Mem.head _),
               st_skip 20 109 _ true rfl rfl rfl rfl (List.Mem.head _),
               st_skip 20 109 _ true rfl rfl rfl rfl (List.Mem.head _),
               st_skip 20 109 _ true rfl rfl rfl rfl (List.Mem.head _),
               st_skip 20 109 _ true rfl rfl rfl rfl (List.Mem.head _),
               st_plain rfl (op_pick _ _ false _ rfl rfl),
               st_plain rfl (op_move _ _ _ _ rfl rfl),
               st_skip 27 116 _ true rfl rfl rfl rfl (List.Mem.head _),
               st_plain rfl (op_pick _ _ false _ rfl rfl),
               st_plain rfl (op_assign _ _ _ _ rfl rfl),
               trivial⟩ ?_
              exact hl120 _ (Option.some.inj h).symm
            ·refine ht_seqR hn (El := (_ :: _ :: _ :: _ :: _ :: (89, .v (.int .i64 s92)) :: (90, .v (.bool (s92 == 0))) :: (91, .v (.bool false)) :: (92, .v undef) :: (93, .v undef) :: (94, .v undef) :: (95, .v undef) :: (96, .v (.bool false)) :: (97, .v (.bool false)) :: (98, .v undef) :: (99, .v undef) :: (100, .v undef) :: (101, .v undef) :: (102, .v (.bool false)) :: (103, .v (.bool false)) :: (104, .v undef) :: (105, .v undef) :: (106, .v undef) :: (107, .v undef) :: (108, .v (.bool false)) :: (109, .v (.bool false)) :: (110, .v undef) :: (111, .v undef) :: (112, .v undef) :: (113, .v undef) :: (114, .v undef) :: (115, .v (.bool false)) :: (116, .v (.bool false)) :: (117, .v undef) :: (118, .v (.bool false)) :: (4, .v (.bool false)) :: [])) (init := [0, 1, 2, 3, 4]) (fin := [35]) (sps := (⟨[3], [], [5], [(.slot 89)]⟩ :: ⟨[5], [], [6], [(.slot 90)]⟩ :: ⟨[6], [], [7], [(.slot 91)]⟩ :: ⟨[7], [], [8], [(.slot 92)]⟩ :: ⟨[7], [], [9], [(.slot 93)]⟩ :: ⟨[7], [], [10], [(.slot 94)]⟩ :: ⟨[7], [], [11], [(.slot 95)]⟩ :: ⟨[7], [], [12], [(.slot 96)]⟩ :: ⟨[12], [], [13], [(.slot 97)]⟩ :: ⟨[13], [], [14], [(.slot 98)]⟩ :: ⟨[13], [], [15], [(.slot 99)]⟩ :: ⟨[13], [], [16], [(.slot 100)]⟩ :: ⟨[13], [], [17], [(.slot 101)]⟩ :: ⟨[13], [], [18], [(.slot 102)]⟩ :: ⟨[18], [], [19], [(.slot 103)]⟩ :: ⟨[19], [], [20], [(.slot 104)]⟩ :: ⟨[19], [], [21], [(.slot 105)]⟩ :: ⟨[19], [], [22], [(.slot 106)]⟩ :: ⟨[19], [], [23], [(.slot 107)]⟩ :: ⟨[19], [], [24], [(.slot 108)]⟩ :: ⟨[24], [], [25], [(.slot 109)]⟩ :: ⟨[25], [], [26], [(.slot 110)]⟩ :: ⟨[25], [], [27], [(.slot 111)]⟩ :: ⟨[25], [], [28], [(.slot 112)]⟩ :: ⟨[25], [], [29], [(.slot 113)]⟩ :: ⟨[25], [], [30], [(.slot 114)]⟩ :: ⟨[25], [], [31], [(.slot 115)]⟩ :: ⟨[31], [], [32], [(.slot 116)]⟩ :: ⟨[32], [], [33], [(.slot 117)]⟩ :: ⟨[32], [], [34], [(.slot 118)]⟩ :: ⟨[34], [], [35], [(.slot 4)]⟩ :: [])) (es' := [(4, .v (.bool false))]) (by kernel_rfl) rfl rfl
              ⟨st_plain rfl (op_move _ _ _ _ rfl rfl),
              st_plain rfl (op_bin _ _ _ _ _ rfl rfl rfl),
              st_plain rfl (op_move _ _ _ _ (congrArg (fun b => AV.v (Value.bool b)) hg21_2) rfl),
              st_skip 2 91 _ true rfl rfl rfl rfl (List.Mem.head _),
              st_skip 2 91 _ true rfl rfl rfl rfl (List.Mem.head _),
              st_skip 2 91 _ true rfl rfl rfl rfl (List.Mem.head _),
              st_skip 2 91 _ true rfl rfl rfl rfl (List.Mem.head _),
              st_plain rfl (op_pick _ _ false _ rfl rfl),
              st_plain rfl (op_move _ _ _ _ rfl rfl),
              st_skip 8 97 _ true rfl rfl rfl rfl (List.Mem.head _),
              st_skip 8 97 _ true rfl rfl rfl rfl (List.Mem.head _),
              st_skip 8 97 _ true rfl rfl rfl rfl (List.Mem.head _),
              st_skip 8 97 _ true rfl rfl rfl rfl (List.Mem.head _),
              st_plain rfl (op_pick _ _ false _ rfl rfl),
              st_plain rfl (op_move _ _ _ _ rfl rfl),
              st_skip 14 103 _ true rfl rfl rfl rfl (List.Mem.head _),
              st_skip 14 103 _ true rfl rfl rfl rfl (List.Mem.head _),
              st_skip 14 103 _ true rfl rfl rfl rfl (List.Mem.head _),
              st_skip 14 103 _ true rfl rfl rfl rfl (List.Mem.head _),
              st_plain rfl (op_pick _ _ false _ rfl rfl),
              st_plain rfl (op_move _ _ _ _ rfl rfl),
              st_skip 20 109 _ true rfl rfl rfl rfl (List.Mem.head _),
              st_skip 20 109 _ true rfl rfl rfl rfl (List.Mem.head _),
              st_skip 20 109 _ true rfl rfl rfl rfl (List.Mem.head _),
              st_skip 20 109 _ true rfl rfl rfl rfl (List.Mem.head _),
              st_skip 20 109 _ true rfl rfl rfl rfl (List.Mem.head _),
              st_plain rfl (op_pick _ _ false _ rfl rfl),
              st_plain rfl (op_move _ _ _ _ rfl rfl),
              st_skip 27 116 _ true rfl rfl rfl rfl (List.Mem.head _),
              st_plain rfl (op_pick _ _ false _ rfl rfl),
              st_plain rfl (op_assign _ _ _ _ rfl rfl),
              trivial⟩ ?_
             exact hl120 _ (Option.some.inj h).symm
         ·rintro u93 hl94 hr95 ⟨s67, s68, s69, s70, s71, s72, s73, s74, s75, s76, s77⟩ rr98 h ho96
          refine ht_seq ?_
          refine ht_seq ?_
          refine ht_joinS h (fun (s99 : Bool) => [(0, .fr .shr true 15 (List.flatten (List.map T_Rec.ienc l))), (5, .v (.int .i64 s15)), (1, .v (.int .i64 v25)), (7, .box 64 [.v (.int .i64 s67), .fr (.own 46) false 15 (List.flatten (List.map T_Rec.ienc s68)), .v (.int .i64 s69), .v (.int .i64 s70), .v (.int .i64 s71), .v (.int .i64 s72), .v (.bool s73), .v (.int .i64 s74), .v (.int .i64 s75)]), (9, .v (.int .i64 s76)), (10, .v (.int .i64 s77)), (59, .v (.bool s99))]) ?_ ?_
          ·rintro s99 h
           refine pt_then ?_
           refine ht_cond _ rfl (fun hb103 => ?_) (fun hb103 => ?_)
           ·have h := cond_t hb103 h
            refine ht_skip ?_
            refine pt_then ?_
            refine ht_seq ?_
            refine ht_block ?_
            obtain ⟨v47, hv47, h⟩ := bind_some h
            obtain ⟨v48, hv48, h⟩ := bind_some h
            obtain ⟨v49, hv49, h⟩ := bind_some h
            refine ht_seqR hn (El := (_ :: _ :: _ :: _ :: _ :: _ :: _ :: (62, .ptr 7 0) :: (63, .fr .shr true 15 (List.flatten (List.map T_Rec.ienc l))) :: (64, .v (.int .i64 s77)) :: (65, .eref (.slot 63) (v47 * 15)) :: (66, .agg [.v (.int .i64 v48.Kind), .v (.bool v48.Mail.From.Null), .v (.string v48.Mail.From.Local), .v (.string v48.Mail.From.Domain), .fl .shr 3 (List.flatten (List.map T_Path.enc v48.Mail.To)), .fl .shr 1 (List.map (Value.int .u8) v48.Mail.Body), .v (.bool v48.Mail.Quiet), .v (.string v48.Mail.Helo), .v (.int .i64 v48.Mail.At), .v (.int .i64 v48.Id), .fl .shr 1 (List.map (Value.int .i64) v48.Ids), .v (.int .i64 v48.Origin), .v (.int .i64 v48.Number), .v (.int .i64 v48.Offset), .fl .shr 1 (List.map (Value.int .u8) v48.Data)]) :: (67, .v (.int .i64 v49.1)) :: (7, .box 64 [.v (.int .i64 v49.2.limit), .fr (.own 46) false 15 (List.flatten (List.map T_Rec.ienc v49.2.recs)), .v (.int .i64 v49.2.used), .v (.int .i64 v49.2.safe), .v (.int .i64 v49.2.kept), .v (.int .i64 v49.2.life), .v (.bool v49.2.off), .v (.int .i64 v49.2.trip), .v (.int .i64 v49.2.tripKeep)]) :: (9, .v (.int .i64 v49.1)) :: [])) (init := [0, 1, 2, 3, 4, 5, 6]) (fin := [0, 1, 2, 13, 5, 14]) (sps := [⟨[3], [], [7], [(.slot 62)]⟩, ⟨[0], [], [8], [(.slot 63)]⟩, ⟨[5], [], [9], [(.slot 64)]⟩, ⟨[8, 9], [], [10], [(.slot 65)]⟩, ⟨[10, 8], [], [11], [(.slot 66)]⟩, ⟨[7, 11], [3], [13, 12], [(.slot 67), (.cell 7 0), (.cell 7 1), (.cell 7 2), (.cell 7 3), (.cell 7 4), (.cell 7 5), (.cell 7 6), (.cell 7 7), (.cell 7 8)]⟩, ⟨[12], [4], [14], [(.slot 9)]⟩]) (es' := [(_, _), (_, _), (_, _), (7, .box 64 [.v (.int .i64 v49.2.limit), .fr (.own 46) false 15 (List.flatten (List.map T_Rec.ienc v49.2.recs)), .v (.int .i64 v49.2.used), .v (.int .i64 v49.2.safe), .v (.int .i64 v49.2.kept), .v (.int .i64 v49.2.life), .v (.bool v49.2.off), .v (.int .i64 v49.2.trip), .v (.int .i64 v49.2.tripKeep)]), (_, _), (9, .v (.int .i64 v49.1))]) (by kernel_rfl) rfl rfl
             ⟨st_plain rfl (op_move _ _ _ _ rfl rfl),
             st_plain rfl (op_move _ _ _ _ rfl rfl),
             st_plain rfl (op_move _ _ _ _ rfl rfl),
             st_plain rfl (op_ix_fr _ _ _ _ _ _ _ _ Try.underlying31 sz46 (by decide) rfl rfl rfl (ix_ok hv47).1 (gflat_lt T_Rec.ilen (ix_ok hv47).2) rfl),
             st_plain rfl (op_loadA_fr _ _ _ _ _ _ _ _ Try.underlying46 rfl sz46 rfl rfl (gflat_get T_Rec.ilen hv48) (.cons (.v _) (.cons (.v _) (.cons (.v _) (.cons (.v _) (.cons (.fl _ _ rfl) (.cons (.fl _ _ rfl) (.cons (.v _) (.cons (.v _) (.cons (.v _) (.cons (.v _) (.cons (.fl _ _ rfl) (.cons (.v _) (.cons (.v _) (.cons (.v _) (.cons (.fl _ _ rfl) (.nil)))))))))))))))) rfl (by decide)),
             st_plain rfl (op_callP _ _ _ _ 67 15 [.tmp 62] [.tmp 66] _ _ _ rfl Try.call15 rfl rfl rfl (ok_diary_Diary_Put (T_diary_Diary.mk s67 s68 s69 s70 s71 s72 s73 s74 s75) ((T_Rec.mk v48.Kind ((T_Mail.mk (T_Path.mk v48.Mail.From.Null v48.Mail.From.Local v48.Mail.From.Domain) v48.Mail.To v48.Mail.Body v48.Mail.Quiet v48.Mail.Helo v48.Mail.At)) v48.Id v48.Ids v48.Origin v48.Number v48.Offset v48.Data)) _ hv49) (Nat.le_of_ble_eq_true rfl) rfl rfl rfl rfl rfl rfl rfl rfl),
             st_plain rfl (LOp.drop [_] (op_assign _ _ _ _ rfl rfl)),
             trivial⟩ ?_
            refine pt_inb ?_
            refine pt_then ?_
            obtain ⟨v50, hv50, h⟩ := bind_some h
            refine ht_seqR hn (El := [_, _, _, _, _, _, (60, .v (.int .i64 s77)), (61, .v (.int .i64 v50)), (10, .v (.int .i64 v50))]) (init := [0, 1, 2, 3, 4, 5]) (fin := [0, 1, 2, 3, 5, 8]) (sps := [⟨[4], [], [6], [(.slot 60)]⟩, ⟨[6], [], [7], [(.slot 61)]⟩, ⟨[7], [4], [8], [(.slot 10)]⟩]) (es' := [(_, _), (_, _), (_, _), (_, _), (_, _), (10, .v (.int .i64 v50))]) (by kernel_rfl) rfl rfl
             ⟨st_plain rfl (op_move _ _ _ _ rfl rfl),
             st_plain rfl (op_bin _ _ _ _ _ rfl rfl (ibind (f := Value.int .i64) (Option.some.inj hv50))),
             st_plain rfl (LOp.drop [_] (op_assign _ _ _ _ rfl rfl)),
             trivial⟩ ?_
            exact pt_next _ (Option.some.inj h).symm rfl
           ·have h := cond_f hb103 h
            refine ht_exit ?_
            refine pt_x_then ?_
            refine pt_x_then ?_
            refine pt_x_in ?_
            refine pt_pick [0, 1, 2, 3, 4] (by kernel_rfl) (es' := [(_, _), (_, _), (_, _), (_, _), (_, _)]) rfl ?_
            exact hl94 _ (ho96 _ (Option.some.inj h).symm).symm
          ·intro u100 h hl101 hr102
           refine cond_some h (fun hg16_4 h => ?_) (fun hg16_4 h => ?_)
           ·refine ht_seqR hn (El := [_, _, _, _, _, _, (52, .v (.int .i64 s77)), (53, .fr .shr true 15 (List.flatten (List.map T_Rec.ienc l))), (54, .v (.int .i64 (l.length : Int))), (55, .v (.bool ((decide (s77 < (l.length : Int)))))), (56, .v (.bool true)), (57, .v (.int .i64 s76)), (58, .v (.bool (s76 == 0))), (59, .v (.bool (s76 == 0)))]) (init := [0, 1, 2, 3, 4, 5]) (fin := [0, 1, 2, 3, 4, 5, 13]) (sps := [⟨[5], [], [6], [(.slot 52)]⟩, ⟨[0], [], [7], [(.slot 53)]⟩, ⟨[7], [], [8], [(.slot 54)]⟩, ⟨[6, 8], [], [9], [(.slot 55)]⟩, ⟨[9], [], [10], [(.slot 56)]⟩, ⟨[10, 4], [], [11], [(.slot 57)]⟩, ⟨[10, 11], [], [12], [(.slot 58)]⟩, ⟨[10, 12], [], [13], [(.slot 59)]⟩]) (es' := [(_, _), (_, _), (_, _), (_, _), (_, _), (_, _), (59, .v (.bool (s76 == 0)))]) (by kernel_rfl) rfl rfl
             ⟨st_plain rfl (op_move _ _ _ _ rfl rfl),
             st_plain rfl (op_move _ _ _ _ rfl rfl),
             st_plain rfl (op_len_fr _ _ _ Try.underlying31 rfl (by decide) (gflat_len T_Rec.ilen _)),
             st_plain rfl (op_bin _ _ _ _ _ rfl rfl rfl),
             st_plain rfl (op_move _ _ _ _ (congrArg (fun b => AV.v (Value.bool b)) hg16_4) rfl),
             st_run 4 56 true rfl rfl rfl (List.Mem.head _) (op_move _ _ _ _ rfl rfl),
             st_run 4 56 true rfl rfl rfl (List.Mem.head _) (op_bin _ _ _ _ _ rfl rfl rfl),
             st_plain rfl (op_pick _ _ true _ rfl rfl),
             trivial⟩ ?_
            exact hl101 _ (Option.some.inj h).symm
           ·refine ht_seqR hn (El := [_, _, _, _, _, _, (52, .v (.int .i64 s77)), (53, .fr .shr true 15 (List.flatten (List.map T_Rec.ienc l))), (54, .v (.int .i64 (l.length : Int))), (55, .v (.bool ((decide (s77 < (l.length : Int)))))), (56, .v (.bool false)), (57, .v undef), (58, .v undef), (59, .v (.bool false))]) (init := [0, 1, 2, 3, 4, 5]) (fin := [0, 1, 2, 3, 4, 5, 13]) (sps := [⟨[5], [], [6], [(.slot 52)]⟩, ⟨[0], [], [7], [(.slot 53)]⟩, ⟨[7], [], [8], [(.slot 54)]⟩, ⟨[6, 8], [], [9], [(.slot 55)]⟩, ⟨[9], [], [10], [(.slot 56)]⟩, ⟨[10], [], [11], [(.slot 57)]⟩, ⟨[10], [], [12], [(.slot 58)]⟩, ⟨[10], [], [13], [(.slot 59)]⟩]) (es' := [(_, _), (_, _), (_, _), (_, _), (_, _), (_, _), (59, .v (.bool false))]) (by kernel_rfl) rfl rfl
             ⟨st_plain rfl (op_move _ _ _ _ rfl rfl),
             st_plain rfl (op_move _ _ _ _ rfl rfl),
             st_plain rfl (op_len_fr _ _ _ Try.underlying31 rfl (by decide) (gflat_len T_Rec.ilen _)),
             st_plain rfl (op_bin _ _ _ _ _ rfl rfl rfl),
             st_plain rfl (op_move _ _ _ _ (congrArg (fun b => AV.v (Value.bool b)) hg16_4) rfl),
             st_skip 4 56 _ true rfl rfl rfl rfl (List.Mem.head _),
             st_skip 4 56 _ true rfl rfl rfl rfl (List.Mem.head _),
             st_plain rfl (op_pick _ _ false _ rfl rfl),
             trivial⟩ ?_
            exact hl101 _ (Option.some.inj h).symm
       ·intro u38 h hl39 hr40
        refine cond_some h (fun hg12_2 h => ?_) (fun hg12_2 h => ?_)
        ·refine ht_seqR hn (El := [_, _, _, _, _, (46, .v (.int .i64 v34.2)), (47, .v (.bool (v34.2 != 0))), (48, .v (.bool true)), (49, .v undef), (50, .v undef), (51, .v (.bool true))]) (init := [0, 1, 2, 3, 4]) (fin := [0, 1, 2, 3, 10]) (sps := [⟨[4], [], [5], [(.slot 46)]⟩, ⟨[5], [], [6], [(.slot 47)]⟩, ⟨[6], [], [7], [(.slot 48)]⟩, ⟨[7], [], [8], [(.slot 49)]⟩, ⟨[7], [], [9], [(.slot 50)]⟩, ⟨[7], [], [10], [(.slot 51)]⟩]) (es' := [(_, _), (_, _), (_, _), (_, _), (51, .v (.bool true))]) (by kernel_rfl) rfl rfl
          ⟨st_plain rfl (op_move _ _ _ _ rfl rfl),
          st_plain rfl (op_bin _ _ _ _ _ rfl rfl rfl),
          st_plain rfl (op_move _ _ _ _ (congrArg (fun b => AV.v (Value.bool b)) hg12_2) rfl),
          st_skip 2 48 _ false rfl rfl rfl rfl (List.Mem.head _),
          st_skip 2 48 _ false rfl rfl rfl rfl (List.Mem.head _),
          st_plain rfl (op_pick _ _ true _ rfl rfl),
          trivial⟩ ?_
         exact hl39 _ (Option.some.inj h).symm
        ·refine ht_seqR hn (El := [_, _, _, _, _, (46, .v (.int .i64 v34.2)), (47, .v (.bool (v34.2 != 0))), (48, .v (.bool false)), (49, .ptr 7 0), (50, .v (.bool false)), (51, .v (.bool false))]) (init := [0, 1, 2, 3, 4]) (fin := [0, 1, 2, 3, 10]) (sps := [⟨[4], [], [5], [(.slot 46)]⟩, ⟨[5], [], [6], [(.slot 47)]⟩, ⟨[6], [], [7], [(.slot 48)]⟩, ⟨[7, 3], [], [8], [(.slot 49)]⟩, ⟨[7, 8, 3], [], [9], [(.slot 50)]⟩, ⟨[7, 9], [], [10], [(.slot 51)]⟩]) (es' := [(_, _), (_, _), (_, _), (_, _), (51, .v (.bool false))]) (by kernel_rfl) rfl rfl
          ⟨st_plain rfl (op_move _ _ _ _ rfl rfl),
          st_plain rfl (op_bin _ _ _ _ _ rfl rfl rfl),
          st_plain rfl (op_move _ _ _ _ (congrArg (fun b => AV.v (Value.bool b)) hg12_2) rfl),
          st_run 2 48 false rfl rfl rfl (List.Mem.head _) (op_move _ _ _ _ rfl rfl),
          st_run 2 48 false rfl rfl rfl (List.Mem.head _) (op_pnil _ _ false (by kernel_rfl) rfl rfl),
          st_plain rfl (op_pick _ _ false _ rfl rfl),
          trivial⟩ ?_
         exact hl39 _ (Option.some.inj h).symm
      ·refine pt_then ?_
       refine ht_seq ?_
       refine ht_seq ?_
       refine ht_joinS h (fun (() : Unit) => [(0, .fr .shr true 15 (List.flatten (List.map T_Rec.ienc l))), (5, .v (.int .i64 s15)), (1, .v (.int .i64 v25)), (7, .v (.pointer none)), (51, .v (.bool true))]) ?_ ?_
       ·rintro ⟨⟩ h
        refine pt_then ?_
        refine ht_cond true rfl (fun _ => ?_) (fun hb => by cases hb)
        refine ht_seq ?_
        refine ht_seqR hn (El := [_, _, _, _, _, (4, .v (.bool false))]) (init := [0, 1, 2, 3, 4]) (fin := [5]) (sps := [⟨[], [], [5], [(.slot 4)]⟩]) (es' := [(4, .v (.bool false))]) (by kernel_rfl) rfl rfl
         ⟨st_plain rfl (op_assign _ _ _ _ rfl rfl),
         trivial⟩ ?_
        refine pt_then ?_
        refine ht_ret ?_
        refine pt_r_then ?_
        obtain rfl := Option.some.inj h
        exact pt_ret hio rfl (.tmp _ _ .nil) rfl rfl
       ·intro u122 h hl123 hr124
        refine cond_some h (fun hg12_2 h => ?_) (fun hg12_2 h => ?_)
        ·refine ht_seqR hn (El := [_, _, _, _, _, (46, .v (.int .i64 v34.2)), (47, .v (.bool (v34.2 != 0))), (48, .v (.bool true)), (49, .v undef), (50, .v undef), (51, .v (.bool true))]) (init := [0, 1, 2, 3, 4]) (fin := [0, 1, 2, 3, 10]) (sps := [⟨[4], [], [5], [(.slot 46)]⟩, ⟨[5], [], [6], [(.slot 47)]⟩, ⟨[6], [], [7], [(.slot 48)]⟩, ⟨[7], [], [8], [(.slot 49)]⟩, ⟨[7], [], [9], [(.slot 50)]⟩, ⟨[7], [], [10], [(.slot 51)]⟩]) (es' := [(_, _), (_, _), (_, _), (_, _), (51, .v (.bool true))]) (by kernel_rfl) rfl rfl
          ⟨st_plain rfl (op_move _ _ _ _ rfl rfl),
          st_plain rfl (op_bin _ _ _ _ _ rfl rfl rfl),
          st_plain rfl (op_move _ _ _ _ (congrArg (fun b => AV.v (Value.bool b)) hg12_2) rfl),
          st_skip 2 48 _ false rfl rfl rfl rfl (List.Mem.head _),
          st_skip 2 48 _ false rfl rfl rfl rfl (List.Mem.head _),
          st_plain rfl (op_pick _ _ true _ rfl rfl),
          trivial⟩ ?_
         exact hl123 _ (Option.some.inj h).symm
        ·refine ht_seqR hn (El := [_, _, _, _, _, (46, .v (.int .i64 v34.2)), (47, .v (.bool (v34.2 != 0))), (48, .v (.bool false)), (49, .v (.pointer none)), (50, .v (.bool true)), (51, .v (.bool true))]) (init := [0, 1, 2, 3, 4]) (fin := [0, 1, 2, 3, 10]) (sps := [⟨[4], [], [5], [(.slot 46)]⟩, ⟨[5], [], [6], [(.slot 47)]⟩, ⟨[6], [], [7], [(.slot 48)]⟩, ⟨[7, 3], [], [8], [(.slot 49)]⟩, ⟨[7, 8], [], [9], [(.slot 50)]⟩, ⟨[7, 9], [], [10], [(.slot 51)]⟩]) (es' := [(_, _), (_, _), (_, _), (_, _), (51, .v (.bool true))]) (by kernel_rfl) rfl rfl
          ⟨st_plain rfl (op_move _ _ _ _ rfl rfl),
          st_plain rfl (op_bin _ _ _ _ _ rfl rfl rfl),
          st_plain rfl (op_move _ _ _ _ (congrArg (fun b => AV.v (Value.bool b)) hg12_2) rfl),
          st_run 2 48 false rfl rfl rfl (List.Mem.head _) (op_move _ _ _ _ rfl rfl),
          st_run 2 48 false rfl rfl rfl (List.Mem.head _) (op_nilnil _ _ false (by kernel_rfl) rfl rfl),
          st_plain rfl (op_pick _ _ false _ rfl rfl),
          trivial⟩ ?_
         exact hl123 _ (Option.some.inj h).symm
    ·intro u28 h hl29 hr30
     obtain ⟨v26, hv26, h⟩ := bind_some h
     refine cond_some h (fun hg9_4 h => ?_) (fun hg9_4 h => ?_)
     ·refine ht_seqR hn (El := [_, _, _, (30, .v (.int .i64 s15)), (31, .v (.int .i64 v25)), (32, .v (.int .i64 v26)), (33, .v (.bool ((decide (v26 < 1))))), (34, .v (.bool true)), (35, .v undef), (36, .v undef), (37, .v (.bool true))]) (init := [0, 1, 2]) (fin := [0, 1, 2, 10]) (sps := [⟨[1], [], [3], [(.slot 30)]⟩, ⟨[2], [], [4], [(.slot 31)]⟩, ⟨[3, 4], [], [5], [(.slot 32)]⟩, ⟨[5], [], [6], [(.slot 33)]⟩, ⟨[6], [], [7], [(.slot 34)]⟩, ⟨[7], [], [8], [(.slot 35)]⟩, ⟨[7], [], [9], [(.slot 36)]⟩, ⟨[7], [], [10], [(.slot 37)]⟩]) (es' := [(_, _), (_, _), (_, _), (37, .v (.bool true))]) (by kernel_rfl) rfl rfl
       ⟨st_plain rfl (op_move _ _ _ _ rfl rfl),
       st_plain rfl (op_move _ _ _ _ rfl rfl),
       st_plain rfl (op_bin _ _ _ _ _ rfl rfl (ibind (f := Value.int .i64) (Option.some.inj hv26))),
       st_plain rfl (op_bin _ _ _ _ _ rfl rfl rfl),
       st_plain rfl (op_move _ _ _ _ (congrArg (fun b => AV.v (Value.bool b)) hg9_4) rfl),
       st_skip 4 34 _ false rfl rfl rfl rfl (List.Mem.head _),
       st_skip 4 34 _ false rfl rfl rfl rfl (List.Mem.head _),
       st_plain rfl (op_pick _ _ true _ rfl rfl),
       trivial⟩ ?_
      exact hl29 _ (Option.some.inj h).symm
     ·refine ht_seqR hn (El := [_, _, _, (30, .v (.int .i64 s15)), (31, .v (.int .i64 v25)), (32, .v (.int .i64 v26)), (33, .v (.bool ((decide (v26 < 1))))), (34, .v (.bool false)), (35, .v (.int .i64 s15)), (36, .v (.bool ((decide (131072 < s15))))), (37, .v (.bool ((decide (131072 < s15)))))]) (init := [0, 1, 2]) (fin := [0, 1, 2, 10]) (sps := [⟨[1], [], [3], [(.slot 30)]⟩, ⟨[2], [], [4], [(.slot 31)]⟩, ⟨[3, 4], [], [5], [(.slot 32)]⟩, ⟨[5], [], [6], [(.slot 33)]⟩, ⟨[6], [], [7], [(.slot 34)]⟩, ⟨[7, 1], [], [8], [(.slot 35)]⟩, ⟨[7, 8], [], [9], [(.slot 36)]⟩, ⟨[7, 9], [], [10], [(.slot 37)]⟩]) (es' := [(_, _), (_, _), (_, _), (37, .v (.bool ((decide (131072 < s15)))))]) (by kernel_rfl) rfl rfl
       ⟨st_plain rfl (op_move _ _ _ _ rfl rfl),
       st_plain rfl (op_move _ _ _ _ rfl rfl),
       st_plain rfl (op_bin _ _ _ _ _ rfl rfl (ibind (f := Value.int .i64) (Option.some.inj hv26))),
       st_plain rfl (op_bin _ _ _ _ _ rfl rfl rfl),
       st_plain rfl (op_move _ _ _ _ (congrArg (fun b => AV.v (Value.bool b)) hg9_4) rfl),
       st_run 4 34 false rfl rfl rfl (List.Mem.head _) (op_move _ _ _ _ rfl rfl),
       st_run 4 34 false rfl rfl rfl (List.Mem.head _) (op_bin _ _ _ _ _ rfl rfl rfl),
       st_plain rfl (op_pick _ _ false _ rfl rfl),
       trivial⟩ ?_
      exact hl29 _ (Option.some.inj h).symm
   ·rintro u16 hl17 hr18 ⟨s12, s13⟩ rr21 h ho19
    refine ht_seq ?_
    refine ht_seq ?_
    refine ht_seqR hn (El := [_, _, _, _, (13, .v (.int .i64 s13)), (14, .fr .shr true 15 (List.flatten (List.map T_Rec.ienc l))), (15, .v (.int .i64 (l.length : Int))), (16, .v (.bool ((decide (s13 < (l.length : Int))))))]) (init := [0, 1, 2, 3]) (fin := [0, 1, 2, 3, 7]) (sps := [⟨[3], [], [4], [(.slot 13)]⟩, ⟨[0], [], [5], [(.slot 14)]⟩, ⟨[5], [], [6], [(.slot 15)]⟩, ⟨[4, 6], [], [7], [(.slot 16)]⟩]) (es' := [(_, _), (_, _), (_, _), (_, _), (16, .v (.bool ((decide (s13 < (l.length : Int))))))]) (by kernel_rfl) rfl rfl
     ⟨st_plain rfl (op_move _ _ _ _ rfl rfl),
     st_plain rfl (op_move _ _ _ _ rfl rfl),
     st_plain rfl (op_len_fr _ _ _ Try.underlying31 rfl (by decide) (gflat_len T_Rec.ilen _)),
     st_plain rfl (op_bin _ _ _ _ _ rfl rfl rfl),
     trivial⟩ ?_
    refine pt_then ?_
    refine ht_cond _ rfl (fun hb22 => ?_) (fun hb22 => ?_)
    ·have h := cond_t hb22 h
     refine ht_skip ?_
     refine pt_then ?_
     refine ht_seq ?_
     refine ht_block ?_
     obtain ⟨v4, hv4, h⟩ := bind_some h
     obtain ⟨v5, hv5, h⟩ := bind_some h
     obtain ⟨v6, hv6, h⟩ := bind_some h
     obtain ⟨v7, hv7, h⟩ := bind_some h
     refine ht_seqR hn (El := [_, _, _, _, _, (19, .v (.int .i64 s12)), (20, .fr .shr true 15 (List.flatten (List.map T_Rec.ienc l))), (21, .v (.int .i64 s13)), (22, .eref (.slot 20) (v4 * 15)), (23, .agg [.v (.int .i64 v5.Kind), .v (.bool v5.Mail.From.Null), .v (.string v5.Mail.From.Local), .v (.string v5.Mail.From.Domain), .fl .shr 3 (List.flatten (List.map T_Path.enc v5.Mail.To)), .fl .shr 1 (List.map (Value.int .u8) v5.Mail.Body), .v (.bool v5.Mail.Quiet), .v (.string v5.Mail.Helo), .v (.int .i64 v5.Mail.At), .v (.int .i64 v5.Id), .fl .shr 1 (List.map (Value.int .i64) v5.Ids), .v (.int .i64 v5.Origin), .v (.int .i64 v5.Number), .v (.int .i64 v5.Offset), .fl .shr 1 (List.map (Value.int .u8) v5.Data)]), (24, .v (.int .i64 v6)), (25, .v (.int .i64 v7)), (5, .v (.int .i64 v7))]) (init := [0, 1, 2, 3, 4]) (fin := [0, 1, 3, 12]) (sps := [⟨[2], [], [5], [(.slot 19)]⟩, ⟨[0], [], [6], [(.slot 20)]⟩, ⟨[3], [], [7], [(.slot 21)]⟩, ⟨[6, 7], [], [8], [(.slot 22)]⟩, ⟨[8, 6], [], [9], [(.slot 23)]⟩, ⟨[9], [], [10], [(.slot 24)]⟩, ⟨[5, 10], [], [11], [(.slot 25)]⟩, ⟨[11], [2], [12], [(.slot 5)]⟩]) (es' := [(_, _), (_, _), (_, _), (5, .v (.int .i64 v7))]) (by kernel_rfl) rfl rfl
      ⟨st_plain rfl (op_move _ _ _ _ rfl rfl),
      st_plain rfl (op_move _ _ _ _ rfl rfl),
      st_plain rfl (op_move _ _ _ _ rfl rfl),
      st_plain rfl (op_ix_fr _ _ _ _ _ _ _ _ Try.underlying31 sz46 (by decide) rfl rfl rfl (ix_ok hv4).1 (gflat_lt T_Rec.ilen (ix_ok hv4).2) rfl),
      st_plain rfl (op_loadA_fr _ _ _ _ _ _ _ _ Try.underlying46 rfl sz46 rfl rfl (gflat_get T_Rec.ilen hv5) (.cons (.v _) (.cons (.v _) (.cons (.v _) (.cons (.v _) (.cons (.fl _ _ rfl) (.cons (.fl _ _ rfl) (.cons (.v _) (.cons (.v _) (.cons (.v _) (.cons (.v _) (.cons (.fl _ _ rfl) (.cons (.v _) (.cons (.v _) (.cons (.v _) (.cons (.fl _ _ rfl) (.nil)))))))))))))))) rfl (by decide)),
      st_plain rfl (op_call _ _ 33 _ _ rfl Try.call33 rfl (ok_diary_Room ((T_Rec.mk v5.Kind ((T_Mail.mk (T_Path.mk v5.Mail.From.Null v5.Mail.From.Local v5.Mail.From.Domain) v5.Mail.To v5.Mail.Body v5.Mail.Quiet v5.Mail.Helo v5.Mail.At)) v5.Id v5.Ids v5.Origin v5.Number v5.Offset v5.Data)) _ hv6) rfl rfl),
      st_plain rfl (op_bin _ _ _ _ _ rfl rfl (ibind (f := Value.int .i64) (Option.some.inj hv7))),
      st_plain rfl (LOp.drop [_] (op_assign _ _ _ _ rfl rfl)),
      trivial⟩ ?_
     refine pt_inb ?_
     refine pt_then ?_
     obtain ⟨v8, hv8, h⟩ := bind_some h
     refine ht_seqR hn (El := [_, _, _, _, (17, .v (.int .i64 s13)), (18, .v (.int .i64 v8)), (6, .v (.int .i64 v8))]) (init := [0, 1, 2, 3]) (fin := [0, 1, 3, 6]) (sps := [⟨[2], [], [4], [(.slot 17)]⟩, ⟨[4], [], [5], [(.slot 18)]⟩, ⟨[5], [2], [6], [(.slot 6)]⟩]) (es' := [(_, _), (_, _), (_, _), (6, .v (.int .i64 v8))]) (by kernel_rfl) rfl rfl
      ⟨st_plain rfl (op_move _ _ _ _ rfl rfl),
      st_plain rfl (op_bin _ _ _ _ _ rfl rfl (ibind (f := Value.int .i64) (Option.some.inj hv8))),
      st_plain rfl (LOp.drop [_] (op_assign _ _ _ _ rfl rfl)),
      trivial⟩ ?_
     exact pt_next _ (Option.some.inj h).symm rfl
    ·have h := cond_f hb22 h
     refine ht_exit ?_
     refine pt_x_then ?_
     refine pt_x_then ?_
     refine pt_x_in ?_
     refine pt_pick [0, 1, 2] (by kernel_rfl) (es' := [(_, _), (_, _), (_, _)]) rfl ?_
     exact hl17 _ (ho19 _ (Option.some.inj h).symm).symm

end Go.Proofs.Ytbioodcjmceefaa
