/-
  The model's runs are what is told in Lean.
-/
import Derived.Test.YtbioodcjmceefaaProg
import Derived.KernelRfl
import Derived.Test.YtbioodcjmceefaaOkc3
set_option linter.unusedVariables false
set_option linter.unusedSimpArgs false
namespace Go.Proofs.Ytbioodcjmceefaa
open Go.Abs Go.Abs.Sh

set_option maxHeartbeats 1000000 in
theorem ok_wherrylaw18_DiaryRenews (l : (List T_Rec)) (k : (List T_Rec)) (keep : Int) (r : Bool) (h : Sh.wherrylaw18_DiaryRenews l k keep = some r) : FnOK Try.prog 7 [.fr .shr true 15 (List.flatten (List.map T_Rec.ienc l)), .fr .shr true 15 (List.flatten (List.map T_Rec.ienc k)), .v (.int .i64 keep)] (.v (.bool r)) := by
  unfold Sh.wherrylaw18_DiaryRenews at h
  refine fn_ok Try.func7 rfl (Nat.le_of_ble_eq_true rfl) rfl rfl fun g0 hn hio => ?_
  refine ht_seq ?_
  refine ht_seqR hn (El := [_, _, _, (6, .v (.bool false))]) (init := [0, 1, 2]) (fin := [0, 1, 2]) (sps := [⟨[], [], [3], [(.slot 6)]⟩]) (es' := [(_, _), (_, _), (_, _)]) (by kernel_rfl) rfl rfl
   ⟨st_plain rfl (op_assign _ _ _ _ rfl rfl),
   trivial⟩ ?_
  refine pt_then ?_
  refine ht_seq ?_
  refine ht_seq ?_
  refine ht_joinS h (fun (s3 : Bool) => [(0, .fr .shr true 15 (List.flatten (List.map T_Rec.ienc l))), (1, .fr .shr true 15 (List.flatten (List.map T_Rec.ienc k))), (2, .v (.int .i64 keep)), (18, .v (.bool s3))]) ?_ ?_
  ·rintro s3 h
   refine pt_then ?_
   refine ht_cond _ rfl (fun hb7 => ?_) (fun hb7 => ?_)
   ·have h := cond_t hb7 h
    refine ht_seq ?_
    refine ht_seqR hn (El := [_, _, _, _, (6, .v (.bool true))]) (init := [0, 1, 2, 3]) (fin := [4]) (sps := [⟨[], [], [4], [(.slot 6)]⟩]) (es' := [(6, .v (.bool true))]) (by kernel_rfl) rfl rfl
     ⟨st_plain rfl (op_assign _ _ _ _ rfl rfl),
     trivial⟩ ?_
    refine pt_then ?_
    refine ht_ret ?_
    refine pt_r_then ?_
    obtain rfl := Option.some.inj h
    exact pt_ret hio rfl (.tmp _ _ .nil) rfl rfl
   ·have h := cond_f hb7 h
    refine ht_skip ?_
    refine pt_then ?_
    refine ht_seq ?_
    obtain ⟨v8, hv8, h⟩ := bind_some h
    refine ht_seqR hn (El := [_, _, _, _, (20, .tup [.obox (Option.isSome v8.1) 64 [.v (.int .i64 (((Option.getD v8.1 (default : T_diary_Diary))).limit)), .fr (.own 46) false 15 (List.flatten (List.map T_Rec.ienc (((Option.getD v8.1 (default : T_diary_Diary))).recs))), .v (.int .i64 (((Option.getD v8.1 (default : T_diary_Diary))).used)), .v (.int .i64 (((Option.getD v8.1 (default : T_diary_Diary))).safe)), .v (.int .i64 (((Option.getD v8.1 (default : T_diary_Diary))).kept)), .v (.int .i64 (((Option.getD v8.1 (default : T_diary_Diary))).life)), .v (.bool (((Option.getD v8.1 (default : T_diary_Diary))).off)), .v (.int .i64 (((Option.getD v8.1 (default : T_diary_Diary))).trip)), .v (.int .i64 (((Option.getD v8.1 (default : T_diary_Diary))).tripKeep))], .v (.int .i64 v8.2)]), (19, .tup [.obox (Option.isSome v8.1) 64 [.v (.int .i64 (((Option.getD v8.1 (default : T_diary_Diary))).limit)), .fr (.own 46) false 15 (List.flatten (List.map T_Rec.ienc (((Option.getD v8.1 (default : T_diary_Diary))).recs))), .v (.int .i64 (((Option.getD v8.1 (default : T_diary_Diary))).used)), .v (.int .i64 (((Option.getD v8.1 (default : T_diary_Diary))).safe)), .v (.int .i64 (((Option.getD v8.1 (default : T_diary_Diary))).kept)), .v (.int .i64 (((Option.getD v8.1 (default : T_diary_Diary))).life)), .v (.bool (((Option.getD v8.1 (default : T_diary_Diary))).off)), .v (.int .i64 (((Option.getD v8.1 (default : T_diary_Diary))).trip)), .v (.int .i64 (((Option.getD v8.1 (default : T_diary_Diary))).tripKeep))], .v (.int .i64 v8.2)]), (21, .obox (Option.isSome v8.1) 64 [.v (.int .i64 (((Option.getD v8.1 (default : T_diary_Diary))).limit)), .fr (.own 46) false 15 (List.flatten (List.map T_Rec.ienc (((Option.getD v8.1 (default : T_diary_Diary))).recs))), .v (.int .i64 (((Option.getD v8.1 (default : T_diary_Diary))).used)), .v (.int .i64 (((Option.getD v8.1 (default : T_diary_Diary))).safe)), .v (.int .i64 (((Option.getD v8.1 (default : T_diary_Diary))).kept)), .v (.int .i64 (((Option.getD v8.1 (default : T_diary_Diary))).life)), .v (.bool (((Option.getD v8.1 (default : T_diary_Diary))).off)), .v (.int .i64 (((Option.getD v8.1 (default : T_diary_Diary))).trip)), .v (.int .i64 (((Option.getD v8.1 (default : T_diary_Diary))).tripKeep))]), (19, .tup [.any, .v (.int .i64 v8.2)]), (22, .v (.int .i64 v8.2)), (7, .obox (Option.isSome v8.1) 64 [.v (.int .i64 (((Option.getD v8.1 (default : T_diary_Diary))).limit)), .fr (.own 46) false 15 (List.flatten (List.map T_Rec.ienc (((Option.getD v8.1 (default : T_diary_Diary))).recs))), .v (.int .i64 (((Option.getD v8.1 (default : T_diary_Diary))).used)), .v (.int .i64 (((Option.getD v8.1 (default : T_diary_Diary))).safe)), .v (.int .i64 (((Option.getD v8.1 (default : T_diary_Diary))).kept)), .v (.int .i64 (((Option.getD v8.1 (default : T_diary_Diary))).life)), .v (.bool (((Option.getD v8.1 (default : T_diary_Diary))).off)), .v (.int .i64 (((Option.getD v8.1 (default : T_diary_Diary))).trip)), .v (.int .i64 (((Option.getD v8.1 (default : T_diary_Diary))).tripKeep))]), (8, .v (.int .i64 v8.2))]) (init := [0, 1, 2, 3]) (fin := [0, 1, 2, 9, 10]) (sps := [⟨[], [], [4], [(.slot 20)]⟩, ⟨[], [4], [5], [(.slot 19)]⟩, ⟨[], [5], [7, 6], [(.slot 21)]⟩, ⟨[7], [], [8], [(.slot 22)]⟩, ⟨[], [6], [9], [(.slot 7)]⟩, ⟨[8], [], [10], [(.slot 8)]⟩]) (es' := [(_, _), (_, _), (_, _), (7, .obox (Option.isSome v8.1) 64 [.v (.int .i64 (((Option.getD v8.1 (default : T_diary_Diary))).limit)), .fr (.own 46) false 15 (List.flatten (List.map T_Rec.ienc (((Option.getD v8.1 (default : T_diary_Diary))).recs))), .v (.int .i64 (((Option.getD v8.1 (default : T_diary_Diary))).used)), .v (.int .i64 (((Option.getD v8.1 (default : T_diary_Diary))).safe)), .v (.int .i64 (((Option.getD v8.1 (default : T_diary_Diary))).kept)), .v (.int .i64 (((Option.getD v8.1 (default : T_diary_Diary))).life)), .v (.bool (((Option.getD v8.1 (default : T_diary_Diary))).off)), .v (.int .i64 (((Option.getD v8.1 (default : T_diary_Diary))).trip)), .v (.int .i64 (((Option.getD v8.1 (default : T_diary_Diary))).tripKeep))]), (8, .v (.int .i64 v8.2))]) (by kernel_rfl) rfl rfl
     ⟨st_plain rfl (op_call _ _ 10 _ _ rfl Try.call10 rfl (ok_diary_New 131072 _ hv8) rfl rfl),
     st_plain rfl (op_move_take _ _ _ _ rfl),
     st_plain rfl (op_extract_take _ _ _ _ _ rfl (Nat.le_of_ble_eq_true rfl) rfl rfl (by decide) rfl),
     st_plain rfl (op_extract _ _ _ _ _ rfl rfl (Nat.le_of_ble_eq_true rfl) rfl rfl),
     st_plain rfl (op_assign_take _ _ _ _ rfl),
     st_plain rfl (op_assign _ _ _ _ rfl rfl),
     trivial⟩ ?_
    refine pt_ob (d := default) (f := fun (v9 : T_diary_Diary) => [.v (.int .i64 v9.limit), .fr (.own 46) false 15 (List.flatten (List.map T_Rec.ienc v9.recs)), .v (.int .i64 v9.used), .v (.int .i64 v9.safe), .v (.int .i64 v9.kept), .v (.int .i64 v9.life), .v (.bool v9.off), .v (.int .i64 v9.trip), .v (.int .i64 v9.tripKeep)]) 3 9 7 64 h (es1 := fun v9 => [(0, .fr .shr true 15 (List.flatten (List.map T_Rec.ienc l))), (1, .fr .shr true 15 (List.flatten (List.map T_Rec.ienc k))), (2, .v (.int .i64 keep)), (7, .box 64 [.v (.int .i64 v9.limit), .fr (.own 46) false 15 (List.flatten (List.map T_Rec.ienc v9.recs)), .v (.int .i64 v9.used), .v (.int .i64 v9.safe), .v (.int .i64 v9.kept), .v (.int .i64 v9.life), .v (.bool v9.off), .v (.int .i64 v9.trip), .v (.int .i64 v9.tripKeep)]), (8, .v (.int .i64 v8.2))]) (es0 := [(0, .fr .shr true 15 (List.flatten (List.map T_Rec.ienc l))), (1, .fr .shr true 15 (List.flatten (List.map T_Rec.ienc k))), (2, .v (.int .i64 keep)), (7, .v (.pointer none)), (8, .v (.int .i64 v8.2))]) rfl (fun _ => rfl) (by kernel_rfl) (fun _ => rfl) (fun _ => rfl) rfl (fun v9 hv10 h => ?_) (fun hv10 h => ?_)
    ·refine pt_then ?_
     refine ht_seq ?_
     refine ht_seq ?_
     refine ht_joinS h (fun (s11 : Bool) => [(0, .fr .shr true 15 (List.flatten (List.map T_Rec.ienc l))), (1, .fr .shr true 15 (List.flatten (List.map T_Rec.ienc k))), (2, .v (.int .i64 keep)), (7, .box 64 [.v (.int .i64 v9.limit), .fr (.own 46) false 15 (List.flatten (List.map T_Rec.ienc v9.recs)), .v (.int .i64 v9.used), .v (.int .i64 v9.safe), .v (.int .i64 v9.kept), .v (.int .i64 v9.life), .v (.bool v9.off), .v (.int .i64 v9.trip), .v (.int .i64 v9.tripKeep)]), (28, .v (.bool s11))]) ?_ ?_
     ·rintro s11 h
      refine pt_then ?_
      refine ht_cond _ rfl (fun hb15 => ?_) (fun hb15 => ?_)
      ·have h := cond_t hb15 h
       refine ht_seq ?_
       refine ht_seqR hn (El := [_, _, _, _, _, (6, .v (.bool false))]) (init := [0, 1, 2, 3, 4]) (fin := [5]) (sps := [⟨[], [], [5], [(.slot 6)]⟩]) (es' := [(6, .v (.bool false))]) (by kernel_rfl) rfl rfl
        ⟨st_plain rfl (op_assign _ _ _ _ rfl rfl),
        trivial⟩ ?_
       refine pt_then ?_
       refine ht_ret ?_
       refine pt_r_then ?_
       obtain rfl := Option.some.inj h
       exact pt_ret hio rfl (.tmp _ _ .nil) rfl rfl
      ·have h := cond_f hb15 h
       refine ht_skip ?_
       refine pt_then ?_
       refine ht_seq ?_
       refine ht_seq ?_
       refine ht_seqR hn (El := [_, _, _, _, _, (9, .v (.int .i64 0))]) (init := [0, 1, 2, 3, 4]) (fin := [0, 1, 2, 3, 5]) (sps := [⟨[], [], [5], [(.slot 9)]⟩]) (es' := [(_, _), (_, _), (_, _), (_, _), (9, .v (.int .i64 0))]) (by kernel_rfl) rfl rfl
        ⟨st_plain rfl (op_assign _ _ _ _ rfl rfl),
        trivial⟩ ?_
       refine pt_then ?_
       refine ht_loopS h (fun ((s35, s36, s37, s38, s39, s40, s41, s42, s43, s44) : Int × (List T_Rec) × Int × Int × Int × Int × Bool × Int × Int × Int) => [(0, .fr .shr true 15 (List.flatten (List.map T_Rec.ienc l))), (1, .fr .shr true 15 (List.flatten (List.map T_Rec.ienc k))), (2, .v (.int .i64 keep)), (7, .box 64 [.v (.int .i64 s35), .fr (.own 46) false 15 (List.flatten (List.map T_Rec.ienc s36)), .v (.int .i64 s37), .v (.int .i64 s38), .v (.int .i64 s39), .v (.int .i64 s40), .v (.bool s41), .v (.int .i64 s42), .v (.int .i64 s43)]), (9, .v (.int .i64 s44))]) (fun ((s47, s48, s49, s50, s51, s52, s53, s54, s55) : Int × (List T_Rec) × Int × Int × Int × Int × Bool × Int × Int) => [(0, .fr .shr true 15 (List.flatten (List.map T_Rec.ienc l))), (1, .fr .shr true 15 (List.flatten (List.map T_Rec.ienc k))), (2, .v (.int .i64 keep)), (7, .box 64 [.v (.int .i64 s47), .fr (.own 46) false 15 (List.flatten (List.map T_Rec.ienc s48)), .v (.int .i64 s49), .v (.int .i64 s50), .v (.int .i64 s51), .v (.int .i64 s52), .v (.bool s53), .v (.int .i64 s54), .v (.int .i64 s55)])]) ?_ ?_
       ·rintro ⟨s47, s48, s49, s50, s51, s52, s53, s54, s55⟩ h
        refine pt_then ?_
        refine ht_seq ?_
        obtain ⟨v64, hv64, h⟩ := bind_some h
        refine ht_seqR hn (El := [_, _, _, _, (43, .fl (.own 5) 1 (List.map (Value.int .u8) v64)), (44, .agg [.v (.int .i64 0), .v (.bool false), .v (.string (⟨#[]⟩ : ByteArray)), .v (.string (⟨#[]⟩ : ByteArray)), .v (.slice none 0 0), .v (.slice none 0 0), .v (.bool false), .v (.string (⟨#[]⟩ : ByteArray)), .v (.int .i64 0), .v (.int .i64 0), .v (.slice none 0 0), .v (.int .i64 0), .v (.int .i64 0), .v (.int .i64 0), .fl (.own 5) 1 (List.map (Value.int .u8) v64)]), (10, .box 46 [.v (.int .i64 0), .v (.bool false), .v (.string (⟨#[]⟩ : ByteArray)), .v (.string (⟨#[]⟩ : ByteArray)), .v (.slice none 0 0), .v (.slice none 0 0), .v (.bool false), .v (.string (⟨#[]⟩ : ByteArray)), .v (.int .i64 0), .v (.int .i64 0), .v (.slice none 0 0), .v (.int .i64 0), .v (.int .i64 0), .v (.int .i64 0), .v (.slice none 0 0)]), (10, .box 46 [.v (.int .i64 0), .v (.bool false), .v (.string (⟨#[]⟩ : ByteArray)), .v (.string (⟨#[]⟩ : ByteArray)), .v (.slice none 0 0), .v (.slice none 0 0), .v (.bool false), .v (.string (⟨#[]⟩ : ByteArray)), .v (.int .i64 0), .v (.int .i64 0), .v (.slice none 0 0), .v (.int .i64 0), .v (.int .i64 0), .v (.int .i64 0), .fl (.own 5) 1 (List.map (Value.int .u8) v64)])]) (init := [0, 1, 2, 3]) (fin := [0, 1, 2, 3, 7]) (sps := [⟨[], [], [4], [(.slot 43)]⟩, ⟨[], [4], [5], [(.slot 44)]⟩, ⟨[], [], [6], [(.slot 10)]⟩, ⟨[], [5, 6], [7], [.cell 10 0, .cell 10 1, .cell 10 2, .cell 10 3, .cell 10 4, .cell 10 5, .cell 10 6, .cell 10 7, .cell 10 8, .cell 10 9, .cell 10 10, .cell 10 11, .cell 10 12, .cell 10 13, .cell 10 14]⟩]) (es' := [(_, _), (_, _), (_, _), (_, _), (10, .box 46 [.v (.int .i64 0), .v (.bool false), .v (.string (⟨#[]⟩ : ByteArray)), .v (.string (⟨#[]⟩ : ByteArray)), .v (.slice none 0 0), .v (.slice none 0 0), .v (.bool false), .v (.string (⟨#[]⟩ : ByteArray)), .v (.int .i64 0), .v (.int .i64 0), .v (.slice none 0 0), .v (.int .i64 0), .v (.int .i64 0), .v (.int .i64 0), .fl (.own 5) 1 (List.map (Value.int .u8) v64)])]) (by kernel_rfl) rfl rfl
         ⟨st_plain rfl (op_mk (f := Value.int .u8) _ _ _ _ el41 (by decide) zr5 rfl rfl rfl hv64),
         st_plain rfl (op_build _ _ _ _ [1, 8, 1, 1, 1, 1, 1, 1] _ _ Try.underlying46 zr46 (fs46 _ Try.underlying46) (.take _ _ Src.nil) rfl rfl rfl),
         st_plain rfl (op_alloc _ _ zr46),
         st_plain rfl (op_store_take _ _ _ _ _ _ _ _ sz46 rfl rfl rfl (Nat.le_of_ble_eq_true rfl) rfl rfl),
         trivial⟩ ?_
        refine pt_then ?_
        refine ht_seq ?_
        refine ht_seq ?_
        refine ht_joinS h (fun ((s68, s69, s70, s71, s72, s73, s74, s75, s76, s77) : Int × (List T_Rec) × Int × Int × Int × Int × Bool × Int × Int × Bool) => [(0, .fr .shr true 15 (List.flatten (List.map T_Rec.ienc l))), (1, .fr .shr true 15 (List.flatten (List.map T_Rec.ienc k))), (2, .v (.int .i64 keep)), (7, .box 64 [.v (.int .i64 s68), .fr (.own 46) false 15 (List.flatten (List.map T_Rec.ienc s69)), .v (.int .i64 s70), .v (.int .i64 s71), .v (.int .i64 s72), .v (.int .i64 s73), .v (.bool s74), .v (.int .i64 s75), .v (.int .i64 s76)]), (61, .v (.bool s77))]) ?_ ?_
        ·rintro ⟨s68, s69, s70, s71, s72, s73, s74, s75, s76, s77⟩ h
         refine pt_then ?_
         refine ht_cond _ rfl (fun hb81 => ?_) (fun hb81 => ?_)
         ·have h := cond_t hb81 h
          refine ht_seq ?_
          refine ht_seqR hn (El := [_, _, _, _, _, (6, .v (.bool false))]) (init := [0, 1, 2, 3, 4]) (fin := [5]) (sps := [⟨[], [], [5], [(.slot 6)]⟩]) (es' := [(6, .v (.bool false))]) (by kernel_rfl) rfl rfl
           ⟨st_plain rfl (op_assign _ _ _ _ rfl rfl),
           trivial⟩ ?_
          refine pt_then ?_
          refine ht_ret ?_
          refine pt_r_then ?_
          obtain rfl := Option.some.inj h
          exact pt_ret hio rfl (.tmp _ _ .nil) rfl rfl
         ·have h := cond_f hb81 h
          refine ht_skip ?_
          refine pt_then ?_
          refine ht_seq ?_
          obtain ⟨v82, hv82, h⟩ := bind_some h
          refine ht_seqR hn (El := [_, _, _, _, _, (62, .ptr 7 0), (63, .fr .shr true 15 (List.flatten (List.map T_Rec.ienc k))), (64, .v (.int .i64 v82.1)), (7, .box 64 [.v (.int .i64 v82.2.limit), .fr (.own 46) false 15 (List.flatten (List.map T_Rec.ienc v82.2.recs)), .v (.int .i64 v82.2.used), .v (.int .i64 v82.2.safe), .v (.int .i64 v82.2.kept), .v (.int .i64 v82.2.life), .v (.bool v82.2.off), .v (.int .i64 v82.2.trip), .v (.int .i64 v82.2.tripKeep)]), (8, .v (.int .i64 v82.1))]) (init := [0, 1, 2, 3, 4]) (fin := [0, 1, 2, 8, 9]) (sps := [⟨[3], [], [5], [(.slot 62)]⟩, ⟨[1], [], [6], [(.slot 63)]⟩, ⟨[5, 6], [3], [8, 7], [(.slot 64), (.cell 7 0), (.cell 7 1), (.cell 7 2), (.cell 7 3), (.cell 7 4), (.cell 7 5), (.cell 7 6), (.cell 7 7), (.cell 7 8)]⟩, ⟨[7], [], [9], [(.slot 8)]⟩]) (es' := [(_, _), (_, _), (_, _), (7, .box 64 [.v (.int .i64 v82.2.limit), .fr (.own 46) false 15 (List.flatten (List.map T_Rec.ienc v82.2.recs)), .v (.int .i64 v82.2.used), .v (.int .i64 v82.2.safe), .v (.int .i64 v82.2.kept), .v (.int .i64 v82.2.life), .v (.bool v82.2.off), .v (.int .i64 v82.2.trip), .v (.int .i64 v82.2.tripKeep)]), (8, .v (.int .i64 v82.1))]) (by kernel_rfl) rfl rfl
           ⟨st_plain rfl (op_move _ _ _ _ rfl rfl),
           st_plain rfl (op_move _ _ _ _ rfl rfl),
           st_plain rfl (op_callP _ _ _ _ 64 19 [.tmp 62] [.tmp 63] _ _ _ rfl Try.call19 rfl rfl rfl (ok_diary_Diary_Renew (T_diary_Diary.mk s68 s69 s70 s71 s72 s73 s74 s75 s76) k _ hv82) (Nat.le_of_ble_eq_true rfl) rfl rfl rfl rfl rfl rfl rfl rfl),
           st_plain rfl (op_assign _ _ _ _ rfl rfl),
           trivial⟩ ?_
          refine pt_then ?_
          refine ht_seq ?_
          refine ht_seq ?_
          refine ht_seqR hn (El := [_, _, _, _, _, (65, .v (.int .i64 v82.1)), (66, .v (.bool (v82.1 != 0)))]) (init := [0, 1, 2, 3, 4]) (fin := [0, 1, 2, 3, 4, 6]) (sps := [⟨[4], [], [5], [(.slot 65)]⟩, ⟨[5], [], [6], [(.slot 66)]⟩]) (es' := [(_, _), (_, _), (_, _), (_, _), (_, _), (66, .v (.bool (v82.1 != 0)))]) (by kernel_rfl) rfl rfl
           ⟨st_plain rfl (op_move _ _ _ _ rfl rfl),
           st_plain rfl (op_bin _ _ _ _ _ rfl rfl rfl),
           trivial⟩ ?_
          refine pt_then ?_
          refine ht_cond _ rfl (fun hb83 => ?_) (fun hb83 => ?_)
          ·have h := cond_t hb83 h
           refine ht_seq ?_
           refine ht_joinS h (fun (s86 : Bool) => [(6, .v (.bool s86))]) ?_ ?_
           ·rintro s86 h
            refine pt_then ?_
            refine ht_ret ?_
            refine pt_r_then ?_
            obtain rfl := Option.some.inj h
            exact pt_ret hio rfl (.tmp _ _ .nil) rfl rfl
           ·intro u87 h hl88 hr89
            refine cond_some h (fun hg16_2 h => ?_) (fun hg16_2 h => ?_)
            ·obtain ⟨v84, hv84, h⟩ := bind_some h
             refine cond_some h (fun hg16_9 h => ?_) (fun hg16_9 h => ?_)
             ·obtain ⟨v85, hv85, h⟩ := bind_some h
              refine ht_seqR hn (El := (_ :: _ :: _ :: _ :: _ :: _ :: (67, .v (.int .i64 v82.1)) :: (68, .v (.bool (v82.1 == 8))) :: (69, .v (.bool true)) :: (70, .box 64 [.v (.int .i64 v82.2.limit), .fr (.own 46) false 15 (List.flatten (List.map T_Rec.ienc v82.2.recs)), .v (.int .i64 v82.2.used), .v (.int .i64 v82.2.safe), .v (.int .i64 v82.2.kept), .v (.int .i64 v82.2.life), .v (.bool v82.2.off), .v (.int .i64 v82.2.trip), .v (.int .i64 v82.2.tripKeep)]) :: (71, .v (.int .i64 v84.1)) :: (70, .box 64 [.v (.int .i64 v84.2.limit), .fr (.own 46) false 15 (List.flatten (List.map T_Rec.ienc v84.2.recs)), .v (.int .i64 v84.2.used), .v (.int .i64 v84.2.safe), .v (.int .i64 v84.2.kept), .v (.int .i64 v84.2.life), .v (.bool v84.2.off), .v (.int .i64 v84.2.trip), .v (.int .i64 v84.2.tripKeep)]) :: (72, .fr .shr true 15 (List.flatten (List.map T_Rec.ienc l))) :: (73, .v (.int .i64 (l.length : Int))) :: (74, .v (.bool ((v84.1 == (l.length : Int))))) :: (75, .v (.bool ((v84.1 == (l.length : Int))))) :: (76, .v (.bool true)) :: (77, .v (.bool v85)) :: (78, .v (.bool v85)) :: (6, .v (.bool v85)) :: [])) (init := [0, 1, 2, 3, 4, 5]) (fin := [19]) (sps := [⟨[4], [], [6], [(.slot 67)]⟩, ⟨[6], [], [7], [(.slot 68)]⟩, ⟨[7], [], [8], [(.slot 69)]⟩, ⟨[8], [3], [9], [(.slot 70)]⟩, ⟨[8], [9], [11, 10], [(.slot 71), (.cell 70 0), (.cell 70 1), (.cell 70 2), (.cell 70 3), (.cell 70 4), (.cell 70 5), (.cell 70 6), (.cell 70 7), (.cell 70 8)]⟩, ⟨[8, 0], [], [12], [(.slot 72)]⟩, ⟨[8, 12], [], [13], [(.slot 73)]⟩, ⟨[8, 10, 13], [], [14], [(.slot 74)]⟩, ⟨[8, 14], [], [15], [(.slot 75)]⟩, ⟨[15], [], [16], [(.slot 76)]⟩, ⟨[16], [], [17], [(.slot 77)]⟩, ⟨[16, 17], [], [18], [(.slot 78)]⟩, ⟨[18], [], [19], [(.slot 6)]⟩]) (es' := [(6, .v (.bool v85))]) (by kernel_rfl) rfl rfl
               ⟨st_plain rfl (op_move _ _ _ _ rfl rfl),
               st_plain rfl (op_bin _ _ _ _ _ rfl rfl rfl),
               st_plain rfl (op_move _ _ _ _ (congrArg (fun b => AV.v (Value.bool b)) hg16_2) rfl),
               st_run 2 69 true rfl rfl rfl (List.Mem.head _) (op_move_take _ _ _ _ rfl),
               st_run 2 69 true rfl rfl rfl (List.Mem.head _) (op_callP _ _ _ _ 71 34 [.tmp 70] [] _ _ _ rfl Try.call34 rfl rfl rfl (ok_diary_Diary_Len v82.2 _ hv84) (Nat.le_of_ble_eq_true rfl) rfl rfl rfl rfl rfl rfl rfl rfl),
               st_run 2 69 true rfl rfl rfl (List.Mem.head _) (op_move _ _ _ _ rfl rfl),
               st_run 2 69 true rfl rfl rfl (List.Mem.head _) (op_len_fr _ _ _ Try.underlying31 rfl (by decide) (gflat_len T_Rec.ilen _)),
               st_run 2 69 true rfl rfl rfl (List.Mem.head _) (op_bin _ _ _ _ _ rfl rfl rfl),
               st_plain rfl (op_pick _ _ true _ rfl rfl),
               st_plain rfl (op_move _ _ _ _ (congrArg (fun b => AV.v (Value.bool b)) hg16_9) rfl),
               st_run 9 76 true rfl rfl rfl (List.Mem.head _) (op_call _ _ 12 _ _ rfl Try.call12 rfl (ok_wherrylaw18_wakes  _ hv85) rfl rfl),
               st_plain rfl (op_pick _ _ true _ rfl rfl),
               st_plain rfl (op_assign _ _ _ _ rfl rfl),
               trivial⟩ ?_
              exact hl88 _ (Option.some.inj h).symm
             ·refine ht_seqR hn (El := (_ :: _ :: _ :: _ :: _ :: _ :: (67, .v (.int .i64 v82.1)) :: (68, .v (.bool (v82.1 == 8))) :: (69, .v (.bool true)) :: (70, .box 64 [.v (.int .i64 v82.2.limit), .fr (.own 46) false 15 (List.flatten (List.map T_Rec.ienc v82.2.recs)), .v (.int .i64 v82.2.used), .v (.int .i64 v82.2.safe), .v (.int .i64 v82.2.kept), .v (.int .i64 v82.2.life), .v (.bool v82.2.off), .v (.int .i64 v82.2.trip), .v (.int .i64 v82.2.tripKeep)]) :: (71, .v (.int .i64 v84.1)) :: (70, .box 64 [.v (.int .i64 v84.2.limit), .fr (.own 46) false 15 (List.flatten (List.map T_Rec.ienc v84.2.recs)), .v (.int .i64 v84.2.used), .v (.int .i64 v84.2.safe), .v (.int .i64 v84.2.kept), .v (.int .i64 v84.2.life), .v (.bool v84.2.off), .v (.int .i64 v84.2.trip), .v (.int .i64 v84.2.tripKeep)]) :: (72, .fr .shr true 15 (List.flatten (List.map T_Rec.ienc l))) :: (73, .v (.int .i64 (l.length : Int))) :: (74, .v (.bool ((v84.1 == (l.length : Int))))) :: (75, .v (.bool ((v84.1 == (l.length : Int))))) :: (76, .v (.bool false)) :: (77, .v undef) :: (78, .v (.bool false)) :: (6, .v (.bool false)) :: [])) (init := [0, 1, 2, 3, 4, 5]) (fin := [19]) (sps := [⟨[4], [], [6], [(.slot 67)]⟩, ⟨[6], [], [7], [(.slot 68)]⟩, ⟨[7], [], [8], [(.slot 69)]⟩, ⟨[8], [3], [9], [(.slot 70)]⟩, ⟨[8], [9], [11, 10], [(.slot 71), (.cell 70 0), (.cell 70 1), (.cell 70 2), (.cell 70 3), (.cell 70 4), (.cell 70 5), (.cell 70 6), (.cell 70 7), (.cell 70 8)]⟩, ⟨[8, 0], [], [12], [(.slot 72)]⟩, ⟨[8, 12], [], [13], [(.slot 73)]⟩, ⟨[8, 10, 13], [], [14], [(.slot 74)]⟩, ⟨[8, 14], [], [15], [(.slot 75)]⟩, ⟨[15], [], [16], [(.slot 76)]⟩, ⟨[16], [], [17], [(.slot 77)]⟩, ⟨[16], [], [18], [(.slot 78)]⟩, ⟨[18], [], [19], [(.slot 6)]⟩]) (es' := [(6, .v (.bool false))]) (by kernel_rfl) rfl rfl
               ⟨st_plain rfl (op_move _ _ _ _ rfl rfl),
               st_plain rfl (op_bin _ _ _ _ _ rfl rfl rfl),
               st_plain rfl (op_move _ _ _ _ (congrArg (fun b => AV.v (Value.bool b)) hg16_2) rfl),
               st_run 2 69 true rfl rfl rfl (List.Mem.head _) (op_move_take _ _ _ _ rfl),
               st_run 2 69 true rfl rfl rfl (List.Mem.head _) (op_callP _ _ _ _ 71 34 [.tmp 70] [] _ _ _ rfl Try.call34 rfl rfl rfl (ok_diary_Diary_Len v82.2 _ hv84) (Nat.le_of_ble_eq_true rfl) rfl rfl rfl rfl rfl rfl rfl rfl),
               st_run 2 69 true rfl rfl rfl (List.Mem.head _) (op_move _ _ _ _ rfl rfl),
               st_run 2 69 true rfl rfl rfl (List.Mem.head _) (op_len_fr _ _ _ Try.underlying31 rfl (by decide) (gflat_len T_Rec.ilen _)),
               st_run 2 69 true rfl rfl rfl (List.Mem.head _) (op_bin _ _ _ _ _ rfl rfl rfl),
               st_plain rfl (op_pick _ _ true _ rfl rfl),
               st_plain rfl (op_move _ _ _ _ (congrArg (fun b => AV.v (Value.bool b)) hg16_9) rfl),
               st_skip 9 76 _ true rfl rfl rfl rfl (List.Mem.head _),
               st_plain rfl (op_pick _ _ false _ rfl rfl),
               st_plain rfl (op_assign _ _ _ _ rfl rfl),
               trivial⟩ ?_
              exact hl88 _ (Option.some.inj h).symm
            ·refine ht_seqR hn (El := (_ :: _ :: _ :: _ :: _ :: _ :: (67, .v (.int .i64 v82.1)) :: (68, .v (.bool (v82.1 == 8))) :: (69, .v (.bool false)) :: (70, .v undef) :: (71, .v undef) :: (72, .v undef) :: (73, .v undef) :: (74, .v undef) :: (75, .v (.bool false)) :: (76, .v (.bool false)) :: (77, .v undef) :: (78, .v (.bool false)) :: (6, .v (.bool false)) :: [])) (init := [0, 1, 2, 3, 4, 5]) (fin := [18]) (sps := [⟨[4], [], [6], [(.slot 67)]⟩, ⟨[6], [], [7], [(.slot 68)]⟩, ⟨[7], [], [8], [(.slot 69)]⟩, ⟨[8], [], [9], [(.slot 70)]⟩, ⟨[8], [], [10], [(.slot 71)]⟩, ⟨[8], [], [11], [(.slot 72)]⟩, ⟨[8], [], [12], [(.slot 73)]⟩, ⟨[8], [], [13], [(.slot 74)]⟩, ⟨[8], [], [14], [(.slot 75)]⟩, ⟨[14], [], [15], [(.slot 76)]⟩, ⟨[15], [], [16], [(.slot 77)]⟩, ⟨[15], [], [17], [(.slot 78)]⟩, ⟨[17], [], [18], [(.slot 6)]⟩]) (es' := [(6, .v (.bool false))]) (by kernel_rfl) rfl rfl
              ⟨st_plain rfl (op_move _ _ _ _ rfl rfl),
              st_plain rfl (op_bin _ _ _ _ _ rfl rfl rfl),
              st_plain rfl (op_move _ _ _ _ (congrArg (fun b => AV.v (Value.bool b)) hg16_2) rfl),
              st_skip 2 69 _ true rfl rfl rfl rfl (List.Mem.head _),
              st_skip 2 69 _ true rfl rfl rfl rfl (List.Mem.head _),
              st_skip 2 69 _ true rfl rfl rfl rfl (List.Mem.head _),
              st_skip 2 69 _ true rfl rfl rfl rfl (List.Mem.head _),
              st_skip 2 69 _ true rfl rfl rfl rfl (List.Mem.head _),
              st_plain rfl (op_pick _ _ false _ rfl rfl),
              st_plain rfl (op_move _ _ _ _ rfl rfl),
              st_skip 9 76 _ true rfl rfl rfl rfl (List.Mem.head _),
              st_plain rfl (op_pick _ _ false _ rfl rfl),
              st_plain rfl (op_assign _ _ _ _ rfl rfl),
              trivial⟩ ?_
             exact hl88 _ (Option.some.inj h).symm
          ·have h := cond_f hb83 h
           refine ht_skip ?_
           refine pt_then ?_
           refine ht_seq ?_
           obtain ⟨v90, hv90, h⟩ := bind_some h
           refine ht_seqR hn (El := [_, _, _, _, _, _, (79, .ptr 7 0), (80, .v (.int .i64 keep)), (81, .tup []), (7, .box 64 [.v (.int .i64 v90.limit), .fr (.own 46) false 15 (List.flatten (List.map T_Rec.ienc v90.recs)), .v (.int .i64 v90.used), .v (.int .i64 v90.safe), .v (.int .i64 v90.kept), .v (.int .i64 v90.life), .v (.bool v90.off), .v (.int .i64 v90.trip), .v (.int .i64 v90.tripKeep)])]) (init := [0, 1, 2, 3, 4, 5]) (fin := [1, 9]) (sps := [⟨[3], [], [6], [(.slot 79)]⟩, ⟨[2], [], [7], [(.slot 80)]⟩, ⟨[6, 7], [3], [9, 8], [(.slot 81), (.cell 7 0), (.cell 7 1), (.cell 7 2), (.cell 7 3), (.cell 7 4), (.cell 7 5), (.cell 7 6), (.cell 7 7), (.cell 7 8)]⟩]) (es' := [(_, _), (7, .box 64 [.v (.int .i64 v90.limit), .fr (.own 46) false 15 (List.flatten (List.map T_Rec.ienc v90.recs)), .v (.int .i64 v90.used), .v (.int .i64 v90.safe), .v (.int .i64 v90.kept), .v (.int .i64 v90.life), .v (.bool v90.off), .v (.int .i64 v90.trip), .v (.int .i64 v90.tripKeep)])]) (by kernel_rfl) rfl rfl
            ⟨st_plain rfl (op_move _ _ _ _ rfl rfl),
            st_plain rfl (op_move _ _ _ _ rfl rfl),
            st_plain rfl (op_callP _ _ _ _ 81 21 [.tmp 79] [.tmp 80] _ _ _ rfl Try.call21 rfl rfl rfl (ok_diary_Diary_Crash v82.2 keep _ hv90) (Nat.le_of_ble_eq_true rfl) rfl rfl rfl rfl rfl rfl rfl rfl),
            trivial⟩ ?_
           refine pt_then ?_
           refine ht_seq ?_
           obtain ⟨v91, hv91, h⟩ := bind_some h
           refine ht_seqR hn (El := [_, _, (82, .ptr 7 0), (83, .tup []), (7, .box 64 [.v (.int .i64 v91.limit), .fr (.own 46) false 15 (List.flatten (List.map T_Rec.ienc v91.recs)), .v (.int .i64 v91.used), .v (.int .i64 v91.safe), .v (.int .i64 v91.kept), .v (.int .i64 v91.life), .v (.bool v91.off), .v (.int .i64 v91.trip), .v (.int .i64 v91.tripKeep)])]) (init := [0, 1]) (fin := [0, 4]) (sps := [⟨[1], [], [2], [(.slot 82)]⟩, ⟨[2], [1], [4, 3], [(.slot 83), (.cell 7 0), (.cell 7 1), (.cell 7 2), (.cell 7 3), (.cell 7 4), (.cell 7 5), (.cell 7 6), (.cell 7 7), (.cell 7 8)]⟩]) (es' := [(_, _), (7, .box 64 [.v (.int .i64 v91.limit), .fr (.own 46) false 15 (List.flatten (List.map T_Rec.ienc v91.recs)), .v (.int .i64 v91.used), .v (.int .i64 v91.safe), .v (.int .i64 v91.kept), .v (.int .i64 v91.life), .v (.bool v91.off), .v (.int .i64 v91.trip), .v (.int .i64 v91.tripKeep)])]) (by kernel_rfl) rfl rfl
            ⟨st_plain rfl (op_move _ _ _ _ rfl rfl),
            st_plain rfl (op_callP _ _ _ _ 83 25 [.tmp 82] [] _ _ _ rfl Try.call25 rfl rfl rfl (ok_diary_Diary_Start v90 _ hv91) (Nat.le_of_ble_eq_true rfl) rfl rfl rfl rfl rfl rfl rfl rfl),
            trivial⟩ ?_
           refine pt_then ?_
           refine ht_seq ?_
           obtain ⟨v92, hv92, h⟩ := bind_some h
           refine ht_seqR hn (El := [_, _, (85, .ptr 7 0), (86, .tup [.fr (.own 46) false 15 (List.flatten (List.map T_Rec.ienc v92.1)), .v (.int .i64 v92.2.1)]), (7, .box 64 [.v (.int .i64 v92.2.2.limit), .fr (.own 46) false 15 (List.flatten (List.map T_Rec.ienc v92.2.2.recs)), .v (.int .i64 v92.2.2.used), .v (.int .i64 v92.2.2.safe), .v (.int .i64 v92.2.2.kept), .v (.int .i64 v92.2.2.life), .v (.bool v92.2.2.off), .v (.int .i64 v92.2.2.trip), .v (.int .i64 v92.2.2.tripKeep)]), (84, .tup [.fr (.own 46) false 15 (List.flatten (List.map T_Rec.ienc v92.1)), .v (.int .i64 v92.2.1)]), (87, .fr (.own 46) false 15 (List.flatten (List.map T_Rec.ienc v92.1))), (84, .tup [.any, .v (.int .i64 v92.2.1)]), (88, .v (.int .i64 v92.2.1)), (11, .fr (.own 46) false 15 (List.flatten (List.map T_Rec.ienc v92.1))), (12, .v (.int .i64 v92.2.1))]) (init := [0, 1]) (fin := [0, 4, 9, 10]) (sps := [⟨[1], [], [2], [(.slot 85)]⟩, ⟨[2], [1], [4, 3], [(.slot 86), (.cell 7 0), (.cell 7 1), (.cell 7 2), (.cell 7 3), (.cell 7 4), (.cell 7 5), (.cell 7 6), (.cell 7 7), (.cell 7 8)]⟩, ⟨[], [3], [5], [(.slot 84)]⟩, ⟨[], [5], [7, 6], [(.slot 87)]⟩, ⟨[7], [], [8], [(.slot 88)]⟩, ⟨[], [6], [9], [(.slot 11)]⟩, ⟨[8], [], [10], [(.slot 12)]⟩]) (es' := [(_, _), (7, .box 64 [.v (.int .i64 v92.2.2.limit), .fr (.own 46) false 15 (List.flatten (List.map T_Rec.ienc v92.2.2.recs)), .v (.int .i64 v92.2.2.used), .v (.int .i64 v92.2.2.safe), .v (.int .i64 v92.2.2.kept), .v (.int .i64 v92.2.2.life), .v (.bool v92.2.2.off), .v (.int .i64 v92.2.2.trip), .v (.int .i64 v92.2.2.tripKeep)]), (11, .fr (.own 46) false 15 (List.flatten (List.map T_Rec.ienc v92.1))), (12, .v (.int .i64 v92.2.1))]) (by kernel_rfl) rfl rfl
            ⟨st_plain rfl (op_move _ _ _ _ rfl rfl),
            st_plain rfl (op_callP _ _ _ _ 86 30 [.tmp 85] [] _ _ _ rfl Try.call30 rfl rfl rfl (ok_diary_Diary_Read v91 _ hv92) (Nat.le_of_ble_eq_true rfl) rfl rfl rfl rfl rfl rfl rfl rfl),
            st_plain rfl (op_move_take _ _ _ _ rfl),
            st_plain rfl (op_extract_take _ _ _ _ _ rfl (Nat.le_of_ble_eq_true rfl) rfl rfl (by decide) rfl),
            st_plain rfl (op_extract _ _ _ _ _ rfl rfl (Nat.le_of_ble_eq_true rfl) rfl rfl),
            st_plain rfl (op_assign_take _ _ _ _ rfl),
            st_plain rfl (op_assign _ _ _ _ rfl rfl),
            trivial⟩ ?_
           refine pt_then ?_
           refine ht_seq ?_
           refine ht_joinS h (fun (s97 : Bool) => [(6, .v (.bool s97))]) ?_ ?_
           ·rintro s97 h
            refine pt_then ?_
            refine ht_ret ?_
            obtain rfl := Option.some.inj h
            exact pt_ret hio rfl (.tmp _ _ .nil) rfl rfl
           ·intro u98 h hl99 hr100
            refine cond_some h (fun hg20_2 h => ?_) (fun hg20_2 h => ?_)
            ·obtain ⟨v93, hv93, h⟩ := bind_some h
             refine cond_some h (fun hg20_7 h => ?_) (fun hg20_7 h => ?_)
             ·obtain ⟨v94, hv94, h⟩ := bind_some h
              refine cond_some h (fun hg20_14 h => ?_) (fun hg20_14 h => ?_)
              ·obtain ⟨v95, hv95, h⟩ := bind_some h
               refine cond_some h (fun hg20_19 h => ?_) (fun hg20_19 h => ?_)
               ·obtain ⟨v96, hv96, h⟩ := bind_some h
                refine ht_seqR hn (El := (_ :: _ :: _ :: _ :: (89, .v (.int .i64 v92.2.1)) :: (90, .v (.bool (v92.2.1 == 0))) :: (91, .v (.bool true)) :: (92, .fr (.own 46) false 15 (List.flatten (List.map T_Rec.ienc v92.1))) :: (93, .fr .shr true 15 (List.flatten (List.map T_Rec.ienc k))) :: (94, .v (.bool v93)) :: (95, .v (.bool v93)) :: (96, .v (.bool true)) :: (97, .ptr 7 0) :: (98, .v (.int .i64 v94.1)) :: (7, .box 64 [.v (.int .i64 v94.2.limit), .fr (.own 46) false 15 (List.flatten (List.map T_Rec.ienc v94.2.recs)), .v (.int .i64 v94.2.used), .v (.int .i64 v94.2.safe), .v (.int .i64 v94.2.kept), .v (.int .i64 v94.2.life), .v (.bool v94.2.off), .v (.int .i64 v94.2.trip), .v (.int .i64 v94.2.tripKeep)]) :: (99, .fr .shr true 15 (List.flatten (List.map T_Rec.ienc k))) :: (100, .v (.int .i64 (k.length : Int))) :: (101, .v (.bool ((v94.1 == (k.length : Int))))) :: (102, .v (.bool ((v94.1 == (k.length : Int))))) :: (103, .v (.bool true)) :: (104, .box 64 [.v (.int .i64 v94.2.limit), .fr (.own 46) false 15 (List.flatten (List.map T_Rec.ienc v94.2.recs)), .v (.int .i64 v94.2.used), .v (.int .i64 v94.2.safe), .v (.int .i64 v94.2.kept), .v (.int .i64 v94.2.life), .v (.bool v94.2.off), .v (.int .i64 v94.2.trip), .v (.int .i64 v94.2.tripKeep)]) :: (105, .v (.int .i64 v95.1)) :: (104, .box 64 [.v (.int .i64 v95.2.limit), .fr (.own 46) false 15 (List.flatten (List.map T_Rec.ienc v95.2.recs)), .v (.int .i64 v95.2.used), .v (.int .i64 v95.2.safe), .v (.int .i64 v95.2.kept), .v (.int .i64 v95.2.life), .v (.bool v95.2.off), .v (.int .i64 v95.2.trip), .v (.int .i64 v95.2.tripKeep)]) :: (106, .v (.bool (v95.1 == 0))) :: (107, .v (.bool (v95.1 == 0))) :: (108, .v (.bool true)) :: (109, .v (.bool v96)) :: (110, .v (.bool v96)) :: (6, .v (.bool v96)) :: [])) (init := [0, 1, 2, 3]) (fin := [28]) (sps := (⟨[3], [], [4], [(.slot 89)]⟩ :: ⟨[4], [], [5], [(.slot 90)]⟩ :: ⟨[5], [], [6], [(.slot 91)]⟩ :: ⟨[6], [2], [7], [(.slot 92)]⟩ :: ⟨[6, 0], [], [8], [(.slot 93)]⟩ :: ⟨[6, 7, 8], [], [9], [(.slot 94)]⟩ :: ⟨[6, 9], [], [10], [(.slot 95)]⟩ :: ⟨[10], [], [11], [(.slot 96)]⟩ :: ⟨[11, 1], [], [12], [(.slot 97)]⟩ :: ⟨[11, 12], [1], [14, 13], [(.slot 98), (.cell 7 0), (.cell 7 1), (.cell 7 2), (.cell 7 3), (.cell 7 4), (.cell 7 5), (.cell 7 6), (.cell 7 7), (.cell 7 8)]⟩ :: ⟨[11, 0], [], [15], [(.slot 99)]⟩ :: ⟨[11, 15], [], [16], [(.slot 100)]⟩ :: ⟨[11, 13, 16], [], [17], [(.slot 101)]⟩ :: ⟨[11, 17], [], [18], [(.slot 102)]⟩ :: ⟨[18], [], [19], [(.slot 103)]⟩ :: ⟨[19], [12, 14], [20], [(.slot 104)]⟩ :: ⟨[19], [20], [22, 21], [(.slot 105), (.cell 104 0), (.cell 104 1), (.cell 104 2), (.cell 104 3), (.cell 104 4), (.cell 104 5), (.cell 104 6), (.cell 104 7), (.cell 104 8)]⟩ :: ⟨[19, 21], [], [23], [(.slot 106)]⟩ :: ⟨[19, 23], [], [24], [(.slot 107)]⟩ :: ⟨[24], [], [25], [(.slot 108)]⟩ :: ⟨[25], [], [26], [(.slot 109)]⟩ :: ⟨[25, 26], [], [27], [(.slot 110)]⟩ :: ⟨[27], [], [28], [(.slot 6)]⟩ :: [])) (es' := [(6, .v (.bool v96))]) (by kernel_rfl) rfl rfl
                 ⟨st_plain rfl (op_move _ _ _ _ rfl rfl),
                 st_plain rfl (op_bin _ _ _ _ _ rfl rfl rfl),
                 st_plain rfl (op_move _ _ _ _ (congrArg (fun b => AV.v (Value.bool b)) hg20_2) rfl),
                 st_run 2 91 true rfl rfl rfl (List.Mem.head _) (op_move_take _ _ _ _ rfl),
                 st_run 2 91 true rfl rfl rfl (List.Mem.head _) (op_move _ _ _ _ rfl rfl),
                 st_run 2 91 true rfl rfl rfl (List.Mem.head _) (op_call _ _ 27 _ _ rfl Try.call27 rfl (ok_wherrykeep_Recs v92.1 k _ hv93) rfl rfl),
                 st_plain rfl (op_pick _ _ true _ rfl rfl),
                 st_plain rfl (op_move _ _ _ _ (congrArg (fun b => AV.v (Value.bool b)) hg20_7) rfl),
                 st_run 7 96 true rfl rfl rfl (List.Mem.head _) (op_move _ _ _ _ rfl rfl),
                 st_run 7 96 true rfl rfl rfl (List.Mem.head _) (op_callP _ _ _ _ 98 31 [.tmp 97] [] _ _ _ rfl Try.call31 rfl rfl rfl (ok_diary_Diary_Safe v92.2.2 _ hv94) (Nat.le_of_ble_eq_true rfl) rfl rfl rfl rfl rfl rfl rfl rfl),
                 st_run 7 96 true rfl rfl rfl (List.Mem.head _) (op_move _ _ _ _ rfl rfl),
                 st_run 7 96 true rfl rfl rfl (List.Mem.head _) (op_len_fr _ _ _ Try.underlying31 rfl (by decide) (gflat_len T_Rec.ilen _)),
                 st_run 7 96 true rfl rfl rfl (List.Mem.head _) (op_bin _ _ _ _ _ rfl rfl rfl),
                 st_plain rfl (op_pick _ _ true _ rfl rfl),
                 st_plain rfl (op_move _ _ _ _ (congrArg (fun b => AV.v (Value.bool b)) hg20_14) rfl),
                 st_run 14 103 true rfl rfl rfl (List.Mem.head _) (LOp.drop [_] (op_move_take _ _ _ _ rfl)),
                 st_run 14 103 true rfl rfl rfl (List.Mem.head _) (op_callP _ _ _ _ 105 32 [.tmp 104] [] _ _ _ rfl Try.call32 rfl rfl rfl (ok_diary_Diary_Kept v94.2 _ hv95) (Nat.le_of_ble_eq_true rfl) rfl rfl rfl rfl rfl rfl rfl rfl),
                 st_run 14 103 true rfl rfl rfl (List.Mem.head _) (op_bin _ _ _ _ _ rfl rfl rfl),
                 st_plain rfl (op_pick _ _ true _ rfl rfl),
                 st_plain rfl (op_move _ _ _ _ (congrArg (fun b => AV.v (Value.bool b)) hg20_19) rfl),
                 st_run 19 108 true rfl rfl rfl (List.Mem.head _) (op_call _ _ 12 _ _ rfl Try.call12 rfl (ok_wherrylaw18_wakes  _ hv96) rfl rfl),
                 st_plain rfl (op_pick _ _ true _ rfl rfl),
                 st_plain rfl (op_assign _ _ _ _ rfl rfl),
                 trivial⟩ ?_
                exact hl99 _ (Option.some.inj h).symm
               ·refine ht_seqR hn (El := (_ :: _ :: _ :: _ :: (89, .v (.int .i64 v92.2.1)) :: (90, .v (.bool (v92.2.1 == 0))) :: (91, .v (.bool true)) :: (92, .fr (.own 46) false 15 (List.flatten (List.map T_Rec.ienc v92.1))) :: (93, .fr .shr true 15 (List.flatten (List.map T_Rec.ienc k))) :: (94, .v (.bool v93)) :: (95, .v (.bool v93)) :: (96, .v (.bool true)) :: (97, .ptr 7 0) :: (98, .v (.int .i64 v94.1)) :: (7, .box 64 [.v (.int .i64 v94.2.limit), .fr (.own 46) false 15 (List.flatten (List.map T_Rec.ienc v94.2.recs)), .v (.int .i64 v94.2.used), .v (.int .i64 v94.2.safe), .v (.int .i64 v94.2.kept), .v (.int .i64 v94.2.life), .v (.bool v94.2.off), .v (.int .i64 v94.2.trip), .v (.int .i64 v94.2.tripKeep)]) :: (99, .fr .shr true 15 (List.flatten (List.map T_Rec.ienc k))) :: (100, .v (.int .i64 (k.length : Int))) :: (101, .v (.bool ((v94.1 == (k.length : Int))))) :: (102, .v (.bool ((v94.1 == (k.length : Int))))) :: (103, .v (.bool true)) :: (104, .box 64 [.v (.int .i64 v94.2.limit), .fr (.own 46) false 15 (List.flatten (List.map T_Rec.ienc v94.2.recs)), .v (.int .i64 v94.2.used), .v (.int .i64 v94.2.safe), .v (.int .i64 v94.2.kept), .v (.int .i64 v94.2.life), .v (.bool v94.2.off), .v (.int .i64 v94.2.trip), .v (.int .i64 v94.2.tripKeep)]) :: (105, .v (.int .i64 v95.1)) :: (104, .box 64 [.v (.int .i64 v95.2.limit), .fr (.own 46) false 15 (List.flatten (List.map T_Rec.ienc v95.2.recs)), .v (.int .i64 v95.2.used), .v (.int .i64 v95.2.safe), .v (.int .i64 v95.2.kept), .v (.int .i64 v95.2.life), .v (.bool v95.2.off), .v (.int .i64 v95.2.trip), .v (.int .i64 v95.2.tripKeep)]) :: (106, .v (.bool (v95.1 == 0))) :: (107, .v (.bool (v95.1 == 0))) :: (108, .v (.bool false)) :: (109, .v undef) :: (110, .v (.bool false)) :: (6, .v (.bool false)) :: [])) (init := [0, 1, 2, 3]) (fin := [28]) (sps := (⟨[3], [], [4], [(.slot 89)]⟩ :: ⟨[4], [], [5], [(.slot 90)]⟩ :: ⟨[5], [], [6], [(.slot 91)]⟩ :: ⟨[6], [2], [7], [(.slot 92)]⟩ :: ⟨[6, 0], [], [8], [(.slot 93)]⟩ :: ⟨[6, 7, 8], [], [9], [(.slot 94)]⟩ :: ⟨[6, 9], [], [10], [(.slot 95)]⟩ :: ⟨[10], [], [11], [(.slot 96)]⟩ :: ⟨[11, 1], [], [12], [(.slot 97)]⟩ :: ⟨[11, 12], [1], [14, 13], [(.slot 98), (.cell 7 0), (.cell 7 1), (.cell 7 2), (.cell 7 3), (.cell 7 4), (.cell 7 5), (.cell 7 6), (.cell 7 7), (.cell 7 8)]⟩ :: ⟨[11, 0], [], [15], [(.slot 99)]⟩ :: ⟨[11, 15], [], [16], [(.slot 100)]⟩ :: ⟨[11, 13, 16], [], [17], [(.slot 101)]⟩ :: ⟨[11, 17], [], [18], [(.slot 102)]⟩ :: ⟨[18], [], [19], [(.slot 103)]⟩ :: ⟨[19], [12, 14], [20], [(.slot 104)]⟩ :: ⟨[19], [20], [22, 21], [(.slot 105), (.cell 104 0), (.cell 104 1), (.cell 104 2), (.cell 104 3), (.cell 104 4), (.cell 104 5), (.cell 104 6), (.cell 104 7), (.cell 104 8)]⟩ :: ⟨[19, 21], [], [23], [(.slot 106)]⟩ :: ⟨[19, 23], [], [24], [(.slot 107)]⟩ :: ⟨[24], [], [25], [(.slot 108)]⟩ :: ⟨[25], [], [26], [(.slot 109)]⟩ :: ⟨[25], [], [27], [(.slot 110)]⟩ :: ⟨[27], [], [28], [(.slot 6)]⟩ :: [])) (es' := [(6, .v (.bool false))]) (by kernel_rfl) rfl rfl
                 ⟨st_plain rfl (op_move _ _ _ _ rfl rfl),
                 st_plain rfl (op_bin _ _ _ _ _ rfl rfl rfl),
                 st_plain rfl (op_move _ _ _ _ (congrArg (fun b => AV.v (Value.bool b)) hg20_2) rfl),
                 st_run 2 91 true rfl rfl rfl (List.Mem.head _) (op_move_take _ _ _ _ rfl),
                 st_run 2 91 true rfl rfl rfl (List.Mem.head _) (op_move _ _ _ _ rfl rfl),
                 st_run 2 91 true rfl rfl rfl (List.Mem.head _) (op_call _ _ 27 _ _ rfl Try.call27 rfl (ok_wherrykeep_Recs v92.1 k _ hv93) rfl rfl),
                 st_plain rfl (op_pick _ _ true _ rfl rfl),
                 st_plain rfl (op_move _ _ _ _ (congrArg (fun b => AV.v (Value.bool b)) hg20_7) rfl),
                 st_run 7 96 true rfl rfl rfl (List.Mem.head _) (op_move _ _ _ _ rfl rfl),
                 st_run 7 96 true rfl rfl rfl (List.Mem.head _) (op_callP _ _ _ _ 98 31 [.tmp 97] [] _ _ _ rfl Try.call31 rfl rfl rfl (ok_diary_Diary_Safe v92.2.2 _ hv94) (Nat.le_of_ble_eq_true rfl) rfl rfl rfl rfl rfl rfl rfl rfl),
                 st_run 7 96 true rfl rfl rfl (List.Mem.head _) (op_move _ _ _ _ rfl rfl),
                 st_run 7 96 true rfl rfl rfl (List.Mem.head _) (op_len_fr _ _ _ Try.underlying31 rfl (by decide) (gflat_len T_Rec.ilen _)),
                 st_run 7 96 true rfl rfl rfl (List.Mem.head _) (op_bin _ _ _ _ _ rfl rfl rfl),
                 st_plain rfl (op_pick _ _ true _ rfl rfl),
                 st_plain rfl (op_move _ _ _ _ (congrArg (fun b => AV.v (Value.bool b)) hg20_14) rfl),
                 st_run 14 103 true rfl rfl rfl (List.Mem.head _) (LOp.drop [_] (op_move_take _ _ _ _ rfl)),
                 st_run 14 103 true rfl rfl rfl (List.Mem.head _) (op_callP _ _ _ _ 105 32 [.tmp 104] [] _ _ _ rfl Try.call32 rfl rfl rfl (ok_diary_Diary_Kept v94.2 _ hv95) (Nat.le_of_ble_eq_true rfl) rfl rfl rfl rfl rfl rfl rfl rfl),
                 st_run 14 103 true rfl rfl rfl (List.Mem.head _) (op_bin _ _ _ _ _ rfl rfl rfl),
                 st_plain rfl (op_pick _ _ true _ rfl rfl),
                 st_plain rfl (op_move _ _ _ _ (congrArg (fun b => AV.v (Value.bool b)) hg20_19) rfl),
                 st_skip 19 108 _ true rfl rfl rfl rfl (List.Mem.head _),
                 st_plain rfl (op_pick _ _ false _ rfl rfl),
                 st_plain rfl (op_assign _ _ _ _ rfl rfl),
                 trivial⟩ ?_
                exact hl99 _ (Option.some.inj h).symm
              ·refine ht_seqR hn (El := (_ :: _ :: _ :: _ :: (89, .v (.int .i64 v92.2.1)) :: (90, .v (.bool (v92.2.1 == 0))) :: (91, .v (.bool true)) :: (92, .fr (.own 46) false 15 (List.flatten (List.map T_Rec.ienc v92.1))) :: (93, .fr .shr true 15 (List.flatten (List.map T_Rec.ienc k))) :: (94, .v (.bool v93)) :: (95, .v (.bool v93)) :: (96, .v (.bool true)) :: (97, .ptr 7 0) :: (98, .v (.int .i64 v94.1)) :: (7, .box 64 [.v (.int .i64 v94.2.limit), .fr (.own 46) false 15 (List.flatten (List.map T_Rec.ienc v94.2.recs)), .v (.int .i64 v94.2.used), .v (.int .i64 v94.2.safe), .v (.int .i64 v94.2.kept), .v (.int .i64 v94.2.life), .v (.bool v94.2.off), .v (.int .i64 v94.2.trip), .v (.int .i64 v94.2.tripKeep)]) :: (99, .fr .shr true 15 (List.flatten (List.map T_Rec.ienc k))) :: (100, .v (.int .i64 (k.length : Int))) :: (101, .v (.bool ((v94.1 == (k.length : Int))))) :: (102, .v (.bool ((v94.1 == (k.length : Int))))) :: (103, .v (.bool false)) :: (104, .v undef) :: (105, .v undef) :: (106, .v undef) :: (107, .v (.bool false)) :: (108, .v (.bool false)) :: (109, .v undef) :: (110, .v (.bool false)) :: (6, .v (.bool false)) :: [])) (init := [0, 1, 2, 3]) (fin := [27]) (sps := (⟨[3], [], [4], [(.slot 89)]⟩ :: ⟨[4], [], [5], [(.slot 90)]⟩ :: ⟨[5], [], [6], [(.slot 91)]⟩ :: ⟨[6], [2], [7], [(.slot 92)]⟩ :: ⟨[6, 0], [], [8], [(.slot 93)]⟩ :: ⟨[6, 7, 8], [], [9], [(.slot 94)]⟩ :: ⟨[6, 9], [], [10], [(.slot 95)]⟩ :: ⟨[10], [], [11], [(.slot 96)]⟩ :: ⟨[11, 1], [], [12], [(.slot 97)]⟩ :: ⟨[11, 12], [1], [14, 13], [(.slot 98), (.cell 7 0), (.cell 7 1), (.cell 7 2), (.cell 7 3), (.cell 7 4), (.cell 7 5), (.cell 7 6), (.cell 7 7), (.cell 7 8)]⟩ :: ⟨[11, 0], [], [15], [(.slot 99)]⟩ :: ⟨[11, 15], [], [16], [(.slot 100)]⟩ :: ⟨[11, 13, 16], [], [17], [(.slot 101)]⟩ :: ⟨[11, 17], [], [18], [(.slot 102)]⟩ :: ⟨[18], [], [19], [(.slot 103)]⟩ :: ⟨[19], [], [20], [(.slot 104)]⟩ :: ⟨[19], [], [21], [(.slot 105)]⟩ :: ⟨[19], [], [22], [(.slot 106)]⟩ :: ⟨[19], [], [23], [(.slot 107)]⟩ :: ⟨[23], [], [24], [(.slot 108)]⟩ :: ⟨[24], [], [25], [(.slot 109)]⟩ :: ⟨[24], [], [26], [(.slot 110)]⟩ :: ⟨[26], [], [27], [(.slot 6)]⟩ :: [])) (es' := [(6, .v (.bool false))]) (by kernel_rfl) rfl rfl
                ⟨st_plain rfl (op_move _ _ _ _ rfl rfl),
                st_plain rfl (op_bin _ _ _ _ _ rfl rfl rfl),
                st_plain rfl (op_move _ _ _ _ (congrArg (fun b => AV.v (Value.bool b)) hg20_2) rfl),
                st_run 2 91 true rfl rfl rfl (List.Mem.head _) (op_move_take _ _ _ _ rfl),
                st_run 2 91 true rfl rfl rfl (List.Mem.head _) (op_move _ _ _ _ rfl rfl),
                st_run 2 91 true rfl rfl rfl (List.Mem.head _) (op_call _ _ 27 _ _ rfl Try.call27 rfl (ok_wherrykeep_Recs v92.1 k _ hv93) rfl rfl),
                st_plain rfl (op_pick _ _ true _ rfl rfl),
                st_plain rfl (op_move _ _ _ _ (congrArg (fun b => AV.v (Value.bool b)) hg20_7) rfl),
                st_run 7 96 true rfl rfl rfl (List.Mem.head _) (op_move _ _ _ _ rfl rfl),
                st_run 7 96 true rfl rfl rfl (List.Mem.head _) (op_callP _ _ _ _ 98 31 [.tmp 97] [] _ _ _ rfl Try.call31 rfl rfl rfl (ok_diary_Diary_Safe v92.2.2 _ hv94) (Nat.le_of_ble_eq_true rfl) rfl rfl rfl rfl rfl rfl rfl rfl),
                st_run 7 96 true rfl rfl rfl (List.Mem.head _) (op_move _ _ _ _ rfl rfl),
                st_run 7 96 true rfl rfl rfl (List.Mem.head _) (op_len_fr _ _ _ Try.underlying31 rfl (by decide) (gflat_len T_Rec.ilen _)),
                st_run 7 96 true rfl rfl rfl (List.Mem.head _) (op_bin _ _ _ _ _ rfl rfl rfl),
                st_plain rfl (op_pick _ _ true _ rfl rfl),
                st_plain rfl (op_move _ _ _ _ (congrArg (fun b => AV.v (Value.bool b)) hg20_14) rfl),
                st_skip 14 103 _ true rfl rfl rfl rfl (List.Mem.head _),
                st_skip 14 103 _ true rfl rfl rfl rfl (List.Mem.head _),
                st_skip 14 103 _ true rfl rfl rfl rfl (List.Mem.head _),
                st_plain rfl (op_pick _ _ false _ rfl rfl),
                st_plain rfl (op_move _ _ _ _ rfl rfl),
                st_skip 19 108 _ true rfl rfl rfl rfl (List.Mem.head _),
                st_plain rfl (op_pick _ _ false _ rfl rfl),
                st_plain rfl (op_assign _ _ _ _ rfl rfl),
                trivial⟩ ?_
               exact hl99 _ (Option.some.inj h).symm
             ·refine ht_seqR hn (El := (_ :: _ :: _ :: _ :: (89, .v (.int .i64 v92.2.1)) :: (90, .v (.bool (v92.2.1 == 0))) :: (91, .v (.bool true)) :: (92, .fr (.own 46) false 15 (List.flatten (List.map T_Rec.ienc v92.1))) :: (93, .fr .shr true 15 (List.flatten (List.map T_Rec.ienc k))) :: (94, .v (.bool v93)) :: (95, .v (.bool v93)) :: (96, .v (.bool false)) :: (97, .v undef) :: (98, .v undef) :: (99, .v undef) :: (100, .v undef) :: (101, .v undef) :: (102, .v (.bool false)) :: (103, .v (.bool false)) :: (104, .v undef) :: (105, .v undef) :: (106, .v undef) :: (107, .v (.bool false)) :: (108, .v (.bool false)) :: (109, .v undef) :: (110, .v (.bool false)) :: (6, .v (.bool false)) :: [])) (init := [0, 1, 2, 3]) (fin := [26]) (sps := (⟨[3], [], [4], [(.slot 89)]⟩ :: ⟨[4], [], [5], [(.slot 90)]⟩ :: ⟨[5], [], [6], [(.slot 91)]⟩ :: ⟨[6], [2], [7], [(.slot 92)]⟩ :: ⟨[6, 0], [], [8], [(.slot 93)]⟩ :: ⟨[6, 7, 8], [], [9], [(.slot 94)]⟩ :: ⟨[6, 9], [], [10], [(.slot 95)]⟩ :: ⟨[10], [], [11], [(.slot 96)]⟩ :: ⟨[11], [], [12], [(.slot 97)]⟩ :: ⟨[11], [], [13], [(.slot 98)]⟩ :: ⟨[11], [], [14], [(.slot 99)]⟩ :: ⟨[11], [], [15], [(.slot 100)]⟩ :: ⟨[11], [], [16], [(.slot 101)]⟩ :: ⟨[11], [], [17], [(.slot 102)]⟩ :: ⟨[17], [], [18], [(.slot 103)]⟩ :: ⟨[18], [], [19], [(.slot 104)]⟩ :: ⟨[18], [], [20], [(.slot 105)]⟩ :: ⟨[18], [], [21], [(.slot 106)]⟩ :: ⟨[18], [], [22], [(.slot 107)]⟩ :: ⟨[22], [], [23], [(.slot 108)]⟩ :: ⟨[23], [], [24], [(.slot 109)]⟩ :: ⟨[23], [], [25], [(.slot 110)]⟩ :: ⟨[25], [], [26], [(.slot 6)]⟩ :: [])) (es' := [(6, .v (.bool false))]) (by kernel_rfl) rfl rfl
               ⟨st_plain rfl (op_move _ _ _ _ rfl rfl),
               st_plain rfl (op_bin _ _ _ _ _ rfl rfl rfl),
               st_plain rfl (op_move _ _ _ _ (congrArg (fun b => AV.v (Value.bool b)) hg20_2) rfl),
               st_run 2 91 true rfl rfl rfl (List.Mem.head _) (op_move_take _ _ _ _ rfl),
               st_run 2 91 true rfl rfl rfl (List.Mem.head _) (op_move _ _ _ _ rfl rfl),
               st_run 2 91 true rfl rfl rfl (List.Mem.head _) (op_call _ _ 27 _ _ rfl Try.call27 rfl (ok_wherrykeep_Recs v92.1 k _ hv93) rfl rfl),
               st_plain rfl (op_pick _ _ true _ rfl rfl),
               st_plain rfl (op_move _ _ _ _ (congrArg (fun b => AV.v (Value.bool b)) hg20_7) rfl),
               st_skip 7 96 _ true rfl rfl rfl rfl (List.Mem.head _),
               st_skip 7 96 _ true rfl rfl rfl rfl (List.Mem.head _),
               st_skip 7 96 _ true rfl rfl rfl rfl (List.Mem.head _),
               st_skip 7 96 _ true rfl rfl rfl rfl (List.Mem.head _),
               st_skip 7 96 _ true rfl rfl rfl rfl (List.Mem.head _),
               st_plain rfl (op_pick _ _ false _ rfl rfl),
               st_plain rfl (op_move _ _ _ _ rfl rfl),
               st_skip 14 103 _ true rfl rfl rfl rfl (List.Mem.head _),
               st_skip 14 103 _ true rfl rfl rfl rfl (List.Mem.head _),
               st_skip 14 103 _ true rfl rfl rfl rfl (List.Mem.head _),
               st_plain rfl (op_pick _ _ false _ rfl rfl),
               st_plain rfl (op_move _ _ _ _ rfl rfl),
               st_skip 19 108 _ true rfl rfl rfl rfl (List.Mem.head _),
               st_plain rfl (op_pick _ _ false _ rfl rfl),
               st_plain rfl (op_assign _ _ _ _ rfl rfl),
               trivial⟩ ?_
              exact hl99 _ (Option.some.inj h).symm
            ·refine ht_seqR hn (El := (_ :: _ :: _ :: _ :: (89, .v (.int .i64 v92.2.1)) :: (90, .v (.bool (v92.2.1 == 0))) :: (91, .v (.bool false)) :: (92, .v undef) :: (93, .v undef) :: (94, .v undef) :: (95, .v (.bool false)) :: (96, .v (.bool false)) :: (97, .v undef) :: (98, .v undef) :: (99, .v undef) :: (100, .v undef) :: (101, .v undef) :: (102, .v (.bool false)) :: (103, .v (.bool false)) :: (104, .v undef) :: (105, .v undef) :: (106, .v undef) :: (107, .v (.bool false)) :: (108, .v (.bool false)) :: (109, .v undef) :: (110, .v (.bool false)) :: (6, .v (.bool false)) :: [])) (init := [0, 1, 2, 3]) (fin := [26]) (sps := (⟨[3], [], [4], [(.slot 89)]⟩ :: ⟨[4], [], [5], [(.slot 90)]⟩ :: ⟨[5], [], [6], [(.slot 91)]⟩ :: ⟨[6], [], [7], [(.slot 92)]⟩ :: ⟨[6], [], [8], [(.slot 93)]⟩ :: ⟨[6], [], [9], [(.slot 94)]⟩ :: ⟨[6], [], [10], [(.slot 95)]⟩ :: ⟨[10], [], [11], [(.slot 96)]⟩ :: ⟨[11], [], [12], [(.slot 97)]⟩ :: ⟨[11], [], [13], [(.slot 98)]⟩ :: ⟨[11], [], [14], [(.slot 99)]⟩ :: ⟨[11], [], [15], [(.slot 100)]⟩ :: ⟨[11], [], [16], [(.slot 101)]⟩ :: ⟨[11], [], [17], [(.slot 102)]⟩ :: ⟨[17], [], [18], [(.slot 103)]⟩ :: ⟨[18], [], [19], [(.slot 104)]⟩ :: ⟨[18], [], [20], [(.slot 105)]⟩ :: ⟨[18], [], [21], [(.slot 106)]⟩ :: ⟨[18], [], [22], [(.slot 107)]⟩ :: ⟨[22], [], [23], [(.slot 108)]⟩ :: ⟨[23], [], [24], [(.slot 109)]⟩ :: ⟨[23], [], [25], [(.slot 110)]⟩ :: ⟨[25], [], [26], [(.slot 6)]⟩ :: [])) (es' := [(6, .v (.bool false))]) (by kernel_rfl) rfl rfl
              ⟨st_plain rfl (op_move _ _ _ _ rfl rfl),
              st_plain rfl (op_bin _ _ _ _ _ rfl rfl rfl),
              st_plain rfl (op_move _ _ _ _ (congrArg (fun b => AV.v (Value.bool b)) hg20_2) rfl),
              st_skip 2 91 _ true rfl rfl rfl rfl (List.Mem.head _),
              st_skip 2 91 _ true rfl rfl rfl rfl (List.Mem.head _),
              st_skip 2 91 _ true rfl rfl rfl rfl (List.Mem.head _),
              st_plain rfl (op_pick _ _ false _ rfl rfl),
              st_plain rfl (op_move _ _ _ _ rfl rfl),
              st_skip 7 96 _ true rfl rfl rfl rfl (List.Mem.head _),
              st_skip 7 96 _ true rfl rfl rfl rfl (List.Mem.head _),
              st_skip 7 96 _ true rfl rfl rfl rfl (List.Mem.head _),
              st_skip 7 96 _ true rfl rfl rfl rfl (List.Mem.head _),
              st_skip 7 96 _ true rfl rfl rfl rfl (List.Mem.head _),
              st_plain rfl (op_pick _ _ false _ rfl rfl),
              st_plain rfl (op_move _ _ _ _ rfl rfl),
              st_skip 14 103 _ true rfl rfl rfl rfl (List.Mem.head _),
              st_skip 14 103 _ true rfl rfl rfl rfl (List.Mem.head _),
              st_skip 14 103 _ true rfl rfl rfl rfl (List.Mem.head _),
              st_plain rfl (op_pick _ _ false _ rfl rfl),
              st_plain rfl (op_move _ _ _ _ rfl rfl),
              st_skip 19 108 _ true rfl rfl rfl rfl (List.Mem.head _),
              st_plain rfl (op_pick _ _ false _ rfl rfl),
              st_plain rfl (op_assign _ _ _ _ rfl rfl),
              trivial⟩ ?_
             exact hl99 _ (Option.some.inj h).symm
        ·intro u78 h hl79 hr80
         obtain ⟨v65, hv65, h⟩ := bind_some h
         refine cond_some h (fun hg12_5 h => ?_) (fun hg12_5 h => ?_)
         ·refine ht_seqR hn (El := (_ :: _ :: _ :: _ :: _ :: (45, .ptr 7 0) :: (46, .agg [.v (.int .i64 0), .v (.bool false), .v (.string (⟨#[]⟩ : ByteArray)), .v (.string (⟨#[]⟩ : ByteArray)), .v (.slice none 0 0), .v (.slice none 0 0), .v (.bool false), .v (.string (⟨#[]⟩ : ByteArray)), .v (.int .i64 0), .v (.int .i64 0), .v (.slice none 0 0), .v (.int .i64 0), .v (.int .i64 0), .v (.int .i64 0), .fl (.own 5) 1 (List.map (Value.int .u8) v64)]) :: (47, .fr (.own 46) false 15 (List.flatten (List.map T_Rec.ienc ([(T_Rec.mk 0 ((T_Mail.mk ((T_Path.mk false (⟨#[]⟩ : ByteArray) (⟨#[]⟩ : ByteArray))) [] [] false (⟨#[]⟩ : ByteArray) 0)) 0 [] 0 0 0 v64)])))) :: (48, .v (.int .i64 v65.1)) :: (7, .box 64 [.v (.int .i64 v65.2.limit), .fr (.own 46) false 15 (List.flatten (List.map T_Rec.ienc v65.2.recs)), .v (.int .i64 v65.2.used), .v (.int .i64 v65.2.safe), .v (.int .i64 v65.2.kept), .v (.int .i64 v65.2.life), .v (.bool v65.2.off), .v (.int .i64 v65.2.trip), .v (.int .i64 v65.2.tripKeep)]) :: (49, .v (.bool (v65.1 != 8))) :: (50, .v (.bool true)) :: (51, .v undef) :: (52, .v undef) :: (53, .v undef) :: (54, .v undef) :: (55, .v undef) :: (56, .v (.bool true)) :: (57, .v (.bool true)) :: (58, .v undef) :: (59, .v undef) :: (60, .v undef) :: (61, .v (.bool true)) :: [])) (init := [0, 1, 2, 3, 4]) (fin := [0, 1, 2, 9, 22]) (sps := (⟨[3], [], [5], [(.slot 45)]⟩ :: ⟨[], [4], [6], [(.slot 46)]⟩ :: ⟨[], [6], [7], [(.slot 47)]⟩ :: ⟨[5, 7], [3], [9, 8], [(.slot 48), (.cell 7 0), (.cell 7 1), (.cell 7 2), (.cell 7 3), (.cell 7 4), (.cell 7 5), (.cell 7 6), (.cell 7 7), (.cell 7 8)]⟩ :: ⟨[8], [], [10], [(.slot 49)]⟩ :: ⟨[10], [], [11], [(.slot 50)]⟩ :: ⟨[11], [], [12], [(.slot 51)]⟩ :: ⟨[11], [], [13], [(.slot 52)]⟩ :: ⟨[11], [], [14], [(.slot 53)]⟩ :: ⟨[11], [], [15], [(.slot 54)]⟩ :: ⟨[11], [], [16], [(.slot 55)]⟩ :: ⟨[11], [], [17], [(.slot 56)]⟩ :: ⟨[17], [], [18], [(.slot 57)]⟩ :: ⟨[18], [], [19], [(.slot 58)]⟩ :: ⟨[18], [], [20], [(.slot 59)]⟩ :: ⟨[18], [], [21], [(.slot 60)]⟩ :: ⟨[18], [], [22], [(.slot 61)]⟩ :: [])) (es' := [(_, _), (_, _), (_, _), (7, .box 64 [.v (.int .i64 v65.2.limit), .fr (.own 46) false 15 (List.flatten (List.map T_Rec.ienc v65.2.recs)), .v (.int .i64 v65.2.used), .v (.int .i64 v65.2.safe), .v (.int .i64 v65.2.kept), .v (.int .i64 v65.2.life), .v (.bool v65.2.off), .v (.int .i64 v65.2.trip), .v (.int .i64 v65.2.tripKeep)]), (61, .v (.bool true))]) (by kernel_rfl) rfl rfl
           ⟨st_plain rfl (op_move _ _ _ _ rfl rfl),
           st_plain rfl (op_loadA_take _ _ _ _ Try.underlying46 rfl sz46 rfl rfl),
           st_plain rfl (op_build1_fr_take _ _ _ 15 (.agg #[.int .i64 0, .bool false, .string ByteArray.empty, .string ByteArray.empty, .slice none 0 0, .slice none 0 0, .bool false, .string ByteArray.empty, .int .i64 0, .int .i64 0, .slice none 0 0, .int .i64 0, .int .i64 0, .int .i64 0, .slice none 0 0]) false _ _ Try.underlying31 sz46 zr46 rfl (.cons (.v _) (.cons (.v _) (.cons (.v _) (.cons (.v _) (.cons (.nil 3) (.cons (.nil 1) (.cons (.v _) (.cons (.v _) (.cons (.v _) (.cons (.v _) (.cons (.nil 1) (.cons (.v _) (.cons (.v _) (.cons (.v _) (.cons (.ro _ _ rfl) (.nil)))))))))))))))) rfl (by decide) (by decide)),
           st_plain rfl (op_callP _ _ _ _ 48 19 [.tmp 45] [.tmp 47] _ _ _ rfl Try.call19 rfl rfl rfl (ok_diary_Diary_Renew (T_diary_Diary.mk s47 s48 s49 s50 s51 s52 s53 s54 s55) ([(T_Rec.mk 0 ((T_Mail.mk ((T_Path.mk false (⟨#[]⟩ : ByteArray) (⟨#[]⟩ : ByteArray))) [] [] false (⟨#[]⟩ : ByteArray) 0)) 0 [] 0 0 0 v64)]) _ hv65) (Nat.le_of_ble_eq_true rfl) rfl rfl rfl rfl rfl rfl rfl rfl),
           st_plain rfl (op_bin _ _ _ _ _ rfl rfl rfl),
           st_plain rfl (op_move _ _ _ _ (congrArg (fun b => AV.v (Value.bool b)) hg12_5) rfl),
           st_skip 5 50 _ false rfl rfl rfl rfl (List.Mem.head _),
           st_skip 5 50 _ false rfl rfl rfl rfl (List.Mem.head _),
           st_skip 5 50 _ false rfl rfl rfl rfl (List.Mem.head _),
           st_skip 5 50 _ false rfl rfl rfl rfl (List.Mem.head _),
           st_skip 5 50 _ false rfl rfl rfl rfl (List.Mem.head _),
           st_plain rfl (op_pick _ _ true _ rfl rfl),
           st_plain rfl (op_move _ _ _ _ rfl rfl),
           st_skip 12 57 _ false rfl rfl rfl rfl (List.Mem.head _),
           st_skip 12 57 _ false rfl rfl rfl rfl (List.Mem.head _),
           st_skip 12 57 _ false rfl rfl rfl rfl (List.Mem.head _),
           st_plain rfl (op_pick _ _ true _ rfl rfl),
           trivial⟩ ?_
          exact hl79 _ (Option.some.inj h).symm
         ·obtain ⟨v66, hv66, h⟩ := bind_some h
          refine cond_some h (fun hg12_12 h => ?_) (fun hg12_12 h => ?_)
          ·refine ht_seqR hn (El := (_ :: _ :: _ :: _ :: _ :: (45, .ptr 7 0) :: (46, .agg [.v (.int .i64 0), .v (.bool false), .v (.string (⟨#[]⟩ : ByteArray)), .v (.string (⟨#[]⟩ : ByteArray)), .v (.slice none 0 0), .v (.slice none 0 0), .v (.bool false), .v (.string (⟨#[]⟩ : ByteArray)), .v (.int .i64 0), .v (.int .i64 0), .v (.slice none 0 0), .v (.int .i64 0), .v (.int .i64 0), .v (.int .i64 0), .fl (.own 5) 1 (List.map (Value.int .u8) v64)]) :: (47, .fr (.own 46) false 15 (List.flatten (List.map T_Rec.ienc ([(T_Rec.mk 0 ((T_Mail.mk ((T_Path.mk false (⟨#[]⟩ : ByteArray) (⟨#[]⟩ : ByteArray))) [] [] false (⟨#[]⟩ : ByteArray) 0)) 0 [] 0 0 0 v64)])))) :: (48, .v (.int .i64 v65.1)) :: (7, .box 64 [.v (.int .i64 v65.2.limit), .fr (.own 46) false 15 (List.flatten (List.map T_Rec.ienc v65.2.recs)), .v (.int .i64 v65.2.used), .v (.int .i64 v65.2.safe), .v (.int .i64 v65.2.kept), .v (.int .i64 v65.2.life), .v (.bool v65.2.off), .v (.int .i64 v65.2.trip), .v (.int .i64 v65.2.tripKeep)]) :: (49, .v (.bool (v65.1 != 8))) :: (50, .v (.bool false)) :: (51, .ptr 7 0) :: (52, .v (.int .i64 v66.1)) :: (7, .box 64 [.v (.int .i64 v66.2.limit), .fr (.own 46) false 15 (List.flatten (List.map T_Rec.ienc v66.2.recs)), .v (.int .i64 v66.2.used), .v (.int .i64 v66.2.safe), .v (.int .i64 v66.2.kept), .v (.int .i64 v66.2.life), .v (.bool v66.2.off), .v (.int .i64 v66.2.trip), .v (.int .i64 v66.2.tripKeep)]) :: (53, .fr .shr true 15 (List.flatten (List.map T_Rec.ienc l))) :: (54, .v (.int .i64 (l.length : Int))) :: (55, .v (.bool ((v66.1 != (l.length : Int))))) :: (56, .v (.bool ((v66.1 != (l.length : Int))))) :: (57, .v (.bool true)) :: (58, .v undef) :: (59, .v undef) :: (60, .v undef) :: (61, .v (.bool true)) :: [])) (init := [0, 1, 2, 3, 4]) (fin := [0, 1, 2, 14, 23]) (sps := (⟨[3], [], [5], [(.slot 45)]⟩ :: ⟨[], [4], [6], [(.slot 46)]⟩ :: ⟨[], [6], [7], [(.slot 47)]⟩ :: ⟨[5, 7], [3], [9, 8], [(.slot 48), (.cell 7 0), (.cell 7 1), (.cell 7 2), (.cell 7 3), (.cell 7 4), (.cell 7 5), (.cell 7 6), (.cell 7 7), (.cell 7 8)]⟩ :: ⟨[8], [], [10], [(.slot 49)]⟩ :: ⟨[10], [], [11], [(.slot 50)]⟩ :: ⟨[11, 9], [], [12], [(.slot 51)]⟩ :: ⟨[11, 12], [9], [14, 13], [(.slot 52), (.cell 7 0), (.cell 7 1), (.cell 7 2), (.cell 7 3), (.cell 7 4), (.cell 7 5), (.cell 7 6), (.cell 7 7), (.cell 7 8)]⟩ :: ⟨[11, 0], [], [15], [(.slot 53)]⟩ :: ⟨[11, 15], [], [16], [(.slot 54)]⟩ :: ⟨[11, 13, 16], [], [17], [(.slot 55)]⟩ :: ⟨[11, 17], [], [18], [(.slot 56)]⟩ :: ⟨[18], [], [19], [(.slot 57)]⟩ :: ⟨[19], [], [20], [(.slot 58)]⟩ :: ⟨[19], [], [21], [(.slot 59)]⟩ :: ⟨[19], [], [22], [(.slot 60)]⟩ :: ⟨[19], [], [23], [(.slot 61)]⟩ :: [])) (es' := [(_, _), (_, _), (_, _), (7, .box 64 [.v (.int .i64 v66.2.limit), .fr (.own 46) false 15 (List.flatten (List.map T_Rec.ienc v66.2.recs)), .v (.int .i64 v66.2.used), .v (.int .i64 v66.2.safe), .v (.int .i64 v66.2.kept), .v (.int .i64 v66.2.life), .v (.bool v66.2.off), .v (.int .i64 v66.2.trip), .v (.int .i64 v66.2.tripKeep)]), (61, .v (.bool true))]) (by kernel_rfl) rfl rfl
            ⟨st_plain rfl (op_move _ _ _ _ rfl rfl),
            st_plain rfl (op_loadA_take _ _ _ _ Try.underlying46 rfl sz46 rfl rfl),
            st_plain rfl (op_build1_fr_take _ _ _ 15 (.agg #[.int .i64 0, .bool false, .string ByteArray.empty, .string ByteArray.empty, .slice none 0 0, .slice none 0 0, .bool false, .string ByteArray.empty, .int .i64 0, .int .i64 0, .slice none 0 0, .int .i64 0, .int .i64 0, .int .i64 0, .slice none 0 0]) false _ _ Try.underlying31 sz46 zr46 rfl (.cons (.v _) (.cons (.v _) (.cons (.v _) (.cons (.v _) (.cons (.nil 3) (.cons (.nil 1) (.cons (.v _) (.cons (.v _) (.cons (.v _) (.cons (.v _) (.cons (.nil 1) (.cons (.v _) (.cons (.v _) (.cons (.v _) (.cons (.ro _ _ rfl) (.nil)))))))))))))))) rfl (by decide) (by decide)),
            st_plain rfl (op_callP _ _ _ _ 48 19 [.tmp 45] [.tmp 47] _ _ _ rfl Try.call19 rfl rfl rfl (ok_diary_Diary_Renew (T_diary_Diary.mk s47 s48 s49 s50 s51 s52 s53 s54 s55) ([(T_Rec.mk 0 ((T_Mail.mk ((T_Path.mk false (⟨#[]⟩ : ByteArray) (⟨#[]⟩ : ByteArray))) [] [] false (⟨#[]⟩ : ByteArray) 0)) 0 [] 0 0 0 v64)]) _ hv65) (Nat.le_of_ble_eq_true rfl) rfl rfl rfl rfl rfl rfl rfl rfl),
            st_plain rfl (op_bin _ _ _ _ _ rfl rfl rfl),
            st_plain rfl (op_move _ _ _ _ (congrArg (fun b => AV.v (Value.bool b)) hg12_5) rfl),
            st_run 5 50 false rfl rfl rfl (List.Mem.head _) (op_move _ _ _ _ rfl rfl),
            st_run 5 50 false rfl rfl rfl (List.Mem.head _) (op_callP _ _ _ _ 52 34 [.tmp 51] [] _ _ _ rfl Try.call34 rfl rfl rfl (ok_diary_Diary_Len v65.2 _ hv66) (Nat.le_of_ble_eq_true rfl) rfl rfl rfl rfl rfl rfl rfl rfl),
            st_run 5 50 false rfl rfl rfl (List.Mem.head _) (op_move _ _ _ _ rfl rfl),
            st_run 5 50 false rfl rfl rfl (List.Mem.head _) (op_len_fr _ _ _ Try.underlying31 rfl (by decide) (gflat_len T_Rec.ilen _)),
            st_run 5 50 false rfl rfl rfl (List.Mem.head _) (op_bin _ _ _ _ _ rfl rfl rfl),
            st_plain rfl (op_pick _ _ false _ rfl rfl),
            st_plain rfl (op_move _ _ _ _ (congrArg (fun b => AV.v (Value.bool b)) hg12_12) rfl),
            st_skip 12 57 _ false rfl rfl rfl rfl (List.Mem.head _),
            st_skip 12 57 _ false rfl rfl rfl rfl (List.Mem.head _),
            st_skip 12 57 _ false rfl rfl rfl rfl (List.Mem.head _),
            st_plain rfl (op_pick _ _ true _ rfl rfl),
            trivial⟩ ?_
           exact hl79 _ (Option.some.inj h).symm
          ·obtain ⟨v67, hv67, h⟩ := bind_some h
           refine ht_seqR hn (El := (_ :: _ :: _ :: _ :: _ :: (45, .ptr 7 0) :: (46, .agg [.v (.int .i64 0), .v (.bool false), .v (.string (⟨#[]⟩ : ByteArray)), .v (.string (⟨#[]⟩ : ByteArray)), .v (.slice none 0 0), .v (.slice none 0 0), .v (.bool false), .v (.string (⟨#[]⟩ : ByteArray)), .v (.int .i64 0), .v (.int .i64 0), .v (.slice none 0 0), .v (.int .i64 0), .v (.int .i64 0), .v (.int .i64 0), .fl (.own 5) 1 (List.map (Value.int .u8) v64)]) :: (47, .fr (.own 46) false 15 (List.flatten (List.map T_Rec.ienc ([(T_Rec.mk 0 ((T_Mail.mk ((T_Path.mk false (⟨#[]⟩ : ByteArray) (⟨#[]⟩ : ByteArray))) [] [] false (⟨#[]⟩ : ByteArray) 0)) 0 [] 0 0 0 v64)])))) :: (48, .v (.int .i64 v65.1)) :: (7, .box 64 [.v (.int .i64 v65.2.limit), .fr (.own 46) false 15 (List.flatten (List.map T_Rec.ienc v65.2.recs)), .v (.int .i64 v65.2.used), .v (.int .i64 v65.2.safe), .v (.int .i64 v65.2.kept), .v (.int .i64 v65.2.life), .v (.bool v65.2.off), .v (.int .i64 v65.2.trip), .v (.int .i64 v65.2.tripKeep)]) :: (49, .v (.bool (v65.1 != 8))) :: (50, .v (.bool false)) :: (51, .ptr 7 0) :: (52, .v (.int .i64 v66.1)) :: (7, .box 64 [.v (.int .i64 v66.2.limit), .fr (.own 46) false 15 (List.flatten (List.map T_Rec.ienc v66.2.recs)), .v (.int .i64 v66.2.used), .v (.int .i64 v66.2.safe), .v (.int .i64 v66.2.kept), .v (.int .i64 v66.2.life), .v (.bool v66.2.off), .v (.int .i64 v66.2.trip), .v (.int .i64 v66.2.tripKeep)]) :: (53, .fr .shr true 15 (List.flatten (List.map T_Rec.ienc l))) :: (54, .v (.int .i64 (l.length : Int))) :: (55, .v (.bool ((v66.1 != (l.length : Int))))) :: (56, .v (.bool ((v66.1 != (l.length : Int))))) :: (57, .v (.bool false)) :: (58, .ptr 7 0) :: (59, .v (.int .i64 v67.1)) :: (7, .box 64 [.v (.int .i64 v67.2.limit), .fr (.own 46) false 15 (List.flatten (List.map T_Rec.ienc v67.2.recs)), .v (.int .i64 v67.2.used), .v (.int .i64 v67.2.safe), .v (.int .i64 v67.2.kept), .v (.int .i64 v67.2.life), .v (.bool v67.2.off), .v (.int .i64 v67.2.trip), .v (.int .i64 v67.2.tripKeep)]) :: (60, .v (.bool (v67.1 != 0))) :: (61, .v (.bool (v67.1 != 0))) :: [])) (init := [0, 1, 2, 3, 4]) (fin := [0, 1, 2, 22, 24]) (sps := (⟨[3], [], [5], [(.slot 45)]⟩ :: ⟨[], [4], [6], [(.slot 46)]⟩ :: ⟨[], [6], [7], [(.slot 47)]⟩ :: ⟨[5, 7], [3], [9, 8], [(.slot 48), (.cell 7 0), (.cell 7 1), (.cell 7 2), (.cell 7 3), (.cell 7 4), (.cell 7 5), (.cell 7 6), (.cell 7 7), (.cell 7 8)]⟩ :: ⟨[8], [], [10], [(.slot 49)]⟩ :: ⟨[10], [], [11], [(.slot 50)]⟩ :: ⟨[11, 9], [], [12], [(.slot 51)]⟩ :: ⟨[11, 12], [9], [14, 13], [(.slot 52), (.cell 7 0), (.cell 7 1), (.cell 7 2), (.cell 7 3), (.cell 7 4), (.cell 7 5), (.cell 7 6), (.cell 7 7), (.cell 7 8)]⟩ :: ⟨[11, 0], [], [15], [(.slot 53)]⟩ :: ⟨[11, 15], [], [16], [(.slot 54)]⟩ :: ⟨[11, 13, 16], [], [17], [(.slot 55)]⟩ :: ⟨[11, 17], [], [18], [(.slot 56)]⟩ :: ⟨[18], [], [19], [(.slot 57)]⟩ :: ⟨[19, 14], [], [20], [(.slot 58)]⟩ :: ⟨[19, 20], [14], [22, 21], [(.slot 59), (.cell 7 0), (.cell 7 1), (.cell 7 2), (.cell 7 3), (.cell 7 4), (.cell 7 5), (.cell 7 6), (.cell 7 7), (.cell 7 8)]⟩ :: ⟨[19, 21], [], [23], [(.slot 60)]⟩ :: ⟨[19, 23], [], [24], [(.slot 61)]⟩ :: [])) (es' := [(_, _), (_, _), (_, _), (7, .box 64 [.v (.int .i64 v67.2.limit), .fr (.own 46) false 15 (List.flatten (List.map T_Rec.ienc v67.2.recs)), .v (.int .i64 v67.2.used), .v (.int .i64 v67.2.safe), .v (.int .i64 v67.2.kept), .v (.int .i64 v67.2.life), .v (.bool v67.2.off), .v (.int .i64 v67.2.trip), .v (.int .i64 v67.2.tripKeep)]), (61, .v (.bool (v67.1 != 0)))]) (by kernel_rfl) rfl rfl
            ⟨st_plain rfl (op_move _ _ _ _ rfl rfl),
            st_plain rfl (op_loadA_take _ _ _ _ Try.underlying46 rfl sz46 rfl rfl),
            st_plain rfl (op_build1_fr_take _ _ _ 15 (.agg #[.int .i64 0, .bool false, .string ByteArray.empty, .string ByteArray.empty, .slice none 0 0, .slice none 0 0, .bool false, .string ByteArray.empty, .int .i64 0, .int .i64 0, .slice none 0 0, .int .i64 0, .int .i64 0, .int .i64 0, .slice none 0 0]) false _ _ Try.underlying31 sz46 zr46 rfl (.cons (.v _) (.cons (.v _) (.cons (.v _) (.cons (.v _) (.cons (.nil 3) (.cons (.nil 1) (.cons (.v _) (.cons (.v _) (.cons (.v _) (.cons (.v _) (.cons (.nil 1) (.cons (.v _) (.cons (.v _) (.cons (.v _) (.cons (.ro _ _ rfl) (.nil)))))))))))))))) rfl (by decide) (by decide)),
            st_plain rfl (op_callP _ _ _ _ 48 19 [.tmp 45] [.tmp 47] _ _ _ rfl Try.call19 rfl rfl rfl (ok_diary_Diary_Renew (T_diary_Diary.mk s47 s48 s49 s50 s51 s52 s53 s54 s55) ([(T_Rec.mk 0 ((T_Mail.mk ((T_Path.mk false (⟨#[]⟩ : ByteArray) (⟨#[]⟩ : ByteArray))) [] [] false (⟨#[]⟩ : ByteArray) 0)) 0 [] 0 0 0 v64)]) _ hv65) (Nat.le_of_ble_eq_true rfl) rfl rfl rfl rfl rfl rfl rfl rfl),
            st_plain rfl (op_bin _ _ _ _ _ rfl rfl rfl),
            st_plain rfl (op_move _ _ _ _ (congrArg (fun b => AV.v (Value.bool b)) hg12_5) rfl),
            st_run 5 50 false rfl rfl rfl (List.Mem.head _) (op_move _ _ _ _ rfl rfl),
            st_run 5 50 false rfl rfl rfl (List.Mem.head _) (op_callP _ _ _ _ 52 34 [.tmp 51] [] _ _ _ rfl Try.call34 rfl rfl rfl (ok_diary_Diary_Len v65.2 _ hv66) (Nat.le_of_ble_eq_true rfl) rfl rfl rfl rfl rfl rfl rfl rfl),
            st_run 5 50 false rfl rfl rfl (List.Mem.head _) (op_move _ _ _ _ rfl rfl),
            st_run 5 50 false rfl rfl rfl (List.Mem.head _) (op_len_fr _ _ _ Try.underlying31 rfl (by decide) (gflat_len T_Rec.ilen _)),
            st_run 5 50 false rfl rfl rfl (List.Mem.head _) (op_bin _ _ _ _ _ rfl rfl rfl),
            st_plain rfl (op_pick _ _ false _ rfl rfl),
            st_plain rfl (op_move _ _ _ _ (congrArg (fun b => AV.v (Value.bool b)) hg12_12) rfl),
            st_run 12 57 false rfl rfl rfl (List.Mem.head _) (op_move _ _ _ _ rfl rfl),
            st_run 12 57 false rfl rfl rfl (List.Mem.head _) (op_callP _ _ _ _ 59 31 [.tmp 58] [] _ _ _ rfl Try.call31 rfl rfl rfl (ok_diary_Diary_Safe v66.2 _ hv67) (Nat.le_of_ble_eq_true rfl) rfl rfl rfl rfl rfl rfl rfl rfl),
            st_run 12 57 false rfl rfl rfl (List.Mem.head _) (op_bin _ _ _ _ _ rfl rfl rfl),
            st_plain rfl (op_pick _ _ false _ rfl rfl),
            trivial⟩ ?_
           exact hl79 _ (Option.some.inj h).symm
       ·rintro u56 hl57 hr58 ⟨s35, s36, s37, s38, s39, s40, s41, s42, s43, s44⟩ rr61 h ho59
        refine ht_seq ?_
        refine ht_seq ?_
        refine ht_seqR hn (El := [_, _, _, _, _, (29, .v (.int .i64 s44)), (30, .fr .shr true 15 (List.flatten (List.map T_Rec.ienc l))), (31, .v (.int .i64 (l.length : Int))), (32, .v (.bool ((decide (s44 < (l.length : Int))))))]) (init := [0, 1, 2, 3, 4]) (fin := [0, 1, 2, 3, 4, 8]) (sps := [⟨[4], [], [5], [(.slot 29)]⟩, ⟨[0], [], [6], [(.slot 30)]⟩, ⟨[6], [], [7], [(.slot 31)]⟩, ⟨[5, 7], [], [8], [(.slot 32)]⟩]) (es' := [(_, _), (_, _), (_, _), (_, _), (_, _), (32, .v (.bool ((decide (s44 < (l.length : Int))))))]) (by kernel_rfl) rfl rfl
         ⟨st_plain rfl (op_move _ _ _ _ rfl rfl),
         st_plain rfl (op_move _ _ _ _ rfl rfl),
         st_plain rfl (op_len_fr _ _ _ Try.underlying31 rfl (by decide) (gflat_len T_Rec.ilen _)),
         st_plain rfl (op_bin _ _ _ _ _ rfl rfl rfl),
         trivial⟩ ?_
        refine pt_then ?_
        refine ht_cond _ rfl (fun hb62 => ?_) (fun hb62 => ?_)
        ·have h := cond_t hb62 h
         refine ht_skip ?_
         refine pt_then ?_
         refine ht_seq ?_
         refine ht_block ?_
         refine ht_seq ?_
         obtain ⟨v17, hv17, h⟩ := bind_some h
         obtain ⟨v18, hv18, h⟩ := bind_some h
         obtain ⟨v19, hv19, h⟩ := bind_some h
         refine ht_seqR hn (El := [_, _, _, _, _, _, (35, .ptr 7 0), (36, .fr .shr true 15 (List.flatten (List.map T_Rec.ienc l))), (37, .v (.int .i64 s44)), (38, .eref (.slot 36) (v17 * 15)), (39, .agg [.v (.int .i64 v18.Kind), .v (.bool v18.Mail.From.Null), .v (.string v18.Mail.From.Local), .v (.string v18.Mail.From.Domain), .fl .shr 3 (List.flatten (List.map T_Path.enc v18.Mail.To)), .fl .shr 1 (List.map (Value.int .u8) v18.Mail.Body), .v (.bool v18.Mail.Quiet), .v (.string v18.Mail.Helo), .v (.int .i64 v18.Mail.At), .v (.int .i64 v18.Id), .fl .shr 1 (List.map (Value.int .i64) v18.Ids), .v (.int .i64 v18.Origin), .v (.int .i64 v18.Number), .v (.int .i64 v18.Offset), .fl .shr 1 (List.map (Value.int .u8) v18.Data)]), (40, .v (.int .i64 v19.1)), (7, .box 64 [.v (.int .i64 v19.2.limit), .fr (.own 46) false 15 (List.flatten (List.map T_Rec.ienc v19.2.recs)), .v (.int .i64 v19.2.used), .v (.int .i64 v19.2.safe), .v (.int .i64 v19.2.kept), .v (.int .i64 v19.2.life), .v (.bool v19.2.off), .v (.int .i64 v19.2.trip), .v (.int .i64 v19.2.tripKeep)]), (41, .v (.bool (v19.1 != 0)))]) (init := [0, 1, 2, 3, 4, 5]) (fin := [0, 1, 2, 12, 4, 13]) (sps := [⟨[3], [], [6], [(.slot 35)]⟩, ⟨[0], [], [7], [(.slot 36)]⟩, ⟨[4], [], [8], [(.slot 37)]⟩, ⟨[7, 8], [], [9], [(.slot 38)]⟩, ⟨[9, 7], [], [10], [(.slot 39)]⟩, ⟨[6, 10], [3], [12, 11], [(.slot 40), (.cell 7 0), (.cell 7 1), (.cell 7 2), (.cell 7 3), (.cell 7 4), (.cell 7 5), (.cell 7 6), (.cell 7 7), (.cell 7 8)]⟩, ⟨[11], [], [13], [(.slot 41)]⟩]) (es' := [(_, _), (_, _), (_, _), (7, .box 64 [.v (.int .i64 v19.2.limit), .fr (.own 46) false 15 (List.flatten (List.map T_Rec.ienc v19.2.recs)), .v (.int .i64 v19.2.used), .v (.int .i64 v19.2.safe), .v (.int .i64 v19.2.kept), .v (.int .i64 v19.2.life), .v (.bool v19.2.off), .v (.int .i64 v19.2.trip), .v (.int .i64 v19.2.tripKeep)]), (_, _), (41, .v (.bool (v19.1 != 0)))]) (by kernel_rfl) rfl rfl
          ⟨st_plain rfl (op_move _ _ _ _ rfl rfl),
          st_plain rfl (op_move _ _ _ _ rfl rfl),
          st_plain rfl (op_move _ _ _ _ rfl rfl),
          st_plain rfl (op_ix_fr _ _ _ _ _ _ _ _ Try.underlying31 sz46 (by decide) rfl rfl rfl (ix_ok hv17).1 (gflat_lt T_Rec.ilen (ix_ok hv17).2) rfl),
          st_plain rfl (op_loadA_fr _ _ _ _ _ _ _ _ Try.underlying46 rfl sz46 rfl rfl (gflat_get T_Rec.ilen hv18) (.cons (.v _) (.cons (.v _) (.cons (.v _) (.cons (.v _) (.cons (.fl _ _ rfl) (.cons (.fl _ _ rfl) (.cons (.v _) (.cons (.v _) (.cons (.v _) (.cons (.v _) (.cons (.fl _ _ rfl) (.cons (.v _) (.cons (.v _) (.cons (.v _) (.cons (.fl _ _ rfl) (.nil)))))))))))))))) rfl (by decide)),
          st_plain rfl (op_callP _ _ _ _ 40 15 [.tmp 35] [.tmp 39] _ _ _ rfl Try.call15 rfl rfl rfl (ok_diary_Diary_Put (T_diary_Diary.mk s35 s36 s37 s38 s39 s40 s41 s42 s43) ((T_Rec.mk v18.Kind ((T_Mail.mk (T_Path.mk v18.Mail.From.Null v18.Mail.From.Local v18.Mail.From.Domain) v18.Mail.To v18.Mail.Body v18.Mail.Quiet v18.Mail.Helo v18.Mail.At)) v18.Id v18.Ids v18.Origin v18.Number v18.Offset v18.Data)) _ hv19) (Nat.le_of_ble_eq_true rfl) rfl rfl rfl rfl rfl rfl rfl rfl),
          st_plain rfl (op_bin _ _ _ _ _ rfl rfl rfl),
          trivial⟩ ?_
         refine pt_then ?_
         refine ht_cond _ rfl (fun hb63 => ?_) (fun hb63 => ?_)
         ·have h := cond_t hb63 h
          refine ht_seq ?_
          obtain ⟨v21, hv21, h⟩ := bind_some h
          refine ht_seqR hn (El := [_, _, _, _, _, _, (42, .v (.bool v21)), (6, .v (.bool v21))]) (init := [0, 1, 2, 3, 4, 5]) (fin := [7]) (sps := [⟨[], [], [6], [(.slot 42)]⟩, ⟨[6], [], [7], [(.slot 6)]⟩]) (es' := [(6, .v (.bool v21))]) (by kernel_rfl) rfl rfl
           ⟨st_plain rfl (op_call _ _ 12 _ _ rfl Try.call12 rfl (ok_wherrylaw18_wakes  _ hv21) rfl rfl),
           st_plain rfl (op_assign _ _ _ _ rfl rfl),
           trivial⟩ ?_
          refine pt_then ?_
          refine ht_ret ?_
          refine pt_r_in ?_
          refine pt_r_then ?_
          refine pt_r_then ?_
          refine pt_r_in ?_
          refine pt_r_then ?_
          have h := hr58 _ (ho59 _ (Option.some.inj h).symm).symm
          obtain rfl := Option.some.inj h
          exact pt_ret hio rfl (.tmp _ _ .nil) rfl rfl
         ·have h := cond_f hb63 h
          refine ht_skip ?_
          refine pt_inb ?_
          refine pt_then ?_
          obtain ⟨v22, hv22, h⟩ := bind_some h
          refine ht_seqR hn (El := [_, _, _, _, _, _, (33, .v (.int .i64 s44)), (34, .v (.int .i64 v22)), (9, .v (.int .i64 v22))]) (init := [0, 1, 2, 3, 4, 5]) (fin := [0, 1, 2, 3, 8]) (sps := [⟨[4], [], [6], [(.slot 33)]⟩, ⟨[6], [], [7], [(.slot 34)]⟩, ⟨[7], [4], [8], [(.slot 9)]⟩]) (es' := [(_, _), (_, _), (_, _), (_, _), (9, .v (.int .i64 v22))]) (by kernel_rfl) rfl rfl
           ⟨st_plain rfl (op_move _ _ _ _ rfl rfl),
           st_plain rfl (op_bin _ _ _ _ _ rfl rfl (ibind (f := Value.int .i64) (Option.some.inj hv22))),
           st_plain rfl (LOp.drop [_] (op_assign _ _ _ _ rfl rfl)),
           trivial⟩ ?_
          exact pt_next _ (Option.some.inj h).symm rfl
        ·have h := cond_f hb62 h
         refine ht_exit ?_
         refine pt_x_then ?_
         refine pt_x_then ?_
         refine pt_x_in ?_
         refine pt_pick [0, 1, 2, 3] (by kernel_rfl) (es' := [(_, _), (_, _), (_, _), (_, _)]) rfl ?_
         exact hl57 _ (ho59 _ (Option.some.inj h).symm).symm
     ·intro u12 h hl13 hr14
      refine cond_some h (fun hg4_2 h => ?_) (fun hg4_2 h => ?_)
      ·refine ht_seqR hn (El := [_, _, _, _, _, (23, .v (.int .i64 v8.2)), (24, .v (.bool (v8.2 != 0))), (25, .v (.bool true)), (26, .v undef), (27, .v undef), (28, .v (.bool true))]) (init := [0, 1, 2, 3, 4]) (fin := [0, 1, 2, 3, 10]) (sps := [⟨[4], [], [5], [(.slot 23)]⟩, ⟨[5], [], [6], [(.slot 24)]⟩, ⟨[6], [], [7], [(.slot 25)]⟩, ⟨[7], [], [8], [(.slot 26)]⟩, ⟨[7], [], [9], [(.slot 27)]⟩, ⟨[7], [], [10], [(.slot 28)]⟩]) (es' := [(_, _), (_, _), (_, _), (_, _), (28, .v (.bool true))]) (by kernel_rfl) rfl rfl
        ⟨st_plain rfl (op_move _ _ _ _ rfl rfl),
        st_plain rfl (op_bin _ _ _ _ _ rfl rfl rfl),
        st_plain rfl (op_move _ _ _ _ (congrArg (fun b => AV.v (Value.bool b)) hg4_2) rfl),
        st_skip 2 25 _ false rfl rfl rfl rfl (List.Mem.head _),
        st_skip 2 25 _ false rfl rfl rfl rfl (List.Mem.head _),
        st_plain rfl (op_pick _ _ true _ rfl rfl),
        trivial⟩ ?_
       exact hl13 _ (Option.some.inj h).symm
      ·refine ht_seqR hn (El := [_, _, _, _, _, (23, .v (.int .i64 v8.2)), (24, .v (.bool (v8.2 != 0))), (25, .v (.bool false)), (26, .ptr 7 0), (27, .v (.bool false)), (28, .v (.bool false))]) (init := [0, 1, 2, 3, 4]) (fin := [0, 1, 2, 3, 10]) (sps := [⟨[4], [], [5], [(.slot 23)]⟩, ⟨[5], [], [6], [(.slot 24)]⟩, ⟨[6], [], [7], [(.slot 25)]⟩, ⟨[7, 3], [], [8], [(.slot 26)]⟩, ⟨[7, 8, 3], [], [9], [(.slot 27)]⟩, ⟨[7, 9], [], [10], [(.slot 28)]⟩]) (es' := [(_, _), (_, _), (_, _), (_, _), (28, .v (.bool false))]) (by kernel_rfl) rfl rfl
        ⟨st_plain rfl (op_move _ _ _ _ rfl rfl),
        st_plain rfl (op_bin _ _ _ _ _ rfl rfl rfl),
        st_plain rfl (op_move _ _ _ _ (congrArg (fun b => AV.v (Value.bool b)) hg4_2) rfl),
        st_run 2 25 false rfl rfl rfl (List.Mem.head _) (op_move _ _ _ _ rfl rfl),
        st_run 2 25 false rfl rfl rfl (List.Mem.head _) (op_pnil _ _ false (by kernel_rfl) rfl rfl),
        st_plain rfl (op_pick _ _ false _ rfl rfl),
        trivial⟩ ?_
       exact hl13 _ (Option.some.inj h).symm
    ·refine pt_then ?_
     refine ht_seq ?_
     refine ht_seq ?_
     refine ht_joinS h (fun (() : Unit) => [(0, .fr .shr true 15 (List.flatten (List.map T_Rec.ienc l))), (1, .fr .shr true 15 (List.flatten (List.map T_Rec.ienc k))), (2, .v (.int .i64 keep)), (7, .v (.pointer none)), (28, .v (.bool true))]) ?_ ?_
     ·rintro ⟨⟩ h
      refine pt_then ?_
      refine ht_cond true rfl (fun _ => ?_) (fun hb => by cases hb)
      refine ht_seq ?_
      refine ht_seqR hn (El := [_, _, _, _, _, (6, .v (.bool false))]) (init := [0, 1, 2, 3, 4]) (fin := [5]) (sps := [⟨[], [], [5], [(.slot 6)]⟩]) (es' := [(6, .v (.bool false))]) (by kernel_rfl) rfl rfl
       ⟨st_plain rfl (op_assign _ _ _ _ rfl rfl),
       trivial⟩ ?_
      refine pt_then ?_
      refine ht_ret ?_
      refine pt_r_then ?_
      obtain rfl := Option.some.inj h
      exact pt_ret hio rfl (.tmp _ _ .nil) rfl rfl
     ·intro u101 h hl102 hr103
      refine cond_some h (fun hg4_2 h => ?_) (fun hg4_2 h => ?_)
      ·refine ht_seqR hn (El := [_, _, _, _, _, (23, .v (.int .i64 v8.2)), (24, .v (.bool (v8.2 != 0))), (25, .v (.bool true)), (26, .v undef), (27, .v undef), (28, .v (.bool true))]) (init := [0, 1, 2, 3, 4]) (fin := [0, 1, 2, 3, 10]) (sps := [⟨[4], [], [5], [(.slot 23)]⟩, ⟨[5], [], [6], [(.slot 24)]⟩, ⟨[6], [], [7], [(.slot 25)]⟩, ⟨[7], [], [8], [(.slot 26)]⟩, ⟨[7], [], [9], [(.slot 27)]⟩, ⟨[7], [], [10], [(.slot 28)]⟩]) (es' := [(_, _), (_, _), (_, _), (_, _), (28, .v (.bool true))]) (by kernel_rfl) rfl rfl
        ⟨st_plain rfl (op_move _ _ _ _ rfl rfl),
        st_plain rfl (op_bin _ _ _ _ _ rfl rfl rfl),
        st_plain rfl (op_move _ _ _ _ (congrArg (fun b => AV.v (Value.bool b)) hg4_2) rfl),
        st_skip 2 25 _ false rfl rfl rfl rfl (List.Mem.head _),
        st_skip 2 25 _ false rfl rfl rfl rfl (List.Mem.head _),
        st_plain rfl (op_pick _ _ true _ rfl rfl),
        trivial⟩ ?_
       exact hl102 _ (Option.some.inj h).symm
      ·refine ht_seqR hn (El := [_, _, _, _, _, (23, .v (.int .i64 v8.2)), (24, .v (.bool (v8.2 != 0))), (25, .v (.bool false)), (26, .v (.pointer none)), (27, .v (.bool true)), (28, .v (.bool true))]) (init := [0, 1, 2, 3, 4]) (fin := [0, 1, 2, 3, 10]) (sps := [⟨[4], [], [5], [(.slot 23)]⟩, ⟨[5], [], [6], [(.slot 24)]⟩, ⟨[6], [], [7], [(.slot 25)]⟩, ⟨[7, 3], [], [8], [(.slot 26)]⟩, ⟨[7, 8], [], [9], [(.slot 27)]⟩, ⟨[7, 9], [], [10], [(.slot 28)]⟩]) (es' := [(_, _), (_, _), (_, _), (_, _), (28, .v (.bool true))]) (by kernel_rfl) rfl rfl
        ⟨st_plain rfl (op_move _ _ _ _ rfl rfl),
        st_plain rfl (op_bin _ _ _ _ _ rfl rfl rfl),
        st_plain rfl (op_move _ _ _ _ (congrArg (fun b => AV.v (Value.bool b)) hg4_2) rfl),
        st_run 2 25 false rfl rfl rfl (List.Mem.head _) (op_move _ _ _ _ rfl rfl),
        st_run 2 25 false rfl rfl rfl (List.Mem.head _) (op_nilnil _ _ false (by kernel_rfl) rfl rfl),
        st_plain rfl (op_pick _ _ false _ rfl rfl),
        trivial⟩ ?_
       exact hl102 _ (Option.some.inj h).symm
  ·intro u4 h hl5 hr6
   obtain ⟨v1, hv1, h⟩ := bind_some h
   refine cond_some h (fun hg1_2 h => ?_) (fun hg1_2 h => ?_)
   ·refine ht_seqR hn (El := [_, _, _, (13, .fr .shr true 15 (List.flatten (List.map T_Rec.ienc l))), (14, .v (.bool v1)), (15, .v (.bool true)), (16, .v undef), (17, .v undef), (18, .v (.bool true))]) (init := [0, 1, 2]) (fin := [0, 1, 2, 8]) (sps := [⟨[0], [], [3], [(.slot 13)]⟩, ⟨[3], [], [4], [(.slot 14)]⟩, ⟨[4], [], [5], [(.slot 15)]⟩, ⟨[5], [], [6], [(.slot 16)]⟩, ⟨[5], [], [7], [(.slot 17)]⟩, ⟨[5], [], [8], [(.slot 18)]⟩]) (es' := [(_, _), (_, _), (_, _), (18, .v (.bool true))]) (by kernel_rfl) rfl rfl
     ⟨st_plain rfl (op_move _ _ _ _ rfl rfl),
     st_plain rfl (op_call _ _ 13 _ _ rfl Try.call13 rfl (ok_wherrylaw18_Heavy l _ hv1) rfl rfl),
     st_plain rfl (op_move _ _ _ _ (congrArg (fun b => AV.v (Value.bool b)) hg1_2) rfl),
     st_skip 2 15 _ false rfl rfl rfl rfl (List.Mem.head _),
     st_skip 2 15 _ false rfl rfl rfl rfl (List.Mem.head _),
     st_plain rfl (op_pick _ _ true _ rfl rfl),
     trivial⟩ ?_
    exact hl5 _ (Option.some.inj h).symm
   ·obtain ⟨v2, hv2, h⟩ := bind_some h
    refine ht_seqR hn (El := [_, _, _, (13, .fr .shr true 15 (List.flatten (List.map T_Rec.ienc l))), (14, .v (.bool v1)), (15, .v (.bool false)), (16, .fr .shr true 15 (List.flatten (List.map T_Rec.ienc k))), (17, .v (.bool v2)), (18, .v (.bool v2))]) (init := [0, 1, 2]) (fin := [0, 1, 2, 8]) (sps := [⟨[0], [], [3], [(.slot 13)]⟩, ⟨[3], [], [4], [(.slot 14)]⟩, ⟨[4], [], [5], [(.slot 15)]⟩, ⟨[5, 1], [], [6], [(.slot 16)]⟩, ⟨[5, 6], [], [7], [(.slot 17)]⟩, ⟨[5, 7], [], [8], [(.slot 18)]⟩]) (es' := [(_, _), (_, _), (_, _), (18, .v (.bool v2))]) (by kernel_rfl) rfl rfl
     ⟨st_plain rfl (op_move _ _ _ _ rfl rfl),
     st_plain rfl (op_call _ _ 13 _ _ rfl Try.call13 rfl (ok_wherrylaw18_Heavy l _ hv1) rfl rfl),
     st_plain rfl (op_move _ _ _ _ (congrArg (fun b => AV.v (Value.bool b)) hg1_2) rfl),
     st_run 2 15 false rfl rfl rfl (List.Mem.head _) (op_move _ _ _ _ rfl rfl),
     st_run 2 15 false rfl rfl rfl (List.Mem.head _) (op_call _ _ 13 _ _ rfl Try.call13 rfl (ok_wherrylaw18_Heavy k _ hv2) rfl rfl),
     st_plain rfl (op_pick _ _ false _ rfl rfl),
     trivial⟩ ?_
    exact hl5 _ (Option.some.inj h).symm

end Go.Proofs.Ytbioodcjmceefaa
