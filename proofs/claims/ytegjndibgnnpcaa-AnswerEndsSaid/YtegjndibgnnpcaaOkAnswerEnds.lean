/-
  The model's runs are what is told in Lean.
-/
import Derived.Test.YtegjndibgnnpcaaProg
import Derived.KernelRfl
import Derived.Test.YtegjndibgnnpcaaShelf
import Derived.Test.YtegjndibgnnpcaaOkc2
set_option linter.unusedVariables false
set_option linter.unusedSimpArgs false
namespace Go.Proofs.Ytegjndibgnnpcaa
open Go.Abs Go.Abs.Sh

set_option maxHeartbeats 1000000 in
theorem ok_wherrylaw13_AnswerEnds (mx : Int) (code : Int) (lines : Int) (long : Int) (r : Bool) (h : Sh.wherrylaw13_AnswerEnds code lines long = some r) : FnG Try.prog (GL mx) 6 [.v (.int .i64 code), .v (.int .i64 lines), .v (.int .i64 long)] (.v (.bool r)) := by
  unfold Sh.wherrylaw13_AnswerEnds at h
  refine fn_okG Try.func6 rfl (Nat.le_of_ble_eq_true rfl) rfl rfl fun g0 hn hio => ?_
  refine ht_seq ?_
  refine ht_seqR hn (El := [_, _, _, _, (6, .v (.bool false))]) (init := [0, 1, 2, 3]) (fin := [0, 1, 2, 3]) (sps := [⟨[], [], [4], [(.slot 6)]⟩]) (es' := [(_, _), (_, _), (_, _), (_, _)]) (by kernel_rfl) rfl rfl
   ⟨st_plain rfl (op_assign _ _ _ _ rfl rfl),
   trivial⟩ ?_
  refine pt_then ?_
  refine ht_seq ?_
  obtain ⟨v1, hv1, h⟩ := bind_some h
  obtain ⟨v2, hv2, h⟩ := bind_some h
  obtain ⟨v3, hv3, h⟩ := bind_some h
  obtain ⟨v4, hv4, h⟩ := bind_some h
  obtain ⟨v5, hv5, h⟩ := bind_some h
  obtain ⟨v6, hv6, h⟩ := bind_some h
  obtain ⟨v7, hv7, h⟩ := bind_some h
  refine ht_seqR hn (El := (_ :: _ :: _ :: _ :: (13, .v (.int .i64 lines)) :: (14, .v (.int .u64 v1)) :: (15, .v (.int .u64 v2)) :: (16, .v (.int .i64 v3)) :: (17, .v (.int .i64 long)) :: (18, .v (.int .u64 v4)) :: (19, .v (.int .u64 v5)) :: (20, .v (.int .i64 v6)) :: (21, .v (.int .i64 v7)) :: (1, .v (.int .i64 v3)) :: (2, .v (.int .i64 v7)) :: [])) (init := [0, 1, 2, 3]) (fin := [0, 3, 13, 14]) (sps := [⟨[1], [], [4], [(.slot 13)]⟩, ⟨[4], [], [5], [(.slot 14)]⟩, ⟨[5], [], [6], [(.slot 15)]⟩, ⟨[6], [], [7], [(.slot 16)]⟩, ⟨[2], [], [8], [(.slot 17)]⟩, ⟨[8], [], [9], [(.slot 18)]⟩, ⟨[9], [], [10], [(.slot 19)]⟩, ⟨[10], [], [11], [(.slot 20)]⟩, ⟨[11], [], [12], [(.slot 21)]⟩, ⟨[7], [1], [13], [(.slot 1)]⟩, ⟨[12], [2], [14], [(.slot 2)]⟩]) (es' := [(_, _), (_, _), (1, .v (.int .i64 v3)), (2, .v (.int .i64 v7))]) (by kernel_rfl) rfl rfl
   ⟨st_plain rfl (op_move _ _ _ _ rfl rfl),
   st_plain rfl ((Option.some.inj hv1) ▸ op_conv _ _ _ Try.underlying3 Try.underlying43 rfl),
   st_plain rfl (op_bin _ _ _ _ _ rfl rfl (rem_ok hv2)),
   st_plain rfl ((Option.some.inj hv3) ▸ op_conv _ _ _ Try.underlying43 Try.underlying3 rfl),
   st_plain rfl (op_move _ _ _ _ rfl rfl),
   st_plain rfl ((Option.some.inj hv4) ▸ op_conv _ _ _ Try.underlying3 Try.underlying43 rfl),
   st_plain rfl (op_bin _ _ _ _ _ rfl rfl (rem_ok hv5)),
   st_plain rfl ((Option.some.inj hv6) ▸ op_conv _ _ _ Try.underlying43 Try.underlying3 rfl),
   st_plain rfl (op_bin _ _ _ _ _ rfl rfl (ibind (f := Value.int .i64) (Option.some.inj hv7))),
   st_plain rfl (LOp.drop [_] (op_assign _ _ _ _ rfl rfl)),
   st_plain rfl (LOp.drop [_] (op_assign _ _ _ _ rfl rfl)),
   trivial⟩ ?_
  refine pt_then ?_
  refine ht_seq ?_
  refine ht_seqR hn (El := [_, _, _, _, (7, .v (.string (⟨#[]⟩ : ByteArray)))]) (init := [0, 1, 2, 3]) (fin := [0, 1, 2, 3, 4]) (sps := [⟨[], [], [4], [(.slot 7)]⟩]) (es' := [(_, _), (_, _), (_, _), (_, _), (7, .v (.string (⟨#[]⟩ : ByteArray)))]) (by kernel_rfl) rfl rfl
   ⟨st_plain rfl (op_assign _ _ _ _ rfl rfl),
   trivial⟩ ?_
  refine pt_then ?_
  refine ht_seq ?_
  refine ht_loopS h (fun (s12 : ByteArray) => [(0, .v (.int .i64 code)), (100, .glob (GL mx)), (1, .v (.int .i64 v3)), (2, .v (.int .i64 v7)), (7, .v (.string s12))]) (fun (s14 : ByteArray) => [(0, .v (.int .i64 code)), (100, .glob (GL mx)), (1, .v (.int .i64 v3)), (2, .v (.int .i64 v7)), (7, .v (.string s14))]) ?_ ?_
  ·rintro s14 h
   refine pt_then ?_
   refine ht_seq ?_
   refine ht_seqR hn (El := [_, _, _, _, _, (28, .v (.int .i64 code)), (29, .agg [.v (.int .i64 code), .v (.slice none 0 0)]), (8, .box 24 [.v (.int .i64 0), .v (.slice none 0 0)]), (8, .box 24 [.v (.int .i64 code), .v (.slice none 0 0)])]) (init := [0, 1, 2, 3, 4]) (fin := [0, 1, 2, 3, 4, 8]) (sps := [⟨[0], [], [5], [(.slot 28)]⟩, ⟨[5], [], [6], [(.slot 29)]⟩, ⟨[], [], [7], [(.slot 8)]⟩, ⟨[6], [7], [8], [.cell 8 0, .cell 8 1]⟩]) (es' := [(_, _), (_, _), (_, _), (_, _), (_, _), (8, .box 24 [.v (.int .i64 code), .v (.slice none 0 0)])]) (by kernel_rfl) rfl rfl
    ⟨st_plain rfl (op_move _ _ _ _ rfl rfl),
    st_plain rfl (op_build _ _ _ _ [1, 1] _ _ Try.underlying24 zr24 (fs24 _ Try.underlying24) (.copy _ Src.nil) rfl rfl rfl),
    st_plain rfl (op_alloc _ _ zr24),
    st_plain rfl (op_store _ _ _ _ _ _ _ _ sz24 rfl rfl rfl rfl (Nat.le_of_ble_eq_true rfl) rfl rfl),
    trivial⟩ ?_
   refine pt_then ?_
   refine ht_seq ?_
   refine ht_seq ?_
   refine ht_seqR hn (El := [_, _, _, _, _, _, (9, .v (.int .i64 0))]) (init := [0, 1, 2, 3, 4, 5]) (fin := [0, 1, 2, 3, 4, 5, 6]) (sps := [⟨[], [], [6], [(.slot 9)]⟩]) (es' := [(_, _), (_, _), (_, _), (_, _), (_, _), (_, _), (9, .v (.int .i64 0))]) (by kernel_rfl) rfl rfl
    ⟨st_plain rfl (op_assign _ _ _ _ rfl rfl),
    trivial⟩ ?_
   refine pt_then ?_
   refine ht_sub (fs := [(0, .v (.int .i64 code)), (100, .glob (GL mx)), (1, .v (.int .i64 v3)), (2, .v (.int .i64 v7)), (7, .v (.string s14)), (8, .box 24 [.v (.int .i64 code), .fl (.own 9) 1 (List.map Value.string [])]), (9, .v (.int .i64 0))]) (.same _ (.same _ (.same _ (.same _ (.same _ (.box _ _ (subs_cons (sub_refl _) (subs_cons (sub_nil 9 1) (subs_nil))) rfl (.same _ .nil))))))) ?_
   refine ht_loopS h (fun ((s28, s29) : (List ByteArray) × Int) => [(0, .v (.int .i64 code)), (100, .glob (GL mx)), (1, .v (.int .i64 v3)), (2, .v (.int .i64 v7)), (7, .v (.string s14)), (8, .box 24 [.v (.int .i64 code), .fl (.own 9) 1 (List.map Value.string s28)]), (9, .v (.int .i64 s29))]) (fun (s31 : (List ByteArray)) => [(0, .v (.int .i64 code)), (100, .glob (GL mx)), (1, .v (.int .i64 v3)), (2, .v (.int .i64 v7)), (8, .box 24 [.v (.int .i64 code), .fl (.own 9) 1 (List.map Value.string s31)])]) ?_ ?_
   ·rintro s31 h
    refine pt_then ?_
    refine ht_seq ?_
    refine ht_seqR hn (El := [_, _, _, _, _, (10, .v (.int .i64 5))]) (init := [0, 1, 2, 3, 4]) (fin := [0, 1, 2, 3, 4, 5]) (sps := [⟨[], [], [5], [(.slot 10)]⟩]) (es' := [(_, _), (_, _), (_, _), (_, _), (_, _), (10, .v (.int .i64 5))]) (by kernel_rfl) rfl rfl
     ⟨st_plain rfl (op_assign _ _ _ _ rfl rfl),
     trivial⟩ ?_
    refine pt_then ?_
    refine ht_seq ?_
    refine ht_joinS h (fun (s46 : Int) => [(100, .glob (GL mx)), (1, .v (.int .i64 v3)), (2, .v (.int .i64 v7)), (8, .box 24 [.v (.int .i64 code), .fl (.own 9) 1 (List.map Value.string s31)]), (10, .v (.int .i64 s46))]) ?_ ?_
    ·rintro s46 h
     refine pt_then ?_
     refine ht_seq ?_
     obtain ⟨v55, hv55, h⟩ := bind_some h
     refine ht_seqR hn (El := [_, _, _, _, _, (66, .agg [.v (.int .i64 code), .same (.cell 8 1)]), (67, .tup [.fl (.own 5) 1 (List.map (Value.int .u8) v55.1), .v (.int .i64 v55.2)]), (65, .tup [.fl (.own 5) 1 (List.map (Value.int .u8) v55.1), .v (.int .i64 v55.2)]), (68, .fl (.own 5) 1 (List.map (Value.int .u8) v55.1)), (65, .tup [.any, .v (.int .i64 v55.2)]), (69, .v (.int .i64 v55.2)), (11, .fl (.own 5) 1 (List.map (Value.int .u8) v55.1)), (12, .v (.int .i64 v55.2))]) (init := [0, 1, 2, 3, 4]) (fin := [0, 1, 2, 3, 4, 11, 12]) (sps := [⟨[3], [], [5], [(.slot 66)]⟩, ⟨[5, 3], [], [6], [(.slot 67)]⟩, ⟨[], [6], [7], [(.slot 65)]⟩, ⟨[], [7], [9, 8], [(.slot 68)]⟩, ⟨[9], [], [10], [(.slot 69)]⟩, ⟨[], [8], [11], [(.slot 11)]⟩, ⟨[10], [], [12], [(.slot 12)]⟩]) (es' := [(_, _), (_, _), (_, _), (_, _), (_, _), (11, .fl (.own 5) 1 (List.map (Value.int .u8) v55.1)), (12, .v (.int .i64 v55.2))]) (by kernel_rfl) rfl rfl
      ⟨st_plain rfl (op_loadA _ _ _ _ _ _ _ Try.underlying24 rfl sz24 rfl rfl (Nat.le_of_ble_eq_true rfl) rfl rfl),
      st_plain rfl (op_call _ _ 10 _ _ rfl Try.call10 rfl (ok_answer_Bytes (T_Reply.mk code s31) _ hv55) rfl rfl),
      st_plain rfl (op_move_take _ _ _ _ rfl),
      st_plain rfl (op_extract_take _ _ _ _ _ rfl (Nat.le_of_ble_eq_true rfl) rfl rfl (by decide) rfl),
      st_plain rfl (op_extract _ _ _ _ _ rfl rfl (Nat.le_of_ble_eq_true rfl) rfl rfl),
      st_plain rfl (op_assign_take _ _ _ _ rfl),
      st_plain rfl (op_assign _ _ _ _ rfl rfl),
      trivial⟩ ?_
     refine pt_then ?_
     refine ht_seq ?_
     refine ht_seq ?_
     refine ht_joinS h (fun (s57 : Bool) => [(100, .glob (GL mx)), (1, .v (.int .i64 v3)), (2, .v (.int .i64 v7)), (10, .v (.int .i64 s46)), (11, .fl (.own 5) 1 (List.map (Value.int .u8) v55.1)), (87, .v (.bool s57))]) ?_ ?_
     ·rintro s57 h
      refine pt_then ?_
      refine ht_cond _ rfl (fun hb61 => ?_) (fun hb61 => ?_)
      ·have h := cond_t hb61 h
       refine ht_seq ?_
       refine ht_seqR hn (El := [_, _, _, _, _, _, (6, .v (.bool false))]) (init := [0, 1, 2, 3, 4, 5]) (fin := [0, 6]) (sps := [⟨[], [], [6], [(.slot 6)]⟩]) (es' := [(_, _), (6, .v (.bool false))]) (by kernel_rfl) rfl rfl
        ⟨st_plain rfl (op_assign _ _ _ _ rfl rfl),
        trivial⟩ ?_
       refine pt_then ?_
       refine ht_ret ?_
       refine pt_pick [1] (by kernel_rfl) (es' := [(_, _)]) rfl ?_
       refine pt_r_then ?_
       obtain rfl := Option.some.inj h
       exact pt_ret hio rfl (.tmp _ _ .nil) rfl rfl
      ·have h := cond_f hb61 h
       refine ht_skip ?_
       refine pt_then ?_
       refine ht_seq ?_
       refine ht_seq ?_
       refine ht_joinS h (fun (s64 : Bool) => [(100, .glob (GL mx)), (98, .v (.bool s64))]) ?_ ?_
       ·rintro s64 h
        refine pt_then ?_
        refine ht_cond _ rfl (fun hb68 => ?_) (fun hb68 => ?_)
        ·have h := cond_t hb68 h
         refine ht_seq ?_
         refine ht_seqR hn (El := [_, _, (6, .v (.bool false))]) (init := [0, 1]) (fin := [0, 2]) (sps := [⟨[], [], [2], [(.slot 6)]⟩]) (es' := [(_, _), (6, .v (.bool false))]) (by kernel_rfl) rfl rfl
          ⟨st_plain rfl (op_assign _ _ _ _ rfl rfl),
          trivial⟩ ?_
         refine pt_then ?_
         refine ht_ret ?_
         refine pt_pick [1] (by kernel_rfl) (es' := [(_, _)]) rfl ?_
         refine pt_r_then ?_
         obtain rfl := Option.some.inj h
         exact pt_ret hio rfl (.tmp _ _ .nil) rfl rfl
        ·have h := cond_f hb68 h
         refine ht_skip ?_
         refine pt_then ?_
         refine ht_seq ?_
         obtain ⟨v69, hv69, h⟩ := bind_some h
         refine ht_seqR hn (El := [_, _, (99, .v (.bool v69)), (6, .v (.bool v69))]) (init := [0, 1]) (fin := [0, 3]) (sps := [⟨[0], [], [2], [(.slot 99)]⟩, ⟨[2], [], [3], [(.slot 6)]⟩]) (es' := [(_, _), (6, .v (.bool v69))]) (by kernel_rfl) rfl rfl
          ⟨st_plain rfl (op_callG _ _ 100 19 _ _ rfl Try.call19 rfl rfl (fun _ h => h) (ok_wherrylaw13_wakes mx  _ hv69) rfl rfl),
          st_plain rfl (op_assign _ _ _ _ rfl rfl),
          trivial⟩ ?_
         refine pt_then ?_
         refine ht_ret ?_
         refine pt_pick [1] (by kernel_rfl) (es' := [(_, _)]) rfl ?_
         obtain rfl := Option.some.inj h
         exact pt_ret hio rfl (.tmp _ _ .nil) rfl rfl
       ·intro u65 h hl66 hr67
        refine cond_some h (fun hg16_2 h => ?_) (fun hg16_2 h => ?_)
        ·obtain ⟨v62, hv62, h⟩ := bind_some h
         obtain ⟨v63, hv63, h⟩ := bind_some h
         refine ht_seqR hn (El := (_ :: _ :: _ :: _ :: _ :: _ :: (88, .v (.int .i64 s46)) :: (89, .v (.bool (s46 == 0))) :: (90, .v (.bool true)) :: (91, .fl (.own 5) 1 (List.map (Value.int .u8) v55.1)) :: (92, .v (.int .i64 (v55.1.length : Int))) :: (93, .v (.int .i64 v3)) :: (94, .v (.int .i64 v7)) :: (95, .v (.int .i64 v62)) :: (96, .v (.int .i64 v63)) :: (97, .v (.bool (((v55.1.length : Int) != v63)))) :: (98, .v (.bool (((v55.1.length : Int) != v63)))) :: [])) (init := [0, 1, 2, 3, 4, 5]) (fin := [0, 16]) (sps := [⟨[3], [], [6], [(.slot 88)]⟩, ⟨[6], [], [7], [(.slot 89)]⟩, ⟨[7], [], [8], [(.slot 90)]⟩, ⟨[8], [4], [9], [(.slot 91)]⟩, ⟨[8, 9], [], [10], [(.slot 92)]⟩, ⟨[8, 1], [], [11], [(.slot 93)]⟩, ⟨[8, 2], [], [12], [(.slot 94)]⟩, ⟨[8, 12], [], [13], [(.slot 95)]⟩, ⟨[8, 11, 13], [], [14], [(.slot 96)]⟩, ⟨[8, 10, 14], [], [15], [(.slot 97)]⟩, ⟨[8, 15], [], [16], [(.slot 98)]⟩]) (es' := [(_, _), (98, .v (.bool (((v55.1.length : Int) != v63))))]) (by kernel_rfl) rfl rfl
          ⟨st_plain rfl (op_move _ _ _ _ rfl rfl),
          st_plain rfl (op_bin _ _ _ _ _ rfl rfl rfl),
          st_plain rfl (op_move _ _ _ _ (congrArg (fun b => AV.v (Value.bool b)) hg16_2) rfl),
          st_run 2 90 true rfl rfl rfl (List.Mem.head _) (op_move_take _ _ _ _ rfl),
          st_run 2 90 true rfl rfl rfl (List.Mem.head _) (op_len_fl _ _ _ Try.underlying25 rfl (by decide) (map_len _)),
          st_run 2 90 true rfl rfl rfl (List.Mem.head _) (op_move _ _ _ _ rfl rfl),
          st_run 2 90 true rfl rfl rfl (List.Mem.head _) (op_move _ _ _ _ rfl rfl),
          st_run 2 90 true rfl rfl rfl (List.Mem.head _) (op_bin _ _ _ _ _ rfl rfl (ibind (f := Value.int .i64) (Option.some.inj hv62))),
          st_run 2 90 true rfl rfl rfl (List.Mem.head _) (op_bin _ _ _ _ _ rfl rfl (ibind (f := Value.int .i64) (Option.some.inj hv63))),
          st_run 2 90 true rfl rfl rfl (List.Mem.head _) (op_bin _ _ _ _ _ rfl rfl rfl),
          st_plain rfl (op_pick _ _ true _ rfl rfl),
          trivial⟩ ?_
         exact hl66 _ (Option.some.inj h).symm
        ·refine ht_seqR hn (El := (_ :: _ :: _ :: _ :: _ :: _ :: (88, .v (.int .i64 s46)) :: (89, .v (.bool (s46 == 0))) :: (90, .v (.bool false)) :: (91, .v undef) :: (92, .v undef) :: (93, .v undef) :: (94, .v undef) :: (95, .v undef) :: (96, .v undef) :: (97, .v undef) :: (98, .v (.bool false)) :: [])) (init := [0, 1, 2, 3, 4, 5]) (fin := [0, 16]) (sps := [⟨[3], [], [6], [(.slot 88)]⟩, ⟨[6], [], [7], [(.slot 89)]⟩, ⟨[7], [], [8], [(.slot 90)]⟩, ⟨[8], [], [9], [(.slot 91)]⟩, ⟨[8], [], [10], [(.slot 92)]⟩, ⟨[8], [], [11], [(.slot 93)]⟩, ⟨[8], [], [12], [(.slot 94)]⟩, ⟨[8], [], [13], [(.slot 95)]⟩, ⟨[8], [], [14], [(.slot 96)]⟩, ⟨[8], [], [15], [(.slot 97)]⟩, ⟨[8], [], [16], [(.slot 98)]⟩]) (es' := [(_, _), (98, .v (.bool false))]) (by kernel_rfl) rfl rfl
          ⟨st_plain rfl (op_move _ _ _ _ rfl rfl),
          st_plain rfl (op_bin _ _ _ _ _ rfl rfl rfl),
          st_plain rfl (op_move _ _ _ _ (congrArg (fun b => AV.v (Value.bool b)) hg16_2) rfl),
          st_skip 2 90 _ true rfl rfl rfl rfl (List.Mem.head _),
          st_skip 2 90 _ true rfl rfl rfl rfl (List.Mem.head _),
          st_skip 2 90 _ true rfl rfl rfl rfl (List.Mem.head _),
          st_skip 2 90 _ true rfl rfl rfl rfl (List.Mem.head _),
          st_skip 2 90 _ true rfl rfl rfl rfl (List.Mem.head _),
          st_skip 2 90 _ true rfl rfl rfl rfl (List.Mem.head _),
          st_skip 2 90 _ true rfl rfl rfl rfl (List.Mem.head _),
          st_plain rfl (op_pick _ _ false _ rfl rfl),
          trivial⟩ ?_
         exact hl66 _ (Option.some.inj h).symm
     ·intro u58 h hl59 hr60
      obtain ⟨v56, hv56, h⟩ := bind_some h
      refine cond_some h (fun hg14_4 h => ?_) (fun hg14_4 h => ?_)
      ·refine ht_seqR hn (El := (_ :: _ :: _ :: _ :: _ :: _ :: _ :: (70, .agg [.v (.int .i64 code), .fl (.own 9) 1 (List.map Value.string s31)]) :: (71, .v (.int .i64 v56)) :: (72, .v (.int .i64 s46)) :: (73, .v (.bool (v56 != s46))) :: (74, .v (.bool true)) :: (75, .v undef) :: (76, .v undef) :: (77, .v undef) :: (78, .v (.bool true)) :: (79, .v (.bool true)) :: (80, .v undef) :: (81, .v undef) :: (82, .v undef) :: (83, .v undef) :: (84, .v undef) :: (85, .v undef) :: (86, .v undef) :: (87, .v (.bool true)) :: [])) (init := [0, 1, 2, 3, 4, 5, 6]) (fin := [0, 1, 2, 4, 5, 24]) (sps := (⟨[], [3], [7], [(.slot 70)]⟩ :: ⟨[7], [], [8], [(.slot 71)]⟩ :: ⟨[4], [], [9], [(.slot 72)]⟩ :: ⟨[8, 9], [], [10], [(.slot 73)]⟩ :: ⟨[10], [], [11], [(.slot 74)]⟩ :: ⟨[11], [], [12], [(.slot 75)]⟩ :: ⟨[11], [], [13], [(.slot 76)]⟩ :: ⟨[11], [], [14], [(.slot 77)]⟩ :: ⟨[11], [], [15], [(.slot 78)]⟩ :: ⟨[15], [], [16], [(.slot 79)]⟩ :: ⟨[16], [], [17], [(.slot 80)]⟩ :: ⟨[16], [], [18], [(.slot 81)]⟩ :: ⟨[16], [], [19], [(.slot 82)]⟩ :: ⟨[19], [], [20], [(.slot 83)]⟩ :: ⟨[19], [], [21], [(.slot 84)]⟩ :: ⟨[19], [], [22], [(.slot 85)]⟩ :: ⟨[16], [], [23], [(.slot 86)]⟩ :: ⟨[16], [], [24], [(.slot 87)]⟩ :: [])) (es' := [(_, _), (_, _), (_, _), (_, _), (_, _), (87, .v (.bool true))]) (by kernel_rfl) rfl rfl
        ⟨st_plain rfl (op_loadA_take _ _ _ _ Try.underlying24 rfl sz24 rfl rfl),
        st_plain rfl (op_call _ _ 14 _ _ rfl Try.call14 rfl (ok_answer_Check (T_Reply.mk code s31) _ hv56) rfl rfl),
        st_plain rfl (op_move _ _ _ _ rfl rfl),
        st_plain rfl (op_bin _ _ _ _ _ rfl rfl rfl),
        st_plain rfl (op_move _ _ _ _ (congrArg (fun b => AV.v (Value.bool b)) hg14_4) rfl),
        st_skip 4 74 _ false rfl rfl rfl rfl (List.Mem.head _),
        st_skip 4 74 _ false rfl rfl rfl rfl (List.Mem.head _),
        st_skip 4 74 _ false rfl rfl rfl rfl (List.Mem.head _),
        st_plain rfl (op_pick _ _ true _ rfl rfl),
        st_plain rfl (op_move _ _ _ _ rfl rfl),
        st_skip 9 79 _ false rfl rfl rfl rfl (List.Mem.head _),
        st_skip 9 79 _ false rfl rfl rfl rfl (List.Mem.head _),
        st_skip 9 79 _ false rfl rfl rfl rfl (List.Mem.head _),
        st_skipU 12 82 _ true rfl rfl rfl rfl (List.Mem.head _),
        st_skipU 12 82 _ true rfl rfl rfl rfl (List.Mem.head _),
        st_skipU 12 82 _ true rfl rfl rfl rfl (List.Mem.head _),
        st_skip 9 79 _ false rfl rfl rfl rfl (List.Mem.head _),
        st_plain rfl (op_pick _ _ true _ rfl rfl),
        trivial⟩ ?_
       exact hl59 _ (Option.some.inj h).symm
      ·refine cond_some h (fun hg14_9 h => ?_) (fun hg14_9 h => ?_)
       ·refine ht_seqR hn (El := (_ :: _ :: _ :: _ :: _ :: _ :: _ :: (70, .agg [.v (.int .i64 code), .fl (.own 9) 1 (List.map Value.string s31)]) :: (71, .v (.int .i64 v56)) :: (72, .v (.int .i64 s46)) :: (73, .v (.bool (v56 != s46))) :: (74, .v (.bool false)) :: (75, .v (.int .i64 v55.2)) :: (76, .v (.int .i64 s46)) :: (77, .v (.bool (v55.2 != s46))) :: (78, .v (.bool (v55.2 != s46))) :: (79, .v (.bool true)) :: (80, .v undef) :: (81, .v undef) :: (82, .v undef) :: (83, .v undef) :: (84, .v undef) :: (85, .v undef) :: (86, .v undef) :: (87, .v (.bool true)) :: [])) (init := [0, 1, 2, 3, 4, 5, 6]) (fin := [0, 1, 2, 4, 5, 24]) (sps := (⟨[], [3], [7], [(.slot 70)]⟩ :: ⟨[7], [], [8], [(.slot 71)]⟩ :: ⟨[4], [], [9], [(.slot 72)]⟩ :: ⟨[8, 9], [], [10], [(.slot 73)]⟩ :: ⟨[10], [], [11], [(.slot 74)]⟩ :: ⟨[11, 6], [], [12], [(.slot 75)]⟩ :: ⟨[11, 4], [], [13], [(.slot 76)]⟩ :: ⟨[11, 12, 13], [], [14], [(.slot 77)]⟩ :: ⟨[11, 14], [], [15], [(.slot 78)]⟩ :: ⟨[15], [], [16], [(.slot 79)]⟩ :: ⟨[16], [], [17], [(.slot 80)]⟩ :: ⟨[16], [], [18], [(.slot 81)]⟩ :: ⟨[16], [], [19], [(.slot 82)]⟩ :: ⟨[19], [], [20], [(.slot 83)]⟩ :: ⟨[19], [], [21], [(.slot 84)]⟩ :: ⟨[19], [], [22], [(.slot 85)]⟩ :: ⟨[16], [], [23], [(.slot 86)]⟩ :: ⟨[16], [], [24], [(.slot 87)]⟩ :: [])) (es' := [(_, _), (_, _), (_, _), (_, _), (_, _), (87, .v (.bool true))]) (by kernel_rfl) rfl rfl
         ⟨st_plain rfl (op_loadA_take _ _ _ _ Try.underlying24 rfl sz24 rfl rfl),
         st_plain rfl (op_call _ _ 14 _ _ rfl Try.call14 rfl (ok_answer_Check (T_Reply.mk code s31) _ hv56) rfl rfl),
         st_plain rfl (op_move _ _ _ _ rfl rfl),
         st_plain rfl (op_bin _ _ _ _ _ rfl rfl rfl),
         st_plain rfl (op_move _ _ _ _ (congrArg (fun b => AV.v (Value.bool b)) hg14_4) rfl),
         st_run 4 74 false rfl rfl rfl (List.Mem.head _) (op_move _ _ _ _ rfl rfl),
         st_run 4 74 false rfl rfl rfl (List.Mem.head _) (op_move _ _ _ _ rfl rfl),
         st_run 4 74 false rfl rfl rfl (List.Mem.head _) (op_bin _ _ _ _ _ rfl rfl rfl),
         st_plain rfl (op_pick _ _ false _ rfl rfl),
         st_plain rfl (op_move _ _ _ _ (congrArg (fun b => AV.v (Value.bool b)) hg14_9) rfl),
         st_skip 9 79 _ false rfl rfl rfl rfl (List.Mem.head _),
         st_skip 9 79 _ false rfl rfl rfl rfl (List.Mem.head _),
         st_skip 9 79 _ false rfl rfl rfl rfl (List.Mem.head _),
         st_skipU 12 82 _ true rfl rfl rfl rfl (List.Mem.head _),
         st_skipU 12 82 _ true rfl rfl rfl rfl (List.Mem.head _),
         st_skipU 12 82 _ true rfl rfl rfl rfl (List.Mem.head _),
         st_skip 9 79 _ false rfl rfl rfl rfl (List.Mem.head _),
         st_plain rfl (op_pick _ _ true _ rfl rfl),
         trivial⟩ ?_
        exact hl59 _ (Option.some.inj h).symm
       ·refine cond_some h (fun hg14_12 h => ?_) (fun hg14_12 h => ?_)
        ·refine ht_seqR hn (El := (_ :: _ :: _ :: _ :: _ :: _ :: _ :: (70, .agg [.v (.int .i64 code), .fl (.own 9) 1 (List.map Value.string s31)]) :: (71, .v (.int .i64 v56)) :: (72, .v (.int .i64 s46)) :: (73, .v (.bool (v56 != s46))) :: (74, .v (.bool false)) :: (75, .v (.int .i64 v55.2)) :: (76, .v (.int .i64 s46)) :: (77, .v (.bool (v55.2 != s46))) :: (78, .v (.bool (v55.2 != s46))) :: (79, .v (.bool false)) :: (80, .v (.int .i64 s46)) :: (81, .v (.bool (s46 != 0))) :: (82, .v (.bool true)) :: (83, .same (.slot 11)) :: (84, .v (.int .i64 (v55.1.length : Int))) :: (85, .v (.bool (((v55.1.length : Int) != 0)))) :: (86, .v (.bool (((v55.1.length : Int) != 0)))) :: (87, .v (.bool (((v55.1.length : Int) != 0)))) :: [])) (init := [0, 1, 2, 3, 4, 5, 6]) (fin := [0, 1, 2, 4, 5, 24]) (sps := (⟨[], [3], [7], [(.slot 70)]⟩ :: ⟨[7], [], [8], [(.slot 71)]⟩ :: ⟨[4], [], [9], [(.slot 72)]⟩ :: ⟨[8, 9], [], [10], [(.slot 73)]⟩ :: ⟨[10], [], [11], [(.slot 74)]⟩ :: ⟨[11, 6], [], [12], [(.slot 75)]⟩ :: ⟨[11, 4], [], [13], [(.slot 76)]⟩ :: ⟨[11, 12, 13], [], [14], [(.slot 77)]⟩ :: ⟨[11, 14], [], [15], [(.slot 78)]⟩ :: ⟨[15], [], [16], [(.slot 79)]⟩ :: ⟨[16, 4], [], [17], [(.slot 80)]⟩ :: ⟨[16, 17], [], [18], [(.slot 81)]⟩ :: ⟨[16, 18], [], [19], [(.slot 82)]⟩ :: ⟨[19, 5], [], [20], [(.slot 83)]⟩ :: ⟨[19, 20, 5], [], [21], [(.slot 84)]⟩ :: ⟨[19, 21], [], [22], [(.slot 85)]⟩ :: ⟨[16, 19, 22], [], [23], [(.slot 86)]⟩ :: ⟨[16, 23], [], [24], [(.slot 87)]⟩ :: [])) (es' := [(_, _), (_, _), (_, _), (_, _), (_, _), (87, .v (.bool (((v55.1.length : Int) != 0))))]) (by kernel_rfl) rfl rfl
          ⟨st_plain rfl (op_loadA_take _ _ _ _ Try.underlying24 rfl sz24 rfl rfl),
          st_plain rfl (op_call _ _ 14 _ _ rfl Try.call14 rfl (ok_answer_Check (T_Reply.mk code s31) _ hv56) rfl rfl),
          st_plain rfl (op_move _ _ _ _ rfl rfl),
          st_plain rfl (op_bin _ _ _ _ _ rfl rfl rfl),
          st_plain rfl (op_move _ _ _ _ (congrArg (fun b => AV.v (Value.bool b)) hg14_4) rfl),
          st_run 4 74 false rfl rfl rfl (List.Mem.head _) (op_move _ _ _ _ rfl rfl),
          st_run 4 74 false rfl rfl rfl (List.Mem.head _) (op_move _ _ _ _ rfl rfl),
          st_run 4 74 false rfl rfl rfl (List.Mem.head _) (op_bin _ _ _ _ _ rfl rfl rfl),
          st_plain rfl (op_pick _ _ false _ rfl rfl),
          st_plain rfl (op_move _ _ _ _ (congrArg (fun b => AV.v (Value.bool b)) hg14_9) rfl),
          st_run 9 79 false rfl rfl rfl (List.Mem.head _) (op_move _ _ _ _ rfl rfl),
          st_run 9 79 false rfl rfl rfl (List.Mem.head _) (op_bin _ _ _ _ _ rfl rfl rfl),
          st_run 9 79 false rfl rfl rfl (List.Mem.head _) (op_move _ _ _ _ (congrArg (fun b => AV.v (Value.bool b)) hg14_12) rfl),
          st_run 12 82 true rfl rfl rfl (List.Mem.head _) (op_move _ _ _ _ rfl rfl),
          st_run 12 82 true rfl rfl rfl (List.Mem.head _) (op_len_fl _ _ _ Try.underlying25 rfl (by decide) (map_len _)),
          st_run 12 82 true rfl rfl rfl (List.Mem.head _) (op_bin _ _ _ _ _ rfl rfl rfl),
          st_run 9 79 false rfl rfl rfl (List.Mem.head _) (op_pick _ _ true _ rfl rfl),
          st_plain rfl (op_pick _ _ false _ rfl rfl),
          trivial⟩ ?_
         exact hl59 _ (Option.some.inj h).symm
        ·refine ht_seqR hn (El := (_ :: _ :: _ :: _ :: _ :: _ :: _ :: (70, .agg [.v (.int .i64 code), .fl (.own 9) 1 (List.map Value.string s31)]) :: (71, .v (.int .i64 v56)) :: (72, .v (.int .i64 s46)) :: (73, .v (.bool (v56 != s46))) :: (74, .v (.bool false)) :: (75, .v (.int .i64 v55.2)) :: (76, .v (.int .i64 s46)) :: (77, .v (.bool (v55.2 != s46))) :: (78, .v (.bool (v55.2 != s46))) :: (79, .v (.bool false)) :: (80, .v (.int .i64 s46)) :: (81, .v (.bool (s46 != 0))) :: (82, .v (.bool false)) :: (83, .v undef) :: (84, .v undef) :: (85, .v undef) :: (86, .v (.bool false)) :: (87, .v (.bool false)) :: [])) (init := [0, 1, 2, 3, 4, 5, 6]) (fin := [0, 1, 2, 4, 5, 24]) (sps := (⟨[], [3], [7], [(.slot 70)]⟩ :: ⟨[7], [], [8], [(.slot 71)]⟩ :: ⟨[4], [], [9], [(.slot 72)]⟩ :: ⟨[8, 9], [], [10], [(.slot 73)]⟩ :: ⟨[10], [], [11], [(.slot 74)]⟩ :: ⟨[11, 6], [], [12], [(.slot 75)]⟩ :: ⟨[11, 4], [], [13], [(.slot 76)]⟩ :: ⟨[11, 12, 13], [], [14], [(.slot 77)]⟩ :: ⟨[11, 14], [], [15], [(.slot 78)]⟩ :: ⟨[15], [], [16], [(.slot 79)]⟩ :: ⟨[16, 4], [], [17], [(.slot 80)]⟩ :: ⟨[16, 17], [], [18], [(.slot 81)]⟩ :: ⟨[16, 18], [], [19], [(.slot 82)]⟩ :: ⟨[19], [], [20], [(.slot 83)]⟩ :: ⟨[19], [], [21], [(.slot 84)]⟩ :: ⟨[19], [], [22], [(.slot 85)]⟩ :: ⟨[16, 19], [], [23], [(.slot 86)]⟩ :: ⟨[16, 23], [], [24], [(.slot 87)]⟩ :: [])) (es' := [(_, _), (_, _), (_, _), (_, _), (_, _), (87, .v (.bool false))]) (by kernel_rfl) rfl rfl
          ⟨st_plain rfl (op_loadA_take _ _ _ _ Try.underlying24 rfl sz24 rfl rfl),
          st_plain rfl (op_call _ _ 14 _ _ rfl Try.call14 rfl (ok_answer_Check (T_Reply.mk code s31) _ hv56) rfl rfl),
          st_plain rfl (op_move _ _ _ _ rfl rfl),
          st_plain rfl (op_bin _ _ _ _ _ rfl rfl rfl),
          st_plain rfl (op_move _ _ _ _ (congrArg (fun b => AV.v (Value.bool b)) hg14_4) rfl),
          st_run 4 74 false rfl rfl rfl (List.Mem.head _) (op_move _ _ _ _ rfl rfl),
          st_run 4 74 false rfl rfl rfl (List.Mem.head _) (op_move _ _ _ _ rfl rfl),
          st_run 4 74 false rfl rfl rfl (List.Mem.head _) (op_bin _ _ _ _ _ rfl rfl rfl),
          st_plain rfl (op_pick _ _ false _ rfl rfl),
          st_plain rfl (op_move _ _ _ _ (congrArg (fun b => AV.v (Value.bool b)) hg14_9) rfl),
          st_run 9 79 false rfl rfl rfl (List.Mem.head _) (op_move _ _ _ _ rfl rfl),
          st_run 9 79 false rfl rfl rfl (List.Mem.head _) (op_bin _ _ _ _ _ rfl rfl rfl),
          st_run 9 79 false rfl rfl rfl (List.Mem.head _) (op_move _ _ _ _ (congrArg (fun b => AV.v (Value.bool b)) hg14_12) rfl),
          st_skip 12 82 _ true rfl rfl rfl rfl (List.Mem.head _),
          st_skip 12 82 _ true rfl rfl rfl rfl (List.Mem.head _),
          st_skip 12 82 _ true rfl rfl rfl rfl (List.Mem.head _),
          st_run 9 79 false rfl rfl rfl (List.Mem.head _) (op_pick _ _ false _ rfl rfl),
          st_plain rfl (op_pick _ _ false _ rfl rfl),
          trivial⟩ ?_
         exact hl59 _ (Option.some.inj h).symm
    ·intro u47 h hl48 hr49
     refine ht_seq ?_
     refine ht_joinS h (fun (s50 : Bool) => [(100, .glob (GL mx)), (1, .v (.int .i64 v3)), (2, .v (.int .i64 v7)), (8, .box 24 [.v (.int .i64 code), .fl (.own 9) 1 (List.map Value.string s31)]), (10, .v (.int .i64 5)), (64, .v (.bool s50))]) ?_ ?_
     ·rintro s50 h
      refine pt_then ?_
      refine ht_cond _ rfl (fun hb54 => ?_) (fun hb54 => ?_)
      ·have h := cond_t hb54 h
       refine ht_seqR hn (El := [_, _, _, _, _, _, (10, .v (.int .i64 0))]) (init := [0, 1, 2, 3, 4, 5]) (fin := [0, 1, 2, 3, 6]) (sps := [⟨[], [4], [6], [(.slot 10)]⟩]) (es' := [(_, _), (_, _), (_, _), (_, _), (10, .v (.int .i64 0))]) (by kernel_rfl) rfl rfl
        ⟨st_plain rfl (LOp.drop [_] (op_assign _ _ _ _ rfl rfl)),
        trivial⟩ ?_
       exact hl48 _ (Option.some.inj h).symm
      ·have h := cond_f hb54 h
       refine ht_skip ?_
       refine pt_pick [0, 1, 2, 3, 4] (by kernel_rfl) (es' := [(_, _), (_, _), (_, _), (_, _), (_, _)]) rfl ?_
       exact hl48 _ (Option.some.inj h).symm
     ·intro u51 h hl52 hr53
      refine cond_some h (fun hg11_2 h => ?_) (fun hg11_2 h => ?_)
      ·refine cond_some h (fun hg11_6 h => ?_) (fun hg11_6 h => ?_)
       ·obtain ⟨v39, hv39, h⟩ := bind_some h
        obtain ⟨v40, hv40, h⟩ := bind_some h
        refine cond_some h (fun hg11_12 h => ?_) (fun hg11_12 h => ?_)
        ·refine cond_some h (fun hg11_16 h => ?_) (fun hg11_16 h => ?_)
         ·refine cond_some h (fun hg11_20 h => ?_) (fun hg11_20 h => ?_)
          ·refine ht_seqR hn (El := (_ :: _ :: _ :: _ :: _ :: _ :: (41, .v (.int .i64 code)) :: (42, .v (.bool ((decide (200 ≤ code))))) :: (43, .v (.bool true)) :: (44, .v (.int .i64 code)) :: (45, .v (.bool ((decide (code ≤ 559))))) :: (46, .v (.bool ((decide (code ≤ 559))))) :: (47, .v (.bool true)) :: (48, .v (.int .i64 code)) :: (49, .v (.int .i64 v39)) :: (50, .v (.int .i64 v40)) :: (51, .v (.bool ((decide (v40 ≤ 5))))) :: (52, .v (.bool ((decide (v40 ≤ 5))))) :: (53, .v (.bool true)) :: (54, .v (.int .i64 v3)) :: (55, .v (.bool ((decide (1 ≤ v3))))) :: (56, .v (.bool ((decide (1 ≤ v3))))) :: (57, .v (.bool true)) :: (58, .v (.int .i64 v3)) :: (59, .v (.bool ((decide (v3 ≤ 20))))) :: (60, .v (.bool ((decide (v3 ≤ 20))))) :: (61, .v (.bool true)) :: (62, .v (.int .i64 v7)) :: (63, .v (.bool ((decide (v7 ≤ 200))))) :: (64, .v (.bool ((decide (v7 ≤ 200))))) :: [])) (init := [0, 1, 2, 3, 4, 5]) (fin := [1, 2, 3, 4, 5, 29]) (sps := (⟨[0], [], [6], [(.slot 41)]⟩ :: ⟨[6], [], [7], [(.slot 42)]⟩ :: ⟨[7], [], [8], [(.slot 43)]⟩ :: ⟨[8, 0], [], [9], [(.slot 44)]⟩ :: ⟨[8, 9], [], [10], [(.slot 45)]⟩ :: ⟨[8, 10], [], [11], [(.slot 46)]⟩ :: ⟨[11], [], [12], [(.slot 47)]⟩ :: ⟨[12, 0], [], [13], [(.slot 48)]⟩ :: ⟨[12, 13], [], [14], [(.slot 49)]⟩ :: ⟨[12, 14], [], [15], [(.slot 50)]⟩ :: ⟨[12, 15], [], [16], [(.slot 51)]⟩ :: ⟨[12, 16], [], [17], [(.slot 52)]⟩ :: ⟨[17], [], [18], [(.slot 53)]⟩ :: ⟨[18, 2], [], [19], [(.slot 54)]⟩ :: ⟨[18, 19], [], [20], [(.slot 55)]⟩ :: ⟨[18, 20], [], [21], [(.slot 56)]⟩ :: ⟨[21], [], [22], [(.slot 57)]⟩ :: ⟨[22, 2], [], [23], [(.slot 58)]⟩ :: ⟨[22, 23], [], [24], [(.slot 59)]⟩ :: ⟨[22, 24], [], [25], [(.slot 60)]⟩ :: ⟨[25], [], [26], [(.slot 61)]⟩ :: ⟨[26, 3], [], [27], [(.slot 62)]⟩ :: ⟨[26, 27], [], [28], [(.slot 63)]⟩ :: ⟨[26, 28], [], [29], [(.slot 64)]⟩ :: [])) (es' := [(_, _), (_, _), (_, _), (_, _), (_, _), (64, .v (.bool ((decide (v7 ≤ 200)))))]) (by kernel_rfl) rfl rfl
            ⟨st_plain rfl (op_move _ _ _ _ rfl rfl),
            st_plain rfl (op_bin _ _ _ _ _ rfl rfl rfl),
            st_plain rfl (op_move _ _ _ _ (congrArg (fun b => AV.v (Value.bool b)) hg11_2) rfl),
            st_run 2 43 true rfl rfl rfl (List.Mem.head _) (op_move _ _ _ _ rfl rfl),
            st_run 2 43 true rfl rfl rfl (List.Mem.head _) (op_bin _ _ _ _ _ rfl rfl rfl),
            st_plain rfl (op_pick _ _ true _ rfl rfl),
            st_plain rfl (op_move _ _ _ _ (congrArg (fun b => AV.v (Value.bool b)) hg11_6) rfl),
            st_run 6 47 true rfl rfl rfl (List.Mem.head _) (op_move _ _ _ _ rfl rfl),
            st_run 6 47 true rfl rfl rfl (List.Mem.head _) (op_bin _ _ _ _ _ rfl rfl (quo_ok hv39)),
            st_run 6 47 true rfl rfl rfl (List.Mem.head _) (op_bin _ _ _ _ _ rfl rfl (rem_ok hv40)),
            st_run 6 47 true rfl rfl rfl (List.Mem.head _) (op_bin _ _ _ _ _ rfl rfl rfl),
            st_plain rfl (op_pick _ _ true _ rfl rfl),
            st_plain rfl (op_move _ _ _ _ (congrArg (fun b => AV.v (Value.bool b)) hg11_12) rfl),
            st_run 12 53 true rfl rfl rfl (List.Mem.head _) (op_move _ _ _ _ rfl rfl),
            st_run 12 53 true rfl rfl rfl (List.Mem.head _) (op_bin _ _ _ _ _ rfl rfl rfl),
            st_plain rfl (op_pick _ _ true _ rfl rfl),
            st_plain rfl (op_move _ _ _ _ (congrArg (fun b => AV.v (Value.bool b)) hg11_16) rfl),
            st_run 16 57 true rfl rfl rfl (List.Mem.head _) (op_move _ _ _ _ rfl rfl),
            st_run 16 57 true rfl rfl rfl (List.Mem.head _) (op_bin _ _ _ _ _ rfl rfl rfl),
            st_plain rfl (op_pick _ _ true _ rfl rfl),
            st_plain rfl (op_move _ _ _ _ (congrArg (fun b => AV.v (Value.bool b)) hg11_20) rfl),
            st_run 20 61 true rfl rfl rfl (List.Mem.head _) (op_move _ _ _ _ rfl rfl),
            st_run 20 61 true rfl rfl rfl (List.Mem.head _) (op_bin _ _ _ _ _ rfl rfl rfl),
            st_plain rfl (op_pick _ _ true _ rfl rfl),
            trivial⟩ ?_
           exact hl52 _ (Option.some.inj h).symm
          ·refine ht_seqR hn (El := (_ :: _ :: _ :: _ :: _ :: _ :: (41, .v (.int .i64 code)) :: (42, .v (.bool ((decide (200 ≤ code))))) :: (43, .v (.bool true)) :: (44, .v (.int .i64 code)) :: (45, .v (.bool ((decide (code ≤ 559))))) :: (46, .v (.bool ((decide (code ≤ 559))))) :: (47, .v (.bool true)) :: (48, .v (.int .i64 code)) :: (49, .v (.int .i64 v39)) :: (50, .v (.int .i64 v40)) :: (51, .v (.bool ((decide (v40 ≤ 5))))) :: (52, .v (.bool ((decide (v40 ≤ 5))))) :: (53, .v (.bool true)) :: (54, .v (.int .i64 v3)) :: (55, .v (.bool ((decide (1 ≤ v3))))) :: (56, .v (.bool ((decide (1 ≤ v3))))) :: (57, .v (.bool true)) :: (58, .v (.int .i64 v3)) :: (59, .v (.bool ((decide (v3 ≤ 20))))) :: (60, .v (.bool ((decide (v3 ≤ 20))))) :: (61, .v (.bool false)) :: (62, .v undef) :: (63, .v undef) :: (64, .v (.bool false)) :: [])) (init := [0, 1, 2, 3, 4, 5]) (fin := [1, 2, 3, 4, 5, 29]) (sps := (⟨[0], [], [6], [(.slot 41)]⟩ :: ⟨[6], [], [7], [(.slot 42)]⟩ :: ⟨[7], [], [8], [(.slot 43)]⟩ :: ⟨[8, 0], [], [9], [(.slot 44)]⟩ :: ⟨[8, 9], [], [10], [(.slot 45)]⟩ :: ⟨[8, 10], [], [11], [(.slot 46)]⟩ :: ⟨[11], [], [12], [(.slot 47)]⟩ :: ⟨[12, 0], [], [13], [(.slot 48)]⟩ :: ⟨[12, 13], [], [14], [(.slot 49)]⟩ :: ⟨[12, 14], [], [15], [(.slot 50)]⟩ :: ⟨[12, 15], [], [16], [(.slot 51)]⟩ :: ⟨[12, 16], [], [17], [(.slot 52)]⟩ :: ⟨[17], [], [18], [(.slot 53)]⟩ :: ⟨[18, 2], [], [19], [(.slot 54)]⟩ :: ⟨[18, 19], [], [20], [(.slot 55)]⟩ :: ⟨[18, 20], [], [21], [(.slot 56)]⟩ :: ⟨[21], [], [22], [(.slot 57)]⟩ :: ⟨[22, 2], [], [23], [(.slot 58)]⟩ :: ⟨[22, 23], [], [24], [(.slot 59)]⟩ :: ⟨[22, 24], [], [25], [(.slot 60)]⟩ :: ⟨[25], [], [26], [(.slot 61)]⟩ :: ⟨[26], [], [27], [(.slot 62)]⟩ :: ⟨[26], [], [28], [(.slot 63)]⟩ :: ⟨[26], [], [29], [(.slot 64)]⟩ :: [])) (es' := [(_, _), (_, _), (_, _), (_, _), (_, _), (64, .v (.bool false))]) (by kernel_rfl) rfl rfl
            ⟨st_plain rfl (op_move _ _ _ _ rfl rfl),
            st_plain rfl (op_bin _ _ _ _ _ rfl rfl rfl),
            st_plain rfl (op_move _ _ _ _ (congrArg (fun b => AV.v (Value.bool b)) hg11_2) rfl),
            st_run 2 43 true rfl rfl rfl (List.Mem.head _) (op_move _ _ _ _ rfl rfl),
            st_run 2 43 true rfl rfl rfl (List.Mem.head _) (op_bin _ _ _ _ _ rfl rfl rfl),
            st_plain rfl (op_pick _ _ true _ rfl rfl),
            st_plain rfl (op_move _ _ _ _ (congrArg (fun b => AV.v (Value.bool b)) hg11_6) rfl),
            st_run 6 47 true rfl rfl rfl (List.Mem.head _) (op_move _ _ _ _ rfl rfl),
            st_run 6 47 true rfl rfl rfl (List.Mem.head _) (op_bin _ _ _ _ _ rfl rfl (quo_ok hv39)),
            st_run 6 47 true rfl rfl rfl (List.Mem.head _) (op_bin _ _ _ _ _ rfl rfl (rem_ok hv40)),
            st_run 6 47 true rfl rfl rfl (List.Mem.head _) (op_bin _ _ _ _ _ rfl rfl rfl),
            st_plain rfl (op_pick _ _ true _ rfl rfl),
            st_plain rfl (op_move _ _ _ _ (congrArg (fun b => AV.v (Value.bool b)) hg11_12) rfl),
            st_run 12 53 true rfl rfl rfl (List.Mem.head _) (op_move _ _ _ _ rfl rfl),
            st_run 12 53 true rfl rfl rfl (List.Mem.head _) (op_bin _ _ _ _ _ rfl rfl rfl),
            st_plain rfl (op_pick _ _ true _ rfl rfl),
            st_plain rfl (op_move _ _ _ _ (congrArg (fun b => AV.v (Value.bool b)) hg11_16) rfl),
            st_run 16 57 true rfl rfl rfl (List.Mem.head _) (op_move _ _ _ _ rfl rfl),
            st_run 16 57 true rfl rfl rfl (List.Mem.head _) (op_bin _ _ _ _ _ rfl rfl rfl),
            st_plain rfl (op_pick _ _ true _ rfl rfl),
            st_plain rfl (op_move _ _ _ _ (congrArg (fun b => AV.v (Value.bool b)) hg11_20) rfl),
            st_skip 20 61 _ true rfl rfl rfl rfl (List.Mem.head _),
            st_skip 20 61 _ true rfl rfl rfl rfl (List.Mem.head _),
            st_plain rfl (op_pick _ _ false _ rfl rfl),
            trivial⟩ ?_
           exact hl52 _ (Option.some.inj h).symm
         ·refine ht_seqR hn (El := (_ :: _ :: _ :: _ :: _ :: _ :: (41, .v (.int .i64 code)) :: (42, .v (.bool ((decide (200 ≤ code))))) :: (43, .v (.bool true)) :: (44, .v (.int .i64 code)) :: (45, .v (.bool ((decide (code ≤ 559))))) :: (46, .v (.bool ((decide (code ≤ 559))))) :: (47, .v (.bool true)) :: (48, .v (.int .i64 code)) :: (49, .v (.int .i64 v39)) :: (50, .v (.int .i64 v40)) :: (51, .v (.bool ((decide (v40 ≤ 5))))) :: (52, .v (.bool ((decide (v40 ≤ 5))))) :: (53, .v (.bool true)) :: (54, .v (.int .i64 v3)) :: (55, .v (.bool ((decide (1 ≤ v3))))) :: (56, .v (.bool ((decide (1 ≤ v3))))) :: (57, .v (.bool false)) :: (58, .v undef) :: (59, .v undef) :: (60, .v (.bool false)) :: (61, .v (.bool false)) :: (62, .v undef) :: (63, .v undef) :: (64, .v (.bool false)) :: [])) (init := [0, 1, 2, 3, 4, 5]) (fin := [1, 2, 3, 4, 5, 29]) (sps := (⟨[0], [], [6], [(.slot 41)]⟩ :: ⟨[6], [], [7], [(.slot 42)]⟩ :: ⟨[7], [], [8], [(.slot 43)]⟩ :: ⟨[8, 0], [], [9], [(.slot 44)]⟩ :: ⟨[8, 9], [], [10], [(.slot 45)]⟩ :: ⟨[8, 10], [], [11], [(.slot 46)]⟩ :: ⟨[11], [], [12], [(.slot 47)]⟩ :: ⟨[12, 0], [], [13], [(.slot 48)]⟩ :: ⟨[12, 13], [], [14], [(.slot 49)]⟩ :: ⟨[12, 14], [], [15], [(.slot 50)]⟩ :: ⟨[12, 15], [], [16], [(.slot 51)]⟩ :: ⟨[12, 16], [], [17], [(.slot 52)]⟩ :: ⟨[17], [], [18], [(.slot 53)]⟩ :: ⟨[18, 2], [], [19], [(.slot 54)]⟩ :: ⟨[18, 19], [], [20], [(.slot 55)]⟩ :: ⟨[18, 20], [], [21], [(.slot 56)]⟩ :: ⟨[21], [], [22], [(.slot 57)]⟩ :: ⟨[22], [], [23], [(.slot 58)]⟩ :: ⟨[22], [], [24], [(.slot 59)]⟩ :: ⟨[22], [], [25], [(.slot 60)]⟩ :: ⟨[25], [], [26], [(.slot 61)]⟩ :: ⟨[26], [], [27], [(.slot 62)]⟩ :: ⟨[26], [], [28], [(.slot 63)]⟩ :: ⟨[26], [], [29], [(.slot 64)]⟩ :: [])) (es' := [(_, _), (_, _), (_, _), (_, _), (_, _), (64, .v (.bool false))]) (by kernel_rfl) rfl rfl
           ⟨st_plain rfl (op_move _ _ _ _ rfl rfl),
           st_plain rfl (op_bin _ _ _ _ _ rfl rfl rfl),
           st_plain rfl (op_move _ _ _ _ (congrArg (fun b => AV.v (Value.bool b)) hg11_2) rfl),
           st_run 2 43 true rfl rfl rfl (List.Mem.head _) (op_move _ _ _ _ rfl rfl),
           st_run 2 43 true rfl rfl rfl (List.Mem.head _) (op_bin _ _ _ _ _ rfl rfl rfl),
           st_plain rfl (op_pick _ _ true _ rfl rfl),
           st_plain rfl (op_move _ _ _ _ (congrArg (fun b => AV.v (Value.bool b)) hg11_6) rfl),
           st_run 6 47 true rfl rfl rfl (List.Mem.head _) (op_move _ _ _ _ rfl rfl),
           st_run 6 47 true rfl rfl rfl (List.Mem.head _) (op_bin _ _ _ _ _ rfl rfl (quo_ok hv39)),
           st_run 6 47 true rfl rfl rfl (List.Mem.head _) (op_bin _ _ _ _ _ rfl rfl (rem_ok hv40)),
           st_run 6 47 true rfl rfl rfl (List.Mem.head _) (op_bin _ _ _ _ _ rfl rfl rfl),
           st_plain rfl (op_pick _ _ true _ rfl rfl),
           st_plain rfl (op_move _ _ _ _ (congrArg (fun b => AV.v (Value.bool b)) hg11_12) rfl),
           st_run 12 53 true rfl rfl rfl (List.Mem.head _) (op_move _ _ _ _ rfl rfl),
           st_run 12 53 true rfl rfl rfl (List.Mem.head _) (op_bin _ _ _ _ _ rfl rfl rfl),
           st_plain rfl (op_pick _ _ true _ rfl rfl),
           st_plain rfl (op_move _ _ _ _ (congrArg (fun b => AV.v (Value.bool b)) hg11_16) rfl),
           st_skip 16 57 _ true rfl rfl rfl rfl (List.Mem.head _),
           st_skip 16 57 _ true rfl rfl rfl rfl (List.Mem.head _),
           st_plain rfl (op_pick _ _ false _ rfl rfl),
           st_plain rfl (op_move _ _ _ _ rfl rfl),
           st_skip 20 61 _ true rfl rfl rfl rfl (List.Mem.head _),
           st_skip 20 61 _ true rfl rfl rfl rfl (List.Mem.head _),
           st_plain rfl (op_pick _ _ false _ rfl rfl),
           trivial⟩ ?_
          exact hl52 _ (Option.some.inj h).symm
        ·refine ht_seqR hn (El := (_ :: _ :: _ :: _ :: _ :: _ :: (41, .v (.int .i64 code)) :: (42, .v (.bool ((decide (200 ≤ code))))) :: (43, .v (.bool true)) :: (44, .v (.int .i64 code)) :: (45, .v (.bool ((decide (code ≤ 559))))) :: (46, .v (.bool ((decide (code ≤ 559))))) :: (47, .v (.bool true)) :: (48, .v (.int .i64 code)) :: (49, .v (.int .i64 v39)) :: (50, .v (.int .i64 v40)) :: (51, .v (.bool ((decide (v40 ≤ 5))))) :: (52, .v (.bool ((decide (v40 ≤ 5))))) :: (53, .v (.bool false)) :: (54, .v undef) :: (55, .v undef) :: (56, .v (.bool false)) :: (57, .v (.bool false)) :: (58, .v undef) :: (59, .v undef) :: (60, .v (.bool false)) :: (61, .v (.bool false)) :: (62, .v undef) :: (63, .v undef) :: (64, .v (.bool false)) :: [])) (init := [0, 1, 2, 3, 4, 5]) (fin := [1, 2, 3, 4, 5, 29]) (sps := (⟨[0], [], [6], [(.slot 41)]⟩ :: ⟨[6], [], [7], [(.slot 42)]⟩ :: ⟨[7], [], [8], [(.slot 43)]⟩ :: ⟨[8, 0], [], [9], [(.slot 44)]⟩ :: ⟨[8, 9], [], [10], [(.slot 45)]⟩ :: ⟨[8, 10], [], [11], [(.slot 46)]⟩ :: ⟨[11], [], [12], [(.slot 47)]⟩ :: ⟨[12, 0], [], [13], [(.slot 48)]⟩ :: ⟨[12, 13], [], [14], [(.slot 49)]⟩ :: ⟨[12, 14], [], [15], [(.slot 50)]⟩ :: ⟨[12, 15], [], [16], [(.slot 51)]⟩ :: ⟨[12, 16], [], [17], [(.slot 52)]⟩ :: ⟨[17], [], [18], [(.slot 53)]⟩ :: ⟨[18], [], [19], [(.slot 54)]⟩ :: ⟨[18], [], [20], [(.slot 55)]⟩ :: ⟨[18], [], [21], [(.slot 56)]⟩ :: ⟨[21], [], [22], [(.slot 57)]⟩ :: ⟨[22], [], [23], [(.slot 58)]⟩ :: ⟨[22], [], [24], [(.slot 59)]⟩ :: ⟨[22], [], [25], [(.slot 60)]⟩ :: ⟨[25], [], [26], [(.slot 61)]⟩ :: ⟨[26], [], [27], [(.slot 62)]⟩ :: ⟨[26], [], [28], [(.slot 63)]⟩ :: ⟨[26], [], [29], [(.slot 64)]⟩ :: [])) (es' := [(_, _), (_, _), (_, _), (_, _), (_, _), (64, .v (.bool false))]) (by kernel_rfl) rfl rfl
          ⟨st_plain rfl (op_move _ _ _ _ rfl rfl),
          st_plain rfl (op_bin _ _ _ _ _ rfl rfl rfl),
          st_plain rfl (op_move _ _ _ _ (congrArg (fun b => AV.v (Value.bool b)) hg11_2) rfl),
          st_run 2 43 true rfl rfl rfl (List.Mem.head _) (op_move _ _ _ _ rfl rfl),
          st_run 2 43 true rfl rfl rfl (List.Mem.head _) (op_bin _ _ _ _ _ rfl rfl rfl),
          st_plain rfl (op_pick _ _ true _ rfl rfl),
          st_plain rfl (op_move _ _ _ _ (congrArg (fun b => AV.v (Value.bool b)) hg11_6) rfl),
          st_run 6 47 true rfl rfl rfl (List.Mem.head _) (op_move _ _ _ _ rfl rfl),
          st_run 6 47 true rfl rfl rfl (List.Mem.head _) (op_bin _ _ _ _ _ rfl rfl (quo_ok hv39)),
          st_run 6 47 true rfl rfl rfl (List.Mem.head _) (op_bin _ _ _ _ _ rfl rfl (rem_ok hv40)),
          st_run 6 47 true rfl rfl rfl (List.Mem.head _) (op_bin _ _ _ _ _ rfl rfl rfl),
          st_plain rfl (op_pick _ _ true _ rfl rfl),
          st_plain rfl (op_move _ _ _ _ (congrArg (fun b => AV.v (Value.bool b)) hg11_12) rfl),
          st_skip 12 53 _ true rfl rfl rfl rfl (List.Mem.head _),
          st_skip 12 53 _ true rfl rfl rfl rfl (List.Mem.head _),
          st_plain rfl (op_pick _ _ false _ rfl rfl),
          st_plain rfl (op_move _ _ _ _ rfl rfl),
          st_skip 16 57 _ true rfl rfl rfl rfl (List.Mem.head _),
          st_skip 16 57 _ true rfl rfl rfl rfl (List.Mem.head _),
          st_plain rfl (op_pick _ _ false _ rfl rfl),
          st_plain rfl (op_move _ _ _ _ rfl rfl),
          st_skip 20 61 _ true rfl rfl rfl rfl (List.Mem.head _),
          st_skip 20 61 _ true rfl rfl rfl rfl (List.Mem.head _),
          st_plain rfl (op_pick _ _ false _ rfl rfl),
          trivial⟩ ?_
         exact hl52 _ (Option.some.inj h).symm
       ·refine ht_seqR hn (El := (_ :: _ :: _ :: _ :: _ :: _ :: (41, .v (.int .i64 code)) :: (42, .v (.bool ((decide (200 ≤ code))))) :: (43, .v (.bool true)) :: (44, .v (.int .i64 code)) :: (45, .v (.bool ((decide (code ≤ 559))))) :: (46, .v (.bool ((decide (code ≤ 559))))) :: (47, .v (.bool false)) :: (48, .v undef) :: (49, .v undef) :: (50, .v undef) :: (51, .v undef) :: (52, .v (.bool false)) :: (53, .v (.bool false)) :: (54, .v undef) :: (55, .v undef) :: (56, .v (.bool false)) :: (57, .v (.bool false)) :: (58, .v undef) :: (59, .v undef) :: (60, .v (.bool false)) :: (61, .v (.bool false)) :: (62, .v undef) :: (63, .v undef) :: (64, .v (.bool false)) :: [])) (init := [0, 1, 2, 3, 4, 5]) (fin := [1, 2, 3, 4, 5, 29]) (sps := (⟨[0], [], [6], [(.slot 41)]⟩ :: ⟨[6], [], [7], [(.slot 42)]⟩ :: ⟨[7], [], [8], [(.slot 43)]⟩ :: ⟨[8, 0], [], [9], [(.slot 44)]⟩ :: ⟨[8, 9], [], [10], [(.slot 45)]⟩ :: ⟨[8, 10], [], [11], [(.slot 46)]⟩ :: ⟨[11], [], [12], [(.slot 47)]⟩ :: ⟨[12], [], [13], [(.slot 48)]⟩ :: ⟨[12], [], [14], [(.slot 49)]⟩ :: ⟨[12], [], [15], [(.slot 50)]⟩ :: ⟨[12], [], [16], [(.slot 51)]⟩ :: ⟨[12], [], [17], [(.slot 52)]⟩ :: ⟨[17], [], [18], [(.slot 53)]⟩ :: ⟨[18], [], [19], [(.slot 54)]⟩ :: ⟨[18], [], [20], [(.slot 55)]⟩ :: ⟨[18], [], [21], [(.slot 56)]⟩ :: ⟨[21], [], [22], [(.slot 57)]⟩ :: ⟨[22], [], [23], [(.slot 58)]⟩ :: ⟨[22], [], [24], [(.slot 59)]⟩ :: ⟨[22], [], [25], [(.slot 60)]⟩ :: ⟨[25], [], [26], [(.slot 61)]⟩ :: ⟨[26], [], [27], [(.slot 62)]⟩ :: ⟨[26], [], [28], [(.slot 63)]⟩ :: ⟨[26], [], [29], [(.slot 64)]⟩ :: [])) (es' := [(_, _), (_, _), (_, _), (_, _), (_, _), (64, .v (.bool false))]) (by kernel_rfl) rfl rfl
         ⟨st_plain rfl (op_move _ _ _ _ rfl rfl),
         st_plain rfl (op_bin _ _ _ _ _ rfl rfl rfl),
         st_plain rfl (op_move _ _ _ _ (congrArg (fun b => AV.v (Value.bool b)) hg11_2) rfl),
         st_run 2 43 true rfl rfl rfl (List.Mem.head _) (op_move _ _ _ _ rfl rfl),
         st_run 2 43 true rfl rfl rfl (List.Mem.head _) (op_bin _ _ _ _ _ rfl rfl rfl),
         st_plain rfl (op_pick _ _ true _ rfl rfl),
         st_plain rfl (op_move _ _ _ _ (congrArg (fun b => AV.v (Value.bool b)) hg11_6) rfl),
         st_skip 6 47 _ true rfl rfl rfl rfl (List.Mem.head _),
         st_skip 6 47 _ true rfl rfl rfl rfl (List.Mem.head _),
         st_skip 6 47 _ true rfl rfl rfl rfl (List.Mem.head _),
         st_skip 6 47 _ true rfl rfl rfl rfl (List.Mem.head _),
         st_plain rfl (op_pick _ _ false _ rfl rfl),
         st_plain rfl (op_move _ _ _ _ rfl rfl),
         st_skip 12 53 _ true rfl rfl rfl rfl (List.Mem.head _),
         st_skip 12 53 _ true rfl rfl rfl rfl (List.Mem.head _),
         st_plain rfl (op_pick _ _ false _ rfl rfl),
         st_plain rfl (op_move _ _ _ _ rfl rfl),
         st_skip 16 57 _ true rfl rfl rfl rfl (List.Mem.head _),
         st_skip 16 57 _ true rfl rfl rfl rfl (List.Mem.head _),
         st_plain rfl (op_pick _ _ false _ rfl rfl),
         st_plain rfl (op_move _ _ _ _ rfl rfl),
         st_skip 20 61 _ true rfl rfl rfl rfl (List.Mem.head _),
         st_skip 20 61 _ true rfl rfl rfl rfl (List.Mem.head _),
         st_plain rfl (op_pick _ _ false _ rfl rfl),
         trivial⟩ ?_
        exact hl52 _ (Option.some.inj h).symm
      ·refine ht_seqR hn (El := (_ :: _ :: _ :: _ :: _ :: _ :: (41, .v (.int .i64 code)) :: (42, .v (.bool ((decide (200 ≤ code))))) :: (43, .v (.bool false)) :: (44, .v undef) :: (45, .v undef) :: (46, .v (.bool false)) :: (47, .v (.bool false)) :: (48, .v undef) :: (49, .v undef) :: (50, .v undef) :: (51, .v undef) :: (52, .v (.bool false)) :: (53, .v (.bool false)) :: (54, .v undef) :: (55, .v undef) :: (56, .v (.bool false)) :: (57, .v (.bool false)) :: (58, .v undef) :: (59, .v undef) :: (60, .v (.bool false)) :: (61, .v (.bool false)) :: (62, .v undef) :: (63, .v undef) :: (64, .v (.bool false)) :: [])) (init := [0, 1, 2, 3, 4, 5]) (fin := [1, 2, 3, 4, 5, 29]) (sps := (⟨[0], [], [6], [(.slot 41)]⟩ :: ⟨[6], [], [7], [(.slot 42)]⟩ :: ⟨[7], [], [8], [(.slot 43)]⟩ :: ⟨[8], [], [9], [(.slot 44)]⟩ :: ⟨[8], [], [10], [(.slot 45)]⟩ :: ⟨[8], [], [11], [(.slot 46)]⟩ :: ⟨[11], [], [12], [(.slot 47)]⟩ :: ⟨[12], [], [13], [(.slot 48)]⟩ :: ⟨[12], [], [14], [(.slot 49)]⟩ :: ⟨[12], [], [15], [(.slot 50)]⟩ :: ⟨[12], [], [16], [(.slot 51)]⟩ :: ⟨[12], [], [17], [(.slot 52)]⟩ :: ⟨[17], [], [18], [(.slot 53)]⟩ :: ⟨[18], [], [19], [(.slot 54)]⟩ :: ⟨[18], [], [20], [(.slot 55)]⟩ :: ⟨[18], [], [21], [(.slot 56)]⟩ :: ⟨[21], [], [22], [(.slot 57)]⟩ :: ⟨[22], [], [23], [(.slot 58)]⟩ :: ⟨[22], [], [24], [(.slot 59)]⟩ :: ⟨[22], [], [25], [(.slot 60)]⟩ :: ⟨[25], [], [26], [(.slot 61)]⟩ :: ⟨[26], [], [27], [(.slot 62)]⟩ :: ⟨[26], [], [28], [(.slot 63)]⟩ :: ⟨[26], [], [29], [(.slot 64)]⟩ :: [])) (es' := [(_, _), (_, _), (_, _), (_, _), (_, _), (64, .v (.bool false))]) (by kernel_rfl) rfl rfl
        ⟨st_plain rfl (op_move _ _ _ _ rfl rfl),
        st_plain rfl (op_bin _ _ _ _ _ rfl rfl rfl),
        st_plain rfl (op_move _ _ _ _ (congrArg (fun b => AV.v (Value.bool b)) hg11_2) rfl),
        st_skip 2 43 _ true rfl rfl rfl rfl (List.Mem.head _),
        st_skip 2 43 _ true rfl rfl rfl rfl (List.Mem.head _),
        st_plain rfl (op_pick _ _ false _ rfl rfl),
        st_plain rfl (op_move _ _ _ _ rfl rfl),
        st_skip 6 47 _ true rfl rfl rfl rfl (List.Mem.head _),
        st_skip 6 47 _ true rfl rfl rfl rfl (List.Mem.head _),
        st_skip 6 47 _ true rfl rfl rfl rfl (List.Mem.head _),
        st_skip 6 47 _ true rfl rfl rfl rfl (List.Mem.head _),
        st_plain rfl (op_pick _ _ false _ rfl rfl),
        st_plain rfl (op_move _ _ _ _ rfl rfl),
        st_skip 12 53 _ true rfl rfl rfl rfl (List.Mem.head _),
        st_skip 12 53 _ true rfl rfl rfl rfl (List.Mem.head _),
        st_plain rfl (op_pick _ _ false _ rfl rfl),
        st_plain rfl (op_move _ _ _ _ rfl rfl),
        st_skip 16 57 _ true rfl rfl rfl rfl (List.Mem.head _),
        st_skip 16 57 _ true rfl rfl rfl rfl (List.Mem.head _),
        st_plain rfl (op_pick _ _ false _ rfl rfl),
        st_plain rfl (op_move _ _ _ _ rfl rfl),
        st_skip 20 61 _ true rfl rfl rfl rfl (List.Mem.head _),
        st_skip 20 61 _ true rfl rfl rfl rfl (List.Mem.head _),
        st_plain rfl (op_pick _ _ false _ rfl rfl),
        trivial⟩ ?_
       exact hl52 _ (Option.some.inj h).symm
   ·rintro u32 hl33 hr34 ⟨s28, s29⟩ rr37 h ho35
    refine ht_seq ?_
    refine ht_seq ?_
    refine ht_seqR hn (El := [_, _, _, _, _, _, _, (30, .v (.int .i64 s29)), (31, .v (.int .i64 v3)), (32, .v (.bool ((decide (s29 < v3)))))]) (init := [0, 1, 2, 3, 4, 5, 6]) (fin := [0, 1, 2, 3, 4, 5, 6, 9]) (sps := [⟨[6], [], [7], [(.slot 30)]⟩, ⟨[2], [], [8], [(.slot 31)]⟩, ⟨[7, 8], [], [9], [(.slot 32)]⟩]) (es' := [(_, _), (_, _), (_, _), (_, _), (_, _), (_, _), (_, _), (32, .v (.bool ((decide (s29 < v3)))))]) (by kernel_rfl) rfl rfl
     ⟨st_plain rfl (op_move _ _ _ _ rfl rfl),
     st_plain rfl (op_move _ _ _ _ rfl rfl),
     st_plain rfl (op_bin _ _ _ _ _ rfl rfl rfl),
     trivial⟩ ?_
    refine pt_then ?_
    refine ht_cond _ rfl (fun hb38 => ?_) (fun hb38 => ?_)
    ·have h := cond_t hb38 h
     refine ht_skip ?_
     refine pt_then ?_
     refine ht_seq ?_
     refine ht_block ?_
     obtain ⟨v23, hv23, h⟩ := bind_some h
     refine ht_seqR hn (El := (_ :: _ :: _ :: _ :: _ :: _ :: _ :: _ :: (35, .ptr 8 1) :: (36, .same (.cell 8 1)) :: (37, .v (.string s14)) :: (38, .fl (.own 9) 1 (List.map Value.string [s14])) :: (39, .fl (.own 9) 1 (List.map Value.string v23)) :: (8, .box 24 [.v (.int .i64 code), .any]) :: (40, .ptr 8 1) :: (8, .box 24 [.v (.int .i64 code), .fl (.own 9) 1 (List.map Value.string v23)]) :: [])) (init := [0, 1, 2, 3, 4, 5, 6, 7]) (fin := [0, 1, 2, 3, 4, 15, 6]) (sps := [⟨[5], [], [8], [(.slot 35)]⟩, ⟨[8, 5], [], [9], [(.slot 36)]⟩, ⟨[4], [], [10], [(.slot 37)]⟩, ⟨[10], [], [11], [(.slot 38)]⟩, ⟨[9, 11], [5], [13, 12], [(.slot 39)]⟩, ⟨[13], [], [14], [(.slot 40)]⟩, ⟨[14], [9, 12, 13], [15], [.cell 8 1]⟩]) (es' := [(_, _), (_, _), (_, _), (_, _), (_, _), (8, .box 24 [.v (.int .i64 code), .fl (.own 9) 1 (List.map Value.string v23)]), (_, _)]) (by kernel_rfl) rfl rfl
      ⟨st_plain rfl (op_fieldAddr _ _ _ _ 8 0 _ Try.underlying24 rfl sz22 rfl rfl (by decide)),
      st_plain rfl (op_load _ _ _ _ _ _ Try.underlying22 rfl rfl rfl (Nat.le_of_ble_eq_true rfl) rfl rfl rfl),
      st_plain rfl (op_move _ _ _ _ rfl rfl),
      st_plain rfl (op_buildSlice _ _ 1 (.string ByteArray.empty) (List.map Value.string [s14]) [(0, .string s14)] Try.underlying22 sz9 zr9 (fun _ V w o a hv hes => by have e0 := rd_v hv hes (x := .tmp 37) rfl; simp only [List.map_toArray, List.map_cons, List.map_nil, e0]; try rfl) (litfill (by simp [Instr.fill, Value.cells]; rfl) (by simp [List.range, List.range.loop])) (by simp [Value.oneCell']) rfl (by decide) (by decide) (by decide)),
      st_plain rfl (op_app_cell _ _ _ _ _ _ el22 rfl rfl (Nat.le_of_ble_eq_true rfl) rfl (map_len _) (map_len _) hv23 ((List.map_append).symm.trans (congrArg (List.map _) (app_eq hv23))) (by decide) rfl rfl),
      st_plain rfl (op_fieldAddr _ _ _ _ 8 0 _ Try.underlying24 rfl sz22 rfl rfl (by decide)),
      st_plain rfl (LOp.drop [_] (op_store_take _ _ _ _ _ _ _ _ sz22 rfl rfl rfl (Nat.le_of_ble_eq_true rfl) rfl rfl)),
      trivial⟩ ?_
     refine pt_inb ?_
     refine pt_then ?_
     obtain ⟨v24, hv24, h⟩ := bind_some h
     refine ht_seqR hn (El := [_, _, _, _, _, _, _, (33, .v (.int .i64 s29)), (34, .v (.int .i64 v24)), (9, .v (.int .i64 v24))]) (init := [0, 1, 2, 3, 4, 5, 6]) (fin := [0, 1, 2, 3, 4, 5, 9]) (sps := [⟨[6], [], [7], [(.slot 33)]⟩, ⟨[7], [], [8], [(.slot 34)]⟩, ⟨[8], [6], [9], [(.slot 9)]⟩]) (es' := [(_, _), (_, _), (_, _), (_, _), (_, _), (_, _), (9, .v (.int .i64 v24))]) (by kernel_rfl) rfl rfl
      ⟨st_plain rfl (op_move _ _ _ _ rfl rfl),
      st_plain rfl (op_bin _ _ _ _ _ rfl rfl (ibind (f := Value.int .i64) (Option.some.inj hv24))),
      st_plain rfl (LOp.drop [_] (op_assign _ _ _ _ rfl rfl)),
      trivial⟩ ?_
     exact pt_next _ (Option.some.inj h).symm rfl
    ·have h := cond_f hb38 h
     refine ht_exit ?_
     refine pt_x_then ?_
     refine pt_x_then ?_
     refine pt_x_in ?_
     refine pt_pick [0, 1, 2, 3, 5] (by kernel_rfl) (es' := [(_, _), (_, _), (_, _), (_, _), (_, _)]) rfl ?_
     exact hl33 _ (ho35 _ (Option.some.inj h).symm).symm
  ·rintro u15 hl16 hr17 s12 rr20 h ho18
   refine ht_seq ?_
   refine ht_seq ?_
   refine ht_seqR hn (El := [_, _, _, _, _, (22, .v (.string s12)), (23, .v (.int .i64 (s12.size : Int))), (24, .v (.int .i64 v7)), (25, .v (.bool ((decide ((s12.size : Int) < v7)))))]) (init := [0, 1, 2, 3, 4]) (fin := [0, 1, 2, 3, 4, 8]) (sps := [⟨[4], [], [5], [(.slot 22)]⟩, ⟨[5], [], [6], [(.slot 23)]⟩, ⟨[3], [], [7], [(.slot 24)]⟩, ⟨[6, 7], [], [8], [(.slot 25)]⟩]) (es' := [(_, _), (_, _), (_, _), (_, _), (_, _), (25, .v (.bool ((decide ((s12.size : Int) < v7)))))]) (by kernel_rfl) rfl rfl
    ⟨st_plain rfl (op_move _ _ _ _ rfl rfl),
    st_plain rfl (op_len_str _ _ _ Try.underlying9 rfl),
    st_plain rfl (op_move _ _ _ _ rfl rfl),
    st_plain rfl (op_bin _ _ _ _ _ rfl rfl rfl),
    trivial⟩ ?_
   refine pt_then ?_
   refine ht_cond _ rfl (fun hb21 => ?_) (fun hb21 => ?_)
   ·have h := cond_t hb21 h
    refine ht_skip ?_
    refine pt_then ?_
    refine ht_block ?_
    obtain ⟨v9, hv9, h⟩ := bind_some h
    refine ht_seqR hn (El := [_, _, _, _, _, _, (26, .v (.string s12)), (27, .v (.string v9)), (7, .v (.string v9))]) (init := [0, 1, 2, 3, 4, 5]) (fin := [0, 1, 2, 3, 8]) (sps := [⟨[4], [], [6], [(.slot 26)]⟩, ⟨[6], [], [7], [(.slot 27)]⟩, ⟨[7], [4], [8], [(.slot 7)]⟩]) (es' := [(_, _), (_, _), (_, _), (_, _), (7, .v (.string v9))]) (by kernel_rfl) rfl rfl
     ⟨st_plain rfl (op_move _ _ _ _ rfl rfl),
     st_plain rfl (op_bin _ _ _ _ _ rfl rfl (cat_ok hv9)),
     st_plain rfl (LOp.drop [_] (op_assign _ _ _ _ rfl rfl)),
     trivial⟩ ?_
    refine pt_inb ?_
    exact pt_next _ (Option.some.inj h).symm rfl
   ·have h := cond_f hb21 h
    refine ht_exit ?_
    refine pt_x_then ?_
    refine pt_x_then ?_
    refine pt_x_in ?_
    refine pt_pick [0, 1, 2, 3, 4] (by kernel_rfl) (es' := [(_, _), (_, _), (_, _), (_, _), (_, _)]) rfl ?_
    exact hl16 _ (ho18 _ (Option.some.inj h).symm).symm

end Go.Proofs.Ytegjndibgnnpcaa
