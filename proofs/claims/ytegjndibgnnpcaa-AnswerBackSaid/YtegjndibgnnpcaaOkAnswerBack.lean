/-
  The model's runs are what is told in Lean.
-/
import Derived.Test.YtegjndibgnnpcaaProg
import Derived.KernelRfl
import Derived.Test.YtegjndibgnnpcaaShelf
import Derived.Test.YtegjndibgnnpcaaOkc2
set_option linter.unusedVariables false
set_option linter.unusedSimpArgs false
namespace Go.Proofs.Ytegjndibgnnpcaa
open Go.Abs Go.Abs.Sh

set_option maxHeartbeats 1000000 in
theorem ok_wherrylaw13_AnswerBack (mx : Int) (l : (List T_Reply)) (cut : Int) (r : Bool) (h : Sh.wherrylaw13_AnswerBack l cut = some r) : FnG Try.prog (GL mx) 4 [.fr .shr true 2 (List.flatten (List.map T_Reply.ienc l)), .v (.int .i64 cut)] (.v (.bool r)) := by
  unfold Sh.wherrylaw13_AnswerBack at h
  refine fn_okG Try.func4 rfl (Nat.le_of_ble_eq_true rfl) rfl rfl fun g0 hn hio => ?_
  refine ht_seq ?_
  refine ht_seqR hn (El := [_, _, _, (4, .v (.bool false))]) (init := [0, 1, 2]) (fin := [0, 1, 2]) (sps := [⟨[], [], [3], [(.slot 4)]⟩]) (es' := [(_, _), (_, _), (_, _)]) (by kernel_rfl) rfl rfl
   ⟨st_plain rfl (op_assign _ _ _ _ rfl rfl),
   trivial⟩ ?_
  refine pt_then ?_
  refine ht_seq ?_
  refine ht_seq ?_
  refine ht_seqR hn (El := [_, _, _, (22, .fr .shr true 2 (List.flatten (List.map T_Reply.ienc l))), (23, .v (.int .i64 (l.length : Int))), (24, .v (.bool ((decide (20 < (l.length : Int))))))]) (init := [0, 1, 2]) (fin := [0, 1, 2, 5]) (sps := [⟨[0], [], [3], [(.slot 22)]⟩, ⟨[3], [], [4], [(.slot 23)]⟩, ⟨[4], [], [5], [(.slot 24)]⟩]) (es' := [(_, _), (_, _), (_, _), (24, .v (.bool ((decide (20 < (l.length : Int))))))]) (by kernel_rfl) rfl rfl
   ⟨st_plain rfl (op_move _ _ _ _ rfl rfl),
   st_plain rfl (op_len_fr _ _ _ Try.underlying42 rfl (by decide) (gflat_len T_Reply.ilen _)),
   st_plain rfl (op_bin _ _ _ _ _ rfl rfl rfl),
   trivial⟩ ?_
  refine pt_then ?_
  refine ht_cond _ rfl (fun hb1 => ?_) (fun hb1 => ?_)
  ·have h := cond_t hb1 h
   refine ht_seq ?_
   refine ht_seqR hn (El := [_, _, _, _, (4, .v (.bool true))]) (init := [0, 1, 2, 3]) (fin := [2, 4]) (sps := [⟨[], [], [4], [(.slot 4)]⟩]) (es' := [(_, _), (4, .v (.bool true))]) (by kernel_rfl) rfl rfl
    ⟨st_plain rfl (op_assign _ _ _ _ rfl rfl),
    trivial⟩ ?_
   refine pt_then ?_
   refine ht_ret ?_
   refine pt_pick [1] (by kernel_rfl) (es' := [(_, _)]) rfl ?_
   refine pt_r_then ?_
   obtain rfl := Option.some.inj h
   exact pt_ret hio rfl (.tmp _ _ .nil) rfl rfl
  ·have h := cond_f hb1 h
   refine ht_skip ?_
   refine pt_then ?_
   refine ht_seq ?_
   refine ht_seqR hn (El := [_, _, _, _, (5, .v (.slice none 0 0)), (6, .v (.slice none 0 0))]) (init := [0, 1, 2, 3]) (fin := [0, 1, 2, 4, 5]) (sps := [⟨[], [], [4], [(.slot 5)]⟩, ⟨[], [], [5], [(.slot 6)]⟩]) (es' := [(_, _), (_, _), (_, _), (5, .v (.slice none 0 0)), (6, .v (.slice none 0 0))]) (by kernel_rfl) rfl rfl
    ⟨st_plain rfl (op_assign _ _ _ _ rfl rfl),
    st_plain rfl (op_assign _ _ _ _ rfl rfl),
    trivial⟩ ?_
   refine pt_then ?_
   refine ht_seq ?_
   refine ht_seqR hn (El := [_, _, _, _, _, (7, .v (.int .i64 0))]) (init := [0, 1, 2, 3, 4]) (fin := [0, 1, 2, 3, 4, 5]) (sps := [⟨[], [], [5], [(.slot 7)]⟩]) (es' := [(_, _), (_, _), (_, _), (_, _), (_, _), (7, .v (.int .i64 0))]) (by kernel_rfl) rfl rfl
    ⟨st_plain rfl (op_assign _ _ _ _ rfl rfl),
    trivial⟩ ?_
   refine pt_then ?_
   refine ht_seq ?_
   refine ht_seq ?_
   refine ht_seqR hn (El := [_, _, _, _, _, _, (8, .v (.int .i64 0))]) (init := [0, 1, 2, 3, 4, 5]) (fin := [0, 1, 2, 3, 4, 5, 6]) (sps := [⟨[], [], [6], [(.slot 8)]⟩]) (es' := [(_, _), (_, _), (_, _), (_, _), (_, _), (_, _), (8, .v (.int .i64 0))]) (by kernel_rfl) rfl rfl
    ⟨st_plain rfl (op_assign _ _ _ _ rfl rfl),
    trivial⟩ ?_
   refine pt_then ?_
   refine ht_sub (fs := [(0, .fr .shr true 2 (List.flatten (List.map T_Reply.ienc l))), (1, .v (.int .i64 cut)), (134, .glob (GL mx)), (5, .fl (.own 5) 1 (List.map (Value.int .u8) [])), (6, .fl (.own 5) 1 (List.map (Value.int .u8) [])), (7, .v (.int .i64 0)), (8, .v (.int .i64 0))]) (.same _ (.same _ (.same _ (.sub _ (sub_nil 5 1) rfl (.sub _ (sub_nil 5 1) rfl (.same _ (.same _ .nil))))))) ?_
   refine ht_loopS h (fun ((s37, s38, s39, s40) : (List Int) × (List Int) × Int × Int) => [(0, .fr .shr true 2 (List.flatten (List.map T_Reply.ienc l))), (1, .v (.int .i64 cut)), (134, .glob (GL mx)), (5, .fl (.own 5) 1 (List.map (Value.int .u8) s37)), (6, .fl (.own 5) 1 (List.map (Value.int .u8) s38)), (7, .v (.int .i64 s39)), (8, .v (.int .i64 s40))]) (fun ((s52, s53, s54) : (List Int) × (List Int) × Int) => [(0, .fr .shr true 2 (List.flatten (List.map T_Reply.ienc l))), (1, .v (.int .i64 cut)), (134, .glob (GL mx)), (5, .fl (.own 5) 1 (List.map (Value.int .u8) s52)), (6, .fl (.own 5) 1 (List.map (Value.int .u8) s53)), (7, .v (.int .i64 s54))]) ?_ ?_
   ·rintro ⟨s52, s53, s54⟩ h
    refine pt_then ?_
    refine ht_seq ?_
    refine ht_seq ?_
    refine ht_seqR hn (El := [_, _, _, _, _, _, (52, .v (.int .i64 s54)), (53, .v (.bool (s54 == 0)))]) (init := [0, 1, 2, 3, 4, 5]) (fin := [0, 1, 2, 3, 4, 7]) (sps := [⟨[5], [], [6], [(.slot 52)]⟩, ⟨[6], [], [7], [(.slot 53)]⟩]) (es' := [(_, _), (_, _), (_, _), (_, _), (_, _), (53, .v (.bool (s54 == 0)))]) (by kernel_rfl) rfl rfl
     ⟨st_plain rfl (op_move _ _ _ _ rfl rfl),
     st_plain rfl (op_bin _ _ _ _ _ rfl rfl rfl),
     trivial⟩ ?_
    refine pt_then ?_
    refine ht_cond _ rfl (fun hb72 => ?_) (fun hb72 => ?_)
    ·have h := cond_t hb72 h
     refine ht_seq ?_
     obtain ⟨v73, hv73, h⟩ := bind_some h
     refine ht_seqR hn (El := (_ :: _ :: _ :: _ :: _ :: _ :: (55, .tup [.agg [.v (.int .i64 v73.1.Code), .fl (.own 9) 1 (List.map Value.string v73.1.Lines)], .v (.int .i64 v73.2.1), .v (.int .i64 v73.2.2)]) :: (54, .tup [.agg [.v (.int .i64 v73.1.Code), .fl (.own 9) 1 (List.map Value.string v73.1.Lines)], .v (.int .i64 v73.2.1), .v (.int .i64 v73.2.2)]) :: (56, .agg [.v (.int .i64 v73.1.Code), .fl (.own 9) 1 (List.map Value.string v73.1.Lines)]) :: (54, .tup [.any, .v (.int .i64 v73.2.1), .v (.int .i64 v73.2.2)]) :: (57, .v (.int .i64 v73.2.1)) :: (58, .v (.int .i64 v73.2.2)) :: (11, .box 24 [.v (.int .i64 0), .v (.slice none 0 0)]) :: (11, .box 24 [.v (.int .i64 v73.1.Code), .fl (.own 9) 1 (List.map Value.string v73.1.Lines)]) :: (12, .v (.int .i64 v73.2.1)) :: (13, .v (.int .i64 v73.2.2)) :: [])) (init := [0, 1, 2, 3, 4, 5]) (fin := [2, 15]) (sps := [⟨[2], [], [6], [(.slot 55)]⟩, ⟨[], [6], [7], [(.slot 54)]⟩, ⟨[], [7], [9, 8], [(.slot 56)]⟩, ⟨[9], [], [10], [(.slot 57)]⟩, ⟨[9], [], [11], [(.slot 58)]⟩, ⟨[], [], [12], [(.slot 11)]⟩, ⟨[], [8, 12], [13], [.cell 11 0, .cell 11 1]⟩, ⟨[10], [], [14], [(.slot 12)]⟩, ⟨[11], [], [15], [(.slot 13)]⟩]) (es' := [(_, _), (13, .v (.int .i64 v73.2.2))]) (by kernel_rfl) rfl rfl
      ⟨st_plain rfl (op_callG _ _ 134 11 _ _ rfl Try.call11 rfl rfl (fun _ h => h) ((ok_answer_Read mx [] _ hv73).args (subs_cons (sub_nil_shr 1) (subs_nil))) rfl rfl),
      st_plain rfl (op_move_take _ _ _ _ rfl),
      st_plain rfl (op_extract_take _ _ _ _ _ rfl (Nat.le_of_ble_eq_true rfl) rfl rfl (by decide) rfl),
      st_plain rfl (op_extract _ _ _ _ _ rfl rfl (Nat.le_of_ble_eq_true rfl) rfl rfl),
      st_plain rfl (op_extract _ _ _ _ _ rfl rfl (Nat.le_of_ble_eq_true rfl) rfl rfl),
      st_plain rfl (op_alloc _ _ zr24),
      st_plain rfl (op_store_take _ _ _ _ _ _ _ _ sz24 rfl rfl rfl (Nat.le_of_ble_eq_true rfl) rfl rfl),
      st_plain rfl (op_assign _ _ _ _ rfl rfl),
      st_plain rfl (op_assign _ _ _ _ rfl rfl),
      trivial⟩ ?_
     refine pt_then ?_
     refine ht_seq ?_
     refine ht_joinS h (fun (s75 : Bool) => [(134, .glob (GL mx)), (4, .v (.bool s75))]) ?_ ?_
     ·rintro s75 h
      refine pt_then ?_
      refine ht_ret ?_
      refine pt_pick [1] (by kernel_rfl) (es' := [(_, _)]) rfl ?_
      refine pt_r_then ?_
      obtain rfl := Option.some.inj h
      exact pt_ret hio rfl (.tmp _ _ .nil) rfl rfl
     ·intro u76 h hl77 hr78
      refine cond_some h (fun hg16_2 h => ?_) (fun hg16_2 h => ?_)
      ·obtain ⟨v74, hv74, h⟩ := bind_some h
       refine ht_seqR hn (El := [_, _, (59, .v (.int .i64 v73.2.2)), (60, .v (.bool (v73.2.2 == 3))), (61, .v (.bool true)), (62, .v (.bool v74)), (63, .v (.bool v74)), (4, .v (.bool v74))]) (init := [0, 1]) (fin := [0, 7]) (sps := [⟨[1], [], [2], [(.slot 59)]⟩, ⟨[2], [], [3], [(.slot 60)]⟩, ⟨[3], [], [4], [(.slot 61)]⟩, ⟨[4, 0], [], [5], [(.slot 62)]⟩, ⟨[4, 5], [], [6], [(.slot 63)]⟩, ⟨[6], [], [7], [(.slot 4)]⟩]) (es' := [(_, _), (4, .v (.bool v74))]) (by kernel_rfl) rfl rfl
        ⟨st_plain rfl (op_move _ _ _ _ rfl rfl),
        st_plain rfl (op_bin _ _ _ _ _ rfl rfl rfl),
        st_plain rfl (op_move _ _ _ _ (congrArg (fun b => AV.v (Value.bool b)) hg16_2) rfl),
        st_run 2 61 true rfl rfl rfl (List.Mem.head _) (op_callG _ _ 134 19 _ _ rfl Try.call19 rfl rfl (fun _ h => h) (ok_wherrylaw13_wakes mx  _ hv74) rfl rfl),
        st_plain rfl (op_pick _ _ true _ rfl rfl),
        st_plain rfl (op_assign _ _ _ _ rfl rfl),
        trivial⟩ ?_
       exact hl77 _ (Option.some.inj h).symm
      ·refine ht_seqR hn (El := [_, _, (59, .v (.int .i64 v73.2.2)), (60, .v (.bool (v73.2.2 == 3))), (61, .v (.bool false)), (62, .v undef), (63, .v (.bool false)), (4, .v (.bool false))]) (init := [0, 1]) (fin := [0, 7]) (sps := [⟨[1], [], [2], [(.slot 59)]⟩, ⟨[2], [], [3], [(.slot 60)]⟩, ⟨[3], [], [4], [(.slot 61)]⟩, ⟨[4], [], [5], [(.slot 62)]⟩, ⟨[4], [], [6], [(.slot 63)]⟩, ⟨[6], [], [7], [(.slot 4)]⟩]) (es' := [(_, _), (4, .v (.bool false))]) (by kernel_rfl) rfl rfl
        ⟨st_plain rfl (op_move _ _ _ _ rfl rfl),
        st_plain rfl (op_bin _ _ _ _ _ rfl rfl rfl),
        st_plain rfl (op_move _ _ _ _ (congrArg (fun b => AV.v (Value.bool b)) hg16_2) rfl),
        st_skip 2 61 _ true rfl rfl rfl rfl (List.Mem.head _),
        st_plain rfl (op_pick _ _ false _ rfl rfl),
        st_plain rfl (op_assign _ _ _ _ rfl rfl),
        trivial⟩ ?_
       exact hl77 _ (Option.some.inj h).symm
    ·have h := cond_f hb72 h
     refine ht_skip ?_
     refine pt_then ?_
     refine ht_seq ?_
     refine ht_seqR hn (El := [_, _, _, _, _, _, (64, .fl (.own 5) 1 (List.map (Value.int .u8) s52)), (14, .fl (.own 5) 1 (List.map (Value.int .u8) s52))]) (init := [0, 1, 2, 3, 4, 5]) (fin := [0, 1, 2, 4, 7]) (sps := [⟨[], [3], [6], [(.slot 64)]⟩, ⟨[], [6], [7], [(.slot 14)]⟩]) (es' := [(_, _), (_, _), (_, _), (_, _), (14, .fl (.own 5) 1 (List.map (Value.int .u8) s52))]) (by kernel_rfl) rfl rfl
      ⟨st_plain rfl (op_move_take _ _ _ _ rfl),
      st_plain rfl (op_assign_take _ _ _ _ rfl),
      trivial⟩ ?_
     refine pt_then ?_
     refine ht_seq ?_
     refine ht_seq ?_
     refine ht_seqR hn (El := [_, _, _, _, _, (15, .v (.int .i64 0))]) (init := [0, 1, 2, 3, 4]) (fin := [0, 1, 2, 3, 4, 5]) (sps := [⟨[], [], [5], [(.slot 15)]⟩]) (es' := [(_, _), (_, _), (_, _), (_, _), (_, _), (15, .v (.int .i64 0))]) (by kernel_rfl) rfl rfl
      ⟨st_plain rfl (op_assign _ _ _ _ rfl rfl),
      trivial⟩ ?_
     refine pt_then ?_
     refine ht_frz 4 hio (es' := [(0, .fr .shr true 2 (List.flatten (List.map T_Reply.ienc l))), (1, .v (.int .i64 cut)), (134, .glob (GL mx)), (6, .fl (.own 5) 1 (List.map (Value.int .u8) s53)), (14, .fl .ro 1 (List.map (Value.int .u8) s52)), (15, .v (.int .i64 0))]) rfl ?_
     refine ht_loopS h (fun ((s124, s125) : (List Int) × Int) => [(0, .fr .shr true 2 (List.flatten (List.map T_Reply.ienc l))), (1, .v (.int .i64 cut)), (134, .glob (GL mx)), (6, .fl (.own 5) 1 (List.map (Value.int .u8) s53)), (14, .fl .ro 1 (List.map (Value.int .u8) s124)), (15, .v (.int .i64 s125))]) (fun (s143 : (List Int)) => [(1, .v (.int .i64 cut)), (134, .glob (GL mx)), (6, .fl (.own 5) 1 (List.map (Value.int .u8) s53)), (14, .fl .ro 1 (List.map (Value.int .u8) s143))]) ?_ ?_
     ·rintro s143 h
      refine pt_then ?_
      refine ht_seq ?_
      refine ht_seq ?_
      refine ht_seqR hn (El := [_, _, _, _, (107, .same (.slot 6)), (108, .v (.int .i64 (s53.length : Int))), (109, .v (.bool (((s53.length : Int) == 0))))]) (init := [0, 1, 2, 3]) (fin := [0, 1, 2, 3, 6]) (sps := [⟨[2], [], [4], [(.slot 107)]⟩, ⟨[4, 2], [], [5], [(.slot 108)]⟩, ⟨[5], [], [6], [(.slot 109)]⟩]) (es' := [(_, _), (_, _), (_, _), (_, _), (109, .v (.bool (((s53.length : Int) == 0))))]) (by kernel_rfl) rfl rfl
       ⟨st_plain rfl (op_move _ _ _ _ rfl rfl),
       st_plain rfl (op_len_fl _ _ _ Try.underlying25 rfl (by decide) (map_len _)),
       st_plain rfl (op_bin _ _ _ _ _ rfl rfl rfl),
       trivial⟩ ?_
      refine pt_then ?_
      refine ht_cond _ rfl (fun hb167 => ?_) (fun hb167 => ?_)
      ·have h := cond_t hb167 h
       refine ht_seq ?_
       refine ht_seqR hn (El := [_, _, _, _, _, (4, .v (.bool false))]) (init := [0, 1, 2, 3, 4]) (fin := [1, 5]) (sps := [⟨[], [], [5], [(.slot 4)]⟩]) (es' := [(_, _), (4, .v (.bool false))]) (by kernel_rfl) rfl rfl
        ⟨st_plain rfl (op_assign _ _ _ _ rfl rfl),
        trivial⟩ ?_
       refine pt_then ?_
       refine ht_ret ?_
       refine pt_pick [1] (by kernel_rfl) (es' := [(_, _)]) rfl ?_
       refine pt_r_then ?_
       obtain rfl := Option.some.inj h
       exact pt_ret hio rfl (.tmp _ _ .nil) rfl rfl
      ·have h := cond_f hb167 h
       refine ht_skip ?_
       refine pt_then ?_
       refine ht_seq ?_
       refine ht_frz 2 hio (es' := [(1, .v (.int .i64 cut)), (134, .glob (GL mx)), (6, .fl .ro 1 (List.map (Value.int .u8) s53)), (14, .fl .ro 1 (List.map (Value.int .u8) s143)), (109, .v (.bool (((s53.length : Int) == 0))))]) rfl ?_
       obtain ⟨v168, hv168, h⟩ := bind_some h
       obtain ⟨v169, hv169, h⟩ := bind_some h
       obtain ⟨v170, hv170, h⟩ := bind_some h
       obtain ⟨v171, hv171, h⟩ := bind_some h
       obtain ⟨v172, hv172, h⟩ := bind_some h
       obtain ⟨v173, hv173, h⟩ := bind_some h
       refine ht_seqR hn (El := (_ :: _ :: _ :: _ :: _ :: (111, .fl .ro 1 (List.map (Value.int .u8) s53)) :: (112, .v (.int .i64 cut)) :: (113, .v (.int .u64 v168)) :: (114, .fl .ro 1 (List.map (Value.int .u8) s53)) :: (115, .v (.int .i64 (s53.length : Int))) :: (116, .v (.int .u64 v169)) :: (117, .v (.int .u64 v170)) :: (118, .v (.int .i64 v171)) :: (119, .fl .ro 1 (List.map (Value.int .u8) v172)) :: (120, .tup [.agg [.v (.int .i64 v173.1.Code), .fl (.own 9) 1 (List.map Value.string v173.1.Lines)], .v (.int .i64 v173.2.1), .v (.int .i64 v173.2.2)]) :: (110, .tup [.agg [.v (.int .i64 v173.1.Code), .fl (.own 9) 1 (List.map Value.string v173.1.Lines)], .v (.int .i64 v173.2.1), .v (.int .i64 v173.2.2)]) :: (121, .agg [.v (.int .i64 v173.1.Code), .fl (.own 9) 1 (List.map Value.string v173.1.Lines)]) :: (110, .tup [.any, .v (.int .i64 v173.2.1), .v (.int .i64 v173.2.2)]) :: (122, .v (.int .i64 v173.2.1)) :: (123, .v (.int .i64 v173.2.2)) :: (19, .box 24 [.v (.int .i64 0), .v (.slice none 0 0)]) :: (19, .box 24 [.v (.int .i64 v173.1.Code), .fl (.own 9) 1 (List.map Value.string v173.1.Lines)]) :: (20, .v (.int .i64 v173.2.1)) :: (21, .v (.int .i64 v173.2.2)) :: [])) (init := [0, 1, 2, 3, 4]) (fin := [1, 3, 23]) (sps := (⟨[2], [], [5], [(.slot 111)]⟩ :: ⟨[0], [], [6], [(.slot 112)]⟩ :: ⟨[6], [], [7], [(.slot 113)]⟩ :: ⟨[2], [], [8], [(.slot 114)]⟩ :: ⟨[8], [], [9], [(.slot 115)]⟩ :: ⟨[9], [], [10], [(.slot 116)]⟩ :: ⟨[7, 10], [], [11], [(.slot 117)]⟩ :: ⟨[11], [], [12], [(.slot 118)]⟩ :: ⟨[5, 12], [], [13], [(.slot 119)]⟩ :: ⟨[13, 1], [], [14], [(.slot 120)]⟩ :: ⟨[], [14], [15], [(.slot 110)]⟩ :: ⟨[], [15], [17, 16], [(.slot 121)]⟩ :: ⟨[17], [], [18], [(.slot 122)]⟩ :: ⟨[17], [], [19], [(.slot 123)]⟩ :: ⟨[], [], [20], [(.slot 19)]⟩ :: ⟨[], [16, 20], [21], [.cell 19 0, .cell 19 1]⟩ :: ⟨[18], [], [22], [(.slot 20)]⟩ :: ⟨[19], [], [23], [(.slot 21)]⟩ :: [])) (es' := [(_, _), (_, _), (21, .v (.int .i64 v173.2.2))]) (by kernel_rfl) rfl rfl
        ⟨st_plain rfl (op_move _ _ _ _ rfl rfl),
        st_plain rfl (op_move _ _ _ _ rfl rfl),
        st_plain rfl ((Option.some.inj hv168) ▸ op_conv _ _ _ Try.underlying3 Try.underlying43 rfl),
        st_plain rfl (op_move _ _ _ _ rfl rfl),
        st_plain rfl (op_len_fl _ _ _ Try.underlying25 rfl (by decide) (map_len _)),
        st_plain rfl ((Option.some.inj hv169) ▸ op_conv _ _ _ Try.underlying3 Try.underlying43 rfl),
        st_plain rfl (op_bin _ _ _ _ _ rfl rfl (rem_ok hv170)),
        st_plain rfl ((Option.some.inj hv171) ▸ op_conv _ _ _ Try.underlying43 Try.underlying3 rfl),
        st_plain rfl (op_sl _ _ _ 0 v171 _ Try.underlying25 sz5 rfl rfl rfl ⟨_, rfl⟩ hv172),
        st_plain rfl (op_callG _ _ 134 11 _ _ rfl Try.call11 rfl rfl (fun _ h => h) (ok_answer_Read mx v172 _ hv173) rfl rfl),
        st_plain rfl (op_move_take _ _ _ _ rfl),
        st_plain rfl (op_extract_take _ _ _ _ _ rfl (Nat.le_of_ble_eq_true rfl) rfl rfl (by decide) rfl),
        st_plain rfl (op_extract _ _ _ _ _ rfl rfl (Nat.le_of_ble_eq_true rfl) rfl rfl),
        st_plain rfl (op_extract _ _ _ _ _ rfl rfl (Nat.le_of_ble_eq_true rfl) rfl rfl),
        st_plain rfl (op_alloc _ _ zr24),
        st_plain rfl (op_store_take _ _ _ _ _ _ _ _ sz24 rfl rfl rfl (Nat.le_of_ble_eq_true rfl) rfl rfl),
        st_plain rfl (op_assign _ _ _ _ rfl rfl),
        st_plain rfl (op_assign _ _ _ _ rfl rfl),
        trivial⟩ ?_
       refine pt_then ?_
       refine ht_seq ?_
       refine ht_joinS h (fun (s175 : Bool) => [(134, .glob (GL mx)), (4, .v (.bool s175))]) ?_ ?_
       ·rintro s175 h
        refine pt_then ?_
        refine ht_ret ?_
        refine pt_pick [1] (by kernel_rfl) (es' := [(_, _)]) rfl ?_
        obtain rfl := Option.some.inj h
        exact pt_ret hio rfl (.tmp _ _ .nil) rfl rfl
       ·intro u176 h hl177 hr178
        refine cond_some h (fun hg29_3 h => ?_) (fun hg29_3 h => ?_)
        ·refine cond_some h (fun hg29_7 h => ?_) (fun hg29_7 h => ?_)
         ·obtain ⟨v174, hv174, h⟩ := bind_some h
          refine ht_seqR hn (El := [_, _, _, (124, .fl .ro 1 (List.map (Value.int .u8) s143)), (125, .v (.int .i64 (s143.length : Int))), (126, .v (.bool (((s143.length : Int) == 0)))), (127, .v (.bool true)), (128, .v (.int .i64 v173.2.2)), (129, .v (.bool (v173.2.2 == 3))), (130, .v (.bool (v173.2.2 == 3))), (131, .v (.bool true)), (132, .v (.bool v174)), (133, .v (.bool v174)), (4, .v (.bool v174))]) (init := [0, 1, 2]) (fin := [0, 13]) (sps := [⟨[1], [], [3], [(.slot 124)]⟩, ⟨[3], [], [4], [(.slot 125)]⟩, ⟨[4], [], [5], [(.slot 126)]⟩, ⟨[5], [], [6], [(.slot 127)]⟩, ⟨[6, 2], [], [7], [(.slot 128)]⟩, ⟨[6, 7], [], [8], [(.slot 129)]⟩, ⟨[6, 8], [], [9], [(.slot 130)]⟩, ⟨[9], [], [10], [(.slot 131)]⟩, ⟨[10, 0], [], [11], [(.slot 132)]⟩, ⟨[10, 11], [], [12], [(.slot 133)]⟩, ⟨[12], [], [13], [(.slot 4)]⟩]) (es' := [(_, _), (4, .v (.bool v174))]) (by kernel_rfl) rfl rfl
           ⟨st_plain rfl (op_move _ _ _ _ rfl rfl),
           st_plain rfl (op_len_fl _ _ _ Try.underlying25 rfl (by decide) (map_len _)),
           st_plain rfl (op_bin _ _ _ _ _ rfl rfl rfl),
           st_plain rfl (op_move _ _ _ _ (congrArg (fun b => AV.v (Value.bool b)) hg29_3) rfl),
           st_run 3 127 true rfl rfl rfl (List.Mem.head _) (op_move _ _ _ _ rfl rfl),
           st_run 3 127 true rfl rfl rfl (List.Mem.head _) (op_bin _ _ _ _ _ rfl rfl rfl),
           st_plain rfl (op_pick _ _ true _ rfl rfl),
           st_plain rfl (op_move _ _ _ _ (congrArg (fun b => AV.v (Value.bool b)) hg29_7) rfl),
           st_run 7 131 true rfl rfl rfl (List.Mem.head _) (op_callG _ _ 134 19 _ _ rfl Try.call19 rfl rfl (fun _ h => h) (ok_wherrylaw13_wakes mx  _ hv174) rfl rfl),
           st_plain rfl (op_pick _ _ true _ rfl rfl),
           st_plain rfl (op_assign _ _ _ _ rfl rfl),
           trivial⟩ ?_
          exact hl177 _ (Option.some.inj h).symm
         ·refine ht_seqR hn (El := [_, _, _, (124, .fl .ro 1 (List.map (Value.int .u8) s143)), (125, .v (.int .i64 (s143.length : Int))), (126, .v (.bool (((s143.length : Int) == 0)))), (127, .v (.bool true)), (128, .v (.int .i64 v173.2.2)), (129, .v (.bool (v173.2.2 == 3))), (130, .v (.bool (v173.2.2 == 3))), (131, .v (.bool false)), (132, .v undef), (133, .v (.bool false)), (4, .v (.bool false))]) (init := [0, 1, 2]) (fin := [0, 13]) (sps := [⟨[1], [], [3], [(.slot 124)]⟩, ⟨[3], [], [4], [(.slot 125)]⟩, ⟨[4], [], [5], [(.slot 126)]⟩, ⟨[5], [], [6], [(.slot 127)]⟩, ⟨[6, 2], [], [7], [(.slot 128)]⟩, ⟨[6, 7], [], [8], [(.slot 129)]⟩, ⟨[6, 8], [], [9], [(.slot 130)]⟩, ⟨[9], [], [10], [(.slot 131)]⟩, ⟨[10], [], [11], [(.slot 132)]⟩, ⟨[10], [], [12], [(.slot 133)]⟩, ⟨[12], [], [13], [(.slot 4)]⟩]) (es' := [(_, _), (4, .v (.bool false))]) (by kernel_rfl) rfl rfl
           ⟨st_plain rfl (op_move _ _ _ _ rfl rfl),
           st_plain rfl (op_len_fl _ _ _ Try.underlying25 rfl (by decide) (map_len _)),
           st_plain rfl (op_bin _ _ _ _ _ rfl rfl rfl),
           st_plain rfl (op_move _ _ _ _ (congrArg (fun b => AV.v (Value.bool b)) hg29_3) rfl),
           st_run 3 127 true rfl rfl rfl (List.Mem.head _) (op_move _ _ _ _ rfl rfl),
           st_run 3 127 true rfl rfl rfl (List.Mem.head _) (op_bin _ _ _ _ _ rfl rfl rfl),
           st_plain rfl (op_pick _ _ true _ rfl rfl),
           st_plain rfl (op_move _ _ _ _ (congrArg (fun b => AV.v (Value.bool b)) hg29_7) rfl),
           st_skip 7 131 _ true rfl rfl rfl rfl (List.Mem.head _),
           st_plain rfl (op_pick _ _ false _ rfl rfl),
           st_plain rfl (op_assign _ _ _ _ rfl rfl),
           trivial⟩ ?_
          exact hl177 _ (Option.some.inj h).symm
        ·refine ht_seqR hn (El := [_, _, _, (124, .fl .ro 1 (List.map (Value.int .u8) s143)), (125, .v (.int .i64 (s143.length : Int))), (126, .v (.bool (((s143.length : Int) == 0)))), (127, .v (.bool false)), (128, .v undef), (129, .v undef), (130, .v (.bool false)), (131, .v (.bool false)), (132, .v undef), (133, .v (.bool false)), (4, .v (.bool false))]) (init := [0, 1, 2]) (fin := [0, 13]) (sps := [⟨[1], [], [3], [(.slot 124)]⟩, ⟨[3], [], [4], [(.slot 125)]⟩, ⟨[4], [], [5], [(.slot 126)]⟩, ⟨[5], [], [6], [(.slot 127)]⟩, ⟨[6], [], [7], [(.slot 128)]⟩, ⟨[6], [], [8], [(.slot 129)]⟩, ⟨[6], [], [9], [(.slot 130)]⟩, ⟨[9], [], [10], [(.slot 131)]⟩, ⟨[10], [], [11], [(.slot 132)]⟩, ⟨[10], [], [12], [(.slot 133)]⟩, ⟨[12], [], [13], [(.slot 4)]⟩]) (es' := [(_, _), (4, .v (.bool false))]) (by kernel_rfl) rfl rfl
          ⟨st_plain rfl (op_move _ _ _ _ rfl rfl),
          st_plain rfl (op_len_fl _ _ _ Try.underlying25 rfl (by decide) (map_len _)),
          st_plain rfl (op_bin _ _ _ _ _ rfl rfl rfl),
          st_plain rfl (op_move _ _ _ _ (congrArg (fun b => AV.v (Value.bool b)) hg29_3) rfl),
          st_skip 3 127 _ true rfl rfl rfl rfl (List.Mem.head _),
          st_skip 3 127 _ true rfl rfl rfl rfl (List.Mem.head _),
          st_plain rfl (op_pick _ _ false _ rfl rfl),
          st_plain rfl (op_move _ _ _ _ rfl rfl),
          st_skip 7 131 _ true rfl rfl rfl rfl (List.Mem.head _),
          st_plain rfl (op_pick _ _ false _ rfl rfl),
          st_plain rfl (op_assign _ _ _ _ rfl rfl),
          trivial⟩ ?_
         exact hl177 _ (Option.some.inj h).symm
     ·rintro u144 hl145 hr146 ⟨s124, s125⟩ rr149 h ho147
      refine ht_seq ?_
      refine ht_seq ?_
      refine ht_seqR hn (El := [_, _, _, _, _, _, (65, .v (.int .i64 s125)), (66, .fr .shr true 2 (List.flatten (List.map T_Reply.ienc l))), (67, .v (.int .i64 (l.length : Int))), (68, .v (.bool ((decide (s125 < (l.length : Int))))))]) (init := [0, 1, 2, 3, 4, 5]) (fin := [0, 1, 2, 3, 4, 5, 9]) (sps := [⟨[5], [], [6], [(.slot 65)]⟩, ⟨[0], [], [7], [(.slot 66)]⟩, ⟨[7], [], [8], [(.slot 67)]⟩, ⟨[6, 8], [], [9], [(.slot 68)]⟩]) (es' := [(_, _), (_, _), (_, _), (_, _), (_, _), (_, _), (68, .v (.bool ((decide (s125 < (l.length : Int))))))]) (by kernel_rfl) rfl rfl
       ⟨st_plain rfl (op_move _ _ _ _ rfl rfl),
       st_plain rfl (op_move _ _ _ _ rfl rfl),
       st_plain rfl (op_len_fr _ _ _ Try.underlying42 rfl (by decide) (gflat_len T_Reply.ilen _)),
       st_plain rfl (op_bin _ _ _ _ _ rfl rfl rfl),
       trivial⟩ ?_
      refine pt_then ?_
      refine ht_cond _ rfl (fun hb150 => ?_) (fun hb150 => ?_)
      ·have h := cond_t hb150 h
       refine ht_skip ?_
       refine pt_then ?_
       refine ht_seq ?_
       refine ht_joinS h (fun (s157 : (List Int)) => [(0, .fr .shr true 2 (List.flatten (List.map T_Reply.ienc l))), (1, .v (.int .i64 cut)), (134, .glob (GL mx)), (6, .fl (.own 5) 1 (List.map (Value.int .u8) s53)), (14, .fl .ro 1 (List.map (Value.int .u8) s157)), (15, .v (.int .i64 s125))]) ?_ ?_
       ·rintro s157 h
        refine pt_then ?_
        obtain ⟨v104, hv104, h⟩ := bind_some h
        refine ht_seqR hn (El := [_, _, _, _, _, _, (69, .v (.int .i64 s125)), (70, .v (.int .i64 v104)), (15, .v (.int .i64 v104))]) (init := [0, 1, 2, 3, 4, 5]) (fin := [0, 1, 2, 3, 4, 8]) (sps := [⟨[5], [], [6], [(.slot 69)]⟩, ⟨[6], [], [7], [(.slot 70)]⟩, ⟨[7], [5], [8], [(.slot 15)]⟩]) (es' := [(_, _), (_, _), (_, _), (_, _), (_, _), (15, .v (.int .i64 v104))]) (by kernel_rfl) rfl rfl
         ⟨st_plain rfl (op_move _ _ _ _ rfl rfl),
         st_plain rfl (op_bin _ _ _ _ _ rfl rfl (ibind (f := Value.int .i64) (Option.some.inj hv104))),
         st_plain rfl (LOp.drop [_] (op_assign _ _ _ _ rfl rfl)),
         trivial⟩ ?_
        exact pt_next _ (Option.some.inj h).symm rfl
       ·intro u158 h hl159 hr160
        refine ht_block ?_
        refine ht_seq ?_
        refine ht_seq ?_
        obtain ⟨v80, hv80, h⟩ := bind_some h
        obtain ⟨v81, hv81, h⟩ := bind_some h
        obtain ⟨v82, hv82, h⟩ := bind_some h
        refine ht_seqR hn (El := [_, _, _, _, _, _, _, (71, .fr .shr true 2 (List.flatten (List.map T_Reply.ienc l))), (72, .v (.int .i64 s125)), (73, .eref (.slot 71) (v80 * 2)), (74, .agg [.v (.int .i64 v81.Code), .fl .shr 1 (List.map Value.string v81.Lines)]), (75, .v (.int .i64 v82)), (76, .v (.bool (v82 != 0)))]) (init := [0, 1, 2, 3, 4, 5, 6]) (fin := [0, 1, 2, 3, 4, 5, 12]) (sps := [⟨[0], [], [7], [(.slot 71)]⟩, ⟨[5], [], [8], [(.slot 72)]⟩, ⟨[7, 8], [], [9], [(.slot 73)]⟩, ⟨[9, 7], [], [10], [(.slot 74)]⟩, ⟨[10], [], [11], [(.slot 75)]⟩, ⟨[11], [], [12], [(.slot 76)]⟩]) (es' := [(_, _), (_, _), (_, _), (_, _), (_, _), (_, _), (76, .v (.bool (v82 != 0)))]) (by kernel_rfl) rfl rfl
         ⟨st_plain rfl (op_move _ _ _ _ rfl rfl),
         st_plain rfl (op_move _ _ _ _ rfl rfl),
         st_plain rfl (op_ix_fr _ _ _ _ _ _ _ _ Try.underlying42 sz24 (by decide) rfl rfl rfl (ix_ok hv80).1 (gflat_lt T_Reply.ilen (ix_ok hv80).2) rfl),
         st_plain rfl (op_loadA_fr _ _ _ _ _ _ _ _ Try.underlying24 rfl sz24 rfl rfl (gflat_get T_Reply.ilen hv81) (.cons (.v _) (.cons (.fl _ _ rfl) (.nil))) rfl (by decide)),
         st_plain rfl (op_call _ _ 14 _ _ rfl Try.call14 rfl (ok_answer_Check v81 _ hv82) rfl rfl),
         st_plain rfl (op_bin _ _ _ _ _ rfl rfl rfl),
         trivial⟩ ?_
        refine pt_then ?_
        refine ht_cond _ rfl (fun hb161 => ?_) (fun hb161 => ?_)
        ·have h := cond_t hb161 h
         refine ht_exit ?_
         refine pt_x_then ?_
         refine pt_x_in ?_
         refine pt_pick [0, 1, 2, 3, 4, 5] (by kernel_rfl) (es' := [(_, _), (_, _), (_, _), (_, _), (_, _), (_, _)]) rfl ?_
         exact hl159 _ (Option.some.inj h).symm
        ·have h := cond_f hb161 h
         refine ht_skip ?_
         refine pt_then ?_
         refine ht_seq ?_
         obtain ⟨v84, hv84, h⟩ := bind_some h
         refine ht_seqR hn (El := (_ :: _ :: _ :: _ :: _ :: _ :: _ :: (78, .fl .ro 1 (List.map (Value.int .u8) s124)) :: (79, .tup [.agg [.v (.int .i64 v84.1.Code), .fl (.own 9) 1 (List.map Value.string v84.1.Lines)], .v (.int .i64 v84.2.1), .v (.int .i64 v84.2.2)]) :: (77, .tup [.agg [.v (.int .i64 v84.1.Code), .fl (.own 9) 1 (List.map Value.string v84.1.Lines)], .v (.int .i64 v84.2.1), .v (.int .i64 v84.2.2)]) :: (80, .agg [.v (.int .i64 v84.1.Code), .fl (.own 9) 1 (List.map Value.string v84.1.Lines)]) :: (77, .tup [.any, .v (.int .i64 v84.2.1), .v (.int .i64 v84.2.2)]) :: (81, .v (.int .i64 v84.2.1)) :: (82, .v (.int .i64 v84.2.2)) :: (16, .box 24 [.v (.int .i64 0), .v (.slice none 0 0)]) :: (16, .box 24 [.v (.int .i64 v84.1.Code), .fl (.own 9) 1 (List.map Value.string v84.1.Lines)]) :: (17, .v (.int .i64 v84.2.1)) :: (18, .v (.int .i64 v84.2.2)) :: [])) (init := [0, 1, 2, 3, 4, 5, 6]) (fin := [0, 1, 2, 3, 4, 5, 15, 16, 17]) (sps := [⟨[4], [], [7], [(.slot 78)]⟩, ⟨[7, 2], [], [8], [(.slot 79)]⟩, ⟨[], [8], [9], [(.slot 77)]⟩, ⟨[], [9], [11, 10], [(.slot 80)]⟩, ⟨[11], [], [12], [(.slot 81)]⟩, ⟨[11], [], [13], [(.slot 82)]⟩, ⟨[], [], [14], [(.slot 16)]⟩, ⟨[], [10, 14], [15], [.cell 16 0, .cell 16 1]⟩, ⟨[12], [], [16], [(.slot 17)]⟩, ⟨[13], [], [17], [(.slot 18)]⟩]) (es' := [(_, _), (_, _), (_, _), (_, _), (_, _), (_, _), (16, .box 24 [.v (.int .i64 v84.1.Code), .fl (.own 9) 1 (List.map Value.string v84.1.Lines)]), (17, .v (.int .i64 v84.2.1)), (18, .v (.int .i64 v84.2.2))]) (by kernel_rfl) rfl rfl
          ⟨st_plain rfl (op_move _ _ _ _ rfl rfl),
          st_plain rfl (op_callG _ _ 134 11 _ _ rfl Try.call11 rfl rfl (fun _ h => h) (ok_answer_Read mx s124 _ hv84) rfl rfl),
          st_plain rfl (op_move_take _ _ _ _ rfl),
          st_plain rfl (op_extract_take _ _ _ _ _ rfl (Nat.le_of_ble_eq_true rfl) rfl rfl (by decide) rfl),
          st_plain rfl (op_extract _ _ _ _ _ rfl rfl (Nat.le_of_ble_eq_true rfl) rfl rfl),
          st_plain rfl (op_extract _ _ _ _ _ rfl rfl (Nat.le_of_ble_eq_true rfl) rfl rfl),
          st_plain rfl (op_alloc _ _ zr24),
          st_plain rfl (op_store_take _ _ _ _ _ _ _ _ sz24 rfl rfl rfl (Nat.le_of_ble_eq_true rfl) rfl rfl),
          st_plain rfl (op_assign _ _ _ _ rfl rfl),
          st_plain rfl (op_assign _ _ _ _ rfl rfl),
          trivial⟩ ?_
         refine pt_then ?_
         refine ht_seq ?_
         refine ht_seq ?_
         refine ht_joinS h (fun (s162 : Bool) => [(0, .fr .shr true 2 (List.flatten (List.map T_Reply.ienc l))), (1, .v (.int .i64 cut)), (134, .glob (GL mx)), (6, .fl (.own 5) 1 (List.map (Value.int .u8) s53)), (14, .fl .ro 1 (List.map (Value.int .u8) s124)), (15, .v (.int .i64 s125)), (17, .v (.int .i64 v84.2.1)), (103, .v (.bool s162))]) ?_ ?_
         ·rintro s162 h
          refine pt_then ?_
          refine ht_cond _ rfl (fun hb166 => ?_) (fun hb166 => ?_)
          ·have h := cond_t hb166 h
           refine ht_seq ?_
           refine ht_seqR hn (El := [_, _, _, _, _, _, _, _, (4, .v (.bool false))]) (init := [0, 1, 2, 3, 4, 5, 6, 7]) (fin := [2, 8]) (sps := [⟨[], [], [8], [(.slot 4)]⟩]) (es' := [(_, _), (4, .v (.bool false))]) (by kernel_rfl) rfl rfl
            ⟨st_plain rfl (op_assign _ _ _ _ rfl rfl),
            trivial⟩ ?_
           refine pt_then ?_
           refine ht_ret ?_
           refine pt_pick [1] (by kernel_rfl) (es' := [(_, _)]) rfl ?_
           refine pt_r_then ?_
           refine pt_r_in ?_
           refine pt_r_then ?_
           refine pt_r_then ?_
           refine pt_r_in ?_
           refine pt_r_then ?_
           have h := hr160 _ (Option.some.inj h).symm
           have h := hr146 _ (ho147 _ (Option.some.inj h).symm).symm
           obtain rfl := Option.some.inj h
           exact pt_ret hio rfl (.tmp _ _ .nil) rfl rfl
          ·have h := cond_f hb166 h
           refine ht_skip ?_
           refine pt_then ?_
           obtain ⟨v93, hv93, h⟩ := bind_some h
           refine ht_seqR hn (El := [_, _, _, _, _, _, _, _, (104, .fl .ro 1 (List.map (Value.int .u8) s124)), (105, .v (.int .i64 v84.2.1)), (106, .fl .ro 1 (List.map (Value.int .u8) v93)), (14, .fl .ro 1 (List.map (Value.int .u8) v93))]) (init := [0, 1, 2, 3, 4, 5, 6, 7]) (fin := [0, 1, 2, 3, 5, 11]) (sps := [⟨[4], [], [8], [(.slot 104)]⟩, ⟨[6], [], [9], [(.slot 105)]⟩, ⟨[8, 9], [], [10], [(.slot 106)]⟩, ⟨[10], [4], [11], [(.slot 14)]⟩]) (es' := [(_, _), (_, _), (_, _), (_, _), (_, _), (14, .fl .ro 1 (List.map (Value.int .u8) v93))]) (by kernel_rfl) rfl rfl
            ⟨st_plain rfl (op_move _ _ _ _ rfl rfl),
            st_plain rfl (op_move _ _ _ _ rfl rfl),
            st_plain rfl (op_sl _ _ _ v84.2.1 (s124.length : Int) _ Try.underlying25 sz5 rfl rfl ⟨_, rfl⟩ rfl hv93),
            st_plain rfl (LOp.drop [_] (op_assign _ _ _ _ rfl rfl)),
            trivial⟩ ?_
           refine pt_inb ?_
           refine pt_pick [0, 1, 2, 3, 5, 4] (by kernel_rfl) (es' := [(_, _), (_, _), (_, _), (_, _), (_, _), (_, _)]) rfl ?_
           exact hl159 _ (Option.some.inj h).symm
         ·intro u163 h hl164 hr165
          refine cond_some h (fun hg23_2 h => ?_) (fun hg23_2 h => ?_)
          ·refine ht_anyR (by kernel_rfl) hn (El := (_ :: _ :: _ :: _ :: _ :: _ :: _ :: _ :: _ :: (83, .v (.int .i64 v84.2.2)) :: (84, .v (.bool (v84.2.2 != 0))) :: (85, .v (.bool true)) :: (86, .v undef) :: (87, .v undef) :: (88, .v (.bool true)) :: (89, .v (.bool true)) :: (90, .v undef) :: (91, .v undef) :: (92, .v undef) :: (93, .v undef) :: (94, .v (.bool true)) :: (95, .v (.bool true)) :: (96, .v undef) :: (97, .v undef) :: (98, .v undef) :: (99, .v undef) :: (100, .v undef) :: (101, .v undef) :: (102, .v undef) :: (103, .v (.bool true)) :: [])) (init := [0, 1, 2, 3, 4, 5, 6, 7, 8]) (fin := [0, 1, 2, 3, 4, 5, 7, 29]) (sps := (⟨[8], [], [9], [(.slot 83)]⟩ :: ⟨[9], [], [10], [(.slot 84)]⟩ :: ⟨[10], [], [11], [(.slot 85)]⟩ :: ⟨[11], [], [12], [(.slot 86)]⟩ :: ⟨[11], [], [13], [(.slot 87)]⟩ :: ⟨[11], [], [14], [(.slot 88)]⟩ :: ⟨[14], [], [15], [(.slot 89)]⟩ :: ⟨[15], [], [16], [(.slot 90)]⟩ :: ⟨[15], [], [17], [(.slot 91)]⟩ :: ⟨[15], [], [18], [(.slot 92)]⟩ :: ⟨[15], [], [19], [(.slot 93)]⟩ :: ⟨[15], [], [20], [(.slot 94)]⟩ :: ⟨[20], [], [21], [(.slot 95)]⟩ :: ⟨[21], [], [22], [(.slot 96)]⟩ :: ⟨[21], [], [23], [(.slot 97)]⟩ :: ⟨[21], [], [24], [(.slot 98)]⟩ :: ⟨[21], [], [25], [(.slot 99)]⟩ :: ⟨[21], [], [26], [(.slot 100)]⟩ :: ⟨[21], [], [27], [(.slot 101)]⟩ :: ⟨[21], [], [28], [(.slot 102)]⟩ :: ⟨[21], [], [29], [(.slot 103)]⟩ :: [])) (es' := [(_, _), (_, _), (_, _), (_, _), (_, _), (_, _), (_, _), (103, .v (.bool true))]) (by kernel_rfl) rfl rfl
            ⟨st_plain rfl (op_move _ _ _ _ rfl rfl),
            st_plain rfl (op_bin _ _ _ _ _ rfl rfl rfl),
            st_plain rfl (op_move _ _ _ _ (congrArg (fun b => AV.v (Value.bool b)) hg23_2) rfl),
            st_skip 2 85 _ false rfl rfl rfl rfl (List.Mem.head _),
            st_skip 2 85 _ false rfl rfl rfl rfl (List.Mem.head _),
            st_plain rfl (op_pick _ _ true _ rfl rfl),
            st_plain rfl (op_move _ _ _ _ rfl rfl),
            st_skip 6 89 _ false rfl rfl rfl rfl (List.Mem.head _),
            st_skip 6 89 _ false rfl rfl rfl rfl (List.Mem.head _),
            st_skip 6 89 _ false rfl rfl rfl rfl (List.Mem.head _),
            st_skip 6 89 _ false rfl rfl rfl rfl (List.Mem.head _),
            st_plain rfl (op_pick _ _ true _ rfl rfl),
            st_plain rfl (op_move _ _ _ _ rfl rfl),
            st_skip 12 95 _ false rfl rfl rfl rfl (List.Mem.head _),
            st_skip 12 95 _ false rfl rfl rfl rfl (List.Mem.head _),
            st_skip 12 95 _ false rfl rfl rfl rfl (List.Mem.head _),
            st_skip 12 95 _ false rfl rfl rfl rfl (List.Mem.head _),
            st_skip 12 95 _ false rfl rfl rfl rfl (List.Mem.head _),
            st_skip 12 95 _ false rfl rfl rfl rfl (List.Mem.head _),
            st_skip 12 95 _ false rfl rfl rfl rfl (List.Mem.head _),
            st_plain rfl (op_pick _ _ true _ rfl rfl),
            trivial⟩ ?_
           exact hl164 _ (Option.some.inj h).symm
          ·refine cond_some h (fun hg23_6 h => ?_) (fun hg23_6 h => ?_)
           ·refine ht_anyR (by kernel_rfl) hn (El := (_ :: _ :: _ :: _ :: _ :: _ :: _ :: _ :: _ :: (83, .v (.int .i64 v84.2.2)) :: (84, .v (.bool (v84.2.2 != 0))) :: (85, .v (.bool false)) :: (86, .v (.int .i64 v84.2.1)) :: (87, .v (.bool ((decide (v84.2.1 < 1))))) :: (88, .v (.bool ((decide (v84.2.1 < 1))))) :: (89, .v (.bool true)) :: (90, .v undef) :: (91, .v undef) :: (92, .v undef) :: (93, .v undef) :: (94, .v (.bool true)) :: (95, .v (.bool true)) :: (96, .v undef) :: (97, .v undef) :: (98, .v undef) :: (99, .v undef) :: (100, .v undef) :: (101, .v undef) :: (102, .v undef) :: (103, .v (.bool true)) :: [])) (init := [0, 1, 2, 3, 4, 5, 6, 7, 8]) (fin := [0, 1, 2, 3, 4, 5, 7, 29]) (sps := (⟨[8], [], [9], [(.slot 83)]⟩ :: ⟨[9], [], [10], [(.slot 84)]⟩ :: ⟨[10], [], [11], [(.slot 85)]⟩ :: ⟨[11, 7], [], [12], [(.slot 86)]⟩ :: ⟨[11, 12], [], [13], [(.slot 87)]⟩ :: ⟨[11, 13], [], [14], [(.slot 88)]⟩ :: ⟨[14], [], [15], [(.slot 89)]⟩ :: ⟨[15], [], [16], [(.slot 90)]⟩ :: ⟨[15], [], [17], [(.slot 91)]⟩ :: ⟨[15], [], [18], [(.slot 92)]⟩ :: ⟨[15], [], [19], [(.slot 93)]⟩ :: ⟨[15], [], [20], [(.slot 94)]⟩ :: ⟨[20], [], [21], [(.slot 95)]⟩ :: ⟨[21], [], [22], [(.slot 96)]⟩ :: ⟨[21], [], [23], [(.slot 97)]⟩ :: ⟨[21], [], [24], [(.slot 98)]⟩ :: ⟨[21], [], [25], [(.slot 99)]⟩ :: ⟨[21], [], [26], [(.slot 100)]⟩ :: ⟨[21], [], [27], [(.slot 101)]⟩ :: ⟨[21], [], [28], [(.slot 102)]⟩ :: ⟨[21], [], [29], [(.slot 103)]⟩ :: [])) (es' := [(_, _), (_, _), (_, _), (_, _), (_, _), (_, _), (_, _), (103, .v (.bool true))]) (by kernel_rfl) rfl rfl
             ⟨st_plain rfl (op_move _ _ _ _ rfl rfl),
             st_plain rfl (op_bin _ _ _ _ _ rfl rfl rfl),
             st_plain rfl (op_move _ _ _ _ (congrArg (fun b => AV.v (Value.bool b)) hg23_2) rfl),
             st_run 2 85 false rfl rfl rfl (List.Mem.head _) (op_move _ _ _ _ rfl rfl),
             st_run 2 85 false rfl rfl rfl (List.Mem.head _) (op_bin _ _ _ _ _ rfl rfl rfl),
             st_plain rfl (op_pick _ _ false _ rfl rfl),
             st_plain rfl (op_move _ _ _ _ (congrArg (fun b => AV.v (Value.bool b)) hg23_6) rfl),
             st_skip 6 89 _ false rfl rfl rfl rfl (List.Mem.head _),
             st_skip 6 89 _ false rfl rfl rfl rfl (List.Mem.head _),
             st_skip 6 89 _ false rfl rfl rfl rfl (List.Mem.head _),
             st_skip 6 89 _ false rfl rfl rfl rfl (List.Mem.head _),
             st_plain rfl (op_pick _ _ true _ rfl rfl),
             st_plain rfl (op_move _ _ _ _ rfl rfl),
             st_skip 12 95 _ false rfl rfl rfl rfl (List.Mem.head _),
             st_skip 12 95 _ false rfl rfl rfl rfl (List.Mem.head _),
             st_skip 12 95 _ false rfl rfl rfl rfl (List.Mem.head _),
             st_skip 12 95 _ false rfl rfl rfl rfl (List.Mem.head _),
             st_skip 12 95 _ false rfl rfl rfl rfl (List.Mem.head _),
             st_skip 12 95 _ false rfl rfl rfl rfl (List.Mem.head _),
             st_skip 12 95 _ false rfl rfl rfl rfl (List.Mem.head _),
             st_plain rfl (op_pick _ _ true _ rfl rfl),
             trivial⟩ ?_
            exact hl164 _ (Option.some.inj h).symm
           ·refine cond_some h (fun hg23_12 h => ?_) (fun hg23_12 h => ?_)
            ·refine ht_anyR (by kernel_rfl) hn (El := (_ :: _ :: _ :: _ :: _ :: _ :: _ :: _ :: _ :: (83, .v (.int .i64 v84.2.2)) :: (84, .v (.bool (v84.2.2 != 0))) :: (85, .v (.bool false)) :: (86, .v (.int .i64 v84.2.1)) :: (87, .v (.bool ((decide (v84.2.1 < 1))))) :: (88, .v (.bool ((decide (v84.2.1 < 1))))) :: (89, .v (.bool false)) :: (90, .v (.int .i64 v84.2.1)) :: (91, .fl .ro 1 (List.map (Value.int .u8) s124)) :: (92, .v (.int .i64 (s124.length : Int))) :: (93, .v (.bool ((decide ((s124.length : Int) < v84.2.1))))) :: (94, .v (.bool ((decide ((s124.length : Int) < v84.2.1))))) :: (95, .v (.bool true)) :: (96, .v undef) :: (97, .v undef) :: (98, .v undef) :: (99, .v undef) :: (100, .v undef) :: (101, .v undef) :: (102, .v undef) :: (103, .v (.bool true)) :: [])) (init := [0, 1, 2, 3, 4, 5, 6, 7, 8]) (fin := [0, 1, 2, 3, 4, 5, 7, 29]) (sps := (⟨[8], [], [9], [(.slot 83)]⟩ :: ⟨[9], [], [10], [(.slot 84)]⟩ :: ⟨[10], [], [11], [(.slot 85)]⟩ :: ⟨[11, 7], [], [12], [(.slot 86)]⟩ :: ⟨[11, 12], [], [13], [(.slot 87)]⟩ :: ⟨[11, 13], [], [14], [(.slot 88)]⟩ :: ⟨[14], [], [15], [(.slot 89)]⟩ :: ⟨[15, 7], [], [16], [(.slot 90)]⟩ :: ⟨[15, 4], [], [17], [(.slot 91)]⟩ :: ⟨[15, 17], [], [18], [(.slot 92)]⟩ :: ⟨[15, 16, 18], [], [19], [(.slot 93)]⟩ :: ⟨[15, 19], [], [20], [(.slot 94)]⟩ :: ⟨[20], [], [21], [(.slot 95)]⟩ :: ⟨[21], [], [22], [(.slot 96)]⟩ :: ⟨[21], [], [23], [(.slot 97)]⟩ :: ⟨[21], [], [24], [(.slot 98)]⟩ :: ⟨[21], [], [25], [(.slot 99)]⟩ :: ⟨[21], [], [26], [(.slot 100)]⟩ :: ⟨[21], [], [27], [(.slot 101)]⟩ :: ⟨[21], [], [28], [(.slot 102)]⟩ :: ⟨[21], [], [29], [(.slot 103)]⟩ :: [])) (es' := [(_, _), (_, _), (_, _), (_, _), (_, _), (_, _), (_, _), (103, .v (.bool true))]) (by kernel_rfl) rfl rfl
              ⟨st_plain rfl (op_move _ _ _ _ rfl rfl),
              st_plain rfl (op_bin _ _ _ _ _ rfl rfl rfl),
              st_plain rfl (op_move _ _ _ _ (congrArg (fun b => AV.v (Value.bool b)) hg23_2) rfl),
              st_run 2 85 false rfl rfl rfl (List.Mem.head _) (op_move _ _ _ _ rfl rfl),
              st_run 2 85 false rfl rfl rfl (List.Mem.head _) (op_bin _ _ _ _ _ rfl rfl rfl),
              st_plain rfl (op_pick _ _ false _ rfl rfl),
              st_plain rfl (op_move _ _ _ _ (congrArg (fun b => AV.v (Value.bool b)) hg23_6) rfl),
              st_run 6 89 false rfl rfl rfl (List.Mem.head _) (op_move _ _ _ _ rfl rfl),
              st_run 6 89 false rfl rfl rfl (List.Mem.head _) (op_move _ _ _ _ rfl rfl),
              st_run 6 89 false rfl rfl rfl (List.Mem.head _) (op_len_fl _ _ _ Try.underlying25 rfl (by decide) (map_len _)),
              st_run 6 89 false rfl rfl rfl (List.Mem.head _) (op_bin _ _ _ _ _ rfl rfl rfl),
              st_plain rfl (op_pick _ _ false _ rfl rfl),
              st_plain rfl (op_move _ _ _ _ (congrArg (fun b => AV.v (Value.bool b)) hg23_12) rfl),
              st_skip 12 95 _ false rfl rfl rfl rfl (List.Mem.head _),
              st_skip 12 95 _ false rfl rfl rfl rfl (List.Mem.head _),
              st_skip 12 95 _ false rfl rfl rfl rfl (List.Mem.head _),
              st_skip 12 95 _ false rfl rfl rfl rfl (List.Mem.head _),
              st_skip 12 95 _ false rfl rfl rfl rfl (List.Mem.head _),
              st_skip 12 95 _ false rfl rfl rfl rfl (List.Mem.head _),
              st_skip 12 95 _ false rfl rfl rfl rfl (List.Mem.head _),
              st_plain rfl (op_pick _ _ true _ rfl rfl),
              trivial⟩ ?_
             exact hl164 _ (Option.some.inj h).symm
            ·obtain ⟨v85, hv85, h⟩ := bind_some h
             obtain ⟨v86, hv86, h⟩ := bind_some h
             obtain ⟨v87, hv87, h⟩ := bind_some h
             refine ht_anyR (by kernel_rfl) hn (El := (_ :: _ :: _ :: _ :: _ :: _ :: _ :: _ :: _ :: (83, .v (.int .i64 v84.2.2)) :: (84, .v (.bool (v84.2.2 != 0))) :: (85, .v (.bool false)) :: (86, .v (.int .i64 v84.2.1)) :: (87, .v (.bool ((decide (v84.2.1 < 1))))) :: (88, .v (.bool ((decide (v84.2.1 < 1))))) :: (89, .v (.bool false)) :: (90, .v (.int .i64 v84.2.1)) :: (91, .fl .ro 1 (List.map (Value.int .u8) s124)) :: (92, .v (.int .i64 (s124.length : Int))) :: (93, .v (.bool ((decide ((s124.length : Int) < v84.2.1))))) :: (94, .v (.bool ((decide ((s124.length : Int) < v84.2.1))))) :: (95, .v (.bool false)) :: (96, .agg [.v (.int .i64 v84.1.Code), .fl (.own 9) 1 (List.map Value.string v84.1.Lines)]) :: (97, .fr .shr true 2 (List.flatten (List.map T_Reply.ienc l))) :: (98, .v (.int .i64 s125)) :: (99, .eref (.slot 97) (v85 * 2)) :: (100, .agg [.v (.int .i64 v86.Code), .fl .shr 1 (List.map Value.string v86.Lines)]) :: (101, .v (.bool v87)) :: (102, .v (.bool (!v87))) :: (103, .v (.bool (!v87))) :: [])) (init := [0, 1, 2, 3, 4, 5, 6, 7, 8]) (fin := [0, 1, 2, 3, 4, 5, 7, 29]) (sps := (⟨[8], [], [9], [(.slot 83)]⟩ :: ⟨[9], [], [10], [(.slot 84)]⟩ :: ⟨[10], [], [11], [(.slot 85)]⟩ :: ⟨[11, 7], [], [12], [(.slot 86)]⟩ :: ⟨[11, 12], [], [13], [(.slot 87)]⟩ :: ⟨[11, 13], [], [14], [(.slot 88)]⟩ :: ⟨[14], [], [15], [(.slot 89)]⟩ :: ⟨[15, 7], [], [16], [(.slot 90)]⟩ :: ⟨[15, 4], [], [17], [(.slot 91)]⟩ :: ⟨[15, 17], [], [18], [(.slot 92)]⟩ :: ⟨[15, 16, 18], [], [19], [(.slot 93)]⟩ :: ⟨[15, 19], [], [20], [(.slot 94)]⟩ :: ⟨[20], [], [21], [(.slot 95)]⟩ :: ⟨[21], [6], [22], [(.slot 96)]⟩ :: ⟨[21, 0], [], [23], [(.slot 97)]⟩ :: ⟨[21, 5], [], [24], [(.slot 98)]⟩ :: ⟨[21, 23, 24], [], [25], [(.slot 99)]⟩ :: ⟨[21, 25, 23], [], [26], [(.slot 100)]⟩ :: ⟨[21, 22, 26], [], [27], [(.slot 101)]⟩ :: ⟨[21, 27], [], [28], [(.slot 102)]⟩ :: ⟨[21, 28], [], [29], [(.slot 103)]⟩ :: [])) (es' := [(_, _), (_, _), (_, _), (_, _), (_, _), (_, _), (_, _), (103, .v (.bool (!v87)))]) (by kernel_rfl) rfl rfl
              ⟨st_plain rfl (op_move _ _ _ _ rfl rfl),
              st_plain rfl (op_bin _ _ _ _ _ rfl rfl rfl),
              st_plain rfl (op_move _ _ _ _ (congrArg (fun b => AV.v (Value.bool b)) hg23_2) rfl),
              st_run 2 85 false rfl rfl rfl (List.Mem.head _) (op_move _ _ _ _ rfl rfl),
              st_run 2 85 false rfl rfl rfl (List.Mem.head _) (op_bin _ _ _ _ _ rfl rfl rfl),
              st_plain rfl (op_pick _ _ false _ rfl rfl),
              st_plain rfl (op_move _ _ _ _ (congrArg (fun b => AV.v (Value.bool b)) hg23_6) rfl),
              st_run 6 89 false rfl rfl rfl (List.Mem.head _) (op_move _ _ _ _ rfl rfl),
              st_run 6 89 false rfl rfl rfl (List.Mem.head _) (op_move _ _ _ _ rfl rfl),
              st_run 6 89 false rfl rfl rfl (List.Mem.head _) (op_len_fl _ _ _ Try.underlying25 rfl (by decide) (map_len _)),
              st_run 6 89 false rfl rfl rfl (List.Mem.head _) (op_bin _ _ _ _ _ rfl rfl rfl),
              st_plain rfl (op_pick _ _ false _ rfl rfl),
              st_plain rfl (op_move _ _ _ _ (congrArg (fun b => AV.v (Value.bool b)) hg23_12) rfl),
              st_run 12 95 false rfl rfl rfl (List.Mem.head _) (op_loadA_take _ _ _ _ Try.underlying24 rfl sz24 rfl rfl),
              st_run 12 95 false rfl rfl rfl (List.Mem.head _) (op_move _ _ _ _ rfl rfl),
              st_run 12 95 false rfl rfl rfl (List.Mem.head _) (op_move _ _ _ _ rfl rfl),
              st_run 12 95 false rfl rfl rfl (List.Mem.head _) (op_ix_fr _ _ _ _ _ _ _ _ Try.underlying42 sz24 (by decide) rfl rfl rfl (ix_ok hv85).1 (gflat_lt T_Reply.ilen (ix_ok hv85).2) rfl),
              st_run 12 95 false rfl rfl rfl (List.Mem.head _) (op_loadA_fr _ _ _ _ _ _ _ _ Try.underlying24 rfl sz24 rfl rfl (gflat_get T_Reply.ilen hv86) (.cons (.v _) (.cons (.fl _ _ rfl) (.nil))) rfl (by decide)),
              st_run 12 95 false rfl rfl rfl (List.Mem.head _) (op_call _ _ 17 _ _ rfl Try.call17 rfl (ok_wherrykeep_Reply v84.1 v86 _ hv87) rfl rfl),
              st_run 12 95 false rfl rfl rfl (List.Mem.head _) (op_un _ _ _ _ rfl rfl),
              st_plain rfl (op_pick _ _ false _ rfl rfl),
              trivial⟩ ?_
             exact hl164 _ (Option.some.inj h).symm
      ·have h := cond_f hb150 h
       refine ht_exit ?_
       refine pt_x_then ?_
       refine pt_x_then ?_
       refine pt_x_in ?_
       refine pt_pick [1, 2, 3, 4] (by kernel_rfl) (es' := [(_, _), (_, _), (_, _), (_, _)]) rfl ?_
       exact hl145 _ (ho147 _ (Option.some.inj h).symm).symm
   ·rintro u55 hl56 hr57 ⟨s37, s38, s39, s40⟩ rr60 h ho58
    refine ht_seq ?_
    refine ht_seq ?_
    refine ht_seqR hn (El := [_, _, _, _, _, _, _, (25, .v (.int .i64 s40)), (26, .fr .shr true 2 (List.flatten (List.map T_Reply.ienc l))), (27, .v (.int .i64 (l.length : Int))), (28, .v (.bool ((decide (s40 < (l.length : Int))))))]) (init := [0, 1, 2, 3, 4, 5, 6]) (fin := [0, 1, 2, 3, 4, 5, 6, 10]) (sps := [⟨[6], [], [7], [(.slot 25)]⟩, ⟨[0], [], [8], [(.slot 26)]⟩, ⟨[8], [], [9], [(.slot 27)]⟩, ⟨[7, 9], [], [10], [(.slot 28)]⟩]) (es' := [(_, _), (_, _), (_, _), (_, _), (_, _), (_, _), (_, _), (28, .v (.bool ((decide (s40 < (l.length : Int))))))]) (by kernel_rfl) rfl rfl
     ⟨st_plain rfl (op_move _ _ _ _ rfl rfl),
     st_plain rfl (op_move _ _ _ _ rfl rfl),
     st_plain rfl (op_len_fr _ _ _ Try.underlying42 rfl (by decide) (gflat_len T_Reply.ilen _)),
     st_plain rfl (op_bin _ _ _ _ _ rfl rfl rfl),
     trivial⟩ ?_
    refine pt_then ?_
    refine ht_cond _ rfl (fun hb61 => ?_) (fun hb61 => ?_)
    ·have h := cond_t hb61 h
     refine ht_skip ?_
     refine pt_then ?_
     refine ht_seq ?_
     refine ht_joinS h (fun ((s64, s65, s66) : (List Int) × (List Int) × Int) => [(0, .fr .shr true 2 (List.flatten (List.map T_Reply.ienc l))), (1, .v (.int .i64 cut)), (134, .glob (GL mx)), (5, .fl (.own 5) 1 (List.map (Value.int .u8) s64)), (6, .fl (.own 5) 1 (List.map (Value.int .u8) s65)), (7, .v (.int .i64 s66)), (8, .v (.int .i64 s40))]) ?_ ?_
     ·rintro ⟨s64, s65, s66⟩ h
      refine pt_then ?_
      obtain ⟨v21, hv21, h⟩ := bind_some h
      refine ht_seqR hn (El := [_, _, _, _, _, _, _, (29, .v (.int .i64 s40)), (30, .v (.int .i64 v21)), (8, .v (.int .i64 v21))]) (init := [0, 1, 2, 3, 4, 5, 6]) (fin := [0, 1, 2, 3, 4, 5, 9]) (sps := [⟨[6], [], [7], [(.slot 29)]⟩, ⟨[7], [], [8], [(.slot 30)]⟩, ⟨[8], [6], [9], [(.slot 8)]⟩]) (es' := [(_, _), (_, _), (_, _), (_, _), (_, _), (_, _), (8, .v (.int .i64 v21))]) (by kernel_rfl) rfl rfl
       ⟨st_plain rfl (op_move _ _ _ _ rfl rfl),
       st_plain rfl (op_bin _ _ _ _ _ rfl rfl (ibind (f := Value.int .i64) (Option.some.inj hv21))),
       st_plain rfl (LOp.drop [_] (op_assign _ _ _ _ rfl rfl)),
       trivial⟩ ?_
      exact pt_next _ (Option.some.inj h).symm rfl
     ·intro u67 h hl68 hr69
      refine ht_block ?_
      refine ht_seq ?_
      refine ht_seq ?_
      obtain ⟨v3, hv3, h⟩ := bind_some h
      obtain ⟨v4, hv4, h⟩ := bind_some h
      obtain ⟨v5, hv5, h⟩ := bind_some h
      refine ht_seqR hn (El := [_, _, _, _, _, _, _, _, (31, .fr .shr true 2 (List.flatten (List.map T_Reply.ienc l))), (32, .v (.int .i64 s40)), (33, .eref (.slot 31) (v3 * 2)), (34, .agg [.v (.int .i64 v4.Code), .fl .shr 1 (List.map Value.string v4.Lines)]), (35, .v (.bool v5))]) (init := [0, 1, 2, 3, 4, 5, 6, 7]) (fin := [0, 1, 2, 3, 4, 5, 6, 12]) (sps := [⟨[0], [], [8], [(.slot 31)]⟩, ⟨[6], [], [9], [(.slot 32)]⟩, ⟨[8, 9], [], [10], [(.slot 33)]⟩, ⟨[10, 8], [], [11], [(.slot 34)]⟩, ⟨[11], [], [12], [(.slot 35)]⟩]) (es' := [(_, _), (_, _), (_, _), (_, _), (_, _), (_, _), (_, _), (35, .v (.bool v5))]) (by kernel_rfl) rfl rfl
       ⟨st_plain rfl (op_move _ _ _ _ rfl rfl),
       st_plain rfl (op_move _ _ _ _ rfl rfl),
       st_plain rfl (op_ix_fr _ _ _ _ _ _ _ _ Try.underlying42 sz24 (by decide) rfl rfl rfl (ix_ok hv3).1 (gflat_lt T_Reply.ilen (ix_ok hv3).2) rfl),
       st_plain rfl (op_loadA_fr _ _ _ _ _ _ _ _ Try.underlying24 rfl sz24 rfl rfl (gflat_get T_Reply.ilen hv4) (.cons (.v _) (.cons (.fl _ _ rfl) (.nil))) rfl (by decide)),
       st_plain rfl (op_call _ _ 8 _ _ rfl Try.call8 rfl (ok_wherrylaw13_heavy v4 _ hv5) rfl rfl),
       trivial⟩ ?_
      refine pt_then ?_
      refine ht_cond _ rfl (fun hb70 => ?_) (fun hb70 => ?_)
      ·have h := cond_t hb70 h
       refine ht_seq ?_
       refine ht_seqR hn (El := [_, _, _, _, _, _, _, _, (4, .v (.bool true))]) (init := [0, 1, 2, 3, 4, 5, 6, 7]) (fin := [2, 8]) (sps := [⟨[], [], [8], [(.slot 4)]⟩]) (es' := [(_, _), (4, .v (.bool true))]) (by kernel_rfl) rfl rfl
        ⟨st_plain rfl (op_assign _ _ _ _ rfl rfl),
        trivial⟩ ?_
       refine pt_then ?_
       refine ht_ret ?_
       refine pt_pick [1] (by kernel_rfl) (es' := [(_, _)]) rfl ?_
       refine pt_r_then ?_
       refine pt_r_in ?_
       refine pt_r_then ?_
       refine pt_r_then ?_
       refine pt_r_in ?_
       refine pt_r_then ?_
       have h := hr69 _ (Option.some.inj h).symm
       have h := hr57 _ (ho58 _ (Option.some.inj h).symm).symm
       obtain rfl := Option.some.inj h
       exact pt_ret hio rfl (.tmp _ _ .nil) rfl rfl
      ·have h := cond_f hb70 h
       refine ht_skip ?_
       refine pt_then ?_
       refine ht_seq ?_
       obtain ⟨v7, hv7, h⟩ := bind_some h
       obtain ⟨v8, hv8, h⟩ := bind_some h
       obtain ⟨v9, hv9, h⟩ := bind_some h
       refine ht_seqR hn (El := (_ :: _ :: _ :: _ :: _ :: _ :: _ :: _ :: (37, .fr .shr true 2 (List.flatten (List.map T_Reply.ienc l))) :: (38, .v (.int .i64 s40)) :: (39, .eref (.slot 37) (v7 * 2)) :: (40, .agg [.v (.int .i64 v8.Code), .fl .shr 1 (List.map Value.string v8.Lines)]) :: (41, .tup [.fl (.own 5) 1 (List.map (Value.int .u8) v9.1), .v (.int .i64 v9.2)]) :: (36, .tup [.fl (.own 5) 1 (List.map (Value.int .u8) v9.1), .v (.int .i64 v9.2)]) :: (42, .fl (.own 5) 1 (List.map (Value.int .u8) v9.1)) :: (36, .tup [.any, .v (.int .i64 v9.2)]) :: (43, .v (.int .i64 v9.2)) :: (9, .fl (.own 5) 1 (List.map (Value.int .u8) v9.1)) :: (10, .v (.int .i64 v9.2)) :: [])) (init := [0, 1, 2, 3, 4, 5, 6, 7]) (fin := [0, 1, 2, 3, 4, 5, 6, 17, 18]) (sps := [⟨[0], [], [8], [(.slot 37)]⟩, ⟨[6], [], [9], [(.slot 38)]⟩, ⟨[8, 9], [], [10], [(.slot 39)]⟩, ⟨[10, 8], [], [11], [(.slot 40)]⟩, ⟨[11], [], [12], [(.slot 41)]⟩, ⟨[], [12], [13], [(.slot 36)]⟩, ⟨[], [13], [15, 14], [(.slot 42)]⟩, ⟨[15], [], [16], [(.slot 43)]⟩, ⟨[], [14], [17], [(.slot 9)]⟩, ⟨[16], [], [18], [(.slot 10)]⟩]) (es' := [(_, _), (_, _), (_, _), (_, _), (_, _), (_, _), (_, _), (9, .fl (.own 5) 1 (List.map (Value.int .u8) v9.1)), (10, .v (.int .i64 v9.2))]) (by kernel_rfl) rfl rfl
        ⟨st_plain rfl (op_move _ _ _ _ rfl rfl),
        st_plain rfl (op_move _ _ _ _ rfl rfl),
        st_plain rfl (op_ix_fr _ _ _ _ _ _ _ _ Try.underlying42 sz24 (by decide) rfl rfl rfl (ix_ok hv7).1 (gflat_lt T_Reply.ilen (ix_ok hv7).2) rfl),
        st_plain rfl (op_loadA_fr _ _ _ _ _ _ _ _ Try.underlying24 rfl sz24 rfl rfl (gflat_get T_Reply.ilen hv8) (.cons (.v _) (.cons (.fl _ _ rfl) (.nil))) rfl (by decide)),
        st_plain rfl (op_call _ _ 10 _ _ rfl Try.call10 rfl (ok_answer_Bytes v8 _ hv9) rfl rfl),
        st_plain rfl (op_move_take _ _ _ _ rfl),
        st_plain rfl (op_extract_take _ _ _ _ _ rfl (Nat.le_of_ble_eq_true rfl) rfl rfl (by decide) rfl),
        st_plain rfl (op_extract _ _ _ _ _ rfl rfl (Nat.le_of_ble_eq_true rfl) rfl rfl),
        st_plain rfl (op_assign_take _ _ _ _ rfl),
        st_plain rfl (op_assign _ _ _ _ rfl rfl),
        trivial⟩ ?_
       refine pt_then ?_
       refine ht_seq ?_
       refine ht_seq ?_
       refine ht_seqR hn (El := [_, _, _, _, _, _, _, _, _, (44, .v (.int .i64 v9.2)), (45, .v (.bool (v9.2 != 0)))]) (init := [0, 1, 2, 3, 4, 5, 6, 7, 8]) (fin := [0, 1, 2, 3, 4, 5, 6, 7, 10]) (sps := [⟨[8], [], [9], [(.slot 44)]⟩, ⟨[9], [], [10], [(.slot 45)]⟩]) (es' := [(_, _), (_, _), (_, _), (_, _), (_, _), (_, _), (_, _), (_, _), (45, .v (.bool (v9.2 != 0)))]) (by kernel_rfl) rfl rfl
        ⟨st_plain rfl (op_move _ _ _ _ rfl rfl),
        st_plain rfl (op_bin _ _ _ _ _ rfl rfl rfl),
        trivial⟩ ?_
       refine pt_then ?_
       refine ht_cond _ rfl (fun hb71 => ?_) (fun hb71 => ?_)
       ·have h := cond_t hb71 h
        refine ht_exit ?_
        refine pt_x_then ?_
        refine pt_x_in ?_
        refine pt_pick [0, 1, 2, 3, 4, 5, 6] (by kernel_rfl) (es' := [(_, _), (_, _), (_, _), (_, _), (_, _), (_, _), (_, _)]) rfl ?_
        exact hl68 _ (Option.some.inj h).symm
       ·have h := cond_f hb71 h
        refine ht_skip ?_
        refine pt_then ?_
        refine ht_seq ?_
        obtain ⟨v11, hv11, h⟩ := bind_some h
        refine ht_seqR hn (El := (_ :: _ :: _ :: _ :: _ :: _ :: _ :: _ :: _ :: (46, .fl (.own 5) 1 (List.map (Value.int .u8) s37)) :: (47, .same (.slot 9)) :: (48, .fl (.own 5) 1 (List.map (Value.int .u8) v11)) :: (46, .any) :: (49, .fl (.own 5) 1 (List.map (Value.int .u8) v9.1)) :: (5, .fl (.own 5) 1 (List.map (Value.int .u8) v11)) :: (6, .fl (.own 5) 1 (List.map (Value.int .u8) v9.1)) :: [])) (init := [0, 1, 2, 3, 4, 5, 6, 7, 8]) (fin := [0, 1, 2, 5, 6, 14, 15]) (sps := [⟨[], [3], [9], [(.slot 46)]⟩, ⟨[7], [], [10], [(.slot 47)]⟩, ⟨[10, 7], [9], [12, 11], [(.slot 48)]⟩, ⟨[], [10, 7], [13], [(.slot 49)]⟩, ⟨[], [11], [14], [(.slot 5)]⟩, ⟨[], [4, 13], [15], [(.slot 6)]⟩]) (es' := [(_, _), (_, _), (_, _), (_, _), (_, _), (5, .fl (.own 5) 1 (List.map (Value.int .u8) v11)), (6, .fl (.own 5) 1 (List.map (Value.int .u8) v9.1))]) (by kernel_rfl) rfl rfl
         ⟨st_plain rfl (op_move_take _ _ _ _ rfl),
         st_plain rfl (op_move _ _ _ _ rfl rfl),
         st_plain rfl (op_app _ _ _ _ _ el25 rfl rfl (map_len _) (map_len _) hv11 ((List.map_append).symm.trans (congrArg (List.map _) (app_eq hv11)))),
         st_plain rfl (LOp.drop [_] (op_move_take _ _ _ _ rfl)),
         st_plain rfl (op_assign_take _ _ _ _ rfl),
         st_plain rfl (LOp.drop [_] (op_assign_take _ _ _ _ rfl)),
         trivial⟩ ?_
        refine pt_then ?_
        obtain ⟨v12, hv12, h⟩ := bind_some h
        refine ht_seqR hn (El := [_, _, _, _, _, _, _, (50, .v (.int .i64 s39)), (51, .v (.int .i64 v12)), (7, .v (.int .i64 v12))]) (init := [0, 1, 2, 3, 4, 5, 6]) (fin := [0, 1, 2, 4, 5, 6, 9]) (sps := [⟨[3], [], [7], [(.slot 50)]⟩, ⟨[7], [], [8], [(.slot 51)]⟩, ⟨[8], [3], [9], [(.slot 7)]⟩]) (es' := [(_, _), (_, _), (_, _), (_, _), (_, _), (_, _), (7, .v (.int .i64 v12))]) (by kernel_rfl) rfl rfl
         ⟨st_plain rfl (op_move _ _ _ _ rfl rfl),
         st_plain rfl (op_bin _ _ _ _ _ rfl rfl (ibind (f := Value.int .i64) (Option.some.inj hv12))),
         st_plain rfl (LOp.drop [_] (op_assign _ _ _ _ rfl rfl)),
         trivial⟩ ?_
        refine pt_inb ?_
        refine pt_pick [0, 1, 2, 4, 5, 6, 3] (by kernel_rfl) (es' := [(_, _), (_, _), (_, _), (_, _), (_, _), (_, _), (_, _)]) rfl ?_
        exact hl68 _ (Option.some.inj h).symm
    ·have h := cond_f hb61 h
     refine ht_exit ?_
     refine pt_x_then ?_
     refine pt_x_then ?_
     refine pt_x_in ?_
     refine pt_pick [0, 1, 2, 3, 4, 5] (by kernel_rfl) (es' := [(_, _), (_, _), (_, _), (_, _), (_, _), (_, _)]) rfl ?_
     exact hl56 _ (ho58 _ (Option.some.inj h).symm).symm

end Go.Proofs.Ytegjndibgnnpcaa
