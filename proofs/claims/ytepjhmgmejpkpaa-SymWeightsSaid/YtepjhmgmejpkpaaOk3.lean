/-
  The model's runs are what is told in Lean.
-/
import Derived.Test.YtepjhmgmejpkpaaProg
import Derived.KernelRfl
import Derived.Test.YtepjhmgmejpkpaaOk2
set_option linter.unusedVariables false
set_option linter.unusedSimpArgs false
namespace Go.Proofs.Ytepjhmgmejpkpaa
open Go.Abs Go.Abs.Sh

set_option maxHeartbeats 1000000 in
theorem ok_wherrylaw05_SymExact (n : Int) (l : (List T_Tok)) (r : Bool) (h : Sh.wherrylaw05_SymExact n l = some r) : FnOK Try.prog 3 [.v (.int .i64 n), .fl .shr 3 (List.flatten (List.map T_Tok.enc l))] (.v (.bool r)) := by
  unfold Sh.wherrylaw05_SymExact at h
  refine fn_ok Try.func3 rfl (Nat.le_of_ble_eq_true rfl) rfl rfl fun g0 hn hio => ?_
  refine ht_seq ?_
  refine ht_seqR hn (El := [_, _, (4, .v (.bool false))]) (init := [0, 1]) (fin := [0, 1]) (sps := [⟨[], [], [2], [(.slot 4)]⟩]) (es' := [(_, _), (_, _)]) (by kernel_rfl) rfl rfl
    ⟨st_plain rfl (op_assign _ _ _ _ rfl rfl),
      trivial⟩ ?_
  refine pt_then ?_
  refine ht_seq ?_
  refine ht_seq ?_
  refine ht_seqR hn (El := [_, _, (22, .fl .shr 3 (List.flatten (List.map T_Tok.enc l))), (23, .v (.int .i64 (l.length : Int))), (24, .v (.bool ((decide (600 < (l.length : Int))))))]) (init := [0, 1]) (fin := [0, 1, 4]) (sps := [⟨[1], [], [2], [(.slot 22)]⟩, ⟨[2], [], [3], [(.slot 23)]⟩, ⟨[3], [], [4], [(.slot 24)]⟩]) (es' := [(_, _), (_, _), (24, .v (.bool ((decide (600 < (l.length : Int))))))]) (by kernel_rfl) rfl rfl
    ⟨st_plain rfl (op_move _ _ _ _ rfl rfl),
      st_plain rfl (op_len_fl _ _ _ Try.underlying22 rfl (by decide) (flat_len T_Tok.len _)),
      st_plain rfl (op_bin _ _ _ _ _ rfl rfl rfl),
      trivial⟩ ?_
  refine pt_then ?_
  refine ht_cond _ rfl (fun hb1 => ?_) (fun hb1 => ?_)
  · have h := cond_t hb1 h
    refine ht_seq ?_
    refine ht_seqR hn (El := [_, _, _, (4, .v (.bool true))]) (init := [0, 1, 2]) (fin := [3]) (sps := [⟨[], [], [3], [(.slot 4)]⟩]) (es' := [(4, .v (.bool true))]) (by kernel_rfl) rfl rfl
      ⟨st_plain rfl (op_assign _ _ _ _ rfl rfl),
        trivial⟩ ?_
    refine pt_then ?_
    refine ht_ret ?_
    refine pt_r_then ?_
    obtain rfl := Option.some.inj h
    exact pt_ret hio rfl (.tmp _ _ .nil) rfl rfl
  · have h := cond_f hb1 h
    refine ht_skip ?_
    refine pt_then ?_
    refine ht_seq ?_
    obtain ⟨v2, hv2, h⟩ := bind_some h
    refine ht_seqR hn (El := [_, _, _, (26, .v (.int .i64 n)), (27, .tup [.v (.int .i64 v2.1), .v (.int .i64 v2.2.1), .v (.int .i64 v2.2.2.1), .v (.int .i64 v2.2.2.2)]), (25, .tup [.v (.int .i64 v2.1), .v (.int .i64 v2.2.1), .v (.int .i64 v2.2.2.1), .v (.int .i64 v2.2.2.2)]), (28, .v (.int .i64 v2.1)), (29, .v (.int .i64 v2.2.1)), (30, .v (.int .i64 v2.2.2.1)), (31, .v (.int .i64 v2.2.2.2)), (5, .v (.int .i64 v2.1)), (6, .v (.int .i64 v2.2.1)), (7, .v (.int .i64 v2.2.2.1)), (8, .v (.int .i64 v2.2.2.2))]) (init := [0, 1, 2]) (fin := [0, 1, 10, 11, 12, 13]) (sps := [⟨[0], [], [3], [(.slot 26)]⟩, ⟨[3], [], [4], [(.slot 27)]⟩, ⟨[], [4], [5], [(.slot 25)]⟩, ⟨[5], [], [6], [(.slot 28)]⟩, ⟨[5], [], [7], [(.slot 29)]⟩, ⟨[5], [], [8], [(.slot 30)]⟩, ⟨[5], [], [9], [(.slot 31)]⟩, ⟨[6], [], [10], [(.slot 5)]⟩, ⟨[7], [], [11], [(.slot 6)]⟩, ⟨[8], [], [12], [(.slot 7)]⟩, ⟨[9], [], [13], [(.slot 8)]⟩]) (es' := [(_, _), (_, _), (5, .v (.int .i64 v2.1)), (6, .v (.int .i64 v2.2.1)), (7, .v (.int .i64 v2.2.2.1)), (8, .v (.int .i64 v2.2.2.2))]) (by kernel_rfl) rfl rfl
      ⟨st_plain rfl (op_move _ _ _ _ rfl rfl),
        st_plain rfl (op_call _ _ 9 _ _ rfl Try.call9 rfl (ok_sym_Len n _ hv2) rfl rfl),
        st_plain rfl (op_move_take _ _ _ _ rfl),
        st_plain rfl (op_extract _ _ _ _ _ rfl rfl (Nat.le_of_ble_eq_true rfl) rfl rfl),
        st_plain rfl (op_extract _ _ _ _ _ rfl rfl (Nat.le_of_ble_eq_true rfl) rfl rfl),
        st_plain rfl (op_extract _ _ _ _ _ rfl rfl (Nat.le_of_ble_eq_true rfl) rfl rfl),
        st_plain rfl (op_extract _ _ _ _ _ rfl rfl (Nat.le_of_ble_eq_true rfl) rfl rfl),
        st_plain rfl (op_assign _ _ _ _ rfl rfl),
        st_plain rfl (op_assign _ _ _ _ rfl rfl),
        st_plain rfl (op_assign _ _ _ _ rfl rfl),
        st_plain rfl (op_assign _ _ _ _ rfl rfl),
        trivial⟩ ?_
    refine pt_then ?_
    refine ht_seq ?_
    obtain ⟨v3, hv3, h⟩ := bind_some h
    refine ht_seqR hn (El := (_ :: _ :: _ :: _ :: _ :: _ :: (33, .v (.int .i64 n)) :: (34, .tup [.v (.int .i64 v3.1), .v (.int .i64 v3.2.1), .v (.int .i64 v3.2.2.1), .v (.int .i64 v3.2.2.2)]) :: (32, .tup [.v (.int .i64 v3.1), .v (.int .i64 v3.2.1), .v (.int .i64 v3.2.2.1), .v (.int .i64 v3.2.2.2)]) :: (35, .v (.int .i64 v3.1)) :: (36, .v (.int .i64 v3.2.1)) :: (37, .v (.int .i64 v3.2.2.1)) :: (38, .v (.int .i64 v3.2.2.2)) :: (9, .v (.int .i64 v3.1)) :: (10, .v (.int .i64 v3.2.1)) :: (11, .v (.int .i64 v3.2.2.1)) :: (12, .v (.int .i64 v3.2.2.2)) :: [])) (init := [0, 1, 2, 3, 4, 5]) (fin := [0, 1, 2, 3, 4, 5, 13, 14, 15, 16]) (sps := [⟨[0], [], [6], [(.slot 33)]⟩, ⟨[6], [], [7], [(.slot 34)]⟩, ⟨[], [7], [8], [(.slot 32)]⟩, ⟨[8], [], [9], [(.slot 35)]⟩, ⟨[8], [], [10], [(.slot 36)]⟩, ⟨[8], [], [11], [(.slot 37)]⟩, ⟨[8], [], [12], [(.slot 38)]⟩, ⟨[9], [], [13], [(.slot 9)]⟩, ⟨[10], [], [14], [(.slot 10)]⟩, ⟨[11], [], [15], [(.slot 11)]⟩, ⟨[12], [], [16], [(.slot 12)]⟩]) (es' := [(_, _), (_, _), (_, _), (_, _), (_, _), (_, _), (9, .v (.int .i64 v3.1)), (10, .v (.int .i64 v3.2.1)), (11, .v (.int .i64 v3.2.2.1)), (12, .v (.int .i64 v3.2.2.2))]) (by kernel_rfl) rfl rfl
      ⟨st_plain rfl (op_move _ _ _ _ rfl rfl),
        st_plain rfl (op_call _ _ 10 _ _ rfl Try.call10 rfl (ok_wherryref01_Len n _ hv3) rfl rfl),
        st_plain rfl (op_move_take _ _ _ _ rfl),
        st_plain rfl (op_extract _ _ _ _ _ rfl rfl (Nat.le_of_ble_eq_true rfl) rfl rfl),
        st_plain rfl (op_extract _ _ _ _ _ rfl rfl (Nat.le_of_ble_eq_true rfl) rfl rfl),
        st_plain rfl (op_extract _ _ _ _ _ rfl rfl (Nat.le_of_ble_eq_true rfl) rfl rfl),
        st_plain rfl (op_extract _ _ _ _ _ rfl rfl (Nat.le_of_ble_eq_true rfl) rfl rfl),
        st_plain rfl (op_assign _ _ _ _ rfl rfl),
        st_plain rfl (op_assign _ _ _ _ rfl rfl),
        st_plain rfl (op_assign _ _ _ _ rfl rfl),
        st_plain rfl (op_assign _ _ _ _ rfl rfl),
        trivial⟩ ?_
    refine pt_then ?_
    refine ht_seq ?_
    refine ht_seq ?_
    refine ht_joinS h (fun (s4 : Bool) => [(0, .v (.int .i64 n)), (1, .fl .shr 3 (List.flatten (List.map T_Tok.enc l))), (56, .v (.bool s4))]) ?_ ?_
    · rintro s4 h
      refine pt_then ?_
      refine ht_cond _ rfl (fun hb8 => ?_) (fun hb8 => ?_)
      · have h := cond_t hb8 h
        refine ht_seq ?_
        refine ht_seqR hn (El := [_, _, _, (4, .v (.bool false))]) (init := [0, 1, 2]) (fin := [3]) (sps := [⟨[], [], [3], [(.slot 4)]⟩]) (es' := [(4, .v (.bool false))]) (by kernel_rfl) rfl rfl
          ⟨st_plain rfl (op_assign _ _ _ _ rfl rfl),
            trivial⟩ ?_
        refine pt_then ?_
        refine ht_ret ?_
        refine pt_r_then ?_
        obtain rfl := Option.some.inj h
        exact pt_ret hio rfl (.tmp _ _ .nil) rfl rfl
      · have h := cond_f hb8 h
        refine ht_skip ?_
        refine pt_then ?_
        refine ht_seq ?_
        obtain ⟨v9, hv9, h⟩ := bind_some h
        refine ht_seqR hn (El := [_, _, _, (58, .v (.int .i64 n)), (59, .tup [.v (.int .i64 v9.1), .v (.int .i64 v9.2.1), .v (.int .i64 v9.2.2.1), .v (.int .i64 v9.2.2.2)]), (57, .tup [.v (.int .i64 v9.1), .v (.int .i64 v9.2.1), .v (.int .i64 v9.2.2.1), .v (.int .i64 v9.2.2.2)]), (60, .v (.int .i64 v9.1)), (61, .v (.int .i64 v9.2.1)), (62, .v (.int .i64 v9.2.2.1)), (63, .v (.int .i64 v9.2.2.2)), (5, .v (.int .i64 v9.1)), (6, .v (.int .i64 v9.2.1)), (7, .v (.int .i64 v9.2.2.1)), (8, .v (.int .i64 v9.2.2.2))]) (init := [0, 1, 2]) (fin := [0, 1, 10, 11, 12, 13]) (sps := [⟨[0], [], [3], [(.slot 58)]⟩, ⟨[3], [], [4], [(.slot 59)]⟩, ⟨[], [4], [5], [(.slot 57)]⟩, ⟨[5], [], [6], [(.slot 60)]⟩, ⟨[5], [], [7], [(.slot 61)]⟩, ⟨[5], [], [8], [(.slot 62)]⟩, ⟨[5], [], [9], [(.slot 63)]⟩, ⟨[6], [], [10], [(.slot 5)]⟩, ⟨[7], [], [11], [(.slot 6)]⟩, ⟨[8], [], [12], [(.slot 7)]⟩, ⟨[9], [], [13], [(.slot 8)]⟩]) (es' := [(_, _), (_, _), (5, .v (.int .i64 v9.1)), (6, .v (.int .i64 v9.2.1)), (7, .v (.int .i64 v9.2.2.1)), (8, .v (.int .i64 v9.2.2.2))]) (by kernel_rfl) rfl rfl
          ⟨st_plain rfl (op_move _ _ _ _ rfl rfl),
            st_plain rfl (op_call _ _ 11 _ _ rfl Try.call11 rfl (ok_sym_Dist n _ hv9) rfl rfl),
            st_plain rfl (op_move_take _ _ _ _ rfl),
            st_plain rfl (op_extract _ _ _ _ _ rfl rfl (Nat.le_of_ble_eq_true rfl) rfl rfl),
            st_plain rfl (op_extract _ _ _ _ _ rfl rfl (Nat.le_of_ble_eq_true rfl) rfl rfl),
            st_plain rfl (op_extract _ _ _ _ _ rfl rfl (Nat.le_of_ble_eq_true rfl) rfl rfl),
            st_plain rfl (op_extract _ _ _ _ _ rfl rfl (Nat.le_of_ble_eq_true rfl) rfl rfl),
            st_plain rfl (op_assign _ _ _ _ rfl rfl),
            st_plain rfl (op_assign _ _ _ _ rfl rfl),
            st_plain rfl (op_assign _ _ _ _ rfl rfl),
            st_plain rfl (op_assign _ _ _ _ rfl rfl),
            trivial⟩ ?_
        refine pt_then ?_
        refine ht_seq ?_
        obtain ⟨v10, hv10, h⟩ := bind_some h
        refine ht_seqR hn (El := (_ :: _ :: _ :: _ :: _ :: _ :: (65, .v (.int .i64 n)) :: (66, .tup [.v (.int .i64 v10.1), .v (.int .i64 v10.2.1), .v (.int .i64 v10.2.2.1), .v (.int .i64 v10.2.2.2)]) :: (64, .tup [.v (.int .i64 v10.1), .v (.int .i64 v10.2.1), .v (.int .i64 v10.2.2.1), .v (.int .i64 v10.2.2.2)]) :: (67, .v (.int .i64 v10.1)) :: (68, .v (.int .i64 v10.2.1)) :: (69, .v (.int .i64 v10.2.2.1)) :: (70, .v (.int .i64 v10.2.2.2)) :: (9, .v (.int .i64 v10.1)) :: (10, .v (.int .i64 v10.2.1)) :: (11, .v (.int .i64 v10.2.2.1)) :: (12, .v (.int .i64 v10.2.2.2)) :: [])) (init := [0, 1, 2, 3, 4, 5]) (fin := [0, 1, 2, 3, 4, 5, 13, 14, 15, 16]) (sps := [⟨[0], [], [6], [(.slot 65)]⟩, ⟨[6], [], [7], [(.slot 66)]⟩, ⟨[], [7], [8], [(.slot 64)]⟩, ⟨[8], [], [9], [(.slot 67)]⟩, ⟨[8], [], [10], [(.slot 68)]⟩, ⟨[8], [], [11], [(.slot 69)]⟩, ⟨[8], [], [12], [(.slot 70)]⟩, ⟨[9], [], [13], [(.slot 9)]⟩, ⟨[10], [], [14], [(.slot 10)]⟩, ⟨[11], [], [15], [(.slot 11)]⟩, ⟨[12], [], [16], [(.slot 12)]⟩]) (es' := [(_, _), (_, _), (_, _), (_, _), (_, _), (_, _), (9, .v (.int .i64 v10.1)), (10, .v (.int .i64 v10.2.1)), (11, .v (.int .i64 v10.2.2.1)), (12, .v (.int .i64 v10.2.2.2))]) (by kernel_rfl) rfl rfl
          ⟨st_plain rfl (op_move _ _ _ _ rfl rfl),
            st_plain rfl (op_call _ _ 12 _ _ rfl Try.call12 rfl (ok_wherryref01_Dist n _ hv10) rfl rfl),
            st_plain rfl (op_move_take _ _ _ _ rfl),
            st_plain rfl (op_extract _ _ _ _ _ rfl rfl (Nat.le_of_ble_eq_true rfl) rfl rfl),
            st_plain rfl (op_extract _ _ _ _ _ rfl rfl (Nat.le_of_ble_eq_true rfl) rfl rfl),
            st_plain rfl (op_extract _ _ _ _ _ rfl rfl (Nat.le_of_ble_eq_true rfl) rfl rfl),
            st_plain rfl (op_extract _ _ _ _ _ rfl rfl (Nat.le_of_ble_eq_true rfl) rfl rfl),
            st_plain rfl (op_assign _ _ _ _ rfl rfl),
            st_plain rfl (op_assign _ _ _ _ rfl rfl),
            st_plain rfl (op_assign _ _ _ _ rfl rfl),
            st_plain rfl (op_assign _ _ _ _ rfl rfl),
            trivial⟩ ?_
        refine pt_then ?_
        refine ht_seq ?_
        refine ht_seq ?_
        refine ht_joinS h (fun (s11 : Bool) => [(0, .v (.int .i64 n)), (1, .fl .shr 3 (List.flatten (List.map T_Tok.enc l))), (88, .v (.bool s11))]) ?_ ?_
        · rintro s11 h
          refine pt_then ?_
          refine ht_cond _ rfl (fun hb15 => ?_) (fun hb15 => ?_)
          · have h := cond_t hb15 h
            refine ht_seq ?_
            refine ht_seqR hn (El := [_, _, _, (4, .v (.bool false))]) (init := [0, 1, 2]) (fin := [3]) (sps := [⟨[], [], [3], [(.slot 4)]⟩]) (es' := [(4, .v (.bool false))]) (by kernel_rfl) rfl rfl
              ⟨st_plain rfl (op_assign _ _ _ _ rfl rfl),
                trivial⟩ ?_
            refine pt_then ?_
            refine ht_ret ?_
            refine pt_r_then ?_
            obtain rfl := Option.some.inj h
            exact pt_ret hio rfl (.tmp _ _ .nil) rfl rfl
          · have h := cond_f hb15 h
            refine ht_skip ?_
            refine pt_then ?_
            refine ht_seq ?_
            obtain ⟨v16, hv16, h⟩ := bind_some h
            refine ht_seqR hn (El := [_, _, _, (90, .v (.int .i64 n)), (91, .tup [.v (.int .i64 v16.1), .v (.int .i64 v16.2.1), .v (.int .i64 v16.2.2)]), (89, .tup [.v (.int .i64 v16.1), .v (.int .i64 v16.2.1), .v (.int .i64 v16.2.2)]), (92, .v (.int .i64 v16.1)), (93, .v (.int .i64 v16.2.1)), (94, .v (.int .i64 v16.2.2)), (5, .v (.int .i64 v16.1)), (6, .v (.int .i64 v16.2.1)), (8, .v (.int .i64 v16.2.2))]) (init := [0, 1, 2]) (fin := [0, 1, 9, 10, 11]) (sps := [⟨[0], [], [3], [(.slot 90)]⟩, ⟨[3], [], [4], [(.slot 91)]⟩, ⟨[], [4], [5], [(.slot 89)]⟩, ⟨[5], [], [6], [(.slot 92)]⟩, ⟨[5], [], [7], [(.slot 93)]⟩, ⟨[5], [], [8], [(.slot 94)]⟩, ⟨[6], [], [9], [(.slot 5)]⟩, ⟨[7], [], [10], [(.slot 6)]⟩, ⟨[8], [], [11], [(.slot 8)]⟩]) (es' := [(_, _), (_, _), (5, .v (.int .i64 v16.1)), (6, .v (.int .i64 v16.2.1)), (8, .v (.int .i64 v16.2.2))]) (by kernel_rfl) rfl rfl
              ⟨st_plain rfl (op_move _ _ _ _ rfl rfl),
                st_plain rfl (op_call _ _ 13 _ _ rfl Try.call13 rfl (ok_sym_LenOf n _ hv16) rfl rfl),
                st_plain rfl (op_move_take _ _ _ _ rfl),
                st_plain rfl (op_extract _ _ _ _ _ rfl rfl (Nat.le_of_ble_eq_true rfl) rfl rfl),
                st_plain rfl (op_extract _ _ _ _ _ rfl rfl (Nat.le_of_ble_eq_true rfl) rfl rfl),
                st_plain rfl (op_extract _ _ _ _ _ rfl rfl (Nat.le_of_ble_eq_true rfl) rfl rfl),
                st_plain rfl (op_assign _ _ _ _ rfl rfl),
                st_plain rfl (op_assign _ _ _ _ rfl rfl),
                st_plain rfl (op_assign _ _ _ _ rfl rfl),
                trivial⟩ ?_
            refine pt_then ?_
            refine ht_seq ?_
            obtain ⟨v17, hv17, h⟩ := bind_some h
            refine ht_seqR hn (El := [_, _, _, _, _, (96, .v (.int .i64 n)), (97, .tup [.v (.int .i64 v17.1), .v (.int .i64 v17.2.1), .v (.int .i64 v17.2.2)]), (95, .tup [.v (.int .i64 v17.1), .v (.int .i64 v17.2.1), .v (.int .i64 v17.2.2)]), (98, .v (.int .i64 v17.1)), (99, .v (.int .i64 v17.2.1)), (100, .v (.int .i64 v17.2.2)), (9, .v (.int .i64 v17.1)), (10, .v (.int .i64 v17.2.1)), (12, .v (.int .i64 v17.2.2))]) (init := [0, 1, 2, 3, 4]) (fin := [0, 1, 2, 3, 4, 11, 12, 13]) (sps := [⟨[0], [], [5], [(.slot 96)]⟩, ⟨[5], [], [6], [(.slot 97)]⟩, ⟨[], [6], [7], [(.slot 95)]⟩, ⟨[7], [], [8], [(.slot 98)]⟩, ⟨[7], [], [9], [(.slot 99)]⟩, ⟨[7], [], [10], [(.slot 100)]⟩, ⟨[8], [], [11], [(.slot 9)]⟩, ⟨[9], [], [12], [(.slot 10)]⟩, ⟨[10], [], [13], [(.slot 12)]⟩]) (es' := [(_, _), (_, _), (_, _), (_, _), (_, _), (9, .v (.int .i64 v17.1)), (10, .v (.int .i64 v17.2.1)), (12, .v (.int .i64 v17.2.2))]) (by kernel_rfl) rfl rfl
              ⟨st_plain rfl (op_move _ _ _ _ rfl rfl),
                st_plain rfl (op_call _ _ 14 _ _ rfl Try.call14 rfl (ok_wherryref01_LenOf n _ hv17) rfl rfl),
                st_plain rfl (op_move_take _ _ _ _ rfl),
                st_plain rfl (op_extract _ _ _ _ _ rfl rfl (Nat.le_of_ble_eq_true rfl) rfl rfl),
                st_plain rfl (op_extract _ _ _ _ _ rfl rfl (Nat.le_of_ble_eq_true rfl) rfl rfl),
                st_plain rfl (op_extract _ _ _ _ _ rfl rfl (Nat.le_of_ble_eq_true rfl) rfl rfl),
                st_plain rfl (op_assign _ _ _ _ rfl rfl),
                st_plain rfl (op_assign _ _ _ _ rfl rfl),
                st_plain rfl (op_assign _ _ _ _ rfl rfl),
                trivial⟩ ?_
            refine pt_then ?_
            refine ht_seq ?_
            refine ht_seq ?_
            refine ht_joinS h (fun (s18 : Bool) => [(0, .v (.int .i64 n)), (1, .fl .shr 3 (List.flatten (List.map T_Tok.enc l))), (113, .v (.bool s18))]) ?_ ?_
            · rintro s18 h
              refine pt_then ?_
              refine ht_cond _ rfl (fun hb22 => ?_) (fun hb22 => ?_)
              · have h := cond_t hb22 h
                refine ht_seq ?_
                refine ht_seqR hn (El := [_, _, _, (4, .v (.bool false))]) (init := [0, 1, 2]) (fin := [3]) (sps := [⟨[], [], [3], [(.slot 4)]⟩]) (es' := [(4, .v (.bool false))]) (by kernel_rfl) rfl rfl
                  ⟨st_plain rfl (op_assign _ _ _ _ rfl rfl),
                    trivial⟩ ?_
                refine pt_then ?_
                refine ht_ret ?_
                refine pt_r_then ?_
                obtain rfl := Option.some.inj h
                exact pt_ret hio rfl (.tmp _ _ .nil) rfl rfl
              · have h := cond_f hb22 h
                refine ht_skip ?_
                refine pt_then ?_
                refine ht_seq ?_
                obtain ⟨v23, hv23, h⟩ := bind_some h
                refine ht_seqR hn (El := [_, _, _, (115, .v (.int .i64 n)), (116, .tup [.v (.int .i64 v23.1), .v (.int .i64 v23.2.1), .v (.int .i64 v23.2.2)]), (114, .tup [.v (.int .i64 v23.1), .v (.int .i64 v23.2.1), .v (.int .i64 v23.2.2)]), (117, .v (.int .i64 v23.1)), (118, .v (.int .i64 v23.2.1)), (119, .v (.int .i64 v23.2.2)), (5, .v (.int .i64 v23.1)), (6, .v (.int .i64 v23.2.1)), (8, .v (.int .i64 v23.2.2))]) (init := [0, 1, 2]) (fin := [0, 1, 9, 10, 11]) (sps := [⟨[0], [], [3], [(.slot 115)]⟩, ⟨[3], [], [4], [(.slot 116)]⟩, ⟨[], [4], [5], [(.slot 114)]⟩, ⟨[5], [], [6], [(.slot 117)]⟩, ⟨[5], [], [7], [(.slot 118)]⟩, ⟨[5], [], [8], [(.slot 119)]⟩, ⟨[6], [], [9], [(.slot 5)]⟩, ⟨[7], [], [10], [(.slot 6)]⟩, ⟨[8], [], [11], [(.slot 8)]⟩]) (es' := [(_, _), (_, _), (5, .v (.int .i64 v23.1)), (6, .v (.int .i64 v23.2.1)), (8, .v (.int .i64 v23.2.2))]) (by kernel_rfl) rfl rfl
                  ⟨st_plain rfl (op_move _ _ _ _ rfl rfl),
                    st_plain rfl (op_call _ _ 15 _ _ rfl Try.call15 rfl (ok_sym_DistOf n _ hv23) rfl rfl),
                    st_plain rfl (op_move_take _ _ _ _ rfl),
                    st_plain rfl (op_extract _ _ _ _ _ rfl rfl (Nat.le_of_ble_eq_true rfl) rfl rfl),
                    st_plain rfl (op_extract _ _ _ _ _ rfl rfl (Nat.le_of_ble_eq_true rfl) rfl rfl),
                    st_plain rfl (op_extract _ _ _ _ _ rfl rfl (Nat.le_of_ble_eq_true rfl) rfl rfl),
                    st_plain rfl (op_assign _ _ _ _ rfl rfl),
                    st_plain rfl (op_assign _ _ _ _ rfl rfl),
                    st_plain rfl (op_assign _ _ _ _ rfl rfl),
                    trivial⟩ ?_
                refine pt_then ?_
                refine ht_seq ?_
                obtain ⟨v24, hv24, h⟩ := bind_some h
                refine ht_seqR hn (El := [_, _, _, _, _, (121, .v (.int .i64 n)), (122, .tup [.v (.int .i64 v24.1), .v (.int .i64 v24.2.1), .v (.int .i64 v24.2.2)]), (120, .tup [.v (.int .i64 v24.1), .v (.int .i64 v24.2.1), .v (.int .i64 v24.2.2)]), (123, .v (.int .i64 v24.1)), (124, .v (.int .i64 v24.2.1)), (125, .v (.int .i64 v24.2.2)), (9, .v (.int .i64 v24.1)), (10, .v (.int .i64 v24.2.1)), (12, .v (.int .i64 v24.2.2))]) (init := [0, 1, 2, 3, 4]) (fin := [1, 2, 3, 4, 11, 12, 13]) (sps := [⟨[0], [], [5], [(.slot 121)]⟩, ⟨[5], [], [6], [(.slot 122)]⟩, ⟨[], [6], [7], [(.slot 120)]⟩, ⟨[7], [], [8], [(.slot 123)]⟩, ⟨[7], [], [9], [(.slot 124)]⟩, ⟨[7], [], [10], [(.slot 125)]⟩, ⟨[8], [], [11], [(.slot 9)]⟩, ⟨[9], [], [12], [(.slot 10)]⟩, ⟨[10], [], [13], [(.slot 12)]⟩]) (es' := [(_, _), (_, _), (_, _), (_, _), (9, .v (.int .i64 v24.1)), (10, .v (.int .i64 v24.2.1)), (12, .v (.int .i64 v24.2.2))]) (by kernel_rfl) rfl rfl
                  ⟨st_plain rfl (op_move _ _ _ _ rfl rfl),
                    st_plain rfl (op_call _ _ 16 _ _ rfl Try.call16 rfl (ok_wherryref01_DistOf n _ hv24) rfl rfl),
                    st_plain rfl (op_move_take _ _ _ _ rfl),
                    st_plain rfl (op_extract _ _ _ _ _ rfl rfl (Nat.le_of_ble_eq_true rfl) rfl rfl),
                    st_plain rfl (op_extract _ _ _ _ _ rfl rfl (Nat.le_of_ble_eq_true rfl) rfl rfl),
                    st_plain rfl (op_extract _ _ _ _ _ rfl rfl (Nat.le_of_ble_eq_true rfl) rfl rfl),
                    st_plain rfl (op_assign _ _ _ _ rfl rfl),
                    st_plain rfl (op_assign _ _ _ _ rfl rfl),
                    st_plain rfl (op_assign _ _ _ _ rfl rfl),
                    trivial⟩ ?_
                refine pt_then ?_
                refine ht_seq ?_
                refine ht_seq ?_
                refine ht_joinS h (fun (s25 : Bool) => [(1, .fl .shr 3 (List.flatten (List.map T_Tok.enc l))), (138, .v (.bool s25))]) ?_ ?_
                · rintro s25 h
                  refine pt_then ?_
                  refine ht_cond _ rfl (fun hb29 => ?_) (fun hb29 => ?_)
                  · have h := cond_t hb29 h
                    refine ht_seq ?_
                    refine ht_seqR hn (El := [_, _, (4, .v (.bool false))]) (init := [0, 1]) (fin := [2]) (sps := [⟨[], [], [2], [(.slot 4)]⟩]) (es' := [(4, .v (.bool false))]) (by kernel_rfl) rfl rfl
                      ⟨st_plain rfl (op_assign _ _ _ _ rfl rfl),
                        trivial⟩ ?_
                    refine pt_then ?_
                    refine ht_ret ?_
                    refine pt_r_then ?_
                    obtain rfl := Option.some.inj h
                    exact pt_ret hio rfl (.tmp _ _ .nil) rfl rfl
                  · have h := cond_f hb29 h
                    refine ht_skip ?_
                    refine pt_then ?_
                    refine ht_seq ?_
                    obtain ⟨v30, hv30, h⟩ := bind_some h
                    refine ht_seqR hn (El := [_, _, (140, .tup [.fl (.own 3) 1 (List.map (Value.int .i64) v30.1), .fl (.own 3) 1 (List.map (Value.int .i64) v30.2)]), (139, .tup [.fl (.own 3) 1 (List.map (Value.int .i64) v30.1), .fl (.own 3) 1 (List.map (Value.int .i64) v30.2)]), (141, .fl (.own 3) 1 (List.map (Value.int .i64) v30.1)), (139, .tup [.any, .fl (.own 3) 1 (List.map (Value.int .i64) v30.2)]), (142, .fl (.own 3) 1 (List.map (Value.int .i64) v30.2)), (139, .tup [.any, .any]), (13, .fl (.own 3) 1 (List.map (Value.int .i64) v30.1)), (14, .fl (.own 3) 1 (List.map (Value.int .i64) v30.2))]) (init := [0, 1]) (fin := [0, 8, 9]) (sps := [⟨[], [], [2], [(.slot 140)]⟩, ⟨[], [2], [3], [(.slot 139)]⟩, ⟨[], [3], [5, 4], [(.slot 141)]⟩, ⟨[], [5], [7, 6], [(.slot 142)]⟩, ⟨[], [4], [8], [(.slot 13)]⟩, ⟨[], [6], [9], [(.slot 14)]⟩]) (es' := [(_, _), (13, .fl (.own 3) 1 (List.map (Value.int .i64) v30.1)), (14, .fl (.own 3) 1 (List.map (Value.int .i64) v30.2))]) (by kernel_rfl) rfl rfl
                      ⟨st_plain rfl (op_call _ _ 17 _ _ rfl Try.call17 rfl (ok_sym_Fixed  _ hv30) rfl rfl),
                        st_plain rfl (op_move_take _ _ _ _ rfl),
                        st_plain rfl (op_extract_take _ _ _ _ _ rfl (Nat.le_of_ble_eq_true rfl) rfl rfl (by decide) rfl),
                        st_plain rfl (op_extract_take _ _ _ _ _ rfl (Nat.le_of_ble_eq_true rfl) rfl rfl (by decide) rfl),
                        st_plain rfl (op_assign_take _ _ _ _ rfl),
                        st_plain rfl (op_assign_take _ _ _ _ rfl),
                        trivial⟩ ?_
                    refine pt_then ?_
                    refine ht_seq ?_
                    obtain ⟨v31, hv31, h⟩ := bind_some h
                    refine ht_seqR hn (El := [_, _, _, (144, .tup [.fl (.own 3) 1 (List.map (Value.int .i64) v31.1), .fl (.own 3) 1 (List.map (Value.int .i64) v31.2)]), (143, .tup [.fl (.own 3) 1 (List.map (Value.int .i64) v31.1), .fl (.own 3) 1 (List.map (Value.int .i64) v31.2)]), (145, .fl (.own 3) 1 (List.map (Value.int .i64) v31.1)), (143, .tup [.any, .fl (.own 3) 1 (List.map (Value.int .i64) v31.2)]), (146, .fl (.own 3) 1 (List.map (Value.int .i64) v31.2)), (143, .tup [.any, .any]), (15, .fl (.own 3) 1 (List.map (Value.int .i64) v31.1)), (16, .fl (.own 3) 1 (List.map (Value.int .i64) v31.2))]) (init := [0, 1, 2]) (fin := [0, 1, 2, 9, 10]) (sps := [⟨[], [], [3], [(.slot 144)]⟩, ⟨[], [3], [4], [(.slot 143)]⟩, ⟨[], [4], [6, 5], [(.slot 145)]⟩, ⟨[], [6], [8, 7], [(.slot 146)]⟩, ⟨[], [5], [9], [(.slot 15)]⟩, ⟨[], [7], [10], [(.slot 16)]⟩]) (es' := [(_, _), (_, _), (_, _), (15, .fl (.own 3) 1 (List.map (Value.int .i64) v31.1)), (16, .fl (.own 3) 1 (List.map (Value.int .i64) v31.2))]) (by kernel_rfl) rfl rfl
                      ⟨st_plain rfl (op_call _ _ 18 _ _ rfl Try.call18 rfl (ok_wherryref01_Fixed  _ hv31) rfl rfl),
                        st_plain rfl (op_move_take _ _ _ _ rfl),
                        st_plain rfl (op_extract_take _ _ _ _ _ rfl (Nat.le_of_ble_eq_true rfl) rfl rfl (by decide) rfl),
                        st_plain rfl (op_extract_take _ _ _ _ _ rfl (Nat.le_of_ble_eq_true rfl) rfl rfl (by decide) rfl),
                        st_plain rfl (op_assign_take _ _ _ _ rfl),
                        st_plain rfl (op_assign_take _ _ _ _ rfl),
                        trivial⟩ ?_
                    refine pt_then ?_
                    refine ht_seq ?_
                    obtain ⟨v32, hv32, h⟩ := bind_some h
                    refine ht_seqR hn (El := [_, _, _, _, _, (147, .fl .shr 3 (List.flatten (List.map T_Tok.enc l))), (148, .fl (.own 48) 3 (List.flatten (List.map T_Tok.enc v32))), (17, .fl (.own 48) 3 (List.flatten (List.map T_Tok.enc v32)))]) (init := [0, 1, 2, 3, 4]) (fin := [0, 1, 2, 3, 4, 7]) (sps := [⟨[0], [], [5], [(.slot 147)]⟩, ⟨[5], [], [6], [(.slot 148)]⟩, ⟨[], [6], [7], [(.slot 17)]⟩]) (es' := [(_, _), (_, _), (_, _), (_, _), (_, _), (17, .fl (.own 48) 3 (List.flatten (List.map T_Tok.enc v32)))]) (by kernel_rfl) rfl rfl
                      ⟨st_plain rfl (op_move _ _ _ _ rfl rfl),
                        st_plain rfl (op_call _ _ 19 _ _ rfl Try.call19 rfl (ok_wherrykeep_TwinToks l _ hv32) rfl rfl),
                        st_plain rfl (op_assign_take _ _ _ _ rfl),
                        trivial⟩ ?_
                    refine pt_then ?_
                    refine ht_seq ?_
                    obtain ⟨v33, hv33, h⟩ := bind_some h
                    refine ht_seqR hn (El := (_ :: _ :: _ :: _ :: _ :: _ :: (150, .same (.slot 17)) :: (151, .tup [.fl (.own 3) 1 (List.map (Value.int .i64) v33.1), .fl (.own 3) 1 (List.map (Value.int .i64) v33.2.1), .v (.int .i64 v33.2.2)]) :: (149, .tup [.fl (.own 3) 1 (List.map (Value.int .i64) v33.1), .fl (.own 3) 1 (List.map (Value.int .i64) v33.2.1), .v (.int .i64 v33.2.2)]) :: (152, .fl (.own 3) 1 (List.map (Value.int .i64) v33.1)) :: (149, .tup [.any, .fl (.own 3) 1 (List.map (Value.int .i64) v33.2.1), .v (.int .i64 v33.2.2)]) :: (153, .fl (.own 3) 1 (List.map (Value.int .i64) v33.2.1)) :: (149, .tup [.any, .any, .v (.int .i64 v33.2.2)]) :: (154, .v (.int .i64 v33.2.2)) :: (18, .fl (.own 3) 1 (List.map (Value.int .i64) v33.1)) :: (19, .fl (.own 3) 1 (List.map (Value.int .i64) v33.2.1)) :: (8, .v (.int .i64 v33.2.2)) :: [])) (init := [0, 1, 2, 3, 4, 5]) (fin := [0, 1, 2, 3, 4, 5, 14, 15, 16]) (sps := [⟨[5], [], [6], [(.slot 150)]⟩, ⟨[6, 5], [], [7], [(.slot 151)]⟩, ⟨[], [7], [8], [(.slot 149)]⟩, ⟨[], [8], [10, 9], [(.slot 152)]⟩, ⟨[], [10], [12, 11], [(.slot 153)]⟩, ⟨[12], [], [13], [(.slot 154)]⟩, ⟨[], [9], [14], [(.slot 18)]⟩, ⟨[], [11], [15], [(.slot 19)]⟩, ⟨[13], [], [16], [(.slot 8)]⟩]) (es' := [(_, _), (_, _), (_, _), (_, _), (_, _), (_, _), (18, .fl (.own 3) 1 (List.map (Value.int .i64) v33.1)), (19, .fl (.own 3) 1 (List.map (Value.int .i64) v33.2.1)), (8, .v (.int .i64 v33.2.2))]) (by kernel_rfl) rfl rfl
                      ⟨st_plain rfl (op_move _ _ _ _ rfl rfl),
                        st_plain rfl (op_call _ _ 20 _ _ rfl Try.call20 rfl (ok_sym_Weights v32 _ hv33) rfl rfl),
                        st_plain rfl (op_move_take _ _ _ _ rfl),
                        st_plain rfl (op_extract_take _ _ _ _ _ rfl (Nat.le_of_ble_eq_true rfl) rfl rfl (by decide) rfl),
                        st_plain rfl (op_extract_take _ _ _ _ _ rfl (Nat.le_of_ble_eq_true rfl) rfl rfl (by decide) rfl),
                        st_plain rfl (op_extract _ _ _ _ _ rfl rfl (Nat.le_of_ble_eq_true rfl) rfl rfl),
                        st_plain rfl (op_assign_take _ _ _ _ rfl),
                        st_plain rfl (op_assign_take _ _ _ _ rfl),
                        st_plain rfl (op_assign _ _ _ _ rfl rfl),
                        trivial⟩ ?_
                    refine pt_then ?_
                    refine ht_seq ?_
                    obtain ⟨v34, hv34, h⟩ := bind_some h
                    refine ht_seqR hn (El := (_ :: _ :: _ :: _ :: _ :: _ :: _ :: _ :: _ :: (156, .fl .shr 3 (List.flatten (List.map T_Tok.enc l))) :: (157, .tup [.fl (.own 3) 1 (List.map (Value.int .i64) v34.1), .fl (.own 3) 1 (List.map (Value.int .i64) v34.2.1), .v (.int .i64 v34.2.2)]) :: (155, .tup [.fl (.own 3) 1 (List.map (Value.int .i64) v34.1), .fl (.own 3) 1 (List.map (Value.int .i64) v34.2.1), .v (.int .i64 v34.2.2)]) :: (158, .fl (.own 3) 1 (List.map (Value.int .i64) v34.1)) :: (155, .tup [.any, .fl (.own 3) 1 (List.map (Value.int .i64) v34.2.1), .v (.int .i64 v34.2.2)]) :: (159, .fl (.own 3) 1 (List.map (Value.int .i64) v34.2.1)) :: (155, .tup [.any, .any, .v (.int .i64 v34.2.2)]) :: (160, .v (.int .i64 v34.2.2)) :: (20, .fl (.own 3) 1 (List.map (Value.int .i64) v34.1)) :: (21, .fl (.own 3) 1 (List.map (Value.int .i64) v34.2.1)) :: (12, .v (.int .i64 v34.2.2)) :: [])) (init := [0, 1, 2, 3, 4, 5, 6, 7, 8]) (fin := [0, 1, 2, 3, 4, 5, 6, 7, 8, 17, 18, 19]) (sps := [⟨[0], [], [9], [(.slot 156)]⟩, ⟨[9], [], [10], [(.slot 157)]⟩, ⟨[], [10], [11], [(.slot 155)]⟩, ⟨[], [11], [13, 12], [(.slot 158)]⟩, ⟨[], [13], [15, 14], [(.slot 159)]⟩, ⟨[15], [], [16], [(.slot 160)]⟩, ⟨[], [12], [17], [(.slot 20)]⟩, ⟨[], [14], [18], [(.slot 21)]⟩, ⟨[16], [], [19], [(.slot 12)]⟩]) (es' := [(_, _), (_, _), (_, _), (_, _), (_, _), (_, _), (_, _), (_, _), (_, _), (20, .fl (.own 3) 1 (List.map (Value.int .i64) v34.1)), (21, .fl (.own 3) 1 (List.map (Value.int .i64) v34.2.1)), (12, .v (.int .i64 v34.2.2))]) (by kernel_rfl) rfl rfl
                      ⟨st_plain rfl (op_move _ _ _ _ rfl rfl),
                        st_plain rfl (op_call _ _ 21 _ _ rfl Try.call21 rfl (ok_wherryref01_Weights l _ hv34) rfl rfl),
                        st_plain rfl (op_move_take _ _ _ _ rfl),
                        st_plain rfl (op_extract_take _ _ _ _ _ rfl (Nat.le_of_ble_eq_true rfl) rfl rfl (by decide) rfl),
                        st_plain rfl (op_extract_take _ _ _ _ _ rfl (Nat.le_of_ble_eq_true rfl) rfl rfl (by decide) rfl),
                        st_plain rfl (op_extract _ _ _ _ _ rfl rfl (Nat.le_of_ble_eq_true rfl) rfl rfl),
                        st_plain rfl (op_assign_take _ _ _ _ rfl),
                        st_plain rfl (op_assign_take _ _ _ _ rfl),
                        st_plain rfl (op_assign _ _ _ _ rfl rfl),
                        trivial⟩ ?_
                    refine pt_then ?_
                    refine ht_seq ?_
                    refine ht_joinS h (fun (s41 : Bool) => [(4, .v (.bool s41))]) ?_ ?_
                    · rintro s41 h
                      refine pt_then ?_
                      refine ht_ret ?_
                      obtain rfl := Option.some.inj h
                      exact pt_ret hio rfl (.tmp _ _ .nil) rfl rfl
                    · intro u42 h hl43 hr44
                      obtain ⟨v35, hv35, h⟩ := bind_some h
                      refine cond_some h (fun hg24_3 h => ?_) (fun hg24_3 h => ?_)
                      · obtain ⟨v36, hv36, h⟩ := bind_some h
                        refine cond_some h (fun hg24_8 h => ?_) (fun hg24_8 h => ?_)
                        · refine cond_some h (fun hg24_13 h => ?_) (fun hg24_13 h => ?_)
                          · obtain ⟨v37, hv37, h⟩ := bind_some h
                            refine cond_some h (fun hg24_18 h => ?_) (fun hg24_18 h => ?_)
                            · obtain ⟨v38, hv38, h⟩ := bind_some h
                              refine cond_some h (fun hg24_23 h => ?_) (fun hg24_23 h => ?_)
                              · obtain ⟨v39, hv39, h⟩ := bind_some h
                                refine cond_some h (fun hg24_28 h => ?_) (fun hg24_28 h => ?_)
                                · obtain ⟨v40, hv40, h⟩ := bind_some h
                                  refine ht_seqR hn (El := (_ :: _ :: _ :: _ :: _ :: _ :: _ :: _ :: _ :: _ :: _ :: _ :: (161, .fl (.own 3) 1 (List.map (Value.int .i64) v30.1)) :: (162, .fl (.own 3) 1 (List.map (Value.int .i64) v31.1)) :: (163, .v (.bool v35)) :: (164, .v (.bool true)) :: (165, .fl (.own 3) 1 (List.map (Value.int .i64) v30.2)) :: (166, .fl (.own 3) 1 (List.map (Value.int .i64) v31.2)) :: (167, .v (.bool v36)) :: (168, .v (.bool v36)) :: (169, .v (.bool true)) :: (170, .v (.int .i64 v33.2.2)) :: (171, .v (.int .i64 v34.2.2)) :: (172, .v (.bool (v33.2.2 == v34.2.2))) :: (173, .v (.bool (v33.2.2 == v34.2.2))) :: (174, .v (.bool true)) :: (175, .fl (.own 3) 1 (List.map (Value.int .i64) v33.1)) :: (176, .fl (.own 3) 1 (List.map (Value.int .i64) v34.1)) :: (177, .v (.bool v37)) :: (178, .v (.bool v37)) :: (179, .v (.bool true)) :: (180, .fl (.own 3) 1 (List.map (Value.int .i64) v33.2.1)) :: (181, .fl (.own 3) 1 (List.map (Value.int .i64) v34.2.1)) :: (182, .v (.bool v38)) :: (183, .v (.bool v38)) :: (184, .v (.bool true)) :: (185, .fl (.own 48) 3 (List.flatten (List.map T_Tok.enc v32))) :: (186, .fl .shr 3 (List.flatten (List.map T_Tok.enc l))) :: (187, .v (.bool v39)) :: (188, .v (.bool v39)) :: (189, .v (.bool true)) :: (190, .v (.bool v40)) :: (191, .v (.bool v40)) :: (4, .v (.bool v40)) :: [])) (init := [0, 1, 2, 3, 4, 5, 6, 7, 8, 9, 10, 11]) (fin := [43]) (sps := (⟨[], [1], [12], [(.slot 161)]⟩ :: ⟨[], [3], [13], [(.slot 162)]⟩ :: ⟨[12, 13], [], [14], [(.slot 163)]⟩ :: ⟨[14], [], [15], [(.slot 164)]⟩ :: ⟨[15], [2], [16], [(.slot 165)]⟩ :: ⟨[15], [4], [17], [(.slot 166)]⟩ :: ⟨[15, 16, 17], [], [18], [(.slot 167)]⟩ :: ⟨[15, 18], [], [19], [(.slot 168)]⟩ :: ⟨[19], [], [20], [(.slot 169)]⟩ :: ⟨[20, 8], [], [21], [(.slot 170)]⟩ :: ⟨[20, 11], [], [22], [(.slot 171)]⟩ :: ⟨[20, 21, 22], [], [23], [(.slot 172)]⟩ :: ⟨[20, 23], [], [24], [(.slot 173)]⟩ :: ⟨[24], [], [25], [(.slot 174)]⟩ :: ⟨[25], [6], [26], [(.slot 175)]⟩ :: ⟨[25], [9], [27], [(.slot 176)]⟩ :: ⟨[25, 26, 27], [], [28], [(.slot 177)]⟩ :: ⟨[25, 28], [], [29], [(.slot 178)]⟩ :: ⟨[29], [], [30], [(.slot 179)]⟩ :: ⟨[30], [7], [31], [(.slot 180)]⟩ :: ⟨[30], [10], [32], [(.slot 181)]⟩ :: ⟨[30, 31, 32], [], [33], [(.slot 182)]⟩ :: ⟨[30, 33], [], [34], [(.slot 183)]⟩ :: ⟨[34], [], [35], [(.slot 184)]⟩ :: ⟨[35], [5], [36], [(.slot 185)]⟩ :: ⟨[35, 0], [], [37], [(.slot 186)]⟩ :: ⟨[35, 36, 37], [], [38], [(.slot 187)]⟩ :: ⟨[35, 38], [], [39], [(.slot 188)]⟩ :: ⟨[39], [], [40], [(.slot 189)]⟩ :: ⟨[40], [], [41], [(.slot 190)]⟩ :: ⟨[40, 41], [], [42], [(.slot 191)]⟩ :: ⟨[42], [], [43], [(.slot 4)]⟩ :: [])) (es' := [(4, .v (.bool v40))]) (by kernel_rfl) rfl rfl
                                    ⟨st_plain rfl (op_move_take _ _ _ _ rfl),
                                      st_plain rfl (op_move_take _ _ _ _ rfl),
                                      st_plain rfl (op_call _ _ 22 _ _ rfl Try.call22 rfl (ok_wherrykeep_Ints v30.1 v31.1 _ hv35) rfl rfl),
                                      st_plain rfl (op_move _ _ _ _ (congrArg (fun b => AV.v (Value.bool b)) hg24_3) rfl),
                                      st_run 3 164 true rfl rfl rfl (List.Mem.head _) (op_move_take _ _ _ _ rfl),
                                      st_run 3 164 true rfl rfl rfl (List.Mem.head _) (op_move_take _ _ _ _ rfl),
                                      st_run 3 164 true rfl rfl rfl (List.Mem.head _) (op_call _ _ 22 _ _ rfl Try.call22 rfl (ok_wherrykeep_Ints v30.2 v31.2 _ hv36) rfl rfl),
                                      st_plain rfl (op_pick _ _ true _ rfl rfl),
                                      st_plain rfl (op_move _ _ _ _ (congrArg (fun b => AV.v (Value.bool b)) hg24_8) rfl),
                                      st_run 8 169 true rfl rfl rfl (List.Mem.head _) (op_move _ _ _ _ rfl rfl),
                                      st_run 8 169 true rfl rfl rfl (List.Mem.head _) (op_move _ _ _ _ rfl rfl),
                                      st_run 8 169 true rfl rfl rfl (List.Mem.head _) (op_bin _ _ _ _ _ rfl rfl rfl),
                                      st_plain rfl (op_pick _ _ true _ rfl rfl),
                                      st_plain rfl (op_move _ _ _ _ (congrArg (fun b => AV.v (Value.bool b)) hg24_13) rfl),
                                      st_run 13 174 true rfl rfl rfl (List.Mem.head _) (op_move_take _ _ _ _ rfl),
                                      st_run 13 174 true rfl rfl rfl (List.Mem.head _) (op_move_take _ _ _ _ rfl),
                                      st_run 13 174 true rfl rfl rfl (List.Mem.head _) (op_call _ _ 22 _ _ rfl Try.call22 rfl (ok_wherrykeep_Ints v33.1 v34.1 _ hv37) rfl rfl),
                                      st_plain rfl (op_pick _ _ true _ rfl rfl),
                                      st_plain rfl (op_move _ _ _ _ (congrArg (fun b => AV.v (Value.bool b)) hg24_18) rfl),
                                      st_run 18 179 true rfl rfl rfl (List.Mem.head _) (op_move_take _ _ _ _ rfl),
                                      st_run 18 179 true rfl rfl rfl (List.Mem.head _) (op_move_take _ _ _ _ rfl),
                                      st_run 18 179 true rfl rfl rfl (List.Mem.head _) (op_call _ _ 22 _ _ rfl Try.call22 rfl (ok_wherrykeep_Ints v33.2.1 v34.2.1 _ hv38) rfl rfl),
                                      st_plain rfl (op_pick _ _ true _ rfl rfl),
                                      st_plain rfl (op_move _ _ _ _ (congrArg (fun b => AV.v (Value.bool b)) hg24_23) rfl),
                                      st_run 23 184 true rfl rfl rfl (List.Mem.head _) (op_move_take _ _ _ _ rfl),
                                      st_run 23 184 true rfl rfl rfl (List.Mem.head _) (op_move _ _ _ _ rfl rfl),
                                      st_run 23 184 true rfl rfl rfl (List.Mem.head _) (op_call _ _ 23 _ _ rfl Try.call23 rfl (ok_wherrykeep_Toks v32 l _ hv39) rfl rfl),
                                      st_plain rfl (op_pick _ _ true _ rfl rfl),
                                      st_plain rfl (op_move _ _ _ _ (congrArg (fun b => AV.v (Value.bool b)) hg24_28) rfl),
                                      st_run 28 189 true rfl rfl rfl (List.Mem.head _) (op_call _ _ 24 _ _ rfl Try.call24 rfl (ok_wherrylaw05_wakes  _ hv40) rfl rfl),
                                      st_plain rfl (op_pick _ _ true _ rfl rfl),
                                      st_plain rfl (op_assign _ _ _ _ rfl rfl),
                                      trivial⟩ ?_
                                  exact hl43 _ (Option.some.inj h).symm
                                · refine ht_seqR hn (El := (_ :: _ :: _ :: _ :: _ :: _ :: _ :: _ :: _ :: _ :: _ :: _ :: (161, .fl (.own 3) 1 (List.map (Value.int .i64) v30.1)) :: (162, .fl (.own 3) 1 (List.map (Value.int .i64) v31.1)) :: (163, .v (.bool v35)) :: (164, .v (.bool true)) :: (165, .fl (.own 3) 1 (List.map (Value.int .i64) v30.2)) :: (166, .fl (.own 3) 1 (List.map (Value.int .i64) v31.2)) :: (167, .v (.bool v36)) :: (168, .v (.bool v36)) :: (169, .v (.bool true)) :: (170, .v (.int .i64 v33.2.2)) :: (171, .v (.int .i64 v34.2.2)) :: (172, .v (.bool (v33.2.2 == v34.2.2))) :: (173, .v (.bool (v33.2.2 == v34.2.2))) :: (174, .v (.bool true)) :: (175, .fl (.own 3) 1 (List.map (Value.int .i64) v33.1)) :: (176, .fl (.own 3) 1 (List.map (Value.int .i64) v34.1)) :: (177, .v (.bool v37)) :: (178, .v (.bool v37)) :: (179, .v (.bool true)) :: (180, .fl (.own 3) 1 (List.map (Value.int .i64) v33.2.1)) :: (181, .fl (.own 3) 1 (List.map (Value.int .i64) v34.2.1)) :: (182, .v (.bool v38)) :: (183, .v (.bool v38)) :: (184, .v (.bool true)) :: (185, .fl (.own 48) 3 (List.flatten (List.map T_Tok.enc v32))) :: (186, .fl .shr 3 (List.flatten (List.map T_Tok.enc l))) :: (187, .v (.bool v39)) :: (188, .v (.bool v39)) :: (189, .v (.bool false)) :: (190, .v undef) :: (191, .v (.bool false)) :: (4, .v (.bool false)) :: [])) (init := [0, 1, 2, 3, 4, 5, 6, 7, 8, 9, 10, 11]) (fin := [43]) (sps := (⟨[], [1], [12], [(.slot 161)]⟩ :: ⟨[], [3], [13], [(.slot 162)]⟩ :: ⟨[12, 13], [], [14], [(.slot 163)]⟩ :: ⟨[14], [], [15], [(.slot 164)]⟩ :: ⟨[15], [2], [16], [(.slot 165)]⟩ :: ⟨[15], [4], [17], [(.slot 166)]⟩ :: ⟨[15, 16, 17], [], [18], [(.slot 167)]⟩ :: ⟨[15, 18], [], [19], [(.slot 168)]⟩ :: ⟨[19], [], [20], [(.slot 169)]⟩ :: ⟨[20, 8], [], [21], [(.slot 170)]⟩ :: ⟨[20, 11], [], [22], [(.slot 171)]⟩ :: ⟨[20, 21, 22], [], [23], [(.slot 172)]⟩ :: ⟨[20, 23], [], [24], [(.slot 173)]⟩ :: ⟨[24], [], [25], [(.slot 174)]⟩ :: ⟨[25], [6], [26], [(.slot 175)]⟩ :: ⟨[25], [9], [27], [(.slot 176)]⟩ :: ⟨[25, 26, 27], [], [28], [(.slot 177)]⟩ :: ⟨[25, 28], [], [29], [(.slot 178)]⟩ :: ⟨[29], [], [30], [(.slot 179)]⟩ :: ⟨[30], [7], [31], [(.slot 180)]⟩ :: ⟨[30], [10], [32], [(.slot 181)]⟩ :: ⟨[30, 31, 32], [], [33], [(.slot 182)]⟩ :: ⟨[30, 33], [], [34], [(.slot 183)]⟩ :: ⟨[34], [], [35], [(.slot 184)]⟩ :: ⟨[35], [5], [36], [(.slot 185)]⟩ :: ⟨[35, 0], [], [37], [(.slot 186)]⟩ :: ⟨[35, 36, 37], [], [38], [(.slot 187)]⟩ :: ⟨[35, 38], [], [39], [(.slot 188)]⟩ :: ⟨[39], [], [40], [(.slot 189)]⟩ :: ⟨[40], [], [41], [(.slot 190)]⟩ :: ⟨[40], [], [42], [(.slot 191)]⟩ :: ⟨[42], [], [43], [(.slot 4)]⟩ :: [])) (es' := [(4, .v (.bool false))]) (by kernel_rfl) rfl rfl
                                    ⟨st_plain rfl (op_move_take _ _ _ _ rfl),
                                      st_plain rfl (op_move_take _ _ _ _ rfl),
                                      st_plain rfl (op_call _ _ 22 _ _ rfl Try.call22 rfl (ok_wherrykeep_Ints v30.1 v31.1 _ hv35) rfl rfl),
                                      st_plain rfl (op_move _ _ _ _ (congrArg (fun b => AV.v (Value.bool b)) hg24_3) rfl),
                                      st_run 3 164 true rfl rfl rfl (List.Mem.head _) (op_move_take _ _ _ _ rfl),
                                      st_run 3 164 true rfl rfl rfl (List.Mem.head _) (op_move_take _ _ _ _ rfl),
                                      st_run 3 164 true rfl rfl rfl (List.Mem.head _) (op_call _ _ 22 _ _ rfl Try.call22 rfl (ok_wherrykeep_Ints v30.2 v31.2 _ hv36) rfl rfl),
                                      st_plain rfl (op_pick _ _ true _ rfl rfl),
                                      st_plain rfl (op_move _ _ _ _ (congrArg (fun b => AV.v (Value.bool b)) hg24_8) rfl),
                                      st_run 8 169 true rfl rfl rfl (List.Mem.head _) (op_move _ _ _ _ rfl rfl),
                                      st_run 8 169 true rfl rfl rfl (List.Mem.head _) (op_move _ _ _ _ rfl rfl),
                                      st_run 8 169 true rfl rfl rfl (List.Mem.head _) (op_bin _ _ _ _ _ rfl rfl rfl),
                                      st_plain rfl (op_pick _ _ true _ rfl rfl),
                                      st_plain rfl (op_move _ _ _ _ (congrArg (fun b => AV.v (Value.bool b)) hg24_13) rfl),
                                      st_run 13 174 true rfl rfl rfl (List.Mem.head _) (op_move_take _ _ _ _ rfl),
                                      st_run 13 174 true rfl rfl rfl (List.Mem.head _) (op_move_take _ _ _ _ rfl),
                                      st_run 13 174 true rfl rfl rfl (List.Mem.head _) (op_call _ _ 22 _ _ rfl Try.call22 rfl (ok_wherrykeep_Ints v33.1 v34.1 _ hv37) rfl rfl),
                                      st_plain rfl (op_pick _ _ true _ rfl rfl),
                                      st_plain rfl (op_move _ _ _ _ (congrArg (fun b => AV.v (Value.bool b)) hg24_18) rfl),
                                      st_run 18 179 true rfl rfl rfl (List.Mem.head _) (op_move_take _ _ _ _ rfl),
                                      st_run 18 179 true rfl rfl rfl (List.Mem.head _) (op_move_take _ _ _ _ rfl),
                                      st_run 18 179 true rfl rfl rfl (List.Mem.head _) (op_call _ _ 22 _ _ rfl Try.call22 rfl (ok_wherrykeep_Ints v33.2.1 v34.2.1 _ hv38) rfl rfl),
                                      st_plain rfl (op_pick _ _ true _ rfl rfl),
                                      st_plain rfl (op_move _ _ _ _ (congrArg (fun b => AV.v (Value.bool b)) hg24_23) rfl),
                                      st_run 23 184 true rfl rfl rfl (List.Mem.head _) (op_move_take _ _ _ _ rfl),
                                      st_run 23 184 true rfl rfl rfl (List.Mem.head _) (op_move _ _ _ _ rfl rfl),
                                      st_run 23 184 true rfl rfl rfl (List.Mem.head _) (op_call _ _ 23 _ _ rfl Try.call23 rfl (ok_wherrykeep_Toks v32 l _ hv39) rfl rfl),
                                      st_plain rfl (op_pick _ _ true _ rfl rfl),
                                      st_plain rfl (op_move _ _ _ _ (congrArg (fun b => AV.v (Value.bool b)) hg24_28) rfl),
                                      st_skip 28 189 _ true rfl rfl rfl rfl (List.Mem.head _),
                                      st_plain rfl (op_pick _ _ false _ rfl rfl),
                                      st_plain rfl (op_assign _ _ _ _ rfl rfl),
                                      trivial⟩ ?_
                                  exact hl43 _ (Option.some.inj h).symm
                              · refine ht_seqR hn (El := (_ :: _ :: _ :: _ :: _ :: _ :: _ :: _ :: _ :: _ :: _ :: _ :: (161, .fl (.own 3) 1 (List.map (Value.int .i64) v30.1)) :: (162, .fl (.own 3) 1 (List.map (Value.int .i64) v31.1)) :: (163, .v (.bool v35)) :: (164, .v (.bool true)) :: (165, .fl (.own 3) 1 (List.map (Value.int .i64) v30.2)) :: (166, .fl (.own 3) 1 (List.map (Value.int .i64) v31.2)) :: (167, .v (.bool v36)) :: (168, .v (.bool v36)) :: (169, .v (.bool true)) :: (170, .v (.int .i64 v33.2.2)) :: (171, .v (.int .i64 v34.2.2)) :: (172, .v (.bool (v33.2.2 == v34.2.2))) :: (173, .v (.bool (v33.2.2 == v34.2.2))) :: (174, .v (.bool true)) :: (175, .fl (.own 3) 1 (List.map (Value.int .i64) v33.1)) :: (176, .fl (.own 3) 1 (List.map (Value.int .i64) v34.1)) :: (177, .v (.bool v37)) :: (178, .v (.bool v37)) :: (179, .v (.bool true)) :: (180, .fl (.own 3) 1 (List.map (Value.int .i64) v33.2.1)) :: (181, .fl (.own 3) 1 (List.map (Value.int .i64) v34.2.1)) :: (182, .v (.bool v38)) :: (183, .v (.bool v38)) :: (184, .v (.bool false)) :: (185, .v undef) :: (186, .v undef) :: (187, .v undef) :: (188, .v (.bool false)) :: (189, .v (.bool false)) :: (190, .v undef) :: (191, .v (.bool false)) :: (4, .v (.bool false)) :: [])) (init := [0, 1, 2, 3, 4, 5, 6, 7, 8, 9, 10, 11]) (fin := [43]) (sps := (⟨[], [1], [12], [(.slot 161)]⟩ :: ⟨[], [3], [13], [(.slot 162)]⟩ :: ⟨[12, 13], [], [14], [(.slot 163)]⟩ :: ⟨[14], [], [15], [(.slot 164)]⟩ :: ⟨[15], [2], [16], [(.slot 165)]⟩ :: ⟨[15], [4], [17], [(.slot 166)]⟩ :: ⟨[15, 16, 17], [], [18], [(.slot 167)]⟩ :: ⟨[15, 18], [], [19], [(.slot 168)]⟩ :: ⟨[19], [], [20], [(.slot 169)]⟩ :: ⟨[20, 8], [], [21], [(.slot 170)]⟩ :: ⟨[20, 11], [], [22], [(.slot 171)]⟩ :: ⟨[20, 21, 22], [], [23], [(.slot 172)]⟩ :: ⟨[20, 23], [], [24], [(.slot 173)]⟩ :: ⟨[24], [], [25], [(.slot 174)]⟩ :: ⟨[25], [6], [26], [(.slot 175)]⟩ :: ⟨[25], [9], [27], [(.slot 176)]⟩ :: ⟨[25, 26, 27], [], [28], [(.slot 177)]⟩ :: ⟨[25, 28], [], [29], [(.slot 178)]⟩ :: ⟨[29], [], [30], [(.slot 179)]⟩ :: ⟨[30], [7], [31], [(.slot 180)]⟩ :: ⟨[30], [10], [32], [(.slot 181)]⟩ :: ⟨[30, 31, 32], [], [33], [(.slot 182)]⟩ :: ⟨[30, 33], [], [34], [(.slot 183)]⟩ :: ⟨[34], [], [35], [(.slot 184)]⟩ :: ⟨[35], [], [36], [(.slot 185)]⟩ :: ⟨[35], [], [37], [(.slot 186)]⟩ :: ⟨[35], [], [38], [(.slot 187)]⟩ :: ⟨[35], [], [39], [(.slot 188)]⟩ :: ⟨[39], [], [40], [(.slot 189)]⟩ :: ⟨[40], [], [41], [(.slot 190)]⟩ :: ⟨[40], [], [42], [(.slot 191)]⟩ :: ⟨[42], [], [43], [(.slot 4)]⟩ :: [])) (es' := [(4, .v (.bool false))]) (by kernel_rfl) rfl rfl
                                  ⟨st_plain rfl (op_move_take _ _ _ _ rfl),
                                    st_plain rfl (op_move_take _ _ _ _ rfl),
                                    st_plain rfl (op_call _ _ 22 _ _ rfl Try.call22 rfl (ok_wherrykeep_Ints v30.1 v31.1 _ hv35) rfl rfl),
                                    st_plain rfl (op_move _ _ _ _ (congrArg (fun b => AV.v (Value.bool b)) hg24_3) rfl),
                                    st_run 3 164 true rfl rfl rfl (List.Mem.head _) (op_move_take _ _ _ _ rfl),
                                    st_run 3 164 true rfl rfl rfl (List.Mem.head _) (op_move_take _ _ _ _ rfl),
                                    st_run 3 164 true rfl rfl rfl (List.Mem.head _) (op_call _ _ 22 _ _ rfl Try.call22 rfl (ok_wherrykeep_Ints v30.2 v31.2 _ hv36) rfl rfl),
                                    st_plain rfl (op_pick _ _ true _ rfl rfl),
                                    st_plain rfl (op_move _ _ _ _ (congrArg (fun b => AV.v (Value.bool b)) hg24_8) rfl),
                                    st_run 8 169 true rfl rfl rfl (List.Mem.head _) (op_move _ _ _ _ rfl rfl),
                                    st_run 8 169 true rfl rfl rfl (List.Mem.head _) (op_move _ _ _ _ rfl rfl),
                                    st_run 8 169 true rfl rfl rfl (List.Mem.head _) (op_bin _ _ _ _ _ rfl rfl rfl),
                                    st_plain rfl (op_pick _ _ true _ rfl rfl),
                                    st_plain rfl (op_move _ _ _ _ (congrArg (fun b => AV.v (Value.bool b)) hg24_13) rfl),
                                    st_run 13 174 true rfl rfl rfl (List.Mem.head _) (op_move_take _ _ _ _ rfl),
                                    st_run 13 174 true rfl rfl rfl (List.Mem.head _) (op_move_take _ _ _ _ rfl),
                                    st_run 13 174 true rfl rfl rfl (List.Mem.head _) (op_call _ _ 22 _ _ rfl Try.call22 rfl (ok_wherrykeep_Ints v33.1 v34.1 _ hv37) rfl rfl),
                                    st_plain rfl (op_pick _ _ true _ rfl rfl),
                                    st_plain rfl (op_move _ _ _ _ (congrArg (fun b => AV.v (Value.bool b)) hg24_18) rfl),
                                    st_run 18 179 true rfl rfl rfl (List.Mem.head _) (op_move_take _ _ _ _ rfl),
                                    st_run 18 179 true rfl rfl rfl (List.Mem.head _) (op_move_take _ _ _ _ rfl),
                                    st_run 18 179 true rfl rfl rfl (List.Mem.head _) (op_call _ _ 22 _ _ rfl Try.call22 rfl (ok_wherrykeep_Ints v33.2.1 v34.2.1 _ hv38) rfl rfl),
                                    st_plain rfl (op_pick _ _ true _ rfl rfl),
                                    st_plain rfl (op_move _ _ _ _ (congrArg (fun b => AV.v (Value.bool b)) hg24_23) rfl),
                                    st_skip 23 184 _ true rfl rfl rfl rfl (List.Mem.head _),
                                    st_skip 23 184 _ true rfl rfl rfl rfl (List.Mem.head _),
                                    st_skip 23 184 _ true rfl rfl rfl rfl (List.Mem.head _),
                                    st_plain rfl (op_pick _ _ false _ rfl rfl),
                                    st_plain rfl (op_move _ _ _ _ rfl rfl),
                                    st_skip 28 189 _ true rfl rfl rfl rfl (List.Mem.head _),
                                    st_plain rfl (op_pick _ _ false _ rfl rfl),
                                    st_plain rfl (op_assign _ _ _ _ rfl rfl),
                                    trivial⟩ ?_
                                exact hl43 _ (Option.some.inj h).symm
                            · refine ht_seqR hn (El := (_ :: _ :: _ :: _ :: _ :: _ :: _ :: _ :: _ :: _ :: _ :: _ :: (161, .fl (.own 3) 1 (List.map (Value.int .i64) v30.1)) :: (162, .fl (.own 3) 1 (List.map (Value.int .i64) v31.1)) :: (163, .v (.bool v35)) :: (164, .v (.bool true)) :: (165, .fl (.own 3) 1 (List.map (Value.int .i64) v30.2)) :: (166, .fl (.own 3) 1 (List.map (Value.int .i64) v31.2)) :: (167, .v (.bool v36)) :: (168, .v (.bool v36)) :: (169, .v (.bool true)) :: (170, .v (.int .i64 v33.2.2)) :: (171, .v (.int .i64 v34.2.2)) :: (172, .v (.bool (v33.2.2 == v34.2.2))) :: (173, .v (.bool (v33.2.2 == v34.2.2))) :: (174, .v (.bool true)) :: (175, .fl (.own 3) 1 (List.map (Value.int .i64) v33.1)) :: (176, .fl (.own 3) 1 (List.map (Value.int .i64) v34.1)) :: (177, .v (.bool v37)) :: (178, .v (.bool v37)) :: (179, .v (.bool false)) :: (180, .v undef) :: (181, .v undef) :: (182, .v undef) :: (183, .v (.bool false)) :: (184, .v (.bool false)) :: (185, .v undef) :: (186, .v undef) :: (187, .v undef) :: (188, .v (.bool false)) :: (189, .v (.bool false)) :: (190, .v undef) :: (191, .v (.bool false)) :: (4, .v (.bool false)) :: [])) (init := [0, 1, 2, 3, 4, 5, 6, 7, 8, 9, 10, 11]) (fin := [43]) (sps := (⟨[], [1], [12], [(.slot 161)]⟩ :: ⟨[], [3], [13], [(.slot 162)]⟩ :: ⟨[12, 13], [], [14], [(.slot 163)]⟩ :: ⟨[14], [], [15], [(.slot 164)]⟩ :: ⟨[15], [2], [16], [(.slot 165)]⟩ :: ⟨[15], [4], [17], [(.slot 166)]⟩ :: ⟨[15, 16, 17], [], [18], [(.slot 167)]⟩ :: ⟨[15, 18], [], [19], [(.slot 168)]⟩ :: ⟨[19], [], [20], [(.slot 169)]⟩ :: ⟨[20, 8], [], [21], [(.slot 170)]⟩ :: ⟨[20, 11], [], [22], [(.slot 171)]⟩ :: ⟨[20, 21, 22], [], [23], [(.slot 172)]⟩ :: ⟨[20, 23], [], [24], [(.slot 173)]⟩ :: ⟨[24], [], [25], [(.slot 174)]⟩ :: ⟨[25], [6], [26], [(.slot 175)]⟩ :: ⟨[25], [9], [27], [(.slot 176)]⟩ :: ⟨[25, 26, 27], [], [28], [(.slot 177)]⟩ :: ⟨[25, 28], [], [29], [(.slot 178)]⟩ :: ⟨[29], [], [30], [(.slot 179)]⟩ :: ⟨[30], [], [31], [(.slot 180)]⟩ :: ⟨[30], [], [32], [(.slot 181)]⟩ :: ⟨[30], [], [33], [(.slot 182)]⟩ :: ⟨[30], [], [34], [(.slot 183)]⟩ :: ⟨[34], [], [35], [(.slot 184)]⟩ :: ⟨[35], [], [36], [(.slot 185)]⟩ :: ⟨[35], [], [37], [(.slot 186)]⟩ :: ⟨[35], [], [38], [(.slot 187)]⟩ :: ⟨[35], [], [39], [(.slot 188)]⟩ :: ⟨[39], [], [40], [(.slot 189)]⟩ :: ⟨[40], [], [41], [(.slot 190)]⟩ :: ⟨[40], [], [42], [(.slot 191)]⟩ :: ⟨[42], [], [43], [(.slot 4)]⟩ :: [])) (es' := [(4, .v (.bool false))]) (by kernel_rfl) rfl rfl
                                ⟨st_plain rfl (op_move_take _ _ _ _ rfl),
                                  st_plain rfl (op_move_take _ _ _ _ rfl),
                                  st_plain rfl (op_call _ _ 22 _ _ rfl Try.call22 rfl (ok_wherrykeep_Ints v30.1 v31.1 _ hv35) rfl rfl),
                                  st_plain rfl (op_move _ _ _ _ (congrArg (fun b => AV.v (Value.bool b)) hg24_3) rfl),
                                  st_run 3 164 true rfl rfl rfl (List.Mem.head _) (op_move_take _ _ _ _ rfl),
                                  st_run 3 164 true rfl rfl rfl (List.Mem.head _) (op_move_take _ _ _ _ rfl),
                                  st_run 3 164 true rfl rfl rfl (List.Mem.head _) (op_call _ _ 22 _ _ rfl Try.call22 rfl (ok_wherrykeep_Ints v30.2 v31.2 _ hv36) rfl rfl),
                                  st_plain rfl (op_pick _ _ true _ rfl rfl),
                                  st_plain rfl (op_move _ _ _ _ (congrArg (fun b => AV.v (Value.bool b)) hg24_8) rfl),
                                  st_run 8 169 true rfl rfl rfl (List.Mem.head _) (op_move _ _ _ _ rfl rfl),
                                  st_run 8 169 true rfl rfl rfl (List.Mem.head _) (op_move _ _ _ _ rfl rfl),
                                  st_run 8 169 true rfl rfl rfl (List.Mem.head _) (op_bin _ _ _ _ _ rfl rfl rfl),
                                  st_plain rfl (op_pick _ _ true _ rfl rfl),
                                  st_plain rfl (op_move _ _ _ _ (congrArg (fun b => AV.v (Value.bool b)) hg24_13) rfl),
                                  st_run 13 174 true rfl rfl rfl (List.Mem.head _) (op_move_take _ _ _ _ rfl),
                                  st_run 13 174 true rfl rfl rfl (List.Mem.head _) (op_move_take _ _ _ _ rfl),
                                  st_run 13 174 true rfl rfl rfl (List.Mem.head _) (op_call _ _ 22 _ _ rfl Try.call22 rfl (ok_wherrykeep_Ints v33.1 v34.1 _ hv37) rfl rfl),
                                  st_plain rfl (op_pick _ _ true _ rfl rfl),
                                  st_plain rfl (op_move _ _ _ _ (congrArg (fun b => AV.v (Value.bool b)) hg24_18) rfl),
                                  st_skip 18 179 _ true rfl rfl rfl rfl (List.Mem.head _),
                                  st_skip 18 179 _ true rfl rfl rfl rfl (List.Mem.head _),
                                  st_skip 18 179 _ true rfl rfl rfl rfl (List.Mem.head _),
                                  st_plain rfl (op_pick _ _ false _ rfl rfl),
                                  st_plain rfl (op_move _ _ _ _ rfl rfl),
                                  st_skip 23 184 _ true rfl rfl rfl rfl (List.Mem.head _),
                                  st_skip 23 184 _ true rfl rfl rfl rfl (List.Mem.head _),
                                  st_skip 23 184 _ true rfl rfl rfl rfl (List.Mem.head _),
                                  st_plain rfl (op_pick _ _ false _ rfl rfl),
                                  st_plain rfl (op_move _ _ _ _ rfl rfl),
                                  st_skip 28 189 _ true rfl rfl rfl rfl (List.Mem.head _),
                                  st_plain rfl (op_pick _ _ false _ rfl rfl),
                                  st_plain rfl (op_assign _ _ _ _ rfl rfl),
                                  trivial⟩ ?_
                              exact hl43 _ (Option.some.inj h).symm
                          · refine ht_seqR hn (El := (_ :: _ :: _ :: _ :: _ :: _ :: _ :: _ :: _ :: _ :: _ :: _ :: (161, .fl (.own 3) 1 (List.map (Value.int .i64) v30.1)) :: (162, .fl (.own 3) 1 (List.map (Value.int .i64) v31.1)) :: (163, .v (.bool v35)) :: (164, .v (.bool true)) :: (165, .fl (.own 3) 1 (List.map (Value.int .i64) v30.2)) :: (166, .fl (.own 3) 1 (List.map (Value.int .i64) v31.2)) :: (167, .v (.bool v36)) :: (168, .v (.bool v36)) :: (169, .v (.bool true)) :: (170, .v (.int .i64 v33.2.2)) :: (171, .v (.int .i64 v34.2.2)) :: (172, .v (.bool (v33.2.2 == v34.2.2))) :: (173, .v (.bool (v33.2.2 == v34.2.2))) :: (174, .v (.bool false)) :: (175, .v undef) :: (176, .v undef) :: (177, .v undef) :: (178, .v (.bool false)) :: (179, .v (.bool false)) :: (180, .v undef) :: (181, .v undef) :: (182, .v undef) :: (183, .v (.bool false)) :: (184, .v (.bool false)) :: (185, .v undef) :: (186, .v undef) :: (187, .v undef) :: (188, .v (.bool false)) :: (189, .v (.bool false)) :: (190, .v undef) :: (191, .v (.bool false)) :: (4, .v (.bool false)) :: [])) (init := [0, 1, 2, 3, 4, 5, 6, 7, 8, 9, 10, 11]) (fin := [43]) (sps := (⟨[], [1], [12], [(.slot 161)]⟩ :: ⟨[], [3], [13], [(.slot 162)]⟩ :: ⟨[12, 13], [], [14], [(.slot 163)]⟩ :: ⟨[14], [], [15], [(.slot 164)]⟩ :: ⟨[15], [2], [16], [(.slot 165)]⟩ :: ⟨[15], [4], [17], [(.slot 166)]⟩ :: ⟨[15, 16, 17], [], [18], [(.slot 167)]⟩ :: ⟨[15, 18], [], [19], [(.slot 168)]⟩ :: ⟨[19], [], [20], [(.slot 169)]⟩ :: ⟨[20, 8], [], [21], [(.slot 170)]⟩ :: ⟨[20, 11], [], [22], [(.slot 171)]⟩ :: ⟨[20, 21, 22], [], [23], [(.slot 172)]⟩ :: ⟨[20, 23], [], [24], [(.slot 173)]⟩ :: ⟨[24], [], [25], [(.slot 174)]⟩ :: ⟨[25], [], [26], [(.slot 175)]⟩ :: ⟨[25], [], [27], [(.slot 176)]⟩ :: ⟨[25], [], [28], [(.slot 177)]⟩ :: ⟨[25], [], [29], [(.slot 178)]⟩ :: ⟨[29], [], [30], [(.slot 179)]⟩ :: ⟨[30], [], [31], [(.slot 180)]⟩ :: ⟨[30], [], [32], [(.slot 181)]⟩ :: ⟨[30], [], [33], [(.slot 182)]⟩ :: ⟨[30], [], [34], [(.slot 183)]⟩ :: ⟨[34], [], [35], [(.slot 184)]⟩ :: ⟨[35], [], [36], [(.slot 185)]⟩ :: ⟨[35], [], [37], [(.slot 186)]⟩ :: ⟨[35], [], [38], [(.slot 187)]⟩ :: ⟨[35], [], [39], [(.slot 188)]⟩ :: ⟨[39], [], [40], [(.slot 189)]⟩ :: ⟨[40], [], [41], [(.slot 190)]⟩ :: ⟨[40], [], [42], [(.slot 191)]⟩ :: ⟨[42], [], [43], [(.slot 4)]⟩ :: [])) (es' := [(4, .v (.bool false))]) (by kernel_rfl) rfl rfl
                              ⟨st_plain rfl (op_move_take _ _ _ _ rfl),
                                st_plain rfl (op_move_take _ _ _ _ rfl),
                                st_plain rfl (op_call _ _ 22 _ _ rfl Try.call22 rfl (ok_wherrykeep_Ints v30.1 v31.1 _ hv35) rfl rfl),
                                st_plain rfl (op_move _ _ _ _ (congrArg (fun b => AV.v (Value.bool b)) hg24_3) rfl),
                                st_run 3 164 true rfl rfl rfl (List.Mem.head _) (op_move_take _ _ _ _ rfl),
                                st_run 3 164 true rfl rfl rfl (List.Mem.head _) (op_move_take _ _ _ _ rfl),
                                st_run 3 164 true rfl rfl rfl (List.Mem.head _) (op_call _ _ 22 _ _ rfl Try.call22 rfl (ok_wherrykeep_Ints v30.2 v31.2 _ hv36) rfl rfl),
                                st_plain rfl (op_pick _ _ true _ rfl rfl),
                                st_plain rfl (op_move _ _ _ _ (congrArg (fun b => AV.v (Value.bool b)) hg24_8) rfl),
                                st_run 8 169 true rfl rfl rfl (List.Mem.head _) (op_move _ _ _ _ rfl rfl),
                                st_run 8 169 true rfl rfl rfl (List.Mem.head _) (op_move _ _ _ _ rfl rfl),
                                st_run 8 169 true rfl rfl rfl (List.Mem.head _) (op_bin _ _ _ _ _ rfl rfl rfl),
                                st_plain rfl (op_pick _ _ true _ rfl rfl),
                                st_plain rfl (op_move _ _ _ _ (congrArg (fun b => AV.v (Value.bool b)) hg24_13) rfl),
                                st_skip 13 174 _ true rfl rfl rfl rfl (List.Mem.head _),
                                st_skip 13 174 _ true rfl rfl rfl rfl (List.Mem.head _),
                                st_skip 13 174 _ true rfl rfl rfl rfl (List.Mem.head _),
                                st_plain rfl (op_pick _ _ false _ rfl rfl),
                                st_plain rfl (op_move _ _ _ _ rfl rfl),
                                st_skip 18 179 _ true rfl rfl rfl rfl (List.Mem.head _),
                                st_skip 18 179 _ true rfl rfl rfl rfl (List.Mem.head _),
                                st_skip 18 179 _ true rfl rfl rfl rfl (List.Mem.head _),
                                st_plain rfl (op_pick _ _ false _ rfl rfl),
                                st_plain rfl (op_move _ _ _ _ rfl rfl),
                                st_skip 23 184 _ true rfl rfl rfl rfl (List.Mem.head _),
                                st_skip 23 184 _ true rfl rfl rfl rfl (List.Mem.head _),
                                st_skip 23 184 _ true rfl rfl rfl rfl (List.Mem.head _),
                                st_plain rfl (op_pick _ _ false _ rfl rfl),
                                st_plain rfl (op_move _ _ _ _ rfl rfl),
                                st_skip 28 189 _ true rfl rfl rfl rfl (List.Mem.head _),
                                st_plain rfl (op_pick _ _ false _ rfl rfl),
                                st_plain rfl (op_assign _ _ _ _ rfl rfl),
                                trivial⟩ ?_
                            exact hl43 _ (Option.some.inj h).symm
                        · refine ht_seqR hn (El := (_ :: _ :: _ :: _ :: _ :: _ :: _ :: _ :: _ :: _ :: _ :: _ :: (161, .fl (.own 3) 1 (List.map (Value.int .i64) v30.1)) :: (162, .fl (.own 3) 1 (List.map (Value.int .i64) v31.1)) :: (163, .v (.bool v35)) :: (164, .v (.bool true)) :: (165, .fl (.own 3) 1 (List.map (Value.int .i64) v30.2)) :: (166, .fl (.own 3) 1 (List.map (Value.int .i64) v31.2)) :: (167, .v (.bool v36)) :: (168, .v (.bool v36)) :: (169, .v (.bool false)) :: (170, .v undef) :: (171, .v undef) :: (172, .v undef) :: (173, .v (.bool false)) :: (174, .v (.bool false)) :: (175, .v undef) :: (176, .v undef) :: (177, .v undef) :: (178, .v (.bool false)) :: (179, .v (.bool false)) :: (180, .v undef) :: (181, .v undef) :: (182, .v undef) :: (183, .v (.bool false)) :: (184, .v (.bool false)) :: (185, .v undef) :: (186, .v undef) :: (187, .v undef) :: (188, .v (.bool false)) :: (189, .v (.bool false)) :: (190, .v undef) :: (191, .v (.bool false)) :: (4, .v (.bool false)) :: [])) (init := [0, 1, 2, 3, 4, 5, 6, 7, 8, 9, 10, 11]) (fin := [43]) (sps := (⟨[], [1], [12], [(.slot 161)]⟩ :: ⟨[], [3], [13], [(.slot 162)]⟩ :: ⟨[12, 13], [], [14], [(.slot 163)]⟩ :: ⟨[14], [], [15], [(.slot 164)]⟩ :: ⟨[15], [2], [16], [(.slot 165)]⟩ :: ⟨[15], [4], [17], [(.slot 166)]⟩ :: ⟨[15, 16, 17], [], [18], [(.slot 167)]⟩ :: ⟨[15, 18], [], [19], [(.slot 168)]⟩ :: ⟨[19], [], [20], [(.slot 169)]⟩ :: ⟨[20], [], [21], [(.slot 170)]⟩ :: ⟨[20], [], [22], [(.slot 171)]⟩ :: ⟨[20], [], [23], [(.slot 172)]⟩ :: ⟨[20], [], [24], [(.slot 173)]⟩ :: ⟨[24], [], [25], [(.slot 174)]⟩ :: ⟨[25], [], [26], [(.slot 175)]⟩ :: ⟨[25], [], [27], [(.slot 176)]⟩ :: ⟨[25], [], [28], [(.slot 177)]⟩ :: ⟨[25], [], [29], [(.slot 178)]⟩ :: ⟨[29], [], [30], [(.slot 179)]⟩ :: ⟨[30], [], [31], [(.slot 180)]⟩ :: ⟨[30], [], [32], [(.slot 181)]⟩ :: ⟨[30], [], [33], [(.slot 182)]⟩ :: ⟨[30], [], [34], [(.slot 183)]⟩ :: ⟨[34], [], [35], [(.slot 184)]⟩ :: ⟨[35], [], [36], [(.slot 185)]⟩ :: ⟨[35], [], [37], [(.slot 186)]⟩ :: ⟨[35], [], [38], [(.slot 187)]⟩ :: ⟨[35], [], [39], [(.slot 188)]⟩ :: ⟨[39], [], [40], [(.slot 189)]⟩ :: ⟨[40], [], [41], [(.slot 190)]⟩ :: ⟨[40], [], [42], [(.slot 191)]⟩ :: ⟨[42], [], [43], [(.slot 4)]⟩ :: [])) (es' := [(4, .v (.bool false))]) (by kernel_rfl) rfl rfl
                            ⟨st_plain rfl (op_move_take _ _ _ _ rfl),
                              st_plain rfl (op_move_take _ _ _ _ rfl),
                              st_plain rfl (op_call _ _ 22 _ _ rfl Try.call22 rfl (ok_wherrykeep_Ints v30.1 v31.1 _ hv35) rfl rfl),
                              st_plain rfl (op_move _ _ _ _ (congrArg (fun b => AV.v (Value.bool b)) hg24_3) rfl),
                              st_run 3 164 true rfl rfl rfl (List.Mem.head _) (op_move_take _ _ _ _ rfl),
                              st_run 3 164 true rfl rfl rfl (List.Mem.head _) (op_move_take _ _ _ _ rfl),
                              st_run 3 164 true rfl rfl rfl (List.Mem.head _) (op_call _ _ 22 _ _ rfl Try.call22 rfl (ok_wherrykeep_Ints v30.2 v31.2 _ hv36) rfl rfl),
                              st_plain rfl (op_pick _ _ true _ rfl rfl),
                              st_plain rfl (op_move _ _ _ _ (congrArg (fun b => AV.v (Value.bool b)) hg24_8) rfl),
                              st_skip 8 169 _ true rfl rfl rfl rfl (List.Mem.head _),
                              st_skip 8 169 _ true rfl rfl rfl rfl (List.Mem.head _),
                              st_skip 8 169 _ true rfl rfl rfl rfl (List.Mem.head _),
                              st_plain rfl (op_pick _ _ false _ rfl rfl),
                              st_plain rfl (op_move _ _ _ _ rfl rfl),
                              st_skip 13 174 _ true rfl rfl rfl rfl (List.Mem.head _),
                              st_skip 13 174 _ true rfl rfl rfl rfl (List.Mem.head _),
                              st_skip 13 174 _ true rfl rfl rfl rfl (List.Mem.head _),
                              st_plain rfl (op_pick _ _ false _ rfl rfl),
                              st_plain rfl (op_move _ _ _ _ rfl rfl),
                              st_skip 18 179 _ true rfl rfl rfl rfl (List.Mem.head _),
                              st_skip 18 179 _ true rfl rfl rfl rfl (List.Mem.head _),
                              st_skip 18 179 _ true rfl rfl rfl rfl (List.Mem.head _),
                              st_plain rfl (op_pick _ _ false _ rfl rfl),
                              st_plain rfl (op_move _ _ _ _ rfl rfl),
                              st_skip 23 184 _ true rfl rfl rfl rfl (List.Mem.head _),
                              st_skip 23 184 _ true rfl rfl rfl rfl (List.Mem.head _),
                              st_skip 23 184 _ true rfl rfl rfl rfl (List.Mem.head _),
                              st_plain rfl (op_pick _ _ false _ rfl rfl),
                              st_plain rfl (op_move _ _ _ _ rfl rfl),
                              st_skip 28 189 _ true rfl rfl rfl rfl (List.Mem.head _),
                              st_plain rfl (op_pick _ _ false _ rfl rfl),
                              st_plain rfl (op_assign _ _ _ _ rfl rfl),
                              trivial⟩ ?_
                          exact hl43 _ (Option.some.inj h).symm
                      · refine ht_seqR hn (El := (_ :: _ :: _ :: _ :: _ :: _ :: _ :: _ :: _ :: _ :: _ :: _ :: (161, .fl (.own 3) 1 (List.map (Value.int .i64) v30.1)) :: (162, .fl (.own 3) 1 (List.map (Value.int .i64) v31.1)) :: (163, .v (.bool v35)) :: (164, .v (.bool false)) :: (165, .v undef) :: (166, .v undef) :: (167, .v undef) :: (168, .v (.bool false)) :: (169, .v (.bool false)) :: (170, .v undef) :: (171, .v undef) :: (172, .v undef) :: (173, .v (.bool false)) :: (174, .v (.bool false)) :: (175, .v undef) :: (176, .v undef) :: (177, .v undef) :: (178, .v (.bool false)) :: (179, .v (.bool false)) :: (180, .v undef) :: (181, .v undef) :: (182, .v undef) :: (183, .v (.bool false)) :: (184, .v (.bool false)) :: (185, .v undef) :: (186, .v undef) :: (187, .v undef) :: (188, .v (.bool false)) :: (189, .v (.bool false)) :: (190, .v undef) :: (191, .v (.bool false)) :: (4, .v (.bool false)) :: [])) (init := [0, 1, 2, 3, 4, 5, 6, 7, 8, 9, 10, 11]) (fin := [43]) (sps := (⟨[], [1], [12], [(.slot 161)]⟩ :: ⟨[], [3], [13], [(.slot 162)]⟩ :: ⟨[12, 13], [], [14], [(.slot 163)]⟩ :: ⟨[14], [], [15], [(.slot 164)]⟩ :: ⟨[15], [], [16], [(.slot 165)]⟩ :: ⟨[15], [], [17], [(.slot 166)]⟩ :: ⟨[15], [], [18], [(.slot 167)]⟩ :: ⟨[15], [], [19], [(.slot 168)]⟩ :: ⟨[19], [], [20], [(.slot 169)]⟩ :: ⟨[20], [], [21], [(.slot 170)]⟩ :: ⟨[20], [], [22], [(.slot 171)]⟩ :: ⟨[20], [], [23], [(.slot 172)]⟩ :: ⟨[20], [], [24], [(.slot 173)]⟩ :: ⟨[24], [], [25], [(.slot 174)]⟩ :: ⟨[25], [], [26], [(.slot 175)]⟩ :: ⟨[25], [], [27], [(.slot 176)]⟩ :: ⟨[25], [], [28], [(.slot 177)]⟩ :: ⟨[25], [], [29], [(.slot 178)]⟩ :: ⟨[29], [], [30], [(.slot 179)]⟩ :: ⟨[30], [], [31], [(.slot 180)]⟩ :: ⟨[30], [], [32], [(.slot 181)]⟩ :: ⟨[30], [], [33], [(.slot 182)]⟩ :: ⟨[30], [], [34], [(.slot 183)]⟩ :: ⟨[34], [], [35], [(.slot 184)]⟩ :: ⟨[35], [], [36], [(.slot 185)]⟩ :: ⟨[35], [], [37], [(.slot 186)]⟩ :: ⟨[35], [], [38], [(.slot 187)]⟩ :: ⟨[35], [], [39], [(.slot 188)]⟩ :: ⟨[39], [], [40], [(.slot 189)]⟩ :: ⟨[40], [], [41], [(.slot 190)]⟩ :: ⟨[40], [], [42], [(.slot 191)]⟩ :: ⟨[42], [], [43], [(.slot 4)]⟩ :: [])) (es' := [(4, .v (.bool false))]) (by kernel_rfl) rfl rfl
                          ⟨st_plain rfl (op_move_take _ _ _ _ rfl),
                            st_plain rfl (op_move_take _ _ _ _ rfl),
                            st_plain rfl (op_call _ _ 22 _ _ rfl Try.call22 rfl (ok_wherrykeep_Ints v30.1 v31.1 _ hv35) rfl rfl),
                            st_plain rfl (op_move _ _ _ _ (congrArg (fun b => AV.v (Value.bool b)) hg24_3) rfl),
                            st_skip 3 164 _ true rfl rfl rfl rfl (List.Mem.head _),
                            st_skip 3 164 _ true rfl rfl rfl rfl (List.Mem.head _),
                            st_skip 3 164 _ true rfl rfl rfl rfl (List.Mem.head _),
                            st_plain rfl (op_pick _ _ false _ rfl rfl),
                            st_plain rfl (op_move _ _ _ _ rfl rfl),
                            st_skip 8 169 _ true rfl rfl rfl rfl (List.Mem.head _),
                            st_skip 8 169 _ true rfl rfl rfl rfl (List.Mem.head _),
                            st_skip 8 169 _ true rfl rfl rfl rfl (List.Mem.head _),
                            st_plain rfl (op_pick _ _ false _ rfl rfl),
                            st_plain rfl (op_move _ _ _ _ rfl rfl),
                            st_skip 13 174 _ true rfl rfl rfl rfl (List.Mem.head _),
                            st_skip 13 174 _ true rfl rfl rfl rfl (List.Mem.head _),
                            st_skip 13 174 _ true rfl rfl rfl rfl (List.Mem.head _),
                            st_plain rfl (op_pick _ _ false _ rfl rfl),
                            st_plain rfl (op_move _ _ _ _ rfl rfl),
                            st_skip 18 179 _ true rfl rfl rfl rfl (List.Mem.head _),
                            st_skip 18 179 _ true rfl rfl rfl rfl (List.Mem.head _),
                            st_skip 18 179 _ true rfl rfl rfl rfl (List.Mem.head _),
                            st_plain rfl (op_pick _ _ false _ rfl rfl),
                            st_plain rfl (op_move _ _ _ _ rfl rfl),
                            st_skip 23 184 _ true rfl rfl rfl rfl (List.Mem.head _),
                            st_skip 23 184 _ true rfl rfl rfl rfl (List.Mem.head _),
                            st_skip 23 184 _ true rfl rfl rfl rfl (List.Mem.head _),
                            st_plain rfl (op_pick _ _ false _ rfl rfl),
                            st_plain rfl (op_move _ _ _ _ rfl rfl),
                            st_skip 28 189 _ true rfl rfl rfl rfl (List.Mem.head _),
                            st_plain rfl (op_pick _ _ false _ rfl rfl),
                            st_plain rfl (op_assign _ _ _ _ rfl rfl),
                            trivial⟩ ?_
                        exact hl43 _ (Option.some.inj h).symm
                · intro u26 h hl27 hr28
                  refine cond_some h (fun hg17_3 h => ?_) (fun hg17_3 h => ?_)
                  · refine ht_seqR hn (El := (_ :: _ :: _ :: _ :: _ :: _ :: _ :: (126, .v (.int .i64 v23.2.2)) :: (127, .v (.int .i64 v24.2.2)) :: (128, .v (.bool (v23.2.2 != v24.2.2))) :: (129, .v (.bool true)) :: (130, .v undef) :: (131, .v undef) :: (132, .v undef) :: (133, .v (.bool true)) :: (134, .v (.bool true)) :: (135, .v undef) :: (136, .v undef) :: (137, .v undef) :: (138, .v (.bool true)) :: [])) (init := [0, 1, 2, 3, 4, 5, 6]) (fin := [0, 19]) (sps := [⟨[3], [], [7], [(.slot 126)]⟩, ⟨[6], [], [8], [(.slot 127)]⟩, ⟨[7, 8], [], [9], [(.slot 128)]⟩, ⟨[9], [], [10], [(.slot 129)]⟩, ⟨[10], [], [11], [(.slot 130)]⟩, ⟨[10], [], [12], [(.slot 131)]⟩, ⟨[10], [], [13], [(.slot 132)]⟩, ⟨[10], [], [14], [(.slot 133)]⟩, ⟨[14], [], [15], [(.slot 134)]⟩, ⟨[15], [], [16], [(.slot 135)]⟩, ⟨[15], [], [17], [(.slot 136)]⟩, ⟨[15], [], [18], [(.slot 137)]⟩, ⟨[15], [], [19], [(.slot 138)]⟩]) (es' := [(_, _), (138, .v (.bool true))]) (by kernel_rfl) rfl rfl
                      ⟨st_plain rfl (op_move _ _ _ _ rfl rfl),
                        st_plain rfl (op_move _ _ _ _ rfl rfl),
                        st_plain rfl (op_bin _ _ _ _ _ rfl rfl rfl),
                        st_plain rfl (op_move _ _ _ _ (congrArg (fun b => AV.v (Value.bool b)) hg17_3) rfl),
                        st_skip 3 129 _ false rfl rfl rfl rfl (List.Mem.head _),
                        st_skip 3 129 _ false rfl rfl rfl rfl (List.Mem.head _),
                        st_skip 3 129 _ false rfl rfl rfl rfl (List.Mem.head _),
                        st_plain rfl (op_pick _ _ true _ rfl rfl),
                        st_plain rfl (op_move _ _ _ _ rfl rfl),
                        st_skip 8 134 _ false rfl rfl rfl rfl (List.Mem.head _),
                        st_skip 8 134 _ false rfl rfl rfl rfl (List.Mem.head _),
                        st_skip 8 134 _ false rfl rfl rfl rfl (List.Mem.head _),
                        st_plain rfl (op_pick _ _ true _ rfl rfl),
                        trivial⟩ ?_
                    exact hl27 _ (Option.some.inj h).symm
                  · refine cond_some h (fun hg17_8 h => ?_) (fun hg17_8 h => ?_)
                    · refine ht_seqR hn (El := (_ :: _ :: _ :: _ :: _ :: _ :: _ :: (126, .v (.int .i64 v23.2.2)) :: (127, .v (.int .i64 v24.2.2)) :: (128, .v (.bool (v23.2.2 != v24.2.2))) :: (129, .v (.bool false)) :: (130, .v (.int .i64 v23.1)) :: (131, .v (.int .i64 v24.1)) :: (132, .v (.bool (v23.1 != v24.1))) :: (133, .v (.bool (v23.1 != v24.1))) :: (134, .v (.bool true)) :: (135, .v undef) :: (136, .v undef) :: (137, .v undef) :: (138, .v (.bool true)) :: [])) (init := [0, 1, 2, 3, 4, 5, 6]) (fin := [0, 19]) (sps := [⟨[3], [], [7], [(.slot 126)]⟩, ⟨[6], [], [8], [(.slot 127)]⟩, ⟨[7, 8], [], [9], [(.slot 128)]⟩, ⟨[9], [], [10], [(.slot 129)]⟩, ⟨[10, 1], [], [11], [(.slot 130)]⟩, ⟨[10, 4], [], [12], [(.slot 131)]⟩, ⟨[10, 11, 12], [], [13], [(.slot 132)]⟩, ⟨[10, 13], [], [14], [(.slot 133)]⟩, ⟨[14], [], [15], [(.slot 134)]⟩, ⟨[15], [], [16], [(.slot 135)]⟩, ⟨[15], [], [17], [(.slot 136)]⟩, ⟨[15], [], [18], [(.slot 137)]⟩, ⟨[15], [], [19], [(.slot 138)]⟩]) (es' := [(_, _), (138, .v (.bool true))]) (by kernel_rfl) rfl rfl
                        ⟨st_plain rfl (op_move _ _ _ _ rfl rfl),
                          st_plain rfl (op_move _ _ _ _ rfl rfl),
                          st_plain rfl (op_bin _ _ _ _ _ rfl rfl rfl),
                          st_plain rfl (op_move _ _ _ _ (congrArg (fun b => AV.v (Value.bool b)) hg17_3) rfl),
                          st_run 3 129 false rfl rfl rfl (List.Mem.head _) (op_move _ _ _ _ rfl rfl),
                          st_run 3 129 false rfl rfl rfl (List.Mem.head _) (op_move _ _ _ _ rfl rfl),
                          st_run 3 129 false rfl rfl rfl (List.Mem.head _) (op_bin _ _ _ _ _ rfl rfl rfl),
                          st_plain rfl (op_pick _ _ false _ rfl rfl),
                          st_plain rfl (op_move _ _ _ _ (congrArg (fun b => AV.v (Value.bool b)) hg17_8) rfl),
                          st_skip 8 134 _ false rfl rfl rfl rfl (List.Mem.head _),
                          st_skip 8 134 _ false rfl rfl rfl rfl (List.Mem.head _),
                          st_skip 8 134 _ false rfl rfl rfl rfl (List.Mem.head _),
                          st_plain rfl (op_pick _ _ true _ rfl rfl),
                          trivial⟩ ?_
                      exact hl27 _ (Option.some.inj h).symm
                    · refine ht_seqR hn (El := (_ :: _ :: _ :: _ :: _ :: _ :: _ :: (126, .v (.int .i64 v23.2.2)) :: (127, .v (.int .i64 v24.2.2)) :: (128, .v (.bool (v23.2.2 != v24.2.2))) :: (129, .v (.bool false)) :: (130, .v (.int .i64 v23.1)) :: (131, .v (.int .i64 v24.1)) :: (132, .v (.bool (v23.1 != v24.1))) :: (133, .v (.bool (v23.1 != v24.1))) :: (134, .v (.bool false)) :: (135, .v (.int .i64 v23.2.1)) :: (136, .v (.int .i64 v24.2.1)) :: (137, .v (.bool (v23.2.1 != v24.2.1))) :: (138, .v (.bool (v23.2.1 != v24.2.1))) :: [])) (init := [0, 1, 2, 3, 4, 5, 6]) (fin := [0, 19]) (sps := [⟨[3], [], [7], [(.slot 126)]⟩, ⟨[6], [], [8], [(.slot 127)]⟩, ⟨[7, 8], [], [9], [(.slot 128)]⟩, ⟨[9], [], [10], [(.slot 129)]⟩, ⟨[10, 1], [], [11], [(.slot 130)]⟩, ⟨[10, 4], [], [12], [(.slot 131)]⟩, ⟨[10, 11, 12], [], [13], [(.slot 132)]⟩, ⟨[10, 13], [], [14], [(.slot 133)]⟩, ⟨[14], [], [15], [(.slot 134)]⟩, ⟨[15, 2], [], [16], [(.slot 135)]⟩, ⟨[15, 5], [], [17], [(.slot 136)]⟩, ⟨[15, 16, 17], [], [18], [(.slot 137)]⟩, ⟨[15, 18], [], [19], [(.slot 138)]⟩]) (es' := [(_, _), (138, .v (.bool (v23.2.1 != v24.2.1)))]) (by kernel_rfl) rfl rfl
                        ⟨st_plain rfl (op_move _ _ _ _ rfl rfl),
                          st_plain rfl (op_move _ _ _ _ rfl rfl),
                          st_plain rfl (op_bin _ _ _ _ _ rfl rfl rfl),
                          st_plain rfl (op_move _ _ _ _ (congrArg (fun b => AV.v (Value.bool b)) hg17_3) rfl),
                          st_run 3 129 false rfl rfl rfl (List.Mem.head _) (op_move _ _ _ _ rfl rfl),
                          st_run 3 129 false rfl rfl rfl (List.Mem.head _) (op_move _ _ _ _ rfl rfl),
                          st_run 3 129 false rfl rfl rfl (List.Mem.head _) (op_bin _ _ _ _ _ rfl rfl rfl),
                          st_plain rfl (op_pick _ _ false _ rfl rfl),
                          st_plain rfl (op_move _ _ _ _ (congrArg (fun b => AV.v (Value.bool b)) hg17_8) rfl),
                          st_run 8 134 false rfl rfl rfl (List.Mem.head _) (op_move _ _ _ _ rfl rfl),
                          st_run 8 134 false rfl rfl rfl (List.Mem.head _) (op_move _ _ _ _ rfl rfl),
                          st_run 8 134 false rfl rfl rfl (List.Mem.head _) (op_bin _ _ _ _ _ rfl rfl rfl),
                          st_plain rfl (op_pick _ _ false _ rfl rfl),
                          trivial⟩ ?_
                      exact hl27 _ (Option.some.inj h).symm
            · intro u19 h hl20 hr21
              refine cond_some h (fun hg13_3 h => ?_) (fun hg13_3 h => ?_)
              · refine ht_seqR hn (El := (_ :: _ :: _ :: _ :: _ :: _ :: _ :: _ :: (101, .v (.int .i64 v16.2.2)) :: (102, .v (.int .i64 v17.2.2)) :: (103, .v (.bool (v16.2.2 != v17.2.2))) :: (104, .v (.bool true)) :: (105, .v undef) :: (106, .v undef) :: (107, .v undef) :: (108, .v (.bool true)) :: (109, .v (.bool true)) :: (110, .v undef) :: (111, .v undef) :: (112, .v undef) :: (113, .v (.bool true)) :: [])) (init := [0, 1, 2, 3, 4, 5, 6, 7]) (fin := [0, 1, 20]) (sps := [⟨[4], [], [8], [(.slot 101)]⟩, ⟨[7], [], [9], [(.slot 102)]⟩, ⟨[8, 9], [], [10], [(.slot 103)]⟩, ⟨[10], [], [11], [(.slot 104)]⟩, ⟨[11], [], [12], [(.slot 105)]⟩, ⟨[11], [], [13], [(.slot 106)]⟩, ⟨[11], [], [14], [(.slot 107)]⟩, ⟨[11], [], [15], [(.slot 108)]⟩, ⟨[15], [], [16], [(.slot 109)]⟩, ⟨[16], [], [17], [(.slot 110)]⟩, ⟨[16], [], [18], [(.slot 111)]⟩, ⟨[16], [], [19], [(.slot 112)]⟩, ⟨[16], [], [20], [(.slot 113)]⟩]) (es' := [(_, _), (_, _), (113, .v (.bool true))]) (by kernel_rfl) rfl rfl
                  ⟨st_plain rfl (op_move _ _ _ _ rfl rfl),
                    st_plain rfl (op_move _ _ _ _ rfl rfl),
                    st_plain rfl (op_bin _ _ _ _ _ rfl rfl rfl),
                    st_plain rfl (op_move _ _ _ _ (congrArg (fun b => AV.v (Value.bool b)) hg13_3) rfl),
                    st_skip 3 104 _ false rfl rfl rfl rfl (List.Mem.head _),
                    st_skip 3 104 _ false rfl rfl rfl rfl (List.Mem.head _),
                    st_skip 3 104 _ false rfl rfl rfl rfl (List.Mem.head _),
                    st_plain rfl (op_pick _ _ true _ rfl rfl),
                    st_plain rfl (op_move _ _ _ _ rfl rfl),
                    st_skip 8 109 _ false rfl rfl rfl rfl (List.Mem.head _),
                    st_skip 8 109 _ false rfl rfl rfl rfl (List.Mem.head _),
                    st_skip 8 109 _ false rfl rfl rfl rfl (List.Mem.head _),
                    st_plain rfl (op_pick _ _ true _ rfl rfl),
                    trivial⟩ ?_
                exact hl20 _ (Option.some.inj h).symm
              · refine cond_some h (fun hg13_8 h => ?_) (fun hg13_8 h => ?_)
                · refine ht_seqR hn (El := (_ :: _ :: _ :: _ :: _ :: _ :: _ :: _ :: (101, .v (.int .i64 v16.2.2)) :: (102, .v (.int .i64 v17.2.2)) :: (103, .v (.bool (v16.2.2 != v17.2.2))) :: (104, .v (.bool false)) :: (105, .v (.int .i64 v16.1)) :: (106, .v (.int .i64 v17.1)) :: (107, .v (.bool (v16.1 != v17.1))) :: (108, .v (.bool (v16.1 != v17.1))) :: (109, .v (.bool true)) :: (110, .v undef) :: (111, .v undef) :: (112, .v undef) :: (113, .v (.bool true)) :: [])) (init := [0, 1, 2, 3, 4, 5, 6, 7]) (fin := [0, 1, 20]) (sps := [⟨[4], [], [8], [(.slot 101)]⟩, ⟨[7], [], [9], [(.slot 102)]⟩, ⟨[8, 9], [], [10], [(.slot 103)]⟩, ⟨[10], [], [11], [(.slot 104)]⟩, ⟨[11, 2], [], [12], [(.slot 105)]⟩, ⟨[11, 5], [], [13], [(.slot 106)]⟩, ⟨[11, 12, 13], [], [14], [(.slot 107)]⟩, ⟨[11, 14], [], [15], [(.slot 108)]⟩, ⟨[15], [], [16], [(.slot 109)]⟩, ⟨[16], [], [17], [(.slot 110)]⟩, ⟨[16], [], [18], [(.slot 111)]⟩, ⟨[16], [], [19], [(.slot 112)]⟩, ⟨[16], [], [20], [(.slot 113)]⟩]) (es' := [(_, _), (_, _), (113, .v (.bool true))]) (by kernel_rfl) rfl rfl
                    ⟨st_plain rfl (op_move _ _ _ _ rfl rfl),
                      st_plain rfl (op_move _ _ _ _ rfl rfl),
                      st_plain rfl (op_bin _ _ _ _ _ rfl rfl rfl),
                      st_plain rfl (op_move _ _ _ _ (congrArg (fun b => AV.v (Value.bool b)) hg13_3) rfl),
                      st_run 3 104 false rfl rfl rfl (List.Mem.head _) (op_move _ _ _ _ rfl rfl),
                      st_run 3 104 false rfl rfl rfl (List.Mem.head _) (op_move _ _ _ _ rfl rfl),
                      st_run 3 104 false rfl rfl rfl (List.Mem.head _) (op_bin _ _ _ _ _ rfl rfl rfl),
                      st_plain rfl (op_pick _ _ false _ rfl rfl),
                      st_plain rfl (op_move _ _ _ _ (congrArg (fun b => AV.v (Value.bool b)) hg13_8) rfl),
                      st_skip 8 109 _ false rfl rfl rfl rfl (List.Mem.head _),
                      st_skip 8 109 _ false rfl rfl rfl rfl (List.Mem.head _),
                      st_skip 8 109 _ false rfl rfl rfl rfl (List.Mem.head _),
                      st_plain rfl (op_pick _ _ true _ rfl rfl),
                      trivial⟩ ?_
                  exact hl20 _ (Option.some.inj h).symm
                · refine ht_seqR hn (El := (_ :: _ :: _ :: _ :: _ :: _ :: _ :: _ :: (101, .v (.int .i64 v16.2.2)) :: (102, .v (.int .i64 v17.2.2)) :: (103, .v (.bool (v16.2.2 != v17.2.2))) :: (104, .v (.bool false)) :: (105, .v (.int .i64 v16.1)) :: (106, .v (.int .i64 v17.1)) :: (107, .v (.bool (v16.1 != v17.1))) :: (108, .v (.bool (v16.1 != v17.1))) :: (109, .v (.bool false)) :: (110, .v (.int .i64 v16.2.1)) :: (111, .v (.int .i64 v17.2.1)) :: (112, .v (.bool (v16.2.1 != v17.2.1))) :: (113, .v (.bool (v16.2.1 != v17.2.1))) :: [])) (init := [0, 1, 2, 3, 4, 5, 6, 7]) (fin := [0, 1, 20]) (sps := [⟨[4], [], [8], [(.slot 101)]⟩, ⟨[7], [], [9], [(.slot 102)]⟩, ⟨[8, 9], [], [10], [(.slot 103)]⟩, ⟨[10], [], [11], [(.slot 104)]⟩, ⟨[11, 2], [], [12], [(.slot 105)]⟩, ⟨[11, 5], [], [13], [(.slot 106)]⟩, ⟨[11, 12, 13], [], [14], [(.slot 107)]⟩, ⟨[11, 14], [], [15], [(.slot 108)]⟩, ⟨[15], [], [16], [(.slot 109)]⟩, ⟨[16, 3], [], [17], [(.slot 110)]⟩, ⟨[16, 6], [], [18], [(.slot 111)]⟩, ⟨[16, 17, 18], [], [19], [(.slot 112)]⟩, ⟨[16, 19], [], [20], [(.slot 113)]⟩]) (es' := [(_, _), (_, _), (113, .v (.bool (v16.2.1 != v17.2.1)))]) (by kernel_rfl) rfl rfl
                    ⟨st_plain rfl (op_move _ _ _ _ rfl rfl),
                      st_plain rfl (op_move _ _ _ _ rfl rfl),
                      st_plain rfl (op_bin _ _ _ _ _ rfl rfl rfl),
                      st_plain rfl (op_move _ _ _ _ (congrArg (fun b => AV.v (Value.bool b)) hg13_3) rfl),
                      st_run 3 104 false rfl rfl rfl (List.Mem.head _) (op_move _ _ _ _ rfl rfl),
                      st_run 3 104 false rfl rfl rfl (List.Mem.head _) (op_move _ _ _ _ rfl rfl),
                      st_run 3 104 false rfl rfl rfl (List.Mem.head _) (op_bin _ _ _ _ _ rfl rfl rfl),
                      st_plain rfl (op_pick _ _ false _ rfl rfl),
                      st_plain rfl (op_move _ _ _ _ (congrArg (fun b => AV.v (Value.bool b)) hg13_8) rfl),
                      st_run 8 109 false rfl rfl rfl (List.Mem.head _) (op_move _ _ _ _ rfl rfl),
                      st_run 8 109 false rfl rfl rfl (List.Mem.head _) (op_move _ _ _ _ rfl rfl),
                      st_run 8 109 false rfl rfl rfl (List.Mem.head _) (op_bin _ _ _ _ _ rfl rfl rfl),
                      st_plain rfl (op_pick _ _ false _ rfl rfl),
                      trivial⟩ ?_
                  exact hl20 _ (Option.some.inj h).symm
        · intro u12 h hl13 hr14
          refine cond_some h (fun hg9_3 h => ?_) (fun hg9_3 h => ?_)
          · refine ht_seqR hn (El := (_ :: _ :: _ :: _ :: _ :: _ :: _ :: _ :: _ :: _ :: (71, .v (.int .i64 v9.2.2.2)) :: (72, .v (.int .i64 v10.2.2.2)) :: (73, .v (.bool (v9.2.2.2 != v10.2.2.2))) :: (74, .v (.bool true)) :: (75, .v undef) :: (76, .v undef) :: (77, .v undef) :: (78, .v (.bool true)) :: (79, .v (.bool true)) :: (80, .v undef) :: (81, .v undef) :: (82, .v undef) :: (83, .v (.bool true)) :: (84, .v (.bool true)) :: (85, .v undef) :: (86, .v undef) :: (87, .v undef) :: (88, .v (.bool true)) :: [])) (init := [0, 1, 2, 3, 4, 5, 6, 7, 8, 9]) (fin := [0, 1, 27]) (sps := (⟨[5], [], [10], [(.slot 71)]⟩ :: ⟨[9], [], [11], [(.slot 72)]⟩ :: ⟨[10, 11], [], [12], [(.slot 73)]⟩ :: ⟨[12], [], [13], [(.slot 74)]⟩ :: ⟨[13], [], [14], [(.slot 75)]⟩ :: ⟨[13], [], [15], [(.slot 76)]⟩ :: ⟨[13], [], [16], [(.slot 77)]⟩ :: ⟨[13], [], [17], [(.slot 78)]⟩ :: ⟨[17], [], [18], [(.slot 79)]⟩ :: ⟨[18], [], [19], [(.slot 80)]⟩ :: ⟨[18], [], [20], [(.slot 81)]⟩ :: ⟨[18], [], [21], [(.slot 82)]⟩ :: ⟨[18], [], [22], [(.slot 83)]⟩ :: ⟨[22], [], [23], [(.slot 84)]⟩ :: ⟨[23], [], [24], [(.slot 85)]⟩ :: ⟨[23], [], [25], [(.slot 86)]⟩ :: ⟨[23], [], [26], [(.slot 87)]⟩ :: ⟨[23], [], [27], [(.slot 88)]⟩ :: [])) (es' := [(_, _), (_, _), (88, .v (.bool true))]) (by kernel_rfl) rfl rfl
              ⟨st_plain rfl (op_move _ _ _ _ rfl rfl),
                st_plain rfl (op_move _ _ _ _ rfl rfl),
                st_plain rfl (op_bin _ _ _ _ _ rfl rfl rfl),
                st_plain rfl (op_move _ _ _ _ (congrArg (fun b => AV.v (Value.bool b)) hg9_3) rfl),
                st_skip 3 74 _ false rfl rfl rfl rfl (List.Mem.head _),
                st_skip 3 74 _ false rfl rfl rfl rfl (List.Mem.head _),
                st_skip 3 74 _ false rfl rfl rfl rfl (List.Mem.head _),
                st_plain rfl (op_pick _ _ true _ rfl rfl),
                st_plain rfl (op_move _ _ _ _ rfl rfl),
                st_skip 8 79 _ false rfl rfl rfl rfl (List.Mem.head _),
                st_skip 8 79 _ false rfl rfl rfl rfl (List.Mem.head _),
                st_skip 8 79 _ false rfl rfl rfl rfl (List.Mem.head _),
                st_plain rfl (op_pick _ _ true _ rfl rfl),
                st_plain rfl (op_move _ _ _ _ rfl rfl),
                st_skip 13 84 _ false rfl rfl rfl rfl (List.Mem.head _),
                st_skip 13 84 _ false rfl rfl rfl rfl (List.Mem.head _),
                st_skip 13 84 _ false rfl rfl rfl rfl (List.Mem.head _),
                st_plain rfl (op_pick _ _ true _ rfl rfl),
                trivial⟩ ?_
            exact hl13 _ (Option.some.inj h).symm
          · refine cond_some h (fun hg9_8 h => ?_) (fun hg9_8 h => ?_)
            · refine ht_seqR hn (El := (_ :: _ :: _ :: _ :: _ :: _ :: _ :: _ :: _ :: _ :: (71, .v (.int .i64 v9.2.2.2)) :: (72, .v (.int .i64 v10.2.2.2)) :: (73, .v (.bool (v9.2.2.2 != v10.2.2.2))) :: (74, .v (.bool false)) :: (75, .v (.int .i64 v9.1)) :: (76, .v (.int .i64 v10.1)) :: (77, .v (.bool (v9.1 != v10.1))) :: (78, .v (.bool (v9.1 != v10.1))) :: (79, .v (.bool true)) :: (80, .v undef) :: (81, .v undef) :: (82, .v undef) :: (83, .v (.bool true)) :: (84, .v (.bool true)) :: (85, .v undef) :: (86, .v undef) :: (87, .v undef) :: (88, .v (.bool true)) :: [])) (init := [0, 1, 2, 3, 4, 5, 6, 7, 8, 9]) (fin := [0, 1, 27]) (sps := (⟨[5], [], [10], [(.slot 71)]⟩ :: ⟨[9], [], [11], [(.slot 72)]⟩ :: ⟨[10, 11], [], [12], [(.slot 73)]⟩ :: ⟨[12], [], [13], [(.slot 74)]⟩ :: ⟨[13, 2], [], [14], [(.slot 75)]⟩ :: ⟨[13, 6], [], [15], [(.slot 76)]⟩ :: ⟨[13, 14, 15], [], [16], [(.slot 77)]⟩ :: ⟨[13, 16], [], [17], [(.slot 78)]⟩ :: ⟨[17], [], [18], [(.slot 79)]⟩ :: ⟨[18], [], [19], [(.slot 80)]⟩ :: ⟨[18], [], [20], [(.slot 81)]⟩ :: ⟨[18], [], [21], [(.slot 82)]⟩ :: ⟨[18], [], [22], [(.slot 83)]⟩ :: ⟨[22], [], [23], [(.slot 84)]⟩ :: ⟨[23], [], [24], [(.slot 85)]⟩ :: ⟨[23], [], [25], [(.slot 86)]⟩ :: ⟨[23], [], [26], [(.slot 87)]⟩ :: ⟨[23], [], [27], [(.slot 88)]⟩ :: [])) (es' := [(_, _), (_, _), (88, .v (.bool true))]) (by kernel_rfl) rfl rfl
                ⟨st_plain rfl (op_move _ _ _ _ rfl rfl),
                  st_plain rfl (op_move _ _ _ _ rfl rfl),
                  st_plain rfl (op_bin _ _ _ _ _ rfl rfl rfl),
                  st_plain rfl (op_move _ _ _ _ (congrArg (fun b => AV.v (Value.bool b)) hg9_3) rfl),
                  st_run 3 74 false rfl rfl rfl (List.Mem.head _) (op_move _ _ _ _ rfl rfl),
                  st_run 3 74 false rfl rfl rfl (List.Mem.head _) (op_move _ _ _ _ rfl rfl),
                  st_run 3 74 false rfl rfl rfl (List.Mem.head _) (op_bin _ _ _ _ _ rfl rfl rfl),
                  st_plain rfl (op_pick _ _ false _ rfl rfl),
                  st_plain rfl (op_move _ _ _ _ (congrArg (fun b => AV.v (Value.bool b)) hg9_8) rfl),
                  st_skip 8 79 _ false rfl rfl rfl rfl (List.Mem.head _),
                  st_skip 8 79 _ false rfl rfl rfl rfl (List.Mem.head _),
                  st_skip 8 79 _ false rfl rfl rfl rfl (List.Mem.head _),
                  st_plain rfl (op_pick _ _ true _ rfl rfl),
                  st_plain rfl (op_move _ _ _ _ rfl rfl),
                  st_skip 13 84 _ false rfl rfl rfl rfl (List.Mem.head _),
                  st_skip 13 84 _ false rfl rfl rfl rfl (List.Mem.head _),
                  st_skip 13 84 _ false rfl rfl rfl rfl (List.Mem.head _),
                  st_plain rfl (op_pick _ _ true _ rfl rfl),
                  trivial⟩ ?_
              exact hl13 _ (Option.some.inj h).symm
            · refine cond_some h (fun hg9_13 h => ?_) (fun hg9_13 h => ?_)
              · refine ht_seqR hn (El := (_ :: _ :: _ :: _ :: _ :: _ :: _ :: _ :: _ :: _ :: (71, .v (.int .i64 v9.2.2.2)) :: (72, .v (.int .i64 v10.2.2.2)) :: (73, .v (.bool (v9.2.2.2 != v10.2.2.2))) :: (74, .v (.bool false)) :: (75, .v (.int .i64 v9.1)) :: (76, .v (.int .i64 v10.1)) :: (77, .v (.bool (v9.1 != v10.1))) :: (78, .v (.bool (v9.1 != v10.1))) :: (79, .v (.bool false)) :: (80, .v (.int .i64 v9.2.1)) :: (81, .v (.int .i64 v10.2.1)) :: (82, .v (.bool (v9.2.1 != v10.2.1))) :: (83, .v (.bool (v9.2.1 != v10.2.1))) :: (84, .v (.bool true)) :: (85, .v undef) :: (86, .v undef) :: (87, .v undef) :: (88, .v (.bool true)) :: [])) (init := [0, 1, 2, 3, 4, 5, 6, 7, 8, 9]) (fin := [0, 1, 27]) (sps := (⟨[5], [], [10], [(.slot 71)]⟩ :: ⟨[9], [], [11], [(.slot 72)]⟩ :: ⟨[10, 11], [], [12], [(.slot 73)]⟩ :: ⟨[12], [], [13], [(.slot 74)]⟩ :: ⟨[13, 2], [], [14], [(.slot 75)]⟩ :: ⟨[13, 6], [], [15], [(.slot 76)]⟩ :: ⟨[13, 14, 15], [], [16], [(.slot 77)]⟩ :: ⟨[13, 16], [], [17], [(.slot 78)]⟩ :: ⟨[17], [], [18], [(.slot 79)]⟩ :: ⟨[18, 3], [], [19], [(.slot 80)]⟩ :: ⟨[18, 7], [], [20], [(.slot 81)]⟩ :: ⟨[18, 19, 20], [], [21], [(.slot 82)]⟩ :: ⟨[18, 21], [], [22], [(.slot 83)]⟩ :: ⟨[22], [], [23], [(.slot 84)]⟩ :: ⟨[23], [], [24], [(.slot 85)]⟩ :: ⟨[23], [], [25], [(.slot 86)]⟩ :: ⟨[23], [], [26], [(.slot 87)]⟩ :: ⟨[23], [], [27], [(.slot 88)]⟩ :: [])) (es' := [(_, _), (_, _), (88, .v (.bool true))]) (by kernel_rfl) rfl rfl
                  ⟨st_plain rfl (op_move _ _ _ _ rfl rfl),
                    st_plain rfl (op_move _ _ _ _ rfl rfl),
                    st_plain rfl (op_bin _ _ _ _ _ rfl rfl rfl),
                    st_plain rfl (op_move _ _ _ _ (congrArg (fun b => AV.v (Value.bool b)) hg9_3) rfl),
                    st_run 3 74 false rfl rfl rfl (List.Mem.head _) (op_move _ _ _ _ rfl rfl),
                    st_run 3 74 false rfl rfl rfl (List.Mem.head _) (op_move _ _ _ _ rfl rfl),
                    st_run 3 74 false rfl rfl rfl (List.Mem.head _) (op_bin _ _ _ _ _ rfl rfl rfl),
                    st_plain rfl (op_pick _ _ false _ rfl rfl),
                    st_plain rfl (op_move _ _ _ _ (congrArg (fun b => AV.v (Value.bool b)) hg9_8) rfl),
                    st_run 8 79 false rfl rfl rfl (List.Mem.head _) (op_move _ _ _ _ rfl rfl),
                    st_run 8 79 false rfl rfl rfl (List.Mem.head _) (op_move _ _ _ _ rfl rfl),
                    st_run 8 79 false rfl rfl rfl (List.Mem.head _) (op_bin _ _ _ _ _ rfl rfl rfl),
                    st_plain rfl (op_pick _ _ false _ rfl rfl),
                    st_plain rfl (op_move _ _ _ _ (congrArg (fun b => AV.v (Value.bool b)) hg9_13) rfl),
                    st_skip 13 84 _ false rfl rfl rfl rfl (List.Mem.head _),
                    st_skip 13 84 _ false rfl rfl rfl rfl (List.Mem.head _),
                    st_skip 13 84 _ false rfl rfl rfl rfl (List.Mem.head _),
                    st_plain rfl (op_pick _ _ true _ rfl rfl),
                    trivial⟩ ?_
                exact hl13 _ (Option.some.inj h).symm
              · refine ht_seqR hn (El := (_ :: _ :: _ :: _ :: _ :: _ :: _ :: _ :: _ :: _ :: (71, .v (.int .i64 v9.2.2.2)) :: (72, .v (.int .i64 v10.2.2.2)) :: (73, .v (.bool (v9.2.2.2 != v10.2.2.2))) :: (74, .v (.bool false)) :: (75, .v (.int .i64 v9.1)) :: (76, .v (.int .i64 v10.1)) :: (77, .v (.bool (v9.1 != v10.1))) :: (78, .v (.bool (v9.1 != v10.1))) :: (79, .v (.bool false)) :: (80, .v (.int .i64 v9.2.1)) :: (81, .v (.int .i64 v10.2.1)) :: (82, .v (.bool (v9.2.1 != v10.2.1))) :: (83, .v (.bool (v9.2.1 != v10.2.1))) :: (84, .v (.bool false)) :: (85, .v (.int .i64 v9.2.2.1)) :: (86, .v (.int .i64 v10.2.2.1)) :: (87, .v (.bool (v9.2.2.1 != v10.2.2.1))) :: (88, .v (.bool (v9.2.2.1 != v10.2.2.1))) :: [])) (init := [0, 1, 2, 3, 4, 5, 6, 7, 8, 9]) (fin := [0, 1, 27]) (sps := (⟨[5], [], [10], [(.slot 71)]⟩ :: ⟨[9], [], [11], [(.slot 72)]⟩ :: ⟨[10, 11], [], [12], [(.slot 73)]⟩ :: ⟨[12], [], [13], [(.slot 74)]⟩ :: ⟨[13, 2], [], [14], [(.slot 75)]⟩ :: ⟨[13, 6], [], [15], [(.slot 76)]⟩ :: ⟨[13, 14, 15], [], [16], [(.slot 77)]⟩ :: ⟨[13, 16], [], [17], [(.slot 78)]⟩ :: ⟨[17], [], [18], [(.slot 79)]⟩ :: ⟨[18, 3], [], [19], [(.slot 80)]⟩ :: ⟨[18, 7], [], [20], [(.slot 81)]⟩ :: ⟨[18, 19, 20], [], [21], [(.slot 82)]⟩ :: ⟨[18, 21], [], [22], [(.slot 83)]⟩ :: ⟨[22], [], [23], [(.slot 84)]⟩ :: ⟨[23, 4], [], [24], [(.slot 85)]⟩ :: ⟨[23, 8], [], [25], [(.slot 86)]⟩ :: ⟨[23, 24, 25], [], [26], [(.slot 87)]⟩ :: ⟨[23, 26], [], [27], [(.slot 88)]⟩ :: [])) (es' := [(_, _), (_, _), (88, .v (.bool (v9.2.2.1 != v10.2.2.1)))]) (by kernel_rfl) rfl rfl
                  ⟨st_plain rfl (op_move _ _ _ _ rfl rfl),
                    st_plain rfl (op_move _ _ _ _ rfl rfl),
                    st_plain rfl (op_bin _ _ _ _ _ rfl rfl rfl),
                    st_plain rfl (op_move _ _ _ _ (congrArg (fun b => AV.v (Value.bool b)) hg9_3) rfl),
                    st_run 3 74 false rfl rfl rfl (List.Mem.head _) (op_move _ _ _ _ rfl rfl),
                    st_run 3 74 false rfl rfl rfl (List.Mem.head _) (op_move _ _ _ _ rfl rfl),
                    st_run 3 74 false rfl rfl rfl (List.Mem.head _) (op_bin _ _ _ _ _ rfl rfl rfl),
                    st_plain rfl (op_pick _ _ false _ rfl rfl),
                    st_plain rfl (op_move _ _ _ _ (congrArg (fun b => AV.v (Value.bool b)) hg9_8) rfl),
                    st_run 8 79 false rfl rfl rfl (List.Mem.head _) (op_move _ _ _ _ rfl rfl),
                    st_run 8 79 false rfl rfl rfl (List.Mem.head _) (op_move _ _ _ _ rfl rfl),
                    st_run 8 79 false rfl rfl rfl (List.Mem.head _) (op_bin _ _ _ _ _ rfl rfl rfl),
                    st_plain rfl (op_pick _ _ false _ rfl rfl),
                    st_plain rfl (op_move _ _ _ _ (congrArg (fun b => AV.v (Value.bool b)) hg9_13) rfl),
                    st_run 13 84 false rfl rfl rfl (List.Mem.head _) (op_move _ _ _ _ rfl rfl),
                    st_run 13 84 false rfl rfl rfl (List.Mem.head _) (op_move _ _ _ _ rfl rfl),
                    st_run 13 84 false rfl rfl rfl (List.Mem.head _) (op_bin _ _ _ _ _ rfl rfl rfl),
                    st_plain rfl (op_pick _ _ false _ rfl rfl),
                    trivial⟩ ?_
                exact hl13 _ (Option.some.inj h).symm
    · intro u5 h hl6 hr7
      refine cond_some h (fun hg5_3 h => ?_) (fun hg5_3 h => ?_)
      · refine ht_seqR hn (El := (_ :: _ :: _ :: _ :: _ :: _ :: _ :: _ :: _ :: _ :: (39, .v (.int .i64 v2.2.2.2)) :: (40, .v (.int .i64 v3.2.2.2)) :: (41, .v (.bool (v2.2.2.2 != v3.2.2.2))) :: (42, .v (.bool true)) :: (43, .v undef) :: (44, .v undef) :: (45, .v undef) :: (46, .v (.bool true)) :: (47, .v (.bool true)) :: (48, .v undef) :: (49, .v undef) :: (50, .v undef) :: (51, .v (.bool true)) :: (52, .v (.bool true)) :: (53, .v undef) :: (54, .v undef) :: (55, .v undef) :: (56, .v (.bool true)) :: [])) (init := [0, 1, 2, 3, 4, 5, 6, 7, 8, 9]) (fin := [0, 1, 27]) (sps := (⟨[5], [], [10], [(.slot 39)]⟩ :: ⟨[9], [], [11], [(.slot 40)]⟩ :: ⟨[10, 11], [], [12], [(.slot 41)]⟩ :: ⟨[12], [], [13], [(.slot 42)]⟩ :: ⟨[13], [], [14], [(.slot 43)]⟩ :: ⟨[13], [], [15], [(.slot 44)]⟩ :: ⟨[13], [], [16], [(.slot 45)]⟩ :: ⟨[13], [], [17], [(.slot 46)]⟩ :: ⟨[17], [], [18], [(.slot 47)]⟩ :: ⟨[18], [], [19], [(.slot 48)]⟩ :: ⟨[18], [], [20], [(.slot 49)]⟩ :: ⟨[18], [], [21], [(.slot 50)]⟩ :: ⟨[18], [], [22], [(.slot 51)]⟩ :: ⟨[22], [], [23], [(.slot 52)]⟩ :: ⟨[23], [], [24], [(.slot 53)]⟩ :: ⟨[23], [], [25], [(.slot 54)]⟩ :: ⟨[23], [], [26], [(.slot 55)]⟩ :: ⟨[23], [], [27], [(.slot 56)]⟩ :: [])) (es' := [(_, _), (_, _), (56, .v (.bool true))]) (by kernel_rfl) rfl rfl
          ⟨st_plain rfl (op_move _ _ _ _ rfl rfl),
            st_plain rfl (op_move _ _ _ _ rfl rfl),
            st_plain rfl (op_bin _ _ _ _ _ rfl rfl rfl),
            st_plain rfl (op_move _ _ _ _ (congrArg (fun b => AV.v (Value.bool b)) hg5_3) rfl),
            st_skip 3 42 _ false rfl rfl rfl rfl (List.Mem.head _),
            st_skip 3 42 _ false rfl rfl rfl rfl (List.Mem.head _),
            st_skip 3 42 _ false rfl rfl rfl rfl (List.Mem.head _),
            st_plain rfl (op_pick _ _ true _ rfl rfl),
            st_plain rfl (op_move _ _ _ _ rfl rfl),
            st_skip 8 47 _ false rfl rfl rfl rfl (List.Mem.head _),
            st_skip 8 47 _ false rfl rfl rfl rfl (List.Mem.head _),
            st_skip 8 47 _ false rfl rfl rfl rfl (List.Mem.head _),
            st_plain rfl (op_pick _ _ true _ rfl rfl),
            st_plain rfl (op_move _ _ _ _ rfl rfl),
            st_skip 13 52 _ false rfl rfl rfl rfl (List.Mem.head _),
            st_skip 13 52 _ false rfl rfl rfl rfl (List.Mem.head _),
            st_skip 13 52 _ false rfl rfl rfl rfl (List.Mem.head _),
            st_plain rfl (op_pick _ _ true _ rfl rfl),
            trivial⟩ ?_
        exact hl6 _ (Option.some.inj h).symm
      · refine cond_some h (fun hg5_8 h => ?_) (fun hg5_8 h => ?_)
        · refine ht_seqR hn (El := (_ :: _ :: _ :: _ :: _ :: _ :: _ :: _ :: _ :: _ :: (39, .v (.int .i64 v2.2.2.2)) :: (40, .v (.int .i64 v3.2.2.2)) :: (41, .v (.bool (v2.2.2.2 != v3.2.2.2))) :: (42, .v (.bool false)) :: (43, .v (.int .i64 v2.1)) :: (44, .v (.int .i64 v3.1)) :: (45, .v (.bool (v2.1 != v3.1))) :: (46, .v (.bool (v2.1 != v3.1))) :: (47, .v (.bool true)) :: (48, .v undef) :: (49, .v undef) :: (50, .v undef) :: (51, .v (.bool true)) :: (52, .v (.bool true)) :: (53, .v undef) :: (54, .v undef) :: (55, .v undef) :: (56, .v (.bool true)) :: [])) (init := [0, 1, 2, 3, 4, 5, 6, 7, 8, 9]) (fin := [0, 1, 27]) (sps := (⟨[5], [], [10], [(.slot 39)]⟩ :: ⟨[9], [], [11], [(.slot 40)]⟩ :: ⟨[10, 11], [], [12], [(.slot 41)]⟩ :: ⟨[12], [], [13], [(.slot 42)]⟩ :: ⟨[13, 2], [], [14], [(.slot 43)]⟩ :: ⟨[13, 6], [], [15], [(.slot 44)]⟩ :: ⟨[13, 14, 15], [], [16], [(.slot 45)]⟩ :: ⟨[13, 16], [], [17], [(.slot 46)]⟩ :: ⟨[17], [], [18], [(.slot 47)]⟩ :: ⟨[18], [], [19], [(.slot 48)]⟩ :: ⟨[18], [], [20], [(.slot 49)]⟩ :: ⟨[18], [], [21], [(.slot 50)]⟩ :: ⟨[18], [], [22], [(.slot 51)]⟩ :: ⟨[22], [], [23], [(.slot 52)]⟩ :: ⟨[23], [], [24], [(.slot 53)]⟩ :: ⟨[23], [], [25], [(.slot 54)]⟩ :: ⟨[23], [], [26], [(.slot 55)]⟩ :: ⟨[23], [], [27], [(.slot 56)]⟩ :: [])) (es' := [(_, _), (_, _), (56, .v (.bool true))]) (by kernel_rfl) rfl rfl
            ⟨st_plain rfl (op_move _ _ _ _ rfl rfl),
              st_plain rfl (op_move _ _ _ _ rfl rfl),
              st_plain rfl (op_bin _ _ _ _ _ rfl rfl rfl),
              st_plain rfl (op_move _ _ _ _ (congrArg (fun b => AV.v (Value.bool b)) hg5_3) rfl),
              st_run 3 42 false rfl rfl rfl (List.Mem.head _) (op_move _ _ _ _ rfl rfl),
              st_run 3 42 false rfl rfl rfl (List.Mem.head _) (op_move _ _ _ _ rfl rfl),
              st_run 3 42 false rfl rfl rfl (List.Mem.head _) (op_bin _ _ _ _ _ rfl rfl rfl),
              st_plain rfl (op_pick _ _ false _ rfl rfl),
              st_plain rfl (op_move _ _ _ _ (congrArg (fun b => AV.v (Value.bool b)) hg5_8) rfl),
              st_skip 8 47 _ false rfl rfl rfl rfl (List.Mem.head _),
              st_skip 8 47 _ false rfl rfl rfl rfl (List.Mem.head _),
              st_skip 8 47 _ false rfl rfl rfl rfl (List.Mem.head _),
              st_plain rfl (op_pick _ _ true _ rfl rfl),
              st_plain rfl (op_move _ _ _ _ rfl rfl),
              st_skip 13 52 _ false rfl rfl rfl rfl (List.Mem.head _),
              st_skip 13 52 _ false rfl rfl rfl rfl (List.Mem.head _),
              st_skip 13 52 _ false rfl rfl rfl rfl (List.Mem.head _),
              st_plain rfl (op_pick _ _ true _ rfl rfl),
              trivial⟩ ?_
          exact hl6 _ (Option.some.inj h).symm
        · refine cond_some h (fun hg5_13 h => ?_) (fun hg5_13 h => ?_)
          · refine ht_seqR hn (El := (_ :: _ :: _ :: _ :: _ :: _ :: _ :: _ :: _ :: _ :: (39, .v (.int .i64 v2.2.2.2)) :: (40, .v (.int .i64 v3.2.2.2)) :: (41, .v (.bool (v2.2.2.2 != v3.2.2.2))) :: (42, .v (.bool false)) :: (43, .v (.int .i64 v2.1)) :: (44, .v (.int .i64 v3.1)) :: (45, .v (.bool (v2.1 != v3.1))) :: (46, .v (.bool (v2.1 != v3.1))) :: (47, .v (.bool false)) :: (48, .v (.int .i64 v2.2.1)) :: (49, .v (.int .i64 v3.2.1)) :: (50, .v (.bool (v2.2.1 != v3.2.1))) :: (51, .v (.bool (v2.2.1 != v3.2.1))) :: (52, .v (.bool true)) :: (53, .v undef) :: (54, .v undef) :: (55, .v undef) :: (56, .v (.bool true)) :: [])) (init := [0, 1, 2, 3, 4, 5, 6, 7, 8, 9]) (fin := [0, 1, 27]) (sps := (⟨[5], [], [10], [(.slot 39)]⟩ :: ⟨[9], [], [11], [(.slot 40)]⟩ :: ⟨[10, 11], [], [12], [(.slot 41)]⟩ :: ⟨[12], [], [13], [(.slot 42)]⟩ :: ⟨[13, 2], [], [14], [(.slot 43)]⟩ :: ⟨[13, 6], [], [15], [(.slot 44)]⟩ :: ⟨[13, 14, 15], [], [16], [(.slot 45)]⟩ :: ⟨[13, 16], [], [17], [(.slot 46)]⟩ :: ⟨[17], [], [18], [(.slot 47)]⟩ :: ⟨[18, 3], [], [19], [(.slot 48)]⟩ :: ⟨[18, 7], [], [20], [(.slot 49)]⟩ :: ⟨[18, 19, 20], [], [21], [(.slot 50)]⟩ :: ⟨[18, 21], [], [22], [(.slot 51)]⟩ :: ⟨[22], [], [23], [(.slot 52)]⟩ :: ⟨[23], [], [24], [(.slot 53)]⟩ :: ⟨[23], [], [25], [(.slot 54)]⟩ :: ⟨[23], [], [26], [(.slot 55)]⟩ :: ⟨[23], [], [27], [(.slot 56)]⟩ :: [])) (es' := [(_, _), (_, _), (56, .v (.bool true))]) (by kernel_rfl) rfl rfl
              ⟨st_plain rfl (op_move _ _ _ _ rfl rfl),
                st_plain rfl (op_move _ _ _ _ rfl rfl),
                st_plain rfl (op_bin _ _ _ _ _ rfl rfl rfl),
                st_plain rfl (op_move _ _ _ _ (congrArg (fun b => AV.v (Value.bool b)) hg5_3) rfl),
                st_run 3 42 false rfl rfl rfl (List.Mem.head _) (op_move _ _ _ _ rfl rfl),
                st_run 3 42 false rfl rfl rfl (List.Mem.head _) (op_move _ _ _ _ rfl rfl),
                st_run 3 42 false rfl rfl rfl (List.Mem.head _) (op_bin _ _ _ _ _ rfl rfl rfl),
                st_plain rfl (op_pick _ _ false _ rfl rfl),
                st_plain rfl (op_move _ _ _ _ (congrArg (fun b => AV.v (Value.bool b)) hg5_8) rfl),
                st_run 8 47 false rfl rfl rfl (List.Mem.head _) (op_move _ _ _ _ rfl rfl),
                st_run 8 47 false rfl rfl rfl (List.Mem.head _) (op_move _ _ _ _ rfl rfl),
                st_run 8 47 false rfl rfl rfl (List.Mem.head _) (op_bin _ _ _ _ _ rfl rfl rfl),
                st_plain rfl (op_pick _ _ false _ rfl rfl),
                st_plain rfl (op_move _ _ _ _ (congrArg (fun b => AV.v (Value.bool b)) hg5_13) rfl),
                st_skip 13 52 _ false rfl rfl rfl rfl (List.Mem.head _),
                st_skip 13 52 _ false rfl rfl rfl rfl (List.Mem.head _),
                st_skip 13 52 _ false rfl rfl rfl rfl (List.Mem.head _),
                st_plain rfl (op_pick _ _ true _ rfl rfl),
                trivial⟩ ?_
            exact hl6 _ (Option.some.inj h).symm
          · refine ht_seqR hn (El := (_ :: _ :: _ :: _ :: _ :: _ :: _ :: _ :: _ :: _ :: (39, .v (.int .i64 v2.2.2.2)) :: (40, .v (.int .i64 v3.2.2.2)) :: (41, .v (.bool (v2.2.2.2 != v3.2.2.2))) :: (42, .v (.bool false)) :: (43, .v (.int .i64 v2.1)) :: (44, .v (.int .i64 v3.1)) :: (45, .v (.bool (v2.1 != v3.1))) :: (46, .v (.bool (v2.1 != v3.1))) :: (47, .v (.bool false)) :: (48, .v (.int .i64 v2.2.1)) :: (49, .v (.int .i64 v3.2.1)) :: (50, .v (.bool (v2.2.1 != v3.2.1))) :: (51, .v (.bool (v2.2.1 != v3.2.1))) :: (52, .v (.bool false)) :: (53, .v (.int .i64 v2.2.2.1)) :: (54, .v (.int .i64 v3.2.2.1)) :: (55, .v (.bool (v2.2.2.1 != v3.2.2.1))) :: (56, .v (.bool (v2.2.2.1 != v3.2.2.1))) :: [])) (init := [0, 1, 2, 3, 4, 5, 6, 7, 8, 9]) (fin := [0, 1, 27]) (sps := (⟨[5], [], [10], [(.slot 39)]⟩ :: ⟨[9], [], [11], [(.slot 40)]⟩ :: ⟨[10, 11], [], [12], [(.slot 41)]⟩ :: ⟨[12], [], [13], [(.slot 42)]⟩ :: ⟨[13, 2], [], [14], [(.slot 43)]⟩ :: ⟨[13, 6], [], [15], [(.slot 44)]⟩ :: ⟨[13, 14, 15], [], [16], [(.slot 45)]⟩ :: ⟨[13, 16], [], [17], [(.slot 46)]⟩ :: ⟨[17], [], [18], [(.slot 47)]⟩ :: ⟨[18, 3], [], [19], [(.slot 48)]⟩ :: ⟨[18, 7], [], [20], [(.slot 49)]⟩ :: ⟨[18, 19, 20], [], [21], [(.slot 50)]⟩ :: ⟨[18, 21], [], [22], [(.slot 51)]⟩ :: ⟨[22], [], [23], [(.slot 52)]⟩ :: ⟨[23, 4], [], [24], [(.slot 53)]⟩ :: ⟨[23, 8], [], [25], [(.slot 54)]⟩ :: ⟨[23, 24, 25], [], [26], [(.slot 55)]⟩ :: ⟨[23, 26], [], [27], [(.slot 56)]⟩ :: [])) (es' := [(_, _), (_, _), (56, .v (.bool (v2.2.2.1 != v3.2.2.1)))]) (by kernel_rfl) rfl rfl
              ⟨st_plain rfl (op_move _ _ _ _ rfl rfl),
                st_plain rfl (op_move _ _ _ _ rfl rfl),
                st_plain rfl (op_bin _ _ _ _ _ rfl rfl rfl),
                st_plain rfl (op_move _ _ _ _ (congrArg (fun b => AV.v (Value.bool b)) hg5_3) rfl),
                st_run 3 42 false rfl rfl rfl (List.Mem.head _) (op_move _ _ _ _ rfl rfl),
                st_run 3 42 false rfl rfl rfl (List.Mem.head _) (op_move _ _ _ _ rfl rfl),
                st_run 3 42 false rfl rfl rfl (List.Mem.head _) (op_bin _ _ _ _ _ rfl rfl rfl),
                st_plain rfl (op_pick _ _ false _ rfl rfl),
                st_plain rfl (op_move _ _ _ _ (congrArg (fun b => AV.v (Value.bool b)) hg5_8) rfl),
                st_run 8 47 false rfl rfl rfl (List.Mem.head _) (op_move _ _ _ _ rfl rfl),
                st_run 8 47 false rfl rfl rfl (List.Mem.head _) (op_move _ _ _ _ rfl rfl),
                st_run 8 47 false rfl rfl rfl (List.Mem.head _) (op_bin _ _ _ _ _ rfl rfl rfl),
                st_plain rfl (op_pick _ _ false _ rfl rfl),
                st_plain rfl (op_move _ _ _ _ (congrArg (fun b => AV.v (Value.bool b)) hg5_13) rfl),
                st_run 13 52 false rfl rfl rfl (List.Mem.head _) (op_move _ _ _ _ rfl rfl),
                st_run 13 52 false rfl rfl rfl (List.Mem.head _) (op_move _ _ _ _ rfl rfl),
                st_run 13 52 false rfl rfl rfl (List.Mem.head _) (op_bin _ _ _ _ _ rfl rfl rfl),
                st_plain rfl (op_pick _ _ false _ rfl rfl),
                trivial⟩ ?_
            exact hl6 _ (Option.some.inj h).symm

set_option maxHeartbeats 1000000 in
theorem ok_canon_valid (lengths : (List Int)) (r : Bool) (h : Sh.canon_valid lengths = some r) : FnOK Try.prog 38 [.fl .shr 1 (List.map (Value.int .i64) lengths)] (.v (.bool r)) := by
  unfold Sh.canon_valid at h
  refine fn_ok Try.func38 rfl (Nat.le_of_ble_eq_true rfl) rfl rfl fun g0 hn hio => ?_
  refine ht_seq ?_
  refine ht_seqR hn (El := [_, (2, .v (.bool false))]) (init := [0]) (fin := [0]) (sps := [⟨[], [], [1], [(.slot 2)]⟩]) (es' := [(_, _)]) (by kernel_rfl) rfl rfl
    ⟨st_plain rfl (op_assign _ _ _ _ rfl rfl),
      trivial⟩ ?_
  refine pt_then ?_
  refine ht_seq ?_
  refine ht_seq ?_
  refine ht_seqR hn (El := [_, (5, .fl .shr 1 (List.map (Value.int .i64) lengths)), (6, .v (.int .i64 (lengths.length : Int))), (7, .v (.bool ((decide (300 < (lengths.length : Int))))))]) (init := [0]) (fin := [0, 3]) (sps := [⟨[0], [], [1], [(.slot 5)]⟩, ⟨[1], [], [2], [(.slot 6)]⟩, ⟨[2], [], [3], [(.slot 7)]⟩]) (es' := [(_, _), (7, .v (.bool ((decide (300 < (lengths.length : Int))))))]) (by kernel_rfl) rfl rfl
    ⟨st_plain rfl (op_move _ _ _ _ rfl rfl),
      st_plain rfl (op_len_fl _ _ _ Try.underlying28 rfl (by decide) (map_len _)),
      st_plain rfl (op_bin _ _ _ _ _ rfl rfl rfl),
      trivial⟩ ?_
  refine pt_then ?_
  refine ht_cond _ rfl (fun hb1 => ?_) (fun hb1 => ?_)
  · have h := cond_t hb1 h
    refine ht_seq ?_
    refine ht_seqR hn (El := [_, _, (2, .v (.bool false))]) (init := [0, 1]) (fin := [2]) (sps := [⟨[], [], [2], [(.slot 2)]⟩]) (es' := [(2, .v (.bool false))]) (by kernel_rfl) rfl rfl
      ⟨st_plain rfl (op_assign _ _ _ _ rfl rfl),
        trivial⟩ ?_
    refine pt_then ?_
    refine ht_ret ?_
    refine pt_r_then ?_
    obtain rfl := Option.some.inj h
    exact pt_ret hio rfl (.tmp _ _ .nil) rfl rfl
  · have h := cond_f hb1 h
    refine ht_skip ?_
    refine pt_then ?_
    refine ht_seq ?_
    refine ht_seq ?_
    refine ht_seqR hn (El := [_, _, (8, .fl .shr 1 (List.map (Value.int .i64) lengths)), (9, .v (.int .i64 (lengths.length : Int))), (10, .v (.int .i64 0))]) (init := [0, 1]) (fin := [2, 3, 4]) (sps := [⟨[0], [], [2], [(.slot 8)]⟩, ⟨[2], [], [3], [(.slot 9)]⟩, ⟨[], [], [4], [(.slot 10)]⟩]) (es' := [(8, .fl .shr 1 (List.map (Value.int .i64) lengths)), (9, .v (.int .i64 (lengths.length : Int))), (10, .v (.int .i64 0))]) (by kernel_rfl) rfl rfl
      ⟨st_plain rfl (op_move _ _ _ _ rfl rfl),
        st_plain rfl (op_len_fl _ _ _ Try.underlying28 rfl (by decide) (map_len _)),
        st_plain rfl (op_move _ _ _ _ rfl rfl),
        trivial⟩ ?_
    refine pt_then ?_
    refine ht_loopS h (fun (s18 : Int) => [(8, .fl .shr 1 (List.map (Value.int .i64) lengths)), (9, .v (.int .i64 (lengths.length : Int))), (10, .v (.int .i64 s18))]) (fun (() : Unit) => []) ?_ ?_
    · rintro ⟨⟩ h
      refine pt_then ?_
      refine ht_seq ?_
      refine ht_seqR hn (El := [(2, .v (.bool true))]) (init := []) (fin := [0]) (sps := [⟨[], [], [0], [(.slot 2)]⟩]) (es' := [(2, .v (.bool true))]) (by kernel_rfl) rfl rfl
        ⟨st_plain rfl (op_assign _ _ _ _ rfl rfl),
          trivial⟩ ?_
      refine pt_then ?_
      refine ht_ret ?_
      obtain rfl := Option.some.inj h
      exact pt_ret hio rfl (.tmp _ _ .nil) rfl rfl
    · rintro u25 hl26 hr27 s18 rr30 h ho28
      refine ht_seq ?_
      refine ht_seqR hn (El := [_, _, _, (11, .v (.bool ((decide (s18 < (lengths.length : Int))))))]) (init := [0, 1, 2]) (fin := [0, 1, 2, 3]) (sps := [⟨[2, 1], [], [3], [(.slot 11)]⟩]) (es' := [(_, _), (_, _), (_, _), (11, .v (.bool ((decide (s18 < (lengths.length : Int))))))]) (by kernel_rfl) rfl rfl
        ⟨st_plain rfl (op_bin _ _ _ _ _ rfl rfl rfl),
          trivial⟩ ?_
      refine pt_then ?_
      refine ht_seq ?_
      refine ht_cond _ rfl (fun hb31 => ?_) (fun hb31 => ?_)
      · have h := cond_t hb31 h
        refine ht_skip ?_
        refine pt_then ?_
        refine ht_seq ?_
        refine ht_block ?_
        refine ht_seq ?_
        obtain ⟨v3, hv3, h⟩ := bind_some h
        obtain ⟨v4, hv4, h⟩ := bind_some h
        refine ht_seqR hn (El := [_, _, _, _, (12, .eref (.slot 8) (v3 * 1)), (13, .v (.int .i64 v4)), (4, .v (.int .i64 v4))]) (init := [0, 1, 2, 3]) (fin := [0, 1, 2, 6]) (sps := [⟨[0, 2], [], [4], [(.slot 12)]⟩, ⟨[4, 0], [], [5], [(.slot 13)]⟩, ⟨[5], [], [6], [(.slot 4)]⟩]) (es' := [(_, _), (_, _), (_, _), (4, .v (.int .i64 v4))]) (by kernel_rfl) rfl rfl
          ⟨st_plain rfl (op_ix _ _ _ _ _ _ _ _ Try.underlying28 sz3 (by decide) rfl rfl rfl (ix_ok hv3).1 (map_lt (ix_ok hv3).2) rfl),
            st_plain rfl (op_load_e _ _ _ _ _ _ Try.underlying3 rfl rfl rfl (map_get hv4)),
            st_plain rfl (op_assign _ _ _ _ rfl rfl),
            trivial⟩ ?_
        refine pt_then ?_
        refine ht_seq ?_
        refine ht_joinS h (fun (s32 : Bool) => [(8, .fl .shr 1 (List.map (Value.int .i64) lengths)), (9, .v (.int .i64 (lengths.length : Int))), (10, .v (.int .i64 s18)), (19, .v (.bool s32))]) ?_ ?_
        · rintro s32 h
          refine pt_then ?_
          refine ht_cond _ rfl (fun hb36 => ?_) (fun hb36 => ?_)
          · have h := cond_t hb36 h
            refine ht_seq ?_
            refine ht_seqR hn (El := [_, _, _, _, (2, .v (.bool false))]) (init := [0, 1, 2, 3]) (fin := [4]) (sps := [⟨[], [], [4], [(.slot 2)]⟩]) (es' := [(2, .v (.bool false))]) (by kernel_rfl) rfl rfl
              ⟨st_plain rfl (op_assign _ _ _ _ rfl rfl),
                trivial⟩ ?_
            refine pt_then ?_
            refine ht_ret ?_
            refine pt_r_in ?_
            refine pt_r_then ?_
            refine pt_r_then ?_
            refine pt_r_in ?_
            refine pt_r_then ?_
            have h := hr27 _ (ho28 _ (Option.some.inj h).symm).symm
            obtain rfl := Option.some.inj h
            exact pt_ret hio rfl (.tmp _ _ .nil) rfl rfl
          · have h := cond_f hb36 h
            refine ht_skip ?_
            refine pt_inb ?_
            refine pt_then ?_
            obtain ⟨v10, hv10, h⟩ := bind_some h
            refine ht_seqR hn (El := [_, _, _, _, (20, .v (.int .i64 v10)), (10, .v (.int .i64 v10))]) (init := [0, 1, 2, 3]) (fin := [0, 1, 5]) (sps := [⟨[2], [], [4], [(.slot 20)]⟩, ⟨[4], [2], [5], [(.slot 10)]⟩]) (es' := [(_, _), (_, _), (10, .v (.int .i64 v10))]) (by kernel_rfl) rfl rfl
              ⟨st_plain rfl (op_bin _ _ _ _ _ rfl rfl (ibind (f := Value.int .i64) (Option.some.inj hv10))),
                st_plain rfl (LOp.drop [_] (op_move _ _ _ _ rfl rfl)),
                trivial⟩ ?_
            exact pt_next _ (Option.some.inj h).symm rfl
        · intro u33 h hl34 hr35
          refine cond_some h (fun hg6_2 h => ?_) (fun hg6_2 h => ?_)
          · refine ht_seqR hn (El := [_, _, _, _, (14, .v (.int .i64 v4)), (15, .v (.bool ((decide (v4 < 0))))), (16, .v (.bool true)), (17, .v undef), (18, .v undef), (19, .v (.bool true))]) (init := [0, 1, 2, 3]) (fin := [0, 1, 2, 9]) (sps := [⟨[3], [], [4], [(.slot 14)]⟩, ⟨[4], [], [5], [(.slot 15)]⟩, ⟨[5], [], [6], [(.slot 16)]⟩, ⟨[6], [], [7], [(.slot 17)]⟩, ⟨[6], [], [8], [(.slot 18)]⟩, ⟨[6], [], [9], [(.slot 19)]⟩]) (es' := [(_, _), (_, _), (_, _), (19, .v (.bool true))]) (by kernel_rfl) rfl rfl
              ⟨st_plain rfl (op_move _ _ _ _ rfl rfl),
                st_plain rfl (op_bin _ _ _ _ _ rfl rfl rfl),
                st_plain rfl (op_move _ _ _ _ (congrArg (fun b => AV.v (Value.bool b)) hg6_2) rfl),
                st_skip 2 16 _ false rfl rfl rfl rfl (List.Mem.head _),
                st_skip 2 16 _ false rfl rfl rfl rfl (List.Mem.head _),
                st_plain rfl (op_pick _ _ true _ rfl rfl),
                trivial⟩ ?_
            exact hl34 _ (Option.some.inj h).symm
          · refine ht_seqR hn (El := [_, _, _, _, (14, .v (.int .i64 v4)), (15, .v (.bool ((decide (v4 < 0))))), (16, .v (.bool false)), (17, .v (.int .i64 v4)), (18, .v (.bool ((decide (15 < v4))))), (19, .v (.bool ((decide (15 < v4)))))]) (init := [0, 1, 2, 3]) (fin := [0, 1, 2, 9]) (sps := [⟨[3], [], [4], [(.slot 14)]⟩, ⟨[4], [], [5], [(.slot 15)]⟩, ⟨[5], [], [6], [(.slot 16)]⟩, ⟨[6, 3], [], [7], [(.slot 17)]⟩, ⟨[6, 7], [], [8], [(.slot 18)]⟩, ⟨[6, 8], [], [9], [(.slot 19)]⟩]) (es' := [(_, _), (_, _), (_, _), (19, .v (.bool ((decide (15 < v4)))))]) (by kernel_rfl) rfl rfl
              ⟨st_plain rfl (op_move _ _ _ _ rfl rfl),
                st_plain rfl (op_bin _ _ _ _ _ rfl rfl rfl),
                st_plain rfl (op_move _ _ _ _ (congrArg (fun b => AV.v (Value.bool b)) hg6_2) rfl),
                st_run 2 16 false rfl rfl rfl (List.Mem.head _) (op_move _ _ _ _ rfl rfl),
                st_run 2 16 false rfl rfl rfl (List.Mem.head _) (op_bin _ _ _ _ _ rfl rfl rfl),
                st_plain rfl (op_pick _ _ false _ rfl rfl),
                trivial⟩ ?_
            exact hl34 _ (Option.some.inj h).symm
      · have h := cond_f hb31 h
        refine ht_exit ?_
        refine pt_x_then ?_
        refine pt_x_then ?_
        refine pt_x_in ?_
        refine pt_pick [] (by kernel_rfl) (es' := []) rfl ?_
        exact hl26 _ (ho28 _ (Option.some.inj h).symm).symm

set_option maxHeartbeats 1000000 in
theorem ok_canon_count (lengths : (List Int)) (r : (List Int)) (h : Sh.canon_count lengths = some r) : FnOK Try.prog 40 [.fl .shr 1 (List.map (Value.int .i64) lengths)] (.v (.agg (List.map (Value.int .i64) r).toArray)) := by
  unfold Sh.canon_count at h
  refine fn_ok Try.func40 rfl (Nat.le_of_ble_eq_true rfl) rfl rfl fun g0 hn hio => ?_
  refine ht_seq ?_
  refine ht_seqR hn (El := [_, (2, .arr 64 (List.map (Value.int .i64) ((List.replicate 16 (0 : Int)))))]) (init := [0]) (fin := [0, 1]) (sps := [⟨[], [], [1], [(.slot 2)]⟩]) (es' := [(_, _), (2, .arr 64 (List.map (Value.int .i64) ((List.replicate 16 (0 : Int)))))]) (by kernel_rfl) rfl rfl
    ⟨st_plain rfl (op_alloc_arr _ za64),
      trivial⟩ ?_
  refine pt_then ?_
  refine ht_seq ?_
  refine ht_seqR hn (El := [_, _, (3, .arr 64 (List.map (Value.int .i64) ((List.replicate 16 (0 : Int)))))]) (init := [0, 1]) (fin := [0, 1, 2]) (sps := [⟨[], [], [2], [(.slot 3)]⟩]) (es' := [(_, _), (_, _), (3, .arr 64 (List.map (Value.int .i64) ((List.replicate 16 (0 : Int)))))]) (by kernel_rfl) rfl rfl
    ⟨st_plain rfl (op_alloc_arr _ za64),
      trivial⟩ ?_
  refine pt_then ?_
  refine ht_seq ?_
  refine ht_seq ?_
  refine ht_seqR hn (El := [_, _, _, (6, .fl .shr 1 (List.map (Value.int .i64) lengths)), (7, .v (.int .i64 (lengths.length : Int))), (8, .v (.int .i64 0))]) (init := [0, 1, 2]) (fin := [1, 2, 3, 4, 5]) (sps := [⟨[0], [], [3], [(.slot 6)]⟩, ⟨[3], [], [4], [(.slot 7)]⟩, ⟨[], [], [5], [(.slot 8)]⟩]) (es' := [(_, _), (_, _), (6, .fl .shr 1 (List.map (Value.int .i64) lengths)), (7, .v (.int .i64 (lengths.length : Int))), (8, .v (.int .i64 0))]) (by kernel_rfl) rfl rfl
    ⟨st_plain rfl (op_move _ _ _ _ rfl rfl),
      st_plain rfl (op_len_fl _ _ _ Try.underlying28 rfl (by decide) (map_len _)),
      st_plain rfl (op_move _ _ _ _ rfl rfl),
      trivial⟩ ?_
  refine pt_then ?_
  refine ht_loopS h (fun ((s25, s26) : (List Int) × Int) => [(2, .arr 64 (List.map (Value.int .i64) ((List.replicate 16 (0 : Int))))), (3, .arr 64 (List.map (Value.int .i64) s25)), (6, .fl .shr 1 (List.map (Value.int .i64) lengths)), (7, .v (.int .i64 (lengths.length : Int))), (8, .v (.int .i64 s26))]) (fun (s34 : (List Int)) => [(2, .arr 64 (List.map (Value.int .i64) ((List.replicate 16 (0 : Int))))), (3, .arr 64 (List.map (Value.int .i64) s34))]) ?_ ?_
  · rintro s34 h
    refine pt_then ?_
    refine ht_seq ?_
    obtain ⟨v48, hv48, h⟩ := bind_some h
    obtain ⟨v49, hv49, h⟩ := bind_some h
    obtain ⟨v50, hv50, h⟩ := bind_some h
    refine ht_seqR hn (El := [_, _, (20, .v (.agg (List.map (Value.int .i64) s34).toArray)), (2, .arr 64 (List.map (Value.int .i64) s34))]) (init := [0, 1]) (fin := [3]) (sps := [⟨[1], [], [2], [(.slot 20)]⟩, ⟨[2], [0], [3], []⟩]) (es' := [(2, .arr 64 (List.map (Value.int .i64) s34))]) (by kernel_rfl) rfl rfl
      ⟨st_plain rfl (op_loadA_arr _ _ _ _ Try.underlying64 rfl (sz64.trans (congrArg some (ln_len hv48))) rfl rfl),
        st_plain rfl (op_storeA_arr _ _ _ _ (sz64.trans (congrArg some (ln_len hv50))) rfl rfl (ln_ones (fun _ => rfl) _) ((ln_len (f := Value.int .i64) hv49).symm.trans (ln_len (f := Value.int .i64) hv50))),
        trivial⟩ ?_
    refine pt_then ?_
    refine ht_ret ?_
    obtain ⟨v51, hv51, h⟩ := bind_some h
    obtain rfl := Option.some.inj h
    exact pt_ret hio rfl (.cellR _ _ _ _ Try.underlying64 rfl (sz64.trans (congrArg some (ln_len hv51))) .nil) rfl rfl
  · rintro u35 hl36 hr37 ⟨s25, s26⟩ rr40 h ho38
    refine ht_seq ?_
    refine ht_seqR hn (El := [_, _, _, _, _, (9, .v (.bool ((decide (s26 < (lengths.length : Int))))))]) (init := [0, 1, 2, 3, 4]) (fin := [0, 1, 2, 3, 4, 5]) (sps := [⟨[4, 3], [], [5], [(.slot 9)]⟩]) (es' := [(_, _), (_, _), (_, _), (_, _), (_, _), (9, .v (.bool ((decide (s26 < (lengths.length : Int))))))]) (by kernel_rfl) rfl rfl
      ⟨st_plain rfl (op_bin _ _ _ _ _ rfl rfl rfl),
        trivial⟩ ?_
    refine pt_then ?_
    refine ht_seq ?_
    refine ht_cond _ rfl (fun hb41 => ?_) (fun hb41 => ?_)
    · have h := cond_t hb41 h
      refine ht_skip ?_
      refine pt_then ?_
      refine ht_seq ?_
      refine ht_joinS h (fun (s43 : (List Int)) => [(2, .arr 64 (List.map (Value.int .i64) ((List.replicate 16 (0 : Int))))), (3, .arr 64 (List.map (Value.int .i64) s43)), (6, .fl .shr 1 (List.map (Value.int .i64) lengths)), (7, .v (.int .i64 (lengths.length : Int))), (8, .v (.int .i64 s26))]) ?_ ?_
      · rintro s43 h
        refine pt_then ?_
        obtain ⟨v15, hv15, h⟩ := bind_some h
        refine ht_seqR hn (El := [_, _, _, _, _, (19, .v (.int .i64 v15)), (8, .v (.int .i64 v15))]) (init := [0, 1, 2, 3, 4]) (fin := [0, 1, 2, 3, 6]) (sps := [⟨[4], [], [5], [(.slot 19)]⟩, ⟨[5], [4], [6], [(.slot 8)]⟩]) (es' := [(_, _), (_, _), (_, _), (_, _), (8, .v (.int .i64 v15))]) (by kernel_rfl) rfl rfl
          ⟨st_plain rfl (op_bin _ _ _ _ _ rfl rfl (ibind (f := Value.int .i64) (Option.some.inj hv15))),
            st_plain rfl (LOp.drop [_] (op_move _ _ _ _ rfl rfl)),
            trivial⟩ ?_
        exact pt_next _ (Option.some.inj h).symm rfl
      · intro u44 h hl45 hr46
        refine ht_block ?_
        refine ht_seq ?_
        obtain ⟨v2, hv2, h⟩ := bind_some h
        obtain ⟨v3, hv3, h⟩ := bind_some h
        refine ht_seqR hn (El := [_, _, _, _, _, _, (10, .eref (.slot 6) (v2 * 1)), (11, .v (.int .i64 v3)), (5, .v (.int .i64 v3))]) (init := [0, 1, 2, 3, 4, 5]) (fin := [0, 1, 2, 3, 4, 8]) (sps := [⟨[2, 4], [], [6], [(.slot 10)]⟩, ⟨[6, 2], [], [7], [(.slot 11)]⟩, ⟨[7], [], [8], [(.slot 5)]⟩]) (es' := [(_, _), (_, _), (_, _), (_, _), (_, _), (5, .v (.int .i64 v3))]) (by kernel_rfl) rfl rfl
          ⟨st_plain rfl (op_ix _ _ _ _ _ _ _ _ Try.underlying28 sz3 (by decide) rfl rfl rfl (ix_ok hv2).1 (map_lt (ix_ok hv2).2) rfl),
            st_plain rfl (op_load_e _ _ _ _ _ _ Try.underlying3 rfl rfl rfl (map_get hv3)),
            st_plain rfl (op_assign _ _ _ _ rfl rfl),
            trivial⟩ ?_
        refine pt_then ?_
        refine ht_seq ?_
        refine ht_seqR hn (El := [_, _, _, _, _, _, (12, .v (.int .i64 v3)), (13, .v (.bool ((decide (0 < v3)))))]) (init := [0, 1, 2, 3, 4, 5]) (fin := [0, 1, 2, 3, 4, 5, 7]) (sps := [⟨[5], [], [6], [(.slot 12)]⟩, ⟨[6], [], [7], [(.slot 13)]⟩]) (es' := [(_, _), (_, _), (_, _), (_, _), (_, _), (_, _), (13, .v (.bool ((decide (0 < v3)))))]) (by kernel_rfl) rfl rfl
          ⟨st_plain rfl (op_move _ _ _ _ rfl rfl),
            st_plain rfl (op_bin _ _ _ _ _ rfl rfl rfl),
            trivial⟩ ?_
        refine pt_then ?_
        refine ht_cond _ rfl (fun hb47 => ?_) (fun hb47 => ?_)
        · have h := cond_t hb47 h
          obtain ⟨v5, hv5, h⟩ := bind_some h
          obtain ⟨v6, hv6, h⟩ := bind_some h
          obtain ⟨v7, hv7, h⟩ := bind_some h
          obtain ⟨v8, hv8, h⟩ := bind_some h
          obtain ⟨v9, hv9, h⟩ := bind_some h
          refine ht_seqR hn (El := [_, _, _, _, _, _, _, (14, .v (.int .i64 v3)), (15, .ptr 3 v5), (16, .v (.int .i64 v6)), (17, .v (.int .i64 v7)), (18, .ptr 3 v8), (3, .arr 64 (List.map (Value.int .i64) v9))]) (init := [0, 1, 2, 3, 4, 5, 6]) (fin := [0, 12, 2, 3, 4]) (sps := [⟨[5], [], [7], [(.slot 14)]⟩, ⟨[1, 7], [], [8], [(.slot 15)]⟩, ⟨[8, 1], [], [9], [(.slot 16)]⟩, ⟨[9], [], [10], [(.slot 17)]⟩, ⟨[1, 7], [], [11], [(.slot 18)]⟩, ⟨[11, 10], [1], [12], []⟩]) (es' := [(_, _), (3, .arr 64 (List.map (Value.int .i64) v9)), (_, _), (_, _), (_, _)]) (by kernel_rfl) rfl rfl
            ⟨st_plain rfl (op_move _ _ _ _ rfl rfl),
              st_plain rfl (op_ix_arr _ _ _ _ 16 3 _ Try.underlying64 sz3 rfl rfl (ix_ok hv5).1 (ix_ok hv5).2 (by decide)),
              st_plain rfl (op_load_arr _ _ _ _ _ _ Try.underlying3 rfl rfl rfl (map_get1 hv6)),
              st_plain rfl (op_bin _ _ _ _ _ rfl rfl (ibind (f := Value.int .i64) (Option.some.inj hv7))),
              st_plain rfl (op_ix_arr _ _ _ _ 16 3 _ Try.underlying64 sz3 rfl rfl (ix_ok hv8).1 (ix_ok hv8).2 (by decide)),
              st_plain rfl (op_store_arr _ _ _ _ _ _ sz3 rfl rfl rfl rfl (set_lt hv9) (set_eq (f := Value.int .i64) hv9)),
              trivial⟩ ?_
          refine pt_inb ?_
          exact hl45 _ (Option.some.inj h).symm
        · have h := cond_f hb47 h
          refine ht_skip ?_
          refine pt_inb ?_
          refine pt_pick [0, 1, 2, 3, 4] (by kernel_rfl) (es' := [(_, _), (_, _), (_, _), (_, _), (_, _)]) rfl ?_
          exact hl45 _ (Option.some.inj h).symm
    · have h := cond_f hb41 h
      refine ht_exit ?_
      refine pt_x_then ?_
      refine pt_x_then ?_
      refine pt_x_in ?_
      refine pt_pick [0, 1] (by kernel_rfl) (es' := [(_, _), (_, _)]) rfl ?_
      exact hl36 _ (ho38 _ (Option.some.inj h).symm).symm

set_option maxHeartbeats 1000000 in
theorem ok_canon_tally_weight (c : (List Int)) (r : Int) (h : Sh.canon_tally_weight c = some r) : FnOK Try.prog 44 [.v (.agg (List.map (Value.int .i64) c).toArray)] (.v (.int .i64 r)) := by
  unfold Sh.canon_tally_weight at h
  refine fn_ok Try.func44 rfl (Nat.le_of_ble_eq_true rfl) rfl rfl fun g0 hn hio => ?_
  refine ht_seq ?_
  refine ht_seqR hn (El := [_, (1, .arr 64 (List.map (Value.int .i64) c)), (2, .v (.int .i64 0))]) (init := [0]) (fin := [1]) (sps := [⟨[0], [], [1], [(.slot 1)]⟩, ⟨[], [], [2], [(.slot 2)]⟩]) (es' := [(1, .arr 64 (List.map (Value.int .i64) c))]) (by kernel_rfl) rfl rfl
    ⟨st_plain rfl (op_box_arr _ _ _ rfl),
      st_plain rfl (op_assign _ _ _ _ rfl rfl),
      trivial⟩ ?_
  refine pt_then ?_
  refine ht_seq ?_
  refine ht_seqR hn (El := [_, (3, .v (.int .i64 0))]) (init := [0]) (fin := [0, 1]) (sps := [⟨[], [], [1], [(.slot 3)]⟩]) (es' := [(_, _), (3, .v (.int .i64 0))]) (by kernel_rfl) rfl rfl
    ⟨st_plain rfl (op_assign _ _ _ _ rfl rfl),
      trivial⟩ ?_
  refine pt_then ?_
  refine ht_seq ?_
  refine ht_seq ?_
  obtain ⟨v1, hv1, h⟩ := bind_some h
  refine ht_seqR hn (El := [_, _, (6, .v (.agg (List.map (Value.int .i64) c).toArray)), (7, .v (.int .i64 0))]) (init := [0, 1]) (fin := [1, 2, 3]) (sps := [⟨[0], [], [2], [(.slot 6)]⟩, ⟨[], [], [3], [(.slot 7)]⟩]) (es' := [(_, _), (6, .v (.agg (List.map (Value.int .i64) c).toArray)), (7, .v (.int .i64 0))]) (by kernel_rfl) rfl rfl
    ⟨st_plain rfl (op_loadA_arr _ _ _ _ Try.underlying64 rfl (sz64.trans (congrArg some (ln_len hv1))) rfl rfl),
      st_plain rfl (op_move _ _ _ _ rfl rfl),
      trivial⟩ ?_
  refine pt_then ?_
  refine ht_loopS h (fun ((s12, s13) : Int × Int) => [(3, .v (.int .i64 s12)), (6, .v (.agg (List.map (Value.int .i64) c).toArray)), (7, .v (.int .i64 s13))]) (fun (s15 : Int) => [(3, .v (.int .i64 s15))]) ?_ ?_
  · rintro s15 h
    refine pt_then ?_
    refine ht_seq ?_
    refine ht_seqR hn (El := [_, (18, .v (.int .i64 s15)), (2, .v (.int .i64 s15))]) (init := [0]) (fin := [2]) (sps := [⟨[0], [], [1], [(.slot 18)]⟩, ⟨[1], [], [2], [(.slot 2)]⟩]) (es' := [(2, .v (.int .i64 s15))]) (by kernel_rfl) rfl rfl
      ⟨st_plain rfl (op_move _ _ _ _ rfl rfl),
        st_plain rfl (op_assign _ _ _ _ rfl rfl),
        trivial⟩ ?_
    refine pt_then ?_
    refine ht_ret ?_
    obtain rfl := Option.some.inj h
    exact pt_ret hio rfl (.tmp _ _ .nil) rfl rfl
  · rintro u16 hl17 hr18 ⟨s12, s13⟩ rr21 h ho19
    refine ht_seq ?_
    refine ht_seqR hn (El := [_, _, _, (8, .v (.bool ((decide (s13 < 16)))))]) (init := [0, 1, 2]) (fin := [0, 1, 2, 3]) (sps := [⟨[2], [], [3], [(.slot 8)]⟩]) (es' := [(_, _), (_, _), (_, _), (8, .v (.bool ((decide (s13 < 16)))))]) (by kernel_rfl) rfl rfl
      ⟨st_plain rfl (op_bin _ _ _ _ _ rfl rfl rfl),
        trivial⟩ ?_
    refine pt_then ?_
    refine ht_seq ?_
    refine ht_cond _ rfl (fun hb22 => ?_) (fun hb22 => ?_)
    · have h := cond_t hb22 h
      refine ht_skip ?_
      refine pt_then ?_
      refine ht_seq ?_
      refine ht_block ?_
      refine ht_seq ?_
      obtain ⟨v3, hv3, h⟩ := bind_some h
      obtain ⟨v4, hv4, h⟩ := bind_some h
      refine ht_seqR hn (El := [_, _, _, _, (9, .v (.int .i64 s13)), (10, .v (.int .i64 v4)), (4, .v (.int .i64 s13)), (5, .v (.int .i64 v4))]) (init := [0, 1, 2, 3]) (fin := [0, 1, 2, 6, 7]) (sps := [⟨[2], [], [4], [(.slot 9)]⟩, ⟨[1, 2], [], [5], [(.slot 10)]⟩, ⟨[4], [], [6], [(.slot 4)]⟩, ⟨[5], [], [7], [(.slot 5)]⟩]) (es' := [(_, _), (_, _), (_, _), (4, .v (.int .i64 s13)), (5, .v (.int .i64 v4))]) (by kernel_rfl) rfl rfl
        ⟨st_plain rfl (op_move _ _ _ _ rfl rfl),
          st_plain rfl (op_index_arr _ _ _ _ 16 v3 Try.underlying64 sz3 rfl (congrArg (fun j => AV.v (Value.int .i64 j)) (ix_ok hv3).1) (ix_ok hv3).2 (map_get1 hv4) ⟨_, Try.underlying3, rfl⟩),
          st_plain rfl (op_assign _ _ _ _ rfl rfl),
          st_plain rfl (op_assign _ _ _ _ rfl rfl),
          trivial⟩ ?_
      refine pt_then ?_
      obtain ⟨v5, hv5, h⟩ := bind_some h
      obtain ⟨v6, hv6, h⟩ := bind_some h
      obtain ⟨v7, hv7, h⟩ := bind_some h
      refine ht_seqR hn (El := [_, _, _, _, _, (11, .v (.int .i64 s12)), (12, .v (.int .i64 v4)), (13, .v (.int .i64 s13)), (14, .v (.int .i64 v5)), (15, .v (.int .i64 v6)), (16, .v (.int .i64 v7)), (3, .v (.int .i64 v7))]) (init := [0, 1, 2, 3, 4]) (fin := [1, 2, 11]) (sps := [⟨[0], [], [5], [(.slot 11)]⟩, ⟨[4], [], [6], [(.slot 12)]⟩, ⟨[3], [], [7], [(.slot 13)]⟩, ⟨[7], [], [8], [(.slot 14)]⟩, ⟨[6, 8], [], [9], [(.slot 15)]⟩, ⟨[5, 9], [], [10], [(.slot 16)]⟩, ⟨[10], [0], [11], [(.slot 3)]⟩]) (es' := [(_, _), (_, _), (3, .v (.int .i64 v7))]) (by kernel_rfl) rfl rfl
        ⟨st_plain rfl (op_move _ _ _ _ rfl rfl),
          st_plain rfl (op_move _ _ _ _ rfl rfl),
          st_plain rfl (op_move _ _ _ _ rfl rfl),
          st_plain rfl (op_bin _ _ _ _ _ rfl rfl (ibind (f := Value.int .i64) (Option.some.inj hv5))),
          st_plain rfl (op_bin _ _ _ _ _ rfl rfl (shl_ok hv6)),
          st_plain rfl (op_bin _ _ _ _ _ rfl rfl (ibind (f := Value.int .i64) (Option.some.inj hv7))),
          st_plain rfl (LOp.drop [_] (op_assign _ _ _ _ rfl rfl)),
          trivial⟩ ?_
      refine pt_inb ?_
      refine pt_then ?_
      obtain ⟨v8, hv8, h⟩ := bind_some h
      refine ht_seqR hn (El := [_, _, _, (17, .v (.int .i64 v8)), (7, .v (.int .i64 v8))]) (init := [0, 1, 2]) (fin := [0, 2, 4]) (sps := [⟨[1], [], [3], [(.slot 17)]⟩, ⟨[3], [1], [4], [(.slot 7)]⟩]) (es' := [(_, _), (_, _), (7, .v (.int .i64 v8))]) (by kernel_rfl) rfl rfl
        ⟨st_plain rfl (op_bin _ _ _ _ _ rfl rfl (ibind (f := Value.int .i64) (Option.some.inj hv8))),
          st_plain rfl (LOp.drop [_] (op_move _ _ _ _ rfl rfl)),
          trivial⟩ ?_
      refine pt_pick [1, 0, 2] (by kernel_rfl) (es' := [(_, _), (_, _), (_, _)]) rfl ?_
      exact pt_next _ (Option.some.inj h).symm rfl
    · have h := cond_f hb22 h
      refine ht_exit ?_
      refine pt_x_then ?_
      refine pt_x_then ?_
      refine pt_x_in ?_
      refine pt_pick [0] (by kernel_rfl) (es' := [(_, _)]) rfl ?_
      exact hl17 _ (ho19 _ (Option.some.inj h).symm).symm

set_option maxHeartbeats 1000000 in
theorem ok_canon_forms (c : (List Int)) (r : Bool) (h : Sh.canon_forms c = some r) : FnOK Try.prog 39 [.v (.agg (List.map (Value.int .i64) c).toArray)] (.v (.bool r)) := by
  unfold Sh.canon_forms at h
  refine fn_ok Try.func39 rfl (Nat.le_of_ble_eq_true rfl) rfl rfl fun g0 hn hio => ?_
  refine ht_seq ?_
  refine ht_seqR hn (El := [_, (1, .arr 64 (List.map (Value.int .i64) c)), (2, .v (.bool false))]) (init := [0]) (fin := [1]) (sps := [⟨[0], [], [1], [(.slot 1)]⟩, ⟨[], [], [2], [(.slot 2)]⟩]) (es' := [(1, .arr 64 (List.map (Value.int .i64) c))]) (by kernel_rfl) rfl rfl
    ⟨st_plain rfl (op_box_arr _ _ _ rfl),
      st_plain rfl (op_assign _ _ _ _ rfl rfl),
      trivial⟩ ?_
  refine pt_then ?_
  refine ht_seq ?_
  obtain ⟨v1, hv1, h⟩ := bind_some h
  obtain ⟨v2, hv2, h⟩ := bind_some h
  refine ht_seqR hn (El := [_, (4, .v (.agg (List.map (Value.int .i64) [(0 : Int), 1, (0 : Int), (0 : Int), (0 : Int), (0 : Int), (0 : Int), (0 : Int), (0 : Int), (0 : Int), (0 : Int), (0 : Int), (0 : Int), (0 : Int), (0 : Int), (0 : Int)]).toArray)), (3, .arr 64 (List.map (Value.int .i64) ((List.replicate 16 (0 : Int))))), (3, .arr 64 (List.map (Value.int .i64) [(0 : Int), 1, (0 : Int), (0 : Int), (0 : Int), (0 : Int), (0 : Int), (0 : Int), (0 : Int), (0 : Int), (0 : Int), (0 : Int), (0 : Int), (0 : Int), (0 : Int), (0 : Int)]))]) (init := [0]) (fin := [0, 3]) (sps := [⟨[], [], [1], [(.slot 4)]⟩, ⟨[], [], [2], [(.slot 3)]⟩, ⟨[1], [2], [3], []⟩]) (es' := [(_, _), (3, .arr 64 (List.map (Value.int .i64) [(0 : Int), 1, (0 : Int), (0 : Int), (0 : Int), (0 : Int), (0 : Int), (0 : Int), (0 : Int), (0 : Int), (0 : Int), (0 : Int), (0 : Int), (0 : Int), (0 : Int), (0 : Int)]))]) (by kernel_rfl) rfl rfl
    ⟨st_plain rfl (op_build_arr _ _ (.agg #[.int .i64 0, .int .i64 0, .int .i64 0, .int .i64 0, .int .i64 0, .int .i64 0, .int .i64 0, .int .i64 0, .int .i64 0, .int .i64 0, .int .i64 0, .int .i64 0, .int .i64 0, .int .i64 0, .int .i64 0, .int .i64 0]) (List.map (Value.int .i64) [(0 : Int), 1, (0 : Int), (0 : Int), (0 : Int), (0 : Int), (0 : Int), (0 : Int), (0 : Int), (0 : Int), (0 : Int), (0 : Int), (0 : Int), (0 : Int), (0 : Int), (0 : Int)]) [(1, .int .i64 1)] Try.underlying64 sz3 zr64 (fun _ V w o a hv hes => by simp only [List.map_toArray, List.map_cons, List.map_nil]; try rfl) (litfill (by simp [Instr.fill, Value.cells]; rfl) (by simp))),
      st_plain rfl (op_alloc_arr _ za64),
      st_plain rfl (op_storeA_arr _ _ _ _ (sz64.trans (congrArg some (ln_len hv2))) rfl rfl (ln_ones (fun _ => rfl) _) ((ln_len (f := Value.int .i64) hv1).symm.trans (ln_len (f := Value.int .i64) hv2))),
      trivial⟩ ?_
  refine pt_then ?_
  refine ht_seq ?_
  refine ht_joinS h (fun (s12 : Bool) => [(2, .v (.bool s12))]) ?_ ?_
  · rintro s12 h
    refine pt_then ?_
    refine ht_ret ?_
    obtain rfl := Option.some.inj h
    exact pt_ret hio rfl (.tmp _ _ .nil) rfl rfl
  · intro u13 h hl14 hr15
    obtain ⟨v3, hv3, h⟩ := bind_some h
    obtain ⟨v4, hv4, h⟩ := bind_some h
    obtain ⟨v5, hv5, h⟩ := bind_some h
    refine cond_some h (fun hg2_3 h => ?_) (fun hg2_3 h => ?_)
    · refine ht_seqR hn (El := (_ :: _ :: (5, .v (.agg (List.map (Value.int .i64) c).toArray)) :: (6, .v (.agg (List.map (Value.int .i64) [(0 : Int), (0 : Int), (0 : Int), (0 : Int), (0 : Int), (0 : Int), (0 : Int), (0 : Int), (0 : Int), (0 : Int), (0 : Int), (0 : Int), (0 : Int), (0 : Int), (0 : Int), (0 : Int)]).toArray)) :: (7, .v (.bool ((c == [(0 : Int), (0 : Int), (0 : Int), (0 : Int), (0 : Int), (0 : Int), (0 : Int), (0 : Int), (0 : Int), (0 : Int), (0 : Int), (0 : Int), (0 : Int), (0 : Int), (0 : Int), (0 : Int)])))) :: (8, .v (.bool true)) :: (9, .v undef) :: (10, .v undef) :: (11, .v undef) :: (12, .v (.bool true)) :: (13, .v (.bool true)) :: (14, .v undef) :: (15, .v undef) :: (16, .v undef) :: (17, .v (.bool true)) :: (2, .v (.bool true)) :: [])) (init := [0, 1]) (fin := [15]) (sps := [⟨[0], [], [2], [(.slot 5)]⟩, ⟨[], [], [3], [(.slot 6)]⟩, ⟨[2, 3], [], [4], [(.slot 7)]⟩, ⟨[4], [], [5], [(.slot 8)]⟩, ⟨[5], [], [6], [(.slot 9)]⟩, ⟨[5], [], [7], [(.slot 10)]⟩, ⟨[5], [], [8], [(.slot 11)]⟩, ⟨[5], [], [9], [(.slot 12)]⟩, ⟨[9], [], [10], [(.slot 13)]⟩, ⟨[10], [], [11], [(.slot 14)]⟩, ⟨[10], [], [12], [(.slot 15)]⟩, ⟨[10], [], [13], [(.slot 16)]⟩, ⟨[10], [], [14], [(.slot 17)]⟩, ⟨[14], [], [15], [(.slot 2)]⟩]) (es' := [(2, .v (.bool true))]) (by kernel_rfl) rfl rfl
        ⟨st_plain rfl (op_loadA_arr _ _ _ _ Try.underlying64 rfl (sz64.trans (congrArg some (ln_len hv3))) rfl rfl),
          st_plain rfl (op_build_arr _ _ (.agg #[.int .i64 0, .int .i64 0, .int .i64 0, .int .i64 0, .int .i64 0, .int .i64 0, .int .i64 0, .int .i64 0, .int .i64 0, .int .i64 0, .int .i64 0, .int .i64 0, .int .i64 0, .int .i64 0, .int .i64 0, .int .i64 0]) (List.map (Value.int .i64) [(0 : Int), (0 : Int), (0 : Int), (0 : Int), (0 : Int), (0 : Int), (0 : Int), (0 : Int), (0 : Int), (0 : Int), (0 : Int), (0 : Int), (0 : Int), (0 : Int), (0 : Int), (0 : Int)]) [] Try.underlying64 sz3 zr64 (fun _ V w o a hv hes => by simp only [List.map_toArray, List.map_cons, List.map_nil]; try rfl) (litfill (by simp [Instr.fill, Value.cells]; rfl) (by simp))),
          st_plain rfl (op_eq_arr _ _ _ Try.underlying64 Try.underlying3 (i := Try.t3) (by kernel_rfl) (by kernel_rfl) (by kernel_rfl) rfl rfl (ln_n hv4) (ln_n hv5) rfl),
          st_plain rfl (op_move _ _ _ _ (congrArg (fun b => AV.v (Value.bool b)) hg2_3) rfl),
          st_skip 3 8 _ false rfl rfl rfl rfl (List.Mem.head _),
          st_skip 3 8 _ false rfl rfl rfl rfl (List.Mem.head _),
          st_skip 3 8 _ false rfl rfl rfl rfl (List.Mem.head _),
          st_plain rfl (op_pick _ _ true _ rfl rfl),
          st_plain rfl (op_move _ _ _ _ rfl rfl),
          st_skip 8 13 _ false rfl rfl rfl rfl (List.Mem.head _),
          st_skip 8 13 _ false rfl rfl rfl rfl (List.Mem.head _),
          st_skip 8 13 _ false rfl rfl rfl rfl (List.Mem.head _),
          st_plain rfl (op_pick _ _ true _ rfl rfl),
          st_plain rfl (op_assign _ _ _ _ rfl rfl),
          trivial⟩ ?_
      exact hl14 _ (Option.some.inj h).symm
    · obtain ⟨v6, hv6, h⟩ := bind_some h
      obtain ⟨v7, hv7, h⟩ := bind_some h
      obtain ⟨v8, hv8, h⟩ := bind_some h
      obtain ⟨v9, hv9, h⟩ := bind_some h
      refine cond_some h (fun hg2_8 h => ?_) (fun hg2_8 h => ?_)
      · refine ht_seqR hn (El := (_ :: _ :: (5, .v (.agg (List.map (Value.int .i64) c).toArray)) :: (6, .v (.agg (List.map (Value.int .i64) [(0 : Int), (0 : Int), (0 : Int), (0 : Int), (0 : Int), (0 : Int), (0 : Int), (0 : Int), (0 : Int), (0 : Int), (0 : Int), (0 : Int), (0 : Int), (0 : Int), (0 : Int), (0 : Int)]).toArray)) :: (7, .v (.bool ((c == [(0 : Int), (0 : Int), (0 : Int), (0 : Int), (0 : Int), (0 : Int), (0 : Int), (0 : Int), (0 : Int), (0 : Int), (0 : Int), (0 : Int), (0 : Int), (0 : Int), (0 : Int), (0 : Int)])))) :: (8, .v (.bool false)) :: (9, .v (.agg (List.map (Value.int .i64) c).toArray)) :: (10, .v (.agg (List.map (Value.int .i64) [(0 : Int), 1, (0 : Int), (0 : Int), (0 : Int), (0 : Int), (0 : Int), (0 : Int), (0 : Int), (0 : Int), (0 : Int), (0 : Int), (0 : Int), (0 : Int), (0 : Int), (0 : Int)]).toArray)) :: (11, .v (.bool ((c == [(0 : Int), 1, (0 : Int), (0 : Int), (0 : Int), (0 : Int), (0 : Int), (0 : Int), (0 : Int), (0 : Int), (0 : Int), (0 : Int), (0 : Int), (0 : Int), (0 : Int), (0 : Int)])))) :: (12, .v (.bool ((c == [(0 : Int), 1, (0 : Int), (0 : Int), (0 : Int), (0 : Int), (0 : Int), (0 : Int), (0 : Int), (0 : Int), (0 : Int), (0 : Int), (0 : Int), (0 : Int), (0 : Int), (0 : Int)])))) :: (13, .v (.bool true)) :: (14, .v undef) :: (15, .v undef) :: (16, .v undef) :: (17, .v (.bool true)) :: (2, .v (.bool true)) :: [])) (init := [0, 1]) (fin := [15]) (sps := [⟨[0], [], [2], [(.slot 5)]⟩, ⟨[], [], [3], [(.slot 6)]⟩, ⟨[2, 3], [], [4], [(.slot 7)]⟩, ⟨[4], [], [5], [(.slot 8)]⟩, ⟨[5, 0], [], [6], [(.slot 9)]⟩, ⟨[5, 1], [], [7], [(.slot 10)]⟩, ⟨[5, 6, 7], [], [8], [(.slot 11)]⟩, ⟨[5, 8], [], [9], [(.slot 12)]⟩, ⟨[9], [], [10], [(.slot 13)]⟩, ⟨[10], [], [11], [(.slot 14)]⟩, ⟨[10], [], [12], [(.slot 15)]⟩, ⟨[10], [], [13], [(.slot 16)]⟩, ⟨[10], [], [14], [(.slot 17)]⟩, ⟨[14], [], [15], [(.slot 2)]⟩]) (es' := [(2, .v (.bool true))]) (by kernel_rfl) rfl rfl
          ⟨st_plain rfl (op_loadA_arr _ _ _ _ Try.underlying64 rfl (sz64.trans (congrArg some (ln_len hv3))) rfl rfl),
            st_plain rfl (op_build_arr _ _ (.agg #[.int .i64 0, .int .i64 0, .int .i64 0, .int .i64 0, .int .i64 0, .int .i64 0, .int .i64 0, .int .i64 0, .int .i64 0, .int .i64 0, .int .i64 0, .int .i64 0, .int .i64 0, .int .i64 0, .int .i64 0, .int .i64 0]) (List.map (Value.int .i64) [(0 : Int), (0 : Int), (0 : Int), (0 : Int), (0 : Int), (0 : Int), (0 : Int), (0 : Int), (0 : Int), (0 : Int), (0 : Int), (0 : Int), (0 : Int), (0 : Int), (0 : Int), (0 : Int)]) [] Try.underlying64 sz3 zr64 (fun _ V w o a hv hes => by simp only [List.map_toArray, List.map_cons, List.map_nil]; try rfl) (litfill (by simp [Instr.fill, Value.cells]; rfl) (by simp))),
            st_plain rfl (op_eq_arr _ _ _ Try.underlying64 Try.underlying3 (i := Try.t3) (by kernel_rfl) (by kernel_rfl) (by kernel_rfl) rfl rfl (ln_n hv4) (ln_n hv5) rfl),
            st_plain rfl (op_move _ _ _ _ (congrArg (fun b => AV.v (Value.bool b)) hg2_3) rfl),
            st_run 3 8 false rfl rfl rfl (List.Mem.head _) (op_loadA_arr _ _ _ _ Try.underlying64 rfl (sz64.trans (congrArg some (ln_len hv6))) rfl rfl),
            st_run 3 8 false rfl rfl rfl (List.Mem.head _) (op_loadA_arr _ _ _ _ Try.underlying64 rfl (sz64.trans (congrArg some (ln_len hv7))) rfl rfl),
            st_run 3 8 false rfl rfl rfl (List.Mem.head _) (op_eq_arr _ _ _ Try.underlying64 Try.underlying3 (i := Try.t3) (by kernel_rfl) (by kernel_rfl) (by kernel_rfl) rfl rfl (ln_n hv8) (ln_n hv9) rfl),
            st_plain rfl (op_pick _ _ false _ rfl rfl),
            st_plain rfl (op_move _ _ _ _ (congrArg (fun b => AV.v (Value.bool b)) hg2_8) rfl),
            st_skip 8 13 _ false rfl rfl rfl rfl (List.Mem.head _),
            st_skip 8 13 _ false rfl rfl rfl rfl (List.Mem.head _),
            st_skip 8 13 _ false rfl rfl rfl rfl (List.Mem.head _),
            st_plain rfl (op_pick _ _ true _ rfl rfl),
            st_plain rfl (op_assign _ _ _ _ rfl rfl),
            trivial⟩ ?_
        exact hl14 _ (Option.some.inj h).symm
      · obtain ⟨v10, hv10, h⟩ := bind_some h
        obtain ⟨v11, hv11, h⟩ := bind_some h
        refine ht_seqR hn (El := (_ :: _ :: (5, .v (.agg (List.map (Value.int .i64) c).toArray)) :: (6, .v (.agg (List.map (Value.int .i64) [(0 : Int), (0 : Int), (0 : Int), (0 : Int), (0 : Int), (0 : Int), (0 : Int), (0 : Int), (0 : Int), (0 : Int), (0 : Int), (0 : Int), (0 : Int), (0 : Int), (0 : Int), (0 : Int)]).toArray)) :: (7, .v (.bool ((c == [(0 : Int), (0 : Int), (0 : Int), (0 : Int), (0 : Int), (0 : Int), (0 : Int), (0 : Int), (0 : Int), (0 : Int), (0 : Int), (0 : Int), (0 : Int), (0 : Int), (0 : Int), (0 : Int)])))) :: (8, .v (.bool false)) :: (9, .v (.agg (List.map (Value.int .i64) c).toArray)) :: (10, .v (.agg (List.map (Value.int .i64) [(0 : Int), 1, (0 : Int), (0 : Int), (0 : Int), (0 : Int), (0 : Int), (0 : Int), (0 : Int), (0 : Int), (0 : Int), (0 : Int), (0 : Int), (0 : Int), (0 : Int), (0 : Int)]).toArray)) :: (11, .v (.bool ((c == [(0 : Int), 1, (0 : Int), (0 : Int), (0 : Int), (0 : Int), (0 : Int), (0 : Int), (0 : Int), (0 : Int), (0 : Int), (0 : Int), (0 : Int), (0 : Int), (0 : Int), (0 : Int)])))) :: (12, .v (.bool ((c == [(0 : Int), 1, (0 : Int), (0 : Int), (0 : Int), (0 : Int), (0 : Int), (0 : Int), (0 : Int), (0 : Int), (0 : Int), (0 : Int), (0 : Int), (0 : Int), (0 : Int), (0 : Int)])))) :: (13, .v (.bool false)) :: (14, .v (.agg (List.map (Value.int .i64) c).toArray)) :: (15, .v (.int .i64 v11)) :: (16, .v (.bool (v11 == 32768))) :: (17, .v (.bool (v11 == 32768))) :: (2, .v (.bool (v11 == 32768))) :: [])) (init := [0, 1]) (fin := [15]) (sps := [⟨[0], [], [2], [(.slot 5)]⟩, ⟨[], [], [3], [(.slot 6)]⟩, ⟨[2, 3], [], [4], [(.slot 7)]⟩, ⟨[4], [], [5], [(.slot 8)]⟩, ⟨[5, 0], [], [6], [(.slot 9)]⟩, ⟨[5, 1], [], [7], [(.slot 10)]⟩, ⟨[5, 6, 7], [], [8], [(.slot 11)]⟩, ⟨[5, 8], [], [9], [(.slot 12)]⟩, ⟨[9], [], [10], [(.slot 13)]⟩, ⟨[10, 0], [], [11], [(.slot 14)]⟩, ⟨[10, 11], [], [12], [(.slot 15)]⟩, ⟨[10, 12], [], [13], [(.slot 16)]⟩, ⟨[10, 13], [], [14], [(.slot 17)]⟩, ⟨[14], [], [15], [(.slot 2)]⟩]) (es' := [(2, .v (.bool (v11 == 32768)))]) (by kernel_rfl) rfl rfl
          ⟨st_plain rfl (op_loadA_arr _ _ _ _ Try.underlying64 rfl (sz64.trans (congrArg some (ln_len hv3))) rfl rfl),
            st_plain rfl (op_build_arr _ _ (.agg #[.int .i64 0, .int .i64 0, .int .i64 0, .int .i64 0, .int .i64 0, .int .i64 0, .int .i64 0, .int .i64 0, .int .i64 0, .int .i64 0, .int .i64 0, .int .i64 0, .int .i64 0, .int .i64 0, .int .i64 0, .int .i64 0]) (List.map (Value.int .i64) [(0 : Int), (0 : Int), (0 : Int), (0 : Int), (0 : Int), (0 : Int), (0 : Int), (0 : Int), (0 : Int), (0 : Int), (0 : Int), (0 : Int), (0 : Int), (0 : Int), (0 : Int), (0 : Int)]) [] Try.underlying64 sz3 zr64 (fun _ V w o a hv hes => by simp only [List.map_toArray, List.map_cons, List.map_nil]; try rfl) (litfill (by simp [Instr.fill, Value.cells]; rfl) (by simp))),
            st_plain rfl (op_eq_arr _ _ _ Try.underlying64 Try.underlying3 (i := Try.t3) (by kernel_rfl) (by kernel_rfl) (by kernel_rfl) rfl rfl (ln_n hv4) (ln_n hv5) rfl),
            st_plain rfl (op_move _ _ _ _ (congrArg (fun b => AV.v (Value.bool b)) hg2_3) rfl),
            st_run 3 8 false rfl rfl rfl (List.Mem.head _) (op_loadA_arr _ _ _ _ Try.underlying64 rfl (sz64.trans (congrArg some (ln_len hv6))) rfl rfl),
            st_run 3 8 false rfl rfl rfl (List.Mem.head _) (op_loadA_arr _ _ _ _ Try.underlying64 rfl (sz64.trans (congrArg some (ln_len hv7))) rfl rfl),
            st_run 3 8 false rfl rfl rfl (List.Mem.head _) (op_eq_arr _ _ _ Try.underlying64 Try.underlying3 (i := Try.t3) (by kernel_rfl) (by kernel_rfl) (by kernel_rfl) rfl rfl (ln_n hv8) (ln_n hv9) rfl),
            st_plain rfl (op_pick _ _ false _ rfl rfl),
            st_plain rfl (op_move _ _ _ _ (congrArg (fun b => AV.v (Value.bool b)) hg2_8) rfl),
            st_run 8 13 false rfl rfl rfl (List.Mem.head _) (op_loadA_arr _ _ _ _ Try.underlying64 rfl (sz64.trans (congrArg some (ln_len hv10))) rfl rfl),
            st_run 8 13 false rfl rfl rfl (List.Mem.head _) (op_call _ _ 44 _ _ rfl Try.call44 rfl (ok_canon_tally_weight c _ hv11) rfl rfl),
            st_run 8 13 false rfl rfl rfl (List.Mem.head _) (op_bin _ _ _ _ _ rfl rfl rfl),
            st_plain rfl (op_pick _ _ false _ rfl rfl),
            st_plain rfl (op_assign _ _ _ _ rfl rfl),
            trivial⟩ ?_
        exact hl14 _ (Option.some.inj h).symm

set_option maxHeartbeats 1000000 in
theorem ok_canon_Check (lengths : (List Int)) (r : Int) (h : Sh.canon_Check lengths = some r) : FnOK Try.prog 25 [.fl .shr 1 (List.map (Value.int .i64) lengths)] (.v (.int .i64 r)) := by
  unfold Sh.canon_Check at h
  refine fn_ok Try.func25 rfl (Nat.le_of_ble_eq_true rfl) rfl rfl fun g0 hn hio => ?_
  refine ht_seq ?_
  refine ht_seqR hn (El := [_, (2, .v (.int .i64 0))]) (init := [0]) (fin := [0]) (sps := [⟨[], [], [1], [(.slot 2)]⟩]) (es' := [(_, _)]) (by kernel_rfl) rfl rfl
    ⟨st_plain rfl (op_assign _ _ _ _ rfl rfl),
      trivial⟩ ?_
  refine pt_then ?_
  refine ht_seq ?_
  refine ht_seq ?_
  obtain ⟨v1, hv1, h⟩ := bind_some h
  refine ht_seqR hn (El := [_, (3, .fl .shr 1 (List.map (Value.int .i64) lengths)), (4, .v (.bool v1)), (5, .v (.bool (!v1)))]) (init := [0]) (fin := [0, 3]) (sps := [⟨[0], [], [1], [(.slot 3)]⟩, ⟨[1], [], [2], [(.slot 4)]⟩, ⟨[2], [], [3], [(.slot 5)]⟩]) (es' := [(_, _), (5, .v (.bool (!v1)))]) (by kernel_rfl) rfl rfl
    ⟨st_plain rfl (op_move _ _ _ _ rfl rfl),
      st_plain rfl (op_call _ _ 38 _ _ rfl Try.call38 rfl (ok_canon_valid lengths _ hv1) rfl rfl),
      st_plain rfl (op_un _ _ _ _ rfl rfl),
      trivial⟩ ?_
  refine pt_then ?_
  refine ht_cond _ rfl (fun hb2 => ?_) (fun hb2 => ?_)
  · have h := cond_t hb2 h
    refine ht_seq ?_
    refine ht_seqR hn (El := [_, _, (2, .v (.int .i64 1))]) (init := [0, 1]) (fin := [2]) (sps := [⟨[], [], [2], [(.slot 2)]⟩]) (es' := [(2, .v (.int .i64 1))]) (by kernel_rfl) rfl rfl
      ⟨st_plain rfl (op_assign _ _ _ _ rfl rfl),
        trivial⟩ ?_
    refine pt_then ?_
    refine ht_ret ?_
    refine pt_r_then ?_
    obtain rfl := Option.some.inj h
    exact pt_ret hio rfl (.tmp _ _ .nil) rfl rfl
  · have h := cond_f hb2 h
    refine ht_skip ?_
    refine pt_then ?_
    refine ht_seq ?_
    refine ht_seq ?_
    obtain ⟨v3, hv3, h⟩ := bind_some h
    obtain ⟨v4, hv4, h⟩ := bind_some h
    refine ht_seqR hn (El := [_, _, (6, .fl .shr 1 (List.map (Value.int .i64) lengths)), (7, .v (.agg (List.map (Value.int .i64) v3).toArray)), (8, .v (.bool v4)), (9, .v (.bool (!v4)))]) (init := [0, 1]) (fin := [5]) (sps := [⟨[0], [], [2], [(.slot 6)]⟩, ⟨[2], [], [3], [(.slot 7)]⟩, ⟨[3], [], [4], [(.slot 8)]⟩, ⟨[4], [], [5], [(.slot 9)]⟩]) (es' := [(9, .v (.bool (!v4)))]) (by kernel_rfl) rfl rfl
      ⟨st_plain rfl (op_move _ _ _ _ rfl rfl),
        st_plain rfl (op_call _ _ 40 _ _ rfl Try.call40 rfl (ok_canon_count lengths _ hv3) rfl rfl),
        st_plain rfl (op_call _ _ 39 _ _ rfl Try.call39 rfl (ok_canon_forms v3 _ hv4) rfl rfl),
        st_plain rfl (op_un _ _ _ _ rfl rfl),
        trivial⟩ ?_
    refine pt_then ?_
    refine ht_cond _ rfl (fun hb5 => ?_) (fun hb5 => ?_)
    · have h := cond_t hb5 h
      refine ht_seq ?_
      refine ht_seqR hn (El := [_, (2, .v (.int .i64 4))]) (init := [0]) (fin := [1]) (sps := [⟨[], [], [1], [(.slot 2)]⟩]) (es' := [(2, .v (.int .i64 4))]) (by kernel_rfl) rfl rfl
        ⟨st_plain rfl (op_assign _ _ _ _ rfl rfl),
          trivial⟩ ?_
      refine pt_then ?_
      refine ht_ret ?_
      refine pt_r_then ?_
      obtain rfl := Option.some.inj h
      exact pt_ret hio rfl (.tmp _ _ .nil) rfl rfl
    · have h := cond_f hb5 h
      refine ht_skip ?_
      refine pt_then ?_
      refine ht_seq ?_
      refine ht_seqR hn (El := [_, (2, .v (.int .i64 0))]) (init := [0]) (fin := [1]) (sps := [⟨[], [], [1], [(.slot 2)]⟩]) (es' := [(2, .v (.int .i64 0))]) (by kernel_rfl) rfl rfl
        ⟨st_plain rfl (op_assign _ _ _ _ rfl rfl),
          trivial⟩ ?_
      refine pt_then ?_
      refine ht_ret ?_
      obtain rfl := Option.some.inj h
      exact pt_ret hio rfl (.tmp _ _ .nil) rfl rfl

set_option maxHeartbeats 1000000 in
theorem ok_canon_firsts (c : (List Int)) (r : (List Int)) (h : Sh.canon_firsts c = some r) : FnOK Try.prog 41 [.v (.agg (List.map (Value.int .i64) c).toArray)] (.v (.agg (List.map (Value.int .i64) r).toArray)) := by
  unfold Sh.canon_firsts at h
  refine fn_ok Try.func41 rfl (Nat.le_of_ble_eq_true rfl) rfl rfl fun g0 hn hio => ?_
  refine ht_seq ?_
  refine ht_seqR hn (El := [_, (1, .arr 64 (List.map (Value.int .i64) c)), (2, .arr 64 (List.map (Value.int .i64) ((List.replicate 16 (0 : Int)))))]) (init := [0]) (fin := [1, 2]) (sps := [⟨[0], [], [1], [(.slot 1)]⟩, ⟨[], [], [2], [(.slot 2)]⟩]) (es' := [(1, .arr 64 (List.map (Value.int .i64) c)), (2, .arr 64 (List.map (Value.int .i64) ((List.replicate 16 (0 : Int)))))]) (by kernel_rfl) rfl rfl
    ⟨st_plain rfl (op_box_arr _ _ _ rfl),
      st_plain rfl (op_alloc_arr _ za64),
      trivial⟩ ?_
  refine pt_then ?_
  refine ht_seq ?_
  refine ht_seqR hn (El := [_, _, (3, .arr 64 (List.map (Value.int .i64) ((List.replicate 16 (0 : Int)))))]) (init := [0, 1]) (fin := [0, 1, 2]) (sps := [⟨[], [], [2], [(.slot 3)]⟩]) (es' := [(_, _), (_, _), (3, .arr 64 (List.map (Value.int .i64) ((List.replicate 16 (0 : Int)))))]) (by kernel_rfl) rfl rfl
    ⟨st_plain rfl (op_alloc_arr _ za64),
      trivial⟩ ?_
  refine pt_then ?_
  refine ht_seq ?_
  refine ht_seq ?_
  refine ht_seqR hn (El := [_, _, _, (4, .v (.int .i64 2))]) (init := [0, 1, 2]) (fin := [0, 1, 2, 3]) (sps := [⟨[], [], [3], [(.slot 4)]⟩]) (es' := [(_, _), (_, _), (_, _), (4, .v (.int .i64 2))]) (by kernel_rfl) rfl rfl
    ⟨st_plain rfl (op_assign _ _ _ _ rfl rfl),
      trivial⟩ ?_
  refine pt_then ?_
  refine ht_loopS h (fun ((s16, s17) : (List Int) × Int) => [(1, .arr 64 (List.map (Value.int .i64) c)), (2, .arr 64 (List.map (Value.int .i64) ((List.replicate 16 (0 : Int))))), (3, .arr 64 (List.map (Value.int .i64) s16)), (4, .v (.int .i64 s17))]) (fun (s19 : (List Int)) => [(2, .arr 64 (List.map (Value.int .i64) ((List.replicate 16 (0 : Int))))), (3, .arr 64 (List.map (Value.int .i64) s19))]) ?_ ?_
  · rintro s19 h
    refine pt_then ?_
    refine ht_seq ?_
    obtain ⟨v27, hv27, h⟩ := bind_some h
    obtain ⟨v28, hv28, h⟩ := bind_some h
    obtain ⟨v29, hv29, h⟩ := bind_some h
    refine ht_seqR hn (El := [_, _, (21, .v (.agg (List.map (Value.int .i64) s19).toArray)), (2, .arr 64 (List.map (Value.int .i64) s19))]) (init := [0, 1]) (fin := [3]) (sps := [⟨[1], [], [2], [(.slot 21)]⟩, ⟨[2], [0], [3], []⟩]) (es' := [(2, .arr 64 (List.map (Value.int .i64) s19))]) (by kernel_rfl) rfl rfl
      ⟨st_plain rfl (op_loadA_arr _ _ _ _ Try.underlying64 rfl (sz64.trans (congrArg some (ln_len hv27))) rfl rfl),
        st_plain rfl (op_storeA_arr _ _ _ _ (sz64.trans (congrArg some (ln_len hv29))) rfl rfl (ln_ones (fun _ => rfl) _) ((ln_len (f := Value.int .i64) hv28).symm.trans (ln_len (f := Value.int .i64) hv29))),
        trivial⟩ ?_
    refine pt_then ?_
    refine ht_ret ?_
    obtain ⟨v30, hv30, h⟩ := bind_some h
    obtain rfl := Option.some.inj h
    exact pt_ret hio rfl (.cellR _ _ _ _ Try.underlying64 rfl (sz64.trans (congrArg some (ln_len hv30))) .nil) rfl rfl
  · rintro u20 hl21 hr22 ⟨s16, s17⟩ rr25 h ho23
    refine ht_seq ?_
    refine ht_seq ?_
    refine ht_seqR hn (El := [_, _, _, _, (5, .v (.int .i64 s17)), (6, .v (.bool ((decide (s17 ≤ 15)))))]) (init := [0, 1, 2, 3]) (fin := [0, 1, 2, 3, 5]) (sps := [⟨[3], [], [4], [(.slot 5)]⟩, ⟨[4], [], [5], [(.slot 6)]⟩]) (es' := [(_, _), (_, _), (_, _), (_, _), (6, .v (.bool ((decide (s17 ≤ 15)))))]) (by kernel_rfl) rfl rfl
      ⟨st_plain rfl (op_move _ _ _ _ rfl rfl),
        st_plain rfl (op_bin _ _ _ _ _ rfl rfl rfl),
        trivial⟩ ?_
    refine pt_then ?_
    refine ht_cond _ rfl (fun hb26 => ?_) (fun hb26 => ?_)
    · have h := cond_t hb26 h
      refine ht_skip ?_
      refine pt_then ?_
      refine ht_seq ?_
      refine ht_block ?_
      obtain ⟨v2, hv2, h⟩ := bind_some h
      obtain ⟨v3, hv3, h⟩ := bind_some h
      obtain ⟨v4, hv4, h⟩ := bind_some h
      obtain ⟨v5, hv5, h⟩ := bind_some h
      obtain ⟨v6, hv6, h⟩ := bind_some h
      obtain ⟨v7, hv7, h⟩ := bind_some h
      obtain ⟨v8, hv8, h⟩ := bind_some h
      obtain ⟨v9, hv9, h⟩ := bind_some h
      obtain ⟨v10, hv10, h⟩ := bind_some h
      obtain ⟨v11, hv11, h⟩ := bind_some h
      refine ht_anyR (by kernel_rfl) hn (El := (_ :: _ :: _ :: _ :: _ :: (9, .v (.int .i64 s17)) :: (10, .v (.int .i64 s17)) :: (11, .v (.int .i64 v2)) :: (12, .ptr 3 v3) :: (13, .v (.int .i64 v4)) :: (14, .v (.int .i64 s17)) :: (15, .v (.int .i64 v5)) :: (16, .ptr 1 v6) :: (17, .v (.int .i64 v7)) :: (18, .v (.int .i64 v8)) :: (19, .v (.int .i64 v9)) :: (20, .ptr 3 v10) :: (3, .arr 64 (List.map (Value.int .i64) v11)) :: [])) (init := [0, 1, 2, 3, 4]) (fin := [0, 1, 17, 3]) (sps := [⟨[3], [], [5], [(.slot 9)]⟩, ⟨[3], [], [6], [(.slot 10)]⟩, ⟨[6], [], [7], [(.slot 11)]⟩, ⟨[2, 7], [], [8], [(.slot 12)]⟩, ⟨[8, 2], [], [9], [(.slot 13)]⟩, ⟨[3], [], [10], [(.slot 14)]⟩, ⟨[10], [], [11], [(.slot 15)]⟩, ⟨[0, 11], [], [12], [(.slot 16)]⟩, ⟨[12, 0], [], [13], [(.slot 17)]⟩, ⟨[9, 13], [], [14], [(.slot 18)]⟩, ⟨[14], [], [15], [(.slot 19)]⟩, ⟨[2, 5], [], [16], [(.slot 20)]⟩, ⟨[16, 15], [2], [17], []⟩]) (es' := [(_, _), (_, _), (3, .arr 64 (List.map (Value.int .i64) v11)), (_, _)]) (by kernel_rfl) rfl rfl
        ⟨st_plain rfl (op_move _ _ _ _ rfl rfl),
          st_plain rfl (op_move _ _ _ _ rfl rfl),
          st_plain rfl (op_bin _ _ _ _ _ rfl rfl (ibind (f := Value.int .i64) (Option.some.inj hv2))),
          st_plain rfl (op_ix_arr _ _ _ _ 16 3 _ Try.underlying64 sz3 rfl rfl (ix_ok hv3).1 (ix_ok hv3).2 (by decide)),
          st_plain rfl (op_load_arr _ _ _ _ _ _ Try.underlying3 rfl rfl rfl (map_get1 hv4)),
          st_plain rfl (op_move _ _ _ _ rfl rfl),
          st_plain rfl (op_bin _ _ _ _ _ rfl rfl (ibind (f := Value.int .i64) (Option.some.inj hv5))),
          st_plain rfl (op_ix_arr _ _ _ _ 16 1 _ Try.underlying64 sz3 rfl rfl (ix_ok hv6).1 (ix_ok hv6).2 (by decide)),
          st_plain rfl (op_load_arr _ _ _ _ _ _ Try.underlying3 rfl rfl rfl (map_get1 hv7)),
          st_plain rfl (op_bin _ _ _ _ _ rfl rfl (ibind (f := Value.int .i64) (Option.some.inj hv8))),
          st_plain rfl (op_bin _ _ _ _ _ rfl rfl (ibind (f := Value.int .i64) (Option.some.inj hv9))),
          st_plain rfl (op_ix_arr _ _ _ _ 16 3 _ Try.underlying64 sz3 rfl rfl (ix_ok hv10).1 (ix_ok hv10).2 (by decide)),
          st_plain rfl (op_store_arr _ _ _ _ _ _ sz3 rfl rfl rfl rfl (set_lt hv11) (set_eq (f := Value.int .i64) hv11)),
          trivial⟩ ?_
      refine pt_inb ?_
      refine pt_then ?_
      obtain ⟨v12, hv12, h⟩ := bind_some h
      refine ht_seqR hn (El := [_, _, _, _, (7, .v (.int .i64 s17)), (8, .v (.int .i64 v12)), (4, .v (.int .i64 v12))]) (init := [0, 1, 2, 3]) (fin := [0, 1, 2, 6]) (sps := [⟨[3], [], [4], [(.slot 7)]⟩, ⟨[4], [], [5], [(.slot 8)]⟩, ⟨[5], [3], [6], [(.slot 4)]⟩]) (es' := [(_, _), (_, _), (_, _), (4, .v (.int .i64 v12))]) (by kernel_rfl) rfl rfl
        ⟨st_plain rfl (op_move _ _ _ _ rfl rfl),
          st_plain rfl (op_bin _ _ _ _ _ rfl rfl (ibind (f := Value.int .i64) (Option.some.inj hv12))),
          st_plain rfl (LOp.drop [_] (op_assign _ _ _ _ rfl rfl)),
          trivial⟩ ?_
      exact pt_next _ (Option.some.inj h).symm rfl
    · have h := cond_f hb26 h
      refine ht_exit ?_
      refine pt_x_then ?_
      refine pt_x_then ?_
      refine pt_x_in ?_
      refine pt_pick [1, 2] (by kernel_rfl) (es' := [(_, _), (_, _)]) rfl ?_
      exact hl21 _ (ho23 _ (Option.some.inj h).symm).symm

set_option maxHeartbeats 1000000 in
theorem ok_canon_Codes (lengths : (List Int)) (r : ((List Int) × Int)) (h : Sh.canon_Codes lengths = some r) : FnOK Try.prog 26 [.fl .shr 1 (List.map (Value.int .i64) lengths)] (.tup [.fl (.own 3) 1 (List.map (Value.int .i64) r.1), .v (.int .i64 r.2)]) := by
  unfold Sh.canon_Codes at h
  refine fn_ok Try.func26 rfl (Nat.le_of_ble_eq_true rfl) rfl rfl fun g0 hn hio => ?_
  refine ht_seq ?_
  refine ht_seqR hn (El := [_, (2, .v (.slice none 0 0)), (3, .v (.int .i64 0))]) (init := [0]) (fin := [0]) (sps := [⟨[], [], [1], [(.slot 2)]⟩, ⟨[], [], [2], [(.slot 3)]⟩]) (es' := [(_, _)]) (by kernel_rfl) rfl rfl
    ⟨st_plain rfl (op_assign _ _ _ _ rfl rfl),
      st_plain rfl (op_assign _ _ _ _ rfl rfl),
      trivial⟩ ?_
  refine pt_then ?_
  refine ht_seq ?_
  refine ht_seq ?_
  obtain ⟨v1, hv1, h⟩ := bind_some h
  refine ht_seqR hn (El := [_, (9, .fl .shr 1 (List.map (Value.int .i64) lengths)), (10, .v (.int .i64 v1)), (4, .v (.int .i64 v1))]) (init := [0]) (fin := [0, 3]) (sps := [⟨[0], [], [1], [(.slot 9)]⟩, ⟨[1], [], [2], [(.slot 10)]⟩, ⟨[2], [], [3], [(.slot 4)]⟩]) (es' := [(_, _), (4, .v (.int .i64 v1))]) (by kernel_rfl) rfl rfl
    ⟨st_plain rfl (op_move _ _ _ _ rfl rfl),
      st_plain rfl (op_call _ _ 25 _ _ rfl Try.call25 rfl (ok_canon_Check lengths _ hv1) rfl rfl),
      st_plain rfl (op_assign _ _ _ _ rfl rfl),
      trivial⟩ ?_
  refine pt_then ?_
  refine ht_seq ?_
  refine ht_seqR hn (El := [_, _, (11, .v (.int .i64 v1)), (12, .v (.bool (v1 != 0)))]) (init := [0, 1]) (fin := [0, 1, 3]) (sps := [⟨[1], [], [2], [(.slot 11)]⟩, ⟨[2], [], [3], [(.slot 12)]⟩]) (es' := [(_, _), (_, _), (12, .v (.bool (v1 != 0)))]) (by kernel_rfl) rfl rfl
    ⟨st_plain rfl (op_move _ _ _ _ rfl rfl),
      st_plain rfl (op_bin _ _ _ _ _ rfl rfl rfl),
      trivial⟩ ?_
  refine pt_then ?_
  refine ht_cond _ rfl (fun hb2 => ?_) (fun hb2 => ?_)
  · have h := cond_t hb2 h
    refine ht_seq ?_
    refine ht_seqR hn (El := [_, _, _, (13, .v (.int .i64 v1)), (2, .v (.slice none 0 0)), (3, .v (.int .i64 v1))]) (init := [0, 1, 2]) (fin := [4, 5]) (sps := [⟨[1], [], [3], [(.slot 13)]⟩, ⟨[], [], [4], [(.slot 2)]⟩, ⟨[3], [], [5], [(.slot 3)]⟩]) (es' := [(2, .v (.slice none 0 0)), (3, .v (.int .i64 v1))]) (by kernel_rfl) rfl rfl
      ⟨st_plain rfl (op_move _ _ _ _ rfl rfl),
        st_plain rfl (op_assign _ _ _ _ rfl rfl),
        st_plain rfl (op_assign _ _ _ _ rfl rfl),
        trivial⟩ ?_
    refine pt_then ?_
    refine ht_ret ?_
    refine pt_sub (fs := [(2, .fl (.own 3) 1 (List.map (Value.int .i64) [])), (3, .v (.int .i64 v1))]) (.sub _ (sub_nil 3 1) rfl (.same _ .nil)) ?_
    refine pt_r_then ?_
    obtain rfl := Option.some.inj h
    exact pt_ret hio rfl (.tmp _ _ (.tmp _ _ .nil)) rfl rfl
  · have h := cond_f hb2 h
    refine ht_skip ?_
    refine pt_then ?_
    refine ht_seq ?_
    obtain ⟨v3, hv3, h⟩ := bind_some h
    obtain ⟨v4, hv4, h⟩ := bind_some h
    obtain ⟨v5, hv5, h⟩ := bind_some h
    obtain ⟨v6, hv6, h⟩ := bind_some h
    refine ht_seqR hn (El := [_, _, _, (14, .fl .shr 1 (List.map (Value.int .i64) lengths)), (15, .v (.agg (List.map (Value.int .i64) v3).toArray)), (16, .v (.agg (List.map (Value.int .i64) v4).toArray)), (5, .arr 64 (List.map (Value.int .i64) ((List.replicate 16 (0 : Int))))), (5, .arr 64 (List.map (Value.int .i64) v4))]) (init := [0, 1, 2]) (fin := [0, 7]) (sps := [⟨[0], [], [3], [(.slot 14)]⟩, ⟨[3], [], [4], [(.slot 15)]⟩, ⟨[4], [], [5], [(.slot 16)]⟩, ⟨[], [], [6], [(.slot 5)]⟩, ⟨[5], [6], [7], []⟩]) (es' := [(_, _), (5, .arr 64 (List.map (Value.int .i64) v4))]) (by kernel_rfl) rfl rfl
      ⟨st_plain rfl (op_move _ _ _ _ rfl rfl),
        st_plain rfl (op_call _ _ 40 _ _ rfl Try.call40 rfl (ok_canon_count lengths _ hv3) rfl rfl),
        st_plain rfl (op_call _ _ 41 _ _ rfl Try.call41 rfl (ok_canon_firsts v3 _ hv4) rfl rfl),
        st_plain rfl (op_alloc_arr _ za64),
        st_plain rfl (op_storeA_arr _ _ _ _ (sz64.trans (congrArg some (ln_len hv6))) rfl rfl (ln_ones (fun _ => rfl) _) ((ln_len (f := Value.int .i64) hv5).symm.trans (ln_len (f := Value.int .i64) hv6))),
        trivial⟩ ?_
    refine pt_then ?_
    refine ht_seq ?_
    obtain ⟨v7, hv7, h⟩ := bind_some h
    refine ht_seqR hn (El := [_, _, (17, .fl .shr 1 (List.map (Value.int .i64) lengths)), (18, .v (.int .i64 (lengths.length : Int))), (19, .fl (.own 3) 1 (List.map (Value.int .i64) v7)), (6, .fl (.own 3) 1 (List.map (Value.int .i64) v7))]) (init := [0, 1]) (fin := [0, 1, 5]) (sps := [⟨[0], [], [2], [(.slot 17)]⟩, ⟨[2], [], [3], [(.slot 18)]⟩, ⟨[3], [], [4], [(.slot 19)]⟩, ⟨[], [4], [5], [(.slot 6)]⟩]) (es' := [(_, _), (_, _), (6, .fl (.own 3) 1 (List.map (Value.int .i64) v7))]) (by kernel_rfl) rfl rfl
      ⟨st_plain rfl (op_move _ _ _ _ rfl rfl),
        st_plain rfl (op_len_fl _ _ _ Try.underlying28 rfl (by decide) (map_len _)),
        st_plain rfl (op_mk (f := Value.int .i64) _ _ _ _ el28 (by decide) zr3 rfl rfl rfl hv7),
        st_plain rfl (op_assign_take _ _ _ _ rfl),
        trivial⟩ ?_
    refine pt_then ?_
    refine ht_seq ?_
    refine ht_seq ?_
    refine ht_seqR hn (El := [_, _, _, (20, .fl .shr 1 (List.map (Value.int .i64) lengths)), (21, .v (.int .i64 (lengths.length : Int))), (22, .v (.int .i64 0))]) (init := [0, 1, 2]) (fin := [1, 2, 3, 4, 5]) (sps := [⟨[0], [], [3], [(.slot 20)]⟩, ⟨[3], [], [4], [(.slot 21)]⟩, ⟨[], [], [5], [(.slot 22)]⟩]) (es' := [(_, _), (_, _), (20, .fl .shr 1 (List.map (Value.int .i64) lengths)), (21, .v (.int .i64 (lengths.length : Int))), (22, .v (.int .i64 0))]) (by kernel_rfl) rfl rfl
      ⟨st_plain rfl (op_move _ _ _ _ rfl rfl),
        st_plain rfl (op_len_fl _ _ _ Try.underlying28 rfl (by decide) (map_len _)),
        st_plain rfl (op_move _ _ _ _ rfl rfl),
        trivial⟩ ?_
    refine pt_then ?_
    refine ht_loopS h (fun ((s39, s40, s41) : (List Int) × (List Int) × Int) => [(5, .arr 64 (List.map (Value.int .i64) s39)), (6, .fl (.own 3) 1 (List.map (Value.int .i64) s40)), (20, .fl .shr 1 (List.map (Value.int .i64) lengths)), (21, .v (.int .i64 (lengths.length : Int))), (22, .v (.int .i64 s41))]) (fun (s50 : (List Int)) => [(6, .fl (.own 3) 1 (List.map (Value.int .i64) s50))]) ?_ ?_
    · rintro s50 h
      refine pt_then ?_
      refine ht_seq ?_
      refine ht_seqR hn (El := [_, (41, .fl (.own 3) 1 (List.map (Value.int .i64) s50)), (2, .fl (.own 3) 1 (List.map (Value.int .i64) s50)), (3, .v (.int .i64 0))]) (init := [0]) (fin := [2, 3]) (sps := [⟨[], [0], [1], [(.slot 41)]⟩, ⟨[], [1], [2], [(.slot 2)]⟩, ⟨[], [], [3], [(.slot 3)]⟩]) (es' := [(2, .fl (.own 3) 1 (List.map (Value.int .i64) s50)), (3, .v (.int .i64 0))]) (by kernel_rfl) rfl rfl
        ⟨st_plain rfl (op_move_take _ _ _ _ rfl),
          st_plain rfl (op_assign_take _ _ _ _ rfl),
          st_plain rfl (op_assign _ _ _ _ rfl rfl),
          trivial⟩ ?_
      refine pt_then ?_
      refine ht_ret ?_
      obtain rfl := Option.some.inj h
      exact pt_ret hio rfl (.tmp _ _ (.tmp _ _ .nil)) rfl rfl
    · rintro u51 hl52 hr53 ⟨s39, s40, s41⟩ rr56 h ho54
      refine ht_seq ?_
      refine ht_seqR hn (El := [_, _, _, _, _, (23, .v (.bool ((decide (s41 < (lengths.length : Int))))))]) (init := [0, 1, 2, 3, 4]) (fin := [0, 1, 2, 3, 4, 5]) (sps := [⟨[4, 3], [], [5], [(.slot 23)]⟩]) (es' := [(_, _), (_, _), (_, _), (_, _), (_, _), (23, .v (.bool ((decide (s41 < (lengths.length : Int))))))]) (by kernel_rfl) rfl rfl
        ⟨st_plain rfl (op_bin _ _ _ _ _ rfl rfl rfl),
          trivial⟩ ?_
      refine pt_then ?_
      refine ht_seq ?_
      refine ht_cond _ rfl (fun hb57 => ?_) (fun hb57 => ?_)
      · have h := cond_t hb57 h
        refine ht_skip ?_
        refine pt_then ?_
        refine ht_seq ?_
        refine ht_joinS h (fun ((s59, s60) : (List Int) × (List Int)) => [(5, .arr 64 (List.map (Value.int .i64) s59)), (6, .fl (.own 3) 1 (List.map (Value.int .i64) s60)), (20, .fl .shr 1 (List.map (Value.int .i64) lengths)), (21, .v (.int .i64 (lengths.length : Int))), (22, .v (.int .i64 s41))]) ?_ ?_
        · rintro ⟨s59, s60⟩ h
          refine pt_then ?_
          obtain ⟨v27, hv27, h⟩ := bind_some h
          refine ht_seqR hn (El := [_, _, _, _, _, (40, .v (.int .i64 v27)), (22, .v (.int .i64 v27))]) (init := [0, 1, 2, 3, 4]) (fin := [0, 1, 2, 3, 6]) (sps := [⟨[4], [], [5], [(.slot 40)]⟩, ⟨[5], [4], [6], [(.slot 22)]⟩]) (es' := [(_, _), (_, _), (_, _), (_, _), (22, .v (.int .i64 v27))]) (by kernel_rfl) rfl rfl
            ⟨st_plain rfl (op_bin _ _ _ _ _ rfl rfl (ibind (f := Value.int .i64) (Option.some.inj hv27))),
              st_plain rfl (LOp.drop [_] (op_move _ _ _ _ rfl rfl)),
              trivial⟩ ?_
          exact pt_next _ (Option.some.inj h).symm rfl
        · intro u61 h hl62 hr63
          refine ht_block ?_
          refine ht_seq ?_
          obtain ⟨v9, hv9, h⟩ := bind_some h
          obtain ⟨v10, hv10, h⟩ := bind_some h
          refine ht_seqR hn (El := [_, _, _, _, _, _, (24, .v (.int .i64 s41)), (25, .eref (.slot 20) (v9 * 1)), (26, .v (.int .i64 v10)), (7, .v (.int .i64 s41)), (8, .v (.int .i64 v10))]) (init := [0, 1, 2, 3, 4, 5]) (fin := [0, 1, 2, 3, 4, 9, 10]) (sps := [⟨[4], [], [6], [(.slot 24)]⟩, ⟨[2, 4], [], [7], [(.slot 25)]⟩, ⟨[7, 2], [], [8], [(.slot 26)]⟩, ⟨[6], [], [9], [(.slot 7)]⟩, ⟨[8], [], [10], [(.slot 8)]⟩]) (es' := [(_, _), (_, _), (_, _), (_, _), (_, _), (7, .v (.int .i64 s41)), (8, .v (.int .i64 v10))]) (by kernel_rfl) rfl rfl
            ⟨st_plain rfl (op_move _ _ _ _ rfl rfl),
              st_plain rfl (op_ix _ _ _ _ _ _ _ _ Try.underlying28 sz3 (by decide) rfl rfl rfl (ix_ok hv9).1 (map_lt (ix_ok hv9).2) rfl),
              st_plain rfl (op_load_e _ _ _ _ _ _ Try.underlying3 rfl rfl rfl (map_get hv10)),
              st_plain rfl (op_assign _ _ _ _ rfl rfl),
              st_plain rfl (op_assign _ _ _ _ rfl rfl),
              trivial⟩ ?_
          refine pt_then ?_
          refine ht_seq ?_
          refine ht_seqR hn (El := [_, _, _, _, _, _, _, (27, .v (.int .i64 v10)), (28, .v (.bool ((decide (0 < v10)))))]) (init := [0, 1, 2, 3, 4, 5, 6]) (fin := [0, 1, 2, 3, 4, 5, 6, 8]) (sps := [⟨[6], [], [7], [(.slot 27)]⟩, ⟨[7], [], [8], [(.slot 28)]⟩]) (es' := [(_, _), (_, _), (_, _), (_, _), (_, _), (_, _), (_, _), (28, .v (.bool ((decide (0 < v10)))))]) (by kernel_rfl) rfl rfl
            ⟨st_plain rfl (op_move _ _ _ _ rfl rfl),
              st_plain rfl (op_bin _ _ _ _ _ rfl rfl rfl),
              trivial⟩ ?_
          refine pt_then ?_
          refine ht_cond _ rfl (fun hb64 => ?_) (fun hb64 => ?_)
          · have h := cond_t hb64 h
            refine ht_seq ?_
            obtain ⟨v12, hv12, h⟩ := bind_some h
            obtain ⟨v13, hv13, h⟩ := bind_some h
            obtain ⟨v14, hv14, h⟩ := bind_some h
            obtain ⟨v15, hv15, h⟩ := bind_some h
            refine ht_seqR hn (El := (_ :: _ :: _ :: _ :: _ :: _ :: _ :: _ :: (29, .same (.slot 6)) :: (30, .v (.int .i64 s41)) :: (31, .v (.int .i64 v10)) :: (32, .ptr 5 v12) :: (33, .v (.int .i64 v13)) :: (34, .eref (.slot 6) (v14 * 1)) :: (6, .fl (.own 3) 1 (List.map (Value.int .i64) v15)) :: [])) (init := [0, 1, 2, 3, 4, 5, 6, 7]) (fin := [0, 14, 2, 3, 4, 6]) (sps := [⟨[1], [], [8], [(.slot 29)]⟩, ⟨[5], [], [9], [(.slot 30)]⟩, ⟨[6], [], [10], [(.slot 31)]⟩, ⟨[0, 10], [], [11], [(.slot 32)]⟩, ⟨[11, 0], [], [12], [(.slot 33)]⟩, ⟨[8, 1, 9], [], [13], [(.slot 34)]⟩, ⟨[13, 12], [1], [14], []⟩]) (es' := [(_, _), (6, .fl (.own 3) 1 (List.map (Value.int .i64) v15)), (_, _), (_, _), (_, _), (_, _)]) (by kernel_rfl) rfl rfl
              ⟨st_plain rfl (op_move _ _ _ _ rfl rfl),
                st_plain rfl (op_move _ _ _ _ rfl rfl),
                st_plain rfl (op_move _ _ _ _ rfl rfl),
                st_plain rfl (op_ix_arr _ _ _ _ 16 5 _ Try.underlying64 sz3 rfl rfl (ix_ok hv12).1 (ix_ok hv12).2 (by decide)),
                st_plain rfl (op_load_arr _ _ _ _ _ _ Try.underlying3 rfl rfl rfl (map_get1 hv13)),
                st_plain rfl (op_ix _ _ _ _ _ _ _ _ Try.underlying28 sz3 (by decide) rfl rfl rfl (ix_ok hv14).1 (map_lt (ix_ok hv14).2) rfl),
                st_plain rfl (op_store_e _ _ _ _ _ _ _ _ sz3 rfl rfl rfl (by decide) (map_lt (ix_ok hv14).2) ((map_set (f := Value.int .i64) _ (ix_ok hv14).2).trans (congrArg (List.map _) (Option.some.inj hv15)))),
                trivial⟩ ?_
            refine pt_then ?_
            obtain ⟨v16, hv16, h⟩ := bind_some h
            obtain ⟨v17, hv17, h⟩ := bind_some h
            obtain ⟨v18, hv18, h⟩ := bind_some h
            obtain ⟨v19, hv19, h⟩ := bind_some h
            obtain ⟨v20, hv20, h⟩ := bind_some h
            refine ht_seqR hn (El := [_, _, _, _, _, _, (35, .v (.int .i64 v10)), (36, .ptr 5 v16), (37, .v (.int .i64 v17)), (38, .v (.int .i64 v18)), (39, .ptr 5 v19), (5, .arr 64 (List.map (Value.int .i64) v20))]) (init := [0, 1, 2, 3, 4, 5]) (fin := [11, 1, 2, 3, 4]) (sps := [⟨[5], [], [6], [(.slot 35)]⟩, ⟨[0, 6], [], [7], [(.slot 36)]⟩, ⟨[7, 0], [], [8], [(.slot 37)]⟩, ⟨[8], [], [9], [(.slot 38)]⟩, ⟨[0, 6], [], [10], [(.slot 39)]⟩, ⟨[10, 9], [0], [11], []⟩]) (es' := [(5, .arr 64 (List.map (Value.int .i64) v20)), (_, _), (_, _), (_, _), (_, _)]) (by kernel_rfl) rfl rfl
              ⟨st_plain rfl (op_move _ _ _ _ rfl rfl),
                st_plain rfl (op_ix_arr _ _ _ _ 16 5 _ Try.underlying64 sz3 rfl rfl (ix_ok hv16).1 (ix_ok hv16).2 (by decide)),
                st_plain rfl (op_load_arr _ _ _ _ _ _ Try.underlying3 rfl rfl rfl (map_get1 hv17)),
                st_plain rfl (op_bin _ _ _ _ _ rfl rfl (ibind (f := Value.int .i64) (Option.some.inj hv18))),
                st_plain rfl (op_ix_arr _ _ _ _ 16 5 _ Try.underlying64 sz3 rfl rfl (ix_ok hv19).1 (ix_ok hv19).2 (by decide)),
                st_plain rfl (op_store_arr _ _ _ _ _ _ sz3 rfl rfl rfl rfl (set_lt hv20) (set_eq (f := Value.int .i64) hv20)),
                trivial⟩ ?_
            refine pt_inb ?_
            exact hl62 _ (Option.some.inj h).symm
          · have h := cond_f hb64 h
            refine ht_skip ?_
            refine pt_inb ?_
            refine pt_pick [0, 1, 2, 3, 4] (by kernel_rfl) (es' := [(_, _), (_, _), (_, _), (_, _), (_, _)]) rfl ?_
            exact hl62 _ (Option.some.inj h).symm
      · have h := cond_f hb57 h
        refine ht_exit ?_
        refine pt_x_then ?_
        refine pt_x_then ?_
        refine pt_x_in ?_
        refine pt_pick [1] (by kernel_rfl) (es' := [(_, _)]) rfl ?_
        exact hl52 _ (ho54 _ (Option.some.inj h).symm).symm

end Go.Proofs.Ytepjhmgmejpkpaa
