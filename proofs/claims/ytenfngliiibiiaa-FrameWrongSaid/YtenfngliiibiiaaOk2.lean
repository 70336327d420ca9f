/-
  The model's runs are what is told in Lean.
-/
import Derived.Test.YtenfngliiibiiaaProg
import Derived.KernelRfl
import Derived.Test.YtenfngliiibiiaaOk1
set_option linter.unusedVariables false
namespace Go.Proofs.Ytenfngliiibiiaa
open Go.Abs Go.Abs.Sh

set_option maxHeartbeats 1000000 in
theorem ok_frame_Read (b : (List Int)) (r : (T_Frame × Int)) (h : Sh.frame_Read b = some r) : FnOK Try.prog 13 [.fl .shr 1 (List.map (Value.int .u8) b)] (.tup [.agg [.v (.int .i64 r.1.Kind), .v (.int .i64 r.1.Number), .v (.int .i64 r.1.Offset), .v (.int .i64 r.1.Seq), .fl (.own 5) 1 (List.map (Value.int .u8) r.1.Data)], .v (.int .i64 r.2)]) := by
  unfold Sh.frame_Read at h
  refine fn_ok Try.func13 rfl (Nat.le_of_ble_eq_true rfl) rfl rfl fun g0 hn hio => ?_
  refine ht_seq ?_
  refine ht_seqR hn (El := [_, (2, .box 24 [.v (.int .i64 0), .v (.int .i64 0), .v (.int .i64 0), .v (.int .i64 0), .v (.slice none 0 0)]), (3, .v (.int .i64 0))]) (init := [0]) (fin := [0, 1]) (sps := [⟨[], [], [1], [(.slot 2)]⟩, ⟨[], [], [2], [(.slot 3)]⟩]) (es' := [(_, _), (2, .box 24 [.v (.int .i64 0), .v (.int .i64 0), .v (.int .i64 0), .v (.int .i64 0), .v (.slice none 0 0)])]) (by kernel_rfl) rfl rfl
    ⟨st_plain rfl (op_alloc _ _ zr24),
      st_plain rfl (op_assign _ _ _ _ rfl rfl),
      trivial⟩ ?_
  refine pt_then ?_
  refine ht_seq ?_
  refine ht_seq ?_
  refine ht_joinS h (fun (s1 : Bool) => [(0, .fl .shr 1 (List.map (Value.int .u8) b)), (2, .box 24 [.v (.int .i64 0), .v (.int .i64 0), .v (.int .i64 0), .v (.int .i64 0), .v (.slice none 0 0)]), (14, .v (.bool s1))]) ?_ ?_
  · rintro s1 h
    refine pt_then ?_
    refine ht_cond _ rfl (fun hb5 => ?_) (fun hb5 => ?_)
    · have h := cond_t hb5 h
      refine ht_seq ?_
      refine ht_seqR hn (El := [_, _, _, (15, .agg [.v (.int .i64 0), .v (.int .i64 0), .v (.int .i64 0), .v (.int .i64 0), .v (.slice none 0 0)]), (2, .box 24 [.v (.int .i64 0), .v (.int .i64 0), .v (.int .i64 0), .v (.int .i64 0), .v (.slice none 0 0)]), (3, .v (.int .i64 3))]) (init := [0, 1, 2]) (fin := [4, 5]) (sps := [⟨[], [], [3], [(.slot 15)]⟩, ⟨[3], [1], [4], [.cell 2 0, .cell 2 1, .cell 2 2, .cell 2 3, .cell 2 4]⟩, ⟨[], [], [5], [(.slot 3)]⟩]) (es' := [(2, .box 24 [.v (.int .i64 0), .v (.int .i64 0), .v (.int .i64 0), .v (.int .i64 0), .v (.slice none 0 0)]), (3, .v (.int .i64 3))]) (by kernel_rfl) rfl rfl
        ⟨st_plain rfl (op_build _ _ _ _ [1, 1, 1, 1, 1] _ _ Try.underlying24 zr24 (fs24 _ Try.underlying24) Src.nil rfl rfl rfl),
          st_plain rfl (op_store _ _ _ _ _ _ _ _ sz24 rfl rfl rfl rfl (Nat.le_of_ble_eq_true rfl) rfl rfl),
          st_plain rfl (op_assign _ _ _ _ rfl rfl),
          trivial⟩ ?_
      refine pt_then ?_
      refine ht_ret ?_
      refine pt_sub (fs := [(2, .box 24 [.v (.int .i64 0), .v (.int .i64 0), .v (.int .i64 0), .v (.int .i64 0), .fl (.own 5) 1 (List.map (Value.int .u8) [])]), (3, .v (.int .i64 3))]) (.box _ _ (subs_cons (sub_refl _) (subs_cons (sub_refl _) (subs_cons (sub_refl _) (subs_cons (sub_refl _) (subs_cons (sub_nil 5 1) (subs_nil)))))) rfl (.same _ .nil)) ?_
      refine pt_r_then ?_
      obtain rfl := Option.some.inj h
      exact pt_ret hio rfl (.cellA _ _ _ _ Try.underlying24 rfl sz24 (.tmp _ _ .nil)) rfl rfl
    · have h := cond_f hb5 h
      refine ht_skip ?_
      refine pt_then ?_
      refine ht_seq ?_
      obtain ⟨v6, hv6, h⟩ := bind_some h
      obtain ⟨v7, hv7, h⟩ := bind_some h
      obtain ⟨v8, hv8, h⟩ := bind_some h
      obtain ⟨v9, hv9, h⟩ := bind_some h
      refine ht_anyR (by kernel_rfl) hn (El := (_ :: _ :: _ :: (16, .fl .shr 1 (List.map (Value.int .u8) b)) :: (17, .fl .shr 1 (List.map (Value.int .u8) b)) :: (18, .v (.int .i64 (b.length : Int))) :: (19, .v (.int .i64 v6)) :: (20, .fl .shr 1 (List.map (Value.int .u8) v7)) :: (21, .fl .shr 1 (List.map (Value.int .u8) b)) :: (22, .fl .shr 1 (List.map (Value.int .u8) b)) :: (23, .v (.int .i64 (b.length : Int))) :: (24, .v (.int .i64 v8)) :: (25, .fl .shr 1 (List.map (Value.int .u8) v9)) :: (4, .fl .shr 1 (List.map (Value.int .u8) v7)) :: (5, .fl .shr 1 (List.map (Value.int .u8) v9)) :: [])) (init := [0, 1, 2]) (fin := [1, 13, 14]) (sps := [⟨[0], [], [3], [(.slot 16)]⟩, ⟨[0], [], [4], [(.slot 17)]⟩, ⟨[4], [], [5], [(.slot 18)]⟩, ⟨[5], [], [6], [(.slot 19)]⟩, ⟨[3, 6], [], [7], [(.slot 20)]⟩, ⟨[0], [], [8], [(.slot 21)]⟩, ⟨[0], [], [9], [(.slot 22)]⟩, ⟨[9], [], [10], [(.slot 23)]⟩, ⟨[10], [], [11], [(.slot 24)]⟩, ⟨[8, 11], [], [12], [(.slot 25)]⟩, ⟨[7], [], [13], [(.slot 4)]⟩, ⟨[12], [], [14], [(.slot 5)]⟩]) (es' := [(_, _), (4, .fl .shr 1 (List.map (Value.int .u8) v7)), (5, .fl .shr 1 (List.map (Value.int .u8) v9))]) (by kernel_rfl) rfl rfl
        ⟨st_plain rfl (op_move _ _ _ _ rfl rfl),
          st_plain rfl (op_move _ _ _ _ rfl rfl),
          st_plain rfl (op_len_fl _ _ _ Try.underlying22 rfl (by decide) (map_len _)),
          st_plain rfl (op_bin _ _ _ _ _ rfl rfl (ibind (f := Value.int .i64) (Option.some.inj hv6))),
          st_plain rfl (op_sl _ _ _ 0 v6 _ Try.underlying22 sz5 rfl rfl rfl ⟨_, rfl⟩ hv7),
          st_plain rfl (op_move _ _ _ _ rfl rfl),
          st_plain rfl (op_move _ _ _ _ rfl rfl),
          st_plain rfl (op_len_fl _ _ _ Try.underlying22 rfl (by decide) (map_len _)),
          st_plain rfl (op_bin _ _ _ _ _ rfl rfl (ibind (f := Value.int .i64) (Option.some.inj hv8))),
          st_plain rfl (op_sl _ _ _ v8 (b.length : Int) _ Try.underlying22 sz5 rfl rfl ⟨_, rfl⟩ rfl hv9),
          st_plain rfl (op_assign _ _ _ _ rfl rfl),
          st_plain rfl (op_assign _ _ _ _ rfl rfl),
          trivial⟩ ?_
      refine pt_then ?_
      refine ht_seq ?_
      refine ht_seq ?_
      obtain ⟨v10, hv10, h⟩ := bind_some h
      obtain ⟨v11, hv11, h⟩ := bind_some h
      obtain ⟨v12, hv12, h⟩ := bind_some h
      obtain ⟨v13, hv13, h⟩ := bind_some h
      obtain ⟨v14, hv14, h⟩ := bind_some h
      obtain ⟨v15, hv15, h⟩ := bind_some h
      obtain ⟨v16, hv16, h⟩ := bind_some h
      obtain ⟨v17, hv17, h⟩ := bind_some h
      obtain ⟨v18, hv18, h⟩ := bind_some h
      refine ht_anyR (by kernel_rfl) hn (El := (_ :: _ :: _ :: (26, .fl .shr 1 (List.map (Value.int .u8) v7)) :: (27, .v (.int .i64 v10)) :: (28, .fl .shr 1 (List.map (Value.int .u8) v9)) :: (29, .eref (.slot 28) (v11 * 1)) :: (30, .v (.int .u8 v12)) :: (31, .v (.int .i64 v13)) :: (32, .fl .shr 1 (List.map (Value.int .u8) v9)) :: (33, .eref (.slot 32) (v14 * 1)) :: (34, .v (.int .u8 v15)) :: (35, .v (.int .i64 v16)) :: (36, .v (.int .i64 v17)) :: (37, .v (.int .i64 v18)) :: (38, .v (.bool (v10 != v18))) :: [])) (init := [0, 1, 2]) (fin := [0, 1, 15]) (sps := [⟨[1], [], [3], [(.slot 26)]⟩, ⟨[3], [], [4], [(.slot 27)]⟩, ⟨[2], [], [5], [(.slot 28)]⟩, ⟨[5], [], [6], [(.slot 29)]⟩, ⟨[6, 5], [], [7], [(.slot 30)]⟩, ⟨[7], [], [8], [(.slot 31)]⟩, ⟨[2], [], [9], [(.slot 32)]⟩, ⟨[9], [], [10], [(.slot 33)]⟩, ⟨[10, 9], [], [11], [(.slot 34)]⟩, ⟨[11], [], [12], [(.slot 35)]⟩, ⟨[12], [], [13], [(.slot 36)]⟩, ⟨[8, 13], [], [14], [(.slot 37)]⟩, ⟨[4, 14], [], [15], [(.slot 38)]⟩]) (es' := [(_, _), (_, _), (38, .v (.bool (v10 != v18)))]) (by kernel_rfl) rfl rfl
        ⟨st_plain rfl (op_move _ _ _ _ rfl rfl),
          st_plain rfl (op_call _ _ 24 _ _ rfl Try.call24 rfl (ok_sums_Short v7 _ hv10) rfl rfl),
          st_plain rfl (op_move _ _ _ _ rfl rfl),
          st_plain rfl (op_ix _ _ _ _ _ _ _ _ Try.underlying22 sz5 (by decide) rfl rfl rfl (ix_ok hv11).1 (map_lt (ix_ok hv11).2) rfl),
          st_plain rfl (op_load_e _ _ _ _ _ _ Try.underlying5 rfl rfl rfl (map_get hv12)),
          st_plain rfl ((Option.some.inj hv13) ▸ op_conv _ _ _ Try.underlying5 Try.underlying3 rfl),
          st_plain rfl (op_move _ _ _ _ rfl rfl),
          st_plain rfl (op_ix _ _ _ _ _ _ _ _ Try.underlying22 sz5 (by decide) rfl rfl rfl (ix_ok hv14).1 (map_lt (ix_ok hv14).2) rfl),
          st_plain rfl (op_load_e _ _ _ _ _ _ Try.underlying5 rfl rfl rfl (map_get hv15)),
          st_plain rfl ((Option.some.inj hv16) ▸ op_conv _ _ _ Try.underlying5 Try.underlying3 rfl),
          st_plain rfl (op_bin _ _ _ _ _ rfl rfl (shl_ok hv17)),
          st_plain rfl (op_bin _ _ _ _ _ rfl rfl (ibind (f := Value.int .i64) (Option.some.inj hv18))),
          st_plain rfl (op_bin _ _ _ _ _ rfl rfl rfl),
          trivial⟩ ?_
      refine pt_then ?_
      refine ht_cond _ rfl (fun hb19 => ?_) (fun hb19 => ?_)
      · have h := cond_t hb19 h
        refine ht_seq ?_
        refine ht_seqR hn (El := [_, _, _, (39, .agg [.v (.int .i64 0), .v (.int .i64 0), .v (.int .i64 0), .v (.int .i64 0), .v (.slice none 0 0)]), (2, .box 24 [.v (.int .i64 0), .v (.int .i64 0), .v (.int .i64 0), .v (.int .i64 0), .v (.slice none 0 0)]), (3, .v (.int .i64 6))]) (init := [0, 1, 2]) (fin := [4, 5]) (sps := [⟨[], [], [3], [(.slot 39)]⟩, ⟨[3], [0], [4], [.cell 2 0, .cell 2 1, .cell 2 2, .cell 2 3, .cell 2 4]⟩, ⟨[], [], [5], [(.slot 3)]⟩]) (es' := [(2, .box 24 [.v (.int .i64 0), .v (.int .i64 0), .v (.int .i64 0), .v (.int .i64 0), .v (.slice none 0 0)]), (3, .v (.int .i64 6))]) (by kernel_rfl) rfl rfl
          ⟨st_plain rfl (op_build _ _ _ _ [1, 1, 1, 1, 1] _ _ Try.underlying24 zr24 (fs24 _ Try.underlying24) Src.nil rfl rfl rfl),
            st_plain rfl (op_store _ _ _ _ _ _ _ _ sz24 rfl rfl rfl rfl (Nat.le_of_ble_eq_true rfl) rfl rfl),
            st_plain rfl (op_assign _ _ _ _ rfl rfl),
            trivial⟩ ?_
        refine pt_then ?_
        refine ht_ret ?_
        refine pt_sub (fs := [(2, .box 24 [.v (.int .i64 0), .v (.int .i64 0), .v (.int .i64 0), .v (.int .i64 0), .fl (.own 5) 1 (List.map (Value.int .u8) [])]), (3, .v (.int .i64 6))]) (.box _ _ (subs_cons (sub_refl _) (subs_cons (sub_refl _) (subs_cons (sub_refl _) (subs_cons (sub_refl _) (subs_cons (sub_nil 5 1) (subs_nil)))))) rfl (.same _ .nil)) ?_
        refine pt_r_then ?_
        obtain rfl := Option.some.inj h
        exact pt_ret hio rfl (.cellA _ _ _ _ Try.underlying24 rfl sz24 (.tmp _ _ .nil)) rfl rfl
      · have h := cond_f hb19 h
        refine ht_skip ?_
        refine pt_then ?_
        refine ht_seq ?_
        obtain ⟨v20, hv20, h⟩ := bind_some h
        obtain ⟨v21, hv21, h⟩ := bind_some h
        obtain ⟨v22, hv22, h⟩ := bind_some h
        obtain ⟨v23, hv23, h⟩ := bind_some h
        obtain ⟨v24, hv24, h⟩ := bind_some h
        obtain ⟨v25, hv25, h⟩ := bind_some h
        obtain ⟨v26, hv26, h⟩ := bind_some h
        obtain ⟨v27, hv27, h⟩ := bind_some h
        obtain ⟨v28, hv28, h⟩ := bind_some h
        obtain ⟨v29, hv29, h⟩ := bind_some h
        obtain ⟨v30, hv30, h⟩ := bind_some h
        obtain ⟨v31, hv31, h⟩ := bind_some h
        obtain ⟨v32, hv32, h⟩ := bind_some h
        obtain ⟨v33, hv33, h⟩ := bind_some h
        obtain ⟨v34, hv34, h⟩ := bind_some h
        obtain ⟨v35, hv35, h⟩ := bind_some h
        obtain ⟨v36, hv36, h⟩ := bind_some h
        obtain ⟨v37, hv37, h⟩ := bind_some h
        obtain ⟨v38, hv38, h⟩ := bind_some h
        obtain ⟨v39, hv39, h⟩ := bind_some h
        obtain ⟨v40, hv40, h⟩ := bind_some h
        obtain ⟨v41, hv41, h⟩ := bind_some h
        obtain ⟨v42, hv42, h⟩ := bind_some h
        obtain ⟨v43, hv43, h⟩ := bind_some h
        refine ht_anyR (by kernel_rfl) hn (El := (_ :: _ :: _ :: (40, .fl .shr 1 (List.map (Value.int .u8) v7)) :: (41, .eref (.slot 40) (v20 * 1)) :: (42, .v (.int .u8 v21)) :: (43, .v (.int .i64 v22)) :: (44, .fl .shr 1 (List.map (Value.int .u8) v7)) :: (45, .eref (.slot 44) (v23 * 1)) :: (46, .v (.int .u8 v24)) :: (47, .v (.int .i64 v25)) :: (48, .v (.int .i64 v26)) :: (49, .fl .shr 1 (List.map (Value.int .u8) v7)) :: (50, .eref (.slot 49) (v27 * 1)) :: (51, .v (.int .u8 v28)) :: (52, .v (.int .i64 v29)) :: (53, .v (.int .i64 v30)) :: (54, .fl .shr 1 (List.map (Value.int .u8) v7)) :: (55, .eref (.slot 54) (v31 * 1)) :: (56, .v (.int .u8 v32)) :: (57, .v (.int .i64 v33)) :: (58, .v (.int .i64 v34)) :: (59, .fl .shr 1 (List.map (Value.int .u8) v7)) :: (60, .eref (.slot 59) (v35 * 1)) :: (61, .v (.int .u8 v36)) :: (62, .v (.int .i64 v37)) :: (63, .v (.int .i64 v38)) :: (64, .fl .shr 1 (List.map (Value.int .u8) v7)) :: (65, .eref (.slot 64) (v39 * 1)) :: (66, .v (.int .u8 v40)) :: (67, .v (.int .i64 v41)) :: (68, .fl .shr 1 (List.map (Value.int .u8) v7)) :: (69, .fl .shr 1 (List.map (Value.int .u8) v42)) :: (70, .fl (.own 5) 1 (List.map (Value.int .u8) v43)) :: (71, .agg [.v (.int .i64 v22), .v (.int .i64 v30), .v (.int .i64 v38), .v (.int .i64 v41), .fl (.own 5) 1 (List.map (Value.int .u8) v43)]) :: (6, .box 24 [.v (.int .i64 0), .v (.int .i64 0), .v (.int .i64 0), .v (.int .i64 0), .v (.slice none 0 0)]) :: (6, .box 24 [.v (.int .i64 v22), .v (.int .i64 v30), .v (.int .i64 v38), .v (.int .i64 v41), .fl (.own 5) 1 (List.map (Value.int .u8) v43)]) :: [])) (init := [0, 1, 2]) (fin := [0, 1, 36]) (sps := (⟨[1], [], [3], [(.slot 40)]⟩ :: ⟨[3], [], [4], [(.slot 41)]⟩ :: ⟨[4, 3], [], [5], [(.slot 42)]⟩ :: ⟨[5], [], [6], [(.slot 43)]⟩ :: ⟨[1], [], [7], [(.slot 44)]⟩ :: ⟨[7], [], [8], [(.slot 45)]⟩ :: ⟨[8, 7], [], [9], [(.slot 46)]⟩ :: ⟨[9], [], [10], [(.slot 47)]⟩ :: ⟨[10], [], [11], [(.slot 48)]⟩ :: ⟨[1], [], [12], [(.slot 49)]⟩ :: ⟨[12], [], [13], [(.slot 50)]⟩ :: ⟨[13, 12], [], [14], [(.slot 51)]⟩ :: ⟨[14], [], [15], [(.slot 52)]⟩ :: ⟨[11, 15], [], [16], [(.slot 53)]⟩ :: ⟨[1], [], [17], [(.slot 54)]⟩ :: ⟨[17], [], [18], [(.slot 55)]⟩ :: ⟨[18, 17], [], [19], [(.slot 56)]⟩ :: ⟨[19], [], [20], [(.slot 57)]⟩ :: ⟨[20], [], [21], [(.slot 58)]⟩ :: ⟨[1], [], [22], [(.slot 59)]⟩ :: ⟨[22], [], [23], [(.slot 60)]⟩ :: ⟨[23, 22], [], [24], [(.slot 61)]⟩ :: ⟨[24], [], [25], [(.slot 62)]⟩ :: ⟨[21, 25], [], [26], [(.slot 63)]⟩ :: ⟨[1], [], [27], [(.slot 64)]⟩ :: ⟨[27], [], [28], [(.slot 65)]⟩ :: ⟨[28, 27], [], [29], [(.slot 66)]⟩ :: ⟨[29], [], [30], [(.slot 67)]⟩ :: ⟨[1], [], [31], [(.slot 68)]⟩ :: ⟨[31], [], [32], [(.slot 69)]⟩ :: ⟨[32], [], [33], [(.slot 70)]⟩ :: ⟨[6, 16, 26, 30], [33], [34], [(.slot 71)]⟩ :: ⟨[], [], [35], [(.slot 6)]⟩ :: ⟨[], [34, 35], [36], [.cell 6 0, .cell 6 1, .cell 6 2, .cell 6 3, .cell 6 4]⟩ :: [])) (es' := [(_, _), (_, _), (6, .box 24 [.v (.int .i64 v22), .v (.int .i64 v30), .v (.int .i64 v38), .v (.int .i64 v41), .fl (.own 5) 1 (List.map (Value.int .u8) v43)])]) (by kernel_rfl) rfl rfl
          ⟨st_plain rfl (op_move _ _ _ _ rfl rfl),
            st_plain rfl (op_ix _ _ _ _ _ _ _ _ Try.underlying22 sz5 (by decide) rfl rfl rfl (ix_ok hv20).1 (map_lt (ix_ok hv20).2) rfl),
            st_plain rfl (op_load_e _ _ _ _ _ _ Try.underlying5 rfl rfl rfl (map_get hv21)),
            st_plain rfl ((Option.some.inj hv22) ▸ op_conv _ _ _ Try.underlying5 Try.underlying3 rfl),
            st_plain rfl (op_move _ _ _ _ rfl rfl),
            st_plain rfl (op_ix _ _ _ _ _ _ _ _ Try.underlying22 sz5 (by decide) rfl rfl rfl (ix_ok hv23).1 (map_lt (ix_ok hv23).2) rfl),
            st_plain rfl (op_load_e _ _ _ _ _ _ Try.underlying5 rfl rfl rfl (map_get hv24)),
            st_plain rfl ((Option.some.inj hv25) ▸ op_conv _ _ _ Try.underlying5 Try.underlying3 rfl),
            st_plain rfl (op_bin _ _ _ _ _ rfl rfl (shl_ok hv26)),
            st_plain rfl (op_move _ _ _ _ rfl rfl),
            st_plain rfl (op_ix _ _ _ _ _ _ _ _ Try.underlying22 sz5 (by decide) rfl rfl rfl (ix_ok hv27).1 (map_lt (ix_ok hv27).2) rfl),
            st_plain rfl (op_load_e _ _ _ _ _ _ Try.underlying5 rfl rfl rfl (map_get hv28)),
            st_plain rfl ((Option.some.inj hv29) ▸ op_conv _ _ _ Try.underlying5 Try.underlying3 rfl),
            st_plain rfl (op_bin _ _ _ _ _ rfl rfl (ibind (f := Value.int .i64) (Option.some.inj hv30))),
            st_plain rfl (op_move _ _ _ _ rfl rfl),
            st_plain rfl (op_ix _ _ _ _ _ _ _ _ Try.underlying22 sz5 (by decide) rfl rfl rfl (ix_ok hv31).1 (map_lt (ix_ok hv31).2) rfl),
            st_plain rfl (op_load_e _ _ _ _ _ _ Try.underlying5 rfl rfl rfl (map_get hv32)),
            st_plain rfl ((Option.some.inj hv33) ▸ op_conv _ _ _ Try.underlying5 Try.underlying3 rfl),
            st_plain rfl (op_bin _ _ _ _ _ rfl rfl (shl_ok hv34)),
            st_plain rfl (op_move _ _ _ _ rfl rfl),
            st_plain rfl (op_ix _ _ _ _ _ _ _ _ Try.underlying22 sz5 (by decide) rfl rfl rfl (ix_ok hv35).1 (map_lt (ix_ok hv35).2) rfl),
            st_plain rfl (op_load_e _ _ _ _ _ _ Try.underlying5 rfl rfl rfl (map_get hv36)),
            st_plain rfl ((Option.some.inj hv37) ▸ op_conv _ _ _ Try.underlying5 Try.underlying3 rfl),
            st_plain rfl (op_bin _ _ _ _ _ rfl rfl (ibind (f := Value.int .i64) (Option.some.inj hv38))),
            st_plain rfl (op_move _ _ _ _ rfl rfl),
            st_plain rfl (op_ix _ _ _ _ _ _ _ _ Try.underlying22 sz5 (by decide) rfl rfl rfl (ix_ok hv39).1 (map_lt (ix_ok hv39).2) rfl),
            st_plain rfl (op_load_e _ _ _ _ _ _ Try.underlying5 rfl rfl rfl (map_get hv40)),
            st_plain rfl ((Option.some.inj hv41) ▸ op_conv _ _ _ Try.underlying5 Try.underlying3 rfl),
            st_plain rfl (op_move _ _ _ _ rfl rfl),
            st_plain rfl (op_sl _ _ _ 7 (v7.length : Int) _ Try.underlying22 sz5 rfl rfl ⟨_, rfl⟩ rfl hv42),
            st_plain rfl (op_app_nil _ _ _ _ el22 rfl rfl (map_len _) hv43 (congrArg (List.map _) (app_nil_eq hv43))),
            st_plain rfl (op_build _ _ _ _ [1, 1, 1, 1, 1] _ _ Try.underlying24 zr24 (fs24 _ Try.underlying24) (.copy _ (.copy _ (.copy _ (.copy _ (.take _ _ Src.nil))))) rfl rfl rfl),
            st_plain rfl (op_alloc _ _ zr24),
            st_plain rfl (op_store_take _ _ _ _ _ _ _ _ sz24 rfl rfl rfl (Nat.le_of_ble_eq_true rfl) rfl rfl),
            trivial⟩ ?_
        refine pt_then ?_
        refine ht_seq ?_
        refine ht_seq ?_
        refine ht_joinS h (fun (s48 : Bool) => [(2, .box 24 [.v (.int .i64 0), .v (.int .i64 0), .v (.int .i64 0), .v (.int .i64 0), .v (.slice none 0 0)]), (6, .box 24 [.v (.int .i64 v22), .v (.int .i64 v30), .v (.int .i64 v38), .v (.int .i64 v41), .fl (.own 5) 1 (List.map (Value.int .u8) v43)]), (84, .v (.bool s48))]) ?_ ?_
        · rintro s48 h
          refine pt_then ?_
          refine ht_cond _ rfl (fun hb52 => ?_) (fun hb52 => ?_)
          · have h := cond_t hb52 h
            refine ht_seq ?_
            refine ht_seqR hn (El := [_, _, _, (85, .agg [.v (.int .i64 0), .v (.int .i64 0), .v (.int .i64 0), .v (.int .i64 0), .v (.slice none 0 0)]), (2, .box 24 [.v (.int .i64 0), .v (.int .i64 0), .v (.int .i64 0), .v (.int .i64 0), .v (.slice none 0 0)]), (3, .v (.int .i64 3))]) (init := [0, 1, 2]) (fin := [4, 5]) (sps := [⟨[], [], [3], [(.slot 85)]⟩, ⟨[3], [0], [4], [.cell 2 0, .cell 2 1, .cell 2 2, .cell 2 3, .cell 2 4]⟩, ⟨[], [], [5], [(.slot 3)]⟩]) (es' := [(2, .box 24 [.v (.int .i64 0), .v (.int .i64 0), .v (.int .i64 0), .v (.int .i64 0), .v (.slice none 0 0)]), (3, .v (.int .i64 3))]) (by kernel_rfl) rfl rfl
              ⟨st_plain rfl (op_build _ _ _ _ [1, 1, 1, 1, 1] _ _ Try.underlying24 zr24 (fs24 _ Try.underlying24) Src.nil rfl rfl rfl),
                st_plain rfl (op_store _ _ _ _ _ _ _ _ sz24 rfl rfl rfl rfl (Nat.le_of_ble_eq_true rfl) rfl rfl),
                st_plain rfl (op_assign _ _ _ _ rfl rfl),
                trivial⟩ ?_
            refine pt_then ?_
            refine ht_ret ?_
            refine pt_sub (fs := [(2, .box 24 [.v (.int .i64 0), .v (.int .i64 0), .v (.int .i64 0), .v (.int .i64 0), .fl (.own 5) 1 (List.map (Value.int .u8) [])]), (3, .v (.int .i64 3))]) (.box _ _ (subs_cons (sub_refl _) (subs_cons (sub_refl _) (subs_cons (sub_refl _) (subs_cons (sub_refl _) (subs_cons (sub_nil 5 1) (subs_nil)))))) rfl (.same _ .nil)) ?_
            refine pt_r_then ?_
            obtain rfl := Option.some.inj h
            exact pt_ret hio rfl (.cellA _ _ _ _ Try.underlying24 rfl sz24 (.tmp _ _ .nil)) rfl rfl
          · have h := cond_f hb52 h
            refine ht_skip ?_
            refine pt_then ?_
            refine ht_seq ?_
            refine ht_seqR hn (El := [_, _, _, (86, .agg [.v (.int .i64 v22), .v (.int .i64 v30), .v (.int .i64 v38), .v (.int .i64 v41), .fl (.own 5) 1 (List.map (Value.int .u8) v43)]), (2, .box 24 [.v (.int .i64 v22), .v (.int .i64 v30), .v (.int .i64 v38), .v (.int .i64 v41), .fl (.own 5) 1 (List.map (Value.int .u8) v43)]), (3, .v (.int .i64 0))]) (init := [0, 1, 2]) (fin := [4, 5]) (sps := [⟨[], [1], [3], [(.slot 86)]⟩, ⟨[], [3, 0], [4], [.cell 2 0, .cell 2 1, .cell 2 2, .cell 2 3, .cell 2 4]⟩, ⟨[], [], [5], [(.slot 3)]⟩]) (es' := [(2, .box 24 [.v (.int .i64 v22), .v (.int .i64 v30), .v (.int .i64 v38), .v (.int .i64 v41), .fl (.own 5) 1 (List.map (Value.int .u8) v43)]), (3, .v (.int .i64 0))]) (by kernel_rfl) rfl rfl
              ⟨st_plain rfl (op_loadA_take _ _ _ _ Try.underlying24 rfl sz24 rfl rfl),
                st_plain rfl (op_store_take _ _ _ _ _ _ _ _ sz24 rfl rfl rfl (Nat.le_of_ble_eq_true rfl) rfl rfl),
                st_plain rfl (op_assign _ _ _ _ rfl rfl),
                trivial⟩ ?_
            refine pt_then ?_
            refine ht_ret ?_
            obtain rfl := Option.some.inj h
            exact pt_ret hio rfl (.cellA _ _ _ _ Try.underlying24 rfl sz24 (.tmp _ _ .nil)) rfl rfl
        · intro u49 h hl50 hr51
          obtain ⟨v44, hv44, h⟩ := bind_some h
          obtain ⟨v45, hv45, h⟩ := bind_some h
          obtain ⟨v46, hv46, h⟩ := bind_some h
          refine cond_some h (fun hg7_8 h => ?_) (fun hg7_8 h => ?_)
          · refine ht_anyR (by kernel_rfl) hn (El := (_ :: _ :: _ :: (72, .fl .shr 1 (List.map (Value.int .u8) v7)) :: (73, .eref (.slot 72) (v44 * 1)) :: (74, .v (.int .u8 v45)) :: (75, .v (.int .i64 v46)) :: (76, .ptr 6 4) :: (77, .same (.cell 6 4)) :: (78, .v (.int .i64 (v43.length : Int))) :: (79, .v (.bool ((v46 != (v43.length : Int))))) :: (80, .v (.bool true)) :: (81, .v undef) :: (82, .v undef) :: (83, .v undef) :: (84, .v (.bool true)) :: [])) (init := [0, 1, 2]) (fin := [0, 2, 15]) (sps := [⟨[1], [], [3], [(.slot 72)]⟩, ⟨[3], [], [4], [(.slot 73)]⟩, ⟨[4, 3], [], [5], [(.slot 74)]⟩, ⟨[5], [], [6], [(.slot 75)]⟩, ⟨[2], [], [7], [(.slot 76)]⟩, ⟨[7, 2], [], [8], [(.slot 77)]⟩, ⟨[8, 2], [], [9], [(.slot 78)]⟩, ⟨[6, 9], [], [10], [(.slot 79)]⟩, ⟨[10], [], [11], [(.slot 80)]⟩, ⟨[11], [], [12], [(.slot 81)]⟩, ⟨[11], [], [13], [(.slot 82)]⟩, ⟨[11], [], [14], [(.slot 83)]⟩, ⟨[11], [], [15], [(.slot 84)]⟩]) (es' := [(_, _), (_, _), (84, .v (.bool true))]) (by kernel_rfl) rfl rfl
              ⟨st_plain rfl (op_move _ _ _ _ rfl rfl),
                st_plain rfl (op_ix _ _ _ _ _ _ _ _ Try.underlying22 sz5 (by decide) rfl rfl rfl (ix_ok hv44).1 (map_lt (ix_ok hv44).2) rfl),
                st_plain rfl (op_load_e _ _ _ _ _ _ Try.underlying5 rfl rfl rfl (map_get hv45)),
                st_plain rfl ((Option.some.inj hv46) ▸ op_conv _ _ _ Try.underlying5 Try.underlying3 rfl),
                st_plain rfl (op_fieldAddr _ _ _ _ 6 0 _ Try.underlying24 rfl sz22 rfl rfl (by decide)),
                st_plain rfl (op_load _ _ _ _ _ _ Try.underlying22 rfl rfl rfl (Nat.le_of_ble_eq_true rfl) rfl rfl rfl),
                st_plain rfl (op_len_fl _ _ _ Try.underlying22 rfl (by decide) (map_len _)),
                st_plain rfl (op_bin _ _ _ _ _ rfl rfl rfl),
                st_plain rfl (op_move _ _ _ _ (congrArg (fun b => AV.v (Value.bool b)) hg7_8) rfl),
                st_skip 8 80 _ false rfl rfl rfl rfl (List.Mem.head _),
                st_skip 8 80 _ false rfl rfl rfl rfl (List.Mem.head _),
                st_skip 8 80 _ false rfl rfl rfl rfl (List.Mem.head _),
                st_plain rfl (op_pick _ _ true _ rfl rfl),
                trivial⟩ ?_
            exact hl50 _ (Option.some.inj h).symm
          · obtain ⟨v47, hv47, h⟩ := bind_some h
            refine ht_anyR (by kernel_rfl) hn (El := (_ :: _ :: _ :: (72, .fl .shr 1 (List.map (Value.int .u8) v7)) :: (73, .eref (.slot 72) (v44 * 1)) :: (74, .v (.int .u8 v45)) :: (75, .v (.int .i64 v46)) :: (76, .ptr 6 4) :: (77, .same (.cell 6 4)) :: (78, .v (.int .i64 (v43.length : Int))) :: (79, .v (.bool ((v46 != (v43.length : Int))))) :: (80, .v (.bool false)) :: (81, .agg [.v (.int .i64 v22), .v (.int .i64 v30), .v (.int .i64 v38), .v (.int .i64 v41), .same (.cell 6 4)]) :: (82, .v (.int .i64 v47)) :: (83, .v (.bool (v47 != 0))) :: (84, .v (.bool (v47 != 0))) :: [])) (init := [0, 1, 2]) (fin := [0, 2, 15]) (sps := [⟨[1], [], [3], [(.slot 72)]⟩, ⟨[3], [], [4], [(.slot 73)]⟩, ⟨[4, 3], [], [5], [(.slot 74)]⟩, ⟨[5], [], [6], [(.slot 75)]⟩, ⟨[2], [], [7], [(.slot 76)]⟩, ⟨[7, 2], [], [8], [(.slot 77)]⟩, ⟨[8, 2], [], [9], [(.slot 78)]⟩, ⟨[6, 9], [], [10], [(.slot 79)]⟩, ⟨[10], [], [11], [(.slot 80)]⟩, ⟨[11, 2], [], [12], [(.slot 81)]⟩, ⟨[11, 12, 2], [], [13], [(.slot 82)]⟩, ⟨[11, 13], [], [14], [(.slot 83)]⟩, ⟨[11, 14], [], [15], [(.slot 84)]⟩]) (es' := [(_, _), (_, _), (84, .v (.bool (v47 != 0)))]) (by kernel_rfl) rfl rfl
              ⟨st_plain rfl (op_move _ _ _ _ rfl rfl),
                st_plain rfl (op_ix _ _ _ _ _ _ _ _ Try.underlying22 sz5 (by decide) rfl rfl rfl (ix_ok hv44).1 (map_lt (ix_ok hv44).2) rfl),
                st_plain rfl (op_load_e _ _ _ _ _ _ Try.underlying5 rfl rfl rfl (map_get hv45)),
                st_plain rfl ((Option.some.inj hv46) ▸ op_conv _ _ _ Try.underlying5 Try.underlying3 rfl),
                st_plain rfl (op_fieldAddr _ _ _ _ 6 0 _ Try.underlying24 rfl sz22 rfl rfl (by decide)),
                st_plain rfl (op_load _ _ _ _ _ _ Try.underlying22 rfl rfl rfl (Nat.le_of_ble_eq_true rfl) rfl rfl rfl),
                st_plain rfl (op_len_fl _ _ _ Try.underlying22 rfl (by decide) (map_len _)),
                st_plain rfl (op_bin _ _ _ _ _ rfl rfl rfl),
                st_plain rfl (op_move _ _ _ _ (congrArg (fun b => AV.v (Value.bool b)) hg7_8) rfl),
                st_run 8 80 false rfl rfl rfl (List.Mem.head _) (op_loadA _ _ _ _ _ _ _ Try.underlying24 rfl sz24 rfl rfl (Nat.le_of_ble_eq_true rfl) rfl rfl),
                st_run 8 80 false rfl rfl rfl (List.Mem.head _) (op_call _ _ 16 _ _ rfl Try.call16 rfl (ok_frame_Check (T_Frame.mk v22 v30 v38 v41 v43) _ hv47) rfl rfl),
                st_run 8 80 false rfl rfl rfl (List.Mem.head _) (op_bin _ _ _ _ _ rfl rfl rfl),
                st_plain rfl (op_pick _ _ false _ rfl rfl),
                trivial⟩ ?_
            exact hl50 _ (Option.some.inj h).symm
  · intro u2 h hl3 hr4
    refine cond_some h (fun hg1_3 h => ?_) (fun hg1_3 h => ?_)
    · refine ht_seqR hn (El := [_, _, (7, .fl .shr 1 (List.map (Value.int .u8) b)), (8, .v (.int .i64 (b.length : Int))), (9, .v (.bool ((decide ((b.length : Int) < 9))))), (10, .v (.bool true)), (11, .v undef), (12, .v undef), (13, .v undef), (14, .v (.bool true))]) (init := [0, 1]) (fin := [0, 1, 9]) (sps := [⟨[0], [], [2], [(.slot 7)]⟩, ⟨[2], [], [3], [(.slot 8)]⟩, ⟨[3], [], [4], [(.slot 9)]⟩, ⟨[4], [], [5], [(.slot 10)]⟩, ⟨[5], [], [6], [(.slot 11)]⟩, ⟨[5], [], [7], [(.slot 12)]⟩, ⟨[5], [], [8], [(.slot 13)]⟩, ⟨[5], [], [9], [(.slot 14)]⟩]) (es' := [(_, _), (_, _), (14, .v (.bool true))]) (by kernel_rfl) rfl rfl
        ⟨st_plain rfl (op_move _ _ _ _ rfl rfl),
          st_plain rfl (op_len_fl _ _ _ Try.underlying22 rfl (by decide) (map_len _)),
          st_plain rfl (op_bin _ _ _ _ _ rfl rfl rfl),
          st_plain rfl (op_move _ _ _ _ (congrArg (fun b => AV.v (Value.bool b)) hg1_3) rfl),
          st_skip 3 10 _ false rfl rfl rfl rfl (List.Mem.head _),
          st_skip 3 10 _ false rfl rfl rfl rfl (List.Mem.head _),
          st_skip 3 10 _ false rfl rfl rfl rfl (List.Mem.head _),
          st_plain rfl (op_pick _ _ true _ rfl rfl),
          trivial⟩ ?_
      exact hl3 _ (Option.some.inj h).symm
    · refine ht_seqR hn (El := [_, _, (7, .fl .shr 1 (List.map (Value.int .u8) b)), (8, .v (.int .i64 (b.length : Int))), (9, .v (.bool ((decide ((b.length : Int) < 9))))), (10, .v (.bool false)), (11, .fl .shr 1 (List.map (Value.int .u8) b)), (12, .v (.int .i64 (b.length : Int))), (13, .v (.bool ((decide (57 < (b.length : Int)))))), (14, .v (.bool ((decide (57 < (b.length : Int))))))]) (init := [0, 1]) (fin := [0, 1, 9]) (sps := [⟨[0], [], [2], [(.slot 7)]⟩, ⟨[2], [], [3], [(.slot 8)]⟩, ⟨[3], [], [4], [(.slot 9)]⟩, ⟨[4], [], [5], [(.slot 10)]⟩, ⟨[5, 0], [], [6], [(.slot 11)]⟩, ⟨[5, 6], [], [7], [(.slot 12)]⟩, ⟨[5, 7], [], [8], [(.slot 13)]⟩, ⟨[5, 8], [], [9], [(.slot 14)]⟩]) (es' := [(_, _), (_, _), (14, .v (.bool ((decide (57 < (b.length : Int))))))]) (by kernel_rfl) rfl rfl
        ⟨st_plain rfl (op_move _ _ _ _ rfl rfl),
          st_plain rfl (op_len_fl _ _ _ Try.underlying22 rfl (by decide) (map_len _)),
          st_plain rfl (op_bin _ _ _ _ _ rfl rfl rfl),
          st_plain rfl (op_move _ _ _ _ (congrArg (fun b => AV.v (Value.bool b)) hg1_3) rfl),
          st_run 3 10 false rfl rfl rfl (List.Mem.head _) (op_move _ _ _ _ rfl rfl),
          st_run 3 10 false rfl rfl rfl (List.Mem.head _) (op_len_fl _ _ _ Try.underlying22 rfl (by decide) (map_len _)),
          st_run 3 10 false rfl rfl rfl (List.Mem.head _) (op_bin _ _ _ _ _ rfl rfl rfl),
          st_plain rfl (op_pick _ _ false _ rfl rfl),
          trivial⟩ ?_
      exact hl3 _ (Option.some.inj h).symm

set_option maxHeartbeats 1000000 in
theorem ok_wherrylaw20_wakes (r : Bool) (h : Sh.wherrylaw20_wakes  = some r) : FnOK Try.prog 23 [] (.v (.bool r)) := by
  unfold Sh.wherrylaw20_wakes at h
  refine fn_ok Try.func23 rfl (Nat.le_of_ble_eq_true rfl) rfl rfl fun g0 hn hio => ?_
  refine ht_seq ?_
  refine ht_seqR hn (El := [(0, .v (.bool false))]) (init := []) (fin := []) (sps := [⟨[], [], [0], [(.slot 0)]⟩]) (es' := []) (by kernel_rfl) rfl rfl
    ⟨st_plain rfl (op_assign _ _ _ _ rfl rfl),
      trivial⟩ ?_
  refine pt_then ?_
  refine ht_seq ?_
  refine ht_seqR hn (El := [(6, .agg [.v (.int .i64 5), .v (.int .i64 258), .v (.int .i64 0), .v (.int .i64 0), .v (.slice none 0 0)]), (1, .box 24 [.v (.int .i64 0), .v (.int .i64 0), .v (.int .i64 0), .v (.int .i64 0), .v (.slice none 0 0)]), (1, .box 24 [.v (.int .i64 5), .v (.int .i64 258), .v (.int .i64 0), .v (.int .i64 0), .v (.slice none 0 0)])]) (init := []) (fin := [2]) (sps := [⟨[], [], [0], [(.slot 6)]⟩, ⟨[], [], [1], [(.slot 1)]⟩, ⟨[0], [1], [2], [.cell 1 0, .cell 1 1, .cell 1 2, .cell 1 3, .cell 1 4]⟩]) (es' := [(1, .box 24 [.v (.int .i64 5), .v (.int .i64 258), .v (.int .i64 0), .v (.int .i64 0), .v (.slice none 0 0)])]) (by kernel_rfl) rfl rfl
    ⟨st_plain rfl (op_build _ _ _ _ [1, 1, 1, 1, 1] _ _ Try.underlying24 zr24 (fs24 _ Try.underlying24) (.copy _ (.copy _ Src.nil)) rfl rfl rfl),
      st_plain rfl (op_alloc _ _ zr24),
      st_plain rfl (op_store _ _ _ _ _ _ _ _ sz24 rfl rfl rfl rfl (Nat.le_of_ble_eq_true rfl) rfl rfl),
      trivial⟩ ?_
  refine pt_then ?_
  refine ht_seq ?_
  obtain ⟨v1, hv1, h⟩ := bind_some h
  refine ht_seqR hn (El := [_, (8, .agg [.v (.int .i64 5), .v (.int .i64 258), .v (.int .i64 0), .v (.int .i64 0), .v (.slice none 0 0)]), (9, .tup [.fl (.own 5) 1 (List.map (Value.int .u8) v1.1), .v (.int .i64 v1.2)]), (7, .tup [.fl (.own 5) 1 (List.map (Value.int .u8) v1.1), .v (.int .i64 v1.2)]), (10, .fl (.own 5) 1 (List.map (Value.int .u8) v1.1)), (7, .tup [.any, .v (.int .i64 v1.2)]), (11, .v (.int .i64 v1.2)), (2, .fl (.own 5) 1 (List.map (Value.int .u8) v1.1)), (3, .v (.int .i64 v1.2))]) (init := [0]) (fin := [0, 7, 8]) (sps := [⟨[0], [], [1], [(.slot 8)]⟩, ⟨[1], [], [2], [(.slot 9)]⟩, ⟨[], [2], [3], [(.slot 7)]⟩, ⟨[], [3], [5, 4], [(.slot 10)]⟩, ⟨[5], [], [6], [(.slot 11)]⟩, ⟨[], [4], [7], [(.slot 2)]⟩, ⟨[6], [], [8], [(.slot 3)]⟩]) (es' := [(_, _), (2, .fl (.own 5) 1 (List.map (Value.int .u8) v1.1)), (3, .v (.int .i64 v1.2))]) (by kernel_rfl) rfl rfl
    ⟨st_plain rfl (op_loadA _ _ _ _ _ _ _ Try.underlying24 rfl sz24 rfl rfl (Nat.le_of_ble_eq_true rfl) rfl rfl),
      st_plain rfl (op_call _ _ 12 _ _ rfl Try.call12 rfl ((ok_frame_Bytes (T_Frame.mk 5 258 0 0 []) _ hv1).args (subs_cons (sub_agg (subs_cons (sub_refl _) (subs_cons (sub_refl _) (subs_cons (sub_refl _) (subs_cons (sub_refl _) (subs_cons (sub_nil_shr 1) (subs_nil))))))) (subs_nil))) rfl rfl),
      st_plain rfl (op_move_take _ _ _ _ rfl),
      st_plain rfl (op_extract_take _ _ _ _ _ rfl (Nat.le_of_ble_eq_true rfl) rfl rfl (by decide) rfl),
      st_plain rfl (op_extract _ _ _ _ _ rfl rfl (Nat.le_of_ble_eq_true rfl) rfl rfl),
      st_plain rfl (op_assign_take _ _ _ _ rfl),
      st_plain rfl (op_assign _ _ _ _ rfl rfl),
      trivial⟩ ?_
  refine pt_then ?_
  refine ht_seq ?_
  obtain ⟨v2, hv2, h⟩ := bind_some h
  refine ht_seqR hn (El := [_, _, _, (13, .same (.slot 2)), (14, .tup [.agg [.v (.int .i64 v2.1.Kind), .v (.int .i64 v2.1.Number), .v (.int .i64 v2.1.Offset), .v (.int .i64 v2.1.Seq), .fl (.own 5) 1 (List.map (Value.int .u8) v2.1.Data)], .v (.int .i64 v2.2)]), (12, .tup [.agg [.v (.int .i64 v2.1.Kind), .v (.int .i64 v2.1.Number), .v (.int .i64 v2.1.Offset), .v (.int .i64 v2.1.Seq), .fl (.own 5) 1 (List.map (Value.int .u8) v2.1.Data)], .v (.int .i64 v2.2)]), (15, .agg [.v (.int .i64 v2.1.Kind), .v (.int .i64 v2.1.Number), .v (.int .i64 v2.1.Offset), .v (.int .i64 v2.1.Seq), .fl (.own 5) 1 (List.map (Value.int .u8) v2.1.Data)]), (12, .tup [.any, .v (.int .i64 v2.2)]), (16, .v (.int .i64 v2.2)), (4, .box 24 [.v (.int .i64 0), .v (.int .i64 0), .v (.int .i64 0), .v (.int .i64 0), .v (.slice none 0 0)]), (4, .box 24 [.v (.int .i64 v2.1.Kind), .v (.int .i64 v2.1.Number), .v (.int .i64 v2.1.Offset), .v (.int .i64 v2.1.Seq), .fl (.own 5) 1 (List.map (Value.int .u8) v2.1.Data)]), (5, .v (.int .i64 v2.2))]) (init := [0, 1, 2]) (fin := [0, 1, 2, 10, 11]) (sps := [⟨[1], [], [3], [(.slot 13)]⟩, ⟨[3, 1], [], [4], [(.slot 14)]⟩, ⟨[], [4], [5], [(.slot 12)]⟩, ⟨[], [5], [7, 6], [(.slot 15)]⟩, ⟨[7], [], [8], [(.slot 16)]⟩, ⟨[], [], [9], [(.slot 4)]⟩, ⟨[], [6, 9], [10], [.cell 4 0, .cell 4 1, .cell 4 2, .cell 4 3, .cell 4 4]⟩, ⟨[8], [], [11], [(.slot 5)]⟩]) (es' := [(_, _), (_, _), (_, _), (4, .box 24 [.v (.int .i64 v2.1.Kind), .v (.int .i64 v2.1.Number), .v (.int .i64 v2.1.Offset), .v (.int .i64 v2.1.Seq), .fl (.own 5) 1 (List.map (Value.int .u8) v2.1.Data)]), (5, .v (.int .i64 v2.2))]) (by kernel_rfl) rfl rfl
    ⟨st_plain rfl (op_move _ _ _ _ rfl rfl),
      st_plain rfl (op_call _ _ 13 _ _ rfl Try.call13 rfl (ok_frame_Read v1.1 _ hv2) rfl rfl),
      st_plain rfl (op_move_take _ _ _ _ rfl),
      st_plain rfl (op_extract_take _ _ _ _ _ rfl (Nat.le_of_ble_eq_true rfl) rfl rfl (by decide) rfl),
      st_plain rfl (op_extract _ _ _ _ _ rfl rfl (Nat.le_of_ble_eq_true rfl) rfl rfl),
      st_plain rfl (op_alloc _ _ zr24),
      st_plain rfl (op_store_take _ _ _ _ _ _ _ _ sz24 rfl rfl rfl (Nat.le_of_ble_eq_true rfl) rfl rfl),
      st_plain rfl (op_assign _ _ _ _ rfl rfl),
      trivial⟩ ?_
  refine pt_then ?_
  refine ht_seq ?_
  refine ht_joinS h (fun (s9 : Bool) => [(0, .v (.bool s9))]) ?_ ?_
  · rintro s9 h
    refine pt_then ?_
    refine ht_ret ?_
    obtain rfl := Option.some.inj h
    exact pt_ret hio rfl (.tmp _ _ .nil) rfl rfl
  · intro u10 h hl11 hr12
    refine cond_some h (fun hg4_2 h => ?_) (fun hg4_2 h => ?_)
    · refine cond_some h (fun hg4_6 h => ?_) (fun hg4_6 h => ?_)
      · refine cond_some h (fun hg4_11 h => ?_) (fun hg4_11 h => ?_)
        · obtain ⟨v3, hv3, h⟩ := bind_some h
          obtain ⟨v4, hv4, h⟩ := bind_some h
          refine cond_some h (fun hg4_17 h => ?_) (fun hg4_17 h => ?_)
          · obtain ⟨v5, hv5, h⟩ := bind_some h
            obtain ⟨v6, hv6, h⟩ := bind_some h
            refine cond_some h (fun hg4_23 h => ?_) (fun hg4_23 h => ?_)
            · obtain ⟨v7, hv7, h⟩ := bind_some h
              refine cond_some h (fun hg4_28 h => ?_) (fun hg4_28 h => ?_)
              · obtain ⟨v8, hv8, h⟩ := bind_some h
                refine ht_seqR hn (El := (_ :: _ :: _ :: _ :: _ :: (17, .v (.int .i64 v1.2)) :: (18, .v (.bool (v1.2 == 0))) :: (19, .v (.bool true)) :: (20, .v (.int .i64 v2.2)) :: (21, .v (.bool (v2.2 == 0))) :: (22, .v (.bool (v2.2 == 0))) :: (23, .v (.bool true)) :: (24, .same (.slot 2)) :: (25, .v (.int .i64 (v1.1.length : Int))) :: (26, .v (.bool (((v1.1.length : Int) == 9)))) :: (27, .v (.bool (((v1.1.length : Int) == 9)))) :: (28, .v (.bool true)) :: (29, .same (.slot 2)) :: (30, .eref (.slot 2) (v3 * 1)) :: (31, .v (.int .u8 v4)) :: (32, .v (.bool (v4 == 1))) :: (33, .v (.bool (v4 == 1))) :: (34, .v (.bool true)) :: (35, .fl (.own 5) 1 (List.map (Value.int .u8) v1.1)) :: (36, .eref (.slot 35) (v5 * 1)) :: (37, .v (.int .u8 v6)) :: (38, .v (.bool (v6 == 2))) :: (39, .v (.bool (v6 == 2))) :: (40, .v (.bool true)) :: (41, .agg [.v (.int .i64 v2.1.Kind), .v (.int .i64 v2.1.Number), .v (.int .i64 v2.1.Offset), .v (.int .i64 v2.1.Seq), .fl (.own 5) 1 (List.map (Value.int .u8) v2.1.Data)]) :: (42, .agg [.v (.int .i64 5), .v (.int .i64 258), .v (.int .i64 0), .v (.int .i64 0), .v (.slice none 0 0)]) :: (43, .v (.bool v7)) :: (44, .v (.bool v7)) :: (45, .v (.bool true)) :: (46, .agg [.v (.int .i64 0), .v (.int .i64 0), .v (.int .i64 0), .v (.int .i64 0), .v (.slice none 0 0)]) :: (47, .v (.int .i64 v8)) :: (48, .v (.bool (v8 == 1))) :: (49, .v (.bool (v8 == 1))) :: (0, .v (.bool (v8 == 1))) :: [])) (init := [0, 1, 2, 3, 4]) (fin := [38]) (sps := (⟨[2], [], [5], [(.slot 17)]⟩ :: ⟨[5], [], [6], [(.slot 18)]⟩ :: ⟨[6], [], [7], [(.slot 19)]⟩ :: ⟨[7, 4], [], [8], [(.slot 20)]⟩ :: ⟨[7, 8], [], [9], [(.slot 21)]⟩ :: ⟨[7, 9], [], [10], [(.slot 22)]⟩ :: ⟨[10], [], [11], [(.slot 23)]⟩ :: ⟨[11, 1], [], [12], [(.slot 24)]⟩ :: ⟨[11, 12, 1], [], [13], [(.slot 25)]⟩ :: ⟨[11, 13], [], [14], [(.slot 26)]⟩ :: ⟨[11, 14], [], [15], [(.slot 27)]⟩ :: ⟨[15], [], [16], [(.slot 28)]⟩ :: ⟨[16, 1], [], [17], [(.slot 29)]⟩ :: ⟨[16, 17, 1], [], [18], [(.slot 30)]⟩ :: ⟨[16, 18, 1], [], [19], [(.slot 31)]⟩ :: ⟨[16, 19], [], [20], [(.slot 32)]⟩ :: ⟨[16, 20], [], [21], [(.slot 33)]⟩ :: ⟨[21], [], [22], [(.slot 34)]⟩ :: ⟨[22], [12, 17, 18, 1], [23], [(.slot 35)]⟩ :: ⟨[22, 23], [], [24], [(.slot 36)]⟩ :: ⟨[22, 24, 23], [], [25], [(.slot 37)]⟩ :: ⟨[22, 25], [], [26], [(.slot 38)]⟩ :: ⟨[22, 26], [], [27], [(.slot 39)]⟩ :: ⟨[27], [], [28], [(.slot 40)]⟩ :: ⟨[28], [3], [29], [(.slot 41)]⟩ :: ⟨[28, 0], [], [30], [(.slot 42)]⟩ :: ⟨[28, 29, 30], [], [31], [(.slot 43)]⟩ :: ⟨[28, 31], [], [32], [(.slot 44)]⟩ :: ⟨[32], [], [33], [(.slot 45)]⟩ :: ⟨[33], [], [34], [(.slot 46)]⟩ :: ⟨[33, 34], [], [35], [(.slot 47)]⟩ :: ⟨[33, 35], [], [36], [(.slot 48)]⟩ :: ⟨[33, 36], [], [37], [(.slot 49)]⟩ :: ⟨[37], [], [38], [(.slot 0)]⟩ :: [])) (es' := [(0, .v (.bool (v8 == 1)))]) (by kernel_rfl) rfl rfl
                  ⟨st_plain rfl (op_move _ _ _ _ rfl rfl),
                    st_plain rfl (op_bin _ _ _ _ _ rfl rfl rfl),
                    st_plain rfl (op_move _ _ _ _ (congrArg (fun b => AV.v (Value.bool b)) hg4_2) rfl),
                    st_run 2 19 true rfl rfl rfl (List.Mem.head _) (op_move _ _ _ _ rfl rfl),
                    st_run 2 19 true rfl rfl rfl (List.Mem.head _) (op_bin _ _ _ _ _ rfl rfl rfl),
                    st_plain rfl (op_pick _ _ true _ rfl rfl),
                    st_plain rfl (op_move _ _ _ _ (congrArg (fun b => AV.v (Value.bool b)) hg4_6) rfl),
                    st_run 6 23 true rfl rfl rfl (List.Mem.head _) (op_move _ _ _ _ rfl rfl),
                    st_run 6 23 true rfl rfl rfl (List.Mem.head _) (op_len_fl _ _ _ Try.underlying22 rfl (by decide) (map_len _)),
                    st_run 6 23 true rfl rfl rfl (List.Mem.head _) (op_bin _ _ _ _ _ rfl rfl rfl),
                    st_plain rfl (op_pick _ _ true _ rfl rfl),
                    st_plain rfl (op_move _ _ _ _ (congrArg (fun b => AV.v (Value.bool b)) hg4_11) rfl),
                    st_run 11 28 true rfl rfl rfl (List.Mem.head _) (op_move _ _ _ _ rfl rfl),
                    st_run 11 28 true rfl rfl rfl (List.Mem.head _) (op_ix _ _ _ _ _ _ _ _ Try.underlying22 sz5 (by decide) rfl rfl rfl (ix_ok hv3).1 (map_lt (ix_ok hv3).2) rfl),
                    st_run 11 28 true rfl rfl rfl (List.Mem.head _) (op_load_e _ _ _ _ _ _ Try.underlying5 rfl rfl rfl (map_get hv4)),
                    st_run 11 28 true rfl rfl rfl (List.Mem.head _) (op_bin _ _ _ _ _ rfl rfl rfl),
                    st_plain rfl (op_pick _ _ true _ rfl rfl),
                    st_plain rfl (op_move _ _ _ _ (congrArg (fun b => AV.v (Value.bool b)) hg4_17) rfl),
                    st_run 17 34 true rfl rfl rfl (List.Mem.head _) (LOp.drop [_] (LOp.drop [_] (LOp.drop [_] (op_move_take _ _ _ _ rfl)))),
                    st_run 17 34 true rfl rfl rfl (List.Mem.head _) (op_ix _ _ _ _ _ _ _ _ Try.underlying22 sz5 (by decide) rfl rfl rfl (ix_ok hv5).1 (map_lt (ix_ok hv5).2) rfl),
                    st_run 17 34 true rfl rfl rfl (List.Mem.head _) (op_load_e _ _ _ _ _ _ Try.underlying5 rfl rfl rfl (map_get hv6)),
                    st_run 17 34 true rfl rfl rfl (List.Mem.head _) (op_bin _ _ _ _ _ rfl rfl rfl),
                    st_plain rfl (op_pick _ _ true _ rfl rfl),
                    st_plain rfl (op_move _ _ _ _ (congrArg (fun b => AV.v (Value.bool b)) hg4_23) rfl),
                    st_run 23 40 true rfl rfl rfl (List.Mem.head _) (op_loadA_take _ _ _ _ Try.underlying24 rfl sz24 rfl rfl),
                    st_run 23 40 true rfl rfl rfl (List.Mem.head _) (op_loadA _ _ _ _ _ _ _ Try.underlying24 rfl sz24 rfl rfl (Nat.le_of_ble_eq_true rfl) rfl rfl),
                    st_run 23 40 true rfl rfl rfl (List.Mem.head _) (op_call _ _ 19 _ _ rfl Try.call19 rfl ((ok_wherrykeep_Frame v2.1 (T_Frame.mk 5 258 0 0 []) _ hv7).args (subs_cons (sub_refl _) (subs_cons (sub_agg (subs_cons (sub_refl _) (subs_cons (sub_refl _) (subs_cons (sub_refl _) (subs_cons (sub_refl _) (subs_cons (sub_nil_shr 1) (subs_nil))))))) (subs_nil)))) rfl rfl),
                    st_plain rfl (op_pick _ _ true _ rfl rfl),
                    st_plain rfl (op_move _ _ _ _ (congrArg (fun b => AV.v (Value.bool b)) hg4_28) rfl),
                    st_run 28 45 true rfl rfl rfl (List.Mem.head _) (op_build _ _ _ _ [1, 1, 1, 1, 1] _ _ Try.underlying24 zr24 (fs24 _ Try.underlying24) Src.nil rfl rfl rfl),
                    st_run 28 45 true rfl rfl rfl (List.Mem.head _) (op_call _ _ 16 _ _ rfl Try.call16 rfl ((ok_frame_Check (T_Frame.mk 0 0 0 0 []) _ hv8).args (subs_cons (sub_agg (subs_cons (sub_refl _) (subs_cons (sub_refl _) (subs_cons (sub_refl _) (subs_cons (sub_refl _) (subs_cons (sub_nil_shr 1) (subs_nil))))))) (subs_nil))) rfl rfl),
                    st_run 28 45 true rfl rfl rfl (List.Mem.head _) (op_bin _ _ _ _ _ rfl rfl rfl),
                    st_plain rfl (op_pick _ _ true _ rfl rfl),
                    st_plain rfl (op_assign _ _ _ _ rfl rfl),
                    trivial⟩ ?_
                exact hl11 _ (Option.some.inj h).symm
              · refine ht_seqR hn (El := (_ :: _ :: _ :: _ :: _ :: (17, .v (.int .i64 v1.2)) :: (18, .v (.bool (v1.2 == 0))) :: (19, .v (.bool true)) :: (20, .v (.int .i64 v2.2)) :: (21, .v (.bool (v2.2 == 0))) :: (22, .v (.bool (v2.2 == 0))) :: (23, .v (.bool true)) :: (24, .same (.slot 2)) :: (25, .v (.int .i64 (v1.1.length : Int))) :: (26, .v (.bool (((v1.1.length : Int) == 9)))) :: (27, .v (.bool (((v1.1.length : Int) == 9)))) :: (28, .v (.bool true)) :: (29, .same (.slot 2)) :: (30, .eref (.slot 2) (v3 * 1)) :: (31, .v (.int .u8 v4)) :: (32, .v (.bool (v4 == 1))) :: (33, .v (.bool (v4 == 1))) :: (34, .v (.bool true)) :: (35, .fl (.own 5) 1 (List.map (Value.int .u8) v1.1)) :: (36, .eref (.slot 35) (v5 * 1)) :: (37, .v (.int .u8 v6)) :: (38, .v (.bool (v6 == 2))) :: (39, .v (.bool (v6 == 2))) :: (40, .v (.bool true)) :: (41, .agg [.v (.int .i64 v2.1.Kind), .v (.int .i64 v2.1.Number), .v (.int .i64 v2.1.Offset), .v (.int .i64 v2.1.Seq), .fl (.own 5) 1 (List.map (Value.int .u8) v2.1.Data)]) :: (42, .agg [.v (.int .i64 5), .v (.int .i64 258), .v (.int .i64 0), .v (.int .i64 0), .v (.slice none 0 0)]) :: (43, .v (.bool v7)) :: (44, .v (.bool v7)) :: (45, .v (.bool false)) :: (46, .v undef) :: (47, .v undef) :: (48, .v undef) :: (49, .v (.bool false)) :: (0, .v (.bool false)) :: [])) (init := [0, 1, 2, 3, 4]) (fin := [38]) (sps := (⟨[2], [], [5], [(.slot 17)]⟩ :: ⟨[5], [], [6], [(.slot 18)]⟩ :: ⟨[6], [], [7], [(.slot 19)]⟩ :: ⟨[7, 4], [], [8], [(.slot 20)]⟩ :: ⟨[7, 8], [], [9], [(.slot 21)]⟩ :: ⟨[7, 9], [], [10], [(.slot 22)]⟩ :: ⟨[10], [], [11], [(.slot 23)]⟩ :: ⟨[11, 1], [], [12], [(.slot 24)]⟩ :: ⟨[11, 12, 1], [], [13], [(.slot 25)]⟩ :: ⟨[11, 13], [], [14], [(.slot 26)]⟩ :: ⟨[11, 14], [], [15], [(.slot 27)]⟩ :: ⟨[15], [], [16], [(.slot 28)]⟩ :: ⟨[16, 1], [], [17], [(.slot 29)]⟩ :: ⟨[16, 17, 1], [], [18], [(.slot 30)]⟩ :: ⟨[16, 18, 1], [], [19], [(.slot 31)]⟩ :: ⟨[16, 19], [], [20], [(.slot 32)]⟩ :: ⟨[16, 20], [], [21], [(.slot 33)]⟩ :: ⟨[21], [], [22], [(.slot 34)]⟩ :: ⟨[22], [12, 17, 18, 1], [23], [(.slot 35)]⟩ :: ⟨[22, 23], [], [24], [(.slot 36)]⟩ :: ⟨[22, 24, 23], [], [25], [(.slot 37)]⟩ :: ⟨[22, 25], [], [26], [(.slot 38)]⟩ :: ⟨[22, 26], [], [27], [(.slot 39)]⟩ :: ⟨[27], [], [28], [(.slot 40)]⟩ :: ⟨[28], [3], [29], [(.slot 41)]⟩ :: ⟨[28, 0], [], [30], [(.slot 42)]⟩ :: ⟨[28, 29, 30], [], [31], [(.slot 43)]⟩ :: ⟨[28, 31], [], [32], [(.slot 44)]⟩ :: ⟨[32], [], [33], [(.slot 45)]⟩ :: ⟨[33], [], [34], [(.slot 46)]⟩ :: ⟨[33], [], [35], [(.slot 47)]⟩ :: ⟨[33], [], [36], [(.slot 48)]⟩ :: ⟨[33], [], [37], [(.slot 49)]⟩ :: ⟨[37], [], [38], [(.slot 0)]⟩ :: [])) (es' := [(0, .v (.bool false))]) (by kernel_rfl) rfl rfl
                  ⟨st_plain rfl (op_move _ _ _ _ rfl rfl),
                    st_plain rfl (op_bin _ _ _ _ _ rfl rfl rfl),
                    st_plain rfl (op_move _ _ _ _ (congrArg (fun b => AV.v (Value.bool b)) hg4_2) rfl),
                    st_run 2 19 true rfl rfl rfl (List.Mem.head _) (op_move _ _ _ _ rfl rfl),
                    st_run 2 19 true rfl rfl rfl (List.Mem.head _) (op_bin _ _ _ _ _ rfl rfl rfl),
                    st_plain rfl (op_pick _ _ true _ rfl rfl),
                    st_plain rfl (op_move _ _ _ _ (congrArg (fun b => AV.v (Value.bool b)) hg4_6) rfl),
                    st_run 6 23 true rfl rfl rfl (List.Mem.head _) (op_move _ _ _ _ rfl rfl),
                    st_run 6 23 true rfl rfl rfl (List.Mem.head _) (op_len_fl _ _ _ Try.underlying22 rfl (by decide) (map_len _)),
                    st_run 6 23 true rfl rfl rfl (List.Mem.head _) (op_bin _ _ _ _ _ rfl rfl rfl),
                    st_plain rfl (op_pick _ _ true _ rfl rfl),
                    st_plain rfl (op_move _ _ _ _ (congrArg (fun b => AV.v (Value.bool b)) hg4_11) rfl),
                    st_run 11 28 true rfl rfl rfl (List.Mem.head _) (op_move _ _ _ _ rfl rfl),
                    st_run 11 28 true rfl rfl rfl (List.Mem.head _) (op_ix _ _ _ _ _ _ _ _ Try.underlying22 sz5 (by decide) rfl rfl rfl (ix_ok hv3).1 (map_lt (ix_ok hv3).2) rfl),
                    st_run 11 28 true rfl rfl rfl (List.Mem.head _) (op_load_e _ _ _ _ _ _ Try.underlying5 rfl rfl rfl (map_get hv4)),
                    st_run 11 28 true rfl rfl rfl (List.Mem.head _) (op_bin _ _ _ _ _ rfl rfl rfl),
                    st_plain rfl (op_pick _ _ true _ rfl rfl),
                    st_plain rfl (op_move _ _ _ _ (congrArg (fun b => AV.v (Value.bool b)) hg4_17) rfl),
                    st_run 17 34 true rfl rfl rfl (List.Mem.head _) (LOp.drop [_] (LOp.drop [_] (LOp.drop [_] (op_move_take _ _ _ _ rfl)))),
                    st_run 17 34 true rfl rfl rfl (List.Mem.head _) (op_ix _ _ _ _ _ _ _ _ Try.underlying22 sz5 (by decide) rfl rfl rfl (ix_ok hv5).1 (map_lt (ix_ok hv5).2) rfl),
                    st_run 17 34 true rfl rfl rfl (List.Mem.head _) (op_load_e _ _ _ _ _ _ Try.underlying5 rfl rfl rfl (map_get hv6)),
                    st_run 17 34 true rfl rfl rfl (List.Mem.head _) (op_bin _ _ _ _ _ rfl rfl rfl),
                    st_plain rfl (op_pick _ _ true _ rfl rfl),
                    st_plain rfl (op_move _ _ _ _ (congrArg (fun b => AV.v (Value.bool b)) hg4_23) rfl),
                    st_run 23 40 true rfl rfl rfl (List.Mem.head _) (op_loadA_take _ _ _ _ Try.underlying24 rfl sz24 rfl rfl),
                    st_run 23 40 true rfl rfl rfl (List.Mem.head _) (op_loadA _ _ _ _ _ _ _ Try.underlying24 rfl sz24 rfl rfl (Nat.le_of_ble_eq_true rfl) rfl rfl),
                    st_run 23 40 true rfl rfl rfl (List.Mem.head _) (op_call _ _ 19 _ _ rfl Try.call19 rfl ((ok_wherrykeep_Frame v2.1 (T_Frame.mk 5 258 0 0 []) _ hv7).args (subs_cons (sub_refl _) (subs_cons (sub_agg (subs_cons (sub_refl _) (subs_cons (sub_refl _) (subs_cons (sub_refl _) (subs_cons (sub_refl _) (subs_cons (sub_nil_shr 1) (subs_nil))))))) (subs_nil)))) rfl rfl),
                    st_plain rfl (op_pick _ _ true _ rfl rfl),
                    st_plain rfl (op_move _ _ _ _ (congrArg (fun b => AV.v (Value.bool b)) hg4_28) rfl),
                    st_skip 28 45 _ true rfl rfl rfl rfl (List.Mem.head _),
                    st_skip 28 45 _ true rfl rfl rfl rfl (List.Mem.head _),
                    st_skip 28 45 _ true rfl rfl rfl rfl (List.Mem.head _),
                    st_plain rfl (op_pick _ _ false _ rfl rfl),
                    st_plain rfl (op_assign _ _ _ _ rfl rfl),
                    trivial⟩ ?_
                exact hl11 _ (Option.some.inj h).symm
            · refine ht_seqR hn (El := (_ :: _ :: _ :: _ :: _ :: (17, .v (.int .i64 v1.2)) :: (18, .v (.bool (v1.2 == 0))) :: (19, .v (.bool true)) :: (20, .v (.int .i64 v2.2)) :: (21, .v (.bool (v2.2 == 0))) :: (22, .v (.bool (v2.2 == 0))) :: (23, .v (.bool true)) :: (24, .same (.slot 2)) :: (25, .v (.int .i64 (v1.1.length : Int))) :: (26, .v (.bool (((v1.1.length : Int) == 9)))) :: (27, .v (.bool (((v1.1.length : Int) == 9)))) :: (28, .v (.bool true)) :: (29, .same (.slot 2)) :: (30, .eref (.slot 2) (v3 * 1)) :: (31, .v (.int .u8 v4)) :: (32, .v (.bool (v4 == 1))) :: (33, .v (.bool (v4 == 1))) :: (34, .v (.bool true)) :: (35, .fl (.own 5) 1 (List.map (Value.int .u8) v1.1)) :: (36, .eref (.slot 35) (v5 * 1)) :: (37, .v (.int .u8 v6)) :: (38, .v (.bool (v6 == 2))) :: (39, .v (.bool (v6 == 2))) :: (40, .v (.bool false)) :: (41, .v undef) :: (42, .v undef) :: (43, .v undef) :: (44, .v (.bool false)) :: (45, .v (.bool false)) :: (46, .v undef) :: (47, .v undef) :: (48, .v undef) :: (49, .v (.bool false)) :: (0, .v (.bool false)) :: [])) (init := [0, 1, 2, 3, 4]) (fin := [38]) (sps := (⟨[2], [], [5], [(.slot 17)]⟩ :: ⟨[5], [], [6], [(.slot 18)]⟩ :: ⟨[6], [], [7], [(.slot 19)]⟩ :: ⟨[7, 4], [], [8], [(.slot 20)]⟩ :: ⟨[7, 8], [], [9], [(.slot 21)]⟩ :: ⟨[7, 9], [], [10], [(.slot 22)]⟩ :: ⟨[10], [], [11], [(.slot 23)]⟩ :: ⟨[11, 1], [], [12], [(.slot 24)]⟩ :: ⟨[11, 12, 1], [], [13], [(.slot 25)]⟩ :: ⟨[11, 13], [], [14], [(.slot 26)]⟩ :: ⟨[11, 14], [], [15], [(.slot 27)]⟩ :: ⟨[15], [], [16], [(.slot 28)]⟩ :: ⟨[16, 1], [], [17], [(.slot 29)]⟩ :: ⟨[16, 17, 1], [], [18], [(.slot 30)]⟩ :: ⟨[16, 18, 1], [], [19], [(.slot 31)]⟩ :: ⟨[16, 19], [], [20], [(.slot 32)]⟩ :: ⟨[16, 20], [], [21], [(.slot 33)]⟩ :: ⟨[21], [], [22], [(.slot 34)]⟩ :: ⟨[22], [12, 17, 18, 1], [23], [(.slot 35)]⟩ :: ⟨[22, 23], [], [24], [(.slot 36)]⟩ :: ⟨[22, 24, 23], [], [25], [(.slot 37)]⟩ :: ⟨[22, 25], [], [26], [(.slot 38)]⟩ :: ⟨[22, 26], [], [27], [(.slot 39)]⟩ :: ⟨[27], [], [28], [(.slot 40)]⟩ :: ⟨[28], [], [29], [(.slot 41)]⟩ :: ⟨[28], [], [30], [(.slot 42)]⟩ :: ⟨[28], [], [31], [(.slot 43)]⟩ :: ⟨[28], [], [32], [(.slot 44)]⟩ :: ⟨[32], [], [33], [(.slot 45)]⟩ :: ⟨[33], [], [34], [(.slot 46)]⟩ :: ⟨[33], [], [35], [(.slot 47)]⟩ :: ⟨[33], [], [36], [(.slot 48)]⟩ :: ⟨[33], [], [37], [(.slot 49)]⟩ :: ⟨[37], [], [38], [(.slot 0)]⟩ :: [])) (es' := [(0, .v (.bool false))]) (by kernel_rfl) rfl rfl
                ⟨st_plain rfl (op_move _ _ _ _ rfl rfl),
                  st_plain rfl (op_bin _ _ _ _ _ rfl rfl rfl),
                  st_plain rfl (op_move _ _ _ _ (congrArg (fun b => AV.v (Value.bool b)) hg4_2) rfl),
                  st_run 2 19 true rfl rfl rfl (List.Mem.head _) (op_move _ _ _ _ rfl rfl),
                  st_run 2 19 true rfl rfl rfl (List.Mem.head _) (op_bin _ _ _ _ _ rfl rfl rfl),
                  st_plain rfl (op_pick _ _ true _ rfl rfl),
                  st_plain rfl (op_move _ _ _ _ (congrArg (fun b => AV.v (Value.bool b)) hg4_6) rfl),
                  st_run 6 23 true rfl rfl rfl (List.Mem.head _) (op_move _ _ _ _ rfl rfl),
                  st_run 6 23 true rfl rfl rfl (List.Mem.head _) (op_len_fl _ _ _ Try.underlying22 rfl (by decide) (map_len _)),
                  st_run 6 23 true rfl rfl rfl (List.Mem.head _) (op_bin _ _ _ _ _ rfl rfl rfl),
                  st_plain rfl (op_pick _ _ true _ rfl rfl),
                  st_plain rfl (op_move _ _ _ _ (congrArg (fun b => AV.v (Value.bool b)) hg4_11) rfl),
                  st_run 11 28 true rfl rfl rfl (List.Mem.head _) (op_move _ _ _ _ rfl rfl),
                  st_run 11 28 true rfl rfl rfl (List.Mem.head _) (op_ix _ _ _ _ _ _ _ _ Try.underlying22 sz5 (by decide) rfl rfl rfl (ix_ok hv3).1 (map_lt (ix_ok hv3).2) rfl),
                  st_run 11 28 true rfl rfl rfl (List.Mem.head _) (op_load_e _ _ _ _ _ _ Try.underlying5 rfl rfl rfl (map_get hv4)),
                  st_run 11 28 true rfl rfl rfl (List.Mem.head _) (op_bin _ _ _ _ _ rfl rfl rfl),
                  st_plain rfl (op_pick _ _ true _ rfl rfl),
                  st_plain rfl (op_move _ _ _ _ (congrArg (fun b => AV.v (Value.bool b)) hg4_17) rfl),
                  st_run 17 34 true rfl rfl rfl (List.Mem.head _) (LOp.drop [_] (LOp.drop [_] (LOp.drop [_] (op_move_take _ _ _ _ rfl)))),
                  st_run 17 34 true rfl rfl rfl (List.Mem.head _) (op_ix _ _ _ _ _ _ _ _ Try.underlying22 sz5 (by decide) rfl rfl rfl (ix_ok hv5).1 (map_lt (ix_ok hv5).2) rfl),
                  st_run 17 34 true rfl rfl rfl (List.Mem.head _) (op_load_e _ _ _ _ _ _ Try.underlying5 rfl rfl rfl (map_get hv6)),
                  st_run 17 34 true rfl rfl rfl (List.Mem.head _) (op_bin _ _ _ _ _ rfl rfl rfl),
                  st_plain rfl (op_pick _ _ true _ rfl rfl),
                  st_plain rfl (op_move _ _ _ _ (congrArg (fun b => AV.v (Value.bool b)) hg4_23) rfl),
                  st_skip 23 40 _ true rfl rfl rfl rfl (List.Mem.head _),
                  st_skip 23 40 _ true rfl rfl rfl rfl (List.Mem.head _),
                  st_skip 23 40 _ true rfl rfl rfl rfl (List.Mem.head _),
                  st_plain rfl (op_pick _ _ false _ rfl rfl),
                  st_plain rfl (op_move _ _ _ _ rfl rfl),
                  st_skip 28 45 _ true rfl rfl rfl rfl (List.Mem.head _),
                  st_skip 28 45 _ true rfl rfl rfl rfl (List.Mem.head _),
                  st_skip 28 45 _ true rfl rfl rfl rfl (List.Mem.head _),
                  st_plain rfl (op_pick _ _ false _ rfl rfl),
                  st_plain rfl (op_assign _ _ _ _ rfl rfl),
                  trivial⟩ ?_
              exact hl11 _ (Option.some.inj h).symm
          · refine ht_seqR hn (El := (_ :: _ :: _ :: _ :: _ :: (17, .v (.int .i64 v1.2)) :: (18, .v (.bool (v1.2 == 0))) :: (19, .v (.bool true)) :: (20, .v (.int .i64 v2.2)) :: (21, .v (.bool (v2.2 == 0))) :: (22, .v (.bool (v2.2 == 0))) :: (23, .v (.bool true)) :: (24, .same (.slot 2)) :: (25, .v (.int .i64 (v1.1.length : Int))) :: (26, .v (.bool (((v1.1.length : Int) == 9)))) :: (27, .v (.bool (((v1.1.length : Int) == 9)))) :: (28, .v (.bool true)) :: (29, .same (.slot 2)) :: (30, .eref (.slot 2) (v3 * 1)) :: (31, .v (.int .u8 v4)) :: (32, .v (.bool (v4 == 1))) :: (33, .v (.bool (v4 == 1))) :: (34, .v (.bool false)) :: (35, .v undef) :: (36, .v undef) :: (37, .v undef) :: (38, .v undef) :: (39, .v (.bool false)) :: (40, .v (.bool false)) :: (41, .v undef) :: (42, .v undef) :: (43, .v undef) :: (44, .v (.bool false)) :: (45, .v (.bool false)) :: (46, .v undef) :: (47, .v undef) :: (48, .v undef) :: (49, .v (.bool false)) :: (0, .v (.bool false)) :: [])) (init := [0, 1, 2, 3, 4]) (fin := [38]) (sps := (⟨[2], [], [5], [(.slot 17)]⟩ :: ⟨[5], [], [6], [(.slot 18)]⟩ :: ⟨[6], [], [7], [(.slot 19)]⟩ :: ⟨[7, 4], [], [8], [(.slot 20)]⟩ :: ⟨[7, 8], [], [9], [(.slot 21)]⟩ :: ⟨[7, 9], [], [10], [(.slot 22)]⟩ :: ⟨[10], [], [11], [(.slot 23)]⟩ :: ⟨[11, 1], [], [12], [(.slot 24)]⟩ :: ⟨[11, 12, 1], [], [13], [(.slot 25)]⟩ :: ⟨[11, 13], [], [14], [(.slot 26)]⟩ :: ⟨[11, 14], [], [15], [(.slot 27)]⟩ :: ⟨[15], [], [16], [(.slot 28)]⟩ :: ⟨[16, 1], [], [17], [(.slot 29)]⟩ :: ⟨[16, 17, 1], [], [18], [(.slot 30)]⟩ :: ⟨[16, 18, 1], [], [19], [(.slot 31)]⟩ :: ⟨[16, 19], [], [20], [(.slot 32)]⟩ :: ⟨[16, 20], [], [21], [(.slot 33)]⟩ :: ⟨[21], [], [22], [(.slot 34)]⟩ :: ⟨[22], [], [23], [(.slot 35)]⟩ :: ⟨[22], [], [24], [(.slot 36)]⟩ :: ⟨[22], [], [25], [(.slot 37)]⟩ :: ⟨[22], [], [26], [(.slot 38)]⟩ :: ⟨[22], [], [27], [(.slot 39)]⟩ :: ⟨[27], [], [28], [(.slot 40)]⟩ :: ⟨[28], [], [29], [(.slot 41)]⟩ :: ⟨[28], [], [30], [(.slot 42)]⟩ :: ⟨[28], [], [31], [(.slot 43)]⟩ :: ⟨[28], [], [32], [(.slot 44)]⟩ :: ⟨[32], [], [33], [(.slot 45)]⟩ :: ⟨[33], [], [34], [(.slot 46)]⟩ :: ⟨[33], [], [35], [(.slot 47)]⟩ :: ⟨[33], [], [36], [(.slot 48)]⟩ :: ⟨[33], [], [37], [(.slot 49)]⟩ :: ⟨[37], [], [38], [(.slot 0)]⟩ :: [])) (es' := [(0, .v (.bool false))]) (by kernel_rfl) rfl rfl
              ⟨st_plain rfl (op_move _ _ _ _ rfl rfl),
                st_plain rfl (op_bin _ _ _ _ _ rfl rfl rfl),
                st_plain rfl (op_move _ _ _ _ (congrArg (fun b => AV.v (Value.bool b)) hg4_2) rfl),
                st_run 2 19 true rfl rfl rfl (List.Mem.head _) (op_move _ _ _ _ rfl rfl),
                st_run 2 19 true rfl rfl rfl (List.Mem.head _) (op_bin _ _ _ _ _ rfl rfl rfl),
                st_plain rfl (op_pick _ _ true _ rfl rfl),
                st_plain rfl (op_move _ _ _ _ (congrArg (fun b => AV.v (Value.bool b)) hg4_6) rfl),
                st_run 6 23 true rfl rfl rfl (List.Mem.head _) (op_move _ _ _ _ rfl rfl),
                st_run 6 23 true rfl rfl rfl (List.Mem.head _) (op_len_fl _ _ _ Try.underlying22 rfl (by decide) (map_len _)),
                st_run 6 23 true rfl rfl rfl (List.Mem.head _) (op_bin _ _ _ _ _ rfl rfl rfl),
                st_plain rfl (op_pick _ _ true _ rfl rfl),
                st_plain rfl (op_move _ _ _ _ (congrArg (fun b => AV.v (Value.bool b)) hg4_11) rfl),
                st_run 11 28 true rfl rfl rfl (List.Mem.head _) (op_move _ _ _ _ rfl rfl),
                st_run 11 28 true rfl rfl rfl (List.Mem.head _) (op_ix _ _ _ _ _ _ _ _ Try.underlying22 sz5 (by decide) rfl rfl rfl (ix_ok hv3).1 (map_lt (ix_ok hv3).2) rfl),
                st_run 11 28 true rfl rfl rfl (List.Mem.head _) (op_load_e _ _ _ _ _ _ Try.underlying5 rfl rfl rfl (map_get hv4)),
                st_run 11 28 true rfl rfl rfl (List.Mem.head _) (op_bin _ _ _ _ _ rfl rfl rfl),
                st_plain rfl (op_pick _ _ true _ rfl rfl),
                st_plain rfl (op_move _ _ _ _ (congrArg (fun b => AV.v (Value.bool b)) hg4_17) rfl),
                st_skip 17 34 _ true rfl rfl rfl rfl (List.Mem.head _),
                st_skip 17 34 _ true rfl rfl rfl rfl (List.Mem.head _),
                st_skip 17 34 _ true rfl rfl rfl rfl (List.Mem.head _),
                st_skip 17 34 _ true rfl rfl rfl rfl (List.Mem.head _),
                st_plain rfl (op_pick _ _ false _ rfl rfl),
                st_plain rfl (op_move _ _ _ _ rfl rfl),
                st_skip 23 40 _ true rfl rfl rfl rfl (List.Mem.head _),
                st_skip 23 40 _ true rfl rfl rfl rfl (List.Mem.head _),
                st_skip 23 40 _ true rfl rfl rfl rfl (List.Mem.head _),
                st_plain rfl (op_pick _ _ false _ rfl rfl),
                st_plain rfl (op_move _ _ _ _ rfl rfl),
                st_skip 28 45 _ true rfl rfl rfl rfl (List.Mem.head _),
                st_skip 28 45 _ true rfl rfl rfl rfl (List.Mem.head _),
                st_skip 28 45 _ true rfl rfl rfl rfl (List.Mem.head _),
                st_plain rfl (op_pick _ _ false _ rfl rfl),
                st_plain rfl (op_assign _ _ _ _ rfl rfl),
                trivial⟩ ?_
            exact hl11 _ (Option.some.inj h).symm
        · refine ht_seqR hn (El := (_ :: _ :: _ :: _ :: _ :: (17, .v (.int .i64 v1.2)) :: (18, .v (.bool (v1.2 == 0))) :: (19, .v (.bool true)) :: (20, .v (.int .i64 v2.2)) :: (21, .v (.bool (v2.2 == 0))) :: (22, .v (.bool (v2.2 == 0))) :: (23, .v (.bool true)) :: (24, .same (.slot 2)) :: (25, .v (.int .i64 (v1.1.length : Int))) :: (26, .v (.bool (((v1.1.length : Int) == 9)))) :: (27, .v (.bool (((v1.1.length : Int) == 9)))) :: (28, .v (.bool false)) :: (29, .v undef) :: (30, .v undef) :: (31, .v undef) :: (32, .v undef) :: (33, .v (.bool false)) :: (34, .v (.bool false)) :: (35, .v undef) :: (36, .v undef) :: (37, .v undef) :: (38, .v undef) :: (39, .v (.bool false)) :: (40, .v (.bool false)) :: (41, .v undef) :: (42, .v undef) :: (43, .v undef) :: (44, .v (.bool false)) :: (45, .v (.bool false)) :: (46, .v undef) :: (47, .v undef) :: (48, .v undef) :: (49, .v (.bool false)) :: (0, .v (.bool false)) :: [])) (init := [0, 1, 2, 3, 4]) (fin := [38]) (sps := (⟨[2], [], [5], [(.slot 17)]⟩ :: ⟨[5], [], [6], [(.slot 18)]⟩ :: ⟨[6], [], [7], [(.slot 19)]⟩ :: ⟨[7, 4], [], [8], [(.slot 20)]⟩ :: ⟨[7, 8], [], [9], [(.slot 21)]⟩ :: ⟨[7, 9], [], [10], [(.slot 22)]⟩ :: ⟨[10], [], [11], [(.slot 23)]⟩ :: ⟨[11, 1], [], [12], [(.slot 24)]⟩ :: ⟨[11, 12, 1], [], [13], [(.slot 25)]⟩ :: ⟨[11, 13], [], [14], [(.slot 26)]⟩ :: ⟨[11, 14], [], [15], [(.slot 27)]⟩ :: ⟨[15], [], [16], [(.slot 28)]⟩ :: ⟨[16], [], [17], [(.slot 29)]⟩ :: ⟨[16], [], [18], [(.slot 30)]⟩ :: ⟨[16], [], [19], [(.slot 31)]⟩ :: ⟨[16], [], [20], [(.slot 32)]⟩ :: ⟨[16], [], [21], [(.slot 33)]⟩ :: ⟨[21], [], [22], [(.slot 34)]⟩ :: ⟨[22], [], [23], [(.slot 35)]⟩ :: ⟨[22], [], [24], [(.slot 36)]⟩ :: ⟨[22], [], [25], [(.slot 37)]⟩ :: ⟨[22], [], [26], [(.slot 38)]⟩ :: ⟨[22], [], [27], [(.slot 39)]⟩ :: ⟨[27], [], [28], [(.slot 40)]⟩ :: ⟨[28], [], [29], [(.slot 41)]⟩ :: ⟨[28], [], [30], [(.slot 42)]⟩ :: ⟨[28], [], [31], [(.slot 43)]⟩ :: ⟨[28], [], [32], [(.slot 44)]⟩ :: ⟨[32], [], [33], [(.slot 45)]⟩ :: ⟨[33], [], [34], [(.slot 46)]⟩ :: ⟨[33], [], [35], [(.slot 47)]⟩ :: ⟨[33], [], [36], [(.slot 48)]⟩ :: ⟨[33], [], [37], [(.slot 49)]⟩ :: ⟨[37], [], [38], [(.slot 0)]⟩ :: [])) (es' := [(0, .v (.bool false))]) (by kernel_rfl) rfl rfl
            ⟨st_plain rfl (op_move _ _ _ _ rfl rfl),
              st_plain rfl (op_bin _ _ _ _ _ rfl rfl rfl),
              st_plain rfl (op_move _ _ _ _ (congrArg (fun b => AV.v (Value.bool b)) hg4_2) rfl),
              st_run 2 19 true rfl rfl rfl (List.Mem.head _) (op_move _ _ _ _ rfl rfl),
              st_run 2 19 true rfl rfl rfl (List.Mem.head _) (op_bin _ _ _ _ _ rfl rfl rfl),
              st_plain rfl (op_pick _ _ true _ rfl rfl),
              st_plain rfl (op_move _ _ _ _ (congrArg (fun b => AV.v (Value.bool b)) hg4_6) rfl),
              st_run 6 23 true rfl rfl rfl (List.Mem.head _) (op_move _ _ _ _ rfl rfl),
              st_run 6 23 true rfl rfl rfl (List.Mem.head _) (op_len_fl _ _ _ Try.underlying22 rfl (by decide) (map_len _)),
              st_run 6 23 true rfl rfl rfl (List.Mem.head _) (op_bin _ _ _ _ _ rfl rfl rfl),
              st_plain rfl (op_pick _ _ true _ rfl rfl),
              st_plain rfl (op_move _ _ _ _ (congrArg (fun b => AV.v (Value.bool b)) hg4_11) rfl),
              st_skip 11 28 _ true rfl rfl rfl rfl (List.Mem.head _),
              st_skip 11 28 _ true rfl rfl rfl rfl (List.Mem.head _),
              st_skip 11 28 _ true rfl rfl rfl rfl (List.Mem.head _),
              st_skip 11 28 _ true rfl rfl rfl rfl (List.Mem.head _),
              st_plain rfl (op_pick _ _ false _ rfl rfl),
              st_plain rfl (op_move _ _ _ _ rfl rfl),
              st_skip 17 34 _ true rfl rfl rfl rfl (List.Mem.head _),
              st_skip 17 34 _ true rfl rfl rfl rfl (List.Mem.head _),
              st_skip 17 34 _ true rfl rfl rfl rfl (List.Mem.head _),
              st_skip 17 34 _ true rfl rfl rfl rfl (List.Mem.head _),
              st_plain rfl (op_pick _ _ false _ rfl rfl),
              st_plain rfl (op_move _ _ _ _ rfl rfl),
              st_skip 23 40 _ true rfl rfl rfl rfl (List.Mem.head _),
              st_skip 23 40 _ true rfl rfl rfl rfl (List.Mem.head _),
              st_skip 23 40 _ true rfl rfl rfl rfl (List.Mem.head _),
              st_plain rfl (op_pick _ _ false _ rfl rfl),
              st_plain rfl (op_move _ _ _ _ rfl rfl),
              st_skip 28 45 _ true rfl rfl rfl rfl (List.Mem.head _),
              st_skip 28 45 _ true rfl rfl rfl rfl (List.Mem.head _),
              st_skip 28 45 _ true rfl rfl rfl rfl (List.Mem.head _),
              st_plain rfl (op_pick _ _ false _ rfl rfl),
              st_plain rfl (op_assign _ _ _ _ rfl rfl),
              trivial⟩ ?_
          exact hl11 _ (Option.some.inj h).symm
      · refine ht_seqR hn (El := (_ :: _ :: _ :: _ :: _ :: (17, .v (.int .i64 v1.2)) :: (18, .v (.bool (v1.2 == 0))) :: (19, .v (.bool true)) :: (20, .v (.int .i64 v2.2)) :: (21, .v (.bool (v2.2 == 0))) :: (22, .v (.bool (v2.2 == 0))) :: (23, .v (.bool false)) :: (24, .v undef) :: (25, .v undef) :: (26, .v undef) :: (27, .v (.bool false)) :: (28, .v (.bool false)) :: (29, .v undef) :: (30, .v undef) :: (31, .v undef) :: (32, .v undef) :: (33, .v (.bool false)) :: (34, .v (.bool false)) :: (35, .v undef) :: (36, .v undef) :: (37, .v undef) :: (38, .v undef) :: (39, .v (.bool false)) :: (40, .v (.bool false)) :: (41, .v undef) :: (42, .v undef) :: (43, .v undef) :: (44, .v (.bool false)) :: (45, .v (.bool false)) :: (46, .v undef) :: (47, .v undef) :: (48, .v undef) :: (49, .v (.bool false)) :: (0, .v (.bool false)) :: [])) (init := [0, 1, 2, 3, 4]) (fin := [38]) (sps := (⟨[2], [], [5], [(.slot 17)]⟩ :: ⟨[5], [], [6], [(.slot 18)]⟩ :: ⟨[6], [], [7], [(.slot 19)]⟩ :: ⟨[7, 4], [], [8], [(.slot 20)]⟩ :: ⟨[7, 8], [], [9], [(.slot 21)]⟩ :: ⟨[7, 9], [], [10], [(.slot 22)]⟩ :: ⟨[10], [], [11], [(.slot 23)]⟩ :: ⟨[11], [], [12], [(.slot 24)]⟩ :: ⟨[11], [], [13], [(.slot 25)]⟩ :: ⟨[11], [], [14], [(.slot 26)]⟩ :: ⟨[11], [], [15], [(.slot 27)]⟩ :: ⟨[15], [], [16], [(.slot 28)]⟩ :: ⟨[16], [], [17], [(.slot 29)]⟩ :: ⟨[16], [], [18], [(.slot 30)]⟩ :: ⟨[16], [], [19], [(.slot 31)]⟩ :: ⟨[16], [], [20], [(.slot 32)]⟩ :: ⟨[16], [], [21], [(.slot 33)]⟩ :: ⟨[21], [], [22], [(.slot 34)]⟩ :: ⟨[22], [], [23], [(.slot 35)]⟩ :: ⟨[22], [], [24], [(.slot 36)]⟩ :: ⟨[22], [], [25], [(.slot 37)]⟩ :: ⟨[22], [], [26], [(.slot 38)]⟩ :: ⟨[22], [], [27], [(.slot 39)]⟩ :: ⟨[27], [], [28], [(.slot 40)]⟩ :: ⟨[28], [], [29], [(.slot 41)]⟩ :: ⟨[28], [], [30], [(.slot 42)]⟩ :: ⟨[28], [], [31], [(.slot 43)]⟩ :: ⟨[28], [], [32], [(.slot 44)]⟩ :: ⟨[32], [], [33], [(.slot 45)]⟩ :: ⟨[33], [], [34], [(.slot 46)]⟩ :: ⟨[33], [], [35], [(.slot 47)]⟩ :: ⟨[33], [], [36], [(.slot 48)]⟩ :: ⟨[33], [], [37], [(.slot 49)]⟩ :: ⟨[37], [], [38], [(.slot 0)]⟩ :: [])) (es' := [(0, .v (.bool false))]) (by kernel_rfl) rfl rfl
          ⟨st_plain rfl (op_move _ _ _ _ rfl rfl),
            st_plain rfl (op_bin _ _ _ _ _ rfl rfl rfl),
            st_plain rfl (op_move _ _ _ _ (congrArg (fun b => AV.v (Value.bool b)) hg4_2) rfl),
            st_run 2 19 true rfl rfl rfl (List.Mem.head _) (op_move _ _ _ _ rfl rfl),
            st_run 2 19 true rfl rfl rfl (List.Mem.head _) (op_bin _ _ _ _ _ rfl rfl rfl),
            st_plain rfl (op_pick _ _ true _ rfl rfl),
            st_plain rfl (op_move _ _ _ _ (congrArg (fun b => AV.v (Value.bool b)) hg4_6) rfl),
            st_skip 6 23 _ true rfl rfl rfl rfl (List.Mem.head _),
            st_skip 6 23 _ true rfl rfl rfl rfl (List.Mem.head _),
            st_skip 6 23 _ true rfl rfl rfl rfl (List.Mem.head _),
            st_plain rfl (op_pick _ _ false _ rfl rfl),
            st_plain rfl (op_move _ _ _ _ rfl rfl),
            st_skip 11 28 _ true rfl rfl rfl rfl (List.Mem.head _),
            st_skip 11 28 _ true rfl rfl rfl rfl (List.Mem.head _),
            st_skip 11 28 _ true rfl rfl rfl rfl (List.Mem.head _),
            st_skip 11 28 _ true rfl rfl rfl rfl (List.Mem.head _),
            st_plain rfl (op_pick _ _ false _ rfl rfl),
            st_plain rfl (op_move _ _ _ _ rfl rfl),
            st_skip 17 34 _ true rfl rfl rfl rfl (List.Mem.head _),
            st_skip 17 34 _ true rfl rfl rfl rfl (List.Mem.head _),
            st_skip 17 34 _ true rfl rfl rfl rfl (List.Mem.head _),
            st_skip 17 34 _ true rfl rfl rfl rfl (List.Mem.head _),
            st_plain rfl (op_pick _ _ false _ rfl rfl),
            st_plain rfl (op_move _ _ _ _ rfl rfl),
            st_skip 23 40 _ true rfl rfl rfl rfl (List.Mem.head _),
            st_skip 23 40 _ true rfl rfl rfl rfl (List.Mem.head _),
            st_skip 23 40 _ true rfl rfl rfl rfl (List.Mem.head _),
            st_plain rfl (op_pick _ _ false _ rfl rfl),
            st_plain rfl (op_move _ _ _ _ rfl rfl),
            st_skip 28 45 _ true rfl rfl rfl rfl (List.Mem.head _),
            st_skip 28 45 _ true rfl rfl rfl rfl (List.Mem.head _),
            st_skip 28 45 _ true rfl rfl rfl rfl (List.Mem.head _),
            st_plain rfl (op_pick _ _ false _ rfl rfl),
            st_plain rfl (op_assign _ _ _ _ rfl rfl),
            trivial⟩ ?_
        exact hl11 _ (Option.some.inj h).symm
    · refine ht_seqR hn (El := (_ :: _ :: _ :: _ :: _ :: (17, .v (.int .i64 v1.2)) :: (18, .v (.bool (v1.2 == 0))) :: (19, .v (.bool false)) :: (20, .v undef) :: (21, .v undef) :: (22, .v (.bool false)) :: (23, .v (.bool false)) :: (24, .v undef) :: (25, .v undef) :: (26, .v undef) :: (27, .v (.bool false)) :: (28, .v (.bool false)) :: (29, .v undef) :: (30, .v undef) :: (31, .v undef) :: (32, .v undef) :: (33, .v (.bool false)) :: (34, .v (.bool false)) :: (35, .v undef) :: (36, .v undef) :: (37, .v undef) :: (38, .v undef) :: (39, .v (.bool false)) :: (40, .v (.bool false)) :: (41, .v undef) :: (42, .v undef) :: (43, .v undef) :: (44, .v (.bool false)) :: (45, .v (.bool false)) :: (46, .v undef) :: (47, .v undef) :: (48, .v undef) :: (49, .v (.bool false)) :: (0, .v (.bool false)) :: [])) (init := [0, 1, 2, 3, 4]) (fin := [38]) (sps := (⟨[2], [], [5], [(.slot 17)]⟩ :: ⟨[5], [], [6], [(.slot 18)]⟩ :: ⟨[6], [], [7], [(.slot 19)]⟩ :: ⟨[7], [], [8], [(.slot 20)]⟩ :: ⟨[7], [], [9], [(.slot 21)]⟩ :: ⟨[7], [], [10], [(.slot 22)]⟩ :: ⟨[10], [], [11], [(.slot 23)]⟩ :: ⟨[11], [], [12], [(.slot 24)]⟩ :: ⟨[11], [], [13], [(.slot 25)]⟩ :: ⟨[11], [], [14], [(.slot 26)]⟩ :: ⟨[11], [], [15], [(.slot 27)]⟩ :: ⟨[15], [], [16], [(.slot 28)]⟩ :: ⟨[16], [], [17], [(.slot 29)]⟩ :: ⟨[16], [], [18], [(.slot 30)]⟩ :: ⟨[16], [], [19], [(.slot 31)]⟩ :: ⟨[16], [], [20], [(.slot 32)]⟩ :: ⟨[16], [], [21], [(.slot 33)]⟩ :: ⟨[21], [], [22], [(.slot 34)]⟩ :: ⟨[22], [], [23], [(.slot 35)]⟩ :: ⟨[22], [], [24], [(.slot 36)]⟩ :: ⟨[22], [], [25], [(.slot 37)]⟩ :: ⟨[22], [], [26], [(.slot 38)]⟩ :: ⟨[22], [], [27], [(.slot 39)]⟩ :: ⟨[27], [], [28], [(.slot 40)]⟩ :: ⟨[28], [], [29], [(.slot 41)]⟩ :: ⟨[28], [], [30], [(.slot 42)]⟩ :: ⟨[28], [], [31], [(.slot 43)]⟩ :: ⟨[28], [], [32], [(.slot 44)]⟩ :: ⟨[32], [], [33], [(.slot 45)]⟩ :: ⟨[33], [], [34], [(.slot 46)]⟩ :: ⟨[33], [], [35], [(.slot 47)]⟩ :: ⟨[33], [], [36], [(.slot 48)]⟩ :: ⟨[33], [], [37], [(.slot 49)]⟩ :: ⟨[37], [], [38], [(.slot 0)]⟩ :: [])) (es' := [(0, .v (.bool false))]) (by kernel_rfl) rfl rfl
        ⟨st_plain rfl (op_move _ _ _ _ rfl rfl),
          st_plain rfl (op_bin _ _ _ _ _ rfl rfl rfl),
          st_plain rfl (op_move _ _ _ _ (congrArg (fun b => AV.v (Value.bool b)) hg4_2) rfl),
          st_skip 2 19 _ true rfl rfl rfl rfl (List.Mem.head _),
          st_skip 2 19 _ true rfl rfl rfl rfl (List.Mem.head _),
          st_plain rfl (op_pick _ _ false _ rfl rfl),
          st_plain rfl (op_move _ _ _ _ rfl rfl),
          st_skip 6 23 _ true rfl rfl rfl rfl (List.Mem.head _),
          st_skip 6 23 _ true rfl rfl rfl rfl (List.Mem.head _),
          st_skip 6 23 _ true rfl rfl rfl rfl (List.Mem.head _),
          st_plain rfl (op_pick _ _ false _ rfl rfl),
          st_plain rfl (op_move _ _ _ _ rfl rfl),
          st_skip 11 28 _ true rfl rfl rfl rfl (List.Mem.head _),
          st_skip 11 28 _ true rfl rfl rfl rfl (List.Mem.head _),
          st_skip 11 28 _ true rfl rfl rfl rfl (List.Mem.head _),
          st_skip 11 28 _ true rfl rfl rfl rfl (List.Mem.head _),
          st_plain rfl (op_pick _ _ false _ rfl rfl),
          st_plain rfl (op_move _ _ _ _ rfl rfl),
          st_skip 17 34 _ true rfl rfl rfl rfl (List.Mem.head _),
          st_skip 17 34 _ true rfl rfl rfl rfl (List.Mem.head _),
          st_skip 17 34 _ true rfl rfl rfl rfl (List.Mem.head _),
          st_skip 17 34 _ true rfl rfl rfl rfl (List.Mem.head _),
          st_plain rfl (op_pick _ _ false _ rfl rfl),
          st_plain rfl (op_move _ _ _ _ rfl rfl),
          st_skip 23 40 _ true rfl rfl rfl rfl (List.Mem.head _),
          st_skip 23 40 _ true rfl rfl rfl rfl (List.Mem.head _),
          st_skip 23 40 _ true rfl rfl rfl rfl (List.Mem.head _),
          st_plain rfl (op_pick _ _ false _ rfl rfl),
          st_plain rfl (op_move _ _ _ _ rfl rfl),
          st_skip 28 45 _ true rfl rfl rfl rfl (List.Mem.head _),
          st_skip 28 45 _ true rfl rfl rfl rfl (List.Mem.head _),
          st_skip 28 45 _ true rfl rfl rfl rfl (List.Mem.head _),
          st_plain rfl (op_pick _ _ false _ rfl rfl),
          st_plain rfl (op_assign _ _ _ _ rfl rfl),
          trivial⟩ ?_
      exact hl11 _ (Option.some.inj h).symm

set_option maxHeartbeats 1000000 in
theorem ok_wherrylaw20_FrameWrong (f : T_Frame) (how : Int) (r : Bool) (h : Sh.wherrylaw20_FrameWrong f how = some r) : FnOK Try.prog 8 [.agg [.v (.int .i64 f.Kind), .v (.int .i64 f.Number), .v (.int .i64 f.Offset), .v (.int .i64 f.Seq), .fl .shr 1 (List.map (Value.int .u8) f.Data)], .v (.int .i64 how)] (.v (.bool r)) := by
  unfold Sh.wherrylaw20_FrameWrong at h
  refine fn_ok Try.func8 rfl (Nat.le_of_ble_eq_true rfl) rfl rfl fun g0 hn hio => ?_
  refine ht_seq ?_
  refine ht_seqR hn (El := [_, _, (2, .box 24 [.v (.int .i64 f.Kind), .v (.int .i64 f.Number), .v (.int .i64 f.Offset), .v (.int .i64 f.Seq), .fl .shr 1 (List.map (Value.int .u8) f.Data)]), (4, .v (.bool false))]) (init := [0, 1]) (fin := [1, 2]) (sps := [⟨[0], [], [2], [(.slot 2)]⟩, ⟨[], [], [3], [(.slot 4)]⟩]) (es' := [(_, _), (2, .box 24 [.v (.int .i64 f.Kind), .v (.int .i64 f.Number), .v (.int .i64 f.Offset), .v (.int .i64 f.Seq), .fl .shr 1 (List.map (Value.int .u8) f.Data)])]) (by kernel_rfl) rfl rfl
    ⟨st_plain rfl (op_box _ _ _ _ rfl rfl rfl),
      st_plain rfl (op_assign _ _ _ _ rfl rfl),
      trivial⟩ ?_
  refine pt_then ?_
  refine ht_seq ?_
  refine ht_seq ?_
  refine ht_joinS h (fun (s2 : Bool) => [(1, .v (.int .i64 how)), (2, .box 24 [.v (.int .i64 f.Kind), .v (.int .i64 f.Number), .v (.int .i64 f.Offset), .v (.int .i64 f.Seq), .fl .shr 1 (List.map (Value.int .u8) f.Data)]), (16, .v (.bool s2))]) ?_ ?_
  · rintro s2 h
    refine pt_then ?_
    refine ht_cond _ rfl (fun hb6 => ?_) (fun hb6 => ?_)
    · have h := cond_t hb6 h
      refine ht_seq ?_
      refine ht_seqR hn (El := [_, _, _, (4, .v (.bool true))]) (init := [0, 1, 2]) (fin := [3]) (sps := [⟨[], [], [3], [(.slot 4)]⟩]) (es' := [(4, .v (.bool true))]) (by kernel_rfl) rfl rfl
        ⟨st_plain rfl (op_assign _ _ _ _ rfl rfl),
          trivial⟩ ?_
      refine pt_then ?_
      refine ht_ret ?_
      refine pt_r_then ?_
      obtain rfl := Option.some.inj h
      exact pt_ret hio rfl (.tmp _ _ .nil) rfl rfl
    · have h := cond_f hb6 h
      refine ht_skip ?_
      refine pt_then ?_
      refine ht_seq ?_
      obtain ⟨v7, hv7, h⟩ := bind_some h
      refine ht_seqR hn (El := [_, _, _, (17, .agg [.v (.int .i64 f.Kind), .v (.int .i64 f.Number), .v (.int .i64 f.Offset), .v (.int .i64 f.Seq), .fl .shr 1 (List.map (Value.int .u8) f.Data)]), (18, .agg [.v (.int .i64 v7.Kind), .v (.int .i64 v7.Number), .v (.int .i64 v7.Offset), .v (.int .i64 v7.Seq), .fl (.own 5) 1 (List.map (Value.int .u8) v7.Data)]), (5, .box 24 [.v (.int .i64 0), .v (.int .i64 0), .v (.int .i64 0), .v (.int .i64 0), .v (.slice none 0 0)]), (5, .box 24 [.v (.int .i64 v7.Kind), .v (.int .i64 v7.Number), .v (.int .i64 v7.Offset), .v (.int .i64 v7.Seq), .fl (.own 5) 1 (List.map (Value.int .u8) v7.Data)])]) (init := [0, 1, 2]) (fin := [0, 1, 6]) (sps := [⟨[1], [], [3], [(.slot 17)]⟩, ⟨[3], [], [4], [(.slot 18)]⟩, ⟨[], [], [5], [(.slot 5)]⟩, ⟨[], [4, 5], [6], [.cell 5 0, .cell 5 1, .cell 5 2, .cell 5 3, .cell 5 4]⟩]) (es' := [(_, _), (_, _), (5, .box 24 [.v (.int .i64 v7.Kind), .v (.int .i64 v7.Number), .v (.int .i64 v7.Offset), .v (.int .i64 v7.Seq), .fl (.own 5) 1 (List.map (Value.int .u8) v7.Data)])]) (by kernel_rfl) rfl rfl
        ⟨st_plain rfl (op_loadA _ _ _ _ _ _ _ Try.underlying24 rfl sz24 rfl rfl (Nat.le_of_ble_eq_true rfl) rfl rfl),
          st_plain rfl (op_call _ _ 10 _ _ rfl Try.call10 rfl (ok_wherrykeep_TwinFrame f _ hv7) rfl rfl),
          st_plain rfl (op_alloc _ _ zr24),
          st_plain rfl (op_store_take _ _ _ _ _ _ _ _ sz24 rfl rfl rfl (Nat.le_of_ble_eq_true rfl) rfl rfl),
          trivial⟩ ?_
      refine pt_then ?_
      refine ht_seq ?_
      refine ht_joinS h (fun ((s50, s51, s52, s53, s54) : Int × Int × Int × Int × (List Int)) => [(2, .box 24 [.v (.int .i64 f.Kind), .v (.int .i64 f.Number), .v (.int .i64 f.Offset), .v (.int .i64 f.Seq), .fl .shr 1 (List.map (Value.int .u8) f.Data)]), (5, .box 24 [.v (.int .i64 s50), .v (.int .i64 s51), .v (.int .i64 s52), .v (.int .i64 s53), .fl (.own 5) 1 (List.map (Value.int .u8) s54)])]) ?_ ?_
      · rintro ⟨s50, s51, s52, s53, s54⟩ h
        refine pt_then ?_
        refine ht_seq ?_
        obtain ⟨v98, hv98, h⟩ := bind_some h
        refine ht_seqR hn (El := [_, _, (62, .agg [.v (.int .i64 s50), .v (.int .i64 s51), .v (.int .i64 s52), .v (.int .i64 s53), .same (.cell 5 4)]), (63, .tup [.fl (.own 5) 1 (List.map (Value.int .u8) v98.1), .v (.int .i64 v98.2)]), (61, .tup [.fl (.own 5) 1 (List.map (Value.int .u8) v98.1), .v (.int .i64 v98.2)]), (64, .fl (.own 5) 1 (List.map (Value.int .u8) v98.1)), (61, .tup [.any, .v (.int .i64 v98.2)]), (65, .v (.int .i64 v98.2)), (6, .fl (.own 5) 1 (List.map (Value.int .u8) v98.1)), (7, .v (.int .i64 v98.2))]) (init := [0, 1]) (fin := [0, 1, 8, 9]) (sps := [⟨[1], [], [2], [(.slot 62)]⟩, ⟨[2, 1], [], [3], [(.slot 63)]⟩, ⟨[], [3], [4], [(.slot 61)]⟩, ⟨[], [4], [6, 5], [(.slot 64)]⟩, ⟨[6], [], [7], [(.slot 65)]⟩, ⟨[], [5], [8], [(.slot 6)]⟩, ⟨[7], [], [9], [(.slot 7)]⟩]) (es' := [(_, _), (_, _), (6, .fl (.own 5) 1 (List.map (Value.int .u8) v98.1)), (7, .v (.int .i64 v98.2))]) (by kernel_rfl) rfl rfl
          ⟨st_plain rfl (op_loadA _ _ _ _ _ _ _ Try.underlying24 rfl sz24 rfl rfl (Nat.le_of_ble_eq_true rfl) rfl rfl),
            st_plain rfl (op_call _ _ 12 _ _ rfl Try.call12 rfl (ok_frame_Bytes (T_Frame.mk s50 s51 s52 s53 s54) _ hv98) rfl rfl),
            st_plain rfl (op_move_take _ _ _ _ rfl),
            st_plain rfl (op_extract_take _ _ _ _ _ rfl (Nat.le_of_ble_eq_true rfl) rfl rfl (by decide) rfl),
            st_plain rfl (op_extract _ _ _ _ _ rfl rfl (Nat.le_of_ble_eq_true rfl) rfl rfl),
            st_plain rfl (op_assign_take _ _ _ _ rfl),
            st_plain rfl (op_assign _ _ _ _ rfl rfl),
            trivial⟩ ?_
        refine pt_then ?_
        refine ht_seq ?_
        refine ht_joinS h (fun (s102 : Bool) => [(4, .v (.bool s102))]) ?_ ?_
        · rintro s102 h
          refine pt_then ?_
          refine ht_ret ?_
          obtain rfl := Option.some.inj h
          exact pt_ret hio rfl (.tmp _ _ .nil) rfl rfl
        · intro u103 h hl104 hr105
          obtain ⟨v99, hv99, h⟩ := bind_some h
          refine cond_some h (fun hg23_3 h => ?_) (fun hg23_3 h => ?_)
          · obtain ⟨v100, hv100, h⟩ := bind_some h
            refine cond_some h (fun hg23_8 h => ?_) (fun hg23_8 h => ?_)
            · refine cond_some h (fun hg23_12 h => ?_) (fun hg23_12 h => ?_)
              · refine cond_some h (fun hg23_17 h => ?_) (fun hg23_17 h => ?_)
                · obtain ⟨v101, hv101, h⟩ := bind_some h
                  refine ht_seqR hn (El := (_ :: _ :: _ :: _ :: (66, .agg [.v (.int .i64 f.Kind), .v (.int .i64 f.Number), .v (.int .i64 f.Offset), .v (.int .i64 f.Seq), .fl .shr 1 (List.map (Value.int .u8) f.Data)]) :: (67, .v (.int .i64 v99)) :: (68, .v (.bool (v99 == 0))) :: (69, .v (.bool true)) :: (70, .agg [.v (.int .i64 s50), .v (.int .i64 s51), .v (.int .i64 s52), .v (.int .i64 s53), .fl (.own 5) 1 (List.map (Value.int .u8) s54)]) :: (71, .v (.int .i64 v100)) :: (72, .v (.bool (v100 == 1))) :: (73, .v (.bool (v100 == 1))) :: (74, .v (.bool true)) :: (75, .v (.int .i64 v98.2)) :: (76, .v (.bool (v98.2 == 1))) :: (77, .v (.bool (v98.2 == 1))) :: (78, .v (.bool true)) :: (79, .fl (.own 5) 1 (List.map (Value.int .u8) v98.1)) :: (80, .v (.int .i64 (v98.1.length : Int))) :: (81, .v (.bool (((v98.1.length : Int) == 0)))) :: (82, .v (.bool (((v98.1.length : Int) == 0)))) :: (83, .v (.bool true)) :: (84, .v (.bool v101)) :: (85, .v (.bool v101)) :: (4, .v (.bool v101)) :: [])) (init := [0, 1, 2, 3]) (fin := [24]) (sps := (⟨[0], [], [4], [(.slot 66)]⟩ :: ⟨[4], [], [5], [(.slot 67)]⟩ :: ⟨[5], [], [6], [(.slot 68)]⟩ :: ⟨[6], [], [7], [(.slot 69)]⟩ :: ⟨[7], [1], [8], [(.slot 70)]⟩ :: ⟨[7, 8], [], [9], [(.slot 71)]⟩ :: ⟨[7, 9], [], [10], [(.slot 72)]⟩ :: ⟨[7, 10], [], [11], [(.slot 73)]⟩ :: ⟨[11], [], [12], [(.slot 74)]⟩ :: ⟨[12, 3], [], [13], [(.slot 75)]⟩ :: ⟨[12, 13], [], [14], [(.slot 76)]⟩ :: ⟨[12, 14], [], [15], [(.slot 77)]⟩ :: ⟨[15], [], [16], [(.slot 78)]⟩ :: ⟨[16], [2], [17], [(.slot 79)]⟩ :: ⟨[16, 17], [], [18], [(.slot 80)]⟩ :: ⟨[16, 18], [], [19], [(.slot 81)]⟩ :: ⟨[16, 19], [], [20], [(.slot 82)]⟩ :: ⟨[20], [], [21], [(.slot 83)]⟩ :: ⟨[21], [], [22], [(.slot 84)]⟩ :: ⟨[21, 22], [], [23], [(.slot 85)]⟩ :: ⟨[23], [], [24], [(.slot 4)]⟩ :: [])) (es' := [(4, .v (.bool v101))]) (by kernel_rfl) rfl rfl
                    ⟨st_plain rfl (op_loadA _ _ _ _ _ _ _ Try.underlying24 rfl sz24 rfl rfl (Nat.le_of_ble_eq_true rfl) rfl rfl),
                      st_plain rfl (op_call _ _ 16 _ _ rfl Try.call16 rfl (ok_frame_Check f _ hv99) rfl rfl),
                      st_plain rfl (op_bin _ _ _ _ _ rfl rfl rfl),
                      st_plain rfl (op_move _ _ _ _ (congrArg (fun b => AV.v (Value.bool b)) hg23_3) rfl),
                      st_run 3 69 true rfl rfl rfl (List.Mem.head _) (op_loadA_take _ _ _ _ Try.underlying24 rfl sz24 rfl rfl),
                      st_run 3 69 true rfl rfl rfl (List.Mem.head _) (op_call _ _ 16 _ _ rfl Try.call16 rfl (ok_frame_Check (T_Frame.mk s50 s51 s52 s53 s54) _ hv100) rfl rfl),
                      st_run 3 69 true rfl rfl rfl (List.Mem.head _) (op_bin _ _ _ _ _ rfl rfl rfl),
                      st_plain rfl (op_pick _ _ true _ rfl rfl),
                      st_plain rfl (op_move _ _ _ _ (congrArg (fun b => AV.v (Value.bool b)) hg23_8) rfl),
                      st_run 8 74 true rfl rfl rfl (List.Mem.head _) (op_move _ _ _ _ rfl rfl),
                      st_run 8 74 true rfl rfl rfl (List.Mem.head _) (op_bin _ _ _ _ _ rfl rfl rfl),
                      st_plain rfl (op_pick _ _ true _ rfl rfl),
                      st_plain rfl (op_move _ _ _ _ (congrArg (fun b => AV.v (Value.bool b)) hg23_12) rfl),
                      st_run 12 78 true rfl rfl rfl (List.Mem.head _) (op_move_take _ _ _ _ rfl),
                      st_run 12 78 true rfl rfl rfl (List.Mem.head _) (op_len_fl _ _ _ Try.underlying22 rfl (by decide) (map_len _)),
                      st_run 12 78 true rfl rfl rfl (List.Mem.head _) (op_bin _ _ _ _ _ rfl rfl rfl),
                      st_plain rfl (op_pick _ _ true _ rfl rfl),
                      st_plain rfl (op_move _ _ _ _ (congrArg (fun b => AV.v (Value.bool b)) hg23_17) rfl),
                      st_run 17 83 true rfl rfl rfl (List.Mem.head _) (op_call _ _ 23 _ _ rfl Try.call23 rfl (ok_wherrylaw20_wakes  _ hv101) rfl rfl),
                      st_plain rfl (op_pick _ _ true _ rfl rfl),
                      st_plain rfl (op_assign _ _ _ _ rfl rfl),
                      trivial⟩ ?_
                  exact hl104 _ (Option.some.inj h).symm
                · refine ht_seqR hn (El := (_ :: _ :: _ :: _ :: (66, .agg [.v (.int .i64 f.Kind), .v (.int .i64 f.Number), .v (.int .i64 f.Offset), .v (.int .i64 f.Seq), .fl .shr 1 (List.map (Value.int .u8) f.Data)]) :: (67, .v (.int .i64 v99)) :: (68, .v (.bool (v99 == 0))) :: (69, .v (.bool true)) :: (70, .agg [.v (.int .i64 s50), .v (.int .i64 s51), .v (.int .i64 s52), .v (.int .i64 s53), .fl (.own 5) 1 (List.map (Value.int .u8) s54)]) :: (71, .v (.int .i64 v100)) :: (72, .v (.bool (v100 == 1))) :: (73, .v (.bool (v100 == 1))) :: (74, .v (.bool true)) :: (75, .v (.int .i64 v98.2)) :: (76, .v (.bool (v98.2 == 1))) :: (77, .v (.bool (v98.2 == 1))) :: (78, .v (.bool true)) :: (79, .fl (.own 5) 1 (List.map (Value.int .u8) v98.1)) :: (80, .v (.int .i64 (v98.1.length : Int))) :: (81, .v (.bool (((v98.1.length : Int) == 0)))) :: (82, .v (.bool (((v98.1.length : Int) == 0)))) :: (83, .v (.bool false)) :: (84, .v undef) :: (85, .v (.bool false)) :: (4, .v (.bool false)) :: [])) (init := [0, 1, 2, 3]) (fin := [24]) (sps := (⟨[0], [], [4], [(.slot 66)]⟩ :: ⟨[4], [], [5], [(.slot 67)]⟩ :: ⟨[5], [], [6], [(.slot 68)]⟩ :: ⟨[6], [], [7], [(.slot 69)]⟩ :: ⟨[7], [1], [8], [(.slot 70)]⟩ :: ⟨[7, 8], [], [9], [(.slot 71)]⟩ :: ⟨[7, 9], [], [10], [(.slot 72)]⟩ :: ⟨[7, 10], [], [11], [(.slot 73)]⟩ :: ⟨[11], [], [12], [(.slot 74)]⟩ :: ⟨[12, 3], [], [13], [(.slot 75)]⟩ :: ⟨[12, 13], [], [14], [(.slot 76)]⟩ :: ⟨[12, 14], [], [15], [(.slot 77)]⟩ :: ⟨[15], [], [16], [(.slot 78)]⟩ :: ⟨[16], [2], [17], [(.slot 79)]⟩ :: ⟨[16, 17], [], [18], [(.slot 80)]⟩ :: ⟨[16, 18], [], [19], [(.slot 81)]⟩ :: ⟨[16, 19], [], [20], [(.slot 82)]⟩ :: ⟨[20], [], [21], [(.slot 83)]⟩ :: ⟨[21], [], [22], [(.slot 84)]⟩ :: ⟨[21], [], [23], [(.slot 85)]⟩ :: ⟨[23], [], [24], [(.slot 4)]⟩ :: [])) (es' := [(4, .v (.bool false))]) (by kernel_rfl) rfl rfl
                    ⟨st_plain rfl (op_loadA _ _ _ _ _ _ _ Try.underlying24 rfl sz24 rfl rfl (Nat.le_of_ble_eq_true rfl) rfl rfl),
                      st_plain rfl (op_call _ _ 16 _ _ rfl Try.call16 rfl (ok_frame_Check f _ hv99) rfl rfl),
                      st_plain rfl (op_bin _ _ _ _ _ rfl rfl rfl),
                      st_plain rfl (op_move _ _ _ _ (congrArg (fun b => AV.v (Value.bool b)) hg23_3) rfl),
                      st_run 3 69 true rfl rfl rfl (List.Mem.head _) (op_loadA_take _ _ _ _ Try.underlying24 rfl sz24 rfl rfl),
                      st_run 3 69 true rfl rfl rfl (List.Mem.head _) (op_call _ _ 16 _ _ rfl Try.call16 rfl (ok_frame_Check (T_Frame.mk s50 s51 s52 s53 s54) _ hv100) rfl rfl),
                      st_run 3 69 true rfl rfl rfl (List.Mem.head _) (op_bin _ _ _ _ _ rfl rfl rfl),
                      st_plain rfl (op_pick _ _ true _ rfl rfl),
                      st_plain rfl (op_move _ _ _ _ (congrArg (fun b => AV.v (Value.bool b)) hg23_8) rfl),
                      st_run 8 74 true rfl rfl rfl (List.Mem.head _) (op_move _ _ _ _ rfl rfl),
                      st_run 8 74 true rfl rfl rfl (List.Mem.head _) (op_bin _ _ _ _ _ rfl rfl rfl),
                      st_plain rfl (op_pick _ _ true _ rfl rfl),
                      st_plain rfl (op_move _ _ _ _ (congrArg (fun b => AV.v (Value.bool b)) hg23_12) rfl),
                      st_run 12 78 true rfl rfl rfl (List.Mem.head _) (op_move_take _ _ _ _ rfl),
                      st_run 12 78 true rfl rfl rfl (List.Mem.head _) (op_len_fl _ _ _ Try.underlying22 rfl (by decide) (map_len _)),
                      st_run 12 78 true rfl rfl rfl (List.Mem.head _) (op_bin _ _ _ _ _ rfl rfl rfl),
                      st_plain rfl (op_pick _ _ true _ rfl rfl),
                      st_plain rfl (op_move _ _ _ _ (congrArg (fun b => AV.v (Value.bool b)) hg23_17) rfl),
                      st_skip 17 83 _ true rfl rfl rfl rfl (List.Mem.head _),
                      st_plain rfl (op_pick _ _ false _ rfl rfl),
                      st_plain rfl (op_assign _ _ _ _ rfl rfl),
                      trivial⟩ ?_
                  exact hl104 _ (Option.some.inj h).symm
              · refine ht_seqR hn (El := (_ :: _ :: _ :: _ :: (66, .agg [.v (.int .i64 f.Kind), .v (.int .i64 f.Number), .v (.int .i64 f.Offset), .v (.int .i64 f.Seq), .fl .shr 1 (List.map (Value.int .u8) f.Data)]) :: (67, .v (.int .i64 v99)) :: (68, .v (.bool (v99 == 0))) :: (69, .v (.bool true)) :: (70, .agg [.v (.int .i64 s50), .v (.int .i64 s51), .v (.int .i64 s52), .v (.int .i64 s53), .fl (.own 5) 1 (List.map (Value.int .u8) s54)]) :: (71, .v (.int .i64 v100)) :: (72, .v (.bool (v100 == 1))) :: (73, .v (.bool (v100 == 1))) :: (74, .v (.bool true)) :: (75, .v (.int .i64 v98.2)) :: (76, .v (.bool (v98.2 == 1))) :: (77, .v (.bool (v98.2 == 1))) :: (78, .v (.bool false)) :: (79, .v undef) :: (80, .v undef) :: (81, .v undef) :: (82, .v (.bool false)) :: (83, .v (.bool false)) :: (84, .v undef) :: (85, .v (.bool false)) :: (4, .v (.bool false)) :: [])) (init := [0, 1, 2, 3]) (fin := [24]) (sps := (⟨[0], [], [4], [(.slot 66)]⟩ :: ⟨[4], [], [5], [(.slot 67)]⟩ :: ⟨[5], [], [6], [(.slot 68)]⟩ :: ⟨[6], [], [7], [(.slot 69)]⟩ :: ⟨[7], [1], [8], [(.slot 70)]⟩ :: ⟨[7, 8], [], [9], [(.slot 71)]⟩ :: ⟨[7, 9], [], [10], [(.slot 72)]⟩ :: ⟨[7, 10], [], [11], [(.slot 73)]⟩ :: ⟨[11], [], [12], [(.slot 74)]⟩ :: ⟨[12, 3], [], [13], [(.slot 75)]⟩ :: ⟨[12, 13], [], [14], [(.slot 76)]⟩ :: ⟨[12, 14], [], [15], [(.slot 77)]⟩ :: ⟨[15], [], [16], [(.slot 78)]⟩ :: ⟨[16], [], [17], [(.slot 79)]⟩ :: ⟨[16], [], [18], [(.slot 80)]⟩ :: ⟨[16], [], [19], [(.slot 81)]⟩ :: ⟨[16], [], [20], [(.slot 82)]⟩ :: ⟨[20], [], [21], [(.slot 83)]⟩ :: ⟨[21], [], [22], [(.slot 84)]⟩ :: ⟨[21], [], [23], [(.slot 85)]⟩ :: ⟨[23], [], [24], [(.slot 4)]⟩ :: [])) (es' := [(4, .v (.bool false))]) (by kernel_rfl) rfl rfl
                  ⟨st_plain rfl (op_loadA _ _ _ _ _ _ _ Try.underlying24 rfl sz24 rfl rfl (Nat.le_of_ble_eq_true rfl) rfl rfl),
                    st_plain rfl (op_call _ _ 16 _ _ rfl Try.call16 rfl (ok_frame_Check f _ hv99) rfl rfl),
                    st_plain rfl (op_bin _ _ _ _ _ rfl rfl rfl),
                    st_plain rfl (op_move _ _ _ _ (congrArg (fun b => AV.v (Value.bool b)) hg23_3) rfl),
                    st_run 3 69 true rfl rfl rfl (List.Mem.head _) (op_loadA_take _ _ _ _ Try.underlying24 rfl sz24 rfl rfl),
                    st_run 3 69 true rfl rfl rfl (List.Mem.head _) (op_call _ _ 16 _ _ rfl Try.call16 rfl (ok_frame_Check (T_Frame.mk s50 s51 s52 s53 s54) _ hv100) rfl rfl),
                    st_run 3 69 true rfl rfl rfl (List.Mem.head _) (op_bin _ _ _ _ _ rfl rfl rfl),
                    st_plain rfl (op_pick _ _ true _ rfl rfl),
                    st_plain rfl (op_move _ _ _ _ (congrArg (fun b => AV.v (Value.bool b)) hg23_8) rfl),
                    st_run 8 74 true rfl rfl rfl (List.Mem.head _) (op_move _ _ _ _ rfl rfl),
                    st_run 8 74 true rfl rfl rfl (List.Mem.head _) (op_bin _ _ _ _ _ rfl rfl rfl),
                    st_plain rfl (op_pick _ _ true _ rfl rfl),
                    st_plain rfl (op_move _ _ _ _ (congrArg (fun b => AV.v (Value.bool b)) hg23_12) rfl),
                    st_skip 12 78 _ true rfl rfl rfl rfl (List.Mem.head _),
                    st_skip 12 78 _ true rfl rfl rfl rfl (List.Mem.head _),
                    st_skip 12 78 _ true rfl rfl rfl rfl (List.Mem.head _),
                    st_plain rfl (op_pick _ _ false _ rfl rfl),
                    st_plain rfl (op_move _ _ _ _ rfl rfl),
                    st_skip 17 83 _ true rfl rfl rfl rfl (List.Mem.head _),
                    st_plain rfl (op_pick _ _ false _ rfl rfl),
                    st_plain rfl (op_assign _ _ _ _ rfl rfl),
                    trivial⟩ ?_
                exact hl104 _ (Option.some.inj h).symm
            · refine ht_seqR hn (El := (_ :: _ :: _ :: _ :: (66, .agg [.v (.int .i64 f.Kind), .v (.int .i64 f.Number), .v (.int .i64 f.Offset), .v (.int .i64 f.Seq), .fl .shr 1 (List.map (Value.int .u8) f.Data)]) :: (67, .v (.int .i64 v99)) :: (68, .v (.bool (v99 == 0))) :: (69, .v (.bool true)) :: (70, .agg [.v (.int .i64 s50), .v (.int .i64 s51), .v (.int .i64 s52), .v (.int .i64 s53), .fl (.own 5) 1 (List.map (Value.int .u8) s54)]) :: (71, .v (.int .i64 v100)) :: (72, .v (.bool (v100 == 1))) :: (73, .v (.bool (v100 == 1))) :: (74, .v (.bool false)) :: (75, .v undef) :: (76, .v undef) :: (77, .v (.bool false)) :: (78, .v (.bool false)) :: (79, .v undef) :: (80, .v undef) :: (81, .v undef) :: (82, .v (.bool false)) :: (83, .v (.bool false)) :: (84, .v undef) :: (85, .v (.bool false)) :: (4, .v (.bool false)) :: [])) (init := [0, 1, 2, 3]) (fin := [24]) (sps := (⟨[0], [], [4], [(.slot 66)]⟩ :: ⟨[4], [], [5], [(.slot 67)]⟩ :: ⟨[5], [], [6], [(.slot 68)]⟩ :: ⟨[6], [], [7], [(.slot 69)]⟩ :: ⟨[7], [1], [8], [(.slot 70)]⟩ :: ⟨[7, 8], [], [9], [(.slot 71)]⟩ :: ⟨[7, 9], [], [10], [(.slot 72)]⟩ :: ⟨[7, 10], [], [11], [(.slot 73)]⟩ :: ⟨[11], [], [12], [(.slot 74)]⟩ :: ⟨[12], [], [13], [(.slot 75)]⟩ :: ⟨[12], [], [14], [(.slot 76)]⟩ :: ⟨[12], [], [15], [(.slot 77)]⟩ :: ⟨[15], [], [16], [(.slot 78)]⟩ :: ⟨[16], [], [17], [(.slot 79)]⟩ :: ⟨[16], [], [18], [(.slot 80)]⟩ :: ⟨[16], [], [19], [(.slot 81)]⟩ :: ⟨[16], [], [20], [(.slot 82)]⟩ :: ⟨[20], [], [21], [(.slot 83)]⟩ :: ⟨[21], [], [22], [(.slot 84)]⟩ :: ⟨[21], [], [23], [(.slot 85)]⟩ :: ⟨[23], [], [24], [(.slot 4)]⟩ :: [])) (es' := [(4, .v (.bool false))]) (by kernel_rfl) rfl rfl
                ⟨st_plain rfl (op_loadA _ _ _ _ _ _ _ Try.underlying24 rfl sz24 rfl rfl (Nat.le_of_ble_eq_true rfl) rfl rfl),
                  st_plain rfl (op_call _ _ 16 _ _ rfl Try.call16 rfl (ok_frame_Check f _ hv99) rfl rfl),
                  st_plain rfl (op_bin _ _ _ _ _ rfl rfl rfl),
                  st_plain rfl (op_move _ _ _ _ (congrArg (fun b => AV.v (Value.bool b)) hg23_3) rfl),
                  st_run 3 69 true rfl rfl rfl (List.Mem.head _) (op_loadA_take _ _ _ _ Try.underlying24 rfl sz24 rfl rfl),
                  st_run 3 69 true rfl rfl rfl (List.Mem.head _) (op_call _ _ 16 _ _ rfl Try.call16 rfl (ok_frame_Check (T_Frame.mk s50 s51 s52 s53 s54) _ hv100) rfl rfl),
                  st_run 3 69 true rfl rfl rfl (List.Mem.head _) (op_bin _ _ _ _ _ rfl rfl rfl),
                  st_plain rfl (op_pick _ _ true _ rfl rfl),
                  st_plain rfl (op_move _ _ _ _ (congrArg (fun b => AV.v (Value.bool b)) hg23_8) rfl),
                  st_skip 8 74 _ true rfl rfl rfl rfl (List.Mem.head _),
                  st_skip 8 74 _ true rfl rfl rfl rfl (List.Mem.head _),
                  st_plain rfl (op_pick _ _ false _ rfl rfl),
                  st_plain rfl (op_move _ _ _ _ rfl rfl),
                  st_skip 12 78 _ true rfl rfl rfl rfl (List.Mem.head _),
                  st_skip 12 78 _ true rfl rfl rfl rfl (List.Mem.head _),
                  st_skip 12 78 _ true rfl rfl rfl rfl (List.Mem.head _),
                  st_plain rfl (op_pick _ _ false _ rfl rfl),
                  st_plain rfl (op_move _ _ _ _ rfl rfl),
                  st_skip 17 83 _ true rfl rfl rfl rfl (List.Mem.head _),
                  st_plain rfl (op_pick _ _ false _ rfl rfl),
                  st_plain rfl (op_assign _ _ _ _ rfl rfl),
                  trivial⟩ ?_
              exact hl104 _ (Option.some.inj h).symm
          · refine ht_seqR hn (El := (_ :: _ :: _ :: _ :: (66, .agg [.v (.int .i64 f.Kind), .v (.int .i64 f.Number), .v (.int .i64 f.Offset), .v (.int .i64 f.Seq), .fl .shr 1 (List.map (Value.int .u8) f.Data)]) :: (67, .v (.int .i64 v99)) :: (68, .v (.bool (v99 == 0))) :: (69, .v (.bool false)) :: (70, .v undef) :: (71, .v undef) :: (72, .v undef) :: (73, .v (.bool false)) :: (74, .v (.bool false)) :: (75, .v undef) :: (76, .v undef) :: (77, .v (.bool false)) :: (78, .v (.bool false)) :: (79, .v undef) :: (80, .v undef) :: (81, .v undef) :: (82, .v (.bool false)) :: (83, .v (.bool false)) :: (84, .v undef) :: (85, .v (.bool false)) :: (4, .v (.bool false)) :: [])) (init := [0, 1, 2, 3]) (fin := [24]) (sps := (⟨[0], [], [4], [(.slot 66)]⟩ :: ⟨[4], [], [5], [(.slot 67)]⟩ :: ⟨[5], [], [6], [(.slot 68)]⟩ :: ⟨[6], [], [7], [(.slot 69)]⟩ :: ⟨[7], [], [8], [(.slot 70)]⟩ :: ⟨[7], [], [9], [(.slot 71)]⟩ :: ⟨[7], [], [10], [(.slot 72)]⟩ :: ⟨[7], [], [11], [(.slot 73)]⟩ :: ⟨[11], [], [12], [(.slot 74)]⟩ :: ⟨[12], [], [13], [(.slot 75)]⟩ :: ⟨[12], [], [14], [(.slot 76)]⟩ :: ⟨[12], [], [15], [(.slot 77)]⟩ :: ⟨[15], [], [16], [(.slot 78)]⟩ :: ⟨[16], [], [17], [(.slot 79)]⟩ :: ⟨[16], [], [18], [(.slot 80)]⟩ :: ⟨[16], [], [19], [(.slot 81)]⟩ :: ⟨[16], [], [20], [(.slot 82)]⟩ :: ⟨[20], [], [21], [(.slot 83)]⟩ :: ⟨[21], [], [22], [(.slot 84)]⟩ :: ⟨[21], [], [23], [(.slot 85)]⟩ :: ⟨[23], [], [24], [(.slot 4)]⟩ :: [])) (es' := [(4, .v (.bool false))]) (by kernel_rfl) rfl rfl
              ⟨st_plain rfl (op_loadA _ _ _ _ _ _ _ Try.underlying24 rfl sz24 rfl rfl (Nat.le_of_ble_eq_true rfl) rfl rfl),
                st_plain rfl (op_call _ _ 16 _ _ rfl Try.call16 rfl (ok_frame_Check f _ hv99) rfl rfl),
                st_plain rfl (op_bin _ _ _ _ _ rfl rfl rfl),
                st_plain rfl (op_move _ _ _ _ (congrArg (fun b => AV.v (Value.bool b)) hg23_3) rfl),
                st_skip 3 69 _ true rfl rfl rfl rfl (List.Mem.head _),
                st_skip 3 69 _ true rfl rfl rfl rfl (List.Mem.head _),
                st_skip 3 69 _ true rfl rfl rfl rfl (List.Mem.head _),
                st_plain rfl (op_pick _ _ false _ rfl rfl),
                st_plain rfl (op_move _ _ _ _ rfl rfl),
                st_skip 8 74 _ true rfl rfl rfl rfl (List.Mem.head _),
                st_skip 8 74 _ true rfl rfl rfl rfl (List.Mem.head _),
                st_plain rfl (op_pick _ _ false _ rfl rfl),
                st_plain rfl (op_move _ _ _ _ rfl rfl),
                st_skip 12 78 _ true rfl rfl rfl rfl (List.Mem.head _),
                st_skip 12 78 _ true rfl rfl rfl rfl (List.Mem.head _),
                st_skip 12 78 _ true rfl rfl rfl rfl (List.Mem.head _),
                st_plain rfl (op_pick _ _ false _ rfl rfl),
                st_plain rfl (op_move _ _ _ _ rfl rfl),
                st_skip 17 83 _ true rfl rfl rfl rfl (List.Mem.head _),
                st_plain rfl (op_pick _ _ false _ rfl rfl),
                st_plain rfl (op_assign _ _ _ _ rfl rfl),
                trivial⟩ ?_
            exact hl104 _ (Option.some.inj h).symm
      · intro u55 h hl56 hr57
        refine ht_seq ?_
        obtain ⟨v8, hv8, h⟩ := bind_some h
        obtain ⟨v9, hv9, h⟩ := bind_some h
        refine ht_seqR hn (El := [_, _, _, (19, .v (.int .i64 how)), (20, .v (.int .u64 v8)), (21, .v (.int .u64 v9))]) (init := [0, 1, 2]) (fin := [1, 2, 5]) (sps := [⟨[0], [], [3], [(.slot 19)]⟩, ⟨[3], [], [4], [(.slot 20)]⟩, ⟨[4], [], [5], [(.slot 21)]⟩]) (es' := [(_, _), (_, _), (21, .v (.int .u64 v9))]) (by kernel_rfl) rfl rfl
          ⟨st_plain rfl (op_move _ _ _ _ rfl rfl),
            st_plain rfl ((Option.some.inj hv8) ▸ op_conv _ _ _ Try.underlying3 Try.underlying43 rfl),
            st_plain rfl (op_bin _ _ _ _ _ rfl rfl (rem_ok hv9)),
            trivial⟩ ?_
        refine pt_then ?_
        refine ht_joinS h (fun ((s74, s75, s76, s77, s78) : Int × Int × Int × Int × (List Int)) => [(2, .box 24 [.v (.int .i64 f.Kind), .v (.int .i64 f.Number), .v (.int .i64 f.Offset), .v (.int .i64 f.Seq), .fl .shr 1 (List.map (Value.int .u8) f.Data)]), (5, .box 24 [.v (.int .i64 s74), .v (.int .i64 s75), .v (.int .i64 s76), .v (.int .i64 s77), .fl (.own 5) 1 (List.map (Value.int .u8) s78)])]) ?_ ?_
        · rintro ⟨s74, s75, s76, s77, s78⟩ h
          exact hl56 _ (Option.some.inj h).symm
        · intro u79 h hl80 hr81
          refine ht_block ?_
          refine ht_seq ?_
          refine ht_seqR hn (El := [_, _, _, (33, .v (.bool (v9 == 0))), (32, .v (.bool (v9 == 0)))]) (init := [0, 1, 2]) (fin := [0, 1, 2, 4]) (sps := [⟨[2], [], [3], [(.slot 33)]⟩, ⟨[3], [], [4], [(.slot 32)]⟩]) (es' := [(_, _), (_, _), (_, _), (32, .v (.bool (v9 == 0)))]) (by kernel_rfl) rfl rfl
            ⟨st_plain rfl (op_bin _ _ _ _ _ rfl rfl rfl),
              st_plain rfl (op_assign _ _ _ _ rfl rfl),
              trivial⟩ ?_
          refine pt_then ?_
          refine ht_cond _ rfl (fun hb82 => ?_) (fun hb82 => ?_)
          · have h := cond_t hb82 h
            refine ht_seqR hn (El := [_, _, _, _, (34, .ptr 5 0), (5, .box 24 [.v (.int .i64 6), .v (.int .i64 v7.Number), .v (.int .i64 v7.Offset), .v (.int .i64 v7.Seq), .fl (.own 5) 1 (List.map (Value.int .u8) v7.Data)])]) (init := [0, 1, 2, 3]) (fin := [0, 5]) (sps := [⟨[1], [], [4], [(.slot 34)]⟩, ⟨[4], [1], [5], [.cell 5 0]⟩]) (es' := [(_, _), (5, .box 24 [.v (.int .i64 6), .v (.int .i64 v7.Number), .v (.int .i64 v7.Offset), .v (.int .i64 v7.Seq), .fl (.own 5) 1 (List.map (Value.int .u8) v7.Data)])]) (by kernel_rfl) rfl rfl
              ⟨st_plain rfl (op_fieldAddr _ _ _ _ 5 0 _ Try.underlying24 rfl sz3 rfl rfl (by decide)),
                st_plain rfl (op_store _ _ _ _ _ _ _ _ sz3 rfl rfl rfl rfl (Nat.le_of_ble_eq_true rfl) rfl rfl),
                trivial⟩ ?_
            refine pt_inb ?_
            exact hl80 _ (Option.some.inj h).symm
          · have h := cond_f hb82 h
            refine ht_seq ?_
            refine ht_seqR hn (El := [_, _, _, _, (36, .v (.bool (v9 == 1))), (35, .v (.bool (v9 == 1)))]) (init := [0, 1, 2, 3]) (fin := [0, 1, 2, 5]) (sps := [⟨[2], [], [4], [(.slot 36)]⟩, ⟨[4], [], [5], [(.slot 35)]⟩]) (es' := [(_, _), (_, _), (_, _), (35, .v (.bool (v9 == 1)))]) (by kernel_rfl) rfl rfl
              ⟨st_plain rfl (op_bin _ _ _ _ _ rfl rfl rfl),
                st_plain rfl (op_assign _ _ _ _ rfl rfl),
                trivial⟩ ?_
            refine pt_then ?_
            refine ht_cond _ rfl (fun hb83 => ?_) (fun hb83 => ?_)
            · have h := cond_t hb83 h
              refine ht_seqR hn (El := [_, _, _, _, (37, .ptr 5 1), (5, .box 24 [.v (.int .i64 v7.Kind), .v (.int .i64 0), .v (.int .i64 v7.Offset), .v (.int .i64 v7.Seq), .fl (.own 5) 1 (List.map (Value.int .u8) v7.Data)])]) (init := [0, 1, 2, 3]) (fin := [0, 5]) (sps := [⟨[1], [], [4], [(.slot 37)]⟩, ⟨[4], [1], [5], [.cell 5 1]⟩]) (es' := [(_, _), (5, .box 24 [.v (.int .i64 v7.Kind), .v (.int .i64 0), .v (.int .i64 v7.Offset), .v (.int .i64 v7.Seq), .fl (.own 5) 1 (List.map (Value.int .u8) v7.Data)])]) (by kernel_rfl) rfl rfl
                ⟨st_plain rfl (op_fieldAddr _ _ _ _ 5 0 _ Try.underlying24 rfl sz3 rfl rfl (by decide)),
                  st_plain rfl (op_store _ _ _ _ _ _ _ _ sz3 rfl rfl rfl rfl (Nat.le_of_ble_eq_true rfl) rfl rfl),
                  trivial⟩ ?_
              refine pt_inb ?_
              exact hl80 _ (Option.some.inj h).symm
            · have h := cond_f hb83 h
              refine ht_seq ?_
              refine ht_seqR hn (El := [_, _, _, _, (39, .v (.bool (v9 == 2))), (38, .v (.bool (v9 == 2)))]) (init := [0, 1, 2, 3]) (fin := [0, 1, 2, 5]) (sps := [⟨[2], [], [4], [(.slot 39)]⟩, ⟨[4], [], [5], [(.slot 38)]⟩]) (es' := [(_, _), (_, _), (_, _), (38, .v (.bool (v9 == 2)))]) (by kernel_rfl) rfl rfl
                ⟨st_plain rfl (op_bin _ _ _ _ _ rfl rfl rfl),
                  st_plain rfl (op_assign _ _ _ _ rfl rfl),
                  trivial⟩ ?_
              refine pt_then ?_
              refine ht_cond _ rfl (fun hb84 => ?_) (fun hb84 => ?_)
              · have h := cond_t hb84 h
                refine ht_seqR hn (El := [_, _, _, _, (40, .ptr 5 1), (5, .box 24 [.v (.int .i64 v7.Kind), .v (.int .i64 65536), .v (.int .i64 v7.Offset), .v (.int .i64 v7.Seq), .fl (.own 5) 1 (List.map (Value.int .u8) v7.Data)])]) (init := [0, 1, 2, 3]) (fin := [0, 5]) (sps := [⟨[1], [], [4], [(.slot 40)]⟩, ⟨[4], [1], [5], [.cell 5 1]⟩]) (es' := [(_, _), (5, .box 24 [.v (.int .i64 v7.Kind), .v (.int .i64 65536), .v (.int .i64 v7.Offset), .v (.int .i64 v7.Seq), .fl (.own 5) 1 (List.map (Value.int .u8) v7.Data)])]) (by kernel_rfl) rfl rfl
                  ⟨st_plain rfl (op_fieldAddr _ _ _ _ 5 0 _ Try.underlying24 rfl sz3 rfl rfl (by decide)),
                    st_plain rfl (op_store _ _ _ _ _ _ _ _ sz3 rfl rfl rfl rfl (Nat.le_of_ble_eq_true rfl) rfl rfl),
                    trivial⟩ ?_
                refine pt_inb ?_
                exact hl80 _ (Option.some.inj h).symm
              · have h := cond_f hb84 h
                refine ht_seq ?_
                refine ht_seqR hn (El := [_, _, _, _, (42, .v (.bool (v9 == 3))), (41, .v (.bool (v9 == 3)))]) (init := [0, 1, 2, 3]) (fin := [0, 1, 2, 5]) (sps := [⟨[2], [], [4], [(.slot 42)]⟩, ⟨[4], [], [5], [(.slot 41)]⟩]) (es' := [(_, _), (_, _), (_, _), (41, .v (.bool (v9 == 3)))]) (by kernel_rfl) rfl rfl
                  ⟨st_plain rfl (op_bin _ _ _ _ _ rfl rfl rfl),
                    st_plain rfl (op_assign _ _ _ _ rfl rfl),
                    trivial⟩ ?_
                refine pt_then ?_
                refine ht_cond _ rfl (fun hb85 => ?_) (fun hb85 => ?_)
                · have h := cond_t hb85 h
                  refine ht_seq ?_
                  refine ht_joinS h (fun (s86 : Bool) => [(2, .box 24 [.v (.int .i64 f.Kind), .v (.int .i64 f.Number), .v (.int .i64 f.Offset), .v (.int .i64 f.Seq), .fl .shr 1 (List.map (Value.int .u8) f.Data)]), (5, .box 24 [.v (.int .i64 v7.Kind), .v (.int .i64 v7.Number), .v (.int .i64 v7.Offset), .v (.int .i64 v7.Seq), .fl (.own 5) 1 (List.map (Value.int .u8) v7.Data)]), (50, .v (.bool s86))]) ?_ ?_
                  · rintro s86 h
                    refine pt_then ?_
                    refine ht_cond _ rfl (fun hb90 => ?_) (fun hb90 => ?_)
                    · have h := cond_t hb90 h
                      refine ht_seqR hn (El := [_, _, _, (51, .ptr 5 3), (5, .box 24 [.v (.int .i64 v7.Kind), .v (.int .i64 v7.Number), .v (.int .i64 v7.Offset), .v (.int .i64 8), .fl (.own 5) 1 (List.map (Value.int .u8) v7.Data)])]) (init := [0, 1, 2]) (fin := [0, 4]) (sps := [⟨[1], [], [3], [(.slot 51)]⟩, ⟨[3], [1], [4], [.cell 5 3]⟩]) (es' := [(_, _), (5, .box 24 [.v (.int .i64 v7.Kind), .v (.int .i64 v7.Number), .v (.int .i64 v7.Offset), .v (.int .i64 8), .fl (.own 5) 1 (List.map (Value.int .u8) v7.Data)])]) (by kernel_rfl) rfl rfl
                        ⟨st_plain rfl (op_fieldAddr _ _ _ _ 5 0 _ Try.underlying24 rfl sz3 rfl rfl (by decide)),
                          st_plain rfl (op_store _ _ _ _ _ _ _ _ sz3 rfl rfl rfl rfl (Nat.le_of_ble_eq_true rfl) rfl rfl),
                          trivial⟩ ?_
                      refine pt_inb ?_
                      exact hl80 _ (Option.some.inj h).symm
                    · have h := cond_f hb90 h
                      refine ht_seqR hn (El := [_, _, _, (52, .ptr 5 3), (5, .box 24 [.v (.int .i64 v7.Kind), .v (.int .i64 v7.Number), .v (.int .i64 v7.Offset), .v (.int .i64 1), .fl (.own 5) 1 (List.map (Value.int .u8) v7.Data)])]) (init := [0, 1, 2]) (fin := [0, 4]) (sps := [⟨[1], [], [3], [(.slot 52)]⟩, ⟨[3], [1], [4], [.cell 5 3]⟩]) (es' := [(_, _), (5, .box 24 [.v (.int .i64 v7.Kind), .v (.int .i64 v7.Number), .v (.int .i64 v7.Offset), .v (.int .i64 1), .fl (.own 5) 1 (List.map (Value.int .u8) v7.Data)])]) (by kernel_rfl) rfl rfl
                        ⟨st_plain rfl (op_fieldAddr _ _ _ _ 5 0 _ Try.underlying24 rfl sz3 rfl rfl (by decide)),
                          st_plain rfl (op_store _ _ _ _ _ _ _ _ sz3 rfl rfl rfl rfl (Nat.le_of_ble_eq_true rfl) rfl rfl),
                          trivial⟩ ?_
                      refine pt_inb ?_
                      exact hl80 _ (Option.some.inj h).symm
                  · intro u87 h hl88 hr89
                    refine cond_some h (fun hg15_3 h => ?_) (fun hg15_3 h => ?_)
                    · refine ht_seqR hn (El := [_, _, _, _, (43, .ptr 2 0), (44, .v (.int .i64 f.Kind)), (45, .v (.bool (f.Kind == 3))), (46, .v (.bool true)), (47, .v undef), (48, .v undef), (49, .v undef), (50, .v (.bool true))]) (init := [0, 1, 2, 3]) (fin := [0, 1, 11]) (sps := [⟨[0], [], [4], [(.slot 43)]⟩, ⟨[4, 0], [], [5], [(.slot 44)]⟩, ⟨[5], [], [6], [(.slot 45)]⟩, ⟨[6], [], [7], [(.slot 46)]⟩, ⟨[7], [], [8], [(.slot 47)]⟩, ⟨[7], [], [9], [(.slot 48)]⟩, ⟨[7], [], [10], [(.slot 49)]⟩, ⟨[7], [], [11], [(.slot 50)]⟩]) (es' := [(_, _), (_, _), (50, .v (.bool true))]) (by kernel_rfl) rfl rfl
                        ⟨st_plain rfl (op_fieldAddr _ _ _ _ 2 0 _ Try.underlying24 rfl sz3 rfl rfl (by decide)),
                          st_plain rfl (op_load _ _ _ _ _ _ Try.underlying3 rfl rfl rfl (Nat.le_of_ble_eq_true rfl) rfl rfl rfl),
                          st_plain rfl (op_bin _ _ _ _ _ rfl rfl rfl),
                          st_plain rfl (op_move _ _ _ _ (congrArg (fun b => AV.v (Value.bool b)) hg15_3) rfl),
                          st_skip 3 46 _ false rfl rfl rfl rfl (List.Mem.head _),
                          st_skip 3 46 _ false rfl rfl rfl rfl (List.Mem.head _),
                          st_skip 3 46 _ false rfl rfl rfl rfl (List.Mem.head _),
                          st_plain rfl (op_pick _ _ true _ rfl rfl),
                          trivial⟩ ?_
                      exact hl88 _ (Option.some.inj h).symm
                    · refine ht_seqR hn (El := [_, _, _, _, (43, .ptr 2 0), (44, .v (.int .i64 f.Kind)), (45, .v (.bool (f.Kind == 3))), (46, .v (.bool false)), (47, .ptr 2 0), (48, .v (.int .i64 f.Kind)), (49, .v (.bool (f.Kind == 4))), (50, .v (.bool (f.Kind == 4)))]) (init := [0, 1, 2, 3]) (fin := [0, 1, 11]) (sps := [⟨[0], [], [4], [(.slot 43)]⟩, ⟨[4, 0], [], [5], [(.slot 44)]⟩, ⟨[5], [], [6], [(.slot 45)]⟩, ⟨[6], [], [7], [(.slot 46)]⟩, ⟨[7, 0], [], [8], [(.slot 47)]⟩, ⟨[7, 8, 0], [], [9], [(.slot 48)]⟩, ⟨[7, 9], [], [10], [(.slot 49)]⟩, ⟨[7, 10], [], [11], [(.slot 50)]⟩]) (es' := [(_, _), (_, _), (50, .v (.bool (f.Kind == 4)))]) (by kernel_rfl) rfl rfl
                        ⟨st_plain rfl (op_fieldAddr _ _ _ _ 2 0 _ Try.underlying24 rfl sz3 rfl rfl (by decide)),
                          st_plain rfl (op_load _ _ _ _ _ _ Try.underlying3 rfl rfl rfl (Nat.le_of_ble_eq_true rfl) rfl rfl rfl),
                          st_plain rfl (op_bin _ _ _ _ _ rfl rfl rfl),
                          st_plain rfl (op_move _ _ _ _ (congrArg (fun b => AV.v (Value.bool b)) hg15_3) rfl),
                          st_run 3 46 false rfl rfl rfl (List.Mem.head _) (op_fieldAddr _ _ _ _ 2 0 _ Try.underlying24 rfl sz3 rfl rfl (by decide)),
                          st_run 3 46 false rfl rfl rfl (List.Mem.head _) (op_load _ _ _ _ _ _ Try.underlying3 rfl rfl rfl (Nat.le_of_ble_eq_true rfl) rfl rfl rfl),
                          st_run 3 46 false rfl rfl rfl (List.Mem.head _) (op_bin _ _ _ _ _ rfl rfl rfl),
                          st_plain rfl (op_pick _ _ false _ rfl rfl),
                          trivial⟩ ?_
                      exact hl88 _ (Option.some.inj h).symm
                · have h := cond_f hb85 h
                  refine ht_seq ?_
                  refine ht_seqR hn (El := [_, _, _, _, (54, .v (.bool (v9 == 4))), (53, .v (.bool (v9 == 4)))]) (init := [0, 1, 2, 3]) (fin := [0, 1, 5]) (sps := [⟨[2], [], [4], [(.slot 54)]⟩, ⟨[4], [], [5], [(.slot 53)]⟩]) (es' := [(_, _), (_, _), (53, .v (.bool (v9 == 4)))]) (by kernel_rfl) rfl rfl
                    ⟨st_plain rfl (op_bin _ _ _ _ _ rfl rfl rfl),
                      st_plain rfl (op_assign _ _ _ _ rfl rfl),
                      trivial⟩ ?_
                  refine pt_then ?_
                  refine ht_cond _ rfl (fun hb91 => ?_) (fun hb91 => ?_)
                  · have h := cond_t hb91 h
                    refine ht_seq ?_
                    refine ht_seqR hn (El := [_, _, _, (55, .ptr 2 0), (56, .v (.int .i64 f.Kind)), (57, .v (.bool (f.Kind == 3)))]) (init := [0, 1, 2]) (fin := [0, 1, 5]) (sps := [⟨[0], [], [3], [(.slot 55)]⟩, ⟨[3, 0], [], [4], [(.slot 56)]⟩, ⟨[4], [], [5], [(.slot 57)]⟩]) (es' := [(_, _), (_, _), (57, .v (.bool (f.Kind == 3)))]) (by kernel_rfl) rfl rfl
                      ⟨st_plain rfl (op_fieldAddr _ _ _ _ 2 0 _ Try.underlying24 rfl sz3 rfl rfl (by decide)),
                        st_plain rfl (op_load _ _ _ _ _ _ Try.underlying3 rfl rfl rfl (Nat.le_of_ble_eq_true rfl) rfl rfl rfl),
                        st_plain rfl (op_bin _ _ _ _ _ rfl rfl rfl),
                        trivial⟩ ?_
                    refine pt_then ?_
                    refine ht_cond _ rfl (fun hb92 => ?_) (fun hb92 => ?_)
                    · have h := cond_t hb92 h
                      refine ht_seqR hn (El := [_, _, _, (58, .ptr 5 4), (5, .box 24 [.v (.int .i64 v7.Kind), .v (.int .i64 v7.Number), .v (.int .i64 v7.Offset), .v (.int .i64 v7.Seq), .v (.slice none 0 0)])]) (init := [0, 1, 2]) (fin := [0, 4]) (sps := [⟨[1], [], [3], [(.slot 58)]⟩, ⟨[3], [1], [4], [.cell 5 4]⟩]) (es' := [(_, _), (5, .box 24 [.v (.int .i64 v7.Kind), .v (.int .i64 v7.Number), .v (.int .i64 v7.Offset), .v (.int .i64 v7.Seq), .v (.slice none 0 0)])]) (by kernel_rfl) rfl rfl
                        ⟨st_plain rfl (op_fieldAddr _ _ _ _ 5 0 _ Try.underlying24 rfl sz22 rfl rfl (by decide)),
                          st_plain rfl (op_store _ _ _ _ _ _ _ _ sz22 rfl rfl rfl rfl (Nat.le_of_ble_eq_true rfl) rfl rfl),
                          trivial⟩ ?_
                      refine pt_inb ?_
                      refine pt_sub (fs := [(2, .box 24 [.v (.int .i64 f.Kind), .v (.int .i64 f.Number), .v (.int .i64 f.Offset), .v (.int .i64 f.Seq), .fl .shr 1 (List.map (Value.int .u8) f.Data)]), (5, .box 24 [.v (.int .i64 v7.Kind), .v (.int .i64 v7.Number), .v (.int .i64 v7.Offset), .v (.int .i64 v7.Seq), .fl (.own 5) 1 (List.map (Value.int .u8) [])])]) (.same _ (.box _ _ (subs_cons (sub_refl _) (subs_cons (sub_refl _) (subs_cons (sub_refl _) (subs_cons (sub_refl _) (subs_cons (sub_nil 5 1) (subs_nil)))))) rfl .nil)) ?_
                      exact hl80 _ (Option.some.inj h).symm
                    · have h := cond_f hb92 h
                      refine ht_seqR hn (El := [_, _, _, (59, .fl (.own 5) 1 (List.map (Value.int .u8) [1])), (60, .ptr 5 4), (5, .box 24 [.v (.int .i64 v7.Kind), .v (.int .i64 v7.Number), .v (.int .i64 v7.Offset), .v (.int .i64 v7.Seq), .fl (.own 5) 1 (List.map (Value.int .u8) [1])])]) (init := [0, 1, 2]) (fin := [0, 5]) (sps := [⟨[], [], [3], [(.slot 59)]⟩, ⟨[1], [], [4], [(.slot 60)]⟩, ⟨[4], [3, 1], [5], [.cell 5 4]⟩]) (es' := [(_, _), (5, .box 24 [.v (.int .i64 v7.Kind), .v (.int .i64 v7.Number), .v (.int .i64 v7.Offset), .v (.int .i64 v7.Seq), .fl (.own 5) 1 (List.map (Value.int .u8) [1])])]) (by kernel_rfl) rfl rfl
                        ⟨st_plain rfl (op_buildSlice _ _ 1 (.int .u8 0) (List.map (Value.int .u8) [1]) [(0, .int .u8 1)] Try.underlying22 sz5 zr5 (fun _ V w o a hv hes => by simp only [List.map_toArray, List.map_cons, List.map_nil]; try rfl) (litfill (by simp [Instr.fill, Value.cells]; rfl) (by simp [List.range, List.range.loop])) (by simp [Value.oneCell']) rfl (by decide) (by decide) (by decide)),
                          st_plain rfl (op_fieldAddr _ _ _ _ 5 0 _ Try.underlying24 rfl sz22 rfl rfl (by decide)),
                          st_plain rfl (op_store_take _ _ _ _ _ _ _ _ sz22 rfl rfl rfl (Nat.le_of_ble_eq_true rfl) rfl rfl),
                          trivial⟩ ?_
                      refine pt_inb ?_
                      exact hl80 _ (Option.some.inj h).symm
                  · have h := cond_f hb91 h
                    refine ht_seq ?_
                    refine ht_joinS h (fun (s93 : Bool) => [(2, .box 24 [.v (.int .i64 f.Kind), .v (.int .i64 f.Number), .v (.int .i64 f.Offset), .v (.int .i64 f.Seq), .fl .shr 1 (List.map (Value.int .u8) f.Data)]), (5, .box 24 [.v (.int .i64 v7.Kind), .v (.int .i64 v7.Number), .v (.int .i64 v7.Offset), .v (.int .i64 v7.Seq), .fl (.own 5) 1 (List.map (Value.int .u8) v7.Data)]), (29, .v (.bool s93))]) ?_ ?_
                    · rintro s93 h
                      refine pt_then ?_
                      refine ht_cond _ rfl (fun hb97 => ?_) (fun hb97 => ?_)
                      · have h := cond_t hb97 h
                        refine ht_seqR hn (El := [_, _, _, (30, .ptr 5 2), (5, .box 24 [.v (.int .i64 v7.Kind), .v (.int .i64 v7.Number), .v (.int .i64 1), .v (.int .i64 v7.Seq), .fl (.own 5) 1 (List.map (Value.int .u8) v7.Data)])]) (init := [0, 1, 2]) (fin := [0, 4]) (sps := [⟨[1], [], [3], [(.slot 30)]⟩, ⟨[3], [1], [4], [.cell 5 2]⟩]) (es' := [(_, _), (5, .box 24 [.v (.int .i64 v7.Kind), .v (.int .i64 v7.Number), .v (.int .i64 1), .v (.int .i64 v7.Seq), .fl (.own 5) 1 (List.map (Value.int .u8) v7.Data)])]) (by kernel_rfl) rfl rfl
                          ⟨st_plain rfl (op_fieldAddr _ _ _ _ 5 0 _ Try.underlying24 rfl sz3 rfl rfl (by decide)),
                            st_plain rfl (op_store _ _ _ _ _ _ _ _ sz3 rfl rfl rfl rfl (Nat.le_of_ble_eq_true rfl) rfl rfl),
                            trivial⟩ ?_
                        refine pt_inb ?_
                        exact hl80 _ (Option.some.inj h).symm
                      · have h := cond_f hb97 h
                        refine ht_seqR hn (El := [_, _, _, (31, .ptr 5 2), (5, .box 24 [.v (.int .i64 v7.Kind), .v (.int .i64 v7.Number), .v (.int .i64 5001), .v (.int .i64 v7.Seq), .fl (.own 5) 1 (List.map (Value.int .u8) v7.Data)])]) (init := [0, 1, 2]) (fin := [0, 4]) (sps := [⟨[1], [], [3], [(.slot 31)]⟩, ⟨[3], [1], [4], [.cell 5 2]⟩]) (es' := [(_, _), (5, .box 24 [.v (.int .i64 v7.Kind), .v (.int .i64 v7.Number), .v (.int .i64 5001), .v (.int .i64 v7.Seq), .fl (.own 5) 1 (List.map (Value.int .u8) v7.Data)])]) (by kernel_rfl) rfl rfl
                          ⟨st_plain rfl (op_fieldAddr _ _ _ _ 5 0 _ Try.underlying24 rfl sz3 rfl rfl (by decide)),
                            st_plain rfl (op_store _ _ _ _ _ _ _ _ sz3 rfl rfl rfl rfl (Nat.le_of_ble_eq_true rfl) rfl rfl),
                            trivial⟩ ?_
                        refine pt_inb ?_
                        exact hl80 _ (Option.some.inj h).symm
                    · intro u94 h hl95 hr96
                      refine cond_some h (fun hg5_3 h => ?_) (fun hg5_3 h => ?_)
                      · refine ht_seqR hn (El := [_, _, _, (22, .ptr 2 0), (23, .v (.int .i64 f.Kind)), (24, .v (.bool (f.Kind == 4))), (25, .v (.bool true)), (26, .v undef), (27, .v undef), (28, .v undef), (29, .v (.bool true))]) (init := [0, 1, 2]) (fin := [0, 1, 10]) (sps := [⟨[0], [], [3], [(.slot 22)]⟩, ⟨[3, 0], [], [4], [(.slot 23)]⟩, ⟨[4], [], [5], [(.slot 24)]⟩, ⟨[5], [], [6], [(.slot 25)]⟩, ⟨[6], [], [7], [(.slot 26)]⟩, ⟨[6], [], [8], [(.slot 27)]⟩, ⟨[6], [], [9], [(.slot 28)]⟩, ⟨[6], [], [10], [(.slot 29)]⟩]) (es' := [(_, _), (_, _), (29, .v (.bool true))]) (by kernel_rfl) rfl rfl
                          ⟨st_plain rfl (op_fieldAddr _ _ _ _ 2 0 _ Try.underlying24 rfl sz3 rfl rfl (by decide)),
                            st_plain rfl (op_load _ _ _ _ _ _ Try.underlying3 rfl rfl rfl (Nat.le_of_ble_eq_true rfl) rfl rfl rfl),
                            st_plain rfl (op_bin _ _ _ _ _ rfl rfl rfl),
                            st_plain rfl (op_move _ _ _ _ (congrArg (fun b => AV.v (Value.bool b)) hg5_3) rfl),
                            st_skip 3 25 _ false rfl rfl rfl rfl (List.Mem.head _),
                            st_skip 3 25 _ false rfl rfl rfl rfl (List.Mem.head _),
                            st_skip 3 25 _ false rfl rfl rfl rfl (List.Mem.head _),
                            st_plain rfl (op_pick _ _ true _ rfl rfl),
                            trivial⟩ ?_
                        exact hl95 _ (Option.some.inj h).symm
                      · refine ht_seqR hn (El := [_, _, _, (22, .ptr 2 0), (23, .v (.int .i64 f.Kind)), (24, .v (.bool (f.Kind == 4))), (25, .v (.bool false)), (26, .ptr 2 0), (27, .v (.int .i64 f.Kind)), (28, .v (.bool (f.Kind == 5))), (29, .v (.bool (f.Kind == 5)))]) (init := [0, 1, 2]) (fin := [0, 1, 10]) (sps := [⟨[0], [], [3], [(.slot 22)]⟩, ⟨[3, 0], [], [4], [(.slot 23)]⟩, ⟨[4], [], [5], [(.slot 24)]⟩, ⟨[5], [], [6], [(.slot 25)]⟩, ⟨[6, 0], [], [7], [(.slot 26)]⟩, ⟨[6, 7, 0], [], [8], [(.slot 27)]⟩, ⟨[6, 8], [], [9], [(.slot 28)]⟩, ⟨[6, 9], [], [10], [(.slot 29)]⟩]) (es' := [(_, _), (_, _), (29, .v (.bool (f.Kind == 5)))]) (by kernel_rfl) rfl rfl
                          ⟨st_plain rfl (op_fieldAddr _ _ _ _ 2 0 _ Try.underlying24 rfl sz3 rfl rfl (by decide)),
                            st_plain rfl (op_load _ _ _ _ _ _ Try.underlying3 rfl rfl rfl (Nat.le_of_ble_eq_true rfl) rfl rfl rfl),
                            st_plain rfl (op_bin _ _ _ _ _ rfl rfl rfl),
                            st_plain rfl (op_move _ _ _ _ (congrArg (fun b => AV.v (Value.bool b)) hg5_3) rfl),
                            st_run 3 25 false rfl rfl rfl (List.Mem.head _) (op_fieldAddr _ _ _ _ 2 0 _ Try.underlying24 rfl sz3 rfl rfl (by decide)),
                            st_run 3 25 false rfl rfl rfl (List.Mem.head _) (op_load _ _ _ _ _ _ Try.underlying3 rfl rfl rfl (Nat.le_of_ble_eq_true rfl) rfl rfl rfl),
                            st_run 3 25 false rfl rfl rfl (List.Mem.head _) (op_bin _ _ _ _ _ rfl rfl rfl),
                            st_plain rfl (op_pick _ _ false _ rfl rfl),
                            trivial⟩ ?_
                        exact hl95 _ (Option.some.inj h).symm
  · intro u3 h hl4 hr5
    refine cond_some h (fun hg1_4 h => ?_) (fun hg1_4 h => ?_)
    · refine ht_seqR hn (El := [_, _, (8, .ptr 2 4), (9, .fl .shr 1 (List.map (Value.int .u8) f.Data)), (10, .v (.int .i64 (f.Data.length : Int))), (11, .v (.bool ((decide (300 < (f.Data.length : Int)))))), (12, .v (.bool true)), (13, .v undef), (14, .v undef), (15, .v undef), (16, .v (.bool true))]) (init := [0, 1]) (fin := [0, 1, 10]) (sps := [⟨[1], [], [2], [(.slot 8)]⟩, ⟨[2, 1], [], [3], [(.slot 9)]⟩, ⟨[3], [], [4], [(.slot 10)]⟩, ⟨[4], [], [5], [(.slot 11)]⟩, ⟨[5], [], [6], [(.slot 12)]⟩, ⟨[6], [], [7], [(.slot 13)]⟩, ⟨[6], [], [8], [(.slot 14)]⟩, ⟨[6], [], [9], [(.slot 15)]⟩, ⟨[6], [], [10], [(.slot 16)]⟩]) (es' := [(_, _), (_, _), (16, .v (.bool true))]) (by kernel_rfl) rfl rfl
        ⟨st_plain rfl (op_fieldAddr _ _ _ _ 2 0 _ Try.underlying24 rfl sz22 rfl rfl (by decide)),
          st_plain rfl (op_load _ _ _ _ _ _ Try.underlying22 rfl rfl rfl (Nat.le_of_ble_eq_true rfl) rfl rfl rfl),
          st_plain rfl (op_len_fl _ _ _ Try.underlying22 rfl (by decide) (map_len _)),
          st_plain rfl (op_bin _ _ _ _ _ rfl rfl rfl),
          st_plain rfl (op_move _ _ _ _ (congrArg (fun b => AV.v (Value.bool b)) hg1_4) rfl),
          st_skip 4 12 _ false rfl rfl rfl rfl (List.Mem.head _),
          st_skip 4 12 _ false rfl rfl rfl rfl (List.Mem.head _),
          st_skip 4 12 _ false rfl rfl rfl rfl (List.Mem.head _),
          st_plain rfl (op_pick _ _ true _ rfl rfl),
          trivial⟩ ?_
      exact hl4 _ (Option.some.inj h).symm
    · obtain ⟨v1, hv1, h⟩ := bind_some h
      refine ht_seqR hn (El := [_, _, (8, .ptr 2 4), (9, .fl .shr 1 (List.map (Value.int .u8) f.Data)), (10, .v (.int .i64 (f.Data.length : Int))), (11, .v (.bool ((decide (300 < (f.Data.length : Int)))))), (12, .v (.bool false)), (13, .agg [.v (.int .i64 f.Kind), .v (.int .i64 f.Number), .v (.int .i64 f.Offset), .v (.int .i64 f.Seq), .fl .shr 1 (List.map (Value.int .u8) f.Data)]), (14, .v (.bool v1)), (15, .v (.bool (!v1))), (16, .v (.bool (!v1)))]) (init := [0, 1]) (fin := [0, 1, 10]) (sps := [⟨[1], [], [2], [(.slot 8)]⟩, ⟨[2, 1], [], [3], [(.slot 9)]⟩, ⟨[3], [], [4], [(.slot 10)]⟩, ⟨[4], [], [5], [(.slot 11)]⟩, ⟨[5], [], [6], [(.slot 12)]⟩, ⟨[6, 1], [], [7], [(.slot 13)]⟩, ⟨[6, 7], [], [8], [(.slot 14)]⟩, ⟨[6, 8], [], [9], [(.slot 15)]⟩, ⟨[6, 9], [], [10], [(.slot 16)]⟩]) (es' := [(_, _), (_, _), (16, .v (.bool (!v1)))]) (by kernel_rfl) rfl rfl
        ⟨st_plain rfl (op_fieldAddr _ _ _ _ 2 0 _ Try.underlying24 rfl sz22 rfl rfl (by decide)),
          st_plain rfl (op_load _ _ _ _ _ _ Try.underlying22 rfl rfl rfl (Nat.le_of_ble_eq_true rfl) rfl rfl rfl),
          st_plain rfl (op_len_fl _ _ _ Try.underlying22 rfl (by decide) (map_len _)),
          st_plain rfl (op_bin _ _ _ _ _ rfl rfl rfl),
          st_plain rfl (op_move _ _ _ _ (congrArg (fun b => AV.v (Value.bool b)) hg1_4) rfl),
          st_run 4 12 false rfl rfl rfl (List.Mem.head _) (op_loadA _ _ _ _ _ _ _ Try.underlying24 rfl sz24 rfl rfl (Nat.le_of_ble_eq_true rfl) rfl rfl),
          st_run 4 12 false rfl rfl rfl (List.Mem.head _) (op_call _ _ 15 _ _ rfl Try.call15 rfl (ok_wherryref18_Frame f _ hv1) rfl rfl),
          st_run 4 12 false rfl rfl rfl (List.Mem.head _) (op_un _ _ _ _ rfl rfl),
          st_plain rfl (op_pick _ _ false _ rfl rfl),
          trivial⟩ ?_
      exact hl4 _ (Option.some.inj h).symm

end Go.Proofs.Ytenfngliiibiiaa
