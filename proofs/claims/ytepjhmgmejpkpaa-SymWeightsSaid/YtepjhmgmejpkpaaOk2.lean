/-
  The model's runs are what is told in Lean.
-/
import Derived.Test.YtepjhmgmejpkpaaProg
import Derived.KernelRfl
import Derived.Test.YtepjhmgmejpkpaaOk1
set_option linter.unusedVariables false
set_option linter.unusedSimpArgs false
namespace Go.Proofs.Ytepjhmgmejpkpaa
open Go.Abs Go.Abs.Sh

set_option maxHeartbeats 1000000 in
theorem ok_wherryref01_CheckToks (l : (List T_Tok)) (r : Int) (h : Sh.wherryref01_CheckToks l = some r) : FnOK Try.prog 36 [.fl .shr 3 (List.flatten (List.map T_Tok.enc l))] (.v (.int .i64 r)) := by
  unfold Sh.wherryref01_CheckToks at h
  refine fn_ok Try.func36 rfl (Nat.le_of_ble_eq_true rfl) rfl rfl fun g0 hn hio => ?_
  refine ht_seq ?_
  refine ht_seqR hn (El := [_, (2, .v (.int .i64 0))]) (init := [0]) (fin := [0]) (sps := [⟨[], [], [1], [(.slot 2)]⟩]) (es' := [(_, _)]) (by kernel_rfl) rfl rfl
    ⟨st_plain rfl (op_assign _ _ _ _ rfl rfl),
      trivial⟩ ?_
  refine pt_then ?_
  refine ht_seq ?_
  refine ht_seqR hn (El := [_, (3, .v (.int .i64 0))]) (init := [0]) (fin := [0, 1]) (sps := [⟨[], [], [1], [(.slot 3)]⟩]) (es' := [(_, _), (3, .v (.int .i64 0))]) (by kernel_rfl) rfl rfl
    ⟨st_plain rfl (op_assign _ _ _ _ rfl rfl),
      trivial⟩ ?_
  refine pt_then ?_
  refine ht_seq ?_
  refine ht_seqR hn (El := [_, _, (4, .v (.bool false))]) (init := [0, 1]) (fin := [0, 1, 2]) (sps := [⟨[], [], [2], [(.slot 4)]⟩]) (es' := [(_, _), (_, _), (4, .v (.bool false))]) (by kernel_rfl) rfl rfl
    ⟨st_plain rfl (op_assign _ _ _ _ rfl rfl),
      trivial⟩ ?_
  refine pt_then ?_
  refine ht_seq ?_
  refine ht_seq ?_
  refine ht_seqR hn (El := [_, _, _, (5, .v (.int .i64 0))]) (init := [0, 1, 2]) (fin := [0, 1, 2, 3]) (sps := [⟨[], [], [3], [(.slot 5)]⟩]) (es' := [(_, _), (_, _), (_, _), (5, .v (.int .i64 0))]) (by kernel_rfl) rfl rfl
    ⟨st_plain rfl (op_assign _ _ _ _ rfl rfl),
      trivial⟩ ?_
  refine pt_then ?_
  refine ht_loopS h (fun ((s78, s79, s80) : Int × Bool × Int) => [(0, .fl .shr 3 (List.flatten (List.map T_Tok.enc l))), (3, .v (.int .i64 s78)), (4, .v (.bool s79)), (5, .v (.int .i64 s80))]) (fun (s110 : Bool) => [(4, .v (.bool s110))]) ?_ ?_
  · rintro s110 h
    refine pt_then ?_
    refine ht_seq ?_
    refine ht_seq ?_
    refine ht_seqR hn (El := [_, (75, .v (.bool s110))]) (init := [0]) (fin := [1]) (sps := [⟨[0], [], [1], [(.slot 75)]⟩]) (es' := [(75, .v (.bool s110))]) (by kernel_rfl) rfl rfl
      ⟨st_plain rfl (op_move _ _ _ _ rfl rfl),
        trivial⟩ ?_
    refine pt_then ?_
    refine ht_cond _ rfl (fun hb146 => ?_) (fun hb146 => ?_)
    · have h := cond_t hb146 h
      refine ht_seq ?_
      refine ht_seqR hn (El := [_, (2, .v (.int .i64 2))]) (init := [0]) (fin := [1]) (sps := [⟨[], [], [1], [(.slot 2)]⟩]) (es' := [(2, .v (.int .i64 2))]) (by kernel_rfl) rfl rfl
        ⟨st_plain rfl (op_assign _ _ _ _ rfl rfl),
          trivial⟩ ?_
      refine pt_then ?_
      refine ht_ret ?_
      refine pt_r_then ?_
      obtain rfl := Option.some.inj h
      exact pt_ret hio rfl (.tmp _ _ .nil) rfl rfl
    · have h := cond_f hb146 h
      refine ht_skip ?_
      refine pt_then ?_
      refine ht_seq ?_
      refine ht_seqR hn (El := [_, (2, .v (.int .i64 0))]) (init := [0]) (fin := [1]) (sps := [⟨[], [], [1], [(.slot 2)]⟩]) (es' := [(2, .v (.int .i64 0))]) (by kernel_rfl) rfl rfl
        ⟨st_plain rfl (op_assign _ _ _ _ rfl rfl),
          trivial⟩ ?_
      refine pt_then ?_
      refine ht_ret ?_
      obtain rfl := Option.some.inj h
      exact pt_ret hio rfl (.tmp _ _ .nil) rfl rfl
  · rintro u111 hl112 hr113 ⟨s78, s79, s80⟩ rr116 h ho114
    refine ht_seq ?_
    refine ht_seq ?_
    refine ht_seqR hn (El := [_, _, _, _, (6, .v (.int .i64 s80)), (7, .fl .shr 3 (List.flatten (List.map T_Tok.enc l))), (8, .v (.int .i64 (l.length : Int))), (9, .v (.bool ((decide (s80 < (l.length : Int))))))]) (init := [0, 1, 2, 3]) (fin := [0, 1, 2, 3, 7]) (sps := [⟨[3], [], [4], [(.slot 6)]⟩, ⟨[0], [], [5], [(.slot 7)]⟩, ⟨[5], [], [6], [(.slot 8)]⟩, ⟨[4, 6], [], [7], [(.slot 9)]⟩]) (es' := [(_, _), (_, _), (_, _), (_, _), (9, .v (.bool ((decide (s80 < (l.length : Int))))))]) (by kernel_rfl) rfl rfl
      ⟨st_plain rfl (op_move _ _ _ _ rfl rfl),
        st_plain rfl (op_move _ _ _ _ rfl rfl),
        st_plain rfl (op_len_fl _ _ _ Try.underlying22 rfl (by decide) (flat_len T_Tok.len _)),
        st_plain rfl (op_bin _ _ _ _ _ rfl rfl rfl),
        trivial⟩ ?_
    refine pt_then ?_
    refine ht_cond _ rfl (fun hb117 => ?_) (fun hb117 => ?_)
    · have h := cond_t hb117 h
      refine ht_skip ?_
      refine pt_then ?_
      refine ht_seq ?_
      refine ht_block ?_
      refine ht_seq ?_
      refine ht_joinS h (fun (s128 : Int) => [(0, .fl .shr 3 (List.flatten (List.map T_Tok.enc l))), (4, .v (.bool s79)), (5, .v (.int .i64 s80)), (3, .v (.int .i64 s128))]) ?_ ?_
      · rintro s128 h
        refine pt_then ?_
        refine ht_seq ?_
        refine ht_joinS h (fun (s142 : Bool) => [(0, .fl .shr 3 (List.flatten (List.map T_Tok.enc l))), (5, .v (.int .i64 s80)), (3, .v (.int .i64 s128)), (4, .v (.bool s142))]) ?_ ?_
        · rintro s142 h
          refine pt_then ?_
          obtain ⟨v44, hv44, h⟩ := bind_some h
          refine ht_seqR hn (El := [_, _, _, _, (73, .v (.int .i64 s128)), (74, .v (.int .i64 v44)), (3, .v (.int .i64 v44))]) (init := [0, 1, 2, 3]) (fin := [0, 1, 3, 6]) (sps := [⟨[2], [], [4], [(.slot 73)]⟩, ⟨[4], [], [5], [(.slot 74)]⟩, ⟨[5], [2], [6], [(.slot 3)]⟩]) (es' := [(_, _), (_, _), (_, _), (3, .v (.int .i64 v44))]) (by kernel_rfl) rfl rfl
            ⟨st_plain rfl (op_move _ _ _ _ rfl rfl),
              st_plain rfl ((Option.some.inj hv44) ▸ op_min _ _ _ _ rfl rfl),
              st_plain rfl (LOp.drop [_] (op_assign _ _ _ _ rfl rfl)),
              trivial⟩ ?_
          refine pt_inb ?_
          refine pt_then ?_
          obtain ⟨v45, hv45, h⟩ := bind_some h
          refine ht_seqR hn (El := [_, _, _, _, (10, .v (.int .i64 s80)), (11, .v (.int .i64 v45)), (5, .v (.int .i64 v45))]) (init := [0, 1, 2, 3]) (fin := [0, 2, 3, 6]) (sps := [⟨[1], [], [4], [(.slot 10)]⟩, ⟨[4], [], [5], [(.slot 11)]⟩, ⟨[5], [1], [6], [(.slot 5)]⟩]) (es' := [(_, _), (_, _), (_, _), (5, .v (.int .i64 v45))]) (by kernel_rfl) rfl rfl
            ⟨st_plain rfl (op_move _ _ _ _ rfl rfl),
              st_plain rfl (op_bin _ _ _ _ _ rfl rfl (ibind (f := Value.int .i64) (Option.some.inj hv45))),
              st_plain rfl (LOp.drop [_] (op_assign _ _ _ _ rfl rfl)),
              trivial⟩ ?_
          refine pt_pick [0, 2, 1, 3] (by kernel_rfl) (es' := [(_, _), (_, _), (_, _), (_, _)]) rfl ?_
          exact pt_next _ (Option.some.inj h).symm rfl
        · intro u143 h hl144 hr145
          refine cond_some h (fun hg11_1 h => ?_) (fun hg11_1 h => ?_)
          · refine ht_seqR hn (El := [_, _, _, _, (68, .v (.bool s79)), (69, .v (.bool true)), (70, .v undef), (71, .v undef), (72, .v (.bool true)), (4, .v (.bool true))]) (init := [0, 1, 2, 3]) (fin := [0, 2, 3, 9]) (sps := [⟨[1], [], [4], [(.slot 68)]⟩, ⟨[4], [], [5], [(.slot 69)]⟩, ⟨[5], [], [6], [(.slot 70)]⟩, ⟨[5], [], [7], [(.slot 71)]⟩, ⟨[5], [], [8], [(.slot 72)]⟩, ⟨[8], [1], [9], [(.slot 4)]⟩]) (es' := [(_, _), (_, _), (_, _), (4, .v (.bool true))]) (by kernel_rfl) rfl rfl
              ⟨st_plain rfl (op_move _ _ _ _ rfl rfl),
                st_plain rfl (op_move _ _ _ _ (congrArg (fun b => AV.v (Value.bool b)) hg11_1) rfl),
                st_skip 1 69 _ false rfl rfl rfl rfl (List.Mem.head _),
                st_skip 1 69 _ false rfl rfl rfl rfl (List.Mem.head _),
                st_plain rfl (op_pick _ _ true _ rfl rfl),
                st_plain rfl (LOp.drop [_] (op_assign _ _ _ _ rfl rfl)),
                trivial⟩ ?_
            exact hl144 _ (Option.some.inj h).symm
          · refine ht_seqR hn (El := [_, _, _, _, (68, .v (.bool s79)), (69, .v (.bool false)), (70, .v (.int .i64 s128)), (71, .v (.bool ((decide (4096 < s128))))), (72, .v (.bool ((decide (4096 < s128))))), (4, .v (.bool ((decide (4096 < s128)))))]) (init := [0, 1, 2, 3]) (fin := [0, 2, 3, 9]) (sps := [⟨[1], [], [4], [(.slot 68)]⟩, ⟨[4], [], [5], [(.slot 69)]⟩, ⟨[5, 3], [], [6], [(.slot 70)]⟩, ⟨[5, 6], [], [7], [(.slot 71)]⟩, ⟨[5, 7], [], [8], [(.slot 72)]⟩, ⟨[8], [1], [9], [(.slot 4)]⟩]) (es' := [(_, _), (_, _), (_, _), (4, .v (.bool ((decide (4096 < s128)))))]) (by kernel_rfl) rfl rfl
              ⟨st_plain rfl (op_move _ _ _ _ rfl rfl),
                st_plain rfl (op_move _ _ _ _ (congrArg (fun b => AV.v (Value.bool b)) hg11_1) rfl),
                st_run 1 69 false rfl rfl rfl (List.Mem.head _) (op_move _ _ _ _ rfl rfl),
                st_run 1 69 false rfl rfl rfl (List.Mem.head _) (op_bin _ _ _ _ _ rfl rfl rfl),
                st_plain rfl (op_pick _ _ false _ rfl rfl),
                st_plain rfl (LOp.drop [_] (op_assign _ _ _ _ rfl rfl)),
                trivial⟩ ?_
            exact hl144 _ (Option.some.inj h).symm
      · intro u129 h hl130 hr131
        refine ht_seq ?_
        refine ht_joinS h (fun (s132 : Bool) => [(0, .fl .shr 3 (List.flatten (List.map T_Tok.enc l))), (3, .v (.int .i64 s78)), (4, .v (.bool s79)), (5, .v (.int .i64 s80)), (25, .v (.bool s132))]) ?_ ?_
        · rintro s132 h
          refine pt_then ?_
          refine ht_cond _ rfl (fun hb136 => ?_) (fun hb136 => ?_)
          · have h := cond_t hb136 h
            obtain ⟨v11, hv11, h⟩ := bind_some h
            refine ht_seqR hn (El := [_, _, _, _, _, (26, .v (.int .i64 s78)), (27, .v (.int .i64 v11)), (3, .v (.int .i64 v11))]) (init := [0, 1, 2, 3, 4]) (fin := [0, 2, 3, 7]) (sps := [⟨[1], [], [5], [(.slot 26)]⟩, ⟨[5], [], [6], [(.slot 27)]⟩, ⟨[6], [1], [7], [(.slot 3)]⟩]) (es' := [(_, _), (_, _), (_, _), (3, .v (.int .i64 v11))]) (by kernel_rfl) rfl rfl
              ⟨st_plain rfl (op_move _ _ _ _ rfl rfl),
                st_plain rfl (op_bin _ _ _ _ _ rfl rfl (ibind (f := Value.int .i64) (Option.some.inj hv11))),
                st_plain rfl (LOp.drop [_] (op_assign _ _ _ _ rfl rfl)),
                trivial⟩ ?_
            exact hl130 _ (Option.some.inj h).symm
          · have h := cond_f hb136 h
            refine ht_seq ?_
            refine ht_seq ?_
            refine ht_joinS h (fun (s137 : Bool) => [(0, .fl .shr 3 (List.flatten (List.map T_Tok.enc l))), (3, .v (.int .i64 s78)), (4, .v (.bool s79)), (5, .v (.int .i64 s80)), (60, .v (.bool s137))]) ?_ ?_
            · rintro s137 h
              refine pt_then ?_
              refine ht_cond _ rfl (fun hb141 => ?_) (fun hb141 => ?_)
              · have h := cond_t hb141 h
                refine ht_seq ?_
                refine ht_seqR hn (El := [_, _, _, _, _, (2, .v (.int .i64 1))]) (init := [0, 1, 2, 3, 4]) (fin := [5]) (sps := [⟨[], [], [5], [(.slot 2)]⟩]) (es' := [(2, .v (.int .i64 1))]) (by kernel_rfl) rfl rfl
                  ⟨st_plain rfl (op_assign _ _ _ _ rfl rfl),
                    trivial⟩ ?_
                refine pt_then ?_
                refine ht_ret ?_
                refine pt_r_then ?_
                refine pt_r_then ?_
                refine pt_r_in ?_
                refine pt_r_then ?_
                refine pt_r_then ?_
                refine pt_r_in ?_
                refine pt_r_then ?_
                have h := hr131 _ (Option.some.inj h).symm
                have h := hr113 _ (ho114 _ (Option.some.inj h).symm).symm
                obtain rfl := Option.some.inj h
                exact pt_ret hio rfl (.tmp _ _ .nil) rfl rfl
              · have h := cond_f hb141 h
                refine ht_skip ?_
                refine pt_then ?_
                obtain ⟨v27, hv27, h⟩ := bind_some h
                obtain ⟨v28, hv28, h⟩ := bind_some h
                obtain ⟨v29, hv29, h⟩ := bind_some h
                refine ht_seqR hn (El := [_, _, _, _, _, (61, .v (.int .i64 s78)), (62, .fl .shr 3 (List.flatten (List.map T_Tok.enc l))), (63, .v (.int .i64 s80)), (64, .eref (.slot 62) (v27 * 3)), (65, .eref (.slot 62) (v27 * 3 + 1)), (66, .v (.int .i64 v28.Len)), (67, .v (.int .i64 v29)), (3, .v (.int .i64 v29))]) (init := [0, 1, 2, 3, 4]) (fin := [0, 2, 3, 12]) (sps := [⟨[1], [], [5], [(.slot 61)]⟩, ⟨[0], [], [6], [(.slot 62)]⟩, ⟨[3], [], [7], [(.slot 63)]⟩, ⟨[6, 7], [], [8], [(.slot 64)]⟩, ⟨[8, 6], [], [9], [(.slot 65)]⟩, ⟨[9, 6], [], [10], [(.slot 66)]⟩, ⟨[5, 10], [], [11], [(.slot 67)]⟩, ⟨[11], [1], [12], [(.slot 3)]⟩]) (es' := [(_, _), (_, _), (_, _), (3, .v (.int .i64 v29))]) (by kernel_rfl) rfl rfl
                  ⟨st_plain rfl (op_move _ _ _ _ rfl rfl),
                    st_plain rfl (op_move _ _ _ _ rfl rfl),
                    st_plain rfl (op_move _ _ _ _ rfl rfl),
                    st_plain rfl (op_ix _ _ _ _ _ _ _ _ Try.underlying22 sz48 (by decide) rfl rfl rfl (ix_ok hv27).1 (flat_lt T_Tok.len (ix_ok hv27).2) rfl),
                    st_plain rfl (op_fieldAddr_e _ _ _ _ _ _ _ Try.underlying48 rfl sz3 rfl rfl rfl),
                    st_plain rfl (op_load_e _ _ _ _ _ _ Try.underlying3 rfl rfl rfl (flat_cell T_Tok.len hv28 rfl)),
                    st_plain rfl (op_bin _ _ _ _ _ rfl rfl (ibind (f := Value.int .i64) (Option.some.inj hv29))),
                    st_plain rfl (LOp.drop [_] (op_assign _ _ _ _ rfl rfl)),
                    trivial⟩ ?_
                exact hl130 _ (Option.some.inj h).symm
            · intro u138 h hl139 hr140
              obtain ⟨v12, hv12, h⟩ := bind_some h
              obtain ⟨v13, hv13, h⟩ := bind_some h
              refine cond_some h (fun hg8_6 h => ?_) (fun hg8_6 h => ?_)
              · refine ht_seqR hn (El := (_ :: _ :: _ :: _ :: _ :: (28, .fl .shr 3 (List.flatten (List.map T_Tok.enc l))) :: (29, .v (.int .i64 s80)) :: (30, .eref (.slot 28) (v12 * 3)) :: (31, .eref (.slot 28) (v12 * 3 + 0)) :: (32, .v (.int .u8 v13.Byte)) :: (33, .v (.bool (v13.Byte != 0))) :: (34, .v (.bool true)) :: (35, .v undef) :: (36, .v undef) :: (37, .v undef) :: (38, .v undef) :: (39, .v undef) :: (40, .v undef) :: (41, .v undef) :: (42, .v (.bool true)) :: (43, .v (.bool true)) :: (44, .v undef) :: (45, .v undef) :: (46, .v undef) :: (47, .v undef) :: (48, .v undef) :: (49, .v undef) :: (50, .v undef) :: (51, .v (.bool true)) :: (52, .v (.bool true)) :: (53, .v undef) :: (54, .v undef) :: (55, .v undef) :: (56, .v undef) :: (57, .v undef) :: (58, .v undef) :: (59, .v undef) :: (60, .v (.bool true)) :: [])) (init := [0, 1, 2, 3, 4]) (fin := [0, 1, 2, 3, 37]) (sps := (⟨[0], [], [5], [(.slot 28)]⟩ :: ⟨[3], [], [6], [(.slot 29)]⟩ :: ⟨[5, 6], [], [7], [(.slot 30)]⟩ :: ⟨[7, 5], [], [8], [(.slot 31)]⟩ :: ⟨[8, 5], [], [9], [(.slot 32)]⟩ :: ⟨[9], [], [10], [(.slot 33)]⟩ :: ⟨[10], [], [11], [(.slot 34)]⟩ :: ⟨[11], [], [12], [(.slot 35)]⟩ :: ⟨[11], [], [13], [(.slot 36)]⟩ :: ⟨[11], [], [14], [(.slot 37)]⟩ :: ⟨[11], [], [15], [(.slot 38)]⟩ :: ⟨[11], [], [16], [(.slot 39)]⟩ :: ⟨[11], [], [17], [(.slot 40)]⟩ :: ⟨[11], [], [18], [(.slot 41)]⟩ :: ⟨[11], [], [19], [(.slot 42)]⟩ :: ⟨[19], [], [20], [(.slot 43)]⟩ :: ⟨[20], [], [21], [(.slot 44)]⟩ :: ⟨[20], [], [22], [(.slot 45)]⟩ :: ⟨[20], [], [23], [(.slot 46)]⟩ :: ⟨[20], [], [24], [(.slot 47)]⟩ :: ⟨[20], [], [25], [(.slot 48)]⟩ :: ⟨[20], [], [26], [(.slot 49)]⟩ :: ⟨[20], [], [27], [(.slot 50)]⟩ :: ⟨[20], [], [28], [(.slot 51)]⟩ :: ⟨[28], [], [29], [(.slot 52)]⟩ :: ⟨[29], [], [30], [(.slot 53)]⟩ :: ⟨[29], [], [31], [(.slot 54)]⟩ :: ⟨[29], [], [32], [(.slot 55)]⟩ :: ⟨[29], [], [33], [(.slot 56)]⟩ :: ⟨[29], [], [34], [(.slot 57)]⟩ :: ⟨[29], [], [35], [(.slot 58)]⟩ :: ⟨[29], [], [36], [(.slot 59)]⟩ :: ⟨[29], [], [37], [(.slot 60)]⟩ :: [])) (es' := [(_, _), (_, _), (_, _), (_, _), (60, .v (.bool true))]) (by kernel_rfl) rfl rfl
                  ⟨st_plain rfl (op_move _ _ _ _ rfl rfl),
                    st_plain rfl (op_move _ _ _ _ rfl rfl),
                    st_plain rfl (op_ix _ _ _ _ _ _ _ _ Try.underlying22 sz48 (by decide) rfl rfl rfl (ix_ok hv12).1 (flat_lt T_Tok.len (ix_ok hv12).2) rfl),
                    st_plain rfl (op_fieldAddr_e _ _ _ _ _ _ _ Try.underlying48 rfl sz5 rfl rfl rfl),
                    st_plain rfl (op_load_e _ _ _ _ _ _ Try.underlying5 rfl rfl rfl (flat_cell T_Tok.len hv13 rfl)),
                    st_plain rfl (op_bin _ _ _ _ _ rfl rfl rfl),
                    st_plain rfl (op_move _ _ _ _ (congrArg (fun b => AV.v (Value.bool b)) hg8_6) rfl),
                    st_skip 6 34 _ false rfl rfl rfl rfl (List.Mem.head _),
                    st_skip 6 34 _ false rfl rfl rfl rfl (List.Mem.head _),
                    st_skip 6 34 _ false rfl rfl rfl rfl (List.Mem.head _),
                    st_skip 6 34 _ false rfl rfl rfl rfl (List.Mem.head _),
                    st_skip 6 34 _ false rfl rfl rfl rfl (List.Mem.head _),
                    st_skip 6 34 _ false rfl rfl rfl rfl (List.Mem.head _),
                    st_skip 6 34 _ false rfl rfl rfl rfl (List.Mem.head _),
                    st_plain rfl (op_pick _ _ true _ rfl rfl),
                    st_plain rfl (op_move _ _ _ _ rfl rfl),
                    st_skip 15 43 _ false rfl rfl rfl rfl (List.Mem.head _),
                    st_skip 15 43 _ false rfl rfl rfl rfl (List.Mem.head _),
                    st_skip 15 43 _ false rfl rfl rfl rfl (List.Mem.head _),
                    st_skip 15 43 _ false rfl rfl rfl rfl (List.Mem.head _),
                    st_skip 15 43 _ false rfl rfl rfl rfl (List.Mem.head _),
                    st_skip 15 43 _ false rfl rfl rfl rfl (List.Mem.head _),
                    st_skip 15 43 _ false rfl rfl rfl rfl (List.Mem.head _),
                    st_plain rfl (op_pick _ _ true _ rfl rfl),
                    st_plain rfl (op_move _ _ _ _ rfl rfl),
                    st_skip 24 52 _ false rfl rfl rfl rfl (List.Mem.head _),
                    st_skip 24 52 _ false rfl rfl rfl rfl (List.Mem.head _),
                    st_skip 24 52 _ false rfl rfl rfl rfl (List.Mem.head _),
                    st_skip 24 52 _ false rfl rfl rfl rfl (List.Mem.head _),
                    st_skip 24 52 _ false rfl rfl rfl rfl (List.Mem.head _),
                    st_skip 24 52 _ false rfl rfl rfl rfl (List.Mem.head _),
                    st_skip 24 52 _ false rfl rfl rfl rfl (List.Mem.head _),
                    st_plain rfl (op_pick _ _ true _ rfl rfl),
                    trivial⟩ ?_
                exact hl139 _ (Option.some.inj h).symm
              · obtain ⟨v14, hv14, h⟩ := bind_some h
                obtain ⟨v15, hv15, h⟩ := bind_some h
                obtain ⟨v16, hv16, h⟩ := bind_some h
                refine cond_some h (fun hg8_15 h => ?_) (fun hg8_15 h => ?_)
                · refine ht_seqR hn (El := (_ :: _ :: _ :: _ :: _ :: (28, .fl .shr 3 (List.flatten (List.map T_Tok.enc l))) :: (29, .v (.int .i64 s80)) :: (30, .eref (.slot 28) (v12 * 3)) :: (31, .eref (.slot 28) (v12 * 3 + 0)) :: (32, .v (.int .u8 v13.Byte)) :: (33, .v (.bool (v13.Byte != 0))) :: (34, .v (.bool false)) :: (35, .fl .shr 3 (List.flatten (List.map T_Tok.enc l))) :: (36, .v (.int .i64 s80)) :: (37, .eref (.slot 35) (v14 * 3)) :: (38, .eref (.slot 35) (v14 * 3 + 1)) :: (39, .v (.int .i64 v15.Len)) :: (40, .v (.bool v16)) :: (41, .v (.bool (!v16))) :: (42, .v (.bool (!v16))) :: (43, .v (.bool true)) :: (44, .v undef) :: (45, .v undef) :: (46, .v undef) :: (47, .v undef) :: (48, .v undef) :: (49, .v undef) :: (50, .v undef) :: (51, .v (.bool true)) :: (52, .v (.bool true)) :: (53, .v undef) :: (54, .v undef) :: (55, .v undef) :: (56, .v undef) :: (57, .v undef) :: (58, .v undef) :: (59, .v undef) :: (60, .v (.bool true)) :: [])) (init := [0, 1, 2, 3, 4]) (fin := [0, 1, 2, 3, 37]) (sps := (⟨[0], [], [5], [(.slot 28)]⟩ :: ⟨[3], [], [6], [(.slot 29)]⟩ :: ⟨[5, 6], [], [7], [(.slot 30)]⟩ :: ⟨[7, 5], [], [8], [(.slot 31)]⟩ :: ⟨[8, 5], [], [9], [(.slot 32)]⟩ :: ⟨[9], [], [10], [(.slot 33)]⟩ :: ⟨[10], [], [11], [(.slot 34)]⟩ :: ⟨[11, 0], [], [12], [(.slot 35)]⟩ :: ⟨[11, 3], [], [13], [(.slot 36)]⟩ :: ⟨[11, 12, 13], [], [14], [(.slot 37)]⟩ :: ⟨[11, 14, 12], [], [15], [(.slot 38)]⟩ :: ⟨[11, 15, 12], [], [16], [(.slot 39)]⟩ :: ⟨[11, 16], [], [17], [(.slot 40)]⟩ :: ⟨[11, 17], [], [18], [(.slot 41)]⟩ :: ⟨[11, 18], [], [19], [(.slot 42)]⟩ :: ⟨[19], [], [20], [(.slot 43)]⟩ :: ⟨[20], [], [21], [(.slot 44)]⟩ :: ⟨[20], [], [22], [(.slot 45)]⟩ :: ⟨[20], [], [23], [(.slot 46)]⟩ :: ⟨[20], [], [24], [(.slot 47)]⟩ :: ⟨[20], [], [25], [(.slot 48)]⟩ :: ⟨[20], [], [26], [(.slot 49)]⟩ :: ⟨[20], [], [27], [(.slot 50)]⟩ :: ⟨[20], [], [28], [(.slot 51)]⟩ :: ⟨[28], [], [29], [(.slot 52)]⟩ :: ⟨[29], [], [30], [(.slot 53)]⟩ :: ⟨[29], [], [31], [(.slot 54)]⟩ :: ⟨[29], [], [32], [(.slot 55)]⟩ :: ⟨[29], [], [33], [(.slot 56)]⟩ :: ⟨[29], [], [34], [(.slot 57)]⟩ :: ⟨[29], [], [35], [(.slot 58)]⟩ :: ⟨[29], [], [36], [(.slot 59)]⟩ :: ⟨[29], [], [37], [(.slot 60)]⟩ :: [])) (es' := [(_, _), (_, _), (_, _), (_, _), (60, .v (.bool true))]) (by kernel_rfl) rfl rfl
                    ⟨st_plain rfl (op_move _ _ _ _ rfl rfl),
                      st_plain rfl (op_move _ _ _ _ rfl rfl),
                      st_plain rfl (op_ix _ _ _ _ _ _ _ _ Try.underlying22 sz48 (by decide) rfl rfl rfl (ix_ok hv12).1 (flat_lt T_Tok.len (ix_ok hv12).2) rfl),
                      st_plain rfl (op_fieldAddr_e _ _ _ _ _ _ _ Try.underlying48 rfl sz5 rfl rfl rfl),
                      st_plain rfl (op_load_e _ _ _ _ _ _ Try.underlying5 rfl rfl rfl (flat_cell T_Tok.len hv13 rfl)),
                      st_plain rfl (op_bin _ _ _ _ _ rfl rfl rfl),
                      st_plain rfl (op_move _ _ _ _ (congrArg (fun b => AV.v (Value.bool b)) hg8_6) rfl),
                      st_run 6 34 false rfl rfl rfl (List.Mem.head _) (op_move _ _ _ _ rfl rfl),
                      st_run 6 34 false rfl rfl rfl (List.Mem.head _) (op_move _ _ _ _ rfl rfl),
                      st_run 6 34 false rfl rfl rfl (List.Mem.head _) (op_ix _ _ _ _ _ _ _ _ Try.underlying22 sz48 (by decide) rfl rfl rfl (ix_ok hv14).1 (flat_lt T_Tok.len (ix_ok hv14).2) rfl),
                      st_run 6 34 false rfl rfl rfl (List.Mem.head _) (op_fieldAddr_e _ _ _ _ _ _ _ Try.underlying48 rfl sz3 rfl rfl rfl),
                      st_run 6 34 false rfl rfl rfl (List.Mem.head _) (op_load_e _ _ _ _ _ _ Try.underlying3 rfl rfl rfl (flat_cell T_Tok.len hv15 rfl)),
                      st_run 6 34 false rfl rfl rfl (List.Mem.head _) (op_call _ _ 30 _ _ rfl Try.call30 rfl (ok_wherryref01_in v15.Len 3 258 _ hv16) rfl rfl),
                      st_run 6 34 false rfl rfl rfl (List.Mem.head _) (op_un _ _ _ _ rfl rfl),
                      st_plain rfl (op_pick _ _ false _ rfl rfl),
                      st_plain rfl (op_move _ _ _ _ (congrArg (fun b => AV.v (Value.bool b)) hg8_15) rfl),
                      st_skip 15 43 _ false rfl rfl rfl rfl (List.Mem.head _),
                      st_skip 15 43 _ false rfl rfl rfl rfl (List.Mem.head _),
                      st_skip 15 43 _ false rfl rfl rfl rfl (List.Mem.head _),
                      st_skip 15 43 _ false rfl rfl rfl rfl (List.Mem.head _),
                      st_skip 15 43 _ false rfl rfl rfl rfl (List.Mem.head _),
                      st_skip 15 43 _ false rfl rfl rfl rfl (List.Mem.head _),
                      st_skip 15 43 _ false rfl rfl rfl rfl (List.Mem.head _),
                      st_plain rfl (op_pick _ _ true _ rfl rfl),
                      st_plain rfl (op_move _ _ _ _ rfl rfl),
                      st_skip 24 52 _ false rfl rfl rfl rfl (List.Mem.head _),
                      st_skip 24 52 _ false rfl rfl rfl rfl (List.Mem.head _),
                      st_skip 24 52 _ false rfl rfl rfl rfl (List.Mem.head _),
                      st_skip 24 52 _ false rfl rfl rfl rfl (List.Mem.head _),
                      st_skip 24 52 _ false rfl rfl rfl rfl (List.Mem.head _),
                      st_skip 24 52 _ false rfl rfl rfl rfl (List.Mem.head _),
                      st_skip 24 52 _ false rfl rfl rfl rfl (List.Mem.head _),
                      st_plain rfl (op_pick _ _ true _ rfl rfl),
                      trivial⟩ ?_
                  exact hl139 _ (Option.some.inj h).symm
                · obtain ⟨v17, hv17, h⟩ := bind_some h
                  obtain ⟨v18, hv18, h⟩ := bind_some h
                  obtain ⟨v19, hv19, h⟩ := bind_some h
                  refine cond_some h (fun hg8_24 h => ?_) (fun hg8_24 h => ?_)
                  · refine ht_seqR hn (El := (_ :: _ :: _ :: _ :: _ :: (28, .fl .shr 3 (List.flatten (List.map T_Tok.enc l))) :: (29, .v (.int .i64 s80)) :: (30, .eref (.slot 28) (v12 * 3)) :: (31, .eref (.slot 28) (v12 * 3 + 0)) :: (32, .v (.int .u8 v13.Byte)) :: (33, .v (.bool (v13.Byte != 0))) :: (34, .v (.bool false)) :: (35, .fl .shr 3 (List.flatten (List.map T_Tok.enc l))) :: (36, .v (.int .i64 s80)) :: (37, .eref (.slot 35) (v14 * 3)) :: (38, .eref (.slot 35) (v14 * 3 + 1)) :: (39, .v (.int .i64 v15.Len)) :: (40, .v (.bool v16)) :: (41, .v (.bool (!v16))) :: (42, .v (.bool (!v16))) :: (43, .v (.bool false)) :: (44, .fl .shr 3 (List.flatten (List.map T_Tok.enc l))) :: (45, .v (.int .i64 s80)) :: (46, .eref (.slot 44) (v17 * 3)) :: (47, .eref (.slot 44) (v17 * 3 + 2)) :: (48, .v (.int .i64 v18.Dist)) :: (49, .v (.bool v19)) :: (50, .v (.bool (!v19))) :: (51, .v (.bool (!v19))) :: (52, .v (.bool true)) :: (53, .v undef) :: (54, .v undef) :: (55, .v undef) :: (56, .v undef) :: (57, .v undef) :: (58, .v undef) :: (59, .v undef) :: (60, .v (.bool true)) :: [])) (init := [0, 1, 2, 3, 4]) (fin := [0, 1, 2, 3, 37]) (sps := (⟨[0], [], [5], [(.slot 28)]⟩ :: ⟨[3], [], [6], [(.slot 29)]⟩ :: ⟨[5, 6], [], [7], [(.slot 30)]⟩ :: ⟨[7, 5], [], [8], [(.slot 31)]⟩ :: ⟨[8, 5], [], [9], [(.slot 32)]⟩ :: ⟨[9], [], [10], [(.slot 33)]⟩ :: ⟨[10], [], [11], [(.slot 34)]⟩ :: ⟨[11, 0], [], [12], [(.slot 35)]⟩ :: ⟨[11, 3], [], [13], [(.slot 36)]⟩ :: ⟨[11, 12, 13], [], [14], [(.slot 37)]⟩ :: ⟨[11, 14, 12], [], [15], [(.slot 38)]⟩ :: ⟨[11, 15, 12], [], [16], [(.slot 39)]⟩ :: ⟨[11, 16], [], [17], [(.slot 40)]⟩ :: ⟨[11, 17], [], [18], [(.slot 41)]⟩ :: ⟨[11, 18], [], [19], [(.slot 42)]⟩ :: ⟨[19], [], [20], [(.slot 43)]⟩ :: ⟨[20, 0], [], [21], [(.slot 44)]⟩ :: ⟨[20, 3], [], [22], [(.slot 45)]⟩ :: ⟨[20, 21, 22], [], [23], [(.slot 46)]⟩ :: ⟨[20, 23, 21], [], [24], [(.slot 47)]⟩ :: ⟨[20, 24, 21], [], [25], [(.slot 48)]⟩ :: ⟨[20, 25], [], [26], [(.slot 49)]⟩ :: ⟨[20, 26], [], [27], [(.slot 50)]⟩ :: ⟨[20, 27], [], [28], [(.slot 51)]⟩ :: ⟨[28], [], [29], [(.slot 52)]⟩ :: ⟨[29], [], [30], [(.slot 53)]⟩ :: ⟨[29], [], [31], [(.slot 54)]⟩ :: ⟨[29], [], [32], [(.slot 55)]⟩ :: ⟨[29], [], [33], [(.slot 56)]⟩ :: ⟨[29], [], [34], [(.slot 57)]⟩ :: ⟨[29], [], [35], [(.slot 58)]⟩ :: ⟨[29], [], [36], [(.slot 59)]⟩ :: ⟨[29], [], [37], [(.slot 60)]⟩ :: [])) (es' := [(_, _), (_, _), (_, _), (_, _), (60, .v (.bool true))]) (by kernel_rfl) rfl rfl
                      ⟨st_plain rfl (op_move _ _ _ _ rfl rfl),
                        st_plain rfl (op_move _ _ _ _ rfl rfl),
                        st_plain rfl (op_ix _ _ _ _ _ _ _ _ Try.underlying22 sz48 (by decide) rfl rfl rfl (ix_ok hv12).1 (flat_lt T_Tok.len (ix_ok hv12).2) rfl),
                        st_plain rfl (op_fieldAddr_e _ _ _ _ _ _ _ Try.underlying48 rfl sz5 rfl rfl rfl),
                        st_plain rfl (op_load_e _ _ _ _ _ _ Try.underlying5 rfl rfl rfl (flat_cell T_Tok.len hv13 rfl)),
                        st_plain rfl (op_bin _ _ _ _ _ rfl rfl rfl),
                        st_plain rfl (op_move _ _ _ _ (congrArg (fun b => AV.v (Value.bool b)) hg8_6) rfl),
                        st_run 6 34 false rfl rfl rfl (List.Mem.head _) (op_move _ _ _ _ rfl rfl),
                        st_run 6 34 false rfl rfl rfl (List.Mem.head _) (op_move _ _ _ _ rfl rfl),
                        st_run 6 34 false rfl rfl rfl (List.Mem.head _) (op_ix _ _ _ _ _ _ _ _ Try.underlying22 sz48 (by decide) rfl rfl rfl (ix_ok hv14).1 (flat_lt T_Tok.len (ix_ok hv14).2) rfl),
                        st_run 6 34 false rfl rfl rfl (List.Mem.head _) (op_fieldAddr_e _ _ _ _ _ _ _ Try.underlying48 rfl sz3 rfl rfl rfl),
                        st_run 6 34 false rfl rfl rfl (List.Mem.head _) (op_load_e _ _ _ _ _ _ Try.underlying3 rfl rfl rfl (flat_cell T_Tok.len hv15 rfl)),
                        st_run 6 34 false rfl rfl rfl (List.Mem.head _) (op_call _ _ 30 _ _ rfl Try.call30 rfl (ok_wherryref01_in v15.Len 3 258 _ hv16) rfl rfl),
                        st_run 6 34 false rfl rfl rfl (List.Mem.head _) (op_un _ _ _ _ rfl rfl),
                        st_plain rfl (op_pick _ _ false _ rfl rfl),
                        st_plain rfl (op_move _ _ _ _ (congrArg (fun b => AV.v (Value.bool b)) hg8_15) rfl),
                        st_run 15 43 false rfl rfl rfl (List.Mem.head _) (op_move _ _ _ _ rfl rfl),
                        st_run 15 43 false rfl rfl rfl (List.Mem.head _) (op_move _ _ _ _ rfl rfl),
                        st_run 15 43 false rfl rfl rfl (List.Mem.head _) (op_ix _ _ _ _ _ _ _ _ Try.underlying22 sz48 (by decide) rfl rfl rfl (ix_ok hv17).1 (flat_lt T_Tok.len (ix_ok hv17).2) rfl),
                        st_run 15 43 false rfl rfl rfl (List.Mem.head _) (op_fieldAddr_e _ _ _ _ _ _ _ Try.underlying48 rfl sz3 rfl rfl rfl),
                        st_run 15 43 false rfl rfl rfl (List.Mem.head _) (op_load_e _ _ _ _ _ _ Try.underlying3 rfl rfl rfl (flat_cell T_Tok.len hv18 rfl)),
                        st_run 15 43 false rfl rfl rfl (List.Mem.head _) (op_call _ _ 30 _ _ rfl Try.call30 rfl (ok_wherryref01_in v18.Dist 1 2048 _ hv19) rfl rfl),
                        st_run 15 43 false rfl rfl rfl (List.Mem.head _) (op_un _ _ _ _ rfl rfl),
                        st_plain rfl (op_pick _ _ false _ rfl rfl),
                        st_plain rfl (op_move _ _ _ _ (congrArg (fun b => AV.v (Value.bool b)) hg8_24) rfl),
                        st_skip 24 52 _ false rfl rfl rfl rfl (List.Mem.head _),
                        st_skip 24 52 _ false rfl rfl rfl rfl (List.Mem.head _),
                        st_skip 24 52 _ false rfl rfl rfl rfl (List.Mem.head _),
                        st_skip 24 52 _ false rfl rfl rfl rfl (List.Mem.head _),
                        st_skip 24 52 _ false rfl rfl rfl rfl (List.Mem.head _),
                        st_skip 24 52 _ false rfl rfl rfl rfl (List.Mem.head _),
                        st_skip 24 52 _ false rfl rfl rfl rfl (List.Mem.head _),
                        st_plain rfl (op_pick _ _ true _ rfl rfl),
                        trivial⟩ ?_
                    exact hl139 _ (Option.some.inj h).symm
                  · obtain ⟨v20, hv20, h⟩ := bind_some h
                    obtain ⟨v21, hv21, h⟩ := bind_some h
                    refine ht_seqR hn (El := (_ :: _ :: _ :: _ :: _ :: (28, .fl .shr 3 (List.flatten (List.map T_Tok.enc l))) :: (29, .v (.int .i64 s80)) :: (30, .eref (.slot 28) (v12 * 3)) :: (31, .eref (.slot 28) (v12 * 3 + 0)) :: (32, .v (.int .u8 v13.Byte)) :: (33, .v (.bool (v13.Byte != 0))) :: (34, .v (.bool false)) :: (35, .fl .shr 3 (List.flatten (List.map T_Tok.enc l))) :: (36, .v (.int .i64 s80)) :: (37, .eref (.slot 35) (v14 * 3)) :: (38, .eref (.slot 35) (v14 * 3 + 1)) :: (39, .v (.int .i64 v15.Len)) :: (40, .v (.bool v16)) :: (41, .v (.bool (!v16))) :: (42, .v (.bool (!v16))) :: (43, .v (.bool false)) :: (44, .fl .shr 3 (List.flatten (List.map T_Tok.enc l))) :: (45, .v (.int .i64 s80)) :: (46, .eref (.slot 44) (v17 * 3)) :: (47, .eref (.slot 44) (v17 * 3 + 2)) :: (48, .v (.int .i64 v18.Dist)) :: (49, .v (.bool v19)) :: (50, .v (.bool (!v19))) :: (51, .v (.bool (!v19))) :: (52, .v (.bool false)) :: (53, .fl .shr 3 (List.flatten (List.map T_Tok.enc l))) :: (54, .v (.int .i64 s80)) :: (55, .eref (.slot 53) (v20 * 3)) :: (56, .eref (.slot 53) (v20 * 3 + 2)) :: (57, .v (.int .i64 v21.Dist)) :: (58, .v (.int .i64 s78)) :: (59, .v (.bool ((decide (s78 < v21.Dist))))) :: (60, .v (.bool ((decide (s78 < v21.Dist))))) :: [])) (init := [0, 1, 2, 3, 4]) (fin := [0, 1, 2, 3, 37]) (sps := (⟨[0], [], [5], [(.slot 28)]⟩ :: ⟨[3], [], [6], [(.slot 29)]⟩ :: ⟨[5, 6], [], [7], [(.slot 30)]⟩ :: ⟨[7, 5], [], [8], [(.slot 31)]⟩ :: ⟨[8, 5], [], [9], [(.slot 32)]⟩ :: ⟨[9], [], [10], [(.slot 33)]⟩ :: ⟨[10], [], [11], [(.slot 34)]⟩ :: ⟨[11, 0], [], [12], [(.slot 35)]⟩ :: ⟨[11, 3], [], [13], [(.slot 36)]⟩ :: ⟨[11, 12, 13], [], [14], [(.slot 37)]⟩ :: ⟨[11, 14, 12], [], [15], [(.slot 38)]⟩ :: ⟨[11, 15, 12], [], [16], [(.slot 39)]⟩ :: ⟨[11, 16], [], [17], [(.slot 40)]⟩ :: ⟨[11, 17], [], [18], [(.slot 41)]⟩ :: ⟨[11, 18], [], [19], [(.slot 42)]⟩ :: ⟨[19], [], [20], [(.slot 43)]⟩ :: ⟨[20, 0], [], [21], [(.slot 44)]⟩ :: ⟨[20, 3], [], [22], [(.slot 45)]⟩ :: ⟨[20, 21, 22], [], [23], [(.slot 46)]⟩ :: ⟨[20, 23, 21], [], [24], [(.slot 47)]⟩ :: ⟨[20, 24, 21], [], [25], [(.slot 48)]⟩ :: ⟨[20, 25], [], [26], [(.slot 49)]⟩ :: ⟨[20, 26], [], [27], [(.slot 50)]⟩ :: ⟨[20, 27], [], [28], [(.slot 51)]⟩ :: ⟨[28], [], [29], [(.slot 52)]⟩ :: ⟨[29, 0], [], [30], [(.slot 53)]⟩ :: ⟨[29, 3], [], [31], [(.slot 54)]⟩ :: ⟨[29, 30, 31], [], [32], [(.slot 55)]⟩ :: ⟨[29, 32, 30], [], [33], [(.slot 56)]⟩ :: ⟨[29, 33, 30], [], [34], [(.slot 57)]⟩ :: ⟨[29, 1], [], [35], [(.slot 58)]⟩ :: ⟨[29, 34, 35], [], [36], [(.slot 59)]⟩ :: ⟨[29, 36], [], [37], [(.slot 60)]⟩ :: [])) (es' := [(_, _), (_, _), (_, _), (_, _), (60, .v (.bool ((decide (s78 < v21.Dist)))))]) (by kernel_rfl) rfl rfl
                      ⟨st_plain rfl (op_move _ _ _ _ rfl rfl),
                        st_plain rfl (op_move _ _ _ _ rfl rfl),
                        st_plain rfl (op_ix _ _ _ _ _ _ _ _ Try.underlying22 sz48 (by decide) rfl rfl rfl (ix_ok hv12).1 (flat_lt T_Tok.len (ix_ok hv12).2) rfl),
                        st_plain rfl (op_fieldAddr_e _ _ _ _ _ _ _ Try.underlying48 rfl sz5 rfl rfl rfl),
                        st_plain rfl (op_load_e _ _ _ _ _ _ Try.underlying5 rfl rfl rfl (flat_cell T_Tok.len hv13 rfl)),
                        st_plain rfl (op_bin _ _ _ _ _ rfl rfl rfl),
                        st_plain rfl (op_move _ _ _ _ (congrArg (fun b => AV.v (Value.bool b)) hg8_6) rfl),
                        st_run 6 34 false rfl rfl rfl (List.Mem.head _) (op_move _ _ _ _ rfl rfl),
                        st_run 6 34 false rfl rfl rfl (List.Mem.head _) (op_move _ _ _ _ rfl rfl),
                        st_run 6 34 false rfl rfl rfl (List.Mem.head _) (op_ix _ _ _ _ _ _ _ _ Try.underlying22 sz48 (by decide) rfl rfl rfl (ix_ok hv14).1 (flat_lt T_Tok.len (ix_ok hv14).2) rfl),
                        st_run 6 34 false rfl rfl rfl (List.Mem.head _) (op_fieldAddr_e _ _ _ _ _ _ _ Try.underlying48 rfl sz3 rfl rfl rfl),
                        st_run 6 34 false rfl rfl rfl (List.Mem.head _) (op_load_e _ _ _ _ _ _ Try.underlying3 rfl rfl rfl (flat_cell T_Tok.len hv15 rfl)),
                        st_run 6 34 false rfl rfl rfl (List.Mem.head _) (op_call _ _ 30 _ _ rfl Try.call30 rfl (ok_wherryref01_in v15.Len 3 258 _ hv16) rfl rfl),
                        st_run 6 34 false rfl rfl rfl (List.Mem.head _) (op_un _ _ _ _ rfl rfl),
                        st_plain rfl (op_pick _ _ false _ rfl rfl),
                        st_plain rfl (op_move _ _ _ _ (congrArg (fun b => AV.v (Value.bool b)) hg8_15) rfl),
                        st_run 15 43 false rfl rfl rfl (List.Mem.head _) (op_move _ _ _ _ rfl rfl),
                        st_run 15 43 false rfl rfl rfl (List.Mem.head _) (op_move _ _ _ _ rfl rfl),
                        st_run 15 43 false rfl rfl rfl (List.Mem.head _) (op_ix _ _ _ _ _ _ _ _ Try.underlying22 sz48 (by decide) rfl rfl rfl (ix_ok hv17).1 (flat_lt T_Tok.len (ix_ok hv17).2) rfl),
                        st_run 15 43 false rfl rfl rfl (List.Mem.head _) (op_fieldAddr_e _ _ _ _ _ _ _ Try.underlying48 rfl sz3 rfl rfl rfl),
                        st_run 15 43 false rfl rfl rfl (List.Mem.head _) (op_load_e _ _ _ _ _ _ Try.underlying3 rfl rfl rfl (flat_cell T_Tok.len hv18 rfl)),
                        st_run 15 43 false rfl rfl rfl (List.Mem.head _) (op_call _ _ 30 _ _ rfl Try.call30 rfl (ok_wherryref01_in v18.Dist 1 2048 _ hv19) rfl rfl),
                        st_run 15 43 false rfl rfl rfl (List.Mem.head _) (op_un _ _ _ _ rfl rfl),
                        st_plain rfl (op_pick _ _ false _ rfl rfl),
                        st_plain rfl (op_move _ _ _ _ (congrArg (fun b => AV.v (Value.bool b)) hg8_24) rfl),
                        st_run 24 52 false rfl rfl rfl (List.Mem.head _) (op_move _ _ _ _ rfl rfl),
                        st_run 24 52 false rfl rfl rfl (List.Mem.head _) (op_move _ _ _ _ rfl rfl),
                        st_run 24 52 false rfl rfl rfl (List.Mem.head _) (op_ix _ _ _ _ _ _ _ _ Try.underlying22 sz48 (by decide) rfl rfl rfl (ix_ok hv20).1 (flat_lt T_Tok.len (ix_ok hv20).2) rfl),
                        st_run 24 52 false rfl rfl rfl (List.Mem.head _) (op_fieldAddr_e _ _ _ _ _ _ _ Try.underlying48 rfl sz3 rfl rfl rfl),
                        st_run 24 52 false rfl rfl rfl (List.Mem.head _) (op_load_e _ _ _ _ _ _ Try.underlying3 rfl rfl rfl (flat_cell T_Tok.len hv21 rfl)),
                        st_run 24 52 false rfl rfl rfl (List.Mem.head _) (op_move _ _ _ _ rfl rfl),
                        st_run 24 52 false rfl rfl rfl (List.Mem.head _) (op_bin _ _ _ _ _ rfl rfl rfl),
                        st_plain rfl (op_pick _ _ false _ rfl rfl),
                        trivial⟩ ?_
                    exact hl139 _ (Option.some.inj h).symm
        · intro u133 h hl134 hr135
          obtain ⟨v2, hv2, h⟩ := bind_some h
          obtain ⟨v3, hv3, h⟩ := bind_some h
          refine cond_some h (fun hg6_6 h => ?_) (fun hg6_6 h => ?_)
          · obtain ⟨v4, hv4, h⟩ := bind_some h
            obtain ⟨v5, hv5, h⟩ := bind_some h
            refine ht_seqR hn (El := (_ :: _ :: _ :: _ :: _ :: (12, .fl .shr 3 (List.flatten (List.map T_Tok.enc l))) :: (13, .v (.int .i64 s80)) :: (14, .eref (.slot 12) (v2 * 3)) :: (15, .eref (.slot 12) (v2 * 3 + 1)) :: (16, .v (.int .i64 v3.Len)) :: (17, .v (.bool (v3.Len == 0))) :: (18, .v (.bool true)) :: (19, .fl .shr 3 (List.flatten (List.map T_Tok.enc l))) :: (20, .v (.int .i64 s80)) :: (21, .eref (.slot 19) (v4 * 3)) :: (22, .eref (.slot 19) (v4 * 3 + 2)) :: (23, .v (.int .i64 v5.Dist)) :: (24, .v (.bool (v5.Dist == 0))) :: (25, .v (.bool (v5.Dist == 0))) :: [])) (init := [0, 1, 2, 3, 4]) (fin := [0, 1, 2, 3, 18]) (sps := [⟨[0], [], [5], [(.slot 12)]⟩, ⟨[3], [], [6], [(.slot 13)]⟩, ⟨[5, 6], [], [7], [(.slot 14)]⟩, ⟨[7, 5], [], [8], [(.slot 15)]⟩, ⟨[8, 5], [], [9], [(.slot 16)]⟩, ⟨[9], [], [10], [(.slot 17)]⟩, ⟨[10], [], [11], [(.slot 18)]⟩, ⟨[11, 0], [], [12], [(.slot 19)]⟩, ⟨[11, 3], [], [13], [(.slot 20)]⟩, ⟨[11, 12, 13], [], [14], [(.slot 21)]⟩, ⟨[11, 14, 12], [], [15], [(.slot 22)]⟩, ⟨[11, 15, 12], [], [16], [(.slot 23)]⟩, ⟨[11, 16], [], [17], [(.slot 24)]⟩, ⟨[11, 17], [], [18], [(.slot 25)]⟩]) (es' := [(_, _), (_, _), (_, _), (_, _), (25, .v (.bool (v5.Dist == 0)))]) (by kernel_rfl) rfl rfl
              ⟨st_plain rfl (op_move _ _ _ _ rfl rfl),
                st_plain rfl (op_move _ _ _ _ rfl rfl),
                st_plain rfl (op_ix _ _ _ _ _ _ _ _ Try.underlying22 sz48 (by decide) rfl rfl rfl (ix_ok hv2).1 (flat_lt T_Tok.len (ix_ok hv2).2) rfl),
                st_plain rfl (op_fieldAddr_e _ _ _ _ _ _ _ Try.underlying48 rfl sz3 rfl rfl rfl),
                st_plain rfl (op_load_e _ _ _ _ _ _ Try.underlying3 rfl rfl rfl (flat_cell T_Tok.len hv3 rfl)),
                st_plain rfl (op_bin _ _ _ _ _ rfl rfl rfl),
                st_plain rfl (op_move _ _ _ _ (congrArg (fun b => AV.v (Value.bool b)) hg6_6) rfl),
                st_run 6 18 true rfl rfl rfl (List.Mem.head _) (op_move _ _ _ _ rfl rfl),
                st_run 6 18 true rfl rfl rfl (List.Mem.head _) (op_move _ _ _ _ rfl rfl),
                st_run 6 18 true rfl rfl rfl (List.Mem.head _) (op_ix _ _ _ _ _ _ _ _ Try.underlying22 sz48 (by decide) rfl rfl rfl (ix_ok hv4).1 (flat_lt T_Tok.len (ix_ok hv4).2) rfl),
                st_run 6 18 true rfl rfl rfl (List.Mem.head _) (op_fieldAddr_e _ _ _ _ _ _ _ Try.underlying48 rfl sz3 rfl rfl rfl),
                st_run 6 18 true rfl rfl rfl (List.Mem.head _) (op_load_e _ _ _ _ _ _ Try.underlying3 rfl rfl rfl (flat_cell T_Tok.len hv5 rfl)),
                st_run 6 18 true rfl rfl rfl (List.Mem.head _) (op_bin _ _ _ _ _ rfl rfl rfl),
                st_plain rfl (op_pick _ _ true _ rfl rfl),
                trivial⟩ ?_
            exact hl134 _ (Option.some.inj h).symm
          · refine ht_seqR hn (El := (_ :: _ :: _ :: _ :: _ :: (12, .fl .shr 3 (List.flatten (List.map T_Tok.enc l))) :: (13, .v (.int .i64 s80)) :: (14, .eref (.slot 12) (v2 * 3)) :: (15, .eref (.slot 12) (v2 * 3 + 1)) :: (16, .v (.int .i64 v3.Len)) :: (17, .v (.bool (v3.Len == 0))) :: (18, .v (.bool false)) :: (19, .v undef) :: (20, .v undef) :: (21, .v undef) :: (22, .v undef) :: (23, .v undef) :: (24, .v undef) :: (25, .v (.bool false)) :: [])) (init := [0, 1, 2, 3, 4]) (fin := [0, 1, 2, 3, 18]) (sps := [⟨[0], [], [5], [(.slot 12)]⟩, ⟨[3], [], [6], [(.slot 13)]⟩, ⟨[5, 6], [], [7], [(.slot 14)]⟩, ⟨[7, 5], [], [8], [(.slot 15)]⟩, ⟨[8, 5], [], [9], [(.slot 16)]⟩, ⟨[9], [], [10], [(.slot 17)]⟩, ⟨[10], [], [11], [(.slot 18)]⟩, ⟨[11], [], [12], [(.slot 19)]⟩, ⟨[11], [], [13], [(.slot 20)]⟩, ⟨[11], [], [14], [(.slot 21)]⟩, ⟨[11], [], [15], [(.slot 22)]⟩, ⟨[11], [], [16], [(.slot 23)]⟩, ⟨[11], [], [17], [(.slot 24)]⟩, ⟨[11], [], [18], [(.slot 25)]⟩]) (es' := [(_, _), (_, _), (_, _), (_, _), (25, .v (.bool false))]) (by kernel_rfl) rfl rfl
              ⟨st_plain rfl (op_move _ _ _ _ rfl rfl),
                st_plain rfl (op_move _ _ _ _ rfl rfl),
                st_plain rfl (op_ix _ _ _ _ _ _ _ _ Try.underlying22 sz48 (by decide) rfl rfl rfl (ix_ok hv2).1 (flat_lt T_Tok.len (ix_ok hv2).2) rfl),
                st_plain rfl (op_fieldAddr_e _ _ _ _ _ _ _ Try.underlying48 rfl sz3 rfl rfl rfl),
                st_plain rfl (op_load_e _ _ _ _ _ _ Try.underlying3 rfl rfl rfl (flat_cell T_Tok.len hv3 rfl)),
                st_plain rfl (op_bin _ _ _ _ _ rfl rfl rfl),
                st_plain rfl (op_move _ _ _ _ (congrArg (fun b => AV.v (Value.bool b)) hg6_6) rfl),
                st_skip 6 18 _ true rfl rfl rfl rfl (List.Mem.head _),
                st_skip 6 18 _ true rfl rfl rfl rfl (List.Mem.head _),
                st_skip 6 18 _ true rfl rfl rfl rfl (List.Mem.head _),
                st_skip 6 18 _ true rfl rfl rfl rfl (List.Mem.head _),
                st_skip 6 18 _ true rfl rfl rfl rfl (List.Mem.head _),
                st_skip 6 18 _ true rfl rfl rfl rfl (List.Mem.head _),
                st_plain rfl (op_pick _ _ false _ rfl rfl),
                trivial⟩ ?_
            exact hl134 _ (Option.some.inj h).symm
    · have h := cond_f hb117 h
      refine ht_exit ?_
      refine pt_x_then ?_
      refine pt_x_then ?_
      refine pt_x_in ?_
      refine pt_pick [2] (by kernel_rfl) (es' := [(_, _)]) rfl ?_
      exact hl112 _ (ho114 _ (Option.some.inj h).symm).symm

set_option maxHeartbeats 1000000 in
theorem ok_wherryref01_weights (l : (List T_Tok)) (r : ((List Int) × (List Int))) (h : Sh.wherryref01_weights l = some r) : FnOK Try.prog 37 [.fl .shr 3 (List.flatten (List.map T_Tok.enc l))] (.tup [.fl (.own 3) 1 (List.map (Value.int .i64) r.1), .fl (.own 3) 1 (List.map (Value.int .i64) r.2)]) := by
  unfold Sh.wherryref01_weights at h
  refine fn_ok Try.func37 rfl (Nat.le_of_ble_eq_true rfl) rfl rfl fun g0 hn hio => ?_
  refine ht_seq ?_
  refine ht_seqR hn (El := [_, (2, .v (.slice none 0 0)), (3, .v (.slice none 0 0))]) (init := [0]) (fin := [0]) (sps := [⟨[], [], [1], [(.slot 2)]⟩, ⟨[], [], [2], [(.slot 3)]⟩]) (es' := [(_, _)]) (by kernel_rfl) rfl rfl
    ⟨st_plain rfl (op_assign _ _ _ _ rfl rfl),
      st_plain rfl (op_assign _ _ _ _ rfl rfl),
      trivial⟩ ?_
  refine pt_then ?_
  refine ht_seq ?_
  obtain ⟨v1, hv1, h⟩ := bind_some h
  obtain ⟨v2, hv2, h⟩ := bind_some h
  refine ht_anyR (by kernel_rfl) hn (El := [_, (15, .fl (.own 3) 1 (List.map (Value.int .i64) v1)), (16, .fl (.own 3) 1 (List.map (Value.int .i64) v2)), (4, .fl (.own 3) 1 (List.map (Value.int .i64) v1)), (5, .fl (.own 3) 1 (List.map (Value.int .i64) v2))]) (init := [0]) (fin := [0, 3, 4]) (sps := [⟨[], [], [1], [(.slot 15)]⟩, ⟨[], [], [2], [(.slot 16)]⟩, ⟨[], [1], [3], [(.slot 4)]⟩, ⟨[], [2], [4], [(.slot 5)]⟩]) (es' := [(_, _), (4, .fl (.own 3) 1 (List.map (Value.int .i64) v1)), (5, .fl (.own 3) 1 (List.map (Value.int .i64) v2))]) (by kernel_rfl) rfl rfl
    ⟨st_plain rfl (op_mk (f := Value.int .i64) _ _ _ _ el28 (by decide) zr3 rfl rfl rfl hv1),
      st_plain rfl (op_mk (f := Value.int .i64) _ _ _ _ el28 (by decide) zr3 rfl rfl rfl hv2),
      st_plain rfl (op_assign_take _ _ _ _ rfl),
      st_plain rfl (op_assign_take _ _ _ _ rfl),
      trivial⟩ ?_
  refine pt_then ?_
  refine ht_seq ?_
  obtain ⟨v3, hv3, h⟩ := bind_some h
  obtain ⟨v4, hv4, h⟩ := bind_some h
  refine ht_seqR hn (El := [_, _, _, (17, .same (.slot 4)), (18, .eref (.slot 4) (v3 * 1)), (4, .fl (.own 3) 1 (List.map (Value.int .i64) v4))]) (init := [0, 1, 2]) (fin := [0, 5, 2]) (sps := [⟨[1], [], [3], [(.slot 17)]⟩, ⟨[3, 1], [], [4], [(.slot 18)]⟩, ⟨[4], [1], [5], []⟩]) (es' := [(_, _), (4, .fl (.own 3) 1 (List.map (Value.int .i64) v4)), (_, _)]) (by kernel_rfl) rfl rfl
    ⟨st_plain rfl (op_move _ _ _ _ rfl rfl),
      st_plain rfl (op_ix _ _ _ _ _ _ _ _ Try.underlying28 sz3 (by decide) rfl rfl rfl (ix_ok hv3).1 (map_lt (ix_ok hv3).2) rfl),
      st_plain rfl (op_store_e _ _ _ _ _ _ _ _ sz3 rfl rfl rfl (by decide) (map_lt (ix_ok hv3).2) ((map_set (f := Value.int .i64) _ (ix_ok hv3).2).trans (congrArg (List.map _) (Option.some.inj hv4)))),
      trivial⟩ ?_
  refine pt_then ?_
  refine ht_seq ?_
  refine ht_seq ?_
  refine ht_seqR hn (El := [_, _, _, (6, .v (.int .i64 0))]) (init := [0, 1, 2]) (fin := [0, 1, 2, 3]) (sps := [⟨[], [], [3], [(.slot 6)]⟩]) (es' := [(_, _), (_, _), (_, _), (6, .v (.int .i64 0))]) (by kernel_rfl) rfl rfl
    ⟨st_plain rfl (op_assign _ _ _ _ rfl rfl),
      trivial⟩ ?_
  refine pt_then ?_
  refine ht_loopS h (fun ((s51, s52, s53) : (List Int) × (List Int) × Int) => [(0, .fl .shr 3 (List.flatten (List.map T_Tok.enc l))), (4, .fl (.own 3) 1 (List.map (Value.int .i64) s51)), (5, .fl (.own 3) 1 (List.map (Value.int .i64) s52)), (6, .v (.int .i64 s53))]) (fun ((s62, s63) : (List Int) × (List Int)) => [(4, .fl (.own 3) 1 (List.map (Value.int .i64) s62)), (5, .fl (.own 3) 1 (List.map (Value.int .i64) s63))]) ?_ ?_
  · rintro ⟨s62, s63⟩ h
    refine pt_then ?_
    refine ht_seq ?_
    refine ht_seqR hn (El := [_, _, (76, .fl (.own 3) 1 (List.map (Value.int .i64) s62)), (77, .fl (.own 3) 1 (List.map (Value.int .i64) s63)), (2, .fl (.own 3) 1 (List.map (Value.int .i64) s62)), (3, .fl (.own 3) 1 (List.map (Value.int .i64) s63))]) (init := [0, 1]) (fin := [4, 5]) (sps := [⟨[], [0], [2], [(.slot 76)]⟩, ⟨[], [1], [3], [(.slot 77)]⟩, ⟨[], [2], [4], [(.slot 2)]⟩, ⟨[], [3], [5], [(.slot 3)]⟩]) (es' := [(2, .fl (.own 3) 1 (List.map (Value.int .i64) s62)), (3, .fl (.own 3) 1 (List.map (Value.int .i64) s63))]) (by kernel_rfl) rfl rfl
      ⟨st_plain rfl (op_move_take _ _ _ _ rfl),
        st_plain rfl (op_move_take _ _ _ _ rfl),
        st_plain rfl (op_assign_take _ _ _ _ rfl),
        st_plain rfl (op_assign_take _ _ _ _ rfl),
        trivial⟩ ?_
    refine pt_then ?_
    refine ht_ret ?_
    obtain rfl := Option.some.inj h
    exact pt_ret hio rfl (.tmp _ _ (.tmp _ _ .nil)) rfl rfl
  · rintro u64 hl65 hr66 ⟨s51, s52, s53⟩ rr69 h ho67
    refine ht_seq ?_
    refine ht_seq ?_
    refine ht_seqR hn (El := [_, _, _, _, (19, .v (.int .i64 s53)), (20, .fl .shr 3 (List.flatten (List.map T_Tok.enc l))), (21, .v (.int .i64 (l.length : Int))), (22, .v (.bool ((decide (s53 < (l.length : Int))))))]) (init := [0, 1, 2, 3]) (fin := [0, 1, 2, 3, 7]) (sps := [⟨[3], [], [4], [(.slot 19)]⟩, ⟨[0], [], [5], [(.slot 20)]⟩, ⟨[5], [], [6], [(.slot 21)]⟩, ⟨[4, 6], [], [7], [(.slot 22)]⟩]) (es' := [(_, _), (_, _), (_, _), (_, _), (22, .v (.bool ((decide (s53 < (l.length : Int))))))]) (by kernel_rfl) rfl rfl
      ⟨st_plain rfl (op_move _ _ _ _ rfl rfl),
        st_plain rfl (op_move _ _ _ _ rfl rfl),
        st_plain rfl (op_len_fl _ _ _ Try.underlying22 rfl (by decide) (flat_len T_Tok.len _)),
        st_plain rfl (op_bin _ _ _ _ _ rfl rfl rfl),
        trivial⟩ ?_
    refine pt_then ?_
    refine ht_cond _ rfl (fun hb70 => ?_) (fun hb70 => ?_)
    · have h := cond_t hb70 h
      refine ht_skip ?_
      refine pt_then ?_
      refine ht_seq ?_
      refine ht_joinS h (fun ((s72, s73) : (List Int) × (List Int)) => [(0, .fl .shr 3 (List.flatten (List.map T_Tok.enc l))), (4, .fl (.own 3) 1 (List.map (Value.int .i64) s72)), (5, .fl (.own 3) 1 (List.map (Value.int .i64) s73)), (6, .v (.int .i64 s53))]) ?_ ?_
      · rintro ⟨s72, s73⟩ h
        refine pt_then ?_
        obtain ⟨v39, hv39, h⟩ := bind_some h
        refine ht_seqR hn (El := [_, _, _, _, (23, .v (.int .i64 s53)), (24, .v (.int .i64 v39)), (6, .v (.int .i64 v39))]) (init := [0, 1, 2, 3]) (fin := [0, 1, 2, 6]) (sps := [⟨[3], [], [4], [(.slot 23)]⟩, ⟨[4], [], [5], [(.slot 24)]⟩, ⟨[5], [3], [6], [(.slot 6)]⟩]) (es' := [(_, _), (_, _), (_, _), (6, .v (.int .i64 v39))]) (by kernel_rfl) rfl rfl
          ⟨st_plain rfl (op_move _ _ _ _ rfl rfl),
            st_plain rfl (op_bin _ _ _ _ _ rfl rfl (ibind (f := Value.int .i64) (Option.some.inj hv39))),
            st_plain rfl (LOp.drop [_] (op_assign _ _ _ _ rfl rfl)),
            trivial⟩ ?_
        exact pt_next _ (Option.some.inj h).symm rfl
      · intro u74 h hl75 hr76
        refine ht_block ?_
        refine ht_seq ?_
        refine ht_seq ?_
        obtain ⟨v6, hv6, h⟩ := bind_some h
        obtain ⟨v7, hv7, h⟩ := bind_some h
        refine ht_seqR hn (El := [_, _, _, _, _, (25, .fl .shr 3 (List.flatten (List.map T_Tok.enc l))), (26, .v (.int .i64 s53)), (27, .eref (.slot 25) (v6 * 3)), (28, .eref (.slot 25) (v6 * 3 + 1)), (29, .v (.int .i64 v7.Len)), (30, .v (.bool (v7.Len == 0)))]) (init := [0, 1, 2, 3, 4]) (fin := [0, 1, 2, 3, 10]) (sps := [⟨[0], [], [5], [(.slot 25)]⟩, ⟨[3], [], [6], [(.slot 26)]⟩, ⟨[5, 6], [], [7], [(.slot 27)]⟩, ⟨[7, 5], [], [8], [(.slot 28)]⟩, ⟨[8, 5], [], [9], [(.slot 29)]⟩, ⟨[9], [], [10], [(.slot 30)]⟩]) (es' := [(_, _), (_, _), (_, _), (_, _), (30, .v (.bool (v7.Len == 0)))]) (by kernel_rfl) rfl rfl
          ⟨st_plain rfl (op_move _ _ _ _ rfl rfl),
            st_plain rfl (op_move _ _ _ _ rfl rfl),
            st_plain rfl (op_ix _ _ _ _ _ _ _ _ Try.underlying22 sz48 (by decide) rfl rfl rfl (ix_ok hv6).1 (flat_lt T_Tok.len (ix_ok hv6).2) rfl),
            st_plain rfl (op_fieldAddr_e _ _ _ _ _ _ _ Try.underlying48 rfl sz3 rfl rfl rfl),
            st_plain rfl (op_load_e _ _ _ _ _ _ Try.underlying3 rfl rfl rfl (flat_cell T_Tok.len hv7 rfl)),
            st_plain rfl (op_bin _ _ _ _ _ rfl rfl rfl),
            trivial⟩ ?_
        refine pt_then ?_
        refine ht_cond _ rfl (fun hb77 => ?_) (fun hb77 => ?_)
        · have h := cond_t hb77 h
          refine ht_seq ?_
          obtain ⟨v9, hv9, h⟩ := bind_some h
          obtain ⟨v10, hv10, h⟩ := bind_some h
          obtain ⟨v11, hv11, h⟩ := bind_some h
          obtain ⟨v12, hv12, h⟩ := bind_some h
          obtain ⟨v13, hv13, h⟩ := bind_some h
          obtain ⟨v14, hv14, h⟩ := bind_some h
          obtain ⟨v15, hv15, h⟩ := bind_some h
          obtain ⟨v16, hv16, h⟩ := bind_some h
          refine ht_seqR hn (El := (_ :: _ :: _ :: _ :: _ :: (31, .same (.slot 4)) :: (32, .fl .shr 3 (List.flatten (List.map T_Tok.enc l))) :: (33, .v (.int .i64 s53)) :: (34, .eref (.slot 32) (v9 * 3)) :: (35, .eref (.slot 32) (v9 * 3 + 0)) :: (36, .v (.int .u8 v10.Byte)) :: (37, .v (.int .i64 v11)) :: (38, .eref (.slot 4) (v12 * 1)) :: (39, .v (.int .i64 v13)) :: (40, .v (.int .i64 v14)) :: (41, .eref (.slot 4) (v15 * 1)) :: (4, .fl (.own 3) 1 (List.map (Value.int .i64) v16)) :: [])) (init := [0, 1, 2, 3, 4]) (fin := [0, 16, 2, 3]) (sps := [⟨[1], [], [5], [(.slot 31)]⟩, ⟨[0], [], [6], [(.slot 32)]⟩, ⟨[3], [], [7], [(.slot 33)]⟩, ⟨[6, 7], [], [8], [(.slot 34)]⟩, ⟨[8, 6], [], [9], [(.slot 35)]⟩, ⟨[9, 6], [], [10], [(.slot 36)]⟩, ⟨[10], [], [11], [(.slot 37)]⟩, ⟨[5, 1, 11], [], [12], [(.slot 38)]⟩, ⟨[12, 1], [], [13], [(.slot 39)]⟩, ⟨[13], [], [14], [(.slot 40)]⟩, ⟨[5, 1, 11], [], [15], [(.slot 41)]⟩, ⟨[15, 14], [1], [16], []⟩]) (es' := [(_, _), (4, .fl (.own 3) 1 (List.map (Value.int .i64) v16)), (_, _), (_, _)]) (by kernel_rfl) rfl rfl
            ⟨st_plain rfl (op_move _ _ _ _ rfl rfl),
              st_plain rfl (op_move _ _ _ _ rfl rfl),
              st_plain rfl (op_move _ _ _ _ rfl rfl),
              st_plain rfl (op_ix _ _ _ _ _ _ _ _ Try.underlying22 sz48 (by decide) rfl rfl rfl (ix_ok hv9).1 (flat_lt T_Tok.len (ix_ok hv9).2) rfl),
              st_plain rfl (op_fieldAddr_e _ _ _ _ _ _ _ Try.underlying48 rfl sz5 rfl rfl rfl),
              st_plain rfl (op_load_e _ _ _ _ _ _ Try.underlying5 rfl rfl rfl (flat_cell T_Tok.len hv10 rfl)),
              st_plain rfl ((Option.some.inj hv11) ▸ op_conv _ _ _ Try.underlying5 Try.underlying3 rfl),
              st_plain rfl (op_ix _ _ _ _ _ _ _ _ Try.underlying28 sz3 (by decide) rfl rfl rfl (ix_ok hv12).1 (map_lt (ix_ok hv12).2) rfl),
              st_plain rfl (op_load_e _ _ _ _ _ _ Try.underlying3 rfl rfl rfl (map_get hv13)),
              st_plain rfl (op_bin _ _ _ _ _ rfl rfl (ibind (f := Value.int .i64) (Option.some.inj hv14))),
              st_plain rfl (op_ix _ _ _ _ _ _ _ _ Try.underlying28 sz3 (by decide) rfl rfl rfl (ix_ok hv15).1 (map_lt (ix_ok hv15).2) rfl),
              st_plain rfl (op_store_e _ _ _ _ _ _ _ _ sz3 rfl rfl rfl (by decide) (map_lt (ix_ok hv15).2) ((map_set (f := Value.int .i64) _ (ix_ok hv15).2).trans (congrArg (List.map _) (Option.some.inj hv16)))),
              trivial⟩ ?_
          refine pt_then ?_
          refine ht_exit ?_
          refine pt_x_then ?_
          refine pt_x_in ?_
          exact hl75 _ (Option.some.inj h).symm
        · have h := cond_f hb77 h
          refine ht_skip ?_
          refine pt_then ?_
          refine ht_seq ?_
          obtain ⟨v17, hv17, h⟩ := bind_some h
          obtain ⟨v18, hv18, h⟩ := bind_some h
          obtain ⟨v19, hv19, h⟩ := bind_some h
          refine ht_seqR hn (El := (_ :: _ :: _ :: _ :: _ :: (43, .fl .shr 3 (List.flatten (List.map T_Tok.enc l))) :: (44, .v (.int .i64 s53)) :: (45, .eref (.slot 43) (v17 * 3)) :: (46, .eref (.slot 43) (v17 * 3 + 1)) :: (47, .v (.int .i64 v18.Len)) :: (48, .tup [.v (.int .i64 v19.1), .v (.int .i64 v19.2.1), .v (.int .i64 v19.2.2.1), .v (.int .i64 v19.2.2.2)]) :: (42, .tup [.v (.int .i64 v19.1), .v (.int .i64 v19.2.1), .v (.int .i64 v19.2.2.1), .v (.int .i64 v19.2.2.2)]) :: (49, .v (.int .i64 v19.1)) :: (50, .v (.int .i64 v19.2.1)) :: (51, .v (.int .i64 v19.2.2.1)) :: (52, .v (.int .i64 v19.2.2.2)) :: (7, .v (.int .i64 v19.1)) :: (8, .v (.int .i64 v19.2.1)) :: (9, .v (.int .i64 v19.2.2.1)) :: (10, .v (.int .i64 v19.2.2.2)) :: [])) (init := [0, 1, 2, 3, 4]) (fin := [0, 1, 2, 3, 16]) (sps := (⟨[0], [], [5], [(.slot 43)]⟩ :: ⟨[3], [], [6], [(.slot 44)]⟩ :: ⟨[5, 6], [], [7], [(.slot 45)]⟩ :: ⟨[7, 5], [], [8], [(.slot 46)]⟩ :: ⟨[8, 5], [], [9], [(.slot 47)]⟩ :: ⟨[9], [], [10], [(.slot 48)]⟩ :: ⟨[], [10], [11], [(.slot 42)]⟩ :: ⟨[11], [], [12], [(.slot 49)]⟩ :: ⟨[11], [], [13], [(.slot 50)]⟩ :: ⟨[11], [], [14], [(.slot 51)]⟩ :: ⟨[11], [], [15], [(.slot 52)]⟩ :: ⟨[12], [], [16], [(.slot 7)]⟩ :: ⟨[13], [], [17], [(.slot 8)]⟩ :: ⟨[14], [], [18], [(.slot 9)]⟩ :: ⟨[15], [], [19], [(.slot 10)]⟩ :: [])) (es' := [(_, _), (_, _), (_, _), (_, _), (7, .v (.int .i64 v19.1))]) (by kernel_rfl) rfl rfl
            ⟨st_plain rfl (op_move _ _ _ _ rfl rfl),
              st_plain rfl (op_move _ _ _ _ rfl rfl),
              st_plain rfl (op_ix _ _ _ _ _ _ _ _ Try.underlying22 sz48 (by decide) rfl rfl rfl (ix_ok hv17).1 (flat_lt T_Tok.len (ix_ok hv17).2) rfl),
              st_plain rfl (op_fieldAddr_e _ _ _ _ _ _ _ Try.underlying48 rfl sz3 rfl rfl rfl),
              st_plain rfl (op_load_e _ _ _ _ _ _ Try.underlying3 rfl rfl rfl (flat_cell T_Tok.len hv18 rfl)),
              st_plain rfl (op_call _ _ 10 _ _ rfl Try.call10 rfl (ok_wherryref01_Len v18.Len _ hv19) rfl rfl),
              st_plain rfl (op_move_take _ _ _ _ rfl),
              st_plain rfl (op_extract _ _ _ _ _ rfl rfl (Nat.le_of_ble_eq_true rfl) rfl rfl),
              st_plain rfl (op_extract _ _ _ _ _ rfl rfl (Nat.le_of_ble_eq_true rfl) rfl rfl),
              st_plain rfl (op_extract _ _ _ _ _ rfl rfl (Nat.le_of_ble_eq_true rfl) rfl rfl),
              st_plain rfl (op_extract _ _ _ _ _ rfl rfl (Nat.le_of_ble_eq_true rfl) rfl rfl),
              st_plain rfl (op_assign _ _ _ _ rfl rfl),
              st_plain rfl (op_assign _ _ _ _ rfl rfl),
              st_plain rfl (op_assign _ _ _ _ rfl rfl),
              st_plain rfl (op_assign _ _ _ _ rfl rfl),
              trivial⟩ ?_
          refine pt_then ?_
          refine ht_seq ?_
          obtain ⟨v20, hv20, h⟩ := bind_some h
          obtain ⟨v21, hv21, h⟩ := bind_some h
          obtain ⟨v22, hv22, h⟩ := bind_some h
          refine ht_seqR hn (El := (_ :: _ :: _ :: _ :: _ :: (54, .fl .shr 3 (List.flatten (List.map T_Tok.enc l))) :: (55, .v (.int .i64 s53)) :: (56, .eref (.slot 54) (v20 * 3)) :: (57, .eref (.slot 54) (v20 * 3 + 2)) :: (58, .v (.int .i64 v21.Dist)) :: (59, .tup [.v (.int .i64 v22.1), .v (.int .i64 v22.2.1), .v (.int .i64 v22.2.2.1), .v (.int .i64 v22.2.2.2)]) :: (53, .tup [.v (.int .i64 v22.1), .v (.int .i64 v22.2.1), .v (.int .i64 v22.2.2.1), .v (.int .i64 v22.2.2.2)]) :: (60, .v (.int .i64 v22.1)) :: (61, .v (.int .i64 v22.2.1)) :: (62, .v (.int .i64 v22.2.2.1)) :: (63, .v (.int .i64 v22.2.2.2)) :: (11, .v (.int .i64 v22.1)) :: (12, .v (.int .i64 v22.2.1)) :: (13, .v (.int .i64 v22.2.2.1)) :: (14, .v (.int .i64 v22.2.2.2)) :: [])) (init := [0, 1, 2, 3, 4]) (fin := [0, 1, 2, 3, 4, 16]) (sps := (⟨[0], [], [5], [(.slot 54)]⟩ :: ⟨[3], [], [6], [(.slot 55)]⟩ :: ⟨[5, 6], [], [7], [(.slot 56)]⟩ :: ⟨[7, 5], [], [8], [(.slot 57)]⟩ :: ⟨[8, 5], [], [9], [(.slot 58)]⟩ :: ⟨[9], [], [10], [(.slot 59)]⟩ :: ⟨[], [10], [11], [(.slot 53)]⟩ :: ⟨[11], [], [12], [(.slot 60)]⟩ :: ⟨[11], [], [13], [(.slot 61)]⟩ :: ⟨[11], [], [14], [(.slot 62)]⟩ :: ⟨[11], [], [15], [(.slot 63)]⟩ :: ⟨[12], [], [16], [(.slot 11)]⟩ :: ⟨[13], [], [17], [(.slot 12)]⟩ :: ⟨[14], [], [18], [(.slot 13)]⟩ :: ⟨[15], [], [19], [(.slot 14)]⟩ :: [])) (es' := [(_, _), (_, _), (_, _), (_, _), (_, _), (11, .v (.int .i64 v22.1))]) (by kernel_rfl) rfl rfl
            ⟨st_plain rfl (op_move _ _ _ _ rfl rfl),
              st_plain rfl (op_move _ _ _ _ rfl rfl),
              st_plain rfl (op_ix _ _ _ _ _ _ _ _ Try.underlying22 sz48 (by decide) rfl rfl rfl (ix_ok hv20).1 (flat_lt T_Tok.len (ix_ok hv20).2) rfl),
              st_plain rfl (op_fieldAddr_e _ _ _ _ _ _ _ Try.underlying48 rfl sz3 rfl rfl rfl),
              st_plain rfl (op_load_e _ _ _ _ _ _ Try.underlying3 rfl rfl rfl (flat_cell T_Tok.len hv21 rfl)),
              st_plain rfl (op_call _ _ 12 _ _ rfl Try.call12 rfl (ok_wherryref01_Dist v21.Dist _ hv22) rfl rfl),
              st_plain rfl (op_move_take _ _ _ _ rfl),
              st_plain rfl (op_extract _ _ _ _ _ rfl rfl (Nat.le_of_ble_eq_true rfl) rfl rfl),
              st_plain rfl (op_extract _ _ _ _ _ rfl rfl (Nat.le_of_ble_eq_true rfl) rfl rfl),
              st_plain rfl (op_extract _ _ _ _ _ rfl rfl (Nat.le_of_ble_eq_true rfl) rfl rfl),
              st_plain rfl (op_extract _ _ _ _ _ rfl rfl (Nat.le_of_ble_eq_true rfl) rfl rfl),
              st_plain rfl (op_assign _ _ _ _ rfl rfl),
              st_plain rfl (op_assign _ _ _ _ rfl rfl),
              st_plain rfl (op_assign _ _ _ _ rfl rfl),
              st_plain rfl (op_assign _ _ _ _ rfl rfl),
              trivial⟩ ?_
          refine pt_then ?_
          refine ht_seq ?_
          obtain ⟨v23, hv23, h⟩ := bind_some h
          obtain ⟨v24, hv24, h⟩ := bind_some h
          obtain ⟨v25, hv25, h⟩ := bind_some h
          obtain ⟨v26, hv26, h⟩ := bind_some h
          obtain ⟨v27, hv27, h⟩ := bind_some h
          refine ht_seqR hn (El := [_, _, _, _, _, _, (64, .same (.slot 4)), (65, .v (.int .i64 v19.1)), (66, .eref (.slot 4) (v23 * 1)), (67, .v (.int .i64 v24)), (68, .v (.int .i64 v25)), (69, .eref (.slot 4) (v26 * 1)), (4, .fl (.own 3) 1 (List.map (Value.int .i64) v27))]) (init := [0, 1, 2, 3, 4, 5]) (fin := [0, 12, 2, 3, 5]) (sps := [⟨[1], [], [6], [(.slot 64)]⟩, ⟨[4], [], [7], [(.slot 65)]⟩, ⟨[6, 1, 7], [], [8], [(.slot 66)]⟩, ⟨[8, 1], [], [9], [(.slot 67)]⟩, ⟨[9], [], [10], [(.slot 68)]⟩, ⟨[6, 1, 7], [], [11], [(.slot 69)]⟩, ⟨[11, 10], [1], [12], []⟩]) (es' := [(_, _), (4, .fl (.own 3) 1 (List.map (Value.int .i64) v27)), (_, _), (_, _), (_, _)]) (by kernel_rfl) rfl rfl
            ⟨st_plain rfl (op_move _ _ _ _ rfl rfl),
              st_plain rfl (op_move _ _ _ _ rfl rfl),
              st_plain rfl (op_ix _ _ _ _ _ _ _ _ Try.underlying28 sz3 (by decide) rfl rfl rfl (ix_ok hv23).1 (map_lt (ix_ok hv23).2) rfl),
              st_plain rfl (op_load_e _ _ _ _ _ _ Try.underlying3 rfl rfl rfl (map_get hv24)),
              st_plain rfl (op_bin _ _ _ _ _ rfl rfl (ibind (f := Value.int .i64) (Option.some.inj hv25))),
              st_plain rfl (op_ix _ _ _ _ _ _ _ _ Try.underlying28 sz3 (by decide) rfl rfl rfl (ix_ok hv26).1 (map_lt (ix_ok hv26).2) rfl),
              st_plain rfl (op_store_e _ _ _ _ _ _ _ _ sz3 rfl rfl rfl (by decide) (map_lt (ix_ok hv26).2) ((map_set (f := Value.int .i64) _ (ix_ok hv26).2).trans (congrArg (List.map _) (Option.some.inj hv27)))),
              trivial⟩ ?_
          refine pt_then ?_
          obtain ⟨v28, hv28, h⟩ := bind_some h
          obtain ⟨v29, hv29, h⟩ := bind_some h
          obtain ⟨v30, hv30, h⟩ := bind_some h
          obtain ⟨v31, hv31, h⟩ := bind_some h
          obtain ⟨v32, hv32, h⟩ := bind_some h
          refine ht_seqR hn (El := [_, _, _, _, _, (70, .same (.slot 5)), (71, .v (.int .i64 v22.1)), (72, .eref (.slot 5) (v28 * 1)), (73, .v (.int .i64 v29)), (74, .v (.int .i64 v30)), (75, .eref (.slot 5) (v31 * 1)), (5, .fl (.own 3) 1 (List.map (Value.int .i64) v32))]) (init := [0, 1, 2, 3, 4]) (fin := [0, 1, 11, 3]) (sps := [⟨[2], [], [5], [(.slot 70)]⟩, ⟨[4], [], [6], [(.slot 71)]⟩, ⟨[5, 2, 6], [], [7], [(.slot 72)]⟩, ⟨[7, 2], [], [8], [(.slot 73)]⟩, ⟨[8], [], [9], [(.slot 74)]⟩, ⟨[5, 2, 6], [], [10], [(.slot 75)]⟩, ⟨[10, 9], [2], [11], []⟩]) (es' := [(_, _), (_, _), (5, .fl (.own 3) 1 (List.map (Value.int .i64) v32)), (_, _)]) (by kernel_rfl) rfl rfl
            ⟨st_plain rfl (op_move _ _ _ _ rfl rfl),
              st_plain rfl (op_move _ _ _ _ rfl rfl),
              st_plain rfl (op_ix _ _ _ _ _ _ _ _ Try.underlying28 sz3 (by decide) rfl rfl rfl (ix_ok hv28).1 (map_lt (ix_ok hv28).2) rfl),
              st_plain rfl (op_load_e _ _ _ _ _ _ Try.underlying3 rfl rfl rfl (map_get hv29)),
              st_plain rfl (op_bin _ _ _ _ _ rfl rfl (ibind (f := Value.int .i64) (Option.some.inj hv30))),
              st_plain rfl (op_ix _ _ _ _ _ _ _ _ Try.underlying28 sz3 (by decide) rfl rfl rfl (ix_ok hv31).1 (map_lt (ix_ok hv31).2) rfl),
              st_plain rfl (op_store_e _ _ _ _ _ _ _ _ sz3 rfl rfl rfl (by decide) (map_lt (ix_ok hv31).2) ((map_set (f := Value.int .i64) _ (ix_ok hv31).2).trans (congrArg (List.map _) (Option.some.inj hv32)))),
              trivial⟩ ?_
          refine pt_inb ?_
          exact hl75 _ (Option.some.inj h).symm
    · have h := cond_f hb70 h
      refine ht_exit ?_
      refine pt_x_then ?_
      refine pt_x_then ?_
      refine pt_x_in ?_
      refine pt_pick [1, 2] (by kernel_rfl) (es' := [(_, _), (_, _)]) rfl ?_
      exact hl65 _ (ho67 _ (Option.some.inj h).symm).symm

set_option maxHeartbeats 1000000 in
theorem ok_wherryref01_Weights (l : (List T_Tok)) (r : ((List Int) × (List Int) × Int)) (h : Sh.wherryref01_Weights l = some r) : FnOK Try.prog 21 [.fl .shr 3 (List.flatten (List.map T_Tok.enc l))] (.tup [.fl (.own 3) 1 (List.map (Value.int .i64) r.1), .fl (.own 3) 1 (List.map (Value.int .i64) r.2.1), .v (.int .i64 r.2.2)]) := by
  unfold Sh.wherryref01_Weights at h
  refine fn_ok Try.func21 rfl (Nat.le_of_ble_eq_true rfl) rfl rfl fun g0 hn hio => ?_
  refine ht_seq ?_
  refine ht_seqR hn (El := [_, (2, .v (.slice none 0 0)), (3, .v (.slice none 0 0)), (4, .v (.int .i64 0))]) (init := [0]) (fin := [0]) (sps := [⟨[], [], [1], [(.slot 2)]⟩, ⟨[], [], [2], [(.slot 3)]⟩, ⟨[], [], [3], [(.slot 4)]⟩]) (es' := [(_, _)]) (by kernel_rfl) rfl rfl
    ⟨st_plain rfl (op_assign _ _ _ _ rfl rfl),
      st_plain rfl (op_assign _ _ _ _ rfl rfl),
      st_plain rfl (op_assign _ _ _ _ rfl rfl),
      trivial⟩ ?_
  refine pt_then ?_
  refine ht_seq ?_
  refine ht_seq ?_
  obtain ⟨v1, hv1, h⟩ := bind_some h
  refine ht_seqR hn (El := [_, (8, .fl .shr 3 (List.flatten (List.map T_Tok.enc l))), (9, .v (.int .i64 v1)), (5, .v (.int .i64 v1))]) (init := [0]) (fin := [0, 3]) (sps := [⟨[0], [], [1], [(.slot 8)]⟩, ⟨[1], [], [2], [(.slot 9)]⟩, ⟨[2], [], [3], [(.slot 5)]⟩]) (es' := [(_, _), (5, .v (.int .i64 v1))]) (by kernel_rfl) rfl rfl
    ⟨st_plain rfl (op_move _ _ _ _ rfl rfl),
      st_plain rfl (op_call _ _ 36 _ _ rfl Try.call36 rfl (ok_wherryref01_CheckToks l _ hv1) rfl rfl),
      st_plain rfl (op_assign _ _ _ _ rfl rfl),
      trivial⟩ ?_
  refine pt_then ?_
  refine ht_seq ?_
  refine ht_seqR hn (El := [_, _, (10, .v (.int .i64 v1)), (11, .v (.bool (v1 != 0)))]) (init := [0, 1]) (fin := [0, 1, 3]) (sps := [⟨[1], [], [2], [(.slot 10)]⟩, ⟨[2], [], [3], [(.slot 11)]⟩]) (es' := [(_, _), (_, _), (11, .v (.bool (v1 != 0)))]) (by kernel_rfl) rfl rfl
    ⟨st_plain rfl (op_move _ _ _ _ rfl rfl),
      st_plain rfl (op_bin _ _ _ _ _ rfl rfl rfl),
      trivial⟩ ?_
  refine pt_then ?_
  refine ht_cond _ rfl (fun hb2 => ?_) (fun hb2 => ?_)
  · have h := cond_t hb2 h
    refine ht_seq ?_
    refine ht_seqR hn (El := [_, _, _, (12, .v (.int .i64 v1)), (2, .v (.slice none 0 0)), (3, .v (.slice none 0 0)), (4, .v (.int .i64 v1))]) (init := [0, 1, 2]) (fin := [4, 5, 6]) (sps := [⟨[1], [], [3], [(.slot 12)]⟩, ⟨[], [], [4], [(.slot 2)]⟩, ⟨[], [], [5], [(.slot 3)]⟩, ⟨[3], [], [6], [(.slot 4)]⟩]) (es' := [(2, .v (.slice none 0 0)), (3, .v (.slice none 0 0)), (4, .v (.int .i64 v1))]) (by kernel_rfl) rfl rfl
      ⟨st_plain rfl (op_move _ _ _ _ rfl rfl),
        st_plain rfl (op_assign _ _ _ _ rfl rfl),
        st_plain rfl (op_assign _ _ _ _ rfl rfl),
        st_plain rfl (op_assign _ _ _ _ rfl rfl),
        trivial⟩ ?_
    refine pt_then ?_
    refine ht_ret ?_
    refine pt_sub (fs := [(2, .fl (.own 3) 1 (List.map (Value.int .i64) [])), (3, .fl (.own 3) 1 (List.map (Value.int .i64) [])), (4, .v (.int .i64 v1))]) (.sub _ (sub_nil 3 1) rfl (.sub _ (sub_nil 3 1) rfl (.same _ .nil))) ?_
    refine pt_r_then ?_
    obtain rfl := Option.some.inj h
    exact pt_ret hio rfl (.tmp _ _ (.tmp _ _ (.tmp _ _ .nil))) rfl rfl
  · have h := cond_f hb2 h
    refine ht_skip ?_
    refine pt_then ?_
    refine ht_seq ?_
    obtain ⟨v3, hv3, h⟩ := bind_some h
    refine ht_seqR hn (El := [_, _, _, (14, .fl .shr 3 (List.flatten (List.map T_Tok.enc l))), (15, .tup [.fl (.own 3) 1 (List.map (Value.int .i64) v3.1), .fl (.own 3) 1 (List.map (Value.int .i64) v3.2)]), (13, .tup [.fl (.own 3) 1 (List.map (Value.int .i64) v3.1), .fl (.own 3) 1 (List.map (Value.int .i64) v3.2)]), (16, .fl (.own 3) 1 (List.map (Value.int .i64) v3.1)), (13, .tup [.any, .fl (.own 3) 1 (List.map (Value.int .i64) v3.2)]), (17, .fl (.own 3) 1 (List.map (Value.int .i64) v3.2)), (13, .tup [.any, .any]), (6, .fl (.own 3) 1 (List.map (Value.int .i64) v3.1)), (7, .fl (.own 3) 1 (List.map (Value.int .i64) v3.2))]) (init := [0, 1, 2]) (fin := [10, 11]) (sps := [⟨[0], [], [3], [(.slot 14)]⟩, ⟨[3], [], [4], [(.slot 15)]⟩, ⟨[], [4], [5], [(.slot 13)]⟩, ⟨[], [5], [7, 6], [(.slot 16)]⟩, ⟨[], [7], [9, 8], [(.slot 17)]⟩, ⟨[], [6], [10], [(.slot 6)]⟩, ⟨[], [8], [11], [(.slot 7)]⟩]) (es' := [(6, .fl (.own 3) 1 (List.map (Value.int .i64) v3.1)), (7, .fl (.own 3) 1 (List.map (Value.int .i64) v3.2))]) (by kernel_rfl) rfl rfl
      ⟨st_plain rfl (op_move _ _ _ _ rfl rfl),
        st_plain rfl (op_call _ _ 37 _ _ rfl Try.call37 rfl (ok_wherryref01_weights l _ hv3) rfl rfl),
        st_plain rfl (op_move_take _ _ _ _ rfl),
        st_plain rfl (op_extract_take _ _ _ _ _ rfl (Nat.le_of_ble_eq_true rfl) rfl rfl (by decide) rfl),
        st_plain rfl (op_extract_take _ _ _ _ _ rfl (Nat.le_of_ble_eq_true rfl) rfl rfl (by decide) rfl),
        st_plain rfl (op_assign_take _ _ _ _ rfl),
        st_plain rfl (op_assign_take _ _ _ _ rfl),
        trivial⟩ ?_
    refine pt_then ?_
    refine ht_seq ?_
    refine ht_seqR hn (El := [_, _, (18, .fl (.own 3) 1 (List.map (Value.int .i64) v3.1)), (19, .fl (.own 3) 1 (List.map (Value.int .i64) v3.2)), (2, .fl (.own 3) 1 (List.map (Value.int .i64) v3.1)), (3, .fl (.own 3) 1 (List.map (Value.int .i64) v3.2)), (4, .v (.int .i64 0))]) (init := [0, 1]) (fin := [4, 5, 6]) (sps := [⟨[], [0], [2], [(.slot 18)]⟩, ⟨[], [1], [3], [(.slot 19)]⟩, ⟨[], [2], [4], [(.slot 2)]⟩, ⟨[], [3], [5], [(.slot 3)]⟩, ⟨[], [], [6], [(.slot 4)]⟩]) (es' := [(2, .fl (.own 3) 1 (List.map (Value.int .i64) v3.1)), (3, .fl (.own 3) 1 (List.map (Value.int .i64) v3.2)), (4, .v (.int .i64 0))]) (by kernel_rfl) rfl rfl
      ⟨st_plain rfl (op_move_take _ _ _ _ rfl),
        st_plain rfl (op_move_take _ _ _ _ rfl),
        st_plain rfl (op_assign_take _ _ _ _ rfl),
        st_plain rfl (op_assign_take _ _ _ _ rfl),
        st_plain rfl (op_assign _ _ _ _ rfl rfl),
        trivial⟩ ?_
    refine pt_then ?_
    refine ht_ret ?_
    obtain rfl := Option.some.inj h
    exact pt_ret hio rfl (.tmp _ _ (.tmp _ _ (.tmp _ _ .nil))) rfl rfl

set_option maxHeartbeats 1000000 in
theorem ok_wherrykeep_Ints (a : (List Int)) (b : (List Int)) (r : Bool) (h : Sh.wherrykeep_Ints a b = some r) : FnOK Try.prog 22 [.fl .shr 1 (List.map (Value.int .i64) a), .fl .shr 1 (List.map (Value.int .i64) b)] (.v (.bool r)) := by
  unfold Sh.wherrykeep_Ints at h
  refine fn_ok Try.func22 rfl (Nat.le_of_ble_eq_true rfl) rfl rfl fun g0 hn hio => ?_
  refine ht_seq ?_
  refine ht_seqR hn (El := [_, _, (4, .v (.bool false))]) (init := [0, 1]) (fin := [0, 1]) (sps := [⟨[], [], [2], [(.slot 4)]⟩]) (es' := [(_, _), (_, _)]) (by kernel_rfl) rfl rfl
    ⟨st_plain rfl (op_assign _ _ _ _ rfl rfl),
      trivial⟩ ?_
  refine pt_then ?_
  refine ht_seq ?_
  refine ht_seq ?_
  refine ht_seqR hn (El := [_, _, (6, .fl .shr 1 (List.map (Value.int .i64) a)), (7, .v (.int .i64 (a.length : Int))), (8, .fl .shr 1 (List.map (Value.int .i64) b)), (9, .v (.int .i64 (b.length : Int))), (10, .v (.bool (((a.length : Int) != (b.length : Int)))))]) (init := [0, 1]) (fin := [0, 1, 6]) (sps := [⟨[0], [], [2], [(.slot 6)]⟩, ⟨[2], [], [3], [(.slot 7)]⟩, ⟨[1], [], [4], [(.slot 8)]⟩, ⟨[4], [], [5], [(.slot 9)]⟩, ⟨[3, 5], [], [6], [(.slot 10)]⟩]) (es' := [(_, _), (_, _), (10, .v (.bool (((a.length : Int) != (b.length : Int)))))]) (by kernel_rfl) rfl rfl
    ⟨st_plain rfl (op_move _ _ _ _ rfl rfl),
      st_plain rfl (op_len_fl _ _ _ Try.underlying28 rfl (by decide) (map_len _)),
      st_plain rfl (op_move _ _ _ _ rfl rfl),
      st_plain rfl (op_len_fl _ _ _ Try.underlying28 rfl (by decide) (map_len _)),
      st_plain rfl (op_bin _ _ _ _ _ rfl rfl rfl),
      trivial⟩ ?_
  refine pt_then ?_
  refine ht_cond _ rfl (fun hb1 => ?_) (fun hb1 => ?_)
  · have h := cond_t hb1 h
    refine ht_seq ?_
    refine ht_seqR hn (El := [_, _, _, (4, .v (.bool false))]) (init := [0, 1, 2]) (fin := [3]) (sps := [⟨[], [], [3], [(.slot 4)]⟩]) (es' := [(4, .v (.bool false))]) (by kernel_rfl) rfl rfl
      ⟨st_plain rfl (op_assign _ _ _ _ rfl rfl),
        trivial⟩ ?_
    refine pt_then ?_
    refine ht_ret ?_
    refine pt_r_then ?_
    obtain rfl := Option.some.inj h
    exact pt_ret hio rfl (.tmp _ _ .nil) rfl rfl
  · have h := cond_f hb1 h
    refine ht_skip ?_
    refine pt_then ?_
    refine ht_seq ?_
    refine ht_seq ?_
    refine ht_seqR hn (El := [_, _, _, (5, .v (.int .i64 0))]) (init := [0, 1, 2]) (fin := [0, 1, 3]) (sps := [⟨[], [], [3], [(.slot 5)]⟩]) (es' := [(_, _), (_, _), (5, .v (.int .i64 0))]) (by kernel_rfl) rfl rfl
      ⟨st_plain rfl (op_assign _ _ _ _ rfl rfl),
        trivial⟩ ?_
    refine pt_then ?_
    refine ht_loopS h (fun (s12 : Int) => [(0, .fl .shr 1 (List.map (Value.int .i64) a)), (1, .fl .shr 1 (List.map (Value.int .i64) b)), (5, .v (.int .i64 s12))]) (fun (() : Unit) => []) ?_ ?_
    · rintro ⟨⟩ h
      refine pt_then ?_
      refine ht_seq ?_
      refine ht_seqR hn (El := [(4, .v (.bool true))]) (init := []) (fin := [0]) (sps := [⟨[], [], [0], [(.slot 4)]⟩]) (es' := [(4, .v (.bool true))]) (by kernel_rfl) rfl rfl
        ⟨st_plain rfl (op_assign _ _ _ _ rfl rfl),
          trivial⟩ ?_
      refine pt_then ?_
      refine ht_ret ?_
      obtain rfl := Option.some.inj h
      exact pt_ret hio rfl (.tmp _ _ .nil) rfl rfl
    · rintro u15 hl16 hr17 s12 rr20 h ho18
      refine ht_seq ?_
      refine ht_seq ?_
      refine ht_seqR hn (El := [_, _, _, (11, .v (.int .i64 s12)), (12, .fl .shr 1 (List.map (Value.int .i64) a)), (13, .v (.int .i64 (a.length : Int))), (14, .v (.bool ((decide (s12 < (a.length : Int))))))]) (init := [0, 1, 2]) (fin := [0, 1, 2, 6]) (sps := [⟨[2], [], [3], [(.slot 11)]⟩, ⟨[0], [], [4], [(.slot 12)]⟩, ⟨[4], [], [5], [(.slot 13)]⟩, ⟨[3, 5], [], [6], [(.slot 14)]⟩]) (es' := [(_, _), (_, _), (_, _), (14, .v (.bool ((decide (s12 < (a.length : Int))))))]) (by kernel_rfl) rfl rfl
        ⟨st_plain rfl (op_move _ _ _ _ rfl rfl),
          st_plain rfl (op_move _ _ _ _ rfl rfl),
          st_plain rfl (op_len_fl _ _ _ Try.underlying28 rfl (by decide) (map_len _)),
          st_plain rfl (op_bin _ _ _ _ _ rfl rfl rfl),
          trivial⟩ ?_
      refine pt_then ?_
      refine ht_cond _ rfl (fun hb21 => ?_) (fun hb21 => ?_)
      · have h := cond_t hb21 h
        refine ht_skip ?_
        refine pt_then ?_
        refine ht_seq ?_
        refine ht_block ?_
        refine ht_seq ?_
        obtain ⟨v3, hv3, h⟩ := bind_some h
        obtain ⟨v4, hv4, h⟩ := bind_some h
        obtain ⟨v5, hv5, h⟩ := bind_some h
        obtain ⟨v6, hv6, h⟩ := bind_some h
        refine ht_anyR (by kernel_rfl) hn (El := [_, _, _, _, (17, .fl .shr 1 (List.map (Value.int .i64) a)), (18, .v (.int .i64 s12)), (19, .eref (.slot 17) (v3 * 1)), (20, .v (.int .i64 v4)), (21, .fl .shr 1 (List.map (Value.int .i64) b)), (22, .v (.int .i64 s12)), (23, .eref (.slot 21) (v5 * 1)), (24, .v (.int .i64 v6)), (25, .v (.bool (v4 != v6)))]) (init := [0, 1, 2, 3]) (fin := [0, 1, 2, 12]) (sps := [⟨[0], [], [4], [(.slot 17)]⟩, ⟨[2], [], [5], [(.slot 18)]⟩, ⟨[4, 5], [], [6], [(.slot 19)]⟩, ⟨[6, 4], [], [7], [(.slot 20)]⟩, ⟨[1], [], [8], [(.slot 21)]⟩, ⟨[2], [], [9], [(.slot 22)]⟩, ⟨[8, 9], [], [10], [(.slot 23)]⟩, ⟨[10, 8], [], [11], [(.slot 24)]⟩, ⟨[7, 11], [], [12], [(.slot 25)]⟩]) (es' := [(_, _), (_, _), (_, _), (25, .v (.bool (v4 != v6)))]) (by kernel_rfl) rfl rfl
          ⟨st_plain rfl (op_move _ _ _ _ rfl rfl),
            st_plain rfl (op_move _ _ _ _ rfl rfl),
            st_plain rfl (op_ix _ _ _ _ _ _ _ _ Try.underlying28 sz3 (by decide) rfl rfl rfl (ix_ok hv3).1 (map_lt (ix_ok hv3).2) rfl),
            st_plain rfl (op_load_e _ _ _ _ _ _ Try.underlying3 rfl rfl rfl (map_get hv4)),
            st_plain rfl (op_move _ _ _ _ rfl rfl),
            st_plain rfl (op_move _ _ _ _ rfl rfl),
            st_plain rfl (op_ix _ _ _ _ _ _ _ _ Try.underlying28 sz3 (by decide) rfl rfl rfl (ix_ok hv5).1 (map_lt (ix_ok hv5).2) rfl),
            st_plain rfl (op_load_e _ _ _ _ _ _ Try.underlying3 rfl rfl rfl (map_get hv6)),
            st_plain rfl (op_bin _ _ _ _ _ rfl rfl rfl),
            trivial⟩ ?_
        refine pt_then ?_
        refine ht_cond _ rfl (fun hb22 => ?_) (fun hb22 => ?_)
        · have h := cond_t hb22 h
          refine ht_seq ?_
          refine ht_seqR hn (El := [_, _, _, _, (4, .v (.bool false))]) (init := [0, 1, 2, 3]) (fin := [4]) (sps := [⟨[], [], [4], [(.slot 4)]⟩]) (es' := [(4, .v (.bool false))]) (by kernel_rfl) rfl rfl
            ⟨st_plain rfl (op_assign _ _ _ _ rfl rfl),
              trivial⟩ ?_
          refine pt_then ?_
          refine ht_ret ?_
          refine pt_r_in ?_
          refine pt_r_then ?_
          refine pt_r_then ?_
          refine pt_r_in ?_
          refine pt_r_then ?_
          have h := hr17 _ (ho18 _ (Option.some.inj h).symm).symm
          obtain rfl := Option.some.inj h
          exact pt_ret hio rfl (.tmp _ _ .nil) rfl rfl
        · have h := cond_f hb22 h
          refine ht_skip ?_
          refine pt_inb ?_
          refine pt_then ?_
          obtain ⟨v8, hv8, h⟩ := bind_some h
          refine ht_seqR hn (El := [_, _, _, _, (15, .v (.int .i64 s12)), (16, .v (.int .i64 v8)), (5, .v (.int .i64 v8))]) (init := [0, 1, 2, 3]) (fin := [0, 1, 6]) (sps := [⟨[2], [], [4], [(.slot 15)]⟩, ⟨[4], [], [5], [(.slot 16)]⟩, ⟨[5], [2], [6], [(.slot 5)]⟩]) (es' := [(_, _), (_, _), (5, .v (.int .i64 v8))]) (by kernel_rfl) rfl rfl
            ⟨st_plain rfl (op_move _ _ _ _ rfl rfl),
              st_plain rfl (op_bin _ _ _ _ _ rfl rfl (ibind (f := Value.int .i64) (Option.some.inj hv8))),
              st_plain rfl (LOp.drop [_] (op_assign _ _ _ _ rfl rfl)),
              trivial⟩ ?_
          exact pt_next _ (Option.some.inj h).symm rfl
      · have h := cond_f hb21 h
        refine ht_exit ?_
        refine pt_x_then ?_
        refine pt_x_then ?_
        refine pt_x_in ?_
        refine pt_pick [] (by kernel_rfl) (es' := []) rfl ?_
        exact hl16 _ (ho18 _ (Option.some.inj h).symm).symm

set_option maxHeartbeats 1000000 in
theorem ok_wherrykeep_Toks (a : (List T_Tok)) (b : (List T_Tok)) (r : Bool) (h : Sh.wherrykeep_Toks a b = some r) : FnOK Try.prog 23 [.fl .shr 3 (List.flatten (List.map T_Tok.enc a)), .fl .shr 3 (List.flatten (List.map T_Tok.enc b))] (.v (.bool r)) := by
  unfold Sh.wherrykeep_Toks at h
  refine fn_ok Try.func23 rfl (Nat.le_of_ble_eq_true rfl) rfl rfl fun g0 hn hio => ?_
  refine ht_seq ?_
  refine ht_seqR hn (El := [_, _, (4, .v (.bool false))]) (init := [0, 1]) (fin := [0, 1]) (sps := [⟨[], [], [2], [(.slot 4)]⟩]) (es' := [(_, _), (_, _)]) (by kernel_rfl) rfl rfl
    ⟨st_plain rfl (op_assign _ _ _ _ rfl rfl),
      trivial⟩ ?_
  refine pt_then ?_
  refine ht_seq ?_
  refine ht_seq ?_
  refine ht_seqR hn (El := [_, _, (6, .fl .shr 3 (List.flatten (List.map T_Tok.enc a))), (7, .v (.int .i64 (a.length : Int))), (8, .fl .shr 3 (List.flatten (List.map T_Tok.enc b))), (9, .v (.int .i64 (b.length : Int))), (10, .v (.bool (((a.length : Int) != (b.length : Int)))))]) (init := [0, 1]) (fin := [0, 1, 6]) (sps := [⟨[0], [], [2], [(.slot 6)]⟩, ⟨[2], [], [3], [(.slot 7)]⟩, ⟨[1], [], [4], [(.slot 8)]⟩, ⟨[4], [], [5], [(.slot 9)]⟩, ⟨[3, 5], [], [6], [(.slot 10)]⟩]) (es' := [(_, _), (_, _), (10, .v (.bool (((a.length : Int) != (b.length : Int)))))]) (by kernel_rfl) rfl rfl
    ⟨st_plain rfl (op_move _ _ _ _ rfl rfl),
      st_plain rfl (op_len_fl _ _ _ Try.underlying22 rfl (by decide) (flat_len T_Tok.len _)),
      st_plain rfl (op_move _ _ _ _ rfl rfl),
      st_plain rfl (op_len_fl _ _ _ Try.underlying22 rfl (by decide) (flat_len T_Tok.len _)),
      st_plain rfl (op_bin _ _ _ _ _ rfl rfl rfl),
      trivial⟩ ?_
  refine pt_then ?_
  refine ht_cond _ rfl (fun hb1 => ?_) (fun hb1 => ?_)
  · have h := cond_t hb1 h
    refine ht_seq ?_
    refine ht_seqR hn (El := [_, _, _, (4, .v (.bool false))]) (init := [0, 1, 2]) (fin := [3]) (sps := [⟨[], [], [3], [(.slot 4)]⟩]) (es' := [(4, .v (.bool false))]) (by kernel_rfl) rfl rfl
      ⟨st_plain rfl (op_assign _ _ _ _ rfl rfl),
        trivial⟩ ?_
    refine pt_then ?_
    refine ht_ret ?_
    refine pt_r_then ?_
    obtain rfl := Option.some.inj h
    exact pt_ret hio rfl (.tmp _ _ .nil) rfl rfl
  · have h := cond_f hb1 h
    refine ht_skip ?_
    refine pt_then ?_
    refine ht_seq ?_
    refine ht_seq ?_
    refine ht_seqR hn (El := [_, _, _, (5, .v (.int .i64 0))]) (init := [0, 1, 2]) (fin := [0, 1, 3]) (sps := [⟨[], [], [3], [(.slot 5)]⟩]) (es' := [(_, _), (_, _), (5, .v (.int .i64 0))]) (by kernel_rfl) rfl rfl
      ⟨st_plain rfl (op_assign _ _ _ _ rfl rfl),
        trivial⟩ ?_
    refine pt_then ?_
    refine ht_loopS h (fun (s28 : Int) => [(0, .fl .shr 3 (List.flatten (List.map T_Tok.enc a))), (1, .fl .shr 3 (List.flatten (List.map T_Tok.enc b))), (5, .v (.int .i64 s28))]) (fun (() : Unit) => []) ?_ ?_
    · rintro ⟨⟩ h
      refine pt_then ?_
      refine ht_seq ?_
      refine ht_seqR hn (El := [(4, .v (.bool true))]) (init := []) (fin := [0]) (sps := [⟨[], [], [0], [(.slot 4)]⟩]) (es' := [(4, .v (.bool true))]) (by kernel_rfl) rfl rfl
        ⟨st_plain rfl (op_assign _ _ _ _ rfl rfl),
          trivial⟩ ?_
      refine pt_then ?_
      refine ht_ret ?_
      obtain rfl := Option.some.inj h
      exact pt_ret hio rfl (.tmp _ _ .nil) rfl rfl
    · rintro u35 hl36 hr37 s28 rr40 h ho38
      refine ht_seq ?_
      refine ht_seq ?_
      refine ht_seqR hn (El := [_, _, _, (11, .v (.int .i64 s28)), (12, .fl .shr 3 (List.flatten (List.map T_Tok.enc a))), (13, .v (.int .i64 (a.length : Int))), (14, .v (.bool ((decide (s28 < (a.length : Int))))))]) (init := [0, 1, 2]) (fin := [0, 1, 2, 6]) (sps := [⟨[2], [], [3], [(.slot 11)]⟩, ⟨[0], [], [4], [(.slot 12)]⟩, ⟨[4], [], [5], [(.slot 13)]⟩, ⟨[3, 5], [], [6], [(.slot 14)]⟩]) (es' := [(_, _), (_, _), (_, _), (14, .v (.bool ((decide (s28 < (a.length : Int))))))]) (by kernel_rfl) rfl rfl
        ⟨st_plain rfl (op_move _ _ _ _ rfl rfl),
          st_plain rfl (op_move _ _ _ _ rfl rfl),
          st_plain rfl (op_len_fl _ _ _ Try.underlying22 rfl (by decide) (flat_len T_Tok.len _)),
          st_plain rfl (op_bin _ _ _ _ _ rfl rfl rfl),
          trivial⟩ ?_
      refine pt_then ?_
      refine ht_cond _ rfl (fun hb41 => ?_) (fun hb41 => ?_)
      · have h := cond_t hb41 h
        refine ht_skip ?_
        refine pt_then ?_
        refine ht_seq ?_
        refine ht_block ?_
        refine ht_seq ?_
        refine ht_joinS h (fun (s42 : Bool) => [(0, .fl .shr 3 (List.flatten (List.map T_Tok.enc a))), (1, .fl .shr 3 (List.flatten (List.map T_Tok.enc b))), (5, .v (.int .i64 s28)), (53, .v (.bool s42))]) ?_ ?_
        · rintro s42 h
          refine pt_then ?_
          refine ht_cond _ rfl (fun hb46 => ?_) (fun hb46 => ?_)
          · have h := cond_t hb46 h
            refine ht_seq ?_
            refine ht_seqR hn (El := [_, _, _, _, (4, .v (.bool false))]) (init := [0, 1, 2, 3]) (fin := [4]) (sps := [⟨[], [], [4], [(.slot 4)]⟩]) (es' := [(4, .v (.bool false))]) (by kernel_rfl) rfl rfl
              ⟨st_plain rfl (op_assign _ _ _ _ rfl rfl),
                trivial⟩ ?_
            refine pt_then ?_
            refine ht_ret ?_
            refine pt_r_in ?_
            refine pt_r_then ?_
            refine pt_r_then ?_
            refine pt_r_in ?_
            refine pt_r_then ?_
            have h := hr37 _ (ho38 _ (Option.some.inj h).symm).symm
            obtain rfl := Option.some.inj h
            exact pt_ret hio rfl (.tmp _ _ .nil) rfl rfl
          · have h := cond_f hb46 h
            refine ht_skip ?_
            refine pt_inb ?_
            refine pt_then ?_
            obtain ⟨v20, hv20, h⟩ := bind_some h
            refine ht_seqR hn (El := [_, _, _, _, (15, .v (.int .i64 s28)), (16, .v (.int .i64 v20)), (5, .v (.int .i64 v20))]) (init := [0, 1, 2, 3]) (fin := [0, 1, 6]) (sps := [⟨[2], [], [4], [(.slot 15)]⟩, ⟨[4], [], [5], [(.slot 16)]⟩, ⟨[5], [2], [6], [(.slot 5)]⟩]) (es' := [(_, _), (_, _), (5, .v (.int .i64 v20))]) (by kernel_rfl) rfl rfl
              ⟨st_plain rfl (op_move _ _ _ _ rfl rfl),
                st_plain rfl (op_bin _ _ _ _ _ rfl rfl (ibind (f := Value.int .i64) (Option.some.inj hv20))),
                st_plain rfl (LOp.drop [_] (op_assign _ _ _ _ rfl rfl)),
                trivial⟩ ?_
            exact pt_next _ (Option.some.inj h).symm rfl
        · intro u43 h hl44 hr45
          obtain ⟨v3, hv3, h⟩ := bind_some h
          obtain ⟨v4, hv4, h⟩ := bind_some h
          obtain ⟨v5, hv5, h⟩ := bind_some h
          obtain ⟨v6, hv6, h⟩ := bind_some h
          refine cond_some h (fun hg6_11 h => ?_) (fun hg6_11 h => ?_)
          · refine ht_anyR (by kernel_rfl) hn (El := (_ :: _ :: _ :: _ :: (17, .fl .shr 3 (List.flatten (List.map T_Tok.enc a))) :: (18, .v (.int .i64 s28)) :: (19, .eref (.slot 17) (v3 * 3)) :: (20, .eref (.slot 17) (v3 * 3 + 0)) :: (21, .v (.int .u8 v4.Byte)) :: (22, .fl .shr 3 (List.flatten (List.map T_Tok.enc b))) :: (23, .v (.int .i64 s28)) :: (24, .eref (.slot 22) (v5 * 3)) :: (25, .eref (.slot 22) (v5 * 3 + 0)) :: (26, .v (.int .u8 v6.Byte)) :: (27, .v (.bool (v4.Byte != v6.Byte))) :: (28, .v (.bool true)) :: (29, .v undef) :: (30, .v undef) :: (31, .v undef) :: (32, .v undef) :: (33, .v undef) :: (34, .v undef) :: (35, .v undef) :: (36, .v undef) :: (37, .v undef) :: (38, .v undef) :: (39, .v undef) :: (40, .v (.bool true)) :: (41, .v (.bool true)) :: (42, .v undef) :: (43, .v undef) :: (44, .v undef) :: (45, .v undef) :: (46, .v undef) :: (47, .v undef) :: (48, .v undef) :: (49, .v undef) :: (50, .v undef) :: (51, .v undef) :: (52, .v undef) :: (53, .v (.bool true)) :: [])) (init := [0, 1, 2, 3]) (fin := [0, 1, 2, 40]) (sps := (⟨[0], [], [4], [(.slot 17)]⟩ :: ⟨[2], [], [5], [(.slot 18)]⟩ :: ⟨[4, 5], [], [6], [(.slot 19)]⟩ :: ⟨[6, 4], [], [7], [(.slot 20)]⟩ :: ⟨[7, 4], [], [8], [(.slot 21)]⟩ :: ⟨[1], [], [9], [(.slot 22)]⟩ :: ⟨[2], [], [10], [(.slot 23)]⟩ :: ⟨[9, 10], [], [11], [(.slot 24)]⟩ :: ⟨[11, 9], [], [12], [(.slot 25)]⟩ :: ⟨[12, 9], [], [13], [(.slot 26)]⟩ :: ⟨[8, 13], [], [14], [(.slot 27)]⟩ :: ⟨[14], [], [15], [(.slot 28)]⟩ :: ⟨[15], [], [16], [(.slot 29)]⟩ :: ⟨[15], [], [17], [(.slot 30)]⟩ :: ⟨[15], [], [18], [(.slot 31)]⟩ :: ⟨[15], [], [19], [(.slot 32)]⟩ :: ⟨[15], [], [20], [(.slot 33)]⟩ :: ⟨[15], [], [21], [(.slot 34)]⟩ :: ⟨[15], [], [22], [(.slot 35)]⟩ :: ⟨[15], [], [23], [(.slot 36)]⟩ :: ⟨[15], [], [24], [(.slot 37)]⟩ :: ⟨[15], [], [25], [(.slot 38)]⟩ :: ⟨[15], [], [26], [(.slot 39)]⟩ :: ⟨[15], [], [27], [(.slot 40)]⟩ :: ⟨[27], [], [28], [(.slot 41)]⟩ :: ⟨[28], [], [29], [(.slot 42)]⟩ :: ⟨[28], [], [30], [(.slot 43)]⟩ :: ⟨[28], [], [31], [(.slot 44)]⟩ :: ⟨[28], [], [32], [(.slot 45)]⟩ :: ⟨[28], [], [33], [(.slot 46)]⟩ :: ⟨[28], [], [34], [(.slot 47)]⟩ :: ⟨[28], [], [35], [(.slot 48)]⟩ :: ⟨[28], [], [36], [(.slot 49)]⟩ :: ⟨[28], [], [37], [(.slot 50)]⟩ :: ⟨[28], [], [38], [(.slot 51)]⟩ :: ⟨[28], [], [39], [(.slot 52)]⟩ :: ⟨[28], [], [40], [(.slot 53)]⟩ :: [])) (es' := [(_, _), (_, _), (_, _), (53, .v (.bool true))]) (by kernel_rfl) rfl rfl
              ⟨st_plain rfl (op_move _ _ _ _ rfl rfl),
                st_plain rfl (op_move _ _ _ _ rfl rfl),
                st_plain rfl (op_ix _ _ _ _ _ _ _ _ Try.underlying22 sz48 (by decide) rfl rfl rfl (ix_ok hv3).1 (flat_lt T_Tok.len (ix_ok hv3).2) rfl),
                st_plain rfl (op_fieldAddr_e _ _ _ _ _ _ _ Try.underlying48 rfl sz5 rfl rfl rfl),
                st_plain rfl (op_load_e _ _ _ _ _ _ Try.underlying5 rfl rfl rfl (flat_cell T_Tok.len hv4 rfl)),
                st_plain rfl (op_move _ _ _ _ rfl rfl),
                st_plain rfl (op_move _ _ _ _ rfl rfl),
                st_plain rfl (op_ix _ _ _ _ _ _ _ _ Try.underlying22 sz48 (by decide) rfl rfl rfl (ix_ok hv5).1 (flat_lt T_Tok.len (ix_ok hv5).2) rfl),
                st_plain rfl (op_fieldAddr_e _ _ _ _ _ _ _ Try.underlying48 rfl sz5 rfl rfl rfl),
                st_plain rfl (op_load_e _ _ _ _ _ _ Try.underlying5 rfl rfl rfl (flat_cell T_Tok.len hv6 rfl)),
                st_plain rfl (op_bin _ _ _ _ _ rfl rfl rfl),
                st_plain rfl (op_move _ _ _ _ (congrArg (fun b => AV.v (Value.bool b)) hg6_11) rfl),
                st_skip 11 28 _ false rfl rfl rfl rfl (List.Mem.head _),
                st_skip 11 28 _ false rfl rfl rfl rfl (List.Mem.head _),
                st_skip 11 28 _ false rfl rfl rfl rfl (List.Mem.head _),
                st_skip 11 28 _ false rfl rfl rfl rfl (List.Mem.head _),
                st_skip 11 28 _ false rfl rfl rfl rfl (List.Mem.head _),
                st_skip 11 28 _ false rfl rfl rfl rfl (List.Mem.head _),
                st_skip 11 28 _ false rfl rfl rfl rfl (List.Mem.head _),
                st_skip 11 28 _ false rfl rfl rfl rfl (List.Mem.head _),
                st_skip 11 28 _ false rfl rfl rfl rfl (List.Mem.head _),
                st_skip 11 28 _ false rfl rfl rfl rfl (List.Mem.head _),
                st_skip 11 28 _ false rfl rfl rfl rfl (List.Mem.head _),
                st_plain rfl (op_pick _ _ true _ rfl rfl),
                st_plain rfl (op_move _ _ _ _ rfl rfl),
                st_skip 24 41 _ false rfl rfl rfl rfl (List.Mem.head _),
                st_skip 24 41 _ false rfl rfl rfl rfl (List.Mem.head _),
                st_skip 24 41 _ false rfl rfl rfl rfl (List.Mem.head _),
                st_skip 24 41 _ false rfl rfl rfl rfl (List.Mem.head _),
                st_skip 24 41 _ false rfl rfl rfl rfl (List.Mem.head _),
                st_skip 24 41 _ false rfl rfl rfl rfl (List.Mem.head _),
                st_skip 24 41 _ false rfl rfl rfl rfl (List.Mem.head _),
                st_skip 24 41 _ false rfl rfl rfl rfl (List.Mem.head _),
                st_skip 24 41 _ false rfl rfl rfl rfl (List.Mem.head _),
                st_skip 24 41 _ false rfl rfl rfl rfl (List.Mem.head _),
                st_skip 24 41 _ false rfl rfl rfl rfl (List.Mem.head _),
                st_plain rfl (op_pick _ _ true _ rfl rfl),
                trivial⟩ ?_
            exact hl44 _ (Option.some.inj h).symm
          · obtain ⟨v7, hv7, h⟩ := bind_some h
            obtain ⟨v8, hv8, h⟩ := bind_some h
            obtain ⟨v9, hv9, h⟩ := bind_some h
            obtain ⟨v10, hv10, h⟩ := bind_some h
            refine cond_some h (fun hg6_24 h => ?_) (fun hg6_24 h => ?_)
            · refine ht_anyR (by kernel_rfl) hn (El := (_ :: _ :: _ :: _ :: (17, .fl .shr 3 (List.flatten (List.map T_Tok.enc a))) :: (18, .v (.int .i64 s28)) :: (19, .eref (.slot 17) (v3 * 3)) :: (20, .eref (.slot 17) (v3 * 3 + 0)) :: (21, .v (.int .u8 v4.Byte)) :: (22, .fl .shr 3 (List.flatten (List.map T_Tok.enc b))) :: (23, .v (.int .i64 s28)) :: (24, .eref (.slot 22) (v5 * 3)) :: (25, .eref (.slot 22) (v5 * 3 + 0)) :: (26, .v (.int .u8 v6.Byte)) :: (27, .v (.bool (v4.Byte != v6.Byte))) :: (28, .v (.bool false)) :: (29, .fl .shr 3 (List.flatten (List.map T_Tok.enc a))) :: (30, .v (.int .i64 s28)) :: (31, .eref (.slot 29) (v7 * 3)) :: (32, .eref (.slot 29) (v7 * 3 + 1)) :: (33, .v (.int .i64 v8.Len)) :: (34, .fl .shr 3 (List.flatten (List.map T_Tok.enc b))) :: (35, .v (.int .i64 s28)) :: (36, .eref (.slot 34) (v9 * 3)) :: (37, .eref (.slot 34) (v9 * 3 + 1)) :: (38, .v (.int .i64 v10.Len)) :: (39, .v (.bool (v8.Len != v10.Len))) :: (40, .v (.bool (v8.Len != v10.Len))) :: (41, .v (.bool true)) :: (42, .v undef) :: (43, .v undef) :: (44, .v undef) :: (45, .v undef) :: (46, .v undef) :: (47, .v undef) :: (48, .v undef) :: (49, .v undef) :: (50, .v undef) :: (51, .v undef) :: (52, .v undef) :: (53, .v (.bool true)) :: [])) (init := [0, 1, 2, 3]) (fin := [0, 1, 2, 40]) (sps := (⟨[0], [], [4], [(.slot 17)]⟩ :: ⟨[2], [], [5], [(.slot 18)]⟩ :: ⟨[4, 5], [], [6], [(.slot 19)]⟩ :: ⟨[6, 4], [], [7], [(.slot 20)]⟩ :: ⟨[7, 4], [], [8], [(.slot 21)]⟩ :: ⟨[1], [], [9], [(.slot 22)]⟩ :: ⟨[2], [], [10], [(.slot 23)]⟩ :: ⟨[9, 10], [], [11], [(.slot 24)]⟩ :: ⟨[11, 9], [], [12], [(.slot 25)]⟩ :: ⟨[12, 9], [], [13], [(.slot 26)]⟩ :: ⟨[8, 13], [], [14], [(.slot 27)]⟩ :: ⟨[14], [], [15], [(.slot 28)]⟩ :: ⟨[15, 0], [], [16], [(.slot 29)]⟩ :: ⟨[15, 2], [], [17], [(.slot 30)]⟩ :: ⟨[15, 16, 17], [], [18], [(.slot 31)]⟩ :: ⟨[15, 18, 16], [], [19], [(.slot 32)]⟩ :: ⟨[15, 19, 16], [], [20], [(.slot 33)]⟩ :: ⟨[15, 1], [], [21], [(.slot 34)]⟩ :: ⟨[15, 2], [], [22], [(.slot 35)]⟩ :: ⟨[15, 21, 22], [], [23], [(.slot 36)]⟩ :: ⟨[15, 23, 21], [], [24], [(.slot 37)]⟩ :: ⟨[15, 24, 21], [], [25], [(.slot 38)]⟩ :: ⟨[15, 20, 25], [], [26], [(.slot 39)]⟩ :: ⟨[15, 26], [], [27], [(.slot 40)]⟩ :: ⟨[27], [], [28], [(.slot 41)]⟩ :: ⟨[28], [], [29], [(.slot 42)]⟩ :: ⟨[28], [], [30], [(.slot 43)]⟩ :: ⟨[28], [], [31], [(.slot 44)]⟩ :: ⟨[28], [], [32], [(.slot 45)]⟩ :: ⟨[28], [], [33], [(.slot 46)]⟩ :: ⟨[28], [], [34], [(.slot 47)]⟩ :: ⟨[28], [], [35], [(.slot 48)]⟩ :: ⟨[28], [], [36], [(.slot 49)]⟩ :: ⟨[28], [], [37], [(.slot 50)]⟩ :: ⟨[28], [], [38], [(.slot 51)]⟩ :: ⟨[28], [], [39], [(.slot 52)]⟩ :: ⟨[28], [], [40], [(.slot 53)]⟩ :: [])) (es' := [(_, _), (_, _), (_, _), (53, .v (.bool true))]) (by kernel_rfl) rfl rfl
                ⟨st_plain rfl (op_move _ _ _ _ rfl rfl),
                  st_plain rfl (op_move _ _ _ _ rfl rfl),
                  st_plain rfl (op_ix _ _ _ _ _ _ _ _ Try.underlying22 sz48 (by decide) rfl rfl rfl (ix_ok hv3).1 (flat_lt T_Tok.len (ix_ok hv3).2) rfl),
                  st_plain rfl (op_fieldAddr_e _ _ _ _ _ _ _ Try.underlying48 rfl sz5 rfl rfl rfl),
                  st_plain rfl (op_load_e _ _ _ _ _ _ Try.underlying5 rfl rfl rfl (flat_cell T_Tok.len hv4 rfl)),
                  st_plain rfl (op_move _ _ _ _ rfl rfl),
                  st_plain rfl (op_move _ _ _ _ rfl rfl),
                  st_plain rfl (op_ix _ _ _ _ _ _ _ _ Try.underlying22 sz48 (by decide) rfl rfl rfl (ix_ok hv5).1 (flat_lt T_Tok.len (ix_ok hv5).2) rfl),
                  st_plain rfl (op_fieldAddr_e _ _ _ _ _ _ _ Try.underlying48 rfl sz5 rfl rfl rfl),
                  st_plain rfl (op_load_e _ _ _ _ _ _ Try.underlying5 rfl rfl rfl (flat_cell T_Tok.len hv6 rfl)),
                  st_plain rfl (op_bin _ _ _ _ _ rfl rfl rfl),
                  st_plain rfl (op_move _ _ _ _ (congrArg (fun b => AV.v (Value.bool b)) hg6_11) rfl),
                  st_run 11 28 false rfl rfl rfl (List.Mem.head _) (op_move _ _ _ _ rfl rfl),
                  st_run 11 28 false rfl rfl rfl (List.Mem.head _) (op_move _ _ _ _ rfl rfl),
                  st_run 11 28 false rfl rfl rfl (List.Mem.head _) (op_ix _ _ _ _ _ _ _ _ Try.underlying22 sz48 (by decide) rfl rfl rfl (ix_ok hv7).1 (flat_lt T_Tok.len (ix_ok hv7).2) rfl),
                  st_run 11 28 false rfl rfl rfl (List.Mem.head _) (op_fieldAddr_e _ _ _ _ _ _ _ Try.underlying48 rfl sz3 rfl rfl rfl),
                  st_run 11 28 false rfl rfl rfl (List.Mem.head _) (op_load_e _ _ _ _ _ _ Try.underlying3 rfl rfl rfl (flat_cell T_Tok.len hv8 rfl)),
                  st_run 11 28 false rfl rfl rfl (List.Mem.head _) (op_move _ _ _ _ rfl rfl),
                  st_run 11 28 false rfl rfl rfl (List.Mem.head _) (op_move _ _ _ _ rfl rfl),
                  st_run 11 28 false rfl rfl rfl (List.Mem.head _) (op_ix _ _ _ _ _ _ _ _ Try.underlying22 sz48 (by decide) rfl rfl rfl (ix_ok hv9).1 (flat_lt T_Tok.len (ix_ok hv9).2) rfl),
                  st_run 11 28 false rfl rfl rfl (List.Mem.head _) (op_fieldAddr_e _ _ _ _ _ _ _ Try.underlying48 rfl sz3 rfl rfl rfl),
                  st_run 11 28 false rfl rfl rfl (List.Mem.head _) (op_load_e _ _ _ _ _ _ Try.underlying3 rfl rfl rfl (flat_cell T_Tok.len hv10 rfl)),
                  st_run 11 28 false rfl rfl rfl (List.Mem.head _) (op_bin _ _ _ _ _ rfl rfl rfl),
                  st_plain rfl (op_pick _ _ false _ rfl rfl),
                  st_plain rfl (op_move _ _ _ _ (congrArg (fun b => AV.v (Value.bool b)) hg6_24) rfl),
                  st_skip 24 41 _ false rfl rfl rfl rfl (List.Mem.head _),
                  st_skip 24 41 _ false rfl rfl rfl rfl (List.Mem.head _),
                  st_skip 24 41 _ false rfl rfl rfl rfl (List.Mem.head _),
                  st_skip 24 41 _ false rfl rfl rfl rfl (List.Mem.head _),
                  st_skip 24 41 _ false rfl rfl rfl rfl (List.Mem.head _),
                  st_skip 24 41 _ false rfl rfl rfl rfl (List.Mem.head _),
                  st_skip 24 41 _ false rfl rfl rfl rfl (List.Mem.head _),
                  st_skip 24 41 _ false rfl rfl rfl rfl (List.Mem.head _),
                  st_skip 24 41 _ false rfl rfl rfl rfl (List.Mem.head _),
                  st_skip 24 41 _ false rfl rfl rfl rfl (List.Mem.head _),
                  st_skip 24 41 _ false rfl rfl rfl rfl (List.Mem.head _),
                  st_plain rfl (op_pick _ _ true _ rfl rfl),
                  trivial⟩ ?_
              exact hl44 _ (Option.some.inj h).symm
            · obtain ⟨v11, hv11, h⟩ := bind_some h
              obtain ⟨v12, hv12, h⟩ := bind_some h
              obtain ⟨v13, hv13, h⟩ := bind_some h
              obtain ⟨v14, hv14, h⟩ := bind_some h
              refine ht_anyR (by kernel_rfl) hn (El := (_ :: _ :: _ :: _ :: (17, .fl .shr 3 (List.flatten (List.map T_Tok.enc a))) :: (18, .v (.int .i64 s28)) :: (19, .eref (.slot 17) (v3 * 3)) :: (20, .eref (.slot 17) (v3 * 3 + 0)) :: (21, .v (.int .u8 v4.Byte)) :: (22, .fl .shr 3 (List.flatten (List.map T_Tok.enc b))) :: (23, .v (.int .i64 s28)) :: (24, .eref (.slot 22) (v5 * 3)) :: (25, .eref (.slot 22) (v5 * 3 + 0)) :: (26, .v (.int .u8 v6.Byte)) :: (27, .v (.bool (v4.Byte != v6.Byte))) :: (28, .v (.bool false)) :: (29, .fl .shr 3 (List.flatten (List.map T_Tok.enc a))) :: (30, .v (.int .i64 s28)) :: (31, .eref (.slot 29) (v7 * 3)) :: (32, .eref (.slot 29) (v7 * 3 + 1)) :: (33, .v (.int .i64 v8.Len)) :: (34, .fl .shr 3 (List.flatten (List.map T_Tok.enc b))) :: (35, .v (.int .i64 s28)) :: (36, .eref (.slot 34) (v9 * 3)) :: (37, .eref (.slot 34) (v9 * 3 + 1)) :: (38, .v (.int .i64 v10.Len)) :: (39, .v (.bool (v8.Len != v10.Len))) :: (40, .v (.bool (v8.Len != v10.Len))) :: (41, .v (.bool false)) :: (42, .fl .shr 3 (List.flatten (List.map T_Tok.enc a))) :: (43, .v (.int .i64 s28)) :: (44, .eref (.slot 42) (v11 * 3)) :: (45, .eref (.slot 42) (v11 * 3 + 2)) :: (46, .v (.int .i64 v12.Dist)) :: (47, .fl .shr 3 (List.flatten (List.map T_Tok.enc b))) :: (48, .v (.int .i64 s28)) :: (49, .eref (.slot 47) (v13 * 3)) :: (50, .eref (.slot 47) (v13 * 3 + 2)) :: (51, .v (.int .i64 v14.Dist)) :: (52, .v (.bool (v12.Dist != v14.Dist))) :: (53, .v (.bool (v12.Dist != v14.Dist))) :: [])) (init := [0, 1, 2, 3]) (fin := [0, 1, 2, 40]) (sps := (⟨[0], [], [4], [(.slot 17)]⟩ :: ⟨[2], [], [5], [(.slot 18)]⟩ :: ⟨[4, 5], [], [6], [(.slot 19)]⟩ :: ⟨[6, 4], [], [7], [(.slot 20)]⟩ :: ⟨[7, 4], [], [8], [(.slot 21)]⟩ :: ⟨[1], [], [9], [(.slot 22)]⟩ :: ⟨[2], [], [10], [(.slot 23)]⟩ :: ⟨[9, 10], [], [11], [(.slot 24)]⟩ :: ⟨[11, 9], [], [12], [(.slot 25)]⟩ :: ⟨[12, 9], [], [13], [(.slot 26)]⟩ :: ⟨[8, 13], [], [14], [(.slot 27)]⟩ :: ⟨[14], [], [15], [(.slot 28)]⟩ :: ⟨[15, 0], [], [16], [(.slot 29)]⟩ :: ⟨[15, 2], [], [17], [(.slot 30)]⟩ :: ⟨[15, 16, 17], [], [18], [(.slot 31)]⟩ :: ⟨[15, 18, 16], [], [19], [(.slot 32)]⟩ :: ⟨[15, 19, 16], [], [20], [(.slot 33)]⟩ :: ⟨[15, 1], [], [21], [(.slot 34)]⟩ :: ⟨[15, 2], [], [22], [(.slot 35)]⟩ :: ⟨[15, 21, 22], [], [23], [(.slot 36)]⟩ :: ⟨[15, 23, 21], [], [24], [(.slot 37)]⟩ :: ⟨[15, 24, 21], [], [25], [(.slot 38)]⟩ :: ⟨[15, 20, 25], [], [26], [(.slot 39)]⟩ :: ⟨[15, 26], [], [27], [(.slot 40)]⟩ :: ⟨[27], [], [28], [(.slot 41)]⟩ :: ⟨[28, 0], [], [29], [(.slot 42)]⟩ :: ⟨[28, 2], [], [30], [(.slot 43)]⟩ :: ⟨[28, 29, 30], [], [31], [(.slot 44)]⟩ :: ⟨[28, 31, 29], [], [32], [(.slot 45)]⟩ :: ⟨[28, 32, 29], [], [33], [(.slot 46)]⟩ :: ⟨[28, 1], [], [34], [(.slot 47)]⟩ :: ⟨[28, 2], [], [35], [(.slot 48)]⟩ :: ⟨[28, 34, 35], [], [36], [(.slot 49)]⟩ :: ⟨[28, 36, 34], [], [37], [(.slot 50)]⟩ :: ⟨[28, 37, 34], [], [38], [(.slot 51)]⟩ :: ⟨[28, 33, 38], [], [39], [(.slot 52)]⟩ :: ⟨[28, 39], [], [40], [(.slot 53)]⟩ :: [])) (es' := [(_, _), (_, _), (_, _), (53, .v (.bool (v12.Dist != v14.Dist)))]) (by kernel_rfl) rfl rfl
                ⟨st_plain rfl (op_move _ _ _ _ rfl rfl),
                  st_plain rfl (op_move _ _ _ _ rfl rfl),
                  st_plain rfl (op_ix _ _ _ _ _ _ _ _ Try.underlying22 sz48 (by decide) rfl rfl rfl (ix_ok hv3).1 (flat_lt T_Tok.len (ix_ok hv3).2) rfl),
                  st_plain rfl (op_fieldAddr_e _ _ _ _ _ _ _ Try.underlying48 rfl sz5 rfl rfl rfl),
                  st_plain rfl (op_load_e _ _ _ _ _ _ Try.underlying5 rfl rfl rfl (flat_cell T_Tok.len hv4 rfl)),
                  st_plain rfl (op_move _ _ _ _ rfl rfl),
                  st_plain rfl (op_move _ _ _ _ rfl rfl),
                  st_plain rfl (op_ix _ _ _ _ _ _ _ _ Try.underlying22 sz48 (by decide) rfl rfl rfl (ix_ok hv5).1 (flat_lt T_Tok.len (ix_ok hv5).2) rfl),
                  st_plain rfl (op_fieldAddr_e _ _ _ _ _ _ _ Try.underlying48 rfl sz5 rfl rfl rfl),
                  st_plain rfl (op_load_e _ _ _ _ _ _ Try.underlying5 rfl rfl rfl (flat_cell T_Tok.len hv6 rfl)),
                  st_plain rfl (op_bin _ _ _ _ _ rfl rfl rfl),
                  st_plain rfl (op_move _ _ _ _ (congrArg (fun b => AV.v (Value.bool b)) hg6_11) rfl),
                  st_run 11 28 false rfl rfl rfl (List.Mem.head _) (op_move _ _ _ _ rfl rfl),
                  st_run 11 28 false rfl rfl rfl (List.Mem.head _) (op_move _ _ _ _ rfl rfl),
                  st_run 11 28 false rfl rfl rfl (List.Mem.head _) (op_ix _ _ _ _ _ _ _ _ Try.underlying22 sz48 (by decide) rfl rfl rfl (ix_ok hv7).1 (flat_lt T_Tok.len (ix_ok hv7).2) rfl),
                  st_run 11 28 false rfl rfl rfl (List.Mem.head _) (op_fieldAddr_e _ _ _ _ _ _ _ Try.underlying48 rfl sz3 rfl rfl rfl),
                  st_run 11 28 false rfl rfl rfl (List.Mem.head _) (op_load_e _ _ _ _ _ _ Try.underlying3 rfl rfl rfl (flat_cell T_Tok.len hv8 rfl)),
                  st_run 11 28 false rfl rfl rfl (List.Mem.head _) (op_move _ _ _ _ rfl rfl),
                  st_run 11 28 false rfl rfl rfl (List.Mem.head _) (op_move _ _ _ _ rfl rfl),
                  st_run 11 28 false rfl rfl rfl (List.Mem.head _) (op_ix _ _ _ _ _ _ _ _ Try.underlying22 sz48 (by decide) rfl rfl rfl (ix_ok hv9).1 (flat_lt T_Tok.len (ix_ok hv9).2) rfl),
                  st_run 11 28 false rfl rfl rfl (List.Mem.head _) (op_fieldAddr_e _ _ _ _ _ _ _ Try.underlying48 rfl sz3 rfl rfl rfl),
                  st_run 11 28 false rfl rfl rfl (List.Mem.head _) (op_load_e _ _ _ _ _ _ Try.underlying3 rfl rfl rfl (flat_cell T_Tok.len hv10 rfl)),
                  st_run 11 28 false rfl rfl rfl (List.Mem.head _) (op_bin _ _ _ _ _ rfl rfl rfl),
                  st_plain rfl (op_pick _ _ false _ rfl rfl),
                  st_plain rfl (op_move _ _ _ _ (congrArg (fun b => AV.v (Value.bool b)) hg6_24) rfl),
                  st_run 24 41 false rfl rfl rfl (List.Mem.head _) (op_move _ _ _ _ rfl rfl),
                  st_run 24 41 false rfl rfl rfl (List.Mem.head _) (op_move _ _ _ _ rfl rfl),
                  st_run 24 41 false rfl rfl rfl (List.Mem.head _) (op_ix _ _ _ _ _ _ _ _ Try.underlying22 sz48 (by decide) rfl rfl rfl (ix_ok hv11).1 (flat_lt T_Tok.len (ix_ok hv11).2) rfl),
                  st_run 24 41 false rfl rfl rfl (List.Mem.head _) (op_fieldAddr_e _ _ _ _ _ _ _ Try.underlying48 rfl sz3 rfl rfl rfl),
                  st_run 24 41 false rfl rfl rfl (List.Mem.head _) (op_load_e _ _ _ _ _ _ Try.underlying3 rfl rfl rfl (flat_cell T_Tok.len hv12 rfl)),
                  st_run 24 41 false rfl rfl rfl (List.Mem.head _) (op_move _ _ _ _ rfl rfl),
                  st_run 24 41 false rfl rfl rfl (List.Mem.head _) (op_move _ _ _ _ rfl rfl),
                  st_run 24 41 false rfl rfl rfl (List.Mem.head _) (op_ix _ _ _ _ _ _ _ _ Try.underlying22 sz48 (by decide) rfl rfl rfl (ix_ok hv13).1 (flat_lt T_Tok.len (ix_ok hv13).2) rfl),
                  st_run 24 41 false rfl rfl rfl (List.Mem.head _) (op_fieldAddr_e _ _ _ _ _ _ _ Try.underlying48 rfl sz3 rfl rfl rfl),
                  st_run 24 41 false rfl rfl rfl (List.Mem.head _) (op_load_e _ _ _ _ _ _ Try.underlying3 rfl rfl rfl (flat_cell T_Tok.len hv14 rfl)),
                  st_run 24 41 false rfl rfl rfl (List.Mem.head _) (op_bin _ _ _ _ _ rfl rfl rfl),
                  st_plain rfl (op_pick _ _ false _ rfl rfl),
                  trivial⟩ ?_
              exact hl44 _ (Option.some.inj h).symm
      · have h := cond_f hb41 h
        refine ht_exit ?_
        refine pt_x_then ?_
        refine pt_x_then ?_
        refine pt_x_in ?_
        refine pt_pick [] (by kernel_rfl) (es' := []) rfl ?_
        exact hl36 _ (ho38 _ (Option.some.inj h).symm).symm

set_option maxHeartbeats 1000000 in
theorem ok_wherrylaw05_wakes (r : Bool) (h : Sh.wherrylaw05_wakes  = some r) : FnOK Try.prog 24 [] (.v (.bool r)) := by
  unfold Sh.wherrylaw05_wakes at h
  refine fn_ok Try.func24 rfl (Nat.le_of_ble_eq_true rfl) rfl rfl fun g0 hn hio => ?_
  refine ht_seq ?_
  refine ht_seqR hn (El := [(0, .v (.bool false))]) (init := []) (fin := []) (sps := [⟨[], [], [0], [(.slot 0)]⟩]) (es' := []) (by kernel_rfl) rfl rfl
    ⟨st_plain rfl (op_assign _ _ _ _ rfl rfl),
      trivial⟩ ?_
  refine pt_then ?_
  refine ht_seq ?_
  obtain ⟨v1, hv1, h⟩ := bind_some h
  refine ht_seqR hn (El := [(10, .tup [.v (.int .i64 v1.1), .v (.int .i64 v1.2.1), .v (.int .i64 v1.2.2.1), .v (.int .i64 v1.2.2.2)]), (9, .tup [.v (.int .i64 v1.1), .v (.int .i64 v1.2.1), .v (.int .i64 v1.2.2.1), .v (.int .i64 v1.2.2.2)]), (11, .v (.int .i64 v1.1)), (12, .v (.int .i64 v1.2.1)), (13, .v (.int .i64 v1.2.2.1)), (14, .v (.int .i64 v1.2.2.2)), (1, .v (.int .i64 v1.1)), (2, .v (.int .i64 v1.2.1)), (3, .v (.int .i64 v1.2.2.1)), (4, .v (.int .i64 v1.2.2.2))]) (init := []) (fin := [6, 7, 8, 9]) (sps := [⟨[], [], [0], [(.slot 10)]⟩, ⟨[], [0], [1], [(.slot 9)]⟩, ⟨[1], [], [2], [(.slot 11)]⟩, ⟨[1], [], [3], [(.slot 12)]⟩, ⟨[1], [], [4], [(.slot 13)]⟩, ⟨[1], [], [5], [(.slot 14)]⟩, ⟨[2], [], [6], [(.slot 1)]⟩, ⟨[3], [], [7], [(.slot 2)]⟩, ⟨[4], [], [8], [(.slot 3)]⟩, ⟨[5], [], [9], [(.slot 4)]⟩]) (es' := [(1, .v (.int .i64 v1.1)), (2, .v (.int .i64 v1.2.1)), (3, .v (.int .i64 v1.2.2.1)), (4, .v (.int .i64 v1.2.2.2))]) (by kernel_rfl) rfl rfl
    ⟨st_plain rfl (op_call _ _ 9 _ _ rfl Try.call9 rfl (ok_sym_Len 11 _ hv1) rfl rfl),
      st_plain rfl (op_move_take _ _ _ _ rfl),
      st_plain rfl (op_extract _ _ _ _ _ rfl rfl (Nat.le_of_ble_eq_true rfl) rfl rfl),
      st_plain rfl (op_extract _ _ _ _ _ rfl rfl (Nat.le_of_ble_eq_true rfl) rfl rfl),
      st_plain rfl (op_extract _ _ _ _ _ rfl rfl (Nat.le_of_ble_eq_true rfl) rfl rfl),
      st_plain rfl (op_extract _ _ _ _ _ rfl rfl (Nat.le_of_ble_eq_true rfl) rfl rfl),
      st_plain rfl (op_assign _ _ _ _ rfl rfl),
      st_plain rfl (op_assign _ _ _ _ rfl rfl),
      st_plain rfl (op_assign _ _ _ _ rfl rfl),
      st_plain rfl (op_assign _ _ _ _ rfl rfl),
      trivial⟩ ?_
  refine pt_then ?_
  refine ht_seq ?_
  obtain ⟨v2, hv2, h⟩ := bind_some h
  refine ht_seqR hn (El := [_, _, _, _, (16, .tup [.v (.int .i64 v2.1), .v (.int .i64 v2.2.1), .v (.int .i64 v2.2.2.1), .v (.int .i64 v2.2.2.2)]), (15, .tup [.v (.int .i64 v2.1), .v (.int .i64 v2.2.1), .v (.int .i64 v2.2.2.1), .v (.int .i64 v2.2.2.2)]), (17, .v (.int .i64 v2.1)), (18, .v (.int .i64 v2.2.1)), (19, .v (.int .i64 v2.2.2.1)), (20, .v (.int .i64 v2.2.2.2)), (5, .v (.int .i64 v2.1)), (6, .v (.int .i64 v2.2.1)), (7, .v (.int .i64 v2.2.2.1)), (8, .v (.int .i64 v2.2.2.2))]) (init := [0, 1, 2, 3]) (fin := [0, 1, 2, 3, 10, 11, 12, 13]) (sps := [⟨[], [], [4], [(.slot 16)]⟩, ⟨[], [4], [5], [(.slot 15)]⟩, ⟨[5], [], [6], [(.slot 17)]⟩, ⟨[5], [], [7], [(.slot 18)]⟩, ⟨[5], [], [8], [(.slot 19)]⟩, ⟨[5], [], [9], [(.slot 20)]⟩, ⟨[6], [], [10], [(.slot 5)]⟩, ⟨[7], [], [11], [(.slot 6)]⟩, ⟨[8], [], [12], [(.slot 7)]⟩, ⟨[9], [], [13], [(.slot 8)]⟩]) (es' := [(_, _), (_, _), (_, _), (_, _), (5, .v (.int .i64 v2.1)), (6, .v (.int .i64 v2.2.1)), (7, .v (.int .i64 v2.2.2.1)), (8, .v (.int .i64 v2.2.2.2))]) (by kernel_rfl) rfl rfl
    ⟨st_plain rfl (op_call _ _ 11 _ _ rfl Try.call11 rfl (ok_sym_Dist 5 _ hv2) rfl rfl),
      st_plain rfl (op_move_take _ _ _ _ rfl),
      st_plain rfl (op_extract _ _ _ _ _ rfl rfl (Nat.le_of_ble_eq_true rfl) rfl rfl),
      st_plain rfl (op_extract _ _ _ _ _ rfl rfl (Nat.le_of_ble_eq_true rfl) rfl rfl),
      st_plain rfl (op_extract _ _ _ _ _ rfl rfl (Nat.le_of_ble_eq_true rfl) rfl rfl),
      st_plain rfl (op_extract _ _ _ _ _ rfl rfl (Nat.le_of_ble_eq_true rfl) rfl rfl),
      st_plain rfl (op_assign _ _ _ _ rfl rfl),
      st_plain rfl (op_assign _ _ _ _ rfl rfl),
      st_plain rfl (op_assign _ _ _ _ rfl rfl),
      st_plain rfl (op_assign _ _ _ _ rfl rfl),
      trivial⟩ ?_
  refine pt_then ?_
  refine ht_seq ?_
  refine ht_joinS h (fun (s3 : Bool) => [(0, .v (.bool s3))]) ?_ ?_
  · rintro s3 h
    refine pt_then ?_
    refine ht_ret ?_
    obtain rfl := Option.some.inj h
    exact pt_ret hio rfl (.tmp _ _ .nil) rfl rfl
  · intro u4 h hl5 hr6
    refine cond_some h (fun hg3_2 h => ?_) (fun hg3_2 h => ?_)
    · refine cond_some h (fun hg3_6 h => ?_) (fun hg3_6 h => ?_)
      · refine cond_some h (fun hg3_10 h => ?_) (fun hg3_10 h => ?_)
        · refine cond_some h (fun hg3_14 h => ?_) (fun hg3_14 h => ?_)
          · refine cond_some h (fun hg3_18 h => ?_) (fun hg3_18 h => ?_)
            · refine cond_some h (fun hg3_22 h => ?_) (fun hg3_22 h => ?_)
              · refine cond_some h (fun hg3_26 h => ?_) (fun hg3_26 h => ?_)
                · refine ht_seqR hn (El := (_ :: _ :: _ :: _ :: _ :: _ :: _ :: _ :: (21, .v (.int .i64 v1.2.2.2)) :: (22, .v (.bool (v1.2.2.2 == 0))) :: (23, .v (.bool true)) :: (24, .v (.int .i64 v2.2.2.2)) :: (25, .v (.bool (v2.2.2.2 == 0))) :: (26, .v (.bool (v2.2.2.2 == 0))) :: (27, .v (.bool true)) :: (28, .v (.int .i64 v1.1)) :: (29, .v (.bool (v1.1 == 265))) :: (30, .v (.bool (v1.1 == 265))) :: (31, .v (.bool true)) :: (32, .v (.int .i64 v1.2.1)) :: (33, .v (.bool (v1.2.1 == 1))) :: (34, .v (.bool (v1.2.1 == 1))) :: (35, .v (.bool true)) :: (36, .v (.int .i64 v1.2.2.1)) :: (37, .v (.bool (v1.2.2.1 == 0))) :: (38, .v (.bool (v1.2.2.1 == 0))) :: (39, .v (.bool true)) :: (40, .v (.int .i64 v2.1)) :: (41, .v (.bool (v2.1 == 4))) :: (42, .v (.bool (v2.1 == 4))) :: (43, .v (.bool true)) :: (44, .v (.int .i64 v2.2.1)) :: (45, .v (.bool (v2.2.1 == 1))) :: (46, .v (.bool (v2.2.1 == 1))) :: (47, .v (.bool true)) :: (48, .v (.int .i64 v2.2.2.1)) :: (49, .v (.bool (v2.2.2.1 == 0))) :: (50, .v (.bool (v2.2.2.1 == 0))) :: (0, .v (.bool (v2.2.2.1 == 0))) :: [])) (init := [0, 1, 2, 3, 4, 5, 6, 7]) (fin := [38]) (sps := (⟨[3], [], [8], [(.slot 21)]⟩ :: ⟨[8], [], [9], [(.slot 22)]⟩ :: ⟨[9], [], [10], [(.slot 23)]⟩ :: ⟨[10, 7], [], [11], [(.slot 24)]⟩ :: ⟨[10, 11], [], [12], [(.slot 25)]⟩ :: ⟨[10, 12], [], [13], [(.slot 26)]⟩ :: ⟨[13], [], [14], [(.slot 27)]⟩ :: ⟨[14, 0], [], [15], [(.slot 28)]⟩ :: ⟨[14, 15], [], [16], [(.slot 29)]⟩ :: ⟨[14, 16], [], [17], [(.slot 30)]⟩ :: ⟨[17], [], [18], [(.slot 31)]⟩ :: ⟨[18, 1], [], [19], [(.slot 32)]⟩ :: ⟨[18, 19], [], [20], [(.slot 33)]⟩ :: ⟨[18, 20], [], [21], [(.slot 34)]⟩ :: ⟨[21], [], [22], [(.slot 35)]⟩ :: ⟨[22, 2], [], [23], [(.slot 36)]⟩ :: ⟨[22, 23], [], [24], [(.slot 37)]⟩ :: ⟨[22, 24], [], [25], [(.slot 38)]⟩ :: ⟨[25], [], [26], [(.slot 39)]⟩ :: ⟨[26, 4], [], [27], [(.slot 40)]⟩ :: ⟨[26, 27], [], [28], [(.slot 41)]⟩ :: ⟨[26, 28], [], [29], [(.slot 42)]⟩ :: ⟨[29], [], [30], [(.slot 43)]⟩ :: ⟨[30, 5], [], [31], [(.slot 44)]⟩ :: ⟨[30, 31], [], [32], [(.slot 45)]⟩ :: ⟨[30, 32], [], [33], [(.slot 46)]⟩ :: ⟨[33], [], [34], [(.slot 47)]⟩ :: ⟨[34, 6], [], [35], [(.slot 48)]⟩ :: ⟨[34, 35], [], [36], [(.slot 49)]⟩ :: ⟨[34, 36], [], [37], [(.slot 50)]⟩ :: ⟨[37], [], [38], [(.slot 0)]⟩ :: [])) (es' := [(0, .v (.bool (v2.2.2.1 == 0)))]) (by kernel_rfl) rfl rfl
                    ⟨st_plain rfl (op_move _ _ _ _ rfl rfl),
                      st_plain rfl (op_bin _ _ _ _ _ rfl rfl rfl),
                      st_plain rfl (op_move _ _ _ _ (congrArg (fun b => AV.v (Value.bool b)) hg3_2) rfl),
                      st_run 2 23 true rfl rfl rfl (List.Mem.head _) (op_move _ _ _ _ rfl rfl),
                      st_run 2 23 true rfl rfl rfl (List.Mem.head _) (op_bin _ _ _ _ _ rfl rfl rfl),
                      st_plain rfl (op_pick _ _ true _ rfl rfl),
                      st_plain rfl (op_move _ _ _ _ (congrArg (fun b => AV.v (Value.bool b)) hg3_6) rfl),
                      st_run 6 27 true rfl rfl rfl (List.Mem.head _) (op_move _ _ _ _ rfl rfl),
                      st_run 6 27 true rfl rfl rfl (List.Mem.head _) (op_bin _ _ _ _ _ rfl rfl rfl),
                      st_plain rfl (op_pick _ _ true _ rfl rfl),
                      st_plain rfl (op_move _ _ _ _ (congrArg (fun b => AV.v (Value.bool b)) hg3_10) rfl),
                      st_run 10 31 true rfl rfl rfl (List.Mem.head _) (op_move _ _ _ _ rfl rfl),
                      st_run 10 31 true rfl rfl rfl (List.Mem.head _) (op_bin _ _ _ _ _ rfl rfl rfl),
                      st_plain rfl (op_pick _ _ true _ rfl rfl),
                      st_plain rfl (op_move _ _ _ _ (congrArg (fun b => AV.v (Value.bool b)) hg3_14) rfl),
                      st_run 14 35 true rfl rfl rfl (List.Mem.head _) (op_move _ _ _ _ rfl rfl),
                      st_run 14 35 true rfl rfl rfl (List.Mem.head _) (op_bin _ _ _ _ _ rfl rfl rfl),
                      st_plain rfl (op_pick _ _ true _ rfl rfl),
                      st_plain rfl (op_move _ _ _ _ (congrArg (fun b => AV.v (Value.bool b)) hg3_18) rfl),
                      st_run 18 39 true rfl rfl rfl (List.Mem.head _) (op_move _ _ _ _ rfl rfl),
                      st_run 18 39 true rfl rfl rfl (List.Mem.head _) (op_bin _ _ _ _ _ rfl rfl rfl),
                      st_plain rfl (op_pick _ _ true _ rfl rfl),
                      st_plain rfl (op_move _ _ _ _ (congrArg (fun b => AV.v (Value.bool b)) hg3_22) rfl),
                      st_run 22 43 true rfl rfl rfl (List.Mem.head _) (op_move _ _ _ _ rfl rfl),
                      st_run 22 43 true rfl rfl rfl (List.Mem.head _) (op_bin _ _ _ _ _ rfl rfl rfl),
                      st_plain rfl (op_pick _ _ true _ rfl rfl),
                      st_plain rfl (op_move _ _ _ _ (congrArg (fun b => AV.v (Value.bool b)) hg3_26) rfl),
                      st_run 26 47 true rfl rfl rfl (List.Mem.head _) (op_move _ _ _ _ rfl rfl),
                      st_run 26 47 true rfl rfl rfl (List.Mem.head _) (op_bin _ _ _ _ _ rfl rfl rfl),
                      st_plain rfl (op_pick _ _ true _ rfl rfl),
                      st_plain rfl (op_assign _ _ _ _ rfl rfl),
                      trivial⟩ ?_
                  exact hl5 _ (Option.some.inj h).symm
                · refine ht_seqR hn (El := (_ :: _ :: _ :: _ :: _ :: _ :: _ :: _ :: (21, .v (.int .i64 v1.2.2.2)) :: (22, .v (.bool (v1.2.2.2 == 0))) :: (23, .v (.bool true)) :: (24, .v (.int .i64 v2.2.2.2)) :: (25, .v (.bool (v2.2.2.2 == 0))) :: (26, .v (.bool (v2.2.2.2 == 0))) :: (27, .v (.bool true)) :: (28, .v (.int .i64 v1.1)) :: (29, .v (.bool (v1.1 == 265))) :: (30, .v (.bool (v1.1 == 265))) :: (31, .v (.bool true)) :: (32, .v (.int .i64 v1.2.1)) :: (33, .v (.bool (v1.2.1 == 1))) :: (34, .v (.bool (v1.2.1 == 1))) :: (35, .v (.bool true)) :: (36, .v (.int .i64 v1.2.2.1)) :: (37, .v (.bool (v1.2.2.1 == 0))) :: (38, .v (.bool (v1.2.2.1 == 0))) :: (39, .v (.bool true)) :: (40, .v (.int .i64 v2.1)) :: (41, .v (.bool (v2.1 == 4))) :: (42, .v (.bool (v2.1 == 4))) :: (43, .v (.bool true)) :: (44, .v (.int .i64 v2.2.1)) :: (45, .v (.bool (v2.2.1 == 1))) :: (46, .v (.bool (v2.2.1 == 1))) :: (47, .v (.bool false)) :: (48, .v undef) :: (49, .v undef) :: (50, .v (.bool false)) :: (0, .v (.bool false)) :: [])) (init := [0, 1, 2, 3, 4, 5, 6, 7]) (fin := [38]) (sps := (⟨[3], [], [8], [(.slot 21)]⟩ :: ⟨[8], [], [9], [(.slot 22)]⟩ :: ⟨[9], [], [10], [(.slot 23)]⟩ :: ⟨[10, 7], [], [11], [(.slot 24)]⟩ :: ⟨[10, 11], [], [12], [(.slot 25)]⟩ :: ⟨[10, 12], [], [13], [(.slot 26)]⟩ :: ⟨[13], [], [14], [(.slot 27)]⟩ :: ⟨[14, 0], [], [15], [(.slot 28)]⟩ :: ⟨[14, 15], [], [16], [(.slot 29)]⟩ :: ⟨[14, 16], [], [17], [(.slot 30)]⟩ :: ⟨[17], [], [18], [(.slot 31)]⟩ :: ⟨[18, 1], [], [19], [(.slot 32)]⟩ :: ⟨[18, 19], [], [20], [(.slot 33)]⟩ :: ⟨[18, 20], [], [21], [(.slot 34)]⟩ :: ⟨[21], [], [22], [(.slot 35)]⟩ :: ⟨[22, 2], [], [23], [(.slot 36)]⟩ :: ⟨[22, 23], [], [24], [(.slot 37)]⟩ :: ⟨[22, 24], [], [25], [(.slot 38)]⟩ :: ⟨[25], [], [26], [(.slot 39)]⟩ :: ⟨[26, 4], [], [27], [(.slot 40)]⟩ :: ⟨[26, 27], [], [28], [(.slot 41)]⟩ :: ⟨[26, 28], [], [29], [(.slot 42)]⟩ :: ⟨[29], [], [30], [(.slot 43)]⟩ :: ⟨[30, 5], [], [31], [(.slot 44)]⟩ :: ⟨[30, 31], [], [32], [(.slot 45)]⟩ :: ⟨[30, 32], [], [33], [(.slot 46)]⟩ :: ⟨[33], [], [34], [(.slot 47)]⟩ :: ⟨[34], [], [35], [(.slot 48)]⟩ :: ⟨[34], [], [36], [(.slot 49)]⟩ :: ⟨[34], [], [37], [(.slot 50)]⟩ :: ⟨[37], [], [38], [(.slot 0)]⟩ :: [])) (es' := [(0, .v (.bool false))]) (by kernel_rfl) rfl rfl
                    ⟨st_plain rfl (op_move _ _ _ _ rfl rfl),
                      st_plain rfl (op_bin _ _ _ _ _ rfl rfl rfl),
                      st_plain rfl (op_move _ _ _ _ (congrArg (fun b => AV.v (Value.bool b)) hg3_2) rfl),
                      st_run 2 23 true rfl rfl rfl (List.Mem.head _) (op_move _ _ _ _ rfl rfl),
                      st_run 2 23 true rfl rfl rfl (List.Mem.head _) (op_bin _ _ _ _ _ rfl rfl rfl),
                      st_plain rfl (op_pick _ _ true _ rfl rfl),
                      st_plain rfl (op_move _ _ _ _ (congrArg (fun b => AV.v (Value.bool b)) hg3_6) rfl),
                      st_run 6 27 true rfl rfl rfl (List.Mem.head _) (op_move _ _ _ _ rfl rfl),
                      st_run 6 27 true rfl rfl rfl (List.Mem.head _) (op_bin _ _ _ _ _ rfl rfl rfl),
                      st_plain rfl (op_pick _ _ true _ rfl rfl),
                      st_plain rfl (op_move _ _ _ _ (congrArg (fun b => AV.v (Value.bool b)) hg3_10) rfl),
                      st_run 10 31 true rfl rfl rfl (List.Mem.head _) (op_move _ _ _ _ rfl rfl),
                      st_run 10 31 true rfl rfl rfl (List.Mem.head _) (op_bin _ _ _ _ _ rfl rfl rfl),
                      st_plain rfl (op_pick _ _ true _ rfl rfl),
                      st_plain rfl (op_move _ _ _ _ (congrArg (fun b => AV.v (Value.bool b)) hg3_14) rfl),
                      st_run 14 35 true rfl rfl rfl (List.Mem.head _) (op_move _ _ _ _ rfl rfl),
                      st_run 14 35 true rfl rfl rfl (List.Mem.head _) (op_bin _ _ _ _ _ rfl rfl rfl),
                      st_plain rfl (op_pick _ _ true _ rfl rfl),
                      st_plain rfl (op_move _ _ _ _ (congrArg (fun b => AV.v (Value.bool b)) hg3_18) rfl),
                      st_run 18 39 true rfl rfl rfl (List.Mem.head _) (op_move _ _ _ _ rfl rfl),
                      st_run 18 39 true rfl rfl rfl (List.Mem.head _) (op_bin _ _ _ _ _ rfl rfl rfl),
                      st_plain rfl (op_pick _ _ true _ rfl rfl),
                      st_plain rfl (op_move _ _ _ _ (congrArg (fun b => AV.v (Value.bool b)) hg3_22) rfl),
                      st_run 22 43 true rfl rfl rfl (List.Mem.head _) (op_move _ _ _ _ rfl rfl),
                      st_run 22 43 true rfl rfl rfl (List.Mem.head _) (op_bin _ _ _ _ _ rfl rfl rfl),
                      st_plain rfl (op_pick _ _ true _ rfl rfl),
                      st_plain rfl (op_move _ _ _ _ (congrArg (fun b => AV.v (Value.bool b)) hg3_26) rfl),
                      st_skip 26 47 _ true rfl rfl rfl rfl (List.Mem.head _),
                      st_skip 26 47 _ true rfl rfl rfl rfl (List.Mem.head _),
                      st_plain rfl (op_pick _ _ false _ rfl rfl),
                      st_plain rfl (op_assign _ _ _ _ rfl rfl),
                      trivial⟩ ?_
                  exact hl5 _ (Option.some.inj h).symm
              · refine ht_seqR hn (El := (_ :: _ :: _ :: _ :: _ :: _ :: _ :: _ :: (21, .v (.int .i64 v1.2.2.2)) :: (22, .v (.bool (v1.2.2.2 == 0))) :: (23, .v (.bool true)) :: (24, .v (.int .i64 v2.2.2.2)) :: (25, .v (.bool (v2.2.2.2 == 0))) :: (26, .v (.bool (v2.2.2.2 == 0))) :: (27, .v (.bool true)) :: (28, .v (.int .i64 v1.1)) :: (29, .v (.bool (v1.1 == 265))) :: (30, .v (.bool (v1.1 == 265))) :: (31, .v (.bool true)) :: (32, .v (.int .i64 v1.2.1)) :: (33, .v (.bool (v1.2.1 == 1))) :: (34, .v (.bool (v1.2.1 == 1))) :: (35, .v (.bool true)) :: (36, .v (.int .i64 v1.2.2.1)) :: (37, .v (.bool (v1.2.2.1 == 0))) :: (38, .v (.bool (v1.2.2.1 == 0))) :: (39, .v (.bool true)) :: (40, .v (.int .i64 v2.1)) :: (41, .v (.bool (v2.1 == 4))) :: (42, .v (.bool (v2.1 == 4))) :: (43, .v (.bool false)) :: (44, .v undef) :: (45, .v undef) :: (46, .v (.bool false)) :: (47, .v (.bool false)) :: (48, .v undef) :: (49, .v undef) :: (50, .v (.bool false)) :: (0, .v (.bool false)) :: [])) (init := [0, 1, 2, 3, 4, 5, 6, 7]) (fin := [38]) (sps := (⟨[3], [], [8], [(.slot 21)]⟩ :: ⟨[8], [], [9], [(.slot 22)]⟩ :: ⟨[9], [], [10], [(.slot 23)]⟩ :: ⟨[10, 7], [], [11], [(.slot 24)]⟩ :: ⟨[10, 11], [], [12], [(.slot 25)]⟩ :: ⟨[10, 12], [], [13], [(.slot 26)]⟩ :: ⟨[13], [], [14], [(.slot 27)]⟩ :: ⟨[14, 0], [], [15], [(.slot 28)]⟩ :: ⟨[14, 15], [], [16], [(.slot 29)]⟩ :: ⟨[14, 16], [], [17], [(.slot 30)]⟩ :: ⟨[17], [], [18], [(.slot 31)]⟩ :: ⟨[18, 1], [], [19], [(.slot 32)]⟩ :: ⟨[18, 19], [], [20], [(.slot 33)]⟩ :: ⟨[18, 20], [], [21], [(.slot 34)]⟩ :: ⟨[21], [], [22], [(.slot 35)]⟩ :: ⟨[22, 2], [], [23], [(.slot 36)]⟩ :: ⟨[22, 23], [], [24], [(.slot 37)]⟩ :: ⟨[22, 24], [], [25], [(.slot 38)]⟩ :: ⟨[25], [], [26], [(.slot 39)]⟩ :: ⟨[26, 4], [], [27], [(.slot 40)]⟩ :: ⟨[26, 27], [], [28], [(.slot 41)]⟩ :: ⟨[26, 28], [], [29], [(.slot 42)]⟩ :: ⟨[29], [], [30], [(.slot 43)]⟩ :: ⟨[30], [], [31], [(.slot 44)]⟩ :: ⟨[30], [], [32], [(.slot 45)]⟩ :: ⟨[30], [], [33], [(.slot 46)]⟩ :: ⟨[33], [], [34], [(.slot 47)]⟩ :: ⟨[34], [], [35], [(.slot 48)]⟩ :: ⟨[34], [], [36], [(.slot 49)]⟩ :: ⟨[34], [], [37], [(.slot 50)]⟩ :: ⟨[37], [], [38], [(.slot 0)]⟩ :: [])) (es' := [(0, .v (.bool false))]) (by kernel_rfl) rfl rfl
                  ⟨st_plain rfl (op_move _ _ _ _ rfl rfl),
                    st_plain rfl (op_bin _ _ _ _ _ rfl rfl rfl),
                    st_plain rfl (op_move _ _ _ _ (congrArg (fun b => AV.v (Value.bool b)) hg3_2) rfl),
                    st_run 2 23 true rfl rfl rfl (List.Mem.head _) (op_move _ _ _ _ rfl rfl),
                    st_run 2 23 true rfl rfl rfl (List.Mem.head _) (op_bin _ _ _ _ _ rfl rfl rfl),
                    st_plain rfl (op_pick _ _ true _ rfl rfl),
                    st_plain rfl (op_move _ _ _ _ (congrArg (fun b => AV.v (Value.bool b)) hg3_6) rfl),
                    st_run 6 27 true rfl rfl rfl (List.Mem.head _) (op_move _ _ _ _ rfl rfl),
                    st_run 6 27 true rfl rfl rfl (List.Mem.head _) (op_bin _ _ _ _ _ rfl rfl rfl),
                    st_plain rfl (op_pick _ _ true _ rfl rfl),
                    st_plain rfl (op_move _ _ _ _ (congrArg (fun b => AV.v (Value.bool b)) hg3_10) rfl),
                    st_run 10 31 true rfl rfl rfl (List.Mem.head _) (op_move _ _ _ _ rfl rfl),
                    st_run 10 31 true rfl rfl rfl (List.Mem.head _) (op_bin _ _ _ _ _ rfl rfl rfl),
                    st_plain rfl (op_pick _ _ true _ rfl rfl),
                    st_plain rfl (op_move _ _ _ _ (congrArg (fun b => AV.v (Value.bool b)) hg3_14) rfl),
                    st_run 14 35 true rfl rfl rfl (List.Mem.head _) (op_move _ _ _ _ rfl rfl),
                    st_run 14 35 true rfl rfl rfl (List.Mem.head _) (op_bin _ _ _ _ _ rfl rfl rfl),
                    st_plain rfl (op_pick _ _ true _ rfl rfl),
                    st_plain rfl (op_move _ _ _ _ (congrArg (fun b => AV.v (Value.bool b)) hg3_18) rfl),
                    st_run 18 39 true rfl rfl rfl (List.Mem.head _) (op_move _ _ _ _ rfl rfl),
                    st_run 18 39 true rfl rfl rfl (List.Mem.head _) (op_bin _ _ _ _ _ rfl rfl rfl),
                    st_plain rfl (op_pick _ _ true _ rfl rfl),
                    st_plain rfl (op_move _ _ _ _ (congrArg (fun b => AV.v (Value.bool b)) hg3_22) rfl),
                    st_skip 22 43 _ true rfl rfl rfl rfl (List.Mem.head _),
                    st_skip 22 43 _ true rfl rfl rfl rfl (List.Mem.head _),
                    st_plain rfl (op_pick _ _ false _ rfl rfl),
                    st_plain rfl (op_move _ _ _ _ rfl rfl),
                    st_skip 26 47 _ true rfl rfl rfl rfl (List.Mem.head _),
                    st_skip 26 47 _ true rfl rfl rfl rfl (List.Mem.head _),
                    st_plain rfl (op_pick _ _ false _ rfl rfl),
                    st_plain rfl (op_assign _ _ _ _ rfl rfl),
                    trivial⟩ ?_
                exact hl5 _ (Option.some.inj h).symm
            · refine ht_seqR hn (El := (_ :: _ :: _ :: _ :: _ :: _ :: _ :: _ :: (21, .v (.int .i64 v1.2.2.2)) :: (22, .v (.bool (v1.2.2.2 == 0))) :: (23, .v (.bool true)) :: (24, .v (.int .i64 v2.2.2.2)) :: (25, .v (.bool (v2.2.2.2 == 0))) :: (26, .v (.bool (v2.2.2.2 == 0))) :: (27, .v (.bool true)) :: (28, .v (.int .i64 v1.1)) :: (29, .v (.bool (v1.1 == 265))) :: (30, .v (.bool (v1.1 == 265))) :: (31, .v (.bool true)) :: (32, .v (.int .i64 v1.2.1)) :: (33, .v (.bool (v1.2.1 == 1))) :: (34, .v (.bool (v1.2.1 == 1))) :: (35, .v (.bool true)) :: (36, .v (.int .i64 v1.2.2.1)) :: (37, .v (.bool (v1.2.2.1 == 0))) :: (38, .v (.bool (v1.2.2.1 == 0))) :: (39, .v (.bool false)) :: (40, .v undef) :: (41, .v undef) :: (42, .v (.bool false)) :: (43, .v (.bool false)) :: (44, .v undef) :: (45, .v undef) :: (46, .v (.bool false)) :: (47, .v (.bool false)) :: (48, .v undef) :: (49, .v undef) :: (50, .v (.bool false)) :: (0, .v (.bool false)) :: [])) (init := [0, 1, 2, 3, 4, 5, 6, 7]) (fin := [38]) (sps := (⟨[3], [], [8], [(.slot 21)]⟩ :: ⟨[8], [], [9], [(.slot 22)]⟩ :: ⟨[9], [], [10], [(.slot 23)]⟩ :: ⟨[10, 7], [], [11], [(.slot 24)]⟩ :: ⟨[10, 11], [], [12], [(.slot 25)]⟩ :: ⟨[10, 12], [], [13], [(.slot 26)]⟩ :: ⟨[13], [], [14], [(.slot 27)]⟩ :: ⟨[14, 0], [], [15], [(.slot 28)]⟩ :: ⟨[14, 15], [], [16], [(.slot 29)]⟩ :: ⟨[14, 16], [], [17], [(.slot 30)]⟩ :: ⟨[17], [], [18], [(.slot 31)]⟩ :: ⟨[18, 1], [], [19], [(.slot 32)]⟩ :: ⟨[18, 19], [], [20], [(.slot 33)]⟩ :: ⟨[18, 20], [], [21], [(.slot 34)]⟩ :: ⟨[21], [], [22], [(.slot 35)]⟩ :: ⟨[22, 2], [], [23], [(.slot 36)]⟩ :: ⟨[22, 23], [], [24], [(.slot 37)]⟩ :: ⟨[22, 24], [], [25], [(.slot 38)]⟩ :: ⟨[25], [], [26], [(.slot 39)]⟩ :: ⟨[26], [], [27], [(.slot 40)]⟩ :: ⟨[26], [], [28], [(.slot 41)]⟩ :: ⟨[26], [], [29], [(.slot 42)]⟩ :: ⟨[29], [], [30], [(.slot 43)]⟩ :: ⟨[30], [], [31], [(.slot 44)]⟩ :: ⟨[30], [], [32], [(.slot 45)]⟩ :: ⟨[30], [], [33], [(.slot 46)]⟩ :: ⟨[33], [], [34], [(.slot 47)]⟩ :: ⟨[34], [], [35], [(.slot 48)]⟩ :: ⟨[34], [], [36], [(.slot 49)]⟩ :: ⟨[34], [], [37], [(.slot 50)]⟩ :: ⟨[37], [], [38], [(.slot 0)]⟩ :: [])) (es' := [(0, .v (.bool false))]) (by kernel_rfl) rfl rfl
                ⟨st_plain rfl (op_move _ _ _ _ rfl rfl),
                  st_plain rfl (op_bin _ _ _ _ _ rfl rfl rfl),
                  st_plain rfl (op_move _ _ _ _ (congrArg (fun b => AV.v (Value.bool b)) hg3_2) rfl),
                  st_run 2 23 true rfl rfl rfl (List.Mem.head _) (op_move _ _ _ _ rfl rfl),
                  st_run 2 23 true rfl rfl rfl (List.Mem.head _) (op_bin _ _ _ _ _ rfl rfl rfl),
                  st_plain rfl (op_pick _ _ true _ rfl rfl),
                  st_plain rfl (op_move _ _ _ _ (congrArg (fun b => AV.v (Value.bool b)) hg3_6) rfl),
                  st_run 6 27 true rfl rfl rfl (List.Mem.head _) (op_move _ _ _ _ rfl rfl),
                  st_run 6 27 true rfl rfl rfl (List.Mem.head _) (op_bin _ _ _ _ _ rfl rfl rfl),
                  st_plain rfl (op_pick _ _ true _ rfl rfl),
                  st_plain rfl (op_move _ _ _ _ (congrArg (fun b => AV.v (Value.bool b)) hg3_10) rfl),
                  st_run 10 31 true rfl rfl rfl (List.Mem.head _) (op_move _ _ _ _ rfl rfl),
                  st_run 10 31 true rfl rfl rfl (List.Mem.head _) (op_bin _ _ _ _ _ rfl rfl rfl),
                  st_plain rfl (op_pick _ _ true _ rfl rfl),
                  st_plain rfl (op_move _ _ _ _ (congrArg (fun b => AV.v (Value.bool b)) hg3_14) rfl),
                  st_run 14 35 true rfl rfl rfl (List.Mem.head _) (op_move _ _ _ _ rfl rfl),
                  st_run 14 35 true rfl rfl rfl (List.Mem.head _) (op_bin _ _ _ _ _ rfl rfl rfl),
                  st_plain rfl (op_pick _ _ true _ rfl rfl),
                  st_plain rfl (op_move _ _ _ _ (congrArg (fun b => AV.v (Value.bool b)) hg3_18) rfl),
                  st_skip 18 39 _ true rfl rfl rfl rfl (List.Mem.head _),
                  st_skip 18 39 _ true rfl rfl rfl rfl (List.Mem.head _),
                  st_plain rfl (op_pick _ _ false _ rfl rfl),
                  st_plain rfl (op_move _ _ _ _ rfl rfl),
                  st_skip 22 43 _ true rfl rfl rfl rfl (List.Mem.head _),
                  st_skip 22 43 _ true rfl rfl rfl rfl (List.Mem.head _),
                  st_plain rfl (op_pick _ _ false _ rfl rfl),
                  st_plain rfl (op_move _ _ _ _ rfl rfl),
                  st_skip 26 47 _ true rfl rfl rfl rfl (List.Mem.head _),
                  st_skip 26 47 _ true rfl rfl rfl rfl (List.Mem.head _),
                  st_plain rfl (op_pick _ _ false _ rfl rfl),
                  st_plain rfl (op_assign _ _ _ _ rfl rfl),
                  trivial⟩ ?_
              exact hl5 _ (Option.some.inj h).symm
          · refine ht_seqR hn (El := (_ :: _ :: _ :: _ :: _ :: _ :: _ :: _ :: (21, .v (.int .i64 v1.2.2.2)) :: (22, .v (.bool (v1.2.2.2 == 0))) :: (23, .v (.bool true)) :: (24, .v (.int .i64 v2.2.2.2)) :: (25, .v (.bool (v2.2.2.2 == 0))) :: (26, .v (.bool (v2.2.2.2 == 0))) :: (27, .v (.bool true)) :: (28, .v (.int .i64 v1.1)) :: (29, .v (.bool (v1.1 == 265))) :: (30, .v (.bool (v1.1 == 265))) :: (31, .v (.bool true)) :: (32, .v (.int .i64 v1.2.1)) :: (33, .v (.bool (v1.2.1 == 1))) :: (34, .v (.bool (v1.2.1 == 1))) :: (35, .v (.bool false)) :: (36, .v undef) :: (37, .v undef) :: (38, .v (.bool false)) :: (39, .v (.bool false)) :: (40, .v undef) :: (41, .v undef) :: (42, .v (.bool false)) :: (43, .v (.bool false)) :: (44, .v undef) :: (45, .v undef) :: (46, .v (.bool false)) :: (47, .v (.bool false)) :: (48, .v undef) :: (49, .v undef) :: (50, .v (.bool false)) :: (0, .v (.bool false)) :: [])) (init := [0, 1, 2, 3, 4, 5, 6, 7]) (fin := [38]) (sps := (⟨[3], [], [8], [(.slot 21)]⟩ :: ⟨[8], [], [9], [(.slot 22)]⟩ :: ⟨[9], [], [10], [(.slot 23)]⟩ :: ⟨[10, 7], [], [11], [(.slot 24)]⟩ :: ⟨[10, 11], [], [12], [(.slot 25)]⟩ :: ⟨[10, 12], [], [13], [(.slot 26)]⟩ :: ⟨[13], [], [14], [(.slot 27)]⟩ :: ⟨[14, 0], [], [15], [(.slot 28)]⟩ :: ⟨[14, 15], [], [16], [(.slot 29)]⟩ :: ⟨[14, 16], [], [17], [(.slot 30)]⟩ :: ⟨[17], [], [18], [(.slot 31)]⟩ :: ⟨[18, 1], [], [19], [(.slot 32)]⟩ :: ⟨[18, 19], [], [20], [(.slot 33)]⟩ :: ⟨[18, 20], [], [21], [(.slot 34)]⟩ :: ⟨[21], [], [22], [(.slot 35)]⟩ :: ⟨[22], [], [23], [(.slot 36)]⟩ :: ⟨[22], [], [24], [(.slot 37)]⟩ :: ⟨[22], [], [25], [(.slot 38)]⟩ :: ⟨[25], [], [26], [(.slot 39)]⟩ :: ⟨[26], [], [27], [(.slot 40)]⟩ :: ⟨[26], [], [28], [(.slot 41)]⟩ :: ⟨[26], [], [29], [(.slot 42)]⟩ :: ⟨[29], [], [30], [(.slot 43)]⟩ :: ⟨[30], [], [31], [(.slot 44)]⟩ :: ⟨[30], [], [32], [(.slot 45)]⟩ :: ⟨[30], [], [33], [(.slot 46)]⟩ :: ⟨[33], [], [34], [(.slot 47)]⟩ :: ⟨[34], [], [35], [(.slot 48)]⟩ :: ⟨[34], [], [36], [(.slot 49)]⟩ :: ⟨[34], [], [37], [(.slot 50)]⟩ :: ⟨[37], [], [38], [(.slot 0)]⟩ :: [])) (es' := [(0, .v (.bool false))]) (by kernel_rfl) rfl rfl
              ⟨st_plain rfl (op_move _ _ _ _ rfl rfl),
                st_plain rfl (op_bin _ _ _ _ _ rfl rfl rfl),
                st_plain rfl (op_move _ _ _ _ (congrArg (fun b => AV.v (Value.bool b)) hg3_2) rfl),
                st_run 2 23 true rfl rfl rfl (List.Mem.head _) (op_move _ _ _ _ rfl rfl),
                st_run 2 23 true rfl rfl rfl (List.Mem.head _) (op_bin _ _ _ _ _ rfl rfl rfl),
                st_plain rfl (op_pick _ _ true _ rfl rfl),
                st_plain rfl (op_move _ _ _ _ (congrArg (fun b => AV.v (Value.bool b)) hg3_6) rfl),
                st_run 6 27 true rfl rfl rfl (List.Mem.head _) (op_move _ _ _ _ rfl rfl),
                st_run 6 27 true rfl rfl rfl (List.Mem.head _) (op_bin _ _ _ _ _ rfl rfl rfl),
                st_plain rfl (op_pick _ _ true _ rfl rfl),
                st_plain rfl (op_move _ _ _ _ (congrArg (fun b => AV.v (Value.bool b)) hg3_10) rfl),
                st_run 10 31 true rfl rfl rfl (List.Mem.head _) (op_move _ _ _ _ rfl rfl),
                st_run 10 31 true rfl rfl rfl (List.Mem.head _) (op_bin _ _ _ _ _ rfl rfl rfl),
                st_plain rfl (op_pick _ _ true _ rfl rfl),
                st_plain rfl (op_move _ _ _ _ (congrArg (fun b => AV.v (Value.bool b)) hg3_14) rfl),
                st_skip 14 35 _ true rfl rfl rfl rfl (List.Mem.head _),
                st_skip 14 35 _ true rfl rfl rfl rfl (List.Mem.head _),
                st_plain rfl (op_pick _ _ false _ rfl rfl),
                st_plain rfl (op_move _ _ _ _ rfl rfl),
                st_skip 18 39 _ true rfl rfl rfl rfl (List.Mem.head _),
                st_skip 18 39 _ true rfl rfl rfl rfl (List.Mem.head _),
                st_plain rfl (op_pick _ _ false _ rfl rfl),
                st_plain rfl (op_move _ _ _ _ rfl rfl),
                st_skip 22 43 _ true rfl rfl rfl rfl (List.Mem.head _),
                st_skip 22 43 _ true rfl rfl rfl rfl (List.Mem.head _),
                st_plain rfl (op_pick _ _ false _ rfl rfl),
                st_plain rfl (op_move _ _ _ _ rfl rfl),
                st_skip 26 47 _ true rfl rfl rfl rfl (List.Mem.head _),
                st_skip 26 47 _ true rfl rfl rfl rfl (List.Mem.head _),
                st_plain rfl (op_pick _ _ false _ rfl rfl),
                st_plain rfl (op_assign _ _ _ _ rfl rfl),
                trivial⟩ ?_
            exact hl5 _ (Option.some.inj h).symm
        · refine ht_seqR hn (El := (_ :: _ :: _ :: _ :: _ :: _ :: _ :: _ :: (21, .v (.int .i64 v1.2.2.2)) :: (22, .v (.bool (v1.2.2.2 == 0))) :: (23, .v (.bool true)) :: (24, .v (.int .i64 v2.2.2.2)) :: (25, .v (.bool (v2.2.2.2 == 0))) :: (26, .v (.bool (v2.2.2.2 == 0))) :: (27, .v (.bool true)) :: (28, .v (.int .i64 v1.1)) :: (29, .v (.bool (v1.1 == 265))) :: (30, .v (.bool (v1.1 == 265))) :: (31, .v (.bool false)) :: (32, .v undef) :: (33, .v undef) :: (34, .v (.bool false)) :: (35, .v (.bool false)) :: (36, .v undef) :: (37, .v undef) :: (38, .v (.bool false)) :: (39, .v (.bool false)) :: (40, .v undef) :: (41, .v undef) :: (42, .v (.bool false)) :: (43, .v (.bool false)) :: (44, .v undef) :: (45, .v undef) :: (46, .v (.bool false)) :: (47, .v (.bool false)) :: (48, .v undef) :: (49, .v undef) :: (50, .v (.bool false)) :: (0, .v (.bool false)) :: [])) (init := [0, 1, 2, 3, 4, 5, 6, 7]) (fin := [38]) (sps := (⟨[3], [], [8], [(.slot 21)]⟩ :: ⟨[8], [], [9], [(.slot 22)]⟩ :: ⟨[9], [], [10], [(.slot 23)]⟩ :: ⟨[10, 7], [], [11], [(.slot 24)]⟩ :: ⟨[10, 11], [], [12], [(.slot 25)]⟩ :: ⟨[10, 12], [], [13], [(.slot 26)]⟩ :: ⟨[13], [], [14], [(.slot 27)]⟩ :: ⟨[14, 0], [], [15], [(.slot 28)]⟩ :: ⟨[14, 15], [], [16], [(.slot 29)]⟩ :: ⟨[14, 16], [], [17], [(.slot 30)]⟩ :: ⟨[17], [], [18], [(.slot 31)]⟩ :: ⟨[18], [], [19], [(.slot 32)]⟩ :: ⟨[18], [], [20], [(.slot 33)]⟩ :: ⟨[18], [], [21], [(.slot 34)]⟩ :: ⟨[21], [], [22], [(.slot 35)]⟩ :: ⟨[22], [], [23], [(.slot 36)]⟩ :: ⟨[22], [], [24], [(.slot 37)]⟩ :: ⟨[22], [], [25], [(.slot 38)]⟩ :: ⟨[25], [], [26], [(.slot 39)]⟩ :: ⟨[26], [], [27], [(.slot 40)]⟩ :: ⟨[26], [], [28], [(.slot 41)]⟩ :: ⟨[26], [], [29], [(.slot 42)]⟩ :: ⟨[29], [], [30], [(.slot 43)]⟩ :: ⟨[30], [], [31], [(.slot 44)]⟩ :: ⟨[30], [], [32], [(.slot 45)]⟩ :: ⟨[30], [], [33], [(.slot 46)]⟩ :: ⟨[33], [], [34], [(.slot 47)]⟩ :: ⟨[34], [], [35], [(.slot 48)]⟩ :: ⟨[34], [], [36], [(.slot 49)]⟩ :: ⟨[34], [], [37], [(.slot 50)]⟩ :: ⟨[37], [], [38], [(.slot 0)]⟩ :: [])) (es' := [(0, .v (.bool false))]) (by kernel_rfl) rfl rfl
            ⟨st_plain rfl (op_move _ _ _ _ rfl rfl),
              st_plain rfl (op_bin _ _ _ _ _ rfl rfl rfl),
              st_plain rfl (op_move _ _ _ _ (congrArg (fun b => AV.v (Value.bool b)) hg3_2) rfl),
              st_run 2 23 true rfl rfl rfl (List.Mem.head _) (op_move _ _ _ _ rfl rfl),
              st_run 2 23 true rfl rfl rfl (List.Mem.head _) (op_bin _ _ _ _ _ rfl rfl rfl),
              st_plain rfl (op_pick _ _ true _ rfl rfl),
              st_plain rfl (op_move _ _ _ _ (congrArg (fun b => AV.v (Value.bool b)) hg3_6) rfl),
              st_run 6 27 true rfl rfl rfl (List.Mem.head _) (op_move _ _ _ _ rfl rfl),
              st_run 6 27 true rfl rfl rfl (List.Mem.head _) (op_bin _ _ _ _ _ rfl rfl rfl),
              st_plain rfl (op_pick _ _ true _ rfl rfl),
              st_plain rfl (op_move _ _ _ _ (congrArg (fun b => AV.v (Value.bool b)) hg3_10) rfl),
              st_skip 10 31 _ true rfl rfl rfl rfl (List.Mem.head _),
              st_skip 10 31 _ true rfl rfl rfl rfl (List.Mem.head _),
              st_plain rfl (op_pick _ _ false _ rfl rfl),
              st_plain rfl (op_move _ _ _ _ rfl rfl),
              st_skip 14 35 _ true rfl rfl rfl rfl (List.Mem.head _),
              st_skip 14 35 _ true rfl rfl rfl rfl (List.Mem.head _),
              st_plain rfl (op_pick _ _ false _ rfl rfl),
              st_plain rfl (op_move _ _ _ _ rfl rfl),
              st_skip 18 39 _ true rfl rfl rfl rfl (List.Mem.head _),
              st_skip 18 39 _ true rfl rfl rfl rfl (List.Mem.head _),
              st_plain rfl (op_pick _ _ false _ rfl rfl),
              st_plain rfl (op_move _ _ _ _ rfl rfl),
              st_skip 22 43 _ true rfl rfl rfl rfl (List.Mem.head _),
              st_skip 22 43 _ true rfl rfl rfl rfl (List.Mem.head _),
              st_plain rfl (op_pick _ _ false _ rfl rfl),
              st_plain rfl (op_move _ _ _ _ rfl rfl),
              st_skip 26 47 _ true rfl rfl rfl rfl (List.Mem.head _),
              st_skip 26 47 _ true rfl rfl rfl rfl (List.Mem.head _),
              st_plain rfl (op_pick _ _ false _ rfl rfl),
              st_plain rfl (op_assign _ _ _ _ rfl rfl),
              trivial⟩ ?_
          exact hl5 _ (Option.some.inj h).symm
      · refine ht_seqR hn (El := (_ :: _ :: _ :: _ :: _ :: _ :: _ :: _ :: (21, .v (.int .i64 v1.2.2.2)) :: (22, .v (.bool (v1.2.2.2 == 0))) :: (23, .v (.bool true)) :: (24, .v (.int .i64 v2.2.2.2)) :: (25, .v (.bool (v2.2.2.2 == 0))) :: (26, .v (.bool (v2.2.2.2 == 0))) :: (27, .v (.bool false)) :: (28, .v undef) :: (29, .v undef) :: (30, .v (.bool false)) :: (31, .v (.bool false)) :: (32, .v undef) :: (33, .v undef) :: (34, .v (.bool false)) :: (35, .v (.bool false)) :: (36, .v undef) :: (37, .v undef) :: (38, .v (.bool false)) :: (39, .v (.bool false)) :: (40, .v undef) :: (41, .v undef) :: (42, .v (.bool false)) :: (43, .v (.bool false)) :: (44, .v undef) :: (45, .v undef) :: (46, .v (.bool false)) :: (47, .v (.bool false)) :: (48, .v undef) :: (49, .v undef) :: (50, .v (.bool false)) :: (0, .v (.bool false)) :: [])) (init := [0, 1, 2, 3, 4, 5, 6, 7]) (fin := [38]) (sps := (⟨[3], [], [8], [(.slot 21)]⟩ :: ⟨[8], [], [9], [(.slot 22)]⟩ :: ⟨[9], [], [10], [(.slot 23)]⟩ :: ⟨[10, 7], [], [11], [(.slot 24)]⟩ :: ⟨[10, 11], [], [12], [(.slot 25)]⟩ :: ⟨[10, 12], [], [13], [(.slot 26)]⟩ :: ⟨[13], [], [14], [(.slot 27)]⟩ :: ⟨[14], [], [15], [(.slot 28)]⟩ :: ⟨[14], [], [16], [(.slot 29)]⟩ :: ⟨[14], [], [17], [(.slot 30)]⟩ :: ⟨[17], [], [18], [(.slot 31)]⟩ :: ⟨[18], [], [19], [(.slot 32)]⟩ :: ⟨[18], [], [20], [(.slot 33)]⟩ :: ⟨[18], [], [21], [(.slot 34)]⟩ :: ⟨[21], [], [22], [(.slot 35)]⟩ :: ⟨[22], [], [23], [(.slot 36)]⟩ :: ⟨[22], [], [24], [(.slot 37)]⟩ :: ⟨[22], [], [25], [(.slot 38)]⟩ :: ⟨[25], [], [26], [(.slot 39)]⟩ :: ⟨[26], [], [27], [(.slot 40)]⟩ :: ⟨[26], [], [28], [(.slot 41)]⟩ :: ⟨[26], [], [29], [(.slot 42)]⟩ :: ⟨[29], [], [30], [(.slot 43)]⟩ :: ⟨[30], [], [31], [(.slot 44)]⟩ :: ⟨[30], [], [32], [(.slot 45)]⟩ :: ⟨[30], [], [33], [(.slot 46)]⟩ :: ⟨[33], [], [34], [(.slot 47)]⟩ :: ⟨[34], [], [35], [(.slot 48)]⟩ :: ⟨[34], [], [36], [(.slot 49)]⟩ :: ⟨[34], [], [37], [(.slot 50)]⟩ :: ⟨[37], [], [38], [(.slot 0)]⟩ :: [])) (es' := [(0, .v (.bool false))]) (by kernel_rfl) rfl rfl
          ⟨st_plain rfl (op_move _ _ _ _ rfl rfl),
            st_plain rfl (op_bin _ _ _ _ _ rfl rfl rfl),
            st_plain rfl (op_move _ _ _ _ (congrArg (fun b => AV.v (Value.bool b)) hg3_2) rfl),
            st_run 2 23 true rfl rfl rfl (List.Mem.head _) (op_move _ _ _ _ rfl rfl),
            st_run 2 23 true rfl rfl rfl (List.Mem.head _) (op_bin _ _ _ _ _ rfl rfl rfl),
            st_plain rfl (op_pick _ _ true _ rfl rfl),
            st_plain rfl (op_move _ _ _ _ (congrArg (fun b => AV.v (Value.bool b)) hg3_6) rfl),
            st_skip 6 27 _ true rfl rfl rfl rfl (List.Mem.head _),
            st_skip 6 27 _ true rfl rfl rfl rfl (List.Mem.head _),
            st_plain rfl (op_pick _ _ false _ rfl rfl),
            st_plain rfl (op_move _ _ _ _ rfl rfl),
            st_skip 10 31 _ true rfl rfl rfl rfl (List.Mem.head _),
            st_skip 10 31 _ true rfl rfl rfl rfl (List.Mem.head _),
            st_plain rfl (op_pick _ _ false _ rfl rfl),
            st_plain rfl (op_move _ _ _ _ rfl rfl),
            st_skip 14 35 _ true rfl rfl rfl rfl (List.Mem.head _),
            st_skip 14 35 _ true rfl rfl rfl rfl (List.Mem.head _),
            st_plain rfl (op_pick _ _ false _ rfl rfl),
            st_plain rfl (op_move _ _ _ _ rfl rfl),
            st_skip 18 39 _ true rfl rfl rfl rfl (List.Mem.head _),
            st_skip 18 39 _ true rfl rfl rfl rfl (List.Mem.head _),
            st_plain rfl (op_pick _ _ false _ rfl rfl),
            st_plain rfl (op_move _ _ _ _ rfl rfl),
            st_skip 22 43 _ true rfl rfl rfl rfl (List.Mem.head _),
            st_skip 22 43 _ true rfl rfl rfl rfl (List.Mem.head _),
            st_plain rfl (op_pick _ _ false _ rfl rfl),
            st_plain rfl (op_move _ _ _ _ rfl rfl),
            st_skip 26 47 _ true rfl rfl rfl rfl (List.Mem.head _),
            st_skip 26 47 _ true rfl rfl rfl rfl (List.Mem.head _),
            st_plain rfl (op_pick _ _ false _ rfl rfl),
            st_plain rfl (op_assign _ _ _ _ rfl rfl),
            trivial⟩ ?_
        exact hl5 _ (Option.some.inj h).symm
    · refine ht_seqR hn (El := (_ :: _ :: _ :: _ :: _ :: _ :: _ :: _ :: (21, .v (.int .i64 v1.2.2.2)) :: (22, .v (.bool (v1.2.2.2 == 0))) :: (23, .v (.bool false)) :: (24, .v undef) :: (25, .v undef) :: (26, .v (.bool false)) :: (27, .v (.bool false)) :: (28, .v undef) :: (29, .v undef) :: (30, .v (.bool false)) :: (31, .v (.bool false)) :: (32, .v undef) :: (33, .v undef) :: (34, .v (.bool false)) :: (35, .v (.bool false)) :: (36, .v undef) :: (37, .v undef) :: (38, .v (.bool false)) :: (39, .v (.bool false)) :: (40, .v undef) :: (41, .v undef) :: (42, .v (.bool false)) :: (43, .v (.bool false)) :: (44, .v undef) :: (45, .v undef) :: (46, .v (.bool false)) :: (47, .v (.bool false)) :: (48, .v undef) :: (49, .v undef) :: (50, .v (.bool false)) :: (0, .v (.bool false)) :: [])) (init := [0, 1, 2, 3, 4, 5, 6, 7]) (fin := [38]) (sps := (⟨[3], [], [8], [(.slot 21)]⟩ :: ⟨[8], [], [9], [(.slot 22)]⟩ :: ⟨[9], [], [10], [(.slot 23)]⟩ :: ⟨[10], [], [11], [(.slot 24)]⟩ :: ⟨[10], [], [12], [(.slot 25)]⟩ :: ⟨[10], [], [13], [(.slot 26)]⟩ :: ⟨[13], [], [14], [(.slot 27)]⟩ :: ⟨[14], [], [15], [(.slot 28)]⟩ :: ⟨[14], [], [16], [(.slot 29)]⟩ :: ⟨[14], [], [17], [(.slot 30)]⟩ :: ⟨[17], [], [18], [(.slot 31)]⟩ :: ⟨[18], [], [19], [(.slot 32)]⟩ :: ⟨[18], [], [20], [(.slot 33)]⟩ :: ⟨[18], [], [21], [(.slot 34)]⟩ :: ⟨[21], [], [22], [(.slot 35)]⟩ :: ⟨[22], [], [23], [(.slot 36)]⟩ :: ⟨[22], [], [24], [(.slot 37)]⟩ :: ⟨[22], [], [25], [(.slot 38)]⟩ :: ⟨[25], [], [26], [(.slot 39)]⟩ :: ⟨[26], [], [27], [(.slot 40)]⟩ :: ⟨[26], [], [28], [(.slot 41)]⟩ :: ⟨[26], [], [29], [(.slot 42)]⟩ :: ⟨[29], [], [30], [(.slot 43)]⟩ :: ⟨[30], [], [31], [(.slot 44)]⟩ :: ⟨[30], [], [32], [(.slot 45)]⟩ :: ⟨[30], [], [33], [(.slot 46)]⟩ :: ⟨[33], [], [34], [(.slot 47)]⟩ :: ⟨[34], [], [35], [(.slot 48)]⟩ :: ⟨[34], [], [36], [(.slot 49)]⟩ :: ⟨[34], [], [37], [(.slot 50)]⟩ :: ⟨[37], [], [38], [(.slot 0)]⟩ :: [])) (es' := [(0, .v (.bool false))]) (by kernel_rfl) rfl rfl
        ⟨st_plain rfl (op_move _ _ _ _ rfl rfl),
          st_plain rfl (op_bin _ _ _ _ _ rfl rfl rfl),
          st_plain rfl (op_move _ _ _ _ (congrArg (fun b => AV.v (Value.bool b)) hg3_2) rfl),
          st_skip 2 23 _ true rfl rfl rfl rfl (List.Mem.head _),
          st_skip 2 23 _ true rfl rfl rfl rfl (List.Mem.head _),
          st_plain rfl (op_pick _ _ false _ rfl rfl),
          st_plain rfl (op_move _ _ _ _ rfl rfl),
          st_skip 6 27 _ true rfl rfl rfl rfl (List.Mem.head _),
          st_skip 6 27 _ true rfl rfl rfl rfl (List.Mem.head _),
          st_plain rfl (op_pick _ _ false _ rfl rfl),
          st_plain rfl (op_move _ _ _ _ rfl rfl),
          st_skip 10 31 _ true rfl rfl rfl rfl (List.Mem.head _),
          st_skip 10 31 _ true rfl rfl rfl rfl (List.Mem.head _),
          st_plain rfl (op_pick _ _ false _ rfl rfl),
          st_plain rfl (op_move _ _ _ _ rfl rfl),
          st_skip 14 35 _ true rfl rfl rfl rfl (List.Mem.head _),
          st_skip 14 35 _ true rfl rfl rfl rfl (List.Mem.head _),
          st_plain rfl (op_pick _ _ false _ rfl rfl),
          st_plain rfl (op_move _ _ _ _ rfl rfl),
          st_skip 18 39 _ true rfl rfl rfl rfl (List.Mem.head _),
          st_skip 18 39 _ true rfl rfl rfl rfl (List.Mem.head _),
          st_plain rfl (op_pick _ _ false _ rfl rfl),
          st_plain rfl (op_move _ _ _ _ rfl rfl),
          st_skip 22 43 _ true rfl rfl rfl rfl (List.Mem.head _),
          st_skip 22 43 _ true rfl rfl rfl rfl (List.Mem.head _),
          st_plain rfl (op_pick _ _ false _ rfl rfl),
          st_plain rfl (op_move _ _ _ _ rfl rfl),
          st_skip 26 47 _ true rfl rfl rfl rfl (List.Mem.head _),
          st_skip 26 47 _ true rfl rfl rfl rfl (List.Mem.head _),
          st_plain rfl (op_pick _ _ false _ rfl rfl),
          st_plain rfl (op_assign _ _ _ _ rfl rfl),
          trivial⟩ ?_
      exact hl5 _ (Option.some.inj h).symm

end Go.Proofs.Ytepjhmgmejpkpaa
