/-
  The model's runs are what is told in Lean.
-/
import Derived.Test.YtdligpdfcfbgpaaProg
import Derived.KernelRfl
import Derived.Test.YtdligpdfcfbgpaaOk3
set_option linter.unusedVariables false
set_option linter.unusedSimpArgs false
namespace Go.Proofs.Ytdligpdfcfbgpaa
open Go.Abs Go.Abs.Sh

set_option maxHeartbeats 1000000 in
theorem ok_wherrylaw21_SenderAcks (s : T_Send) (seq : Int) (r : Bool) (h : Sh.wherrylaw21_SenderAcks s seq = some r) : FnOK Try.prog 8 [.agg [.v (.int .i64 s.Number), .fl .shr 1 (List.map (Value.int .u8) s.Data), .v (.bool s.Ready), .v (.int .i64 s.Base), .v (.int .i64 s.Next), .v (.int .i64 s.Wait), .v (.bool s.Over)], .v (.int .i64 seq)] (.v (.bool r)) := by
  unfold Sh.wherrylaw21_SenderAcks at h
  refine fn_ok Try.func8 rfl (Nat.le_of_ble_eq_true rfl) rfl rfl fun g0 hn hio => ?_
  refine ht_seq ?_
  refine ht_seqR hn (El := [_, _, (2, .box 24 [.v (.int .i64 s.Number), .fl .shr 1 (List.map (Value.int .u8) s.Data), .v (.bool s.Ready), .v (.int .i64 s.Base), .v (.int .i64 s.Next), .v (.int .i64 s.Wait), .v (.bool s.Over)]), (4, .v (.bool false))]) (init := [0, 1]) (fin := [1, 2]) (sps := [⟨[0], [], [2], [(.slot 2)]⟩, ⟨[], [], [3], [(.slot 4)]⟩]) (es' := [(_, _), (2, .box 24 [.v (.int .i64 s.Number), .fl .shr 1 (List.map (Value.int .u8) s.Data), .v (.bool s.Ready), .v (.int .i64 s.Base), .v (.int .i64 s.Next), .v (.int .i64 s.Wait), .v (.bool s.Over)])]) (by kernel_rfl) rfl rfl
    ⟨st_plain rfl (op_box _ _ _ _ rfl rfl rfl),
      st_plain rfl (op_assign _ _ _ _ rfl rfl),
      trivial⟩ ?_
  refine pt_then ?_
  refine ht_seq ?_
  refine ht_seq ?_
  refine ht_joinS h (fun (s2 : Bool) => [(1, .v (.int .i64 seq)), (2, .box 24 [.v (.int .i64 s.Number), .fl .shr 1 (List.map (Value.int .u8) s.Data), .v (.bool s.Ready), .v (.int .i64 s.Base), .v (.int .i64 s.Next), .v (.int .i64 s.Wait), .v (.bool s.Over)]), (21, .v (.bool s2))]) ?_ ?_
  · rintro s2 h
    refine pt_then ?_
    refine ht_cond _ rfl (fun hb6 => ?_) (fun hb6 => ?_)
    · have h := cond_t hb6 h
      refine ht_seq ?_
      refine ht_seqR hn (El := [_, _, _, (4, .v (.bool true))]) (init := [0, 1, 2]) (fin := [3]) (sps := [⟨[], [], [3], [(.slot 4)]⟩]) (es' := [(4, .v (.bool true))]) (by kernel_rfl) rfl rfl
        ⟨st_plain rfl (op_assign _ _ _ _ rfl rfl),
          trivial⟩ ?_
      refine pt_then ?_
      refine ht_ret ?_
      refine pt_r_then ?_
      obtain rfl := Option.some.inj h
      exact pt_ret hio rfl (.tmp _ _ .nil) rfl rfl
    · have h := cond_f hb6 h
      refine ht_skip ?_
      refine pt_then ?_
      refine ht_seq ?_
      obtain ⟨v7, hv7, h⟩ := bind_some h
      obtain ⟨v8, hv8, h⟩ := bind_some h
      obtain ⟨v9, hv9, h⟩ := bind_some h
      refine ht_seqR hn (El := [_, _, _, (22, .v (.int .i64 seq)), (23, .v (.int .u64 v7)), (24, .v (.int .u64 v8)), (25, .v (.int .i64 v9)), (1, .v (.int .i64 v9))]) (init := [0, 1, 2]) (fin := [1, 7]) (sps := [⟨[0], [], [3], [(.slot 22)]⟩, ⟨[3], [], [4], [(.slot 23)]⟩, ⟨[4], [], [5], [(.slot 24)]⟩, ⟨[5], [], [6], [(.slot 25)]⟩, ⟨[6], [0], [7], [(.slot 1)]⟩]) (es' := [(_, _), (1, .v (.int .i64 v9))]) (by kernel_rfl) rfl rfl
        ⟨st_plain rfl (op_move _ _ _ _ rfl rfl),
          st_plain rfl ((Option.some.inj hv7) ▸ op_conv _ _ _ Try.underlying3 Try.underlying51 rfl),
          st_plain rfl (op_bin _ _ _ _ _ rfl rfl (rem_ok hv8)),
          st_plain rfl ((Option.some.inj hv9) ▸ op_conv _ _ _ Try.underlying51 Try.underlying3 rfl),
          st_plain rfl (LOp.drop [_] (op_assign _ _ _ _ rfl rfl)),
          trivial⟩ ?_
      refine pt_then ?_
      refine ht_seq ?_
      obtain ⟨v10, hv10, h⟩ := bind_some h
      refine ht_seqR hn (El := (_ :: _ :: (27, .agg [.v (.int .i64 s.Number), .fl .shr 1 (List.map (Value.int .u8) s.Data), .v (.bool s.Ready), .v (.int .i64 s.Base), .v (.int .i64 s.Next), .v (.int .i64 s.Wait), .v (.bool s.Over)]) :: (28, .ptr 2 0) :: (29, .v (.int .i64 s.Number)) :: (30, .v (.int .i64 v9)) :: (31, .agg [.v (.int .i64 4), .v (.int .i64 s.Number), .v (.int .i64 0), .v (.int .i64 v9), .v (.slice none 0 0)]) :: (32, .tup [.agg [.v (.int .i64 v10.1.Number), .fl (.own 5) 1 (List.map (Value.int .u8) v10.1.Data), .v (.bool v10.1.Ready), .v (.int .i64 v10.1.Base), .v (.int .i64 v10.1.Next), .v (.int .i64 v10.1.Wait), .v (.bool v10.1.Over)], .v (.int .i64 v10.2)]) :: (26, .tup [.agg [.v (.int .i64 v10.1.Number), .fl (.own 5) 1 (List.map (Value.int .u8) v10.1.Data), .v (.bool v10.1.Ready), .v (.int .i64 v10.1.Base), .v (.int .i64 v10.1.Next), .v (.int .i64 v10.1.Wait), .v (.bool v10.1.Over)], .v (.int .i64 v10.2)]) :: (33, .agg [.v (.int .i64 v10.1.Number), .fl (.own 5) 1 (List.map (Value.int .u8) v10.1.Data), .v (.bool v10.1.Ready), .v (.int .i64 v10.1.Base), .v (.int .i64 v10.1.Next), .v (.int .i64 v10.1.Wait), .v (.bool v10.1.Over)]) :: (26, .tup [.any, .v (.int .i64 v10.2)]) :: (34, .v (.int .i64 v10.2)) :: (5, .box 24 [.v (.int .i64 0), .v (.slice none 0 0), .v (.bool false), .v (.int .i64 0), .v (.int .i64 0), .v (.int .i64 0), .v (.bool false)]) :: (5, .box 24 [.v (.int .i64 v10.1.Number), .fl (.own 5) 1 (List.map (Value.int .u8) v10.1.Data), .v (.bool v10.1.Ready), .v (.int .i64 v10.1.Base), .v (.int .i64 v10.1.Next), .v (.int .i64 v10.1.Wait), .v (.bool v10.1.Over)]) :: (6, .v (.int .i64 v10.2)) :: [])) (init := [0, 1]) (fin := [0, 1, 13, 14]) (sps := [⟨[0], [], [2], [(.slot 27)]⟩, ⟨[0], [], [3], [(.slot 28)]⟩, ⟨[3, 0], [], [4], [(.slot 29)]⟩, ⟨[1], [], [5], [(.slot 30)]⟩, ⟨[4, 5], [], [6], [(.slot 31)]⟩, ⟨[2, 6], [], [7], [(.slot 32)]⟩, ⟨[], [7], [8], [(.slot 26)]⟩, ⟨[], [8], [10, 9], [(.slot 33)]⟩, ⟨[10], [], [11], [(.slot 34)]⟩, ⟨[], [], [12], [(.slot 5)]⟩, ⟨[], [9, 12], [13], [.cell 5 0, .cell 5 1, .cell 5 2, .cell 5 3, .cell 5 4, .cell 5 5, .cell 5 6]⟩, ⟨[11], [], [14], [(.slot 6)]⟩]) (es' := [(_, _), (_, _), (5, .box 24 [.v (.int .i64 v10.1.Number), .fl (.own 5) 1 (List.map (Value.int .u8) v10.1.Data), .v (.bool v10.1.Ready), .v (.int .i64 v10.1.Base), .v (.int .i64 v10.1.Next), .v (.int .i64 v10.1.Wait), .v (.bool v10.1.Over)]), (6, .v (.int .i64 v10.2))]) (by kernel_rfl) rfl rfl
        ⟨st_plain rfl (op_loadA _ _ _ _ _ _ _ Try.underlying24 rfl sz24 rfl rfl (Nat.le_of_ble_eq_true rfl) rfl rfl),
          st_plain rfl (op_fieldAddr _ _ _ _ 2 0 _ Try.underlying24 rfl sz3 rfl rfl (by decide)),
          st_plain rfl (op_load _ _ _ _ _ _ Try.underlying3 rfl rfl rfl (Nat.le_of_ble_eq_true rfl) rfl rfl rfl),
          st_plain rfl (op_move _ _ _ _ rfl rfl),
          st_plain rfl (op_build _ _ _ _ [1, 1, 1, 1, 1] _ _ Try.underlying26 zr26 (fs26 _ Try.underlying26) (.copy _ (.copy _ (.copy _ Src.nil))) rfl rfl rfl),
          st_plain rfl (op_call _ _ 15 _ _ rfl Try.call15 rfl ((ok_sender_Hear s (T_Frame.mk 4 s.Number 0 v9 []) _ hv10).args (subs_cons (sub_refl _) (subs_cons (sub_agg (subs_cons (sub_refl _) (subs_cons (sub_refl _) (subs_cons (sub_refl _) (subs_cons (sub_refl _) (subs_cons (sub_nil_shr 1) (subs_nil))))))) (subs_nil)))) rfl rfl),
          st_plain rfl (op_move_take _ _ _ _ rfl),
          st_plain rfl (op_extract_take _ _ _ _ _ rfl (Nat.le_of_ble_eq_true rfl) rfl rfl (by decide) rfl),
          st_plain rfl (op_extract _ _ _ _ _ rfl rfl (Nat.le_of_ble_eq_true rfl) rfl rfl),
          st_plain rfl (op_alloc _ _ zr24),
          st_plain rfl (op_store_take _ _ _ _ _ _ _ _ sz24 rfl rfl rfl (Nat.le_of_ble_eq_true rfl) rfl rfl),
          st_plain rfl (op_assign _ _ _ _ rfl rfl),
          trivial⟩ ?_
      refine pt_then ?_
      refine ht_seq ?_
      refine ht_seqR hn (El := [_, _, _, _, (7, .v (.int .i64 (-1)))]) (init := [0, 1, 2, 3]) (fin := [0, 1, 2, 3, 4]) (sps := [⟨[], [], [4], [(.slot 7)]⟩]) (es' := [(_, _), (_, _), (_, _), (_, _), (7, .v (.int .i64 (-1)))]) (by kernel_rfl) rfl rfl
        ⟨st_plain rfl (op_assign _ _ _ _ rfl rfl),
          trivial⟩ ?_
      refine pt_then ?_
      refine ht_seq ?_
      refine ht_seq ?_
      obtain ⟨v11, hv11, h⟩ := bind_some h
      refine ht_seqR hn (El := [_, _, _, _, _, (35, .ptr 2 3), (36, .v (.int .i64 s.Base)), (37, .v (.int .i64 v11)), (8, .v (.int .i64 v11))]) (init := [0, 1, 2, 3, 4]) (fin := [0, 1, 2, 3, 4, 8]) (sps := [⟨[0], [], [5], [(.slot 35)]⟩, ⟨[5, 0], [], [6], [(.slot 36)]⟩, ⟨[6], [], [7], [(.slot 37)]⟩, ⟨[7], [], [8], [(.slot 8)]⟩]) (es' := [(_, _), (_, _), (_, _), (_, _), (_, _), (8, .v (.int .i64 v11))]) (by kernel_rfl) rfl rfl
        ⟨st_plain rfl (op_fieldAddr _ _ _ _ 2 0 _ Try.underlying24 rfl sz3 rfl rfl (by decide)),
          st_plain rfl (op_load _ _ _ _ _ _ Try.underlying3 rfl rfl rfl (Nat.le_of_ble_eq_true rfl) rfl rfl rfl),
          st_plain rfl (op_bin _ _ _ _ _ rfl rfl (ibind (f := Value.int .i64) (Option.some.inj hv11))),
          st_plain rfl (op_assign _ _ _ _ rfl rfl),
          trivial⟩ ?_
      refine pt_then ?_
      refine ht_loopS h (fun ((s38, s39) : Int × Int) => [(2, .box 24 [.v (.int .i64 s.Number), .fl .shr 1 (List.map (Value.int .u8) s.Data), .v (.bool s.Ready), .v (.int .i64 s.Base), .v (.int .i64 s.Next), .v (.int .i64 s.Wait), .v (.bool s.Over)]), (1, .v (.int .i64 v9)), (5, .box 24 [.v (.int .i64 v10.1.Number), .fl (.own 5) 1 (List.map (Value.int .u8) v10.1.Data), .v (.bool v10.1.Ready), .v (.int .i64 v10.1.Base), .v (.int .i64 v10.1.Next), .v (.int .i64 v10.1.Wait), .v (.bool v10.1.Over)]), (6, .v (.int .i64 v10.2)), (7, .v (.int .i64 s38)), (8, .v (.int .i64 s39))]) (fun (s51 : Int) => [(2, .box 24 [.v (.int .i64 s.Number), .fl .shr 1 (List.map (Value.int .u8) s.Data), .v (.bool s.Ready), .v (.int .i64 s.Base), .v (.int .i64 s.Next), .v (.int .i64 s.Wait), .v (.bool s.Over)]), (5, .box 24 [.v (.int .i64 v10.1.Number), .fl (.own 5) 1 (List.map (Value.int .u8) v10.1.Data), .v (.bool v10.1.Ready), .v (.int .i64 v10.1.Base), .v (.int .i64 v10.1.Next), .v (.int .i64 v10.1.Wait), .v (.bool v10.1.Over)]), (6, .v (.int .i64 v10.2)), (7, .v (.int .i64 s51))]) ?_ ?_
      · rintro s51 h
        refine pt_then ?_
        refine ht_seq ?_
        refine ht_seq ?_
        refine ht_seqR hn (El := [_, _, _, _, (53, .v (.int .i64 s51)), (54, .v (.bool ((decide (s51 < 0)))))]) (init := [0, 1, 2, 3]) (fin := [0, 1, 2, 3, 5]) (sps := [⟨[3], [], [4], [(.slot 53)]⟩, ⟨[4], [], [5], [(.slot 54)]⟩]) (es' := [(_, _), (_, _), (_, _), (_, _), (54, .v (.bool ((decide (s51 < 0)))))]) (by kernel_rfl) rfl rfl
          ⟨st_plain rfl (op_move _ _ _ _ rfl rfl),
            st_plain rfl (op_bin _ _ _ _ _ rfl rfl rfl),
            trivial⟩ ?_
        refine pt_then ?_
        refine ht_cond _ rfl (fun hb69 => ?_) (fun hb69 => ?_)
        · have h := cond_t hb69 h
          refine ht_seq ?_
          refine ht_joinS h (fun (s72 : Bool) => [(4, .v (.bool s72))]) ?_ ?_
          · rintro s72 h
            refine pt_then ?_
            refine ht_ret ?_
            refine pt_r_then ?_
            obtain rfl := Option.some.inj h
            exact pt_ret hio rfl (.tmp _ _ .nil) rfl rfl
          · intro u73 h hl74 hr75
            refine cond_some h (fun hg12_2 h => ?_) (fun hg12_2 h => ?_)
            · obtain ⟨v70, hv70, h⟩ := bind_some h
              refine cond_some h (fun hg12_7 h => ?_) (fun hg12_7 h => ?_)
              · obtain ⟨v71, hv71, h⟩ := bind_some h
                refine ht_seqR hn (El := (_ :: _ :: _ :: _ :: _ :: (55, .v (.int .i64 v10.2)) :: (56, .v (.bool (v10.2 == 11))) :: (57, .v (.bool true)) :: (58, .agg [.v (.int .i64 v10.1.Number), .fl (.own 5) 1 (List.map (Value.int .u8) v10.1.Data), .v (.bool v10.1.Ready), .v (.int .i64 v10.1.Base), .v (.int .i64 v10.1.Next), .v (.int .i64 v10.1.Wait), .v (.bool v10.1.Over)]) :: (59, .agg [.v (.int .i64 0), .v (.slice none 0 0), .v (.bool false), .v (.int .i64 0), .v (.int .i64 0), .v (.int .i64 0), .v (.bool false)]) :: (60, .v (.bool v70)) :: (61, .v (.bool v70)) :: (62, .v (.bool true)) :: (63, .v (.bool v71)) :: (64, .v (.bool v71)) :: (4, .v (.bool v71)) :: [])) (init := [0, 1, 2, 3, 4]) (fin := [15]) (sps := [⟨[2], [], [5], [(.slot 55)]⟩, ⟨[5], [], [6], [(.slot 56)]⟩, ⟨[6], [], [7], [(.slot 57)]⟩, ⟨[7], [1], [8], [(.slot 58)]⟩, ⟨[7], [], [9], [(.slot 59)]⟩, ⟨[7, 8, 9], [], [10], [(.slot 60)]⟩, ⟨[7, 10], [], [11], [(.slot 61)]⟩, ⟨[11], [], [12], [(.slot 62)]⟩, ⟨[12], [], [13], [(.slot 63)]⟩, ⟨[12, 13], [], [14], [(.slot 64)]⟩, ⟨[14], [], [15], [(.slot 4)]⟩]) (es' := [(4, .v (.bool v71))]) (by kernel_rfl) rfl rfl
                  ⟨st_plain rfl (op_move _ _ _ _ rfl rfl),
                    st_plain rfl (op_bin _ _ _ _ _ rfl rfl rfl),
                    st_plain rfl (op_move _ _ _ _ (congrArg (fun b => AV.v (Value.bool b)) hg12_2) rfl),
                    st_run 2 57 true rfl rfl rfl (List.Mem.head _) (op_loadA_take _ _ _ _ Try.underlying24 rfl sz24 rfl rfl),
                    st_run 2 57 true rfl rfl rfl (List.Mem.head _) (op_build _ _ _ _ [1, 1, 1, 1, 1, 1, 1] _ _ Try.underlying24 zr24 (fs24 _ Try.underlying24) Src.nil rfl rfl rfl),
                    st_run 2 57 true rfl rfl rfl (List.Mem.head _) (op_call _ _ 20 _ _ rfl Try.call20 rfl ((ok_wherrykeep_Send v10.1 (T_Send.mk 0 [] false 0 0 0 false) _ hv70).args (subs_cons (sub_refl _) (subs_cons (sub_agg (subs_cons (sub_refl _) (subs_cons (sub_nil_shr 1) (subs_cons (sub_refl _) (subs_cons (sub_refl _) (subs_cons (sub_refl _) (subs_cons (sub_refl _) (subs_cons (sub_refl _) (subs_nil))))))))) (subs_nil)))) rfl rfl),
                    st_plain rfl (op_pick _ _ true _ rfl rfl),
                    st_plain rfl (op_move _ _ _ _ (congrArg (fun b => AV.v (Value.bool b)) hg12_7) rfl),
                    st_run 7 62 true rfl rfl rfl (List.Mem.head _) (op_call _ _ 21 _ _ rfl Try.call21 rfl (ok_wherrylaw21_wakes  _ hv71) rfl rfl),
                    st_plain rfl (op_pick _ _ true _ rfl rfl),
                    st_plain rfl (op_assign _ _ _ _ rfl rfl),
                    trivial⟩ ?_
                exact hl74 _ (Option.some.inj h).symm
              · refine ht_seqR hn (El := (_ :: _ :: _ :: _ :: _ :: (55, .v (.int .i64 v10.2)) :: (56, .v (.bool (v10.2 == 11))) :: (57, .v (.bool true)) :: (58, .agg [.v (.int .i64 v10.1.Number), .fl (.own 5) 1 (List.map (Value.int .u8) v10.1.Data), .v (.bool v10.1.Ready), .v (.int .i64 v10.1.Base), .v (.int .i64 v10.1.Next), .v (.int .i64 v10.1.Wait), .v (.bool v10.1.Over)]) :: (59, .agg [.v (.int .i64 0), .v (.slice none 0 0), .v (.bool false), .v (.int .i64 0), .v (.int .i64 0), .v (.int .i64 0), .v (.bool false)]) :: (60, .v (.bool v70)) :: (61, .v (.bool v70)) :: (62, .v (.bool false)) :: (63, .v undef) :: (64, .v (.bool false)) :: (4, .v (.bool false)) :: [])) (init := [0, 1, 2, 3, 4]) (fin := [15]) (sps := [⟨[2], [], [5], [(.slot 55)]⟩, ⟨[5], [], [6], [(.slot 56)]⟩, ⟨[6], [], [7], [(.slot 57)]⟩, ⟨[7], [1], [8], [(.slot 58)]⟩, ⟨[7], [], [9], [(.slot 59)]⟩, ⟨[7, 8, 9], [], [10], [(.slot 60)]⟩, ⟨[7, 10], [], [11], [(.slot 61)]⟩, ⟨[11], [], [12], [(.slot 62)]⟩, ⟨[12], [], [13], [(.slot 63)]⟩, ⟨[12], [], [14], [(.slot 64)]⟩, ⟨[14], [], [15], [(.slot 4)]⟩]) (es' := [(4, .v (.bool false))]) (by kernel_rfl) rfl rfl
                  ⟨st_plain rfl (op_move _ _ _ _ rfl rfl),
                    st_plain rfl (op_bin _ _ _ _ _ rfl rfl rfl),
                    st_plain rfl (op_move _ _ _ _ (congrArg (fun b => AV.v (Value.bool b)) hg12_2) rfl),
                    st_run 2 57 true rfl rfl rfl (List.Mem.head _) (op_loadA_take _ _ _ _ Try.underlying24 rfl sz24 rfl rfl),
                    st_run 2 57 true rfl rfl rfl (List.Mem.head _) (op_build _ _ _ _ [1, 1, 1, 1, 1, 1, 1] _ _ Try.underlying24 zr24 (fs24 _ Try.underlying24) Src.nil rfl rfl rfl),
                    st_run 2 57 true rfl rfl rfl (List.Mem.head _) (op_call _ _ 20 _ _ rfl Try.call20 rfl ((ok_wherrykeep_Send v10.1 (T_Send.mk 0 [] false 0 0 0 false) _ hv70).args (subs_cons (sub_refl _) (subs_cons (sub_agg (subs_cons (sub_refl _) (subs_cons (sub_nil_shr 1) (subs_cons (sub_refl _) (subs_cons (sub_refl _) (subs_cons (sub_refl _) (subs_cons (sub_refl _) (subs_cons (sub_refl _) (subs_nil))))))))) (subs_nil)))) rfl rfl),
                    st_plain rfl (op_pick _ _ true _ rfl rfl),
                    st_plain rfl (op_move _ _ _ _ (congrArg (fun b => AV.v (Value.bool b)) hg12_7) rfl),
                    st_skip 7 62 _ true rfl rfl rfl rfl (List.Mem.head _),
                    st_plain rfl (op_pick _ _ false _ rfl rfl),
                    st_plain rfl (op_assign _ _ _ _ rfl rfl),
                    trivial⟩ ?_
                exact hl74 _ (Option.some.inj h).symm
            · refine ht_seqR hn (El := (_ :: _ :: _ :: _ :: _ :: (55, .v (.int .i64 v10.2)) :: (56, .v (.bool (v10.2 == 11))) :: (57, .v (.bool false)) :: (58, .v undef) :: (59, .v undef) :: (60, .v undef) :: (61, .v (.bool false)) :: (62, .v (.bool false)) :: (63, .v undef) :: (64, .v (.bool false)) :: (4, .v (.bool false)) :: [])) (init := [0, 1, 2, 3, 4]) (fin := [15]) (sps := [⟨[2], [], [5], [(.slot 55)]⟩, ⟨[5], [], [6], [(.slot 56)]⟩, ⟨[6], [], [7], [(.slot 57)]⟩, ⟨[7], [], [8], [(.slot 58)]⟩, ⟨[7], [], [9], [(.slot 59)]⟩, ⟨[7], [], [10], [(.slot 60)]⟩, ⟨[7], [], [11], [(.slot 61)]⟩, ⟨[11], [], [12], [(.slot 62)]⟩, ⟨[12], [], [13], [(.slot 63)]⟩, ⟨[12], [], [14], [(.slot 64)]⟩, ⟨[14], [], [15], [(.slot 4)]⟩]) (es' := [(4, .v (.bool false))]) (by kernel_rfl) rfl rfl
                ⟨st_plain rfl (op_move _ _ _ _ rfl rfl),
                  st_plain rfl (op_bin _ _ _ _ _ rfl rfl rfl),
                  st_plain rfl (op_move _ _ _ _ (congrArg (fun b => AV.v (Value.bool b)) hg12_2) rfl),
                  st_skip 2 57 _ true rfl rfl rfl rfl (List.Mem.head _),
                  st_skip 2 57 _ true rfl rfl rfl rfl (List.Mem.head _),
                  st_skip 2 57 _ true rfl rfl rfl rfl (List.Mem.head _),
                  st_plain rfl (op_pick _ _ false _ rfl rfl),
                  st_plain rfl (op_move _ _ _ _ rfl rfl),
                  st_skip 7 62 _ true rfl rfl rfl rfl (List.Mem.head _),
                  st_plain rfl (op_pick _ _ false _ rfl rfl),
                  st_plain rfl (op_assign _ _ _ _ rfl rfl),
                  trivial⟩ ?_
              exact hl74 _ (Option.some.inj h).symm
        · have h := cond_f hb69 h
          refine ht_skip ?_
          refine pt_then ?_
          refine ht_seq ?_
          refine ht_joinS h (fun (s77 : Bool) => [(4, .v (.bool s77))]) ?_ ?_
          · rintro s77 h
            refine pt_then ?_
            refine ht_ret ?_
            obtain rfl := Option.some.inj h
            exact pt_ret hio rfl (.tmp _ _ .nil) rfl rfl
          · intro u78 h hl79 hr80
            refine cond_some h (fun hg13_2 h => ?_) (fun hg13_2 h => ?_)
            · refine cond_some h (fun hg13_8 h => ?_) (fun hg13_8 h => ?_)
              · refine cond_some h (fun hg13_15 h => ?_) (fun hg13_15 h => ?_)
                · refine cond_some h (fun hg13_20 h => ?_) (fun hg13_20 h => ?_)
                  · refine cond_some h (fun hg13_24 h => ?_) (fun hg13_24 h => ?_)
                    · obtain ⟨v76, hv76, h⟩ := bind_some h
                      refine ht_seqR hn (El := (_ :: _ :: _ :: _ :: _ :: (65, .v (.int .i64 v10.2)) :: (66, .v (.bool (v10.2 == 0))) :: (67, .v (.bool true)) :: (68, .ptr 5 3) :: (69, .v (.int .i64 v10.1.Base)) :: (70, .v (.int .i64 s51)) :: (71, .v (.bool (v10.1.Base == s51))) :: (72, .v (.bool (v10.1.Base == s51))) :: (73, .v (.bool true)) :: (74, .ptr 5 4) :: (75, .v (.int .i64 v10.1.Next)) :: (76, .ptr 2 4) :: (77, .v (.int .i64 s.Next)) :: (78, .v (.bool (v10.1.Next == s.Next))) :: (79, .v (.bool (v10.1.Next == s.Next))) :: (80, .v (.bool true)) :: (81, .ptr 5 5) :: (82, .v (.int .i64 v10.1.Wait)) :: (83, .v (.bool (v10.1.Wait == 3))) :: (84, .v (.bool (v10.1.Wait == 3))) :: (85, .v (.bool true)) :: (86, .ptr 5 2) :: (87, .v (.bool v10.1.Ready)) :: (88, .v (.bool v10.1.Ready)) :: (89, .v (.bool true)) :: (90, .v (.bool v76)) :: (91, .v (.bool v76)) :: (4, .v (.bool v76)) :: [])) (init := [0, 1, 2, 3, 4]) (fin := [32]) (sps := (⟨[2], [], [5], [(.slot 65)]⟩ :: ⟨[5], [], [6], [(.slot 66)]⟩ :: ⟨[6], [], [7], [(.slot 67)]⟩ :: ⟨[7, 1], [], [8], [(.slot 68)]⟩ :: ⟨[7, 8, 1], [], [9], [(.slot 69)]⟩ :: ⟨[7, 3], [], [10], [(.slot 70)]⟩ :: ⟨[7, 9, 10], [], [11], [(.slot 71)]⟩ :: ⟨[7, 11], [], [12], [(.slot 72)]⟩ :: ⟨[12], [], [13], [(.slot 73)]⟩ :: ⟨[13, 1], [], [14], [(.slot 74)]⟩ :: ⟨[13, 14, 1], [], [15], [(.slot 75)]⟩ :: ⟨[13, 0], [], [16], [(.slot 76)]⟩ :: ⟨[13, 16, 0], [], [17], [(.slot 77)]⟩ :: ⟨[13, 15, 17], [], [18], [(.slot 78)]⟩ :: ⟨[13, 18], [], [19], [(.slot 79)]⟩ :: ⟨[19], [], [20], [(.slot 80)]⟩ :: ⟨[20, 1], [], [21], [(.slot 81)]⟩ :: ⟨[20, 21, 1], [], [22], [(.slot 82)]⟩ :: ⟨[20, 22], [], [23], [(.slot 83)]⟩ :: ⟨[20, 23], [], [24], [(.slot 84)]⟩ :: ⟨[24], [], [25], [(.slot 85)]⟩ :: ⟨[25, 1], [], [26], [(.slot 86)]⟩ :: ⟨[25, 26, 1], [], [27], [(.slot 87)]⟩ :: ⟨[25, 27], [], [28], [(.slot 88)]⟩ :: ⟨[28], [], [29], [(.slot 89)]⟩ :: ⟨[29], [], [30], [(.slot 90)]⟩ :: ⟨[29, 30], [], [31], [(.slot 91)]⟩ :: ⟨[31], [], [32], [(.slot 4)]⟩ :: [])) (es' := [(4, .v (.bool v76))]) (by kernel_rfl) rfl rfl
                        ⟨st_plain rfl (op_move _ _ _ _ rfl rfl),
                          st_plain rfl (op_bin _ _ _ _ _ rfl rfl rfl),
                          st_plain rfl (op_move _ _ _ _ (congrArg (fun b => AV.v (Value.bool b)) hg13_2) rfl),
                          st_run 2 67 true rfl rfl rfl (List.Mem.head _) (op_fieldAddr _ _ _ _ 5 0 _ Try.underlying24 rfl sz3 rfl rfl (by decide)),
                          st_run 2 67 true rfl rfl rfl (List.Mem.head _) (op_load _ _ _ _ _ _ Try.underlying3 rfl rfl rfl (Nat.le_of_ble_eq_true rfl) rfl rfl rfl),
                          st_run 2 67 true rfl rfl rfl (List.Mem.head _) (op_move _ _ _ _ rfl rfl),
                          st_run 2 67 true rfl rfl rfl (List.Mem.head _) (op_bin _ _ _ _ _ rfl rfl rfl),
                          st_plain rfl (op_pick _ _ true _ rfl rfl),
                          st_plain rfl (op_move _ _ _ _ (congrArg (fun b => AV.v (Value.bool b)) hg13_8) rfl),
                          st_run 8 73 true rfl rfl rfl (List.Mem.head _) (op_fieldAddr _ _ _ _ 5 0 _ Try.underlying24 rfl sz3 rfl rfl (by decide)),
                          st_run 8 73 true rfl rfl rfl (List.Mem.head _) (op_load _ _ _ _ _ _ Try.underlying3 rfl rfl rfl (Nat.le_of_ble_eq_true rfl) rfl rfl rfl),
                          st_run 8 73 true rfl rfl rfl (List.Mem.head _) (op_fieldAddr _ _ _ _ 2 0 _ Try.underlying24 rfl sz3 rfl rfl (by decide)),
                          st_run 8 73 true rfl rfl rfl (List.Mem.head _) (op_load _ _ _ _ _ _ Try.underlying3 rfl rfl rfl (Nat.le_of_ble_eq_true rfl) rfl rfl rfl),
                          st_run 8 73 true rfl rfl rfl (List.Mem.head _) (op_bin _ _ _ _ _ rfl rfl rfl),
                          st_plain rfl (op_pick _ _ true _ rfl rfl),
                          st_plain rfl (op_move _ _ _ _ (congrArg (fun b => AV.v (Value.bool b)) hg13_15) rfl),
                          st_run 15 80 true rfl rfl rfl (List.Mem.head _) (op_fieldAddr _ _ _ _ 5 0 _ Try.underlying24 rfl sz3 rfl rfl (by decide)),
                          st_run 15 80 true rfl rfl rfl (List.Mem.head _) (op_load _ _ _ _ _ _ Try.underlying3 rfl rfl rfl (Nat.le_of_ble_eq_true rfl) rfl rfl rfl),
                          st_run 15 80 true rfl rfl rfl (List.Mem.head _) (op_bin _ _ _ _ _ rfl rfl rfl),
                          st_plain rfl (op_pick _ _ true _ rfl rfl),
                          st_plain rfl (op_move _ _ _ _ (congrArg (fun b => AV.v (Value.bool b)) hg13_20) rfl),
                          st_run 20 85 true rfl rfl rfl (List.Mem.head _) (op_fieldAddr _ _ _ _ 5 0 _ Try.underlying24 rfl sz4 rfl rfl (by decide)),
                          st_run 20 85 true rfl rfl rfl (List.Mem.head _) (op_load _ _ _ _ _ _ Try.underlying4 rfl rfl rfl (Nat.le_of_ble_eq_true rfl) rfl rfl rfl),
                          st_plain rfl (op_pick _ _ true _ rfl rfl),
                          st_plain rfl (op_move _ _ _ _ (congrArg (fun b => AV.v (Value.bool b)) hg13_24) rfl),
                          st_run 24 89 true rfl rfl rfl (List.Mem.head _) (op_call _ _ 21 _ _ rfl Try.call21 rfl (ok_wherrylaw21_wakes  _ hv76) rfl rfl),
                          st_plain rfl (op_pick _ _ true _ rfl rfl),
                          st_plain rfl (op_assign _ _ _ _ rfl rfl),
                          trivial⟩ ?_
                      exact hl79 _ (Option.some.inj h).symm
                    · refine ht_seqR hn (El := (_ :: _ :: _ :: _ :: _ :: (65, .v (.int .i64 v10.2)) :: (66, .v (.bool (v10.2 == 0))) :: (67, .v (.bool true)) :: (68, .ptr 5 3) :: (69, .v (.int .i64 v10.1.Base)) :: (70, .v (.int .i64 s51)) :: (71, .v (.bool (v10.1.Base == s51))) :: (72, .v (.bool (v10.1.Base == s51))) :: (73, .v (.bool true)) :: (74, .ptr 5 4) :: (75, .v (.int .i64 v10.1.Next)) :: (76, .ptr 2 4) :: (77, .v (.int .i64 s.Next)) :: (78, .v (.bool (v10.1.Next == s.Next))) :: (79, .v (.bool (v10.1.Next == s.Next))) :: (80, .v (.bool true)) :: (81, .ptr 5 5) :: (82, .v (.int .i64 v10.1.Wait)) :: (83, .v (.bool (v10.1.Wait == 3))) :: (84, .v (.bool (v10.1.Wait == 3))) :: (85, .v (.bool true)) :: (86, .ptr 5 2) :: (87, .v (.bool v10.1.Ready)) :: (88, .v (.bool v10.1.Ready)) :: (89, .v (.bool false)) :: (90, .v undef) :: (91, .v (.bool false)) :: (4, .v (.bool false)) :: [])) (init := [0, 1, 2, 3, 4]) (fin := [32]) (sps := (⟨[2], [], [5], [(.slot 65)]⟩ :: ⟨[5], [], [6], [(.slot 66)]⟩ :: ⟨[6], [], [7], [(.slot 67)]⟩ :: ⟨[7, 1], [], [8], [(.slot 68)]⟩ :: ⟨[7, 8, 1], [], [9], [(.slot 69)]⟩ :: ⟨[7, 3], [], [10], [(.slot 70)]⟩ :: ⟨[7, 9, 10], [], [11], [(.slot 71)]⟩ :: ⟨[7, 11], [], [12], [(.slot 72)]⟩ :: ⟨[12], [], [13], [(.slot 73)]⟩ :: ⟨[13, 1], [], [14], [(.slot 74)]⟩ :: ⟨[13, 14, 1], [], [15], [(.slot 75)]⟩ :: ⟨[13, 0], [], [16], [(.slot 76)]⟩ :: ⟨[13, 16, 0], [], [17], [(.slot 77)]⟩ :: ⟨[13, 15, 17], [], [18], [(.slot 78)]⟩ :: ⟨[13, 18], [], [19], [(.slot 79)]⟩ :: ⟨[19], [], [20], [(.slot 80)]⟩ :: ⟨[20, 1], [], [21], [(.slot 81)]⟩ :: ⟨[20, 21, 1], [], [22], [(.slot 82)]⟩ :: ⟨[20, 22], [], [23], [(.slot 83)]⟩ :: ⟨[20, 23], [], [24], [(.slot 84)]⟩ :: ⟨[24], [], [25], [(.slot 85)]⟩ :: ⟨[25, 1], [], [26], [(.slot 86)]⟩ :: ⟨[25, 26, 1], [], [27], [(.slot 87)]⟩ :: ⟨[25, 27], [], [28], [(.slot 88)]⟩ :: ⟨[28], [], [29], [(.slot 89)]⟩ :: ⟨[29], [], [30], [(.slot 90)]⟩ :: ⟨[29], [], [31], [(.slot 91)]⟩ :: ⟨[31], [], [32], [(.slot 4)]⟩ :: [])) (es' := [(4, .v (.bool false))]) (by kernel_rfl) rfl rfl
                        ⟨st_plain rfl (op_move _ _ _ _ rfl rfl),
                          st_plain rfl (op_bin _ _ _ _ _ rfl rfl rfl),
                          st_plain rfl (op_move _ _ _ _ (congrArg (fun b => AV.v (Value.bool b)) hg13_2) rfl),
                          st_run 2 67 true rfl rfl rfl (List.Mem.head _) (op_fieldAddr _ _ _ _ 5 0 _ Try.underlying24 rfl sz3 rfl rfl (by decide)),
                          st_run 2 67 true rfl rfl rfl (List.Mem.head _) (op_load _ _ _ _ _ _ Try.underlying3 rfl rfl rfl (Nat.le_of_ble_eq_true rfl) rfl rfl rfl),
                          st_run 2 67 true rfl rfl rfl (List.Mem.head _) (op_move _ _ _ _ rfl rfl),
                          st_run 2 67 true rfl rfl rfl (List.Mem.head _) (op_bin _ _ _ _ _ rfl rfl rfl),
                          st_plain rfl (op_pick _ _ true _ rfl rfl),
                          st_plain rfl (op_move _ _ _ _ (congrArg (fun b => AV.v (Value.bool b)) hg13_8) rfl),
                          st_run 8 73 true rfl rfl rfl (List.Mem.head _) (op_fieldAddr _ _ _ _ 5 0 _ Try.underlying24 rfl sz3 rfl rfl (by decide)),
                          st_run 8 73 true rfl rfl rfl (List.Mem.head _) (op_load _ _ _ _ _ _ Try.underlying3 rfl rfl rfl (Nat.le_of_ble_eq_true rfl) rfl rfl rfl),
                          st_run 8 73 true rfl rfl rfl (List.Mem.head _) (op_fieldAddr _ _ _ _ 2 0 _ Try.underlying24 rfl sz3 rfl rfl (by decide)),
                          st_run 8 73 true rfl rfl rfl (List.Mem.head _) (op_load _ _ _ _ _ _ Try.underlying3 rfl rfl rfl (Nat.le_of_ble_eq_true rfl) rfl rfl rfl),
                          st_run 8 73 true rfl rfl rfl (List.Mem.head _) (op_bin _ _ _ _ _ rfl rfl rfl),
                          st_plain rfl (op_pick _ _ true _ rfl rfl),
                          st_plain rfl (op_move _ _ _ _ (congrArg (fun b => AV.v (Value.bool b)) hg13_15) rfl),
                          st_run 15 80 true rfl rfl rfl (List.Mem.head _) (op_fieldAddr _ _ _ _ 5 0 _ Try.underlying24 rfl sz3 rfl rfl (by decide)),
                          st_run 15 80 true rfl rfl rfl (List.Mem.head _) (op_load _ _ _ _ _ _ Try.underlying3 rfl rfl rfl (Nat.le_of_ble_eq_true rfl) rfl rfl rfl),
                          st_run 15 80 true rfl rfl rfl (List.Mem.head _) (op_bin _ _ _ _ _ rfl rfl rfl),
                          st_plain rfl (op_pick _ _ true _ rfl rfl),
                          st_plain rfl (op_move _ _ _ _ (congrArg (fun b => AV.v (Value.bool b)) hg13_20) rfl),
                          st_run 20 85 true rfl rfl rfl (List.Mem.head _) (op_fieldAddr _ _ _ _ 5 0 _ Try.underlying24 rfl sz4 rfl rfl (by decide)),
                          st_run 20 85 true rfl rfl rfl (List.Mem.head _) (op_load _ _ _ _ _ _ Try.underlying4 rfl rfl rfl (Nat.le_of_ble_eq_true rfl) rfl rfl rfl),
                          st_plain rfl (op_pick _ _ true _ rfl rfl),
                          st_plain rfl (op_move _ _ _ _ (congrArg (fun b => AV.v (Value.bool b)) hg13_24) rfl),
                          st_skip 24 89 _ true rfl rfl rfl rfl (List.Mem.head _),
                          st_plain rfl (op_pick _ _ false _ rfl rfl),
                          st_plain rfl (op_assign _ _ _ _ rfl rfl),
                          trivial⟩ ?_
                      exact hl79 _ (Option.some.inj h).symm
                  · refine ht_seqR hn (El := (_ :: _ :: _ :: _ :: _ :: (65, .v (.int .i64 v10.2)) :: (66, .v (.bool (v10.2 == 0))) :: (67, .v (.bool true)) :: (68, .ptr 5 3) :: (69, .v (.int .i64 v10.1.Base)) :: (70, .v (.int .i64 s51)) :: (71, .v (.bool (v10.1.Base == s51))) :: (72, .v (.bool (v10.1.Base == s51))) :: (73, .v (.bool true)) :: (74, .ptr 5 4) :: (75, .v (.int .i64 v10.1.Next)) :: (76, .ptr 2 4) :: (77, .v (.int .i64 s.Next)) :: (78, .v (.bool (v10.1.Next == s.Next))) :: (79, .v (.bool (v10.1.Next == s.Next))) :: (80, .v (.bool true)) :: (81, .ptr 5 5) :: (82, .v (.int .i64 v10.1.Wait)) :: (83, .v (.bool (v10.1.Wait == 3))) :: (84, .v (.bool (v10.1.Wait == 3))) :: (85, .v (.bool false)) :: (86, .v undef) :: (87, .v undef) :: (88, .v (.bool false)) :: (89, .v (.bool false)) :: (90, .v undef) :: (91, .v (.bool false)) :: (4, .v (.bool false)) :: [])) (init := [0, 1, 2, 3, 4]) (fin := [32]) (sps := (⟨[2], [], [5], [(.slot 65)]⟩ :: ⟨[5], [], [6], [(.slot 66)]⟩ :: ⟨[6], [], [7], [(.slot 67)]⟩ :: ⟨[7, 1], [], [8], [(.slot 68)]⟩ :: ⟨[7, 8, 1], [], [9], [(.slot 69)]⟩ :: ⟨[7, 3], [], [10], [(.slot 70)]⟩ :: ⟨[7, 9, 10], [], [11], [(.slot 71)]⟩ :: ⟨[7, 11], [], [12], [(.slot 72)]⟩ :: ⟨[12], [], [13], [(.slot 73)]⟩ :: ⟨[13, 1], [], [14], [(.slot 74)]⟩ :: ⟨[13, 14, 1], [], [15], [(.slot 75)]⟩ :: ⟨[13, 0], [], [16], [(.slot 76)]⟩ :: ⟨[13, 16, 0], [], [17], [(.slot 77)]⟩ :: ⟨[13, 15, 17], [], [18], [(.slot 78)]⟩ :: ⟨[13, 18], [], [19], [(.slot 79)]⟩ :: ⟨[19], [], [20], [(.slot 80)]⟩ :: ⟨[20, 1], [], [21], [(.slot 81)]⟩ :: ⟨[20, 21, 1], [], [22], [(.slot 82)]⟩ :: ⟨[20, 22], [], [23], [(.slot 83)]⟩ :: ⟨[20, 23], [], [24], [(.slot 84)]⟩ :: ⟨[24], [], [25], [(.slot 85)]⟩ :: ⟨[25], [], [26], [(.slot 86)]⟩ :: ⟨[25], [], [27], [(.slot 87)]⟩ :: ⟨[25], [], [28], [(.slot 88)]⟩ :: ⟨[28], [], [29], [(.slot 89)]⟩ :: ⟨[29], [], [30], [(.slot 90)]⟩ :: ⟨[29], [], [31], [(.slot 91)]⟩ :: ⟨[31], [], [32], [(.slot 4)]⟩ :: [])) (es' := [(4, .v (.bool false))]) (by kernel_rfl) rfl rfl
                      ⟨st_plain rfl (op_move _ _ _ _ rfl rfl),
                        st_plain rfl (op_bin _ _ _ _ _ rfl rfl rfl),
                        st_plain rfl (op_move _ _ _ _ (congrArg (fun b => AV.v (Value.bool b)) hg13_2) rfl),
                        st_run 2 67 true rfl rfl rfl (List.Mem.head _) (op_fieldAddr _ _ _ _ 5 0 _ Try.underlying24 rfl sz3 rfl rfl (by decide)),
                        st_run 2 67 true rfl rfl rfl (List.Mem.head _) (op_load _ _ _ _ _ _ Try.underlying3 rfl rfl rfl (Nat.le_of_ble_eq_true rfl) rfl rfl rfl),
                        st_run 2 67 true rfl rfl rfl (List.Mem.head _) (op_move _ _ _ _ rfl rfl),
                        st_run 2 67 true rfl rfl rfl (List.Mem.head _) (op_bin _ _ _ _ _ rfl rfl rfl),
                        st_plain rfl (op_pick _ _ true _ rfl rfl),
                        st_plain rfl (op_move _ _ _ _ (congrArg (fun b => AV.v (Value.bool b)) hg13_8) rfl),
                        st_run 8 73 true rfl rfl rfl (List.Mem.head _) (op_fieldAddr _ _ _ _ 5 0 _ Try.underlying24 rfl sz3 rfl rfl (by decide)),
                        st_run 8 73 true rfl rfl rfl (List.Mem.head _) (op_load _ _ _ _ _ _ Try.underlying3 rfl rfl rfl (Nat.le_of_ble_eq_true rfl) rfl rfl rfl),
                        st_run 8 73 true rfl rfl rfl (List.Mem.head _) (op_fieldAddr _ _ _ _ 2 0 _ Try.underlying24 rfl sz3 rfl rfl (by decide)),
                        st_run 8 73 true rfl rfl rfl (List.Mem.head _) (op_load _ _ _ _ _ _ Try.underlying3 rfl rfl rfl (Nat.le_of_ble_eq_true rfl) rfl rfl rfl),
                        st_run 8 73 true rfl rfl rfl (List.Mem.head _) (op_bin _ _ _ _ _ rfl rfl rfl),
                        st_plain rfl (op_pick _ _ true _ rfl rfl),
                        st_plain rfl (op_move _ _ _ _ (congrArg (fun b => AV.v (Value.bool b)) hg13_15) rfl),
                        st_run 15 80 true rfl rfl rfl (List.Mem.head _) (op_fieldAddr _ _ _ _ 5 0 _ Try.underlying24 rfl sz3 rfl rfl (by decide)),
                        st_run 15 80 true rfl rfl rfl (List.Mem.head _) (op_load _ _ _ _ _ _ Try.underlying3 rfl rfl rfl (Nat.le_of_ble_eq_true rfl) rfl rfl rfl),
                        st_run 15 80 true rfl rfl rfl (List.Mem.head _) (op_bin _ _ _ _ _ rfl rfl rfl),
                        st_plain rfl (op_pick _ _ true _ rfl rfl),
                        st_plain rfl (op_move _ _ _ _ (congrArg (fun b => AV.v (Value.bool b)) hg13_20) rfl),
                        st_skip 20 85 _ true rfl rfl rfl rfl (List.Mem.head _),
                        st_skip 20 85 _ true rfl rfl rfl rfl (List.Mem.head _),
                        st_plain rfl (op_pick _ _ false _ rfl rfl),
                        st_plain rfl (op_move _ _ _ _ rfl rfl),
                        st_skip 24 89 _ true rfl rfl rfl rfl (List.Mem.head _),
                        st_plain rfl (op_pick _ _ false _ rfl rfl),
                        st_plain rfl (op_assign _ _ _ _ rfl rfl),
                        trivial⟩ ?_
                    exact hl79 _ (Option.some.inj h).symm
                · refine ht_seqR hn (El := (_ :: _ :: _ :: _ :: _ :: (65, .v (.int .i64 v10.2)) :: (66, .v (.bool (v10.2 == 0))) :: (67, .v (.bool true)) :: (68, .ptr 5 3) :: (69, .v (.int .i64 v10.1.Base)) :: (70, .v (.int .i64 s51)) :: (71, .v (.bool (v10.1.Base == s51))) :: (72, .v (.bool (v10.1.Base == s51))) :: (73, .v (.bool true)) :: (74, .ptr 5 4) :: (75, .v (.int .i64 v10.1.Next)) :: (76, .ptr 2 4) :: (77, .v (.int .i64 s.Next)) :: (78, .v (.bool (v10.1.Next == s.Next))) :: (79, .v (.bool (v10.1.Next == s.Next))) :: (80, .v (.bool false)) :: (81, .v undef) :: (82, .v undef) :: (83, .v undef) :: (84, .v (.bool false)) :: (85, .v (.bool false)) :: (86, .v undef) :: (87, .v undef) :: (88, .v (.bool false)) :: (89, .v (.bool false)) :: (90, .v undef) :: (91, .v (.bool false)) :: (4, .v (.bool false)) :: [])) (init := [0, 1, 2, 3, 4]) (fin := [32]) (sps := (⟨[2], [], [5], [(.slot 65)]⟩ :: ⟨[5], [], [6], [(.slot 66)]⟩ :: ⟨[6], [], [7], [(.slot 67)]⟩ :: ⟨[7, 1], [], [8], [(.slot 68)]⟩ :: ⟨[7, 8, 1], [], [9], [(.slot 69)]⟩ :: ⟨[7, 3], [], [10], [(.slot 70)]⟩ :: ⟨[7, 9, 10], [], [11], [(.slot 71)]⟩ :: ⟨[7, 11], [], [12], [(.slot 72)]⟩ :: ⟨[12], [], [13], [(.slot 73)]⟩ :: ⟨[13, 1], [], [14], [(.slot 74)]⟩ :: ⟨[13, 14, 1], [], [15], [(.slot 75)]⟩ :: ⟨[13, 0], [], [16], [(.slot 76)]⟩ :: ⟨[13, 16, 0], [], [17], [(.slot 77)]⟩ :: ⟨[13, 15, 17], [], [18], [(.slot 78)]⟩ :: ⟨[13, 18], [], [19], [(.slot 79)]⟩ :: ⟨[19], [], [20], [(.slot 80)]⟩ :: ⟨[20], [], [21], [(.slot 81)]⟩ :: ⟨[20], [], [22], [(.slot 82)]⟩ :: ⟨[20], [], [23], [(.slot 83)]⟩ :: ⟨[20], [], [24], [(.slot 84)]⟩ :: ⟨[24], [], [25], [(.slot 85)]⟩ :: ⟨[25], [], [26], [(.slot 86)]⟩ :: ⟨[25], [], [27], [(.slot 87)]⟩ :: ⟨[25], [], [28], [(.slot 88)]⟩ :: ⟨[28], [], [29], [(.slot 89)]⟩ :: ⟨[29], [], [30], [(.slot 90)]⟩ :: ⟨[29], [], [31], [(.slot 91)]⟩ :: ⟨[31], [], [32], [(.slot 4)]⟩ :: [])) (es' := [(4, .v (.bool false))]) (by kernel_rfl) rfl rfl
                    ⟨st_plain rfl (op_move _ _ _ _ rfl rfl),
                      st_plain rfl (op_bin _ _ _ _ _ rfl rfl rfl),
                      st_plain rfl (op_move _ _ _ _ (congrArg (fun b => AV.v (Value.bool b)) hg13_2) rfl),
                      st_run 2 67 true rfl rfl rfl (List.Mem.head _) (op_fieldAddr _ _ _ _ 5 0 _ Try.underlying24 rfl sz3 rfl rfl (by decide)),
                      st_run 2 67 true rfl rfl rfl (List.Mem.head _) (op_load _ _ _ _ _ _ Try.underlying3 rfl rfl rfl (Nat.le_of_ble_eq_true rfl) rfl rfl rfl),
                      st_run 2 67 true rfl rfl rfl (List.Mem.head _) (op_move _ _ _ _ rfl rfl),
                      st_run 2 67 true rfl rfl rfl (List.Mem.head _) (op_bin _ _ _ _ _ rfl rfl rfl),
                      st_plain rfl (op_pick _ _ true _ rfl rfl),
                      st_plain rfl (op_move _ _ _ _ (congrArg (fun b => AV.v (Value.bool b)) hg13_8) rfl),
                      st_run 8 73 true rfl rfl rfl (List.Mem.head _) (op_fieldAddr _ _ _ _ 5 0 _ Try.underlying24 rfl sz3 rfl rfl (by decide)),
                      st_run 8 73 true rfl rfl rfl (List.Mem.head _) (op_load _ _ _ _ _ _ Try.underlying3 rfl rfl rfl (Nat.le_of_ble_eq_true rfl) rfl rfl rfl),
                      st_run 8 73 true rfl rfl rfl (List.Mem.head _) (op_fieldAddr _ _ _ _ 2 0 _ Try.underlying24 rfl sz3 rfl rfl (by decide)),
                      st_run 8 73 true rfl rfl rfl (List.Mem.head _) (op_load _ _ _ _ _ _ Try.underlying3 rfl rfl rfl (Nat.le_of_ble_eq_true rfl) rfl rfl rfl),
                      st_run 8 73 true rfl rfl rfl (List.Mem.head _) (op_bin _ _ _ _ _ rfl rfl rfl),
                      st_plain rfl (op_pick _ _ true _ rfl rfl),
                      st_plain rfl (op_move _ _ _ _ (congrArg (fun b => AV.v (Value.bool b)) hg13_15) rfl),
                      st_skip 15 80 _ true rfl rfl rfl rfl (List.Mem.head _),
                      st_skip 15 80 _ true rfl rfl rfl rfl (List.Mem.head _),
                      st_skip 15 80 _ true rfl rfl rfl rfl (List.Mem.head _),
                      st_plain rfl (op_pick _ _ false _ rfl rfl),
                      st_plain rfl (op_move _ _ _ _ rfl rfl),
                      st_skip 20 85 _ true rfl rfl rfl rfl (List.Mem.head _),
                      st_skip 20 85 _ true rfl rfl rfl rfl (List.Mem.head _),
                      st_plain rfl (op_pick _ _ false _ rfl rfl),
                      st_plain rfl (op_move _ _ _ _ rfl rfl),
                      st_skip 24 89 _ true rfl rfl rfl rfl (List.Mem.head _),
                      st_plain rfl (op_pick _ _ false _ rfl rfl),
                      st_plain rfl (op_assign _ _ _ _ rfl rfl),
                      trivial⟩ ?_
                  exact hl79 _ (Option.some.inj h).symm
              · refine ht_seqR hn (El := (_ :: _ :: _ :: _ :: _ :: (65, .v (.int .i64 v10.2)) :: (66, .v (.bool (v10.2 == 0))) :: (67, .v (.bool true)) :: (68, .ptr 5 3) :: (69, .v (.int .i64 v10.1.Base)) :: (70, .v (.int .i64 s51)) :: (71, .v (.bool (v10.1.Base == s51))) :: (72, .v (.bool (v10.1.Base == s51))) :: (73, .v (.bool false)) :: (74, .v undef) :: (75, .v undef) :: (76, .v undef) :: (77, .v undef) :: (78, .v undef) :: (79, .v (.bool false)) :: (80, .v (.bool false)) :: (81, .v undef) :: (82, .v undef) :: (83, .v undef) :: (84, .v (.bool false)) :: (85, .v (.bool false)) :: (86, .v undef) :: (87, .v undef) :: (88, .v (.bool false)) :: (89, .v (.bool false)) :: (90, .v undef) :: (91, .v (.bool false)) :: (4, .v (.bool false)) :: [])) (init := [0, 1, 2, 3, 4]) (fin := [32]) (sps := (⟨[2], [], [5], [(.slot 65)]⟩ :: ⟨[5], [], [6], [(.slot 66)]⟩ :: ⟨[6], [], [7], [(.slot 67)]⟩ :: ⟨[7, 1], [], [8], [(.slot 68)]⟩ :: ⟨[7, 8, 1], [], [9], [(.slot 69)]⟩ :: ⟨[7, 3], [], [10], [(.slot 70)]⟩ :: ⟨[7, 9, 10], [], [11], [(.slot 71)]⟩ :: ⟨[7, 11], [], [12], [(.slot 72)]⟩ :: ⟨[12], [], [13], [(.slot 73)]⟩ :: ⟨[13], [], [14], [(.slot 74)]⟩ :: ⟨[13], [], [15], [(.slot 75)]⟩ :: ⟨[13], [], [16], [(.slot 76)]⟩ :: ⟨[13], [], [17], [(.slot 77)]⟩ :: ⟨[13], [], [18], [(.slot 78)]⟩ :: ⟨[13], [], [19], [(.slot 79)]⟩ :: ⟨[19], [], [20], [(.slot 80)]⟩ :: ⟨[20], [], [21], [(.slot 81)]⟩ :: ⟨[20], [], [22], [(.slot 82)]⟩ :: ⟨[20], [], [23], [(.slot 83)]⟩ :: ⟨[20], [], [24], [(.slot 84)]⟩ :: ⟨[24], [], [25], [(.slot 85)]⟩ :: ⟨[25], [], [26], [(.slot 86)]⟩ :: ⟨[25], [], [27], [(.slot 87)]⟩ :: ⟨[25], [], [28], [(.slot 88)]⟩ :: ⟨[28], [], [29], [(.slot 89)]⟩ :: ⟨[29], [], [30], [(.slot 90)]⟩ :: ⟨[29], [], [31], [(.slot 91)]⟩ :: ⟨[31], [], [32], [(.slot 4)]⟩ :: [])) (es' := [(4, .v (.bool false))]) (by kernel_rfl) rfl rfl
                  ⟨st_plain rfl (op_move _ _ _ _ rfl rfl),
                    st_plain rfl (op_bin _ _ _ _ _ rfl rfl rfl),
                    st_plain rfl (op_move _ _ _ _ (congrArg (fun b => AV.v (Value.bool b)) hg13_2) rfl),
                    st_run 2 67 true rfl rfl rfl (List.Mem.head _) (op_fieldAddr _ _ _ _ 5 0 _ Try.underlying24 rfl sz3 rfl rfl (by decide)),
                    st_run 2 67 true rfl rfl rfl (List.Mem.head _) (op_load _ _ _ _ _ _ Try.underlying3 rfl rfl rfl (Nat.le_of_ble_eq_true rfl) rfl rfl rfl),
                    st_run 2 67 true rfl rfl rfl (List.Mem.head _) (op_move _ _ _ _ rfl rfl),
                    st_run 2 67 true rfl rfl rfl (List.Mem.head _) (op_bin _ _ _ _ _ rfl rfl rfl),
                    st_plain rfl (op_pick _ _ true _ rfl rfl),
                    st_plain rfl (op_move _ _ _ _ (congrArg (fun b => AV.v (Value.bool b)) hg13_8) rfl),
                    st_skip 8 73 _ true rfl rfl rfl rfl (List.Mem.head _),
                    st_skip 8 73 _ true rfl rfl rfl rfl (List.Mem.head _),
                    st_skip 8 73 _ true rfl rfl rfl rfl (List.Mem.head _),
                    st_skip 8 73 _ true rfl rfl rfl rfl (List.Mem.head _),
                    st_skip 8 73 _ true rfl rfl rfl rfl (List.Mem.head _),
                    st_plain rfl (op_pick _ _ false _ rfl rfl),
                    st_plain rfl (op_move _ _ _ _ rfl rfl),
                    st_skip 15 80 _ true rfl rfl rfl rfl (List.Mem.head _),
                    st_skip 15 80 _ true rfl rfl rfl rfl (List.Mem.head _),
                    st_skip 15 80 _ true rfl rfl rfl rfl (List.Mem.head _),
                    st_plain rfl (op_pick _ _ false _ rfl rfl),
                    st_plain rfl (op_move _ _ _ _ rfl rfl),
                    st_skip 20 85 _ true rfl rfl rfl rfl (List.Mem.head _),
                    st_skip 20 85 _ true rfl rfl rfl rfl (List.Mem.head _),
                    st_plain rfl (op_pick _ _ false _ rfl rfl),
                    st_plain rfl (op_move _ _ _ _ rfl rfl),
                    st_skip 24 89 _ true rfl rfl rfl rfl (List.Mem.head _),
                    st_plain rfl (op_pick _ _ false _ rfl rfl),
                    st_plain rfl (op_assign _ _ _ _ rfl rfl),
                    trivial⟩ ?_
                exact hl79 _ (Option.some.inj h).symm
            · refine ht_seqR hn (El := (_ :: _ :: _ :: _ :: _ :: (65, .v (.int .i64 v10.2)) :: (66, .v (.bool (v10.2 == 0))) :: (67, .v (.bool false)) :: (68, .v undef) :: (69, .v undef) :: (70, .v undef) :: (71, .v undef) :: (72, .v (.bool false)) :: (73, .v (.bool false)) :: (74, .v undef) :: (75, .v undef) :: (76, .v undef) :: (77, .v undef) :: (78, .v undef) :: (79, .v (.bool false)) :: (80, .v (.bool false)) :: (81, .v undef) :: (82, .v undef) :: (83, .v undef) :: (84, .v (.bool false)) :: (85, .v (.bool false)) :: (86, .v undef) :: (87, .v undef) :: (88, .v (.bool false)) :: (89, .v (.bool false)) :: (90, .v undef) :: (91, .v (.bool false)) :: (4, .v (.bool false)) :: [])) (init := [0, 1, 2, 3, 4]) (fin := [32]) (sps := (⟨[2], [], [5], [(.slot 65)]⟩ :: ⟨[5], [], [6], [(.slot 66)]⟩ :: ⟨[6], [], [7], [(.slot 67)]⟩ :: ⟨[7], [], [8], [(.slot 68)]⟩ :: ⟨[7], [], [9], [(.slot 69)]⟩ :: ⟨[7], [], [10], [(.slot 70)]⟩ :: ⟨[7], [], [11], [(.slot 71)]⟩ :: ⟨[7], [], [12], [(.slot 72)]⟩ :: ⟨[12], [], [13], [(.slot 73)]⟩ :: ⟨[13], [], [14], [(.slot 74)]⟩ :: ⟨[13], [], [15], [(.slot 75)]⟩ :: ⟨[13], [], [16], [(.slot 76)]⟩ :: ⟨[13], [], [17], [(.slot 77)]⟩ :: ⟨[13], [], [18], [(.slot 78)]⟩ :: ⟨[13], [], [19], [(.slot 79)]⟩ :: ⟨[19], [], [20], [(.slot 80)]⟩ :: ⟨[20], [], [21], [(.slot 81)]⟩ :: ⟨[20], [], [22], [(.slot 82)]⟩ :: ⟨[20], [], [23], [(.slot 83)]⟩ :: ⟨[20], [], [24], [(.slot 84)]⟩ :: ⟨[24], [], [25], [(.slot 85)]⟩ :: ⟨[25], [], [26], [(.slot 86)]⟩ :: ⟨[25], [], [27], [(.slot 87)]⟩ :: ⟨[25], [], [28], [(.slot 88)]⟩ :: ⟨[28], [], [29], [(.slot 89)]⟩ :: ⟨[29], [], [30], [(.slot 90)]⟩ :: ⟨[29], [], [31], [(.slot 91)]⟩ :: ⟨[31], [], [32], [(.slot 4)]⟩ :: [])) (es' := [(4, .v (.bool false))]) (by kernel_rfl) rfl rfl
                ⟨st_plain rfl (op_move _ _ _ _ rfl rfl),
                  st_plain rfl (op_bin _ _ _ _ _ rfl rfl rfl),
                  st_plain rfl (op_move _ _ _ _ (congrArg (fun b => AV.v (Value.bool b)) hg13_2) rfl),
                  st_skip 2 67 _ true rfl rfl rfl rfl (List.Mem.head _),
                  st_skip 2 67 _ true rfl rfl rfl rfl (List.Mem.head _),
                  st_skip 2 67 _ true rfl rfl rfl rfl (List.Mem.head _),
                  st_skip 2 67 _ true rfl rfl rfl rfl (List.Mem.head _),
                  st_plain rfl (op_pick _ _ false _ rfl rfl),
                  st_plain rfl (op_move _ _ _ _ rfl rfl),
                  st_skip 8 73 _ true rfl rfl rfl rfl (List.Mem.head _),
                  st_skip 8 73 _ true rfl rfl rfl rfl (List.Mem.head _),
                  st_skip 8 73 _ true rfl rfl rfl rfl (List.Mem.head _),
                  st_skip 8 73 _ true rfl rfl rfl rfl (List.Mem.head _),
                  st_skip 8 73 _ true rfl rfl rfl rfl (List.Mem.head _),
                  st_plain rfl (op_pick _ _ false _ rfl rfl),
                  st_plain rfl (op_move _ _ _ _ rfl rfl),
                  st_skip 15 80 _ true rfl rfl rfl rfl (List.Mem.head _),
                  st_skip 15 80 _ true rfl rfl rfl rfl (List.Mem.head _),
                  st_skip 15 80 _ true rfl rfl rfl rfl (List.Mem.head _),
                  st_plain rfl (op_pick _ _ false _ rfl rfl),
                  st_plain rfl (op_move _ _ _ _ rfl rfl),
                  st_skip 20 85 _ true rfl rfl rfl rfl (List.Mem.head _),
                  st_skip 20 85 _ true rfl rfl rfl rfl (List.Mem.head _),
                  st_plain rfl (op_pick _ _ false _ rfl rfl),
                  st_plain rfl (op_move _ _ _ _ rfl rfl),
                  st_skip 24 89 _ true rfl rfl rfl rfl (List.Mem.head _),
                  st_plain rfl (op_pick _ _ false _ rfl rfl),
                  st_plain rfl (op_assign _ _ _ _ rfl rfl),
                  trivial⟩ ?_
              exact hl79 _ (Option.some.inj h).symm
      · rintro u52 hl53 hr54 ⟨s38, s39⟩ rr57 h ho55
        refine ht_seq ?_
        refine ht_seq ?_
        refine ht_joinS h (fun (s58 : Bool) => [(2, .box 24 [.v (.int .i64 s.Number), .fl .shr 1 (List.map (Value.int .u8) s.Data), .v (.bool s.Ready), .v (.int .i64 s.Base), .v (.int .i64 s.Next), .v (.int .i64 s.Wait), .v (.bool s.Over)]), (1, .v (.int .i64 v9)), (5, .box 24 [.v (.int .i64 v10.1.Number), .fl (.own 5) 1 (List.map (Value.int .u8) v10.1.Data), .v (.bool v10.1.Ready), .v (.int .i64 v10.1.Base), .v (.int .i64 v10.1.Next), .v (.int .i64 v10.1.Wait), .v (.bool v10.1.Over)]), (6, .v (.int .i64 v10.2)), (7, .v (.int .i64 s38)), (8, .v (.int .i64 s39)), (45, .v (.bool s58))]) ?_ ?_
        · rintro s58 h
          refine pt_then ?_
          refine ht_cond _ rfl (fun hb62 => ?_) (fun hb62 => ?_)
          · have h := cond_t hb62 h
            refine ht_skip ?_
            refine pt_then ?_
            refine ht_seq ?_
            refine ht_joinS h (fun (s64 : Int) => [(2, .box 24 [.v (.int .i64 s.Number), .fl .shr 1 (List.map (Value.int .u8) s.Data), .v (.bool s.Ready), .v (.int .i64 s.Base), .v (.int .i64 s.Next), .v (.int .i64 s.Wait), .v (.bool s.Over)]), (1, .v (.int .i64 v9)), (5, .box 24 [.v (.int .i64 v10.1.Number), .fl (.own 5) 1 (List.map (Value.int .u8) v10.1.Data), .v (.bool v10.1.Ready), .v (.int .i64 v10.1.Base), .v (.int .i64 v10.1.Next), .v (.int .i64 v10.1.Wait), .v (.bool v10.1.Over)]), (6, .v (.int .i64 v10.2)), (8, .v (.int .i64 s39)), (7, .v (.int .i64 s64))]) ?_ ?_
            · rintro s64 h
              refine pt_then ?_
              obtain ⟨v24, hv24, h⟩ := bind_some h
              refine ht_seqR hn (El := [_, _, _, _, _, _, (46, .v (.int .i64 s39)), (47, .v (.int .i64 v24)), (8, .v (.int .i64 v24))]) (init := [0, 1, 2, 3, 4, 5]) (fin := [0, 1, 2, 3, 5, 8]) (sps := [⟨[4], [], [6], [(.slot 46)]⟩, ⟨[6], [], [7], [(.slot 47)]⟩, ⟨[7], [4], [8], [(.slot 8)]⟩]) (es' := [(_, _), (_, _), (_, _), (_, _), (_, _), (8, .v (.int .i64 v24))]) (by kernel_rfl) rfl rfl
                ⟨st_plain rfl (op_move _ _ _ _ rfl rfl),
                  st_plain rfl (op_bin _ _ _ _ _ rfl rfl (ibind (f := Value.int .i64) (Option.some.inj hv24))),
                  st_plain rfl (LOp.drop [_] (op_assign _ _ _ _ rfl rfl)),
                  trivial⟩ ?_
              exact pt_next _ (Option.some.inj h).symm rfl
            · intro u65 h hl66 hr67
              refine ht_block ?_
              refine ht_seq ?_
              obtain ⟨v17, hv17, h⟩ := bind_some h
              refine ht_seqR hn (El := [_, _, _, _, _, _, _, (48, .v (.int .i64 s39)), (49, .v (.int .i64 v17)), (50, .v (.int .i64 v9)), (51, .v (.bool (v17 == v9)))]) (init := [0, 1, 2, 3, 4, 5, 6]) (fin := [0, 1, 2, 3, 4, 5, 10]) (sps := [⟨[5], [], [7], [(.slot 48)]⟩, ⟨[7], [], [8], [(.slot 49)]⟩, ⟨[1], [], [9], [(.slot 50)]⟩, ⟨[8, 9], [], [10], [(.slot 51)]⟩]) (es' := [(_, _), (_, _), (_, _), (_, _), (_, _), (_, _), (51, .v (.bool (v17 == v9)))]) (by kernel_rfl) rfl rfl
                ⟨st_plain rfl (op_move _ _ _ _ rfl rfl),
                  st_plain rfl (op_bin _ _ _ _ _ rfl rfl (rem_ok hv17)),
                  st_plain rfl (op_move _ _ _ _ rfl rfl),
                  st_plain rfl (op_bin _ _ _ _ _ rfl rfl rfl),
                  trivial⟩ ?_
              refine pt_then ?_
              refine ht_cond _ rfl (fun hb68 => ?_) (fun hb68 => ?_)
              · have h := cond_t hb68 h
                refine ht_seqR hn (El := [_, _, _, _, _, _, _, (52, .v (.int .i64 s39)), (7, .v (.int .i64 s39))]) (init := [0, 1, 2, 3, 4, 5, 6]) (fin := [0, 1, 2, 3, 5, 8]) (sps := [⟨[5], [], [7], [(.slot 52)]⟩, ⟨[7], [4], [8], [(.slot 7)]⟩]) (es' := [(_, _), (_, _), (_, _), (_, _), (_, _), (7, .v (.int .i64 s39))]) (by kernel_rfl) rfl rfl
                  ⟨st_plain rfl (op_move _ _ _ _ rfl rfl),
                    st_plain rfl (LOp.drop [_] (op_assign _ _ _ _ rfl rfl)),
                    trivial⟩ ?_
                refine pt_inb ?_
                exact hl66 _ (Option.some.inj h).symm
              · have h := cond_f hb68 h
                refine ht_skip ?_
                refine pt_inb ?_
                refine pt_pick [0, 1, 2, 3, 5, 4] (by kernel_rfl) (es' := [(_, _), (_, _), (_, _), (_, _), (_, _), (_, _)]) rfl ?_
                exact hl66 _ (Option.some.inj h).symm
          · have h := cond_f hb62 h
            refine ht_exit ?_
            refine pt_x_then ?_
            refine pt_x_then ?_
            refine pt_x_in ?_
            refine pt_pick [0, 2, 3, 4] (by kernel_rfl) (es' := [(_, _), (_, _), (_, _), (_, _)]) rfl ?_
            exact hl53 _ (ho55 _ (Option.some.inj h).symm).symm
        · intro u59 h hl60 hr61
          refine cond_some h (fun hg7_4 h => ?_) (fun hg7_4 h => ?_)
          · refine ht_seqR hn (El := [_, _, _, _, _, _, (38, .v (.int .i64 s39)), (39, .ptr 2 4), (40, .v (.int .i64 s.Next)), (41, .v (.bool ((decide (s39 ≤ s.Next))))), (42, .v (.bool true)), (43, .ptr 2 2), (44, .v (.bool s.Ready)), (45, .v (.bool s.Ready))]) (init := [0, 1, 2, 3, 4, 5]) (fin := [0, 1, 2, 3, 4, 5, 13]) (sps := [⟨[5], [], [6], [(.slot 38)]⟩, ⟨[0], [], [7], [(.slot 39)]⟩, ⟨[7, 0], [], [8], [(.slot 40)]⟩, ⟨[6, 8], [], [9], [(.slot 41)]⟩, ⟨[9], [], [10], [(.slot 42)]⟩, ⟨[10, 0], [], [11], [(.slot 43)]⟩, ⟨[10, 11, 0], [], [12], [(.slot 44)]⟩, ⟨[10, 12], [], [13], [(.slot 45)]⟩]) (es' := [(_, _), (_, _), (_, _), (_, _), (_, _), (_, _), (45, .v (.bool s.Ready))]) (by kernel_rfl) rfl rfl
              ⟨st_plain rfl (op_move _ _ _ _ rfl rfl),
                st_plain rfl (op_fieldAddr _ _ _ _ 2 0 _ Try.underlying24 rfl sz3 rfl rfl (by decide)),
                st_plain rfl (op_load _ _ _ _ _ _ Try.underlying3 rfl rfl rfl (Nat.le_of_ble_eq_true rfl) rfl rfl rfl),
                st_plain rfl (op_bin _ _ _ _ _ rfl rfl rfl),
                st_plain rfl (op_move _ _ _ _ (congrArg (fun b => AV.v (Value.bool b)) hg7_4) rfl),
                st_run 4 42 true rfl rfl rfl (List.Mem.head _) (op_fieldAddr _ _ _ _ 2 0 _ Try.underlying24 rfl sz4 rfl rfl (by decide)),
                st_run 4 42 true rfl rfl rfl (List.Mem.head _) (op_load _ _ _ _ _ _ Try.underlying4 rfl rfl rfl (Nat.le_of_ble_eq_true rfl) rfl rfl rfl),
                st_plain rfl (op_pick _ _ true _ rfl rfl),
                trivial⟩ ?_
            exact hl60 _ (Option.some.inj h).symm
          · refine ht_seqR hn (El := [_, _, _, _, _, _, (38, .v (.int .i64 s39)), (39, .ptr 2 4), (40, .v (.int .i64 s.Next)), (41, .v (.bool ((decide (s39 ≤ s.Next))))), (42, .v (.bool false)), (43, .v undef), (44, .v undef), (45, .v (.bool false))]) (init := [0, 1, 2, 3, 4, 5]) (fin := [0, 1, 2, 3, 4, 5, 13]) (sps := [⟨[5], [], [6], [(.slot 38)]⟩, ⟨[0], [], [7], [(.slot 39)]⟩, ⟨[7, 0], [], [8], [(.slot 40)]⟩, ⟨[6, 8], [], [9], [(.slot 41)]⟩, ⟨[9], [], [10], [(.slot 42)]⟩, ⟨[10], [], [11], [(.slot 43)]⟩, ⟨[10], [], [12], [(.slot 44)]⟩, ⟨[10], [], [13], [(.slot 45)]⟩]) (es' := [(_, _), (_, _), (_, _), (_, _), (_, _), (_, _), (45, .v (.bool false))]) (by kernel_rfl) rfl rfl
              ⟨st_plain rfl (op_move _ _ _ _ rfl rfl),
                st_plain rfl (op_fieldAddr _ _ _ _ 2 0 _ Try.underlying24 rfl sz3 rfl rfl (by decide)),
                st_plain rfl (op_load _ _ _ _ _ _ Try.underlying3 rfl rfl rfl (Nat.le_of_ble_eq_true rfl) rfl rfl rfl),
                st_plain rfl (op_bin _ _ _ _ _ rfl rfl rfl),
                st_plain rfl (op_move _ _ _ _ (congrArg (fun b => AV.v (Value.bool b)) hg7_4) rfl),
                st_skip 4 42 _ true rfl rfl rfl rfl (List.Mem.head _),
                st_skip 4 42 _ true rfl rfl rfl rfl (List.Mem.head _),
                st_plain rfl (op_pick _ _ false _ rfl rfl),
                trivial⟩ ?_
            exact hl60 _ (Option.some.inj h).symm
  · intro u3 h hl4 hr5
    refine cond_some h (fun hg1_4 h => ?_) (fun hg1_4 h => ?_)
    · refine ht_seqR hn (El := (_ :: _ :: (9, .ptr 2 1) :: (10, .fl .shr 1 (List.map (Value.int .u8) s.Data)) :: (11, .v (.int .i64 (s.Data.length : Int))) :: (12, .v (.bool ((decide (5100 < (s.Data.length : Int)))))) :: (13, .v (.bool true)) :: (14, .v undef) :: (15, .v undef) :: (16, .v undef) :: (17, .v (.bool true)) :: (18, .v (.bool true)) :: (19, .v undef) :: (20, .v undef) :: (21, .v (.bool true)) :: [])) (init := [0, 1]) (fin := [0, 1, 14]) (sps := [⟨[1], [], [2], [(.slot 9)]⟩, ⟨[2, 1], [], [3], [(.slot 10)]⟩, ⟨[3], [], [4], [(.slot 11)]⟩, ⟨[4], [], [5], [(.slot 12)]⟩, ⟨[5], [], [6], [(.slot 13)]⟩, ⟨[6], [], [7], [(.slot 14)]⟩, ⟨[6], [], [8], [(.slot 15)]⟩, ⟨[6], [], [9], [(.slot 16)]⟩, ⟨[6], [], [10], [(.slot 17)]⟩, ⟨[10], [], [11], [(.slot 18)]⟩, ⟨[11], [], [12], [(.slot 19)]⟩, ⟨[11], [], [13], [(.slot 20)]⟩, ⟨[11], [], [14], [(.slot 21)]⟩]) (es' := [(_, _), (_, _), (21, .v (.bool true))]) (by kernel_rfl) rfl rfl
        ⟨st_plain rfl (op_fieldAddr _ _ _ _ 2 0 _ Try.underlying24 rfl sz22 rfl rfl (by decide)),
          st_plain rfl (op_load _ _ _ _ _ _ Try.underlying22 rfl rfl rfl (Nat.le_of_ble_eq_true rfl) rfl rfl rfl),
          st_plain rfl (op_len_fl _ _ _ Try.underlying22 rfl (by decide) (map_len _)),
          st_plain rfl (op_bin _ _ _ _ _ rfl rfl rfl),
          st_plain rfl (op_move _ _ _ _ (congrArg (fun b => AV.v (Value.bool b)) hg1_4) rfl),
          st_skip 4 13 _ false rfl rfl rfl rfl (List.Mem.head _),
          st_skip 4 13 _ false rfl rfl rfl rfl (List.Mem.head _),
          st_skip 4 13 _ false rfl rfl rfl rfl (List.Mem.head _),
          st_plain rfl (op_pick _ _ true _ rfl rfl),
          st_plain rfl (op_move _ _ _ _ rfl rfl),
          st_skip 9 18 _ false rfl rfl rfl rfl (List.Mem.head _),
          st_skip 9 18 _ false rfl rfl rfl rfl (List.Mem.head _),
          st_plain rfl (op_pick _ _ true _ rfl rfl),
          trivial⟩ ?_
      exact hl4 _ (Option.some.inj h).symm
    · obtain ⟨v1, hv1, h⟩ := bind_some h
      refine cond_some h (fun hg1_9 h => ?_) (fun hg1_9 h => ?_)
      · refine ht_seqR hn (El := (_ :: _ :: (9, .ptr 2 1) :: (10, .fl .shr 1 (List.map (Value.int .u8) s.Data)) :: (11, .v (.int .i64 (s.Data.length : Int))) :: (12, .v (.bool ((decide (5100 < (s.Data.length : Int)))))) :: (13, .v (.bool false)) :: (14, .agg [.v (.int .i64 s.Number), .fl .shr 1 (List.map (Value.int .u8) s.Data), .v (.bool s.Ready), .v (.int .i64 s.Base), .v (.int .i64 s.Next), .v (.int .i64 s.Wait), .v (.bool s.Over)]) :: (15, .v (.bool v1)) :: (16, .v (.bool (!v1))) :: (17, .v (.bool (!v1))) :: (18, .v (.bool true)) :: (19, .v undef) :: (20, .v undef) :: (21, .v (.bool true)) :: [])) (init := [0, 1]) (fin := [0, 1, 14]) (sps := [⟨[1], [], [2], [(.slot 9)]⟩, ⟨[2, 1], [], [3], [(.slot 10)]⟩, ⟨[3], [], [4], [(.slot 11)]⟩, ⟨[4], [], [5], [(.slot 12)]⟩, ⟨[5], [], [6], [(.slot 13)]⟩, ⟨[6, 1], [], [7], [(.slot 14)]⟩, ⟨[6, 7], [], [8], [(.slot 15)]⟩, ⟨[6, 8], [], [9], [(.slot 16)]⟩, ⟨[6, 9], [], [10], [(.slot 17)]⟩, ⟨[10], [], [11], [(.slot 18)]⟩, ⟨[11], [], [12], [(.slot 19)]⟩, ⟨[11], [], [13], [(.slot 20)]⟩, ⟨[11], [], [14], [(.slot 21)]⟩]) (es' := [(_, _), (_, _), (21, .v (.bool true))]) (by kernel_rfl) rfl rfl
          ⟨st_plain rfl (op_fieldAddr _ _ _ _ 2 0 _ Try.underlying24 rfl sz22 rfl rfl (by decide)),
            st_plain rfl (op_load _ _ _ _ _ _ Try.underlying22 rfl rfl rfl (Nat.le_of_ble_eq_true rfl) rfl rfl rfl),
            st_plain rfl (op_len_fl _ _ _ Try.underlying22 rfl (by decide) (map_len _)),
            st_plain rfl (op_bin _ _ _ _ _ rfl rfl rfl),
            st_plain rfl (op_move _ _ _ _ (congrArg (fun b => AV.v (Value.bool b)) hg1_4) rfl),
            st_run 4 13 false rfl rfl rfl (List.Mem.head _) (op_loadA _ _ _ _ _ _ _ Try.underlying24 rfl sz24 rfl rfl (Nat.le_of_ble_eq_true rfl) rfl rfl),
            st_run 4 13 false rfl rfl rfl (List.Mem.head _) (op_call _ _ 13 _ _ rfl Try.call13 rfl (ok_wherryref18_Send s _ hv1) rfl rfl),
            st_run 4 13 false rfl rfl rfl (List.Mem.head _) (op_un _ _ _ _ rfl rfl),
            st_plain rfl (op_pick _ _ false _ rfl rfl),
            st_plain rfl (op_move _ _ _ _ (congrArg (fun b => AV.v (Value.bool b)) hg1_9) rfl),
            st_skip 9 18 _ false rfl rfl rfl rfl (List.Mem.head _),
            st_skip 9 18 _ false rfl rfl rfl rfl (List.Mem.head _),
            st_plain rfl (op_pick _ _ true _ rfl rfl),
            trivial⟩ ?_
        exact hl4 _ (Option.some.inj h).symm
      · refine ht_seqR hn (El := (_ :: _ :: (9, .ptr 2 1) :: (10, .fl .shr 1 (List.map (Value.int .u8) s.Data)) :: (11, .v (.int .i64 (s.Data.length : Int))) :: (12, .v (.bool ((decide (5100 < (s.Data.length : Int)))))) :: (13, .v (.bool false)) :: (14, .agg [.v (.int .i64 s.Number), .fl .shr 1 (List.map (Value.int .u8) s.Data), .v (.bool s.Ready), .v (.int .i64 s.Base), .v (.int .i64 s.Next), .v (.int .i64 s.Wait), .v (.bool s.Over)]) :: (15, .v (.bool v1)) :: (16, .v (.bool (!v1))) :: (17, .v (.bool (!v1))) :: (18, .v (.bool false)) :: (19, .ptr 2 6) :: (20, .v (.bool s.Over)) :: (21, .v (.bool s.Over)) :: [])) (init := [0, 1]) (fin := [0, 1, 14]) (sps := [⟨[1], [], [2], [(.slot 9)]⟩, ⟨[2, 1], [], [3], [(.slot 10)]⟩, ⟨[3], [], [4], [(.slot 11)]⟩, ⟨[4], [], [5], [(.slot 12)]⟩, ⟨[5], [], [6], [(.slot 13)]⟩, ⟨[6, 1], [], [7], [(.slot 14)]⟩, ⟨[6, 7], [], [8], [(.slot 15)]⟩, ⟨[6, 8], [], [9], [(.slot 16)]⟩, ⟨[6, 9], [], [10], [(.slot 17)]⟩, ⟨[10], [], [11], [(.slot 18)]⟩, ⟨[11, 1], [], [12], [(.slot 19)]⟩, ⟨[11, 12, 1], [], [13], [(.slot 20)]⟩, ⟨[11, 13], [], [14], [(.slot 21)]⟩]) (es' := [(_, _), (_, _), (21, .v (.bool s.Over))]) (by kernel_rfl) rfl rfl
          ⟨st_plain rfl (op_fieldAddr _ _ _ _ 2 0 _ Try.underlying24 rfl sz22 rfl rfl (by decide)),
            st_plain rfl (op_load _ _ _ _ _ _ Try.underlying22 rfl rfl rfl (Nat.le_of_ble_eq_true rfl) rfl rfl rfl),
            st_plain rfl (op_len_fl _ _ _ Try.underlying22 rfl (by decide) (map_len _)),
            st_plain rfl (op_bin _ _ _ _ _ rfl rfl rfl),
            st_plain rfl (op_move _ _ _ _ (congrArg (fun b => AV.v (Value.bool b)) hg1_4) rfl),
            st_run 4 13 false rfl rfl rfl (List.Mem.head _) (op_loadA _ _ _ _ _ _ _ Try.underlying24 rfl sz24 rfl rfl (Nat.le_of_ble_eq_true rfl) rfl rfl),
            st_run 4 13 false rfl rfl rfl (List.Mem.head _) (op_call _ _ 13 _ _ rfl Try.call13 rfl (ok_wherryref18_Send s _ hv1) rfl rfl),
            st_run 4 13 false rfl rfl rfl (List.Mem.head _) (op_un _ _ _ _ rfl rfl),
            st_plain rfl (op_pick _ _ false _ rfl rfl),
            st_plain rfl (op_move _ _ _ _ (congrArg (fun b => AV.v (Value.bool b)) hg1_9) rfl),
            st_run 9 18 false rfl rfl rfl (List.Mem.head _) (op_fieldAddr _ _ _ _ 2 0 _ Try.underlying24 rfl sz4 rfl rfl (by decide)),
            st_run 9 18 false rfl rfl rfl (List.Mem.head _) (op_load _ _ _ _ _ _ Try.underlying4 rfl rfl rfl (Nat.le_of_ble_eq_true rfl) rfl rfl rfl),
            st_plain rfl (op_pick _ _ false _ rfl rfl),
            trivial⟩ ?_
        exact hl4 _ (Option.some.inj h).symm

set_option maxHeartbeats 1000000 in
theorem ok_wherrylaw21_SenderReady (s : T_Send) (piece : Int) (r : Bool) (h : Sh.wherrylaw21_SenderReady s piece = some r) : FnOK Try.prog 9 [.agg [.v (.int .i64 s.Number), .fl .shr 1 (List.map (Value.int .u8) s.Data), .v (.bool s.Ready), .v (.int .i64 s.Base), .v (.int .i64 s.Next), .v (.int .i64 s.Wait), .v (.bool s.Over)], .v (.int .i64 piece)] (.v (.bool r)) := by
  unfold Sh.wherrylaw21_SenderReady at h
  refine fn_ok Try.func9 rfl (Nat.le_of_ble_eq_true rfl) rfl rfl fun g0 hn hio => ?_
  refine ht_seq ?_
  refine ht_seqR hn (El := [_, _, (2, .box 24 [.v (.int .i64 s.Number), .fl .shr 1 (List.map (Value.int .u8) s.Data), .v (.bool s.Ready), .v (.int .i64 s.Base), .v (.int .i64 s.Next), .v (.int .i64 s.Wait), .v (.bool s.Over)]), (4, .v (.bool false))]) (init := [0, 1]) (fin := [1, 2]) (sps := [⟨[0], [], [2], [(.slot 2)]⟩, ⟨[], [], [3], [(.slot 4)]⟩]) (es' := [(_, _), (2, .box 24 [.v (.int .i64 s.Number), .fl .shr 1 (List.map (Value.int .u8) s.Data), .v (.bool s.Ready), .v (.int .i64 s.Base), .v (.int .i64 s.Next), .v (.int .i64 s.Wait), .v (.bool s.Over)])]) (by kernel_rfl) rfl rfl
    ⟨st_plain rfl (op_box _ _ _ _ rfl rfl rfl),
      st_plain rfl (op_assign _ _ _ _ rfl rfl),
      trivial⟩ ?_
  refine pt_then ?_
  refine ht_seq ?_
  refine ht_seq ?_
  refine ht_joinS h (fun (s2 : Bool) => [(1, .v (.int .i64 piece)), (2, .box 24 [.v (.int .i64 s.Number), .fl .shr 1 (List.map (Value.int .u8) s.Data), .v (.bool s.Ready), .v (.int .i64 s.Base), .v (.int .i64 s.Next), .v (.int .i64 s.Wait), .v (.bool s.Over)]), (28, .v (.bool s2))]) ?_ ?_
  · rintro s2 h
    refine pt_then ?_
    refine ht_cond _ rfl (fun hb6 => ?_) (fun hb6 => ?_)
    · have h := cond_t hb6 h
      refine ht_seq ?_
      refine ht_seqR hn (El := [_, _, _, (4, .v (.bool true))]) (init := [0, 1, 2]) (fin := [3]) (sps := [⟨[], [], [3], [(.slot 4)]⟩]) (es' := [(4, .v (.bool true))]) (by kernel_rfl) rfl rfl
        ⟨st_plain rfl (op_assign _ _ _ _ rfl rfl),
          trivial⟩ ?_
      refine pt_then ?_
      refine ht_ret ?_
      refine pt_r_then ?_
      obtain rfl := Option.some.inj h
      exact pt_ret hio rfl (.tmp _ _ .nil) rfl rfl
    · have h := cond_f hb6 h
      refine ht_skip ?_
      refine pt_then ?_
      refine ht_seq ?_
      obtain ⟨v7, hv7, h⟩ := bind_some h
      refine ht_seqR hn (El := [_, _, _, (29, .agg [.v (.int .i64 s.Number), .fl .shr 1 (List.map (Value.int .u8) s.Data), .v (.bool s.Ready), .v (.int .i64 s.Base), .v (.int .i64 s.Next), .v (.int .i64 s.Wait), .v (.bool s.Over)]), (30, .v (.int .i64 v7)), (5, .v (.int .i64 v7))]) (init := [0, 1, 2]) (fin := [0, 1, 5]) (sps := [⟨[1], [], [3], [(.slot 29)]⟩, ⟨[3], [], [4], [(.slot 30)]⟩, ⟨[4], [], [5], [(.slot 5)]⟩]) (es' := [(_, _), (_, _), (5, .v (.int .i64 v7))]) (by kernel_rfl) rfl rfl
        ⟨st_plain rfl (op_loadA _ _ _ _ _ _ _ Try.underlying24 rfl sz24 rfl rfl (Nat.le_of_ble_eq_true rfl) rfl rfl),
          st_plain rfl (op_call _ _ 18 _ _ rfl Try.call18 rfl (ok_sender_Pieces s _ hv7) rfl rfl),
          st_plain rfl (op_assign _ _ _ _ rfl rfl),
          trivial⟩ ?_
      refine pt_then ?_
      refine ht_seq ?_
      refine ht_seq ?_
      refine ht_seqR hn (El := [_, _, _, (31, .v (.int .i64 v7)), (32, .v (.bool ((decide (v7 < 1)))))]) (init := [0, 1, 2]) (fin := [0, 1, 2, 4]) (sps := [⟨[2], [], [3], [(.slot 31)]⟩, ⟨[3], [], [4], [(.slot 32)]⟩]) (es' := [(_, _), (_, _), (_, _), (32, .v (.bool ((decide (v7 < 1)))))]) (by kernel_rfl) rfl rfl
        ⟨st_plain rfl (op_move _ _ _ _ rfl rfl),
          st_plain rfl (op_bin _ _ _ _ _ rfl rfl rfl),
          trivial⟩ ?_
      refine pt_then ?_
      refine ht_cond _ rfl (fun hb8 => ?_) (fun hb8 => ?_)
      · have h := cond_t hb8 h
        refine ht_seq ?_
        refine ht_seqR hn (El := [_, _, _, _, (4, .v (.bool false))]) (init := [0, 1, 2, 3]) (fin := [4]) (sps := [⟨[], [], [4], [(.slot 4)]⟩]) (es' := [(4, .v (.bool false))]) (by kernel_rfl) rfl rfl
          ⟨st_plain rfl (op_assign _ _ _ _ rfl rfl),
            trivial⟩ ?_
        refine pt_then ?_
        refine ht_ret ?_
        refine pt_r_then ?_
        obtain rfl := Option.some.inj h
        exact pt_ret hio rfl (.tmp _ _ .nil) rfl rfl
      · have h := cond_f hb8 h
        refine ht_skip ?_
        refine pt_then ?_
        refine ht_seq ?_
        obtain ⟨v9, hv9, h⟩ := bind_some h
        obtain ⟨v10, hv10, h⟩ := bind_some h
        obtain ⟨v11, hv11, h⟩ := bind_some h
        obtain ⟨v12, hv12, h⟩ := bind_some h
        obtain ⟨v13, hv13, h⟩ := bind_some h
        refine ht_seqR hn (El := [_, _, _, _, (33, .v (.int .i64 piece)), (34, .v (.int .u64 v9)), (35, .v (.int .i64 v7)), (36, .v (.int .i64 v10)), (37, .v (.int .u64 v11)), (38, .v (.int .u64 v12)), (39, .v (.int .i64 v13)), (1, .v (.int .i64 v13))]) (init := [0, 1, 2, 3]) (fin := [1, 2, 11]) (sps := [⟨[0], [], [4], [(.slot 33)]⟩, ⟨[4], [], [5], [(.slot 34)]⟩, ⟨[2], [], [6], [(.slot 35)]⟩, ⟨[6], [], [7], [(.slot 36)]⟩, ⟨[7], [], [8], [(.slot 37)]⟩, ⟨[5, 8], [], [9], [(.slot 38)]⟩, ⟨[9], [], [10], [(.slot 39)]⟩, ⟨[10], [0], [11], [(.slot 1)]⟩]) (es' := [(_, _), (_, _), (1, .v (.int .i64 v13))]) (by kernel_rfl) rfl rfl
          ⟨st_plain rfl (op_move _ _ _ _ rfl rfl),
            st_plain rfl ((Option.some.inj hv9) ▸ op_conv _ _ _ Try.underlying3 Try.underlying51 rfl),
            st_plain rfl (op_move _ _ _ _ rfl rfl),
            st_plain rfl (op_bin _ _ _ _ _ rfl rfl (ibind (f := Value.int .i64) (Option.some.inj hv10))),
            st_plain rfl ((Option.some.inj hv11) ▸ op_conv _ _ _ Try.underlying3 Try.underlying51 rfl),
            st_plain rfl (op_bin _ _ _ _ _ rfl rfl (rem_ok hv12)),
            st_plain rfl ((Option.some.inj hv13) ▸ op_conv _ _ _ Try.underlying51 Try.underlying3 rfl),
            st_plain rfl (LOp.drop [_] (op_assign _ _ _ _ rfl rfl)),
            trivial⟩ ?_
        refine pt_then ?_
        refine ht_seq ?_
        obtain ⟨v14, hv14, h⟩ := bind_some h
        obtain ⟨v15, hv15, h⟩ := bind_some h
        refine ht_seqR hn (El := [_, _, _, (40, .v (.int .i64 v13)), (41, .v (.int .i64 v14)), (42, .ptr 2 1), (43, .fl .shr 1 (List.map (Value.int .u8) s.Data)), (44, .v (.int .i64 (s.Data.length : Int))), (45, .v (.int .i64 v15)), (6, .v (.int .i64 v15))]) (init := [0, 1, 2]) (fin := [0, 1, 2, 9]) (sps := [⟨[2], [], [3], [(.slot 40)]⟩, ⟨[3], [], [4], [(.slot 41)]⟩, ⟨[0], [], [5], [(.slot 42)]⟩, ⟨[5, 0], [], [6], [(.slot 43)]⟩, ⟨[6], [], [7], [(.slot 44)]⟩, ⟨[4, 7], [], [8], [(.slot 45)]⟩, ⟨[8], [], [9], [(.slot 6)]⟩]) (es' := [(_, _), (_, _), (_, _), (6, .v (.int .i64 v15))]) (by kernel_rfl) rfl rfl
          ⟨st_plain rfl (op_move _ _ _ _ rfl rfl),
            st_plain rfl (op_bin _ _ _ _ _ rfl rfl (ibind (f := Value.int .i64) (Option.some.inj hv14))),
            st_plain rfl (op_fieldAddr _ _ _ _ 2 0 _ Try.underlying24 rfl sz22 rfl rfl (by decide)),
            st_plain rfl (op_load _ _ _ _ _ _ Try.underlying22 rfl rfl rfl (Nat.le_of_ble_eq_true rfl) rfl rfl rfl),
            st_plain rfl (op_len_fl _ _ _ Try.underlying22 rfl (by decide) (map_len _)),
            st_plain rfl ((Option.some.inj hv15) ▸ op_min _ _ _ _ rfl rfl),
            st_plain rfl (op_assign _ _ _ _ rfl rfl),
            trivial⟩ ?_
        refine pt_then ?_
        refine ht_seq ?_
        obtain ⟨v16, hv16, h⟩ := bind_some h
        refine ht_seqR hn (El := (_ :: _ :: _ :: _ :: (47, .agg [.v (.int .i64 s.Number), .fl .shr 1 (List.map (Value.int .u8) s.Data), .v (.bool s.Ready), .v (.int .i64 s.Base), .v (.int .i64 s.Next), .v (.int .i64 s.Wait), .v (.bool s.Over)]) :: (48, .ptr 2 0) :: (49, .v (.int .i64 s.Number)) :: (50, .v (.int .i64 v15)) :: (51, .agg [.v (.int .i64 2), .v (.int .i64 s.Number), .v (.int .i64 v15), .v (.int .i64 0), .v (.slice none 0 0)]) :: (52, .tup [.agg [.v (.int .i64 v16.1.Number), .fl (.own 5) 1 (List.map (Value.int .u8) v16.1.Data), .v (.bool v16.1.Ready), .v (.int .i64 v16.1.Base), .v (.int .i64 v16.1.Next), .v (.int .i64 v16.1.Wait), .v (.bool v16.1.Over)], .v (.int .i64 v16.2)]) :: (46, .tup [.agg [.v (.int .i64 v16.1.Number), .fl (.own 5) 1 (List.map (Value.int .u8) v16.1.Data), .v (.bool v16.1.Ready), .v (.int .i64 v16.1.Base), .v (.int .i64 v16.1.Next), .v (.int .i64 v16.1.Wait), .v (.bool v16.1.Over)], .v (.int .i64 v16.2)]) :: (53, .agg [.v (.int .i64 v16.1.Number), .fl (.own 5) 1 (List.map (Value.int .u8) v16.1.Data), .v (.bool v16.1.Ready), .v (.int .i64 v16.1.Base), .v (.int .i64 v16.1.Next), .v (.int .i64 v16.1.Wait), .v (.bool v16.1.Over)]) :: (46, .tup [.any, .v (.int .i64 v16.2)]) :: (54, .v (.int .i64 v16.2)) :: (7, .box 24 [.v (.int .i64 0), .v (.slice none 0 0), .v (.bool false), .v (.int .i64 0), .v (.int .i64 0), .v (.int .i64 0), .v (.bool false)]) :: (7, .box 24 [.v (.int .i64 v16.1.Number), .fl (.own 5) 1 (List.map (Value.int .u8) v16.1.Data), .v (.bool v16.1.Ready), .v (.int .i64 v16.1.Base), .v (.int .i64 v16.1.Next), .v (.int .i64 v16.1.Wait), .v (.bool v16.1.Over)]) :: (8, .v (.int .i64 v16.2)) :: [])) (init := [0, 1, 2, 3]) (fin := [0, 1, 2, 15, 16]) (sps := [⟨[0], [], [4], [(.slot 47)]⟩, ⟨[0], [], [5], [(.slot 48)]⟩, ⟨[5, 0], [], [6], [(.slot 49)]⟩, ⟨[3], [], [7], [(.slot 50)]⟩, ⟨[6, 7], [], [8], [(.slot 51)]⟩, ⟨[4, 8], [], [9], [(.slot 52)]⟩, ⟨[], [9], [10], [(.slot 46)]⟩, ⟨[], [10], [12, 11], [(.slot 53)]⟩, ⟨[12], [], [13], [(.slot 54)]⟩, ⟨[], [], [14], [(.slot 7)]⟩, ⟨[], [11, 14], [15], [.cell 7 0, .cell 7 1, .cell 7 2, .cell 7 3, .cell 7 4, .cell 7 5, .cell 7 6]⟩, ⟨[13], [], [16], [(.slot 8)]⟩]) (es' := [(_, _), (_, _), (_, _), (7, .box 24 [.v (.int .i64 v16.1.Number), .fl (.own 5) 1 (List.map (Value.int .u8) v16.1.Data), .v (.bool v16.1.Ready), .v (.int .i64 v16.1.Base), .v (.int .i64 v16.1.Next), .v (.int .i64 v16.1.Wait), .v (.bool v16.1.Over)]), (8, .v (.int .i64 v16.2))]) (by kernel_rfl) rfl rfl
          ⟨st_plain rfl (op_loadA _ _ _ _ _ _ _ Try.underlying24 rfl sz24 rfl rfl (Nat.le_of_ble_eq_true rfl) rfl rfl),
            st_plain rfl (op_fieldAddr _ _ _ _ 2 0 _ Try.underlying24 rfl sz3 rfl rfl (by decide)),
            st_plain rfl (op_load _ _ _ _ _ _ Try.underlying3 rfl rfl rfl (Nat.le_of_ble_eq_true rfl) rfl rfl rfl),
            st_plain rfl (op_move _ _ _ _ rfl rfl),
            st_plain rfl (op_build _ _ _ _ [1, 1, 1, 1, 1] _ _ Try.underlying26 zr26 (fs26 _ Try.underlying26) (.copy _ (.copy _ (.copy _ Src.nil))) rfl rfl rfl),
            st_plain rfl (op_call _ _ 15 _ _ rfl Try.call15 rfl ((ok_sender_Hear s (T_Frame.mk 2 s.Number v15 0 []) _ hv16).args (subs_cons (sub_refl _) (subs_cons (sub_agg (subs_cons (sub_refl _) (subs_cons (sub_refl _) (subs_cons (sub_refl _) (subs_cons (sub_refl _) (subs_cons (sub_nil_shr 1) (subs_nil))))))) (subs_nil)))) rfl rfl),
            st_plain rfl (op_move_take _ _ _ _ rfl),
            st_plain rfl (op_extract_take _ _ _ _ _ rfl (Nat.le_of_ble_eq_true rfl) rfl rfl (by decide) rfl),
            st_plain rfl (op_extract _ _ _ _ _ rfl rfl (Nat.le_of_ble_eq_true rfl) rfl rfl),
            st_plain rfl (op_alloc _ _ zr24),
            st_plain rfl (op_store_take _ _ _ _ _ _ _ _ sz24 rfl rfl rfl (Nat.le_of_ble_eq_true rfl) rfl rfl),
            st_plain rfl (op_assign _ _ _ _ rfl rfl),
            trivial⟩ ?_
        refine pt_then ?_
        refine ht_seq ?_
        refine ht_seq ?_
        refine ht_joinS h (fun (s17 : Bool) => [(2, .box 24 [.v (.int .i64 s.Number), .fl .shr 1 (List.map (Value.int .u8) s.Data), .v (.bool s.Ready), .v (.int .i64 s.Base), .v (.int .i64 s.Next), .v (.int .i64 s.Wait), .v (.bool s.Over)]), (5, .v (.int .i64 v7)), (1, .v (.int .i64 v13)), (7, .box 24 [.v (.int .i64 v16.1.Number), .fl (.own 5) 1 (List.map (Value.int .u8) v16.1.Data), .v (.bool v16.1.Ready), .v (.int .i64 v16.1.Base), .v (.int .i64 v16.1.Next), .v (.int .i64 v16.1.Wait), .v (.bool v16.1.Over)]), (78, .v (.bool s17))]) ?_ ?_
        · rintro s17 h
          refine pt_then ?_
          refine ht_cond _ rfl (fun hb21 => ?_) (fun hb21 => ?_)
          · have h := cond_t hb21 h
            refine ht_seq ?_
            refine ht_seqR hn (El := [_, _, _, _, _, (4, .v (.bool false))]) (init := [0, 1, 2, 3, 4]) (fin := [5]) (sps := [⟨[], [], [5], [(.slot 4)]⟩]) (es' := [(4, .v (.bool false))]) (by kernel_rfl) rfl rfl
              ⟨st_plain rfl (op_assign _ _ _ _ rfl rfl),
                trivial⟩ ?_
            refine pt_then ?_
            refine ht_ret ?_
            refine pt_r_then ?_
            obtain rfl := Option.some.inj h
            exact pt_ret hio rfl (.tmp _ _ .nil) rfl rfl
          · have h := cond_f hb21 h
            refine ht_skip ?_
            refine pt_then ?_
            refine ht_seq ?_
            obtain ⟨v22, hv22, h⟩ := bind_some h
            refine ht_seqR hn (El := (_ :: _ :: _ :: _ :: _ :: (80, .agg [.v (.int .i64 v16.1.Number), .fl (.own 5) 1 (List.map (Value.int .u8) v16.1.Data), .v (.bool v16.1.Ready), .v (.int .i64 v16.1.Base), .v (.int .i64 v16.1.Next), .v (.int .i64 v16.1.Wait), .v (.bool v16.1.Over)]) :: (81, .tup [.agg [.v (.int .i64 v22.1.Number), .fl (.own 5) 1 (List.map (Value.int .u8) v22.1.Data), .v (.bool v22.1.Ready), .v (.int .i64 v22.1.Base), .v (.int .i64 v22.1.Next), .v (.int .i64 v22.1.Wait), .v (.bool v22.1.Over)], .fr (.own 26) false 5 (List.flatten (List.map T_Frame.ienc v22.2.1)), .v (.int .i64 v22.2.2)]) :: (79, .tup [.agg [.v (.int .i64 v22.1.Number), .fl (.own 5) 1 (List.map (Value.int .u8) v22.1.Data), .v (.bool v22.1.Ready), .v (.int .i64 v22.1.Base), .v (.int .i64 v22.1.Next), .v (.int .i64 v22.1.Wait), .v (.bool v22.1.Over)], .fr (.own 26) false 5 (List.flatten (List.map T_Frame.ienc v22.2.1)), .v (.int .i64 v22.2.2)]) :: (82, .agg [.v (.int .i64 v22.1.Number), .fl (.own 5) 1 (List.map (Value.int .u8) v22.1.Data), .v (.bool v22.1.Ready), .v (.int .i64 v22.1.Base), .v (.int .i64 v22.1.Next), .v (.int .i64 v22.1.Wait), .v (.bool v22.1.Over)]) :: (79, .tup [.any, .fr (.own 26) false 5 (List.flatten (List.map T_Frame.ienc v22.2.1)), .v (.int .i64 v22.2.2)]) :: (83, .fr (.own 26) false 5 (List.flatten (List.map T_Frame.ienc v22.2.1))) :: (79, .tup [.any, .any, .v (.int .i64 v22.2.2)]) :: (84, .v (.int .i64 v22.2.2)) :: (9, .box 24 [.v (.int .i64 0), .v (.slice none 0 0), .v (.bool false), .v (.int .i64 0), .v (.int .i64 0), .v (.int .i64 0), .v (.bool false)]) :: (9, .box 24 [.v (.int .i64 v22.1.Number), .fl (.own 5) 1 (List.map (Value.int .u8) v22.1.Data), .v (.bool v22.1.Ready), .v (.int .i64 v22.1.Base), .v (.int .i64 v22.1.Next), .v (.int .i64 v22.1.Wait), .v (.bool v22.1.Over)]) :: (10, .fr (.own 26) false 5 (List.flatten (List.map T_Frame.ienc v22.2.1))) :: (11, .v (.int .i64 v22.2.2)) :: [])) (init := [0, 1, 2, 3, 4]) (fin := [0, 1, 2, 14, 15, 16]) (sps := [⟨[], [3], [5], [(.slot 80)]⟩, ⟨[5], [], [6], [(.slot 81)]⟩, ⟨[], [6], [7], [(.slot 79)]⟩, ⟨[], [7], [9, 8], [(.slot 82)]⟩, ⟨[], [9], [11, 10], [(.slot 83)]⟩, ⟨[11], [], [12], [(.slot 84)]⟩, ⟨[], [], [13], [(.slot 9)]⟩, ⟨[], [8, 13], [14], [.cell 9 0, .cell 9 1, .cell 9 2, .cell 9 3, .cell 9 4, .cell 9 5, .cell 9 6]⟩, ⟨[], [10], [15], [(.slot 10)]⟩, ⟨[12], [], [16], [(.slot 11)]⟩]) (es' := [(_, _), (_, _), (_, _), (9, .box 24 [.v (.int .i64 v22.1.Number), .fl (.own 5) 1 (List.map (Value.int .u8) v22.1.Data), .v (.bool v22.1.Ready), .v (.int .i64 v22.1.Base), .v (.int .i64 v22.1.Next), .v (.int .i64 v22.1.Wait), .v (.bool v22.1.Over)]), (10, .fr (.own 26) false 5 (List.flatten (List.map T_Frame.ienc v22.2.1))), (11, .v (.int .i64 v22.2.2))]) (by kernel_rfl) rfl rfl
              ⟨st_plain rfl (op_loadA_take _ _ _ _ Try.underlying24 rfl sz24 rfl rfl),
                st_plain rfl (op_call _ _ 14 _ _ rfl Try.call14 rfl (ok_sender_Tick v16.1 _ hv22) rfl rfl),
                st_plain rfl (op_move_take _ _ _ _ rfl),
                st_plain rfl (op_extract_take _ _ _ _ _ rfl (Nat.le_of_ble_eq_true rfl) rfl rfl (by decide) rfl),
                st_plain rfl (op_extract_take _ _ _ _ _ rfl (Nat.le_of_ble_eq_true rfl) rfl rfl (by decide) rfl),
                st_plain rfl (op_extract _ _ _ _ _ rfl rfl (Nat.le_of_ble_eq_true rfl) rfl rfl),
                st_plain rfl (op_alloc _ _ zr24),
                st_plain rfl (op_store_take _ _ _ _ _ _ _ _ sz24 rfl rfl rfl (Nat.le_of_ble_eq_true rfl) rfl rfl),
                st_plain rfl (op_assign_take _ _ _ _ rfl),
                st_plain rfl (op_assign _ _ _ _ rfl rfl),
                trivial⟩ ?_
            refine pt_then ?_
            refine ht_seq ?_
            refine ht_seq ?_
            refine ht_seqR hn (El := [_, _, _, _, _, _, (85, .v (.int .i64 v22.2.2)), (86, .v (.bool (v22.2.2 != 0)))]) (init := [0, 1, 2, 3, 4, 5]) (fin := [0, 1, 2, 3, 4, 7]) (sps := [⟨[5], [], [6], [(.slot 85)]⟩, ⟨[6], [], [7], [(.slot 86)]⟩]) (es' := [(_, _), (_, _), (_, _), (_, _), (_, _), (86, .v (.bool (v22.2.2 != 0)))]) (by kernel_rfl) rfl rfl
              ⟨st_plain rfl (op_move _ _ _ _ rfl rfl),
                st_plain rfl (op_bin _ _ _ _ _ rfl rfl rfl),
                trivial⟩ ?_
            refine pt_then ?_
            refine ht_cond _ rfl (fun hb23 => ?_) (fun hb23 => ?_)
            · have h := cond_t hb23 h
              refine ht_seq ?_
              refine ht_seqR hn (El := [_, _, _, _, _, _, (4, .v (.bool false))]) (init := [0, 1, 2, 3, 4, 5]) (fin := [6]) (sps := [⟨[], [], [6], [(.slot 4)]⟩]) (es' := [(4, .v (.bool false))]) (by kernel_rfl) rfl rfl
                ⟨st_plain rfl (op_assign _ _ _ _ rfl rfl),
                  trivial⟩ ?_
              refine pt_then ?_
              refine ht_ret ?_
              refine pt_r_then ?_
              obtain rfl := Option.some.inj h
              exact pt_ret hio rfl (.tmp _ _ .nil) rfl rfl
            · have h := cond_f hb23 h
              refine ht_skip ?_
              refine pt_then ?_
              refine ht_seq ?_
              refine ht_seq ?_
              refine ht_seqR hn (El := [_, _, _, _, _, _, (87, .v (.int .i64 v13)), (88, .v (.int .i64 v7)), (89, .v (.bool (v13 == v7)))]) (init := [0, 1, 2, 3, 4, 5]) (fin := [0, 1, 2, 3, 4, 8]) (sps := [⟨[2], [], [6], [(.slot 87)]⟩, ⟨[1], [], [7], [(.slot 88)]⟩, ⟨[6, 7], [], [8], [(.slot 89)]⟩]) (es' := [(_, _), (_, _), (_, _), (_, _), (_, _), (89, .v (.bool (v13 == v7)))]) (by kernel_rfl) rfl rfl
                ⟨st_plain rfl (op_move _ _ _ _ rfl rfl),
                  st_plain rfl (op_move _ _ _ _ rfl rfl),
                  st_plain rfl (op_bin _ _ _ _ _ rfl rfl rfl),
                  trivial⟩ ?_
              refine pt_then ?_
              refine ht_cond _ rfl (fun hb24 => ?_) (fun hb24 => ?_)
              · have h := cond_t hb24 h
                refine ht_seq ?_
                refine ht_joinS h (fun (s28 : Bool) => [(4, .v (.bool s28))]) ?_ ?_
                · rintro s28 h
                  refine pt_then ?_
                  refine ht_ret ?_
                  refine pt_r_then ?_
                  obtain rfl := Option.some.inj h
                  exact pt_ret hio rfl (.tmp _ _ .nil) rfl rfl
                · intro u29 h hl30 hr31
                  refine cond_some h (fun hg15_3 h => ?_) (fun hg15_3 h => ?_)
                  · obtain ⟨v25, hv25, h⟩ := bind_some h
                    obtain ⟨v26, hv26, h⟩ := bind_some h
                    refine cond_some h (fun hg15_10 h => ?_) (fun hg15_10 h => ?_)
                    · obtain ⟨v27, hv27, h⟩ := bind_some h
                      refine ht_seqR hn (El := (_ :: _ :: _ :: _ :: _ :: _ :: (90, .same (.slot 10)) :: (91, .v (.int .i64 (v22.2.1.length : Int))) :: (92, .v (.bool (((v22.2.1.length : Int) == 1)))) :: (93, .v (.bool true)) :: (94, .fr (.own 26) false 5 (List.flatten (List.map T_Frame.ienc v22.2.1))) :: (95, .eref (.slot 94) (v25 * 5)) :: (96, .eref (.slot 94) (v25 * 5 + 0)) :: (97, .v (.int .i64 v26.Kind)) :: (98, .v (.bool (v26.Kind == 1))) :: (99, .v (.bool (v26.Kind == 1))) :: (100, .v (.bool true)) :: (101, .v (.bool v27)) :: (102, .v (.bool v27)) :: (4, .v (.bool v27)) :: [])) (init := [0, 1, 2, 3, 4, 5]) (fin := [19]) (sps := [⟨[4], [], [6], [(.slot 90)]⟩, ⟨[6, 4], [], [7], [(.slot 91)]⟩, ⟨[7], [], [8], [(.slot 92)]⟩, ⟨[8], [], [9], [(.slot 93)]⟩, ⟨[9], [6, 4], [10], [(.slot 94)]⟩, ⟨[9, 10], [], [11], [(.slot 95)]⟩, ⟨[9, 11, 10], [], [12], [(.slot 96)]⟩, ⟨[9, 12, 10], [], [13], [(.slot 97)]⟩, ⟨[9, 13], [], [14], [(.slot 98)]⟩, ⟨[9, 14], [], [15], [(.slot 99)]⟩, ⟨[15], [], [16], [(.slot 100)]⟩, ⟨[16], [], [17], [(.slot 101)]⟩, ⟨[16, 17], [], [18], [(.slot 102)]⟩, ⟨[18], [], [19], [(.slot 4)]⟩]) (es' := [(4, .v (.bool v27))]) (by kernel_rfl) rfl rfl
                        ⟨st_plain rfl (op_move _ _ _ _ rfl rfl),
                          st_plain rfl (op_len_fr _ _ _ Try.underlying31 rfl (by decide) (gflat_len T_Frame.ilen _)),
                          st_plain rfl (op_bin _ _ _ _ _ rfl rfl rfl),
                          st_plain rfl (op_move _ _ _ _ (congrArg (fun b => AV.v (Value.bool b)) hg15_3) rfl),
                          st_run 3 93 true rfl rfl rfl (List.Mem.head _) (LOp.drop [_] (op_move_take _ _ _ _ rfl)),
                          st_run 3 93 true rfl rfl rfl (List.Mem.head _) (op_ix_fr _ _ _ _ _ _ _ _ Try.underlying31 sz26 (by decide) rfl rfl rfl (ix_ok hv25).1 (gflat_lt T_Frame.ilen (ix_ok hv25).2) rfl),
                          st_run 3 93 true rfl rfl rfl (List.Mem.head _) (op_fieldAddr_e _ _ _ _ _ _ _ Try.underlying26 rfl sz3 rfl rfl rfl),
                          st_run 3 93 true rfl rfl rfl (List.Mem.head _) (op_load_fr _ _ _ _ _ _ _ Try.underlying3 rfl rfl rfl (gflat_cell T_Frame.ilen hv26 rfl) (.v _)),
                          st_run 3 93 true rfl rfl rfl (List.Mem.head _) (op_bin _ _ _ _ _ rfl rfl rfl),
                          st_plain rfl (op_pick _ _ true _ rfl rfl),
                          st_plain rfl (op_move _ _ _ _ (congrArg (fun b => AV.v (Value.bool b)) hg15_10) rfl),
                          st_run 10 100 true rfl rfl rfl (List.Mem.head _) (op_call _ _ 21 _ _ rfl Try.call21 rfl (ok_wherrylaw21_wakes  _ hv27) rfl rfl),
                          st_plain rfl (op_pick _ _ true _ rfl rfl),
                          st_plain rfl (op_assign _ _ _ _ rfl rfl),
                          trivial⟩ ?_
                      exact hl30 _ (Option.some.inj h).symm
                    · refine ht_seqR hn (El := (_ :: _ :: _ :: _ :: _ :: _ :: (90, .same (.slot 10)) :: (91, .v (.int .i64 (v22.2.1.length : Int))) :: (92, .v (.bool (((v22.2.1.length : Int) == 1)))) :: (93, .v (.bool true)) :: (94, .fr (.own 26) false 5 (List.flatten (List.map T_Frame.ienc v22.2.1))) :: (95, .eref (.slot 94) (v25 * 5)) :: (96, .eref (.slot 94) (v25 * 5 + 0)) :: (97, .v (.int .i64 v26.Kind)) :: (98, .v (.bool (v26.Kind == 1))) :: (99, .v (.bool (v26.Kind == 1))) :: (100, .v (.bool false)) :: (101, .v undef) :: (102, .v (.bool false)) :: (4, .v (.bool false)) :: [])) (init := [0, 1, 2, 3, 4, 5]) (fin := [19]) (sps := [⟨[4], [], [6], [(.slot 90)]⟩, ⟨[6, 4], [], [7], [(.slot 91)]⟩, ⟨[7], [], [8], [(.slot 92)]⟩, ⟨[8], [], [9], [(.slot 93)]⟩, ⟨[9], [6, 4], [10], [(.slot 94)]⟩, ⟨[9, 10], [], [11], [(.slot 95)]⟩, ⟨[9, 11, 10], [], [12], [(.slot 96)]⟩, ⟨[9, 12, 10], [], [13], [(.slot 97)]⟩, ⟨[9, 13], [], [14], [(.slot 98)]⟩, ⟨[9, 14], [], [15], [(.slot 99)]⟩, ⟨[15], [], [16], [(.slot 100)]⟩, ⟨[16], [], [17], [(.slot 101)]⟩, ⟨[16], [], [18], [(.slot 102)]⟩, ⟨[18], [], [19], [(.slot 4)]⟩]) (es' := [(4, .v (.bool false))]) (by kernel_rfl) rfl rfl
                        ⟨st_plain rfl (op_move _ _ _ _ rfl rfl),
                          st_plain rfl (op_len_fr _ _ _ Try.underlying31 rfl (by decide) (gflat_len T_Frame.ilen _)),
                          st_plain rfl (op_bin _ _ _ _ _ rfl rfl rfl),
                          st_plain rfl (op_move _ _ _ _ (congrArg (fun b => AV.v (Value.bool b)) hg15_3) rfl),
                          st_run 3 93 true rfl rfl rfl (List.Mem.head _) (LOp.drop [_] (op_move_take _ _ _ _ rfl)),
                          st_run 3 93 true rfl rfl rfl (List.Mem.head _) (op_ix_fr _ _ _ _ _ _ _ _ Try.underlying31 sz26 (by decide) rfl rfl rfl (ix_ok hv25).1 (gflat_lt T_Frame.ilen (ix_ok hv25).2) rfl),
                          st_run 3 93 true rfl rfl rfl (List.Mem.head _) (op_fieldAddr_e _ _ _ _ _ _ _ Try.underlying26 rfl sz3 rfl rfl rfl),
                          st_run 3 93 true rfl rfl rfl (List.Mem.head _) (op_load_fr _ _ _ _ _ _ _ Try.underlying3 rfl rfl rfl (gflat_cell T_Frame.ilen hv26 rfl) (.v _)),
                          st_run 3 93 true rfl rfl rfl (List.Mem.head _) (op_bin _ _ _ _ _ rfl rfl rfl),
                          st_plain rfl (op_pick _ _ true _ rfl rfl),
                          st_plain rfl (op_move _ _ _ _ (congrArg (fun b => AV.v (Value.bool b)) hg15_10) rfl),
                          st_skip 10 100 _ true rfl rfl rfl rfl (List.Mem.head _),
                          st_plain rfl (op_pick _ _ false _ rfl rfl),
                          st_plain rfl (op_assign _ _ _ _ rfl rfl),
                          trivial⟩ ?_
                      exact hl30 _ (Option.some.inj h).symm
                  · refine ht_seqR hn (El := (_ :: _ :: _ :: _ :: _ :: _ :: (90, .same (.slot 10)) :: (91, .v (.int .i64 (v22.2.1.length : Int))) :: (92, .v (.bool (((v22.2.1.length : Int) == 1)))) :: (93, .v (.bool false)) :: (94, .v undef) :: (95, .v undef) :: (96, .v undef) :: (97, .v undef) :: (98, .v undef) :: (99, .v (.bool false)) :: (100, .v (.bool false)) :: (101, .v undef) :: (102, .v (.bool false)) :: (4, .v (.bool false)) :: [])) (init := [0, 1, 2, 3, 4, 5]) (fin := [19]) (sps := [⟨[4], [], [6], [(.slot 90)]⟩, ⟨[6, 4], [], [7], [(.slot 91)]⟩, ⟨[7], [], [8], [(.slot 92)]⟩, ⟨[8], [], [9], [(.slot 93)]⟩, ⟨[9], [], [10], [(.slot 94)]⟩, ⟨[9], [], [11], [(.slot 95)]⟩, ⟨[9], [], [12], [(.slot 96)]⟩, ⟨[9], [], [13], [(.slot 97)]⟩, ⟨[9], [], [14], [(.slot 98)]⟩, ⟨[9], [], [15], [(.slot 99)]⟩, ⟨[15], [], [16], [(.slot 100)]⟩, ⟨[16], [], [17], [(.slot 101)]⟩, ⟨[16], [], [18], [(.slot 102)]⟩, ⟨[18], [], [19], [(.slot 4)]⟩]) (es' := [(4, .v (.bool false))]) (by kernel_rfl) rfl rfl
                      ⟨st_plain rfl (op_move _ _ _ _ rfl rfl),
                        st_plain rfl (op_len_fr _ _ _ Try.underlying31 rfl (by decide) (gflat_len T_Frame.ilen _)),
                        st_plain rfl (op_bin _ _ _ _ _ rfl rfl rfl),
                        st_plain rfl (op_move _ _ _ _ (congrArg (fun b => AV.v (Value.bool b)) hg15_3) rfl),
                        st_skip 3 93 _ true rfl rfl rfl rfl (List.Mem.head _),
                        st_skip 3 93 _ true rfl rfl rfl rfl (List.Mem.head _),
                        st_skip 3 93 _ true rfl rfl rfl rfl (List.Mem.head _),
                        st_skip 3 93 _ true rfl rfl rfl rfl (List.Mem.head _),
                        st_skip 3 93 _ true rfl rfl rfl rfl (List.Mem.head _),
                        st_plain rfl (op_pick _ _ false _ rfl rfl),
                        st_plain rfl (op_move _ _ _ _ rfl rfl),
                        st_skip 10 100 _ true rfl rfl rfl rfl (List.Mem.head _),
                        st_plain rfl (op_pick _ _ false _ rfl rfl),
                        st_plain rfl (op_assign _ _ _ _ rfl rfl),
                        trivial⟩ ?_
                    exact hl30 _ (Option.some.inj h).symm
              · have h := cond_f hb24 h
                refine ht_skip ?_
                refine pt_then ?_
                refine ht_seq ?_
                refine ht_seq ?_
                refine ht_joinS h (fun (s35 : Bool) => [(2, .box 24 [.v (.int .i64 s.Number), .fl .shr 1 (List.map (Value.int .u8) s.Data), .v (.bool s.Ready), .v (.int .i64 s.Base), .v (.int .i64 s.Next), .v (.int .i64 s.Wait), .v (.bool s.Over)]), (1, .v (.int .i64 v13)), (10, .fr (.own 26) false 5 (List.flatten (List.map T_Frame.ienc v22.2.1))), (124, .v (.bool s35))]) ?_ ?_
                · rintro s35 h
                  refine pt_then ?_
                  refine ht_cond _ rfl (fun hb39 => ?_) (fun hb39 => ?_)
                  · have h := cond_t hb39 h
                    refine ht_seq ?_
                    refine ht_seqR hn (El := [_, _, _, _, (4, .v (.bool false))]) (init := [0, 1, 2, 3]) (fin := [4]) (sps := [⟨[], [], [4], [(.slot 4)]⟩]) (es' := [(4, .v (.bool false))]) (by kernel_rfl) rfl rfl
                      ⟨st_plain rfl (op_assign _ _ _ _ rfl rfl),
                        trivial⟩ ?_
                    refine pt_then ?_
                    refine ht_ret ?_
                    refine pt_r_then ?_
                    obtain rfl := Option.some.inj h
                    exact pt_ret hio rfl (.tmp _ _ .nil) rfl rfl
                  · have h := cond_f hb39 h
                    refine ht_skip ?_
                    refine pt_then ?_
                    refine ht_seq ?_
                    refine ht_seq ?_
                    refine ht_seqR hn (El := [_, _, _, _, (12, .v (.int .i64 0))]) (init := [0, 1, 2, 3]) (fin := [0, 1, 2, 4]) (sps := [⟨[], [], [4], [(.slot 12)]⟩]) (es' := [(_, _), (_, _), (_, _), (12, .v (.int .i64 0))]) (by kernel_rfl) rfl rfl
                      ⟨st_plain rfl (op_assign _ _ _ _ rfl rfl),
                        trivial⟩ ?_
                    refine pt_then ?_
                    refine ht_loopS h (fun (s70 : Int) => [(2, .box 24 [.v (.int .i64 s.Number), .fl .shr 1 (List.map (Value.int .u8) s.Data), .v (.bool s.Ready), .v (.int .i64 s.Base), .v (.int .i64 s.Next), .v (.int .i64 s.Wait), .v (.bool s.Over)]), (1, .v (.int .i64 v13)), (10, .fr (.own 26) false 5 (List.flatten (List.map T_Frame.ienc v22.2.1))), (12, .v (.int .i64 s70))]) (fun (() : Unit) => [(2, .box 24 [.v (.int .i64 s.Number), .fl .shr 1 (List.map (Value.int .u8) s.Data), .v (.bool s.Ready), .v (.int .i64 s.Base), .v (.int .i64 s.Next), .v (.int .i64 s.Wait), .v (.bool s.Over)])]) ?_ ?_
                    · rintro ⟨⟩ h
                      refine pt_then ?_
                      refine ht_seq ?_
                      obtain ⟨v89, hv89, h⟩ := bind_some h
                      obtain ⟨v90, hv90, h⟩ := bind_some h
                      refine ht_seqR hn (El := (_ :: (182, .agg [.v (.int .i64 s.Number), .fl .shr 1 (List.map (Value.int .u8) s.Data), .v (.bool s.Ready), .v (.int .i64 s.Base), .v (.int .i64 s.Next), .v (.int .i64 s.Wait), .v (.bool s.Over)]) :: (183, .ptr 2 0) :: (184, .v (.int .i64 s.Number)) :: (185, .ptr 2 1) :: (186, .fl .shr 1 (List.map (Value.int .u8) s.Data)) :: (187, .v (.int .i64 (s.Data.length : Int))) :: (188, .v (.int .i64 v89)) :: (189, .agg [.v (.int .i64 2), .v (.int .i64 s.Number), .v (.int .i64 v89), .v (.int .i64 0), .v (.slice none 0 0)]) :: (190, .tup [.agg [.v (.int .i64 v90.1.Number), .fl (.own 5) 1 (List.map (Value.int .u8) v90.1.Data), .v (.bool v90.1.Ready), .v (.int .i64 v90.1.Base), .v (.int .i64 v90.1.Next), .v (.int .i64 v90.1.Wait), .v (.bool v90.1.Over)], .v (.int .i64 v90.2)]) :: (181, .tup [.agg [.v (.int .i64 v90.1.Number), .fl (.own 5) 1 (List.map (Value.int .u8) v90.1.Data), .v (.bool v90.1.Ready), .v (.int .i64 v90.1.Base), .v (.int .i64 v90.1.Next), .v (.int .i64 v90.1.Wait), .v (.bool v90.1.Over)], .v (.int .i64 v90.2)]) :: (191, .agg [.v (.int .i64 v90.1.Number), .fl (.own 5) 1 (List.map (Value.int .u8) v90.1.Data), .v (.bool v90.1.Ready), .v (.int .i64 v90.1.Base), .v (.int .i64 v90.1.Next), .v (.int .i64 v90.1.Wait), .v (.bool v90.1.Over)]) :: (181, .tup [.any, .v (.int .i64 v90.2)]) :: (192, .v (.int .i64 v90.2)) :: (14, .box 24 [.v (.int .i64 0), .v (.slice none 0 0), .v (.bool false), .v (.int .i64 0), .v (.int .i64 0), .v (.int .i64 0), .v (.bool false)]) :: (14, .box 24 [.v (.int .i64 v90.1.Number), .fl (.own 5) 1 (List.map (Value.int .u8) v90.1.Data), .v (.bool v90.1.Ready), .v (.int .i64 v90.1.Base), .v (.int .i64 v90.1.Next), .v (.int .i64 v90.1.Wait), .v (.bool v90.1.Over)]) :: (15, .v (.int .i64 v90.2)) :: [])) (init := [0]) (fin := [16]) (sps := (⟨[0], [], [1], [(.slot 182)]⟩ :: ⟨[0], [], [2], [(.slot 183)]⟩ :: ⟨[2, 0], [], [3], [(.slot 184)]⟩ :: ⟨[0], [], [4], [(.slot 185)]⟩ :: ⟨[4, 0], [], [5], [(.slot 186)]⟩ :: ⟨[5], [], [6], [(.slot 187)]⟩ :: ⟨[6], [], [7], [(.slot 188)]⟩ :: ⟨[3, 7], [], [8], [(.slot 189)]⟩ :: ⟨[1, 8], [], [9], [(.slot 190)]⟩ :: ⟨[], [9], [10], [(.slot 181)]⟩ :: ⟨[], [10], [12, 11], [(.slot 191)]⟩ :: ⟨[12], [], [13], [(.slot 192)]⟩ :: ⟨[], [], [14], [(.slot 14)]⟩ :: ⟨[], [11, 14], [15], [.cell 14 0, .cell 14 1, .cell 14 2, .cell 14 3, .cell 14 4, .cell 14 5, .cell 14 6]⟩ :: ⟨[13], [], [16], [(.slot 15)]⟩ :: [])) (es' := [(15, .v (.int .i64 v90.2))]) (by kernel_rfl) rfl rfl
                        ⟨st_plain rfl (op_loadA _ _ _ _ _ _ _ Try.underlying24 rfl sz24 rfl rfl (Nat.le_of_ble_eq_true rfl) rfl rfl),
                          st_plain rfl (op_fieldAddr _ _ _ _ 2 0 _ Try.underlying24 rfl sz3 rfl rfl (by decide)),
                          st_plain rfl (op_load _ _ _ _ _ _ Try.underlying3 rfl rfl rfl (Nat.le_of_ble_eq_true rfl) rfl rfl rfl),
                          st_plain rfl (op_fieldAddr _ _ _ _ 2 0 _ Try.underlying24 rfl sz22 rfl rfl (by decide)),
                          st_plain rfl (op_load _ _ _ _ _ _ Try.underlying22 rfl rfl rfl (Nat.le_of_ble_eq_true rfl) rfl rfl rfl),
                          st_plain rfl (op_len_fl _ _ _ Try.underlying22 rfl (by decide) (map_len _)),
                          st_plain rfl (op_bin _ _ _ _ _ rfl rfl (ibind (f := Value.int .i64) (Option.some.inj hv89))),
                          st_plain rfl (op_build _ _ _ _ [1, 1, 1, 1, 1] _ _ Try.underlying26 zr26 (fs26 _ Try.underlying26) (.copy _ (.copy _ (.copy _ Src.nil))) rfl rfl rfl),
                          st_plain rfl (op_call _ _ 15 _ _ rfl Try.call15 rfl ((ok_sender_Hear s (T_Frame.mk 2 s.Number v89 0 []) _ hv90).args (subs_cons (sub_refl _) (subs_cons (sub_agg (subs_cons (sub_refl _) (subs_cons (sub_refl _) (subs_cons (sub_refl _) (subs_cons (sub_refl _) (subs_cons (sub_nil_shr 1) (subs_nil))))))) (subs_nil)))) rfl rfl),
                          st_plain rfl (op_move_take _ _ _ _ rfl),
                          st_plain rfl (op_extract_take _ _ _ _ _ rfl (Nat.le_of_ble_eq_true rfl) rfl rfl (by decide) rfl),
                          st_plain rfl (op_extract _ _ _ _ _ rfl rfl (Nat.le_of_ble_eq_true rfl) rfl rfl),
                          st_plain rfl (op_alloc _ _ zr24),
                          st_plain rfl (op_store_take _ _ _ _ _ _ _ _ sz24 rfl rfl rfl (Nat.le_of_ble_eq_true rfl) rfl rfl),
                          st_plain rfl (op_assign _ _ _ _ rfl rfl),
                          trivial⟩ ?_
                      refine pt_then ?_
                      refine ht_seq ?_
                      refine ht_joinS h (fun (s93 : Bool) => [(4, .v (.bool s93))]) ?_ ?_
                      · rintro s93 h
                        refine pt_then ?_
                        refine ht_ret ?_
                        obtain rfl := Option.some.inj h
                        exact pt_ret hio rfl (.tmp _ _ .nil) rfl rfl
                      · intro u94 h hl95 hr96
                        refine cond_some h (fun hg25_2 h => ?_) (fun hg25_2 h => ?_)
                        · obtain ⟨v91, hv91, h⟩ := bind_some h
                          refine ht_seqR hn (El := [_, (193, .v (.int .i64 v90.2)), (194, .v (.bool (v90.2 == 11))), (195, .v (.bool true)), (196, .v undef), (197, .v undef), (198, .v (.bool true)), (199, .v (.bool true)), (200, .v (.bool v91)), (201, .v (.bool v91)), (4, .v (.bool v91))]) (init := [0]) (fin := [10]) (sps := [⟨[0], [], [1], [(.slot 193)]⟩, ⟨[1], [], [2], [(.slot 194)]⟩, ⟨[2], [], [3], [(.slot 195)]⟩, ⟨[3], [], [4], [(.slot 196)]⟩, ⟨[3], [], [5], [(.slot 197)]⟩, ⟨[3], [], [6], [(.slot 198)]⟩, ⟨[6], [], [7], [(.slot 199)]⟩, ⟨[7], [], [8], [(.slot 200)]⟩, ⟨[7, 8], [], [9], [(.slot 201)]⟩, ⟨[9], [], [10], [(.slot 4)]⟩]) (es' := [(4, .v (.bool v91))]) (by kernel_rfl) rfl rfl
                            ⟨st_plain rfl (op_move _ _ _ _ rfl rfl),
                              st_plain rfl (op_bin _ _ _ _ _ rfl rfl rfl),
                              st_plain rfl (op_move _ _ _ _ (congrArg (fun b => AV.v (Value.bool b)) hg25_2) rfl),
                              st_skip 2 195 _ false rfl rfl rfl rfl (List.Mem.head _),
                              st_skip 2 195 _ false rfl rfl rfl rfl (List.Mem.head _),
                              st_plain rfl (op_pick _ _ true _ rfl rfl),
                              st_plain rfl (op_move _ _ _ _ rfl rfl),
                              st_run 6 199 true rfl rfl rfl (List.Mem.head _) (op_call _ _ 21 _ _ rfl Try.call21 rfl (ok_wherrylaw21_wakes  _ hv91) rfl rfl),
                              st_plain rfl (op_pick _ _ true _ rfl rfl),
                              st_plain rfl (op_assign _ _ _ _ rfl rfl),
                              trivial⟩ ?_
                          exact hl95 _ (Option.some.inj h).symm
                        · refine cond_some h (fun hg25_6 h => ?_) (fun hg25_6 h => ?_)
                          · obtain ⟨v92, hv92, h⟩ := bind_some h
                            refine ht_seqR hn (El := [_, (193, .v (.int .i64 v90.2)), (194, .v (.bool (v90.2 == 11))), (195, .v (.bool false)), (196, .v (.int .i64 v90.2)), (197, .v (.bool (v90.2 == 1))), (198, .v (.bool (v90.2 == 1))), (199, .v (.bool true)), (200, .v (.bool v92)), (201, .v (.bool v92)), (4, .v (.bool v92))]) (init := [0]) (fin := [10]) (sps := [⟨[0], [], [1], [(.slot 193)]⟩, ⟨[1], [], [2], [(.slot 194)]⟩, ⟨[2], [], [3], [(.slot 195)]⟩, ⟨[3, 0], [], [4], [(.slot 196)]⟩, ⟨[3, 4], [], [5], [(.slot 197)]⟩, ⟨[3, 5], [], [6], [(.slot 198)]⟩, ⟨[6], [], [7], [(.slot 199)]⟩, ⟨[7], [], [8], [(.slot 200)]⟩, ⟨[7, 8], [], [9], [(.slot 201)]⟩, ⟨[9], [], [10], [(.slot 4)]⟩]) (es' := [(4, .v (.bool v92))]) (by kernel_rfl) rfl rfl
                              ⟨st_plain rfl (op_move _ _ _ _ rfl rfl),
                                st_plain rfl (op_bin _ _ _ _ _ rfl rfl rfl),
                                st_plain rfl (op_move _ _ _ _ (congrArg (fun b => AV.v (Value.bool b)) hg25_2) rfl),
                                st_run 2 195 false rfl rfl rfl (List.Mem.head _) (op_move _ _ _ _ rfl rfl),
                                st_run 2 195 false rfl rfl rfl (List.Mem.head _) (op_bin _ _ _ _ _ rfl rfl rfl),
                                st_plain rfl (op_pick _ _ false _ rfl rfl),
                                st_plain rfl (op_move _ _ _ _ (congrArg (fun b => AV.v (Value.bool b)) hg25_6) rfl),
                                st_run 6 199 true rfl rfl rfl (List.Mem.head _) (op_call _ _ 21 _ _ rfl Try.call21 rfl (ok_wherrylaw21_wakes  _ hv92) rfl rfl),
                                st_plain rfl (op_pick _ _ true _ rfl rfl),
                                st_plain rfl (op_assign _ _ _ _ rfl rfl),
                                trivial⟩ ?_
                            exact hl95 _ (Option.some.inj h).symm
                          · refine ht_seqR hn (El := [_, (193, .v (.int .i64 v90.2)), (194, .v (.bool (v90.2 == 11))), (195, .v (.bool false)), (196, .v (.int .i64 v90.2)), (197, .v (.bool (v90.2 == 1))), (198, .v (.bool (v90.2 == 1))), (199, .v (.bool false)), (200, .v undef), (201, .v (.bool false)), (4, .v (.bool false))]) (init := [0]) (fin := [10]) (sps := [⟨[0], [], [1], [(.slot 193)]⟩, ⟨[1], [], [2], [(.slot 194)]⟩, ⟨[2], [], [3], [(.slot 195)]⟩, ⟨[3, 0], [], [4], [(.slot 196)]⟩, ⟨[3, 4], [], [5], [(.slot 197)]⟩, ⟨[3, 5], [], [6], [(.slot 198)]⟩, ⟨[6], [], [7], [(.slot 199)]⟩, ⟨[7], [], [8], [(.slot 200)]⟩, ⟨[7], [], [9], [(.slot 201)]⟩, ⟨[9], [], [10], [(.slot 4)]⟩]) (es' := [(4, .v (.bool false))]) (by kernel_rfl) rfl rfl
                              ⟨st_plain rfl (op_move _ _ _ _ rfl rfl),
                                st_plain rfl (op_bin _ _ _ _ _ rfl rfl rfl),
                                st_plain rfl (op_move _ _ _ _ (congrArg (fun b => AV.v (Value.bool b)) hg25_2) rfl),
                                st_run 2 195 false rfl rfl rfl (List.Mem.head _) (op_move _ _ _ _ rfl rfl),
                                st_run 2 195 false rfl rfl rfl (List.Mem.head _) (op_bin _ _ _ _ _ rfl rfl rfl),
                                st_plain rfl (op_pick _ _ false _ rfl rfl),
                                st_plain rfl (op_move _ _ _ _ (congrArg (fun b => AV.v (Value.bool b)) hg25_6) rfl),
                                st_skip 6 199 _ true rfl rfl rfl rfl (List.Mem.head _),
                                st_plain rfl (op_pick _ _ false _ rfl rfl),
                                st_plain rfl (op_assign _ _ _ _ rfl rfl),
                                trivial⟩ ?_
                            exact hl95 _ (Option.some.inj h).symm
                    · rintro u77 hl78 hr79 s70 rr82 h ho80
                      refine ht_seq ?_
                      refine ht_seq ?_
                      refine ht_seqR hn (El := [_, _, _, _, (125, .v (.int .i64 s70)), (126, .same (.slot 10)), (127, .v (.int .i64 (v22.2.1.length : Int))), (128, .v (.bool ((decide (s70 < (v22.2.1.length : Int))))))]) (init := [0, 1, 2, 3]) (fin := [0, 1, 2, 3, 7]) (sps := [⟨[3], [], [4], [(.slot 125)]⟩, ⟨[2], [], [5], [(.slot 126)]⟩, ⟨[5, 2], [], [6], [(.slot 127)]⟩, ⟨[4, 6], [], [7], [(.slot 128)]⟩]) (es' := [(_, _), (_, _), (_, _), (_, _), (128, .v (.bool ((decide (s70 < (v22.2.1.length : Int))))))]) (by kernel_rfl) rfl rfl
                        ⟨st_plain rfl (op_move _ _ _ _ rfl rfl),
                          st_plain rfl (op_move _ _ _ _ rfl rfl),
                          st_plain rfl (op_len_fr _ _ _ Try.underlying31 rfl (by decide) (gflat_len T_Frame.ilen _)),
                          st_plain rfl (op_bin _ _ _ _ _ rfl rfl rfl),
                          trivial⟩ ?_
                      refine pt_then ?_
                      refine ht_cond _ rfl (fun hb83 => ?_) (fun hb83 => ?_)
                      · have h := cond_t hb83 h
                        refine ht_skip ?_
                        refine pt_then ?_
                        refine ht_seq ?_
                        refine ht_block ?_
                        refine ht_seq ?_
                        obtain ⟨v41, hv41, h⟩ := bind_some h
                        obtain ⟨v42, hv42, h⟩ := bind_some h
                        refine ht_seqR hn (El := [_, _, _, _, _, (131, .v (.int .i64 v13)), (132, .v (.int .i64 s70)), (133, .v (.int .i64 v41)), (134, .v (.int .i64 v42)), (13, .v (.int .i64 v42))]) (init := [0, 1, 2, 3, 4]) (fin := [0, 1, 2, 3, 9]) (sps := [⟨[1], [], [5], [(.slot 131)]⟩, ⟨[3], [], [6], [(.slot 132)]⟩, ⟨[5, 6], [], [7], [(.slot 133)]⟩, ⟨[7], [], [8], [(.slot 134)]⟩, ⟨[8], [], [9], [(.slot 13)]⟩]) (es' := [(_, _), (_, _), (_, _), (_, _), (13, .v (.int .i64 v42))]) (by kernel_rfl) rfl rfl
                          ⟨st_plain rfl (op_move _ _ _ _ rfl rfl),
                            st_plain rfl (op_move _ _ _ _ rfl rfl),
                            st_plain rfl (op_bin _ _ _ _ _ rfl rfl (ibind (f := Value.int .i64) (Option.some.inj hv41))),
                            st_plain rfl (op_bin _ _ _ _ _ rfl rfl (ibind (f := Value.int .i64) (Option.some.inj hv42))),
                            st_plain rfl (op_assign _ _ _ _ rfl rfl),
                            trivial⟩ ?_
                        refine pt_then ?_
                        refine ht_seq ?_
                        refine ht_joinS h (fun (s84 : Bool) => [(2, .box 24 [.v (.int .i64 s.Number), .fl .shr 1 (List.map (Value.int .u8) s.Data), .v (.bool s.Ready), .v (.int .i64 s.Base), .v (.int .i64 s.Next), .v (.int .i64 s.Wait), .v (.bool s.Over)]), (1, .v (.int .i64 v13)), (10, .fr (.own 26) false 5 (List.flatten (List.map T_Frame.ienc v22.2.1))), (12, .v (.int .i64 s70)), (180, .v (.bool s84))]) ?_ ?_
                        · rintro s84 h
                          refine pt_then ?_
                          refine ht_cond _ rfl (fun hb88 => ?_) (fun hb88 => ?_)
                          · have h := cond_t hb88 h
                            refine ht_seq ?_
                            refine ht_seqR hn (El := [_, _, _, _, _, (4, .v (.bool false))]) (init := [0, 1, 2, 3, 4]) (fin := [5]) (sps := [⟨[], [], [5], [(.slot 4)]⟩]) (es' := [(4, .v (.bool false))]) (by kernel_rfl) rfl rfl
                              ⟨st_plain rfl (op_assign _ _ _ _ rfl rfl),
                                trivial⟩ ?_
                            refine pt_then ?_
                            refine ht_ret ?_
                            refine pt_r_in ?_
                            refine pt_r_then ?_
                            refine pt_r_then ?_
                            refine pt_r_in ?_
                            refine pt_r_then ?_
                            have h := hr79 _ (ho80 _ (Option.some.inj h).symm).symm
                            obtain rfl := Option.some.inj h
                            exact pt_ret hio rfl (.tmp _ _ .nil) rfl rfl
                          · have h := cond_f hb88 h
                            refine ht_skip ?_
                            refine pt_inb ?_
                            refine pt_then ?_
                            obtain ⟨v62, hv62, h⟩ := bind_some h
                            refine ht_seqR hn (El := [_, _, _, _, _, (129, .v (.int .i64 s70)), (130, .v (.int .i64 v62)), (12, .v (.int .i64 v62))]) (init := [0, 1, 2, 3, 4]) (fin := [0, 1, 2, 7]) (sps := [⟨[3], [], [5], [(.slot 129)]⟩, ⟨[5], [], [6], [(.slot 130)]⟩, ⟨[6], [3], [7], [(.slot 12)]⟩]) (es' := [(_, _), (_, _), (_, _), (12, .v (.int .i64 v62))]) (by kernel_rfl) rfl rfl
                              ⟨st_plain rfl (op_move _ _ _ _ rfl rfl),
                                st_plain rfl (op_bin _ _ _ _ _ rfl rfl (ibind (f := Value.int .i64) (Option.some.inj hv62))),
                                st_plain rfl (LOp.drop [_] (op_assign _ _ _ _ rfl rfl)),
                                trivial⟩ ?_
                            exact pt_next _ (Option.some.inj h).symm rfl
                        · intro u85 h hl86 hr87
                          obtain ⟨v43, hv43, h⟩ := bind_some h
                          obtain ⟨v44, hv44, h⟩ := bind_some h
                          refine cond_some h (fun hg22_6 h => ?_) (fun hg22_6 h => ?_)
                          · refine ht_anyR (by kernel_rfl) hn (El := (_ :: _ :: _ :: _ :: _ :: (135, .same (.slot 10)) :: (136, .v (.int .i64 s70)) :: (137, .eref (.slot 10) (v43 * 5)) :: (138, .eref (.slot 10) (v43 * 5 + 0)) :: (139, .v (.int .i64 v44.Kind)) :: (140, .v (.bool (v44.Kind != 3))) :: (141, .v (.bool true)) :: (142, .v undef) :: (143, .v undef) :: (144, .v undef) :: (145, .v undef) :: (146, .v undef) :: (147, .v undef) :: (148, .v undef) :: (149, .v (.bool true)) :: (150, .v (.bool true)) :: (151, .v undef) :: (152, .v undef) :: (153, .v undef) :: (154, .v undef) :: (155, .v undef) :: (156, .v undef) :: (157, .v undef) :: (158, .v undef) :: (159, .v undef) :: (160, .v undef) :: (161, .v (.bool true)) :: (162, .v (.bool true)) :: (163, .v undef) :: (164, .v undef) :: (165, .v undef) :: (166, .v undef) :: (167, .v undef) :: (168, .v undef) :: (169, .v undef) :: (170, .v undef) :: (171, .v undef) :: (172, .v undef) :: (173, .v undef) :: (174, .v undef) :: (175, .v undef) :: (176, .v undef) :: (177, .v undef) :: (178, .v undef) :: (179, .v undef) :: (180, .v (.bool true)) :: [])) (init := [0, 1, 2, 3, 4]) (fin := [0, 1, 2, 3, 50]) (sps := (⟨[2], [], [5], [(.slot 135)]⟩ :: ⟨[3], [], [6], [(.slot 136)]⟩ :: ⟨[5, 2, 6], [], [7], [(.slot 137)]⟩ :: ⟨[7, 2], [], [8], [(.slot 138)]⟩ :: ⟨[8, 2], [], [9], [(.slot 139)]⟩ :: ⟨[9], [], [10], [(.slot 140)]⟩ :: ⟨[10], [], [11], [(.slot 141)]⟩ :: ⟨[11], [], [12], [(.slot 142)]⟩ :: ⟨[11], [], [13], [(.slot 143)]⟩ :: ⟨[11], [], [14], [(.slot 144)]⟩ :: ⟨[11], [], [15], [(.slot 145)]⟩ :: ⟨[11], [], [16], [(.slot 146)]⟩ :: ⟨[11], [], [17], [(.slot 147)]⟩ :: ⟨[11], [], [18], [(.slot 148)]⟩ :: ⟨[11], [], [19], [(.slot 149)]⟩ :: ⟨[19], [], [20], [(.slot 150)]⟩ :: ⟨[20], [], [21], [(.slot 151)]⟩ :: ⟨[20], [], [22], [(.slot 152)]⟩ :: ⟨[20], [], [23], [(.slot 153)]⟩ :: ⟨[20], [], [24], [(.slot 154)]⟩ :: ⟨[20], [], [25], [(.slot 155)]⟩ :: ⟨[20], [], [26], [(.slot 156)]⟩ :: ⟨[20], [], [27], [(.slot 157)]⟩ :: ⟨[20], [], [28], [(.slot 158)]⟩ :: ⟨[20], [], [29], [(.slot 159)]⟩ :: ⟨[20], [], [30], [(.slot 160)]⟩ :: ⟨[20], [], [31], [(.slot 161)]⟩ :: ⟨[31], [], [32], [(.slot 162)]⟩ :: ⟨[32], [], [33], [(.slot 163)]⟩ :: ⟨[32], [], [34], [(.slot 164)]⟩ :: ⟨[32], [], [35], [(.slot 165)]⟩ :: ⟨[32], [], [36], [(.slot 166)]⟩ :: ⟨[32], [], [37], [(.slot 167)]⟩ :: ⟨[32], [], [38], [(.slot 168)]⟩ :: ⟨[32], [], [39], [(.slot 169)]⟩ :: ⟨[32], [], [40], [(.slot 170)]⟩ :: ⟨[32], [], [41], [(.slot 171)]⟩ :: ⟨[32], [], [42], [(.slot 172)]⟩ :: ⟨[32], [], [43], [(.slot 173)]⟩ :: ⟨[32], [], [44], [(.slot 174)]⟩ :: ⟨[32], [], [45], [(.slot 175)]⟩ :: ⟨[32], [], [46], [(.slot 176)]⟩ :: ⟨[32], [], [47], [(.slot 177)]⟩ :: ⟨[32], [], [48], [(.slot 178)]⟩ :: ⟨[32], [], [49], [(.slot 179)]⟩ :: ⟨[32], [], [50], [(.slot 180)]⟩ :: [])) (es' := [(_, _), (_, _), (_, _), (_, _), (180, .v (.bool true))]) (by kernel_rfl) rfl rfl
                              ⟨st_plain rfl (op_move _ _ _ _ rfl rfl),
                                st_plain rfl (op_move _ _ _ _ rfl rfl),
                                st_plain rfl (op_ix_fr _ _ _ _ _ _ _ _ Try.underlying31 sz26 (by decide) rfl rfl rfl (ix_ok hv43).1 (gflat_lt T_Frame.ilen (ix_ok hv43).2) rfl),
                                st_plain rfl (op_fieldAddr_e _ _ _ _ _ _ _ Try.underlying26 rfl sz3 rfl rfl rfl),
                                st_plain rfl (op_load_fr _ _ _ _ _ _ _ Try.underlying3 rfl rfl rfl (gflat_cell T_Frame.ilen hv44 rfl) (.v _)),
                                st_plain rfl (op_bin _ _ _ _ _ rfl rfl rfl),
                                st_plain rfl (op_move _ _ _ _ (congrArg (fun b => AV.v (Value.bool b)) hg22_6) rfl),
                                st_skip 6 141 _ false rfl rfl rfl rfl (List.Mem.head _),
                                st_skip 6 141 _ false rfl rfl rfl rfl (List.Mem.head _),
                                st_skip 6 141 _ false rfl rfl rfl rfl (List.Mem.head _),
                                st_skip 6 141 _ false rfl rfl rfl rfl (List.Mem.head _),
                                st_skip 6 141 _ false rfl rfl rfl rfl (List.Mem.head _),
                                st_skip 6 141 _ false rfl rfl rfl rfl (List.Mem.head _),
                                st_skip 6 141 _ false rfl rfl rfl rfl (List.Mem.head _),
                                st_plain rfl (op_pick _ _ true _ rfl rfl),
                                st_plain rfl (op_move _ _ _ _ rfl rfl),
                                st_skip 15 150 _ false rfl rfl rfl rfl (List.Mem.head _),
                                st_skip 15 150 _ false rfl rfl rfl rfl (List.Mem.head _),
                                st_skip 15 150 _ false rfl rfl rfl rfl (List.Mem.head _),
                                st_skip 15 150 _ false rfl rfl rfl rfl (List.Mem.head _),
                                st_skip 15 150 _ false rfl rfl rfl rfl (List.Mem.head _),
                                st_skip 15 150 _ false rfl rfl rfl rfl (List.Mem.head _),
                                st_skip 15 150 _ false rfl rfl rfl rfl (List.Mem.head _),
                                st_skip 15 150 _ false rfl rfl rfl rfl (List.Mem.head _),
                                st_skip 15 150 _ false rfl rfl rfl rfl (List.Mem.head _),
                                st_skip 15 150 _ false rfl rfl rfl rfl (List.Mem.head _),
                                st_plain rfl (op_pick _ _ true _ rfl rfl),
                                st_plain rfl (op_move _ _ _ _ rfl rfl),
                                st_skip 27 162 _ false rfl rfl rfl rfl (List.Mem.head _),
                                st_skip 27 162 _ false rfl rfl rfl rfl (List.Mem.head _),
                                st_skip 27 162 _ false rfl rfl rfl rfl (List.Mem.head _),
                                st_skip 27 162 _ false rfl rfl rfl rfl (List.Mem.head _),
                                st_skip 27 162 _ false rfl rfl rfl rfl (List.Mem.head _),
                                st_skip 27 162 _ false rfl rfl rfl rfl (List.Mem.head _),
                                st_skip 27 162 _ false rfl rfl rfl rfl (List.Mem.head _),
                                st_skip 27 162 _ false rfl rfl rfl rfl (List.Mem.head _),
                                st_skip 27 162 _ false rfl rfl rfl rfl (List.Mem.head _),
                                st_skip 27 162 _ false rfl rfl rfl rfl (List.Mem.head _),
                                st_skip 27 162 _ false rfl rfl rfl rfl (List.Mem.head _),
                                st_skip 27 162 _ false rfl rfl rfl rfl (List.Mem.head _),
                                st_skip 27 162 _ false rfl rfl rfl rfl (List.Mem.head _),
                                st_skip 27 162 _ false rfl rfl rfl rfl (List.Mem.head _),
                                st_skip 27 162 _ false rfl rfl rfl rfl (List.Mem.head _),
                                st_skip 27 162 _ false rfl rfl rfl rfl (List.Mem.head _),
                                st_skip 27 162 _ false rfl rfl rfl rfl (List.Mem.head _),
                                st_plain rfl (op_pick _ _ true _ rfl rfl),
                                trivial⟩ ?_
                            exact hl86 _ (Option.some.inj h).symm
                          · obtain ⟨v45, hv45, h⟩ := bind_some h
                            obtain ⟨v46, hv46, h⟩ := bind_some h
                            refine cond_some h (fun hg22_15 h => ?_) (fun hg22_15 h => ?_)
                            · refine ht_anyR (by kernel_rfl) hn (El := (_ :: _ :: _ :: _ :: _ :: (135, .same (.slot 10)) :: (136, .v (.int .i64 s70)) :: (137, .eref (.slot 10) (v43 * 5)) :: (138, .eref (.slot 10) (v43 * 5 + 0)) :: (139, .v (.int .i64 v44.Kind)) :: (140, .v (.bool (v44.Kind != 3))) :: (141, .v (.bool false)) :: (142, .same (.slot 10)) :: (143, .v (.int .i64 s70)) :: (144, .eref (.slot 10) (v45 * 5)) :: (145, .eref (.slot 10) (v45 * 5 + 2)) :: (146, .v (.int .i64 v46.Offset)) :: (147, .v (.int .i64 v42)) :: (148, .v (.bool (v46.Offset != v42))) :: (149, .v (.bool (v46.Offset != v42))) :: (150, .v (.bool true)) :: (151, .v undef) :: (152, .v undef) :: (153, .v undef) :: (154, .v undef) :: (155, .v undef) :: (156, .v undef) :: (157, .v undef) :: (158, .v undef) :: (159, .v undef) :: (160, .v undef) :: (161, .v (.bool true)) :: (162, .v (.bool true)) :: (163, .v undef) :: (164, .v undef) :: (165, .v undef) :: (166, .v undef) :: (167, .v undef) :: (168, .v undef) :: (169, .v undef) :: (170, .v undef) :: (171, .v undef) :: (172, .v undef) :: (173, .v undef) :: (174, .v undef) :: (175, .v undef) :: (176, .v undef) :: (177, .v undef) :: (178, .v undef) :: (179, .v undef) :: (180, .v (.bool true)) :: [])) (init := [0, 1, 2, 3, 4]) (fin := [0, 1, 2, 3, 50]) (sps := (⟨[2], [], [5], [(.slot 135)]⟩ :: ⟨[3], [], [6], [(.slot 136)]⟩ :: ⟨[5, 2, 6], [], [7], [(.slot 137)]⟩ :: ⟨[7, 2], [], [8], [(.slot 138)]⟩ :: ⟨[8, 2], [], [9], [(.slot 139)]⟩ :: ⟨[9], [], [10], [(.slot 140)]⟩ :: ⟨[10], [], [11], [(.slot 141)]⟩ :: ⟨[11, 2], [], [12], [(.slot 142)]⟩ :: ⟨[11, 3], [], [13], [(.slot 143)]⟩ :: ⟨[11, 12, 2, 13], [], [14], [(.slot 144)]⟩ :: ⟨[11, 14, 2], [], [15], [(.slot 145)]⟩ :: ⟨[11, 15, 2], [], [16], [(.slot 146)]⟩ :: ⟨[11, 4], [], [17], [(.slot 147)]⟩ :: ⟨[11, 16, 17], [], [18], [(.slot 148)]⟩ :: ⟨[11, 18], [], [19], [(.slot 149)]⟩ :: ⟨[19], [], [20], [(.slot 150)]⟩ :: ⟨[20], [], [21], [(.slot 151)]⟩ :: ⟨[20], [], [22], [(.slot 152)]⟩ :: ⟨[20], [], [23], [(.slot 153)]⟩ :: ⟨[20], [], [24], [(.slot 154)]⟩ :: ⟨[20], [], [25], [(.slot 155)]⟩ :: ⟨[20], [], [26], [(.slot 156)]⟩ :: ⟨[20], [], [27], [(.slot 157)]⟩ :: ⟨[20], [], [28], [(.slot 158)]⟩ :: ⟨[20], [], [29], [(.slot 159)]⟩ :: ⟨[20], [], [30], [(.slot 160)]⟩ :: ⟨[20], [], [31], [(.slot 161)]⟩ :: ⟨[31], [], [32], [(.slot 162)]⟩ :: ⟨[32], [], [33], [(.slot 163)]⟩ :: ⟨[32], [], [34], [(.slot 164)]⟩ :: ⟨[32], [], [35], [(.slot 165)]⟩ :: ⟨[32], [], [36], [(.slot 166)]⟩ :: ⟨[32], [], [37], [(.slot 167)]⟩ :: ⟨[32], [], [38], [(.slot 168)]⟩ :: ⟨[32], [], [39], [(.slot 169)]⟩ :: ⟨[32], [], [40], [(.slot 170)]⟩ :: ⟨[32], [], [41], [(.slot 171)]⟩ :: ⟨[32], [], [42], [(.slot 172)]⟩ :: ⟨[32], [], [43], [(.slot 173)]⟩ :: ⟨[32], [], [44], [(.slot 174)]⟩ :: ⟨[32], [], [45], [(.slot 175)]⟩ :: ⟨[32], [], [46], [(.slot 176)]⟩ :: ⟨[32], [], [47], [(.slot 177)]⟩ :: ⟨[32], [], [48], [(.slot 178)]⟩ :: ⟨[32], [], [49], [(.slot 179)]⟩ :: ⟨[32], [], [50], [(.slot 180)]⟩ :: [])) (es' := [(_, _), (_, _), (_, _), (_, _), (180, .v (.bool true))]) (by kernel_rfl) rfl rfl
                                ⟨st_plain rfl (op_move _ _ _ _ rfl rfl),
                                  st_plain rfl (op_move _ _ _ _ rfl rfl),
                                  st_plain rfl (op_ix_fr _ _ _ _ _ _ _ _ Try.underlying31 sz26 (by decide) rfl rfl rfl (ix_ok hv43).1 (gflat_lt T_Frame.ilen (ix_ok hv43).2) rfl),
                                  st_plain rfl (op_fieldAddr_e _ _ _ _ _ _ _ Try.underlying26 rfl sz3 rfl rfl rfl),
                                  st_plain rfl (op_load_fr _ _ _ _ _ _ _ Try.underlying3 rfl rfl rfl (gflat_cell T_Frame.ilen hv44 rfl) (.v _)),
                                  st_plain rfl (op_bin _ _ _ _ _ rfl rfl rfl),
                                  st_plain rfl (op_move _ _ _ _ (congrArg (fun b => AV.v (Value.bool b)) hg22_6) rfl),
                                  st_run 6 141 false rfl rfl rfl (List.Mem.head _) (op_move _ _ _ _ rfl rfl),
                                  st_run 6 141 false rfl rfl rfl (List.Mem.head _) (op_move _ _ _ _ rfl rfl),
                                  st_run 6 141 false rfl rfl rfl (List.Mem.head _) (op_ix_fr _ _ _ _ _ _ _ _ Try.underlying31 sz26 (by decide) rfl rfl rfl (ix_ok hv45).1 (gflat_lt T_Frame.ilen (ix_ok hv45).2) rfl),
                                  st_run 6 141 false rfl rfl rfl (List.Mem.head _) (op_fieldAddr_e _ _ _ _ _ _ _ Try.underlying26 rfl sz3 rfl rfl rfl),
                                  st_run 6 141 false rfl rfl rfl (List.Mem.head _) (op_load_fr _ _ _ _ _ _ _ Try.underlying3 rfl rfl rfl (gflat_cell T_Frame.ilen hv46 rfl) (.v _)),
                                  st_run 6 141 false rfl rfl rfl (List.Mem.head _) (op_move _ _ _ _ rfl rfl),
                                  st_run 6 141 false rfl rfl rfl (List.Mem.head _) (op_bin _ _ _ _ _ rfl rfl rfl),
                                  st_plain rfl (op_pick _ _ false _ rfl rfl),
                                  st_plain rfl (op_move _ _ _ _ (congrArg (fun b => AV.v (Value.bool b)) hg22_15) rfl),
                                  st_skip 15 150 _ false rfl rfl rfl rfl (List.Mem.head _),
                                  st_skip 15 150 _ false rfl rfl rfl rfl (List.Mem.head _),
                                  st_skip 15 150 _ false rfl rfl rfl rfl (List.Mem.head _),
                                  st_skip 15 150 _ false rfl rfl rfl rfl (List.Mem.head _),
                                  st_skip 15 150 _ false rfl rfl rfl rfl (List.Mem.head _),
                                  st_skip 15 150 _ false rfl rfl rfl rfl (List.Mem.head _),
                                  st_skip 15 150 _ false rfl rfl rfl rfl (List.Mem.head _),
                                  st_skip 15 150 _ false rfl rfl rfl rfl (List.Mem.head _),
                                  st_skip 15 150 _ false rfl rfl rfl rfl (List.Mem.head _),
                                  st_skip 15 150 _ false rfl rfl rfl rfl (List.Mem.head _),
                                  st_plain rfl (op_pick _ _ true _ rfl rfl),
                                  st_plain rfl (op_move _ _ _ _ rfl rfl),
                                  st_skip 27 162 _ false rfl rfl rfl rfl (List.Mem.head _),
                                  st_skip 27 162 _ false rfl rfl rfl rfl (List.Mem.head _),
                                  st_skip 27 162 _ false rfl rfl rfl rfl (List.Mem.head _),
                                  st_skip 27 162 _ false rfl rfl rfl rfl (List.Mem.head _),
                                  st_skip 27 162 _ false rfl rfl rfl rfl (List.Mem.head _),
                                  st_skip 27 162 _ false rfl rfl rfl rfl (List.Mem.head _),
                                  st_skip 27 162 _ false rfl rfl rfl rfl (List.Mem.head _),
                                  st_skip 27 162 _ false rfl rfl rfl rfl (List.Mem.head _),
                                  st_skip 27 162 _ false rfl rfl rfl rfl (List.Mem.head _),
                                  st_skip 27 162 _ false rfl rfl rfl rfl (List.Mem.head _),
                                  st_skip 27 162 _ false rfl rfl rfl rfl (List.Mem.head _),
                                  st_skip 27 162 _ false rfl rfl rfl rfl (List.Mem.head _),
                                  st_skip 27 162 _ false rfl rfl rfl rfl (List.Mem.head _),
                                  st_skip 27 162 _ false rfl rfl rfl rfl (List.Mem.head _),
                                  st_skip 27 162 _ false rfl rfl rfl rfl (List.Mem.head _),
                                  st_skip 27 162 _ false rfl rfl rfl rfl (List.Mem.head _),
                                  st_skip 27 162 _ false rfl rfl rfl rfl (List.Mem.head _),
                                  st_plain rfl (op_pick _ _ true _ rfl rfl),
                                  trivial⟩ ?_
                              exact hl86 _ (Option.some.inj h).symm
                            · obtain ⟨v47, hv47, h⟩ := bind_some h
                              obtain ⟨v48, hv48, h⟩ := bind_some h
                              obtain ⟨v49, hv49, h⟩ := bind_some h
                              obtain ⟨v50, hv50, h⟩ := bind_some h
                              refine cond_some h (fun hg22_27 h => ?_) (fun hg22_27 h => ?_)
                              · refine ht_anyR (by kernel_rfl) hn (El := (_ :: _ :: _ :: _ :: _ :: (135, .same (.slot 10)) :: (136, .v (.int .i64 s70)) :: (137, .eref (.slot 10) (v43 * 5)) :: (138, .eref (.slot 10) (v43 * 5 + 0)) :: (139, .v (.int .i64 v44.Kind)) :: (140, .v (.bool (v44.Kind != 3))) :: (141, .v (.bool false)) :: (142, .same (.slot 10)) :: (143, .v (.int .i64 s70)) :: (144, .eref (.slot 10) (v45 * 5)) :: (145, .eref (.slot 10) (v45 * 5 + 2)) :: (146, .v (.int .i64 v46.Offset)) :: (147, .v (.int .i64 v42)) :: (148, .v (.bool (v46.Offset != v42))) :: (149, .v (.bool (v46.Offset != v42))) :: (150, .v (.bool false)) :: (151, .same (.slot 10)) :: (152, .v (.int .i64 s70)) :: (153, .eref (.slot 10) (v47 * 5)) :: (154, .eref (.slot 10) (v47 * 5 + 3)) :: (155, .v (.int .i64 v48.Seq)) :: (156, .v (.int .i64 v13)) :: (157, .v (.int .i64 s70)) :: (158, .v (.int .i64 v49)) :: (159, .v (.int .i64 v50)) :: (160, .v (.bool (v48.Seq != v50))) :: (161, .v (.bool (v48.Seq != v50))) :: (162, .v (.bool true)) :: (163, .v undef) :: (164, .v undef) :: (165, .v undef) :: (166, .v undef) :: (167, .v undef) :: (168, .v undef) :: (169, .v undef) :: (170, .v undef) :: (171, .v undef) :: (172, .v undef) :: (173, .v undef) :: (174, .v undef) :: (175, .v undef) :: (176, .v undef) :: (177, .v undef) :: (178, .v undef) :: (179, .v undef) :: (180, .v (.bool true)) :: [])) (init := [0, 1, 2, 3, 4]) (fin := [0, 1, 2, 3, 50]) (sps := (⟨[2], [], [5], [(.slot 135)]⟩ :: ⟨[3], [], [6], [(.slot 136)]⟩ :: ⟨[5, 2, 6], [], [7], [(.slot 137)]⟩ :: ⟨[7, 2], [], [8], [(.slot 138)]⟩ :: ⟨[8, 2], [], [9], [(.slot 139)]⟩ :: ⟨[9], [], [10], [(.slot 140)]⟩ :: ⟨[10], [], [11], [(.slot 141)]⟩ :: ⟨[11, 2], [], [12], [(.slot 142)]⟩ :: ⟨[11, 3], [], [13], [(.slot 143)]⟩ :: ⟨[11, 12, 2, 13], [], [14], [(.slot 144)]⟩ :: ⟨[11, 14, 2], [], [15], [(.slot 145)]⟩ :: ⟨[11, 15, 2], [], [16], [(.slot 146)]⟩ :: ⟨[11, 4], [], [17], [(.slot 147)]⟩ :: ⟨[11, 16, 17], [], [18], [(.slot 148)]⟩ :: ⟨[11, 18], [], [19], [(.slot 149)]⟩ :: ⟨[19], [], [20], [(.slot 150)]⟩ :: ⟨[20, 2], [], [21], [(.slot 151)]⟩ :: ⟨[20, 3], [], [22], [(.slot 152)]⟩ :: ⟨[20, 21, 2, 22], [], [23], [(.slot 153)]⟩ :: ⟨[20, 23, 2], [], [24], [(.slot 154)]⟩ :: ⟨[20, 24, 2], [], [25], [(.slot 155)]⟩ :: ⟨[20, 1], [], [26], [(.slot 156)]⟩ :: ⟨[20, 3], [], [27], [(.slot 157)]⟩ :: ⟨[20, 26, 27], [], [28], [(.slot 158)]⟩ :: ⟨[20, 28], [], [29], [(.slot 159)]⟩ :: ⟨[20, 25, 29], [], [30], [(.slot 160)]⟩ :: ⟨[20, 30], [], [31], [(.slot 161)]⟩ :: ⟨[31], [], [32], [(.slot 162)]⟩ :: ⟨[32], [], [33], [(.slot 163)]⟩ :: ⟨[32], [], [34], [(.slot 164)]⟩ :: ⟨[32], [], [35], [(.slot 165)]⟩ :: ⟨[32], [], [36], [(.slot 166)]⟩ :: ⟨[32], [], [37], [(.slot 167)]⟩ :: ⟨[32], [], [38], [(.slot 168)]⟩ :: ⟨[32], [], [39], [(.slot 169)]⟩ :: ⟨[32], [], [40], [(.slot 170)]⟩ :: ⟨[32], [], [41], [(.slot 171)]⟩ :: ⟨[32], [], [42], [(.slot 172)]⟩ :: ⟨[32], [], [43], [(.slot 173)]⟩ :: ⟨[32], [], [44], [(.slot 174)]⟩ :: ⟨[32], [], [45], [(.slot 175)]⟩ :: ⟨[32], [], [46], [(.slot 176)]⟩ :: ⟨[32], [], [47], [(.slot 177)]⟩ :: ⟨[32], [], [48], [(.slot 178)]⟩ :: ⟨[32], [], [49], [(.slot 179)]⟩ :: ⟨[32], [], [50], [(.slot 180)]⟩ :: [])) (es' := [(_, _), (_, _), (_, _), (_, _), (180, .v (.bool true))]) (by kernel_rfl) rfl rfl
                                  ⟨st_plain rfl (op_move _ _ _ _ rfl rfl),
                                    st_plain rfl (op_move _ _ _ _ rfl rfl),
                                    st_plain rfl (op_ix_fr _ _ _ _ _ _ _ _ Try.underlying31 sz26 (by decide) rfl rfl rfl (ix_ok hv43).1 (gflat_lt T_Frame.ilen (ix_ok hv43).2) rfl),
                                    st_plain rfl (op_fieldAddr_e _ _ _ _ _ _ _ Try.underlying26 rfl sz3 rfl rfl rfl),
                                    st_plain rfl (op_load_fr _ _ _ _ _ _ _ Try.underlying3 rfl rfl rfl (gflat_cell T_Frame.ilen hv44 rfl) (.v _)),
                                    st_plain rfl (op_bin _ _ _ _ _ rfl rfl rfl),
                                    st_plain rfl (op_move _ _ _ _ (congrArg (fun b => AV.v (Value.bool b)) hg22_6) rfl),
                                    st_run 6 141 false rfl rfl rfl (List.Mem.head _) (op_move _ _ _ _ rfl rfl),
                                    st_run 6 141 false rfl rfl rfl (List.Mem.head _) (op_move _ _ _ _ rfl rfl),
                                    st_run 6 141 false rfl rfl rfl (List.Mem.head _) (op_ix_fr _ _ _ _ _ _ _ _ Try.underlying31 sz26 (by decide) rfl rfl rfl (ix_ok hv45).1 (gflat_lt T_Frame.ilen (ix_ok hv45).2) rfl),
                                    st_run 6 141 false rfl rfl rfl (List.Mem.head _) (op_fieldAddr_e _ _ _ _ _ _ _ Try.underlying26 rfl sz3 rfl rfl rfl),
                                    st_run 6 141 false rfl rfl rfl (List.Mem.head _) (op_load_fr _ _ _ _ _ _ _ Try.underlying3 rfl rfl rfl (gflat_cell T_Frame.ilen hv46 rfl) (.v _)),
                                    st_run 6 141 false rfl rfl rfl (List.Mem.head _) (op_move _ _ _ _ rfl rfl),
                                    st_run 6 141 false rfl rfl rfl (List.Mem.head _) (op_bin _ _ _ _ _ rfl rfl rfl),
                                    st_plain rfl (op_pick _ _ false _ rfl rfl),
                                    st_plain rfl (op_move _ _ _ _ (congrArg (fun b => AV.v (Value.bool b)) hg22_15) rfl),
                                    st_run 15 150 false rfl rfl rfl (List.Mem.head _) (op_move _ _ _ _ rfl rfl),
                                    st_run 15 150 false rfl rfl rfl (List.Mem.head _) (op_move _ _ _ _ rfl rfl),
                                    st_run 15 150 false rfl rfl rfl (List.Mem.head _) (op_ix_fr _ _ _ _ _ _ _ _ Try.underlying31 sz26 (by decide) rfl rfl rfl (ix_ok hv47).1 (gflat_lt T_Frame.ilen (ix_ok hv47).2) rfl),
                                    st_run 15 150 false rfl rfl rfl (List.Mem.head _) (op_fieldAddr_e _ _ _ _ _ _ _ Try.underlying26 rfl sz3 rfl rfl rfl),
                                    st_run 15 150 false rfl rfl rfl (List.Mem.head _) (op_load_fr _ _ _ _ _ _ _ Try.underlying3 rfl rfl rfl (gflat_cell T_Frame.ilen hv48 rfl) (.v _)),
                                    st_run 15 150 false rfl rfl rfl (List.Mem.head _) (op_move _ _ _ _ rfl rfl),
                                    st_run 15 150 false rfl rfl rfl (List.Mem.head _) (op_move _ _ _ _ rfl rfl),
                                    st_run 15 150 false rfl rfl rfl (List.Mem.head _) (op_bin _ _ _ _ _ rfl rfl (ibind (f := Value.int .i64) (Option.some.inj hv49))),
                                    st_run 15 150 false rfl rfl rfl (List.Mem.head _) (op_bin _ _ _ _ _ rfl rfl (rem_ok hv50)),
                                    st_run 15 150 false rfl rfl rfl (List.Mem.head _) (op_bin _ _ _ _ _ rfl rfl rfl),
                                    st_plain rfl (op_pick _ _ false _ rfl rfl),
                                    st_plain rfl (op_move _ _ _ _ (congrArg (fun b => AV.v (Value.bool b)) hg22_27) rfl),
                                    st_skip 27 162 _ false rfl rfl rfl rfl (List.Mem.head _),
                                    st_skip 27 162 _ false rfl rfl rfl rfl (List.Mem.head _),
                                    st_skip 27 162 _ false rfl rfl rfl rfl (List.Mem.head _),
                                    st_skip 27 162 _ false rfl rfl rfl rfl (List.Mem.head _),
                                    st_skip 27 162 _ false rfl rfl rfl rfl (List.Mem.head _),
                                    st_skip 27 162 _ false rfl rfl rfl rfl (List.Mem.head _),
                                    st_skip 27 162 _ false rfl rfl rfl rfl (List.Mem.head _),
                                    st_skip 27 162 _ false rfl rfl rfl rfl (List.Mem.head _),
                                    st_skip 27 162 _ false rfl rfl rfl rfl (List.Mem.head _),
                                    st_skip 27 162 _ false rfl rfl rfl rfl (List.Mem.head _),
                                    st_skip 27 162 _ false rfl rfl rfl rfl (List.Mem.head _),
                                    st_skip 27 162 _ false rfl rfl rfl rfl (List.Mem.head _),
                                    st_skip 27 162 _ false rfl rfl rfl rfl (List.Mem.head _),
                                    st_skip 27 162 _ false rfl rfl rfl rfl (List.Mem.head _),
                                    st_skip 27 162 _ false rfl rfl rfl rfl (List.Mem.head _),
                                    st_skip 27 162 _ false rfl rfl rfl rfl (List.Mem.head _),
                                    st_skip 27 162 _ false rfl rfl rfl rfl (List.Mem.head _),
                                    st_plain rfl (op_pick _ _ true _ rfl rfl),
                                    trivial⟩ ?_
                                exact hl86 _ (Option.some.inj h).symm
                              · obtain ⟨v51, hv51, h⟩ := bind_some h
                                obtain ⟨v52, hv52, h⟩ := bind_some h
                                obtain ⟨v53, hv53, h⟩ := bind_some h
                                obtain ⟨v54, hv54, h⟩ := bind_some h
                                obtain ⟨v55, hv55, h⟩ := bind_some h
                                obtain ⟨v56, hv56, h⟩ := bind_some h
                                refine ht_anyR (by kernel_rfl) hn (El := (_ :: _ :: _ :: _ :: _ :: (135, .same (.slot 10)) :: (136, .v (.int .i64 s70)) :: (137, .eref (.slot 10) (v43 * 5)) :: (138, .eref (.slot 10) (v43 * 5 + 0)) :: (139, .v (.int .i64 v44.Kind)) :: (140, .v (.bool (v44.Kind != 3))) :: (141, .v (.bool false)) :: (142, .same (.slot 10)) :: (143, .v (.int .i64 s70)) :: (144, .eref (.slot 10) (v45 * 5)) :: (145, .eref (.slot 10) (v45 * 5 + 2)) :: (146, .v (.int .i64 v46.Offset)) :: (147, .v (.int .i64 v42)) :: (148, .v (.bool (v46.Offset != v42))) :: (149, .v (.bool (v46.Offset != v42))) :: (150, .v (.bool false)) :: (151, .same (.slot 10)) :: (152, .v (.int .i64 s70)) :: (153, .eref (.slot 10) (v47 * 5)) :: (154, .eref (.slot 10) (v47 * 5 + 3)) :: (155, .v (.int .i64 v48.Seq)) :: (156, .v (.int .i64 v13)) :: (157, .v (.int .i64 s70)) :: (158, .v (.int .i64 v49)) :: (159, .v (.int .i64 v50)) :: (160, .v (.bool (v48.Seq != v50))) :: (161, .v (.bool (v48.Seq != v50))) :: (162, .v (.bool false)) :: (163, .same (.slot 10)) :: (164, .v (.int .i64 s70)) :: (165, .eref (.slot 10) (v51 * 5)) :: (166, .eref (.slot 10) (v51 * 5 + 4)) :: (167, .fl .ro 1 (List.map (Value.int .u8) v52.Data)) :: (168, .ptr 2 1) :: (169, .fl .shr 1 (List.map (Value.int .u8) s.Data)) :: (170, .v (.int .i64 v42)) :: (171, .v (.int .i64 v42)) :: (172, .v (.int .i64 v53)) :: (173, .ptr 2 1) :: (174, .fl .shr 1 (List.map (Value.int .u8) s.Data)) :: (175, .v (.int .i64 (s.Data.length : Int))) :: (176, .v (.int .i64 v54)) :: (177, .fl .shr 1 (List.map (Value.int .u8) v55)) :: (178, .v (.bool v56)) :: (179, .v (.bool (!v56))) :: (180, .v (.bool (!v56))) :: [])) (init := [0, 1, 2, 3, 4]) (fin := [0, 1, 2, 3, 50]) (sps := (⟨[2], [], [5], [(.slot 135)]⟩ :: ⟨[3], [], [6], [(.slot 136)]⟩ :: ⟨[5, 2, 6], [], [7], [(.slot 137)]⟩ :: ⟨[7, 2], [], [8], [(.slot 138)]⟩ :: ⟨[8, 2], [], [9], [(.slot 139)]⟩ :: ⟨[9], [], [10], [(.slot 140)]⟩ :: ⟨[10], [], [11], [(.slot 141)]⟩ :: ⟨[11, 2], [], [12], [(.slot 142)]⟩ :: ⟨[11, 3], [], [13], [(.slot 143)]⟩ :: ⟨[11, 12, 2, 13], [], [14], [(.slot 144)]⟩ :: ⟨[11, 14, 2], [], [15], [(.slot 145)]⟩ :: ⟨[11, 15, 2], [], [16], [(.slot 146)]⟩ :: ⟨[11, 4], [], [17], [(.slot 147)]⟩ :: ⟨[11, 16, 17], [], [18], [(.slot 148)]⟩ :: ⟨[11, 18], [], [19], [(.slot 149)]⟩ :: ⟨[19], [], [20], [(.slot 150)]⟩ :: ⟨[20, 2], [], [21], [(.slot 151)]⟩ :: ⟨[20, 3], [], [22], [(.slot 152)]⟩ :: ⟨[20, 21, 2, 22], [], [23], [(.slot 153)]⟩ :: ⟨[20, 23, 2], [], [24], [(.slot 154)]⟩ :: ⟨[20, 24, 2], [], [25], [(.slot 155)]⟩ :: ⟨[20, 1], [], [26], [(.slot 156)]⟩ :: ⟨[20, 3], [], [27], [(.slot 157)]⟩ :: ⟨[20, 26, 27], [], [28], [(.slot 158)]⟩ :: ⟨[20, 28], [], [29], [(.slot 159)]⟩ :: ⟨[20, 25, 29], [], [30], [(.slot 160)]⟩ :: ⟨[20, 30], [], [31], [(.slot 161)]⟩ :: ⟨[31], [], [32], [(.slot 162)]⟩ :: ⟨[32, 2], [], [33], [(.slot 163)]⟩ :: ⟨[32, 3], [], [34], [(.slot 164)]⟩ :: ⟨[32, 33, 2, 34], [], [35], [(.slot 165)]⟩ :: ⟨[32, 35, 2], [], [36], [(.slot 166)]⟩ :: ⟨[32, 36, 2], [], [37], [(.slot 167)]⟩ :: ⟨[32, 0], [], [38], [(.slot 168)]⟩ :: ⟨[32, 38, 0], [], [39], [(.slot 169)]⟩ :: ⟨[32, 4], [], [40], [(.slot 170)]⟩ :: ⟨[32, 4], [], [41], [(.slot 171)]⟩ :: ⟨[32, 41], [], [42], [(.slot 172)]⟩ :: ⟨[32, 0], [], [43], [(.slot 173)]⟩ :: ⟨[32, 43, 0], [], [44], [(.slot 174)]⟩ :: ⟨[32, 44], [], [45], [(.slot 175)]⟩ :: ⟨[32, 42, 45], [], [46], [(.slot 176)]⟩ :: ⟨[32, 39, 40, 46], [], [47], [(.slot 177)]⟩ :: ⟨[32, 37, 47], [], [48], [(.slot 178)]⟩ :: ⟨[32, 48], [], [49], [(.slot 179)]⟩ :: ⟨[32, 49], [], [50], [(.slot 180)]⟩ :: [])) (es' := [(_, _), (_, _), (_, _), (_, _), (180, .v (.bool (!v56)))]) (by kernel_rfl) rfl rfl
                                  ⟨st_plain rfl (op_move _ _ _ _ rfl rfl),
                                    st_plain rfl (op_move _ _ _ _ rfl rfl),
                                    st_plain rfl (op_ix_fr _ _ _ _ _ _ _ _ Try.underlying31 sz26 (by decide) rfl rfl rfl (ix_ok hv43).1 (gflat_lt T_Frame.ilen (ix_ok hv43).2) rfl),
                                    st_plain rfl (op_fieldAddr_e _ _ _ _ _ _ _ Try.underlying26 rfl sz3 rfl rfl rfl),
                                    st_plain rfl (op_load_fr _ _ _ _ _ _ _ Try.underlying3 rfl rfl rfl (gflat_cell T_Frame.ilen hv44 rfl) (.v _)),
                                    st_plain rfl (op_bin _ _ _ _ _ rfl rfl rfl),
                                    st_plain rfl (op_move _ _ _ _ (congrArg (fun b => AV.v (Value.bool b)) hg22_6) rfl),
                                    st_run 6 141 false rfl rfl rfl (List.Mem.head _) (op_move _ _ _ _ rfl rfl),
                                    st_run 6 141 false rfl rfl rfl (List.Mem.head _) (op_move _ _ _ _ rfl rfl),
                                    st_run 6 141 false rfl rfl rfl (List.Mem.head _) (op_ix_fr _ _ _ _ _ _ _ _ Try.underlying31 sz26 (by decide) rfl rfl rfl (ix_ok hv45).1 (gflat_lt T_Frame.ilen (ix_ok hv45).2) rfl),
                                    st_run 6 141 false rfl rfl rfl (List.Mem.head _) (op_fieldAddr_e _ _ _ _ _ _ _ Try.underlying26 rfl sz3 rfl rfl rfl),
                                    st_run 6 141 false rfl rfl rfl (List.Mem.head _) (op_load_fr _ _ _ _ _ _ _ Try.underlying3 rfl rfl rfl (gflat_cell T_Frame.ilen hv46 rfl) (.v _)),
                                    st_run 6 141 false rfl rfl rfl (List.Mem.head _) (op_move _ _ _ _ rfl rfl),
                                    st_run 6 141 false rfl rfl rfl (List.Mem.head _) (op_bin _ _ _ _ _ rfl rfl rfl),
                                    st_plain rfl (op_pick _ _ false _ rfl rfl),
                                    st_plain rfl (op_move _ _ _ _ (congrArg (fun b => AV.v (Value.bool b)) hg22_15) rfl),
                                    st_run 15 150 false rfl rfl rfl (List.Mem.head _) (op_move _ _ _ _ rfl rfl),
                                    st_run 15 150 false rfl rfl rfl (List.Mem.head _) (op_move _ _ _ _ rfl rfl),
                                    st_run 15 150 false rfl rfl rfl (List.Mem.head _) (op_ix_fr _ _ _ _ _ _ _ _ Try.underlying31 sz26 (by decide) rfl rfl rfl (ix_ok hv47).1 (gflat_lt T_Frame.ilen (ix_ok hv47).2) rfl),
                                    st_run 15 150 false rfl rfl rfl (List.Mem.head _) (op_fieldAddr_e _ _ _ _ _ _ _ Try.underlying26 rfl sz3 rfl rfl rfl),
                                    st_run 15 150 false rfl rfl rfl (List.Mem.head _) (op_load_fr _ _ _ _ _ _ _ Try.underlying3 rfl rfl rfl (gflat_cell T_Frame.ilen hv48 rfl) (.v _)),
                                    st_run 15 150 false rfl rfl rfl (List.Mem.head _) (op_move _ _ _ _ rfl rfl),
                                    st_run 15 150 false rfl rfl rfl (List.Mem.head _) (op_move _ _ _ _ rfl rfl),
                                    st_run 15 150 false rfl rfl rfl (List.Mem.head _) (op_bin _ _ _ _ _ rfl rfl (ibind (f := Value.int .i64) (Option.some.inj hv49))),
                                    st_run 15 150 false rfl rfl rfl (List.Mem.head _) (op_bin _ _ _ _ _ rfl rfl (rem_ok hv50)),
                                    st_run 15 150 false rfl rfl rfl (List.Mem.head _) (op_bin _ _ _ _ _ rfl rfl rfl),
                                    st_plain rfl (op_pick _ _ false _ rfl rfl),
                                    st_plain rfl (op_move _ _ _ _ (congrArg (fun b => AV.v (Value.bool b)) hg22_27) rfl),
                                    st_run 27 162 false rfl rfl rfl (List.Mem.head _) (op_move _ _ _ _ rfl rfl),
                                    st_run 27 162 false rfl rfl rfl (List.Mem.head _) (op_move _ _ _ _ rfl rfl),
                                    st_run 27 162 false rfl rfl rfl (List.Mem.head _) (op_ix_fr _ _ _ _ _ _ _ _ Try.underlying31 sz26 (by decide) rfl rfl rfl (ix_ok hv51).1 (gflat_lt T_Frame.ilen (ix_ok hv51).2) rfl),
                                    st_run 27 162 false rfl rfl rfl (List.Mem.head _) (op_fieldAddr_e _ _ _ _ _ _ _ Try.underlying26 rfl sz22 rfl rfl rfl),
                                    st_run 27 162 false rfl rfl rfl (List.Mem.head _) (op_load_fr _ _ _ _ _ _ _ Try.underlying22 rfl rfl rfl (gflat_cell T_Frame.ilen hv52 rfl) (.fl _ _ rfl)),
                                    st_run 27 162 false rfl rfl rfl (List.Mem.head _) (op_fieldAddr _ _ _ _ 2 0 _ Try.underlying24 rfl sz22 rfl rfl (by decide)),
                                    st_run 27 162 false rfl rfl rfl (List.Mem.head _) (op_load _ _ _ _ _ _ Try.underlying22 rfl rfl rfl (Nat.le_of_ble_eq_true rfl) rfl rfl rfl),
                                    st_run 27 162 false rfl rfl rfl (List.Mem.head _) (op_move _ _ _ _ rfl rfl),
                                    st_run 27 162 false rfl rfl rfl (List.Mem.head _) (op_move _ _ _ _ rfl rfl),
                                    st_run 27 162 false rfl rfl rfl (List.Mem.head _) (op_bin _ _ _ _ _ rfl rfl (ibind (f := Value.int .i64) (Option.some.inj hv53))),
                                    st_run 27 162 false rfl rfl rfl (List.Mem.head _) (op_fieldAddr _ _ _ _ 2 0 _ Try.underlying24 rfl sz22 rfl rfl (by decide)),
                                    st_run 27 162 false rfl rfl rfl (List.Mem.head _) (op_load _ _ _ _ _ _ Try.underlying22 rfl rfl rfl (Nat.le_of_ble_eq_true rfl) rfl rfl rfl),
                                    st_run 27 162 false rfl rfl rfl (List.Mem.head _) (op_len_fl _ _ _ Try.underlying22 rfl (by decide) (map_len _)),
                                    st_run 27 162 false rfl rfl rfl (List.Mem.head _) ((Option.some.inj hv54) ▸ op_min _ _ _ _ rfl rfl),
                                    st_run 27 162 false rfl rfl rfl (List.Mem.head _) (op_sl _ _ _ v42 v54 _ Try.underlying22 sz5 rfl rfl ⟨_, rfl⟩ ⟨_, rfl⟩ hv55),
                                    st_run 27 162 false rfl rfl rfl (List.Mem.head _) (op_call _ _ 28 _ _ rfl Try.call28 rfl (ok_wherrykeep_Bytes v52.Data v55 _ hv56) rfl rfl),
                                    st_run 27 162 false rfl rfl rfl (List.Mem.head _) (op_un _ _ _ _ rfl rfl),
                                    st_plain rfl (op_pick _ _ false _ rfl rfl),
                                    trivial⟩ ?_
                                exact hl86 _ (Option.some.inj h).symm
                      · have h := cond_f hb83 h
                        refine ht_exit ?_
                        refine pt_x_then ?_
                        refine pt_x_then ?_
                        refine pt_x_in ?_
                        refine pt_pick [0] (by kernel_rfl) (es' := [(_, _)]) rfl ?_
                        exact hl78 _ (ho80 _ (Option.some.inj h).symm).symm
                · intro u36 h hl37 hr38
                  obtain ⟨v32, hv32, h⟩ := bind_some h
                  obtain ⟨v33, hv33, h⟩ := bind_some h
                  refine cond_some h (fun hg16_7 h => ?_) (fun hg16_7 h => ?_)
                  · refine ht_seqR hn (El := (_ :: _ :: _ :: _ :: _ :: _ :: (103, .same (.slot 10)) :: (104, .v (.int .i64 (v22.2.1.length : Int))) :: (105, .v (.int .i64 v7)) :: (106, .v (.int .i64 v13)) :: (107, .v (.int .i64 v32)) :: (108, .v (.int .i64 v33)) :: (109, .v (.bool (((v22.2.1.length : Int) != v33)))) :: (110, .v (.bool true)) :: (111, .v undef) :: (112, .v undef) :: (113, .v undef) :: (114, .v undef) :: (115, .v undef) :: (116, .v undef) :: (117, .v undef) :: (118, .v (.bool true)) :: (119, .v (.bool true)) :: (120, .v undef) :: (121, .v undef) :: (122, .v undef) :: (123, .v undef) :: (124, .v (.bool true)) :: [])) (init := [0, 1, 2, 3, 4, 5]) (fin := [0, 2, 4, 27]) (sps := (⟨[4], [], [6], [(.slot 103)]⟩ :: ⟨[6, 4], [], [7], [(.slot 104)]⟩ :: ⟨[1], [], [8], [(.slot 105)]⟩ :: ⟨[2], [], [9], [(.slot 106)]⟩ :: ⟨[8, 9], [], [10], [(.slot 107)]⟩ :: ⟨[10], [], [11], [(.slot 108)]⟩ :: ⟨[7, 11], [], [12], [(.slot 109)]⟩ :: ⟨[12], [], [13], [(.slot 110)]⟩ :: ⟨[13], [], [14], [(.slot 111)]⟩ :: ⟨[13], [], [15], [(.slot 112)]⟩ :: ⟨[13], [], [16], [(.slot 113)]⟩ :: ⟨[13], [], [17], [(.slot 114)]⟩ :: ⟨[13], [], [18], [(.slot 115)]⟩ :: ⟨[13], [], [19], [(.slot 116)]⟩ :: ⟨[13], [], [20], [(.slot 117)]⟩ :: ⟨[13], [], [21], [(.slot 118)]⟩ :: ⟨[21], [], [22], [(.slot 119)]⟩ :: ⟨[22], [], [23], [(.slot 120)]⟩ :: ⟨[22], [], [24], [(.slot 121)]⟩ :: ⟨[22], [], [25], [(.slot 122)]⟩ :: ⟨[22], [], [26], [(.slot 123)]⟩ :: ⟨[22], [], [27], [(.slot 124)]⟩ :: [])) (es' := [(_, _), (_, _), (_, _), (124, .v (.bool true))]) (by kernel_rfl) rfl rfl
                      ⟨st_plain rfl (op_move _ _ _ _ rfl rfl),
                        st_plain rfl (op_len_fr _ _ _ Try.underlying31 rfl (by decide) (gflat_len T_Frame.ilen _)),
                        st_plain rfl (op_move _ _ _ _ rfl rfl),
                        st_plain rfl (op_move _ _ _ _ rfl rfl),
                        st_plain rfl (op_bin _ _ _ _ _ rfl rfl (ibind (f := Value.int .i64) (Option.some.inj hv32))),
                        st_plain rfl ((Option.some.inj hv33) ▸ op_min _ _ _ _ rfl rfl),
                        st_plain rfl (op_bin _ _ _ _ _ rfl rfl rfl),
                        st_plain rfl (op_move _ _ _ _ (congrArg (fun b => AV.v (Value.bool b)) hg16_7) rfl),
                        st_skip 7 110 _ false rfl rfl rfl rfl (List.Mem.head _),
                        st_skip 7 110 _ false rfl rfl rfl rfl (List.Mem.head _),
                        st_skip 7 110 _ false rfl rfl rfl rfl (List.Mem.head _),
                        st_skip 7 110 _ false rfl rfl rfl rfl (List.Mem.head _),
                        st_skip 7 110 _ false rfl rfl rfl rfl (List.Mem.head _),
                        st_skip 7 110 _ false rfl rfl rfl rfl (List.Mem.head _),
                        st_skip 7 110 _ false rfl rfl rfl rfl (List.Mem.head _),
                        st_plain rfl (op_pick _ _ true _ rfl rfl),
                        st_plain rfl (op_move _ _ _ _ rfl rfl),
                        st_skip 16 119 _ false rfl rfl rfl rfl (List.Mem.head _),
                        st_skip 16 119 _ false rfl rfl rfl rfl (List.Mem.head _),
                        st_skip 16 119 _ false rfl rfl rfl rfl (List.Mem.head _),
                        st_skip 16 119 _ false rfl rfl rfl rfl (List.Mem.head _),
                        st_plain rfl (op_pick _ _ true _ rfl rfl),
                        trivial⟩ ?_
                    exact hl37 _ (Option.some.inj h).symm
                  · obtain ⟨v34, hv34, h⟩ := bind_some h
                    refine cond_some h (fun hg16_16 h => ?_) (fun hg16_16 h => ?_)
                    · refine ht_seqR hn (El := (_ :: _ :: _ :: _ :: _ :: _ :: (103, .same (.slot 10)) :: (104, .v (.int .i64 (v22.2.1.length : Int))) :: (105, .v (.int .i64 v7)) :: (106, .v (.int .i64 v13)) :: (107, .v (.int .i64 v32)) :: (108, .v (.int .i64 v33)) :: (109, .v (.bool (((v22.2.1.length : Int) != v33)))) :: (110, .v (.bool false)) :: (111, .ptr 9 4) :: (112, .v (.int .i64 v22.1.Next)) :: (113, .v (.int .i64 v13)) :: (114, .same (.slot 10)) :: (115, .v (.int .i64 (v22.2.1.length : Int))) :: (116, .v (.int .i64 v34)) :: (117, .v (.bool (v22.1.Next != v34))) :: (118, .v (.bool (v22.1.Next != v34))) :: (119, .v (.bool true)) :: (120, .v undef) :: (121, .v undef) :: (122, .v undef) :: (123, .v undef) :: (124, .v (.bool true)) :: [])) (init := [0, 1, 2, 3, 4, 5]) (fin := [0, 2, 4, 27]) (sps := (⟨[4], [], [6], [(.slot 103)]⟩ :: ⟨[6, 4], [], [7], [(.slot 104)]⟩ :: ⟨[1], [], [8], [(.slot 105)]⟩ :: ⟨[2], [], [9], [(.slot 106)]⟩ :: ⟨[8, 9], [], [10], [(.slot 107)]⟩ :: ⟨[10], [], [11], [(.slot 108)]⟩ :: ⟨[7, 11], [], [12], [(.slot 109)]⟩ :: ⟨[12], [], [13], [(.slot 110)]⟩ :: ⟨[13, 3], [], [14], [(.slot 111)]⟩ :: ⟨[13, 14, 3], [], [15], [(.slot 112)]⟩ :: ⟨[13, 2], [], [16], [(.slot 113)]⟩ :: ⟨[13, 4], [], [17], [(.slot 114)]⟩ :: ⟨[13, 17, 4], [], [18], [(.slot 115)]⟩ :: ⟨[13, 16, 18], [], [19], [(.slot 116)]⟩ :: ⟨[13, 15, 19], [], [20], [(.slot 117)]⟩ :: ⟨[13, 20], [], [21], [(.slot 118)]⟩ :: ⟨[21], [], [22], [(.slot 119)]⟩ :: ⟨[22], [], [23], [(.slot 120)]⟩ :: ⟨[22], [], [24], [(.slot 121)]⟩ :: ⟨[22], [], [25], [(.slot 122)]⟩ :: ⟨[22], [], [26], [(.slot 123)]⟩ :: ⟨[22], [], [27], [(.slot 124)]⟩ :: [])) (es' := [(_, _), (_, _), (_, _), (124, .v (.bool true))]) (by kernel_rfl) rfl rfl
                        ⟨st_plain rfl (op_move _ _ _ _ rfl rfl),
                          st_plain rfl (op_len_fr _ _ _ Try.underlying31 rfl (by decide) (gflat_len T_Frame.ilen _)),
                          st_plain rfl (op_move _ _ _ _ rfl rfl),
                          st_plain rfl (op_move _ _ _ _ rfl rfl),
                          st_plain rfl (op_bin _ _ _ _ _ rfl rfl (ibind (f := Value.int .i64) (Option.some.inj hv32))),
                          st_plain rfl ((Option.some.inj hv33) ▸ op_min _ _ _ _ rfl rfl),
                          st_plain rfl (op_bin _ _ _ _ _ rfl rfl rfl),
                          st_plain rfl (op_move _ _ _ _ (congrArg (fun b => AV.v (Value.bool b)) hg16_7) rfl),
                          st_run 7 110 false rfl rfl rfl (List.Mem.head _) (op_fieldAddr _ _ _ _ 9 0 _ Try.underlying24 rfl sz3 rfl rfl (by decide)),
                          st_run 7 110 false rfl rfl rfl (List.Mem.head _) (op_load _ _ _ _ _ _ Try.underlying3 rfl rfl rfl (Nat.le_of_ble_eq_true rfl) rfl rfl rfl),
                          st_run 7 110 false rfl rfl rfl (List.Mem.head _) (op_move _ _ _ _ rfl rfl),
                          st_run 7 110 false rfl rfl rfl (List.Mem.head _) (op_move _ _ _ _ rfl rfl),
                          st_run 7 110 false rfl rfl rfl (List.Mem.head _) (op_len_fr _ _ _ Try.underlying31 rfl (by decide) (gflat_len T_Frame.ilen _)),
                          st_run 7 110 false rfl rfl rfl (List.Mem.head _) (op_bin _ _ _ _ _ rfl rfl (ibind (f := Value.int .i64) (Option.some.inj hv34))),
                          st_run 7 110 false rfl rfl rfl (List.Mem.head _) (op_bin _ _ _ _ _ rfl rfl rfl),
                          st_plain rfl (op_pick _ _ false _ rfl rfl),
                          st_plain rfl (op_move _ _ _ _ (congrArg (fun b => AV.v (Value.bool b)) hg16_16) rfl),
                          st_skip 16 119 _ false rfl rfl rfl rfl (List.Mem.head _),
                          st_skip 16 119 _ false rfl rfl rfl rfl (List.Mem.head _),
                          st_skip 16 119 _ false rfl rfl rfl rfl (List.Mem.head _),
                          st_skip 16 119 _ false rfl rfl rfl rfl (List.Mem.head _),
                          st_plain rfl (op_pick _ _ true _ rfl rfl),
                          trivial⟩ ?_
                      exact hl37 _ (Option.some.inj h).symm
                    · refine ht_seqR hn (El := (_ :: _ :: _ :: _ :: _ :: _ :: (103, .same (.slot 10)) :: (104, .v (.int .i64 (v22.2.1.length : Int))) :: (105, .v (.int .i64 v7)) :: (106, .v (.int .i64 v13)) :: (107, .v (.int .i64 v32)) :: (108, .v (.int .i64 v33)) :: (109, .v (.bool (((v22.2.1.length : Int) != v33)))) :: (110, .v (.bool false)) :: (111, .ptr 9 4) :: (112, .v (.int .i64 v22.1.Next)) :: (113, .v (.int .i64 v13)) :: (114, .same (.slot 10)) :: (115, .v (.int .i64 (v22.2.1.length : Int))) :: (116, .v (.int .i64 v34)) :: (117, .v (.bool (v22.1.Next != v34))) :: (118, .v (.bool (v22.1.Next != v34))) :: (119, .v (.bool false)) :: (120, .ptr 9 3) :: (121, .v (.int .i64 v22.1.Base)) :: (122, .v (.int .i64 v13)) :: (123, .v (.bool (v22.1.Base != v13))) :: (124, .v (.bool (v22.1.Base != v13))) :: [])) (init := [0, 1, 2, 3, 4, 5]) (fin := [0, 2, 4, 27]) (sps := (⟨[4], [], [6], [(.slot 103)]⟩ :: ⟨[6, 4], [], [7], [(.slot 104)]⟩ :: ⟨[1], [], [8], [(.slot 105)]⟩ :: ⟨[2], [], [9], [(.slot 106)]⟩ :: ⟨[8, 9], [], [10], [(.slot 107)]⟩ :: ⟨[10], [], [11], [(.slot 108)]⟩ :: ⟨[7, 11], [], [12], [(.slot 109)]⟩ :: ⟨[12], [], [13], [(.slot 110)]⟩ :: ⟨[13, 3], [], [14], [(.slot 111)]⟩ :: ⟨[13, 14, 3], [], [15], [(.slot 112)]⟩ :: ⟨[13, 2], [], [16], [(.slot 113)]⟩ :: ⟨[13, 4], [], [17], [(.slot 114)]⟩ :: ⟨[13, 17, 4], [], [18], [(.slot 115)]⟩ :: ⟨[13, 16, 18], [], [19], [(.slot 116)]⟩ :: ⟨[13, 15, 19], [], [20], [(.slot 117)]⟩ :: ⟨[13, 20], [], [21], [(.slot 118)]⟩ :: ⟨[21], [], [22], [(.slot 119)]⟩ :: ⟨[22, 3], [], [23], [(.slot 120)]⟩ :: ⟨[22, 23, 3], [], [24], [(.slot 121)]⟩ :: ⟨[22, 2], [], [25], [(.slot 122)]⟩ :: ⟨[22, 24, 25], [], [26], [(.slot 123)]⟩ :: ⟨[22, 26], [], [27], [(.slot 124)]⟩ :: [])) (es' := [(_, _), (_, _), (_, _), (124, .v (.bool (v22.1.Base != v13)))]) (by kernel_rfl) rfl rfl
                        ⟨st_plain rfl (op_move _ _ _ _ rfl rfl),
                          st_plain rfl (op_len_fr _ _ _ Try.underlying31 rfl (by decide) (gflat_len T_Frame.ilen _)),
                          st_plain rfl (op_move _ _ _ _ rfl rfl),
                          st_plain rfl (op_move _ _ _ _ rfl rfl),
                          st_plain rfl (op_bin _ _ _ _ _ rfl rfl (ibind (f := Value.int .i64) (Option.some.inj hv32))),
                          st_plain rfl ((Option.some.inj hv33) ▸ op_min _ _ _ _ rfl rfl),
                          st_plain rfl (op_bin _ _ _ _ _ rfl rfl rfl),
                          st_plain rfl (op_move _ _ _ _ (congrArg (fun b => AV.v (Value.bool b)) hg16_7) rfl),
                          st_run 7 110 false rfl rfl rfl (List.Mem.head _) (op_fieldAddr _ _ _ _ 9 0 _ Try.underlying24 rfl sz3 rfl rfl (by decide)),
                          st_run 7 110 false rfl rfl rfl (List.Mem.head _) (op_load _ _ _ _ _ _ Try.underlying3 rfl rfl rfl (Nat.le_of_ble_eq_true rfl) rfl rfl rfl),
                          st_run 7 110 false rfl rfl rfl (List.Mem.head _) (op_move _ _ _ _ rfl rfl),
                          st_run 7 110 false rfl rfl rfl (List.Mem.head _) (op_move _ _ _ _ rfl rfl),
                          st_run 7 110 false rfl rfl rfl (List.Mem.head _) (op_len_fr _ _ _ Try.underlying31 rfl (by decide) (gflat_len T_Frame.ilen _)),
                          st_run 7 110 false rfl rfl rfl (List.Mem.head _) (op_bin _ _ _ _ _ rfl rfl (ibind (f := Value.int .i64) (Option.some.inj hv34))),
                          st_run 7 110 false rfl rfl rfl (List.Mem.head _) (op_bin _ _ _ _ _ rfl rfl rfl),
                          st_plain rfl (op_pick _ _ false _ rfl rfl),
                          st_plain rfl (op_move _ _ _ _ (congrArg (fun b => AV.v (Value.bool b)) hg16_16) rfl),
                          st_run 16 119 false rfl rfl rfl (List.Mem.head _) (op_fieldAddr _ _ _ _ 9 0 _ Try.underlying24 rfl sz3 rfl rfl (by decide)),
                          st_run 16 119 false rfl rfl rfl (List.Mem.head _) (op_load _ _ _ _ _ _ Try.underlying3 rfl rfl rfl (Nat.le_of_ble_eq_true rfl) rfl rfl rfl),
                          st_run 16 119 false rfl rfl rfl (List.Mem.head _) (op_move _ _ _ _ rfl rfl),
                          st_run 16 119 false rfl rfl rfl (List.Mem.head _) (op_bin _ _ _ _ _ rfl rfl rfl),
                          st_plain rfl (op_pick _ _ false _ rfl rfl),
                          trivial⟩ ?_
                      exact hl37 _ (Option.some.inj h).symm
        · intro u18 h hl19 hr20
          refine cond_some h (fun hg9_2 h => ?_) (fun hg9_2 h => ?_)
          · refine ht_seqR hn (El := (_ :: _ :: _ :: _ :: _ :: (55, .v (.int .i64 v16.2)) :: (56, .v (.bool (v16.2 != 0))) :: (57, .v (.bool true)) :: (58, .v undef) :: (59, .v undef) :: (60, .v undef) :: (61, .v (.bool true)) :: (62, .v (.bool true)) :: (63, .v undef) :: (64, .v undef) :: (65, .v undef) :: (66, .v undef) :: (67, .v (.bool true)) :: (68, .v (.bool true)) :: (69, .v undef) :: (70, .v undef) :: (71, .v undef) :: (72, .v undef) :: (73, .v (.bool true)) :: (74, .v (.bool true)) :: (75, .v undef) :: (76, .v undef) :: (77, .v undef) :: (78, .v (.bool true)) :: [])) (init := [0, 1, 2, 3, 4]) (fin := [0, 1, 2, 3, 28]) (sps := (⟨[4], [], [5], [(.slot 55)]⟩ :: ⟨[5], [], [6], [(.slot 56)]⟩ :: ⟨[6], [], [7], [(.slot 57)]⟩ :: ⟨[7], [], [8], [(.slot 58)]⟩ :: ⟨[7], [], [9], [(.slot 59)]⟩ :: ⟨[7], [], [10], [(.slot 60)]⟩ :: ⟨[7], [], [11], [(.slot 61)]⟩ :: ⟨[11], [], [12], [(.slot 62)]⟩ :: ⟨[12], [], [13], [(.slot 63)]⟩ :: ⟨[12], [], [14], [(.slot 64)]⟩ :: ⟨[12], [], [15], [(.slot 65)]⟩ :: ⟨[12], [], [16], [(.slot 66)]⟩ :: ⟨[12], [], [17], [(.slot 67)]⟩ :: ⟨[17], [], [18], [(.slot 68)]⟩ :: ⟨[18], [], [19], [(.slot 69)]⟩ :: ⟨[18], [], [20], [(.slot 70)]⟩ :: ⟨[18], [], [21], [(.slot 71)]⟩ :: ⟨[18], [], [22], [(.slot 72)]⟩ :: ⟨[18], [], [23], [(.slot 73)]⟩ :: ⟨[23], [], [24], [(.slot 74)]⟩ :: ⟨[24], [], [25], [(.slot 75)]⟩ :: ⟨[24], [], [26], [(.slot 76)]⟩ :: ⟨[24], [], [27], [(.slot 77)]⟩ :: ⟨[24], [], [28], [(.slot 78)]⟩ :: [])) (es' := [(_, _), (_, _), (_, _), (_, _), (78, .v (.bool true))]) (by kernel_rfl) rfl rfl
              ⟨st_plain rfl (op_move _ _ _ _ rfl rfl),
                st_plain rfl (op_bin _ _ _ _ _ rfl rfl rfl),
                st_plain rfl (op_move _ _ _ _ (congrArg (fun b => AV.v (Value.bool b)) hg9_2) rfl),
                st_skip 2 57 _ false rfl rfl rfl rfl (List.Mem.head _),
                st_skip 2 57 _ false rfl rfl rfl rfl (List.Mem.head _),
                st_skip 2 57 _ false rfl rfl rfl rfl (List.Mem.head _),
                st_plain rfl (op_pick _ _ true _ rfl rfl),
                st_plain rfl (op_move _ _ _ _ rfl rfl),
                st_skip 7 62 _ false rfl rfl rfl rfl (List.Mem.head _),
                st_skip 7 62 _ false rfl rfl rfl rfl (List.Mem.head _),
                st_skip 7 62 _ false rfl rfl rfl rfl (List.Mem.head _),
                st_skip 7 62 _ false rfl rfl rfl rfl (List.Mem.head _),
                st_plain rfl (op_pick _ _ true _ rfl rfl),
                st_plain rfl (op_move _ _ _ _ rfl rfl),
                st_skip 13 68 _ false rfl rfl rfl rfl (List.Mem.head _),
                st_skip 13 68 _ false rfl rfl rfl rfl (List.Mem.head _),
                st_skip 13 68 _ false rfl rfl rfl rfl (List.Mem.head _),
                st_skip 13 68 _ false rfl rfl rfl rfl (List.Mem.head _),
                st_plain rfl (op_pick _ _ true _ rfl rfl),
                st_plain rfl (op_move _ _ _ _ rfl rfl),
                st_skip 19 74 _ false rfl rfl rfl rfl (List.Mem.head _),
                st_skip 19 74 _ false rfl rfl rfl rfl (List.Mem.head _),
                st_skip 19 74 _ false rfl rfl rfl rfl (List.Mem.head _),
                st_plain rfl (op_pick _ _ true _ rfl rfl),
                trivial⟩ ?_
            exact hl19 _ (Option.some.inj h).symm
          · refine cond_some h (fun hg9_7 h => ?_) (fun hg9_7 h => ?_)
            · refine ht_seqR hn (El := (_ :: _ :: _ :: _ :: _ :: (55, .v (.int .i64 v16.2)) :: (56, .v (.bool (v16.2 != 0))) :: (57, .v (.bool false)) :: (58, .ptr 7 2) :: (59, .v (.bool v16.1.Ready)) :: (60, .v (.bool (!v16.1.Ready))) :: (61, .v (.bool (!v16.1.Ready))) :: (62, .v (.bool true)) :: (63, .v undef) :: (64, .v undef) :: (65, .v undef) :: (66, .v undef) :: (67, .v (.bool true)) :: (68, .v (.bool true)) :: (69, .v undef) :: (70, .v undef) :: (71, .v undef) :: (72, .v undef) :: (73, .v (.bool true)) :: (74, .v (.bool true)) :: (75, .v undef) :: (76, .v undef) :: (77, .v undef) :: (78, .v (.bool true)) :: [])) (init := [0, 1, 2, 3, 4]) (fin := [0, 1, 2, 3, 28]) (sps := (⟨[4], [], [5], [(.slot 55)]⟩ :: ⟨[5], [], [6], [(.slot 56)]⟩ :: ⟨[6], [], [7], [(.slot 57)]⟩ :: ⟨[7, 3], [], [8], [(.slot 58)]⟩ :: ⟨[7, 8, 3], [], [9], [(.slot 59)]⟩ :: ⟨[7, 9], [], [10], [(.slot 60)]⟩ :: ⟨[7, 10], [], [11], [(.slot 61)]⟩ :: ⟨[11], [], [12], [(.slot 62)]⟩ :: ⟨[12], [], [13], [(.slot 63)]⟩ :: ⟨[12], [], [14], [(.slot 64)]⟩ :: ⟨[12], [], [15], [(.slot 65)]⟩ :: ⟨[12], [], [16], [(.slot 66)]⟩ :: ⟨[12], [], [17], [(.slot 67)]⟩ :: ⟨[17], [], [18], [(.slot 68)]⟩ :: ⟨[18], [], [19], [(.slot 69)]⟩ :: ⟨[18], [], [20], [(.slot 70)]⟩ :: ⟨[18], [], [21], [(.slot 71)]⟩ :: ⟨[18], [], [22], [(.slot 72)]⟩ :: ⟨[18], [], [23], [(.slot 73)]⟩ :: ⟨[23], [], [24], [(.slot 74)]⟩ :: ⟨[24], [], [25], [(.slot 75)]⟩ :: ⟨[24], [], [26], [(.slot 76)]⟩ :: ⟨[24], [], [27], [(.slot 77)]⟩ :: ⟨[24], [], [28], [(.slot 78)]⟩ :: [])) (es' := [(_, _), (_, _), (_, _), (_, _), (78, .v (.bool true))]) (by kernel_rfl) rfl rfl
                ⟨st_plain rfl (op_move _ _ _ _ rfl rfl),
                  st_plain rfl (op_bin _ _ _ _ _ rfl rfl rfl),
                  st_plain rfl (op_move _ _ _ _ (congrArg (fun b => AV.v (Value.bool b)) hg9_2) rfl),
                  st_run 2 57 false rfl rfl rfl (List.Mem.head _) (op_fieldAddr _ _ _ _ 7 0 _ Try.underlying24 rfl sz4 rfl rfl (by decide)),
                  st_run 2 57 false rfl rfl rfl (List.Mem.head _) (op_load _ _ _ _ _ _ Try.underlying4 rfl rfl rfl (Nat.le_of_ble_eq_true rfl) rfl rfl rfl),
                  st_run 2 57 false rfl rfl rfl (List.Mem.head _) (op_un _ _ _ _ rfl rfl),
                  st_plain rfl (op_pick _ _ false _ rfl rfl),
                  st_plain rfl (op_move _ _ _ _ (congrArg (fun b => AV.v (Value.bool b)) hg9_7) rfl),
                  st_skip 7 62 _ false rfl rfl rfl rfl (List.Mem.head _),
                  st_skip 7 62 _ false rfl rfl rfl rfl (List.Mem.head _),
                  st_skip 7 62 _ false rfl rfl rfl rfl (List.Mem.head _),
                  st_skip 7 62 _ false rfl rfl rfl rfl (List.Mem.head _),
                  st_plain rfl (op_pick _ _ true _ rfl rfl),
                  st_plain rfl (op_move _ _ _ _ rfl rfl),
                  st_skip 13 68 _ false rfl rfl rfl rfl (List.Mem.head _),
                  st_skip 13 68 _ false rfl rfl rfl rfl (List.Mem.head _),
                  st_skip 13 68 _ false rfl rfl rfl rfl (List.Mem.head _),
                  st_skip 13 68 _ false rfl rfl rfl rfl (List.Mem.head _),
                  st_plain rfl (op_pick _ _ true _ rfl rfl),
                  st_plain rfl (op_move _ _ _ _ rfl rfl),
                  st_skip 19 74 _ false rfl rfl rfl rfl (List.Mem.head _),
                  st_skip 19 74 _ false rfl rfl rfl rfl (List.Mem.head _),
                  st_skip 19 74 _ false rfl rfl rfl rfl (List.Mem.head _),
                  st_plain rfl (op_pick _ _ true _ rfl rfl),
                  trivial⟩ ?_
              exact hl19 _ (Option.some.inj h).symm
            · refine cond_some h (fun hg9_13 h => ?_) (fun hg9_13 h => ?_)
              · refine ht_seqR hn (El := (_ :: _ :: _ :: _ :: _ :: (55, .v (.int .i64 v16.2)) :: (56, .v (.bool (v16.2 != 0))) :: (57, .v (.bool false)) :: (58, .ptr 7 2) :: (59, .v (.bool v16.1.Ready)) :: (60, .v (.bool (!v16.1.Ready))) :: (61, .v (.bool (!v16.1.Ready))) :: (62, .v (.bool false)) :: (63, .ptr 7 3) :: (64, .v (.int .i64 v16.1.Base)) :: (65, .v (.int .i64 v13)) :: (66, .v (.bool (v16.1.Base != v13))) :: (67, .v (.bool (v16.1.Base != v13))) :: (68, .v (.bool true)) :: (69, .v undef) :: (70, .v undef) :: (71, .v undef) :: (72, .v undef) :: (73, .v (.bool true)) :: (74, .v (.bool true)) :: (75, .v undef) :: (76, .v undef) :: (77, .v undef) :: (78, .v (.bool true)) :: [])) (init := [0, 1, 2, 3, 4]) (fin := [0, 1, 2, 3, 28]) (sps := (⟨[4], [], [5], [(.slot 55)]⟩ :: ⟨[5], [], [6], [(.slot 56)]⟩ :: ⟨[6], [], [7], [(.slot 57)]⟩ :: ⟨[7, 3], [], [8], [(.slot 58)]⟩ :: ⟨[7, 8, 3], [], [9], [(.slot 59)]⟩ :: ⟨[7, 9], [], [10], [(.slot 60)]⟩ :: ⟨[7, 10], [], [11], [(.slot 61)]⟩ :: ⟨[11], [], [12], [(.slot 62)]⟩ :: ⟨[12, 3], [], [13], [(.slot 63)]⟩ :: ⟨[12, 13, 3], [], [14], [(.slot 64)]⟩ :: ⟨[12, 2], [], [15], [(.slot 65)]⟩ :: ⟨[12, 14, 15], [], [16], [(.slot 66)]⟩ :: ⟨[12, 16], [], [17], [(.slot 67)]⟩ :: ⟨[17], [], [18], [(.slot 68)]⟩ :: ⟨[18], [], [19], [(.slot 69)]⟩ :: ⟨[18], [], [20], [(.slot 70)]⟩ :: ⟨[18], [], [21], [(.slot 71)]⟩ :: ⟨[18], [], [22], [(.slot 72)]⟩ :: ⟨[18], [], [23], [(.slot 73)]⟩ :: ⟨[23], [], [24], [(.slot 74)]⟩ :: ⟨[24], [], [25], [(.slot 75)]⟩ :: ⟨[24], [], [26], [(.slot 76)]⟩ :: ⟨[24], [], [27], [(.slot 77)]⟩ :: ⟨[24], [], [28], [(.slot 78)]⟩ :: [])) (es' := [(_, _), (_, _), (_, _), (_, _), (78, .v (.bool true))]) (by kernel_rfl) rfl rfl
                  ⟨st_plain rfl (op_move _ _ _ _ rfl rfl),
                    st_plain rfl (op_bin _ _ _ _ _ rfl rfl rfl),
                    st_plain rfl (op_move _ _ _ _ (congrArg (fun b => AV.v (Value.bool b)) hg9_2) rfl),
                    st_run 2 57 false rfl rfl rfl (List.Mem.head _) (op_fieldAddr _ _ _ _ 7 0 _ Try.underlying24 rfl sz4 rfl rfl (by decide)),
                    st_run 2 57 false rfl rfl rfl (List.Mem.head _) (op_load _ _ _ _ _ _ Try.underlying4 rfl rfl rfl (Nat.le_of_ble_eq_true rfl) rfl rfl rfl),
                    st_run 2 57 false rfl rfl rfl (List.Mem.head _) (op_un _ _ _ _ rfl rfl),
                    st_plain rfl (op_pick _ _ false _ rfl rfl),
                    st_plain rfl (op_move _ _ _ _ (congrArg (fun b => AV.v (Value.bool b)) hg9_7) rfl),
                    st_run 7 62 false rfl rfl rfl (List.Mem.head _) (op_fieldAddr _ _ _ _ 7 0 _ Try.underlying24 rfl sz3 rfl rfl (by decide)),
                    st_run 7 62 false rfl rfl rfl (List.Mem.head _) (op_load _ _ _ _ _ _ Try.underlying3 rfl rfl rfl (Nat.le_of_ble_eq_true rfl) rfl rfl rfl),
                    st_run 7 62 false rfl rfl rfl (List.Mem.head _) (op_move _ _ _ _ rfl rfl),
                    st_run 7 62 false rfl rfl rfl (List.Mem.head _) (op_bin _ _ _ _ _ rfl rfl rfl),
                    st_plain rfl (op_pick _ _ false _ rfl rfl),
                    st_plain rfl (op_move _ _ _ _ (congrArg (fun b => AV.v (Value.bool b)) hg9_13) rfl),
                    st_skip 13 68 _ false rfl rfl rfl rfl (List.Mem.head _),
                    st_skip 13 68 _ false rfl rfl rfl rfl (List.Mem.head _),
                    st_skip 13 68 _ false rfl rfl rfl rfl (List.Mem.head _),
                    st_skip 13 68 _ false rfl rfl rfl rfl (List.Mem.head _),
                    st_plain rfl (op_pick _ _ true _ rfl rfl),
                    st_plain rfl (op_move _ _ _ _ rfl rfl),
                    st_skip 19 74 _ false rfl rfl rfl rfl (List.Mem.head _),
                    st_skip 19 74 _ false rfl rfl rfl rfl (List.Mem.head _),
                    st_skip 19 74 _ false rfl rfl rfl rfl (List.Mem.head _),
                    st_plain rfl (op_pick _ _ true _ rfl rfl),
                    trivial⟩ ?_
                exact hl19 _ (Option.some.inj h).symm
              · refine cond_some h (fun hg9_19 h => ?_) (fun hg9_19 h => ?_)
                · refine ht_seqR hn (El := (_ :: _ :: _ :: _ :: _ :: (55, .v (.int .i64 v16.2)) :: (56, .v (.bool (v16.2 != 0))) :: (57, .v (.bool false)) :: (58, .ptr 7 2) :: (59, .v (.bool v16.1.Ready)) :: (60, .v (.bool (!v16.1.Ready))) :: (61, .v (.bool (!v16.1.Ready))) :: (62, .v (.bool false)) :: (63, .ptr 7 3) :: (64, .v (.int .i64 v16.1.Base)) :: (65, .v (.int .i64 v13)) :: (66, .v (.bool (v16.1.Base != v13))) :: (67, .v (.bool (v16.1.Base != v13))) :: (68, .v (.bool false)) :: (69, .ptr 7 4) :: (70, .v (.int .i64 v16.1.Next)) :: (71, .v (.int .i64 v13)) :: (72, .v (.bool (v16.1.Next != v13))) :: (73, .v (.bool (v16.1.Next != v13))) :: (74, .v (.bool true)) :: (75, .v undef) :: (76, .v undef) :: (77, .v undef) :: (78, .v (.bool true)) :: [])) (init := [0, 1, 2, 3, 4]) (fin := [0, 1, 2, 3, 28]) (sps := (⟨[4], [], [5], [(.slot 55)]⟩ :: ⟨[5], [], [6], [(.slot 56)]⟩ :: ⟨[6], [], [7], [(.slot 57)]⟩ :: ⟨[7, 3], [], [8], [(.slot 58)]⟩ :: ⟨[7, 8, 3], [], [9], [(.slot 59)]⟩ :: ⟨[7, 9], [], [10], [(.slot 60)]⟩ :: ⟨[7, 10], [], [11], [(.slot 61)]⟩ :: ⟨[11], [], [12], [(.slot 62)]⟩ :: ⟨[12, 3], [], [13], [(.slot 63)]⟩ :: ⟨[12, 13, 3], [], [14], [(.slot 64)]⟩ :: ⟨[12, 2], [], [15], [(.slot 65)]⟩ :: ⟨[12, 14, 15], [], [16], [(.slot 66)]⟩ :: ⟨[12, 16], [], [17], [(.slot 67)]⟩ :: ⟨[17], [], [18], [(.slot 68)]⟩ :: ⟨[18, 3], [], [19], [(.slot 69)]⟩ :: ⟨[18, 19, 3], [], [20], [(.slot 70)]⟩ :: ⟨[18, 2], [], [21], [(.slot 71)]⟩ :: ⟨[18, 20, 21], [], [22], [(.slot 72)]⟩ :: ⟨[18, 22], [], [23], [(.slot 73)]⟩ :: ⟨[23], [], [24], [(.slot 74)]⟩ :: ⟨[24], [], [25], [(.slot 75)]⟩ :: ⟨[24], [], [26], [(.slot 76)]⟩ :: ⟨[24], [], [27], [(.slot 77)]⟩ :: ⟨[24], [], [28], [(.slot 78)]⟩ :: [])) (es' := [(_, _), (_, _), (_, _), (_, _), (78, .v (.bool true))]) (by kernel_rfl) rfl rfl
                    ⟨st_plain rfl (op_move _ _ _ _ rfl rfl),
                      st_plain rfl (op_bin _ _ _ _ _ rfl rfl rfl),
                      st_plain rfl (op_move _ _ _ _ (congrArg (fun b => AV.v (Value.bool b)) hg9_2) rfl),
                      st_run 2 57 false rfl rfl rfl (List.Mem.head _) (op_fieldAddr _ _ _ _ 7 0 _ Try.underlying24 rfl sz4 rfl rfl (by decide)),
                      st_run 2 57 false rfl rfl rfl (List.Mem.head _) (op_load _ _ _ _ _ _ Try.underlying4 rfl rfl rfl (Nat.le_of_ble_eq_true rfl) rfl rfl rfl),
                      st_run 2 57 false rfl rfl rfl (List.Mem.head _) (op_un _ _ _ _ rfl rfl),
                      st_plain rfl (op_pick _ _ false _ rfl rfl),
                      st_plain rfl (op_move _ _ _ _ (congrArg (fun b => AV.v (Value.bool b)) hg9_7) rfl),
                      st_run 7 62 false rfl rfl rfl (List.Mem.head _) (op_fieldAddr _ _ _ _ 7 0 _ Try.underlying24 rfl sz3 rfl rfl (by decide)),
                      st_run 7 62 false rfl rfl rfl (List.Mem.head _) (op_load _ _ _ _ _ _ Try.underlying3 rfl rfl rfl (Nat.le_of_ble_eq_true rfl) rfl rfl rfl),
                      st_run 7 62 false rfl rfl rfl (List.Mem.head _) (op_move _ _ _ _ rfl rfl),
                      st_run 7 62 false rfl rfl rfl (List.Mem.head _) (op_bin _ _ _ _ _ rfl rfl rfl),
                      st_plain rfl (op_pick _ _ false _ rfl rfl),
                      st_plain rfl (op_move _ _ _ _ (congrArg (fun b => AV.v (Value.bool b)) hg9_13) rfl),
                      st_run 13 68 false rfl rfl rfl (List.Mem.head _) (op_fieldAddr _ _ _ _ 7 0 _ Try.underlying24 rfl sz3 rfl rfl (by decide)),
                      st_run 13 68 false rfl rfl rfl (List.Mem.head _) (op_load _ _ _ _ _ _ Try.underlying3 rfl rfl rfl (Nat.le_of_ble_eq_true rfl) rfl rfl rfl),
                      st_run 13 68 false rfl rfl rfl (List.Mem.head _) (op_move _ _ _ _ rfl rfl),
                      st_run 13 68 false rfl rfl rfl (List.Mem.head _) (op_bin _ _ _ _ _ rfl rfl rfl),
                      st_plain rfl (op_pick _ _ false _ rfl rfl),
                      st_plain rfl (op_move _ _ _ _ (congrArg (fun b => AV.v (Value.bool b)) hg9_19) rfl),
                      st_skip 19 74 _ false rfl rfl rfl rfl (List.Mem.head _),
                      st_skip 19 74 _ false rfl rfl rfl rfl (List.Mem.head _),
                      st_skip 19 74 _ false rfl rfl rfl rfl (List.Mem.head _),
                      st_plain rfl (op_pick _ _ true _ rfl rfl),
                      trivial⟩ ?_
                  exact hl19 _ (Option.some.inj h).symm
                · refine ht_seqR hn (El := (_ :: _ :: _ :: _ :: _ :: (55, .v (.int .i64 v16.2)) :: (56, .v (.bool (v16.2 != 0))) :: (57, .v (.bool false)) :: (58, .ptr 7 2) :: (59, .v (.bool v16.1.Ready)) :: (60, .v (.bool (!v16.1.Ready))) :: (61, .v (.bool (!v16.1.Ready))) :: (62, .v (.bool false)) :: (63, .ptr 7 3) :: (64, .v (.int .i64 v16.1.Base)) :: (65, .v (.int .i64 v13)) :: (66, .v (.bool (v16.1.Base != v13))) :: (67, .v (.bool (v16.1.Base != v13))) :: (68, .v (.bool false)) :: (69, .ptr 7 4) :: (70, .v (.int .i64 v16.1.Next)) :: (71, .v (.int .i64 v13)) :: (72, .v (.bool (v16.1.Next != v13))) :: (73, .v (.bool (v16.1.Next != v13))) :: (74, .v (.bool false)) :: (75, .ptr 7 5) :: (76, .v (.int .i64 v16.1.Wait)) :: (77, .v (.bool (v16.1.Wait != 0))) :: (78, .v (.bool (v16.1.Wait != 0))) :: [])) (init := [0, 1, 2, 3, 4]) (fin := [0, 1, 2, 3, 28]) (sps := (⟨[4], [], [5], [(.slot 55)]⟩ :: ⟨[5], [], [6], [(.slot 56)]⟩ :: ⟨[6], [], [7], [(.slot 57)]⟩ :: ⟨[7, 3], [], [8], [(.slot 58)]⟩ :: ⟨[7, 8, 3], [], [9], [(.slot 59)]⟩ :: ⟨[7, 9], [], [10], [(.slot 60)]⟩ :: ⟨[7, 10], [], [11], [(.slot 61)]⟩ :: ⟨[11], [], [12], [(.slot 62)]⟩ :: ⟨[12, 3], [], [13], [(.slot 63)]⟩ :: ⟨[12, 13, 3], [], [14], [(.slot 64)]⟩ :: ⟨[12, 2], [], [15], [(.slot 65)]⟩ :: ⟨[12, 14, 15], [], [16], [(.slot 66)]⟩ :: ⟨[12, 16], [], [17], [(.slot 67)]⟩ :: ⟨[17], [], [18], [(.slot 68)]⟩ :: ⟨[18, 3], [], [19], [(.slot 69)]⟩ :: ⟨[18, 19, 3], [], [20], [(.slot 70)]⟩ :: ⟨[18, 2], [], [21], [(.slot 71)]⟩ :: ⟨[18, 20, 21], [], [22], [(.slot 72)]⟩ :: ⟨[18, 22], [], [23], [(.slot 73)]⟩ :: ⟨[23], [], [24], [(.slot 74)]⟩ :: ⟨[24, 3], [], [25], [(.slot 75)]⟩ :: ⟨[24, 25, 3], [], [26], [(.slot 76)]⟩ :: ⟨[24, 26], [], [27], [(.slot 77)]⟩ :: ⟨[24, 27], [], [28], [(.slot 78)]⟩ :: [])) (es' := [(_, _), (_, _), (_, _), (_, _), (78, .v (.bool (v16.1.Wait != 0)))]) (by kernel_rfl) rfl rfl
                    ⟨st_plain rfl (op_move _ _ _ _ rfl rfl),
                      st_plain rfl (op_bin _ _ _ _ _ rfl rfl rfl),
                      st_plain rfl (op_move _ _ _ _ (congrArg (fun b => AV.v (Value.bool b)) hg9_2) rfl),
                      st_run 2 57 false rfl rfl rfl (List.Mem.head _) (op_fieldAddr _ _ _ _ 7 0 _ Try.underlying24 rfl sz4 rfl rfl (by decide)),
                      st_run 2 57 false rfl rfl rfl (List.Mem.head _) (op_load _ _ _ _ _ _ Try.underlying4 rfl rfl rfl (Nat.le_of_ble_eq_true rfl) rfl rfl rfl),
                      st_run 2 57 false rfl rfl rfl (List.Mem.head _) (op_un _ _ _ _ rfl rfl),
                      st_plain rfl (op_pick _ _ false _ rfl rfl),
                      st_plain rfl (op_move _ _ _ _ (congrArg (fun b => AV.v (Value.bool b)) hg9_7) rfl),
                      st_run 7 62 false rfl rfl rfl (List.Mem.head _) (op_fieldAddr _ _ _ _ 7 0 _ Try.underlying24 rfl sz3 rfl rfl (by decide)),
                      st_run 7 62 false rfl rfl rfl (List.Mem.head _) (op_load _ _ _ _ _ _ Try.underlying3 rfl rfl rfl (Nat.le_of_ble_eq_true rfl) rfl rfl rfl),
                      st_run 7 62 false rfl rfl rfl (List.Mem.head _) (op_move _ _ _ _ rfl rfl),
                      st_run 7 62 false rfl rfl rfl (List.Mem.head _) (op_bin _ _ _ _ _ rfl rfl rfl),
                      st_plain rfl (op_pick _ _ false _ rfl rfl),
                      st_plain rfl (op_move _ _ _ _ (congrArg (fun b => AV.v (Value.bool b)) hg9_13) rfl),
                      st_run 13 68 false rfl rfl rfl (List.Mem.head _) (op_fieldAddr _ _ _ _ 7 0 _ Try.underlying24 rfl sz3 rfl rfl (by decide)),
                      st_run 13 68 false rfl rfl rfl (List.Mem.head _) (op_load _ _ _ _ _ _ Try.underlying3 rfl rfl rfl (Nat.le_of_ble_eq_true rfl) rfl rfl rfl),
                      st_run 13 68 false rfl rfl rfl (List.Mem.head _) (op_move _ _ _ _ rfl rfl),
                      st_run 13 68 false rfl rfl rfl (List.Mem.head _) (op_bin _ _ _ _ _ rfl rfl rfl),
                      st_plain rfl (op_pick _ _ false _ rfl rfl),
                      st_plain rfl (op_move _ _ _ _ (congrArg (fun b => AV.v (Value.bool b)) hg9_19) rfl),
                      st_run 19 74 false rfl rfl rfl (List.Mem.head _) (op_fieldAddr _ _ _ _ 7 0 _ Try.underlying24 rfl sz3 rfl rfl (by decide)),
                      st_run 19 74 false rfl rfl rfl (List.Mem.head _) (op_load _ _ _ _ _ _ Try.underlying3 rfl rfl rfl (Nat.le_of_ble_eq_true rfl) rfl rfl rfl),
                      st_run 19 74 false rfl rfl rfl (List.Mem.head _) (op_bin _ _ _ _ _ rfl rfl rfl),
                      st_plain rfl (op_pick _ _ false _ rfl rfl),
                      trivial⟩ ?_
                  exact hl19 _ (Option.some.inj h).symm
  · intro u3 h hl4 hr5
    refine cond_some h (fun hg1_4 h => ?_) (fun hg1_4 h => ?_)
    · refine ht_seqR hn (El := (_ :: _ :: (16, .ptr 2 1) :: (17, .fl .shr 1 (List.map (Value.int .u8) s.Data)) :: (18, .v (.int .i64 (s.Data.length : Int))) :: (19, .v (.bool ((decide (5100 < (s.Data.length : Int)))))) :: (20, .v (.bool true)) :: (21, .v undef) :: (22, .v undef) :: (23, .v undef) :: (24, .v (.bool true)) :: (25, .v (.bool true)) :: (26, .v undef) :: (27, .v undef) :: (28, .v (.bool true)) :: [])) (init := [0, 1]) (fin := [0, 1, 14]) (sps := [⟨[1], [], [2], [(.slot 16)]⟩, ⟨[2, 1], [], [3], [(.slot 17)]⟩, ⟨[3], [], [4], [(.slot 18)]⟩, ⟨[4], [], [5], [(.slot 19)]⟩, ⟨[5], [], [6], [(.slot 20)]⟩, ⟨[6], [], [7], [(.slot 21)]⟩, ⟨[6], [], [8], [(.slot 22)]⟩, ⟨[6], [], [9], [(.slot 23)]⟩, ⟨[6], [], [10], [(.slot 24)]⟩, ⟨[10], [], [11], [(.slot 25)]⟩, ⟨[11], [], [12], [(.slot 26)]⟩, ⟨[11], [], [13], [(.slot 27)]⟩, ⟨[11], [], [14], [(.slot 28)]⟩]) (es' := [(_, _), (_, _), (28, .v (.bool true))]) (by kernel_rfl) rfl rfl
        ⟨st_plain rfl (op_fieldAddr _ _ _ _ 2 0 _ Try.underlying24 rfl sz22 rfl rfl (by decide)),
          st_plain rfl (op_load _ _ _ _ _ _ Try.underlying22 rfl rfl rfl (Nat.le_of_ble_eq_true rfl) rfl rfl rfl),
          st_plain rfl (op_len_fl _ _ _ Try.underlying22 rfl (by decide) (map_len _)),
          st_plain rfl (op_bin _ _ _ _ _ rfl rfl rfl),
          st_plain rfl (op_move _ _ _ _ (congrArg (fun b => AV.v (Value.bool b)) hg1_4) rfl),
          st_skip 4 20 _ false rfl rfl rfl rfl (List.Mem.head _),
          st_skip 4 20 _ false rfl rfl rfl rfl (List.Mem.head _),
          st_skip 4 20 _ false rfl rfl rfl rfl (List.Mem.head _),
          st_plain rfl (op_pick _ _ true _ rfl rfl),
          st_plain rfl (op_move _ _ _ _ rfl rfl),
          st_skip 9 25 _ false rfl rfl rfl rfl (List.Mem.head _),
          st_skip 9 25 _ false rfl rfl rfl rfl (List.Mem.head _),
          st_plain rfl (op_pick _ _ true _ rfl rfl),
          trivial⟩ ?_
      exact hl4 _ (Option.some.inj h).symm
    · obtain ⟨v1, hv1, h⟩ := bind_some h
      refine cond_some h (fun hg1_9 h => ?_) (fun hg1_9 h => ?_)
      · refine ht_seqR hn (El := (_ :: _ :: (16, .ptr 2 1) :: (17, .fl .shr 1 (List.map (Value.int .u8) s.Data)) :: (18, .v (.int .i64 (s.Data.length : Int))) :: (19, .v (.bool ((decide (5100 < (s.Data.length : Int)))))) :: (20, .v (.bool false)) :: (21, .agg [.v (.int .i64 s.Number), .fl .shr 1 (List.map (Value.int .u8) s.Data), .v (.bool s.Ready), .v (.int .i64 s.Base), .v (.int .i64 s.Next), .v (.int .i64 s.Wait), .v (.bool s.Over)]) :: (22, .v (.bool v1)) :: (23, .v (.bool (!v1))) :: (24, .v (.bool (!v1))) :: (25, .v (.bool true)) :: (26, .v undef) :: (27, .v undef) :: (28, .v (.bool true)) :: [])) (init := [0, 1]) (fin := [0, 1, 14]) (sps := [⟨[1], [], [2], [(.slot 16)]⟩, ⟨[2, 1], [], [3], [(.slot 17)]⟩, ⟨[3], [], [4], [(.slot 18)]⟩, ⟨[4], [], [5], [(.slot 19)]⟩, ⟨[5], [], [6], [(.slot 20)]⟩, ⟨[6, 1], [], [7], [(.slot 21)]⟩, ⟨[6, 7], [], [8], [(.slot 22)]⟩, ⟨[6, 8], [], [9], [(.slot 23)]⟩, ⟨[6, 9], [], [10], [(.slot 24)]⟩, ⟨[10], [], [11], [(.slot 25)]⟩, ⟨[11], [], [12], [(.slot 26)]⟩, ⟨[11], [], [13], [(.slot 27)]⟩, ⟨[11], [], [14], [(.slot 28)]⟩]) (es' := [(_, _), (_, _), (28, .v (.bool true))]) (by kernel_rfl) rfl rfl
          ⟨st_plain rfl (op_fieldAddr _ _ _ _ 2 0 _ Try.underlying24 rfl sz22 rfl rfl (by decide)),
            st_plain rfl (op_load _ _ _ _ _ _ Try.underlying22 rfl rfl rfl (Nat.le_of_ble_eq_true rfl) rfl rfl rfl),
            st_plain rfl (op_len_fl _ _ _ Try.underlying22 rfl (by decide) (map_len _)),
            st_plain rfl (op_bin _ _ _ _ _ rfl rfl rfl),
            st_plain rfl (op_move _ _ _ _ (congrArg (fun b => AV.v (Value.bool b)) hg1_4) rfl),
            st_run 4 20 false rfl rfl rfl (List.Mem.head _) (op_loadA _ _ _ _ _ _ _ Try.underlying24 rfl sz24 rfl rfl (Nat.le_of_ble_eq_true rfl) rfl rfl),
            st_run 4 20 false rfl rfl rfl (List.Mem.head _) (op_call _ _ 13 _ _ rfl Try.call13 rfl (ok_wherryref18_Send s _ hv1) rfl rfl),
            st_run 4 20 false rfl rfl rfl (List.Mem.head _) (op_un _ _ _ _ rfl rfl),
            st_plain rfl (op_pick _ _ false _ rfl rfl),
            st_plain rfl (op_move _ _ _ _ (congrArg (fun b => AV.v (Value.bool b)) hg1_9) rfl),
            st_skip 9 25 _ false rfl rfl rfl rfl (List.Mem.head _),
            st_skip 9 25 _ false rfl rfl rfl rfl (List.Mem.head _),
            st_plain rfl (op_pick _ _ true _ rfl rfl),
            trivial⟩ ?_
        exact hl4 _ (Option.some.inj h).symm
      · refine ht_seqR hn (El := (_ :: _ :: (16, .ptr 2 1) :: (17, .fl .shr 1 (List.map (Value.int .u8) s.Data)) :: (18, .v (.int .i64 (s.Data.length : Int))) :: (19, .v (.bool ((decide (5100 < (s.Data.length : Int)))))) :: (20, .v (.bool false)) :: (21, .agg [.v (.int .i64 s.Number), .fl .shr 1 (List.map (Value.int .u8) s.Data), .v (.bool s.Ready), .v (.int .i64 s.Base), .v (.int .i64 s.Next), .v (.int .i64 s.Wait), .v (.bool s.Over)]) :: (22, .v (.bool v1)) :: (23, .v (.bool (!v1))) :: (24, .v (.bool (!v1))) :: (25, .v (.bool false)) :: (26, .ptr 2 6) :: (27, .v (.bool s.Over)) :: (28, .v (.bool s.Over)) :: [])) (init := [0, 1]) (fin := [0, 1, 14]) (sps := [⟨[1], [], [2], [(.slot 16)]⟩, ⟨[2, 1], [], [3], [(.slot 17)]⟩, ⟨[3], [], [4], [(.slot 18)]⟩, ⟨[4], [], [5], [(.slot 19)]⟩, ⟨[5], [], [6], [(.slot 20)]⟩, ⟨[6, 1], [], [7], [(.slot 21)]⟩, ⟨[6, 7], [], [8], [(.slot 22)]⟩, ⟨[6, 8], [], [9], [(.slot 23)]⟩, ⟨[6, 9], [], [10], [(.slot 24)]⟩, ⟨[10], [], [11], [(.slot 25)]⟩, ⟨[11, 1], [], [12], [(.slot 26)]⟩, ⟨[11, 12, 1], [], [13], [(.slot 27)]⟩, ⟨[11, 13], [], [14], [(.slot 28)]⟩]) (es' := [(_, _), (_, _), (28, .v (.bool s.Over))]) (by kernel_rfl) rfl rfl
          ⟨st_plain rfl (op_fieldAddr _ _ _ _ 2 0 _ Try.underlying24 rfl sz22 rfl rfl (by decide)),
            st_plain rfl (op_load _ _ _ _ _ _ Try.underlying22 rfl rfl rfl (Nat.le_of_ble_eq_true rfl) rfl rfl rfl),
            st_plain rfl (op_len_fl _ _ _ Try.underlying22 rfl (by decide) (map_len _)),
            st_plain rfl (op_bin _ _ _ _ _ rfl rfl rfl),
            st_plain rfl (op_move _ _ _ _ (congrArg (fun b => AV.v (Value.bool b)) hg1_4) rfl),
            st_run 4 20 false rfl rfl rfl (List.Mem.head _) (op_loadA _ _ _ _ _ _ _ Try.underlying24 rfl sz24 rfl rfl (Nat.le_of_ble_eq_true rfl) rfl rfl),
            st_run 4 20 false rfl rfl rfl (List.Mem.head _) (op_call _ _ 13 _ _ rfl Try.call13 rfl (ok_wherryref18_Send s _ hv1) rfl rfl),
            st_run 4 20 false rfl rfl rfl (List.Mem.head _) (op_un _ _ _ _ rfl rfl),
            st_plain rfl (op_pick _ _ false _ rfl rfl),
            st_plain rfl (op_move _ _ _ _ (congrArg (fun b => AV.v (Value.bool b)) hg1_9) rfl),
            st_run 9 25 false rfl rfl rfl (List.Mem.head _) (op_fieldAddr _ _ _ _ 2 0 _ Try.underlying24 rfl sz4 rfl rfl (by decide)),
            st_run 9 25 false rfl rfl rfl (List.Mem.head _) (op_load _ _ _ _ _ _ Try.underlying4 rfl rfl rfl (Nat.le_of_ble_eq_true rfl) rfl rfl rfl),
            st_plain rfl (op_pick _ _ false _ rfl rfl),
            trivial⟩ ?_
        exact hl4 _ (Option.some.inj h).symm

end Go.Proofs.Ytdligpdfcfbgpaa
