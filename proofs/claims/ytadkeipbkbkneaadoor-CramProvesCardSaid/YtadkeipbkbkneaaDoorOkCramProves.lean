/-
  The model's runs are what is told in Lean.
-/
import Derived.Test.YtadkeipbkbkneaaDoorProg
import Derived.KernelRfl
import Derived.Test.YtadkeipbkbkneaaDoorShelf
import Derived.Test.YtadkeipbkbkneaaDoorOkc2
set_option linter.unusedVariables false
set_option linter.unusedSimpArgs false
namespace Go.Proofs.YtadkeipbkbkneaaDoor
open Go.Abs Go.Abs.Sh

set_option maxHeartbeats 1000000 in
theorem ok_wherrylaw10_CramProves (mx : Int) (user : ByteArray) (secret : ByteArray) (challenge : ByteArray) (other : ByteArray) (at_ : Int) (r : Bool) (h : Sh.wherrylaw10_CramProves user secret challenge other at_ = some r) : FnG Tryd.prog (GL mx) 5 [.v (.string user), .v (.string secret), .v (.string challenge), .v (.string other), .v (.int .i64 at_)] (.v (.bool r)) := by
  unfold Sh.wherrylaw10_CramProves at h
  refine fn_okG Tryd.func5 rfl (Nat.le_of_ble_eq_true rfl) rfl rfl fun g0 hn hio => ?_
  refine ht_seq ?_
  refine ht_seqR hn (El := [_, _, _, _, _, _, (10, .v (.bool false))]) (init := [0, 1, 2, 3, 4, 5]) (fin := [0, 1, 2, 3, 4, 5]) (sps := [⟨[], [], [6], [(.slot 10)]⟩]) (es' := [(_, _), (_, _), (_, _), (_, _), (_, _), (_, _)]) (by kernel_rfl) rfl rfl
   ⟨st_plain rfl (op_assign _ _ _ _ rfl rfl),
   trivial⟩ ?_
  refine pt_then ?_
  refine ht_seq ?_
  refine ht_seq ?_
  obtain ⟨v1, hv1, h⟩ := bind_some h
  obtain ⟨v2, hv2, h⟩ := bind_some h
  obtain ⟨v3, hv3, h⟩ := bind_some h
  refine ht_seqR hn (El := (_ :: _ :: _ :: _ :: _ :: _ :: (15, .v (.string user)) :: (16, .v (.int .i64 (user.size : Int))) :: (17, .v (.string secret)) :: (18, .v (.int .i64 (secret.size : Int))) :: (19, .v (.int .i64 v1)) :: (20, .v (.string challenge)) :: (21, .v (.int .i64 (challenge.size : Int))) :: (22, .v (.int .i64 v2)) :: (23, .v (.string other)) :: (24, .v (.int .i64 (other.size : Int))) :: (25, .v (.int .i64 v3)) :: (26, .v (.bool ((decide (800 < v3))))) :: [])) (init := [0, 1, 2, 3, 4, 5]) (fin := [0, 1, 2, 3, 4, 5, 17]) (sps := [⟨[0], [], [6], [(.slot 15)]⟩, ⟨[6], [], [7], [(.slot 16)]⟩, ⟨[1], [], [8], [(.slot 17)]⟩, ⟨[8], [], [9], [(.slot 18)]⟩, ⟨[7, 9], [], [10], [(.slot 19)]⟩, ⟨[2], [], [11], [(.slot 20)]⟩, ⟨[11], [], [12], [(.slot 21)]⟩, ⟨[10, 12], [], [13], [(.slot 22)]⟩, ⟨[3], [], [14], [(.slot 23)]⟩, ⟨[14], [], [15], [(.slot 24)]⟩, ⟨[13, 15], [], [16], [(.slot 25)]⟩, ⟨[16], [], [17], [(.slot 26)]⟩]) (es' := [(_, _), (_, _), (_, _), (_, _), (_, _), (_, _), (26, .v (.bool ((decide (800 < v3)))))]) (by kernel_rfl) rfl rfl
   ⟨st_plain rfl (op_move _ _ _ _ rfl rfl),
   st_plain rfl (op_len_str _ _ _ Tryd.underlying9 rfl),
   st_plain rfl (op_move _ _ _ _ rfl rfl),
   st_plain rfl (op_len_str _ _ _ Tryd.underlying9 rfl),
   st_plain rfl (op_bin _ _ _ _ _ rfl rfl (ibind (f := Value.int .i64) (Option.some.inj hv1))),
   st_plain rfl (op_move _ _ _ _ rfl rfl),
   st_plain rfl (op_len_str _ _ _ Tryd.underlying9 rfl),
   st_plain rfl (op_bin _ _ _ _ _ rfl rfl (ibind (f := Value.int .i64) (Option.some.inj hv2))),
   st_plain rfl (op_move _ _ _ _ rfl rfl),
   st_plain rfl (op_len_str _ _ _ Tryd.underlying9 rfl),
   st_plain rfl (op_bin _ _ _ _ _ rfl rfl (ibind (f := Value.int .i64) (Option.some.inj hv3))),
   st_plain rfl (op_bin _ _ _ _ _ rfl rfl rfl),
   trivial⟩ ?_
  refine pt_then ?_
  refine ht_cond _ rfl (fun hb4 => ?_) (fun hb4 => ?_)
  ·have h := cond_t hb4 h
   refine ht_seq ?_
   refine ht_seqR hn (El := [_, _, _, _, _, _, _, (10, .v (.bool true))]) (init := [0, 1, 2, 3, 4, 5, 6]) (fin := [5, 7]) (sps := [⟨[], [], [7], [(.slot 10)]⟩]) (es' := [(_, _), (10, .v (.bool true))]) (by kernel_rfl) rfl rfl
    ⟨st_plain rfl (op_assign _ _ _ _ rfl rfl),
    trivial⟩ ?_
   refine pt_then ?_
   refine ht_ret ?_
   refine pt_pick [1] (by kernel_rfl) (es' := [(_, _)]) rfl ?_
   refine pt_r_then ?_
   obtain rfl := Option.some.inj h
   exact pt_ret hio rfl (.tmp _ _ .nil) rfl rfl
  ·have h := cond_f hb4 h
   refine ht_skip ?_
   refine pt_then ?_
   refine ht_seq ?_
   obtain ⟨v5, hv5, h⟩ := bind_some h
   refine ht_seqR hn (El := [_, _, _, _, _, _, _, (27, .v (.string user)), (28, .v (.string secret)), (29, .v (.string challenge)), (30, .v (.string v5)), (11, .v (.string v5))]) (init := [0, 1, 2, 3, 4, 5, 6]) (fin := [0, 1, 2, 3, 4, 5, 11]) (sps := [⟨[0], [], [7], [(.slot 27)]⟩, ⟨[1], [], [8], [(.slot 28)]⟩, ⟨[2], [], [9], [(.slot 29)]⟩, ⟨[7, 8, 9, 5], [], [10], [(.slot 30)]⟩, ⟨[10], [], [11], [(.slot 11)]⟩]) (es' := [(_, _), (_, _), (_, _), (_, _), (_, _), (_, _), (11, .v (.string v5))]) (by kernel_rfl) rfl rfl
    ⟨st_plain rfl (op_move _ _ _ _ rfl rfl),
    st_plain rfl (op_move _ _ _ _ rfl rfl),
    st_plain rfl (op_move _ _ _ _ rfl rfl),
    st_plain rfl (op_callG _ _ 107 17 _ _ rfl Tryd.call17 rfl rfl (fun _ h => h) (ok_cram_Answer mx user secret challenge _ hv5) rfl rfl),
    st_plain rfl (op_assign _ _ _ _ rfl rfl),
    trivial⟩ ?_
   refine pt_then ?_
   refine ht_seq ?_
   refine ht_seq ?_
   refine ht_joinS h (fun (s9 : Bool) => [(0, .v (.string user)), (1, .v (.string secret)), (2, .v (.string challenge)), (3, .v (.string other)), (4, .v (.int .i64 at_)), (107, .glob (GL mx)), (11, .v (.string v5)), (49, .v (.bool s9))]) ?_ ?_
   ·rintro s9 h
    refine pt_then ?_
    refine ht_cond _ rfl (fun hb13 => ?_) (fun hb13 => ?_)
    ·have h := cond_t hb13 h
     refine ht_seq ?_
     refine ht_seqR hn (El := [_, _, _, _, _, _, _, _, (10, .v (.bool false))]) (init := [0, 1, 2, 3, 4, 5, 6, 7]) (fin := [5, 8]) (sps := [⟨[], [], [8], [(.slot 10)]⟩]) (es' := [(_, _), (10, .v (.bool false))]) (by kernel_rfl) rfl rfl
      ⟨st_plain rfl (op_assign _ _ _ _ rfl rfl),
      trivial⟩ ?_
     refine pt_then ?_
     refine ht_ret ?_
     refine pt_pick [1] (by kernel_rfl) (es' := [(_, _)]) rfl ?_
     refine pt_r_then ?_
     obtain rfl := Option.some.inj h
     exact pt_ret hio rfl (.tmp _ _ .nil) rfl rfl
    ·have h := cond_f hb13 h
     refine ht_skip ?_
     refine pt_then ?_
     refine ht_seq ?_
     obtain ⟨v14, hv14, h⟩ := bind_some h
     obtain ⟨v15, hv15, h⟩ := bind_some h
     obtain ⟨v16, hv16, h⟩ := bind_some h
     obtain ⟨v17, hv17, h⟩ := bind_some h
     refine ht_seqR hn (El := (_ :: _ :: _ :: _ :: _ :: _ :: _ :: _ :: (50, .v (.int .i64 at_)) :: (51, .v (.int .u64 v14)) :: (52, .v (.string v5)) :: (53, .v (.int .i64 (v5.size : Int))) :: (54, .v (.int .u64 v15)) :: (55, .v (.int .u64 v16)) :: (56, .v (.int .i64 v17)) :: (4, .v (.int .i64 v17)) :: [])) (init := [0, 1, 2, 3, 4, 5, 6, 7]) (fin := [0, 1, 2, 3, 5, 6, 15]) (sps := [⟨[4], [], [8], [(.slot 50)]⟩, ⟨[8], [], [9], [(.slot 51)]⟩, ⟨[6], [], [10], [(.slot 52)]⟩, ⟨[10], [], [11], [(.slot 53)]⟩, ⟨[11], [], [12], [(.slot 54)]⟩, ⟨[9, 12], [], [13], [(.slot 55)]⟩, ⟨[13], [], [14], [(.slot 56)]⟩, ⟨[14], [4], [15], [(.slot 4)]⟩]) (es' := [(_, _), (_, _), (_, _), (_, _), (_, _), (_, _), (4, .v (.int .i64 v17))]) (by kernel_rfl) rfl rfl
      ⟨st_plain rfl (op_move _ _ _ _ rfl rfl),
      st_plain rfl ((Option.some.inj hv14) ▸ op_conv _ _ _ Tryd.underlying3 Tryd.underlying36 rfl),
      st_plain rfl (op_move _ _ _ _ rfl rfl),
      st_plain rfl (op_len_str _ _ _ Tryd.underlying9 rfl),
      st_plain rfl ((Option.some.inj hv15) ▸ op_conv _ _ _ Tryd.underlying3 Tryd.underlying36 rfl),
      st_plain rfl (op_bin _ _ _ _ _ rfl rfl (rem_ok hv16)),
      st_plain rfl ((Option.some.inj hv17) ▸ op_conv _ _ _ Tryd.underlying36 Tryd.underlying3 rfl),
      st_plain rfl (LOp.drop [_] (op_assign _ _ _ _ rfl rfl)),
      trivial⟩ ?_
     refine pt_then ?_
     refine ht_seq ?_
     obtain ⟨v18, hv18, h⟩ := bind_some h
     refine ht_seqR hn (El := [_, _, _, _, _, _, _, (57, .v (.string v5)), (58, .mkr 5 (List.map (Value.int .u8) v18)), (12, .mkr 5 (List.map (Value.int .u8) v18))]) (init := [0, 1, 2, 3, 4, 5, 6]) (fin := [0, 1, 2, 3, 4, 5, 6, 9]) (sps := [⟨[5], [], [7], [(.slot 57)]⟩, ⟨[7], [], [8], [(.slot 58)]⟩, ⟨[], [8], [9], [(.slot 12)]⟩]) (es' := [(_, _), (_, _), (_, _), (_, _), (_, _), (_, _), (_, _), (12, .mkr 5 (List.map (Value.int .u8) v18))]) (by kernel_rfl) rfl rfl
      ⟨st_plain rfl (op_move _ _ _ _ rfl rfl),
      st_plain rfl ((Option.some.inj hv18) ▸ op_str_mk _ _ _ v5 Tryd.underlying9 Tryd.underlying22 Tryd.underlying5 rfl),
      st_plain rfl (op_assign_take _ _ _ _ rfl),
      trivial⟩ ?_
     refine pt_then ?_
     refine ht_seq ?_
     obtain ⟨v19, hv19, h⟩ := bind_some h
     obtain ⟨v20, hv20, h⟩ := bind_some h
     obtain ⟨v21, hv21, h⟩ := bind_some h
     obtain ⟨v22, hv22, h⟩ := bind_some h
     obtain ⟨v23, hv23, h⟩ := bind_some h
     refine ht_seqR hn (El := (_ :: _ :: _ :: _ :: _ :: _ :: _ :: _ :: (59, .same (.slot 12)) :: (60, .v (.int .i64 v17)) :: (61, .same (.slot 12)) :: (62, .v (.int .i64 v17)) :: (63, .eref (.slot 12) (v19 * 1)) :: (64, .v (.int .u8 v20)) :: (65, .v (.int .u8 v21)) :: (66, .eref (.slot 12) (v22 * 1)) :: (12, .mkr 5 (List.map (Value.int .u8) v23)) :: [])) (init := [0, 1, 2, 3, 4, 5, 6, 7]) (fin := [0, 1, 2, 3, 4, 5, 16]) (sps := [⟨[7], [], [8], [(.slot 59)]⟩, ⟨[6], [], [9], [(.slot 60)]⟩, ⟨[7], [], [10], [(.slot 61)]⟩, ⟨[6], [], [11], [(.slot 62)]⟩, ⟨[10, 7, 11], [], [12], [(.slot 63)]⟩, ⟨[12, 7], [], [13], [(.slot 64)]⟩, ⟨[13], [], [14], [(.slot 65)]⟩, ⟨[8, 7, 9], [], [15], [(.slot 66)]⟩, ⟨[15, 14], [7], [16], []⟩]) (es' := [(_, _), (_, _), (_, _), (_, _), (_, _), (_, _), (12, .mkr 5 (List.map (Value.int .u8) v23))]) (by kernel_rfl) rfl rfl
      ⟨st_plain rfl (op_move _ _ _ _ rfl rfl),
      st_plain rfl (op_move _ _ _ _ rfl rfl),
      st_plain rfl (op_move _ _ _ _ rfl rfl),
      st_plain rfl (op_move _ _ _ _ rfl rfl),
      st_plain rfl (op_ix_mk _ _ _ _ _ _ _ Tryd.underlying22 sz5 rfl rfl rfl (ix_ok hv19).1 (mk_lt' (ix_ok hv19).2) rfl),
      st_plain rfl (op_load_mk _ _ _ _ _ _ Tryd.underlying5 rfl rfl rfl (map_get hv20)),
      st_plain rfl (op_bin _ _ _ _ _ rfl rfl (ibind (f := Value.int .u8) (Option.some.inj hv21))),
      st_plain rfl (op_ix_mk _ _ _ _ _ _ _ Tryd.underlying22 sz5 rfl rfl rfl (ix_ok hv22).1 (mk_lt' (ix_ok hv22).2) rfl),
      st_plain rfl (op_store_mk _ _ _ _ _ _ _ sz5 rfl rfl rfl (mk_lt (ix_ok hv22).2) (mk_set (f := Value.int .u8) (Option.some.inj hv23))),
      trivial⟩ ?_
     refine pt_then ?_
     refine ht_seq ?_
     refine ht_seq ?_
     refine ht_joinS h (fun (s27 : Bool) => [(0, .v (.string user)), (1, .v (.string secret)), (2, .v (.string challenge)), (3, .v (.string other)), (107, .glob (GL mx)), (11, .v (.string v5)), (84, .v (.bool s27))]) ?_ ?_
     ·rintro s27 h
      refine pt_then ?_
      refine ht_cond _ rfl (fun hb31 => ?_) (fun hb31 => ?_)
      ·have h := cond_t hb31 h
       refine ht_seq ?_
       refine ht_seqR hn (El := [_, _, _, _, _, _, _, (10, .v (.bool false))]) (init := [0, 1, 2, 3, 4, 5, 6]) (fin := [4, 7]) (sps := [⟨[], [], [7], [(.slot 10)]⟩]) (es' := [(_, _), (10, .v (.bool false))]) (by kernel_rfl) rfl rfl
        ⟨st_plain rfl (op_assign _ _ _ _ rfl rfl),
        trivial⟩ ?_
       refine pt_then ?_
       refine ht_ret ?_
       refine pt_pick [1] (by kernel_rfl) (es' := [(_, _)]) rfl ?_
       refine pt_r_then ?_
       obtain rfl := Option.some.inj h
       exact pt_ret hio rfl (.tmp _ _ .nil) rfl rfl
      ·have h := cond_f hb31 h
       refine ht_skip ?_
       refine pt_then ?_
       refine ht_seq ?_
       obtain ⟨v32, hv32, h⟩ := bind_some h
       obtain ⟨v33, hv33, h⟩ := bind_some h
       obtain ⟨v34, hv34, h⟩ := bind_some h
       obtain ⟨v35, hv35, h⟩ := bind_some h
       obtain ⟨v36, hv36, h⟩ := bind_some h
       obtain ⟨v37, hv37, h⟩ := bind_some h
       obtain ⟨v38, hv38, h⟩ := bind_some h
       obtain ⟨v39, hv39, h⟩ := bind_some h
       obtain ⟨v40, hv40, h⟩ := bind_some h
       obtain ⟨v41, hv41, h⟩ := bind_some h
       refine ht_seqR hn (El := (_ :: _ :: _ :: _ :: _ :: _ :: _ :: (85, .v (.string secret)) :: (86, .mkr 5 (List.map (Value.int .u8) v32)) :: (87, .v (.string challenge)) :: (88, .mkr 5 (List.map (Value.int .u8) v33)) :: (89, .v (.agg (List.map (Value.int .u8) v34).toArray)) :: (90, .v (.string secret)) :: (91, .mkr 5 (List.map (Value.int .u8) v35)) :: (92, .v (.string other)) :: (93, .mkr 5 (List.map (Value.int .u8) v36)) :: (94, .v (.agg (List.map (Value.int .u8) v37).toArray)) :: (13, .arr 37 (List.map (Value.int .u8) ((List.replicate 16 (0 : Int))))) :: (14, .arr 37 (List.map (Value.int .u8) ((List.replicate 16 (0 : Int))))) :: (13, .arr 37 (List.map (Value.int .u8) v34)) :: (14, .arr 37 (List.map (Value.int .u8) v37)) :: [])) (init := [0, 1, 2, 3, 4, 5, 6]) (fin := [0, 1, 3, 4, 5, 19, 20]) (sps := [⟨[1], [], [7], [(.slot 85)]⟩, ⟨[7], [], [8], [(.slot 86)]⟩, ⟨[2], [], [9], [(.slot 87)]⟩, ⟨[9], [], [10], [(.slot 88)]⟩, ⟨[8, 10, 4], [], [11], [(.slot 89)]⟩, ⟨[1], [], [12], [(.slot 90)]⟩, ⟨[12], [], [13], [(.slot 91)]⟩, ⟨[3], [], [14], [(.slot 92)]⟩, ⟨[14], [], [15], [(.slot 93)]⟩, ⟨[13, 15, 4], [], [16], [(.slot 94)]⟩, ⟨[], [], [17], [(.slot 13)]⟩, ⟨[], [], [18], [(.slot 14)]⟩, ⟨[11], [17], [19], []⟩, ⟨[16], [18], [20], []⟩]) (es' := [(_, _), (_, _), (_, _), (_, _), (_, _), (13, .arr 37 (List.map (Value.int .u8) v34)), (14, .arr 37 (List.map (Value.int .u8) v37))]) (by kernel_rfl) rfl rfl
        ⟨st_plain rfl (op_move _ _ _ _ rfl rfl),
        st_plain rfl ((Option.some.inj hv32) ▸ op_str_mk _ _ _ secret Tryd.underlying9 Tryd.underlying22 Tryd.underlying5 rfl),
        st_plain rfl (op_move _ _ _ _ rfl rfl),
        st_plain rfl ((Option.some.inj hv33) ▸ op_str_mk _ _ _ challenge Tryd.underlying9 Tryd.underlying22 Tryd.underlying5 rfl),
        st_plain rfl (op_callG _ _ 107 20 _ _ rfl Tryd.call20 rfl rfl (fun _ h => h) (ok_digest_Keyed mx v32 v33 _ hv34) rfl rfl),
        st_plain rfl (op_move _ _ _ _ rfl rfl),
        st_plain rfl ((Option.some.inj hv35) ▸ op_str_mk _ _ _ secret Tryd.underlying9 Tryd.underlying22 Tryd.underlying5 rfl),
        st_plain rfl (op_move _ _ _ _ rfl rfl),
        st_plain rfl ((Option.some.inj hv36) ▸ op_str_mk _ _ _ other Tryd.underlying9 Tryd.underlying22 Tryd.underlying5 rfl),
        st_plain rfl (op_callG _ _ 107 20 _ _ rfl Tryd.call20 rfl rfl (fun _ h => h) (ok_digest_Keyed mx v35 v36 _ hv37) rfl rfl),
        st_plain rfl (op_alloc_arr _ za37),
        st_plain rfl (op_alloc_arr _ za37),
        st_plain rfl (op_storeA_arr _ _ _ _ (sz37.trans (congrArg some (ln_len hv39))) rfl rfl (ln_ones (fun _ => rfl) _) ((ln_len (f := Value.int .u8) hv38).symm.trans (ln_len (f := Value.int .u8) hv39))),
        st_plain rfl (op_storeA_arr _ _ _ _ (sz37.trans (congrArg some (ln_len hv41))) rfl rfl (ln_ones (fun _ => rfl) _) ((ln_len (f := Value.int .u8) hv40).symm.trans (ln_len (f := Value.int .u8) hv41))),
        trivial⟩ ?_
       refine pt_then ?_
       refine ht_seq ?_
       refine ht_joinS h (fun (s49 : Bool) => [(107, .glob (GL mx)), (10, .v (.bool s49))]) ?_ ?_
       ·rintro s49 h
        refine pt_then ?_
        refine ht_ret ?_
        refine pt_pick [1] (by kernel_rfl) (es' := [(_, _)]) rfl ?_
        obtain rfl := Option.some.inj h
        exact pt_ret hio rfl (.tmp _ _ .nil) rfl rfl
       ·intro u50 h hl51 hr52
        obtain ⟨v42, hv42, h⟩ := bind_some h
        obtain ⟨v43, hv43, h⟩ := bind_some h
        obtain ⟨v44, hv44, h⟩ := bind_some h
        obtain ⟨v45, hv45, h⟩ := bind_some h
        obtain ⟨v46, hv46, h⟩ := bind_some h
        obtain ⟨v47, hv47, h⟩ := bind_some h
        refine cond_some h (fun hg12_9 h => ?_) (fun hg12_9 h => ?_)
        ·obtain ⟨v48, hv48, h⟩ := bind_some h
         refine ht_anyR (by kernel_rfl) hn (El := (_ :: _ :: _ :: _ :: _ :: _ :: _ :: (95, .v (.string user)) :: (96, .v (.string secret)) :: (97, .v (.string other)) :: (98, .v (.string v5)) :: (99, .v (.bool v42)) :: (100, .v (.agg (List.map (Value.int .u8) v34).toArray)) :: (101, .v (.agg (List.map (Value.int .u8) v37).toArray)) :: (102, .v (.bool (v34 == v37))) :: (103, .v (.bool ((v42 == (v34 == v37))))) :: (104, .v (.bool true)) :: (105, .v (.bool v48)) :: (106, .v (.bool v48)) :: (10, .v (.bool v48)) :: [])) (init := [0, 1, 2, 3, 4, 5, 6]) (fin := [3, 19]) (sps := [⟨[0], [], [7], [(.slot 95)]⟩, ⟨[1], [], [8], [(.slot 96)]⟩, ⟨[2], [], [9], [(.slot 97)]⟩, ⟨[4], [], [10], [(.slot 98)]⟩, ⟨[7, 8, 9, 10, 3], [], [11], [(.slot 99)]⟩, ⟨[5], [], [12], [(.slot 100)]⟩, ⟨[6], [], [13], [(.slot 101)]⟩, ⟨[12, 13], [], [14], [(.slot 102)]⟩, ⟨[11, 14], [], [15], [(.slot 103)]⟩, ⟨[15], [], [16], [(.slot 104)]⟩, ⟨[16, 3], [], [17], [(.slot 105)]⟩, ⟨[16, 17], [], [18], [(.slot 106)]⟩, ⟨[18], [], [19], [(.slot 10)]⟩]) (es' := [(_, _), (10, .v (.bool v48))]) (by kernel_rfl) rfl rfl
          ⟨st_plain rfl (op_move _ _ _ _ rfl rfl),
          st_plain rfl (op_move _ _ _ _ rfl rfl),
          st_plain rfl (op_move _ _ _ _ rfl rfl),
          st_plain rfl (op_move _ _ _ _ rfl rfl),
          st_plain rfl (op_callG _ _ 107 18 _ _ rfl Tryd.call18 rfl rfl (fun _ h => h) (ok_cram_Verify mx user secret other v5 _ hv42) rfl rfl),
          st_plain rfl (op_loadA_arr _ _ _ _ Tryd.underlying37 rfl (sz37.trans (congrArg some (ln_len hv43))) rfl rfl),
          st_plain rfl (op_loadA_arr _ _ _ _ Tryd.underlying37 rfl (sz37.trans (congrArg some (ln_len hv44))) rfl rfl),
          st_plain rfl (op_eq_arr _ _ _ Tryd.underlying37 Tryd.underlying5 (i := Tryd.t5) (by kernel_rfl) (by kernel_rfl) (by kernel_rfl) rfl rfl (ln_n hv45) (ln_n hv46) rfl),
          st_plain rfl (op_beq _ _ _ _ Tryd.underlying4 rfl rfl),
          st_plain rfl (op_move _ _ _ _ (congrArg (fun b => AV.v (Value.bool b)) hg12_9) rfl),
          st_run 9 104 true rfl rfl rfl (List.Mem.head _) (op_callG _ _ 107 19 _ _ rfl Tryd.call19 rfl rfl (fun _ h => h) (ok_wherrylaw10_wakes mx  _ hv48) rfl rfl),
          st_plain rfl (op_pick _ _ true _ rfl rfl),
          st_plain rfl (op_assign _ _ _ _ rfl rfl),
          trivial⟩ ?_
         exact hl51 _ (Option.some.inj h).symm
        ·refine ht_anyR (by kernel_rfl) hn (El := (_ :: _ :: _ :: _ :: _ :: _ :: _ :: (95, .v (.string user)) :: (96, .v (.string secret)) :: (97, .v (.string other)) :: (98, .v (.string v5)) :: (99, .v (.bool v42)) :: (100, .v (.agg (List.map (Value.int .u8) v34).toArray)) :: (101, .v (.agg (List.map (Value.int .u8) v37).toArray)) :: (102, .v (.bool (v34 == v37))) :: (103, .v (.bool ((v42 == (v34 == v37))))) :: (104, .v (.bool false)) :: (105, .v undef) :: (106, .v (.bool false)) :: (10, .v (.bool false)) :: [])) (init := [0, 1, 2, 3, 4, 5, 6]) (fin := [3, 19]) (sps := [⟨[0], [], [7], [(.slot 95)]⟩, ⟨[1], [], [8], [(.slot 96)]⟩, ⟨[2], [], [9], [(.slot 97)]⟩, ⟨[4], [], [10], [(.slot 98)]⟩, ⟨[7, 8, 9, 10, 3], [], [11], [(.slot 99)]⟩, ⟨[5], [], [12], [(.slot 100)]⟩, ⟨[6], [], [13], [(.slot 101)]⟩, ⟨[12, 13], [], [14], [(.slot 102)]⟩, ⟨[11, 14], [], [15], [(.slot 103)]⟩, ⟨[15], [], [16], [(.slot 104)]⟩, ⟨[16], [], [17], [(.slot 105)]⟩, ⟨[16], [], [18], [(.slot 106)]⟩, ⟨[18], [], [19], [(.slot 10)]⟩]) (es' := [(_, _), (10, .v (.bool false))]) (by kernel_rfl) rfl rfl
          ⟨st_plain rfl (op_move _ _ _ _ rfl rfl),
          st_plain rfl (op_move _ _ _ _ rfl rfl),
          st_plain rfl (op_move _ _ _ _ rfl rfl),
          st_plain rfl (op_move _ _ _ _ rfl rfl),
          st_plain rfl (op_callG _ _ 107 18 _ _ rfl Tryd.call18 rfl rfl (fun _ h => h) (ok_cram_Verify mx user secret other v5 _ hv42) rfl rfl),
          st_plain rfl (op_loadA_arr _ _ _ _ Tryd.underlying37 rfl (sz37.trans (congrArg some (ln_len hv43))) rfl rfl),
          st_plain rfl (op_loadA_arr _ _ _ _ Tryd.underlying37 rfl (sz37.trans (congrArg some (ln_len hv44))) rfl rfl),
          st_plain rfl (op_eq_arr _ _ _ Tryd.underlying37 Tryd.underlying5 (i := Tryd.t5) (by kernel_rfl) (by kernel_rfl) (by kernel_rfl) rfl rfl (ln_n hv45) (ln_n hv46) rfl),
          st_plain rfl (op_beq _ _ _ _ Tryd.underlying4 rfl rfl),
          st_plain rfl (op_move _ _ _ _ (congrArg (fun b => AV.v (Value.bool b)) hg12_9) rfl),
          st_skip 9 104 _ true rfl rfl rfl rfl (List.Mem.head _),
          st_plain rfl (op_pick _ _ false _ rfl rfl),
          st_plain rfl (op_assign _ _ _ _ rfl rfl),
          trivial⟩ ?_
         exact hl51 _ (Option.some.inj h).symm
     ·intro u28 h hl29 hr30
      obtain ⟨v24, hv24, h⟩ := bind_some h
      obtain ⟨v25, hv25, h⟩ := bind_some h
      refine cond_some h (fun hg9_6 h => ?_) (fun hg9_6 h => ?_)
      ·refine ht_seqR hn (El := (_ :: _ :: _ :: _ :: _ :: _ :: _ :: (67, .v (.string user)) :: (68, .v (.string secret)) :: (69, .v (.string challenge)) :: (70, .mkr 5 (List.map (Value.int .u8) v23)) :: (71, .v (.string v24)) :: (72, .v (.bool v25)) :: (73, .v (.bool true)) :: (74, .v undef) :: (75, .v undef) :: (76, .v undef) :: (77, .v undef) :: (78, .v undef) :: (79, .v undef) :: (80, .v undef) :: (81, .v undef) :: (82, .v undef) :: (83, .v undef) :: (84, .v (.bool true)) :: [])) (init := [0, 1, 2, 3, 4, 5, 6]) (fin := [0, 1, 2, 3, 4, 5, 24]) (sps := (⟨[0], [], [7], [(.slot 67)]⟩ :: ⟨[1], [], [8], [(.slot 68)]⟩ :: ⟨[2], [], [9], [(.slot 69)]⟩ :: ⟨[], [6], [10], [(.slot 70)]⟩ :: ⟨[10], [], [11], [(.slot 71)]⟩ :: ⟨[7, 8, 9, 11, 4], [], [12], [(.slot 72)]⟩ :: ⟨[12], [], [13], [(.slot 73)]⟩ :: ⟨[13], [], [14], [(.slot 74)]⟩ :: ⟨[13], [], [15], [(.slot 75)]⟩ :: ⟨[13], [], [16], [(.slot 76)]⟩ :: ⟨[13], [], [17], [(.slot 77)]⟩ :: ⟨[17], [], [18], [(.slot 78)]⟩ :: ⟨[17], [], [19], [(.slot 79)]⟩ :: ⟨[17], [], [20], [(.slot 80)]⟩ :: ⟨[17], [], [21], [(.slot 81)]⟩ :: ⟨[17], [], [22], [(.slot 82)]⟩ :: ⟨[13], [], [23], [(.slot 83)]⟩ :: ⟨[13], [], [24], [(.slot 84)]⟩ :: [])) (es' := [(_, _), (_, _), (_, _), (_, _), (_, _), (_, _), (84, .v (.bool true))]) (by kernel_rfl) rfl rfl
        ⟨st_plain rfl (op_move _ _ _ _ rfl rfl),
        st_plain rfl (op_move _ _ _ _ rfl rfl),
        st_plain rfl (op_move _ _ _ _ rfl rfl),
        st_plain rfl (op_move_take _ _ _ _ rfl),
        st_plain rfl ((Option.some.inj hv24) ▸ op_mk_str _ _ _ v23 Tryd.underlying22 Tryd.underlying9 Tryd.underlying5 rfl),
        st_plain rfl (op_callG _ _ 107 18 _ _ rfl Tryd.call18 rfl rfl (fun _ h => h) (ok_cram_Verify mx user secret challenge v24 _ hv25) rfl rfl),
        st_plain rfl (op_move _ _ _ _ (congrArg (fun b => AV.v (Value.bool b)) hg9_6) rfl),
        st_skip 6 73 _ false rfl rfl rfl rfl (List.Mem.head _),
        st_skip 6 73 _ false rfl rfl rfl rfl (List.Mem.head _),
        st_skip 6 73 _ false rfl rfl rfl rfl (List.Mem.head _),
        st_skip 6 73 _ false rfl rfl rfl rfl (List.Mem.head _),
        st_skipU 10 77 _ true rfl rfl rfl rfl (List.Mem.head _),
        st_skipU 10 77 _ true rfl rfl rfl rfl (List.Mem.head _),
        st_skipU 10 77 _ true rfl rfl rfl rfl (List.Mem.head _),
        st_skipU 10 77 _ true rfl rfl rfl rfl (List.Mem.head _),
        st_skipU 10 77 _ true rfl rfl rfl rfl (List.Mem.head _),
        st_skip 6 73 _ false rfl rfl rfl rfl (List.Mem.head _),
        st_plain rfl (op_pick _ _ true _ rfl rfl),
        trivial⟩ ?_
       exact hl29 _ (Option.some.inj h).symm
      ·refine cond_some h (fun hg9_10 h => ?_) (fun hg9_10 h => ?_)
       ·obtain ⟨v26, hv26, h⟩ := bind_some h
        refine ht_seqR hn (El := (_ :: _ :: _ :: _ :: _ :: _ :: _ :: (67, .v (.string user)) :: (68, .v (.string secret)) :: (69, .v (.string challenge)) :: (70, .mkr 5 (List.map (Value.int .u8) v23)) :: (71, .v (.string v24)) :: (72, .v (.bool v25)) :: (73, .v (.bool false)) :: (74, .v (.string user)) :: (75, .v (.string other)) :: (76, .v (.bool ((!(user.toList == other.toList))))) :: (77, .v (.bool true)) :: (78, .v (.string other)) :: (79, .v (.string secret)) :: (80, .v (.string challenge)) :: (81, .v (.string v5)) :: (82, .v (.bool v26)) :: (83, .v (.bool v26)) :: (84, .v (.bool v26)) :: [])) (init := [0, 1, 2, 3, 4, 5, 6]) (fin := [0, 1, 2, 3, 4, 5, 24]) (sps := (⟨[0], [], [7], [(.slot 67)]⟩ :: ⟨[1], [], [8], [(.slot 68)]⟩ :: ⟨[2], [], [9], [(.slot 69)]⟩ :: ⟨[], [6], [10], [(.slot 70)]⟩ :: ⟨[10], [], [11], [(.slot 71)]⟩ :: ⟨[7, 8, 9, 11, 4], [], [12], [(.slot 72)]⟩ :: ⟨[12], [], [13], [(.slot 73)]⟩ :: ⟨[13, 0], [], [14], [(.slot 74)]⟩ :: ⟨[13, 3], [], [15], [(.slot 75)]⟩ :: ⟨[13, 14, 15], [], [16], [(.slot 76)]⟩ :: ⟨[13, 16], [], [17], [(.slot 77)]⟩ :: ⟨[17, 3], [], [18], [(.slot 78)]⟩ :: ⟨[17, 1], [], [19], [(.slot 79)]⟩ :: ⟨[17, 2], [], [20], [(.slot 80)]⟩ :: ⟨[17, 5], [], [21], [(.slot 81)]⟩ :: ⟨[17, 18, 19, 20, 21, 4], [], [22], [(.slot 82)]⟩ :: ⟨[13, 17, 22], [], [23], [(.slot 83)]⟩ :: ⟨[13, 23], [], [24], [(.slot 84)]⟩ :: [])) (es' := [(_, _), (_, _), (_, _), (_, _), (_, _), (_, _), (84, .v (.bool v26))]) (by kernel_rfl) rfl rfl
         ⟨st_plain rfl (op_move _ _ _ _ rfl rfl),
         st_plain rfl (op_move _ _ _ _ rfl rfl),
         st_plain rfl (op_move _ _ _ _ rfl rfl),
         st_plain rfl (op_move_take _ _ _ _ rfl),
         st_plain rfl ((Option.some.inj hv24) ▸ op_mk_str _ _ _ v23 Tryd.underlying22 Tryd.underlying9 Tryd.underlying5 rfl),
         st_plain rfl (op_callG _ _ 107 18 _ _ rfl Tryd.call18 rfl rfl (fun _ h => h) (ok_cram_Verify mx user secret challenge v24 _ hv25) rfl rfl),
         st_plain rfl (op_move _ _ _ _ (congrArg (fun b => AV.v (Value.bool b)) hg9_6) rfl),
         st_run 6 73 false rfl rfl rfl (List.Mem.head _) (op_move _ _ _ _ rfl rfl),
         st_run 6 73 false rfl rfl rfl (List.Mem.head _) (op_move _ _ _ _ rfl rfl),
         st_run 6 73 false rfl rfl rfl (List.Mem.head _) (op_bin _ _ _ _ _ rfl rfl rfl),
         st_run 6 73 false rfl rfl rfl (List.Mem.head _) (op_move _ _ _ _ (congrArg (fun b => AV.v (Value.bool b)) hg9_10) rfl),
         st_run 10 77 true rfl rfl rfl (List.Mem.head _) (op_move _ _ _ _ rfl rfl),
         st_run 10 77 true rfl rfl rfl (List.Mem.head _) (op_move _ _ _ _ rfl rfl),
         st_run 10 77 true rfl rfl rfl (List.Mem.head _) (op_move _ _ _ _ rfl rfl),
         st_run 10 77 true rfl rfl rfl (List.Mem.head _) (op_move _ _ _ _ rfl rfl),
         st_run 10 77 true rfl rfl rfl (List.Mem.head _) (op_callG _ _ 107 18 _ _ rfl Tryd.call18 rfl rfl (fun _ h => h) (ok_cram_Verify mx other secret challenge v5 _ hv26) rfl rfl),
         st_run 6 73 false rfl rfl rfl (List.Mem.head _) (op_pick _ _ true _ rfl rfl),
         st_plain rfl (op_pick _ _ false _ rfl rfl),
         trivial⟩ ?_
        exact hl29 _ (Option.some.inj h).symm
       ·refine ht_seqR hn (El := (_ :: _ :: _ :: _ :: _ :: _ :: _ :: (67, .v (.string user)) :: (68, .v (.string secret)) :: (69, .v (.string challenge)) :: (70, .mkr 5 (List.map (Value.int .u8) v23)) :: (71, .v (.string v24)) :: (72, .v (.bool v25)) :: (73, .v (.bool false)) :: (74, .v (.string user)) :: (75, .v (.string other)) :: (76, .v (.bool ((!(user.toList == other.toList))))) :: (77, .v (.bool false)) :: (78, .v undef) :: (79, .v undef) :: (80, .v undef) :: (81, .v undef) :: (82, .v undef) :: (83, .v (.bool false)) :: (84, .v (.bool false)) :: [])) (init := [0, 1, 2, 3, 4, 5, 6]) (fin := [0, 1, 2, 3, 4, 5, 24]) (sps := (⟨[0], [], [7], [(.slot 67)]⟩ :: ⟨[1], [], [8], [(.slot 68)]⟩ :: ⟨[2], [], [9], [(.slot 69)]⟩ :: ⟨[], [6], [10], [(.slot 70)]⟩ :: ⟨[10], [], [11], [(.slot 71)]⟩ :: ⟨[7, 8, 9, 11, 4], [], [12], [(.slot 72)]⟩ :: ⟨[12], [], [13], [(.slot 73)]⟩ :: ⟨[13, 0], [], [14], [(.slot 74)]⟩ :: ⟨[13, 3], [], [15], [(.slot 75)]⟩ :: ⟨[13, 14, 15], [], [16], [(.slot 76)]⟩ :: ⟨[13, 16], [], [17], [(.slot 77)]⟩ :: ⟨[17], [], [18], [(.slot 78)]⟩ :: ⟨[17], [], [19], [(.slot 79)]⟩ :: ⟨[17], [], [20], [(.slot 80)]⟩ :: ⟨[17], [], [21], [(.slot 81)]⟩ :: ⟨[17], [], [22], [(.slot 82)]⟩ :: ⟨[13, 17], [], [23], [(.slot 83)]⟩ :: ⟨[13, 23], [], [24], [(.slot 84)]⟩ :: [])) (es' := [(_, _), (_, _), (_, _), (_, _), (_, _), (_, _), (84, .v (.bool false))]) (by kernel_rfl) rfl rfl
         ⟨st_plain rfl (op_move _ _ _ _ rfl rfl),
         st_plain rfl (op_move _ _ _ _ rfl rfl),
         st_plain rfl (op_move _ _ _ _ rfl rfl),
         st_plain rfl (op_move_take _ _ _ _ rfl),
         st_plain rfl ((Option.some.inj hv24) ▸ op_mk_str _ _ _ v23 Tryd.underlying22 Tryd.underlying9 Tryd.underlying5 rfl),
         st_plain rfl (op_callG _ _ 107 18 _ _ rfl Tryd.call18 rfl rfl (fun _ h => h) (ok_cram_Verify mx user secret challenge v24 _ hv25) rfl rfl),
         st_plain rfl (op_move _ _ _ _ (congrArg (fun b => AV.v (Value.bool b)) hg9_6) rfl),
         st_run 6 73 false rfl rfl rfl (List.Mem.head _) (op_move _ _ _ _ rfl rfl),
         st_run 6 73 false rfl rfl rfl (List.Mem.head _) (op_move _ _ _ _ rfl rfl),
         st_run 6 73 false rfl rfl rfl (List.Mem.head _) (op_bin _ _ _ _ _ rfl rfl rfl),
         st_run 6 73 false rfl rfl rfl (List.Mem.head _) (op_move _ _ _ _ (congrArg (fun b => AV.v (Value.bool b)) hg9_10) rfl),
         st_skip 10 77 _ true rfl rfl rfl rfl (List.Mem.head _),
         st_skip 10 77 _ true rfl rfl rfl rfl (List.Mem.head _),
         st_skip 10 77 _ true rfl rfl rfl rfl (List.Mem.head _),
         st_skip 10 77 _ true rfl rfl rfl rfl (List.Mem.head _),
         st_skip 10 77 _ true rfl rfl rfl rfl (List.Mem.head _),
         st_run 6 73 false rfl rfl rfl (List.Mem.head _) (op_pick _ _ false _ rfl rfl),
         st_plain rfl (op_pick _ _ false _ rfl rfl),
         trivial⟩ ?_
        exact hl29 _ (Option.some.inj h).symm
   ·intro u10 h hl11 hr12
    refine cond_some h (fun hg4_3 h => ?_) (fun hg4_3 h => ?_)
    ·refine ht_seqR hn (El := (_ :: _ :: _ :: _ :: _ :: _ :: _ :: (31, .v (.string v5)) :: (32, .v (.int .i64 (v5.size : Int))) :: (33, .v (.bool (((v5.size : Int) == 0)))) :: (34, .v (.bool true)) :: (35, .v undef) :: (36, .v undef) :: (37, .v undef) :: (38, .v undef) :: (39, .v undef) :: (40, .v undef) :: (41, .v (.bool true)) :: (42, .v (.bool true)) :: (43, .v undef) :: (44, .v undef) :: (45, .v undef) :: (46, .v undef) :: (47, .v undef) :: (48, .v undef) :: (49, .v (.bool true)) :: [])) (init := [0, 1, 2, 3, 4, 5, 6]) (fin := [0, 1, 2, 3, 4, 5, 6, 25]) (sps := (⟨[6], [], [7], [(.slot 31)]⟩ :: ⟨[7], [], [8], [(.slot 32)]⟩ :: ⟨[8], [], [9], [(.slot 33)]⟩ :: ⟨[9], [], [10], [(.slot 34)]⟩ :: ⟨[10], [], [11], [(.slot 35)]⟩ :: ⟨[10], [], [12], [(.slot 36)]⟩ :: ⟨[10], [], [13], [(.slot 37)]⟩ :: ⟨[10], [], [14], [(.slot 38)]⟩ :: ⟨[10], [], [15], [(.slot 39)]⟩ :: ⟨[10], [], [16], [(.slot 40)]⟩ :: ⟨[10], [], [17], [(.slot 41)]⟩ :: ⟨[17], [], [18], [(.slot 42)]⟩ :: ⟨[18], [], [19], [(.slot 43)]⟩ :: ⟨[18], [], [20], [(.slot 44)]⟩ :: ⟨[18], [], [21], [(.slot 45)]⟩ :: ⟨[18], [], [22], [(.slot 46)]⟩ :: ⟨[18], [], [23], [(.slot 47)]⟩ :: ⟨[18], [], [24], [(.slot 48)]⟩ :: ⟨[18], [], [25], [(.slot 49)]⟩ :: [])) (es' := [(_, _), (_, _), (_, _), (_, _), (_, _), (_, _), (_, _), (49, .v (.bool true))]) (by kernel_rfl) rfl rfl
      ⟨st_plain rfl (op_move _ _ _ _ rfl rfl),
      st_plain rfl (op_len_str _ _ _ Tryd.underlying9 rfl),
      st_plain rfl (op_bin _ _ _ _ _ rfl rfl rfl),
      st_plain rfl (op_move _ _ _ _ (congrArg (fun b => AV.v (Value.bool b)) hg4_3) rfl),
      st_skip 3 34 _ false rfl rfl rfl rfl (List.Mem.head _),
      st_skip 3 34 _ false rfl rfl rfl rfl (List.Mem.head _),
      st_skip 3 34 _ false rfl rfl rfl rfl (List.Mem.head _),
      st_skip 3 34 _ false rfl rfl rfl rfl (List.Mem.head _),
      st_skip 3 34 _ false rfl rfl rfl rfl (List.Mem.head _),
      st_skip 3 34 _ false rfl rfl rfl rfl (List.Mem.head _),
      st_plain rfl (op_pick _ _ true _ rfl rfl),
      st_plain rfl (op_move _ _ _ _ rfl rfl),
      st_skip 11 42 _ false rfl rfl rfl rfl (List.Mem.head _),
      st_skip 11 42 _ false rfl rfl rfl rfl (List.Mem.head _),
      st_skip 11 42 _ false rfl rfl rfl rfl (List.Mem.head _),
      st_skip 11 42 _ false rfl rfl rfl rfl (List.Mem.head _),
      st_skip 11 42 _ false rfl rfl rfl rfl (List.Mem.head _),
      st_skip 11 42 _ false rfl rfl rfl rfl (List.Mem.head _),
      st_plain rfl (op_pick _ _ true _ rfl rfl),
      trivial⟩ ?_
     exact hl11 _ (Option.some.inj h).symm
    ·obtain ⟨v6, hv6, h⟩ := bind_some h
     refine cond_some h (fun hg4_11 h => ?_) (fun hg4_11 h => ?_)
     ·refine ht_seqR hn (El := (_ :: _ :: _ :: _ :: _ :: _ :: _ :: (31, .v (.string v5)) :: (32, .v (.int .i64 (v5.size : Int))) :: (33, .v (.bool (((v5.size : Int) == 0)))) :: (34, .v (.bool false)) :: (35, .v (.string user)) :: (36, .v (.string secret)) :: (37, .v (.string challenge)) :: (38, .v (.string v5)) :: (39, .v (.bool v6)) :: (40, .v (.bool (!v6))) :: (41, .v (.bool (!v6))) :: (42, .v (.bool true)) :: (43, .v undef) :: (44, .v undef) :: (45, .v undef) :: (46, .v undef) :: (47, .v undef) :: (48, .v undef) :: (49, .v (.bool true)) :: [])) (init := [0, 1, 2, 3, 4, 5, 6]) (fin := [0, 1, 2, 3, 4, 5, 6, 25]) (sps := (⟨[6], [], [7], [(.slot 31)]⟩ :: ⟨[7], [], [8], [(.slot 32)]⟩ :: ⟨[8], [], [9], [(.slot 33)]⟩ :: ⟨[9], [], [10], [(.slot 34)]⟩ :: ⟨[10, 0], [], [11], [(.slot 35)]⟩ :: ⟨[10, 1], [], [12], [(.slot 36)]⟩ :: ⟨[10, 2], [], [13], [(.slot 37)]⟩ :: ⟨[10, 6], [], [14], [(.slot 38)]⟩ :: ⟨[10, 11, 12, 13, 14, 5], [], [15], [(.slot 39)]⟩ :: ⟨[10, 15], [], [16], [(.slot 40)]⟩ :: ⟨[10, 16], [], [17], [(.slot 41)]⟩ :: ⟨[17], [], [18], [(.slot 42)]⟩ :: ⟨[18], [], [19], [(.slot 43)]⟩ :: ⟨[18], [], [20], [(.slot 44)]⟩ :: ⟨[18], [], [21], [(.slot 45)]⟩ :: ⟨[18], [], [22], [(.slot 46)]⟩ :: ⟨[18], [], [23], [(.slot 47)]⟩ :: ⟨[18], [], [24], [(.slot 48)]⟩ :: ⟨[18], [], [25], [(.slot 49)]⟩ :: [])) (es' := [(_, _), (_, _), (_, _), (_, _), (_, _), (_, _), (_, _), (49, .v (.bool true))]) (by kernel_rfl) rfl rfl
       ⟨st_plain rfl (op_move _ _ _ _ rfl rfl),
       st_plain rfl (op_len_str _ _ _ Tryd.underlying9 rfl),
       st_plain rfl (op_bin _ _ _ _ _ rfl rfl rfl),
       st_plain rfl (op_move _ _ _ _ (congrArg (fun b => AV.v (Value.bool b)) hg4_3) rfl),
       st_run 3 34 false rfl rfl rfl (List.Mem.head _) (op_move _ _ _ _ rfl rfl),
       st_run 3 34 false rfl rfl rfl (List.Mem.head _) (op_move _ _ _ _ rfl rfl),
       st_run 3 34 false rfl rfl rfl (List.Mem.head _) (op_move _ _ _ _ rfl rfl),
       st_run 3 34 false rfl rfl rfl (List.Mem.head _) (op_move _ _ _ _ rfl rfl),
       st_run 3 34 false rfl rfl rfl (List.Mem.head _) (op_callG _ _ 107 18 _ _ rfl Tryd.call18 rfl rfl (fun _ h => h) (ok_cram_Verify mx user secret challenge v5 _ hv6) rfl rfl),
       st_run 3 34 false rfl rfl rfl (List.Mem.head _) (op_un _ _ _ _ rfl rfl),
       st_plain rfl (op_pick _ _ false _ rfl rfl),
       st_plain rfl (op_move _ _ _ _ (congrArg (fun b => AV.v (Value.bool b)) hg4_11) rfl),
       st_skip 11 42 _ false rfl rfl rfl rfl (List.Mem.head _),
       st_skip 11 42 _ false rfl rfl rfl rfl (List.Mem.head _),
       st_skip 11 42 _ false rfl rfl rfl rfl (List.Mem.head _),
       st_skip 11 42 _ false rfl rfl rfl rfl (List.Mem.head _),
       st_skip 11 42 _ false rfl rfl rfl rfl (List.Mem.head _),
       st_skip 11 42 _ false rfl rfl rfl rfl (List.Mem.head _),
       st_plain rfl (op_pick _ _ true _ rfl rfl),
       trivial⟩ ?_
      exact hl11 _ (Option.some.inj h).symm
     ·obtain ⟨v7, hv7, h⟩ := bind_some h
      obtain ⟨v8, hv8, h⟩ := bind_some h
      refine ht_seqR hn (El := (_ :: _ :: _ :: _ :: _ :: _ :: _ :: (31, .v (.string v5)) :: (32, .v (.int .i64 (v5.size : Int))) :: (33, .v (.bool (((v5.size : Int) == 0)))) :: (34, .v (.bool false)) :: (35, .v (.string user)) :: (36, .v (.string secret)) :: (37, .v (.string challenge)) :: (38, .v (.string v5)) :: (39, .v (.bool v6)) :: (40, .v (.bool (!v6))) :: (41, .v (.bool (!v6))) :: (42, .v (.bool false)) :: (43, .v (.string user)) :: (44, .v (.string secret)) :: (45, .v (.string challenge)) :: (46, .v (.string v5)) :: (47, .v (.string v7)) :: (48, .v (.bool v8)) :: (49, .v (.bool v8)) :: [])) (init := [0, 1, 2, 3, 4, 5, 6]) (fin := [0, 1, 2, 3, 4, 5, 6, 25]) (sps := (⟨[6], [], [7], [(.slot 31)]⟩ :: ⟨[7], [], [8], [(.slot 32)]⟩ :: ⟨[8], [], [9], [(.slot 33)]⟩ :: ⟨[9], [], [10], [(.slot 34)]⟩ :: ⟨[10, 0], [], [11], [(.slot 35)]⟩ :: ⟨[10, 1], [], [12], [(.slot 36)]⟩ :: ⟨[10, 2], [], [13], [(.slot 37)]⟩ :: ⟨[10, 6], [], [14], [(.slot 38)]⟩ :: ⟨[10, 11, 12, 13, 14, 5], [], [15], [(.slot 39)]⟩ :: ⟨[10, 15], [], [16], [(.slot 40)]⟩ :: ⟨[10, 16], [], [17], [(.slot 41)]⟩ :: ⟨[17], [], [18], [(.slot 42)]⟩ :: ⟨[18, 0], [], [19], [(.slot 43)]⟩ :: ⟨[18, 1], [], [20], [(.slot 44)]⟩ :: ⟨[18, 2], [], [21], [(.slot 45)]⟩ :: ⟨[18, 6], [], [22], [(.slot 46)]⟩ :: ⟨[18, 22], [], [23], [(.slot 47)]⟩ :: ⟨[18, 19, 20, 21, 23, 5], [], [24], [(.slot 48)]⟩ :: ⟨[18, 24], [], [25], [(.slot 49)]⟩ :: [])) (es' := [(_, _), (_, _), (_, _), (_, _), (_, _), (_, _), (_, _), (49, .v (.bool v8))]) (by kernel_rfl) rfl rfl
       ⟨st_plain rfl (op_move _ _ _ _ rfl rfl),
       st_plain rfl (op_len_str _ _ _ Tryd.underlying9 rfl),
       st_plain rfl (op_bin _ _ _ _ _ rfl rfl rfl),
       st_plain rfl (op_move _ _ _ _ (congrArg (fun b => AV.v (Value.bool b)) hg4_3) rfl),
       st_run 3 34 false rfl rfl rfl (List.Mem.head _) (op_move _ _ _ _ rfl rfl),
       st_run 3 34 false rfl rfl rfl (List.Mem.head _) (op_move _ _ _ _ rfl rfl),
       st_run 3 34 false rfl rfl rfl (List.Mem.head _) (op_move _ _ _ _ rfl rfl),
       st_run 3 34 false rfl rfl rfl (List.Mem.head _) (op_move _ _ _ _ rfl rfl),
       st_run 3 34 false rfl rfl rfl (List.Mem.head _) (op_callG _ _ 107 18 _ _ rfl Tryd.call18 rfl rfl (fun _ h => h) (ok_cram_Verify mx user secret challenge v5 _ hv6) rfl rfl),
       st_run 3 34 false rfl rfl rfl (List.Mem.head _) (op_un _ _ _ _ rfl rfl),
       st_plain rfl (op_pick _ _ false _ rfl rfl),
       st_plain rfl (op_move _ _ _ _ (congrArg (fun b => AV.v (Value.bool b)) hg4_11) rfl),
       st_run 11 42 false rfl rfl rfl (List.Mem.head _) (op_move _ _ _ _ rfl rfl),
       st_run 11 42 false rfl rfl rfl (List.Mem.head _) (op_move _ _ _ _ rfl rfl),
       st_run 11 42 false rfl rfl rfl (List.Mem.head _) (op_move _ _ _ _ rfl rfl),
       st_run 11 42 false rfl rfl rfl (List.Mem.head _) (op_move _ _ _ _ rfl rfl),
       st_run 11 42 false rfl rfl rfl (List.Mem.head _) (op_bin _ _ _ _ _ rfl rfl (cat_ok hv7)),
       st_run 11 42 false rfl rfl rfl (List.Mem.head _) (op_callG _ _ 107 18 _ _ rfl Tryd.call18 rfl rfl (fun _ h => h) (ok_cram_Verify mx user secret challenge v7 _ hv8) rfl rfl),
       st_plain rfl (op_pick _ _ false _ rfl rfl),
       trivial⟩ ?_
      exact hl11 _ (Option.some.inj h).symm

end Go.Proofs.YtadkeipbkbkneaaDoor
