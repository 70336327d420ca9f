/-
  The model's runs are what is told in Lean.
-/
import Derived.Test.YtdligpdfcfbgpaaProg
import Derived.KernelRfl
import Derived.Test.YtdligpdfcfbgpaaOkc2
set_option linter.unusedVariables false
set_option linter.unusedSimpArgs false
namespace Go.Proofs.Ytdligpdfcfbgpaa
open Go.Abs Go.Abs.Sh

set_option maxHeartbeats 1000000 in
theorem ok_sender_Hear (s : T_Send) (f : T_Frame) (r : (T_Send × Int)) (h : Sh.sender_Hear s f = some r) : FnOK Try.prog 15 [.agg [.v (.int .i64 s.Number), .fl .shr 1 (List.map (Value.int .u8) s.Data), .v (.bool s.Ready), .v (.int .i64 s.Base), .v (.int .i64 s.Next), .v (.int .i64 s.Wait), .v (.bool s.Over)], .agg [.v (.int .i64 f.Kind), .v (.int .i64 f.Number), .v (.int .i64 f.Offset), .v (.int .i64 f.Seq), .fl .shr 1 (List.map (Value.int .u8) f.Data)]] (.tup [.agg [.v (.int .i64 r.1.Number), .fl (.own 5) 1 (List.map (Value.int .u8) r.1.Data), .v (.bool r.1.Ready), .v (.int .i64 r.1.Base), .v (.int .i64 r.1.Next), .v (.int .i64 r.1.Wait), .v (.bool r.1.Over)], .v (.int .i64 r.2)]) := by
  unfold Sh.sender_Hear at h
  refine fn_ok Try.func15 rfl (Nat.le_of_ble_eq_true rfl) rfl rfl fun g0 hn hio => ?_
  refine ht_seq ?_
  refine ht_seqR hn (El := [_, _, (2, .box 24 [.v (.int .i64 s.Number), .fl .shr 1 (List.map (Value.int .u8) s.Data), .v (.bool s.Ready), .v (.int .i64 s.Base), .v (.int .i64 s.Next), .v (.int .i64 s.Wait), .v (.bool s.Over)]), (3, .box 26 [.v (.int .i64 f.Kind), .v (.int .i64 f.Number), .v (.int .i64 f.Offset), .v (.int .i64 f.Seq), .fl .shr 1 (List.map (Value.int .u8) f.Data)]), (4, .box 24 [.v (.int .i64 0), .v (.slice none 0 0), .v (.bool false), .v (.int .i64 0), .v (.int .i64 0), .v (.int .i64 0), .v (.bool false)]), (5, .v (.int .i64 0))]) (init := [0, 1]) (fin := [2, 3, 4]) (sps := [⟨[0], [], [2], [(.slot 2)]⟩, ⟨[1], [], [3], [(.slot 3)]⟩, ⟨[], [], [4], [(.slot 4)]⟩, ⟨[], [], [5], [(.slot 5)]⟩]) (es' := [(2, .box 24 [.v (.int .i64 s.Number), .fl .shr 1 (List.map (Value.int .u8) s.Data), .v (.bool s.Ready), .v (.int .i64 s.Base), .v (.int .i64 s.Next), .v (.int .i64 s.Wait), .v (.bool s.Over)]), (3, .box 26 [.v (.int .i64 f.Kind), .v (.int .i64 f.Number), .v (.int .i64 f.Offset), .v (.int .i64 f.Seq), .fl .shr 1 (List.map (Value.int .u8) f.Data)]), (4, .box 24 [.v (.int .i64 0), .v (.slice none 0 0), .v (.bool false), .v (.int .i64 0), .v (.int .i64 0), .v (.int .i64 0), .v (.bool false)])]) (by kernel_rfl) rfl rfl
   ⟨st_plain rfl (op_box _ _ _ _ rfl rfl rfl),
   st_plain rfl (op_box _ _ _ _ rfl rfl rfl),
   st_plain rfl (op_alloc _ _ zr24),
   st_plain rfl (op_assign _ _ _ _ rfl rfl),
   trivial⟩ ?_
  refine pt_then ?_
  refine ht_seq ?_
  refine ht_seq ?_
  obtain ⟨v1, hv1, h⟩ := bind_some h
  refine ht_seqR hn (El := [_, _, _, (9, .agg [.v (.int .i64 s.Number), .fl .shr 1 (List.map (Value.int .u8) s.Data), .v (.bool s.Ready), .v (.int .i64 s.Base), .v (.int .i64 s.Next), .v (.int .i64 s.Wait), .v (.bool s.Over)]), (10, .v (.int .i64 v1)), (6, .v (.int .i64 v1))]) (init := [0, 1, 2]) (fin := [0, 1, 2, 5]) (sps := [⟨[0], [], [3], [(.slot 9)]⟩, ⟨[3], [], [4], [(.slot 10)]⟩, ⟨[4], [], [5], [(.slot 6)]⟩]) (es' := [(_, _), (_, _), (_, _), (6, .v (.int .i64 v1))]) (by kernel_rfl) rfl rfl
   ⟨st_plain rfl (op_loadA _ _ _ _ _ _ _ Try.underlying24 rfl sz24 rfl rfl (Nat.le_of_ble_eq_true rfl) rfl rfl),
   st_plain rfl (op_call _ _ 17 _ _ rfl Try.call17 rfl (ok_sender_Check s _ hv1) rfl rfl),
   st_plain rfl (op_assign _ _ _ _ rfl rfl),
   trivial⟩ ?_
  refine pt_then ?_
  refine ht_seq ?_
  refine ht_seqR hn (El := [_, _, _, _, (11, .v (.int .i64 v1)), (12, .v (.bool (v1 != 0)))]) (init := [0, 1, 2, 3]) (fin := [0, 1, 2, 3, 5]) (sps := [⟨[3], [], [4], [(.slot 11)]⟩, ⟨[4], [], [5], [(.slot 12)]⟩]) (es' := [(_, _), (_, _), (_, _), (_, _), (12, .v (.bool (v1 != 0)))]) (by kernel_rfl) rfl rfl
   ⟨st_plain rfl (op_move _ _ _ _ rfl rfl),
   st_plain rfl (op_bin _ _ _ _ _ rfl rfl rfl),
   trivial⟩ ?_
  refine pt_then ?_
  refine ht_cond _ rfl (fun hb2 => ?_) (fun hb2 => ?_)
  ·have h := cond_t hb2 h
   refine ht_seq ?_
   refine ht_seqR hn (El := [_, _, _, _, _, (13, .agg [.v (.int .i64 0), .v (.slice none 0 0), .v (.bool false), .v (.int .i64 0), .v (.int .i64 0), .v (.int .i64 0), .v (.bool false)]), (14, .v (.int .i64 v1)), (4, .box 24 [.v (.int .i64 0), .v (.slice none 0 0), .v (.bool false), .v (.int .i64 0), .v (.int .i64 0), .v (.int .i64 0), .v (.bool false)]), (5, .v (.int .i64 v1))]) (init := [0, 1, 2, 3, 4]) (fin := [7, 8]) (sps := [⟨[], [], [5], [(.slot 13)]⟩, ⟨[3], [], [6], [(.slot 14)]⟩, ⟨[5], [2], [7], [.cell 4 0, .cell 4 1, .cell 4 2, .cell 4 3, .cell 4 4, .cell 4 5, .cell 4 6]⟩, ⟨[6], [], [8], [(.slot 5)]⟩]) (es' := [(4, .box 24 [.v (.int .i64 0), .v (.slice none 0 0), .v (.bool false), .v (.int .i64 0), .v (.int .i64 0), .v (.int .i64 0), .v (.bool false)]), (5, .v (.int .i64 v1))]) (by kernel_rfl) rfl rfl
    ⟨st_plain rfl (op_build _ _ _ _ [1, 1, 1, 1, 1, 1, 1] _ _ Try.underlying24 zr24 (fs24 _ Try.underlying24) Src.nil rfl rfl rfl),
    st_plain rfl (op_move _ _ _ _ rfl rfl),
    st_plain rfl (op_store _ _ _ _ _ _ _ _ sz24 rfl rfl rfl rfl (Nat.le_of_ble_eq_true rfl) rfl rfl),
    st_plain rfl (op_assign _ _ _ _ rfl rfl),
    trivial⟩ ?_
   refine pt_then ?_
   refine ht_ret ?_
   refine pt_sub (fs := [(4, .box 24 [.v (.int .i64 0), .fl (.own 5) 1 (List.map (Value.int .u8) []), .v (.bool false), .v (.int .i64 0), .v (.int .i64 0), .v (.int .i64 0), .v (.bool false)]), (5, .v (.int .i64 v1))]) (.box _ _ (subs_cons (sub_refl _) (subs_cons (sub_nil 5 1) (subs_cons (sub_refl _) (subs_cons (sub_refl _) (subs_cons (sub_refl _) (subs_cons (sub_refl _) (subs_cons (sub_refl _) (subs_nil)))))))) rfl (.same _ .nil)) ?_
   refine pt_r_then ?_
   obtain rfl := Option.some.inj h
   exact pt_ret hio rfl (.cellA _ _ _ _ Try.underlying24 rfl sz24 (.tmp _ _ .nil)) rfl rfl
  ·have h := cond_f hb2 h
   refine ht_skip ?_
   refine pt_then ?_
   refine ht_seq ?_
   refine ht_seq ?_
   obtain ⟨v3, hv3, h⟩ := bind_some h
   refine ht_seqR hn (El := [_, _, _, _, _, (15, .agg [.v (.int .i64 f.Kind), .v (.int .i64 f.Number), .v (.int .i64 f.Offset), .v (.int .i64 f.Seq), .fl .shr 1 (List.map (Value.int .u8) f.Data)]), (16, .v (.int .i64 v3)), (7, .v (.int .i64 v3))]) (init := [0, 1, 2, 3, 4]) (fin := [0, 1, 2, 7]) (sps := [⟨[1], [], [5], [(.slot 15)]⟩, ⟨[5], [], [6], [(.slot 16)]⟩, ⟨[6], [], [7], [(.slot 7)]⟩]) (es' := [(_, _), (_, _), (_, _), (7, .v (.int .i64 v3))]) (by kernel_rfl) rfl rfl
    ⟨st_plain rfl (op_loadA _ _ _ _ _ _ _ Try.underlying26 rfl sz26 rfl rfl (Nat.le_of_ble_eq_true rfl) rfl rfl),
    st_plain rfl (op_call _ _ 36 _ _ rfl Try.call36 rfl (ok_frame_Check f _ hv3) rfl rfl),
    st_plain rfl (op_assign _ _ _ _ rfl rfl),
    trivial⟩ ?_
   refine pt_then ?_
   refine ht_seq ?_
   refine ht_seqR hn (El := [_, _, _, _, (17, .v (.int .i64 v3)), (18, .v (.bool (v3 != 0)))]) (init := [0, 1, 2, 3]) (fin := [0, 1, 2, 3, 5]) (sps := [⟨[3], [], [4], [(.slot 17)]⟩, ⟨[4], [], [5], [(.slot 18)]⟩]) (es' := [(_, _), (_, _), (_, _), (_, _), (18, .v (.bool (v3 != 0)))]) (by kernel_rfl) rfl rfl
    ⟨st_plain rfl (op_move _ _ _ _ rfl rfl),
    st_plain rfl (op_bin _ _ _ _ _ rfl rfl rfl),
    trivial⟩ ?_
   refine pt_then ?_
   refine ht_cond _ rfl (fun hb4 => ?_) (fun hb4 => ?_)
   ·have h := cond_t hb4 h
    refine ht_seq ?_
    refine ht_seqR hn (El := [_, _, _, _, _, (19, .agg [.v (.int .i64 0), .v (.slice none 0 0), .v (.bool false), .v (.int .i64 0), .v (.int .i64 0), .v (.int .i64 0), .v (.bool false)]), (20, .v (.int .i64 v3)), (4, .box 24 [.v (.int .i64 0), .v (.slice none 0 0), .v (.bool false), .v (.int .i64 0), .v (.int .i64 0), .v (.int .i64 0), .v (.bool false)]), (5, .v (.int .i64 v3))]) (init := [0, 1, 2, 3, 4]) (fin := [7, 8]) (sps := [⟨[], [], [5], [(.slot 19)]⟩, ⟨[3], [], [6], [(.slot 20)]⟩, ⟨[5], [2], [7], [.cell 4 0, .cell 4 1, .cell 4 2, .cell 4 3, .cell 4 4, .cell 4 5, .cell 4 6]⟩, ⟨[6], [], [8], [(.slot 5)]⟩]) (es' := [(4, .box 24 [.v (.int .i64 0), .v (.slice none 0 0), .v (.bool false), .v (.int .i64 0), .v (.int .i64 0), .v (.int .i64 0), .v (.bool false)]), (5, .v (.int .i64 v3))]) (by kernel_rfl) rfl rfl
     ⟨st_plain rfl (op_build _ _ _ _ [1, 1, 1, 1, 1, 1, 1] _ _ Try.underlying24 zr24 (fs24 _ Try.underlying24) Src.nil rfl rfl rfl),
     st_plain rfl (op_move _ _ _ _ rfl rfl),
     st_plain rfl (op_store _ _ _ _ _ _ _ _ sz24 rfl rfl rfl rfl (Nat.le_of_ble_eq_true rfl) rfl rfl),
     st_plain rfl (op_assign _ _ _ _ rfl rfl),
     trivial⟩ ?_
    refine pt_then ?_
    refine ht_ret ?_
    refine pt_sub (fs := [(4, .box 24 [.v (.int .i64 0), .fl (.own 5) 1 (List.map (Value.int .u8) []), .v (.bool false), .v (.int .i64 0), .v (.int .i64 0), .v (.int .i64 0), .v (.bool false)]), (5, .v (.int .i64 v3))]) (.box _ _ (subs_cons (sub_refl _) (subs_cons (sub_nil 5 1) (subs_cons (sub_refl _) (subs_cons (sub_refl _) (subs_cons (sub_refl _) (subs_cons (sub_refl _) (subs_cons (sub_refl _) (subs_nil)))))))) rfl (.same _ .nil)) ?_
    refine pt_r_then ?_
    obtain rfl := Option.some.inj h
    exact pt_ret hio rfl (.cellA _ _ _ _ Try.underlying24 rfl sz24 (.tmp _ _ .nil)) rfl rfl
   ·have h := cond_f hb4 h
    refine ht_skip ?_
    refine pt_then ?_
    refine ht_seq ?_
    refine ht_seq ?_
    refine ht_joinS h (fun (s5 : Bool) => [(2, .box 24 [.v (.int .i64 s.Number), .fl .shr 1 (List.map (Value.int .u8) s.Data), .v (.bool s.Ready), .v (.int .i64 s.Base), .v (.int .i64 s.Next), .v (.int .i64 s.Wait), .v (.bool s.Over)]), (3, .box 26 [.v (.int .i64 f.Kind), .v (.int .i64 f.Number), .v (.int .i64 f.Offset), .v (.int .i64 f.Seq), .fl .shr 1 (List.map (Value.int .u8) f.Data)]), (4, .box 24 [.v (.int .i64 0), .v (.slice none 0 0), .v (.bool false), .v (.int .i64 0), .v (.int .i64 0), .v (.int .i64 0), .v (.bool false)]), (29, .v (.bool s5))]) ?_ ?_
    ·rintro s5 h
     refine pt_then ?_
     refine ht_cond _ rfl (fun hb9 => ?_) (fun hb9 => ?_)
     ·have h := cond_t hb9 h
      refine ht_seq ?_
      refine ht_seqR hn (El := [_, _, _, _, (30, .agg [.v (.int .i64 0), .v (.slice none 0 0), .v (.bool false), .v (.int .i64 0), .v (.int .i64 0), .v (.int .i64 0), .v (.bool false)]), (4, .box 24 [.v (.int .i64 0), .v (.slice none 0 0), .v (.bool false), .v (.int .i64 0), .v (.int .i64 0), .v (.int .i64 0), .v (.bool false)]), (5, .v (.int .i64 11))]) (init := [0, 1, 2, 3]) (fin := [5, 6]) (sps := [⟨[], [], [4], [(.slot 30)]⟩, ⟨[4], [2], [5], [.cell 4 0, .cell 4 1, .cell 4 2, .cell 4 3, .cell 4 4, .cell 4 5, .cell 4 6]⟩, ⟨[], [], [6], [(.slot 5)]⟩]) (es' := [(4, .box 24 [.v (.int .i64 0), .v (.slice none 0 0), .v (.bool false), .v (.int .i64 0), .v (.int .i64 0), .v (.int .i64 0), .v (.bool false)]), (5, .v (.int .i64 11))]) (by kernel_rfl) rfl rfl
       ⟨st_plain rfl (op_build _ _ _ _ [1, 1, 1, 1, 1, 1, 1] _ _ Try.underlying24 zr24 (fs24 _ Try.underlying24) Src.nil rfl rfl rfl),
       st_plain rfl (op_store _ _ _ _ _ _ _ _ sz24 rfl rfl rfl rfl (Nat.le_of_ble_eq_true rfl) rfl rfl),
       st_plain rfl (op_assign _ _ _ _ rfl rfl),
       trivial⟩ ?_
      refine pt_then ?_
      refine ht_ret ?_
      refine pt_sub (fs := [(4, .box 24 [.v (.int .i64 0), .fl (.own 5) 1 (List.map (Value.int .u8) []), .v (.bool false), .v (.int .i64 0), .v (.int .i64 0), .v (.int .i64 0), .v (.bool false)]), (5, .v (.int .i64 11))]) (.box _ _ (subs_cons (sub_refl _) (subs_cons (sub_nil 5 1) (subs_cons (sub_refl _) (subs_cons (sub_refl _) (subs_cons (sub_refl _) (subs_cons (sub_refl _) (subs_cons (sub_refl _) (subs_nil)))))))) rfl (.same _ .nil)) ?_
      refine pt_r_then ?_
      obtain rfl := Option.some.inj h
      exact pt_ret hio rfl (.cellA _ _ _ _ Try.underlying24 rfl sz24 (.tmp _ _ .nil)) rfl rfl
     ·have h := cond_f hb9 h
      refine ht_skip ?_
      refine pt_then ?_
      refine ht_seq ?_
      obtain ⟨v10, hv10, h⟩ := bind_some h
      refine ht_seqR hn (El := [_, _, _, _, (31, .agg [.v (.int .i64 s.Number), .fl .shr 1 (List.map (Value.int .u8) s.Data), .v (.bool s.Ready), .v (.int .i64 s.Base), .v (.int .i64 s.Next), .v (.int .i64 s.Wait), .v (.bool s.Over)]), (32, .agg [.v (.int .i64 v10.Number), .fl (.own 5) 1 (List.map (Value.int .u8) v10.Data), .v (.bool v10.Ready), .v (.int .i64 v10.Base), .v (.int .i64 v10.Next), .v (.int .i64 v10.Wait), .v (.bool v10.Over)]), (2, .box 24 [.v (.int .i64 v10.Number), .fl (.own 5) 1 (List.map (Value.int .u8) v10.Data), .v (.bool v10.Ready), .v (.int .i64 v10.Base), .v (.int .i64 v10.Next), .v (.int .i64 v10.Wait), .v (.bool v10.Over)])]) (init := [0, 1, 2, 3]) (fin := [6, 1, 2]) (sps := [⟨[0], [], [4], [(.slot 31)]⟩, ⟨[4], [], [5], [(.slot 32)]⟩, ⟨[], [5, 0], [6], [.cell 2 0, .cell 2 1, .cell 2 2, .cell 2 3, .cell 2 4, .cell 2 5, .cell 2 6]⟩]) (es' := [(2, .box 24 [.v (.int .i64 v10.Number), .fl (.own 5) 1 (List.map (Value.int .u8) v10.Data), .v (.bool v10.Ready), .v (.int .i64 v10.Base), .v (.int .i64 v10.Next), .v (.int .i64 v10.Wait), .v (.bool v10.Over)]), (_, _), (_, _)]) (by kernel_rfl) rfl rfl
       ⟨st_plain rfl (op_loadA _ _ _ _ _ _ _ Try.underlying24 rfl sz24 rfl rfl (Nat.le_of_ble_eq_true rfl) rfl rfl),
       st_plain rfl (op_call _ _ 31 _ _ rfl Try.call31 rfl (ok_clone_Send s _ hv10) rfl rfl),
       st_plain rfl (op_store_take _ _ _ _ _ _ _ _ sz24 rfl rfl rfl (Nat.le_of_ble_eq_true rfl) rfl rfl),
       trivial⟩ ?_
      refine pt_then ?_
      refine ht_seq ?_
      refine ht_seqR hn (El := [_, _, _, (8, .v (.bool false))]) (init := [0, 1, 2]) (fin := [0, 1, 2, 3]) (sps := [⟨[], [], [3], [(.slot 8)]⟩]) (es' := [(_, _), (_, _), (_, _), (8, .v (.bool false))]) (by kernel_rfl) rfl rfl
       ⟨st_plain rfl (op_assign _ _ _ _ rfl rfl),
       trivial⟩ ?_
      refine pt_then ?_
      refine ht_seq ?_
      refine ht_joinS h (fun ((s30, s31, s32, s33, s34, s35, s36, s37) : Int × (List Int) × Bool × Int × Int × Int × Bool × Bool) => [(2, .box 24 [.v (.int .i64 s30), .fl (.own 5) 1 (List.map (Value.int .u8) s31), .v (.bool s32), .v (.int .i64 s33), .v (.int .i64 s34), .v (.int .i64 s35), .v (.bool s36)]), (4, .box 24 [.v (.int .i64 0), .v (.slice none 0 0), .v (.bool false), .v (.int .i64 0), .v (.int .i64 0), .v (.int .i64 0), .v (.bool false)]), (8, .v (.bool s37))]) ?_ ?_
      ·rintro ⟨s30, s31, s32, s33, s34, s35, s36, s37⟩ h
       refine pt_then ?_
       refine ht_seq ?_
       refine ht_seq ?_
       refine ht_seqR hn (El := [_, _, _, (48, .v (.bool s37)), (49, .v (.bool (!s37)))]) (init := [0, 1, 2]) (fin := [0, 1, 4]) (sps := [⟨[2], [], [3], [(.slot 48)]⟩, ⟨[3], [], [4], [(.slot 49)]⟩]) (es' := [(_, _), (_, _), (49, .v (.bool (!s37)))]) (by kernel_rfl) rfl rfl
        ⟨st_plain rfl (op_move _ _ _ _ rfl rfl),
        st_plain rfl (op_un _ _ _ _ rfl rfl),
        trivial⟩ ?_
       refine pt_then ?_
       refine ht_cond _ rfl (fun hb58 => ?_) (fun hb58 => ?_)
       ·have h := cond_t hb58 h
        refine ht_seq ?_
        refine ht_seqR hn (El := [_, _, _, (50, .agg [.v (.int .i64 0), .v (.slice none 0 0), .v (.bool false), .v (.int .i64 0), .v (.int .i64 0), .v (.int .i64 0), .v (.bool false)]), (4, .box 24 [.v (.int .i64 0), .v (.slice none 0 0), .v (.bool false), .v (.int .i64 0), .v (.int .i64 0), .v (.int .i64 0), .v (.bool false)]), (5, .v (.int .i64 11))]) (init := [0, 1, 2]) (fin := [4, 5]) (sps := [⟨[], [], [3], [(.slot 50)]⟩, ⟨[3], [1], [4], [.cell 4 0, .cell 4 1, .cell 4 2, .cell 4 3, .cell 4 4, .cell 4 5, .cell 4 6]⟩, ⟨[], [], [5], [(.slot 5)]⟩]) (es' := [(4, .box 24 [.v (.int .i64 0), .v (.slice none 0 0), .v (.bool false), .v (.int .i64 0), .v (.int .i64 0), .v (.int .i64 0), .v (.bool false)]), (5, .v (.int .i64 11))]) (by kernel_rfl) rfl rfl
         ⟨st_plain rfl (op_build _ _ _ _ [1, 1, 1, 1, 1, 1, 1] _ _ Try.underlying24 zr24 (fs24 _ Try.underlying24) Src.nil rfl rfl rfl),
         st_plain rfl (op_store _ _ _ _ _ _ _ _ sz24 rfl rfl rfl rfl (Nat.le_of_ble_eq_true rfl) rfl rfl),
         st_plain rfl (op_assign _ _ _ _ rfl rfl),
         trivial⟩ ?_
        refine pt_then ?_
        refine ht_ret ?_
        refine pt_sub (fs := [(4, .box 24 [.v (.int .i64 0), .fl (.own 5) 1 (List.map (Value.int .u8) []), .v (.bool false), .v (.int .i64 0), .v (.int .i64 0), .v (.int .i64 0), .v (.bool false)]), (5, .v (.int .i64 11))]) (.box _ _ (subs_cons (sub_refl _) (subs_cons (sub_nil 5 1) (subs_cons (sub_refl _) (subs_cons (sub_refl _) (subs_cons (sub_refl _) (subs_cons (sub_refl _) (subs_cons (sub_refl _) (subs_nil)))))))) rfl (.same _ .nil)) ?_
        refine pt_r_then ?_
        obtain rfl := Option.some.inj h
        exact pt_ret hio rfl (.cellA _ _ _ _ Try.underlying24 rfl sz24 (.tmp _ _ .nil)) rfl rfl
       ·have h := cond_f hb58 h
        refine ht_skip ?_
        refine pt_then ?_
        refine ht_seq ?_
        refine ht_seqR hn (El := [_, _, _, (51, .agg [.v (.int .i64 s30), .fl (.own 5) 1 (List.map (Value.int .u8) s31), .v (.bool s32), .v (.int .i64 s33), .v (.int .i64 s34), .v (.int .i64 s35), .v (.bool s36)]), (4, .box 24 [.v (.int .i64 s30), .fl (.own 5) 1 (List.map (Value.int .u8) s31), .v (.bool s32), .v (.int .i64 s33), .v (.int .i64 s34), .v (.int .i64 s35), .v (.bool s36)]), (5, .v (.int .i64 0))]) (init := [0, 1, 2]) (fin := [4, 5]) (sps := [⟨[], [0], [3], [(.slot 51)]⟩, ⟨[], [3, 1], [4], [.cell 4 0, .cell 4 1, .cell 4 2, .cell 4 3, .cell 4 4, .cell 4 5, .cell 4 6]⟩, ⟨[], [], [5], [(.slot 5)]⟩]) (es' := [(4, .box 24 [.v (.int .i64 s30), .fl (.own 5) 1 (List.map (Value.int .u8) s31), .v (.bool s32), .v (.int .i64 s33), .v (.int .i64 s34), .v (.int .i64 s35), .v (.bool s36)]), (5, .v (.int .i64 0))]) (by kernel_rfl) rfl rfl
         ⟨st_plain rfl (op_loadA_take _ _ _ _ Try.underlying24 rfl sz24 rfl rfl),
         st_plain rfl (op_store_take _ _ _ _ _ _ _ _ sz24 rfl rfl rfl (Nat.le_of_ble_eq_true rfl) rfl rfl),
         st_plain rfl (op_assign _ _ _ _ rfl rfl),
         trivial⟩ ?_
        refine pt_then ?_
        refine ht_ret ?_
        obtain rfl := Option.some.inj h
        exact pt_ret hio rfl (.cellA _ _ _ _ Try.underlying24 rfl sz24 (.tmp _ _ .nil)) rfl rfl
      ·intro u38 h hl39 hr40
       refine ht_seq ?_
       refine ht_seqR hn (El := [_, _, _, _, (33, .ptr 3 0), (34, .v (.int .i64 f.Kind))]) (init := [0, 1, 2, 3]) (fin := [0, 1, 2, 3, 5]) (sps := [⟨[1], [], [4], [(.slot 33)]⟩, ⟨[4, 1], [], [5], [(.slot 34)]⟩]) (es' := [(_, _), (_, _), (_, _), (_, _), (34, .v (.int .i64 f.Kind))]) (by kernel_rfl) rfl rfl
        ⟨st_plain rfl (op_fieldAddr _ _ _ _ 3 0 _ Try.underlying26 rfl sz3 rfl rfl (by decide)),
        st_plain rfl (op_load _ _ _ _ _ _ Try.underlying3 rfl rfl rfl (Nat.le_of_ble_eq_true rfl) rfl rfl rfl),
        trivial⟩ ?_
       refine pt_then ?_
       refine ht_joinS h (fun ((s44, s45, s46, s47, s48, s49, s50, s51) : Int × (List Int) × Bool × Int × Int × Int × Bool × Bool) => [(2, .box 24 [.v (.int .i64 s44), .fl (.own 5) 1 (List.map (Value.int .u8) s45), .v (.bool s46), .v (.int .i64 s47), .v (.int .i64 s48), .v (.int .i64 s49), .v (.bool s50)]), (4, .box 24 [.v (.int .i64 0), .v (.slice none 0 0), .v (.bool false), .v (.int .i64 0), .v (.int .i64 0), .v (.int .i64 0), .v (.bool false)]), (8, .v (.bool s51))]) ?_ ?_
       ·rintro ⟨s44, s45, s46, s47, s48, s49, s50, s51⟩ h
        exact hl39 _ (Option.some.inj h).symm
       ·intro u52 h hl53 hr54
        refine ht_block ?_
        refine ht_seq ?_
        refine ht_seqR hn (El := [_, _, _, _, _, (36, .v (.bool (f.Kind == 2))), (35, .v (.bool (f.Kind == 2)))]) (init := [0, 1, 2, 3, 4]) (fin := [0, 1, 2, 3, 4, 6]) (sps := [⟨[4], [], [5], [(.slot 36)]⟩, ⟨[5], [], [6], [(.slot 35)]⟩]) (es' := [(_, _), (_, _), (_, _), (_, _), (_, _), (35, .v (.bool (f.Kind == 2)))]) (by kernel_rfl) rfl rfl
         ⟨st_plain rfl (op_bin _ _ _ _ _ rfl rfl rfl),
         st_plain rfl (op_assign _ _ _ _ rfl rfl),
         trivial⟩ ?_
        refine pt_then ?_
        refine ht_cond _ rfl (fun hb55 => ?_) (fun hb55 => ?_)
        ·have h := cond_t hb55 h
         obtain ⟨v12, hv12, h⟩ := bind_some h
         refine ht_seqR hn (El := [_, _, _, _, _, _, (37, .ptr 3 2), (38, .v (.int .i64 f.Offset)), (39, .v (.bool v12.1)), (2, .box 24 [.v (.int .i64 v12.2.Number), .fl (.own 5) 1 (List.map (Value.int .u8) v12.2.Data), .v (.bool v12.2.Ready), .v (.int .i64 v12.2.Base), .v (.int .i64 v12.2.Next), .v (.int .i64 v12.2.Wait), .v (.bool v12.2.Over)]), (8, .v (.bool v12.1))]) (init := [0, 1, 2, 3, 4, 5]) (fin := [9, 2, 10]) (sps := [⟨[1], [], [6], [(.slot 37)]⟩, ⟨[6, 1], [], [7], [(.slot 38)]⟩, ⟨[7], [0], [9, 8], [(.slot 39), (.cell 2 0), (.cell 2 1), (.cell 2 2), (.cell 2 3), (.cell 2 4), (.cell 2 5), (.cell 2 6)]⟩, ⟨[8], [3], [10], [(.slot 8)]⟩]) (es' := [(2, .box 24 [.v (.int .i64 v12.2.Number), .fl (.own 5) 1 (List.map (Value.int .u8) v12.2.Data), .v (.bool v12.2.Ready), .v (.int .i64 v12.2.Base), .v (.int .i64 v12.2.Next), .v (.int .i64 v12.2.Wait), .v (.bool v12.2.Over)]), (_, _), (8, .v (.bool v12.1))]) (by kernel_rfl) rfl rfl
          ⟨st_plain rfl (op_fieldAddr _ _ _ _ 3 0 _ Try.underlying26 rfl sz3 rfl rfl (by decide)),
          st_plain rfl (op_load _ _ _ _ _ _ Try.underlying3 rfl rfl rfl (Nat.le_of_ble_eq_true rfl) rfl rfl rfl),
          st_plain rfl (op_callP _ _ _ _ 39 37 [.tmp 2] [.tmp 38] _ _ _ rfl Try.call37 rfl rfl rfl (ok_sender_ready v10 f.Offset _ hv12) (Nat.le_of_ble_eq_true rfl) rfl rfl rfl rfl rfl rfl rfl rfl),
          st_plain rfl (LOp.drop [_] (op_assign _ _ _ _ rfl rfl)),
          trivial⟩ ?_
         refine pt_inb ?_
         exact hl53 _ (Option.some.inj h).symm
        ·have h := cond_f hb55 h
         refine ht_seq ?_
         refine ht_seqR hn (El := [_, _, _, _, _, _, (41, .v (.bool (f.Kind == 4))), (40, .v (.bool (f.Kind == 4)))]) (init := [0, 1, 2, 3, 4, 5]) (fin := [0, 1, 2, 3, 4, 7]) (sps := [⟨[4], [], [6], [(.slot 41)]⟩, ⟨[6], [], [7], [(.slot 40)]⟩]) (es' := [(_, _), (_, _), (_, _), (_, _), (_, _), (40, .v (.bool (f.Kind == 4)))]) (by kernel_rfl) rfl rfl
          ⟨st_plain rfl (op_bin _ _ _ _ _ rfl rfl rfl),
          st_plain rfl (op_assign _ _ _ _ rfl rfl),
          trivial⟩ ?_
         refine pt_then ?_
         refine ht_cond _ rfl (fun hb56 => ?_) (fun hb56 => ?_)
         ·have h := cond_t hb56 h
          obtain ⟨v14, hv14, h⟩ := bind_some h
          refine ht_seqR hn (El := [_, _, _, _, _, _, (42, .ptr 3 3), (43, .v (.int .i64 f.Seq)), (44, .v (.bool v14.1)), (2, .box 24 [.v (.int .i64 v14.2.Number), .fl (.own 5) 1 (List.map (Value.int .u8) v14.2.Data), .v (.bool v14.2.Ready), .v (.int .i64 v14.2.Base), .v (.int .i64 v14.2.Next), .v (.int .i64 v14.2.Wait), .v (.bool v14.2.Over)]), (8, .v (.bool v14.1))]) (init := [0, 1, 2, 3, 4, 5]) (fin := [9, 2, 10]) (sps := [⟨[1], [], [6], [(.slot 42)]⟩, ⟨[6, 1], [], [7], [(.slot 43)]⟩, ⟨[7], [0], [9, 8], [(.slot 44), (.cell 2 0), (.cell 2 1), (.cell 2 2), (.cell 2 3), (.cell 2 4), (.cell 2 5), (.cell 2 6)]⟩, ⟨[8], [3], [10], [(.slot 8)]⟩]) (es' := [(2, .box 24 [.v (.int .i64 v14.2.Number), .fl (.own 5) 1 (List.map (Value.int .u8) v14.2.Data), .v (.bool v14.2.Ready), .v (.int .i64 v14.2.Base), .v (.int .i64 v14.2.Next), .v (.int .i64 v14.2.Wait), .v (.bool v14.2.Over)]), (_, _), (8, .v (.bool v14.1))]) (by kernel_rfl) rfl rfl
           ⟨st_plain rfl (op_fieldAddr _ _ _ _ 3 0 _ Try.underlying26 rfl sz3 rfl rfl (by decide)),
           st_plain rfl (op_load _ _ _ _ _ _ Try.underlying3 rfl rfl rfl (Nat.le_of_ble_eq_true rfl) rfl rfl rfl),
           st_plain rfl (op_callP _ _ _ _ 44 38 [.tmp 2] [.tmp 43] _ _ _ rfl Try.call38 rfl rfl rfl (ok_sender_ack v10 f.Seq _ hv14) (Nat.le_of_ble_eq_true rfl) rfl rfl rfl rfl rfl rfl rfl rfl),
           st_plain rfl (LOp.drop [_] (op_assign _ _ _ _ rfl rfl)),
           trivial⟩ ?_
          refine pt_inb ?_
          exact hl53 _ (Option.some.inj h).symm
         ·have h := cond_f hb56 h
          refine ht_seq ?_
          refine ht_seqR hn (El := [_, _, _, _, _, _, (46, .v (.bool (f.Kind == 5))), (45, .v (.bool (f.Kind == 5)))]) (init := [0, 1, 2, 3, 4, 5]) (fin := [0, 2, 3, 7]) (sps := [⟨[4], [], [6], [(.slot 46)]⟩, ⟨[6], [], [7], [(.slot 45)]⟩]) (es' := [(_, _), (_, _), (_, _), (45, .v (.bool (f.Kind == 5)))]) (by kernel_rfl) rfl rfl
           ⟨st_plain rfl (op_bin _ _ _ _ _ rfl rfl rfl),
           st_plain rfl (op_assign _ _ _ _ rfl rfl),
           trivial⟩ ?_
          refine pt_then ?_
          refine ht_cond _ rfl (fun hb57 => ?_) (fun hb57 => ?_)
          ·have h := cond_t hb57 h
           refine ht_seqR hn (El := [_, _, _, _, (47, .ptr 2 6), (2, .box 24 [.v (.int .i64 v10.Number), .fl (.own 5) 1 (List.map (Value.int .u8) v10.Data), .v (.bool v10.Ready), .v (.int .i64 v10.Base), .v (.int .i64 v10.Next), .v (.int .i64 v10.Wait), .v (.bool true)]), (8, .v (.bool true))]) (init := [0, 1, 2, 3]) (fin := [5, 1, 6]) (sps := [⟨[0], [], [4], [(.slot 47)]⟩, ⟨[4], [0], [5], [.cell 2 6]⟩, ⟨[], [2], [6], [(.slot 8)]⟩]) (es' := [(2, .box 24 [.v (.int .i64 v10.Number), .fl (.own 5) 1 (List.map (Value.int .u8) v10.Data), .v (.bool v10.Ready), .v (.int .i64 v10.Base), .v (.int .i64 v10.Next), .v (.int .i64 v10.Wait), .v (.bool true)]), (_, _), (8, .v (.bool true))]) (by kernel_rfl) rfl rfl
            ⟨st_plain rfl (op_fieldAddr _ _ _ _ 2 0 _ Try.underlying24 rfl sz4 rfl rfl (by decide)),
            st_plain rfl (op_store _ _ _ _ _ _ _ _ sz4 rfl rfl rfl rfl (Nat.le_of_ble_eq_true rfl) rfl rfl),
            st_plain rfl (LOp.drop [_] (op_assign _ _ _ _ rfl rfl)),
            trivial⟩ ?_
           refine pt_inb ?_
           exact hl53 _ (Option.some.inj h).symm
          ·have h := cond_f hb57 h
           refine ht_skip ?_
           refine pt_inb ?_
           refine pt_pick [0, 1, 2] (by kernel_rfl) (es' := [(_, _), (_, _), (_, _)]) rfl ?_
           exact hl53 _ (Option.some.inj h).symm
    ·intro u6 h hl7 hr8
     refine cond_some h (fun hg7_5 h => ?_) (fun hg7_5 h => ?_)
     ·refine ht_seqR hn (El := [_, _, _, _, _, (21, .ptr 3 1), (22, .v (.int .i64 f.Number)), (23, .ptr 2 0), (24, .v (.int .i64 s.Number)), (25, .v (.bool (f.Number != s.Number))), (26, .v (.bool true)), (27, .v undef), (28, .v undef), (29, .v (.bool true))]) (init := [0, 1, 2, 3, 4]) (fin := [0, 1, 2, 13]) (sps := [⟨[1], [], [5], [(.slot 21)]⟩, ⟨[5, 1], [], [6], [(.slot 22)]⟩, ⟨[0], [], [7], [(.slot 23)]⟩, ⟨[7, 0], [], [8], [(.slot 24)]⟩, ⟨[6, 8], [], [9], [(.slot 25)]⟩, ⟨[9], [], [10], [(.slot 26)]⟩, ⟨[10], [], [11], [(.slot 27)]⟩, ⟨[10], [], [12], [(.slot 28)]⟩, ⟨[10], [], [13], [(.slot 29)]⟩]) (es' := [(_, _), (_, _), (_, _), (29, .v (.bool true))]) (by kernel_rfl) rfl rfl
       ⟨st_plain rfl (op_fieldAddr _ _ _ _ 3 0 _ Try.underlying26 rfl sz3 rfl rfl (by decide)),
       st_plain rfl (op_load _ _ _ _ _ _ Try.underlying3 rfl rfl rfl (Nat.le_of_ble_eq_true rfl) rfl rfl rfl),
       st_plain rfl (op_fieldAddr _ _ _ _ 2 0 _ Try.underlying24 rfl sz3 rfl rfl (by decide)),
       st_plain rfl (op_load _ _ _ _ _ _ Try.underlying3 rfl rfl rfl (Nat.le_of_ble_eq_true rfl) rfl rfl rfl),
       st_plain rfl (op_bin _ _ _ _ _ rfl rfl rfl),
       st_plain rfl (op_move _ _ _ _ (congrArg (fun b => AV.v (Value.bool b)) hg7_5) rfl),
       st_skip 5 26 _ false rfl rfl rfl rfl (List.Mem.head _),
       st_skip 5 26 _ false rfl rfl rfl rfl (List.Mem.head _),
       st_plain rfl (op_pick _ _ true _ rfl rfl),
       trivial⟩ ?_
      exact hl7 _ (Option.some.inj h).symm
     ·refine ht_seqR hn (El := [_, _, _, _, _, (21, .ptr 3 1), (22, .v (.int .i64 f.Number)), (23, .ptr 2 0), (24, .v (.int .i64 s.Number)), (25, .v (.bool (f.Number != s.Number))), (26, .v (.bool false)), (27, .ptr 2 6), (28, .v (.bool s.Over)), (29, .v (.bool s.Over))]) (init := [0, 1, 2, 3, 4]) (fin := [0, 1, 2, 13]) (sps := [⟨[1], [], [5], [(.slot 21)]⟩, ⟨[5, 1], [], [6], [(.slot 22)]⟩, ⟨[0], [], [7], [(.slot 23)]⟩, ⟨[7, 0], [], [8], [(.slot 24)]⟩, ⟨[6, 8], [], [9], [(.slot 25)]⟩, ⟨[9], [], [10], [(.slot 26)]⟩, ⟨[10, 0], [], [11], [(.slot 27)]⟩, ⟨[10, 11, 0], [], [12], [(.slot 28)]⟩, ⟨[10, 12], [], [13], [(.slot 29)]⟩]) (es' := [(_, _), (_, _), (_, _), (29, .v (.bool s.Over))]) (by kernel_rfl) rfl rfl
       ⟨st_plain rfl (op_fieldAddr _ _ _ _ 3 0 _ Try.underlying26 rfl sz3 rfl rfl (by decide)),
       st_plain rfl (op_load _ _ _ _ _ _ Try.underlying3 rfl rfl rfl (Nat.le_of_ble_eq_true rfl) rfl rfl rfl),
       st_plain rfl (op_fieldAddr _ _ _ _ 2 0 _ Try.underlying24 rfl sz3 rfl rfl (by decide)),
       st_plain rfl (op_load _ _ _ _ _ _ Try.underlying3 rfl rfl rfl (Nat.le_of_ble_eq_true rfl) rfl rfl rfl),
       st_plain rfl (op_bin _ _ _ _ _ rfl rfl rfl),
       st_plain rfl (op_move _ _ _ _ (congrArg (fun b => AV.v (Value.bool b)) hg7_5) rfl),
       st_run 5 26 false rfl rfl rfl (List.Mem.head _) (op_fieldAddr _ _ _ _ 2 0 _ Try.underlying24 rfl sz4 rfl rfl (by decide)),
       st_run 5 26 false rfl rfl rfl (List.Mem.head _) (op_load _ _ _ _ _ _ Try.underlying4 rfl rfl rfl (Nat.le_of_ble_eq_true rfl) rfl rfl rfl),
       st_plain rfl (op_pick _ _ false _ rfl rfl),
       trivial⟩ ?_
      exact hl7 _ (Option.some.inj h).symm

set_option maxHeartbeats 1000000 in
theorem ok_wherrykeep_Send (a : T_Send) (b : T_Send) (r : Bool) (h : Sh.wherrykeep_Send a b = some r) : FnOK Try.prog 20 [.agg [.v (.int .i64 a.Number), .fl .shr 1 (List.map (Value.int .u8) a.Data), .v (.bool a.Ready), .v (.int .i64 a.Base), .v (.int .i64 a.Next), .v (.int .i64 a.Wait), .v (.bool a.Over)], .agg [.v (.int .i64 b.Number), .fl .shr 1 (List.map (Value.int .u8) b.Data), .v (.bool b.Ready), .v (.int .i64 b.Base), .v (.int .i64 b.Next), .v (.int .i64 b.Wait), .v (.bool b.Over)]] (.v (.bool r)) := by
  unfold Sh.wherrykeep_Send at h
  refine fn_ok Try.func20 rfl (Nat.le_of_ble_eq_true rfl) rfl rfl fun g0 hn hio => ?_
  refine ht_seq ?_
  refine ht_seqR hn (El := [_, _, (2, .box 24 [.v (.int .i64 a.Number), .fl .shr 1 (List.map (Value.int .u8) a.Data), .v (.bool a.Ready), .v (.int .i64 a.Base), .v (.int .i64 a.Next), .v (.int .i64 a.Wait), .v (.bool a.Over)]), (3, .box 24 [.v (.int .i64 b.Number), .fl .shr 1 (List.map (Value.int .u8) b.Data), .v (.bool b.Ready), .v (.int .i64 b.Base), .v (.int .i64 b.Next), .v (.int .i64 b.Wait), .v (.bool b.Over)]), (4, .v (.bool false))]) (init := [0, 1]) (fin := [2, 3]) (sps := [⟨[0], [], [2], [(.slot 2)]⟩, ⟨[1], [], [3], [(.slot 3)]⟩, ⟨[], [], [4], [(.slot 4)]⟩]) (es' := [(2, .box 24 [.v (.int .i64 a.Number), .fl .shr 1 (List.map (Value.int .u8) a.Data), .v (.bool a.Ready), .v (.int .i64 a.Base), .v (.int .i64 a.Next), .v (.int .i64 a.Wait), .v (.bool a.Over)]), (3, .box 24 [.v (.int .i64 b.Number), .fl .shr 1 (List.map (Value.int .u8) b.Data), .v (.bool b.Ready), .v (.int .i64 b.Base), .v (.int .i64 b.Next), .v (.int .i64 b.Wait), .v (.bool b.Over)])]) (by kernel_rfl) rfl rfl
   ⟨st_plain rfl (op_box _ _ _ _ rfl rfl rfl),
   st_plain rfl (op_box _ _ _ _ rfl rfl rfl),
   st_plain rfl (op_assign _ _ _ _ rfl rfl),
   trivial⟩ ?_
  refine pt_then ?_
  refine ht_seq ?_
  refine ht_joinS h (fun (s4 : Bool) => [(4, .v (.bool s4))]) ?_ ?_
  ·rintro s4 h
   refine pt_then ?_
   refine ht_ret ?_
   obtain rfl := Option.some.inj h
   exact pt_ret hio rfl (.tmp _ _ .nil) rfl rfl
  ·intro u5 h hl6 hr7
   refine cond_some h (fun hg1_5 h => ?_) (fun hg1_5 h => ?_)
   ·obtain ⟨v1, hv1, h⟩ := bind_some h
    refine cond_some h (fun hg1_12 h => ?_) (fun hg1_12 h => ?_)
    ·obtain ⟨v2, hv2, h⟩ := bind_some h
     refine cond_some h (fun hg1_19 h => ?_) (fun hg1_19 h => ?_)
     ·refine cond_some h (fun hg1_26 h => ?_) (fun hg1_26 h => ?_)
      ·refine cond_some h (fun hg1_33 h => ?_) (fun hg1_33 h => ?_)
       ·refine cond_some h (fun hg1_40 h => ?_) (fun hg1_40 h => ?_)
        ·obtain ⟨v3, hv3, h⟩ := bind_some h
         refine ht_seqR hn (El := (_ :: _ :: (5, .ptr 2 0) :: (6, .v (.int .i64 a.Number)) :: (7, .ptr 3 0) :: (8, .v (.int .i64 b.Number)) :: (9, .v (.bool (a.Number == b.Number))) :: (10, .v (.bool true)) :: (11, .ptr 2 1) :: (12, .fl .shr 1 (List.map (Value.int .u8) a.Data)) :: (13, .ptr 3 1) :: (14, .fl .shr 1 (List.map (Value.int .u8) b.Data)) :: (15, .v (.bool v1)) :: (16, .v (.bool v1)) :: (17, .v (.bool true)) :: (18, .ptr 2 2) :: (19, .v (.bool a.Ready)) :: (20, .ptr 3 2) :: (21, .v (.bool b.Ready)) :: (22, .v (.bool (a.Ready == b.Ready))) :: (23, .v (.bool (a.Ready == b.Ready))) :: (24, .v (.bool true)) :: (25, .ptr 2 3) :: (26, .v (.int .i64 a.Base)) :: (27, .ptr 3 3) :: (28, .v (.int .i64 b.Base)) :: (29, .v (.bool (a.Base == b.Base))) :: (30, .v (.bool (a.Base == b.Base))) :: (31, .v (.bool true)) :: (32, .ptr 2 4) :: (33, .v (.int .i64 a.Next)) :: (34, .ptr 3 4) :: (35, .v (.int .i64 b.Next)) :: (36, .v (.bool (a.Next == b.Next))) :: (37, .v (.bool (a.Next == b.Next))) :: (38, .v (.bool true)) :: (39, .ptr 2 5) :: (40, .v (.int .i64 a.Wait)) :: (41, .ptr 3 5) :: (42, .v (.int .i64 b.Wait)) :: (43, .v (.bool (a.Wait == b.Wait))) :: (44, .v (.bool (a.Wait == b.Wait))) :: (45, .v (.bool true)) :: (46, .ptr 2 6) :: (47, .v (.bool a.Over)) :: (48, .ptr 3 6) :: (49, .v (.bool b.Over)) :: (50, .v (.bool (a.Over == b.Over))) :: (51, .v (.bool (a.Over == b.Over))) :: (4, .v (.bool (a.Over == b.Over))) :: [])) (init := [0, 1]) (fin := [49]) (sps := (⟨[0], [], [2], [(.slot 5)]⟩ :: ⟨[2, 0], [], [3], [(.slot 6)]⟩ :: ⟨[1], [], [4], [(.slot 7)]⟩ :: ⟨[4, 1], [], [5], [(.slot 8)]⟩ :: ⟨[3, 5], [], [6], [(.slot 9)]⟩ :: ⟨[6], [], [7], [(.slot 10)]⟩ :: ⟨[7, 0], [], [8], [(.slot 11)]⟩ :: ⟨[7, 8, 0], [], [9], [(.slot 12)]⟩ :: ⟨[7, 1], [], [10], [(.slot 13)]⟩ :: ⟨[7, 10, 1], [], [11], [(.slot 14)]⟩ :: ⟨[7, 9, 11], [], [12], [(.slot 15)]⟩ :: ⟨[7, 12], [], [13], [(.slot 16)]⟩ :: ⟨[13], [], [14], [(.slot 17)]⟩ :: ⟨[14, 0], [], [15], [(.slot 18)]⟩ :: ⟨[14, 15, 0], [], [16], [(.slot 19)]⟩ :: ⟨[14, 1], [], [17], [(.slot 20)]⟩ :: ⟨[14, 17, 1], [], [18], [(.slot 21)]⟩ :: ⟨[14, 16, 18], [], [19], [(.slot 22)]⟩ :: ⟨[14, 19], [], [20], [(.slot 23)]⟩ :: ⟨[20], [], [21], [(.slot 24)]⟩ :: ⟨[21, 0], [], [22], [(.slot 25)]⟩ :: ⟨[21, 22, 0], [], [23], [(.slot 26)]⟩ :: ⟨[21, 1], [], [24], [(.slot 27)]⟩ :: ⟨[21, 24, 1], [], [25], [(.slot 28)]⟩ :: ⟨[21, 23, 25], [], [26], [(.slot 29)]⟩ :: ⟨[21, 26], [], [27], [(.slot 30)]⟩ :: ⟨[27], [], [28], [(.slot 31)]⟩ :: ⟨[28, 0], [], [29], [(.slot 32)]⟩ :: ⟨[28, 29, 0], [], [30], [(.slot 33)]⟩ :: ⟨[28, 1], [], [31], [(.slot 34)]⟩ :: ⟨[28, 31, 1], [], [32], [(.slot 35)]⟩ :: ⟨[28, 30, 32], [], [33], [(.slot 36)]⟩ :: ⟨[28, 33], [], [34], [(.slot 37)]⟩ :: ⟨[34], [], [35], [(.slot 38)]⟩ :: ⟨[35, 0], [], [36], [(.slot 39)]⟩ :: ⟨[35, 36, 0], [], [37], [(.slot 40)]⟩ :: ⟨[35, 1], [], [38], [(.slot 41)]⟩ :: ⟨[35, 38, 1], [], [39], [(.slot 42)]⟩ :: ⟨[35, 37, 39], [], [40], [(.slot 43)]⟩ :: ⟨[35, 40], [], [41], [(.slot 44)]⟩ :: ⟨[41], [], [42], [(.slot 45)]⟩ :: ⟨[42, 0], [], [43], [(.slot 46)]⟩ :: ⟨[42, 43, 0], [], [44], [(.slot 47)]⟩ :: ⟨[42, 1], [], [45], [(.slot 48)]⟩ :: ⟨[42, 45, 1], [], [46], [(.slot 49)]⟩ :: ⟨[42, 44, 46], [], [47], [(.slot 50)]⟩ :: ⟨[42, 47], [], [48], [(.slot 51)]⟩ :: ⟨[48], [], [49], [(.slot 4)]⟩ :: [])) (es' := [(4, .v (.bool (a.Over == b.Over)))]) (by kernel_rfl) rfl rfl
          ⟨st_plain rfl (op_fieldAddr _ _ _ _ 2 0 _ Try.underlying24 rfl sz3 rfl rfl (by decide)),
          st_plain rfl (op_load _ _ _ _ _ _ Try.underlying3 rfl rfl rfl (Nat.le_of_ble_eq_true rfl) rfl rfl rfl),
          st_plain rfl (op_fieldAddr _ _ _ _ 3 0 _ Try.underlying24 rfl sz3 rfl rfl (by decide)),
          st_plain rfl (op_load _ _ _ _ _ _ Try.underlying3 rfl rfl rfl (Nat.le_of_ble_eq_true rfl) rfl rfl rfl),
          st_plain rfl (op_bin _ _ _ _ _ rfl rfl rfl),
          st_plain rfl (op_move _ _ _ _ (congrArg (fun b => AV.v (Value.bool b)) hg1_5) rfl),
          st_run 5 10 true rfl rfl rfl (List.Mem.head _) (op_fieldAddr _ _ _ _ 2 0 _ Try.underlying24 rfl sz22 rfl rfl (by decide)),
          st_run 5 10 true rfl rfl rfl (List.Mem.head _) (op_load _ _ _ _ _ _ Try.underlying22 rfl rfl rfl (Nat.le_of_ble_eq_true rfl) rfl rfl rfl),
          st_run 5 10 true rfl rfl rfl (List.Mem.head _) (op_fieldAddr _ _ _ _ 3 0 _ Try.underlying24 rfl sz22 rfl rfl (by decide)),
          st_run 5 10 true rfl rfl rfl (List.Mem.head _) (op_load _ _ _ _ _ _ Try.underlying22 rfl rfl rfl (Nat.le_of_ble_eq_true rfl) rfl rfl rfl),
          st_run 5 10 true rfl rfl rfl (List.Mem.head _) (op_call _ _ 28 _ _ rfl Try.call28 rfl (ok_wherrykeep_Bytes a.Data b.Data _ hv1) rfl rfl),
          st_plain rfl (op_pick _ _ true _ rfl rfl),
          st_plain rfl (op_move _ _ _ _ (congrArg (fun b => AV.v (Value.bool b)) hg1_12) rfl),
          st_run 12 17 true rfl rfl rfl (List.Mem.head _) (op_fieldAddr _ _ _ _ 2 0 _ Try.underlying24 rfl sz4 rfl rfl (by decide)),
          st_run 12 17 true rfl rfl rfl (List.Mem.head _) (op_load _ _ _ _ _ _ Try.underlying4 rfl rfl rfl (Nat.le_of_ble_eq_true rfl) rfl rfl rfl),
          st_run 12 17 true rfl rfl rfl (List.Mem.head _) (op_fieldAddr _ _ _ _ 3 0 _ Try.underlying24 rfl sz4 rfl rfl (by decide)),
          st_run 12 17 true rfl rfl rfl (List.Mem.head _) (op_load _ _ _ _ _ _ Try.underlying4 rfl rfl rfl (Nat.le_of_ble_eq_true rfl) rfl rfl rfl),
          st_run 12 17 true rfl rfl rfl (List.Mem.head _) (op_beq _ _ _ _ Try.underlying4 rfl rfl),
          st_plain rfl (op_pick _ _ true _ rfl rfl),
          st_plain rfl (op_move _ _ _ _ (congrArg (fun b => AV.v (Value.bool b)) hg1_19) rfl),
          st_run 19 24 true rfl rfl rfl (List.Mem.head _) (op_fieldAddr _ _ _ _ 2 0 _ Try.underlying24 rfl sz3 rfl rfl (by decide)),
          st_run 19 24 true rfl rfl rfl (List.Mem.head _) (op_load _ _ _ _ _ _ Try.underlying3 rfl rfl rfl (Nat.le_of_ble_eq_true rfl) rfl rfl rfl),
          st_run 19 24 true rfl rfl rfl (List.Mem.head _) (op_fieldAddr _ _ _ _ 3 0 _ Try.underlying24 rfl sz3 rfl rfl (by decide)),
          st_run 19 24 true rfl rfl rfl (List.Mem.head _) (op_load _ _ _ _ _ _ Try.underlying3 rfl rfl rfl (Nat.le_of_ble_eq_true rfl) rfl rfl rfl),
          st_run 19 24 true rfl rfl rfl (List.Mem.head _) (op_bin _ _ _ _ _ rfl rfl rfl),
          st_plain rfl (op_pick _ _ true _ rfl rfl),
          st_plain rfl (op_move _ _ _ _ (congrArg (fun b => AV.v (Value.bool b)) hg1_26) rfl),
          st_run 26 31 true rfl rfl rfl (List.Mem.head _) (op_fieldAddr _ _ _ _ 2 0 _ Try.underlying24 rfl sz3 rfl rfl (by decide)),
          st_run 26 31 true rfl rfl rfl (List.Mem.head _) (op_load _ _ _ _ _ _ Try.underlying3 rfl rfl rfl (Nat.le_of_ble_eq_true rfl) rfl rfl rfl),
          st_run 26 31 true rfl rfl rfl (List.Mem.head _) (op_fieldAddr _ _ _ _ 3 0 _ Try.underlying24 rfl sz3 rfl rfl (by decide)),
          st_run 26 31 true rfl rfl rfl (List.Mem.head _) (op_load _ _ _ _ _ _ Try.underlying3 rfl rfl rfl (Nat.le_of_ble_eq_true rfl) rfl rfl rfl),
          st_run 26 31 true rfl rfl rfl (List.Mem.head _) (op_bin _ _ _ _ _ rfl rfl rfl),
          st_plain rfl (op_pick _ _ true _ rfl rfl),
          st_plain rfl (op_move _ _ _ _ (congrArg (fun b => AV.v (Value.bool b)) hg1_33) rfl),
          st_run 33 38 true rfl rfl rfl (List.Mem.head _) (op_fieldAddr _ _ _ _ 2 0 _ Try.underlying24 rfl sz3 rfl rfl (by decide)),
          st_run 33 38 true rfl rfl rfl (List.Mem.head _) (op_load _ _ _ _ _ _ Try.underlying3 rfl rfl rfl (Nat.le_of_ble_eq_true rfl) rfl rfl rfl),
          st_run 33 38 true rfl rfl rfl (List.Mem.head _) (op_fieldAddr _ _ _ _ 3 0 _ Try.underlying24 rfl sz3 rfl rfl (by decide)),
          st_run 33 38 true rfl rfl rfl (List.Mem.head _) (op_load _ _ _ _ _ _ Try.underlying3 rfl rfl rfl (Nat.le_of_ble_eq_true rfl) rfl rfl rfl),
          st_run 33 38 true rfl rfl rfl (List.Mem.head _) (op_bin _ _ _ _ _ rfl rfl rfl),
          st_plain rfl (op_pick _ _ true _ rfl rfl),
          st_plain rfl (op_move _ _ _ _ (congrArg (fun b => AV.v (Value.bool b)) hg1_40) rfl),
          st_run 40 45 true rfl rfl rfl (List.Mem.head _) (op_fieldAddr _ _ _ _ 2 0 _ Try.underlying24 rfl sz4 rfl rfl (by decide)),
          st_run 40 45 true rfl rfl rfl (List.Mem.head _) (op_load _ _ _ _ _ _ Try.underlying4 rfl rfl rfl (Nat.le_of_ble_eq_true rfl) rfl rfl rfl),
          st_run 40 45 true rfl rfl rfl (List.Mem.head _) (op_fieldAddr _ _ _ _ 3 0 _ Try.underlying24 rfl sz4 rfl rfl (by decide)),
          st_run 40 45 true rfl rfl rfl (List.Mem.head _) (op_load _ _ _ _ _ _ Try.underlying4 rfl rfl rfl (Nat.le_of_ble_eq_true rfl) rfl rfl rfl),
          st_run 40 45 true rfl rfl rfl (List.Mem.head _) (op_beq _ _ _ _ Try.underlying4 rfl rfl),
          st_plain rfl (op_pick _ _ true _ rfl rfl),
          st_plain rfl (op_assign _ _ _ _ rfl rfl),
          trivial⟩ ?_
         exact hl6 _ (Option.some.inj h).symm
        ·refine ht_seqR hn (El := (_ :: _ :: (5, .ptr 2 0) :: (6, .v (.int .i64 a.Number)) :: (7, .ptr 3 0) :: (8, .v (.int .i64 b.Number)) :: (9, .v (.bool (a.Number == b.Number))) :: (10, .v (.bool true)) :: (11, .ptr 2 1) :: (12, .fl .shr 1 (List.map (Value.int .u8) a.Data)) :: (13, .ptr 3 1) :: (14, .fl .shr 1 (List.map (Value.int .u8) b.Data)) :: (15, .v (.bool v1)) :: (16, .v (.bool v1)) :: (17, .v (.bool true)) :: (18, .ptr 2 2) :: (19, .v (.bool a.Ready)) :: (20, .ptr 3 2) :: (21, .v (.bool b.Ready)) :: (22, .v (.bool (a.Ready == b.Ready))) :: (23, .v (.bool (a.Ready == b.Ready))) :: (24, .v (.bool true)) :: (25, .ptr 2 3) :: (26, .v (.int .i64 a.Base)) :: (27, .ptr 3 3) :: (28, .v (.int .i64 b.Base)) :: (29, .v (.bool (a.Base == b.Base))) :: (30, .v (.bool (a.Base == b.Base))) :: (31, .v (.bool true)) :: (32, .ptr 2 4) :: (33, .v (.int .i64 a.Next)) :: (34, .ptr 3 4) :: (35, .v (.int .i64 b.Next)) :: (36, .v (.bool (a.Next == b.Next))) :: (37, .v (.bool (a.Next == b.Next))) :: (38, .v (.bool true)) :: (39, .ptr 2 5) :: (40, .v (.int .i64 a.Wait)) :: (41, .ptr 3 5) :: (42, .v (.int .i64 b.Wait)) :: (43, .v (.bool (a.Wait == b.Wait))) :: (44, .v (.bool (a.Wait == b.Wait))) :: (45, .v (.bool false)) :: (46, .v undef) :: (47, .v undef) :: (48, .v undef) :: (49, .v undef) :: (50, .v undef) :: (51, .v (.bool false)) :: (4, .v (.bool false)) :: [])) (init := [0, 1]) (fin := [49]) (sps := (⟨[0], [], [2], [(.slot 5)]⟩ :: ⟨[2, 0], [], [3], [(.slot 6)]⟩ :: ⟨[1], [], [4], [(.slot 7)]⟩ :: ⟨[4, 1], [], [5], [(.slot 8)]⟩ :: ⟨[3, 5], [], [6], [(.slot 9)]⟩ :: ⟨[6], [], [7], [(.slot 10)]⟩ :: ⟨[7, 0], [], [8], [(.slot 11)]⟩ :: ⟨[7, 8, 0], [], [9], [(.slot 12)]⟩ :: ⟨[7, 1], [], [10], [(.slot 13)]⟩ :: ⟨[7, 10, 1], [], [11], [(.slot 14)]⟩ :: ⟨[7, 9, 11], [], [12], [(.slot 15)]⟩ :: ⟨[7, 12], [], [13], [(.slot 16)]⟩ :: ⟨[13], [], [14], [(.slot 17)]⟩ :: ⟨[14, 0], [], [15], [(.slot 18)]⟩ :: ⟨[14, 15, 0], [], [16], [(.slot 19)]⟩ :: ⟨[14, 1], [], [17], [(.slot 20)]⟩ :: ⟨[14, 17, 1], [], [18], [(.slot 21)]⟩ :: ⟨[14, 16, 18], [], [19], [(.slot 22)]⟩ :: ⟨[14, 19], [], [20], [(.slot 23)]⟩ :: ⟨[20], [], [21], [(.slot 24)]⟩ :: ⟨[21, 0], [], [22], [(.slot 25)]⟩ :: ⟨[21, 22, 0], [], [23], [(.slot 26)]⟩ :: ⟨[21, 1], [], [24], [(.slot 27)]⟩ :: ⟨[21, 24, 1], [], [25], [(.slot 28)]⟩ :: ⟨[21, 23, 25], [], [26], [(.slot 29)]⟩ :: ⟨[21, 26], [], [27], [(.slot 30)]⟩ :: ⟨[27], [], [28], [(.slot 31)]⟩ :: ⟨[28, 0], [], [29], [(.slot 32)]⟩ :: ⟨[28, 29, 0], [], [30], [(.slot 33)]⟩ :: ⟨[28, 1], [], [31], [(.slot 34)]⟩ :: ⟨[28, 31, 1], [], [32], [(.slot 35)]⟩ :: ⟨[28, 30, 32], [], [33], [(.slot 36)]⟩ :: ⟨[28, 33], [], [34], [(.slot 37)]⟩ :: ⟨[34], [], [35], [(.slot 38)]⟩ :: ⟨[35, 0], [], [36], [(.slot 39)]⟩ :: ⟨[35, 36, 0], [], [37], [(.slot 40)]⟩ :: ⟨[35, 1], [], [38], [(.slot 41)]⟩ :: ⟨[35, 38, 1], [], [39], [(.slot 42)]⟩ :: ⟨[35, 37, 39], [], [40], [(.slot 43)]⟩ :: ⟨[35, 40], [], [41], [(.slot 44)]⟩ :: ⟨[41], [], [42], [(.slot 45)]⟩ :: ⟨[42], [], [43], [(.slot 46)]⟩ :: ⟨[42], [], [44], [(.slot 47)]⟩ :: ⟨[42], [], [45], [(.slot 48)]⟩ :: ⟨[42], [], [46], [(.slot 49)]⟩ :: ⟨[42], [], [47], [(.slot 50)]⟩ :: ⟨[42], [], [48], [(.slot 51)]⟩ :: ⟨[48], [], [49], [(.slot 4)]⟩ :: [])) (es' := [(4, .v (.bool false))]) (by kernel_rfl) rfl rfl
          ⟨st_plain rfl (op_fieldAddr _ _ _ _ 2 0 _ Try.underlying24 rfl sz3 rfl rfl (by decide)),
          st_plain rfl (op_load _ _ _ _ _ _ Try.underlying3 rfl rfl rfl (Nat.le_of_ble_eq_true rfl) rfl rfl rfl),
          st_plain rfl (op_fieldAddr _ _ _ _ 3 0 _ Try.underlying24 rfl sz3 rfl rfl (by decide)),
          st_plain rfl (op_load _ _ _ _ _ _ Try.underlying3 rfl rfl rfl (Nat.le_of_ble_eq_true rfl) rfl rfl rfl),
          st_plain rfl (op_bin _ _ _ _ _ rfl rfl rfl),
          st_plain rfl (op_move _ _ _ _ (congrArg (fun b => AV.v (Value.bool b)) hg1_5) rfl),
          st_run 5 10 true rfl rfl rfl (List.Mem.head _) (op_fieldAddr _ _ _ _ 2 0 _ Try.underlying24 rfl sz22 rfl rfl (by decide)),
          st_run 5 10 true rfl rfl rfl (List.Mem.head _) (op_load _ _ _ _ _ _ Try.underlying22 rfl rfl rfl (Nat.le_of_ble_eq_true rfl) rfl rfl rfl),
          st_run 5 10 true rfl rfl rfl (List.Mem.head _) (op_fieldAddr _ _ _ _ 3 0 _ Try.underlying24 rfl sz22 rfl rfl (by decide)),
          st_run 5 10 true rfl rfl rfl (List.Mem.head _) (op_load _ _ _ _ _ _ Try.underlying22 rfl rfl rfl (Nat.le_of_ble_eq_true rfl) rfl rfl rfl),
          st_run 5 10 true rfl rfl rfl (List.Mem.head _) (op_call _ _ 28 _ _ rfl Try.call28 rfl (ok_wherrykeep_Bytes a.Data b.Data _ hv1) rfl rfl),
          st_plain rfl (op_pick _ _ true _ rfl rfl),
          st_plain rfl (op_move _ _ _ _ (congrArg (fun b => AV.v (Value.bool b)) hg1_12) rfl),
          st_run 12 17 true rfl rfl rfl (List.Mem.head _) (op_fieldAddr _ _ _ _ 2 0 _ Try.underlying24 rfl sz4 rfl rfl (by decide)),
          st_run 12 17 true rfl rfl rfl (List.Mem.head _) (op_load _ _ _ _ _ _ Try.underlying4 rfl rfl rfl (Nat.le_of_ble_eq_true rfl) rfl rfl rfl),
          st_run 12 17 true rfl rfl rfl (List.Mem.head _) (op_fieldAddr _ _ _ _ 3 0 _ Try.underlying24 rfl sz4 rfl rfl (by decide)),
          st_run 12 17 true rfl rfl rfl (List.Mem.head _) (op_load _ _ _ _ _ _ Try.underlying4 rfl rfl rfl (Nat.le_of_ble_eq_true rfl) rfl rfl rfl),
          st_run 12 17 true rfl rfl rfl (List.Mem.head _) (op_beq _ _ _ _ Try.underlying4 rfl rfl),
          st_plain rfl (op_pick _ _ true _ rfl rfl),
          st_plain rfl (op_move _ _ _ _ (congrArg (fun b => AV.v (Value.bool b)) hg1_19) rfl),
          st_run 19 24 true rfl rfl rfl (List.Mem.head _) (op_fieldAddr _ _ _ _ 2 0 _ Try.underlying24 rfl sz3 rfl rfl (by decide)),
          st_run 19 24 true rfl rfl rfl (List.Mem.head _) (op_load _ _ _ _ _ _ Try.underlying3 rfl rfl rfl (Nat.le_of_ble_eq_true rfl) rfl rfl rfl),
          st_run 19 24 true rfl rfl rfl (List.Mem.head _) (op_fieldAddr _ _ _ _ 3 0 _ Try.underlying24 rfl sz3 rfl rfl (by decide)),
          st_run 19 24 true rfl rfl rfl (List.Mem.head _) (op_load _ _ _ _ _ _ Try.underlying3 rfl rfl rfl (Nat.le_of_ble_eq_true rfl) rfl rfl rfl),
          st_run 19 24 true rfl rfl rfl (List.Mem.head _) (op_bin _ _ _ _ _ rfl rfl rfl),
          st_plain rfl (op_pick _ _ true _ rfl rfl),
          st_plain rfl (op_move _ _ _ _ (congrArg (fun b => AV.v (Value.bool b)) hg1_26) rfl),
          st_run 26 31 true rfl rfl rfl (List.Mem.head _) (op_fieldAddr _ _ _ _ 2 0 _ Try.underlying24 rfl sz3 rfl rfl (by decide)),
          st_run 26 31 true rfl rfl rfl (List.Mem.head _) (op_load _ _ _ _ _ _ Try.underlying3 rfl rfl rfl (Nat.le_of_ble_eq_true rfl) rfl rfl rfl),
          st_run 26 31 true rfl rfl rfl (List.Mem.head _) (op_fieldAddr _ _ _ _ 3 0 _ Try.underlying24 rfl sz3 rfl rfl (by decide)),
          st_run 26 31 true rfl rfl rfl (List.Mem.head _) (op_load _ _ _ _ _ _ Try.underlying3 rfl rfl rfl (Nat.le_of_ble_eq_true rfl) rfl rfl rfl),
          st_run 26 31 true rfl rfl rfl (List.Mem.head _) (op_bin _ _ _ _ _ rfl rfl rfl),
          st_plain rfl (op_pick _ _ true _ rfl rfl),
          st_plain rfl (op_move _ _ _ _ (congrArg (fun b => AV.v (Value.bool b)) hg1_33) rfl),
          st_run 33 38 true rfl rfl rfl (List.Mem.head _) (op_fieldAddr _ _ _ _ 2 0 _ Try.underlying24 rfl sz3 rfl rfl (by decide)),
          st_run 33 38 true rfl rfl rfl (List.Mem.head _) (op_load _ _ _ _ _ _ Try.underlying3 rfl rfl rfl (Nat.le_of_ble_eq_true rfl) rfl rfl rfl),
          st_run 33 38 true rfl rfl rfl (List.Mem.head _) (op_fieldAddr _ _ _ _ 3 0 _ Try.underlying24 rfl sz3 rfl rfl (by decide)),
          st_run 33 38 true rfl rfl rfl (List.Mem.head _) (op_load _ _ _ _ _ _ Try.underlying3 rfl rfl rfl (Nat.le_of_ble_eq_true rfl) rfl rfl rfl),
          st_run 33 38 true rfl rfl rfl (List.Mem.head _) (op_bin _ _ _ _ _ rfl rfl rfl),
          st_plain rfl (op_pick _ _ true _ rfl rfl),
          st_plain rfl (op_move _ _ _ _ (congrArg (fun b => AV.v (Value.bool b)) hg1_40) rfl),
          st_skip 40 45 _ true rfl rfl rfl rfl (List.Mem.head _),
          st_skip 40 45 _ true rfl rfl rfl rfl (List.Mem.head _),
          st_skip 40 45 _ true rfl rfl rfl rfl (List.Mem.head _),
          st_skip 40 45 _ true rfl rfl rfl rfl (List.Mem.head _),
          st_skip 40 45 _ true rfl rfl rfl rfl (List.Mem.head _),
          st_plain rfl (op_pick _ _ false _ rfl rfl),
          st_plain rfl (op_assign _ _ _ _ rfl rfl),
          trivial⟩ ?_
         exact hl6 _ (Option.some.inj h).symm
       ·refine ht_seqR hn (El := (_ :: _ :: (5, .ptr 2 0) :: (6, .v (.int .i64 a.Number)) :: (7, .ptr 3 0) :: (8, .v (.int .i64 b.Number)) :: (9, .v (.bool (a.Number == b.Number))) :: (10, .v (.bool true)) :: (11, .ptr 2 1) :: (12, .fl .shr 1 (List.map (Value.int .u8) a.Data)) :: (13, .ptr 3 1) :: (14, .fl .shr 1 (List.map (Value.int .u8) b.Data)) :: (15, .v (.bool v1)) :: (16, .v (.bool v1)) :: (17, .v (.bool true)) :: (18, .ptr 2 2) :: (19, .v (.bool a.Ready)) :: (20, .ptr 3 2) :: (21, .v (.bool b.Ready)) :: (22, .v (.bool (a.Ready == b.Ready))) :: (23, .v (.bool (a.Ready == b.Ready))) :: (24, .v (.bool true)) :: (25, .ptr 2 3) :: (26, .v (.int .i64 a.Base)) :: (27, .ptr 3 3) :: (28, .v (.int .i64 b.Base)) :: (29, .v (.bool (a.Base == b.Base))) :: (30, .v (.bool (a.Base == b.Base))) :: (31, .v (.bool true)) :: (32, .ptr 2 4) :: (33, .v (.int .i64 a.Next)) :: (34, .ptr 3 4) :: (35, .v (.int .i64 b.Next)) :: (36, .v (.bool (a.Next == b.Next))) :: (37, .v (.bool (a.Next == b.Next))) :: (38, .v (.bool false)) :: (39, .v undef) :: (40, .v undef) :: (41, .v undef) :: (42, .v undef) :: (43, .v undef) :: (44, .v (.bool false)) :: (45, .v (.bool false)) :: (46, .v undef) :: (47, .v undef) :: (48, .v undef) :: (49, .v undef) :: (50, .v undef) :: (51, .v (.bool false)) :: (4, .v (.bool false)) :: [])) (init := [0, 1]) (fin := [49]) (sps := (⟨[0], [], [2], [(.slot 5)]⟩ :: ⟨[2, 0], [], [3], [(.slot 6)]⟩ :: ⟨[1], [], [4], [(.slot 7)]⟩ :: ⟨[4, 1], [], [5], [(.slot 8)]⟩ :: ⟨[3, 5], [], [6], [(.slot 9)]⟩ :: ⟨[6], [], [7], [(.slot 10)]⟩ :: ⟨[7, 0], [], [8], [(.slot 11)]⟩ :: ⟨[7, 8, 0], [], [9], [(.slot 12)]⟩ :: ⟨[7, 1], [], [10], [(.slot 13)]⟩ :: ⟨[7, 10, 1], [], [11], [(.slot 14)]⟩ :: ⟨[7, 9, 11], [], [12], [(.slot 15)]⟩ :: ⟨[7, 12], [], [13], [(.slot 16)]⟩ :: ⟨[13], [], [14], [(.slot 17)]⟩ :: ⟨[14, 0], [], [15], [(.slot 18)]⟩ :: ⟨[14, 15, 0], [], [16], [(.slot 19)]⟩ :: ⟨[14, 1], [], [17], [(.slot 20)]⟩ :: ⟨[14, 17, 1], [], [18], [(.slot 21)]⟩ :: ⟨[14, 16, 18], [], [19], [(.slot 22)]⟩ :: ⟨[14, 19], [], [20], [(.slot 23)]⟩ :: ⟨[20], [], [21], [(.slot 24)]⟩ :: ⟨[21, 0], [], [22], [(.slot 25)]⟩ :: ⟨[21, 22, 0], [], [23], [(.slot 26)]⟩ :: ⟨[21, 1], [], [24], [(.slot 27)]⟩ :: ⟨[21, 24, 1], [], [25], [(.slot 28)]⟩ :: ⟨[21, 23, 25], [], [26], [(.slot 29)]⟩ :: ⟨[21, 26], [], [27], [(.slot 30)]⟩ :: ⟨[27], [], [28], [(.slot 31)]⟩ :: ⟨[28, 0], [], [29], [(.slot 32)]⟩ :: ⟨[28, 29, 0], [], [30], [(.slot 33)]⟩ :: ⟨[28, 1], [], [31], [(.slot 34)]⟩ :: ⟨[28, 31, 1], [], [32], [(.slot 35)]⟩ :: ⟨[28, 30, 32], [], [33], [(.slot 36)]⟩ :: ⟨[28, 33], [], [34], [(.slot 37)]⟩ :: ⟨[34], [], [35], [(.slot 38)]⟩ :: ⟨[35], [], [36], [(.slot 39)]⟩ :: ⟨[35], [], [37], [(.slot 40)]⟩ :: ⟨[35], [], [38], [(.slot 41)]⟩ :: ⟨[35], [], [39], [(.slot 42)]⟩ :: ⟨[35], [], [40], [(.slot 43)]⟩ :: ⟨[35], [], [41], [(.slot 44)]⟩ :: ⟨[41], [], [42], [(.slot 45)]⟩ :: ⟨[42], [], [43], [(.slot 46)]⟩ :: ⟨[42], [], [44], [(.slot 47)]⟩ :: ⟨[42], [], [45], [(.slot 48)]⟩ :: ⟨[42], [], [46], [(.slot 49)]⟩ :: ⟨[42], [], [47], [(.slot 50)]⟩ :: ⟨[42], [], [48], [(.slot 51)]⟩ :: ⟨[48], [], [49], [(.slot 4)]⟩ :: [])) (es' := [(4, .v (.bool false))]) (by kernel_rfl) rfl rfl
         ⟨st_plain rfl (op_fieldAddr _ _ _ _ 2 0 _ Try.underlying24 rfl sz3 rfl rfl (by decide)),
         st_plain rfl (op_load _ _ _ _ _ _ Try.underlying3 rfl rfl rfl (Nat.le_of_ble_eq_true rfl) rfl rfl rfl),
         st_plain rfl (op_fieldAddr _ _ _ _ 3 0 _ Try.underlying24 rfl sz3 rfl rfl (by decide)),
         st_plain rfl (op_load _ _ _ _ _ _ Try.underlying3 rfl rfl rfl (Nat.le_of_ble_eq_true rfl) rfl rfl rfl),
         st_plain rfl (op_bin _ _ _ _ _ rfl rfl rfl),
         st_plain rfl (op_move _ _ _ _ (congrArg (fun b => AV.v (Value.bool b)) hg1_5) rfl),
         st_run 5 10 true rfl rfl rfl (List.Mem.head _) (op_fieldAddr _ _ _ _ 2 0 _ Try.underlying24 rfl sz22 rfl rfl (by decide)),
         st_run 5 10 true rfl rfl rfl (List.Mem.head _) (op_load _ _ _ _ _ _ Try.underlying22 rfl rfl rfl (Nat.le_of_ble_eq_true rfl) rfl rfl rfl),
         st_run 5 10 true rfl rfl rfl (List.Mem.head _) (op_fieldAddr _ _ _ _ 3 0 _ Try.underlying24 rfl sz22 rfl rfl (by decide)),
         st_run 5 10 true rfl rfl rfl (List.Mem.head _) (op_load _ _ _ _ _ _ Try.underlying22 rfl rfl rfl (Nat.le_of_ble_eq_true rfl) rfl rfl rfl),
         st_run 5 10 true rfl rfl rfl (List.Mem.head _) (op_call _ _ 28 _ _ rfl Try.call28 rfl (ok_wherrykeep_Bytes a.Data b.Data _ hv1) rfl rfl),
         st_plain rfl (op_pick _ _ true _ rfl rfl),
         st_plain rfl (op_move _ _ _ _ (congrArg (fun b => AV.v (Value.bool b)) hg1_12) rfl),
         st_run 12 17 true rfl rfl rfl (List.Mem.head _) (op_fieldAddr _ _ _ _ 2 0 _ Try.underlying24 rfl sz4 rfl rfl (by decide)),
         st_run 12 17 true rfl rfl rfl (List.Mem.head _) (op_load _ _ _ _ _ _ Try.underlying4 rfl rfl rfl (Nat.le_of_ble_eq_true rfl) rfl rfl rfl),
         st_run 12 17 true rfl rfl rfl (List.Mem.head _) (op_fieldAddr _ _ _ _ 3 0 _ Try.underlying24 rfl sz4 rfl rfl (by decide)),
         st_run 12 17 true rfl rfl rfl (List.Mem.head _) (op_load _ _ _ _ _ _ Try.underlying4 rfl rfl rfl (Nat.le_of_ble_eq_true rfl) rfl rfl rfl),
         st_run 12 17 true rfl rfl rfl (List.Mem.head _) (op_beq _ _ _ _ Try.underlying4 rfl rfl),
         st_plain rfl (op_pick _ _ true _ rfl rfl),
         st_plain rfl (op_move _ _ _ _ (congrArg (fun b => AV.v (Value.bool b)) hg1_19) rfl),
         st_run 19 24 true rfl rfl rfl (List.Mem.head _) (op_fieldAddr _ _ _ _ 2 0 _ Try.underlying24 rfl sz3 rfl rfl (by decide)),
         st_run 19 24 true rfl rfl rfl (List.Mem.head _) (op_load _ _ _ _ _ _ Try.underlying3 rfl rfl rfl (Nat.le_of_ble_eq_true rfl) rfl rfl rfl),
         st_run 19 24 true rfl rfl rfl (List.Mem.head _) (op_fieldAddr _ _ _ _ 3 0 _ Try.underlying24 rfl sz3 rfl rfl (by decide)),
         st_run 19 24 true rfl rfl rfl (List.Mem.head _) (op_load _ _ _ _ _ _ Try.underlying3 rfl rfl rfl (Nat.le_of_ble_eq_true rfl) rfl rfl rfl),
         st_run 19 24 true rfl rfl rfl (List.Mem.head _) (op_bin _ _ _ _ _ rfl rfl rfl),
         st_plain rfl (op_pick _ _ true _ rfl rfl),
         st_plain rfl (op_move _ _ _ _ (congrArg (fun b => AV.v (Value.bool b)) hg1_26) rfl),
         st_run 26 31 true rfl rfl rfl (List.Mem.head _) (op_fieldAddr _ _ _ _ 2 0 _ Try.underlying24 rfl sz3 rfl rfl (by decide)),
         st_run 26 31 true rfl rfl rfl (List.Mem.head _) (op_load _ _ _ _ _ _ Try.underlying3 rfl rfl rfl (Nat.le_of_ble_eq_true rfl) rfl rfl rfl),
         st_run 26 31 true rfl rfl rfl (List.Mem.head _) (op_fieldAddr _ _ _ _ 3 0 _ Try.underlying24 rfl sz3 rfl rfl (by decide)),
         st_run 26 31 true rfl rfl rfl (List.Mem.head _) (op_load _ _ _ _ _ _ Try.underlying3 rfl rfl rfl (Nat.le_of_ble_eq_true rfl) rfl rfl rfl),
         st_run 26 31 true rfl rfl rfl (List.Mem.head _) (op_bin _ _ _ _ _ rfl rfl rfl),
         st_plain rfl (op_pick _ _ true _ rfl rfl),
         st_plain rfl (op_move _ _ _ _ (congrArg (fun b => AV.v (Value.bool b)) hg1_33) rfl),
         st_skip 33 38 _ true rfl rfl rfl rfl (List.Mem.head _),
         st_skip 33 38 _ true rfl rfl rfl rfl (List.Mem.head _),
         st_skip 33 38 _ true rfl rfl rfl rfl (List.Mem.head _),
         st_skip 33 38 _ true rfl rfl rfl rfl (List.Mem.head _),
         st_skip 33 38 _ true rfl rfl rfl rfl (List.Mem.head _),
         st_plain rfl (op_pick _ _ false _ rfl rfl),
         st_plain rfl (op_move _ _ _ _ rfl rfl),
         st_skip 40 45 _ true rfl rfl rfl rfl (List.Mem.head _),
         st_skip 40 45 _ true rfl rfl rfl rfl (List.Mem.head _),
         st_skip 40 45 _ true rfl rfl rfl rfl (List.Mem.head _),
         st_skip 40 45 _ true rfl rfl rfl rfl (List.Mem.head _),
         st_skip 40 45 _ true rfl rfl rfl rfl (List.Mem.head _),
         st_plain rfl (op_pick _ _ false _ rfl rfl),
         st_plain rfl (op_assign _ _ _ _ rfl rfl),
         trivial⟩ ?_
        exact hl6 _ (Option.some.inj h).symm
      ·refine ht_seqR hn (El := (_ :: _ :: (5, .ptr 2 0) :: (6, .v (.int .i64 a.Number)) :: (7, .ptr 3 0) :: (8, .v (.int .i64 b.Number)) :: (9, .v (.bool (a.Number == b.Number))) :: (10, .v (.bool true)) :: (11, .ptr 2 1) :: (12, .fl .shr 1 (List.map (Value.int .u8) a.Data)) :: (13, .ptr 3 1) :: (14, .fl .shr 1 (List.map (Value.int .u8) b.Data)) :: (15, .v (.bool v1)) :: (16, .v (.bool v1)) :: (17, .v (.bool true)) :: (18, .ptr 2 2) :: (19, .v (.bool a.Ready)) :: (20, .ptr 3 2) :: (21, .v (.bool b.Ready)) :: (22, .v (.bool (a.Ready == b.Ready))) :: (23, .v (.bool (a.Ready == b.Ready))) :: (24, .v (.bool true)) :: (25, .ptr 2 3) :: (26, .v (.int .i64 a.Base)) :: (27, .ptr 3 3) :: (28, .v (.int .i64 b.Base)) :: (29, .v (.bool (a.Base == b.Base))) :: (30, .v (.bool (a.Base == b.Base))) :: (31, .v (.bool false)) :: (32, .v undef) :: (33, .v undef) :: (34, .v undef) :: (35, .v undef) :: (36, .v undef) :: (37, .v (.bool false)) :: (38, .v (.bool false)) :: (39, .v undef) :: (40, .v undef) :: (41, .v undef) :: (42, .v undef) :: (43, .v undef) :: (44, .v (.bool false)) :: (45, .v (.bool false)) :: (46, .v undef) :: (47, .v undef) :: (48, .v undef) :: (49, .v undef) :: (50, .v undef) :: (51, .v (.bool false)) :: (4, .v (.bool false)) :: [])) (init := [0, 1]) (fin := [49]) (sps := (⟨[0], [], [2], [(.slot 5)]⟩ :: ⟨[2, 0], [], [3], [(.slot 6)]⟩ :: ⟨[1], [], [4], [(.slot 7)]⟩ :: ⟨[4, 1], [], [5], [(.slot 8)]⟩ :: ⟨[3, 5], [], [6], [(.slot 9)]⟩ :: ⟨[6], [], [7], [(.slot 10)]⟩ :: ⟨[7, 0], [], [8], [(.slot 11)]⟩ :: ⟨[7, 8, 0], [], [9], [(.slot 12)]⟩ :: ⟨[7, 1], [], [10], [(.slot 13)]⟩ :: ⟨[7, 10, 1], [], [11], [(.slot 14)]⟩ :: ⟨[7, 9, 11], [], [12], [(.slot 15)]⟩ :: ⟨[7, 12], [], [13], [(.slot 16)]⟩ :: ⟨[13], [], [14], [(.slot 17)]⟩ :: ⟨[14, 0], [], [15], [(.slot 18)]⟩ :: ⟨[14, 15, 0], [], [16], [(.slot 19)]⟩ :: ⟨[14, 1], [], [17], [(.slot 20)]⟩ :: ⟨[14, 17, 1], [], [18], [(.slot 21)]⟩ :: ⟨[14, 16, 18], [], [19], [(.slot 22)]⟩ :: ⟨[14, 19], [], [20], [(.slot 23)]⟩ :: ⟨[20], [], [21], [(.slot 24)]⟩ :: ⟨[21, 0], [], [22], [(.slot 25)]⟩ :: ⟨[21, 22, 0], [], [23], [(.slot 26)]⟩ :: ⟨[21, 1], [], [24], [(.slot 27)]⟩ :: ⟨[21, 24, 1], [], [25], [(.slot 28)]⟩ :: ⟨[21, 23, 25], [], [26], [(.slot 29)]⟩ :: ⟨[21, 26], [], [27], [(.slot 30)]⟩ :: ⟨[27], [], [28], [(.slot 31)]⟩ :: ⟨[28], [], [29], [(.slot 32)]⟩ :: ⟨[28], [], [30], [(.slot 33)]⟩ :: ⟨[28], [], [31], [(.slot 34)]⟩ :: ⟨[28], [], [32], [(.slot 35)]⟩ :: ⟨[28], [], [33], [(.slot 36)]⟩ :: ⟨[28], [], [34], [(.slot 37)]⟩ :: ⟨[34], [], [35], [(.slot 38)]⟩ :: ⟨[35], [], [36], [(.slot 39)]⟩ :: ⟨[35], [], [37], [(.slot 40)]⟩ :: ⟨[35], [], [38], [(.slot 41)]⟩ :: ⟨[35], [], [39], [(.slot 42)]⟩ :: ⟨[35], [], [40], [(.slot 43)]⟩ :: ⟨[35], [], [41], [(.slot 44)]⟩ :: ⟨[41], [], [42], [(.slot 45)]⟩ :: ⟨[42], [], [43], [(.slot 46)]⟩ :: ⟨[42], [], [44], [(.slot 47)]⟩ :: ⟨[42], [], [45], [(.slot 48)]⟩ :: ⟨[42], [], [46], [(.slot 49)]⟩ :: ⟨[42], [], [47], [(.slot 50)]⟩ :: ⟨[42], [], [48], [(.slot 51)]⟩ :: ⟨[48], [], [49], [(.slot 4)]⟩ :: [])) (es' := [(4, .v (.bool false))]) (by kernel_rfl) rfl rfl
        ⟨st_plain rfl (op_fieldAddr _ _ _ _ 2 0 _ Try.underlying24 rfl sz3 rfl rfl (by decide)),
        st_plain rfl (op_load _ _ _ _ _ _ Try.underlying3 rfl rfl rfl (Nat.le_of_ble_eq_true rfl) rfl rfl rfl),
        st_plain rfl (op_fieldAddr _ _ _ _ 3 0 _ Try.underlying24 rfl sz3 rfl rfl (by decide)),
        st_plain rfl (op_load _ _ _ _ _ _ Try.underlying3 rfl rfl rfl (Nat.le_of_ble_eq_true rfl) rfl rfl rfl),
        st_plain rfl (op_bin _ _ _ _ _ rfl rfl rfl),
        st_plain rfl (op_move _ _ _ _ (congrArg (fun b => AV.v (Value.bool b)) hg1_5) rfl),
        st_run 5 10 true rfl rfl rfl (List.Mem.head _) (op_fieldAddr _ _ _ _ 2 0 _ Try.underlying24 rfl sz22 rfl rfl (by decide)),
        st_run 5 10 true rfl rfl rfl (List.Mem.head _) (op_load _ _ _ _ _ _ Try.underlying22 rfl rfl rfl (Nat.le_of_ble_eq_true rfl) rfl rfl rfl),
        st_run 5 10 true rfl rfl rfl (List.Mem.head _) (op_fieldAddr _ _ _ _ 3 0 _ Try.underlying24 rfl sz22 rfl rfl (by decide)),
        st_run 5 10 true rfl rfl rfl (List.Mem.head _) (op_load _ _ _ _ _ _ Try.underlying22 rfl rfl rfl (Nat.le_of_ble_eq_true rfl) rfl rfl rfl),
        st_run 5 10 true rfl rfl rfl (List.Mem.head _) (op_call _ _ 28 _ _ rfl Try.call28 rfl (ok_wherrykeep_Bytes a.Data b.Data _ hv1) rfl rfl),
        st_plain rfl (op_pick _ _ true _ rfl rfl),
        st_plain rfl (op_move _ _ _ _ (congrArg (fun b => AV.v (Value.bool b)) hg1_12) rfl),
        st_run 12 17 true rfl rfl rfl (List.Mem.head _) (op_fieldAddr _ _ _ _ 2 0 _ Try.underlying24 rfl sz4 rfl rfl (by decide)),
        st_run 12 17 true rfl rfl rfl (List.Mem.head _) (op_load _ _ _ _ _ _ Try.underlying4 rfl rfl rfl (Nat.le_of_ble_eq_true rfl) rfl rfl rfl),
        st_run 12 17 true rfl rfl rfl (List.Mem.head _) (op_fieldAddr _ _ _ _ 3 0 _ Try.underlying24 rfl sz4 rfl rfl (by decide)),
        st_run 12 17 true rfl rfl rfl (List.Mem.head _) (op_load _ _ _ _ _ _ Try.underlying4 rfl rfl rfl (Nat.le_of_ble_eq_true rfl) rfl rfl rfl),
        st_run 12 17 true rfl rfl rfl (List.Mem.head _) (op_beq _ _ _ _ Try.underlying4 rfl rfl),
        st_plain rfl (op_pick _ _ true _ rfl rfl),
        st_plain rfl (op_move _ _ _ _ (congrArg (fun b => AV.v (Value.bool b)) hg1_19) rfl),
        st_run 19 24 true rfl rfl rfl (List.Mem.head _) (op_fieldAddr _ _ _ _ 2 0 _ Try.underlying24 rfl sz3 rfl rfl (by decide)),
        st_run 19 24 true rfl rfl rfl (List.Mem.head _) (op_load _ _ _ _ _ _ Try.underlying3 rfl rfl rfl (Nat.le_of_ble_eq_true rfl) rfl rfl rfl),
        st_run 19 24 true rfl rfl rfl (List.Mem.head _) (op_fieldAddr _ _ _ _ 3 0 _ Try.underlying24 rfl sz3 rfl rfl (by decide)),
        st_run 19 24 true rfl rfl rfl (List.Mem.head _) (op_load _ _ _ _ _ _ Try.underlying3 rfl rfl rfl (Nat.le_of_ble_eq_true rfl) rfl rfl rfl),
        st_run 19 24 true rfl rfl rfl (List.Mem.head _) (op_bin _ _ _ _ _ rfl rfl rfl),
        st_plain rfl (op_pick _ _ true _ rfl rfl),
        st_plain rfl (op_move _ _ _ _ (congrArg (fun b => AV.v (Value.bool b)) hg1_26) rfl),
        st_skip 26 31 _ true rfl rfl rfl rfl (List.Mem.head _),
        st_skip 26 31 _ true rfl rfl rfl rfl (List.Mem.head _),
        st_skip 26 31 _ true rfl rfl rfl rfl (List.Mem.head _),
        st_skip 26 31 _ true rfl rfl rfl rfl (List.Mem.head _),
        st_skip 26 31 _ true rfl rfl rfl rfl (List.Mem.head _),
        st_plain rfl (op_pick _ _ false _ rfl rfl),
        st_plain rfl (op_move _ _ _ _ rfl rfl),
        st_skip 33 38 _ true rfl rfl rfl rfl (List.Mem.head _),
        st_skip 33 38 _ true rfl rfl rfl rfl (List.Mem.head _),
        st_skip 33 38 _ true rfl rfl rfl rfl (List.Mem.head _),
        st_skip 33 38 _ true rfl rfl rfl rfl (List.Mem.head _),
        st_skip 33 38 _ true rfl rfl rfl rfl (List.Mem.head _),
        st_plain rfl (op_pick _ _ false _ rfl rfl),
        st_plain rfl (op_move _ _ _ _ rfl rfl),
        st_skip 40 45 _ true rfl rfl rfl rfl (List.Mem.head _),
        st_skip 40 45 _ true rfl rfl rfl rfl (List.Mem.head _),
        st_skip 40 45 _ true rfl rfl rfl rfl (List.Mem.head _),
        st_skip 40 45 _ true rfl rfl rfl rfl (List.Mem.head _),
        st_skip 40 45 _ true rfl rfl rfl rfl (List.Mem.head _),
        st_plain rfl (op_pick _ _ false _ rfl rfl),
        st_plain rfl (op_assign _ _ _ _ rfl rfl),
        trivial⟩ ?_
       exact hl6 _ (Option.some.inj h).symm
     ·refine ht_seqR hn (El := (_ :: _ :: (5, .ptr 2 0) :: (6, .v (.int .i64 a.Number)) :: (7, .ptr 3 0) :: (8, .v (.int .i64 b.Number)) :: (9, .v (.bool (a.Number == b.Number))) :: (10, .v (.bool true)) :: (11, .ptr 2 1) :: (12, .fl .shr 1 (List.map (Value.int .u8) a.Data)) :: (13, .ptr 3 1) :: (14, .fl .shr 1 (List.map (Value.int .u8) b.Data)) :: (15, .v (.bool v1)) :: (16, .v (.bool v1)) :: (17, .v (.bool true)) :: (18, .ptr 2 2) :: (19, .v (.bool a.Ready)) :: (20, .ptr 3 2) :: (21, .v (.bool b.Ready)) :: (22, .v (.bool (a.Ready == b.Ready))) :: (23, .v (.bool (a.Ready == b.Ready))) :: (24, .v (.bool false)) :: (25, .v undef) :: (26, .v undef) :: (27, .v undef) :: (28, .v undef) :: (29, .v undef) :: (30, .v (.bool false)) :: (31, .v (.bool false)) :: (32, .v undef) :: (33, .v undef) :: (34, .v undef) :: (35, .v undef) :: (36, .v undef) :: (37, .v (.bool false)) :: (38, .v (.bool false)) :: (39, .v undef) :: (40, .v undef) :: (41, .v undef) :: (42, .v undef) :: (43, .v undef) :: (44, .v (.bool false)) :: (45, .v (.bool false)) :: (46, .v undef) :: (47, .v undef) :: (48, .v undef) :: (49, .v undef) :: (50, .v undef) :: (51, .v (.bool false)) :: (4, .v (.bool false)) :: [])) (init := [0, 1]) (fin := [49]) (sps := (⟨[0], [], [2], [(.slot 5)]⟩ :: ⟨[2, 0], [], [3], [(.slot 6)]⟩ :: ⟨[1], [], [4], [(.slot 7)]⟩ :: ⟨[4, 1], [], [5], [(.slot 8)]⟩ :: ⟨[3, 5], [], [6], [(.slot 9)]⟩ :: ⟨[6], [], [7], [(.slot 10)]⟩ :: ⟨[7, 0], [], [8], [(.slot 11)]⟩ :: ⟨[7, 8, 0], [], [9], [(.slot 12)]⟩ :: ⟨[7, 1], [], [10], [(.slot 13)]⟩ :: ⟨[7, 10, 1], [], [11], [(.slot 14)]⟩ :: ⟨[7, 9, 11], [], [12], [(.slot 15)]⟩ :: ⟨[7, 12], [], [13], [(.slot 16)]⟩ :: ⟨[13], [], [14], [(.slot 17)]⟩ :: ⟨[14, 0], [], [15], [(.slot 18)]⟩ :: ⟨[14, 15, 0], [], [16], [(.slot 19)]⟩ :: ⟨[14, 1], [], [17], [(.slot 20)]⟩ :: ⟨[14, 17, 1], [], [18], [(.slot 21)]⟩ :: ⟨[14, 16, 18], [], [19], [(.slot 22)]⟩ :: ⟨[14, 19], [], [20], [(.slot 23)]⟩ :: ⟨[20], [], [21], [(.slot 24)]⟩ :: ⟨[21], [], [22], [(.slot 25)]⟩ :: ⟨[21], [], [23], [(.slot 26)]⟩ :: ⟨[21], [], [24], [(.slot 27)]⟩ :: ⟨[21], [], [25], [(.slot 28)]⟩ :: ⟨[21], [], [26], [(.slot 29)]⟩ :: ⟨[21], [], [27], [(.slot 30)]⟩ :: ⟨[27], [], [28], [(.slot 31)]⟩ :: ⟨[28], [], [29], [(.slot 32)]⟩ :: ⟨[28], [], [30], [(.slot 33)]⟩ :: ⟨[28], [], [31], [(.slot 34)]⟩ :: ⟨[28], [], [32], [(.slot 35)]⟩ :: ⟨[28], [], [33], [(.slot 36)]⟩ :: ⟨[28], [], [34], [(.slot 37)]⟩ :: ⟨[34], [], [35], [(.slot 38)]⟩ :: ⟨[35], [], [36], [(.slot 39)]⟩ :: ⟨[35], [], [37], [(.slot 40)]⟩ :: ⟨[35], [], [38], [(.slot 41)]⟩ :: ⟨[35], [], [39], [(.slot 42)]⟩ :: ⟨[35], [], [40], [(.slot 43)]⟩ :: ⟨[35], [], [41], [(.slot 44)]⟩ :: ⟨[41], [], [42], [(.slot 45)]⟩ :: ⟨[42], [], [43], [(.slot 46)]⟩ :: ⟨[42], [], [44], [(.slot 47)]⟩ :: ⟨[42], [], [45], [(.slot 48)]⟩ :: ⟨[42], [], [46], [(.slot 49)]⟩ :: ⟨[42], [], [47], [(.slot 50)]⟩ :: ⟨[42], [], [48], [(.slot 51)]⟩ :: ⟨[48], [], [49], [(.slot 4)]⟩ :: [])) (es' := [(4, .v (.bool false))]) (by kernel_rfl) rfl rfl
       ⟨st_plain rfl (op_fieldAddr _ _ _ _ 2 0 _ Try.underlying24 rfl sz3 rfl rfl (by decide)),
       st_plain rfl (op_load _ _ _ _ _ _ Try.underlying3 rfl rfl rfl (Nat.le_of_ble_eq_true rfl) rfl rfl rfl),
       st_plain rfl (op_fieldAddr _ _ _ _ 3 0 _ Try.underlying24 rfl sz3 rfl rfl (by decide)),
       st_plain rfl (op_load _ _ _ _ _ _ Try.underlying3 rfl rfl rfl (Nat.le_of_ble_eq_true rfl) rfl rfl rfl),
       st_plain rfl (op_bin _ _ _ _ _ rfl rfl rfl),
       st_plain rfl (op_move _ _ _ _ (congrArg (fun b => AV.v (Value.bool b)) hg1_5) rfl),
       st_run 5 10 true rfl rfl rfl (List.Mem.head _) (op_fieldAddr _ _ _ _ 2 0 _ Try.underlying24 rfl sz22 rfl rfl (by decide)),
       st_run 5 10 true rfl rfl rfl (List.Mem.head _) (op_load _ _ _ _ _ _ Try.underlying22 rfl rfl rfl (Nat.le_of_ble_eq_true rfl) rfl rfl rfl),
       st_run 5 10 true rfl rfl rfl (List.Mem.head _) (op_fieldAddr _ _ _ _ 3 0 _ Try.underlying24 rfl sz22 rfl rfl (by decide)),
       st_run 5 10 true rfl rfl rfl (List.Mem.head _) (op_load _ _ _ _ _ _ Try.underlying22 rfl rfl rfl (Nat.le_of_ble_eq_true rfl) rfl rfl rfl),
       st_run 5 10 true rfl rfl rfl (List.Mem.head _) (op_call _ _ 28 _ _ rfl Try.call28 rfl (ok_wherrykeep_Bytes a.Data b.Data _ hv1) rfl rfl),
       st_plain rfl (op_pick _ _ true _ rfl rfl),
       st_plain rfl (op_move _ _ _ _ (congrArg (fun b => AV.v (Value.bool b)) hg1_12) rfl),
       st_run 12 17 true rfl rfl rfl (List.Mem.head _) (op_fieldAddr _ _ _ _ 2 0 _ Try.underlying24 rfl sz4 rfl rfl (by decide)),
       st_run 12 17 true rfl rfl rfl (List.Mem.head _) (op_load _ _ _ _ _ _ Try.underlying4 rfl rfl rfl (Nat.le_of_ble_eq_true rfl) rfl rfl rfl),
       st_run 12 17 true rfl rfl rfl (List.Mem.head _) (op_fieldAddr _ _ _ _ 3 0 _ Try.underlying24 rfl sz4 rfl rfl (by decide)),
       st_run 12 17 true rfl rfl rfl (List.Mem.head _) (op_load _ _ _ _ _ _ Try.underlying4 rfl rfl rfl (Nat.le_of_ble_eq_true rfl) rfl rfl rfl),
       st_run 12 17 true rfl rfl rfl (List.Mem.head _) (op_beq _ _ _ _ Try.underlying4 rfl rfl),
       st_plain rfl (op_pick _ _ true _ rfl rfl),
       st_plain rfl (op_move _ _ _ _ (congrArg (fun b => AV.v (Value.bool b)) hg1_19) rfl),
       st_skip 19 24 _ true rfl rfl rfl rfl (List.Mem.head _),
       st_skip 19 24 _ true rfl rfl rfl rfl (List.Mem.head _),
       st_skip 19 24 _ true rfl rfl rfl rfl (List.Mem.head _),
       st_skip 19 24 _ true rfl rfl rfl rfl (List.Mem.head _),
       st_skip 19 24 _ true rfl rfl rfl rfl (List.Mem.head _),
       st_plain rfl (op_pick _ _ false _ rfl rfl),
       st_plain rfl (op_move _ _ _ _ rfl rfl),
       st_skip 26 31 _ true rfl rfl rfl rfl (List.Mem.head _),
       st_skip 26 31 _ true rfl rfl rfl rfl (List.Mem.head _),
       st_skip 26 31 _ true rfl rfl rfl rfl (List.Mem.head _),
       st_skip 26 31 _ true rfl rfl rfl rfl (List.Mem.head _),
       st_skip 26 31 _ true rfl rfl rfl rfl (List.Mem.head _),
       st_plain rfl (op_pick _ _ false _ rfl rfl),
       st_plain rfl (op_move _ _ _ _ rfl rfl),
       st_skip 33 38 _ true rfl rfl rfl rfl (List.Mem.head _),
       st_skip 33 38 _ true rfl rfl rfl rfl (List.Mem.head _),
       st_skip 33 38 _ true rfl rfl rfl rfl (List.Mem.head _),
       st_skip 33 38 _ true rfl rfl rfl rfl (List.Mem.head _),
       st_skip 33 38 _ true rfl rfl rfl rfl (List.Mem.head _),
       st_plain rfl (op_pick _ _ false _ rfl rfl),
       st_plain rfl (op_move _ _ _ _ rfl rfl),
       st_skip 40 45 _ true rfl rfl rfl rfl (List.Mem.head _),
       st_skip 40 45 _ true rfl rfl rfl rfl (List.Mem.head _),
       st_skip 40 45 _ true rfl rfl rfl rfl (List.Mem.head _),
       st_skip 40 45 _ true rfl rfl rfl rfl (List.Mem.head _),
       st_skip 40 45 _ true rfl rfl rfl rfl (List.Mem.head _),
       st_plain rfl (op_pick _ _ false _ rfl rfl),
       st_plain rfl (op_assign _ _ _ _ rfl rfl),
       trivial⟩ ?_
      exact hl6 _ (Option.some.inj h).symm
    ·refine ht_seqR hn (El := (_ :: _ :: (5, .ptr 2 0) :: (6, .v (.int .i64 a.Number)) :: (7, .ptr 3 0) :: (8, .v (.int .i64 b.Number)) :: (9, .v (.bool (a.Number == b.Number))) :: (10, .v (.bool true)) :: (11, .ptr 2 1) :: (12, .fl .shr 1 (List.map (Value.int .u8) a.Data)) :: (13, .ptr 3 1) :: (14, .fl .shr 1 (List.map (Value.int .u8) b.Data)) :: (15, .v (.bool v1)) :: (16, .v (.bool v1)) :: (17, .v (.bool false)) :: (18, .v undef) :: (19, .v undef) :: (20, .v undef) :: (21, .v undef) :: (22, .v undef) :: (23, .v (.bool false)) :: (24, .v (.bool false)) :: (25, .v undef) :: (26, .v undef) :: (27, .v undef) :: (28, .v undef) :: (29, .v undef) :: (30, .v (.bool false)) :: (31, .v (.bool false)) :: (32, .v undef) :: (33, .v undef) :: (34, .v undef) :: (35, .v undef) :: (36, .v undef) :: (37, .v (.bool false)) :: (38, .v (.bool false)) :: (39, .v undef) :: (40, .v undef) :: (41, .v undef) :: (42, .v undef) :: (43, .v undef) :: (44, .v (.bool false)) :: (45, .v (.bool false)) :: (46, .v undef) :: (47, .v undef) :: (48, .v undef) :: (49, .v undef) :: (50, .v undef) :: (51, .v (.bool false)) :: (4, .v (.bool false)) :: [])) (init := [0, 1]) (fin := [49]) (sps := (⟨[0], [], [2], [(.slot 5)]⟩ :: ⟨[2, 0], [], [3], [(.slot 6)]⟩ :: ⟨[1], [], [4], [(.slot 7)]⟩ :: ⟨[4, 1], [], [5], [(.slot 8)]⟩ :: ⟨[3, 5], [], [6], [(.slot 9)]⟩ :: ⟨[6], [], [7], [(.slot 10)]⟩ :: ⟨[7, 0], [], [8], [(.slot 11)]⟩ :: ⟨[7, 8, 0], [], [9], [(.slot 12)]⟩ :: ⟨[7, 1], [], [10], [(.slot 13)]⟩ :: ⟨[7, 10, 1], [], [11], [(.slot 14)]⟩ :: ⟨[7, 9, 11], [], [12], [(.slot 15)]⟩ :: ⟨[7, 12], [], [13], [(.slot 16)]⟩ :: ⟨[13], [], [14], [(.slot 17)]⟩ :: ⟨[14], [], [15], [(.slot 18)]⟩ :: ⟨[14], [], [16], [(.slot 19)]⟩ :: ⟨[14], [], [17], [(.slot 20)]⟩ :: ⟨[14], [], [18], [(.slot 21)]⟩ :: ⟨[14], [], [19], [(.slot 22)]⟩ :: ⟨[14], [], [20], [(.slot 23)]⟩ :: ⟨[20], [], [21], [(.slot 24)]⟩ :: ⟨[21], [], [22], [(.slot 25)]⟩ :: ⟨[21], [], [23], [(.slot 26)]⟩ :: ⟨[21], [], [24], [(.slot 27)]⟩ :: ⟨[21], [], [25], [(.slot 28)]⟩ :: ⟨[21], [], [26], [(.slot 29)]⟩ :: ⟨[21], [], [27], [(.slot 30)]⟩ :: ⟨[27], [], [28], [(.slot 31)]⟩ :: ⟨[28], [], [29], [(.slot 32)]⟩ :: ⟨[28], [], [30], [(.slot 33)]⟩ :: ⟨[28], [], [31], [(.slot 34)]⟩ :: ⟨[28], [], [32], [(.slot 35)]⟩ :: ⟨[28], [], [33], [(.slot 36)]⟩ :: ⟨[28], [], [34], [(.slot 37)]⟩ :: ⟨[34], [], [35], [(.slot 38)]⟩ :: ⟨[35], [], [36], [(.slot 39)]⟩ :: ⟨[35], [], [37], [(.slot 40)]⟩ :: ⟨[35], [], [38], [(.slot 41)]⟩ :: ⟨[35], [], [39], [(.slot 42)]⟩ :: ⟨[35], [], [40], [(.slot 43)]⟩ :: ⟨[35], [], [41], [(.slot 44)]⟩ :: ⟨[41], [], [42], [(.slot 45)]⟩ :: ⟨[42], [], [43], [(.slot 46)]⟩ :: ⟨[42], [], [44], [(.slot 47)]⟩ :: ⟨[42], [], [45], [(.slot 48)]⟩ :: ⟨[42], [], [46], [(.slot 49)]⟩ :: ⟨[42], [], [47], [(.slot 50)]⟩ :: ⟨[42], [], [48], [(.slot 51)]⟩ :: ⟨[48], [], [49], [(.slot 4)]⟩ :: [])) (es' := [(4, .v (.bool false))]) (by kernel_rfl) rfl rfl
      ⟨st_plain rfl (op_fieldAddr _ _ _ _ 2 0 _ Try.underlying24 rfl sz3 rfl rfl (by decide)),
      st_plain rfl (op_load _ _ _ _ _ _ Try.underlying3 rfl rfl rfl (Nat.le_of_ble_eq_true rfl) rfl rfl rfl),
      st_plain rfl (op_fieldAddr _ _ _ _ 3 0 _ Try.underlying24 rfl sz3 rfl rfl (by decide)),
      st_plain rfl (op_load _ _ _ _ _ _ Try.underlying3 rfl rfl rfl (Nat.le_of_ble_eq_true rfl) rfl rfl rfl),
      st_plain rfl (op_bin _ _ _ _ _ rfl rfl rfl),
      st_plain rfl (op_move _ _ _ _ (congrArg (fun b => AV.v (Value.bool b)) hg1_5) rfl),
      st_run 5 10 true rfl rfl rfl (List.Mem.head _) (op_fieldAddr _ _ _ _ 2 0 _ Try.underlying24 rfl sz22 rfl rfl (by decide)),
      st_run 5 10 true rfl rfl rfl (List.Mem.head _) (op_load _ _ _ _ _ _ Try.underlying22 rfl rfl rfl (Nat.le_of_ble_eq_true rfl) rfl rfl rfl),
      st_run 5 10 true rfl rfl rfl (List.Mem.head _) (op_fieldAddr _ _ _ _ 3 0 _ Try.underlying24 rfl sz22 rfl rfl (by decide)),
      st_run 5 10 true rfl rfl rfl (List.Mem.head _) (op_load _ _ _ _ _ _ Try.underlying22 rfl rfl rfl (Nat.le_of_ble_eq_true rfl) rfl rfl rfl),
      st_run 5 10 true rfl rfl rfl (List.Mem.head _) (op_call _ _ 28 _ _ rfl Try.call28 rfl (ok_wherrykeep_Bytes a.Data b.Data _ hv1) rfl rfl),
      st_plain rfl (op_pick _ _ true _ rfl rfl),
      st_plain rfl (op_move _ _ _ _ (congrArg (fun b => AV.v (Value.bool b)) hg1_12) rfl),
      st_skip 12 17 _ true rfl rfl rfl rfl (List.Mem.head _),
      st_skip 12 17 _ true rfl rfl rfl rfl (List.Mem.head _),
      st_skip 12 17 _ true rfl rfl rfl rfl (List.Mem.head _),
      st_skip 12 17 _ true rfl rfl rfl rfl (List.Mem.head _),
      st_skip 12 17 _ true rfl rfl rfl rfl (List.Mem.head _),
      st_plain rfl (op_pick _ _ false _ rfl rfl),
      st_plain rfl (op_move _ _ _ _ rfl rfl),
      st_skip 19 24 _ true rfl rfl rfl rfl (List.Mem.head _),
      st_skip 19 24 _ true rfl rfl rfl rfl (List.Mem.head _),
      st_skip 19 24 _ true rfl rfl rfl rfl (List.Mem.head _),
      st_skip 19 24 _ true rfl rfl rfl rfl (List.Mem.head _),
      st_skip 19 24 _ true rfl rfl rfl rfl (List.Mem.head _),
      st_plain rfl (op_pick _ _ false _ rfl rfl),
      st_plain rfl (op_move _ _ _ _ rfl rfl),
      st_skip 26 31 _ true rfl rfl rfl rfl (List.Mem.head _),
      st_skip 26 31 _ true rfl rfl rfl rfl (List.Mem.head _),
      st_skip 26 31 _ true rfl rfl rfl rfl (List.Mem.head _),
      st_skip 26 31 _ true rfl rfl rfl rfl (List.Mem.head _),
      st_skip 26 31 _ true rfl rfl rfl rfl (List.Mem.head _),
      st_plain rfl (op_pick _ _ false _ rfl rfl),
      st_plain rfl (op_move _ _ _ _ rfl rfl),
      st_skip 33 38 _ true rfl rfl rfl rfl (List.Mem.head _),
      st_skip 33 38 _ true rfl rfl rfl rfl (List.Mem.head _),
      st_skip 33 38 _ true rfl rfl rfl rfl (List.Mem.head _),
      st_skip 33 38 _ true rfl rfl rfl rfl (List.Mem.head _),
      st_skip 33 38 _ true rfl rfl rfl rfl (List.Mem.head _),
      st_plain rfl (op_pick _ _ false _ rfl rfl),
      st_plain rfl (op_move _ _ _ _ rfl rfl),
      st_skip 40 45 _ true rfl rfl rfl rfl (List.Mem.head _),
      st_skip 40 45 _ true rfl rfl rfl rfl (List.Mem.head _),
      st_skip 40 45 _ true rfl rfl rfl rfl (List.Mem.head _),
      st_skip 40 45 _ true rfl rfl rfl rfl (List.Mem.head _),
      st_skip 40 45 _ true rfl rfl rfl rfl (List.Mem.head _),
      st_plain rfl (op_pick _ _ false _ rfl rfl),
      st_plain rfl (op_assign _ _ _ _ rfl rfl),
      trivial⟩ ?_
     exact hl6 _ (Option.some.inj h).symm
   ·refine ht_seqR hn (El := (_ :: _ :: (5, .ptr 2 0) :: (6, .v (.int .i64 a.Number)) :: (7, .ptr 3 0) :: (8, .v (.int .i64 b.Number)) :: (9, .v (.bool (a.Number == b.Number))) :: (10, .v (.bool false)) :: (11, .v undef) :: (12, .v undef) :: (13, .v undef) :: (14, .v undef) :: (15, .v undef) :: (16, .v (.bool false)) :: (17, .v (.bool false)) :: (18, .v undef) :: (19, .v undef) :: (20, .v undef) :: (21, .v undef) :: (22, .v undef) :: (23, .v (.bool false)) :: (24, .v (.bool false)) :: (25, .v undef) :: (26, .v undef) :: (27, .v undef) :: (28, .v undef) :: (29, .v undef) :: (30, .v (.bool false)) :: (31, .v (.bool false)) :: (32, .v undef) :: (33, .v undef) :: (34, .v undef) :: (35, .v undef) :: (36, .v undef) :: (37, .v (.bool false)) :: (38, .v (.bool false)) :: (39, .v undef) :: (40, .v undef) :: (41, .v undef) :: (42, .v undef) :: (43, .v undef) :: (44, .v (.bool false)) :: (45, .v (.bool false)) :: (46, .v undef) :: (47, .v undef) :: (48, .v undef) :: (49, .v undef) :: (50, .v undef) :: (51, .v (.bool false)) :: (4, .v (.bool false)) :: [])) (init := [0, 1]) (fin := [49]) (sps := (⟨[0], [], [2], [(.slot 5)]⟩ :: ⟨[2, 0], [], [3], [(.slot 6)]⟩ :: ⟨[1], [], [4], [(.slot 7)]⟩ :: ⟨[4, 1], [], [5], [(.slot 8)]⟩ :: ⟨[3, 5], [], [6], [(.slot 9)]⟩ :: ⟨[6], [], [7], [(.slot 10)]⟩ :: ⟨[7], [], [8], [(.slot 11)]⟩ :: ⟨[7], [], [9], [(.slot 12)]⟩ :: ⟨[7], [], [10], [(.slot 13)]⟩ :: ⟨[7], [], [11], [(.slot 14)]⟩ :: ⟨[7], [], [12], [(.slot 15)]⟩ :: ⟨[7], [], [13], [(.slot 16)]⟩ :: ⟨[13], [], [14], [(.slot 17)]⟩ :: ⟨[14], [], [15], [(.slot 18)]⟩ :: ⟨[14], [], [16], [(.slot 19)]⟩ :: ⟨[14], [], [17], [(.slot 20)]⟩ :: ⟨[14], [], [18], [(.slot 21)]⟩ :: ⟨[14], [], [19], [(.slot 22)]⟩ :: ⟨[14], [], [20], [(.slot 23)]⟩ :: ⟨[20], [], [21], [(.slot 24)]⟩ :: ⟨[21], [], [22], [(.slot 25)]⟩ :: ⟨[21], [], [23], [(.slot 26)]⟩ :: ⟨[21], [], [24], [(.slot 27)]⟩ :: ⟨[21], [], [25], [(.slot 28)]⟩ :: ⟨[21], [], [26], [(.slot 29)]⟩ :: ⟨[21], [], [27], [(.slot 30)]⟩ :: ⟨[27], [], [28], [(.slot 31)]⟩ :: ⟨[28], [], [29], [(.slot 32)]⟩ :: ⟨[28], [], [30], [(.slot 33)]⟩ :: ⟨[28], [], [31], [(.slot 34)]⟩ :: ⟨[28], [], [32], [(.slot 35)]⟩ :: ⟨[28], [], [33], [(.slot 36)]⟩ :: ⟨[28], [], [34], [(.slot 37)]⟩ :: ⟨[34], [], [35], [(.slot 38)]⟩ :: ⟨[35], [], [36], [(.slot 39)]⟩ :: ⟨[35], [], [37], [(.slot 40)]⟩ :: ⟨[35], [], [38], [(.slot 41)]⟩ :: ⟨[35], [], [39], [(.slot 42)]⟩ :: ⟨[35], [], [40], [(.slot 43)]⟩ :: ⟨[35], [], [41], [(.slot 44)]⟩ :: ⟨[41], [], [42], [(.slot 45)]⟩ :: ⟨[42], [], [43], [(.slot 46)]⟩ :: ⟨[42], [], [44], [(.slot 47)]⟩ :: ⟨[42], [], [45], [(.slot 48)]⟩ :: ⟨[42], [], [46], [(.slot 49)]⟩ :: ⟨[42], [], [47], [(.slot 50)]⟩ :: ⟨[42], [], [48], [(.slot 51)]⟩ :: ⟨[48], [], [49], [(.slot 4)]⟩ :: [])) (es' := [(4, .v (.bool false))]) (by kernel_rfl) rfl rfl
     ⟨st_plain rfl (op_fieldAddr _ _ _ _ 2 0 _ Try.underlying24 rfl sz3 rfl rfl (by decide)),
     st_plain rfl (op_load _ _ _ _ _ _ Try.underlying3 rfl rfl rfl (Nat.le_of_ble_eq_true rfl) rfl rfl rfl),
     st_plain rfl (op_fieldAddr _ _ _ _ 3 0 _ Try.underlying24 rfl sz3 rfl rfl (by decide)),
     st_plain rfl (op_load _ _ _ _ _ _ Try.underlying3 rfl rfl rfl (Nat.le_of_ble_eq_true rfl) rfl rfl rfl),
     st_plain rfl (op_bin _ _ _ _ _ rfl rfl rfl),
     st_plain rfl (op_move _ _ _ _ (congrArg (fun b => AV.v (Value.bool b)) hg1_5) rfl),
     st_skip 5 10 _ true rfl rfl rfl rfl (List.Mem.head _),
     st_skip 5 10 _ true rfl rfl rfl rfl (List.Mem.head _),
     st_skip 5 10 _ true rfl rfl rfl rfl (List.Mem.head _),
     st_skip 5 10 _ true rfl rfl rfl rfl (List.Mem.head _),
     st_skip 5 10 _ true rfl rfl rfl rfl (List.Mem.head _),
     st_plain rfl (op_pick _ _ false _ rfl rfl),
     st_plain rfl (op_move _ _ _ _ rfl rfl),
     st_skip 12 17 _ true rfl rfl rfl rfl (List.Mem.head _),
     st_skip 12 17 _ true rfl rfl rfl rfl (List.Mem.head _),
     st_skip 12 17 _ true rfl rfl rfl rfl (List.Mem.head _),
     st_skip 12 17 _ true rfl rfl rfl rfl (List.Mem.head _),
     st_skip 12 17 _ true rfl rfl rfl rfl (List.Mem.head _),
     st_plain rfl (op_pick _ _ false _ rfl rfl),
     st_plain rfl (op_move _ _ _ _ rfl rfl),
     st_skip 19 24 _ true rfl rfl rfl rfl (List.Mem.head _),
     st_skip 19 24 _ true rfl rfl rfl rfl (List.Mem.head _),
     st_skip 19 24 _ true rfl rfl rfl rfl (List.Mem.head _),
     st_skip 19 24 _ true rfl rfl rfl rfl (List.Mem.head _),
     st_skip 19 24 _ true rfl rfl rfl rfl (List.Mem.head _),
     st_plain rfl (op_pick _ _ false _ rfl rfl),
     st_plain rfl (op_move _ _ _ _ rfl rfl),
     st_skip 26 31 _ true rfl rfl rfl rfl (List.Mem.head _),
     st_skip 26 31 _ true rfl rfl rfl rfl (List.Mem.head _),
     st_skip 26 31 _ true rfl rfl rfl rfl (List.Mem.head _),
     st_skip 26 31 _ true rfl rfl rfl rfl (List.Mem.head _),
     st_skip 26 31 _ true rfl rfl rfl rfl (List.Mem.head _),
     st_plain rfl (op_pick _ _ false _ rfl rfl),
     st_plain rfl (op_move _ _ _ _ rfl rfl),
     st_skip 33 38 _ true rfl rfl rfl rfl (List.Mem.head _),
     st_skip 33 38 _ true rfl rfl rfl rfl (List.Mem.head _),
     st_skip 33 38 _ true rfl rfl rfl rfl (List.Mem.head _),
     st_skip 33 38 _ true rfl rfl rfl rfl (List.Mem.head _),
     st_skip 33 38 _ true rfl rfl rfl rfl (List.Mem.head _),
     st_plain rfl (op_pick _ _ false _ rfl rfl),
     st_plain rfl (op_move _ _ _ _ rfl rfl),
     st_skip 40 45 _ true rfl rfl rfl rfl (List.Mem.head _),
     st_skip 40 45 _ true rfl rfl rfl rfl (List.Mem.head _),
     st_skip 40 45 _ true rfl rfl rfl rfl (List.Mem.head _),
     st_skip 40 45 _ true rfl rfl rfl rfl (List.Mem.head _),
     st_skip 40 45 _ true rfl rfl rfl rfl (List.Mem.head _),
     st_plain rfl (op_pick _ _ false _ rfl rfl),
     st_plain rfl (op_assign _ _ _ _ rfl rfl),
     trivial⟩ ?_
    exact hl6 _ (Option.some.inj h).symm

end Go.Proofs.Ytdligpdfcfbgpaa
