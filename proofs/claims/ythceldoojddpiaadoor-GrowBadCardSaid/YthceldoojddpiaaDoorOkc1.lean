/-
  The model's runs are what is told in Lean.
-/
import Derived.Test.YthceldoojddpiaaDoorProg
import Derived.KernelRfl
import Derived.Test.YthceldoojddpiaaDoorSh
set_option linter.unusedVariables false
set_option linter.unusedSimpArgs false
namespace Go.Proofs.YthceldoojddpiaaDoor
open Go.Abs Go.Abs.Sh

def GL (mx : Int) : List (Nat × List Value) := [(1, (List.map (Value.int .i64) grow_rowOrder))]
theorem gl_mem1 (mx : Int) : (1, ((List.map (Value.int .i64) grow_rowOrder) : List Value)) ∈ GL mx := .head _
theorem sz5 : (Tryd.prog.info? 5).map (·.size) = some 1 := by kernel_rfl
theorem zr5 : (Tryd.prog.info? 5).bind (·.zero) = some (.int .u8 0) := by kernel_rfl
theorem fs59 : ∀ fs, Tryd.prog.underlying 59 = some (.struct fs) → fs.toList.map (fun f => (Tryd.prog.info? f.type).map (·.size)) = ([1, 1, 1, 1, 1] : List Nat).map some := by
  intro fs h
  rw [Tryd.underlying59] at h
  cases h
  kernel_rfl
theorem zr59 : (Tryd.prog.info? 59).bind (·.zero) = some (.agg #[.slice none 0 0, .int .i64 0, .slice none 0 0, .int .i64 0, .int .i64 0]) := by kernel_rfl
theorem sz22 : (Tryd.prog.info? 22).map (·.size) = some 1 := by kernel_rfl
theorem sz3 : (Tryd.prog.info? 3).map (·.size) = some 1 := by kernel_rfl
theorem el22 : ElemT Tryd.prog 22 5 1 1 := ⟨⟨Tryd.t5, .int .u8 0, Tryd.underlying22, by kernel_rfl, by kernel_rfl, by kernel_rfl, by kernel_rfl, by decide, by kernel_rfl⟩⟩
theorem zr3 : (Tryd.prog.info? 3).bind (·.zero) = some (.int .i64 0) := by kernel_rfl
theorem el73 : ElemT Tryd.prog 73 3 1 8 := ⟨⟨Tryd.t3, .int .i64 0, Tryd.underlying73, by kernel_rfl, by kernel_rfl, by kernel_rfl, by kernel_rfl, by decide, by kernel_rfl⟩⟩
theorem za118 : ((Tryd.prog.info? 118).bind (·.zero)).map (·.cells.toList) = some (List.map (Value.int .i64) (List.replicate 16 (0 : Int))) := by kernel_rfl
theorem sz118 : (Tryd.prog.info? 118).map (·.size) = some 16 := by kernel_rfl
theorem zr118 : (Tryd.prog.info? 118).bind (·.zero) = some (.agg #[.int .i64 0, .int .i64 0, .int .i64 0, .int .i64 0, .int .i64 0, .int .i64 0, .int .i64 0, .int .i64 0, .int .i64 0, .int .i64 0, .int .i64 0, .int .i64 0, .int .i64 0, .int .i64 0, .int .i64 0, .int .i64 0]) := by kernel_rfl
theorem zr113 : (Tryd.prog.info? 113).bind (·.zero) = some (.agg #[.int .i64 0, .int .i64 0, .int .i64 0]) := by kernel_rfl
theorem fs113 : ∀ fs, Tryd.prog.underlying 113 = some (.struct fs) → fs.toList.map (fun f => (Tryd.prog.info? f.type).map (·.size)) = ([1, 1, 1] : List Nat).map some := by
  intro fs h
  rw [Tryd.underlying113] at h
  cases h
  kernel_rfl
theorem sz113 : (Tryd.prog.info? 113).map (·.size) = some 3 := by kernel_rfl

set_option maxHeartbeats 1000000 in
theorem ok_bits_bytesFor (n : Int) (r : Int) (h : Sh.bits_bytesFor n = some r) : FnOK Tryd.prog 27 [.v (.int .i64 n)] (.v (.int .i64 r)) := by
  unfold Sh.bits_bytesFor at h
  refine fn_ok Tryd.func27 rfl (Nat.le_of_ble_eq_true rfl) rfl rfl fun g0 hn hio => ?_
  refine ht_seq ?_
  refine ht_seqR hn (El := [_, (2, .v (.int .i64 0))]) (init := [0]) (fin := [0]) (sps := [⟨[], [], [1], [(.slot 2)]⟩]) (es' := [(_, _)]) (by kernel_rfl) rfl rfl
   ⟨st_plain rfl (op_assign _ _ _ _ rfl rfl),
   trivial⟩ ?_
  refine pt_then ?_
  refine ht_seq ?_
  obtain ⟨v1, hv1, h⟩ := bind_some h
  obtain ⟨v2, hv2, h⟩ := bind_some h
  refine ht_seqR hn (El := [_, (3, .v (.int .i64 n)), (4, .v (.int .i64 v1)), (5, .v (.int .i64 v2)), (2, .v (.int .i64 v2))]) (init := [0]) (fin := [4]) (sps := [⟨[0], [], [1], [(.slot 3)]⟩, ⟨[1], [], [2], [(.slot 4)]⟩, ⟨[2], [], [3], [(.slot 5)]⟩, ⟨[3], [], [4], [(.slot 2)]⟩]) (es' := [(2, .v (.int .i64 v2))]) (by kernel_rfl) rfl rfl
   ⟨st_plain rfl (op_move _ _ _ _ rfl rfl),
   st_plain rfl (op_bin _ _ _ _ _ rfl rfl (ibind (f := Value.int .i64) (Option.some.inj hv1))),
   st_plain rfl (op_bin _ _ _ _ _ rfl rfl (quo_ok hv2)),
   st_plain rfl (op_assign _ _ _ _ rfl rfl),
   trivial⟩ ?_
  refine pt_then ?_
  refine ht_ret ?_
  obtain rfl := Option.some.inj h
  exact pt_ret hio rfl (.tmp _ _ .nil) rfl rfl

set_option maxHeartbeats 1000000 in
theorem ok_bits_Get (b : (List Int)) (at_ : Int) (n : Int) (r : (Int × Int × Int)) (h : Sh.bits_Get b at_ n = some r) : FnOK Tryd.prog 76 [.fl .shr 1 (List.map (Value.int .u8) b), .v (.int .i64 at_), .v (.int .i64 n)] (.tup [.v (.int .i64 r.1), .v (.int .i64 r.2.1), .v (.int .i64 r.2.2)]) := by
  unfold Sh.bits_Get at h
  refine fn_ok Tryd.func76 rfl (Nat.le_of_ble_eq_true rfl) rfl rfl fun g0 hn hio => ?_
  refine ht_seq ?_
  refine ht_seqR hn (El := [_, _, _, (6, .v (.int .i64 0)), (7, .v (.int .i64 0)), (8, .v (.int .i64 0))]) (init := [0, 1, 2]) (fin := [0, 1, 2]) (sps := [⟨[], [], [3], [(.slot 6)]⟩, ⟨[], [], [4], [(.slot 7)]⟩, ⟨[], [], [5], [(.slot 8)]⟩]) (es' := [(_, _), (_, _), (_, _)]) (by kernel_rfl) rfl rfl
   ⟨st_plain rfl (op_assign _ _ _ _ rfl rfl),
   st_plain rfl (op_assign _ _ _ _ rfl rfl),
   st_plain rfl (op_assign _ _ _ _ rfl rfl),
   trivial⟩ ?_
  refine pt_then ?_
  refine ht_seq ?_
  refine ht_seq ?_
  refine ht_joinS h (fun (s2 : Bool) => [(0, .fl .shr 1 (List.map (Value.int .u8) b)), (1, .v (.int .i64 at_)), (2, .v (.int .i64 n)), (29, .v (.bool s2))]) ?_ ?_
  ·rintro s2 h
   refine pt_then ?_
   refine ht_cond _ rfl (fun hb6 => ?_) (fun hb6 => ?_)
   ·have h := cond_t hb6 h
    refine ht_seq ?_
    refine ht_seqR hn (El := [_, _, _, _, (6, .v (.int .i64 0)), (7, .v (.int .i64 0)), (8, .v (.int .i64 1))]) (init := [0, 1, 2, 3]) (fin := [4, 5, 6]) (sps := [⟨[], [], [4], [(.slot 6)]⟩, ⟨[], [], [5], [(.slot 7)]⟩, ⟨[], [], [6], [(.slot 8)]⟩]) (es' := [(6, .v (.int .i64 0)), (7, .v (.int .i64 0)), (8, .v (.int .i64 1))]) (by kernel_rfl) rfl rfl
     ⟨st_plain rfl (op_assign _ _ _ _ rfl rfl),
     st_plain rfl (op_assign _ _ _ _ rfl rfl),
     st_plain rfl (op_assign _ _ _ _ rfl rfl),
     trivial⟩ ?_
    refine pt_then ?_
    refine ht_ret ?_
    refine pt_r_then ?_
    obtain rfl := Option.some.inj h
    exact pt_ret hio rfl (.tmp _ _ (.tmp _ _ (.tmp _ _ .nil))) rfl rfl
   ·have h := cond_f hb6 h
    refine ht_skip ?_
    refine pt_then ?_
    refine ht_seq ?_
    refine ht_seq ?_
    obtain ⟨v7, hv7, h⟩ := bind_some h
    obtain ⟨v8, hv8, h⟩ := bind_some h
    refine ht_seqR hn (El := [_, _, _, _, (30, .v (.int .i64 at_)), (31, .v (.int .i64 n)), (32, .v (.int .i64 v7)), (33, .fl .shr 1 (List.map (Value.int .u8) b)), (34, .v (.int .i64 (b.length : Int))), (35, .v (.int .i64 v8)), (36, .v (.bool ((decide (v8 < v7)))))]) (init := [0, 1, 2, 3]) (fin := [0, 1, 2, 10]) (sps := [⟨[1], [], [4], [(.slot 30)]⟩, ⟨[2], [], [5], [(.slot 31)]⟩, ⟨[4, 5], [], [6], [(.slot 32)]⟩, ⟨[0], [], [7], [(.slot 33)]⟩, ⟨[7], [], [8], [(.slot 34)]⟩, ⟨[8], [], [9], [(.slot 35)]⟩, ⟨[6, 9], [], [10], [(.slot 36)]⟩]) (es' := [(_, _), (_, _), (_, _), (36, .v (.bool ((decide (v8 < v7)))))]) (by kernel_rfl) rfl rfl
     ⟨st_plain rfl (op_move _ _ _ _ rfl rfl),
     st_plain rfl (op_move _ _ _ _ rfl rfl),
     st_plain rfl (op_bin _ _ _ _ _ rfl rfl (ibind (f := Value.int .i64) (Option.some.inj hv7))),
     st_plain rfl (op_move _ _ _ _ rfl rfl),
     st_plain rfl (op_len_fl _ _ _ Tryd.underlying22 rfl (by decide) (map_len _)),
     st_plain rfl (op_bin _ _ _ _ _ rfl rfl (ibind (f := Value.int .i64) (Option.some.inj hv8))),
     st_plain rfl (op_bin _ _ _ _ _ rfl rfl rfl),
     trivial⟩ ?_
    refine pt_then ?_
    refine ht_cond _ rfl (fun hb9 => ?_) (fun hb9 => ?_)
    ·have h := cond_t hb9 h
     refine ht_seq ?_
     refine ht_seqR hn (El := [_, _, _, _, (6, .v (.int .i64 0)), (7, .v (.int .i64 0)), (8, .v (.int .i64 3))]) (init := [0, 1, 2, 3]) (fin := [4, 5, 6]) (sps := [⟨[], [], [4], [(.slot 6)]⟩, ⟨[], [], [5], [(.slot 7)]⟩, ⟨[], [], [6], [(.slot 8)]⟩]) (es' := [(6, .v (.int .i64 0)), (7, .v (.int .i64 0)), (8, .v (.int .i64 3))]) (by kernel_rfl) rfl rfl
      ⟨st_plain rfl (op_assign _ _ _ _ rfl rfl),
      st_plain rfl (op_assign _ _ _ _ rfl rfl),
      st_plain rfl (op_assign _ _ _ _ rfl rfl),
      trivial⟩ ?_
     refine pt_then ?_
     refine ht_ret ?_
     refine pt_r_then ?_
     obtain rfl := Option.some.inj h
     exact pt_ret hio rfl (.tmp _ _ (.tmp _ _ (.tmp _ _ .nil))) rfl rfl
    ·have h := cond_f hb9 h
     refine ht_skip ?_
     refine pt_then ?_
     refine ht_seq ?_
     refine ht_seqR hn (El := [_, _, _, _, (9, .v (.int .u32 0))]) (init := [0, 1, 2, 3]) (fin := [0, 1, 2, 4]) (sps := [⟨[], [], [4], [(.slot 9)]⟩]) (es' := [(_, _), (_, _), (_, _), (9, .v (.int .u32 0))]) (by kernel_rfl) rfl rfl
      ⟨st_plain rfl (op_assign _ _ _ _ rfl rfl),
      trivial⟩ ?_
     refine pt_then ?_
     refine ht_seq ?_
     obtain ⟨v10, hv10, h⟩ := bind_some h
     refine ht_seqR hn (El := [_, _, _, _, (37, .v (.int .i64 at_)), (38, .v (.int .i64 v10)), (10, .v (.int .i64 v10))]) (init := [0, 1, 2, 3]) (fin := [0, 1, 2, 3, 6]) (sps := [⟨[1], [], [4], [(.slot 37)]⟩, ⟨[4], [], [5], [(.slot 38)]⟩, ⟨[5], [], [6], [(.slot 10)]⟩]) (es' := [(_, _), (_, _), (_, _), (_, _), (10, .v (.int .i64 v10))]) (by kernel_rfl) rfl rfl
      ⟨st_plain rfl (op_move _ _ _ _ rfl rfl),
      st_plain rfl (op_bin _ _ _ _ _ rfl rfl (quo_ok hv10)),
      st_plain rfl (op_assign _ _ _ _ rfl rfl),
      trivial⟩ ?_
     refine pt_then ?_
     refine ht_seq ?_
     refine ht_seq ?_
     refine ht_seqR hn (El := [_, _, _, _, _, (39, .v (.int .i64 v10)), (11, .v (.int .i64 v10))]) (init := [0, 1, 2, 3, 4]) (fin := [0, 1, 2, 3, 4, 6]) (sps := [⟨[4], [], [5], [(.slot 39)]⟩, ⟨[5], [], [6], [(.slot 11)]⟩]) (es' := [(_, _), (_, _), (_, _), (_, _), (_, _), (11, .v (.int .i64 v10))]) (by kernel_rfl) rfl rfl
      ⟨st_plain rfl (op_move _ _ _ _ rfl rfl),
      st_plain rfl (op_assign _ _ _ _ rfl rfl),
      trivial⟩ ?_
     refine pt_then ?_
     refine ht_loopS h (fun ((s25, s26) : Int × Int) => [(0, .fl .shr 1 (List.map (Value.int .u8) b)), (1, .v (.int .i64 at_)), (2, .v (.int .i64 n)), (9, .v (.int .u32 s25)), (10, .v (.int .i64 v10)), (11, .v (.int .i64 s26))]) (fun (s28 : Int) => [(1, .v (.int .i64 at_)), (2, .v (.int .i64 n)), (9, .v (.int .u32 s28))]) ?_ ?_
     ·rintro s28 h
      refine pt_then ?_
      refine ht_seq ?_
      obtain ⟨v36, hv36, h⟩ := bind_some h
      obtain ⟨v37, hv37, h⟩ := bind_some h
      refine ht_seqR hn (El := [_, _, _, (60, .v (.int .i64 n)), (61, .v (.int .u32 v36)), (62, .v (.int .u32 v37)), (12, .v (.int .u32 v37))]) (init := [0, 1, 2]) (fin := [0, 1, 2, 6]) (sps := [⟨[1], [], [3], [(.slot 60)]⟩, ⟨[3], [], [4], [(.slot 61)]⟩, ⟨[4], [], [5], [(.slot 62)]⟩, ⟨[5], [], [6], [(.slot 12)]⟩]) (es' := [(_, _), (_, _), (_, _), (12, .v (.int .u32 v37))]) (by kernel_rfl) rfl rfl
       ⟨st_plain rfl (op_move _ _ _ _ rfl rfl),
       st_plain rfl (op_bin _ _ _ _ _ rfl rfl (shl_ok hv36)),
       st_plain rfl (op_bin _ _ _ _ _ rfl rfl (ibind (f := Value.int .u32) (Option.some.inj hv37))),
       st_plain rfl (op_assign _ _ _ _ rfl rfl),
       trivial⟩ ?_
      refine pt_then ?_
      refine ht_seq ?_
      obtain ⟨v38, hv38, h⟩ := bind_some h
      obtain ⟨v39, hv39, h⟩ := bind_some h
      obtain ⟨v40, hv40, h⟩ := bind_some h
      obtain ⟨v41, hv41, h⟩ := bind_some h
      obtain ⟨v42, hv42, h⟩ := bind_some h
      refine ht_seqR hn (El := (_ :: _ :: _ :: _ :: (63, .v (.int .u32 s28)) :: (64, .v (.int .i64 at_)) :: (65, .v (.int .i64 v38)) :: (66, .v (.int .u32 v39)) :: (67, .v (.int .u32 v37)) :: (68, .v (.int .u32 v40)) :: (69, .v (.int .i64 v41)) :: (70, .v (.int .i64 at_)) :: (71, .v (.int .i64 n)) :: (72, .v (.int .i64 v42)) :: (6, .v (.int .i64 v41)) :: (7, .v (.int .i64 v42)) :: (8, .v (.int .i64 0)) :: [])) (init := [0, 1, 2, 3]) (fin := [14, 15, 16]) (sps := [⟨[2], [], [4], [(.slot 63)]⟩, ⟨[0], [], [5], [(.slot 64)]⟩, ⟨[5], [], [6], [(.slot 65)]⟩, ⟨[4, 6], [], [7], [(.slot 66)]⟩, ⟨[3], [], [8], [(.slot 67)]⟩, ⟨[7, 8], [], [9], [(.slot 68)]⟩, ⟨[9], [], [10], [(.slot 69)]⟩, ⟨[0], [], [11], [(.slot 70)]⟩, ⟨[1], [], [12], [(.slot 71)]⟩, ⟨[11, 12], [], [13], [(.slot 72)]⟩, ⟨[10], [], [14], [(.slot 6)]⟩, ⟨[13], [], [15], [(.slot 7)]⟩, ⟨[], [], [16], [(.slot 8)]⟩]) (es' := [(6, .v (.int .i64 v41)), (7, .v (.int .i64 v42)), (8, .v (.int .i64 0))]) (by kernel_rfl) rfl rfl
       ⟨st_plain rfl (op_move _ _ _ _ rfl rfl),
       st_plain rfl (op_move _ _ _ _ rfl rfl),
       st_plain rfl (op_bin _ _ _ _ _ rfl rfl (rem_ok hv38)),
       st_plain rfl (op_bin _ _ _ _ _ rfl rfl (shr_ok hv39)),
       st_plain rfl (op_move _ _ _ _ rfl rfl),
       st_plain rfl (op_bin _ _ _ _ _ rfl rfl (ibind (f := Value.int .u32) (Option.some.inj hv40))),
       st_plain rfl ((Option.some.inj hv41) ▸ op_conv _ _ _ Tryd.underlying61 Tryd.underlying3 rfl),
       st_plain rfl (op_move _ _ _ _ rfl rfl),
       st_plain rfl (op_move _ _ _ _ rfl rfl),
       st_plain rfl (op_bin _ _ _ _ _ rfl rfl (ibind (f := Value.int .i64) (Option.some.inj hv42))),
       st_plain rfl (op_assign _ _ _ _ rfl rfl),
       st_plain rfl (op_assign _ _ _ _ rfl rfl),
       st_plain rfl (op_assign _ _ _ _ rfl rfl),
       trivial⟩ ?_
      refine pt_then ?_
      refine ht_ret ?_
      obtain rfl := Option.some.inj h
      exact pt_ret hio rfl (.tmp _ _ (.tmp _ _ (.tmp _ _ .nil))) rfl rfl
     ·rintro u29 hl30 hr31 ⟨s25, s26⟩ rr34 h ho32
      refine ht_seq ?_
      refine ht_seq ?_
      obtain ⟨v11, hv11, h⟩ := bind_some h
      obtain ⟨v12, hv12, h⟩ := bind_some h
      refine ht_seqR hn (El := [_, _, _, _, _, _, (40, .v (.int .i64 s26)), (41, .v (.int .i64 at_)), (42, .v (.int .i64 n)), (43, .v (.int .i64 v11)), (44, .v (.int .i64 v12)), (45, .v (.bool ((decide (s26 < v12)))))]) (init := [0, 1, 2, 3, 4, 5]) (fin := [0, 1, 2, 3, 4, 5, 11]) (sps := [⟨[5], [], [6], [(.slot 40)]⟩, ⟨[1], [], [7], [(.slot 41)]⟩, ⟨[2], [], [8], [(.slot 42)]⟩, ⟨[7, 8], [], [9], [(.slot 43)]⟩, ⟨[9], [], [10], [(.slot 44)]⟩, ⟨[6, 10], [], [11], [(.slot 45)]⟩]) (es' := [(_, _), (_, _), (_, _), (_, _), (_, _), (_, _), (45, .v (.bool ((decide (s26 < v12)))))]) (by kernel_rfl) rfl rfl
       ⟨st_plain rfl (op_move _ _ _ _ rfl rfl),
       st_plain rfl (op_move _ _ _ _ rfl rfl),
       st_plain rfl (op_move _ _ _ _ rfl rfl),
       st_plain rfl (op_bin _ _ _ _ _ rfl rfl (ibind (f := Value.int .i64) (Option.some.inj hv11))),
       st_plain rfl (op_call _ _ 27 _ _ rfl Tryd.call27 rfl (ok_bits_bytesFor v11 _ hv12) rfl rfl),
       st_plain rfl (op_bin _ _ _ _ _ rfl rfl rfl),
       trivial⟩ ?_
      refine pt_then ?_
      refine ht_cond _ rfl (fun hb35 => ?_) (fun hb35 => ?_)
      ·have h := cond_t hb35 h
       refine ht_skip ?_
       refine pt_then ?_
       refine ht_seq ?_
       refine ht_block ?_
       obtain ⟨v14, hv14, h⟩ := bind_some h
       obtain ⟨v15, hv15, h⟩ := bind_some h
       obtain ⟨v16, hv16, h⟩ := bind_some h
       obtain ⟨v17, hv17, h⟩ := bind_some h
       obtain ⟨v18, hv18, h⟩ := bind_some h
       obtain ⟨v19, hv19, h⟩ := bind_some h
       obtain ⟨v20, hv20, h⟩ := bind_some h
       refine ht_seqR hn (El := (_ :: _ :: _ :: _ :: _ :: _ :: _ :: (48, .v (.int .u32 s25)) :: (49, .fl .shr 1 (List.map (Value.int .u8) b)) :: (50, .v (.int .i64 s26)) :: (51, .eref (.slot 49) (v14 * 1)) :: (52, .v (.int .u8 v15)) :: (53, .v (.int .u32 v16)) :: (54, .v (.int .i64 s26)) :: (55, .v (.int .i64 v10)) :: (56, .v (.int .i64 v17)) :: (57, .v (.int .i64 v18)) :: (58, .v (.int .u32 v19)) :: (59, .v (.int .u32 v20)) :: (9, .v (.int .u32 v20)) :: [])) (init := [0, 1, 2, 3, 4, 5, 6]) (fin := [0, 1, 2, 4, 5, 19]) (sps := [⟨[3], [], [7], [(.slot 48)]⟩, ⟨[0], [], [8], [(.slot 49)]⟩, ⟨[5], [], [9], [(.slot 50)]⟩, ⟨[8, 9], [], [10], [(.slot 51)]⟩, ⟨[10, 8], [], [11], [(.slot 52)]⟩, ⟨[11], [], [12], [(.slot 53)]⟩, ⟨[5], [], [13], [(.slot 54)]⟩, ⟨[4], [], [14], [(.slot 55)]⟩, ⟨[13, 14], [], [15], [(.slot 56)]⟩, ⟨[15], [], [16], [(.slot 57)]⟩, ⟨[12, 16], [], [17], [(.slot 58)]⟩, ⟨[7, 17], [], [18], [(.slot 59)]⟩, ⟨[18], [3], [19], [(.slot 9)]⟩]) (es' := [(_, _), (_, _), (_, _), (_, _), (_, _), (9, .v (.int .u32 v20))]) (by kernel_rfl) rfl rfl
        ⟨st_plain rfl (op_move _ _ _ _ rfl rfl),
        st_plain rfl (op_move _ _ _ _ rfl rfl),
        st_plain rfl (op_move _ _ _ _ rfl rfl),
        st_plain rfl (op_ix _ _ _ _ _ _ _ _ Tryd.underlying22 sz5 (by decide) rfl rfl rfl (ix_ok hv14).1 (map_lt (ix_ok hv14).2) rfl),
        st_plain rfl (op_load_e _ _ _ _ _ _ Tryd.underlying5 rfl rfl rfl (map_get hv15)),
        st_plain rfl ((Option.some.inj hv16) ▸ op_conv _ _ _ Tryd.underlying5 Tryd.underlying61 rfl),
        st_plain rfl (op_move _ _ _ _ rfl rfl),
        st_plain rfl (op_move _ _ _ _ rfl rfl),
        st_plain rfl (op_bin _ _ _ _ _ rfl rfl (ibind (f := Value.int .i64) (Option.some.inj hv17))),
        st_plain rfl (op_bin _ _ _ _ _ rfl rfl (ibind (f := Value.int .i64) (Option.some.inj hv18))),
        st_plain rfl (op_bin _ _ _ _ _ rfl rfl (shl_ok hv19)),
        st_plain rfl (op_bin _ _ _ _ _ rfl rfl (ibind (f := Value.int .u32) (Option.some.inj hv20))),
        st_plain rfl (LOp.drop [_] (op_assign _ _ _ _ rfl rfl)),
        trivial⟩ ?_
       refine pt_inb ?_
       refine pt_then ?_
       obtain ⟨v21, hv21, h⟩ := bind_some h
       refine ht_seqR hn (El := [_, _, _, _, _, _, (46, .v (.int .i64 s26)), (47, .v (.int .i64 v21)), (11, .v (.int .i64 v21))]) (init := [0, 1, 2, 3, 4, 5]) (fin := [0, 1, 2, 3, 5, 8]) (sps := [⟨[4], [], [6], [(.slot 46)]⟩, ⟨[6], [], [7], [(.slot 47)]⟩, ⟨[7], [4], [8], [(.slot 11)]⟩]) (es' := [(_, _), (_, _), (_, _), (_, _), (_, _), (11, .v (.int .i64 v21))]) (by kernel_rfl) rfl rfl
        ⟨st_plain rfl (op_move _ _ _ _ rfl rfl),
        st_plain rfl (op_bin _ _ _ _ _ rfl rfl (ibind (f := Value.int .i64) (Option.some.inj hv21))),
        st_plain rfl (LOp.drop [_] (op_assign _ _ _ _ rfl rfl)),
        trivial⟩ ?_
       refine pt_pick [0, 1, 2, 4, 3, 5] (by kernel_rfl) (es' := [(_, _), (_, _), (_, _), (_, _), (_, _), (_, _)]) rfl ?_
       exact pt_next _ (Option.some.inj h).symm rfl
      ·have h := cond_f hb35 h
       refine ht_exit ?_
       refine pt_x_then ?_
       refine pt_x_then ?_
       refine pt_x_in ?_
       refine pt_pick [1, 2, 3] (by kernel_rfl) (es' := [(_, _), (_, _), (_, _)]) rfl ?_
       exact hl30 _ (ho32 _ (Option.some.inj h).symm).symm
  ·intro u3 h hl4 hr5
   refine cond_some h (fun hg1_2 h => ?_) (fun hg1_2 h => ?_)
   ·refine ht_seqR hn (El := (_ :: _ :: _ :: (13, .v (.int .i64 n)) :: (14, .v (.bool ((decide (n < 0))))) :: (15, .v (.bool true)) :: (16, .v undef) :: (17, .v undef) :: (18, .v (.bool true)) :: (19, .v (.bool true)) :: (20, .v undef) :: (21, .v undef) :: (22, .v (.bool true)) :: (23, .v (.bool true)) :: (24, .v undef) :: (25, .v undef) :: (26, .v undef) :: (27, .v undef) :: (28, .v undef) :: (29, .v (.bool true)) :: [])) (init := [0, 1, 2]) (fin := [0, 1, 2, 19]) (sps := (⟨[2], [], [3], [(.slot 13)]⟩ :: ⟨[3], [], [4], [(.slot 14)]⟩ :: ⟨[4], [], [5], [(.slot 15)]⟩ :: ⟨[5], [], [6], [(.slot 16)]⟩ :: ⟨[5], [], [7], [(.slot 17)]⟩ :: ⟨[5], [], [8], [(.slot 18)]⟩ :: ⟨[8], [], [9], [(.slot 19)]⟩ :: ⟨[9], [], [10], [(.slot 20)]⟩ :: ⟨[9], [], [11], [(.slot 21)]⟩ :: ⟨[9], [], [12], [(.slot 22)]⟩ :: ⟨[12], [], [13], [(.slot 23)]⟩ :: ⟨[13], [], [14], [(.slot 24)]⟩ :: ⟨[13], [], [15], [(.slot 25)]⟩ :: ⟨[13], [], [16], [(.slot 26)]⟩ :: ⟨[13], [], [17], [(.slot 27)]⟩ :: ⟨[13], [], [18], [(.slot 28)]⟩ :: ⟨[13], [], [19], [(.slot 29)]⟩ :: [])) (es' := [(_, _), (_, _), (_, _), (29, .v (.bool true))]) (by kernel_rfl) rfl rfl
     ⟨st_plain rfl (op_move _ _ _ _ rfl rfl),
     st_plain rfl (op_bin _ _ _ _ _ rfl rfl rfl),
     st_plain rfl (op_move _ _ _ _ (congrArg (fun b => AV.v (Value.bool b)) hg1_2) rfl),
     st_skip 2 15 _ false rfl rfl rfl rfl (List.Mem.head _),
     st_skip 2 15 _ false rfl rfl rfl rfl (List.Mem.head _),
     st_plain rfl (op_pick _ _ true _ rfl rfl),
     st_plain rfl (op_move _ _ _ _ rfl rfl),
     st_skip 6 19 _ false rfl rfl rfl rfl (List.Mem.head _),
     st_skip 6 19 _ false rfl rfl rfl rfl (List.Mem.head _),
     st_plain rfl (op_pick _ _ true _ rfl rfl),
     st_plain rfl (op_move _ _ _ _ rfl rfl),
     st_skip 10 23 _ false rfl rfl rfl rfl (List.Mem.head _),
     st_skip 10 23 _ false rfl rfl rfl rfl (List.Mem.head _),
     st_skip 10 23 _ false rfl rfl rfl rfl (List.Mem.head _),
     st_skip 10 23 _ false rfl rfl rfl rfl (List.Mem.head _),
     st_skip 10 23 _ false rfl rfl rfl rfl (List.Mem.head _),
     st_plain rfl (op_pick _ _ true _ rfl rfl),
     trivial⟩ ?_
    exact hl4 _ (Option.some.inj h).symm
   ·refine cond_some h (fun hg1_6 h => ?_) (fun hg1_6 h => ?_)
    ·refine ht_seqR hn (El := (_ :: _ :: _ :: (13, .v (.int .i64 n)) :: (14, .v (.bool ((decide (n < 0))))) :: (15, .v (.bool false)) :: (16, .v (.int .i64 n)) :: (17, .v (.bool ((decide (24 < n))))) :: (18, .v (.bool ((decide (24 < n))))) :: (19, .v (.bool true)) :: (20, .v undef) :: (21, .v undef) :: (22, .v (.bool true)) :: (23, .v (.bool true)) :: (24, .v undef) :: (25, .v undef) :: (26, .v undef) :: (27, .v undef) :: (28, .v undef) :: (29, .v (.bool true)) :: [])) (init := [0, 1, 2]) (fin := [0, 1, 2, 19]) (sps := (⟨[2], [], [3], [(.slot 13)]⟩ :: ⟨[3], [], [4], [(.slot 14)]⟩ :: ⟨[4], [], [5], [(.slot 15)]⟩ :: ⟨[5, 2], [], [6], [(.slot 16)]⟩ :: ⟨[5, 6], [], [7], [(.slot 17)]⟩ :: ⟨[5, 7], [], [8], [(.slot 18)]⟩ :: ⟨[8], [], [9], [(.slot 19)]⟩ :: ⟨[9], [], [10], [(.slot 20)]⟩ :: ⟨[9], [], [11], [(.slot 21)]⟩ :: ⟨[9], [], [12], [(.slot 22)]⟩ :: ⟨[12], [], [13], [(.slot 23)]⟩ :: ⟨[13], [], [14], [(.slot 24)]⟩ :: ⟨[13], [], [15], [(.slot 25)]⟩ :: ⟨[13], [], [16], [(.slot 26)]⟩ :: ⟨[13], [], [17], [(.slot 27)]⟩ :: ⟨[13], [], [18], [(.slot 28)]⟩ :: ⟨[13], [], [19], [(.slot 29)]⟩ :: [])) (es' := [(_, _), (_, _), (_, _), (29, .v (.bool true))]) (by kernel_rfl) rfl rfl
      ⟨st_plain rfl (op_move _ _ _ _ rfl rfl),
      st_plain rfl (op_bin _ _ _ _ _ rfl rfl rfl),
      st_plain rfl (op_move _ _ _ _ (congrArg (fun b => AV.v (Value.bool b)) hg1_2) rfl),
      st_run 2 15 false rfl rfl rfl (List.Mem.head _) (op_move _ _ _ _ rfl rfl),
      st_run 2 15 false rfl rfl rfl (List.Mem.head _) (op_bin _ _ _ _ _ rfl rfl rfl),
      st_plain rfl (op_pick _ _ false _ rfl rfl),
      st_plain rfl (op_move _ _ _ _ (congrArg (fun b => AV.v (Value.bool b)) hg1_6) rfl),
      st_skip 6 19 _ false rfl rfl rfl rfl (List.Mem.head _),
      st_skip 6 19 _ false rfl rfl rfl rfl (List.Mem.head _),
      st_plain rfl (op_pick _ _ true _ rfl rfl),
      st_plain rfl (op_move _ _ _ _ rfl rfl),
      st_skip 10 23 _ false rfl rfl rfl rfl (List.Mem.head _),
      st_skip 10 23 _ false rfl rfl rfl rfl (List.Mem.head _),
      st_skip 10 23 _ false rfl rfl rfl rfl (List.Mem.head _),
      st_skip 10 23 _ false rfl rfl rfl rfl (List.Mem.head _),
      st_skip 10 23 _ false rfl rfl rfl rfl (List.Mem.head _),
      st_plain rfl (op_pick _ _ true _ rfl rfl),
      trivial⟩ ?_
     exact hl4 _ (Option.some.inj h).symm
    ·refine cond_some h (fun hg1_10 h => ?_) (fun hg1_10 h => ?_)
     ·refine ht_seqR hn (El := (_ :: _ :: _ :: (13, .v (.int .i64 n)) :: (14, .v (.bool ((decide (n < 0))))) :: (15, .v (.bool false)) :: (16, .v (.int .i64 n)) :: (17, .v (.bool ((decide (24 < n))))) :: (18, .v (.bool ((decide (24 < n))))) :: (19, .v (.bool false)) :: (20, .v (.int .i64 at_)) :: (21, .v (.bool ((decide (at_ < 0))))) :: (22, .v (.bool ((decide (at_ < 0))))) :: (23, .v (.bool true)) :: (24, .v undef) :: (25, .v undef) :: (26, .v undef) :: (27, .v undef) :: (28, .v undef) :: (29, .v (.bool true)) :: [])) (init := [0, 1, 2]) (fin := [0, 1, 2, 19]) (sps := (⟨[2], [], [3], [(.slot 13)]⟩ :: ⟨[3], [], [4], [(.slot 14)]⟩ :: ⟨[4], [], [5], [(.slot 15)]⟩ :: ⟨[5, 2], [], [6], [(.slot 16)]⟩ :: ⟨[5, 6], [], [7], [(.slot 17)]⟩ :: ⟨[5, 7], [], [8], [(.slot 18)]⟩ :: ⟨[8], [], [9], [(.slot 19)]⟩ :: ⟨[9, 1], [], [10], [(.slot 20)]⟩ :: ⟨[9, 10], [], [11], [(.slot 21)]⟩ :: ⟨[9, 11], [], [12], [(.slot 22)]⟩ :: ⟨[12], [], [13], [(.slot 23)]⟩ :: ⟨[13], [], [14], [(.slot 24)]⟩ :: ⟨[13], [], [15], [(.slot 25)]⟩ :: ⟨[13], [], [16], [(.slot 26)]⟩ :: ⟨[13], [], [17], [(.slot 27)]⟩ :: ⟨[13], [], [18], [(.slot 28)]⟩ :: ⟨[13], [], [19], [(.slot 29)]⟩ :: [])) (es' := [(_, _), (_, _), (_, _), (29, .v (.bool true))]) (by kernel_rfl) rfl rfl
       ⟨st_plain rfl (op_move _ _ _ _ rfl rfl),
       st_plain rfl (op_bin _ _ _ _ _ rfl rfl rfl),
       st_plain rfl (op_move _ _ _ _ (congrArg (fun b => AV.v (Value.bool b)) hg1_2) rfl),
       st_run 2 15 false rfl rfl rfl (List.Mem.head _) (op_move _ _ _ _ rfl rfl),
       st_run 2 15 false rfl rfl rfl (List.Mem.head _) (op_bin _ _ _ _ _ rfl rfl rfl),
       st_plain rfl (op_pick _ _ false _ rfl rfl),
       st_plain rfl (op_move _ _ _ _ (congrArg (fun b => AV.v (Value.bool b)) hg1_6) rfl),
       st_run 6 19 false rfl rfl rfl (List.Mem.head _) (op_move _ _ _ _ rfl rfl),
       st_run 6 19 false rfl rfl rfl (List.Mem.head _) (op_bin _ _ _ _ _ rfl rfl rfl),
       st_plain rfl (op_pick _ _ false _ rfl rfl),
       st_plain rfl (op_move _ _ _ _ (congrArg (fun b => AV.v (Value.bool b)) hg1_10) rfl),
       st_skip 10 23 _ false rfl rfl rfl rfl (List.Mem.head _),
       st_skip 10 23 _ false rfl rfl rfl rfl (List.Mem.head _),
       st_skip 10 23 _ false rfl rfl rfl rfl (List.Mem.head _),
       st_skip 10 23 _ false rfl rfl rfl rfl (List.Mem.head _),
       st_skip 10 23 _ false rfl rfl rfl rfl (List.Mem.head _),
       st_plain rfl (op_pick _ _ true _ rfl rfl),
       trivial⟩ ?_
      exact hl4 _ (Option.some.inj h).symm
     ·obtain ⟨v1, hv1, h⟩ := bind_some h
      refine ht_seqR hn (El := (_ :: _ :: _ :: (13, .v (.int .i64 n)) :: (14, .v (.bool ((decide (n < 0))))) :: (15, .v (.bool false)) :: (16, .v (.int .i64 n)) :: (17, .v (.bool ((decide (24 < n))))) :: (18, .v (.bool ((decide (24 < n))))) :: (19, .v (.bool false)) :: (20, .v (.int .i64 at_)) :: (21, .v (.bool ((decide (at_ < 0))))) :: (22, .v (.bool ((decide (at_ < 0))))) :: (23, .v (.bool false)) :: (24, .v (.int .i64 at_)) :: (25, .fl .shr 1 (List.map (Value.int .u8) b)) :: (26, .v (.int .i64 (b.length : Int))) :: (27, .v (.int .i64 v1)) :: (28, .v (.bool ((decide (v1 < at_))))) :: (29, .v (.bool ((decide (v1 < at_))))) :: [])) (init := [0, 1, 2]) (fin := [0, 1, 2, 19]) (sps := (⟨[2], [], [3], [(.slot 13)]⟩ :: ⟨[3], [], [4], [(.slot 14)]⟩ :: ⟨[4], [], [5], [(.slot 15)]⟩ :: ⟨[5, 2], [], [6], [(.slot 16)]⟩ :: ⟨[5, 6], [], [7], [(.slot 17)]⟩ :: ⟨[5, 7], [], [8], [(.slot 18)]⟩ :: ⟨[8], [], [9], [(.slot 19)]⟩ :: ⟨[9, 1], [], [10], [(.slot 20)]⟩ :: ⟨[9, 10], [], [11], [(.slot 21)]⟩ :: ⟨[9, 11], [], [12], [(.slot 22)]⟩ :: ⟨[12], [], [13], [(.slot 23)]⟩ :: ⟨[13, 1], [], [14], [(.slot 24)]⟩ :: ⟨[13, 0], [], [15], [(.slot 25)]⟩ :: ⟨[13, 15], [], [16], [(.slot 26)]⟩ :: ⟨[13, 16], [], [17], [(.slot 27)]⟩ :: ⟨[13, 14, 17], [], [18], [(.slot 28)]⟩ :: ⟨[13, 18], [], [19], [(.slot 29)]⟩ :: [])) (es' := [(_, _), (_, _), (_, _), (29, .v (.bool ((decide (v1 < at_)))))]) (by kernel_rfl) rfl rfl
       ⟨st_plain rfl (op_move _ _ _ _ rfl rfl),
       st_plain rfl (op_bin _ _ _ _ _ rfl rfl rfl),
       st_plain rfl (op_move _ _ _ _ (congrArg (fun b => AV.v (Value.bool b)) hg1_2) rfl),
       st_run 2 15 false rfl rfl rfl (List.Mem.head _) (op_move _ _ _ _ rfl rfl),
       st_run 2 15 false rfl rfl rfl (List.Mem.head _) (op_bin _ _ _ _ _ rfl rfl rfl),
       st_plain rfl (op_pick _ _ false _ rfl rfl),
       st_plain rfl (op_move _ _ _ _ (congrArg (fun b => AV.v (Value.bool b)) hg1_6) rfl),
       st_run 6 19 false rfl rfl rfl (List.Mem.head _) (op_move _ _ _ _ rfl rfl),
       st_run 6 19 false rfl rfl rfl (List.Mem.head _) (op_bin _ _ _ _ _ rfl rfl rfl),
       st_plain rfl (op_pick _ _ false _ rfl rfl),
       st_plain rfl (op_move _ _ _ _ (congrArg (fun b => AV.v (Value.bool b)) hg1_10) rfl),
       st_run 10 23 false rfl rfl rfl (List.Mem.head _) (op_move _ _ _ _ rfl rfl),
       st_run 10 23 false rfl rfl rfl (List.Mem.head _) (op_move _ _ _ _ rfl rfl),
       st_run 10 23 false rfl rfl rfl (List.Mem.head _) (op_len_fl _ _ _ Tryd.underlying22 rfl (by decide) (map_len _)),
       st_run 10 23 false rfl rfl rfl (List.Mem.head _) (op_bin _ _ _ _ _ rfl rfl (ibind (f := Value.int .i64) (Option.some.inj hv1))),
       st_run 10 23 false rfl rfl rfl (List.Mem.head _) (op_bin _ _ _ _ _ rfl rfl rfl),
       st_plain rfl (op_pick _ _ false _ rfl rfl),
       trivial⟩ ?_
      exact hl4 _ (Option.some.inj h).symm

set_option maxHeartbeats 1000000 in
theorem ok_grow_stream_number (s : T_grow_stream) (n : Int) (r : (Int × Int × T_grow_stream)) (h : Sh.grow_stream_number s n = some r) : FnP Tryd.prog 58 [.box 59 [.fl .shr 1 (List.map (Value.int .u8) s.b), .v (.int .i64 s.at_), .fl (.own 5) 1 (List.map (Value.int .u8) s.out), .v (.int .i64 s.most), .v (.int .i64 s.blocks)], .v (.int .i64 n)] [.box 59 [.fl .shr 1 (List.map (Value.int .u8) r.2.2.b), .v (.int .i64 r.2.2.at_), .fl (.own 5) 1 (List.map (Value.int .u8) r.2.2.out), .v (.int .i64 r.2.2.most), .v (.int .i64 r.2.2.blocks)]] (.tup [.v (.int .i64 r.1), .v (.int .i64 r.2.1)]) := by
  unfold Sh.grow_stream_number at h
  refine fn_okP Tryd.func58 rfl (Nat.le_of_ble_eq_true rfl) rfl (Nat.le_of_ble_eq_true rfl) fun args0 hargs0 g0 hn hio => ?_
  refine ht_seq ?_
  refine ht_seqR hn (El := [_, _, _, (4, .v (.int .i64 0)), (5, .v (.int .i64 0))]) (init := [0, 1, 2]) (fin := [0, 1, 2]) (sps := [⟨[], [], [3], [(.slot 4)]⟩, ⟨[], [], [4], [(.slot 5)]⟩]) (es' := [(_, _), (_, _), (_, _)]) (by kernel_rfl) rfl rfl
   ⟨st_plain rfl (op_assign _ _ _ _ rfl rfl),
   st_plain rfl (op_assign _ _ _ _ rfl rfl),
   trivial⟩ ?_
  refine pt_then ?_
  refine ht_seq ?_
  obtain ⟨v1, hv1, h⟩ := bind_some h
  refine ht_anyR (by kernel_rfl) hn (El := (_ :: _ :: _ :: (10, .same (.slot 0)) :: (11, .ptr 0 0) :: (12, .ptr 0 0) :: (13, .fl .shr 1 (List.map (Value.int .u8) s.b)) :: (14, .same (.slot 0)) :: (15, .ptr 0 0) :: (16, .ptr 0 1) :: (17, .v (.int .i64 s.at_)) :: (18, .v (.int .i64 n)) :: (19, .tup [.v (.int .i64 v1.1), .v (.int .i64 v1.2.1), .v (.int .i64 v1.2.2)]) :: (9, .tup [.v (.int .i64 v1.1), .v (.int .i64 v1.2.1), .v (.int .i64 v1.2.2)]) :: (20, .v (.int .i64 v1.1)) :: (21, .v (.int .i64 v1.2.1)) :: (22, .v (.int .i64 v1.2.2)) :: (6, .v (.int .i64 v1.1)) :: (7, .v (.int .i64 v1.2.1)) :: (8, .v (.int .i64 v1.2.2)) :: [])) (init := [0, 1, 2]) (fin := [0, 2, 17, 18, 19]) (sps := (⟨[], [], [3], [(.slot 10)]⟩ :: ⟨[3, 0], [], [4], [(.slot 11)]⟩ :: ⟨[4, 0], [], [5], [(.slot 12)]⟩ :: ⟨[5, 0], [], [6], [(.slot 13)]⟩ :: ⟨[], [], [7], [(.slot 14)]⟩ :: ⟨[7, 0], [], [8], [(.slot 15)]⟩ :: ⟨[8, 0], [], [9], [(.slot 16)]⟩ :: ⟨[9, 0], [], [10], [(.slot 17)]⟩ :: ⟨[1], [], [11], [(.slot 18)]⟩ :: ⟨[6, 10, 11], [], [12], [(.slot 19)]⟩ :: ⟨[], [12], [13], [(.slot 9)]⟩ :: ⟨[13], [], [14], [(.slot 20)]⟩ :: ⟨[13], [], [15], [(.slot 21)]⟩ :: ⟨[13], [], [16], [(.slot 22)]⟩ :: ⟨[14], [], [17], [(.slot 6)]⟩ :: ⟨[15], [], [18], [(.slot 7)]⟩ :: ⟨[16], [], [19], [(.slot 8)]⟩ :: [])) (es' := [(_, _), (_, _), (6, .v (.int .i64 v1.1)), (7, .v (.int .i64 v1.2.1)), (8, .v (.int .i64 v1.2.2))]) (by kernel_rfl) rfl rfl
   ⟨st_plain rfl (op_move_name _ _ _ rfl),
   st_plain rfl (op_nilCheck_name _ _ _ 0 rfl rfl (by decide)),
   st_plain rfl (op_fieldAddr _ _ _ _ 0 0 _ Tryd.underlying59 rfl sz22 rfl rfl (by decide)),
   st_plain rfl (op_load _ _ _ _ _ _ Tryd.underlying22 rfl rfl rfl (Nat.le_of_ble_eq_true rfl) rfl rfl rfl),
   st_plain rfl (op_move_name _ _ _ rfl),
   st_plain rfl (op_nilCheck_name _ _ _ 0 rfl rfl (by decide)),
   st_plain rfl (op_fieldAddr _ _ _ _ 0 0 _ Tryd.underlying59 rfl sz3 rfl rfl (by decide)),
   st_plain rfl (op_load _ _ _ _ _ _ Tryd.underlying3 rfl rfl rfl (Nat.le_of_ble_eq_true rfl) rfl rfl rfl),
   st_plain rfl (op_move _ _ _ _ rfl rfl),
   st_plain rfl (op_call _ _ 76 _ _ rfl Tryd.call76 rfl (ok_bits_Get s.b s.at_ n _ hv1) rfl rfl),
   st_plain rfl (op_move_take _ _ _ _ rfl),
   st_plain rfl (op_extract _ _ _ _ _ rfl rfl (Nat.le_of_ble_eq_true rfl) rfl rfl),
   st_plain rfl (op_extract _ _ _ _ _ rfl rfl (Nat.le_of_ble_eq_true rfl) rfl rfl),
   st_plain rfl (op_extract _ _ _ _ _ rfl rfl (Nat.le_of_ble_eq_true rfl) rfl rfl),
   st_plain rfl (op_assign _ _ _ _ rfl rfl),
   st_plain rfl (op_assign _ _ _ _ rfl rfl),
   st_plain rfl (op_assign _ _ _ _ rfl rfl),
   trivial⟩ ?_
  refine pt_then ?_
  refine ht_seq ?_
  refine ht_seq ?_
  refine ht_seqR hn (El := [_, _, _, _, _, (23, .v (.int .i64 v1.2.2)), (24, .v (.bool (v1.2.2 != 0)))]) (init := [0, 1, 2, 3, 4]) (fin := [0, 1, 2, 3, 4, 6]) (sps := [⟨[4], [], [5], [(.slot 23)]⟩, ⟨[5], [], [6], [(.slot 24)]⟩]) (es' := [(_, _), (_, _), (_, _), (_, _), (_, _), (24, .v (.bool (v1.2.2 != 0)))]) (by kernel_rfl) rfl rfl
   ⟨st_plain rfl (op_move _ _ _ _ rfl rfl),
   st_plain rfl (op_bin _ _ _ _ _ rfl rfl rfl),
   trivial⟩ ?_
  refine pt_then ?_
  refine ht_cond _ rfl (fun hb2 => ?_) (fun hb2 => ?_)
  ·have h := cond_t hb2 h
   refine ht_seq ?_
   refine ht_seqR hn (El := [_, _, _, _, _, _, (25, .v (.int .i64 v1.2.2)), (4, .v (.int .i64 0)), (5, .v (.int .i64 v1.2.2))]) (init := [0, 1, 2, 3, 4, 5]) (fin := [0, 1, 7, 8]) (sps := [⟨[4], [], [6], [(.slot 25)]⟩, ⟨[], [], [7], [(.slot 4)]⟩, ⟨[6], [], [8], [(.slot 5)]⟩]) (es' := [(_, _), (_, _), (4, .v (.int .i64 0)), (5, .v (.int .i64 v1.2.2))]) (by kernel_rfl) rfl rfl
    ⟨st_plain rfl (op_move _ _ _ _ rfl rfl),
    st_plain rfl (op_assign _ _ _ _ rfl rfl),
    st_plain rfl (op_assign _ _ _ _ rfl rfl),
    trivial⟩ ?_
   refine pt_then ?_
   refine ht_ret ?_
   refine pt_pick [2, 3, 0, 1] (by kernel_rfl) (es' := [(_, _), (_, _), (_, _), (_, _)]) rfl ?_
   refine pt_r_then ?_
   obtain rfl := Option.some.inj h
   exact pt_retP (es := [(4, .v (.int .i64 0)), (5, .v (.int .i64 v1.2.2))]) (posts := [.box 59 [.fl .shr 1 (List.map (Value.int .u8) s.b), .v (.int .i64 s.at_), .fl (.own 5) 1 (List.map (Value.int .u8) s.out), .v (.int .i64 s.most), .v (.int .i64 s.blocks)]]) hio rfl rfl (.tmp _ _ (.tmp _ _ .nil)) rfl rfl hargs0 rfl
  ·have h := cond_f hb2 h
   refine ht_skip ?_
   refine pt_then ?_
   refine ht_seq ?_
   refine ht_seqR hn (El := [_, _, _, _, _, _, (26, .ptr 0 0), (27, .v (.int .i64 v1.2.1)), (28, .ptr 0 0), (29, .ptr 0 1), (0, .box 59 [.fl .shr 1 (List.map (Value.int .u8) s.b), .v (.int .i64 v1.2.1), .fl (.own 5) 1 (List.map (Value.int .u8) s.out), .v (.int .i64 s.most), .v (.int .i64 s.blocks)])]) (init := [0, 1, 2, 3, 4, 5]) (fin := [10, 1, 2]) (sps := [⟨[0], [], [6], [(.slot 26)]⟩, ⟨[3], [], [7], [(.slot 27)]⟩, ⟨[6, 0], [], [8], [(.slot 28)]⟩, ⟨[8, 0], [], [9], [(.slot 29)]⟩, ⟨[9, 7], [0], [10], [.cell 0 1]⟩]) (es' := [(0, .box 59 [.fl .shr 1 (List.map (Value.int .u8) s.b), .v (.int .i64 v1.2.1), .fl (.own 5) 1 (List.map (Value.int .u8) s.out), .v (.int .i64 s.most), .v (.int .i64 s.blocks)]), (_, _), (_, _)]) (by kernel_rfl) rfl rfl
    ⟨st_plain rfl (op_move _ _ _ _ rfl rfl),
    st_plain rfl (op_move _ _ _ _ rfl rfl),
    st_plain rfl (op_nilCheck _ _ _ 0 0 rfl (by decide)),
    st_plain rfl (op_fieldAddr _ _ _ _ 0 0 _ Tryd.underlying59 rfl sz3 rfl rfl (by decide)),
    st_plain rfl (op_store _ _ _ _ _ _ _ _ sz3 rfl rfl rfl rfl (Nat.le_of_ble_eq_true rfl) rfl rfl),
    trivial⟩ ?_
   refine pt_then ?_
   refine ht_seq ?_
   refine ht_seqR hn (El := [_, _, _, (30, .v (.int .i64 v1.1)), (4, .v (.int .i64 v1.1)), (5, .v (.int .i64 0))]) (init := [0, 1, 2]) (fin := [0, 1, 4, 5]) (sps := [⟨[2], [], [3], [(.slot 30)]⟩, ⟨[3], [], [4], [(.slot 4)]⟩, ⟨[], [], [5], [(.slot 5)]⟩]) (es' := [(_, _), (_, _), (4, .v (.int .i64 v1.1)), (5, .v (.int .i64 0))]) (by kernel_rfl) rfl rfl
    ⟨st_plain rfl (op_move _ _ _ _ rfl rfl),
    st_plain rfl (op_assign _ _ _ _ rfl rfl),
    st_plain rfl (op_assign _ _ _ _ rfl rfl),
    trivial⟩ ?_
   refine pt_then ?_
   refine ht_ret ?_
   refine pt_pick [2, 3, 0, 1] (by kernel_rfl) (es' := [(_, _), (_, _), (_, _), (_, _)]) rfl ?_
   obtain rfl := Option.some.inj h
   exact pt_retP (es := [(4, .v (.int .i64 v1.1)), (5, .v (.int .i64 0))]) (posts := [.box 59 [.fl .shr 1 (List.map (Value.int .u8) s.b), .v (.int .i64 v1.2.1), .fl (.own 5) 1 (List.map (Value.int .u8) s.out), .v (.int .i64 s.most), .v (.int .i64 s.blocks)]]) hio rfl rfl (.tmp _ _ (.tmp _ _ .nil)) rfl rfl hargs0 rfl

set_option maxHeartbeats 1000000 in
theorem ok_grow_stream_pad (s : T_grow_stream) (r : (Int × T_grow_stream)) (h : Sh.grow_stream_pad s = some r) : FnP Tryd.prog 62 [.box 59 [.fl .shr 1 (List.map (Value.int .u8) s.b), .v (.int .i64 s.at_), .fl (.own 5) 1 (List.map (Value.int .u8) s.out), .v (.int .i64 s.most), .v (.int .i64 s.blocks)]] [.box 59 [.fl .shr 1 (List.map (Value.int .u8) r.2.b), .v (.int .i64 r.2.at_), .fl (.own 5) 1 (List.map (Value.int .u8) r.2.out), .v (.int .i64 r.2.most), .v (.int .i64 r.2.blocks)]] (.v (.int .i64 r.1)) := by
  unfold Sh.grow_stream_pad at h
  refine fn_okP Tryd.func62 rfl (Nat.le_of_ble_eq_true rfl) rfl (Nat.le_of_ble_eq_true rfl) fun args0 hargs0 g0 hn hio => ?_
  refine ht_seq ?_
  refine ht_seqR hn (El := [_, _, (2, .v (.int .i64 0))]) (init := [0, 1]) (fin := [0, 1]) (sps := [⟨[], [], [2], [(.slot 2)]⟩]) (es' := [(_, _), (_, _)]) (by kernel_rfl) rfl rfl
   ⟨st_plain rfl (op_assign _ _ _ _ rfl rfl),
   trivial⟩ ?_
  refine pt_then ?_
  refine ht_seq ?_
  obtain ⟨v1, hv1, h⟩ := bind_some h
  obtain ⟨v2, hv2, h⟩ := bind_some h
  obtain ⟨v3, hv3, h⟩ := bind_some h
  obtain ⟨v4, hv4, h⟩ := bind_some h
  refine ht_seqR hn (El := (_ :: _ :: (6, .ptr 0 0) :: (7, .ptr 0 0) :: (8, .ptr 0 0) :: (9, .ptr 0 1) :: (10, .v (.int .i64 s.at_)) :: (11, .v (.int .i64 v1)) :: (12, .v (.int .i64 v2)) :: (13, .v (.int .i64 v3)) :: (14, .tup [.v (.int .i64 v4.1), .v (.int .i64 v4.2.1)]) :: (0, .box 59 [.fl .shr 1 (List.map (Value.int .u8) v4.2.2.b), .v (.int .i64 v4.2.2.at_), .fl (.own 5) 1 (List.map (Value.int .u8) v4.2.2.out), .v (.int .i64 v4.2.2.most), .v (.int .i64 v4.2.2.blocks)]) :: (5, .tup [.v (.int .i64 v4.1), .v (.int .i64 v4.2.1)]) :: (15, .v (.int .i64 v4.1)) :: (16, .v (.int .i64 v4.2.1)) :: (3, .v (.int .i64 v4.1)) :: (4, .v (.int .i64 v4.2.1)) :: [])) (init := [0, 1]) (fin := [11, 1, 15, 16]) (sps := [⟨[0], [], [2], [(.slot 6)]⟩, ⟨[0], [], [3], [(.slot 7)]⟩, ⟨[3, 0], [], [4], [(.slot 8)]⟩, ⟨[4, 0], [], [5], [(.slot 9)]⟩, ⟨[5, 0], [], [6], [(.slot 10)]⟩, ⟨[6], [], [7], [(.slot 11)]⟩, ⟨[7], [], [8], [(.slot 12)]⟩, ⟨[8], [], [9], [(.slot 13)]⟩, ⟨[2, 9], [0], [11, 10], [(.slot 14), (.cell 0 0), (.cell 0 1), (.cell 0 2), (.cell 0 3), (.cell 0 4)]⟩, ⟨[], [10], [12], [(.slot 5)]⟩, ⟨[12], [], [13], [(.slot 15)]⟩, ⟨[12], [], [14], [(.slot 16)]⟩, ⟨[13], [], [15], [(.slot 3)]⟩, ⟨[14], [], [16], [(.slot 4)]⟩]) (es' := [(0, .box 59 [.fl .shr 1 (List.map (Value.int .u8) v4.2.2.b), .v (.int .i64 v4.2.2.at_), .fl (.own 5) 1 (List.map (Value.int .u8) v4.2.2.out), .v (.int .i64 v4.2.2.most), .v (.int .i64 v4.2.2.blocks)]), (_, _), (3, .v (.int .i64 v4.1)), (4, .v (.int .i64 v4.2.1))]) (by kernel_rfl) rfl rfl
   ⟨st_plain rfl (op_move _ _ _ _ rfl rfl),
   st_plain rfl (op_move _ _ _ _ rfl rfl),
   st_plain rfl (op_nilCheck _ _ _ 0 0 rfl (by decide)),
   st_plain rfl (op_fieldAddr _ _ _ _ 0 0 _ Tryd.underlying59 rfl sz3 rfl rfl (by decide)),
   st_plain rfl (op_load _ _ _ _ _ _ Tryd.underlying3 rfl rfl rfl (Nat.le_of_ble_eq_true rfl) rfl rfl rfl),
   st_plain rfl (op_bin _ _ _ _ _ rfl rfl (rem_ok hv1)),
   st_plain rfl (op_bin _ _ _ _ _ rfl rfl (ibind (f := Value.int .i64) (Option.some.inj hv2))),
   st_plain rfl (op_bin _ _ _ _ _ rfl rfl (rem_ok hv3)),
   st_plain rfl (op_callPS _ _ _ _ 14 58 [.tmp 6] [.tmp 13] _ _ _ rfl Tryd.call58 rfl rfl rfl (ok_grow_stream_number s v3 _ hv4) (Nat.le_of_ble_eq_true rfl) rfl rfl rfl rfl rfl rfl rfl),
   st_plain rfl (op_move_take _ _ _ _ rfl),
   st_plain rfl (op_extract _ _ _ _ _ rfl rfl (Nat.le_of_ble_eq_true rfl) rfl rfl),
   st_plain rfl (op_extract _ _ _ _ _ rfl rfl (Nat.le_of_ble_eq_true rfl) rfl rfl),
   st_plain rfl (op_assign _ _ _ _ rfl rfl),
   st_plain rfl (op_assign _ _ _ _ rfl rfl),
   trivial⟩ ?_
  refine pt_then ?_
  refine ht_seq ?_
  refine ht_seq ?_
  refine ht_seqR hn (El := [_, _, _, _, (17, .v (.int .i64 v4.2.1)), (18, .v (.bool (v4.2.1 != 0)))]) (init := [0, 1, 2, 3]) (fin := [0, 1, 2, 3, 5]) (sps := [⟨[3], [], [4], [(.slot 17)]⟩, ⟨[4], [], [5], [(.slot 18)]⟩]) (es' := [(_, _), (_, _), (_, _), (_, _), (18, .v (.bool (v4.2.1 != 0)))]) (by kernel_rfl) rfl rfl
   ⟨st_plain rfl (op_move _ _ _ _ rfl rfl),
   st_plain rfl (op_bin _ _ _ _ _ rfl rfl rfl),
   trivial⟩ ?_
  refine pt_then ?_
  refine ht_cond _ rfl (fun hb5 => ?_) (fun hb5 => ?_)
  ·have h := cond_t hb5 h
   refine ht_seq ?_
   refine ht_seqR hn (El := [_, _, _, _, _, (19, .v (.int .i64 v4.2.1)), (2, .v (.int .i64 v4.2.1))]) (init := [0, 1, 2, 3, 4]) (fin := [0, 1, 6]) (sps := [⟨[3], [], [5], [(.slot 19)]⟩, ⟨[5], [], [6], [(.slot 2)]⟩]) (es' := [(_, _), (_, _), (2, .v (.int .i64 v4.2.1))]) (by kernel_rfl) rfl rfl
    ⟨st_plain rfl (op_move _ _ _ _ rfl rfl),
    st_plain rfl (op_assign _ _ _ _ rfl rfl),
    trivial⟩ ?_
   refine pt_then ?_
   refine ht_ret ?_
   refine pt_pick [2, 0, 1] (by kernel_rfl) (es' := [(_, _), (_, _), (_, _)]) rfl ?_
   refine pt_r_then ?_
   obtain rfl := Option.some.inj h
   exact pt_retP (es := [(2, .v (.int .i64 v4.2.1))]) (posts := [.box 59 [.fl .shr 1 (List.map (Value.int .u8) v4.2.2.b), .v (.int .i64 v4.2.2.at_), .fl (.own 5) 1 (List.map (Value.int .u8) v4.2.2.out), .v (.int .i64 v4.2.2.most), .v (.int .i64 v4.2.2.blocks)]]) hio rfl rfl (.tmp _ _ .nil) rfl rfl hargs0 rfl
  ·have h := cond_f hb5 h
   refine ht_skip ?_
   refine pt_then ?_
   refine ht_seq ?_
   refine ht_seq ?_
   refine ht_seqR hn (El := [_, _, _, _, _, (20, .v (.int .i64 v4.1)), (21, .v (.bool (v4.1 != 0)))]) (init := [0, 1, 2, 3, 4]) (fin := [0, 1, 6]) (sps := [⟨[2], [], [5], [(.slot 20)]⟩, ⟨[5], [], [6], [(.slot 21)]⟩]) (es' := [(_, _), (_, _), (21, .v (.bool (v4.1 != 0)))]) (by kernel_rfl) rfl rfl
    ⟨st_plain rfl (op_move _ _ _ _ rfl rfl),
    st_plain rfl (op_bin _ _ _ _ _ rfl rfl rfl),
    trivial⟩ ?_
   refine pt_then ?_
   refine ht_cond _ rfl (fun hb6 => ?_) (fun hb6 => ?_)
   ·have h := cond_t hb6 h
    refine ht_seq ?_
    refine ht_seqR hn (El := [_, _, _, (2, .v (.int .i64 3))]) (init := [0, 1, 2]) (fin := [0, 1, 3]) (sps := [⟨[], [], [3], [(.slot 2)]⟩]) (es' := [(_, _), (_, _), (2, .v (.int .i64 3))]) (by kernel_rfl) rfl rfl
     ⟨st_plain rfl (op_assign _ _ _ _ rfl rfl),
     trivial⟩ ?_
    refine pt_then ?_
    refine ht_ret ?_
    refine pt_pick [2, 0, 1] (by kernel_rfl) (es' := [(_, _), (_, _), (_, _)]) rfl ?_
    refine pt_r_then ?_
    obtain rfl := Option.some.inj h
    exact pt_retP (es := [(2, .v (.int .i64 3))]) (posts := [.box 59 [.fl .shr 1 (List.map (Value.int .u8) v4.2.2.b), .v (.int .i64 v4.2.2.at_), .fl (.own 5) 1 (List.map (Value.int .u8) v4.2.2.out), .v (.int .i64 v4.2.2.most), .v (.int .i64 v4.2.2.blocks)]]) hio rfl rfl (.tmp _ _ .nil) rfl rfl hargs0 rfl
   ·have h := cond_f hb6 h
    refine ht_skip ?_
    refine pt_then ?_
    refine ht_seq ?_
    refine ht_seqR hn (El := [_, _, _, (2, .v (.int .i64 0))]) (init := [0, 1, 2]) (fin := [0, 1, 3]) (sps := [⟨[], [], [3], [(.slot 2)]⟩]) (es' := [(_, _), (_, _), (2, .v (.int .i64 0))]) (by kernel_rfl) rfl rfl
     ⟨st_plain rfl (op_assign _ _ _ _ rfl rfl),
     trivial⟩ ?_
    refine pt_then ?_
    refine ht_ret ?_
    refine pt_pick [2, 0, 1] (by kernel_rfl) (es' := [(_, _), (_, _), (_, _)]) rfl ?_
    obtain rfl := Option.some.inj h
    exact pt_retP (es := [(2, .v (.int .i64 0))]) (posts := [.box 59 [.fl .shr 1 (List.map (Value.int .u8) v4.2.2.b), .v (.int .i64 v4.2.2.at_), .fl (.own 5) 1 (List.map (Value.int .u8) v4.2.2.out), .v (.int .i64 v4.2.2.most), .v (.int .i64 v4.2.2.blocks)]]) hio rfl rfl (.tmp _ _ .nil) rfl rfl hargs0 rfl

set_option maxHeartbeats 1000000 in
theorem ok_grow_stream_literal (s : T_grow_stream) (x : Int) (r : (Int × T_grow_stream)) (h : Sh.grow_stream_literal s x = some r) : FnP Tryd.prog 77 [.box 59 [.fl .shr 1 (List.map (Value.int .u8) s.b), .v (.int .i64 s.at_), .fl (.own 5) 1 (List.map (Value.int .u8) s.out), .v (.int .i64 s.most), .v (.int .i64 s.blocks)], .v (.int .i64 x)] [.box 59 [.fl .shr 1 (List.map (Value.int .u8) r.2.b), .v (.int .i64 r.2.at_), .fl (.own 5) 1 (List.map (Value.int .u8) r.2.out), .v (.int .i64 r.2.most), .v (.int .i64 r.2.blocks)]] (.v (.int .i64 r.1)) := by
  unfold Sh.grow_stream_literal at h
  refine fn_okP Tryd.func77 rfl (Nat.le_of_ble_eq_true rfl) rfl (Nat.le_of_ble_eq_true rfl) fun args0 hargs0 g0 hn hio => ?_
  refine ht_seq ?_
  refine ht_seqR hn (El := [_, _, _, (4, .v (.int .i64 0))]) (init := [0, 1, 2]) (fin := [0, 1, 2]) (sps := [⟨[], [], [3], [(.slot 4)]⟩]) (es' := [(_, _), (_, _), (_, _)]) (by kernel_rfl) rfl rfl
   ⟨st_plain rfl (op_assign _ _ _ _ rfl rfl),
   trivial⟩ ?_
  refine pt_then ?_
  refine ht_seq ?_
  refine ht_seq ?_
  obtain ⟨v1, hv1, h⟩ := bind_some h
  refine ht_anyR (by kernel_rfl) hn (El := [_, _, _, (5, .same (.slot 0)), (6, .ptr 0 0), (7, .ptr 0 2), (8, .same (.cell 0 2)), (9, .v (.int .i64 (s.out.length : Int))), (10, .v (.int .i64 v1)), (11, .same (.slot 0)), (12, .ptr 0 0), (13, .ptr 0 3), (14, .v (.int .i64 s.most)), (15, .v (.bool ((decide (s.most < v1)))))]) (init := [0, 1, 2]) (fin := [0, 1, 2, 13]) (sps := [⟨[], [], [3], [(.slot 5)]⟩, ⟨[3, 0], [], [4], [(.slot 6)]⟩, ⟨[4, 0], [], [5], [(.slot 7)]⟩, ⟨[5, 0], [], [6], [(.slot 8)]⟩, ⟨[6, 0], [], [7], [(.slot 9)]⟩, ⟨[7], [], [8], [(.slot 10)]⟩, ⟨[], [], [9], [(.slot 11)]⟩, ⟨[9, 0], [], [10], [(.slot 12)]⟩, ⟨[10, 0], [], [11], [(.slot 13)]⟩, ⟨[11, 0], [], [12], [(.slot 14)]⟩, ⟨[8, 12], [], [13], [(.slot 15)]⟩]) (es' := [(_, _), (_, _), (_, _), (15, .v (.bool ((decide (s.most < v1)))))]) (by kernel_rfl) rfl rfl
   ⟨st_plain rfl (op_move_name _ _ _ rfl),
   st_plain rfl (op_nilCheck_name _ _ _ 0 rfl rfl (by decide)),
   st_plain rfl (op_fieldAddr _ _ _ _ 0 0 _ Tryd.underlying59 rfl sz22 rfl rfl (by decide)),
   st_plain rfl (op_load _ _ _ _ _ _ Tryd.underlying22 rfl rfl rfl (Nat.le_of_ble_eq_true rfl) rfl rfl rfl),
   st_plain rfl (op_len_fl _ _ _ Tryd.underlying22 rfl (by decide) (map_len _)),
   st_plain rfl (op_bin _ _ _ _ _ rfl rfl (ibind (f := Value.int .i64) (Option.some.inj hv1))),
   st_plain rfl (op_move_name _ _ _ rfl),
   st_plain rfl (op_nilCheck_name _ _ _ 0 rfl rfl (by decide)),
   st_plain rfl (op_fieldAddr _ _ _ _ 0 0 _ Tryd.underlying59 rfl sz3 rfl rfl (by decide)),
   st_plain rfl (op_load _ _ _ _ _ _ Tryd.underlying3 rfl rfl rfl (Nat.le_of_ble_eq_true rfl) rfl rfl rfl),
   st_plain rfl (op_bin _ _ _ _ _ rfl rfl rfl),
   trivial⟩ ?_
  refine pt_then ?_
  refine ht_cond _ rfl (fun hb2 => ?_) (fun hb2 => ?_)
  ·have h := cond_t hb2 h
   refine ht_seq ?_
   refine ht_seqR hn (El := [_, _, _, _, (4, .v (.int .i64 2))]) (init := [0, 1, 2, 3]) (fin := [0, 2, 4]) (sps := [⟨[], [], [4], [(.slot 4)]⟩]) (es' := [(_, _), (_, _), (4, .v (.int .i64 2))]) (by kernel_rfl) rfl rfl
    ⟨st_plain rfl (op_assign _ _ _ _ rfl rfl),
    trivial⟩ ?_
   refine pt_then ?_
   refine ht_ret ?_
   refine pt_pick [2, 0, 1] (by kernel_rfl) (es' := [(_, _), (_, _), (_, _)]) rfl ?_
   refine pt_r_then ?_
   obtain rfl := Option.some.inj h
   exact pt_retP (es := [(4, .v (.int .i64 2))]) (posts := [.box 59 [.fl .shr 1 (List.map (Value.int .u8) s.b), .v (.int .i64 s.at_), .fl (.own 5) 1 (List.map (Value.int .u8) s.out), .v (.int .i64 s.most), .v (.int .i64 s.blocks)]]) hio rfl rfl (.tmp _ _ .nil) rfl rfl hargs0 rfl
  ·have h := cond_f hb2 h
   refine ht_skip ?_
   refine pt_then ?_
   refine ht_seq ?_
   obtain ⟨v3, hv3, h⟩ := bind_some h
   obtain ⟨v4, hv4, h⟩ := bind_some h
   refine ht_seqR hn (El := (_ :: _ :: _ :: _ :: (16, .ptr 0 0) :: (17, .ptr 0 0) :: (18, .ptr 0 0) :: (19, .ptr 0 2) :: (20, .same (.cell 0 2)) :: (21, .v (.int .i64 x)) :: (22, .v (.int .u8 v3)) :: (23, .fl (.own 5) 1 (List.map (Value.int .u8) [v3])) :: (24, .fl (.own 5) 1 (List.map (Value.int .u8) v4)) :: (0, .box 59 [.fl .shr 1 (List.map (Value.int .u8) s.b), .v (.int .i64 s.at_), .any, .v (.int .i64 s.most), .v (.int .i64 s.blocks)]) :: (25, .ptr 0 0) :: (26, .ptr 0 2) :: (0, .box 59 [.fl .shr 1 (List.map (Value.int .u8) s.b), .v (.int .i64 s.at_), .fl (.own 5) 1 (List.map (Value.int .u8) v4), .v (.int .i64 s.most), .v (.int .i64 s.blocks)]) :: [])) (init := [0, 1, 2, 3]) (fin := [16, 2]) (sps := [⟨[0], [], [4], [(.slot 16)]⟩, ⟨[0], [], [5], [(.slot 17)]⟩, ⟨[5, 0], [], [6], [(.slot 18)]⟩, ⟨[6, 0], [], [7], [(.slot 19)]⟩, ⟨[7, 0], [], [8], [(.slot 20)]⟩, ⟨[1], [], [9], [(.slot 21)]⟩, ⟨[9], [], [10], [(.slot 22)]⟩, ⟨[10], [], [11], [(.slot 23)]⟩, ⟨[8, 11], [0], [13, 12], [(.slot 24)]⟩, ⟨[4, 13], [], [14], [(.slot 25)]⟩, ⟨[14, 13], [], [15], [(.slot 26)]⟩, ⟨[15], [8, 12, 13], [16], [.cell 0 2]⟩]) (es' := [(0, .box 59 [.fl .shr 1 (List.map (Value.int .u8) s.b), .v (.int .i64 s.at_), .fl (.own 5) 1 (List.map (Value.int .u8) v4), .v (.int .i64 s.most), .v (.int .i64 s.blocks)]), (_, _)]) (by kernel_rfl) rfl rfl
    ⟨st_plain rfl (op_move _ _ _ _ rfl rfl),
    st_plain rfl (op_move _ _ _ _ rfl rfl),
    st_plain rfl (op_nilCheck _ _ _ 0 0 rfl (by decide)),
    st_plain rfl (op_fieldAddr _ _ _ _ 0 0 _ Tryd.underlying59 rfl sz22 rfl rfl (by decide)),
    st_plain rfl (op_load _ _ _ _ _ _ Tryd.underlying22 rfl rfl rfl (Nat.le_of_ble_eq_true rfl) rfl rfl rfl),
    st_plain rfl (op_move _ _ _ _ rfl rfl),
    st_plain rfl ((Option.some.inj hv3) ▸ op_conv _ _ _ Tryd.underlying3 Tryd.underlying5 rfl),
    st_plain rfl (op_buildSlice _ _ 1 (.int .u8 0) (List.map (Value.int .u8) [v3]) [(0, .int .u8 v3)] Tryd.underlying22 sz5 zr5 (fun _ V w o a hv hes => by have e0 := rd_v hv hes (x := .tmp 22) rfl; simp only [List.map_toArray, List.map_cons, List.map_nil, e0]; try rfl) (litfill (by simp [Instr.fill, Value.cells]; rfl) (by simp [List.range, List.range.loop] <;> rfl)) (by simp [Value.oneCell']) rfl (by decide) (by decide) (by decide)),
    st_plain rfl (op_app_cell _ _ _ _ _ _ el22 rfl rfl (Nat.le_of_ble_eq_true rfl) rfl (map_len _) (map_len _) hv4 ((List.map_append).symm.trans (congrArg (List.map _) (app_eq hv4))) (Nat.ne_of_beq_eq_false rfl) rfl rfl),
    st_plain rfl (op_nilCheck _ _ _ 0 0 rfl (by decide)),
    st_plain rfl (op_fieldAddr _ _ _ _ 0 0 _ Tryd.underlying59 rfl sz22 rfl rfl (by decide)),
    st_plain rfl (LOp.drop [_] (op_store_take _ _ _ _ _ _ _ _ sz22 rfl rfl rfl (Nat.le_of_ble_eq_true rfl) rfl rfl)),
    trivial⟩ ?_
   refine pt_then ?_
   refine ht_seq ?_
   refine ht_seqR hn (El := [_, _, (4, .v (.int .i64 0))]) (init := [0, 1]) (fin := [0, 1, 2]) (sps := [⟨[], [], [2], [(.slot 4)]⟩]) (es' := [(_, _), (_, _), (4, .v (.int .i64 0))]) (by kernel_rfl) rfl rfl
    ⟨st_plain rfl (op_assign _ _ _ _ rfl rfl),
    trivial⟩ ?_
   refine pt_then ?_
   refine ht_ret ?_
   refine pt_pick [2, 0, 1] (by kernel_rfl) (es' := [(_, _), (_, _), (_, _)]) rfl ?_
   obtain rfl := Option.some.inj h
   exact pt_retP (es := [(4, .v (.int .i64 0))]) (posts := [.box 59 [.fl .shr 1 (List.map (Value.int .u8) s.b), .v (.int .i64 s.at_), .fl (.own 5) 1 (List.map (Value.int .u8) v4), .v (.int .i64 s.most), .v (.int .i64 s.blocks)]]) hio rfl rfl (.tmp _ _ .nil) rfl rfl hargs0 rfl

set_option maxHeartbeats 1000000 in
theorem ok_grow_stream_stored (s : T_grow_stream) (r : (Int × T_grow_stream)) (h : Sh.grow_stream_stored s = some r) : FnP Tryd.prog 59 [.box 59 [.fl .shr 1 (List.map (Value.int .u8) s.b), .v (.int .i64 s.at_), .fl (.own 5) 1 (List.map (Value.int .u8) s.out), .v (.int .i64 s.most), .v (.int .i64 s.blocks)]] [.box 59 [.fl .shr 1 (List.map (Value.int .u8) r.2.b), .v (.int .i64 r.2.at_), .fl (.own 5) 1 (List.map (Value.int .u8) r.2.out), .v (.int .i64 r.2.most), .v (.int .i64 r.2.blocks)]] (.v (.int .i64 r.1)) := by
  unfold Sh.grow_stream_stored at h
  refine fn_okP Tryd.func59 rfl (Nat.le_of_ble_eq_true rfl) rfl (Nat.le_of_ble_eq_true rfl) fun args0 hargs0 g0 hn hio => ?_
  refine ht_seq ?_
  refine ht_seqR hn (El := [_, _, (2, .v (.int .i64 0))]) (init := [0, 1]) (fin := [0, 1]) (sps := [⟨[], [], [2], [(.slot 2)]⟩]) (es' := [(_, _), (_, _)]) (by kernel_rfl) rfl rfl
   ⟨st_plain rfl (op_assign _ _ _ _ rfl rfl),
   trivial⟩ ?_
  refine pt_then ?_
  refine ht_seq ?_
  refine ht_seq ?_
  obtain ⟨v1, hv1, h⟩ := bind_some h
  refine ht_seqR hn (El := [_, _, (10, .ptr 0 0), (11, .v (.int .i64 v1.1)), (0, .box 59 [.fl .shr 1 (List.map (Value.int .u8) v1.2.b), .v (.int .i64 v1.2.at_), .fl (.own 5) 1 (List.map (Value.int .u8) v1.2.out), .v (.int .i64 v1.2.most), .v (.int .i64 v1.2.blocks)]), (3, .v (.int .i64 v1.1))]) (init := [0, 1]) (fin := [4, 1, 5]) (sps := [⟨[0], [], [2], [(.slot 10)]⟩, ⟨[2], [0], [4, 3], [(.slot 11), (.cell 0 0), (.cell 0 1), (.cell 0 2), (.cell 0 3), (.cell 0 4)]⟩, ⟨[3], [], [5], [(.slot 3)]⟩]) (es' := [(0, .box 59 [.fl .shr 1 (List.map (Value.int .u8) v1.2.b), .v (.int .i64 v1.2.at_), .fl (.own 5) 1 (List.map (Value.int .u8) v1.2.out), .v (.int .i64 v1.2.most), .v (.int .i64 v1.2.blocks)]), (_, _), (3, .v (.int .i64 v1.1))]) (by kernel_rfl) rfl rfl
   ⟨st_plain rfl (op_move _ _ _ _ rfl rfl),
   st_plain rfl (op_callPS _ _ _ _ 11 62 [.tmp 10] [] _ _ _ rfl Tryd.call62 rfl rfl rfl (ok_grow_stream_pad s _ hv1) (Nat.le_of_ble_eq_true rfl) rfl rfl rfl rfl rfl rfl rfl),
   st_plain rfl (op_assign _ _ _ _ rfl rfl),
   trivial⟩ ?_
  refine pt_then ?_
  refine ht_seq ?_
  refine ht_seqR hn (El := [_, _, _, (12, .v (.int .i64 v1.1)), (13, .v (.bool (v1.1 != 0)))]) (init := [0, 1, 2]) (fin := [0, 1, 2, 4]) (sps := [⟨[2], [], [3], [(.slot 12)]⟩, ⟨[3], [], [4], [(.slot 13)]⟩]) (es' := [(_, _), (_, _), (_, _), (13, .v (.bool (v1.1 != 0)))]) (by kernel_rfl) rfl rfl
   ⟨st_plain rfl (op_move _ _ _ _ rfl rfl),
   st_plain rfl (op_bin _ _ _ _ _ rfl rfl rfl),
   trivial⟩ ?_
  refine pt_then ?_
  refine ht_cond _ rfl (fun hb2 => ?_) (fun hb2 => ?_)
  ·have h := cond_t hb2 h
   refine ht_seq ?_
   refine ht_seqR hn (El := [_, _, _, _, (14, .v (.int .i64 v1.1)), (2, .v (.int .i64 v1.1))]) (init := [0, 1, 2, 3]) (fin := [0, 1, 5]) (sps := [⟨[2], [], [4], [(.slot 14)]⟩, ⟨[4], [], [5], [(.slot 2)]⟩]) (es' := [(_, _), (_, _), (2, .v (.int .i64 v1.1))]) (by kernel_rfl) rfl rfl
    ⟨st_plain rfl (op_move _ _ _ _ rfl rfl),
    st_plain rfl (op_assign _ _ _ _ rfl rfl),
    trivial⟩ ?_
   refine pt_then ?_
   refine ht_ret ?_
   refine pt_pick [2, 0, 1] (by kernel_rfl) (es' := [(_, _), (_, _), (_, _)]) rfl ?_
   refine pt_r_then ?_
   obtain rfl := Option.some.inj h
   exact pt_retP (es := [(2, .v (.int .i64 v1.1))]) (posts := [.box 59 [.fl .shr 1 (List.map (Value.int .u8) v1.2.b), .v (.int .i64 v1.2.at_), .fl (.own 5) 1 (List.map (Value.int .u8) v1.2.out), .v (.int .i64 v1.2.most), .v (.int .i64 v1.2.blocks)]]) hio rfl rfl (.tmp _ _ .nil) rfl rfl hargs0 rfl
  ·have h := cond_f hb2 h
   refine ht_skip ?_
   refine pt_then ?_
   refine ht_seq ?_
   obtain ⟨v3, hv3, h⟩ := bind_some h
   refine ht_seqR hn (El := [_, _, _, _, (16, .ptr 0 0), (17, .tup [.v (.int .i64 v3.1), .v (.int .i64 v3.2.1)]), (0, .box 59 [.fl .shr 1 (List.map (Value.int .u8) v3.2.2.b), .v (.int .i64 v3.2.2.at_), .fl (.own 5) 1 (List.map (Value.int .u8) v3.2.2.out), .v (.int .i64 v3.2.2.most), .v (.int .i64 v3.2.2.blocks)]), (15, .tup [.v (.int .i64 v3.1), .v (.int .i64 v3.2.1)]), (18, .v (.int .i64 v3.1)), (19, .v (.int .i64 v3.2.1)), (4, .v (.int .i64 v3.1)), (5, .v (.int .i64 v3.2.1))]) (init := [0, 1, 2, 3]) (fin := [6, 1, 10, 11]) (sps := [⟨[0], [], [4], [(.slot 16)]⟩, ⟨[4], [0], [6, 5], [(.slot 17), (.cell 0 0), (.cell 0 1), (.cell 0 2), (.cell 0 3), (.cell 0 4)]⟩, ⟨[], [5], [7], [(.slot 15)]⟩, ⟨[7], [], [8], [(.slot 18)]⟩, ⟨[7], [], [9], [(.slot 19)]⟩, ⟨[8], [], [10], [(.slot 4)]⟩, ⟨[9], [], [11], [(.slot 5)]⟩]) (es' := [(0, .box 59 [.fl .shr 1 (List.map (Value.int .u8) v3.2.2.b), .v (.int .i64 v3.2.2.at_), .fl (.own 5) 1 (List.map (Value.int .u8) v3.2.2.out), .v (.int .i64 v3.2.2.most), .v (.int .i64 v3.2.2.blocks)]), (_, _), (4, .v (.int .i64 v3.1)), (5, .v (.int .i64 v3.2.1))]) (by kernel_rfl) rfl rfl
    ⟨st_plain rfl (op_move _ _ _ _ rfl rfl),
    st_plain rfl (op_callPS _ _ _ _ 17 58 [.tmp 16] [_] _ _ _ rfl Tryd.call58 rfl rfl rfl (ok_grow_stream_number v1.2 16 _ hv3) (Nat.le_of_ble_eq_true rfl) rfl rfl rfl rfl rfl rfl rfl),
    st_plain rfl (op_move_take _ _ _ _ rfl),
    st_plain rfl (op_extract _ _ _ _ _ rfl rfl (Nat.le_of_ble_eq_true rfl) rfl rfl),
    st_plain rfl (op_extract _ _ _ _ _ rfl rfl (Nat.le_of_ble_eq_true rfl) rfl rfl),
    st_plain rfl (op_assign _ _ _ _ rfl rfl),
    st_plain rfl (op_assign _ _ _ _ rfl rfl),
    trivial⟩ ?_
   refine pt_then ?_
   refine ht_seq ?_
   refine ht_seq ?_
   refine ht_seqR hn (El := [_, _, _, _, (20, .v (.int .i64 v3.2.1)), (21, .v (.bool (v3.2.1 != 0)))]) (init := [0, 1, 2, 3]) (fin := [0, 1, 2, 3, 5]) (sps := [⟨[3], [], [4], [(.slot 20)]⟩, ⟨[4], [], [5], [(.slot 21)]⟩]) (es' := [(_, _), (_, _), (_, _), (_, _), (21, .v (.bool (v3.2.1 != 0)))]) (by kernel_rfl) rfl rfl
    ⟨st_plain rfl (op_move _ _ _ _ rfl rfl),
    st_plain rfl (op_bin _ _ _ _ _ rfl rfl rfl),
    trivial⟩ ?_
   refine pt_then ?_
   refine ht_cond _ rfl (fun hb4 => ?_) (fun hb4 => ?_)
   ·have h := cond_t hb4 h
    refine ht_seq ?_
    refine ht_seqR hn (El := [_, _, _, _, _, (22, .v (.int .i64 v3.2.1)), (2, .v (.int .i64 v3.2.1))]) (init := [0, 1, 2, 3, 4]) (fin := [0, 1, 6]) (sps := [⟨[3], [], [5], [(.slot 22)]⟩, ⟨[5], [], [6], [(.slot 2)]⟩]) (es' := [(_, _), (_, _), (2, .v (.int .i64 v3.2.1))]) (by kernel_rfl) rfl rfl
     ⟨st_plain rfl (op_move _ _ _ _ rfl rfl),
     st_plain rfl (op_assign _ _ _ _ rfl rfl),
     trivial⟩ ?_
    refine pt_then ?_
    refine ht_ret ?_
    refine pt_pick [2, 0, 1] (by kernel_rfl) (es' := [(_, _), (_, _), (_, _)]) rfl ?_
    refine pt_r_then ?_
    obtain rfl := Option.some.inj h
    exact pt_retP (es := [(2, .v (.int .i64 v3.2.1))]) (posts := [.box 59 [.fl .shr 1 (List.map (Value.int .u8) v3.2.2.b), .v (.int .i64 v3.2.2.at_), .fl (.own 5) 1 (List.map (Value.int .u8) v3.2.2.out), .v (.int .i64 v3.2.2.most), .v (.int .i64 v3.2.2.blocks)]]) hio rfl rfl (.tmp _ _ .nil) rfl rfl hargs0 rfl
   ·have h := cond_f hb4 h
    refine ht_skip ?_
    refine pt_then ?_
    refine ht_seq ?_
    obtain ⟨v5, hv5, h⟩ := bind_some h
    refine ht_seqR hn (El := [_, _, _, _, _, (24, .ptr 0 0), (25, .tup [.v (.int .i64 v5.1), .v (.int .i64 v5.2.1)]), (0, .box 59 [.fl .shr 1 (List.map (Value.int .u8) v5.2.2.b), .v (.int .i64 v5.2.2.at_), .fl (.own 5) 1 (List.map (Value.int .u8) v5.2.2.out), .v (.int .i64 v5.2.2.most), .v (.int .i64 v5.2.2.blocks)]), (23, .tup [.v (.int .i64 v5.1), .v (.int .i64 v5.2.1)]), (26, .v (.int .i64 v5.1)), (27, .v (.int .i64 v5.2.1)), (6, .v (.int .i64 v5.1)), (5, .v (.int .i64 v5.2.1))]) (init := [0, 1, 2, 3, 4]) (fin := [7, 1, 2, 11, 12]) (sps := [⟨[0], [], [5], [(.slot 24)]⟩, ⟨[5], [0], [7, 6], [(.slot 25), (.cell 0 0), (.cell 0 1), (.cell 0 2), (.cell 0 3), (.cell 0 4)]⟩, ⟨[], [6], [8], [(.slot 23)]⟩, ⟨[8], [], [9], [(.slot 26)]⟩, ⟨[8], [], [10], [(.slot 27)]⟩, ⟨[9], [], [11], [(.slot 6)]⟩, ⟨[10], [3], [12], [(.slot 5)]⟩]) (es' := [(0, .box 59 [.fl .shr 1 (List.map (Value.int .u8) v5.2.2.b), .v (.int .i64 v5.2.2.at_), .fl (.own 5) 1 (List.map (Value.int .u8) v5.2.2.out), .v (.int .i64 v5.2.2.most), .v (.int .i64 v5.2.2.blocks)]), (_, _), (_, _), (6, .v (.int .i64 v5.1)), (5, .v (.int .i64 v5.2.1))]) (by kernel_rfl) rfl rfl
     ⟨st_plain rfl (op_move _ _ _ _ rfl rfl),
     st_plain rfl (op_callPS _ _ _ _ 25 58 [.tmp 24] [_] _ _ _ rfl Tryd.call58 rfl rfl rfl (ok_grow_stream_number v3.2.2 16 _ hv5) (Nat.le_of_ble_eq_true rfl) rfl rfl rfl rfl rfl rfl rfl),
     st_plain rfl (op_move_take _ _ _ _ rfl),
     st_plain rfl (op_extract _ _ _ _ _ rfl rfl (Nat.le_of_ble_eq_true rfl) rfl rfl),
     st_plain rfl (op_extract _ _ _ _ _ rfl rfl (Nat.le_of_ble_eq_true rfl) rfl rfl),
     st_plain rfl (op_assign _ _ _ _ rfl rfl),
     st_plain rfl (LOp.drop [_] (op_assign _ _ _ _ rfl rfl)),
     trivial⟩ ?_
    refine pt_then ?_
    refine ht_seq ?_
    refine ht_seq ?_
    refine ht_seqR hn (El := [_, _, _, _, _, (28, .v (.int .i64 v5.2.1)), (29, .v (.bool (v5.2.1 != 0)))]) (init := [0, 1, 2, 3, 4]) (fin := [0, 1, 2, 3, 4, 6]) (sps := [⟨[4], [], [5], [(.slot 28)]⟩, ⟨[5], [], [6], [(.slot 29)]⟩]) (es' := [(_, _), (_, _), (_, _), (_, _), (_, _), (29, .v (.bool (v5.2.1 != 0)))]) (by kernel_rfl) rfl rfl
     ⟨st_plain rfl (op_move _ _ _ _ rfl rfl),
     st_plain rfl (op_bin _ _ _ _ _ rfl rfl rfl),
     trivial⟩ ?_
    refine pt_then ?_
    refine ht_cond _ rfl (fun hb6 => ?_) (fun hb6 => ?_)
    ·have h := cond_t hb6 h
     refine ht_seq ?_
     refine ht_seqR hn (El := [_, _, _, _, _, _, (30, .v (.int .i64 v5.2.1)), (2, .v (.int .i64 v5.2.1))]) (init := [0, 1, 2, 3, 4, 5]) (fin := [0, 1, 7]) (sps := [⟨[4], [], [6], [(.slot 30)]⟩, ⟨[6], [], [7], [(.slot 2)]⟩]) (es' := [(_, _), (_, _), (2, .v (.int .i64 v5.2.1))]) (by kernel_rfl) rfl rfl
      ⟨st_plain rfl (op_move _ _ _ _ rfl rfl),
      st_plain rfl (op_assign _ _ _ _ rfl rfl),
      trivial⟩ ?_
     refine pt_then ?_
     refine ht_ret ?_
     refine pt_pick [2, 0, 1] (by kernel_rfl) (es' := [(_, _), (_, _), (_, _)]) rfl ?_
     refine pt_r_then ?_
     obtain rfl := Option.some.inj h
     exact pt_retP (es := [(2, .v (.int .i64 v5.2.1))]) (posts := [.box 59 [.fl .shr 1 (List.map (Value.int .u8) v5.2.2.b), .v (.int .i64 v5.2.2.at_), .fl (.own 5) 1 (List.map (Value.int .u8) v5.2.2.out), .v (.int .i64 v5.2.2.most), .v (.int .i64 v5.2.2.blocks)]]) hio rfl rfl (.tmp _ _ .nil) rfl rfl hargs0 rfl
    ·have h := cond_f hb6 h
     refine ht_skip ?_
     refine pt_then ?_
     refine ht_seq ?_
     refine ht_seq ?_
     obtain ⟨v7, hv7, h⟩ := bind_some h
     refine ht_seqR hn (El := [_, _, _, _, _, _, (31, .v (.int .i64 v3.1)), (32, .v (.int .i64 v5.1)), (33, .v (.int .i64 v7)), (34, .v (.bool (v7 != 65535)))]) (init := [0, 1, 2, 3, 4, 5]) (fin := [0, 1, 2, 9]) (sps := [⟨[2], [], [6], [(.slot 31)]⟩, ⟨[3], [], [7], [(.slot 32)]⟩, ⟨[6, 7], [], [8], [(.slot 33)]⟩, ⟨[8], [], [9], [(.slot 34)]⟩]) (es' := [(_, _), (_, _), (_, _), (34, .v (.bool (v7 != 65535)))]) (by kernel_rfl) rfl rfl
      ⟨st_plain rfl (op_move _ _ _ _ rfl rfl),
      st_plain rfl (op_move _ _ _ _ rfl rfl),
      st_plain rfl (op_bin _ _ _ _ _ rfl rfl (ibind (f := Value.int .i64) (Option.some.inj hv7))),
      st_plain rfl (op_bin _ _ _ _ _ rfl rfl rfl),
      trivial⟩ ?_
     refine pt_then ?_
     refine ht_cond _ rfl (fun hb8 => ?_) (fun hb8 => ?_)
     ·have h := cond_t hb8 h
      refine ht_seq ?_
      refine ht_seqR hn (El := [_, _, _, _, (2, .v (.int .i64 3))]) (init := [0, 1, 2, 3]) (fin := [0, 1, 4]) (sps := [⟨[], [], [4], [(.slot 2)]⟩]) (es' := [(_, _), (_, _), (2, .v (.int .i64 3))]) (by kernel_rfl) rfl rfl
       ⟨st_plain rfl (op_assign _ _ _ _ rfl rfl),
       trivial⟩ ?_
      refine pt_then ?_
      refine ht_ret ?_
      refine pt_pick [2, 0, 1] (by kernel_rfl) (es' := [(_, _), (_, _), (_, _)]) rfl ?_
      refine pt_r_then ?_
      obtain rfl := Option.some.inj h
      exact pt_retP (es := [(2, .v (.int .i64 3))]) (posts := [.box 59 [.fl .shr 1 (List.map (Value.int .u8) v5.2.2.b), .v (.int .i64 v5.2.2.at_), .fl (.own 5) 1 (List.map (Value.int .u8) v5.2.2.out), .v (.int .i64 v5.2.2.most), .v (.int .i64 v5.2.2.blocks)]]) hio rfl rfl (.tmp _ _ .nil) rfl rfl hargs0 rfl
     ·have h := cond_f hb8 h
      refine ht_skip ?_
      refine pt_then ?_
      refine ht_seq ?_
      refine ht_seq ?_
      refine ht_seqR hn (El := [_, _, _, _, (35, .v (.int .i64 v3.1)), (36, .v (.int .i64 0))]) (init := [0, 1, 2, 3]) (fin := [0, 1, 4, 5]) (sps := [⟨[2], [], [4], [(.slot 35)]⟩, ⟨[], [], [5], [(.slot 36)]⟩]) (es' := [(_, _), (_, _), (35, .v (.int .i64 v3.1)), (36, .v (.int .i64 0))]) (by kernel_rfl) rfl rfl
       ⟨st_plain rfl (op_move _ _ _ _ rfl rfl),
       st_plain rfl (op_move _ _ _ _ rfl rfl),
       trivial⟩ ?_
      refine pt_then ?_
      refine ht_loopS h (fun ((s24, s25, s26, s27, s28, s29) : (List Int) × Int × (List Int) × Int × Int × Int) => [(0, .box 59 [.fl .shr 1 (List.map (Value.int .u8) s24), .v (.int .i64 s25), .fl (.own 5) 1 (List.map (Value.int .u8) s26), .v (.int .i64 s27), .v (.int .i64 s28)]), (0, .v (List.getD args0 0 undef)), (35, .v (.int .i64 v3.1)), (36, .v (.int .i64 s29))]) (fun ((s33, s34, s35, s36, s37) : (List Int) × Int × (List Int) × Int × Int) => [(0, .box 59 [.fl .shr 1 (List.map (Value.int .u8) s33), .v (.int .i64 s34), .fl (.own 5) 1 (List.map (Value.int .u8) s35), .v (.int .i64 s36), .v (.int .i64 s37)]), (0, .v (List.getD args0 0 undef))]) ?_ ?_
      ·rintro ⟨s33, s34, s35, s36, s37⟩ h
       refine pt_then ?_
       refine ht_seq ?_
       refine ht_seqR hn (El := [_, _, (2, .v (.int .i64 0))]) (init := [0, 1]) (fin := [0, 1, 2]) (sps := [⟨[], [], [2], [(.slot 2)]⟩]) (es' := [(_, _), (_, _), (2, .v (.int .i64 0))]) (by kernel_rfl) rfl rfl
        ⟨st_plain rfl (op_assign _ _ _ _ rfl rfl),
        trivial⟩ ?_
       refine pt_then ?_
       refine ht_ret ?_
       refine pt_pick [2, 0, 1] (by kernel_rfl) (es' := [(_, _), (_, _), (_, _)]) rfl ?_
       obtain rfl := Option.some.inj h
       exact pt_retP (es := [(2, .v (.int .i64 0))]) (posts := [.box 59 [.fl .shr 1 (List.map (Value.int .u8) s33), .v (.int .i64 s34), .fl (.own 5) 1 (List.map (Value.int .u8) s35), .v (.int .i64 s36), .v (.int .i64 s37)]]) hio rfl rfl (.tmp _ _ .nil) rfl rfl hargs0 rfl
      ·rintro u38 hl39 hr40 ⟨s24, s25, s26, s27, s28, s29⟩ rr43 h ho41
       refine ht_seq ?_
       refine ht_seqR hn (El := [_, _, _, _, (37, .v (.bool ((decide (s29 < v3.1)))))]) (init := [0, 1, 2, 3]) (fin := [0, 1, 2, 3, 4]) (sps := [⟨[3, 2], [], [4], [(.slot 37)]⟩]) (es' := [(_, _), (_, _), (_, _), (_, _), (37, .v (.bool ((decide (s29 < v3.1)))))]) (by kernel_rfl) rfl rfl
        ⟨st_plain rfl (op_bin _ _ _ _ _ rfl rfl rfl),
        trivial⟩ ?_
       refine pt_then ?_
       refine ht_seq ?_
       refine ht_cond _ rfl (fun hb44 => ?_) (fun hb44 => ?_)
       ·have h := cond_t hb44 h
        refine ht_skip ?_
        refine pt_then ?_
        refine ht_seq ?_
        refine ht_block ?_
        refine ht_seq ?_
        obtain ⟨v10, hv10, h⟩ := bind_some h
        refine ht_seqR hn (El := [_, _, _, _, _, (39, .ptr 0 0), (40, .tup [.v (.int .i64 v10.1), .v (.int .i64 v10.2.1)]), (0, .box 59 [.fl .shr 1 (List.map (Value.int .u8) v10.2.2.b), .v (.int .i64 v10.2.2.at_), .fl (.own 5) 1 (List.map (Value.int .u8) v10.2.2.out), .v (.int .i64 v10.2.2.most), .v (.int .i64 v10.2.2.blocks)]), (38, .tup [.v (.int .i64 v10.1), .v (.int .i64 v10.2.1)]), (41, .v (.int .i64 v10.1)), (42, .v (.int .i64 v10.2.1)), (7, .v (.int .i64 v10.1)), (8, .v (.int .i64 v10.2.1))]) (init := [0, 1, 2, 3, 4]) (fin := [7, 1, 2, 3, 11, 12]) (sps := [⟨[0], [], [5], [(.slot 39)]⟩, ⟨[5], [0], [7, 6], [(.slot 40), (.cell 0 0), (.cell 0 1), (.cell 0 2), (.cell 0 3), (.cell 0 4)]⟩, ⟨[], [6], [8], [(.slot 38)]⟩, ⟨[8], [], [9], [(.slot 41)]⟩, ⟨[8], [], [10], [(.slot 42)]⟩, ⟨[9], [], [11], [(.slot 7)]⟩, ⟨[10], [], [12], [(.slot 8)]⟩]) (es' := [(0, .box 59 [.fl .shr 1 (List.map (Value.int .u8) v10.2.2.b), .v (.int .i64 v10.2.2.at_), .fl (.own 5) 1 (List.map (Value.int .u8) v10.2.2.out), .v (.int .i64 v10.2.2.most), .v (.int .i64 v10.2.2.blocks)]), (_, _), (_, _), (_, _), (7, .v (.int .i64 v10.1)), (8, .v (.int .i64 v10.2.1))]) (by kernel_rfl) rfl rfl
         ⟨st_plain rfl (op_move _ _ _ _ rfl rfl),
         st_plain rfl (op_callPS _ _ _ _ 40 58 [.tmp 39] [_] _ _ _ rfl Tryd.call58 rfl rfl rfl (ok_grow_stream_number (T_grow_stream.mk s24 s25 s26 s27 s28) 8 _ hv10) (Nat.le_of_ble_eq_true rfl) rfl rfl rfl rfl rfl rfl rfl),
         st_plain rfl (op_move_take _ _ _ _ rfl),
         st_plain rfl (op_extract _ _ _ _ _ rfl rfl (Nat.le_of_ble_eq_true rfl) rfl rfl),
         st_plain rfl (op_extract _ _ _ _ _ rfl rfl (Nat.le_of_ble_eq_true rfl) rfl rfl),
         st_plain rfl (op_assign _ _ _ _ rfl rfl),
         st_plain rfl (op_assign _ _ _ _ rfl rfl),
         trivial⟩ ?_
        refine pt_then ?_
        refine ht_seq ?_
        refine ht_seq ?_
        refine ht_seqR hn (El := [_, _, _, _, _, _, (43, .v (.int .i64 v10.2.1)), (44, .v (.bool (v10.2.1 != 0)))]) (init := [0, 1, 2, 3, 4, 5]) (fin := [0, 1, 2, 3, 4, 5, 7]) (sps := [⟨[5], [], [6], [(.slot 43)]⟩, ⟨[6], [], [7], [(.slot 44)]⟩]) (es' := [(_, _), (_, _), (_, _), (_, _), (_, _), (_, _), (44, .v (.bool (v10.2.1 != 0)))]) (by kernel_rfl) rfl rfl
         ⟨st_plain rfl (op_move _ _ _ _ rfl rfl),
         st_plain rfl (op_bin _ _ _ _ _ rfl rfl rfl),
         trivial⟩ ?_
        refine pt_then ?_
        refine ht_cond _ rfl (fun hb45 => ?_) (fun hb45 => ?_)
        ·have h := cond_t hb45 h
         refine ht_seq ?_
         refine ht_seqR hn (El := [_, _, _, _, _, _, _, (45, .v (.int .i64 v10.2.1)), (2, .v (.int .i64 v10.2.1))]) (init := [0, 1, 2, 3, 4, 5, 6]) (fin := [0, 1, 8]) (sps := [⟨[5], [], [7], [(.slot 45)]⟩, ⟨[7], [], [8], [(.slot 2)]⟩]) (es' := [(_, _), (_, _), (2, .v (.int .i64 v10.2.1))]) (by kernel_rfl) rfl rfl
          ⟨st_plain rfl (op_move _ _ _ _ rfl rfl),
          st_plain rfl (op_assign _ _ _ _ rfl rfl),
          trivial⟩ ?_
         refine pt_then ?_
         refine ht_ret ?_
         refine pt_pick [2, 0, 1] (by kernel_rfl) (es' := [(_, _), (_, _), (_, _)]) rfl ?_
         refine pt_r_then ?_
         refine pt_r_in ?_
         refine pt_r_then ?_
         refine pt_r_then ?_
         refine pt_r_in ?_
         refine pt_r_then ?_
         have h := hr40 _ (ho41 _ (Option.some.inj h).symm).symm
         obtain rfl := Option.some.inj h
         exact pt_retP (es := [(2, .v (.int .i64 v10.2.1))]) (posts := [.box 59 [.fl .shr 1 (List.map (Value.int .u8) v10.2.2.b), .v (.int .i64 v10.2.2.at_), .fl (.own 5) 1 (List.map (Value.int .u8) v10.2.2.out), .v (.int .i64 v10.2.2.most), .v (.int .i64 v10.2.2.blocks)]]) hio rfl rfl (.tmp _ _ .nil) rfl rfl hargs0 rfl
        ·have h := cond_f hb45 h
         refine ht_skip ?_
         refine pt_then ?_
         refine ht_seq ?_
         obtain ⟨v12, hv12, h⟩ := bind_some h
         refine ht_seqR hn (El := [_, _, _, _, _, _, _, (46, .ptr 0 0), (47, .v (.int .i64 v10.1)), (48, .v (.int .i64 v12.1)), (0, .box 59 [.fl .shr 1 (List.map (Value.int .u8) v12.2.b), .v (.int .i64 v12.2.at_), .fl (.own 5) 1 (List.map (Value.int .u8) v12.2.out), .v (.int .i64 v12.2.most), .v (.int .i64 v12.2.blocks)]), (9, .v (.int .i64 v12.1))]) (init := [0, 1, 2, 3, 4, 5, 6]) (fin := [10, 1, 2, 3, 11]) (sps := [⟨[0], [], [7], [(.slot 46)]⟩, ⟨[4], [], [8], [(.slot 47)]⟩, ⟨[7, 8], [0], [10, 9], [(.slot 48), (.cell 0 0), (.cell 0 1), (.cell 0 2), (.cell 0 3), (.cell 0 4)]⟩, ⟨[9], [], [11], [(.slot 9)]⟩]) (es' := [(0, .box 59 [.fl .shr 1 (List.map (Value.int .u8) v12.2.b), .v (.int .i64 v12.2.at_), .fl (.own 5) 1 (List.map (Value.int .u8) v12.2.out), .v (.int .i64 v12.2.most), .v (.int .i64 v12.2.blocks)]), (_, _), (_, _), (_, _), (9, .v (.int .i64 v12.1))]) (by kernel_rfl) rfl rfl
          ⟨st_plain rfl (op_move _ _ _ _ rfl rfl),
          st_plain rfl (op_move _ _ _ _ rfl rfl),
          st_plain rfl (op_callPS _ _ _ _ 48 77 [.tmp 46] [.tmp 47] _ _ _ rfl Tryd.call77 rfl rfl rfl (ok_grow_stream_literal v10.2.2 v10.1 _ hv12) (Nat.le_of_ble_eq_true rfl) rfl rfl rfl rfl rfl rfl rfl),
          st_plain rfl (op_assign _ _ _ _ rfl rfl),
          trivial⟩ ?_
         refine pt_then ?_
         refine ht_seq ?_
         refine ht_seqR hn (El := [_, _, _, _, _, (49, .v (.int .i64 v12.1)), (50, .v (.bool (v12.1 != 0)))]) (init := [0, 1, 2, 3, 4]) (fin := [0, 1, 2, 3, 4, 6]) (sps := [⟨[4], [], [5], [(.slot 49)]⟩, ⟨[5], [], [6], [(.slot 50)]⟩]) (es' := [(_, _), (_, _), (_, _), (_, _), (_, _), (50, .v (.bool (v12.1 != 0)))]) (by kernel_rfl) rfl rfl
          ⟨st_plain rfl (op_move _ _ _ _ rfl rfl),
          st_plain rfl (op_bin _ _ _ _ _ rfl rfl rfl),
          trivial⟩ ?_
         refine pt_then ?_
         refine ht_cond _ rfl (fun hb46 => ?_) (fun hb46 => ?_)
         ·have h := cond_t hb46 h
          refine ht_seq ?_
          refine ht_seqR hn (El := [_, _, _, _, _, _, (51, .v (.int .i64 v12.1)), (2, .v (.int .i64 v12.1))]) (init := [0, 1, 2, 3, 4, 5]) (fin := [0, 1, 7]) (sps := [⟨[4], [], [6], [(.slot 51)]⟩, ⟨[6], [], [7], [(.slot 2)]⟩]) (es' := [(_, _), (_, _), (2, .v (.int .i64 v12.1))]) (by kernel_rfl) rfl rfl
           ⟨st_plain rfl (op_move _ _ _ _ rfl rfl),
           st_plain rfl (op_assign _ _ _ _ rfl rfl),
           trivial⟩ ?_
          refine pt_then ?_
          refine ht_ret ?_
          refine pt_pick [2, 0, 1] (by kernel_rfl) (es' := [(_, _), (_, _), (_, _)]) rfl ?_
          refine pt_r_in ?_
          refine pt_r_then ?_
          refine pt_r_then ?_
          refine pt_r_in ?_
          refine pt_r_then ?_
          have h := hr40 _ (ho41 _ (Option.some.inj h).symm).symm
          obtain rfl := Option.some.inj h
          exact pt_retP (es := [(2, .v (.int .i64 v12.1))]) (posts := [.box 59 [.fl .shr 1 (List.map (Value.int .u8) v12.2.b), .v (.int .i64 v12.2.at_), .fl (.own 5) 1 (List.map (Value.int .u8) v12.2.out), .v (.int .i64 v12.2.most), .v (.int .i64 v12.2.blocks)]]) hio rfl rfl (.tmp _ _ .nil) rfl rfl hargs0 rfl
         ·have h := cond_f hb46 h
          refine ht_skip ?_
          refine pt_inb ?_
          refine pt_then ?_
          obtain ⟨v14, hv14, h⟩ := bind_some h
          refine ht_seqR hn (El := [_, _, _, _, _, _, (52, .v (.int .i64 v14)), (36, .v (.int .i64 v14))]) (init := [0, 1, 2, 3, 4, 5]) (fin := [0, 1, 2, 7]) (sps := [⟨[3], [], [6], [(.slot 52)]⟩, ⟨[6], [3], [7], [(.slot 36)]⟩]) (es' := [(_, _), (_, _), (_, _), (36, .v (.int .i64 v14))]) (by kernel_rfl) rfl rfl
           ⟨st_plain rfl (op_bin _ _ _ _ _ rfl rfl (ibind (f := Value.int .i64) (Option.some.inj hv14))),
           st_plain rfl (LOp.drop [_] (op_move _ _ _ _ rfl rfl)),
           trivial⟩ ?_
          exact pt_next _ (Option.some.inj h).symm rfl
       ·have h := cond_f hb44 h
        refine ht_exit ?_
        refine pt_x_then ?_
        refine pt_x_then ?_
        refine pt_x_in ?_
        refine pt_pick [0, 1] (by kernel_rfl) (es' := [(_, _), (_, _)]) rfl ?_
        exact hl39 _ (ho41 _ (Option.some.inj h).symm).symm

set_option maxHeartbeats 1000000 in
theorem ok_sym_fixedLen (s : Int) (r : Int) (h : Sh.sym_fixedLen s = some r) : FnOK Tryd.prog 44 [.v (.int .i64 s)] (.v (.int .i64 r)) := by
  unfold Sh.sym_fixedLen at h
  refine fn_ok Tryd.func44 rfl (Nat.le_of_ble_eq_true rfl) rfl rfl fun g0 hn hio => ?_
  refine ht_seq ?_
  refine ht_seqR hn (El := [_, (2, .v (.int .i64 0))]) (init := [0]) (fin := [0]) (sps := [⟨[], [], [1], [(.slot 2)]⟩]) (es' := [(_, _)]) (by kernel_rfl) rfl rfl
   ⟨st_plain rfl (op_assign _ _ _ _ rfl rfl),
   trivial⟩ ?_
  refine pt_then ?_
  refine ht_seq ?_
  refine ht_block ?_
  refine ht_seq ?_
  refine ht_seqR hn (El := [_, (4, .v (.int .i64 s)), (5, .v (.bool ((decide (s < 144))))), (3, .v (.bool ((decide (s < 144)))))]) (init := [0]) (fin := [0, 3]) (sps := [⟨[0], [], [1], [(.slot 4)]⟩, ⟨[1], [], [2], [(.slot 5)]⟩, ⟨[2], [], [3], [(.slot 3)]⟩]) (es' := [(_, _), (3, .v (.bool ((decide (s < 144)))))]) (by kernel_rfl) rfl rfl
   ⟨st_plain rfl (op_move _ _ _ _ rfl rfl),
   st_plain rfl (op_bin _ _ _ _ _ rfl rfl rfl),
   st_plain rfl (op_assign _ _ _ _ rfl rfl),
   trivial⟩ ?_
  refine pt_then ?_
  refine ht_cond _ rfl (fun hb1 => ?_) (fun hb1 => ?_)
  ·have h := cond_t hb1 h
   refine ht_seq ?_
   refine ht_seqR hn (El := [_, _, (2, .v (.int .i64 8))]) (init := [0, 1]) (fin := [2]) (sps := [⟨[], [], [2], [(.slot 2)]⟩]) (es' := [(2, .v (.int .i64 8))]) (by kernel_rfl) rfl rfl
    ⟨st_plain rfl (op_assign _ _ _ _ rfl rfl),
    trivial⟩ ?_
   refine pt_then ?_
   refine ht_ret ?_
   refine pt_r_in ?_
   refine pt_r_then ?_
   obtain rfl := Option.some.inj h
   exact pt_ret hio rfl (.tmp _ _ .nil) rfl rfl
  ·have h := cond_f hb1 h
   refine ht_seq ?_
   refine ht_seqR hn (El := [_, _, (7, .v (.int .i64 s)), (8, .v (.bool ((decide (s < 256))))), (6, .v (.bool ((decide (s < 256)))))]) (init := [0, 1]) (fin := [0, 4]) (sps := [⟨[0], [], [2], [(.slot 7)]⟩, ⟨[2], [], [3], [(.slot 8)]⟩, ⟨[3], [], [4], [(.slot 6)]⟩]) (es' := [(_, _), (6, .v (.bool ((decide (s < 256)))))]) (by kernel_rfl) rfl rfl
    ⟨st_plain rfl (op_move _ _ _ _ rfl rfl),
    st_plain rfl (op_bin _ _ _ _ _ rfl rfl rfl),
    st_plain rfl (op_assign _ _ _ _ rfl rfl),
    trivial⟩ ?_
   refine pt_then ?_
   refine ht_cond _ rfl (fun hb2 => ?_) (fun hb2 => ?_)
   ·have h := cond_t hb2 h
    refine ht_seq ?_
    refine ht_seqR hn (El := [_, _, (2, .v (.int .i64 9))]) (init := [0, 1]) (fin := [2]) (sps := [⟨[], [], [2], [(.slot 2)]⟩]) (es' := [(2, .v (.int .i64 9))]) (by kernel_rfl) rfl rfl
     ⟨st_plain rfl (op_assign _ _ _ _ rfl rfl),
     trivial⟩ ?_
    refine pt_then ?_
    refine ht_ret ?_
    refine pt_r_in ?_
    refine pt_r_then ?_
    obtain rfl := Option.some.inj h
    exact pt_ret hio rfl (.tmp _ _ .nil) rfl rfl
   ·have h := cond_f hb2 h
    refine ht_seq ?_
    refine ht_seqR hn (El := [_, _, (10, .v (.int .i64 s)), (11, .v (.bool ((decide (s < 280))))), (9, .v (.bool ((decide (s < 280)))))]) (init := [0, 1]) (fin := [4]) (sps := [⟨[0], [], [2], [(.slot 10)]⟩, ⟨[2], [], [3], [(.slot 11)]⟩, ⟨[3], [], [4], [(.slot 9)]⟩]) (es' := [(9, .v (.bool ((decide (s < 280)))))]) (by kernel_rfl) rfl rfl
     ⟨st_plain rfl (op_move _ _ _ _ rfl rfl),
     st_plain rfl (op_bin _ _ _ _ _ rfl rfl rfl),
     st_plain rfl (op_assign _ _ _ _ rfl rfl),
     trivial⟩ ?_
    refine pt_then ?_
    refine ht_cond _ rfl (fun hb3 => ?_) (fun hb3 => ?_)
    ·have h := cond_t hb3 h
     refine ht_seq ?_
     refine ht_seqR hn (El := [_, (2, .v (.int .i64 7))]) (init := [0]) (fin := [1]) (sps := [⟨[], [], [1], [(.slot 2)]⟩]) (es' := [(2, .v (.int .i64 7))]) (by kernel_rfl) rfl rfl
      ⟨st_plain rfl (op_assign _ _ _ _ rfl rfl),
      trivial⟩ ?_
     refine pt_then ?_
     refine ht_ret ?_
     refine pt_r_in ?_
     refine pt_r_then ?_
     obtain rfl := Option.some.inj h
     exact pt_ret hio rfl (.tmp _ _ .nil) rfl rfl
    ·have h := cond_f hb3 h
     refine ht_skip ?_
     refine pt_inb ?_
     refine pt_then ?_
     refine ht_seq ?_
     refine ht_seqR hn (El := [_, (2, .v (.int .i64 8))]) (init := [0]) (fin := [1]) (sps := [⟨[], [], [1], [(.slot 2)]⟩]) (es' := [(2, .v (.int .i64 8))]) (by kernel_rfl) rfl rfl
      ⟨st_plain rfl (op_assign _ _ _ _ rfl rfl),
      trivial⟩ ?_
     refine pt_then ?_
     refine ht_ret ?_
     obtain rfl := Option.some.inj h
     exact pt_ret hio rfl (.tmp _ _ .nil) rfl rfl

set_option maxHeartbeats 1000000 in
theorem ok_sym_Fixed (r : ((List Int) × (List Int))) (h : Sh.sym_Fixed  = some r) : FnOK Tryd.prog 33 [] (.tup [.fl (.own 3) 1 (List.map (Value.int .i64) r.1), .fl (.own 3) 1 (List.map (Value.int .i64) r.2)]) := by
  unfold Sh.sym_Fixed at h
  refine fn_ok Tryd.func33 rfl (Nat.le_of_ble_eq_true rfl) rfl rfl fun g0 hn hio => ?_
  refine ht_seq ?_
  refine ht_seqR hn (El := [(0, .v (.slice none 0 0)), (1, .v (.slice none 0 0))]) (init := []) (fin := [0, 1]) (sps := [⟨[], [], [0], [(.slot 0)]⟩, ⟨[], [], [1], [(.slot 1)]⟩]) (es' := [(0, .v (.slice none 0 0)), (1, .v (.slice none 0 0))]) (by kernel_rfl) rfl rfl
   ⟨st_plain rfl (op_assign _ _ _ _ rfl rfl),
   st_plain rfl (op_assign _ _ _ _ rfl rfl),
   trivial⟩ ?_
  refine pt_then ?_
  refine ht_seq ?_
  refine ht_seq ?_
  refine ht_seqR hn (El := [_, _, (3, .v (.int .i64 0))]) (init := [0, 1]) (fin := [0, 1, 2]) (sps := [⟨[], [], [2], [(.slot 3)]⟩]) (es' := [(_, _), (_, _), (3, .v (.int .i64 0))]) (by kernel_rfl) rfl rfl
   ⟨st_plain rfl (op_move _ _ _ _ rfl rfl),
   trivial⟩ ?_
  refine pt_then ?_
  refine ht_sub (fs := [(0, .fl (.own 3) 1 (List.map (Value.int .i64) [])), (1, .v (.slice none 0 0)), (3, .v (.int .i64 0))]) (.sub _ (sub_nil 3 1) rfl (.same _ (.same _ .nil))) ?_
  refine ht_loopS h (fun ((s8, s9) : (List Int) × Int) => [(0, .fl (.own 3) 1 (List.map (Value.int .i64) s8)), (1, .v (.slice none 0 0)), (3, .v (.int .i64 s9))]) (fun (s11 : (List Int)) => [(0, .fl (.own 3) 1 (List.map (Value.int .i64) s11)), (1, .v (.slice none 0 0))]) ?_ ?_
  ·rintro s11 h
   refine pt_then ?_
   refine ht_seq ?_
   refine ht_seq ?_
   refine ht_seqR hn (El := [_, _, (12, .v (.int .i64 0))]) (init := [0, 1]) (fin := [0, 1, 2]) (sps := [⟨[], [], [2], [(.slot 12)]⟩]) (es' := [(_, _), (_, _), (12, .v (.int .i64 0))]) (by kernel_rfl) rfl rfl
    ⟨st_plain rfl (op_move _ _ _ _ rfl rfl),
    trivial⟩ ?_
   refine pt_then ?_
   refine ht_sub (fs := [(0, .fl (.own 3) 1 (List.map (Value.int .i64) s11)), (1, .fl (.own 3) 1 (List.map (Value.int .i64) [])), (12, .v (.int .i64 0))]) (.same _ (.sub _ (sub_nil 3 1) rfl (.same _ .nil))) ?_
   refine ht_loopS h (fun ((s25, s26) : (List Int) × Int) => [(0, .fl (.own 3) 1 (List.map (Value.int .i64) s11)), (1, .fl (.own 3) 1 (List.map (Value.int .i64) s25)), (12, .v (.int .i64 s26))]) (fun (s28 : (List Int)) => [(0, .fl (.own 3) 1 (List.map (Value.int .i64) s11)), (1, .fl (.own 3) 1 (List.map (Value.int .i64) s28))]) ?_ ?_
   ·rintro s28 h
    refine pt_then ?_
    refine ht_seq ?_
    refine ht_seqR hn (El := [_, _, (18, .fl (.own 3) 1 (List.map (Value.int .i64) s11)), (19, .fl (.own 3) 1 (List.map (Value.int .i64) s28)), (0, .fl (.own 3) 1 (List.map (Value.int .i64) s11)), (1, .fl (.own 3) 1 (List.map (Value.int .i64) s28))]) (init := [0, 1]) (fin := [4, 5]) (sps := [⟨[], [0], [2], [(.slot 18)]⟩, ⟨[], [1], [3], [(.slot 19)]⟩, ⟨[], [2], [4], [(.slot 0)]⟩, ⟨[], [3], [5], [(.slot 1)]⟩]) (es' := [(0, .fl (.own 3) 1 (List.map (Value.int .i64) s11)), (1, .fl (.own 3) 1 (List.map (Value.int .i64) s28))]) (by kernel_rfl) rfl rfl
     ⟨st_plain rfl (op_move_take _ _ _ _ rfl),
     st_plain rfl (op_move_take _ _ _ _ rfl),
     st_plain rfl (op_assign_take _ _ _ _ rfl),
     st_plain rfl (op_assign_take _ _ _ _ rfl),
     trivial⟩ ?_
    refine pt_then ?_
    refine ht_ret ?_
    obtain rfl := Option.some.inj h
    exact pt_ret hio rfl (.tmp _ _ (.tmp _ _ .nil)) rfl rfl
   ·rintro u29 hl30 hr31 ⟨s25, s26⟩ rr34 h ho32
    refine ht_seq ?_
    refine ht_seqR hn (El := [_, _, _, (13, .v (.bool ((decide (s26 < 32)))))]) (init := [0, 1, 2]) (fin := [0, 1, 2, 3]) (sps := [⟨[2], [], [3], [(.slot 13)]⟩]) (es' := [(_, _), (_, _), (_, _), (13, .v (.bool ((decide (s26 < 32)))))]) (by kernel_rfl) rfl rfl
     ⟨st_plain rfl (op_bin _ _ _ _ _ rfl rfl rfl),
     trivial⟩ ?_
    refine pt_then ?_
    refine ht_seq ?_
    refine ht_cond _ rfl (fun hb35 => ?_) (fun hb35 => ?_)
    ·have h := cond_t hb35 h
     refine ht_skip ?_
     refine pt_then ?_
     refine ht_seq ?_
     refine ht_block ?_
     obtain ⟨v20, hv20, h⟩ := bind_some h
     refine ht_seqR hn (El := [_, _, _, _, (14, .fl (.own 3) 1 (List.map (Value.int .i64) s25)), (15, .fl (.own 3) 1 (List.map (Value.int .i64) [5])), (16, .fl (.own 3) 1 (List.map (Value.int .i64) v20)), (14, .any), (1, .fl (.own 3) 1 (List.map (Value.int .i64) v20))]) (init := [0, 1, 2, 3]) (fin := [0, 2, 8]) (sps := [⟨[], [1], [4], [(.slot 14)]⟩, ⟨[], [], [5], [(.slot 15)]⟩, ⟨[5], [4], [7, 6], [(.slot 16)]⟩, ⟨[], [6], [8], [(.slot 1)]⟩]) (es' := [(_, _), (_, _), (1, .fl (.own 3) 1 (List.map (Value.int .i64) v20))]) (by kernel_rfl) rfl rfl
      ⟨st_plain rfl (op_move_take _ _ _ _ rfl),
      st_plain rfl (op_buildSlice _ _ 1 (.int .i64 0) (List.map (Value.int .i64) [5]) [(0, .int .i64 5)] Tryd.underlying73 sz3 zr3 (fun _ V w o a hv hes => by simp only [List.map_toArray, List.map_cons, List.map_nil]; try rfl) (litfill (by simp [Instr.fill, Value.cells]; rfl) (by simp [List.range, List.range.loop] <;> rfl)) (by simp [Value.oneCell']) rfl (by decide) (by decide) (by decide)),
      st_plain rfl (op_app _ _ _ _ _ el73 rfl rfl (map_len _) (map_len _) hv20 ((List.map_append).symm.trans (congrArg (List.map _) (app_eq hv20)))),
      st_plain rfl (op_assign_take _ _ _ _ rfl),
      trivial⟩ ?_
     refine pt_inb ?_
     refine pt_then ?_
     obtain ⟨v21, hv21, h⟩ := bind_some h
     refine ht_seqR hn (El := [_, _, _, (17, .v (.int .i64 v21)), (12, .v (.int .i64 v21))]) (init := [0, 1, 2]) (fin := [0, 2, 4]) (sps := [⟨[1], [], [3], [(.slot 17)]⟩, ⟨[3], [1], [4], [(.slot 12)]⟩]) (es' := [(_, _), (_, _), (12, .v (.int .i64 v21))]) (by kernel_rfl) rfl rfl
      ⟨st_plain rfl (op_bin _ _ _ _ _ rfl rfl (ibind (f := Value.int .i64) (Option.some.inj hv21))),
      st_plain rfl (LOp.drop [_] (op_move _ _ _ _ rfl rfl)),
      trivial⟩ ?_
     exact pt_next _ (Option.some.inj h).symm rfl
    ·have h := cond_f hb35 h
     refine ht_exit ?_
     refine pt_x_then ?_
     refine pt_x_then ?_
     refine pt_x_in ?_
     refine pt_pick [0, 1] (by kernel_rfl) (es' := [(_, _), (_, _)]) rfl ?_
     exact hl30 _ (ho32 _ (Option.some.inj h).symm).symm
  ·rintro u12 hl13 hr14 ⟨s8, s9⟩ rr17 h ho15
   refine ht_seq ?_
   refine ht_seqR hn (El := [_, _, _, (4, .v (.bool ((decide (s9 < 288)))))]) (init := [0, 1, 2]) (fin := [0, 1, 2, 3]) (sps := [⟨[2], [], [3], [(.slot 4)]⟩]) (es' := [(_, _), (_, _), (_, _), (4, .v (.bool ((decide (s9 < 288)))))]) (by kernel_rfl) rfl rfl
    ⟨st_plain rfl (op_bin _ _ _ _ _ rfl rfl rfl),
    trivial⟩ ?_
   refine pt_then ?_
   refine ht_seq ?_
   refine ht_cond _ rfl (fun hb18 => ?_) (fun hb18 => ?_)
   ·have h := cond_t hb18 h
    refine ht_skip ?_
    refine pt_then ?_
    refine ht_seq ?_
    refine ht_block ?_
    refine ht_seq ?_
    refine ht_seqR hn (El := [_, _, _, _, (5, .v (.int .i64 s9)), (2, .v (.int .i64 s9))]) (init := [0, 1, 2, 3]) (fin := [0, 1, 2, 5]) (sps := [⟨[2], [], [4], [(.slot 5)]⟩, ⟨[4], [], [5], [(.slot 2)]⟩]) (es' := [(_, _), (_, _), (_, _), (2, .v (.int .i64 s9))]) (by kernel_rfl) rfl rfl
     ⟨st_plain rfl (op_move _ _ _ _ rfl rfl),
     st_plain rfl (op_assign _ _ _ _ rfl rfl),
     trivial⟩ ?_
    refine pt_then ?_
    obtain ⟨v2, hv2, h⟩ := bind_some h
    obtain ⟨v3, hv3, h⟩ := bind_some h
    refine ht_seqR hn (El := [_, _, _, _, (6, .fl (.own 3) 1 (List.map (Value.int .i64) s8)), (7, .v (.int .i64 s9)), (8, .v (.int .i64 v2)), (9, .fl (.own 3) 1 (List.map (Value.int .i64) [v2])), (10, .fl (.own 3) 1 (List.map (Value.int .i64) v3)), (6, .any), (0, .fl (.own 3) 1 (List.map (Value.int .i64) v3))]) (init := [0, 1, 2, 3]) (fin := [1, 2, 10]) (sps := [⟨[], [0], [4], [(.slot 6)]⟩, ⟨[3], [], [5], [(.slot 7)]⟩, ⟨[5], [], [6], [(.slot 8)]⟩, ⟨[6], [], [7], [(.slot 9)]⟩, ⟨[7], [4], [9, 8], [(.slot 10)]⟩, ⟨[], [8], [10], [(.slot 0)]⟩]) (es' := [(_, _), (_, _), (0, .fl (.own 3) 1 (List.map (Value.int .i64) v3))]) (by kernel_rfl) rfl rfl
     ⟨st_plain rfl (op_move_take _ _ _ _ rfl),
     st_plain rfl (op_move _ _ _ _ rfl rfl),
     st_plain rfl (op_call _ _ 44 _ _ rfl Tryd.call44 rfl (ok_sym_fixedLen s9 _ hv2) rfl rfl),
     st_plain rfl (op_buildSlice _ _ 1 (.int .i64 0) (List.map (Value.int .i64) [v2]) [(0, .int .i64 v2)] Tryd.underlying73 sz3 zr3 (fun _ V w o a hv hes => by have e0 := rd_v hv hes (x := .tmp 8) rfl; simp only [List.map_toArray, List.map_cons, List.map_nil, e0]; try rfl) (litfill (by simp [Instr.fill, Value.cells]; rfl) (by simp [List.range, List.range.loop] <;> rfl)) (by simp [Value.oneCell']) rfl (by decide) (by decide) (by decide)),
     st_plain rfl (op_app _ _ _ _ _ el73 rfl rfl (map_len _) (map_len _) hv3 ((List.map_append).symm.trans (congrArg (List.map _) (app_eq hv3)))),
     st_plain rfl (op_assign_take _ _ _ _ rfl),
     trivial⟩ ?_
    refine pt_inb ?_
    refine pt_then ?_
    obtain ⟨v4, hv4, h⟩ := bind_some h
    refine ht_seqR hn (El := [_, _, _, (11, .v (.int .i64 v4)), (3, .v (.int .i64 v4))]) (init := [0, 1, 2]) (fin := [0, 2, 4]) (sps := [⟨[1], [], [3], [(.slot 11)]⟩, ⟨[3], [1], [4], [(.slot 3)]⟩]) (es' := [(_, _), (_, _), (3, .v (.int .i64 v4))]) (by kernel_rfl) rfl rfl
     ⟨st_plain rfl (op_bin _ _ _ _ _ rfl rfl (ibind (f := Value.int .i64) (Option.some.inj hv4))),
     st_plain rfl (LOp.drop [_] (op_move _ _ _ _ rfl rfl)),
     trivial⟩ ?_
    refine pt_pick [1, 0, 2] (by kernel_rfl) (es' := [(_, _), (_, _), (_, _)]) rfl ?_
    exact pt_next _ (Option.some.inj h).symm rfl
   ·have h := cond_f hb18 h
    refine ht_exit ?_
    refine pt_x_then ?_
    refine pt_x_then ?_
    refine pt_x_in ?_
    refine pt_pick [0, 1] (by kernel_rfl) (es' := [(_, _), (_, _)]) rfl ?_
    exact hl13 _ (ho15 _ (Option.some.inj h).symm).symm

set_option maxHeartbeats 1000000 in
theorem ok_canon_valid (lengths : (List Int)) (r : Bool) (h : Sh.canon_valid lengths = some r) : FnOK Tryd.prog 83 [.fl .shr 1 (List.map (Value.int .i64) lengths)] (.v (.bool r)) := by
  unfold Sh.canon_valid at h
  refine fn_ok Tryd.func83 rfl (Nat.le_of_ble_eq_true rfl) rfl rfl fun g0 hn hio => ?_
  refine ht_seq ?_
  refine ht_seqR hn (El := [_, (2, .v (.bool false))]) (init := [0]) (fin := [0]) (sps := [⟨[], [], [1], [(.slot 2)]⟩]) (es' := [(_, _)]) (by kernel_rfl) rfl rfl
   ⟨st_plain rfl (op_assign _ _ _ _ rfl rfl),
   trivial⟩ ?_
  refine pt_then ?_
  refine ht_seq ?_
  refine ht_seq ?_
  refine ht_seqR hn (El := [_, (5, .fl .shr 1 (List.map (Value.int .i64) lengths)), (6, .v (.int .i64 (lengths.length : Int))), (7, .v (.bool ((decide (300 < (lengths.length : Int))))))]) (init := [0]) (fin := [0, 3]) (sps := [⟨[0], [], [1], [(.slot 5)]⟩, ⟨[1], [], [2], [(.slot 6)]⟩, ⟨[2], [], [3], [(.slot 7)]⟩]) (es' := [(_, _), (7, .v (.bool ((decide (300 < (lengths.length : Int))))))]) (by kernel_rfl) rfl rfl
   ⟨st_plain rfl (op_move _ _ _ _ rfl rfl),
   st_plain rfl (op_len_fl _ _ _ Tryd.underlying73 rfl (by decide) (map_len _)),
   st_plain rfl (op_bin _ _ _ _ _ rfl rfl rfl),
   trivial⟩ ?_
  refine pt_then ?_
  refine ht_cond _ rfl (fun hb1 => ?_) (fun hb1 => ?_)
  ·have h := cond_t hb1 h
   refine ht_seq ?_
   refine ht_seqR hn (El := [_, _, (2, .v (.bool false))]) (init := [0, 1]) (fin := [2]) (sps := [⟨[], [], [2], [(.slot 2)]⟩]) (es' := [(2, .v (.bool false))]) (by kernel_rfl) rfl rfl
    ⟨st_plain rfl (op_assign _ _ _ _ rfl rfl),
    trivial⟩ ?_
   refine pt_then ?_
   refine ht_ret ?_
   refine pt_r_then ?_
   obtain rfl := Option.some.inj h
   exact pt_ret hio rfl (.tmp _ _ .nil) rfl rfl
  ·have h := cond_f hb1 h
   refine ht_skip ?_
   refine pt_then ?_
   refine ht_seq ?_
   refine ht_seq ?_
   refine ht_seqR hn (El := [_, _, (8, .fl .shr 1 (List.map (Value.int .i64) lengths)), (9, .v (.int .i64 (lengths.length : Int))), (10, .v (.int .i64 0))]) (init := [0, 1]) (fin := [2, 3, 4]) (sps := [⟨[0], [], [2], [(.slot 8)]⟩, ⟨[2], [], [3], [(.slot 9)]⟩, ⟨[], [], [4], [(.slot 10)]⟩]) (es' := [(8, .fl .shr 1 (List.map (Value.int .i64) lengths)), (9, .v (.int .i64 (lengths.length : Int))), (10, .v (.int .i64 0))]) (by kernel_rfl) rfl rfl
    ⟨st_plain rfl (op_move _ _ _ _ rfl rfl),
    st_plain rfl (op_len_fl _ _ _ Tryd.underlying73 rfl (by decide) (map_len _)),
    st_plain rfl (op_move _ _ _ _ rfl rfl),
    trivial⟩ ?_
   refine pt_then ?_
   refine ht_loopS h (fun (s18 : Int) => [(8, .fl .shr 1 (List.map (Value.int .i64) lengths)), (9, .v (.int .i64 (lengths.length : Int))), (10, .v (.int .i64 s18))]) (fun (() : Unit) => []) ?_ ?_
   ·rintro ⟨⟩ h
    refine pt_then ?_
    refine ht_seq ?_
    refine ht_seqR hn (El := [(2, .v (.bool true))]) (init := []) (fin := [0]) (sps := [⟨[], [], [0], [(.slot 2)]⟩]) (es' := [(2, .v (.bool true))]) (by kernel_rfl) rfl rfl
     ⟨st_plain rfl (op_assign _ _ _ _ rfl rfl),
     trivial⟩ ?_
    refine pt_then ?_
    refine ht_ret ?_
    obtain rfl := Option.some.inj h
    exact pt_ret hio rfl (.tmp _ _ .nil) rfl rfl
   ·rintro u25 hl26 hr27 s18 rr30 h ho28
    refine ht_seq ?_
    refine ht_seqR hn (El := [_, _, _, (11, .v (.bool ((decide (s18 < (lengths.length : Int))))))]) (init := [0, 1, 2]) (fin := [0, 1, 2, 3]) (sps := [⟨[2, 1], [], [3], [(.slot 11)]⟩]) (es' := [(_, _), (_, _), (_, _), (11, .v (.bool ((decide (s18 < (lengths.length : Int))))))]) (by kernel_rfl) rfl rfl
     ⟨st_plain rfl (op_bin _ _ _ _ _ rfl rfl rfl),
     trivial⟩ ?_
    refine pt_then ?_
    refine ht_seq ?_
    refine ht_cond _ rfl (fun hb31 => ?_) (fun hb31 => ?_)
    ·have h := cond_t hb31 h
     refine ht_skip ?_
     refine pt_then ?_
     refine ht_seq ?_
     refine ht_block ?_
     refine ht_seq ?_
     obtain ⟨v3, hv3, h⟩ := bind_some h
     obtain ⟨v4, hv4, h⟩ := bind_some h
     refine ht_seqR hn (El := [_, _, _, _, (12, .eref (.slot 8) (v3 * 1)), (13, .v (.int .i64 v4)), (4, .v (.int .i64 v4))]) (init := [0, 1, 2, 3]) (fin := [0, 1, 2, 6]) (sps := [⟨[0, 2], [], [4], [(.slot 12)]⟩, ⟨[4, 0], [], [5], [(.slot 13)]⟩, ⟨[5], [], [6], [(.slot 4)]⟩]) (es' := [(_, _), (_, _), (_, _), (4, .v (.int .i64 v4))]) (by kernel_rfl) rfl rfl
      ⟨st_plain rfl (op_ix _ _ _ _ _ _ _ _ Tryd.underlying73 sz3 (by decide) rfl rfl rfl (ix_ok hv3).1 (map_lt (ix_ok hv3).2) rfl),
      st_plain rfl (op_load_e _ _ _ _ _ _ Tryd.underlying3 rfl rfl rfl (map_get hv4)),
      st_plain rfl (op_assign _ _ _ _ rfl rfl),
      trivial⟩ ?_
     refine pt_then ?_
     refine ht_seq ?_
     refine ht_joinS h (fun (s32 : Bool) => [(8, .fl .shr 1 (List.map (Value.int .i64) lengths)), (9, .v (.int .i64 (lengths.length : Int))), (10, .v (.int .i64 s18)), (19, .v (.bool s32))]) ?_ ?_
     ·rintro s32 h
      refine pt_then ?_
      refine ht_cond _ rfl (fun hb36 => ?_) (fun hb36 => ?_)
      ·have h := cond_t hb36 h
       refine ht_seq ?_
       refine ht_seqR hn (El := [_, _, _, _, (2, .v (.bool false))]) (init := [0, 1, 2, 3]) (fin := [4]) (sps := [⟨[], [], [4], [(.slot 2)]⟩]) (es' := [(2, .v (.bool false))]) (by kernel_rfl) rfl rfl
        ⟨st_plain rfl (op_assign _ _ _ _ rfl rfl),
        trivial⟩ ?_
       refine pt_then ?_
       refine ht_ret ?_
       refine pt_r_in ?_
       refine pt_r_then ?_
       refine pt_r_then ?_
       refine pt_r_in ?_
       refine pt_r_then ?_
       have h := hr27 _ (ho28 _ (Option.some.inj h).symm).symm
       obtain rfl := Option.some.inj h
       exact pt_ret hio rfl (.tmp _ _ .nil) rfl rfl
      ·have h := cond_f hb36 h
       refine ht_skip ?_
       refine pt_inb ?_
       refine pt_then ?_
       obtain ⟨v10, hv10, h⟩ := bind_some h
       refine ht_seqR hn (El := [_, _, _, _, (20, .v (.int .i64 v10)), (10, .v (.int .i64 v10))]) (init := [0, 1, 2, 3]) (fin := [0, 1, 5]) (sps := [⟨[2], [], [4], [(.slot 20)]⟩, ⟨[4], [2], [5], [(.slot 10)]⟩]) (es' := [(_, _), (_, _), (10, .v (.int .i64 v10))]) (by kernel_rfl) rfl rfl
        ⟨st_plain rfl (op_bin _ _ _ _ _ rfl rfl (ibind (f := Value.int .i64) (Option.some.inj hv10))),
        st_plain rfl (LOp.drop [_] (op_move _ _ _ _ rfl rfl)),
        trivial⟩ ?_
       exact pt_next _ (Option.some.inj h).symm rfl
     ·intro u33 h hl34 hr35
      refine cond_some h (fun hg6_2 h => ?_) (fun hg6_2 h => ?_)
      ·refine ht_seqR hn (El := [_, _, _, _, (14, .v (.int .i64 v4)), (15, .v (.bool ((decide (v4 < 0))))), (16, .v (.bool true)), (17, .v undef), (18, .v undef), (19, .v (.bool true))]) (init := [0, 1, 2, 3]) (fin := [0, 1, 2, 9]) (sps := [⟨[3], [], [4], [(.slot 14)]⟩, ⟨[4], [], [5], [(.slot 15)]⟩, ⟨[5], [], [6], [(.slot 16)]⟩, ⟨[6], [], [7], [(.slot 17)]⟩, ⟨[6], [], [8], [(.slot 18)]⟩, ⟨[6], [], [9], [(.slot 19)]⟩]) (es' := [(_, _), (_, _), (_, _), (19, .v (.bool true))]) (by kernel_rfl) rfl rfl
        ⟨st_plain rfl (op_move _ _ _ _ rfl rfl),
        st_plain rfl (op_bin _ _ _ _ _ rfl rfl rfl),
        st_plain rfl (op_move _ _ _ _ (congrArg (fun b => AV.v (Value.bool b)) hg6_2) rfl),
        st_skip 2 16 _ false rfl rfl rfl rfl (List.Mem.head _),
        st_skip 2 16 _ false rfl rfl rfl rfl (List.Mem.head _),
        st_plain rfl (op_pick _ _ true _ rfl rfl),
        trivial⟩ ?_
       exact hl34 _ (Option.some.inj h).symm
      ·refine ht_seqR hn (El := [_, _, _, _, (14, .v (.int .i64 v4)), (15, .v (.bool ((decide (v4 < 0))))), (16, .v (.bool false)), (17, .v (.int .i64 v4)), (18, .v (.bool ((decide (15 < v4))))), (19, .v (.bool ((decide (15 < v4)))))]) (init := [0, 1, 2, 3]) (fin := [0, 1, 2, 9]) (sps := [⟨[3], [], [4], [(.slot 14)]⟩, ⟨[4], [], [5], [(.slot 15)]⟩, ⟨[5], [], [6], [(.slot 16)]⟩, ⟨[6, 3], [], [7], [(.slot 17)]⟩, ⟨[6, 7], [], [8], [(.slot 18)]⟩, ⟨[6, 8], [], [9], [(.slot 19)]⟩]) (es' := [(_, _), (_, _), (_, _), (19, .v (.bool ((decide (15 < v4)))))]) (by kernel_rfl) rfl rfl
        ⟨st_plain rfl (op_move _ _ _ _ rfl rfl),
        st_plain rfl (op_bin _ _ _ _ _ rfl rfl rfl),
        st_plain rfl (op_move _ _ _ _ (congrArg (fun b => AV.v (Value.bool b)) hg6_2) rfl),
        st_run 2 16 false rfl rfl rfl (List.Mem.head _) (op_move _ _ _ _ rfl rfl),
        st_run 2 16 false rfl rfl rfl (List.Mem.head _) (op_bin _ _ _ _ _ rfl rfl rfl),
        st_plain rfl (op_pick _ _ false _ rfl rfl),
        trivial⟩ ?_
       exact hl34 _ (Option.some.inj h).symm
    ·have h := cond_f hb31 h
     refine ht_exit ?_
     refine pt_x_then ?_
     refine pt_x_then ?_
     refine pt_x_in ?_
     refine pt_pick [] (by kernel_rfl) (es' := []) rfl ?_
     exact hl26 _ (ho28 _ (Option.some.inj h).symm).symm

set_option maxHeartbeats 1000000 in
theorem ok_canon_count (lengths : (List Int)) (r : (List Int)) (h : Sh.canon_count lengths = some r) : FnOK Tryd.prog 68 [.fl .shr 1 (List.map (Value.int .i64) lengths)] (.v (.agg (List.map (Value.int .i64) r).toArray)) := by
  unfold Sh.canon_count at h
  refine fn_ok Tryd.func68 rfl (Nat.le_of_ble_eq_true rfl) rfl rfl fun g0 hn hio => ?_
  refine ht_seq ?_
  refine ht_seqR hn (El := [_, (2, .arr 118 (List.map (Value.int .i64) ((List.replicate 16 (0 : Int)))))]) (init := [0]) (fin := [0, 1]) (sps := [⟨[], [], [1], [(.slot 2)]⟩]) (es' := [(_, _), (2, .arr 118 (List.map (Value.int .i64) ((List.replicate 16 (0 : Int)))))]) (by kernel_rfl) rfl rfl
   ⟨st_plain rfl (op_alloc_arr _ za118),
   trivial⟩ ?_
  refine pt_then ?_
  refine ht_seq ?_
  refine ht_seqR hn (El := [_, _, (3, .arr 118 (List.map (Value.int .i64) ((List.replicate 16 (0 : Int)))))]) (init := [0, 1]) (fin := [0, 1, 2]) (sps := [⟨[], [], [2], [(.slot 3)]⟩]) (es' := [(_, _), (_, _), (3, .arr 118 (List.map (Value.int .i64) ((List.replicate 16 (0 : Int)))))]) (by kernel_rfl) rfl rfl
   ⟨st_plain rfl (op_alloc_arr _ za118),
   trivial⟩ ?_
  refine pt_then ?_
  refine ht_seq ?_
  refine ht_seq ?_
  refine ht_seqR hn (El := [_, _, _, (6, .fl .shr 1 (List.map (Value.int .i64) lengths)), (7, .v (.int .i64 (lengths.length : Int))), (8, .v (.int .i64 0))]) (init := [0, 1, 2]) (fin := [1, 2, 3, 4, 5]) (sps := [⟨[0], [], [3], [(.slot 6)]⟩, ⟨[3], [], [4], [(.slot 7)]⟩, ⟨[], [], [5], [(.slot 8)]⟩]) (es' := [(_, _), (_, _), (6, .fl .shr 1 (List.map (Value.int .i64) lengths)), (7, .v (.int .i64 (lengths.length : Int))), (8, .v (.int .i64 0))]) (by kernel_rfl) rfl rfl
   ⟨st_plain rfl (op_move _ _ _ _ rfl rfl),
   st_plain rfl (op_len_fl _ _ _ Tryd.underlying73 rfl (by decide) (map_len _)),
   st_plain rfl (op_move _ _ _ _ rfl rfl),
   trivial⟩ ?_
  refine pt_then ?_
  refine ht_loopS h (fun ((s25, s26) : (List Int) × Int) => [(2, .arr 118 (List.map (Value.int .i64) ((List.replicate 16 (0 : Int))))), (3, .arr 118 (List.map (Value.int .i64) s25)), (6, .fl .shr 1 (List.map (Value.int .i64) lengths)), (7, .v (.int .i64 (lengths.length : Int))), (8, .v (.int .i64 s26))]) (fun (s34 : (List Int)) => [(2, .arr 118 (List.map (Value.int .i64) ((List.replicate 16 (0 : Int))))), (3, .arr 118 (List.map (Value.int .i64) s34))]) ?_ ?_
  ·rintro s34 h
   refine pt_then ?_
   refine ht_seq ?_
   obtain ⟨v48, hv48, h⟩ := bind_some h
   obtain ⟨v49, hv49, h⟩ := bind_some h
   obtain ⟨v50, hv50, h⟩ := bind_some h
   refine ht_seqR hn (El := [_, _, (20, .v (.agg (List.map (Value.int .i64) s34).toArray)), (2, .arr 118 (List.map (Value.int .i64) s34))]) (init := [0, 1]) (fin := [3]) (sps := [⟨[1], [], [2], [(.slot 20)]⟩, ⟨[2], [0], [3], []⟩]) (es' := [(2, .arr 118 (List.map (Value.int .i64) s34))]) (by kernel_rfl) rfl rfl
    ⟨st_plain rfl (op_loadA_arr _ _ _ _ Tryd.underlying118 rfl (sz118.trans (congrArg some (ln_len hv48))) rfl rfl),
    st_plain rfl (op_storeA_arr _ _ _ _ (sz118.trans (congrArg some (ln_len hv50))) rfl rfl (ln_ones (fun _ => rfl) _) ((ln_len (f := Value.int .i64) hv49).symm.trans (ln_len (f := Value.int .i64) hv50))),
    trivial⟩ ?_
   refine pt_then ?_
   refine ht_ret ?_
   obtain ⟨v51, hv51, h⟩ := bind_some h
   obtain rfl := Option.some.inj h
   exact pt_ret hio rfl (.cellR _ _ _ _ Tryd.underlying118 rfl (sz118.trans (congrArg some (ln_len hv51))) .nil) rfl rfl
  ·rintro u35 hl36 hr37 ⟨s25, s26⟩ rr40 h ho38
   refine ht_seq ?_
   refine ht_seqR hn (El := [_, _, _, _, _, (9, .v (.bool ((decide (s26 < (lengths.length : Int))))))]) (init := [0, 1, 2, 3, 4]) (fin := [0, 1, 2, 3, 4, 5]) (sps := [⟨[4, 3], [], [5], [(.slot 9)]⟩]) (es' := [(_, _), (_, _), (_, _), (_, _), (_, _), (9, .v (.bool ((decide (s26 < (lengths.length : Int))))))]) (by kernel_rfl) rfl rfl
    ⟨st_plain rfl (op_bin _ _ _ _ _ rfl rfl rfl),
    trivial⟩ ?_
   refine pt_then ?_
   refine ht_seq ?_
   refine ht_cond _ rfl (fun hb41 => ?_) (fun hb41 => ?_)
   ·have h := cond_t hb41 h
    refine ht_skip ?_
    refine pt_then ?_
    refine ht_seq ?_
    refine ht_joinS h (fun (s43 : (List Int)) => [(2, .arr 118 (List.map (Value.int .i64) ((List.replicate 16 (0 : Int))))), (3, .arr 118 (List.map (Value.int .i64) s43)), (6, .fl .shr 1 (List.map (Value.int .i64) lengths)), (7, .v (.int .i64 (lengths.length : Int))), (8, .v (.int .i64 s26))]) ?_ ?_
    ·rintro s43 h
     refine pt_then ?_
     obtain ⟨v15, hv15, h⟩ := bind_some h
     refine ht_seqR hn (El := [_, _, _, _, _, (19, .v (.int .i64 v15)), (8, .v (.int .i64 v15))]) (init := [0, 1, 2, 3, 4]) (fin := [0, 1, 2, 3, 6]) (sps := [⟨[4], [], [5], [(.slot 19)]⟩, ⟨[5], [4], [6], [(.slot 8)]⟩]) (es' := [(_, _), (_, _), (_, _), (_, _), (8, .v (.int .i64 v15))]) (by kernel_rfl) rfl rfl
      ⟨st_plain rfl (op_bin _ _ _ _ _ rfl rfl (ibind (f := Value.int .i64) (Option.some.inj hv15))),
      st_plain rfl (LOp.drop [_] (op_move _ _ _ _ rfl rfl)),
      trivial⟩ ?_
     exact pt_next _ (Option.some.inj h).symm rfl
    ·intro u44 h hl45 hr46
     refine ht_block ?_
     refine ht_seq ?_
     obtain ⟨v2, hv2, h⟩ := bind_some h
     obtain ⟨v3, hv3, h⟩ := bind_some h
     refine ht_seqR hn (El := [_, _, _, _, _, _, (10, .eref (.slot 6) (v2 * 1)), (11, .v (.int .i64 v3)), (5, .v (.int .i64 v3))]) (init := [0, 1, 2, 3, 4, 5]) (fin := [0, 1, 2, 3, 4, 8]) (sps := [⟨[2, 4], [], [6], [(.slot 10)]⟩, ⟨[6, 2], [], [7], [(.slot 11)]⟩, ⟨[7], [], [8], [(.slot 5)]⟩]) (es' := [(_, _), (_, _), (_, _), (_, _), (_, _), (5, .v (.int .i64 v3))]) (by kernel_rfl) rfl rfl
      ⟨st_plain rfl (op_ix _ _ _ _ _ _ _ _ Tryd.underlying73 sz3 (by decide) rfl rfl rfl (ix_ok hv2).1 (map_lt (ix_ok hv2).2) rfl),
      st_plain rfl (op_load_e _ _ _ _ _ _ Tryd.underlying3 rfl rfl rfl (map_get hv3)),
      st_plain rfl (op_assign _ _ _ _ rfl rfl),
      trivial⟩ ?_
     refine pt_then ?_
     refine ht_seq ?_
     refine ht_seqR hn (El := [_, _, _, _, _, _, (12, .v (.int .i64 v3)), (13, .v (.bool ((decide (0 < v3)))))]) (init := [0, 1, 2, 3, 4, 5]) (fin := [0, 1, 2, 3, 4, 5, 7]) (sps := [⟨[5], [], [6], [(.slot 12)]⟩, ⟨[6], [], [7], [(.slot 13)]⟩]) (es' := [(_, _), (_, _), (_, _), (_, _), (_, _), (_, _), (13, .v (.bool ((decide (0 < v3)))))]) (by kernel_rfl) rfl rfl
      ⟨st_plain rfl (op_move _ _ _ _ rfl rfl),
      st_plain rfl (op_bin _ _ _ _ _ rfl rfl rfl),
      trivial⟩ ?_
     refine pt_then ?_
     refine ht_cond _ rfl (fun hb47 => ?_) (fun hb47 => ?_)
     ·have h := cond_t hb47 h
      obtain ⟨v5, hv5, h⟩ := bind_some h
      obtain ⟨v6, hv6, h⟩ := bind_some h
      obtain ⟨v7, hv7, h⟩ := bind_some h
      obtain ⟨v8, hv8, h⟩ := bind_some h
      obtain ⟨v9, hv9, h⟩ := bind_some h
      refine ht_seqR hn (El := [_, _, _, _, _, _, _, (14, .v (.int .i64 v3)), (15, .ptr 3 v5), (16, .v (.int .i64 v6)), (17, .v (.int .i64 v7)), (18, .ptr 3 v8), (3, .arr 118 (List.map (Value.int .i64) v9))]) (init := [0, 1, 2, 3, 4, 5, 6]) (fin := [0, 12, 2, 3, 4]) (sps := [⟨[5], [], [7], [(.slot 14)]⟩, ⟨[1, 7], [], [8], [(.slot 15)]⟩, ⟨[8, 1], [], [9], [(.slot 16)]⟩, ⟨[9], [], [10], [(.slot 17)]⟩, ⟨[1, 7], [], [11], [(.slot 18)]⟩, ⟨[11, 10], [1], [12], []⟩]) (es' := [(_, _), (3, .arr 118 (List.map (Value.int .i64) v9)), (_, _), (_, _), (_, _)]) (by kernel_rfl) rfl rfl
       ⟨st_plain rfl (op_move _ _ _ _ rfl rfl),
       st_plain rfl (op_ix_arr _ _ _ _ 16 3 _ Tryd.underlying118 sz3 rfl rfl (ix_ok hv5).1 (ix_ok hv5).2 (by decide)),
       st_plain rfl (op_load_arr _ _ _ _ _ _ Tryd.underlying3 rfl rfl rfl (map_get1 hv6)),
       st_plain rfl (op_bin _ _ _ _ _ rfl rfl (ibind (f := Value.int .i64) (Option.some.inj hv7))),
       st_plain rfl (op_ix_arr _ _ _ _ 16 3 _ Tryd.underlying118 sz3 rfl rfl (ix_ok hv8).1 (ix_ok hv8).2 (by decide)),
       st_plain rfl (op_store_arr _ _ _ _ _ _ sz3 rfl rfl rfl rfl (set_lt hv9) (set_eq (f := Value.int .i64) hv9)),
       trivial⟩ ?_
      refine pt_inb ?_
      exact hl45 _ (Option.some.inj h).symm
     ·have h := cond_f hb47 h
      refine ht_skip ?_
      refine pt_inb ?_
      refine pt_pick [0, 1, 2, 3, 4] (by kernel_rfl) (es' := [(_, _), (_, _), (_, _), (_, _), (_, _)]) rfl ?_
      exact hl45 _ (Option.some.inj h).symm
   ·have h := cond_f hb41 h
    refine ht_exit ?_
    refine pt_x_then ?_
    refine pt_x_then ?_
    refine pt_x_in ?_
    refine pt_pick [0, 1] (by kernel_rfl) (es' := [(_, _), (_, _)]) rfl ?_
    exact hl36 _ (ho38 _ (Option.some.inj h).symm).symm

set_option maxHeartbeats 1000000 in
theorem ok_canon_tally_weight (c : (List Int)) (r : Int) (h : Sh.canon_tally_weight c = some r) : FnOK Tryd.prog 91 [.v (.agg (List.map (Value.int .i64) c).toArray)] (.v (.int .i64 r)) := by
  unfold Sh.canon_tally_weight at h
  refine fn_ok Tryd.func91 rfl (Nat.le_of_ble_eq_true rfl) rfl rfl fun g0 hn hio => ?_
  refine ht_seq ?_
  refine ht_seqR hn (El := [_, (1, .arr 118 (List.map (Value.int .i64) c)), (2, .v (.int .i64 0))]) (init := [0]) (fin := [1]) (sps := [⟨[0], [], [1], [(.slot 1)]⟩, ⟨[], [], [2], [(.slot 2)]⟩]) (es' := [(1, .arr 118 (List.map (Value.int .i64) c))]) (by kernel_rfl) rfl rfl
   ⟨st_plain rfl (op_box_arr _ _ _ rfl),
   st_plain rfl (op_assign _ _ _ _ rfl rfl),
   trivial⟩ ?_
  refine pt_then ?_
  refine ht_seq ?_
  refine ht_seqR hn (El := [_, (3, .v (.int .i64 0))]) (init := [0]) (fin := [0, 1]) (sps := [⟨[], [], [1], [(.slot 3)]⟩]) (es' := [(_, _), (3, .v (.int .i64 0))]) (by kernel_rfl) rfl rfl
   ⟨st_plain rfl (op_assign _ _ _ _ rfl rfl),
   trivial⟩ ?_
  refine pt_then ?_
  refine ht_seq ?_
  refine ht_seq ?_
  obtain ⟨v1, hv1, h⟩ := bind_some h
  refine ht_seqR hn (El := [_, _, (6, .v (.agg (List.map (Value.int .i64) c).toArray)), (7, .v (.int .i64 0))]) (init := [0, 1]) (fin := [1, 2, 3]) (sps := [⟨[0], [], [2], [(.slot 6)]⟩, ⟨[], [], [3], [(.slot 7)]⟩]) (es' := [(_, _), (6, .v (.agg (List.map (Value.int .i64) c).toArray)), (7, .v (.int .i64 0))]) (by kernel_rfl) rfl rfl
   ⟨st_plain rfl (op_loadA_arr _ _ _ _ Tryd.underlying118 rfl (sz118.trans (congrArg some (ln_len hv1))) rfl rfl),
   st_plain rfl (op_move _ _ _ _ rfl rfl),
   trivial⟩ ?_
  refine pt_then ?_
  refine ht_loopS h (fun ((s12, s13) : Int × Int) => [(3, .v (.int .i64 s12)), (6, .v (.agg (List.map (Value.int .i64) c).toArray)), (7, .v (.int .i64 s13))]) (fun (s15 : Int) => [(3, .v (.int .i64 s15))]) ?_ ?_
  ·rintro s15 h
   refine pt_then ?_
   refine ht_seq ?_
   refine ht_seqR hn (El := [_, (18, .v (.int .i64 s15)), (2, .v (.int .i64 s15))]) (init := [0]) (fin := [2]) (sps := [⟨[0], [], [1], [(.slot 18)]⟩, ⟨[1], [], [2], [(.slot 2)]⟩]) (es' := [(2, .v (.int .i64 s15))]) (by kernel_rfl) rfl rfl
    ⟨st_plain rfl (op_move _ _ _ _ rfl rfl),
    st_plain rfl (op_assign _ _ _ _ rfl rfl),
    trivial⟩ ?_
   refine pt_then ?_
   refine ht_ret ?_
   obtain rfl := Option.some.inj h
   exact pt_ret hio rfl (.tmp _ _ .nil) rfl rfl
  ·rintro u16 hl17 hr18 ⟨s12, s13⟩ rr21 h ho19
   refine ht_seq ?_
   refine ht_seqR hn (El := [_, _, _, (8, .v (.bool ((decide (s13 < 16)))))]) (init := [0, 1, 2]) (fin := [0, 1, 2, 3]) (sps := [⟨[2], [], [3], [(.slot 8)]⟩]) (es' := [(_, _), (_, _), (_, _), (8, .v (.bool ((decide (s13 < 16)))))]) (by kernel_rfl) rfl rfl
    ⟨st_plain rfl (op_bin _ _ _ _ _ rfl rfl rfl),
    trivial⟩ ?_
   refine pt_then ?_
   refine ht_seq ?_
   refine ht_cond _ rfl (fun hb22 => ?_) (fun hb22 => ?_)
   ·have h := cond_t hb22 h
    refine ht_skip ?_
    refine pt_then ?_
    refine ht_seq ?_
    refine ht_block ?_
    refine ht_seq ?_
    obtain ⟨v3, hv3, h⟩ := bind_some h
    obtain ⟨v4, hv4, h⟩ := bind_some h
    refine ht_seqR hn (El := [_, _, _, _, (9, .v (.int .i64 s13)), (10, .v (.int .i64 v4)), (4, .v (.int .i64 s13)), (5, .v (.int .i64 v4))]) (init := [0, 1, 2, 3]) (fin := [0, 1, 2, 6, 7]) (sps := [⟨[2], [], [4], [(.slot 9)]⟩, ⟨[1, 2], [], [5], [(.slot 10)]⟩, ⟨[4], [], [6], [(.slot 4)]⟩, ⟨[5], [], [7], [(.slot 5)]⟩]) (es' := [(_, _), (_, _), (_, _), (4, .v (.int .i64 s13)), (5, .v (.int .i64 v4))]) (by kernel_rfl) rfl rfl
     ⟨st_plain rfl (op_move _ _ _ _ rfl rfl),
     st_plain rfl (op_index_arr _ _ _ _ 16 v3 Tryd.underlying118 sz3 rfl (congrArg (fun j => AV.v (Value.int .i64 j)) (ix_ok hv3).1) (ix_ok hv3).2 (map_get1 hv4) ⟨_, Tryd.underlying3, rfl⟩),
     st_plain rfl (op_assign _ _ _ _ rfl rfl),
     st_plain rfl (op_assign _ _ _ _ rfl rfl),
     trivial⟩ ?_
    refine pt_then ?_
    obtain ⟨v5, hv5, h⟩ := bind_some h
    obtain ⟨v6, hv6, h⟩ := bind_some h
    obtain ⟨v7, hv7, h⟩ := bind_some h
    refine ht_seqR hn (El := [_, _, _, _, _, (11, .v (.int .i64 s12)), (12, .v (.int .i64 v4)), (13, .v (.int .i64 s13)), (14, .v (.int .i64 v5)), (15, .v (.int .i64 v6)), (16, .v (.int .i64 v7)), (3, .v (.int .i64 v7))]) (init := [0, 1, 2, 3, 4]) (fin := [1, 2, 11]) (sps := [⟨[0], [], [5], [(.slot 11)]⟩, ⟨[4], [], [6], [(.slot 12)]⟩, ⟨[3], [], [7], [(.slot 13)]⟩, ⟨[7], [], [8], [(.slot 14)]⟩, ⟨[6, 8], [], [9], [(.slot 15)]⟩, ⟨[5, 9], [], [10], [(.slot 16)]⟩, ⟨[10], [0], [11], [(.slot 3)]⟩]) (es' := [(_, _), (_, _), (3, .v (.int .i64 v7))]) (by kernel_rfl) rfl rfl
     ⟨st_plain rfl (op_move _ _ _ _ rfl rfl),
     st_plain rfl (op_move _ _ _ _ rfl rfl),
     st_plain rfl (op_move _ _ _ _ rfl rfl),
     st_plain rfl (op_bin _ _ _ _ _ rfl rfl (ibind (f := Value.int .i64) (Option.some.inj hv5))),
     st_plain rfl (op_bin _ _ _ _ _ rfl rfl (shl_ok hv6)),
     st_plain rfl (op_bin _ _ _ _ _ rfl rfl (ibind (f := Value.int .i64) (Option.some.inj hv7))),
     st_plain rfl (LOp.drop [_] (op_assign _ _ _ _ rfl rfl)),
     trivial⟩ ?_
    refine pt_inb ?_
    refine pt_then ?_
    obtain ⟨v8, hv8, h⟩ := bind_some h
    refine ht_seqR hn (El := [_, _, _, (17, .v (.int .i64 v8)), (7, .v (.int .i64 v8))]) (init := [0, 1, 2]) (fin := [0, 2, 4]) (sps := [⟨[1], [], [3], [(.slot 17)]⟩, ⟨[3], [1], [4], [(.slot 7)]⟩]) (es' := [(_, _), (_, _), (7, .v (.int .i64 v8))]) (by kernel_rfl) rfl rfl
     ⟨st_plain rfl (op_bin _ _ _ _ _ rfl rfl (ibind (f := Value.int .i64) (Option.some.inj hv8))),
     st_plain rfl (LOp.drop [_] (op_move _ _ _ _ rfl rfl)),
     trivial⟩ ?_
    refine pt_pick [1, 0, 2] (by kernel_rfl) (es' := [(_, _), (_, _), (_, _)]) rfl ?_
    exact pt_next _ (Option.some.inj h).symm rfl
   ·have h := cond_f hb22 h
    refine ht_exit ?_
    refine pt_x_then ?_
    refine pt_x_then ?_
    refine pt_x_in ?_
    refine pt_pick [0] (by kernel_rfl) (es' := [(_, _)]) rfl ?_
    exact hl17 _ (ho19 _ (Option.some.inj h).symm).symm

set_option maxHeartbeats 1000000 in
theorem ok_canon_forms (c : (List Int)) (r : Bool) (h : Sh.canon_forms c = some r) : FnOK Tryd.prog 84 [.v (.agg (List.map (Value.int .i64) c).toArray)] (.v (.bool r)) := by
  unfold Sh.canon_forms at h
  refine fn_ok Tryd.func84 rfl (Nat.le_of_ble_eq_true rfl) rfl rfl fun g0 hn hio => ?_
  refine ht_seq ?_
  refine ht_seqR hn (El := [_, (1, .arr 118 (List.map (Value.int .i64) c)), (2, .v (.bool false))]) (init := [0]) (fin := [1]) (sps := [⟨[0], [], [1], [(.slot 1)]⟩, ⟨[], [], [2], [(.slot 2)]⟩]) (es' := [(1, .arr 118 (List.map (Value.int .i64) c))]) (by kernel_rfl) rfl rfl
   ⟨st_plain rfl (op_box_arr _ _ _ rfl),
   st_plain rfl (op_assign _ _ _ _ rfl rfl),
   trivial⟩ ?_
  refine pt_then ?_
  refine ht_seq ?_
  obtain ⟨v1, hv1, h⟩ := bind_some h
  obtain ⟨v2, hv2, h⟩ := bind_some h
  refine ht_seqR hn (El := [_, (4, .v (.agg (List.map (Value.int .i64) (([(0 : Int), 1, (0 : Int), (0 : Int), (0 : Int), (0 : Int), (0 : Int), (0 : Int), (0 : Int), (0 : Int), (0 : Int), (0 : Int), (0 : Int), (0 : Int), (0 : Int), (0 : Int)] : List Int))).toArray)), (3, .arr 118 (List.map (Value.int .i64) ((List.replicate 16 (0 : Int))))), (3, .arr 118 (List.map (Value.int .i64) (([(0 : Int), 1, (0 : Int), (0 : Int), (0 : Int), (0 : Int), (0 : Int), (0 : Int), (0 : Int), (0 : Int), (0 : Int), (0 : Int), (0 : Int), (0 : Int), (0 : Int), (0 : Int)] : List Int))))]) (init := [0]) (fin := [0, 3]) (sps := [⟨[], [], [1], [(.slot 4)]⟩, ⟨[], [], [2], [(.slot 3)]⟩, ⟨[1], [2], [3], []⟩]) (es' := [(_, _), (3, .arr 118 (List.map (Value.int .i64) (([(0 : Int), 1, (0 : Int), (0 : Int), (0 : Int), (0 : Int), (0 : Int), (0 : Int), (0 : Int), (0 : Int), (0 : Int), (0 : Int), (0 : Int), (0 : Int), (0 : Int), (0 : Int)] : List Int))))]) (by kernel_rfl) rfl rfl
   ⟨st_plain rfl (op_build_arr _ _ (.agg #[.int .i64 0, .int .i64 0, .int .i64 0, .int .i64 0, .int .i64 0, .int .i64 0, .int .i64 0, .int .i64 0, .int .i64 0, .int .i64 0, .int .i64 0, .int .i64 0, .int .i64 0, .int .i64 0, .int .i64 0, .int .i64 0]) (List.map (Value.int .i64) (([(0 : Int), 1, (0 : Int), (0 : Int), (0 : Int), (0 : Int), (0 : Int), (0 : Int), (0 : Int), (0 : Int), (0 : Int), (0 : Int), (0 : Int), (0 : Int), (0 : Int), (0 : Int)] : List Int))) [(1, .int .i64 1)] Tryd.underlying118 sz3 zr118 (fun _ V w o a hv hes => by simp only [List.map_toArray, List.map_cons, List.map_nil]; try rfl) (litfill (by simp [Instr.fill, Value.cells]; rfl) (by simp))),
   st_plain rfl (op_alloc_arr _ za118),
   st_plain rfl (op_storeA_arr _ _ _ _ (sz118.trans (congrArg some (ln_len hv2))) rfl rfl (ln_ones (fun _ => rfl) _) ((ln_len (f := Value.int .i64) hv1).symm.trans (ln_len (f := Value.int .i64) hv2))),
   trivial⟩ ?_
  refine pt_then ?_
  refine ht_seq ?_
  refine ht_joinS h (fun (s12 : Bool) => [(2, .v (.bool s12))]) ?_ ?_
  ·rintro s12 h
   refine pt_then ?_
   refine ht_ret ?_
   obtain rfl := Option.some.inj h
   exact pt_ret hio rfl (.tmp _ _ .nil) rfl rfl
  ·intro u13 h hl14 hr15
   obtain ⟨v3, hv3, h⟩ := bind_some h
   obtain ⟨v4, hv4, h⟩ := bind_some h
   obtain ⟨v5, hv5, h⟩ := bind_some h
   refine cond_some h (fun hg2_3 h => ?_) (fun hg2_3 h => ?_)
   ·refine ht_seqR hn (El := (_ :: _ :: (5, .v (.agg (List.map (Value.int .i64) c).toArray)) :: (6, .v (.agg (List.map (Value.int .i64) (([(0 : Int), (0 : Int), (0 : Int), (0 : Int), (0 : Int), (0 : Int), (0 : Int), (0 : Int), (0 : Int), (0 : Int), (0 : Int), (0 : Int), (0 : Int), (0 : Int), (0 : Int), (0 : Int)] : List Int))).toArray)) :: (7, .v (.bool ((c == (([(0 : Int), (0 : Int), (0 : Int), (0 : Int), (0 : Int), (0 : Int), (0 : Int), (0 : Int), (0 : Int), (0 : Int), (0 : Int), (0 : Int), (0 : Int), (0 : Int), (0 : Int), (0 : Int)] : List Int)))))) :: (8, .v (.bool true)) :: (9, .v undef) :: (10, .v undef) :: (11, .v undef) :: (12, .v (.bool true)) :: (13, .v (.bool true)) :: (14, .v undef) :: (15, .v undef) :: (16, .v undef) :: (17, .v (.bool true)) :: (2, .v (.bool true)) :: [])) (init := [0, 1]) (fin := [15]) (sps := [⟨[0], [], [2], [(.slot 5)]⟩, ⟨[], [], [3], [(.slot 6)]⟩, ⟨[2, 3], [], [4], [(.slot 7)]⟩, ⟨[4], [], [5], [(.slot 8)]⟩, ⟨[5], [], [6], [(.slot 9)]⟩, ⟨[5], [], [7], [(.slot 10)]⟩, ⟨[5], [], [8], [(.slot 11)]⟩, ⟨[5], [], [9], [(.slot 12)]⟩, ⟨[9], [], [10], [(.slot 13)]⟩, ⟨[10], [], [11], [(.slot 14)]⟩, ⟨[10], [], [12], [(.slot 15)]⟩, ⟨[10], [], [13], [(.slot 16)]⟩, ⟨[10], [], [14], [(.slot 17)]⟩, ⟨[14], [], [15], [(.slot 2)]⟩]) (es' := [(2, .v (.bool true))]) (by kernel_rfl) rfl rfl
     ⟨st_plain rfl (op_loadA_arr _ _ _ _ Tryd.underlying118 rfl (sz118.trans (congrArg some (ln_len hv3))) rfl rfl),
     st_plain rfl (op_build_arr _ _ (.agg #[.int .i64 0, .int .i64 0, .int .i64 0, .int .i64 0, .int .i64 0, .int .i64 0, .int .i64 0, .int .i64 0, .int .i64 0, .int .i64 0, .int .i64 0, .int .i64 0, .int .i64 0, .int .i64 0, .int .i64 0, .int .i64 0]) (List.map (Value.int .i64) (([(0 : Int), (0 : Int), (0 : Int), (0 : Int), (0 : Int), (0 : Int), (0 : Int), (0 : Int), (0 : Int), (0 : Int), (0 : Int), (0 : Int), (0 : Int), (0 : Int), (0 : Int), (0 : Int)] : List Int))) [] Tryd.underlying118 sz3 zr118 (fun _ V w o a hv hes => by simp only [List.map_toArray, List.map_cons, List.map_nil]; try rfl) (litfill (by simp [Instr.fill, Value.cells]; rfl) (by simp))),
     st_plain rfl (op_eq_arr _ _ _ Tryd.underlying118 Tryd.underlying3 (i := Tryd.t3) (by kernel_rfl) (by kernel_rfl) (by kernel_rfl) rfl rfl (ln_n hv4) (ln_n hv5) rfl),
     st_plain rfl (op_move _ _ _ _ (congrArg (fun b => AV.v (Value.bool b)) hg2_3) rfl),
     st_skip 3 8 _ false rfl rfl rfl rfl (List.Mem.head _),
     st_skip 3 8 _ false rfl rfl rfl rfl (List.Mem.head _),
     st_skip 3 8 _ false rfl rfl rfl rfl (List.Mem.head _),
     st_plain rfl (op_pick _ _ true _ rfl rfl),
     st_plain rfl (op_move _ _ _ _ rfl rfl),
     st_skip 8 13 _ false rfl rfl rfl rfl (List.Mem.head _),
     st_skip 8 13 _ false rfl rfl rfl rfl (List.Mem.head _),
     st_skip 8 13 _ false rfl rfl rfl rfl (List.Mem.head _),
     st_plain rfl (op_pick _ _ true _ rfl rfl),
     st_plain rfl (op_assign _ _ _ _ rfl rfl),
     trivial⟩ ?_
    exact hl14 _ (Option.some.inj h).symm
   ·obtain ⟨v6, hv6, h⟩ := bind_some h
    obtain ⟨v7, hv7, h⟩ := bind_some h
    obtain ⟨v8, hv8, h⟩ := bind_some h
    obtain ⟨v9, hv9, h⟩ := bind_some h
    refine cond_some h (fun hg2_8 h => ?_) (fun hg2_8 h => ?_)
    ·refine ht_seqR hn (El := (_ :: _ :: (5, .v (.agg (List.map (Value.int .i64) c).toArray)) :: (6, .v (.agg (List.map (Value.int .i64) (([(0 : Int), (0 : Int), (0 : Int), (0 : Int), (0 : Int), (0 : Int), (0 : Int), (0 : Int), (0 : Int), (0 : Int), (0 : Int), (0 : Int), (0 : Int), (0 : Int), (0 : Int), (0 : Int)] : List Int))).toArray)) :: (7, .v (.bool ((c == (([(0 : Int), (0 : Int), (0 : Int), (0 : Int), (0 : Int), (0 : Int), (0 : Int), (0 : Int), (0 : Int), (0 : Int), (0 : Int), (0 : Int), (0 : Int), (0 : Int), (0 : Int), (0 : Int)] : List Int)))))) :: (8, .v (.bool false)) :: (9, .v (.agg (List.map (Value.int .i64) c).toArray)) :: (10, .v (.agg (List.map (Value.int .i64) (([(0 : Int), 1, (0 : Int), (0 : Int), (0 : Int), (0 : Int), (0 : Int), (0 : Int), (0 : Int), (0 : Int), (0 : Int), (0 : Int), (0 : Int), (0 : Int), (0 : Int), (0 : Int)] : List Int))).toArray)) :: (11, .v (.bool ((c == (([(0 : Int), 1, (0 : Int), (0 : Int), (0 : Int), (0 : Int), (0 : Int), (0 : Int), (0 : Int), (0 : Int), (0 : Int), (0 : Int), (0 : Int), (0 : Int), (0 : Int), (0 : Int)] : List Int)))))) :: (12, .v (.bool ((c == (([(0 : Int), 1, (0 : Int), (0 : Int), (0 : Int), (0 : Int), (0 : Int), (0 : Int), (0 : Int), (0 : Int), (0 : Int), (0 : Int), (0 : Int), (0 : Int), (0 : Int), (0 : Int)] : List Int)))))) :: (13, .v (.bool true)) :: (14, .v undef) :: (15, .v undef) :: (16, .v undef) :: (17, .v (.bool true)) :: (2, .v (.bool true)) :: [])) (init := [0, 1]) (fin := [15]) (sps := [⟨[0], [], [2], [(.slot 5)]⟩, ⟨[], [], [3], [(.slot 6)]⟩, ⟨[2, 3], [], [4], [(.slot 7)]⟩, ⟨[4], [], [5], [(.slot 8)]⟩, ⟨[5, 0], [], [6], [(.slot 9)]⟩, ⟨[5, 1], [], [7], [(.slot 10)]⟩, ⟨[5, 6, 7], [], [8], [(.slot 11)]⟩, ⟨[5, 8], [], [9], [(.slot 12)]⟩, ⟨[9], [], [10], [(.slot 13)]⟩, ⟨[10], [], [11], [(.slot 14)]⟩, ⟨[10], [], [12], [(.slot 15)]⟩, ⟨[10], [], [13], [(.slot 16)]⟩, ⟨[10], [], [14], [(.slot 17)]⟩, ⟨[14], [], [15], [(.slot 2)]⟩]) (es' := [(2, .v (.bool true))]) (by kernel_rfl) rfl rfl
      ⟨st_plain rfl (op_loadA_arr _ _ _ _ Tryd.underlying118 rfl (sz118.trans (congrArg some (ln_len hv3))) rfl rfl),
      st_plain rfl (op_build_arr _ _ (.agg #[.int .i64 0, .int .i64 0, .int .i64 0, .int .i64 0, .int .i64 0, .int .i64 0, .int .i64 0, .int .i64 0, .int .i64 0, .int .i64 0, .int .i64 0, .int .i64 0, .int .i64 0, .int .i64 0, .int .i64 0, .int .i64 0]) (List.map (Value.int .i64) (([(0 : Int), (0 : Int), (0 : Int), (0 : Int), (0 : Int), (0 : Int), (0 : Int), (0 : Int), (0 : Int), (0 : Int), (0 : Int), (0 : Int), (0 : Int), (0 : Int), (0 : Int), (0 : Int)] : List Int))) [] Tryd.underlying118 sz3 zr118 (fun _ V w o a hv hes => by simp only [List.map_toArray, List.map_cons, List.map_nil]; try rfl) (litfill (by simp [Instr.fill, Value.cells]; rfl) (by simp))),
      st_plain rfl (op_eq_arr _ _ _ Tryd.underlying118 Tryd.underlying3 (i := Tryd.t3) (by kernel_rfl) (by kernel_rfl) (by kernel_rfl) rfl rfl (ln_n hv4) (ln_n hv5) rfl),
      st_plain rfl (op_move _ _ _ _ (congrArg (fun b => AV.v (Value.bool b)) hg2_3) rfl),
      st_run 3 8 false rfl rfl rfl (List.Mem.head _) (op_loadA_arr _ _ _ _ Tryd.underlying118 rfl (sz118.trans (congrArg some (ln_len hv6))) rfl rfl),
      st_run 3 8 false rfl rfl rfl (List.Mem.head _) (op_loadA_arr _ _ _ _ Tryd.underlying118 rfl (sz118.trans (congrArg some (ln_len hv7))) rfl rfl),
      st_run 3 8 false rfl rfl rfl (List.Mem.head _) (op_eq_arr _ _ _ Tryd.underlying118 Tryd.underlying3 (i := Tryd.t3) (by kernel_rfl) (by kernel_rfl) (by kernel_rfl) rfl rfl (ln_n hv8) (ln_n hv9) rfl),
      st_plain rfl (op_pick _ _ false _ rfl rfl),
      st_plain rfl (op_move _ _ _ _ (congrArg (fun b => AV.v (Value.bool b)) hg2_8) rfl),
      st_skip 8 13 _ false rfl rfl rfl rfl (List.Mem.head _),
      st_skip 8 13 _ false rfl rfl rfl rfl (List.Mem.head _),
      st_skip 8 13 _ false rfl rfl rfl rfl (List.Mem.head _),
      st_plain rfl (op_pick _ _ true _ rfl rfl),
      st_plain rfl (op_assign _ _ _ _ rfl rfl),
      trivial⟩ ?_
     exact hl14 _ (Option.some.inj h).symm
    ·obtain ⟨v10, hv10, h⟩ := bind_some h
     obtain ⟨v11, hv11, h⟩ := bind_some h
     refine ht_seqR hn (El := (_ :: _ :: (5, .v (.agg (List.map (Value.int .i64) c).toArray)) :: (6, .v (.agg (List.map (Value.int .i64) (([(0 : Int), (0 : Int), (0 : Int), (0 : Int), (0 : Int), (0 : Int), (0 : Int), (0 : Int), (0 : Int), (0 : Int), (0 : Int), (0 : Int), (0 : Int), (0 : Int), (0 : Int), (0 : Int)] : List Int))).toArray)) :: (7, .v (.bool ((c == (([(0 : Int), (0 : Int), (0 : Int), (0 : Int), (0 : Int), (0 : Int), (0 : Int), (0 : Int), (0 : Int), (0 : Int), (0 : Int), (0 : Int), (0 : Int), (0 : Int), (0 : Int), (0 : Int)] : List Int)))))) :: (8, .v (.bool false)) :: (9, .v (.agg (List.map (Value.int .i64) c).toArray)) :: (10, .v (.agg (List.map (Value.int .i64) (([(0 : Int), 1, (0 : Int), (0 : Int), (0 : Int), (0 : Int), (0 : Int), (0 : Int), (0 : Int), (0 : Int), (0 : Int), (0 : Int), (0 : Int), (0 : Int), (0 : Int), (0 : Int)] : List Int))).toArray)) :: (11, .v (.bool ((c == (([(0 : Int), 1, (0 : Int), (0 : Int), (0 : Int), (0 : Int), (0 : Int), (0 : Int), (0 : Int), (0 : Int), (0 : Int), (0 : Int), (0 : Int), (0 : Int), (0 : Int), (0 : Int)] : List Int)))))) :: (12, .v (.bool ((c == (([(0 : Int), 1, (0 : Int), (0 : Int), (0 : Int), (0 : Int), (0 : Int), (0 : Int), (0 : Int), (0 : Int), (0 : Int), (0 : Int), (0 : Int), (0 : Int), (0 : Int), (0 : Int)] : List Int)))))) :: (13, .v (.bool false)) :: (14, .v (.agg (List.map (Value.int .i64) c).toArray)) :: (15, .v (.int .i64 v11)) :: (16, .v (.bool (v11 == 32768))) :: (17, .v (.bool (v11 == 32768))) :: (2, .v (.bool (v11 == 32768))) :: [])) (init := [0, 1]) (fin := [15]) (sps := [⟨[0], [], [2], [(.slot 5)]⟩, ⟨[], [], [3], [(.slot 6)]⟩, ⟨[2, 3], [], [4], [(.slot 7)]⟩, ⟨[4], [], [5], [(.slot 8)]⟩, ⟨[5, 0], [], [6], [(.slot 9)]⟩, ⟨[5, 1], [], [7], [(.slot 10)]⟩, ⟨[5, 6, 7], [], [8], [(.slot 11)]⟩, ⟨[5, 8], [], [9], [(.slot 12)]⟩, ⟨[9], [], [10], [(.slot 13)]⟩, ⟨[10, 0], [], [11], [(.slot 14)]⟩, ⟨[10, 11], [], [12], [(.slot 15)]⟩, ⟨[10, 12], [], [13], [(.slot 16)]⟩, ⟨[10, 13], [], [14], [(.slot 17)]⟩, ⟨[14], [], [15], [(.slot 2)]⟩]) (es' := [(2, .v (.bool (v11 == 32768)))]) (by kernel_rfl) rfl rfl
      ⟨st_plain rfl (op_loadA_arr _ _ _ _ Tryd.underlying118 rfl (sz118.trans (congrArg some (ln_len hv3))) rfl rfl),
      st_plain rfl (op_build_arr _ _ (.agg #[.int .i64 0, .int .i64 0, .int .i64 0, .int .i64 0, .int .i64 0, .int .i64 0, .int .i64 0, .int .i64 0, .int .i64 0, .int .i64 0, .int .i64 0, .int .i64 0, .int .i64 0, .int .i64 0, .int .i64 0, .int .i64 0]) (List.map (Value.int .i64) (([(0 : Int), (0 : Int), (0 : Int), (0 : Int), (0 : Int), (0 : Int), (0 : Int), (0 : Int), (0 : Int), (0 : Int), (0 : Int), (0 : Int), (0 : Int), (0 : Int), (0 : Int), (0 : Int)] : List Int))) [] Tryd.underlying118 sz3 zr118 (fun _ V w o a hv hes => by simp only [List.map_toArray, List.map_cons, List.map_nil]; try rfl) (litfill (by simp [Instr.fill, Value.cells]; rfl) (by simp))),
      st_plain rfl (op_eq_arr _ _ _ Tryd.underlying118 Tryd.underlying3 (i := Tryd.t3) (by kernel_rfl) (by kernel_rfl) (by kernel_rfl) rfl rfl (ln_n hv4) (ln_n hv5) rfl),
      st_plain rfl (op_move _ _ _ _ (congrArg (fun b => AV.v (Value.bool b)) hg2_3) rfl),
      st_run 3 8 false rfl rfl rfl (List.Mem.head _) (op_loadA_arr _ _ _ _ Tryd.underlying118 rfl (sz118.trans (congrArg some (ln_len hv6))) rfl rfl),
      st_run 3 8 false rfl rfl rfl (List.Mem.head _) (op_loadA_arr _ _ _ _ Tryd.underlying118 rfl (sz118.trans (congrArg some (ln_len hv7))) rfl rfl),
      st_run 3 8 false rfl rfl rfl (List.Mem.head _) (op_eq_arr _ _ _ Tryd.underlying118 Tryd.underlying3 (i := Tryd.t3) (by kernel_rfl) (by kernel_rfl) (by kernel_rfl) rfl rfl (ln_n hv8) (ln_n hv9) rfl),
      st_plain rfl (op_pick _ _ false _ rfl rfl),
      st_plain rfl (op_move _ _ _ _ (congrArg (fun b => AV.v (Value.bool b)) hg2_8) rfl),
      st_run 8 13 false rfl rfl rfl (List.Mem.head _) (op_loadA_arr _ _ _ _ Tryd.underlying118 rfl (sz118.trans (congrArg some (ln_len hv10))) rfl rfl),
      st_run 8 13 false rfl rfl rfl (List.Mem.head _) (op_call _ _ 91 _ _ rfl Tryd.call91 rfl (ok_canon_tally_weight c _ hv11) rfl rfl),
      st_run 8 13 false rfl rfl rfl (List.Mem.head _) (op_bin _ _ _ _ _ rfl rfl rfl),
      st_plain rfl (op_pick _ _ false _ rfl rfl),
      st_plain rfl (op_assign _ _ _ _ rfl rfl),
      trivial⟩ ?_
     exact hl14 _ (Option.some.inj h).symm

set_option maxHeartbeats 1000000 in
theorem ok_canon_Check (lengths : (List Int)) (r : Int) (h : Sh.canon_Check lengths = some r) : FnOK Tryd.prog 66 [.fl .shr 1 (List.map (Value.int .i64) lengths)] (.v (.int .i64 r)) := by
  unfold Sh.canon_Check at h
  refine fn_ok Tryd.func66 rfl (Nat.le_of_ble_eq_true rfl) rfl rfl fun g0 hn hio => ?_
  refine ht_seq ?_
  refine ht_seqR hn (El := [_, (2, .v (.int .i64 0))]) (init := [0]) (fin := [0]) (sps := [⟨[], [], [1], [(.slot 2)]⟩]) (es' := [(_, _)]) (by kernel_rfl) rfl rfl
   ⟨st_plain rfl (op_assign _ _ _ _ rfl rfl),
   trivial⟩ ?_
  refine pt_then ?_
  refine ht_seq ?_
  refine ht_seq ?_
  obtain ⟨v1, hv1, h⟩ := bind_some h
  refine ht_seqR hn (El := [_, (3, .fl .shr 1 (List.map (Value.int .i64) lengths)), (4, .v (.bool v1)), (5, .v (.bool (!v1)))]) (init := [0]) (fin := [0, 3]) (sps := [⟨[0], [], [1], [(.slot 3)]⟩, ⟨[1], [], [2], [(.slot 4)]⟩, ⟨[2], [], [3], [(.slot 5)]⟩]) (es' := [(_, _), (5, .v (.bool (!v1)))]) (by kernel_rfl) rfl rfl
   ⟨st_plain rfl (op_move _ _ _ _ rfl rfl),
   st_plain rfl (op_call _ _ 83 _ _ rfl Tryd.call83 rfl (ok_canon_valid lengths _ hv1) rfl rfl),
   st_plain rfl (op_un _ _ _ _ rfl rfl),
   trivial⟩ ?_
  refine pt_then ?_
  refine ht_cond _ rfl (fun hb2 => ?_) (fun hb2 => ?_)
  ·have h := cond_t hb2 h
   refine ht_seq ?_
   refine ht_seqR hn (El := [_, _, (2, .v (.int .i64 1))]) (init := [0, 1]) (fin := [2]) (sps := [⟨[], [], [2], [(.slot 2)]⟩]) (es' := [(2, .v (.int .i64 1))]) (by kernel_rfl) rfl rfl
    ⟨st_plain rfl (op_assign _ _ _ _ rfl rfl),
    trivial⟩ ?_
   refine pt_then ?_
   refine ht_ret ?_
   refine pt_r_then ?_
   obtain rfl := Option.some.inj h
   exact pt_ret hio rfl (.tmp _ _ .nil) rfl rfl
  ·have h := cond_f hb2 h
   refine ht_skip ?_
   refine pt_then ?_
   refine ht_seq ?_
   refine ht_seq ?_
   obtain ⟨v3, hv3, h⟩ := bind_some h
   obtain ⟨v4, hv4, h⟩ := bind_some h
   refine ht_seqR hn (El := [_, _, (6, .fl .shr 1 (List.map (Value.int .i64) lengths)), (7, .v (.agg (List.map (Value.int .i64) v3).toArray)), (8, .v (.bool v4)), (9, .v (.bool (!v4)))]) (init := [0, 1]) (fin := [5]) (sps := [⟨[0], [], [2], [(.slot 6)]⟩, ⟨[2], [], [3], [(.slot 7)]⟩, ⟨[3], [], [4], [(.slot 8)]⟩, ⟨[4], [], [5], [(.slot 9)]⟩]) (es' := [(9, .v (.bool (!v4)))]) (by kernel_rfl) rfl rfl
    ⟨st_plain rfl (op_move _ _ _ _ rfl rfl),
    st_plain rfl (op_call _ _ 68 _ _ rfl Tryd.call68 rfl (ok_canon_count lengths _ hv3) rfl rfl),
    st_plain rfl (op_call _ _ 84 _ _ rfl Tryd.call84 rfl (ok_canon_forms v3 _ hv4) rfl rfl),
    st_plain rfl (op_un _ _ _ _ rfl rfl),
    trivial⟩ ?_
   refine pt_then ?_
   refine ht_cond _ rfl (fun hb5 => ?_) (fun hb5 => ?_)
   ·have h := cond_t hb5 h
    refine ht_seq ?_
    refine ht_seqR hn (El := [_, (2, .v (.int .i64 4))]) (init := [0]) (fin := [1]) (sps := [⟨[], [], [1], [(.slot 2)]⟩]) (es' := [(2, .v (.int .i64 4))]) (by kernel_rfl) rfl rfl
     ⟨st_plain rfl (op_assign _ _ _ _ rfl rfl),
     trivial⟩ ?_
    refine pt_then ?_
    refine ht_ret ?_
    refine pt_r_then ?_
    obtain rfl := Option.some.inj h
    exact pt_ret hio rfl (.tmp _ _ .nil) rfl rfl
   ·have h := cond_f hb5 h
    refine ht_skip ?_
    refine pt_then ?_
    refine ht_seq ?_
    refine ht_seqR hn (El := [_, (2, .v (.int .i64 0))]) (init := [0]) (fin := [1]) (sps := [⟨[], [], [1], [(.slot 2)]⟩]) (es' := [(2, .v (.int .i64 0))]) (by kernel_rfl) rfl rfl
     ⟨st_plain rfl (op_assign _ _ _ _ rfl rfl),
     trivial⟩ ?_
    refine pt_then ?_
    refine ht_ret ?_
    obtain rfl := Option.some.inj h
    exact pt_ret hio rfl (.tmp _ _ .nil) rfl rfl

set_option maxHeartbeats 1000000 in
theorem ok_canon_firsts (c : (List Int)) (r : (List Int)) (h : Sh.canon_firsts c = some r) : FnOK Tryd.prog 67 [.v (.agg (List.map (Value.int .i64) c).toArray)] (.v (.agg (List.map (Value.int .i64) r).toArray)) := by
  unfold Sh.canon_firsts at h
  refine fn_ok Tryd.func67 rfl (Nat.le_of_ble_eq_true rfl) rfl rfl fun g0 hn hio => ?_
  refine ht_seq ?_
  refine ht_seqR hn (El := [_, (1, .arr 118 (List.map (Value.int .i64) c)), (2, .arr 118 (List.map (Value.int .i64) ((List.replicate 16 (0 : Int)))))]) (init := [0]) (fin := [1, 2]) (sps := [⟨[0], [], [1], [(.slot 1)]⟩, ⟨[], [], [2], [(.slot 2)]⟩]) (es' := [(1, .arr 118 (List.map (Value.int .i64) c)), (2, .arr 118 (List.map (Value.int .i64) ((List.replicate 16 (0 : Int)))))]) (by kernel_rfl) rfl rfl
   ⟨st_plain rfl (op_box_arr _ _ _ rfl),
   st_plain rfl (op_alloc_arr _ za118),
   trivial⟩ ?_
  refine pt_then ?_
  refine ht_seq ?_
  refine ht_seqR hn (El := [_, _, (3, .arr 118 (List.map (Value.int .i64) ((List.replicate 16 (0 : Int)))))]) (init := [0, 1]) (fin := [0, 1, 2]) (sps := [⟨[], [], [2], [(.slot 3)]⟩]) (es' := [(_, _), (_, _), (3, .arr 118 (List.map (Value.int .i64) ((List.replicate 16 (0 : Int)))))]) (by kernel_rfl) rfl rfl
   ⟨st_plain rfl (op_alloc_arr _ za118),
   trivial⟩ ?_
  refine pt_then ?_
  refine ht_seq ?_
  refine ht_seq ?_
  refine ht_seqR hn (El := [_, _, _, (4, .v (.int .i64 2))]) (init := [0, 1, 2]) (fin := [0, 1, 2, 3]) (sps := [⟨[], [], [3], [(.slot 4)]⟩]) (es' := [(_, _), (_, _), (_, _), (4, .v (.int .i64 2))]) (by kernel_rfl) rfl rfl
   ⟨st_plain rfl (op_assign _ _ _ _ rfl rfl),
   trivial⟩ ?_
  refine pt_then ?_
  refine ht_loopS h (fun ((s16, s17) : (List Int) × Int) => [(1, .arr 118 (List.map (Value.int .i64) c)), (2, .arr 118 (List.map (Value.int .i64) ((List.replicate 16 (0 : Int))))), (3, .arr 118 (List.map (Value.int .i64) s16)), (4, .v (.int .i64 s17))]) (fun (s19 : (List Int)) => [(2, .arr 118 (List.map (Value.int .i64) ((List.replicate 16 (0 : Int))))), (3, .arr 118 (List.map (Value.int .i64) s19))]) ?_ ?_
  ·rintro s19 h
   refine pt_then ?_
   refine ht_seq ?_
   obtain ⟨v27, hv27, h⟩ := bind_some h
   obtain ⟨v28, hv28, h⟩ := bind_some h
   obtain ⟨v29, hv29, h⟩ := bind_some h
   refine ht_seqR hn (El := [_, _, (21, .v (.agg (List.map (Value.int .i64) s19).toArray)), (2, .arr 118 (List.map (Value.int .i64) s19))]) (init := [0, 1]) (fin := [3]) (sps := [⟨[1], [], [2], [(.slot 21)]⟩, ⟨[2], [0], [3], []⟩]) (es' := [(2, .arr 118 (List.map (Value.int .i64) s19))]) (by kernel_rfl) rfl rfl
    ⟨st_plain rfl (op_loadA_arr _ _ _ _ Tryd.underlying118 rfl (sz118.trans (congrArg some (ln_len hv27))) rfl rfl),
    st_plain rfl (op_storeA_arr _ _ _ _ (sz118.trans (congrArg some (ln_len hv29))) rfl rfl (ln_ones (fun _ => rfl) _) ((ln_len (f := Value.int .i64) hv28).symm.trans (ln_len (f := Value.int .i64) hv29))),
    trivial⟩ ?_
   refine pt_then ?_
   refine ht_ret ?_
   obtain ⟨v30, hv30, h⟩ := bind_some h
   obtain rfl := Option.some.inj h
   exact pt_ret hio rfl (.cellR _ _ _ _ Tryd.underlying118 rfl (sz118.trans (congrArg some (ln_len hv30))) .nil) rfl rfl
  ·rintro u20 hl21 hr22 ⟨s16, s17⟩ rr25 h ho23
   refine ht_seq ?_
   refine ht_seq ?_
   refine ht_seqR hn (El := [_, _, _, _, (5, .v (.int .i64 s17)), (6, .v (.bool ((decide (s17 ≤ 15)))))]) (init := [0, 1, 2, 3]) (fin := [0, 1, 2, 3, 5]) (sps := [⟨[3], [], [4], [(.slot 5)]⟩, ⟨[4], [], [5], [(.slot 6)]⟩]) (es' := [(_, _), (_, _), (_, _), (_, _), (6, .v (.bool ((decide (s17 ≤ 15)))))]) (by kernel_rfl) rfl rfl
    ⟨st_plain rfl (op_move _ _ _ _ rfl rfl),
    st_plain rfl (op_bin _ _ _ _ _ rfl rfl rfl),
    trivial⟩ ?_
   refine pt_then ?_
   refine ht_cond _ rfl (fun hb26 => ?_) (fun hb26 => ?_)
   ·have h := cond_t hb26 h
    refine ht_skip ?_
    refine pt_then ?_
    refine ht_seq ?_
    refine ht_block ?_
    obtain ⟨v2, hv2, h⟩ := bind_some h
    obtain ⟨v3, hv3, h⟩ := bind_some h
    obtain ⟨v4, hv4, h⟩ := bind_some h
    obtain ⟨v5, hv5, h⟩ := bind_some h
    obtain ⟨v6, hv6, h⟩ := bind_some h
    obtain ⟨v7, hv7, h⟩ := bind_some h
    obtain ⟨v8, hv8, h⟩ := bind_some h
    obtain ⟨v9, hv9, h⟩ := bind_some h
    obtain ⟨v10, hv10, h⟩ := bind_some h
    obtain ⟨v11, hv11, h⟩ := bind_some h
    refine ht_anyR (by kernel_rfl) hn (El := (_ :: _ :: _ :: _ :: _ :: (9, .v (.int .i64 s17)) :: (10, .v (.int .i64 s17)) :: (11, .v (.int .i64 v2)) :: (12, .ptr 3 v3) :: (13, .v (.int .i64 v4)) :: (14, .v (.int .i64 s17)) :: (15, .v (.int .i64 v5)) :: (16, .ptr 1 v6) :: (17, .v (.int .i64 v7)) :: (18, .v (.int .i64 v8)) :: (19, .v (.int .i64 v9)) :: (20, .ptr 3 v10) :: (3, .arr 118 (List.map (Value.int .i64) v11)) :: [])) (init := [0, 1, 2, 3, 4]) (fin := [0, 1, 17, 3]) (sps := [⟨[3], [], [5], [(.slot 9)]⟩, ⟨[3], [], [6], [(.slot 10)]⟩, ⟨[6], [], [7], [(.slot 11)]⟩, ⟨[2, 7], [], [8], [(.slot 12)]⟩, ⟨[8, 2], [], [9], [(.slot 13)]⟩, ⟨[3], [], [10], [(.slot 14)]⟩, ⟨[10], [], [11], [(.slot 15)]⟩, ⟨[0, 11], [], [12], [(.slot 16)]⟩, ⟨[12, 0], [], [13], [(.slot 17)]⟩, ⟨[9, 13], [], [14], [(.slot 18)]⟩, ⟨[14], [], [15], [(.slot 19)]⟩, ⟨[2, 5], [], [16], [(.slot 20)]⟩, ⟨[16, 15], [2], [17], []⟩]) (es' := [(_, _), (_, _), (3, .arr 118 (List.map (Value.int .i64) v11)), (_, _)]) (by kernel_rfl) rfl rfl
     ⟨st_plain rfl (op_move _ _ _ _ rfl rfl),
     st_plain rfl (op_move _ _ _ _ rfl rfl),
     st_plain rfl (op_bin _ _ _ _ _ rfl rfl (ibind (f := Value.int .i64) (Option.some.inj hv2))),
     st_plain rfl (op_ix_arr _ _ _ _ 16 3 _ Tryd.underlying118 sz3 rfl rfl (ix_ok hv3).1 (ix_ok hv3).2 (by decide)),
     st_plain rfl (op_load_arr _ _ _ _ _ _ Tryd.underlying3 rfl rfl rfl (map_get1 hv4)),
     st_plain rfl (op_move _ _ _ _ rfl rfl),
     st_plain rfl (op_bin _ _ _ _ _ rfl rfl (ibind (f := Value.int .i64) (Option.some.inj hv5))),
     st_plain rfl (op_ix_arr _ _ _ _ 16 1 _ Tryd.underlying118 sz3 rfl rfl (ix_ok hv6).1 (ix_ok hv6).2 (by decide)),
     st_plain rfl (op_load_arr _ _ _ _ _ _ Tryd.underlying3 rfl rfl rfl (map_get1 hv7)),
     st_plain rfl (op_bin _ _ _ _ _ rfl rfl (ibind (f := Value.int .i64) (Option.some.inj hv8))),
     st_plain rfl (op_bin _ _ _ _ _ rfl rfl (ibind (f := Value.int .i64) (Option.some.inj hv9))),
     st_plain rfl (op_ix_arr _ _ _ _ 16 3 _ Tryd.underlying118 sz3 rfl rfl (ix_ok hv10).1 (ix_ok hv10).2 (by decide)),
     st_plain rfl (op_store_arr _ _ _ _ _ _ sz3 rfl rfl rfl rfl (set_lt hv11) (set_eq (f := Value.int .i64) hv11)),
     trivial⟩ ?_
    refine pt_inb ?_
    refine pt_then ?_
    obtain ⟨v12, hv12, h⟩ := bind_some h
    refine ht_seqR hn (El := [_, _, _, _, (7, .v (.int .i64 s17)), (8, .v (.int .i64 v12)), (4, .v (.int .i64 v12))]) (init := [0, 1, 2, 3]) (fin := [0, 1, 2, 6]) (sps := [⟨[3], [], [4], [(.slot 7)]⟩, ⟨[4], [], [5], [(.slot 8)]⟩, ⟨[5], [3], [6], [(.slot 4)]⟩]) (es' := [(_, _), (_, _), (_, _), (4, .v (.int .i64 v12))]) (by kernel_rfl) rfl rfl
     ⟨st_plain rfl (op_move _ _ _ _ rfl rfl),
     st_plain rfl (op_bin _ _ _ _ _ rfl rfl (ibind (f := Value.int .i64) (Option.some.inj hv12))),
     st_plain rfl (LOp.drop [_] (op_assign _ _ _ _ rfl rfl)),
     trivial⟩ ?_
    exact pt_next _ (Option.some.inj h).symm rfl
   ·have h := cond_f hb26 h
    refine ht_exit ?_
    refine pt_x_then ?_
    refine pt_x_then ?_
    refine pt_x_in ?_
    refine pt_pick [1, 2] (by kernel_rfl) (es' := [(_, _), (_, _)]) rfl ?_
    exact hl21 _ (ho23 _ (Option.some.inj h).symm).symm

set_option maxHeartbeats 1000000 in
theorem ok_canon_nth (lengths : (List Int)) (n : Int) (k : Int) (r : Int) (h : Sh.canon_nth lengths n k = some r) : FnOK Tryd.prog 94 [.fl .shr 1 (List.map (Value.int .i64) lengths), .v (.int .i64 n), .v (.int .i64 k)] (.v (.int .i64 r)) := by
  unfold Sh.canon_nth at h
  refine fn_ok Tryd.func94 rfl (Nat.le_of_ble_eq_true rfl) rfl rfl fun g0 hn hio => ?_
  refine ht_seq ?_
  refine ht_seqR hn (El := [_, _, _, (6, .v (.int .i64 0))]) (init := [0, 1, 2]) (fin := [0, 1, 2]) (sps := [⟨[], [], [3], [(.slot 6)]⟩]) (es' := [(_, _), (_, _), (_, _)]) (by kernel_rfl) rfl rfl
   ⟨st_plain rfl (op_assign _ _ _ _ rfl rfl),
   trivial⟩ ?_
  refine pt_then ?_
  refine ht_seq ?_
  refine ht_seq ?_
  refine ht_seqR hn (El := [_, _, _, (9, .fl .shr 1 (List.map (Value.int .i64) lengths)), (10, .v (.int .i64 (lengths.length : Int))), (11, .v (.int .i64 0))]) (init := [0, 1, 2]) (fin := [1, 2, 3, 4, 5]) (sps := [⟨[0], [], [3], [(.slot 9)]⟩, ⟨[3], [], [4], [(.slot 10)]⟩, ⟨[], [], [5], [(.slot 11)]⟩]) (es' := [(_, _), (_, _), (9, .fl .shr 1 (List.map (Value.int .i64) lengths)), (10, .v (.int .i64 (lengths.length : Int))), (11, .v (.int .i64 0))]) (by kernel_rfl) rfl rfl
   ⟨st_plain rfl (op_move _ _ _ _ rfl rfl),
   st_plain rfl (op_len_fl _ _ _ Tryd.underlying73 rfl (by decide) (map_len _)),
   st_plain rfl (op_move _ _ _ _ rfl rfl),
   trivial⟩ ?_
  refine pt_then ?_
  refine ht_loopS h (fun ((s25, s26) : Int × Int) => [(1, .v (.int .i64 n)), (2, .v (.int .i64 s25)), (9, .fl .shr 1 (List.map (Value.int .i64) lengths)), (10, .v (.int .i64 (lengths.length : Int))), (11, .v (.int .i64 s26))]) (fun (() : Unit) => []) ?_ ?_
  ·rintro ⟨⟩ h
   refine pt_then ?_
   refine ht_seq ?_
   refine ht_seqR hn (El := [(6, .v (.int .i64 0))]) (init := []) (fin := [0]) (sps := [⟨[], [], [0], [(.slot 6)]⟩]) (es' := [(6, .v (.int .i64 0))]) (by kernel_rfl) rfl rfl
    ⟨st_plain rfl (op_assign _ _ _ _ rfl rfl),
    trivial⟩ ?_
   refine pt_then ?_
   refine ht_ret ?_
   obtain rfl := Option.some.inj h
   exact pt_ret hio rfl (.tmp _ _ .nil) rfl rfl
  ·rintro u36 hl37 hr38 ⟨s25, s26⟩ rr41 h ho39
   refine ht_seq ?_
   refine ht_seqR hn (El := [_, _, _, _, _, (12, .v (.bool ((decide (s26 < (lengths.length : Int))))))]) (init := [0, 1, 2, 3, 4]) (fin := [0, 1, 2, 3, 4, 5]) (sps := [⟨[4, 3], [], [5], [(.slot 12)]⟩]) (es' := [(_, _), (_, _), (_, _), (_, _), (_, _), (12, .v (.bool ((decide (s26 < (lengths.length : Int))))))]) (by kernel_rfl) rfl rfl
    ⟨st_plain rfl (op_bin _ _ _ _ _ rfl rfl rfl),
    trivial⟩ ?_
   refine pt_then ?_
   refine ht_seq ?_
   refine ht_cond _ rfl (fun hb42 => ?_) (fun hb42 => ?_)
   ·have h := cond_t hb42 h
    refine ht_skip ?_
    refine pt_then ?_
    refine ht_seq ?_
    refine ht_joinS h (fun (s45 : Int) => [(1, .v (.int .i64 n)), (2, .v (.int .i64 s45)), (9, .fl .shr 1 (List.map (Value.int .i64) lengths)), (10, .v (.int .i64 (lengths.length : Int))), (11, .v (.int .i64 s26))]) ?_ ?_
    ·rintro s45 h
     refine pt_then ?_
     obtain ⟨v13, hv13, h⟩ := bind_some h
     refine ht_seqR hn (El := [_, _, _, _, _, (24, .v (.int .i64 v13)), (11, .v (.int .i64 v13))]) (init := [0, 1, 2, 3, 4]) (fin := [0, 1, 2, 3, 6]) (sps := [⟨[4], [], [5], [(.slot 24)]⟩, ⟨[5], [4], [6], [(.slot 11)]⟩]) (es' := [(_, _), (_, _), (_, _), (_, _), (11, .v (.int .i64 v13))]) (by kernel_rfl) rfl rfl
      ⟨st_plain rfl (op_bin _ _ _ _ _ rfl rfl (ibind (f := Value.int .i64) (Option.some.inj hv13))),
      st_plain rfl (LOp.drop [_] (op_move _ _ _ _ rfl rfl)),
      trivial⟩ ?_
     exact pt_next _ (Option.some.inj h).symm rfl
    ·intro u46 h hl47 hr48
     refine ht_block ?_
     refine ht_seq ?_
     obtain ⟨v2, hv2, h⟩ := bind_some h
     obtain ⟨v3, hv3, h⟩ := bind_some h
     refine ht_seqR hn (El := [_, _, _, _, _, _, (13, .v (.int .i64 s26)), (14, .eref (.slot 9) (v2 * 1)), (15, .v (.int .i64 v3)), (7, .v (.int .i64 s26)), (8, .v (.int .i64 v3))]) (init := [0, 1, 2, 3, 4, 5]) (fin := [0, 1, 2, 3, 4, 9, 10]) (sps := [⟨[4], [], [6], [(.slot 13)]⟩, ⟨[2, 4], [], [7], [(.slot 14)]⟩, ⟨[7, 2], [], [8], [(.slot 15)]⟩, ⟨[6], [], [9], [(.slot 7)]⟩, ⟨[8], [], [10], [(.slot 8)]⟩]) (es' := [(_, _), (_, _), (_, _), (_, _), (_, _), (7, .v (.int .i64 s26)), (8, .v (.int .i64 v3))]) (by kernel_rfl) rfl rfl
      ⟨st_plain rfl (op_move _ _ _ _ rfl rfl),
      st_plain rfl (op_ix _ _ _ _ _ _ _ _ Tryd.underlying73 sz3 (by decide) rfl rfl rfl (ix_ok hv2).1 (map_lt (ix_ok hv2).2) rfl),
      st_plain rfl (op_load_e _ _ _ _ _ _ Tryd.underlying3 rfl rfl rfl (map_get hv3)),
      st_plain rfl (op_assign _ _ _ _ rfl rfl),
      st_plain rfl (op_assign _ _ _ _ rfl rfl),
      trivial⟩ ?_
     refine pt_then ?_
     refine ht_seq ?_
     refine ht_seq ?_
     refine ht_seqR hn (El := [_, _, _, _, _, _, _, (16, .v (.int .i64 v3)), (17, .v (.int .i64 n)), (18, .v (.bool (v3 != n)))]) (init := [0, 1, 2, 3, 4, 5, 6]) (fin := [0, 1, 2, 3, 4, 5, 9]) (sps := [⟨[6], [], [7], [(.slot 16)]⟩, ⟨[0], [], [8], [(.slot 17)]⟩, ⟨[7, 8], [], [9], [(.slot 18)]⟩]) (es' := [(_, _), (_, _), (_, _), (_, _), (_, _), (_, _), (18, .v (.bool (v3 != n)))]) (by kernel_rfl) rfl rfl
      ⟨st_plain rfl (op_move _ _ _ _ rfl rfl),
      st_plain rfl (op_move _ _ _ _ rfl rfl),
      st_plain rfl (op_bin _ _ _ _ _ rfl rfl rfl),
      trivial⟩ ?_
     refine pt_then ?_
     refine ht_cond _ rfl (fun hb49 => ?_) (fun hb49 => ?_)
     ·have h := cond_t hb49 h
      refine ht_exit ?_
      refine pt_x_then ?_
      refine pt_x_in ?_
      refine pt_pick [0, 1, 2, 3, 4] (by kernel_rfl) (es' := [(_, _), (_, _), (_, _), (_, _), (_, _)]) rfl ?_
      exact hl47 _ (Option.some.inj h).symm
     ·have h := cond_f hb49 h
      refine ht_skip ?_
      refine pt_then ?_
      refine ht_seq ?_
      refine ht_seq ?_
      refine ht_seqR hn (El := [_, _, _, _, _, _, _, (19, .v (.int .i64 s25)), (20, .v (.bool (s25 == 0)))]) (init := [0, 1, 2, 3, 4, 5, 6]) (fin := [0, 1, 2, 3, 4, 5, 8]) (sps := [⟨[1], [], [7], [(.slot 19)]⟩, ⟨[7], [], [8], [(.slot 20)]⟩]) (es' := [(_, _), (_, _), (_, _), (_, _), (_, _), (_, _), (20, .v (.bool (s25 == 0)))]) (by kernel_rfl) rfl rfl
       ⟨st_plain rfl (op_move _ _ _ _ rfl rfl),
       st_plain rfl (op_bin _ _ _ _ _ rfl rfl rfl),
       trivial⟩ ?_
      refine pt_then ?_
      refine ht_cond _ rfl (fun hb50 => ?_) (fun hb50 => ?_)
      ·have h := cond_t hb50 h
       refine ht_seq ?_
       refine ht_seqR hn (El := [_, _, _, _, _, _, _, (21, .v (.int .i64 s26)), (6, .v (.int .i64 s26))]) (init := [0, 1, 2, 3, 4, 5, 6]) (fin := [8]) (sps := [⟨[5], [], [7], [(.slot 21)]⟩, ⟨[7], [], [8], [(.slot 6)]⟩]) (es' := [(6, .v (.int .i64 s26))]) (by kernel_rfl) rfl rfl
        ⟨st_plain rfl (op_move _ _ _ _ rfl rfl),
        st_plain rfl (op_assign _ _ _ _ rfl rfl),
        trivial⟩ ?_
       refine pt_then ?_
       refine ht_ret ?_
       refine pt_r_then ?_
       refine pt_r_in ?_
       refine pt_r_then ?_
       refine pt_r_then ?_
       refine pt_r_in ?_
       refine pt_r_then ?_
       have h := hr48 _ (Option.some.inj h).symm
       have h := hr38 _ (ho39 _ (Option.some.inj h).symm).symm
       obtain rfl := Option.some.inj h
       exact pt_ret hio rfl (.tmp _ _ .nil) rfl rfl
      ·have h := cond_f hb50 h
       refine ht_skip ?_
       refine pt_then ?_
       obtain ⟨v6, hv6, h⟩ := bind_some h
       refine ht_seqR hn (El := [_, _, _, _, _, _, _, (22, .v (.int .i64 s25)), (23, .v (.int .i64 v6)), (2, .v (.int .i64 v6))]) (init := [0, 1, 2, 3, 4, 5, 6]) (fin := [0, 2, 3, 4, 9]) (sps := [⟨[1], [], [7], [(.slot 22)]⟩, ⟨[7], [], [8], [(.slot 23)]⟩, ⟨[8], [1], [9], [(.slot 2)]⟩]) (es' := [(_, _), (_, _), (_, _), (_, _), (2, .v (.int .i64 v6))]) (by kernel_rfl) rfl rfl
        ⟨st_plain rfl (op_move _ _ _ _ rfl rfl),
        st_plain rfl (op_bin _ _ _ _ _ rfl rfl (ibind (f := Value.int .i64) (Option.some.inj hv6))),
        st_plain rfl (LOp.drop [_] (op_assign _ _ _ _ rfl rfl)),
        trivial⟩ ?_
       refine pt_inb ?_
       refine pt_pick [0, 4, 1, 2, 3] (by kernel_rfl) (es' := [(_, _), (_, _), (_, _), (_, _), (_, _)]) rfl ?_
       exact hl47 _ (Option.some.inj h).symm
   ·have h := cond_f hb42 h
    refine ht_exit ?_
    refine pt_x_then ?_
    refine pt_x_then ?_
    refine pt_x_in ?_
    refine pt_pick [] (by kernel_rfl) (es' := []) rfl ?_
    exact hl37 _ (ho39 _ (Option.some.inj h).symm).symm

set_option maxHeartbeats 1000000 in
theorem ok_canon_Read (lengths : (List Int)) (b : (List Int)) (at_ : Int) (r : (Int × Int × Int)) (h : Sh.canon_Read lengths b at_ = some r) : FnOK Tryd.prog 87 [.fl .shr 1 (List.map (Value.int .i64) lengths), .fl .shr 1 (List.map (Value.int .u8) b), .v (.int .i64 at_)] (.tup [.v (.int .i64 r.1), .v (.int .i64 r.2.1), .v (.int .i64 r.2.2)]) := by
  unfold Sh.canon_Read at h
  refine fn_ok Tryd.func87 rfl (Nat.le_of_ble_eq_true rfl) rfl rfl fun g0 hn hio => ?_
  refine ht_seq ?_
  refine ht_seqR hn (El := [_, _, _, (6, .v (.int .i64 0)), (7, .v (.int .i64 0)), (8, .v (.int .i64 0))]) (init := [0, 1, 2]) (fin := [0, 1, 2]) (sps := [⟨[], [], [3], [(.slot 6)]⟩, ⟨[], [], [4], [(.slot 7)]⟩, ⟨[], [], [5], [(.slot 8)]⟩]) (es' := [(_, _), (_, _), (_, _)]) (by kernel_rfl) rfl rfl
   ⟨st_plain rfl (op_assign _ _ _ _ rfl rfl),
   st_plain rfl (op_assign _ _ _ _ rfl rfl),
   st_plain rfl (op_assign _ _ _ _ rfl rfl),
   trivial⟩ ?_
  refine pt_then ?_
  refine ht_seq ?_
  refine ht_seq ?_
  obtain ⟨v1, hv1, h⟩ := bind_some h
  refine ht_seqR hn (El := [_, _, _, (14, .fl .shr 1 (List.map (Value.int .i64) lengths)), (15, .v (.int .i64 v1)), (9, .v (.int .i64 v1))]) (init := [0, 1, 2]) (fin := [0, 1, 2, 5]) (sps := [⟨[0], [], [3], [(.slot 14)]⟩, ⟨[3], [], [4], [(.slot 15)]⟩, ⟨[4], [], [5], [(.slot 9)]⟩]) (es' := [(_, _), (_, _), (_, _), (9, .v (.int .i64 v1))]) (by kernel_rfl) rfl rfl
   ⟨st_plain rfl (op_move _ _ _ _ rfl rfl),
   st_plain rfl (op_call _ _ 66 _ _ rfl Tryd.call66 rfl (ok_canon_Check lengths _ hv1) rfl rfl),
   st_plain rfl (op_assign _ _ _ _ rfl rfl),
   trivial⟩ ?_
  refine pt_then ?_
  refine ht_seq ?_
  refine ht_seqR hn (El := [_, _, _, _, (16, .v (.int .i64 v1)), (17, .v (.bool (v1 != 0)))]) (init := [0, 1, 2, 3]) (fin := [0, 1, 2, 3, 5]) (sps := [⟨[3], [], [4], [(.slot 16)]⟩, ⟨[4], [], [5], [(.slot 17)]⟩]) (es' := [(_, _), (_, _), (_, _), (_, _), (17, .v (.bool (v1 != 0)))]) (by kernel_rfl) rfl rfl
   ⟨st_plain rfl (op_move _ _ _ _ rfl rfl),
   st_plain rfl (op_bin _ _ _ _ _ rfl rfl rfl),
   trivial⟩ ?_
  refine pt_then ?_
  refine ht_cond _ rfl (fun hb2 => ?_) (fun hb2 => ?_)
  ·have h := cond_t hb2 h
   refine ht_seq ?_
   refine ht_seqR hn (El := [_, _, _, _, _, (18, .v (.int .i64 v1)), (6, .v (.int .i64 0)), (7, .v (.int .i64 0)), (8, .v (.int .i64 v1))]) (init := [0, 1, 2, 3, 4]) (fin := [6, 7, 8]) (sps := [⟨[3], [], [5], [(.slot 18)]⟩, ⟨[], [], [6], [(.slot 6)]⟩, ⟨[], [], [7], [(.slot 7)]⟩, ⟨[5], [], [8], [(.slot 8)]⟩]) (es' := [(6, .v (.int .i64 0)), (7, .v (.int .i64 0)), (8, .v (.int .i64 v1))]) (by kernel_rfl) rfl rfl
    ⟨st_plain rfl (op_move _ _ _ _ rfl rfl),
    st_plain rfl (op_assign _ _ _ _ rfl rfl),
    st_plain rfl (op_assign _ _ _ _ rfl rfl),
    st_plain rfl (op_assign _ _ _ _ rfl rfl),
    trivial⟩ ?_
   refine pt_then ?_
   refine ht_ret ?_
   refine pt_r_then ?_
   obtain rfl := Option.some.inj h
   exact pt_ret hio rfl (.tmp _ _ (.tmp _ _ (.tmp _ _ .nil))) rfl rfl
  ·have h := cond_f hb2 h
   refine ht_skip ?_
   refine pt_then ?_
   refine ht_seq ?_
   refine ht_seq ?_
   refine ht_joinS h (fun (s4 : Bool) => [(0, .fl .shr 1 (List.map (Value.int .i64) lengths)), (1, .fl .shr 1 (List.map (Value.int .u8) b)), (2, .v (.int .i64 at_)), (27, .v (.bool s4))]) ?_ ?_
   ·rintro s4 h
    refine pt_then ?_
    refine ht_cond _ rfl (fun hb8 => ?_) (fun hb8 => ?_)
    ·have h := cond_t hb8 h
     refine ht_seq ?_
     refine ht_seqR hn (El := [_, _, _, _, (6, .v (.int .i64 0)), (7, .v (.int .i64 0)), (8, .v (.int .i64 1))]) (init := [0, 1, 2, 3]) (fin := [4, 5, 6]) (sps := [⟨[], [], [4], [(.slot 6)]⟩, ⟨[], [], [5], [(.slot 7)]⟩, ⟨[], [], [6], [(.slot 8)]⟩]) (es' := [(6, .v (.int .i64 0)), (7, .v (.int .i64 0)), (8, .v (.int .i64 1))]) (by kernel_rfl) rfl rfl
      ⟨st_plain rfl (op_assign _ _ _ _ rfl rfl),
      st_plain rfl (op_assign _ _ _ _ rfl rfl),
      st_plain rfl (op_assign _ _ _ _ rfl rfl),
      trivial⟩ ?_
     refine pt_then ?_
     refine ht_ret ?_
     refine pt_r_then ?_
     obtain rfl := Option.some.inj h
     exact pt_ret hio rfl (.tmp _ _ (.tmp _ _ (.tmp _ _ .nil))) rfl rfl
    ·have h := cond_f hb8 h
     refine ht_skip ?_
     refine pt_then ?_
     refine ht_seq ?_
     obtain ⟨v9, hv9, h⟩ := bind_some h
     obtain ⟨v10, hv10, h⟩ := bind_some h
     obtain ⟨v11, hv11, h⟩ := bind_some h
     refine ht_seqR hn (El := [_, _, _, _, (28, .fl .shr 1 (List.map (Value.int .i64) lengths)), (29, .v (.agg (List.map (Value.int .i64) v9).toArray)), (10, .arr 118 (List.map (Value.int .i64) ((List.replicate 16 (0 : Int))))), (10, .arr 118 (List.map (Value.int .i64) v9))]) (init := [0, 1, 2, 3]) (fin := [0, 1, 2, 7]) (sps := [⟨[0], [], [4], [(.slot 28)]⟩, ⟨[4], [], [5], [(.slot 29)]⟩, ⟨[], [], [6], [(.slot 10)]⟩, ⟨[5], [6], [7], []⟩]) (es' := [(_, _), (_, _), (_, _), (10, .arr 118 (List.map (Value.int .i64) v9))]) (by kernel_rfl) rfl rfl
      ⟨st_plain rfl (op_move _ _ _ _ rfl rfl),
      st_plain rfl (op_call _ _ 68 _ _ rfl Tryd.call68 rfl (ok_canon_count lengths _ hv9) rfl rfl),
      st_plain rfl (op_alloc_arr _ za118),
      st_plain rfl (op_storeA_arr _ _ _ _ (sz118.trans (congrArg some (ln_len hv11))) rfl rfl (ln_ones (fun _ => rfl) _) ((ln_len (f := Value.int .i64) hv10).symm.trans (ln_len (f := Value.int .i64) hv11))),
      trivial⟩ ?_
     refine pt_then ?_
     refine ht_seq ?_
     obtain ⟨v12, hv12, h⟩ := bind_some h
     obtain ⟨v13, hv13, h⟩ := bind_some h
     obtain ⟨v14, hv14, h⟩ := bind_some h
     obtain ⟨v15, hv15, h⟩ := bind_some h
     refine ht_seqR hn (El := [_, _, _, _, (30, .v (.agg (List.map (Value.int .i64) v9).toArray)), (31, .v (.agg (List.map (Value.int .i64) v13).toArray)), (11, .arr 118 (List.map (Value.int .i64) ((List.replicate 16 (0 : Int))))), (11, .arr 118 (List.map (Value.int .i64) v13))]) (init := [0, 1, 2, 3]) (fin := [0, 1, 2, 3, 7]) (sps := [⟨[3], [], [4], [(.slot 30)]⟩, ⟨[4], [], [5], [(.slot 31)]⟩, ⟨[], [], [6], [(.slot 11)]⟩, ⟨[5], [6], [7], []⟩]) (es' := [(_, _), (_, _), (_, _), (_, _), (11, .arr 118 (List.map (Value.int .i64) v13))]) (by kernel_rfl) rfl rfl
      ⟨st_plain rfl (op_loadA_arr _ _ _ _ Tryd.underlying118 rfl (sz118.trans (congrArg some (ln_len hv12))) rfl rfl),
      st_plain rfl (op_call _ _ 67 _ _ rfl Tryd.call67 rfl (ok_canon_firsts v9 _ hv13) rfl rfl),
      st_plain rfl (op_alloc_arr _ za118),
      st_plain rfl (op_storeA_arr _ _ _ _ (sz118.trans (congrArg some (ln_len hv15))) rfl rfl (ln_ones (fun _ => rfl) _) ((ln_len (f := Value.int .i64) hv14).symm.trans (ln_len (f := Value.int .i64) hv15))),
      trivial⟩ ?_
     refine pt_then ?_
     refine ht_seq ?_
     refine ht_seqR hn (El := [_, _, _, _, _, (12, .v (.int .i64 0))]) (init := [0, 1, 2, 3, 4]) (fin := [0, 1, 2, 3, 4, 5]) (sps := [⟨[], [], [5], [(.slot 12)]⟩]) (es' := [(_, _), (_, _), (_, _), (_, _), (_, _), (12, .v (.int .i64 0))]) (by kernel_rfl) rfl rfl
      ⟨st_plain rfl (op_assign _ _ _ _ rfl rfl),
      trivial⟩ ?_
     refine pt_then ?_
     refine ht_seq ?_
     refine ht_seq ?_
     refine ht_seqR hn (El := [_, _, _, _, _, _, (13, .v (.int .i64 1))]) (init := [0, 1, 2, 3, 4, 5]) (fin := [0, 1, 2, 3, 4, 5, 6]) (sps := [⟨[], [], [6], [(.slot 13)]⟩]) (es' := [(_, _), (_, _), (_, _), (_, _), (_, _), (_, _), (13, .v (.int .i64 1))]) (by kernel_rfl) rfl rfl
      ⟨st_plain rfl (op_assign _ _ _ _ rfl rfl),
      trivial⟩ ?_
     refine pt_then ?_
     refine ht_loopS h (fun ((s52, s53, s54) : Int × Int × Int) => [(0, .fl .shr 1 (List.map (Value.int .i64) lengths)), (1, .fl .shr 1 (List.map (Value.int .u8) b)), (2, .v (.int .i64 s52)), (10, .arr 118 (List.map (Value.int .i64) v9)), (11, .arr 118 (List.map (Value.int .i64) v13)), (12, .v (.int .i64 s53)), (13, .v (.int .i64 s54))]) (fun (() : Unit) => []) ?_ ?_
     ·rintro ⟨⟩ h
      refine pt_then ?_
      refine ht_seq ?_
      refine ht_seqR hn (El := [(6, .v (.int .i64 0)), (7, .v (.int .i64 0)), (8, .v (.int .i64 3))]) (init := []) (fin := [0, 1, 2]) (sps := [⟨[], [], [0], [(.slot 6)]⟩, ⟨[], [], [1], [(.slot 7)]⟩, ⟨[], [], [2], [(.slot 8)]⟩]) (es' := [(6, .v (.int .i64 0)), (7, .v (.int .i64 0)), (8, .v (.int .i64 3))]) (by kernel_rfl) rfl rfl
       ⟨st_plain rfl (op_assign _ _ _ _ rfl rfl),
       st_plain rfl (op_assign _ _ _ _ rfl rfl),
       st_plain rfl (op_assign _ _ _ _ rfl rfl),
       trivial⟩ ?_
      refine pt_then ?_
      refine ht_ret ?_
      obtain rfl := Option.some.inj h
      exact pt_ret hio rfl (.tmp _ _ (.tmp _ _ (.tmp _ _ .nil))) rfl rfl
     ·rintro u61 hl62 hr63 ⟨s52, s53, s54⟩ rr66 h ho64
      refine ht_seq ?_
      refine ht_seq ?_
      refine ht_joinS h (fun (s67 : Bool) => [(0, .fl .shr 1 (List.map (Value.int .i64) lengths)), (1, .fl .shr 1 (List.map (Value.int .u8) b)), (2, .v (.int .i64 s52)), (10, .arr 118 (List.map (Value.int .i64) v9)), (11, .arr 118 (List.map (Value.int .i64) v13)), (12, .v (.int .i64 s53)), (13, .v (.int .i64 s54)), (40, .v (.bool s67))]) ?_ ?_
      ·rintro s67 h
       refine pt_then ?_
       refine ht_cond _ rfl (fun hb71 => ?_) (fun hb71 => ?_)
       ·have h := cond_t hb71 h
        refine ht_skip ?_
        refine pt_then ?_
        refine ht_seq ?_
        refine ht_block ?_
        refine ht_seq ?_
        obtain ⟨v22, hv22, h⟩ := bind_some h
        obtain ⟨v23, hv23, h⟩ := bind_some h
        obtain ⟨v24, hv24, h⟩ := bind_some h
        obtain ⟨v25, hv25, h⟩ := bind_some h
        obtain ⟨v26, hv26, h⟩ := bind_some h
        obtain ⟨v27, hv27, h⟩ := bind_some h
        obtain ⟨v28, hv28, h⟩ := bind_some h
        obtain ⟨v29, hv29, h⟩ := bind_some h
        obtain ⟨v30, hv30, h⟩ := bind_some h
        refine ht_seqR hn (El := (_ :: _ :: _ :: _ :: _ :: _ :: _ :: _ :: (43, .v (.int .i64 s53)) :: (44, .v (.int .i64 v22)) :: (45, .fl .shr 1 (List.map (Value.int .u8) b)) :: (46, .v (.int .i64 s52)) :: (47, .v (.int .i64 v23)) :: (48, .eref (.slot 45) (v24 * 1)) :: (49, .v (.int .u8 v25)) :: (50, .v (.int .i64 s52)) :: (51, .v (.int .i64 v26)) :: (52, .v (.int .u8 v27)) :: (53, .v (.int .u8 v28)) :: (54, .v (.int .i64 v29)) :: (55, .v (.int .i64 v30)) :: (12, .v (.int .i64 v30)) :: [])) (init := [0, 1, 2, 3, 4, 5, 6, 7]) (fin := [0, 1, 2, 3, 4, 6, 21]) (sps := [⟨[5], [], [8], [(.slot 43)]⟩, ⟨[8], [], [9], [(.slot 44)]⟩, ⟨[1], [], [10], [(.slot 45)]⟩, ⟨[2], [], [11], [(.slot 46)]⟩, ⟨[11], [], [12], [(.slot 47)]⟩, ⟨[10, 12], [], [13], [(.slot 48)]⟩, ⟨[13, 10], [], [14], [(.slot 49)]⟩, ⟨[2], [], [15], [(.slot 50)]⟩, ⟨[15], [], [16], [(.slot 51)]⟩, ⟨[14, 16], [], [17], [(.slot 52)]⟩, ⟨[17], [], [18], [(.slot 53)]⟩, ⟨[18], [], [19], [(.slot 54)]⟩, ⟨[9, 19], [], [20], [(.slot 55)]⟩, ⟨[20], [5], [21], [(.slot 12)]⟩]) (es' := [(_, _), (_, _), (_, _), (_, _), (_, _), (_, _), (12, .v (.int .i64 v30))]) (by kernel_rfl) rfl rfl
         ⟨st_plain rfl (op_move _ _ _ _ rfl rfl),
         st_plain rfl (op_bin _ _ _ _ _ rfl rfl (shl_ok hv22)),
         st_plain rfl (op_move _ _ _ _ rfl rfl),
         st_plain rfl (op_move _ _ _ _ rfl rfl),
         st_plain rfl (op_bin _ _ _ _ _ rfl rfl (quo_ok hv23)),
         st_plain rfl (op_ix _ _ _ _ _ _ _ _ Tryd.underlying22 sz5 (by decide) rfl rfl rfl (ix_ok hv24).1 (map_lt (ix_ok hv24).2) rfl),
         st_plain rfl (op_load_e _ _ _ _ _ _ Tryd.underlying5 rfl rfl rfl (map_get hv25)),
         st_plain rfl (op_move _ _ _ _ rfl rfl),
         st_plain rfl (op_bin _ _ _ _ _ rfl rfl (rem_ok hv26)),
         st_plain rfl (op_bin _ _ _ _ _ rfl rfl (shr_ok hv27)),
         st_plain rfl (op_bin _ _ _ _ _ rfl rfl (ibind (f := Value.int .u8) (Option.some.inj hv28))),
         st_plain rfl ((Option.some.inj hv29) ▸ op_conv _ _ _ Tryd.underlying5 Tryd.underlying3 rfl),
         st_plain rfl (op_bin _ _ _ _ _ rfl rfl (ibind (f := Value.int .i64) (Option.some.inj hv30))),
         st_plain rfl (LOp.drop [_] (op_assign _ _ _ _ rfl rfl)),
         trivial⟩ ?_
        refine pt_then ?_
        refine ht_seq ?_
        obtain ⟨v31, hv31, h⟩ := bind_some h
        refine ht_seqR hn (El := [_, _, _, _, _, _, _, (56, .v (.int .i64 s52)), (57, .v (.int .i64 v31)), (2, .v (.int .i64 v31))]) (init := [0, 1, 2, 3, 4, 5, 6]) (fin := [0, 1, 3, 4, 5, 6, 9]) (sps := [⟨[2], [], [7], [(.slot 56)]⟩, ⟨[7], [], [8], [(.slot 57)]⟩, ⟨[8], [2], [9], [(.slot 2)]⟩]) (es' := [(_, _), (_, _), (_, _), (_, _), (_, _), (_, _), (2, .v (.int .i64 v31))]) (by kernel_rfl) rfl rfl
         ⟨st_plain rfl (op_move _ _ _ _ rfl rfl),
         st_plain rfl (op_bin _ _ _ _ _ rfl rfl (ibind (f := Value.int .i64) (Option.some.inj hv31))),
         st_plain rfl (LOp.drop [_] (op_assign _ _ _ _ rfl rfl)),
         trivial⟩ ?_
        refine pt_then ?_
        refine ht_seq ?_
        obtain ⟨v32, hv32, h⟩ := bind_some h
        obtain ⟨v33, hv33, h⟩ := bind_some h
        obtain ⟨v34, hv34, h⟩ := bind_some h
        obtain ⟨v35, hv35, h⟩ := bind_some h
        obtain ⟨v36, hv36, h⟩ := bind_some h
        refine ht_anyR (by kernel_rfl) hn (El := (_ :: _ :: _ :: _ :: _ :: _ :: _ :: (58, .v (.int .i64 v30)) :: (59, .v (.int .i64 s54)) :: (60, .ptr 11 v32) :: (61, .v (.int .i64 v33)) :: (62, .v (.int .i64 s54)) :: (63, .ptr 10 v34) :: (64, .v (.int .i64 v35)) :: (65, .v (.int .i64 v36)) :: (66, .v (.bool ((decide (v30 < v36))))) :: [])) (init := [0, 1, 2, 3, 4, 5, 6]) (fin := [0, 1, 2, 3, 4, 5, 6, 15]) (sps := [⟨[5], [], [7], [(.slot 58)]⟩, ⟨[4], [], [8], [(.slot 59)]⟩, ⟨[3, 8], [], [9], [(.slot 60)]⟩, ⟨[9, 3], [], [10], [(.slot 61)]⟩, ⟨[4], [], [11], [(.slot 62)]⟩, ⟨[2, 11], [], [12], [(.slot 63)]⟩, ⟨[12, 2], [], [13], [(.slot 64)]⟩, ⟨[10, 13], [], [14], [(.slot 65)]⟩, ⟨[7, 14], [], [15], [(.slot 66)]⟩]) (es' := [(_, _), (_, _), (_, _), (_, _), (_, _), (_, _), (_, _), (66, .v (.bool ((decide (v30 < v36)))))]) (by kernel_rfl) rfl rfl
         ⟨st_plain rfl (op_move _ _ _ _ rfl rfl),
         st_plain rfl (op_move _ _ _ _ rfl rfl),
         st_plain rfl (op_ix_arr _ _ _ _ 16 11 _ Tryd.underlying118 sz3 rfl rfl (ix_ok hv32).1 (ix_ok hv32).2 (by decide)),
         st_plain rfl (op_load_arr _ _ _ _ _ _ Tryd.underlying3 rfl rfl rfl (map_get1 hv33)),
         st_plain rfl (op_move _ _ _ _ rfl rfl),
         st_plain rfl (op_ix_arr _ _ _ _ 16 10 _ Tryd.underlying118 sz3 rfl rfl (ix_ok hv34).1 (ix_ok hv34).2 (by decide)),
         st_plain rfl (op_load_arr _ _ _ _ _ _ Tryd.underlying3 rfl rfl rfl (map_get1 hv35)),
         st_plain rfl (op_bin _ _ _ _ _ rfl rfl (ibind (f := Value.int .i64) (Option.some.inj hv36))),
         st_plain rfl (op_bin _ _ _ _ _ rfl rfl rfl),
         trivial⟩ ?_
        refine pt_then ?_
        refine ht_cond _ rfl (fun hb72 => ?_) (fun hb72 => ?_)
        ·have h := cond_t hb72 h
         refine ht_seq ?_
         obtain ⟨v38, hv38, h⟩ := bind_some h
         obtain ⟨v39, hv39, h⟩ := bind_some h
         obtain ⟨v40, hv40, h⟩ := bind_some h
         obtain ⟨v41, hv41, h⟩ := bind_some h
         refine ht_seqR hn (El := (_ :: _ :: _ :: _ :: _ :: _ :: _ :: _ :: (67, .fl .shr 1 (List.map (Value.int .i64) lengths)) :: (68, .v (.int .i64 s54)) :: (69, .v (.int .i64 v30)) :: (70, .v (.int .i64 s54)) :: (71, .ptr 11 v38) :: (72, .v (.int .i64 v39)) :: (73, .v (.int .i64 v40)) :: (74, .v (.int .i64 v41)) :: (75, .v (.int .i64 v31)) :: (6, .v (.int .i64 v41)) :: (7, .v (.int .i64 v31)) :: (8, .v (.int .i64 0)) :: [])) (init := [0, 1, 2, 3, 4, 5, 6, 7]) (fin := [17, 18, 19]) (sps := [⟨[0], [], [8], [(.slot 67)]⟩, ⟨[4], [], [9], [(.slot 68)]⟩, ⟨[5], [], [10], [(.slot 69)]⟩, ⟨[4], [], [11], [(.slot 70)]⟩, ⟨[3, 11], [], [12], [(.slot 71)]⟩, ⟨[12, 3], [], [13], [(.slot 72)]⟩, ⟨[10, 13], [], [14], [(.slot 73)]⟩, ⟨[8, 9, 14], [], [15], [(.slot 74)]⟩, ⟨[6], [], [16], [(.slot 75)]⟩, ⟨[15], [], [17], [(.slot 6)]⟩, ⟨[16], [], [18], [(.slot 7)]⟩, ⟨[], [], [19], [(.slot 8)]⟩]) (es' := [(6, .v (.int .i64 v41)), (7, .v (.int .i64 v31)), (8, .v (.int .i64 0))]) (by kernel_rfl) rfl rfl
          ⟨st_plain rfl (op_move _ _ _ _ rfl rfl),
          st_plain rfl (op_move _ _ _ _ rfl rfl),
          st_plain rfl (op_move _ _ _ _ rfl rfl),
          st_plain rfl (op_move _ _ _ _ rfl rfl),
          st_plain rfl (op_ix_arr _ _ _ _ 16 11 _ Tryd.underlying118 sz3 rfl rfl (ix_ok hv38).1 (ix_ok hv38).2 (by decide)),
          st_plain rfl (op_load_arr _ _ _ _ _ _ Tryd.underlying3 rfl rfl rfl (map_get1 hv39)),
          st_plain rfl (op_bin _ _ _ _ _ rfl rfl (ibind (f := Value.int .i64) (Option.some.inj hv40))),
          st_plain rfl (op_call _ _ 94 _ _ rfl Tryd.call94 rfl (ok_canon_nth lengths s54 v40 _ hv41) rfl rfl),
          st_plain rfl (op_move _ _ _ _ rfl rfl),
          st_plain rfl (op_assign _ _ _ _ rfl rfl),
          st_plain rfl (op_assign _ _ _ _ rfl rfl),
          st_plain rfl (op_assign _ _ _ _ rfl rfl),
          trivial⟩ ?_
         refine pt_then ?_
         refine ht_ret ?_
         refine pt_r_in ?_
         refine pt_r_then ?_
         refine pt_r_then ?_
         refine pt_r_in ?_
         refine pt_r_then ?_
         have h := hr63 _ (ho64 _ (Option.some.inj h).symm).symm
         obtain rfl := Option.some.inj h
         exact pt_ret hio rfl (.tmp _ _ (.tmp _ _ (.tmp _ _ .nil))) rfl rfl
        ·have h := cond_f hb72 h
         refine ht_skip ?_
         refine pt_inb ?_
         refine pt_then ?_
         obtain ⟨v42, hv42, h⟩ := bind_some h
         refine ht_seqR hn (El := [_, _, _, _, _, _, _, _, (41, .v (.int .i64 s54)), (42, .v (.int .i64 v42)), (13, .v (.int .i64 v42))]) (init := [0, 1, 2, 3, 4, 5, 6, 7]) (fin := [0, 1, 2, 3, 5, 6, 10]) (sps := [⟨[4], [], [8], [(.slot 41)]⟩, ⟨[8], [], [9], [(.slot 42)]⟩, ⟨[9], [4], [10], [(.slot 13)]⟩]) (es' := [(_, _), (_, _), (_, _), (_, _), (_, _), (_, _), (13, .v (.int .i64 v42))]) (by kernel_rfl) rfl rfl
          ⟨st_plain rfl (op_move _ _ _ _ rfl rfl),
          st_plain rfl (op_bin _ _ _ _ _ rfl rfl (ibind (f := Value.int .i64) (Option.some.inj hv42))),
          st_plain rfl (LOp.drop [_] (op_assign _ _ _ _ rfl rfl)),
          trivial⟩ ?_
         refine pt_pick [0, 1, 5, 2, 3, 4, 6] (by kernel_rfl) (es' := [(_, _), (_, _), (_, _), (_, _), (_, _), (_, _), (_, _)]) rfl ?_
         exact pt_next _ (Option.some.inj h).symm rfl
       ·have h := cond_f hb71 h
        refine ht_exit ?_
        refine pt_x_then ?_
        refine pt_x_then ?_
        refine pt_x_in ?_
        refine pt_pick [] (by kernel_rfl) (es' := []) rfl ?_
        exact hl62 _ (ho64 _ (Option.some.inj h).symm).symm
      ·intro u68 h hl69 hr70
       refine cond_some h (fun hg10_2 h => ?_) (fun hg10_2 h => ?_)
       ·obtain ⟨v16, hv16, h⟩ := bind_some h
        refine ht_seqR hn (El := (_ :: _ :: _ :: _ :: _ :: _ :: _ :: (32, .v (.int .i64 s54)) :: (33, .v (.bool ((decide (s54 ≤ 15))))) :: (34, .v (.bool true)) :: (35, .v (.int .i64 s52)) :: (36, .fl .shr 1 (List.map (Value.int .u8) b)) :: (37, .v (.int .i64 (b.length : Int))) :: (38, .v (.int .i64 v16)) :: (39, .v (.bool ((decide (s52 < v16))))) :: (40, .v (.bool ((decide (s52 < v16))))) :: [])) (init := [0, 1, 2, 3, 4, 5, 6]) (fin := [0, 1, 2, 3, 4, 5, 6, 15]) (sps := [⟨[6], [], [7], [(.slot 32)]⟩, ⟨[7], [], [8], [(.slot 33)]⟩, ⟨[8], [], [9], [(.slot 34)]⟩, ⟨[9, 2], [], [10], [(.slot 35)]⟩, ⟨[9, 1], [], [11], [(.slot 36)]⟩, ⟨[9, 11], [], [12], [(.slot 37)]⟩, ⟨[9, 12], [], [13], [(.slot 38)]⟩, ⟨[9, 10, 13], [], [14], [(.slot 39)]⟩, ⟨[9, 14], [], [15], [(.slot 40)]⟩]) (es' := [(_, _), (_, _), (_, _), (_, _), (_, _), (_, _), (_, _), (40, .v (.bool ((decide (s52 < v16)))))]) (by kernel_rfl) rfl rfl
         ⟨st_plain rfl (op_move _ _ _ _ rfl rfl),
         st_plain rfl (op_bin _ _ _ _ _ rfl rfl rfl),
         st_plain rfl (op_move _ _ _ _ (congrArg (fun b => AV.v (Value.bool b)) hg10_2) rfl),
         st_run 2 34 true rfl rfl rfl (List.Mem.head _) (op_move _ _ _ _ rfl rfl),
         st_run 2 34 true rfl rfl rfl (List.Mem.head _) (op_move _ _ _ _ rfl rfl),
         st_run 2 34 true rfl rfl rfl (List.Mem.head _) (op_len_fl _ _ _ Tryd.underlying22 rfl (by decide) (map_len _)),
         st_run 2 34 true rfl rfl rfl (List.Mem.head _) (op_bin _ _ _ _ _ rfl rfl (ibind (f := Value.int .i64) (Option.some.inj hv16))),
         st_run 2 34 true rfl rfl rfl (List.Mem.head _) (op_bin _ _ _ _ _ rfl rfl rfl),
         st_plain rfl (op_pick _ _ true _ rfl rfl),
         trivial⟩ ?_
        exact hl69 _ (Option.some.inj h).symm
       ·refine ht_seqR hn (El := (_ :: _ :: _ :: _ :: _ :: _ :: _ :: (32, .v (.int .i64 s54)) :: (33, .v (.bool ((decide (s54 ≤ 15))))) :: (34, .v (.bool false)) :: (35, .v undef) :: (36, .v undef) :: (37, .v undef) :: (38, .v undef) :: (39, .v undef) :: (40, .v (.bool false)) :: [])) (init := [0, 1, 2, 3, 4, 5, 6]) (fin := [0, 1, 2, 3, 4, 5, 6, 15]) (sps := [⟨[6], [], [7], [(.slot 32)]⟩, ⟨[7], [], [8], [(.slot 33)]⟩, ⟨[8], [], [9], [(.slot 34)]⟩, ⟨[9], [], [10], [(.slot 35)]⟩, ⟨[9], [], [11], [(.slot 36)]⟩, ⟨[9], [], [12], [(.slot 37)]⟩, ⟨[9], [], [13], [(.slot 38)]⟩, ⟨[9], [], [14], [(.slot 39)]⟩, ⟨[9], [], [15], [(.slot 40)]⟩]) (es' := [(_, _), (_, _), (_, _), (_, _), (_, _), (_, _), (_, _), (40, .v (.bool false))]) (by kernel_rfl) rfl rfl
         ⟨st_plain rfl (op_move _ _ _ _ rfl rfl),
         st_plain rfl (op_bin _ _ _ _ _ rfl rfl rfl),
         st_plain rfl (op_move _ _ _ _ (congrArg (fun b => AV.v (Value.bool b)) hg10_2) rfl),
         st_skip 2 34 _ true rfl rfl rfl rfl (List.Mem.head _),
         st_skip 2 34 _ true rfl rfl rfl rfl (List.Mem.head _),
         st_skip 2 34 _ true rfl rfl rfl rfl (List.Mem.head _),
         st_skip 2 34 _ true rfl rfl rfl rfl (List.Mem.head _),
         st_skip 2 34 _ true rfl rfl rfl rfl (List.Mem.head _),
         st_plain rfl (op_pick _ _ false _ rfl rfl),
         trivial⟩ ?_
        exact hl69 _ (Option.some.inj h).symm
   ·intro u5 h hl6 hr7
    refine cond_some h (fun hg4_2 h => ?_) (fun hg4_2 h => ?_)
    ·refine ht_seqR hn (El := [_, _, _, _, _, (19, .v (.int .i64 at_)), (20, .v (.bool ((decide (at_ < 0))))), (21, .v (.bool true)), (22, .v undef), (23, .v undef), (24, .v undef), (25, .v undef), (26, .v undef), (27, .v (.bool true))]) (init := [0, 1, 2, 3, 4]) (fin := [0, 1, 2, 13]) (sps := [⟨[2], [], [5], [(.slot 19)]⟩, ⟨[5], [], [6], [(.slot 20)]⟩, ⟨[6], [], [7], [(.slot 21)]⟩, ⟨[7], [], [8], [(.slot 22)]⟩, ⟨[7], [], [9], [(.slot 23)]⟩, ⟨[7], [], [10], [(.slot 24)]⟩, ⟨[7], [], [11], [(.slot 25)]⟩, ⟨[7], [], [12], [(.slot 26)]⟩, ⟨[7], [], [13], [(.slot 27)]⟩]) (es' := [(_, _), (_, _), (_, _), (27, .v (.bool true))]) (by kernel_rfl) rfl rfl
      ⟨st_plain rfl (op_move _ _ _ _ rfl rfl),
      st_plain rfl (op_bin _ _ _ _ _ rfl rfl rfl),
      st_plain rfl (op_move _ _ _ _ (congrArg (fun b => AV.v (Value.bool b)) hg4_2) rfl),
      st_skip 2 21 _ false rfl rfl rfl rfl (List.Mem.head _),
      st_skip 2 21 _ false rfl rfl rfl rfl (List.Mem.head _),
      st_skip 2 21 _ false rfl rfl rfl rfl (List.Mem.head _),
      st_skip 2 21 _ false rfl rfl rfl rfl (List.Mem.head _),
      st_skip 2 21 _ false rfl rfl rfl rfl (List.Mem.head _),
      st_plain rfl (op_pick _ _ true _ rfl rfl),
      trivial⟩ ?_
     exact hl6 _ (Option.some.inj h).symm
    ·obtain ⟨v3, hv3, h⟩ := bind_some h
     refine ht_seqR hn (El := [_, _, _, _, _, (19, .v (.int .i64 at_)), (20, .v (.bool ((decide (at_ < 0))))), (21, .v (.bool false)), (22, .v (.int .i64 at_)), (23, .fl .shr 1 (List.map (Value.int .u8) b)), (24, .v (.int .i64 (b.length : Int))), (25, .v (.int .i64 v3)), (26, .v (.bool ((decide (v3 < at_))))), (27, .v (.bool ((decide (v3 < at_)))))]) (init := [0, 1, 2, 3, 4]) (fin := [0, 1, 2, 13]) (sps := [⟨[2], [], [5], [(.slot 19)]⟩, ⟨[5], [], [6], [(.slot 20)]⟩, ⟨[6], [], [7], [(.slot 21)]⟩, ⟨[7, 2], [], [8], [(.slot 22)]⟩, ⟨[7, 1], [], [9], [(.slot 23)]⟩, ⟨[7, 9], [], [10], [(.slot 24)]⟩, ⟨[7, 10], [], [11], [(.slot 25)]⟩, ⟨[7, 8, 11], [], [12], [(.slot 26)]⟩, ⟨[7, 12], [], [13], [(.slot 27)]⟩]) (es' := [(_, _), (_, _), (_, _), (27, .v (.bool ((decide (v3 < at_)))))]) (by kernel_rfl) rfl rfl
      ⟨st_plain rfl (op_move _ _ _ _ rfl rfl),
      st_plain rfl (op_bin _ _ _ _ _ rfl rfl rfl),
      st_plain rfl (op_move _ _ _ _ (congrArg (fun b => AV.v (Value.bool b)) hg4_2) rfl),
      st_run 2 21 false rfl rfl rfl (List.Mem.head _) (op_move _ _ _ _ rfl rfl),
      st_run 2 21 false rfl rfl rfl (List.Mem.head _) (op_move _ _ _ _ rfl rfl),
      st_run 2 21 false rfl rfl rfl (List.Mem.head _) (op_len_fl _ _ _ Tryd.underlying22 rfl (by decide) (map_len _)),
      st_run 2 21 false rfl rfl rfl (List.Mem.head _) (op_bin _ _ _ _ _ rfl rfl (ibind (f := Value.int .i64) (Option.some.inj hv3))),
      st_run 2 21 false rfl rfl rfl (List.Mem.head _) (op_bin _ _ _ _ _ rfl rfl rfl),
      st_plain rfl (op_pick _ _ false _ rfl rfl),
      trivial⟩ ?_
     exact hl6 _ (Option.some.inj h).symm

set_option maxHeartbeats 1000000 in
theorem ok_grow_stream_symbol (s : T_grow_stream) (lengths : (List Int)) (r : (Int × Int × T_grow_stream)) (h : Sh.grow_stream_symbol s lengths = some r) : FnP Tryd.prog 78 [.box 59 [.fl .shr 1 (List.map (Value.int .u8) s.b), .v (.int .i64 s.at_), .fl (.own 5) 1 (List.map (Value.int .u8) s.out), .v (.int .i64 s.most), .v (.int .i64 s.blocks)], .fl .shr 1 (List.map (Value.int .i64) lengths)] [.box 59 [.fl .shr 1 (List.map (Value.int .u8) r.2.2.b), .v (.int .i64 r.2.2.at_), .fl (.own 5) 1 (List.map (Value.int .u8) r.2.2.out), .v (.int .i64 r.2.2.most), .v (.int .i64 r.2.2.blocks)]] (.tup [.v (.int .i64 r.1), .v (.int .i64 r.2.1)]) := by
  unfold Sh.grow_stream_symbol at h
  refine fn_okP Tryd.func78 rfl (Nat.le_of_ble_eq_true rfl) rfl (Nat.le_of_ble_eq_true rfl) fun args0 hargs0 g0 hn hio => ?_
  refine ht_seq ?_
  refine ht_seqR hn (El := [_, _, _, (4, .v (.int .i64 0)), (5, .v (.int .i64 0))]) (init := [0, 1, 2]) (fin := [0, 1, 2]) (sps := [⟨[], [], [3], [(.slot 4)]⟩, ⟨[], [], [4], [(.slot 5)]⟩]) (es' := [(_, _), (_, _), (_, _)]) (by kernel_rfl) rfl rfl
   ⟨st_plain rfl (op_assign _ _ _ _ rfl rfl),
   st_plain rfl (op_assign _ _ _ _ rfl rfl),
   trivial⟩ ?_
  refine pt_then ?_
  refine ht_seq ?_
  obtain ⟨v1, hv1, h⟩ := bind_some h
  refine ht_anyR (by kernel_rfl) hn (El := (_ :: _ :: _ :: (10, .fl .shr 1 (List.map (Value.int .i64) lengths)) :: (11, .same (.slot 0)) :: (12, .ptr 0 0) :: (13, .ptr 0 0) :: (14, .fl .shr 1 (List.map (Value.int .u8) s.b)) :: (15, .same (.slot 0)) :: (16, .ptr 0 0) :: (17, .ptr 0 1) :: (18, .v (.int .i64 s.at_)) :: (19, .tup [.v (.int .i64 v1.1), .v (.int .i64 v1.2.1), .v (.int .i64 v1.2.2)]) :: (9, .tup [.v (.int .i64 v1.1), .v (.int .i64 v1.2.1), .v (.int .i64 v1.2.2)]) :: (20, .v (.int .i64 v1.1)) :: (21, .v (.int .i64 v1.2.1)) :: (22, .v (.int .i64 v1.2.2)) :: (6, .v (.int .i64 v1.1)) :: (7, .v (.int .i64 v1.2.1)) :: (8, .v (.int .i64 v1.2.2)) :: [])) (init := [0, 1, 2]) (fin := [0, 2, 17, 18, 19]) (sps := (⟨[1], [], [3], [(.slot 10)]⟩ :: ⟨[], [], [4], [(.slot 11)]⟩ :: ⟨[4, 0], [], [5], [(.slot 12)]⟩ :: ⟨[5, 0], [], [6], [(.slot 13)]⟩ :: ⟨[6, 0], [], [7], [(.slot 14)]⟩ :: ⟨[], [], [8], [(.slot 15)]⟩ :: ⟨[8, 0], [], [9], [(.slot 16)]⟩ :: ⟨[9, 0], [], [10], [(.slot 17)]⟩ :: ⟨[10, 0], [], [11], [(.slot 18)]⟩ :: ⟨[3, 7, 11], [], [12], [(.slot 19)]⟩ :: ⟨[], [12], [13], [(.slot 9)]⟩ :: ⟨[13], [], [14], [(.slot 20)]⟩ :: ⟨[13], [], [15], [(.slot 21)]⟩ :: ⟨[13], [], [16], [(.slot 22)]⟩ :: ⟨[14], [], [17], [(.slot 6)]⟩ :: ⟨[15], [], [18], [(.slot 7)]⟩ :: ⟨[16], [], [19], [(.slot 8)]⟩ :: [])) (es' := [(_, _), (_, _), (6, .v (.int .i64 v1.1)), (7, .v (.int .i64 v1.2.1)), (8, .v (.int .i64 v1.2.2))]) (by kernel_rfl) rfl rfl
   ⟨st_plain rfl (op_move _ _ _ _ rfl rfl),
   st_plain rfl (op_move_name _ _ _ rfl),
   st_plain rfl (op_nilCheck_name _ _ _ 0 rfl rfl (by decide)),
   st_plain rfl (op_fieldAddr _ _ _ _ 0 0 _ Tryd.underlying59 rfl sz22 rfl rfl (by decide)),
   st_plain rfl (op_load _ _ _ _ _ _ Tryd.underlying22 rfl rfl rfl (Nat.le_of_ble_eq_true rfl) rfl rfl rfl),
   st_plain rfl (op_move_name _ _ _ rfl),
   st_plain rfl (op_nilCheck_name _ _ _ 0 rfl rfl (by decide)),
   st_plain rfl (op_fieldAddr _ _ _ _ 0 0 _ Tryd.underlying59 rfl sz3 rfl rfl (by decide)),
   st_plain rfl (op_load _ _ _ _ _ _ Tryd.underlying3 rfl rfl rfl (Nat.le_of_ble_eq_true rfl) rfl rfl rfl),
   st_plain rfl (op_call _ _ 87 _ _ rfl Tryd.call87 rfl (ok_canon_Read lengths s.b s.at_ _ hv1) rfl rfl),
   st_plain rfl (op_move_take _ _ _ _ rfl),
   st_plain rfl (op_extract _ _ _ _ _ rfl rfl (Nat.le_of_ble_eq_true rfl) rfl rfl),
   st_plain rfl (op_extract _ _ _ _ _ rfl rfl (Nat.le_of_ble_eq_true rfl) rfl rfl),
   st_plain rfl (op_extract _ _ _ _ _ rfl rfl (Nat.le_of_ble_eq_true rfl) rfl rfl),
   st_plain rfl (op_assign _ _ _ _ rfl rfl),
   st_plain rfl (op_assign _ _ _ _ rfl rfl),
   st_plain rfl (op_assign _ _ _ _ rfl rfl),
   trivial⟩ ?_
  refine pt_then ?_
  refine ht_seq ?_
  refine ht_seq ?_
  refine ht_seqR hn (El := [_, _, _, _, _, (23, .v (.int .i64 v1.2.2)), (24, .v (.bool (v1.2.2 != 0)))]) (init := [0, 1, 2, 3, 4]) (fin := [0, 1, 2, 3, 4, 6]) (sps := [⟨[4], [], [5], [(.slot 23)]⟩, ⟨[5], [], [6], [(.slot 24)]⟩]) (es' := [(_, _), (_, _), (_, _), (_, _), (_, _), (24, .v (.bool (v1.2.2 != 0)))]) (by kernel_rfl) rfl rfl
   ⟨st_plain rfl (op_move _ _ _ _ rfl rfl),
   st_plain rfl (op_bin _ _ _ _ _ rfl rfl rfl),
   trivial⟩ ?_
  refine pt_then ?_
  refine ht_cond _ rfl (fun hb2 => ?_) (fun hb2 => ?_)
  ·have h := cond_t hb2 h
   refine ht_seq ?_
   refine ht_seqR hn (El := [_, _, _, _, _, _, (25, .v (.int .i64 v1.2.2)), (4, .v (.int .i64 0)), (5, .v (.int .i64 v1.2.2))]) (init := [0, 1, 2, 3, 4, 5]) (fin := [0, 1, 7, 8]) (sps := [⟨[4], [], [6], [(.slot 25)]⟩, ⟨[], [], [7], [(.slot 4)]⟩, ⟨[6], [], [8], [(.slot 5)]⟩]) (es' := [(_, _), (_, _), (4, .v (.int .i64 0)), (5, .v (.int .i64 v1.2.2))]) (by kernel_rfl) rfl rfl
    ⟨st_plain rfl (op_move _ _ _ _ rfl rfl),
    st_plain rfl (op_assign _ _ _ _ rfl rfl),
    st_plain rfl (op_assign _ _ _ _ rfl rfl),
    trivial⟩ ?_
   refine pt_then ?_
   refine ht_ret ?_
   refine pt_pick [2, 3, 0, 1] (by kernel_rfl) (es' := [(_, _), (_, _), (_, _), (_, _)]) rfl ?_
   refine pt_r_then ?_
   obtain rfl := Option.some.inj h
   exact pt_retP (es := [(4, .v (.int .i64 0)), (5, .v (.int .i64 v1.2.2))]) (posts := [.box 59 [.fl .shr 1 (List.map (Value.int .u8) s.b), .v (.int .i64 s.at_), .fl (.own 5) 1 (List.map (Value.int .u8) s.out), .v (.int .i64 s.most), .v (.int .i64 s.blocks)]]) hio rfl rfl (.tmp _ _ (.tmp _ _ .nil)) rfl rfl hargs0 rfl
  ·have h := cond_f hb2 h
   refine ht_skip ?_
   refine pt_then ?_
   refine ht_seq ?_
   refine ht_seqR hn (El := [_, _, _, _, _, _, (26, .ptr 0 0), (27, .v (.int .i64 v1.2.1)), (28, .ptr 0 0), (29, .ptr 0 1), (0, .box 59 [.fl .shr 1 (List.map (Value.int .u8) s.b), .v (.int .i64 v1.2.1), .fl (.own 5) 1 (List.map (Value.int .u8) s.out), .v (.int .i64 s.most), .v (.int .i64 s.blocks)])]) (init := [0, 1, 2, 3, 4, 5]) (fin := [10, 1, 2]) (sps := [⟨[0], [], [6], [(.slot 26)]⟩, ⟨[3], [], [7], [(.slot 27)]⟩, ⟨[6, 0], [], [8], [(.slot 28)]⟩, ⟨[8, 0], [], [9], [(.slot 29)]⟩, ⟨[9, 7], [0], [10], [.cell 0 1]⟩]) (es' := [(0, .box 59 [.fl .shr 1 (List.map (Value.int .u8) s.b), .v (.int .i64 v1.2.1), .fl (.own 5) 1 (List.map (Value.int .u8) s.out), .v (.int .i64 s.most), .v (.int .i64 s.blocks)]), (_, _), (_, _)]) (by kernel_rfl) rfl rfl
    ⟨st_plain rfl (op_move _ _ _ _ rfl rfl),
    st_plain rfl (op_move _ _ _ _ rfl rfl),
    st_plain rfl (op_nilCheck _ _ _ 0 0 rfl (by decide)),
    st_plain rfl (op_fieldAddr _ _ _ _ 0 0 _ Tryd.underlying59 rfl sz3 rfl rfl (by decide)),
    st_plain rfl (op_store _ _ _ _ _ _ _ _ sz3 rfl rfl rfl rfl (Nat.le_of_ble_eq_true rfl) rfl rfl),
    trivial⟩ ?_
   refine pt_then ?_
   refine ht_seq ?_
   refine ht_seqR hn (El := [_, _, _, (30, .v (.int .i64 v1.1)), (4, .v (.int .i64 v1.1)), (5, .v (.int .i64 0))]) (init := [0, 1, 2]) (fin := [0, 1, 4, 5]) (sps := [⟨[2], [], [3], [(.slot 30)]⟩, ⟨[3], [], [4], [(.slot 4)]⟩, ⟨[], [], [5], [(.slot 5)]⟩]) (es' := [(_, _), (_, _), (4, .v (.int .i64 v1.1)), (5, .v (.int .i64 0))]) (by kernel_rfl) rfl rfl
    ⟨st_plain rfl (op_move _ _ _ _ rfl rfl),
    st_plain rfl (op_assign _ _ _ _ rfl rfl),
    st_plain rfl (op_assign _ _ _ _ rfl rfl),
    trivial⟩ ?_
   refine pt_then ?_
   refine ht_ret ?_
   refine pt_pick [2, 3, 0, 1] (by kernel_rfl) (es' := [(_, _), (_, _), (_, _), (_, _)]) rfl ?_
   obtain rfl := Option.some.inj h
   exact pt_retP (es := [(4, .v (.int .i64 v1.1)), (5, .v (.int .i64 0))]) (posts := [.box 59 [.fl .shr 1 (List.map (Value.int .u8) s.b), .v (.int .i64 v1.2.1), .fl (.own 5) 1 (List.map (Value.int .u8) s.out), .v (.int .i64 s.most), .v (.int .i64 s.blocks)]]) hio rfl rfl (.tmp _ _ (.tmp _ _ .nil)) rfl rfl hargs0 rfl

set_option maxHeartbeats 1000000 in
theorem ok_sym_lens (r : T_sym_scale) (h : Sh.sym_lens  = some r) : FnOK Tryd.prog 63 [] (.agg [.v (.int .i64 r.least), .v (.int .i64 r.singles), .v (.int .i64 r.group)]) := by
  unfold Sh.sym_lens at h
  refine fn_ok Tryd.func63 rfl (Nat.le_of_ble_eq_true rfl) rfl rfl fun g0 hn hio => ?_
  refine ht_seq ?_
  refine ht_seqR hn (El := [(0, .box 113 [.v (.int .i64 0), .v (.int .i64 0), .v (.int .i64 0)])]) (init := []) (fin := [0]) (sps := [⟨[], [], [0], [(.slot 0)]⟩]) (es' := [(0, .box 113 [.v (.int .i64 0), .v (.int .i64 0), .v (.int .i64 0)])]) (by kernel_rfl) rfl rfl
   ⟨st_plain rfl (op_alloc _ _ zr113),
   trivial⟩ ?_
  refine pt_then ?_
  refine ht_seq ?_
  refine ht_seqR hn (El := [_, (1, .agg [.v (.int .i64 3), .v (.int .i64 8), .v (.int .i64 4)]), (0, .box 113 [.v (.int .i64 3), .v (.int .i64 8), .v (.int .i64 4)])]) (init := [0]) (fin := [2]) (sps := [⟨[], [], [1], [(.slot 1)]⟩, ⟨[1], [0], [2], [.cell 0 0, .cell 0 1, .cell 0 2]⟩]) (es' := [(0, .box 113 [.v (.int .i64 3), .v (.int .i64 8), .v (.int .i64 4)])]) (by kernel_rfl) rfl rfl
   ⟨st_plain rfl (op_build _ _ _ _ [1, 1, 1] _ _ Tryd.underlying113 zr113 (fs113 _ Tryd.underlying113) (.copy _ (.copy _ (.copy _ Src.nil))) rfl rfl rfl),
   st_plain rfl (op_store _ _ _ _ _ _ _ _ sz113 rfl rfl rfl rfl (Nat.le_of_ble_eq_true rfl) rfl rfl),
   trivial⟩ ?_
  refine pt_then ?_
  refine ht_ret ?_
  obtain rfl := Option.some.inj h
  exact pt_ret hio rfl (.cellA _ _ _ _ Tryd.underlying113 rfl sz113 .nil) rfl rfl

set_option maxHeartbeats 1000000 in
theorem ok_sym_scale_symbol (s : T_sym_scale) (sym : Int) (r : (Int × Int)) (h : Sh.sym_scale_symbol s sym = some r) : FnOK Tryd.prog 82 [.agg [.v (.int .i64 s.least), .v (.int .i64 s.singles), .v (.int .i64 s.group)], .v (.int .i64 sym)] (.tup [.v (.int .i64 r.1), .v (.int .i64 r.2)]) := by
  unfold Sh.sym_scale_symbol at h
  refine fn_ok Tryd.func82 rfl (Nat.le_of_ble_eq_true rfl) rfl rfl fun g0 hn hio => ?_
  refine ht_seq ?_
  refine ht_seqR hn (El := [_, _, (2, .box 113 [.v (.int .i64 s.least), .v (.int .i64 s.singles), .v (.int .i64 s.group)]), (4, .v (.int .i64 0)), (5, .v (.int .i64 0))]) (init := [0, 1]) (fin := [1, 2]) (sps := [⟨[0], [], [2], [(.slot 2)]⟩, ⟨[], [], [3], [(.slot 4)]⟩, ⟨[], [], [4], [(.slot 5)]⟩]) (es' := [(_, _), (2, .box 113 [.v (.int .i64 s.least), .v (.int .i64 s.singles), .v (.int .i64 s.group)])]) (by kernel_rfl) rfl rfl
   ⟨st_plain rfl (op_box _ _ _ _ rfl rfl rfl),
   st_plain rfl (op_assign _ _ _ _ rfl rfl),
   st_plain rfl (op_assign _ _ _ _ rfl rfl),
   trivial⟩ ?_
  refine pt_then ?_
  refine ht_seq ?_
  refine ht_seq ?_
  refine ht_seqR hn (El := [_, _, (7, .v (.int .i64 sym)), (8, .ptr 2 1), (9, .v (.int .i64 s.singles)), (10, .v (.bool ((decide (sym < s.singles)))))]) (init := [0, 1]) (fin := [0, 1, 5]) (sps := [⟨[0], [], [2], [(.slot 7)]⟩, ⟨[1], [], [3], [(.slot 8)]⟩, ⟨[3, 1], [], [4], [(.slot 9)]⟩, ⟨[2, 4], [], [5], [(.slot 10)]⟩]) (es' := [(_, _), (_, _), (10, .v (.bool ((decide (sym < s.singles)))))]) (by kernel_rfl) rfl rfl
   ⟨st_plain rfl (op_move _ _ _ _ rfl rfl),
   st_plain rfl (op_fieldAddr _ _ _ _ 2 0 _ Tryd.underlying113 rfl sz3 rfl rfl (by decide)),
   st_plain rfl (op_load _ _ _ _ _ _ Tryd.underlying3 rfl rfl rfl (Nat.le_of_ble_eq_true rfl) rfl rfl rfl),
   st_plain rfl (op_bin _ _ _ _ _ rfl rfl rfl),
   trivial⟩ ?_
  refine pt_then ?_
  refine ht_cond _ rfl (fun hb1 => ?_) (fun hb1 => ?_)
  ·have h := cond_t hb1 h
   refine ht_seq ?_
   obtain ⟨v2, hv2, h⟩ := bind_some h
   refine ht_seqR hn (El := [_, _, _, (11, .ptr 2 0), (12, .v (.int .i64 s.least)), (13, .v (.int .i64 sym)), (14, .v (.int .i64 v2)), (4, .v (.int .i64 v2)), (5, .v (.int .i64 0))]) (init := [0, 1, 2]) (fin := [7, 8]) (sps := [⟨[1], [], [3], [(.slot 11)]⟩, ⟨[3, 1], [], [4], [(.slot 12)]⟩, ⟨[0], [], [5], [(.slot 13)]⟩, ⟨[4, 5], [], [6], [(.slot 14)]⟩, ⟨[6], [], [7], [(.slot 4)]⟩, ⟨[], [], [8], [(.slot 5)]⟩]) (es' := [(4, .v (.int .i64 v2)), (5, .v (.int .i64 0))]) (by kernel_rfl) rfl rfl
    ⟨st_plain rfl (op_fieldAddr _ _ _ _ 2 0 _ Tryd.underlying113 rfl sz3 rfl rfl (by decide)),
    st_plain rfl (op_load _ _ _ _ _ _ Tryd.underlying3 rfl rfl rfl (Nat.le_of_ble_eq_true rfl) rfl rfl rfl),
    st_plain rfl (op_move _ _ _ _ rfl rfl),
    st_plain rfl (op_bin _ _ _ _ _ rfl rfl (ibind (f := Value.int .i64) (Option.some.inj hv2))),
    st_plain rfl (op_assign _ _ _ _ rfl rfl),
    st_plain rfl (op_assign _ _ _ _ rfl rfl),
    trivial⟩ ?_
   refine pt_then ?_
   refine ht_ret ?_
   refine pt_r_then ?_
   obtain rfl := Option.some.inj h
   exact pt_ret hio rfl (.tmp _ _ (.tmp _ _ .nil)) rfl rfl
  ·have h := cond_f hb1 h
   refine ht_skip ?_
   refine pt_then ?_
   refine ht_seq ?_
   obtain ⟨v3, hv3, h⟩ := bind_some h
   refine ht_seqR hn (El := [_, _, _, (15, .ptr 2 0), (16, .v (.int .i64 s.least)), (17, .ptr 2 1), (18, .v (.int .i64 s.singles)), (19, .v (.int .i64 v3)), (4, .v (.int .i64 v3))]) (init := [0, 1, 2]) (fin := [0, 1, 8]) (sps := [⟨[1], [], [3], [(.slot 15)]⟩, ⟨[3, 1], [], [4], [(.slot 16)]⟩, ⟨[1], [], [5], [(.slot 17)]⟩, ⟨[5, 1], [], [6], [(.slot 18)]⟩, ⟨[4, 6], [], [7], [(.slot 19)]⟩, ⟨[7], [], [8], [(.slot 4)]⟩]) (es' := [(_, _), (_, _), (4, .v (.int .i64 v3))]) (by kernel_rfl) rfl rfl
    ⟨st_plain rfl (op_fieldAddr _ _ _ _ 2 0 _ Tryd.underlying113 rfl sz3 rfl rfl (by decide)),
    st_plain rfl (op_load _ _ _ _ _ _ Tryd.underlying3 rfl rfl rfl (Nat.le_of_ble_eq_true rfl) rfl rfl rfl),
    st_plain rfl (op_fieldAddr _ _ _ _ 2 0 _ Tryd.underlying113 rfl sz3 rfl rfl (by decide)),
    st_plain rfl (op_load _ _ _ _ _ _ Tryd.underlying3 rfl rfl rfl (Nat.le_of_ble_eq_true rfl) rfl rfl rfl),
    st_plain rfl (op_bin _ _ _ _ _ rfl rfl (ibind (f := Value.int .i64) (Option.some.inj hv3))),
    st_plain rfl (op_assign _ _ _ _ rfl rfl),
    trivial⟩ ?_
   refine pt_then ?_
   refine ht_seq ?_
   refine ht_seqR hn (El := [_, _, _, (6, .v (.int .i64 1))]) (init := [0, 1, 2]) (fin := [0, 1, 2, 3]) (sps := [⟨[], [], [3], [(.slot 6)]⟩]) (es' := [(_, _), (_, _), (_, _), (6, .v (.int .i64 1))]) (by kernel_rfl) rfl rfl
    ⟨st_plain rfl (op_assign _ _ _ _ rfl rfl),
    trivial⟩ ?_
   refine pt_then ?_
   refine ht_seq ?_
   refine ht_seq ?_
   obtain ⟨v4, hv4, h⟩ := bind_some h
   refine ht_seqR hn (El := [_, _, _, _, (20, .v (.int .i64 sym)), (21, .ptr 2 1), (22, .v (.int .i64 s.singles)), (23, .v (.int .i64 v4)), (1, .v (.int .i64 v4))]) (init := [0, 1, 2, 3]) (fin := [1, 2, 3, 8]) (sps := [⟨[0], [], [4], [(.slot 20)]⟩, ⟨[1], [], [5], [(.slot 21)]⟩, ⟨[5, 1], [], [6], [(.slot 22)]⟩, ⟨[4, 6], [], [7], [(.slot 23)]⟩, ⟨[7], [0], [8], [(.slot 1)]⟩]) (es' := [(_, _), (_, _), (_, _), (1, .v (.int .i64 v4))]) (by kernel_rfl) rfl rfl
    ⟨st_plain rfl (op_move _ _ _ _ rfl rfl),
    st_plain rfl (op_fieldAddr _ _ _ _ 2 0 _ Tryd.underlying113 rfl sz3 rfl rfl (by decide)),
    st_plain rfl (op_load _ _ _ _ _ _ Tryd.underlying3 rfl rfl rfl (Nat.le_of_ble_eq_true rfl) rfl rfl rfl),
    st_plain rfl (op_bin _ _ _ _ _ rfl rfl (ibind (f := Value.int .i64) (Option.some.inj hv4))),
    st_plain rfl (LOp.drop [_] (op_assign _ _ _ _ rfl rfl)),
    trivial⟩ ?_
   refine pt_then ?_
   refine ht_loopS h (fun ((s14, s15, s16) : Int × Int × Int) => [(2, .box 113 [.v (.int .i64 s.least), .v (.int .i64 s.singles), .v (.int .i64 s.group)]), (4, .v (.int .i64 s14)), (6, .v (.int .i64 s15)), (1, .v (.int .i64 s16))]) (fun ((s18, s19, s20) : Int × Int × Int) => [(4, .v (.int .i64 s18)), (6, .v (.int .i64 s19)), (1, .v (.int .i64 s20))]) ?_ ?_
   ·rintro ⟨s18, s19, s20⟩ h
    refine pt_then ?_
    refine ht_seq ?_
    obtain ⟨v28, hv28, h⟩ := bind_some h
    obtain ⟨v29, hv29, h⟩ := bind_some h
    refine ht_seqR hn (El := [_, _, _, (40, .v (.int .i64 s18)), (41, .v (.int .i64 s20)), (42, .v (.int .i64 s19)), (43, .v (.int .i64 v28)), (44, .v (.int .i64 v29)), (45, .v (.int .i64 s19)), (4, .v (.int .i64 v29)), (5, .v (.int .i64 s19))]) (init := [0, 1, 2]) (fin := [9, 10]) (sps := [⟨[0], [], [3], [(.slot 40)]⟩, ⟨[2], [], [4], [(.slot 41)]⟩, ⟨[1], [], [5], [(.slot 42)]⟩, ⟨[4, 5], [], [6], [(.slot 43)]⟩, ⟨[3, 6], [], [7], [(.slot 44)]⟩, ⟨[1], [], [8], [(.slot 45)]⟩, ⟨[7], [0], [9], [(.slot 4)]⟩, ⟨[8], [], [10], [(.slot 5)]⟩]) (es' := [(4, .v (.int .i64 v29)), (5, .v (.int .i64 s19))]) (by kernel_rfl) rfl rfl
     ⟨st_plain rfl (op_move _ _ _ _ rfl rfl),
     st_plain rfl (op_move _ _ _ _ rfl rfl),
     st_plain rfl (op_move _ _ _ _ rfl rfl),
     st_plain rfl (op_bin _ _ _ _ _ rfl rfl (shl_ok hv28)),
     st_plain rfl (op_bin _ _ _ _ _ rfl rfl (ibind (f := Value.int .i64) (Option.some.inj hv29))),
     st_plain rfl (op_move _ _ _ _ rfl rfl),
     st_plain rfl (LOp.drop [_] (op_assign _ _ _ _ rfl rfl)),
     st_plain rfl (op_assign _ _ _ _ rfl rfl),
     trivial⟩ ?_
    refine pt_then ?_
    refine ht_ret ?_
    obtain rfl := Option.some.inj h
    exact pt_ret hio rfl (.tmp _ _ (.tmp _ _ .nil)) rfl rfl
   ·rintro u21 hl22 hr23 ⟨s14, s15, s16⟩ rr26 h ho24
    refine ht_seq ?_
    refine ht_seq ?_
    refine ht_seqR hn (El := [_, _, _, _, (24, .v (.int .i64 s16)), (25, .ptr 2 2), (26, .v (.int .i64 s.group)), (27, .v (.bool ((decide (s.group ≤ s16)))))]) (init := [0, 1, 2, 3]) (fin := [0, 1, 2, 3, 7]) (sps := [⟨[3], [], [4], [(.slot 24)]⟩, ⟨[0], [], [5], [(.slot 25)]⟩, ⟨[5, 0], [], [6], [(.slot 26)]⟩, ⟨[4, 6], [], [7], [(.slot 27)]⟩]) (es' := [(_, _), (_, _), (_, _), (_, _), (27, .v (.bool ((decide (s.group ≤ s16)))))]) (by kernel_rfl) rfl rfl
     ⟨st_plain rfl (op_move _ _ _ _ rfl rfl),
     st_plain rfl (op_fieldAddr _ _ _ _ 2 0 _ Tryd.underlying113 rfl sz3 rfl rfl (by decide)),
     st_plain rfl (op_load _ _ _ _ _ _ Tryd.underlying3 rfl rfl rfl (Nat.le_of_ble_eq_true rfl) rfl rfl rfl),
     st_plain rfl (op_bin _ _ _ _ _ rfl rfl rfl),
     trivial⟩ ?_
    refine pt_then ?_
    refine ht_cond _ rfl (fun hb27 => ?_) (fun hb27 => ?_)
    ·have h := cond_t hb27 h
     refine ht_skip ?_
     refine pt_then ?_
     refine ht_seq ?_
     refine ht_block ?_
     refine ht_seq ?_
     obtain ⟨v6, hv6, h⟩ := bind_some h
     obtain ⟨v7, hv7, h⟩ := bind_some h
     refine ht_seqR hn (El := [_, _, _, _, _, (32, .v (.int .i64 s14)), (33, .ptr 2 2), (34, .v (.int .i64 s.group)), (35, .v (.int .i64 s15)), (36, .v (.int .i64 v6)), (37, .v (.int .i64 v7)), (4, .v (.int .i64 v7))]) (init := [0, 1, 2, 3, 4]) (fin := [0, 2, 3, 11]) (sps := [⟨[1], [], [5], [(.slot 32)]⟩, ⟨[0], [], [6], [(.slot 33)]⟩, ⟨[6, 0], [], [7], [(.slot 34)]⟩, ⟨[2], [], [8], [(.slot 35)]⟩, ⟨[7, 8], [], [9], [(.slot 36)]⟩, ⟨[5, 9], [], [10], [(.slot 37)]⟩, ⟨[10], [1], [11], [(.slot 4)]⟩]) (es' := [(_, _), (_, _), (_, _), (4, .v (.int .i64 v7))]) (by kernel_rfl) rfl rfl
      ⟨st_plain rfl (op_move _ _ _ _ rfl rfl),
      st_plain rfl (op_fieldAddr _ _ _ _ 2 0 _ Tryd.underlying113 rfl sz3 rfl rfl (by decide)),
      st_plain rfl (op_load _ _ _ _ _ _ Tryd.underlying3 rfl rfl rfl (Nat.le_of_ble_eq_true rfl) rfl rfl rfl),
      st_plain rfl (op_move _ _ _ _ rfl rfl),
      st_plain rfl (op_bin _ _ _ _ _ rfl rfl (shl_ok hv6)),
      st_plain rfl (op_bin _ _ _ _ _ rfl rfl (ibind (f := Value.int .i64) (Option.some.inj hv7))),
      st_plain rfl (LOp.drop [_] (op_assign _ _ _ _ rfl rfl)),
      trivial⟩ ?_
     refine pt_then ?_
     obtain ⟨v8, hv8, h⟩ := bind_some h
     refine ht_seqR hn (El := [_, _, _, _, (38, .v (.int .i64 s15)), (39, .v (.int .i64 v8)), (6, .v (.int .i64 v8))]) (init := [0, 1, 2, 3]) (fin := [0, 2, 3, 6]) (sps := [⟨[1], [], [4], [(.slot 38)]⟩, ⟨[4], [], [5], [(.slot 39)]⟩, ⟨[5], [1], [6], [(.slot 6)]⟩]) (es' := [(_, _), (_, _), (_, _), (6, .v (.int .i64 v8))]) (by kernel_rfl) rfl rfl
      ⟨st_plain rfl (op_move _ _ _ _ rfl rfl),
      st_plain rfl (op_bin _ _ _ _ _ rfl rfl (ibind (f := Value.int .i64) (Option.some.inj hv8))),
      st_plain rfl (LOp.drop [_] (op_assign _ _ _ _ rfl rfl)),
      trivial⟩ ?_
     refine pt_inb ?_
     refine pt_then ?_
     obtain ⟨v9, hv9, h⟩ := bind_some h
     refine ht_seqR hn (El := [_, _, _, _, (28, .v (.int .i64 s16)), (29, .ptr 2 2), (30, .v (.int .i64 s.group)), (31, .v (.int .i64 v9)), (1, .v (.int .i64 v9))]) (init := [0, 1, 2, 3]) (fin := [0, 2, 3, 8]) (sps := [⟨[1], [], [4], [(.slot 28)]⟩, ⟨[0], [], [5], [(.slot 29)]⟩, ⟨[5, 0], [], [6], [(.slot 30)]⟩, ⟨[4, 6], [], [7], [(.slot 31)]⟩, ⟨[7], [1], [8], [(.slot 1)]⟩]) (es' := [(_, _), (_, _), (_, _), (1, .v (.int .i64 v9))]) (by kernel_rfl) rfl rfl
      ⟨st_plain rfl (op_move _ _ _ _ rfl rfl),
      st_plain rfl (op_fieldAddr _ _ _ _ 2 0 _ Tryd.underlying113 rfl sz3 rfl rfl (by decide)),
      st_plain rfl (op_load _ _ _ _ _ _ Tryd.underlying3 rfl rfl rfl (Nat.le_of_ble_eq_true rfl) rfl rfl rfl),
      st_plain rfl (op_bin _ _ _ _ _ rfl rfl (ibind (f := Value.int .i64) (Option.some.inj hv9))),
      st_plain rfl (LOp.drop [_] (op_assign _ _ _ _ rfl rfl)),
      trivial⟩ ?_
     exact pt_next _ (Option.some.inj h).symm rfl
    ·have h := cond_f hb27 h
     refine ht_exit ?_
     refine pt_x_then ?_
     refine pt_x_then ?_
     refine pt_x_in ?_
     refine pt_pick [1, 2, 3] (by kernel_rfl) (es' := [(_, _), (_, _), (_, _)]) rfl ?_
     exact hl22 _ (ho24 _ (Option.some.inj h).symm).symm

set_option maxHeartbeats 1000000 in
theorem ok_sym_LenOf (sym : Int) (r : (Int × Int × Int)) (h : Sh.sym_LenOf sym = some r) : FnOK Tryd.prog 88 [.v (.int .i64 sym)] (.tup [.v (.int .i64 r.1), .v (.int .i64 r.2.1), .v (.int .i64 r.2.2)]) := by
  unfold Sh.sym_LenOf at h
  refine fn_ok Tryd.func88 rfl (Nat.le_of_ble_eq_true rfl) rfl rfl fun g0 hn hio => ?_
  refine ht_seq ?_
  refine ht_seqR hn (El := [_, (2, .v (.int .i64 0)), (3, .v (.int .i64 0)), (4, .v (.int .i64 0))]) (init := [0]) (fin := [0]) (sps := [⟨[], [], [1], [(.slot 2)]⟩, ⟨[], [], [2], [(.slot 3)]⟩, ⟨[], [], [3], [(.slot 4)]⟩]) (es' := [(_, _)]) (by kernel_rfl) rfl rfl
   ⟨st_plain rfl (op_assign _ _ _ _ rfl rfl),
   st_plain rfl (op_assign _ _ _ _ rfl rfl),
   st_plain rfl (op_assign _ _ _ _ rfl rfl),
   trivial⟩ ?_
  refine pt_then ?_
  refine ht_seq ?_
  refine ht_seq ?_
  refine ht_joinS h (fun (s1 : Bool) => [(0, .v (.int .i64 sym)), (10, .v (.bool s1))]) ?_ ?_
  ·rintro s1 h
   refine pt_then ?_
   refine ht_cond _ rfl (fun hb5 => ?_) (fun hb5 => ?_)
   ·have h := cond_t hb5 h
    refine ht_seq ?_
    refine ht_seqR hn (El := [_, _, (2, .v (.int .i64 0)), (3, .v (.int .i64 0)), (4, .v (.int .i64 1))]) (init := [0, 1]) (fin := [2, 3, 4]) (sps := [⟨[], [], [2], [(.slot 2)]⟩, ⟨[], [], [3], [(.slot 3)]⟩, ⟨[], [], [4], [(.slot 4)]⟩]) (es' := [(2, .v (.int .i64 0)), (3, .v (.int .i64 0)), (4, .v (.int .i64 1))]) (by kernel_rfl) rfl rfl
     ⟨st_plain rfl (op_assign _ _ _ _ rfl rfl),
     st_plain rfl (op_assign _ _ _ _ rfl rfl),
     st_plain rfl (op_assign _ _ _ _ rfl rfl),
     trivial⟩ ?_
    refine pt_then ?_
    refine ht_ret ?_
    refine pt_r_then ?_
    obtain rfl := Option.some.inj h
    exact pt_ret hio rfl (.tmp _ _ (.tmp _ _ (.tmp _ _ .nil))) rfl rfl
   ·have h := cond_f hb5 h
    refine ht_skip ?_
    refine pt_then ?_
    refine ht_seq ?_
    refine ht_seq ?_
    refine ht_seqR hn (El := [_, _, (11, .v (.int .i64 sym)), (12, .v (.bool (sym == 285)))]) (init := [0, 1]) (fin := [0, 3]) (sps := [⟨[0], [], [2], [(.slot 11)]⟩, ⟨[2], [], [3], [(.slot 12)]⟩]) (es' := [(_, _), (12, .v (.bool (sym == 285)))]) (by kernel_rfl) rfl rfl
     ⟨st_plain rfl (op_move _ _ _ _ rfl rfl),
     st_plain rfl (op_bin _ _ _ _ _ rfl rfl rfl),
     trivial⟩ ?_
    refine pt_then ?_
    refine ht_cond _ rfl (fun hb6 => ?_) (fun hb6 => ?_)
    ·have h := cond_t hb6 h
     refine ht_seq ?_
     refine ht_seqR hn (El := [_, _, (2, .v (.int .i64 258)), (3, .v (.int .i64 0)), (4, .v (.int .i64 0))]) (init := [0, 1]) (fin := [2, 3, 4]) (sps := [⟨[], [], [2], [(.slot 2)]⟩, ⟨[], [], [3], [(.slot 3)]⟩, ⟨[], [], [4], [(.slot 4)]⟩]) (es' := [(2, .v (.int .i64 258)), (3, .v (.int .i64 0)), (4, .v (.int .i64 0))]) (by kernel_rfl) rfl rfl
      ⟨st_plain rfl (op_assign _ _ _ _ rfl rfl),
      st_plain rfl (op_assign _ _ _ _ rfl rfl),
      st_plain rfl (op_assign _ _ _ _ rfl rfl),
      trivial⟩ ?_
     refine pt_then ?_
     refine ht_ret ?_
     refine pt_r_then ?_
     obtain rfl := Option.some.inj h
     exact pt_ret hio rfl (.tmp _ _ (.tmp _ _ (.tmp _ _ .nil))) rfl rfl
    ·have h := cond_f hb6 h
     refine ht_skip ?_
     refine pt_then ?_
     refine ht_seq ?_
     obtain ⟨v7, hv7, h⟩ := bind_some h
     obtain ⟨v8, hv8, h⟩ := bind_some h
     obtain ⟨v9, hv9, h⟩ := bind_some h
     refine ht_seqR hn (El := [_, _, (14, .agg [.v (.int .i64 v7.least), .v (.int .i64 v7.singles), .v (.int .i64 v7.group)]), (15, .v (.int .i64 sym)), (16, .v (.int .i64 v8)), (17, .tup [.v (.int .i64 v9.1), .v (.int .i64 v9.2)]), (13, .tup [.v (.int .i64 v9.1), .v (.int .i64 v9.2)]), (18, .v (.int .i64 v9.1)), (19, .v (.int .i64 v9.2)), (2, .v (.int .i64 v9.1)), (3, .v (.int .i64 v9.2))]) (init := [0, 1]) (fin := [9, 10]) (sps := [⟨[], [], [2], [(.slot 14)]⟩, ⟨[0], [], [3], [(.slot 15)]⟩, ⟨[3], [], [4], [(.slot 16)]⟩, ⟨[2, 4], [], [5], [(.slot 17)]⟩, ⟨[], [5], [6], [(.slot 13)]⟩, ⟨[6], [], [7], [(.slot 18)]⟩, ⟨[6], [], [8], [(.slot 19)]⟩, ⟨[7], [], [9], [(.slot 2)]⟩, ⟨[8], [], [10], [(.slot 3)]⟩]) (es' := [(2, .v (.int .i64 v9.1)), (3, .v (.int .i64 v9.2))]) (by kernel_rfl) rfl rfl
      ⟨st_plain rfl (op_call _ _ 63 _ _ rfl Tryd.call63 rfl (ok_sym_lens  _ hv7) rfl rfl),
      st_plain rfl (op_move _ _ _ _ rfl rfl),
      st_plain rfl (op_bin _ _ _ _ _ rfl rfl (ibind (f := Value.int .i64) (Option.some.inj hv8))),
      st_plain rfl (op_call _ _ 82 _ _ rfl Tryd.call82 rfl (ok_sym_scale_symbol v7 v8 _ hv9) rfl rfl),
      st_plain rfl (op_move_take _ _ _ _ rfl),
      st_plain rfl (op_extract _ _ _ _ _ rfl rfl (Nat.le_of_ble_eq_true rfl) rfl rfl),
      st_plain rfl (op_extract _ _ _ _ _ rfl rfl (Nat.le_of_ble_eq_true rfl) rfl rfl),
      st_plain rfl (op_assign _ _ _ _ rfl rfl),
      st_plain rfl (op_assign _ _ _ _ rfl rfl),
      trivial⟩ ?_
     refine pt_then ?_
     refine ht_seq ?_
     refine ht_seqR hn (El := [_, _, (20, .v (.int .i64 v9.1)), (21, .v (.int .i64 v9.2)), (2, .v (.int .i64 v9.1)), (3, .v (.int .i64 v9.2)), (4, .v (.int .i64 0))]) (init := [0, 1]) (fin := [4, 5, 6]) (sps := [⟨[0], [], [2], [(.slot 20)]⟩, ⟨[1], [], [3], [(.slot 21)]⟩, ⟨[2], [0], [4], [(.slot 2)]⟩, ⟨[3], [1], [5], [(.slot 3)]⟩, ⟨[], [], [6], [(.slot 4)]⟩]) (es' := [(2, .v (.int .i64 v9.1)), (3, .v (.int .i64 v9.2)), (4, .v (.int .i64 0))]) (by kernel_rfl) rfl rfl
      ⟨st_plain rfl (op_move _ _ _ _ rfl rfl),
      st_plain rfl (op_move _ _ _ _ rfl rfl),
      st_plain rfl (LOp.drop [_] (op_assign _ _ _ _ rfl rfl)),
      st_plain rfl (LOp.drop [_] (op_assign _ _ _ _ rfl rfl)),
      st_plain rfl (op_assign _ _ _ _ rfl rfl),
      trivial⟩ ?_
     refine pt_then ?_
     refine ht_ret ?_
     obtain rfl := Option.some.inj h
     exact pt_ret hio rfl (.tmp _ _ (.tmp _ _ (.tmp _ _ .nil))) rfl rfl
  ·intro u2 h hl3 hr4
   refine cond_some h (fun hg1_2 h => ?_) (fun hg1_2 h => ?_)
   ·refine ht_seqR hn (El := [_, (5, .v (.int .i64 sym)), (6, .v (.bool ((decide (sym < 257))))), (7, .v (.bool true)), (8, .v undef), (9, .v undef), (10, .v (.bool true))]) (init := [0]) (fin := [0, 6]) (sps := [⟨[0], [], [1], [(.slot 5)]⟩, ⟨[1], [], [2], [(.slot 6)]⟩, ⟨[2], [], [3], [(.slot 7)]⟩, ⟨[3], [], [4], [(.slot 8)]⟩, ⟨[3], [], [5], [(.slot 9)]⟩, ⟨[3], [], [6], [(.slot 10)]⟩]) (es' := [(_, _), (10, .v (.bool true))]) (by kernel_rfl) rfl rfl
     ⟨st_plain rfl (op_move _ _ _ _ rfl rfl),
     st_plain rfl (op_bin _ _ _ _ _ rfl rfl rfl),
     st_plain rfl (op_move _ _ _ _ (congrArg (fun b => AV.v (Value.bool b)) hg1_2) rfl),
     st_skip 2 7 _ false rfl rfl rfl rfl (List.Mem.head _),
     st_skip 2 7 _ false rfl rfl rfl rfl (List.Mem.head _),
     st_plain rfl (op_pick _ _ true _ rfl rfl),
     trivial⟩ ?_
    exact hl3 _ (Option.some.inj h).symm
   ·refine ht_seqR hn (El := [_, (5, .v (.int .i64 sym)), (6, .v (.bool ((decide (sym < 257))))), (7, .v (.bool false)), (8, .v (.int .i64 sym)), (9, .v (.bool ((decide (285 < sym))))), (10, .v (.bool ((decide (285 < sym)))))]) (init := [0]) (fin := [0, 6]) (sps := [⟨[0], [], [1], [(.slot 5)]⟩, ⟨[1], [], [2], [(.slot 6)]⟩, ⟨[2], [], [3], [(.slot 7)]⟩, ⟨[3, 0], [], [4], [(.slot 8)]⟩, ⟨[3, 4], [], [5], [(.slot 9)]⟩, ⟨[3, 5], [], [6], [(.slot 10)]⟩]) (es' := [(_, _), (10, .v (.bool ((decide (285 < sym)))))]) (by kernel_rfl) rfl rfl
     ⟨st_plain rfl (op_move _ _ _ _ rfl rfl),
     st_plain rfl (op_bin _ _ _ _ _ rfl rfl rfl),
     st_plain rfl (op_move _ _ _ _ (congrArg (fun b => AV.v (Value.bool b)) hg1_2) rfl),
     st_run 2 7 false rfl rfl rfl (List.Mem.head _) (op_move _ _ _ _ rfl rfl),
     st_run 2 7 false rfl rfl rfl (List.Mem.head _) (op_bin _ _ _ _ _ rfl rfl rfl),
     st_plain rfl (op_pick _ _ false _ rfl rfl),
     trivial⟩ ?_
    exact hl3 _ (Option.some.inj h).symm

set_option maxHeartbeats 1000000 in
theorem ok_sym_dists (r : T_sym_scale) (h : Sh.sym_dists  = some r) : FnOK Tryd.prog 65 [] (.agg [.v (.int .i64 r.least), .v (.int .i64 r.singles), .v (.int .i64 r.group)]) := by
  unfold Sh.sym_dists at h
  refine fn_ok Tryd.func65 rfl (Nat.le_of_ble_eq_true rfl) rfl rfl fun g0 hn hio => ?_
  refine ht_seq ?_
  refine ht_seqR hn (El := [(0, .box 113 [.v (.int .i64 0), .v (.int .i64 0), .v (.int .i64 0)])]) (init := []) (fin := [0]) (sps := [⟨[], [], [0], [(.slot 0)]⟩]) (es' := [(0, .box 113 [.v (.int .i64 0), .v (.int .i64 0), .v (.int .i64 0)])]) (by kernel_rfl) rfl rfl
   ⟨st_plain rfl (op_alloc _ _ zr113),
   trivial⟩ ?_
  refine pt_then ?_
  refine ht_seq ?_
  refine ht_seqR hn (El := [_, (1, .agg [.v (.int .i64 1), .v (.int .i64 4), .v (.int .i64 2)]), (0, .box 113 [.v (.int .i64 1), .v (.int .i64 4), .v (.int .i64 2)])]) (init := [0]) (fin := [2]) (sps := [⟨[], [], [1], [(.slot 1)]⟩, ⟨[1], [0], [2], [.cell 0 0, .cell 0 1, .cell 0 2]⟩]) (es' := [(0, .box 113 [.v (.int .i64 1), .v (.int .i64 4), .v (.int .i64 2)])]) (by kernel_rfl) rfl rfl
   ⟨st_plain rfl (op_build _ _ _ _ [1, 1, 1] _ _ Tryd.underlying113 zr113 (fs113 _ Tryd.underlying113) (.copy _ (.copy _ (.copy _ Src.nil))) rfl rfl rfl),
   st_plain rfl (op_store _ _ _ _ _ _ _ _ sz113 rfl rfl rfl rfl (Nat.le_of_ble_eq_true rfl) rfl rfl),
   trivial⟩ ?_
  refine pt_then ?_
  refine ht_ret ?_
  obtain rfl := Option.some.inj h
  exact pt_ret hio rfl (.cellA _ _ _ _ Tryd.underlying113 rfl sz113 .nil) rfl rfl

end Go.Proofs.YthceldoojddpiaaDoor
