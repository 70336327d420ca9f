/-
  The model's runs are what is told in Lean.
-/
import Derived.Test.YtadkeipbkbkneaaDoorProg
import Derived.KernelRfl
import Derived.Test.YtadkeipbkbkneaaDoorShelf
import Derived.Test.YtadkeipbkbkneaaDoorOkc1
set_option linter.unusedVariables false
set_option linter.unusedSimpArgs false
namespace Go.Proofs.YtadkeipbkbkneaaDoor
open Go.Abs Go.Abs.Sh

set_option maxHeartbeats 1000000 in
theorem ok_wherryref08_Sum (b : (List Int)) (r : (List Int)) (h : Sh.wherryref08_Sum b = some r) : FnOK Tryd.prog 37 [.fl .shr 1 (List.map (Value.int .u8) b)] (.v (.agg (List.map (Value.int .u8) r).toArray)) := by
  unfold Sh.wherryref08_Sum at h
  refine fn_ok Tryd.func37 rfl (Nat.le_of_ble_eq_true rfl) rfl rfl fun g0 hn hio => ?_
  refine ht_seq ?_
  refine ht_seqR hn (El := [_, (2, .arr 37 (List.map (Value.int .u8) ((List.replicate 16 (0 : Int)))))]) (init := [0]) (fin := [0, 1]) (sps := [⟨[], [], [1], [(.slot 2)]⟩]) (es' := [(_, _), (2, .arr 37 (List.map (Value.int .u8) ((List.replicate 16 (0 : Int)))))]) (by kernel_rfl) rfl rfl
   ⟨st_plain rfl (op_alloc_arr _ za37),
   trivial⟩ ?_
  refine pt_then ?_
  refine ht_seq ?_
  obtain ⟨v1, hv1, h⟩ := bind_some h
  obtain ⟨v2, hv2, h⟩ := bind_some h
  refine ht_seqR hn (El := [_, _, (18, .fl .shr 1 (List.map (Value.int .u8) b)), (19, .fl (.own 5) 1 (List.map (Value.int .u8) v1)), (20, .fl (.own 5) 1 (List.map (Value.int .u8) [128])), (21, .fl (.own 5) 1 (List.map (Value.int .u8) v2)), (19, .any), (3, .fl (.own 5) 1 (List.map (Value.int .u8) v2))]) (init := [0, 1]) (fin := [0, 1, 7]) (sps := [⟨[0], [], [2], [(.slot 18)]⟩, ⟨[2], [], [3], [(.slot 19)]⟩, ⟨[], [], [4], [(.slot 20)]⟩, ⟨[4], [3], [6, 5], [(.slot 21)]⟩, ⟨[], [5], [7], [(.slot 3)]⟩]) (es' := [(_, _), (_, _), (3, .fl (.own 5) 1 (List.map (Value.int .u8) v2))]) (by kernel_rfl) rfl rfl
   ⟨st_plain rfl (op_move _ _ _ _ rfl rfl),
   st_plain rfl (op_call _ _ 8 _ _ rfl Tryd.call8 rfl (ok_wherrykeep_Twin b _ hv1) rfl rfl),
   st_plain rfl (op_buildSlice _ _ 1 (.int .u8 0) (List.map (Value.int .u8) [128]) [(0, .int .u8 128)] Tryd.underlying22 sz5 zr5 (fun _ V w o a hv hes => by simp only [List.map_toArray, List.map_cons, List.map_nil]; try rfl) (litfill (by simp [Instr.fill, Value.cells]; rfl) (by simp [List.range, List.range.loop] <;> rfl)) (by simp [Value.oneCell']) rfl (by decide) (by decide) (by decide)),
   st_plain rfl (op_app _ _ _ _ _ el22 rfl rfl (map_len _) (map_len _) hv2 ((List.map_append).symm.trans (congrArg (List.map _) (app_eq hv2)))),
   st_plain rfl (op_assign_take _ _ _ _ rfl),
   trivial⟩ ?_
  refine pt_then ?_
  refine ht_seq ?_
  refine ht_loopS h (fun (s8 : (List Int)) => [(0, .fl .shr 1 (List.map (Value.int .u8) b)), (2, .arr 37 (List.map (Value.int .u8) ((List.replicate 16 (0 : Int))))), (3, .fl (.own 5) 1 (List.map (Value.int .u8) s8))]) (fun (s10 : (List Int)) => [(0, .fl .shr 1 (List.map (Value.int .u8) b)), (2, .arr 37 (List.map (Value.int .u8) ((List.replicate 16 (0 : Int))))), (3, .fl (.own 5) 1 (List.map (Value.int .u8) s10))]) ?_ ?_
  ·rintro s10 h
   refine pt_then ?_
   refine ht_seq ?_
   refine ht_seq ?_
   refine ht_seqR hn (El := [_, _, _, (4, .v (.int .i64 0))]) (init := [0, 1, 2]) (fin := [0, 1, 2, 3]) (sps := [⟨[], [], [3], [(.slot 4)]⟩]) (es' := [(_, _), (_, _), (_, _), (4, .v (.int .i64 0))]) (by kernel_rfl) rfl rfl
    ⟨st_plain rfl (op_assign _ _ _ _ rfl rfl),
    trivial⟩ ?_
   refine pt_then ?_
   refine ht_loopS h (fun ((s30, s31) : (List Int) × Int) => [(0, .fl .shr 1 (List.map (Value.int .u8) b)), (2, .arr 37 (List.map (Value.int .u8) ((List.replicate 16 (0 : Int))))), (3, .fl (.own 5) 1 (List.map (Value.int .u8) s30)), (4, .v (.int .i64 s31))]) (fun (s33 : (List Int)) => [(2, .arr 37 (List.map (Value.int .u8) ((List.replicate 16 (0 : Int))))), (3, .fl (.own 5) 1 (List.map (Value.int .u8) s33))]) ?_ ?_
   ·rintro s33 h
    refine pt_then ?_
    refine ht_seq ?_
    refine ht_seqR hn (El := [_, _, (45, .fl (.own 49) 1 (List.map (Value.int .u32) [1732584193, 4023233417, 2562383102, 271733878])), (5, .fl (.own 49) 1 (List.map (Value.int .u32) [1732584193, 4023233417, 2562383102, 271733878]))]) (init := [0, 1]) (fin := [0, 1, 3]) (sps := [⟨[], [], [2], [(.slot 45)]⟩, ⟨[], [2], [3], [(.slot 5)]⟩]) (es' := [(_, _), (_, _), (5, .fl (.own 49) 1 (List.map (Value.int .u32) [1732584193, 4023233417, 2562383102, 271733878]))]) (by kernel_rfl) rfl rfl
     ⟨st_plain rfl (op_buildSlice _ _ 1 (.int .u32 0) (List.map (Value.int .u32) [1732584193, 4023233417, 2562383102, 271733878]) [(0, .int .u32 1732584193), (1, .int .u32 4023233417), (2, .int .u32 2562383102), (3, .int .u32 271733878)] Tryd.underlying82 sz49 zr49 (fun _ V w o a hv hes => by simp only [List.map_toArray, List.map_cons, List.map_nil]; try rfl) (litfill (by simp [Instr.fill, Value.cells]; rfl) (by simp [List.range, List.range.loop] <;> rfl)) (by simp [Value.oneCell']) rfl (by decide) (by decide) (by decide)),
     st_plain rfl (op_assign_take _ _ _ _ rfl),
     trivial⟩ ?_
    refine pt_then ?_
    refine ht_seq ?_
    obtain ⟨v41, hv41, h⟩ := bind_some h
    refine ht_seqR hn (El := [_, _, _, (46, .fl (.own 49) 1 (List.map (Value.int .u32) v41)), (6, .fl (.own 49) 1 (List.map (Value.int .u32) v41))]) (init := [0, 1, 2]) (fin := [0, 1, 2, 4]) (sps := [⟨[], [], [3], [(.slot 46)]⟩, ⟨[], [3], [4], [(.slot 6)]⟩]) (es' := [(_, _), (_, _), (_, _), (6, .fl (.own 49) 1 (List.map (Value.int .u32) v41))]) (by kernel_rfl) rfl rfl
     ⟨st_plain rfl (op_call _ _ 49 _ _ rfl Tryd.call49 rfl (ok_wherryref08_sines  _ hv41) rfl rfl),
     st_plain rfl (op_assign_take _ _ _ _ rfl),
     trivial⟩ ?_
    refine pt_then ?_
    refine ht_seq ?_
    refine ht_seq ?_
    refine ht_seqR hn (El := [_, _, _, _, (7, .v (.int .i64 0))]) (init := [0, 1, 2, 3]) (fin := [0, 1, 2, 3, 4]) (sps := [⟨[], [], [4], [(.slot 7)]⟩]) (es' := [(_, _), (_, _), (_, _), (_, _), (7, .v (.int .i64 0))]) (by kernel_rfl) rfl rfl
     ⟨st_plain rfl (op_assign _ _ _ _ rfl rfl),
     trivial⟩ ?_
    refine pt_then ?_
    refine ht_loopS h (fun ((s376, s377) : (List Int) × Int) => [(2, .arr 37 (List.map (Value.int .u8) ((List.replicate 16 (0 : Int))))), (3, .fl (.own 5) 1 (List.map (Value.int .u8) s33)), (5, .fl (.own 49) 1 (List.map (Value.int .u32) s376)), (6, .fl (.own 49) 1 (List.map (Value.int .u32) v41)), (7, .v (.int .i64 s377))]) (fun (s511 : (List Int)) => [(2, .arr 37 (List.map (Value.int .u8) ((List.replicate 16 (0 : Int))))), (5, .fl (.own 49) 1 (List.map (Value.int .u32) s511))]) ?_ ?_
    ·rintro s511 h
     refine pt_then ?_
     refine ht_seq ?_
     refine ht_seqR hn (El := [_, _, (16, .arr 37 (List.map (Value.int .u8) ((List.replicate 16 (0 : Int)))))]) (init := [0, 1]) (fin := [0, 1, 2]) (sps := [⟨[], [], [2], [(.slot 16)]⟩]) (es' := [(_, _), (_, _), (16, .arr 37 (List.map (Value.int .u8) ((List.replicate 16 (0 : Int)))))]) (by kernel_rfl) rfl rfl
      ⟨st_plain rfl (op_alloc_arr _ za37),
      trivial⟩ ?_
     refine pt_then ?_
     refine ht_seq ?_
     refine ht_seq ?_
     refine ht_seqR hn (El := [_, _, _, (17, .v (.int .i64 0))]) (init := [0, 1, 2]) (fin := [0, 1, 2, 3]) (sps := [⟨[], [], [3], [(.slot 17)]⟩]) (es' := [(_, _), (_, _), (_, _), (17, .v (.int .i64 0))]) (by kernel_rfl) rfl rfl
      ⟨st_plain rfl (op_assign _ _ _ _ rfl rfl),
      trivial⟩ ?_
     refine pt_then ?_
     refine ht_loopS h (fun ((s666, s667) : (List Int) × Int) => [(2, .arr 37 (List.map (Value.int .u8) ((List.replicate 16 (0 : Int))))), (5, .fl (.own 49) 1 (List.map (Value.int .u32) s511)), (16, .arr 37 (List.map (Value.int .u8) s666)), (17, .v (.int .i64 s667))]) (fun (s669 : (List Int)) => [(2, .arr 37 (List.map (Value.int .u8) ((List.replicate 16 (0 : Int))))), (16, .arr 37 (List.map (Value.int .u8) s669))]) ?_ ?_
     ·rintro s669 h
      refine pt_then ?_
      refine ht_seq ?_
      obtain ⟨v677, hv677, h⟩ := bind_some h
      obtain ⟨v678, hv678, h⟩ := bind_some h
      obtain ⟨v679, hv679, h⟩ := bind_some h
      refine ht_seqR hn (El := [_, _, (191, .v (.agg (List.map (Value.int .u8) s669).toArray)), (2, .arr 37 (List.map (Value.int .u8) s669))]) (init := [0, 1]) (fin := [3]) (sps := [⟨[1], [], [2], [(.slot 191)]⟩, ⟨[2], [0], [3], []⟩]) (es' := [(2, .arr 37 (List.map (Value.int .u8) s669))]) (by kernel_rfl) rfl rfl
       ⟨st_plain rfl (op_loadA_arr _ _ _ _ Tryd.underlying37 rfl (sz37.trans (congrArg some (ln_len hv677))) rfl rfl),
       st_plain rfl (op_storeA_arr _ _ _ _ (sz37.trans (congrArg some (ln_len hv679))) rfl rfl (ln_ones (fun _ => rfl) _) ((ln_len (f := Value.int .u8) hv678).symm.trans (ln_len (f := Value.int .u8) hv679))),
       trivial⟩ ?_
      refine pt_then ?_
      refine ht_ret ?_
      obtain ⟨v680, hv680, h⟩ := bind_some h
      obtain rfl := Option.some.inj h
      exact pt_ret hio rfl (.cellR _ _ _ _ Tryd.underlying37 rfl (sz37.trans (congrArg some (ln_len hv680))) .nil) rfl rfl
     ·rintro u670 hl671 hr672 ⟨s666, s667⟩ rr675 h ho673
      refine ht_seq ?_
      refine ht_seq ?_
      refine ht_seqR hn (El := [_, _, _, _, (174, .v (.int .i64 s667)), (175, .v (.bool ((decide (s667 < 16)))))]) (init := [0, 1, 2, 3]) (fin := [0, 1, 2, 3, 5]) (sps := [⟨[3], [], [4], [(.slot 174)]⟩, ⟨[4], [], [5], [(.slot 175)]⟩]) (es' := [(_, _), (_, _), (_, _), (_, _), (175, .v (.bool ((decide (s667 < 16)))))]) (by kernel_rfl) rfl rfl
       ⟨st_plain rfl (op_move _ _ _ _ rfl rfl),
       st_plain rfl (op_bin _ _ _ _ _ rfl rfl rfl),
       trivial⟩ ?_
      refine pt_then ?_
      refine ht_cond _ rfl (fun hb676 => ?_) (fun hb676 => ?_)
      ·have h := cond_t hb676 h
       refine ht_skip ?_
       refine pt_then ?_
       refine ht_seq ?_
       refine ht_block ?_
       obtain ⟨v652, hv652, h⟩ := bind_some h
       obtain ⟨v653, hv653, h⟩ := bind_some h
       obtain ⟨v654, hv654, h⟩ := bind_some h
       obtain ⟨v655, hv655, h⟩ := bind_some h
       obtain ⟨v656, hv656, h⟩ := bind_some h
       obtain ⟨v657, hv657, h⟩ := bind_some h
       obtain ⟨v658, hv658, h⟩ := bind_some h
       obtain ⟨v659, hv659, h⟩ := bind_some h
       obtain ⟨v660, hv660, h⟩ := bind_some h
       obtain ⟨v661, hv661, h⟩ := bind_some h
       refine ht_seqR hn (El := (_ :: _ :: _ :: _ :: _ :: (178, .v (.int .i64 s667)) :: (179, .same (.slot 5)) :: (180, .v (.int .i64 s667)) :: (181, .v (.int .i64 v652)) :: (182, .eref (.slot 5) (v653 * 1)) :: (183, .v (.int .u32 v654)) :: (184, .v (.int .i64 s667)) :: (185, .v (.int .i64 v655)) :: (186, .v (.int .i64 v656)) :: (187, .v (.int .u64 v657)) :: (188, .v (.int .u32 v658)) :: (189, .v (.int .u8 v659)) :: (190, .ptr 16 v660) :: (16, .arr 37 (List.map (Value.int .u8) v661)) :: [])) (init := [0, 1, 2, 3, 4]) (fin := [0, 1, 18, 3]) (sps := [⟨[3], [], [5], [(.slot 178)]⟩, ⟨[1], [], [6], [(.slot 179)]⟩, ⟨[3], [], [7], [(.slot 180)]⟩, ⟨[7], [], [8], [(.slot 181)]⟩, ⟨[6, 1, 8], [], [9], [(.slot 182)]⟩, ⟨[9, 1], [], [10], [(.slot 183)]⟩, ⟨[3], [], [11], [(.slot 184)]⟩, ⟨[11], [], [12], [(.slot 185)]⟩, ⟨[12], [], [13], [(.slot 186)]⟩, ⟨[13], [], [14], [(.slot 187)]⟩, ⟨[10, 14], [], [15], [(.slot 188)]⟩, ⟨[15], [], [16], [(.slot 189)]⟩, ⟨[2, 5], [], [17], [(.slot 190)]⟩, ⟨[17, 16], [2], [18], []⟩]) (es' := [(_, _), (_, _), (16, .arr 37 (List.map (Value.int .u8) v661)), (_, _)]) (by kernel_rfl) rfl rfl
        ⟨st_plain rfl (op_move _ _ _ _ rfl rfl),
        st_plain rfl (op_move _ _ _ _ rfl rfl),
        st_plain rfl (op_move _ _ _ _ rfl rfl),
        st_plain rfl (op_bin _ _ _ _ _ rfl rfl (quo_ok hv652)),
        st_plain rfl (op_ix _ _ _ _ _ _ _ _ Tryd.underlying82 sz49 (by decide) rfl rfl rfl (ix_ok hv653).1 (map_lt (ix_ok hv653).2) rfl),
        st_plain rfl (op_load_e _ _ _ _ _ _ Tryd.underlying49 rfl rfl rfl (map_get hv654)),
        st_plain rfl (op_move _ _ _ _ rfl rfl),
        st_plain rfl (op_bin _ _ _ _ _ rfl rfl (rem_ok hv655)),
        st_plain rfl (op_bin _ _ _ _ _ rfl rfl (ibind (f := Value.int .i64) (Option.some.inj hv656))),
        st_plain rfl ((Option.some.inj hv657) ▸ op_conv _ _ _ Tryd.underlying3 Tryd.underlying36 rfl),
        st_plain rfl (op_bin _ _ _ _ _ rfl rfl (shr_ok hv658)),
        st_plain rfl ((Option.some.inj hv659) ▸ op_conv _ _ _ Tryd.underlying49 Tryd.underlying5 rfl),
        st_plain rfl (op_ix_arr _ _ _ _ 16 16 _ Tryd.underlying37 sz5 rfl rfl (ix_ok hv660).1 (ix_ok hv660).2 (by decide)),
        st_plain rfl (op_store_arr _ _ _ _ _ _ sz5 rfl rfl rfl rfl (set_lt hv661) (set_eq (f := Value.int .u8) hv661)),
        trivial⟩ ?_
       refine pt_inb ?_
       refine pt_then ?_
       obtain ⟨v662, hv662, h⟩ := bind_some h
       refine ht_seqR hn (El := [_, _, _, _, (176, .v (.int .i64 s667)), (177, .v (.int .i64 v662)), (17, .v (.int .i64 v662))]) (init := [0, 1, 2, 3]) (fin := [0, 1, 2, 6]) (sps := [⟨[3], [], [4], [(.slot 176)]⟩, ⟨[4], [], [5], [(.slot 177)]⟩, ⟨[5], [3], [6], [(.slot 17)]⟩]) (es' := [(_, _), (_, _), (_, _), (17, .v (.int .i64 v662))]) (by kernel_rfl) rfl rfl
        ⟨st_plain rfl (op_move _ _ _ _ rfl rfl),
        st_plain rfl (op_bin _ _ _ _ _ rfl rfl (ibind (f := Value.int .i64) (Option.some.inj hv662))),
        st_plain rfl (LOp.drop [_] (op_assign _ _ _ _ rfl rfl)),
        trivial⟩ ?_
       exact pt_next _ (Option.some.inj h).symm rfl
      ·have h := cond_f hb676 h
       refine ht_exit ?_
       refine pt_x_then ?_
       refine pt_x_then ?_
       refine pt_x_in ?_
       refine pt_pick [0, 2] (by kernel_rfl) (es' := [(_, _), (_, _)]) rfl ?_
       exact hl671 _ (ho673 _ (Option.some.inj h).symm).symm
    ·rintro u512 hl513 hr514 ⟨s376, s377⟩ rr517 h ho515
     refine ht_seq ?_
     refine ht_seq ?_
     refine ht_seqR hn (El := [_, _, _, _, _, (47, .v (.int .i64 s377)), (48, .same (.slot 3)), (49, .v (.int .i64 (s33.length : Int))), (50, .v (.bool ((decide (s377 < (s33.length : Int))))))]) (init := [0, 1, 2, 3, 4]) (fin := [0, 1, 2, 3, 4, 8]) (sps := [⟨[4], [], [5], [(.slot 47)]⟩, ⟨[1], [], [6], [(.slot 48)]⟩, ⟨[6, 1], [], [7], [(.slot 49)]⟩, ⟨[5, 7], [], [8], [(.slot 50)]⟩]) (es' := [(_, _), (_, _), (_, _), (_, _), (_, _), (50, .v (.bool ((decide (s377 < (s33.length : Int))))))]) (by kernel_rfl) rfl rfl
      ⟨st_plain rfl (op_move _ _ _ _ rfl rfl),
      st_plain rfl (op_move _ _ _ _ rfl rfl),
      st_plain rfl (op_len_fl _ _ _ Tryd.underlying22 rfl (by decide) (map_len _)),
      st_plain rfl (op_bin _ _ _ _ _ rfl rfl rfl),
      trivial⟩ ?_
     refine pt_then ?_
     refine ht_cond _ rfl (fun hb518 => ?_) (fun hb518 => ?_)
     ·have h := cond_t hb518 h
      refine ht_skip ?_
      refine pt_then ?_
      refine ht_seq ?_
      refine ht_block ?_
      refine ht_seq ?_
      obtain ⟨v43, hv43, h⟩ := bind_some h
      obtain ⟨v44, hv44, h⟩ := bind_some h
      obtain ⟨v45, hv45, h⟩ := bind_some h
      obtain ⟨v46, hv46, h⟩ := bind_some h
      obtain ⟨v47, hv47, h⟩ := bind_some h
      obtain ⟨v48, hv48, h⟩ := bind_some h
      obtain ⟨v49, hv49, h⟩ := bind_some h
      obtain ⟨v50, hv50, h⟩ := bind_some h
      refine ht_anyR (by kernel_rfl) hn (El := (_ :: _ :: _ :: _ :: _ :: _ :: (53, .same (.slot 5)) :: (54, .eref (.slot 5) (v43 * 1)) :: (55, .v (.int .u32 v44)) :: (56, .same (.slot 5)) :: (57, .eref (.slot 5) (v45 * 1)) :: (58, .v (.int .u32 v46)) :: (59, .same (.slot 5)) :: (60, .eref (.slot 5) (v47 * 1)) :: (61, .v (.int .u32 v48)) :: (62, .same (.slot 5)) :: (63, .eref (.slot 5) (v49 * 1)) :: (64, .v (.int .u32 v50)) :: (8, .v (.int .u32 v44)) :: (9, .v (.int .u32 v46)) :: (10, .v (.int .u32 v48)) :: (11, .v (.int .u32 v50)) :: [])) (init := [0, 1, 2, 3, 4, 5]) (fin := [0, 1, 2, 3, 4, 18, 19, 20, 21]) (sps := (⟨[2], [], [6], [(.slot 53)]⟩ :: ⟨[6, 2], [], [7], [(.slot 54)]⟩ :: ⟨[7, 2], [], [8], [(.slot 55)]⟩ :: ⟨[], [], [9], [(.slot 56)]⟩ :: ⟨[9, 2], [], [10], [(.slot 57)]⟩ :: ⟨[10, 2], [], [11], [(.slot 58)]⟩ :: ⟨[], [], [12], [(.slot 59)]⟩ :: ⟨[12, 2], [], [13], [(.slot 60)]⟩ :: ⟨[13, 2], [], [14], [(.slot 61)]⟩ :: ⟨[], [], [15], [(.slot 62)]⟩ :: ⟨[15, 2], [], [16], [(.slot 63)]⟩ :: ⟨[16, 2], [], [17], [(.slot 64)]⟩ :: ⟨[8], [], [18], [(.slot 8)]⟩ :: ⟨[11], [], [19], [(.slot 9)]⟩ :: ⟨[14], [], [20], [(.slot 10)]⟩ :: ⟨[17], [], [21], [(.slot 11)]⟩ :: [])) (es' := [(_, _), (_, _), (_, _), (_, _), (_, _), (8, .v (.int .u32 v44)), (9, .v (.int .u32 v46)), (10, .v (.int .u32 v48)), (11, .v (.int .u32 v50))]) (by kernel_rfl) rfl rfl
       ⟨st_plain rfl (op_move _ _ _ _ rfl rfl),
       st_plain rfl (op_ix _ _ _ _ _ _ _ _ Tryd.underlying82 sz49 (by decide) rfl rfl rfl (ix_ok hv43).1 (map_lt (ix_ok hv43).2) rfl),
       st_plain rfl (op_load_e _ _ _ _ _ _ Tryd.underlying49 rfl rfl rfl (map_get hv44)),
       st_plain rfl (op_move_name _ _ _ rfl),
       st_plain rfl (op_ix _ _ _ _ _ _ _ _ Tryd.underlying82 sz49 (by decide) rfl rfl rfl (ix_ok hv45).1 (map_lt (ix_ok hv45).2) rfl),
       st_plain rfl (op_load_e _ _ _ _ _ _ Tryd.underlying49 rfl rfl rfl (map_get hv46)),
       st_plain rfl (op_move_name _ _ _ rfl),
       st_plain rfl (op_ix _ _ _ _ _ _ _ _ Tryd.underlying82 sz49 (by decide) rfl rfl rfl (ix_ok hv47).1 (map_lt (ix_ok hv47).2) rfl),
       st_plain rfl (op_load_e _ _ _ _ _ _ Tryd.underlying49 rfl rfl rfl (map_get hv48)),
       st_plain rfl (op_move_name _ _ _ rfl),
       st_plain rfl (op_ix _ _ _ _ _ _ _ _ Tryd.underlying82 sz49 (by decide) rfl rfl rfl (ix_ok hv49).1 (map_lt (ix_ok hv49).2) rfl),
       st_plain rfl (op_load_e _ _ _ _ _ _ Tryd.underlying49 rfl rfl rfl (map_get hv50)),
       st_plain rfl (op_assign _ _ _ _ rfl rfl),
       st_plain rfl (op_assign _ _ _ _ rfl rfl),
       st_plain rfl (op_assign _ _ _ _ rfl rfl),
       st_plain rfl (op_assign _ _ _ _ rfl rfl),
       trivial⟩ ?_
      refine pt_then ?_
      refine ht_seq ?_
      refine ht_seq ?_
      refine ht_seqR hn (El := [_, _, _, _, _, _, _, _, _, (12, .v (.int .i64 0))]) (init := [0, 1, 2, 3, 4, 5, 6, 7, 8]) (fin := [0, 1, 2, 3, 4, 5, 6, 7, 8, 9]) (sps := [⟨[], [], [9], [(.slot 12)]⟩]) (es' := [(_, _), (_, _), (_, _), (_, _), (_, _), (_, _), (_, _), (_, _), (_, _), (12, .v (.int .i64 0))]) (by kernel_rfl) rfl rfl
       ⟨st_plain rfl (op_assign _ _ _ _ rfl rfl),
       trivial⟩ ?_
      refine pt_then ?_
      refine ht_loopS h (fun ((s580, s581, s582, s583, s584) : Int × Int × Int × Int × Int) => [(2, .arr 37 (List.map (Value.int .u8) ((List.replicate 16 (0 : Int))))), (3, .fl (.own 5) 1 (List.map (Value.int .u8) s33)), (5, .fl (.own 49) 1 (List.map (Value.int .u32) s376)), (6, .fl (.own 49) 1 (List.map (Value.int .u32) v41)), (7, .v (.int .i64 s377)), (8, .v (.int .u32 s580)), (9, .v (.int .u32 s581)), (10, .v (.int .u32 s582)), (11, .v (.int .u32 s583)), (12, .v (.int .i64 s584))]) (fun ((s613, s614, s615, s616) : Int × Int × Int × Int) => [(2, .arr 37 (List.map (Value.int .u8) ((List.replicate 16 (0 : Int))))), (3, .fl (.own 5) 1 (List.map (Value.int .u8) s33)), (5, .fl (.own 49) 1 (List.map (Value.int .u32) s376)), (6, .fl (.own 49) 1 (List.map (Value.int .u32) v41)), (7, .v (.int .i64 s377)), (8, .v (.int .u32 s613)), (9, .v (.int .u32 s614)), (10, .v (.int .u32 s615)), (11, .v (.int .u32 s616))]) ?_ ?_
      ·rintro ⟨s613, s614, s615, s616⟩ h
       refine pt_then ?_
       obtain ⟨v220, hv220, h⟩ := bind_some h
       obtain ⟨v221, hv221, h⟩ := bind_some h
       obtain ⟨v222, hv222, h⟩ := bind_some h
       obtain ⟨v223, hv223, h⟩ := bind_some h
       obtain ⟨v224, hv224, h⟩ := bind_some h
       obtain ⟨v225, hv225, h⟩ := bind_some h
       obtain ⟨v226, hv226, h⟩ := bind_some h
       obtain ⟨v227, hv227, h⟩ := bind_some h
       obtain ⟨v228, hv228, h⟩ := bind_some h
       obtain ⟨v229, hv229, h⟩ := bind_some h
       obtain ⟨v230, hv230, h⟩ := bind_some h
       obtain ⟨v231, hv231, h⟩ := bind_some h
       obtain ⟨v232, hv232, h⟩ := bind_some h
       obtain ⟨v233, hv233, h⟩ := bind_some h
       obtain ⟨v234, hv234, h⟩ := bind_some h
       obtain ⟨v235, hv235, h⟩ := bind_some h
       obtain ⟨v236, hv236, h⟩ := bind_some h
       obtain ⟨v237, hv237, h⟩ := bind_some h
       obtain ⟨v238, hv238, h⟩ := bind_some h
       obtain ⟨v239, hv239, h⟩ := bind_some h
       refine ht_anyR (by kernel_rfl) hn (El := (_ :: _ :: _ :: _ :: _ :: _ :: _ :: _ :: _ :: (146, .same (.slot 5)) :: (147, .same (.slot 5)) :: (148, .same (.slot 5)) :: (149, .same (.slot 5)) :: (150, .same (.slot 5)) :: (151, .eref (.slot 5) (v220 * 1)) :: (152, .v (.int .u32 v221)) :: (153, .v (.int .u32 s613)) :: (154, .v (.int .u32 v222)) :: (155, .same (.slot 5)) :: (156, .eref (.slot 5) (v223 * 1)) :: (157, .v (.int .u32 v224)) :: (158, .v (.int .u32 s614)) :: (159, .v (.int .u32 v225)) :: (160, .same (.slot 5)) :: (161, .eref (.slot 5) (v226 * 1)) :: (162, .v (.int .u32 v227)) :: (163, .v (.int .u32 s615)) :: (164, .v (.int .u32 v228)) :: (165, .same (.slot 5)) :: (166, .eref (.slot 5) (v229 * 1)) :: (167, .v (.int .u32 v230)) :: (168, .v (.int .u32 s616)) :: (169, .v (.int .u32 v231)) :: (170, .eref (.slot 5) (v232 * 1)) :: (5, .fl (.own 49) 1 (List.map (Value.int .u32) v233)) :: (171, .eref (.slot 5) (v234 * 1)) :: (5, .fl (.own 49) 1 (List.map (Value.int .u32) v235)) :: (172, .eref (.slot 5) (v236 * 1)) :: (5, .fl (.own 49) 1 (List.map (Value.int .u32) v237)) :: (173, .eref (.slot 5) (v238 * 1)) :: (5, .fl (.own 49) 1 (List.map (Value.int .u32) v239)) :: [])) (init := [0, 1, 2, 3, 4, 5, 6, 7, 8]) (fin := [0, 1, 40, 3, 4]) (sps := (⟨[2], [], [9], [(.slot 146)]⟩ :: ⟨[], [], [10], [(.slot 147)]⟩ :: ⟨[], [], [11], [(.slot 148)]⟩ :: ⟨[], [], [12], [(.slot 149)]⟩ :: ⟨[2], [], [13], [(.slot 150)]⟩ :: ⟨[13, 2], [], [14], [(.slot 151)]⟩ :: ⟨[14, 2], [], [15], [(.slot 152)]⟩ :: ⟨[5], [], [16], [(.slot 153)]⟩ :: ⟨[15, 16], [], [17], [(.slot 154)]⟩ :: ⟨[2], [], [18], [(.slot 155)]⟩ :: ⟨[18, 2], [], [19], [(.slot 156)]⟩ :: ⟨[19, 2], [], [20], [(.slot 157)]⟩ :: ⟨[6], [], [21], [(.slot 158)]⟩ :: ⟨[20, 21], [], [22], [(.slot 159)]⟩ :: ⟨[2], [], [23], [(.slot 160)]⟩ :: ⟨[23, 2], [], [24], [(.slot 161)]⟩ :: ⟨[24, 2], [], [25], [(.slot 162)]⟩ :: ⟨[7], [], [26], [(.slot 163)]⟩ :: ⟨[25, 26], [], [27], [(.slot 164)]⟩ :: ⟨[2], [], [28], [(.slot 165)]⟩ :: ⟨[28, 2], [], [29], [(.slot 166)]⟩ :: ⟨[29, 2], [], [30], [(.slot 167)]⟩ :: ⟨[8], [], [31], [(.slot 168)]⟩ :: ⟨[30, 31], [], [32], [(.slot 169)]⟩ :: ⟨[9, 2], [], [33], [(.slot 170)]⟩ :: ⟨[33, 17], [2], [34], []⟩ :: ⟨[10, 34], [], [35], [(.slot 171)]⟩ :: ⟨[35, 22], [34], [36], []⟩ :: ⟨[11, 36], [], [37], [(.slot 172)]⟩ :: ⟨[37, 27], [36], [38], []⟩ :: ⟨[12, 38], [], [39], [(.slot 173)]⟩ :: ⟨[39, 32], [38], [40], []⟩ :: [])) (es' := [(_, _), (_, _), (5, .fl (.own 49) 1 (List.map (Value.int .u32) v239)), (_, _), (_, _)]) (by kernel_rfl) rfl rfl
        ⟨st_plain rfl (op_move _ _ _ _ rfl rfl),
        st_plain rfl (op_move_name _ _ _ rfl),
        st_plain rfl (op_move_name _ _ _ rfl),
        st_plain rfl (op_move_name _ _ _ rfl),
        st_plain rfl (op_move _ _ _ _ rfl rfl),
        st_plain rfl (op_ix _ _ _ _ _ _ _ _ Tryd.underlying82 sz49 (by decide) rfl rfl rfl (ix_ok hv220).1 (map_lt (ix_ok hv220).2) rfl),
        st_plain rfl (op_load_e _ _ _ _ _ _ Tryd.underlying49 rfl rfl rfl (map_get hv221)),
        st_plain rfl (op_move _ _ _ _ rfl rfl),
        st_plain rfl (op_bin _ _ _ _ _ rfl rfl (ibind (f := Value.int .u32) (Option.some.inj hv222))),
        st_plain rfl (op_move _ _ _ _ rfl rfl),
        st_plain rfl (op_ix _ _ _ _ _ _ _ _ Tryd.underlying82 sz49 (by decide) rfl rfl rfl (ix_ok hv223).1 (map_lt (ix_ok hv223).2) rfl),
        st_plain rfl (op_load_e _ _ _ _ _ _ Tryd.underlying49 rfl rfl rfl (map_get hv224)),
        st_plain rfl (op_move _ _ _ _ rfl rfl),
        st_plain rfl (op_bin _ _ _ _ _ rfl rfl (ibind (f := Value.int .u32) (Option.some.inj hv225))),
        st_plain rfl (op_move _ _ _ _ rfl rfl),
        st_plain rfl (op_ix _ _ _ _ _ _ _ _ Tryd.underlying82 sz49 (by decide) rfl rfl rfl (ix_ok hv226).1 (map_lt (ix_ok hv226).2) rfl),
        st_plain rfl (op_load_e _ _ _ _ _ _ Tryd.underlying49 rfl rfl rfl (map_get hv227)),
        st_plain rfl (op_move _ _ _ _ rfl rfl),
        st_plain rfl (op_bin _ _ _ _ _ rfl rfl (ibind (f := Value.int .u32) (Option.some.inj hv228))),
        st_plain rfl (op_move _ _ _ _ rfl rfl),
        st_plain rfl (op_ix _ _ _ _ _ _ _ _ Tryd.underlying82 sz49 (by decide) rfl rfl rfl (ix_ok hv229).1 (map_lt (ix_ok hv229).2) rfl),
        st_plain rfl (op_load_e _ _ _ _ _ _ Tryd.underlying49 rfl rfl rfl (map_get hv230)),
        st_plain rfl (op_move _ _ _ _ rfl rfl),
        st_plain rfl (op_bin _ _ _ _ _ rfl rfl (ibind (f := Value.int .u32) (Option.some.inj hv231))),
        st_plain rfl (op_ix _ _ _ _ _ _ _ _ Tryd.underlying82 sz49 (by decide) rfl rfl rfl (ix_ok hv232).1 (map_lt (ix_ok hv232).2) rfl),
        st_plain rfl (op_store_e _ _ _ _ _ _ _ _ sz49 rfl rfl rfl (by decide) (map_lt (ix_ok hv232).2) ((map_set (f := Value.int .u32) _ (ix_ok hv232).2).trans (congrArg (List.map _) (Option.some.inj hv233)))),
        st_plain rfl (op_ix _ _ _ _ _ _ _ _ Tryd.underlying82 sz49 (by decide) rfl rfl rfl (ix_ok hv234).1 (map_lt (ix_ok hv234).2) rfl),
        st_plain rfl (op_store_e _ _ _ _ _ _ _ _ sz49 rfl rfl rfl (by decide) (map_lt (ix_ok hv234).2) ((map_set (f := Value.int .u32) _ (ix_ok hv234).2).trans (congrArg (List.map _) (Option.some.inj hv235)))),
        st_plain rfl (op_ix _ _ _ _ _ _ _ _ Tryd.underlying82 sz49 (by decide) rfl rfl rfl (ix_ok hv236).1 (map_lt (ix_ok hv236).2) rfl),
        st_plain rfl (op_store_e _ _ _ _ _ _ _ _ sz49 rfl rfl rfl (by decide) (map_lt (ix_ok hv236).2) ((map_set (f := Value.int .u32) _ (ix_ok hv236).2).trans (congrArg (List.map _) (Option.some.inj hv237)))),
        st_plain rfl (op_ix _ _ _ _ _ _ _ _ Tryd.underlying82 sz49 (by decide) rfl rfl rfl (ix_ok hv238).1 (map_lt (ix_ok hv238).2) rfl),
        st_plain rfl (op_store_e _ _ _ _ _ _ _ _ sz49 rfl rfl rfl (by decide) (map_lt (ix_ok hv238).2) ((map_set (f := Value.int .u32) _ (ix_ok hv238).2).trans (congrArg (List.map _) (Option.some.inj hv239)))),
        trivial⟩ ?_
       refine pt_inb ?_
       refine pt_then ?_
       obtain ⟨v240, hv240, h⟩ := bind_some h
       refine ht_seqR hn (El := [_, _, _, _, _, (51, .v (.int .i64 s377)), (52, .v (.int .i64 v240)), (7, .v (.int .i64 v240))]) (init := [0, 1, 2, 3, 4]) (fin := [0, 1, 2, 3, 7]) (sps := [⟨[4], [], [5], [(.slot 51)]⟩, ⟨[5], [], [6], [(.slot 52)]⟩, ⟨[6], [4], [7], [(.slot 7)]⟩]) (es' := [(_, _), (_, _), (_, _), (_, _), (7, .v (.int .i64 v240))]) (by kernel_rfl) rfl rfl
        ⟨st_plain rfl (op_move _ _ _ _ rfl rfl),
        st_plain rfl (op_bin _ _ _ _ _ rfl rfl (ibind (f := Value.int .i64) (Option.some.inj hv240))),
        st_plain rfl (LOp.drop [_] (op_assign _ _ _ _ rfl rfl)),
        trivial⟩ ?_
       exact pt_next _ (Option.some.inj h).symm rfl
      ·rintro u617 hl618 hr619 ⟨s580, s581, s582, s583, s584⟩ rr622 h ho620
       refine ht_seq ?_
       refine ht_seq ?_
       refine ht_seqR hn (El := [_, _, _, _, _, _, _, _, _, _, (65, .v (.int .i64 s584)), (66, .v (.bool ((decide (s584 < 64)))))]) (init := [0, 1, 2, 3, 4, 5, 6, 7, 8, 9]) (fin := [0, 1, 2, 3, 4, 5, 6, 7, 8, 9, 11]) (sps := [⟨[9], [], [10], [(.slot 65)]⟩, ⟨[10], [], [11], [(.slot 66)]⟩]) (es' := [(_, _), (_, _), (_, _), (_, _), (_, _), (_, _), (_, _), (_, _), (_, _), (_, _), (66, .v (.bool ((decide (s584 < 64)))))]) (by kernel_rfl) rfl rfl
        ⟨st_plain rfl (op_move _ _ _ _ rfl rfl),
        st_plain rfl (op_bin _ _ _ _ _ rfl rfl rfl),
        trivial⟩ ?_
       refine pt_then ?_
       refine ht_cond _ rfl (fun hb623 => ?_) (fun hb623 => ?_)
       ·have h := cond_t hb623 h
        refine ht_skip ?_
        refine pt_then ?_
        refine ht_seq ?_
        refine ht_block ?_
        refine ht_seq ?_
        refine ht_seqR hn (El := [_, _, _, _, _, _, _, _, _, _, _, (13, .v (.int .u32 0)), (14, .v (.int .i64 0))]) (init := [0, 1, 2, 3, 4, 5, 6, 7, 8, 9, 10]) (fin := [0, 1, 2, 3, 4, 5, 6, 7, 8, 9]) (sps := [⟨[], [], [11], [(.slot 13)]⟩, ⟨[], [], [12], [(.slot 14)]⟩]) (es' := [(_, _), (_, _), (_, _), (_, _), (_, _), (_, _), (_, _), (_, _), (_, _), (_, _)]) (by kernel_rfl) rfl rfl
         ⟨st_plain rfl (op_assign _ _ _ _ rfl rfl),
         st_plain rfl (op_assign _ _ _ _ rfl rfl),
         trivial⟩ ?_
        refine pt_then ?_
        refine ht_seq ?_
        refine ht_joinS h (fun ((s635, s636) : Int × Int) => [(2, .arr 37 (List.map (Value.int .u8) ((List.replicate 16 (0 : Int))))), (3, .fl (.own 5) 1 (List.map (Value.int .u8) s33)), (5, .fl (.own 49) 1 (List.map (Value.int .u32) s376)), (6, .fl (.own 49) 1 (List.map (Value.int .u32) v41)), (7, .v (.int .i64 s377)), (8, .v (.int .u32 s580)), (9, .v (.int .u32 s581)), (10, .v (.int .u32 s582)), (11, .v (.int .u32 s583)), (12, .v (.int .i64 s584)), (13, .v (.int .u32 s635)), (14, .v (.int .i64 s636))]) ?_ ?_
        ·rintro ⟨s635, s636⟩ h
         refine pt_then ?_
         refine ht_seq ?_
         obtain ⟨v101, hv101, h⟩ := bind_some h
         obtain ⟨v102, hv102, h⟩ := bind_some h
         obtain ⟨v103, hv103, h⟩ := bind_some h
         obtain ⟨v104, hv104, h⟩ := bind_some h
         obtain ⟨v105, hv105, h⟩ := bind_some h
         obtain ⟨v106, hv106, h⟩ := bind_some h
         obtain ⟨v107, hv107, h⟩ := bind_some h
         obtain ⟨v108, hv108, h⟩ := bind_some h
         refine ht_anyR (by kernel_rfl) hn (El := (_ :: _ :: _ :: _ :: _ :: _ :: _ :: _ :: _ :: _ :: _ :: _ :: (116, .v (.int .u32 s635)) :: (117, .v (.int .u32 s580)) :: (118, .v (.int .u32 v101)) :: (119, .same (.slot 6)) :: (120, .v (.int .i64 s584)) :: (121, .eref (.slot 6) (v102 * 1)) :: (122, .v (.int .u32 v103)) :: (123, .v (.int .u32 v104)) :: (124, .same (.slot 3)) :: (125, .v (.int .i64 s377)) :: (126, .v (.int .i64 s636)) :: (127, .v (.int .i64 v105)) :: (128, .v (.int .i64 v106)) :: (129, .v (.int .u32 v107)) :: (130, .v (.int .u32 v108)) :: (13, .v (.int .u32 v108)) :: [])) (init := [0, 1, 2, 3, 4, 5, 6, 7, 8, 9, 10, 11]) (fin := [0, 1, 2, 3, 4, 6, 7, 8, 9, 27]) (sps := (⟨[10], [], [12], [(.slot 116)]⟩ :: ⟨[5], [], [13], [(.slot 117)]⟩ :: ⟨[12, 13], [], [14], [(.slot 118)]⟩ :: ⟨[3], [], [15], [(.slot 119)]⟩ :: ⟨[9], [], [16], [(.slot 120)]⟩ :: ⟨[15, 3, 16], [], [17], [(.slot 121)]⟩ :: ⟨[17, 3], [], [18], [(.slot 122)]⟩ :: ⟨[14, 18], [], [19], [(.slot 123)]⟩ :: ⟨[1], [], [20], [(.slot 124)]⟩ :: ⟨[4], [], [21], [(.slot 125)]⟩ :: ⟨[11], [], [22], [(.slot 126)]⟩ :: ⟨[22], [], [23], [(.slot 127)]⟩ :: ⟨[21, 23], [], [24], [(.slot 128)]⟩ :: ⟨[20, 1, 24], [], [25], [(.slot 129)]⟩ :: ⟨[19, 25], [], [26], [(.slot 130)]⟩ :: ⟨[26], [10], [27], [(.slot 13)]⟩ :: [])) (es' := [(_, _), (_, _), (_, _), (_, _), (_, _), (_, _), (_, _), (_, _), (_, _), (13, .v (.int .u32 v108))]) (by kernel_rfl) rfl rfl
          ⟨st_plain rfl (op_move _ _ _ _ rfl rfl),
          st_plain rfl (op_move _ _ _ _ rfl rfl),
          st_plain rfl (op_bin _ _ _ _ _ rfl rfl (ibind (f := Value.int .u32) (Option.some.inj hv101))),
          st_plain rfl (op_move _ _ _ _ rfl rfl),
          st_plain rfl (op_move _ _ _ _ rfl rfl),
          st_plain rfl (op_ix _ _ _ _ _ _ _ _ Tryd.underlying82 sz49 (by decide) rfl rfl rfl (ix_ok hv102).1 (map_lt (ix_ok hv102).2) rfl),
          st_plain rfl (op_load_e _ _ _ _ _ _ Tryd.underlying49 rfl rfl rfl (map_get hv103)),
          st_plain rfl (op_bin _ _ _ _ _ rfl rfl (ibind (f := Value.int .u32) (Option.some.inj hv104))),
          st_plain rfl (op_move _ _ _ _ rfl rfl),
          st_plain rfl (op_move _ _ _ _ rfl rfl),
          st_plain rfl (op_move _ _ _ _ rfl rfl),
          st_plain rfl (op_bin _ _ _ _ _ rfl rfl (ibind (f := Value.int .i64) (Option.some.inj hv105))),
          st_plain rfl (op_bin _ _ _ _ _ rfl rfl (ibind (f := Value.int .i64) (Option.some.inj hv106))),
          st_plain rfl (op_call _ _ 50 _ _ rfl Tryd.call50 rfl (ok_wherryref08_word s33 v106 _ hv107) rfl rfl),
          st_plain rfl (op_bin _ _ _ _ _ rfl rfl (ibind (f := Value.int .u32) (Option.some.inj hv108))),
          st_plain rfl (LOp.drop [_] (op_assign _ _ _ _ rfl rfl)),
          trivial⟩ ?_
         refine pt_then ?_
         refine ht_seq ?_
         refine ht_seqR hn (El := (_ :: _ :: _ :: _ :: _ :: _ :: _ :: _ :: _ :: _ :: (131, .v (.int .u32 s583)) :: (132, .v (.int .u32 s582)) :: (133, .v (.int .u32 s581)) :: (8, .v (.int .u32 s583)) :: (11, .v (.int .u32 s582)) :: (10, .v (.int .u32 s581)) :: [])) (init := [0, 1, 2, 3, 4, 5, 6, 7, 8, 9]) (fin := [0, 1, 2, 3, 4, 5, 8, 9, 13, 14, 15]) (sps := [⟨[7], [], [10], [(.slot 131)]⟩, ⟨[6], [], [11], [(.slot 132)]⟩, ⟨[5], [], [12], [(.slot 133)]⟩, ⟨[10], [], [13], [(.slot 8)]⟩, ⟨[11], [7], [14], [(.slot 11)]⟩, ⟨[12], [6], [15], [(.slot 10)]⟩]) (es' := [(_, _), (_, _), (_, _), (_, _), (_, _), (_, _), (_, _), (_, _), (8, .v (.int .u32 s583)), (11, .v (.int .u32 s582)), (10, .v (.int .u32 s581))]) (by kernel_rfl) rfl rfl
          ⟨st_plain rfl (op_move _ _ _ _ rfl rfl),
          st_plain rfl (op_move _ _ _ _ rfl rfl),
          st_plain rfl (op_move _ _ _ _ rfl rfl),
          st_plain rfl (op_assign _ _ _ _ rfl rfl),
          st_plain rfl (LOp.drop [_] (op_assign _ _ _ _ rfl rfl)),
          st_plain rfl (LOp.drop [_] (op_assign _ _ _ _ rfl rfl)),
          trivial⟩ ?_
         refine pt_then ?_
         refine ht_seq ?_
         obtain ⟨v109, hv109, h⟩ := bind_some h
         refine ht_seqR hn (El := [_, _, _, _, _, _, _, _, _, _, _, (134, .v (.int .i64 s584)), (135, .v (.int .u64 v109)), (15, .v (.int .u64 v109))]) (init := [0, 1, 2, 3, 4, 5, 6, 7, 8, 9, 10]) (fin := [0, 1, 2, 3, 4, 5, 6, 7, 8, 9, 10, 13]) (sps := [⟨[6], [], [11], [(.slot 134)]⟩, ⟨[11], [], [12], [(.slot 135)]⟩, ⟨[12], [], [13], [(.slot 15)]⟩]) (es' := [(_, _), (_, _), (_, _), (_, _), (_, _), (_, _), (_, _), (_, _), (_, _), (_, _), (_, _), (15, .v (.int .u64 v109))]) (by kernel_rfl) rfl rfl
          ⟨st_plain rfl (op_move _ _ _ _ rfl rfl),
          st_plain rfl (op_call _ _ 51 _ _ rfl Tryd.call51 rfl (ok_wherryref08_turns s584 _ hv109) rfl rfl),
          st_plain rfl (op_assign _ _ _ _ rfl rfl),
          trivial⟩ ?_
         refine pt_then ?_
         obtain ⟨v110, hv110, h⟩ := bind_some h
         obtain ⟨v111, hv111, h⟩ := bind_some h
         obtain ⟨v112, hv112, h⟩ := bind_some h
         obtain ⟨v113, hv113, h⟩ := bind_some h
         obtain ⟨v114, hv114, h⟩ := bind_some h
         refine ht_seqR hn (El := (_ :: _ :: _ :: _ :: _ :: _ :: _ :: _ :: _ :: _ :: _ :: _ :: (136, .v (.int .u32 s581)) :: (137, .v (.int .u32 v108)) :: (138, .v (.int .u64 v109)) :: (139, .v (.int .u32 v110)) :: (140, .v (.int .u32 v108)) :: (141, .v (.int .u64 v109)) :: (142, .v (.int .u64 v111)) :: (143, .v (.int .u32 v112)) :: (144, .v (.int .u32 v113)) :: (145, .v (.int .u32 v114)) :: (9, .v (.int .u32 v114)) :: [])) (init := [0, 1, 2, 3, 4, 5, 6, 7, 8, 9, 10, 11]) (fin := [0, 1, 2, 3, 4, 6, 8, 9, 10, 22]) (sps := [⟨[5], [], [12], [(.slot 136)]⟩, ⟨[7], [], [13], [(.slot 137)]⟩, ⟨[11], [], [14], [(.slot 138)]⟩, ⟨[13, 14], [], [15], [(.slot 139)]⟩, ⟨[7], [], [16], [(.slot 140)]⟩, ⟨[11], [], [17], [(.slot 141)]⟩, ⟨[17], [], [18], [(.slot 142)]⟩, ⟨[16, 18], [], [19], [(.slot 143)]⟩, ⟨[15, 19], [], [20], [(.slot 144)]⟩, ⟨[12, 20], [], [21], [(.slot 145)]⟩, ⟨[21], [5], [22], [(.slot 9)]⟩]) (es' := [(_, _), (_, _), (_, _), (_, _), (_, _), (_, _), (_, _), (_, _), (_, _), (9, .v (.int .u32 v114))]) (by kernel_rfl) rfl rfl
          ⟨st_plain rfl (op_move _ _ _ _ rfl rfl),
          st_plain rfl (op_move _ _ _ _ rfl rfl),
          st_plain rfl (op_move _ _ _ _ rfl rfl),
          st_plain rfl (op_bin _ _ _ _ _ rfl rfl (shl_ok hv110)),
          st_plain rfl (op_move _ _ _ _ rfl rfl),
          st_plain rfl (op_move _ _ _ _ rfl rfl),
          st_plain rfl (op_bin _ _ _ _ _ rfl rfl (ibind (f := Value.int .u64) (Option.some.inj hv111))),
          st_plain rfl (op_bin _ _ _ _ _ rfl rfl (shr_ok hv112)),
          st_plain rfl (op_bin _ _ _ _ _ rfl rfl (ibind (f := Value.int .u32) (Option.some.inj hv113))),
          st_plain rfl (op_bin _ _ _ _ _ rfl rfl (ibind (f := Value.int .u32) (Option.some.inj hv114))),
          st_plain rfl (LOp.drop [_] (op_assign _ _ _ _ rfl rfl)),
          trivial⟩ ?_
         refine pt_inb ?_
         refine pt_then ?_
         obtain ⟨v115, hv115, h⟩ := bind_some h
         refine ht_seqR hn (El := [_, _, _, _, _, _, _, _, _, _, (67, .v (.int .i64 s584)), (68, .v (.int .i64 v115)), (12, .v (.int .i64 v115))]) (init := [0, 1, 2, 3, 4, 5, 6, 7, 8, 9]) (fin := [0, 1, 2, 3, 4, 6, 7, 8, 9, 12]) (sps := [⟨[5], [], [10], [(.slot 67)]⟩, ⟨[10], [], [11], [(.slot 68)]⟩, ⟨[11], [5], [12], [(.slot 12)]⟩]) (es' := [(_, _), (_, _), (_, _), (_, _), (_, _), (_, _), (_, _), (_, _), (_, _), (12, .v (.int .i64 v115))]) (by kernel_rfl) rfl rfl
          ⟨st_plain rfl (op_move _ _ _ _ rfl rfl),
          st_plain rfl (op_bin _ _ _ _ _ rfl rfl (ibind (f := Value.int .i64) (Option.some.inj hv115))),
          st_plain rfl (LOp.drop [_] (op_assign _ _ _ _ rfl rfl)),
          trivial⟩ ?_
         refine pt_pick [0, 1, 2, 3, 4, 5, 8, 7, 6, 9] (by kernel_rfl) (es' := [(_, _), (_, _), (_, _), (_, _), (_, _), (_, _), (_, _), (_, _), (_, _), (_, _)]) rfl ?_
         exact pt_next _ (Option.some.inj h).symm rfl
        ·intro u637 h hl638 hr639
         refine ht_seq ?_
         obtain ⟨v52, hv52, h⟩ := bind_some h
         refine ht_seqR hn (El := [_, _, _, _, _, _, _, _, _, _, (69, .v (.int .i64 s584)), (70, .v (.int .i64 v52))]) (init := [0, 1, 2, 3, 4, 5, 6, 7, 8, 9]) (fin := [0, 1, 2, 3, 4, 5, 6, 7, 8, 9, 11]) (sps := [⟨[9], [], [10], [(.slot 69)]⟩, ⟨[10], [], [11], [(.slot 70)]⟩]) (es' := [(_, _), (_, _), (_, _), (_, _), (_, _), (_, _), (_, _), (_, _), (_, _), (_, _), (70, .v (.int .i64 v52))]) (by kernel_rfl) rfl rfl
          ⟨st_plain rfl (op_move _ _ _ _ rfl rfl),
          st_plain rfl (op_bin _ _ _ _ _ rfl rfl (quo_ok hv52)),
          trivial⟩ ?_
         refine pt_then ?_
         refine ht_joinS h (fun ((s643, s644) : Int × Int) => [(2, .arr 37 (List.map (Value.int .u8) ((List.replicate 16 (0 : Int))))), (3, .fl (.own 5) 1 (List.map (Value.int .u8) s33)), (5, .fl (.own 49) 1 (List.map (Value.int .u32) s376)), (6, .fl (.own 49) 1 (List.map (Value.int .u32) v41)), (7, .v (.int .i64 s377)), (8, .v (.int .u32 s580)), (9, .v (.int .u32 s581)), (10, .v (.int .u32 s582)), (11, .v (.int .u32 s583)), (12, .v (.int .i64 s584)), (13, .v (.int .u32 s643)), (14, .v (.int .i64 s644))]) ?_ ?_
         ·rintro ⟨s643, s644⟩ h
          exact hl638 _ (Option.some.inj h).symm
         ·intro u645 h hl646 hr647
          refine ht_block ?_
          refine ht_seq ?_
          refine ht_seqR hn (El := [_, _, _, _, _, _, _, _, _, _, _, (81, .v (.bool (v52 == 0))), (80, .v (.bool (v52 == 0)))]) (init := [0, 1, 2, 3, 4, 5, 6, 7, 8, 9, 10]) (fin := [0, 1, 2, 3, 4, 5, 6, 7, 8, 9, 10, 12]) (sps := [⟨[10], [], [11], [(.slot 81)]⟩, ⟨[11], [], [12], [(.slot 80)]⟩]) (es' := [(_, _), (_, _), (_, _), (_, _), (_, _), (_, _), (_, _), (_, _), (_, _), (_, _), (_, _), (80, .v (.bool (v52 == 0)))]) (by kernel_rfl) rfl rfl
           ⟨st_plain rfl (op_bin _ _ _ _ _ rfl rfl rfl),
           st_plain rfl (op_assign _ _ _ _ rfl rfl),
           trivial⟩ ?_
          refine pt_then ?_
          refine ht_cond _ rfl (fun hb648 => ?_) (fun hb648 => ?_)
          ·have h := cond_t hb648 h
           obtain ⟨v54, hv54, h⟩ := bind_some h
           obtain ⟨v55, hv55, h⟩ := bind_some h
           obtain ⟨v56, hv56, h⟩ := bind_some h
           obtain ⟨v57, hv57, h⟩ := bind_some h
           refine ht_seqR hn (El := (_ :: _ :: _ :: _ :: _ :: _ :: _ :: _ :: _ :: _ :: _ :: _ :: (82, .v (.int .u32 s581)) :: (83, .v (.int .u32 s582)) :: (84, .v (.int .u32 v54)) :: (85, .v (.int .u32 s581)) :: (86, .v (.int .u32 v55)) :: (87, .v (.int .u32 s583)) :: (88, .v (.int .u32 v56)) :: (89, .v (.int .u32 v57)) :: (90, .v (.int .i64 s584)) :: (13, .v (.int .u32 v57)) :: (14, .v (.int .i64 s584)) :: [])) (init := [0, 1, 2, 3, 4, 5, 6, 7, 8, 9, 10, 11]) (fin := [0, 1, 2, 3, 4, 5, 6, 7, 8, 9, 21, 22]) (sps := [⟨[6], [], [12], [(.slot 82)]⟩, ⟨[7], [], [13], [(.slot 83)]⟩, ⟨[12, 13], [], [14], [(.slot 84)]⟩, ⟨[6], [], [15], [(.slot 85)]⟩, ⟨[15], [], [16], [(.slot 86)]⟩, ⟨[8], [], [17], [(.slot 87)]⟩, ⟨[16, 17], [], [18], [(.slot 88)]⟩, ⟨[14, 18], [], [19], [(.slot 89)]⟩, ⟨[9], [], [20], [(.slot 90)]⟩, ⟨[19], [], [21], [(.slot 13)]⟩, ⟨[20], [], [22], [(.slot 14)]⟩]) (es' := [(_, _), (_, _), (_, _), (_, _), (_, _), (_, _), (_, _), (_, _), (_, _), (_, _), (13, .v (.int .u32 v57)), (14, .v (.int .i64 s584))]) (by kernel_rfl) rfl rfl
            ⟨st_plain rfl (op_move _ _ _ _ rfl rfl),
            st_plain rfl (op_move _ _ _ _ rfl rfl),
            st_plain rfl (op_bin _ _ _ _ _ rfl rfl (ibind (f := Value.int .u32) (Option.some.inj hv54))),
            st_plain rfl (op_move _ _ _ _ rfl rfl),
            st_plain rfl (op_un _ _ _ _ rfl (ibind (f := Value.int .u32) (Option.some.inj hv55))),
            st_plain rfl (op_move _ _ _ _ rfl rfl),
            st_plain rfl (op_bin _ _ _ _ _ rfl rfl (ibind (f := Value.int .u32) (Option.some.inj hv56))),
            st_plain rfl (op_bin _ _ _ _ _ rfl rfl (ibind (f := Value.int .u32) (Option.some.inj hv57))),
            st_plain rfl (op_move _ _ _ _ rfl rfl),
            st_plain rfl (op_assign _ _ _ _ rfl rfl),
            st_plain rfl (op_assign _ _ _ _ rfl rfl),
            trivial⟩ ?_
           refine pt_inb ?_
           exact hl646 _ (Option.some.inj h).symm
          ·have h := cond_f hb648 h
           refine ht_seq ?_
           refine ht_seqR hn (El := [_, _, _, _, _, _, _, _, _, _, _, _, (92, .v (.bool (v52 == 1))), (91, .v (.bool (v52 == 1)))]) (init := [0, 1, 2, 3, 4, 5, 6, 7, 8, 9, 10, 11]) (fin := [0, 1, 2, 3, 4, 5, 6, 7, 8, 9, 10, 13]) (sps := [⟨[10], [], [12], [(.slot 92)]⟩, ⟨[12], [], [13], [(.slot 91)]⟩]) (es' := [(_, _), (_, _), (_, _), (_, _), (_, _), (_, _), (_, _), (_, _), (_, _), (_, _), (_, _), (91, .v (.bool (v52 == 1)))]) (by kernel_rfl) rfl rfl
            ⟨st_plain rfl (op_bin _ _ _ _ _ rfl rfl rfl),
            st_plain rfl (op_assign _ _ _ _ rfl rfl),
            trivial⟩ ?_
           refine pt_then ?_
           refine ht_cond _ rfl (fun hb649 => ?_) (fun hb649 => ?_)
           ·have h := cond_t hb649 h
            obtain ⟨v59, hv59, h⟩ := bind_some h
            obtain ⟨v60, hv60, h⟩ := bind_some h
            obtain ⟨v61, hv61, h⟩ := bind_some h
            obtain ⟨v62, hv62, h⟩ := bind_some h
            obtain ⟨v63, hv63, h⟩ := bind_some h
            obtain ⟨v64, hv64, h⟩ := bind_some h
            obtain ⟨v65, hv65, h⟩ := bind_some h
            refine ht_seqR hn (El := (_ :: _ :: _ :: _ :: _ :: _ :: _ :: _ :: _ :: _ :: _ :: _ :: (93, .v (.int .u32 s583)) :: (94, .v (.int .u32 s581)) :: (95, .v (.int .u32 v59)) :: (96, .v (.int .u32 s583)) :: (97, .v (.int .u32 v60)) :: (98, .v (.int .u32 s582)) :: (99, .v (.int .u32 v61)) :: (100, .v (.int .u32 v62)) :: (101, .v (.int .i64 s584)) :: (102, .v (.int .i64 v63)) :: (103, .v (.int .i64 v64)) :: (104, .v (.int .i64 v65)) :: (13, .v (.int .u32 v62)) :: (14, .v (.int .i64 v65)) :: [])) (init := [0, 1, 2, 3, 4, 5, 6, 7, 8, 9, 10, 11]) (fin := [0, 1, 2, 3, 4, 5, 6, 7, 8, 9, 24, 25]) (sps := [⟨[8], [], [12], [(.slot 93)]⟩, ⟨[6], [], [13], [(.slot 94)]⟩, ⟨[12, 13], [], [14], [(.slot 95)]⟩, ⟨[8], [], [15], [(.slot 96)]⟩, ⟨[15], [], [16], [(.slot 97)]⟩, ⟨[7], [], [17], [(.slot 98)]⟩, ⟨[16, 17], [], [18], [(.slot 99)]⟩, ⟨[14, 18], [], [19], [(.slot 100)]⟩, ⟨[9], [], [20], [(.slot 101)]⟩, ⟨[20], [], [21], [(.slot 102)]⟩, ⟨[21], [], [22], [(.slot 103)]⟩, ⟨[22], [], [23], [(.slot 104)]⟩, ⟨[19], [], [24], [(.slot 13)]⟩, ⟨[23], [], [25], [(.slot 14)]⟩]) (es' := [(_, _), (_, _), (_, _), (_, _), (_, _), (_, _), (_, _), (_, _), (_, _), (_, _), (13, .v (.int .u32 v62)), (14, .v (.int .i64 v65))]) (by kernel_rfl) rfl rfl
             ⟨st_plain rfl (op_move _ _ _ _ rfl rfl),
             st_plain rfl (op_move _ _ _ _ rfl rfl),
             st_plain rfl (op_bin _ _ _ _ _ rfl rfl (ibind (f := Value.int .u32) (Option.some.inj hv59))),
             st_plain rfl (op_move _ _ _ _ rfl rfl),
             st_plain rfl (op_un _ _ _ _ rfl (ibind (f := Value.int .u32) (Option.some.inj hv60))),
             st_plain rfl (op_move _ _ _ _ rfl rfl),
             st_plain rfl (op_bin _ _ _ _ _ rfl rfl (ibind (f := Value.int .u32) (Option.some.inj hv61))),
             st_plain rfl (op_bin _ _ _ _ _ rfl rfl (ibind (f := Value.int .u32) (Option.some.inj hv62))),
             st_plain rfl (op_move _ _ _ _ rfl rfl),
             st_plain rfl (op_bin _ _ _ _ _ rfl rfl (ibind (f := Value.int .i64) (Option.some.inj hv63))),
             st_plain rfl (op_bin _ _ _ _ _ rfl rfl (ibind (f := Value.int .i64) (Option.some.inj hv64))),
             st_plain rfl (op_bin _ _ _ _ _ rfl rfl (rem_ok hv65)),
             st_plain rfl (op_assign _ _ _ _ rfl rfl),
             st_plain rfl (op_assign _ _ _ _ rfl rfl),
             trivial⟩ ?_
            refine pt_inb ?_
            exact hl646 _ (Option.some.inj h).symm
           ·have h := cond_f hb649 h
            refine ht_seq ?_
            refine ht_seqR hn (El := [_, _, _, _, _, _, _, _, _, _, _, _, (106, .v (.bool (v52 == 2))), (105, .v (.bool (v52 == 2)))]) (init := [0, 1, 2, 3, 4, 5, 6, 7, 8, 9, 10, 11]) (fin := [0, 1, 2, 3, 4, 5, 6, 7, 8, 9, 13]) (sps := [⟨[10], [], [12], [(.slot 106)]⟩, ⟨[12], [], [13], [(.slot 105)]⟩]) (es' := [(_, _), (_, _), (_, _), (_, _), (_, _), (_, _), (_, _), (_, _), (_, _), (_, _), (105, .v (.bool (v52 == 2)))]) (by kernel_rfl) rfl rfl
             ⟨st_plain rfl (op_bin _ _ _ _ _ rfl rfl rfl),
             st_plain rfl (op_assign _ _ _ _ rfl rfl),
             trivial⟩ ?_
            refine pt_then ?_
            refine ht_cond _ rfl (fun hb650 => ?_) (fun hb650 => ?_)
            ·have h := cond_t hb650 h
             obtain ⟨v67, hv67, h⟩ := bind_some h
             obtain ⟨v68, hv68, h⟩ := bind_some h
             obtain ⟨v69, hv69, h⟩ := bind_some h
             obtain ⟨v70, hv70, h⟩ := bind_some h
             obtain ⟨v71, hv71, h⟩ := bind_some h
             refine ht_seqR hn (El := (_ :: _ :: _ :: _ :: _ :: _ :: _ :: _ :: _ :: _ :: _ :: (107, .v (.int .u32 s581)) :: (108, .v (.int .u32 s582)) :: (109, .v (.int .u32 v67)) :: (110, .v (.int .u32 s583)) :: (111, .v (.int .u32 v68)) :: (112, .v (.int .i64 s584)) :: (113, .v (.int .i64 v69)) :: (114, .v (.int .i64 v70)) :: (115, .v (.int .i64 v71)) :: (13, .v (.int .u32 v68)) :: (14, .v (.int .i64 v71)) :: [])) (init := [0, 1, 2, 3, 4, 5, 6, 7, 8, 9, 10]) (fin := [0, 1, 2, 3, 4, 5, 6, 7, 8, 9, 20, 21]) (sps := [⟨[6], [], [11], [(.slot 107)]⟩, ⟨[7], [], [12], [(.slot 108)]⟩, ⟨[11, 12], [], [13], [(.slot 109)]⟩, ⟨[8], [], [14], [(.slot 110)]⟩, ⟨[13, 14], [], [15], [(.slot 111)]⟩, ⟨[9], [], [16], [(.slot 112)]⟩, ⟨[16], [], [17], [(.slot 113)]⟩, ⟨[17], [], [18], [(.slot 114)]⟩, ⟨[18], [], [19], [(.slot 115)]⟩, ⟨[15], [], [20], [(.slot 13)]⟩, ⟨[19], [], [21], [(.slot 14)]⟩]) (es' := [(_, _), (_, _), (_, _), (_, _), (_, _), (_, _), (_, _), (_, _), (_, _), (_, _), (13, .v (.int .u32 v68)), (14, .v (.int .i64 v71))]) (by kernel_rfl) rfl rfl
              ⟨st_plain rfl (op_move _ _ _ _ rfl rfl),
              st_plain rfl (op_move _ _ _ _ rfl rfl),
              st_plain rfl (op_bin _ _ _ _ _ rfl rfl (ibind (f := Value.int .u32) (Option.some.inj hv67))),
              st_plain rfl (op_move _ _ _ _ rfl rfl),
              st_plain rfl (op_bin _ _ _ _ _ rfl rfl (ibind (f := Value.int .u32) (Option.some.inj hv68))),
              st_plain rfl (op_move _ _ _ _ rfl rfl),
              st_plain rfl (op_bin _ _ _ _ _ rfl rfl (ibind (f := Value.int .i64) (Option.some.inj hv69))),
              st_plain rfl (op_bin _ _ _ _ _ rfl rfl (ibind (f := Value.int .i64) (Option.some.inj hv70))),
              st_plain rfl (op_bin _ _ _ _ _ rfl rfl (rem_ok hv71)),
              st_plain rfl (op_assign _ _ _ _ rfl rfl),
              st_plain rfl (op_assign _ _ _ _ rfl rfl),
              trivial⟩ ?_
             refine pt_inb ?_
             exact hl646 _ (Option.some.inj h).symm
            ·have h := cond_f hb650 h
             obtain ⟨v72, hv72, h⟩ := bind_some h
             obtain ⟨v73, hv73, h⟩ := bind_some h
             obtain ⟨v74, hv74, h⟩ := bind_some h
             obtain ⟨v75, hv75, h⟩ := bind_some h
             obtain ⟨v76, hv76, h⟩ := bind_some h
             refine ht_seqR hn (El := (_ :: _ :: _ :: _ :: _ :: _ :: _ :: _ :: _ :: _ :: _ :: (71, .v (.int .u32 s582)) :: (72, .v (.int .u32 s581)) :: (73, .v (.int .u32 s583)) :: (74, .v (.int .u32 v72)) :: (75, .v (.int .u32 v73)) :: (76, .v (.int .u32 v74)) :: (77, .v (.int .i64 s584)) :: (78, .v (.int .i64 v75)) :: (79, .v (.int .i64 v76)) :: (13, .v (.int .u32 v74)) :: (14, .v (.int .i64 v76)) :: [])) (init := [0, 1, 2, 3, 4, 5, 6, 7, 8, 9, 10]) (fin := [0, 1, 2, 3, 4, 5, 6, 7, 8, 9, 20, 21]) (sps := [⟨[7], [], [11], [(.slot 71)]⟩, ⟨[6], [], [12], [(.slot 72)]⟩, ⟨[8], [], [13], [(.slot 73)]⟩, ⟨[13], [], [14], [(.slot 74)]⟩, ⟨[12, 14], [], [15], [(.slot 75)]⟩, ⟨[11, 15], [], [16], [(.slot 76)]⟩, ⟨[9], [], [17], [(.slot 77)]⟩, ⟨[17], [], [18], [(.slot 78)]⟩, ⟨[18], [], [19], [(.slot 79)]⟩, ⟨[16], [], [20], [(.slot 13)]⟩, ⟨[19], [], [21], [(.slot 14)]⟩]) (es' := [(_, _), (_, _), (_, _), (_, _), (_, _), (_, _), (_, _), (_, _), (_, _), (_, _), (13, .v (.int .u32 v74)), (14, .v (.int .i64 v76))]) (by kernel_rfl) rfl rfl
              ⟨st_plain rfl (op_move _ _ _ _ rfl rfl),
              st_plain rfl (op_move _ _ _ _ rfl rfl),
              st_plain rfl (op_move _ _ _ _ rfl rfl),
              st_plain rfl (op_un _ _ _ _ rfl (ibind (f := Value.int .u32) (Option.some.inj hv72))),
              st_plain rfl (op_bin _ _ _ _ _ rfl rfl (ibind (f := Value.int .u32) (Option.some.inj hv73))),
              st_plain rfl (op_bin _ _ _ _ _ rfl rfl (ibind (f := Value.int .u32) (Option.some.inj hv74))),
              st_plain rfl (op_move _ _ _ _ rfl rfl),
              st_plain rfl (op_bin _ _ _ _ _ rfl rfl (ibind (f := Value.int .i64) (Option.some.inj hv75))),
              st_plain rfl (op_bin _ _ _ _ _ rfl rfl (rem_ok hv76)),
              st_plain rfl (op_assign _ _ _ _ rfl rfl),
              st_plain rfl (op_assign _ _ _ _ rfl rfl),
              trivial⟩ ?_
             refine pt_inb ?_
             exact hl646 _ (Option.some.inj h).symm
       ·have h := cond_f hb623 h
        refine ht_exit ?_
        refine pt_x_then ?_
        refine pt_x_then ?_
        refine pt_x_in ?_
        refine pt_pick [0, 1, 2, 3, 4, 5, 6, 7, 8] (by kernel_rfl) (es' := [(_, _), (_, _), (_, _), (_, _), (_, _), (_, _), (_, _), (_, _), (_, _)]) rfl ?_
        exact hl618 _ (ho620 _ (Option.some.inj h).symm).symm
     ·have h := cond_f hb518 h
      refine ht_exit ?_
      refine pt_x_then ?_
      refine pt_x_then ?_
      refine pt_x_in ?_
      refine pt_pick [0, 2] (by kernel_rfl) (es' := [(_, _), (_, _)]) rfl ?_
      exact hl513 _ (ho515 _ (Option.some.inj h).symm).symm
   ·rintro u34 hl35 hr36 ⟨s30, s31⟩ rr39 h ho37
    refine ht_seq ?_
    refine ht_seq ?_
    refine ht_seqR hn (El := [_, _, _, _, (29, .v (.int .i64 s31)), (30, .v (.bool ((decide (s31 < 8)))))]) (init := [0, 1, 2, 3]) (fin := [0, 1, 2, 3, 5]) (sps := [⟨[3], [], [4], [(.slot 29)]⟩, ⟨[4], [], [5], [(.slot 30)]⟩]) (es' := [(_, _), (_, _), (_, _), (_, _), (30, .v (.bool ((decide (s31 < 8)))))]) (by kernel_rfl) rfl rfl
     ⟨st_plain rfl (op_move _ _ _ _ rfl rfl),
     st_plain rfl (op_bin _ _ _ _ _ rfl rfl rfl),
     trivial⟩ ?_
    refine pt_then ?_
    refine ht_cond _ rfl (fun hb40 => ?_) (fun hb40 => ?_)
    ·have h := cond_t hb40 h
     refine ht_skip ?_
     refine pt_then ?_
     refine ht_seq ?_
     refine ht_block ?_
     obtain ⟨v19, hv19, h⟩ := bind_some h
     obtain ⟨v20, hv20, h⟩ := bind_some h
     obtain ⟨v21, hv21, h⟩ := bind_some h
     obtain ⟨v22, hv22, h⟩ := bind_some h
     obtain ⟨v23, hv23, h⟩ := bind_some h
     obtain ⟨v24, hv24, h⟩ := bind_some h
     obtain ⟨v25, hv25, h⟩ := bind_some h
     refine ht_seqR hn (El := (_ :: _ :: _ :: _ :: _ :: (33, .fl (.own 5) 1 (List.map (Value.int .u8) s30)) :: (34, .fl .shr 1 (List.map (Value.int .u8) b)) :: (35, .v (.int .i64 (b.length : Int))) :: (36, .v (.int .i64 v19)) :: (37, .v (.int .u64 v20)) :: (38, .v (.int .i64 s31)) :: (39, .v (.int .i64 v21)) :: (40, .v (.int .u64 v22)) :: (41, .v (.int .u64 v23)) :: (42, .v (.int .u8 v24)) :: (43, .fl (.own 5) 1 (List.map (Value.int .u8) [v24])) :: (44, .fl (.own 5) 1 (List.map (Value.int .u8) v25)) :: (33, .any) :: (3, .fl (.own 5) 1 (List.map (Value.int .u8) v25)) :: [])) (init := [0, 1, 2, 3, 4]) (fin := [0, 1, 3, 18]) (sps := [⟨[], [2], [5], [(.slot 33)]⟩, ⟨[0], [], [6], [(.slot 34)]⟩, ⟨[6], [], [7], [(.slot 35)]⟩, ⟨[7], [], [8], [(.slot 36)]⟩, ⟨[8], [], [9], [(.slot 37)]⟩, ⟨[3], [], [10], [(.slot 38)]⟩, ⟨[10], [], [11], [(.slot 39)]⟩, ⟨[11], [], [12], [(.slot 40)]⟩, ⟨[9, 12], [], [13], [(.slot 41)]⟩, ⟨[13], [], [14], [(.slot 42)]⟩, ⟨[14], [], [15], [(.slot 43)]⟩, ⟨[15], [5], [17, 16], [(.slot 44)]⟩, ⟨[], [16], [18], [(.slot 3)]⟩]) (es' := [(_, _), (_, _), (_, _), (3, .fl (.own 5) 1 (List.map (Value.int .u8) v25))]) (by kernel_rfl) rfl rfl
      ⟨st_plain rfl (op_move_take _ _ _ _ rfl),
      st_plain rfl (op_move _ _ _ _ rfl rfl),
      st_plain rfl (op_len_fl _ _ _ Tryd.underlying22 rfl (by decide) (map_len _)),
      st_plain rfl (op_bin _ _ _ _ _ rfl rfl (ibind (f := Value.int .i64) (Option.some.inj hv19))),
      st_plain rfl ((Option.some.inj hv20) ▸ op_conv _ _ _ Tryd.underlying3 Tryd.underlying81 rfl),
      st_plain rfl (op_move _ _ _ _ rfl rfl),
      st_plain rfl (op_bin _ _ _ _ _ rfl rfl (ibind (f := Value.int .i64) (Option.some.inj hv21))),
      st_plain rfl ((Option.some.inj hv22) ▸ op_conv _ _ _ Tryd.underlying3 Tryd.underlying36 rfl),
      st_plain rfl (op_bin _ _ _ _ _ rfl rfl (shr_ok hv23)),
      st_plain rfl ((Option.some.inj hv24) ▸ op_conv _ _ _ Tryd.underlying81 Tryd.underlying5 rfl),
      st_plain rfl (op_buildSlice _ _ 1 (.int .u8 0) (List.map (Value.int .u8) [v24]) [(0, .int .u8 v24)] Tryd.underlying22 sz5 zr5 (fun _ V w o a hv hes => by have e0 := rd_v hv hes (x := .tmp 42) rfl; simp only [List.map_toArray, List.map_cons, List.map_nil, e0]; try rfl) (litfill (by simp [Instr.fill, Value.cells]; rfl) (by simp [List.range, List.range.loop] <;> rfl)) (by simp [Value.oneCell']) rfl (by decide) (by decide) (by decide)),
      st_plain rfl (op_app _ _ _ _ _ el22 rfl rfl (map_len _) (map_len _) hv25 ((List.map_append).symm.trans (congrArg (List.map _) (app_eq hv25)))),
      st_plain rfl (op_assign_take _ _ _ _ rfl),
      trivial⟩ ?_
     refine pt_inb ?_
     refine pt_then ?_
     obtain ⟨v26, hv26, h⟩ := bind_some h
     refine ht_seqR hn (El := [_, _, _, _, (31, .v (.int .i64 s31)), (32, .v (.int .i64 v26)), (4, .v (.int .i64 v26))]) (init := [0, 1, 2, 3]) (fin := [0, 1, 3, 6]) (sps := [⟨[2], [], [4], [(.slot 31)]⟩, ⟨[4], [], [5], [(.slot 32)]⟩, ⟨[5], [2], [6], [(.slot 4)]⟩]) (es' := [(_, _), (_, _), (_, _), (4, .v (.int .i64 v26))]) (by kernel_rfl) rfl rfl
      ⟨st_plain rfl (op_move _ _ _ _ rfl rfl),
      st_plain rfl (op_bin _ _ _ _ _ rfl rfl (ibind (f := Value.int .i64) (Option.some.inj hv26))),
      st_plain rfl (LOp.drop [_] (op_assign _ _ _ _ rfl rfl)),
      trivial⟩ ?_
     exact pt_next _ (Option.some.inj h).symm rfl
    ·have h := cond_f hb40 h
     refine ht_exit ?_
     refine pt_x_then ?_
     refine pt_x_then ?_
     refine pt_x_in ?_
     refine pt_pick [1, 2] (by kernel_rfl) (es' := [(_, _), (_, _)]) rfl ?_
     exact hl35 _ (ho37 _ (Option.some.inj h).symm).symm
  ·rintro u11 hl12 hr13 s8 rr16 h ho14
   refine ht_seq ?_
   refine ht_seq ?_
   obtain ⟨v3, hv3, h⟩ := bind_some h
   refine ht_seqR hn (El := [_, _, _, (22, .same (.slot 3)), (23, .v (.int .i64 (s8.length : Int))), (24, .v (.int .i64 v3)), (25, .v (.bool (v3 != 56)))]) (init := [0, 1, 2]) (fin := [0, 1, 2, 6]) (sps := [⟨[2], [], [3], [(.slot 22)]⟩, ⟨[3, 2], [], [4], [(.slot 23)]⟩, ⟨[4], [], [5], [(.slot 24)]⟩, ⟨[5], [], [6], [(.slot 25)]⟩]) (es' := [(_, _), (_, _), (_, _), (25, .v (.bool (v3 != 56)))]) (by kernel_rfl) rfl rfl
    ⟨st_plain rfl (op_move _ _ _ _ rfl rfl),
    st_plain rfl (op_len_fl _ _ _ Tryd.underlying22 rfl (by decide) (map_len _)),
    st_plain rfl (op_bin _ _ _ _ _ rfl rfl (rem_ok hv3)),
    st_plain rfl (op_bin _ _ _ _ _ rfl rfl rfl),
    trivial⟩ ?_
   refine pt_then ?_
   refine ht_cond _ rfl (fun hb17 => ?_) (fun hb17 => ?_)
   ·have h := cond_t hb17 h
    refine ht_skip ?_
    refine pt_then ?_
    refine ht_block ?_
    obtain ⟨v5, hv5, h⟩ := bind_some h
    refine ht_seqR hn (El := [_, _, _, _, (26, .fl (.own 5) 1 (List.map (Value.int .u8) s8)), (27, .fl (.own 5) 1 (List.map (Value.int .u8) [0])), (28, .fl (.own 5) 1 (List.map (Value.int .u8) v5)), (26, .any), (3, .fl (.own 5) 1 (List.map (Value.int .u8) v5))]) (init := [0, 1, 2, 3]) (fin := [0, 1, 8]) (sps := [⟨[], [2], [4], [(.slot 26)]⟩, ⟨[], [], [5], [(.slot 27)]⟩, ⟨[5], [4], [7, 6], [(.slot 28)]⟩, ⟨[], [6], [8], [(.slot 3)]⟩]) (es' := [(_, _), (_, _), (3, .fl (.own 5) 1 (List.map (Value.int .u8) v5))]) (by kernel_rfl) rfl rfl
     ⟨st_plain rfl (op_move_take _ _ _ _ rfl),
     st_plain rfl (op_buildSlice _ _ 1 (.int .u8 0) (List.map (Value.int .u8) [0]) [(0, .int .u8 0)] Tryd.underlying22 sz5 zr5 (fun _ V w o a hv hes => by simp only [List.map_toArray, List.map_cons, List.map_nil]; try rfl) (litfill (by simp [Instr.fill, Value.cells]; rfl) (by simp [List.range, List.range.loop] <;> rfl)) (by simp [Value.oneCell']) rfl (by decide) (by decide) (by decide)),
     st_plain rfl (op_app _ _ _ _ _ el22 rfl rfl (map_len _) (map_len _) hv5 ((List.map_append).symm.trans (congrArg (List.map _) (app_eq hv5)))),
     st_plain rfl (op_assign_take _ _ _ _ rfl),
     trivial⟩ ?_
    refine pt_inb ?_
    exact pt_next _ (Option.some.inj h).symm rfl
   ·have h := cond_f hb17 h
    refine ht_exit ?_
    refine pt_x_then ?_
    refine pt_x_then ?_
    refine pt_x_in ?_
    refine pt_pick [0, 1, 2] (by kernel_rfl) (es' := [(_, _), (_, _), (_, _)]) rfl ?_
    exact hl12 _ (ho14 _ (Option.some.inj h).symm).symm

set_option maxHeartbeats 1000000 in
theorem ok_wherryref08_Keyed (key : (List Int)) (text : (List Int)) (r : (List Int)) (h : Sh.wherryref08_Keyed key text = some r) : FnOK Tryd.prog 25 [.fl .shr 1 (List.map (Value.int .u8) key), .fl .shr 1 (List.map (Value.int .u8) text)] (.v (.agg (List.map (Value.int .u8) r).toArray)) := by
  unfold Sh.wherryref08_Keyed at h
  refine fn_ok Tryd.func25 rfl (Nat.le_of_ble_eq_true rfl) rfl rfl fun g0 hn hio => ?_
  refine ht_seq ?_
  refine ht_seqR hn (El := [_, _, (4, .arr 37 (List.map (Value.int .u8) ((List.replicate 16 (0 : Int)))))]) (init := [0, 1]) (fin := [0, 1, 2]) (sps := [⟨[], [], [2], [(.slot 4)]⟩]) (es' := [(_, _), (_, _), (4, .arr 37 (List.map (Value.int .u8) ((List.replicate 16 (0 : Int)))))]) (by kernel_rfl) rfl rfl
   ⟨st_plain rfl (op_alloc_arr _ za37),
   trivial⟩ ?_
  refine pt_then ?_
  refine ht_seq ?_
  obtain ⟨v1, hv1, h⟩ := bind_some h
  refine ht_seqR hn (El := [_, _, _, (11, .fl .shr 1 (List.map (Value.int .u8) key)), (12, .fl (.own 5) 1 (List.map (Value.int .u8) v1)), (5, .fl (.own 5) 1 (List.map (Value.int .u8) v1))]) (init := [0, 1, 2]) (fin := [1, 2, 5]) (sps := [⟨[0], [], [3], [(.slot 11)]⟩, ⟨[3], [], [4], [(.slot 12)]⟩, ⟨[], [4], [5], [(.slot 5)]⟩]) (es' := [(_, _), (_, _), (5, .fl (.own 5) 1 (List.map (Value.int .u8) v1))]) (by kernel_rfl) rfl rfl
   ⟨st_plain rfl (op_move _ _ _ _ rfl rfl),
   st_plain rfl (op_call _ _ 8 _ _ rfl Tryd.call8 rfl (ok_wherrykeep_Twin key _ hv1) rfl rfl),
   st_plain rfl (op_assign_take _ _ _ _ rfl),
   trivial⟩ ?_
  refine pt_then ?_
  refine ht_seq ?_
  refine ht_joinS h (fun (s8 : (List Int)) => [(1, .fl .shr 1 (List.map (Value.int .u8) text)), (4, .arr 37 (List.map (Value.int .u8) ((List.replicate 16 (0 : Int))))), (5, .fl (.own 5) 1 (List.map (Value.int .u8) s8))]) ?_ ?_
  ·rintro s8 h
   refine pt_then ?_
   refine ht_seq ?_
   refine ht_loopS h (fun (s17 : (List Int)) => [(1, .fl .shr 1 (List.map (Value.int .u8) text)), (4, .arr 37 (List.map (Value.int .u8) ((List.replicate 16 (0 : Int))))), (5, .fl (.own 5) 1 (List.map (Value.int .u8) s17))]) (fun (s19 : (List Int)) => [(1, .fl .shr 1 (List.map (Value.int .u8) text)), (4, .arr 37 (List.map (Value.int .u8) ((List.replicate 16 (0 : Int))))), (5, .fl (.own 5) 1 (List.map (Value.int .u8) s19))]) ?_ ?_
   ·rintro s19 h
    refine pt_then ?_
    refine ht_seq ?_
    refine ht_seqR hn (El := [_, _, _, (7, .v (.slice none 0 0)), (8, .v (.slice none 0 0))]) (init := [0, 1, 2]) (fin := [0, 1, 2, 3, 4]) (sps := [⟨[], [], [3], [(.slot 7)]⟩, ⟨[], [], [4], [(.slot 8)]⟩]) (es' := [(_, _), (_, _), (_, _), (7, .v (.slice none 0 0)), (8, .v (.slice none 0 0))]) (by kernel_rfl) rfl rfl
     ⟨st_plain rfl (op_assign _ _ _ _ rfl rfl),
     st_plain rfl (op_assign _ _ _ _ rfl rfl),
     trivial⟩ ?_
    refine pt_then ?_
    refine ht_seq ?_
    refine ht_seq ?_
    refine ht_seqR hn (El := [_, _, _, _, _, (9, .v (.int .i64 0))]) (init := [0, 1, 2, 3, 4]) (fin := [0, 1, 2, 3, 4, 5]) (sps := [⟨[], [], [5], [(.slot 9)]⟩]) (es' := [(_, _), (_, _), (_, _), (_, _), (_, _), (9, .v (.int .i64 0))]) (by kernel_rfl) rfl rfl
     ⟨st_plain rfl (op_assign _ _ _ _ rfl rfl),
     trivial⟩ ?_
    refine pt_then ?_
    refine ht_sub (fs := [(1, .fl .shr 1 (List.map (Value.int .u8) text)), (4, .arr 37 (List.map (Value.int .u8) ((List.replicate 16 (0 : Int))))), (5, .fl (.own 5) 1 (List.map (Value.int .u8) s19)), (7, .fl (.own 5) 1 (List.map (Value.int .u8) [])), (8, .fl (.own 5) 1 (List.map (Value.int .u8) [])), (9, .v (.int .i64 0))]) (.same _ (.same _ (.same _ (.sub _ (sub_nil 5 1) rfl (.sub _ (sub_nil 5 1) rfl (.same _ .nil)))))) ?_
    refine ht_loopS h (fun ((s41, s42, s43) : (List Int) × (List Int) × Int) => [(1, .fl .shr 1 (List.map (Value.int .u8) text)), (4, .arr 37 (List.map (Value.int .u8) ((List.replicate 16 (0 : Int))))), (5, .fl (.own 5) 1 (List.map (Value.int .u8) s19)), (7, .fl (.own 5) 1 (List.map (Value.int .u8) s41)), (8, .fl (.own 5) 1 (List.map (Value.int .u8) s42)), (9, .v (.int .i64 s43))]) (fun ((s45, s46) : (List Int) × (List Int)) => [(1, .fl .shr 1 (List.map (Value.int .u8) text)), (4, .arr 37 (List.map (Value.int .u8) ((List.replicate 16 (0 : Int))))), (7, .fl (.own 5) 1 (List.map (Value.int .u8) s45)), (8, .fl (.own 5) 1 (List.map (Value.int .u8) s46))]) ?_ ?_
    ·rintro ⟨s45, s46⟩ h
     refine pt_then ?_
     refine ht_seq ?_
     obtain ⟨v54, hv54, h⟩ := bind_some h
     obtain ⟨v55, hv55, h⟩ := bind_some h
     obtain ⟨v56, hv56, h⟩ := bind_some h
     obtain ⟨v57, hv57, h⟩ := bind_some h
     refine ht_seqR hn (El := [_, _, _, _, (46, .fl (.own 5) 1 (List.map (Value.int .u8) s45)), (47, .fl .shr 1 (List.map (Value.int .u8) text)), (48, .fl (.own 5) 1 (List.map (Value.int .u8) v54)), (46, .any), (49, .v (.agg (List.map (Value.int .u8) v55).toArray)), (10, .arr 37 (List.map (Value.int .u8) ((List.replicate 16 (0 : Int))))), (10, .arr 37 (List.map (Value.int .u8) v55))]) (init := [0, 1, 2, 3]) (fin := [1, 3, 10]) (sps := [⟨[], [2], [4], [(.slot 46)]⟩, ⟨[0], [], [5], [(.slot 47)]⟩, ⟨[5], [4], [7, 6], [(.slot 48)]⟩, ⟨[6], [], [8], [(.slot 49)]⟩, ⟨[], [], [9], [(.slot 10)]⟩, ⟨[8], [9], [10], []⟩]) (es' := [(_, _), (_, _), (10, .arr 37 (List.map (Value.int .u8) v55))]) (by kernel_rfl) rfl rfl
      ⟨st_plain rfl (op_move_take _ _ _ _ rfl),
      st_plain rfl (op_move _ _ _ _ rfl rfl),
      st_plain rfl (op_app _ _ _ _ _ el22 rfl rfl (map_len _) (map_len _) hv54 ((List.map_append).symm.trans (congrArg (List.map _) (app_eq hv54)))),
      st_plain rfl (op_call _ _ 37 _ _ rfl Tryd.call37 rfl (ok_wherryref08_Sum v54 _ hv55) rfl rfl),
      st_plain rfl (op_alloc_arr _ za37),
      st_plain rfl (op_storeA_arr _ _ _ _ (sz37.trans (congrArg some (ln_len hv57))) rfl rfl (ln_ones (fun _ => rfl) _) ((ln_len (f := Value.int .u8) hv56).symm.trans (ln_len (f := Value.int .u8) hv57))),
      trivial⟩ ?_
     refine pt_then ?_
     refine ht_seq ?_
     obtain ⟨v58, hv58, h⟩ := bind_some h
     obtain ⟨v59, hv59, h⟩ := bind_some h
     obtain ⟨v60, hv60, h⟩ := bind_some h
     obtain ⟨v61, hv61, h⟩ := bind_some h
     obtain ⟨v62, hv62, h⟩ := bind_some h
     refine ht_seqR hn (El := [_, _, _, (50, .fl (.own 5) 1 (List.map (Value.int .u8) s46)), (51, .fl .ro 1 (List.map (Value.int .u8) v55)), (10, .any), (52, .fl (.own 5) 1 (List.map (Value.int .u8) v59)), (50, .any), (53, .v (.agg (List.map (Value.int .u8) v60).toArray)), (4, .arr 37 (List.map (Value.int .u8) v60))]) (init := [0, 1, 2]) (fin := [9]) (sps := [⟨[], [1], [3], [(.slot 50)]⟩, ⟨[], [2], [5, 4], [(.slot 51)]⟩, ⟨[4], [3], [7, 6], [(.slot 52)]⟩, ⟨[6], [], [8], [(.slot 53)]⟩, ⟨[8], [0], [9], []⟩]) (es' := [(4, .arr 37 (List.map (Value.int .u8) v60))]) (by kernel_rfl) rfl rfl
      ⟨st_plain rfl (op_move_take _ _ _ _ rfl),
      st_plain rfl (op_slice_frz _ _ 10 16 _ Tryd.underlying37 sz5 rfl (ln_len hv58).symm (ln_ones (fun _ => rfl) _)),
      st_plain rfl (op_app _ _ _ _ _ el22 rfl rfl (map_len _) (map_len _) hv59 ((List.map_append).symm.trans (congrArg (List.map _) (app_eq hv59)))),
      st_plain rfl (op_call _ _ 37 _ _ rfl Tryd.call37 rfl (ok_wherryref08_Sum v59 _ hv60) rfl rfl),
      st_plain rfl (op_storeA_arr _ _ _ _ (sz37.trans (congrArg some (ln_len hv62))) rfl rfl (ln_ones (fun _ => rfl) _) ((ln_len (f := Value.int .u8) hv61).symm.trans (ln_len (f := Value.int .u8) hv62))),
      trivial⟩ ?_
     refine pt_then ?_
     refine ht_ret ?_
     obtain ⟨v63, hv63, h⟩ := bind_some h
     obtain rfl := Option.some.inj h
     exact pt_ret hio rfl (.cellR _ _ _ _ Tryd.underlying37 rfl (sz37.trans (congrArg some (ln_len hv63))) .nil) rfl rfl
    ·rintro u47 hl48 hr49 ⟨s41, s42, s43⟩ rr52 h ho50
     refine ht_seq ?_
     refine ht_seq ?_
     refine ht_seqR hn (El := [_, _, _, _, _, _, (26, .v (.int .i64 s43)), (27, .v (.bool ((decide (s43 < 64)))))]) (init := [0, 1, 2, 3, 4, 5]) (fin := [0, 1, 2, 3, 4, 5, 7]) (sps := [⟨[5], [], [6], [(.slot 26)]⟩, ⟨[6], [], [7], [(.slot 27)]⟩]) (es' := [(_, _), (_, _), (_, _), (_, _), (_, _), (_, _), (27, .v (.bool ((decide (s43 < 64)))))]) (by kernel_rfl) rfl rfl
      ⟨st_plain rfl (op_move _ _ _ _ rfl rfl),
      st_plain rfl (op_bin _ _ _ _ _ rfl rfl rfl),
      trivial⟩ ?_
     refine pt_then ?_
     refine ht_cond _ rfl (fun hb53 => ?_) (fun hb53 => ?_)
     ·have h := cond_t hb53 h
      refine ht_skip ?_
      refine pt_then ?_
      refine ht_seq ?_
      refine ht_block ?_
      obtain ⟨v28, hv28, h⟩ := bind_some h
      obtain ⟨v29, hv29, h⟩ := bind_some h
      obtain ⟨v30, hv30, h⟩ := bind_some h
      obtain ⟨v31, hv31, h⟩ := bind_some h
      obtain ⟨v32, hv32, h⟩ := bind_some h
      obtain ⟨v33, hv33, h⟩ := bind_some h
      obtain ⟨v34, hv34, h⟩ := bind_some h
      obtain ⟨v35, hv35, h⟩ := bind_some h
      refine ht_anyR (by kernel_rfl) hn (El := (_ :: _ :: _ :: _ :: _ :: _ :: _ :: (30, .fl (.own 5) 1 (List.map (Value.int .u8) s41)) :: (31, .same (.slot 5)) :: (32, .v (.int .i64 s43)) :: (33, .eref (.slot 5) (v28 * 1)) :: (34, .v (.int .u8 v29)) :: (35, .v (.int .u8 v30)) :: (36, .fl (.own 5) 1 (List.map (Value.int .u8) [v30])) :: (37, .fl (.own 5) 1 (List.map (Value.int .u8) v31)) :: (30, .any) :: (38, .fl (.own 5) 1 (List.map (Value.int .u8) s42)) :: (39, .same (.slot 5)) :: (40, .v (.int .i64 s43)) :: (41, .eref (.slot 5) (v32 * 1)) :: (42, .v (.int .u8 v33)) :: (43, .v (.int .u8 v34)) :: (44, .fl (.own 5) 1 (List.map (Value.int .u8) [v34])) :: (45, .fl (.own 5) 1 (List.map (Value.int .u8) v35)) :: (38, .any) :: (7, .fl (.own 5) 1 (List.map (Value.int .u8) v31)) :: (8, .fl (.own 5) 1 (List.map (Value.int .u8) v35)) :: [])) (init := [0, 1, 2, 3, 4, 5, 6]) (fin := [0, 1, 2, 5, 25, 26]) (sps := (⟨[], [3], [7], [(.slot 30)]⟩ :: ⟨[2], [], [8], [(.slot 31)]⟩ :: ⟨[5], [], [9], [(.slot 32)]⟩ :: ⟨[8, 2, 9], [], [10], [(.slot 33)]⟩ :: ⟨[10, 2], [], [11], [(.slot 34)]⟩ :: ⟨[11], [], [12], [(.slot 35)]⟩ :: ⟨[12], [], [13], [(.slot 36)]⟩ :: ⟨[13], [7], [15, 14], [(.slot 37)]⟩ :: ⟨[], [4], [16], [(.slot 38)]⟩ :: ⟨[2], [], [17], [(.slot 39)]⟩ :: ⟨[5], [], [18], [(.slot 40)]⟩ :: ⟨[17, 2, 18], [], [19], [(.slot 41)]⟩ :: ⟨[19, 2], [], [20], [(.slot 42)]⟩ :: ⟨[20], [], [21], [(.slot 43)]⟩ :: ⟨[21], [], [22], [(.slot 44)]⟩ :: ⟨[22], [16], [24, 23], [(.slot 45)]⟩ :: ⟨[], [14], [25], [(.slot 7)]⟩ :: ⟨[], [23], [26], [(.slot 8)]⟩ :: [])) (es' := [(_, _), (_, _), (_, _), (_, _), (7, .fl (.own 5) 1 (List.map (Value.int .u8) v31)), (8, .fl (.own 5) 1 (List.map (Value.int .u8) v35))]) (by kernel_rfl) rfl rfl
       ⟨st_plain rfl (op_move_take _ _ _ _ rfl),
       st_plain rfl (op_move _ _ _ _ rfl rfl),
       st_plain rfl (op_move _ _ _ _ rfl rfl),
       st_plain rfl (op_ix _ _ _ _ _ _ _ _ Tryd.underlying22 sz5 (by decide) rfl rfl rfl (ix_ok hv28).1 (map_lt (ix_ok hv28).2) rfl),
       st_plain rfl (op_load_e _ _ _ _ _ _ Tryd.underlying5 rfl rfl rfl (map_get hv29)),
       st_plain rfl (op_bin _ _ _ _ _ rfl rfl (ibind (f := Value.int .u8) (Option.some.inj hv30))),
       st_plain rfl (op_buildSlice _ _ 1 (.int .u8 0) (List.map (Value.int .u8) [v30]) [(0, .int .u8 v30)] Tryd.underlying22 sz5 zr5 (fun _ V w o a hv hes => by have e0 := rd_v hv hes (x := .tmp 35) rfl; simp only [List.map_toArray, List.map_cons, List.map_nil, e0]; try rfl) (litfill (by simp [Instr.fill, Value.cells]; rfl) (by simp [List.range, List.range.loop] <;> rfl)) (by simp [Value.oneCell']) rfl (by decide) (by decide) (by decide)),
       st_plain rfl (op_app _ _ _ _ _ el22 rfl rfl (map_len _) (map_len _) hv31 ((List.map_append).symm.trans (congrArg (List.map _) (app_eq hv31)))),
       st_plain rfl (op_move_take _ _ _ _ rfl),
       st_plain rfl (op_move _ _ _ _ rfl rfl),
       st_plain rfl (op_move _ _ _ _ rfl rfl),
       st_plain rfl (op_ix _ _ _ _ _ _ _ _ Tryd.underlying22 sz5 (by decide) rfl rfl rfl (ix_ok hv32).1 (map_lt (ix_ok hv32).2) rfl),
       st_plain rfl (op_load_e _ _ _ _ _ _ Tryd.underlying5 rfl rfl rfl (map_get hv33)),
       st_plain rfl (op_bin _ _ _ _ _ rfl rfl (ibind (f := Value.int .u8) (Option.some.inj hv34))),
       st_plain rfl (op_buildSlice _ _ 1 (.int .u8 0) (List.map (Value.int .u8) [v34]) [(0, .int .u8 v34)] Tryd.underlying22 sz5 zr5 (fun _ V w o a hv hes => by have e0 := rd_v hv hes (x := .tmp 43) rfl; simp only [List.map_toArray, List.map_cons, List.map_nil, e0]; try rfl) (litfill (by simp [Instr.fill, Value.cells]; rfl) (by simp [List.range, List.range.loop] <;> rfl)) (by simp [Value.oneCell']) rfl (by decide) (by decide) (by decide)),
       st_plain rfl (op_app _ _ _ _ _ el22 rfl rfl (map_len _) (map_len _) hv35 ((List.map_append).symm.trans (congrArg (List.map _) (app_eq hv35)))),
       st_plain rfl (op_assign_take _ _ _ _ rfl),
       st_plain rfl (op_assign_take _ _ _ _ rfl),
       trivial⟩ ?_
      refine pt_inb ?_
      refine pt_then ?_
      obtain ⟨v36, hv36, h⟩ := bind_some h
      refine ht_seqR hn (El := [_, _, _, _, _, _, (28, .v (.int .i64 s43)), (29, .v (.int .i64 v36)), (9, .v (.int .i64 v36))]) (init := [0, 1, 2, 3, 4, 5]) (fin := [0, 1, 2, 4, 5, 8]) (sps := [⟨[3], [], [6], [(.slot 28)]⟩, ⟨[6], [], [7], [(.slot 29)]⟩, ⟨[7], [3], [8], [(.slot 9)]⟩]) (es' := [(_, _), (_, _), (_, _), (_, _), (_, _), (9, .v (.int .i64 v36))]) (by kernel_rfl) rfl rfl
       ⟨st_plain rfl (op_move _ _ _ _ rfl rfl),
       st_plain rfl (op_bin _ _ _ _ _ rfl rfl (ibind (f := Value.int .i64) (Option.some.inj hv36))),
       st_plain rfl (LOp.drop [_] (op_assign _ _ _ _ rfl rfl)),
       trivial⟩ ?_
      exact pt_next _ (Option.some.inj h).symm rfl
     ·have h := cond_f hb53 h
      refine ht_exit ?_
      refine pt_x_then ?_
      refine pt_x_then ?_
      refine pt_x_in ?_
      refine pt_pick [0, 1, 3, 4] (by kernel_rfl) (es' := [(_, _), (_, _), (_, _), (_, _)]) rfl ?_
      exact hl48 _ (ho50 _ (Option.some.inj h).symm).symm
   ·rintro u20 hl21 hr22 s17 rr25 h ho23
    refine ht_seq ?_
    refine ht_seq ?_
    refine ht_seqR hn (El := [_, _, _, (20, .same (.slot 5)), (21, .v (.int .i64 (s17.length : Int))), (22, .v (.bool ((decide ((s17.length : Int) < 64)))))]) (init := [0, 1, 2]) (fin := [0, 1, 2, 5]) (sps := [⟨[2], [], [3], [(.slot 20)]⟩, ⟨[3, 2], [], [4], [(.slot 21)]⟩, ⟨[4], [], [5], [(.slot 22)]⟩]) (es' := [(_, _), (_, _), (_, _), (22, .v (.bool ((decide ((s17.length : Int) < 64)))))]) (by kernel_rfl) rfl rfl
     ⟨st_plain rfl (op_move _ _ _ _ rfl rfl),
     st_plain rfl (op_len_fl _ _ _ Tryd.underlying22 rfl (by decide) (map_len _)),
     st_plain rfl (op_bin _ _ _ _ _ rfl rfl rfl),
     trivial⟩ ?_
    refine pt_then ?_
    refine ht_cond _ rfl (fun hb26 => ?_) (fun hb26 => ?_)
    ·have h := cond_t hb26 h
     refine ht_skip ?_
     refine pt_then ?_
     refine ht_block ?_
     obtain ⟨v14, hv14, h⟩ := bind_some h
     refine ht_seqR hn (El := [_, _, _, _, (23, .fl (.own 5) 1 (List.map (Value.int .u8) s17)), (24, .fl (.own 5) 1 (List.map (Value.int .u8) [0])), (25, .fl (.own 5) 1 (List.map (Value.int .u8) v14)), (23, .any), (5, .fl (.own 5) 1 (List.map (Value.int .u8) v14))]) (init := [0, 1, 2, 3]) (fin := [0, 1, 8]) (sps := [⟨[], [2], [4], [(.slot 23)]⟩, ⟨[], [], [5], [(.slot 24)]⟩, ⟨[5], [4], [7, 6], [(.slot 25)]⟩, ⟨[], [6], [8], [(.slot 5)]⟩]) (es' := [(_, _), (_, _), (5, .fl (.own 5) 1 (List.map (Value.int .u8) v14))]) (by kernel_rfl) rfl rfl
      ⟨st_plain rfl (op_move_take _ _ _ _ rfl),
      st_plain rfl (op_buildSlice _ _ 1 (.int .u8 0) (List.map (Value.int .u8) [0]) [(0, .int .u8 0)] Tryd.underlying22 sz5 zr5 (fun _ V w o a hv hes => by simp only [List.map_toArray, List.map_cons, List.map_nil]; try rfl) (litfill (by simp [Instr.fill, Value.cells]; rfl) (by simp [List.range, List.range.loop] <;> rfl)) (by simp [Value.oneCell']) rfl (by decide) (by decide) (by decide)),
      st_plain rfl (op_app _ _ _ _ _ el22 rfl rfl (map_len _) (map_len _) hv14 ((List.map_append).symm.trans (congrArg (List.map _) (app_eq hv14)))),
      st_plain rfl (op_assign_take _ _ _ _ rfl),
      trivial⟩ ?_
     refine pt_inb ?_
     exact pt_next _ (Option.some.inj h).symm rfl
    ·have h := cond_f hb26 h
     refine ht_exit ?_
     refine pt_x_then ?_
     refine pt_x_then ?_
     refine pt_x_in ?_
     refine pt_pick [0, 1, 2] (by kernel_rfl) (es' := [(_, _), (_, _), (_, _)]) rfl ?_
     exact hl21 _ (ho23 _ (Option.some.inj h).symm).symm
  ·intro u9 h hl10 hr11
   refine ht_seq ?_
   refine ht_seqR hn (El := [_, _, _, (13, .same (.slot 5)), (14, .v (.int .i64 (v1.length : Int))), (15, .v (.bool ((decide (64 < (v1.length : Int))))))]) (init := [0, 1, 2]) (fin := [0, 1, 2, 5]) (sps := [⟨[2], [], [3], [(.slot 13)]⟩, ⟨[3, 2], [], [4], [(.slot 14)]⟩, ⟨[4], [], [5], [(.slot 15)]⟩]) (es' := [(_, _), (_, _), (_, _), (15, .v (.bool ((decide (64 < (v1.length : Int))))))]) (by kernel_rfl) rfl rfl
    ⟨st_plain rfl (op_move _ _ _ _ rfl rfl),
    st_plain rfl (op_len_fl _ _ _ Tryd.underlying22 rfl (by decide) (map_len _)),
    st_plain rfl (op_bin _ _ _ _ _ rfl rfl rfl),
    trivial⟩ ?_
   refine pt_then ?_
   refine ht_cond _ rfl (fun hb12 => ?_) (fun hb12 => ?_)
   ·have h := cond_t hb12 h
    refine ht_seq ?_
    obtain ⟨v3, hv3, h⟩ := bind_some h
    obtain ⟨v4, hv4, h⟩ := bind_some h
    obtain ⟨v5, hv5, h⟩ := bind_some h
    refine ht_seqR hn (El := [_, _, _, _, (16, .fl (.own 5) 1 (List.map (Value.int .u8) v1)), (17, .v (.agg (List.map (Value.int .u8) v3).toArray)), (6, .arr 37 (List.map (Value.int .u8) ((List.replicate 16 (0 : Int))))), (6, .arr 37 (List.map (Value.int .u8) v3))]) (init := [0, 1, 2, 3]) (fin := [0, 1, 7]) (sps := [⟨[], [2], [4], [(.slot 16)]⟩, ⟨[4], [], [5], [(.slot 17)]⟩, ⟨[], [], [6], [(.slot 6)]⟩, ⟨[5], [6], [7], []⟩]) (es' := [(_, _), (_, _), (6, .arr 37 (List.map (Value.int .u8) v3))]) (by kernel_rfl) rfl rfl
     ⟨st_plain rfl (op_move_take _ _ _ _ rfl),
     st_plain rfl (op_call _ _ 37 _ _ rfl Tryd.call37 rfl (ok_wherryref08_Sum v1 _ hv3) rfl rfl),
     st_plain rfl (op_alloc_arr _ za37),
     st_plain rfl (op_storeA_arr _ _ _ _ (sz37.trans (congrArg some (ln_len hv5))) rfl rfl (ln_ones (fun _ => rfl) _) ((ln_len (f := Value.int .u8) hv4).symm.trans (ln_len (f := Value.int .u8) hv5))),
     trivial⟩ ?_
    refine pt_then ?_
    obtain ⟨v6, hv6, h⟩ := bind_some h
    obtain ⟨v7, hv7, h⟩ := bind_some h
    refine ht_seqR hn (El := [_, _, _, (18, .fl .ro 1 (List.map (Value.int .u8) v3)), (6, .any), (19, .fl (.own 5) 1 (List.map (Value.int .u8) v7)), (5, .fl (.own 5) 1 (List.map (Value.int .u8) v7))]) (init := [0, 1, 2]) (fin := [0, 1, 6]) (sps := [⟨[], [2], [4, 3], [(.slot 18)]⟩, ⟨[3], [], [5], [(.slot 19)]⟩, ⟨[], [5], [6], [(.slot 5)]⟩]) (es' := [(_, _), (_, _), (5, .fl (.own 5) 1 (List.map (Value.int .u8) v7))]) (by kernel_rfl) rfl rfl
     ⟨st_plain rfl (op_slice_frz _ _ 6 16 _ Tryd.underlying37 sz5 rfl (ln_len hv6).symm (ln_ones (fun _ => rfl) _)),
     st_plain rfl (op_call _ _ 8 _ _ rfl Tryd.call8 rfl (ok_wherrykeep_Twin v3 _ hv7) rfl rfl),
     st_plain rfl (op_assign_take _ _ _ _ rfl),
     trivial⟩ ?_
    exact hl10 _ (Option.some.inj h).symm
   ·have h := cond_f hb12 h
    refine ht_skip ?_
    refine pt_pick [0, 1, 2] (by kernel_rfl) (es' := [(_, _), (_, _), (_, _)]) rfl ?_
    exact hl10 _ (Option.some.inj h).symm

set_option maxHeartbeats 1000000 in
theorem ok_wherryref08_Hex (b : (List Int)) (r : ByteArray) (h : Sh.wherryref08_Hex b = some r) : FnOK Tryd.prog 15 [.fl .shr 1 (List.map (Value.int .u8) b)] (.v (.string r)) := by
  unfold Sh.wherryref08_Hex at h
  refine fn_ok Tryd.func15 rfl (Nat.le_of_ble_eq_true rfl) rfl rfl fun g0 hn hio => ?_
  refine ht_seq ?_
  refine ht_seqR hn (El := [_, (2, .v (.string (⟨#[]⟩ : ByteArray)))]) (init := [0]) (fin := [0]) (sps := [⟨[], [], [1], [(.slot 2)]⟩]) (es' := [(_, _)]) (by kernel_rfl) rfl rfl
   ⟨st_plain rfl (op_assign _ _ _ _ rfl rfl),
   trivial⟩ ?_
  refine pt_then ?_
  refine ht_seq ?_
  refine ht_seqR hn (El := [_, (3, .v (.string (⟨#[48, 49, 50, 51, 52, 53, 54, 55, 56, 57, 97, 98, 99, 100, 101, 102]⟩ : ByteArray)))]) (init := [0]) (fin := [0, 1]) (sps := [⟨[], [], [1], [(.slot 3)]⟩]) (es' := [(_, _), (3, .v (.string (⟨#[48, 49, 50, 51, 52, 53, 54, 55, 56, 57, 97, 98, 99, 100, 101, 102]⟩ : ByteArray)))]) (by kernel_rfl) rfl rfl
   ⟨st_plain rfl (op_assign _ _ _ _ rfl rfl),
   trivial⟩ ?_
  refine pt_then ?_
  refine ht_seq ?_
  refine ht_seqR hn (El := [_, _, (4, .v (.string (⟨#[]⟩ : ByteArray)))]) (init := [0, 1]) (fin := [0, 1, 2]) (sps := [⟨[], [], [2], [(.slot 4)]⟩]) (es' := [(_, _), (_, _), (4, .v (.string (⟨#[]⟩ : ByteArray)))]) (by kernel_rfl) rfl rfl
   ⟨st_plain rfl (op_assign _ _ _ _ rfl rfl),
   trivial⟩ ?_
  refine pt_then ?_
  refine ht_seq ?_
  refine ht_seq ?_
  refine ht_seqR hn (El := [_, _, _, (5, .v (.int .i64 0))]) (init := [0, 1, 2]) (fin := [0, 1, 2, 3]) (sps := [⟨[], [], [3], [(.slot 5)]⟩]) (es' := [(_, _), (_, _), (_, _), (5, .v (.int .i64 0))]) (by kernel_rfl) rfl rfl
   ⟨st_plain rfl (op_assign _ _ _ _ rfl rfl),
   trivial⟩ ?_
  refine pt_then ?_
  refine ht_loopS h (fun ((s24, s25) : ByteArray × Int) => [(0, .fl .shr 1 (List.map (Value.int .u8) b)), (3, .v (.string (⟨#[48, 49, 50, 51, 52, 53, 54, 55, 56, 57, 97, 98, 99, 100, 101, 102]⟩ : ByteArray))), (4, .v (.string s24)), (5, .v (.int .i64 s25))]) (fun (s27 : ByteArray) => [(4, .v (.string s27))]) ?_ ?_
  ·rintro s27 h
   refine pt_then ?_
   refine ht_seq ?_
   refine ht_seqR hn (El := [_, (41, .v (.string s27)), (2, .v (.string s27))]) (init := [0]) (fin := [2]) (sps := [⟨[0], [], [1], [(.slot 41)]⟩, ⟨[1], [], [2], [(.slot 2)]⟩]) (es' := [(2, .v (.string s27))]) (by kernel_rfl) rfl rfl
    ⟨st_plain rfl (op_move _ _ _ _ rfl rfl),
    st_plain rfl (op_assign _ _ _ _ rfl rfl),
    trivial⟩ ?_
   refine pt_then ?_
   refine ht_ret ?_
   obtain rfl := Option.some.inj h
   exact pt_ret hio rfl (.tmp _ _ .nil) rfl rfl
  ·rintro u28 hl29 hr30 ⟨s24, s25⟩ rr33 h ho31
   refine ht_seq ?_
   refine ht_seq ?_
   refine ht_seqR hn (El := [_, _, _, _, (6, .v (.int .i64 s25)), (7, .fl .shr 1 (List.map (Value.int .u8) b)), (8, .v (.int .i64 (b.length : Int))), (9, .v (.bool ((decide (s25 < (b.length : Int))))))]) (init := [0, 1, 2, 3]) (fin := [0, 1, 2, 3, 7]) (sps := [⟨[3], [], [4], [(.slot 6)]⟩, ⟨[0], [], [5], [(.slot 7)]⟩, ⟨[5], [], [6], [(.slot 8)]⟩, ⟨[4, 6], [], [7], [(.slot 9)]⟩]) (es' := [(_, _), (_, _), (_, _), (_, _), (9, .v (.bool ((decide (s25 < (b.length : Int))))))]) (by kernel_rfl) rfl rfl
    ⟨st_plain rfl (op_move _ _ _ _ rfl rfl),
    st_plain rfl (op_move _ _ _ _ rfl rfl),
    st_plain rfl (op_len_fl _ _ _ Tryd.underlying22 rfl (by decide) (map_len _)),
    st_plain rfl (op_bin _ _ _ _ _ rfl rfl rfl),
    trivial⟩ ?_
   refine pt_then ?_
   refine ht_cond _ rfl (fun hb34 => ?_) (fun hb34 => ?_)
   ·have h := cond_t hb34 h
    refine ht_skip ?_
    refine pt_then ?_
    refine ht_seq ?_
    refine ht_block ?_
    obtain ⟨v2, hv2, h⟩ := bind_some h
    obtain ⟨v3, hv3, h⟩ := bind_some h
    obtain ⟨v4, hv4, h⟩ := bind_some h
    obtain ⟨v5, hv5, h⟩ := bind_some h
    obtain ⟨v6, hv6, h⟩ := bind_some h
    obtain ⟨v7, hv7, h⟩ := bind_some h
    obtain ⟨v8, hv8, h⟩ := bind_some h
    obtain ⟨v9, hv9, h⟩ := bind_some h
    obtain ⟨v10, hv10, h⟩ := bind_some h
    obtain ⟨v11, hv11, h⟩ := bind_some h
    obtain ⟨v12, hv12, h⟩ := bind_some h
    obtain ⟨v13, hv13, h⟩ := bind_some h
    obtain ⟨v14, hv14, h⟩ := bind_some h
    obtain ⟨v15, hv15, h⟩ := bind_some h
    obtain ⟨v16, hv16, h⟩ := bind_some h
    obtain ⟨v17, hv17, h⟩ := bind_some h
    obtain ⟨v18, hv18, h⟩ := bind_some h
    obtain ⟨v19, hv19, h⟩ := bind_some h
    refine ht_anyR (by kernel_rfl) hn (El := (_ :: _ :: _ :: _ :: _ :: (12, .v (.string s24)) :: (13, .v (.string (⟨#[48, 49, 50, 51, 52, 53, 54, 55, 56, 57, 97, 98, 99, 100, 101, 102]⟩ : ByteArray))) :: (14, .fl .shr 1 (List.map (Value.int .u8) b)) :: (15, .v (.int .i64 s25)) :: (16, .eref (.slot 14) (v2 * 1)) :: (17, .v (.int .u8 v3)) :: (18, .v (.int .u8 v4)) :: (19, .fl .shr 1 (List.map (Value.int .u8) b)) :: (20, .v (.int .i64 s25)) :: (21, .eref (.slot 19) (v5 * 1)) :: (22, .v (.int .u8 v6)) :: (23, .v (.int .u8 v7)) :: (24, .v (.int .u8 v8)) :: (25, .v (.string v9)) :: (26, .v (.string v10)) :: (27, .v (.string (⟨#[48, 49, 50, 51, 52, 53, 54, 55, 56, 57, 97, 98, 99, 100, 101, 102]⟩ : ByteArray))) :: (28, .fl .shr 1 (List.map (Value.int .u8) b)) :: (29, .v (.int .i64 s25)) :: (30, .eref (.slot 28) (v11 * 1)) :: (31, .v (.int .u8 v12)) :: (32, .v (.int .u8 v13)) :: (33, .fl .shr 1 (List.map (Value.int .u8) b)) :: (34, .v (.int .i64 s25)) :: (35, .eref (.slot 33) (v14 * 1)) :: (36, .v (.int .u8 v15)) :: (37, .v (.int .u8 v16)) :: (38, .v (.int .u8 v17)) :: (39, .v (.string v18)) :: (40, .v (.string v19)) :: (4, .v (.string v19)) :: [])) (init := [0, 1, 2, 3, 4]) (fin := [0, 1, 3, 34]) (sps := (⟨[2], [], [5], [(.slot 12)]⟩ :: ⟨[1], [], [6], [(.slot 13)]⟩ :: ⟨[0], [], [7], [(.slot 14)]⟩ :: ⟨[3], [], [8], [(.slot 15)]⟩ :: ⟨[7, 8], [], [9], [(.slot 16)]⟩ :: ⟨[9, 7], [], [10], [(.slot 17)]⟩ :: ⟨[10], [], [11], [(.slot 18)]⟩ :: ⟨[0], [], [12], [(.slot 19)]⟩ :: ⟨[3], [], [13], [(.slot 20)]⟩ :: ⟨[12, 13], [], [14], [(.slot 21)]⟩ :: ⟨[14, 12], [], [15], [(.slot 22)]⟩ :: ⟨[15], [], [16], [(.slot 23)]⟩ :: ⟨[16], [], [17], [(.slot 24)]⟩ :: ⟨[6, 11, 17], [], [18], [(.slot 25)]⟩ :: ⟨[5, 18], [], [19], [(.slot 26)]⟩ :: ⟨[1], [], [20], [(.slot 27)]⟩ :: ⟨[0], [], [21], [(.slot 28)]⟩ :: ⟨[3], [], [22], [(.slot 29)]⟩ :: ⟨[21, 22], [], [23], [(.slot 30)]⟩ :: ⟨[23, 21], [], [24], [(.slot 31)]⟩ :: ⟨[24], [], [25], [(.slot 32)]⟩ :: ⟨[0], [], [26], [(.slot 33)]⟩ :: ⟨[3], [], [27], [(.slot 34)]⟩ :: ⟨[26, 27], [], [28], [(.slot 35)]⟩ :: ⟨[28, 26], [], [29], [(.slot 36)]⟩ :: ⟨[29], [], [30], [(.slot 37)]⟩ :: ⟨[30], [], [31], [(.slot 38)]⟩ :: ⟨[20, 25, 31], [], [32], [(.slot 39)]⟩ :: ⟨[19, 32], [], [33], [(.slot 40)]⟩ :: ⟨[33], [2], [34], [(.slot 4)]⟩ :: [])) (es' := [(_, _), (_, _), (_, _), (4, .v (.string v19))]) (by kernel_rfl) rfl rfl
     ⟨st_plain rfl (op_move _ _ _ _ rfl rfl),
     st_plain rfl (op_move _ _ _ _ rfl rfl),
     st_plain rfl (op_move _ _ _ _ rfl rfl),
     st_plain rfl (op_move _ _ _ _ rfl rfl),
     st_plain rfl (op_ix _ _ _ _ _ _ _ _ Tryd.underlying22 sz5 (by decide) rfl rfl rfl (ix_ok hv2).1 (map_lt (ix_ok hv2).2) rfl),
     st_plain rfl (op_load_e _ _ _ _ _ _ Tryd.underlying5 rfl rfl rfl (map_get hv3)),
     st_plain rfl (op_bin _ _ _ _ _ rfl rfl (shr_ok hv4)),
     st_plain rfl (op_move _ _ _ _ rfl rfl),
     st_plain rfl (op_move _ _ _ _ rfl rfl),
     st_plain rfl (op_ix _ _ _ _ _ _ _ _ Tryd.underlying22 sz5 (by decide) rfl rfl rfl (ix_ok hv5).1 (map_lt (ix_ok hv5).2) rfl),
     st_plain rfl (op_load_e _ _ _ _ _ _ Tryd.underlying5 rfl rfl rfl (map_get hv6)),
     st_plain rfl (op_bin _ _ _ _ _ rfl rfl (shr_ok hv7)),
     st_plain rfl (op_bin _ _ _ _ _ rfl rfl (ibind (f := Value.int .u8) (Option.some.inj hv8))),
     st_plain rfl (op_substr _ _ _ v4 v8 _ Tryd.underlying9 rfl ⟨_, rfl⟩ ⟨_, rfl⟩ hv9),
     st_plain rfl (op_bin _ _ _ _ _ rfl rfl (cat_ok hv10)),
     st_plain rfl (op_move _ _ _ _ rfl rfl),
     st_plain rfl (op_move _ _ _ _ rfl rfl),
     st_plain rfl (op_move _ _ _ _ rfl rfl),
     st_plain rfl (op_ix _ _ _ _ _ _ _ _ Tryd.underlying22 sz5 (by decide) rfl rfl rfl (ix_ok hv11).1 (map_lt (ix_ok hv11).2) rfl),
     st_plain rfl (op_load_e _ _ _ _ _ _ Tryd.underlying5 rfl rfl rfl (map_get hv12)),
     st_plain rfl (op_bin _ _ _ _ _ rfl rfl (ibind (f := Value.int .u8) (Option.some.inj hv13))),
     st_plain rfl (op_move _ _ _ _ rfl rfl),
     st_plain rfl (op_move _ _ _ _ rfl rfl),
     st_plain rfl (op_ix _ _ _ _ _ _ _ _ Tryd.underlying22 sz5 (by decide) rfl rfl rfl (ix_ok hv14).1 (map_lt (ix_ok hv14).2) rfl),
     st_plain rfl (op_load_e _ _ _ _ _ _ Tryd.underlying5 rfl rfl rfl (map_get hv15)),
     st_plain rfl (op_bin _ _ _ _ _ rfl rfl (ibind (f := Value.int .u8) (Option.some.inj hv16))),
     st_plain rfl (op_bin _ _ _ _ _ rfl rfl (ibind (f := Value.int .u8) (Option.some.inj hv17))),
     st_plain rfl (op_substr _ _ _ v13 v17 _ Tryd.underlying9 rfl ⟨_, rfl⟩ ⟨_, rfl⟩ hv18),
     st_plain rfl (op_bin _ _ _ _ _ rfl rfl (cat_ok hv19)),
     st_plain rfl (LOp.drop [_] (op_assign _ _ _ _ rfl rfl)),
     trivial⟩ ?_
    refine pt_inb ?_
    refine pt_then ?_
    obtain ⟨v20, hv20, h⟩ := bind_some h
    refine ht_seqR hn (El := [_, _, _, _, (10, .v (.int .i64 s25)), (11, .v (.int .i64 v20)), (5, .v (.int .i64 v20))]) (init := [0, 1, 2, 3]) (fin := [0, 1, 3, 6]) (sps := [⟨[2], [], [4], [(.slot 10)]⟩, ⟨[4], [], [5], [(.slot 11)]⟩, ⟨[5], [2], [6], [(.slot 5)]⟩]) (es' := [(_, _), (_, _), (_, _), (5, .v (.int .i64 v20))]) (by kernel_rfl) rfl rfl
     ⟨st_plain rfl (op_move _ _ _ _ rfl rfl),
     st_plain rfl (op_bin _ _ _ _ _ rfl rfl (ibind (f := Value.int .i64) (Option.some.inj hv20))),
     st_plain rfl (LOp.drop [_] (op_assign _ _ _ _ rfl rfl)),
     trivial⟩ ?_
    exact pt_next _ (Option.some.inj h).symm rfl
   ·have h := cond_f hb34 h
    refine ht_exit ?_
    refine pt_x_then ?_
    refine pt_x_then ?_
    refine pt_x_in ?_
    refine pt_pick [2] (by kernel_rfl) (es' := [(_, _)]) rfl ?_
    exact hl29 _ (ho31 _ (Option.some.inj h).symm).symm

set_option maxHeartbeats 1000000 in
theorem ok_wherryref08_Answer (user : ByteArray) (secret : ByteArray) (challenge : ByteArray) (r : ByteArray) (h : Sh.wherryref08_Answer user secret challenge = some r) : FnOK Tryd.prog 11 [.v (.string user), .v (.string secret), .v (.string challenge)] (.v (.string r)) := by
  unfold Sh.wherryref08_Answer at h
  refine fn_ok Tryd.func11 rfl (Nat.le_of_ble_eq_true rfl) rfl rfl fun g0 hn hio => ?_
  refine ht_seq ?_
  refine ht_seqR hn (El := [_, _, _, (6, .v (.string (⟨#[]⟩ : ByteArray)))]) (init := [0, 1, 2]) (fin := [0, 1, 2]) (sps := [⟨[], [], [3], [(.slot 6)]⟩]) (es' := [(_, _), (_, _), (_, _)]) (by kernel_rfl) rfl rfl
   ⟨st_plain rfl (op_assign _ _ _ _ rfl rfl),
   trivial⟩ ?_
  refine pt_then ?_
  refine ht_seq ?_
  obtain ⟨v1, hv1, h⟩ := bind_some h
  obtain ⟨v2, hv2, h⟩ := bind_some h
  obtain ⟨v3, hv3, h⟩ := bind_some h
  obtain ⟨v4, hv4, h⟩ := bind_some h
  obtain ⟨v5, hv5, h⟩ := bind_some h
  refine ht_seqR hn (El := [_, _, _, (8, .v (.string secret)), (9, .fl .ro 1 (List.map (Value.int .u8) v1)), (10, .v (.string challenge)), (11, .fl .ro 1 (List.map (Value.int .u8) v2)), (12, .v (.agg (List.map (Value.int .u8) v3).toArray)), (7, .arr 37 (List.map (Value.int .u8) ((List.replicate 16 (0 : Int))))), (7, .arr 37 (List.map (Value.int .u8) v3))]) (init := [0, 1, 2]) (fin := [0, 9]) (sps := [⟨[1], [], [3], [(.slot 8)]⟩, ⟨[3], [], [4], [(.slot 9)]⟩, ⟨[2], [], [5], [(.slot 10)]⟩, ⟨[5], [], [6], [(.slot 11)]⟩, ⟨[4, 6], [], [7], [(.slot 12)]⟩, ⟨[], [], [8], [(.slot 7)]⟩, ⟨[7], [8], [9], []⟩]) (es' := [(_, _), (7, .arr 37 (List.map (Value.int .u8) v3))]) (by kernel_rfl) rfl rfl
   ⟨st_plain rfl (op_move _ _ _ _ rfl rfl),
   st_plain rfl ((Option.some.inj hv1) ▸ op_str_bytes _ _ _ secret Tryd.underlying9 Tryd.underlying22 Tryd.underlying5 rfl),
   st_plain rfl (op_move _ _ _ _ rfl rfl),
   st_plain rfl ((Option.some.inj hv2) ▸ op_str_bytes _ _ _ challenge Tryd.underlying9 Tryd.underlying22 Tryd.underlying5 rfl),
   st_plain rfl (op_call _ _ 25 _ _ rfl Tryd.call25 rfl (ok_wherryref08_Keyed v1 v2 _ hv3) rfl rfl),
   st_plain rfl (op_alloc_arr _ za37),
   st_plain rfl (op_storeA_arr _ _ _ _ (sz37.trans (congrArg some (ln_len hv5))) rfl rfl (ln_ones (fun _ => rfl) _) ((ln_len (f := Value.int .u8) hv4).symm.trans (ln_len (f := Value.int .u8) hv5))),
   trivial⟩ ?_
  refine pt_then ?_
  refine ht_seq ?_
  obtain ⟨v6, hv6, h⟩ := bind_some h
  obtain ⟨v7, hv7, h⟩ := bind_some h
  obtain ⟨v8, hv8, h⟩ := bind_some h
  obtain ⟨v9, hv9, h⟩ := bind_some h
  obtain ⟨v10, hv10, h⟩ := bind_some h
  obtain ⟨v11, hv11, h⟩ := bind_some h
  refine ht_seqR hn (El := [_, _, (13, .v (.string user)), (14, .v (.string v6)), (15, .fl .ro 1 (List.map (Value.int .u8) v3)), (7, .any), (16, .v (.string v8)), (17, .v (.string v9)), (18, .fl .ro 1 (List.map (Value.int .u8) v10)), (19, .v (.string v11)), (6, .v (.string v11))]) (init := [0, 1]) (fin := [10]) (sps := [⟨[0], [], [2], [(.slot 13)]⟩, ⟨[2], [], [3], [(.slot 14)]⟩, ⟨[], [1], [5, 4], [(.slot 15)]⟩, ⟨[4], [], [6], [(.slot 16)]⟩, ⟨[3, 6], [], [7], [(.slot 17)]⟩, ⟨[7], [], [8], [(.slot 18)]⟩, ⟨[8], [], [9], [(.slot 19)]⟩, ⟨[9], [], [10], [(.slot 6)]⟩]) (es' := [(6, .v (.string v11))]) (by kernel_rfl) rfl rfl
   ⟨st_plain rfl (op_move _ _ _ _ rfl rfl),
   st_plain rfl (op_bin _ _ _ _ _ rfl rfl (cat_ok hv6)),
   st_plain rfl (op_slice_frz _ _ 7 16 _ Tryd.underlying37 sz5 rfl (ln_len hv7).symm (ln_ones (fun _ => rfl) _)),
   st_plain rfl (op_call _ _ 15 _ _ rfl Tryd.call15 rfl (ok_wherryref08_Hex v3 _ hv8) rfl rfl),
   st_plain rfl (op_bin _ _ _ _ _ rfl rfl (cat_ok hv9)),
   st_plain rfl ((Option.some.inj hv10) ▸ op_str_bytes _ _ _ v9 Tryd.underlying9 Tryd.underlying22 Tryd.underlying5 rfl),
   st_plain rfl (op_call _ _ 13 _ _ rfl Tryd.call13 rfl (ok_wherryref08_Encode v10 _ hv11) rfl rfl),
   st_plain rfl (op_assign _ _ _ _ rfl rfl),
   trivial⟩ ?_
  refine pt_then ?_
  refine ht_ret ?_
  obtain rfl := Option.some.inj h
  exact pt_ret hio rfl (.tmp _ _ .nil) rfl rfl

set_option maxHeartbeats 1000000 in
theorem ok_cram_Hex (b : (List Int)) (r : ByteArray) (h : Sh.cram_Hex b = some r) : FnOK Tryd.prog 14 [.fl .shr 1 (List.map (Value.int .u8) b)] (.v (.string r)) := by
  unfold Sh.cram_Hex at h
  refine fn_ok Tryd.func14 rfl (Nat.le_of_ble_eq_true rfl) rfl rfl fun g0 hn hio => ?_
  refine ht_seq ?_
  refine ht_seqR hn (El := [_, (2, .v (.string (⟨#[]⟩ : ByteArray)))]) (init := [0]) (fin := [0]) (sps := [⟨[], [], [1], [(.slot 2)]⟩]) (es' := [(_, _)]) (by kernel_rfl) rfl rfl
   ⟨st_plain rfl (op_assign _ _ _ _ rfl rfl),
   trivial⟩ ?_
  refine pt_then ?_
  refine ht_seq ?_
  refine ht_seqR hn (El := [_, (3, .hid (bldT 48 5 false (List.map (Value.int .u8) ([] : List Int))))]) (init := [0]) (fin := [0, 1]) (sps := [⟨[], [], [1], [(.slot 3)]⟩]) (es' := [(_, _), (3, .hid (bldT 48 5 false (List.map (Value.int .u8) ([] : List Int))))]) (by kernel_rfl) rfl rfl
   ⟨st_plain rfl (LOp.bld0 (op_alloc _ _ zr48)),
   trivial⟩ ?_
  refine pt_then ?_
  refine ht_seq ?_
  refine ht_seq ?_
  refine ht_seqR hn (El := [_, _, (6, .fl .shr 1 (List.map (Value.int .u8) b)), (7, .v (.int .i64 (b.length : Int))), (8, .v (.int .i64 0))]) (init := [0, 1]) (fin := [1, 2, 3, 4]) (sps := [⟨[0], [], [2], [(.slot 6)]⟩, ⟨[2], [], [3], [(.slot 7)]⟩, ⟨[], [], [4], [(.slot 8)]⟩]) (es' := [(_, _), (6, .fl .shr 1 (List.map (Value.int .u8) b)), (7, .v (.int .i64 (b.length : Int))), (8, .v (.int .i64 0))]) (by kernel_rfl) rfl rfl
   ⟨st_plain rfl (op_move _ _ _ _ rfl rfl),
   st_plain rfl (op_len_fl _ _ _ Tryd.underlying22 rfl (by decide) (map_len _)),
   st_plain rfl (op_move _ _ _ _ rfl rfl),
   trivial⟩ ?_
  refine pt_then ?_
  refine ht_loopS h (fun ((s14, s15) : (List Int) × Int) => [(3, .hid (bldT 48 5 false (List.map (Value.int .u8) s14))), (6, .fl .shr 1 (List.map (Value.int .u8) b)), (7, .v (.int .i64 (b.length : Int))), (8, .v (.int .i64 s15))]) (fun (s17 : (List Int)) => [(3, .hid (bldT 48 5 false (List.map (Value.int .u8) s17)))]) ?_ ?_
  ·rintro s17 h
   refine pt_then ?_
   refine ht_seq ?_
   obtain ⟨v25, hv25, h⟩ := bind_some h
   refine ht_seqR hn (El := [_, (21, .v (.string v25)), (2, .v (.string v25))]) (init := [0]) (fin := [2]) (sps := [⟨[], [0], [1], [(.slot 21)]⟩, ⟨[1], [], [2], [(.slot 2)]⟩]) (es' := [(2, .v (.string v25))]) (by kernel_rfl) rfl rfl
    ⟨st_plain rfl (op_callPS _ _ _ _ 21 29 [.tmp 3] [] _ _ _ rfl Tryd.call29 rfl rfl rfl (ok_strings_Builder_String s17 _ hv25) (Nat.le_of_ble_eq_true rfl) rfl rfl rfl rfl rfl rfl rfl),
    st_plain rfl (op_assign _ _ _ _ rfl rfl),
    trivial⟩ ?_
   refine pt_then ?_
   refine ht_ret ?_
   obtain rfl := Option.some.inj h
   exact pt_ret hio rfl (.tmp _ _ .nil) rfl rfl
  ·rintro u18 hl19 hr20 ⟨s14, s15⟩ rr23 h ho21
   refine ht_seq ?_
   refine ht_seqR hn (El := [_, _, _, _, (9, .v (.bool ((decide (s15 < (b.length : Int))))))]) (init := [0, 1, 2, 3]) (fin := [0, 1, 2, 3, 4]) (sps := [⟨[3, 2], [], [4], [(.slot 9)]⟩]) (es' := [(_, _), (_, _), (_, _), (_, _), (9, .v (.bool ((decide (s15 < (b.length : Int))))))]) (by kernel_rfl) rfl rfl
    ⟨st_plain rfl (op_bin _ _ _ _ _ rfl rfl rfl),
    trivial⟩ ?_
   refine pt_then ?_
   refine ht_seq ?_
   refine ht_cond _ rfl (fun hb24 => ?_) (fun hb24 => ?_)
   ·have h := cond_t hb24 h
    refine ht_skip ?_
    refine pt_then ?_
    refine ht_seq ?_
    refine ht_block ?_
    refine ht_seq ?_
    obtain ⟨v2, hv2, h⟩ := bind_some h
    obtain ⟨v3, hv3, h⟩ := bind_some h
    refine ht_seqR hn (El := [_, _, _, _, _, (10, .eref (.slot 6) (v2 * 1)), (11, .v (.int .u8 v3)), (5, .v (.int .u8 v3))]) (init := [0, 1, 2, 3, 4]) (fin := [0, 1, 2, 3, 7]) (sps := [⟨[1, 3], [], [5], [(.slot 10)]⟩, ⟨[5, 1], [], [6], [(.slot 11)]⟩, ⟨[6], [], [7], [(.slot 5)]⟩]) (es' := [(_, _), (_, _), (_, _), (_, _), (5, .v (.int .u8 v3))]) (by kernel_rfl) rfl rfl
     ⟨st_plain rfl (op_ix _ _ _ _ _ _ _ _ Tryd.underlying22 sz5 (by decide) rfl rfl rfl (ix_ok hv2).1 (map_lt (ix_ok hv2).2) rfl),
     st_plain rfl (op_load_e _ _ _ _ _ _ Tryd.underlying5 rfl rfl rfl (map_get hv3)),
     st_plain rfl (op_assign _ _ _ _ rfl rfl),
     trivial⟩ ?_
    refine pt_then ?_
    refine ht_seq ?_
    obtain ⟨v4, hv4, h⟩ := bind_some h
    obtain ⟨v5, hv5, h⟩ := bind_some h
    obtain ⟨v6, hv6, h⟩ := bind_some h
    refine ht_seqR hn (El := [_, _, _, _, _, (12, .v (.int .u8 v3)), (13, .v (.int .u8 v4)), (14, .v (.int .u8 v5)), (15, .v (.nilIface)), (3, .hid (bldT 48 5 false (List.map (Value.int .u8) v6)))]) (init := [0, 1, 2, 3, 4]) (fin := [9, 1, 2, 3, 4]) (sps := [⟨[4], [], [5], [(.slot 12)]⟩, ⟨[5], [], [6], [(.slot 13)]⟩, ⟨[6], [], [7], [(.slot 14)]⟩, ⟨[7], [0], [9, 8], [(.slot 15)]⟩]) (es' := [(3, .hid (bldT 48 5 false (List.map (Value.int .u8) v6))), (_, _), (_, _), (_, _), (_, _)]) (by kernel_rfl) rfl rfl
     ⟨st_plain rfl (op_move _ _ _ _ rfl rfl),
     st_plain rfl (op_bin _ _ _ _ _ rfl rfl (shr_ok hv4)),
     st_plain rfl (op_chr _ _ _ v4 _ Tryd.underlying9 rfl rfl hv5),
     st_plain rfl (op_callPS _ _ _ _ 15 26 [.tmp 3] [.tmp 14] _ _ _ rfl Tryd.call26 rfl rfl rfl (ok_strings_Builder_WriteByte s14 v5 _ hv6) (Nat.le_of_ble_eq_true rfl) rfl rfl rfl rfl rfl rfl rfl),
     trivial⟩ ?_
    refine pt_then ?_
    obtain ⟨v7, hv7, h⟩ := bind_some h
    obtain ⟨v8, hv8, h⟩ := bind_some h
    obtain ⟨v9, hv9, h⟩ := bind_some h
    refine ht_seqR hn (El := [_, _, _, _, _, (16, .v (.int .u8 v3)), (17, .v (.int .u8 v7)), (18, .v (.int .u8 v8)), (19, .v (.nilIface)), (3, .hid (bldT 48 5 false (List.map (Value.int .u8) v9)))]) (init := [0, 1, 2, 3, 4]) (fin := [9, 1, 2, 3]) (sps := [⟨[4], [], [5], [(.slot 16)]⟩, ⟨[5], [], [6], [(.slot 17)]⟩, ⟨[6], [], [7], [(.slot 18)]⟩, ⟨[7], [0], [9, 8], [(.slot 19)]⟩]) (es' := [(3, .hid (bldT 48 5 false (List.map (Value.int .u8) v9))), (_, _), (_, _), (_, _)]) (by kernel_rfl) rfl rfl
     ⟨st_plain rfl (op_move _ _ _ _ rfl rfl),
     st_plain rfl (op_bin _ _ _ _ _ rfl rfl (ibind (f := Value.int .u8) (Option.some.inj hv7))),
     st_plain rfl (op_chr _ _ _ v7 _ Tryd.underlying9 rfl rfl hv8),
     st_plain rfl (op_callPS _ _ _ _ 19 26 [.tmp 3] [.tmp 18] _ _ _ rfl Tryd.call26 rfl rfl rfl (ok_strings_Builder_WriteByte v6 v8 _ hv9) (Nat.le_of_ble_eq_true rfl) rfl rfl rfl rfl rfl rfl rfl),
     trivial⟩ ?_
    refine pt_inb ?_
    refine pt_then ?_
    obtain ⟨v10, hv10, h⟩ := bind_some h
    refine ht_seqR hn (El := [_, _, _, _, (20, .v (.int .i64 v10)), (8, .v (.int .i64 v10))]) (init := [0, 1, 2, 3]) (fin := [0, 1, 2, 5]) (sps := [⟨[3], [], [4], [(.slot 20)]⟩, ⟨[4], [3], [5], [(.slot 8)]⟩]) (es' := [(_, _), (_, _), (_, _), (8, .v (.int .i64 v10))]) (by kernel_rfl) rfl rfl
     ⟨st_plain rfl (op_bin _ _ _ _ _ rfl rfl (ibind (f := Value.int .i64) (Option.some.inj hv10))),
     st_plain rfl (LOp.drop [_] (op_move _ _ _ _ rfl rfl)),
     trivial⟩ ?_
    exact pt_next _ (Option.some.inj h).symm rfl
   ·have h := cond_f hb24 h
    refine ht_exit ?_
    refine pt_x_then ?_
    refine pt_x_then ?_
    refine pt_x_in ?_
    refine pt_pick [0] (by kernel_rfl) (es' := [(_, _)]) rfl ?_
    exact hl19 _ (ho21 _ (Option.some.inj h).symm).symm

set_option maxHeartbeats 1000000 in
theorem ok_wherrykeep_Bytes (a : (List Int)) (b : (List Int)) (r : Bool) (h : Sh.wherrykeep_Bytes a b = some r) : FnOK Tryd.prog 16 [.fl .shr 1 (List.map (Value.int .u8) a), .fl .shr 1 (List.map (Value.int .u8) b)] (.v (.bool r)) := by
  unfold Sh.wherrykeep_Bytes at h
  refine fn_ok Tryd.func16 rfl (Nat.le_of_ble_eq_true rfl) rfl rfl fun g0 hn hio => ?_
  refine ht_seq ?_
  refine ht_seqR hn (El := [_, _, (4, .v (.bool false))]) (init := [0, 1]) (fin := [0, 1]) (sps := [⟨[], [], [2], [(.slot 4)]⟩]) (es' := [(_, _), (_, _)]) (by kernel_rfl) rfl rfl
   ⟨st_plain rfl (op_assign _ _ _ _ rfl rfl),
   trivial⟩ ?_
  refine pt_then ?_
  refine ht_seq ?_
  refine ht_seq ?_
  refine ht_seqR hn (El := [_, _, (6, .fl .shr 1 (List.map (Value.int .u8) a)), (7, .v (.int .i64 (a.length : Int))), (8, .fl .shr 1 (List.map (Value.int .u8) b)), (9, .v (.int .i64 (b.length : Int))), (10, .v (.bool (((a.length : Int) != (b.length : Int)))))]) (init := [0, 1]) (fin := [0, 1, 6]) (sps := [⟨[0], [], [2], [(.slot 6)]⟩, ⟨[2], [], [3], [(.slot 7)]⟩, ⟨[1], [], [4], [(.slot 8)]⟩, ⟨[4], [], [5], [(.slot 9)]⟩, ⟨[3, 5], [], [6], [(.slot 10)]⟩]) (es' := [(_, _), (_, _), (10, .v (.bool (((a.length : Int) != (b.length : Int)))))]) (by kernel_rfl) rfl rfl
   ⟨st_plain rfl (op_move _ _ _ _ rfl rfl),
   st_plain rfl (op_len_fl _ _ _ Tryd.underlying22 rfl (by decide) (map_len _)),
   st_plain rfl (op_move _ _ _ _ rfl rfl),
   st_plain rfl (op_len_fl _ _ _ Tryd.underlying22 rfl (by decide) (map_len _)),
   st_plain rfl (op_bin _ _ _ _ _ rfl rfl rfl),
   trivial⟩ ?_
  refine pt_then ?_
  refine ht_cond _ rfl (fun hb1 => ?_) (fun hb1 => ?_)
  ·have h := cond_t hb1 h
   refine ht_seq ?_
   refine ht_seqR hn (El := [_, _, _, (4, .v (.bool false))]) (init := [0, 1, 2]) (fin := [3]) (sps := [⟨[], [], [3], [(.slot 4)]⟩]) (es' := [(4, .v (.bool false))]) (by kernel_rfl) rfl rfl
    ⟨st_plain rfl (op_assign _ _ _ _ rfl rfl),
    trivial⟩ ?_
   refine pt_then ?_
   refine ht_ret ?_
   refine pt_r_then ?_
   obtain rfl := Option.some.inj h
   exact pt_ret hio rfl (.tmp _ _ .nil) rfl rfl
  ·have h := cond_f hb1 h
   refine ht_skip ?_
   refine pt_then ?_
   refine ht_seq ?_
   refine ht_seq ?_
   refine ht_seqR hn (El := [_, _, _, (5, .v (.int .i64 0))]) (init := [0, 1, 2]) (fin := [0, 1, 3]) (sps := [⟨[], [], [3], [(.slot 5)]⟩]) (es' := [(_, _), (_, _), (5, .v (.int .i64 0))]) (by kernel_rfl) rfl rfl
    ⟨st_plain rfl (op_assign _ _ _ _ rfl rfl),
    trivial⟩ ?_
   refine pt_then ?_
   refine ht_loopS h (fun (s12 : Int) => [(0, .fl .shr 1 (List.map (Value.int .u8) a)), (1, .fl .shr 1 (List.map (Value.int .u8) b)), (5, .v (.int .i64 s12))]) (fun (() : Unit) => []) ?_ ?_
   ·rintro ⟨⟩ h
    refine pt_then ?_
    refine ht_seq ?_
    refine ht_seqR hn (El := [(4, .v (.bool true))]) (init := []) (fin := [0]) (sps := [⟨[], [], [0], [(.slot 4)]⟩]) (es' := [(4, .v (.bool true))]) (by kernel_rfl) rfl rfl
     ⟨st_plain rfl (op_assign _ _ _ _ rfl rfl),
     trivial⟩ ?_
    refine pt_then ?_
    refine ht_ret ?_
    obtain rfl := Option.some.inj h
    exact pt_ret hio rfl (.tmp _ _ .nil) rfl rfl
   ·rintro u15 hl16 hr17 s12 rr20 h ho18
    refine ht_seq ?_
    refine ht_seq ?_
    refine ht_seqR hn (El := [_, _, _, (11, .v (.int .i64 s12)), (12, .fl .shr 1 (List.map (Value.int .u8) a)), (13, .v (.int .i64 (a.length : Int))), (14, .v (.bool ((decide (s12 < (a.length : Int))))))]) (init := [0, 1, 2]) (fin := [0, 1, 2, 6]) (sps := [⟨[2], [], [3], [(.slot 11)]⟩, ⟨[0], [], [4], [(.slot 12)]⟩, ⟨[4], [], [5], [(.slot 13)]⟩, ⟨[3, 5], [], [6], [(.slot 14)]⟩]) (es' := [(_, _), (_, _), (_, _), (14, .v (.bool ((decide (s12 < (a.length : Int))))))]) (by kernel_rfl) rfl rfl
     ⟨st_plain rfl (op_move _ _ _ _ rfl rfl),
     st_plain rfl (op_move _ _ _ _ rfl rfl),
     st_plain rfl (op_len_fl _ _ _ Tryd.underlying22 rfl (by decide) (map_len _)),
     st_plain rfl (op_bin _ _ _ _ _ rfl rfl rfl),
     trivial⟩ ?_
    refine pt_then ?_
    refine ht_cond _ rfl (fun hb21 => ?_) (fun hb21 => ?_)
    ·have h := cond_t hb21 h
     refine ht_skip ?_
     refine pt_then ?_
     refine ht_seq ?_
     refine ht_block ?_
     refine ht_seq ?_
     obtain ⟨v3, hv3, h⟩ := bind_some h
     obtain ⟨v4, hv4, h⟩ := bind_some h
     obtain ⟨v5, hv5, h⟩ := bind_some h
     obtain ⟨v6, hv6, h⟩ := bind_some h
     refine ht_anyR (by kernel_rfl) hn (El := [_, _, _, _, (17, .fl .shr 1 (List.map (Value.int .u8) a)), (18, .v (.int .i64 s12)), (19, .eref (.slot 17) (v3 * 1)), (20, .v (.int .u8 v4)), (21, .fl .shr 1 (List.map (Value.int .u8) b)), (22, .v (.int .i64 s12)), (23, .eref (.slot 21) (v5 * 1)), (24, .v (.int .u8 v6)), (25, .v (.bool (v4 != v6)))]) (init := [0, 1, 2, 3]) (fin := [0, 1, 2, 12]) (sps := [⟨[0], [], [4], [(.slot 17)]⟩, ⟨[2], [], [5], [(.slot 18)]⟩, ⟨[4, 5], [], [6], [(.slot 19)]⟩, ⟨[6, 4], [], [7], [(.slot 20)]⟩, ⟨[1], [], [8], [(.slot 21)]⟩, ⟨[2], [], [9], [(.slot 22)]⟩, ⟨[8, 9], [], [10], [(.slot 23)]⟩, ⟨[10, 8], [], [11], [(.slot 24)]⟩, ⟨[7, 11], [], [12], [(.slot 25)]⟩]) (es' := [(_, _), (_, _), (_, _), (25, .v (.bool (v4 != v6)))]) (by kernel_rfl) rfl rfl
      ⟨st_plain rfl (op_move _ _ _ _ rfl rfl),
      st_plain rfl (op_move _ _ _ _ rfl rfl),
      st_plain rfl (op_ix _ _ _ _ _ _ _ _ Tryd.underlying22 sz5 (by decide) rfl rfl rfl (ix_ok hv3).1 (map_lt (ix_ok hv3).2) rfl),
      st_plain rfl (op_load_e _ _ _ _ _ _ Tryd.underlying5 rfl rfl rfl (map_get hv4)),
      st_plain rfl (op_move _ _ _ _ rfl rfl),
      st_plain rfl (op_move _ _ _ _ rfl rfl),
      st_plain rfl (op_ix _ _ _ _ _ _ _ _ Tryd.underlying22 sz5 (by decide) rfl rfl rfl (ix_ok hv5).1 (map_lt (ix_ok hv5).2) rfl),
      st_plain rfl (op_load_e _ _ _ _ _ _ Tryd.underlying5 rfl rfl rfl (map_get hv6)),
      st_plain rfl (op_bin _ _ _ _ _ rfl rfl rfl),
      trivial⟩ ?_
     refine pt_then ?_
     refine ht_cond _ rfl (fun hb22 => ?_) (fun hb22 => ?_)
     ·have h := cond_t hb22 h
      refine ht_seq ?_
      refine ht_seqR hn (El := [_, _, _, _, (4, .v (.bool false))]) (init := [0, 1, 2, 3]) (fin := [4]) (sps := [⟨[], [], [4], [(.slot 4)]⟩]) (es' := [(4, .v (.bool false))]) (by kernel_rfl) rfl rfl
       ⟨st_plain rfl (op_assign _ _ _ _ rfl rfl),
       trivial⟩ ?_
      refine pt_then ?_
      refine ht_ret ?_
      refine pt_r_in ?_
      refine pt_r_then ?_
      refine pt_r_then ?_
      refine pt_r_in ?_
      refine pt_r_then ?_
      have h := hr17 _ (ho18 _ (Option.some.inj h).symm).symm
      obtain rfl := Option.some.inj h
      exact pt_ret hio rfl (.tmp _ _ .nil) rfl rfl
     ·have h := cond_f hb22 h
      refine ht_skip ?_
      refine pt_inb ?_
      refine pt_then ?_
      obtain ⟨v8, hv8, h⟩ := bind_some h
      refine ht_seqR hn (El := [_, _, _, _, (15, .v (.int .i64 s12)), (16, .v (.int .i64 v8)), (5, .v (.int .i64 v8))]) (init := [0, 1, 2, 3]) (fin := [0, 1, 6]) (sps := [⟨[2], [], [4], [(.slot 15)]⟩, ⟨[4], [], [5], [(.slot 16)]⟩, ⟨[5], [2], [6], [(.slot 5)]⟩]) (es' := [(_, _), (_, _), (5, .v (.int .i64 v8))]) (by kernel_rfl) rfl rfl
       ⟨st_plain rfl (op_move _ _ _ _ rfl rfl),
       st_plain rfl (op_bin _ _ _ _ _ rfl rfl (ibind (f := Value.int .i64) (Option.some.inj hv8))),
       st_plain rfl (LOp.drop [_] (op_assign _ _ _ _ rfl rfl)),
       trivial⟩ ?_
      exact pt_next _ (Option.some.inj h).symm rfl
    ·have h := cond_f hb21 h
     refine ht_exit ?_
     refine pt_x_then ?_
     refine pt_x_then ?_
     refine pt_x_in ?_
     refine pt_pick [] (by kernel_rfl) (es' := []) rfl ?_
     exact hl16 _ (ho18 _ (Option.some.inj h).symm).symm

set_option maxHeartbeats 1000000 in
theorem ok_digest_step (i : Int) (q : Int) (p_r : Int) (t : Int) (r : (Int × Int)) (h : Sh.digest_step i q p_r t = some r) : FnOK Tryd.prog 57 [.v (.int .i64 i), .v (.int .u32 q), .v (.int .u32 p_r), .v (.int .u32 t)] (.tup [.v (.int .u32 r.1), .v (.int .i64 r.2)]) := by
  unfold Sh.digest_step at h
  refine fn_ok Tryd.func57 rfl (Nat.le_of_ble_eq_true rfl) rfl rfl fun g0 hn hio => ?_
  refine ht_seq ?_
  refine ht_seqR hn (El := [_, _, _, _, (8, .v (.int .u32 0)), (9, .v (.int .i64 0))]) (init := [0, 1, 2, 3]) (fin := [0, 1, 2, 3]) (sps := [⟨[], [], [4], [(.slot 8)]⟩, ⟨[], [], [5], [(.slot 9)]⟩]) (es' := [(_, _), (_, _), (_, _), (_, _)]) (by kernel_rfl) rfl rfl
   ⟨st_plain rfl (op_assign _ _ _ _ rfl rfl),
   st_plain rfl (op_assign _ _ _ _ rfl rfl),
   trivial⟩ ?_
  refine pt_then ?_
  refine ht_seq ?_
  refine ht_seq ?_
  obtain ⟨v1, hv1, h⟩ := bind_some h
  refine ht_seqR hn (El := [_, _, _, _, (10, .v (.int .i64 i)), (11, .v (.int .i64 v1))]) (init := [0, 1, 2, 3]) (fin := [0, 1, 2, 3, 5]) (sps := [⟨[0], [], [4], [(.slot 10)]⟩, ⟨[4], [], [5], [(.slot 11)]⟩]) (es' := [(_, _), (_, _), (_, _), (_, _), (11, .v (.int .i64 v1))]) (by kernel_rfl) rfl rfl
   ⟨st_plain rfl (op_move _ _ _ _ rfl rfl),
   st_plain rfl (op_bin _ _ _ _ _ rfl rfl (quo_ok hv1)),
   trivial⟩ ?_
  refine pt_then ?_
  refine ht_block ?_
  refine ht_seq ?_
  refine ht_seqR hn (El := [_, _, _, _, _, (13, .v (.bool (v1 == 0))), (12, .v (.bool (v1 == 0)))]) (init := [0, 1, 2, 3, 4]) (fin := [0, 1, 2, 3, 4, 6]) (sps := [⟨[4], [], [5], [(.slot 13)]⟩, ⟨[5], [], [6], [(.slot 12)]⟩]) (es' := [(_, _), (_, _), (_, _), (_, _), (_, _), (12, .v (.bool (v1 == 0)))]) (by kernel_rfl) rfl rfl
   ⟨st_plain rfl (op_bin _ _ _ _ _ rfl rfl rfl),
   st_plain rfl (op_assign _ _ _ _ rfl rfl),
   trivial⟩ ?_
  refine pt_then ?_
  refine ht_cond _ rfl (fun hb2 => ?_) (fun hb2 => ?_)
  ·have h := cond_t hb2 h
   refine ht_seq ?_
   obtain ⟨v3, hv3, h⟩ := bind_some h
   obtain ⟨v4, hv4, h⟩ := bind_some h
   obtain ⟨v5, hv5, h⟩ := bind_some h
   obtain ⟨v6, hv6, h⟩ := bind_some h
   refine ht_seqR hn (El := (_ :: _ :: _ :: _ :: _ :: _ :: (14, .v (.int .u32 q)) :: (15, .v (.int .u32 p_r)) :: (16, .v (.int .u32 v3)) :: (17, .v (.int .u32 q)) :: (18, .v (.int .u32 v4)) :: (19, .v (.int .u32 t)) :: (20, .v (.int .u32 v5)) :: (21, .v (.int .u32 v6)) :: (22, .v (.int .i64 i)) :: (8, .v (.int .u32 v6)) :: (9, .v (.int .i64 i)) :: [])) (init := [0, 1, 2, 3, 4, 5]) (fin := [15, 16]) (sps := [⟨[1], [], [6], [(.slot 14)]⟩, ⟨[2], [], [7], [(.slot 15)]⟩, ⟨[6, 7], [], [8], [(.slot 16)]⟩, ⟨[1], [], [9], [(.slot 17)]⟩, ⟨[9], [], [10], [(.slot 18)]⟩, ⟨[3], [], [11], [(.slot 19)]⟩, ⟨[10, 11], [], [12], [(.slot 20)]⟩, ⟨[8, 12], [], [13], [(.slot 21)]⟩, ⟨[0], [], [14], [(.slot 22)]⟩, ⟨[13], [], [15], [(.slot 8)]⟩, ⟨[14], [], [16], [(.slot 9)]⟩]) (es' := [(8, .v (.int .u32 v6)), (9, .v (.int .i64 i))]) (by kernel_rfl) rfl rfl
    ⟨st_plain rfl (op_move _ _ _ _ rfl rfl),
    st_plain rfl (op_move _ _ _ _ rfl rfl),
    st_plain rfl (op_bin _ _ _ _ _ rfl rfl (ibind (f := Value.int .u32) (Option.some.inj hv3))),
    st_plain rfl (op_move _ _ _ _ rfl rfl),
    st_plain rfl (op_un _ _ _ _ rfl (ibind (f := Value.int .u32) (Option.some.inj hv4))),
    st_plain rfl (op_move _ _ _ _ rfl rfl),
    st_plain rfl (op_bin _ _ _ _ _ rfl rfl (ibind (f := Value.int .u32) (Option.some.inj hv5))),
    st_plain rfl (op_bin _ _ _ _ _ rfl rfl (ibind (f := Value.int .u32) (Option.some.inj hv6))),
    st_plain rfl (op_move _ _ _ _ rfl rfl),
    st_plain rfl (op_assign _ _ _ _ rfl rfl),
    st_plain rfl (op_assign _ _ _ _ rfl rfl),
    trivial⟩ ?_
   refine pt_then ?_
   refine ht_ret ?_
   refine pt_r_in ?_
   refine pt_r_then ?_
   obtain rfl := Option.some.inj h
   exact pt_ret hio rfl (.tmp _ _ (.tmp _ _ .nil)) rfl rfl
  ·have h := cond_f hb2 h
   refine ht_seq ?_
   refine ht_seqR hn (El := [_, _, _, _, _, _, (24, .v (.bool (v1 == 1))), (23, .v (.bool (v1 == 1)))]) (init := [0, 1, 2, 3, 4, 5]) (fin := [0, 1, 2, 3, 4, 7]) (sps := [⟨[4], [], [6], [(.slot 24)]⟩, ⟨[6], [], [7], [(.slot 23)]⟩]) (es' := [(_, _), (_, _), (_, _), (_, _), (_, _), (23, .v (.bool (v1 == 1)))]) (by kernel_rfl) rfl rfl
    ⟨st_plain rfl (op_bin _ _ _ _ _ rfl rfl rfl),
    st_plain rfl (op_assign _ _ _ _ rfl rfl),
    trivial⟩ ?_
   refine pt_then ?_
   refine ht_cond _ rfl (fun hb7 => ?_) (fun hb7 => ?_)
   ·have h := cond_t hb7 h
    refine ht_seq ?_
    obtain ⟨v8, hv8, h⟩ := bind_some h
    obtain ⟨v9, hv9, h⟩ := bind_some h
    obtain ⟨v10, hv10, h⟩ := bind_some h
    obtain ⟨v11, hv11, h⟩ := bind_some h
    obtain ⟨v12, hv12, h⟩ := bind_some h
    obtain ⟨v13, hv13, h⟩ := bind_some h
    refine ht_seqR hn (El := (_ :: _ :: _ :: _ :: _ :: _ :: (25, .v (.int .u32 q)) :: (26, .v (.int .u32 t)) :: (27, .v (.int .u32 v8)) :: (28, .v (.int .u32 p_r)) :: (29, .v (.int .u32 t)) :: (30, .v (.int .u32 v9)) :: (31, .v (.int .u32 v10)) :: (32, .v (.int .i64 i)) :: (33, .v (.int .i64 v11)) :: (34, .v (.int .i64 v12)) :: (35, .v (.int .i64 v13)) :: (8, .v (.int .u32 v10)) :: (9, .v (.int .i64 v13)) :: [])) (init := [0, 1, 2, 3, 4, 5]) (fin := [17, 18]) (sps := [⟨[1], [], [6], [(.slot 25)]⟩, ⟨[3], [], [7], [(.slot 26)]⟩, ⟨[6, 7], [], [8], [(.slot 27)]⟩, ⟨[2], [], [9], [(.slot 28)]⟩, ⟨[3], [], [10], [(.slot 29)]⟩, ⟨[9, 10], [], [11], [(.slot 30)]⟩, ⟨[8, 11], [], [12], [(.slot 31)]⟩, ⟨[0], [], [13], [(.slot 32)]⟩, ⟨[13], [], [14], [(.slot 33)]⟩, ⟨[14], [], [15], [(.slot 34)]⟩, ⟨[15], [], [16], [(.slot 35)]⟩, ⟨[12], [], [17], [(.slot 8)]⟩, ⟨[16], [], [18], [(.slot 9)]⟩]) (es' := [(8, .v (.int .u32 v10)), (9, .v (.int .i64 v13))]) (by kernel_rfl) rfl rfl
     ⟨st_plain rfl (op_move _ _ _ _ rfl rfl),
     st_plain rfl (op_move _ _ _ _ rfl rfl),
     st_plain rfl (op_bin _ _ _ _ _ rfl rfl (ibind (f := Value.int .u32) (Option.some.inj hv8))),
     st_plain rfl (op_move _ _ _ _ rfl rfl),
     st_plain rfl (op_move _ _ _ _ rfl rfl),
     st_plain rfl (op_bin _ _ _ _ _ rfl rfl (ibind (f := Value.int .u32) (Option.some.inj hv9))),
     st_plain rfl (op_bin _ _ _ _ _ rfl rfl (ibind (f := Value.int .u32) (Option.some.inj hv10))),
     st_plain rfl (op_move _ _ _ _ rfl rfl),
     st_plain rfl (op_bin _ _ _ _ _ rfl rfl (ibind (f := Value.int .i64) (Option.some.inj hv11))),
     st_plain rfl (op_bin _ _ _ _ _ rfl rfl (ibind (f := Value.int .i64) (Option.some.inj hv12))),
     st_plain rfl (op_bin _ _ _ _ _ rfl rfl (rem_ok hv13)),
     st_plain rfl (op_assign _ _ _ _ rfl rfl),
     st_plain rfl (op_assign _ _ _ _ rfl rfl),
     trivial⟩ ?_
    refine pt_then ?_
    refine ht_ret ?_
    refine pt_r_in ?_
    refine pt_r_then ?_
    obtain rfl := Option.some.inj h
    exact pt_ret hio rfl (.tmp _ _ (.tmp _ _ .nil)) rfl rfl
   ·have h := cond_f hb7 h
    refine ht_seq ?_
    refine ht_seqR hn (El := [_, _, _, _, _, _, (37, .v (.bool (v1 == 2))), (36, .v (.bool (v1 == 2)))]) (init := [0, 1, 2, 3, 4, 5]) (fin := [0, 1, 2, 3, 7]) (sps := [⟨[4], [], [6], [(.slot 37)]⟩, ⟨[6], [], [7], [(.slot 36)]⟩]) (es' := [(_, _), (_, _), (_, _), (_, _), (36, .v (.bool (v1 == 2)))]) (by kernel_rfl) rfl rfl
     ⟨st_plain rfl (op_bin _ _ _ _ _ rfl rfl rfl),
     st_plain rfl (op_assign _ _ _ _ rfl rfl),
     trivial⟩ ?_
    refine pt_then ?_
    refine ht_cond _ rfl (fun hb14 => ?_) (fun hb14 => ?_)
    ·have h := cond_t hb14 h
     refine ht_seq ?_
     obtain ⟨v15, hv15, h⟩ := bind_some h
     obtain ⟨v16, hv16, h⟩ := bind_some h
     obtain ⟨v17, hv17, h⟩ := bind_some h
     obtain ⟨v18, hv18, h⟩ := bind_some h
     obtain ⟨v19, hv19, h⟩ := bind_some h
     refine ht_seqR hn (El := (_ :: _ :: _ :: _ :: _ :: (38, .v (.int .u32 q)) :: (39, .v (.int .u32 p_r)) :: (40, .v (.int .u32 v15)) :: (41, .v (.int .u32 t)) :: (42, .v (.int .u32 v16)) :: (43, .v (.int .i64 i)) :: (44, .v (.int .i64 v17)) :: (45, .v (.int .i64 v18)) :: (46, .v (.int .i64 v19)) :: (8, .v (.int .u32 v16)) :: (9, .v (.int .i64 v19)) :: [])) (init := [0, 1, 2, 3, 4]) (fin := [14, 15]) (sps := [⟨[1], [], [5], [(.slot 38)]⟩, ⟨[2], [], [6], [(.slot 39)]⟩, ⟨[5, 6], [], [7], [(.slot 40)]⟩, ⟨[3], [], [8], [(.slot 41)]⟩, ⟨[7, 8], [], [9], [(.slot 42)]⟩, ⟨[0], [], [10], [(.slot 43)]⟩, ⟨[10], [], [11], [(.slot 44)]⟩, ⟨[11], [], [12], [(.slot 45)]⟩, ⟨[12], [], [13], [(.slot 46)]⟩, ⟨[9], [], [14], [(.slot 8)]⟩, ⟨[13], [], [15], [(.slot 9)]⟩]) (es' := [(8, .v (.int .u32 v16)), (9, .v (.int .i64 v19))]) (by kernel_rfl) rfl rfl
      ⟨st_plain rfl (op_move _ _ _ _ rfl rfl),
      st_plain rfl (op_move _ _ _ _ rfl rfl),
      st_plain rfl (op_bin _ _ _ _ _ rfl rfl (ibind (f := Value.int .u32) (Option.some.inj hv15))),
      st_plain rfl (op_move _ _ _ _ rfl rfl),
      st_plain rfl (op_bin _ _ _ _ _ rfl rfl (ibind (f := Value.int .u32) (Option.some.inj hv16))),
      st_plain rfl (op_move _ _ _ _ rfl rfl),
      st_plain rfl (op_bin _ _ _ _ _ rfl rfl (ibind (f := Value.int .i64) (Option.some.inj hv17))),
      st_plain rfl (op_bin _ _ _ _ _ rfl rfl (ibind (f := Value.int .i64) (Option.some.inj hv18))),
      st_plain rfl (op_bin _ _ _ _ _ rfl rfl (rem_ok hv19)),
      st_plain rfl (op_assign _ _ _ _ rfl rfl),
      st_plain rfl (op_assign _ _ _ _ rfl rfl),
      trivial⟩ ?_
     refine pt_then ?_
     refine ht_ret ?_
     refine pt_r_in ?_
     refine pt_r_then ?_
     obtain rfl := Option.some.inj h
     exact pt_ret hio rfl (.tmp _ _ (.tmp _ _ .nil)) rfl rfl
    ·have h := cond_f hb14 h
     refine ht_skip ?_
     refine pt_inb ?_
     refine pt_then ?_
     refine ht_seq ?_
     obtain ⟨v20, hv20, h⟩ := bind_some h
     obtain ⟨v21, hv21, h⟩ := bind_some h
     obtain ⟨v22, hv22, h⟩ := bind_some h
     obtain ⟨v23, hv23, h⟩ := bind_some h
     obtain ⟨v24, hv24, h⟩ := bind_some h
     refine ht_seqR hn (El := (_ :: _ :: _ :: _ :: _ :: (47, .v (.int .u32 p_r)) :: (48, .v (.int .u32 q)) :: (49, .v (.int .u32 t)) :: (50, .v (.int .u32 v20)) :: (51, .v (.int .u32 v21)) :: (52, .v (.int .u32 v22)) :: (53, .v (.int .i64 i)) :: (54, .v (.int .i64 v23)) :: (55, .v (.int .i64 v24)) :: (8, .v (.int .u32 v22)) :: (9, .v (.int .i64 v24)) :: [])) (init := [0, 1, 2, 3, 4]) (fin := [14, 15]) (sps := [⟨[2], [], [5], [(.slot 47)]⟩, ⟨[1], [], [6], [(.slot 48)]⟩, ⟨[3], [], [7], [(.slot 49)]⟩, ⟨[7], [], [8], [(.slot 50)]⟩, ⟨[6, 8], [], [9], [(.slot 51)]⟩, ⟨[5, 9], [], [10], [(.slot 52)]⟩, ⟨[0], [], [11], [(.slot 53)]⟩, ⟨[11], [], [12], [(.slot 54)]⟩, ⟨[12], [], [13], [(.slot 55)]⟩, ⟨[10], [], [14], [(.slot 8)]⟩, ⟨[13], [], [15], [(.slot 9)]⟩]) (es' := [(8, .v (.int .u32 v22)), (9, .v (.int .i64 v24))]) (by kernel_rfl) rfl rfl
      ⟨st_plain rfl (op_move _ _ _ _ rfl rfl),
      st_plain rfl (op_move _ _ _ _ rfl rfl),
      st_plain rfl (op_move _ _ _ _ rfl rfl),
      st_plain rfl (op_un _ _ _ _ rfl (ibind (f := Value.int .u32) (Option.some.inj hv20))),
      st_plain rfl (op_bin _ _ _ _ _ rfl rfl (ibind (f := Value.int .u32) (Option.some.inj hv21))),
      st_plain rfl (op_bin _ _ _ _ _ rfl rfl (ibind (f := Value.int .u32) (Option.some.inj hv22))),
      st_plain rfl (op_move _ _ _ _ rfl rfl),
      st_plain rfl (op_bin _ _ _ _ _ rfl rfl (ibind (f := Value.int .i64) (Option.some.inj hv23))),
      st_plain rfl (op_bin _ _ _ _ _ rfl rfl (rem_ok hv24)),
      st_plain rfl (op_assign _ _ _ _ rfl rfl),
      st_plain rfl (op_assign _ _ _ _ rfl rfl),
      trivial⟩ ?_
     refine pt_then ?_
     refine ht_ret ?_
     obtain rfl := Option.some.inj h
     exact pt_ret hio rfl (.tmp _ _ (.tmp _ _ .nil)) rfl rfl

set_option maxHeartbeats 1000000 in
theorem ok_digest_state_block (mx : Int) (s : (List Int)) (b : (List Int)) (r : (List Int)) (h : Sh.digest_state_block s b = some r) : FnG Tryd.prog (GL mx) 43 [.v (.agg (List.map (Value.int .u32) s).toArray), .fl .shr 1 (List.map (Value.int .u8) b)] (.v (.agg (List.map (Value.int .u32) r).toArray)) := by
  unfold Sh.digest_state_block at h
  refine fn_okG Tryd.func43 rfl (Nat.le_of_ble_eq_true rfl) rfl rfl fun g0 hn hio => ?_
  refine ht_seq ?_
  refine ht_seqR hn (El := [_, _, _, (2, .arr 74 (List.map (Value.int .u32) s)), (4, .arr 74 (List.map (Value.int .u32) ((List.replicate 4 (0 : Int)))))]) (init := [0, 1, 2]) (fin := [1, 2, 3, 4]) (sps := [⟨[0], [], [3], [(.slot 2)]⟩, ⟨[], [], [4], [(.slot 4)]⟩]) (es' := [(_, _), (_, _), (2, .arr 74 (List.map (Value.int .u32) s)), (4, .arr 74 (List.map (Value.int .u32) ((List.replicate 4 (0 : Int)))))]) (by kernel_rfl) rfl rfl
   ⟨st_plain rfl (op_box_arr _ _ _ rfl),
   st_plain rfl (op_alloc_arr _ za74),
   trivial⟩ ?_
  refine pt_then ?_
  refine ht_seq ?_
  refine ht_seqR hn (El := [_, _, _, _, (5, .arr 92 (List.map (Value.int .u32) ((List.replicate 16 (0 : Int)))))]) (init := [0, 1, 2, 3]) (fin := [0, 1, 2, 3, 4]) (sps := [⟨[], [], [4], [(.slot 5)]⟩]) (es' := [(_, _), (_, _), (_, _), (_, _), (5, .arr 92 (List.map (Value.int .u32) ((List.replicate 16 (0 : Int)))))]) (by kernel_rfl) rfl rfl
   ⟨st_plain rfl (op_alloc_arr _ za92),
   trivial⟩ ?_
  refine pt_then ?_
  refine ht_seq ?_
  refine ht_seq ?_
  refine ht_seqR hn (El := [_, _, _, _, _, (17, .fl .shr 1 (List.map (Value.int .u8) b)), (18, .v (.int .i64 (b.length : Int))), (19, .v (.int .i64 0))]) (init := [0, 1, 2, 3, 4]) (fin := [1, 2, 3, 4, 5, 6, 7]) (sps := [⟨[0], [], [5], [(.slot 17)]⟩, ⟨[5], [], [6], [(.slot 18)]⟩, ⟨[], [], [7], [(.slot 19)]⟩]) (es' := [(_, _), (_, _), (_, _), (_, _), (17, .fl .shr 1 (List.map (Value.int .u8) b)), (18, .v (.int .i64 (b.length : Int))), (19, .v (.int .i64 0))]) (by kernel_rfl) rfl rfl
   ⟨st_plain rfl (op_move _ _ _ _ rfl rfl),
   st_plain rfl (op_len_fl _ _ _ Tryd.underlying22 rfl (by decide) (map_len _)),
   st_plain rfl (op_move _ _ _ _ rfl rfl),
   trivial⟩ ?_
  refine pt_then ?_
  refine ht_loopS h (fun ((s18, s19) : (List Int) × Int) => [(105, .glob (GL mx)), (2, .arr 74 (List.map (Value.int .u32) s)), (4, .arr 74 (List.map (Value.int .u32) ((List.replicate 4 (0 : Int))))), (5, .arr 92 (List.map (Value.int .u32) s18)), (17, .fl .shr 1 (List.map (Value.int .u8) b)), (18, .v (.int .i64 (b.length : Int))), (19, .v (.int .i64 s19))]) (fun (s21 : (List Int)) => [(105, .glob (GL mx)), (2, .arr 74 (List.map (Value.int .u32) s)), (4, .arr 74 (List.map (Value.int .u32) ((List.replicate 4 (0 : Int))))), (5, .arr 92 (List.map (Value.int .u32) s21))]) ?_ ?_
  ·rintro s21 h
   refine pt_then ?_
   refine ht_seq ?_
   obtain ⟨v29, hv29, h⟩ := bind_some h
   obtain ⟨v30, hv30, h⟩ := bind_some h
   obtain ⟨v31, hv31, h⟩ := bind_some h
   obtain ⟨v32, hv32, h⟩ := bind_some h
   obtain ⟨v33, hv33, h⟩ := bind_some h
   obtain ⟨v34, hv34, h⟩ := bind_some h
   obtain ⟨v35, hv35, h⟩ := bind_some h
   obtain ⟨v36, hv36, h⟩ := bind_some h
   refine ht_anyR (by kernel_rfl) hn (El := (_ :: _ :: _ :: _ :: (37, .ptr 2 v29) :: (38, .v (.int .u32 v30)) :: (39, .ptr 2 v31) :: (40, .v (.int .u32 v32)) :: (41, .ptr 2 v33) :: (42, .v (.int .u32 v34)) :: (43, .ptr 2 v35) :: (44, .v (.int .u32 v36)) :: (8, .v (.int .u32 v30)) :: (9, .v (.int .u32 v32)) :: (10, .v (.int .u32 v34)) :: (11, .v (.int .u32 v36)) :: [])) (init := [0, 1, 2, 3]) (fin := [0, 1, 2, 3, 12, 13, 14, 15]) (sps := [⟨[1], [], [4], [(.slot 37)]⟩, ⟨[4, 1], [], [5], [(.slot 38)]⟩, ⟨[1], [], [6], [(.slot 39)]⟩, ⟨[6, 1], [], [7], [(.slot 40)]⟩, ⟨[1], [], [8], [(.slot 41)]⟩, ⟨[8, 1], [], [9], [(.slot 42)]⟩, ⟨[1], [], [10], [(.slot 43)]⟩, ⟨[10, 1], [], [11], [(.slot 44)]⟩, ⟨[5], [], [12], [(.slot 8)]⟩, ⟨[7], [], [13], [(.slot 9)]⟩, ⟨[9], [], [14], [(.slot 10)]⟩, ⟨[11], [], [15], [(.slot 11)]⟩]) (es' := [(_, _), (_, _), (_, _), (_, _), (8, .v (.int .u32 v30)), (9, .v (.int .u32 v32)), (10, .v (.int .u32 v34)), (11, .v (.int .u32 v36))]) (by kernel_rfl) rfl rfl
    ⟨st_plain rfl (op_ix_arr _ _ _ _ 4 2 _ Tryd.underlying74 sz49 rfl rfl (ix_ok hv29).1 (ix_ok hv29).2 (by decide)),
    st_plain rfl (op_load_arr _ _ _ _ _ _ Tryd.underlying49 rfl rfl rfl (map_get1 hv30)),
    st_plain rfl (op_ix_arr _ _ _ _ 4 2 _ Tryd.underlying74 sz49 rfl rfl (ix_ok hv31).1 (ix_ok hv31).2 (by decide)),
    st_plain rfl (op_load_arr _ _ _ _ _ _ Tryd.underlying49 rfl rfl rfl (map_get1 hv32)),
    st_plain rfl (op_ix_arr _ _ _ _ 4 2 _ Tryd.underlying74 sz49 rfl rfl (ix_ok hv33).1 (ix_ok hv33).2 (by decide)),
    st_plain rfl (op_load_arr _ _ _ _ _ _ Tryd.underlying49 rfl rfl rfl (map_get1 hv34)),
    st_plain rfl (op_ix_arr _ _ _ _ 4 2 _ Tryd.underlying74 sz49 rfl rfl (ix_ok hv35).1 (ix_ok hv35).2 (by decide)),
    st_plain rfl (op_load_arr _ _ _ _ _ _ Tryd.underlying49 rfl rfl rfl (map_get1 hv36)),
    st_plain rfl (op_assign _ _ _ _ rfl rfl),
    st_plain rfl (op_assign _ _ _ _ rfl rfl),
    st_plain rfl (op_assign _ _ _ _ rfl rfl),
    st_plain rfl (op_assign _ _ _ _ rfl rfl),
    trivial⟩ ?_
   refine pt_then ?_
   refine ht_seq ?_
   refine ht_seq ?_
   refine ht_seqR hn (El := [_, _, _, _, _, _, _, _, (45, .v (.agg (List.map (Value.int .u32) digest_sines).toArray)), (46, .v (.int .i64 0))]) (init := [0, 1, 2, 3, 4, 5, 6, 7]) (fin := [0, 1, 2, 3, 4, 5, 6, 7, 8, 9]) (sps := [⟨[0], [], [8], [(.slot 45)]⟩, ⟨[], [], [9], [(.slot 46)]⟩]) (es' := [(_, _), (_, _), (_, _), (_, _), (_, _), (_, _), (_, _), (_, _), (45, .v (.agg (List.map (Value.int .u32) digest_sines).toArray)), (46, .v (.int .i64 0))]) (by kernel_rfl) rfl rfl
    ⟨st_plain rfl (op_loadA_glob _ _ 105 0 (List.map (Value.int .u32) digest_sines) Tryd.underlying93 rfl sz93 rfl rfl (gl_mem0 mx)),
    st_plain rfl (op_move _ _ _ _ rfl rfl),
    trivial⟩ ?_
   refine pt_then ?_
   refine ht_loopS h (fun ((s63, s64, s65, s66, s67) : Int × Int × Int × Int × Int) => [(105, .glob (GL mx)), (2, .arr 74 (List.map (Value.int .u32) s)), (4, .arr 74 (List.map (Value.int .u32) ((List.replicate 4 (0 : Int))))), (5, .arr 92 (List.map (Value.int .u32) s21)), (8, .v (.int .u32 s63)), (9, .v (.int .u32 s64)), (10, .v (.int .u32 s65)), (11, .v (.int .u32 s66)), (45, .v (.agg (List.map (Value.int .u32) digest_sines).toArray)), (46, .v (.int .i64 s67))]) (fun ((s69, s70, s71, s72) : Int × Int × Int × Int) => [(105, .glob (GL mx)), (2, .arr 74 (List.map (Value.int .u32) s)), (4, .arr 74 (List.map (Value.int .u32) ((List.replicate 4 (0 : Int))))), (8, .v (.int .u32 s69)), (9, .v (.int .u32 s70)), (10, .v (.int .u32 s71)), (11, .v (.int .u32 s72))]) ?_ ?_
   ·rintro ⟨s69, s70, s71, s72⟩ h
    refine pt_then ?_
    refine ht_seq ?_
    obtain ⟨v80, hv80, h⟩ := bind_some h
    obtain ⟨v81, hv81, h⟩ := bind_some h
    obtain ⟨v82, hv82, h⟩ := bind_some h
    obtain ⟨v83, hv83, h⟩ := bind_some h
    obtain ⟨v84, hv84, h⟩ := bind_some h
    obtain ⟨v85, hv85, h⟩ := bind_some h
    obtain ⟨v86, hv86, h⟩ := bind_some h
    obtain ⟨v87, hv87, h⟩ := bind_some h
    obtain ⟨v88, hv88, h⟩ := bind_some h
    obtain ⟨v89, hv89, h⟩ := bind_some h
    obtain ⟨v90, hv90, h⟩ := bind_some h
    obtain ⟨v91, hv91, h⟩ := bind_some h
    obtain ⟨v92, hv92, h⟩ := bind_some h
    obtain ⟨v93, hv93, h⟩ := bind_some h
    refine ht_seqR hn (El := (_ :: _ :: _ :: _ :: _ :: _ :: _ :: (88, .ptr 2 v80) :: (89, .v (.int .u32 v81)) :: (90, .v (.int .u32 s69)) :: (91, .v (.int .u32 v82)) :: (92, .ptr 2 v83) :: (93, .v (.int .u32 v84)) :: (94, .v (.int .u32 s70)) :: (95, .v (.int .u32 v85)) :: (96, .ptr 2 v86) :: (97, .v (.int .u32 v87)) :: (98, .v (.int .u32 s71)) :: (99, .v (.int .u32 v88)) :: (100, .ptr 2 v89) :: (101, .v (.int .u32 v90)) :: (102, .v (.int .u32 s72)) :: (103, .v (.int .u32 v91)) :: (104, .v (.agg (List.map (Value.int .u32) ([v82, v85, v88, v91] : List Int)).toArray)) :: (4, .arr 74 (List.map (Value.int .u32) ([v82, v85, v88, v91] : List Int))) :: [])) (init := [0, 1, 2, 3, 4, 5, 6]) (fin := [0, 24]) (sps := (⟨[1], [], [7], [(.slot 88)]⟩ :: ⟨[7, 1], [], [8], [(.slot 89)]⟩ :: ⟨[3], [], [9], [(.slot 90)]⟩ :: ⟨[8, 9], [], [10], [(.slot 91)]⟩ :: ⟨[1], [], [11], [(.slot 92)]⟩ :: ⟨[11, 1], [], [12], [(.slot 93)]⟩ :: ⟨[4], [], [13], [(.slot 94)]⟩ :: ⟨[12, 13], [], [14], [(.slot 95)]⟩ :: ⟨[1], [], [15], [(.slot 96)]⟩ :: ⟨[15, 1], [], [16], [(.slot 97)]⟩ :: ⟨[5], [], [17], [(.slot 98)]⟩ :: ⟨[16, 17], [], [18], [(.slot 99)]⟩ :: ⟨[1], [], [19], [(.slot 100)]⟩ :: ⟨[19, 1], [], [20], [(.slot 101)]⟩ :: ⟨[6], [], [21], [(.slot 102)]⟩ :: ⟨[20, 21], [], [22], [(.slot 103)]⟩ :: ⟨[10, 14, 18, 22], [], [23], [(.slot 104)]⟩ :: ⟨[23], [2], [24], []⟩ :: [])) (es' := [(_, _), (4, .arr 74 (List.map (Value.int .u32) ([v82, v85, v88, v91] : List Int)))]) (by kernel_rfl) rfl rfl
     ⟨st_plain rfl (op_ix_arr _ _ _ _ 4 2 _ Tryd.underlying74 sz49 rfl rfl (ix_ok hv80).1 (ix_ok hv80).2 (by decide)),
     st_plain rfl (op_load_arr _ _ _ _ _ _ Tryd.underlying49 rfl rfl rfl (map_get1 hv81)),
     st_plain rfl (op_move _ _ _ _ rfl rfl),
     st_plain rfl (op_bin _ _ _ _ _ rfl rfl (ibind (f := Value.int .u32) (Option.some.inj hv82))),
     st_plain rfl (op_ix_arr _ _ _ _ 4 2 _ Tryd.underlying74 sz49 rfl rfl (ix_ok hv83).1 (ix_ok hv83).2 (by decide)),
     st_plain rfl (op_load_arr _ _ _ _ _ _ Tryd.underlying49 rfl rfl rfl (map_get1 hv84)),
     st_plain rfl (op_move _ _ _ _ rfl rfl),
     st_plain rfl (op_bin _ _ _ _ _ rfl rfl (ibind (f := Value.int .u32) (Option.some.inj hv85))),
     st_plain rfl (op_ix_arr _ _ _ _ 4 2 _ Tryd.underlying74 sz49 rfl rfl (ix_ok hv86).1 (ix_ok hv86).2 (by decide)),
     st_plain rfl (op_load_arr _ _ _ _ _ _ Tryd.underlying49 rfl rfl rfl (map_get1 hv87)),
     st_plain rfl (op_move _ _ _ _ rfl rfl),
     st_plain rfl (op_bin _ _ _ _ _ rfl rfl (ibind (f := Value.int .u32) (Option.some.inj hv88))),
     st_plain rfl (op_ix_arr _ _ _ _ 4 2 _ Tryd.underlying74 sz49 rfl rfl (ix_ok hv89).1 (ix_ok hv89).2 (by decide)),
     st_plain rfl (op_load_arr _ _ _ _ _ _ Tryd.underlying49 rfl rfl rfl (map_get1 hv90)),
     st_plain rfl (op_move _ _ _ _ rfl rfl),
     st_plain rfl (op_bin _ _ _ _ _ rfl rfl (ibind (f := Value.int .u32) (Option.some.inj hv91))),
     st_plain rfl (op_build_arr _ _ (.agg #[.int .u32 0, .int .u32 0, .int .u32 0, .int .u32 0]) (List.map (Value.int .u32) ([v82, v85, v88, v91] : List Int)) [(0, .int .u32 v82), (1, .int .u32 v85), (2, .int .u32 v88), (3, .int .u32 v91)] Tryd.underlying74 sz49 zr74 (fun _ V w o a hv hes => by have e0 := rd_v hv hes (x := .tmp 91) rfl; have e1 := rd_v hv hes (x := .tmp 95) rfl; have e2 := rd_v hv hes (x := .tmp 99) rfl; have e3 := rd_v hv hes (x := .tmp 103) rfl; simp only [List.map_toArray, List.map_cons, List.map_nil, e0, e1, e2, e3]; try rfl) (litfill (by simp [Instr.fill, Value.cells]; rfl) (by simp))),
     st_plain rfl (op_storeA_arr _ _ _ _ (sz74.trans (congrArg some (ln_len hv93))) rfl rfl (ln_ones (fun _ => rfl) _) ((ln_len (f := Value.int .u32) hv92).symm.trans (ln_len (f := Value.int .u32) hv93))),
     trivial⟩ ?_
    refine pt_then ?_
    refine ht_ret ?_
    obtain ⟨v94, hv94, h⟩ := bind_some h
    refine pt_pick [1] (by kernel_rfl) (es' := [(_, _)]) rfl ?_
    obtain rfl := Option.some.inj h
    exact pt_ret hio rfl (.cellR _ _ _ _ Tryd.underlying74 rfl (sz74.trans (congrArg some (ln_len hv94))) .nil) rfl rfl
   ·rintro u73 hl74 hr75 ⟨s63, s64, s65, s66, s67⟩ rr78 h ho76
    refine ht_seq ?_
    refine ht_seqR hn (El := [_, _, _, _, _, _, _, _, _, _, (47, .v (.bool ((decide (s67 < 64)))))]) (init := [0, 1, 2, 3, 4, 5, 6, 7, 8, 9]) (fin := [0, 1, 2, 3, 4, 5, 6, 7, 8, 9, 10]) (sps := [⟨[9], [], [10], [(.slot 47)]⟩]) (es' := [(_, _), (_, _), (_, _), (_, _), (_, _), (_, _), (_, _), (_, _), (_, _), (_, _), (47, .v (.bool ((decide (s67 < 64)))))]) (by kernel_rfl) rfl rfl
     ⟨st_plain rfl (op_bin _ _ _ _ _ rfl rfl rfl),
     trivial⟩ ?_
    refine pt_then ?_
    refine ht_seq ?_
    refine ht_cond _ rfl (fun hb79 => ?_) (fun hb79 => ?_)
    ·have h := cond_t hb79 h
     refine ht_skip ?_
     refine pt_then ?_
     refine ht_seq ?_
     refine ht_block ?_
     refine ht_seq ?_
     obtain ⟨v38, hv38, h⟩ := bind_some h
     obtain ⟨v39, hv39, h⟩ := bind_some h
     refine ht_seqR hn (El := (_ :: _ :: _ :: _ :: _ :: _ :: _ :: _ :: _ :: _ :: _ :: (48, .v (.int .i64 s67)) :: (49, .v (.int .u32 v39)) :: (12, .v (.int .i64 s67)) :: (13, .v (.int .u32 v39)) :: [])) (init := [0, 1, 2, 3, 4, 5, 6, 7, 8, 9, 10]) (fin := [0, 1, 2, 3, 4, 5, 6, 7, 8, 9, 13, 14]) (sps := [⟨[9], [], [11], [(.slot 48)]⟩, ⟨[8, 9], [], [12], [(.slot 49)]⟩, ⟨[11], [], [13], [(.slot 12)]⟩, ⟨[12], [], [14], [(.slot 13)]⟩]) (es' := [(_, _), (_, _), (_, _), (_, _), (_, _), (_, _), (_, _), (_, _), (_, _), (_, _), (12, .v (.int .i64 s67)), (13, .v (.int .u32 v39))]) (by kernel_rfl) rfl rfl
      ⟨st_plain rfl (op_move _ _ _ _ rfl rfl),
      st_plain rfl (op_index_arr _ _ _ _ 64 v38 Tryd.underlying93 sz49 rfl (congrArg (fun j => AV.v (Value.int .i64 j)) (ix_ok hv38).1) (ix_ok hv38).2 (map_get1 hv39) ⟨_, Tryd.underlying49, rfl⟩),
      st_plain rfl (op_assign _ _ _ _ rfl rfl),
      st_plain rfl (op_assign _ _ _ _ rfl rfl),
      trivial⟩ ?_
     refine pt_then ?_
     refine ht_seq ?_
     obtain ⟨v40, hv40, h⟩ := bind_some h
     refine ht_seqR hn (El := (_ :: _ :: _ :: _ :: _ :: _ :: _ :: _ :: _ :: _ :: _ :: _ :: (51, .v (.int .i64 s67)) :: (52, .v (.int .u32 s64)) :: (53, .v (.int .u32 s65)) :: (54, .v (.int .u32 s66)) :: (55, .tup [.v (.int .u32 v40.1), .v (.int .i64 v40.2)]) :: (50, .tup [.v (.int .u32 v40.1), .v (.int .i64 v40.2)]) :: (56, .v (.int .u32 v40.1)) :: (57, .v (.int .i64 v40.2)) :: (14, .v (.int .u32 v40.1)) :: (15, .v (.int .i64 v40.2)) :: [])) (init := [0, 1, 2, 3, 4, 5, 6, 7, 8, 9, 10, 11]) (fin := [0, 1, 2, 3, 4, 5, 6, 7, 8, 9, 10, 11, 20, 21]) (sps := [⟨[10], [], [12], [(.slot 51)]⟩, ⟨[5], [], [13], [(.slot 52)]⟩, ⟨[6], [], [14], [(.slot 53)]⟩, ⟨[7], [], [15], [(.slot 54)]⟩, ⟨[12, 13, 14, 15], [], [16], [(.slot 55)]⟩, ⟨[], [16], [17], [(.slot 50)]⟩, ⟨[17], [], [18], [(.slot 56)]⟩, ⟨[17], [], [19], [(.slot 57)]⟩, ⟨[18], [], [20], [(.slot 14)]⟩, ⟨[19], [], [21], [(.slot 15)]⟩]) (es' := [(_, _), (_, _), (_, _), (_, _), (_, _), (_, _), (_, _), (_, _), (_, _), (_, _), (_, _), (_, _), (14, .v (.int .u32 v40.1)), (15, .v (.int .i64 v40.2))]) (by kernel_rfl) rfl rfl
      ⟨st_plain rfl (op_move _ _ _ _ rfl rfl),
      st_plain rfl (op_move _ _ _ _ rfl rfl),
      st_plain rfl (op_move _ _ _ _ rfl rfl),
      st_plain rfl (op_move _ _ _ _ rfl rfl),
      st_plain rfl (op_call _ _ 57 _ _ rfl Tryd.call57 rfl (ok_digest_step s67 s64 s65 s66 _ hv40) rfl rfl),
      st_plain rfl (op_move_take _ _ _ _ rfl),
      st_plain rfl (op_extract _ _ _ _ _ rfl rfl (Nat.le_of_ble_eq_true rfl) rfl rfl),
      st_plain rfl (op_extract _ _ _ _ _ rfl rfl (Nat.le_of_ble_eq_true rfl) rfl rfl),
      st_plain rfl (op_assign _ _ _ _ rfl rfl),
      st_plain rfl (op_assign _ _ _ _ rfl rfl),
      trivial⟩ ?_
     refine pt_then ?_
     refine ht_seq ?_
     obtain ⟨v41, hv41, h⟩ := bind_some h
     obtain ⟨v42, hv42, h⟩ := bind_some h
     obtain ⟨v43, hv43, h⟩ := bind_some h
     obtain ⟨v44, hv44, h⟩ := bind_some h
     obtain ⟨v45, hv45, h⟩ := bind_some h
     refine ht_seqR hn (El := (_ :: _ :: _ :: _ :: _ :: _ :: _ :: _ :: _ :: _ :: _ :: _ :: _ :: _ :: (58, .v (.int .u32 v40.1)) :: (59, .v (.int .u32 s63)) :: (60, .v (.int .u32 v39)) :: (61, .v (.int .u32 v41)) :: (62, .v (.int .i64 v40.2)) :: (63, .ptr 5 v42) :: (64, .v (.int .u32 v43)) :: (65, .v (.int .u32 v44)) :: (66, .v (.int .u32 v45)) :: (14, .v (.int .u32 v45)) :: [])) (init := [0, 1, 2, 3, 4, 5, 6, 7, 8, 9, 10, 11, 12, 13]) (fin := [0, 1, 2, 3, 5, 6, 7, 8, 9, 10, 23]) (sps := [⟨[12], [], [14], [(.slot 58)]⟩, ⟨[4], [], [15], [(.slot 59)]⟩, ⟨[11], [], [16], [(.slot 60)]⟩, ⟨[15, 16], [], [17], [(.slot 61)]⟩, ⟨[13], [], [18], [(.slot 62)]⟩, ⟨[3, 18], [], [19], [(.slot 63)]⟩, ⟨[19, 3], [], [20], [(.slot 64)]⟩, ⟨[17, 20], [], [21], [(.slot 65)]⟩, ⟨[14, 21], [], [22], [(.slot 66)]⟩, ⟨[22], [12], [23], [(.slot 14)]⟩]) (es' := [(_, _), (_, _), (_, _), (_, _), (_, _), (_, _), (_, _), (_, _), (_, _), (_, _), (14, .v (.int .u32 v45))]) (by kernel_rfl) rfl rfl
      ⟨st_plain rfl (op_move _ _ _ _ rfl rfl),
      st_plain rfl (op_move _ _ _ _ rfl rfl),
      st_plain rfl (op_move _ _ _ _ rfl rfl),
      st_plain rfl (op_bin _ _ _ _ _ rfl rfl (ibind (f := Value.int .u32) (Option.some.inj hv41))),
      st_plain rfl (op_move _ _ _ _ rfl rfl),
      st_plain rfl (op_ix_arr _ _ _ _ 16 5 _ Tryd.underlying92 sz49 rfl rfl (ix_ok hv42).1 (ix_ok hv42).2 (by decide)),
      st_plain rfl (op_load_arr _ _ _ _ _ _ Tryd.underlying49 rfl rfl rfl (map_get1 hv43)),
      st_plain rfl (op_bin _ _ _ _ _ rfl rfl (ibind (f := Value.int .u32) (Option.some.inj hv44))),
      st_plain rfl (op_bin _ _ _ _ _ rfl rfl (ibind (f := Value.int .u32) (Option.some.inj hv45))),
      st_plain rfl (LOp.drop [_] (op_assign _ _ _ _ rfl rfl)),
      trivial⟩ ?_
     refine pt_then ?_
     refine ht_seq ?_
     obtain ⟨v46, hv46, h⟩ := bind_some h
     obtain ⟨v47, hv47, h⟩ := bind_some h
     obtain ⟨v48, hv48, h⟩ := bind_some h
     obtain ⟨v49, hv49, h⟩ := bind_some h
     obtain ⟨v50, hv50, h⟩ := bind_some h
     refine ht_seqR hn (El := (_ :: _ :: _ :: _ :: _ :: _ :: _ :: _ :: _ :: _ :: _ :: (67, .v (.int .i64 s67)) :: (68, .v (.int .i64 v46)) :: (69, .v (.int .i64 s67)) :: (70, .v (.int .i64 v47)) :: (71, .v (.pointer (some ⟨1, (0 + v48 * 4), none⟩))) :: (72, .v (.pointer (some ⟨1, ((0 + v48 * 4) + v49 * 1), none⟩))) :: (73, .v (.int .i64 v50)) :: (16, .v (.int .i64 v50)) :: [])) (init := [0, 1, 2, 3, 4, 5, 6, 7, 8, 9, 10]) (fin := [0, 1, 2, 3, 4, 5, 6, 7, 8, 10, 18]) (sps := [⟨[9], [], [11], [(.slot 67)]⟩, ⟨[11], [], [12], [(.slot 68)]⟩, ⟨[9], [], [13], [(.slot 69)]⟩, ⟨[13], [], [14], [(.slot 70)]⟩, ⟨[12], [], [15], [(.slot 71)]⟩, ⟨[15, 14], [], [16], [(.slot 72)]⟩, ⟨[16, 0], [], [17], [(.slot 73)]⟩, ⟨[17], [], [18], [(.slot 16)]⟩]) (es' := [(_, _), (_, _), (_, _), (_, _), (_, _), (_, _), (_, _), (_, _), (_, _), (_, _), (16, .v (.int .i64 v50))]) (by kernel_rfl) rfl rfl
      ⟨st_plain rfl (op_move _ _ _ _ rfl rfl),
      st_plain rfl (op_bin _ _ _ _ _ rfl rfl (quo_ok hv46)),
      st_plain rfl (op_move _ _ _ _ rfl rfl),
      st_plain rfl (op_bin _ _ _ _ _ rfl rfl (rem_ok hv47)),
      st_plain rfl (op_ix_globz _ _ _ _ 4 1 0 _ 4 _ Tryd.underlying97 sz96 rfl rfl (ix_ok hv48).1 (ix_ok hv48).2),
      st_plain rfl (op_ix_globz _ _ _ _ 4 1 (0 + v48 * 4) _ 1 _ Tryd.underlying96 sz3 rfl rfl (ix_ok hv49).1 (ix_ok hv49).2),
      st_plain rfl (op_load_glob _ _ 105 1 _ _ _ Tryd.underlying3 rfl rfl rfl (gl_mem1 mx) (map_get1 hv50)),
      st_plain rfl (op_assign _ _ _ _ rfl rfl),
      trivial⟩ ?_
     refine pt_then ?_
     obtain ⟨v51, hv51, h⟩ := bind_some h
     obtain ⟨v52, hv52, h⟩ := bind_some h
     obtain ⟨v53, hv53, h⟩ := bind_some h
     obtain ⟨v54, hv54, h⟩ := bind_some h
     obtain ⟨v55, hv55, h⟩ := bind_some h
     refine ht_anyR (by kernel_rfl) hn (El := (_ :: _ :: _ :: _ :: _ :: _ :: _ :: _ :: _ :: _ :: _ :: (74, .v (.int .u32 s66)) :: (75, .v (.int .u32 s64)) :: (76, .v (.int .u32 v45)) :: (77, .v (.int .i64 v50)) :: (78, .v (.int .u32 v51)) :: (79, .v (.int .u32 v45)) :: (80, .v (.int .i64 v50)) :: (81, .v (.int .i64 v52)) :: (82, .v (.int .u32 v53)) :: (83, .v (.int .u32 v54)) :: (84, .v (.int .u32 v55)) :: (85, .v (.int .u32 s64)) :: (86, .v (.int .u32 s65)) :: (8, .v (.int .u32 s66)) :: (9, .v (.int .u32 v55)) :: (10, .v (.int .u32 s64)) :: (11, .v (.int .u32 s65)) :: [])) (init := [0, 1, 2, 3, 4, 5, 6, 7, 8, 9, 10]) (fin := [0, 1, 2, 3, 7, 8, 24, 25, 26, 27]) (sps := (⟨[6], [], [11], [(.slot 74)]⟩ :: ⟨[4], [], [12], [(.slot 75)]⟩ :: ⟨[9], [], [13], [(.slot 76)]⟩ :: ⟨[10], [], [14], [(.slot 77)]⟩ :: ⟨[13, 14], [], [15], [(.slot 78)]⟩ :: ⟨[9], [], [16], [(.slot 79)]⟩ :: ⟨[10], [], [17], [(.slot 80)]⟩ :: ⟨[17], [], [18], [(.slot 81)]⟩ :: ⟨[16, 18], [], [19], [(.slot 82)]⟩ :: ⟨[15, 19], [], [20], [(.slot 83)]⟩ :: ⟨[12, 20], [], [21], [(.slot 84)]⟩ :: ⟨[4], [], [22], [(.slot 85)]⟩ :: ⟨[5], [], [23], [(.slot 86)]⟩ :: ⟨[11], [], [24], [(.slot 8)]⟩ :: ⟨[21], [4], [25], [(.slot 9)]⟩ :: ⟨[22], [5], [26], [(.slot 10)]⟩ :: ⟨[23], [6], [27], [(.slot 11)]⟩ :: [])) (es' := [(_, _), (_, _), (_, _), (_, _), (_, _), (_, _), (8, .v (.int .u32 s66)), (9, .v (.int .u32 v55)), (10, .v (.int .u32 s64)), (11, .v (.int .u32 s65))]) (by kernel_rfl) rfl rfl
      ⟨st_plain rfl (op_move _ _ _ _ rfl rfl),
      st_plain rfl (op_move _ _ _ _ rfl rfl),
      st_plain rfl (op_move _ _ _ _ rfl rfl),
      st_plain rfl (op_move _ _ _ _ rfl rfl),
      st_plain rfl (op_bin _ _ _ _ _ rfl rfl (shl_ok hv51)),
      st_plain rfl (op_move _ _ _ _ rfl rfl),
      st_plain rfl (op_move _ _ _ _ rfl rfl),
      st_plain rfl (op_bin _ _ _ _ _ rfl rfl (ibind (f := Value.int .i64) (Option.some.inj hv52))),
      st_plain rfl (op_bin _ _ _ _ _ rfl rfl (shr_ok hv53)),
      st_plain rfl (op_bin _ _ _ _ _ rfl rfl (ibind (f := Value.int .u32) (Option.some.inj hv54))),
      st_plain rfl (op_bin _ _ _ _ _ rfl rfl (ibind (f := Value.int .u32) (Option.some.inj hv55))),
      st_plain rfl (op_move _ _ _ _ rfl rfl),
      st_plain rfl (op_move _ _ _ _ rfl rfl),
      st_plain rfl (op_assign _ _ _ _ rfl rfl),
      st_plain rfl (LOp.drop [_] (op_assign _ _ _ _ rfl rfl)),
      st_plain rfl (LOp.drop [_] (op_assign _ _ _ _ rfl rfl)),
      st_plain rfl (LOp.drop [_] (op_assign _ _ _ _ rfl rfl)),
      trivial⟩ ?_
     refine pt_inb ?_
     refine pt_then ?_
     obtain ⟨v56, hv56, h⟩ := bind_some h
     refine ht_seqR hn (El := [_, _, _, _, _, _, _, _, _, _, (87, .v (.int .i64 v56)), (46, .v (.int .i64 v56))]) (init := [0, 1, 2, 3, 4, 5, 6, 7, 8, 9]) (fin := [0, 1, 2, 3, 4, 6, 7, 8, 9, 11]) (sps := [⟨[5], [], [10], [(.slot 87)]⟩, ⟨[10], [5], [11], [(.slot 46)]⟩]) (es' := [(_, _), (_, _), (_, _), (_, _), (_, _), (_, _), (_, _), (_, _), (_, _), (46, .v (.int .i64 v56))]) (by kernel_rfl) rfl rfl
      ⟨st_plain rfl (op_bin _ _ _ _ _ rfl rfl (ibind (f := Value.int .i64) (Option.some.inj hv56))),
      st_plain rfl (LOp.drop [_] (op_move _ _ _ _ rfl rfl)),
      trivial⟩ ?_
     refine pt_pick [0, 1, 2, 3, 5, 6, 7, 8, 4, 9] (by kernel_rfl) (es' := [(_, _), (_, _), (_, _), (_, _), (_, _), (_, _), (_, _), (_, _), (_, _), (_, _)]) rfl ?_
     exact pt_next _ (Option.some.inj h).symm rfl
    ·have h := cond_f hb79 h
     refine ht_exit ?_
     refine pt_x_then ?_
     refine pt_x_then ?_
     refine pt_x_in ?_
     refine pt_pick [0, 1, 2, 4, 5, 6, 7] (by kernel_rfl) (es' := [(_, _), (_, _), (_, _), (_, _), (_, _), (_, _), (_, _)]) rfl ?_
     exact hl74 _ (ho76 _ (Option.some.inj h).symm).symm
  ·rintro u22 hl23 hr24 ⟨s18, s19⟩ rr27 h ho25
   refine ht_seq ?_
   refine ht_seqR hn (El := [_, _, _, _, _, _, _, (20, .v (.bool ((decide (s19 < (b.length : Int))))))]) (init := [0, 1, 2, 3, 4, 5, 6]) (fin := [0, 1, 2, 3, 4, 5, 6, 7]) (sps := [⟨[6, 5], [], [7], [(.slot 20)]⟩]) (es' := [(_, _), (_, _), (_, _), (_, _), (_, _), (_, _), (_, _), (20, .v (.bool ((decide (s19 < (b.length : Int))))))]) (by kernel_rfl) rfl rfl
    ⟨st_plain rfl (op_bin _ _ _ _ _ rfl rfl rfl),
    trivial⟩ ?_
   refine pt_then ?_
   refine ht_seq ?_
   refine ht_cond _ rfl (fun hb28 => ?_) (fun hb28 => ?_)
   ·have h := cond_t hb28 h
    refine ht_skip ?_
    refine pt_then ?_
    refine ht_seq ?_
    refine ht_block ?_
    refine ht_seq ?_
    obtain ⟨v2, hv2, h⟩ := bind_some h
    obtain ⟨v3, hv3, h⟩ := bind_some h
    refine ht_seqR hn (El := [_, _, _, _, _, _, _, _, (21, .v (.int .i64 s19)), (22, .eref (.slot 17) (v2 * 1)), (23, .v (.int .u8 v3)), (6, .v (.int .i64 s19)), (7, .v (.int .u8 v3))]) (init := [0, 1, 2, 3, 4, 5, 6, 7]) (fin := [0, 1, 2, 3, 4, 5, 6, 11, 12]) (sps := [⟨[6], [], [8], [(.slot 21)]⟩, ⟨[4, 6], [], [9], [(.slot 22)]⟩, ⟨[9, 4], [], [10], [(.slot 23)]⟩, ⟨[8], [], [11], [(.slot 6)]⟩, ⟨[10], [], [12], [(.slot 7)]⟩]) (es' := [(_, _), (_, _), (_, _), (_, _), (_, _), (_, _), (_, _), (6, .v (.int .i64 s19)), (7, .v (.int .u8 v3))]) (by kernel_rfl) rfl rfl
     ⟨st_plain rfl (op_move _ _ _ _ rfl rfl),
     st_plain rfl (op_ix _ _ _ _ _ _ _ _ Tryd.underlying22 sz5 (by decide) rfl rfl rfl (ix_ok hv2).1 (map_lt (ix_ok hv2).2) rfl),
     st_plain rfl (op_load_e _ _ _ _ _ _ Tryd.underlying5 rfl rfl rfl (map_get hv3)),
     st_plain rfl (op_assign _ _ _ _ rfl rfl),
     st_plain rfl (op_assign _ _ _ _ rfl rfl),
     trivial⟩ ?_
    refine pt_then ?_
    obtain ⟨v4, hv4, h⟩ := bind_some h
    obtain ⟨v5, hv5, h⟩ := bind_some h
    obtain ⟨v6, hv6, h⟩ := bind_some h
    obtain ⟨v7, hv7, h⟩ := bind_some h
    obtain ⟨v8, hv8, h⟩ := bind_some h
    obtain ⟨v9, hv9, h⟩ := bind_some h
    obtain ⟨v10, hv10, h⟩ := bind_some h
    obtain ⟨v11, hv11, h⟩ := bind_some h
    obtain ⟨v12, hv12, h⟩ := bind_some h
    obtain ⟨v13, hv13, h⟩ := bind_some h
    refine ht_anyR (by kernel_rfl) hn (El := (_ :: _ :: _ :: _ :: _ :: _ :: _ :: _ :: _ :: (24, .v (.int .i64 s19)) :: (25, .v (.int .i64 v4)) :: (26, .ptr 5 v5) :: (27, .v (.int .u32 v6)) :: (28, .v (.int .u8 v3)) :: (29, .v (.int .u32 v7)) :: (30, .v (.int .i64 s19)) :: (31, .v (.int .i64 v8)) :: (32, .v (.int .i64 v9)) :: (33, .v (.int .u32 v10)) :: (34, .v (.int .u32 v11)) :: (35, .ptr 5 v12) :: (5, .arr 92 (List.map (Value.int .u32) v13)) :: [])) (init := [0, 1, 2, 3, 4, 5, 6, 7, 8]) (fin := [0, 1, 2, 21, 4, 5, 6]) (sps := [⟨[7], [], [9], [(.slot 24)]⟩, ⟨[9], [], [10], [(.slot 25)]⟩, ⟨[3, 10], [], [11], [(.slot 26)]⟩, ⟨[11, 3], [], [12], [(.slot 27)]⟩, ⟨[8], [], [13], [(.slot 28)]⟩, ⟨[13], [], [14], [(.slot 29)]⟩, ⟨[7], [], [15], [(.slot 30)]⟩, ⟨[15], [], [16], [(.slot 31)]⟩, ⟨[16], [], [17], [(.slot 32)]⟩, ⟨[14, 17], [], [18], [(.slot 33)]⟩, ⟨[12, 18], [], [19], [(.slot 34)]⟩, ⟨[3, 10], [], [20], [(.slot 35)]⟩, ⟨[20, 19], [3], [21], []⟩]) (es' := [(_, _), (_, _), (_, _), (5, .arr 92 (List.map (Value.int .u32) v13)), (_, _), (_, _), (_, _)]) (by kernel_rfl) rfl rfl
     ⟨st_plain rfl (op_move _ _ _ _ rfl rfl),
     st_plain rfl (op_bin _ _ _ _ _ rfl rfl (quo_ok hv4)),
     st_plain rfl (op_ix_arr _ _ _ _ 16 5 _ Tryd.underlying92 sz49 rfl rfl (ix_ok hv5).1 (ix_ok hv5).2 (by decide)),
     st_plain rfl (op_load_arr _ _ _ _ _ _ Tryd.underlying49 rfl rfl rfl (map_get1 hv6)),
     st_plain rfl (op_move _ _ _ _ rfl rfl),
     st_plain rfl ((Option.some.inj hv7) ▸ op_conv _ _ _ Tryd.underlying5 Tryd.underlying49 rfl),
     st_plain rfl (op_move _ _ _ _ rfl rfl),
     st_plain rfl (op_bin _ _ _ _ _ rfl rfl (rem_ok hv8)),
     st_plain rfl (op_bin _ _ _ _ _ rfl rfl (ibind (f := Value.int .i64) (Option.some.inj hv9))),
     st_plain rfl (op_bin _ _ _ _ _ rfl rfl (shl_ok hv10)),
     st_plain rfl (op_bin _ _ _ _ _ rfl rfl (ibind (f := Value.int .u32) (Option.some.inj hv11))),
     st_plain rfl (op_ix_arr _ _ _ _ 16 5 _ Tryd.underlying92 sz49 rfl rfl (ix_ok hv12).1 (ix_ok hv12).2 (by decide)),
     st_plain rfl (op_store_arr _ _ _ _ _ _ sz49 rfl rfl rfl rfl (set_lt hv13) (set_eq (f := Value.int .u32) hv13)),
     trivial⟩ ?_
    refine pt_inb ?_
    refine pt_then ?_
    obtain ⟨v14, hv14, h⟩ := bind_some h
    refine ht_seqR hn (El := [_, _, _, _, _, _, _, (36, .v (.int .i64 v14)), (19, .v (.int .i64 v14))]) (init := [0, 1, 2, 3, 4, 5, 6]) (fin := [0, 1, 2, 3, 4, 5, 8]) (sps := [⟨[6], [], [7], [(.slot 36)]⟩, ⟨[7], [6], [8], [(.slot 19)]⟩]) (es' := [(_, _), (_, _), (_, _), (_, _), (_, _), (_, _), (19, .v (.int .i64 v14))]) (by kernel_rfl) rfl rfl
     ⟨st_plain rfl (op_bin _ _ _ _ _ rfl rfl (ibind (f := Value.int .i64) (Option.some.inj hv14))),
     st_plain rfl (LOp.drop [_] (op_move _ _ _ _ rfl rfl)),
     trivial⟩ ?_
    exact pt_next _ (Option.some.inj h).symm rfl
   ·have h := cond_f hb28 h
    refine ht_exit ?_
    refine pt_x_then ?_
    refine pt_x_then ?_
    refine pt_x_in ?_
    refine pt_pick [0, 1, 2, 3] (by kernel_rfl) (es' := [(_, _), (_, _), (_, _), (_, _)]) rfl ?_
    exact hl23 _ (ho25 _ (Option.some.inj h).symm).symm

set_option maxHeartbeats 1000000 in
theorem ok_digest_padded (rest : (List Int)) (n : Int) (r : (List Int)) (h : Sh.digest_padded rest n = some r) : FnOK Tryd.prog 44 [.fl .shr 1 (List.map (Value.int .u8) rest), .v (.int .i64 n)] (.fl (.own 5) 1 (List.map (Value.int .u8) r)) := by
  unfold Sh.digest_padded at h
  refine fn_ok Tryd.func44 rfl (Nat.le_of_ble_eq_true rfl) rfl rfl fun g0 hn hio => ?_
  refine ht_seq ?_
  refine ht_seqR hn (El := [_, _, (4, .v (.slice none 0 0))]) (init := [0, 1]) (fin := [0, 1]) (sps := [⟨[], [], [2], [(.slot 4)]⟩]) (es' := [(_, _), (_, _)]) (by kernel_rfl) rfl rfl
   ⟨st_plain rfl (op_assign _ _ _ _ rfl rfl),
   trivial⟩ ?_
  refine pt_then ?_
  refine ht_seq ?_
  refine ht_seqR hn (El := [_, _, (5, .v (.int .i64 64))]) (init := [0, 1]) (fin := [0, 1, 2]) (sps := [⟨[], [], [2], [(.slot 5)]⟩]) (es' := [(_, _), (_, _), (5, .v (.int .i64 64))]) (by kernel_rfl) rfl rfl
   ⟨st_plain rfl (op_assign _ _ _ _ rfl rfl),
   trivial⟩ ?_
  refine pt_then ?_
  refine ht_seq ?_
  refine ht_joinS h (fun (s4 : Int) => [(0, .fl .shr 1 (List.map (Value.int .u8) rest)), (1, .v (.int .i64 n)), (5, .v (.int .i64 s4))]) ?_ ?_
  ·rintro s4 h
   refine pt_then ?_
   refine ht_seq ?_
   obtain ⟨v9, hv9, h⟩ := bind_some h
   refine ht_seqR hn (El := [_, _, _, (14, .v (.int .i64 s4)), (15, .fl (.own 5) 1 (List.map (Value.int .u8) v9)), (6, .fl (.own 5) 1 (List.map (Value.int .u8) v9))]) (init := [0, 1, 2]) (fin := [0, 1, 2, 5]) (sps := [⟨[2], [], [3], [(.slot 14)]⟩, ⟨[3], [], [4], [(.slot 15)]⟩, ⟨[], [4], [5], [(.slot 6)]⟩]) (es' := [(_, _), (_, _), (_, _), (6, .fl (.own 5) 1 (List.map (Value.int .u8) v9))]) (by kernel_rfl) rfl rfl
    ⟨st_plain rfl (op_move _ _ _ _ rfl rfl),
    st_plain rfl (op_mk (f := Value.int .u8) _ _ _ _ el22 (by decide) zr5 rfl rfl rfl hv9),
    st_plain rfl (op_assign_take _ _ _ _ rfl),
    trivial⟩ ?_
   refine pt_then ?_
   refine ht_seq ?_
   obtain ⟨v10, hv10, h⟩ := bind_some h
   refine ht_seqR hn (El := [_, _, _, _, (16, .same (.slot 6)), (17, .fl .shr 1 (List.map (Value.int .u8) rest)), (18, .v (.int .i64 (copyN v9 rest))), (6, .fl (.own 5) 1 (List.map (Value.int .u8) v10))]) (init := [0, 1, 2, 3]) (fin := [0, 1, 2, 7]) (sps := [⟨[3], [], [4], [(.slot 16)]⟩, ⟨[0], [], [5], [(.slot 17)]⟩, ⟨[4, 5], [3], [7, 6], [(.slot 18)]⟩]) (es' := [(_, _), (_, _), (_, _), (6, .fl (.own 5) 1 (List.map (Value.int .u8) v10))]) (by kernel_rfl) rfl rfl
    ⟨st_plain rfl (op_move _ _ _ _ rfl rfl),
    st_plain rfl (op_move _ _ _ _ rfl rfl),
    st_plain rfl ((Option.some.inj hv10) ▸ op_cp _ _ _ _ _ _ _ Tryd.underlying22 sz5 rfl rfl (by decide)),
    trivial⟩ ?_
   refine pt_then ?_
   refine ht_seq ?_
   obtain ⟨v11, hv11, h⟩ := bind_some h
   obtain ⟨v12, hv12, h⟩ := bind_some h
   refine ht_seqR hn (El := [_, _, _, _, (19, .same (.slot 6)), (20, .fl .shr 1 (List.map (Value.int .u8) rest)), (21, .v (.int .i64 (rest.length : Int))), (22, .eref (.slot 6) (v11 * 1)), (6, .fl (.own 5) 1 (List.map (Value.int .u8) v12))]) (init := [0, 1, 2, 3]) (fin := [1, 2, 8]) (sps := [⟨[3], [], [4], [(.slot 19)]⟩, ⟨[0], [], [5], [(.slot 20)]⟩, ⟨[5], [], [6], [(.slot 21)]⟩, ⟨[4, 3, 6], [], [7], [(.slot 22)]⟩, ⟨[7], [3], [8], []⟩]) (es' := [(_, _), (_, _), (6, .fl (.own 5) 1 (List.map (Value.int .u8) v12))]) (by kernel_rfl) rfl rfl
    ⟨st_plain rfl (op_move _ _ _ _ rfl rfl),
    st_plain rfl (op_move _ _ _ _ rfl rfl),
    st_plain rfl (op_len_fl _ _ _ Tryd.underlying22 rfl (by decide) (map_len _)),
    st_plain rfl (op_ix _ _ _ _ _ _ _ _ Tryd.underlying22 sz5 (by decide) rfl rfl rfl (ix_ok hv11).1 (map_lt (ix_ok hv11).2) rfl),
    st_plain rfl (op_store_e _ _ _ _ _ _ _ _ sz5 rfl rfl rfl (by decide) (map_lt (ix_ok hv11).2) ((map_set (f := Value.int .u8) _ (ix_ok hv11).2).trans (congrArg (List.map _) (Option.some.inj hv12)))),
    trivial⟩ ?_
   refine pt_then ?_
   refine ht_seq ?_
   obtain ⟨v13, hv13, h⟩ := bind_some h
   obtain ⟨v14, hv14, h⟩ := bind_some h
   refine ht_seqR hn (El := [_, _, _, (23, .v (.int .i64 n)), (24, .v (.int .u64 v13)), (25, .v (.int .u64 v14)), (7, .v (.int .u64 v14))]) (init := [0, 1, 2]) (fin := [1, 2, 6]) (sps := [⟨[0], [], [3], [(.slot 23)]⟩, ⟨[3], [], [4], [(.slot 24)]⟩, ⟨[4], [], [5], [(.slot 25)]⟩, ⟨[5], [], [6], [(.slot 7)]⟩]) (es' := [(_, _), (_, _), (7, .v (.int .u64 v14))]) (by kernel_rfl) rfl rfl
    ⟨st_plain rfl (op_move _ _ _ _ rfl rfl),
    st_plain rfl ((Option.some.inj hv13) ▸ op_conv _ _ _ Tryd.underlying3 Tryd.underlying81 rfl),
    st_plain rfl (op_bin _ _ _ _ _ rfl rfl (shl_ok hv14)),
    st_plain rfl (op_assign _ _ _ _ rfl rfl),
    trivial⟩ ?_
   refine pt_then ?_
   refine ht_seq ?_
   refine ht_seq ?_
   refine ht_seqR hn (El := [_, _, _, (26, .v (.int .i64 0))]) (init := [0, 1, 2]) (fin := [0, 1, 2, 3]) (sps := [⟨[], [], [3], [(.slot 26)]⟩]) (es' := [(_, _), (_, _), (_, _), (26, .v (.int .i64 0))]) (by kernel_rfl) rfl rfl
    ⟨st_plain rfl (op_move _ _ _ _ rfl rfl),
    trivial⟩ ?_
   refine pt_then ?_
   refine ht_loopS h (fun ((s27, s28) : (List Int) × Int) => [(5, .v (.int .i64 s4)), (6, .fl (.own 5) 1 (List.map (Value.int .u8) s27)), (7, .v (.int .u64 v14)), (26, .v (.int .i64 s28))]) (fun (s30 : (List Int)) => [(6, .fl (.own 5) 1 (List.map (Value.int .u8) s30))]) ?_ ?_
   ·rintro s30 h
    refine pt_then ?_
    refine ht_seq ?_
    refine ht_seqR hn (El := [_, (41, .fl (.own 5) 1 (List.map (Value.int .u8) s30)), (4, .fl (.own 5) 1 (List.map (Value.int .u8) s30))]) (init := [0]) (fin := [2]) (sps := [⟨[], [0], [1], [(.slot 41)]⟩, ⟨[], [1], [2], [(.slot 4)]⟩]) (es' := [(4, .fl (.own 5) 1 (List.map (Value.int .u8) s30))]) (by kernel_rfl) rfl rfl
     ⟨st_plain rfl (op_move_take _ _ _ _ rfl),
     st_plain rfl (op_assign_take _ _ _ _ rfl),
     trivial⟩ ?_
    refine pt_then ?_
    refine ht_ret ?_
    obtain rfl := Option.some.inj h
    exact pt_ret hio rfl (.tmp _ _ .nil) rfl rfl
   ·rintro u31 hl32 hr33 ⟨s27, s28⟩ rr36 h ho34
    refine ht_seq ?_
    refine ht_seqR hn (El := [_, _, _, _, (27, .v (.bool ((decide (s28 < 8)))))]) (init := [0, 1, 2, 3]) (fin := [0, 1, 2, 3, 4]) (sps := [⟨[3], [], [4], [(.slot 27)]⟩]) (es' := [(_, _), (_, _), (_, _), (_, _), (27, .v (.bool ((decide (s28 < 8)))))]) (by kernel_rfl) rfl rfl
     ⟨st_plain rfl (op_bin _ _ _ _ _ rfl rfl rfl),
     trivial⟩ ?_
    refine pt_then ?_
    refine ht_seq ?_
    refine ht_cond _ rfl (fun hb37 => ?_) (fun hb37 => ?_)
    ·have h := cond_t hb37 h
     refine ht_skip ?_
     refine pt_then ?_
     refine ht_seq ?_
     refine ht_block ?_
     refine ht_seq ?_
     refine ht_seqR hn (El := [_, _, _, _, _, (28, .v (.int .i64 s28)), (8, .v (.int .i64 s28))]) (init := [0, 1, 2, 3, 4]) (fin := [0, 1, 2, 3, 6]) (sps := [⟨[3], [], [5], [(.slot 28)]⟩, ⟨[5], [], [6], [(.slot 8)]⟩]) (es' := [(_, _), (_, _), (_, _), (_, _), (8, .v (.int .i64 s28))]) (by kernel_rfl) rfl rfl
      ⟨st_plain rfl (op_move _ _ _ _ rfl rfl),
      st_plain rfl (op_assign _ _ _ _ rfl rfl),
      trivial⟩ ?_
     refine pt_then ?_
     obtain ⟨v16, hv16, h⟩ := bind_some h
     obtain ⟨v17, hv17, h⟩ := bind_some h
     obtain ⟨v18, hv18, h⟩ := bind_some h
     obtain ⟨v19, hv19, h⟩ := bind_some h
     obtain ⟨v20, hv20, h⟩ := bind_some h
     obtain ⟨v21, hv21, h⟩ := bind_some h
     obtain ⟨v22, hv22, h⟩ := bind_some h
     refine ht_seqR hn (El := (_ :: _ :: _ :: _ :: _ :: (29, .same (.slot 6)) :: (30, .v (.int .i64 s4)) :: (31, .v (.int .i64 v16)) :: (32, .v (.int .i64 s28)) :: (33, .v (.int .i64 v17)) :: (34, .v (.int .u64 v14)) :: (35, .v (.int .i64 s28)) :: (36, .v (.int .i64 v18)) :: (37, .v (.int .u64 v19)) :: (38, .v (.int .u8 v20)) :: (39, .eref (.slot 6) (v21 * 1)) :: (6, .fl (.own 5) 1 (List.map (Value.int .u8) v22)) :: [])) (init := [0, 1, 2, 3, 4]) (fin := [0, 16, 2, 3]) (sps := [⟨[1], [], [5], [(.slot 29)]⟩, ⟨[0], [], [6], [(.slot 30)]⟩, ⟨[6], [], [7], [(.slot 31)]⟩, ⟨[4], [], [8], [(.slot 32)]⟩, ⟨[7, 8], [], [9], [(.slot 33)]⟩, ⟨[2], [], [10], [(.slot 34)]⟩, ⟨[4], [], [11], [(.slot 35)]⟩, ⟨[11], [], [12], [(.slot 36)]⟩, ⟨[10, 12], [], [13], [(.slot 37)]⟩, ⟨[13], [], [14], [(.slot 38)]⟩, ⟨[5, 1, 9], [], [15], [(.slot 39)]⟩, ⟨[15, 14], [1], [16], []⟩]) (es' := [(_, _), (6, .fl (.own 5) 1 (List.map (Value.int .u8) v22)), (_, _), (_, _)]) (by kernel_rfl) rfl rfl
      ⟨st_plain rfl (op_move _ _ _ _ rfl rfl),
      st_plain rfl (op_move _ _ _ _ rfl rfl),
      st_plain rfl (op_bin _ _ _ _ _ rfl rfl (ibind (f := Value.int .i64) (Option.some.inj hv16))),
      st_plain rfl (op_move _ _ _ _ rfl rfl),
      st_plain rfl (op_bin _ _ _ _ _ rfl rfl (ibind (f := Value.int .i64) (Option.some.inj hv17))),
      st_plain rfl (op_move _ _ _ _ rfl rfl),
      st_plain rfl (op_move _ _ _ _ rfl rfl),
      st_plain rfl (op_bin _ _ _ _ _ rfl rfl (ibind (f := Value.int .i64) (Option.some.inj hv18))),
      st_plain rfl (op_bin _ _ _ _ _ rfl rfl (shr_ok hv19)),
      st_plain rfl ((Option.some.inj hv20) ▸ op_conv _ _ _ Tryd.underlying81 Tryd.underlying5 rfl),
      st_plain rfl (op_ix _ _ _ _ _ _ _ _ Tryd.underlying22 sz5 (by decide) rfl rfl rfl (ix_ok hv21).1 (map_lt (ix_ok hv21).2) rfl),
      st_plain rfl (op_store_e _ _ _ _ _ _ _ _ sz5 rfl rfl rfl (by decide) (map_lt (ix_ok hv21).2) ((map_set (f := Value.int .u8) _ (ix_ok hv21).2).trans (congrArg (List.map _) (Option.some.inj hv22)))),
      trivial⟩ ?_
     refine pt_inb ?_
     refine pt_then ?_
     obtain ⟨v23, hv23, h⟩ := bind_some h
     refine ht_seqR hn (El := [_, _, _, _, (40, .v (.int .i64 v23)), (26, .v (.int .i64 v23))]) (init := [0, 1, 2, 3]) (fin := [0, 1, 2, 5]) (sps := [⟨[3], [], [4], [(.slot 40)]⟩, ⟨[4], [3], [5], [(.slot 26)]⟩]) (es' := [(_, _), (_, _), (_, _), (26, .v (.int .i64 v23))]) (by kernel_rfl) rfl rfl
      ⟨st_plain rfl (op_bin _ _ _ _ _ rfl rfl (ibind (f := Value.int .i64) (Option.some.inj hv23))),
      st_plain rfl (LOp.drop [_] (op_move _ _ _ _ rfl rfl)),
      trivial⟩ ?_
     exact pt_next _ (Option.some.inj h).symm rfl
    ·have h := cond_f hb37 h
     refine ht_exit ?_
     refine pt_x_then ?_
     refine pt_x_then ?_
     refine pt_x_in ?_
     refine pt_pick [1] (by kernel_rfl) (es' := [(_, _)]) rfl ?_
     exact hl32 _ (ho34 _ (Option.some.inj h).symm).symm
  ·intro u5 h hl6 hr7
   refine ht_seq ?_
   obtain ⟨v1, hv1, h⟩ := bind_some h
   obtain ⟨v2, hv2, h⟩ := bind_some h
   refine ht_seqR hn (El := [_, _, _, (9, .fl .shr 1 (List.map (Value.int .u8) rest)), (10, .v (.int .i64 (rest.length : Int))), (11, .v (.int .i64 v1)), (12, .v (.int .i64 v2)), (13, .v (.bool ((decide (64 < v2)))))]) (init := [0, 1, 2]) (fin := [0, 1, 2, 7]) (sps := [⟨[0], [], [3], [(.slot 9)]⟩, ⟨[3], [], [4], [(.slot 10)]⟩, ⟨[4], [], [5], [(.slot 11)]⟩, ⟨[5], [], [6], [(.slot 12)]⟩, ⟨[6], [], [7], [(.slot 13)]⟩]) (es' := [(_, _), (_, _), (_, _), (13, .v (.bool ((decide (64 < v2)))))]) (by kernel_rfl) rfl rfl
    ⟨st_plain rfl (op_move _ _ _ _ rfl rfl),
    st_plain rfl (op_len_fl _ _ _ Tryd.underlying22 rfl (by decide) (map_len _)),
    st_plain rfl (op_bin _ _ _ _ _ rfl rfl (ibind (f := Value.int .i64) (Option.some.inj hv1))),
    st_plain rfl (op_bin _ _ _ _ _ rfl rfl (ibind (f := Value.int .i64) (Option.some.inj hv2))),
    st_plain rfl (op_bin _ _ _ _ _ rfl rfl rfl),
    trivial⟩ ?_
   refine pt_then ?_
   refine ht_cond _ rfl (fun hb8 => ?_) (fun hb8 => ?_)
   ·have h := cond_t hb8 h
    refine ht_seqR hn (El := [_, _, _, _, (5, .v (.int .i64 128))]) (init := [0, 1, 2, 3]) (fin := [0, 1, 4]) (sps := [⟨[], [2], [4], [(.slot 5)]⟩]) (es' := [(_, _), (_, _), (5, .v (.int .i64 128))]) (by kernel_rfl) rfl rfl
     ⟨st_plain rfl (LOp.drop [_] (op_assign _ _ _ _ rfl rfl)),
     trivial⟩ ?_
    exact hl6 _ (Option.some.inj h).symm
   ·have h := cond_f hb8 h
    refine ht_skip ?_
    refine pt_pick [0, 1, 2] (by kernel_rfl) (es' := [(_, _), (_, _), (_, _)]) rfl ?_
    exact hl6 _ (Option.some.inj h).symm

set_option maxHeartbeats 1000000 in
theorem ok_digest_Sum (mx : Int) (b : (List Int)) (r : (List Int)) (h : Sh.digest_Sum b = some r) : FnG Tryd.prog (GL mx) 31 [.fl .shr 1 (List.map (Value.int .u8) b)] (.v (.agg (List.map (Value.int .u8) r).toArray)) := by
  unfold Sh.digest_Sum at h
  refine fn_okG Tryd.func31 rfl (Nat.le_of_ble_eq_true rfl) rfl rfl fun g0 hn hio => ?_
  refine ht_seq ?_
  refine ht_seqR hn (El := [_, _, (2, .arr 37 (List.map (Value.int .u8) ((List.replicate 16 (0 : Int)))))]) (init := [0, 1]) (fin := [0, 1, 2]) (sps := [⟨[], [], [2], [(.slot 2)]⟩]) (es' := [(_, _), (_, _), (2, .arr 37 (List.map (Value.int .u8) ((List.replicate 16 (0 : Int)))))]) (by kernel_rfl) rfl rfl
   ⟨st_plain rfl (op_alloc_arr _ za37),
   trivial⟩ ?_
  refine pt_then ?_
  refine ht_seq ?_
  obtain ⟨v1, hv1, h⟩ := bind_some h
  obtain ⟨v2, hv2, h⟩ := bind_some h
  refine ht_seqR hn (El := [_, _, _, (10, .v (.agg (List.map (Value.int .u32) ([1732584193, 4023233417, 2562383102, 271733878] : List Int)).toArray)), (3, .arr 74 (List.map (Value.int .u32) ((List.replicate 4 (0 : Int))))), (3, .arr 74 (List.map (Value.int .u32) ([1732584193, 4023233417, 2562383102, 271733878] : List Int)))]) (init := [0, 1, 2]) (fin := [0, 1, 2, 5]) (sps := [⟨[], [], [3], [(.slot 10)]⟩, ⟨[], [], [4], [(.slot 3)]⟩, ⟨[3], [4], [5], []⟩]) (es' := [(_, _), (_, _), (_, _), (3, .arr 74 (List.map (Value.int .u32) ([1732584193, 4023233417, 2562383102, 271733878] : List Int)))]) (by kernel_rfl) rfl rfl
   ⟨st_plain rfl (op_build_arr _ _ (.agg #[.int .u32 0, .int .u32 0, .int .u32 0, .int .u32 0]) (List.map (Value.int .u32) ([1732584193, 4023233417, 2562383102, 271733878] : List Int)) [(0, .int .u32 1732584193), (1, .int .u32 4023233417), (2, .int .u32 2562383102), (3, .int .u32 271733878)] Tryd.underlying74 sz49 zr74 (fun _ V w o a hv hes => by simp only [List.map_toArray, List.map_cons, List.map_nil]; try rfl) (litfill (by simp [Instr.fill, Value.cells]; rfl) (by simp))),
   st_plain rfl (op_alloc_arr _ za74),
   st_plain rfl (op_storeA_arr _ _ _ _ (sz74.trans (congrArg some (ln_len hv2))) rfl rfl (ln_ones (fun _ => rfl) _) ((ln_len (f := Value.int .u32) hv1).symm.trans (ln_len (f := Value.int .u32) hv2))),
   trivial⟩ ?_
  refine pt_then ?_
  refine ht_seq ?_
  obtain ⟨v3, hv3, h⟩ := bind_some h
  obtain ⟨v4, hv4, h⟩ := bind_some h
  refine ht_seqR hn (El := [_, _, _, _, (11, .fl .shr 1 (List.map (Value.int .u8) b)), (12, .v (.int .i64 (b.length : Int))), (13, .v (.int .i64 v3)), (14, .v (.int .i64 v4)), (4, .v (.int .i64 v4))]) (init := [0, 1, 2, 3]) (fin := [0, 1, 2, 3, 8]) (sps := [⟨[0], [], [4], [(.slot 11)]⟩, ⟨[4], [], [5], [(.slot 12)]⟩, ⟨[5], [], [6], [(.slot 13)]⟩, ⟨[6], [], [7], [(.slot 14)]⟩, ⟨[7], [], [8], [(.slot 4)]⟩]) (es' := [(_, _), (_, _), (_, _), (_, _), (4, .v (.int .i64 v4))]) (by kernel_rfl) rfl rfl
   ⟨st_plain rfl (op_move _ _ _ _ rfl rfl),
   st_plain rfl (op_len_fl _ _ _ Tryd.underlying22 rfl (by decide) (map_len _)),
   st_plain rfl (op_bin _ _ _ _ _ rfl rfl (quo_ok hv3)),
   st_plain rfl (op_bin _ _ _ _ _ rfl rfl (ibind (f := Value.int .i64) (Option.some.inj hv4))),
   st_plain rfl (op_assign _ _ _ _ rfl rfl),
   trivial⟩ ?_
  refine pt_then ?_
  refine ht_seq ?_
  refine ht_seq ?_
  refine ht_seqR hn (El := [_, _, _, _, _, (5, .v (.int .i64 0))]) (init := [0, 1, 2, 3, 4]) (fin := [0, 1, 2, 3, 4, 5]) (sps := [⟨[], [], [5], [(.slot 5)]⟩]) (es' := [(_, _), (_, _), (_, _), (_, _), (_, _), (5, .v (.int .i64 0))]) (by kernel_rfl) rfl rfl
   ⟨st_plain rfl (op_assign _ _ _ _ rfl rfl),
   trivial⟩ ?_
  refine pt_then ?_
  refine ht_loopS h (fun ((s16, s17) : (List Int) × Int) => [(0, .fl .shr 1 (List.map (Value.int .u8) b)), (62, .glob (GL mx)), (2, .arr 37 (List.map (Value.int .u8) ((List.replicate 16 (0 : Int))))), (3, .arr 74 (List.map (Value.int .u32) s16)), (4, .v (.int .i64 v4)), (5, .v (.int .i64 s17))]) (fun (s19 : (List Int)) => [(0, .fl .shr 1 (List.map (Value.int .u8) b)), (62, .glob (GL mx)), (2, .arr 37 (List.map (Value.int .u8) ((List.replicate 16 (0 : Int))))), (3, .arr 74 (List.map (Value.int .u32) s19)), (4, .v (.int .i64 v4))]) ?_ ?_
  ·rintro s19 h
   refine pt_then ?_
   refine ht_seq ?_
   obtain ⟨v27, hv27, h⟩ := bind_some h
   obtain ⟨v28, hv28, h⟩ := bind_some h
   refine ht_seqR hn (El := [_, _, _, _, _, (27, .fl .shr 1 (List.map (Value.int .u8) b)), (28, .v (.int .i64 v4)), (29, .fl .shr 1 (List.map (Value.int .u8) v27)), (30, .fl .shr 1 (List.map (Value.int .u8) b)), (31, .v (.int .i64 (b.length : Int))), (32, .fl (.own 5) 1 (List.map (Value.int .u8) v28)), (6, .fl (.own 5) 1 (List.map (Value.int .u8) v28))]) (init := [0, 1, 2, 3, 4]) (fin := [1, 2, 3, 11]) (sps := [⟨[0], [], [5], [(.slot 27)]⟩, ⟨[4], [], [6], [(.slot 28)]⟩, ⟨[5, 6], [], [7], [(.slot 29)]⟩, ⟨[0], [], [8], [(.slot 30)]⟩, ⟨[8], [], [9], [(.slot 31)]⟩, ⟨[7, 9], [], [10], [(.slot 32)]⟩, ⟨[], [10], [11], [(.slot 6)]⟩]) (es' := [(_, _), (_, _), (_, _), (6, .fl (.own 5) 1 (List.map (Value.int .u8) v28))]) (by kernel_rfl) rfl rfl
    ⟨st_plain rfl (op_move _ _ _ _ rfl rfl),
    st_plain rfl (op_move _ _ _ _ rfl rfl),
    st_plain rfl (op_sl _ _ _ v4 (b.length : Int) _ Tryd.underlying22 sz5 rfl rfl ⟨_, rfl⟩ rfl hv27),
    st_plain rfl (op_move _ _ _ _ rfl rfl),
    st_plain rfl (op_len_fl _ _ _ Tryd.underlying22 rfl (by decide) (map_len _)),
    st_plain rfl (op_call _ _ 44 _ _ rfl Tryd.call44 rfl (ok_digest_padded v27 (b.length : Int) _ hv28) rfl rfl),
    st_plain rfl (op_assign_take _ _ _ _ rfl),
    trivial⟩ ?_
   refine pt_then ?_
   refine ht_seq ?_
   refine ht_seq ?_
   refine ht_seqR hn (El := [_, _, _, _, (7, .v (.int .i64 0))]) (init := [0, 1, 2, 3]) (fin := [0, 1, 2, 3, 4]) (sps := [⟨[], [], [4], [(.slot 7)]⟩]) (es' := [(_, _), (_, _), (_, _), (_, _), (7, .v (.int .i64 0))]) (by kernel_rfl) rfl rfl
    ⟨st_plain rfl (op_assign _ _ _ _ rfl rfl),
    trivial⟩ ?_
   refine pt_then ?_
   refine ht_frz 3 hio (es' := [(62, .glob (GL mx)), (2, .arr 37 (List.map (Value.int .u8) ((List.replicate 16 (0 : Int))))), (3, .arr 74 (List.map (Value.int .u32) s19)), (6, .fl .ro 1 (List.map (Value.int .u8) v28)), (7, .v (.int .i64 0))]) rfl ?_
   refine ht_loopS h (fun ((s41, s42, s43) : (List Int) × (List Int) × Int) => [(62, .glob (GL mx)), (2, .arr 37 (List.map (Value.int .u8) ((List.replicate 16 (0 : Int))))), (3, .arr 74 (List.map (Value.int .u32) s41)), (6, .fl .ro 1 (List.map (Value.int .u8) s42)), (7, .v (.int .i64 s43))]) (fun (s45 : (List Int)) => [(62, .glob (GL mx)), (2, .arr 37 (List.map (Value.int .u8) ((List.replicate 16 (0 : Int))))), (3, .arr 74 (List.map (Value.int .u32) s45))]) ?_ ?_
   ·rintro s45 h
    refine pt_then ?_
    refine ht_seq ?_
    refine ht_seqR hn (El := [_, _, _, (8, .arr 37 (List.map (Value.int .u8) ((List.replicate 16 (0 : Int)))))]) (init := [0, 1, 2]) (fin := [0, 1, 2, 3]) (sps := [⟨[], [], [3], [(.slot 8)]⟩]) (es' := [(_, _), (_, _), (_, _), (8, .arr 37 (List.map (Value.int .u8) ((List.replicate 16 (0 : Int)))))]) (by kernel_rfl) rfl rfl
     ⟨st_plain rfl (op_alloc_arr _ za37),
     trivial⟩ ?_
    refine pt_then ?_
    refine ht_seq ?_
    refine ht_seq ?_
    refine ht_seqR hn (El := [_, _, _, _, (46, .v (.int .i64 0))]) (init := [0, 1, 2, 3]) (fin := [0, 1, 2, 3, 4]) (sps := [⟨[], [], [4], [(.slot 46)]⟩]) (es' := [(_, _), (_, _), (_, _), (_, _), (46, .v (.int .i64 0))]) (by kernel_rfl) rfl rfl
     ⟨st_plain rfl (op_move _ _ _ _ rfl rfl),
     trivial⟩ ?_
    refine pt_then ?_
    refine ht_loopS h (fun ((s67, s68) : (List Int) × Int) => [(62, .glob (GL mx)), (2, .arr 37 (List.map (Value.int .u8) ((List.replicate 16 (0 : Int))))), (3, .arr 74 (List.map (Value.int .u32) s45)), (8, .arr 37 (List.map (Value.int .u8) s67)), (46, .v (.int .i64 s68))]) (fun (s70 : (List Int)) => [(62, .glob (GL mx)), (2, .arr 37 (List.map (Value.int .u8) ((List.replicate 16 (0 : Int))))), (8, .arr 37 (List.map (Value.int .u8) s70))]) ?_ ?_
    ·rintro s70 h
     refine pt_then ?_
     refine ht_seq ?_
     obtain ⟨v78, hv78, h⟩ := bind_some h
     obtain ⟨v79, hv79, h⟩ := bind_some h
     obtain ⟨v80, hv80, h⟩ := bind_some h
     refine ht_seqR hn (El := [_, _, _, (61, .v (.agg (List.map (Value.int .u8) s70).toArray)), (2, .arr 37 (List.map (Value.int .u8) s70))]) (init := [0, 1, 2]) (fin := [0, 4]) (sps := [⟨[2], [], [3], [(.slot 61)]⟩, ⟨[3], [1], [4], []⟩]) (es' := [(_, _), (2, .arr 37 (List.map (Value.int .u8) s70))]) (by kernel_rfl) rfl rfl
      ⟨st_plain rfl (op_loadA_arr _ _ _ _ Tryd.underlying37 rfl (sz37.trans (congrArg some (ln_len hv78))) rfl rfl),
      st_plain rfl (op_storeA_arr _ _ _ _ (sz37.trans (congrArg some (ln_len hv80))) rfl rfl (ln_ones (fun _ => rfl) _) ((ln_len (f := Value.int .u8) hv79).symm.trans (ln_len (f := Value.int .u8) hv80))),
      trivial⟩ ?_
     refine pt_then ?_
     refine ht_ret ?_
     obtain ⟨v81, hv81, h⟩ := bind_some h
     refine pt_pick [1] (by kernel_rfl) (es' := [(_, _)]) rfl ?_
     obtain rfl := Option.some.inj h
     exact pt_ret hio rfl (.cellR _ _ _ _ Tryd.underlying37 rfl (sz37.trans (congrArg some (ln_len hv81))) .nil) rfl rfl
    ·rintro u71 hl72 hr73 ⟨s67, s68⟩ rr76 h ho74
     refine ht_seq ?_
     refine ht_seqR hn (El := [_, _, _, _, _, (47, .v (.bool ((decide (s68 < 16)))))]) (init := [0, 1, 2, 3, 4]) (fin := [0, 1, 2, 3, 4, 5]) (sps := [⟨[4], [], [5], [(.slot 47)]⟩]) (es' := [(_, _), (_, _), (_, _), (_, _), (_, _), (47, .v (.bool ((decide (s68 < 16)))))]) (by kernel_rfl) rfl rfl
      ⟨st_plain rfl (op_bin _ _ _ _ _ rfl rfl rfl),
      trivial⟩ ?_
     refine pt_then ?_
     refine ht_seq ?_
     refine ht_cond _ rfl (fun hb77 => ?_) (fun hb77 => ?_)
     ·have h := cond_t hb77 h
      refine ht_skip ?_
      refine pt_then ?_
      refine ht_seq ?_
      refine ht_block ?_
      refine ht_seq ?_
      refine ht_seqR hn (El := [_, _, _, _, _, _, (48, .v (.int .i64 s68)), (9, .v (.int .i64 s68))]) (init := [0, 1, 2, 3, 4, 5]) (fin := [0, 1, 2, 3, 4, 7]) (sps := [⟨[4], [], [6], [(.slot 48)]⟩, ⟨[6], [], [7], [(.slot 9)]⟩]) (es' := [(_, _), (_, _), (_, _), (_, _), (_, _), (9, .v (.int .i64 s68))]) (by kernel_rfl) rfl rfl
       ⟨st_plain rfl (op_move _ _ _ _ rfl rfl),
       st_plain rfl (op_assign _ _ _ _ rfl rfl),
       trivial⟩ ?_
      refine pt_then ?_
      obtain ⟨v54, hv54, h⟩ := bind_some h
      obtain ⟨v55, hv55, h⟩ := bind_some h
      obtain ⟨v56, hv56, h⟩ := bind_some h
      obtain ⟨v57, hv57, h⟩ := bind_some h
      obtain ⟨v58, hv58, h⟩ := bind_some h
      obtain ⟨v59, hv59, h⟩ := bind_some h
      obtain ⟨v60, hv60, h⟩ := bind_some h
      obtain ⟨v61, hv61, h⟩ := bind_some h
      obtain ⟨v62, hv62, h⟩ := bind_some h
      refine ht_seqR hn (El := (_ :: _ :: _ :: _ :: _ :: _ :: (49, .v (.int .i64 s68)) :: (50, .v (.int .i64 s68)) :: (51, .v (.int .i64 v54)) :: (52, .ptr 3 v55) :: (53, .v (.int .u32 v56)) :: (54, .v (.int .i64 s68)) :: (55, .v (.int .i64 v57)) :: (56, .v (.int .i64 v58)) :: (57, .v (.int .u32 v59)) :: (58, .v (.int .u8 v60)) :: (59, .ptr 8 v61) :: (8, .arr 37 (List.map (Value.int .u8) v62)) :: [])) (init := [0, 1, 2, 3, 4, 5]) (fin := [0, 1, 2, 17, 4]) (sps := [⟨[5], [], [6], [(.slot 49)]⟩, ⟨[5], [], [7], [(.slot 50)]⟩, ⟨[7], [], [8], [(.slot 51)]⟩, ⟨[2, 8], [], [9], [(.slot 52)]⟩, ⟨[9, 2], [], [10], [(.slot 53)]⟩, ⟨[5], [], [11], [(.slot 54)]⟩, ⟨[11], [], [12], [(.slot 55)]⟩, ⟨[12], [], [13], [(.slot 56)]⟩, ⟨[10, 13], [], [14], [(.slot 57)]⟩, ⟨[14], [], [15], [(.slot 58)]⟩, ⟨[3, 6], [], [16], [(.slot 59)]⟩, ⟨[16, 15], [3], [17], []⟩]) (es' := [(_, _), (_, _), (_, _), (8, .arr 37 (List.map (Value.int .u8) v62)), (_, _)]) (by kernel_rfl) rfl rfl
       ⟨st_plain rfl (op_move _ _ _ _ rfl rfl),
       st_plain rfl (op_move _ _ _ _ rfl rfl),
       st_plain rfl (op_bin _ _ _ _ _ rfl rfl (quo_ok hv54)),
       st_plain rfl (op_ix_arr _ _ _ _ 4 3 _ Tryd.underlying74 sz49 rfl rfl (ix_ok hv55).1 (ix_ok hv55).2 (by decide)),
       st_plain rfl (op_load_arr _ _ _ _ _ _ Tryd.underlying49 rfl rfl rfl (map_get1 hv56)),
       st_plain rfl (op_move _ _ _ _ rfl rfl),
       st_plain rfl (op_bin _ _ _ _ _ rfl rfl (rem_ok hv57)),
       st_plain rfl (op_bin _ _ _ _ _ rfl rfl (ibind (f := Value.int .i64) (Option.some.inj hv58))),
       st_plain rfl (op_bin _ _ _ _ _ rfl rfl (shr_ok hv59)),
       st_plain rfl ((Option.some.inj hv60) ▸ op_conv _ _ _ Tryd.underlying49 Tryd.underlying5 rfl),
       st_plain rfl (op_ix_arr _ _ _ _ 16 8 _ Tryd.underlying37 sz5 rfl rfl (ix_ok hv61).1 (ix_ok hv61).2 (by decide)),
       st_plain rfl (op_store_arr _ _ _ _ _ _ sz5 rfl rfl rfl rfl (set_lt hv62) (set_eq (f := Value.int .u8) hv62)),
       trivial⟩ ?_
      refine pt_inb ?_
      refine pt_then ?_
      obtain ⟨v63, hv63, h⟩ := bind_some h
      refine ht_seqR hn (El := [_, _, _, _, _, (60, .v (.int .i64 v63)), (46, .v (.int .i64 v63))]) (init := [0, 1, 2, 3, 4]) (fin := [0, 1, 2, 3, 6]) (sps := [⟨[4], [], [5], [(.slot 60)]⟩, ⟨[5], [4], [6], [(.slot 46)]⟩]) (es' := [(_, _), (_, _), (_, _), (_, _), (46, .v (.int .i64 v63))]) (by kernel_rfl) rfl rfl
       ⟨st_plain rfl (op_bin _ _ _ _ _ rfl rfl (ibind (f := Value.int .i64) (Option.some.inj hv63))),
       st_plain rfl (LOp.drop [_] (op_move _ _ _ _ rfl rfl)),
       trivial⟩ ?_
      exact pt_next _ (Option.some.inj h).symm rfl
     ·have h := cond_f hb77 h
      refine ht_exit ?_
      refine pt_x_then ?_
      refine pt_x_then ?_
      refine pt_x_in ?_
      refine pt_pick [0, 1, 3] (by kernel_rfl) (es' := [(_, _), (_, _), (_, _)]) rfl ?_
      exact hl72 _ (ho74 _ (Option.some.inj h).symm).symm
   ·rintro u46 hl47 hr48 ⟨s41, s42, s43⟩ rr51 h ho49
    refine ht_seq ?_
    refine ht_seq ?_
    refine ht_seqR hn (El := [_, _, _, _, _, (33, .v (.int .i64 s43)), (34, .fl .ro 1 (List.map (Value.int .u8) s42)), (35, .v (.int .i64 (s42.length : Int))), (36, .v (.bool ((decide (s43 < (s42.length : Int))))))]) (init := [0, 1, 2, 3, 4]) (fin := [0, 1, 2, 3, 4, 8]) (sps := [⟨[4], [], [5], [(.slot 33)]⟩, ⟨[3], [], [6], [(.slot 34)]⟩, ⟨[6], [], [7], [(.slot 35)]⟩, ⟨[5, 7], [], [8], [(.slot 36)]⟩]) (es' := [(_, _), (_, _), (_, _), (_, _), (_, _), (36, .v (.bool ((decide (s43 < (s42.length : Int))))))]) (by kernel_rfl) rfl rfl
     ⟨st_plain rfl (op_move _ _ _ _ rfl rfl),
     st_plain rfl (op_move _ _ _ _ rfl rfl),
     st_plain rfl (op_len_fl _ _ _ Tryd.underlying22 rfl (by decide) (map_len _)),
     st_plain rfl (op_bin _ _ _ _ _ rfl rfl rfl),
     trivial⟩ ?_
    refine pt_then ?_
    refine ht_cond _ rfl (fun hb52 => ?_) (fun hb52 => ?_)
    ·have h := cond_t hb52 h
     refine ht_skip ?_
     refine pt_then ?_
     refine ht_seq ?_
     refine ht_block ?_
     obtain ⟨v30, hv30, h⟩ := bind_some h
     obtain ⟨v31, hv31, h⟩ := bind_some h
     obtain ⟨v32, hv32, h⟩ := bind_some h
     obtain ⟨v33, hv33, h⟩ := bind_some h
     obtain ⟨v34, hv34, h⟩ := bind_some h
     obtain ⟨v35, hv35, h⟩ := bind_some h
     refine ht_anyR (by kernel_rfl) hn (El := [_, _, _, _, _, _, (39, .v (.agg (List.map (Value.int .u32) s41).toArray)), (40, .fl .ro 1 (List.map (Value.int .u8) s42)), (41, .v (.int .i64 s43)), (42, .v (.int .i64 s43)), (43, .v (.int .i64 v31)), (44, .fl .ro 1 (List.map (Value.int .u8) v32)), (45, .v (.agg (List.map (Value.int .u32) v33).toArray)), (3, .arr 74 (List.map (Value.int .u32) v33))]) (init := [0, 1, 2, 3, 4, 5]) (fin := [0, 1, 13, 3, 4]) (sps := [⟨[2], [], [6], [(.slot 39)]⟩, ⟨[3], [], [7], [(.slot 40)]⟩, ⟨[4], [], [8], [(.slot 41)]⟩, ⟨[4], [], [9], [(.slot 42)]⟩, ⟨[9], [], [10], [(.slot 43)]⟩, ⟨[7, 8, 10], [], [11], [(.slot 44)]⟩, ⟨[6, 11, 0], [], [12], [(.slot 45)]⟩, ⟨[12], [2], [13], []⟩]) (es' := [(_, _), (_, _), (3, .arr 74 (List.map (Value.int .u32) v33)), (_, _), (_, _)]) (by kernel_rfl) rfl rfl
      ⟨st_plain rfl (op_loadA_arr _ _ _ _ Tryd.underlying74 rfl (sz74.trans (congrArg some (ln_len hv30))) rfl rfl),
      st_plain rfl (op_move _ _ _ _ rfl rfl),
      st_plain rfl (op_move _ _ _ _ rfl rfl),
      st_plain rfl (op_move _ _ _ _ rfl rfl),
      st_plain rfl (op_bin _ _ _ _ _ rfl rfl (ibind (f := Value.int .i64) (Option.some.inj hv31))),
      st_plain rfl (op_sl _ _ _ s43 v31 _ Tryd.underlying22 sz5 rfl rfl ⟨_, rfl⟩ ⟨_, rfl⟩ hv32),
      st_plain rfl (op_callG _ _ 62 43 _ _ rfl Tryd.call43 rfl rfl (fun _ h => h) (ok_digest_state_block mx s41 v32 _ hv33) rfl rfl),
      st_plain rfl (op_storeA_arr _ _ _ _ (sz74.trans (congrArg some (ln_len hv35))) rfl rfl (ln_ones (fun _ => rfl) _) ((ln_len (f := Value.int .u32) hv34).symm.trans (ln_len (f := Value.int .u32) hv35))),
      trivial⟩ ?_
     refine pt_inb ?_
     refine pt_then ?_
     obtain ⟨v36, hv36, h⟩ := bind_some h
     refine ht_seqR hn (El := [_, _, _, _, _, (37, .v (.int .i64 s43)), (38, .v (.int .i64 v36)), (7, .v (.int .i64 v36))]) (init := [0, 1, 2, 3, 4]) (fin := [0, 1, 2, 3, 7]) (sps := [⟨[4], [], [5], [(.slot 37)]⟩, ⟨[5], [], [6], [(.slot 38)]⟩, ⟨[6], [4], [7], [(.slot 7)]⟩]) (es' := [(_, _), (_, _), (_, _), (_, _), (7, .v (.int .i64 v36))]) (by kernel_rfl) rfl rfl
      ⟨st_plain rfl (op_move _ _ _ _ rfl rfl),
      st_plain rfl (op_bin _ _ _ _ _ rfl rfl (ibind (f := Value.int .i64) (Option.some.inj hv36))),
      st_plain rfl (LOp.drop [_] (op_assign _ _ _ _ rfl rfl)),
      trivial⟩ ?_
     exact pt_next _ (Option.some.inj h).symm rfl
    ·have h := cond_f hb52 h
     refine ht_exit ?_
     refine pt_x_then ?_
     refine pt_x_then ?_
     refine pt_x_in ?_
     refine pt_pick [0, 1, 2] (by kernel_rfl) (es' := [(_, _), (_, _), (_, _)]) rfl ?_
     exact hl47 _ (ho49 _ (Option.some.inj h).symm).symm
  ·rintro u20 hl21 hr22 ⟨s16, s17⟩ rr25 h ho23
   refine ht_seq ?_
   refine ht_seq ?_
   refine ht_seqR hn (El := [_, _, _, _, _, _, (15, .v (.int .i64 s17)), (16, .v (.int .i64 v4)), (17, .v (.bool ((decide (s17 < v4)))))]) (init := [0, 1, 2, 3, 4, 5]) (fin := [0, 1, 2, 3, 4, 5, 8]) (sps := [⟨[5], [], [6], [(.slot 15)]⟩, ⟨[4], [], [7], [(.slot 16)]⟩, ⟨[6, 7], [], [8], [(.slot 17)]⟩]) (es' := [(_, _), (_, _), (_, _), (_, _), (_, _), (_, _), (17, .v (.bool ((decide (s17 < v4)))))]) (by kernel_rfl) rfl rfl
    ⟨st_plain rfl (op_move _ _ _ _ rfl rfl),
    st_plain rfl (op_move _ _ _ _ rfl rfl),
    st_plain rfl (op_bin _ _ _ _ _ rfl rfl rfl),
    trivial⟩ ?_
   refine pt_then ?_
   refine ht_cond _ rfl (fun hb26 => ?_) (fun hb26 => ?_)
   ·have h := cond_t hb26 h
    refine ht_skip ?_
    refine pt_then ?_
    refine ht_seq ?_
    refine ht_block ?_
    obtain ⟨v6, hv6, h⟩ := bind_some h
    obtain ⟨v7, hv7, h⟩ := bind_some h
    obtain ⟨v8, hv8, h⟩ := bind_some h
    obtain ⟨v9, hv9, h⟩ := bind_some h
    obtain ⟨v10, hv10, h⟩ := bind_some h
    obtain ⟨v11, hv11, h⟩ := bind_some h
    refine ht_anyR (by kernel_rfl) hn (El := (_ :: _ :: _ :: _ :: _ :: _ :: _ :: (20, .v (.agg (List.map (Value.int .u32) s16).toArray)) :: (21, .fl .shr 1 (List.map (Value.int .u8) b)) :: (22, .v (.int .i64 s17)) :: (23, .v (.int .i64 s17)) :: (24, .v (.int .i64 v7)) :: (25, .fl .shr 1 (List.map (Value.int .u8) v8)) :: (26, .v (.agg (List.map (Value.int .u32) v9).toArray)) :: (3, .arr 74 (List.map (Value.int .u32) v9)) :: [])) (init := [0, 1, 2, 3, 4, 5, 6]) (fin := [0, 1, 2, 14, 4, 5]) (sps := [⟨[3], [], [7], [(.slot 20)]⟩, ⟨[0], [], [8], [(.slot 21)]⟩, ⟨[5], [], [9], [(.slot 22)]⟩, ⟨[5], [], [10], [(.slot 23)]⟩, ⟨[10], [], [11], [(.slot 24)]⟩, ⟨[8, 9, 11], [], [12], [(.slot 25)]⟩, ⟨[7, 12, 1], [], [13], [(.slot 26)]⟩, ⟨[13], [3], [14], []⟩]) (es' := [(_, _), (_, _), (_, _), (3, .arr 74 (List.map (Value.int .u32) v9)), (_, _), (_, _)]) (by kernel_rfl) rfl rfl
     ⟨st_plain rfl (op_loadA_arr _ _ _ _ Tryd.underlying74 rfl (sz74.trans (congrArg some (ln_len hv6))) rfl rfl),
     st_plain rfl (op_move _ _ _ _ rfl rfl),
     st_plain rfl (op_move _ _ _ _ rfl rfl),
     st_plain rfl (op_move _ _ _ _ rfl rfl),
     st_plain rfl (op_bin _ _ _ _ _ rfl rfl (ibind (f := Value.int .i64) (Option.some.inj hv7))),
     st_plain rfl (op_sl _ _ _ s17 v7 _ Tryd.underlying22 sz5 rfl rfl ⟨_, rfl⟩ ⟨_, rfl⟩ hv8),
     st_plain rfl (op_callG _ _ 62 43 _ _ rfl Tryd.call43 rfl rfl (fun _ h => h) (ok_digest_state_block mx s16 v8 _ hv9) rfl rfl),
     st_plain rfl (op_storeA_arr _ _ _ _ (sz74.trans (congrArg some (ln_len hv11))) rfl rfl (ln_ones (fun _ => rfl) _) ((ln_len (f := Value.int .u32) hv10).symm.trans (ln_len (f := Value.int .u32) hv11))),
     trivial⟩ ?_
    refine pt_inb ?_
    refine pt_then ?_
    obtain ⟨v12, hv12, h⟩ := bind_some h
    refine ht_seqR hn (El := [_, _, _, _, _, _, (18, .v (.int .i64 s17)), (19, .v (.int .i64 v12)), (5, .v (.int .i64 v12))]) (init := [0, 1, 2, 3, 4, 5]) (fin := [0, 1, 2, 3, 4, 8]) (sps := [⟨[5], [], [6], [(.slot 18)]⟩, ⟨[6], [], [7], [(.slot 19)]⟩, ⟨[7], [5], [8], [(.slot 5)]⟩]) (es' := [(_, _), (_, _), (_, _), (_, _), (_, _), (5, .v (.int .i64 v12))]) (by kernel_rfl) rfl rfl
     ⟨st_plain rfl (op_move _ _ _ _ rfl rfl),
     st_plain rfl (op_bin _ _ _ _ _ rfl rfl (ibind (f := Value.int .i64) (Option.some.inj hv12))),
     st_plain rfl (LOp.drop [_] (op_assign _ _ _ _ rfl rfl)),
     trivial⟩ ?_
    exact pt_next _ (Option.some.inj h).symm rfl
   ·have h := cond_f hb26 h
    refine ht_exit ?_
    refine pt_x_then ?_
    refine pt_x_then ?_
    refine pt_x_in ?_
    refine pt_pick [0, 1, 2, 3, 4] (by kernel_rfl) (es' := [(_, _), (_, _), (_, _), (_, _), (_, _)]) rfl ?_
    exact hl21 _ (ho23 _ (Option.some.inj h).symm).symm

set_option maxHeartbeats 1000000 in
theorem ok_digest_Keyed (mx : Int) (key : (List Int)) (text : (List Int)) (r : (List Int)) (h : Sh.digest_Keyed key text = some r) : FnG Tryd.prog (GL mx) 20 [.fl .shr 1 (List.map (Value.int .u8) key), .fl .shr 1 (List.map (Value.int .u8) text)] (.v (.agg (List.map (Value.int .u8) r).toArray)) := by
  unfold Sh.digest_Keyed at h
  refine fn_okG Tryd.func20 rfl (Nat.le_of_ble_eq_true rfl) rfl rfl fun g0 hn hio => ?_
  refine ht_seq ?_
  refine ht_seqR hn (El := [_, _, _, (4, .arr 37 (List.map (Value.int .u8) ((List.replicate 16 (0 : Int)))))]) (init := [0, 1, 2]) (fin := [0, 1, 2, 3]) (sps := [⟨[], [], [3], [(.slot 4)]⟩]) (es' := [(_, _), (_, _), (_, _), (4, .arr 37 (List.map (Value.int .u8) ((List.replicate 16 (0 : Int)))))]) (by kernel_rfl) rfl rfl
   ⟨st_plain rfl (op_alloc_arr _ za37),
   trivial⟩ ?_
  refine pt_then ?_
  refine ht_seq ?_
  refine ht_seqR hn (El := [_, _, _, _, (5, .arr 57 (List.map (Value.int .u8) ((List.replicate 64 (0 : Int)))))]) (init := [0, 1, 2, 3]) (fin := [0, 1, 2, 3, 4]) (sps := [⟨[], [], [4], [(.slot 5)]⟩]) (es' := [(_, _), (_, _), (_, _), (_, _), (5, .arr 57 (List.map (Value.int .u8) ((List.replicate 64 (0 : Int)))))]) (by kernel_rfl) rfl rfl
   ⟨st_plain rfl (op_alloc_arr _ za57),
   trivial⟩ ?_
  refine pt_then ?_
  refine ht_seq ?_
  refine ht_joinS h (fun (s8 : (List Int)) => [(1, .fl .shr 1 (List.map (Value.int .u8) text)), (51, .glob (GL mx)), (4, .arr 37 (List.map (Value.int .u8) ((List.replicate 16 (0 : Int))))), (5, .arr 57 (List.map (Value.int .u8) s8))]) ?_ ?_
  ·rintro s8 h
   refine pt_then ?_
   refine ht_seq ?_
   obtain ⟨v13, hv13, h⟩ := bind_some h
   obtain ⟨v14, hv14, h⟩ := bind_some h
   refine ht_seqR hn (El := [_, _, _, _, (23, .fl .shr 1 (List.map (Value.int .u8) text)), (24, .v (.int .i64 (text.length : Int))), (25, .v (.int .i64 v13)), (26, .fl (.own 5) 1 (List.map (Value.int .u8) ([] : List Int))), (7, .fl (.own 5) 1 (List.map (Value.int .u8) ([] : List Int)))]) (init := [0, 1, 2, 3]) (fin := [0, 1, 2, 3, 8]) (sps := [⟨[0], [], [4], [(.slot 23)]⟩, ⟨[4], [], [5], [(.slot 24)]⟩, ⟨[5], [], [6], [(.slot 25)]⟩, ⟨[6], [], [7], [(.slot 26)]⟩, ⟨[], [7], [8], [(.slot 7)]⟩]) (es' := [(_, _), (_, _), (_, _), (_, _), (7, .fl (.own 5) 1 (List.map (Value.int .u8) ([] : List Int)))]) (by kernel_rfl) rfl rfl
    ⟨st_plain rfl (op_move _ _ _ _ rfl rfl),
    st_plain rfl (op_len_fl _ _ _ Tryd.underlying22 rfl (by decide) (map_len _)),
    st_plain rfl (op_bin _ _ _ _ _ rfl rfl (ibind (f := Value.int .i64) (Option.some.inj hv13))),
    st_plain rfl (op_mk0 _ _ _ _ el22 (by decide) rfl rfl hv14),
    st_plain rfl (op_assign_take _ _ _ _ rfl),
    trivial⟩ ?_
   refine pt_then ?_
   refine ht_seq ?_
   obtain ⟨v15, hv15, h⟩ := bind_some h
   refine ht_seqR hn (El := [_, _, _, _, _, (27, .fl (.own 5) 1 (List.map (Value.int .u8) ([] : List Int))), (8, .fl (.own 5) 1 (List.map (Value.int .u8) ([] : List Int)))]) (init := [0, 1, 2, 3, 4]) (fin := [0, 1, 2, 3, 4, 6]) (sps := [⟨[], [], [5], [(.slot 27)]⟩, ⟨[], [5], [6], [(.slot 8)]⟩]) (es' := [(_, _), (_, _), (_, _), (_, _), (_, _), (8, .fl (.own 5) 1 (List.map (Value.int .u8) ([] : List Int)))]) (by kernel_rfl) rfl rfl
    ⟨st_plain rfl (op_mk0 _ _ _ _ el22 (by decide) rfl rfl hv15),
    st_plain rfl (op_assign_take _ _ _ _ rfl),
    trivial⟩ ?_
   refine pt_then ?_
   refine ht_seq ?_
   refine ht_seq ?_
   obtain ⟨v16, hv16, h⟩ := bind_some h
   refine ht_seqR hn (El := [_, _, _, _, _, _, (28, .v (.agg (List.map (Value.int .u8) s8).toArray)), (29, .v (.int .i64 0))]) (init := [0, 1, 2, 3, 4, 5]) (fin := [0, 1, 2, 4, 5, 6, 7]) (sps := [⟨[3], [], [6], [(.slot 28)]⟩, ⟨[], [], [7], [(.slot 29)]⟩]) (es' := [(_, _), (_, _), (_, _), (_, _), (_, _), (28, .v (.agg (List.map (Value.int .u8) s8).toArray)), (29, .v (.int .i64 0))]) (by kernel_rfl) rfl rfl
    ⟨st_plain rfl (op_loadA_arr _ _ _ _ Tryd.underlying57 rfl (sz57.trans (congrArg some (ln_len hv16))) rfl rfl),
    st_plain rfl (op_move _ _ _ _ rfl rfl),
    trivial⟩ ?_
   refine pt_then ?_
   refine ht_loopS h (fun ((s29, s30, s31) : (List Int) × (List Int) × Int) => [(1, .fl .shr 1 (List.map (Value.int .u8) text)), (51, .glob (GL mx)), (4, .arr 37 (List.map (Value.int .u8) ((List.replicate 16 (0 : Int))))), (7, .fl (.own 5) 1 (List.map (Value.int .u8) s29)), (8, .fl (.own 5) 1 (List.map (Value.int .u8) s30)), (28, .v (.agg (List.map (Value.int .u8) s8).toArray)), (29, .v (.int .i64 s31))]) (fun ((s33, s34) : (List Int) × (List Int)) => [(1, .fl .shr 1 (List.map (Value.int .u8) text)), (51, .glob (GL mx)), (4, .arr 37 (List.map (Value.int .u8) ((List.replicate 16 (0 : Int))))), (7, .fl (.own 5) 1 (List.map (Value.int .u8) s33)), (8, .fl (.own 5) 1 (List.map (Value.int .u8) s34))]) ?_ ?_
   ·rintro ⟨s33, s34⟩ h
    refine pt_then ?_
    refine ht_seq ?_
    obtain ⟨v42, hv42, h⟩ := bind_some h
    obtain ⟨v43, hv43, h⟩ := bind_some h
    obtain ⟨v44, hv44, h⟩ := bind_some h
    obtain ⟨v45, hv45, h⟩ := bind_some h
    refine ht_seqR hn (El := [_, _, _, _, _, (43, .fl (.own 5) 1 (List.map (Value.int .u8) s33)), (44, .fl .shr 1 (List.map (Value.int .u8) text)), (45, .fl (.own 5) 1 (List.map (Value.int .u8) v42)), (43, .any), (46, .v (.agg (List.map (Value.int .u8) v43).toArray)), (11, .arr 37 (List.map (Value.int .u8) ((List.replicate 16 (0 : Int))))), (11, .arr 37 (List.map (Value.int .u8) v43))]) (init := [0, 1, 2, 3, 4]) (fin := [1, 2, 4, 11]) (sps := [⟨[], [3], [5], [(.slot 43)]⟩, ⟨[0], [], [6], [(.slot 44)]⟩, ⟨[6], [5], [8, 7], [(.slot 45)]⟩, ⟨[7, 1], [], [9], [(.slot 46)]⟩, ⟨[], [], [10], [(.slot 11)]⟩, ⟨[9], [10], [11], []⟩]) (es' := [(_, _), (_, _), (_, _), (11, .arr 37 (List.map (Value.int .u8) v43))]) (by kernel_rfl) rfl rfl
     ⟨st_plain rfl (op_move_take _ _ _ _ rfl),
     st_plain rfl (op_move _ _ _ _ rfl rfl),
     st_plain rfl (op_app _ _ _ _ _ el22 rfl rfl (map_len _) (map_len _) hv42 ((List.map_append).symm.trans (congrArg (List.map _) (app_eq hv42)))),
     st_plain rfl (op_callG _ _ 51 31 _ _ rfl Tryd.call31 rfl rfl (fun _ h => h) (ok_digest_Sum mx v42 _ hv43) rfl rfl),
     st_plain rfl (op_alloc_arr _ za37),
     st_plain rfl (op_storeA_arr _ _ _ _ (sz37.trans (congrArg some (ln_len hv45))) rfl rfl (ln_ones (fun _ => rfl) _) ((ln_len (f := Value.int .u8) hv44).symm.trans (ln_len (f := Value.int .u8) hv45))),
     trivial⟩ ?_
    refine pt_then ?_
    refine ht_seq ?_
    obtain ⟨v46, hv46, h⟩ := bind_some h
    obtain ⟨v47, hv47, h⟩ := bind_some h
    obtain ⟨v48, hv48, h⟩ := bind_some h
    obtain ⟨v49, hv49, h⟩ := bind_some h
    obtain ⟨v50, hv50, h⟩ := bind_some h
    refine ht_seqR hn (El := [_, _, _, _, (47, .fl (.own 5) 1 (List.map (Value.int .u8) s34)), (48, .fl .ro 1 (List.map (Value.int .u8) v43)), (11, .any), (49, .fl (.own 5) 1 (List.map (Value.int .u8) v47)), (47, .any), (50, .v (.agg (List.map (Value.int .u8) v48).toArray)), (4, .arr 37 (List.map (Value.int .u8) v48))]) (init := [0, 1, 2, 3]) (fin := [0, 10]) (sps := [⟨[], [2], [4], [(.slot 47)]⟩, ⟨[], [3], [6, 5], [(.slot 48)]⟩, ⟨[5], [4], [8, 7], [(.slot 49)]⟩, ⟨[7, 0], [], [9], [(.slot 50)]⟩, ⟨[9], [1], [10], []⟩]) (es' := [(_, _), (4, .arr 37 (List.map (Value.int .u8) v48))]) (by kernel_rfl) rfl rfl
     ⟨st_plain rfl (op_move_take _ _ _ _ rfl),
     st_plain rfl (op_slice_frz _ _ 11 16 _ Tryd.underlying37 sz5 rfl (ln_len hv46).symm (ln_ones (fun _ => rfl) _)),
     st_plain rfl (op_app _ _ _ _ _ el22 rfl rfl (map_len _) (map_len _) hv47 ((List.map_append).symm.trans (congrArg (List.map _) (app_eq hv47)))),
     st_plain rfl (op_callG _ _ 51 31 _ _ rfl Tryd.call31 rfl rfl (fun _ h => h) (ok_digest_Sum mx v47 _ hv48) rfl rfl),
     st_plain rfl (op_storeA_arr _ _ _ _ (sz37.trans (congrArg some (ln_len hv50))) rfl rfl (ln_ones (fun _ => rfl) _) ((ln_len (f := Value.int .u8) hv49).symm.trans (ln_len (f := Value.int .u8) hv50))),
     trivial⟩ ?_
    refine pt_then ?_
    refine ht_ret ?_
    obtain ⟨v51, hv51, h⟩ := bind_some h
    refine pt_pick [1] (by kernel_rfl) (es' := [(_, _)]) rfl ?_
    obtain rfl := Option.some.inj h
    exact pt_ret hio rfl (.cellR _ _ _ _ Tryd.underlying37 rfl (sz37.trans (congrArg some (ln_len hv51))) .nil) rfl rfl
   ·rintro u35 hl36 hr37 ⟨s29, s30, s31⟩ rr40 h ho38
    refine ht_seq ?_
    refine ht_seqR hn (El := [_, _, _, _, _, _, _, (30, .v (.bool ((decide (s31 < 64)))))]) (init := [0, 1, 2, 3, 4, 5, 6]) (fin := [0, 1, 2, 3, 4, 5, 6, 7]) (sps := [⟨[6], [], [7], [(.slot 30)]⟩]) (es' := [(_, _), (_, _), (_, _), (_, _), (_, _), (_, _), (_, _), (30, .v (.bool ((decide (s31 < 64)))))]) (by kernel_rfl) rfl rfl
     ⟨st_plain rfl (op_bin _ _ _ _ _ rfl rfl rfl),
     trivial⟩ ?_
    refine pt_then ?_
    refine ht_seq ?_
    refine ht_cond _ rfl (fun hb41 => ?_) (fun hb41 => ?_)
    ·have h := cond_t hb41 h
     refine ht_skip ?_
     refine pt_then ?_
     refine ht_seq ?_
     refine ht_block ?_
     refine ht_seq ?_
     obtain ⟨v18, hv18, h⟩ := bind_some h
     obtain ⟨v19, hv19, h⟩ := bind_some h
     refine ht_seqR hn (El := [_, _, _, _, _, _, _, _, (31, .v (.int .u8 v19)), (10, .v (.int .u8 v19))]) (init := [0, 1, 2, 3, 4, 5, 6, 7]) (fin := [0, 1, 2, 3, 4, 5, 6, 9]) (sps := [⟨[5, 6], [], [8], [(.slot 31)]⟩, ⟨[8], [], [9], [(.slot 10)]⟩]) (es' := [(_, _), (_, _), (_, _), (_, _), (_, _), (_, _), (_, _), (10, .v (.int .u8 v19))]) (by kernel_rfl) rfl rfl
      ⟨st_plain rfl (op_index_arr _ _ _ _ 64 v18 Tryd.underlying57 sz5 rfl (congrArg (fun j => AV.v (Value.int .i64 j)) (ix_ok hv18).1) (ix_ok hv18).2 (map_get1 hv19) ⟨_, Tryd.underlying5, rfl⟩),
      st_plain rfl (op_assign _ _ _ _ rfl rfl),
      trivial⟩ ?_
     refine pt_then ?_
     refine ht_seq ?_
     obtain ⟨v20, hv20, h⟩ := bind_some h
     obtain ⟨v21, hv21, h⟩ := bind_some h
     refine ht_seqR hn (El := (_ :: _ :: _ :: _ :: _ :: _ :: _ :: _ :: (32, .fl (.own 5) 1 (List.map (Value.int .u8) s29)) :: (33, .v (.int .u8 v19)) :: (34, .v (.int .u8 v20)) :: (35, .fl (.own 5) 1 (List.map (Value.int .u8) [v20])) :: (36, .fl (.own 5) 1 (List.map (Value.int .u8) v21)) :: (32, .any) :: (7, .fl (.own 5) 1 (List.map (Value.int .u8) v21)) :: [])) (init := [0, 1, 2, 3, 4, 5, 6, 7]) (fin := [0, 1, 2, 4, 5, 6, 7, 14]) (sps := [⟨[], [3], [8], [(.slot 32)]⟩, ⟨[7], [], [9], [(.slot 33)]⟩, ⟨[9], [], [10], [(.slot 34)]⟩, ⟨[10], [], [11], [(.slot 35)]⟩, ⟨[11], [8], [13, 12], [(.slot 36)]⟩, ⟨[], [12], [14], [(.slot 7)]⟩]) (es' := [(_, _), (_, _), (_, _), (_, _), (_, _), (_, _), (_, _), (7, .fl (.own 5) 1 (List.map (Value.int .u8) v21))]) (by kernel_rfl) rfl rfl
      ⟨st_plain rfl (op_move_take _ _ _ _ rfl),
      st_plain rfl (op_move _ _ _ _ rfl rfl),
      st_plain rfl (op_bin _ _ _ _ _ rfl rfl (ibind (f := Value.int .u8) (Option.some.inj hv20))),
      st_plain rfl (op_buildSlice _ _ 1 (.int .u8 0) (List.map (Value.int .u8) [v20]) [(0, .int .u8 v20)] Tryd.underlying22 sz5 zr5 (fun _ V w o a hv hes => by have e0 := rd_v hv hes (x := .tmp 34) rfl; simp only [List.map_toArray, List.map_cons, List.map_nil, e0]; try rfl) (litfill (by simp [Instr.fill, Value.cells]; rfl) (by simp [List.range, List.range.loop] <;> rfl)) (by simp [Value.oneCell']) rfl (by decide) (by decide) (by decide)),
      st_plain rfl (op_app _ _ _ _ _ el22 rfl rfl (map_len _) (map_len _) hv21 ((List.map_append).symm.trans (congrArg (List.map _) (app_eq hv21)))),
      st_plain rfl (op_assign_take _ _ _ _ rfl),
      trivial⟩ ?_
     refine pt_then ?_
     obtain ⟨v22, hv22, h⟩ := bind_some h
     obtain ⟨v23, hv23, h⟩ := bind_some h
     refine ht_seqR hn (El := (_ :: _ :: _ :: _ :: _ :: _ :: _ :: _ :: (37, .fl (.own 5) 1 (List.map (Value.int .u8) s30)) :: (38, .v (.int .u8 v19)) :: (39, .v (.int .u8 v22)) :: (40, .fl (.own 5) 1 (List.map (Value.int .u8) [v22])) :: (41, .fl (.own 5) 1 (List.map (Value.int .u8) v23)) :: (37, .any) :: (8, .fl (.own 5) 1 (List.map (Value.int .u8) v23)) :: [])) (init := [0, 1, 2, 3, 4, 5, 6, 7]) (fin := [0, 1, 2, 4, 5, 7, 14]) (sps := [⟨[], [3], [8], [(.slot 37)]⟩, ⟨[6], [], [9], [(.slot 38)]⟩, ⟨[9], [], [10], [(.slot 39)]⟩, ⟨[10], [], [11], [(.slot 40)]⟩, ⟨[11], [8], [13, 12], [(.slot 41)]⟩, ⟨[], [12], [14], [(.slot 8)]⟩]) (es' := [(_, _), (_, _), (_, _), (_, _), (_, _), (_, _), (8, .fl (.own 5) 1 (List.map (Value.int .u8) v23))]) (by kernel_rfl) rfl rfl
      ⟨st_plain rfl (op_move_take _ _ _ _ rfl),
      st_plain rfl (op_move _ _ _ _ rfl rfl),
      st_plain rfl (op_bin _ _ _ _ _ rfl rfl (ibind (f := Value.int .u8) (Option.some.inj hv22))),
      st_plain rfl (op_buildSlice _ _ 1 (.int .u8 0) (List.map (Value.int .u8) [v22]) [(0, .int .u8 v22)] Tryd.underlying22 sz5 zr5 (fun _ V w o a hv hes => by have e0 := rd_v hv hes (x := .tmp 39) rfl; simp only [List.map_toArray, List.map_cons, List.map_nil, e0]; try rfl) (litfill (by simp [Instr.fill, Value.cells]; rfl) (by simp [List.range, List.range.loop] <;> rfl)) (by simp [Value.oneCell']) rfl (by decide) (by decide) (by decide)),
      st_plain rfl (op_app _ _ _ _ _ el22 rfl rfl (map_len _) (map_len _) hv23 ((List.map_append).symm.trans (congrArg (List.map _) (app_eq hv23)))),
      st_plain rfl (op_assign_take _ _ _ _ rfl),
      trivial⟩ ?_
     refine pt_inb ?_
     refine pt_then ?_
     obtain ⟨v24, hv24, h⟩ := bind_some h
     refine ht_seqR hn (El := [_, _, _, _, _, _, _, (42, .v (.int .i64 v24)), (29, .v (.int .i64 v24))]) (init := [0, 1, 2, 3, 4, 5, 6]) (fin := [0, 1, 2, 3, 5, 6, 8]) (sps := [⟨[4], [], [7], [(.slot 42)]⟩, ⟨[7], [4], [8], [(.slot 29)]⟩]) (es' := [(_, _), (_, _), (_, _), (_, _), (_, _), (_, _), (29, .v (.int .i64 v24))]) (by kernel_rfl) rfl rfl
      ⟨st_plain rfl (op_bin _ _ _ _ _ rfl rfl (ibind (f := Value.int .i64) (Option.some.inj hv24))),
      st_plain rfl (LOp.drop [_] (op_move _ _ _ _ rfl rfl)),
      trivial⟩ ?_
     refine pt_pick [0, 1, 2, 4, 5, 3, 6] (by kernel_rfl) (es' := [(_, _), (_, _), (_, _), (_, _), (_, _), (_, _), (_, _)]) rfl ?_
     exact pt_next _ (Option.some.inj h).symm rfl
    ·have h := cond_f hb41 h
     refine ht_exit ?_
     refine pt_x_then ?_
     refine pt_x_then ?_
     refine pt_x_in ?_
     refine pt_pick [0, 1, 2, 3, 4] (by kernel_rfl) (es' := [(_, _), (_, _), (_, _), (_, _), (_, _)]) rfl ?_
     exact hl36 _ (ho38 _ (Option.some.inj h).symm).symm
  ·intro u9 h hl10 hr11
   refine ht_seq ?_
   refine ht_seqR hn (El := [_, _, _, _, _, (12, .fl .shr 1 (List.map (Value.int .u8) key)), (13, .v (.int .i64 (key.length : Int))), (14, .v (.bool ((decide (64 < (key.length : Int))))))]) (init := [0, 1, 2, 3, 4]) (fin := [0, 1, 2, 3, 4, 7]) (sps := [⟨[0], [], [5], [(.slot 12)]⟩, ⟨[5], [], [6], [(.slot 13)]⟩, ⟨[6], [], [7], [(.slot 14)]⟩]) (es' := [(_, _), (_, _), (_, _), (_, _), (_, _), (14, .v (.bool ((decide (64 < (key.length : Int))))))]) (by kernel_rfl) rfl rfl
    ⟨st_plain rfl (op_move _ _ _ _ rfl rfl),
    st_plain rfl (op_len_fl _ _ _ Tryd.underlying22 rfl (by decide) (map_len _)),
    st_plain rfl (op_bin _ _ _ _ _ rfl rfl rfl),
    trivial⟩ ?_
   refine pt_then ?_
   refine ht_cond _ rfl (fun hb12 => ?_) (fun hb12 => ?_)
   ·have h := cond_t hb12 h
    refine ht_seq ?_
    obtain ⟨v2, hv2, h⟩ := bind_some h
    obtain ⟨v3, hv3, h⟩ := bind_some h
    obtain ⟨v4, hv4, h⟩ := bind_some h
    refine ht_seqR hn (El := [_, _, _, _, _, _, (15, .fl .shr 1 (List.map (Value.int .u8) key)), (16, .v (.agg (List.map (Value.int .u8) v2).toArray)), (6, .arr 37 (List.map (Value.int .u8) ((List.replicate 16 (0 : Int))))), (6, .arr 37 (List.map (Value.int .u8) v2))]) (init := [0, 1, 2, 3, 4, 5]) (fin := [1, 2, 3, 4, 9]) (sps := [⟨[0], [], [6], [(.slot 15)]⟩, ⟨[6, 2], [], [7], [(.slot 16)]⟩, ⟨[], [], [8], [(.slot 6)]⟩, ⟨[7], [8], [9], []⟩]) (es' := [(_, _), (_, _), (_, _), (_, _), (6, .arr 37 (List.map (Value.int .u8) v2))]) (by kernel_rfl) rfl rfl
     ⟨st_plain rfl (op_move _ _ _ _ rfl rfl),
     st_plain rfl (op_callG _ _ 51 31 _ _ rfl Tryd.call31 rfl rfl (fun _ h => h) (ok_digest_Sum mx key _ hv2) rfl rfl),
     st_plain rfl (op_alloc_arr _ za37),
     st_plain rfl (op_storeA_arr _ _ _ _ (sz37.trans (congrArg some (ln_len hv4))) rfl rfl (ln_ones (fun _ => rfl) _) ((ln_len (f := Value.int .u8) hv3).symm.trans (ln_len (f := Value.int .u8) hv4))),
     trivial⟩ ?_
    refine pt_then ?_
    obtain ⟨v5, hv5, h⟩ := bind_some h
    obtain ⟨v6, hv6, h⟩ := bind_some h
    refine ht_anyR (by kernel_rfl) hn (El := [_, _, _, _, _, (17, .asl 5 64), (18, .fl .ro 1 (List.map (Value.int .u8) v2)), (6, .any), (19, .v (.int .i64 (copyN ((List.replicate 64 (0 : Int))) v2))), (5, .arr 57 (List.map (Value.int .u8) (copyL ((List.replicate 64 (0 : Int))) v2)))]) (init := [0, 1, 2, 3, 4]) (fin := [0, 1, 2, 9]) (sps := [⟨[3], [], [5], [(.slot 17)]⟩, ⟨[], [4], [7, 6], [(.slot 18)]⟩, ⟨[5, 6], [3], [9, 8], [(.slot 19)]⟩]) (es' := [(_, _), (_, _), (_, _), (5, .arr 57 (List.map (Value.int .u8) (copyL ((List.replicate 64 (0 : Int))) v2)))]) (by kernel_rfl) rfl rfl
     ⟨st_plain rfl (op_slice_asl _ _ 5 64 _ Tryd.underlying57 sz5 rfl (by decide)),
     st_plain rfl (op_slice_frz _ _ 6 16 _ Tryd.underlying37 sz5 rfl (ln_len hv5).symm (ln_ones (fun _ => rfl) _)),
     st_plain rfl (op_cp_arr _ _ _ _ _ _ _ _ Tryd.underlying22 sz5 rfl (ln_n hv6) rfl (by decide)),
     trivial⟩ ?_
    exact hl10 _ (Option.some.inj h).symm
   ·have h := cond_f hb12 h
    obtain ⟨v7, hv7, h⟩ := bind_some h
    refine ht_seqR hn (El := [_, _, _, _, _, _, (20, .asl 5 64), (21, .fl .shr 1 (List.map (Value.int .u8) key)), (22, .v (.int .i64 (copyN ((List.replicate 64 (0 : Int))) key))), (5, .arr 57 (List.map (Value.int .u8) (copyL ((List.replicate 64 (0 : Int))) key)))]) (init := [0, 1, 2, 3, 4, 5]) (fin := [1, 2, 3, 9]) (sps := [⟨[4], [], [6], [(.slot 20)]⟩, ⟨[0], [], [7], [(.slot 21)]⟩, ⟨[6, 7], [4], [9, 8], [(.slot 22)]⟩]) (es' := [(_, _), (_, _), (_, _), (5, .arr 57 (List.map (Value.int .u8) (copyL ((List.replicate 64 (0 : Int))) key)))]) (by kernel_rfl) rfl rfl
     ⟨st_plain rfl (op_slice_asl _ _ 5 64 _ Tryd.underlying57 sz5 rfl (by decide)),
     st_plain rfl (op_move _ _ _ _ rfl rfl),
     st_plain rfl (op_cp_arr _ _ _ _ _ _ _ _ Tryd.underlying22 sz5 rfl (ln_n hv7) rfl (by decide)),
     trivial⟩ ?_
    exact hl10 _ (Option.some.inj h).symm

set_option maxHeartbeats 1000000 in
theorem ok_cram_Answer (mx : Int) (user : ByteArray) (secret : ByteArray) (challenge : ByteArray) (r : ByteArray) (h : Sh.cram_Answer user secret challenge = some r) : FnG Tryd.prog (GL mx) 17 [.v (.string user), .v (.string secret), .v (.string challenge)] (.v (.string r)) := by
  unfold Sh.cram_Answer at h
  refine fn_okG Tryd.func17 rfl (Nat.le_of_ble_eq_true rfl) rfl rfl fun g0 hn hio => ?_
  refine ht_seq ?_
  refine ht_seqR hn (El := [_, _, _, _, (6, .v (.string (⟨#[]⟩ : ByteArray)))]) (init := [0, 1, 2, 3]) (fin := [0, 1, 2, 3]) (sps := [⟨[], [], [4], [(.slot 6)]⟩]) (es' := [(_, _), (_, _), (_, _), (_, _)]) (by kernel_rfl) rfl rfl
   ⟨st_plain rfl (op_assign _ _ _ _ rfl rfl),
   trivial⟩ ?_
  refine pt_then ?_
  refine ht_seq ?_
  obtain ⟨v1, hv1, h⟩ := bind_some h
  obtain ⟨v2, hv2, h⟩ := bind_some h
  obtain ⟨v3, hv3, h⟩ := bind_some h
  obtain ⟨v4, hv4, h⟩ := bind_some h
  obtain ⟨v5, hv5, h⟩ := bind_some h
  refine ht_seqR hn (El := [_, _, _, _, (8, .v (.string secret)), (9, .fl .ro 1 (List.map (Value.int .u8) v1)), (10, .v (.string challenge)), (11, .fl .ro 1 (List.map (Value.int .u8) v2)), (12, .v (.agg (List.map (Value.int .u8) v3).toArray)), (7, .arr 37 (List.map (Value.int .u8) ((List.replicate 16 (0 : Int))))), (7, .arr 37 (List.map (Value.int .u8) v3))]) (init := [0, 1, 2, 3]) (fin := [0, 3, 10]) (sps := [⟨[1], [], [4], [(.slot 8)]⟩, ⟨[4], [], [5], [(.slot 9)]⟩, ⟨[2], [], [6], [(.slot 10)]⟩, ⟨[6], [], [7], [(.slot 11)]⟩, ⟨[5, 7, 3], [], [8], [(.slot 12)]⟩, ⟨[], [], [9], [(.slot 7)]⟩, ⟨[8], [9], [10], []⟩]) (es' := [(_, _), (_, _), (7, .arr 37 (List.map (Value.int .u8) v3))]) (by kernel_rfl) rfl rfl
   ⟨st_plain rfl (op_move _ _ _ _ rfl rfl),
   st_plain rfl ((Option.some.inj hv1) ▸ op_str_bytes _ _ _ secret Tryd.underlying9 Tryd.underlying22 Tryd.underlying5 rfl),
   st_plain rfl (op_move _ _ _ _ rfl rfl),
   st_plain rfl ((Option.some.inj hv2) ▸ op_str_bytes _ _ _ challenge Tryd.underlying9 Tryd.underlying22 Tryd.underlying5 rfl),
   st_plain rfl (op_callG _ _ 20 20 _ _ rfl Tryd.call20 rfl rfl (fun _ h => h) (ok_digest_Keyed mx v1 v2 _ hv3) rfl rfl),
   st_plain rfl (op_alloc_arr _ za37),
   st_plain rfl (op_storeA_arr _ _ _ _ (sz37.trans (congrArg some (ln_len hv5))) rfl rfl (ln_ones (fun _ => rfl) _) ((ln_len (f := Value.int .u8) hv4).symm.trans (ln_len (f := Value.int .u8) hv5))),
   trivial⟩ ?_
  refine pt_then ?_
  refine ht_seq ?_
  obtain ⟨v6, hv6, h⟩ := bind_some h
  obtain ⟨v7, hv7, h⟩ := bind_some h
  obtain ⟨v8, hv8, h⟩ := bind_some h
  obtain ⟨v9, hv9, h⟩ := bind_some h
  obtain ⟨v10, hv10, h⟩ := bind_some h
  obtain ⟨v11, hv11, h⟩ := bind_some h
  refine ht_seqR hn (El := [_, _, _, (13, .v (.string user)), (14, .v (.string v6)), (15, .fl .ro 1 (List.map (Value.int .u8) v3)), (7, .any), (16, .v (.string v8)), (17, .v (.string v9)), (18, .fl .ro 1 (List.map (Value.int .u8) v10)), (19, .v (.string v11)), (6, .v (.string v11))]) (init := [0, 1, 2]) (fin := [1, 11]) (sps := [⟨[0], [], [3], [(.slot 13)]⟩, ⟨[3], [], [4], [(.slot 14)]⟩, ⟨[], [2], [6, 5], [(.slot 15)]⟩, ⟨[5], [], [7], [(.slot 16)]⟩, ⟨[4, 7], [], [8], [(.slot 17)]⟩, ⟨[8], [], [9], [(.slot 18)]⟩, ⟨[9], [], [10], [(.slot 19)]⟩, ⟨[10], [], [11], [(.slot 6)]⟩]) (es' := [(_, _), (6, .v (.string v11))]) (by kernel_rfl) rfl rfl
   ⟨st_plain rfl (op_move _ _ _ _ rfl rfl),
   st_plain rfl (op_bin _ _ _ _ _ rfl rfl (cat_ok hv6)),
   st_plain rfl (op_slice_frz _ _ 7 16 _ Tryd.underlying37 sz5 rfl (ln_len hv7).symm (ln_ones (fun _ => rfl) _)),
   st_plain rfl (op_call _ _ 14 _ _ rfl Tryd.call14 rfl (ok_cram_Hex v3 _ hv8) rfl rfl),
   st_plain rfl (op_bin _ _ _ _ _ rfl rfl (cat_ok hv9)),
   st_plain rfl ((Option.some.inj hv10) ▸ op_str_bytes _ _ _ v9 Tryd.underlying9 Tryd.underlying22 Tryd.underlying5 rfl),
   st_plain rfl (op_call _ _ 12 _ _ rfl Tryd.call12 rfl (ok_cram_Encode v10 _ hv11) rfl rfl),
   st_plain rfl (op_assign _ _ _ _ rfl rfl),
   trivial⟩ ?_
  refine pt_then ?_
  refine ht_ret ?_
  refine pt_pick [1] (by kernel_rfl) (es' := [(_, _)]) rfl ?_
  obtain rfl := Option.some.inj h
  exact pt_ret hio rfl (.tmp _ _ .nil) rfl rfl

end Go.Proofs.YtadkeipbkbkneaaDoor
