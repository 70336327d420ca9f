/-
  The model's runs are what is told in Lean.
-/
import Derived.Test.YtdligpdfcfbgpaaProg
import Derived.KernelRfl
import Derived.Test.YtdligpdfcfbgpaaSh
set_option linter.unusedVariables false
set_option linter.unusedSimpArgs false
namespace Go.Proofs.Ytdligpdfcfbgpaa
open Go.Abs Go.Abs.Sh

theorem sz22 : (Try.prog.info? 22).map (·.size) = some 1 := by kernel_rfl
theorem sz24 : (Try.prog.info? 24).map (·.size) = some 7 := by kernel_rfl
theorem sz3 : (Try.prog.info? 3).map (·.size) = some 1 := by kernel_rfl
theorem sz4 : (Try.prog.info? 4).map (·.size) = some 1 := by kernel_rfl
theorem zr24 : (Try.prog.info? 24).bind (·.zero) = some (.agg #[.int .i64 0, .slice none 0 0, .bool false, .int .i64 0, .int .i64 0, .int .i64 0, .bool false]) := by kernel_rfl
theorem fs24 : ∀ fs, Try.prog.underlying 24 = some (.struct fs) → fs.toList.map (fun f => (Try.prog.info? f.type).map (·.size)) = ([1, 1, 1, 1, 1, 1, 1] : List Nat).map some := by
  intro fs h
  rw [Try.underlying24] at h
  cases h
  kernel_rfl
theorem el22 : ElemT Try.prog 22 5 1 1 := ⟨⟨Try.t5, .int .u8 0, Try.underlying22, by kernel_rfl, by kernel_rfl, by kernel_rfl, by kernel_rfl, by decide, by kernel_rfl⟩⟩
theorem zr26 : (Try.prog.info? 26).bind (·.zero) = some (.agg #[.int .i64 0, .int .i64 0, .int .i64 0, .int .i64 0, .slice none 0 0]) := by kernel_rfl
theorem fs26 : ∀ fs, Try.prog.underlying 26 = some (.struct fs) → fs.toList.map (fun f => (Try.prog.info? f.type).map (·.size)) = ([1, 1, 1, 1, 1] : List Nat).map some := by
  intro fs h
  rw [Try.underlying26] at h
  cases h
  kernel_rfl
theorem sz26 : (Try.prog.info? 26).map (·.size) = some 5 := by kernel_rfl
theorem el31 : ElemT Try.prog 31 26 5 56 := ⟨⟨Try.t26, .agg #[.int .i64 0, .int .i64 0, .int .i64 0, .int .i64 0, .slice none 0 0], Try.underlying31, by kernel_rfl, by kernel_rfl, by kernel_rfl, by kernel_rfl, by decide, by kernel_rfl⟩⟩
theorem sz5 : (Try.prog.info? 5).map (·.size) = some 1 := by kernel_rfl
theorem zr5 : (Try.prog.info? 5).bind (·.zero) = some (.int .u8 0) := by kernel_rfl

set_option maxHeartbeats 1000000 in
theorem ok_wherryref18_pieces (b : (List Int)) (r : Int) (h : Sh.wherryref18_pieces b = some r) : FnOK Try.prog 29 [.fl .shr 1 (List.map (Value.int .u8) b)] (.v (.int .i64 r)) := by
  unfold Sh.wherryref18_pieces at h
  refine fn_ok Try.func29 rfl (Nat.le_of_ble_eq_true rfl) rfl rfl fun g0 hn hio => ?_
  refine ht_seq ?_
  refine ht_seqR hn (El := [_, (2, .v (.int .i64 0))]) (init := [0]) (fin := [0]) (sps := [⟨[], [], [1], [(.slot 2)]⟩]) (es' := [(_, _)]) (by kernel_rfl) rfl rfl
   ⟨st_plain rfl (op_assign _ _ _ _ rfl rfl),
   trivial⟩ ?_
  refine pt_then ?_
  refine ht_seq ?_
  obtain ⟨v1, hv1, h⟩ := bind_some h
  obtain ⟨v2, hv2, h⟩ := bind_some h
  obtain ⟨v3, hv3, h⟩ := bind_some h
  refine ht_seqR hn (El := [_, (3, .fl .shr 1 (List.map (Value.int .u8) b)), (4, .v (.int .i64 (b.length : Int))), (5, .v (.int .i64 v1)), (6, .v (.int .i64 v2)), (7, .v (.int .i64 v3)), (2, .v (.int .i64 v3))]) (init := [0]) (fin := [6]) (sps := [⟨[0], [], [1], [(.slot 3)]⟩, ⟨[1], [], [2], [(.slot 4)]⟩, ⟨[2], [], [3], [(.slot 5)]⟩, ⟨[3], [], [4], [(.slot 6)]⟩, ⟨[4], [], [5], [(.slot 7)]⟩, ⟨[5], [], [6], [(.slot 2)]⟩]) (es' := [(2, .v (.int .i64 v3))]) (by kernel_rfl) rfl rfl
   ⟨st_plain rfl (op_move _ _ _ _ rfl rfl),
   st_plain rfl (op_len_fl _ _ _ Try.underlying22 rfl (by decide) (map_len _)),
   st_plain rfl (op_bin _ _ _ _ _ rfl rfl (ibind (f := Value.int .i64) (Option.some.inj hv1))),
   st_plain rfl (op_bin _ _ _ _ _ rfl rfl (ibind (f := Value.int .i64) (Option.some.inj hv2))),
   st_plain rfl (op_bin _ _ _ _ _ rfl rfl (quo_ok hv3)),
   st_plain rfl (op_assign _ _ _ _ rfl rfl),
   trivial⟩ ?_
  refine pt_then ?_
  refine ht_ret ?_
  obtain rfl := Option.some.inj h
  exact pt_ret hio rfl (.tmp _ _ .nil) rfl rfl

set_option maxHeartbeats 1000000 in
theorem ok_wherryref18_in (n : Int) (lo : Int) (hi : Int) (r : Bool) (h : Sh.wherryref18_in n lo hi = some r) : FnOK Try.prog 30 [.v (.int .i64 n), .v (.int .i64 lo), .v (.int .i64 hi)] (.v (.bool r)) := by
  unfold Sh.wherryref18_in at h
  refine fn_ok Try.func30 rfl (Nat.le_of_ble_eq_true rfl) rfl rfl fun g0 hn hio => ?_
  refine ht_seq ?_
  refine ht_seqR hn (El := [_, _, _, (6, .v (.bool false))]) (init := [0, 1, 2]) (fin := [0, 1, 2]) (sps := [⟨[], [], [3], [(.slot 6)]⟩]) (es' := [(_, _), (_, _), (_, _)]) (by kernel_rfl) rfl rfl
   ⟨st_plain rfl (op_assign _ _ _ _ rfl rfl),
   trivial⟩ ?_
  refine pt_then ?_
  refine ht_seq ?_
  refine ht_joinS h (fun (s1 : Bool) => [(6, .v (.bool s1))]) ?_ ?_
  ·rintro s1 h
   refine pt_then ?_
   refine ht_ret ?_
   obtain rfl := Option.some.inj h
   exact pt_ret hio rfl (.tmp _ _ .nil) rfl rfl
  ·intro u2 h hl3 hr4
   refine cond_some h (fun hg1_3 h => ?_) (fun hg1_3 h => ?_)
   ·refine ht_seqR hn (El := [_, _, _, (7, .v (.int .i64 n)), (8, .v (.int .i64 lo)), (9, .v (.bool ((decide (lo ≤ n))))), (10, .v (.bool true)), (11, .v (.int .i64 n)), (12, .v (.int .i64 hi)), (13, .v (.bool ((decide (n ≤ hi))))), (14, .v (.bool ((decide (n ≤ hi))))), (6, .v (.bool ((decide (n ≤ hi)))))]) (init := [0, 1, 2]) (fin := [11]) (sps := [⟨[0], [], [3], [(.slot 7)]⟩, ⟨[1], [], [4], [(.slot 8)]⟩, ⟨[3, 4], [], [5], [(.slot 9)]⟩, ⟨[5], [], [6], [(.slot 10)]⟩, ⟨[6, 0], [], [7], [(.slot 11)]⟩, ⟨[6, 2], [], [8], [(.slot 12)]⟩, ⟨[6, 7, 8], [], [9], [(.slot 13)]⟩, ⟨[6, 9], [], [10], [(.slot 14)]⟩, ⟨[10], [], [11], [(.slot 6)]⟩]) (es' := [(6, .v (.bool ((decide (n ≤ hi)))))]) (by kernel_rfl) rfl rfl
     ⟨st_plain rfl (op_move _ _ _ _ rfl rfl),
     st_plain rfl (op_move _ _ _ _ rfl rfl),
     st_plain rfl (op_bin _ _ _ _ _ rfl rfl rfl),
     st_plain rfl (op_move _ _ _ _ (congrArg (fun b => AV.v (Value.bool b)) hg1_3) rfl),
     st_run 3 10 true rfl rfl rfl (List.Mem.head _) (op_move _ _ _ _ rfl rfl),
     st_run 3 10 true rfl rfl rfl (List.Mem.head _) (op_move _ _ _ _ rfl rfl),
     st_run 3 10 true rfl rfl rfl (List.Mem.head _) (op_bin _ _ _ _ _ rfl rfl rfl),
     st_plain rfl (op_pick _ _ true _ rfl rfl),
     st_plain rfl (op_assign _ _ _ _ rfl rfl),
     trivial⟩ ?_
    exact hl3 _ (Option.some.inj h).symm
   ·refine ht_seqR hn (El := [_, _, _, (7, .v (.int .i64 n)), (8, .v (.int .i64 lo)), (9, .v (.bool ((decide (lo ≤ n))))), (10, .v (.bool false)), (11, .v undef), (12, .v undef), (13, .v undef), (14, .v (.bool false)), (6, .v (.bool false))]) (init := [0, 1, 2]) (fin := [11]) (sps := [⟨[0], [], [3], [(.slot 7)]⟩, ⟨[1], [], [4], [(.slot 8)]⟩, ⟨[3, 4], [], [5], [(.slot 9)]⟩, ⟨[5], [], [6], [(.slot 10)]⟩, ⟨[6], [], [7], [(.slot 11)]⟩, ⟨[6], [], [8], [(.slot 12)]⟩, ⟨[6], [], [9], [(.slot 13)]⟩, ⟨[6], [], [10], [(.slot 14)]⟩, ⟨[10], [], [11], [(.slot 6)]⟩]) (es' := [(6, .v (.bool false))]) (by kernel_rfl) rfl rfl
     ⟨st_plain rfl (op_move _ _ _ _ rfl rfl),
     st_plain rfl (op_move _ _ _ _ rfl rfl),
     st_plain rfl (op_bin _ _ _ _ _ rfl rfl rfl),
     st_plain rfl (op_move _ _ _ _ (congrArg (fun b => AV.v (Value.bool b)) hg1_3) rfl),
     st_skip 3 10 _ true rfl rfl rfl rfl (List.Mem.head _),
     st_skip 3 10 _ true rfl rfl rfl rfl (List.Mem.head _),
     st_skip 3 10 _ true rfl rfl rfl rfl (List.Mem.head _),
     st_plain rfl (op_pick _ _ false _ rfl rfl),
     st_plain rfl (op_assign _ _ _ _ rfl rfl),
     trivial⟩ ?_
    exact hl3 _ (Option.some.inj h).symm

set_option maxHeartbeats 1000000 in
theorem ok_wherryref18_Send (s : T_Send) (r : Bool) (h : Sh.wherryref18_Send s = some r) : FnOK Try.prog 13 [.agg [.v (.int .i64 s.Number), .fl .shr 1 (List.map (Value.int .u8) s.Data), .v (.bool s.Ready), .v (.int .i64 s.Base), .v (.int .i64 s.Next), .v (.int .i64 s.Wait), .v (.bool s.Over)]] (.v (.bool r)) := by
  unfold Sh.wherryref18_Send at h
  refine fn_ok Try.func13 rfl (Nat.le_of_ble_eq_true rfl) rfl rfl fun g0 hn hio => ?_
  refine ht_seq ?_
  refine ht_seqR hn (El := [_, (1, .box 24 [.v (.int .i64 s.Number), .fl .shr 1 (List.map (Value.int .u8) s.Data), .v (.bool s.Ready), .v (.int .i64 s.Base), .v (.int .i64 s.Next), .v (.int .i64 s.Wait), .v (.bool s.Over)]), (2, .v (.bool false))]) (init := [0]) (fin := [1]) (sps := [⟨[0], [], [1], [(.slot 1)]⟩, ⟨[], [], [2], [(.slot 2)]⟩]) (es' := [(1, .box 24 [.v (.int .i64 s.Number), .fl .shr 1 (List.map (Value.int .u8) s.Data), .v (.bool s.Ready), .v (.int .i64 s.Base), .v (.int .i64 s.Next), .v (.int .i64 s.Wait), .v (.bool s.Over)])]) (by kernel_rfl) rfl rfl
   ⟨st_plain rfl (op_box _ _ _ _ rfl rfl rfl),
   st_plain rfl (op_assign _ _ _ _ rfl rfl),
   trivial⟩ ?_
  refine pt_then ?_
  refine ht_seq ?_
  obtain ⟨v1, hv1, h⟩ := bind_some h
  refine ht_seqR hn (El := [_, (4, .ptr 1 1), (5, .fl .shr 1 (List.map (Value.int .u8) s.Data)), (6, .v (.int .i64 v1)), (3, .v (.int .i64 v1))]) (init := [0]) (fin := [0, 4]) (sps := [⟨[0], [], [1], [(.slot 4)]⟩, ⟨[1, 0], [], [2], [(.slot 5)]⟩, ⟨[2], [], [3], [(.slot 6)]⟩, ⟨[3], [], [4], [(.slot 3)]⟩]) (es' := [(_, _), (3, .v (.int .i64 v1))]) (by kernel_rfl) rfl rfl
   ⟨st_plain rfl (op_fieldAddr _ _ _ _ 1 0 _ Try.underlying24 rfl sz22 rfl rfl (by decide)),
   st_plain rfl (op_load _ _ _ _ _ _ Try.underlying22 rfl rfl rfl (Nat.le_of_ble_eq_true rfl) rfl rfl rfl),
   st_plain rfl (op_call _ _ 29 _ _ rfl Try.call29 rfl (ok_wherryref18_pieces s.Data _ hv1) rfl rfl),
   st_plain rfl (op_assign _ _ _ _ rfl rfl),
   trivial⟩ ?_
  refine pt_then ?_
  refine ht_seq ?_
  refine ht_joinS h (fun (s9 : Bool) => [(2, .v (.bool s9))]) ?_ ?_
  ·rintro s9 h
   refine pt_then ?_
   refine ht_ret ?_
   obtain rfl := Option.some.inj h
   exact pt_ret hio rfl (.tmp _ _ .nil) rfl rfl
  ·intro u10 h hl11 hr12
   obtain ⟨v2, hv2, h⟩ := bind_some h
   refine cond_some h (fun hg2_3 h => ?_) (fun hg2_3 h => ?_)
   ·obtain ⟨v3, hv3, h⟩ := bind_some h
    refine cond_some h (fun hg2_9 h => ?_) (fun hg2_9 h => ?_)
    ·obtain ⟨v4, hv4, h⟩ := bind_some h
     refine cond_some h (fun hg2_15 h => ?_) (fun hg2_15 h => ?_)
     ·obtain ⟨v5, hv5, h⟩ := bind_some h
      obtain ⟨v6, hv6, h⟩ := bind_some h
      obtain ⟨v7, hv7, h⟩ := bind_some h
      refine cond_some h (fun hg2_27 h => ?_) (fun hg2_27 h => ?_)
      ·obtain ⟨v8, hv8, h⟩ := bind_some h
       refine cond_some h (fun hg2_32 h => ?_) (fun hg2_32 h => ?_)
       ·refine cond_some h (fun hg2_35 h => ?_) (fun hg2_35 h => ?_)
        ·refine ht_seqR hn (El := (_ :: _ :: (7, .ptr 1 0) :: (8, .v (.int .i64 s.Number)) :: (9, .v (.bool v2)) :: (10, .v (.bool true)) :: (11, .ptr 1 1) :: (12, .fl .shr 1 (List.map (Value.int .u8) s.Data)) :: (13, .v (.int .i64 (s.Data.length : Int))) :: (14, .v (.bool v3)) :: (15, .v (.bool v3)) :: (16, .v (.bool true)) :: (17, .ptr 1 3) :: (18, .v (.int .i64 s.Base)) :: (19, .v (.int .i64 v1)) :: (20, .v (.bool v4)) :: (21, .v (.bool v4)) :: (22, .v (.bool true)) :: (23, .ptr 1 4) :: (24, .v (.int .i64 s.Next)) :: (25, .ptr 1 3) :: (26, .v (.int .i64 s.Base)) :: (27, .ptr 1 3) :: (28, .v (.int .i64 s.Base)) :: (29, .v (.int .i64 v5)) :: (30, .v (.int .i64 v1)) :: (31, .v (.int .i64 v6)) :: (32, .v (.bool v7)) :: (33, .v (.bool v7)) :: (34, .v (.bool true)) :: (35, .ptr 1 5) :: (36, .v (.int .i64 s.Wait)) :: (37, .v (.bool v8)) :: (38, .v (.bool v8)) :: (39, .v (.bool true)) :: (40, .ptr 1 2) :: (41, .v (.bool s.Ready)) :: (42, .v (.bool true)) :: (43, .v undef) :: (44, .v undef) :: (45, .v undef) :: (46, .v undef) :: (47, .v undef) :: (48, .v undef) :: (49, .v undef) :: (50, .v undef) :: (51, .v (.bool true)) :: (52, .v (.bool true)) :: (2, .v (.bool true)) :: [])) (init := [0, 1]) (fin := [48]) (sps := (⟨[0], [], [2], [(.slot 7)]⟩ :: ⟨[2, 0], [], [3], [(.slot 8)]⟩ :: ⟨[3], [], [4], [(.slot 9)]⟩ :: ⟨[4], [], [5], [(.slot 10)]⟩ :: ⟨[5, 0], [], [6], [(.slot 11)]⟩ :: ⟨[5, 6, 0], [], [7], [(.slot 12)]⟩ :: ⟨[5, 7], [], [8], [(.slot 13)]⟩ :: ⟨[5, 8], [], [9], [(.slot 14)]⟩ :: ⟨[5, 9], [], [10], [(.slot 15)]⟩ :: ⟨[10], [], [11], [(.slot 16)]⟩ :: ⟨[11, 0], [], [12], [(.slot 17)]⟩ :: ⟨[11, 12, 0], [], [13], [(.slot 18)]⟩ :: ⟨[11, 1], [], [14], [(.slot 19)]⟩ :: ⟨[11, 13, 14], [], [15], [(.slot 20)]⟩ :: ⟨[11, 15], [], [16], [(.slot 21)]⟩ :: ⟨[16], [], [17], [(.slot 22)]⟩ :: ⟨[17, 0], [], [18], [(.slot 23)]⟩ :: ⟨[17, 18, 0], [], [19], [(.slot 24)]⟩ :: ⟨[17, 0], [], [20], [(.slot 25)]⟩ :: ⟨[17, 20, 0], [], [21], [(.slot 26)]⟩ :: ⟨[17, 0], [], [22], [(.slot 27)]⟩ :: ⟨[17, 22, 0], [], [23], [(.slot 28)]⟩ :: ⟨[17, 23], [], [24], [(.slot 29)]⟩ :: ⟨[17, 1], [], [25], [(.slot 30)]⟩ :: ⟨[17, 24, 25], [], [26], [(.slot 31)]⟩ :: ⟨[17, 19, 21, 26], [], [27], [(.slot 32)]⟩ :: ⟨[17, 27], [], [28], [(.slot 33)]⟩ :: ⟨[28], [], [29], [(.slot 34)]⟩ :: ⟨[29, 0], [], [30], [(.slot 35)]⟩ :: ⟨[29, 30, 0], [], [31], [(.slot 36)]⟩ :: ⟨[29, 31], [], [32], [(.slot 37)]⟩ :: ⟨[29, 32], [], [33], [(.slot 38)]⟩ :: ⟨[33], [], [34], [(.slot 39)]⟩ :: ⟨[34, 0], [], [35], [(.slot 40)]⟩ :: ⟨[34, 35, 0], [], [36], [(.slot 41)]⟩ :: ⟨[34, 36], [], [37], [(.slot 42)]⟩ :: ⟨[37], [], [38], [(.slot 43)]⟩ :: ⟨[37], [], [39], [(.slot 44)]⟩ :: ⟨[37], [], [40], [(.slot 45)]⟩ :: ⟨[37], [], [41], [(.slot 46)]⟩ :: ⟨[41], [], [42], [(.slot 47)]⟩ :: ⟨[41], [], [43], [(.slot 48)]⟩ :: ⟨[41], [], [44], [(.slot 49)]⟩ :: ⟨[37], [], [45], [(.slot 50)]⟩ :: ⟨[34, 37], [], [46], [(.slot 51)]⟩ :: ⟨[34, 46], [], [47], [(.slot 52)]⟩ :: ⟨[47], [], [48], [(.slot 2)]⟩ :: [])) (es' := [(2, .v (.bool true))]) (by kernel_rfl) rfl rfl
          ⟨st_plain rfl (op_fieldAddr _ _ _ _ 1 0 _ Try.underlying24 rfl sz3 rfl rfl (by decide)),
          st_plain rfl (op_load _ _ _ _ _ _ Try.underlying3 rfl rfl rfl (Nat.le_of_ble_eq_true rfl) rfl rfl rfl),
          st_plain rfl (op_call _ _ 30 _ _ rfl Try.call30 rfl (ok_wherryref18_in s.Number 1 65535 _ hv2) rfl rfl),
          st_plain rfl (op_move _ _ _ _ (congrArg (fun b => AV.v (Value.bool b)) hg2_3) rfl),
          st_run 3 10 true rfl rfl rfl (List.Mem.head _) (op_fieldAddr _ _ _ _ 1 0 _ Try.underlying24 rfl sz22 rfl rfl (by decide)),
          st_run 3 10 true rfl rfl rfl (List.Mem.head _) (op_load _ _ _ _ _ _ Try.underlying22 rfl rfl rfl (Nat.le_of_ble_eq_true rfl) rfl rfl rfl),
          st_run 3 10 true rfl rfl rfl (List.Mem.head _) (op_len_fl _ _ _ Try.underlying22 rfl (by decide) (map_len _)),
          st_run 3 10 true rfl rfl rfl (List.Mem.head _) (op_call _ _ 30 _ _ rfl Try.call30 rfl (ok_wherryref18_in (s.Data.length : Int) 1 5000 _ hv3) rfl rfl),
          st_plain rfl (op_pick _ _ true _ rfl rfl),
          st_plain rfl (op_move _ _ _ _ (congrArg (fun b => AV.v (Value.bool b)) hg2_9) rfl),
          st_run 9 16 true rfl rfl rfl (List.Mem.head _) (op_fieldAddr _ _ _ _ 1 0 _ Try.underlying24 rfl sz3 rfl rfl (by decide)),
          st_run 9 16 true rfl rfl rfl (List.Mem.head _) (op_load _ _ _ _ _ _ Try.underlying3 rfl rfl rfl (Nat.le_of_ble_eq_true rfl) rfl rfl rfl),
          st_run 9 16 true rfl rfl rfl (List.Mem.head _) (op_move _ _ _ _ rfl rfl),
          st_run 9 16 true rfl rfl rfl (List.Mem.head _) (op_call _ _ 30 _ _ rfl Try.call30 rfl (ok_wherryref18_in s.Base 0 v1 _ hv4) rfl rfl),
          st_plain rfl (op_pick _ _ true _ rfl rfl),
          st_plain rfl (op_move _ _ _ _ (congrArg (fun b => AV.v (Value.bool b)) hg2_15) rfl),
          st_run 15 22 true rfl rfl rfl (List.Mem.head _) (op_fieldAddr _ _ _ _ 1 0 _ Try.underlying24 rfl sz3 rfl rfl (by decide)),
          st_run 15 22 true rfl rfl rfl (List.Mem.head _) (op_load _ _ _ _ _ _ Try.underlying3 rfl rfl rfl (Nat.le_of_ble_eq_true rfl) rfl rfl rfl),
          st_run 15 22 true rfl rfl rfl (List.Mem.head _) (op_fieldAddr _ _ _ _ 1 0 _ Try.underlying24 rfl sz3 rfl rfl (by decide)),
          st_run 15 22 true rfl rfl rfl (List.Mem.head _) (op_load _ _ _ _ _ _ Try.underlying3 rfl rfl rfl (Nat.le_of_ble_eq_true rfl) rfl rfl rfl),
          st_run 15 22 true rfl rfl rfl (List.Mem.head _) (op_fieldAddr _ _ _ _ 1 0 _ Try.underlying24 rfl sz3 rfl rfl (by decide)),
          st_run 15 22 true rfl rfl rfl (List.Mem.head _) (op_load _ _ _ _ _ _ Try.underlying3 rfl rfl rfl (Nat.le_of_ble_eq_true rfl) rfl rfl rfl),
          st_run 15 22 true rfl rfl rfl (List.Mem.head _) (op_bin _ _ _ _ _ rfl rfl (ibind (f := Value.int .i64) (Option.some.inj hv5))),
          st_run 15 22 true rfl rfl rfl (List.Mem.head _) (op_move _ _ _ _ rfl rfl),
          st_run 15 22 true rfl rfl rfl (List.Mem.head _) ((Option.some.inj hv6) ▸ op_min _ _ _ _ rfl rfl),
          st_run 15 22 true rfl rfl rfl (List.Mem.head _) (op_call _ _ 30 _ _ rfl Try.call30 rfl (ok_wherryref18_in s.Next s.Base v6 _ hv7) rfl rfl),
          st_plain rfl (op_pick _ _ true _ rfl rfl),
          st_plain rfl (op_move _ _ _ _ (congrArg (fun b => AV.v (Value.bool b)) hg2_27) rfl),
          st_run 27 34 true rfl rfl rfl (List.Mem.head _) (op_fieldAddr _ _ _ _ 1 0 _ Try.underlying24 rfl sz3 rfl rfl (by decide)),
          st_run 27 34 true rfl rfl rfl (List.Mem.head _) (op_load _ _ _ _ _ _ Try.underlying3 rfl rfl rfl (Nat.le_of_ble_eq_true rfl) rfl rfl rfl),
          st_run 27 34 true rfl rfl rfl (List.Mem.head _) (op_call _ _ 30 _ _ rfl Try.call30 rfl (ok_wherryref18_in s.Wait 0 3 _ hv8) rfl rfl),
          st_plain rfl (op_pick _ _ true _ rfl rfl),
          st_plain rfl (op_move _ _ _ _ (congrArg (fun b => AV.v (Value.bool b)) hg2_32) rfl),
          st_run 32 39 true rfl rfl rfl (List.Mem.head _) (op_fieldAddr _ _ _ _ 1 0 _ Try.underlying24 rfl sz4 rfl rfl (by decide)),
          st_run 32 39 true rfl rfl rfl (List.Mem.head _) (op_load _ _ _ _ _ _ Try.underlying4 rfl rfl rfl (Nat.le_of_ble_eq_true rfl) rfl rfl rfl),
          st_run 32 39 true rfl rfl rfl (List.Mem.head _) (op_move _ _ _ _ (congrArg (fun b => AV.v (Value.bool b)) hg2_35) rfl),
          st_skip 35 42 _ false rfl rfl rfl rfl (List.Mem.head _),
          st_skip 35 42 _ false rfl rfl rfl rfl (List.Mem.head _),
          st_skip 35 42 _ false rfl rfl rfl rfl (List.Mem.head _),
          st_skip 35 42 _ false rfl rfl rfl rfl (List.Mem.head _),
          st_skipU 39 46 _ true rfl rfl rfl rfl (List.Mem.head _),
          st_skipU 39 46 _ true rfl rfl rfl rfl (List.Mem.head _),
          st_skipU 39 46 _ true rfl rfl rfl rfl (List.Mem.head _),
          st_skip 35 42 _ false rfl rfl rfl rfl (List.Mem.head _),
          st_run 32 39 true rfl rfl rfl (List.Mem.head _) (op_pick _ _ true _ rfl rfl),
          st_plain rfl (op_pick _ _ true _ rfl rfl),
          st_plain rfl (op_assign _ _ _ _ rfl rfl),
          trivial⟩ ?_
         exact hl11 _ (Option.some.inj h).symm
        ·refine cond_some h (fun hg2_39 h => ?_) (fun hg2_39 h => ?_)
         ·refine ht_seqR hn (El := (_ :: _ :: (7, .ptr 1 0) :: (8, .v (.int .i64 s.Number)) :: (9, .v (.bool v2)) :: (10, .v (.bool true)) :: (11, .ptr 1 1) :: (12, .fl .shr 1 (List.map (Value.int .u8) s.Data)) :: (13, .v (.int .i64 (s.Data.length : Int))) :: (14, .v (.bool v3)) :: (15, .v (.bool v3)) :: (16, .v (.bool true)) :: (17, .ptr 1 3) :: (18, .v (.int .i64 s.Base)) :: (19, .v (.int .i64 v1)) :: (20, .v (.bool v4)) :: (21, .v (.bool v4)) :: (22, .v (.bool true)) :: (23, .ptr 1 4) :: (24, .v (.int .i64 s.Next)) :: (25, .ptr 1 3) :: (26, .v (.int .i64 s.Base)) :: (27, .ptr 1 3) :: (28, .v (.int .i64 s.Base)) :: (29, .v (.int .i64 v5)) :: (30, .v (.int .i64 v1)) :: (31, .v (.int .i64 v6)) :: (32, .v (.bool v7)) :: (33, .v (.bool v7)) :: (34, .v (.bool true)) :: (35, .ptr 1 5) :: (36, .v (.int .i64 s.Wait)) :: (37, .v (.bool v8)) :: (38, .v (.bool v8)) :: (39, .v (.bool true)) :: (40, .ptr 1 2) :: (41, .v (.bool s.Ready)) :: (42, .v (.bool false)) :: (43, .ptr 1 3) :: (44, .v (.int .i64 s.Base)) :: (45, .v (.bool (s.Base == 0))) :: (46, .v (.bool true)) :: (47, .ptr 1 4) :: (48, .v (.int .i64 s.Next)) :: (49, .v (.bool (s.Next == 0))) :: (50, .v (.bool (s.Next == 0))) :: (51, .v (.bool (s.Next == 0))) :: (52, .v (.bool (s.Next == 0))) :: (2, .v (.bool (s.Next == 0))) :: [])) (init := [0, 1]) (fin := [48]) (sps := (⟨[0], [], [2], [(.slot 7)]⟩ :: ⟨[2, 0], [], [3], [(.slot 8)]⟩ :: ⟨[3], [], [4], [(.slot 9)]⟩ :: ⟨[4], [], [5], [(.slot 10)]⟩ :: ⟨[5, 0], [], [6], [(.slot 11)]⟩ :: ⟨[5, 6, 0], [], [7], [(.slot 12)]⟩ :: ⟨[5, 7], [], [8], [(.slot 13)]⟩ :: ⟨[5, 8], [], [9], [(.slot 14)]⟩ :: ⟨[5, 9], [], [10], [(.slot 15)]⟩ :: ⟨[10], [], [11], [(.slot 16)]⟩ :: ⟨[11, 0], [], [12], [(.slot 17)]⟩ :: ⟨[11, 12, 0], [], [13], [(.slot 18)]⟩ :: ⟨[11, 1], [], [14], [(.slot 19)]⟩ :: ⟨[11, 13, 14], [], [15], [(.slot 20)]⟩ :: ⟨[11, 15], [], [16], [(.slot 21)]⟩ :: ⟨[16], [], [17], [(.slot 22)]⟩ :: ⟨[17, 0], [], [18], [(.slot 23)]⟩ :: ⟨[17, 18, 0], [], [19], [(.slot 24)]⟩ :: ⟨[17, 0], [], [20], [(.slot 25)]⟩ :: ⟨[17, 20, 0], [], [21], [(.slot 26)]⟩ :: ⟨[17, 0], [], [22], [(.slot 27)]⟩ :: ⟨[17, 22, 0], [], [23], [(.slot 28)]⟩ :: ⟨[17, 23], [], [24], [(.slot 29)]⟩ :: ⟨[17, 1], [], [25], [(.slot 30)]⟩ :: ⟨[17, 24, 25], [], [26], [(.slot 31)]⟩ :: ⟨[17, 19, 21, 26], [], [27], [(.slot 32)]⟩ :: ⟨[17, 27], [], [28], [(.slot 33)]⟩ :: ⟨[28], [], [29], [(.slot 34)]⟩ :: ⟨[29, 0], [], [30], [(.slot 35)]⟩ :: ⟨[29, 30, 0], [], [31], [(.slot 36)]⟩ :: ⟨[29, 31], [], [32], [(.slot 37)]⟩ :: ⟨[29, 32], [], [33], [(.slot 38)]⟩ :: ⟨[33], [], [34], [(.slot 39)]⟩ :: ⟨[34, 0], [], [35], [(.slot 40)]⟩ :: ⟨[34, 35, 0], [], [36], [(.slot 41)]⟩ :: ⟨[34, 36], [], [37], [(.slot 42)]⟩ :: ⟨[37, 0], [], [38], [(.slot 43)]⟩ :: ⟨[37, 38, 0], [], [39], [(.slot 44)]⟩ :: ⟨[37, 39], [], [40], [(.slot 45)]⟩ :: ⟨[37, 40], [], [41], [(.slot 46)]⟩ :: ⟨[41, 0], [], [42], [(.slot 47)]⟩ :: ⟨[41, 42, 0], [], [43], [(.slot 48)]⟩ :: ⟨[41, 43], [], [44], [(.slot 49)]⟩ :: ⟨[37, 41, 44], [], [45], [(.slot 50)]⟩ :: ⟨[34, 37, 45], [], [46], [(.slot 51)]⟩ :: ⟨[34, 46], [], [47], [(.slot 52)]⟩ :: ⟨[47], [], [48], [(.slot 2)]⟩ :: [])) (es' := [(2, .v (.bool (s.Next == 0)))]) (by kernel_rfl) rfl rfl
           ⟨st_plain rfl (op_fieldAddr _ _ _ _ 1 0 _ Try.underlying24 rfl sz3 rfl rfl (by decide)),
           st_plain rfl (op_load _ _ _ _ _ _ Try.underlying3 rfl rfl rfl (Nat.le_of_ble_eq_true rfl) rfl rfl rfl),
           st_plain rfl (op_call _ _ 30 _ _ rfl Try.call30 rfl (ok_wherryref18_in s.Number 1 65535 _ hv2) rfl rfl),
           st_plain rfl (op_move _ _ _ _ (congrArg (fun b => AV.v (Value.bool b)) hg2_3) rfl),
           st_run 3 10 true rfl rfl rfl (List.Mem.head _) (op_fieldAddr _ _ _ _ 1 0 _ Try.underlying24 rfl sz22 rfl rfl (by decide)),
           st_run 3 10 true rfl rfl rfl (List.Mem.head _) (op_load _ _ _ _ _ _ Try.underlying22 rfl rfl rfl (Nat.le_of_ble_eq_true rfl) rfl rfl rfl),
           st_run 3 10 true rfl rfl rfl (List.Mem.head _) (op_len_fl _ _ _ Try.underlying22 rfl (by decide) (map_len _)),
           st_run 3 10 true rfl rfl rfl (List.Mem.head _) (op_call _ _ 30 _ _ rfl Try.call30 rfl (ok_wherryref18_in (s.Data.length : Int) 1 5000 _ hv3) rfl rfl),
           st_plain rfl (op_pick _ _ true _ rfl rfl),
           st_plain rfl (op_move _ _ _ _ (congrArg (fun b => AV.v (Value.bool b)) hg2_9) rfl),
           st_run 9 16 true rfl rfl rfl (List.Mem.head _) (op_fieldAddr _ _ _ _ 1 0 _ Try.underlying24 rfl sz3 rfl rfl (by decide)),
           st_run 9 16 true rfl rfl rfl (List.Mem.head _) (op_load _ _ _ _ _ _ Try.underlying3 rfl rfl rfl (Nat.le_of_ble_eq_true rfl) rfl rfl rfl),
           st_run 9 16 true rfl rfl rfl (List.Mem.head _) (op_move _ _ _ _ rfl rfl),
           st_run 9 16 true rfl rfl rfl (List.Mem.head _) (op_call _ _ 30 _ _ rfl Try.call30 rfl (ok_wherryref18_in s.Base 0 v1 _ hv4) rfl rfl),
           st_plain rfl (op_pick _ _ true _ rfl rfl),
           st_plain rfl (op_move _ _ _ _ (congrArg (fun b => AV.v (Value.bool b)) hg2_15) rfl),
           st_run 15 22 true rfl rfl rfl (List.Mem.head _) (op_fieldAddr _ _ _ _ 1 0 _ Try.underlying24 rfl sz3 rfl rfl (by decide)),
           st_run 15 22 true rfl rfl rfl (List.Mem.head _) (op_load _ _ _ _ _ _ Try.underlying3 rfl rfl rfl (Nat.le_of_ble_eq_true rfl) rfl rfl rfl),
           st_run 15 22 true rfl rfl rfl (List.Mem.head _) (op_fieldAddr _ _ _ _ 1 0 _ Try.underlying24 rfl sz3 rfl rfl (by decide)),
           st_run 15 22 true rfl rfl rfl (List.Mem.head _) (op_load _ _ _ _ _ _ Try.underlying3 rfl rfl rfl (Nat.le_of_ble_eq_true rfl) rfl rfl rfl),
           st_run 15 22 true rfl rfl rfl (List.Mem.head _) (op_fieldAddr _ _ _ _ 1 0 _ Try.underlying24 rfl sz3 rfl rfl (by decide)),
           st_run 15 22 true rfl rfl rfl (List.Mem.head _) (op_load _ _ _ _ _ _ Try.underlying3 rfl rfl rfl (Nat.le_of_ble_eq_true rfl) rfl rfl rfl),
           st_run 15 22 true rfl rfl rfl (List.Mem.head _) (op_bin _ _ _ _ _ rfl rfl (ibind (f := Value.int .i64) (Option.some.inj hv5))),
           st_run 15 22 true rfl rfl rfl (List.Mem.head _) (op_move _ _ _ _ rfl rfl),
           st_run 15 22 true rfl rfl rfl (List.Mem.head _) ((Option.some.inj hv6) ▸ op_min _ _ _ _ rfl rfl),
           st_run 15 22 true rfl rfl rfl (List.Mem.head _) (op_call _ _ 30 _ _ rfl Try.call30 rfl (ok_wherryref18_in s.Next s.Base v6 _ hv7) rfl rfl),
           st_plain rfl (op_pick _ _ true _ rfl rfl),
           st_plain rfl (op_move _ _ _ _ (congrArg (fun b => AV.v (Value.bool b)) hg2_27) rfl),
           st_run 27 34 true rfl rfl rfl (List.Mem.head _) (op_fieldAddr _ _ _ _ 1 0 _ Try.underlying24 rfl sz3 rfl rfl (by decide)),
           st_run 27 34 true rfl rfl rfl (List.Mem.head _) (op_load _ _ _ _ _ _ Try.underlying3 rfl rfl rfl (Nat.le_of_ble_eq_true rfl) rfl rfl rfl),
           st_run 27 34 true rfl rfl rfl (List.Mem.head _) (op_call _ _ 30 _ _ rfl Try.call30 rfl (ok_wherryref18_in s.Wait 0 3 _ hv8) rfl rfl),
           st_plain rfl (op_pick _ _ true _ rfl rfl),
           st_plain rfl (op_move _ _ _ _ (congrArg (fun b => AV.v (Value.bool b)) hg2_32) rfl),
           st_run 32 39 true rfl rfl rfl (List.Mem.head _) (op_fieldAddr _ _ _ _ 1 0 _ Try.underlying24 rfl sz4 rfl rfl (by decide)),
           st_run 32 39 true rfl rfl rfl (List.Mem.head _) (op_load _ _ _ _ _ _ Try.underlying4 rfl rfl rfl (Nat.le_of_ble_eq_true rfl) rfl rfl rfl),
           st_run 32 39 true rfl rfl rfl (List.Mem.head _) (op_move _ _ _ _ (congrArg (fun b => AV.v (Value.bool b)) hg2_35) rfl),
           st_run 35 42 false rfl rfl rfl (List.Mem.head _) (op_fieldAddr _ _ _ _ 1 0 _ Try.underlying24 rfl sz3 rfl rfl (by decide)),
           st_run 35 42 false rfl rfl rfl (List.Mem.head _) (op_load _ _ _ _ _ _ Try.underlying3 rfl rfl rfl (Nat.le_of_ble_eq_true rfl) rfl rfl rfl),
           st_run 35 42 false rfl rfl rfl (List.Mem.head _) (op_bin _ _ _ _ _ rfl rfl rfl),
           st_run 35 42 false rfl rfl rfl (List.Mem.head _) (op_move _ _ _ _ (congrArg (fun b => AV.v (Value.bool b)) hg2_39) rfl),
           st_run 39 46 true rfl rfl rfl (List.Mem.head _) (op_fieldAddr _ _ _ _ 1 0 _ Try.underlying24 rfl sz3 rfl rfl (by decide)),
           st_run 39 46 true rfl rfl rfl (List.Mem.head _) (op_load _ _ _ _ _ _ Try.underlying3 rfl rfl rfl (Nat.le_of_ble_eq_true rfl) rfl rfl rfl),
           st_run 39 46 true rfl rfl rfl (List.Mem.head _) (op_bin _ _ _ _ _ rfl rfl rfl),
           st_run 35 42 false rfl rfl rfl (List.Mem.head _) (op_pick _ _ true _ rfl rfl),
           st_run 32 39 true rfl rfl rfl (List.Mem.head _) (op_pick _ _ false _ rfl rfl),
           st_plain rfl (op_pick _ _ true _ rfl rfl),
           st_plain rfl (op_assign _ _ _ _ rfl rfl),
           trivial⟩ ?_
          exact hl11 _ (Option.some.inj h).symm
         ·refine ht_seqR hn (El := (_ :: _ :: (7, .ptr 1 0) :: (8, .v (.int .i64 s.Number)) :: (9, .v (.bool v2)) :: (10, .v (.bool true)) :: (11, .ptr 1 1) :: (12, .fl .shr 1 (List.map (Value.int .u8) s.Data)) :: (13, .v (.int .i64 (s.Data.length : Int))) :: (14, .v (.bool v3)) :: (15, .v (.bool v3)) :: (16, .v (.bool true)) :: (17, .ptr 1 3) :: (18, .v (.int .i64 s.Base)) :: (19, .v (.int .i64 v1)) :: (20, .v (.bool v4)) :: (21, .v (.bool v4)) :: (22, .v (.bool true)) :: (23, .ptr 1 4) :: (24, .v (.int .i64 s.Next)) :: (25, .ptr 1 3) :: (26, .v (.int .i64 s.Base)) :: (27, .ptr 1 3) :: (28, .v (.int .i64 s.Base)) :: (29, .v (.int .i64 v5)) :: (30, .v (.int .i64 v1)) :: (31, .v (.int .i64 v6)) :: (32, .v (.bool v7)) :: (33, .v (.bool v7)) :: (34, .v (.bool true)) :: (35, .ptr 1 5) :: (36, .v (.int .i64 s.Wait)) :: (37, .v (.bool v8)) :: (38, .v (.bool v8)) :: (39, .v (.bool true)) :: (40, .ptr 1 2) :: (41, .v (.bool s.Ready)) :: (42, .v (.bool false)) :: (43, .ptr 1 3) :: (44, .v (.int .i64 s.Base)) :: (45, .v (.bool (s.Base == 0))) :: (46, .v (.bool false)) :: (47, .v undef) :: (48, .v undef) :: (49, .v undef) :: (50, .v (.bool false)) :: (51, .v (.bool false)) :: (52, .v (.bool false)) :: (2, .v (.bool false)) :: [])) (init := [0, 1]) (fin := [48]) (sps := (⟨[0], [], [2], [(.slot 7)]⟩ :: ⟨[2, 0], [], [3], [(.slot 8)]⟩ :: ⟨[3], [], [4], [(.slot 9)]⟩ :: ⟨[4], [], [5], [(.slot 10)]⟩ :: ⟨[5, 0], [], [6], [(.slot 11)]⟩ :: ⟨[5, 6, 0], [], [7], [(.slot 12)]⟩ :: ⟨[5, 7], [], [8], [(.slot 13)]⟩ :: ⟨[5, 8], [], [9], [(.slot 14)]⟩ :: ⟨[5, 9], [], [10], [(.slot 15)]⟩ :: ⟨[10], [], [11], [(.slot 16)]⟩ :: ⟨[11, 0], [], [12], [(.slot 17)]⟩ :: ⟨[11, 12, 0], [], [13], [(.slot 18)]⟩ :: ⟨[11, 1], [], [14], [(.slot 19)]⟩ :: ⟨[11, 13, 14], [], [15], [(.slot 20)]⟩ :: ⟨[11, 15], [], [16], [(.slot 21)]⟩ :: ⟨[16], [], [17], [(.slot 22)]⟩ :: ⟨[17, 0], [], [18], [(.slot 23)]⟩ :: ⟨[17, 18, 0], [], [19], [(.slot 24)]⟩ :: ⟨[17, 0], [], [20], [(.slot 25)]⟩ :: ⟨[17, 20, 0], [], [21], [(.slot 26)]⟩ :: ⟨[17, 0], [], [22], [(.slot 27)]⟩ :: ⟨[17, 22, 0], [], [23], [(.slot 28)]⟩ :: ⟨[17, 23], [], [24], [(.slot 29)]⟩ :: ⟨[17, 1], [], [25], [(.slot 30)]⟩ :: ⟨[17, 24, 25], [], [26], [(.slot 31)]⟩ :: ⟨[17, 19, 21, 26], [], [27], [(.slot 32)]⟩ :: ⟨[17, 27], [], [28], [(.slot 33)]⟩ :: ⟨[28], [], [29], [(.slot 34)]⟩ :: ⟨[29, 0], [], [30], [(.slot 35)]⟩ :: ⟨[29, 30, 0], [], [31], [(.slot 36)]⟩ :: ⟨[29, 31], [], [32], [(.slot 37)]⟩ :: ⟨[29, 32], [], [33], [(.slot 38)]⟩ :: ⟨[33], [], [34], [(.slot 39)]⟩ :: ⟨[34, 0], [], [35], [(.slot 40)]⟩ :: ⟨[34, 35, 0], [], [36], [(.slot 41)]⟩ :: ⟨[34, 36], [], [37], [(.slot 42)]⟩ :: ⟨[37, 0], [], [38], [(.slot 43)]⟩ :: ⟨[37, 38, 0], [], [39], [(.slot 44)]⟩ :: ⟨[37, 39], [], [40], [(.slot 45)]⟩ :: ⟨[37, 40], [], [41], [(.slot 46)]⟩ :: ⟨[41], [], [42], [(.slot 47)]⟩ :: ⟨[41], [], [43], [(.slot 48)]⟩ :: ⟨[41], [], [44], [(.slot 49)]⟩ :: ⟨[37, 41], [], [45], [(.slot 50)]⟩ :: ⟨[34, 37, 45], [], [46], [(.slot 51)]⟩ :: ⟨[34, 46], [], [47], [(.slot 52)]⟩ :: ⟨[47], [], [48], [(.slot 2)]⟩ :: [])) (es' := [(2, .v (.bool false))]) (by kernel_rfl) rfl rfl
           ⟨st_plain rfl (op_fieldAddr _ _ _ _ 1 0 _ Try.underlying24 rfl sz3 rfl rfl (by decide)),
           st_plain rfl (op_load _ _ _ _ _ _ Try.underlying3 rfl rfl rfl (Nat.le_of_ble_eq_true rfl) rfl rfl rfl),
           st_plain rfl (op_call _ _ 30 _ _ rfl Try.call30 rfl (ok_wherryref18_in s.Number 1 65535 _ hv2) rfl rfl),
           st_plain rfl (op_move _ _ _ _ (congrArg (fun b => AV.v (Value.bool b)) hg2_3) rfl),
           st_run 3 10 true rfl rfl rfl (List.Mem.head _) (op_fieldAddr _ _ _ _ 1 0 _ Try.underlying24 rfl sz22 rfl rfl (by decide)),
           st_run 3 10 true rfl rfl rfl (List.Mem.head _) (op_load _ _ _ _ _ _ Try.underlying22 rfl rfl rfl (Nat.le_of_ble_eq_true rfl) rfl rfl rfl),
           st_run 3 10 true rfl rfl rfl (List.Mem.head _) (op_len_fl _ _ _ Try.underlying22 rfl (by decide) (map_len _)),
           st_run 3 10 true rfl rfl rfl (List.Mem.head _) (op_call _ _ 30 _ _ rfl Try.call30 rfl (ok_wherryref18_in (s.Data.length : Int) 1 5000 _ hv3) rfl rfl),
           st_plain rfl (op_pick _ _ true _ rfl rfl),
           st_plain rfl (op_move _ _ _ _ (congrArg (fun b => AV.v (Value.bool b)) hg2_9) rfl),
           st_run 9 16 true rfl rfl rfl (List.Mem.head _) (op_fieldAddr _ _ _ _ 1 0 _ Try.underlying24 rfl sz3 rfl rfl (by decide)),
           st_run 9 16 true rfl rfl rfl (List.Mem.head _) (op_load _ _ _ _ _ _ Try.underlying3 rfl rfl rfl (Nat.le_of_ble_eq_true rfl) rfl rfl rfl),
           st_run 9 16 true rfl rfl rfl (List.Mem.head _) (op_move _ _ _ _ rfl rfl),
           st_run 9 16 true rfl rfl rfl (List.Mem.head _) (op_call _ _ 30 _ _ rfl Try.call30 rfl (ok_wherryref18_in s.Base 0 v1 _ hv4) rfl rfl),
           st_plain rfl (op_pick _ _ true _ rfl rfl),
           st_plain rfl (op_move _ _ _ _ (congrArg (fun b => AV.v (Value.bool b)) hg2_15) rfl),
           st_run 15 22 true rfl rfl rfl (List.Mem.head _) (op_fieldAddr _ _ _ _ 1 0 _ Try.underlying24 rfl sz3 rfl rfl (by decide)),
           st_run 15 22 true rfl rfl rfl (List.Mem.head _) (op_load _ _ _ _ _ _ Try.underlying3 rfl rfl rfl (Nat.le_of_ble_eq_true rfl) rfl rfl rfl),
           st_run 15 22 true rfl rfl rfl (List.Mem.head _) (op_fieldAddr _ _ _ _ 1 0 _ Try.underlying24 rfl sz3 rfl rfl (by decide)),
           st_run 15 22 true rfl rfl rfl (List.Mem.head _) (op_load _ _ _ _ _ _ Try.underlying3 rfl rfl rfl (Nat.le_of_ble_eq_true rfl) rfl rfl rfl),
           st_run 15 22 true rfl rfl rfl (List.Mem.head _) (op_fieldAddr _ _ _ _ 1 0 _ Try.underlying24 rfl sz3 rfl rfl (by decide)),
           st_run 15 22 true rfl rfl rfl (List.Mem.head _) (op_load _ _ _ _ _ _ Try.underlying3 rfl rfl rfl (Nat.le_of_ble_eq_true rfl) rfl rfl rfl),
           st_run 15 22 true rfl rfl rfl (List.Mem.head _) (op_bin _ _ _ _ _ rfl rfl (ibind (f := Value.int .i64) (Option.some.inj hv5))),
           st_run 15 22 true rfl rfl rfl (List.Mem.head _) (op_move _ _ _ _ rfl rfl),
           st_run 15 22 true rfl rfl rfl (List.Mem.head _) ((Option.some.inj hv6) ▸ op_min _ _ _ _ rfl rfl),
           st_run 15 22 true rfl rfl rfl (List.Mem.head _) (op_call _ _ 30 _ _ rfl Try.call30 rfl (ok_wherryref18_in s.Next s.Base v6 _ hv7) rfl rfl),
           st_plain rfl (op_pick _ _ true _ rfl rfl),
           st_plain rfl (op_move _ _ _ _ (congrArg (fun b => AV.v (Value.bool b)) hg2_27) rfl),
           st_run 27 34 true rfl rfl rfl (List.Mem.head _) (op_fieldAddr _ _ _ _ 1 0 _ Try.underlying24 rfl sz3 rfl rfl (by decide)),
           st_run 27 34 true rfl rfl rfl (List.Mem.head _) (op_load _ _ _ _ _ _ Try.underlying3 rfl rfl rfl (Nat.le_of_ble_eq_true rfl) rfl rfl rfl),
           st_run 27 34 true rfl rfl rfl (List.Mem.head _) (op_call _ _ 30 _ _ rfl Try.call30 rfl (ok_wherryref18_in s.Wait 0 3 _ hv8) rfl rfl),
           st_plain rfl (op_pick _ _ true _ rfl rfl),
           st_plain rfl (op_move _ _ _ _ (congrArg (fun b => AV.v (Value.bool b)) hg2_32) rfl),
           st_run 32 39 true rfl rfl rfl (List.Mem.head _) (op_fieldAddr _ _ _ _ 1 0 _ Try.underlying24 rfl sz4 rfl rfl (by decide)),
           st_run 32 39 true rfl rfl rfl (List.Mem.head _) (op_load _ _ _ _ _ _ Try.underlying4 rfl rfl rfl (Nat.le_of_ble_eq_true rfl) rfl rfl rfl),
           st_run 32 39 true rfl rfl rfl (List.Mem.head _) (op_move _ _ _ _ (congrArg (fun b => AV.v (Value.bool b)) hg2_35) rfl),
           st_run 35 42 false rfl rfl rfl (List.Mem.head _) (op_fieldAddr _ _ _ _ 1 0 _ Try.underlying24 rfl sz3 rfl rfl (by decide)),
           st_run 35 42 false rfl rfl rfl (List.Mem.head _) (op_load _ _ _ _ _ _ Try.underlying3 rfl rfl rfl (Nat.le_of_ble_eq_true rfl) rfl rfl rfl),
           st_run 35 42 false rfl rfl rfl (List.Mem.head _) (op_bin _ _ _ _ _ rfl rfl rfl),
           st_run 35 42 false rfl rfl rfl (List.Mem.head _) (op_move _ _ _ _ (congrArg (fun b => AV.v (Value.bool b)) hg2_39) rfl),
           st_skip 39 46 _ true rfl rfl rfl rfl (List.Mem.head _),
           st_skip 39 46 _ true rfl rfl rfl rfl (List.Mem.head _),
           st_skip 39 46 _ true rfl rfl rfl rfl (List.Mem.head _),
           st_run 35 42 false rfl rfl rfl (List.Mem.head _) (op_pick _ _ false _ rfl rfl),
           st_run 32 39 true rfl rfl rfl (List.Mem.head _) (op_pick _ _ false _ rfl rfl),
           st_plain rfl (op_pick _ _ true _ rfl rfl),
           st_plain rfl (op_assign _ _ _ _ rfl rfl),
           trivial⟩ ?_
          exact hl11 _ (Option.some.inj h).symm
       ·refine ht_seqR hn (El := (_ :: _ :: (7, .ptr 1 0) :: (8, .v (.int .i64 s.Number)) :: (9, .v (.bool v2)) :: (10, .v (.bool true)) :: (11, .ptr 1 1) :: (12, .fl .shr 1 (List.map (Value.int .u8) s.Data)) :: (13, .v (.int .i64 (s.Data.length : Int))) :: (14, .v (.bool v3)) :: (15, .v (.bool v3)) :: (16, .v (.bool true)) :: (17, .ptr 1 3) :: (18, .v (.int .i64 s.Base)) :: (19, .v (.int .i64 v1)) :: (20, .v (.bool v4)) :: (21, .v (.bool v4)) :: (22, .v (.bool true)) :: (23, .ptr 1 4) :: (24, .v (.int .i64 s.Next)) :: (25, .ptr 1 3) :: (26, .v (.int .i64 s.Base)) :: (27, .ptr 1 3) :: (28, .v (.int .i64 s.Base)) :: (29, .v (.int .i64 v5)) :: (30, .v (.int .i64 v1)) :: (31, .v (.int .i64 v6)) :: (32, .v (.bool v7)) :: (33, .v (.bool v7)) :: (34, .v (.bool true)) :: (35, .ptr 1 5) :: (36, .v (.int .i64 s.Wait)) :: (37, .v (.bool v8)) :: (38, .v (.bool v8)) :: (39, .v (.bool false)) :: (40, .v undef) :: (41, .v undef) :: (42, .v undef) :: (43, .v undef) :: (44, .v undef) :: (45, .v undef) :: (46, .v undef) :: (47, .v undef) :: (48, .v undef) :: (49, .v undef) :: (50, .v undef) :: (51, .v undef) :: (52, .v (.bool false)) :: (2, .v (.bool false)) :: [])) (init := [0, 1]) (fin := [48]) (sps := (⟨[0], [], [2], [(.slot 7)]⟩ :: ⟨[2, 0], [], [3], [(.slot 8)]⟩ :: ⟨[3], [], [4], [(.slot 9)]⟩ :: ⟨[4], [], [5], [(.slot 10)]⟩ :: ⟨[5, 0], [], [6], [(.slot 11)]⟩ :: ⟨[5, 6, 0], [], [7], [(.slot 12)]⟩ :: ⟨[5, 7], [], [8], [(.slot 13)]⟩ :: ⟨[5, 8], [], [9], [(.slot 14)]⟩ :: ⟨[5, 9], [], [10], [(.slot 15)]⟩ :: ⟨[10], [], [11], [(.slot 16)]⟩ :: ⟨[11, 0], [], [12], [(.slot 17)]⟩ :: ⟨[11, 12, 0], [], [13], [(.slot 18)]⟩ :: ⟨[11, 1], [], [14], [(.slot 19)]⟩ :: ⟨[11, 13, 14], [], [15], [(.slot 20)]⟩ :: ⟨[11, 15], [], [16], [(.slot 21)]⟩ :: ⟨[16], [], [17], [(.slot 22)]⟩ :: ⟨[17, 0], [], [18], [(.slot 23)]⟩ :: ⟨[17, 18, 0], [], [19], [(.slot 24)]⟩ :: ⟨[17, 0], [], [20], [(.slot 25)]⟩ :: ⟨[17, 20, 0], [], [21], [(.slot 26)]⟩ :: ⟨[17, 0], [], [22], [(.slot 27)]⟩ :: ⟨[17, 22, 0], [], [23], [(.slot 28)]⟩ :: ⟨[17, 23], [], [24], [(.slot 29)]⟩ :: ⟨[17, 1], [], [25], [(.slot 30)]⟩ :: ⟨[17, 24, 25], [], [26], [(.slot 31)]⟩ :: ⟨[17, 19, 21, 26], [], [27], [(.slot 32)]⟩ :: ⟨[17, 27], [], [28], [(.slot 33)]⟩ :: ⟨[28], [], [29], [(.slot 34)]⟩ :: ⟨[29, 0], [], [30], [(.slot 35)]⟩ :: ⟨[29, 30, 0], [], [31], [(.slot 36)]⟩ :: ⟨[29, 31], [], [32], [(.slot 37)]⟩ :: ⟨[29, 32], [], [33], [(.slot 38)]⟩ :: ⟨[33], [], [34], [(.slot 39)]⟩ :: ⟨[34], [], [35], [(.slot 40)]⟩ :: ⟨[34], [], [36], [(.slot 41)]⟩ :: ⟨[34], [], [37], [(.slot 42)]⟩ :: ⟨[37], [], [38], [(.slot 43)]⟩ :: ⟨[37], [], [39], [(.slot 44)]⟩ :: ⟨[37], [], [40], [(.slot 45)]⟩ :: ⟨[37], [], [41], [(.slot 46)]⟩ :: ⟨[41], [], [42], [(.slot 47)]⟩ :: ⟨[41], [], [43], [(.slot 48)]⟩ :: ⟨[41], [], [44], [(.slot 49)]⟩ :: ⟨[37], [], [45], [(.slot 50)]⟩ :: ⟨[34], [], [46], [(.slot 51)]⟩ :: ⟨[34], [], [47], [(.slot 52)]⟩ :: ⟨[47], [], [48], [(.slot 2)]⟩ :: [])) (es' := [(2, .v (.bool false))]) (by kernel_rfl) rfl rfl
         ⟨st_plain rfl (op_fieldAddr _ _ _ _ 1 0 _ Try.underlying24 rfl sz3 rfl rfl (by decide)),
         st_plain rfl (op_load _ _ _ _ _ _ Try.underlying3 rfl rfl rfl (Nat.le_of_ble_eq_true rfl) rfl rfl rfl),
         st_plain rfl (op_call _ _ 30 _ _ rfl Try.call30 rfl (ok_wherryref18_in s.Number 1 65535 _ hv2) rfl rfl),
         st_plain rfl (op_move _ _ _ _ (congrArg (fun b => AV.v (Value.bool b)) hg2_3) rfl),
         st_run 3 10 true rfl rfl rfl (List.Mem.head _) (op_fieldAddr _ _ _ _ 1 0 _ Try.underlying24 rfl sz22 rfl rfl (by decide)),
         st_run 3 10 true rfl rfl rfl (List.Mem.head _) (op_load _ _ _ _ _ _ Try.underlying22 rfl rfl rfl (Nat.le_of_ble_eq_true rfl) rfl rfl rfl),
         st_run 3 10 true rfl rfl rfl (List.Mem.head _) (op_len_fl _ _ _ Try.underlying22 rfl (by decide) (map_len _)),
         st_run 3 10 true rfl rfl rfl (List.Mem.head _) (op_call _ _ 30 _ _ rfl Try.call30 rfl (ok_wherryref18_in (s.Data.length : Int) 1 5000 _ hv3) rfl rfl),
         st_plain rfl (op_pick _ _ true _ rfl rfl),
         st_plain rfl (op_move _ _ _ _ (congrArg (fun b => AV.v (Value.bool b)) hg2_9) rfl),
         st_run 9 16 true rfl rfl rfl (List.Mem.head _) (op_fieldAddr _ _ _ _ 1 0 _ Try.underlying24 rfl sz3 rfl rfl (by decide)),
         st_run 9 16 true rfl rfl rfl (List.Mem.head _) (op_load _ _ _ _ _ _ Try.underlying3 rfl rfl rfl (Nat.le_of_ble_eq_true rfl) rfl rfl rfl),
         st_run 9 16 true rfl rfl rfl (List.Mem.head _) (op_move _ _ _ _ rfl rfl),
         st_run 9 16 true rfl rfl rfl (List.Mem.head _) (op_call _ _ 30 _ _ rfl Try.call30 rfl (ok_wherryref18_in s.Base 0 v1 _ hv4) rfl rfl),
         st_plain rfl (op_pick _ _ true _ rfl rfl),
         st_plain rfl (op_move _ _ _ _ (congrArg (fun b => AV.v (Value.bool b)) hg2_15) rfl),
         st_run 15 22 true rfl rfl rfl (List.Mem.head _) (op_fieldAddr _ _ _ _ 1 0 _ Try.underlying24 rfl sz3 rfl rfl (by decide)),
         st_run 15 22 true rfl rfl rfl (List.Mem.head _) (op_load _ _ _ _ _ _ Try.underlying3 rfl rfl rfl (Nat.le_of_ble_eq_true rfl) rfl rfl rfl),
         st_run 15 22 true rfl rfl rfl (List.Mem.head _) (op_fieldAddr _ _ _ _ 1 0 _ Try.underlying24 rfl sz3 rfl rfl (by decide)),
         st_run 15 22 true rfl rfl rfl (List.Mem.head _) (op_load _ _ _ _ _ _ Try.underlying3 rfl rfl rfl (Nat.le_of_ble_eq_true rfl) rfl rfl rfl),
         st_run 15 22 true rfl rfl rfl (List.Mem.head _) (op_fieldAddr _ _ _ _ 1 0 _ Try.underlying24 rfl sz3 rfl rfl (by decide)),
         st_run 15 22 true rfl rfl rfl (List.Mem.head _) (op_load _ _ _ _ _ _ Try.underlying3 rfl rfl rfl (Nat.le_of_ble_eq_true rfl) rfl rfl rfl),
         st_run 15 22 true rfl rfl rfl (List.Mem.head _) (op_bin _ _ _ _ _ rfl rfl (ibind (f := Value.int .i64) (Option.some.inj hv5))),
         st_run 15 22 true rfl rfl rfl (List.Mem.head _) (op_move _ _ _ _ rfl rfl),
         st_run 15 22 true rfl rfl rfl (List.Mem.head _) ((Option.some.inj hv6) ▸ op_min _ _ _ _ rfl rfl),
         st_run 15 22 true rfl rfl rfl (List.Mem.head _) (op_call _ _ 30 _ _ rfl Try.call30 rfl (ok_wherryref18_in s.Next s.Base v6 _ hv7) rfl rfl),
         st_plain rfl (op_pick _ _ true _ rfl rfl),
         st_plain rfl (op_move _ _ _ _ (congrArg (fun b => AV.v (Value.bool b)) hg2_27) rfl),
         st_run 27 34 true rfl rfl rfl (List.Mem.head _) (op_fieldAddr _ _ _ _ 1 0 _ Try.underlying24 rfl sz3 rfl rfl (by decide)),
         st_run 27 34 true rfl rfl rfl (List.Mem.head _) (op_load _ _ _ _ _ _ Try.underlying3 rfl rfl rfl (Nat.le_of_ble_eq_true rfl) rfl rfl rfl),
         st_run 27 34 true rfl rfl rfl (List.Mem.head _) (op_call _ _ 30 _ _ rfl Try.call30 rfl (ok_wherryref18_in s.Wait 0 3 _ hv8) rfl rfl),
         st_plain rfl (op_pick _ _ true _ rfl rfl),
         st_plain rfl (op_move _ _ _ _ (congrArg (fun b => AV.v (Value.bool b)) hg2_32) rfl),
         st_skip 32 39 _ true rfl rfl rfl rfl (List.Mem.head _),
         st_skip 32 39 _ true rfl rfl rfl rfl (List.Mem.head _),
         st_skip 32 39 _ true rfl rfl rfl rfl (List.Mem.head _),
         st_skipU 35 42 _ false rfl rfl rfl rfl (List.Mem.head _),
         st_skipU 35 42 _ false rfl rfl rfl rfl (List.Mem.head _),
         st_skipU 35 42 _ false rfl rfl rfl rfl (List.Mem.head _),
         st_skipU 35 42 _ false rfl rfl rfl rfl (List.Mem.head _),
         st_skipU 39 46 _ true rfl rfl rfl rfl (List.Mem.head _),
         st_skipU 39 46 _ true rfl rfl rfl rfl (List.Mem.head _),
         st_skipU 39 46 _ true rfl rfl rfl rfl (List.Mem.head _),
         st_skipU 35 42 _ false rfl rfl rfl rfl (List.Mem.head _),
         st_skip 32 39 _ true rfl rfl rfl rfl (List.Mem.head _),
         st_plain rfl (op_pick _ _ false _ rfl rfl),
         st_plain rfl (op_assign _ _ _ _ rfl rfl),
         trivial⟩ ?_
        exact hl11 _ (Option.some.inj h).symm
      ·refine ht_seqR hn (El := (_ :: _ :: (7, .ptr 1 0) :: (8, .v (.int .i64 s.Number)) :: (9, .v (.bool v2)) :: (10, .v (.bool true)) :: (11, .ptr 1 1) :: (12, .fl .shr 1 (List.map (Value.int .u8) s.Data)) :: (13, .v (.int .i64 (s.Data.length : Int))) :: (14, .v (.bool v3)) :: (15, .v (.bool v3)) :: (16, .v (.bool true)) :: (17, .ptr 1 3) :: (18, .v (.int .i64 s.Base)) :: (19, .v (.int .i64 v1)) :: (20, .v (.bool v4)) :: (21, .v (.bool v4)) :: (22, .v (.bool true)) :: (23, .ptr 1 4) :: (24, .v (.int .i64 s.Next)) :: (25, .ptr 1 3) :: (26, .v (.int .i64 s.Base)) :: (27, .ptr 1 3) :: (28, .v (.int .i64 s.Base)) :: (29, .v (.int .i64 v5)) :: (30, .v (.int .i64 v1)) :: (31, .v (.int .i64 v6)) :: (32, .v (.bool v7)) :: (33, .v (.bool v7)) :: (34, .v (.bool false)) :: (35, .v undef) :: (36, .v undef) :: (37, .v undef) :: (38, .v (.bool false)) :: (39, .v (.bool false)) :: (40, .v undef) :: (41, .v undef) :: (42, .v undef) :: (43, .v undef) :: (44, .v undef) :: (45, .v undef) :: (46, .v undef) :: (47, .v undef) :: (48, .v undef) :: (49, .v undef) :: (50, .v undef) :: (51, .v undef) :: (52, .v (.bool false)) :: (2, .v (.bool false)) :: [])) (init := [0, 1]) (fin := [48]) (sps := (⟨[0], [], [2], [(.slot 7)]⟩ :: ⟨[2, 0], [], [3], [(.slot 8)]⟩ :: ⟨[3], [], [4], [(.slot 9)]⟩ :: ⟨[4], [], [5], [(.slot 10)]⟩ :: ⟨[5, 0], [], [6], [(.slot 11)]⟩ :: ⟨[5, 6, 0], [], [7], [(.slot 12)]⟩ :: ⟨[5, 7], [], [8], [(.slot 13)]⟩ :: ⟨[5, 8], [], [9], [(.slot 14)]⟩ :: ⟨[5, 9], [], [10], [(.slot 15)]⟩ :: ⟨[10], [], [11], [(.slot 16)]⟩ :: ⟨[11, 0], [], [12], [(.slot 17)]⟩ :: ⟨[11, 12, 0], [], [13], [(.slot 18)]⟩ :: ⟨[11, 1], [], [14], [(.slot 19)]⟩ :: ⟨[11, 13, 14], [], [15], [(.slot 20)]⟩ :: ⟨[11, 15], [], [16], [(.slot 21)]⟩ :: ⟨[16], [], [17], [(.slot 22)]⟩ :: ⟨[17, 0], [], [18], [(.slot 23)]⟩ :: ⟨[17, 18, 0], [], [19], [(.slot 24)]⟩ :: ⟨[17, 0], [], [20], [(.slot 25)]⟩ :: ⟨[17, 20, 0], [], [21], [(.slot 26)]⟩ :: ⟨[17, 0], [], [22], [(.slot 27)]⟩ :: ⟨[17, 22, 0], [], [23], [(.slot 28)]⟩ :: ⟨[17, 23], [], [24], [(.slot 29)]⟩ :: ⟨[17, 1], [], [25], [(.slot 30)]⟩ :: ⟨[17, 24, 25], [], [26], [(.slot 31)]⟩ :: ⟨[17, 19, 21, 26], [], [27], [(.slot 32)]⟩ :: ⟨[17, 27], [], [28], [(.slot 33)]⟩ :: ⟨[28], [], [29], [(.slot 34)]⟩ :: ⟨[29], [], [30], [(.slot 35)]⟩ :: ⟨[29], [], [31], [(.slot 36)]⟩ :: ⟨[29], [], [32], [(.slot 37)]⟩ :: ⟨[29], [], [33], [(.slot 38)]⟩ :: ⟨[33], [], [34], [(.slot 39)]⟩ :: ⟨[34], [], [35], [(.slot 40)]⟩ :: ⟨[34], [], [36], [(.slot 41)]⟩ :: ⟨[34], [], [37], [(.slot 42)]⟩ :: ⟨[37], [], [38], [(.slot 43)]⟩ :: ⟨[37], [], [39], [(.slot 44)]⟩ :: ⟨[37], [], [40], [(.slot 45)]⟩ :: ⟨[37], [], [41], [(.slot 46)]⟩ :: ⟨[41], [], [42], [(.slot 47)]⟩ :: ⟨[41], [], [43], [(.slot 48)]⟩ :: ⟨[41], [], [44], [(.slot 49)]⟩ :: ⟨[37], [], [45], [(.slot 50)]⟩ :: ⟨[34], [], [46], [(.slot 51)]⟩ :: ⟨[34], [], [47], [(.slot 52)]⟩ :: ⟨[47], [], [48], [(.slot 2)]⟩ :: [])) (es' := [(2, .v (.bool false))]) (by kernel_rfl) rfl rfl
        ⟨st_plain rfl (op_fieldAddr _ _ _ _ 1 0 _ Try.underlying24 rfl sz3 rfl rfl (by decide)),
        st_plain rfl (op_load _ _ _ _ _ _ Try.underlying3 rfl rfl rfl (Nat.le_of_ble_eq_true rfl) rfl rfl rfl),
        st_plain rfl (op_call _ _ 30 _ _ rfl Try.call30 rfl (ok_wherryref18_in s.Number 1 65535 _ hv2) rfl rfl),
        st_plain rfl (op_move _ _ _ _ (congrArg (fun b => AV.v (Value.bool b)) hg2_3) rfl),
        st_run 3 10 true rfl rfl rfl (List.Mem.head _) (op_fieldAddr _ _ _ _ 1 0 _ Try.underlying24 rfl sz22 rfl rfl (by decide)),
        st_run 3 10 true rfl rfl rfl (List.Mem.head _) (op_load _ _ _ _ _ _ Try.underlying22 rfl rfl rfl (Nat.le_of_ble_eq_true rfl) rfl rfl rfl),
        st_run 3 10 true rfl rfl rfl (List.Mem.head _) (op_len_fl _ _ _ Try.underlying22 rfl (by decide) (map_len _)),
        st_run 3 10 true rfl rfl rfl (List.Mem.head _) (op_call _ _ 30 _ _ rfl Try.call30 rfl (ok_wherryref18_in (s.Data.length : Int) 1 5000 _ hv3) rfl rfl),
        st_plain rfl (op_pick _ _ true _ rfl rfl),
        st_plain rfl (op_move _ _ _ _ (congrArg (fun b => AV.v (Value.bool b)) hg2_9) rfl),
        st_run 9 16 true rfl rfl rfl (List.Mem.head _) (op_fieldAddr _ _ _ _ 1 0 _ Try.underlying24 rfl sz3 rfl rfl (by decide)),
        st_run 9 16 true rfl rfl rfl (List.Mem.head _) (op_load _ _ _ _ _ _ Try.underlying3 rfl rfl rfl (Nat.le_of_ble_eq_true rfl) rfl rfl rfl),
        st_run 9 16 true rfl rfl rfl (List.Mem.head _) (op_move _ _ _ _ rfl rfl),
        st_run 9 16 true rfl rfl rfl (List.Mem.head _) (op_call _ _ 30 _ _ rfl Try.call30 rfl (ok_wherryref18_in s.Base 0 v1 _ hv4) rfl rfl),
        st_plain rfl (op_pick _ _ true _ rfl rfl),
        st_plain rfl (op_move _ _ _ _ (congrArg (fun b => AV.v (Value.bool b)) hg2_15) rfl),
        st_run 15 22 true rfl rfl rfl (List.Mem.head _) (op_fieldAddr _ _ _ _ 1 0 _ Try.underlying24 rfl sz3 rfl rfl (by decide)),
        st_run 15 22 true rfl rfl rfl (List.Mem.head _) (op_load _ _ _ _ _ _ Try.underlying3 rfl rfl rfl (Nat.le_of_ble_eq_true rfl) rfl rfl rfl),
        st_run 15 22 true rfl rfl rfl (List.Mem.head _) (op_fieldAddr _ _ _ _ 1 0 _ Try.underlying24 rfl sz3 rfl rfl (by decide)),
        st_run 15 22 true rfl rfl rfl (List.Mem.head _) (op_load _ _ _ _ _ _ Try.underlying3 rfl rfl rfl (Nat.le_of_ble_eq_true rfl) rfl rfl rfl),
        st_run 15 22 true rfl rfl rfl (List.Mem.head _) (op_fieldAddr _ _ _ _ 1 0 _ Try.underlying24 rfl sz3 rfl rfl (by decide)),
        st_run 15 22 true rfl rfl rfl (List.Mem.head _) (op_load _ _ _ _ _ _ Try.underlying3 rfl rfl rfl (Nat.le_of_ble_eq_true rfl) rfl rfl rfl),
        st_run 15 22 true rfl rfl rfl (List.Mem.head _) (op_bin _ _ _ _ _ rfl rfl (ibind (f := Value.int .i64) (Option.some.inj hv5))),
        st_run 15 22 true rfl rfl rfl (List.Mem.head _) (op_move _ _ _ _ rfl rfl),
        st_run 15 22 true rfl rfl rfl (List.Mem.head _) ((Option.some.inj hv6) ▸ op_min _ _ _ _ rfl rfl),
        st_run 15 22 true rfl rfl rfl (List.Mem.head _) (op_call _ _ 30 _ _ rfl Try.call30 rfl (ok_wherryref18_in s.Next s.Base v6 _ hv7) rfl rfl),
        st_plain rfl (op_pick _ _ true _ rfl rfl),
        st_plain rfl (op_move _ _ _ _ (congrArg (fun b => AV.v (Value.bool b)) hg2_27) rfl),
        st_skip 27 34 _ true rfl rfl rfl rfl (List.Mem.head _),
        st_skip 27 34 _ true rfl rfl rfl rfl (List.Mem.head _),
        st_skip 27 34 _ true rfl rfl rfl rfl (List.Mem.head _),
        st_plain rfl (op_pick _ _ false _ rfl rfl),
        st_plain rfl (op_move _ _ _ _ rfl rfl),
        st_skip 32 39 _ true rfl rfl rfl rfl (List.Mem.head _),
        st_skip 32 39 _ true rfl rfl rfl rfl (List.Mem.head _),
        st_skip 32 39 _ true rfl rfl rfl rfl (List.Mem.head _),
        st_skipU 35 42 _ false rfl rfl rfl rfl (List.Mem.head _),
        st_skipU 35 42 _ false rfl rfl rfl rfl (List.Mem.head _),
        st_skipU 35 42 _ false rfl rfl rfl rfl (List.Mem.head _),
        st_skipU 35 42 _ false rfl rfl rfl rfl (List.Mem.head _),
        st_skipU 39 46 _ true rfl rfl rfl rfl (List.Mem.head _),
        st_skipU 39 46 _ true rfl rfl rfl rfl (List.Mem.head _),
        st_skipU 39 46 _ true rfl rfl rfl rfl (List.Mem.head _),
        st_skipU 35 42 _ false rfl rfl rfl rfl (List.Mem.head _),
        st_skip 32 39 _ true rfl rfl rfl rfl (List.Mem.head _),
        st_plain rfl (op_pick _ _ false _ rfl rfl),
        st_plain rfl (op_assign _ _ _ _ rfl rfl),
        trivial⟩ ?_
       exact hl11 _ (Option.some.inj h).symm
     ·refine ht_seqR hn (El := (_ :: _ :: (7, .ptr 1 0) :: (8, .v (.int .i64 s.Number)) :: (9, .v (.bool v2)) :: (10, .v (.bool true)) :: (11, .ptr 1 1) :: (12, .fl .shr 1 (List.map (Value.int .u8) s.Data)) :: (13, .v (.int .i64 (s.Data.length : Int))) :: (14, .v (.bool v3)) :: (15, .v (.bool v3)) :: (16, .v (.bool true)) :: (17, .ptr 1 3) :: (18, .v (.int .i64 s.Base)) :: (19, .v (.int .i64 v1)) :: (20, .v (.bool v4)) :: (21, .v (.bool v4)) :: (22, .v (.bool false)) :: (23, .v undef) :: (24, .v undef) :: (25, .v undef) :: (26, .v undef) :: (27, .v undef) :: (28, .v undef) :: (29, .v undef) :: (30, .v undef) :: (31, .v undef) :: (32, .v undef) :: (33, .v (.bool false)) :: (34, .v (.bool false)) :: (35, .v undef) :: (36, .v undef) :: (37, .v undef) :: (38, .v (.bool false)) :: (39, .v (.bool false)) :: (40, .v undef) :: (41, .v undef) :: (42, .v undef) :: (43, .v undef) :: (44, .v undef) :: (45, .v undef) :: (46, .v undef) :: (47, .v undef) :: (48, .v undef) :: (49, .v undef) :: (50, .v undef) :: (51, .v undef) :: (52, .v (.bool false)) :: (2, .v (.bool false)) :: [])) (init := [0, 1]) (fin := [48]) (sps := (⟨[0], [], [2], [(.slot 7)]⟩ :: ⟨[2, 0], [], [3], [(.slot 8)]⟩ :: ⟨[3], [], [4], [(.slot 9)]⟩ :: ⟨[4], [], [5], [(.slot 10)]⟩ :: ⟨[5, 0], [], [6], [(.slot 11)]⟩ :: ⟨[5, 6, 0], [], [7], [(.slot 12)]⟩ :: ⟨[5, 7], [], [8], [(.slot 13)]⟩ :: ⟨[5, 8], [], [9], [(.slot 14)]⟩ :: ⟨[5, 9], [], [10], [(.slot 15)]⟩ :: ⟨[10], [], [11], [(.slot 16)]⟩ :: ⟨[11, 0], [], [12], [(.slot 17)]⟩ :: ⟨[11, 12, 0], [], [13], [(.slot 18)]⟩ :: ⟨[11, 1], [], [14], [(.slot 19)]⟩ :: ⟨[11, 13, 14], [], [15], [(.slot 20)]⟩ :: ⟨[11, 15], [], [16], [(.slot 21)]⟩ :: ⟨[16], [], [17], [(.slot 22)]⟩ :: ⟨[17], [], [18], [(.slot 23)]⟩ :: ⟨[17], [], [19], [(.slot 24)]⟩ :: ⟨[17], [], [20], [(.slot 25)]⟩ :: ⟨[17], [], [21], [(.slot 26)]⟩ :: ⟨[17], [], [22], [(.slot 27)]⟩ :: ⟨[17], [], [23], [(.slot 28)]⟩ :: ⟨[17], [], [24], [(.slot 29)]⟩ :: ⟨[17], [], [25], [(.slot 30)]⟩ :: ⟨[17], [], [26], [(.slot 31)]⟩ :: ⟨[17], [], [27], [(.slot 32)]⟩ :: ⟨[17], [], [28], [(.slot 33)]⟩ :: ⟨[28], [], [29], [(.slot 34)]⟩ :: ⟨[29], [], [30], [(.slot 35)]⟩ :: ⟨[29], [], [31], [(.slot 36)]⟩ :: ⟨[29], [], [32], [(.slot 37)]⟩ :: ⟨[29], [], [33], [(.slot 38)]⟩ :: ⟨[33], [], [34], [(.slot 39)]⟩ :: ⟨[34], [], [35], [(.slot 40)]⟩ :: ⟨[34], [], [36], [(.slot 41)]⟩ :: ⟨[34], [], [37], [(.slot 42)]⟩ :: ⟨[37], [], [38], [(.slot 43)]⟩ :: ⟨[37], [], [39], [(.slot 44)]⟩ :: ⟨[37], [], [40], [(.slot 45)]⟩ :: ⟨[37], [], [41], [(.slot 46)]⟩ :: ⟨[41], [], [42], [(.slot 47)]⟩ :: ⟨[41], [], [43], [(.slot 48)]⟩ :: ⟨[41], [], [44], [(.slot 49)]⟩ :: ⟨[37], [], [45], [(.slot 50)]⟩ :: ⟨[34], [], [46], [(.slot 51)]⟩ :: ⟨[34], [], [47], [(.slot 52)]⟩ :: ⟨[47], [], [48], [(.slot 2)]⟩ :: [])) (es' := [(2, .v (.bool false))]) (by kernel_rfl) rfl rfl
       ⟨st_plain rfl (op_fieldAddr _ _ _ _ 1 0 _ Try.underlying24 rfl sz3 rfl rfl (by decide)),
       st_plain rfl (op_load _ _ _ _ _ _ Try.underlying3 rfl rfl rfl (Nat.le_of_ble_eq_true rfl) rfl rfl rfl),
       st_plain rfl (op_call _ _ 30 _ _ rfl Try.call30 rfl (ok_wherryref18_in s.Number 1 65535 _ hv2) rfl rfl),
       st_plain rfl (op_move _ _ _ _ (congrArg (fun b => AV.v (Value.bool b)) hg2_3) rfl),
       st_run 3 10 true rfl rfl rfl (List.Mem.head _) (op_fieldAddr _ _ _ _ 1 0 _ Try.underlying24 rfl sz22 rfl rfl (by decide)),
       st_run 3 10 true rfl rfl rfl (List.Mem.head _) (op_load _ _ _ _ _ _ Try.underlying22 rfl rfl rfl (Nat.le_of_ble_eq_true rfl) rfl rfl rfl),
       st_run 3 10 true rfl rfl rfl (List.Mem.head _) (op_len_fl _ _ _ Try.underlying22 rfl (by decide) (map_len _)),
       st_run 3 10 true rfl rfl rfl (List.Mem.head _) (op_call _ _ 30 _ _ rfl Try.call30 rfl (ok_wherryref18_in (s.Data.length : Int) 1 5000 _ hv3) rfl rfl),
       st_plain rfl (op_pick _ _ true _ rfl rfl),
       st_plain rfl (op_move _ _ _ _ (congrArg (fun b => AV.v (Value.bool b)) hg2_9) rfl),
       st_run 9 16 true rfl rfl rfl (List.Mem.head _) (op_fieldAddr _ _ _ _ 1 0 _ Try.underlying24 rfl sz3 rfl rfl (by decide)),
       st_run 9 16 true rfl rfl rfl (List.Mem.head _) (op_load _ _ _ _ _ _ Try.underlying3 rfl rfl rfl (Nat.le_of_ble_eq_true rfl) rfl rfl rfl),
       st_run 9 16 true rfl rfl rfl (List.Mem.head _) (op_move _ _ _ _ rfl rfl),
       st_run 9 16 true rfl rfl rfl (List.Mem.head _) (op_call _ _ 30 _ _ rfl Try.call30 rfl (ok_wherryref18_in s.Base 0 v1 _ hv4) rfl rfl),
       st_plain rfl (op_pick _ _ true _ rfl rfl),
       st_plain rfl (op_move _ _ _ _ (congrArg (fun b => AV.v (Value.bool b)) hg2_15) rfl),
       st_skip 15 22 _ true rfl rfl rfl rfl (List.Mem.head _),
       st_skip 15 22 _ true rfl rfl rfl rfl (List.Mem.head _),
       st_skip 15 22 _ true rfl rfl rfl rfl (List.Mem.head _),
       st_skip 15 22 _ true rfl rfl rfl rfl (List.Mem.head _),
       st_skip 15 22 _ true rfl rfl rfl rfl (List.Mem.head _),
       st_skip 15 22 _ true rfl rfl rfl rfl (List.Mem.head _),
       st_skip 15 22 _ true rfl rfl rfl rfl (List.Mem.head _),
       st_skip 15 22 _ true rfl rfl rfl rfl (List.Mem.head _),
       st_skip 15 22 _ true rfl rfl rfl rfl (List.Mem.head _),
       st_skip 15 22 _ true rfl rfl rfl rfl (List.Mem.head _),
       st_plain rfl (op_pick _ _ false _ rfl rfl),
       st_plain rfl (op_move _ _ _ _ rfl rfl),
       st_skip 27 34 _ true rfl rfl rfl rfl (List.Mem.head _),
       st_skip 27 34 _ true rfl rfl rfl rfl (List.Mem.head _),
       st_skip 27 34 _ true rfl rfl rfl rfl (List.Mem.head _),
       st_plain rfl (op_pick _ _ false _ rfl rfl),
       st_plain rfl (op_move _ _ _ _ rfl rfl),
       st_skip 32 39 _ true rfl rfl rfl rfl (List.Mem.head _),
       st_skip 32 39 _ true rfl rfl rfl rfl (List.Mem.head _),
       st_skip 32 39 _ true rfl rfl rfl rfl (List.Mem.head _),
       st_skipU 35 42 _ false rfl rfl rfl rfl (List.Mem.head _),
       st_skipU 35 42 _ false rfl rfl rfl rfl (List.Mem.head _),
       st_skipU 35 42 _ false rfl rfl rfl rfl (List.Mem.head _),
       st_skipU 35 42 _ false rfl rfl rfl rfl (List.Mem.head _),
       st_skipU 39 46 _ true rfl rfl rfl rfl (List.Mem.head _),
       st_skipU 39 46 _ true rfl rfl rfl rfl (List.Mem.head _),
       st_skipU 39 46 _ true rfl rfl rfl rfl (List.Mem.head _),
       st_skipU 35 42 _ false rfl rfl rfl rfl (List.Mem.head _),
       st_skip 32 39 _ true rfl rfl rfl rfl (List.Mem.head _),
       st_plain rfl (op_pick _ _ false _ rfl rfl),
       st_plain rfl (op_assign _ _ _ _ rfl rfl),
       trivial⟩ ?_
      exact hl11 _ (Option.some.inj h).symm
    ·refine ht_seqR hn (El := (_ :: _ :: (7, .ptr 1 0) :: (8, .v (.int .i64 s.Number)) :: (9, .v (.bool v2)) :: (10, .v (.bool true)) :: (11, .ptr 1 1) :: (12, .fl .shr 1 (List.map (Value.int .u8) s.Data)) :: (13, .v (.int .i64 (s.Data.length : Int))) :: (14, .v (.bool v3)) :: (15, .v (.bool v3)) :: (16, .v (.bool false)) :: (17, .v undef) :: (18, .v undef) :: (19, .v undef) :: (20, .v undef) :: (21, .v (.bool false)) :: (22, .v (.bool false)) :: (23, .v undef) :: (24, .v undef) :: (25, .v undef) :: (26, .v undef) :: (27, .v undef) :: (28, .v undef) :: (29, .v undef) :: (30, .v undef) :: (31, .v undef) :: (32, .v undef) :: (33, .v (.bool false)) :: (34, .v (.bool false)) :: (35, .v undef) :: (36, .v undef) :: (37, .v undef) :: (38, .v (.bool false)) :: (39, .v (.bool false)) :: (40, .v undef) :: (41, .v undef) :: (42, .v undef) :: (43, .v undef) :: (44, .v undef) :: (45, .v undef) :: (46, .v undef) :: (47, .v undef) :: (48, .v undef) :: (49, .v undef) :: (50, .v undef) :: (51, .v undef) :: (52, .v (.bool false)) :: (2, .v (.bool false)) :: [])) (init := [0, 1]) (fin := [48]) (sps := (⟨[0], [], [2], [(.slot 7)]⟩ :: ⟨[2, 0], [], [3], [(.slot 8)]⟩ :: ⟨[3], [], [4], [(.slot 9)]⟩ :: ⟨[4], [], [5], [(.slot 10)]⟩ :: ⟨[5, 0], [], [6], [(.slot 11)]⟩ :: ⟨[5, 6, 0], [], [7], [(.slot 12)]⟩ :: ⟨[5, 7], [], [8], [(.slot 13)]⟩ :: ⟨[5, 8], [], [9], [(.slot 14)]⟩ :: ⟨[5, 9], [], [10], [(.slot 15)]⟩ :: ⟨[10], [], [11], [(.slot 16)]⟩ :: ⟨[11], [], [12], [(.slot 17)]⟩ :: ⟨[11], [], [13], [(.slot 18)]⟩ :: ⟨[11], [], [14], [(.slot 19)]⟩ :: ⟨[11], [], [15], [(.slot 20)]⟩ :: ⟨[11], [], [16], [(.slot 21)]⟩ :: ⟨[16], [], [17], [(.slot 22)]⟩ :: ⟨[17], [], [18], [(.slot 23)]⟩ :: ⟨[17], [], [19], [(.slot 24)]⟩ :: ⟨[17], [], [20], [(.slot 25)]⟩ :: ⟨[17], [], [21], [(.slot 26)]⟩ :: ⟨[17], [], [22], [(.slot 27)]⟩ :: ⟨[17], [], [23], [(.slot 28)]⟩ :: ⟨[17], [], [24], [(.slot 29)]⟩ :: ⟨[17], [], [25], [(.slot 30)]⟩ :: ⟨[17], [], [26], [(.slot 31)]⟩ :: ⟨[17], [], [27], [(.slot 32)]⟩ :: ⟨[17], [], [28], [(.slot 33)]⟩ :: ⟨[28], [], [29], [(.slot 34)]⟩ :: ⟨[29], [], [30], [(.slot 35)]⟩ :: ⟨[29], [], [31], [(.slot 36)]⟩ :: ⟨[29], [], [32], [(.slot 37)]⟩ :: ⟨[29], [], [33], [(.slot 38)]⟩ :: ⟨[33], [], [34], [(.slot 39)]⟩ :: ⟨[34], [], [35], [(.slot 40)]⟩ :: ⟨[34], [], [36], [(.slot 41)]⟩ :: ⟨[34], [], [37], [(.slot 42)]⟩ :: ⟨[37], [], [38], [(.slot 43)]⟩ :: ⟨[37], [], [39], [(.slot 44)]⟩ :: ⟨[37], [], [40], [(.slot 45)]⟩ :: ⟨[37], [], [41], [(.slot 46)]⟩ :: ⟨[41], [], [42], [(.slot 47)]⟩ :: ⟨[41], [], [43], [(.slot 48)]⟩ :: ⟨[41], [], [44], [(.slot 49)]⟩ :: ⟨[37], [], [45], [(.slot 50)]⟩ :: ⟨[34], [], [46], [(.slot 51)]⟩ :: ⟨[34], [], [47], [(.slot 52)]⟩ :: ⟨[47], [], [48], [(.slot 2)]⟩ :: [])) (es' := [(2, .v (.bool false))]) (by kernel_rfl) rfl rfl
      ⟨st_plain rfl (op_fieldAddr _ _ _ _ 1 0 _ Try.underlying24 rfl sz3 rfl rfl (by decide)),
      st_plain rfl (op_load _ _ _ _ _ _ Try.underlying3 rfl rfl rfl (Nat.le_of_ble_eq_true rfl) rfl rfl rfl),
      st_plain rfl (op_call _ _ 30 _ _ rfl Try.call30 rfl (ok_wherryref18_in s.Number 1 65535 _ hv2) rfl rfl),
      st_plain rfl (op_move _ _ _ _ (congrArg (fun b => AV.v (Value.bool b)) hg2_3) rfl),
      st_run 3 10 true rfl rfl rfl (List.Mem.head _) (op_fieldAddr _ _ _ _ 1 0 _ Try.underlying24 rfl sz22 rfl rfl (by decide)),
      st_run 3 10 true rfl rfl rfl (List.Mem.head _) (op_load _ _ _ _ _ _ Try.underlying22 rfl rfl rfl (Nat.le_of_ble_eq_true rfl) rfl rfl rfl),
      st_run 3 10 true rfl rfl rfl (List.Mem.head _) (op_len_fl _ _ _ Try.underlying22 rfl (by decide) (map_len _)),
      st_run 3 10 true rfl rfl rfl (List.Mem.head _) (op_call _ _ 30 _ _ rfl Try.call30 rfl (ok_wherryref18_in (s.Data.length : Int) 1 5000 _ hv3) rfl rfl),
      st_plain rfl (op_pick _ _ true _ rfl rfl),
      st_plain rfl (op_move _ _ _ _ (congrArg (fun b => AV.v (Value.bool b)) hg2_9) rfl),
      st_skip 9 16 _ true rfl rfl rfl rfl (List.Mem.head _),
      st_skip 9 16 _ true rfl rfl rfl rfl (List.Mem.head _),
      st_skip 9 16 _ true rfl rfl rfl rfl (List.Mem.head _),
      st_skip 9 16 _ true rfl rfl rfl rfl (List.Mem.head _),
      st_plain rfl (op_pick _ _ false _ rfl rfl),
      st_plain rfl (op_move _ _ _ _ rfl rfl),
      st_skip 15 22 _ true rfl rfl rfl rfl (List.Mem.head _),
      st_skip 15 22 _ true rfl rfl rfl rfl (List.Mem.head _),
      st_skip 15 22 _ true rfl rfl rfl rfl (List.Mem.head _),
      st_skip 15 22 _ true rfl rfl rfl rfl (List.Mem.head _),
      st_skip 15 22 _ true rfl rfl rfl rfl (List.Mem.head _),
      st_skip 15 22 _ true rfl rfl rfl rfl (List.Mem.head _),
      st_skip 15 22 _ true rfl rfl rfl rfl (List.Mem.head _),
      st_skip 15 22 _ true rfl rfl rfl rfl (List.Mem.head _),
      st_skip 15 22 _ true rfl rfl rfl rfl (List.Mem.head _),
      st_skip 15 22 _ true rfl rfl rfl rfl (List.Mem.head _),
      st_plain rfl (op_pick _ _ false _ rfl rfl),
      st_plain rfl (op_move _ _ _ _ rfl rfl),
      st_skip 27 34 _ true rfl rfl rfl rfl (List.Mem.head _),
      st_skip 27 34 _ true rfl rfl rfl rfl (List.Mem.head _),
      st_skip 27 34 _ true rfl rfl rfl rfl (List.Mem.head _),
      st_plain rfl (op_pick _ _ false _ rfl rfl),
      st_plain rfl (op_move _ _ _ _ rfl rfl),
      st_skip 32 39 _ true rfl rfl rfl rfl (List.Mem.head _),
      st_skip 32 39 _ true rfl rfl rfl rfl (List.Mem.head _),
      st_skip 32 39 _ true rfl rfl rfl rfl (List.Mem.head _),
      st_skipU 35 42 _ false rfl rfl rfl rfl (List.Mem.head _),
      st_skipU 35 42 _ false rfl rfl rfl rfl (List.Mem.head _),
      st_skipU 35 42 _ false rfl rfl rfl rfl (List.Mem.head _),
      st_skipU 35 42 _ false rfl rfl rfl rfl (List.Mem.head _),
      st_skipU 39 46 _ true rfl rfl rfl rfl (List.Mem.head _),
      st_skipU 39 46 _ true rfl rfl rfl rfl (List.Mem.head _),
      st_skipU 39 46 _ true rfl rfl rfl rfl (List.Mem.head _),
      st_skipU 35 42 _ false rfl rfl rfl rfl (List.Mem.head _),
      st_skip 32 39 _ true rfl rfl rfl rfl (List.Mem.head _),
      st_plain rfl (op_pick _ _ false _ rfl rfl),
      st_plain rfl (op_assign _ _ _ _ rfl rfl),
      trivial⟩ ?_
     exact hl11 _ (Option.some.inj h).symm
   ·refine ht_seqR hn (El := (_ :: _ :: (7, .ptr 1 0) :: (8, .v (.int .i64 s.Number)) :: (9, .v (.bool v2)) :: (10, .v (.bool false)) :: (11, .v undef) :: (12, .v undef) :: (13, .v undef) :: (14, .v undef) :: (15, .v (.bool false)) :: (16, .v (.bool false)) :: (17, .v undef) :: (18, .v undef) :: (19, .v undef) :: (20, .v undef) :: (21, .v (.bool false)) :: (22, .v (.bool false)) :: (23, .v undef) :: (24, .v undef) :: (25, .v undef) :: (26, .v undef) :: (27, .v undef) :: (28, .v undef) :: (29, .v undef) :: (30, .v undef) :: (31, .v undef) :: (32, .v undef) :: (33, .v (.bool false)) :: (34, .v (.bool false)) :: (35, .v undef) :: (36, .v undef) :: (37, .v undef) :: (38, .v (.bool false)) :: (39, .v (.bool false)) :: (40, .v undef) :: (41, .v undef) :: (42, .v undef) :: (43, .v undef) :: (44, .v undef) :: (45, .v undef) :: (46, .v undef) :: (47, .v undef) :: (48, .v undef) :: (49, .v undef) :: (50, .v undef) :: (51, .v undef) :: (52, .v (.bool false)) :: (2, .v (.bool false)) :: [])) (init := [0, 1]) (fin := [48]) (sps := (⟨[0], [], [2], [(.slot 7)]⟩ :: ⟨[2, 0], [], [3], [(.slot 8)]⟩ :: ⟨[3], [], [4], [(.slot 9)]⟩ :: ⟨[4], [], [5], [(.slot 10)]⟩ :: ⟨[5], [], [6], [(.slot 11)]⟩ :: ⟨[5], [], [7], [(.slot 12)]⟩ :: ⟨[5], [], [8], [(.slot 13)]⟩ :: ⟨[5], [], [9], [(.slot 14)]⟩ :: ⟨[5], [], [10], [(.slot 15)]⟩ :: ⟨[10], [], [11], [(.slot 16)]⟩ :: ⟨[11], [], [12], [(.slot 17)]⟩ :: ⟨[11], [], [13], [(.slot 18)]⟩ :: ⟨[11], [], [14], [(.slot 19)]⟩ :: ⟨[11], [], [15], [(.slot 20)]⟩ :: ⟨[11], [], [16], [(.slot 21)]⟩ :: ⟨[16], [], [17], [(.slot 22)]⟩ :: ⟨[17], [], [18], [(.slot 23)]⟩ :: ⟨[17], [], [19], [(.slot 24)]⟩ :: ⟨[17], [], [20], [(.slot 25)]⟩ :: ⟨[17], [], [21], [(.slot 26)]⟩ :: ⟨[17], [], [22], [(.slot 27)]⟩ :: ⟨[17], [], [23], [(.slot 28)]⟩ :: ⟨[17], [], [24], [(.slot 29)]⟩ :: ⟨[17], [], [25], [(.slot 30)]⟩ :: ⟨[17], [], [26], [(.slot 31)]⟩ :: ⟨[17], [], [27], [(.slot 32)]⟩ :: ⟨[17], [], [28], [(.slot 33)]⟩ :: ⟨[28], [], [29], [(.slot 34)]⟩ :: ⟨[29], [], [30], [(.slot 35)]⟩ :: ⟨[29], [], [31], [(.slot 36)]⟩ :: ⟨[29], [], [32], [(.slot 37)]⟩ :: ⟨[29], [], [33], [(.slot 38)]⟩ :: ⟨[33], [], [34], [(.slot 39)]⟩ :: ⟨[34], [], [35], [(.slot 40)]⟩ :: ⟨[34], [], [36], [(.slot 41)]⟩ :: ⟨[34], [], [37], [(.slot 42)]⟩ :: ⟨[37], [], [38], [(.slot 43)]⟩ :: ⟨[37], [], [39], [(.slot 44)]⟩ :: ⟨[37], [], [40], [(.slot 45)]⟩ :: ⟨[37], [], [41], [(.slot 46)]⟩ :: ⟨[41], [], [42], [(.slot 47)]⟩ :: ⟨[41], [], [43], [(.slot 48)]⟩ :: ⟨[41], [], [44], [(.slot 49)]⟩ :: ⟨[37], [], [45], [(.slot 50)]⟩ :: ⟨[34], [], [46], [(.slot 51)]⟩ :: ⟨[34], [], [47], [(.slot 52)]⟩ :: ⟨[47], [], [48], [(.slot 2)]⟩ :: [])) (es' := [(2, .v (.bool false))]) (by kernel_rfl) rfl rfl
     ⟨st_plain rfl (op_fieldAddr _ _ _ _ 1 0 _ Try.underlying24 rfl sz3 rfl rfl (by decide)),
     st_plain rfl (op_load _ _ _ _ _ _ Try.underlying3 rfl rfl rfl (Nat.le_of_ble_eq_true rfl) rfl rfl rfl),
     st_plain rfl (op_call _ _ 30 _ _ rfl Try.call30 rfl (ok_wherryref18_in s.Number 1 65535 _ hv2) rfl rfl),
     st_plain rfl (op_move _ _ _ _ (congrArg (fun b => AV.v (Value.bool b)) hg2_3) rfl),
     st_skip 3 10 _ true rfl rfl rfl rfl (List.Mem.head _),
     st_skip 3 10 _ true rfl rfl rfl rfl (List.Mem.head _),
     st_skip 3 10 _ true rfl rfl rfl rfl (List.Mem.head _),
     st_skip 3 10 _ true rfl rfl rfl rfl (List.Mem.head _),
     st_plain rfl (op_pick _ _ false _ rfl rfl),
     st_plain rfl (op_move _ _ _ _ rfl rfl),
     st_skip 9 16 _ true rfl rfl rfl rfl (List.Mem.head _),
     st_skip 9 16 _ true rfl rfl rfl rfl (List.Mem.head _),
     st_skip 9 16 _ true rfl rfl rfl rfl (List.Mem.head _),
     st_skip 9 16 _ true rfl rfl rfl rfl (List.Mem.head _),
     st_plain rfl (op_pick _ _ false _ rfl rfl),
     st_plain rfl (op_move _ _ _ _ rfl rfl),
     st_skip 15 22 _ true rfl rfl rfl rfl (List.Mem.head _),
     st_skip 15 22 _ true rfl rfl rfl rfl (List.Mem.head _),
     st_skip 15 22 _ true rfl rfl rfl rfl (List.Mem.head _),
     st_skip 15 22 _ true rfl rfl rfl rfl (List.Mem.head _),
     st_skip 15 22 _ true rfl rfl rfl rfl (List.Mem.head _),
     st_skip 15 22 _ true rfl rfl rfl rfl (List.Mem.head _),
     st_skip 15 22 _ true rfl rfl rfl rfl (List.Mem.head _),
     st_skip 15 22 _ true rfl rfl rfl rfl (List.Mem.head _),
     st_skip 15 22 _ true rfl rfl rfl rfl (List.Mem.head _),
     st_skip 15 22 _ true rfl rfl rfl rfl (List.Mem.head _),
     st_plain rfl (op_pick _ _ false _ rfl rfl),
     st_plain rfl (op_move _ _ _ _ rfl rfl),
     st_skip 27 34 _ true rfl rfl rfl rfl (List.Mem.head _),
     st_skip 27 34 _ true rfl rfl rfl rfl (List.Mem.head _),
     st_skip 27 34 _ true rfl rfl rfl rfl (List.Mem.head _),
     st_plain rfl (op_pick _ _ false _ rfl rfl),
     st_plain rfl (op_move _ _ _ _ rfl rfl),
     st_skip 32 39 _ true rfl rfl rfl rfl (List.Mem.head _),
     st_skip 32 39 _ true rfl rfl rfl rfl (List.Mem.head _),
     st_skip 32 39 _ true rfl rfl rfl rfl (List.Mem.head _),
     st_skipU 35 42 _ false rfl rfl rfl rfl (List.Mem.head _),
     st_skipU 35 42 _ false rfl rfl rfl rfl (List.Mem.head _),
     st_skipU 35 42 _ false rfl rfl rfl rfl (List.Mem.head _),
     st_skipU 35 42 _ false rfl rfl rfl rfl (List.Mem.head _),
     st_skipU 39 46 _ true rfl rfl rfl rfl (List.Mem.head _),
     st_skipU 39 46 _ true rfl rfl rfl rfl (List.Mem.head _),
     st_skipU 39 46 _ true rfl rfl rfl rfl (List.Mem.head _),
     st_skipU 35 42 _ false rfl rfl rfl rfl (List.Mem.head _),
     st_skip 32 39 _ true rfl rfl rfl rfl (List.Mem.head _),
     st_plain rfl (op_pick _ _ false _ rfl rfl),
     st_plain rfl (op_assign _ _ _ _ rfl rfl),
     trivial⟩ ?_
    exact hl11 _ (Option.some.inj h).symm

set_option maxHeartbeats 1000000 in
theorem ok_sender_pieces (s : T_Send) (r : Int) (h : Sh.sender_pieces s = some r) : FnOK Try.prog 33 [.agg [.v (.int .i64 s.Number), .fl .shr 1 (List.map (Value.int .u8) s.Data), .v (.bool s.Ready), .v (.int .i64 s.Base), .v (.int .i64 s.Next), .v (.int .i64 s.Wait), .v (.bool s.Over)]] (.v (.int .i64 r)) := by
  unfold Sh.sender_pieces at h
  refine fn_ok Try.func33 rfl (Nat.le_of_ble_eq_true rfl) rfl rfl fun g0 hn hio => ?_
  refine ht_seq ?_
  refine ht_seqR hn (El := [_, (1, .box 24 [.v (.int .i64 s.Number), .fl .shr 1 (List.map (Value.int .u8) s.Data), .v (.bool s.Ready), .v (.int .i64 s.Base), .v (.int .i64 s.Next), .v (.int .i64 s.Wait), .v (.bool s.Over)]), (2, .v (.int .i64 0))]) (init := [0]) (fin := [1]) (sps := [⟨[0], [], [1], [(.slot 1)]⟩, ⟨[], [], [2], [(.slot 2)]⟩]) (es' := [(1, .box 24 [.v (.int .i64 s.Number), .fl .shr 1 (List.map (Value.int .u8) s.Data), .v (.bool s.Ready), .v (.int .i64 s.Base), .v (.int .i64 s.Next), .v (.int .i64 s.Wait), .v (.bool s.Over)])]) (by kernel_rfl) rfl rfl
   ⟨st_plain rfl (op_box _ _ _ _ rfl rfl rfl),
   st_plain rfl (op_assign _ _ _ _ rfl rfl),
   trivial⟩ ?_
  refine pt_then ?_
  refine ht_seq ?_
  obtain ⟨v1, hv1, h⟩ := bind_some h
  obtain ⟨v2, hv2, h⟩ := bind_some h
  obtain ⟨v3, hv3, h⟩ := bind_some h
  refine ht_seqR hn (El := [_, (3, .ptr 1 1), (4, .fl .shr 1 (List.map (Value.int .u8) s.Data)), (5, .v (.int .i64 (s.Data.length : Int))), (6, .v (.int .i64 v1)), (7, .v (.int .i64 v2)), (8, .v (.int .i64 v3)), (2, .v (.int .i64 v3))]) (init := [0]) (fin := [7]) (sps := [⟨[0], [], [1], [(.slot 3)]⟩, ⟨[1, 0], [], [2], [(.slot 4)]⟩, ⟨[2], [], [3], [(.slot 5)]⟩, ⟨[3], [], [4], [(.slot 6)]⟩, ⟨[4], [], [5], [(.slot 7)]⟩, ⟨[5], [], [6], [(.slot 8)]⟩, ⟨[6], [], [7], [(.slot 2)]⟩]) (es' := [(2, .v (.int .i64 v3))]) (by kernel_rfl) rfl rfl
   ⟨st_plain rfl (op_fieldAddr _ _ _ _ 1 0 _ Try.underlying24 rfl sz22 rfl rfl (by decide)),
   st_plain rfl (op_load _ _ _ _ _ _ Try.underlying22 rfl rfl rfl (Nat.le_of_ble_eq_true rfl) rfl rfl rfl),
   st_plain rfl (op_len_fl _ _ _ Try.underlying22 rfl (by decide) (map_len _)),
   st_plain rfl (op_bin _ _ _ _ _ rfl rfl (ibind (f := Value.int .i64) (Option.some.inj hv1))),
   st_plain rfl (op_bin _ _ _ _ _ rfl rfl (ibind (f := Value.int .i64) (Option.some.inj hv2))),
   st_plain rfl (op_bin _ _ _ _ _ rfl rfl (quo_ok hv3)),
   st_plain rfl (op_assign _ _ _ _ rfl rfl),
   trivial⟩ ?_
  refine pt_then ?_
  refine ht_ret ?_
  obtain rfl := Option.some.inj h
  exact pt_ret hio rfl (.tmp _ _ .nil) rfl rfl

set_option maxHeartbeats 1000000 in
theorem ok_sender_window (s : T_Send) (r : Int) (h : Sh.sender_window s = some r) : FnOK Try.prog 32 [.agg [.v (.int .i64 s.Number), .fl .shr 1 (List.map (Value.int .u8) s.Data), .v (.bool s.Ready), .v (.int .i64 s.Base), .v (.int .i64 s.Next), .v (.int .i64 s.Wait), .v (.bool s.Over)]] (.v (.int .i64 r)) := by
  unfold Sh.sender_window at h
  refine fn_ok Try.func32 rfl (Nat.le_of_ble_eq_true rfl) rfl rfl fun g0 hn hio => ?_
  refine ht_seq ?_
  refine ht_seqR hn (El := [_, (1, .box 24 [.v (.int .i64 s.Number), .fl .shr 1 (List.map (Value.int .u8) s.Data), .v (.bool s.Ready), .v (.int .i64 s.Base), .v (.int .i64 s.Next), .v (.int .i64 s.Wait), .v (.bool s.Over)]), (2, .v (.int .i64 0))]) (init := [0]) (fin := [1]) (sps := [⟨[0], [], [1], [(.slot 1)]⟩, ⟨[], [], [2], [(.slot 2)]⟩]) (es' := [(1, .box 24 [.v (.int .i64 s.Number), .fl .shr 1 (List.map (Value.int .u8) s.Data), .v (.bool s.Ready), .v (.int .i64 s.Base), .v (.int .i64 s.Next), .v (.int .i64 s.Wait), .v (.bool s.Over)])]) (by kernel_rfl) rfl rfl
   ⟨st_plain rfl (op_box _ _ _ _ rfl rfl rfl),
   st_plain rfl (op_assign _ _ _ _ rfl rfl),
   trivial⟩ ?_
  refine pt_then ?_
  refine ht_seq ?_
  obtain ⟨v1, hv1, h⟩ := bind_some h
  obtain ⟨v2, hv2, h⟩ := bind_some h
  obtain ⟨v3, hv3, h⟩ := bind_some h
  refine ht_anyR (by kernel_rfl) hn (El := [_, (3, .ptr 1 3), (4, .v (.int .i64 s.Base)), (5, .v (.int .i64 v1)), (6, .agg [.v (.int .i64 s.Number), .fl .shr 1 (List.map (Value.int .u8) s.Data), .v (.bool s.Ready), .v (.int .i64 s.Base), .v (.int .i64 s.Next), .v (.int .i64 s.Wait), .v (.bool s.Over)]), (7, .v (.int .i64 v2)), (8, .v (.int .i64 v3)), (2, .v (.int .i64 v3))]) (init := [0]) (fin := [7]) (sps := [⟨[0], [], [1], [(.slot 3)]⟩, ⟨[1, 0], [], [2], [(.slot 4)]⟩, ⟨[2], [], [3], [(.slot 5)]⟩, ⟨[0], [], [4], [(.slot 6)]⟩, ⟨[4], [], [5], [(.slot 7)]⟩, ⟨[3, 5], [], [6], [(.slot 8)]⟩, ⟨[6], [], [7], [(.slot 2)]⟩]) (es' := [(2, .v (.int .i64 v3))]) (by kernel_rfl) rfl rfl
   ⟨st_plain rfl (op_fieldAddr _ _ _ _ 1 0 _ Try.underlying24 rfl sz3 rfl rfl (by decide)),
   st_plain rfl (op_load _ _ _ _ _ _ Try.underlying3 rfl rfl rfl (Nat.le_of_ble_eq_true rfl) rfl rfl rfl),
   st_plain rfl (op_bin _ _ _ _ _ rfl rfl (ibind (f := Value.int .i64) (Option.some.inj hv1))),
   st_plain rfl (op_loadA _ _ _ _ _ _ _ Try.underlying24 rfl sz24 rfl rfl (Nat.le_of_ble_eq_true rfl) rfl rfl),
   st_plain rfl (op_call _ _ 33 _ _ rfl Try.call33 rfl (ok_sender_pieces s _ hv2) rfl rfl),
   st_plain rfl ((Option.some.inj hv3) ▸ op_min _ _ _ _ rfl rfl),
   st_plain rfl (op_assign _ _ _ _ rfl rfl),
   trivial⟩ ?_
  refine pt_then ?_
  refine ht_ret ?_
  obtain rfl := Option.some.inj h
  exact pt_ret hio rfl (.tmp _ _ .nil) rfl rfl

set_option maxHeartbeats 1000000 in
theorem ok_sender_Check (s : T_Send) (r : Int) (h : Sh.sender_Check s = some r) : FnOK Try.prog 17 [.agg [.v (.int .i64 s.Number), .fl .shr 1 (List.map (Value.int .u8) s.Data), .v (.bool s.Ready), .v (.int .i64 s.Base), .v (.int .i64 s.Next), .v (.int .i64 s.Wait), .v (.bool s.Over)]] (.v (.int .i64 r)) := by
  unfold Sh.sender_Check at h
  refine fn_ok Try.func17 rfl (Nat.le_of_ble_eq_true rfl) rfl rfl fun g0 hn hio => ?_
  refine ht_seq ?_
  refine ht_seqR hn (El := [_, (1, .box 24 [.v (.int .i64 s.Number), .fl .shr 1 (List.map (Value.int .u8) s.Data), .v (.bool s.Ready), .v (.int .i64 s.Base), .v (.int .i64 s.Next), .v (.int .i64 s.Wait), .v (.bool s.Over)]), (2, .v (.int .i64 0))]) (init := [0]) (fin := [1]) (sps := [⟨[0], [], [1], [(.slot 1)]⟩, ⟨[], [], [2], [(.slot 2)]⟩]) (es' := [(1, .box 24 [.v (.int .i64 s.Number), .fl .shr 1 (List.map (Value.int .u8) s.Data), .v (.bool s.Ready), .v (.int .i64 s.Base), .v (.int .i64 s.Next), .v (.int .i64 s.Wait), .v (.bool s.Over)])]) (by kernel_rfl) rfl rfl
   ⟨st_plain rfl (op_box _ _ _ _ rfl rfl rfl),
   st_plain rfl (op_assign _ _ _ _ rfl rfl),
   trivial⟩ ?_
  refine pt_then ?_
  refine ht_seq ?_
  obtain ⟨v1, hv1, h⟩ := bind_some h
  refine ht_seqR hn (El := [_, (4, .agg [.v (.int .i64 s.Number), .fl .shr 1 (List.map (Value.int .u8) s.Data), .v (.bool s.Ready), .v (.int .i64 s.Base), .v (.int .i64 s.Next), .v (.int .i64 s.Wait), .v (.bool s.Over)]), (5, .v (.int .i64 v1)), (3, .v (.int .i64 v1))]) (init := [0]) (fin := [0, 3]) (sps := [⟨[0], [], [1], [(.slot 4)]⟩, ⟨[1], [], [2], [(.slot 5)]⟩, ⟨[2], [], [3], [(.slot 3)]⟩]) (es' := [(_, _), (3, .v (.int .i64 v1))]) (by kernel_rfl) rfl rfl
   ⟨st_plain rfl (op_loadA _ _ _ _ _ _ _ Try.underlying24 rfl sz24 rfl rfl (Nat.le_of_ble_eq_true rfl) rfl rfl),
   st_plain rfl (op_call _ _ 33 _ _ rfl Try.call33 rfl (ok_sender_pieces s _ hv1) rfl rfl),
   st_plain rfl (op_assign _ _ _ _ rfl rfl),
   trivial⟩ ?_
  refine pt_then ?_
  refine ht_seq ?_
  refine ht_block ?_
  refine ht_seq ?_
  refine ht_joinS h (fun (s32 : Bool) => [(6, .v (.bool s32))]) ?_ ?_
  ·rintro s32 h
   refine pt_then ?_
   refine ht_cond _ rfl (fun hb65 => ?_) (fun hb65 => ?_)
   ·have h := cond_t hb65 h
    refine ht_seq ?_
    refine ht_seqR hn (El := [_, (2, .v (.int .i64 1))]) (init := [0]) (fin := [1]) (sps := [⟨[], [], [1], [(.slot 2)]⟩]) (es' := [(2, .v (.int .i64 1))]) (by kernel_rfl) rfl rfl
     ⟨st_plain rfl (op_assign _ _ _ _ rfl rfl),
     trivial⟩ ?_
    refine pt_then ?_
    refine ht_ret ?_
    refine pt_r_in ?_
    refine pt_r_then ?_
    obtain rfl := Option.some.inj h
    exact pt_ret hio rfl (.tmp _ _ .nil) rfl rfl
   ·have h := cond_f hb65 h
    refine ht_skip ?_
    refine pt_inb ?_
    refine pt_then ?_
    refine ht_seq ?_
    refine ht_seqR hn (El := [_, (2, .v (.int .i64 0))]) (init := [0]) (fin := [1]) (sps := [⟨[], [], [1], [(.slot 2)]⟩]) (es' := [(2, .v (.int .i64 0))]) (by kernel_rfl) rfl rfl
     ⟨st_plain rfl (op_assign _ _ _ _ rfl rfl),
     trivial⟩ ?_
    refine pt_then ?_
    refine ht_ret ?_
    obtain rfl := Option.some.inj h
    exact pt_ret hio rfl (.tmp _ _ .nil) rfl rfl
  ·intro u33 h hl34 hr35
   refine ht_seq ?_
   refine ht_joinS h (fun (s36 : Bool) => [(1, .box 24 [.v (.int .i64 s.Number), .fl .shr 1 (List.map (Value.int .u8) s.Data), .v (.bool s.Ready), .v (.int .i64 s.Base), .v (.int .i64 s.Next), .v (.int .i64 s.Wait), .v (.bool s.Over)]), (3, .v (.int .i64 v1)), (6, .v (.bool s36))]) ?_ ?_
   ·rintro s36 h
    refine pt_then ?_
    refine ht_cond _ rfl (fun hb40 => ?_) (fun hb40 => ?_)
    ·have h := cond_t hb40 h
     refine ht_skip ?_
     refine pt_pick [2] (by kernel_rfl) (es' := [(_, _)]) rfl ?_
     exact hl34 _ (Option.some.inj h).symm
    ·have h := cond_f hb40 h
     refine ht_seq ?_
     refine ht_joinS h (fun (s41 : Bool) => [(1, .box 24 [.v (.int .i64 s.Number), .fl .shr 1 (List.map (Value.int .u8) s.Data), .v (.bool s.Ready), .v (.int .i64 s.Base), .v (.int .i64 s.Next), .v (.int .i64 s.Wait), .v (.bool s.Over)]), (3, .v (.int .i64 v1)), (6, .v (.bool s41))]) ?_ ?_
     ·rintro s41 h
      refine pt_then ?_
      refine ht_cond _ rfl (fun hb45 => ?_) (fun hb45 => ?_)
      ·have h := cond_t hb45 h
       refine ht_skip ?_
       refine pt_pick [2] (by kernel_rfl) (es' := [(_, _)]) rfl ?_
       exact hl34 _ (Option.some.inj h).symm
      ·have h := cond_f hb45 h
       refine ht_seq ?_
       refine ht_joinS h (fun (s46 : Bool) => [(1, .box 24 [.v (.int .i64 s.Number), .fl .shr 1 (List.map (Value.int .u8) s.Data), .v (.bool s.Ready), .v (.int .i64 s.Base), .v (.int .i64 s.Next), .v (.int .i64 s.Wait), .v (.bool s.Over)]), (6, .v (.bool s46))]) ?_ ?_
       ·rintro s46 h
        refine pt_then ?_
        refine ht_cond _ rfl (fun hb50 => ?_) (fun hb50 => ?_)
        ·have h := cond_t hb50 h
         refine ht_skip ?_
         refine pt_pick [1] (by kernel_rfl) (es' := [(_, _)]) rfl ?_
         exact hl34 _ (Option.some.inj h).symm
        ·have h := cond_f hb50 h
         refine ht_seq ?_
         refine ht_joinS h (fun (s51 : Bool) => [(1, .box 24 [.v (.int .i64 s.Number), .fl .shr 1 (List.map (Value.int .u8) s.Data), .v (.bool s.Ready), .v (.int .i64 s.Base), .v (.int .i64 s.Next), .v (.int .i64 s.Wait), .v (.bool s.Over)]), (6, .v (.bool s51))]) ?_ ?_
         ·rintro s51 h
          refine pt_then ?_
          refine ht_cond _ rfl (fun hb55 => ?_) (fun hb55 => ?_)
          ·have h := cond_t hb55 h
           refine ht_skip ?_
           refine pt_pick [1] (by kernel_rfl) (es' := [(_, _)]) rfl ?_
           exact hl34 _ (Option.some.inj h).symm
          ·have h := cond_f hb55 h
           refine ht_seq ?_
           refine ht_joinS h (fun (s56 : Bool) => [(1, .box 24 [.v (.int .i64 s.Number), .fl .shr 1 (List.map (Value.int .u8) s.Data), .v (.bool s.Ready), .v (.int .i64 s.Base), .v (.int .i64 s.Next), .v (.int .i64 s.Wait), .v (.bool s.Over)]), (6, .v (.bool s56))]) ?_ ?_
           ·rintro s56 h
            refine pt_then ?_
            refine ht_cond _ rfl (fun hb60 => ?_) (fun hb60 => ?_)
            ·have h := cond_t hb60 h
             refine ht_skip ?_
             refine pt_pick [1] (by kernel_rfl) (es' := [(_, _)]) rfl ?_
             exact hl34 _ (Option.some.inj h).symm
            ·have h := cond_f hb60 h
             refine ht_joinS h (fun (s61 : Bool) => [(6, .v (.bool s61))]) ?_ ?_
             ·rintro s61 h
              exact hl34 _ (Option.some.inj h).symm
             ·intro u62 h hl63 hr64
              refine cond_some h (fun hg7_3 h => ?_) (fun hg7_3 h => ?_)
              ·refine cond_some h (fun hg7_7 h => ?_) (fun hg7_7 h => ?_)
               ·refine ht_seqR hn (El := (_ :: _ :: (54, .ptr 1 2) :: (55, .v (.bool s.Ready)) :: (56, .v (.bool (!s.Ready))) :: (57, .v (.bool true)) :: (58, .ptr 1 3) :: (59, .v (.int .i64 s.Base)) :: (60, .v (.bool (s.Base != 0))) :: (61, .v (.bool true)) :: (62, .v undef) :: (63, .v undef) :: (64, .v undef) :: (65, .v (.bool true)) :: (66, .v (.bool true)) :: (6, .v (.bool true)) :: [])) (init := [0, 1]) (fin := [15]) (sps := [⟨[0], [], [2], [(.slot 54)]⟩, ⟨[2, 0], [], [3], [(.slot 55)]⟩, ⟨[3], [], [4], [(.slot 56)]⟩, ⟨[4], [], [5], [(.slot 57)]⟩, ⟨[5, 0], [], [6], [(.slot 58)]⟩, ⟨[5, 6, 0], [], [7], [(.slot 59)]⟩, ⟨[5, 7], [], [8], [(.slot 60)]⟩, ⟨[5, 8], [], [9], [(.slot 61)]⟩, ⟨[9], [], [10], [(.slot 62)]⟩, ⟨[9], [], [11], [(.slot 63)]⟩, ⟨[9], [], [12], [(.slot 64)]⟩, ⟨[5, 9], [], [13], [(.slot 65)]⟩, ⟨[5, 13], [], [14], [(.slot 66)]⟩, ⟨[14], [1], [15], [(.slot 6)]⟩]) (es' := [(6, .v (.bool true))]) (by kernel_rfl) rfl rfl
                 ⟨st_plain rfl (op_fieldAddr _ _ _ _ 1 0 _ Try.underlying24 rfl sz4 rfl rfl (by decide)),
                 st_plain rfl (op_load _ _ _ _ _ _ Try.underlying4 rfl rfl rfl (Nat.le_of_ble_eq_true rfl) rfl rfl rfl),
                 st_plain rfl (op_un _ _ _ _ rfl rfl),
                 st_plain rfl (op_move _ _ _ _ (congrArg (fun b => AV.v (Value.bool b)) hg7_3) rfl),
                 st_run 3 57 true rfl rfl rfl (List.Mem.head _) (op_fieldAddr _ _ _ _ 1 0 _ Try.underlying24 rfl sz3 rfl rfl (by decide)),
                 st_run 3 57 true rfl rfl rfl (List.Mem.head _) (op_load _ _ _ _ _ _ Try.underlying3 rfl rfl rfl (Nat.le_of_ble_eq_true rfl) rfl rfl rfl),
                 st_run 3 57 true rfl rfl rfl (List.Mem.head _) (op_bin _ _ _ _ _ rfl rfl rfl),
                 st_run 3 57 true rfl rfl rfl (List.Mem.head _) (op_move _ _ _ _ (congrArg (fun b => AV.v (Value.bool b)) hg7_7) rfl),
                 st_skip 7 61 _ false rfl rfl rfl rfl (List.Mem.head _),
                 st_skip 7 61 _ false rfl rfl rfl rfl (List.Mem.head _),
                 st_skip 7 61 _ false rfl rfl rfl rfl (List.Mem.head _),
                 st_run 3 57 true rfl rfl rfl (List.Mem.head _) (op_pick _ _ true _ rfl rfl),
                 st_plain rfl (op_pick _ _ true _ rfl rfl),
                 st_plain rfl (LOp.drop [_] (op_assign _ _ _ _ rfl rfl)),
                 trivial⟩ ?_
                exact hl63 _ (Option.some.inj h).symm
               ·refine ht_seqR hn (El := (_ :: _ :: (54, .ptr 1 2) :: (55, .v (.bool s.Ready)) :: (56, .v (.bool (!s.Ready))) :: (57, .v (.bool true)) :: (58, .ptr 1 3) :: (59, .v (.int .i64 s.Base)) :: (60, .v (.bool (s.Base != 0))) :: (61, .v (.bool false)) :: (62, .ptr 1 4) :: (63, .v (.int .i64 s.Next)) :: (64, .v (.bool (s.Next != 0))) :: (65, .v (.bool (s.Next != 0))) :: (66, .v (.bool (s.Next != 0))) :: (6, .v (.bool (s.Next != 0))) :: [])) (init := [0, 1]) (fin := [15]) (sps := [⟨[0], [], [2], [(.slot 54)]⟩, ⟨[2, 0], [], [3], [(.slot 55)]⟩, ⟨[3], [], [4], [(.slot 56)]⟩, ⟨[4], [], [5], [(.slot 57)]⟩, ⟨[5, 0], [], [6], [(.slot 58)]⟩, ⟨[5, 6, 0], [], [7], [(.slot 59)]⟩, ⟨[5, 7], [], [8], [(.slot 60)]⟩, ⟨[5, 8], [], [9], [(.slot 61)]⟩, ⟨[9, 0], [], [10], [(.slot 62)]⟩, ⟨[9, 10, 0], [], [11], [(.slot 63)]⟩, ⟨[9, 11], [], [12], [(.slot 64)]⟩, ⟨[5, 9, 12], [], [13], [(.slot 65)]⟩, ⟨[5, 13], [], [14], [(.slot 66)]⟩, ⟨[14], [1], [15], [(.slot 6)]⟩]) (es' := [(6, .v (.bool (s.Next != 0)))]) (by kernel_rfl) rfl rfl
                 ⟨st_plain rfl (op_fieldAddr _ _ _ _ 1 0 _ Try.underlying24 rfl sz4 rfl rfl (by decide)),
                 st_plain rfl (op_load _ _ _ _ _ _ Try.underlying4 rfl rfl rfl (Nat.le_of_ble_eq_true rfl) rfl rfl rfl),
                 st_plain rfl (op_un _ _ _ _ rfl rfl),
                 st_plain rfl (op_move _ _ _ _ (congrArg (fun b => AV.v (Value.bool b)) hg7_3) rfl),
                 st_run 3 57 true rfl rfl rfl (List.Mem.head _) (op_fieldAddr _ _ _ _ 1 0 _ Try.underlying24 rfl sz3 rfl rfl (by decide)),
                 st_run 3 57 true rfl rfl rfl (List.Mem.head _) (op_load _ _ _ _ _ _ Try.underlying3 rfl rfl rfl (Nat.le_of_ble_eq_true rfl) rfl rfl rfl),
                 st_run 3 57 true rfl rfl rfl (List.Mem.head _) (op_bin _ _ _ _ _ rfl rfl rfl),
                 st_run 3 57 true rfl rfl rfl (List.Mem.head _) (op_move _ _ _ _ (congrArg (fun b => AV.v (Value.bool b)) hg7_7) rfl),
                 st_run 7 61 false rfl rfl rfl (List.Mem.head _) (op_fieldAddr _ _ _ _ 1 0 _ Try.underlying24 rfl sz3 rfl rfl (by decide)),
                 st_run 7 61 false rfl rfl rfl (List.Mem.head _) (op_load _ _ _ _ _ _ Try.underlying3 rfl rfl rfl (Nat.le_of_ble_eq_true rfl) rfl rfl rfl),
                 st_run 7 61 false rfl rfl rfl (List.Mem.head _) (op_bin _ _ _ _ _ rfl rfl rfl),
                 st_run 3 57 true rfl rfl rfl (List.Mem.head _) (op_pick _ _ false _ rfl rfl),
                 st_plain rfl (op_pick _ _ true _ rfl rfl),
                 st_plain rfl (LOp.drop [_] (op_assign _ _ _ _ rfl rfl)),
                 trivial⟩ ?_
                exact hl63 _ (Option.some.inj h).symm
              ·refine ht_seqR hn (El := (_ :: _ :: (54, .ptr 1 2) :: (55, .v (.bool s.Ready)) :: (56, .v (.bool (!s.Ready))) :: (57, .v (.bool false)) :: (58, .v undef) :: (59, .v undef) :: (60, .v undef) :: (61, .v undef) :: (62, .v undef) :: (63, .v undef) :: (64, .v undef) :: (65, .v undef) :: (66, .v (.bool false)) :: (6, .v (.bool false)) :: [])) (init := [0, 1]) (fin := [15]) (sps := [⟨[0], [], [2], [(.slot 54)]⟩, ⟨[2, 0], [], [3], [(.slot 55)]⟩, ⟨[3], [], [4], [(.slot 56)]⟩, ⟨[4], [], [5], [(.slot 57)]⟩, ⟨[5], [], [6], [(.slot 58)]⟩, ⟨[5], [], [7], [(.slot 59)]⟩, ⟨[5], [], [8], [(.slot 60)]⟩, ⟨[5], [], [9], [(.slot 61)]⟩, ⟨[9], [], [10], [(.slot 62)]⟩, ⟨[9], [], [11], [(.slot 63)]⟩, ⟨[9], [], [12], [(.slot 64)]⟩, ⟨[5], [], [13], [(.slot 65)]⟩, ⟨[5], [], [14], [(.slot 66)]⟩, ⟨[14], [1], [15], [(.slot 6)]⟩]) (es' := [(6, .v (.bool false))]) (by kernel_rfl) rfl rfl
                ⟨st_plain rfl (op_fieldAddr _ _ _ _ 1 0 _ Try.underlying24 rfl sz4 rfl rfl (by decide)),
                st_plain rfl (op_load _ _ _ _ _ _ Try.underlying4 rfl rfl rfl (Nat.le_of_ble_eq_true rfl) rfl rfl rfl),
                st_plain rfl (op_un _ _ _ _ rfl rfl),
                st_plain rfl (op_move _ _ _ _ (congrArg (fun b => AV.v (Value.bool b)) hg7_3) rfl),
                st_skip 3 57 _ true rfl rfl rfl rfl (List.Mem.head _),
                st_skip 3 57 _ true rfl rfl rfl rfl (List.Mem.head _),
                st_skip 3 57 _ true rfl rfl rfl rfl (List.Mem.head _),
                st_skip 3 57 _ true rfl rfl rfl rfl (List.Mem.head _),
                st_skipU 7 61 _ false rfl rfl rfl rfl (List.Mem.head _),
                st_skipU 7 61 _ false rfl rfl rfl rfl (List.Mem.head _),
                st_skipU 7 61 _ false rfl rfl rfl rfl (List.Mem.head _),
                st_skip 3 57 _ true rfl rfl rfl rfl (List.Mem.head _),
                st_plain rfl (op_pick _ _ false _ rfl rfl),
                st_plain rfl (LOp.drop [_] (op_assign _ _ _ _ rfl rfl)),
                trivial⟩ ?_
               exact hl63 _ (Option.some.inj h).symm
           ·intro u57 h hl58 hr59
            refine cond_some h (fun hg6_3 h => ?_) (fun hg6_3 h => ?_)
            ·refine ht_seqR hn (El := [_, _, (46, .ptr 1 5), (47, .v (.int .i64 s.Wait)), (48, .v (.bool ((decide (s.Wait < 0))))), (49, .v (.bool true)), (50, .v undef), (51, .v undef), (52, .v undef), (53, .v (.bool true)), (6, .v (.bool true))]) (init := [0, 1]) (fin := [0, 10]) (sps := [⟨[0], [], [2], [(.slot 46)]⟩, ⟨[2, 0], [], [3], [(.slot 47)]⟩, ⟨[3], [], [4], [(.slot 48)]⟩, ⟨[4], [], [5], [(.slot 49)]⟩, ⟨[5], [], [6], [(.slot 50)]⟩, ⟨[5], [], [7], [(.slot 51)]⟩, ⟨[5], [], [8], [(.slot 52)]⟩, ⟨[5], [], [9], [(.slot 53)]⟩, ⟨[9], [1], [10], [(.slot 6)]⟩]) (es' := [(_, _), (6, .v (.bool true))]) (by kernel_rfl) rfl rfl
              ⟨st_plain rfl (op_fieldAddr _ _ _ _ 1 0 _ Try.underlying24 rfl sz3 rfl rfl (by decide)),
              st_plain rfl (op_load _ _ _ _ _ _ Try.underlying3 rfl rfl rfl (Nat.le_of_ble_eq_true rfl) rfl rfl rfl),
              st_plain rfl (op_bin _ _ _ _ _ rfl rfl rfl),
              st_plain rfl (op_move _ _ _ _ (congrArg (fun b => AV.v (Value.bool b)) hg6_3) rfl),
              st_skip 3 49 _ false rfl rfl rfl rfl (List.Mem.head _),
              st_skip 3 49 _ false rfl rfl rfl rfl (List.Mem.head _),
              st_skip 3 49 _ false rfl rfl rfl rfl (List.Mem.head _),
              st_plain rfl (op_pick _ _ true _ rfl rfl),
              st_plain rfl (LOp.drop [_] (op_assign _ _ _ _ rfl rfl)),
              trivial⟩ ?_
             exact hl58 _ (Option.some.inj h).symm
            ·refine ht_seqR hn (El := [_, _, (46, .ptr 1 5), (47, .v (.int .i64 s.Wait)), (48, .v (.bool ((decide (s.Wait < 0))))), (49, .v (.bool false)), (50, .ptr 1 5), (51, .v (.int .i64 s.Wait)), (52, .v (.bool ((decide (3 < s.Wait))))), (53, .v (.bool ((decide (3 < s.Wait))))), (6, .v (.bool ((decide (3 < s.Wait)))))]) (init := [0, 1]) (fin := [0, 10]) (sps := [⟨[0], [], [2], [(.slot 46)]⟩, ⟨[2, 0], [], [3], [(.slot 47)]⟩, ⟨[3], [], [4], [(.slot 48)]⟩, ⟨[4], [], [5], [(.slot 49)]⟩, ⟨[5, 0], [], [6], [(.slot 50)]⟩, ⟨[5, 6, 0], [], [7], [(.slot 51)]⟩, ⟨[5, 7], [], [8], [(.slot 52)]⟩, ⟨[5, 8], [], [9], [(.slot 53)]⟩, ⟨[9], [1], [10], [(.slot 6)]⟩]) (es' := [(_, _), (6, .v (.bool ((decide (3 < s.Wait)))))]) (by kernel_rfl) rfl rfl
              ⟨st_plain rfl (op_fieldAddr _ _ _ _ 1 0 _ Try.underlying24 rfl sz3 rfl rfl (by decide)),
              st_plain rfl (op_load _ _ _ _ _ _ Try.underlying3 rfl rfl rfl (Nat.le_of_ble_eq_true rfl) rfl rfl rfl),
              st_plain rfl (op_bin _ _ _ _ _ rfl rfl rfl),
              st_plain rfl (op_move _ _ _ _ (congrArg (fun b => AV.v (Value.bool b)) hg6_3) rfl),
              st_run 3 49 false rfl rfl rfl (List.Mem.head _) (op_fieldAddr _ _ _ _ 1 0 _ Try.underlying24 rfl sz3 rfl rfl (by decide)),
              st_run 3 49 false rfl rfl rfl (List.Mem.head _) (op_load _ _ _ _ _ _ Try.underlying3 rfl rfl rfl (Nat.le_of_ble_eq_true rfl) rfl rfl rfl),
              st_run 3 49 false rfl rfl rfl (List.Mem.head _) (op_bin _ _ _ _ _ rfl rfl rfl),
              st_plain rfl (op_pick _ _ false _ rfl rfl),
              st_plain rfl (LOp.drop [_] (op_assign _ _ _ _ rfl rfl)),
              trivial⟩ ?_
             exact hl58 _ (Option.some.inj h).symm
         ·intro u52 h hl53 hr54
          refine cond_some h (fun hg5_5 h => ?_) (fun hg5_5 h => ?_)
          ·refine ht_anyR (by kernel_rfl) hn (El := (_ :: _ :: (34, .ptr 1 4) :: (35, .v (.int .i64 s.Next)) :: (36, .ptr 1 3) :: (37, .v (.int .i64 s.Base)) :: (38, .v (.bool ((decide (s.Next < s.Base))))) :: (39, .v (.bool true)) :: (40, .v undef) :: (41, .v undef) :: (42, .v undef) :: (43, .v undef) :: (44, .v undef) :: (45, .v (.bool true)) :: (6, .v (.bool true)) :: [])) (init := [0, 1]) (fin := [0, 14]) (sps := [⟨[0], [], [2], [(.slot 34)]⟩, ⟨[2, 0], [], [3], [(.slot 35)]⟩, ⟨[0], [], [4], [(.slot 36)]⟩, ⟨[4, 0], [], [5], [(.slot 37)]⟩, ⟨[3, 5], [], [6], [(.slot 38)]⟩, ⟨[6], [], [7], [(.slot 39)]⟩, ⟨[7], [], [8], [(.slot 40)]⟩, ⟨[7], [], [9], [(.slot 41)]⟩, ⟨[7], [], [10], [(.slot 42)]⟩, ⟨[7], [], [11], [(.slot 43)]⟩, ⟨[7], [], [12], [(.slot 44)]⟩, ⟨[7], [], [13], [(.slot 45)]⟩, ⟨[13], [1], [14], [(.slot 6)]⟩]) (es' := [(_, _), (6, .v (.bool true))]) (by kernel_rfl) rfl rfl
            ⟨st_plain rfl (op_fieldAddr _ _ _ _ 1 0 _ Try.underlying24 rfl sz3 rfl rfl (by decide)),
            st_plain rfl (op_load _ _ _ _ _ _ Try.underlying3 rfl rfl rfl (Nat.le_of_ble_eq_true rfl) rfl rfl rfl),
            st_plain rfl (op_fieldAddr _ _ _ _ 1 0 _ Try.underlying24 rfl sz3 rfl rfl (by decide)),
            st_plain rfl (op_load _ _ _ _ _ _ Try.underlying3 rfl rfl rfl (Nat.le_of_ble_eq_true rfl) rfl rfl rfl),
            st_plain rfl (op_bin _ _ _ _ _ rfl rfl rfl),
            st_plain rfl (op_move _ _ _ _ (congrArg (fun b => AV.v (Value.bool b)) hg5_5) rfl),
            st_skip 5 39 _ false rfl rfl rfl rfl (List.Mem.head _),
            st_skip 5 39 _ false rfl rfl rfl rfl (List.Mem.head _),
            st_skip 5 39 _ false rfl rfl rfl rfl (List.Mem.head _),
            st_skip 5 39 _ false rfl rfl rfl rfl (List.Mem.head _),
            st_skip 5 39 _ false rfl rfl rfl rfl (List.Mem.head _),
            st_plain rfl (op_pick _ _ true _ rfl rfl),
            st_plain rfl (LOp.drop [_] (op_assign _ _ _ _ rfl rfl)),
            trivial⟩ ?_
           exact hl53 _ (Option.some.inj h).symm
          ·obtain ⟨v17, hv17, h⟩ := bind_some h
           refine ht_anyR (by kernel_rfl) hn (El := (_ :: _ :: (34, .ptr 1 4) :: (35, .v (.int .i64 s.Next)) :: (36, .ptr 1 3) :: (37, .v (.int .i64 s.Base)) :: (38, .v (.bool ((decide (s.Next < s.Base))))) :: (39, .v (.bool false)) :: (40, .ptr 1 4) :: (41, .v (.int .i64 s.Next)) :: (42, .agg [.v (.int .i64 s.Number), .fl .shr 1 (List.map (Value.int .u8) s.Data), .v (.bool s.Ready), .v (.int .i64 s.Base), .v (.int .i64 s.Next), .v (.int .i64 s.Wait), .v (.bool s.Over)]) :: (43, .v (.int .i64 v17)) :: (44, .v (.bool ((decide (v17 < s.Next))))) :: (45, .v (.bool ((decide (v17 < s.Next))))) :: (6, .v (.bool ((decide (v17 < s.Next))))) :: [])) (init := [0, 1]) (fin := [0, 14]) (sps := [⟨[0], [], [2], [(.slot 34)]⟩, ⟨[2, 0], [], [3], [(.slot 35)]⟩, ⟨[0], [], [4], [(.slot 36)]⟩, ⟨[4, 0], [], [5], [(.slot 37)]⟩, ⟨[3, 5], [], [6], [(.slot 38)]⟩, ⟨[6], [], [7], [(.slot 39)]⟩, ⟨[7, 0], [], [8], [(.slot 40)]⟩, ⟨[7, 8, 0], [], [9], [(.slot 41)]⟩, ⟨[7, 0], [], [10], [(.slot 42)]⟩, ⟨[7, 10], [], [11], [(.slot 43)]⟩, ⟨[7, 9, 11], [], [12], [(.slot 44)]⟩, ⟨[7, 12], [], [13], [(.slot 45)]⟩, ⟨[13], [1], [14], [(.slot 6)]⟩]) (es' := [(_, _), (6, .v (.bool ((decide (v17 < s.Next)))))]) (by kernel_rfl) rfl rfl
            ⟨st_plain rfl (op_fieldAddr _ _ _ _ 1 0 _ Try.underlying24 rfl sz3 rfl rfl (by decide)),
            st_plain rfl (op_load _ _ _ _ _ _ Try.underlying3 rfl rfl rfl (Nat.le_of_ble_eq_true rfl) rfl rfl rfl),
            st_plain rfl (op_fieldAddr _ _ _ _ 1 0 _ Try.underlying24 rfl sz3 rfl rfl (by decide)),
            st_plain rfl (op_load _ _ _ _ _ _ Try.underlying3 rfl rfl rfl (Nat.le_of_ble_eq_true rfl) rfl rfl rfl),
            st_plain rfl (op_bin _ _ _ _ _ rfl rfl rfl),
            st_plain rfl (op_move _ _ _ _ (congrArg (fun b => AV.v (Value.bool b)) hg5_5) rfl),
            st_run 5 39 false rfl rfl rfl (List.Mem.head _) (op_fieldAddr _ _ _ _ 1 0 _ Try.underlying24 rfl sz3 rfl rfl (by decide)),
            st_run 5 39 false rfl rfl rfl (List.Mem.head _) (op_load _ _ _ _ _ _ Try.underlying3 rfl rfl rfl (Nat.le_of_ble_eq_true rfl) rfl rfl rfl),
            st_run 5 39 false rfl rfl rfl (List.Mem.head _) (op_loadA _ _ _ _ _ _ _ Try.underlying24 rfl sz24 rfl rfl (Nat.le_of_ble_eq_true rfl) rfl rfl),
            st_run 5 39 false rfl rfl rfl (List.Mem.head _) (op_call _ _ 32 _ _ rfl Try.call32 rfl (ok_sender_window s _ hv17) rfl rfl),
            st_run 5 39 false rfl rfl rfl (List.Mem.head _) (op_bin _ _ _ _ _ rfl rfl rfl),
            st_plain rfl (op_pick _ _ false _ rfl rfl),
            st_plain rfl (LOp.drop [_] (op_assign _ _ _ _ rfl rfl)),
            trivial⟩ ?_
           exact hl53 _ (Option.some.inj h).symm
       ·intro u47 h hl48 hr49
        refine cond_some h (fun hg4_3 h => ?_) (fun hg4_3 h => ?_)
        ·refine ht_seqR hn (El := [_, _, _, (25, .ptr 1 3), (26, .v (.int .i64 s.Base)), (27, .v (.bool ((decide (s.Base < 0))))), (28, .v (.bool true)), (29, .v undef), (30, .v undef), (31, .v undef), (32, .v undef), (33, .v (.bool true)), (6, .v (.bool true))]) (init := [0, 1, 2]) (fin := [0, 12]) (sps := [⟨[0], [], [3], [(.slot 25)]⟩, ⟨[3, 0], [], [4], [(.slot 26)]⟩, ⟨[4], [], [5], [(.slot 27)]⟩, ⟨[5], [], [6], [(.slot 28)]⟩, ⟨[6], [], [7], [(.slot 29)]⟩, ⟨[6], [], [8], [(.slot 30)]⟩, ⟨[6], [], [9], [(.slot 31)]⟩, ⟨[6], [], [10], [(.slot 32)]⟩, ⟨[6], [], [11], [(.slot 33)]⟩, ⟨[11], [2], [12], [(.slot 6)]⟩]) (es' := [(_, _), (6, .v (.bool true))]) (by kernel_rfl) rfl rfl
          ⟨st_plain rfl (op_fieldAddr _ _ _ _ 1 0 _ Try.underlying24 rfl sz3 rfl rfl (by decide)),
          st_plain rfl (op_load _ _ _ _ _ _ Try.underlying3 rfl rfl rfl (Nat.le_of_ble_eq_true rfl) rfl rfl rfl),
          st_plain rfl (op_bin _ _ _ _ _ rfl rfl rfl),
          st_plain rfl (op_move _ _ _ _ (congrArg (fun b => AV.v (Value.bool b)) hg4_3) rfl),
          st_skip 3 28 _ false rfl rfl rfl rfl (List.Mem.head _),
          st_skip 3 28 _ false rfl rfl rfl rfl (List.Mem.head _),
          st_skip 3 28 _ false rfl rfl rfl rfl (List.Mem.head _),
          st_skip 3 28 _ false rfl rfl rfl rfl (List.Mem.head _),
          st_plain rfl (op_pick _ _ true _ rfl rfl),
          st_plain rfl (LOp.drop [_] (op_assign _ _ _ _ rfl rfl)),
          trivial⟩ ?_
         exact hl48 _ (Option.some.inj h).symm
        ·refine ht_seqR hn (El := [_, _, _, (25, .ptr 1 3), (26, .v (.int .i64 s.Base)), (27, .v (.bool ((decide (s.Base < 0))))), (28, .v (.bool false)), (29, .ptr 1 3), (30, .v (.int .i64 s.Base)), (31, .v (.int .i64 v1)), (32, .v (.bool ((decide (v1 < s.Base))))), (33, .v (.bool ((decide (v1 < s.Base))))), (6, .v (.bool ((decide (v1 < s.Base)))))]) (init := [0, 1, 2]) (fin := [0, 12]) (sps := [⟨[0], [], [3], [(.slot 25)]⟩, ⟨[3, 0], [], [4], [(.slot 26)]⟩, ⟨[4], [], [5], [(.slot 27)]⟩, ⟨[5], [], [6], [(.slot 28)]⟩, ⟨[6, 0], [], [7], [(.slot 29)]⟩, ⟨[6, 7, 0], [], [8], [(.slot 30)]⟩, ⟨[6, 1], [], [9], [(.slot 31)]⟩, ⟨[6, 8, 9], [], [10], [(.slot 32)]⟩, ⟨[6, 10], [], [11], [(.slot 33)]⟩, ⟨[11], [2], [12], [(.slot 6)]⟩]) (es' := [(_, _), (6, .v (.bool ((decide (v1 < s.Base)))))]) (by kernel_rfl) rfl rfl
          ⟨st_plain rfl (op_fieldAddr _ _ _ _ 1 0 _ Try.underlying24 rfl sz3 rfl rfl (by decide)),
          st_plain rfl (op_load _ _ _ _ _ _ Try.underlying3 rfl rfl rfl (Nat.le_of_ble_eq_true rfl) rfl rfl rfl),
          st_plain rfl (op_bin _ _ _ _ _ rfl rfl rfl),
          st_plain rfl (op_move _ _ _ _ (congrArg (fun b => AV.v (Value.bool b)) hg4_3) rfl),
          st_run 3 28 false rfl rfl rfl (List.Mem.head _) (op_fieldAddr _ _ _ _ 1 0 _ Try.underlying24 rfl sz3 rfl rfl (by decide)),
          st_run 3 28 false rfl rfl rfl (List.Mem.head _) (op_load _ _ _ _ _ _ Try.underlying3 rfl rfl rfl (Nat.le_of_ble_eq_true rfl) rfl rfl rfl),
          st_run 3 28 false rfl rfl rfl (List.Mem.head _) (op_move _ _ _ _ rfl rfl),
          st_run 3 28 false rfl rfl rfl (List.Mem.head _) (op_bin _ _ _ _ _ rfl rfl rfl),
          st_plain rfl (op_pick _ _ false _ rfl rfl),
          st_plain rfl (LOp.drop [_] (op_assign _ _ _ _ rfl rfl)),
          trivial⟩ ?_
         exact hl48 _ (Option.some.inj h).symm
     ·intro u42 h hl43 hr44
      refine cond_some h (fun hg3_4 h => ?_) (fun hg3_4 h => ?_)
      ·refine ht_seqR hn (El := [_, _, _, (15, .ptr 1 1), (16, .fl .shr 1 (List.map (Value.int .u8) s.Data)), (17, .v (.int .i64 (s.Data.length : Int))), (18, .v (.bool ((decide ((s.Data.length : Int) < 1))))), (19, .v (.bool true)), (20, .v undef), (21, .v undef), (22, .v undef), (23, .v undef), (24, .v (.bool true)), (6, .v (.bool true))]) (init := [0, 1, 2]) (fin := [0, 1, 13]) (sps := [⟨[0], [], [3], [(.slot 15)]⟩, ⟨[3, 0], [], [4], [(.slot 16)]⟩, ⟨[4], [], [5], [(.slot 17)]⟩, ⟨[5], [], [6], [(.slot 18)]⟩, ⟨[6], [], [7], [(.slot 19)]⟩, ⟨[7], [], [8], [(.slot 20)]⟩, ⟨[7], [], [9], [(.slot 21)]⟩, ⟨[7], [], [10], [(.slot 22)]⟩, ⟨[7], [], [11], [(.slot 23)]⟩, ⟨[7], [], [12], [(.slot 24)]⟩, ⟨[12], [2], [13], [(.slot 6)]⟩]) (es' := [(_, _), (_, _), (6, .v (.bool true))]) (by kernel_rfl) rfl rfl
        ⟨st_plain rfl (op_fieldAddr _ _ _ _ 1 0 _ Try.underlying24 rfl sz22 rfl rfl (by decide)),
        st_plain rfl (op_load _ _ _ _ _ _ Try.underlying22 rfl rfl rfl (Nat.le_of_ble_eq_true rfl) rfl rfl rfl),
        st_plain rfl (op_len_fl _ _ _ Try.underlying22 rfl (by decide) (map_len _)),
        st_plain rfl (op_bin _ _ _ _ _ rfl rfl rfl),
        st_plain rfl (op_move _ _ _ _ (congrArg (fun b => AV.v (Value.bool b)) hg3_4) rfl),
        st_skip 4 19 _ false rfl rfl rfl rfl (List.Mem.head _),
        st_skip 4 19 _ false rfl rfl rfl rfl (List.Mem.head _),
        st_skip 4 19 _ false rfl rfl rfl rfl (List.Mem.head _),
        st_skip 4 19 _ false rfl rfl rfl rfl (List.Mem.head _),
        st_plain rfl (op_pick _ _ true _ rfl rfl),
        st_plain rfl (LOp.drop [_] (op_assign _ _ _ _ rfl rfl)),
        trivial⟩ ?_
       exact hl43 _ (Option.some.inj h).symm
      ·refine ht_seqR hn (El := [_, _, _, (15, .ptr 1 1), (16, .fl .shr 1 (List.map (Value.int .u8) s.Data)), (17, .v (.int .i64 (s.Data.length : Int))), (18, .v (.bool ((decide ((s.Data.length : Int) < 1))))), (19, .v (.bool false)), (20, .ptr 1 1), (21, .fl .shr 1 (List.map (Value.int .u8) s.Data)), (22, .v (.int .i64 (s.Data.length : Int))), (23, .v (.bool ((decide (5000 < (s.Data.length : Int)))))), (24, .v (.bool ((decide (5000 < (s.Data.length : Int)))))), (6, .v (.bool ((decide (5000 < (s.Data.length : Int))))))]) (init := [0, 1, 2]) (fin := [0, 1, 13]) (sps := [⟨[0], [], [3], [(.slot 15)]⟩, ⟨[3, 0], [], [4], [(.slot 16)]⟩, ⟨[4], [], [5], [(.slot 17)]⟩, ⟨[5], [], [6], [(.slot 18)]⟩, ⟨[6], [], [7], [(.slot 19)]⟩, ⟨[7, 0], [], [8], [(.slot 20)]⟩, ⟨[7, 8, 0], [], [9], [(.slot 21)]⟩, ⟨[7, 9], [], [10], [(.slot 22)]⟩, ⟨[7, 10], [], [11], [(.slot 23)]⟩, ⟨[7, 11], [], [12], [(.slot 24)]⟩, ⟨[12], [2], [13], [(.slot 6)]⟩]) (es' := [(_, _), (_, _), (6, .v (.bool ((decide (5000 < (s.Data.length : Int))))))]) (by kernel_rfl) rfl rfl
        ⟨st_plain rfl (op_fieldAddr _ _ _ _ 1 0 _ Try.underlying24 rfl sz22 rfl rfl (by decide)),
        st_plain rfl (op_load _ _ _ _ _ _ Try.underlying22 rfl rfl rfl (Nat.le_of_ble_eq_true rfl) rfl rfl rfl),
        st_plain rfl (op_len_fl _ _ _ Try.underlying22 rfl (by decide) (map_len _)),
        st_plain rfl (op_bin _ _ _ _ _ rfl rfl rfl),
        st_plain rfl (op_move _ _ _ _ (congrArg (fun b => AV.v (Value.bool b)) hg3_4) rfl),
        st_run 4 19 false rfl rfl rfl (List.Mem.head _) (op_fieldAddr _ _ _ _ 1 0 _ Try.underlying24 rfl sz22 rfl rfl (by decide)),
        st_run 4 19 false rfl rfl rfl (List.Mem.head _) (op_load _ _ _ _ _ _ Try.underlying22 rfl rfl rfl (Nat.le_of_ble_eq_true rfl) rfl rfl rfl),
        st_run 4 19 false rfl rfl rfl (List.Mem.head _) (op_len_fl _ _ _ Try.underlying22 rfl (by decide) (map_len _)),
        st_run 4 19 false rfl rfl rfl (List.Mem.head _) (op_bin _ _ _ _ _ rfl rfl rfl),
        st_plain rfl (op_pick _ _ false _ rfl rfl),
        st_plain rfl (LOp.drop [_] (op_assign _ _ _ _ rfl rfl)),
        trivial⟩ ?_
       exact hl43 _ (Option.some.inj h).symm
   ·intro u37 h hl38 hr39
    refine cond_some h (fun hg2_3 h => ?_) (fun hg2_3 h => ?_)
    ·refine ht_seqR hn (El := [_, _, (7, .ptr 1 0), (8, .v (.int .i64 s.Number)), (9, .v (.bool ((decide (s.Number < 1))))), (10, .v (.bool true)), (11, .v undef), (12, .v undef), (13, .v undef), (14, .v (.bool true)), (6, .v (.bool true))]) (init := [0, 1]) (fin := [0, 1, 10]) (sps := [⟨[0], [], [2], [(.slot 7)]⟩, ⟨[2, 0], [], [3], [(.slot 8)]⟩, ⟨[3], [], [4], [(.slot 9)]⟩, ⟨[4], [], [5], [(.slot 10)]⟩, ⟨[5], [], [6], [(.slot 11)]⟩, ⟨[5], [], [7], [(.slot 12)]⟩, ⟨[5], [], [8], [(.slot 13)]⟩, ⟨[5], [], [9], [(.slot 14)]⟩, ⟨[9], [], [10], [(.slot 6)]⟩]) (es' := [(_, _), (_, _), (6, .v (.bool true))]) (by kernel_rfl) rfl rfl
      ⟨st_plain rfl (op_fieldAddr _ _ _ _ 1 0 _ Try.underlying24 rfl sz3 rfl rfl (by decide)),
      st_plain rfl (op_load _ _ _ _ _ _ Try.underlying3 rfl rfl rfl (Nat.le_of_ble_eq_true rfl) rfl rfl rfl),
      st_plain rfl (op_bin _ _ _ _ _ rfl rfl rfl),
      st_plain rfl (op_move _ _ _ _ (congrArg (fun b => AV.v (Value.bool b)) hg2_3) rfl),
      st_skip 3 10 _ false rfl rfl rfl rfl (List.Mem.head _),
      st_skip 3 10 _ false rfl rfl rfl rfl (List.Mem.head _),
      st_skip 3 10 _ false rfl rfl rfl rfl (List.Mem.head _),
      st_plain rfl (op_pick _ _ true _ rfl rfl),
      st_plain rfl (op_assign _ _ _ _ rfl rfl),
      trivial⟩ ?_
     exact hl38 _ (Option.some.inj h).symm
    ·refine ht_seqR hn (El := [_, _, (7, .ptr 1 0), (8, .v (.int .i64 s.Number)), (9, .v (.bool ((decide (s.Number < 1))))), (10, .v (.bool false)), (11, .ptr 1 0), (12, .v (.int .i64 s.Number)), (13, .v (.bool ((decide (65535 < s.Number))))), (14, .v (.bool ((decide (65535 < s.Number))))), (6, .v (.bool ((decide (65535 < s.Number)))))]) (init := [0, 1]) (fin := [0, 1, 10]) (sps := [⟨[0], [], [2], [(.slot 7)]⟩, ⟨[2, 0], [], [3], [(.slot 8)]⟩, ⟨[3], [], [4], [(.slot 9)]⟩, ⟨[4], [], [5], [(.slot 10)]⟩, ⟨[5, 0], [], [6], [(.slot 11)]⟩, ⟨[5, 6, 0], [], [7], [(.slot 12)]⟩, ⟨[5, 7], [], [8], [(.slot 13)]⟩, ⟨[5, 8], [], [9], [(.slot 14)]⟩, ⟨[9], [], [10], [(.slot 6)]⟩]) (es' := [(_, _), (_, _), (6, .v (.bool ((decide (65535 < s.Number)))))]) (by kernel_rfl) rfl rfl
      ⟨st_plain rfl (op_fieldAddr _ _ _ _ 1 0 _ Try.underlying24 rfl sz3 rfl rfl (by decide)),
      st_plain rfl (op_load _ _ _ _ _ _ Try.underlying3 rfl rfl rfl (Nat.le_of_ble_eq_true rfl) rfl rfl rfl),
      st_plain rfl (op_bin _ _ _ _ _ rfl rfl rfl),
      st_plain rfl (op_move _ _ _ _ (congrArg (fun b => AV.v (Value.bool b)) hg2_3) rfl),
      st_run 3 10 false rfl rfl rfl (List.Mem.head _) (op_fieldAddr _ _ _ _ 1 0 _ Try.underlying24 rfl sz3 rfl rfl (by decide)),
      st_run 3 10 false rfl rfl rfl (List.Mem.head _) (op_load _ _ _ _ _ _ Try.underlying3 rfl rfl rfl (Nat.le_of_ble_eq_true rfl) rfl rfl rfl),
      st_run 3 10 false rfl rfl rfl (List.Mem.head _) (op_bin _ _ _ _ _ rfl rfl rfl),
      st_plain rfl (op_pick _ _ false _ rfl rfl),
      st_plain rfl (op_assign _ _ _ _ rfl rfl),
      trivial⟩ ?_
     exact hl38 _ (Option.some.inj h).symm

set_option maxHeartbeats 1000000 in
theorem ok_clone_List_byte (l : (List Int)) (r : (List Int)) (h : Sh.clone_List_byte l = some r) : FnOK Try.prog 39 [.fl .shr 1 (List.map (Value.int .u8) l)] (.fl (.own 5) 1 (List.map (Value.int .u8) r)) := by
  unfold Sh.clone_List_byte at h
  refine fn_ok Try.func39 rfl (Nat.le_of_ble_eq_true rfl) rfl rfl fun g0 hn hio => ?_
  refine ht_seq ?_
  refine ht_seqR hn (El := [_, (2, .v (.slice none 0 0))]) (init := [0]) (fin := [0]) (sps := [⟨[], [], [1], [(.slot 2)]⟩]) (es' := [(_, _)]) (by kernel_rfl) rfl rfl
   ⟨st_plain rfl (op_assign _ _ _ _ rfl rfl),
   trivial⟩ ?_
  refine pt_then ?_
  refine ht_seq ?_
  obtain ⟨v1, hv1, h⟩ := bind_some h
  refine ht_seqR hn (El := [_, (3, .fl .shr 1 (List.map (Value.int .u8) l)), (4, .fl (.own 5) 1 (List.map (Value.int .u8) v1)), (2, .fl (.own 5) 1 (List.map (Value.int .u8) v1))]) (init := [0]) (fin := [3]) (sps := [⟨[0], [], [1], [(.slot 3)]⟩, ⟨[1], [], [2], [(.slot 4)]⟩, ⟨[], [2], [3], [(.slot 2)]⟩]) (es' := [(2, .fl (.own 5) 1 (List.map (Value.int .u8) v1))]) (by kernel_rfl) rfl rfl
   ⟨st_plain rfl (op_move _ _ _ _ rfl rfl),
   st_plain rfl (op_app_nil _ _ _ _ el22 rfl rfl (map_len _) hv1 (congrArg (List.map _) (app_nil_eq hv1))),
   st_plain rfl (op_assign_take _ _ _ _ rfl),
   trivial⟩ ?_
  refine pt_then ?_
  refine ht_ret ?_
  obtain rfl := Option.some.inj h
  exact pt_ret hio rfl (.tmp _ _ .nil) rfl rfl

set_option maxHeartbeats 1000000 in
theorem ok_clone_Send (s : T_Send) (r : T_Send) (h : Sh.clone_Send s = some r) : FnOK Try.prog 31 [.agg [.v (.int .i64 s.Number), .fl .shr 1 (List.map (Value.int .u8) s.Data), .v (.bool s.Ready), .v (.int .i64 s.Base), .v (.int .i64 s.Next), .v (.int .i64 s.Wait), .v (.bool s.Over)]] (.agg [.v (.int .i64 r.Number), .fl (.own 5) 1 (List.map (Value.int .u8) r.Data), .v (.bool r.Ready), .v (.int .i64 r.Base), .v (.int .i64 r.Next), .v (.int .i64 r.Wait), .v (.bool r.Over)]) := by
  unfold Sh.clone_Send at h
  refine fn_ok Try.func31 rfl (Nat.le_of_ble_eq_true rfl) rfl rfl fun g0 hn hio => ?_
  refine ht_seq ?_
  refine ht_seqR hn (El := [_, (1, .box 24 [.v (.int .i64 s.Number), .fl .shr 1 (List.map (Value.int .u8) s.Data), .v (.bool s.Ready), .v (.int .i64 s.Base), .v (.int .i64 s.Next), .v (.int .i64 s.Wait), .v (.bool s.Over)]), (2, .box 24 [.v (.int .i64 0), .v (.slice none 0 0), .v (.bool false), .v (.int .i64 0), .v (.int .i64 0), .v (.int .i64 0), .v (.bool false)])]) (init := [0]) (fin := [1, 2]) (sps := [⟨[0], [], [1], [(.slot 1)]⟩, ⟨[], [], [2], [(.slot 2)]⟩]) (es' := [(1, .box 24 [.v (.int .i64 s.Number), .fl .shr 1 (List.map (Value.int .u8) s.Data), .v (.bool s.Ready), .v (.int .i64 s.Base), .v (.int .i64 s.Next), .v (.int .i64 s.Wait), .v (.bool s.Over)]), (2, .box 24 [.v (.int .i64 0), .v (.slice none 0 0), .v (.bool false), .v (.int .i64 0), .v (.int .i64 0), .v (.int .i64 0), .v (.bool false)])]) (by kernel_rfl) rfl rfl
   ⟨st_plain rfl (op_box _ _ _ _ rfl rfl rfl),
   st_plain rfl (op_alloc _ _ zr24),
   trivial⟩ ?_
  refine pt_then ?_
  refine ht_seq ?_
  obtain ⟨v1, hv1, h⟩ := bind_some h
  refine ht_seqR hn (El := [_, _, (3, .ptr 1 1), (4, .fl .shr 1 (List.map (Value.int .u8) s.Data)), (5, .fl (.own 5) 1 (List.map (Value.int .u8) v1)), (6, .ptr 1 1), (1, .box 24 [.v (.int .i64 s.Number), .fl (.own 5) 1 (List.map (Value.int .u8) v1), .v (.bool s.Ready), .v (.int .i64 s.Base), .v (.int .i64 s.Next), .v (.int .i64 s.Wait), .v (.bool s.Over)])]) (init := [0, 1]) (fin := [6, 1]) (sps := [⟨[0], [], [2], [(.slot 3)]⟩, ⟨[2, 0], [], [3], [(.slot 4)]⟩, ⟨[3], [], [4], [(.slot 5)]⟩, ⟨[0], [], [5], [(.slot 6)]⟩, ⟨[5], [4, 0], [6], [.cell 1 1]⟩]) (es' := [(1, .box 24 [.v (.int .i64 s.Number), .fl (.own 5) 1 (List.map (Value.int .u8) v1), .v (.bool s.Ready), .v (.int .i64 s.Base), .v (.int .i64 s.Next), .v (.int .i64 s.Wait), .v (.bool s.Over)]), (_, _)]) (by kernel_rfl) rfl rfl
   ⟨st_plain rfl (op_fieldAddr _ _ _ _ 1 0 _ Try.underlying24 rfl sz22 rfl rfl (by decide)),
   st_plain rfl (op_load _ _ _ _ _ _ Try.underlying22 rfl rfl rfl (Nat.le_of_ble_eq_true rfl) rfl rfl rfl),
   st_plain rfl (op_call _ _ 39 _ _ rfl Try.call39 rfl (ok_clone_List_byte s.Data _ hv1) rfl rfl),
   st_plain rfl (op_fieldAddr _ _ _ _ 1 0 _ Try.underlying24 rfl sz22 rfl rfl (by decide)),
   st_plain rfl (op_store_take _ _ _ _ _ _ _ _ sz22 rfl rfl rfl (Nat.le_of_ble_eq_true rfl) rfl rfl),
   trivial⟩ ?_
  refine pt_then ?_
  refine ht_seq ?_
  refine ht_seqR hn (El := [_, _, (7, .agg [.v (.int .i64 s.Number), .fl (.own 5) 1 (List.map (Value.int .u8) v1), .v (.bool s.Ready), .v (.int .i64 s.Base), .v (.int .i64 s.Next), .v (.int .i64 s.Wait), .v (.bool s.Over)]), (2, .box 24 [.v (.int .i64 s.Number), .fl (.own 5) 1 (List.map (Value.int .u8) v1), .v (.bool s.Ready), .v (.int .i64 s.Base), .v (.int .i64 s.Next), .v (.int .i64 s.Wait), .v (.bool s.Over)])]) (init := [0, 1]) (fin := [3]) (sps := [⟨[], [0], [2], [(.slot 7)]⟩, ⟨[], [2, 1], [3], [.cell 2 0, .cell 2 1, .cell 2 2, .cell 2 3, .cell 2 4, .cell 2 5, .cell 2 6]⟩]) (es' := [(2, .box 24 [.v (.int .i64 s.Number), .fl (.own 5) 1 (List.map (Value.int .u8) v1), .v (.bool s.Ready), .v (.int .i64 s.Base), .v (.int .i64 s.Next), .v (.int .i64 s.Wait), .v (.bool s.Over)])]) (by kernel_rfl) rfl rfl
   ⟨st_plain rfl (op_loadA_take _ _ _ _ Try.underlying24 rfl sz24 rfl rfl),
   st_plain rfl (op_store_take _ _ _ _ _ _ _ _ sz24 rfl rfl rfl (Nat.le_of_ble_eq_true rfl) rfl rfl),
   trivial⟩ ?_
  refine pt_then ?_
  refine ht_ret ?_
  obtain rfl := Option.some.inj h
  exact pt_ret hio rfl (.cellA _ _ _ _ Try.underlying24 rfl sz24 .nil) rfl rfl

set_option maxHeartbeats 1000000 in
theorem ok_sender_hello (s : T_Send) (r : T_Frame) (h : Sh.sender_hello s = some r) : FnOK Try.prog 34 [.agg [.v (.int .i64 s.Number), .fl .shr 1 (List.map (Value.int .u8) s.Data), .v (.bool s.Ready), .v (.int .i64 s.Base), .v (.int .i64 s.Next), .v (.int .i64 s.Wait), .v (.bool s.Over)]] (.agg [.v (.int .i64 r.Kind), .v (.int .i64 r.Number), .v (.int .i64 r.Offset), .v (.int .i64 r.Seq), .fl (.own 5) 1 (List.map (Value.int .u8) r.Data)]) := by
  unfold Sh.sender_hello at h
  refine fn_ok Try.func34 rfl (Nat.le_of_ble_eq_true rfl) rfl rfl fun g0 hn hio => ?_
  refine ht_seq ?_
  refine ht_seqR hn (El := [_, (1, .box 24 [.v (.int .i64 s.Number), .fl .shr 1 (List.map (Value.int .u8) s.Data), .v (.bool s.Ready), .v (.int .i64 s.Base), .v (.int .i64 s.Next), .v (.int .i64 s.Wait), .v (.bool s.Over)]), (2, .box 26 [.v (.int .i64 0), .v (.int .i64 0), .v (.int .i64 0), .v (.int .i64 0), .v (.slice none 0 0)])]) (init := [0]) (fin := [1, 2]) (sps := [⟨[0], [], [1], [(.slot 1)]⟩, ⟨[], [], [2], [(.slot 2)]⟩]) (es' := [(1, .box 24 [.v (.int .i64 s.Number), .fl .shr 1 (List.map (Value.int .u8) s.Data), .v (.bool s.Ready), .v (.int .i64 s.Base), .v (.int .i64 s.Next), .v (.int .i64 s.Wait), .v (.bool s.Over)]), (2, .box 26 [.v (.int .i64 0), .v (.int .i64 0), .v (.int .i64 0), .v (.int .i64 0), .v (.slice none 0 0)])]) (by kernel_rfl) rfl rfl
   ⟨st_plain rfl (op_box _ _ _ _ rfl rfl rfl),
   st_plain rfl (op_alloc _ _ zr26),
   trivial⟩ ?_
  refine pt_then ?_
  refine ht_seq ?_
  refine ht_seqR hn (El := [_, _, (3, .ptr 1 0), (4, .v (.int .i64 s.Number)), (5, .ptr 1 1), (6, .fl .shr 1 (List.map (Value.int .u8) s.Data)), (7, .v (.int .i64 (s.Data.length : Int))), (8, .agg [.v (.int .i64 1), .v (.int .i64 s.Number), .v (.int .i64 (s.Data.length : Int)), .v (.int .i64 0), .v (.slice none 0 0)]), (2, .box 26 [.v (.int .i64 1), .v (.int .i64 s.Number), .v (.int .i64 (s.Data.length : Int)), .v (.int .i64 0), .v (.slice none 0 0)])]) (init := [0, 1]) (fin := [8]) (sps := [⟨[0], [], [2], [(.slot 3)]⟩, ⟨[2, 0], [], [3], [(.slot 4)]⟩, ⟨[0], [], [4], [(.slot 5)]⟩, ⟨[4, 0], [], [5], [(.slot 6)]⟩, ⟨[5], [], [6], [(.slot 7)]⟩, ⟨[3, 6], [], [7], [(.slot 8)]⟩, ⟨[7], [1], [8], [.cell 2 0, .cell 2 1, .cell 2 2, .cell 2 3, .cell 2 4]⟩]) (es' := [(2, .box 26 [.v (.int .i64 1), .v (.int .i64 s.Number), .v (.int .i64 (s.Data.length : Int)), .v (.int .i64 0), .v (.slice none 0 0)])]) (by kernel_rfl) rfl rfl
   ⟨st_plain rfl (op_fieldAddr _ _ _ _ 1 0 _ Try.underlying24 rfl sz3 rfl rfl (by decide)),
   st_plain rfl (op_load _ _ _ _ _ _ Try.underlying3 rfl rfl rfl (Nat.le_of_ble_eq_true rfl) rfl rfl rfl),
   st_plain rfl (op_fieldAddr _ _ _ _ 1 0 _ Try.underlying24 rfl sz22 rfl rfl (by decide)),
   st_plain rfl (op_load _ _ _ _ _ _ Try.underlying22 rfl rfl rfl (Nat.le_of_ble_eq_true rfl) rfl rfl rfl),
   st_plain rfl (op_len_fl _ _ _ Try.underlying22 rfl (by decide) (map_len _)),
   st_plain rfl (op_build _ _ _ _ [1, 1, 1, 1, 1] _ _ Try.underlying26 zr26 (fs26 _ Try.underlying26) (.copy _ (.copy _ (.copy _ Src.nil))) rfl rfl rfl),
   st_plain rfl (op_store _ _ _ _ _ _ _ _ sz26 rfl rfl rfl rfl (Nat.le_of_ble_eq_true rfl) rfl rfl),
   trivial⟩ ?_
  refine pt_then ?_
  refine ht_ret ?_
  refine pt_sub (fs := [(2, .box 26 [.v (.int .i64 1), .v (.int .i64 s.Number), .v (.int .i64 (s.Data.length : Int)), .v (.int .i64 0), .fl (.own 5) 1 (List.map (Value.int .u8) [])])]) (.box _ _ (subs_cons (sub_refl _) (subs_cons (sub_refl _) (subs_cons (sub_refl _) (subs_cons (sub_refl _) (subs_cons (sub_nil 5 1) (subs_nil)))))) rfl .nil) ?_
  obtain rfl := Option.some.inj h
  exact pt_ret hio rfl (.cellA _ _ _ _ Try.underlying26 rfl sz26 .nil) rfl rfl

set_option maxHeartbeats 1000000 in
theorem ok_sender_piece (s : T_Send) (i : Int) (r : T_Frame) (h : Sh.sender_piece s i = some r) : FnOK Try.prog 35 [.agg [.v (.int .i64 s.Number), .fl .shr 1 (List.map (Value.int .u8) s.Data), .v (.bool s.Ready), .v (.int .i64 s.Base), .v (.int .i64 s.Next), .v (.int .i64 s.Wait), .v (.bool s.Over)], .v (.int .i64 i)] (.agg [.v (.int .i64 r.Kind), .v (.int .i64 r.Number), .v (.int .i64 r.Offset), .v (.int .i64 r.Seq), .fl (.own 5) 1 (List.map (Value.int .u8) r.Data)]) := by
  unfold Sh.sender_piece at h
  refine fn_ok Try.func35 rfl (Nat.le_of_ble_eq_true rfl) rfl rfl fun g0 hn hio => ?_
  refine ht_seq ?_
  refine ht_seqR hn (El := [_, _, (2, .box 24 [.v (.int .i64 s.Number), .fl .shr 1 (List.map (Value.int .u8) s.Data), .v (.bool s.Ready), .v (.int .i64 s.Base), .v (.int .i64 s.Next), .v (.int .i64 s.Wait), .v (.bool s.Over)]), (4, .box 26 [.v (.int .i64 0), .v (.int .i64 0), .v (.int .i64 0), .v (.int .i64 0), .v (.slice none 0 0)])]) (init := [0, 1]) (fin := [1, 2, 3]) (sps := [⟨[0], [], [2], [(.slot 2)]⟩, ⟨[], [], [3], [(.slot 4)]⟩]) (es' := [(_, _), (2, .box 24 [.v (.int .i64 s.Number), .fl .shr 1 (List.map (Value.int .u8) s.Data), .v (.bool s.Ready), .v (.int .i64 s.Base), .v (.int .i64 s.Next), .v (.int .i64 s.Wait), .v (.bool s.Over)]), (4, .box 26 [.v (.int .i64 0), .v (.int .i64 0), .v (.int .i64 0), .v (.int .i64 0), .v (.slice none 0 0)])]) (by kernel_rfl) rfl rfl
   ⟨st_plain rfl (op_box _ _ _ _ rfl rfl rfl),
   st_plain rfl (op_alloc _ _ zr26),
   trivial⟩ ?_
  refine pt_then ?_
  refine ht_seq ?_
  obtain ⟨v1, hv1, h⟩ := bind_some h
  refine ht_seqR hn (El := [_, _, _, (7, .v (.int .i64 i)), (8, .v (.int .i64 v1)), (5, .v (.int .i64 v1))]) (init := [0, 1, 2]) (fin := [0, 1, 2, 5]) (sps := [⟨[0], [], [3], [(.slot 7)]⟩, ⟨[3], [], [4], [(.slot 8)]⟩, ⟨[4], [], [5], [(.slot 5)]⟩]) (es' := [(_, _), (_, _), (_, _), (5, .v (.int .i64 v1))]) (by kernel_rfl) rfl rfl
   ⟨st_plain rfl (op_move _ _ _ _ rfl rfl),
   st_plain rfl (op_bin _ _ _ _ _ rfl rfl (ibind (f := Value.int .i64) (Option.some.inj hv1))),
   st_plain rfl (op_assign _ _ _ _ rfl rfl),
   trivial⟩ ?_
  refine pt_then ?_
  refine ht_seq ?_
  obtain ⟨v2, hv2, h⟩ := bind_some h
  obtain ⟨v3, hv3, h⟩ := bind_some h
  refine ht_seqR hn (El := [_, _, _, _, (9, .v (.int .i64 v1)), (10, .v (.int .i64 v2)), (11, .ptr 2 1), (12, .fl .shr 1 (List.map (Value.int .u8) s.Data)), (13, .v (.int .i64 (s.Data.length : Int))), (14, .v (.int .i64 v3)), (6, .v (.int .i64 v3))]) (init := [0, 1, 2, 3]) (fin := [0, 1, 2, 3, 10]) (sps := [⟨[3], [], [4], [(.slot 9)]⟩, ⟨[4], [], [5], [(.slot 10)]⟩, ⟨[1], [], [6], [(.slot 11)]⟩, ⟨[6, 1], [], [7], [(.slot 12)]⟩, ⟨[7], [], [8], [(.slot 13)]⟩, ⟨[5, 8], [], [9], [(.slot 14)]⟩, ⟨[9], [], [10], [(.slot 6)]⟩]) (es' := [(_, _), (_, _), (_, _), (_, _), (6, .v (.int .i64 v3))]) (by kernel_rfl) rfl rfl
   ⟨st_plain rfl (op_move _ _ _ _ rfl rfl),
   st_plain rfl (op_bin _ _ _ _ _ rfl rfl (ibind (f := Value.int .i64) (Option.some.inj hv2))),
   st_plain rfl (op_fieldAddr _ _ _ _ 2 0 _ Try.underlying24 rfl sz22 rfl rfl (by decide)),
   st_plain rfl (op_load _ _ _ _ _ _ Try.underlying22 rfl rfl rfl (Nat.le_of_ble_eq_true rfl) rfl rfl rfl),
   st_plain rfl (op_len_fl _ _ _ Try.underlying22 rfl (by decide) (map_len _)),
   st_plain rfl ((Option.some.inj hv3) ▸ op_min _ _ _ _ rfl rfl),
   st_plain rfl (op_assign _ _ _ _ rfl rfl),
   trivial⟩ ?_
  refine pt_then ?_
  refine ht_seq ?_
  obtain ⟨v4, hv4, h⟩ := bind_some h
  obtain ⟨v5, hv5, h⟩ := bind_some h
  obtain ⟨v6, hv6, h⟩ := bind_some h
  refine ht_anyR (by kernel_rfl) hn (El := (_ :: _ :: _ :: _ :: _ :: (15, .ptr 2 0) :: (16, .v (.int .i64 s.Number)) :: (17, .v (.int .i64 v1)) :: (18, .v (.int .i64 i)) :: (19, .v (.int .i64 v4)) :: (20, .ptr 2 1) :: (21, .fl .shr 1 (List.map (Value.int .u8) s.Data)) :: (22, .v (.int .i64 v1)) :: (23, .v (.int .i64 v3)) :: (24, .fl .shr 1 (List.map (Value.int .u8) v5)) :: (25, .fl (.own 5) 1 (List.map (Value.int .u8) v6)) :: (26, .agg [.v (.int .i64 3), .v (.int .i64 s.Number), .v (.int .i64 v1), .v (.int .i64 v4), .fl (.own 5) 1 (List.map (Value.int .u8) v6)]) :: (4, .box 26 [.v (.int .i64 3), .v (.int .i64 s.Number), .v (.int .i64 v1), .v (.int .i64 v4), .fl (.own 5) 1 (List.map (Value.int .u8) v6)]) :: [])) (init := [0, 1, 2, 3, 4]) (fin := [17]) (sps := [⟨[1], [], [5], [(.slot 15)]⟩, ⟨[5, 1], [], [6], [(.slot 16)]⟩, ⟨[3], [], [7], [(.slot 17)]⟩, ⟨[0], [], [8], [(.slot 18)]⟩, ⟨[8], [], [9], [(.slot 19)]⟩, ⟨[1], [], [10], [(.slot 20)]⟩, ⟨[10, 1], [], [11], [(.slot 21)]⟩, ⟨[3], [], [12], [(.slot 22)]⟩, ⟨[4], [], [13], [(.slot 23)]⟩, ⟨[11, 12, 13], [], [14], [(.slot 24)]⟩, ⟨[14], [], [15], [(.slot 25)]⟩, ⟨[6, 7, 9], [15], [16], [(.slot 26)]⟩, ⟨[], [16, 2], [17], [.cell 4 0, .cell 4 1, .cell 4 2, .cell 4 3, .cell 4 4]⟩]) (es' := [(4, .box 26 [.v (.int .i64 3), .v (.int .i64 s.Number), .v (.int .i64 v1), .v (.int .i64 v4), .fl (.own 5) 1 (List.map (Value.int .u8) v6)])]) (by kernel_rfl) rfl rfl
   ⟨st_plain rfl (op_fieldAddr _ _ _ _ 2 0 _ Try.underlying24 rfl sz3 rfl rfl (by decide)),
   st_plain rfl (op_load _ _ _ _ _ _ Try.underlying3 rfl rfl rfl (Nat.le_of_ble_eq_true rfl) rfl rfl rfl),
   st_plain rfl (op_move _ _ _ _ rfl rfl),
   st_plain rfl (op_move _ _ _ _ rfl rfl),
   st_plain rfl (op_bin _ _ _ _ _ rfl rfl (rem_ok hv4)),
   st_plain rfl (op_fieldAddr _ _ _ _ 2 0 _ Try.underlying24 rfl sz22 rfl rfl (by decide)),
   st_plain rfl (op_load _ _ _ _ _ _ Try.underlying22 rfl rfl rfl (Nat.le_of_ble_eq_true rfl) rfl rfl rfl),
   st_plain rfl (op_move _ _ _ _ rfl rfl),
   st_plain rfl (op_move _ _ _ _ rfl rfl),
   st_plain rfl (op_sl _ _ _ v1 v3 _ Try.underlying22 sz5 rfl rfl ⟨_, rfl⟩ ⟨_, rfl⟩ hv5),
   st_plain rfl (op_call _ _ 39 _ _ rfl Try.call39 rfl (ok_clone_List_byte v5 _ hv6) rfl rfl),
   st_plain rfl (op_build _ _ _ _ [1, 1, 1, 1, 1] _ _ Try.underlying26 zr26 (fs26 _ Try.underlying26) (.copy _ (.copy _ (.copy _ (.copy _ (.take _ _ Src.nil))))) rfl rfl rfl),
   st_plain rfl (op_store_take _ _ _ _ _ _ _ _ sz26 rfl rfl rfl (Nat.le_of_ble_eq_true rfl) rfl rfl),
   trivial⟩ ?_
  refine pt_then ?_
  refine ht_ret ?_
  obtain rfl := Option.some.inj h
  exact pt_ret hio rfl (.cellA _ _ _ _ Try.underlying26 rfl sz26 .nil) rfl rfl

set_option maxHeartbeats 1000000 in
theorem ok_sender_Tick (s : T_Send) (r : (T_Send × (List T_Frame) × Int)) (h : Sh.sender_Tick s = some r) : FnOK Try.prog 14 [.agg [.v (.int .i64 s.Number), .fl .shr 1 (List.map (Value.int .u8) s.Data), .v (.bool s.Ready), .v (.int .i64 s.Base), .v (.int .i64 s.Next), .v (.int .i64 s.Wait), .v (.bool s.Over)]] (.tup [.agg [.v (.int .i64 r.1.Number), .fl (.own 5) 1 (List.map (Value.int .u8) r.1.Data), .v (.bool r.1.Ready), .v (.int .i64 r.1.Base), .v (.int .i64 r.1.Next), .v (.int .i64 r.1.Wait), .v (.bool r.1.Over)], .fr (.own 26) false 5 (List.flatten (List.map T_Frame.ienc r.2.1)), .v (.int .i64 r.2.2)]) := by
  unfold Sh.sender_Tick at h
  refine fn_ok Try.func14 rfl (Nat.le_of_ble_eq_true rfl) rfl rfl fun g0 hn hio => ?_
  refine ht_seq ?_
  refine ht_seqR hn (El := [_, (1, .box 24 [.v (.int .i64 s.Number), .fl .shr 1 (List.map (Value.int .u8) s.Data), .v (.bool s.Ready), .v (.int .i64 s.Base), .v (.int .i64 s.Next), .v (.int .i64 s.Wait), .v (.bool s.Over)]), (2, .box 24 [.v (.int .i64 0), .v (.slice none 0 0), .v (.bool false), .v (.int .i64 0), .v (.int .i64 0), .v (.int .i64 0), .v (.bool false)]), (3, .v (.slice none 0 0)), (4, .v (.int .i64 0))]) (init := [0]) (fin := [1, 2]) (sps := [⟨[0], [], [1], [(.slot 1)]⟩, ⟨[], [], [2], [(.slot 2)]⟩, ⟨[], [], [3], [(.slot 3)]⟩, ⟨[], [], [4], [(.slot 4)]⟩]) (es' := [(1, .box 24 [.v (.int .i64 s.Number), .fl .shr 1 (List.map (Value.int .u8) s.Data), .v (.bool s.Ready), .v (.int .i64 s.Base), .v (.int .i64 s.Next), .v (.int .i64 s.Wait), .v (.bool s.Over)]), (2, .box 24 [.v (.int .i64 0), .v (.slice none 0 0), .v (.bool false), .v (.int .i64 0), .v (.int .i64 0), .v (.int .i64 0), .v (.bool false)])]) (by kernel_rfl) rfl rfl
   ⟨st_plain rfl (op_box _ _ _ _ rfl rfl rfl),
   st_plain rfl (op_alloc _ _ zr24),
   st_plain rfl (op_assign _ _ _ _ rfl rfl),
   st_plain rfl (op_assign _ _ _ _ rfl rfl),
   trivial⟩ ?_
  refine pt_then ?_
  refine ht_seq ?_
  refine ht_seq ?_
  obtain ⟨v1, hv1, h⟩ := bind_some h
  refine ht_seqR hn (El := [_, _, (9, .agg [.v (.int .i64 s.Number), .fl .shr 1 (List.map (Value.int .u8) s.Data), .v (.bool s.Ready), .v (.int .i64 s.Base), .v (.int .i64 s.Next), .v (.int .i64 s.Wait), .v (.bool s.Over)]), (10, .v (.int .i64 v1)), (5, .v (.int .i64 v1))]) (init := [0, 1]) (fin := [0, 1, 4]) (sps := [⟨[0], [], [2], [(.slot 9)]⟩, ⟨[2], [], [3], [(.slot 10)]⟩, ⟨[3], [], [4], [(.slot 5)]⟩]) (es' := [(_, _), (_, _), (5, .v (.int .i64 v1))]) (by kernel_rfl) rfl rfl
   ⟨st_plain rfl (op_loadA _ _ _ _ _ _ _ Try.underlying24 rfl sz24 rfl rfl (Nat.le_of_ble_eq_true rfl) rfl rfl),
   st_plain rfl (op_call _ _ 17 _ _ rfl Try.call17 rfl (ok_sender_Check s _ hv1) rfl rfl),
   st_plain rfl (op_assign _ _ _ _ rfl rfl),
   trivial⟩ ?_
  refine pt_then ?_
  refine ht_seq ?_
  refine ht_seqR hn (El := [_, _, _, (11, .v (.int .i64 v1)), (12, .v (.bool (v1 != 0)))]) (init := [0, 1, 2]) (fin := [0, 1, 2, 4]) (sps := [⟨[2], [], [3], [(.slot 11)]⟩, ⟨[3], [], [4], [(.slot 12)]⟩]) (es' := [(_, _), (_, _), (_, _), (12, .v (.bool (v1 != 0)))]) (by kernel_rfl) rfl rfl
   ⟨st_plain rfl (op_move _ _ _ _ rfl rfl),
   st_plain rfl (op_bin _ _ _ _ _ rfl rfl rfl),
   trivial⟩ ?_
  refine pt_then ?_
  refine ht_cond _ rfl (fun hb2 => ?_) (fun hb2 => ?_)
  ·have h := cond_t hb2 h
   refine ht_seq ?_
   refine ht_seqR hn (El := [_, _, _, _, (13, .agg [.v (.int .i64 0), .v (.slice none 0 0), .v (.bool false), .v (.int .i64 0), .v (.int .i64 0), .v (.int .i64 0), .v (.bool false)]), (14, .v (.int .i64 v1)), (2, .box 24 [.v (.int .i64 0), .v (.slice none 0 0), .v (.bool false), .v (.int .i64 0), .v (.int .i64 0), .v (.int .i64 0), .v (.bool false)]), (3, .v (.slice none 0 0)), (4, .v (.int .i64 v1))]) (init := [0, 1, 2, 3]) (fin := [6, 7, 8]) (sps := [⟨[], [], [4], [(.slot 13)]⟩, ⟨[2], [], [5], [(.slot 14)]⟩, ⟨[4], [1], [6], [.cell 2 0, .cell 2 1, .cell 2 2, .cell 2 3, .cell 2 4, .cell 2 5, .cell 2 6]⟩, ⟨[], [], [7], [(.slot 3)]⟩, ⟨[5], [], [8], [(.slot 4)]⟩]) (es' := [(2, .box 24 [.v (.int .i64 0), .v (.slice none 0 0), .v (.bool false), .v (.int .i64 0), .v (.int .i64 0), .v (.int .i64 0), .v (.bool false)]), (3, .v (.slice none 0 0)), (4, .v (.int .i64 v1))]) (by kernel_rfl) rfl rfl
    ⟨st_plain rfl (op_build _ _ _ _ [1, 1, 1, 1, 1, 1, 1] _ _ Try.underlying24 zr24 (fs24 _ Try.underlying24) Src.nil rfl rfl rfl),
    st_plain rfl (op_move _ _ _ _ rfl rfl),
    st_plain rfl (op_store _ _ _ _ _ _ _ _ sz24 rfl rfl rfl rfl (Nat.le_of_ble_eq_true rfl) rfl rfl),
    st_plain rfl (op_assign _ _ _ _ rfl rfl),
    st_plain rfl (op_assign _ _ _ _ rfl rfl),
    trivial⟩ ?_
   refine pt_then ?_
   refine ht_ret ?_
   refine pt_sub (fs := [(2, .box 24 [.v (.int .i64 0), .fl (.own 5) 1 (List.map (Value.int .u8) []), .v (.bool false), .v (.int .i64 0), .v (.int .i64 0), .v (.int .i64 0), .v (.bool false)]), (3, .fr (.own 26) false 5 (List.flatten (List.map T_Frame.ienc []))), (4, .v (.int .i64 v1))]) (.box _ _ (subs_cons (sub_refl _) (subs_cons (sub_nil 5 1) (subs_cons (sub_refl _) (subs_cons (sub_refl _) (subs_cons (sub_refl _) (subs_cons (sub_refl _) (subs_cons (sub_refl _) (subs_nil)))))))) rfl (.sub _ (sub_nil_fr 26 false 5) rfl (.same _ .nil))) ?_
   refine pt_r_then ?_
   obtain rfl := Option.some.inj h
   exact pt_ret hio rfl (.cellA _ _ _ _ Try.underlying24 rfl sz24 (.tmp _ _ (.tmp _ _ .nil))) rfl rfl
  ·have h := cond_f hb2 h
   refine ht_skip ?_
   refine pt_then ?_
   refine ht_seq ?_
   obtain ⟨v3, hv3, h⟩ := bind_some h
   refine ht_seqR hn (El := [_, _, _, _, (15, .agg [.v (.int .i64 s.Number), .fl .shr 1 (List.map (Value.int .u8) s.Data), .v (.bool s.Ready), .v (.int .i64 s.Base), .v (.int .i64 s.Next), .v (.int .i64 s.Wait), .v (.bool s.Over)]), (16, .agg [.v (.int .i64 v3.Number), .fl (.own 5) 1 (List.map (Value.int .u8) v3.Data), .v (.bool v3.Ready), .v (.int .i64 v3.Base), .v (.int .i64 v3.Next), .v (.int .i64 v3.Wait), .v (.bool v3.Over)]), (1, .box 24 [.v (.int .i64 v3.Number), .fl (.own 5) 1 (List.map (Value.int .u8) v3.Data), .v (.bool v3.Ready), .v (.int .i64 v3.Base), .v (.int .i64 v3.Next), .v (.int .i64 v3.Wait), .v (.bool v3.Over)])]) (init := [0, 1, 2, 3]) (fin := [6, 1]) (sps := [⟨[0], [], [4], [(.slot 15)]⟩, ⟨[4], [], [5], [(.slot 16)]⟩, ⟨[], [5, 0], [6], [.cell 1 0, .cell 1 1, .cell 1 2, .cell 1 3, .cell 1 4, .cell 1 5, .cell 1 6]⟩]) (es' := [(1, .box 24 [.v (.int .i64 v3.Number), .fl (.own 5) 1 (List.map (Value.int .u8) v3.Data), .v (.bool v3.Ready), .v (.int .i64 v3.Base), .v (.int .i64 v3.Next), .v (.int .i64 v3.Wait), .v (.bool v3.Over)]), (_, _)]) (by kernel_rfl) rfl rfl
    ⟨st_plain rfl (op_loadA _ _ _ _ _ _ _ Try.underlying24 rfl sz24 rfl rfl (Nat.le_of_ble_eq_true rfl) rfl rfl),
    st_plain rfl (op_call _ _ 31 _ _ rfl Try.call31 rfl (ok_clone_Send s _ hv3) rfl rfl),
    st_plain rfl (op_store_take _ _ _ _ _ _ _ _ sz24 rfl rfl rfl (Nat.le_of_ble_eq_true rfl) rfl rfl),
    trivial⟩ ?_
   refine pt_then ?_
   refine ht_seq ?_
   obtain ⟨v4, hv4, h⟩ := bind_some h
   refine ht_seqR hn (El := [_, _, (17, .agg [.v (.int .i64 v3.Number), .same (.cell 1 1), .v (.bool v3.Ready), .v (.int .i64 v3.Base), .v (.int .i64 v3.Next), .v (.int .i64 v3.Wait), .v (.bool v3.Over)]), (18, .v (.int .i64 v4)), (6, .v (.int .i64 v4))]) (init := [0, 1]) (fin := [0, 1, 4]) (sps := [⟨[0], [], [2], [(.slot 17)]⟩, ⟨[2, 0], [], [3], [(.slot 18)]⟩, ⟨[3], [], [4], [(.slot 6)]⟩]) (es' := [(_, _), (_, _), (6, .v (.int .i64 v4))]) (by kernel_rfl) rfl rfl
    ⟨st_plain rfl (op_loadA _ _ _ _ _ _ _ Try.underlying24 rfl sz24 rfl rfl (Nat.le_of_ble_eq_true rfl) rfl rfl),
    st_plain rfl (op_call _ _ 32 _ _ rfl Try.call32 rfl (ok_sender_window v3 _ hv4) rfl rfl),
    st_plain rfl (op_assign _ _ _ _ rfl rfl),
    trivial⟩ ?_
   refine pt_then ?_
   refine ht_seq ?_
   refine ht_seqR hn (El := [_, _, _, (7, .v (.slice none 0 0))]) (init := [0, 1, 2]) (fin := [0, 1, 2, 3]) (sps := [⟨[], [], [3], [(.slot 7)]⟩]) (es' := [(_, _), (_, _), (_, _), (7, .v (.slice none 0 0))]) (by kernel_rfl) rfl rfl
    ⟨st_plain rfl (op_assign _ _ _ _ rfl rfl),
    trivial⟩ ?_
   refine pt_then ?_
   refine ht_seq ?_
   refine ht_joinS h (fun ((s39, s40, s41, s42, s43) : Bool × Int × Int × Int × (List T_Frame)) => [(1, .box 24 [.v (.int .i64 v3.Number), .fl (.own 5) 1 (List.map (Value.int .u8) v3.Data), .v (.bool s39), .v (.int .i64 s40), .v (.int .i64 s41), .v (.int .i64 s42), .v (.bool v3.Over)]), (2, .box 24 [.v (.int .i64 0), .v (.slice none 0 0), .v (.bool false), .v (.int .i64 0), .v (.int .i64 0), .v (.int .i64 0), .v (.bool false)]), (7, .fr (.own 26) false 5 (List.flatten (List.map T_Frame.ienc s43)))]) ?_ ?_
   ·rintro ⟨s39, s40, s41, s42, s43⟩ h
    refine pt_then ?_
    refine ht_seq ?_
    refine ht_seqR hn (El := [_, _, _, (84, .agg [.v (.int .i64 v3.Number), .fl (.own 5) 1 (List.map (Value.int .u8) v3.Data), .v (.bool s39), .v (.int .i64 s40), .v (.int .i64 s41), .v (.int .i64 s42), .v (.bool v3.Over)]), (85, .fr (.own 26) false 5 (List.flatten (List.map T_Frame.ienc s43))), (2, .box 24 [.v (.int .i64 v3.Number), .fl (.own 5) 1 (List.map (Value.int .u8) v3.Data), .v (.bool s39), .v (.int .i64 s40), .v (.int .i64 s41), .v (.int .i64 s42), .v (.bool v3.Over)]), (3, .fr (.own 26) false 5 (List.flatten (List.map T_Frame.ienc s43))), (4, .v (.int .i64 0))]) (init := [0, 1, 2]) (fin := [5, 6, 7]) (sps := [⟨[], [0], [3], [(.slot 84)]⟩, ⟨[], [2], [4], [(.slot 85)]⟩, ⟨[], [3, 1], [5], [.cell 2 0, .cell 2 1, .cell 2 2, .cell 2 3, .cell 2 4, .cell 2 5, .cell 2 6]⟩, ⟨[], [4], [6], [(.slot 3)]⟩, ⟨[], [], [7], [(.slot 4)]⟩]) (es' := [(2, .box 24 [.v (.int .i64 v3.Number), .fl (.own 5) 1 (List.map (Value.int .u8) v3.Data), .v (.bool s39), .v (.int .i64 s40), .v (.int .i64 s41), .v (.int .i64 s42), .v (.bool v3.Over)]), (3, .fr (.own 26) false 5 (List.flatten (List.map T_Frame.ienc s43))), (4, .v (.int .i64 0))]) (by kernel_rfl) rfl rfl
     ⟨st_plain rfl (op_loadA_take _ _ _ _ Try.underlying24 rfl sz24 rfl rfl),
     st_plain rfl (op_move_take _ _ _ _ rfl),
     st_plain rfl (op_store_take _ _ _ _ _ _ _ _ sz24 rfl rfl rfl (Nat.le_of_ble_eq_true rfl) rfl rfl),
     st_plain rfl (op_assign_take _ _ _ _ rfl),
     st_plain rfl (op_assign _ _ _ _ rfl rfl),
     trivial⟩ ?_
    refine pt_then ?_
    refine ht_ret ?_
    obtain rfl := Option.some.inj h
    exact pt_ret hio rfl (.cellA _ _ _ _ Try.underlying24 rfl sz24 (.tmp _ _ (.tmp _ _ .nil))) rfl rfl
   ·intro u44 h hl45 hr46
    refine ht_block ?_
    refine ht_seq ?_
    refine ht_seqR hn (El := [_, _, _, _, (24, .ptr 1 6), (25, .v (.bool v3.Over)), (23, .v (.bool v3.Over))]) (init := [0, 1, 2, 3]) (fin := [0, 1, 2, 3, 6]) (sps := [⟨[0], [], [4], [(.slot 24)]⟩, ⟨[4, 0], [], [5], [(.slot 25)]⟩, ⟨[5], [], [6], [(.slot 23)]⟩]) (es' := [(_, _), (_, _), (_, _), (_, _), (23, .v (.bool v3.Over))]) (by kernel_rfl) rfl rfl
     ⟨st_plain rfl (op_fieldAddr _ _ _ _ 1 0 _ Try.underlying24 rfl sz4 rfl rfl (by decide)),
     st_plain rfl (op_load _ _ _ _ _ _ Try.underlying4 rfl rfl rfl (Nat.le_of_ble_eq_true rfl) rfl rfl rfl),
     st_plain rfl (op_assign _ _ _ _ rfl rfl),
     trivial⟩ ?_
    refine pt_then ?_
    refine ht_cond _ rfl (fun hb47 => ?_) (fun hb47 => ?_)
    ·have h := cond_t hb47 h
     refine ht_skip ?_
     refine pt_inb ?_
     refine pt_pick [0, 1, 3] (by kernel_rfl) (es' := [(_, _), (_, _), (_, _)]) rfl ?_
     refine pt_sub (fs := [(1, .box 24 [.v (.int .i64 v3.Number), .fl (.own 5) 1 (List.map (Value.int .u8) v3.Data), .v (.bool v3.Ready), .v (.int .i64 v3.Base), .v (.int .i64 v3.Next), .v (.int .i64 v3.Wait), .v (.bool v3.Over)]), (2, .box 24 [.v (.int .i64 0), .v (.slice none 0 0), .v (.bool false), .v (.int .i64 0), .v (.int .i64 0), .v (.int .i64 0), .v (.bool false)]), (7, .fr (.own 26) false 5 (List.flatten (List.map T_Frame.ienc [])))]) (.same _ (.same _ (.sub _ (sub_nil_fr 26 false 5) rfl .nil))) ?_
     exact hl45 _ (Option.some.inj h).symm
    ·have h := cond_f hb47 h
     refine ht_seq ?_
     refine ht_joinS h (fun (s48 : Bool) => [(1, .box 24 [.v (.int .i64 v3.Number), .fl (.own 5) 1 (List.map (Value.int .u8) v3.Data), .v (.bool v3.Ready), .v (.int .i64 v3.Base), .v (.int .i64 v3.Next), .v (.int .i64 v3.Wait), .v (.bool v3.Over)]), (2, .box 24 [.v (.int .i64 0), .v (.slice none 0 0), .v (.bool false), .v (.int .i64 0), .v (.int .i64 0), .v (.int .i64 0), .v (.bool false)]), (6, .v (.int .i64 v4)), (7, .v (.slice none 0 0)), (26, .v (.bool s48))]) ?_ ?_
     ·rintro s48 h
      refine pt_then ?_
      refine ht_cond _ rfl (fun hb52 => ?_) (fun hb52 => ?_)
      ·have h := cond_t hb52 h
       refine ht_seq ?_
       refine ht_seq ?_
       refine ht_seqR hn (El := [_, _, _, _, _, (37, .ptr 1 5), (38, .v (.int .i64 v3.Wait)), (39, .v (.bool ((decide (0 < v3.Wait)))))]) (init := [0, 1, 2, 3, 4]) (fin := [0, 1, 3, 7]) (sps := [⟨[0], [], [5], [(.slot 37)]⟩, ⟨[5, 0], [], [6], [(.slot 38)]⟩, ⟨[6], [], [7], [(.slot 39)]⟩]) (es' := [(_, _), (_, _), (_, _), (39, .v (.bool ((decide (0 < v3.Wait)))))]) (by kernel_rfl) rfl rfl
        ⟨st_plain rfl (op_fieldAddr _ _ _ _ 1 0 _ Try.underlying24 rfl sz3 rfl rfl (by decide)),
        st_plain rfl (op_load _ _ _ _ _ _ Try.underlying3 rfl rfl rfl (Nat.le_of_ble_eq_true rfl) rfl rfl rfl),
        st_plain rfl (op_bin _ _ _ _ _ rfl rfl rfl),
        trivial⟩ ?_
       refine pt_then ?_
       refine ht_cond _ rfl (fun hb53 => ?_) (fun hb53 => ?_)
       ·have h := cond_t hb53 h
        refine ht_seq ?_
        obtain ⟨v13, hv13, h⟩ := bind_some h
        refine ht_seqR hn (El := [_, _, _, _, (40, .ptr 1 5), (41, .v (.int .i64 v3.Wait)), (42, .v (.int .i64 v13)), (43, .ptr 1 5), (1, .box 24 [.v (.int .i64 v3.Number), .fl (.own 5) 1 (List.map (Value.int .u8) v3.Data), .v (.bool v3.Ready), .v (.int .i64 v3.Base), .v (.int .i64 v3.Next), .v (.int .i64 v13), .v (.bool v3.Over)])]) (init := [0, 1, 2, 3]) (fin := [8, 1, 2]) (sps := [⟨[0], [], [4], [(.slot 40)]⟩, ⟨[4, 0], [], [5], [(.slot 41)]⟩, ⟨[5], [], [6], [(.slot 42)]⟩, ⟨[0], [], [7], [(.slot 43)]⟩, ⟨[7, 6], [0], [8], [.cell 1 5]⟩]) (es' := [(1, .box 24 [.v (.int .i64 v3.Number), .fl (.own 5) 1 (List.map (Value.int .u8) v3.Data), .v (.bool v3.Ready), .v (.int .i64 v3.Base), .v (.int .i64 v3.Next), .v (.int .i64 v13), .v (.bool v3.Over)]), (_, _), (_, _)]) (by kernel_rfl) rfl rfl
         ⟨st_plain rfl (op_fieldAddr _ _ _ _ 1 0 _ Try.underlying24 rfl sz3 rfl rfl (by decide)),
         st_plain rfl (op_load _ _ _ _ _ _ Try.underlying3 rfl rfl rfl (Nat.le_of_ble_eq_true rfl) rfl rfl rfl),
         st_plain rfl (op_bin _ _ _ _ _ rfl rfl (ibind (f := Value.int .i64) (Option.some.inj hv13))),
         st_plain rfl (op_fieldAddr _ _ _ _ 1 0 _ Try.underlying24 rfl sz3 rfl rfl (by decide)),
         st_plain rfl (op_store _ _ _ _ _ _ _ _ sz3 rfl rfl rfl rfl (Nat.le_of_ble_eq_true rfl) rfl rfl),
         trivial⟩ ?_
        refine pt_then ?_
        refine ht_exit ?_
        refine pt_x_then ?_
        refine pt_x_in ?_
        refine pt_sub (fs := [(1, .box 24 [.v (.int .i64 v3.Number), .fl (.own 5) 1 (List.map (Value.int .u8) v3.Data), .v (.bool v3.Ready), .v (.int .i64 v3.Base), .v (.int .i64 v3.Next), .v (.int .i64 v13), .v (.bool v3.Over)]), (2, .box 24 [.v (.int .i64 0), .v (.slice none 0 0), .v (.bool false), .v (.int .i64 0), .v (.int .i64 0), .v (.int .i64 0), .v (.bool false)]), (7, .fr (.own 26) false 5 (List.flatten (List.map T_Frame.ienc [])))]) (.same _ (.same _ (.sub _ (sub_nil_fr 26 false 5) rfl .nil))) ?_
        exact hl45 _ (Option.some.inj h).symm
       ·have h := cond_f hb53 h
        refine ht_skip ?_
        refine pt_then ?_
        refine ht_seq ?_
        obtain ⟨v14, hv14, h⟩ := bind_some h
        obtain ⟨v15, hv15, h⟩ := bind_some h
        refine ht_seqR hn (El := [_, _, _, _, (44, .v (.slice none 0 0)), (45, .agg [.v (.int .i64 v3.Number), .same (.cell 1 1), .v (.bool v3.Ready), .v (.int .i64 v3.Base), .v (.int .i64 v3.Next), .v (.int .i64 v3.Wait), .v (.bool v3.Over)]), (46, .agg [.v (.int .i64 v14.Kind), .v (.int .i64 v14.Number), .v (.int .i64 v14.Offset), .v (.int .i64 v14.Seq), .fl (.own 5) 1 (List.map (Value.int .u8) v14.Data)]), (47, .fr (.own 26) false 5 (List.flatten (List.map T_Frame.ienc [v14]))), (48, .fr (.own 26) false 5 (List.flatten (List.map T_Frame.ienc v15))), (7, .fr (.own 26) false 5 (List.flatten (List.map T_Frame.ienc v15)))]) (init := [0, 1, 2, 3]) (fin := [0, 1, 9]) (sps := [⟨[2], [], [4], [(.slot 44)]⟩, ⟨[0], [], [5], [(.slot 45)]⟩, ⟨[5, 0], [], [6], [(.slot 46)]⟩, ⟨[], [6], [7], [(.slot 47)]⟩, ⟨[4, 7], [], [8], [(.slot 48)]⟩, ⟨[], [2, 8], [9], [(.slot 7)]⟩]) (es' := [(_, _), (_, _), (7, .fr (.own 26) false 5 (List.flatten (List.map T_Frame.ienc v15)))]) (by kernel_rfl) rfl rfl
         ⟨st_plain rfl (op_move _ _ _ _ rfl rfl),
         st_plain rfl (op_loadA _ _ _ _ _ _ _ Try.underlying24 rfl sz24 rfl rfl (Nat.le_of_ble_eq_true rfl) rfl rfl),
         st_plain rfl (op_call _ _ 34 _ _ rfl Try.call34 rfl (ok_sender_hello v3 _ hv14) rfl rfl),
         st_plain rfl (op_build1_fr_take _ _ _ 5 (.agg #[.int .i64 0, .int .i64 0, .int .i64 0, .int .i64 0, .slice none 0 0]) false _ _ Try.underlying31 sz26 zr26 rfl (.cons (.v _) (.cons (.v _) (.cons (.v _) (.cons (.v _) (.cons (.ro _ _ rfl) (.nil)))))) rfl (by decide) (by decide)),
         st_plain rfl (op_app_nil_fr _ _ _ _ el31 rfl rfl (gflat_len T_Frame.ilen _) hv15 (congrArg (fun l => List.flatten (List.map _ l)) (app_nil_eq hv15))),
         st_plain rfl (LOp.drop [_] (op_assign_take _ _ _ _ rfl)),
         trivial⟩ ?_
        refine pt_then ?_
        refine ht_seqR hn (El := [_, _, _, (49, .ptr 1 5), (1, .box 24 [.v (.int .i64 v3.Number), .fl (.own 5) 1 (List.map (Value.int .u8) v3.Data), .v (.bool v3.Ready), .v (.int .i64 v3.Base), .v (.int .i64 v3.Next), .v (.int .i64 3), .v (.bool v3.Over)])]) (init := [0, 1, 2]) (fin := [4, 1, 2]) (sps := [⟨[0], [], [3], [(.slot 49)]⟩, ⟨[3], [0], [4], [.cell 1 5]⟩]) (es' := [(1, .box 24 [.v (.int .i64 v3.Number), .fl (.own 5) 1 (List.map (Value.int .u8) v3.Data), .v (.bool v3.Ready), .v (.int .i64 v3.Base), .v (.int .i64 v3.Next), .v (.int .i64 3), .v (.bool v3.Over)]), (_, _), (_, _)]) (by kernel_rfl) rfl rfl
         ⟨st_plain rfl (op_fieldAddr _ _ _ _ 1 0 _ Try.underlying24 rfl sz3 rfl rfl (by decide)),
         st_plain rfl (op_store _ _ _ _ _ _ _ _ sz3 rfl rfl rfl rfl (Nat.le_of_ble_eq_true rfl) rfl rfl),
         trivial⟩ ?_
        refine pt_inb ?_
        exact hl45 _ (Option.some.inj h).symm
      ·have h := cond_f hb52 h
       refine ht_seq ?_
       refine ht_seqR hn (El := [_, _, _, _, _, (51, .ptr 1 4), (52, .v (.int .i64 v3.Next)), (53, .v (.int .i64 v4)), (54, .v (.bool ((decide (v3.Next < v4))))), (50, .v (.bool ((decide (v3.Next < v4)))))]) (init := [0, 1, 2, 3, 4]) (fin := [0, 1, 2, 3, 9]) (sps := [⟨[0], [], [5], [(.slot 51)]⟩, ⟨[5, 0], [], [6], [(.slot 52)]⟩, ⟨[2], [], [7], [(.slot 53)]⟩, ⟨[6, 7], [], [8], [(.slot 54)]⟩, ⟨[8], [], [9], [(.slot 50)]⟩]) (es' := [(_, _), (_, _), (_, _), (_, _), (50, .v (.bool ((decide (v3.Next < v4)))))]) (by kernel_rfl) rfl rfl
        ⟨st_plain rfl (op_fieldAddr _ _ _ _ 1 0 _ Try.underlying24 rfl sz3 rfl rfl (by decide)),
        st_plain rfl (op_load _ _ _ _ _ _ Try.underlying3 rfl rfl rfl (Nat.le_of_ble_eq_true rfl) rfl rfl rfl),
        st_plain rfl (op_move _ _ _ _ rfl rfl),
        st_plain rfl (op_bin _ _ _ _ _ rfl rfl rfl),
        st_plain rfl (op_assign _ _ _ _ rfl rfl),
        trivial⟩ ?_
       refine pt_then ?_
       refine ht_cond _ rfl (fun hb54 => ?_) (fun hb54 => ?_)
       ·have h := cond_t hb54 h
        refine ht_seq ?_
        refine ht_seq ?_
        refine ht_seqR hn (El := [_, _, _, _, _, (55, .ptr 1 4), (56, .v (.int .i64 v3.Next)), (8, .v (.int .i64 v3.Next))]) (init := [0, 1, 2, 3, 4]) (fin := [0, 1, 2, 3, 7]) (sps := [⟨[0], [], [5], [(.slot 55)]⟩, ⟨[5, 0], [], [6], [(.slot 56)]⟩, ⟨[6], [], [7], [(.slot 8)]⟩]) (es' := [(_, _), (_, _), (_, _), (_, _), (8, .v (.int .i64 v3.Next))]) (by kernel_rfl) rfl rfl
         ⟨st_plain rfl (op_fieldAddr _ _ _ _ 1 0 _ Try.underlying24 rfl sz3 rfl rfl (by decide)),
         st_plain rfl (op_load _ _ _ _ _ _ Try.underlying3 rfl rfl rfl (Nat.le_of_ble_eq_true rfl) rfl rfl rfl),
         st_plain rfl (op_assign _ _ _ _ rfl rfl),
         trivial⟩ ?_
        refine pt_then ?_
        refine ht_sub (fs := [(1, .box 24 [.v (.int .i64 v3.Number), .fl (.own 5) 1 (List.map (Value.int .u8) v3.Data), .v (.bool v3.Ready), .v (.int .i64 v3.Base), .v (.int .i64 v3.Next), .v (.int .i64 v3.Wait), .v (.bool v3.Over)]), (2, .box 24 [.v (.int .i64 0), .v (.slice none 0 0), .v (.bool false), .v (.int .i64 0), .v (.int .i64 0), .v (.int .i64 0), .v (.bool false)]), (6, .v (.int .i64 v4)), (7, .fr (.own 26) false 5 (List.flatten (List.map T_Frame.ienc []))), (8, .v (.int .i64 v3.Next))]) (.same _ (.same _ (.same _ (.sub _ (sub_nil_fr 26 false 5) rfl (.same _ .nil))))) ?_
        refine ht_loopS h (fun ((s59, s60) : (List T_Frame) × Int) => [(1, .box 24 [.v (.int .i64 v3.Number), .fl (.own 5) 1 (List.map (Value.int .u8) v3.Data), .v (.bool v3.Ready), .v (.int .i64 v3.Base), .v (.int .i64 v3.Next), .v (.int .i64 v3.Wait), .v (.bool v3.Over)]), (2, .box 24 [.v (.int .i64 0), .v (.slice none 0 0), .v (.bool false), .v (.int .i64 0), .v (.int .i64 0), .v (.int .i64 0), .v (.bool false)]), (6, .v (.int .i64 v4)), (7, .fr (.own 26) false 5 (List.flatten (List.map T_Frame.ienc s59))), (8, .v (.int .i64 s60))]) (fun (s62 : (List T_Frame)) => [(1, .box 24 [.v (.int .i64 v3.Number), .fl (.own 5) 1 (List.map (Value.int .u8) v3.Data), .v (.bool v3.Ready), .v (.int .i64 v3.Base), .v (.int .i64 v3.Next), .v (.int .i64 v3.Wait), .v (.bool v3.Over)]), (2, .box 24 [.v (.int .i64 0), .v (.slice none 0 0), .v (.bool false), .v (.int .i64 0), .v (.int .i64 0), .v (.int .i64 0), .v (.bool false)]), (6, .v (.int .i64 v4)), (7, .fr (.own 26) false 5 (List.flatten (List.map T_Frame.ienc s62)))]) ?_ ?_
        ·rintro s62 h
         refine pt_then ?_
         refine ht_seq ?_
         refine ht_seqR hn (El := [_, _, _, _, (68, .v (.int .i64 v4)), (69, .ptr 1 4), (1, .box 24 [.v (.int .i64 v3.Number), .fl (.own 5) 1 (List.map (Value.int .u8) v3.Data), .v (.bool v3.Ready), .v (.int .i64 v3.Base), .v (.int .i64 v4), .v (.int .i64 v3.Wait), .v (.bool v3.Over)])]) (init := [0, 1, 2, 3]) (fin := [6, 1, 3]) (sps := [⟨[2], [], [4], [(.slot 68)]⟩, ⟨[0], [], [5], [(.slot 69)]⟩, ⟨[5, 4], [0], [6], [.cell 1 4]⟩]) (es' := [(1, .box 24 [.v (.int .i64 v3.Number), .fl (.own 5) 1 (List.map (Value.int .u8) v3.Data), .v (.bool v3.Ready), .v (.int .i64 v3.Base), .v (.int .i64 v4), .v (.int .i64 v3.Wait), .v (.bool v3.Over)]), (_, _), (_, _)]) (by kernel_rfl) rfl rfl
          ⟨st_plain rfl (op_move _ _ _ _ rfl rfl),
          st_plain rfl (op_fieldAddr _ _ _ _ 1 0 _ Try.underlying24 rfl sz3 rfl rfl (by decide)),
          st_plain rfl (op_store _ _ _ _ _ _ _ _ sz3 rfl rfl rfl rfl (Nat.le_of_ble_eq_true rfl) rfl rfl),
          trivial⟩ ?_
         refine pt_then ?_
         refine ht_seqR hn (El := [_, _, _, (70, .ptr 1 5), (1, .box 24 [.v (.int .i64 v3.Number), .fl (.own 5) 1 (List.map (Value.int .u8) v3.Data), .v (.bool v3.Ready), .v (.int .i64 v3.Base), .v (.int .i64 v4), .v (.int .i64 3), .v (.bool v3.Over)])]) (init := [0, 1, 2]) (fin := [4, 1, 2]) (sps := [⟨[0], [], [3], [(.slot 70)]⟩, ⟨[3], [0], [4], [.cell 1 5]⟩]) (es' := [(1, .box 24 [.v (.int .i64 v3.Number), .fl (.own 5) 1 (List.map (Value.int .u8) v3.Data), .v (.bool v3.Ready), .v (.int .i64 v3.Base), .v (.int .i64 v4), .v (.int .i64 3), .v (.bool v3.Over)]), (_, _), (_, _)]) (by kernel_rfl) rfl rfl
          ⟨st_plain rfl (op_fieldAddr _ _ _ _ 1 0 _ Try.underlying24 rfl sz3 rfl rfl (by decide)),
          st_plain rfl (op_store _ _ _ _ _ _ _ _ sz3 rfl rfl rfl rfl (Nat.le_of_ble_eq_true rfl) rfl rfl),
          trivial⟩ ?_
         refine pt_inb ?_
         exact hl45 _ (Option.some.inj h).symm
        ·rintro u63 hl64 hr65 ⟨s59, s60⟩ rr68 h ho66
         refine ht_seq ?_
         refine ht_seq ?_
         refine ht_seqR hn (El := [_, _, _, _, _, (57, .v (.int .i64 s60)), (58, .v (.int .i64 v4)), (59, .v (.bool ((decide (s60 < v4)))))]) (init := [0, 1, 2, 3, 4]) (fin := [0, 1, 2, 3, 4, 7]) (sps := [⟨[4], [], [5], [(.slot 57)]⟩, ⟨[2], [], [6], [(.slot 58)]⟩, ⟨[5, 6], [], [7], [(.slot 59)]⟩]) (es' := [(_, _), (_, _), (_, _), (_, _), (_, _), (59, .v (.bool ((decide (s60 < v4)))))]) (by kernel_rfl) rfl rfl
          ⟨st_plain rfl (op_move _ _ _ _ rfl rfl),
          st_plain rfl (op_move _ _ _ _ rfl rfl),
          st_plain rfl (op_bin _ _ _ _ _ rfl rfl rfl),
          trivial⟩ ?_
         refine pt_then ?_
         refine ht_cond _ rfl (fun hb69 => ?_) (fun hb69 => ?_)
         ·have h := cond_t hb69 h
          refine ht_skip ?_
          refine pt_then ?_
          refine ht_seq ?_
          refine ht_block ?_
          obtain ⟨v18, hv18, h⟩ := bind_some h
          obtain ⟨v19, hv19, h⟩ := bind_some h
          refine ht_seqR hn (El := [_, _, _, _, _, _, (62, .fr (.own 26) false 5 (List.flatten (List.map T_Frame.ienc s59))), (63, .agg [.v (.int .i64 v3.Number), .same (.cell 1 1), .v (.bool v3.Ready), .v (.int .i64 v3.Base), .v (.int .i64 v3.Next), .v (.int .i64 v3.Wait), .v (.bool v3.Over)]), (64, .v (.int .i64 s60)), (65, .agg [.v (.int .i64 v18.Kind), .v (.int .i64 v18.Number), .v (.int .i64 v18.Offset), .v (.int .i64 v18.Seq), .fl (.own 5) 1 (List.map (Value.int .u8) v18.Data)]), (66, .fr (.own 26) false 5 (List.flatten (List.map T_Frame.ienc [v18]))), (67, .fr (.own 26) false 5 (List.flatten (List.map T_Frame.ienc v19))), (62, .any), (7, .fr (.own 26) false 5 (List.flatten (List.map T_Frame.ienc v19)))]) (init := [0, 1, 2, 3, 4, 5]) (fin := [0, 1, 2, 4, 13]) (sps := [⟨[], [3], [6], [(.slot 62)]⟩, ⟨[0], [], [7], [(.slot 63)]⟩, ⟨[4], [], [8], [(.slot 64)]⟩, ⟨[7, 0, 8], [], [9], [(.slot 65)]⟩, ⟨[], [9], [10], [(.slot 66)]⟩, ⟨[10], [6], [12, 11], [(.slot 67)]⟩, ⟨[], [11], [13], [(.slot 7)]⟩]) (es' := [(_, _), (_, _), (_, _), (_, _), (7, .fr (.own 26) false 5 (List.flatten (List.map T_Frame.ienc v19)))]) (by kernel_rfl) rfl rfl
           ⟨st_plain rfl (op_move_take _ _ _ _ rfl),
           st_plain rfl (op_loadA _ _ _ _ _ _ _ Try.underlying24 rfl sz24 rfl rfl (Nat.le_of_ble_eq_true rfl) rfl rfl),
           st_plain rfl (op_move _ _ _ _ rfl rfl),
           st_plain rfl (op_call _ _ 35 _ _ rfl Try.call35 rfl (ok_sender_piece v3 s60 _ hv18) rfl rfl),
           st_plain rfl (op_build1_fr_take _ _ _ 5 (.agg #[.int .i64 0, .int .i64 0, .int .i64 0, .int .i64 0, .slice none 0 0]) false _ _ Try.underlying31 sz26 zr26 rfl (.cons (.v _) (.cons (.v _) (.cons (.v _) (.cons (.v _) (.cons (.ro _ _ rfl) (.nil)))))) rfl (by decide) (by decide)),
           st_plain rfl (op_app_fr _ _ _ _ _ el31 rfl rfl (gflat_len T_Frame.ilen _) (gflat_len T_Frame.ilen _) hv19 (gflat_app (app_eq hv19)) (by decide) (by decide)),
           st_plain rfl (op_assign_take _ _ _ _ rfl),
           trivial⟩ ?_
          refine pt_inb ?_
          refine pt_then ?_
          obtain ⟨v20, hv20, h⟩ := bind_some h
          refine ht_seqR hn (El := [_, _, _, _, _, (60, .v (.int .i64 s60)), (61, .v (.int .i64 v20)), (8, .v (.int .i64 v20))]) (init := [0, 1, 2, 3, 4]) (fin := [0, 1, 2, 4, 7]) (sps := [⟨[3], [], [5], [(.slot 60)]⟩, ⟨[5], [], [6], [(.slot 61)]⟩, ⟨[6], [3], [7], [(.slot 8)]⟩]) (es' := [(_, _), (_, _), (_, _), (_, _), (8, .v (.int .i64 v20))]) (by kernel_rfl) rfl rfl
           ⟨st_plain rfl (op_move _ _ _ _ rfl rfl),
           st_plain rfl (op_bin _ _ _ _ _ rfl rfl (ibind (f := Value.int .i64) (Option.some.inj hv20))),
           st_plain rfl (LOp.drop [_] (op_assign _ _ _ _ rfl rfl)),
           trivial⟩ ?_
          exact pt_next _ (Option.some.inj h).symm rfl
         ·have h := cond_f hb69 h
          refine ht_exit ?_
          refine pt_x_then ?_
          refine pt_x_then ?_
          refine pt_x_in ?_
          refine pt_pick [0, 1, 2, 3] (by kernel_rfl) (es' := [(_, _), (_, _), (_, _), (_, _)]) rfl ?_
          exact hl64 _ (ho66 _ (Option.some.inj h).symm).symm
       ·have h := cond_f hb54 h
        refine ht_seq ?_
        refine ht_seqR hn (El := [_, _, _, _, _, (72, .ptr 1 5), (73, .v (.int .i64 v3.Wait)), (74, .v (.bool (v3.Wait == 0))), (71, .v (.bool (v3.Wait == 0)))]) (init := [0, 1, 2, 3, 4]) (fin := [0, 1, 3, 8]) (sps := [⟨[0], [], [5], [(.slot 72)]⟩, ⟨[5, 0], [], [6], [(.slot 73)]⟩, ⟨[6], [], [7], [(.slot 74)]⟩, ⟨[7], [], [8], [(.slot 71)]⟩]) (es' := [(_, _), (_, _), (_, _), (71, .v (.bool (v3.Wait == 0)))]) (by kernel_rfl) rfl rfl
         ⟨st_plain rfl (op_fieldAddr _ _ _ _ 1 0 _ Try.underlying24 rfl sz3 rfl rfl (by decide)),
         st_plain rfl (op_load _ _ _ _ _ _ Try.underlying3 rfl rfl rfl (Nat.le_of_ble_eq_true rfl) rfl rfl rfl),
         st_plain rfl (op_bin _ _ _ _ _ rfl rfl rfl),
         st_plain rfl (op_assign _ _ _ _ rfl rfl),
         trivial⟩ ?_
        refine pt_then ?_
        refine ht_cond _ rfl (fun hb70 => ?_) (fun hb70 => ?_)
        ·have h := cond_t hb70 h
         refine ht_seq ?_
         obtain ⟨v36, hv36, h⟩ := bind_some h
         obtain ⟨v37, hv37, h⟩ := bind_some h
         refine ht_seqR hn (El := [_, _, _, _, (75, .v (.slice none 0 0)), (76, .agg [.v (.int .i64 v3.Number), .same (.cell 1 1), .v (.bool v3.Ready), .v (.int .i64 v3.Base), .v (.int .i64 v3.Next), .v (.int .i64 v3.Wait), .v (.bool v3.Over)]), (77, .agg [.v (.int .i64 v36.Kind), .v (.int .i64 v36.Number), .v (.int .i64 v36.Offset), .v (.int .i64 v36.Seq), .fl (.own 5) 1 (List.map (Value.int .u8) v36.Data)]), (78, .fr (.own 26) false 5 (List.flatten (List.map T_Frame.ienc [v36]))), (79, .fr (.own 26) false 5 (List.flatten (List.map T_Frame.ienc v37))), (7, .fr (.own 26) false 5 (List.flatten (List.map T_Frame.ienc v37)))]) (init := [0, 1, 2, 3]) (fin := [0, 1, 9]) (sps := [⟨[2], [], [4], [(.slot 75)]⟩, ⟨[0], [], [5], [(.slot 76)]⟩, ⟨[5, 0], [], [6], [(.slot 77)]⟩, ⟨[], [6], [7], [(.slot 78)]⟩, ⟨[4, 7], [], [8], [(.slot 79)]⟩, ⟨[], [2, 8], [9], [(.slot 7)]⟩]) (es' := [(_, _), (_, _), (7, .fr (.own 26) false 5 (List.flatten (List.map T_Frame.ienc v37)))]) (by kernel_rfl) rfl rfl
          ⟨st_plain rfl (op_move _ _ _ _ rfl rfl),
          st_plain rfl (op_loadA _ _ _ _ _ _ _ Try.underlying24 rfl sz24 rfl rfl (Nat.le_of_ble_eq_true rfl) rfl rfl),
          st_plain rfl (op_call _ _ 34 _ _ rfl Try.call34 rfl (ok_sender_hello v3 _ hv36) rfl rfl),
          st_plain rfl (op_build1_fr_take _ _ _ 5 (.agg #[.int .i64 0, .int .i64 0, .int .i64 0, .int .i64 0, .slice none 0 0]) false _ _ Try.underlying31 sz26 zr26 rfl (.cons (.v _) (.cons (.v _) (.cons (.v _) (.cons (.v _) (.cons (.ro _ _ rfl) (.nil)))))) rfl (by decide) (by decide)),
          st_plain rfl (op_app_nil_fr _ _ _ _ el31 rfl rfl (gflat_len T_Frame.ilen _) hv37 (congrArg (fun l => List.flatten (List.map _ l)) (app_nil_eq hv37))),
          st_plain rfl (LOp.drop [_] (op_assign_take _ _ _ _ rfl)),
          trivial⟩ ?_
         refine pt_then ?_
         refine ht_seqR hn (El := [_, _, _, (80, .ptr 1 2), (1, .box 24 [.v (.int .i64 v3.Number), .fl (.own 5) 1 (List.map (Value.int .u8) v3.Data), .v (.bool false), .v (.int .i64 v3.Base), .v (.int .i64 v3.Next), .v (.int .i64 v3.Wait), .v (.bool v3.Over)]), (81, .ptr 1 3), (1, .box 24 [.v (.int .i64 v3.Number), .fl (.own 5) 1 (List.map (Value.int .u8) v3.Data), .v (.bool false), .v (.int .i64 0), .v (.int .i64 v3.Next), .v (.int .i64 v3.Wait), .v (.bool v3.Over)]), (82, .ptr 1 4), (1, .box 24 [.v (.int .i64 v3.Number), .fl (.own 5) 1 (List.map (Value.int .u8) v3.Data), .v (.bool false), .v (.int .i64 0), .v (.int .i64 0), .v (.int .i64 v3.Wait), .v (.bool v3.Over)]), (83, .ptr 1 5), (1, .box 24 [.v (.int .i64 v3.Number), .fl (.own 5) 1 (List.map (Value.int .u8) v3.Data), .v (.bool false), .v (.int .i64 0), .v (.int .i64 0), .v (.int .i64 3), .v (.bool v3.Over)])]) (init := [0, 1, 2]) (fin := [10, 1, 2]) (sps := [⟨[0], [], [3], [(.slot 80)]⟩, ⟨[3], [0], [4], [.cell 1 2]⟩, ⟨[4], [], [5], [(.slot 81)]⟩, ⟨[5], [4], [6], [.cell 1 3]⟩, ⟨[6], [], [7], [(.slot 82)]⟩, ⟨[7], [6], [8], [.cell 1 4]⟩, ⟨[8], [], [9], [(.slot 83)]⟩, ⟨[9], [8], [10], [.cell 1 5]⟩]) (es' := [(1, .box 24 [.v (.int .i64 v3.Number), .fl (.own 5) 1 (List.map (Value.int .u8) v3.Data), .v (.bool false), .v (.int .i64 0), .v (.int .i64 0), .v (.int .i64 3), .v (.bool v3.Over)]), (_, _), (_, _)]) (by kernel_rfl) rfl rfl
          ⟨st_plain rfl (op_fieldAddr _ _ _ _ 1 0 _ Try.underlying24 rfl sz4 rfl rfl (by decide)),
          st_plain rfl (op_store _ _ _ _ _ _ _ _ sz4 rfl rfl rfl rfl (Nat.le_of_ble_eq_true rfl) rfl rfl),
          st_plain rfl (op_fieldAddr _ _ _ _ 1 0 _ Try.underlying24 rfl sz3 rfl rfl (by decide)),
          st_plain rfl (op_store _ _ _ _ _ _ _ _ sz3 rfl rfl rfl rfl (Nat.le_of_ble_eq_true rfl) rfl rfl),
          st_plain rfl (op_fieldAddr _ _ _ _ 1 0 _ Try.underlying24 rfl sz3 rfl rfl (by decide)),
          st_plain rfl (op_store _ _ _ _ _ _ _ _ sz3 rfl rfl rfl rfl (Nat.le_of_ble_eq_true rfl) rfl rfl),
          st_plain rfl (op_fieldAddr _ _ _ _ 1 0 _ Try.underlying24 rfl sz3 rfl rfl (by decide)),
          st_plain rfl (op_store _ _ _ _ _ _ _ _ sz3 rfl rfl rfl rfl (Nat.le_of_ble_eq_true rfl) rfl rfl),
          trivial⟩ ?_
         refine pt_inb ?_
         exact hl45 _ (Option.some.inj h).symm
        ·have h := cond_f hb70 h
         obtain ⟨v38, hv38, h⟩ := bind_some h
         refine ht_seqR hn (El := [_, _, _, _, (19, .ptr 1 5), (20, .v (.int .i64 v3.Wait)), (21, .v (.int .i64 v38)), (22, .ptr 1 5), (1, .box 24 [.v (.int .i64 v3.Number), .fl (.own 5) 1 (List.map (Value.int .u8) v3.Data), .v (.bool v3.Ready), .v (.int .i64 v3.Base), .v (.int .i64 v3.Next), .v (.int .i64 v38), .v (.bool v3.Over)])]) (init := [0, 1, 2, 3]) (fin := [8, 1, 2]) (sps := [⟨[0], [], [4], [(.slot 19)]⟩, ⟨[4, 0], [], [5], [(.slot 20)]⟩, ⟨[5], [], [6], [(.slot 21)]⟩, ⟨[0], [], [7], [(.slot 22)]⟩, ⟨[7, 6], [0], [8], [.cell 1 5]⟩]) (es' := [(1, .box 24 [.v (.int .i64 v3.Number), .fl (.own 5) 1 (List.map (Value.int .u8) v3.Data), .v (.bool v3.Ready), .v (.int .i64 v3.Base), .v (.int .i64 v3.Next), .v (.int .i64 v38), .v (.bool v3.Over)]), (_, _), (_, _)]) (by kernel_rfl) rfl rfl
          ⟨st_plain rfl (op_fieldAddr _ _ _ _ 1 0 _ Try.underlying24 rfl sz3 rfl rfl (by decide)),
          st_plain rfl (op_load _ _ _ _ _ _ Try.underlying3 rfl rfl rfl (Nat.le_of_ble_eq_true rfl) rfl rfl rfl),
          st_plain rfl (op_bin _ _ _ _ _ rfl rfl (ibind (f := Value.int .i64) (Option.some.inj hv38))),
          st_plain rfl (op_fieldAddr _ _ _ _ 1 0 _ Try.underlying24 rfl sz3 rfl rfl (by decide)),
          st_plain rfl (op_store _ _ _ _ _ _ _ _ sz3 rfl rfl rfl rfl (Nat.le_of_ble_eq_true rfl) rfl rfl),
          trivial⟩ ?_
         refine pt_inb ?_
         refine pt_sub (fs := [(1, .box 24 [.v (.int .i64 v3.Number), .fl (.own 5) 1 (List.map (Value.int .u8) v3.Data), .v (.bool v3.Ready), .v (.int .i64 v3.Base), .v (.int .i64 v3.Next), .v (.int .i64 v38), .v (.bool v3.Over)]), (2, .box 24 [.v (.int .i64 0), .v (.slice none 0 0), .v (.bool false), .v (.int .i64 0), .v (.int .i64 0), .v (.int .i64 0), .v (.bool false)]), (7, .fr (.own 26) false 5 (List.flatten (List.map T_Frame.ienc [])))]) (.same _ (.same _ (.sub _ (sub_nil_fr 26 false 5) rfl .nil))) ?_
         exact hl45 _ (Option.some.inj h).symm
     ·intro u49 h hl50 hr51
      refine cond_some h (fun hg9_3 h => ?_) (fun hg9_3 h => ?_)
      ·refine ht_anyR (by kernel_rfl) hn (El := (_ :: _ :: _ :: _ :: _ :: (27, .ptr 1 2) :: (28, .v (.bool v3.Ready)) :: (29, .v (.bool (!v3.Ready))) :: (30, .v (.bool true)) :: (31, .v undef) :: (32, .v undef) :: (33, .v undef) :: (34, .v undef) :: (35, .v undef) :: (36, .v (.bool true)) :: (26, .v (.bool true)) :: [])) (init := [0, 1, 2, 3, 4]) (fin := [0, 1, 2, 3, 15]) (sps := [⟨[0], [], [5], [(.slot 27)]⟩, ⟨[5, 0], [], [6], [(.slot 28)]⟩, ⟨[6], [], [7], [(.slot 29)]⟩, ⟨[7], [], [8], [(.slot 30)]⟩, ⟨[8], [], [9], [(.slot 31)]⟩, ⟨[8], [], [10], [(.slot 32)]⟩, ⟨[8], [], [11], [(.slot 33)]⟩, ⟨[8], [], [12], [(.slot 34)]⟩, ⟨[8], [], [13], [(.slot 35)]⟩, ⟨[8], [], [14], [(.slot 36)]⟩, ⟨[14], [], [15], [(.slot 26)]⟩]) (es' := [(_, _), (_, _), (_, _), (_, _), (26, .v (.bool true))]) (by kernel_rfl) rfl rfl
        ⟨st_plain rfl (op_fieldAddr _ _ _ _ 1 0 _ Try.underlying24 rfl sz4 rfl rfl (by decide)),
        st_plain rfl (op_load _ _ _ _ _ _ Try.underlying4 rfl rfl rfl (Nat.le_of_ble_eq_true rfl) rfl rfl rfl),
        st_plain rfl (op_un _ _ _ _ rfl rfl),
        st_plain rfl (op_move _ _ _ _ (congrArg (fun b => AV.v (Value.bool b)) hg9_3) rfl),
        st_skip 3 30 _ false rfl rfl rfl rfl (List.Mem.head _),
        st_skip 3 30 _ false rfl rfl rfl rfl (List.Mem.head _),
        st_skip 3 30 _ false rfl rfl rfl rfl (List.Mem.head _),
        st_skip 3 30 _ false rfl rfl rfl rfl (List.Mem.head _),
        st_skip 3 30 _ false rfl rfl rfl rfl (List.Mem.head _),
        st_plain rfl (op_pick _ _ true _ rfl rfl),
        st_plain rfl (op_assign _ _ _ _ rfl rfl),
        trivial⟩ ?_
       exact hl50 _ (Option.some.inj h).symm
      ·obtain ⟨v6, hv6, h⟩ := bind_some h
       refine ht_anyR (by kernel_rfl) hn (El := (_ :: _ :: _ :: _ :: _ :: (27, .ptr 1 2) :: (28, .v (.bool v3.Ready)) :: (29, .v (.bool (!v3.Ready))) :: (30, .v (.bool false)) :: (31, .ptr 1 3) :: (32, .v (.int .i64 v3.Base)) :: (33, .agg [.v (.int .i64 v3.Number), .same (.cell 1 1), .v (.bool v3.Ready), .v (.int .i64 v3.Base), .v (.int .i64 v3.Next), .v (.int .i64 v3.Wait), .v (.bool v3.Over)]) :: (34, .v (.int .i64 v6)) :: (35, .v (.bool (v3.Base == v6))) :: (36, .v (.bool (v3.Base == v6))) :: (26, .v (.bool (v3.Base == v6))) :: [])) (init := [0, 1, 2, 3, 4]) (fin := [0, 1, 2, 3, 15]) (sps := [⟨[0], [], [5], [(.slot 27)]⟩, ⟨[5, 0], [], [6], [(.slot 28)]⟩, ⟨[6], [], [7], [(.slot 29)]⟩, ⟨[7], [], [8], [(.slot 30)]⟩, ⟨[8, 0], [], [9], [(.slot 31)]⟩, ⟨[8, 9, 0], [], [10], [(.slot 32)]⟩, ⟨[8, 0], [], [11], [(.slot 33)]⟩, ⟨[8, 11, 0], [], [12], [(.slot 34)]⟩, ⟨[8, 10, 12], [], [13], [(.slot 35)]⟩, ⟨[8, 13], [], [14], [(.slot 36)]⟩, ⟨[14], [], [15], [(.slot 26)]⟩]) (es' := [(_, _), (_, _), (_, _), (_, _), (26, .v (.bool (v3.Base == v6)))]) (by kernel_rfl) rfl rfl
        ⟨st_plain rfl (op_fieldAddr _ _ _ _ 1 0 _ Try.underlying24 rfl sz4 rfl rfl (by decide)),
        st_plain rfl (op_load _ _ _ _ _ _ Try.underlying4 rfl rfl rfl (Nat.le_of_ble_eq_true rfl) rfl rfl rfl),
        st_plain rfl (op_un _ _ _ _ rfl rfl),
        st_plain rfl (op_move _ _ _ _ (congrArg (fun b => AV.v (Value.bool b)) hg9_3) rfl),
        st_run 3 30 false rfl rfl rfl (List.Mem.head _) (op_fieldAddr _ _ _ _ 1 0 _ Try.underlying24 rfl sz3 rfl rfl (by decide)),
        st_run 3 30 false rfl rfl rfl (List.Mem.head _) (op_load _ _ _ _ _ _ Try.underlying3 rfl rfl rfl (Nat.le_of_ble_eq_true rfl) rfl rfl rfl),
        st_run 3 30 false rfl rfl rfl (List.Mem.head _) (op_loadA _ _ _ _ _ _ _ Try.underlying24 rfl sz24 rfl rfl (Nat.le_of_ble_eq_true rfl) rfl rfl),
        st_run 3 30 false rfl rfl rfl (List.Mem.head _) (op_call _ _ 33 _ _ rfl Try.call33 rfl (ok_sender_pieces v3 _ hv6) rfl rfl),
        st_run 3 30 false rfl rfl rfl (List.Mem.head _) (op_bin _ _ _ _ _ rfl rfl rfl),
        st_plain rfl (op_pick _ _ false _ rfl rfl),
        st_plain rfl (op_assign _ _ _ _ rfl rfl),
        trivial⟩ ?_
       exact hl50 _ (Option.some.inj h).symm

set_option maxHeartbeats 1000000 in
theorem ok_sender_New (number : Int) (data : (List Int)) (r : (T_Send × Int)) (h : Sh.sender_New number data = some r) : FnOK Try.prog 16 [.v (.int .i64 number), .fl .shr 1 (List.map (Value.int .u8) data)] (.tup [.agg [.v (.int .i64 r.1.Number), .fl (.own 5) 1 (List.map (Value.int .u8) r.1.Data), .v (.bool r.1.Ready), .v (.int .i64 r.1.Base), .v (.int .i64 r.1.Next), .v (.int .i64 r.1.Wait), .v (.bool r.1.Over)], .v (.int .i64 r.2)]) := by
  unfold Sh.sender_New at h
  refine fn_ok Try.func16 rfl (Nat.le_of_ble_eq_true rfl) rfl rfl fun g0 hn hio => ?_
  refine ht_seq ?_
  refine ht_seqR hn (El := [_, _, (4, .box 24 [.v (.int .i64 0), .v (.slice none 0 0), .v (.bool false), .v (.int .i64 0), .v (.int .i64 0), .v (.int .i64 0), .v (.bool false)]), (5, .v (.int .i64 0))]) (init := [0, 1]) (fin := [0, 1, 2]) (sps := [⟨[], [], [2], [(.slot 4)]⟩, ⟨[], [], [3], [(.slot 5)]⟩]) (es' := [(_, _), (_, _), (4, .box 24 [.v (.int .i64 0), .v (.slice none 0 0), .v (.bool false), .v (.int .i64 0), .v (.int .i64 0), .v (.int .i64 0), .v (.bool false)])]) (by kernel_rfl) rfl rfl
   ⟨st_plain rfl (op_alloc _ _ zr24),
   st_plain rfl (op_assign _ _ _ _ rfl rfl),
   trivial⟩ ?_
  refine pt_then ?_
  refine ht_seq ?_
  obtain ⟨v1, hv1, h⟩ := bind_some h
  refine ht_seqR hn (El := [_, _, _, (8, .v (.int .i64 number)), (9, .fl .shr 1 (List.map (Value.int .u8) data)), (10, .fl (.own 5) 1 (List.map (Value.int .u8) v1)), (11, .agg [.v (.int .i64 number), .fl (.own 5) 1 (List.map (Value.int .u8) v1), .v (.bool false), .v (.int .i64 0), .v (.int .i64 0), .v (.int .i64 0), .v (.bool false)]), (6, .box 24 [.v (.int .i64 0), .v (.slice none 0 0), .v (.bool false), .v (.int .i64 0), .v (.int .i64 0), .v (.int .i64 0), .v (.bool false)]), (6, .box 24 [.v (.int .i64 number), .fl (.own 5) 1 (List.map (Value.int .u8) v1), .v (.bool false), .v (.int .i64 0), .v (.int .i64 0), .v (.int .i64 0), .v (.bool false)])]) (init := [0, 1, 2]) (fin := [2, 8]) (sps := [⟨[0], [], [3], [(.slot 8)]⟩, ⟨[1], [], [4], [(.slot 9)]⟩, ⟨[4], [], [5], [(.slot 10)]⟩, ⟨[3], [5], [6], [(.slot 11)]⟩, ⟨[], [], [7], [(.slot 6)]⟩, ⟨[], [6, 7], [8], [.cell 6 0, .cell 6 1, .cell 6 2, .cell 6 3, .cell 6 4, .cell 6 5, .cell 6 6]⟩]) (es' := [(_, _), (6, .box 24 [.v (.int .i64 number), .fl (.own 5) 1 (List.map (Value.int .u8) v1), .v (.bool false), .v (.int .i64 0), .v (.int .i64 0), .v (.int .i64 0), .v (.bool false)])]) (by kernel_rfl) rfl rfl
   ⟨st_plain rfl (op_move _ _ _ _ rfl rfl),
   st_plain rfl (op_move _ _ _ _ rfl rfl),
   st_plain rfl (op_call _ _ 39 _ _ rfl Try.call39 rfl (ok_clone_List_byte data _ hv1) rfl rfl),
   st_plain rfl (op_build _ _ _ _ [1, 1, 1, 1, 1, 1, 1] _ _ Try.underlying24 zr24 (fs24 _ Try.underlying24) (.copy _ (.take _ _ Src.nil)) rfl rfl rfl),
   st_plain rfl (op_alloc _ _ zr24),
   st_plain rfl (op_store_take _ _ _ _ _ _ _ _ sz24 rfl rfl rfl (Nat.le_of_ble_eq_true rfl) rfl rfl),
   trivial⟩ ?_
  refine pt_then ?_
  refine ht_seq ?_
  refine ht_seq ?_
  obtain ⟨v2, hv2, h⟩ := bind_some h
  refine ht_seqR hn (El := [_, _, (12, .agg [.v (.int .i64 number), .same (.cell 6 1), .v (.bool false), .v (.int .i64 0), .v (.int .i64 0), .v (.int .i64 0), .v (.bool false)]), (13, .v (.int .i64 v2)), (7, .v (.int .i64 v2))]) (init := [0, 1]) (fin := [0, 1, 4]) (sps := [⟨[1], [], [2], [(.slot 12)]⟩, ⟨[2, 1], [], [3], [(.slot 13)]⟩, ⟨[3], [], [4], [(.slot 7)]⟩]) (es' := [(_, _), (_, _), (7, .v (.int .i64 v2))]) (by kernel_rfl) rfl rfl
   ⟨st_plain rfl (op_loadA _ _ _ _ _ _ _ Try.underlying24 rfl sz24 rfl rfl (Nat.le_of_ble_eq_true rfl) rfl rfl),
   st_plain rfl (op_call _ _ 17 _ _ rfl Try.call17 rfl (ok_sender_Check (T_Send.mk number v1 false 0 0 0 false) _ hv2) rfl rfl),
   st_plain rfl (op_assign _ _ _ _ rfl rfl),
   trivial⟩ ?_
  refine pt_then ?_
  refine ht_seq ?_
  refine ht_seqR hn (El := [_, _, _, (14, .v (.int .i64 v2)), (15, .v (.bool (v2 != 0)))]) (init := [0, 1, 2]) (fin := [0, 1, 2, 4]) (sps := [⟨[2], [], [3], [(.slot 14)]⟩, ⟨[3], [], [4], [(.slot 15)]⟩]) (es' := [(_, _), (_, _), (_, _), (15, .v (.bool (v2 != 0)))]) (by kernel_rfl) rfl rfl
   ⟨st_plain rfl (op_move _ _ _ _ rfl rfl),
   st_plain rfl (op_bin _ _ _ _ _ rfl rfl rfl),
   trivial⟩ ?_
  refine pt_then ?_
  refine ht_cond _ rfl (fun hb3 => ?_) (fun hb3 => ?_)
  ·have h := cond_t hb3 h
   refine ht_seq ?_
   refine ht_seqR hn (El := [_, _, _, _, (16, .agg [.v (.int .i64 0), .v (.slice none 0 0), .v (.bool false), .v (.int .i64 0), .v (.int .i64 0), .v (.int .i64 0), .v (.bool false)]), (17, .v (.int .i64 v2)), (4, .box 24 [.v (.int .i64 0), .v (.slice none 0 0), .v (.bool false), .v (.int .i64 0), .v (.int .i64 0), .v (.int .i64 0), .v (.bool false)]), (5, .v (.int .i64 v2))]) (init := [0, 1, 2, 3]) (fin := [6, 7]) (sps := [⟨[], [], [4], [(.slot 16)]⟩, ⟨[2], [], [5], [(.slot 17)]⟩, ⟨[4], [0], [6], [.cell 4 0, .cell 4 1, .cell 4 2, .cell 4 3, .cell 4 4, .cell 4 5, .cell 4 6]⟩, ⟨[5], [], [7], [(.slot 5)]⟩]) (es' := [(4, .box 24 [.v (.int .i64 0), .v (.slice none 0 0), .v (.bool false), .v (.int .i64 0), .v (.int .i64 0), .v (.int .i64 0), .v (.bool false)]), (5, .v (.int .i64 v2))]) (by kernel_rfl) rfl rfl
    ⟨st_plain rfl (op_build _ _ _ _ [1, 1, 1, 1, 1, 1, 1] _ _ Try.underlying24 zr24 (fs24 _ Try.underlying24) Src.nil rfl rfl rfl),
    st_plain rfl (op_move _ _ _ _ rfl rfl),
    st_plain rfl (op_store _ _ _ _ _ _ _ _ sz24 rfl rfl rfl rfl (Nat.le_of_ble_eq_true rfl) rfl rfl),
    st_plain rfl (op_assign _ _ _ _ rfl rfl),
    trivial⟩ ?_
   refine pt_then ?_
   refine ht_ret ?_
   refine pt_sub (fs := [(4, .box 24 [.v (.int .i64 0), .fl (.own 5) 1 (List.map (Value.int .u8) []), .v (.bool false), .v (.int .i64 0), .v (.int .i64 0), .v (.int .i64 0), .v (.bool false)]), (5, .v (.int .i64 v2))]) (.box _ _ (subs_cons (sub_refl _) (subs_cons (sub_nil 5 1) (subs_cons (sub_refl _) (subs_cons (sub_refl _) (subs_cons (sub_refl _) (subs_cons (sub_refl _) (subs_cons (sub_refl _) (subs_nil)))))))) rfl (.same _ .nil)) ?_
   refine pt_r_then ?_
   obtain rfl := Option.some.inj h
   exact pt_ret hio rfl (.cellA _ _ _ _ Try.underlying24 rfl sz24 (.tmp _ _ .nil)) rfl rfl
  ·have h := cond_f hb3 h
   refine ht_skip ?_
   refine pt_then ?_
   refine ht_seq ?_
   refine ht_seqR hn (El := [_, _, _, _, (18, .agg [.v (.int .i64 number), .fl (.own 5) 1 (List.map (Value.int .u8) v1), .v (.bool false), .v (.int .i64 0), .v (.int .i64 0), .v (.int .i64 0), .v (.bool false)]), (4, .box 24 [.v (.int .i64 number), .fl (.own 5) 1 (List.map (Value.int .u8) v1), .v (.bool false), .v (.int .i64 0), .v (.int .i64 0), .v (.int .i64 0), .v (.bool false)]), (5, .v (.int .i64 0))]) (init := [0, 1, 2, 3]) (fin := [5, 6]) (sps := [⟨[], [1], [4], [(.slot 18)]⟩, ⟨[], [4, 0], [5], [.cell 4 0, .cell 4 1, .cell 4 2, .cell 4 3, .cell 4 4, .cell 4 5, .cell 4 6]⟩, ⟨[], [], [6], [(.slot 5)]⟩]) (es' := [(4, .box 24 [.v (.int .i64 number), .fl (.own 5) 1 (List.map (Value.int .u8) v1), .v (.bool false), .v (.int .i64 0), .v (.int .i64 0), .v (.int .i64 0), .v (.bool false)]), (5, .v (.int .i64 0))]) (by kernel_rfl) rfl rfl
    ⟨st_plain rfl (op_loadA_take _ _ _ _ Try.underlying24 rfl sz24 rfl rfl),
    st_plain rfl (op_store_take _ _ _ _ _ _ _ _ sz24 rfl rfl rfl (Nat.le_of_ble_eq_true rfl) rfl rfl),
    st_plain rfl (op_assign _ _ _ _ rfl rfl),
    trivial⟩ ?_
   refine pt_then ?_
   refine ht_ret ?_
   obtain rfl := Option.some.inj h
   exact pt_ret hio rfl (.cellA _ _ _ _ Try.underlying24 rfl sz24 (.tmp _ _ .nil)) rfl rfl

set_option maxHeartbeats 1000000 in
theorem ok_sender_Pieces (s : T_Send) (r : Int) (h : Sh.sender_Pieces s = some r) : FnOK Try.prog 18 [.agg [.v (.int .i64 s.Number), .fl .shr 1 (List.map (Value.int .u8) s.Data), .v (.bool s.Ready), .v (.int .i64 s.Base), .v (.int .i64 s.Next), .v (.int .i64 s.Wait), .v (.bool s.Over)]] (.v (.int .i64 r)) := by
  unfold Sh.sender_Pieces at h
  refine fn_ok Try.func18 rfl (Nat.le_of_ble_eq_true rfl) rfl rfl fun g0 hn hio => ?_
  refine ht_seq ?_
  refine ht_seqR hn (El := [_, (1, .box 24 [.v (.int .i64 s.Number), .fl .shr 1 (List.map (Value.int .u8) s.Data), .v (.bool s.Ready), .v (.int .i64 s.Base), .v (.int .i64 s.Next), .v (.int .i64 s.Wait), .v (.bool s.Over)]), (2, .v (.int .i64 0))]) (init := [0]) (fin := [1]) (sps := [⟨[0], [], [1], [(.slot 1)]⟩, ⟨[], [], [2], [(.slot 2)]⟩]) (es' := [(1, .box 24 [.v (.int .i64 s.Number), .fl .shr 1 (List.map (Value.int .u8) s.Data), .v (.bool s.Ready), .v (.int .i64 s.Base), .v (.int .i64 s.Next), .v (.int .i64 s.Wait), .v (.bool s.Over)])]) (by kernel_rfl) rfl rfl
   ⟨st_plain rfl (op_box _ _ _ _ rfl rfl rfl),
   st_plain rfl (op_assign _ _ _ _ rfl rfl),
   trivial⟩ ?_
  refine pt_then ?_
  refine ht_seq ?_
  refine ht_seq ?_
  obtain ⟨v1, hv1, h⟩ := bind_some h
  refine ht_seqR hn (El := [_, (3, .agg [.v (.int .i64 s.Number), .fl .shr 1 (List.map (Value.int .u8) s.Data), .v (.bool s.Ready), .v (.int .i64 s.Base), .v (.int .i64 s.Next), .v (.int .i64 s.Wait), .v (.bool s.Over)]), (4, .v (.int .i64 v1)), (5, .v (.bool (v1 != 0)))]) (init := [0]) (fin := [0, 3]) (sps := [⟨[0], [], [1], [(.slot 3)]⟩, ⟨[1], [], [2], [(.slot 4)]⟩, ⟨[2], [], [3], [(.slot 5)]⟩]) (es' := [(_, _), (5, .v (.bool (v1 != 0)))]) (by kernel_rfl) rfl rfl
   ⟨st_plain rfl (op_loadA _ _ _ _ _ _ _ Try.underlying24 rfl sz24 rfl rfl (Nat.le_of_ble_eq_true rfl) rfl rfl),
   st_plain rfl (op_call _ _ 17 _ _ rfl Try.call17 rfl (ok_sender_Check s _ hv1) rfl rfl),
   st_plain rfl (op_bin _ _ _ _ _ rfl rfl rfl),
   trivial⟩ ?_
  refine pt_then ?_
  refine ht_cond _ rfl (fun hb2 => ?_) (fun hb2 => ?_)
  ·have h := cond_t hb2 h
   refine ht_seq ?_
   refine ht_seqR hn (El := [_, _, (2, .v (.int .i64 0))]) (init := [0, 1]) (fin := [2]) (sps := [⟨[], [], [2], [(.slot 2)]⟩]) (es' := [(2, .v (.int .i64 0))]) (by kernel_rfl) rfl rfl
    ⟨st_plain rfl (op_assign _ _ _ _ rfl rfl),
    trivial⟩ ?_
   refine pt_then ?_
   refine ht_ret ?_
   refine pt_r_then ?_
   obtain rfl := Option.some.inj h
   exact pt_ret hio rfl (.tmp _ _ .nil) rfl rfl
  ·have h := cond_f hb2 h
   refine ht_skip ?_
   refine pt_then ?_
   refine ht_seq ?_
   obtain ⟨v3, hv3, h⟩ := bind_some h
   refine ht_seqR hn (El := [_, _, (6, .agg [.v (.int .i64 s.Number), .fl .shr 1 (List.map (Value.int .u8) s.Data), .v (.bool s.Ready), .v (.int .i64 s.Base), .v (.int .i64 s.Next), .v (.int .i64 s.Wait), .v (.bool s.Over)]), (7, .v (.int .i64 v3)), (2, .v (.int .i64 v3))]) (init := [0, 1]) (fin := [4]) (sps := [⟨[0], [], [2], [(.slot 6)]⟩, ⟨[2], [], [3], [(.slot 7)]⟩, ⟨[3], [], [4], [(.slot 2)]⟩]) (es' := [(2, .v (.int .i64 v3))]) (by kernel_rfl) rfl rfl
    ⟨st_plain rfl (op_loadA _ _ _ _ _ _ _ Try.underlying24 rfl sz24 rfl rfl (Nat.le_of_ble_eq_true rfl) rfl rfl),
    st_plain rfl (op_call _ _ 33 _ _ rfl Try.call33 rfl (ok_sender_pieces s _ hv3) rfl rfl),
    st_plain rfl (op_assign _ _ _ _ rfl rfl),
    trivial⟩ ?_
   refine pt_then ?_
   refine ht_ret ?_
   obtain rfl := Option.some.inj h
   exact pt_ret hio rfl (.tmp _ _ .nil) rfl rfl

end Go.Proofs.Ytdligpdfcfbgpaa
