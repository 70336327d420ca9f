/-
  The model's runs are what is told in Lean.
-/
import Derived.Test.YtdligpdfcfbgpaaProg
import Derived.KernelRfl
import Derived.Test.YtdligpdfcfbgpaaSh
set_option linter.unusedVariables false
set_option linter.unusedSimpArgs false
namespace Go.Proofs.Ytdligpdfcfbgpaa
open Go.Abs Go.Abs.Sh

theorem sz22 : (Try.prog.info? 22).map (·.size) = some 1 := by kernel_rfl
theorem sz24 : (Try.prog.info? 24).map (·.size) = some 7 := by kernel_rfl
theorem sz3 : (Try.prog.info? 3).map (·.size) = some 1 := by kernel_rfl
theorem sz4 : (Try.prog.info? 4).map (·.size) = some 1 := by kernel_rfl
theorem fs26 : ∀ fs, Try.prog.underlying 26 = some (.struct fs) → fs.toList.map (fun f => (Try.prog.info? f.type).map (·.size)) = ([1, 1, 1, 1, 1] : List Nat).map some := by
  intro fs h
  rw [Try.underlying26] at h
  cases h
  kernel_rfl
theorem zr26 : (Try.prog.info? 26).bind (·.zero) = some (.agg #[.int .i64 0, .int .i64 0, .int .i64 0, .int .i64 0, .slice none 0 0]) := by kernel_rfl
theorem zr24 : (Try.prog.info? 24).bind (·.zero) = some (.agg #[.int .i64 0, .slice none 0 0, .bool false, .int .i64 0, .int .i64 0, .int .i64 0, .bool false]) := by kernel_rfl
theorem fs24 : ∀ fs, Try.prog.underlying 24 = some (.struct fs) → fs.toList.map (fun f => (Try.prog.info? f.type).map (·.size)) = ([1, 1, 1, 1, 1, 1, 1] : List Nat).map some := by
  intro fs h
  rw [Try.underlying24] at h
  cases h
  kernel_rfl
theorem sz26 : (Try.prog.info? 26).map (·.size) = some 5 := by kernel_rfl
theorem el22 : ElemT Try.prog 22 5 1 1 := ⟨⟨Try.t5, .int .u8 0, Try.underlying22, by kernel_rfl, by kernel_rfl, by kernel_rfl, by kernel_rfl, by decide, by kernel_rfl⟩⟩
theorem sz5 : (Try.prog.info? 5).map (·.size) = some 1 := by kernel_rfl
theorem zr5 : (Try.prog.info? 5).bind (·.zero) = some (.int .u8 0) := by kernel_rfl
theorem el31 : ElemT Try.prog 31 26 5 56 := ⟨⟨Try.t26, .agg #[.int .i64 0, .int .i64 0, .int .i64 0, .int .i64 0, .slice none 0 0], Try.underlying31, by kernel_rfl, by kernel_rfl, by kernel_rfl, by kernel_rfl, by decide, by kernel_rfl⟩⟩

set_option maxHeartbeats 1000000 in
theorem ok_wherryref18_pieces (b : (List Int)) (r : Int) (h : Sh.wherryref18_pieces b = some r) : FnOK Try.prog 29 [.fl .shr 1 (List.map (Value.int .u8) b)] (.v (.int .i64 r)) := by
  unfold Sh.wherryref18_pieces at h
  refine fn_ok Try.func29 rfl (Nat.le_of_ble_eq_true rfl) rfl rfl fun g0 hn hio => ?_
  refine ht_seq ?_
  refine ht_seqR hn (El := [_, (2, .v (.int .i64 0))]) (init := [0]) (fin := [0]) (sps := [⟨[], [], [1], [(.slot 2)]⟩]) (es' := [(_, _)]) (by kernel_rfl) rfl rfl
    ⟨st_plain rfl (op_assign _ _ _ _ rfl rfl),
      trivial⟩ ?_
  refine pt_then ?_
  refine ht_seq ?_
  obtain ⟨v1, hv1, h⟩ := bind_some h
  obtain ⟨v2, hv2, h⟩ := bind_some h
  obtain ⟨v3, hv3, h⟩ := bind_some h
  refine ht_seqR hn (El := [_, (3, .fl .shr 1 (List.map (Value.int .u8) b)), (4, .v (.int .i64 (b.length : Int))), (5, .v (.int .i64 v1)), (6, .v (.int .i64 v2)), (7, .v (.int .i64 v3)), (2, .v (.int .i64 v3))]) (init := [0]) (fin := [6]) (sps := [⟨[0], [], [1], [(.slot 3)]⟩, ⟨[1], [], [2], [(.slot 4)]⟩, ⟨[2], [], [3], [(.slot 5)]⟩, ⟨[3], [], [4], [(.slot 6)]⟩, ⟨[4], [], [5], [(.slot 7)]⟩, ⟨[5], [], [6], [(.slot 2)]⟩]) (es' := [(2, .v (.int .i64 v3))]) (by kernel_rfl) rfl rfl
    ⟨st_plain rfl (op_move _ _ _ _ rfl rfl),
      st_plain rfl (op_len_fl _ _ _ Try.underlying22 rfl (by decide) (map_len _)),
      st_plain rfl (op_bin _ _ _ _ _ rfl rfl (ibind (f := Value.int .i64) (Option.some.inj hv1))),
      st_plain rfl (op_bin _ _ _ _ _ rfl rfl (ibind (f := Value.int .i64) (Option.some.inj hv2))),
      st_plain rfl (op_bin _ _ _ _ _ rfl rfl (quo_ok hv3)),
      st_plain rfl (op_assign _ _ _ _ rfl rfl),
      trivial⟩ ?_
  refine pt_then ?_
  refine ht_ret ?_
  obtain rfl := Option.some.inj h
  exact pt_ret hio rfl (.tmp _ _ .nil) rfl rfl

set_option maxHeartbeats 1000000 in
theorem ok_wherryref18_in (n : Int) (lo : Int) (hi : Int) (r : Bool) (h : Sh.wherryref18_in n lo hi = some r) : FnOK Try.prog 30 [.v (.int .i64 n), .v (.int .i64 lo), .v (.int .i64 hi)] (.v (.bool r)) := by
  unfold Sh.wherryref18_in at h
  refine fn_ok Try.func30 rfl (Nat.le_of_ble_eq_true rfl) rfl rfl fun g0 hn hio => ?_
  refine ht_seq ?_
  refine ht_seqR hn (El := [_, _, _, (6, .v (.bool false))]) (init := [0, 1, 2]) (fin := [0, 1, 2]) (sps := [⟨[], [], [3], [(.slot 6)]⟩]) (es' := [(_, _), (_, _), (_, _)]) (by kernel_rfl) rfl rfl
    ⟨st_plain rfl (op_assign _ _ _ _ rfl rfl),
      trivial⟩ ?_
  refine pt_then ?_
  refine ht_seq ?_
  refine ht_joinS h (fun (s1 : Bool) => [(6, .v (.bool s1))]) ?_ ?_
  · rintro s1 h
    refine pt_then ?_
    refine ht_ret ?_
    obtain rfl := Option.some.inj h
    exact pt_ret hio rfl (.tmp _ _ .nil) rfl rfl
  · intro u2 h hl3 hr4
    refine cond_some h (fun hg1_3 h => ?_) (fun hg1_3 h => ?_)
    · refine ht_seqR hn (El := [_, _, _, (7, .v (.int .i64 n)), (8, .v (.int .i64 lo)), (9, .v (.bool ((decide (lo ≤ n))))), (10, .v (.bool true)), (11, .v (.int .i64 n)), (12, .v (.int .i64 hi)), (13, .v (.bool ((decide (n ≤ hi))))), (14, .v (.bool ((decide (n ≤ hi))))), (6, .v (.bool ((decide (n ≤ hi)))))]) (init := [0, 1, 2]) (fin := [11]) (sps := [⟨[0], [], [3], [(.slot 7)]⟩, ⟨[1], [], [4], [(.slot 8)]⟩, ⟨[3, 4], [], [5], [(.slot 9)]⟩, ⟨[5], [], [6], [(.slot 10)]⟩, ⟨[6, 0], [], [7], [(.slot 11)]⟩, ⟨[6, 2], [], [8], [(.slot 12)]⟩, ⟨[6, 7, 8], [], [9], [(.slot 13)]⟩, ⟨[6, 9], [], [10], [(.slot 14)]⟩, ⟨[10], [], [11], [(.slot 6)]⟩]) (es' := [(6, .v (.bool ((decide (n ≤ hi)))))]) (by kernel_rfl) rfl rfl
        ⟨st_plain rfl (op_move _ _ _ _ rfl rfl),
          st_plain rfl (op_move _ _ _ _ rfl rfl),
          st_plain rfl (op_bin _ _ _ _ _ rfl rfl rfl),
          st_plain rfl (op_move _ _ _ _ (congrArg (fun b => AV.v (Value.bool b)) hg1_3) rfl),
          st_run 3 10 true rfl rfl rfl (List.Mem.head _) (op_move _ _ _ _ rfl rfl),
          st_run 3 10 true rfl rfl rfl (List.Mem.head _) (op_move _ _ _ _ rfl rfl),
          st_run 3 10 true rfl rfl rfl (List.Mem.head _) (op_bin _ _ _ _ _ rfl rfl rfl),
          st_plain rfl (op_pick _ _ true _ rfl rfl),
          st_plain rfl (op_assign _ _ _ _ rfl rfl),
          trivial⟩ ?_
      exact hl3 _ (Option.some.inj h).symm
    · refine ht_seqR hn (El := [_, _, _, (7, .v (.int .i64 n)), (8, .v (.int .i64 lo)), (9, .v (.bool ((decide (lo ≤ n))))), (10, .v (.bool false)), (11, .v undef), (12, .v undef), (13, .v undef), (14, .v (.bool false)), (6, .v (.bool false))]) (init := [0, 1, 2]) (fin := [11]) (sps := [⟨[0], [], [3], [(.slot 7)]⟩, ⟨[1], [], [4], [(.slot 8)]⟩, ⟨[3, 4], [], [5], [(.slot 9)]⟩, ⟨[5], [], [6], [(.slot 10)]⟩, ⟨[6], [], [7], [(.slot 11)]⟩, ⟨[6], [], [8], [(.slot 12)]⟩, ⟨[6], [], [9], [(.slot 13)]⟩, ⟨[6], [], [10], [(.slot 14)]⟩, ⟨[10], [], [11], [(.slot 6)]⟩]) (es' := [(6, .v (.bool false))]) (by kernel_rfl) rfl rfl
        ⟨st_plain rfl (op_move _ _ _ _ rfl rfl),
          st_plain rfl (op_move _ _ _ _ rfl rfl),
          st_plain rfl (op_bin _ _ _ _ _ rfl rfl rfl),
          st_plain rfl (op_move _ _ _ _ (congrArg (fun b => AV.v (Value.bool b)) hg1_3) rfl),
          st_skip 3 10 _ true rfl rfl rfl rfl (List.Mem.head _),
          st_skip 3 10 _ true rfl rfl rfl rfl (List.Mem.head _),
          st_skip 3 10 _ true rfl rfl rfl rfl (List.Mem.head _),
          st_plain rfl (op_pick _ _ false _ rfl rfl),
          st_plain rfl (op_assign _ _ _ _ rfl rfl),
          trivial⟩ ?_
      exact hl3 _ (Option.some.inj h).symm

set_option maxHeartbeats 1000000 in
theorem ok_wherryref18_Send (s : T_Send) (r : Bool) (h : Sh.wherryref18_Send s = some r) : FnOK Try.prog 13 [.agg [.v (.int .i64 s.Number), .fl .shr 1 (List.map (Value.int .u8) s.Data), .v (.bool s.Ready), .v (.int .i64 s.Base), .v (.int .i64 s.Next), .v (.int .i64 s.Wait), .v (.bool s.Over)]] (.v (.bool r)) := by
  unfold Sh.wherryref18_Send at h
  refine fn_ok Try.func13 rfl (Nat.le_of_ble_eq_true rfl) rfl rfl fun g0 hn hio => ?_
  refine ht_seq ?_
  refine ht_seqR hn (El := [_, (1, .box 24 [.v (.int .i64 s.Number), .fl .shr 1 (List.map (Value.int .u8) s.Data), .v (.bool s.Ready), .v (.int .i64 s.Base), .v (.int .i64 s.Next), .v (.int .i64 s.Wait), .v (.bool s.Over)]), (2, .v (.bool false))]) (init := [0]) (fin := [1]) (sps := [⟨[0], [], [1], [(.slot 1)]⟩, ⟨[], [], [2], [(.slot 2)]⟩]) (es' := [(1, .box 24 [.v (.int .i64 s.Number), .fl .shr 1 (List.map (Value.int .u8) s.Data), .v (.bool s.Ready), .v (.int .i64 s.Base), .v (.int .i64 s.Next), .v (.int .i64 s.Wait), .v (.bool s.Over)])]) (by kernel_rfl) rfl rfl
    ⟨st_plain rfl (op_box _ _ _ _ rfl rfl rfl),
      st_plain rfl (op_assign _ _ _ _ rfl rfl),
      trivial⟩ ?_
  refine pt_then ?_
  refine ht_seq ?_
  obtain ⟨v1, hv1, h⟩ := bind_some h
  refine ht_seqR hn (El := [_, (4, .ptr 1 1), (5, .fl .shr 1 (List.map (Value.int .u8) s.Data)), (6, .v (.int .i64 v1)), (3, .v (.int .i64 v1))]) (init := [0]) (fin := [0, 4]) (sps := [⟨[0], [], [1], [(.slot 4)]⟩, ⟨[1, 0], [], [2], [(.slot 5)]⟩, ⟨[2], [], [3], [(.slot 6)]⟩, ⟨[3], [], [4], [(.slot 3)]⟩]) (es' := [(_, _), (3, .v (.int .i64 v1))]) (by kernel_rfl) rfl rfl
    ⟨st_plain rfl (op_fieldAddr _ _ _ _ 1 0 _ Try.underlying24 rfl sz22 rfl rfl (by decide)),
      st_plain rfl (op_load _ _ _ _ _ _ Try.underlying22 rfl rfl rfl (Nat.le_of_ble_eq_true rfl) rfl rfl rfl),
      st_plain rfl (op_call _ _ 29 _ _ rfl Try.call29 rfl (ok_wherryref18_pieces s.Data _ hv1) rfl rfl),
      st_plain rfl (op_assign _ _ _ _ rfl rfl),
      trivial⟩ ?_
  refine pt_then ?_
  refine ht_seq ?_
  refine ht_joinS h (fun (s9 : Bool) => [(2, .v (.bool s9))]) ?_ ?_
  · rintro s9 h
    refine pt_then ?_
    refine ht_ret ?_
    obtain rfl := Option.some.inj h
    exact pt_ret hio rfl (.tmp _ _ .nil) rfl rfl
  · intro u10 h hl11 hr12
    obtain ⟨v2, hv2, h⟩ := bind_some h
    refine cond_some h (fun hg2_3 h => ?_) (fun hg2_3 h => ?_)
    · obtain ⟨v3, hv3, h⟩ := bind_some h
      refine cond_some h (fun hg2_9 h => ?_) (fun hg2_9 h => ?_)
      · obtain ⟨v4, hv4, h⟩ := bind_some h
        refine cond_some h (fun hg2_15 h => ?_) (fun hg2_15 h => ?_)
        · obtain ⟨v5, hv5, h⟩ := bind_some h
          obtain ⟨v6, hv6, h⟩ := bind_some h
          obtain ⟨v7, hv7, h⟩ := bind_some h
          refine cond_some h (fun hg2_27 h => ?_) (fun hg2_27 h => ?_)
          · obtain ⟨v8, hv8, h⟩ := bind_some h
            refine cond_some h (fun hg2_32 h => ?_) (fun hg2_32 h => ?_)
            · refine cond_some h (fun hg2_35 h => ?_) (fun hg2_35 h => ?_)
              · refine ht_seqR hn (El := (_ :: _ :: (7, .ptr 1 0) :: (8, .v (.int .i64 s.Number)) :: (9, .v (.bool v2)) :: (10, .v (.bool true)) :: (11, .ptr 1 1) :: (12, .fl .shr 1 (List.map (Value.int .u8) s.Data)) :: (13, .v (.int .i64 (s.Data.length : Int))) :: (14, .v (.bool v3)) :: (15, .v (.bool v3)) :: (16, .v (.bool true)) :: (17, .ptr 1 3) :: (18, .v (.int .i64 s.Base)) :: (19, .v (.int .i64 v1)) :: (20, .v (.bool v4)) :: (21, .v (.bool v4)) :: (22, .v (.bool true)) :: (23, .ptr 1 4) :: (24, .v (.int .i64 s.Next)) :: (25, .ptr 1 3) :: (26, .v (.int .i64 s.Base)) :: (27, .ptr 1 3) :: (28, .v (.int .i64 s.Base)) :: (29, .v (.int .i64 v5)) :: (30, .v (.int .i64 v1)) :: (31, .v (.int .i64 v6)) :: (32, .v (.bool v7)) :: (33, .v (.bool v7)) :: (34, .v (.bool true)) :: (35, .ptr 1 5) :: (36, .v (.int .i64 s.Wait)) :: (37, .v (.bool v8)) :: (38, .v (.bool v8)) :: (39, .v (.bool true)) :: (40, .ptr 1 2) :: (41, .v (.bool s.Ready)) :: (42, .v (.bool true)) :: (43, .v undef) :: (44, .v undef) :: (45, .v undef) :: (46, .v undef) :: (47, .v undef) :: (48, .v undef) :: (49, .v undef) :: (50, .v undef) :: (51, .v (.bool true)) :: (52, .v (.bool true)) :: (2, .v (.bool true)) :: [])) (init := [0, 1]) (fin := [48]) (sps := (⟨[0], [], [2], [(.slot 7)]⟩ :: ⟨[2, 0], [], [3], [(.slot 8)]⟩ :: ⟨[3], [], [4], [(.slot 9)]⟩ :: ⟨[4], [], [5], [(.slot 10)]⟩ :: ⟨[5, 0], [], [6], [(.slot 11)]⟩ :: ⟨[5, 6, 0], [], [7], [(.slot 12)]⟩ :: ⟨[5, 7], [], [8], [(.slot 13)]⟩ :: ⟨[5, 8], [], [9], [(.slot 14)]⟩ :: ⟨[5, 9], [], [10], [(.slot 15)]⟩ :: ⟨[10], [], [11], [(.slot 16)]⟩ :: ⟨[11, 0], [], [12], [(.slot 17)]⟩ :: ⟨[11, 12, 0], [], [13], [(.slot 18)]⟩ :: ⟨[11, 1], [], [14], [(.slot 19)]⟩ :: ⟨[11, 13, 14], [], [15], [(.slot 20)]⟩ :: ⟨[11, 15], [], [16], [(.slot 21)]⟩ :: ⟨[16], [], [17], [(.slot 22)]⟩ :: ⟨[17, 0], [], [18], [(.slot 23)]⟩ :: ⟨[17, 18, 0], [], [19], [(.slot 24)]⟩ :: ⟨[17, 0], [], [20], [(.slot 25)]⟩ :: ⟨[17, 20, 0], [], [21], [(.slot 26)]⟩ :: ⟨[17, 0], [], [22], [(.slot 27)]⟩ :: ⟨[17, 22, 0], [], [23], [(.slot 28)]⟩ :: ⟨[17, 23], [], [24], [(.slot 29)]⟩ :: ⟨[17, 1], [], [25], [(.slot 30)]⟩ :: ⟨[17, 24, 25], [], [26], [(.slot 31)]⟩ :: ⟨[17, 19, 21, 26], [], [27], [(.slot 32)]⟩ :: ⟨[17, 27], [], [28], [(.slot 33)]⟩ :: ⟨[28], [], [29], [(.slot 34)]⟩ :: ⟨[29, 0], [], [30], [(.slot 35)]⟩ :: ⟨[29, 30, 0], [], [31], [(.slot 36)]⟩ :: ⟨[29, 31], [], [32], [(.slot 37)]⟩ :: ⟨[29, 32], [], [33], [(.slot 38)]⟩ :: ⟨[33], [], [34], [(.slot 39)]⟩ :: ⟨[34, 0], [], [35], [(.slot 40)]⟩ :: ⟨[34, 35, 0], [], [36], [(.slot 41)]⟩ :: ⟨[34, 36], [], [37], [(.slot 42)]⟩ :: ⟨[37], [], [38], [(.slot 43)]⟩ :: ⟨[37], [], [39], [(.slot 44)]⟩ :: ⟨[37], [], [40], [(.slot 45)]⟩ :: ⟨[37], [], [41], [(.slot 46)]⟩ :: ⟨[41], [], [42], [(.slot 47)]⟩ :: ⟨[41], [], [43], [(.slot 48)]⟩ :: ⟨[41], [], [44], [(.slot 49)]⟩ :: ⟨[37], [], [45], [(.slot 50)]⟩ :: ⟨[34, 37], [], [46], [(.slot 51)]⟩ :: ⟨[34, 46], [], [47], [(.slot 52)]⟩ :: ⟨[47], [], [48], [(.slot 2)]⟩ :: [])) (es' := [(2, .v (.bool true))]) (by kernel_rfl) rfl rfl
                  ⟨st_plain rfl (op_fieldAddr _ _ _ _ 1 0 _ Try.underlying24 rfl sz3 rfl rfl (by decide)),
                    st_plain rfl (op_load _ _ _ _ _ _ Try.underlying3 rfl rfl rfl (Nat.le_of_ble_eq_true rfl) rfl rfl rfl),
                    st_plain rfl (op_call _ _ 30 _ _ rfl Try.call30 rfl (ok_wherryref18_in s.Number 1 65535 _ hv2) rfl rfl),
                    st_plain rfl (op_move _ _ _ _ (congrArg (fun b => AV.v (Value.bool b)) hg2_3) rfl),
                    st_run 3 10 true rfl rfl rfl (List.Mem.head _) (op_fieldAddr _ _ _ _ 1 0 _ Try.underlying24 rfl sz22 rfl rfl (by decide)),
                    st_run 3 10 true rfl rfl rfl (List.Mem.head _) (op_load _ _ _ _ _ _ Try.underlying22 rfl rfl rfl (Nat.le_of_ble_eq_true rfl) rfl rfl rfl),
                    st_run 3 10 true rfl rfl rfl (List.Mem.head _) (op_len_fl _ _ _ Try.underlying22 rfl (by decide) (map_len _)),
                    st_run 3 10 true rfl rfl rfl (List.Mem.head _) (op_call _ _ 30 _ _ rfl Try.call30 rfl (ok_wherryref18_in (s.Data.length : Int) 1 5000 _ hv3) rfl rfl),
                    st_plain rfl (op_pick _ _ true _ rfl rfl),
                    st_plain rfl (op_move _ _ _ _ (congrArg (fun b => AV.v (Value.bool b)) hg2_9) rfl),
                    st_run 9 16 true rfl rfl rfl (List.Mem.head _) (op_fieldAddr _ _ _ _ 1 0 _ Try.underlying24 rfl sz3 rfl rfl (by decide)),
                    st_run 9 16 true rfl rfl rfl (List.Mem.head _) (op_load _ _ _ _ _ _ Try.underlying3 rfl rfl rfl (Nat.le_of_ble_eq_true rfl) rfl rfl rfl),
                    st_run 9 16 true rfl rfl rfl (List.Mem.head _) (op_move _ _ _ _ rfl rfl),
                    st_run 9 16 true rfl rfl rfl (List.Mem.head _) (op_call _ _ 30 _ _ rfl Try.call30 rfl (ok_wherryref18_in s.Base 0 v1 _ hv4) rfl rfl),
                    st_plain rfl (op_pick _ _ true _ rfl rfl),
                    st_plain rfl (op_move _ _ _ _ (congrArg (fun b => AV.v (Value.bool b)) hg2_15) rfl),
                    st_run 15 22 true rfl rfl rfl (List.Mem.head _) (op_fieldAddr _ _ _ _ 1 0 _ Try.underlying24 rfl sz3 rfl rfl (by decide)),
                    st_run 15 22 true rfl rfl rfl (List.Mem.head _) (op_load _ _ _ _ _ _ Try.underlying3 rfl rfl rfl (Nat.le_of_ble_eq_true rfl) rfl rfl rfl),
                    st_run 15 22 true rfl rfl rfl (List.Mem.head _) (op_fieldAddr _ _ _ _ 1 0 _ Try.underlying24 rfl sz3 rfl rfl (by decide)),
                    st_run 15 22 true rfl rfl rfl (List.Mem.head _) (op_load _ _ _ _ _ _ Try.underlying3 rfl rfl rfl (Nat.le_of_ble_eq_true rfl) rfl rfl rfl),
                    st_run 15 22 true rfl rfl rfl (List.Mem.head _) (op_fieldAddr _ _ _ _ 1 0 _ Try.underlying24 rfl sz3 rfl rfl (by decide)),
                    st_run 15 22 true rfl rfl rfl (List.Mem.head _) (op_load _ _ _ _ _ _ Try.underlying3 rfl rfl rfl (Nat.le_of_ble_eq_true rfl) rfl rfl rfl),
                    st_run 15 22 true rfl rfl rfl (List.Mem.head _) (op_bin _ _ _ _ _ rfl rfl (ibind (f := Value.int .i64) (Option.some.inj hv5))),
                    st_run 15 22 true rfl rfl rfl (List.Mem.head _) (op_move _ _ _ _ rfl rfl),
                    st_run 15 22 true rfl rfl rfl (List.Mem.head _) ((Option.some.inj hv6) ▸ op_min _ _ _ _ rfl rfl),
                    st_run 15 22 true rfl rfl rfl (List.Mem.head _) (op_call _ _ 30 _ _ rfl Try.call30 rfl (ok_wherryref18_in s.Next s.Base v6 _ hv7) rfl rfl),
                    st_plain rfl (op_pick _ _ true _ rfl rfl),
                    st_plain rfl (op_move _ _ _ _ (congrArg (fun b => AV.v (Value.bool b)) hg2_27) rfl),
                    st_run 27 34 true rfl rfl rfl (List.Mem.head _) (op_fieldAddr _ _ _ _ 1 0 _ Try.underlying24 rfl sz3 rfl rfl (by decide)),
                    st_run 27 34 true rfl rfl rfl (List.Mem.head _) (op_load _ _ _ _ _ _ Try.underlying3 rfl rfl rfl (Nat.le_of_ble_eq_true rfl) rfl rfl rfl),
                    st_run 27 34 true rfl rfl rfl (List.Mem.head _) (op_call _ _ 30 _ _ rfl Try.call30 rfl (ok_wherryref18_in s.Wait 0 3 _ hv8) rfl rfl),
                    st_plain rfl (op_pick _ _ true _ rfl rfl),
                    st_plain rfl (op_move _ _ _ _ (congrArg (fun b => AV.v (Value.bool b)) hg2_32) rfl),
                    st_run 32 39 true rfl rfl rfl (List.Mem.head _) (op_fieldAddr _ _ _ _ 1 0 _ Try.underlying24 rfl sz4 rfl rfl (by decide)),
                    st_run 32 39 true rfl rfl rfl (List.Mem.head _) (op_load _ _ _ _ _ _ Try.underlying4 rfl rfl rfl (Nat.le_of_ble_eq_true rfl) rfl rfl rfl),
                    st_run 32 39 true rfl rfl rfl (List.Mem.head _) (op_move _ _ _ _ (congrArg (fun b => AV.v (Value.bool b)) hg2_35) rfl),
                    st_skip 35 42 _ false rfl rfl rfl rfl (List.Mem.head _),
                    st_skip 35 42 _ false rfl rfl rfl rfl (List.Mem.head _),
                    st_skip 35 42 _ false rfl rfl rfl rfl (List.Mem.head _),
                    st_skip 35 42 _ false rfl rfl rfl rfl (List.Mem.head _),
                    st_skipU 39 46 _ true rfl rfl rfl rfl (List.Mem.head _),
                    st_skipU 39 46 _ true rfl rfl rfl rfl (List.Mem.head _),
                    st_skipU 39 46 _ true rfl rfl rfl rfl (List.Mem.head _),
                    st_skip 35 42 _ false rfl rfl rfl rfl (List.Mem.head _),
                    st_run 32 39 true rfl rfl rfl (List.Mem.head _) (op_pick _ _ true _ rfl rfl),
                    st_plain rfl (op_pick _ _ true _ rfl rfl),
                    st_plain rfl (op_assign _ _ _ _ rfl rfl),
                    trivial⟩ ?_
                exact hl11 _ (Option.some.inj h).symm
              · refine cond_some h (fun hg2_39 h => ?_) (fun hg2_39 h => ?_)
                · refine ht_seqR hn (El := (_ :: _ :: (7, .ptr 1 0) :: (8, .v (.int .i64 s.Number)) :: (9, .v (.bool v2)) :: (10, .v (.bool true)) :: (11, .ptr 1 1) :: (12, .fl .shr 1 (List.map (Value.int .u8) s.Data)) :: (13, .v (.int .i64 (s.Data.length : Int))) :: (14, .v (.bool v3)) :: (15, .v (.bool v3)) :: (16, .v (.bool true)) :: (17, .ptr 1 3) :: (18, .v (.int .i64 s.Base)) :: (19, .v (.int .i64 v1)) :: (20, .v (.bool v4)) :: (21, .v (.bool v4)) :: (22, .v (.bool true)) :: (23, .ptr 1 4) :: (24, .v (.int .i64 s.Next)) :: (25, .ptr 1 3) :: (26, .v (.int .i64 s.Base)) :: (27, .ptr 1 3) :: (28, .v (.int .i64 s.Base)) :: (29, .v (.int .i64 v5)) :: (30, .v (.int .i64 v1)) :: (31, .v (.int .i64 v6)) :: (32, .v (.bool v7)) :: (33, .v (.bool v7)) :: (34, .v (.bool true)) :: (35, .ptr 1 5) :: (36, .v (.int .i64 s.Wait)) :: (37, .v (.bool v8)) :: (38, .v (.bool v8)) :: (39, .v (.bool true)) :: (40, .ptr 1 2) :: (41, .v (.bool s.Ready)) :: (42, .v (.bool false)) :: (43, .ptr 1 3) :: (44, .v (.int .i64 s.Base)) :: (45, .v (.bool (s.Base == 0))) :: (46, .v (.bool true)) :: (47, .ptr 1 4) :: (48, .v (.int .i64 s.Next)) :: (49, .v (.bool (s.Next == 0))) :: (50, .v (.bool (s.Next == 0))) :: (51, .v (.bool (s.Next == 0))) :: (52, .v (.bool (s.Next == 0))) :: (2, .v (.bool (s.Next == 0))) :: [])) (init := [0, 1]) (fin := [48]) (sps := (⟨[0], [], [2], [(.slot 7)]⟩ :: ⟨[2, 0], [], [3], [(.slot 8)]⟩ :: ⟨[3], [], [4], [(.slot 9)]⟩ :: ⟨[4], [], [5], [(.slot 10)]⟩ :: ⟨[5, 0], [], [6], [(.slot 11)]⟩ :: ⟨[5, 6, 0], [], [7], [(.slot 12)]⟩ :: ⟨[5, 7], [], [8], [(.slot 13)]⟩ :: ⟨[5, 8], [], [9], [(.slot 14)]⟩ :: ⟨[5, 9], [], [10], [(.slot 15)]⟩ :: ⟨[10], [], [11], [(.slot 16)]⟩ :: ⟨[11, 0], [], [12], [(.slot 17)]⟩ :: ⟨[11, 12, 0], [], [13], [(.slot 18)]⟩ :: ⟨[11, 1], [], [14], [(.slot 19)]⟩ :: ⟨[11, 13, 14], [], [15], [(.slot 20)]⟩ :: ⟨[11, 15], [], [16], [(.slot 21)]⟩ :: ⟨[16], [], [17], [(.slot 22)]⟩ :: ⟨[17, 0], [], [18], [(.slot 23)]⟩ :: ⟨[17, 18, 0], [], [19], [(.slot 24)]⟩ :: ⟨[17, 0], [], [20], [(.slot 25)]⟩ :: ⟨[17, 20, 0], [], [21], [(.slot 26)]⟩ :: ⟨[17, 0], [], [22], [(.slot 27)]⟩ :: ⟨[17, 22, 0], [], [23], [(.slot 28)]⟩ :: ⟨[17, 23], [], [24], [(.slot 29)]⟩ :: ⟨[17, 1], [], [25], [(.slot 30)]⟩ :: ⟨[17, 24, 25], [], [26], [(.slot 31)]⟩ :: ⟨[17, 19, 21, 26], [], [27], [(.slot 32)]⟩ :: ⟨[17, 27], [], [28], [(.slot 33)]⟩ :: ⟨[28], [], [29], [(.slot 34)]⟩ :: ⟨[29, 0], [], [30], [(.slot 35)]⟩ :: ⟨[29, 30, 0], [], [31], [(.slot 36)]⟩ :: ⟨[29, 31], [], [32], [(.slot 37)]⟩ :: ⟨[29, 32], [], [33], [(.slot 38)]⟩ :: ⟨[33], [], [34], [(.slot 39)]⟩ :: ⟨[34, 0], [], [35], [(.slot 40)]⟩ :: ⟨[34, 35, 0], [], [36], [(.slot 41)]⟩ :: ⟨[34, 36], [], [37], [(.slot 42)]⟩ :: ⟨[37, 0], [], [38], [(.slot 43)]⟩ :: ⟨[37, 38, 0], [], [39], [(.slot 44)]⟩ :: ⟨[37, 39], [], [40], [(.slot 45)]⟩ :: ⟨[37, 40], [], [41], [(.slot 46)]⟩ :: ⟨[41, 0], [], [42], [(.slot 47)]⟩ :: ⟨[41, 42, 0], [], [43], [(.slot 48)]⟩ :: ⟨[41, 43], [], [44], [(.slot 49)]⟩ :: ⟨[37, 41, 44], [], [45], [(.slot 50)]⟩ :: ⟨[34, 37, 45], [], [46], [(.slot 51)]⟩ :: ⟨[34, 46], [], [47], [(.slot 52)]⟩ :: ⟨[47], [], [48], [(.slot 2)]⟩ :: [])) (es' := [(2, .v (.bool (s.Next == 0)))]) (by kernel_rfl) rfl rfl
                    ⟨st_plain rfl (op_fieldAddr _ _ _ _ 1 0 _ Try.underlying24 rfl sz3 rfl rfl (by decide)),
                      st_plain rfl (op_load _ _ _ _ _ _ Try.underlying3 rfl rfl rfl (Nat.le_of_ble_eq_true rfl) rfl rfl rfl),
                      st_plain rfl (op_call _ _ 30 _ _ rfl Try.call30 rfl (ok_wherryref18_in s.Number 1 65535 _ hv2) rfl rfl),
                      st_plain rfl (op_move _ _ _ _ (congrArg (fun b => AV.v (Value.bool b)) hg2_3) rfl),
                      st_run 3 10 true rfl rfl rfl (List.Mem.head _) (op_fieldAddr _ _ _ _ 1 0 _ Try.underlying24 rfl sz22 rfl rfl (by decide)),
                      st_run 3 10 true rfl rfl rfl (List.Mem.head _) (op_load _ _ _ _ _ _ Try.underlying22 rfl rfl rfl (Nat.le_of_ble_eq_true rfl) rfl rfl rfl),
                      st_run 3 10 true rfl rfl rfl (List.Mem.head _) (op_len_fl _ _ _ Try.underlying22 rfl (by decide) (map_len _)),
                      st_run 3 10 true rfl rfl rfl (List.Mem.head _) (op_call _ _ 30 _ _ rfl Try.call30 rfl (ok_wherryref18_in (s.Data.length : Int) 1 5000 _ hv3) rfl rfl),
                      st_plain rfl (op_pick _ _ true _ rfl rfl),
                      st_plain rfl (op_move _ _ _ _ (congrArg (fun b => AV.v (Value.bool b)) hg2_9) rfl),
                      st_run 9 16 true rfl rfl rfl (List.Mem.head _) (op_fieldAddr _ _ _ _ 1 0 _ Try.underlying24 rfl sz3 rfl rfl (by decide)),
                      st_run 9 16 true rfl rfl rfl (List.Mem.head _) (op_load _ _ _ _ _ _ Try.underlying3 rfl rfl rfl (Nat.le_of_ble_eq_true rfl) rfl rfl rfl),
                      st_run 9 16 true rfl rfl rfl (List.Mem.head _) (op_move _ _ _ _ rfl rfl),
                      st_run 9 16 true rfl rfl rfl (List.Mem.head _) (op_call _ _ 30 _ _ rfl Try.call30 rfl (ok_wherryref18_in s.Base 0 v1 _ hv4) rfl rfl),
                      st_plain rfl (op_pick _ _ true _ rfl rfl),
                      st_plain rfl (op_move _ _ _ _ (congrArg (fun b => AV.v (Value.bool b)) hg2_15) rfl),
                      st_run 15 22 true rfl rfl rfl (List.Mem.head _) (op_fieldAddr _ _ _ _ 1 0 _ Try.underlying24 rfl sz3 rfl rfl (by decide)),
                      st_run 15 22 true rfl rfl rfl (List.Mem.head _) (op_load _ _ _ _ _ _ Try.underlying3 rfl rfl rfl (Nat.le_of_ble_eq_true rfl) rfl rfl rfl),
                      st_run 15 22 true rfl rfl rfl (List.Mem.head _) (op_fieldAddr _ _ _ _ 1 0 _ Try.underlying24 rfl sz3 rfl rfl (by decide)),
                      st_run 15 22 true rfl rfl rfl (List.Mem.head _) (op_load _ _ _ _ _ _ Try.underlying3 rfl rfl rfl (Nat.le_of_ble_eq_true rfl) rfl rfl rfl),
                      st_run 15 22 true rfl rfl rfl (List.Mem.head _) (op_fieldAddr _ _ _ _ 1 0 _ Try.underlying24 rfl sz3 rfl rfl (by decide)),
                      st_run 15 22 true rfl rfl rfl (List.Mem.head _) (op_load _ _ _ _ _ _ Try.underlying3 rfl rfl rfl (Nat.le_of_ble_eq_true rfl) rfl rfl rfl),
                      st_run 15 22 true rfl rfl rfl (List.Mem.head _) (op_bin _ _ _ _ _ rfl rfl (ibind (f := Value.int .i64) (Option.some.inj hv5))),
                      st_run 15 22 true rfl rfl rfl (List.Mem.head _) (op_move _ _ _ _ rfl rfl),
                      st_run 15 22 true rfl rfl rfl (List.Mem.head _) ((Option.some.inj hv6) ▸ op_min _ _ _ _ rfl rfl),
                      st_run 15 22 true rfl rfl rfl (List.Mem.head _) (op_call _ _ 30 _ _ rfl Try.call30 rfl (ok_wherryref18_in s.Next s.Base v6 _ hv7) rfl rfl),
                      st_plain rfl (op_pick _ _ true _ rfl rfl),
                      st_plain rfl (op_move _ _ _ _ (congrArg (fun b => AV.v (Value.bool b)) hg2_27) rfl),
                      st_run 27 34 true rfl rfl rfl (List.Mem.head _) (op_fieldAddr _ _ _ _ 1 0 _ Try.underlying24 rfl sz3 rfl rfl (by decide)),
                      st_run 27 34 true rfl rfl rfl (List.Mem.head _) (op_load _ _ _ _ _ _ Try.underlying3 rfl rfl rfl (Nat.le_of_ble_eq_true rfl) rfl rfl rfl),
                      st_run 27 34 true rfl rfl rfl (List.Mem.head _) (op_call _ _ 30 _ _ rfl Try.call30 rfl (ok_wherryref18_in s.Wait 0 3 _ hv8) rfl rfl),
                      st_plain rfl (op_pick _ _ true _ rfl rfl),
                      st_plain rfl (op_move _ _ _ _ (congrArg (fun b => AV.v (Value.bool b)) hg2_32) rfl),
                      st_run 32 39 true rfl rfl rfl (List.Mem.head _) (op_fieldAddr _ _ _ _ 1 0 _ Try.underlying24 rfl sz4 rfl rfl (by decide)),
                      st_run 32 39 true rfl rfl rfl (List.Mem.head _) (op_load _ _ _ _ _ _ Try.underlying4 rfl rfl rfl (Nat.le_of_ble_eq_true rfl) rfl rfl rfl),
                      st_run 32 39 true rfl rfl rfl (List.Mem.head _) (op_move _ _ _ _ (congrArg (fun b => AV.v (Value.bool b)) hg2_35) rfl),
                      st_run 35 42 false rfl rfl rfl (List.Mem.head _) (op_fieldAddr _ _ _ _ 1 0 _ Try.underlying24 rfl sz3 rfl rfl (by decide)),
                      st_run 35 42 false rfl rfl rfl (List.Mem.head _) (op_load _ _ _ _ _ _ Try.underlying3 rfl rfl rfl (Nat.le_of_ble_eq_true rfl) rfl rfl rfl),
                      st_run 35 42 false rfl rfl rfl (List.Mem.head _) (op_bin _ _ _ _ _ rfl rfl rfl),
                      st_run 35 42 false rfl rfl rfl (List.Mem.head _) (op_move _ _ _ _ (congrArg (fun b => AV.v (Value.bool b)) hg2_39) rfl),
                      st_run 39 46 true rfl rfl rfl (List.Mem.head _) (op_fieldAddr _ _ _ _ 1 0 _ Try.underlying24 rfl sz3 rfl rfl (by decide)),
                      st_run 39 46 true rfl rfl rfl (List.Mem.head _) (op_load _ _ _ _ _ _ Try.underlying3 rfl rfl rfl (Nat.le_of_ble_eq_true rfl) rfl rfl rfl),
                      st_run 39 46 true rfl rfl rfl (List.Mem.head _) (op_bin _ _ _ _ _ rfl rfl rfl),
                      st_run 35 42 false rfl rfl rfl (List.Mem.head _) (op_pick _ _ true _ rfl rfl),
                      st_run 32 39 true rfl rfl rfl (List.Mem.head _) (op_pick _ _ false _ rfl rfl),
                      st_plain rfl (op_pick _ _ true _ rfl rfl),
                      st_plain rfl (op_assign _ _ _ _ rfl rfl),
                      trivial⟩ ?_
                  exact hl11 _ (Option.some.inj h).symm
                · refine ht_seqR hn (El := (_ :: _ :: (7, .ptr 1 0) :: (8, .v (.int .i64 s.Number)) :: (9, .v (.bool v2)) :: (10, .v (.bool true)) :: (11, .ptr 1 1) :: (12, .fl .shr 1 (List.map (Value.int .u8) s.Data)) :: (13, .v (.int .i64 (s.Data.length : Int))) :: (14, .v (.bool v3)) :: (15, .v (.bool v3)) :: (16, .v (.bool true)) :: (17, .ptr 1 3) :: (18, .v (.int .i64 s.Base)) :: (19, .v (.int .i64 v1)) :: (20, .v (.bool v4)) :: (21, .v (.bool v4)) :: (22, .v (.bool true)) :: (23, .ptr 1 4) :: (24, .v (.int .i64 s.Next)) :: (25, .ptr 1 3) :: (26, .v (.int .i64 s.Base)) :: (27, .ptr 1 3) :: (28, .v (.int .i64 s.Base)) :: (29, .v (.int .i64 v5)) :: (30, .v (.int .i64 v1)) :: (31, .v (.int .i64 v6)) :: (32, .v (.bool v7)) :: (33, .v (.bool v7)) :: (34, .v (.bool true)) :: (35, .ptr 1 5) :: (36, .v (.int .i64 s.Wait)) :: (37, .v (.bool v8)) :: (38, .v (.bool v8)) :: (39, .v (.bool true)) :: (40, .ptr 1 2) :: (41, .v (.bool s.Ready)) :: (42, .v (.bool false)) :: (43, .ptr 1 3) :: (44, .v (.int .i64 s.Base)) :: (45, .v (.bool (s.Base == 0))) :: (46, .v (.bool false)) :: (47, .v undef) :: (48, .v undef) :: (49, .v undef) :: (50, .v (.bool false)) :: (51, .v (.bool false)) :: (52, .v (.bool false)) :: (2, .v (.bool false)) :: [])) (init := [0, 1]) (fin := [48]) (sps := (⟨[0], [], [2], [(.slot 7)]⟩ :: ⟨[2, 0], [], [3], [(.slot 8)]⟩ :: ⟨[3], [], [4], [(.slot 9)]⟩ :: ⟨[4], [], [5], [(.slot 10)]⟩ :: ⟨[5, 0], [], [6], [(.slot 11)]⟩ :: ⟨[5, 6, 0], [], [7], [(.slot 12)]⟩ :: ⟨[5, 7], [], [8], [(.slot 13)]⟩ :: ⟨[5, 8], [], [9], [(.slot 14)]⟩ :: ⟨[5, 9], [], [10], [(.slot 15)]⟩ :: ⟨[10], [], [11], [(.slot 16)]⟩ :: ⟨[11, 0], [], [12], [(.slot 17)]⟩ :: ⟨[11, 12, 0], [], [13], [(.slot 18)]⟩ :: ⟨[11, 1], [], [14], [(.slot 19)]⟩ :: ⟨[11, 13, 14], [], [15], [(.slot 20)]⟩ :: ⟨[11, 15], [], [16], [(.slot 21)]⟩ :: ⟨[16], [], [17], [(.slot 22)]⟩ :: ⟨[17, 0], [], [18], [(.slot 23)]⟩ :: ⟨[17, 18, 0], [], [19], [(.slot 24)]⟩ :: ⟨[17, 0], [], [20], [(.slot 25)]⟩ :: ⟨[17, 20, 0], [], [21], [(.slot 26)]⟩ :: ⟨[17, 0], [], [22], [(.slot 27)]⟩ :: ⟨[17, 22, 0], [], [23], [(.slot 28)]⟩ :: ⟨[17, 23], [], [24], [(.slot 29)]⟩ :: ⟨[17, 1], [], [25], [(.slot 30)]⟩ :: ⟨[17, 24, 25], [], [26], [(.slot 31)]⟩ :: ⟨[17, 19, 21, 26], [], [27], [(.slot 32)]⟩ :: ⟨[17, 27], [], [28], [(.slot 33)]⟩ :: ⟨[28], [], [29], [(.slot 34)]⟩ :: ⟨[29, 0], [], [30], [(.slot 35)]⟩ :: ⟨[29, 30, 0], [], [31], [(.slot 36)]⟩ :: ⟨[29, 31], [], [32], [(.slot 37)]⟩ :: ⟨[29, 32], [], [33], [(.slot 38)]⟩ :: ⟨[33], [], [34], [(.slot 39)]⟩ :: ⟨[34, 0], [], [35], [(.slot 40)]⟩ :: ⟨[34, 35, 0], [], [36], [(.slot 41)]⟩ :: ⟨[34, 36], [], [37], [(.slot 42)]⟩ :: ⟨[37, 0], [], [38], [(.slot 43)]⟩ :: ⟨[37, 38, 0], [], [39], [(.slot 44)]⟩ :: ⟨[37, 39], [], [40], [(.slot 45)]⟩ :: ⟨[37, 40], [], [41], [(.slot 46)]⟩ :: ⟨[41], [], [42], [(.slot 47)]⟩ :: ⟨[41], [], [43], [(.slot 48)]⟩ :: ⟨[41], [], [44], [(.slot 49)]⟩ :: ⟨[37, 41], [], [45], [(.slot 50)]⟩ :: ⟨[34, 37, 45], [], [46], [(.slot 51)]⟩ :: ⟨[34, 46], [], [47], [(.slot 52)]⟩ :: ⟨[47], [], [48], [(.slot 2)]⟩ :: [])) (es' := [(2, .v (.bool false))]) (by kernel_rfl) rfl rfl
                    ⟨st_plain rfl (op_fieldAddr _ _ _ _ 1 0 _ Try.underlying24 rfl sz3 rfl rfl (by decide)),
                      st_plain rfl (op_load _ _ _ _ _ _ Try.underlying3 rfl rfl rfl (Nat.le_of_ble_eq_true rfl) rfl rfl rfl),
                      st_plain rfl (op_call _ _ 30 _ _ rfl Try.call30 rfl (ok_wherryref18_in s.Number 1 65535 _ hv2) rfl rfl),
                      st_plain rfl (op_move _ _ _ _ (congrArg (fun b => AV.v (Value.bool b)) hg2_3) rfl),
                      st_run 3 10 true rfl rfl rfl (List.Mem.head _) (op_fieldAddr _ _ _ _ 1 0 _ Try.underlying24 rfl sz22 rfl rfl (by decide)),
                      st_run 3 10 true rfl rfl rfl (List.Mem.head _) (op_load _ _ _ _ _ _ Try.underlying22 rfl rfl rfl (Nat.le_of_ble_eq_true rfl) rfl rfl rfl),
                      st_run 3 10 true rfl rfl rfl (List.Mem.head _) (op_len_fl _ _ _ Try.underlying22 rfl (by decide) (map_len _)),
                      st_run 3 10 true rfl rfl rfl (List.Mem.head _) (op_call _ _ 30 _ _ rfl Try.call30 rfl (ok_wherryref18_in (s.Data.length : Int) 1 5000 _ hv3) rfl rfl),
                      st_plain rfl (op_pick _ _ true _ rfl rfl),
                      st_plain rfl (op_move _ _ _ _ (congrArg (fun b => AV.v (Value.bool b)) hg2_9) rfl),
                      st_run 9 16 true rfl rfl rfl (List.Mem.head _) (op_fieldAddr _ _ _ _ 1 0 _ Try.underlying24 rfl sz3 rfl rfl (by decide)),
                      st_run 9 16 true rfl rfl rfl (List.Mem.head _) (op_load _ _ _ _ _ _ Try.underlying3 rfl rfl rfl (Nat.le_of_ble_eq_true rfl) rfl rfl rfl),
                      st_run 9 16 true rfl rfl rfl (List.Mem.head _) (op_move _ _ _ _ rfl rfl),
                      st_run 9 16 true rfl rfl rfl (List.Mem.head _) (op_call _ _ 30 _ _ rfl Try.call30 rfl (ok_wherryref18_in s.Base 0 v1 _ hv4) rfl rfl),
                      st_plain rfl (op_pick _ _ true _ rfl rfl),
                      st_plain rfl (op_move _ _ _ _ (congrArg (fun b => AV.v (Value.bool b)) hg2_15) rfl),
                      st_run 15 22 true rfl rfl rfl (List.Mem.head _) (op_fieldAddr _ _ _ _ 1 0 _ Try.underlying24 rfl sz3 rfl rfl (by decide)),
                      st_run 15 22 true rfl rfl rfl (List.Mem.head _) (op_load _ _ _ _ _ _ Try.underlying3 rfl rfl rfl (Nat.le_of_ble_eq_true rfl) rfl rfl rfl),
                      st_run 15 22 true rfl rfl rfl (List.Mem.head _) (op_fieldAddr _ _ _ _ 1 0 _ Try.underlying24 rfl sz3 rfl rfl (by decide)),
                      st_run 15 22 true rfl rfl rfl (List.Mem.head _) (op_load _ _ _ _ _ _ Try.underlying3 rfl rfl rfl (Nat.le_of_ble_eq_true rfl) rfl rfl rfl),
                      st_run 15 22 true rfl rfl rfl (List.Mem.head _) (op_fieldAddr _ _ _ _ 1 0 _ Try.underlying24 rfl sz3 rfl rfl (by decide)),
                      st_run 15 22 true rfl rfl rfl (List.Mem.head _) (op_load _ _ _ _ _ _ Try.underlying3 rfl rfl rfl (Nat.le_of_ble_eq_true rfl) rfl rfl rfl),
                      st_run 15 22 true rfl rfl rfl (List.Mem.head _) (op_bin _ _ _ _ _ rfl rfl (ibind (f := Value.int .i64) (Option.some.inj hv5))),
                      st_run 15 22 true rfl rfl rfl (List.Mem.head _) (op_move _ _ _ _ rfl rfl),
                      st_run 15 22 true rfl rfl rfl (List.Mem.head _) ((Option.some.inj hv6) ▸ op_min _ _ _ _ rfl rfl),
                      st_run 15 22 true rfl rfl rfl (List.Mem.head _) (op_call _ _ 30 _ _ rfl Try.call30 rfl (ok_wherryref18_in s.Next s.Base v6 _ hv7) rfl rfl),
                      st_plain rfl (op_pick _ _ true _ rfl rfl),
                      st_plain rfl (op_move _ _ _ _ (congrArg (fun b => AV.v (Value.bool b)) hg2_27) rfl),
                      st_run 27 34 true rfl rfl rfl (List.Mem.head _) (op_fieldAddr _ _ _ _ 1 0 _ Try.underlying24 rfl sz3 rfl rfl (by decide)),
                      st_run 27 34 true rfl rfl rfl (List.Mem.head _) (op_load _ _ _ _ _ _ Try.underlying3 rfl rfl rfl (Nat.le_of_ble_eq_true rfl) rfl rfl rfl),
                      st_run 27 34 true rfl rfl rfl (List.Mem.head _) (op_call _ _ 30 _ _ rfl Try.call30 rfl (ok_wherryref18_in s.Wait 0 3 _ hv8) rfl rfl),
                      st_plain rfl (op_pick _ _ true _ rfl rfl),
                      st_plain rfl (op_move _ _ _ _ (congrArg (fun b => AV.v (Value.bool b)) hg2_32) rfl),
                      st_run 32 39 true rfl rfl rfl (List.Mem.head _) (op_fieldAddr _ _ _ _ 1 0 _ Try.underlying24 rfl sz4 rfl rfl (by decide)),
                      st_run 32 39 true rfl rfl rfl (List.Mem.head _) (op_load _ _ _ _ _ _ Try.underlying4 rfl rfl rfl (Nat.le_of_ble_eq_true rfl) rfl rfl rfl),
                      st_run 32 39 true rfl rfl rfl (List.Mem.head _) (op_move _ _ _ _ (congrArg (fun b => AV.v (Value.bool b)) hg2_35) rfl),
                      st_run 35 42 false rfl rfl rfl (List.Mem.head _) (op_fieldAddr _ _ _ _ 1 0 _ Try.underlying24 rfl sz3 rfl rfl (by decide)),
                      st_run 35 42 false rfl rfl rfl (List.Mem.head _) (op_load _ _ _ _ _ _ Try.underlying3 rfl rfl rfl (Nat.le_of_ble_eq_true rfl) rfl rfl rfl),
                      st_run 35 42 false rfl rfl rfl (List.Mem.head _) (op_bin _ _ _ _ _ rfl rfl rfl),
                      st_run 35 42 false rfl rfl rfl (List.Mem.head _) (op_move _ _ _ _ (congrArg (fun b => AV.v (Value.bool b)) hg2_39) rfl),
                      st_skip 39 46 _ true rfl rfl rfl rfl (List.Mem.head _),
                      st_skip 39 46 _ true rfl rfl rfl rfl (List.Mem.head _),
                      st_skip 39 46 _ true rfl rfl rfl rfl (List.Mem.head _),
                      st_run 35 42 false rfl rfl rfl (List.Mem.head _) (op_pick _ _ false _ rfl rfl),
                      st_run 32 39 true rfl rfl rfl (List.Mem.head _) (op_pick _ _ false _ rfl rfl),
                      st_plain rfl (op_pick _ _ true _ rfl rfl),
                      st_plain rfl (op_assign _ _ _ _ rfl rfl),
                      trivial⟩ ?_
                  exact hl11 _ (Option.some.inj h).symm
            · refine ht_seqR hn (El := (_ :: _ :: (7, .ptr 1 0) :: (8, .v (.int .i64 s.Number)) :: (9, .v (.bool v2)) :: (10, .v (.bool true)) :: (11, .ptr 1 1) :: (12, .fl .shr 1 (List.map (Value.int .u8) s.Data)) :: (13, .v (.int .i64 (s.Data.length : Int))) :: (14, .v (.bool v3)) :: (15, .v (.bool v3)) :: (16, .v (.bool true)) :: (17, .ptr 1 3) :: (18, .v (.int .i64 s.Base)) :: (19, .v (.int .i64 v1)) :: (20, .v (.bool v4)) :: (21, .v (.bool v4)) :: (22, .v (.bool true)) :: (23, .ptr 1 4) :: (24, .v (.int .i64 s.Next)) :: (25, .ptr 1 3) :: (26, .v (.int .i64 s.Base)) :: (27, .ptr 1 3) :: (28, .v (.int .i64 s.Base)) :: (29, .v (.int .i64 v5)) :: (30, .v (.int .i64 v1)) :: (31, .v (.int .i64 v6)) :: (32, .v (.bool v7)) :: (33, .v (.bool v7)) :: (34, .v (.bool true)) :: (35, .ptr 1 5) :: (36, .v (.int .i64 s.Wait)) :: (37, .v (.bool v8)) :: (38, .v (.bool v8)) :: (39, .v (.bool false)) :: (40, .v undef) :: (41, .v undef) :: (42, .v undef) :: (43, .v undef) :: (44, .v undef) :: (45, .v undef) :: (46, .v undef) :: (47, .v undef) :: (48, .v undef) :: (49, .v undef) :: (50, .v undef) :: (51, .v undef) :: (52, .v (.bool false)) :: (2, .v (.bool false)) :: [])) (init := [0, 1]) (fin := [48]) (sps := (⟨[0], [], [2], [(.slot 7)]⟩ :: ⟨[2, 0], [], [3], [(.slot 8)]⟩ :: ⟨[3], [], [4], [(.slot 9)]⟩ :: ⟨[4], [], [5], [(.slot 10)]⟩ :: ⟨[5, 0], [], [6], [(.slot 11)]⟩ :: ⟨[5, 6, 0], [], [7], [(.slot 12)]⟩ :: ⟨[5, 7], [], [8], [(.slot 13)]⟩ :: ⟨[5, 8], [], [9], [(.slot 14)]⟩ :: ⟨[5, 9], [], [10], [(.slot 15)]⟩ :: ⟨[10], [], [11], [(.slot 16)]⟩ :: ⟨[11, 0], [], [12], [(.slot 17)]⟩ :: ⟨[11, 12, 0], [], [13], [(.slot 18)]⟩ :: ⟨[11, 1], [], [14], [(.slot 19)]⟩ :: ⟨[11, 13, 14], [], [15], [(.slot 20)]⟩ :: ⟨[11, 15], [], [16], [(.slot 21)]⟩ :: ⟨[16], [], [17], [(.slot 22)]⟩ :: ⟨[17, 0], [], [18], [(.slot 23)]⟩ :: ⟨[17, 18, 0], [], [19], [(.slot 24)]⟩ :: ⟨[17, 0], [], [20], [(.slot 25)]⟩ :: ⟨[17, 20, 0], [], [21], [(.slot 26)]⟩ :: ⟨[17, 0], [], [22], [(.slot 27)]⟩ :: ⟨[17, 22, 0], [], [23], [(.slot 28)]⟩ :: ⟨[17, 23], [], [24], [(.slot 29)]⟩ :: ⟨[17, 1], [], [25], [(.slot 30)]⟩ :: ⟨[17, 24, 25], [], [26], [(.slot 31)]⟩ :: ⟨[17, 19, 21, 26], [], [27], [(.slot 32)]⟩ :: ⟨[17, 27], [], [28], [(.slot 33)]⟩ :: ⟨[28], [], [29], [(.slot 34)]⟩ :: ⟨[29, 0], [], [30], [(.slot 35)]⟩ :: ⟨[29, 30, 0], [], [31], [(.slot 36)]⟩ :: ⟨[29, 31], [], [32], [(.slot 37)]⟩ :: ⟨[29, 32], [], [33], [(.slot 38)]⟩ :: ⟨[33], [], [34], [(.slot 39)]⟩ :: ⟨[34], [], [35], [(.slot 40)]⟩ :: ⟨[34], [], [36], [(.slot 41)]⟩ :: ⟨[34], [], [37], [(.slot 42)]⟩ :: ⟨[37], [], [38], [(.slot 43)]⟩ :: ⟨[37], [], [39], [(.slot 44)]⟩ :: ⟨[37], [], [40], [(.slot 45)]⟩ :: ⟨[37], [], [41], [(.slot 46)]⟩ :: ⟨[41], [], [42], [(.slot 47)]⟩ :: ⟨[41], [], [43], [(.slot 48)]⟩ :: ⟨[41], [], [44], [(.slot 49)]⟩ :: ⟨[37], [], [45], [(.slot 50)]⟩ :: ⟨[34], [], [46], [(.slot 51)]⟩ :: ⟨[34], [], [47], [(.slot 52)]⟩ :: ⟨[47], [], [48], [(.slot 2)]⟩ :: [])) (es' := [(2, .v (.bool false))]) (by kernel_rfl) rfl rfl
                ⟨st_plain rfl (op_fieldAddr _ _ _ _ 1 0 _ Try.underlying24 rfl sz3 rfl rfl (by decide)),
                  st_plain rfl (op_load _ _ _ _ _ _ Try.underlying3 rfl rfl rfl (Nat.le_of_ble_eq_true rfl) rfl rfl rfl),
                  st_plain rfl (op_call _ _ 30 _ _ rfl Try.call30 rfl (ok_wherryref18_in s.Number 1 65535 _ hv2) rfl rfl),
                  st_plain rfl (op_move _ _ _ _ (congrArg (fun b => AV.v (Value.bool b)) hg2_3) rfl),
                  st_run 3 10 true rfl rfl rfl (List.Mem.head _) (op_fieldAddr _ _ _ _ 1 0 _ Try.underlying24 rfl sz22 rfl rfl (by decide)),
                  st_run 3 10 true rfl rfl rfl (List.Mem.head _) (op_load _ _ _ _ _ _ Try.underlying22 rfl rfl rfl (Nat.le_of_ble_eq_true rfl) rfl rfl rfl),
                  st_run 3 10 true rfl rfl rfl (List.Mem.head _) (op_len_fl _ _ _ Try.underlying22 rfl (by decide) (map_len _)),
                  st_run 3 10 true rfl rfl rfl (List.Mem.head _) (op_call _ _ 30 _ _ rfl Try.call30 rfl (ok_wherryref18_in (s.Data.length : Int) 1 5000 _ hv3) rfl rfl),
                  st_plain rfl (op_pick _ _ true _ rfl rfl),
                  st_plain rfl (op_move _ _ _ _ (congrArg (fun b => AV.v (Value.bool b)) hg2_9) rfl),
                  st_run 9 16 true rfl rfl rfl (List.Mem.head _) (op_fieldAddr _ _ _ _ 1 0 _ Try.underlying24 rfl sz3 rfl rfl (by decide)),
                  st_run 9 16 true rfl rfl rfl (List.Mem.head _) (op_load _ _ _ _ _ _ Try.underlying3 rfl rfl rfl (Nat.le_of_ble_eq_true rfl) rfl rfl rfl),
                  st_run 9 16 true rfl rfl rfl (List.Mem.head _) (op_move _ _ _ _ rfl rfl),
                  st_run 9 16 true rfl rfl rfl (List.Mem.head _) (op_call _ _ 30 _ _ rfl Try.call30 rfl (ok_wherryref18_in s.Base 0 v1 _ hv4) rfl rfl),
                  st_plain rfl (op_pick _ _ true _ rfl rfl),
                  st_plain rfl (op_move _ _ _ _ (congrArg (fun b => AV.v (Value.bool b)) hg2_15) rfl),
                  st_run 15 22 true rfl rfl rfl (List.Mem.head _) (op_fieldAddr _ _ _ _ 1 0 _ Try.underlying24 rfl sz3 rfl rfl (by decide)),
                  st_run 15 22 true rfl rfl rfl (List.Mem.head _) (op_load _ _ _ _ _ _ Try.underlying3 rfl rfl rfl (Nat.le_of_ble_eq_true rfl) rfl rfl rfl),
                  st_run 15 22 true rfl rfl rfl (List.Mem.head _) (op_fieldAddr _ _ _ _ 1 0 _ Try.underlying24 rfl sz3 rfl rfl (by decide)),
                  st_run 15 22 true rfl rfl rfl (List.Mem.head _) (op_load _ _ _ _ _ _ Try.underlying3 rfl rfl rfl (Nat.le_of_ble_eq_true rfl) rfl rfl rfl),
                  st_run 15 22 true rfl rfl rfl (List.Mem.head _) (op_fieldAddr _ _ _ _ 1 0 _ Try.underlying24 rfl sz3 rfl rfl (by decide)),
                  st_run 15 22 true rfl rfl rfl (List.Mem.head _) (op_load _ _ _ _ _ _ Try.underlying3 rfl rfl rfl (Nat.le_of_ble_eq_true rfl) rfl rfl rfl),
                  st_run 15 22 true rfl rfl rfl (List.Mem.head _) (op_bin _ _ _ _ _ rfl rfl (ibind (f := Value.int .i64) (Option.some.inj hv5))),
                  st_run 15 22 true rfl rfl rfl (List.Mem.head _) (op_move _ _ _ _ rfl rfl),
                  st_run 15 22 true rfl rfl rfl (List.Mem.head _) ((Option.some.inj hv6) ▸ op_min _ _ _ _ rfl rfl),
                  st_run 15 22 true rfl rfl rfl (List.Mem.head _) (op_call _ _ 30 _ _ rfl Try.call30 rfl (ok_wherryref18_in s.Next s.Base v6 _ hv7) rfl rfl),
                  st_plain rfl (op_pick _ _ true _ rfl rfl),
                  st_plain rfl (op_move _ _ _ _ (congrArg (fun b => AV.v (Value.bool b)) hg2_27) rfl),
                  st_run 27 34 true rfl rfl rfl (List.Mem.head _) (op_fieldAddr _ _ _ _ 1 0 _ Try.underlying24 rfl sz3 rfl rfl (by decide)),
                  st_run 27 34 true rfl rfl rfl (List.Mem.head _) (op_load _ _ _ _ _ _ Try.underlying3 rfl rfl rfl (Nat.le_of_ble_eq_true rfl) rfl rfl rfl),
                  st_run 27 34 true rfl rfl rfl (List.Mem.head _) (op_call _ _ 30 _ _ rfl Try.call30 rfl (ok_wherryref18_in s.Wait 0 3 _ hv8) rfl rfl),
                  st_plain rfl (op_pick _ _ true _ rfl rfl),
                  st_plain rfl (op_move _ _ _ _ (congrArg (fun b => AV.v (Value.bool b)) hg2_32) rfl),
                  st_skip 32 39 _ true rfl rfl rfl rfl (List.Mem.head _),
                  st_skip 32 39 _ true rfl rfl rfl rfl (List.Mem.head _),
                  st_skip 32 39 _ true rfl rfl rfl rfl (List.Mem.head _),
                  st_skipU 35 42 _ false rfl rfl rfl rfl (List.Mem.head _),
                  st_skipU 35 42 _ false rfl rfl rfl rfl (List.Mem.head _),
                  st_skipU 35 42 _ false rfl rfl rfl rfl (List.Mem.head _),
                  st_skipU 35 42 _ false rfl rfl rfl rfl (List.Mem.head _),
                  st_skipU 39 46 _ true rfl rfl rfl rfl (List.Mem.head _),
                  st_skipU 39 46 _ true rfl rfl rfl rfl (List.Mem.head _),
                  st_skipU 39 46 _ true rfl rfl rfl rfl (List.Mem.head _),
                  st_skipU 35 42 _ false rfl rfl rfl rfl (List.Mem.head _),
                  st_skip 32 39 _ true rfl rfl rfl rfl (List.Mem.head _),
                  st_plain rfl (op_pick _ _ false _ rfl rfl),
                  st_plain rfl (op_assign _ _ _ _ rfl rfl),
                  trivial⟩ ?_
              exact hl11 _ (Option.some.inj h).symm
          · refine ht_seqR hn (El := (_ :: _ :: (7, .ptr 1 0) :: (8, .v (.int .i64 s.Number)) :: (9, .v (.bool v2)) :: (10, .v (.bool true)) :: (11, .ptr 1 1) :: (12, .fl .shr 1 (List.map (Value.int .u8) s.Data)) :: (13, .v (.int .i64 (s.Data.length : Int))) :: (14, .v (.bool v3)) :: (15, .v (.bool v3)) :: (16, .v (.bool true)) :: (17, .ptr 1 3) :: (18, .v (.int .i64 s.Base)) :: (19, .v (.int .i64 v1)) :: (20, .v (.bool v4)) :: (21, .v (.bool v4)) :: (22, .v (.bool true)) :: (23, .ptr 1 4) :: (24, .v (.int .i64 s.Next)) :: (25, .ptr 1 3) :: (26, .v (.int .i64 s.Base)) :: (27, .ptr 1 3) :: (28, .v (.int .i64 s.Base)) :: (29, .v (.int .i64 v5)) :: (30, .v (.int .i64 v1)) :: (31, .v (.int .i64 v6)) :: (32, .v (.bool v7)) :: (33, .v (.bool v7)) :: (34, .v (.bool false)) :: (35, .v undef) :: (36, .v undef) :: (37, .v undef) :: (38, .v (.bool false)) :: (39, .v (.bool false)) :: (40, .v undef) :: (41, .v undef) :: (42, .v undef) :: (43, .v undef) :: (44, .v undef) :: (45, .v undef) :: (46, .v undef) :: (47, .v undef) :: (48, .v undef) :: (49, .v undef) :: (50, .v undef) :: (51, .v undef) :: (52, .v (.bool false)) :: (2, .v (.bool false)) :: [])) (init := [0, 1]) (fin := [48]) (sps := (⟨[0], [], [2], [(.slot 7)]⟩ :: ⟨[2, 0], [], [3], [(.slot 8)]⟩ :: ⟨[3], [], [4], [(.slot 9)]⟩ :: ⟨[4], [], [5], [(.slot 10)]⟩ :: ⟨[5, 0], [], [6], [(.slot 11)]⟩ :: ⟨[5, 6, 0], [], [7], [(.slot 12)]⟩ :: ⟨[5, 7], [], [8], [(.slot 13)]⟩ :: ⟨[5, 8], [], [9], [(.slot 14)]⟩ :: ⟨[5, 9], [], [10], [(.slot 15)]⟩ :: ⟨[10], [], [11], [(.slot 16)]⟩ :: ⟨[11, 0], [], [12], [(.slot 17)]⟩ :: ⟨[11, 12, 0], [], [13], [(.slot 18)]⟩ :: ⟨[11, 1], [], [14], [(.slot 19)]⟩ :: ⟨[11, 13, 14], [], [15], [(.slot 20)]⟩ :: ⟨[11, 15], [], [16], [(.slot 21)]⟩ :: ⟨[16], [], [17], [(.slot 22)]⟩ :: ⟨[17, 0], [], [18], [(.slot 23)]⟩ :: ⟨[17, 18, 0], [], [19], [(.slot 24)]⟩ :: ⟨[17, 0], [], [20], [(.slot 25)]⟩ :: ⟨[17, 20, 0], [], [21], [(.slot 26)]⟩ :: ⟨[17, 0], [], [22], [(.slot 27)]⟩ :: ⟨[17, 22, 0], [], [23], [(.slot 28)]⟩ :: ⟨[17, 23], [], [24], [(.slot 29)]⟩ :: ⟨[17, 1], [], [25], [(.slot 30)]⟩ :: ⟨[17, 24, 25], [], [26], [(.slot 31)]⟩ :: ⟨[17, 19, 21, 26], [], [27], [(.slot 32)]⟩ :: ⟨[17, 27], [], [28], [(.slot 33)]⟩ :: ⟨[28], [], [29], [(.slot 34)]⟩ :: ⟨[29], [], [30], [(.slot 35)]⟩ :: ⟨[29], [], [31], [(.slot 36)]⟩ :: ⟨[29], [], [32], [(.slot 37)]⟩ :: ⟨[29], [], [33], [(.slot 38)]⟩ :: ⟨[33], [], [34], [(.slot 39)]⟩ :: ⟨[34], [], [35], [(.slot 40)]⟩ :: ⟨[34], [], [36], [(.slot 41)]⟩ :: ⟨[34], [], [37], [(.slot 42)]⟩ :: ⟨[37], [], [38], [(.slot 43)]⟩ :: ⟨[37], [], [39], [(.slot 44)]⟩ :: ⟨[37], [], [40], [(.slot 45)]⟩ :: ⟨[37], [], [41], [(.slot 46)]⟩ :: ⟨[41], [], [42], [(.slot 47)]⟩ :: ⟨[41], [], [43], [(.slot 48)]⟩ :: ⟨[41], [], [44], [(.slot 49)]⟩ :: ⟨[37], [], [45], [(.slot 50)]⟩ :: ⟨[34], [], [46], [(.slot 51)]⟩ :: ⟨[34], [], [47], [(.slot 52)]⟩ :: ⟨[47], [], [48], [(.slot 2)]⟩ :: [])) (es' := [(2, .v (.bool false))]) (by kernel_rfl) rfl rfl
              ⟨st_plain rfl (op_fieldAddr _ _ _ _ 1 0 _ Try.underlying24 rfl sz3 rfl rfl (by decide)),
                st_plain rfl (op_load _ _ _ _ _ _ Try.underlying3 rfl rfl rfl (Nat.le_of_ble_eq_true rfl) rfl rfl rfl),
                st_plain rfl (op_call _ _ 30 _ _ rfl Try.call30 rfl (ok_wherryref18_in s.Number 1 65535 _ hv2) rfl rfl),
                st_plain rfl (op_move _ _ _ _ (congrArg (fun b => AV.v (Value.bool b)) hg2_3) rfl),
                st_run 3 10 true rfl rfl rfl (List.Mem.head _) (op_fieldAddr _ _ _ _ 1 0 _ Try.underlying24 rfl sz22 rfl rfl (by decide)),
                st_run 3 10 true rfl rfl rfl (List.Mem.head _) (op_load _ _ _ _ _ _ Try.underlying22 rfl rfl rfl (Nat.le_of_ble_eq_true rfl) rfl rfl rfl),
                st_run 3 10 true rfl rfl rfl (List.Mem.head _) (op_len_fl _ _ _ Try.underlying22 rfl (by decide) (map_len _)),
                st_run 3 10 true rfl rfl rfl (List.Mem.head _) (op_call _ _ 30 _ _ rfl Try.call30 rfl (ok_wherryref18_in (s.Data.length : Int) 1 5000 _ hv3) rfl rfl),
                st_plain rfl (op_pick _ _ true _ rfl rfl),
                st_plain rfl (op_move _ _ _ _ (congrArg (fun b => AV.v (Value.bool b)) hg2_9) rfl),
                st_run 9 16 true rfl rfl rfl (List.Mem.head _) (op_fieldAddr _ _ _ _ 1 0 _ Try.underlying24 rfl sz3 rfl rfl (by decide)),
                st_run 9 16 true rfl rfl rfl (List.Mem.head _) (op_load _ _ _ _ _ _ Try.underlying3 rfl rfl rfl (Nat.le_of_ble_eq_true rfl) rfl rfl rfl),
                st_run 9 16 true rfl rfl rfl (List.Mem.head _) (op_move _ _ _ _ rfl rfl),
                st_run 9 16 true rfl rfl rfl (List.Mem.head _) (op_call _ _ 30 _ _ rfl Try.call30 rfl (ok_wherryref18_in s.Base 0 v1 _ hv4) rfl rfl),
                st_plain rfl (op_pick _ _ true _ rfl rfl),
                st_plain rfl (op_move _ _ _ _ (congrArg (fun b => AV.v (Value.bool b)) hg2_15) rfl),
                st_run 15 22 true rfl rfl rfl (List.Mem.head _) (op_fieldAddr _ _ _ _ 1 0 _ Try.underlying24 rfl sz3 rfl rfl (by decide)),
                st_run 15 22 true rfl rfl rfl (List.Mem.head _) (op_load _ _ _ _ _ _ Try.underlying3 rfl rfl rfl (Nat.le_of_ble_eq_true rfl) rfl rfl rfl),
                st_run 15 22 true rfl rfl rfl (List.Mem.head _) (op_fieldAddr _ _ _ _ 1 0 _ Try.underlying24 rfl sz3 rfl rfl (by decide)),
                st_run 15 22 true rfl rfl rfl (List.Mem.head _) (op_load _ _ _ _ _ _ Try.underlying3 rfl rfl rfl (Nat.le_of_ble_eq_true rfl) rfl rfl rfl),
                st_run 15 22 true rfl rfl rfl (List.Mem.head _) (op_fieldAddr _ _ _ _ 1 0 _ Try.underlying24 rfl sz3 rfl rfl (by decide)),
                st_run 15 22 true rfl rfl rfl (List.Mem.head _) (op_load _ _ _ _ _ _ Try.underlying3 rfl rfl rfl (Nat.le_of_ble_eq_true rfl) rfl rfl rfl),
                st_run 15 22 true rfl rfl rfl (List.Mem.head _) (op_bin _ _ _ _ _ rfl rfl (ibind (f := Value.int .i64) (Option.some.inj hv5))),
                st_run 15 22 true rfl rfl rfl (List.Mem.head _) (op_move _ _ _ _ rfl rfl),
                st_run 15 22 true rfl rfl rfl (List.Mem.head _) ((Option.some.inj hv6) ▸ op_min _ _ _ _ rfl rfl),
                st_run 15 22 true rfl rfl rfl (List.Mem.head _) (op_call _ _ 30 _ _ rfl Try.call30 rfl (ok_wherryref18_in s.Next s.Base v6 _ hv7) rfl rfl),
                st_plain rfl (op_pick _ _ true _ rfl rfl),
                st_plain rfl (op_move _ _ _ _ (congrArg (fun b => AV.v (Value.bool b)) hg2_27) rfl),
                st_skip 27 34 _ true rfl rfl rfl rfl (List.Mem.head _),
                st_skip 27 34 _ true rfl rfl rfl rfl (List.Mem.head _),
                st_skip 27 34 _ true rfl rfl rfl rfl (List.Mem.head _),
                st_plain rfl (op_pick _ _ false _ rfl rfl),
                st_plain rfl (op_move _ _ _ _ rfl rfl),
                st_skip 32 39 _ true rfl rfl rfl rfl (List.Mem.head _),
                st_skip 32 39 _ true rfl rfl rfl rfl (List.Mem.head _),
                st_skip 32 39 _ true rfl rfl rfl rfl (List.Mem.head _),
                st_skipU 35 42 _ false rfl rfl rfl rfl (List.Mem.head _),
                st_skipU 35 42 _ false rfl rfl rfl rfl (List.Mem.head _),
                st_skipU 35 42 _ false rfl rfl rfl rfl (List.Mem.head _),
                st_skipU 35 42 _ false rfl rfl rfl rfl (List.Mem.head _),
                st_skipU 39 46 _ true rfl rfl rfl rfl (List.Mem.head _),
                st_skipU 39 46 _ true rfl rfl rfl rfl (List.Mem.head _),
                st_skipU 39 46 _ true rfl rfl rfl rfl (List.Mem.head _),
                st_skipU 35 42 _ false rfl rfl rfl rfl (List.Mem.head _),
                st_skip 32 39 _ true rfl rfl rfl rfl (List.Mem.head _),
                st_plain rfl (op_pick _ _ false _ rfl rfl),
                st_plain rfl (op_assign _ _ _ _ rfl rfl),
                trivial⟩ ?_
            exact hl11 _ (Option.some.inj h).symm
        · refine ht_seqR hn (El := (_ :: _ :: (7, .ptr 1 0) :: (8, .v (.int .i64 s.Number)) :: (9, .v (.bool v2)) :: (10, .v (.bool true)) :: (11, .ptr 1 1) :: (12, .fl .shr 1 (List.map (Value.int .u8) s.Data)) :: (13, .v (.int .i64 (s.Data.length : Int))) :: (14, .v (.bool v3)) :: (15, .v (.bool v3)) :: (16, .v (.bool true)) :: (17, .ptr 1 3) :: (18, .v (.int .i64 s.Base)) :: (19, .v (.int .i64 v1)) :: (20, .v (.bool v4)) :: (21, .v (.bool v4)) :: (22, .v (.bool false)) :: (23, .v undef) :: (24, .v undef) :: (25, .v undef) :: (26, .v undef) :: (27, .v undef) :: (28, .v undef) :: (29, .v undef) :: (30, .v undef) :: (31, .v undef) :: (32, .v undef) :: (33, .v (.bool false)) :: (34, .v (.bool false)) :: (35, .v undef) :: (36, .v undef) :: (37, .v undef) :: (38, .v (.bool false)) :: (39, .v (.bool false)) :: (40, .v undef) :: (41, .v undef) :: (42, .v undef) :: (43, .v undef) :: (44, .v undef) :: (45, .v undef) :: (46, .v undef) :: (47, .v undef) :: (48, .v undef) :: (49, .v undef) :: (50, .v undef) :: (51, .v undef) :: (52, .v (.bool false)) :: (2, .v (.bool false)) :: [])) (init := [0, 1]) (fin := [48]) (sps := (⟨[0], [], [2], [(.slot 7)]⟩ :: ⟨[2, 0], [], [3], [(.slot 8)]⟩ :: ⟨[3], [], [4], [(.slot 9)]⟩ :: ⟨[4], [], [5], [(.slot 10)]⟩ :: ⟨[5, 0], [], [6], [(.slot 11)]⟩ :: ⟨[5, 6, 0], [], [7], [(.slot 12)]⟩ :: ⟨[5, 7], [], [8], [(.slot 13)]⟩ :: ⟨[5, 8], [], [9], [(.slot 14)]⟩ :: ⟨[5, 9], [], [10], [(.slot 15)]⟩ :: ⟨[10], [], [11], [(.slot 16)]⟩ :: ⟨[11, 0], [], [12], [(.slot 17)]⟩ :: ⟨[11, 12, 0], [], [13], [(.slot 18)]⟩ :: ⟨[11, 1], [], [14], [(.slot 19)]⟩ :: ⟨[11, 13, 14], [], [15], [(.slot 20)]⟩ :: ⟨[11, 15], [], [16], [(.slot 21)]⟩ :: ⟨[16], [], [17], [(.slot 22)]⟩ :: ⟨[17], [], [18], [(.slot 23)]⟩ :: ⟨[17], [], [19], [(.slot 24)]⟩ :: ⟨[17], [], [20], [(.slot 25)]⟩ :: ⟨[17], [], [21], [(.slot 26)]⟩ :: ⟨[17], [], [22], [(.slot 27)]⟩ :: ⟨[17], [], [23], [(.slot 28)]⟩ :: ⟨[17], [], [24], [(.slot 29)]⟩ :: ⟨[17], [], [25], [(.slot 30)]⟩ :: ⟨[17], [], [26], [(.slot 31)]⟩ :: ⟨[17], [], [27], [(.slot 32)]⟩ :: ⟨[17], [], [28], [(.slot 33)]⟩ :: ⟨[28], [], [29], [(.slot 34)]⟩ :: ⟨[29], [], [30], [(.slot 35)]⟩ :: ⟨[29], [], [31], [(.slot 36)]⟩ :: ⟨[29], [], [32], [(.slot 37)]⟩ :: ⟨[29], [], [33], [(.slot 38)]⟩ :: ⟨[33], [], [34], [(.slot 39)]⟩ :: ⟨[34], [], [35], [(.slot 40)]⟩ :: ⟨[34], [], [36], [(.slot 41)]⟩ :: ⟨[34], [], [37], [(.slot 42)]⟩ :: ⟨[37], [], [38], [(.slot 43)]⟩ :: ⟨[37], [], [39], [(.slot 44)]⟩ :: ⟨[37], [], [40], [(.slot 45)]⟩ :: ⟨[37], [], [41], [(.slot 46)]⟩ :: ⟨[41], [], [42], [(.slot 47)]⟩ :: ⟨[41], [], [43], [(.slot 48)]⟩ :: ⟨[41], [], [44], [(.slot 49)]⟩ :: ⟨[37], [], [45], [(.slot 50)]⟩ :: ⟨[34], [], [46], [(.slot 51)]⟩ :: ⟨[34], [], [47], [(.slot 52)]⟩ :: ⟨[47], [], [48], [(.slot 2)]⟩ :: [])) (es' := [(2, .v (.bool false))]) (by kernel_rfl) rfl rfl
            ⟨st_plain rfl (op_fieldAddr _ _ _ _ 1 0 _ Try.underlying24 rfl sz3 rfl rfl (by decide)),
              st_plain rfl (op_load _ _ _ _ _ _ Try.underlying3 rfl rfl rfl (Nat.le_of_ble_eq_true rfl) rfl rfl rfl),
              st_plain rfl (op_call _ _ 30 _ _ rfl Try.call30 rfl (ok_wherryref18_in s.Number 1 65535 _ hv2) rfl rfl),
              st_plain rfl (op_move _ _ _ _ (congrArg (fun b => AV.v (Value.bool b)) hg2_3) rfl),
              st_run 3 10 true rfl rfl rfl (List.Mem.head _) (op_fieldAddr _ _ _ _ 1 0 _ Try.underlying24 rfl sz22 rfl rfl (by decide)),
              st_run 3 10 true rfl rfl rfl (List.Mem.head _) (op_load _ _ _ _ _ _ Try.underlying22 rfl rfl rfl (Nat.le_of_ble_eq_true rfl) rfl rfl rfl),
              st_run 3 10 true rfl rfl rfl (List.Mem.head _) (op_len_fl _ _ _ Try.underlying22 rfl (by decide) (map_len _)),
              st_run 3 10 true rfl rfl rfl (List.Mem.head _) (op_call _ _ 30 _ _ rfl Try.call30 rfl (ok_wherryref18_in (s.Data.length : Int) 1 5000 _ hv3) rfl rfl),
              st_plain rfl (op_pick _ _ true _ rfl rfl),
              st_plain rfl (op_move _ _ _ _ (congrArg (fun b => AV.v (Value.bool b)) hg2_9) rfl),
              st_run 9 16 true rfl rfl rfl (List.Mem.head _) (op_fieldAddr _ _ _ _ 1 0 _ Try.underlying24 rfl sz3 rfl rfl (by decide)),
              st_run 9 16 true rfl rfl rfl (List.Mem.head _) (op_load _ _ _ _ _ _ Try.underlying3 rfl rfl rfl (Nat.le_of_ble_eq_true rfl) rfl rfl rfl),
              st_run 9 16 true rfl rfl rfl (List.Mem.head _) (op_move _ _ _ _ rfl rfl),
              st_run 9 16 true rfl rfl rfl (List.Mem.head _) (op_call _ _ 30 _ _ rfl Try.call30 rfl (ok_wherryref18_in s.Base 0 v1 _ hv4) rfl rfl),
              st_plain rfl (op_pick _ _ true _ rfl rfl),
              st_plain rfl (op_move _ _ _ _ (congrArg (fun b => AV.v (Value.bool b)) hg2_15) rfl),
              st_skip 15 22 _ true rfl rfl rfl rfl (List.Mem.head _),
              st_skip 15 22 _ true rfl rfl rfl rfl (List.Mem.head _),
              st_skip 15 22 _ true rfl rfl rfl rfl (List.Mem.head _),
              st_skip 15 22 _ true rfl rfl rfl rfl (List.Mem.head _),
              st_skip 15 22 _ true rfl rfl rfl rfl (List.Mem.head _),
              st_skip 15 22 _ true rfl rfl rfl rfl (List.Mem.head _),
              st_skip 15 22 _ true rfl rfl rfl rfl (List.Mem.head _),
              st_skip 15 22 _ true rfl rfl rfl rfl (List.Mem.head _),
              st_skip 15 22 _ true rfl rfl rfl rfl (List.Mem.head _),
              st_skip 15 22 _ true rfl rfl rfl rfl (List.Mem.head _),
              st_plain rfl (op_pick _ _ false _ rfl rfl),
              st_plain rfl (op_move _ _ _ _ rfl rfl),
              st_skip 27 34 _ true rfl rfl rfl rfl (List.Mem.head _),
              st_skip 27 34 _ true rfl rfl rfl rfl (List.Mem.head _),
              st_skip 27 34 _ true rfl rfl rfl rfl (List.Mem.head _),
              st_plain rfl (op_pick _ _ false _ rfl rfl),
              st_plain rfl (op_move _ _ _ _ rfl rfl),
              st_skip 32 39 _ true rfl rfl rfl rfl (List.Mem.head _),
              st_skip 32 39 _ true rfl rfl rfl rfl (List.Mem.head _),
              st_skip 32 39 _ true rfl rfl rfl rfl (List.Mem.head _),
              st_skipU 35 42 _ false rfl rfl rfl rfl (List.Mem.head _),
              st_skipU 35 42 _ false rfl rfl rfl rfl (List.Mem.head _),
              st_skipU 35 42 _ false rfl rfl rfl rfl (List.Mem.head _),
              st_skipU 35 42 _ false rfl rfl rfl rfl (List.Mem.head _),
              st_skipU 39 46 _ true rfl rfl rfl rfl (List.Mem.head _),
              st_skipU 39 46 _ true rfl rfl rfl rfl (List.Mem.head _),
              st_skipU 39 46 _ true rfl rfl rfl rfl (List.Mem.head _),
              st_skipU 35 42 _ false rfl rfl rfl rfl (List.Mem.head _),
              st_skip 32 39 _ true rfl rfl rfl rfl (List.Mem.head _),
              st_plain rfl (op_pick _ _ false _ rfl rfl),
              st_plain rfl (op_assign _ _ _ _ rfl rfl),
              trivial⟩ ?_
          exact hl11 _ (Option.some.inj h).symm
      · refine ht_seqR hn (El := (_ :: _ :: (7, .ptr 1 0) :: (8, .v (.int .i64 s.Number)) :: (9, .v (.bool v2)) :: (10, .v (.bool true)) :: (11, .ptr 1 1) :: (12, .fl .shr 1 (List.map (Value.int .u8) s.Data)) :: (13, .v (.int .i64 (s.Data.length : Int))) :: (14, .v (.bool v3)) :: (15, .v (.bool v3)) :: (16, .v (.bool false)) :: (17, .v undef) :: (18, .v undef) :: (19, .v undef) :: (20, .v undef) :: (21, .v (.bool false)) :: (22, .v (.bool false)) :: (23, .v undef) :: (24, .v undef) :: (25, .v undef) :: (26, .v undef) :: (27, .v undef) :: (28, .v undef) :: (29, .v undef) :: (30, .v undef) :: (31, .v undef) :: (32, .v undef) :: (33, .v (.bool false)) :: (34, .v (.bool false)) :: (35, .v undef) :: (36, .v undef) :: (37, .v undef) :: (38, .v (.bool false)) :: (39, .v (.bool false)) :: (40, .v undef) :: (41, .v undef) :: (42, .v undef) :: (43, .v undef) :: (44, .v undef) :: (45, .v undef) :: (46, .v undef) :: (47, .v undef) :: (48, .v undef) :: (49, .v undef) :: (50, .v undef) :: (51, .v undef) :: (52, .v (.bool false)) :: (2, .v (.bool false)) :: [])) (init := [0, 1]) (fin := [48]) (sps := (⟨[0], [], [2], [(.slot 7)]⟩ :: ⟨[2, 0], [], [3], [(.slot 8)]⟩ :: ⟨[3], [], [4], [(.slot 9)]⟩ :: ⟨[4], [], [5], [(.slot 10)]⟩ :: ⟨[5, 0], [], [6], [(.slot 11)]⟩ :: ⟨[5, 6, 0], [], [7], [(.slot 12)]⟩ :: ⟨[5, 7], [], [8], [(.slot 13)]⟩ :: ⟨[5, 8], [], [9], [(.slot 14)]⟩ :: ⟨[5, 9], [], [10], [(.slot 15)]⟩ :: ⟨[10], [], [11], [(.slot 16)]⟩ :: ⟨[11], [], [12], [(.slot 17)]⟩ :: ⟨[11], [], [13], [(.slot 18)]⟩ :: ⟨[11], [], [14], [(.slot 19)]⟩ :: ⟨[11], [], [15], [(.slot 20)]⟩ :: ⟨[11], [], [16], [(.slot 21)]⟩ :: ⟨[16], [], [17], [(.slot 22)]⟩ :: ⟨[17], [], [18], [(.slot 23)]⟩ :: ⟨[17], [], [19], [(.slot 24)]⟩ :: ⟨[17], [], [20], [(.slot 25)]⟩ :: ⟨[17], [], [21], [(.slot 26)]⟩ :: ⟨[17], [], [22], [(.slot 27)]⟩ :: ⟨[17], [], [23], [(.slot 28)]⟩ :: ⟨[17], [], [24], [(.slot 29)]⟩ :: ⟨[17], [], [25], [(.slot 30)]⟩ :: ⟨[17], [], [26], [(.slot 31)]⟩ :: ⟨[17], [], [27], [(.slot 32)]⟩ :: ⟨[17], [], [28], [(.slot 33)]⟩ :: ⟨[28], [], [29], [(.slot 34)]⟩ :: ⟨[29], [], [30], [(.slot 35)]⟩ :: ⟨[29], [], [31], [(.slot 36)]⟩ :: ⟨[29], [], [32], [(.slot 37)]⟩ :: ⟨[29], [], [33], [(.slot 38)]⟩ :: ⟨[33], [], [34], [(.slot 39)]⟩ :: ⟨[34], [], [35], [(.slot 40)]⟩ :: ⟨[34], [], [36], [(.slot 41)]⟩ :: ⟨[34], [], [37], [(.slot 42)]⟩ :: ⟨[37], [], [38], [(.slot 43)]⟩ :: ⟨[37], [], [39], [(.slot 44)]⟩ :: ⟨[37], [], [40], [(.slot 45)]⟩ :: ⟨[37], [], [41], [(.slot 46)]⟩ :: ⟨[41], [], [42], [(.slot 47)]⟩ :: ⟨[41], [], [43], [(.slot 48)]⟩ :: ⟨[41], [], [44], [(.slot 49)]⟩ :: ⟨[37], [], [45], [(.slot 50)]⟩ :: ⟨[34], [], [46], [(.slot 51)]⟩ :: ⟨[34], [], [47], [(.slot 52)]⟩ :: ⟨[47], [], [48], [(.slot 2)]⟩ :: [])) (es' := [(2, .v (.bool false))]) (by kernel_rfl) rfl rfl
          ⟨st_plain rfl (op_fieldAddr _ _ _ _ 1 0 _ Try.underlying24 rfl sz3 rfl rfl (by decide)),
            st_plain rfl (op_load _ _ _ _ _ _ Try.underlying3 rfl rfl rfl (Nat.le_of_ble_eq_true rfl) rfl rfl rfl),
            st_plain rfl (op_call _ _ 30 _ _ rfl Try.call30 rfl (ok_wherryref18_in s.Number 1 65535 _ hv2) rfl rfl),
            st_plain rfl (op_move _ _ _ _ (congrArg (fun b => AV.v (Value.bool b)) hg2_3) rfl),
            st_run 3 10 true rfl rfl rfl (List.Mem.head _) (op_fieldAddr _ _ _ _ 1 0 _ Try.underlying24 rfl sz22 rfl rfl (by decide)),
            st_run 3 10 true rfl rfl rfl (List.Mem.head _) (op_load _ _ _ _ _ _ Try.underlying22 rfl rfl rfl (Nat.le_of_ble_eq_true rfl) rfl rfl rfl),
            st_run 3 10 true rfl rfl rfl (List.Mem.head _) (op_len_fl _ _ _ Try.underlying22 rfl (by decide) (map_len _)),
            st_run 3 10 true rfl rfl rfl (List.Mem.head _) (op_call _ _ 30 _ _ rfl Try.call30 rfl (ok_wherryref18_in (s.Data.length : Int) 1 5000 _ hv3) rfl rfl),
            st_plain rfl (op_pick _ _ true _ rfl rfl),
            st_plain rfl (op_move _ _ _ _ (congrArg (fun b => AV.v (Value.bool b)) hg2_9) rfl),
            st_skip 9 16 _ true rfl rfl rfl rfl (List.Mem.head _),
            st_skip 9 16 _ true rfl rfl rfl rfl (List.Mem.head _),
            st_skip 9 16 _ true rfl rfl rfl rfl (List.Mem.head _),
            st_skip 9 16 _ true rfl rfl rfl rfl (List.Mem.head _),
            st_plain rfl (op_pick _ _ false _ rfl rfl),
            st_plain rfl (op_move _ _ _ _ rfl rfl),
            st_skip 15 22 _ true rfl rfl rfl rfl (List.Mem.head _),
            st_skip 15 22 _ true rfl rfl rfl rfl (List.Mem.head _),
            st_skip 15 22 _ true rfl rfl rfl rfl (List.Mem.head _),
            st_skip 15 22 _ true rfl rfl rfl rfl (List.Mem.head _),
            st_skip 15 22 _ true rfl rfl rfl rfl (List.Mem.head _),
            st_skip 15 22 _ true rfl rfl rfl rfl (List.Mem.head _),
            st_skip 15 22 _ true rfl rfl rfl rfl (List.Mem.head _),
            st_skip 15 22 _ true rfl rfl rfl rfl (List.Mem.head _),
            st_skip 15 22 _ true rfl rfl rfl rfl (List.Mem.head _),
            st_skip 15 22 _ true rfl rfl rfl rfl (List.Mem.head _),
            st_plain rfl (op_pick _ _ false _ rfl rfl),
            st_plain rfl (op_move _ _ _ _ rfl rfl),
            st_skip 27 34 _ true rfl rfl rfl rfl (List.Mem.head _),
            st_skip 27 34 _ true rfl rfl rfl rfl (List.Mem.head _),
            st_skip 27 34 _ true rfl rfl rfl rfl (List.Mem.head _),
            st_plain rfl (op_pick _ _ false _ rfl rfl),
            st_plain rfl (op_move _ _ _ _ rfl rfl),
            st_skip 32 39 _ true rfl rfl rfl rfl (List.Mem.head _),
            st_skip 32 39 _ true rfl rfl rfl rfl (List.Mem.head _),
            st_skip 32 39 _ true rfl rfl rfl rfl (List.Mem.head _),
            st_skipU 35 42 _ false rfl rfl rfl rfl (List.Mem.head _),
            st_skipU 35 42 _ false rfl rfl rfl rfl (List.Mem.head _),
            st_skipU 35 42 _ false rfl rfl rfl rfl (List.Mem.head _),
            st_skipU 35 42 _ false rfl rfl rfl rfl (List.Mem.head _),
            st_skipU 39 46 _ true rfl rfl rfl rfl (List.Mem.head _),
            st_skipU 39 46 _ true rfl rfl rfl rfl (List.Mem.head _),
            st_skipU 39 46 _ true rfl rfl rfl rfl (List.Mem.head _),
            st_skipU 35 42 _ false rfl rfl rfl rfl (List.Mem.head _),
            st_skip 32 39 _ true rfl rfl rfl rfl (List.Mem.head _),
            st_plain rfl (op_pick _ _ false _ rfl rfl),
            st_plain rfl (op_assign _ _ _ _ rfl rfl),
            trivial⟩ ?_
        exact hl11 _ (Option.some.inj h).symm
    · refine ht_seqR hn (El := (_ :: _ :: (7, .ptr 1 0) :: (8, .v (.int .i64 s.Number)) :: (9, .v (.bool v2)) :: (10, .v (.bool false)) :: (11, .v undef) :: (12, .v undef) :: (13, .v undef) :: (14, .v undef) :: (15, .v (.bool false)) :: (16, .v (.bool false)) :: (17, .v undef) :: (18, .v undef) :: (19, .v undef) :: (20, .v undef) :: (21, .v (.bool false)) :: (22, .v (.bool false)) :: (23, .v undef) :: (24, .v undef) :: (25, .v undef) :: (26, .v undef) :: (27, .v undef) :: (28, .v undef) :: (29, .v undef) :: (30, .v undef) :: (31, .v undef) :: (32, .v undef) :: (33, .v (.bool false)) :: (34, .v (.bool false)) :: (35, .v undef) :: (36, .v undef) :: (37, .v undef) :: (38, .v (.bool false)) :: (39, .v (.bool false)) :: (40, .v undef) :: (41, .v undef) :: (42, .v undef) :: (43, .v undef) :: (44, .v undef) :: (45, .v undef) :: (46, .v undef) :: (47, .v undef) :: (48, .v undef) :: (49, .v undef) :: (50, .v undef) :: (51, .v undef) :: (52, .v (.bool false)) :: (2, .v (.bool false)) :: [])) (init := [0, 1]) (fin := [48]) (sps := (⟨[0], [], [2], [(.slot 7)]⟩ :: ⟨[2, 0], [], [3], [(.slot 8)]⟩ :: ⟨[3], [], [4], [(.slot 9)]⟩ :: ⟨[4], [], [5], [(.slot 10)]⟩ :: ⟨[5], [], [6], [(.slot 11)]⟩ :: ⟨[5], [], [7], [(.slot 12)]⟩ :: ⟨[5], [], [8], [(.slot 13)]⟩ :: ⟨[5], [], [9], [(.slot 14)]⟩ :: ⟨[5], [], [10], [(.slot 15)]⟩ :: ⟨[10], [], [11], [(.slot 16)]⟩ :: ⟨[11], [], [12], [(.slot 17)]⟩ :: ⟨[11], [], [13], [(.slot 18)]⟩ :: ⟨[11], [], [14], [(.slot 19)]⟩ :: ⟨[11], [], [15], [(.slot 20)]⟩ :: ⟨[11], [], [16], [(.slot 21)]⟩ :: ⟨[16], [], [17], [(.slot 22)]⟩ :: ⟨[17], [], [18], [(.slot 23)]⟩ :: ⟨[17], [], [19], [(.slot 24)]⟩ :: ⟨[17], [], [20], [(.slot 25)]⟩ :: ⟨[17], [], [21], [(.slot 26)]⟩ :: ⟨[17], [], [22], [(.slot 27)]⟩ :: ⟨[17], [], [23], [(.slot 28)]⟩ :: ⟨[17], [], [24], [(.slot 29)]⟩ :: ⟨[17], [], [25], [(.slot 30)]⟩ :: ⟨[17], [], [26], [(.slot 31)]⟩ :: ⟨[17], [], [27], [(.slot 32)]⟩ :: ⟨[17], [], [28], [(.slot 33)]⟩ :: ⟨[28], [], [29], [(.slot 34)]⟩ :: ⟨[29], [], [30], [(.slot 35)]⟩ :: ⟨[29], [], [31], [(.slot 36)]⟩ :: ⟨[29], [], [32], [(.slot 37)]⟩ :: ⟨[29], [], [33], [(.slot 38)]⟩ :: ⟨[33], [], [34], [(.slot 39)]⟩ :: ⟨[34], [], [35], [(.slot 40)]⟩ :: ⟨[34], [], [36], [(.slot 41)]⟩ :: ⟨[34], [], [37], [(.slot 42)]⟩ :: ⟨[37], [], [38], [(.slot 43)]⟩ :: ⟨[37], [], [39], [(.slot 44)]⟩ :: ⟨[37], [], [40], [(.slot 45)]⟩ :: ⟨[37], [], [41], [(.slot 46)]⟩ :: ⟨[41], [], [42], [(.slot 47)]⟩ :: ⟨[41], [], [43], [(.slot 48)]⟩ :: ⟨[41], [], [44], [(.slot 49)]⟩ :: ⟨[37], [], [45], [(.slot 50)]⟩ :: ⟨[34], [], [46], [(.slot 51)]⟩ :: ⟨[34], [], [47], [(.slot 52)]⟩ :: ⟨[47], [], [48], [(.slot 2)]⟩ :: [])) (es' := [(2, .v (.bool false))]) (by kernel_rfl) rfl rfl
        ⟨st_plain rfl (op_fieldAddr _ _ _ _ 1 0 _ Try.underlying24 rfl sz3 rfl rfl (by decide)),
          st_plain rfl (op_load _ _ _ _ _ _ Try.underlying3 rfl rfl rfl (Nat.le_of_ble_eq_true rfl) rfl rfl rfl),
          st_plain rfl (op_call _ _ 30 _ _ rfl Try.call30 rfl (ok_wherryref18_in s.Number 1 65535 _ hv2) rfl rfl),
          st_plain rfl (op_move _ _ _ _ (congrArg (fun b => AV.v (Value.bool b)) hg2_3) rfl),
          st_skip 3 10 _ true rfl rfl rfl rfl (List.Mem.head _),
          st_skip 3 10 _ true rfl rfl rfl rfl (List.Mem.head _),
          st_skip 3 10 _ true rfl rfl rfl rfl (List.Mem.head _),
          st_skip 3 10 _ true rfl rfl rfl rfl (List.Mem.head _),
          st_plain rfl (op_pick _ _ false _ rfl rfl),
          st_plain rfl (op_move _ _ _ _ rfl rfl),
          st_skip 9 16 _ true rfl rfl rfl rfl (List.Mem.head _),
          st_skip 9 16 _ true rfl rfl rfl rfl (List.Mem.head _),
          st_skip 9 16 _ true rfl rfl rfl rfl (List.Mem.head _),
          st_skip 9 16 _ true rfl rfl rfl rfl (List.Mem.head _),
          st_plain rfl (op_pick _ _ false _ rfl rfl),
          st_plain rfl (op_move _ _ _ _ rfl rfl),
          st_skip 15 22 _ true rfl rfl rfl rfl (List.Mem.head _),
          st_skip 15 22 _ true rfl rfl rfl rfl (List.Mem.head _),
          st_skip 15 22 _ true rfl rfl rfl rfl (List.Mem.head _),
          st_skip 15 22 _ true rfl rfl rfl rfl (List.Mem.head _),
          st_skip 15 22 _ true rfl rfl rfl rfl (List.Mem.head _),
          st_skip 15 22 _ true rfl rfl rfl rfl (List.Mem.head _),
          st_skip 15 22 _ true rfl rfl rfl rfl (List.Mem.head _),
          st_skip 15 22 _ true rfl rfl rfl rfl (List.Mem.head _),
          st_skip 15 22 _ true rfl rfl rfl rfl (List.Mem.head _),
          st_skip 15 22 _ true rfl rfl rfl rfl (List.Mem.head _),
          st_plain rfl (op_pick _ _ false _ rfl rfl),
          st_plain rfl (op_move _ _ _ _ rfl rfl),
          st_skip 27 34 _ true rfl rfl rfl rfl (List.Mem.head _),
          st_skip 27 34 _ true rfl rfl rfl rfl (List.Mem.head _),
          st_skip 27 34 _ true rfl rfl rfl rfl (List.Mem.head _),
          st_plain rfl (op_pick _ _ false _ rfl rfl),
          st_plain rfl (op_move _ _ _ _ rfl rfl),
          st_skip 32 39 _ true rfl rfl rfl rfl (List.Mem.head _),
          st_skip 32 39 _ true rfl rfl rfl rfl (List.Mem.head _),
          st_skip 32 39 _ true rfl rfl rfl rfl (List.Mem.head _),
          st_skipU 35 42 _ false rfl rfl rfl rfl (List.Mem.head _),
          st_skipU 35 42 _ false rfl rfl rfl rfl (List.Mem.head _),
          st_skipU 35 42 _ false rfl rfl rfl rfl (List.Mem.head _),
          st_skipU 35 42 _ false rfl rfl rfl rfl (List.Mem.head _),
          st_skipU 39 46 _ true rfl rfl rfl rfl (List.Mem.head _),
          st_skipU 39 46 _ true rfl rfl rfl rfl (List.Mem.head _),
          st_skipU 39 46 _ true rfl rfl rfl rfl (List.Mem.head _),
          st_skipU 35 42 _ false rfl rfl rfl rfl (List.Mem.head _),
          st_skip 32 39 _ true rfl rfl rfl rfl (List.Mem.head _),
          st_plain rfl (op_pick _ _ false _ rfl rfl),
          st_plain rfl (op_assign _ _ _ _ rfl rfl),
          trivial⟩ ?_
      exact hl11 _ (Option.some.inj h).symm

set_option maxHeartbeats 1000000 in
theorem ok_sender_pieces (s : T_Send) (r : Int) (h : Sh.sender_pieces s = some r) : FnOK Try.prog 33 [.agg [.v (.int .i64 s.Number), .fl .shr 1 (List.map (Value.int .u8) s.Data), .v (.bool s.Ready), .v (.int .i64 s.Base), .v (.int .i64 s.Next), .v (.int .i64 s.Wait), .v (.bool s.Over)]] (.v (.int .i64 r)) := by
  unfold Sh.sender_pieces at h
  refine fn_ok Try.func33 rfl (Nat.le_of_ble_eq_true rfl) rfl rfl fun g0 hn hio => ?_
  refine ht_seq ?_
  refine ht_seqR hn (El := [_, (1, .box 24 [.v (.int .i64 s.Number), .fl .shr 1 (List.map (Value.int .u8) s.Data), .v (.bool s.Ready), .v (.int .i64 s.Base), .v (.int .i64 s.Next), .v (.int .i64 s.Wait), .v (.bool s.Over)]), (2, .v (.int .i64 0))]) (init := [0]) (fin := [1]) (sps := [⟨[0], [], [1], [(.slot 1)]⟩, ⟨[], [], [2], [(.slot 2)]⟩]) (es' := [(1, .box 24 [.v (.int .i64 s.Number), .fl .shr 1 (List.map (Value.int .u8) s.Data), .v (.bool s.Ready), .v (.int .i64 s.Base), .v (.int .i64 s.Next), .v (.int .i64 s.Wait), .v (.bool s.Over)])]) (by kernel_rfl) rfl rfl
    ⟨st_plain rfl (op_box _ _ _ _ rfl rfl rfl),
      st_plain rfl (op_assign _ _ _ _ rfl rfl),
      trivial⟩ ?_
  refine pt_then ?_
  refine ht_seq ?_
  obtain ⟨v1, hv1, h⟩ := bind_some h
  obtain ⟨v2, hv2, h⟩ := bind_some h
  obtain ⟨v3, hv3, h⟩ := bind_some h
  refine ht_seqR hn (El := [_, (3, .ptr 1 1), (4, .fl .shr 1 (List.map (Value.int .u8) s.Data)), (5, .v (.int .i64 (s.Data.length : Int))), (6, .v (.int .i64 v1)), (7, .v (.int .i64 v2)), (8, .v (.int .i64 v3)), (2, .v (.int .i64 v3))]) (init := [0]) (fin := [7]) (sps := [⟨[0], [], [1], [(.slot 3)]⟩, ⟨[1, 0], [], [2], [(.slot 4)]⟩, ⟨[2], [], [3], [(.slot 5)]⟩, ⟨[3], [], [4], [(.slot 6)]⟩, ⟨[4], [], [5], [(.slot 7)]⟩, ⟨[5], [], [6], [(.slot 8)]⟩, ⟨[6], [], [7], [(.slot 2)]⟩]) (es' := [(2, .v (.int .i64 v3))]) (by kernel_rfl) rfl rfl
    ⟨st_plain rfl (op_fieldAddr _ _ _ _ 1 0 _ Try.underlying24 rfl sz22 rfl rfl (by decide)),
      st_plain rfl (op_load _ _ _ _ _ _ Try.underlying22 rfl rfl rfl (Nat.le_of_ble_eq_true rfl) rfl rfl rfl),
      st_plain rfl (op_len_fl _ _ _ Try.underlying22 rfl (by decide) (map_len _)),
      st_plain rfl (op_bin _ _ _ _ _ rfl rfl (ibind (f := Value.int .i64) (Option.some.inj hv1))),
      st_plain rfl (op_bin _ _ _ _ _ rfl rfl (ibind (f := Value.int .i64) (Option.some.inj hv2))),
      st_plain rfl (op_bin _ _ _ _ _ rfl rfl (quo_ok hv3)),
      st_plain rfl (op_assign _ _ _ _ rfl rfl),
      trivial⟩ ?_
  refine pt_then ?_
  refine ht_ret ?_
  obtain rfl := Option.some.inj h
  exact pt_ret hio rfl (.tmp _ _ .nil) rfl rfl

set_option maxHeartbeats 1000000 in
theorem ok_sender_window (s : T_Send) (r : Int) (h : Sh.sender_window s = some r) : FnOK Try.prog 32 [.agg [.v (.int .i64 s.Number), .fl .shr 1 (List.map (Value.int .u8) s.Data), .v (.bool s.Ready), .v (.int .i64 s.Base), .v (.int .i64 s.Next), .v (.int .i64 s.Wait), .v (.bool s.Over)]] (.v (.int .i64 r)) := by
  unfold Sh.sender_window at h
  refine fn_ok Try.func32 rfl (Nat.le_of_ble_eq_true rfl) rfl rfl fun g0 hn hio => ?_
  refine ht_seq ?_
  refine ht_seqR hn (El := [_, (1, .box 24 [.v (.int .i64 s.Number), .fl .shr 1 (List.map (Value.int .u8) s.Data), .v (.bool s.Ready), .v (.int .i64 s.Base), .v (.int .i64 s.Next), .v (.int .i64 s.Wait), .v (.bool s.Over)]), (2, .v (.int .i64 0))]) (init := [0]) (fin := [1]) (sps := [⟨[0], [], [1], [(.slot 1)]⟩, ⟨[], [], [2], [(.slot 2)]⟩]) (es' := [(1, .box 24 [.v (.int .i64 s.Number), .fl .shr 1 (List.map (Value.int .u8) s.Data), .v (.bool s.Ready), .v (.int .i64 s.Base), .v (.int .i64 s.Next), .v (.int .i64 s.Wait), .v (.bool s.Over)])]) (by kernel_rfl) rfl rfl
    ⟨st_plain rfl (op_box _ _ _ _ rfl rfl rfl),
      st_plain rfl (op_assign _ _ _ _ rfl rfl),
      trivial⟩ ?_
  refine pt_then ?_
  refine ht_seq ?_
  obtain ⟨v1, hv1, h⟩ := bind_some h
  obtain ⟨v2, hv2, h⟩ := bind_some h
  obtain ⟨v3, hv3, h⟩ := bind_some h
  refine ht_anyR (by kernel_rfl) hn (El := [_, (3, .ptr 1 3), (4, .v (.int .i64 s.Base)), (5, .v (.int .i64 v1)), (6, .agg [.v (.int .i64 s.Number), .fl .shr 1 (List.map (Value.int .u8) s.Data), .v (.bool s.Ready), .v (.int .i64 s.Base), .v (.int .i64 s.Next), .v (.int .i64 s.Wait), .v (.bool s.Over)]), (7, .v (.int .i64 v2)), (8, .v (.int .i64 v3)), (2, .v (.int .i64 v3))]) (init := [0]) (fin := [7]) (sps := [⟨[0], [], [1], [(.slot 3)]⟩, ⟨[1, 0], [], [2], [(.slot 4)]⟩, ⟨[2], [], [3], [(.slot 5)]⟩, ⟨[0], [], [4], [(.slot 6)]⟩, ⟨[4], [], [5], [(.slot 7)]⟩, ⟨[3, 5], [], [6], [(.slot 8)]⟩, ⟨[6], [], [7], [(.slot 2)]⟩]) (es' := [(2, .v (.int .i64 v3))]) (by kernel_rfl) rfl rfl
    ⟨st_plain rfl (op_fieldAddr _ _ _ _ 1 0 _ Try.underlying24 rfl sz3 rfl rfl (by decide)),
      st_plain rfl (op_load _ _ _ _ _ _ Try.underlying3 rfl rfl rfl (Nat.le_of_ble_eq_true rfl) rfl rfl rfl),
      st_plain rfl (op_bin _ _ _ _ _ rfl rfl (ibind (f := Value.int .i64) (Option.some.inj hv1))),
      st_plain rfl (op_loadA _ _ _ _ _ _ _ Try.underlying24 rfl sz24 rfl rfl (Nat.le_of_ble_eq_true rfl) rfl rfl),
      st_plain rfl (op_call _ _ 33 _ _ rfl Try.call33 rfl (ok_sender_pieces s _ hv2) rfl rfl),
      st_plain rfl ((Option.some.inj hv3) ▸ op_min _ _ _ _ rfl rfl),
      st_plain rfl (op_assign _ _ _ _ rfl rfl),
      trivial⟩ ?_
  refine pt_then ?_
  refine ht_ret ?_
  obtain rfl := Option.some.inj h
  exact pt_ret hio rfl (.tmp _ _ .nil) rfl rfl

set_option maxHeartbeats 1000000 in
theorem ok_sender_Check (s : T_Send) (r : Int) (h : Sh.sender_Check s = some r) : FnOK Try.prog 17 [.agg [.v (.int .i64 s.Number), .fl .shr 1 (List.map (Value.int .u8) s.Data), .v (.bool s.Ready), .v (.int .i64 s.Base), .v (.int .i64 s.Next), .v (.int .i64 s.Wait), .v (.bool s.Over)]] (.v (.int .i64 r)) := by
  unfold Sh.sender_Check at h
  refine fn_ok Try.func17 rfl (Nat.le_of_ble_eq_true rfl) rfl rfl fun g0 hn hio => ?_
  refine ht_seq ?_
  refine ht_seqR hn (El := [_, (1, .box 24 [.v (.int .i64 s.Number), .fl .shr 1 (List.map (Value.int .u8) s.Data), .v (.bool s.Ready), .v (.int .i64 s.Base), .v (.int .i64 s.Next), .v (.int .i64 s.Wait), .v (.bool s.Over)]), (2, .v (.int .i64 0))]) (init := [0]) (fin := [1]) (sps := [⟨[0], [], [1], [(.slot 1)]⟩, ⟨[], [], [2], [(.slot 2)]⟩]) (es' := [(1, .box 24 [.v (.int .i64 s.Number), .fl .shr 1 (List.map (Value.int .u8) s.Data), .v (.bool s.Ready), .v (.int .i64 s.Base), .v (.int .i64 s.Next), .v (.int .i64 s.Wait), .v (.bool s.Over)])]) (by kernel_rfl) rfl rfl
    ⟨st_plain rfl (op_box _ _ _ _ rfl rfl rfl),
      st_plain rfl (op_assign _ _ _ _ rfl rfl),
      trivial⟩ ?_
  refine pt_then ?_
  refine ht_seq ?_
  obtain ⟨v1, hv1, h⟩ := bind_some h
  refine ht_seqR hn (El := [_, (4, .agg [.v (.int .i64 s.Number), .fl .shr 1 (List.map (Value.int .u8) s.Data), .v (.bool s.Ready), .v (.int .i64 s.Base), .v (.int .i64 s.Next), .v (.int .i64 s.Wait), .v (.bool s.Over)]), (5, .v (.int .i64 v1)), (3, .v (.int .i64 v1))]) (init := [0]) (fin := [0, 3]) (sps := [⟨[0], [], [1], [(.slot 4)]⟩, ⟨[1], [], [2], [(.slot 5)]⟩, ⟨[2], [], [3], [(.slot 3)]⟩]) (es' := [(_, _), (3, .v (.int .i64 v1))]) (by kernel_rfl) rfl rfl
    ⟨st_plain rfl (op_loadA _ _ _ _ _ _ _ Try.underlying24 rfl sz24 rfl rfl (Nat.le_of_ble_eq_true rfl) rfl rfl),
      st_plain rfl (op_call _ _ 33 _ _ rfl Try.call33 rfl (ok_sender_pieces s _ hv1) rfl rfl),
      st_plain rfl (op_assign _ _ _ _ rfl rfl),
      trivial⟩ ?_
  refine pt_then ?_
  refine ht_seq ?_
  refine ht_block ?_
  refine ht_seq ?_
  refine ht_joinS h (fun (s32 : Bool) => [(6, .v (.bool s32))]) ?_ ?_
  · rintro s32 h
    refine pt_then ?_
    refine ht_cond _ rfl (fun hb65 => ?_) (fun hb65 => ?_)
    · have h := cond_t hb65 h
      refine ht_seq ?_
      refine ht_seqR hn (El := [_, (2, .v (.int .i64 1))]) (init := [0]) (fin := [1]) (sps := [⟨[], [], [1], [(.slot 2)]⟩]) (es' := [(2, .v (.int .i64 1))]) (by kernel_rfl) rfl rfl
        ⟨st_plain rfl (op_assign _ _ _ _ rfl rfl),
          trivial⟩ ?_
      refine pt_then ?_
      refine ht_ret ?_
      refine pt_r_in ?_
      refine pt_r_then ?_
      obtain rfl := Option.some.inj h
      exact pt_ret hio rfl (.tmp _ _ .nil) rfl rfl
    · have h := cond_f hb65 h
      refine ht_skip ?_
      refine pt_inb ?_
      refine pt_then ?_
      refine ht_seq ?_
      refine ht_seqR hn (El := [_, (2, .v (.int .i64 0))]) (init := [0]) (fin := [1]) (sps := [⟨[], [], [1], [(.slot 2)]⟩]) (es' := [(2, .v (.int .i64 0))]) (by kernel_rfl) rfl rfl
        ⟨st_plain rfl (op_assign _ _ _ _ rfl rfl),
          trivial⟩ ?_
      refine pt_then ?_
      refine ht_ret ?_
      obtain rfl := Option.some.inj h
      exact pt_ret hio rfl (.tmp _ _ .nil) rfl rfl
  · intro u33 h hl34 hr35
    refine ht_seq ?_
    refine ht_joinS h (fun (s36 : Bool) => [(1, .box 24 [.v (.int .i64 s.Number), .fl .shr 1 (List.map (Value.int .u8) s.Data), .v (.bool s.Ready), .v (.int .i64 s.Base), .v (.int .i64 s.Next), .v (.int .i64 s.Wait), .v (.bool s.Over)]), (3, .v (.int .i64 v1)), (6, .v (.bool s36))]) ?_ ?_
    · rintro s36 h
      refine pt_then ?_
      refine ht_cond _ rfl (fun hb40 => ?_) (fun hb40 => ?_)
      · have h := cond_t hb40 h
        refine ht_skip ?_
        refine pt_pick [2] (by kernel_rfl) (es' := [(_, _)]) rfl ?_
        exact hl34 _ (Option.some.inj h).symm
      · have h := cond_f hb40 h
        refine ht_seq ?_
        refine ht_joinS h (fun (s41 : Bool) => [(1, .box 24 [.v (.int .i64 s.Number), .fl .shr 1 (List.map (Value.int .u8) s.Data), .v (.bool s.Ready), .v (.int .i64 s.Base), .v (.int .i64 s.Next), .v (.int .i64 s.Wait), .v (.bool s.Over)]), (3, .v (.int .i64 v1)), (6, .v (.bool s41))]) ?_ ?_
        · rintro s41 h
          refine pt_then ?_
          refine ht_cond _ rfl (fun hb45 => ?_) (fun hb45 => ?_)
          · have h := cond_t hb45 h
            refine ht_skip ?_
            refine pt_pick [2] (by kernel_rfl) (es' := [(_, _)]) rfl ?_
            exact hl34 _ (Option.some.inj h).symm
          · have h := cond_f hb45 h
            refine ht_seq ?_
            refine ht_joinS h (fun (s46 : Bool) => [(1, .box 24 [.v (.int .i64 s.Number), .fl .shr 1 (List.map (Value.int .u8) s.Data), .v (.bool s.Ready), .v (.int .i64 s.Base), .v (.int .i64 s.Next), .v (.int .i64 s.Wait), .v (.bool s.Over)]), (6, .v (.bool s46))]) ?_ ?_
            · rintro s46 h
              refine pt_then ?_
              refine ht_cond _ rfl (fun hb50 => ?_) (fun hb50 => ?_)
              · have h := cond_t hb50 h
                refine ht_skip ?_
                refine pt_pick [1] (by kernel_rfl) (es' := [(_, _)]) rfl ?_
                exact hl34 _ (Option.some.inj h).symm
              · have h := cond_f hb50 h
                refine ht_seq ?_
                refine ht_joinS h (fun (s51 : Bool) => [(1, .box 24 [.v (.int .i64 s.Number), .fl .shr 1 (List.map (Value.int .u8) s.Data), .v (.bool s.Ready), .v (.int .i64 s.Base), .v (.int .i64 s.Next), .v (.int .i64 s.Wait), .v (.bool s.Over)]), (6, .v (.bool s51))]) ?_ ?_
                · rintro s51 h
                  refine pt_then ?_
                  refine ht_cond _ rfl (fun hb55 => ?_) (fun hb55 => ?_)
                  · have h := cond_t hb55 h
                    refine ht_skip ?_
                    refine pt_pick [1] (by kernel_rfl) (es' := [(_, _)]) rfl ?_
                    exact hl34 _ (Option.some.inj h).symm
                  · have h := cond_f hb55 h
                    refine ht_seq ?_
                    refine ht_joinS h (fun (s56 : Bool) => [(1, .box 24 [.v (.int .i64 s.Number), .fl .shr 1 (List.map (Value.int .u8) s.Data), .v (.bool s.Ready), .v (.int .i64 s.Base), .v (.int .i64 s.Next), .v (.int .i64 s.Wait), .v (.bool s.Over)]), (6, .v (.bool s56))]) ?_ ?_
                    · rintro s56 h
                      refine pt_then ?_
                      refine ht_cond _ rfl (fun hb60 => ?_) (fun hb60 => ?_)
                      · have h := cond_t hb60 h
                        refine ht_skip ?_
                        refine pt_pick [1] (by kernel_rfl) (es' := [(_, _)]) rfl ?_
                        exact hl34 _ (Option.some.inj h).symm
                      · have h := cond_f hb60 h
                        refine ht_joinS h (fun (s61 : Bool) => [(6, .v (.bool s61))]) ?_ ?_
                        · rintro s61 h
                          exact hl34 _ (Option.some.inj h).symm
                        · intro u62 h hl63 hr64
                          refine cond_some h (fun hg7_3 h => ?_) (fun hg7_3 h => ?_)
                          · refine cond_some h (fun hg7_7 h => ?_) (fun hg7_7 h => ?_)
                            · refine ht_seqR hn (El := (_ :: _ :: (54, .ptr 1 2) :: (55, .v (.bool s.Ready)) :: (56, .v (.bool (!s.Ready))) :: (57, .v (.bool true)) :: (58, .ptr 1 3) :: (59, .v (.int .i64 s.Base)) :: (60, .v (.bool (s.Base != 0))) :: (61, .v (.bool true)) :: (62, .v undef) :: (63, .v undef) :: (64, .v undef) :: (65, .v (.bool true)) :: (66, .v (.bool true)) :: (6, .v (.bool true)) :: [])) (init := [0, 1]) (fin := [15]) (sps := [⟨[0], [], [2], [(.slot 54)]⟩, ⟨[2, 0], [], [3], [(.slot 55)]⟩, ⟨[3], [], [4], [(.slot 56)]⟩, ⟨[4], [], [5], [(.slot 57)]⟩, ⟨[5, 0], [], [6], [(.slot 58)]⟩, ⟨[5, 6, 0], [], [7], [(.slot 59)]⟩, ⟨[5, 7], [], [8], [(.slot 60)]⟩, ⟨[5, 8], [], [9], [(.slot 61)]⟩, ⟨[9], [], [10], [(.slot 62)]⟩, ⟨[9], [], [11], [(.slot 63)]⟩, ⟨[9], [], [12], [(.slot 64)]⟩, ⟨[5, 9], [], [13], [(.slot 65)]⟩, ⟨[5, 13], [], [14], [(.slot 66)]⟩, ⟨[14], [1], [15], [(.slot 6)]⟩]) (es' := [(6, .v (.bool true))]) (by kernel_rfl) rfl rfl
                                ⟨st_plain rfl (op_fieldAddr _ _ _ _ 1 0 _ Try.underlying24 rfl sz4 rfl rfl (by decide)),
                                  st_plain rfl (op_load _ _ _ _ _ _ Try.underlying4 rfl rfl rfl (Nat.le_of_ble_eq_true rfl) rfl rfl rfl),
                                  st_plain rfl (op_un _ _ _ _ rfl rfl),
                                  st_plain rfl (op_move _ _ _ _ (congrArg (fun b => AV.v (Value.bool b)) hg7_3) rfl),
                                  st_run 3 57 true rfl rfl rfl (List.Mem.head _) (op_fieldAddr _ _ _ _ 1 0 _ Try.underlying24 rfl sz3 rfl rfl (by decide)),
                                  st_run 3 57 true rfl rfl rfl (List.Mem.head _) (op_load _ _ _ _ _ _ Try.underlying3 rfl rfl rfl (Nat.le_of_ble_eq_true rfl) rfl rfl rfl),
                                  st_run 3 57 true rfl rfl rfl (List.Mem.head _) (op_bin _ _ _ _ _ rfl rfl rfl),
                                  st_run 3 57 true rfl rfl rfl (List.Mem.head _) (op_move _ _ _ _ (congrArg (fun b => AV.v (Value.bool b)) hg7_7) rfl),
                                  st_skip 7 61 _ false rfl rfl rfl rfl (List.Mem.head _),
                                  st_skip 7 61 _ false rfl rfl rfl rfl (List.Mem.head _),
                                  st_skip 7 61 _ false rfl rfl rfl rfl (List.Mem.head _),
                                  st_run 3 57 true rfl rfl rfl (List.Mem.head _) (op_pick _ _ true _ rfl rfl),
                                  st_plain rfl (op_pick _ _ true _ rfl rfl),
                                  st_plain rfl (LOp.drop [_] (op_assign _ _ _ _ rfl rfl)),
                                  trivial⟩ ?_
                              exact hl63 _ (Option.some.inj h).symm
                            · refine ht_seqR hn (El := (_ :: _ :: (54, .ptr 1 2) :: (55, .v (.bool s.Ready)) :: (56, .v (.bool (!s.Ready))) :: (57, .v (.bool true)) :: (58, .ptr 1 3) :: (59, .v (.int .i64 s.Base)) :: (60, .v (.bool (s.Base != 0))) :: (61, .v (.bool false)) :: (62, .ptr 1 4) :: (63, .v (.int .i64 s.Next)) :: (64, .v (.bool (s.Next != 0))) :: (65, .v (.bool (s.Next != 0))) :: (66, .v (.bool (s.Next != 0))) :: (6, .v (.bool (s.Next != 0))) :: [])) (init := [0, 1]) (fin := [15]) (sps := [⟨[0], [], [2], [(.slot 54)]⟩, ⟨[2, 0], [], [3], [(.slot 55)]⟩, ⟨[3], [], [4], [(.slot 56)]⟩, ⟨[4], [], [5], [(.slot 57)]⟩, ⟨[5, 0], [], [6], [(.slot 58)]⟩, ⟨[5, 6, 0], [], [7], [(.slot 59)]⟩, ⟨[5, 7], [], [8], [(.slot 60)]⟩, ⟨[5, 8], [], [9], [(.slot 61)]⟩, ⟨[9, 0], [], [10], [(.slot 62)]⟩, ⟨[9, 10, 0], [], [11], [(.slot 63)]⟩, ⟨[9, 11], [], [12], [(.slot 64)]⟩, ⟨[5, 9, 12], [], [13], [(.slot 65)]⟩, ⟨[5, 13], [], [14], [(.slot 66)]⟩, ⟨[14], [1], [15], [(.slot 6)]⟩]) (es' := [(6, .v (.bool (s.Next != 0)))]) (by kernel_rfl) rfl rfl
                                ⟨st_plain rfl (op_fieldAddr _ _ _ _ 1 0 _ Try.underlying24 rfl sz4 rfl rfl (by decide)),
                                  st_plain rfl (op_load _ _ _ _ _ _ Try.underlying4 rfl rfl rfl (Nat.le_of_ble_eq_true rfl) rfl rfl rfl),
                                  st_plain rfl (op_un _ _ _ _ rfl rfl),
                                  st_plain rfl (op_move _ _ _ _ (congrArg (fun b => AV.v (Value.bool b)) hg7_3) rfl),
                                  st_run 3 57 true rfl rfl rfl (List.Mem.head _) (op_fieldAddr _ _ _ _ 1 0 _ Try.underlying24 rfl sz3 rfl rfl (by decide)),
                                  st_run 3 57 true rfl rfl rfl (List.Mem.head _) (op_load _ _ _ _ _ _ Try.underlying3 rfl rfl rfl (Nat.le_of_ble_eq_true rfl) rfl rfl rfl),
                                  st_run 3 57 true rfl rfl rfl (List.Mem.head _) (op_bin _ _ _ _ _ rfl rfl rfl),
                                  st_run 3 57 true rfl rfl rfl (List.Mem.head _) (op_move _ _ _ _ (congrArg (fun b => AV.v (Value.bool b)) hg7_7) rfl),
                                  st_run 7 61 false rfl rfl rfl (List.Mem.head _) (op_fieldAddr _ _ _ _ 1 0 _ Try.underlying24 rfl sz3 rfl rfl (by decide)),
                                  st_run 7 61 false rfl rfl rfl (List.Mem.head _) (op_load _ _ _ _ _ _ Try.underlying3 rfl rfl rfl (Nat.le_of_ble_eq_true rfl) rfl rfl rfl),
                                  st_run 7 61 false rfl rfl rfl (List.Mem.head _) (op_bin _ _ _ _ _ rfl rfl rfl),
                                  st_run 3 57 true rfl rfl rfl (List.Mem.head _) (op_pick _ _ false _ rfl rfl),
                                  st_plain rfl (op_pick _ _ true _ rfl rfl),
                                  st_plain rfl (LOp.drop [_] (op_assign _ _ _ _ rfl rfl)),
                                  trivial⟩ ?_
                              exact hl63 _ (Option.some.inj h).symm
                          · refine ht_seqR hn (El := (_ :: _ :: (54, .ptr 1 2) :: (55, .v (.bool s.Ready)) :: (56, .v (.bool (!s.Ready))) :: (57, .v (.bool false)) :: (58, .v undef) :: (59, .v undef) :: (60, .v undef) :: (61, .v undef) :: (62, .v undef) :: (63, .v undef) :: (64, .v undef) :: (65, .v undef) :: (66, .v (.bool false)) :: (6, .v (.bool false)) :: [])) (init := [0, 1]) (fin := [15]) (sps := [⟨[0], [], [2], [(.slot 54)]⟩, ⟨[2, 0], [], [3], [(.slot 55)]⟩, ⟨[3], [], [4], [(.slot 56)]⟩, ⟨[4], [], [5], [(.slot 57)]⟩, ⟨[5], [], [6], [(.slot 58)]⟩, ⟨[5], [], [7], [(.slot 59)]⟩, ⟨[5], [], [8], [(.slot 60)]⟩, ⟨[5], [], [9], [(.slot 61)]⟩, ⟨[9], [], [10], [(.slot 62)]⟩, ⟨[9], [], [11], [(.slot 63)]⟩, ⟨[9], [], [12], [(.slot 64)]⟩, ⟨[5], [], [13], [(.slot 65)]⟩, ⟨[5], [], [14], [(.slot 66)]⟩, ⟨[14], [1], [15], [(.slot 6)]⟩]) (es' := [(6, .v (.bool false))]) (by kernel_rfl) rfl rfl
                              ⟨st_plain rfl (op_fieldAddr _ _ _ _ 1 0 _ Try.underlying24 rfl sz4 rfl rfl (by decide)),
                                st_plain rfl (op_load _ _ _ _ _ _ Try.underlying4 rfl rfl rfl (Nat.le_of_ble_eq_true rfl) rfl rfl rfl),
                                st_plain rfl (op_un _ _ _ _ rfl rfl),
                                st_plain rfl (op_move _ _ _ _ (congrArg (fun b => AV.v (Value.bool b)) hg7_3) rfl),
                                st_skip 3 57 _ true rfl rfl rfl rfl (List.Mem.head _),
                                st_skip 3 57 _ true rfl rfl rfl rfl (List.Mem.head _),
                                st_skip 3 57 _ true rfl rfl rfl rfl (List.Mem.head _),
                                st_skip 3 57 _ true rfl rfl rfl rfl (List.Mem.head _),
                                st_skipU 7 61 _ false rfl rfl rfl rfl (List.Mem.head _),
                                st_skipU 7 61 _ false rfl rfl rfl rfl (List.Mem.head _),
                                st_skipU 7 61 _ false rfl rfl rfl rfl (List.Mem.head _),
                                st_skip 3 57 _ true rfl rfl rfl rfl (List.Mem.head _),
                                st_plain rfl (op_pick _ _ false _ rfl rfl),
                                st_plain rfl (LOp.drop [_] (op_assign _ _ _ _ rfl rfl)),
                                trivial⟩ ?_
                            exact hl63 _ (Option.some.inj h).symm
                    · intro u57 h hl58 hr59
                      refine cond_some h (fun hg6_3 h => ?_) (fun hg6_3 h => ?_)
                      · refine ht_seqR hn (El := [_, _, (46, .ptr 1 5), (47, .v (.int .i64 s.Wait)), (48, .v (.bool ((decide (s.Wait < 0))))), (49, .v (.bool true)), (50, .v undef), (51, .v undef), (52, .v undef), (53, .v (.bool true)), (6, .v (.bool true))]) (init := [0, 1]) (fin := [0, 10]) (sps := [⟨[0], [], [2], [(.slot 46)]⟩, ⟨[2, 0], [], [3], [(.slot 47)]⟩, ⟨[3], [], [4], [(.slot 48)]⟩, ⟨[4], [], [5], [(.slot 49)]⟩, ⟨[5], [], [6], [(.slot 50)]⟩, ⟨[5], [], [7], [(.slot 51)]⟩, ⟨[5], [], [8], [(.slot 52)]⟩, ⟨[5], [], [9], [(.slot 53)]⟩, ⟨[9], [1], [10], [(.slot 6)]⟩]) (es' := [(_, _), (6, .v (.bool true))]) (by kernel_rfl) rfl rfl
                          ⟨st_plain rfl (op_fieldAddr _ _ _ _ 1 0 _ Try.underlying24 rfl sz3 rfl rfl (by decide)),
                            st_plain rfl (op_load _ _ _ _ _ _ Try.underlying3 rfl rfl rfl (Nat.le_of_ble_eq_true rfl) rfl rfl rfl),
                            st_plain rfl (op_bin _ _ _ _ _ rfl rfl rfl),
                            st_plain rfl (op_move _ _ _ _ (congrArg (fun b => AV.v (Value.bool b)) hg6_3) rfl),
                            st_skip 3 49 _ false rfl rfl rfl rfl (List.Mem.head _),
                            st_skip 3 49 _ false rfl rfl rfl rfl (List.Mem.head _),
                            st_skip 3 49 _ false rfl rfl rfl rfl (List.Mem.head _),
                            st_plain rfl (op_pick _ _ true _ rfl rfl),
                            st_plain rfl (LOp.drop [_] (op_assign _ _ _ _ rfl rfl)),
                            trivial⟩ ?_
                        exact hl58 _ (Option.some.inj h).symm
                      · refine ht_seqR hn (El := [_, _, (46, .ptr 1 5), (47, .v (.int .i64 s.Wait)), (48, .v (.bool ((decide (s.Wait < 0))))), (49, .v (.bool false)), (50, .ptr 1 5), (51, .v (.int .i64 s.Wait)), (52, .v (.bool ((decide (3 < s.Wait))))), (53, .v (.bool ((decide (3 < s.Wait))))), (6, .v (.bool ((decide (3 < s.Wait)))))]) (init := [0, 1]) (fin := [0, 10]) (sps := [⟨[0], [], [2], [(.slot 46)]⟩, ⟨[2, 0], [], [3], [(.slot 47)]⟩, ⟨[3], [], [4], [(.slot 48)]⟩, ⟨[4], [], [5], [(.slot 49)]⟩, ⟨[5, 0], [], [6], [(.slot 50)]⟩, ⟨[5, 6, 0], [], [7], [(.slot 51)]⟩, ⟨[5, 7], [], [8], [(.slot 52)]⟩, ⟨[5, 8], [], [9], [(.slot 53)]⟩, ⟨[9], [1], [10], [(.slot 6)]⟩]) (es' := [(_, _), (6, .v (.bool ((decide (3 < s.Wait)))))]) (by kernel_rfl) rfl rfl
                          ⟨st_plain rfl (op_fieldAddr _ _ _ _ 1 0 _ Try.underlying24 rfl sz3 rfl rfl (by decide)),
                            st_plain rfl (op_load _ _ _ _ _ _ Try.underlying3 rfl rfl rfl (Nat.le_of_ble_eq_true rfl) rfl rfl rfl),
                            st_plain rfl (op_bin _ _ _ _ _ rfl rfl rfl),
                            st_plain rfl (op_move _ _ _ _ (congrArg (fun b => AV.v (Value.bool b)) hg6_3) rfl),
                            st_run 3 49 false rfl rfl rfl (List.Mem.head _) (op_fieldAddr _ _ _ _ 1 0 _ Try.underlying24 rfl sz3 rfl rfl (by decide)),
                            st_run 3 49 false rfl rfl rfl (List.Mem.head _) (op_load _ _ _ _ _ _ Try.underlying3 rfl rfl rfl (Nat.le_of_ble_eq_true rfl) rfl rfl rfl),
                            st_run 3 49 false rfl rfl rfl (List.Mem.head _) (op_bin _ _ _ _ _ rfl rfl rfl),
                            st_plain rfl (op_pick _ _ false _ rfl rfl),
                            st_plain rfl (LOp.drop [_] (op_assign _ _ _ _ rfl rfl)),
                            trivial⟩ ?_
                        exact hl58 _ (Option.some.inj h).symm
                · intro u52 h hl53 hr54
                  refine cond_some h (fun hg5_5 h => ?_) (fun hg5_5 h => ?_)
                  · refine ht_anyR (by kernel_rfl) hn (El := (_ :: _ :: (34, .ptr 1 4) :: (35, .v (.int .i64 s.Next)) :: (36, .ptr 1 3) :: (37, .v (.int .i64 s.Base)) :: (38, .v (.bool ((decide (s.Next < s.Base))))) :: (39, .v (.bool true)) :: (40, .v undef) :: (41, .v undef) :: (42, .v undef) :: (43, .v undef) :: (44, .v undef) :: (45, .v (.bool true)) :: (6, .v (.bool true)) :: [])) (init := [0, 1]) (fin := [0, 14]) (sps := [⟨[0], [], [2], [(.slot 34)]⟩, ⟨[2, 0], [], [3], [(.slot 35)]⟩, ⟨[0], [], [4], [(.slot 36)]⟩, ⟨[4, 0], [], [5], [(.slot 37)]⟩, ⟨[3, 5], [], [6], [(.slot 38)]⟩, ⟨[6], [], [7], [(.slot 39)]⟩, ⟨[7], [], [8], [(.slot 40)]⟩, ⟨[7], [], [9], [(.slot 41)]⟩, ⟨[7], [], [10], [(.slot 42)]⟩, ⟨[7], [], [11], [(.slot 43)]⟩, ⟨[7], [], [12], [(.slot 44)]⟩, ⟨[7], [], [13], [(.slot 45)]⟩, ⟨[13], [1], [14], [(.slot 6)]⟩]) (es' := [(_, _), (6, .v (.bool true))]) (by kernel_rfl) rfl rfl
                      ⟨st_plain rfl (op_fieldAddr _ _ _ _ 1 0 _ Try.underlying24 rfl sz3 rfl rfl (by decide)),
                        st_plain rfl (op_load _ _ _ _ _ _ Try.underlying3 rfl rfl rfl (Nat.le_of_ble_eq_true rfl) rfl rfl rfl),
                        st_plain rfl (op_fieldAddr _ _ _ _ 1 0 _ Try.underlying24 rfl sz3 rfl rfl (by decide)),
                        st_plain rfl (op_load _ _ _ _ _ _ Try.underlying3 rfl rfl rfl (Nat.le_of_ble_eq_true rfl) rfl rfl rfl),
                        st_plain rfl (op_bin _ _ _ _ _ rfl rfl rfl),
                        st_plain rfl (op_move _ _ _ _ (congrArg (fun b => AV.v (Value.bool b)) hg5_5) rfl),
                        st_skip 5 39 _ false rfl rfl rfl rfl (List.Mem.head _),
                        st_skip 5 39 _ false rfl rfl rfl rfl (List.Mem.head _),
                        st_skip 5 39 _ false rfl rfl rfl rfl (List.Mem.head _),
                        st_skip 5 39 _ false rfl rfl rfl rfl (List.Mem.head _),
                        st_skip 5 39 _ false rfl rfl rfl rfl (List.Mem.head _),
                        st_plain rfl (op_pick _ _ true _ rfl rfl),
                        st_plain rfl (LOp.drop [_] (op_assign _ _ _ _ rfl rfl)),
                        trivial⟩ ?_
                    exact hl53 _ (Option.some.inj h).symm
                  · obtain ⟨v17, hv17, h⟩ := bind_some h
                    refine ht_anyR (by kernel_rfl) hn (El := (_ :: _ :: (34, .ptr 1 4) :: (35, .v (.int .i64 s.Next)) :: (36, .ptr 1 3) :: (37, .v (.int .i64 s.Base)) :: (38, .v (.bool ((decide (s.Next < s.Base))))) :: (39, .v (.bool false)) :: (40, .ptr 1 4) :: (41, .v (.int .i64 s.Next)) :: (42, .agg [.v (.int .i64 s.Number), .fl .shr 1 (List.map (Value.int .u8) s.Data), .v (.bool s.Ready), .v (.int .i64 s.Base), .v (.int .i64 s.Next), .v (.int .i64 s.Wait), .v (.bool s.Over)]) :: (43, .v (.int .i64 v17)) :: (44, .v (.bool ((decide (v17 < s.Next))))) :: (45, .v (.bool ((decide (v17 < s.Next))))) :: (6, .v (.bool ((decide (v17 < s.Next))))) :: [])) (init := [0, 1]) (fin := [0, 14]) (sps := [⟨[0], [], [2], [(.slot 34)]⟩, ⟨[2, 0], [], [3], [(.slot 35)]⟩, ⟨[0], [], [4], [(.slot 36)]⟩, ⟨[4, 0], [], [5], [(.slot 37)]⟩, ⟨[3, 5], [], [6], [(.slot 38)]⟩, ⟨[6], [], [7], [(.slot 39)]⟩, ⟨[7, 0], [], [8], [(.slot 40)]⟩, ⟨[7, 8, 0], [], [9], [(.slot 41)]⟩, ⟨[7, 0], [], [10], [(.slot 42)]⟩, ⟨[7, 10], [], [11], [(.slot 43)]⟩, ⟨[7, 9, 11], [], [12], [(.slot 44)]⟩, ⟨[7, 12], [], [13], [(.slot 45)]⟩, ⟨[13], [1], [14], [(.slot 6)]⟩]) (es' := [(_, _), (6, .v (.bool ((decide (v17 < s.Next)))))]) (by kernel_rfl) rfl rfl
                      ⟨st_plain rfl (op_fieldAddr _ _ _ _ 1 0 _ Try.underlying24 rfl sz3 rfl rfl (by decide)),
                        st_plain rfl (op_load _ _ _ _ _ _ Try.underlying3 rfl rfl rfl (Nat.le_of_ble_eq_true rfl) rfl rfl rfl),
                        st_plain rfl (op_fieldAddr _ _ _ _ 1 0 _ Try.underlying24 rfl sz3 rfl rfl (by decide)),
                        st_plain rfl (op_load _ _ _ _ _ _ Try.underlying3 rfl rfl rfl (Nat.le_of_ble_eq_true rfl) rfl rfl rfl),
                        st_plain rfl (op_bin _ _ _ _ _ rfl rfl rfl),
                        st_plain rfl (op_move _ _ _ _ (congrArg (fun b => AV.v (Value.bool b)) hg5_5) rfl),
                        st_run 5 39 false rfl rfl rfl (List.Mem.head _) (op_fieldAddr _ _ _ _ 1 0 _ Try.underlying24 rfl sz3 rfl rfl (by decide)),
                        st_run 5 39 false rfl rfl rfl (List.Mem.head _) (op_load _ _ _ _ _ _ Try.underlying3 rfl rfl rfl (Nat.le_of_ble_eq_true rfl) rfl rfl rfl),
                        st_run 5 39 false rfl rfl rfl (List.Mem.head _) (op_loadA _ _ _ _ _ _ _ Try.underlying24 rfl sz24 rfl rfl (Nat.le_of_ble_eq_true rfl) rfl rfl),
                        st_run 5 39 false rfl rfl rfl (List.Mem.head _) (op_call _ _ 32 _ _ rfl Try.call32 rfl (ok_sender_window s _ hv17) rfl rfl),
                        st_run 5 39 false rfl rfl rfl (List.Mem.head _) (op_bin _ _ _ _ _ rfl rfl rfl),
                        st_plain rfl (op_pick _ _ false _ rfl rfl),
                        st_plain rfl (LOp.drop [_] (op_assign _ _ _ _ rfl rfl)),
                        trivial⟩ ?_
                    exact hl53 _ (Option.some.inj h).symm
            · intro u47 h hl48 hr49
              refine cond_some h (fun hg4_3 h => ?_) (fun hg4_3 h => ?_)
              · refine ht_seqR hn (El := [_, _, _, (25, .ptr 1 3), (26, .v (.int .i64 s.Base)), (27, .v (.bool ((decide (s.Base < 0))))), (28, .v (.bool true)), (29, .v undef), (30, .v undef), (31, .v undef), (32, .v undef), (33, .v (.bool true)), (6, .v (.bool true))]) (init := [0, 1, 2]) (fin := [0, 12]) (sps := [⟨[0], [], [3], [(.slot 25)]⟩, ⟨[3, 0], [], [4], [(.slot 26)]⟩, ⟨[4], [], [5], [(.slot 27)]⟩, ⟨[5], [], [6], [(.slot 28)]⟩, ⟨[6], [], [7], [(.slot 29)]⟩, ⟨[6], [], [8], [(.slot 30)]⟩, ⟨[6], [], [9], [(.slot 31)]⟩, ⟨[6], [], [10], [(.slot 32)]⟩, ⟨[6], [], [11], [(.slot 33)]⟩, ⟨[11], [2], [12], [(.slot 6)]⟩]) (es' := [(_, _), (6, .v (.bool true))]) (by kernel_rfl) rfl rfl
                  ⟨st_plain rfl (op_fieldAddr _ _ _ _ 1 0 _ Try.underlying24 rfl sz3 rfl rfl (by decide)),
                    st_plain rfl (op_load _ _ _ _ _ _ Try.underlying3 rfl rfl rfl (Nat.le_of_ble_eq_true rfl) rfl rfl rfl),
                    st_plain rfl (op_bin _ _ _ _ _ rfl rfl rfl),
                    st_plain rfl (op_move _ _ _ _ (congrArg (fun b => AV.v (Value.bool b)) hg4_3) rfl),
                    st_skip 3 28 _ false rfl rfl rfl rfl (List.Mem.head _),
                    st_skip 3 28 _ false rfl rfl rfl rfl (List.Mem.head _),
                    st_skip 3 28 _ false rfl rfl rfl rfl (List.Mem.head _),
                    st_skip 3 28 _ false rfl rfl rfl rfl (List.Mem.head _),
                    st_plain rfl (op_pick _ _ true _ rfl rfl),
                    st_plain rfl (LOp.drop [_] (op_assign _ _ _ _ rfl rfl)),
                    trivial⟩ ?_
                exact hl48 _ (Option.some.inj h).symm
              · refine ht_seqR hn (El := [_, _, _, (25, .ptr 1 3), (26, .v (.int .i64 s.Base)), (27, .v (.bool ((decide (s.Base < 0))))), (28, .v (.bool false)), (29, .ptr 1 3), (30, .v (.int .i64 s.Base)), (31, .v (.int .i64 v1)), (32, .v (.bool ((decide (v1 < s.Base))))), (33, .v (.bool ((decide (v1 < s.Base))))), (6, .v (.bool ((decide (v1 < s.Base)))))]) (init := [0, 1, 2]) (fin := [0, 12]) (sps := [⟨[0], [], [3], [(.slot 25)]⟩, ⟨[3, 0], [], [4], [(.slot 26)]⟩, ⟨[4], [], [5], [(.slot 27)]⟩, ⟨[5], [], [6], [(.slot 28)]⟩, ⟨[6, 0], [], [7], [(.slot 29)]⟩, ⟨[6, 7, 0], [], [8], [(.slot 30)]⟩, ⟨[6, 1], [], [9], [(.slot 31)]⟩, ⟨[6, 8, 9], [], [10], [(.slot 32)]⟩, ⟨[6, 10], [], [11], [(.slot 33)]⟩, ⟨[11], [2], [12], [(.slot 6)]⟩]) (es' := [(_, _), (6, .v (.bool ((decide (v1 < s.Base)))))]) (by kernel_rfl) rfl rfl
                  ⟨st_plain rfl (op_fieldAddr _ _ _ _ 1 0 _ Try.underlying24 rfl sz3 rfl rfl (by decide)),
                    st_plain rfl (op_load _ _ _ _ _ _ Try.underlying3 rfl rfl rfl (Nat.le_of_ble_eq_true rfl) rfl rfl rfl),
                    st_plain rfl (op_bin _ _ _ _ _ rfl rfl rfl),
                    st_plain rfl (op_move _ _ _ _ (congrArg (fun b => AV.v (Value.bool b)) hg4_3) rfl),
                    st_run 3 28 false rfl rfl rfl (List.Mem.head _) (op_fieldAddr _ _ _ _ 1 0 _ Try.underlying24 rfl sz3 rfl rfl (by decide)),
                    st_run 3 28 false rfl rfl rfl (List.Mem.head _) (op_load _ _ _ _ _ _ Try.underlying3 rfl rfl rfl (Nat.le_of_ble_eq_true rfl) rfl rfl rfl),
                    st_run 3 28 false rfl rfl rfl (List.Mem.head _) (op_move _ _ _ _ rfl rfl),
                    st_run 3 28 false rfl rfl rfl (List.Mem.head _) (op_bin _ _ _ _ _ rfl rfl rfl),
                    st_plain rfl (op_pick _ _ false _ rfl rfl),
                    st_plain rfl (LOp.drop [_] (op_assign _ _ _ _ rfl rfl)),
                    trivial⟩ ?_
                exact hl48 _ (Option.some.inj h).symm
        · intro u42 h hl43 hr44
          refine cond_some h (fun hg3_4 h => ?_) (fun hg3_4 h => ?_)
          · refine ht_seqR hn (El := [_, _, _, (15, .ptr 1 1), (16, .fl .shr 1 (List.map (Value.int .u8) s.Data)), (17, .v (.int .i64 (s.Data.length : Int))), (18, .v (.bool ((decide ((s.Data.length : Int) < 1))))), (19, .v (.bool true)), (20, .v undef), (21, .v undef), (22, .v undef), (23, .v undef), (24, .v (.bool true)), (6, .v (.bool true))]) (init := [0, 1, 2]) (fin := [0, 1, 13]) (sps := [⟨[0], [], [3], [(.slot 15)]⟩, ⟨[3, 0], [], [4], [(.slot 16)]⟩, ⟨[4], [], [5], [(.slot 17)]⟩, ⟨[5], [], [6], [(.slot 18)]⟩, ⟨[6], [], [7], [(.slot 19)]⟩, ⟨[7], [], [8], [(.slot 20)]⟩, ⟨[7], [], [9], [(.slot 21)]⟩, ⟨[7], [], [10], [(.slot 22)]⟩, ⟨[7], [], [11], [(.slot 23)]⟩, ⟨[7], [], [12], [(.slot 24)]⟩, ⟨[12], [2], [13], [(.slot 6)]⟩]) (es' := [(_, _), (_, _), (6, .v (.bool true))]) (by kernel_rfl) rfl rfl
              ⟨st_plain rfl (op_fieldAddr _ _ _ _ 1 0 _ Try.underlying24 rfl sz22 rfl rfl (by decide)),
                st_plain rfl (op_load _ _ _ _ _ _ Try.underlying22 rfl rfl rfl (Nat.le_of_ble_eq_true rfl) rfl rfl rfl),
                st_plain rfl (op_len_fl _ _ _ Try.underlying22 rfl (by decide) (map_len _)),
                st_plain rfl (op_bin _ _ _ _ _ rfl rfl rfl),
                st_plain rfl (op_move _ _ _ _ (congrArg (fun b => AV.v (Value.bool b)) hg3_4) rfl),
                st_skip 4 19 _ false rfl rfl rfl rfl (List.Mem.head _),
                st_skip 4 19 _ false rfl rfl rfl rfl (List.Mem.head _),
                st_skip 4 19 _ false rfl rfl rfl rfl (List.Mem.head _),
                st_skip 4 19 _ false rfl rfl rfl rfl (List.Mem.head _),
                st_plain rfl (op_pick _ _ true _ rfl rfl),
                st_plain rfl (LOp.drop [_] (op_assign _ _ _ _ rfl rfl)),
                trivial⟩ ?_
            exact hl43 _ (Option.some.inj h).symm
          · refine ht_seqR hn (El := [_, _, _, (15, .ptr 1 1), (16, .fl .shr 1 (List.map (Value.int .u8) s.Data)), (17, .v (.int .i64 (s.Data.length : Int))), (18, .v (.bool ((decide ((s.Data.length : Int) < 1))))), (19, .v (.bool false)), (20, .ptr 1 1), (21, .fl .shr 1 (List.map (Value.int .u8) s.Data)), (22, .v (.int .i64 (s.Data.length : Int))), (23, .v (.bool ((decide (5000 < (s.Data.length : Int)))))), (24, .v (.bool ((decide (5000 < (s.Data.length : Int)))))), (6, .v (.bool ((decide (5000 < (s.Data.length : Int))))))]) (init := [0, 1, 2]) (fin := [0, 1, 13]) (sps := [⟨[0], [], [3], [(.slot 15)]⟩, ⟨[3, 0], [], [4], [(.slot 16)]⟩, ⟨[4], [], [5], [(.slot 17)]⟩, ⟨[5], [], [6], [(.slot 18)]⟩, ⟨[6], [], [7], [(.slot 19)]⟩, ⟨[7, 0], [], [8], [(.slot 20)]⟩, ⟨[7, 8, 0], [], [9], [(.slot 21)]⟩, ⟨[7, 9], [], [10], [(.slot 22)]⟩, ⟨[7, 10], [], [11], [(.slot 23)]⟩, ⟨[7, 11], [], [12], [(.slot 24)]⟩, ⟨[12], [2], [13], [(.slot 6)]⟩]) (es' := [(_, _), (_, _), (6, .v (.bool ((decide (5000 < (s.Data.length : Int))))))]) (by kernel_rfl) rfl rfl
              ⟨st_plain rfl (op_fieldAddr _ _ _ _ 1 0 _ Try.underlying24 rfl sz22 rfl rfl (by decide)),
                st_plain rfl (op_load _ _ _ _ _ _ Try.underlying22 rfl rfl rfl (Nat.le_of_ble_eq_true rfl) rfl rfl rfl),
                st_plain rfl (op_len_fl _ _ _ Try.underlying22 rfl (by decide) (map_len _)),
                st_plain rfl (op_bin _ _ _ _ _ rfl rfl rfl),
                st_plain rfl (op_move _ _ _ _ (congrArg (fun b => AV.v (Value.bool b)) hg3_4) rfl),
                st_run 4 19 false rfl rfl rfl (List.Mem.head _) (op_fieldAddr _ _ _ _ 1 0 _ Try.underlying24 rfl sz22 rfl rfl (by decide)),
                st_run 4 19 false rfl rfl rfl (List.Mem.head _) (op_load _ _ _ _ _ _ Try.underlying22 rfl rfl rfl (Nat.le_of_ble_eq_true rfl) rfl rfl rfl),
                st_run 4 19 false rfl rfl rfl (List.Mem.head _) (op_len_fl _ _ _ Try.underlying22 rfl (by decide) (map_len _)),
                st_run 4 19 false rfl rfl rfl (List.Mem.head _) (op_bin _ _ _ _ _ rfl rfl rfl),
                st_plain rfl (op_pick _ _ false _ rfl rfl),
                st_plain rfl (LOp.drop [_] (op_assign _ _ _ _ rfl rfl)),
                trivial⟩ ?_
            exact hl43 _ (Option.some.inj h).symm
    · intro u37 h hl38 hr39
      refine cond_some h (fun hg2_3 h => ?_) (fun hg2_3 h => ?_)
      · refine ht_seqR hn (El := [_, _, (7, .ptr 1 0), (8, .v (.int .i64 s.Number)), (9, .v (.bool ((decide (s.Number < 1))))), (10, .v (.bool true)), (11, .v undef), (12, .v undef), (13, .v undef), (14, .v (.bool true)), (6, .v (.bool true))]) (init := [0, 1]) (fin := [0, 1, 10]) (sps := [⟨[0], [], [2], [(.slot 7)]⟩, ⟨[2, 0], [], [3], [(.slot 8)]⟩, ⟨[3], [], [4], [(.slot 9)]⟩, ⟨[4], [], [5], [(.slot 10)]⟩, ⟨[5], [], [6], [(.slot 11)]⟩, ⟨[5], [], [7], [(.slot 12)]⟩, ⟨[5], [], [8], [(.slot 13)]⟩, ⟨[5], [], [9], [(.slot 14)]⟩, ⟨[9], [], [10], [(.slot 6)]⟩]) (es' := [(_, _), (_, _), (6, .v (.bool true))]) (by kernel_rfl) rfl rfl
          ⟨st_plain rfl (op_fieldAddr _ _ _ _ 1 0 _ Try.underlying24 rfl sz3 rfl rfl (by decide)),
            st_plain rfl (op_load _ _ _ _ _ _ Try.underlying3 rfl rfl rfl (Nat.le_of_ble_eq_true rfl) rfl rfl rfl),
            st_plain rfl (op_bin _ _ _ _ _ rfl rfl rfl),
            st_plain rfl (op_move _ _ _ _ (congrArg (fun b => AV.v (Value.bool b)) hg2_3) rfl),
            st_skip 3 10 _ false rfl rfl rfl rfl (List.Mem.head _),
            st_skip 3 10 _ false rfl rfl rfl rfl (List.Mem.head _),
            st_skip 3 10 _ false rfl rfl rfl rfl (List.Mem.head _),
            st_plain rfl (op_pick _ _ true _ rfl rfl),
            st_plain rfl (op_assign _ _ _ _ rfl rfl),
            trivial⟩ ?_
        exact hl38 _ (Option.some.inj h).symm
      · refine ht_seqR hn (El := [_, _, (7, .ptr 1 0), (8, .v (.int .i64 s.Number)), (9, .v (.bool ((decide (s.Number < 1))))), (10, .v (.bool false)), (11, .ptr 1 0), (12, .v (.int .i64 s.Number)), (13, .v (.bool ((decide (65535 < s.Number))))), (14, .v (.bool ((decide (65535 < s.Number))))), (6, .v (.bool ((decide (65535 < s.Number)))))]) (init := [0, 1]) (fin := [0, 1, 10]) (sps := [⟨[0], [], [2], [(.slot 7)]⟩, ⟨[2, 0], [], [3], [(.slot 8)]⟩, ⟨[3], [], [4], [(.slot 9)]⟩, ⟨[4], [], [5], [(.slot 10)]⟩, ⟨[5, 0], [], [6], [(.slot 11)]⟩, ⟨[5, 6, 0], [], [7], [(.slot 12)]⟩, ⟨[5, 7], [], [8], [(.slot 13)]⟩, ⟨[5, 8], [], [9], [(.slot 14)]⟩, ⟨[9], [], [10], [(.slot 6)]⟩]) (es' := [(_, _), (_, _), (6, .v (.bool ((decide (65535 < s.Number)))))]) (by kernel_rfl) rfl rfl
          ⟨st_plain rfl (op_fieldAddr _ _ _ _ 1 0 _ Try.underlying24 rfl sz3 rfl rfl (by decide)),
            st_plain rfl (op_load _ _ _ _ _ _ Try.underlying3 rfl rfl rfl (Nat.le_of_ble_eq_true rfl) rfl rfl rfl),
            st_plain rfl (op_bin _ _ _ _ _ rfl rfl rfl),
            st_plain rfl (op_move _ _ _ _ (congrArg (fun b => AV.v (Value.bool b)) hg2_3) rfl),
            st_run 3 10 false rfl rfl rfl (List.Mem.head _) (op_fieldAddr _ _ _ _ 1 0 _ Try.underlying24 rfl sz3 rfl rfl (by decide)),
            st_run 3 10 false rfl rfl rfl (List.Mem.head _) (op_load _ _ _ _ _ _ Try.underlying3 rfl rfl rfl (Nat.le_of_ble_eq_true rfl) rfl rfl rfl),
            st_run 3 10 false rfl rfl rfl (List.Mem.head _) (op_bin _ _ _ _ _ rfl rfl rfl),
            st_plain rfl (op_pick _ _ false _ rfl rfl),
            st_plain rfl (op_assign _ _ _ _ rfl rfl),
            trivial⟩ ?_
        exact hl38 _ (Option.some.inj h).symm

set_option maxHeartbeats 1000000 in
theorem ok_frame_Check (f : T_Frame) (r : Int) (h : Sh.frame_Check f = some r) : FnOK Try.prog 36 [.agg [.v (.int .i64 f.Kind), .v (.int .i64 f.Number), .v (.int .i64 f.Offset), .v (.int .i64 f.Seq), .fl .shr 1 (List.map (Value.int .u8) f.Data)]] (.v (.int .i64 r)) := by
  unfold Sh.frame_Check at h
  refine fn_ok Try.func36 rfl (Nat.le_of_ble_eq_true rfl) rfl rfl fun g0 hn hio => ?_
  refine ht_seq ?_
  refine ht_seqR hn (El := [_, (1, .box 26 [.v (.int .i64 f.Kind), .v (.int .i64 f.Number), .v (.int .i64 f.Offset), .v (.int .i64 f.Seq), .fl .shr 1 (List.map (Value.int .u8) f.Data)]), (2, .v (.int .i64 0))]) (init := [0]) (fin := [1]) (sps := [⟨[0], [], [1], [(.slot 1)]⟩, ⟨[], [], [2], [(.slot 2)]⟩]) (es' := [(1, .box 26 [.v (.int .i64 f.Kind), .v (.int .i64 f.Number), .v (.int .i64 f.Offset), .v (.int .i64 f.Seq), .fl .shr 1 (List.map (Value.int .u8) f.Data)])]) (by kernel_rfl) rfl rfl
    ⟨st_plain rfl (op_box _ _ _ _ rfl rfl rfl),
      st_plain rfl (op_assign _ _ _ _ rfl rfl),
      trivial⟩ ?_
  refine pt_then ?_
  refine ht_seq ?_
  refine ht_anyR (by kernel_rfl) hn (El := [_, (9, .ptr 1 2), (10, .v (.int .i64 f.Offset)), (11, .v (.bool (f.Offset == 0))), (12, .ptr 1 3), (13, .v (.int .i64 f.Seq)), (14, .v (.bool (f.Seq == 0))), (15, .ptr 1 4), (16, .fl .shr 1 (List.map (Value.int .u8) f.Data)), (17, .v (.int .i64 (f.Data.length : Int))), (18, .v (.bool (((f.Data.length : Int) == 0)))), (3, .v (.bool (f.Offset == 0))), (4, .v (.bool (f.Seq == 0))), (5, .v (.bool (((f.Data.length : Int) == 0))))]) (init := [0]) (fin := [0, 11, 12, 13]) (sps := [⟨[0], [], [1], [(.slot 9)]⟩, ⟨[1, 0], [], [2], [(.slot 10)]⟩, ⟨[2], [], [3], [(.slot 11)]⟩, ⟨[0], [], [4], [(.slot 12)]⟩, ⟨[4, 0], [], [5], [(.slot 13)]⟩, ⟨[5], [], [6], [(.slot 14)]⟩, ⟨[0], [], [7], [(.slot 15)]⟩, ⟨[7, 0], [], [8], [(.slot 16)]⟩, ⟨[8], [], [9], [(.slot 17)]⟩, ⟨[9], [], [10], [(.slot 18)]⟩, ⟨[3], [], [11], [(.slot 3)]⟩, ⟨[6], [], [12], [(.slot 4)]⟩, ⟨[10], [], [13], [(.slot 5)]⟩]) (es' := [(_, _), (3, .v (.bool (f.Offset == 0))), (4, .v (.bool (f.Seq == 0))), (5, .v (.bool (((f.Data.length : Int) == 0))))]) (by kernel_rfl) rfl rfl
    ⟨st_plain rfl (op_fieldAddr _ _ _ _ 1 0 _ Try.underlying26 rfl sz3 rfl rfl (by decide)),
      st_plain rfl (op_load _ _ _ _ _ _ Try.underlying3 rfl rfl rfl (Nat.le_of_ble_eq_true rfl) rfl rfl rfl),
      st_plain rfl (op_bin _ _ _ _ _ rfl rfl rfl),
      st_plain rfl (op_fieldAddr _ _ _ _ 1 0 _ Try.underlying26 rfl sz3 rfl rfl (by decide)),
      st_plain rfl (op_load _ _ _ _ _ _ Try.underlying3 rfl rfl rfl (Nat.le_of_ble_eq_true rfl) rfl rfl rfl),
      st_plain rfl (op_bin _ _ _ _ _ rfl rfl rfl),
      st_plain rfl (op_fieldAddr _ _ _ _ 1 0 _ Try.underlying26 rfl sz22 rfl rfl (by decide)),
      st_plain rfl (op_load _ _ _ _ _ _ Try.underlying22 rfl rfl rfl (Nat.le_of_ble_eq_true rfl) rfl rfl rfl),
      st_plain rfl (op_len_fl _ _ _ Try.underlying22 rfl (by decide) (map_len _)),
      st_plain rfl (op_bin _ _ _ _ _ rfl rfl rfl),
      st_plain rfl (op_assign _ _ _ _ rfl rfl),
      st_plain rfl (op_assign _ _ _ _ rfl rfl),
      st_plain rfl (op_assign _ _ _ _ rfl rfl),
      trivial⟩ ?_
  refine pt_then ?_
  refine ht_seq ?_
  refine ht_joinS h (fun (s1 : Bool) => [(1, .box 26 [.v (.int .i64 f.Kind), .v (.int .i64 f.Number), .v (.int .i64 f.Offset), .v (.int .i64 f.Seq), .fl .shr 1 (List.map (Value.int .u8) f.Data)]), (3, .v (.bool (f.Offset == 0))), (4, .v (.bool (f.Seq == 0))), (5, .v (.bool (((f.Data.length : Int) == 0)))), (6, .v (.bool s1))]) ?_ ?_
  · rintro s1 h
    refine pt_then ?_
    refine ht_seq ?_
    refine ht_joinS h (fun (s5 : Bool) => [(1, .box 26 [.v (.int .i64 f.Kind), .v (.int .i64 f.Number), .v (.int .i64 f.Offset), .v (.int .i64 f.Seq), .fl .shr 1 (List.map (Value.int .u8) f.Data)]), (3, .v (.bool (f.Offset == 0))), (4, .v (.bool (f.Seq == 0))), (5, .v (.bool (((f.Data.length : Int) == 0)))), (6, .v (.bool s1)), (7, .v (.bool s5))]) ?_ ?_
    · rintro s5 h
      refine pt_then ?_
      refine ht_seq ?_
      refine ht_seqR hn (El := [_, _, _, _, _, _, (8, .v (.bool false))]) (init := [0, 1, 2, 3, 4, 5]) (fin := [0, 1, 2, 3, 4, 5, 6]) (sps := [⟨[], [], [6], [(.slot 8)]⟩]) (es' := [(_, _), (_, _), (_, _), (_, _), (_, _), (_, _), (8, .v (.bool false))]) (by kernel_rfl) rfl rfl
        ⟨st_plain rfl (op_assign _ _ _ _ rfl rfl),
          trivial⟩ ?_
      refine pt_then ?_
      refine ht_seq ?_
      refine ht_joinS h (fun (s65 : Bool) => [(1, .box 26 [.v (.int .i64 f.Kind), .v (.int .i64 f.Number), .v (.int .i64 f.Offset), .v (.int .i64 f.Seq), .fl .shr 1 (List.map (Value.int .u8) f.Data)]), (8, .v (.bool s65))]) ?_ ?_
      · rintro s65 h
        refine pt_then ?_
        refine ht_seq ?_
        refine ht_seq ?_
        refine ht_joinS h (fun (s125 : Bool) => [(92, .v (.bool s125))]) ?_ ?_
        · rintro s125 h
          refine pt_then ?_
          refine ht_cond _ rfl (fun hb129 => ?_) (fun hb129 => ?_)
          · have h := cond_t hb129 h
            refine ht_seq ?_
            refine ht_seqR hn (El := [_, (2, .v (.int .i64 1))]) (init := [0]) (fin := [1]) (sps := [⟨[], [], [1], [(.slot 2)]⟩]) (es' := [(2, .v (.int .i64 1))]) (by kernel_rfl) rfl rfl
              ⟨st_plain rfl (op_assign _ _ _ _ rfl rfl),
                trivial⟩ ?_
            refine pt_then ?_
            refine ht_ret ?_
            refine pt_r_then ?_
            obtain rfl := Option.some.inj h
            exact pt_ret hio rfl (.tmp _ _ .nil) rfl rfl
          · have h := cond_f hb129 h
            refine ht_skip ?_
            refine pt_then ?_
            refine ht_seq ?_
            refine ht_seqR hn (El := [_, (2, .v (.int .i64 0))]) (init := [0]) (fin := [1]) (sps := [⟨[], [], [1], [(.slot 2)]⟩]) (es' := [(2, .v (.int .i64 0))]) (by kernel_rfl) rfl rfl
              ⟨st_plain rfl (op_assign _ _ _ _ rfl rfl),
                trivial⟩ ?_
            refine pt_then ?_
            refine ht_ret ?_
            obtain rfl := Option.some.inj h
            exact pt_ret hio rfl (.tmp _ _ .nil) rfl rfl
        · intro u126 h hl127 hr128
          refine cond_some h (fun hg15_2 h => ?_) (fun hg15_2 h => ?_)
          · refine ht_seqR hn (El := [_, _, (81, .v (.bool s65)), (82, .v (.bool (!s65))), (83, .v (.bool true)), (84, .v undef), (85, .v undef), (86, .v undef), (87, .v (.bool true)), (88, .v (.bool true)), (89, .v undef), (90, .v undef), (91, .v undef), (92, .v (.bool true))]) (init := [0, 1]) (fin := [13]) (sps := [⟨[1], [], [2], [(.slot 81)]⟩, ⟨[2], [], [3], [(.slot 82)]⟩, ⟨[3], [], [4], [(.slot 83)]⟩, ⟨[4], [], [5], [(.slot 84)]⟩, ⟨[4], [], [6], [(.slot 85)]⟩, ⟨[4], [], [7], [(.slot 86)]⟩, ⟨[4], [], [8], [(.slot 87)]⟩, ⟨[8], [], [9], [(.slot 88)]⟩, ⟨[9], [], [10], [(.slot 89)]⟩, ⟨[9], [], [11], [(.slot 90)]⟩, ⟨[9], [], [12], [(.slot 91)]⟩, ⟨[9], [], [13], [(.slot 92)]⟩]) (es' := [(92, .v (.bool true))]) (by kernel_rfl) rfl rfl
              ⟨st_plain rfl (op_move _ _ _ _ rfl rfl),
                st_plain rfl (op_un _ _ _ _ rfl rfl),
                st_plain rfl (op_move _ _ _ _ (congrArg (fun b => AV.v (Value.bool b)) hg15_2) rfl),
                st_skip 2 83 _ false rfl rfl rfl rfl (List.Mem.head _),
                st_skip 2 83 _ false rfl rfl rfl rfl (List.Mem.head _),
                st_skip 2 83 _ false rfl rfl rfl rfl (List.Mem.head _),
                st_plain rfl (op_pick _ _ true _ rfl rfl),
                st_plain rfl (op_move _ _ _ _ rfl rfl),
                st_skip 7 88 _ false rfl rfl rfl rfl (List.Mem.head _),
                st_skip 7 88 _ false rfl rfl rfl rfl (List.Mem.head _),
                st_skip 7 88 _ false rfl rfl rfl rfl (List.Mem.head _),
                st_plain rfl (op_pick _ _ true _ rfl rfl),
                trivial⟩ ?_
            exact hl127 _ (Option.some.inj h).symm
          · refine cond_some h (fun hg15_7 h => ?_) (fun hg15_7 h => ?_)
            · refine ht_seqR hn (El := [_, _, (81, .v (.bool s65)), (82, .v (.bool (!s65))), (83, .v (.bool false)), (84, .ptr 1 1), (85, .v (.int .i64 f.Number)), (86, .v (.bool ((decide (f.Number < 1))))), (87, .v (.bool ((decide (f.Number < 1))))), (88, .v (.bool true)), (89, .v undef), (90, .v undef), (91, .v undef), (92, .v (.bool true))]) (init := [0, 1]) (fin := [13]) (sps := [⟨[1], [], [2], [(.slot 81)]⟩, ⟨[2], [], [3], [(.slot 82)]⟩, ⟨[3], [], [4], [(.slot 83)]⟩, ⟨[4, 0], [], [5], [(.slot 84)]⟩, ⟨[4, 5, 0], [], [6], [(.slot 85)]⟩, ⟨[4, 6], [], [7], [(.slot 86)]⟩, ⟨[4, 7], [], [8], [(.slot 87)]⟩, ⟨[8], [], [9], [(.slot 88)]⟩, ⟨[9], [], [10], [(.slot 89)]⟩, ⟨[9], [], [11], [(.slot 90)]⟩, ⟨[9], [], [12], [(.slot 91)]⟩, ⟨[9], [], [13], [(.slot 92)]⟩]) (es' := [(92, .v (.bool true))]) (by kernel_rfl) rfl rfl
                ⟨st_plain rfl (op_move _ _ _ _ rfl rfl),
                  st_plain rfl (op_un _ _ _ _ rfl rfl),
                  st_plain rfl (op_move _ _ _ _ (congrArg (fun b => AV.v (Value.bool b)) hg15_2) rfl),
                  st_run 2 83 false rfl rfl rfl (List.Mem.head _) (op_fieldAddr _ _ _ _ 1 0 _ Try.underlying26 rfl sz3 rfl rfl (by decide)),
                  st_run 2 83 false rfl rfl rfl (List.Mem.head _) (op_load _ _ _ _ _ _ Try.underlying3 rfl rfl rfl (Nat.le_of_ble_eq_true rfl) rfl rfl rfl),
                  st_run 2 83 false rfl rfl rfl (List.Mem.head _) (op_bin _ _ _ _ _ rfl rfl rfl),
                  st_plain rfl (op_pick _ _ false _ rfl rfl),
                  st_plain rfl (op_move _ _ _ _ (congrArg (fun b => AV.v (Value.bool b)) hg15_7) rfl),
                  st_skip 7 88 _ false rfl rfl rfl rfl (List.Mem.head _),
                  st_skip 7 88 _ false rfl rfl rfl rfl (List.Mem.head _),
                  st_skip 7 88 _ false rfl rfl rfl rfl (List.Mem.head _),
                  st_plain rfl (op_pick _ _ true _ rfl rfl),
                  trivial⟩ ?_
              exact hl127 _ (Option.some.inj h).symm
            · refine ht_seqR hn (El := [_, _, (81, .v (.bool s65)), (82, .v (.bool (!s65))), (83, .v (.bool false)), (84, .ptr 1 1), (85, .v (.int .i64 f.Number)), (86, .v (.bool ((decide (f.Number < 1))))), (87, .v (.bool ((decide (f.Number < 1))))), (88, .v (.bool false)), (89, .ptr 1 1), (90, .v (.int .i64 f.Number)), (91, .v (.bool ((decide (65535 < f.Number))))), (92, .v (.bool ((decide (65535 < f.Number)))))]) (init := [0, 1]) (fin := [13]) (sps := [⟨[1], [], [2], [(.slot 81)]⟩, ⟨[2], [], [3], [(.slot 82)]⟩, ⟨[3], [], [4], [(.slot 83)]⟩, ⟨[4, 0], [], [5], [(.slot 84)]⟩, ⟨[4, 5, 0], [], [6], [(.slot 85)]⟩, ⟨[4, 6], [], [7], [(.slot 86)]⟩, ⟨[4, 7], [], [8], [(.slot 87)]⟩, ⟨[8], [], [9], [(.slot 88)]⟩, ⟨[9, 0], [], [10], [(.slot 89)]⟩, ⟨[9, 10, 0], [], [11], [(.slot 90)]⟩, ⟨[9, 11], [], [12], [(.slot 91)]⟩, ⟨[9, 12], [], [13], [(.slot 92)]⟩]) (es' := [(92, .v (.bool ((decide (65535 < f.Number)))))]) (by kernel_rfl) rfl rfl
                ⟨st_plain rfl (op_move _ _ _ _ rfl rfl),
                  st_plain rfl (op_un _ _ _ _ rfl rfl),
                  st_plain rfl (op_move _ _ _ _ (congrArg (fun b => AV.v (Value.bool b)) hg15_2) rfl),
                  st_run 2 83 false rfl rfl rfl (List.Mem.head _) (op_fieldAddr _ _ _ _ 1 0 _ Try.underlying26 rfl sz3 rfl rfl (by decide)),
                  st_run 2 83 false rfl rfl rfl (List.Mem.head _) (op_load _ _ _ _ _ _ Try.underlying3 rfl rfl rfl (Nat.le_of_ble_eq_true rfl) rfl rfl rfl),
                  st_run 2 83 false rfl rfl rfl (List.Mem.head _) (op_bin _ _ _ _ _ rfl rfl rfl),
                  st_plain rfl (op_pick _ _ false _ rfl rfl),
                  st_plain rfl (op_move _ _ _ _ (congrArg (fun b => AV.v (Value.bool b)) hg15_7) rfl),
                  st_run 7 88 false rfl rfl rfl (List.Mem.head _) (op_fieldAddr _ _ _ _ 1 0 _ Try.underlying26 rfl sz3 rfl rfl (by decide)),
                  st_run 7 88 false rfl rfl rfl (List.Mem.head _) (op_load _ _ _ _ _ _ Try.underlying3 rfl rfl rfl (Nat.le_of_ble_eq_true rfl) rfl rfl rfl),
                  st_run 7 88 false rfl rfl rfl (List.Mem.head _) (op_bin _ _ _ _ _ rfl rfl rfl),
                  st_plain rfl (op_pick _ _ false _ rfl rfl),
                  trivial⟩ ?_
              exact hl127 _ (Option.some.inj h).symm
      · intro u66 h hl67 hr68
        refine ht_seq ?_
        refine ht_seqR hn (El := [_, _, _, _, _, _, _, (35, .ptr 1 0), (36, .v (.int .i64 f.Kind))]) (init := [0, 1, 2, 3, 4, 5, 6]) (fin := [0, 1, 2, 3, 4, 5, 6, 8]) (sps := [⟨[0], [], [7], [(.slot 35)]⟩, ⟨[7, 0], [], [8], [(.slot 36)]⟩]) (es' := [(_, _), (_, _), (_, _), (_, _), (_, _), (_, _), (_, _), (36, .v (.int .i64 f.Kind))]) (by kernel_rfl) rfl rfl
          ⟨st_plain rfl (op_fieldAddr _ _ _ _ 1 0 _ Try.underlying26 rfl sz3 rfl rfl (by decide)),
            st_plain rfl (op_load _ _ _ _ _ _ Try.underlying3 rfl rfl rfl (Nat.le_of_ble_eq_true rfl) rfl rfl rfl),
            trivial⟩ ?_
        refine pt_then ?_
        refine ht_joinS h (fun (s95 : Bool) => [(1, .box 26 [.v (.int .i64 f.Kind), .v (.int .i64 f.Number), .v (.int .i64 f.Offset), .v (.int .i64 f.Seq), .fl .shr 1 (List.map (Value.int .u8) f.Data)]), (8, .v (.bool s95))]) ?_ ?_
        · rintro s95 h
          exact hl67 _ (Option.some.inj h).symm
        · intro u96 h hl97 hr98
          refine ht_block ?_
          refine ht_seq ?_
          refine ht_joinS h (fun (s100 : Bool) => [(1, .box 26 [.v (.int .i64 f.Kind), .v (.int .i64 f.Number), .v (.int .i64 f.Offset), .v (.int .i64 f.Seq), .fl .shr 1 (List.map (Value.int .u8) f.Data)]), (3, .v (.bool (f.Offset == 0))), (4, .v (.bool (f.Seq == 0))), (5, .v (.bool (((f.Data.length : Int) == 0)))), (6, .v (.bool s1)), (7, .v (.bool s5)), (8, .v (.bool false)), (36, .v (.int .i64 f.Kind)), (37, .v (.bool s100))]) ?_ ?_
          · rintro s100 h
            refine pt_then ?_
            refine ht_cond _ rfl (fun hb105 => ?_) (fun hb105 => ?_)
            · have h := cond_t hb105 h
              refine ht_joinS h (fun (s106 : Bool) => [(1, .box 26 [.v (.int .i64 f.Kind), .v (.int .i64 f.Number), .v (.int .i64 f.Offset), .v (.int .i64 f.Seq), .fl .shr 1 (List.map (Value.int .u8) f.Data)]), (8, .v (.bool s106))]) ?_ ?_
              · rintro s106 h
                refine pt_inb ?_
                exact hl97 _ (Option.some.inj h).symm
              · intro u107 h hl108 hr109
                refine cond_some h (fun hg8_1 h => ?_) (fun hg8_1 h => ?_)
                · refine cond_some h (fun hg8_4 h => ?_) (fun hg8_4 h => ?_)
                  · refine ht_seqR hn (El := (_ :: _ :: _ :: _ :: _ :: _ :: _ :: _ :: _ :: (40, .v (.bool s1)) :: (41, .v (.bool true)) :: (42, .v (.bool (f.Seq == 0))) :: (43, .v (.bool (f.Seq == 0))) :: (44, .v (.bool true)) :: (45, .v (.bool (((f.Data.length : Int) == 0)))) :: (46, .v (.bool (((f.Data.length : Int) == 0)))) :: (8, .v (.bool (((f.Data.length : Int) == 0)))) :: [])) (init := [0, 1, 2, 3, 4, 5, 6, 7, 8]) (fin := [0, 16]) (sps := [⟨[4], [], [9], [(.slot 40)]⟩, ⟨[9], [], [10], [(.slot 41)]⟩, ⟨[10, 2], [], [11], [(.slot 42)]⟩, ⟨[10, 11], [], [12], [(.slot 43)]⟩, ⟨[12], [], [13], [(.slot 44)]⟩, ⟨[13, 3], [], [14], [(.slot 45)]⟩, ⟨[13, 14], [], [15], [(.slot 46)]⟩, ⟨[15], [6], [16], [(.slot 8)]⟩]) (es' := [(_, _), (8, .v (.bool (((f.Data.length : Int) == 0))))]) (by kernel_rfl) rfl rfl
                      ⟨st_plain rfl (op_move _ _ _ _ rfl rfl),
                        st_plain rfl (op_move _ _ _ _ (congrArg (fun b => AV.v (Value.bool b)) hg8_1) rfl),
                        st_run 1 41 true rfl rfl rfl (List.Mem.head _) (op_move _ _ _ _ rfl rfl),
                        st_plain rfl (op_pick _ _ true _ rfl rfl),
                        st_plain rfl (op_move _ _ _ _ (congrArg (fun b => AV.v (Value.bool b)) hg8_4) rfl),
                        st_run 4 44 true rfl rfl rfl (List.Mem.head _) (op_move _ _ _ _ rfl rfl),
                        st_plain rfl (op_pick _ _ true _ rfl rfl),
                        st_plain rfl (LOp.drop [_] (op_assign _ _ _ _ rfl rfl)),
                        trivial⟩ ?_
                    exact hl108 _ (Option.some.inj h).symm
                  · refine ht_seqR hn (El := (_ :: _ :: _ :: _ :: _ :: _ :: _ :: _ :: _ :: (40, .v (.bool s1)) :: (41, .v (.bool true)) :: (42, .v (.bool (f.Seq == 0))) :: (43, .v (.bool (f.Seq == 0))) :: (44, .v (.bool false)) :: (45, .v undef) :: (46, .v (.bool false)) :: (8, .v (.bool false)) :: [])) (init := [0, 1, 2, 3, 4, 5, 6, 7, 8]) (fin := [0, 16]) (sps := [⟨[4], [], [9], [(.slot 40)]⟩, ⟨[9], [], [10], [(.slot 41)]⟩, ⟨[10, 2], [], [11], [(.slot 42)]⟩, ⟨[10, 11], [], [12], [(.slot 43)]⟩, ⟨[12], [], [13], [(.slot 44)]⟩, ⟨[13], [], [14], [(.slot 45)]⟩, ⟨[13], [], [15], [(.slot 46)]⟩, ⟨[15], [6], [16], [(.slot 8)]⟩]) (es' := [(_, _), (8, .v (.bool false))]) (by kernel_rfl) rfl rfl
                      ⟨st_plain rfl (op_move _ _ _ _ rfl rfl),
                        st_plain rfl (op_move _ _ _ _ (congrArg (fun b => AV.v (Value.bool b)) hg8_1) rfl),
                        st_run 1 41 true rfl rfl rfl (List.Mem.head _) (op_move _ _ _ _ rfl rfl),
                        st_plain rfl (op_pick _ _ true _ rfl rfl),
                        st_plain rfl (op_move _ _ _ _ (congrArg (fun b => AV.v (Value.bool b)) hg8_4) rfl),
                        st_skip 4 44 _ true rfl rfl rfl rfl (List.Mem.head _),
                        st_plain rfl (op_pick _ _ false _ rfl rfl),
                        st_plain rfl (LOp.drop [_] (op_assign _ _ _ _ rfl rfl)),
                        trivial⟩ ?_
                    exact hl108 _ (Option.some.inj h).symm
                · refine ht_seqR hn (El := (_ :: _ :: _ :: _ :: _ :: _ :: _ :: _ :: _ :: (40, .v (.bool s1)) :: (41, .v (.bool false)) :: (42, .v undef) :: (43, .v (.bool false)) :: (44, .v (.bool false)) :: (45, .v undef) :: (46, .v (.bool false)) :: (8, .v (.bool false)) :: [])) (init := [0, 1, 2, 3, 4, 5, 6, 7, 8]) (fin := [0, 16]) (sps := [⟨[4], [], [9], [(.slot 40)]⟩, ⟨[9], [], [10], [(.slot 41)]⟩, ⟨[10], [], [11], [(.slot 42)]⟩, ⟨[10], [], [12], [(.slot 43)]⟩, ⟨[12], [], [13], [(.slot 44)]⟩, ⟨[13], [], [14], [(.slot 45)]⟩, ⟨[13], [], [15], [(.slot 46)]⟩, ⟨[15], [6], [16], [(.slot 8)]⟩]) (es' := [(_, _), (8, .v (.bool false))]) (by kernel_rfl) rfl rfl
                    ⟨st_plain rfl (op_move _ _ _ _ rfl rfl),
                      st_plain rfl (op_move _ _ _ _ (congrArg (fun b => AV.v (Value.bool b)) hg8_1) rfl),
                      st_skip 1 41 _ true rfl rfl rfl rfl (List.Mem.head _),
                      st_plain rfl (op_pick _ _ false _ rfl rfl),
                      st_plain rfl (op_move _ _ _ _ rfl rfl),
                      st_skip 4 44 _ true rfl rfl rfl rfl (List.Mem.head _),
                      st_plain rfl (op_pick _ _ false _ rfl rfl),
                      st_plain rfl (LOp.drop [_] (op_assign _ _ _ _ rfl rfl)),
                      trivial⟩ ?_
                  exact hl108 _ (Option.some.inj h).symm
            · have h := cond_f hb105 h
              refine ht_seq ?_
              refine ht_seqR hn (El := [_, _, _, _, _, _, _, _, _, (48, .v (.bool (f.Kind == 3))), (47, .v (.bool (f.Kind == 3)))]) (init := [0, 1, 2, 3, 4, 5, 6, 7, 8]) (fin := [0, 1, 2, 3, 4, 5, 6, 7, 10]) (sps := [⟨[7], [], [9], [(.slot 48)]⟩, ⟨[9], [], [10], [(.slot 47)]⟩]) (es' := [(_, _), (_, _), (_, _), (_, _), (_, _), (_, _), (_, _), (_, _), (47, .v (.bool (f.Kind == 3)))]) (by kernel_rfl) rfl rfl
                ⟨st_plain rfl (op_bin _ _ _ _ _ rfl rfl rfl),
                  st_plain rfl (op_assign _ _ _ _ rfl rfl),
                  trivial⟩ ?_
              refine pt_then ?_
              refine ht_cond _ rfl (fun hb110 => ?_) (fun hb110 => ?_)
              · have h := cond_t hb110 h
                refine ht_joinS h (fun (s111 : Bool) => [(1, .box 26 [.v (.int .i64 f.Kind), .v (.int .i64 f.Number), .v (.int .i64 f.Offset), .v (.int .i64 f.Seq), .fl .shr 1 (List.map (Value.int .u8) f.Data)]), (8, .v (.bool s111))]) ?_ ?_
                · rintro s111 h
                  refine pt_inb ?_
                  exact hl97 _ (Option.some.inj h).symm
                · intro u112 h hl113 hr114
                  refine cond_some h (fun hg10_1 h => ?_) (fun hg10_1 h => ?_)
                  · refine cond_some h (fun hg10_4 h => ?_) (fun hg10_4 h => ?_)
                    · refine cond_some h (fun hg10_8 h => ?_) (fun hg10_8 h => ?_)
                      · refine ht_seqR hn (El := (_ :: _ :: _ :: _ :: _ :: _ :: _ :: _ :: _ :: (49, .v (.bool s1)) :: (50, .v (.bool true)) :: (51, .v (.bool s5)) :: (52, .v (.bool s5)) :: (53, .v (.bool true)) :: (54, .v (.bool (((f.Data.length : Int) == 0)))) :: (55, .v (.bool ((!(((f.Data.length : Int) == 0)))))) :: (56, .v (.bool ((!(((f.Data.length : Int) == 0)))))) :: (57, .v (.bool true)) :: (58, .ptr 1 4) :: (59, .fl .shr 1 (List.map (Value.int .u8) f.Data)) :: (60, .v (.int .i64 (f.Data.length : Int))) :: (61, .v (.bool ((decide ((f.Data.length : Int) ≤ 48))))) :: (62, .v (.bool ((decide ((f.Data.length : Int) ≤ 48))))) :: (8, .v (.bool ((decide ((f.Data.length : Int) ≤ 48))))) :: [])) (init := [0, 1, 2, 3, 4, 5, 6, 7, 8]) (fin := [0, 23]) (sps := (⟨[4], [], [9], [(.slot 49)]⟩ :: ⟨[9], [], [10], [(.slot 50)]⟩ :: ⟨[10, 5], [], [11], [(.slot 51)]⟩ :: ⟨[10, 11], [], [12], [(.slot 52)]⟩ :: ⟨[12], [], [13], [(.slot 53)]⟩ :: ⟨[13, 3], [], [14], [(.slot 54)]⟩ :: ⟨[13, 14], [], [15], [(.slot 55)]⟩ :: ⟨[13, 15], [], [16], [(.slot 56)]⟩ :: ⟨[16], [], [17], [(.slot 57)]⟩ :: ⟨[17, 0], [], [18], [(.slot 58)]⟩ :: ⟨[17, 18, 0], [], [19], [(.slot 59)]⟩ :: ⟨[17, 19], [], [20], [(.slot 60)]⟩ :: ⟨[17, 20], [], [21], [(.slot 61)]⟩ :: ⟨[17, 21], [], [22], [(.slot 62)]⟩ :: ⟨[22], [6], [23], [(.slot 8)]⟩ :: [])) (es' := [(_, _), (8, .v (.bool ((decide ((f.Data.length : Int) ≤ 48)))))]) (by kernel_rfl) rfl rfl
                          ⟨st_plain rfl (op_move _ _ _ _ rfl rfl),
                            st_plain rfl (op_move _ _ _ _ (congrArg (fun b => AV.v (Value.bool b)) hg10_1) rfl),
                            st_run 1 50 true rfl rfl rfl (List.Mem.head _) (op_move _ _ _ _ rfl rfl),
                            st_plain rfl (op_pick _ _ true _ rfl rfl),
                            st_plain rfl (op_move _ _ _ _ (congrArg (fun b => AV.v (Value.bool b)) hg10_4) rfl),
                            st_run 4 53 true rfl rfl rfl (List.Mem.head _) (op_move _ _ _ _ rfl rfl),
                            st_run 4 53 true rfl rfl rfl (List.Mem.head _) (op_un _ _ _ _ rfl rfl),
                            st_plain rfl (op_pick _ _ true _ rfl rfl),
                            st_plain rfl (op_move _ _ _ _ (congrArg (fun b => AV.v (Value.bool b)) hg10_8) rfl),
                            st_run 8 57 true rfl rfl rfl (List.Mem.head _) (op_fieldAddr _ _ _ _ 1 0 _ Try.underlying26 rfl sz22 rfl rfl (by decide)),
                            st_run 8 57 true rfl rfl rfl (List.Mem.head _) (op_load _ _ _ _ _ _ Try.underlying22 rfl rfl rfl (Nat.le_of_ble_eq_true rfl) rfl rfl rfl),
                            st_run 8 57 true rfl rfl rfl (List.Mem.head _) (op_len_fl _ _ _ Try.underlying22 rfl (by decide) (map_len _)),
                            st_run 8 57 true rfl rfl rfl (List.Mem.head _) (op_bin _ _ _ _ _ rfl rfl rfl),
                            st_plain rfl (op_pick _ _ true _ rfl rfl),
                            st_plain rfl (LOp.drop [_] (op_assign _ _ _ _ rfl rfl)),
                            trivial⟩ ?_
                        exact hl113 _ (Option.some.inj h).symm
                      · refine ht_seqR hn (El := (_ :: _ :: _ :: _ :: _ :: _ :: _ :: _ :: _ :: (49, .v (.bool s1)) :: (50, .v (.bool true)) :: (51, .v (.bool s5)) :: (52, .v (.bool s5)) :: (53, .v (.bool true)) :: (54, .v (.bool (((f.Data.length : Int) == 0)))) :: (55, .v (.bool ((!(((f.Data.length : Int) == 0)))))) :: (56, .v (.bool ((!(((f.Data.length : Int) == 0)))))) :: (57, .v (.bool false)) :: (58, .v undef) :: (59, .v undef) :: (60, .v undef) :: (61, .v undef) :: (62, .v (.bool false)) :: (8, .v (.bool false)) :: [])) (init := [0, 1, 2, 3, 4, 5, 6, 7, 8]) (fin := [0, 23]) (sps := (⟨[4], [], [9], [(.slot 49)]⟩ :: ⟨[9], [], [10], [(.slot 50)]⟩ :: ⟨[10, 5], [], [11], [(.slot 51)]⟩ :: ⟨[10, 11], [], [12], [(.slot 52)]⟩ :: ⟨[12], [], [13], [(.slot 53)]⟩ :: ⟨[13, 3], [], [14], [(.slot 54)]⟩ :: ⟨[13, 14], [], [15], [(.slot 55)]⟩ :: ⟨[13, 15], [], [16], [(.slot 56)]⟩ :: ⟨[16], [], [17], [(.slot 57)]⟩ :: ⟨[17], [], [18], [(.slot 58)]⟩ :: ⟨[17], [], [19], [(.slot 59)]⟩ :: ⟨[17], [], [20], [(.slot 60)]⟩ :: ⟨[17], [], [21], [(.slot 61)]⟩ :: ⟨[17], [], [22], [(.slot 62)]⟩ :: ⟨[22], [6], [23], [(.slot 8)]⟩ :: [])) (es' := [(_, _), (8, .v (.bool false))]) (by kernel_rfl) rfl rfl
                          ⟨st_plain rfl (op_move _ _ _ _ rfl rfl),
                            st_plain rfl (op_move _ _ _ _ (congrArg (fun b => AV.v (Value.bool b)) hg10_1) rfl),
                            st_run 1 50 true rfl rfl rfl (List.Mem.head _) (op_move _ _ _ _ rfl rfl),
                            st_plain rfl (op_pick _ _ true _ rfl rfl),
                            st_plain rfl (op_move _ _ _ _ (congrArg (fun b => AV.v (Value.bool b)) hg10_4) rfl),
                            st_run 4 53 true rfl rfl rfl (List.Mem.head _) (op_move _ _ _ _ rfl rfl),
                            st_run 4 53 true rfl rfl rfl (List.Mem.head _) (op_un _ _ _ _ rfl rfl),
                            st_plain rfl (op_pick _ _ true _ rfl rfl),
                            st_plain rfl (op_move _ _ _ _ (congrArg (fun b => AV.v (Value.bool b)) hg10_8) rfl),
                            st_skip 8 57 _ true rfl rfl rfl rfl (List.Mem.head _),
                            st_skip 8 57 _ true rfl rfl rfl rfl (List.Mem.head _),
                            st_skip 8 57 _ true rfl rfl rfl rfl (List.Mem.head _),
                            st_skip 8 57 _ true rfl rfl rfl rfl (List.Mem.head _),
                            st_plain rfl (op_pick _ _ false _ rfl rfl),
                            st_plain rfl (LOp.drop [_] (op_assign _ _ _ _ rfl rfl)),
                            trivial⟩ ?_
                        exact hl113 _ (Option.some.inj h).symm
                    · refine ht_seqR hn (El := (_ :: _ :: _ :: _ :: _ :: _ :: _ :: _ :: _ :: (49, .v (.bool s1)) :: (50, .v (.bool true)) :: (51, .v (.bool s5)) :: (52, .v (.bool s5)) :: (53, .v (.bool false)) :: (54, .v undef) :: (55, .v undef) :: (56, .v (.bool false)) :: (57, .v (.bool false)) :: (58, .v undef) :: (59, .v undef) :: (60, .v undef) :: (61, .v undef) :: (62, .v (.bool false)) :: (8, .v (.bool false)) :: [])) (init := [0, 1, 2, 3, 4, 5, 6, 7, 8]) (fin := [0, 23]) (sps := (⟨[4], [], [9], [(.slot 49)]⟩ :: ⟨[9], [], [10], [(.slot 50)]⟩ :: ⟨[10, 5], [], [11], [(.slot 51)]⟩ :: ⟨[10, 11], [], [12], [(.slot 52)]⟩ :: ⟨[12], [], [13], [(.slot 53)]⟩ :: ⟨[13], [], [14], [(.slot 54)]⟩ :: ⟨[13], [], [15], [(.slot 55)]⟩ :: ⟨[13], [], [16], [(.slot 56)]⟩ :: ⟨[16], [], [17], [(.slot 57)]⟩ :: ⟨[17], [], [18], [(.slot 58)]⟩ :: ⟨[17], [], [19], [(.slot 59)]⟩ :: ⟨[17], [], [20], [(.slot 60)]⟩ :: ⟨[17], [], [21], [(.slot 61)]⟩ :: ⟨[17], [], [22], [(.slot 62)]⟩ :: ⟨[22], [6], [23], [(.slot 8)]⟩ :: [])) (es' := [(_, _), (8, .v (.bool false))]) (by kernel_rfl) rfl rfl
                        ⟨st_plain rfl (op_move _ _ _ _ rfl rfl),
                          st_plain rfl (op_move _ _ _ _ (congrArg (fun b => AV.v (Value.bool b)) hg10_1) rfl),
                          st_run 1 50 true rfl rfl rfl (List.Mem.head _) (op_move _ _ _ _ rfl rfl),
                          st_plain rfl (op_pick _ _ true _ rfl rfl),
                          st_plain rfl (op_move _ _ _ _ (congrArg (fun b => AV.v (Value.bool b)) hg10_4) rfl),
                          st_skip 4 53 _ true rfl rfl rfl rfl (List.Mem.head _),
                          st_skip 4 53 _ true rfl rfl rfl rfl (List.Mem.head _),
                          st_plain rfl (op_pick _ _ false _ rfl rfl),
                          st_plain rfl (op_move _ _ _ _ rfl rfl),
                          st_skip 8 57 _ true rfl rfl rfl rfl (List.Mem.head _),
                          st_skip 8 57 _ true rfl rfl rfl rfl (List.Mem.head _),
                          st_skip 8 57 _ true rfl rfl rfl rfl (List.Mem.head _),
                          st_skip 8 57 _ true rfl rfl rfl rfl (List.Mem.head _),
                          st_plain rfl (op_pick _ _ false _ rfl rfl),
                          st_plain rfl (LOp.drop [_] (op_assign _ _ _ _ rfl rfl)),
                          trivial⟩ ?_
                      exact hl113 _ (Option.some.inj h).symm
                  · refine ht_seqR hn (El := (_ :: _ :: _ :: _ :: _ :: _ :: _ :: _ :: _ :: (49, .v (.bool s1)) :: (50, .v (.bool false)) :: (51, .v undef) :: (52, .v (.bool false)) :: (53, .v (.bool false)) :: (54, .v undef) :: (55, .v undef) :: (56, .v (.bool false)) :: (57, .v (.bool false)) :: (58, .v undef) :: (59, .v undef) :: (60, .v undef) :: (61, .v undef) :: (62, .v (.bool false)) :: (8, .v (.bool false)) :: [])) (init := [0, 1, 2, 3, 4, 5, 6, 7, 8]) (fin := [0, 23]) (sps := (⟨[4], [], [9], [(.slot 49)]⟩ :: ⟨[9], [], [10], [(.slot 50)]⟩ :: ⟨[10], [], [11], [(.slot 51)]⟩ :: ⟨[10], [], [12], [(.slot 52)]⟩ :: ⟨[12], [], [13], [(.slot 53)]⟩ :: ⟨[13], [], [14], [(.slot 54)]⟩ :: ⟨[13], [], [15], [(.slot 55)]⟩ :: ⟨[13], [], [16], [(.slot 56)]⟩ :: ⟨[16], [], [17], [(.slot 57)]⟩ :: ⟨[17], [], [18], [(.slot 58)]⟩ :: ⟨[17], [], [19], [(.slot 59)]⟩ :: ⟨[17], [], [20], [(.slot 60)]⟩ :: ⟨[17], [], [21], [(.slot 61)]⟩ :: ⟨[17], [], [22], [(.slot 62)]⟩ :: ⟨[22], [6], [23], [(.slot 8)]⟩ :: [])) (es' := [(_, _), (8, .v (.bool false))]) (by kernel_rfl) rfl rfl
                      ⟨st_plain rfl (op_move _ _ _ _ rfl rfl),
                        st_plain rfl (op_move _ _ _ _ (congrArg (fun b => AV.v (Value.bool b)) hg10_1) rfl),
                        st_skip 1 50 _ true rfl rfl rfl rfl (List.Mem.head _),
                        st_plain rfl (op_pick _ _ false _ rfl rfl),
                        st_plain rfl (op_move _ _ _ _ rfl rfl),
                        st_skip 4 53 _ true rfl rfl rfl rfl (List.Mem.head _),
                        st_skip 4 53 _ true rfl rfl rfl rfl (List.Mem.head _),
                        st_plain rfl (op_pick _ _ false _ rfl rfl),
                        st_plain rfl (op_move _ _ _ _ rfl rfl),
                        st_skip 8 57 _ true rfl rfl rfl rfl (List.Mem.head _),
                        st_skip 8 57 _ true rfl rfl rfl rfl (List.Mem.head _),
                        st_skip 8 57 _ true rfl rfl rfl rfl (List.Mem.head _),
                        st_skip 8 57 _ true rfl rfl rfl rfl (List.Mem.head _),
                        st_plain rfl (op_pick _ _ false _ rfl rfl),
                        st_plain rfl (LOp.drop [_] (op_assign _ _ _ _ rfl rfl)),
                        trivial⟩ ?_
                    exact hl113 _ (Option.some.inj h).symm
              · have h := cond_f hb110 h
                refine ht_seq ?_
                refine ht_seqR hn (El := [_, _, _, _, _, _, _, _, _, (64, .v (.bool (f.Kind == 4))), (63, .v (.bool (f.Kind == 4)))]) (init := [0, 1, 2, 3, 4, 5, 6, 7, 8]) (fin := [0, 1, 2, 3, 5, 6, 7, 10]) (sps := [⟨[7], [], [9], [(.slot 64)]⟩, ⟨[9], [], [10], [(.slot 63)]⟩]) (es' := [(_, _), (_, _), (_, _), (_, _), (_, _), (_, _), (_, _), (63, .v (.bool (f.Kind == 4)))]) (by kernel_rfl) rfl rfl
                  ⟨st_plain rfl (op_bin _ _ _ _ _ rfl rfl rfl),
                    st_plain rfl (op_assign _ _ _ _ rfl rfl),
                    trivial⟩ ?_
                refine pt_then ?_
                refine ht_cond _ rfl (fun hb115 => ?_) (fun hb115 => ?_)
                · have h := cond_t hb115 h
                  refine ht_joinS h (fun (s116 : Bool) => [(1, .box 26 [.v (.int .i64 f.Kind), .v (.int .i64 f.Number), .v (.int .i64 f.Offset), .v (.int .i64 f.Seq), .fl .shr 1 (List.map (Value.int .u8) f.Data)]), (8, .v (.bool s116))]) ?_ ?_
                  · rintro s116 h
                    refine pt_inb ?_
                    exact hl97 _ (Option.some.inj h).symm
                  · intro u117 h hl118 hr119
                    refine cond_some h (fun hg12_1 h => ?_) (fun hg12_1 h => ?_)
                    · refine cond_some h (fun hg12_4 h => ?_) (fun hg12_4 h => ?_)
                      · refine ht_seqR hn (El := (_ :: _ :: _ :: _ :: _ :: _ :: _ :: _ :: (65, .v (.bool (f.Offset == 0))) :: (66, .v (.bool true)) :: (67, .v (.bool s5)) :: (68, .v (.bool s5)) :: (69, .v (.bool true)) :: (70, .v (.bool (((f.Data.length : Int) == 0)))) :: (71, .v (.bool (((f.Data.length : Int) == 0)))) :: (8, .v (.bool (((f.Data.length : Int) == 0)))) :: [])) (init := [0, 1, 2, 3, 4, 5, 6, 7]) (fin := [0, 15]) (sps := [⟨[1], [], [8], [(.slot 65)]⟩, ⟨[8], [], [9], [(.slot 66)]⟩, ⟨[9, 4], [], [10], [(.slot 67)]⟩, ⟨[9, 10], [], [11], [(.slot 68)]⟩, ⟨[11], [], [12], [(.slot 69)]⟩, ⟨[12, 3], [], [13], [(.slot 70)]⟩, ⟨[12, 13], [], [14], [(.slot 71)]⟩, ⟨[14], [5], [15], [(.slot 8)]⟩]) (es' := [(_, _), (8, .v (.bool (((f.Data.length : Int) == 0))))]) (by kernel_rfl) rfl rfl
                          ⟨st_plain rfl (op_move _ _ _ _ rfl rfl),
                            st_plain rfl (op_move _ _ _ _ (congrArg (fun b => AV.v (Value.bool b)) hg12_1) rfl),
                            st_run 1 66 true rfl rfl rfl (List.Mem.head _) (op_move _ _ _ _ rfl rfl),
                            st_plain rfl (op_pick _ _ true _ rfl rfl),
                            st_plain rfl (op_move _ _ _ _ (congrArg (fun b => AV.v (Value.bool b)) hg12_4) rfl),
                            st_run 4 69 true rfl rfl rfl (List.Mem.head _) (op_move _ _ _ _ rfl rfl),
                            st_plain rfl (op_pick _ _ true _ rfl rfl),
                            st_plain rfl (LOp.drop [_] (op_assign _ _ _ _ rfl rfl)),
                            trivial⟩ ?_
                        exact hl118 _ (Option.some.inj h).symm
                      · refine ht_seqR hn (El := (_ :: _ :: _ :: _ :: _ :: _ :: _ :: _ :: (65, .v (.bool (f.Offset == 0))) :: (66, .v (.bool true)) :: (67, .v (.bool s5)) :: (68, .v (.bool s5)) :: (69, .v (.bool false)) :: (70, .v undef) :: (71, .v (.bool false)) :: (8, .v (.bool false)) :: [])) (init := [0, 1, 2, 3, 4, 5, 6, 7]) (fin := [0, 15]) (sps := [⟨[1], [], [8], [(.slot 65)]⟩, ⟨[8], [], [9], [(.slot 66)]⟩, ⟨[9, 4], [], [10], [(.slot 67)]⟩, ⟨[9, 10], [], [11], [(.slot 68)]⟩, ⟨[11], [], [12], [(.slot 69)]⟩, ⟨[12], [], [13], [(.slot 70)]⟩, ⟨[12], [], [14], [(.slot 71)]⟩, ⟨[14], [5], [15], [(.slot 8)]⟩]) (es' := [(_, _), (8, .v (.bool false))]) (by kernel_rfl) rfl rfl
                          ⟨st_plain rfl (op_move _ _ _ _ rfl rfl),
                            st_plain rfl (op_move _ _ _ _ (congrArg (fun b => AV.v (Value.bool b)) hg12_1) rfl),
                            st_run 1 66 true rfl rfl rfl (List.Mem.head _) (op_move _ _ _ _ rfl rfl),
                            st_plain rfl (op_pick _ _ true _ rfl rfl),
                            st_plain rfl (op_move _ _ _ _ (congrArg (fun b => AV.v (Value.bool b)) hg12_4) rfl),
                            st_skip 4 69 _ true rfl rfl rfl rfl (List.Mem.head _),
                            st_plain rfl (op_pick _ _ false _ rfl rfl),
                            st_plain rfl (LOp.drop [_] (op_assign _ _ _ _ rfl rfl)),
                            trivial⟩ ?_
                        exact hl118 _ (Option.some.inj h).symm
                    · refine ht_seqR hn (El := (_ :: _ :: _ :: _ :: _ :: _ :: _ :: _ :: (65, .v (.bool (f.Offset == 0))) :: (66, .v (.bool false)) :: (67, .v undef) :: (68, .v (.bool false)) :: (69, .v (.bool false)) :: (70, .v undef) :: (71, .v (.bool false)) :: (8, .v (.bool false)) :: [])) (init := [0, 1, 2, 3, 4, 5, 6, 7]) (fin := [0, 15]) (sps := [⟨[1], [], [8], [(.slot 65)]⟩, ⟨[8], [], [9], [(.slot 66)]⟩, ⟨[9], [], [10], [(.slot 67)]⟩, ⟨[9], [], [11], [(.slot 68)]⟩, ⟨[11], [], [12], [(.slot 69)]⟩, ⟨[12], [], [13], [(.slot 70)]⟩, ⟨[12], [], [14], [(.slot 71)]⟩, ⟨[14], [5], [15], [(.slot 8)]⟩]) (es' := [(_, _), (8, .v (.bool false))]) (by kernel_rfl) rfl rfl
                        ⟨st_plain rfl (op_move _ _ _ _ rfl rfl),
                          st_plain rfl (op_move _ _ _ _ (congrArg (fun b => AV.v (Value.bool b)) hg12_1) rfl),
                          st_skip 1 66 _ true rfl rfl rfl rfl (List.Mem.head _),
                          st_plain rfl (op_pick _ _ false _ rfl rfl),
                          st_plain rfl (op_move _ _ _ _ rfl rfl),
                          st_skip 4 69 _ true rfl rfl rfl rfl (List.Mem.head _),
                          st_plain rfl (op_pick _ _ false _ rfl rfl),
                          st_plain rfl (LOp.drop [_] (op_assign _ _ _ _ rfl rfl)),
                          trivial⟩ ?_
                      exact hl118 _ (Option.some.inj h).symm
                · have h := cond_f hb115 h
                  refine ht_seq ?_
                  refine ht_seqR hn (El := [_, _, _, _, _, _, _, _, (73, .v (.bool (f.Kind == 5))), (72, .v (.bool (f.Kind == 5)))]) (init := [0, 1, 2, 3, 4, 5, 6, 7]) (fin := [0, 1, 2, 3, 5, 9]) (sps := [⟨[6], [], [8], [(.slot 73)]⟩, ⟨[8], [], [9], [(.slot 72)]⟩]) (es' := [(_, _), (_, _), (_, _), (_, _), (_, _), (72, .v (.bool (f.Kind == 5)))]) (by kernel_rfl) rfl rfl
                    ⟨st_plain rfl (op_bin _ _ _ _ _ rfl rfl rfl),
                      st_plain rfl (op_assign _ _ _ _ rfl rfl),
                      trivial⟩ ?_
                  refine pt_then ?_
                  refine ht_cond _ rfl (fun hb120 => ?_) (fun hb120 => ?_)
                  · have h := cond_t hb120 h
                    refine ht_joinS h (fun (s121 : Bool) => [(1, .box 26 [.v (.int .i64 f.Kind), .v (.int .i64 f.Number), .v (.int .i64 f.Offset), .v (.int .i64 f.Seq), .fl .shr 1 (List.map (Value.int .u8) f.Data)]), (8, .v (.bool s121))]) ?_ ?_
                    · rintro s121 h
                      refine pt_inb ?_
                      exact hl97 _ (Option.some.inj h).symm
                    · intro u122 h hl123 hr124
                      refine cond_some h (fun hg14_1 h => ?_) (fun hg14_1 h => ?_)
                      · refine cond_some h (fun hg14_4 h => ?_) (fun hg14_4 h => ?_)
                        · refine ht_seqR hn (El := [_, _, _, _, _, _, (74, .v (.bool (f.Offset == 0))), (75, .v (.bool true)), (76, .v (.bool (f.Seq == 0))), (77, .v (.bool (f.Seq == 0))), (78, .v (.bool true)), (79, .v (.bool (((f.Data.length : Int) == 0)))), (80, .v (.bool (((f.Data.length : Int) == 0)))), (8, .v (.bool (((f.Data.length : Int) == 0))))]) (init := [0, 1, 2, 3, 4, 5]) (fin := [0, 13]) (sps := [⟨[1], [], [6], [(.slot 74)]⟩, ⟨[6], [], [7], [(.slot 75)]⟩, ⟨[7, 2], [], [8], [(.slot 76)]⟩, ⟨[7, 8], [], [9], [(.slot 77)]⟩, ⟨[9], [], [10], [(.slot 78)]⟩, ⟨[10, 3], [], [11], [(.slot 79)]⟩, ⟨[10, 11], [], [12], [(.slot 80)]⟩, ⟨[12], [4], [13], [(.slot 8)]⟩]) (es' := [(_, _), (8, .v (.bool (((f.Data.length : Int) == 0))))]) (by kernel_rfl) rfl rfl
                            ⟨st_plain rfl (op_move _ _ _ _ rfl rfl),
                              st_plain rfl (op_move _ _ _ _ (congrArg (fun b => AV.v (Value.bool b)) hg14_1) rfl),
                              st_run 1 75 true rfl rfl rfl (List.Mem.head _) (op_move _ _ _ _ rfl rfl),
                              st_plain rfl (op_pick _ _ true _ rfl rfl),
                              st_plain rfl (op_move _ _ _ _ (congrArg (fun b => AV.v (Value.bool b)) hg14_4) rfl),
                              st_run 4 78 true rfl rfl rfl (List.Mem.head _) (op_move _ _ _ _ rfl rfl),
                              st_plain rfl (op_pick _ _ true _ rfl rfl),
                              st_plain rfl (LOp.drop [_] (op_assign _ _ _ _ rfl rfl)),
                              trivial⟩ ?_
                          exact hl123 _ (Option.some.inj h).symm
                        · refine ht_seqR hn (El := [_, _, _, _, _, _, (74, .v (.bool (f.Offset == 0))), (75, .v (.bool true)), (76, .v (.bool (f.Seq == 0))), (77, .v (.bool (f.Seq == 0))), (78, .v (.bool false)), (79, .v undef), (80, .v (.bool false)), (8, .v (.bool false))]) (init := [0, 1, 2, 3, 4, 5]) (fin := [0, 13]) (sps := [⟨[1], [], [6], [(.slot 74)]⟩, ⟨[6], [], [7], [(.slot 75)]⟩, ⟨[7, 2], [], [8], [(.slot 76)]⟩, ⟨[7, 8], [], [9], [(.slot 77)]⟩, ⟨[9], [], [10], [(.slot 78)]⟩, ⟨[10], [], [11], [(.slot 79)]⟩, ⟨[10], [], [12], [(.slot 80)]⟩, ⟨[12], [4], [13], [(.slot 8)]⟩]) (es' := [(_, _), (8, .v (.bool false))]) (by kernel_rfl) rfl rfl
                            ⟨st_plain rfl (op_move _ _ _ _ rfl rfl),
                              st_plain rfl (op_move _ _ _ _ (congrArg (fun b => AV.v (Value.bool b)) hg14_1) rfl),
                              st_run 1 75 true rfl rfl rfl (List.Mem.head _) (op_move _ _ _ _ rfl rfl),
                              st_plain rfl (op_pick _ _ true _ rfl rfl),
                              st_plain rfl (op_move _ _ _ _ (congrArg (fun b => AV.v (Value.bool b)) hg14_4) rfl),
                              st_skip 4 78 _ true rfl rfl rfl rfl (List.Mem.head _),
                              st_plain rfl (op_pick _ _ false _ rfl rfl),
                              st_plain rfl (LOp.drop [_] (op_assign _ _ _ _ rfl rfl)),
                              trivial⟩ ?_
                          exact hl123 _ (Option.some.inj h).symm
                      · refine ht_seqR hn (El := [_, _, _, _, _, _, (74, .v (.bool (f.Offset == 0))), (75, .v (.bool false)), (76, .v undef), (77, .v (.bool false)), (78, .v (.bool false)), (79, .v undef), (80, .v (.bool false)), (8, .v (.bool false))]) (init := [0, 1, 2, 3, 4, 5]) (fin := [0, 13]) (sps := [⟨[1], [], [6], [(.slot 74)]⟩, ⟨[6], [], [7], [(.slot 75)]⟩, ⟨[7], [], [8], [(.slot 76)]⟩, ⟨[7], [], [9], [(.slot 77)]⟩, ⟨[9], [], [10], [(.slot 78)]⟩, ⟨[10], [], [11], [(.slot 79)]⟩, ⟨[10], [], [12], [(.slot 80)]⟩, ⟨[12], [4], [13], [(.slot 8)]⟩]) (es' := [(_, _), (8, .v (.bool false))]) (by kernel_rfl) rfl rfl
                          ⟨st_plain rfl (op_move _ _ _ _ rfl rfl),
                            st_plain rfl (op_move _ _ _ _ (congrArg (fun b => AV.v (Value.bool b)) hg14_1) rfl),
                            st_skip 1 75 _ true rfl rfl rfl rfl (List.Mem.head _),
                            st_plain rfl (op_pick _ _ false _ rfl rfl),
                            st_plain rfl (op_move _ _ _ _ rfl rfl),
                            st_skip 4 78 _ true rfl rfl rfl rfl (List.Mem.head _),
                            st_plain rfl (op_pick _ _ false _ rfl rfl),
                            st_plain rfl (LOp.drop [_] (op_assign _ _ _ _ rfl rfl)),
                            trivial⟩ ?_
                        exact hl123 _ (Option.some.inj h).symm
                  · have h := cond_f hb120 h
                    refine ht_skip ?_
                    refine pt_inb ?_
                    refine pt_pick [0, 4] (by kernel_rfl) (es' := [(_, _), (_, _)]) rfl ?_
                    exact hl97 _ (Option.some.inj h).symm
          · intro u101 h hl102 hr103
            refine ht_seq ?_
            refine ht_seqR hn (El := [_, _, _, _, _, _, _, _, (38, .v (.bool (f.Kind == 1))), (37, .v (.bool (f.Kind == 1)))]) (init := [0, 1, 2, 3, 4, 5, 6, 7]) (fin := [0, 1, 2, 3, 4, 5, 6, 7, 9]) (sps := [⟨[7], [], [8], [(.slot 38)]⟩, ⟨[8], [], [9], [(.slot 37)]⟩]) (es' := [(_, _), (_, _), (_, _), (_, _), (_, _), (_, _), (_, _), (_, _), (37, .v (.bool (f.Kind == 1)))]) (by kernel_rfl) rfl rfl
              ⟨st_plain rfl (op_bin _ _ _ _ _ rfl rfl rfl),
                st_plain rfl (op_assign _ _ _ _ rfl rfl),
                trivial⟩ ?_
            refine pt_then ?_
            refine ht_cond _ rfl (fun hb104 => ?_) (fun hb104 => ?_)
            · have h := cond_t hb104 h
              refine ht_skip ?_
              exact hl102 _ (Option.some.inj h).symm
            · have h := cond_f hb104 h
              refine ht_seqR hn (El := [_, _, _, _, _, _, _, _, _, (39, .v (.bool (f.Kind == 2))), (37, .v (.bool (f.Kind == 2)))]) (init := [0, 1, 2, 3, 4, 5, 6, 7, 8]) (fin := [0, 1, 2, 3, 4, 5, 6, 7, 10]) (sps := [⟨[7], [], [9], [(.slot 39)]⟩, ⟨[9], [8], [10], [(.slot 37)]⟩]) (es' := [(_, _), (_, _), (_, _), (_, _), (_, _), (_, _), (_, _), (_, _), (37, .v (.bool (f.Kind == 2)))]) (by kernel_rfl) rfl rfl
                ⟨st_plain rfl (op_bin _ _ _ _ _ rfl rfl rfl),
                  st_plain rfl (LOp.drop [_] (op_assign _ _ _ _ rfl rfl)),
                  trivial⟩ ?_
              exact hl102 _ (Option.some.inj h).symm
    · intro u6 h hl7 hr8
      refine cond_some h (fun hg3_3 h => ?_) (fun hg3_3 h => ?_)
      · refine ht_seqR hn (El := [_, _, _, _, _, (27, .ptr 1 3), (28, .v (.int .i64 f.Seq)), (29, .v (.bool ((decide (0 ≤ f.Seq))))), (30, .v (.bool true)), (31, .ptr 1 3), (32, .v (.int .i64 f.Seq)), (33, .v (.bool ((decide (f.Seq ≤ 7))))), (34, .v (.bool ((decide (f.Seq ≤ 7))))), (7, .v (.bool ((decide (f.Seq ≤ 7)))))]) (init := [0, 1, 2, 3, 4]) (fin := [0, 1, 2, 3, 4, 13]) (sps := [⟨[0], [], [5], [(.slot 27)]⟩, ⟨[5, 0], [], [6], [(.slot 28)]⟩, ⟨[6], [], [7], [(.slot 29)]⟩, ⟨[7], [], [8], [(.slot 30)]⟩, ⟨[8, 0], [], [9], [(.slot 31)]⟩, ⟨[8, 9, 0], [], [10], [(.slot 32)]⟩, ⟨[8, 10], [], [11], [(.slot 33)]⟩, ⟨[8, 11], [], [12], [(.slot 34)]⟩, ⟨[12], [], [13], [(.slot 7)]⟩]) (es' := [(_, _), (_, _), (_, _), (_, _), (_, _), (7, .v (.bool ((decide (f.Seq ≤ 7)))))]) (by kernel_rfl) rfl rfl
          ⟨st_plain rfl (op_fieldAddr _ _ _ _ 1 0 _ Try.underlying26 rfl sz3 rfl rfl (by decide)),
            st_plain rfl (op_load _ _ _ _ _ _ Try.underlying3 rfl rfl rfl (Nat.le_of_ble_eq_true rfl) rfl rfl rfl),
            st_plain rfl (op_bin _ _ _ _ _ rfl rfl rfl),
            st_plain rfl (op_move _ _ _ _ (congrArg (fun b => AV.v (Value.bool b)) hg3_3) rfl),
            st_run 3 30 true rfl rfl rfl (List.Mem.head _) (op_fieldAddr _ _ _ _ 1 0 _ Try.underlying26 rfl sz3 rfl rfl (by decide)),
            st_run 3 30 true rfl rfl rfl (List.Mem.head _) (op_load _ _ _ _ _ _ Try.underlying3 rfl rfl rfl (Nat.le_of_ble_eq_true rfl) rfl rfl rfl),
            st_run 3 30 true rfl rfl rfl (List.Mem.head _) (op_bin _ _ _ _ _ rfl rfl rfl),
            st_plain rfl (op_pick _ _ true _ rfl rfl),
            st_plain rfl (op_assign _ _ _ _ rfl rfl),
            trivial⟩ ?_
        exact hl7 _ (Option.some.inj h).symm
      · refine ht_seqR hn (El := [_, _, _, _, _, (27, .ptr 1 3), (28, .v (.int .i64 f.Seq)), (29, .v (.bool ((decide (0 ≤ f.Seq))))), (30, .v (.bool false)), (31, .v undef), (32, .v undef), (33, .v undef), (34, .v (.bool false)), (7, .v (.bool false))]) (init := [0, 1, 2, 3, 4]) (fin := [0, 1, 2, 3, 4, 13]) (sps := [⟨[0], [], [5], [(.slot 27)]⟩, ⟨[5, 0], [], [6], [(.slot 28)]⟩, ⟨[6], [], [7], [(.slot 29)]⟩, ⟨[7], [], [8], [(.slot 30)]⟩, ⟨[8], [], [9], [(.slot 31)]⟩, ⟨[8], [], [10], [(.slot 32)]⟩, ⟨[8], [], [11], [(.slot 33)]⟩, ⟨[8], [], [12], [(.slot 34)]⟩, ⟨[12], [], [13], [(.slot 7)]⟩]) (es' := [(_, _), (_, _), (_, _), (_, _), (_, _), (7, .v (.bool false))]) (by kernel_rfl) rfl rfl
          ⟨st_plain rfl (op_fieldAddr _ _ _ _ 1 0 _ Try.underlying26 rfl sz3 rfl rfl (by decide)),
            st_plain rfl (op_load _ _ _ _ _ _ Try.underlying3 rfl rfl rfl (Nat.le_of_ble_eq_true rfl) rfl rfl rfl),
            st_plain rfl (op_bin _ _ _ _ _ rfl rfl rfl),
            st_plain rfl (op_move _ _ _ _ (congrArg (fun b => AV.v (Value.bool b)) hg3_3) rfl),
            st_skip 3 30 _ true rfl rfl rfl rfl (List.Mem.head _),
            st_skip 3 30 _ true rfl rfl rfl rfl (List.Mem.head _),
            st_skip 3 30 _ true rfl rfl rfl rfl (List.Mem.head _),
            st_plain rfl (op_pick _ _ false _ rfl rfl),
            st_plain rfl (op_assign _ _ _ _ rfl rfl),
            trivial⟩ ?_
        exact hl7 _ (Option.some.inj h).symm
  · intro u2 h hl3 hr4
    refine cond_some h (fun hg2_3 h => ?_) (fun hg2_3 h => ?_)
    · refine ht_seqR hn (El := [_, _, _, _, (19, .ptr 1 2), (20, .v (.int .i64 f.Offset)), (21, .v (.bool ((decide (0 ≤ f.Offset))))), (22, .v (.bool true)), (23, .ptr 1 2), (24, .v (.int .i64 f.Offset)), (25, .v (.bool ((decide (f.Offset ≤ 5000))))), (26, .v (.bool ((decide (f.Offset ≤ 5000))))), (6, .v (.bool ((decide (f.Offset ≤ 5000)))))]) (init := [0, 1, 2, 3]) (fin := [0, 1, 2, 3, 12]) (sps := [⟨[0], [], [4], [(.slot 19)]⟩, ⟨[4, 0], [], [5], [(.slot 20)]⟩, ⟨[5], [], [6], [(.slot 21)]⟩, ⟨[6], [], [7], [(.slot 22)]⟩, ⟨[7, 0], [], [8], [(.slot 23)]⟩, ⟨[7, 8, 0], [], [9], [(.slot 24)]⟩, ⟨[7, 9], [], [10], [(.slot 25)]⟩, ⟨[7, 10], [], [11], [(.slot 26)]⟩, ⟨[11], [], [12], [(.slot 6)]⟩]) (es' := [(_, _), (_, _), (_, _), (_, _), (6, .v (.bool ((decide (f.Offset ≤ 5000)))))]) (by kernel_rfl) rfl rfl
        ⟨st_plain rfl (op_fieldAddr _ _ _ _ 1 0 _ Try.underlying26 rfl sz3 rfl rfl (by decide)),
          st_plain rfl (op_load _ _ _ _ _ _ Try.underlying3 rfl rfl rfl (Nat.le_of_ble_eq_true rfl) rfl rfl rfl),
          st_plain rfl (op_bin _ _ _ _ _ rfl rfl rfl),
          st_plain rfl (op_move _ _ _ _ (congrArg (fun b => AV.v (Value.bool b)) hg2_3) rfl),
          st_run 3 22 true rfl rfl rfl (List.Mem.head _) (op_fieldAddr _ _ _ _ 1 0 _ Try.underlying26 rfl sz3 rfl rfl (by decide)),
          st_run 3 22 true rfl rfl rfl (List.Mem.head _) (op_load _ _ _ _ _ _ Try.underlying3 rfl rfl rfl (Nat.le_of_ble_eq_true rfl) rfl rfl rfl),
          st_run 3 22 true rfl rfl rfl (List.Mem.head _) (op_bin _ _ _ _ _ rfl rfl rfl),
          st_plain rfl (op_pick _ _ true _ rfl rfl),
          st_plain rfl (op_assign _ _ _ _ rfl rfl),
          trivial⟩ ?_
      exact hl3 _ (Option.some.inj h).symm
    · refine ht_seqR hn (El := [_, _, _, _, (19, .ptr 1 2), (20, .v (.int .i64 f.Offset)), (21, .v (.bool ((decide (0 ≤ f.Offset))))), (22, .v (.bool false)), (23, .v undef), (24, .v undef), (25, .v undef), (26, .v (.bool false)), (6, .v (.bool false))]) (init := [0, 1, 2, 3]) (fin := [0, 1, 2, 3, 12]) (sps := [⟨[0], [], [4], [(.slot 19)]⟩, ⟨[4, 0], [], [5], [(.slot 20)]⟩, ⟨[5], [], [6], [(.slot 21)]⟩, ⟨[6], [], [7], [(.slot 22)]⟩, ⟨[7], [], [8], [(.slot 23)]⟩, ⟨[7], [], [9], [(.slot 24)]⟩, ⟨[7], [], [10], [(.slot 25)]⟩, ⟨[7], [], [11], [(.slot 26)]⟩, ⟨[11], [], [12], [(.slot 6)]⟩]) (es' := [(_, _), (_, _), (_, _), (_, _), (6, .v (.bool false))]) (by kernel_rfl) rfl rfl
        ⟨st_plain rfl (op_fieldAddr _ _ _ _ 1 0 _ Try.underlying26 rfl sz3 rfl rfl (by decide)),
          st_plain rfl (op_load _ _ _ _ _ _ Try.underlying3 rfl rfl rfl (Nat.le_of_ble_eq_true rfl) rfl rfl rfl),
          st_plain rfl (op_bin _ _ _ _ _ rfl rfl rfl),
          st_plain rfl (op_move _ _ _ _ (congrArg (fun b => AV.v (Value.bool b)) hg2_3) rfl),
          st_skip 3 22 _ true rfl rfl rfl rfl (List.Mem.head _),
          st_skip 3 22 _ true rfl rfl rfl rfl (List.Mem.head _),
          st_skip 3 22 _ true rfl rfl rfl rfl (List.Mem.head _),
          st_plain rfl (op_pick _ _ false _ rfl rfl),
          st_plain rfl (op_assign _ _ _ _ rfl rfl),
          trivial⟩ ?_
      exact hl3 _ (Option.some.inj h).symm

set_option maxHeartbeats 1000000 in
theorem ok_clone_List_byte (l : (List Int)) (r : (List Int)) (h : Sh.clone_List_byte l = some r) : FnOK Try.prog 39 [.fl .shr 1 (List.map (Value.int .u8) l)] (.fl (.own 5) 1 (List.map (Value.int .u8) r)) := by
  unfold Sh.clone_List_byte at h
  refine fn_ok Try.func39 rfl (Nat.le_of_ble_eq_true rfl) rfl rfl fun g0 hn hio => ?_
  refine ht_seq ?_
  refine ht_seqR hn (El := [_, (2, .v (.slice none 0 0))]) (init := [0]) (fin := [0]) (sps := [⟨[], [], [1], [(.slot 2)]⟩]) (es' := [(_, _)]) (by kernel_rfl) rfl rfl
    ⟨st_plain rfl (op_assign _ _ _ _ rfl rfl),
      trivial⟩ ?_
  refine pt_then ?_
  refine ht_seq ?_
  obtain ⟨v1, hv1, h⟩ := bind_some h
  refine ht_seqR hn (El := [_, (3, .fl .shr 1 (List.map (Value.int .u8) l)), (4, .fl (.own 5) 1 (List.map (Value.int .u8) v1)), (2, .fl (.own 5) 1 (List.map (Value.int .u8) v1))]) (init := [0]) (fin := [3]) (sps := [⟨[0], [], [1], [(.slot 3)]⟩, ⟨[1], [], [2], [(.slot 4)]⟩, ⟨[], [2], [3], [(.slot 2)]⟩]) (es' := [(2, .fl (.own 5) 1 (List.map (Value.int .u8) v1))]) (by kernel_rfl) rfl rfl
    ⟨st_plain rfl (op_move _ _ _ _ rfl rfl),
      st_plain rfl (op_app_nil _ _ _ _ el22 rfl rfl (map_len _) hv1 (congrArg (List.map _) (app_nil_eq hv1))),
      st_plain rfl (op_assign_take _ _ _ _ rfl),
      trivial⟩ ?_
  refine pt_then ?_
  refine ht_ret ?_
  obtain rfl := Option.some.inj h
  exact pt_ret hio rfl (.tmp _ _ .nil) rfl rfl

set_option maxHeartbeats 1000000 in
theorem ok_clone_Send (s : T_Send) (r : T_Send) (h : Sh.clone_Send s = some r) : FnOK Try.prog 31 [.agg [.v (.int .i64 s.Number), .fl .shr 1 (List.map (Value.int .u8) s.Data), .v (.bool s.Ready), .v (.int .i64 s.Base), .v (.int .i64 s.Next), .v (.int .i64 s.Wait), .v (.bool s.Over)]] (.agg [.v (.int .i64 r.Number), .fl (.own 5) 1 (List.map (Value.int .u8) r.Data), .v (.bool r.Ready), .v (.int .i64 r.Base), .v (.int .i64 r.Next), .v (.int .i64 r.Wait), .v (.bool r.Over)]) := by
  unfold Sh.clone_Send at h
  refine fn_ok Try.func31 rfl (Nat.le_of_ble_eq_true rfl) rfl rfl fun g0 hn hio => ?_
  refine ht_seq ?_
  refine ht_seqR hn (El := [_, (1, .box 24 [.v (.int .i64 s.Number), .fl .shr 1 (List.map (Value.int .u8) s.Data), .v (.bool s.Ready), .v (.int .i64 s.Base), .v (.int .i64 s.Next), .v (.int .i64 s.Wait), .v (.bool s.Over)]), (2, .box 24 [.v (.int .i64 0), .v (.slice none 0 0), .v (.bool false), .v (.int .i64 0), .v (.int .i64 0), .v (.int .i64 0), .v (.bool false)])]) (init := [0]) (fin := [1, 2]) (sps := [⟨[0], [], [1], [(.slot 1)]⟩, ⟨[], [], [2], [(.slot 2)]⟩]) (es' := [(1, .box 24 [.v (.int .i64 s.Number), .fl .shr 1 (List.map (Value.int .u8) s.Data), .v (.bool s.Ready), .v (.int .i64 s.Base), .v (.int .i64 s.Next), .v (.int .i64 s.Wait), .v (.bool s.Over)]), (2, .box 24 [.v (.int .i64 0), .v (.slice none 0 0), .v (.bool false), .v (.int .i64 0), .v (.int .i64 0), .v (.int .i64 0), .v (.bool false)])]) (by kernel_rfl) rfl rfl
    ⟨st_plain rfl (op_box _ _ _ _ rfl rfl rfl),
      st_plain rfl (op_alloc _ _ zr24),
      trivial⟩ ?_
  refine pt_then ?_
  refine ht_seq ?_
  obtain ⟨v1, hv1, h⟩ := bind_some h
  refine ht_seqR hn (El := [_, _, (3, .ptr 1 1), (4, .fl .shr 1 (List.map (Value.int .u8) s.Data)), (5, .fl (.own 5) 1 (List.map (Value.int .u8) v1)), (6, .ptr 1 1), (1, .box 24 [.v (.int .i64 s.Number), .fl (.own 5) 1 (List.map (Value.int .u8) v1), .v (.bool s.Ready), .v (.int .i64 s.Base), .v (.int .i64 s.Next), .v (.int .i64 s.Wait), .v (.bool s.Over)])]) (init := [0, 1]) (fin := [6, 1]) (sps := [⟨[0], [], [2], [(.slot 3)]⟩, ⟨[2, 0], [], [3], [(.slot 4)]⟩, ⟨[3], [], [4], [(.slot 5)]⟩, ⟨[0], [], [5], [(.slot 6)]⟩, ⟨[5], [4, 0], [6], [.cell 1 1]⟩]) (es' := [(1, .box 24 [.v (.int .i64 s.Number), .fl (.own 5) 1 (List.map (Value.int .u8) v1), .v (.bool s.Ready), .v (.int .i64 s.Base), .v (.int .i64 s.Next), .v (.int .i64 s.Wait), .v (.bool s.Over)]), (_, _)]) (by kernel_rfl) rfl rfl
    ⟨st_plain rfl (op_fieldAddr _ _ _ _ 1 0 _ Try.underlying24 rfl sz22 rfl rfl (by decide)),
      st_plain rfl (op_load _ _ _ _ _ _ Try.underlying22 rfl rfl rfl (Nat.le_of_ble_eq_true rfl) rfl rfl rfl),
      st_plain rfl (op_call _ _ 39 _ _ rfl Try.call39 rfl (ok_clone_List_byte s.Data _ hv1) rfl rfl),
      st_plain rfl (op_fieldAddr _ _ _ _ 1 0 _ Try.underlying24 rfl sz22 rfl rfl (by decide)),
      st_plain rfl (op_store_take _ _ _ _ _ _ _ _ sz22 rfl rfl rfl (Nat.le_of_ble_eq_true rfl) rfl rfl),
      trivial⟩ ?_
  refine pt_then ?_
  refine ht_seq ?_
  refine ht_seqR hn (El := [_, _, (7, .agg [.v (.int .i64 s.Number), .fl (.own 5) 1 (List.map (Value.int .u8) v1), .v (.bool s.Ready), .v (.int .i64 s.Base), .v (.int .i64 s.Next), .v (.int .i64 s.Wait), .v (.bool s.Over)]), (2, .box 24 [.v (.int .i64 s.Number), .fl (.own 5) 1 (List.map (Value.int .u8) v1), .v (.bool s.Ready), .v (.int .i64 s.Base), .v (.int .i64 s.Next), .v (.int .i64 s.Wait), .v (.bool s.Over)])]) (init := [0, 1]) (fin := [3]) (sps := [⟨[], [0], [2], [(.slot 7)]⟩, ⟨[], [2, 1], [3], [.cell 2 0, .cell 2 1, .cell 2 2, .cell 2 3, .cell 2 4, .cell 2 5, .cell 2 6]⟩]) (es' := [(2, .box 24 [.v (.int .i64 s.Number), .fl (.own 5) 1 (List.map (Value.int .u8) v1), .v (.bool s.Ready), .v (.int .i64 s.Base), .v (.int .i64 s.Next), .v (.int .i64 s.Wait), .v (.bool s.Over)])]) (by kernel_rfl) rfl rfl
    ⟨st_plain rfl (op_loadA_take _ _ _ _ Try.underlying24 rfl sz24 rfl rfl),
      st_plain rfl (op_store_take _ _ _ _ _ _ _ _ sz24 rfl rfl rfl (Nat.le_of_ble_eq_true rfl) rfl rfl),
      trivial⟩ ?_
  refine pt_then ?_
  refine ht_ret ?_
  obtain rfl := Option.some.inj h
  exact pt_ret hio rfl (.cellA _ _ _ _ Try.underlying24 rfl sz24 .nil) rfl rfl

set_option maxHeartbeats 1000000 in
theorem ok_sender_ready (s : T_Send) (offset : Int) (r : (Bool × T_Send)) (h : Sh.sender_ready s offset = some r) : FnP Try.prog 37 [.box 24 [.v (.int .i64 s.Number), .fl (.own 5) 1 (List.map (Value.int .u8) s.Data), .v (.bool s.Ready), .v (.int .i64 s.Base), .v (.int .i64 s.Next), .v (.int .i64 s.Wait), .v (.bool s.Over)], .v (.int .i64 offset)] [.box 24 [.v (.int .i64 r.2.Number), .fl (.own 5) 1 (List.map (Value.int .u8) r.2.Data), .v (.bool r.2.Ready), .v (.int .i64 r.2.Base), .v (.int .i64 r.2.Next), .v (.int .i64 r.2.Wait), .v (.bool r.2.Over)]] (.v (.bool r.1)) := by
  unfold Sh.sender_ready at h
  refine fn_okP Try.func37 rfl (Nat.le_of_ble_eq_true rfl) rfl (Nat.le_of_ble_eq_true rfl) fun args0 hargs0 g0 hn hio => ?_
  refine ht_seq ?_
  refine ht_seqR hn (El := [_, _, _, (4, .v (.bool false))]) (init := [0, 1, 2]) (fin := [0, 1, 2]) (sps := [⟨[], [], [3], [(.slot 4)]⟩]) (es' := [(_, _), (_, _), (_, _)]) (by kernel_rfl) rfl rfl
    ⟨st_plain rfl (op_assign _ _ _ _ rfl rfl),
      trivial⟩ ?_
  refine pt_then ?_
  refine ht_seq ?_
  refine ht_seqR hn (El := [_, _, _, (7, .v (.int .i64 offset)), (8, .ptr 0 0), (9, .ptr 0 0), (10, .ptr 0 1), (11, .same (.cell 0 1)), (12, .v (.int .i64 (s.Data.length : Int))), (13, .v (.bool ((offset == (s.Data.length : Int))))), (5, .v (.bool ((offset == (s.Data.length : Int)))))]) (init := [0, 1, 2]) (fin := [0, 1, 2, 10]) (sps := [⟨[1], [], [3], [(.slot 7)]⟩, ⟨[0], [], [4], [(.slot 8)]⟩, ⟨[4, 0], [], [5], [(.slot 9)]⟩, ⟨[5, 0], [], [6], [(.slot 10)]⟩, ⟨[6, 0], [], [7], [(.slot 11)]⟩, ⟨[7, 0], [], [8], [(.slot 12)]⟩, ⟨[3, 8], [], [9], [(.slot 13)]⟩, ⟨[9], [], [10], [(.slot 5)]⟩]) (es' := [(_, _), (_, _), (_, _), (5, .v (.bool ((offset == (s.Data.length : Int)))))]) (by kernel_rfl) rfl rfl
    ⟨st_plain rfl (op_move _ _ _ _ rfl rfl),
      st_plain rfl (op_move _ _ _ _ rfl rfl),
      st_plain rfl (op_nilCheck _ _ _ 0 0 rfl (by decide)),
      st_plain rfl (op_fieldAddr _ _ _ _ 0 0 _ Try.underlying24 rfl sz22 rfl rfl (by decide)),
      st_plain rfl (op_load _ _ _ _ _ _ Try.underlying22 rfl rfl rfl (Nat.le_of_ble_eq_true rfl) rfl rfl rfl),
      st_plain rfl (op_len_fl _ _ _ Try.underlying22 rfl (by decide) (map_len _)),
      st_plain rfl (op_bin _ _ _ _ _ rfl rfl rfl),
      st_plain rfl (op_assign _ _ _ _ rfl rfl),
      trivial⟩ ?_
  refine pt_then ?_
  refine ht_seq ?_
  refine ht_seq ?_
  refine ht_joinS h (fun (s2 : Bool) => [(0, .box 24 [.v (.int .i64 s.Number), .fl (.own 5) 1 (List.map (Value.int .u8) s.Data), .v (.bool s.Ready), .v (.int .i64 s.Base), .v (.int .i64 s.Next), .v (.int .i64 s.Wait), .v (.bool s.Over)]), (1, .v (.int .i64 offset)), (0, .v (List.getD args0 0 undef)), (5, .v (.bool ((offset == (s.Data.length : Int))))), (29, .v (.bool s2))]) ?_ ?_
  · rintro s2 h
    refine pt_then ?_
    refine ht_cond _ rfl (fun hb6 => ?_) (fun hb6 => ?_)
    · have h := cond_t hb6 h
      refine ht_seq ?_
      refine ht_seqR hn (El := [_, _, _, _, _, (4, .v (.bool false))]) (init := [0, 1, 2, 3, 4]) (fin := [0, 2, 5]) (sps := [⟨[], [], [5], [(.slot 4)]⟩]) (es' := [(_, _), (_, _), (4, .v (.bool false))]) (by kernel_rfl) rfl rfl
        ⟨st_plain rfl (op_assign _ _ _ _ rfl rfl),
          trivial⟩ ?_
      refine pt_then ?_
      refine ht_ret ?_
      refine pt_pick [2, 0, 1] (by kernel_rfl) (es' := [(_, _), (_, _), (_, _)]) rfl ?_
      refine pt_r_then ?_
      obtain rfl := Option.some.inj h
      exact pt_retP (es := [(4, .v (.bool false))]) (posts := [.box 24 [.v (.int .i64 s.Number), .fl (.own 5) 1 (List.map (Value.int .u8) s.Data), .v (.bool s.Ready), .v (.int .i64 s.Base), .v (.int .i64 s.Next), .v (.int .i64 s.Wait), .v (.bool s.Over)]]) hio rfl rfl (.tmp _ _ .nil) rfl rfl hargs0 rfl
    · have h := cond_f hb6 h
      refine ht_skip ?_
      refine pt_then ?_
      refine ht_seq ?_
      obtain ⟨v7, hv7, h⟩ := bind_some h
      refine ht_seqR hn (El := [_, _, _, _, _, (30, .v (.int .i64 offset)), (31, .v (.int .i64 v7)), (6, .v (.int .i64 v7))]) (init := [0, 1, 2, 3, 4]) (fin := [0, 2, 3, 7]) (sps := [⟨[1], [], [5], [(.slot 30)]⟩, ⟨[5], [], [6], [(.slot 31)]⟩, ⟨[6], [], [7], [(.slot 6)]⟩]) (es' := [(_, _), (_, _), (_, _), (6, .v (.int .i64 v7))]) (by kernel_rfl) rfl rfl
        ⟨st_plain rfl (op_move _ _ _ _ rfl rfl),
          st_plain rfl (op_bin _ _ _ _ _ rfl rfl (quo_ok hv7)),
          st_plain rfl (op_assign _ _ _ _ rfl rfl),
          trivial⟩ ?_
      refine pt_then ?_
      refine ht_seq ?_
      refine ht_joinS h (fun (s10 : Int) => [(0, .box 24 [.v (.int .i64 s.Number), .fl (.own 5) 1 (List.map (Value.int .u8) s.Data), .v (.bool s.Ready), .v (.int .i64 s.Base), .v (.int .i64 s.Next), .v (.int .i64 s.Wait), .v (.bool s.Over)]), (0, .v (List.getD args0 0 undef)), (6, .v (.int .i64 s10))]) ?_ ?_
      · rintro s10 h
        refine pt_then ?_
        refine ht_seq ?_
        refine ht_seqR hn (El := (_ :: _ :: _ :: (37, .ptr 0 0) :: (38, .ptr 0 0) :: (39, .ptr 0 0) :: (40, .ptr 0 0) :: (41, .v (.int .i64 s10)) :: (42, .v (.int .i64 s10)) :: (43, .ptr 0 0) :: (44, .ptr 0 2) :: (0, .box 24 [.v (.int .i64 s.Number), .fl (.own 5) 1 (List.map (Value.int .u8) s.Data), .v (.bool true), .v (.int .i64 s.Base), .v (.int .i64 s.Next), .v (.int .i64 s.Wait), .v (.bool s.Over)]) :: (45, .ptr 0 0) :: (46, .ptr 0 3) :: (0, .box 24 [.v (.int .i64 s.Number), .fl (.own 5) 1 (List.map (Value.int .u8) s.Data), .v (.bool true), .v (.int .i64 s10), .v (.int .i64 s.Next), .v (.int .i64 s.Wait), .v (.bool s.Over)]) :: (47, .ptr 0 0) :: (48, .ptr 0 4) :: (0, .box 24 [.v (.int .i64 s.Number), .fl (.own 5) 1 (List.map (Value.int .u8) s.Data), .v (.bool true), .v (.int .i64 s10), .v (.int .i64 s10), .v (.int .i64 s.Wait), .v (.bool s.Over)]) :: (49, .ptr 0 0) :: (50, .ptr 0 5) :: (0, .box 24 [.v (.int .i64 s.Number), .fl (.own 5) 1 (List.map (Value.int .u8) s.Data), .v (.bool true), .v (.int .i64 s10), .v (.int .i64 s10), .v (.int .i64 0), .v (.bool s.Over)]) :: [])) (init := [0, 1, 2]) (fin := [20, 1]) (sps := (⟨[0], [], [3], [(.slot 37)]⟩ :: ⟨[0], [], [4], [(.slot 38)]⟩ :: ⟨[0], [], [5], [(.slot 39)]⟩ :: ⟨[0], [], [6], [(.slot 40)]⟩ :: ⟨[2], [], [7], [(.slot 41)]⟩ :: ⟨[2], [], [8], [(.slot 42)]⟩ :: ⟨[3, 0], [], [9], [(.slot 43)]⟩ :: ⟨[9, 0], [], [10], [(.slot 44)]⟩ :: ⟨[10], [0], [11], [.cell 0 2]⟩ :: ⟨[4, 11], [], [12], [(.slot 45)]⟩ :: ⟨[12, 11], [], [13], [(.slot 46)]⟩ :: ⟨[13, 7], [11], [14], [.cell 0 3]⟩ :: ⟨[5, 14], [], [15], [(.slot 47)]⟩ :: ⟨[15, 14], [], [16], [(.slot 48)]⟩ :: ⟨[16, 8], [14], [17], [.cell 0 4]⟩ :: ⟨[6, 17], [], [18], [(.slot 49)]⟩ :: ⟨[18, 17], [], [19], [(.slot 50)]⟩ :: ⟨[19], [17], [20], [.cell 0 5]⟩ :: [])) (es' := [(0, .box 24 [.v (.int .i64 s.Number), .fl (.own 5) 1 (List.map (Value.int .u8) s.Data), .v (.bool true), .v (.int .i64 s10), .v (.int .i64 s10), .v (.int .i64 0), .v (.bool s.Over)]), (_, _)]) (by kernel_rfl) rfl rfl
          ⟨st_plain rfl (op_move _ _ _ _ rfl rfl),
            st_plain rfl (op_move _ _ _ _ rfl rfl),
            st_plain rfl (op_move _ _ _ _ rfl rfl),
            st_plain rfl (op_move _ _ _ _ rfl rfl),
            st_plain rfl (op_move _ _ _ _ rfl rfl),
            st_plain rfl (op_move _ _ _ _ rfl rfl),
            st_plain rfl (op_nilCheck _ _ _ 0 0 rfl (by decide)),
            st_plain rfl (op_fieldAddr _ _ _ _ 0 0 _ Try.underlying24 rfl sz4 rfl rfl (by decide)),
            st_plain rfl (op_store _ _ _ _ _ _ _ _ sz4 rfl rfl rfl rfl (Nat.le_of_ble_eq_true rfl) rfl rfl),
            st_plain rfl (op_nilCheck _ _ _ 0 0 rfl (by decide)),
            st_plain rfl (op_fieldAddr _ _ _ _ 0 0 _ Try.underlying24 rfl sz3 rfl rfl (by decide)),
            st_plain rfl (op_store _ _ _ _ _ _ _ _ sz3 rfl rfl rfl rfl (Nat.le_of_ble_eq_true rfl) rfl rfl),
            st_plain rfl (op_nilCheck _ _ _ 0 0 rfl (by decide)),
            st_plain rfl (op_fieldAddr _ _ _ _ 0 0 _ Try.underlying24 rfl sz3 rfl rfl (by decide)),
            st_plain rfl (op_store _ _ _ _ _ _ _ _ sz3 rfl rfl rfl rfl (Nat.le_of_ble_eq_true rfl) rfl rfl),
            st_plain rfl (op_nilCheck _ _ _ 0 0 rfl (by decide)),
            st_plain rfl (op_fieldAddr _ _ _ _ 0 0 _ Try.underlying24 rfl sz3 rfl rfl (by decide)),
            st_plain rfl (op_store _ _ _ _ _ _ _ _ sz3 rfl rfl rfl rfl (Nat.le_of_ble_eq_true rfl) rfl rfl),
            trivial⟩ ?_
        refine pt_then ?_
        refine ht_seq ?_
        refine ht_seqR hn (El := [_, _, (4, .v (.bool true))]) (init := [0, 1]) (fin := [0, 1, 2]) (sps := [⟨[], [], [2], [(.slot 4)]⟩]) (es' := [(_, _), (_, _), (4, .v (.bool true))]) (by kernel_rfl) rfl rfl
          ⟨st_plain rfl (op_assign _ _ _ _ rfl rfl),
            trivial⟩ ?_
        refine pt_then ?_
        refine ht_ret ?_
        refine pt_pick [2, 0, 1] (by kernel_rfl) (es' := [(_, _), (_, _), (_, _)]) rfl ?_
        obtain rfl := Option.some.inj h
        exact pt_retP (es := [(4, .v (.bool true))]) (posts := [.box 24 [.v (.int .i64 s.Number), .fl (.own 5) 1 (List.map (Value.int .u8) s.Data), .v (.bool true), .v (.int .i64 s10), .v (.int .i64 s10), .v (.int .i64 0), .v (.bool s.Over)]]) hio rfl rfl (.tmp _ _ .nil) rfl rfl hargs0 rfl
      · intro u11 h hl12 hr13
        refine ht_seq ?_
        refine ht_seqR hn (El := [_, _, _, _, (32, .v (.bool ((offset == (s.Data.length : Int)))))]) (init := [0, 1, 2, 3]) (fin := [0, 1, 3, 4]) (sps := [⟨[2], [], [4], [(.slot 32)]⟩]) (es' := [(_, _), (_, _), (_, _), (32, .v (.bool ((offset == (s.Data.length : Int)))))]) (by kernel_rfl) rfl rfl
          ⟨st_plain rfl (op_move _ _ _ _ rfl rfl),
            trivial⟩ ?_
        refine pt_then ?_
        refine ht_cond _ rfl (fun hb14 => ?_) (fun hb14 => ?_)
        · have h := cond_t hb14 h
          obtain ⟨v9, hv9, h⟩ := bind_some h
          refine ht_seqR hn (El := [_, _, _, _, (33, .ptr 0 0), (34, .ptr 0 0), (35, .agg [.v (.int .i64 s.Number), .same (.cell 0 1), .v (.bool s.Ready), .v (.int .i64 s.Base), .v (.int .i64 s.Next), .v (.int .i64 s.Wait), .v (.bool s.Over)]), (36, .v (.int .i64 v9)), (6, .v (.int .i64 v9))]) (init := [0, 1, 2, 3]) (fin := [0, 1, 8]) (sps := [⟨[0], [], [4], [(.slot 33)]⟩, ⟨[4, 0], [], [5], [(.slot 34)]⟩, ⟨[5, 0], [], [6], [(.slot 35)]⟩, ⟨[6, 0], [], [7], [(.slot 36)]⟩, ⟨[7], [2], [8], [(.slot 6)]⟩]) (es' := [(_, _), (_, _), (6, .v (.int .i64 v9))]) (by kernel_rfl) rfl rfl
            ⟨st_plain rfl (op_move _ _ _ _ rfl rfl),
              st_plain rfl (op_nilCheck _ _ _ 0 0 rfl (by decide)),
              st_plain rfl (op_loadA _ _ _ _ _ _ _ Try.underlying24 rfl sz24 rfl rfl (Nat.le_of_ble_eq_true rfl) rfl rfl),
              st_plain rfl (op_call _ _ 33 _ _ rfl Try.call33 rfl (ok_sender_pieces s _ hv9) rfl rfl),
              st_plain rfl (LOp.drop [_] (op_assign _ _ _ _ rfl rfl)),
              trivial⟩ ?_
          exact hl12 _ (Option.some.inj h).symm
        · have h := cond_f hb14 h
          refine ht_skip ?_
          refine pt_pick [0, 1, 2] (by kernel_rfl) (es' := [(_, _), (_, _), (_, _)]) rfl ?_
          exact hl12 _ (Option.some.inj h).symm
  · intro u3 h hl4 hr5
    refine cond_some h (fun hg2_2 h => ?_) (fun hg2_2 h => ?_)
    · refine cond_some h (fun hg2_10 h => ?_) (fun hg2_10 h => ?_)
      · refine ht_seqR hn (El := (_ :: _ :: _ :: _ :: (14, .v (.bool ((offset == (s.Data.length : Int))))) :: (15, .v (.bool ((!((offset == (s.Data.length : Int))))))) :: (16, .v (.bool true)) :: (17, .v (.int .i64 offset)) :: (18, .ptr 0 0) :: (19, .ptr 0 0) :: (20, .ptr 0 1) :: (21, .same (.cell 0 1)) :: (22, .v (.int .i64 (s.Data.length : Int))) :: (23, .v (.bool ((decide ((s.Data.length : Int) < offset))))) :: (24, .v (.bool true)) :: (25, .v undef) :: (26, .v undef) :: (27, .v undef) :: (28, .v (.bool true)) :: (29, .v (.bool true)) :: [])) (init := [0, 1, 2, 3]) (fin := [0, 1, 2, 3, 19]) (sps := (⟨[3], [], [4], [(.slot 14)]⟩ :: ⟨[4], [], [5], [(.slot 15)]⟩ :: ⟨[5], [], [6], [(.slot 16)]⟩ :: ⟨[6, 1], [], [7], [(.slot 17)]⟩ :: ⟨[6, 0], [], [8], [(.slot 18)]⟩ :: ⟨[6, 8, 0], [], [9], [(.slot 19)]⟩ :: ⟨[6, 9, 0], [], [10], [(.slot 20)]⟩ :: ⟨[6, 10, 0], [], [11], [(.slot 21)]⟩ :: ⟨[6, 11, 0], [], [12], [(.slot 22)]⟩ :: ⟨[6, 7, 12], [], [13], [(.slot 23)]⟩ :: ⟨[6, 13], [], [14], [(.slot 24)]⟩ :: ⟨[14], [], [15], [(.slot 25)]⟩ :: ⟨[14], [], [16], [(.slot 26)]⟩ :: ⟨[14], [], [17], [(.slot 27)]⟩ :: ⟨[6, 14], [], [18], [(.slot 28)]⟩ :: ⟨[6, 18], [], [19], [(.slot 29)]⟩ :: [])) (es' := [(_, _), (_, _), (_, _), (_, _), (29, .v (.bool true))]) (by kernel_rfl) rfl rfl
          ⟨st_plain rfl (op_move _ _ _ _ rfl rfl),
            st_plain rfl (op_un _ _ _ _ rfl rfl),
            st_plain rfl (op_move _ _ _ _ (congrArg (fun b => AV.v (Value.bool b)) hg2_2) rfl),
            st_run 2 16 true rfl rfl rfl (List.Mem.head _) (op_move _ _ _ _ rfl rfl),
            st_run 2 16 true rfl rfl rfl (List.Mem.head _) (op_move _ _ _ _ rfl rfl),
            st_run 2 16 true rfl rfl rfl (List.Mem.head _) (op_nilCheck _ _ _ 0 0 rfl (by decide)),
            st_run 2 16 true rfl rfl rfl (List.Mem.head _) (op_fieldAddr _ _ _ _ 0 0 _ Try.underlying24 rfl sz22 rfl rfl (by decide)),
            st_run 2 16 true rfl rfl rfl (List.Mem.head _) (op_load _ _ _ _ _ _ Try.underlying22 rfl rfl rfl (Nat.le_of_ble_eq_true rfl) rfl rfl rfl),
            st_run 2 16 true rfl rfl rfl (List.Mem.head _) (op_len_fl _ _ _ Try.underlying22 rfl (by decide) (map_len _)),
            st_run 2 16 true rfl rfl rfl (List.Mem.head _) (op_bin _ _ _ _ _ rfl rfl rfl),
            st_run 2 16 true rfl rfl rfl (List.Mem.head _) (op_move _ _ _ _ (congrArg (fun b => AV.v (Value.bool b)) hg2_10) rfl),
            st_skip 10 24 _ false rfl rfl rfl rfl (List.Mem.head _),
            st_skip 10 24 _ false rfl rfl rfl rfl (List.Mem.head _),
            st_skip 10 24 _ false rfl rfl rfl rfl (List.Mem.head _),
            st_run 2 16 true rfl rfl rfl (List.Mem.head _) (op_pick _ _ true _ rfl rfl),
            st_plain rfl (op_pick _ _ true _ rfl rfl),
            trivial⟩ ?_
        exact hl4 _ (Option.some.inj h).symm
      · obtain ⟨v1, hv1, h⟩ := bind_some h
        refine ht_seqR hn (El := (_ :: _ :: _ :: _ :: (14, .v (.bool ((offset == (s.Data.length : Int))))) :: (15, .v (.bool ((!((offset == (s.Data.length : Int))))))) :: (16, .v (.bool true)) :: (17, .v (.int .i64 offset)) :: (18, .ptr 0 0) :: (19, .ptr 0 0) :: (20, .ptr 0 1) :: (21, .same (.cell 0 1)) :: (22, .v (.int .i64 (s.Data.length : Int))) :: (23, .v (.bool ((decide ((s.Data.length : Int) < offset))))) :: (24, .v (.bool false)) :: (25, .v (.int .i64 offset)) :: (26, .v (.int .i64 v1)) :: (27, .v (.bool (v1 != 0))) :: (28, .v (.bool (v1 != 0))) :: (29, .v (.bool (v1 != 0))) :: [])) (init := [0, 1, 2, 3]) (fin := [0, 1, 2, 3, 19]) (sps := (⟨[3], [], [4], [(.slot 14)]⟩ :: ⟨[4], [], [5], [(.slot 15)]⟩ :: ⟨[5], [], [6], [(.slot 16)]⟩ :: ⟨[6, 1], [], [7], [(.slot 17)]⟩ :: ⟨[6, 0], [], [8], [(.slot 18)]⟩ :: ⟨[6, 8, 0], [], [9], [(.slot 19)]⟩ :: ⟨[6, 9, 0], [], [10], [(.slot 20)]⟩ :: ⟨[6, 10, 0], [], [11], [(.slot 21)]⟩ :: ⟨[6, 11, 0], [], [12], [(.slot 22)]⟩ :: ⟨[6, 7, 12], [], [13], [(.slot 23)]⟩ :: ⟨[6, 13], [], [14], [(.slot 24)]⟩ :: ⟨[14, 1], [], [15], [(.slot 25)]⟩ :: ⟨[14, 15], [], [16], [(.slot 26)]⟩ :: ⟨[14, 16], [], [17], [(.slot 27)]⟩ :: ⟨[6, 14, 17], [], [18], [(.slot 28)]⟩ :: ⟨[6, 18], [], [19], [(.slot 29)]⟩ :: [])) (es' := [(_, _), (_, _), (_, _), (_, _), (29, .v (.bool (v1 != 0)))]) (by kernel_rfl) rfl rfl
          ⟨st_plain rfl (op_move _ _ _ _ rfl rfl),
            st_plain rfl (op_un _ _ _ _ rfl rfl),
            st_plain rfl (op_move _ _ _ _ (congrArg (fun b => AV.v (Value.bool b)) hg2_2) rfl),
            st_run 2 16 true rfl rfl rfl (List.Mem.head _) (op_move _ _ _ _ rfl rfl),
            st_run 2 16 true rfl rfl rfl (List.Mem.head _) (op_move _ _ _ _ rfl rfl),
            st_run 2 16 true rfl rfl rfl (List.Mem.head _) (op_nilCheck _ _ _ 0 0 rfl (by decide)),
            st_run 2 16 true rfl rfl rfl (List.Mem.head _) (op_fieldAddr _ _ _ _ 0 0 _ Try.underlying24 rfl sz22 rfl rfl (by decide)),
            st_run 2 16 true rfl rfl rfl (List.Mem.head _) (op_load _ _ _ _ _ _ Try.underlying22 rfl rfl rfl (Nat.le_of_ble_eq_true rfl) rfl rfl rfl),
            st_run 2 16 true rfl rfl rfl (List.Mem.head _) (op_len_fl _ _ _ Try.underlying22 rfl (by decide) (map_len _)),
            st_run 2 16 true rfl rfl rfl (List.Mem.head _) (op_bin _ _ _ _ _ rfl rfl rfl),
            st_run 2 16 true rfl rfl rfl (List.Mem.head _) (op_move _ _ _ _ (congrArg (fun b => AV.v (Value.bool b)) hg2_10) rfl),
            st_run 10 24 false rfl rfl rfl (List.Mem.head _) (op_move _ _ _ _ rfl rfl),
            st_run 10 24 false rfl rfl rfl (List.Mem.head _) (op_bin _ _ _ _ _ rfl rfl (rem_ok hv1)),
            st_run 10 24 false rfl rfl rfl (List.Mem.head _) (op_bin _ _ _ _ _ rfl rfl rfl),
            st_run 2 16 true rfl rfl rfl (List.Mem.head _) (op_pick _ _ false _ rfl rfl),
            st_plain rfl (op_pick _ _ true _ rfl rfl),
            trivial⟩ ?_
        exact hl4 _ (Option.some.inj h).symm
    · refine ht_seqR hn (El := (_ :: _ :: _ :: _ :: (14, .v (.bool ((offset == (s.Data.length : Int))))) :: (15, .v (.bool ((!((offset == (s.Data.length : Int))))))) :: (16, .v (.bool false)) :: (17, .v undef) :: (18, .v undef) :: (19, .v undef) :: (20, .v undef) :: (21, .v undef) :: (22, .v undef) :: (23, .v undef) :: (24, .v undef) :: (25, .v undef) :: (26, .v undef) :: (27, .v undef) :: (28, .v undef) :: (29, .v (.bool false)) :: [])) (init := [0, 1, 2, 3]) (fin := [0, 1, 2, 3, 19]) (sps := (⟨[3], [], [4], [(.slot 14)]⟩ :: ⟨[4], [], [5], [(.slot 15)]⟩ :: ⟨[5], [], [6], [(.slot 16)]⟩ :: ⟨[6], [], [7], [(.slot 17)]⟩ :: ⟨[6], [], [8], [(.slot 18)]⟩ :: ⟨[6], [], [9], [(.slot 19)]⟩ :: ⟨[6], [], [10], [(.slot 20)]⟩ :: ⟨[6], [], [11], [(.slot 21)]⟩ :: ⟨[6], [], [12], [(.slot 22)]⟩ :: ⟨[6], [], [13], [(.slot 23)]⟩ :: ⟨[6], [], [14], [(.slot 24)]⟩ :: ⟨[14], [], [15], [(.slot 25)]⟩ :: ⟨[14], [], [16], [(.slot 26)]⟩ :: ⟨[14], [], [17], [(.slot 27)]⟩ :: ⟨[6], [], [18], [(.slot 28)]⟩ :: ⟨[6], [], [19], [(.slot 29)]⟩ :: [])) (es' := [(_, _), (_, _), (_, _), (_, _), (29, .v (.bool false))]) (by kernel_rfl) rfl rfl
        ⟨st_plain rfl (op_move _ _ _ _ rfl rfl),
          st_plain rfl (op_un _ _ _ _ rfl rfl),
          st_plain rfl (op_move _ _ _ _ (congrArg (fun b => AV.v (Value.bool b)) hg2_2) rfl),
          st_skip 2 16 _ true rfl rfl rfl rfl (List.Mem.head _),
          st_skip 2 16 _ true rfl rfl rfl rfl (List.Mem.head _),
          st_skip 2 16 _ true rfl rfl rfl rfl (List.Mem.head _),
          st_skip 2 16 _ true rfl rfl rfl rfl (List.Mem.head _),
          st_skip 2 16 _ true rfl rfl rfl rfl (List.Mem.head _),
          st_skip 2 16 _ true rfl rfl rfl rfl (List.Mem.head _),
          st_skip 2 16 _ true rfl rfl rfl rfl (List.Mem.head _),
          st_skip 2 16 _ true rfl rfl rfl rfl (List.Mem.head _),
          st_skipU 10 24 _ false rfl rfl rfl rfl (List.Mem.head _),
          st_skipU 10 24 _ false rfl rfl rfl rfl (List.Mem.head _),
          st_skipU 10 24 _ false rfl rfl rfl rfl (List.Mem.head _),
          st_skip 2 16 _ true rfl rfl rfl rfl (List.Mem.head _),
          st_plain rfl (op_pick _ _ false _ rfl rfl),
          trivial⟩ ?_
      exact hl4 _ (Option.some.inj h).symm

set_option maxHeartbeats 1000000 in
theorem ok_sender_ack (s : T_Send) (seq : Int) (r : (Bool × T_Send)) (h : Sh.sender_ack s seq = some r) : FnP Try.prog 38 [.box 24 [.v (.int .i64 s.Number), .fl (.own 5) 1 (List.map (Value.int .u8) s.Data), .v (.bool s.Ready), .v (.int .i64 s.Base), .v (.int .i64 s.Next), .v (.int .i64 s.Wait), .v (.bool s.Over)], .v (.int .i64 seq)] [.box 24 [.v (.int .i64 r.2.Number), .fl (.own 5) 1 (List.map (Value.int .u8) r.2.Data), .v (.bool r.2.Ready), .v (.int .i64 r.2.Base), .v (.int .i64 r.2.Next), .v (.int .i64 r.2.Wait), .v (.bool r.2.Over)]] (.v (.bool r.1)) := by
  unfold Sh.sender_ack at h
  refine fn_okP Try.func38 rfl (Nat.le_of_ble_eq_true rfl) rfl (Nat.le_of_ble_eq_true rfl) fun args0 hargs0 g0 hn hio => ?_
  refine ht_seq ?_
  refine ht_seqR hn (El := [_, _, _, (4, .v (.bool false))]) (init := [0, 1, 2]) (fin := [0, 1, 2]) (sps := [⟨[], [], [3], [(.slot 4)]⟩]) (es' := [(_, _), (_, _), (_, _)]) (by kernel_rfl) rfl rfl
    ⟨st_plain rfl (op_assign _ _ _ _ rfl rfl),
      trivial⟩ ?_
  refine pt_then ?_
  refine ht_seq ?_
  refine ht_seq ?_
  refine ht_seqR hn (El := [_, _, _, (6, .ptr 0 0), (7, .ptr 0 0), (8, .ptr 0 2), (9, .v (.bool s.Ready)), (10, .v (.bool (!s.Ready)))]) (init := [0, 1, 2]) (fin := [0, 1, 2, 7]) (sps := [⟨[0], [], [3], [(.slot 6)]⟩, ⟨[3, 0], [], [4], [(.slot 7)]⟩, ⟨[4, 0], [], [5], [(.slot 8)]⟩, ⟨[5, 0], [], [6], [(.slot 9)]⟩, ⟨[6], [], [7], [(.slot 10)]⟩]) (es' := [(_, _), (_, _), (_, _), (10, .v (.bool (!s.Ready)))]) (by kernel_rfl) rfl rfl
    ⟨st_plain rfl (op_move _ _ _ _ rfl rfl),
      st_plain rfl (op_nilCheck _ _ _ 0 0 rfl (by decide)),
      st_plain rfl (op_fieldAddr _ _ _ _ 0 0 _ Try.underlying24 rfl sz4 rfl rfl (by decide)),
      st_plain rfl (op_load _ _ _ _ _ _ Try.underlying4 rfl rfl rfl (Nat.le_of_ble_eq_true rfl) rfl rfl rfl),
      st_plain rfl (op_un _ _ _ _ rfl rfl),
      trivial⟩ ?_
  refine pt_then ?_
  refine ht_cond _ rfl (fun hb1 => ?_) (fun hb1 => ?_)
  · have h := cond_t hb1 h
    refine ht_seq ?_
    refine ht_seqR hn (El := [_, _, _, _, (4, .v (.bool false))]) (init := [0, 1, 2, 3]) (fin := [0, 2, 4]) (sps := [⟨[], [], [4], [(.slot 4)]⟩]) (es' := [(_, _), (_, _), (4, .v (.bool false))]) (by kernel_rfl) rfl rfl
      ⟨st_plain rfl (op_assign _ _ _ _ rfl rfl),
        trivial⟩ ?_
    refine pt_then ?_
    refine ht_ret ?_
    refine pt_pick [2, 0, 1] (by kernel_rfl) (es' := [(_, _), (_, _), (_, _)]) rfl ?_
    refine pt_r_then ?_
    obtain rfl := Option.some.inj h
    exact pt_retP (es := [(4, .v (.bool false))]) (posts := [.box 24 [.v (.int .i64 s.Number), .fl (.own 5) 1 (List.map (Value.int .u8) s.Data), .v (.bool s.Ready), .v (.int .i64 s.Base), .v (.int .i64 s.Next), .v (.int .i64 s.Wait), .v (.bool s.Over)]]) hio rfl rfl (.tmp _ _ .nil) rfl rfl hargs0 rfl
  · have h := cond_f hb1 h
    refine ht_skip ?_
    refine pt_then ?_
    refine ht_seq ?_
    refine ht_seq ?_
    obtain ⟨v2, hv2, h⟩ := bind_some h
    refine ht_seqR hn (El := [_, _, _, _, (11, .ptr 0 0), (12, .ptr 0 0), (13, .ptr 0 3), (14, .v (.int .i64 s.Base)), (15, .v (.int .i64 v2)), (5, .v (.int .i64 v2))]) (init := [0, 1, 2, 3]) (fin := [0, 1, 2, 9]) (sps := [⟨[0], [], [4], [(.slot 11)]⟩, ⟨[4, 0], [], [5], [(.slot 12)]⟩, ⟨[5, 0], [], [6], [(.slot 13)]⟩, ⟨[6, 0], [], [7], [(.slot 14)]⟩, ⟨[7], [], [8], [(.slot 15)]⟩, ⟨[8], [], [9], [(.slot 5)]⟩]) (es' := [(_, _), (_, _), (_, _), (5, .v (.int .i64 v2))]) (by kernel_rfl) rfl rfl
      ⟨st_plain rfl (op_move _ _ _ _ rfl rfl),
        st_plain rfl (op_nilCheck _ _ _ 0 0 rfl (by decide)),
        st_plain rfl (op_fieldAddr _ _ _ _ 0 0 _ Try.underlying24 rfl sz3 rfl rfl (by decide)),
        st_plain rfl (op_load _ _ _ _ _ _ Try.underlying3 rfl rfl rfl (Nat.le_of_ble_eq_true rfl) rfl rfl rfl),
        st_plain rfl (op_bin _ _ _ _ _ rfl rfl (ibind (f := Value.int .i64) (Option.some.inj hv2))),
        st_plain rfl (op_assign _ _ _ _ rfl rfl),
        trivial⟩ ?_
    refine pt_then ?_
    refine ht_loopS h (fun (s10 : Int) => [(0, .box 24 [.v (.int .i64 s.Number), .fl (.own 5) 1 (List.map (Value.int .u8) s.Data), .v (.bool s.Ready), .v (.int .i64 s.Base), .v (.int .i64 s.Next), .v (.int .i64 s.Wait), .v (.bool s.Over)]), (1, .v (.int .i64 seq)), (0, .v (List.getD args0 0 undef)), (5, .v (.int .i64 s10))]) (fun (() : Unit) => [(0, .box 24 [.v (.int .i64 s.Number), .fl (.own 5) 1 (List.map (Value.int .u8) s.Data), .v (.bool s.Ready), .v (.int .i64 s.Base), .v (.int .i64 s.Next), .v (.int .i64 s.Wait), .v (.bool s.Over)]), (0, .v (List.getD args0 0 undef))]) ?_ ?_
    · rintro ⟨⟩ h
      refine pt_then ?_
      refine ht_seq ?_
      refine ht_seqR hn (El := [_, _, (4, .v (.bool false))]) (init := [0, 1]) (fin := [0, 1, 2]) (sps := [⟨[], [], [2], [(.slot 4)]⟩]) (es' := [(_, _), (_, _), (4, .v (.bool false))]) (by kernel_rfl) rfl rfl
        ⟨st_plain rfl (op_assign _ _ _ _ rfl rfl),
          trivial⟩ ?_
      refine pt_then ?_
      refine ht_ret ?_
      refine pt_pick [2, 0, 1] (by kernel_rfl) (es' := [(_, _), (_, _), (_, _)]) rfl ?_
      obtain rfl := Option.some.inj h
      exact pt_retP (es := [(4, .v (.bool false))]) (posts := [.box 24 [.v (.int .i64 s.Number), .fl (.own 5) 1 (List.map (Value.int .u8) s.Data), .v (.bool s.Ready), .v (.int .i64 s.Base), .v (.int .i64 s.Next), .v (.int .i64 s.Wait), .v (.bool s.Over)]]) hio rfl rfl (.tmp _ _ .nil) rfl rfl hargs0 rfl
    · rintro u13 hl14 hr15 s10 rr18 h ho16
      refine ht_seq ?_
      refine ht_seq ?_
      refine ht_seqR hn (El := [_, _, _, _, (16, .v (.int .i64 s10)), (17, .ptr 0 0), (18, .ptr 0 0), (19, .ptr 0 4), (20, .v (.int .i64 s.Next)), (21, .v (.bool ((decide (s10 ≤ s.Next)))))]) (init := [0, 1, 2, 3]) (fin := [0, 1, 2, 3, 9]) (sps := [⟨[3], [], [4], [(.slot 16)]⟩, ⟨[0], [], [5], [(.slot 17)]⟩, ⟨[5, 0], [], [6], [(.slot 18)]⟩, ⟨[6, 0], [], [7], [(.slot 19)]⟩, ⟨[7, 0], [], [8], [(.slot 20)]⟩, ⟨[4, 8], [], [9], [(.slot 21)]⟩]) (es' := [(_, _), (_, _), (_, _), (_, _), (21, .v (.bool ((decide (s10 ≤ s.Next)))))]) (by kernel_rfl) rfl rfl
        ⟨st_plain rfl (op_move _ _ _ _ rfl rfl),
          st_plain rfl (op_move _ _ _ _ rfl rfl),
          st_plain rfl (op_nilCheck _ _ _ 0 0 rfl (by decide)),
          st_plain rfl (op_fieldAddr _ _ _ _ 0 0 _ Try.underlying24 rfl sz3 rfl rfl (by decide)),
          st_plain rfl (op_load _ _ _ _ _ _ Try.underlying3 rfl rfl rfl (Nat.le_of_ble_eq_true rfl) rfl rfl rfl),
          st_plain rfl (op_bin _ _ _ _ _ rfl rfl rfl),
          trivial⟩ ?_
      refine pt_then ?_
      refine ht_cond _ rfl (fun hb19 => ?_) (fun hb19 => ?_)
      · have h := cond_t hb19 h
        refine ht_skip ?_
        refine pt_then ?_
        refine ht_seq ?_
        refine ht_block ?_
        refine ht_seq ?_
        obtain ⟨v4, hv4, h⟩ := bind_some h
        refine ht_seqR hn (El := [_, _, _, _, _, (24, .v (.int .i64 s10)), (25, .v (.int .i64 v4)), (26, .v (.int .i64 seq)), (27, .v (.bool (v4 == seq)))]) (init := [0, 1, 2, 3, 4]) (fin := [0, 1, 2, 3, 8]) (sps := [⟨[3], [], [5], [(.slot 24)]⟩, ⟨[5], [], [6], [(.slot 25)]⟩, ⟨[1], [], [7], [(.slot 26)]⟩, ⟨[6, 7], [], [8], [(.slot 27)]⟩]) (es' := [(_, _), (_, _), (_, _), (_, _), (27, .v (.bool (v4 == seq)))]) (by kernel_rfl) rfl rfl
          ⟨st_plain rfl (op_move _ _ _ _ rfl rfl),
            st_plain rfl (op_bin _ _ _ _ _ rfl rfl (rem_ok hv4)),
            st_plain rfl (op_move _ _ _ _ rfl rfl),
            st_plain rfl (op_bin _ _ _ _ _ rfl rfl rfl),
            trivial⟩ ?_
        refine pt_then ?_
        refine ht_cond _ rfl (fun hb20 => ?_) (fun hb20 => ?_)
        · have h := cond_t hb20 h
          refine ht_seq ?_
          refine ht_seqR hn (El := [_, _, _, _, _, (28, .ptr 0 0), (29, .ptr 0 0), (30, .v (.int .i64 s10)), (31, .ptr 0 0), (32, .ptr 0 3), (0, .box 24 [.v (.int .i64 s.Number), .fl (.own 5) 1 (List.map (Value.int .u8) s.Data), .v (.bool s.Ready), .v (.int .i64 s10), .v (.int .i64 s.Next), .v (.int .i64 s.Wait), .v (.bool s.Over)]), (33, .ptr 0 0), (34, .ptr 0 5), (0, .box 24 [.v (.int .i64 s.Number), .fl (.own 5) 1 (List.map (Value.int .u8) s.Data), .v (.bool s.Ready), .v (.int .i64 s10), .v (.int .i64 s.Next), .v (.int .i64 3), .v (.bool s.Over)])]) (init := [0, 1, 2, 3, 4]) (fin := [13, 2]) (sps := [⟨[0], [], [5], [(.slot 28)]⟩, ⟨[0], [], [6], [(.slot 29)]⟩, ⟨[3], [], [7], [(.slot 30)]⟩, ⟨[5, 0], [], [8], [(.slot 31)]⟩, ⟨[8, 0], [], [9], [(.slot 32)]⟩, ⟨[9, 7], [0], [10], [.cell 0 3]⟩, ⟨[6, 10], [], [11], [(.slot 33)]⟩, ⟨[11, 10], [], [12], [(.slot 34)]⟩, ⟨[12], [10], [13], [.cell 0 5]⟩]) (es' := [(0, .box 24 [.v (.int .i64 s.Number), .fl (.own 5) 1 (List.map (Value.int .u8) s.Data), .v (.bool s.Ready), .v (.int .i64 s10), .v (.int .i64 s.Next), .v (.int .i64 3), .v (.bool s.Over)]), (_, _)]) (by kernel_rfl) rfl rfl
            ⟨st_plain rfl (op_move _ _ _ _ rfl rfl),
              st_plain rfl (op_move _ _ _ _ rfl rfl),
              st_plain rfl (op_move _ _ _ _ rfl rfl),
              st_plain rfl (op_nilCheck _ _ _ 0 0 rfl (by decide)),
              st_plain rfl (op_fieldAddr _ _ _ _ 0 0 _ Try.underlying24 rfl sz3 rfl rfl (by decide)),
              st_plain rfl (op_store _ _ _ _ _ _ _ _ sz3 rfl rfl rfl rfl (Nat.le_of_ble_eq_true rfl) rfl rfl),
              st_plain rfl (op_nilCheck _ _ _ 0 0 rfl (by decide)),
              st_plain rfl (op_fieldAddr _ _ _ _ 0 0 _ Try.underlying24 rfl sz3 rfl rfl (by decide)),
              st_plain rfl (op_store _ _ _ _ _ _ _ _ sz3 rfl rfl rfl rfl (Nat.le_of_ble_eq_true rfl) rfl rfl),
              trivial⟩ ?_
          refine pt_then ?_
          refine ht_seq ?_
          refine ht_seqR hn (El := [_, _, (4, .v (.bool true))]) (init := [0, 1]) (fin := [0, 1, 2]) (sps := [⟨[], [], [2], [(.slot 4)]⟩]) (es' := [(_, _), (_, _), (4, .v (.bool true))]) (by kernel_rfl) rfl rfl
            ⟨st_plain rfl (op_assign _ _ _ _ rfl rfl),
              trivial⟩ ?_
          refine pt_then ?_
          refine ht_ret ?_
          refine pt_pick [2, 0, 1] (by kernel_rfl) (es' := [(_, _), (_, _), (_, _)]) rfl ?_
          refine pt_r_in ?_
          refine pt_r_then ?_
          refine pt_r_then ?_
          refine pt_r_in ?_
          refine pt_r_then ?_
          have h := hr15 _ (ho16 _ (Option.some.inj h).symm).symm
          obtain rfl := Option.some.inj h
          exact pt_retP (es := [(4, .v (.bool true))]) (posts := [.box 24 [.v (.int .i64 s.Number), .fl (.own 5) 1 (List.map (Value.int .u8) s.Data), .v (.bool s.Ready), .v (.int .i64 s10), .v (.int .i64 s.Next), .v (.int .i64 3), .v (.bool s.Over)]]) hio rfl rfl (.tmp _ _ .nil) rfl rfl hargs0 rfl
        · have h := cond_f hb20 h
          refine ht_skip ?_
          refine pt_inb ?_
          refine pt_then ?_
          obtain ⟨v6, hv6, h⟩ := bind_some h
          refine ht_seqR hn (El := [_, _, _, _, _, (22, .v (.int .i64 s10)), (23, .v (.int .i64 v6)), (5, .v (.int .i64 v6))]) (init := [0, 1, 2, 3, 4]) (fin := [0, 1, 2, 7]) (sps := [⟨[3], [], [5], [(.slot 22)]⟩, ⟨[5], [], [6], [(.slot 23)]⟩, ⟨[6], [3], [7], [(.slot 5)]⟩]) (es' := [(_, _), (_, _), (_, _), (5, .v (.int .i64 v6))]) (by kernel_rfl) rfl rfl
            ⟨st_plain rfl (op_move _ _ _ _ rfl rfl),
              st_plain rfl (op_bin _ _ _ _ _ rfl rfl (ibind (f := Value.int .i64) (Option.some.inj hv6))),
              st_plain rfl (LOp.drop [_] (op_assign _ _ _ _ rfl rfl)),
              trivial⟩ ?_
          exact pt_next _ (Option.some.inj h).symm rfl
      · have h := cond_f hb19 h
        refine ht_exit ?_
        refine pt_x_then ?_
        refine pt_x_then ?_
        refine pt_x_in ?_
        refine pt_pick [0, 2] (by kernel_rfl) (es' := [(_, _), (_, _)]) rfl ?_
        exact hl14 _ (ho16 _ (Option.some.inj h).symm).symm

end Go.Proofs.Ytdligpdfcfbgpaa
