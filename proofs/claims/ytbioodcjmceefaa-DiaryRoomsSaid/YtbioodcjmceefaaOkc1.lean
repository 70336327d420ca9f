/-
  The model's runs are what is told in Lean.
-/
import Derived.Test.YtbioodcjmceefaaProg
import Derived.KernelRfl
import Derived.Test.YtbioodcjmceefaaSh
set_option linter.unusedVariables false
set_option linter.unusedSimpArgs false
namespace Go.Proofs.Ytbioodcjmceefaa
open Go.Abs Go.Abs.Sh

theorem sz46 : (Try.prog.info? 46).map (·.size) = some 15 := by kernel_rfl
theorem sz41 : (Try.prog.info? 41).map (·.size) = some 1 := by kernel_rfl
theorem sz44 : (Try.prog.info? 44).map (·.size) = some 1 := by kernel_rfl
theorem sz43 : (Try.prog.info? 43).map (·.size) = some 8 := by kernel_rfl
theorem zr43 : (Try.prog.info? 43).bind (·.zero) = some (.agg #[.bool false, .string ByteArray.empty, .string ByteArray.empty, .slice none 0 0, .slice none 0 0, .bool false, .string ByteArray.empty, .int .i64 0]) := by kernel_rfl
theorem sz9 : (Try.prog.info? 9).map (·.size) = some 1 := by kernel_rfl
theorem sz39 : (Try.prog.info? 39).map (·.size) = some 3 := by kernel_rfl
theorem sz40 : (Try.prog.info? 40).map (·.size) = some 1 := by kernel_rfl
theorem fs64 : ∀ fs, Try.prog.underlying 64 = some (.struct fs) → fs.toList.map (fun f => (Try.prog.info? f.type).map (·.size)) = ([1, 1, 1, 1, 1, 1, 1, 1, 1] : List Nat).map some := by
  intro fs h
  rw [Try.underlying64] at h
  cases h
  kernel_rfl
theorem zr64 : (Try.prog.info? 64).bind (·.zero) = some (.agg #[.int .i64 0, .slice none 0 0, .int .i64 0, .int .i64 0, .int .i64 0, .int .i64 0, .bool false, .int .i64 0, .int .i64 0]) := by kernel_rfl
theorem sz3 : (Try.prog.info? 3).map (·.size) = some 1 := by kernel_rfl
theorem sz4 : (Try.prog.info? 4).map (·.size) = some 1 := by kernel_rfl
theorem sz31 : (Try.prog.info? 31).map (·.size) = some 1 := by kernel_rfl
theorem zr46 : (Try.prog.info? 46).bind (·.zero) = some (.agg #[.int .i64 0, .bool false, .string ByteArray.empty, .string ByteArray.empty, .slice none 0 0, .slice none 0 0, .bool false, .string ByteArray.empty, .int .i64 0, .int .i64 0, .slice none 0 0, .int .i64 0, .int .i64 0, .int .i64 0, .slice none 0 0]) := by kernel_rfl
theorem el40 : ElemT Try.prog 40 39 3 40 := ⟨⟨Try.t39, .agg #[.bool false, .string ByteArray.empty, .string ByteArray.empty], Try.underlying40, by kernel_rfl, by kernel_rfl, by kernel_rfl, by kernel_rfl, by decide, by kernel_rfl⟩⟩
theorem el41 : ElemT Try.prog 41 5 1 1 := ⟨⟨Try.t5, .int .u8 0, Try.underlying41, by kernel_rfl, by kernel_rfl, by kernel_rfl, by kernel_rfl, by decide, by kernel_rfl⟩⟩
theorem el44 : ElemT Try.prog 44 3 1 8 := ⟨⟨Try.t3, .int .i64 0, Try.underlying44, by kernel_rfl, by kernel_rfl, by kernel_rfl, by kernel_rfl, by decide, by kernel_rfl⟩⟩
theorem el31 : ElemT Try.prog 31 46 15 208 := ⟨⟨Try.t46, .agg #[.int .i64 0, .bool false, .string ByteArray.empty, .string ByteArray.empty, .slice none 0 0, .slice none 0 0, .bool false, .string ByteArray.empty, .int .i64 0, .int .i64 0, .slice none 0 0, .int .i64 0, .int .i64 0, .int .i64 0, .slice none 0 0], Try.underlying31, by kernel_rfl, by kernel_rfl, by kernel_rfl, by kernel_rfl, by decide, by kernel_rfl⟩⟩
theorem fs46 : ∀ fs, Try.prog.underlying 46 = some (.struct fs) → fs.toList.map (fun f => (Try.prog.info? f.type).map (·.size)) = ([1, 8, 1, 1, 1, 1, 1, 1] : List Nat).map some := by
  intro fs h
  rw [Try.underlying46] at h
  cases h
  kernel_rfl
theorem sz5 : (Try.prog.info? 5).map (·.size) = some 1 := by kernel_rfl
theorem zr5 : (Try.prog.info? 5).bind (·.zero) = some (.int .u8 0) := by kernel_rfl

set_option maxHeartbeats 1000000 in
theorem ok_wherrylaw17_Heavy (l : (List T_Mail)) (r : Bool) (h : Sh.wherrylaw17_Heavy l = some r) : FnOK Try.prog 39 [.fr .shr true 8 (List.flatten (List.map T_Mail.ienc l))] (.v (.bool r)) := by
  unfold Sh.wherrylaw17_Heavy at h
  refine fn_ok Try.func39 rfl (Nat.le_of_ble_eq_true rfl) rfl rfl fun g0 hn hio => ?_
  refine ht_seq ?_
  refine ht_seqR hn (El := [_, (2, .v (.bool false))]) (init := [0]) (fin := [0]) (sps := [⟨[], [], [1], [(.slot 2)]⟩]) (es' := [(_, _)]) (by kernel_rfl) rfl rfl
   ⟨st_plain rfl (op_assign _ _ _ _ rfl rfl),
   trivial⟩ ?_
  refine pt_then ?_
  refine ht_seq ?_
  refine ht_seq ?_
  refine ht_seqR hn (El := [_, (6, .fr .shr true 8 (List.flatten (List.map T_Mail.ienc l))), (7, .v (.int .i64 (l.length : Int))), (8, .v (.bool ((decide (20 < (l.length : Int))))))]) (init := [0]) (fin := [0, 3]) (sps := [⟨[0], [], [1], [(.slot 6)]⟩, ⟨[1], [], [2], [(.slot 7)]⟩, ⟨[2], [], [3], [(.slot 8)]⟩]) (es' := [(_, _), (8, .v (.bool ((decide (20 < (l.length : Int))))))]) (by kernel_rfl) rfl rfl
   ⟨st_plain rfl (op_move _ _ _ _ rfl rfl),
   st_plain rfl (op_len_fr _ _ _ Try.underlying69 rfl (by decide) (gflat_len T_Mail.ilen _)),
   st_plain rfl (op_bin _ _ _ _ _ rfl rfl rfl),
   trivial⟩ ?_
  refine pt_then ?_
  refine ht_cond _ rfl (fun hb1 => ?_) (fun hb1 => ?_)
  ·have h := cond_t hb1 h
   refine ht_seq ?_
   refine ht_seqR hn (El := [_, _, (2, .v (.bool true))]) (init := [0, 1]) (fin := [2]) (sps := [⟨[], [], [2], [(.slot 2)]⟩]) (es' := [(2, .v (.bool true))]) (by kernel_rfl) rfl rfl
    ⟨st_plain rfl (op_assign _ _ _ _ rfl rfl),
    trivial⟩ ?_
   refine pt_then ?_
   refine ht_ret ?_
   refine pt_r_then ?_
   obtain rfl := Option.some.inj h
   exact pt_ret hio rfl (.tmp _ _ .nil) rfl rfl
  ·have h := cond_f hb1 h
   refine ht_skip ?_
   refine pt_then ?_
   refine ht_seq ?_
   refine ht_seqR hn (El := [_, _, (3, .v (.int .i64 0))]) (init := [0, 1]) (fin := [0, 2]) (sps := [⟨[], [], [2], [(.slot 3)]⟩]) (es' := [(_, _), (3, .v (.int .i64 0))]) (by kernel_rfl) rfl rfl
    ⟨st_plain rfl (op_assign _ _ _ _ rfl rfl),
    trivial⟩ ?_
   refine pt_then ?_
   refine ht_seq ?_
   refine ht_seq ?_
   refine ht_seqR hn (El := [_, _, (4, .v (.int .i64 0))]) (init := [0, 1]) (fin := [0, 1, 2]) (sps := [⟨[], [], [2], [(.slot 4)]⟩]) (es' := [(_, _), (_, _), (4, .v (.int .i64 0))]) (by kernel_rfl) rfl rfl
    ⟨st_plain rfl (op_assign _ _ _ _ rfl rfl),
    trivial⟩ ?_
   refine pt_then ?_
   refine ht_loopS h (fun ((s66, s67) : Int × Int) => [(0, .fr .shr true 8 (List.flatten (List.map T_Mail.ienc l))), (3, .v (.int .i64 s66)), (4, .v (.int .i64 s67))]) (fun (s85 : Int) => [(3, .v (.int .i64 s85))]) ?_ ?_
   ·rintro s85 h
    refine pt_then ?_
    refine ht_seq ?_
    refine ht_seqR hn (El := [_, (86, .v (.int .i64 s85)), (87, .v (.bool ((decide (20000 < s85))))), (2, .v (.bool ((decide (20000 < s85)))))]) (init := [0]) (fin := [3]) (sps := [⟨[0], [], [1], [(.slot 86)]⟩, ⟨[1], [], [2], [(.slot 87)]⟩, ⟨[2], [], [3], [(.slot 2)]⟩]) (es' := [(2, .v (.bool ((decide (20000 < s85)))))]) (by kernel_rfl) rfl rfl
     ⟨st_plain rfl (op_move _ _ _ _ rfl rfl),
     st_plain rfl (op_bin _ _ _ _ _ rfl rfl rfl),
     st_plain rfl (op_assign _ _ _ _ rfl rfl),
     trivial⟩ ?_
    refine pt_then ?_
    refine ht_ret ?_
    obtain rfl := Option.some.inj h
    exact pt_ret hio rfl (.tmp _ _ .nil) rfl rfl
   ·rintro u86 hl87 hr88 ⟨s66, s67⟩ rr91 h ho89
    refine ht_seq ?_
    refine ht_seq ?_
    refine ht_seqR hn (El := [_, _, _, (9, .v (.int .i64 s67)), (10, .fr .shr true 8 (List.flatten (List.map T_Mail.ienc l))), (11, .v (.int .i64 (l.length : Int))), (12, .v (.bool ((decide (s67 < (l.length : Int))))))]) (init := [0, 1, 2]) (fin := [0, 1, 2, 6]) (sps := [⟨[2], [], [3], [(.slot 9)]⟩, ⟨[0], [], [4], [(.slot 10)]⟩, ⟨[4], [], [5], [(.slot 11)]⟩, ⟨[3, 5], [], [6], [(.slot 12)]⟩]) (es' := [(_, _), (_, _), (_, _), (12, .v (.bool ((decide (s67 < (l.length : Int))))))]) (by kernel_rfl) rfl rfl
     ⟨st_plain rfl (op_move _ _ _ _ rfl rfl),
     st_plain rfl (op_move _ _ _ _ rfl rfl),
     st_plain rfl (op_len_fr _ _ _ Try.underlying69 rfl (by decide) (gflat_len T_Mail.ilen _)),
     st_plain rfl (op_bin _ _ _ _ _ rfl rfl rfl),
     trivial⟩ ?_
    refine pt_then ?_
    refine ht_cond _ rfl (fun hb92 => ?_) (fun hb92 => ?_)
    ·have h := cond_t hb92 h
     refine ht_skip ?_
     refine pt_then ?_
     refine ht_seq ?_
     refine ht_block ?_
     refine ht_seq ?_
     obtain ⟨v3, hv3, h⟩ := bind_some h
     obtain ⟨v4, hv4, h⟩ := bind_some h
     obtain ⟨v5, hv5, h⟩ := bind_some h
     obtain ⟨v6, hv6, h⟩ := bind_some h
     obtain ⟨v7, hv7, h⟩ := bind_some h
     obtain ⟨v8, hv8, h⟩ := bind_some h
     obtain ⟨v9, hv9, h⟩ := bind_some h
     obtain ⟨v10, hv10, h⟩ := bind_some h
     obtain ⟨v11, hv11, h⟩ := bind_some h
     obtain ⟨v12, hv12, h⟩ := bind_some h
     obtain ⟨v13, hv13, h⟩ := bind_some h
     obtain ⟨v14, hv14, h⟩ := bind_some h
     refine ht_anyR (by kernel_rfl) hn (El := (_ :: _ :: _ :: _ :: (15, .v (.int .i64 s66)) :: (16, .fr .shr true 8 (List.flatten (List.map T_Mail.ienc l))) :: (17, .v (.int .i64 s67)) :: (18, .eref (.slot 16) (v3 * 8)) :: (19, .eref (.slot 16) (v3 * 8 + 4)) :: (20, .fl .shr 1 (List.map (Value.int .u8) v4.Body)) :: (21, .v (.int .i64 (v4.Body.length : Int))) :: (22, .v (.int .i64 v5)) :: (23, .fr .shr true 8 (List.flatten (List.map T_Mail.ienc l))) :: (24, .v (.int .i64 s67)) :: (25, .eref (.slot 23) (v6 * 8)) :: (26, .eref (.slot 23) (v6 * 8 + 6)) :: (27, .v (.string v7.Helo)) :: (28, .v (.int .i64 (v7.Helo.size : Int))) :: (29, .v (.int .i64 v8)) :: (30, .fr .shr true 8 (List.flatten (List.map T_Mail.ienc l))) :: (31, .v (.int .i64 s67)) :: (32, .eref (.slot 30) (v9 * 8)) :: (33, .eref (.slot 30) (v9 * 8 + 0)) :: (34, .eref (.slot 30) (v9 * 8 + 1)) :: (35, .v (.string v10.From.Local)) :: (36, .v (.int .i64 (v10.From.Local.size : Int))) :: (37, .v (.int .i64 v11)) :: (38, .fr .shr true 8 (List.flatten (List.map T_Mail.ienc l))) :: (39, .v (.int .i64 s67)) :: (40, .eref (.slot 38) (v12 * 8)) :: (41, .eref (.slot 38) (v12 * 8 + 0)) :: (42, .eref (.slot 38) (v12 * 8 + 2)) :: (43, .v (.string v13.From.Domain)) :: (44, .v (.int .i64 (v13.From.Domain.size : Int))) :: (45, .v (.int .i64 v14)) :: (3, .v (.int .i64 v14)) :: [])) (init := [0, 1, 2, 3]) (fin := [0, 2, 35]) (sps := (⟨[1], [], [4], [(.slot 15)]⟩ :: ⟨[0], [], [5], [(.slot 16)]⟩ :: ⟨[2], [], [6], [(.slot 17)]⟩ :: ⟨[5, 6], [], [7], [(.slot 18)]⟩ :: ⟨[7, 5], [], [8], [(.slot 19)]⟩ :: ⟨[8, 5], [], [9], [(.slot 20)]⟩ :: ⟨[9], [], [10], [(.slot 21)]⟩ :: ⟨[4, 10], [], [11], [(.slot 22)]⟩ :: ⟨[0], [], [12], [(.slot 23)]⟩ :: ⟨[2], [], [13], [(.slot 24)]⟩ :: ⟨[12, 13], [], [14], [(.slot 25)]⟩ :: ⟨[14, 12], [], [15], [(.slot 26)]⟩ :: ⟨[15, 12], [], [16], [(.slot 27)]⟩ :: ⟨[16], [], [17], [(.slot 28)]⟩ :: ⟨[11, 17], [], [18], [(.slot 29)]⟩ :: ⟨[0], [], [19], [(.slot 30)]⟩ :: ⟨[2], [], [20], [(.slot 31)]⟩ :: ⟨[19, 20], [], [21], [(.slot 32)]⟩ :: ⟨[21, 19], [], [22], [(.slot 33)]⟩ :: ⟨[22, 19], [], [23], [(.slot 34)]⟩ :: ⟨[23, 19], [], [24], [(.slot 35)]⟩ :: ⟨[24], [], [25], [(.slot 36)]⟩ :: ⟨[18, 25], [], [26], [(.slot 37)]⟩ :: ⟨[0], [], [27], [(.slot 38)]⟩ :: ⟨[2], [], [28], [(.slot 39)]⟩ :: ⟨[27, 28], [], [29], [(.slot 40)]⟩ :: ⟨[29, 27], [], [30], [(.slot 41)]⟩ :: ⟨[30, 27], [], [31], [(.slot 42)]⟩ :: ⟨[31, 27], [], [32], [(.slot 43)]⟩ :: ⟨[32], [], [33], [(.slot 44)]⟩ :: ⟨[26, 33], [], [34], [(.slot 45)]⟩ :: ⟨[34], [1], [35], [(.slot 3)]⟩ :: [])) (es' := [(_, _), (_, _), (3, .v (.int .i64 v14))]) (by kernel_rfl) rfl rfl
      ⟨st_plain rfl (op_move _ _ _ _ rfl rfl),
      st_plain rfl (op_move _ _ _ _ rfl rfl),
      st_plain rfl (op_move _ _ _ _ rfl rfl),
      st_plain rfl (op_ix_fr _ _ _ _ _ _ _ _ Try.underlying69 sz43 (by decide) rfl rfl rfl (ix_ok hv3).1 (gflat_lt T_Mail.ilen (ix_ok hv3).2) rfl),
      st_plain rfl (op_fieldAddr_e _ _ _ _ _ _ _ Try.underlying43 rfl sz41 rfl rfl rfl),
      st_plain rfl (op_load_fr _ _ _ _ _ _ _ Try.underlying41 rfl rfl rfl (gflat_cell T_Mail.ilen hv4 rfl) (.fl _ _ rfl)),
      st_plain rfl (op_len_fl _ _ _ Try.underlying41 rfl (by decide) (map_len _)),
      st_plain rfl (op_bin _ _ _ _ _ rfl rfl (ibind (f := Value.int .i64) (Option.some.inj hv5))),
      st_plain rfl (op_move _ _ _ _ rfl rfl),
      st_plain rfl (op_move _ _ _ _ rfl rfl),
      st_plain rfl (op_ix_fr _ _ _ _ _ _ _ _ Try.underlying69 sz43 (by decide) rfl rfl rfl (ix_ok hv6).1 (gflat_lt T_Mail.ilen (ix_ok hv6).2) rfl),
      st_plain rfl (op_fieldAddr_e _ _ _ _ _ _ _ Try.underlying43 rfl sz9 rfl rfl rfl),
      st_plain rfl (op_load_fr _ _ _ _ _ _ _ Try.underlying9 rfl rfl rfl (gflat_cell T_Mail.ilen hv7 rfl) (.v _)),
      st_plain rfl (op_len_str _ _ _ Try.underlying9 rfl),
      st_plain rfl (op_bin _ _ _ _ _ rfl rfl (ibind (f := Value.int .i64) (Option.some.inj hv8))),
      st_plain rfl (op_move _ _ _ _ rfl rfl),
      st_plain rfl (op_move _ _ _ _ rfl rfl),
      st_plain rfl (op_ix_fr _ _ _ _ _ _ _ _ Try.underlying69 sz43 (by decide) rfl rfl rfl (ix_ok hv9).1 (gflat_lt T_Mail.ilen (ix_ok hv9).2) rfl),
      st_plain rfl (op_fieldAddr_e _ _ _ _ _ _ _ Try.underlying43 rfl sz39 rfl rfl rfl),
      st_plain rfl (op_fieldAddr_e _ _ _ _ _ _ _ Try.underlying39 rfl sz9 rfl rfl rfl),
      st_plain rfl (op_load_fr _ _ _ _ _ _ _ Try.underlying9 rfl rfl rfl (gflat_cell T_Mail.ilen hv10 rfl) (.v _)),
      st_plain rfl (op_len_str _ _ _ Try.underlying9 rfl),
      st_plain rfl (op_bin _ _ _ _ _ rfl rfl (ibind (f := Value.int .i64) (Option.some.inj hv11))),
      st_plain rfl (op_move _ _ _ _ rfl rfl),
      st_plain rfl (op_move _ _ _ _ rfl rfl),
      st_plain rfl (op_ix_fr _ _ _ _ _ _ _ _ Try.underlying69 sz43 (by decide) rfl rfl rfl (ix_ok hv12).1 (gflat_lt T_Mail.ilen (ix_ok hv12).2) rfl),
      st_plain rfl (op_fieldAddr_e _ _ _ _ _ _ _ Try.underlying43 rfl sz39 rfl rfl rfl),
      st_plain rfl (op_fieldAddr_e _ _ _ _ _ _ _ Try.underlying39 rfl sz9 rfl rfl rfl),
      st_plain rfl (op_load_fr _ _ _ _ _ _ _ Try.underlying9 rfl rfl rfl (gflat_cell T_Mail.ilen hv13 rfl) (.v _)),
      st_plain rfl (op_len_str _ _ _ Try.underlying9 rfl),
      st_plain rfl (op_bin _ _ _ _ _ rfl rfl (ibind (f := Value.int .i64) (Option.some.inj hv14))),
      st_plain rfl (LOp.drop [_] (op_assign _ _ _ _ rfl rfl)),
      trivial⟩ ?_
     refine pt_then ?_
     refine ht_seq ?_
     refine ht_seq ?_
     obtain ⟨v15, hv15, h⟩ := bind_some h
     obtain ⟨v16, hv16, h⟩ := bind_some h
     refine ht_seqR hn (El := [_, _, _, (46, .fr .shr true 8 (List.flatten (List.map T_Mail.ienc l))), (47, .v (.int .i64 s67)), (48, .eref (.slot 46) (v15 * 8)), (49, .eref (.slot 46) (v15 * 8 + 3)), (50, .fl .shr 3 (List.flatten (List.map T_Path.enc v16.To))), (51, .v (.int .i64 (v16.To.length : Int))), (52, .v (.bool ((decide (40 < (v16.To.length : Int))))))]) (init := [0, 1, 2]) (fin := [0, 1, 2, 9]) (sps := [⟨[0], [], [3], [(.slot 46)]⟩, ⟨[1], [], [4], [(.slot 47)]⟩, ⟨[3, 4], [], [5], [(.slot 48)]⟩, ⟨[5, 3], [], [6], [(.slot 49)]⟩, ⟨[6, 3], [], [7], [(.slot 50)]⟩, ⟨[7], [], [8], [(.slot 51)]⟩, ⟨[8], [], [9], [(.slot 52)]⟩]) (es' := [(_, _), (_, _), (_, _), (52, .v (.bool ((decide (40 < (v16.To.length : Int))))))]) (by kernel_rfl) rfl rfl
      ⟨st_plain rfl (op_move _ _ _ _ rfl rfl),
      st_plain rfl (op_move _ _ _ _ rfl rfl),
      st_plain rfl (op_ix_fr _ _ _ _ _ _ _ _ Try.underlying69 sz43 (by decide) rfl rfl rfl (ix_ok hv15).1 (gflat_lt T_Mail.ilen (ix_ok hv15).2) rfl),
      st_plain rfl (op_fieldAddr_e _ _ _ _ _ _ _ Try.underlying43 rfl sz40 rfl rfl rfl),
      st_plain rfl (op_load_fr _ _ _ _ _ _ _ Try.underlying40 rfl rfl rfl (gflat_cell T_Mail.ilen hv16 rfl) (.fl _ _ rfl)),
      st_plain rfl (op_len_fl _ _ _ Try.underlying40 rfl (by decide) (flat_len T_Path.len _)),
      st_plain rfl (op_bin _ _ _ _ _ rfl rfl rfl),
      trivial⟩ ?_
     refine pt_then ?_
     refine ht_cond _ rfl (fun hb93 => ?_) (fun hb93 => ?_)
     ·have h := cond_t hb93 h
      refine ht_seq ?_
      refine ht_seqR hn (El := [_, _, _, _, (2, .v (.bool true))]) (init := [0, 1, 2, 3]) (fin := [4]) (sps := [⟨[], [], [4], [(.slot 2)]⟩]) (es' := [(2, .v (.bool true))]) (by kernel_rfl) rfl rfl
       ⟨st_plain rfl (op_assign _ _ _ _ rfl rfl),
       trivial⟩ ?_
      refine pt_then ?_
      refine ht_ret ?_
      refine pt_r_then ?_
      refine pt_r_in ?_
      refine pt_r_then ?_
      refine pt_r_then ?_
      refine pt_r_in ?_
      refine pt_r_then ?_
      have h := hr88 _ (ho89 _ (Option.some.inj h).symm).symm
      obtain rfl := Option.some.inj h
      exact pt_ret hio rfl (.tmp _ _ .nil) rfl rfl
     ·have h := cond_f hb93 h
      refine ht_skip ?_
      refine pt_then ?_
      refine ht_seq ?_
      refine ht_seqR hn (El := [_, _, _, _, (5, .v (.int .i64 0))]) (init := [0, 1, 2, 3]) (fin := [0, 1, 2, 4]) (sps := [⟨[], [], [4], [(.slot 5)]⟩]) (es' := [(_, _), (_, _), (_, _), (5, .v (.int .i64 0))]) (by kernel_rfl) rfl rfl
       ⟨st_plain rfl (op_assign _ _ _ _ rfl rfl),
       trivial⟩ ?_
      refine pt_then ?_
      refine ht_loopS h (fun ((s98, s99) : Int × Int) => [(0, .fr .shr true 8 (List.flatten (List.map T_Mail.ienc l))), (4, .v (.int .i64 s67)), (3, .v (.int .i64 s98)), (5, .v (.int .i64 s99))]) (fun (s101 : Int) => [(0, .fr .shr true 8 (List.flatten (List.map T_Mail.ienc l))), (4, .v (.int .i64 s67)), (3, .v (.int .i64 s101))]) ?_ ?_
      ·rintro s101 h
       refine pt_inb ?_
       refine pt_then ?_
       obtain ⟨v46, hv46, h⟩ := bind_some h
       refine ht_seqR hn (El := [_, _, _, (13, .v (.int .i64 s67)), (14, .v (.int .i64 v46)), (4, .v (.int .i64 v46))]) (init := [0, 1, 2]) (fin := [0, 2, 5]) (sps := [⟨[1], [], [3], [(.slot 13)]⟩, ⟨[3], [], [4], [(.slot 14)]⟩, ⟨[4], [1], [5], [(.slot 4)]⟩]) (es' := [(_, _), (_, _), (4, .v (.int .i64 v46))]) (by kernel_rfl) rfl rfl
        ⟨st_plain rfl (op_move _ _ _ _ rfl rfl),
        st_plain rfl (op_bin _ _ _ _ _ rfl rfl (ibind (f := Value.int .i64) (Option.some.inj hv46))),
        st_plain rfl (LOp.drop [_] (op_assign _ _ _ _ rfl rfl)),
        trivial⟩ ?_
       exact pt_next _ (Option.some.inj h).symm rfl
      ·rintro u102 hl103 hr104 ⟨s98, s99⟩ rr107 h ho105
       refine ht_seq ?_
       refine ht_seq ?_
       obtain ⟨v18, hv18, h⟩ := bind_some h
       obtain ⟨v19, hv19, h⟩ := bind_some h
       refine ht_seqR hn (El := [_, _, _, _, (53, .v (.int .i64 s99)), (54, .fr .shr true 8 (List.flatten (List.map T_Mail.ienc l))), (55, .v (.int .i64 s67)), (56, .eref (.slot 54) (v18 * 8)), (57, .eref (.slot 54) (v18 * 8 + 3)), (58, .fl .shr 3 (List.flatten (List.map T_Path.enc v19.To))), (59, .v (.int .i64 (v19.To.length : Int))), (60, .v (.bool ((decide (s99 < (v19.To.length : Int))))))]) (init := [0, 1, 2, 3]) (fin := [0, 1, 2, 3, 11]) (sps := [⟨[3], [], [4], [(.slot 53)]⟩, ⟨[0], [], [5], [(.slot 54)]⟩, ⟨[1], [], [6], [(.slot 55)]⟩, ⟨[5, 6], [], [7], [(.slot 56)]⟩, ⟨[7, 5], [], [8], [(.slot 57)]⟩, ⟨[8, 5], [], [9], [(.slot 58)]⟩, ⟨[9], [], [10], [(.slot 59)]⟩, ⟨[4, 10], [], [11], [(.slot 60)]⟩]) (es' := [(_, _), (_, _), (_, _), (_, _), (60, .v (.bool ((decide (s99 < (v19.To.length : Int))))))]) (by kernel_rfl) rfl rfl
        ⟨st_plain rfl (op_move _ _ _ _ rfl rfl),
        st_plain rfl (op_move _ _ _ _ rfl rfl),
        st_plain rfl (op_move _ _ _ _ rfl rfl),
        st_plain rfl (op_ix_fr _ _ _ _ _ _ _ _ Try.underlying69 sz43 (by decide) rfl rfl rfl (ix_ok hv18).1 (gflat_lt T_Mail.ilen (ix_ok hv18).2) rfl),
        st_plain rfl (op_fieldAddr_e _ _ _ _ _ _ _ Try.underlying43 rfl sz40 rfl rfl rfl),
        st_plain rfl (op_load_fr _ _ _ _ _ _ _ Try.underlying40 rfl rfl rfl (gflat_cell T_Mail.ilen hv19 rfl) (.fl _ _ rfl)),
        st_plain rfl (op_len_fl _ _ _ Try.underlying40 rfl (by decide) (flat_len T_Path.len _)),
        st_plain rfl (op_bin _ _ _ _ _ rfl rfl rfl),
        trivial⟩ ?_
       refine pt_then ?_
       refine ht_cond _ rfl (fun hb108 => ?_) (fun hb108 => ?_)
       ·have h := cond_t hb108 h
        refine ht_skip ?_
        refine pt_then ?_
        refine ht_seq ?_
        refine ht_block ?_
        obtain ⟨v21, hv21, h⟩ := bind_some h
        obtain ⟨v22, hv22, h⟩ := bind_some h
        obtain ⟨v23, hv23, h⟩ := bind_some h
        obtain ⟨v24, hv24, h⟩ := bind_some h
        obtain ⟨v25, hv25, h⟩ := bind_some h
        obtain ⟨v26, hv26, h⟩ := bind_some h
        obtain ⟨v27, hv27, h⟩ := bind_some h
        obtain ⟨v28, hv28, h⟩ := bind_some h
        obtain ⟨v29, hv29, h⟩ := bind_some h
        obtain ⟨v30, hv30, h⟩ := bind_some h
        refine ht_anyR (by kernel_rfl) hn (El := (_ :: _ :: _ :: _ :: _ :: (63, .v (.int .i64 s98)) :: (64, .fr .shr true 8 (List.flatten (List.map T_Mail.ienc l))) :: (65, .v (.int .i64 s67)) :: (66, .eref (.slot 64) (v21 * 8)) :: (67, .eref (.slot 64) (v21 * 8 + 3)) :: (68, .fl .shr 3 (List.flatten (List.map T_Path.enc v22.To))) :: (69, .v (.int .i64 s99)) :: (70, .eref (.slot 68) (v23 * 3)) :: (71, .eref (.slot 68) (v23 * 3 + 1)) :: (72, .v (.string v24.Local)) :: (73, .v (.int .i64 (v24.Local.size : Int))) :: (74, .v (.int .i64 v25)) :: (75, .fr .shr true 8 (List.flatten (List.map T_Mail.ienc l))) :: (76, .v (.int .i64 s67)) :: (77, .eref (.slot 75) (v26 * 8)) :: (78, .eref (.slot 75) (v26 * 8 + 3)) :: (79, .fl .shr 3 (List.flatten (List.map T_Path.enc v27.To))) :: (80, .v (.int .i64 s99)) :: (81, .eref (.slot 79) (v28 * 3)) :: (82, .eref (.slot 79) (v28 * 3 + 2)) :: (83, .v (.string v29.Domain)) :: (84, .v (.int .i64 (v29.Domain.size : Int))) :: (85, .v (.int .i64 v30)) :: (3, .v (.int .i64 v30)) :: [])) (init := [0, 1, 2, 3, 4]) (fin := [0, 1, 3, 28]) (sps := (⟨[2], [], [5], [(.slot 63)]⟩ :: ⟨[0], [], [6], [(.slot 64)]⟩ :: ⟨[1], [], [7], [(.slot 65)]⟩ :: ⟨[6, 7], [], [8], [(.slot 66)]⟩ :: ⟨[8, 6], [], [9], [(.slot 67)]⟩ :: ⟨[9, 6], [], [10], [(.slot 68)]⟩ :: ⟨[3], [], [11], [(.slot 69)]⟩ :: ⟨[10, 11], [], [12], [(.slot 70)]⟩ :: ⟨[12, 10], [], [13], [(.slot 71)]⟩ :: ⟨[13, 10], [], [14], [(.slot 72)]⟩ :: ⟨[14], [], [15], [(.slot 73)]⟩ :: ⟨[5, 15], [], [16], [(.slot 74)]⟩ :: ⟨[0], [], [17], [(.slot 75)]⟩ :: ⟨[1], [], [18], [(.slot 76)]⟩ :: ⟨[17, 18], [], [19], [(.slot 77)]⟩ :: ⟨[19, 17], [], [20], [(.slot 78)]⟩ :: ⟨[20, 17], [], [21], [(.slot 79)]⟩ :: ⟨[3], [], [22], [(.slot 80)]⟩ :: ⟨[21, 22], [], [23], [(.slot 81)]⟩ :: ⟨[23, 21], [], [24], [(.slot 82)]⟩ :: ⟨[24, 21], [], [25], [(.slot 83)]⟩ :: ⟨[25], [], [26], [(.slot 84)]⟩ :: ⟨[16, 26], [], [27], [(.slot 85)]⟩ :: ⟨[27], [2], [28], [(.slot 3)]⟩ :: [])) (es' := [(_, _), (_, _), (_, _), (3, .v (.int .i64 v30))]) (by kernel_rfl) rfl rfl
         ⟨st_plain rfl (op_move _ _ _ _ rfl rfl),
         st_plain rfl (op_move _ _ _ _ rfl rfl),
         st_plain rfl (op_move _ _ _ _ rfl rfl),
         st_plain rfl (op_ix_fr _ _ _ _ _ _ _ _ Try.underlying69 sz43 (by decide) rfl rfl rfl (ix_ok hv21).1 (gflat_lt T_Mail.ilen (ix_ok hv21).2) rfl),
         st_plain rfl (op_fieldAddr_e _ _ _ _ _ _ _ Try.underlying43 rfl sz40 rfl rfl rfl),
         st_plain rfl (op_load_fr _ _ _ _ _ _ _ Try.underlying40 rfl rfl rfl (gflat_cell T_Mail.ilen hv22 rfl) (.fl _ _ rfl)),
         st_plain rfl (op_move _ _ _ _ rfl rfl),
         st_plain rfl (op_ix _ _ _ _ _ _ _ _ Try.underlying40 sz39 (by decide) rfl rfl rfl (ix_ok hv23).1 (flat_lt T_Path.len (ix_ok hv23).2) rfl),
         st_plain rfl (op_fieldAddr_e _ _ _ _ _ _ _ Try.underlying39 rfl sz9 rfl rfl rfl),
         st_plain rfl (op_load_e _ _ _ _ _ _ Try.underlying9 rfl rfl rfl (flat_cell T_Path.len hv24 rfl)),
         st_plain rfl (op_len_str _ _ _ Try.underlying9 rfl),
         st_plain rfl (op_bin _ _ _ _ _ rfl rfl (ibind (f := Value.int .i64) (Option.some.inj hv25))),
         st_plain rfl (op_move _ _ _ _ rfl rfl),
         st_plain rfl (op_move _ _ _ _ rfl rfl),
         st_plain rfl (op_ix_fr _ _ _ _ _ _ _ _ Try.underlying69 sz43 (by decide) rfl rfl rfl (ix_ok hv26).1 (gflat_lt T_Mail.ilen (ix_ok hv26).2) rfl),
         st_plain rfl (op_fieldAddr_e _ _ _ _ _ _ _ Try.underlying43 rfl sz40 rfl rfl rfl),
         st_plain rfl (op_load_fr _ _ _ _ _ _ _ Try.underlying40 rfl rfl rfl (gflat_cell T_Mail.ilen hv27 rfl) (.fl _ _ rfl)),
         st_plain rfl (op_move _ _ _ _ rfl rfl),
         st_plain rfl (op_ix _ _ _ _ _ _ _ _ Try.underlying40 sz39 (by decide) rfl rfl rfl (ix_ok hv28).1 (flat_lt T_Path.len (ix_ok hv28).2) rfl),
         st_plain rfl (op_fieldAddr_e _ _ _ _ _ _ _ Try.underlying39 rfl sz9 rfl rfl rfl),
         st_plain rfl (op_load_e _ _ _ _ _ _ Try.underlying9 rfl rfl rfl (flat_cell T_Path.len hv29 rfl)),
         st_plain rfl (op_len_str _ _ _ Try.underlying9 rfl),
         st_plain rfl (op_bin _ _ _ _ _ rfl rfl (ibind (f := Value.int .i64) (Option.some.inj hv30))),
         st_plain rfl (LOp.drop [_] (op_assign _ _ _ _ rfl rfl)),
         trivial⟩ ?_
        refine pt_inb ?_
        refine pt_then ?_
        obtain ⟨v31, hv31, h⟩ := bind_some h
        refine ht_seqR hn (El := [_, _, _, _, (61, .v (.int .i64 s99)), (62, .v (.int .i64 v31)), (5, .v (.int .i64 v31))]) (init := [0, 1, 2, 3]) (fin := [0, 1, 3, 6]) (sps := [⟨[2], [], [4], [(.slot 61)]⟩, ⟨[4], [], [5], [(.slot 62)]⟩, ⟨[5], [2], [6], [(.slot 5)]⟩]) (es' := [(_, _), (_, _), (_, _), (5, .v (.int .i64 v31))]) (by kernel_rfl) rfl rfl
         ⟨st_plain rfl (op_move _ _ _ _ rfl rfl),
         st_plain rfl (op_bin _ _ _ _ _ rfl rfl (ibind (f := Value.int .i64) (Option.some.inj hv31))),
         st_plain rfl (LOp.drop [_] (op_assign _ _ _ _ rfl rfl)),
         trivial⟩ ?_
        exact pt_next _ (Option.some.inj h).symm rfl
       ·have h := cond_f hb108 h
        refine ht_exit ?_
        refine pt_x_then ?_
        refine pt_x_then ?_
        refine pt_x_in ?_
        refine pt_pick [0, 1, 2] (by kernel_rfl) (es' := [(_, _), (_, _), (_, _)]) rfl ?_
        exact hl103 _ (ho105 _ (Option.some.inj h).symm).symm
    ·have h := cond_f hb92 h
     refine ht_exit ?_
     refine pt_x_then ?_
     refine pt_x_then ?_
     refine pt_x_in ?_
     refine pt_pick [1] (by kernel_rfl) (es' := [(_, _)]) rfl ?_
     exact hl87 _ (ho89 _ (Option.some.inj h).symm).symm

set_option maxHeartbeats 1000000 in
theorem ok_wherrylaw18_Heavy (l : (List T_Rec)) (r : Bool) (h : Sh.wherrylaw18_Heavy l = some r) : FnOK Try.prog 13 [.fr .shr true 15 (List.flatten (List.map T_Rec.ienc l))] (.v (.bool r)) := by
  unfold Sh.wherrylaw18_Heavy at h
  refine fn_ok Try.func13 rfl (Nat.le_of_ble_eq_true rfl) rfl rfl fun g0 hn hio => ?_
  refine ht_seq ?_
  refine ht_seqR hn (El := [_, (2, .v (.bool false))]) (init := [0]) (fin := [0]) (sps := [⟨[], [], [1], [(.slot 2)]⟩]) (es' := [(_, _)]) (by kernel_rfl) rfl rfl
   ⟨st_plain rfl (op_assign _ _ _ _ rfl rfl),
   trivial⟩ ?_
  refine pt_then ?_
  refine ht_seq ?_
  refine ht_seq ?_
  refine ht_seqR hn (El := [_, (4, .fr .shr true 15 (List.flatten (List.map T_Rec.ienc l))), (5, .v (.int .i64 (l.length : Int))), (6, .v (.bool ((decide (60 < (l.length : Int))))))]) (init := [0]) (fin := [0, 3]) (sps := [⟨[0], [], [1], [(.slot 4)]⟩, ⟨[1], [], [2], [(.slot 5)]⟩, ⟨[2], [], [3], [(.slot 6)]⟩]) (es' := [(_, _), (6, .v (.bool ((decide (60 < (l.length : Int))))))]) (by kernel_rfl) rfl rfl
   ⟨st_plain rfl (op_move _ _ _ _ rfl rfl),
   st_plain rfl (op_len_fr _ _ _ Try.underlying31 rfl (by decide) (gflat_len T_Rec.ilen _)),
   st_plain rfl (op_bin _ _ _ _ _ rfl rfl rfl),
   trivial⟩ ?_
  refine pt_then ?_
  refine ht_cond _ rfl (fun hb1 => ?_) (fun hb1 => ?_)
  ·have h := cond_t hb1 h
   refine ht_seq ?_
   refine ht_seqR hn (El := [_, _, (2, .v (.bool true))]) (init := [0, 1]) (fin := [2]) (sps := [⟨[], [], [2], [(.slot 2)]⟩]) (es' := [(2, .v (.bool true))]) (by kernel_rfl) rfl rfl
    ⟨st_plain rfl (op_assign _ _ _ _ rfl rfl),
    trivial⟩ ?_
   refine pt_then ?_
   refine ht_ret ?_
   refine pt_r_then ?_
   obtain rfl := Option.some.inj h
   exact pt_ret hio rfl (.tmp _ _ .nil) rfl rfl
  ·have h := cond_f hb1 h
   refine ht_skip ?_
   refine pt_then ?_
   refine ht_seq ?_
   refine ht_seq ?_
   refine ht_seqR hn (El := [_, _, (3, .v (.int .i64 0))]) (init := [0, 1]) (fin := [0, 2]) (sps := [⟨[], [], [2], [(.slot 3)]⟩]) (es' := [(_, _), (3, .v (.int .i64 0))]) (by kernel_rfl) rfl rfl
    ⟨st_plain rfl (op_assign _ _ _ _ rfl rfl),
    trivial⟩ ?_
   refine pt_then ?_
   refine ht_loopS h (fun (s23 : Int) => [(0, .fr .shr true 15 (List.flatten (List.map T_Rec.ienc l))), (3, .v (.int .i64 s23))]) (fun (() : Unit) => []) ?_ ?_
   ·rintro ⟨⟩ h
    refine pt_then ?_
    refine ht_seq ?_
    refine ht_seqR hn (El := [(2, .v (.bool false))]) (init := []) (fin := [0]) (sps := [⟨[], [], [0], [(.slot 2)]⟩]) (es' := [(2, .v (.bool false))]) (by kernel_rfl) rfl rfl
     ⟨st_plain rfl (op_assign _ _ _ _ rfl rfl),
     trivial⟩ ?_
    refine pt_then ?_
    refine ht_ret ?_
    obtain rfl := Option.some.inj h
    exact pt_ret hio rfl (.tmp _ _ .nil) rfl rfl
   ·rintro u30 hl31 hr32 s23 rr35 h ho33
    refine ht_seq ?_
    refine ht_seq ?_
    refine ht_seqR hn (El := [_, _, (7, .v (.int .i64 s23)), (8, .fr .shr true 15 (List.flatten (List.map T_Rec.ienc l))), (9, .v (.int .i64 (l.length : Int))), (10, .v (.bool ((decide (s23 < (l.length : Int))))))]) (init := [0, 1]) (fin := [0, 1, 5]) (sps := [⟨[1], [], [2], [(.slot 7)]⟩, ⟨[0], [], [3], [(.slot 8)]⟩, ⟨[3], [], [4], [(.slot 9)]⟩, ⟨[2, 4], [], [5], [(.slot 10)]⟩]) (es' := [(_, _), (_, _), (10, .v (.bool ((decide (s23 < (l.length : Int))))))]) (by kernel_rfl) rfl rfl
     ⟨st_plain rfl (op_move _ _ _ _ rfl rfl),
     st_plain rfl (op_move _ _ _ _ rfl rfl),
     st_plain rfl (op_len_fr _ _ _ Try.underlying31 rfl (by decide) (gflat_len T_Rec.ilen _)),
     st_plain rfl (op_bin _ _ _ _ _ rfl rfl rfl),
     trivial⟩ ?_
    refine pt_then ?_
    refine ht_cond _ rfl (fun hb36 => ?_) (fun hb36 => ?_)
    ·have h := cond_t hb36 h
     refine ht_skip ?_
     refine pt_then ?_
     refine ht_seq ?_
     refine ht_block ?_
     refine ht_seq ?_
     refine ht_joinS h (fun (s37 : Bool) => [(0, .fr .shr true 15 (List.flatten (List.map T_Rec.ienc l))), (3, .v (.int .i64 s23)), (37, .v (.bool s37))]) ?_ ?_
     ·rintro s37 h
      refine pt_then ?_
      refine ht_cond _ rfl (fun hb41 => ?_) (fun hb41 => ?_)
      ·have h := cond_t hb41 h
       refine ht_seq ?_
       refine ht_seqR hn (El := [_, _, _, (2, .v (.bool true))]) (init := [0, 1, 2]) (fin := [3]) (sps := [⟨[], [], [3], [(.slot 2)]⟩]) (es' := [(2, .v (.bool true))]) (by kernel_rfl) rfl rfl
        ⟨st_plain rfl (op_assign _ _ _ _ rfl rfl),
        trivial⟩ ?_
       refine pt_then ?_
       refine ht_ret ?_
       refine pt_r_in ?_
       refine pt_r_then ?_
       refine pt_r_then ?_
       refine pt_r_in ?_
       refine pt_r_then ?_
       have h := hr32 _ (ho33 _ (Option.some.inj h).symm).symm
       obtain rfl := Option.some.inj h
       exact pt_ret hio rfl (.tmp _ _ .nil) rfl rfl
      ·have h := cond_f hb41 h
       refine ht_skip ?_
       refine pt_inb ?_
       refine pt_then ?_
       obtain ⟨v15, hv15, h⟩ := bind_some h
       refine ht_seqR hn (El := [_, _, _, (11, .v (.int .i64 s23)), (12, .v (.int .i64 v15)), (3, .v (.int .i64 v15))]) (init := [0, 1, 2]) (fin := [0, 5]) (sps := [⟨[1], [], [3], [(.slot 11)]⟩, ⟨[3], [], [4], [(.slot 12)]⟩, ⟨[4], [1], [5], [(.slot 3)]⟩]) (es' := [(_, _), (3, .v (.int .i64 v15))]) (by kernel_rfl) rfl rfl
        ⟨st_plain rfl (op_move _ _ _ _ rfl rfl),
        st_plain rfl (op_bin _ _ _ _ _ rfl rfl (ibind (f := Value.int .i64) (Option.some.inj hv15))),
        st_plain rfl (LOp.drop [_] (op_assign _ _ _ _ rfl rfl)),
        trivial⟩ ?_
       exact pt_next _ (Option.some.inj h).symm rfl
     ·intro u38 h hl39 hr40
      obtain ⟨v3, hv3, h⟩ := bind_some h
      obtain ⟨v4, hv4, h⟩ := bind_some h
      refine cond_some h (fun hg6_7 h => ?_) (fun hg6_7 h => ?_)
      ·refine ht_seqR hn (El := (_ :: _ :: _ :: (13, .fr .shr true 15 (List.flatten (List.map T_Rec.ienc l))) :: (14, .v (.int .i64 s23)) :: (15, .eref (.slot 13) (v3 * 15)) :: (16, .eref (.slot 13) (v3 * 15 + 14)) :: (17, .fl .shr 1 (List.map (Value.int .u8) v4.Data)) :: (18, .v (.int .i64 (v4.Data.length : Int))) :: (19, .v (.bool ((decide (600 < (v4.Data.length : Int)))))) :: (20, .v (.bool true)) :: (21, .v undef) :: (22, .v undef) :: (23, .v undef) :: (24, .v undef) :: (25, .v undef) :: (26, .v undef) :: (27, .v undef) :: (28, .v (.bool true)) :: (29, .v (.bool true)) :: (30, .v undef) :: (31, .v undef) :: (32, .v undef) :: (33, .v undef) :: (34, .v undef) :: (35, .v undef) :: (36, .v undef) :: (37, .v (.bool true)) :: [])) (init := [0, 1, 2]) (fin := [0, 1, 27]) (sps := (⟨[0], [], [3], [(.slot 13)]⟩ :: ⟨[1], [], [4], [(.slot 14)]⟩ :: ⟨[3, 4], [], [5], [(.slot 15)]⟩ :: ⟨[5, 3], [], [6], [(.slot 16)]⟩ :: ⟨[6, 3], [], [7], [(.slot 17)]⟩ :: ⟨[7], [], [8], [(.slot 18)]⟩ :: ⟨[8], [], [9], [(.slot 19)]⟩ :: ⟨[9], [], [10], [(.slot 20)]⟩ :: ⟨[10], [], [11], [(.slot 21)]⟩ :: ⟨[10], [], [12], [(.slot 22)]⟩ :: ⟨[10], [], [13], [(.slot 23)]⟩ :: ⟨[10], [], [14], [(.slot 24)]⟩ :: ⟨[10], [], [15], [(.slot 25)]⟩ :: ⟨[10], [], [16], [(.slot 26)]⟩ :: ⟨[10], [], [17], [(.slot 27)]⟩ :: ⟨[10], [], [18], [(.slot 28)]⟩ :: ⟨[18], [], [19], [(.slot 29)]⟩ :: ⟨[19], [], [20], [(.slot 30)]⟩ :: ⟨[19], [], [21], [(.slot 31)]⟩ :: ⟨[19], [], [22], [(.slot 32)]⟩ :: ⟨[19], [], [23], [(.slot 33)]⟩ :: ⟨[19], [], [24], [(.slot 34)]⟩ :: ⟨[19], [], [25], [(.slot 35)]⟩ :: ⟨[19], [], [26], [(.slot 36)]⟩ :: ⟨[19], [], [27], [(.slot 37)]⟩ :: [])) (es' := [(_, _), (_, _), (37, .v (.bool true))]) (by kernel_rfl) rfl rfl
        ⟨st_plain rfl (op_move _ _ _ _ rfl rfl),
        st_plain rfl (op_move _ _ _ _ rfl rfl),
        st_plain rfl (op_ix_fr _ _ _ _ _ _ _ _ Try.underlying31 sz46 (by decide) rfl rfl rfl (ix_ok hv3).1 (gflat_lt T_Rec.ilen (ix_ok hv3).2) rfl),
        st_plain rfl (op_fieldAddr_e _ _ _ _ _ _ _ Try.underlying46 rfl sz41 rfl rfl rfl),
        st_plain rfl (op_load_fr _ _ _ _ _ _ _ Try.underlying41 rfl rfl rfl (gflat_cell T_Rec.ilen hv4 rfl) (.fl _ _ rfl)),
        st_plain rfl (op_len_fl _ _ _ Try.underlying41 rfl (by decide) (map_len _)),
        st_plain rfl (op_bin _ _ _ _ _ rfl rfl rfl),
        st_plain rfl (op_move _ _ _ _ (congrArg (fun b => AV.v (Value.bool b)) hg6_7) rfl),
        st_skip 7 20 _ false rfl rfl rfl rfl (List.Mem.head _),
        st_skip 7 20 _ false rfl rfl rfl rfl (List.Mem.head _),
        st_skip 7 20 _ false rfl rfl rfl rfl (List.Mem.head _),
        st_skip 7 20 _ false rfl rfl rfl rfl (List.Mem.head _),
        st_skip 7 20 _ false rfl rfl rfl rfl (List.Mem.head _),
        st_skip 7 20 _ false rfl rfl rfl rfl (List.Mem.head _),
        st_skip 7 20 _ false rfl rfl rfl rfl (List.Mem.head _),
        st_plain rfl (op_pick _ _ true _ rfl rfl),
        st_plain rfl (op_move _ _ _ _ rfl rfl),
        st_skip 16 29 _ false rfl rfl rfl rfl (List.Mem.head _),
        st_skip 16 29 _ false rfl rfl rfl rfl (List.Mem.head _),
        st_skip 16 29 _ false rfl rfl rfl rfl (List.Mem.head _),
        st_skip 16 29 _ false rfl rfl rfl rfl (List.Mem.head _),
        st_skip 16 29 _ false rfl rfl rfl rfl (List.Mem.head _),
        st_skip 16 29 _ false rfl rfl rfl rfl (List.Mem.head _),
        st_skip 16 29 _ false rfl rfl rfl rfl (List.Mem.head _),
        st_plain rfl (op_pick _ _ true _ rfl rfl),
        trivial⟩ ?_
       exact hl39 _ (Option.some.inj h).symm
      ·obtain ⟨v5, hv5, h⟩ := bind_some h
       obtain ⟨v6, hv6, h⟩ := bind_some h
       refine cond_some h (fun hg6_16 h => ?_) (fun hg6_16 h => ?_)
       ·refine ht_seqR hn (El := (_ :: _ :: _ :: (13, .fr .shr true 15 (List.flatten (List.map T_Rec.ienc l))) :: (14, .v (.int .i64 s23)) :: (15, .eref (.slot 13) (v3 * 15)) :: (16, .eref (.slot 13) (v3 * 15 + 14)) :: (17, .fl .shr 1 (List.map (Value.int .u8) v4.Data)) :: (18, .v (.int .i64 (v4.Data.length : Int))) :: (19, .v (.bool ((decide (600 < (v4.Data.length : Int)))))) :: (20, .v (.bool false)) :: (21, .fr .shr true 15 (List.flatten (List.map T_Rec.ienc l))) :: (22, .v (.int .i64 s23)) :: (23, .eref (.slot 21) (v5 * 15)) :: (24, .eref (.slot 21) (v5 * 15 + 10)) :: (25, .fl .shr 1 (List.map (Value.int .i64) v6.Ids)) :: (26, .v (.int .i64 (v6.Ids.length : Int))) :: (27, .v (.bool ((decide (60 < (v6.Ids.length : Int)))))) :: (28, .v (.bool ((decide (60 < (v6.Ids.length : Int)))))) :: (29, .v (.bool true)) :: (30, .v undef) :: (31, .v undef) :: (32, .v undef) :: (33, .v undef) :: (34, .v undef) :: (35, .v undef) :: (36, .v undef) :: (37, .v (.bool true)) :: [])) (init := [0, 1, 2]) (fin := [0, 1, 27]) (sps := (⟨[0], [], [3], [(.slot 13)]⟩ :: ⟨[1], [], [4], [(.slot 14)]⟩ :: ⟨[3, 4], [], [5], [(.slot 15)]⟩ :: ⟨[5, 3], [], [6], [(.slot 16)]⟩ :: ⟨[6, 3], [], [7], [(.slot 17)]⟩ :: ⟨[7], [], [8], [(.slot 18)]⟩ :: ⟨[8], [], [9], [(.slot 19)]⟩ :: ⟨[9], [], [10], [(.slot 20)]⟩ :: ⟨[10, 0], [], [11], [(.slot 21)]⟩ :: ⟨[10, 1], [], [12], [(.slot 22)]⟩ :: ⟨[10, 11, 12], [], [13], [(.slot 23)]⟩ :: ⟨[10, 13, 11], [], [14], [(.slot 24)]⟩ :: ⟨[10, 14, 11], [], [15], [(.slot 25)]⟩ :: ⟨[10, 15], [], [16], [(.slot 26)]⟩ :: ⟨[10, 16], [], [17], [(.slot 27)]⟩ :: ⟨[10, 17], [], [18], [(.slot 28)]⟩ :: ⟨[18], [], [19], [(.slot 29)]⟩ :: ⟨[19], [], [20], [(.slot 30)]⟩ :: ⟨[19], [], [21], [(.slot 31)]⟩ :: ⟨[19], [], [22], [(.slot 32)]⟩ :: ⟨[19], [], [23], [(.slot 33)]⟩ :: ⟨[19], [], [24], [(.slot 34)]⟩ :: ⟨[19], [], [25], [(.slot 35)]⟩ :: ⟨[19], [], [26], [(.slot 36)]⟩ :: ⟨[19], [], [27], [(.slot 37)]⟩ :: [])) (es' := [(_, _), (_, _), (37, .v (.bool true))]) (by kernel_rfl) rfl rfl
         ⟨st_plain rfl (op_move _ _ _ _ rfl rfl),
         st_plain rfl (op_move _ _ _ _ rfl rfl),
         st_plain rfl (op_ix_fr _ _ _ _ _ _ _ _ Try.underlying31 sz46 (by decide) rfl rfl rfl (ix_ok hv3).1 (gflat_lt T_Rec.ilen (ix_ok hv3).2) rfl),
         st_plain rfl (op_fieldAddr_e _ _ _ _ _ _ _ Try.underlying46 rfl sz41 rfl rfl rfl),
         st_plain rfl (op_load_fr _ _ _ _ _ _ _ Try.underlying41 rfl rfl rfl (gflat_cell T_Rec.ilen hv4 rfl) (.fl _ _ rfl)),
         st_plain rfl (op_len_fl _ _ _ Try.underlying41 rfl (by decide) (map_len _)),
         st_plain rfl (op_bin _ _ _ _ _ rfl rfl rfl),
         st_plain rfl (op_move _ _ _ _ (congrArg (fun b => AV.v (Value.bool b)) hg6_7) rfl),
         st_run 7 20 false rfl rfl rfl (List.Mem.head _) (op_move _ _ _ _ rfl rfl),
         st_run 7 20 false rfl rfl rfl (List.Mem.head _) (op_move _ _ _ _ rfl rfl),
         st_run 7 20 false rfl rfl rfl (List.Mem.head _) (op_ix_fr _ _ _ _ _ _ _ _ Try.underlying31 sz46 (by decide) rfl rfl rfl (ix_ok hv5).1 (gflat_lt T_Rec.ilen (ix_ok hv5).2) rfl),
         st_run 7 20 false rfl rfl rfl (List.Mem.head _) (op_fieldAddr_e _ _ _ _ _ _ _ Try.underlying46 rfl sz44 rfl rfl rfl),
         st_run 7 20 false rfl rfl rfl (List.Mem.head _) (op_load_fr _ _ _ _ _ _ _ Try.underlying44 rfl rfl rfl (gflat_cell T_Rec.ilen hv6 rfl) (.fl _ _ rfl)),
         st_run 7 20 false rfl rfl rfl (List.Mem.head _) (op_len_fl _ _ _ Try.underlying44 rfl (by decide) (map_len _)),
         st_run 7 20 false rfl rfl rfl (List.Mem.head _) (op_bin _ _ _ _ _ rfl rfl rfl),
         st_plain rfl (op_pick _ _ false _ rfl rfl),
         st_plain rfl (op_move _ _ _ _ (congrArg (fun b => AV.v (Value.bool b)) hg6_16) rfl),
         st_skip 16 29 _ false rfl rfl rfl rfl (List.Mem.head _),
         st_skip 16 29 _ false rfl rfl rfl rfl (List.Mem.head _),
         st_skip 16 29 _ false rfl rfl rfl rfl (List.Mem.head _),
         st_skip 16 29 _ false rfl rfl rfl rfl (List.Mem.head _),
         st_skip 16 29 _ false rfl rfl rfl rfl (List.Mem.head _),
         st_skip 16 29 _ false rfl rfl rfl rfl (List.Mem.head _),
         st_skip 16 29 _ false rfl rfl rfl rfl (List.Mem.head _),
         st_plain rfl (op_pick _ _ true _ rfl rfl),
         trivial⟩ ?_
        exact hl39 _ (Option.some.inj h).symm
       ·obtain ⟨v7, hv7, h⟩ := bind_some h
        obtain ⟨v8, hv8, h⟩ := bind_some h
        obtain ⟨v9, hv9, h⟩ := bind_some h
        refine ht_seqR hn (El := (_ :: _ :: _ :: (13, .fr .shr true 15 (List.flatten (List.map T_Rec.ienc l))) :: (14, .v (.int .i64 s23)) :: (15, .eref (.slot 13) (v3 * 15)) :: (16, .eref (.slot 13) (v3 * 15 + 14)) :: (17, .fl .shr 1 (List.map (Value.int .u8) v4.Data)) :: (18, .v (.int .i64 (v4.Data.length : Int))) :: (19, .v (.bool ((decide (600 < (v4.Data.length : Int)))))) :: (20, .v (.bool false)) :: (21, .fr .shr true 15 (List.flatten (List.map T_Rec.ienc l))) :: (22, .v (.int .i64 s23)) :: (23, .eref (.slot 21) (v5 * 15)) :: (24, .eref (.slot 21) (v5 * 15 + 10)) :: (25, .fl .shr 1 (List.map (Value.int .i64) v6.Ids)) :: (26, .v (.int .i64 (v6.Ids.length : Int))) :: (27, .v (.bool ((decide (60 < (v6.Ids.length : Int)))))) :: (28, .v (.bool ((decide (60 < (v6.Ids.length : Int)))))) :: (29, .v (.bool false)) :: (30, .fr .shr true 15 (List.flatten (List.map T_Rec.ienc l))) :: (31, .v (.int .i64 s23)) :: (32, .eref (.slot 30) (v7 * 15)) :: (33, .eref (.slot 30) (v7 * 15 + 1)) :: (34, .agg [.v (.bool v8.Mail.From.Null), .v (.string v8.Mail.From.Local), .v (.string v8.Mail.From.Domain), .fl .shr 3 (List.flatten (List.map T_Path.enc v8.Mail.To)), .fl .shr 1 (List.map (Value.int .u8) v8.Mail.Body), .v (.bool v8.Mail.Quiet), .v (.string v8.Mail.Helo), .v (.int .i64 v8.Mail.At)]) :: (35, .fr (.own 43) true 8 (List.flatten (List.map T_Mail.ienc [(T_Mail.mk (T_Path.mk v8.Mail.From.Null v8.Mail.From.Local v8.Mail.From.Domain) v8.Mail.To v8.Mail.Body v8.Mail.Quiet v8.Mail.Helo v8.Mail.At)]))) :: (36, .v (.bool v9)) :: (37, .v (.bool v9)) :: [])) (init := [0, 1, 2]) (fin := [0, 1, 27]) (sps := (⟨[0], [], [3], [(.slot 13)]⟩ :: ⟨[1], [], [4], [(.slot 14)]⟩ :: ⟨[3, 4], [], [5], [(.slot 15)]⟩ :: ⟨[5, 3], [], [6], [(.slot 16)]⟩ :: ⟨[6, 3], [], [7], [(.slot 17)]⟩ :: ⟨[7], [], [8], [(.slot 18)]⟩ :: ⟨[8], [], [9], [(.slot 19)]⟩ :: ⟨[9], [], [10], [(.slot 20)]⟩ :: ⟨[10, 0], [], [11], [(.slot 21)]⟩ :: ⟨[10, 1], [], [12], [(.slot 22)]⟩ :: ⟨[10, 11, 12], [], [13], [(.slot 23)]⟩ :: ⟨[10, 13, 11], [], [14], [(.slot 24)]⟩ :: ⟨[10, 14, 11], [], [15], [(.slot 25)]⟩ :: ⟨[10, 15], [], [16], [(.slot 26)]⟩ :: ⟨[10, 16], [], [17], [(.slot 27)]⟩ :: ⟨[10, 17], [], [18], [(.slot 28)]⟩ :: ⟨[18], [], [19], [(.slot 29)]⟩ :: ⟨[19, 0], [], [20], [(.slot 30)]⟩ :: ⟨[19, 1], [], [21], [(.slot 31)]⟩ :: ⟨[19, 20, 21], [], [22], [(.slot 32)]⟩ :: ⟨[19, 22, 20], [], [23], [(.slot 33)]⟩ :: ⟨[19, 23, 20], [], [24], [(.slot 34)]⟩ :: ⟨[19, 24], [], [25], [(.slot 35)]⟩ :: ⟨[19, 25], [], [26], [(.slot 36)]⟩ :: ⟨[19, 26], [], [27], [(.slot 37)]⟩ :: [])) (es' := [(_, _), (_, _), (37, .v (.bool v9))]) (by kernel_rfl) rfl rfl
         ⟨st_plain rfl (op_move _ _ _ _ rfl rfl),
         st_plain rfl (op_move _ _ _ _ rfl rfl),
         st_plain rfl (op_ix_fr _ _ _ _ _ _ _ _ Try.underlying31 sz46 (by decide) rfl rfl rfl (ix_ok hv3).1 (gflat_lt T_Rec.ilen (ix_ok hv3).2) rfl),
         st_plain rfl (op_fieldAddr_e _ _ _ _ _ _ _ Try.underlying46 rfl sz41 rfl rfl rfl),
         st_plain rfl (op_load_fr _ _ _ _ _ _ _ Try.underlying41 rfl rfl rfl (gflat_cell T_Rec.ilen hv4 rfl) (.fl _ _ rfl)),
         st_plain rfl (op_len_fl _ _ _ Try.underlying41 rfl (by decide) (map_len _)),
         st_plain rfl (op_bin _ _ _ _ _ rfl rfl rfl),
         st_plain rfl (op_move _ _ _ _ (congrArg (fun b => AV.v (Value.bool b)) hg6_7) rfl),
         st_run 7 20 false rfl rfl rfl (List.Mem.head _) (op_move _ _ _ _ rfl rfl),
         st_run 7 20 false rfl rfl rfl (List.Mem.head _) (op_move _ _ _ _ rfl rfl),
         st_run 7 20 false rfl rfl rfl (List.Mem.head _) (op_ix_fr _ _ _ _ _ _ _ _ Try.underlying31 sz46 (by decide) rfl rfl rfl (ix_ok hv5).1 (gflat_lt T_Rec.ilen (ix_ok hv5).2) rfl),
         st_run 7 20 false rfl rfl rfl (List.Mem.head _) (op_fieldAddr_e _ _ _ _ _ _ _ Try.underlying46 rfl sz44 rfl rfl rfl),
         st_run 7 20 false rfl rfl rfl (List.Mem.head _) (op_load_fr _ _ _ _ _ _ _ Try.underlying44 rfl rfl rfl (gflat_cell T_Rec.ilen hv6 rfl) (.fl _ _ rfl)),
         st_run 7 20 false rfl rfl rfl (List.Mem.head _) (op_len_fl _ _ _ Try.underlying44 rfl (by decide) (map_len _)),
         st_run 7 20 false rfl rfl rfl (List.Mem.head _) (op_bin _ _ _ _ _ rfl rfl rfl),
         st_plain rfl (op_pick _ _ false _ rfl rfl),
         st_plain rfl (op_move _ _ _ _ (congrArg (fun b => AV.v (Value.bool b)) hg6_16) rfl),
         st_run 16 29 false rfl rfl rfl (List.Mem.head _) (op_move _ _ _ _ rfl rfl),
         st_run 16 29 false rfl rfl rfl (List.Mem.head _) (op_move _ _ _ _ rfl rfl),
         st_run 16 29 false rfl rfl rfl (List.Mem.head _) (op_ix_fr _ _ _ _ _ _ _ _ Try.underlying31 sz46 (by decide) rfl rfl rfl (ix_ok hv7).1 (gflat_lt T_Rec.ilen (ix_ok hv7).2) rfl),
         st_run 16 29 false rfl rfl rfl (List.Mem.head _) (op_fieldAddr_e _ _ _ _ _ _ _ Try.underlying46 rfl sz43 rfl rfl rfl),
         st_run 16 29 false rfl rfl rfl (List.Mem.head _) (op_loadA_fr _ _ _ _ _ _ _ _ Try.underlying43 rfl sz43 rfl rfl (gflat_seg T_Rec.ilen hv8 (Nat.le_of_ble_eq_true rfl) rfl) (.cons (.v _) (.cons (.v _) (.cons (.v _) (.cons (.fl _ _ rfl) (.cons (.fl _ _ rfl) (.cons (.v _) (.cons (.v _) (.cons (.v _) (.nil))))))))) rfl (by decide)),
         st_run 16 29 false rfl rfl rfl (List.Mem.head _) (op_build1_fr _ _ _ 8 (.agg #[.bool false, .string ByteArray.empty, .string ByteArray.empty, .slice none 0 0, .slice none 0 0, .bool false, .string ByteArray.empty, .int .i64 0]) true _ _ Try.underlying69 sz43 zr43 rfl rfl (.cons (.v _) (.cons (.v _) (.cons (.v _) (.cons (.shr _ _ rfl rfl) (.cons (.shr _ _ rfl rfl) (.cons (.v _) (.cons (.v _) (.cons (.v _) (.nil))))))))) rfl (by decide) (by decide)),
         st_run 16 29 false rfl rfl rfl (List.Mem.head _) (op_call _ _ 39 _ _ rfl Try.call39 rfl (ok_wherrylaw17_Heavy [(T_Mail.mk (T_Path.mk v8.Mail.From.Null v8.Mail.From.Local v8.Mail.From.Domain) v8.Mail.To v8.Mail.Body v8.Mail.Quiet v8.Mail.Helo v8.Mail.At)] _ hv9) rfl rfl),
         st_plain rfl (op_pick _ _ false _ rfl rfl),
         trivial⟩ ?_
        exact hl39 _ (Option.some.inj h).symm
    ·have h := cond_f hb36 h
     refine ht_exit ?_
     refine pt_x_then ?_
     refine pt_x_then ?_
     refine pt_x_in ?_
     refine pt_pick [] (by kernel_rfl) (es' := []) rfl ?_
     exact hl31 _ (ho33 _ (Option.some.inj h).symm).symm

set_option maxHeartbeats 1000000 in
theorem ok_diary_New (limit : Int) (r : ((Option T_diary_Diary) × Int)) (h : Sh.diary_New limit = some r) : FnOK Try.prog 10 [.v (.int .i64 limit)] (.tup [.obox (Option.isSome r.1) 64 [.v (.int .i64 (((Option.getD r.1 (default : T_diary_Diary))).limit)), .fr (.own 46) false 15 (List.flatten (List.map T_Rec.ienc (((Option.getD r.1 (default : T_diary_Diary))).recs))), .v (.int .i64 (((Option.getD r.1 (default : T_diary_Diary))).used)), .v (.int .i64 (((Option.getD r.1 (default : T_diary_Diary))).safe)), .v (.int .i64 (((Option.getD r.1 (default : T_diary_Diary))).kept)), .v (.int .i64 (((Option.getD r.1 (default : T_diary_Diary))).life)), .v (.bool (((Option.getD r.1 (default : T_diary_Diary))).off)), .v (.int .i64 (((Option.getD r.1 (default : T_diary_Diary))).trip)), .v (.int .i64 (((Option.getD r.1 (default : T_diary_Diary))).tripKeep))], .v (.int .i64 r.2)]) := by
  unfold Sh.diary_New at h
  refine fn_ok Try.func10 rfl (Nat.le_of_ble_eq_true rfl) rfl rfl fun g0 hn hio => ?_
  refine ht_seq ?_
  refine ht_seqR hn (El := [_, (2, .v (.pointer none)), (3, .v (.int .i64 0))]) (init := [0]) (fin := [0]) (sps := [⟨[], [], [1], [(.slot 2)]⟩, ⟨[], [], [2], [(.slot 3)]⟩]) (es' := [(_, _)]) (by kernel_rfl) rfl rfl
   ⟨st_plain rfl (op_assign _ _ _ _ rfl rfl),
   st_plain rfl (op_assign _ _ _ _ rfl rfl),
   trivial⟩ ?_
  refine pt_then ?_
  refine ht_seq ?_
  refine ht_seq ?_
  refine ht_joinS h (fun (s1 : Bool) => [(0, .v (.int .i64 limit)), (9, .v (.bool s1))]) ?_ ?_
  ·rintro s1 h
   refine pt_then ?_
   refine ht_cond _ rfl (fun hb5 => ?_) (fun hb5 => ?_)
   ·have h := cond_t hb5 h
    refine ht_seq ?_
    refine ht_seqR hn (El := [_, _, (2, .v (.pointer none)), (3, .v (.int .i64 1))]) (init := [0, 1]) (fin := [2, 3]) (sps := [⟨[], [], [2], [(.slot 2)]⟩, ⟨[], [], [3], [(.slot 3)]⟩]) (es' := [(2, .v (.pointer none)), (3, .v (.int .i64 1))]) (by kernel_rfl) rfl rfl
     ⟨st_plain rfl (op_assign _ _ _ _ rfl rfl),
     st_plain rfl (op_assign _ _ _ _ rfl rfl),
     trivial⟩ ?_
    refine pt_then ?_
    refine ht_ret ?_
    refine pt_sub (fs := [(2, .obox false 64 [.v (.int .i64 ((default : T_diary_Diary).limit)), .fr (.own 46) false 15 (List.flatten (List.map T_Rec.ienc ((default : T_diary_Diary).recs))), .v (.int .i64 ((default : T_diary_Diary).used)), .v (.int .i64 ((default : T_diary_Diary).safe)), .v (.int .i64 ((default : T_diary_Diary).kept)), .v (.int .i64 ((default : T_diary_Diary).life)), .v (.bool ((default : T_diary_Diary).off)), .v (.int .i64 ((default : T_diary_Diary).trip)), .v (.int .i64 ((default : T_diary_Diary).tripKeep))]), (3, .v (.int .i64 1))]) (.sub _ (sub_ob_nil 64 [.v (.int .i64 ((default : T_diary_Diary).limit)), .fr (.own 46) false 15 (List.flatten (List.map T_Rec.ienc ((default : T_diary_Diary).recs))), .v (.int .i64 ((default : T_diary_Diary).used)), .v (.int .i64 ((default : T_diary_Diary).safe)), .v (.int .i64 ((default : T_diary_Diary).kept)), .v (.int .i64 ((default : T_diary_Diary).life)), .v (.bool ((default : T_diary_Diary).off)), .v (.int .i64 ((default : T_diary_Diary).trip)), .v (.int .i64 ((default : T_diary_Diary).tripKeep))]) rfl (.same _ .nil)) ?_
    refine pt_r_then ?_
    obtain rfl := Option.some.inj h
    exact pt_ret hio rfl (.tmp _ _ (.tmp _ _ .nil)) rfl rfl
   ·have h := cond_f hb5 h
    refine ht_skip ?_
    refine pt_then ?_
    refine ht_seq ?_
    refine ht_seqR hn (El := [_, _, (10, .v (.int .i64 limit)), (11, .agg [.v (.int .i64 limit), .v (.slice none 0 0), .v (.int .i64 0), .v (.int .i64 0), .v (.int .i64 0), .v (.int .i64 0), .v (.bool false), .v (.int .i64 0), .v (.int .i64 0)]), (12, .box 64 [.v (.int .i64 limit), .v (.slice none 0 0), .v (.int .i64 0), .v (.int .i64 0), .v (.int .i64 0), .v (.int .i64 0), .v (.bool false), .v (.int .i64 0), .v (.int .i64 0)]), (2, .box 64 [.v (.int .i64 limit), .v (.slice none 0 0), .v (.int .i64 0), .v (.int .i64 0), .v (.int .i64 0), .v (.int .i64 0), .v (.bool false), .v (.int .i64 0), .v (.int .i64 0)]), (3, .v (.int .i64 0))]) (init := [0, 1]) (fin := [5, 6]) (sps := [⟨[0], [], [2], [(.slot 10)]⟩, ⟨[2], [], [3], [(.slot 11)]⟩, ⟨[3], [], [4], [(.slot 12)]⟩, ⟨[], [4], [5], [(.slot 2)]⟩, ⟨[], [], [6], [(.slot 3)]⟩]) (es' := [(2, .box 64 [.v (.int .i64 limit), .v (.slice none 0 0), .v (.int .i64 0), .v (.int .i64 0), .v (.int .i64 0), .v (.int .i64 0), .v (.bool false), .v (.int .i64 0), .v (.int .i64 0)]), (3, .v (.int .i64 0))]) (by kernel_rfl) rfl rfl
     ⟨st_plain rfl (op_move _ _ _ _ rfl rfl),
     st_plain rfl (op_build _ _ _ _ [1, 1, 1, 1, 1, 1, 1, 1, 1] _ _ Try.underlying64 zr64 (fs64 _ Try.underlying64) (.copy _ Src.nil) rfl rfl rfl),
     st_plain rfl (op_box _ _ _ _ rfl rfl rfl),
     st_plain rfl (op_assign_take _ _ _ _ rfl),
     st_plain rfl (op_assign _ _ _ _ rfl rfl),
     trivial⟩ ?_
    refine pt_then ?_
    refine ht_ret ?_
    refine pt_sub (fs := [(2, .obox true 64 [.v (.int .i64 limit), .fr (.own 46) false 15 (List.flatten (List.map T_Rec.ienc [])), .v (.int .i64 0), .v (.int .i64 0), .v (.int .i64 0), .v (.int .i64 0), .v (.bool false), .v (.int .i64 0), .v (.int .i64 0)]), (3, .v (.int .i64 0))]) (.sub _ (sub_ob_box 64 (subs_cons (sub_refl _) (subs_cons (sub_nil_fr 46 false 15) (subs_cons (sub_refl _) (subs_cons (sub_refl _) (subs_cons (sub_refl _) (subs_cons (sub_refl _) (subs_cons (sub_refl _) (subs_cons (sub_refl _) (subs_cons (sub_refl _) (subs_nil))))))))))) rfl (.same _ .nil)) ?_
    obtain rfl := Option.some.inj h
    exact pt_ret hio rfl (.tmp _ _ (.tmp _ _ .nil)) rfl rfl
  ·intro u2 h hl3 hr4
   refine cond_some h (fun hg1_2 h => ?_) (fun hg1_2 h => ?_)
   ·refine ht_seqR hn (El := [_, (4, .v (.int .i64 limit)), (5, .v (.bool ((decide (limit < 1))))), (6, .v (.bool true)), (7, .v undef), (8, .v undef), (9, .v (.bool true))]) (init := [0]) (fin := [0, 6]) (sps := [⟨[0], [], [1], [(.slot 4)]⟩, ⟨[1], [], [2], [(.slot 5)]⟩, ⟨[2], [], [3], [(.slot 6)]⟩, ⟨[3], [], [4], [(.slot 7)]⟩, ⟨[3], [], [5], [(.slot 8)]⟩, ⟨[3], [], [6], [(.slot 9)]⟩]) (es' := [(_, _), (9, .v (.bool true))]) (by kernel_rfl) rfl rfl
     ⟨st_plain rfl (op_move _ _ _ _ rfl rfl),
     st_plain rfl (op_bin _ _ _ _ _ rfl rfl rfl),
     st_plain rfl (op_move _ _ _ _ (congrArg (fun b => AV.v (Value.bool b)) hg1_2) rfl),
     st_skip 2 6 _ false rfl rfl rfl rfl (List.Mem.head _),
     st_skip 2 6 _ false rfl rfl rfl rfl (List.Mem.head _),
     st_plain rfl (op_pick _ _ true _ rfl rfl),
     trivial⟩ ?_
    exact hl3 _ (Option.some.inj h).symm
   ·refine ht_seqR hn (El := [_, (4, .v (.int .i64 limit)), (5, .v (.bool ((decide (limit < 1))))), (6, .v (.bool false)), (7, .v (.int .i64 limit)), (8, .v (.bool ((decide (131072 < limit))))), (9, .v (.bool ((decide (131072 < limit)))))]) (init := [0]) (fin := [0, 6]) (sps := [⟨[0], [], [1], [(.slot 4)]⟩, ⟨[1], [], [2], [(.slot 5)]⟩, ⟨[2], [], [3], [(.slot 6)]⟩, ⟨[3, 0], [], [4], [(.slot 7)]⟩, ⟨[3, 4], [], [5], [(.slot 8)]⟩, ⟨[3, 5], [], [6], [(.slot 9)]⟩]) (es' := [(_, _), (9, .v (.bool ((decide (131072 < limit)))))]) (by kernel_rfl) rfl rfl
     ⟨st_plain rfl (op_move _ _ _ _ rfl rfl),
     st_plain rfl (op_bin _ _ _ _ _ rfl rfl rfl),
     st_plain rfl (op_move _ _ _ _ (congrArg (fun b => AV.v (Value.bool b)) hg1_2) rfl),
     st_run 2 6 false rfl rfl rfl (List.Mem.head _) (op_move _ _ _ _ rfl rfl),
     st_run 2 6 false rfl rfl rfl (List.Mem.head _) (op_bin _ _ _ _ _ rfl rfl rfl),
     st_plain rfl (op_pick _ _ false _ rfl rfl),
     trivial⟩ ?_
    exact hl3 _ (Option.some.inj h).symm

set_option maxHeartbeats 1000000 in
theorem ok_diary_Diary_Trip (d : T_diary_Diary) (n : Int) (keep : Int) (r : T_diary_Diary) (h : Sh.diary_Diary_Trip d n keep = some r) : FnP Try.prog 23 [.box 64 [.v (.int .i64 d.limit), .fr (.own 46) false 15 (List.flatten (List.map T_Rec.ienc d.recs)), .v (.int .i64 d.used), .v (.int .i64 d.safe), .v (.int .i64 d.kept), .v (.int .i64 d.life), .v (.bool d.off), .v (.int .i64 d.trip), .v (.int .i64 d.tripKeep)], .v (.int .i64 n), .v (.int .i64 keep)] [.box 64 [.v (.int .i64 r.limit), .fr (.own 46) false 15 (List.flatten (List.map T_Rec.ienc r.recs)), .v (.int .i64 r.used), .v (.int .i64 r.safe), .v (.int .i64 r.kept), .v (.int .i64 r.life), .v (.bool r.off), .v (.int .i64 r.trip), .v (.int .i64 r.tripKeep)]] (.tup []) := by
  unfold Sh.diary_Diary_Trip at h
  refine fn_okP Try.func23 rfl (Nat.le_of_ble_eq_true rfl) rfl (Nat.le_of_ble_eq_true rfl) fun args0 hargs0 g0 hn hio => ?_
  refine ht_seq ?_
  obtain ⟨v1, hv1, h⟩ := bind_some h
  refine ht_seqR hn (El := [_, _, _, _, (6, .ptr 0 0), (7, .v (.int .i64 n)), (8, .v (.int .i64 v1)), (9, .ptr 0 0), (10, .ptr 0 7), (0, .box 64 [.v (.int .i64 d.limit), .fr (.own 46) false 15 (List.flatten (List.map T_Rec.ienc d.recs)), .v (.int .i64 d.used), .v (.int .i64 d.safe), .v (.int .i64 d.kept), .v (.int .i64 d.life), .v (.bool d.off), .v (.int .i64 v1), .v (.int .i64 d.tripKeep)])]) (init := [0, 1, 2, 3]) (fin := [9, 2, 3]) (sps := [⟨[0], [], [4], [(.slot 6)]⟩, ⟨[1], [], [5], [(.slot 7)]⟩, ⟨[5], [], [6], [(.slot 8)]⟩, ⟨[4, 0], [], [7], [(.slot 9)]⟩, ⟨[7, 0], [], [8], [(.slot 10)]⟩, ⟨[8, 6], [0], [9], [.cell 0 7]⟩]) (es' := [(0, .box 64 [.v (.int .i64 d.limit), .fr (.own 46) false 15 (List.flatten (List.map T_Rec.ienc d.recs)), .v (.int .i64 d.used), .v (.int .i64 d.safe), .v (.int .i64 d.kept), .v (.int .i64 d.life), .v (.bool d.off), .v (.int .i64 v1), .v (.int .i64 d.tripKeep)]), (_, _), (_, _)]) (by kernel_rfl) rfl rfl
   ⟨st_plain rfl (op_move _ _ _ _ rfl rfl),
   st_plain rfl (op_move _ _ _ _ rfl rfl),
   st_plain rfl ((Option.some.inj hv1) ▸ op_max _ _ _ _ rfl rfl),
   st_plain rfl (op_nilCheck _ _ _ 0 0 rfl (by decide)),
   st_plain rfl (op_fieldAddr _ _ _ _ 0 0 _ Try.underlying64 rfl sz3 rfl rfl (by decide)),
   st_plain rfl (op_store _ _ _ _ _ _ _ _ sz3 rfl rfl rfl rfl (Nat.le_of_ble_eq_true rfl) rfl rfl),
   trivial⟩ ?_
  refine pt_then ?_
  refine ht_seqR hn (El := [_, _, _, (11, .ptr 0 0), (12, .v (.int .i64 keep)), (13, .ptr 0 0), (14, .ptr 0 8), (0, .box 64 [.v (.int .i64 d.limit), .fr (.own 46) false 15 (List.flatten (List.map T_Rec.ienc d.recs)), .v (.int .i64 d.used), .v (.int .i64 d.safe), .v (.int .i64 d.kept), .v (.int .i64 d.life), .v (.bool d.off), .v (.int .i64 v1), .v (.int .i64 keep)])]) (init := [0, 1, 2]) (fin := [7, 2]) (sps := [⟨[0], [], [3], [(.slot 11)]⟩, ⟨[1], [], [4], [(.slot 12)]⟩, ⟨[3, 0], [], [5], [(.slot 13)]⟩, ⟨[5, 0], [], [6], [(.slot 14)]⟩, ⟨[6, 4], [0], [7], [.cell 0 8]⟩]) (es' := [(0, .box 64 [.v (.int .i64 d.limit), .fr (.own 46) false 15 (List.flatten (List.map T_Rec.ienc d.recs)), .v (.int .i64 d.used), .v (.int .i64 d.safe), .v (.int .i64 d.kept), .v (.int .i64 d.life), .v (.bool d.off), .v (.int .i64 v1), .v (.int .i64 keep)]), (_, _)]) (by kernel_rfl) rfl rfl
   ⟨st_plain rfl (op_move _ _ _ _ rfl rfl),
   st_plain rfl (op_move _ _ _ _ rfl rfl),
   st_plain rfl (op_nilCheck _ _ _ 0 0 rfl (by decide)),
   st_plain rfl (op_fieldAddr _ _ _ _ 0 0 _ Try.underlying64 rfl sz3 rfl rfl (by decide)),
   st_plain rfl (op_store _ _ _ _ _ _ _ _ sz3 rfl rfl rfl rfl (Nat.le_of_ble_eq_true rfl) rfl rfl),
   trivial⟩ ?_
  obtain rfl := Option.some.inj h
  exact pt_endP (es := []) (posts := [.box 64 [.v (.int .i64 d.limit), .fr (.own 46) false 15 (List.flatten (List.map T_Rec.ienc d.recs)), .v (.int .i64 d.used), .v (.int .i64 d.safe), .v (.int .i64 d.kept), .v (.int .i64 d.life), .v (.bool d.off), .v (.int .i64 v1), .v (.int .i64 keep)]]) hio rfl rfl .nil rfl rfl hargs0 rfl

set_option maxHeartbeats 1000000 in
theorem ok_diary_Room (p_r : T_Rec) (r : Int) (h : Sh.diary_Room p_r = some r) : FnOK Try.prog 33 [.agg [.v (.int .i64 p_r.Kind), .v (.bool p_r.Mail.From.Null), .v (.string p_r.Mail.From.Local), .v (.string p_r.Mail.From.Domain), .fl .shr 3 (List.flatten (List.map T_Path.enc p_r.Mail.To)), .fl .shr 1 (List.map (Value.int .u8) p_r.Mail.Body), .v (.bool p_r.Mail.Quiet), .v (.string p_r.Mail.Helo), .v (.int .i64 p_r.Mail.At), .v (.int .i64 p_r.Id), .fl .shr 1 (List.map (Value.int .i64) p_r.Ids), .v (.int .i64 p_r.Origin), .v (.int .i64 p_r.Number), .v (.int .i64 p_r.Offset), .fl .shr 1 (List.map (Value.int .u8) p_r.Data)]] (.v (.int .i64 r)) := by
  unfold Sh.diary_Room at h
  refine fn_ok Try.func33 rfl (Nat.le_of_ble_eq_true rfl) rfl rfl fun g0 hn hio => ?_
  refine ht_seq ?_
  refine ht_seqR hn (El := [_, (1, .box 46 [.v (.int .i64 p_r.Kind), .v (.bool p_r.Mail.From.Null), .v (.string p_r.Mail.From.Local), .v (.string p_r.Mail.From.Domain), .fl .shr 3 (List.flatten (List.map T_Path.enc p_r.Mail.To)), .fl .shr 1 (List.map (Value.int .u8) p_r.Mail.Body), .v (.bool p_r.Mail.Quiet), .v (.string p_r.Mail.Helo), .v (.int .i64 p_r.Mail.At), .v (.int .i64 p_r.Id), .fl .shr 1 (List.map (Value.int .i64) p_r.Ids), .v (.int .i64 p_r.Origin), .v (.int .i64 p_r.Number), .v (.int .i64 p_r.Offset), .fl .shr 1 (List.map (Value.int .u8) p_r.Data)]), (2, .v (.int .i64 0))]) (init := [0]) (fin := [1]) (sps := [⟨[0], [], [1], [(.slot 1)]⟩, ⟨[], [], [2], [(.slot 2)]⟩]) (es' := [(1, .box 46 [.v (.int .i64 p_r.Kind), .v (.bool p_r.Mail.From.Null), .v (.string p_r.Mail.From.Local), .v (.string p_r.Mail.From.Domain), .fl .shr 3 (List.flatten (List.map T_Path.enc p_r.Mail.To)), .fl .shr 1 (List.map (Value.int .u8) p_r.Mail.Body), .v (.bool p_r.Mail.Quiet), .v (.string p_r.Mail.Helo), .v (.int .i64 p_r.Mail.At), .v (.int .i64 p_r.Id), .fl .shr 1 (List.map (Value.int .i64) p_r.Ids), .v (.int .i64 p_r.Origin), .v (.int .i64 p_r.Number), .v (.int .i64 p_r.Offset), .fl .shr 1 (List.map (Value.int .u8) p_r.Data)])]) (by kernel_rfl) rfl rfl
   ⟨st_plain rfl (op_box _ _ _ _ rfl rfl rfl),
   st_plain rfl (op_assign _ _ _ _ rfl rfl),
   trivial⟩ ?_
  refine pt_then ?_
  refine ht_seq ?_
  obtain ⟨v1, hv1, h⟩ := bind_some h
  obtain ⟨v2, hv2, h⟩ := bind_some h
  refine ht_seqR hn (El := (_ :: (5, .ptr 1 14) :: (6, .fl .shr 1 (List.map (Value.int .u8) p_r.Data)) :: (7, .v (.int .i64 (p_r.Data.length : Int))) :: (8, .ptr 1 1) :: (9, .ptr 1 5) :: (10, .fl .shr 1 (List.map (Value.int .u8) p_r.Mail.Body)) :: (11, .v (.int .i64 (p_r.Mail.Body.length : Int))) :: (12, .v (.int .i64 v1)) :: (13, .ptr 1 1) :: (14, .ptr 1 7) :: (15, .v (.string p_r.Mail.Helo)) :: (16, .v (.int .i64 (p_r.Mail.Helo.size : Int))) :: (17, .v (.int .i64 v2)) :: (3, .v (.int .i64 v2)) :: [])) (init := [0]) (fin := [0, 14]) (sps := [⟨[0], [], [1], [(.slot 5)]⟩, ⟨[1, 0], [], [2], [(.slot 6)]⟩, ⟨[2], [], [3], [(.slot 7)]⟩, ⟨[0], [], [4], [(.slot 8)]⟩, ⟨[4, 0], [], [5], [(.slot 9)]⟩, ⟨[5, 0], [], [6], [(.slot 10)]⟩, ⟨[6], [], [7], [(.slot 11)]⟩, ⟨[3, 7], [], [8], [(.slot 12)]⟩, ⟨[0], [], [9], [(.slot 13)]⟩, ⟨[9, 0], [], [10], [(.slot 14)]⟩, ⟨[10, 0], [], [11], [(.slot 15)]⟩, ⟨[11], [], [12], [(.slot 16)]⟩, ⟨[8, 12], [], [13], [(.slot 17)]⟩, ⟨[13], [], [14], [(.slot 3)]⟩]) (es' := [(_, _), (3, .v (.int .i64 v2))]) (by kernel_rfl) rfl rfl
   ⟨st_plain rfl (op_fieldAddr _ _ _ _ 1 0 _ Try.underlying46 rfl sz41 rfl rfl (by decide)),
   st_plain rfl (op_load _ _ _ _ _ _ Try.underlying41 rfl rfl rfl (Nat.le_of_ble_eq_true rfl) rfl rfl rfl),
   st_plain rfl (op_len_fl _ _ _ Try.underlying41 rfl (by decide) (map_len _)),
   st_plain rfl (op_fieldAddr _ _ _ _ 1 0 _ Try.underlying46 rfl sz43 rfl rfl (by decide)),
   st_plain rfl (op_fieldAddr _ _ _ _ 1 1 _ Try.underlying43 rfl sz41 rfl rfl (by decide)),
   st_plain rfl (op_load _ _ _ _ _ _ Try.underlying41 rfl rfl rfl (Nat.le_of_ble_eq_true rfl) rfl rfl rfl),
   st_plain rfl (op_len_fl _ _ _ Try.underlying41 rfl (by decide) (map_len _)),
   st_plain rfl (op_bin _ _ _ _ _ rfl rfl (ibind (f := Value.int .i64) (Option.some.inj hv1))),
   st_plain rfl (op_fieldAddr _ _ _ _ 1 0 _ Try.underlying46 rfl sz43 rfl rfl (by decide)),
   st_plain rfl (op_fieldAddr _ _ _ _ 1 1 _ Try.underlying43 rfl sz9 rfl rfl (by decide)),
   st_plain rfl (op_load _ _ _ _ _ _ Try.underlying9 rfl rfl rfl (Nat.le_of_ble_eq_true rfl) rfl rfl rfl),
   st_plain rfl (op_len_str _ _ _ Try.underlying9 rfl),
   st_plain rfl (op_bin _ _ _ _ _ rfl rfl (ibind (f := Value.int .i64) (Option.some.inj hv2))),
   st_plain rfl (op_assign _ _ _ _ rfl rfl),
   trivial⟩ ?_
  refine pt_then ?_
  refine ht_seq ?_
  obtain ⟨v3, hv3, h⟩ := bind_some h
  refine ht_seqR hn (El := [_, _, (18, .ptr 1 1), (19, .ptr 1 4), (20, .fl .shr 3 (List.flatten (List.map T_Path.enc p_r.Mail.To))), (21, .v (.int .i64 (p_r.Mail.To.length : Int))), (22, .v (.int .i64 v3)), (4, .v (.int .i64 v3))]) (init := [0, 1]) (fin := [0, 1, 7]) (sps := [⟨[0], [], [2], [(.slot 18)]⟩, ⟨[2, 0], [], [3], [(.slot 19)]⟩, ⟨[3, 0], [], [4], [(.slot 20)]⟩, ⟨[4], [], [5], [(.slot 21)]⟩, ⟨[5], [], [6], [(.slot 22)]⟩, ⟨[6], [], [7], [(.slot 4)]⟩]) (es' := [(_, _), (_, _), (4, .v (.int .i64 v3))]) (by kernel_rfl) rfl rfl
   ⟨st_plain rfl (op_fieldAddr _ _ _ _ 1 0 _ Try.underlying46 rfl sz43 rfl rfl (by decide)),
   st_plain rfl (op_fieldAddr _ _ _ _ 1 1 _ Try.underlying43 rfl sz40 rfl rfl (by decide)),
   st_plain rfl (op_load _ _ _ _ _ _ Try.underlying40 rfl rfl rfl (Nat.le_of_ble_eq_true rfl) rfl rfl rfl),
   st_plain rfl (op_len_fl _ _ _ Try.underlying40 rfl (by decide) (flat_len T_Path.len _)),
   st_plain rfl (op_bin _ _ _ _ _ rfl rfl (ibind (f := Value.int .i64) (Option.some.inj hv3))),
   st_plain rfl (op_assign _ _ _ _ rfl rfl),
   trivial⟩ ?_
  refine pt_then ?_
  refine ht_seq ?_
  obtain ⟨v4, hv4, h⟩ := bind_some h
  obtain ⟨v5, hv5, h⟩ := bind_some h
  obtain ⟨v6, hv6, h⟩ := bind_some h
  obtain ⟨v7, hv7, h⟩ := bind_some h
  obtain ⟨v8, hv8, h⟩ := bind_some h
  refine ht_seqR hn (El := [_, _, _, (23, .v (.int .i64 v2)), (24, .v (.int .i64 v4)), (25, .v (.int .i64 v3)), (26, .v (.int .i64 v5)), (27, .v (.int .i64 v6)), (28, .ptr 1 10), (29, .fl .shr 1 (List.map (Value.int .i64) p_r.Ids)), (30, .v (.int .i64 (p_r.Ids.length : Int))), (31, .v (.int .i64 v7)), (32, .v (.int .i64 v8)), (2, .v (.int .i64 v8))]) (init := [0, 1, 2]) (fin := [13]) (sps := [⟨[1], [], [3], [(.slot 23)]⟩, ⟨[3], [], [4], [(.slot 24)]⟩, ⟨[2], [], [5], [(.slot 25)]⟩, ⟨[5], [], [6], [(.slot 26)]⟩, ⟨[4, 6], [], [7], [(.slot 27)]⟩, ⟨[0], [], [8], [(.slot 28)]⟩, ⟨[8, 0], [], [9], [(.slot 29)]⟩, ⟨[9], [], [10], [(.slot 30)]⟩, ⟨[10], [], [11], [(.slot 31)]⟩, ⟨[7, 11], [], [12], [(.slot 32)]⟩, ⟨[12], [], [13], [(.slot 2)]⟩]) (es' := [(2, .v (.int .i64 v8))]) (by kernel_rfl) rfl rfl
   ⟨st_plain rfl (op_move _ _ _ _ rfl rfl),
   st_plain rfl (op_bin _ _ _ _ _ rfl rfl (ibind (f := Value.int .i64) (Option.some.inj hv4))),
   st_plain rfl (op_move _ _ _ _ rfl rfl),
   st_plain rfl (op_bin _ _ _ _ _ rfl rfl (ibind (f := Value.int .i64) (Option.some.inj hv5))),
   st_plain rfl (op_bin _ _ _ _ _ rfl rfl (ibind (f := Value.int .i64) (Option.some.inj hv6))),
   st_plain rfl (op_fieldAddr _ _ _ _ 1 0 _ Try.underlying46 rfl sz44 rfl rfl (by decide)),
   st_plain rfl (op_load _ _ _ _ _ _ Try.underlying44 rfl rfl rfl (Nat.le_of_ble_eq_true rfl) rfl rfl rfl),
   st_plain rfl (op_len_fl _ _ _ Try.underlying44 rfl (by decide) (map_len _)),
   st_plain rfl (op_bin _ _ _ _ _ rfl rfl (ibind (f := Value.int .i64) (Option.some.inj hv7))),
   st_plain rfl (op_bin _ _ _ _ _ rfl rfl (ibind (f := Value.int .i64) (Option.some.inj hv8))),
   st_plain rfl (op_assign _ _ _ _ rfl rfl),
   trivial⟩ ?_
  refine pt_then ?_
  refine ht_ret ?_
  obtain rfl := Option.some.inj h
  exact pt_ret hio rfl (.tmp _ _ .nil) rfl rfl

set_option maxHeartbeats 1000000 in
theorem ok_clone_List_api_Path (l : (List T_Path)) (r : (List T_Path)) (h : Sh.clone_List_api_Path l = some r) : FnOK Try.prog 63 [.fl .shr 3 (List.flatten (List.map T_Path.enc l))] (.fl (.own 39) 3 (List.flatten (List.map T_Path.enc r))) := by
  unfold Sh.clone_List_api_Path at h
  refine fn_ok Try.func63 rfl (Nat.le_of_ble_eq_true rfl) rfl rfl fun g0 hn hio => ?_
  refine ht_seq ?_
  refine ht_seqR hn (El := [_, (2, .v (.slice none 0 0))]) (init := [0]) (fin := [0]) (sps := [⟨[], [], [1], [(.slot 2)]⟩]) (es' := [(_, _)]) (by kernel_rfl) rfl rfl
   ⟨st_plain rfl (op_assign _ _ _ _ rfl rfl),
   trivial⟩ ?_
  refine pt_then ?_
  refine ht_seq ?_
  obtain ⟨v1, hv1, h⟩ := bind_some h
  refine ht_seqR hn (El := [_, (3, .fl .shr 3 (List.flatten (List.map T_Path.enc l))), (4, .fl (.own 39) 3 (List.flatten (List.map T_Path.enc v1))), (2, .fl (.own 39) 3 (List.flatten (List.map T_Path.enc v1)))]) (init := [0]) (fin := [3]) (sps := [⟨[0], [], [1], [(.slot 3)]⟩, ⟨[1], [], [2], [(.slot 4)]⟩, ⟨[], [2], [3], [(.slot 2)]⟩]) (es' := [(2, .fl (.own 39) 3 (List.flatten (List.map T_Path.enc v1)))]) (by kernel_rfl) rfl rfl
   ⟨st_plain rfl (op_move _ _ _ _ rfl rfl),
   st_plain rfl (op_app_nil _ _ _ _ el40 rfl rfl (flat_len T_Path.len _) hv1 (congrArg (fun l => List.flatten (List.map _ l)) (app_nil_eq hv1))),
   st_plain rfl (op_assign_take _ _ _ _ rfl),
   trivial⟩ ?_
  refine pt_then ?_
  refine ht_ret ?_
  obtain rfl := Option.some.inj h
  exact pt_ret hio rfl (.tmp _ _ .nil) rfl rfl

set_option maxHeartbeats 1000000 in
theorem ok_clone_List_byte (l : (List Int)) (r : (List Int)) (h : Sh.clone_List_byte l = some r) : FnOK Try.prog 58 [.fl .shr 1 (List.map (Value.int .u8) l)] (.fl (.own 5) 1 (List.map (Value.int .u8) r)) := by
  unfold Sh.clone_List_byte at h
  refine fn_ok Try.func58 rfl (Nat.le_of_ble_eq_true rfl) rfl rfl fun g0 hn hio => ?_
  refine ht_seq ?_
  refine ht_seqR hn (El := [_, (2, .v (.slice none 0 0))]) (init := [0]) (fin := [0]) (sps := [⟨[], [], [1], [(.slot 2)]⟩]) (es' := [(_, _)]) (by kernel_rfl) rfl rfl
   ⟨st_plain rfl (op_assign _ _ _ _ rfl rfl),
   trivial⟩ ?_
  refine pt_then ?_
  refine ht_seq ?_
  obtain ⟨v1, hv1, h⟩ := bind_some h
  refine ht_seqR hn (El := [_, (3, .fl .shr 1 (List.map (Value.int .u8) l)), (4, .fl (.own 5) 1 (List.map (Value.int .u8) v1)), (2, .fl (.own 5) 1 (List.map (Value.int .u8) v1))]) (init := [0]) (fin := [3]) (sps := [⟨[0], [], [1], [(.slot 3)]⟩, ⟨[1], [], [2], [(.slot 4)]⟩, ⟨[], [2], [3], [(.slot 2)]⟩]) (es' := [(2, .fl (.own 5) 1 (List.map (Value.int .u8) v1))]) (by kernel_rfl) rfl rfl
   ⟨st_plain rfl (op_move _ _ _ _ rfl rfl),
   st_plain rfl (op_app_nil _ _ _ _ el41 rfl rfl (map_len _) hv1 (congrArg (List.map _) (app_nil_eq hv1))),
   st_plain rfl (op_assign_take _ _ _ _ rfl),
   trivial⟩ ?_
  refine pt_then ?_
  refine ht_ret ?_
  obtain rfl := Option.some.inj h
  exact pt_ret hio rfl (.tmp _ _ .nil) rfl rfl

set_option maxHeartbeats 1000000 in
theorem ok_clone_Mail (m : T_Mail) (r : T_Mail) (h : Sh.clone_Mail m = some r) : FnOK Try.prog 56 [.agg [.v (.bool m.From.Null), .v (.string m.From.Local), .v (.string m.From.Domain), .fl .shr 3 (List.flatten (List.map T_Path.enc m.To)), .fl .shr 1 (List.map (Value.int .u8) m.Body), .v (.bool m.Quiet), .v (.string m.Helo), .v (.int .i64 m.At)]] (.agg [.v (.bool r.From.Null), .v (.string r.From.Local), .v (.string r.From.Domain), .fl (.own 39) 3 (List.flatten (List.map T_Path.enc r.To)), .fl (.own 5) 1 (List.map (Value.int .u8) r.Body), .v (.bool r.Quiet), .v (.string r.Helo), .v (.int .i64 r.At)]) := by
  unfold Sh.clone_Mail at h
  refine fn_ok Try.func56 rfl (Nat.le_of_ble_eq_true rfl) rfl rfl fun g0 hn hio => ?_
  refine ht_seq ?_
  refine ht_seqR hn (El := [_, (1, .box 43 [.v (.bool m.From.Null), .v (.string m.From.Local), .v (.string m.From.Domain), .fl .shr 3 (List.flatten (List.map T_Path.enc m.To)), .fl .shr 1 (List.map (Value.int .u8) m.Body), .v (.bool m.Quiet), .v (.string m.Helo), .v (.int .i64 m.At)]), (2, .box 43 [.v (.bool false), .v (.string (⟨#[]⟩ : ByteArray)), .v (.string (⟨#[]⟩ : ByteArray)), .v (.slice none 0 0), .v (.slice none 0 0), .v (.bool false), .v (.string (⟨#[]⟩ : ByteArray)), .v (.int .i64 0)])]) (init := [0]) (fin := [1, 2]) (sps := [⟨[0], [], [1], [(.slot 1)]⟩, ⟨[], [], [2], [(.slot 2)]⟩]) (es' := [(1, .box 43 [.v (.bool m.From.Null), .v (.string m.From.Local), .v (.string m.From.Domain), .fl .shr 3 (List.flatten (List.map T_Path.enc m.To)), .fl .shr 1 (List.map (Value.int .u8) m.Body), .v (.bool m.Quiet), .v (.string m.Helo), .v (.int .i64 m.At)]), (2, .box 43 [.v (.bool false), .v (.string (⟨#[]⟩ : ByteArray)), .v (.string (⟨#[]⟩ : ByteArray)), .v (.slice none 0 0), .v (.slice none 0 0), .v (.bool false), .v (.string (⟨#[]⟩ : ByteArray)), .v (.int .i64 0)])]) (by kernel_rfl) rfl rfl
   ⟨st_plain rfl (op_box _ _ _ _ rfl rfl rfl),
   st_plain rfl (op_alloc _ _ zr43),
   trivial⟩ ?_
  refine pt_then ?_
  refine ht_seq ?_
  obtain ⟨v1, hv1, h⟩ := bind_some h
  refine ht_seqR hn (El := [_, _, (3, .ptr 1 3), (4, .fl .shr 3 (List.flatten (List.map T_Path.enc m.To))), (5, .fl (.own 39) 3 (List.flatten (List.map T_Path.enc v1))), (6, .ptr 1 3), (1, .box 43 [.v (.bool m.From.Null), .v (.string m.From.Local), .v (.string m.From.Domain), .fl (.own 39) 3 (List.flatten (List.map T_Path.enc v1)), .fl .shr 1 (List.map (Value.int .u8) m.Body), .v (.bool m.Quiet), .v (.string m.Helo), .v (.int .i64 m.At)])]) (init := [0, 1]) (fin := [6, 1]) (sps := [⟨[0], [], [2], [(.slot 3)]⟩, ⟨[2, 0], [], [3], [(.slot 4)]⟩, ⟨[3], [], [4], [(.slot 5)]⟩, ⟨[0], [], [5], [(.slot 6)]⟩, ⟨[5], [4, 0], [6], [.cell 1 3]⟩]) (es' := [(1, .box 43 [.v (.bool m.From.Null), .v (.string m.From.Local), .v (.string m.From.Domain), .fl (.own 39) 3 (List.flatten (List.map T_Path.enc v1)), .fl .shr 1 (List.map (Value.int .u8) m.Body), .v (.bool m.Quiet), .v (.string m.Helo), .v (.int .i64 m.At)]), (_, _)]) (by kernel_rfl) rfl rfl
   ⟨st_plain rfl (op_fieldAddr _ _ _ _ 1 0 _ Try.underlying43 rfl sz40 rfl rfl (by decide)),
   st_plain rfl (op_load _ _ _ _ _ _ Try.underlying40 rfl rfl rfl (Nat.le_of_ble_eq_true rfl) rfl rfl rfl),
   st_plain rfl (op_call _ _ 63 _ _ rfl Try.call63 rfl (ok_clone_List_api_Path m.To _ hv1) rfl rfl),
   st_plain rfl (op_fieldAddr _ _ _ _ 1 0 _ Try.underlying43 rfl sz40 rfl rfl (by decide)),
   st_plain rfl (op_store_take _ _ _ _ _ _ _ _ sz40 rfl rfl rfl (Nat.le_of_ble_eq_true rfl) rfl rfl),
   trivial⟩ ?_
  refine pt_then ?_
  refine ht_seq ?_
  obtain ⟨v2, hv2, h⟩ := bind_some h
  refine ht_seqR hn (El := [_, _, (7, .ptr 1 4), (8, .fl .shr 1 (List.map (Value.int .u8) m.Body)), (9, .fl (.own 5) 1 (List.map (Value.int .u8) v2)), (10, .ptr 1 4), (1, .box 43 [.v (.bool m.From.Null), .v (.string m.From.Local), .v (.string m.From.Domain), .fl (.own 39) 3 (List.flatten (List.map T_Path.enc v1)), .fl (.own 5) 1 (List.map (Value.int .u8) v2), .v (.bool m.Quiet), .v (.string m.Helo), .v (.int .i64 m.At)])]) (init := [0, 1]) (fin := [6, 1]) (sps := [⟨[0], [], [2], [(.slot 7)]⟩, ⟨[2, 0], [], [3], [(.slot 8)]⟩, ⟨[3], [], [4], [(.slot 9)]⟩, ⟨[0], [], [5], [(.slot 10)]⟩, ⟨[5], [4, 0], [6], [.cell 1 4]⟩]) (es' := [(1, .box 43 [.v (.bool m.From.Null), .v (.string m.From.Local), .v (.string m.From.Domain), .fl (.own 39) 3 (List.flatten (List.map T_Path.enc v1)), .fl (.own 5) 1 (List.map (Value.int .u8) v2), .v (.bool m.Quiet), .v (.string m.Helo), .v (.int .i64 m.At)]), (_, _)]) (by kernel_rfl) rfl rfl
   ⟨st_plain rfl (op_fieldAddr _ _ _ _ 1 0 _ Try.underlying43 rfl sz41 rfl rfl (by decide)),
   st_plain rfl (op_load _ _ _ _ _ _ Try.underlying41 rfl rfl rfl (Nat.le_of_ble_eq_true rfl) rfl rfl rfl),
   st_plain rfl (op_call _ _ 58 _ _ rfl Try.call58 rfl (ok_clone_List_byte m.Body _ hv2) rfl rfl),
   st_plain rfl (op_fieldAddr _ _ _ _ 1 0 _ Try.underlying43 rfl sz41 rfl rfl (by decide)),
   st_plain rfl (op_store_take _ _ _ _ _ _ _ _ sz41 rfl rfl rfl (Nat.le_of_ble_eq_true rfl) rfl rfl),
   trivial⟩ ?_
  refine pt_then ?_
  refine ht_seq ?_
  refine ht_seqR hn (El := [_, _, (11, .agg [.v (.bool m.From.Null), .v (.string m.From.Local), .v (.string m.From.Domain), .fl (.own 39) 3 (List.flatten (List.map T_Path.enc v1)), .fl (.own 5) 1 (List.map (Value.int .u8) v2), .v (.bool m.Quiet), .v (.string m.Helo), .v (.int .i64 m.At)]), (2, .box 43 [.v (.bool m.From.Null), .v (.string m.From.Local), .v (.string m.From.Domain), .fl (.own 39) 3 (List.flatten (List.map T_Path.enc v1)), .fl (.own 5) 1 (List.map (Value.int .u8) v2), .v (.bool m.Quiet), .v (.string m.Helo), .v (.int .i64 m.At)])]) (init := [0, 1]) (fin := [3]) (sps := [⟨[], [0], [2], [(.slot 11)]⟩, ⟨[], [2, 1], [3], [.cell 2 0, .cell 2 1, .cell 2 2, .cell 2 3, .cell 2 4, .cell 2 5, .cell 2 6, .cell 2 7]⟩]) (es' := [(2, .box 43 [.v (.bool m.From.Null), .v (.string m.From.Local), .v (.string m.From.Domain), .fl (.own 39) 3 (List.flatten (List.map T_Path.enc v1)), .fl (.own 5) 1 (List.map (Value.int .u8) v2), .v (.bool m.Quiet), .v (.string m.Helo), .v (.int .i64 m.At)])]) (by kernel_rfl) rfl rfl
   ⟨st_plain rfl (op_loadA_take _ _ _ _ Try.underlying43 rfl sz43 rfl rfl),
   st_plain rfl (op_store_take _ _ _ _ _ _ _ _ sz43 rfl rfl rfl (Nat.le_of_ble_eq_true rfl) rfl rfl),
   trivial⟩ ?_
  refine pt_then ?_
  refine ht_ret ?_
  obtain rfl := Option.some.inj h
  exact pt_ret hio rfl (.cellA _ _ _ _ Try.underlying43 rfl sz43 .nil) rfl rfl

set_option maxHeartbeats 1000000 in
theorem ok_clone_List_int (l : (List Int)) (r : (List Int)) (h : Sh.clone_List_int l = some r) : FnOK Try.prog 57 [.fl .shr 1 (List.map (Value.int .i64) l)] (.fl (.own 3) 1 (List.map (Value.int .i64) r)) := by
  unfold Sh.clone_List_int at h
  refine fn_ok Try.func57 rfl (Nat.le_of_ble_eq_true rfl) rfl rfl fun g0 hn hio => ?_
  refine ht_seq ?_
  refine ht_seqR hn (El := [_, (2, .v (.slice none 0 0))]) (init := [0]) (fin := [0]) (sps := [⟨[], [], [1], [(.slot 2)]⟩]) (es' := [(_, _)]) (by kernel_rfl) rfl rfl
   ⟨st_plain rfl (op_assign _ _ _ _ rfl rfl),
   trivial⟩ ?_
  refine pt_then ?_
  refine ht_seq ?_
  obtain ⟨v1, hv1, h⟩ := bind_some h
  refine ht_seqR hn (El := [_, (3, .fl .shr 1 (List.map (Value.int .i64) l)), (4, .fl (.own 3) 1 (List.map (Value.int .i64) v1)), (2, .fl (.own 3) 1 (List.map (Value.int .i64) v1))]) (init := [0]) (fin := [3]) (sps := [⟨[0], [], [1], [(.slot 3)]⟩, ⟨[1], [], [2], [(.slot 4)]⟩, ⟨[], [2], [3], [(.slot 2)]⟩]) (es' := [(2, .fl (.own 3) 1 (List.map (Value.int .i64) v1))]) (by kernel_rfl) rfl rfl
   ⟨st_plain rfl (op_move _ _ _ _ rfl rfl),
   st_plain rfl (op_app_nil _ _ _ _ el44 rfl rfl (map_len _) hv1 (congrArg (List.map _) (app_nil_eq hv1))),
   st_plain rfl (op_assign_take _ _ _ _ rfl),
   trivial⟩ ?_
  refine pt_then ?_
  refine ht_ret ?_
  obtain rfl := Option.some.inj h
  exact pt_ret hio rfl (.tmp _ _ .nil) rfl rfl

set_option maxHeartbeats 1000000 in
theorem ok_clone_Rec (p_r : T_Rec) (r : T_Rec) (h : Sh.clone_Rec p_r = some r) : FnOK Try.prog 41 [.agg [.v (.int .i64 p_r.Kind), .v (.bool p_r.Mail.From.Null), .v (.string p_r.Mail.From.Local), .v (.string p_r.Mail.From.Domain), .fl .shr 3 (List.flatten (List.map T_Path.enc p_r.Mail.To)), .fl .shr 1 (List.map (Value.int .u8) p_r.Mail.Body), .v (.bool p_r.Mail.Quiet), .v (.string p_r.Mail.Helo), .v (.int .i64 p_r.Mail.At), .v (.int .i64 p_r.Id), .fl .shr 1 (List.map (Value.int .i64) p_r.Ids), .v (.int .i64 p_r.Origin), .v (.int .i64 p_r.Number), .v (.int .i64 p_r.Offset), .fl .shr 1 (List.map (Value.int .u8) p_r.Data)]] (.agg [.v (.int .i64 r.Kind), .v (.bool r.Mail.From.Null), .v (.string r.Mail.From.Local), .v (.string r.Mail.From.Domain), .fl (.own 39) 3 (List.flatten (List.map T_Path.enc r.Mail.To)), .fl (.own 5) 1 (List.map (Value.int .u8) r.Mail.Body), .v (.bool r.Mail.Quiet), .v (.string r.Mail.Helo), .v (.int .i64 r.Mail.At), .v (.int .i64 r.Id), .fl (.own 3) 1 (List.map (Value.int .i64) r.Ids), .v (.int .i64 r.Origin), .v (.int .i64 r.Number), .v (.int .i64 r.Offset), .fl (.own 5) 1 (List.map (Value.int .u8) r.Data)]) := by
  unfold Sh.clone_Rec at h
  refine fn_ok Try.func41 rfl (Nat.le_of_ble_eq_true rfl) rfl rfl fun g0 hn hio => ?_
  refine ht_seq ?_
  refine ht_seqR hn (El := [_, (1, .box 46 [.v (.int .i64 p_r.Kind), .v (.bool p_r.Mail.From.Null), .v (.string p_r.Mail.From.Local), .v (.string p_r.Mail.From.Domain), .fl .shr 3 (List.flatten (List.map T_Path.enc p_r.Mail.To)), .fl .shr 1 (List.map (Value.int .u8) p_r.Mail.Body), .v (.bool p_r.Mail.Quiet), .v (.string p_r.Mail.Helo), .v (.int .i64 p_r.Mail.At), .v (.int .i64 p_r.Id), .fl .shr 1 (List.map (Value.int .i64) p_r.Ids), .v (.int .i64 p_r.Origin), .v (.int .i64 p_r.Number), .v (.int .i64 p_r.Offset), .fl .shr 1 (List.map (Value.int .u8) p_r.Data)]), (2, .box 46 [.v (.int .i64 0), .v (.bool false), .v (.string (⟨#[]⟩ : ByteArray)), .v (.string (⟨#[]⟩ : ByteArray)), .v (.slice none 0 0), .v (.slice none 0 0), .v (.bool false), .v (.string (⟨#[]⟩ : ByteArray)), .v (.int .i64 0), .v (.int .i64 0), .v (.slice none 0 0), .v (.int .i64 0), .v (.int .i64 0), .v (.int .i64 0), .v (.slice none 0 0)])]) (init := [0]) (fin := [1, 2]) (sps := [⟨[0], [], [1], [(.slot 1)]⟩, ⟨[], [], [2], [(.slot 2)]⟩]) (es' := [(1, .box 46 [.v (.int .i64 p_r.Kind), .v (.bool p_r.Mail.From.Null), .v (.string p_r.Mail.From.Local), .v (.string p_r.Mail.From.Domain), .fl .shr 3 (List.flatten (List.map T_Path.enc p_r.Mail.To)), .fl .shr 1 (List.map (Value.int .u8) p_r.Mail.Body), .v (.bool p_r.Mail.Quiet), .v (.string p_r.Mail.Helo), .v (.int .i64 p_r.Mail.At), .v (.int .i64 p_r.Id), .fl .shr 1 (List.map (Value.int .i64) p_r.Ids), .v (.int .i64 p_r.Origin), .v (.int .i64 p_r.Number), .v (.int .i64 p_r.Offset), .fl .shr 1 (List.map (Value.int .u8) p_r.Data)]), (2, .box 46 [.v (.int .i64 0), .v (.bool false), .v (.string (⟨#[]⟩ : ByteArray)), .v (.string (⟨#[]⟩ : ByteArray)), .v (.slice none 0 0), .v (.slice none 0 0), .v (.bool false), .v (.string (⟨#[]⟩ : ByteArray)), .v (.int .i64 0), .v (.int .i64 0), .v (.slice none 0 0), .v (.int .i64 0), .v (.int .i64 0), .v (.int .i64 0), .v (.slice none 0 0)])]) (by kernel_rfl) rfl rfl
   ⟨st_plain rfl (op_box _ _ _ _ rfl rfl rfl),
   st_plain rfl (op_alloc _ _ zr46),
   trivial⟩ ?_
  refine pt_then ?_
  refine ht_seq ?_
  obtain ⟨v1, hv1, h⟩ := bind_some h
  refine ht_seqR hn (El := [_, _, (3, .ptr 1 1), (4, .agg [.v (.bool p_r.Mail.From.Null), .v (.string p_r.Mail.From.Local), .v (.string p_r.Mail.From.Domain), .fl .shr 3 (List.flatten (List.map T_Path.enc p_r.Mail.To)), .fl .shr 1 (List.map (Value.int .u8) p_r.Mail.Body), .v (.bool p_r.Mail.Quiet), .v (.string p_r.Mail.Helo), .v (.int .i64 p_r.Mail.At)]), (5, .agg [.v (.bool v1.From.Null), .v (.string v1.From.Local), .v (.string v1.From.Domain), .fl (.own 39) 3 (List.flatten (List.map T_Path.enc v1.To)), .fl (.own 5) 1 (List.map (Value.int .u8) v1.Body), .v (.bool v1.Quiet), .v (.string v1.Helo), .v (.int .i64 v1.At)]), (6, .ptr 1 1), (1, .box 46 [.v (.int .i64 p_r.Kind), .v (.bool v1.From.Null), .v (.string v1.From.Local), .v (.string v1.From.Domain), .fl (.own 39) 3 (List.flatten (List.map T_Path.enc v1.To)), .fl (.own 5) 1 (List.map (Value.int .u8) v1.Body), .v (.bool v1.Quiet), .v (.string v1.Helo), .v (.int .i64 v1.At), .v (.int .i64 p_r.Id), .fl .shr 1 (List.map (Value.int .i64) p_r.Ids), .v (.int .i64 p_r.Origin), .v (.int .i64 p_r.Number), .v (.int .i64 p_r.Offset), .fl .shr 1 (List.map (Value.int .u8) p_r.Data)])]) (init := [0, 1]) (fin := [6, 1]) (sps := [⟨[0], [], [2], [(.slot 3)]⟩, ⟨[2, 0], [], [3], [(.slot 4)]⟩, ⟨[3], [], [4], [(.slot 5)]⟩, ⟨[0], [], [5], [(.slot 6)]⟩, ⟨[5], [4, 0], [6], [.cell 1 1, .cell 1 2, .cell 1 3, .cell 1 4, .cell 1 5, .cell 1 6, .cell 1 7, .cell 1 8]⟩]) (es' := [(1, .box 46 [.v (.int .i64 p_r.Kind), .v (.bool v1.From.Null), .v (.string v1.From.Local), .v (.string v1.From.Domain), .fl (.own 39) 3 (List.flatten (List.map T_Path.enc v1.To)), .fl (.own 5) 1 (List.map (Value.int .u8) v1.Body), .v (.bool v1.Quiet), .v (.string v1.Helo), .v (.int .i64 v1.At), .v (.int .i64 p_r.Id), .fl .shr 1 (List.map (Value.int .i64) p_r.Ids), .v (.int .i64 p_r.Origin), .v (.int .i64 p_r.Number), .v (.int .i64 p_r.Offset), .fl .shr 1 (List.map (Value.int .u8) p_r.Data)]), (_, _)]) (by kernel_rfl) rfl rfl
   ⟨st_plain rfl (op_fieldAddr _ _ _ _ 1 0 _ Try.underlying46 rfl sz43 rfl rfl (by decide)),
   st_plain rfl (op_loadA _ _ _ _ _ _ _ Try.underlying43 rfl sz43 rfl rfl (Nat.le_of_ble_eq_true rfl) rfl rfl),
   st_plain rfl (op_call _ _ 56 _ _ rfl Try.call56 rfl (ok_clone_Mail ((T_Mail.mk (T_Path.mk p_r.Mail.From.Null p_r.Mail.From.Local p_r.Mail.From.Domain) p_r.Mail.To p_r.Mail.Body p_r.Mail.Quiet p_r.Mail.Helo p_r.Mail.At)) _ hv1) rfl rfl),
   st_plain rfl (op_fieldAddr _ _ _ _ 1 0 _ Try.underlying46 rfl sz43 rfl rfl (by decide)),
   st_plain rfl (op_store_take _ _ _ _ _ _ _ _ sz43 rfl rfl rfl (Nat.le_of_ble_eq_true rfl) rfl rfl),
   trivial⟩ ?_
  refine pt_then ?_
  refine ht_seq ?_
  obtain ⟨v2, hv2, h⟩ := bind_some h
  refine ht_seqR hn (El := [_, _, (7, .ptr 1 10), (8, .fl .shr 1 (List.map (Value.int .i64) p_r.Ids)), (9, .fl (.own 3) 1 (List.map (Value.int .i64) v2)), (10, .ptr 1 10), (1, .box 46 [.v (.int .i64 p_r.Kind), .v (.bool v1.From.Null), .v (.string v1.From.Local), .v (.string v1.From.Domain), .fl (.own 39) 3 (List.flatten (List.map T_Path.enc v1.To)), .fl (.own 5) 1 (List.map (Value.int .u8) v1.Body), .v (.bool v1.Quiet), .v (.string v1.Helo), .v (.int .i64 v1.At), .v (.int .i64 p_r.Id), .fl (.own 3) 1 (List.map (Value.int .i64) v2), .v (.int .i64 p_r.Origin), .v (.int .i64 p_r.Number), .v (.int .i64 p_r.Offset), .fl .shr 1 (List.map (Value.int .u8) p_r.Data)])]) (init := [0, 1]) (fin := [6, 1]) (sps := [⟨[0], [], [2], [(.slot 7)]⟩, ⟨[2, 0], [], [3], [(.slot 8)]⟩, ⟨[3], [], [4], [(.slot 9)]⟩, ⟨[0], [], [5], [(.slot 10)]⟩, ⟨[5], [4, 0], [6], [.cell 1 10]⟩]) (es' := [(1, .box 46 [.v (.int .i64 p_r.Kind), .v (.bool v1.From.Null), .v (.string v1.From.Local), .v (.string v1.From.Domain), .fl (.own 39) 3 (List.flatten (List.map T_Path.enc v1.To)), .fl (.own 5) 1 (List.map (Value.int .u8) v1.Body), .v (.bool v1.Quiet), .v (.string v1.Helo), .v (.int .i64 v1.At), .v (.int .i64 p_r.Id), .fl (.own 3) 1 (List.map (Value.int .i64) v2), .v (.int .i64 p_r.Origin), .v (.int .i64 p_r.Number), .v (.int .i64 p_r.Offset), .fl .shr 1 (List.map (Value.int .u8) p_r.Data)]), (_, _)]) (by kernel_rfl) rfl rfl
   ⟨st_plain rfl (op_fieldAddr _ _ _ _ 1 0 _ Try.underlying46 rfl sz44 rfl rfl (by decide)),
   st_plain rfl (op_load _ _ _ _ _ _ Try.underlying44 rfl rfl rfl (Nat.le_of_ble_eq_true rfl) rfl rfl rfl),
   st_plain rfl (op_call _ _ 57 _ _ rfl Try.call57 rfl (ok_clone_List_int p_r.Ids _ hv2) rfl rfl),
   st_plain rfl (op_fieldAddr _ _ _ _ 1 0 _ Try.underlying46 rfl sz44 rfl rfl (by decide)),
   st_plain rfl (op_store_take _ _ _ _ _ _ _ _ sz44 rfl rfl rfl (Nat.le_of_ble_eq_true rfl) rfl rfl),
   trivial⟩ ?_
  refine pt_then ?_
  refine ht_seq ?_
  obtain ⟨v3, hv3, h⟩ := bind_some h
  refine ht_seqR hn (El := [_, _, (11, .ptr 1 14), (12, .fl .shr 1 (List.map (Value.int .u8) p_r.Data)), (13, .fl (.own 5) 1 (List.map (Value.int .u8) v3)), (14, .ptr 1 14), (1, .box 46 [.v (.int .i64 p_r.Kind), .v (.bool v1.From.Null), .v (.string v1.From.Local), .v (.string v1.From.Domain), .fl (.own 39) 3 (List.flatten (List.map T_Path.enc v1.To)), .fl (.own 5) 1 (List.map (Value.int .u8) v1.Body), .v (.bool v1.Quiet), .v (.string v1.Helo), .v (.int .i64 v1.At), .v (.int .i64 p_r.Id), .fl (.own 3) 1 (List.map (Value.int .i64) v2), .v (.int .i64 p_r.Origin), .v (.int .i64 p_r.Number), .v (.int .i64 p_r.Offset), .fl (.own 5) 1 (List.map (Value.int .u8) v3)])]) (init := [0, 1]) (fin := [6, 1]) (sps := [⟨[0], [], [2], [(.slot 11)]⟩, ⟨[2, 0], [], [3], [(.slot 12)]⟩, ⟨[3], [], [4], [(.slot 13)]⟩, ⟨[0], [], [5], [(.slot 14)]⟩, ⟨[5], [4, 0], [6], [.cell 1 14]⟩]) (es' := [(1, .box 46 [.v (.int .i64 p_r.Kind), .v (.bool v1.From.Null), .v (.string v1.From.Local), .v (.string v1.From.Domain), .fl (.own 39) 3 (List.flatten (List.map T_Path.enc v1.To)), .fl (.own 5) 1 (List.map (Value.int .u8) v1.Body), .v (.bool v1.Quiet), .v (.string v1.Helo), .v (.int .i64 v1.At), .v (.int .i64 p_r.Id), .fl (.own 3) 1 (List.map (Value.int .i64) v2), .v (.int .i64 p_r.Origin), .v (.int .i64 p_r.Number), .v (.int .i64 p_r.Offset), .fl (.own 5) 1 (List.map (Value.int .u8) v3)]), (_, _)]) (by kernel_rfl) rfl rfl
   ⟨st_plain rfl (op_fieldAddr _ _ _ _ 1 0 _ Try.underlying46 rfl sz41 rfl rfl (by decide)),
   st_plain rfl (op_load _ _ _ _ _ _ Try.underlying41 rfl rfl rfl (Nat.le_of_ble_eq_true rfl) rfl rfl rfl),
   st_plain rfl (op_call _ _ 58 _ _ rfl Try.call58 rfl (ok_clone_List_byte p_r.Data _ hv3) rfl rfl),
   st_plain rfl (op_fieldAddr _ _ _ _ 1 0 _ Try.underlying46 rfl sz41 rfl rfl (by decide)),
   st_plain rfl (op_store_take _ _ _ _ _ _ _ _ sz41 rfl rfl rfl (Nat.le_of_ble_eq_true rfl) rfl rfl),
   trivial⟩ ?_
  refine pt_then ?_
  refine ht_seq ?_
  refine ht_seqR hn (El := [_, _, (15, .agg [.v (.int .i64 p_r.Kind), .v (.bool v1.From.Null), .v (.string v1.From.Local), .v (.string v1.From.Domain), .fl (.own 39) 3 (List.flatten (List.map T_Path.enc v1.To)), .fl (.own 5) 1 (List.map (Value.int .u8) v1.Body), .v (.bool v1.Quiet), .v (.string v1.Helo), .v (.int .i64 v1.At), .v (.int .i64 p_r.Id), .fl (.own 3) 1 (List.map (Value.int .i64) v2), .v (.int .i64 p_r.Origin), .v (.int .i64 p_r.Number), .v (.int .i64 p_r.Offset), .fl (.own 5) 1 (List.map (Value.int .u8) v3)]), (2, .box 46 [.v (.int .i64 p_r.Kind), .v (.bool v1.From.Null), .v (.string v1.From.Local), .v (.string v1.From.Domain), .fl (.own 39) 3 (List.flatten (List.map T_Path.enc v1.To)), .fl (.own 5) 1 (List.map (Value.int .u8) v1.Body), .v (.bool v1.Quiet), .v (.string v1.Helo), .v (.int .i64 v1.At), .v (.int .i64 p_r.Id), .fl (.own 3) 1 (List.map (Value.int .i64) v2), .v (.int .i64 p_r.Origin), .v (.int .i64 p_r.Number), .v (.int .i64 p_r.Offset), .fl (.own 5) 1 (List.map (Value.int .u8) v3)])]) (init := [0, 1]) (fin := [3]) (sps := [⟨[], [0], [2], [(.slot 15)]⟩, ⟨[], [2, 1], [3], [.cell 2 0, .cell 2 1, .cell 2 2, .cell 2 3, .cell 2 4, .cell 2 5, .cell 2 6, .cell 2 7, .cell 2 8, .cell 2 9, .cell 2 10, .cell 2 11, .cell 2 12, .cell 2 13, .cell 2 14]⟩]) (es' := [(2, .box 46 [.v (.int .i64 p_r.Kind), .v (.bool v1.From.Null), .v (.string v1.From.Local), .v (.string v1.From.Domain), .fl (.own 39) 3 (List.flatten (List.map T_Path.enc v1.To)), .fl (.own 5) 1 (List.map (Value.int .u8) v1.Body), .v (.bool v1.Quiet), .v (.string v1.Helo), .v (.int .i64 v1.At), .v (.int .i64 p_r.Id), .fl (.own 3) 1 (List.map (Value.int .i64) v2), .v (.int .i64 p_r.Origin), .v (.int .i64 p_r.Number), .v (.int .i64 p_r.Offset), .fl (.own 5) 1 (List.map (Value.int .u8) v3)])]) (by kernel_rfl) rfl rfl
   ⟨st_plain rfl (op_loadA_take _ _ _ _ Try.underlying46 rfl sz46 rfl rfl),
   st_plain rfl (op_store_take _ _ _ _ _ _ _ _ sz46 rfl rfl rfl (Nat.le_of_ble_eq_true rfl) rfl rfl),
   trivial⟩ ?_
  refine pt_then ?_
  refine ht_ret ?_
  obtain rfl := Option.some.inj h
  exact pt_ret hio rfl (.cellA _ _ _ _ Try.underlying46 rfl sz46 .nil) rfl rfl

set_option maxHeartbeats 1000000 in
theorem ok_clone_List_api_Rec_ro (l : (List T_Rec)) (r : (List T_Rec)) (h : Sh.clone_List_api_Rec_ro l = some r) : FnOK Try.prog 50 [.fr .ro false 15 (List.flatten (List.map T_Rec.ienc l))] (.fr (.own 46) false 15 (List.flatten (List.map T_Rec.ienc r))) := by
  unfold Sh.clone_List_api_Rec_ro at h
  refine fn_ok Try.func50 rfl (Nat.le_of_ble_eq_true rfl) rfl rfl fun g0 hn hio => ?_
  refine ht_seq ?_
  refine ht_seqR hn (El := [_, (2, .v (.slice none 0 0))]) (init := [0]) (fin := [0]) (sps := [⟨[], [], [1], [(.slot 2)]⟩]) (es' := [(_, _)]) (by kernel_rfl) rfl rfl
   ⟨st_plain rfl (op_assign _ _ _ _ rfl rfl),
   trivial⟩ ?_
  refine pt_then ?_
  refine ht_seq ?_
  obtain ⟨v1, hv1, h⟩ := bind_some h
  refine ht_seqR hn (El := [_, (3, .fr .ro false 15 (List.flatten (List.map T_Rec.ienc l))), (4, .fr (.own 46) false 15 (List.flatten (List.map T_Rec.ienc v1))), (2, .fr (.own 46) false 15 (List.flatten (List.map T_Rec.ienc v1)))]) (init := [0]) (fin := [3]) (sps := [⟨[0], [], [1], [(.slot 3)]⟩, ⟨[1], [], [2], [(.slot 4)]⟩, ⟨[], [2], [3], [(.slot 2)]⟩]) (es' := [(2, .fr (.own 46) false 15 (List.flatten (List.map T_Rec.ienc v1)))]) (by kernel_rfl) rfl rfl
   ⟨st_plain rfl (op_move _ _ _ _ rfl rfl),
   st_plain rfl (op_app_nil_fr _ _ _ _ el31 rfl rfl (gflat_len T_Rec.ilen _) hv1 (congrArg (fun l => List.flatten (List.map _ l)) (app_nil_eq hv1))),
   st_plain rfl (op_assign_take _ _ _ _ rfl),
   trivial⟩ ?_
  refine pt_then ?_
  refine ht_ret ?_
  obtain rfl := Option.some.inj h
  exact pt_ret hio rfl (.tmp _ _ .nil) rfl rfl

set_option maxHeartbeats 1000000 in
theorem ok_diary_size (l : (List T_Rec)) (r : Int) (h : Sh.diary_size l = some r) : FnOK Try.prog 47 [.fr .shr true 15 (List.flatten (List.map T_Rec.ienc l))] (.v (.int .i64 r)) := by
  unfold Sh.diary_size at h
  refine fn_ok Try.func47 rfl (Nat.le_of_ble_eq_true rfl) rfl rfl fun g0 hn hio => ?_
  refine ht_seq ?_
  refine ht_seqR hn (El := [_, (2, .v (.int .i64 0))]) (init := [0]) (fin := [0]) (sps := [⟨[], [], [1], [(.slot 2)]⟩]) (es' := [(_, _)]) (by kernel_rfl) rfl rfl
   ⟨st_plain rfl (op_assign _ _ _ _ rfl rfl),
   trivial⟩ ?_
  refine pt_then ?_
  refine ht_seq ?_
  refine ht_seqR hn (El := [_, (3, .v (.int .i64 0))]) (init := [0]) (fin := [0, 1]) (sps := [⟨[], [], [1], [(.slot 3)]⟩]) (es' := [(_, _), (3, .v (.int .i64 0))]) (by kernel_rfl) rfl rfl
   ⟨st_plain rfl (op_assign _ _ _ _ rfl rfl),
   trivial⟩ ?_
  refine pt_then ?_
  refine ht_seq ?_
  refine ht_seq ?_
  refine ht_seqR hn (El := [_, _, (6, .fr .shr true 15 (List.flatten (List.map T_Rec.ienc l))), (7, .v (.int .i64 (l.length : Int))), (8, .v (.int .i64 0))]) (init := [0, 1]) (fin := [1, 2, 3, 4]) (sps := [⟨[0], [], [2], [(.slot 6)]⟩, ⟨[2], [], [3], [(.slot 7)]⟩, ⟨[], [], [4], [(.slot 8)]⟩]) (es' := [(_, _), (6, .fr .shr true 15 (List.flatten (List.map T_Rec.ienc l))), (7, .v (.int .i64 (l.length : Int))), (8, .v (.int .i64 0))]) (by kernel_rfl) rfl rfl
   ⟨st_plain rfl (op_move _ _ _ _ rfl rfl),
   st_plain rfl (op_len_fr _ _ _ Try.underlying31 rfl (by decide) (gflat_len T_Rec.ilen _)),
   st_plain rfl (op_move _ _ _ _ rfl rfl),
   trivial⟩ ?_
  refine pt_then ?_
  refine ht_loopS h (fun ((s10, s11) : Int × Int) => [(3, .v (.int .i64 s10)), (6, .fr .shr true 15 (List.flatten (List.map T_Rec.ienc l))), (7, .v (.int .i64 (l.length : Int))), (8, .v (.int .i64 s11))]) (fun (s13 : Int) => [(3, .v (.int .i64 s13))]) ?_ ?_
  ·rintro s13 h
   refine pt_then ?_
   refine ht_seq ?_
   refine ht_seqR hn (El := [_, (17, .v (.int .i64 s13)), (2, .v (.int .i64 s13))]) (init := [0]) (fin := [2]) (sps := [⟨[0], [], [1], [(.slot 17)]⟩, ⟨[1], [], [2], [(.slot 2)]⟩]) (es' := [(2, .v (.int .i64 s13))]) (by kernel_rfl) rfl rfl
    ⟨st_plain rfl (op_move _ _ _ _ rfl rfl),
    st_plain rfl (op_assign _ _ _ _ rfl rfl),
    trivial⟩ ?_
   refine pt_then ?_
   refine ht_ret ?_
   obtain rfl := Option.some.inj h
   exact pt_ret hio rfl (.tmp _ _ .nil) rfl rfl
  ·rintro u14 hl15 hr16 ⟨s10, s11⟩ rr19 h ho17
   refine ht_seq ?_
   refine ht_seqR hn (El := [_, _, _, _, (9, .v (.bool ((decide (s11 < (l.length : Int))))))]) (init := [0, 1, 2, 3]) (fin := [0, 1, 2, 3, 4]) (sps := [⟨[3, 2], [], [4], [(.slot 9)]⟩]) (es' := [(_, _), (_, _), (_, _), (_, _), (9, .v (.bool ((decide (s11 < (l.length : Int))))))]) (by kernel_rfl) rfl rfl
    ⟨st_plain rfl (op_bin _ _ _ _ _ rfl rfl rfl),
    trivial⟩ ?_
   refine pt_then ?_
   refine ht_seq ?_
   refine ht_cond _ rfl (fun hb20 => ?_) (fun hb20 => ?_)
   ·have h := cond_t hb20 h
    refine ht_skip ?_
    refine pt_then ?_
    refine ht_seq ?_
    refine ht_block ?_
    refine ht_seq ?_
    obtain ⟨v2, hv2, h⟩ := bind_some h
    obtain ⟨v3, hv3, h⟩ := bind_some h
    refine ht_seqR hn (El := [_, _, _, _, _, (10, .eref (.slot 6) (v2 * 15)), (11, .agg [.v (.int .i64 v3.Kind), .v (.bool v3.Mail.From.Null), .v (.string v3.Mail.From.Local), .v (.string v3.Mail.From.Domain), .fl .shr 3 (List.flatten (List.map T_Path.enc v3.Mail.To)), .fl .shr 1 (List.map (Value.int .u8) v3.Mail.Body), .v (.bool v3.Mail.Quiet), .v (.string v3.Mail.Helo), .v (.int .i64 v3.Mail.At), .v (.int .i64 v3.Id), .fl .shr 1 (List.map (Value.int .i64) v3.Ids), .v (.int .i64 v3.Origin), .v (.int .i64 v3.Number), .v (.int .i64 v3.Offset), .fl .shr 1 (List.map (Value.int .u8) v3.Data)]), (5, .box 46 [.v (.int .i64 0), .v (.bool false), .v (.string (⟨#[]⟩ : ByteArray)), .v (.string (⟨#[]⟩ : ByteArray)), .v (.slice none 0 0), .v (.slice none 0 0), .v (.bool false), .v (.string (⟨#[]⟩ : ByteArray)), .v (.int .i64 0), .v (.int .i64 0), .v (.slice none 0 0), .v (.int .i64 0), .v (.int .i64 0), .v (.int .i64 0), .v (.slice none 0 0)]), (5, .box 46 [.v (.int .i64 v3.Kind), .v (.bool v3.Mail.From.Null), .v (.string v3.Mail.From.Local), .v (.string v3.Mail.From.Domain), .fl .shr 3 (List.flatten (List.map T_Path.enc v3.Mail.To)), .fl .shr 1 (List.map (Value.int .u8) v3.Mail.Body), .v (.bool v3.Mail.Quiet), .v (.string v3.Mail.Helo), .v (.int .i64 v3.Mail.At), .v (.int .i64 v3.Id), .fl .shr 1 (List.map (Value.int .i64) v3.Ids), .v (.int .i64 v3.Origin), .v (.int .i64 v3.Number), .v (.int .i64 v3.Offset), .fl .shr 1 (List.map (Value.int .u8) v3.Data)])]) (init := [0, 1, 2, 3, 4]) (fin := [0, 1, 2, 3, 8]) (sps := [⟨[1, 3], [], [5], [(.slot 10)]⟩, ⟨[5, 1], [], [6], [(.slot 11)]⟩, ⟨[], [], [7], [(.slot 5)]⟩, ⟨[6], [7], [8], [.cell 5 0, .cell 5 1, .cell 5 2, .cell 5 3, .cell 5 4, .cell 5 5, .cell 5 6, .cell 5 7, .cell 5 8, .cell 5 9, .cell 5 10, .cell 5 11, .cell 5 12, .cell 5 13, .cell 5 14]⟩]) (es' := [(_, _), (_, _), (_, _), (_, _), (5, .box 46 [.v (.int .i64 v3.Kind), .v (.bool v3.Mail.From.Null), .v (.string v3.Mail.From.Local), .v (.string v3.Mail.From.Domain), .fl .shr 3 (List.flatten (List.map T_Path.enc v3.Mail.To)), .fl .shr 1 (List.map (Value.int .u8) v3.Mail.Body), .v (.bool v3.Mail.Quiet), .v (.string v3.Mail.Helo), .v (.int .i64 v3.Mail.At), .v (.int .i64 v3.Id), .fl .shr 1 (List.map (Value.int .i64) v3.Ids), .v (.int .i64 v3.Origin), .v (.int .i64 v3.Number), .v (.int .i64 v3.Offset), .fl .shr 1 (List.map (Value.int .u8) v3.Data)])]) (by kernel_rfl) rfl rfl
     ⟨st_plain rfl (op_ix_fr _ _ _ _ _ _ _ _ Try.underlying31 sz46 (by decide) rfl rfl rfl (ix_ok hv2).1 (gflat_lt T_Rec.ilen (ix_ok hv2).2) rfl),
     st_plain rfl (op_loadA_fr _ _ _ _ _ _ _ _ Try.underlying46 rfl sz46 rfl rfl (gflat_get T_Rec.ilen hv3) (.cons (.v _) (.cons (.v _) (.cons (.v _) (.cons (.v _) (.cons (.fl _ _ rfl) (.cons (.fl _ _ rfl) (.cons (.v _) (.cons (.v _) (.cons (.v _) (.cons (.v _) (.cons (.fl _ _ rfl) (.cons (.v _) (.cons (.v _) (.cons (.v _) (.cons (.fl _ _ rfl) (.nil)))))))))))))))) rfl (by decide)),
     st_plain rfl (op_alloc _ _ zr46),
     st_plain rfl (op_store _ _ _ _ _ _ _ _ sz46 rfl rfl rfl rfl (Nat.le_of_ble_eq_true rfl) rfl rfl),
     trivial⟩ ?_
    refine pt_then ?_
    obtain ⟨v4, hv4, h⟩ := bind_some h
    obtain ⟨v5, hv5, h⟩ := bind_some h
    refine ht_seqR hn (El := [_, _, _, _, _, (12, .v (.int .i64 s10)), (13, .agg [.v (.int .i64 v3.Kind), .v (.bool v3.Mail.From.Null), .v (.string v3.Mail.From.Local), .v (.string v3.Mail.From.Domain), .fl .shr 3 (List.flatten (List.map T_Path.enc v3.Mail.To)), .fl .shr 1 (List.map (Value.int .u8) v3.Mail.Body), .v (.bool v3.Mail.Quiet), .v (.string v3.Mail.Helo), .v (.int .i64 v3.Mail.At), .v (.int .i64 v3.Id), .fl .shr 1 (List.map (Value.int .i64) v3.Ids), .v (.int .i64 v3.Origin), .v (.int .i64 v3.Number), .v (.int .i64 v3.Offset), .fl .shr 1 (List.map (Value.int .u8) v3.Data)]), (14, .v (.int .i64 v4)), (15, .v (.int .i64 v5)), (3, .v (.int .i64 v5))]) (init := [0, 1, 2, 3, 4]) (fin := [1, 2, 3, 9]) (sps := [⟨[0], [], [5], [(.slot 12)]⟩, ⟨[4], [], [6], [(.slot 13)]⟩, ⟨[6], [], [7], [(.slot 14)]⟩, ⟨[5, 7], [], [8], [(.slot 15)]⟩, ⟨[8], [0], [9], [(.slot 3)]⟩]) (es' := [(_, _), (_, _), (_, _), (3, .v (.int .i64 v5))]) (by kernel_rfl) rfl rfl
     ⟨st_plain rfl (op_move _ _ _ _ rfl rfl),
     st_plain rfl (op_loadA _ _ _ _ _ _ _ Try.underlying46 rfl sz46 rfl rfl (Nat.le_of_ble_eq_true rfl) rfl rfl),
     st_plain rfl (op_call _ _ 33 _ _ rfl Try.call33 rfl (ok_diary_Room ((T_Rec.mk v3.Kind ((T_Mail.mk (T_Path.mk v3.Mail.From.Null v3.Mail.From.Local v3.Mail.From.Domain) v3.Mail.To v3.Mail.Body v3.Mail.Quiet v3.Mail.Helo v3.Mail.At)) v3.Id v3.Ids v3.Origin v3.Number v3.Offset v3.Data)) _ hv4) rfl rfl),
     st_plain rfl (op_bin _ _ _ _ _ rfl rfl (ibind (f := Value.int .i64) (Option.some.inj hv5))),
     st_plain rfl (LOp.drop [_] (op_assign _ _ _ _ rfl rfl)),
     trivial⟩ ?_
    refine pt_inb ?_
    refine pt_then ?_
    obtain ⟨v6, hv6, h⟩ := bind_some h
    refine ht_seqR hn (El := [_, _, _, _, (16, .v (.int .i64 v6)), (8, .v (.int .i64 v6))]) (init := [0, 1, 2, 3]) (fin := [0, 1, 3, 5]) (sps := [⟨[2], [], [4], [(.slot 16)]⟩, ⟨[4], [2], [5], [(.slot 8)]⟩]) (es' := [(_, _), (_, _), (_, _), (8, .v (.int .i64 v6))]) (by kernel_rfl) rfl rfl
     ⟨st_plain rfl (op_bin _ _ _ _ _ rfl rfl (ibind (f := Value.int .i64) (Option.some.inj hv6))),
     st_plain rfl (LOp.drop [_] (op_move _ _ _ _ rfl rfl)),
     trivial⟩ ?_
    refine pt_pick [2, 0, 1, 3] (by kernel_rfl) (es' := [(_, _), (_, _), (_, _), (_, _)]) rfl ?_
    exact pt_next _ (Option.some.inj h).symm rfl
   ·have h := cond_f hb20 h
    refine ht_exit ?_
    refine pt_x_then ?_
    refine pt_x_then ?_
    refine pt_x_in ?_
    refine pt_pick [0] (by kernel_rfl) (es' := [(_, _)]) rfl ?_
    exact hl15 _ (ho17 _ (Option.some.inj h).symm).symm

set_option maxHeartbeats 1000000 in
theorem ok_diary_Diary_Crash (d : T_diary_Diary) (keep : Int) (r : T_diary_Diary) (h : Sh.diary_Diary_Crash d keep = some r) : FnP Try.prog 21 [.box 64 [.v (.int .i64 d.limit), .fr (.own 46) false 15 (List.flatten (List.map T_Rec.ienc d.recs)), .v (.int .i64 d.used), .v (.int .i64 d.safe), .v (.int .i64 d.kept), .v (.int .i64 d.life), .v (.bool d.off), .v (.int .i64 d.trip), .v (.int .i64 d.tripKeep)], .v (.int .i64 keep)] [.box 64 [.v (.int .i64 r.limit), .fr (.own 46) false 15 (List.flatten (List.map T_Rec.ienc r.recs)), .v (.int .i64 r.used), .v (.int .i64 r.safe), .v (.int .i64 r.kept), .v (.int .i64 r.life), .v (.bool r.off), .v (.int .i64 r.trip), .v (.int .i64 r.tripKeep)]] (.tup []) := by
  unfold Sh.diary_Diary_Crash at h
  refine fn_okP Try.func21 rfl (Nat.le_of_ble_eq_true rfl) rfl (Nat.le_of_ble_eq_true rfl) fun args0 hargs0 g0 hn hio => ?_
  refine ht_seq ?_
  refine ht_seq ?_
  refine ht_seqR hn (El := [_, _, _, (5, .ptr 0 0), (6, .ptr 0 0), (7, .ptr 0 6), (8, .v (.bool d.off))]) (init := [0, 1, 2]) (fin := [0, 1, 2, 6]) (sps := [⟨[0], [], [3], [(.slot 5)]⟩, ⟨[3, 0], [], [4], [(.slot 6)]⟩, ⟨[4, 0], [], [5], [(.slot 7)]⟩, ⟨[5, 0], [], [6], [(.slot 8)]⟩]) (es' := [(_, _), (_, _), (_, _), (8, .v (.bool d.off))]) (by kernel_rfl) rfl rfl
   ⟨st_plain rfl (op_move _ _ _ _ rfl rfl),
   st_plain rfl (op_nilCheck _ _ _ 0 0 rfl (by decide)),
   st_plain rfl (op_fieldAddr _ _ _ _ 0 0 _ Try.underlying64 rfl sz4 rfl rfl (by decide)),
   st_plain rfl (op_load _ _ _ _ _ _ Try.underlying4 rfl rfl rfl (Nat.le_of_ble_eq_true rfl) rfl rfl rfl),
   trivial⟩ ?_
  refine pt_then ?_
  refine ht_cond _ rfl (fun hb1 => ?_) (fun hb1 => ?_)
  ·have h := cond_t hb1 h
   refine ht_ret ?_
   refine pt_pick [0, 2] (by kernel_rfl) (es' := [(_, _), (_, _)]) rfl ?_
   refine pt_r_then ?_
   obtain rfl := Option.some.inj h
   exact pt_retP (es := []) (posts := [.box 64 [.v (.int .i64 d.limit), .fr (.own 46) false 15 (List.flatten (List.map T_Rec.ienc d.recs)), .v (.int .i64 d.used), .v (.int .i64 d.safe), .v (.int .i64 d.kept), .v (.int .i64 d.life), .v (.bool d.off), .v (.int .i64 d.trip), .v (.int .i64 d.tripKeep)]]) hio rfl rfl .nil rfl rfl hargs0 rfl
  ·have h := cond_f hb1 h
   refine ht_skip ?_
   refine pt_then ?_
   refine ht_seq ?_
   obtain ⟨v2, hv2, h⟩ := bind_some h
   obtain ⟨v3, hv3, h⟩ := bind_some h
   obtain ⟨v4, hv4, h⟩ := bind_some h
   refine ht_anyR (by kernel_rfl) hn (El := (_ :: _ :: _ :: _ :: (9, .v (.int .i64 keep)) :: (10, .v (.int .i64 v2)) :: (11, .same (.slot 0)) :: (12, .ptr 0 0) :: (13, .ptr 0 1) :: (14, .same (.cell 0 1)) :: (15, .v (.int .i64 (d.recs.length : Int))) :: (16, .same (.slot 0)) :: (17, .ptr 0 0) :: (18, .ptr 0 3) :: (19, .v (.int .i64 d.safe)) :: (20, .v (.int .i64 v3)) :: (21, .v (.int .i64 v4)) :: (4, .v (.int .i64 v4)) :: [])) (init := [0, 1, 2, 3]) (fin := [0, 2, 17]) (sps := [⟨[1], [], [4], [(.slot 9)]⟩, ⟨[4], [], [5], [(.slot 10)]⟩, ⟨[], [], [6], [(.slot 11)]⟩, ⟨[6, 0], [], [7], [(.slot 12)]⟩, ⟨[7, 0], [], [8], [(.slot 13)]⟩, ⟨[8, 0], [], [9], [(.slot 14)]⟩, ⟨[9, 0], [], [10], [(.slot 15)]⟩, ⟨[], [], [11], [(.slot 16)]⟩, ⟨[11, 0], [], [12], [(.slot 17)]⟩, ⟨[12, 0], [], [13], [(.slot 18)]⟩, ⟨[13, 0], [], [14], [(.slot 19)]⟩, ⟨[10, 14], [], [15], [(.slot 20)]⟩, ⟨[5, 15], [], [16], [(.slot 21)]⟩, ⟨[16], [], [17], [(.slot 4)]⟩]) (es' := [(_, _), (_, _), (4, .v (.int .i64 v4))]) (by kernel_rfl) rfl rfl
    ⟨st_plain rfl (op_move _ _ _ _ rfl rfl),
    st_plain rfl ((Option.some.inj hv2) ▸ op_max _ _ _ _ rfl rfl),
    st_plain rfl (op_move_name _ _ _ rfl),
    st_plain rfl (op_nilCheck_name _ _ _ 0 rfl rfl (by decide)),
    st_plain rfl (op_fieldAddr _ _ _ _ 0 0 _ Try.underlying64 rfl sz31 rfl rfl (by decide)),
    st_plain rfl (op_load _ _ _ _ _ _ Try.underlying31 rfl rfl rfl (Nat.le_of_ble_eq_true rfl) rfl rfl rfl),
    st_plain rfl (op_len_fr _ _ _ Try.underlying31 rfl (by decide) (gflat_len T_Rec.ilen _)),
    st_plain rfl (op_move_name _ _ _ rfl),
    st_plain rfl (op_nilCheck_name _ _ _ 0 rfl rfl (by decide)),
    st_plain rfl (op_fieldAddr _ _ _ _ 0 0 _ Try.underlying64 rfl sz3 rfl rfl (by decide)),
    st_plain rfl (op_load _ _ _ _ _ _ Try.underlying3 rfl rfl rfl (Nat.le_of_ble_eq_true rfl) rfl rfl rfl),
    st_plain rfl (op_bin _ _ _ _ _ rfl rfl (ibind (f := Value.int .i64) (Option.some.inj hv3))),
    st_plain rfl ((Option.some.inj hv4) ▸ op_min _ _ _ _ rfl rfl),
    st_plain rfl (op_assign _ _ _ _ rfl rfl),
    trivial⟩ ?_
   refine pt_then ?_
   refine ht_seq ?_
   refine ht_frzE 0 hio (es' := [(0, .box 64 [.v (.int .i64 d.limit), .fr .ro false 15 (List.flatten (List.map T_Rec.ienc d.recs)), .v (.int .i64 d.used), .v (.int .i64 d.safe), .v (.int .i64 d.kept), .v (.int .i64 d.life), .v (.bool d.off), .v (.int .i64 d.trip), .v (.int .i64 d.tripKeep)]), (0, .v (List.getD args0 0 undef)), (4, .v (.int .i64 v4))]) rfl ?_
   obtain ⟨v5, hv5, h⟩ := bind_some h
   obtain ⟨v6, hv6, h⟩ := bind_some h
   obtain ⟨v7, hv7, h⟩ := bind_some h
   refine ht_anyR (by kernel_rfl) hn (El := (_ :: _ :: _ :: (22, .same (.slot 0)) :: (23, .same (.slot 0)) :: (24, .ptr 0 0) :: (25, .ptr 0 1) :: (26, .fr .ro false 15 (List.flatten (List.map T_Rec.ienc d.recs))) :: (27, .same (.slot 0)) :: (28, .ptr 0 0) :: (29, .ptr 0 3) :: (30, .v (.int .i64 d.safe)) :: (31, .v (.int .i64 v4)) :: (32, .v (.int .i64 v5)) :: (33, .fr .ro false 15 (List.flatten (List.map T_Rec.ienc v6))) :: (34, .fr (.own 46) false 15 (List.flatten (List.map T_Rec.ienc v7))) :: (35, .ptr 0 0) :: (36, .ptr 0 1) :: (0, .box 64 [.v (.int .i64 d.limit), .fr (.own 46) false 15 (List.flatten (List.map T_Rec.ienc v7)), .v (.int .i64 d.used), .v (.int .i64 d.safe), .v (.int .i64 d.kept), .v (.int .i64 d.life), .v (.bool d.off), .v (.int .i64 d.trip), .v (.int .i64 d.tripKeep)]) :: [])) (init := [0, 1, 2]) (fin := [18, 1, 2]) (sps := (⟨[], [], [3], [(.slot 22)]⟩ :: ⟨[], [], [4], [(.slot 23)]⟩ :: ⟨[4, 0], [], [5], [(.slot 24)]⟩ :: ⟨[5, 0], [], [6], [(.slot 25)]⟩ :: ⟨[6, 0], [], [7], [(.slot 26)]⟩ :: ⟨[], [], [8], [(.slot 27)]⟩ :: ⟨[8, 0], [], [9], [(.slot 28)]⟩ :: ⟨[9, 0], [], [10], [(.slot 29)]⟩ :: ⟨[10, 0], [], [11], [(.slot 30)]⟩ :: ⟨[2], [], [12], [(.slot 31)]⟩ :: ⟨[11, 12], [], [13], [(.slot 32)]⟩ :: ⟨[7, 13], [], [14], [(.slot 33)]⟩ :: ⟨[14], [], [15], [(.slot 34)]⟩ :: ⟨[3, 0], [], [16], [(.slot 35)]⟩ :: ⟨[16, 0], [], [17], [(.slot 36)]⟩ :: ⟨[17], [15, 0], [18], [.cell 0 1]⟩ :: [])) (es' := [(0, .box 64 [.v (.int .i64 d.limit), .fr (.own 46) false 15 (List.flatten (List.map T_Rec.ienc v7)), .v (.int .i64 d.used), .v (.int .i64 d.safe), .v (.int .i64 d.kept), .v (.int .i64 d.life), .v (.bool d.off), .v (.int .i64 d.trip), .v (.int .i64 d.tripKeep)]), (_, _), (_, _)]) (by kernel_rfl) rfl rfl
    ⟨st_plain rfl (op_move_name _ _ _ rfl),
    st_plain rfl (op_move_name _ _ _ rfl),
    st_plain rfl (op_nilCheck_name _ _ _ 0 rfl rfl (by decide)),
    st_plain rfl (op_fieldAddr _ _ _ _ 0 0 _ Try.underlying64 rfl sz31 rfl rfl (by decide)),
    st_plain rfl (op_load _ _ _ _ _ _ Try.underlying31 rfl rfl rfl (Nat.le_of_ble_eq_true rfl) rfl rfl rfl),
    st_plain rfl (op_move_name _ _ _ rfl),
    st_plain rfl (op_nilCheck_name _ _ _ 0 rfl rfl (by decide)),
    st_plain rfl (op_fieldAddr _ _ _ _ 0 0 _ Try.underlying64 rfl sz3 rfl rfl (by decide)),
    st_plain rfl (op_load _ _ _ _ _ _ Try.underlying3 rfl rfl rfl (Nat.le_of_ble_eq_true rfl) rfl rfl rfl),
    st_plain rfl (op_move _ _ _ _ rfl rfl),
    st_plain rfl (op_bin _ _ _ _ _ rfl rfl (ibind (f := Value.int .i64) (Option.some.inj hv5))),
    st_plain rfl (op_slice_fr _ _ (Int.toNat 0) (Int.toNat v5) _ Try.underlying31 sz46 (by decide) rfl rfl rfl ⟨_, congrArg (fun j => AV.v (Value.int .i64 j)) (sli_bd hv6).2.1⟩ (sli_bd hv6).2.2.1 (by rw [gflat_len T_Rec.ilen]; exact Nat.mul_le_mul_right _ (sli_bd hv6).2.2.2) (gflat_sli T_Rec.ilen hv6)),
    st_plain rfl (op_callR _ _ 50 _ _ rfl Try.call50 rfl (ok_clone_List_api_Rec_ro v6 _ hv7) rfl rfl),
    st_plain rfl (op_nilCheck_name _ _ _ 0 rfl rfl (by decide)),
    st_plain rfl (op_fieldAddr _ _ _ _ 0 0 _ Try.underlying64 rfl sz31 rfl rfl (by decide)),
    st_plain rfl (op_store_take _ _ _ _ _ _ _ _ sz31 rfl rfl rfl (Nat.le_of_ble_eq_true rfl) rfl rfl),
    trivial⟩ ?_
   refine pt_then ?_
   refine ht_seq ?_
   obtain ⟨v8, hv8, h⟩ := bind_some h
   refine ht_seqR hn (El := [_, _, _, (37, .ptr 0 0), (38, .ptr 0 0), (39, .ptr 0 0), (40, .ptr 0 1), (41, .same (.cell 0 1)), (42, .v (.int .i64 v8)), (43, .ptr 0 0), (44, .ptr 0 2), (0, .box 64 [.v (.int .i64 d.limit), .fr (.own 46) false 15 (List.flatten (List.map T_Rec.ienc v7)), .v (.int .i64 v8), .v (.int .i64 d.safe), .v (.int .i64 d.kept), .v (.int .i64 d.life), .v (.bool d.off), .v (.int .i64 d.trip), .v (.int .i64 d.tripKeep)])]) (init := [0, 1, 2]) (fin := [11, 1, 2]) (sps := [⟨[0], [], [3], [(.slot 37)]⟩, ⟨[0], [], [4], [(.slot 38)]⟩, ⟨[4, 0], [], [5], [(.slot 39)]⟩, ⟨[5, 0], [], [6], [(.slot 40)]⟩, ⟨[6, 0], [], [7], [(.slot 41)]⟩, ⟨[7, 0], [], [8], [(.slot 42)]⟩, ⟨[3, 0], [], [9], [(.slot 43)]⟩, ⟨[9, 0], [], [10], [(.slot 44)]⟩, ⟨[10, 8], [0], [11], [.cell 0 2]⟩]) (es' := [(0, .box 64 [.v (.int .i64 d.limit), .fr (.own 46) false 15 (List.flatten (List.map T_Rec.ienc v7)), .v (.int .i64 v8), .v (.int .i64 d.safe), .v (.int .i64 d.kept), .v (.int .i64 d.life), .v (.bool d.off), .v (.int .i64 d.trip), .v (.int .i64 d.tripKeep)]), (_, _), (_, _)]) (by kernel_rfl) rfl rfl
    ⟨st_plain rfl (op_move _ _ _ _ rfl rfl),
    st_plain rfl (op_move _ _ _ _ rfl rfl),
    st_plain rfl (op_nilCheck _ _ _ 0 0 rfl (by decide)),
    st_plain rfl (op_fieldAddr _ _ _ _ 0 0 _ Try.underlying64 rfl sz31 rfl rfl (by decide)),
    st_plain rfl (op_load _ _ _ _ _ _ Try.underlying31 rfl rfl rfl (Nat.le_of_ble_eq_true rfl) rfl rfl rfl),
    st_plain rfl (op_call _ _ 47 _ _ rfl Try.call47 rfl (ok_diary_size v7 _ hv8) rfl rfl),
    st_plain rfl (op_nilCheck _ _ _ 0 0 rfl (by decide)),
    st_plain rfl (op_fieldAddr _ _ _ _ 0 0 _ Try.underlying64 rfl sz3 rfl rfl (by decide)),
    st_plain rfl (op_store _ _ _ _ _ _ _ _ sz3 rfl rfl rfl rfl (Nat.le_of_ble_eq_true rfl) rfl rfl),
    trivial⟩ ?_
   refine pt_then ?_
   refine ht_seq ?_
   refine ht_seqR hn (El := [_, _, _, (45, .ptr 0 0), (46, .ptr 0 0), (47, .ptr 0 0), (48, .ptr 0 1), (49, .same (.cell 0 1)), (50, .v (.int .i64 (v7.length : Int))), (51, .ptr 0 0), (52, .ptr 0 3), (0, .box 64 [.v (.int .i64 d.limit), .fr (.own 46) false 15 (List.flatten (List.map T_Rec.ienc v7)), .v (.int .i64 v8), .v (.int .i64 (v7.length : Int)), .v (.int .i64 d.kept), .v (.int .i64 d.life), .v (.bool d.off), .v (.int .i64 d.trip), .v (.int .i64 d.tripKeep)])]) (init := [0, 1, 2]) (fin := [11, 1, 2]) (sps := [⟨[0], [], [3], [(.slot 45)]⟩, ⟨[0], [], [4], [(.slot 46)]⟩, ⟨[4, 0], [], [5], [(.slot 47)]⟩, ⟨[5, 0], [], [6], [(.slot 48)]⟩, ⟨[6, 0], [], [7], [(.slot 49)]⟩, ⟨[7, 0], [], [8], [(.slot 50)]⟩, ⟨[3, 0], [], [9], [(.slot 51)]⟩, ⟨[9, 0], [], [10], [(.slot 52)]⟩, ⟨[10, 8], [0], [11], [.cell 0 3]⟩]) (es' := [(0, .box 64 [.v (.int .i64 d.limit), .fr (.own 46) false 15 (List.flatten (List.map T_Rec.ienc v7)), .v (.int .i64 v8), .v (.int .i64 (v7.length : Int)), .v (.int .i64 d.kept), .v (.int .i64 d.life), .v (.bool d.off), .v (.int .i64 d.trip), .v (.int .i64 d.tripKeep)]), (_, _), (_, _)]) (by kernel_rfl) rfl rfl
    ⟨st_plain rfl (op_move _ _ _ _ rfl rfl),
    st_plain rfl (op_move _ _ _ _ rfl rfl),
    st_plain rfl (op_nilCheck _ _ _ 0 0 rfl (by decide)),
    st_plain rfl (op_fieldAddr _ _ _ _ 0 0 _ Try.underlying64 rfl sz31 rfl rfl (by decide)),
    st_plain rfl (op_load _ _ _ _ _ _ Try.underlying31 rfl rfl rfl (Nat.le_of_ble_eq_true rfl) rfl rfl rfl),
    st_plain rfl (op_len_fr _ _ _ Try.underlying31 rfl (by decide) (gflat_len T_Rec.ilen _)),
    st_plain rfl (op_nilCheck _ _ _ 0 0 rfl (by decide)),
    st_plain rfl (op_fieldAddr _ _ _ _ 0 0 _ Try.underlying64 rfl sz3 rfl rfl (by decide)),
    st_plain rfl (op_store _ _ _ _ _ _ _ _ sz3 rfl rfl rfl rfl (Nat.le_of_ble_eq_true rfl) rfl rfl),
    trivial⟩ ?_
   refine pt_then ?_
   refine ht_seq ?_
   obtain ⟨v9, hv9, h⟩ := bind_some h
   refine ht_seqR hn (El := [_, _, _, (53, .ptr 0 0), (54, .ptr 0 0), (55, .ptr 0 4), (56, .v (.int .i64 d.kept)), (57, .v (.int .i64 v4)), (58, .v (.int .i64 v9)), (59, .ptr 0 0), (60, .ptr 0 4), (0, .box 64 [.v (.int .i64 d.limit), .fr (.own 46) false 15 (List.flatten (List.map T_Rec.ienc v7)), .v (.int .i64 v8), .v (.int .i64 (v7.length : Int)), .v (.int .i64 v9), .v (.int .i64 d.life), .v (.bool d.off), .v (.int .i64 d.trip), .v (.int .i64 d.tripKeep)])]) (init := [0, 1, 2]) (fin := [11, 1]) (sps := [⟨[0], [], [3], [(.slot 53)]⟩, ⟨[3, 0], [], [4], [(.slot 54)]⟩, ⟨[4, 0], [], [5], [(.slot 55)]⟩, ⟨[5, 0], [], [6], [(.slot 56)]⟩, ⟨[2], [], [7], [(.slot 57)]⟩, ⟨[6, 7], [], [8], [(.slot 58)]⟩, ⟨[3, 0], [], [9], [(.slot 59)]⟩, ⟨[9, 0], [], [10], [(.slot 60)]⟩, ⟨[10, 8], [0], [11], [.cell 0 4]⟩]) (es' := [(0, .box 64 [.v (.int .i64 d.limit), .fr (.own 46) false 15 (List.flatten (List.map T_Rec.ienc v7)), .v (.int .i64 v8), .v (.int .i64 (v7.length : Int)), .v (.int .i64 v9), .v (.int .i64 d.life), .v (.bool d.off), .v (.int .i64 d.trip), .v (.int .i64 d.tripKeep)]), (_, _)]) (by kernel_rfl) rfl rfl
    ⟨st_plain rfl (op_move _ _ _ _ rfl rfl),
    st_plain rfl (op_nilCheck _ _ _ 0 0 rfl (by decide)),
    st_plain rfl (op_fieldAddr _ _ _ _ 0 0 _ Try.underlying64 rfl sz3 rfl rfl (by decide)),
    st_plain rfl (op_load _ _ _ _ _ _ Try.underlying3 rfl rfl rfl (Nat.le_of_ble_eq_true rfl) rfl rfl rfl),
    st_plain rfl (op_move _ _ _ _ rfl rfl),
    st_plain rfl (op_bin _ _ _ _ _ rfl rfl (ibind (f := Value.int .i64) (Option.some.inj hv9))),
    st_plain rfl (op_nilCheck _ _ _ 0 0 rfl (by decide)),
    st_plain rfl (op_fieldAddr _ _ _ _ 0 0 _ Try.underlying64 rfl sz3 rfl rfl (by decide)),
    st_plain rfl (op_store _ _ _ _ _ _ _ _ sz3 rfl rfl rfl rfl (Nat.le_of_ble_eq_true rfl) rfl rfl),
    trivial⟩ ?_
   refine pt_then ?_
   refine ht_seq ?_
   obtain ⟨v10, hv10, h⟩ := bind_some h
   refine ht_seqR hn (El := [_, _, (61, .ptr 0 0), (62, .ptr 0 0), (63, .ptr 0 5), (64, .v (.int .i64 d.life)), (65, .v (.int .i64 v10)), (66, .ptr 0 0), (67, .ptr 0 5), (0, .box 64 [.v (.int .i64 d.limit), .fr (.own 46) false 15 (List.flatten (List.map T_Rec.ienc v7)), .v (.int .i64 v8), .v (.int .i64 (v7.length : Int)), .v (.int .i64 v9), .v (.int .i64 v10), .v (.bool d.off), .v (.int .i64 d.trip), .v (.int .i64 d.tripKeep)])]) (init := [0, 1]) (fin := [9, 1]) (sps := [⟨[0], [], [2], [(.slot 61)]⟩, ⟨[2, 0], [], [3], [(.slot 62)]⟩, ⟨[3, 0], [], [4], [(.slot 63)]⟩, ⟨[4, 0], [], [5], [(.slot 64)]⟩, ⟨[5], [], [6], [(.slot 65)]⟩, ⟨[2, 0], [], [7], [(.slot 66)]⟩, ⟨[7, 0], [], [8], [(.slot 67)]⟩, ⟨[8, 6], [0], [9], [.cell 0 5]⟩]) (es' := [(0, .box 64 [.v (.int .i64 d.limit), .fr (.own 46) false 15 (List.flatten (List.map T_Rec.ienc v7)), .v (.int .i64 v8), .v (.int .i64 (v7.length : Int)), .v (.int .i64 v9), .v (.int .i64 v10), .v (.bool d.off), .v (.int .i64 d.trip), .v (.int .i64 d.tripKeep)]), (_, _)]) (by kernel_rfl) rfl rfl
    ⟨st_plain rfl (op_move _ _ _ _ rfl rfl),
    st_plain rfl (op_nilCheck _ _ _ 0 0 rfl (by decide)),
    st_plain rfl (op_fieldAddr _ _ _ _ 0 0 _ Try.underlying64 rfl sz3 rfl rfl (by decide)),
    st_plain rfl (op_load _ _ _ _ _ _ Try.underlying3 rfl rfl rfl (Nat.le_of_ble_eq_true rfl) rfl rfl rfl),
    st_plain rfl (op_bin _ _ _ _ _ rfl rfl (ibind (f := Value.int .i64) (Option.some.inj hv10))),
    st_plain rfl (op_nilCheck _ _ _ 0 0 rfl (by decide)),
    st_plain rfl (op_fieldAddr _ _ _ _ 0 0 _ Try.underlying64 rfl sz3 rfl rfl (by decide)),
    st_plain rfl (op_store _ _ _ _ _ _ _ _ sz3 rfl rfl rfl rfl (Nat.le_of_ble_eq_true rfl) rfl rfl),
    trivial⟩ ?_
   refine pt_then ?_
   refine ht_seq ?_
   refine ht_seqR hn (El := [_, _, (68, .ptr 0 0), (69, .ptr 0 0), (70, .ptr 0 6), (0, .box 64 [.v (.int .i64 d.limit), .fr (.own 46) false 15 (List.flatten (List.map T_Rec.ienc v7)), .v (.int .i64 v8), .v (.int .i64 (v7.length : Int)), .v (.int .i64 v9), .v (.int .i64 v10), .v (.bool true), .v (.int .i64 d.trip), .v (.int .i64 d.tripKeep)])]) (init := [0, 1]) (fin := [5, 1]) (sps := [⟨[0], [], [2], [(.slot 68)]⟩, ⟨[2, 0], [], [3], [(.slot 69)]⟩, ⟨[3, 0], [], [4], [(.slot 70)]⟩, ⟨[4], [0], [5], [.cell 0 6]⟩]) (es' := [(0, .box 64 [.v (.int .i64 d.limit), .fr (.own 46) false 15 (List.flatten (List.map T_Rec.ienc v7)), .v (.int .i64 v8), .v (.int .i64 (v7.length : Int)), .v (.int .i64 v9), .v (.int .i64 v10), .v (.bool true), .v (.int .i64 d.trip), .v (.int .i64 d.tripKeep)]), (_, _)]) (by kernel_rfl) rfl rfl
    ⟨st_plain rfl (op_move _ _ _ _ rfl rfl),
    st_plain rfl (op_nilCheck _ _ _ 0 0 rfl (by decide)),
    st_plain rfl (op_fieldAddr _ _ _ _ 0 0 _ Try.underlying64 rfl sz4 rfl rfl (by decide)),
    st_plain rfl (op_store _ _ _ _ _ _ _ _ sz4 rfl rfl rfl rfl (Nat.le_of_ble_eq_true rfl) rfl rfl),
    trivial⟩ ?_
   refine pt_then ?_
   refine ht_seqR hn (El := [_, _, (71, .ptr 0 0), (72, .ptr 0 0), (73, .ptr 0 7), (0, .box 64 [.v (.int .i64 d.limit), .fr (.own 46) false 15 (List.flatten (List.map T_Rec.ienc v7)), .v (.int .i64 v8), .v (.int .i64 (v7.length : Int)), .v (.int .i64 v9), .v (.int .i64 v10), .v (.bool true), .v (.int .i64 0), .v (.int .i64 d.tripKeep)])]) (init := [0, 1]) (fin := [5, 1]) (sps := [⟨[0], [], [2], [(.slot 71)]⟩, ⟨[2, 0], [], [3], [(.slot 72)]⟩, ⟨[3, 0], [], [4], [(.slot 73)]⟩, ⟨[4], [0], [5], [.cell 0 7]⟩]) (es' := [(0, .box 64 [.v (.int .i64 d.limit), .fr (.own 46) false 15 (List.flatten (List.map T_Rec.ienc v7)), .v (.int .i64 v8), .v (.int .i64 (v7.length : Int)), .v (.int .i64 v9), .v (.int .i64 v10), .v (.bool true), .v (.int .i64 0), .v (.int .i64 d.tripKeep)]), (_, _)]) (by kernel_rfl) rfl rfl
    ⟨st_plain rfl (op_move _ _ _ _ rfl rfl),
    st_plain rfl (op_nilCheck _ _ _ 0 0 rfl (by decide)),
    st_plain rfl (op_fieldAddr _ _ _ _ 0 0 _ Try.underlying64 rfl sz3 rfl rfl (by decide)),
    st_plain rfl (op_store _ _ _ _ _ _ _ _ sz3 rfl rfl rfl rfl (Nat.le_of_ble_eq_true rfl) rfl rfl),
    trivial⟩ ?_
   obtain rfl := Option.some.inj h
   exact pt_endP (es := []) (posts := [.box 64 [.v (.int .i64 d.limit), .fr (.own 46) false 15 (List.flatten (List.map T_Rec.ienc v7)), .v (.int .i64 v8), .v (.int .i64 (v7.length : Int)), .v (.int .i64 v9), .v (.int .i64 v10), .v (.bool true), .v (.int .i64 0), .v (.int .i64 d.tripKeep)]]) hio rfl rfl .nil rfl rfl hargs0 rfl

set_option maxHeartbeats 1000000 in
theorem ok_diary_Diary_step (d : T_diary_Diary) (r : (Int × T_diary_Diary)) (h : Sh.diary_Diary_step d = some r) : FnP Try.prog 42 [.box 64 [.v (.int .i64 d.limit), .fr (.own 46) false 15 (List.flatten (List.map T_Rec.ienc d.recs)), .v (.int .i64 d.used), .v (.int .i64 d.safe), .v (.int .i64 d.kept), .v (.int .i64 d.life), .v (.bool d.off), .v (.int .i64 d.trip), .v (.int .i64 d.tripKeep)]] [.box 64 [.v (.int .i64 r.2.limit), .fr (.own 46) false 15 (List.flatten (List.map T_Rec.ienc r.2.recs)), .v (.int .i64 r.2.used), .v (.int .i64 r.2.safe), .v (.int .i64 r.2.kept), .v (.int .i64 r.2.life), .v (.bool r.2.off), .v (.int .i64 r.2.trip), .v (.int .i64 r.2.tripKeep)]] (.v (.int .i64 r.1)) := by
  unfold Sh.diary_Diary_step at h
  refine fn_okP Try.func42 rfl (Nat.le_of_ble_eq_true rfl) rfl (Nat.le_of_ble_eq_true rfl) fun args0 hargs0 g0 hn hio => ?_
  refine ht_seq ?_
  refine ht_seqR hn (El := [_, _, (2, .v (.int .i64 0))]) (init := [0, 1]) (fin := [0, 1]) (sps := [⟨[], [], [2], [(.slot 2)]⟩]) (es' := [(_, _), (_, _)]) (by kernel_rfl) rfl rfl
   ⟨st_plain rfl (op_assign _ _ _ _ rfl rfl),
   trivial⟩ ?_
  refine pt_then ?_
  refine ht_seq ?_
  refine ht_seq ?_
  refine ht_seqR hn (El := [_, _, (3, .ptr 0 0), (4, .ptr 0 0), (5, .ptr 0 7), (6, .v (.int .i64 d.trip)), (7, .v (.bool (d.trip == 0)))]) (init := [0, 1]) (fin := [0, 1, 6]) (sps := [⟨[0], [], [2], [(.slot 3)]⟩, ⟨[2, 0], [], [3], [(.slot 4)]⟩, ⟨[3, 0], [], [4], [(.slot 5)]⟩, ⟨[4, 0], [], [5], [(.slot 6)]⟩, ⟨[5], [], [6], [(.slot 7)]⟩]) (es' := [(_, _), (_, _), (7, .v (.bool (d.trip == 0)))]) (by kernel_rfl) rfl rfl
   ⟨st_plain rfl (op_move _ _ _ _ rfl rfl),
   st_plain rfl (op_nilCheck _ _ _ 0 0 rfl (by decide)),
   st_plain rfl (op_fieldAddr _ _ _ _ 0 0 _ Try.underlying64 rfl sz3 rfl rfl (by decide)),
   st_plain rfl (op_load _ _ _ _ _ _ Try.underlying3 rfl rfl rfl (Nat.le_of_ble_eq_true rfl) rfl rfl rfl),
   st_plain rfl (op_bin _ _ _ _ _ rfl rfl rfl),
   trivial⟩ ?_
  refine pt_then ?_
  refine ht_cond _ rfl (fun hb1 => ?_) (fun hb1 => ?_)
  ·have h := cond_t hb1 h
   refine ht_seq ?_
   refine ht_seqR hn (El := [_, _, _, (2, .v (.int .i64 0))]) (init := [0, 1, 2]) (fin := [0, 1, 3]) (sps := [⟨[], [], [3], [(.slot 2)]⟩]) (es' := [(_, _), (_, _), (2, .v (.int .i64 0))]) (by kernel_rfl) rfl rfl
    ⟨st_plain rfl (op_assign _ _ _ _ rfl rfl),
    trivial⟩ ?_
   refine pt_then ?_
   refine ht_ret ?_
   refine pt_pick [2, 0, 1] (by kernel_rfl) (es' := [(_, _), (_, _), (_, _)]) rfl ?_
   refine pt_r_then ?_
   obtain rfl := Option.some.inj h
   exact pt_retP (es := [(2, .v (.int .i64 0))]) (posts := [.box 64 [.v (.int .i64 d.limit), .fr (.own 46) false 15 (List.flatten (List.map T_Rec.ienc d.recs)), .v (.int .i64 d.used), .v (.int .i64 d.safe), .v (.int .i64 d.kept), .v (.int .i64 d.life), .v (.bool d.off), .v (.int .i64 d.trip), .v (.int .i64 d.tripKeep)]]) hio rfl rfl (.tmp _ _ .nil) rfl rfl hargs0 rfl
  ·have h := cond_f hb1 h
   refine ht_skip ?_
   refine pt_then ?_
   refine ht_seq ?_
   obtain ⟨v2, hv2, h⟩ := bind_some h
   refine ht_seqR hn (El := [_, _, _, (8, .ptr 0 0), (9, .ptr 0 0), (10, .ptr 0 7), (11, .v (.int .i64 d.trip)), (12, .v (.int .i64 v2)), (13, .ptr 0 0), (14, .ptr 0 7), (0, .box 64 [.v (.int .i64 d.limit), .fr (.own 46) false 15 (List.flatten (List.map T_Rec.ienc d.recs)), .v (.int .i64 d.used), .v (.int .i64 d.safe), .v (.int .i64 d.kept), .v (.int .i64 d.life), .v (.bool d.off), .v (.int .i64 v2), .v (.int .i64 d.tripKeep)])]) (init := [0, 1, 2]) (fin := [10, 1]) (sps := [⟨[0], [], [3], [(.slot 8)]⟩, ⟨[3, 0], [], [4], [(.slot 9)]⟩, ⟨[4, 0], [], [5], [(.slot 10)]⟩, ⟨[5, 0], [], [6], [(.slot 11)]⟩, ⟨[6], [], [7], [(.slot 12)]⟩, ⟨[3, 0], [], [8], [(.slot 13)]⟩, ⟨[8, 0], [], [9], [(.slot 14)]⟩, ⟨[9, 7], [0], [10], [.cell 0 7]⟩]) (es' := [(0, .box 64 [.v (.int .i64 d.limit), .fr (.own 46) false 15 (List.flatten (List.map T_Rec.ienc d.recs)), .v (.int .i64 d.used), .v (.int .i64 d.safe), .v (.int .i64 d.kept), .v (.int .i64 d.life), .v (.bool d.off), .v (.int .i64 v2), .v (.int .i64 d.tripKeep)]), (_, _)]) (by kernel_rfl) rfl rfl
    ⟨st_plain rfl (op_move _ _ _ _ rfl rfl),
    st_plain rfl (op_nilCheck _ _ _ 0 0 rfl (by decide)),
    st_plain rfl (op_fieldAddr _ _ _ _ 0 0 _ Try.underlying64 rfl sz3 rfl rfl (by decide)),
    st_plain rfl (op_load _ _ _ _ _ _ Try.underlying3 rfl rfl rfl (Nat.le_of_ble_eq_true rfl) rfl rfl rfl),
    st_plain rfl (op_bin _ _ _ _ _ rfl rfl (ibind (f := Value.int .i64) (Option.some.inj hv2))),
    st_plain rfl (op_nilCheck _ _ _ 0 0 rfl (by decide)),
    st_plain rfl (op_fieldAddr _ _ _ _ 0 0 _ Try.underlying64 rfl sz3 rfl rfl (by decide)),
    st_plain rfl (op_store _ _ _ _ _ _ _ _ sz3 rfl rfl rfl rfl (Nat.le_of_ble_eq_true rfl) rfl rfl),
    trivial⟩ ?_
   refine pt_then ?_
   refine ht_seq ?_
   refine ht_seq ?_
   refine ht_seqR hn (El := [_, _, (15, .ptr 0 0), (16, .ptr 0 0), (17, .ptr 0 7), (18, .v (.int .i64 v2)), (19, .v (.bool ((decide (0 < v2)))))]) (init := [0, 1]) (fin := [0, 1, 6]) (sps := [⟨[0], [], [2], [(.slot 15)]⟩, ⟨[2, 0], [], [3], [(.slot 16)]⟩, ⟨[3, 0], [], [4], [(.slot 17)]⟩, ⟨[4, 0], [], [5], [(.slot 18)]⟩, ⟨[5], [], [6], [(.slot 19)]⟩]) (es' := [(_, _), (_, _), (19, .v (.bool ((decide (0 < v2)))))]) (by kernel_rfl) rfl rfl
    ⟨st_plain rfl (op_move _ _ _ _ rfl rfl),
    st_plain rfl (op_nilCheck _ _ _ 0 0 rfl (by decide)),
    st_plain rfl (op_fieldAddr _ _ _ _ 0 0 _ Try.underlying64 rfl sz3 rfl rfl (by decide)),
    st_plain rfl (op_load _ _ _ _ _ _ Try.underlying3 rfl rfl rfl (Nat.le_of_ble_eq_true rfl) rfl rfl rfl),
    st_plain rfl (op_bin _ _ _ _ _ rfl rfl rfl),
    trivial⟩ ?_
   refine pt_then ?_
   refine ht_cond _ rfl (fun hb3 => ?_) (fun hb3 => ?_)
   ·have h := cond_t hb3 h
    refine ht_seq ?_
    refine ht_seqR hn (El := [_, _, _, (2, .v (.int .i64 0))]) (init := [0, 1, 2]) (fin := [0, 1, 3]) (sps := [⟨[], [], [3], [(.slot 2)]⟩]) (es' := [(_, _), (_, _), (2, .v (.int .i64 0))]) (by kernel_rfl) rfl rfl
     ⟨st_plain rfl (op_assign _ _ _ _ rfl rfl),
     trivial⟩ ?_
    refine pt_then ?_
    refine ht_ret ?_
    refine pt_pick [2, 0, 1] (by kernel_rfl) (es' := [(_, _), (_, _), (_, _)]) rfl ?_
    refine pt_r_then ?_
    obtain rfl := Option.some.inj h
    exact pt_retP (es := [(2, .v (.int .i64 0))]) (posts := [.box 64 [.v (.int .i64 d.limit), .fr (.own 46) false 15 (List.flatten (List.map T_Rec.ienc d.recs)), .v (.int .i64 d.used), .v (.int .i64 d.safe), .v (.int .i64 d.kept), .v (.int .i64 d.life), .v (.bool d.off), .v (.int .i64 v2), .v (.int .i64 d.tripKeep)]]) hio rfl rfl (.tmp _ _ .nil) rfl rfl hargs0 rfl
   ·have h := cond_f hb3 h
    refine ht_skip ?_
    refine pt_then ?_
    refine ht_seq ?_
    obtain ⟨v4, hv4, h⟩ := bind_some h
    refine ht_seqR hn (El := [_, _, _, (20, .ptr 0 0), (21, .ptr 0 0), (22, .ptr 0 0), (23, .ptr 0 8), (24, .v (.int .i64 d.tripKeep)), (25, .tup []), (0, .box 64 [.v (.int .i64 v4.limit), .fr (.own 46) false 15 (List.flatten (List.map T_Rec.ienc v4.recs)), .v (.int .i64 v4.used), .v (.int .i64 v4.safe), .v (.int .i64 v4.kept), .v (.int .i64 v4.life), .v (.bool v4.off), .v (.int .i64 v4.trip), .v (.int .i64 v4.tripKeep)])]) (init := [0, 1, 2]) (fin := [9, 1]) (sps := [⟨[0], [], [3], [(.slot 20)]⟩, ⟨[0], [], [4], [(.slot 21)]⟩, ⟨[4, 0], [], [5], [(.slot 22)]⟩, ⟨[5, 0], [], [6], [(.slot 23)]⟩, ⟨[6, 0], [], [7], [(.slot 24)]⟩, ⟨[3, 7], [0], [9, 8], [(.slot 25), (.cell 0 0), (.cell 0 1), (.cell 0 2), (.cell 0 3), (.cell 0 4), (.cell 0 5), (.cell 0 6), (.cell 0 7), (.cell 0 8)]⟩]) (es' := [(0, .box 64 [.v (.int .i64 v4.limit), .fr (.own 46) false 15 (List.flatten (List.map T_Rec.ienc v4.recs)), .v (.int .i64 v4.used), .v (.int .i64 v4.safe), .v (.int .i64 v4.kept), .v (.int .i64 v4.life), .v (.bool v4.off), .v (.int .i64 v4.trip), .v (.int .i64 v4.tripKeep)]), (_, _)]) (by kernel_rfl) rfl rfl
     ⟨st_plain rfl (op_move _ _ _ _ rfl rfl),
     st_plain rfl (op_move _ _ _ _ rfl rfl),
     st_plain rfl (op_nilCheck _ _ _ 0 0 rfl (by decide)),
     st_plain rfl (op_fieldAddr _ _ _ _ 0 0 _ Try.underlying64 rfl sz3 rfl rfl (by decide)),
     st_plain rfl (op_load _ _ _ _ _ _ Try.underlying3 rfl rfl rfl (Nat.le_of_ble_eq_true rfl) rfl rfl rfl),
     st_plain rfl (op_callP _ _ _ _ 25 21 [.tmp 20] [.tmp 24] _ _ _ rfl Try.call21 rfl rfl rfl (ok_diary_Diary_Crash (T_diary_Diary.mk d.limit d.recs d.used d.safe d.kept d.life d.off v2 d.tripKeep) d.tripKeep _ hv4) (Nat.le_of_ble_eq_true rfl) rfl rfl rfl rfl rfl rfl rfl rfl),
     trivial⟩ ?_
    refine pt_then ?_
    refine ht_seq ?_
    refine ht_seqR hn (El := [_, _, (2, .v (.int .i64 7))]) (init := [0, 1]) (fin := [0, 1, 2]) (sps := [⟨[], [], [2], [(.slot 2)]⟩]) (es' := [(_, _), (_, _), (2, .v (.int .i64 7))]) (by kernel_rfl) rfl rfl
     ⟨st_plain rfl (op_assign _ _ _ _ rfl rfl),
     trivial⟩ ?_
    refine pt_then ?_
    refine ht_ret ?_
    refine pt_pick [2, 0, 1] (by kernel_rfl) (es' := [(_, _), (_, _), (_, _)]) rfl ?_
    obtain rfl := Option.some.inj h
    exact pt_retP (es := [(2, .v (.int .i64 7))]) (posts := [.box 64 [.v (.int .i64 v4.limit), .fr (.own 46) false 15 (List.flatten (List.map T_Rec.ienc v4.recs)), .v (.int .i64 v4.used), .v (.int .i64 v4.safe), .v (.int .i64 v4.kept), .v (.int .i64 v4.life), .v (.bool v4.off), .v (.int .i64 v4.trip), .v (.int .i64 v4.tripKeep)]]) hio rfl rfl (.tmp _ _ .nil) rfl rfl hargs0 rfl

set_option maxHeartbeats 1000000 in
theorem ok_diary_Diary_Put (d : T_diary_Diary) (p_r : T_Rec) (r : (Int × T_diary_Diary)) (h : Sh.diary_Diary_Put d p_r = some r) : FnP Try.prog 15 [.box 64 [.v (.int .i64 d.limit), .fr (.own 46) false 15 (List.flatten (List.map T_Rec.ienc d.recs)), .v (.int .i64 d.used), .v (.int .i64 d.safe), .v (.int .i64 d.kept), .v (.int .i64 d.life), .v (.bool d.off), .v (.int .i64 d.trip), .v (.int .i64 d.tripKeep)], .agg [.v (.int .i64 p_r.Kind), .v (.bool p_r.Mail.From.Null), .v (.string p_r.Mail.From.Local), .v (.string p_r.Mail.From.Domain), .fl .shr 3 (List.flatten (List.map T_Path.enc p_r.Mail.To)), .fl .shr 1 (List.map (Value.int .u8) p_r.Mail.Body), .v (.bool p_r.Mail.Quiet), .v (.string p_r.Mail.Helo), .v (.int .i64 p_r.Mail.At), .v (.int .i64 p_r.Id), .fl .shr 1 (List.map (Value.int .i64) p_r.Ids), .v (.int .i64 p_r.Origin), .v (.int .i64 p_r.Number), .v (.int .i64 p_r.Offset), .fl .shr 1 (List.map (Value.int .u8) p_r.Data)]] [.box 64 [.v (.int .i64 r.2.limit), .fr (.own 46) false 15 (List.flatten (List.map T_Rec.ienc r.2.recs)), .v (.int .i64 r.2.used), .v (.int .i64 r.2.safe), .v (.int .i64 r.2.kept), .v (.int .i64 r.2.life), .v (.bool r.2.off), .v (.int .i64 r.2.trip), .v (.int .i64 r.2.tripKeep)]] (.v (.int .i64 r.1)) := by
  unfold Sh.diary_Diary_Put at h
  refine fn_okP Try.func15 rfl (Nat.le_of_ble_eq_true rfl) rfl (Nat.le_of_ble_eq_true rfl) fun args0 hargs0 g0 hn hio => ?_
  refine ht_seq ?_
  refine ht_seqR hn (El := [_, _, _, (3, .box 46 [.v (.int .i64 p_r.Kind), .v (.bool p_r.Mail.From.Null), .v (.string p_r.Mail.From.Local), .v (.string p_r.Mail.From.Domain), .fl .shr 3 (List.flatten (List.map T_Path.enc p_r.Mail.To)), .fl .shr 1 (List.map (Value.int .u8) p_r.Mail.Body), .v (.bool p_r.Mail.Quiet), .v (.string p_r.Mail.Helo), .v (.int .i64 p_r.Mail.At), .v (.int .i64 p_r.Id), .fl .shr 1 (List.map (Value.int .i64) p_r.Ids), .v (.int .i64 p_r.Origin), .v (.int .i64 p_r.Number), .v (.int .i64 p_r.Offset), .fl .shr 1 (List.map (Value.int .u8) p_r.Data)]), (4, .v (.int .i64 0))]) (init := [0, 1, 2]) (fin := [0, 2, 3]) (sps := [⟨[1], [], [3], [(.slot 3)]⟩, ⟨[], [], [4], [(.slot 4)]⟩]) (es' := [(_, _), (_, _), (3, .box 46 [.v (.int .i64 p_r.Kind), .v (.bool p_r.Mail.From.Null), .v (.string p_r.Mail.From.Local), .v (.string p_r.Mail.From.Domain), .fl .shr 3 (List.flatten (List.map T_Path.enc p_r.Mail.To)), .fl .shr 1 (List.map (Value.int .u8) p_r.Mail.Body), .v (.bool p_r.Mail.Quiet), .v (.string p_r.Mail.Helo), .v (.int .i64 p_r.Mail.At), .v (.int .i64 p_r.Id), .fl .shr 1 (List.map (Value.int .i64) p_r.Ids), .v (.int .i64 p_r.Origin), .v (.int .i64 p_r.Number), .v (.int .i64 p_r.Offset), .fl .shr 1 (List.map (Value.int .u8) p_r.Data)])]) (by kernel_rfl) rfl rfl
   ⟨st_plain rfl (op_box _ _ _ _ rfl rfl rfl),
   st_plain rfl (op_assign _ _ _ _ rfl rfl),
   trivial⟩ ?_
  refine pt_then ?_
  refine ht_seq ?_
  refine ht_seq ?_
  refine ht_seqR hn (El := [_, _, _, (5, .ptr 0 0), (6, .ptr 0 0), (7, .ptr 0 6), (8, .v (.bool d.off))]) (init := [0, 1, 2]) (fin := [0, 1, 2, 6]) (sps := [⟨[0], [], [3], [(.slot 5)]⟩, ⟨[3, 0], [], [4], [(.slot 6)]⟩, ⟨[4, 0], [], [5], [(.slot 7)]⟩, ⟨[5, 0], [], [6], [(.slot 8)]⟩]) (es' := [(_, _), (_, _), (_, _), (8, .v (.bool d.off))]) (by kernel_rfl) rfl rfl
   ⟨st_plain rfl (op_move _ _ _ _ rfl rfl),
   st_plain rfl (op_nilCheck _ _ _ 0 0 rfl (by decide)),
   st_plain rfl (op_fieldAddr _ _ _ _ 0 0 _ Try.underlying64 rfl sz4 rfl rfl (by decide)),
   st_plain rfl (op_load _ _ _ _ _ _ Try.underlying4 rfl rfl rfl (Nat.le_of_ble_eq_true rfl) rfl rfl rfl),
   trivial⟩ ?_
  refine pt_then ?_
  refine ht_cond _ rfl (fun hb1 => ?_) (fun hb1 => ?_)
  ·have h := cond_t hb1 h
   refine ht_seq ?_
   refine ht_seqR hn (El := [_, _, _, _, (4, .v (.int .i64 7))]) (init := [0, 1, 2, 3]) (fin := [0, 1, 4]) (sps := [⟨[], [], [4], [(.slot 4)]⟩]) (es' := [(_, _), (_, _), (4, .v (.int .i64 7))]) (by kernel_rfl) rfl rfl
    ⟨st_plain rfl (op_assign _ _ _ _ rfl rfl),
    trivial⟩ ?_
   refine pt_then ?_
   refine ht_ret ?_
   refine pt_pick [2, 0, 1] (by kernel_rfl) (es' := [(_, _), (_, _), (_, _)]) rfl ?_
   refine pt_r_then ?_
   obtain rfl := Option.some.inj h
   exact pt_retP (es := [(4, .v (.int .i64 7))]) (posts := [.box 64 [.v (.int .i64 d.limit), .fr (.own 46) false 15 (List.flatten (List.map T_Rec.ienc d.recs)), .v (.int .i64 d.used), .v (.int .i64 d.safe), .v (.int .i64 d.kept), .v (.int .i64 d.life), .v (.bool d.off), .v (.int .i64 d.trip), .v (.int .i64 d.tripKeep)]]) hio rfl rfl (.tmp _ _ .nil) rfl rfl hargs0 rfl
  ·have h := cond_f hb1 h
   refine ht_skip ?_
   refine pt_then ?_
   refine ht_seq ?_
   refine ht_seq ?_
   obtain ⟨v2, hv2, h⟩ := bind_some h
   obtain ⟨v3, hv3, h⟩ := bind_some h
   refine ht_anyR (by kernel_rfl) hn (El := (_ :: _ :: _ :: _ :: (9, .same (.slot 0)) :: (10, .ptr 0 0) :: (11, .ptr 0 2) :: (12, .v (.int .i64 d.used)) :: (13, .agg [.v (.int .i64 p_r.Kind), .v (.bool p_r.Mail.From.Null), .v (.string p_r.Mail.From.Local), .v (.string p_r.Mail.From.Domain), .fl .shr 3 (List.flatten (List.map T_Path.enc p_r.Mail.To)), .fl .shr 1 (List.map (Value.int .u8) p_r.Mail.Body), .v (.bool p_r.Mail.Quiet), .v (.string p_r.Mail.Helo), .v (.int .i64 p_r.Mail.At), .v (.int .i64 p_r.Id), .fl .shr 1 (List.map (Value.int .i64) p_r.Ids), .v (.int .i64 p_r.Origin), .v (.int .i64 p_r.Number), .v (.int .i64 p_r.Offset), .fl .shr 1 (List.map (Value.int .u8) p_r.Data)]) :: (14, .v (.int .i64 v2)) :: (15, .v (.int .i64 v3)) :: (16, .same (.slot 0)) :: (17, .ptr 0 0) :: (18, .ptr 0 0) :: (19, .v (.int .i64 d.limit)) :: (20, .v (.bool ((decide (d.limit < v3))))) :: [])) (init := [0, 1, 2, 3]) (fin := [0, 1, 2, 15]) (sps := [⟨[], [], [4], [(.slot 9)]⟩, ⟨[4, 0], [], [5], [(.slot 10)]⟩, ⟨[5, 0], [], [6], [(.slot 11)]⟩, ⟨[6, 0], [], [7], [(.slot 12)]⟩, ⟨[2], [], [8], [(.slot 13)]⟩, ⟨[8], [], [9], [(.slot 14)]⟩, ⟨[7, 9], [], [10], [(.slot 15)]⟩, ⟨[], [], [11], [(.slot 16)]⟩, ⟨[11, 0], [], [12], [(.slot 17)]⟩, ⟨[12, 0], [], [13], [(.slot 18)]⟩, ⟨[13, 0], [], [14], [(.slot 19)]⟩, ⟨[10, 14], [], [15], [(.slot 20)]⟩]) (es' := [(_, _), (_, _), (_, _), (20, .v (.bool ((decide (d.limit < v3)))))]) (by kernel_rfl) rfl rfl
    ⟨st_plain rfl (op_move_name _ _ _ rfl),
    st_plain rfl (op_nilCheck_name _ _ _ 0 rfl rfl (by decide)),
    st_plain rfl (op_fieldAddr _ _ _ _ 0 0 _ Try.underlying64 rfl sz3 rfl rfl (by decide)),
    st_plain rfl (op_load _ _ _ _ _ _ Try.underlying3 rfl rfl rfl (Nat.le_of_ble_eq_true rfl) rfl rfl rfl),
    st_plain rfl (op_loadA _ _ _ _ _ _ _ Try.underlying46 rfl sz46 rfl rfl (Nat.le_of_ble_eq_true rfl) rfl rfl),
    st_plain rfl (op_call _ _ 33 _ _ rfl Try.call33 rfl (ok_diary_Room ((T_Rec.mk p_r.Kind ((T_Mail.mk (T_Path.mk p_r.Mail.From.Null p_r.Mail.From.Local p_r.Mail.From.Domain) p_r.Mail.To p_r.Mail.Body p_r.Mail.Quiet p_r.Mail.Helo p_r.Mail.At)) p_r.Id p_r.Ids p_r.Origin p_r.Number p_r.Offset p_r.Data)) _ hv2) rfl rfl),
    st_plain rfl (op_bin _ _ _ _ _ rfl rfl (ibind (f := Value.int .i64) (Option.some.inj hv3))),
    st_plain rfl (op_move_name _ _ _ rfl),
    st_plain rfl (op_nilCheck_name _ _ _ 0 rfl rfl (by decide)),
    st_plain rfl (op_fieldAddr _ _ _ _ 0 0 _ Try.underlying64 rfl sz3 rfl rfl (by decide)),
    st_plain rfl (op_load _ _ _ _ _ _ Try.underlying3 rfl rfl rfl (Nat.le_of_ble_eq_true rfl) rfl rfl rfl),
    st_plain rfl (op_bin _ _ _ _ _ rfl rfl rfl),
    trivial⟩ ?_
   refine pt_then ?_
   refine ht_cond _ rfl (fun hb4 => ?_) (fun hb4 => ?_)
   ·have h := cond_t hb4 h
    refine ht_seq ?_
    refine ht_seqR hn (El := [_, _, _, _, (4, .v (.int .i64 8))]) (init := [0, 1, 2, 3]) (fin := [0, 1, 4]) (sps := [⟨[], [], [4], [(.slot 4)]⟩]) (es' := [(_, _), (_, _), (4, .v (.int .i64 8))]) (by kernel_rfl) rfl rfl
     ⟨st_plain rfl (op_assign _ _ _ _ rfl rfl),
     trivial⟩ ?_
    refine pt_then ?_
    refine ht_ret ?_
    refine pt_pick [2, 0, 1] (by kernel_rfl) (es' := [(_, _), (_, _), (_, _)]) rfl ?_
    refine pt_r_then ?_
    obtain rfl := Option.some.inj h
    exact pt_retP (es := [(4, .v (.int .i64 8))]) (posts := [.box 64 [.v (.int .i64 d.limit), .fr (.own 46) false 15 (List.flatten (List.map T_Rec.ienc d.recs)), .v (.int .i64 d.used), .v (.int .i64 d.safe), .v (.int .i64 d.kept), .v (.int .i64 d.life), .v (.bool d.off), .v (.int .i64 d.trip), .v (.int .i64 d.tripKeep)]]) hio rfl rfl (.tmp _ _ .nil) rfl rfl hargs0 rfl
   ·have h := cond_f hb4 h
    refine ht_skip ?_
    refine pt_then ?_
    refine ht_seq ?_
    obtain ⟨v5, hv5, h⟩ := bind_some h
    obtain ⟨v6, hv6, h⟩ := bind_some h
    refine ht_anyR (by kernel_rfl) hn (El := (_ :: _ :: _ :: _ :: (21, .same (.slot 0)) :: (22, .same (.slot 0)) :: (23, .ptr 0 0) :: (24, .ptr 0 1) :: (25, .same (.cell 0 1)) :: (26, .agg [.v (.int .i64 p_r.Kind), .v (.bool p_r.Mail.From.Null), .v (.string p_r.Mail.From.Local), .v (.string p_r.Mail.From.Domain), .fl .shr 3 (List.flatten (List.map T_Path.enc p_r.Mail.To)), .fl .shr 1 (List.map (Value.int .u8) p_r.Mail.Body), .v (.bool p_r.Mail.Quiet), .v (.string p_r.Mail.Helo), .v (.int .i64 p_r.Mail.At), .v (.int .i64 p_r.Id), .fl .shr 1 (List.map (Value.int .i64) p_r.Ids), .v (.int .i64 p_r.Origin), .v (.int .i64 p_r.Number), .v (.int .i64 p_r.Offset), .fl .shr 1 (List.map (Value.int .u8) p_r.Data)]) :: (27, .agg [.v (.int .i64 v5.Kind), .v (.bool v5.Mail.From.Null), .v (.string v5.Mail.From.Local), .v (.string v5.Mail.From.Domain), .fl (.own 39) 3 (List.flatten (List.map T_Path.enc v5.Mail.To)), .fl (.own 5) 1 (List.map (Value.int .u8) v5.Mail.Body), .v (.bool v5.Mail.Quiet), .v (.string v5.Mail.Helo), .v (.int .i64 v5.Mail.At), .v (.int .i64 v5.Id), .fl (.own 3) 1 (List.map (Value.int .i64) v5.Ids), .v (.int .i64 v5.Origin), .v (.int .i64 v5.Number), .v (.int .i64 v5.Offset), .fl (.own 5) 1 (List.map (Value.int .u8) v5.Data)]) :: (28, .fr (.own 46) false 15 (List.flatten (List.map T_Rec.ienc [(T_Rec.mk v5.Kind ((T_Mail.mk (T_Path.mk v5.Mail.From.Null v5.Mail.From.Local v5.Mail.From.Domain) v5.Mail.To v5.Mail.Body v5.Mail.Quiet v5.Mail.Helo v5.Mail.At)) v5.Id v5.Ids v5.Origin v5.Number v5.Offset v5.Data)]))) :: (29, .fr (.own 46) false 15 (List.flatten (List.map T_Rec.ienc v6))) :: (0, .box 64 [.v (.int .i64 d.limit), .any, .v (.int .i64 d.used), .v (.int .i64 d.safe), .v (.int .i64 d.kept), .v (.int .i64 d.life), .v (.bool d.off), .v (.int .i64 d.trip), .v (.int .i64 d.tripKeep)]) :: (30, .ptr 0 0) :: (31, .ptr 0 1) :: (0, .box 64 [.v (.int .i64 d.limit), .fr (.own 46) false 15 (List.flatten (List.map T_Rec.ienc v6)), .v (.int .i64 d.used), .v (.int .i64 d.safe), .v (.int .i64 d.kept), .v (.int .i64 d.life), .v (.bool d.off), .v (.int .i64 d.trip), .v (.int .i64 d.tripKeep)]) :: [])) (init := [0, 1, 2, 3]) (fin := [16, 1, 2]) (sps := [⟨[], [], [4], [(.slot 21)]⟩, ⟨[], [], [5], [(.slot 22)]⟩, ⟨[5, 0], [], [6], [(.slot 23)]⟩, ⟨[6, 0], [], [7], [(.slot 24)]⟩, ⟨[7, 0], [], [8], [(.slot 25)]⟩, ⟨[2], [], [9], [(.slot 26)]⟩, ⟨[9], [], [10], [(.slot 27)]⟩, ⟨[], [10], [11], [(.slot 28)]⟩, ⟨[8, 11], [0], [13, 12], [(.slot 29)]⟩, ⟨[4, 13], [], [14], [(.slot 30)]⟩, ⟨[14, 13], [], [15], [(.slot 31)]⟩, ⟨[15], [8, 12, 13], [16], [.cell 0 1]⟩]) (es' := [(0, .box 64 [.v (.int .i64 d.limit), .fr (.own 46) false 15 (List.flatten (List.map T_Rec.ienc v6)), .v (.int .i64 d.used), .v (.int .i64 d.safe), .v (.int .i64 d.kept), .v (.int .i64 d.life), .v (.bool d.off), .v (.int .i64 d.trip), .v (.int .i64 d.tripKeep)]), (_, _), (_, _)]) (by kernel_rfl) rfl rfl
     ⟨st_plain rfl (op_move_name _ _ _ rfl),
     st_plain rfl (op_move_name _ _ _ rfl),
     st_plain rfl (op_nilCheck_name _ _ _ 0 rfl rfl (by decide)),
     st_plain rfl (op_fieldAddr _ _ _ _ 0 0 _ Try.underlying64 rfl sz31 rfl rfl (by decide)),
     st_plain rfl (op_load _ _ _ _ _ _ Try.underlying31 rfl rfl rfl (Nat.le_of_ble_eq_true rfl) rfl rfl rfl),
     st_plain rfl (op_loadA _ _ _ _ _ _ _ Try.underlying46 rfl sz46 rfl rfl (Nat.le_of_ble_eq_true rfl) rfl rfl),
     st_plain rfl (op_call _ _ 41 _ _ rfl Try.call41 rfl (ok_clone_Rec ((T_Rec.mk p_r.Kind ((T_Mail.mk (T_Path.mk p_r.Mail.From.Null p_r.Mail.From.Local p_r.Mail.From.Domain) p_r.Mail.To p_r.Mail.Body p_r.Mail.Quiet p_r.Mail.Helo p_r.Mail.At)) p_r.Id p_r.Ids p_r.Origin p_r.Number p_r.Offset p_r.Data)) _ hv5) rfl rfl),
     st_plain rfl (op_build1_fr_take _ _ _ 15 (.agg #[.int .i64 0, .bool false, .string ByteArray.empty, .string ByteArray.empty, .slice none 0 0, .slice none 0 0, .bool false, .string ByteArray.empty, .int .i64 0, .int .i64 0, .slice none 0 0, .int .i64 0, .int .i64 0, .int .i64 0, .slice none 0 0]) false _ _ Try.underlying31 sz46 zr46 rfl (.cons (.v _) (.cons (.v _) (.cons (.v _) (.cons (.v _) (.cons (.ro _ _ rfl) (.cons (.ro _ _ rfl) (.cons (.v _) (.cons (.v _) (.cons (.v _) (.cons (.v _) (.cons (.ro _ _ rfl) (.cons (.v _) (.cons (.v _) (.cons (.v _) (.cons (.ro _ _ rfl) (.nil)))))))))))))))) rfl (by decide) (by decide)),
     st_plain rfl (op_app_fr_cell _ 29 0 1 _ _ el31 rfl rfl (Nat.le_of_ble_eq_true rfl) rfl (gflat_len T_Rec.ilen _) (gflat_len T_Rec.ilen _) hv6 (gflat_app (app_eq hv6)) (by decide) (by decide) (by decide) rfl rfl),
     st_plain rfl (op_nilCheck_name _ _ _ 0 rfl rfl (by decide)),
     st_plain rfl (op_fieldAddr _ _ _ _ 0 0 _ Try.underlying64 rfl sz31 rfl rfl (by decide)),
     st_plain rfl (LOp.drop [_] (op_store_take _ _ _ _ _ _ _ _ sz31 rfl rfl rfl (Nat.le_of_ble_eq_true rfl) rfl rfl)),
     trivial⟩ ?_
    refine pt_then ?_
    refine ht_seq ?_
    obtain ⟨v7, hv7, h⟩ := bind_some h
    obtain ⟨v8, hv8, h⟩ := bind_some h
    refine ht_anyR (by kernel_rfl) hn (El := [_, _, _, (32, .same (.slot 0)), (33, .ptr 0 0), (34, .ptr 0 2), (35, .v (.int .i64 d.used)), (36, .agg [.v (.int .i64 p_r.Kind), .v (.bool p_r.Mail.From.Null), .v (.string p_r.Mail.From.Local), .v (.string p_r.Mail.From.Domain), .fl .shr 3 (List.flatten (List.map T_Path.enc p_r.Mail.To)), .fl .shr 1 (List.map (Value.int .u8) p_r.Mail.Body), .v (.bool p_r.Mail.Quiet), .v (.string p_r.Mail.Helo), .v (.int .i64 p_r.Mail.At), .v (.int .i64 p_r.Id), .fl .shr 1 (List.map (Value.int .i64) p_r.Ids), .v (.int .i64 p_r.Origin), .v (.int .i64 p_r.Number), .v (.int .i64 p_r.Offset), .fl .shr 1 (List.map (Value.int .u8) p_r.Data)]), (37, .v (.int .i64 v7)), (38, .v (.int .i64 v8)), (39, .ptr 0 0), (40, .ptr 0 2), (0, .box 64 [.v (.int .i64 d.limit), .fr (.own 46) false 15 (List.flatten (List.map T_Rec.ienc v6)), .v (.int .i64 v8), .v (.int .i64 d.safe), .v (.int .i64 d.kept), .v (.int .i64 d.life), .v (.bool d.off), .v (.int .i64 d.trip), .v (.int .i64 d.tripKeep)])]) (init := [0, 1, 2]) (fin := [12, 1]) (sps := [⟨[], [], [3], [(.slot 32)]⟩, ⟨[3, 0], [], [4], [(.slot 33)]⟩, ⟨[4, 0], [], [5], [(.slot 34)]⟩, ⟨[5, 0], [], [6], [(.slot 35)]⟩, ⟨[2], [], [7], [(.slot 36)]⟩, ⟨[7], [], [8], [(.slot 37)]⟩, ⟨[6, 8], [], [9], [(.slot 38)]⟩, ⟨[3, 0], [], [10], [(.slot 39)]⟩, ⟨[10, 0], [], [11], [(.slot 40)]⟩, ⟨[11, 9], [0], [12], [.cell 0 2]⟩]) (es' := [(0, .box 64 [.v (.int .i64 d.limit), .fr (.own 46) false 15 (List.flatten (List.map T_Rec.ienc v6)), .v (.int .i64 v8), .v (.int .i64 d.safe), .v (.int .i64 d.kept), .v (.int .i64 d.life), .v (.bool d.off), .v (.int .i64 d.trip), .v (.int .i64 d.tripKeep)]), (_, _)]) (by kernel_rfl) rfl rfl
     ⟨st_plain rfl (op_move_name _ _ _ rfl),
     st_plain rfl (op_nilCheck_name _ _ _ 0 rfl rfl (by decide)),
     st_plain rfl (op_fieldAddr _ _ _ _ 0 0 _ Try.underlying64 rfl sz3 rfl rfl (by decide)),
     st_plain rfl (op_load _ _ _ _ _ _ Try.underlying3 rfl rfl rfl (Nat.le_of_ble_eq_true rfl) rfl rfl rfl),
     st_plain rfl (op_loadA _ _ _ _ _ _ _ Try.underlying46 rfl sz46 rfl rfl (Nat.le_of_ble_eq_true rfl) rfl rfl),
     st_plain rfl (op_call _ _ 33 _ _ rfl Try.call33 rfl (ok_diary_Room ((T_Rec.mk p_r.Kind ((T_Mail.mk (T_Path.mk p_r.Mail.From.Null p_r.Mail.From.Local p_r.Mail.From.Domain) p_r.Mail.To p_r.Mail.Body p_r.Mail.Quiet p_r.Mail.Helo p_r.Mail.At)) p_r.Id p_r.Ids p_r.Origin p_r.Number p_r.Offset p_r.Data)) _ hv7) rfl rfl),
     st_plain rfl (op_bin _ _ _ _ _ rfl rfl (ibind (f := Value.int .i64) (Option.some.inj hv8))),
     st_plain rfl (op_nilCheck_name _ _ _ 0 rfl rfl (by decide)),
     st_plain rfl (op_fieldAddr _ _ _ _ 0 0 _ Try.underlying64 rfl sz3 rfl rfl (by decide)),
     st_plain rfl (op_store _ _ _ _ _ _ _ _ sz3 rfl rfl rfl rfl (Nat.le_of_ble_eq_true rfl) rfl rfl),
     trivial⟩ ?_
    refine pt_then ?_
    refine ht_seq ?_
    obtain ⟨v9, hv9, h⟩ := bind_some h
    refine ht_seqR hn (El := [_, _, (41, .ptr 0 0), (42, .v (.int .i64 v9.1)), (0, .box 64 [.v (.int .i64 v9.2.limit), .fr (.own 46) false 15 (List.flatten (List.map T_Rec.ienc v9.2.recs)), .v (.int .i64 v9.2.used), .v (.int .i64 v9.2.safe), .v (.int .i64 v9.2.kept), .v (.int .i64 v9.2.life), .v (.bool v9.2.off), .v (.int .i64 v9.2.trip), .v (.int .i64 v9.2.tripKeep)]), (4, .v (.int .i64 v9.1))]) (init := [0, 1]) (fin := [4, 1, 5]) (sps := [⟨[0], [], [2], [(.slot 41)]⟩, ⟨[2], [0], [4, 3], [(.slot 42), (.cell 0 0), (.cell 0 1), (.cell 0 2), (.cell 0 3), (.cell 0 4), (.cell 0 5), (.cell 0 6), (.cell 0 7), (.cell 0 8)]⟩, ⟨[3], [], [5], [(.slot 4)]⟩]) (es' := [(0, .box 64 [.v (.int .i64 v9.2.limit), .fr (.own 46) false 15 (List.flatten (List.map T_Rec.ienc v9.2.recs)), .v (.int .i64 v9.2.used), .v (.int .i64 v9.2.safe), .v (.int .i64 v9.2.kept), .v (.int .i64 v9.2.life), .v (.bool v9.2.off), .v (.int .i64 v9.2.trip), .v (.int .i64 v9.2.tripKeep)]), (_, _), (4, .v (.int .i64 v9.1))]) (by kernel_rfl) rfl rfl
     ⟨st_plain rfl (op_move _ _ _ _ rfl rfl),
     st_plain rfl (op_callP _ _ _ _ 42 42 [.tmp 41] [] _ _ _ rfl Try.call42 rfl rfl rfl (ok_diary_Diary_step (T_diary_Diary.mk d.limit v6 v8 d.safe d.kept d.life d.off d.trip d.tripKeep) _ hv9) (Nat.le_of_ble_eq_true rfl) rfl rfl rfl rfl rfl rfl rfl rfl),
     st_plain rfl (op_assign _ _ _ _ rfl rfl),
     trivial⟩ ?_
    refine pt_then ?_
    refine ht_ret ?_
    refine pt_pick [2, 0, 1] (by kernel_rfl) (es' := [(_, _), (_, _), (_, _)]) rfl ?_
    obtain rfl := Option.some.inj h
    exact pt_retP (es := [(4, .v (.int .i64 v9.1))]) (posts := [.box 64 [.v (.int .i64 v9.2.limit), .fr (.own 46) false 15 (List.flatten (List.map T_Rec.ienc v9.2.recs)), .v (.int .i64 v9.2.used), .v (.int .i64 v9.2.safe), .v (.int .i64 v9.2.kept), .v (.int .i64 v9.2.life), .v (.bool v9.2.off), .v (.int .i64 v9.2.trip), .v (.int .i64 v9.2.tripKeep)]]) hio rfl rfl (.tmp _ _ .nil) rfl rfl hargs0 rfl

set_option maxHeartbeats 1000000 in
theorem ok_diary_Diary_settle (d : T_diary_Diary) (r : T_diary_Diary) (h : Sh.diary_Diary_settle d = some r) : FnP Try.prog 46 [.box 64 [.v (.int .i64 d.limit), .fr (.own 46) false 15 (List.flatten (List.map T_Rec.ienc d.recs)), .v (.int .i64 d.used), .v (.int .i64 d.safe), .v (.int .i64 d.kept), .v (.int .i64 d.life), .v (.bool d.off), .v (.int .i64 d.trip), .v (.int .i64 d.tripKeep)]] [.box 64 [.v (.int .i64 r.limit), .fr (.own 46) false 15 (List.flatten (List.map T_Rec.ienc r.recs)), .v (.int .i64 r.used), .v (.int .i64 r.safe), .v (.int .i64 r.kept), .v (.int .i64 r.life), .v (.bool r.off), .v (.int .i64 r.trip), .v (.int .i64 r.tripKeep)]] (.tup []) := by
  unfold Sh.diary_Diary_settle at h
  refine fn_okP Try.func46 rfl (Nat.le_of_ble_eq_true rfl) rfl (Nat.le_of_ble_eq_true rfl) fun args0 hargs0 g0 hn hio => ?_
  refine ht_seq ?_
  refine ht_seqR hn (El := [_, _, (2, .ptr 0 0), (3, .ptr 0 0), (4, .ptr 0 0), (5, .ptr 0 1), (6, .same (.cell 0 1)), (7, .v (.int .i64 (d.recs.length : Int))), (8, .ptr 0 0), (9, .ptr 0 3), (0, .box 64 [.v (.int .i64 d.limit), .fr (.own 46) false 15 (List.flatten (List.map T_Rec.ienc d.recs)), .v (.int .i64 d.used), .v (.int .i64 (d.recs.length : Int)), .v (.int .i64 d.kept), .v (.int .i64 d.life), .v (.bool d.off), .v (.int .i64 d.trip), .v (.int .i64 d.tripKeep)])]) (init := [0, 1]) (fin := [10, 1]) (sps := [⟨[0], [], [2], [(.slot 2)]⟩, ⟨[0], [], [3], [(.slot 3)]⟩, ⟨[3, 0], [], [4], [(.slot 4)]⟩, ⟨[4, 0], [], [5], [(.slot 5)]⟩, ⟨[5, 0], [], [6], [(.slot 6)]⟩, ⟨[6, 0], [], [7], [(.slot 7)]⟩, ⟨[2, 0], [], [8], [(.slot 8)]⟩, ⟨[8, 0], [], [9], [(.slot 9)]⟩, ⟨[9, 7], [0], [10], [.cell 0 3]⟩]) (es' := [(0, .box 64 [.v (.int .i64 d.limit), .fr (.own 46) false 15 (List.flatten (List.map T_Rec.ienc d.recs)), .v (.int .i64 d.used), .v (.int .i64 (d.recs.length : Int)), .v (.int .i64 d.kept), .v (.int .i64 d.life), .v (.bool d.off), .v (.int .i64 d.trip), .v (.int .i64 d.tripKeep)]), (_, _)]) (by kernel_rfl) rfl rfl
   ⟨st_plain rfl (op_move _ _ _ _ rfl rfl),
   st_plain rfl (op_move _ _ _ _ rfl rfl),
   st_plain rfl (op_nilCheck _ _ _ 0 0 rfl (by decide)),
   st_plain rfl (op_fieldAddr _ _ _ _ 0 0 _ Try.underlying64 rfl sz31 rfl rfl (by decide)),
   st_plain rfl (op_load _ _ _ _ _ _ Try.underlying31 rfl rfl rfl (Nat.le_of_ble_eq_true rfl) rfl rfl rfl),
   st_plain rfl (op_len_fr _ _ _ Try.underlying31 rfl (by decide) (gflat_len T_Rec.ilen _)),
   st_plain rfl (op_nilCheck _ _ _ 0 0 rfl (by decide)),
   st_plain rfl (op_fieldAddr _ _ _ _ 0 0 _ Try.underlying64 rfl sz3 rfl rfl (by decide)),
   st_plain rfl (op_store _ _ _ _ _ _ _ _ sz3 rfl rfl rfl rfl (Nat.le_of_ble_eq_true rfl) rfl rfl),
   trivial⟩ ?_
  refine pt_then ?_
  refine ht_seqR hn (El := [_, _, (10, .ptr 0 0), (11, .ptr 0 0), (12, .ptr 0 4), (0, .box 64 [.v (.int .i64 d.limit), .fr (.own 46) false 15 (List.flatten (List.map T_Rec.ienc d.recs)), .v (.int .i64 d.used), .v (.int .i64 (d.recs.length : Int)), .v (.int .i64 0), .v (.int .i64 d.life), .v (.bool d.off), .v (.int .i64 d.trip), .v (.int .i64 d.tripKeep)])]) (init := [0, 1]) (fin := [5, 1]) (sps := [⟨[0], [], [2], [(.slot 10)]⟩, ⟨[2, 0], [], [3], [(.slot 11)]⟩, ⟨[3, 0], [], [4], [(.slot 12)]⟩, ⟨[4], [0], [5], [.cell 0 4]⟩]) (es' := [(0, .box 64 [.v (.int .i64 d.limit), .fr (.own 46) false 15 (List.flatten (List.map T_Rec.ienc d.recs)), .v (.int .i64 d.used), .v (.int .i64 (d.recs.length : Int)), .v (.int .i64 0), .v (.int .i64 d.life), .v (.bool d.off), .v (.int .i64 d.trip), .v (.int .i64 d.tripKeep)]), (_, _)]) (by kernel_rfl) rfl rfl
   ⟨st_plain rfl (op_move _ _ _ _ rfl rfl),
   st_plain rfl (op_nilCheck _ _ _ 0 0 rfl (by decide)),
   st_plain rfl (op_fieldAddr _ _ _ _ 0 0 _ Try.underlying64 rfl sz3 rfl rfl (by decide)),
   st_plain rfl (op_store _ _ _ _ _ _ _ _ sz3 rfl rfl rfl rfl (Nat.le_of_ble_eq_true rfl) rfl rfl),
   trivial⟩ ?_
  obtain rfl := Option.some.inj h
  exact pt_endP (es := []) (posts := [.box 64 [.v (.int .i64 d.limit), .fr (.own 46) false 15 (List.flatten (List.map T_Rec.ienc d.recs)), .v (.int .i64 d.used), .v (.int .i64 (d.recs.length : Int)), .v (.int .i64 0), .v (.int .i64 d.life), .v (.bool d.off), .v (.int .i64 d.trip), .v (.int .i64 d.tripKeep)]]) hio rfl rfl .nil rfl rfl hargs0 rfl

set_option maxHeartbeats 1000000 in
theorem ok_diary_Diary_Sync (d : T_diary_Diary) (r : (Int × T_diary_Diary)) (h : Sh.diary_Diary_Sync d = some r) : FnP Try.prog 17 [.box 64 [.v (.int .i64 d.limit), .fr (.own 46) false 15 (List.flatten (List.map T_Rec.ienc d.recs)), .v (.int .i64 d.used), .v (.int .i64 d.safe), .v (.int .i64 d.kept), .v (.int .i64 d.life), .v (.bool d.off), .v (.int .i64 d.trip), .v (.int .i64 d.tripKeep)]] [.box 64 [.v (.int .i64 r.2.limit), .fr (.own 46) false 15 (List.flatten (List.map T_Rec.ienc r.2.recs)), .v (.int .i64 r.2.used), .v (.int .i64 r.2.safe), .v (.int .i64 r.2.kept), .v (.int .i64 r.2.life), .v (.bool r.2.off), .v (.int .i64 r.2.trip), .v (.int .i64 r.2.tripKeep)]] (.v (.int .i64 r.1)) := by
  unfold Sh.diary_Diary_Sync at h
  refine fn_okP Try.func17 rfl (Nat.le_of_ble_eq_true rfl) rfl (Nat.le_of_ble_eq_true rfl) fun args0 hargs0 g0 hn hio => ?_
  refine ht_seq ?_
  refine ht_seqR hn (El := [_, _, (2, .v (.int .i64 0))]) (init := [0, 1]) (fin := [0, 1]) (sps := [⟨[], [], [2], [(.slot 2)]⟩]) (es' := [(_, _), (_, _)]) (by kernel_rfl) rfl rfl
   ⟨st_plain rfl (op_assign _ _ _ _ rfl rfl),
   trivial⟩ ?_
  refine pt_then ?_
  refine ht_seq ?_
  refine ht_seq ?_
  refine ht_seqR hn (El := [_, _, (4, .ptr 0 0), (5, .ptr 0 0), (6, .ptr 0 6), (7, .v (.bool d.off))]) (init := [0, 1]) (fin := [0, 1, 5]) (sps := [⟨[0], [], [2], [(.slot 4)]⟩, ⟨[2, 0], [], [3], [(.slot 5)]⟩, ⟨[3, 0], [], [4], [(.slot 6)]⟩, ⟨[4, 0], [], [5], [(.slot 7)]⟩]) (es' := [(_, _), (_, _), (7, .v (.bool d.off))]) (by kernel_rfl) rfl rfl
   ⟨st_plain rfl (op_move _ _ _ _ rfl rfl),
   st_plain rfl (op_nilCheck _ _ _ 0 0 rfl (by decide)),
   st_plain rfl (op_fieldAddr _ _ _ _ 0 0 _ Try.underlying64 rfl sz4 rfl rfl (by decide)),
   st_plain rfl (op_load _ _ _ _ _ _ Try.underlying4 rfl rfl rfl (Nat.le_of_ble_eq_true rfl) rfl rfl rfl),
   trivial⟩ ?_
  refine pt_then ?_
  refine ht_cond _ rfl (fun hb1 => ?_) (fun hb1 => ?_)
  ·have h := cond_t hb1 h
   refine ht_seq ?_
   refine ht_seqR hn (El := [_, _, _, (2, .v (.int .i64 7))]) (init := [0, 1, 2]) (fin := [0, 1, 3]) (sps := [⟨[], [], [3], [(.slot 2)]⟩]) (es' := [(_, _), (_, _), (2, .v (.int .i64 7))]) (by kernel_rfl) rfl rfl
    ⟨st_plain rfl (op_assign _ _ _ _ rfl rfl),
    trivial⟩ ?_
   refine pt_then ?_
   refine ht_ret ?_
   refine pt_pick [2, 0, 1] (by kernel_rfl) (es' := [(_, _), (_, _), (_, _)]) rfl ?_
   refine pt_r_then ?_
   obtain rfl := Option.some.inj h
   exact pt_retP (es := [(2, .v (.int .i64 7))]) (posts := [.box 64 [.v (.int .i64 d.limit), .fr (.own 46) false 15 (List.flatten (List.map T_Rec.ienc d.recs)), .v (.int .i64 d.used), .v (.int .i64 d.safe), .v (.int .i64 d.kept), .v (.int .i64 d.life), .v (.bool d.off), .v (.int .i64 d.trip), .v (.int .i64 d.tripKeep)]]) hio rfl rfl (.tmp _ _ .nil) rfl rfl hargs0 rfl
  ·have h := cond_f hb1 h
   refine ht_skip ?_
   refine pt_then ?_
   refine ht_seq ?_
   refine ht_seq ?_
   obtain ⟨v2, hv2, h⟩ := bind_some h
   refine ht_seqR hn (El := [_, _, _, (8, .ptr 0 0), (9, .v (.int .i64 v2.1)), (0, .box 64 [.v (.int .i64 v2.2.limit), .fr (.own 46) false 15 (List.flatten (List.map T_Rec.ienc v2.2.recs)), .v (.int .i64 v2.2.used), .v (.int .i64 v2.2.safe), .v (.int .i64 v2.2.kept), .v (.int .i64 v2.2.life), .v (.bool v2.2.off), .v (.int .i64 v2.2.trip), .v (.int .i64 v2.2.tripKeep)]), (3, .v (.int .i64 v2.1))]) (init := [0, 1, 2]) (fin := [5, 1, 6]) (sps := [⟨[0], [], [3], [(.slot 8)]⟩, ⟨[3], [0], [5, 4], [(.slot 9), (.cell 0 0), (.cell 0 1), (.cell 0 2), (.cell 0 3), (.cell 0 4), (.cell 0 5), (.cell 0 6), (.cell 0 7), (.cell 0 8)]⟩, ⟨[4], [], [6], [(.slot 3)]⟩]) (es' := [(0, .box 64 [.v (.int .i64 v2.2.limit), .fr (.own 46) false 15 (List.flatten (List.map T_Rec.ienc v2.2.recs)), .v (.int .i64 v2.2.used), .v (.int .i64 v2.2.safe), .v (.int .i64 v2.2.kept), .v (.int .i64 v2.2.life), .v (.bool v2.2.off), .v (.int .i64 v2.2.trip), .v (.int .i64 v2.2.tripKeep)]), (_, _), (3, .v (.int .i64 v2.1))]) (by kernel_rfl) rfl rfl
    ⟨st_plain rfl (op_move _ _ _ _ rfl rfl),
    st_plain rfl (op_callP _ _ _ _ 9 42 [.tmp 8] [] _ _ _ rfl Try.call42 rfl rfl rfl (ok_diary_Diary_step d _ hv2) (Nat.le_of_ble_eq_true rfl) rfl rfl rfl rfl rfl rfl rfl rfl),
    st_plain rfl (op_assign _ _ _ _ rfl rfl),
    trivial⟩ ?_
   refine pt_then ?_
   refine ht_seq ?_
   refine ht_seqR hn (El := [_, _, _, (10, .v (.int .i64 v2.1)), (11, .v (.bool (v2.1 != 0)))]) (init := [0, 1, 2]) (fin := [0, 1, 2, 4]) (sps := [⟨[2], [], [3], [(.slot 10)]⟩, ⟨[3], [], [4], [(.slot 11)]⟩]) (es' := [(_, _), (_, _), (_, _), (11, .v (.bool (v2.1 != 0)))]) (by kernel_rfl) rfl rfl
    ⟨st_plain rfl (op_move _ _ _ _ rfl rfl),
    st_plain rfl (op_bin _ _ _ _ _ rfl rfl rfl),
    trivial⟩ ?_
   refine pt_then ?_
   refine ht_cond _ rfl (fun hb3 => ?_) (fun hb3 => ?_)
   ·have h := cond_t hb3 h
    refine ht_seq ?_
    refine ht_seqR hn (El := [_, _, _, _, (12, .v (.int .i64 v2.1)), (2, .v (.int .i64 v2.1))]) (init := [0, 1, 2, 3]) (fin := [0, 1, 5]) (sps := [⟨[2], [], [4], [(.slot 12)]⟩, ⟨[4], [], [5], [(.slot 2)]⟩]) (es' := [(_, _), (_, _), (2, .v (.int .i64 v2.1))]) (by kernel_rfl) rfl rfl
     ⟨st_plain rfl (op_move _ _ _ _ rfl rfl),
     st_plain rfl (op_assign _ _ _ _ rfl rfl),
     trivial⟩ ?_
    refine pt_then ?_
    refine ht_ret ?_
    refine pt_pick [2, 0, 1] (by kernel_rfl) (es' := [(_, _), (_, _), (_, _)]) rfl ?_
    refine pt_r_then ?_
    obtain rfl := Option.some.inj h
    exact pt_retP (es := [(2, .v (.int .i64 v2.1))]) (posts := [.box 64 [.v (.int .i64 v2.2.limit), .fr (.own 46) false 15 (List.flatten (List.map T_Rec.ienc v2.2.recs)), .v (.int .i64 v2.2.used), .v (.int .i64 v2.2.safe), .v (.int .i64 v2.2.kept), .v (.int .i64 v2.2.life), .v (.bool v2.2.off), .v (.int .i64 v2.2.trip), .v (.int .i64 v2.2.tripKeep)]]) hio rfl rfl (.tmp _ _ .nil) rfl rfl hargs0 rfl
   ·have h := cond_f hb3 h
    refine ht_skip ?_
    refine pt_then ?_
    refine ht_seq ?_
    obtain ⟨v4, hv4, h⟩ := bind_some h
    refine ht_seqR hn (El := [_, _, _, _, (13, .ptr 0 0), (14, .tup []), (0, .box 64 [.v (.int .i64 v4.limit), .fr (.own 46) false 15 (List.flatten (List.map T_Rec.ienc v4.recs)), .v (.int .i64 v4.used), .v (.int .i64 v4.safe), .v (.int .i64 v4.kept), .v (.int .i64 v4.life), .v (.bool v4.off), .v (.int .i64 v4.trip), .v (.int .i64 v4.tripKeep)])]) (init := [0, 1, 2, 3]) (fin := [6, 1]) (sps := [⟨[0], [], [4], [(.slot 13)]⟩, ⟨[4], [0], [6, 5], [(.slot 14), (.cell 0 0), (.cell 0 1), (.cell 0 2), (.cell 0 3), (.cell 0 4), (.cell 0 5), (.cell 0 6), (.cell 0 7), (.cell 0 8)]⟩]) (es' := [(0, .box 64 [.v (.int .i64 v4.limit), .fr (.own 46) false 15 (List.flatten (List.map T_Rec.ienc v4.recs)), .v (.int .i64 v4.used), .v (.int .i64 v4.safe), .v (.int .i64 v4.kept), .v (.int .i64 v4.life), .v (.bool v4.off), .v (.int .i64 v4.trip), .v (.int .i64 v4.tripKeep)]), (_, _)]) (by kernel_rfl) rfl rfl
     ⟨st_plain rfl (op_move _ _ _ _ rfl rfl),
     st_plain rfl (op_callP _ _ _ _ 14 46 [.tmp 13] [] _ _ _ rfl Try.call46 rfl rfl rfl (ok_diary_Diary_settle v2.2 _ hv4) (Nat.le_of_ble_eq_true rfl) rfl rfl rfl rfl rfl rfl rfl rfl),
     trivial⟩ ?_
    refine pt_then ?_
    refine ht_seq ?_
    refine ht_seqR hn (El := [_, _, (2, .v (.int .i64 0))]) (init := [0, 1]) (fin := [0, 1, 2]) (sps := [⟨[], [], [2], [(.slot 2)]⟩]) (es' := [(_, _), (_, _), (2, .v (.int .i64 0))]) (by kernel_rfl) rfl rfl
     ⟨st_plain rfl (op_assign _ _ _ _ rfl rfl),
     trivial⟩ ?_
    refine pt_then ?_
    refine ht_ret ?_
    refine pt_pick [2, 0, 1] (by kernel_rfl) (es' := [(_, _), (_, _), (_, _)]) rfl ?_
    obtain rfl := Option.some.inj h
    exact pt_retP (es := [(2, .v (.int .i64 0))]) (posts := [.box 64 [.v (.int .i64 v4.limit), .fr (.own 46) false 15 (List.flatten (List.map T_Rec.ienc v4.recs)), .v (.int .i64 v4.used), .v (.int .i64 v4.safe), .v (.int .i64 v4.kept), .v (.int .i64 v4.life), .v (.bool v4.off), .v (.int .i64 v4.trip), .v (.int .i64 v4.tripKeep)]]) hio rfl rfl (.tmp _ _ .nil) rfl rfl hargs0 rfl

set_option maxHeartbeats 1000000 in
theorem ok_diary_Diary_Start (d : T_diary_Diary) (r : T_diary_Diary) (h : Sh.diary_Diary_Start d = some r) : FnP Try.prog 25 [.box 64 [.v (.int .i64 d.limit), .fr (.own 46) false 15 (List.flatten (List.map T_Rec.ienc d.recs)), .v (.int .i64 d.used), .v (.int .i64 d.safe), .v (.int .i64 d.kept), .v (.int .i64 d.life), .v (.bool d.off), .v (.int .i64 d.trip), .v (.int .i64 d.tripKeep)]] [.box 64 [.v (.int .i64 r.limit), .fr (.own 46) false 15 (List.flatten (List.map T_Rec.ienc r.recs)), .v (.int .i64 r.used), .v (.int .i64 r.safe), .v (.int .i64 r.kept), .v (.int .i64 r.life), .v (.bool r.off), .v (.int .i64 r.trip), .v (.int .i64 r.tripKeep)]] (.tup []) := by
  unfold Sh.diary_Diary_Start at h
  refine fn_okP Try.func25 rfl (Nat.le_of_ble_eq_true rfl) rfl (Nat.le_of_ble_eq_true rfl) fun args0 hargs0 g0 hn hio => ?_
  refine ht_seqR hn (El := [_, _, (2, .ptr 0 0), (3, .ptr 0 0), (4, .ptr 0 6), (0, .box 64 [.v (.int .i64 d.limit), .fr (.own 46) false 15 (List.flatten (List.map T_Rec.ienc d.recs)), .v (.int .i64 d.used), .v (.int .i64 d.safe), .v (.int .i64 d.kept), .v (.int .i64 d.life), .v (.bool false), .v (.int .i64 d.trip), .v (.int .i64 d.tripKeep)])]) (init := [0, 1]) (fin := [5, 1]) (sps := [⟨[0], [], [2], [(.slot 2)]⟩, ⟨[2, 0], [], [3], [(.slot 3)]⟩, ⟨[3, 0], [], [4], [(.slot 4)]⟩, ⟨[4], [0], [5], [.cell 0 6]⟩]) (es' := [(0, .box 64 [.v (.int .i64 d.limit), .fr (.own 46) false 15 (List.flatten (List.map T_Rec.ienc d.recs)), .v (.int .i64 d.used), .v (.int .i64 d.safe), .v (.int .i64 d.kept), .v (.int .i64 d.life), .v (.bool false), .v (.int .i64 d.trip), .v (.int .i64 d.tripKeep)]), (_, _)]) (by kernel_rfl) rfl rfl
   ⟨st_plain rfl (op_move _ _ _ _ rfl rfl),
   st_plain rfl (op_nilCheck _ _ _ 0 0 rfl (by decide)),
   st_plain rfl (op_fieldAddr _ _ _ _ 0 0 _ Try.underlying64 rfl sz4 rfl rfl (by decide)),
   st_plain rfl (op_store _ _ _ _ _ _ _ _ sz4 rfl rfl rfl rfl (Nat.le_of_ble_eq_true rfl) rfl rfl),
   trivial⟩ ?_
  obtain rfl := Option.some.inj h
  exact pt_endP (es := []) (posts := [.box 64 [.v (.int .i64 d.limit), .fr (.own 46) false 15 (List.flatten (List.map T_Rec.ienc d.recs)), .v (.int .i64 d.used), .v (.int .i64 d.safe), .v (.int .i64 d.kept), .v (.int .i64 d.life), .v (.bool false), .v (.int .i64 d.trip), .v (.int .i64 d.tripKeep)]]) hio rfl rfl .nil rfl rfl hargs0 rfl

set_option maxHeartbeats 1000000 in
theorem ok_clone_Each_api_Rec_of_clone_Rec (l : (List T_Rec)) (r : (List T_Rec)) (h : Sh.clone_Each_api_Rec_of_clone_Rec l = some r) : FnOK Try.prog 48 [.fr .shr true 15 (List.flatten (List.map T_Rec.ienc l)), .v (.func (.func 41) #[] #[])] (.fr (.own 46) false 15 (List.flatten (List.map T_Rec.ienc r))) := by
  unfold Sh.clone_Each_api_Rec_of_clone_Rec at h
  refine fn_ok Try.func48 rfl (Nat.le_of_ble_eq_true rfl) rfl rfl fun g0 hn hio => ?_
  refine ht_seq ?_
  refine ht_seqR hn (El := [_, _, (4, .v (.slice none 0 0))]) (init := [0, 1]) (fin := [0, 1]) (sps := [⟨[], [], [2], [(.slot 4)]⟩]) (es' := [(_, _), (_, _)]) (by kernel_rfl) rfl rfl
   ⟨st_plain rfl (op_assign _ _ _ _ rfl rfl),
   trivial⟩ ?_
  refine pt_then ?_
  refine ht_seq ?_
  refine ht_seqR hn (El := [_, _, (5, .v (.slice none 0 0))]) (init := [0, 1]) (fin := [0, 1, 2]) (sps := [⟨[], [], [2], [(.slot 5)]⟩]) (es' := [(_, _), (_, _), (5, .v (.slice none 0 0))]) (by kernel_rfl) rfl rfl
   ⟨st_plain rfl (op_assign _ _ _ _ rfl rfl),
   trivial⟩ ?_
  refine pt_then ?_
  refine ht_seq ?_
  refine ht_seq ?_
  refine ht_seqR hn (El := [_, _, _, (8, .fr .shr true 15 (List.flatten (List.map T_Rec.ienc l))), (9, .v (.int .i64 (l.length : Int))), (10, .v (.int .i64 0))]) (init := [0, 1, 2]) (fin := [1, 2, 3, 4, 5]) (sps := [⟨[0], [], [3], [(.slot 8)]⟩, ⟨[3], [], [4], [(.slot 9)]⟩, ⟨[], [], [5], [(.slot 10)]⟩]) (es' := [(_, _), (_, _), (8, .fr .shr true 15 (List.flatten (List.map T_Rec.ienc l))), (9, .v (.int .i64 (l.length : Int))), (10, .v (.int .i64 0))]) (by kernel_rfl) rfl rfl
   ⟨st_plain rfl (op_move _ _ _ _ rfl rfl),
   st_plain rfl (op_len_fr _ _ _ Try.underlying31 rfl (by decide) (gflat_len T_Rec.ilen _)),
   st_plain rfl (op_move _ _ _ _ rfl rfl),
   trivial⟩ ?_
  refine pt_then ?_
  refine ht_sub (fs := [(1, .v (.func (.func 41) #[] #[])), (5, .fr (.own 46) false 15 (List.flatten (List.map T_Rec.ienc []))), (8, .fr .shr true 15 (List.flatten (List.map T_Rec.ienc l))), (9, .v (.int .i64 (l.length : Int))), (10, .v (.int .i64 0))]) (.same _ (.sub _ (sub_nil_fr 46 false 15) rfl (.same _ (.same _ (.same _ .nil))))) ?_
  refine ht_loopS h (fun ((s10, s11) : (List T_Rec) × Int) => [(1, .v (.func (.func 41) #[] #[])), (5, .fr (.own 46) false 15 (List.flatten (List.map T_Rec.ienc s10))), (8, .fr .shr true 15 (List.flatten (List.map T_Rec.ienc l))), (9, .v (.int .i64 (l.length : Int))), (10, .v (.int .i64 s11))]) (fun (s13 : (List T_Rec)) => [(5, .fr (.own 46) false 15 (List.flatten (List.map T_Rec.ienc s13)))]) ?_ ?_
  ·rintro s13 h
   refine pt_then ?_
   refine ht_seq ?_
   refine ht_seqR hn (El := [_, (21, .fr (.own 46) false 15 (List.flatten (List.map T_Rec.ienc s13))), (4, .fr (.own 46) false 15 (List.flatten (List.map T_Rec.ienc s13)))]) (init := [0]) (fin := [2]) (sps := [⟨[], [0], [1], [(.slot 21)]⟩, ⟨[], [1], [2], [(.slot 4)]⟩]) (es' := [(4, .fr (.own 46) false 15 (List.flatten (List.map T_Rec.ienc s13)))]) (by kernel_rfl) rfl rfl
    ⟨st_plain rfl (op_move_take _ _ _ _ rfl),
    st_plain rfl (op_assign_take _ _ _ _ rfl),
    trivial⟩ ?_
   refine pt_then ?_
   refine ht_ret ?_
   obtain rfl := Option.some.inj h
   exact pt_ret hio rfl (.tmp _ _ .nil) rfl rfl
  ·rintro u14 hl15 hr16 ⟨s10, s11⟩ rr19 h ho17
   refine ht_seq ?_
   refine ht_seqR hn (El := [_, _, _, _, _, (11, .v (.bool ((decide (s11 < (l.length : Int))))))]) (init := [0, 1, 2, 3, 4]) (fin := [0, 1, 2, 3, 4, 5]) (sps := [⟨[4, 3], [], [5], [(.slot 11)]⟩]) (es' := [(_, _), (_, _), (_, _), (_, _), (_, _), (11, .v (.bool ((decide (s11 < (l.length : Int))))))]) (by kernel_rfl) rfl rfl
    ⟨st_plain rfl (op_bin _ _ _ _ _ rfl rfl rfl),
    trivial⟩ ?_
   refine pt_then ?_
   refine ht_seq ?_
   refine ht_cond _ rfl (fun hb20 => ?_) (fun hb20 => ?_)
   ·have h := cond_t hb20 h
    refine ht_skip ?_
    refine pt_then ?_
    refine ht_seq ?_
    refine ht_block ?_
    refine ht_seq ?_
    obtain ⟨v2, hv2, h⟩ := bind_some h
    obtain ⟨v3, hv3, h⟩ := bind_some h
    refine ht_seqR hn (El := [_, _, _, _, _, _, (12, .eref (.slot 8) (v2 * 15)), (13, .agg [.v (.int .i64 v3.Kind), .v (.bool v3.Mail.From.Null), .v (.string v3.Mail.From.Local), .v (.string v3.Mail.From.Domain), .fl .shr 3 (List.flatten (List.map T_Path.enc v3.Mail.To)), .fl .shr 1 (List.map (Value.int .u8) v3.Mail.Body), .v (.bool v3.Mail.Quiet), .v (.string v3.Mail.Helo), .v (.int .i64 v3.Mail.At), .v (.int .i64 v3.Id), .fl .shr 1 (List.map (Value.int .i64) v3.Ids), .v (.int .i64 v3.Origin), .v (.int .i64 v3.Number), .v (.int .i64 v3.Offset), .fl .shr 1 (List.map (Value.int .u8) v3.Data)]), (7, .box 46 [.v (.int .i64 0), .v (.bool false), .v (.string (⟨#[]⟩ : ByteArray)), .v (.string (⟨#[]⟩ : ByteArray)), .v (.slice none 0 0), .v (.slice none 0 0), .v (.bool false), .v (.string (⟨#[]⟩ : ByteArray)), .v (.int .i64 0), .v (.int .i64 0), .v (.slice none 0 0), .v (.int .i64 0), .v (.int .i64 0), .v (.int .i64 0), .v (.slice none 0 0)]), (7, .box 46 [.v (.int .i64 v3.Kind), .v (.bool v3.Mail.From.Null), .v (.string v3.Mail.From.Local), .v (.string v3.Mail.From.Domain), .fl .shr 3 (List.flatten (List.map T_Path.enc v3.Mail.To)), .fl .shr 1 (List.map (Value.int .u8) v3.Mail.Body), .v (.bool v3.Mail.Quiet), .v (.string v3.Mail.Helo), .v (.int .i64 v3.Mail.At), .v (.int .i64 v3.Id), .fl .shr 1 (List.map (Value.int .i64) v3.Ids), .v (.int .i64 v3.Origin), .v (.int .i64 v3.Number), .v (.int .i64 v3.Offset), .fl .shr 1 (List.map (Value.int .u8) v3.Data)])]) (init := [0, 1, 2, 3, 4, 5]) (fin := [0, 1, 2, 3, 4, 9]) (sps := [⟨[2, 4], [], [6], [(.slot 12)]⟩, ⟨[6, 2], [], [7], [(.slot 13)]⟩, ⟨[], [], [8], [(.slot 7)]⟩, ⟨[7], [8], [9], [.cell 7 0, .cell 7 1, .cell 7 2, .cell 7 3, .cell 7 4, .cell 7 5, .cell 7 6, .cell 7 7, .cell 7 8, .cell 7 9, .cell 7 10, .cell 7 11, .cell 7 12, .cell 7 13, .cell 7 14]⟩]) (es' := [(_, _), (_, _), (_, _), (_, _), (_, _), (7, .box 46 [.v (.int .i64 v3.Kind), .v (.bool v3.Mail.From.Null), .v (.string v3.Mail.From.Local), .v (.string v3.Mail.From.Domain), .fl .shr 3 (List.flatten (List.map T_Path.enc v3.Mail.To)), .fl .shr 1 (List.map (Value.int .u8) v3.Mail.Body), .v (.bool v3.Mail.Quiet), .v (.string v3.Mail.Helo), .v (.int .i64 v3.Mail.At), .v (.int .i64 v3.Id), .fl .shr 1 (List.map (Value.int .i64) v3.Ids), .v (.int .i64 v3.Origin), .v (.int .i64 v3.Number), .v (.int .i64 v3.Offset), .fl .shr 1 (List.map (Value.int .u8) v3.Data)])]) (by kernel_rfl) rfl rfl
     ⟨st_plain rfl (op_ix_fr _ _ _ _ _ _ _ _ Try.underlying31 sz46 (by decide) rfl rfl rfl (ix_ok hv2).1 (gflat_lt T_Rec.ilen (ix_ok hv2).2) rfl),
     st_plain rfl (op_loadA_fr _ _ _ _ _ _ _ _ Try.underlying46 rfl sz46 rfl rfl (gflat_get T_Rec.ilen hv3) (.cons (.v _) (.cons (.v _) (.cons (.v _) (.cons (.v _) (.cons (.fl _ _ rfl) (.cons (.fl _ _ rfl) (.cons (.v _) (.cons (.v _) (.cons (.v _) (.cons (.v _) (.cons (.fl _ _ rfl) (.cons (.v _) (.cons (.v _) (.cons (.v _) (.cons (.fl _ _ rfl) (.nil)))))))))))))))) rfl (by decide)),
     st_plain rfl (op_alloc _ _ zr46),
     st_plain rfl (op_store _ _ _ _ _ _ _ _ sz46 rfl rfl rfl rfl (Nat.le_of_ble_eq_true rfl) rfl rfl),
     trivial⟩ ?_
    refine pt_then ?_
    obtain ⟨v4, hv4, h⟩ := bind_some h
    obtain ⟨v5, hv5, h⟩ := bind_some h
    refine ht_seqR hn (El := [_, _, _, _, _, _, (14, .fr (.own 46) false 15 (List.flatten (List.map T_Rec.ienc s10))), (15, .v (.func (.func 41) #[] #[])), (16, .agg [.v (.int .i64 v3.Kind), .v (.bool v3.Mail.From.Null), .v (.string v3.Mail.From.Local), .v (.string v3.Mail.From.Domain), .fl .shr 3 (List.flatten (List.map T_Path.enc v3.Mail.To)), .fl .shr 1 (List.map (Value.int .u8) v3.Mail.Body), .v (.bool v3.Mail.Quiet), .v (.string v3.Mail.Helo), .v (.int .i64 v3.Mail.At), .v (.int .i64 v3.Id), .fl .shr 1 (List.map (Value.int .i64) v3.Ids), .v (.int .i64 v3.Origin), .v (.int .i64 v3.Number), .v (.int .i64 v3.Offset), .fl .shr 1 (List.map (Value.int .u8) v3.Data)]), (17, .agg [.v (.int .i64 v4.Kind), .v (.bool v4.Mail.From.Null), .v (.string v4.Mail.From.Local), .v (.string v4.Mail.From.Domain), .fl (.own 39) 3 (List.flatten (List.map T_Path.enc v4.Mail.To)), .fl (.own 5) 1 (List.map (Value.int .u8) v4.Mail.Body), .v (.bool v4.Mail.Quiet), .v (.string v4.Mail.Helo), .v (.int .i64 v4.Mail.At), .v (.int .i64 v4.Id), .fl (.own 3) 1 (List.map (Value.int .i64) v4.Ids), .v (.int .i64 v4.Origin), .v (.int .i64 v4.Number), .v (.int .i64 v4.Offset), .fl (.own 5) 1 (List.map (Value.int .u8) v4.Data)]), (18, .fr (.own 46) false 15 (List.flatten (List.map T_Rec.ienc [(T_Rec.mk v4.Kind ((T_Mail.mk (T_Path.mk v4.Mail.From.Null v4.Mail.From.Local v4.Mail.From.Domain) v4.Mail.To v4.Mail.Body v4.Mail.Quiet v4.Mail.Helo v4.Mail.At)) v4.Id v4.Ids v4.Origin v4.Number v4.Offset v4.Data)]))), (19, .fr (.own 46) false 15 (List.flatten (List.map T_Rec.ienc v5))), (14, .any), (5, .fr (.own 46) false 15 (List.flatten (List.map T_Rec.ienc v5)))]) (init := [0, 1, 2, 3, 4, 5]) (fin := [0, 2, 3, 4, 13]) (sps := [⟨[], [1], [6], [(.slot 14)]⟩, ⟨[0], [], [7], [(.slot 15)]⟩, ⟨[5], [], [8], [(.slot 16)]⟩, ⟨[8, 7], [], [9], [(.slot 17)]⟩, ⟨[], [9], [10], [(.slot 18)]⟩, ⟨[10], [6], [12, 11], [(.slot 19)]⟩, ⟨[], [11], [13], [(.slot 5)]⟩]) (es' := [(_, _), (_, _), (_, _), (_, _), (5, .fr (.own 46) false 15 (List.flatten (List.map T_Rec.ienc v5)))]) (by kernel_rfl) rfl rfl
     ⟨st_plain rfl (op_move_take _ _ _ _ rfl),
     st_plain rfl (op_move _ _ _ _ rfl rfl),
     st_plain rfl (op_loadA _ _ _ _ _ _ _ Try.underlying46 rfl sz46 rfl rfl (Nat.le_of_ble_eq_true rfl) rfl rfl),
     st_plain rfl (op_call _ _ 41 _ _ rfl Try.call41 rfl (ok_clone_Rec ((T_Rec.mk v3.Kind ((T_Mail.mk (T_Path.mk v3.Mail.From.Null v3.Mail.From.Local v3.Mail.From.Domain) v3.Mail.To v3.Mail.Body v3.Mail.Quiet v3.Mail.Helo v3.Mail.At)) v3.Id v3.Ids v3.Origin v3.Number v3.Offset v3.Data)) _ hv4) rfl rfl),
     st_plain rfl (op_build1_fr_take _ _ _ 15 (.agg #[.int .i64 0, .bool false, .string ByteArray.empty, .string ByteArray.empty, .slice none 0 0, .slice none 0 0, .bool false, .string ByteArray.empty, .int .i64 0, .int .i64 0, .slice none 0 0, .int .i64 0, .int .i64 0, .int .i64 0, .slice none 0 0]) false _ _ Try.underlying31 sz46 zr46 rfl (.cons (.v _) (.cons (.v _) (.cons (.v _) (.cons (.v _) (.cons (.ro _ _ rfl) (.cons (.ro _ _ rfl) (.cons (.v _) (.cons (.v _) (.cons (.v _) (.cons (.v _) (.cons (.ro _ _ rfl) (.cons (.v _) (.cons (.v _) (.cons (.v _) (.cons (.ro _ _ rfl) (.nil)))))))))))))))) rfl (by decide) (by decide)),
     st_plain rfl (op_app_fr _ _ _ _ _ el31 rfl rfl (gflat_len T_Rec.ilen _) (gflat_len T_Rec.ilen _) hv5 (gflat_app (app_eq hv5)) (by decide) (by decide)),
     st_plain rfl (op_assign_take _ _ _ _ rfl),
     trivial⟩ ?_
    refine pt_inb ?_
    refine pt_then ?_
    obtain ⟨v6, hv6, h⟩ := bind_some h
    refine ht_seqR hn (El := [_, _, _, _, _, (20, .v (.int .i64 v6)), (10, .v (.int .i64 v6))]) (init := [0, 1, 2, 3, 4]) (fin := [0, 1, 2, 4, 6]) (sps := [⟨[3], [], [5], [(.slot 20)]⟩, ⟨[5], [3], [6], [(.slot 10)]⟩]) (es' := [(_, _), (_, _), (_, _), (_, _), (10, .v (.int .i64 v6))]) (by kernel_rfl) rfl rfl
     ⟨st_plain rfl (op_bin _ _ _ _ _ rfl rfl (ibind (f := Value.int .i64) (Option.some.inj hv6))),
     st_plain rfl (LOp.drop [_] (op_move _ _ _ _ rfl rfl)),
     trivial⟩ ?_
    refine pt_pick [0, 3, 1, 2, 4] (by kernel_rfl) (es' := [(_, _), (_, _), (_, _), (_, _), (_, _)]) rfl ?_
    exact pt_next _ (Option.some.inj h).symm rfl
   ·have h := cond_f hb20 h
    refine ht_exit ?_
    refine pt_x_then ?_
    refine pt_x_then ?_
    refine pt_x_in ?_
    refine pt_pick [1] (by kernel_rfl) (es' := [(_, _)]) rfl ?_
    exact hl15 _ (ho17 _ (Option.some.inj h).symm).symm

set_option maxHeartbeats 1000000 in
theorem ok_diary_Diary_Read (d : T_diary_Diary) (r : ((List T_Rec) × Int × T_diary_Diary)) (h : Sh.diary_Diary_Read d = some r) : FnP Try.prog 30 [.box 64 [.v (.int .i64 d.limit), .fr (.own 46) false 15 (List.flatten (List.map T_Rec.ienc d.recs)), .v (.int .i64 d.used), .v (.int .i64 d.safe), .v (.int .i64 d.kept), .v (.int .i64 d.life), .v (.bool d.off), .v (.int .i64 d.trip), .v (.int .i64 d.tripKeep)]] [.box 64 [.v (.int .i64 r.2.2.limit), .fr (.own 46) false 15 (List.flatten (List.map T_Rec.ienc r.2.2.recs)), .v (.int .i64 r.2.2.used), .v (.int .i64 r.2.2.safe), .v (.int .i64 r.2.2.kept), .v (.int .i64 r.2.2.life), .v (.bool r.2.2.off), .v (.int .i64 r.2.2.trip), .v (.int .i64 r.2.2.tripKeep)]] (.tup [.fr (.own 46) false 15 (List.flatten (List.map T_Rec.ienc r.1)), .v (.int .i64 r.2.1)]) := by
  unfold Sh.diary_Diary_Read at h
  refine fn_okP Try.func30 rfl (Nat.le_of_ble_eq_true rfl) rfl (Nat.le_of_ble_eq_true rfl) fun args0 hargs0 g0 hn hio => ?_
  refine ht_seq ?_
  refine ht_seqR hn (El := [_, _, (2, .v (.slice none 0 0)), (3, .v (.int .i64 0))]) (init := [0, 1]) (fin := [0, 1]) (sps := [⟨[], [], [2], [(.slot 2)]⟩, ⟨[], [], [3], [(.slot 3)]⟩]) (es' := [(_, _), (_, _)]) (by kernel_rfl) rfl rfl
   ⟨st_plain rfl (op_assign _ _ _ _ rfl rfl),
   st_plain rfl (op_assign _ _ _ _ rfl rfl),
   trivial⟩ ?_
  refine pt_then ?_
  refine ht_seq ?_
  refine ht_seq ?_
  refine ht_seqR hn (El := [_, _, (4, .ptr 0 0), (5, .ptr 0 0), (6, .ptr 0 6), (7, .v (.bool d.off))]) (init := [0, 1]) (fin := [0, 1, 5]) (sps := [⟨[0], [], [2], [(.slot 4)]⟩, ⟨[2, 0], [], [3], [(.slot 5)]⟩, ⟨[3, 0], [], [4], [(.slot 6)]⟩, ⟨[4, 0], [], [5], [(.slot 7)]⟩]) (es' := [(_, _), (_, _), (7, .v (.bool d.off))]) (by kernel_rfl) rfl rfl
   ⟨st_plain rfl (op_move _ _ _ _ rfl rfl),
   st_plain rfl (op_nilCheck _ _ _ 0 0 rfl (by decide)),
   st_plain rfl (op_fieldAddr _ _ _ _ 0 0 _ Try.underlying64 rfl sz4 rfl rfl (by decide)),
   st_plain rfl (op_load _ _ _ _ _ _ Try.underlying4 rfl rfl rfl (Nat.le_of_ble_eq_true rfl) rfl rfl rfl),
   trivial⟩ ?_
  refine pt_then ?_
  refine ht_cond _ rfl (fun hb1 => ?_) (fun hb1 => ?_)
  ·have h := cond_t hb1 h
   refine ht_seq ?_
   refine ht_seqR hn (El := [_, _, _, (2, .v (.slice none 0 0)), (3, .v (.int .i64 7))]) (init := [0, 1, 2]) (fin := [0, 1, 3, 4]) (sps := [⟨[], [], [3], [(.slot 2)]⟩, ⟨[], [], [4], [(.slot 3)]⟩]) (es' := [(_, _), (_, _), (2, .v (.slice none 0 0)), (3, .v (.int .i64 7))]) (by kernel_rfl) rfl rfl
    ⟨st_plain rfl (op_assign _ _ _ _ rfl rfl),
    st_plain rfl (op_assign _ _ _ _ rfl rfl),
    trivial⟩ ?_
   refine pt_then ?_
   refine ht_ret ?_
   refine pt_pick [2, 3, 0, 1] (by kernel_rfl) (es' := [(_, _), (_, _), (_, _), (_, _)]) rfl ?_
   refine pt_sub (fs := [(2, .fr (.own 46) false 15 (List.flatten (List.map T_Rec.ienc []))), (3, .v (.int .i64 7)), (0, .box 64 [.v (.int .i64 d.limit), .fr (.own 46) false 15 (List.flatten (List.map T_Rec.ienc d.recs)), .v (.int .i64 d.used), .v (.int .i64 d.safe), .v (.int .i64 d.kept), .v (.int .i64 d.life), .v (.bool d.off), .v (.int .i64 d.trip), .v (.int .i64 d.tripKeep)]), (0, .v (List.getD args0 0 undef))]) (.sub _ (sub_nil_fr 46 false 15) rfl (.same _ (.same _ (.same _ .nil)))) ?_
   refine pt_r_then ?_
   obtain rfl := Option.some.inj h
   exact pt_retP (es := [(2, .fr (.own 46) false 15 (List.flatten (List.map T_Rec.ienc []))), (3, .v (.int .i64 7))]) (posts := [.box 64 [.v (.int .i64 d.limit), .fr (.own 46) false 15 (List.flatten (List.map T_Rec.ienc d.recs)), .v (.int .i64 d.used), .v (.int .i64 d.safe), .v (.int .i64 d.kept), .v (.int .i64 d.life), .v (.bool d.off), .v (.int .i64 d.trip), .v (.int .i64 d.tripKeep)]]) hio rfl rfl (.tmp _ _ (.tmp _ _ .nil)) rfl rfl hargs0 rfl
  ·have h := cond_f hb1 h
   refine ht_skip ?_
   refine pt_then ?_
   refine ht_seq ?_
   obtain ⟨v2, hv2, h⟩ := bind_some h
   refine ht_seqR hn (El := [_, _, _, (8, .ptr 0 0), (9, .ptr 0 0), (10, .ptr 0 1), (11, .same (.cell 0 1)), (12, .fr (.own 46) false 15 (List.flatten (List.map T_Rec.ienc v2))), (2, .fr (.own 46) false 15 (List.flatten (List.map T_Rec.ienc v2))), (3, .v (.int .i64 0))]) (init := [0, 1, 2]) (fin := [0, 1, 8, 9]) (sps := [⟨[0], [], [3], [(.slot 8)]⟩, ⟨[3, 0], [], [4], [(.slot 9)]⟩, ⟨[4, 0], [], [5], [(.slot 10)]⟩, ⟨[5, 0], [], [6], [(.slot 11)]⟩, ⟨[6, 0], [], [7], [(.slot 12)]⟩, ⟨[], [7], [8], [(.slot 2)]⟩, ⟨[], [], [9], [(.slot 3)]⟩]) (es' := [(_, _), (_, _), (2, .fr (.own 46) false 15 (List.flatten (List.map T_Rec.ienc v2))), (3, .v (.int .i64 0))]) (by kernel_rfl) rfl rfl
    ⟨st_plain rfl (op_move _ _ _ _ rfl rfl),
    st_plain rfl (op_nilCheck _ _ _ 0 0 rfl (by decide)),
    st_plain rfl (op_fieldAddr _ _ _ _ 0 0 _ Try.underlying64 rfl sz31 rfl rfl (by decide)),
    st_plain rfl (op_load _ _ _ _ _ _ Try.underlying31 rfl rfl rfl (Nat.le_of_ble_eq_true rfl) rfl rfl rfl),
    st_plain rfl (op_call _ _ 48 _ _ rfl Try.call48 rfl (ok_clone_Each_api_Rec_of_clone_Rec d.recs _ hv2) rfl rfl),
    st_plain rfl (op_assign_take _ _ _ _ rfl),
    st_plain rfl (op_assign _ _ _ _ rfl rfl),
    trivial⟩ ?_
   refine pt_then ?_
   refine ht_ret ?_
   refine pt_pick [2, 3, 0, 1] (by kernel_rfl) (es' := [(_, _), (_, _), (_, _), (_, _)]) rfl ?_
   obtain rfl := Option.some.inj h
   exact pt_retP (es := [(2, .fr (.own 46) false 15 (List.flatten (List.map T_Rec.ienc v2))), (3, .v (.int .i64 0))]) (posts := [.box 64 [.v (.int .i64 d.limit), .fr (.own 46) false 15 (List.flatten (List.map T_Rec.ienc d.recs)), .v (.int .i64 d.used), .v (.int .i64 d.safe), .v (.int .i64 d.kept), .v (.int .i64 d.life), .v (.bool d.off), .v (.int .i64 d.trip), .v (.int .i64 d.tripKeep)]]) hio rfl rfl (.tmp _ _ (.tmp _ _ .nil)) rfl rfl hargs0 rfl

set_option maxHeartbeats 1000000 in
theorem ok_diary_Diary_Used (d : T_diary_Diary) (r : (Int × T_diary_Diary)) (h : Sh.diary_Diary_Used d = some r) : FnP Try.prog 35 [.box 64 [.v (.int .i64 d.limit), .fr (.own 46) false 15 (List.flatten (List.map T_Rec.ienc d.recs)), .v (.int .i64 d.used), .v (.int .i64 d.safe), .v (.int .i64 d.kept), .v (.int .i64 d.life), .v (.bool d.off), .v (.int .i64 d.trip), .v (.int .i64 d.tripKeep)]] [.box 64 [.v (.int .i64 r.2.limit), .fr (.own 46) false 15 (List.flatten (List.map T_Rec.ienc r.2.recs)), .v (.int .i64 r.2.used), .v (.int .i64 r.2.safe), .v (.int .i64 r.2.kept), .v (.int .i64 r.2.life), .v (.bool r.2.off), .v (.int .i64 r.2.trip), .v (.int .i64 r.2.tripKeep)]] (.v (.int .i64 r.1)) := by
  unfold Sh.diary_Diary_Used at h
  refine fn_okP Try.func35 rfl (Nat.le_of_ble_eq_true rfl) rfl (Nat.le_of_ble_eq_true rfl) fun args0 hargs0 g0 hn hio => ?_
  refine ht_seq ?_
  refine ht_seqR hn (El := [_, _, (2, .v (.int .i64 0))]) (init := [0, 1]) (fin := [0, 1]) (sps := [⟨[], [], [2], [(.slot 2)]⟩]) (es' := [(_, _), (_, _)]) (by kernel_rfl) rfl rfl
   ⟨st_plain rfl (op_assign _ _ _ _ rfl rfl),
   trivial⟩ ?_
  refine pt_then ?_
  refine ht_seq ?_
  refine ht_seqR hn (El := [_, _, (3, .ptr 0 0), (4, .ptr 0 0), (5, .ptr 0 2), (6, .v (.int .i64 d.used)), (2, .v (.int .i64 d.used))]) (init := [0, 1]) (fin := [0, 1, 6]) (sps := [⟨[0], [], [2], [(.slot 3)]⟩, ⟨[2, 0], [], [3], [(.slot 4)]⟩, ⟨[3, 0], [], [4], [(.slot 5)]⟩, ⟨[4, 0], [], [5], [(.slot 6)]⟩, ⟨[5], [], [6], [(.slot 2)]⟩]) (es' := [(_, _), (_, _), (2, .v (.int .i64 d.used))]) (by kernel_rfl) rfl rfl
   ⟨st_plain rfl (op_move _ _ _ _ rfl rfl),
   st_plain rfl (op_nilCheck _ _ _ 0 0 rfl (by decide)),
   st_plain rfl (op_fieldAddr _ _ _ _ 0 0 _ Try.underlying64 rfl sz3 rfl rfl (by decide)),
   st_plain rfl (op_load _ _ _ _ _ _ Try.underlying3 rfl rfl rfl (Nat.le_of_ble_eq_true rfl) rfl rfl rfl),
   st_plain rfl (op_assign _ _ _ _ rfl rfl),
   trivial⟩ ?_
  refine pt_then ?_
  refine ht_ret ?_
  refine pt_pick [2, 0, 1] (by kernel_rfl) (es' := [(_, _), (_, _), (_, _)]) rfl ?_
  obtain rfl := Option.some.inj h
  exact pt_retP (es := [(2, .v (.int .i64 d.used))]) (posts := [.box 64 [.v (.int .i64 d.limit), .fr (.own 46) false 15 (List.flatten (List.map T_Rec.ienc d.recs)), .v (.int .i64 d.used), .v (.int .i64 d.safe), .v (.int .i64 d.kept), .v (.int .i64 d.life), .v (.bool d.off), .v (.int .i64 d.trip), .v (.int .i64 d.tripKeep)]]) hio rfl rfl (.tmp _ _ .nil) rfl rfl hargs0 rfl

set_option maxHeartbeats 1000000 in
theorem ok_diary_Diary_Life (d : T_diary_Diary) (r : (Int × T_diary_Diary)) (h : Sh.diary_Diary_Life d = some r) : FnP Try.prog 36 [.box 64 [.v (.int .i64 d.limit), .fr (.own 46) false 15 (List.flatten (List.map T_Rec.ienc d.recs)), .v (.int .i64 d.used), .v (.int .i64 d.safe), .v (.int .i64 d.kept), .v (.int .i64 d.life), .v (.bool d.off), .v (.int .i64 d.trip), .v (.int .i64 d.tripKeep)]] [.box 64 [.v (.int .i64 r.2.limit), .fr (.own 46) false 15 (List.flatten (List.map T_Rec.ienc r.2.recs)), .v (.int .i64 r.2.used), .v (.int .i64 r.2.safe), .v (.int .i64 r.2.kept), .v (.int .i64 r.2.life), .v (.bool r.2.off), .v (.int .i64 r.2.trip), .v (.int .i64 r.2.tripKeep)]] (.v (.int .i64 r.1)) := by
  unfold Sh.diary_Diary_Life at h
  refine fn_okP Try.func36 rfl (Nat.le_of_ble_eq_true rfl) rfl (Nat.le_of_ble_eq_true rfl) fun args0 hargs0 g0 hn hio => ?_
  refine ht_seq ?_
  refine ht_seqR hn (El := [_, _, (2, .v (.int .i64 0))]) (init := [0, 1]) (fin := [0, 1]) (sps := [⟨[], [], [2], [(.slot 2)]⟩]) (es' := [(_, _), (_, _)]) (by kernel_rfl) rfl rfl
   ⟨st_plain rfl (op_assign _ _ _ _ rfl rfl),
   trivial⟩ ?_
  refine pt_then ?_
  refine ht_seq ?_
  refine ht_seqR hn (El := [_, _, (3, .ptr 0 0), (4, .ptr 0 0), (5, .ptr 0 5), (6, .v (.int .i64 d.life)), (2, .v (.int .i64 d.life))]) (init := [0, 1]) (fin := [0, 1, 6]) (sps := [⟨[0], [], [2], [(.slot 3)]⟩, ⟨[2, 0], [], [3], [(.slot 4)]⟩, ⟨[3, 0], [], [4], [(.slot 5)]⟩, ⟨[4, 0], [], [5], [(.slot 6)]⟩, ⟨[5], [], [6], [(.slot 2)]⟩]) (es' := [(_, _), (_, _), (2, .v (.int .i64 d.life))]) (by kernel_rfl) rfl rfl
   ⟨st_plain rfl (op_move _ _ _ _ rfl rfl),
   st_plain rfl (op_nilCheck _ _ _ 0 0 rfl (by decide)),
   st_plain rfl (op_fieldAddr _ _ _ _ 0 0 _ Try.underlying64 rfl sz3 rfl rfl (by decide)),
   st_plain rfl (op_load _ _ _ _ _ _ Try.underlying3 rfl rfl rfl (Nat.le_of_ble_eq_true rfl) rfl rfl rfl),
   st_plain rfl (op_assign _ _ _ _ rfl rfl),
   trivial⟩ ?_
  refine pt_then ?_
  refine ht_ret ?_
  refine pt_pick [2, 0, 1] (by kernel_rfl) (es' := [(_, _), (_, _), (_, _)]) rfl ?_
  obtain rfl := Option.some.inj h
  exact pt_retP (es := [(2, .v (.int .i64 d.life))]) (posts := [.box 64 [.v (.int .i64 d.limit), .fr (.own 46) false 15 (List.flatten (List.map T_Rec.ienc d.recs)), .v (.int .i64 d.used), .v (.int .i64 d.safe), .v (.int .i64 d.kept), .v (.int .i64 d.life), .v (.bool d.off), .v (.int .i64 d.trip), .v (.int .i64 d.tripKeep)]]) hio rfl rfl (.tmp _ _ .nil) rfl rfl hargs0 rfl

set_option maxHeartbeats 1000000 in
theorem ok_diary_Diary_Kept (d : T_diary_Diary) (r : (Int × T_diary_Diary)) (h : Sh.diary_Diary_Kept d = some r) : FnP Try.prog 32 [.box 64 [.v (.int .i64 d.limit), .fr (.own 46) false 15 (List.flatten (List.map T_Rec.ienc d.recs)), .v (.int .i64 d.used), .v (.int .i64 d.safe), .v (.int .i64 d.kept), .v (.int .i64 d.life), .v (.bool d.off), .v (.int .i64 d.trip), .v (.int .i64 d.tripKeep)]] [.box 64 [.v (.int .i64 r.2.limit), .fr (.own 46) false 15 (List.flatten (List.map T_Rec.ienc r.2.recs)), .v (.int .i64 r.2.used), .v (.int .i64 r.2.safe), .v (.int .i64 r.2.kept), .v (.int .i64 r.2.life), .v (.bool r.2.off), .v (.int .i64 r.2.trip), .v (.int .i64 r.2.tripKeep)]] (.v (.int .i64 r.1)) := by
  unfold Sh.diary_Diary_Kept at h
  refine fn_okP Try.func32 rfl (Nat.le_of_ble_eq_true rfl) rfl (Nat.le_of_ble_eq_true rfl) fun args0 hargs0 g0 hn hio => ?_
  refine ht_seq ?_
  refine ht_seqR hn (El := [_, _, (2, .v (.int .i64 0))]) (init := [0, 1]) (fin := [0, 1]) (sps := [⟨[], [], [2], [(.slot 2)]⟩]) (es' := [(_, _), (_, _)]) (by kernel_rfl) rfl rfl
   ⟨st_plain rfl (op_assign _ _ _ _ rfl rfl),
   trivial⟩ ?_
  refine pt_then ?_
  refine ht_seq ?_
  refine ht_seqR hn (El := [_, _, (3, .ptr 0 0), (4, .ptr 0 0), (5, .ptr 0 4), (6, .v (.int .i64 d.kept)), (2, .v (.int .i64 d.kept))]) (init := [0, 1]) (fin := [0, 1, 6]) (sps := [⟨[0], [], [2], [(.slot 3)]⟩, ⟨[2, 0], [], [3], [(.slot 4)]⟩, ⟨[3, 0], [], [4], [(.slot 5)]⟩, ⟨[4, 0], [], [5], [(.slot 6)]⟩, ⟨[5], [], [6], [(.slot 2)]⟩]) (es' := [(_, _), (_, _), (2, .v (.int .i64 d.kept))]) (by kernel_rfl) rfl rfl
   ⟨st_plain rfl (op_move _ _ _ _ rfl rfl),
   st_plain rfl (op_nilCheck _ _ _ 0 0 rfl (by decide)),
   st_plain rfl (op_fieldAddr _ _ _ _ 0 0 _ Try.underlying64 rfl sz3 rfl rfl (by decide)),
   st_plain rfl (op_load _ _ _ _ _ _ Try.underlying3 rfl rfl rfl (Nat.le_of_ble_eq_true rfl) rfl rfl rfl),
   st_plain rfl (op_assign _ _ _ _ rfl rfl),
   trivial⟩ ?_
  refine pt_then ?_
  refine ht_ret ?_
  refine pt_pick [2, 0, 1] (by kernel_rfl) (es' := [(_, _), (_, _), (_, _)]) rfl ?_
  obtain rfl := Option.some.inj h
  exact pt_retP (es := [(2, .v (.int .i64 d.kept))]) (posts := [.box 64 [.v (.int .i64 d.limit), .fr (.own 46) false 15 (List.flatten (List.map T_Rec.ienc d.recs)), .v (.int .i64 d.used), .v (.int .i64 d.safe), .v (.int .i64 d.kept), .v (.int .i64 d.life), .v (.bool d.off), .v (.int .i64 d.trip), .v (.int .i64 d.tripKeep)]]) hio rfl rfl (.tmp _ _ .nil) rfl rfl hargs0 rfl

end Go.Proofs.Ytbioodcjmceefaa
