/-
  The model's runs are what is told in Lean.
-/
import Derived.Test.YtdligpdfcfbgpaaProg
import Derived.KernelRfl
import Derived.Test.YtdligpdfcfbgpaaOkc3
set_option linter.unusedVariables false
set_option linter.unusedSimpArgs false
namespace Go.Proofs.Ytdligpdfcfbgpaa
open Go.Abs Go.Abs.Sh

set_option maxHeartbeats 1000000 in
theorem ok_wherrylaw21_SenderStays (s : T_Send) (l : (List T_Frame)) (r : Bool) (h : Sh.wherrylaw21_SenderStays s l = some r) : FnOK Try.prog 4 [.agg [.v (.int .i64 s.Number), .fl .shr 1 (List.map (Value.int .u8) s.Data), .v (.bool s.Ready), .v (.int .i64 s.Base), .v (.int .i64 s.Next), .v (.int .i64 s.Wait), .v (.bool s.Over)], .fr .shr true 5 (List.flatten (List.map T_Frame.ienc l))] (.v (.bool r)) := by
  unfold Sh.wherrylaw21_SenderStays at h
  refine fn_ok Try.func4 rfl (Nat.le_of_ble_eq_true rfl) rfl rfl fun g0 hn hio => ?_
  refine ht_seq ?_
  refine ht_seqR hn (El := [_, _, (2, .box 24 [.v (.int .i64 s.Number), .fl .shr 1 (List.map (Value.int .u8) s.Data), .v (.bool s.Ready), .v (.int .i64 s.Base), .v (.int .i64 s.Next), .v (.int .i64 s.Wait), .v (.bool s.Over)]), (4, .v (.bool false))]) (init := [0, 1]) (fin := [1, 2]) (sps := [⟨[0], [], [2], [(.slot 2)]⟩, ⟨[], [], [3], [(.slot 4)]⟩]) (es' := [(_, _), (2, .box 24 [.v (.int .i64 s.Number), .fl .shr 1 (List.map (Value.int .u8) s.Data), .v (.bool s.Ready), .v (.int .i64 s.Base), .v (.int .i64 s.Next), .v (.int .i64 s.Wait), .v (.bool s.Over)])]) (by kernel_rfl) rfl rfl
   ⟨st_plain rfl (op_box _ _ _ _ rfl rfl rfl),
   st_plain rfl (op_assign _ _ _ _ rfl rfl),
   trivial⟩ ?_
  refine pt_then ?_
  refine ht_seq ?_
  refine ht_seq ?_
  refine ht_joinS h (fun (s2 : Bool) => [(1, .fr .shr true 5 (List.flatten (List.map T_Frame.ienc l))), (2, .box 24 [.v (.int .i64 s.Number), .fl .shr 1 (List.map (Value.int .u8) s.Data), .v (.bool s.Ready), .v (.int .i64 s.Base), .v (.int .i64 s.Next), .v (.int .i64 s.Wait), .v (.bool s.Over)]), (26, .v (.bool s2))]) ?_ ?_
  ·rintro s2 h
   refine pt_then ?_
   refine ht_cond _ rfl (fun hb6 => ?_) (fun hb6 => ?_)
   ·have h := cond_t hb6 h
    refine ht_seq ?_
    refine ht_joinS h (fun (s8 : Bool) => [(4, .v (.bool s8))]) ?_ ?_
    ·rintro s8 h
     refine pt_then ?_
     refine ht_ret ?_
     refine pt_r_then ?_
     obtain rfl := Option.some.inj h
     exact pt_ret hio rfl (.tmp _ _ .nil) rfl rfl
    ·intro u9 h hl10 hr11
     obtain ⟨v7, hv7, h⟩ := bind_some h
     refine cond_some h (fun hg2_3 h => ?_) (fun hg2_3 h => ?_)
     ·refine ht_seqR hn (El := (_ :: _ :: _ :: (27, .agg [.v (.int .i64 s.Number), .fl .shr 1 (List.map (Value.int .u8) s.Data), .v (.bool s.Ready), .v (.int .i64 s.Base), .v (.int .i64 s.Next), .v (.int .i64 s.Wait), .v (.bool s.Over)]) :: (28, .v (.bool v7)) :: (29, .v (.bool (!v7))) :: (30, .v (.bool true)) :: (31, .v undef) :: (32, .v undef) :: (33, .v undef) :: (34, .v undef) :: (35, .v (.bool true)) :: (36, .v (.bool true)) :: (37, .v undef) :: (38, .v undef) :: (39, .v undef) :: (40, .v (.bool true)) :: (4, .v (.bool true)) :: [])) (init := [0, 1, 2]) (fin := [17]) (sps := (⟨[1], [], [3], [(.slot 27)]⟩ :: ⟨[3], [], [4], [(.slot 28)]⟩ :: ⟨[4], [], [5], [(.slot 29)]⟩ :: ⟨[5], [], [6], [(.slot 30)]⟩ :: ⟨[6], [], [7], [(.slot 31)]⟩ :: ⟨[6], [], [8], [(.slot 32)]⟩ :: ⟨[6], [], [9], [(.slot 33)]⟩ :: ⟨[6], [], [10], [(.slot 34)]⟩ :: ⟨[6], [], [11], [(.slot 35)]⟩ :: ⟨[11], [], [12], [(.slot 36)]⟩ :: ⟨[12], [], [13], [(.slot 37)]⟩ :: ⟨[12], [], [14], [(.slot 38)]⟩ :: ⟨[12], [], [15], [(.slot 39)]⟩ :: ⟨[12], [], [16], [(.slot 40)]⟩ :: ⟨[16], [], [17], [(.slot 4)]⟩ :: [])) (es' := [(4, .v (.bool true))]) (by kernel_rfl) rfl rfl
       ⟨st_plain rfl (op_loadA _ _ _ _ _ _ _ Try.underlying24 rfl sz24 rfl rfl (Nat.le_of_ble_eq_true rfl) rfl rfl),
       st_plain rfl (op_call _ _ 13 _ _ rfl Try.call13 rfl (ok_wherryref18_Send s _ hv7) rfl rfl),
       st_plain rfl (op_un _ _ _ _ rfl rfl),
       st_plain rfl (op_move _ _ _ _ (congrArg (fun b => AV.v (Value.bool b)) hg2_3) rfl),
       st_skip 3 30 _ false rfl rfl rfl rfl (List.Mem.head _),
       st_skip 3 30 _ false rfl rfl rfl rfl (List.Mem.head _),
       st_skip 3 30 _ false rfl rfl rfl rfl (List.Mem.head _),
       st_skip 3 30 _ false rfl rfl rfl rfl (List.Mem.head _),
       st_plain rfl (op_pick _ _ true _ rfl rfl),
       st_plain rfl (op_move _ _ _ _ rfl rfl),
       st_skip 9 36 _ false rfl rfl rfl rfl (List.Mem.head _),
       st_skip 9 36 _ false rfl rfl rfl rfl (List.Mem.head _),
       st_skip 9 36 _ false rfl rfl rfl rfl (List.Mem.head _),
       st_plain rfl (op_pick _ _ true _ rfl rfl),
       st_plain rfl (op_assign _ _ _ _ rfl rfl),
       trivial⟩ ?_
      exact hl10 _ (Option.some.inj h).symm
     ·refine cond_some h (fun hg2_9 h => ?_) (fun hg2_9 h => ?_)
      ·refine ht_seqR hn (El := (_ :: _ :: _ :: (27, .agg [.v (.int .i64 s.Number), .fl .shr 1 (List.map (Value.int .u8) s.Data), .v (.bool s.Ready), .v (.int .i64 s.Base), .v (.int .i64 s.Next), .v (.int .i64 s.Wait), .v (.bool s.Over)]) :: (28, .v (.bool v7)) :: (29, .v (.bool (!v7))) :: (30, .v (.bool false)) :: (31, .ptr 2 1) :: (32, .fl .shr 1 (List.map (Value.int .u8) s.Data)) :: (33, .v (.int .i64 (s.Data.length : Int))) :: (34, .v (.bool ((decide (5100 < (s.Data.length : Int)))))) :: (35, .v (.bool ((decide (5100 < (s.Data.length : Int)))))) :: (36, .v (.bool true)) :: (37, .v undef) :: (38, .v undef) :: (39, .v undef) :: (40, .v (.bool true)) :: (4, .v (.bool true)) :: [])) (init := [0, 1, 2]) (fin := [17]) (sps := (⟨[1], [], [3], [(.slot 27)]⟩ :: ⟨[3], [], [4], [(.slot 28)]⟩ :: ⟨[4], [], [5], [(.slot 29)]⟩ :: ⟨[5], [], [6], [(.slot 30)]⟩ :: ⟨[6, 1], [], [7], [(.slot 31)]⟩ :: ⟨[6, 7, 1], [], [8], [(.slot 32)]⟩ :: ⟨[6, 8], [], [9], [(.slot 33)]⟩ :: ⟨[6, 9], [], [10], [(.slot 34)]⟩ :: ⟨[6, 10], [], [11], [(.slot 35)]⟩ :: ⟨[11], [], [12], [(.slot 36)]⟩ :: ⟨[12], [], [13], [(.slot 37)]⟩ :: ⟨[12], [], [14], [(.slot 38)]⟩ :: ⟨[12], [], [15], [(.slot 39)]⟩ :: ⟨[12], [], [16], [(.slot 40)]⟩ :: ⟨[16], [], [17], [(.slot 4)]⟩ :: [])) (es' := [(4, .v (.bool true))]) (by kernel_rfl) rfl rfl
        ⟨st_plain rfl (op_loadA _ _ _ _ _ _ _ Try.underlying24 rfl sz24 rfl rfl (Nat.le_of_ble_eq_true rfl) rfl rfl),
        st_plain rfl (op_call _ _ 13 _ _ rfl Try.call13 rfl (ok_wherryref18_Send s _ hv7) rfl rfl),
        st_plain rfl (op_un _ _ _ _ rfl rfl),
        st_plain rfl (op_move _ _ _ _ (congrArg (fun b => AV.v (Value.bool b)) hg2_3) rfl),
        st_run 3 30 false rfl rfl rfl (List.Mem.head _) (op_fieldAddr _ _ _ _ 2 0 _ Try.underlying24 rfl sz22 rfl rfl (by decide)),
        st_run 3 30 false rfl rfl rfl (List.Mem.head _) (op_load _ _ _ _ _ _ Try.underlying22 rfl rfl rfl (Nat.le_of_ble_eq_true rfl) rfl rfl rfl),
        st_run 3 30 false rfl rfl rfl (List.Mem.head _) (op_len_fl _ _ _ Try.underlying22 rfl (by decide) (map_len _)),
        st_run 3 30 false rfl rfl rfl (List.Mem.head _) (op_bin _ _ _ _ _ rfl rfl rfl),
        st_plain rfl (op_pick _ _ false _ rfl rfl),
        st_plain rfl (op_move _ _ _ _ (congrArg (fun b => AV.v (Value.bool b)) hg2_9) rfl),
        st_skip 9 36 _ false rfl rfl rfl rfl (List.Mem.head _),
        st_skip 9 36 _ false rfl rfl rfl rfl (List.Mem.head _),
        st_skip 9 36 _ false rfl rfl rfl rfl (List.Mem.head _),
        st_plain rfl (op_pick _ _ true _ rfl rfl),
        st_plain rfl (op_assign _ _ _ _ rfl rfl),
        trivial⟩ ?_
       exact hl10 _ (Option.some.inj h).symm
      ·refine ht_seqR hn (El := (_ :: _ :: _ :: (27, .agg [.v (.int .i64 s.Number), .fl .shr 1 (List.map (Value.int .u8) s.Data), .v (.bool s.Ready), .v (.int .i64 s.Base), .v (.int .i64 s.Next), .v (.int .i64 s.Wait), .v (.bool s.Over)]) :: (28, .v (.bool v7)) :: (29, .v (.bool (!v7))) :: (30, .v (.bool false)) :: (31, .ptr 2 1) :: (32, .fl .shr 1 (List.map (Value.int .u8) s.Data)) :: (33, .v (.int .i64 (s.Data.length : Int))) :: (34, .v (.bool ((decide (5100 < (s.Data.length : Int)))))) :: (35, .v (.bool ((decide (5100 < (s.Data.length : Int)))))) :: (36, .v (.bool false)) :: (37, .fr .shr true 5 (List.flatten (List.map T_Frame.ienc l))) :: (38, .v (.int .i64 (l.length : Int))) :: (39, .v (.bool ((decide (40 < (l.length : Int)))))) :: (40, .v (.bool ((decide (40 < (l.length : Int)))))) :: (4, .v (.bool ((decide (40 < (l.length : Int)))))) :: [])) (init := [0, 1, 2]) (fin := [17]) (sps := (⟨[1], [], [3], [(.slot 27)]⟩ :: ⟨[3], [], [4], [(.slot 28)]⟩ :: ⟨[4], [], [5], [(.slot 29)]⟩ :: ⟨[5], [], [6], [(.slot 30)]⟩ :: ⟨[6, 1], [], [7], [(.slot 31)]⟩ :: ⟨[6, 7, 1], [], [8], [(.slot 32)]⟩ :: ⟨[6, 8], [], [9], [(.slot 33)]⟩ :: ⟨[6, 9], [], [10], [(.slot 34)]⟩ :: ⟨[6, 10], [], [11], [(.slot 35)]⟩ :: ⟨[11], [], [12], [(.slot 36)]⟩ :: ⟨[12, 0], [], [13], [(.slot 37)]⟩ :: ⟨[12, 13], [], [14], [(.slot 38)]⟩ :: ⟨[12, 14], [], [15], [(.slot 39)]⟩ :: ⟨[12, 15], [], [16], [(.slot 40)]⟩ :: ⟨[16], [], [17], [(.slot 4)]⟩ :: [])) (es' := [(4, .v (.bool ((decide (40 < (l.length : Int))))))]) (by kernel_rfl) rfl rfl
        ⟨st_plain rfl (op_loadA _ _ _ _ _ _ _ Try.underlying24 rfl sz24 rfl rfl (Nat.le_of_ble_eq_true rfl) rfl rfl),
        st_plain rfl (op_call _ _ 13 _ _ rfl Try.call13 rfl (ok_wherryref18_Send s _ hv7) rfl rfl),
        st_plain rfl (op_un _ _ _ _ rfl rfl),
        st_plain rfl (op_move _ _ _ _ (congrArg (fun b => AV.v (Value.bool b)) hg2_3) rfl),
        st_run 3 30 false rfl rfl rfl (List.Mem.head _) (op_fieldAddr _ _ _ _ 2 0 _ Try.underlying24 rfl sz22 rfl rfl (by decide)),
        st_run 3 30 false rfl rfl rfl (List.Mem.head _) (op_load _ _ _ _ _ _ Try.underlying22 rfl rfl rfl (Nat.le_of_ble_eq_true rfl) rfl rfl rfl),
        st_run 3 30 false rfl rfl rfl (List.Mem.head _) (op_len_fl _ _ _ Try.underlying22 rfl (by decide) (map_len _)),
        st_run 3 30 false rfl rfl rfl (List.Mem.head _) (op_bin _ _ _ _ _ rfl rfl rfl),
        st_plain rfl (op_pick _ _ false _ rfl rfl),
        st_plain rfl (op_move _ _ _ _ (congrArg (fun b => AV.v (Value.bool b)) hg2_9) rfl),
        st_run 9 36 false rfl rfl rfl (List.Mem.head _) (op_move _ _ _ _ rfl rfl),
        st_run 9 36 false rfl rfl rfl (List.Mem.head _) (op_len_fr _ _ _ Try.underlying31 rfl (by decide) (gflat_len T_Frame.ilen _)),
        st_run 9 36 false rfl rfl rfl (List.Mem.head _) (op_bin _ _ _ _ _ rfl rfl rfl),
        st_plain rfl (op_pick _ _ false _ rfl rfl),
        st_plain rfl (op_assign _ _ _ _ rfl rfl),
        trivial⟩ ?_
       exact hl10 _ (Option.some.inj h).symm
   ·have h := cond_f hb6 h
    refine ht_skip ?_
    refine pt_then ?_
    refine ht_seq ?_
    refine ht_seqR hn (El := [_, _, _, (41, .agg [.v (.int .i64 s.Number), .fl .shr 1 (List.map (Value.int .u8) s.Data), .v (.bool s.Ready), .v (.int .i64 s.Base), .v (.int .i64 s.Next), .v (.int .i64 s.Wait), .v (.bool s.Over)]), (5, .box 24 [.v (.int .i64 0), .v (.slice none 0 0), .v (.bool false), .v (.int .i64 0), .v (.int .i64 0), .v (.int .i64 0), .v (.bool false)]), (5, .box 24 [.v (.int .i64 s.Number), .fl .shr 1 (List.map (Value.int .u8) s.Data), .v (.bool s.Ready), .v (.int .i64 s.Base), .v (.int .i64 s.Next), .v (.int .i64 s.Wait), .v (.bool s.Over)])]) (init := [0, 1, 2]) (fin := [0, 1, 5]) (sps := [⟨[1], [], [3], [(.slot 41)]⟩, ⟨[], [], [4], [(.slot 5)]⟩, ⟨[3], [4], [5], [.cell 5 0, .cell 5 1, .cell 5 2, .cell 5 3, .cell 5 4, .cell 5 5, .cell 5 6]⟩]) (es' := [(_, _), (_, _), (5, .box 24 [.v (.int .i64 s.Number), .fl .shr 1 (List.map (Value.int .u8) s.Data), .v (.bool s.Ready), .v (.int .i64 s.Base), .v (.int .i64 s.Next), .v (.int .i64 s.Wait), .v (.bool s.Over)])]) (by kernel_rfl) rfl rfl
     ⟨st_plain rfl (op_loadA _ _ _ _ _ _ _ Try.underlying24 rfl sz24 rfl rfl (Nat.le_of_ble_eq_true rfl) rfl rfl),
     st_plain rfl (op_alloc _ _ zr24),
     st_plain rfl (op_store _ _ _ _ _ _ _ _ sz24 rfl rfl rfl rfl (Nat.le_of_ble_eq_true rfl) rfl rfl),
     trivial⟩ ?_
    refine pt_then ?_
    refine ht_seq ?_
    refine ht_seq ?_
    refine ht_seqR hn (El := [_, _, _, (6, .v (.int .i64 0))]) (init := [0, 1, 2]) (fin := [0, 1, 2, 3]) (sps := [⟨[], [], [3], [(.slot 6)]⟩]) (es' := [(_, _), (_, _), (_, _), (6, .v (.int .i64 0))]) (by kernel_rfl) rfl rfl
     ⟨st_plain rfl (op_assign _ _ _ _ rfl rfl),
     trivial⟩ ?_
    refine pt_then ?_
    refine ht_loopS h (fun ((s329, s330, s331, s332, s333, s334, s335, s336) : Int × (List Int) × Bool × Int × Int × Int × Bool × Int) => [(1, .fr .shr true 5 (List.flatten (List.map T_Frame.ienc l))), (2, .box 24 [.v (.int .i64 s.Number), .fl .shr 1 (List.map (Value.int .u8) s.Data), .v (.bool s.Ready), .v (.int .i64 s.Base), .v (.int .i64 s.Next), .v (.int .i64 s.Wait), .v (.bool s.Over)]), (5, .box 24 [.v (.int .i64 s329), .fl .shr 1 (List.map (Value.int .u8) s330), .v (.bool s331), .v (.int .i64 s332), .v (.int .i64 s333), .v (.int .i64 s334), .v (.bool s335)]), (6, .v (.int .i64 s336))]) (fun (() : Unit) => []) ?_ ?_
    ·rintro ⟨⟩ h
     refine pt_then ?_
     refine ht_seq ?_
     obtain ⟨v621, hv621, h⟩ := bind_some h
     refine ht_seqR hn (El := [(195, .v (.bool v621)), (4, .v (.bool v621))]) (init := []) (fin := [1]) (sps := [⟨[], [], [0], [(.slot 195)]⟩, ⟨[0], [], [1], [(.slot 4)]⟩]) (es' := [(4, .v (.bool v621))]) (by kernel_rfl) rfl rfl
      ⟨st_plain rfl (op_call _ _ 21 _ _ rfl Try.call21 rfl (ok_wherrylaw21_wakes  _ hv621) rfl rfl),
      st_plain rfl (op_assign _ _ _ _ rfl rfl),
      trivial⟩ ?_
     refine pt_then ?_
     refine ht_ret ?_
     obtain rfl := Option.some.inj h
     exact pt_ret hio rfl (.tmp _ _ .nil) rfl rfl
    ·rintro u476 hl477 hr478 ⟨s329, s330, s331, s332, s333, s334, s335, s336⟩ rr481 h ho479
     refine ht_seq ?_
     refine ht_seq ?_
     refine ht_seqR hn (El := [_, _, _, _, (42, .v (.int .i64 s336)), (43, .fr .shr true 5 (List.flatten (List.map T_Frame.ienc l))), (44, .v (.int .i64 (l.length : Int))), (45, .v (.bool ((decide (s336 < (l.length : Int))))))]) (init := [0, 1, 2, 3]) (fin := [0, 1, 2, 3, 7]) (sps := [⟨[3], [], [4], [(.slot 42)]⟩, ⟨[0], [], [5], [(.slot 43)]⟩, ⟨[5], [], [6], [(.slot 44)]⟩, ⟨[4, 6], [], [7], [(.slot 45)]⟩]) (es' := [(_, _), (_, _), (_, _), (_, _), (45, .v (.bool ((decide (s336 < (l.length : Int))))))]) (by kernel_rfl) rfl rfl
      ⟨st_plain rfl (op_move _ _ _ _ rfl rfl),
      st_plain rfl (op_move _ _ _ _ rfl rfl),
      st_plain rfl (op_len_fr _ _ _ Try.underlying31 rfl (by decide) (gflat_len T_Frame.ilen _)),
      st_plain rfl (op_bin _ _ _ _ _ rfl rfl rfl),
      trivial⟩ ?_
     refine pt_then ?_
     refine ht_cond _ rfl (fun hb482 => ?_) (fun hb482 => ?_)
     ·have h := cond_t hb482 h
      refine ht_skip ?_
      refine pt_then ?_
      refine ht_seq ?_
      refine ht_joinS h (fun ((s547, s548, s549, s550, s551, s552, s553) : Int × (List Int) × Bool × Int × Int × Int × Bool) => [(1, .fr .shr true 5 (List.flatten (List.map T_Frame.ienc l))), (2, .box 24 [.v (.int .i64 s.Number), .fl .shr 1 (List.map (Value.int .u8) s.Data), .v (.bool s.Ready), .v (.int .i64 s.Base), .v (.int .i64 s.Next), .v (.int .i64 s.Wait), .v (.bool s.Over)]), (5, .box 24 [.v (.int .i64 s547), .fl (.own 5) 1 (List.map (Value.int .u8) s548), .v (.bool s549), .v (.int .i64 s550), .v (.int .i64 s551), .v (.int .i64 s552), .v (.bool s553)]), (6, .v (.int .i64 s336))]) ?_ ?_
      ·rintro ⟨s547, s548, s549, s550, s551, s552, s553⟩ h
       refine pt_then ?_
       obtain ⟨v181, hv181, h⟩ := bind_some h
       refine ht_seqR hn (El := [_, _, _, _, (46, .v (.int .i64 s336)), (47, .v (.int .i64 v181)), (6, .v (.int .i64 v181))]) (init := [0, 1, 2, 3]) (fin := [0, 1, 2, 6]) (sps := [⟨[3], [], [4], [(.slot 46)]⟩, ⟨[4], [], [5], [(.slot 47)]⟩, ⟨[5], [3], [6], [(.slot 6)]⟩]) (es' := [(_, _), (_, _), (_, _), (6, .v (.int .i64 v181))]) (by kernel_rfl) rfl rfl
        ⟨st_plain rfl (op_move _ _ _ _ rfl rfl),
        st_plain rfl (op_bin _ _ _ _ _ rfl rfl (ibind (f := Value.int .i64) (Option.some.inj hv181))),
        st_plain rfl (LOp.drop [_] (op_assign _ _ _ _ rfl rfl)),
        trivial⟩ ?_
       refine pt_frz 2 hio (es' := [(1, .fr .shr true 5 (List.flatten (List.map T_Frame.ienc l))), (2, .box 24 [.v (.int .i64 s.Number), .fl .shr 1 (List.map (Value.int .u8) s.Data), .v (.bool s.Ready), .v (.int .i64 s.Base), .v (.int .i64 s.Next), .v (.int .i64 s.Wait), .v (.bool s.Over)]), (5, .box 24 [.v (.int .i64 s547), .fl .ro 1 (List.map (Value.int .u8) s548), .v (.bool s549), .v (.int .i64 s550), .v (.int .i64 s551), .v (.int .i64 s552), .v (.bool s553)]), (6, .v (.int .i64 v181))]) rfl ?_
       refine pt_sub (fs := [(1, .fr .shr true 5 (List.flatten (List.map T_Frame.ienc l))), (2, .box 24 [.v (.int .i64 s.Number), .fl .shr 1 (List.map (Value.int .u8) s.Data), .v (.bool s.Ready), .v (.int .i64 s.Base), .v (.int .i64 s.Next), .v (.int .i64 s.Wait), .v (.bool s.Over)]), (5, .box 24 [.v (.int .i64 s547), .fl .shr 1 (List.map (Value.int .u8) s548), .v (.bool s549), .v (.int .i64 s550), .v (.int .i64 s551), .v (.int .i64 s552), .v (.bool s553)]), (6, .v (.int .i64 v181))]) (.same _ (.same _ (.box _ _ (subs_cons (sub_refl _) (subs_cons (sub_ro_shr _ _) (subs_cons (sub_refl _) (subs_cons (sub_refl _) (subs_cons (sub_refl _) (subs_cons (sub_refl _) (subs_cons (sub_refl _) (subs_nil)))))))) rfl (.same _ .nil)))) ?_
       exact pt_next _ (Option.some.inj h).symm rfl
      ·intro u554 h hl555 hr556
       refine ht_block ?_
       refine ht_seq ?_
       refine ht_seq ?_
       obtain ⟨v13, hv13, h⟩ := bind_some h
       obtain ⟨v14, hv14, h⟩ := bind_some h
       refine ht_seqR hn (El := [_, _, _, _, _, (48, .fr .shr true 5 (List.flatten (List.map T_Frame.ienc l))), (49, .v (.int .i64 s336)), (50, .eref (.slot 48) (v13 * 5)), (51, .eref (.slot 48) (v13 * 5 + 4)), (52, .fl .shr 1 (List.map (Value.int .u8) v14.Data)), (53, .v (.int .i64 (v14.Data.length : Int))), (54, .v (.bool ((decide (300 < (v14.Data.length : Int))))))]) (init := [0, 1, 2, 3, 4]) (fin := [0, 1, 2, 3, 11]) (sps := [⟨[0], [], [5], [(.slot 48)]⟩, ⟨[3], [], [6], [(.slot 49)]⟩, ⟨[5, 6], [], [7], [(.slot 50)]⟩, ⟨[7, 5], [], [8], [(.slot 51)]⟩, ⟨[8, 5], [], [9], [(.slot 52)]⟩, ⟨[9], [], [10], [(.slot 53)]⟩, ⟨[10], [], [11], [(.slot 54)]⟩]) (es' := [(_, _), (_, _), (_, _), (_, _), (54, .v (.bool ((decide (300 < (v14.Data.length : Int))))))]) (by kernel_rfl) rfl rfl
        ⟨st_plain rfl (op_move _ _ _ _ rfl rfl),
        st_plain rfl (op_move _ _ _ _ rfl rfl),
        st_plain rfl (op_ix_fr _ _ _ _ _ _ _ _ Try.underlying31 sz26 (by decide) rfl rfl rfl (ix_ok hv13).1 (gflat_lt T_Frame.ilen (ix_ok hv13).2) rfl),
        st_plain rfl (op_fieldAddr_e _ _ _ _ _ _ _ Try.underlying26 rfl sz22 rfl rfl rfl),
        st_plain rfl (op_load_fr _ _ _ _ _ _ _ Try.underlying22 rfl rfl rfl (gflat_cell T_Frame.ilen hv14 rfl) (.fl _ _ rfl)),
        st_plain rfl (op_len_fl _ _ _ Try.underlying22 rfl (by decide) (map_len _)),
        st_plain rfl (op_bin _ _ _ _ _ rfl rfl rfl),
        trivial⟩ ?_
       refine pt_then ?_
       refine ht_cond _ rfl (fun hb557 => ?_) (fun hb557 => ?_)
       ·have h := cond_t hb557 h
        refine ht_seq ?_
        refine ht_seqR hn (El := [_, _, _, _, _, (4, .v (.bool true))]) (init := [0, 1, 2, 3, 4]) (fin := [5]) (sps := [⟨[], [], [5], [(.slot 4)]⟩]) (es' := [(4, .v (.bool true))]) (by kernel_rfl) rfl rfl
         ⟨st_plain rfl (op_assign _ _ _ _ rfl rfl),
         trivial⟩ ?_
        refine pt_then ?_
        refine ht_ret ?_
        refine pt_r_then ?_
        refine pt_r_in ?_
        refine pt_r_then ?_
        refine pt_r_then ?_
        refine pt_r_in ?_
        refine pt_r_then ?_
        have h := hr556 _ (Option.some.inj h).symm
        have h := hr478 _ (ho479 _ (Option.some.inj h).symm).symm
        obtain rfl := Option.some.inj h
        exact pt_ret hio rfl (.tmp _ _ .nil) rfl rfl
       ·have h := cond_f hb557 h
        refine ht_skip ?_
        refine pt_then ?_
        refine ht_seq ?_
        obtain ⟨v16, hv16, h⟩ := bind_some h
        refine ht_seqR hn (El := (_ :: _ :: _ :: _ :: _ :: (56, .agg [.v (.int .i64 s329), .fl .shr 1 (List.map (Value.int .u8) s330), .v (.bool s331), .v (.int .i64 s332), .v (.int .i64 s333), .v (.int .i64 s334), .v (.bool s335)]) :: (57, .tup [.agg [.v (.int .i64 v16.1.Number), .fl (.own 5) 1 (List.map (Value.int .u8) v16.1.Data), .v (.bool v16.1.Ready), .v (.int .i64 v16.1.Base), .v (.int .i64 v16.1.Next), .v (.int .i64 v16.1.Wait), .v (.bool v16.1.Over)], .fr (.own 26) false 5 (List.flatten (List.map T_Frame.ienc v16.2.1)), .v (.int .i64 v16.2.2)]) :: (55, .tup [.agg [.v (.int .i64 v16.1.Number), .fl (.own 5) 1 (List.map (Value.int .u8) v16.1.Data), .v (.bool v16.1.Ready), .v (.int .i64 v16.1.Base), .v (.int .i64 v16.1.Next), .v (.int .i64 v16.1.Wait), .v (.bool v16.1.Over)], .fr (.own 26) false 5 (List.flatten (List.map T_Frame.ienc v16.2.1)), .v (.int .i64 v16.2.2)]) :: (58, .agg [.v (.int .i64 v16.1.Number), .fl (.own 5) 1 (List.map (Value.int .u8) v16.1.Data), .v (.bool v16.1.Ready), .v (.int .i64 v16.1.Base), .v (.int .i64 v16.1.Next), .v (.int .i64 v16.1.Wait), .v (.bool v16.1.Over)]) :: (55, .tup [.any, .fr (.own 26) false 5 (List.flatten (List.map T_Frame.ienc v16.2.1)), .v (.int .i64 v16.2.2)]) :: (59, .fr (.own 26) false 5 (List.flatten (List.map T_Frame.ienc v16.2.1))) :: (55, .tup [.any, .any, .v (.int .i64 v16.2.2)]) :: (60, .v (.int .i64 v16.2.2)) :: (7, .box 24 [.v (.int .i64 0), .v (.slice none 0 0), .v (.bool false), .v (.int .i64 0), .v (.int .i64 0), .v (.int .i64 0), .v (.bool false)]) :: (7, .box 24 [.v (.int .i64 v16.1.Number), .fl (.own 5) 1 (List.map (Value.int .u8) v16.1.Data), .v (.bool v16.1.Ready), .v (.int .i64 v16.1.Base), .v (.int .i64 v16.1.Next), .v (.int .i64 v16.1.Wait), .v (.bool v16.1.Over)]) :: (8, .fr (.own 26) false 5 (List.flatten (List.map T_Frame.ienc v16.2.1))) :: (9, .v (.int .i64 v16.2.2)) :: [])) (init := [0, 1, 2, 3, 4]) (fin := [0, 1, 2, 3, 14, 15, 16]) (sps := [⟨[2], [], [5], [(.slot 56)]⟩, ⟨[5], [], [6], [(.slot 57)]⟩, ⟨[], [6], [7], [(.slot 55)]⟩, ⟨[], [7], [9, 8], [(.slot 58)]⟩, ⟨[], [9], [11, 10], [(.slot 59)]⟩, ⟨[11], [], [12], [(.slot 60)]⟩, ⟨[], [], [13], [(.slot 7)]⟩, ⟨[], [8, 13], [14], [.cell 7 0, .cell 7 1, .cell 7 2, .cell 7 3, .cell 7 4, .cell 7 5, .cell 7 6]⟩, ⟨[], [10], [15], [(.slot 8)]⟩, ⟨[12], [], [16], [(.slot 9)]⟩]) (es' := [(_, _), (_, _), (_, _), (_, _), (7, .box 24 [.v (.int .i64 v16.1.Number), .fl (.own 5) 1 (List.map (Value.int .u8) v16.1.Data), .v (.bool v16.1.Ready), .v (.int .i64 v16.1.Base), .v (.int .i64 v16.1.Next), .v (.int .i64 v16.1.Wait), .v (.bool v16.1.Over)]), (8, .fr (.own 26) false 5 (List.flatten (List.map T_Frame.ienc v16.2.1))), (9, .v (.int .i64 v16.2.2))]) (by kernel_rfl) rfl rfl
         ⟨st_plain rfl (op_loadA _ _ _ _ _ _ _ Try.underlying24 rfl sz24 rfl rfl (Nat.le_of_ble_eq_true rfl) rfl rfl),
         st_plain rfl (op_call _ _ 14 _ _ rfl Try.call14 rfl (ok_sender_Tick (T_Send.mk s329 s330 s331 s332 s333 s334 s335) _ hv16) rfl rfl),
         st_plain rfl (op_move_take _ _ _ _ rfl),
         st_plain rfl (op_extract_take _ _ _ _ _ rfl (Nat.le_of_ble_eq_true rfl) rfl rfl (by decide) rfl),
         st_plain rfl (op_extract_take _ _ _ _ _ rfl (Nat.le_of_ble_eq_true rfl) rfl rfl (by decide) rfl),
         st_plain rfl (op_extract _ _ _ _ _ rfl rfl (Nat.le_of_ble_eq_true rfl) rfl rfl),
         st_plain rfl (op_alloc _ _ zr24),
         st_plain rfl (op_store_take _ _ _ _ _ _ _ _ sz24 rfl rfl rfl (Nat.le_of_ble_eq_true rfl) rfl rfl),
         st_plain rfl (op_assign_take _ _ _ _ rfl),
         st_plain rfl (op_assign _ _ _ _ rfl rfl),
         trivial⟩ ?_
        refine pt_then ?_
        refine ht_seq ?_
        refine ht_seq ?_
        refine ht_joinS h (fun (s558 : Bool) => [(1, .fr .shr true 5 (List.flatten (List.map T_Frame.ienc l))), (2, .box 24 [.v (.int .i64 s.Number), .fl .shr 1 (List.map (Value.int .u8) s.Data), .v (.bool s.Ready), .v (.int .i64 s.Base), .v (.int .i64 s.Next), .v (.int .i64 s.Wait), .v (.bool s.Over)]), (5, .box 24 [.v (.int .i64 s329), .fl .shr 1 (List.map (Value.int .u8) s330), .v (.bool s331), .v (.int .i64 s332), .v (.int .i64 s333), .v (.int .i64 s334), .v (.bool s335)]), (6, .v (.int .i64 s336)), (7, .box 24 [.v (.int .i64 v16.1.Number), .fl (.own 5) 1 (List.map (Value.int .u8) v16.1.Data), .v (.bool v16.1.Ready), .v (.int .i64 v16.1.Base), .v (.int .i64 v16.1.Next), .v (.int .i64 v16.1.Wait), .v (.bool v16.1.Over)]), (8, .fr (.own 26) false 5 (List.flatten (List.map T_Frame.ienc v16.2.1))), (87, .v (.bool s558))]) ?_ ?_
        ·rintro s558 h
         refine pt_then ?_
         refine ht_cond _ rfl (fun hb562 => ?_) (fun hb562 => ?_)
         ·have h := cond_t hb562 h
          refine ht_seq ?_
          refine ht_seqR hn (El := [_, _, _, _, _, _, _, (4, .v (.bool false))]) (init := [0, 1, 2, 3, 4, 5, 6]) (fin := [7]) (sps := [⟨[], [], [7], [(.slot 4)]⟩]) (es' := [(4, .v (.bool false))]) (by kernel_rfl) rfl rfl
           ⟨st_plain rfl (op_assign _ _ _ _ rfl rfl),
           trivial⟩ ?_
          refine pt_then ?_
          refine ht_ret ?_
          refine pt_r_then ?_
          refine pt_r_in ?_
          refine pt_r_then ?_
          refine pt_r_then ?_
          refine pt_r_in ?_
          refine pt_r_then ?_
          have h := hr556 _ (Option.some.inj h).symm
          have h := hr478 _ (ho479 _ (Option.some.inj h).symm).symm
          obtain rfl := Option.some.inj h
          exact pt_ret hio rfl (.tmp _ _ .nil) rfl rfl
         ·have h := cond_f hb562 h
          refine ht_skip ?_
          refine pt_then ?_
          refine ht_seq ?_
          refine ht_seq ?_
          refine ht_seqR hn (El := [_, _, _, _, _, _, _, (10, .v (.int .i64 0))]) (init := [0, 1, 2, 3, 4, 5, 6]) (fin := [0, 1, 2, 3, 4, 5, 7]) (sps := [⟨[], [], [7], [(.slot 10)]⟩]) (es' := [(_, _), (_, _), (_, _), (_, _), (_, _), (_, _), (10, .v (.int .i64 0))]) (by kernel_rfl) rfl rfl
           ⟨st_plain rfl (op_assign _ _ _ _ rfl rfl),
           trivial⟩ ?_
          refine pt_then ?_
          refine ht_loopS h (fun (s586 : Int) => [(1, .fr .shr true 5 (List.flatten (List.map T_Frame.ienc l))), (2, .box 24 [.v (.int .i64 s.Number), .fl .shr 1 (List.map (Value.int .u8) s.Data), .v (.bool s.Ready), .v (.int .i64 s.Base), .v (.int .i64 s.Next), .v (.int .i64 s.Wait), .v (.bool s.Over)]), (5, .box 24 [.v (.int .i64 s329), .fl .shr 1 (List.map (Value.int .u8) s330), .v (.bool s331), .v (.int .i64 s332), .v (.int .i64 s333), .v (.int .i64 s334), .v (.bool s335)]), (6, .v (.int .i64 s336)), (7, .box 24 [.v (.int .i64 v16.1.Number), .fl (.own 5) 1 (List.map (Value.int .u8) v16.1.Data), .v (.bool v16.1.Ready), .v (.int .i64 v16.1.Base), .v (.int .i64 v16.1.Next), .v (.int .i64 v16.1.Wait), .v (.bool v16.1.Over)]), (8, .fr (.own 26) false 5 (List.flatten (List.map T_Frame.ienc v16.2.1))), (10, .v (.int .i64 s586))]) (fun (() : Unit) => [(1, .fr .shr true 5 (List.flatten (List.map T_Frame.ienc l))), (2, .box 24 [.v (.int .i64 s.Number), .fl .shr 1 (List.map (Value.int .u8) s.Data), .v (.bool s.Ready), .v (.int .i64 s.Base), .v (.int .i64 s.Next), .v (.int .i64 s.Wait), .v (.bool s.Over)]), (5, .box 24 [.v (.int .i64 s329), .fl .shr 1 (List.map (Value.int .u8) s330), .v (.bool s331), .v (.int .i64 s332), .v (.int .i64 s333), .v (.int .i64 s334), .v (.bool s335)]), (6, .v (.int .i64 s336)), (7, .box 24 [.v (.int .i64 v16.1.Number), .fl (.own 5) 1 (List.map (Value.int .u8) v16.1.Data), .v (.bool v16.1.Ready), .v (.int .i64 v16.1.Base), .v (.int .i64 v16.1.Next), .v (.int .i64 v16.1.Wait), .v (.bool v16.1.Over)])]) ?_ ?_
          ·rintro ⟨⟩ h
           refine pt_then ?_
           refine ht_seq ?_
           refine ht_seqR hn (El := [_, _, _, _, _, (160, .agg [.v (.int .i64 v16.1.Number), .fl (.own 5) 1 (List.map (Value.int .u8) v16.1.Data), .v (.bool v16.1.Ready), .v (.int .i64 v16.1.Base), .v (.int .i64 v16.1.Next), .v (.int .i64 v16.1.Wait), .v (.bool v16.1.Over)]), (5, .box 24 [.v (.int .i64 v16.1.Number), .fl (.own 5) 1 (List.map (Value.int .u8) v16.1.Data), .v (.bool v16.1.Ready), .v (.int .i64 v16.1.Base), .v (.int .i64 v16.1.Next), .v (.int .i64 v16.1.Wait), .v (.bool v16.1.Over)])]) (init := [0, 1, 2, 3, 4]) (fin := [0, 1, 6, 3]) (sps := [⟨[], [4], [5], [(.slot 160)]⟩, ⟨[], [5, 2], [6], [.cell 5 0, .cell 5 1, .cell 5 2, .cell 5 3, .cell 5 4, .cell 5 5, .cell 5 6]⟩]) (es' := [(_, _), (_, _), (5, .box 24 [.v (.int .i64 v16.1.Number), .fl (.own 5) 1 (List.map (Value.int .u8) v16.1.Data), .v (.bool v16.1.Ready), .v (.int .i64 v16.1.Base), .v (.int .i64 v16.1.Next), .v (.int .i64 v16.1.Wait), .v (.bool v16.1.Over)]), (_, _)]) (by kernel_rfl) rfl rfl
            ⟨st_plain rfl (op_loadA_take _ _ _ _ Try.underlying24 rfl sz24 rfl rfl),
            st_plain rfl (op_store_take _ _ _ _ _ _ _ _ sz24 rfl rfl rfl (Nat.le_of_ble_eq_true rfl) rfl rfl),
            trivial⟩ ?_
           refine pt_then ?_
           refine ht_seq ?_
           obtain ⟨v96, hv96, h⟩ := bind_some h
           obtain ⟨v97, hv97, h⟩ := bind_some h
           obtain ⟨v98, hv98, h⟩ := bind_some h
           refine ht_anyR (by kernel_rfl) hn (El := (_ :: _ :: _ :: _ :: (162, .agg [.v (.int .i64 v16.1.Number), .same (.cell 5 1), .v (.bool v16.1.Ready), .v (.int .i64 v16.1.Base), .v (.int .i64 v16.1.Next), .v (.int .i64 v16.1.Wait), .v (.bool v16.1.Over)]) :: (163, .fr .shr true 5 (List.flatten (List.map T_Frame.ienc l))) :: (164, .v (.int .i64 s336)) :: (165, .eref (.slot 163) (v96 * 5)) :: (166, .agg [.v (.int .i64 v97.Kind), .v (.int .i64 v97.Number), .v (.int .i64 v97.Offset), .v (.int .i64 v97.Seq), .fl .shr 1 (List.map (Value.int .u8) v97.Data)]) :: (167, .tup [.agg [.v (.int .i64 v98.1.Number), .fl (.own 5) 1 (List.map (Value.int .u8) v98.1.Data), .v (.bool v98.1.Ready), .v (.int .i64 v98.1.Base), .v (.int .i64 v98.1.Next), .v (.int .i64 v98.1.Wait), .v (.bool v98.1.Over)], .v (.int .i64 v98.2)]) :: (161, .tup [.agg [.v (.int .i64 v98.1.Number), .fl (.own 5) 1 (List.map (Value.int .u8) v98.1.Data), .v (.bool v98.1.Ready), .v (.int .i64 v98.1.Base), .v (.int .i64 v98.1.Next), .v (.int .i64 v98.1.Wait), .v (.bool v98.1.Over)], .any]) :: (161, .tup [.any, .v (.int .i64 v98.2)]) :: (168, .agg [.v (.int .i64 v98.1.Number), .fl (.own 5) 1 (List.map (Value.int .u8) v98.1.Data), .v (.bool v98.1.Ready), .v (.int .i64 v98.1.Base), .v (.int .i64 v98.1.Next), .v (.int .i64 v98.1.Wait), .v (.bool v98.1.Over)]) :: (161, .tup [.any, .any]) :: (169, .v (.int .i64 v98.2)) :: (12, .box 24 [.v (.int .i64 0), .v (.slice none 0 0), .v (.bool false), .v (.int .i64 0), .v (.int .i64 0), .v (.int .i64 0), .v (.bool false)]) :: (12, .box 24 [.v (.int .i64 v98.1.Number), .fl (.own 5) 1 (List.map (Value.int .u8) v98.1.Data), .v (.bool v98.1.Ready), .v (.int .i64 v98.1.Base), .v (.int .i64 v98.1.Next), .v (.int .i64 v98.1.Wait), .v (.bool v98.1.Over)]) :: (9, .v (.int .i64 v98.2)) :: [])) (init := [0, 1, 2, 3]) (fin := [0, 1, 2, 3, 16, 17]) (sps := [⟨[2], [], [4], [(.slot 162)]⟩, ⟨[0], [], [5], [(.slot 163)]⟩, ⟨[3], [], [6], [(.slot 164)]⟩, ⟨[5, 6], [], [7], [(.slot 165)]⟩, ⟨[7, 5], [], [8], [(.slot 166)]⟩, ⟨[4, 2, 8], [], [9], [(.slot 167)]⟩, ⟨[], [9], [10, 11], [(.slot 161)]⟩, ⟨[], [10], [13, 12], [(.slot 168)]⟩, ⟨[11], [], [14], [(.slot 169)]⟩, ⟨[], [], [15], [(.slot 12)]⟩, ⟨[], [12, 15], [16], [.cell 12 0, .cell 12 1, .cell 12 2, .cell 12 3, .cell 12 4, .cell 12 5, .cell 12 6]⟩, ⟨[14], [], [17], [(.slot 9)]⟩]) (es' := [(_, _), (_, _), (_, _), (_, _), (12, .box 24 [.v (.int .i64 v98.1.Number), .fl (.own 5) 1 (List.map (Value.int .u8) v98.1.Data), .v (.bool v98.1.Ready), .v (.int .i64 v98.1.Base), .v (.int .i64 v98.1.Next), .v (.int .i64 v98.1.Wait), .v (.bool v98.1.Over)]), (9, .v (.int .i64 v98.2))]) (by kernel_rfl) rfl rfl
            ⟨st_plain rfl (op_loadA _ _ _ _ _ _ _ Try.underlying24 rfl sz24 rfl rfl (Nat.le_of_ble_eq_true rfl) rfl rfl),
            st_plain rfl (op_move _ _ _ _ rfl rfl),
            st_plain rfl (op_move _ _ _ _ rfl rfl),
            st_plain rfl (op_ix_fr _ _ _ _ _ _ _ _ Try.underlying31 sz26 (by decide) rfl rfl rfl (ix_ok hv96).1 (gflat_lt T_Frame.ilen (ix_ok hv96).2) rfl),
            st_plain rfl (op_loadA_fr _ _ _ _ _ _ _ _ Try.underlying26 rfl sz26 rfl rfl (gflat_get T_Frame.ilen hv97) (.cons (.v _) (.cons (.v _) (.cons (.v _) (.cons (.v _) (.cons (.fl _ _ rfl) (.nil)))))) rfl (by decide)),
            st_plain rfl (op_call _ _ 15 _ _ rfl Try.call15 rfl (ok_sender_Hear v16.1 v97 _ hv98) rfl rfl),
            st_plain rfl (LOp.split (A := []) 161 0 _ _ _ (op_move_take _ _ _ _ rfl) (Nat.le_of_ble_eq_true rfl) rfl rfl),
            st_plain rfl (op_extract_take _ _ _ _ _ rfl (Nat.le_of_ble_eq_true rfl) rfl rfl (by decide) rfl),
            st_plain rfl (op_extract _ _ _ _ _ rfl rfl (Nat.le_of_ble_eq_true rfl) rfl rfl),
            st_plain rfl (op_alloc _ _ zr24),
            st_plain rfl (op_store_take _ _ _ _ _ _ _ _ sz24 rfl rfl rfl (Nat.le_of_ble_eq_true rfl) rfl rfl),
            st_plain rfl (op_assign _ _ _ _ rfl rfl),
            trivial⟩ ?_
           refine pt_then ?_
           refine ht_seq ?_
           refine ht_seq ?_
           refine ht_seqR hn (El := [_, _, _, _, _, _, (170, .v (.int .i64 v98.2)), (171, .v (.bool (v98.2 != 0)))]) (init := [0, 1, 2, 3, 4, 5]) (fin := [0, 1, 2, 3, 4, 7]) (sps := [⟨[5], [], [6], [(.slot 170)]⟩, ⟨[6], [], [7], [(.slot 171)]⟩]) (es' := [(_, _), (_, _), (_, _), (_, _), (_, _), (171, .v (.bool (v98.2 != 0)))]) (by kernel_rfl) rfl rfl
            ⟨st_plain rfl (op_move _ _ _ _ rfl rfl),
            st_plain rfl (op_bin _ _ _ _ _ rfl rfl rfl),
            trivial⟩ ?_
           refine pt_then ?_
           refine ht_cond _ rfl (fun hb615 => ?_) (fun hb615 => ?_)
           ·have h := cond_t hb615 h
            refine ht_exit ?_
            refine pt_x_then ?_
            refine pt_x_in ?_
            refine pt_pick [0, 1, 2, 3] (by kernel_rfl) (es' := [(_, _), (_, _), (_, _), (_, _)]) rfl ?_
            exact hl555 _ (Option.some.inj h).symm
           ·have h := cond_f hb615 h
            refine ht_skip ?_
            refine pt_then ?_
            refine ht_seq ?_
            refine ht_seq ?_
            refine ht_joinS h (fun (s616 : Bool) => [(1, .fr .shr true 5 (List.flatten (List.map T_Frame.ienc l))), (2, .box 24 [.v (.int .i64 s.Number), .fl .shr 1 (List.map (Value.int .u8) s.Data), .v (.bool s.Ready), .v (.int .i64 s.Base), .v (.int .i64 s.Next), .v (.int .i64 s.Wait), .v (.bool s.Over)]), (5, .box 24 [.v (.int .i64 v16.1.Number), .fl (.own 5) 1 (List.map (Value.int .u8) v16.1.Data), .v (.bool v16.1.Ready), .v (.int .i64 v16.1.Base), .v (.int .i64 v16.1.Next), .v (.int .i64 v16.1.Wait), .v (.bool v16.1.Over)]), (6, .v (.int .i64 s336)), (12, .box 24 [.v (.int .i64 v98.1.Number), .fl (.own 5) 1 (List.map (Value.int .u8) v98.1.Data), .v (.bool v98.1.Ready), .v (.int .i64 v98.1.Base), .v (.int .i64 v98.1.Next), .v (.int .i64 v98.1.Wait), .v (.bool v98.1.Over)]), (193, .v (.bool s616))]) ?_ ?_
            ·rintro s616 h
             refine pt_then ?_
             refine ht_cond _ rfl (fun hb620 => ?_) (fun hb620 => ?_)
             ·have h := cond_t hb620 h
              refine ht_seq ?_
              refine ht_seqR hn (El := [_, _, _, _, _, _, (4, .v (.bool false))]) (init := [0, 1, 2, 3, 4, 5]) (fin := [6]) (sps := [⟨[], [], [6], [(.slot 4)]⟩]) (es' := [(4, .v (.bool false))]) (by kernel_rfl) rfl rfl
               ⟨st_plain rfl (op_assign _ _ _ _ rfl rfl),
               trivial⟩ ?_
              refine pt_then ?_
              refine ht_ret ?_
              refine pt_r_then ?_
              refine pt_r_in ?_
              refine pt_r_then ?_
              refine pt_r_then ?_
              refine pt_r_in ?_
              refine pt_r_then ?_
              have h := hr556 _ (Option.some.inj h).symm
              have h := hr478 _ (ho479 _ (Option.some.inj h).symm).symm
              obtain rfl := Option.some.inj h
              exact pt_ret hio rfl (.tmp _ _ .nil) rfl rfl
             ·have h := cond_f hb620 h
              refine ht_skip ?_
              refine pt_then ?_
              refine ht_seqR hn (El := [_, _, _, _, _, _, (194, .agg [.v (.int .i64 v98.1.Number), .fl (.own 5) 1 (List.map (Value.int .u8) v98.1.Data), .v (.bool v98.1.Ready), .v (.int .i64 v98.1.Base), .v (.int .i64 v98.1.Next), .v (.int .i64 v98.1.Wait), .v (.bool v98.1.Over)]), (5, .box 24 [.v (.int .i64 v98.1.Number), .fl (.own 5) 1 (List.map (Value.int .u8) v98.1.Data), .v (.bool v98.1.Ready), .v (.int .i64 v98.1.Base), .v (.int .i64 v98.1.Next), .v (.int .i64 v98.1.Wait), .v (.bool v98.1.Over)])]) (init := [0, 1, 2, 3, 4, 5]) (fin := [0, 1, 7, 3]) (sps := [⟨[], [4], [6], [(.slot 194)]⟩, ⟨[], [6, 2], [7], [.cell 5 0, .cell 5 1, .cell 5 2, .cell 5 3, .cell 5 4, .cell 5 5, .cell 5 6]⟩]) (es' := [(_, _), (_, _), (5, .box 24 [.v (.int .i64 v98.1.Number), .fl (.own 5) 1 (List.map (Value.int .u8) v98.1.Data), .v (.bool v98.1.Ready), .v (.int .i64 v98.1.Base), .v (.int .i64 v98.1.Next), .v (.int .i64 v98.1.Wait), .v (.bool v98.1.Over)]), (_, _)]) (by kernel_rfl) rfl rfl
               ⟨st_plain rfl (op_loadA_take _ _ _ _ Try.underlying24 rfl sz24 rfl rfl),
               st_plain rfl (op_store_take _ _ _ _ _ _ _ _ sz24 rfl rfl rfl (Nat.le_of_ble_eq_true rfl) rfl rfl),
               trivial⟩ ?_
              refine pt_inb ?_
              exact hl555 _ (Option.some.inj h).symm
            ·intro u617 h hl618 hr619
             obtain ⟨v100, hv100, h⟩ := bind_some h
             refine cond_some h (fun hg23_3 h => ?_) (fun hg23_3 h => ?_)
             ·refine ht_seqR hn (El := (_ :: _ :: _ :: _ :: _ :: _ :: (172, .agg [.v (.int .i64 v98.1.Number), .same (.cell 12 1), .v (.bool v98.1.Ready), .v (.int .i64 v98.1.Base), .v (.int .i64 v98.1.Next), .v (.int .i64 v98.1.Wait), .v (.bool v98.1.Over)]) :: (173, .v (.bool v100)) :: (174, .v (.bool (!v100))) :: (175, .v (.bool true)) :: (176, .v undef) :: (177, .v undef) :: (178, .v undef) :: (179, .v undef) :: (180, .v undef) :: (181, .v (.bool true)) :: (182, .v (.bool true)) :: (183, .v undef) :: (184, .v undef) :: (185, .v undef) :: (186, .v undef) :: (187, .v undef) :: (188, .v undef) :: (189, .v (.bool true)) :: (190, .v (.bool true)) :: (191, .v undef) :: (192, .v undef) :: (193, .v (.bool true)) :: [])) (init := [0, 1, 2, 3, 4, 5]) (fin := [0, 1, 2, 3, 4, 27]) (sps := (⟨[4], [], [6], [(.slot 172)]⟩ :: ⟨[6, 4], [], [7], [(.slot 173)]⟩ :: ⟨[7], [], [8], [(.slot 174)]⟩ :: ⟨[8], [], [9], [(.slot 175)]⟩ :: ⟨[9], [], [10], [(.slot 176)]⟩ :: ⟨[9], [], [11], [(.slot 177)]⟩ :: ⟨[9], [], [12], [(.slot 178)]⟩ :: ⟨[9], [], [13], [(.slot 179)]⟩ :: ⟨[9], [], [14], [(.slot 180)]⟩ :: ⟨[9], [], [15], [(.slot 181)]⟩ :: ⟨[15], [], [16], [(.slot 182)]⟩ :: ⟨[16], [], [17], [(.slot 183)]⟩ :: ⟨[16], [], [18], [(.slot 184)]⟩ :: ⟨[16], [], [19], [(.slot 185)]⟩ :: ⟨[16], [], [20], [(.slot 186)]⟩ :: ⟨[16], [], [21], [(.slot 187)]⟩ :: ⟨[16], [], [22], [(.slot 188)]⟩ :: ⟨[16], [], [23], [(.slot 189)]⟩ :: ⟨[23], [], [24], [(.slot 190)]⟩ :: ⟨[24], [], [25], [(.slot 191)]⟩ :: ⟨[24], [], [26], [(.slot 192)]⟩ :: ⟨[24], [], [27], [(.slot 193)]⟩ :: [])) (es' := [(_, _), (_, _), (_, _), (_, _), (_, _), (193, .v (.bool true))]) (by kernel_rfl) rfl rfl
               ⟨st_plain rfl (op_loadA _ _ _ _ _ _ _ Try.underlying24 rfl sz24 rfl rfl (Nat.le_of_ble_eq_true rfl) rfl rfl),
               st_plain rfl (op_call _ _ 13 _ _ rfl Try.call13 rfl (ok_wherryref18_Send v98.1 _ hv100) rfl rfl),
               st_plain rfl (op_un _ _ _ _ rfl rfl),
               st_plain rfl (op_move _ _ _ _ (congrArg (fun b => AV.v (Value.bool b)) hg23_3) rfl),
               st_skip 3 175 _ false rfl rfl rfl rfl (List.Mem.head _),
               st_skip 3 175 _ false rfl rfl rfl rfl (List.Mem.head _),
               st_skip 3 175 _ false rfl rfl rfl rfl (List.Mem.head _),
               st_skip 3 175 _ false rfl rfl rfl rfl (List.Mem.head _),
               st_skip 3 175 _ false rfl rfl rfl rfl (List.Mem.head _),
               st_plain rfl (op_pick _ _ true _ rfl rfl),
               st_plain rfl (op_move _ _ _ _ rfl rfl),
               st_skip 10 182 _ false rfl rfl rfl rfl (List.Mem.head _),
               st_skip 10 182 _ false rfl rfl rfl rfl (List.Mem.head _),
               st_skip 10 182 _ false rfl rfl rfl rfl (List.Mem.head _),
               st_skip 10 182 _ false rfl rfl rfl rfl (List.Mem.head _),
               st_skip 10 182 _ false rfl rfl rfl rfl (List.Mem.head _),
               st_skip 10 182 _ false rfl rfl rfl rfl (List.Mem.head _),
               st_plain rfl (op_pick _ _ true _ rfl rfl),
               st_plain rfl (op_move _ _ _ _ rfl rfl),
               st_skip 18 190 _ false rfl rfl rfl rfl (List.Mem.head _),
               st_skip 18 190 _ false rfl rfl rfl rfl (List.Mem.head _),
               st_plain rfl (op_pick _ _ true _ rfl rfl),
               trivial⟩ ?_
              exact hl618 _ (Option.some.inj h).symm
             ·refine cond_some h (fun hg23_10 h => ?_) (fun hg23_10 h => ?_)
              ·refine ht_seqR hn (El := (_ :: _ :: _ :: _ :: _ :: _ :: (172, .agg [.v (.int .i64 v98.1.Number), .same (.cell 12 1), .v (.bool v98.1.Ready), .v (.int .i64 v98.1.Base), .v (.int .i64 v98.1.Next), .v (.int .i64 v98.1.Wait), .v (.bool v98.1.Over)]) :: (173, .v (.bool v100)) :: (174, .v (.bool (!v100))) :: (175, .v (.bool false)) :: (176, .ptr 12 0) :: (177, .v (.int .i64 v98.1.Number)) :: (178, .ptr 2 0) :: (179, .v (.int .i64 s.Number)) :: (180, .v (.bool (v98.1.Number != s.Number))) :: (181, .v (.bool (v98.1.Number != s.Number))) :: (182, .v (.bool true)) :: (183, .v undef) :: (184, .v undef) :: (185, .v undef) :: (186, .v undef) :: (187, .v undef) :: (188, .v undef) :: (189, .v (.bool true)) :: (190, .v (.bool true)) :: (191, .v undef) :: (192, .v undef) :: (193, .v (.bool true)) :: [])) (init := [0, 1, 2, 3, 4, 5]) (fin := [0, 1, 2, 3, 4, 27]) (sps := (⟨[4], [], [6], [(.slot 172)]⟩ :: ⟨[6, 4], [], [7], [(.slot 173)]⟩ :: ⟨[7], [], [8], [(.slot 174)]⟩ :: ⟨[8], [], [9], [(.slot 175)]⟩ :: ⟨[9, 4], [], [10], [(.slot 176)]⟩ :: ⟨[9, 10, 4], [], [11], [(.slot 177)]⟩ :: ⟨[9, 1], [], [12], [(.slot 178)]⟩ :: ⟨[9, 12, 1], [], [13], [(.slot 179)]⟩ :: ⟨[9, 11, 13], [], [14], [(.slot 180)]⟩ :: ⟨[9, 14], [], [15], [(.slot 181)]⟩ :: ⟨[15], [], [16], [(.slot 182)]⟩ :: ⟨[16], [], [17], [(.slot 183)]⟩ :: ⟨[16], [], [18], [(.slot 184)]⟩ :: ⟨[16], [], [19], [(.slot 185)]⟩ :: ⟨[16], [], [20], [(.slot 186)]⟩ :: ⟨[16], [], [21], [(.slot 187)]⟩ :: ⟨[16], [], [22], [(.slot 188)]⟩ :: ⟨[16], [], [23], [(.slot 189)]⟩ :: ⟨[23], [], [24], [(.slot 190)]⟩ :: ⟨[24], [], [25], [(.slot 191)]⟩ :: ⟨[24], [], [26], [(.slot 192)]⟩ :: ⟨[24], [], [27], [(.slot 193)]⟩ :: [])) (es' := [(_, _), (_, _), (_, _), (_, _), (_, _), (193, .v (.bool true))]) (by kernel_rfl) rfl rfl
                ⟨st_plain rfl (op_loadA _ _ _ _ _ _ _ Try.underlying24 rfl sz24 rfl rfl (Nat.le_of_ble_eq_true rfl) rfl rfl),
                st_plain rfl (op_call _ _ 13 _ _ rfl Try.call13 rfl (ok_wherryref18_Send v98.1 _ hv100) rfl rfl),
                st_plain rfl (op_un _ _ _ _ rfl rfl),
                st_plain rfl (op_move _ _ _ _ (congrArg (fun b => AV.v (Value.bool b)) hg23_3) rfl),
                st_run 3 175 false rfl rfl rfl (List.Mem.head _) (op_fieldAddr _ _ _ _ 12 0 _ Try.underlying24 rfl sz3 rfl rfl (by decide)),
                st_run 3 175 false rfl rfl rfl (List.Mem.head _) (op_load _ _ _ _ _ _ Try.underlying3 rfl rfl rfl (Nat.le_of_ble_eq_true rfl) rfl rfl rfl),
                st_run 3 175 false rfl rfl rfl (List.Mem.head _) (op_fieldAddr _ _ _ _ 2 0 _ Try.underlying24 rfl sz3 rfl rfl (by decide)),
                st_run 3 175 false rfl rfl rfl (List.Mem.head _) (op_load _ _ _ _ _ _ Try.underlying3 rfl rfl rfl (Nat.le_of_ble_eq_true rfl) rfl rfl rfl),
                st_run 3 175 false rfl rfl rfl (List.Mem.head _) (op_bin _ _ _ _ _ rfl rfl rfl),
                st_plain rfl (op_pick _ _ false _ rfl rfl),
                st_plain rfl (op_move _ _ _ _ (congrArg (fun b => AV.v (Value.bool b)) hg23_10) rfl),
                st_skip 10 182 _ false rfl rfl rfl rfl (List.Mem.head _),
                st_skip 10 182 _ false rfl rfl rfl rfl (List.Mem.head _),
                st_skip 10 182 _ false rfl rfl rfl rfl (List.Mem.head _),
                st_skip 10 182 _ false rfl rfl rfl rfl (List.Mem.head _),
                st_skip 10 182 _ false rfl rfl rfl rfl (List.Mem.head _),
                st_skip 10 182 _ false rfl rfl rfl rfl (List.Mem.head _),
                st_plain rfl (op_pick _ _ true _ rfl rfl),
                st_plain rfl (op_move _ _ _ _ rfl rfl),
                st_skip 18 190 _ false rfl rfl rfl rfl (List.Mem.head _),
                st_skip 18 190 _ false rfl rfl rfl rfl (List.Mem.head _),
                st_plain rfl (op_pick _ _ true _ rfl rfl),
                trivial⟩ ?_
               exact hl618 _ (Option.some.inj h).symm
              ·obtain ⟨v101, hv101, h⟩ := bind_some h
               refine cond_some h (fun hg23_18 h => ?_) (fun hg23_18 h => ?_)
               ·refine ht_seqR hn (El := (_ :: _ :: _ :: _ :: _ :: _ :: (172, .agg [.v (.int .i64 v98.1.Number), .same (.cell 12 1), .v (.bool v98.1.Ready), .v (.int .i64 v98.1.Base), .v (.int .i64 v98.1.Next), .v (.int .i64 v98.1.Wait), .v (.bool v98.1.Over)]) :: (173, .v (.bool v100)) :: (174, .v (.bool (!v100))) :: (175, .v (.bool false)) :: (176, .ptr 12 0) :: (177, .v (.int .i64 v98.1.Number)) :: (178, .ptr 2 0) :: (179, .v (.int .i64 s.Number)) :: (180, .v (.bool (v98.1.Number != s.Number))) :: (181, .v (.bool (v98.1.Number != s.Number))) :: (182, .v (.bool false)) :: (183, .ptr 12 1) :: (184, .same (.cell 12 1)) :: (185, .ptr 2 1) :: (186, .fl .shr 1 (List.map (Value.int .u8) s.Data)) :: (187, .v (.bool v101)) :: (188, .v (.bool (!v101))) :: (189, .v (.bool (!v101))) :: (190, .v (.bool true)) :: (191, .v undef) :: (192, .v undef) :: (193, .v (.bool true)) :: [])) (init := [0, 1, 2, 3, 4, 5]) (fin := [0, 1, 2, 3, 4, 27]) (sps := (⟨[4], [], [6], [(.slot 172)]⟩ :: ⟨[6, 4], [], [7], [(.slot 173)]⟩ :: ⟨[7], [], [8], [(.slot 174)]⟩ :: ⟨[8], [], [9], [(.slot 175)]⟩ :: ⟨[9, 4], [], [10], [(.slot 176)]⟩ :: ⟨[9, 10, 4], [], [11], [(.slot 177)]⟩ :: ⟨[9, 1], [], [12], [(.slot 178)]⟩ :: ⟨[9, 12, 1], [], [13], [(.slot 179)]⟩ :: ⟨[9, 11, 13], [], [14], [(.slot 180)]⟩ :: ⟨[9, 14], [], [15], [(.slot 181)]⟩ :: ⟨[15], [], [16], [(.slot 182)]⟩ :: ⟨[16, 4], [], [17], [(.slot 183)]⟩ :: ⟨[16, 17, 4], [], [18], [(.slot 184)]⟩ :: ⟨[16, 1], [], [19], [(.slot 185)]⟩ :: ⟨[16, 19, 1], [], [20], [(.slot 186)]⟩ :: ⟨[16, 18, 4, 20], [], [21], [(.slot 187)]⟩ :: ⟨[16, 21], [], [22], [(.slot 188)]⟩ :: ⟨[16, 22], [], [23], [(.slot 189)]⟩ :: ⟨[23], [], [24], [(.slot 190)]⟩ :: ⟨[24], [], [25], [(.slot 191)]⟩ :: ⟨[24], [], [26], [(.slot 192)]⟩ :: ⟨[24], [], [27], [(.slot 193)]⟩ :: [])) (es' := [(_, _), (_, _), (_, _), (_, _), (_, _), (193, .v (.bool true))]) (by kernel_rfl) rfl rfl
                 ⟨st_plain rfl (op_loadA _ _ _ _ _ _ _ Try.underlying24 rfl sz24 rfl rfl (Nat.le_of_ble_eq_true rfl) rfl rfl),
                 st_plain rfl (op_call _ _ 13 _ _ rfl Try.call13 rfl (ok_wherryref18_Send v98.1 _ hv100) rfl rfl),
                 st_plain rfl (op_un _ _ _ _ rfl rfl),
                 st_plain rfl (op_move _ _ _ _ (congrArg (fun b => AV.v (Value.bool b)) hg23_3) rfl),
                 st_run 3 175 false rfl rfl rfl (List.Mem.head _) (op_fieldAddr _ _ _ _ 12 0 _ Try.underlying24 rfl sz3 rfl rfl (by decide)),
                 st_run 3 175 false rfl rfl rfl (List.Mem.head _) (op_load _ _ _ _ _ _ Try.underlying3 rfl rfl rfl (Nat.le_of_ble_eq_true rfl) rfl rfl rfl),
                 st_run 3 175 false rfl rfl rfl (List.Mem.head _) (op_fieldAddr _ _ _ _ 2 0 _ Try.underlying24 rfl sz3 rfl rfl (by decide)),
                 st_run 3 175 false rfl rfl rfl (List.Mem.head _) (op_load _ _ _ _ _ _ Try.underlying3 rfl rfl rfl (Nat.le_of_ble_eq_true rfl) rfl rfl rfl),
                 st_run 3 175 false rfl rfl rfl (List.Mem.head _) (op_bin _ _ _ _ _ rfl rfl rfl),
                 st_plain rfl (op_pick _ _ false _ rfl rfl),
                 st_plain rfl (op_move _ _ _ _ (congrArg (fun b => AV.v (Value.bool b)) hg23_10) rfl),
                 st_run 10 182 false rfl rfl rfl (List.Mem.head _) (op_fieldAddr _ _ _ _ 12 0 _ Try.underlying24 rfl sz22 rfl rfl (by decide)),
                 st_run 10 182 false rfl rfl rfl (List.Mem.head _) (op_load _ _ _ _ _ _ Try.underlying22 rfl rfl rfl (Nat.le_of_ble_eq_true rfl) rfl rfl rfl),
                 st_run 10 182 false rfl rfl rfl (List.Mem.head _) (op_fieldAddr _ _ _ _ 2 0 _ Try.underlying24 rfl sz22 rfl rfl (by decide)),
                 st_run 10 182 false rfl rfl rfl (List.Mem.head _) (op_load _ _ _ _ _ _ Try.underlying22 rfl rfl rfl (Nat.le_of_ble_eq_true rfl) rfl rfl rfl),
                 st_run 10 182 false rfl rfl rfl (List.Mem.head _) (op_call _ _ 28 _ _ rfl Try.call28 rfl (ok_wherrykeep_Bytes v98.1.Data s.Data _ hv101) rfl rfl),
                 st_run 10 182 false rfl rfl rfl (List.Mem.head _) (op_un _ _ _ _ rfl rfl),
                 st_plain rfl (op_pick _ _ false _ rfl rfl),
                 st_plain rfl (op_move _ _ _ _ (congrArg (fun b => AV.v (Value.bool b)) hg23_18) rfl),
                 st_skip 18 190 _ false rfl rfl rfl rfl (List.Mem.head _),
                 st_skip 18 190 _ false rfl rfl rfl rfl (List.Mem.head _),
                 st_plain rfl (op_pick _ _ true _ rfl rfl),
                 trivial⟩ ?_
                exact hl618 _ (Option.some.inj h).symm
               ·refine ht_seqR hn (El := (_ :: _ :: _ :: _ :: _ :: _ :: (172, .agg [.v (.int .i64 v98.1.Number), .same (.cell 12 1), .v (.bool v98.1.Ready), .v (.int .i64 v98.1.Base), .v (.int .i64 v98.1.Next), .v (.int .i64 v98.1.Wait), .v (.bool v98.1.Over)]) :: (173, .v (.bool v100)) :: (174, .v (.bool (!v100))) :: (175, .v (.bool false)) :: (176, .ptr 12 0) :: (177, .v (.int .i64 v98.1.Number)) :: (178, .ptr 2 0) :: (179, .v (.int .i64 s.Number)) :: (180, .v (.bool (v98.1.Number != s.Number))) :: (181, .v (.bool (v98.1.Number != s.Number))) :: (182, .v (.bool false)) :: (183, .ptr 12 1) :: (184, .same (.cell 12 1)) :: (185, .ptr 2 1) :: (186, .fl .shr 1 (List.map (Value.int .u8) s.Data)) :: (187, .v (.bool v101)) :: (188, .v (.bool (!v101))) :: (189, .v (.bool (!v101))) :: (190, .v (.bool false)) :: (191, .ptr 5 6) :: (192, .v (.bool v16.1.Over)) :: (193, .v (.bool v16.1.Over)) :: [])) (init := [0, 1, 2, 3, 4, 5]) (fin := [0, 1, 2, 3, 4, 27]) (sps := (⟨[4], [], [6], [(.slot 172)]⟩ :: ⟨[6, 4], [], [7], [(.slot 173)]⟩ :: ⟨[7], [], [8], [(.slot 174)]⟩ :: ⟨[8], [], [9], [(.slot 175)]⟩ :: ⟨[9, 4], [], [10], [(.slot 176)]⟩ :: ⟨[9, 10, 4], [], [11], [(.slot 177)]⟩ :: ⟨[9, 1], [], [12], [(.slot 178)]⟩ :: ⟨[9, 12, 1], [], [13], [(.slot 179)]⟩ :: ⟨[9, 11, 13], [], [14], [(.slot 180)]⟩ :: ⟨[9, 14], [], [15], [(.slot 181)]⟩ :: ⟨[15], [], [16], [(.slot 182)]⟩ :: ⟨[16, 4], [], [17], [(.slot 183)]⟩ :: ⟨[16, 17, 4], [], [18], [(.slot 184)]⟩ :: ⟨[16, 1], [], [19], [(.slot 185)]⟩ :: ⟨[16, 19, 1], [], [20], [(.slot 186)]⟩ :: ⟨[16, 18, 4, 20], [], [21], [(.slot 187)]⟩ :: ⟨[16, 21], [], [22], [(.slot 188)]⟩ :: ⟨[16, 22], [], [23], [(.slot 189)]⟩ :: ⟨[23], [], [24], [(.slot 190)]⟩ :: ⟨[24, 2], [], [25], [(.slot 191)]⟩ :: ⟨[24, 25, 2], [], [26], [(.slot 192)]⟩ :: ⟨[24, 26], [], [27], [(.slot 193)]⟩ :: [])) (es' := [(_, _), (_, _), (_, _), (_, _), (_, _), (193, .v (.bool v16.1.Over))]) (by kernel_rfl) rfl rfl
                 ⟨st_plain rfl (op_loadA _ _ _ _ _ _ _ Try.underlying24 rfl sz24 rfl rfl (Nat.le_of_ble_eq_true rfl) rfl rfl),
                 st_plain rfl (op_call _ _ 13 _ _ rfl Try.call13 rfl (ok_wherryref18_Send v98.1 _ hv100) rfl rfl),
                 st_plain rfl (op_un _ _ _ _ rfl rfl),
                 st_plain rfl (op_move _ _ _ _ (congrArg (fun b => AV.v (Value.bool b)) hg23_3) rfl),
                 st_run 3 175 false rfl rfl rfl (List.Mem.head _) (op_fieldAddr _ _ _ _ 12 0 _ Try.underlying24 rfl sz3 rfl rfl (by decide)),
                 st_run 3 175 false rfl rfl rfl (List.Mem.head _) (op_load _ _ _ _ _ _ Try.underlying3 rfl rfl rfl (Nat.le_of_ble_eq_true rfl) rfl rfl rfl),
                 st_run 3 175 false rfl rfl rfl (List.Mem.head _) (op_fieldAddr _ _ _ _ 2 0 _ Try.underlying24 rfl sz3 rfl rfl (by decide)),
                 st_run 3 175 false rfl rfl rfl (List.Mem.head _) (op_load _ _ _ _ _ _ Try.underlying3 rfl rfl rfl (Nat.le_of_ble_eq_true rfl) rfl rfl rfl),
                 st_run 3 175 false rfl rfl rfl (List.Mem.head _) (op_bin _ _ _ _ _ rfl rfl rfl),
                 st_plain rfl (op_pick _ _ false _ rfl rfl),
                 st_plain rfl (op_move _ _ _ _ (congrArg (fun b => AV.v (Value.bool b)) hg23_10) rfl),
                 st_run 10 182 false rfl rfl rfl (List.Mem.head _) (op_fieldAddr _ _ _ _ 12 0 _ Try.underlying24 rfl sz22 rfl rfl (by decide)),
                 st_run 10 182 false rfl rfl rfl (List.Mem.head _) (op_load _ _ _ _ _ _ Try.underlying22 rfl rfl rfl (Nat.le_of_ble_eq_true rfl) rfl rfl rfl),
                 st_run 10 182 false rfl rfl rfl (List.Mem.head _) (op_fieldAddr _ _ _ _ 2 0 _ Try.underlying24 rfl sz22 rfl rfl (by decide)),
                 st_run 10 182 false rfl rfl rfl (List.Mem.head _) (op_load _ _ _ _ _ _ Try.underlying22 rfl rfl rfl (Nat.le_of_ble_eq_true rfl) rfl rfl rfl),
                 st_run 10 182 false rfl rfl rfl (List.Mem.head _) (op_call _ _ 28 _ _ rfl Try.call28 rfl (ok_wherrykeep_Bytes v98.1.Data s.Data _ hv101) rfl rfl),
                 st_run 10 182 false rfl rfl rfl (List.Mem.head _) (op_un _ _ _ _ rfl rfl),
                 st_plain rfl (op_pick _ _ false _ rfl rfl),
                 st_plain rfl (op_move _ _ _ _ (congrArg (fun b => AV.v (Value.bool b)) hg23_18) rfl),
                 st_run 18 190 false rfl rfl rfl (List.Mem.head _) (op_fieldAddr _ _ _ _ 5 0 _ Try.underlying24 rfl sz4 rfl rfl (by decide)),
                 st_run 18 190 false rfl rfl rfl (List.Mem.head _) (op_load _ _ _ _ _ _ Try.underlying4 rfl rfl rfl (Nat.le_of_ble_eq_true rfl) rfl rfl rfl),
                 st_plain rfl (op_pick _ _ false _ rfl rfl),
                 trivial⟩ ?_
                exact hl618 _ (Option.some.inj h).symm
          ·rintro u598 hl599 hr600 s586 rr603 h ho601
           refine ht_seq ?_
           refine ht_seq ?_
           refine ht_seqR hn (El := [_, _, _, _, _, _, _, (88, .v (.int .i64 s586)), (89, .same (.slot 8)), (90, .v (.int .i64 (v16.2.1.length : Int))), (91, .v (.bool ((decide (s586 < (v16.2.1.length : Int))))))]) (init := [0, 1, 2, 3, 4, 5, 6]) (fin := [0, 1, 2, 3, 4, 5, 6, 10]) (sps := [⟨[6], [], [7], [(.slot 88)]⟩, ⟨[5], [], [8], [(.slot 89)]⟩, ⟨[8, 5], [], [9], [(.slot 90)]⟩, ⟨[7, 9], [], [10], [(.slot 91)]⟩]) (es' := [(_, _), (_, _), (_, _), (_, _), (_, _), (_, _), (_, _), (91, .v (.bool ((decide (s586 < (v16.2.1.length : Int))))))]) (by kernel_rfl) rfl rfl
            ⟨st_plain rfl (op_move _ _ _ _ rfl rfl),
            st_plain rfl (op_move _ _ _ _ rfl rfl),
            st_plain rfl (op_len_fr _ _ _ Try.underlying31 rfl (by decide) (gflat_len T_Frame.ilen _)),
            st_plain rfl (op_bin _ _ _ _ _ rfl rfl rfl),
            trivial⟩ ?_
           refine pt_then ?_
           refine ht_cond _ rfl (fun hb604 => ?_) (fun hb604 => ?_)
           ·have h := cond_t hb604 h
            refine ht_skip ?_
            refine pt_then ?_
            refine ht_seq ?_
            refine ht_block ?_
            refine ht_seq ?_
            refine ht_seq ?_
            refine ht_joinS h (fun (s605 : Bool) => [(1, .fr .shr true 5 (List.flatten (List.map T_Frame.ienc l))), (2, .box 24 [.v (.int .i64 s.Number), .fl .shr 1 (List.map (Value.int .u8) s.Data), .v (.bool s.Ready), .v (.int .i64 s.Base), .v (.int .i64 s.Next), .v (.int .i64 s.Wait), .v (.bool s.Over)]), (5, .box 24 [.v (.int .i64 s329), .fl .shr 1 (List.map (Value.int .u8) s330), .v (.bool s331), .v (.int .i64 s332), .v (.int .i64 s333), .v (.int .i64 s334), .v (.bool s335)]), (6, .v (.int .i64 s336)), (7, .box 24 [.v (.int .i64 v16.1.Number), .fl (.own 5) 1 (List.map (Value.int .u8) v16.1.Data), .v (.bool v16.1.Ready), .v (.int .i64 v16.1.Base), .v (.int .i64 v16.1.Next), .v (.int .i64 v16.1.Wait), .v (.bool v16.1.Over)]), (8, .fr (.own 26) false 5 (List.flatten (List.map T_Frame.ienc v16.2.1))), (10, .v (.int .i64 s586)), (113, .v (.bool s605))]) ?_ ?_
            ·rintro s605 h
             refine pt_then ?_
             refine ht_cond _ rfl (fun hb609 => ?_) (fun hb609 => ?_)
             ·have h := cond_t hb609 h
              refine ht_seq ?_
              refine ht_seqR hn (El := [_, _, _, _, _, _, _, _, (4, .v (.bool false))]) (init := [0, 1, 2, 3, 4, 5, 6, 7]) (fin := [8]) (sps := [⟨[], [], [8], [(.slot 4)]⟩]) (es' := [(4, .v (.bool false))]) (by kernel_rfl) rfl rfl
               ⟨st_plain rfl (op_assign _ _ _ _ rfl rfl),
               trivial⟩ ?_
              refine pt_then ?_
              refine ht_ret ?_
              refine pt_r_then ?_
              refine pt_r_in ?_
              refine pt_r_then ?_
              refine pt_r_then ?_
              refine pt_r_in ?_
              refine pt_r_then ?_
              refine pt_r_in ?_
              refine pt_r_then ?_
              refine pt_r_then ?_
              refine pt_r_in ?_
              refine pt_r_then ?_
              have h := hr600 _ (ho601 _ (Option.some.inj h).symm).symm
              have h := hr556 _ (Option.some.inj h).symm
              have h := hr478 _ (ho479 _ (Option.some.inj h).symm).symm
              obtain rfl := Option.some.inj h
              exact pt_ret hio rfl (.tmp _ _ .nil) rfl rfl
             ·have h := cond_f hb609 h
              refine ht_skip ?_
              refine pt_then ?_
              refine ht_seq ?_
              obtain ⟨v35, hv35, h⟩ := bind_some h
              obtain ⟨v36, hv36, h⟩ := bind_some h
              refine ht_seqR hn (El := [_, _, _, _, _, _, _, _, (114, .same (.slot 8)), (115, .v (.int .i64 s586)), (116, .eref (.slot 8) (v35 * 5)), (117, .eref (.slot 8) (v35 * 5 + 2)), (118, .v (.int .i64 v36.Offset)), (11, .v (.int .i64 v36.Offset))]) (init := [0, 1, 2, 3, 4, 5, 6, 7]) (fin := [0, 1, 2, 3, 4, 5, 6, 13]) (sps := [⟨[5], [], [8], [(.slot 114)]⟩, ⟨[6], [], [9], [(.slot 115)]⟩, ⟨[8, 5, 9], [], [10], [(.slot 116)]⟩, ⟨[10, 5], [], [11], [(.slot 117)]⟩, ⟨[11, 5], [], [12], [(.slot 118)]⟩, ⟨[12], [], [13], [(.slot 11)]⟩]) (es' := [(_, _), (_, _), (_, _), (_, _), (_, _), (_, _), (_, _), (11, .v (.int .i64 v36.Offset))]) (by kernel_rfl) rfl rfl
               ⟨st_plain rfl (op_move _ _ _ _ rfl rfl),
               st_plain rfl (op_move _ _ _ _ rfl rfl),
               st_plain rfl (op_ix_fr _ _ _ _ _ _ _ _ Try.underlying31 sz26 (by decide) rfl rfl rfl (ix_ok hv35).1 (gflat_lt T_Frame.ilen (ix_ok hv35).2) rfl),
               st_plain rfl (op_fieldAddr_e _ _ _ _ _ _ _ Try.underlying26 rfl sz3 rfl rfl rfl),
               st_plain rfl (op_load_fr _ _ _ _ _ _ _ Try.underlying3 rfl rfl rfl (gflat_cell T_Frame.ilen hv36 rfl) (.v _)),
               st_plain rfl (op_assign _ _ _ _ rfl rfl),
               trivial⟩ ?_
              refine pt_then ?_
              refine ht_seq ?_
              refine ht_joinS h (fun (s610 : Bool) => [(1, .fr .shr true 5 (List.flatten (List.map T_Frame.ienc l))), (2, .box 24 [.v (.int .i64 s.Number), .fl .shr 1 (List.map (Value.int .u8) s.Data), .v (.bool s.Ready), .v (.int .i64 s.Base), .v (.int .i64 s.Next), .v (.int .i64 s.Wait), .v (.bool s.Over)]), (5, .box 24 [.v (.int .i64 s329), .fl .shr 1 (List.map (Value.int .u8) s330), .v (.bool s331), .v (.int .i64 s332), .v (.int .i64 s333), .v (.int .i64 s334), .v (.bool s335)]), (6, .v (.int .i64 s336)), (7, .box 24 [.v (.int .i64 v16.1.Number), .fl (.own 5) 1 (List.map (Value.int .u8) v16.1.Data), .v (.bool v16.1.Ready), .v (.int .i64 v16.1.Base), .v (.int .i64 v16.1.Next), .v (.int .i64 v16.1.Wait), .v (.bool v16.1.Over)]), (8, .fr (.own 26) false 5 (List.flatten (List.map T_Frame.ienc v16.2.1))), (10, .v (.int .i64 s586)), (159, .v (.bool s610))]) ?_ ?_
              ·rintro s610 h
               refine pt_then ?_
               refine ht_cond _ rfl (fun hb614 => ?_) (fun hb614 => ?_)
               ·have h := cond_t hb614 h
                refine ht_seq ?_
                refine ht_seqR hn (El := [_, _, _, _, _, _, _, _, (4, .v (.bool false))]) (init := [0, 1, 2, 3, 4, 5, 6, 7]) (fin := [8]) (sps := [⟨[], [], [8], [(.slot 4)]⟩]) (es' := [(4, .v (.bool false))]) (by kernel_rfl) rfl rfl
                 ⟨st_plain rfl (op_assign _ _ _ _ rfl rfl),
                 trivial⟩ ?_
                refine pt_then ?_
                refine ht_ret ?_
                refine pt_r_in ?_
                refine pt_r_then ?_
                refine pt_r_then ?_
                refine pt_r_in ?_
                refine pt_r_then ?_
                refine pt_r_in ?_
                refine pt_r_then ?_
                refine pt_r_then ?_
                refine pt_r_in ?_
                refine pt_r_then ?_
                have h := hr600 _ (ho601 _ (Option.some.inj h).symm).symm
                have h := hr556 _ (Option.some.inj h).symm
                have h := hr478 _ (ho479 _ (Option.some.inj h).symm).symm
                obtain rfl := Option.some.inj h
                exact pt_ret hio rfl (.tmp _ _ .nil) rfl rfl
               ·have h := cond_f hb614 h
                refine ht_skip ?_
                refine pt_inb ?_
                refine pt_then ?_
                obtain ⟨v54, hv54, h⟩ := bind_some h
                refine ht_seqR hn (El := [_, _, _, _, _, _, _, _, (92, .v (.int .i64 s586)), (93, .v (.int .i64 v54)), (10, .v (.int .i64 v54))]) (init := [0, 1, 2, 3, 4, 5, 6, 7]) (fin := [0, 1, 2, 3, 4, 5, 10]) (sps := [⟨[6], [], [8], [(.slot 92)]⟩, ⟨[8], [], [9], [(.slot 93)]⟩, ⟨[9], [6], [10], [(.slot 10)]⟩]) (es' := [(_, _), (_, _), (_, _), (_, _), (_, _), (_, _), (10, .v (.int .i64 v54))]) (by kernel_rfl) rfl rfl
                 ⟨st_plain rfl (op_move _ _ _ _ rfl rfl),
                 st_plain rfl (op_bin _ _ _ _ _ rfl rfl (ibind (f := Value.int .i64) (Option.some.inj hv54))),
                 st_plain rfl (LOp.drop [_] (op_assign _ _ _ _ rfl rfl)),
                 trivial⟩ ?_
                exact pt_next _ (Option.some.inj h).symm rfl
              ·intro u611 h hl612 hr613
               obtain ⟨v37, hv37, h⟩ := bind_some h
               obtain ⟨v38, hv38, h⟩ := bind_some h
               refine cond_some h (fun hg18_6 h => ?_) (fun hg18_6 h => ?_)
               ·obtain ⟨v39, hv39, h⟩ := bind_some h
                obtain ⟨v40, hv40, h⟩ := bind_some h
                obtain ⟨v41, hv41, h⟩ := bind_some h
                refine cond_some h (fun hg18_19 h => ?_) (fun hg18_19 h => ?_)
                ·refine ht_anyR (by kernel_rfl) hn (El := (_ :: _ :: _ :: _ :: _ :: _ :: _ :: _ :: (119, .same (.slot 8)) :: (120, .v (.int .i64 s586)) :: (121, .eref (.slot 8) (v37 * 5)) :: (122, .eref (.slot 8) (v37 * 5 + 0)) :: (123, .v (.int .i64 v38.Kind)) :: (124, .v (.bool (v38.Kind == 3))) :: (125, .v (.bool true)) :: (126, .v (.int .i64 v36.Offset)) :: (127, .same (.slot 8)) :: (128, .v (.int .i64 s586)) :: (129, .eref (.slot 8) (v39 * 5)) :: (130, .eref (.slot 8) (v39 * 5 + 4)) :: (131, .fl .ro 1 (List.map (Value.int .u8) v40.Data)) :: (132, .v (.int .i64 (v40.Data.length : Int))) :: (133, .v (.int .i64 v41)) :: (134, .ptr 2 1) :: (135, .fl .shr 1 (List.map (Value.int .u8) s.Data)) :: (136, .v (.int .i64 (s.Data.length : Int))) :: (137, .v (.bool ((decide ((s.Data.length : Int) < v41))))) :: (138, .v (.bool true)) :: (139, .v undef) :: (140, .v undef) :: (141, .v undef) :: (142, .v undef) :: (143, .v undef) :: (144, .v undef) :: (145, .v undef) :: (146, .v undef) :: (147, .v undef) :: (148, .v undef) :: (149, .v undef) :: (150, .v undef) :: (151, .v undef) :: (152, .v undef) :: (153, .v undef) :: (154, .v undef) :: (155, .v undef) :: (156, .v undef) :: (157, .v undef) :: (158, .v (.bool true)) :: (159, .v (.bool true)) :: [])) (init := [0, 1, 2, 3, 4, 5, 6, 7]) (fin := [0, 1, 2, 3, 4, 5, 6, 48]) (sps := (⟨[5], [], [8], [(.slot 119)]⟩ :: ⟨[6], [], [9], [(.slot 120)]⟩ :: ⟨[8, 5, 9], [], [10], [(.slot 121)]⟩ :: ⟨[10, 5], [], [11], [(.slot 122)]⟩ :: ⟨[11, 5], [], [12], [(.slot 123)]⟩ :: ⟨[12], [], [13], [(.slot 124)]⟩ :: ⟨[13], [], [14], [(.slot 125)]⟩ :: ⟨[14, 7], [], [15], [(.slot 126)]⟩ :: ⟨[14, 5], [], [16], [(.slot 127)]⟩ :: ⟨[14, 6], [], [17], [(.slot 128)]⟩ :: ⟨[14, 16, 5, 17], [], [18], [(.slot 129)]⟩ :: ⟨[14, 18, 5], [], [19], [(.slot 130)]⟩ :: ⟨[14, 19, 5], [], [20], [(.slot 131)]⟩ :: ⟨[14, 20], [], [21], [(.slot 132)]⟩ :: ⟨[14, 15, 21], [], [22], [(.slot 133)]⟩ :: ⟨[14, 1], [], [23], [(.slot 134)]⟩ :: ⟨[14, 23, 1], [], [24], [(.slot 135)]⟩ :: ⟨[14, 24], [], [25], [(.slot 136)]⟩ :: ⟨[14, 22, 25], [], [26], [(.slot 137)]⟩ :: ⟨[14, 26], [], [27], [(.slot 138)]⟩ :: ⟨[27], [], [28], [(.slot 139)]⟩ :: ⟨[27], [], [29], [(.slot 140)]⟩ :: ⟨[27], [], [30], [(.slot 141)]⟩ :: ⟨[27], [], [31], [(.slot 142)]⟩ :: ⟨[27], [], [32], [(.slot 143)]⟩ :: ⟨[27], [], [33], [(.slot 144)]⟩ :: ⟨[27], [], [34], [(.slot 145)]⟩ :: ⟨[27], [], [35], [(.slot 146)]⟩ :: ⟨[27], [], [36], [(.slot 147)]⟩ :: ⟨[27], [], [37], [(.slot 148)]⟩ :: ⟨[27], [], [38], [(.slot 149)]⟩ :: ⟨[27], [], [39], [(.slot 150)]⟩ :: ⟨[27], [], [40], [(.slot 151)]⟩ :: ⟨[27], [], [41], [(.slot 152)]⟩ :: ⟨[27], [], [42], [(.slot 153)]⟩ :: ⟨[27], [], [43], [(.slot 154)]⟩ :: ⟨[27], [], [44], [(.slot 155)]⟩ :: ⟨[27], [], [45], [(.slot 156)]⟩ :: ⟨[27], [], [46], [(.slot 157)]⟩ :: ⟨[14, 27], [], [47], [(.slot 158)]⟩ :: ⟨[14, 47], [], [48], [(.slot 159)]⟩ :: [])) (es' := [(_, _), (_, _), (_, _), (_, _), (_, _), (_, _), (_, _), (159, .v (.bool true))]) (by kernel_rfl) rfl rfl
                  ⟨st_plain rfl (op_move _ _ _ _ rfl rfl),
                  st_plain rfl (op_move _ _ _ _ rfl rfl),
                  st_plain rfl (op_ix_fr _ _ _ _ _ _ _ _ Try.underlying31 sz26 (by decide) rfl rfl rfl (ix_ok hv37).1 (gflat_lt T_Frame.ilen (ix_ok hv37).2) rfl),
                  st_plain rfl (op_fieldAddr_e _ _ _ _ _ _ _ Try.underlying26 rfl sz3 rfl rfl rfl),
                  st_plain rfl (op_load_fr _ _ _ _ _ _ _ Try.underlying3 rfl rfl rfl (gflat_cell T_Frame.ilen hv38 rfl) (.v _)),
                  st_plain rfl (op_bin _ _ _ _ _ rfl rfl rfl),
                  st_plain rfl (op_move _ _ _ _ (congrArg (fun b => AV.v (Value.bool b)) hg18_6) rfl),
                  st_run 6 125 true rfl rfl rfl (List.Mem.head _) (op_move _ _ _ _ rfl rfl),
                  st_run 6 125 true rfl rfl rfl (List.Mem.head _) (op_move _ _ _ _ rfl rfl),
                  st_run 6 125 true rfl rfl rfl (List.Mem.head _) (op_move _ _ _ _ rfl rfl),
                  st_run 6 125 true rfl rfl rfl (List.Mem.head _) (op_ix_fr _ _ _ _ _ _ _ _ Try.underlying31 sz26 (by decide) rfl rfl rfl (ix_ok hv39).1 (gflat_lt T_Frame.ilen (ix_ok hv39).2) rfl),
                  st_run 6 125 true rfl rfl rfl (List.Mem.head _) (op_fieldAddr_e _ _ _ _ _ _ _ Try.underlying26 rfl sz22 rfl rfl rfl),
                  st_run 6 125 true rfl rfl rfl (List.Mem.head _) (op_load_fr _ _ _ _ _ _ _ Try.underlying22 rfl rfl rfl (gflat_cell T_Frame.ilen hv40 rfl) (.fl _ _ rfl)),
                  st_run 6 125 true rfl rfl rfl (List.Mem.head _) (op_len_fl _ _ _ Try.underlying22 rfl (by decide) (map_len _)),
                  st_run 6 125 true rfl rfl rfl (List.Mem.head _) (op_bin _ _ _ _ _ rfl rfl (ibind (f := Value.int .i64) (Option.some.inj hv41))),
                  st_run 6 125 true rfl rfl rfl (List.Mem.head _) (op_fieldAddr _ _ _ _ 2 0 _ Try.underlying24 rfl sz22 rfl rfl (by decide)),
                  st_run 6 125 true rfl rfl rfl (List.Mem.head _) (op_load _ _ _ _ _ _ Try.underlying22 rfl rfl rfl (Nat.le_of_ble_eq_true rfl) rfl rfl rfl),
                  st_run 6 125 true rfl rfl rfl (List.Mem.head _) (op_len_fl _ _ _ Try.underlying22 rfl (by decide) (map_len _)),
                  st_run 6 125 true rfl rfl rfl (List.Mem.head _) (op_bin _ _ _ _ _ rfl rfl rfl),
                  st_run 6 125 true rfl rfl rfl (List.Mem.head _) (op_move _ _ _ _ (congrArg (fun b => AV.v (Value.bool b)) hg18_19) rfl),
                  st_skip 19 138 _ false rfl rfl rfl rfl (List.Mem.head _),
                  st_skip 19 138 _ false rfl rfl rfl rfl (List.Mem.head _),
                  st_skip 19 138 _ false rfl rfl rfl rfl (List.Mem.head _),
                  st_skip 19 138 _ false rfl rfl rfl rfl (List.Mem.head _),
                  st_skip 19 138 _ false rfl rfl rfl rfl (List.Mem.head _),
                  st_skip 19 138 _ false rfl rfl rfl rfl (List.Mem.head _),
                  st_skip 19 138 _ false rfl rfl rfl rfl (List.Mem.head _),
                  st_skip 19 138 _ false rfl rfl rfl rfl (List.Mem.head _),
                  st_skip 19 138 _ false rfl rfl rfl rfl (List.Mem.head _),
                  st_skip 19 138 _ false rfl rfl rfl rfl (List.Mem.head _),
                  st_skip 19 138 _ false rfl rfl rfl rfl (List.Mem.head _),
                  st_skip 19 138 _ false rfl rfl rfl rfl (List.Mem.head _),
                  st_skip 19 138 _ false rfl rfl rfl rfl (List.Mem.head _),
                  st_skip 19 138 _ false rfl rfl rfl rfl (List.Mem.head _),
                  st_skip 19 138 _ false rfl rfl rfl rfl (List.Mem.head _),
                  st_skip 19 138 _ false rfl rfl rfl rfl (List.Mem.head _),
                  st_skip 19 138 _ false rfl rfl rfl rfl (List.Mem.head _),
                  st_skip 19 138 _ false rfl rfl rfl rfl (List.Mem.head _),
                  st_skip 19 138 _ false rfl rfl rfl rfl (List.Mem.head _),
                  st_run 6 125 true rfl rfl rfl (List.Mem.head _) (op_pick _ _ true _ rfl rfl),
                  st_plain rfl (op_pick _ _ true _ rfl rfl),
                  trivial⟩ ?_
                 exact hl612 _ (Option.some.inj h).symm
                ·obtain ⟨v42, hv42, h⟩ := bind_some h
                 obtain ⟨v43, hv43, h⟩ := bind_some h
                 obtain ⟨v44, hv44, h⟩ := bind_some h
                 obtain ⟨v45, hv45, h⟩ := bind_some h
                 obtain ⟨v46, hv46, h⟩ := bind_some h
                 obtain ⟨v47, hv47, h⟩ := bind_some h
                 obtain ⟨v48, hv48, h⟩ := bind_some h
                 refine ht_anyR (by kernel_rfl) hn (El := (_ :: _ :: _ :: _ :: _ :: _ :: _ :: _ :: (119, .same (.slot 8)) :: (120, .v (.int .i64 s586)) :: (121, .eref (.slot 8) (v37 * 5)) :: (122, .eref (.slot 8) (v37 * 5 + 0)) :: (123, .v (.int .i64 v38.Kind)) :: (124, .v (.bool (v38.Kind == 3))) :: (125, .v (.bool true)) :: (126, .v (.int .i64 v36.Offset)) :: (127, .same (.slot 8)) :: (128, .v (.int .i64 s586)) :: (129, .eref (.slot 8) (v39 * 5)) :: (130, .eref (.slot 8) (v39 * 5 + 4)) :: (131, .fl .ro 1 (List.map (Value.int .u8) v40.Data)) :: (132, .v (.int .i64 (v40.Data.length : Int))) :: (133, .v (.int .i64 v41)) :: (134, .ptr 2 1) :: (135, .fl .shr 1 (List.map (Value.int .u8) s.Data)) :: (136, .v (.int .i64 (s.Data.length : Int))) :: (137, .v (.bool ((decide ((s.Data.length : Int) < v41))))) :: (138, .v (.bool false)) :: (139, .same (.slot 8)) :: (140, .v (.int .i64 s586)) :: (141, .eref (.slot 8) (v42 * 5)) :: (142, .eref (.slot 8) (v42 * 5 + 4)) :: (143, .fl .ro 1 (List.map (Value.int .u8) v43.Data)) :: (144, .ptr 2 1) :: (145, .fl .shr 1 (List.map (Value.int .u8) s.Data)) :: (146, .v (.int .i64 v36.Offset)) :: (147, .v (.int .i64 v36.Offset)) :: (148, .same (.slot 8)) :: (149, .v (.int .i64 s586)) :: (150, .eref (.slot 8) (v44 * 5)) :: (151, .eref (.slot 8) (v44 * 5 + 4)) :: (152, .fl .ro 1 (List.map (Value.int .u8) v45.Data)) :: (153, .v (.int .i64 (v45.Data.length : Int))) :: (154, .v (.int .i64 v46)) :: (155, .fl .shr 1 (List.map (Value.int .u8) v47)) :: (156, .v (.bool v48)) :: (157, .v (.bool (!v48))) :: (158, .v (.bool (!v48))) :: (159, .v (.bool (!v48))) :: [])) (init := [0, 1, 2, 3, 4, 5, 6, 7]) (fin := [0, 1, 2, 3, 4, 5, 6, 48]) (sps := (⟨[5], [], [8], [(.slot 119)]⟩ :: ⟨[6], [], [9], [(.slot 120)]⟩ :: ⟨[8, 5, 9], [], [10], [(.slot 121)]⟩ :: ⟨[10, 5], [], [11], [(.slot 122)]⟩ :: ⟨[11, 5], [], [12], [(.slot 123)]⟩ :: ⟨[12], [], [13], [(.slot 124)]⟩ :: ⟨[13], [], [14], [(.slot 125)]⟩ :: ⟨[14, 7], [], [15], [(.slot 126)]⟩ :: ⟨[14, 5], [], [16], [(.slot 127)]⟩ :: ⟨[14, 6], [], [17], [(.slot 128)]⟩ :: ⟨[14, 16, 5, 17], [], [18], [(.slot 129)]⟩ :: ⟨[14, 18, 5], [], [19], [(.slot 130)]⟩ :: ⟨[14, 19, 5], [], [20], [(.slot 131)]⟩ :: ⟨[14, 20], [], [21], [(.slot 132)]⟩ :: ⟨[14, 15, 21], [], [22], [(.slot 133)]⟩ :: ⟨[14, 1], [], [23], [(.slot 134)]⟩ :: ⟨[14, 23, 1], [], [24], [(.slot 135)]⟩ :: ⟨[14, 24], [], [25], [(.slot 136)]⟩ :: ⟨[14, 22, 25], [], [26], [(.slot 137)]⟩ :: ⟨[14, 26], [], [27], [(.slot 138)]⟩ :: ⟨[27, 5], [], [28], [(.slot 139)]⟩ :: ⟨[27, 6], [], [29], [(.slot 140)]⟩ :: ⟨[27, 28, 5, 29], [], [30], [(.slot 141)]⟩ :: ⟨[27, 30, 5], [], [31], [(.slot 142)]⟩ :: ⟨[27, 31, 5], [], [32], [(.slot 143)]⟩ :: ⟨[27, 1], [], [33], [(.slot 144)]⟩ :: ⟨[27, 33, 1], [], [34], [(.slot 145)]⟩ :: ⟨[27, 7], [], [35], [(.slot 146)]⟩ :: ⟨[27, 7], [], [36], [(.slot 147)]⟩ :: ⟨[27, 5], [], [37], [(.slot 148)]⟩ :: ⟨[27, 6], [], [38], [(.slot 149)]⟩ :: ⟨[27, 37, 5, 38], [], [39], [(.slot 150)]⟩ :: ⟨[27, 39, 5], [], [40], [(.slot 151)]⟩ :: ⟨[27, 40, 5], [], [41], [(.slot 152)]⟩ :: ⟨[27, 41], [], [42], [(.slot 153)]⟩ :: ⟨[27, 36, 42], [], [43], [(.slot 154)]⟩ :: ⟨[27, 34, 35, 43], [], [44], [(.slot 155)]⟩ :: ⟨[27, 32, 44], [], [45], [(.slot 156)]⟩ :: ⟨[27, 45], [], [46], [(.slot 157)]⟩ :: ⟨[14, 27, 46], [], [47], [(.slot 158)]⟩ :: ⟨[14, 47], [], [48], [(.slot 159)]⟩ :: [])) (es' := [(_, _), (_, _), (_, _), (_, _), (_, _), (_, _), (_, _), (159, .v (.bool (!v48)))]) (by kernel_rfl) rfl rfl
                  ⟨st_plain rfl (op_move _ _ _ _ rfl rfl),
                  st_plain rfl (op_move _ _ _ _ rfl rfl),
                  st_plain rfl (op_ix_fr _ _ _ _ _ _ _ _ Try.underlying31 sz26 (by decide) rfl rfl rfl (ix_ok hv37).1 (gflat_lt T_Frame.ilen (ix_ok hv37).2) rfl),
                  st_plain rfl (op_fieldAddr_e _ _ _ _ _ _ _ Try.underlying26 rfl sz3 rfl rfl rfl),
                  st_plain rfl (op_load_fr _ _ _ _ _ _ _ Try.underlying3 rfl rfl rfl (gflat_cell T_Frame.ilen hv38 rfl) (.v _)),
                  st_plain rfl (op_bin _ _ _ _ _ rfl rfl rfl),
                  st_plain rfl (op_move _ _ _ _ (congrArg (fun b => AV.v (Value.bool b)) hg18_6) rfl),
                  st_run 6 125 true rfl rfl rfl (List.Mem.head _) (op_move _ _ _ _ rfl rfl),
                  st_run 6 125 true rfl rfl rfl (List.Mem.head _) (op_move _ _ _ _ rfl rfl),
                  st_run 6 125 true rfl rfl rfl (List.Mem.head _) (op_move _ _ _ _ rfl rfl),
                  st_run 6 125 true rfl rfl rfl (List.Mem.head _) (op_ix_fr _ _ _ _ _ _ _ _ Try.underlying31 sz26 (by decide) rfl rfl rfl (ix_ok hv39).1 (gflat_lt T_Frame.ilen (ix_ok hv39).2) rfl),
                  st_run 6 125 true rfl rfl rfl (List.Mem.head _) (op_fieldAddr_e _ _ _ _ _ _ _ Try.underlying26 rfl sz22 rfl rfl rfl),
                  st_run 6 125 true rfl rfl rfl (List.Mem.head _) (op_load_fr _ _ _ _ _ _ _ Try.underlying22 rfl rfl rfl (gflat_cell T_Frame.ilen hv40 rfl) (.fl _ _ rfl)),
                  st_run 6 125 true rfl rfl rfl (List.Mem.head _) (op_len_fl _ _ _ Try.underlying22 rfl (by decide) (map_len _)),
                  st_run 6 125 true rfl rfl rfl (List.Mem.head _) (op_bin _ _ _ _ _ rfl rfl (ibind (f := Value.int .i64) (Option.some.inj hv41))),
                  st_run 6 125 true rfl rfl rfl (List.Mem.head _) (op_fieldAddr _ _ _ _ 2 0 _ Try.underlying24 rfl sz22 rfl rfl (by decide)),
                  st_run 6 125 true rfl rfl rfl (List.Mem.head _) (op_load _ _ _ _ _ _ Try.underlying22 rfl rfl rfl (Nat.le_of_ble_eq_true rfl) rfl rfl rfl),
                  st_run 6 125 true rfl rfl rfl (List.Mem.head _) (op_len_fl _ _ _ Try.underlying22 rfl (by decide) (map_len _)),
                  st_run 6 125 true rfl rfl rfl (List.Mem.head _) (op_bin _ _ _ _ _ rfl rfl rfl),
                  st_run 6 125 true rfl rfl rfl (List.Mem.head _) (op_move _ _ _ _ (congrArg (fun b => AV.v (Value.bool b)) hg18_19) rfl),
                  st_run 19 138 false rfl rfl rfl (List.Mem.head _) (op_move _ _ _ _ rfl rfl),
                  st_run 19 138 false rfl rfl rfl (List.Mem.head _) (op_move _ _ _ _ rfl rfl),
                  st_run 19 138 false rfl rfl rfl (List.Mem.head _) (op_ix_fr _ _ _ _ _ _ _ _ Try.underlying31 sz26 (by decide) rfl rfl rfl (ix_ok hv42).1 (gflat_lt T_Frame.ilen (ix_ok hv42).2) rfl),
                  st_run 19 138 false rfl rfl rfl (List.Mem.head _) (op_fieldAddr_e _ _ _ _ _ _ _ Try.underlying26 rfl sz22 rfl rfl rfl),
                  st_run 19 138 false rfl rfl rfl (List.Mem.head _) (op_load_fr _ _ _ _ _ _ _ Try.underlying22 rfl rfl rfl (gflat_cell T_Frame.ilen hv43 rfl) (.fl _ _ rfl)),
                  st_run 19 138 false rfl rfl rfl (List.Mem.head _) (op_fieldAddr _ _ _ _ 2 0 _ Try.underlying24 rfl sz22 rfl rfl (by decide)),
                  st_run 19 138 false rfl rfl rfl (List.Mem.head _) (op_load _ _ _ _ _ _ Try.underlying22 rfl rfl rfl (Nat.le_of_ble_eq_true rfl) rfl rfl rfl),
                  st_run 19 138 false rfl rfl rfl (List.Mem.head _) (op_move _ _ _ _ rfl rfl),
                  st_run 19 138 false rfl rfl rfl (List.Mem.head _) (op_move _ _ _ _ rfl rfl),
                  st_run 19 138 false rfl rfl rfl (List.Mem.head _) (op_move _ _ _ _ rfl rfl),
                  st_run 19 138 false rfl rfl rfl (List.Mem.head _) (op_move _ _ _ _ rfl rfl),
                  st_run 19 138 false rfl rfl rfl (List.Mem.head _) (op_ix_fr _ _ _ _ _ _ _ _ Try.underlying31 sz26 (by decide) rfl rfl rfl (ix_ok hv44).1 (gflat_lt T_Frame.ilen (ix_ok hv44).2) rfl),
                  st_run 19 138 false rfl rfl rfl (List.Mem.head _) (op_fieldAddr_e _ _ _ _ _ _ _ Try.underlying26 rfl sz22 rfl rfl rfl),
                  st_run 19 138 false rfl rfl rfl (List.Mem.head _) (op_load_fr _ _ _ _ _ _ _ Try.underlying22 rfl rfl rfl (gflat_cell T_Frame.ilen hv45 rfl) (.fl _ _ rfl)),
                  st_run 19 138 false rfl rfl rfl (List.Mem.head _) (op_len_fl _ _ _ Try.underlying22 rfl (by decide) (map_len _)),
                  st_run 19 138 false rfl rfl rfl (List.Mem.head _) (op_bin _ _ _ _ _ rfl rfl (ibind (f := Value.int .i64) (Option.some.inj hv46))),
                  st_run 19 138 false rfl rfl rfl (List.Mem.head _) (op_sl _ _ _ v36.Offset v46 _ Try.underlying22 sz5 rfl rfl ⟨_, rfl⟩ ⟨_, rfl⟩ hv47),
                  st_run 19 138 false rfl rfl rfl (List.Mem.head _) (op_call _ _ 28 _ _ rfl Try.call28 rfl (ok_wherrykeep_Bytes v43.Data v47 _ hv48) rfl rfl),
                  st_run 19 138 false rfl rfl rfl (List.Mem.head _) (op_un _ _ _ _ rfl rfl),
                  st_run 6 125 true rfl rfl rfl (List.Mem.head _) (op_pick _ _ false _ rfl rfl),
                  st_plain rfl (op_pick _ _ true _ rfl rfl),
                  trivial⟩ ?_
                 exact hl612 _ (Option.some.inj h).symm
               ·refine ht_anyR (by kernel_rfl) hn (El := (_ :: _ :: _ :: _ :: _ :: _ :: _ :: _ :: (119, .same (.slot 8)) :: (120, .v (.int .i64 s586)) :: (121, .eref (.slot 8) (v37 * 5)) :: (122, .eref (.slot 8) (v37 * 5 + 0)) :: (123, .v (.int .i64 v38.Kind)) :: (124, .v (.bool (v38.Kind == 3))) :: (125, .v (.bool false)) :: (126, .v undef) :: (127, .v undef) :: (128, .v undef) :: (129, .v undef) :: (130, .v undef) :: (131, .v undef) :: (132, .v undef) :: (133, .v undef) :: (134, .v undef) :: (135, .v undef) :: (136, .v undef) :: (137, .v undef) :: (138, .v undef) :: (139, .v undef) :: (140, .v undef) :: (141, .v undef) :: (142, .v undef) :: (143, .v undef) :: (144, .v undef) :: (145, .v undef) :: (146, .v undef) :: (147, .v undef) :: (148, .v undef) :: (149, .v undef) :: (150, .v undef) :: (151, .v undef) :: (152, .v undef) :: (153, .v undef) :: (154, .v undef) :: (155, .v undef) :: (156, .v undef) :: (157, .v undef) :: (158, .v undef) :: (159, .v (.bool false)) :: [])) (init := [0, 1, 2, 3, 4, 5, 6, 7]) (fin := [0, 1, 2, 3, 4, 5, 6, 48]) (sps := (⟨[5], [], [8], [(.slot 119)]⟩ :: ⟨[6], [], [9], [(.slot 120)]⟩ :: ⟨[8, 5, 9], [], [10], [(.slot 121)]⟩ :: ⟨[10, 5], [], [11], [(.slot 122)]⟩ :: ⟨[11, 5], [], [12], [(.slot 123)]⟩ :: ⟨[12], [], [13], [(.slot 124)]⟩ :: ⟨[13], [], [14], [(.slot 125)]⟩ :: ⟨[14], [], [15], [(.slot 126)]⟩ :: ⟨[14], [], [16], [(.slot 127)]⟩ :: ⟨[14], [], [17], [(.slot 128)]⟩ :: ⟨[14], [], [18], [(.slot 129)]⟩ :: ⟨[14], [], [19], [(.slot 130)]⟩ :: ⟨[14], [], [20], [(.slot 131)]⟩ :: ⟨[14], [], [21], [(.slot 132)]⟩ :: ⟨[14], [], [22], [(.slot 133)]⟩ :: ⟨[14], [], [23], [(.slot 134)]⟩ :: ⟨[14], [], [24], [(.slot 135)]⟩ :: ⟨[14], [], [25], [(.slot 136)]⟩ :: ⟨[14], [], [26], [(.slot 137)]⟩ :: ⟨[14], [], [27], [(.slot 138)]⟩ :: ⟨[27], [], [28], [(.slot 139)]⟩ :: ⟨[27], [], [29], [(.slot 140)]⟩ :: ⟨[27], [], [30], [(.slot 141)]⟩ :: ⟨[27], [], [31], [(.slot 142)]⟩ :: ⟨[27], [], [32], [(.slot 143)]⟩ :: ⟨[27], [], [33], [(.slot 144)]⟩ :: ⟨[27], [], [34], [(.slot 145)]⟩ :: ⟨[27], [], [35], [(.slot 146)]⟩ :: ⟨[27], [], [36], [(.slot 147)]⟩ :: ⟨[27], [], [37], [(.slot 148)]⟩ :: ⟨[27], [], [38], [(.slot 149)]⟩ :: ⟨[27], [], [39], [(.slot 150)]⟩ :: ⟨[27], [], [40], [(.slot 151)]⟩ :: ⟨[27], [], [41], [(.slot 152)]⟩ :: ⟨[27], [], [42], [(.slot 153)]⟩ :: ⟨[27], [], [43], [(.slot 154)]⟩ :: ⟨[27], [], [44], [(.slot 155)]⟩ :: ⟨[27], [], [45], [(.slot 156)]⟩ :: ⟨[27], [], [46], [(.slot 157)]⟩ :: ⟨[14], [], [47], [(.slot 158)]⟩ :: ⟨[14], [], [48], [(.slot 159)]⟩ :: [])) (es' := [(_, _), (_, _), (_, _), (_, _), (_, _), (_, _), (_, _), (159, .v (.bool false))]) (by kernel_rfl) rfl rfl
                 ⟨st_plain rfl (op_move _ _ _ _ rfl rfl),
                 st_plain rfl (op_move _ _ _ _ rfl rfl),
                 st_plain rfl (op_ix_fr _ _ _ _ _ _ _ _ Try.underlying31 sz26 (by decide) rfl rfl rfl (ix_ok hv37).1 (gflat_lt T_Frame.ilen (ix_ok hv37).2) rfl),
                 st_plain rfl (op_fieldAddr_e _ _ _ _ _ _ _ Try.underlying26 rfl sz3 rfl rfl rfl),
                 st_plain rfl (op_load_fr _ _ _ _ _ _ _ Try.underlying3 rfl rfl rfl (gflat_cell T_Frame.ilen hv38 rfl) (.v _)),
                 st_plain rfl (op_bin _ _ _ _ _ rfl rfl rfl),
                 st_plain rfl (op_move _ _ _ _ (congrArg (fun b => AV.v (Value.bool b)) hg18_6) rfl),
                 st_skip 6 125 _ true rfl rfl rfl rfl (List.Mem.head _),
                 st_skip 6 125 _ true rfl rfl rfl rfl (List.Mem.head _),
                 st_skip 6 125 _ true rfl rfl rfl rfl (List.Mem.head _),
                 st_skip 6 125 _ true rfl rfl rfl rfl (List.Mem.head _),
                 st_skip 6 125 _ true rfl rfl rfl rfl (List.Mem.head _),
                 st_skip 6 125 _ true rfl rfl rfl rfl (List.Mem.head _),
                 st_skip 6 125 _ true rfl rfl rfl rfl (List.Mem.head _),
                 st_skip 6 125 _ true rfl rfl rfl rfl (List.Mem.head _),
                 st_skip 6 125 _ true rfl rfl rfl rfl (List.Mem.head _),
                 st_skip 6 125 _ true rfl rfl rfl rfl (List.Mem.head _),
                 st_skip 6 125 _ true rfl rfl rfl rfl (List.Mem.head _),
                 st_skip 6 125 _ true rfl rfl rfl rfl (List.Mem.head _),
                 st_skip 6 125 _ true rfl rfl rfl rfl (List.Mem.head _),
                 st_skipU 19 138 _ false rfl rfl rfl rfl (List.Mem.head _),
                 st_skipU 19 138 _ false rfl rfl rfl rfl (List.Mem.head _),
                 st_skipU 19 138 _ false rfl rfl rfl rfl (List.Mem.head _),
                 st_skipU 19 138 _ false rfl rfl rfl rfl (List.Mem.head _),
                 st_skipU 19 138 _ false rfl rfl rfl rfl (List.Mem.head _),
                 st_skipU 19 138 _ false rfl rfl rfl rfl (List.Mem.head _),
                 st_skipU 19 138 _ false rfl rfl rfl rfl (List.Mem.head _),
                 st_skipU 19 138 _ false rfl rfl rfl rfl (List.Mem.head _),
                 st_skipU 19 138 _ false rfl rfl rfl rfl (List.Mem.head _),
                 st_skipU 19 138 _ false rfl rfl rfl rfl (List.Mem.head _),
                 st_skipU 19 138 _ false rfl rfl rfl rfl (List.Mem.head _),
                 st_skipU 19 138 _ false rfl rfl rfl rfl (List.Mem.head _),
                 st_skipU 19 138 _ false rfl rfl rfl rfl (List.Mem.head _),
                 st_skipU 19 138 _ false rfl rfl rfl rfl (List.Mem.head _),
                 st_skipU 19 138 _ false rfl rfl rfl rfl (List.Mem.head _),
                 st_skipU 19 138 _ false rfl rfl rfl rfl (List.Mem.head _),
                 st_skipU 19 138 _ false rfl rfl rfl rfl (List.Mem.head _),
                 st_skipU 19 138 _ false rfl rfl rfl rfl (List.Mem.head _),
                 st_skipU 19 138 _ false rfl rfl rfl rfl (List.Mem.head _),
                 st_skip 6 125 _ true rfl rfl rfl rfl (List.Mem.head _),
                 st_plain rfl (op_pick _ _ false _ rfl rfl),
                 trivial⟩ ?_
                exact hl612 _ (Option.some.inj h).symm
            ·intro u606 h hl607 hr608
             obtain ⟨v25, hv25, h⟩ := bind_some h
             obtain ⟨v26, hv26, h⟩ := bind_some h
             obtain ⟨v27, hv27, h⟩ := bind_some h
             refine cond_some h (fun hg15_6 h => ?_) (fun hg15_6 h => ?_)
             ·refine ht_anyR (by kernel_rfl) hn (El := (_ :: _ :: _ :: _ :: _ :: _ :: _ :: _ :: (94, .same (.slot 8)) :: (95, .v (.int .i64 s586)) :: (96, .eref (.slot 8) (v25 * 5)) :: (97, .agg [.v (.int .i64 v26.Kind), .v (.int .i64 v26.Number), .v (.int .i64 v26.Offset), .v (.int .i64 v26.Seq), .fl .ro 1 (List.map (Value.int .u8) v26.Data)]) :: (98, .v (.bool v27)) :: (99, .v (.bool (!v27))) :: (100, .v (.bool true)) :: (101, .v undef) :: (102, .v undef) :: (103, .v undef) :: (104, .v undef) :: (105, .v undef) :: (106, .v undef) :: (107, .v undef) :: (108, .v undef) :: (109, .v (.bool true)) :: (110, .v (.bool true)) :: (111, .v undef) :: (112, .v undef) :: (113, .v (.bool true)) :: [])) (init := [0, 1, 2, 3, 4, 5, 6, 7]) (fin := [0, 1, 2, 3, 4, 5, 6, 27]) (sps := (⟨[5], [], [8], [(.slot 94)]⟩ :: ⟨[6], [], [9], [(.slot 95)]⟩ :: ⟨[8, 5, 9], [], [10], [(.slot 96)]⟩ :: ⟨[10, 5], [], [11], [(.slot 97)]⟩ :: ⟨[11], [], [12], [(.slot 98)]⟩ :: ⟨[12], [], [13], [(.slot 99)]⟩ :: ⟨[13], [], [14], [(.slot 100)]⟩ :: ⟨[14], [], [15], [(.slot 101)]⟩ :: ⟨[14], [], [16], [(.slot 102)]⟩ :: ⟨[14], [], [17], [(.slot 103)]⟩ :: ⟨[14], [], [18], [(.slot 104)]⟩ :: ⟨[14], [], [19], [(.slot 105)]⟩ :: ⟨[14], [], [20], [(.slot 106)]⟩ :: ⟨[14], [], [21], [(.slot 107)]⟩ :: ⟨[14], [], [22], [(.slot 108)]⟩ :: ⟨[14], [], [23], [(.slot 109)]⟩ :: ⟨[23], [], [24], [(.slot 110)]⟩ :: ⟨[24], [], [25], [(.slot 111)]⟩ :: ⟨[24], [], [26], [(.slot 112)]⟩ :: ⟨[24], [], [27], [(.slot 113)]⟩ :: [])) (es' := [(_, _), (_, _), (_, _), (_, _), (_, _), (_, _), (_, _), (113, .v (.bool true))]) (by kernel_rfl) rfl rfl
               ⟨st_plain rfl (op_move _ _ _ _ rfl rfl),
               st_plain rfl (op_move _ _ _ _ rfl rfl),
               st_plain rfl (op_ix_fr _ _ _ _ _ _ _ _ Try.underlying31 sz26 (by decide) rfl rfl rfl (ix_ok hv25).1 (gflat_lt T_Frame.ilen (ix_ok hv25).2) rfl),
               st_plain rfl (op_loadA_fr _ _ _ _ _ _ _ _ Try.underlying26 rfl sz26 rfl rfl (gflat_get T_Frame.ilen hv26) (.cons (.v _) (.cons (.v _) (.cons (.v _) (.cons (.v _) (.cons (.fl _ _ rfl) (.nil)))))) rfl (by decide)),
               st_plain rfl (op_call _ _ 24 _ _ rfl Try.call24 rfl (ok_wherryref18_Frame v26 _ hv27) rfl rfl),
               st_plain rfl (op_un _ _ _ _ rfl rfl),
               st_plain rfl (op_move _ _ _ _ (congrArg (fun b => AV.v (Value.bool b)) hg15_6) rfl),
               st_skip 6 100 _ false rfl rfl rfl rfl (List.Mem.head _),
               st_skip 6 100 _ false rfl rfl rfl rfl (List.Mem.head _),
               st_skip 6 100 _ false rfl rfl rfl rfl (List.Mem.head _),
               st_skip 6 100 _ false rfl rfl rfl rfl (List.Mem.head _),
               st_skip 6 100 _ false rfl rfl rfl rfl (List.Mem.head _),
               st_skip 6 100 _ false rfl rfl rfl rfl (List.Mem.head _),
               st_skip 6 100 _ false rfl rfl rfl rfl (List.Mem.head _),
               st_skip 6 100 _ false rfl rfl rfl rfl (List.Mem.head _),
               st_plain rfl (op_pick _ _ true _ rfl rfl),
               st_plain rfl (op_move _ _ _ _ rfl rfl),
               st_skip 16 110 _ false rfl rfl rfl rfl (List.Mem.head _),
               st_skip 16 110 _ false rfl rfl rfl rfl (List.Mem.head _),
               st_plain rfl (op_pick _ _ true _ rfl rfl),
               trivial⟩ ?_
              exact hl607 _ (Option.some.inj h).symm
             ·obtain ⟨v28, hv28, h⟩ := bind_some h
              obtain ⟨v29, hv29, h⟩ := bind_some h
              refine cond_some h (fun hg15_16 h => ?_) (fun hg15_16 h => ?_)
              ·refine ht_anyR (by kernel_rfl) hn (El := (_ :: _ :: _ :: _ :: _ :: _ :: _ :: _ :: (94, .same (.slot 8)) :: (95, .v (.int .i64 s586)) :: (96, .eref (.slot 8) (v25 * 5)) :: (97, .agg [.v (.int .i64 v26.Kind), .v (.int .i64 v26.Number), .v (.int .i64 v26.Offset), .v (.int .i64 v26.Seq), .fl .ro 1 (List.map (Value.int .u8) v26.Data)]) :: (98, .v (.bool v27)) :: (99, .v (.bool (!v27))) :: (100, .v (.bool false)) :: (101, .same (.slot 8)) :: (102, .v (.int .i64 s586)) :: (103, .eref (.slot 8) (v28 * 5)) :: (104, .eref (.slot 8) (v28 * 5 + 1)) :: (105, .v (.int .i64 v29.Number)) :: (106, .ptr 2 0) :: (107, .v (.int .i64 s.Number)) :: (108, .v (.bool (v29.Number != s.Number))) :: (109, .v (.bool (v29.Number != s.Number))) :: (110, .v (.bool true)) :: (111, .v undef) :: (112, .v undef) :: (113, .v (.bool true)) :: [])) (init := [0, 1, 2, 3, 4, 5, 6, 7]) (fin := [0, 1, 2, 3, 4, 5, 6, 27]) (sps := (⟨[5], [], [8], [(.slot 94)]⟩ :: ⟨[6], [], [9], [(.slot 95)]⟩ :: ⟨[8, 5, 9], [], [10], [(.slot 96)]⟩ :: ⟨[10, 5], [], [11], [(.slot 97)]⟩ :: ⟨[11], [], [12], [(.slot 98)]⟩ :: ⟨[12], [], [13], [(.slot 99)]⟩ :: ⟨[13], [], [14], [(.slot 100)]⟩ :: ⟨[14, 5], [], [15], [(.slot 101)]⟩ :: ⟨[14, 6], [], [16], [(.slot 102)]⟩ :: ⟨[14, 15, 5, 16], [], [17], [(.slot 103)]⟩ :: ⟨[14, 17, 5], [], [18], [(.slot 104)]⟩ :: ⟨[14, 18, 5], [], [19], [(.slot 105)]⟩ :: ⟨[14, 1], [], [20], [(.slot 106)]⟩ :: ⟨[14, 20, 1], [], [21], [(.slot 107)]⟩ :: ⟨[14, 19, 21], [], [22], [(.slot 108)]⟩ :: ⟨[14, 22], [], [23], [(.slot 109)]⟩ :: ⟨[23], [], [24], [(.slot 110)]⟩ :: ⟨[24], [], [25], [(.slot 111)]⟩ :: ⟨[24], [], [26], [(.slot 112)]⟩ :: ⟨[24], [], [27], [(.slot 113)]⟩ :: [])) (es' := [(_, _), (_, _), (_, _), (_, _), (_, _), (_, _), (_, _), (113, .v (.bool true))]) (by kernel_rfl) rfl rfl
                ⟨st_plain rfl (op_move _ _ _ _ rfl rfl),
                st_plain rfl (op_move _ _ _ _ rfl rfl),
                st_plain rfl (op_ix_fr _ _ _ _ _ _ _ _ Try.underlying31 sz26 (by decide) rfl rfl rfl (ix_ok hv25).1 (gflat_lt T_Frame.ilen (ix_ok hv25).2) rfl),
                st_plain rfl (op_loadA_fr _ _ _ _ _ _ _ _ Try.underlying26 rfl sz26 rfl rfl (gflat_get T_Frame.ilen hv26) (.cons (.v _) (.cons (.v _) (.cons (.v _) (.cons (.v _) (.cons (.fl _ _ rfl) (.nil)))))) rfl (by decide)),
                st_plain rfl (op_call _ _ 24 _ _ rfl Try.call24 rfl (ok_wherryref18_Frame v26 _ hv27) rfl rfl),
                st_plain rfl (op_un _ _ _ _ rfl rfl),
                st_plain rfl (op_move _ _ _ _ (congrArg (fun b => AV.v (Value.bool b)) hg15_6) rfl),
                st_run 6 100 false rfl rfl rfl (List.Mem.head _) (op_move _ _ _ _ rfl rfl),
                st_run 6 100 false rfl rfl rfl (List.Mem.head _) (op_move _ _ _ _ rfl rfl),
                st_run 6 100 false rfl rfl rfl (List.Mem.head _) (op_ix_fr _ _ _ _ _ _ _ _ Try.underlying31 sz26 (by decide) rfl rfl rfl (ix_ok hv28).1 (gflat_lt T_Frame.ilen (ix_ok hv28).2) rfl),
                st_run 6 100 false rfl rfl rfl (List.Mem.head _) (op_fieldAddr_e _ _ _ _ _ _ _ Try.underlying26 rfl sz3 rfl rfl rfl),
                st_run 6 100 false rfl rfl rfl (List.Mem.head _) (op_load_fr _ _ _ _ _ _ _ Try.underlying3 rfl rfl rfl (gflat_cell T_Frame.ilen hv29 rfl) (.v _)),
                st_run 6 100 false rfl rfl rfl (List.Mem.head _) (op_fieldAddr _ _ _ _ 2 0 _ Try.underlying24 rfl sz3 rfl rfl (by decide)),
                st_run 6 100 false rfl rfl rfl (List.Mem.head _) (op_load _ _ _ _ _ _ Try.underlying3 rfl rfl rfl (Nat.le_of_ble_eq_true rfl) rfl rfl rfl),
                st_run 6 100 false rfl rfl rfl (List.Mem.head _) (op_bin _ _ _ _ _ rfl rfl rfl),
                st_plain rfl (op_pick _ _ false _ rfl rfl),
                st_plain rfl (op_move _ _ _ _ (congrArg (fun b => AV.v (Value.bool b)) hg15_16) rfl),
                st_skip 16 110 _ false rfl rfl rfl rfl (List.Mem.head _),
                st_skip 16 110 _ false rfl rfl rfl rfl (List.Mem.head _),
                st_plain rfl (op_pick _ _ true _ rfl rfl),
                trivial⟩ ?_
               exact hl607 _ (Option.some.inj h).symm
              ·refine ht_anyR (by kernel_rfl) hn (El := (_ :: _ :: _ :: _ :: _ :: _ :: _ :: _ :: (94, .same (.slot 8)) :: (95, .v (.int .i64 s586)) :: (96, .eref (.slot 8) (v25 * 5)) :: (97, .agg [.v (.int .i64 v26.Kind), .v (.int .i64 v26.Number), .v (.int .i64 v26.Offset), .v (.int .i64 v26.Seq), .fl .ro 1 (List.map (Value.int .u8) v26.Data)]) :: (98, .v (.bool v27)) :: (99, .v (.bool (!v27))) :: (100, .v (.bool false)) :: (101, .same (.slot 8)) :: (102, .v (.int .i64 s586)) :: (103, .eref (.slot 8) (v28 * 5)) :: (104, .eref (.slot 8) (v28 * 5 + 1)) :: (105, .v (.int .i64 v29.Number)) :: (106, .ptr 2 0) :: (107, .v (.int .i64 s.Number)) :: (108, .v (.bool (v29.Number != s.Number))) :: (109, .v (.bool (v29.Number != s.Number))) :: (110, .v (.bool false)) :: (111, .ptr 5 6) :: (112, .v (.bool s335)) :: (113, .v (.bool s335)) :: [])) (init := [0, 1, 2, 3, 4, 5, 6, 7]) (fin := [0, 1, 2, 3, 4, 5, 6, 27]) (sps := (⟨[5], [], [8], [(.slot 94)]⟩ :: ⟨[6], [], [9], [(.slot 95)]⟩ :: ⟨[8, 5, 9], [], [10], [(.slot 96)]⟩ :: ⟨[10, 5], [], [11], [(.slot 97)]⟩ :: ⟨[11], [], [12], [(.slot 98)]⟩ :: ⟨[12], [], [13], [(.slot 99)]⟩ :: ⟨[13], [], [14], [(.slot 100)]⟩ :: ⟨[14, 5], [], [15], [(.slot 101)]⟩ :: ⟨[14, 6], [], [16], [(.slot 102)]⟩ :: ⟨[14, 15, 5, 16], [], [17], [(.slot 103)]⟩ :: ⟨[14, 17, 5], [], [18], [(.slot 104)]⟩ :: ⟨[14, 18, 5], [], [19], [(.slot 105)]⟩ :: ⟨[14, 1], [], [20], [(.slot 106)]⟩ :: ⟨[14, 20, 1], [], [21], [(.slot 107)]⟩ :: ⟨[14, 19, 21], [], [22], [(.slot 108)]⟩ :: ⟨[14, 22], [], [23], [(.slot 109)]⟩ :: ⟨[23], [], [24], [(.slot 110)]⟩ :: ⟨[24, 2], [], [25], [(.slot 111)]⟩ :: ⟨[24, 25, 2], [], [26], [(.slot 112)]⟩ :: ⟨[24, 26], [], [27], [(.slot 113)]⟩ :: [])) (es' := [(_, _), (_, _), (_, _), (_, _), (_, _), (_, _), (_, _), (113, .v (.bool s335))]) (by kernel_rfl) rfl rfl
                ⟨st_plain rfl (op_move _ _ _ _ rfl rfl),
                st_plain rfl (op_move _ _ _ _ rfl rfl),
                st_plain rfl (op_ix_fr _ _ _ _ _ _ _ _ Try.underlying31 sz26 (by decide) rfl rfl rfl (ix_ok hv25).1 (gflat_lt T_Frame.ilen (ix_ok hv25).2) rfl),
                st_plain rfl (op_loadA_fr _ _ _ _ _ _ _ _ Try.underlying26 rfl sz26 rfl rfl (gflat_get T_Frame.ilen hv26) (.cons (.v _) (.cons (.v _) (.cons (.v _) (.cons (.v _) (.cons (.fl _ _ rfl) (.nil)))))) rfl (by decide)),
                st_plain rfl (op_call _ _ 24 _ _ rfl Try.call24 rfl (ok_wherryref18_Frame v26 _ hv27) rfl rfl),
                st_plain rfl (op_un _ _ _ _ rfl rfl),
                st_plain rfl (op_move _ _ _ _ (congrArg (fun b => AV.v (Value.bool b)) hg15_6) rfl),
                st_run 6 100 false rfl rfl rfl (List.Mem.head _) (op_move _ _ _ _ rfl rfl),
                st_run 6 100 false rfl rfl rfl (List.Mem.head _) (op_move _ _ _ _ rfl rfl),
                st_run 6 100 false rfl rfl rfl (List.Mem.head _) (op_ix_fr _ _ _ _ _ _ _ _ Try.underlying31 sz26 (by decide) rfl rfl rfl (ix_ok hv28).1 (gflat_lt T_Frame.ilen (ix_ok hv28).2) rfl),
                st_run 6 100 false rfl rfl rfl (List.Mem.head _) (op_fieldAddr_e _ _ _ _ _ _ _ Try.underlying26 rfl sz3 rfl rfl rfl),
                st_run 6 100 false rfl rfl rfl (List.Mem.head _) (op_load_fr _ _ _ _ _ _ _ Try.underlying3 rfl rfl rfl (gflat_cell T_Frame.ilen hv29 rfl) (.v _)),
                st_run 6 100 false rfl rfl rfl (List.Mem.head _) (op_fieldAddr _ _ _ _ 2 0 _ Try.underlying24 rfl sz3 rfl rfl (by decide)),
                st_run 6 100 false rfl rfl rfl (List.Mem.head _) (op_load _ _ _ _ _ _ Try.underlying3 rfl rfl rfl (Nat.le_of_ble_eq_true rfl) rfl rfl rfl),
                st_run 6 100 false rfl rfl rfl (List.Mem.head _) (op_bin _ _ _ _ _ rfl rfl rfl),
                st_plain rfl (op_pick _ _ false _ rfl rfl),
                st_plain rfl (op_move _ _ _ _ (congrArg (fun b => AV.v (Value.bool b)) hg15_16) rfl),
                st_run 16 110 false rfl rfl rfl (List.Mem.head _) (op_fieldAddr _ _ _ _ 5 0 _ Try.underlying24 rfl sz4 rfl rfl (by decide)),
                st_run 16 110 false rfl rfl rfl (List.Mem.head _) (op_load _ _ _ _ _ _ Try.underlying4 rfl rfl rfl (Nat.le_of_ble_eq_true rfl) rfl rfl rfl),
                st_plain rfl (op_pick _ _ false _ rfl rfl),
                trivial⟩ ?_
               exact hl607 _ (Option.some.inj h).symm
           ·have h := cond_f hb604 h
            refine ht_exit ?_
            refine pt_x_then ?_
            refine pt_x_then ?_
            refine pt_x_in ?_
            refine pt_pick [0, 1, 2, 3, 4] (by kernel_rfl) (es' := [(_, _), (_, _), (_, _), (_, _), (_, _)]) rfl ?_
            exact hl599 _ (ho601 _ (Option.some.inj h).symm).symm
        ·intro u559 h hl560 hr561
         refine cond_some h (fun hg10_2 h => ?_) (fun hg10_2 h => ?_)
         ·refine ht_seqR hn (El := (_ :: _ :: _ :: _ :: _ :: _ :: _ :: (61, .v (.int .i64 v16.2.2)) :: (62, .v (.bool (v16.2.2 != 0))) :: (63, .v (.bool true)) :: (64, .v undef) :: (65, .v undef) :: (66, .v undef) :: (67, .v (.bool true)) :: (68, .v (.bool true)) :: (69, .v undef) :: (70, .v undef) :: (71, .v undef) :: (72, .v (.bool true)) :: (73, .v (.bool true)) :: (74, .v undef) :: (75, .v undef) :: (76, .v undef) :: (77, .v undef) :: (78, .v undef) :: (79, .v (.bool true)) :: (80, .v (.bool true)) :: (81, .v undef) :: (82, .v undef) :: (83, .v undef) :: (84, .v undef) :: (85, .v undef) :: (86, .v undef) :: (87, .v (.bool true)) :: [])) (init := [0, 1, 2, 3, 4, 5, 6]) (fin := [0, 1, 2, 3, 4, 5, 33]) (sps := (⟨[6], [], [7], [(.slot 61)]⟩ :: ⟨[7], [], [8], [(.slot 62)]⟩ :: ⟨[8], [], [9], [(.slot 63)]⟩ :: ⟨[9], [], [10], [(.slot 64)]⟩ :: ⟨[9], [], [11], [(.slot 65)]⟩ :: ⟨[9], [], [12], [(.slot 66)]⟩ :: ⟨[9], [], [13], [(.slot 67)]⟩ :: ⟨[13], [], [14], [(.slot 68)]⟩ :: ⟨[14], [], [15], [(.slot 69)]⟩ :: ⟨[14], [], [16], [(.slot 70)]⟩ :: ⟨[14], [], [17], [(.slot 71)]⟩ :: ⟨[14], [], [18], [(.slot 72)]⟩ :: ⟨[18], [], [19], [(.slot 73)]⟩ :: ⟨[19], [], [20], [(.slot 74)]⟩ :: ⟨[19], [], [21], [(.slot 75)]⟩ :: ⟨[19], [], [22], [(.slot 76)]⟩ :: ⟨[19], [], [23], [(.slot 77)]⟩ :: ⟨[19], [], [24], [(.slot 78)]⟩ :: ⟨[19], [], [25], [(.slot 79)]⟩ :: ⟨[25], [], [26], [(.slot 80)]⟩ :: ⟨[26], [], [27], [(.slot 81)]⟩ :: ⟨[26], [], [28], [(.slot 82)]⟩ :: ⟨[26], [], [29], [(.slot 83)]⟩ :: ⟨[26], [], [30], [(.slot 84)]⟩ :: ⟨[26], [], [31], [(.slot 85)]⟩ :: ⟨[26], [], [32], [(.slot 86)]⟩ :: ⟨[26], [], [33], [(.slot 87)]⟩ :: [])) (es' := [(_, _), (_, _), (_, _), (_, _), (_, _), (_, _), (87, .v (.bool true))]) (by kernel_rfl) rfl rfl
           ⟨st_plain rfl (op_move _ _ _ _ rfl rfl),
           st_plain rfl (op_bin _ _ _ _ _ rfl rfl rfl),
           st_plain rfl (op_move _ _ _ _ (congrArg (fun b => AV.v (Value.bool b)) hg10_2) rfl),
           st_skip 2 63 _ false rfl rfl rfl rfl (List.Mem.head _),
           st_skip 2 63 _ false rfl rfl rfl rfl (List.Mem.head _),
           st_skip 2 63 _ false rfl rfl rfl rfl (List.Mem.head _),
           st_plain rfl (op_pick _ _ true _ rfl rfl),
           st_plain rfl (op_move _ _ _ _ rfl rfl),
           st_skip 7 68 _ false rfl rfl rfl rfl (List.Mem.head _),
           st_skip 7 68 _ false rfl rfl rfl rfl (List.Mem.head _),
           st_skip 7 68 _ false rfl rfl rfl rfl (List.Mem.head _),
           st_plain rfl (op_pick _ _ true _ rfl rfl),
           st_plain rfl (op_move _ _ _ _ rfl rfl),
           st_skip 12 73 _ false rfl rfl rfl rfl (List.Mem.head _),
           st_skip 12 73 _ false rfl rfl rfl rfl (List.Mem.head _),
           st_skip 12 73 _ false rfl rfl rfl rfl (List.Mem.head _),
           st_skip 12 73 _ false rfl rfl rfl rfl (List.Mem.head _),
           st_skip 12 73 _ false rfl rfl rfl rfl (List.Mem.head _),
           st_plain rfl (op_pick _ _ true _ rfl rfl),
           st_plain rfl (op_move _ _ _ _ rfl rfl),
           st_skip 19 80 _ false rfl rfl rfl rfl (List.Mem.head _),
           st_skip 19 80 _ false rfl rfl rfl rfl (List.Mem.head _),
           st_skip 19 80 _ false rfl rfl rfl rfl (List.Mem.head _),
           st_skip 19 80 _ false rfl rfl rfl rfl (List.Mem.head _),
           st_skip 19 80 _ false rfl rfl rfl rfl (List.Mem.head _),
           st_skip 19 80 _ false rfl rfl rfl rfl (List.Mem.head _),
           st_plain rfl (op_pick _ _ true _ rfl rfl),
           trivial⟩ ?_
          exact hl560 _ (Option.some.inj h).symm
         ·obtain ⟨v17, hv17, h⟩ := bind_some h
          refine cond_some h (fun hg10_7 h => ?_) (fun hg10_7 h => ?_)
          ·refine ht_seqR hn (El := (_ :: _ :: _ :: _ :: _ :: _ :: _ :: (61, .v (.int .i64 v16.2.2)) :: (62, .v (.bool (v16.2.2 != 0))) :: (63, .v (.bool false)) :: (64, .agg [.v (.int .i64 v16.1.Number), .same (.cell 7 1), .v (.bool v16.1.Ready), .v (.int .i64 v16.1.Base), .v (.int .i64 v16.1.Next), .v (.int .i64 v16.1.Wait), .v (.bool v16.1.Over)]) :: (65, .v (.bool v17)) :: (66, .v (.bool (!v17))) :: (67, .v (.bool (!v17))) :: (68, .v (.bool true)) :: (69, .v undef) :: (70, .v undef) :: (71, .v undef) :: (72, .v (.bool true)) :: (73, .v (.bool true)) :: (74, .v undef) :: (75, .v undef) :: (76, .v undef) :: (77, .v undef) :: (78, .v undef) :: (79, .v (.bool true)) :: (80, .v (.bool true)) :: (81, .v undef) :: (82, .v undef) :: (83, .v undef) :: (84, .v undef) :: (85, .v undef) :: (86, .v undef) :: (87, .v (.bool true)) :: [])) (init := [0, 1, 2, 3, 4, 5, 6]) (fin := [0, 1, 2, 3, 4, 5, 33]) (sps := (⟨[6], [], [7], [(.slot 61)]⟩ :: ⟨[7], [], [8], [(.slot 62)]⟩ :: ⟨[8], [], [9], [(.slot 63)]⟩ :: ⟨[9, 4], [], [10], [(.slot 64)]⟩ :: ⟨[9, 10, 4], [], [11], [(.slot 65)]⟩ :: ⟨[9, 11], [], [12], [(.slot 66)]⟩ :: ⟨[9, 12], [], [13], [(.slot 67)]⟩ :: ⟨[13], [], [14], [(.slot 68)]⟩ :: ⟨[14], [], [15], [(.slot 69)]⟩ :: ⟨[14], [], [16], [(.slot 70)]⟩ :: ⟨[14], [], [17], [(.slot 71)]⟩ :: ⟨[14], [], [18], [(.slot 72)]⟩ :: ⟨[18], [], [19], [(.slot 73)]⟩ :: ⟨[19], [], [20], [(.slot 74)]⟩ :: ⟨[19], [], [21], [(.slot 75)]⟩ :: ⟨[19], [], [22], [(.slot 76)]⟩ :: ⟨[19], [], [23], [(.slot 77)]⟩ :: ⟨[19], [], [24], [(.slot 78)]⟩ :: ⟨[19], [], [25], [(.slot 79)]⟩ :: ⟨[25], [], [26], [(.slot 80)]⟩ :: ⟨[26], [], [27], [(.slot 81)]⟩ :: ⟨[26], [], [28], [(.slot 82)]⟩ :: ⟨[26], [], [29], [(.slot 83)]⟩ :: ⟨[26], [], [30], [(.slot 84)]⟩ :: ⟨[26], [], [31], [(.slot 85)]⟩ :: ⟨[26], [], [32], [(.slot 86)]⟩ :: ⟨[26], [], [33], [(.slot 87)]⟩ :: [])) (es' := [(_, _), (_, _), (_, _), (_, _), (_, _), (_, _), (87, .v (.bool true))]) (by kernel_rfl) rfl rfl
            ⟨st_plain rfl (op_move _ _ _ _ rfl rfl),
            st_plain rfl (op_bin _ _ _ _ _ rfl rfl rfl),
            st_plain rfl (op_move _ _ _ _ (congrArg (fun b => AV.v (Value.bool b)) hg10_2) rfl),
            st_run 2 63 false rfl rfl rfl (List.Mem.head _) (op_loadA _ _ _ _ _ _ _ Try.underlying24 rfl sz24 rfl rfl (Nat.le_of_ble_eq_true rfl) rfl rfl),
            st_run 2 63 false rfl rfl rfl (List.Mem.head _) (op_call _ _ 13 _ _ rfl Try.call13 rfl (ok_wherryref18_Send v16.1 _ hv17) rfl rfl),
            st_run 2 63 false rfl rfl rfl (List.Mem.head _) (op_un _ _ _ _ rfl rfl),
            st_plain rfl (op_pick _ _ false _ rfl rfl),
            st_plain rfl (op_move _ _ _ _ (congrArg (fun b => AV.v (Value.bool b)) hg10_7) rfl),
            st_skip 7 68 _ false rfl rfl rfl rfl (List.Mem.head _),
            st_skip 7 68 _ false rfl rfl rfl rfl (List.Mem.head _),
            st_skip 7 68 _ false rfl rfl rfl rfl (List.Mem.head _),
            st_plain rfl (op_pick _ _ true _ rfl rfl),
            st_plain rfl (op_move _ _ _ _ rfl rfl),
            st_skip 12 73 _ false rfl rfl rfl rfl (List.Mem.head _),
            st_skip 12 73 _ false rfl rfl rfl rfl (List.Mem.head _),
            st_skip 12 73 _ false rfl rfl rfl rfl (List.Mem.head _),
            st_skip 12 73 _ false rfl rfl rfl rfl (List.Mem.head _),
            st_skip 12 73 _ false rfl rfl rfl rfl (List.Mem.head _),
            st_plain rfl (op_pick _ _ true _ rfl rfl),
            st_plain rfl (op_move _ _ _ _ rfl rfl),
            st_skip 19 80 _ false rfl rfl rfl rfl (List.Mem.head _),
            st_skip 19 80 _ false rfl rfl rfl rfl (List.Mem.head _),
            st_skip 19 80 _ false rfl rfl rfl rfl (List.Mem.head _),
            st_skip 19 80 _ false rfl rfl rfl rfl (List.Mem.head _),
            st_skip 19 80 _ false rfl rfl rfl rfl (List.Mem.head _),
            st_skip 19 80 _ false rfl rfl rfl rfl (List.Mem.head _),
            st_plain rfl (op_pick _ _ true _ rfl rfl),
            trivial⟩ ?_
           exact hl560 _ (Option.some.inj h).symm
          ·refine cond_some h (fun hg10_12 h => ?_) (fun hg10_12 h => ?_)
           ·refine ht_seqR hn (El := (_ :: _ :: _ :: _ :: _ :: _ :: _ :: (61, .v (.int .i64 v16.2.2)) :: (62, .v (.bool (v16.2.2 != 0))) :: (63, .v (.bool false)) :: (64, .agg [.v (.int .i64 v16.1.Number), .same (.cell 7 1), .v (.bool v16.1.Ready), .v (.int .i64 v16.1.Base), .v (.int .i64 v16.1.Next), .v (.int .i64 v16.1.Wait), .v (.bool v16.1.Over)]) :: (65, .v (.bool v17)) :: (66, .v (.bool (!v17))) :: (67, .v (.bool (!v17))) :: (68, .v (.bool false)) :: (69, .same (.slot 8)) :: (70, .v (.int .i64 (v16.2.1.length : Int))) :: (71, .v (.bool ((decide (7 < (v16.2.1.length : Int)))))) :: (72, .v (.bool ((decide (7 < (v16.2.1.length : Int)))))) :: (73, .v (.bool true)) :: (74, .v undef) :: (75, .v undef) :: (76, .v undef) :: (77, .v undef) :: (78, .v undef) :: (79, .v (.bool true)) :: (80, .v (.bool true)) :: (81, .v undef) :: (82, .v undef) :: (83, .v undef) :: (84, .v undef) :: (85, .v undef) :: (86, .v undef) :: (87, .v (.bool true)) :: [])) (init := [0, 1, 2, 3, 4, 5, 6]) (fin := [0, 1, 2, 3, 4, 5, 33]) (sps := (⟨[6], [], [7], [(.slot 61)]⟩ :: ⟨[7], [], [8], [(.slot 62)]⟩ :: ⟨[8], [], [9], [(.slot 63)]⟩ :: ⟨[9, 4], [], [10], [(.slot 64)]⟩ :: ⟨[9, 10, 4], [], [11], [(.slot 65)]⟩ :: ⟨[9, 11], [], [12], [(.slot 66)]⟩ :: ⟨[9, 12], [], [13], [(.slot 67)]⟩ :: ⟨[13], [], [14], [(.slot 68)]⟩ :: ⟨[14, 5], [], [15], [(.slot 69)]⟩ :: ⟨[14, 15, 5], [], [16], [(.slot 70)]⟩ :: ⟨[14, 16], [], [17], [(.slot 71)]⟩ :: ⟨[14, 17], [], [18], [(.slot 72)]⟩ :: ⟨[18], [], [19], [(.slot 73)]⟩ :: ⟨[19], [], [20], [(.slot 74)]⟩ :: ⟨[19], [], [21], [(.slot 75)]⟩ :: ⟨[19], [], [22], [(.slot 76)]⟩ :: ⟨[19], [], [23], [(.slot 77)]⟩ :: ⟨[19], [], [24], [(.slot 78)]⟩ :: ⟨[19], [], [25], [(.slot 79)]⟩ :: ⟨[25], [], [26], [(.slot 80)]⟩ :: ⟨[26], [], [27], [(.slot 81)]⟩ :: ⟨[26], [], [28], [(.slot 82)]⟩ :: ⟨[26], [], [29], [(.slot 83)]⟩ :: ⟨[26], [], [30], [(.slot 84)]⟩ :: ⟨[26], [], [31], [(.slot 85)]⟩ :: ⟨[26], [], [32], [(.slot 86)]⟩ :: ⟨[26], [], [33], [(.slot 87)]⟩ :: [])) (es' := [(_, _), (_, _), (_, _), (_, _), (_, _), (_, _), (87, .v (.bool true))]) (by kernel_rfl) rfl rfl
             ⟨st_plain rfl (op_move _ _ _ _ rfl rfl),
             st_plain rfl (op_bin _ _ _ _ _ rfl rfl rfl),
             st_plain rfl (op_move _ _ _ _ (congrArg (fun b => AV.v (Value.bool b)) hg10_2) rfl),
             st_run 2 63 false rfl rfl rfl (List.Mem.head _) (op_loadA _ _ _ _ _ _ _ Try.underlying24 rfl sz24 rfl rfl (Nat.le_of_ble_eq_true rfl) rfl rfl),
             st_run 2 63 false rfl rfl rfl (List.Mem.head _) (op_call _ _ 13 _ _ rfl Try.call13 rfl (ok_wherryref18_Send v16.1 _ hv17) rfl rfl),
             st_run 2 63 false rfl rfl rfl (List.Mem.head _) (op_un _ _ _ _ rfl rfl),
             st_plain rfl (op_pick _ _ false _ rfl rfl),
             st_plain rfl (op_move _ _ _ _ (congrArg (fun b => AV.v (Value.bool b)) hg10_7) rfl),
             st_run 7 68 false rfl rfl rfl (List.Mem.head _) (op_move _ _ _ _ rfl rfl),
             st_run 7 68 false rfl rfl rfl (List.Mem.head _) (op_len_fr _ _ _ Try.underlying31 rfl (by decide) (gflat_len T_Frame.ilen _)),
             st_run 7 68 false rfl rfl rfl (List.Mem.head _) (op_bin _ _ _ _ _ rfl rfl rfl),
             st_plain rfl (op_pick _ _ false _ rfl rfl),
             st_plain rfl (op_move _ _ _ _ (congrArg (fun b => AV.v (Value.bool b)) hg10_12) rfl),
             st_skip 12 73 _ false rfl rfl rfl rfl (List.Mem.head _),
             st_skip 12 73 _ false rfl rfl rfl rfl (List.Mem.head _),
             st_skip 12 73 _ false rfl rfl rfl rfl (List.Mem.head _),
             st_skip 12 73 _ false rfl rfl rfl rfl (List.Mem.head _),
             st_skip 12 73 _ false rfl rfl rfl rfl (List.Mem.head _),
             st_plain rfl (op_pick _ _ true _ rfl rfl),
             st_plain rfl (op_move _ _ _ _ rfl rfl),
             st_skip 19 80 _ false rfl rfl rfl rfl (List.Mem.head _),
             st_skip 19 80 _ false rfl rfl rfl rfl (List.Mem.head _),
             st_skip 19 80 _ false rfl rfl rfl rfl (List.Mem.head _),
             st_skip 19 80 _ false rfl rfl rfl rfl (List.Mem.head _),
             st_skip 19 80 _ false rfl rfl rfl rfl (List.Mem.head _),
             st_skip 19 80 _ false rfl rfl rfl rfl (List.Mem.head _),
             st_plain rfl (op_pick _ _ true _ rfl rfl),
             trivial⟩ ?_
            exact hl560 _ (Option.some.inj h).symm
           ·refine cond_some h (fun hg10_19 h => ?_) (fun hg10_19 h => ?_)
            ·refine ht_seqR hn (El := (_ :: _ :: _ :: _ :: _ :: _ :: _ :: (61, .v (.int .i64 v16.2.2)) :: (62, .v (.bool (v16.2.2 != 0))) :: (63, .v (.bool false)) :: (64, .agg [.v (.int .i64 v16.1.Number), .same (.cell 7 1), .v (.bool v16.1.Ready), .v (.int .i64 v16.1.Base), .v (.int .i64 v16.1.Next), .v (.int .i64 v16.1.Wait), .v (.bool v16.1.Over)]) :: (65, .v (.bool v17)) :: (66, .v (.bool (!v17))) :: (67, .v (.bool (!v17))) :: (68, .v (.bool false)) :: (69, .same (.slot 8)) :: (70, .v (.int .i64 (v16.2.1.length : Int))) :: (71, .v (.bool ((decide (7 < (v16.2.1.length : Int)))))) :: (72, .v (.bool ((decide (7 < (v16.2.1.length : Int)))))) :: (73, .v (.bool false)) :: (74, .ptr 7 0) :: (75, .v (.int .i64 v16.1.Number)) :: (76, .ptr 2 0) :: (77, .v (.int .i64 s.Number)) :: (78, .v (.bool (v16.1.Number != s.Number))) :: (79, .v (.bool (v16.1.Number != s.Number))) :: (80, .v (.bool true)) :: (81, .v undef) :: (82, .v undef) :: (83, .v undef) :: (84, .v undef) :: (85, .v undef) :: (86, .v undef) :: (87, .v (.bool true)) :: [])) (init := [0, 1, 2, 3, 4, 5, 6]) (fin := [0, 1, 2, 3, 4, 5, 33]) (sps := (⟨[6], [], [7], [(.slot 61)]⟩ :: ⟨[7], [], [8], [(.slot 62)]⟩ :: ⟨[8], [], [9], [(.slot 63)]⟩ :: ⟨[9, 4], [], [10], [(.slot 64)]⟩ :: ⟨[9, 10, 4], [], [11], [(.slot 65)]⟩ :: ⟨[9, 11], [], [12], [(.slot 66)]⟩ :: ⟨[9, 12], [], [13], [(.slot 67)]⟩ :: ⟨[13], [], [14], [(.slot 68)]⟩ :: ⟨[14, 5], [], [15], [(.slot 69)]⟩ :: ⟨[14, 15, 5], [], [16], [(.slot 70)]⟩ :: ⟨[14, 16], [], [17], [(.slot 71)]⟩ :: ⟨[14, 17], [], [18], [(.slot 72)]⟩ :: ⟨[18], [], [19], [(.slot 73)]⟩ :: ⟨[19, 4], [], [20], [(.slot 74)]⟩ :: ⟨[19, 20, 4], [], [21], [(.slot 75)]⟩ :: ⟨[19, 1], [], [22], [(.slot 76)]⟩ :: ⟨[19, 22, 1], [], [23], [(.slot 77)]⟩ :: ⟨[19, 21, 23], [], [24], [(.slot 78)]⟩ :: ⟨[19, 24], [], [25], [(.slot 79)]⟩ :: ⟨[25], [], [26], [(.slot 80)]⟩ :: ⟨[26], [], [27], [(.slot 81)]⟩ :: ⟨[26], [], [28], [(.slot 82)]⟩ :: ⟨[26], [], [29], [(.slot 83)]⟩ :: ⟨[26], [], [30], [(.slot 84)]⟩ :: ⟨[26], [], [31], [(.slot 85)]⟩ :: ⟨[26], [], [32], [(.slot 86)]⟩ :: ⟨[26], [], [33], [(.slot 87)]⟩ :: [])) (es' := [(_, _), (_, _), (_, _), (_, _), (_, _), (_, _), (87, .v (.bool true))]) (by kernel_rfl) rfl rfl
              ⟨st_plain rfl (op_move _ _ _ _ rfl rfl),
              st_plain rfl (op_bin _ _ _ _ _ rfl rfl rfl),
              st_plain rfl (op_move _ _ _ _ (congrArg (fun b => AV.v (Value.bool b)) hg10_2) rfl),
              st_run 2 63 false rfl rfl rfl (List.Mem.head _) (op_loadA _ _ _ _ _ _ _ Try.underlying24 rfl sz24 rfl rfl (Nat.le_of_ble_eq_true rfl) rfl rfl),
              st_run 2 63 false rfl rfl rfl (List.Mem.head _) (op_call _ _ 13 _ _ rfl Try.call13 rfl (ok_wherryref18_Send v16.1 _ hv17) rfl rfl),
              st_run 2 63 false rfl rfl rfl (List.Mem.head _) (op_un _ _ _ _ rfl rfl),
              st_plain rfl (op_pick _ _ false _ rfl rfl),
              st_plain rfl (op_move _ _ _ _ (congrArg (fun b => AV.v (Value.bool b)) hg10_7) rfl),
              st_run 7 68 false rfl rfl rfl (List.Mem.head _) (op_move _ _ _ _ rfl rfl),
              st_run 7 68 false rfl rfl rfl (List.Mem.head _) (op_len_fr _ _ _ Try.underlying31 rfl (by decide) (gflat_len T_Frame.ilen _)),
              st_run 7 68 false rfl rfl rfl (List.Mem.head _) (op_bin _ _ _ _ _ rfl rfl rfl),
              st_plain rfl (op_pick _ _ false _ rfl rfl),
              st_plain rfl (op_move _ _ _ _ (congrArg (fun b => AV.v (Value.bool b)) hg10_12) rfl),
              st_run 12 73 false rfl rfl rfl (List.Mem.head _) (op_fieldAddr _ _ _ _ 7 0 _ Try.underlying24 rfl sz3 rfl rfl (by decide)),
              st_run 12 73 false rfl rfl rfl (List.Mem.head _) (op_load _ _ _ _ _ _ Try.underlying3 rfl rfl rfl (Nat.le_of_ble_eq_true rfl) rfl rfl rfl),
              st_run 12 73 false rfl rfl rfl (List.Mem.head _) (op_fieldAddr _ _ _ _ 2 0 _ Try.underlying24 rfl sz3 rfl rfl (by decide)),
              st_run 12 73 false rfl rfl rfl (List.Mem.head _) (op_load _ _ _ _ _ _ Try.underlying3 rfl rfl rfl (Nat.le_of_ble_eq_true rfl) rfl rfl rfl),
              st_run 12 73 false rfl rfl rfl (List.Mem.head _) (op_bin _ _ _ _ _ rfl rfl rfl),
              st_plain rfl (op_pick _ _ false _ rfl rfl),
              st_plain rfl (op_move _ _ _ _ (congrArg (fun b => AV.v (Value.bool b)) hg10_19) rfl),
              st_skip 19 80 _ false rfl rfl rfl rfl (List.Mem.head _),
              st_skip 19 80 _ false rfl rfl rfl rfl (List.Mem.head _),
              st_skip 19 80 _ false rfl rfl rfl rfl (List.Mem.head _),
              st_skip 19 80 _ false rfl rfl rfl rfl (List.Mem.head _),
              st_skip 19 80 _ false rfl rfl rfl rfl (List.Mem.head _),
              st_skip 19 80 _ false rfl rfl rfl rfl (List.Mem.head _),
              st_plain rfl (op_pick _ _ true _ rfl rfl),
              trivial⟩ ?_
             exact hl560 _ (Option.some.inj h).symm
            ·obtain ⟨v18, hv18, h⟩ := bind_some h
             refine ht_seqR hn (El := (_ :: _ :: _ :: _ :: _ :: _ :: _ :: (61, .v (.int .i64 v16.2.2)) :: (62, .v (.bool (v16.2.2 != 0))) :: (63, .v (.bool false)) :: (64, .agg [.v (.int .i64 v16.1.Number), .same (.cell 7 1), .v (.bool v16.1.Ready), .v (.int .i64 v16.1.Base), .v (.int .i64 v16.1.Next), .v (.int .i64 v16.1.Wait), .v (.bool v16.1.Over)]) :: (65, .v (.bool v17)) :: (66, .v (.bool (!v17))) :: (67, .v (.bool (!v17))) :: (68, .v (.bool false)) :: (69, .same (.slot 8)) :: (70, .v (.int .i64 (v16.2.1.length : Int))) :: (71, .v (.bool ((decide (7 < (v16.2.1.length : Int)))))) :: (72, .v (.bool ((decide (7 < (v16.2.1.length : Int)))))) :: (73, .v (.bool false)) :: (74, .ptr 7 0) :: (75, .v (.int .i64 v16.1.Number)) :: (76, .ptr 2 0) :: (77, .v (.int .i64 s.Number)) :: (78, .v (.bool (v16.1.Number != s.Number))) :: (79, .v (.bool (v16.1.Number != s.Number))) :: (80, .v (.bool false)) :: (81, .ptr 7 1) :: (82, .same (.cell 7 1)) :: (83, .ptr 2 1) :: (84, .fl .shr 1 (List.map (Value.int .u8) s.Data)) :: (85, .v (.bool v18)) :: (86, .v (.bool (!v18))) :: (87, .v (.bool (!v18))) :: [])) (init := [0, 1, 2, 3, 4, 5, 6]) (fin := [0, 1, 2, 3, 4, 5, 33]) (sps := (⟨[6], [], [7], [(.slot 61)]⟩ :: ⟨[7], [], [8], [(.slot 62)]⟩ :: ⟨[8], [], [9], [(.slot 63)]⟩ :: ⟨[9, 4], [], [10], [(.slot 64)]⟩ :: ⟨[9, 10, 4], [], [11], [(.slot 65)]⟩ :: ⟨[9, 11], [], [12], [(.slot 66)]⟩ :: ⟨[9, 12], [], [13], [(.slot 67)]⟩ :: ⟨[13], [], [14], [(.slot 68)]⟩ :: ⟨[14, 5], [], [15], [(.slot 69)]⟩ :: ⟨[14, 15, 5], [], [16], [(.slot 70)]⟩ :: ⟨[14, 16], [], [17], [(.slot 71)]⟩ :: ⟨[14, 17], [], [18], [(.slot 72)]⟩ :: ⟨[18], [], [19], [(.slot 73)]⟩ :: ⟨[19, 4], [], [20], [(.slot 74)]⟩ :: ⟨[19, 20, 4], [], [21], [(.slot 75)]⟩ :: ⟨[19, 1], [], [22], [(.slot 76)]⟩ :: ⟨[19, 22, 1], [], [23], [(.slot 77)]⟩ :: ⟨[19, 21, 23], [], [24], [(.slot 78)]⟩ :: ⟨[19, 24], [], [25], [(.slot 79)]⟩ :: ⟨[25], [], [26], [(.slot 80)]⟩ :: ⟨[26, 4], [], [27], [(.slot 81)]⟩ :: ⟨[26, 27, 4], [], [28], [(.slot 82)]⟩ :: ⟨[26, 1], [], [29], [(.slot 83)]⟩ :: ⟨[26, 29, 1], [], [30], [(.slot 84)]⟩ :: ⟨[26, 28, 4, 30], [], [31], [(.slot 85)]⟩ :: ⟨[26, 31], [], [32], [(.slot 86)]⟩ :: ⟨[26, 32], [], [33], [(.slot 87)]⟩ :: [])) (es' := [(_, _), (_, _), (_, _), (_, _), (_, _), (_, _), (87, .v (.bool (!v18)))]) (by kernel_rfl) rfl rfl
              ⟨st_plain rfl (op_move _ _ _ _ rfl rfl),
              st_plain rfl (op_bin _ _ _ _ _ rfl rfl rfl),
              st_plain rfl (op_move _ _ _ _ (congrArg (fun b => AV.v (Value.bool b)) hg10_2) rfl),
              st_run 2 63 false rfl rfl rfl (List.Mem.head _) (op_loadA _ _ _ _ _ _ _ Try.underlying24 rfl sz24 rfl rfl (Nat.le_of_ble_eq_true rfl) rfl rfl),
              st_run 2 63 false rfl rfl rfl (List.Mem.head _) (op_call _ _ 13 _ _ rfl Try.call13 rfl (ok_wherryref18_Send v16.1 _ hv17) rfl rfl),
              st_run 2 63 false rfl rfl rfl (List.Mem.head _) (op_un _ _ _ _ rfl rfl),
              st_plain rfl (op_pick _ _ false _ rfl rfl),
              st_plain rfl (op_move _ _ _ _ (congrArg (fun b => AV.v (Value.bool b)) hg10_7) rfl),
              st_run 7 68 false rfl rfl rfl (List.Mem.head _) (op_move _ _ _ _ rfl rfl),
              st_run 7 68 false rfl rfl rfl (List.Mem.head _) (op_len_fr _ _ _ Try.underlying31 rfl (by decide) (gflat_len T_Frame.ilen _)),
              st_run 7 68 false rfl rfl rfl (List.Mem.head _) (op_bin _ _ _ _ _ rfl rfl rfl),
              st_plain rfl (op_pick _ _ false _ rfl rfl),
              st_plain rfl (op_move _ _ _ _ (congrArg (fun b => AV.v (Value.bool b)) hg10_12) rfl),
              st_run 12 73 false rfl rfl rfl (List.Mem.head _) (op_fieldAddr _ _ _ _ 7 0 _ Try.underlying24 rfl sz3 rfl rfl (by decide)),
              st_run 12 73 false rfl rfl rfl (List.Mem.head _) (op_load _ _ _ _ _ _ Try.underlying3 rfl rfl rfl (Nat.le_of_ble_eq_true rfl) rfl rfl rfl),
              st_run 12 73 false rfl rfl rfl (List.Mem.head _) (op_fieldAddr _ _ _ _ 2 0 _ Try.underlying24 rfl sz3 rfl rfl (by decide)),
              st_run 12 73 false rfl rfl rfl (List.Mem.head _) (op_load _ _ _ _ _ _ Try.underlying3 rfl rfl rfl (Nat.le_of_ble_eq_true rfl) rfl rfl rfl),
              st_run 12 73 false rfl rfl rfl (List.Mem.head _) (op_bin _ _ _ _ _ rfl rfl rfl),
              st_plain rfl (op_pick _ _ false _ rfl rfl),
              st_plain rfl (op_move _ _ _ _ (congrArg (fun b => AV.v (Value.bool b)) hg10_19) rfl),
              st_run 19 80 false rfl rfl rfl (List.Mem.head _) (op_fieldAddr _ _ _ _ 7 0 _ Try.underlying24 rfl sz22 rfl rfl (by decide)),
              st_run 19 80 false rfl rfl rfl (List.Mem.head _) (op_load _ _ _ _ _ _ Try.underlying22 rfl rfl rfl (Nat.le_of_ble_eq_true rfl) rfl rfl rfl),
              st_run 19 80 false rfl rfl rfl (List.Mem.head _) (op_fieldAddr _ _ _ _ 2 0 _ Try.underlying24 rfl sz22 rfl rfl (by decide)),
              st_run 19 80 false rfl rfl rfl (List.Mem.head _) (op_load _ _ _ _ _ _ Try.underlying22 rfl rfl rfl (Nat.le_of_ble_eq_true rfl) rfl rfl rfl),
              st_run 19 80 false rfl rfl rfl (List.Mem.head _) (op_call _ _ 28 _ _ rfl Try.call28 rfl (ok_wherrykeep_Bytes v16.1.Data s.Data _ hv18) rfl rfl),
              st_run 19 80 false rfl rfl rfl (List.Mem.head _) (op_un _ _ _ _ rfl rfl),
              st_plain rfl (op_pick _ _ false _ rfl rfl),
              trivial⟩ ?_
             exact hl560 _ (Option.some.inj h).symm
     ·have h := cond_f hb482 h
      refine ht_exit ?_
      refine pt_x_then ?_
      refine pt_x_then ?_
      refine pt_x_in ?_
      refine pt_pick [] (by kernel_rfl) (es' := []) rfl ?_
      exact hl477 _ (ho479 _ (Option.some.inj h).symm).symm
  ·intro u3 h hl4 hr5
   refine cond_some h (fun hg1_4 h => ?_) (fun hg1_4 h => ?_)
   ·refine ht_seqR hn (El := (_ :: _ :: (13, .ptr 2 1) :: (14, .fl .shr 1 (List.map (Value.int .u8) s.Data)) :: (15, .v (.int .i64 (s.Data.length : Int))) :: (16, .v (.bool ((decide (5100 < (s.Data.length : Int)))))) :: (17, .v (.bool true)) :: (18, .v undef) :: (19, .v undef) :: (20, .v undef) :: (21, .v (.bool true)) :: (22, .v (.bool true)) :: (23, .v undef) :: (24, .v undef) :: (25, .v undef) :: (26, .v (.bool true)) :: [])) (init := [0, 1]) (fin := [0, 1, 15]) (sps := [⟨[1], [], [2], [(.slot 13)]⟩, ⟨[2, 1], [], [3], [(.slot 14)]⟩, ⟨[3], [], [4], [(.slot 15)]⟩, ⟨[4], [], [5], [(.slot 16)]⟩, ⟨[5], [], [6], [(.slot 17)]⟩, ⟨[6], [], [7], [(.slot 18)]⟩, ⟨[6], [], [8], [(.slot 19)]⟩, ⟨[6], [], [9], [(.slot 20)]⟩, ⟨[6], [], [10], [(.slot 21)]⟩, ⟨[10], [], [11], [(.slot 22)]⟩, ⟨[11], [], [12], [(.slot 23)]⟩, ⟨[11], [], [13], [(.slot 24)]⟩, ⟨[11], [], [14], [(.slot 25)]⟩, ⟨[11], [], [15], [(.slot 26)]⟩]) (es' := [(_, _), (_, _), (26, .v (.bool true))]) (by kernel_rfl) rfl rfl
     ⟨st_plain rfl (op_fieldAddr _ _ _ _ 2 0 _ Try.underlying24 rfl sz22 rfl rfl (by decide)),
     st_plain rfl (op_load _ _ _ _ _ _ Try.underlying22 rfl rfl rfl (Nat.le_of_ble_eq_true rfl) rfl rfl rfl),
     st_plain rfl (op_len_fl _ _ _ Try.underlying22 rfl (by decide) (map_len _)),
     st_plain rfl (op_bin _ _ _ _ _ rfl rfl rfl),
     st_plain rfl (op_move _ _ _ _ (congrArg (fun b => AV.v (Value.bool b)) hg1_4) rfl),
     st_skip 4 17 _ false rfl rfl rfl rfl (List.Mem.head _),
     st_skip 4 17 _ false rfl rfl rfl rfl (List.Mem.head _),
     st_skip 4 17 _ false rfl rfl rfl rfl (List.Mem.head _),
     st_plain rfl (op_pick _ _ true _ rfl rfl),
     st_plain rfl (op_move _ _ _ _ rfl rfl),
     st_skip 9 22 _ false rfl rfl rfl rfl (List.Mem.head _),
     st_skip 9 22 _ false rfl rfl rfl rfl (List.Mem.head _),
     st_skip 9 22 _ false rfl rfl rfl rfl (List.Mem.head _),
     st_plain rfl (op_pick _ _ true _ rfl rfl),
     trivial⟩ ?_
    exact hl4 _ (Option.some.inj h).symm
   ·refine cond_some h (fun hg1_9 h => ?_) (fun hg1_9 h => ?_)
    ·refine ht_seqR hn (El := (_ :: _ :: (13, .ptr 2 1) :: (14, .fl .shr 1 (List.map (Value.int .u8) s.Data)) :: (15, .v (.int .i64 (s.Data.length : Int))) :: (16, .v (.bool ((decide (5100 < (s.Data.length : Int)))))) :: (17, .v (.bool false)) :: (18, .fr .shr true 5 (List.flatten (List.map T_Frame.ienc l))) :: (19, .v (.int .i64 (l.length : Int))) :: (20, .v (.bool ((decide (40 < (l.length : Int)))))) :: (21, .v (.bool ((decide (40 < (l.length : Int)))))) :: (22, .v (.bool true)) :: (23, .v undef) :: (24, .v undef) :: (25, .v undef) :: (26, .v (.bool true)) :: [])) (init := [0, 1]) (fin := [0, 1, 15]) (sps := [⟨[1], [], [2], [(.slot 13)]⟩, ⟨[2, 1], [], [3], [(.slot 14)]⟩, ⟨[3], [], [4], [(.slot 15)]⟩, ⟨[4], [], [5], [(.slot 16)]⟩, ⟨[5], [], [6], [(.slot 17)]⟩, ⟨[6, 0], [], [7], [(.slot 18)]⟩, ⟨[6, 7], [], [8], [(.slot 19)]⟩, ⟨[6, 8], [], [9], [(.slot 20)]⟩, ⟨[6, 9], [], [10], [(.slot 21)]⟩, ⟨[10], [], [11], [(.slot 22)]⟩, ⟨[11], [], [12], [(.slot 23)]⟩, ⟨[11], [], [13], [(.slot 24)]⟩, ⟨[11], [], [14], [(.slot 25)]⟩, ⟨[11], [], [15], [(.slot 26)]⟩]) (es' := [(_, _), (_, _), (26, .v (.bool true))]) (by kernel_rfl) rfl rfl
      ⟨st_plain rfl (op_fieldAddr _ _ _ _ 2 0 _ Try.underlying24 rfl sz22 rfl rfl (by decide)),
      st_plain rfl (op_load _ _ _ _ _ _ Try.underlying22 rfl rfl rfl (Nat.le_of_ble_eq_true rfl) rfl rfl rfl),
      st_plain rfl (op_len_fl _ _ _ Try.underlying22 rfl (by decide) (map_len _)),
      st_plain rfl (op_bin _ _ _ _ _ rfl rfl rfl),
      st_plain rfl (op_move _ _ _ _ (congrArg (fun b => AV.v (Value.bool b)) hg1_4) rfl),
      st_run 4 17 false rfl rfl rfl (List.Mem.head _) (op_move _ _ _ _ rfl rfl),
      st_run 4 17 false rfl rfl rfl (List.Mem.head _) (op_len_fr _ _ _ Try.underlying31 rfl (by decide) (gflat_len T_Frame.ilen _)),
      st_run 4 17 false rfl rfl rfl (List.Mem.head _) (op_bin _ _ _ _ _ rfl rfl rfl),
      st_plain rfl (op_pick _ _ false _ rfl rfl),
      st_plain rfl (op_move _ _ _ _ (congrArg (fun b => AV.v (Value.bool b)) hg1_9) rfl),
      st_skip 9 22 _ false rfl rfl rfl rfl (List.Mem.head _),
      st_skip 9 22 _ false rfl rfl rfl rfl (List.Mem.head _),
      st_skip 9 22 _ false rfl rfl rfl rfl (List.Mem.head _),
      st_plain rfl (op_pick _ _ true _ rfl rfl),
      trivial⟩ ?_
     exact hl4 _ (Option.some.inj h).symm
    ·obtain ⟨v1, hv1, h⟩ := bind_some h
     refine ht_seqR hn (El := (_ :: _ :: (13, .ptr 2 1) :: (14, .fl .shr 1 (List.map (Value.int .u8) s.Data)) :: (15, .v (.int .i64 (s.Data.length : Int))) :: (16, .v (.bool ((decide (5100 < (s.Data.length : Int)))))) :: (17, .v (.bool false)) :: (18, .fr .shr true 5 (List.flatten (List.map T_Frame.ienc l))) :: (19, .v (.int .i64 (l.length : Int))) :: (20, .v (.bool ((decide (40 < (l.length : Int)))))) :: (21, .v (.bool ((decide (40 < (l.length : Int)))))) :: (22, .v (.bool false)) :: (23, .agg [.v (.int .i64 s.Number), .fl .shr 1 (List.map (Value.int .u8) s.Data), .v (.bool s.Ready), .v (.int .i64 s.Base), .v (.int .i64 s.Next), .v (.int .i64 s.Wait), .v (.bool s.Over)]) :: (24, .v (.int .i64 v1)) :: (25, .v (.bool (v1 != 0))) :: (26, .v (.bool (v1 != 0))) :: [])) (init := [0, 1]) (fin := [0, 1, 15]) (sps := [⟨[1], [], [2], [(.slot 13)]⟩, ⟨[2, 1], [], [3], [(.slot 14)]⟩, ⟨[3], [], [4], [(.slot 15)]⟩, ⟨[4], [], [5], [(.slot 16)]⟩, ⟨[5], [], [6], [(.slot 17)]⟩, ⟨[6, 0], [], [7], [(.slot 18)]⟩, ⟨[6, 7], [], [8], [(.slot 19)]⟩, ⟨[6, 8], [], [9], [(.slot 20)]⟩, ⟨[6, 9], [], [10], [(.slot 21)]⟩, ⟨[10], [], [11], [(.slot 22)]⟩, ⟨[11, 1], [], [12], [(.slot 23)]⟩, ⟨[11, 12], [], [13], [(.slot 24)]⟩, ⟨[11, 13], [], [14], [(.slot 25)]⟩, ⟨[11, 14], [], [15], [(.slot 26)]⟩]) (es' := [(_, _), (_, _), (26, .v (.bool (v1 != 0)))]) (by kernel_rfl) rfl rfl
      ⟨st_plain rfl (op_fieldAddr _ _ _ _ 2 0 _ Try.underlying24 rfl sz22 rfl rfl (by decide)),
      st_plain rfl (op_load _ _ _ _ _ _ Try.underlying22 rfl rfl rfl (Nat.le_of_ble_eq_true rfl) rfl rfl rfl),
      st_plain rfl (op_len_fl _ _ _ Try.underlying22 rfl (by decide) (map_len _)),
      st_plain rfl (op_bin _ _ _ _ _ rfl rfl rfl),
      st_plain rfl (op_move _ _ _ _ (congrArg (fun b => AV.v (Value.bool b)) hg1_4) rfl),
      st_run 4 17 false rfl rfl rfl (List.Mem.head _) (op_move _ _ _ _ rfl rfl),
      st_run 4 17 false rfl rfl rfl (List.Mem.head _) (op_len_fr _ _ _ Try.underlying31 rfl (by decide) (gflat_len T_Frame.ilen _)),
      st_run 4 17 false rfl rfl rfl (List.Mem.head _) (op_bin _ _ _ _ _ rfl rfl rfl),
      st_plain rfl (op_pick _ _ false _ rfl rfl),
      st_plain rfl (op_move _ _ _ _ (congrArg (fun b => AV.v (Value.bool b)) hg1_9) rfl),
      st_run 9 22 false rfl rfl rfl (List.Mem.head _) (op_loadA _ _ _ _ _ _ _ Try.underlying24 rfl sz24 rfl rfl (Nat.le_of_ble_eq_true rfl) rfl rfl),
      st_run 9 22 false rfl rfl rfl (List.Mem.head _) (op_call _ _ 17 _ _ rfl Try.call17 rfl (ok_sender_Check s _ hv1) rfl rfl),
      st_run 9 22 false rfl rfl rfl (List.Mem.head _) (op_bin _ _ _ _ _ rfl rfl rfl),
      st_plain rfl (op_pick _ _ false _ rfl rfl),
      trivial⟩ ?_
     exact hl4 _ (Option.some.inj h).symm

end Go.Proofs.Ytdligpdfcfbgpaa
