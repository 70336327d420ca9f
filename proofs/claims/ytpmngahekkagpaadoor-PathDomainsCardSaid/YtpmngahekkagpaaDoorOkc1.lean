/-
  The model's runs are what is told in Lean.
-/
import Derived.Test.YtpmngahekkagpaaDoorProg
import Derived.KernelRfl
import Derived.Test.YtpmngahekkagpaaDoorShelf
import Derived.Test.YtpmngahekkagpaaDoorSh
set_option linter.unusedVariables false
set_option linter.unusedSimpArgs false
namespace Go.Proofs.YtpmngahekkagpaaDoor
open Go.Abs Go.Abs.Sh

def GL (mx : Int) : List (Nat × List Value) := []
theorem zr4 : (Tryd.prog.info? 4).bind (·.zero) = some (.bool false) := by kernel_rfl
theorem sz9 : (Tryd.prog.info? 9).map (·.size) = some 1 := by kernel_rfl
theorem sz4 : (Tryd.prog.info? 4).map (·.size) = some 1 := by kernel_rfl
theorem zr23 : (Tryd.prog.info? 23).bind (·.zero) = some (.agg #[.bool false, .string ByteArray.empty, .string ByteArray.empty]) := by kernel_rfl
theorem fs23 : ∀ fs, Tryd.prog.underlying 23 = some (.struct fs) → fs.toList.map (fun f => (Tryd.prog.info? f.type).map (·.size)) = ([1, 1, 1] : List Nat).map some := by
  intro fs h
  rw [Tryd.underlying23] at h
  cases h
  kernel_rfl
theorem sz23 : (Tryd.prog.info? 23).map (·.size) = some 3 := by kernel_rfl
theorem sz5 : (Tryd.prog.info? 5).map (·.size) = some 1 := by kernel_rfl
theorem zr5 : (Tryd.prog.info? 5).bind (·.zero) = some (.int .u8 0) := by kernel_rfl
theorem el43 : ElemT Tryd.prog 43 5 1 1 := ⟨⟨Tryd.t5, .int .u8 0, Tryd.underlying43, by kernel_rfl, by kernel_rfl, by kernel_rfl, by kernel_rfl, by decide, by kernel_rfl⟩⟩

set_option maxHeartbeats 1000000 in
theorem ok_strings_splitSeq (s : ByteArray) (sep : ByteArray) (sepSave : Int) (r : (ByteArray × ByteArray × Int)) (h : Sh.strings_splitSeq s sep sepSave = some r) : FnOK Tryd.prog 51 [.v (.string s), .v (.string sep), .v (.int .i64 sepSave)] (.cloB 56 [.box 9 [.v (.string r.1)], .box 9 [.v (.string r.2.1)], .box 3 [.v (.int .i64 r.2.2)]]) := by
  unfold Sh.strings_splitSeq at h
  refine fn_ok Tryd.func51 rfl (Nat.le_of_ble_eq_true rfl) rfl rfl fun g0 hn hio => ?_
  refine ht_seq ?_
  refine ht_seqR hn (El := [_, _, _, (3, .box 9 [.v (.string s)]), (4, .box 9 [.v (.string sep)]), (5, .box 3 [.v (.int .i64 sepSave)]), (6, .v (.nilFunc))]) (init := [0, 1, 2]) (fin := [3, 4, 5]) (sps := [⟨[0], [], [3], [(.slot 3)]⟩, ⟨[1], [], [4], [(.slot 4)]⟩, ⟨[2], [], [5], [(.slot 5)]⟩, ⟨[], [], [6], [(.slot 6)]⟩]) (es' := [(3, .box 9 [.v (.string s)]), (4, .box 9 [.v (.string sep)]), (5, .box 3 [.v (.int .i64 sepSave)])]) (by kernel_rfl) rfl rfl
   ⟨st_plain rfl (op_box _ _ _ _ rfl rfl rfl),
   st_plain rfl (op_box _ _ _ _ rfl rfl rfl),
   st_plain rfl (op_box _ _ _ _ rfl rfl rfl),
   st_plain rfl (op_assign _ _ _ _ rfl rfl),
   trivial⟩ ?_
  refine pt_then ?_
  refine ht_seq ?_
  refine ht_seqR hn (El := [_, _, _, (7, .cloB 56 [.box 9 [.v (.string sep)], .box 9 [.v (.string s)], .box 3 [.v (.int .i64 sepSave)]]), (6, .cloB 56 [.box 9 [.v (.string sep)], .box 9 [.v (.string s)], .box 3 [.v (.int .i64 sepSave)]])]) (init := [0, 1, 2]) (fin := [4]) (sps := [⟨[], [1, 0, 2], [3], [(.slot 7)]⟩, ⟨[], [3], [4], [(.slot 6)]⟩]) (es' := [(6, .cloB 56 [.box 9 [.v (.string sep)], .box 9 [.v (.string s)], .box 3 [.v (.int .i64 sepSave)]])]) (by kernel_rfl) rfl rfl
   ⟨st_plain rfl (op_mkclo _ _ [4, 3, 5] [.box 9 [.v (.string sep)], .box 9 [.v (.string s)], .box 3 [.v (.int .i64 sepSave)]] rfl rfl rfl),
   st_plain rfl (op_assign_take _ _ _ _ rfl),
   trivial⟩ ?_
  refine pt_then ?_
  refine ht_ret ?_
  obtain rfl := Option.some.inj h
  exact pt_ret hio rfl (.tmp _ _ .nil) rfl rfl

set_option maxHeartbeats 1000000 in
theorem ok_strings_SplitSeq (s : ByteArray) (sep : ByteArray) (r : (ByteArray × ByteArray × Int)) (h : Sh.strings_SplitSeq s sep = some r) : FnOK Tryd.prog 42 [.v (.string s), .v (.string sep)] (.cloB 56 [.box 9 [.v (.string r.1)], .box 9 [.v (.string r.2.1)], .box 3 [.v (.int .i64 r.2.2)]]) := by
  unfold Sh.strings_SplitSeq at h
  refine fn_ok Tryd.func42 rfl (Nat.le_of_ble_eq_true rfl) rfl rfl fun g0 hn hio => ?_
  refine ht_seq ?_
  refine ht_seqR hn (El := [_, _, (4, .v (.nilFunc))]) (init := [0, 1]) (fin := [0, 1]) (sps := [⟨[], [], [2], [(.slot 4)]⟩]) (es' := [(_, _), (_, _)]) (by kernel_rfl) rfl rfl
   ⟨st_plain rfl (op_assign _ _ _ _ rfl rfl),
   trivial⟩ ?_
  refine pt_then ?_
  refine ht_seq ?_
  obtain ⟨v1, hv1, h⟩ := bind_some h
  refine ht_seqR hn (El := [_, _, (5, .v (.string s)), (6, .v (.string sep)), (7, .cloB 56 [.box 9 [.v (.string v1.1)], .box 9 [.v (.string v1.2.1)], .box 3 [.v (.int .i64 v1.2.2)]]), (4, .cloB 56 [.box 9 [.v (.string v1.1)], .box 9 [.v (.string v1.2.1)], .box 3 [.v (.int .i64 v1.2.2)]])]) (init := [0, 1]) (fin := [5]) (sps := [⟨[0], [], [2], [(.slot 5)]⟩, ⟨[1], [], [3], [(.slot 6)]⟩, ⟨[2, 3], [], [4], [(.slot 7)]⟩, ⟨[], [4], [5], [(.slot 4)]⟩]) (es' := [(4, .cloB 56 [.box 9 [.v (.string v1.1)], .box 9 [.v (.string v1.2.1)], .box 3 [.v (.int .i64 v1.2.2)]])]) (by kernel_rfl) rfl rfl
   ⟨st_plain rfl (op_move _ _ _ _ rfl rfl),
   st_plain rfl (op_move _ _ _ _ rfl rfl),
   st_plain rfl (op_callS _ _ 51 _ _ rfl Tryd.call51 rfl rfl (ok_strings_splitSeq s sep 0 _ hv1) rfl),
   st_plain rfl (op_assign_take _ _ _ _ rfl),
   trivial⟩ ?_
  refine pt_then ?_
  refine ht_ret ?_
  obtain rfl := Option.some.inj h
  exact pt_ret hio rfl (.tmp _ _ .nil) rfl rfl

set_option maxHeartbeats 1000000 in
theorem ok_unicode_utf8_decodeRuneInStringSlow (mx : Int) (s : ByteArray) (r : (Int × Int)) (h : Sh.unicode_utf8_decodeRuneInStringSlow s = some r) : FnG Tryd.prog (GL mx) 61 [.v (.string s)] (.tup [.v (.int .i32 r.1), .v (.int .i64 r.2)]) := by
  unfold Sh.unicode_utf8_decodeRuneInStringSlow at h
  refine fn_okG Tryd.func61 rfl (Nat.le_of_ble_eq_true rfl) rfl rfl fun g0 hn hio => ?_
  refine ht_seq ?_
  refine ht_seqR hn (El := [_, _, (2, .v (.int .i32 0)), (3, .v (.int .i64 0))]) (init := [0, 1]) (fin := [0, 1]) (sps := [⟨[], [], [2], [(.slot 2)]⟩, ⟨[], [], [3], [(.slot 3)]⟩]) (es' := [(_, _), (_, _)]) (by kernel_rfl) rfl rfl
   ⟨st_plain rfl (op_assign _ _ _ _ rfl rfl),
   st_plain rfl (op_assign _ _ _ _ rfl rfl),
   trivial⟩ ?_
  refine pt_then ?_
  refine ht_seq ?_
  refine ht_seqR hn (El := [_, _, (13, .v (.string s)), (14, .v (.int .i64 (s.size : Int))), (4, .v (.int .i64 (s.size : Int)))]) (init := [0, 1]) (fin := [0, 1, 4]) (sps := [⟨[0], [], [2], [(.slot 13)]⟩, ⟨[2], [], [3], [(.slot 14)]⟩, ⟨[3], [], [4], [(.slot 4)]⟩]) (es' := [(_, _), (_, _), (4, .v (.int .i64 (s.size : Int)))]) (by kernel_rfl) rfl rfl
   ⟨st_plain rfl (op_move _ _ _ _ rfl rfl),
   st_plain rfl (op_len_str _ _ _ Tryd.underlying9 rfl),
   st_plain rfl (op_assign _ _ _ _ rfl rfl),
   trivial⟩ ?_
  refine pt_then ?_
  refine ht_seq ?_
  refine ht_seq ?_
  refine ht_seqR hn (El := [_, _, _, (15, .v (.int .i64 (s.size : Int))), (16, .v (.bool ((decide ((s.size : Int) < 1)))))]) (init := [0, 1, 2]) (fin := [0, 1, 2, 4]) (sps := [⟨[2], [], [3], [(.slot 15)]⟩, ⟨[3], [], [4], [(.slot 16)]⟩]) (es' := [(_, _), (_, _), (_, _), (16, .v (.bool ((decide ((s.size : Int) < 1)))))]) (by kernel_rfl) rfl rfl
   ⟨st_plain rfl (op_move _ _ _ _ rfl rfl),
   st_plain rfl (op_bin _ _ _ _ _ rfl rfl rfl),
   trivial⟩ ?_
  refine pt_then ?_
  refine ht_cond _ rfl (fun hb1 => ?_) (fun hb1 => ?_)
  ·have h := cond_t hb1 h
   refine ht_seq ?_
   refine ht_seqR hn (El := [_, _, _, _, (2, .v (.int .i32 65533)), (3, .v (.int .i64 0))]) (init := [0, 1, 2, 3]) (fin := [1, 4, 5]) (sps := [⟨[], [], [4], [(.slot 2)]⟩, ⟨[], [], [5], [(.slot 3)]⟩]) (es' := [(_, _), (2, .v (.int .i32 65533)), (3, .v (.int .i64 0))]) (by kernel_rfl) rfl rfl
    ⟨st_plain rfl (op_assign _ _ _ _ rfl rfl),
    st_plain rfl (op_assign _ _ _ _ rfl rfl),
    trivial⟩ ?_
   refine pt_then ?_
   refine ht_ret ?_
   refine pt_pick [1, 2] (by kernel_rfl) (es' := [(_, _), (_, _)]) rfl ?_
   refine pt_r_then ?_
   obtain rfl := Option.some.inj h
   exact pt_ret hio rfl (.tmp _ _ (.tmp _ _ .nil)) rfl rfl
  ·have h := cond_f hb1 h
   cases h

set_option maxHeartbeats 1000000 in
theorem ok_unicode_utf8_DecodeRuneInString (mx : Int) (s : ByteArray) (r : (Int × Int)) (h : Sh.unicode_utf8_DecodeRuneInString s = some r) : FnG Tryd.prog (GL mx) 57 [.v (.string s)] (.tup [.v (.int .i32 r.1), .v (.int .i64 r.2)]) := by
  unfold Sh.unicode_utf8_DecodeRuneInString at h
  refine fn_okG Tryd.func57 rfl (Nat.le_of_ble_eq_true rfl) rfl rfl fun g0 hn hio => ?_
  refine ht_seq ?_
  refine ht_seqR hn (El := [_, _, (2, .v (.int .i32 0)), (3, .v (.int .i64 0))]) (init := [0, 1]) (fin := [0, 1]) (sps := [⟨[], [], [2], [(.slot 2)]⟩, ⟨[], [], [3], [(.slot 3)]⟩]) (es' := [(_, _), (_, _)]) (by kernel_rfl) rfl rfl
   ⟨st_plain rfl (op_assign _ _ _ _ rfl rfl),
   st_plain rfl (op_assign _ _ _ _ rfl rfl),
   trivial⟩ ?_
  refine pt_then ?_
  refine ht_seq ?_
  refine ht_seq ?_
  refine ht_joinS h (fun (s2 : Bool) => [(0, .v (.string s)), (19, .glob (GL mx)), (10, .v (.bool s2))]) ?_ ?_
  ·rintro s2 h
   refine pt_then ?_
   refine ht_cond _ rfl (fun hb6 => ?_) (fun hb6 => ?_)
   ·have h := cond_t hb6 h
    refine ht_seq ?_
    obtain ⟨v7, hv7, h⟩ := bind_some h
    obtain ⟨v8, hv8, h⟩ := bind_some h
    refine ht_seqR hn (El := [_, _, _, (11, .v (.string s)), (12, .v (.int .u8 v7)), (13, .v (.int .i32 v8)), (2, .v (.int .i32 v8)), (3, .v (.int .i64 1))]) (init := [0, 1, 2]) (fin := [1, 6, 7]) (sps := [⟨[0], [], [3], [(.slot 11)]⟩, ⟨[3], [], [4], [(.slot 12)]⟩, ⟨[4], [], [5], [(.slot 13)]⟩, ⟨[5], [], [6], [(.slot 2)]⟩, ⟨[], [], [7], [(.slot 3)]⟩]) (es' := [(_, _), (2, .v (.int .i32 v8)), (3, .v (.int .i64 1))]) (by kernel_rfl) rfl rfl
     ⟨st_plain rfl (op_move _ _ _ _ rfl rfl),
     st_plain rfl (op_chr _ _ _ 0 _ Tryd.underlying9 rfl rfl hv7),
     st_plain rfl ((Option.some.inj hv8) ▸ op_conv _ _ _ Tryd.underlying5 Tryd.underlying21 rfl),
     st_plain rfl (op_assign _ _ _ _ rfl rfl),
     st_plain rfl (op_assign _ _ _ _ rfl rfl),
     trivial⟩ ?_
    refine pt_then ?_
    refine ht_ret ?_
    refine pt_pick [1, 2] (by kernel_rfl) (es' := [(_, _), (_, _)]) rfl ?_
    refine pt_r_then ?_
    obtain rfl := Option.some.inj h
    exact pt_ret hio rfl (.tmp _ _ (.tmp _ _ .nil)) rfl rfl
   ·have h := cond_f hb6 h
    obtain ⟨v9, hv9, h⟩ := bind_some h
    refine ht_seqR hn (El := [_, _, _, (15, .v (.string s)), (16, .tup [.v (.int .i32 v9.1), .v (.int .i64 v9.2)]), (14, .tup [.v (.int .i32 v9.1), .v (.int .i64 v9.2)]), (17, .v (.int .i32 v9.1)), (18, .v (.int .i64 v9.2)), (2, .v (.int .i32 v9.1)), (3, .v (.int .i64 v9.2))]) (init := [0, 1, 2]) (fin := [1, 8, 9]) (sps := [⟨[0], [], [3], [(.slot 15)]⟩, ⟨[3, 1], [], [4], [(.slot 16)]⟩, ⟨[], [4], [5], [(.slot 14)]⟩, ⟨[5], [], [6], [(.slot 17)]⟩, ⟨[5], [], [7], [(.slot 18)]⟩, ⟨[6], [], [8], [(.slot 2)]⟩, ⟨[7], [], [9], [(.slot 3)]⟩]) (es' := [(_, _), (2, .v (.int .i32 v9.1)), (3, .v (.int .i64 v9.2))]) (by kernel_rfl) rfl rfl
     ⟨st_plain rfl (op_move _ _ _ _ rfl rfl),
     st_plain rfl (op_callG _ _ 19 61 _ _ rfl Tryd.call61 rfl rfl (fun _ h => h) (ok_unicode_utf8_decodeRuneInStringSlow mx s _ hv9) rfl rfl),
     st_plain rfl (op_move_take _ _ _ _ rfl),
     st_plain rfl (op_extract _ _ _ _ _ rfl rfl (Nat.le_of_ble_eq_true rfl) rfl rfl),
     st_plain rfl (op_extract _ _ _ _ _ rfl rfl (Nat.le_of_ble_eq_true rfl) rfl rfl),
     st_plain rfl (op_assign _ _ _ _ rfl rfl),
     st_plain rfl (op_assign _ _ _ _ rfl rfl),
     trivial⟩ ?_
    refine pt_then ?_
    refine ht_ret ?_
    refine pt_pick [1, 2] (by kernel_rfl) (es' := [(_, _), (_, _)]) rfl ?_
    obtain rfl := Option.some.inj h
    exact pt_ret hio rfl (.tmp _ _ (.tmp _ _ .nil)) rfl rfl
  ·intro u3 h hl4 hr5
   refine cond_some h (fun hg1_2 h => ?_) (fun hg1_2 h => ?_)
   ·obtain ⟨v1, hv1, h⟩ := bind_some h
    refine ht_seqR hn (El := [_, _, (4, .v (.string s)), (5, .v (.bool ((!(s.toList == (⟨#[]⟩ : ByteArray).toList))))), (6, .v (.bool true)), (7, .v (.string s)), (8, .v (.int .u8 v1)), (9, .v (.bool ((decide (v1 < 128))))), (10, .v (.bool ((decide (v1 < 128)))))]) (init := [0, 1]) (fin := [0, 1, 8]) (sps := [⟨[0], [], [2], [(.slot 4)]⟩, ⟨[2], [], [3], [(.slot 5)]⟩, ⟨[3], [], [4], [(.slot 6)]⟩, ⟨[4, 0], [], [5], [(.slot 7)]⟩, ⟨[4, 5], [], [6], [(.slot 8)]⟩, ⟨[4, 6], [], [7], [(.slot 9)]⟩, ⟨[4, 7], [], [8], [(.slot 10)]⟩]) (es' := [(_, _), (_, _), (10, .v (.bool ((decide (v1 < 128)))))]) (by kernel_rfl) rfl rfl
     ⟨st_plain rfl (op_move _ _ _ _ rfl rfl),
     st_plain rfl (op_bin _ _ _ _ _ rfl rfl rfl),
     st_plain rfl (op_move _ _ _ _ (congrArg (fun b => AV.v (Value.bool b)) hg1_2) rfl),
     st_run 2 6 true rfl rfl rfl (List.Mem.head _) (op_move _ _ _ _ rfl rfl),
     st_run 2 6 true rfl rfl rfl (List.Mem.head _) (op_chr _ _ _ 0 _ Tryd.underlying9 rfl rfl hv1),
     st_run 2 6 true rfl rfl rfl (List.Mem.head _) (op_bin _ _ _ _ _ rfl rfl rfl),
     st_plain rfl (op_pick _ _ true _ rfl rfl),
     trivial⟩ ?_
    exact hl4 _ (Option.some.inj h).symm
   ·refine ht_seqR hn (El := [_, _, (4, .v (.string s)), (5, .v (.bool ((!(s.toList == (⟨#[]⟩ : ByteArray).toList))))), (6, .v (.bool false)), (7, .v undef), (8, .v undef), (9, .v undef), (10, .v (.bool false))]) (init := [0, 1]) (fin := [0, 1, 8]) (sps := [⟨[0], [], [2], [(.slot 4)]⟩, ⟨[2], [], [3], [(.slot 5)]⟩, ⟨[3], [], [4], [(.slot 6)]⟩, ⟨[4], [], [5], [(.slot 7)]⟩, ⟨[4], [], [6], [(.slot 8)]⟩, ⟨[4], [], [7], [(.slot 9)]⟩, ⟨[4], [], [8], [(.slot 10)]⟩]) (es' := [(_, _), (_, _), (10, .v (.bool false))]) (by kernel_rfl) rfl rfl
     ⟨st_plain rfl (op_move _ _ _ _ rfl rfl),
     st_plain rfl (op_bin _ _ _ _ _ rfl rfl rfl),
     st_plain rfl (op_move _ _ _ _ (congrArg (fun b => AV.v (Value.bool b)) hg1_2) rfl),
     st_skip 2 6 _ true rfl rfl rfl rfl (List.Mem.head _),
     st_skip 2 6 _ true rfl rfl rfl rfl (List.Mem.head _),
     st_skip 2 6 _ true rfl rfl rfl rfl (List.Mem.head _),
     st_plain rfl (op_pick _ _ false _ rfl rfl),
     trivial⟩ ?_
    exact hl4 _ (Option.some.inj h).symm

theorem ok_strings_Index (s sub : ByteArray) (r : Int) (h : Sh.strings_Index s sub = some r) : FnOK Tryd.prog 58 [.v (.string s), .v (.string sub)] (.v (.int .i64 r)) := lib_strings_Index Tryd.strings_Index_one s sub r h

set_option maxHeartbeats 1000000 in
theorem ok_strings_splitSeq_1 (mx : Int) (l : Nat) {S : Type} (J : S → InvT) (Y : ByteArray → S → Option (S × Bool)) (hY : YieldOK Tryd.prog l (fun x => .v (.string x)) Y J) (c0 : ByteArray) (c1 : ByteArray) (c2 : Int) (st r : S) (h : Sh.strings_splitSeq_1 Y c0 c1 c2 st = some r) : FnI Tryd.prog (GL mx) 56 l [.box 9 [.v (.string c0)], .box 9 [.v (.string c1)], .box 3 [.v (.int .i64 c2)]] (J st) (J r) := by
  unfold Sh.strings_splitSeq_1 at h
  refine fn_okI Tryd.func56 rfl (Nat.le_of_ble_eq_true rfl) rfl fun g0 hn hio => ?_
  refine ht_seq ?_
  refine ht_seq ?_
  refine ht_seqR hn (El := [_, _, _, _, _, _, (9, .v (.string c0)), (10, .v (.int .i64 (c0.size : Int))), (11, .v (.bool (((c0.size : Int) == 0))))]) (init := [0, 1, 2, 3, 4, 5]) (fin := [0, 1, 2, 3, 4, 5, 8]) (sps := [⟨[1], [], [6], [(.slot 9)]⟩, ⟨[6], [], [7], [(.slot 10)]⟩, ⟨[7], [], [8], [(.slot 11)]⟩]) (es' := [(_, _), (_, _), (_, _), (_, _), (_, _), (_, _), (11, .v (.bool (((c0.size : Int) == 0))))]) (by kernel_rfl) rfl rfl
   ⟨st_plain rfl (op_load _ _ _ _ _ _ Tryd.underlying9 rfl rfl rfl (Nat.le_of_ble_eq_true rfl) rfl rfl rfl),
   st_plain rfl (op_len_str _ _ _ Tryd.underlying9 rfl),
   st_plain rfl (op_bin _ _ _ _ _ rfl rfl rfl),
   trivial⟩ ?_
  refine pt_then ?_
  refine ht_cond _ rfl (fun hb1 => ?_) (fun hb1 => ?_)
  ·have h := cond_t hb1 h
   refine ht_seq ?_
   refine ht_pick [0, 2, 4, 5] (by kernel_rfl) (es' := [(_, _), (_, _), (_, _), (_, _)]) rfl ?_
   refine ht_loopS h (fun ((s12, s13) : ByteArray × S) => [(0, .v (.func (.yield l) #[] #[])), (2, .box 9 [.v (.string s12)]), (52, .glob (GL mx)), (53, .inv (J s13))]) (fun (s16 : S) => [(52, .glob (GL mx)), (53, .inv (J s16))]) ?_ ?_
   ·rintro s16 h
    refine pt_then ?_
    refine ht_ret ?_
    refine pt_pick [1] (by kernel_rfl) (es' := [(53, .inv (J s16))]) rfl ?_
    refine pt_r_then ?_
    obtain rfl := Option.some.inj h
    exact pt_retI hio rfl rfl rfl
   ·rintro u17 hl18 hr19 ⟨s12, s13⟩ rr22 h ho20
    refine ht_seq ?_
    refine ht_seq ?_
    refine ht_seqR hn (El := [_, _, _, _, (12, .v (.string s12)), (13, .v (.int .i64 (s12.size : Int))), (14, .v (.bool ((decide (0 < (s12.size : Int))))))]) (init := [0, 1, 2, 3]) (fin := [0, 1, 2, 3, 6]) (sps := [⟨[1], [], [4], [(.slot 12)]⟩, ⟨[4], [], [5], [(.slot 13)]⟩, ⟨[5], [], [6], [(.slot 14)]⟩]) (es' := [(_, _), (_, _), (_, _), (_, _), (14, .v (.bool ((decide (0 < (s12.size : Int))))))]) (by kernel_rfl) rfl rfl
     ⟨st_plain rfl (op_load _ _ _ _ _ _ Tryd.underlying9 rfl rfl rfl (Nat.le_of_ble_eq_true rfl) rfl rfl rfl),
     st_plain rfl (op_len_str _ _ _ Tryd.underlying9 rfl),
     st_plain rfl (op_bin _ _ _ _ _ rfl rfl rfl),
     trivial⟩ ?_
    refine pt_then ?_
    refine ht_cond _ rfl (fun hb23 => ?_) (fun hb23 => ?_)
    ·have h := cond_t hb23 h
     refine ht_skip ?_
     refine pt_then ?_
     refine ht_block ?_
     refine ht_seq ?_
     obtain ⟨v3, hv3, h⟩ := bind_some h
     refine ht_seqR hn (El := [_, _, _, _, _, (16, .v (.string s12)), (17, .tup [.v (.int .i32 v3.1), .v (.int .i64 v3.2)]), (15, .tup [.v (.int .i32 v3.1), .v (.int .i64 v3.2)]), (18, .v (.int .i32 v3.1)), (19, .v (.int .i64 v3.2)), (5, .v (.int .i32 v3.1)), (6, .v (.int .i64 v3.2))]) (init := [0, 1, 2, 3, 4]) (fin := [0, 1, 2, 3, 11]) (sps := [⟨[1], [], [5], [(.slot 16)]⟩, ⟨[5, 2], [], [6], [(.slot 17)]⟩, ⟨[], [6], [7], [(.slot 15)]⟩, ⟨[7], [], [8], [(.slot 18)]⟩, ⟨[7], [], [9], [(.slot 19)]⟩, ⟨[8], [], [10], [(.slot 5)]⟩, ⟨[9], [], [11], [(.slot 6)]⟩]) (es' := [(_, _), (_, _), (_, _), (_, _), (6, .v (.int .i64 v3.2))]) (by kernel_rfl) rfl rfl
      ⟨st_plain rfl (op_load _ _ _ _ _ _ Tryd.underlying9 rfl rfl rfl (Nat.le_of_ble_eq_true rfl) rfl rfl rfl),
      st_plain rfl (op_callG _ _ 52 57 _ _ rfl Tryd.call57 rfl rfl (fun _ h => h) (ok_unicode_utf8_DecodeRuneInString mx s12 _ hv3) rfl rfl),
      st_plain rfl (op_move_take _ _ _ _ rfl),
      st_plain rfl (op_extract _ _ _ _ _ rfl rfl (Nat.le_of_ble_eq_true rfl) rfl rfl),
      st_plain rfl (op_extract _ _ _ _ _ rfl rfl (Nat.le_of_ble_eq_true rfl) rfl rfl),
      st_plain rfl (op_assign _ _ _ _ rfl rfl),
      st_plain rfl (op_assign _ _ _ _ rfl rfl),
      trivial⟩ ?_
     refine pt_then ?_
     refine ht_seq ?_
     refine ht_seq ?_
     obtain ⟨v4, hv4, h⟩ := bind_some h
     obtain ⟨v5, hv5, h⟩ := bind_some h
     refine ht_seqR hn (El := [_, _, _, _, _, (20, .v (.func (.yield l) #[] #[])), (21, .v (.string s12)), (22, .v (.int .i64 v3.2)), (23, .v (.string v4)), (24, .v (.bool v5.2)), (53, .inv (J v5.1)), (25, .v (.bool (!v5.2)))]) (init := [0, 1, 2, 3, 4]) (fin := [0, 1, 2, 10, 4, 11]) (sps := [⟨[0], [], [5], [(.slot 20)]⟩, ⟨[1], [], [6], [(.slot 21)]⟩, ⟨[4], [], [7], [(.slot 22)]⟩, ⟨[6, 7], [], [8], [(.slot 23)]⟩, ⟨[8, 5], [3], [10, 9], [(.slot 24)]⟩, ⟨[9], [], [11], [(.slot 25)]⟩]) (es' := [(_, _), (_, _), (_, _), (53, .inv (J v5.1)), (_, _), (25, .v (.bool (!v5.2)))]) (by kernel_rfl) rfl rfl
      ⟨st_plain rfl (op_move _ _ _ _ rfl rfl),
      st_plain rfl (op_load _ _ _ _ _ _ Tryd.underlying9 rfl rfl rfl (Nat.le_of_ble_eq_true rfl) rfl rfl rfl),
      st_plain rfl (op_move _ _ _ _ rfl rfl),
      st_plain rfl (op_substr _ _ _ 0 v3.2 _ Tryd.underlying9 rfl rfl ⟨_, rfl⟩ hv4),
      st_plain rfl (op_yield _ _ 53 l v4 s13 v5 hY hv5 rfl rfl rfl),
      st_plain rfl (op_un _ _ _ _ rfl rfl),
      trivial⟩ ?_
     refine pt_then ?_
     refine ht_cond _ rfl (fun hb24 => ?_) (fun hb24 => ?_)
     ·have h := cond_t hb24 h
      refine ht_ret ?_
      refine pt_pick [3] (by kernel_rfl) (es' := [(53, .inv (J v5.1))]) rfl ?_
      refine pt_r_then ?_
      refine pt_r_in ?_
      refine pt_r_then ?_
      refine pt_r_in ?_
      refine pt_r_then ?_
      refine pt_r_then ?_
      have h := hr19 _ (ho20 _ (Option.some.inj h).symm).symm
      obtain rfl := Option.some.inj h
      exact pt_retI hio rfl rfl rfl
     ·have h := cond_f hb24 h
      refine ht_skip ?_
      refine pt_then ?_
      obtain ⟨v7, hv7, h⟩ := bind_some h
      refine ht_seqR hn (El := [_, _, _, _, _, _, (26, .v (.string s12)), (27, .v (.int .i64 v3.2)), (28, .v (.string v7)), (2, .box 9 [.v (.string v7)])]) (init := [0, 1, 2, 3, 4, 5]) (fin := [0, 9, 2, 3]) (sps := [⟨[1], [], [6], [(.slot 26)]⟩, ⟨[4], [], [7], [(.slot 27)]⟩, ⟨[6, 7], [], [8], [(.slot 28)]⟩, ⟨[8], [1], [9], [.cell 2 0]⟩]) (es' := [(_, _), (2, .box 9 [.v (.string v7)]), (_, _), (_, _)]) (by kernel_rfl) rfl rfl
       ⟨st_plain rfl (op_load _ _ _ _ _ _ Tryd.underlying9 rfl rfl rfl (Nat.le_of_ble_eq_true rfl) rfl rfl rfl),
       st_plain rfl (op_move _ _ _ _ rfl rfl),
       st_plain rfl (op_substr _ _ _ v3.2 (s12.size : Int) _ Tryd.underlying9 rfl ⟨_, rfl⟩ rfl hv7),
       st_plain rfl (op_store _ _ _ _ _ _ _ _ sz9 rfl rfl rfl rfl (Nat.le_of_ble_eq_true rfl) rfl rfl),
       trivial⟩ ?_
      refine pt_inb ?_
      exact pt_next _ (Option.some.inj h).symm rfl
    ·have h := cond_f hb23 h
     refine ht_exit ?_
     refine pt_x_then ?_
     refine pt_x_then ?_
     refine pt_x_in ?_
     refine pt_pick [2, 3] (by kernel_rfl) (es' := [(_, _), (_, _)]) rfl ?_
     exact hl18 _ (ho20 _ (Option.some.inj h).symm).symm
  ·have h := cond_f hb1 h
   refine ht_skip ?_
   refine pt_then ?_
   refine ht_seq ?_
   refine ht_pick [0, 1, 2, 3, 4, 5] (by kernel_rfl) (es' := [(_, _), (_, _), (_, _), (_, _), (_, _), (_, _)]) rfl ?_
   refine ht_loopS h (fun ((s37, s38) : ByteArray × S) => [(0, .v (.func (.yield l) #[] #[])), (1, .box 9 [.v (.string c0)]), (2, .box 9 [.v (.string s37)]), (3, .box 3 [.v (.int .i64 c2)]), (52, .glob (GL mx)), (53, .inv (J s38))]) (fun ((s41, s42) : ByteArray × S) => [(0, .v (.func (.yield l) #[] #[])), (2, .box 9 [.v (.string s41)]), (52, .glob (GL mx)), (53, .inv (J s42))]) ?_ ?_
   ·rintro ⟨s41, s42⟩ h
    refine pt_then ?_
    obtain ⟨v51, hv51, h⟩ := bind_some h
    refine ht_seqR hn (El := [_, _, _, _, (49, .v (.func (.yield l) #[] #[])), (50, .v (.string s41)), (51, .v (.bool v51.2)), (53, .inv (J v51.1))]) (init := [0, 1, 2, 3]) (fin := [2, 7]) (sps := [⟨[0], [], [4], [(.slot 49)]⟩, ⟨[1], [], [5], [(.slot 50)]⟩, ⟨[5, 4], [3], [7, 6], [(.slot 51)]⟩]) (es' := [(_, _), (53, .inv (J v51.1))]) (by kernel_rfl) rfl rfl
     ⟨st_plain rfl (op_move _ _ _ _ rfl rfl),
     st_plain rfl (op_load _ _ _ _ _ _ Tryd.underlying9 rfl rfl rfl (Nat.le_of_ble_eq_true rfl) rfl rfl rfl),
     st_plain rfl (op_yield _ _ 53 l s41 s42 v51 hY hv51 rfl rfl rfl),
     trivial⟩ ?_
    refine pt_pick [1] (by kernel_rfl) (es' := [(53, .inv (J v51.1))]) rfl ?_
    obtain rfl := Option.some.inj h
    exact pt_endI hio rfl rfl rfl
   ·rintro u43 hl44 hr45 ⟨s37, s38⟩ rr48 h ho46
    refine ht_block ?_
    refine ht_seq ?_
    obtain ⟨v25, hv25, h⟩ := bind_some h
    refine ht_seqR hn (El := [_, _, _, _, _, _, (29, .v (.string s37)), (30, .v (.string c0)), (31, .v (.int .i64 v25)), (7, .v (.int .i64 v25))]) (init := [0, 1, 2, 3, 4, 5]) (fin := [0, 1, 2, 3, 4, 5, 9]) (sps := [⟨[2], [], [6], [(.slot 29)]⟩, ⟨[1], [], [7], [(.slot 30)]⟩, ⟨[6, 7], [], [8], [(.slot 31)]⟩, ⟨[8], [], [9], [(.slot 7)]⟩]) (es' := [(_, _), (_, _), (_, _), (_, _), (_, _), (_, _), (7, .v (.int .i64 v25))]) (by kernel_rfl) rfl rfl
     ⟨st_plain rfl (op_load _ _ _ _ _ _ Tryd.underlying9 rfl rfl rfl (Nat.le_of_ble_eq_true rfl) rfl rfl rfl),
     st_plain rfl (op_load _ _ _ _ _ _ Tryd.underlying9 rfl rfl rfl (Nat.le_of_ble_eq_true rfl) rfl rfl rfl),
     st_plain rfl (op_call _ _ 58 _ _ rfl Tryd.call58 rfl (ok_strings_Index s37 c0 _ hv25) rfl rfl),
     st_plain rfl (op_assign _ _ _ _ rfl rfl),
     trivial⟩ ?_
    refine pt_then ?_
    refine ht_seq ?_
    refine ht_seq ?_
    refine ht_seqR hn (El := [_, _, _, _, _, _, _, (32, .v (.int .i64 v25)), (33, .v (.bool ((decide (v25 < 0)))))]) (init := [0, 1, 2, 3, 4, 5, 6]) (fin := [0, 1, 2, 3, 4, 5, 6, 8]) (sps := [⟨[6], [], [7], [(.slot 32)]⟩, ⟨[7], [], [8], [(.slot 33)]⟩]) (es' := [(_, _), (_, _), (_, _), (_, _), (_, _), (_, _), (_, _), (33, .v (.bool ((decide (v25 < 0)))))]) (by kernel_rfl) rfl rfl
     ⟨st_plain rfl (op_move _ _ _ _ rfl rfl),
     st_plain rfl (op_bin _ _ _ _ _ rfl rfl rfl),
     trivial⟩ ?_
    refine pt_then ?_
    refine ht_cond _ rfl (fun hb49 => ?_) (fun hb49 => ?_)
    ·have h := cond_t hb49 h
     refine ht_exit ?_
     refine pt_x_then ?_
     refine pt_x_out (by decide) ?_
     refine pt_x_then ?_
     refine pt_x_in ?_
     refine pt_pick [0, 2, 4, 5] (by kernel_rfl) (es' := [(_, _), (_, _), (_, _), (_, _)]) rfl ?_
     exact hl44 _ (ho46 _ (Option.some.inj h).symm).symm
    ·have h := cond_f hb49 h
     refine ht_skip ?_
     refine pt_then ?_
     refine ht_seq ?_
     obtain ⟨v27, hv27, h⟩ := bind_some h
     obtain ⟨v28, hv28, h⟩ := bind_some h
     refine ht_seqR hn (El := [_, _, _, _, _, _, _, _, (34, .v (.string s37)), (35, .v (.int .i64 v25)), (36, .v (.int .i64 c2)), (37, .v (.int .i64 v27)), (38, .v (.string v28)), (8, .v (.string v28))]) (init := [0, 1, 2, 3, 4, 5, 6, 7]) (fin := [0, 1, 2, 3, 4, 5, 6, 13]) (sps := [⟨[2], [], [8], [(.slot 34)]⟩, ⟨[6], [], [9], [(.slot 35)]⟩, ⟨[3], [], [10], [(.slot 36)]⟩, ⟨[9, 10], [], [11], [(.slot 37)]⟩, ⟨[8, 11], [], [12], [(.slot 38)]⟩, ⟨[12], [], [13], [(.slot 8)]⟩]) (es' := [(_, _), (_, _), (_, _), (_, _), (_, _), (_, _), (_, _), (8, .v (.string v28))]) (by kernel_rfl) rfl rfl
      ⟨st_plain rfl (op_load _ _ _ _ _ _ Tryd.underlying9 rfl rfl rfl (Nat.le_of_ble_eq_true rfl) rfl rfl rfl),
      st_plain rfl (op_move _ _ _ _ rfl rfl),
      st_plain rfl (op_load _ _ _ _ _ _ Tryd.underlying3 rfl rfl rfl (Nat.le_of_ble_eq_true rfl) rfl rfl rfl),
      st_plain rfl (op_bin _ _ _ _ _ rfl rfl (ibind (f := Value.int .i64) (Option.some.inj hv27))),
      st_plain rfl (op_substr _ _ _ 0 v27 _ Tryd.underlying9 rfl rfl ⟨_, rfl⟩ hv28),
      st_plain rfl (op_assign _ _ _ _ rfl rfl),
      trivial⟩ ?_
     refine pt_then ?_
     refine ht_seq ?_
     refine ht_seq ?_
     obtain ⟨v29, hv29, h⟩ := bind_some h
     refine ht_seqR hn (El := [_, _, _, _, _, _, _, _, (39, .v (.func (.yield l) #[] #[])), (40, .v (.string v28)), (41, .v (.bool v29.2)), (53, .inv (J v29.1)), (42, .v (.bool (!v29.2)))]) (init := [0, 1, 2, 3, 4, 5, 6, 7]) (fin := [0, 1, 2, 3, 4, 11, 6, 12]) (sps := [⟨[0], [], [8], [(.slot 39)]⟩, ⟨[7], [], [9], [(.slot 40)]⟩, ⟨[9, 8], [5], [11, 10], [(.slot 41)]⟩, ⟨[10], [], [12], [(.slot 42)]⟩]) (es' := [(_, _), (_, _), (_, _), (_, _), (_, _), (53, .inv (J v29.1)), (_, _), (42, .v (.bool (!v29.2)))]) (by kernel_rfl) rfl rfl
      ⟨st_plain rfl (op_move _ _ _ _ rfl rfl),
      st_plain rfl (op_move _ _ _ _ rfl rfl),
      st_plain rfl (op_yield _ _ 53 l v28 s38 v29 hY hv29 rfl rfl rfl),
      st_plain rfl (op_un _ _ _ _ rfl rfl),
      trivial⟩ ?_
     refine pt_then ?_
     refine ht_cond _ rfl (fun hb50 => ?_) (fun hb50 => ?_)
     ·have h := cond_t hb50 h
      refine ht_ret ?_
      refine pt_pick [5] (by kernel_rfl) (es' := [(53, .inv (J v29.1))]) rfl ?_
      refine pt_r_then ?_
      refine pt_r_in ?_
      refine pt_r_then ?_
      refine pt_r_in ?_
      refine pt_r_then ?_
      have h := hr45 _ (ho46 _ (Option.some.inj h).symm).symm
      obtain rfl := Option.some.inj h
      exact pt_retI hio rfl rfl rfl
     ·have h := cond_f hb50 h
      refine ht_skip ?_
      refine pt_then ?_
      obtain ⟨v31, hv31, h⟩ := bind_some h
      obtain ⟨v32, hv32, h⟩ := bind_some h
      refine ht_seqR hn (El := (_ :: _ :: _ :: _ :: _ :: _ :: _ :: _ :: (43, .v (.string s37)) :: (44, .v (.int .i64 v25)) :: (45, .v (.string c0)) :: (46, .v (.int .i64 (c0.size : Int))) :: (47, .v (.int .i64 v31)) :: (48, .v (.string v32)) :: (2, .box 9 [.v (.string v32)]) :: [])) (init := [0, 1, 2, 3, 4, 5, 6, 7]) (fin := [0, 1, 14, 3, 4, 5]) (sps := [⟨[2], [], [8], [(.slot 43)]⟩, ⟨[6], [], [9], [(.slot 44)]⟩, ⟨[1], [], [10], [(.slot 45)]⟩, ⟨[10], [], [11], [(.slot 46)]⟩, ⟨[9, 11], [], [12], [(.slot 47)]⟩, ⟨[8, 12], [], [13], [(.slot 48)]⟩, ⟨[13], [2], [14], [.cell 2 0]⟩]) (es' := [(_, _), (_, _), (2, .box 9 [.v (.string v32)]), (_, _), (_, _), (_, _)]) (by kernel_rfl) rfl rfl
       ⟨st_plain rfl (op_load _ _ _ _ _ _ Tryd.underlying9 rfl rfl rfl (Nat.le_of_ble_eq_true rfl) rfl rfl rfl),
       st_plain rfl (op_move _ _ _ _ rfl rfl),
       st_plain rfl (op_load _ _ _ _ _ _ Tryd.underlying9 rfl rfl rfl (Nat.le_of_ble_eq_true rfl) rfl rfl rfl),
       st_plain rfl (op_len_str _ _ _ Tryd.underlying9 rfl),
       st_plain rfl (op_bin _ _ _ _ _ rfl rfl (ibind (f := Value.int .i64) (Option.some.inj hv31))),
       st_plain rfl (op_substr _ _ _ v31 (s37.size : Int) _ Tryd.underlying9 rfl ⟨_, rfl⟩ rfl hv32),
       st_plain rfl (op_store _ _ _ _ _ _ _ _ sz9 rfl rfl rfl rfl (Nat.le_of_ble_eq_true rfl) rfl rfl),
       trivial⟩ ?_
      refine pt_inb ?_
      exact pt_next _ (Option.some.inj h).symm rfl

set_option maxHeartbeats 1000000 in
theorem ok_path_alphanumeric (c : Int) (r : Bool) (h : Sh.path_alphanumeric c = some r) : FnOK Tryd.prog 45 [.v (.int .u8 c)] (.v (.bool r)) := by
  unfold Sh.path_alphanumeric at h
  refine fn_ok Tryd.func45 rfl (Nat.le_of_ble_eq_true rfl) rfl rfl fun g0 hn hio => ?_
  refine ht_seq ?_
  refine ht_seqR hn (El := [_, (2, .v (.bool false))]) (init := [0]) (fin := [0]) (sps := [⟨[], [], [1], [(.slot 2)]⟩]) (es' := [(_, _)]) (by kernel_rfl) rfl rfl
   ⟨st_plain rfl (op_assign _ _ _ _ rfl rfl),
   trivial⟩ ?_
  refine pt_then ?_
  refine ht_seq ?_
  refine ht_joinS h (fun (s1 : Bool) => [(2, .v (.bool s1))]) ?_ ?_
  ·rintro s1 h
   refine pt_then ?_
   refine ht_ret ?_
   obtain rfl := Option.some.inj h
   exact pt_ret hio rfl (.tmp _ _ .nil) rfl rfl
  ·intro u2 h hl3 hr4
   refine cond_some h (fun hg1_2 h => ?_) (fun hg1_2 h => ?_)
   ·refine cond_some h (fun hg1_6 h => ?_) (fun hg1_6 h => ?_)
    ·refine ht_seqR hn (El := (_ :: (3, .v (.int .u8 c)) :: (4, .v (.bool ((decide (48 ≤ c))))) :: (5, .v (.bool true)) :: (6, .v (.int .u8 c)) :: (7, .v (.bool ((decide (c ≤ 57))))) :: (8, .v (.bool ((decide (c ≤ 57))))) :: (9, .v (.bool true)) :: (10, .v undef) :: (11, .v undef) :: (12, .v undef) :: (13, .v undef) :: (14, .v undef) :: (15, .v undef) :: (16, .v (.bool true)) :: (17, .v (.bool true)) :: (18, .v undef) :: (19, .v undef) :: (20, .v undef) :: (21, .v undef) :: (22, .v undef) :: (23, .v undef) :: (24, .v (.bool true)) :: (2, .v (.bool true)) :: [])) (init := [0]) (fin := [23]) (sps := (⟨[0], [], [1], [(.slot 3)]⟩ :: ⟨[1], [], [2], [(.slot 4)]⟩ :: ⟨[2], [], [3], [(.slot 5)]⟩ :: ⟨[3, 0], [], [4], [(.slot 6)]⟩ :: ⟨[3, 4], [], [5], [(.slot 7)]⟩ :: ⟨[3, 5], [], [6], [(.slot 8)]⟩ :: ⟨[6], [], [7], [(.slot 9)]⟩ :: ⟨[7], [], [8], [(.slot 10)]⟩ :: ⟨[7], [], [9], [(.slot 11)]⟩ :: ⟨[7], [], [10], [(.slot 12)]⟩ :: ⟨[10], [], [11], [(.slot 13)]⟩ :: ⟨[10], [], [12], [(.slot 14)]⟩ :: ⟨[7], [], [13], [(.slot 15)]⟩ :: ⟨[7], [], [14], [(.slot 16)]⟩ :: ⟨[14], [], [15], [(.slot 17)]⟩ :: ⟨[15], [], [16], [(.slot 18)]⟩ :: ⟨[15], [], [17], [(.slot 19)]⟩ :: ⟨[15], [], [18], [(.slot 20)]⟩ :: ⟨[18], [], [19], [(.slot 21)]⟩ :: ⟨[18], [], [20], [(.slot 22)]⟩ :: ⟨[15], [], [21], [(.slot 23)]⟩ :: ⟨[15], [], [22], [(.slot 24)]⟩ :: ⟨[22], [], [23], [(.slot 2)]⟩ :: [])) (es' := [(2, .v (.bool true))]) (by kernel_rfl) rfl rfl
      ⟨st_plain rfl (op_move _ _ _ _ rfl rfl),
      st_plain rfl (op_bin _ _ _ _ _ rfl rfl rfl),
      st_plain rfl (op_move _ _ _ _ (congrArg (fun b => AV.v (Value.bool b)) hg1_2) rfl),
      st_run 2 5 true rfl rfl rfl (List.Mem.head _) (op_move _ _ _ _ rfl rfl),
      st_run 2 5 true rfl rfl rfl (List.Mem.head _) (op_bin _ _ _ _ _ rfl rfl rfl),
      st_plain rfl (op_pick _ _ true _ rfl rfl),
      st_plain rfl (op_move _ _ _ _ (congrArg (fun b => AV.v (Value.bool b)) hg1_6) rfl),
      st_skip 6 9 _ false rfl rfl rfl rfl (List.Mem.head _),
      st_skip 6 9 _ false rfl rfl rfl rfl (List.Mem.head _),
      st_skip 6 9 _ false rfl rfl rfl rfl (List.Mem.head _),
      st_skipU 9 12 _ true rfl rfl rfl rfl (List.Mem.head _),
      st_skipU 9 12 _ true rfl rfl rfl rfl (List.Mem.head _),
      st_skip 6 9 _ false rfl rfl rfl rfl (List.Mem.head _),
      st_plain rfl (op_pick _ _ true _ rfl rfl),
      st_plain rfl (op_move _ _ _ _ rfl rfl),
      st_skip 14 17 _ false rfl rfl rfl rfl (List.Mem.head _),
      st_skip 14 17 _ false rfl rfl rfl rfl (List.Mem.head _),
      st_skip 14 17 _ false rfl rfl rfl rfl (List.Mem.head _),
      st_skipU 17 20 _ true rfl rfl rfl rfl (List.Mem.head _),
      st_skipU 17 20 _ true rfl rfl rfl rfl (List.Mem.head _),
      st_skip 14 17 _ false rfl rfl rfl rfl (List.Mem.head _),
      st_plain rfl (op_pick _ _ true _ rfl rfl),
      st_plain rfl (op_assign _ _ _ _ rfl rfl),
      trivial⟩ ?_
     exact hl3 _ (Option.some.inj h).symm
    ·refine cond_some h (fun hg1_9 h => ?_) (fun hg1_9 h => ?_)
     ·refine cond_some h (fun hg1_14 h => ?_) (fun hg1_14 h => ?_)
      ·refine ht_seqR hn (El := (_ :: (3, .v (.int .u8 c)) :: (4, .v (.bool ((decide (48 ≤ c))))) :: (5, .v (.bool true)) :: (6, .v (.int .u8 c)) :: (7, .v (.bool ((decide (c ≤ 57))))) :: (8, .v (.bool ((decide (c ≤ 57))))) :: (9, .v (.bool false)) :: (10, .v (.int .u8 c)) :: (11, .v (.bool ((decide (65 ≤ c))))) :: (12, .v (.bool true)) :: (13, .v (.int .u8 c)) :: (14, .v (.bool ((decide (c ≤ 90))))) :: (15, .v (.bool ((decide (c ≤ 90))))) :: (16, .v (.bool ((decide (c ≤ 90))))) :: (17, .v (.bool true)) :: (18, .v undef) :: (19, .v undef) :: (20, .v undef) :: (21, .v undef) :: (22, .v undef) :: (23, .v undef) :: (24, .v (.bool true)) :: (2, .v (.bool true)) :: [])) (init := [0]) (fin := [23]) (sps := (⟨[0], [], [1], [(.slot 3)]⟩ :: ⟨[1], [], [2], [(.slot 4)]⟩ :: ⟨[2], [], [3], [(.slot 5)]⟩ :: ⟨[3, 0], [], [4], [(.slot 6)]⟩ :: ⟨[3, 4], [], [5], [(.slot 7)]⟩ :: ⟨[3, 5], [], [6], [(.slot 8)]⟩ :: ⟨[6], [], [7], [(.slot 9)]⟩ :: ⟨[7, 0], [], [8], [(.slot 10)]⟩ :: ⟨[7, 8], [], [9], [(.slot 11)]⟩ :: ⟨[7, 9], [], [10], [(.slot 12)]⟩ :: ⟨[10, 0], [], [11], [(.slot 13)]⟩ :: ⟨[10, 11], [], [12], [(.slot 14)]⟩ :: ⟨[7, 10, 12], [], [13], [(.slot 15)]⟩ :: ⟨[7, 13], [], [14], [(.slot 16)]⟩ :: ⟨[14], [], [15], [(.slot 17)]⟩ :: ⟨[15], [], [16], [(.slot 18)]⟩ :: ⟨[15], [], [17], [(.slot 19)]⟩ :: ⟨[15], [], [18], [(.slot 20)]⟩ :: ⟨[18], [], [19], [(.slot 21)]⟩ :: ⟨[18], [], [20], [(.slot 22)]⟩ :: ⟨[15], [], [21], [(.slot 23)]⟩ :: ⟨[15], [], [22], [(.slot 24)]⟩ :: ⟨[22], [], [23], [(.slot 2)]⟩ :: [])) (es' := [(2, .v (.bool true))]) (by kernel_rfl) rfl rfl
        ⟨st_plain rfl (op_move _ _ _ _ rfl rfl),
        st_plain rfl (op_bin _ _ _ _ _ rfl rfl rfl),
        st_plain rfl (op_move _ _ _ _ (congrArg (fun b => AV.v (Value.bool b)) hg1_2) rfl),
        st_run 2 5 true rfl rfl rfl (List.Mem.head _) (op_move _ _ _ _ rfl rfl),
        st_run 2 5 true rfl rfl rfl (List.Mem.head _) (op_bin _ _ _ _ _ rfl rfl rfl),
        st_plain rfl (op_pick _ _ true _ rfl rfl),
        st_plain rfl (op_move _ _ _ _ (congrArg (fun b => AV.v (Value.bool b)) hg1_6) rfl),
        st_run 6 9 false rfl rfl rfl (List.Mem.head _) (op_move _ _ _ _ rfl rfl),
        st_run 6 9 false rfl rfl rfl (List.Mem.head _) (op_bin _ _ _ _ _ rfl rfl rfl),
        st_run 6 9 false rfl rfl rfl (List.Mem.head _) (op_move _ _ _ _ (congrArg (fun b => AV.v (Value.bool b)) hg1_9) rfl),
        st_run 9 12 true rfl rfl rfl (List.Mem.head _) (op_move _ _ _ _ rfl rfl),
        st_run 9 12 true rfl rfl rfl (List.Mem.head _) (op_bin _ _ _ _ _ rfl rfl rfl),
        st_run 6 9 false rfl rfl rfl (List.Mem.head _) (op_pick _ _ true _ rfl rfl),
        st_plain rfl (op_pick _ _ false _ rfl rfl),
        st_plain rfl (op_move _ _ _ _ (congrArg (fun b => AV.v (Value.bool b)) hg1_14) rfl),
        st_skip 14 17 _ false rfl rfl rfl rfl (List.Mem.head _),
        st_skip 14 17 _ false rfl rfl rfl rfl (List.Mem.head _),
        st_skip 14 17 _ false rfl rfl rfl rfl (List.Mem.head _),
        st_skipU 17 20 _ true rfl rfl rfl rfl (List.Mem.head _),
        st_skipU 17 20 _ true rfl rfl rfl rfl (List.Mem.head _),
        st_skip 14 17 _ false rfl rfl rfl rfl (List.Mem.head _),
        st_plain rfl (op_pick _ _ true _ rfl rfl),
        st_plain rfl (op_assign _ _ _ _ rfl rfl),
        trivial⟩ ?_
       exact hl3 _ (Option.some.inj h).symm
      ·refine cond_some h (fun hg1_17 h => ?_) (fun hg1_17 h => ?_)
       ·refine ht_seqR hn (El := (_ :: (3, .v (.int .u8 c)) :: (4, .v (.bool ((decide (48 ≤ c))))) :: (5, .v (.bool true)) :: (6, .v (.int .u8 c)) :: (7, .v (.bool ((decide (c ≤ 57))))) :: (8, .v (.bool ((decide (c ≤ 57))))) :: (9, .v (.bool false)) :: (10, .v (.int .u8 c)) :: (11, .v (.bool ((decide (65 ≤ c))))) :: (12, .v (.bool true)) :: (13, .v (.int .u8 c)) :: (14, .v (.bool ((decide (c ≤ 90))))) :: (15, .v (.bool ((decide (c ≤ 90))))) :: (16, .v (.bool ((decide (c ≤ 90))))) :: (17, .v (.bool false)) :: (18, .v (.int .u8 c)) :: (19, .v (.bool ((decide (97 ≤ c))))) :: (20, .v (.bool true)) :: (21, .v (.int .u8 c)) :: (22, .v (.bool ((decide (c ≤ 122))))) :: (23, .v (.bool ((decide (c ≤ 122))))) :: (24, .v (.bool ((decide (c ≤ 122))))) :: (2, .v (.bool ((decide (c ≤ 122))))) :: [])) (init := [0]) (fin := [23]) (sps := (⟨[0], [], [1], [(.slot 3)]⟩ :: ⟨[1], [], [2], [(.slot 4)]⟩ :: ⟨[2], [], [3], [(.slot 5)]⟩ :: ⟨[3, 0], [], [4], [(.slot 6)]⟩ :: ⟨[3, 4], [], [5], [(.slot 7)]⟩ :: ⟨[3, 5], [], [6], [(.slot 8)]⟩ :: ⟨[6], [], [7], [(.slot 9)]⟩ :: ⟨[7, 0], [], [8], [(.slot 10)]⟩ :: ⟨[7, 8], [], [9], [(.slot 11)]⟩ :: ⟨[7, 9], [], [10], [(.slot 12)]⟩ :: ⟨[10, 0], [], [11], [(.slot 13)]⟩ :: ⟨[10, 11], [], [12], [(.slot 14)]⟩ :: ⟨[7, 10, 12], [], [13], [(.slot 15)]⟩ :: ⟨[7, 13], [], [14], [(.slot 16)]⟩ :: ⟨[14], [], [15], [(.slot 17)]⟩ :: ⟨[15, 0], [], [16], [(.slot 18)]⟩ :: ⟨[15, 16], [], [17], [(.slot 19)]⟩ :: ⟨[15, 17], [], [18], [(.slot 20)]⟩ :: ⟨[18, 0], [], [19], [(.slot 21)]⟩ :: ⟨[18, 19], [], [20], [(.slot 22)]⟩ :: ⟨[15, 18, 20], [], [21], [(.slot 23)]⟩ :: ⟨[15, 21], [], [22], [(.slot 24)]⟩ :: ⟨[22], [], [23], [(.slot 2)]⟩ :: [])) (es' := [(2, .v (.bool ((decide (c ≤ 122)))))]) (by kernel_rfl) rfl rfl
         ⟨st_plain rfl (op_move _ _ _ _ rfl rfl),
         st_plain rfl (op_bin _ _ _ _ _ rfl rfl rfl),
         st_plain rfl (op_move _ _ _ _ (congrArg (fun b => AV.v (Value.bool b)) hg1_2) rfl),
         st_run 2 5 true rfl rfl rfl (List.Mem.head _) (op_move _ _ _ _ rfl rfl),
         st_run 2 5 true rfl rfl rfl (List.Mem.head _) (op_bin _ _ _ _ _ rfl rfl rfl),
         st_plain rfl (op_pick _ _ true _ rfl rfl),
         st_plain rfl (op_move _ _ _ _ (congrArg (fun b => AV.v (Value.bool b)) hg1_6) rfl),
         st_run 6 9 false rfl rfl rfl (List.Mem.head _) (op_move _ _ _ _ rfl rfl),
         st_run 6 9 false rfl rfl rfl (List.Mem.head _) (op_bin _ _ _ _ _ rfl rfl rfl),
         st_run 6 9 false rfl rfl rfl (List.Mem.head _) (op_move _ _ _ _ (congrArg (fun b => AV.v (Value.bool b)) hg1_9) rfl),
         st_run 9 12 true rfl rfl rfl (List.Mem.head _) (op_move _ _ _ _ rfl rfl),
         st_run 9 12 true rfl rfl rfl (List.Mem.head _) (op_bin _ _ _ _ _ rfl rfl rfl),
         st_run 6 9 false rfl rfl rfl (List.Mem.head _) (op_pick _ _ true _ rfl rfl),
         st_plain rfl (op_pick _ _ false _ rfl rfl),
         st_plain rfl (op_move _ _ _ _ (congrArg (fun b => AV.v (Value.bool b)) hg1_14) rfl),
         st_run 14 17 false rfl rfl rfl (List.Mem.head _) (op_move _ _ _ _ rfl rfl),
         st_run 14 17 false rfl rfl rfl (List.Mem.head _) (op_bin _ _ _ _ _ rfl rfl rfl),
         st_run 14 17 false rfl rfl rfl (List.Mem.head _) (op_move _ _ _ _ (congrArg (fun b => AV.v (Value.bool b)) hg1_17) rfl),
         st_run 17 20 true rfl rfl rfl (List.Mem.head _) (op_move _ _ _ _ rfl rfl),
         st_run 17 20 true rfl rfl rfl (List.Mem.head _) (op_bin _ _ _ _ _ rfl rfl rfl),
         st_run 14 17 false rfl rfl rfl (List.Mem.head _) (op_pick _ _ true _ rfl rfl),
         st_plain rfl (op_pick _ _ false _ rfl rfl),
         st_plain rfl (op_assign _ _ _ _ rfl rfl),
         trivial⟩ ?_
        exact hl3 _ (Option.some.inj h).symm
       ·refine ht_seqR hn (El := (_ :: (3, .v (.int .u8 c)) :: (4, .v (.bool ((decide (48 ≤ c))))) :: (5, .v (.bool true)) :: (6, .v (.int .u8 c)) :: (7, .v (.bool ((decide (c ≤ 57))))) :: (8, .v (.bool ((decide (c ≤ 57))))) :: (9, .v (.bool false)) :: (10, .v (.int .u8 c)) :: (11, .v (.bool ((decide (65 ≤ c))))) :: (12, .v (.bool true)) :: (13, .v (.int .u8 c)) :: (14, .v (.bool ((decide (c ≤ 90))))) :: (15, .v (.bool ((decide (c ≤ 90))))) :: (16, .v (.bool ((decide (c ≤ 90))))) :: (17, .v (.bool false)) :: (18, .v (.int .u8 c)) :: (19, .v (.bool ((decide (97 ≤ c))))) :: (20, .v (.bool false)) :: (21, .v undef) :: (22, .v undef) :: (23, .v (.bool false)) :: (24, .v (.bool false)) :: (2, .v (.bool false)) :: [])) (init := [0]) (fin := [23]) (sps := (⟨[0], [], [1], [(.slot 3)]⟩ :: ⟨[1], [], [2], [(.slot 4)]⟩ :: ⟨[2], [], [3], [(.slot 5)]⟩ :: ⟨[3, 0], [], [4], [(.slot 6)]⟩ :: ⟨[3, 4], [], [5], [(.slot 7)]⟩ :: ⟨[3, 5], [], [6], [(.slot 8)]⟩ :: ⟨[6], [], [7], [(.slot 9)]⟩ :: ⟨[7, 0], [], [8], [(.slot 10)]⟩ :: ⟨[7, 8], [], [9], [(.slot 11)]⟩ :: ⟨[7, 9], [], [10], [(.slot 12)]⟩ :: ⟨[10, 0], [], [11], [(.slot 13)]⟩ :: ⟨[10, 11], [], [12], [(.slot 14)]⟩ :: ⟨[7, 10, 12], [], [13], [(.slot 15)]⟩ :: ⟨[7, 13], [], [14], [(.slot 16)]⟩ :: ⟨[14], [], [15], [(.slot 17)]⟩ :: ⟨[15, 0], [], [16], [(.slot 18)]⟩ :: ⟨[15, 16], [], [17], [(.slot 19)]⟩ :: ⟨[15, 17], [], [18], [(.slot 20)]⟩ :: ⟨[18], [], [19], [(.slot 21)]⟩ :: ⟨[18], [], [20], [(.slot 22)]⟩ :: ⟨[15, 18], [], [21], [(.slot 23)]⟩ :: ⟨[15, 21], [], [22], [(.slot 24)]⟩ :: ⟨[22], [], [23], [(.slot 2)]⟩ :: [])) (es' := [(2, .v (.bool false))]) (by kernel_rfl) rfl rfl
         ⟨st_plain rfl (op_move _ _ _ _ rfl rfl),
         st_plain rfl (op_bin _ _ _ _ _ rfl rfl rfl),
         st_plain rfl (op_move _ _ _ _ (congrArg (fun b => AV.v (Value.bool b)) hg1_2) rfl),
         st_run 2 5 true rfl rfl rfl (List.Mem.head _) (op_move _ _ _ _ rfl rfl),
         st_run 2 5 true rfl rfl rfl (List.Mem.head _) (op_bin _ _ _ _ _ rfl rfl rfl),
         st_plain rfl (op_pick _ _ true _ rfl rfl),
         st_plain rfl (op_move _ _ _ _ (congrArg (fun b => AV.v (Value.bool b)) hg1_6) rfl),
         st_run 6 9 false rfl rfl rfl (List.Mem.head _) (op_move _ _ _ _ rfl rfl),
         st_run 6 9 false rfl rfl rfl (List.Mem.head _) (op_bin _ _ _ _ _ rfl rfl rfl),
         st_run 6 9 false rfl rfl rfl (List.Mem.head _) (op_move _ _ _ _ (congrArg (fun b => AV.v (Value.bool b)) hg1_9) rfl),
         st_run 9 12 true rfl rfl rfl (List.Mem.head _) (op_move _ _ _ _ rfl rfl),
         st_run 9 12 true rfl rfl rfl (List.Mem.head _) (op_bin _ _ _ _ _ rfl rfl rfl),
         st_run 6 9 false rfl rfl rfl (List.Mem.head _) (op_pick _ _ true _ rfl rfl),
         st_plain rfl (op_pick _ _ false _ rfl rfl),
         st_plain rfl (op_move _ _ _ _ (congrArg (fun b => AV.v (Value.bool b)) hg1_14) rfl),
         st_run 14 17 false rfl rfl rfl (List.Mem.head _) (op_move _ _ _ _ rfl rfl),
         st_run 14 17 false rfl rfl rfl (List.Mem.head _) (op_bin _ _ _ _ _ rfl rfl rfl),
         st_run 14 17 false rfl rfl rfl (List.Mem.head _) (op_move _ _ _ _ (congrArg (fun b => AV.v (Value.bool b)) hg1_17) rfl),
         st_skip 17 20 _ true rfl rfl rfl rfl (List.Mem.head _),
         st_skip 17 20 _ true rfl rfl rfl rfl (List.Mem.head _),
         st_run 14 17 false rfl rfl rfl (List.Mem.head _) (op_pick _ _ false _ rfl rfl),
         st_plain rfl (op_pick _ _ false _ rfl rfl),
         st_plain rfl (op_assign _ _ _ _ rfl rfl),
         trivial⟩ ?_
        exact hl3 _ (Option.some.inj h).symm
     ·refine cond_some h (fun hg1_17 h => ?_) (fun hg1_17 h => ?_)
      ·refine ht_seqR hn (El := (_ :: (3, .v (.int .u8 c)) :: (4, .v (.bool ((decide (48 ≤ c))))) :: (5, .v (.bool true)) :: (6, .v (.int .u8 c)) :: (7, .v (.bool ((decide (c ≤ 57))))) :: (8, .v (.bool ((decide (c ≤ 57))))) :: (9, .v (.bool false)) :: (10, .v (.int .u8 c)) :: (11, .v (.bool ((decide (65 ≤ c))))) :: (12, .v (.bool false)) :: (13, .v undef) :: (14, .v undef) :: (15, .v (.bool false)) :: (16, .v (.bool false)) :: (17, .v (.bool false)) :: (18, .v (.int .u8 c)) :: (19, .v (.bool ((decide (97 ≤ c))))) :: (20, .v (.bool true)) :: (21, .v (.int .u8 c)) :: (22, .v (.bool ((decide (c ≤ 122))))) :: (23, .v (.bool ((decide (c ≤ 122))))) :: (24, .v (.bool ((decide (c ≤ 122))))) :: (2, .v (.bool ((decide (c ≤ 122))))) :: [])) (init := [0]) (fin := [23]) (sps := (⟨[0], [], [1], [(.slot 3)]⟩ :: ⟨[1], [], [2], [(.slot 4)]⟩ :: ⟨[2], [], [3], [(.slot 5)]⟩ :: ⟨[3, 0], [], [4], [(.slot 6)]⟩ :: ⟨[3, 4], [], [5], [(.slot 7)]⟩ :: ⟨[3, 5], [], [6], [(.slot 8)]⟩ :: ⟨[6], [], [7], [(.slot 9)]⟩ :: ⟨[7, 0], [], [8], [(.slot 10)]⟩ :: ⟨[7, 8], [], [9], [(.slot 11)]⟩ :: ⟨[7, 9], [], [10], [(.slot 12)]⟩ :: ⟨[10], [], [11], [(.slot 13)]⟩ :: ⟨[10], [], [12], [(.slot 14)]⟩ :: ⟨[7, 10], [], [13], [(.slot 15)]⟩ :: ⟨[7, 13], [], [14], [(.slot 16)]⟩ :: ⟨[14], [], [15], [(.slot 17)]⟩ :: ⟨[15, 0], [], [16], [(.slot 18)]⟩ :: ⟨[15, 16], [], [17], [(.slot 19)]⟩ :: ⟨[15, 17], [], [18], [(.slot 20)]⟩ :: ⟨[18, 0], [], [19], [(.slot 21)]⟩ :: ⟨[18, 19], [], [20], [(.slot 22)]⟩ :: ⟨[15, 18, 20], [], [21], [(.slot 23)]⟩ :: ⟨[15, 21], [], [22], [(.slot 24)]⟩ :: ⟨[22], [], [23], [(.slot 2)]⟩ :: [])) (es' := [(2, .v (.bool ((decide (c ≤ 122)))))]) (by kernel_rfl) rfl rfl
        ⟨st_plain rfl (op_move _ _ _ _ rfl rfl),
        st_plain rfl (op_bin _ _ _ _ _ rfl rfl rfl),
        st_plain rfl (op_move _ _ _ _ (congrArg (fun b => AV.v (Value.bool b)) hg1_2) rfl),
        st_run 2 5 true rfl rfl rfl (List.Mem.head _) (op_move _ _ _ _ rfl rfl),
        st_run 2 5 true rfl rfl rfl (List.Mem.head _) (op_bin _ _ _ _ _ rfl rfl rfl),
        st_plain rfl (op_pick _ _ true _ rfl rfl),
        st_plain rfl (op_move _ _ _ _ (congrArg (fun b => AV.v (Value.bool b)) hg1_6) rfl),
        st_run 6 9 false rfl rfl rfl (List.Mem.head _) (op_move _ _ _ _ rfl rfl),
        st_run 6 9 false rfl rfl rfl (List.Mem.head _) (op_bin _ _ _ _ _ rfl rfl rfl),
        st_run 6 9 false rfl rfl rfl (List.Mem.head _) (op_move _ _ _ _ (congrArg (fun b => AV.v (Value.bool b)) hg1_9) rfl),
        st_skip 9 12 _ true rfl rfl rfl rfl (List.Mem.head _),
        st_skip 9 12 _ true rfl rfl rfl rfl (List.Mem.head _),
        st_run 6 9 false rfl rfl rfl (List.Mem.head _) (op_pick _ _ false _ rfl rfl),
        st_plain rfl (op_pick _ _ false _ rfl rfl),
        st_plain rfl (op_move _ _ _ _ rfl rfl),
        st_run 14 17 false rfl rfl rfl (List.Mem.head _) (op_move _ _ _ _ rfl rfl),
        st_run 14 17 false rfl rfl rfl (List.Mem.head _) (op_bin _ _ _ _ _ rfl rfl rfl),
        st_run 14 17 false rfl rfl rfl (List.Mem.head _) (op_move _ _ _ _ (congrArg (fun b => AV.v (Value.bool b)) hg1_17) rfl),
        st_run 17 20 true rfl rfl rfl (List.Mem.head _) (op_move _ _ _ _ rfl rfl),
        st_run 17 20 true rfl rfl rfl (List.Mem.head _) (op_bin _ _ _ _ _ rfl rfl rfl),
        st_run 14 17 false rfl rfl rfl (List.Mem.head _) (op_pick _ _ true _ rfl rfl),
        st_plain rfl (op_pick _ _ false _ rfl rfl),
        st_plain rfl (op_assign _ _ _ _ rfl rfl),
        trivial⟩ ?_
       exact hl3 _ (Option.some.inj h).symm
      ·refine ht_seqR hn (El := (_ :: (3, .v (.int .u8 c)) :: (4, .v (.bool ((decide (48 ≤ c))))) :: (5, .v (.bool true)) :: (6, .v (.int .u8 c)) :: (7, .v (.bool ((decide (c ≤ 57))))) :: (8, .v (.bool ((decide (c ≤ 57))))) :: (9, .v (.bool false)) :: (10, .v (.int .u8 c)) :: (11, .v (.bool ((decide (65 ≤ c))))) :: (12, .v (.bool false)) :: (13, .v undef) :: (14, .v undef) :: (15, .v (.bool false)) :: (16, .v (.bool false)) :: (17, .v (.bool false)) :: (18, .v (.int .u8 c)) :: (19, .v (.bool ((decide (97 ≤ c))))) :: (20, .v (.bool false)) :: (21, .v undef) :: (22, .v undef) :: (23, .v (.bool false)) :: (24, .v (.bool false)) :: (2, .v (.bool false)) :: [])) (init := [0]) (fin := [23]) (sps := (⟨[0], [], [1], [(.slot 3)]⟩ :: ⟨[1], [], [2], [(.slot 4)]⟩ :: ⟨[2], [], [3], [(.slot 5)]⟩ :: ⟨[3, 0], [], [4], [(.slot 6)]⟩ :: ⟨[3, 4], [], [5], [(.slot 7)]⟩ :: ⟨[3, 5], [], [6], [(.slot 8)]⟩ :: ⟨[6], [], [7], [(.slot 9)]⟩ :: ⟨[7, 0], [], [8], [(.slot 10)]⟩ :: ⟨[7, 8], [], [9], [(.slot 11)]⟩ :: ⟨[7, 9], [], [10], [(.slot 12)]⟩ :: ⟨[10], [], [11], [(.slot 13)]⟩ :: ⟨[10], [], [12], [(.slot 14)]⟩ :: ⟨[7, 10], [], [13], [(.slot 15)]⟩ :: ⟨[7, 13], [], [14], [(.slot 16)]⟩ :: ⟨[14], [], [15], [(.slot 17)]⟩ :: ⟨[15, 0], [], [16], [(.slot 18)]⟩ :: ⟨[15, 16], [], [17], [(.slot 19)]⟩ :: ⟨[15, 17], [], [18], [(.slot 20)]⟩ :: ⟨[18], [], [19], [(.slot 21)]⟩ :: ⟨[18], [], [20], [(.slot 22)]⟩ :: ⟨[15, 18], [], [21], [(.slot 23)]⟩ :: ⟨[15, 21], [], [22], [(.slot 24)]⟩ :: ⟨[22], [], [23], [(.slot 2)]⟩ :: [])) (es' := [(2, .v (.bool false))]) (by kernel_rfl) rfl rfl
        ⟨st_plain rfl (op_move _ _ _ _ rfl rfl),
        st_plain rfl (op_bin _ _ _ _ _ rfl rfl rfl),
        st_plain rfl (op_move _ _ _ _ (congrArg (fun b => AV.v (Value.bool b)) hg1_2) rfl),
        st_run 2 5 true rfl rfl rfl (List.Mem.head _) (op_move _ _ _ _ rfl rfl),
        st_run 2 5 true rfl rfl rfl (List.Mem.head _) (op_bin _ _ _ _ _ rfl rfl rfl),
        st_plain rfl (op_pick _ _ true _ rfl rfl),
        st_plain rfl (op_move _ _ _ _ (congrArg (fun b => AV.v (Value.bool b)) hg1_6) rfl),
        st_run 6 9 false rfl rfl rfl (List.Mem.head _) (op_move _ _ _ _ rfl rfl),
        st_run 6 9 false rfl rfl rfl (List.Mem.head _) (op_bin _ _ _ _ _ rfl rfl rfl),
        st_run 6 9 false rfl rfl rfl (List.Mem.head _) (op_move _ _ _ _ (congrArg (fun b => AV.v (Value.bool b)) hg1_9) rfl),
        st_skip 9 12 _ true rfl rfl rfl rfl (List.Mem.head _),
        st_skip 9 12 _ true rfl rfl rfl rfl (List.Mem.head _),
        st_run 6 9 false rfl rfl rfl (List.Mem.head _) (op_pick _ _ false _ rfl rfl),
        st_plain rfl (op_pick _ _ false _ rfl rfl),
        st_plain rfl (op_move _ _ _ _ rfl rfl),
        st_run 14 17 false rfl rfl rfl (List.Mem.head _) (op_move _ _ _ _ rfl rfl),
        st_run 14 17 false rfl rfl rfl (List.Mem.head _) (op_bin _ _ _ _ _ rfl rfl rfl),
        st_run 14 17 false rfl rfl rfl (List.Mem.head _) (op_move _ _ _ _ (congrArg (fun b => AV.v (Value.bool b)) hg1_17) rfl),
        st_skip 17 20 _ true rfl rfl rfl rfl (List.Mem.head _),
        st_skip 17 20 _ true rfl rfl rfl rfl (List.Mem.head _),
        st_run 14 17 false rfl rfl rfl (List.Mem.head _) (op_pick _ _ false _ rfl rfl),
        st_plain rfl (op_pick _ _ false _ rfl rfl),
        st_plain rfl (op_assign _ _ _ _ rfl rfl),
        trivial⟩ ?_
       exact hl3 _ (Option.some.inj h).symm
   ·refine cond_some h (fun hg1_9 h => ?_) (fun hg1_9 h => ?_)
    ·refine cond_some h (fun hg1_14 h => ?_) (fun hg1_14 h => ?_)
     ·refine ht_seqR hn (El := (_ :: (3, .v (.int .u8 c)) :: (4, .v (.bool ((decide (48 ≤ c))))) :: (5, .v (.bool false)) :: (6, .v undef) :: (7, .v undef) :: (8, .v (.bool false)) :: (9, .v (.bool false)) :: (10, .v (.int .u8 c)) :: (11, .v (.bool ((decide (65 ≤ c))))) :: (12, .v (.bool true)) :: (13, .v (.int .u8 c)) :: (14, .v (.bool ((decide (c ≤ 90))))) :: (15, .v (.bool ((decide (c ≤ 90))))) :: (16, .v (.bool ((decide (c ≤ 90))))) :: (17, .v (.bool true)) :: (18, .v undef) :: (19, .v undef) :: (20, .v undef) :: (21, .v undef) :: (22, .v undef) :: (23, .v undef) :: (24, .v (.bool true)) :: (2, .v (.bool true)) :: [])) (init := [0]) (fin := [23]) (sps := (⟨[0], [], [1], [(.slot 3)]⟩ :: ⟨[1], [], [2], [(.slot 4)]⟩ :: ⟨[2], [], [3], [(.slot 5)]⟩ :: ⟨[3], [], [4], [(.slot 6)]⟩ :: ⟨[3], [], [5], [(.slot 7)]⟩ :: ⟨[3], [], [6], [(.slot 8)]⟩ :: ⟨[6], [], [7], [(.slot 9)]⟩ :: ⟨[7, 0], [], [8], [(.slot 10)]⟩ :: ⟨[7, 8], [], [9], [(.slot 11)]⟩ :: ⟨[7, 9], [], [10], [(.slot 12)]⟩ :: ⟨[10, 0], [], [11], [(.slot 13)]⟩ :: ⟨[10, 11], [], [12], [(.slot 14)]⟩ :: ⟨[7, 10, 12], [], [13], [(.slot 15)]⟩ :: ⟨[7, 13], [], [14], [(.slot 16)]⟩ :: ⟨[14], [], [15], [(.slot 17)]⟩ :: ⟨[15], [], [16], [(.slot 18)]⟩ :: ⟨[15], [], [17], [(.slot 19)]⟩ :: ⟨[15], [], [18], [(.slot 20)]⟩ :: ⟨[18], [], [19], [(.slot 21)]⟩ :: ⟨[18], [], [20], [(.slot 22)]⟩ :: ⟨[15], [], [21], [(.slot 23)]⟩ :: ⟨[15], [], [22], [(.slot 24)]⟩ :: ⟨[22], [], [23], [(.slot 2)]⟩ :: [])) (es' := [(2, .v (.bool true))]) (by kernel_rfl) rfl rfl
       ⟨st_plain rfl (op_move _ _ _ _ rfl rfl),
       st_plain rfl (op_bin _ _ _ _ _ rfl rfl rfl),
       st_plain rfl (op_move _ _ _ _ (congrArg (fun b => AV.v (Value.bool b)) hg1_2) rfl),
       st_skip 2 5 _ true rfl rfl rfl rfl (List.Mem.head _),
       st_skip 2 5 _ true rfl rfl rfl rfl (List.Mem.head _),
       st_plain rfl (op_pick _ _ false _ rfl rfl),
       st_plain rfl (op_move _ _ _ _ rfl rfl),
       st_run 6 9 false rfl rfl rfl (List.Mem.head _) (op_move _ _ _ _ rfl rfl),
       st_run 6 9 false rfl rfl rfl (List.Mem.head _) (op_bin _ _ _ _ _ rfl rfl rfl),
       st_run 6 9 false rfl rfl rfl (List.Mem.head _) (op_move _ _ _ _ (congrArg (fun b => AV.v (Value.bool b)) hg1_9) rfl),
       st_run 9 12 true rfl rfl rfl (List.Mem.head _) (op_move _ _ _ _ rfl rfl),
       st_run 9 12 true rfl rfl rfl (List.Mem.head _) (op_bin _ _ _ _ _ rfl rfl rfl),
       st_run 6 9 false rfl rfl rfl (List.Mem.head _) (op_pick _ _ true _ rfl rfl),
       st_plain rfl (op_pick _ _ false _ rfl rfl),
       st_plain rfl (op_move _ _ _ _ (congrArg (fun b => AV.v (Value.bool b)) hg1_14) rfl),
       st_skip 14 17 _ false rfl rfl rfl rfl (List.Mem.head _),
       st_skip 14 17 _ false rfl rfl rfl rfl (List.Mem.head _),
       st_skip 14 17 _ false rfl rfl rfl rfl (List.Mem.head _),
       st_skipU 17 20 _ true rfl rfl rfl rfl (List.Mem.head _),
       st_skipU 17 20 _ true rfl rfl rfl rfl (List.Mem.head _),
       st_skip 14 17 _ false rfl rfl rfl rfl (List.Mem.head _),
       st_plain rfl (op_pick _ _ true _ rfl rfl),
       st_plain rfl (op_assign _ _ _ _ rfl rfl),
       trivial⟩ ?_
      exact hl3 _ (Option.some.inj h).symm
     ·refine cond_some h (fun hg1_17 h => ?_) (fun hg1_17 h => ?_)
      ·refine ht_seqR hn (El := (_ :: (3, .v (.int .u8 c)) :: (4, .v (.bool ((decide (48 ≤ c))))) :: (5, .v (.bool false)) :: (6, .v undef) :: (7, .v undef) :: (8, .v (.bool false)) :: (9, .v (.bool false)) :: (10, .v (.int .u8 c)) :: (11, .v (.bool ((decide (65 ≤ c))))) :: (12, .v (.bool true)) :: (13, .v (.int .u8 c)) :: (14, .v (.bool ((decide (c ≤ 90))))) :: (15, .v (.bool ((decide (c ≤ 90))))) :: (16, .v (.bool ((decide (c ≤ 90))))) :: (17, .v (.bool false)) :: (18, .v (.int .u8 c)) :: (19, .v (.bool ((decide (97 ≤ c))))) :: (20, .v (.bool true)) :: (21, .v (.int .u8 c)) :: (22, .v (.bool ((decide (c ≤ 122))))) :: (23, .v (.bool ((decide (c ≤ 122))))) :: (24, .v (.bool ((decide (c ≤ 122))))) :: (2, .v (.bool ((decide (c ≤ 122))))) :: [])) (init := [0]) (fin := [23]) (sps := (⟨[0], [], [1], [(.slot 3)]⟩ :: ⟨[1], [], [2], [(.slot 4)]⟩ :: ⟨[2], [], [3], [(.slot 5)]⟩ :: ⟨[3], [], [4], [(.slot 6)]⟩ :: ⟨[3], [], [5], [(.slot 7)]⟩ :: ⟨[3], [], [6], [(.slot 8)]⟩ :: ⟨[6], [], [7], [(.slot 9)]⟩ :: ⟨[7, 0], [], [8], [(.slot 10)]⟩ :: ⟨[7, 8], [], [9], [(.slot 11)]⟩ :: ⟨[7, 9], [], [10], [(.slot 12)]⟩ :: ⟨[10, 0], [], [11], [(.slot 13)]⟩ :: ⟨[10, 11], [], [12], [(.slot 14)]⟩ :: ⟨[7, 10, 12], [], [13], [(.slot 15)]⟩ :: ⟨[7, 13], [], [14], [(.slot 16)]⟩ :: ⟨[14], [], [15], [(.slot 17)]⟩ :: ⟨[15, 0], [], [16], [(.slot 18)]⟩ :: ⟨[15, 16], [], [17], [(.slot 19)]⟩ :: ⟨[15, 17], [], [18], [(.slot 20)]⟩ :: ⟨[18, 0], [], [19], [(.slot 21)]⟩ :: ⟨[18, 19], [], [20], [(.slot 22)]⟩ :: ⟨[15, 18, 20], [], [21], [(.slot 23)]⟩ :: ⟨[15, 21], [], [22], [(.slot 24)]⟩ :: ⟨[22], [], [23], [(.slot 2)]⟩ :: [])) (es' := [(2, .v (.bool ((decide (c ≤ 122)))))]) (by kernel_rfl) rfl rfl
        ⟨st_plain rfl (op_move _ _ _ _ rfl rfl),
        st_plain rfl (op_bin _ _ _ _ _ rfl rfl rfl),
        st_plain rfl (op_move _ _ _ _ (congrArg (fun b => AV.v (Value.bool b)) hg1_2) rfl),
        st_skip 2 5 _ true rfl rfl rfl rfl (List.Mem.head _),
        st_skip 2 5 _ true rfl rfl rfl rfl (List.Mem.head _),
        st_plain rfl (op_pick _ _ false _ rfl rfl),
        st_plain rfl (op_move _ _ _ _ rfl rfl),
        st_run 6 9 false rfl rfl rfl (List.Mem.head _) (op_move _ _ _ _ rfl rfl),
        st_run 6 9 false rfl rfl rfl (List.Mem.head _) (op_bin _ _ _ _ _ rfl rfl rfl),
        st_run 6 9 false rfl rfl rfl (List.Mem.head _) (op_move _ _ _ _ (congrArg (fun b => AV.v (Value.bool b)) hg1_9) rfl),
        st_run 9 12 true rfl rfl rfl (List.Mem.head _) (op_move _ _ _ _ rfl rfl),
        st_run 9 12 true rfl rfl rfl (List.Mem.head _) (op_bin _ _ _ _ _ rfl rfl rfl),
        st_run 6 9 false rfl rfl rfl (List.Mem.head _) (op_pick _ _ true _ rfl rfl),
        st_plain rfl (op_pick _ _ false _ rfl rfl),
        st_plain rfl (op_move _ _ _ _ (congrArg (fun b => AV.v (Value.bool b)) hg1_14) rfl),
        st_run 14 17 false rfl rfl rfl (List.Mem.head _) (op_move _ _ _ _ rfl rfl),
        st_run 14 17 false rfl rfl rfl (List.Mem.head _) (op_bin _ _ _ _ _ rfl rfl rfl),
        st_run 14 17 false rfl rfl rfl (List.Mem.head _) (op_move _ _ _ _ (congrArg (fun b => AV.v (Value.bool b)) hg1_17) rfl),
        st_run 17 20 true rfl rfl rfl (List.Mem.head _) (op_move _ _ _ _ rfl rfl),
        st_run 17 20 true rfl rfl rfl (List.Mem.head _) (op_bin _ _ _ _ _ rfl rfl rfl),
        st_run 14 17 false rfl rfl rfl (List.Mem.head _) (op_pick _ _ true _ rfl rfl),
        st_plain rfl (op_pick _ _ false _ rfl rfl),
        st_plain rfl (op_assign _ _ _ _ rfl rfl),
        trivial⟩ ?_
       exact hl3 _ (Option.some.inj h).symm
      ·refine ht_seqR hn (El := (_ :: (3, .v (.int .u8 c)) :: (4, .v (.bool ((decide (48 ≤ c))))) :: (5, .v (.bool false)) :: (6, .v undef) :: (7, .v undef) :: (8, .v (.bool false)) :: (9, .v (.bool false)) :: (10, .v (.int .u8 c)) :: (11, .v (.bool ((decide (65 ≤ c))))) :: (12, .v (.bool true)) :: (13, .v (.int .u8 c)) :: (14, .v (.bool ((decide (c ≤ 90))))) :: (15, .v (.bool ((decide (c ≤ 90))))) :: (16, .v (.bool ((decide (c ≤ 90))))) :: (17, .v (.bool false)) :: (18, .v (.int .u8 c)) :: (19, .v (.bool ((decide (97 ≤ c))))) :: (20, .v (.bool false)) :: (21, .v undef) :: (22, .v undef) :: (23, .v (.bool false)) :: (24, .v (.bool false)) :: (2, .v (.bool false)) :: [])) (init := [0]) (fin := [23]) (sps := (⟨[0], [], [1], [(.slot 3)]⟩ :: ⟨[1], [], [2], [(.slot 4)]⟩ :: ⟨[2], [], [3], [(.slot 5)]⟩ :: ⟨[3], [], [4], [(.slot 6)]⟩ :: ⟨[3], [], [5], [(.slot 7)]⟩ :: ⟨[3], [], [6], [(.slot 8)]⟩ :: ⟨[6], [], [7], [(.slot 9)]⟩ :: ⟨[7, 0], [], [8], [(.slot 10)]⟩ :: ⟨[7, 8], [], [9], [(.slot 11)]⟩ :: ⟨[7, 9], [], [10], [(.slot 12)]⟩ :: ⟨[10, 0], [], [11], [(.slot 13)]⟩ :: ⟨[10, 11], [], [12], [(.slot 14)]⟩ :: ⟨[7, 10, 12], [], [13], [(.slot 15)]⟩ :: ⟨[7, 13], [], [14], [(.slot 16)]⟩ :: ⟨[14], [], [15], [(.slot 17)]⟩ :: ⟨[15, 0], [], [16], [(.slot 18)]⟩ :: ⟨[15, 16], [], [17], [(.slot 19)]⟩ :: ⟨[15, 17], [], [18], [(.slot 20)]⟩ :: ⟨[18], [], [19], [(.slot 21)]⟩ :: ⟨[18], [], [20], [(.slot 22)]⟩ :: ⟨[15, 18], [], [21], [(.slot 23)]⟩ :: ⟨[15, 21], [], [22], [(.slot 24)]⟩ :: ⟨[22], [], [23], [(.slot 2)]⟩ :: [])) (es' := [(2, .v (.bool false))]) (by kernel_rfl) rfl rfl
        ⟨st_plain rfl (op_move _ _ _ _ rfl rfl),
        st_plain rfl (op_bin _ _ _ _ _ rfl rfl rfl),
        st_plain rfl (op_move _ _ _ _ (congrArg (fun b => AV.v (Value.bool b)) hg1_2) rfl),
        st_skip 2 5 _ true rfl rfl rfl rfl (List.Mem.head _),
        st_skip 2 5 _ true rfl rfl rfl rfl (List.Mem.head _),
        st_plain rfl (op_pick _ _ false _ rfl rfl),
        st_plain rfl (op_move _ _ _ _ rfl rfl),
        st_run 6 9 false rfl rfl rfl (List.Mem.head _) (op_move _ _ _ _ rfl rfl),
        st_run 6 9 false rfl rfl rfl (List.Mem.head _) (op_bin _ _ _ _ _ rfl rfl rfl),
        st_run 6 9 false rfl rfl rfl (List.Mem.head _) (op_move _ _ _ _ (congrArg (fun b => AV.v (Value.bool b)) hg1_9) rfl),
        st_run 9 12 true rfl rfl rfl (List.Mem.head _) (op_move _ _ _ _ rfl rfl),
        st_run 9 12 true rfl rfl rfl (List.Mem.head _) (op_bin _ _ _ _ _ rfl rfl rfl),
        st_run 6 9 false rfl rfl rfl (List.Mem.head _) (op_pick _ _ true _ rfl rfl),
        st_plain rfl (op_pick _ _ false _ rfl rfl),
        st_plain rfl (op_move _ _ _ _ (congrArg (fun b => AV.v (Value.bool b)) hg1_14) rfl),
        st_run 14 17 false rfl rfl rfl (List.Mem.head _) (op_move _ _ _ _ rfl rfl),
        st_run 14 17 false rfl rfl rfl (List.Mem.head _) (op_bin _ _ _ _ _ rfl rfl rfl),
        st_run 14 17 false rfl rfl rfl (List.Mem.head _) (op_move _ _ _ _ (congrArg (fun b => AV.v (Value.bool b)) hg1_17) rfl),
        st_skip 17 20 _ true rfl rfl rfl rfl (List.Mem.head _),
        st_skip 17 20 _ true rfl rfl rfl rfl (List.Mem.head _),
        st_run 14 17 false rfl rfl rfl (List.Mem.head _) (op_pick _ _ false _ rfl rfl),
        st_plain rfl (op_pick _ _ false _ rfl rfl),
        st_plain rfl (op_assign _ _ _ _ rfl rfl),
        trivial⟩ ?_
       exact hl3 _ (Option.some.inj h).symm
    ·refine cond_some h (fun hg1_17 h => ?_) (fun hg1_17 h => ?_)
     ·refine ht_seqR hn (El := (_ :: (3, .v (.int .u8 c)) :: (4, .v (.bool ((decide (48 ≤ c))))) :: (5, .v (.bool false)) :: (6, .v undef) :: (7, .v undef) :: (8, .v (.bool false)) :: (9, .v (.bool false)) :: (10, .v (.int .u8 c)) :: (11, .v (.bool ((decide (65 ≤ c))))) :: (12, .v (.bool false)) :: (13, .v undef) :: (14, .v undef) :: (15, .v (.bool false)) :: (16, .v (.bool false)) :: (17, .v (.bool false)) :: (18, .v (.int .u8 c)) :: (19, .v (.bool ((decide (97 ≤ c))))) :: (20, .v (.bool true)) :: (21, .v (.int .u8 c)) :: (22, .v (.bool ((decide (c ≤ 122))))) :: (23, .v (.bool ((decide (c ≤ 122))))) :: (24, .v (.bool ((decide (c ≤ 122))))) :: (2, .v (.bool ((decide (c ≤ 122))))) :: [])) (init := [0]) (fin := [23]) (sps := (⟨[0], [], [1], [(.slot 3)]⟩ :: ⟨[1], [], [2], [(.slot 4)]⟩ :: ⟨[2], [], [3], [(.slot 5)]⟩ :: ⟨[3], [], [4], [(.slot 6)]⟩ :: ⟨[3], [], [5], [(.slot 7)]⟩ :: ⟨[3], [], [6], [(.slot 8)]⟩ :: ⟨[6], [], [7], [(.slot 9)]⟩ :: ⟨[7, 0], [], [8], [(.slot 10)]⟩ :: ⟨[7, 8], [], [9], [(.slot 11)]⟩ :: ⟨[7, 9], [], [10], [(.slot 12)]⟩ :: ⟨[10], [], [11], [(.slot 13)]⟩ :: ⟨[10], [], [12], [(.slot 14)]⟩ :: ⟨[7, 10], [], [13], [(.slot 15)]⟩ :: ⟨[7, 13], [], [14], [(.slot 16)]⟩ :: ⟨[14], [], [15], [(.slot 17)]⟩ :: ⟨[15, 0], [], [16], [(.slot 18)]⟩ :: ⟨[15, 16], [], [17], [(.slot 19)]⟩ :: ⟨[15, 17], [], [18], [(.slot 20)]⟩ :: ⟨[18, 0], [], [19], [(.slot 21)]⟩ :: ⟨[18, 19], [], [20], [(.slot 22)]⟩ :: ⟨[15, 18, 20], [], [21], [(.slot 23)]⟩ :: ⟨[15, 21], [], [22], [(.slot 24)]⟩ :: ⟨[22], [], [23], [(.slot 2)]⟩ :: [])) (es' := [(2, .v (.bool ((decide (c ≤ 122)))))]) (by kernel_rfl) rfl rfl
       ⟨st_plain rfl (op_move _ _ _ _ rfl rfl),
       st_plain rfl (op_bin _ _ _ _ _ rfl rfl rfl),
       st_plain rfl (op_move _ _ _ _ (congrArg (fun b => AV.v (Value.bool b)) hg1_2) rfl),
       st_skip 2 5 _ true rfl rfl rfl rfl (List.Mem.head _),
       st_skip 2 5 _ true rfl rfl rfl rfl (List.Mem.head _),
       st_plain rfl (op_pick _ _ false _ rfl rfl),
       st_plain rfl (op_move _ _ _ _ rfl rfl),
       st_run 6 9 false rfl rfl rfl (List.Mem.head _) (op_move _ _ _ _ rfl rfl),
       st_run 6 9 false rfl rfl rfl (List.Mem.head _) (op_bin _ _ _ _ _ rfl rfl rfl),
       st_run 6 9 false rfl rfl rfl (List.Mem.head _) (op_move _ _ _ _ (congrArg (fun b => AV.v (Value.bool b)) hg1_9) rfl),
       st_skip 9 12 _ true rfl rfl rfl rfl (List.Mem.head _),
       st_skip 9 12 _ true rfl rfl rfl rfl (List.Mem.head _),
       st_run 6 9 false rfl rfl rfl (List.Mem.head _) (op_pick _ _ false _ rfl rfl),
       st_plain rfl (op_pick _ _ false _ rfl rfl),
       st_plain rfl (op_move _ _ _ _ rfl rfl),
       st_run 14 17 false rfl rfl rfl (List.Mem.head _) (op_move _ _ _ _ rfl rfl),
       st_run 14 17 false rfl rfl rfl (List.Mem.head _) (op_bin _ _ _ _ _ rfl rfl rfl),
       st_run 14 17 false rfl rfl rfl (List.Mem.head _) (op_move _ _ _ _ (congrArg (fun b => AV.v (Value.bool b)) hg1_17) rfl),
       st_run 17 20 true rfl rfl rfl (List.Mem.head _) (op_move _ _ _ _ rfl rfl),
       st_run 17 20 true rfl rfl rfl (List.Mem.head _) (op_bin _ _ _ _ _ rfl rfl rfl),
       st_run 14 17 false rfl rfl rfl (List.Mem.head _) (op_pick _ _ true _ rfl rfl),
       st_plain rfl (op_pick _ _ false _ rfl rfl),
       st_plain rfl (op_assign _ _ _ _ rfl rfl),
       trivial⟩ ?_
      exact hl3 _ (Option.some.inj h).symm
     ·refine ht_seqR hn (El := (_ :: (3, .v (.int .u8 c)) :: (4, .v (.bool ((decide (48 ≤ c))))) :: (5, .v (.bool false)) :: (6, .v undef) :: (7, .v undef) :: (8, .v (.bool false)) :: (9, .v (.bool false)) :: (10, .v (.int .u8 c)) :: (11, .v (.bool ((decide (65 ≤ c))))) :: (12, .v (.bool false)) :: (13, .v undef) :: (14, .v undef) :: (15, .v (.bool false)) :: (16, .v (.bool false)) :: (17, .v (.bool false)) :: (18, .v (.int .u8 c)) :: (19, .v (.bool ((decide (97 ≤ c))))) :: (20, .v (.bool false)) :: (21, .v undef) :: (22, .v undef) :: (23, .v (.bool false)) :: (24, .v (.bool false)) :: (2, .v (.bool false)) :: [])) (init := [0]) (fin := [23]) (sps := (⟨[0], [], [1], [(.slot 3)]⟩ :: ⟨[1], [], [2], [(.slot 4)]⟩ :: ⟨[2], [], [3], [(.slot 5)]⟩ :: ⟨[3], [], [4], [(.slot 6)]⟩ :: ⟨[3], [], [5], [(.slot 7)]⟩ :: ⟨[3], [], [6], [(.slot 8)]⟩ :: ⟨[6], [], [7], [(.slot 9)]⟩ :: ⟨[7, 0], [], [8], [(.slot 10)]⟩ :: ⟨[7, 8], [], [9], [(.slot 11)]⟩ :: ⟨[7, 9], [], [10], [(.slot 12)]⟩ :: ⟨[10], [], [11], [(.slot 13)]⟩ :: ⟨[10], [], [12], [(.slot 14)]⟩ :: ⟨[7, 10], [], [13], [(.slot 15)]⟩ :: ⟨[7, 13], [], [14], [(.slot 16)]⟩ :: ⟨[14], [], [15], [(.slot 17)]⟩ :: ⟨[15, 0], [], [16], [(.slot 18)]⟩ :: ⟨[15, 16], [], [17], [(.slot 19)]⟩ :: ⟨[15, 17], [], [18], [(.slot 20)]⟩ :: ⟨[18], [], [19], [(.slot 21)]⟩ :: ⟨[18], [], [20], [(.slot 22)]⟩ :: ⟨[15, 18], [], [21], [(.slot 23)]⟩ :: ⟨[15, 21], [], [22], [(.slot 24)]⟩ :: ⟨[22], [], [23], [(.slot 2)]⟩ :: [])) (es' := [(2, .v (.bool false))]) (by kernel_rfl) rfl rfl
       ⟨st_plain rfl (op_move _ _ _ _ rfl rfl),
       st_plain rfl (op_bin _ _ _ _ _ rfl rfl rfl),
       st_plain rfl (op_move _ _ _ _ (congrArg (fun b => AV.v (Value.bool b)) hg1_2) rfl),
       st_skip 2 5 _ true rfl rfl rfl rfl (List.Mem.head _),
       st_skip 2 5 _ true rfl rfl rfl rfl (List.Mem.head _),
       st_plain rfl (op_pick _ _ false _ rfl rfl),
       st_plain rfl (op_move _ _ _ _ rfl rfl),
       st_run 6 9 false rfl rfl rfl (List.Mem.head _) (op_move _ _ _ _ rfl rfl),
       st_run 6 9 false rfl rfl rfl (List.Mem.head _) (op_bin _ _ _ _ _ rfl rfl rfl),
       st_run 6 9 false rfl rfl rfl (List.Mem.head _) (op_move _ _ _ _ (congrArg (fun b => AV.v (Value.bool b)) hg1_9) rfl),
       st_skip 9 12 _ true rfl rfl rfl rfl (List.Mem.head _),
       st_skip 9 12 _ true rfl rfl rfl rfl (List.Mem.head _),
       st_run 6 9 false rfl rfl rfl (List.Mem.head _) (op_pick _ _ false _ rfl rfl),
       st_plain rfl (op_pick _ _ false _ rfl rfl),
       st_plain rfl (op_move _ _ _ _ rfl rfl),
       st_run 14 17 false rfl rfl rfl (List.Mem.head _) (op_move _ _ _ _ rfl rfl),
       st_run 14 17 false rfl rfl rfl (List.Mem.head _) (op_bin _ _ _ _ _ rfl rfl rfl),
       st_run 14 17 false rfl rfl rfl (List.Mem.head _) (op_move _ _ _ _ (congrArg (fun b => AV.v (Value.bool b)) hg1_17) rfl),
       st_skip 17 20 _ true rfl rfl rfl rfl (List.Mem.head _),
       st_skip 17 20 _ true rfl rfl rfl rfl (List.Mem.head _),
       st_run 14 17 false rfl rfl rfl (List.Mem.head _) (op_pick _ _ false _ rfl rfl),
       st_plain rfl (op_pick _ _ false _ rfl rfl),
       st_plain rfl (op_assign _ _ _ _ rfl rfl),
       trivial⟩ ?_
      exact hl3 _ (Option.some.inj h).symm

set_option maxHeartbeats 1000000 in
theorem ok_path_label_1 (c : Int) (r : Bool) (h : Sh.path_label_1 c = some r) : FnOK Tryd.prog 44 [.v (.int .u8 c)] (.v (.bool r)) := by
  unfold Sh.path_label_1 at h
  refine fn_ok Tryd.func44 rfl (Nat.le_of_ble_eq_true rfl) rfl rfl fun g0 hn hio => ?_
  refine ht_seq ?_
  refine ht_seqR hn (El := [_, (2, .v (.bool false))]) (init := [0]) (fin := [0]) (sps := [⟨[], [], [1], [(.slot 2)]⟩]) (es' := [(_, _)]) (by kernel_rfl) rfl rfl
   ⟨st_plain rfl (op_assign _ _ _ _ rfl rfl),
   trivial⟩ ?_
  refine pt_then ?_
  refine ht_seq ?_
  refine ht_joinS h (fun (s2 : Bool) => [(2, .v (.bool s2))]) ?_ ?_
  ·rintro s2 h
   refine pt_then ?_
   refine ht_ret ?_
   obtain rfl := Option.some.inj h
   exact pt_ret hio rfl (.tmp _ _ .nil) rfl rfl
  ·intro u3 h hl4 hr5
   obtain ⟨v1, hv1, h⟩ := bind_some h
   refine cond_some h (fun hg1_2 h => ?_) (fun hg1_2 h => ?_)
   ·refine ht_seqR hn (El := [_, (3, .v (.int .u8 c)), (4, .v (.bool v1)), (5, .v (.bool true)), (6, .v undef), (7, .v undef), (8, .v (.bool true)), (2, .v (.bool true))]) (init := [0]) (fin := [7]) (sps := [⟨[0], [], [1], [(.slot 3)]⟩, ⟨[1], [], [2], [(.slot 4)]⟩, ⟨[2], [], [3], [(.slot 5)]⟩, ⟨[3], [], [4], [(.slot 6)]⟩, ⟨[3], [], [5], [(.slot 7)]⟩, ⟨[3], [], [6], [(.slot 8)]⟩, ⟨[6], [], [7], [(.slot 2)]⟩]) (es' := [(2, .v (.bool true))]) (by kernel_rfl) rfl rfl
     ⟨st_plain rfl (op_move _ _ _ _ rfl rfl),
     st_plain rfl (op_call _ _ 45 _ _ rfl Tryd.call45 rfl (ok_path_alphanumeric c _ hv1) rfl rfl),
     st_plain rfl (op_move _ _ _ _ (congrArg (fun b => AV.v (Value.bool b)) hg1_2) rfl),
     st_skip 2 5 _ false rfl rfl rfl rfl (List.Mem.head _),
     st_skip 2 5 _ false rfl rfl rfl rfl (List.Mem.head _),
     st_plain rfl (op_pick _ _ true _ rfl rfl),
     st_plain rfl (op_assign _ _ _ _ rfl rfl),
     trivial⟩ ?_
    exact hl4 _ (Option.some.inj h).symm
   ·refine ht_seqR hn (El := [_, (3, .v (.int .u8 c)), (4, .v (.bool v1)), (5, .v (.bool false)), (6, .v (.int .u8 c)), (7, .v (.bool (c == 45))), (8, .v (.bool (c == 45))), (2, .v (.bool (c == 45)))]) (init := [0]) (fin := [7]) (sps := [⟨[0], [], [1], [(.slot 3)]⟩, ⟨[1], [], [2], [(.slot 4)]⟩, ⟨[2], [], [3], [(.slot 5)]⟩, ⟨[3, 0], [], [4], [(.slot 6)]⟩, ⟨[3, 4], [], [5], [(.slot 7)]⟩, ⟨[3, 5], [], [6], [(.slot 8)]⟩, ⟨[6], [], [7], [(.slot 2)]⟩]) (es' := [(2, .v (.bool (c == 45)))]) (by kernel_rfl) rfl rfl
     ⟨st_plain rfl (op_move _ _ _ _ rfl rfl),
     st_plain rfl (op_call _ _ 45 _ _ rfl Tryd.call45 rfl (ok_path_alphanumeric c _ hv1) rfl rfl),
     st_plain rfl (op_move _ _ _ _ (congrArg (fun b => AV.v (Value.bool b)) hg1_2) rfl),
     st_run 2 5 false rfl rfl rfl (List.Mem.head _) (op_move _ _ _ _ rfl rfl),
     st_run 2 5 false rfl rfl rfl (List.Mem.head _) (op_bin _ _ _ _ _ rfl rfl rfl),
     st_plain rfl (op_pick _ _ false _ rfl rfl),
     st_plain rfl (op_assign _ _ _ _ rfl rfl),
     trivial⟩ ?_
    exact hl4 _ (Option.some.inj h).symm

set_option maxHeartbeats 1000000 in
theorem ok_path_all_of_path_label_1 (s : ByteArray) (r : Bool) (h : Sh.path_all_of_path_label_1 s = some r) : FnOK Tryd.prog 43 [.v (.string s), .v (.func (.func 44) #[] #[])] (.v (.bool r)) := by
  unfold Sh.path_all_of_path_label_1 at h
  refine fn_ok Tryd.func43 rfl (Nat.le_of_ble_eq_true rfl) rfl rfl fun g0 hn hio => ?_
  refine ht_seq ?_
  refine ht_seqR hn (El := [_, _, (4, .v (.bool false))]) (init := [0, 1]) (fin := [0, 1]) (sps := [⟨[], [], [2], [(.slot 4)]⟩]) (es' := [(_, _), (_, _)]) (by kernel_rfl) rfl rfl
   ⟨st_plain rfl (op_assign _ _ _ _ rfl rfl),
   trivial⟩ ?_
  refine pt_then ?_
  refine ht_seq ?_
  refine ht_seq ?_
  refine ht_seqR hn (El := [_, _, (6, .v (.string s)), (7, .v (.int .i64 (s.size : Int))), (8, .v (.int .i64 0))]) (init := [0, 1]) (fin := [0, 1, 3, 4]) (sps := [⟨[0], [], [2], [(.slot 6)]⟩, ⟨[2], [], [3], [(.slot 7)]⟩, ⟨[], [], [4], [(.slot 8)]⟩]) (es' := [(_, _), (_, _), (7, .v (.int .i64 (s.size : Int))), (8, .v (.int .i64 0))]) (by kernel_rfl) rfl rfl
   ⟨st_plain rfl (op_move _ _ _ _ rfl rfl),
   st_plain rfl (op_len_str _ _ _ Tryd.underlying9 rfl),
   st_plain rfl (op_move _ _ _ _ rfl rfl),
   trivial⟩ ?_
  refine pt_then ?_
  refine ht_loopS h (fun (s9 : Int) => [(0, .v (.string s)), (1, .v (.func (.func 44) #[] #[])), (7, .v (.int .i64 (s.size : Int))), (8, .v (.int .i64 s9))]) (fun (() : Unit) => []) ?_ ?_
  ·rintro ⟨⟩ h
   refine pt_then ?_
   refine ht_seq ?_
   refine ht_seqR hn (El := [(4, .v (.bool true))]) (init := []) (fin := [0]) (sps := [⟨[], [], [0], [(.slot 4)]⟩]) (es' := [(4, .v (.bool true))]) (by kernel_rfl) rfl rfl
    ⟨st_plain rfl (op_assign _ _ _ _ rfl rfl),
    trivial⟩ ?_
   refine pt_then ?_
   refine ht_ret ?_
   obtain rfl := Option.some.inj h
   exact pt_ret hio rfl (.tmp _ _ .nil) rfl rfl
  ·rintro u12 hl13 hr14 s9 rr17 h ho15
   refine ht_seq ?_
   refine ht_seqR hn (El := [_, _, _, _, (9, .v (.bool ((decide (s9 < (s.size : Int))))))]) (init := [0, 1, 2, 3]) (fin := [0, 1, 2, 3, 4]) (sps := [⟨[3, 2], [], [4], [(.slot 9)]⟩]) (es' := [(_, _), (_, _), (_, _), (_, _), (9, .v (.bool ((decide (s9 < (s.size : Int))))))]) (by kernel_rfl) rfl rfl
    ⟨st_plain rfl (op_bin _ _ _ _ _ rfl rfl rfl),
    trivial⟩ ?_
   refine pt_then ?_
   refine ht_seq ?_
   refine ht_cond _ rfl (fun hb18 => ?_) (fun hb18 => ?_)
   ·have h := cond_t hb18 h
    refine ht_skip ?_
    refine pt_then ?_
    refine ht_seq ?_
    refine ht_block ?_
    refine ht_seq ?_
    refine ht_seqR hn (El := [_, _, _, _, _, (10, .v (.int .i64 s9)), (5, .v (.int .i64 s9))]) (init := [0, 1, 2, 3, 4]) (fin := [0, 1, 2, 3, 6]) (sps := [⟨[3], [], [5], [(.slot 10)]⟩, ⟨[5], [], [6], [(.slot 5)]⟩]) (es' := [(_, _), (_, _), (_, _), (_, _), (5, .v (.int .i64 s9))]) (by kernel_rfl) rfl rfl
     ⟨st_plain rfl (op_move _ _ _ _ rfl rfl),
     st_plain rfl (op_assign _ _ _ _ rfl rfl),
     trivial⟩ ?_
    refine pt_then ?_
    refine ht_seq ?_
    obtain ⟨v2, hv2, h⟩ := bind_some h
    obtain ⟨v3, hv3, h⟩ := bind_some h
    refine ht_seqR hn (El := [_, _, _, _, _, (11, .v (.func (.func 44) #[] #[])), (12, .v (.string s)), (13, .v (.int .i64 s9)), (14, .v (.int .u8 v2)), (15, .v (.bool v3)), (16, .v (.bool (!v3)))]) (init := [0, 1, 2, 3, 4]) (fin := [0, 1, 2, 3, 10]) (sps := [⟨[1], [], [5], [(.slot 11)]⟩, ⟨[0], [], [6], [(.slot 12)]⟩, ⟨[4], [], [7], [(.slot 13)]⟩, ⟨[6, 7], [], [8], [(.slot 14)]⟩, ⟨[8, 5], [], [9], [(.slot 15)]⟩, ⟨[9], [], [10], [(.slot 16)]⟩]) (es' := [(_, _), (_, _), (_, _), (_, _), (16, .v (.bool (!v3)))]) (by kernel_rfl) rfl rfl
     ⟨st_plain rfl (op_move _ _ _ _ rfl rfl),
     st_plain rfl (op_move _ _ _ _ rfl rfl),
     st_plain rfl (op_move _ _ _ _ rfl rfl),
     st_plain rfl (op_chr _ _ _ s9 _ Tryd.underlying9 rfl rfl hv2),
     st_plain rfl (op_call _ _ 44 _ _ rfl Tryd.call44 rfl (ok_path_label_1 v2 _ hv3) rfl rfl),
     st_plain rfl (op_un _ _ _ _ rfl rfl),
     trivial⟩ ?_
    refine pt_then ?_
    refine ht_cond _ rfl (fun hb19 => ?_) (fun hb19 => ?_)
    ·have h := cond_t hb19 h
     refine ht_seq ?_
     refine ht_seqR hn (El := [_, _, _, _, _, (4, .v (.bool false))]) (init := [0, 1, 2, 3, 4]) (fin := [5]) (sps := [⟨[], [], [5], [(.slot 4)]⟩]) (es' := [(4, .v (.bool false))]) (by kernel_rfl) rfl rfl
      ⟨st_plain rfl (op_assign _ _ _ _ rfl rfl),
      trivial⟩ ?_
     refine pt_then ?_
     refine ht_ret ?_
     refine pt_r_in ?_
     refine pt_r_then ?_
     refine pt_r_then ?_
     refine pt_r_in ?_
     refine pt_r_then ?_
     have h := hr14 _ (ho15 _ (Option.some.inj h).symm).symm
     obtain rfl := Option.some.inj h
     exact pt_ret hio rfl (.tmp _ _ .nil) rfl rfl
    ·have h := cond_f hb19 h
     refine ht_skip ?_
     refine pt_inb ?_
     refine pt_then ?_
     obtain ⟨v5, hv5, h⟩ := bind_some h
     refine ht_seqR hn (El := [_, _, _, _, _, (17, .v (.int .i64 v5)), (8, .v (.int .i64 v5))]) (init := [0, 1, 2, 3, 4]) (fin := [0, 1, 2, 6]) (sps := [⟨[3], [], [5], [(.slot 17)]⟩, ⟨[5], [3], [6], [(.slot 8)]⟩]) (es' := [(_, _), (_, _), (_, _), (8, .v (.int .i64 v5))]) (by kernel_rfl) rfl rfl
      ⟨st_plain rfl (op_bin _ _ _ _ _ rfl rfl (ibind (f := Value.int .i64) (Option.some.inj hv5))),
      st_plain rfl (LOp.drop [_] (op_move _ _ _ _ rfl rfl)),
      trivial⟩ ?_
     exact pt_next _ (Option.some.inj h).symm rfl
   ·have h := cond_f hb18 h
    refine ht_exit ?_
    refine pt_x_then ?_
    refine pt_x_then ?_
    refine pt_x_in ?_
    refine pt_pick [] (by kernel_rfl) (es' := []) rfl ?_
    exact hl13 _ (ho15 _ (Option.some.inj h).symm).symm

set_option maxHeartbeats 1000000 in
theorem ok_path_label (s : ByteArray) (r : Bool) (h : Sh.path_label s = some r) : FnOK Tryd.prog 33 [.v (.string s)] (.v (.bool r)) := by
  unfold Sh.path_label at h
  refine fn_ok Tryd.func33 rfl (Nat.le_of_ble_eq_true rfl) rfl rfl fun g0 hn hio => ?_
  refine ht_seq ?_
  refine ht_seqR hn (El := [_, (2, .v (.bool false))]) (init := [0]) (fin := [0]) (sps := [⟨[], [], [1], [(.slot 2)]⟩]) (es' := [(_, _)]) (by kernel_rfl) rfl rfl
   ⟨st_plain rfl (op_assign _ _ _ _ rfl rfl),
   trivial⟩ ?_
  refine pt_then ?_
  refine ht_seq ?_
  refine ht_joinS h (fun (s5 : Bool) => [(2, .v (.bool s5))]) ?_ ?_
  ·rintro s5 h
   refine pt_then ?_
   refine ht_ret ?_
   obtain rfl := Option.some.inj h
   exact pt_ret hio rfl (.tmp _ _ .nil) rfl rfl
  ·intro u6 h hl7 hr8
   refine cond_some h (fun hg1_2 h => ?_) (fun hg1_2 h => ?_)
   ·refine cond_some h (fun hg1_7 h => ?_) (fun hg1_7 h => ?_)
    ·obtain ⟨v1, hv1, h⟩ := bind_some h
     refine cond_some h (fun hg1_12 h => ?_) (fun hg1_12 h => ?_)
     ·obtain ⟨v2, hv2, h⟩ := bind_some h
      obtain ⟨v3, hv3, h⟩ := bind_some h
      refine cond_some h (fun hg1_20 h => ?_) (fun hg1_20 h => ?_)
      ·obtain ⟨v4, hv4, h⟩ := bind_some h
       refine ht_seqR hn (El := (_ :: (3, .v (.string s)) :: (4, .v (.bool ((!(s.toList == (⟨#[]⟩ : ByteArray).toList))))) :: (5, .v (.bool true)) :: (6, .v (.string s)) :: (7, .v (.int .i64 (s.size : Int))) :: (8, .v (.bool ((decide ((s.size : Int) ≤ 63))))) :: (9, .v (.bool ((decide ((s.size : Int) ≤ 63))))) :: (10, .v (.bool true)) :: (11, .v (.string s)) :: (12, .v (.int .u8 v1)) :: (13, .v (.bool (v1 != 45))) :: (14, .v (.bool (v1 != 45))) :: (15, .v (.bool true)) :: (16, .v (.string s)) :: (17, .v (.string s)) :: (18, .v (.int .i64 (s.size : Int))) :: (19, .v (.int .i64 v2)) :: (20, .v (.int .u8 v3)) :: (21, .v (.bool (v3 != 45))) :: (22, .v (.bool (v3 != 45))) :: (23, .v (.bool true)) :: (24, .v (.string s)) :: (25, .v (.bool v4)) :: (26, .v (.bool v4)) :: (2, .v (.bool v4)) :: [])) (init := [0]) (fin := [25]) (sps := (⟨[0], [], [1], [(.slot 3)]⟩ :: ⟨[1], [], [2], [(.slot 4)]⟩ :: ⟨[2], [], [3], [(.slot 5)]⟩ :: ⟨[3, 0], [], [4], [(.slot 6)]⟩ :: ⟨[3, 4], [], [5], [(.slot 7)]⟩ :: ⟨[3, 5], [], [6], [(.slot 8)]⟩ :: ⟨[3, 6], [], [7], [(.slot 9)]⟩ :: ⟨[7], [], [8], [(.slot 10)]⟩ :: ⟨[8, 0], [], [9], [(.slot 11)]⟩ :: ⟨[8, 9], [], [10], [(.slot 12)]⟩ :: ⟨[8, 10], [], [11], [(.slot 13)]⟩ :: ⟨[8, 11], [], [12], [(.slot 14)]⟩ :: ⟨[12], [], [13], [(.slot 15)]⟩ :: ⟨[13, 0], [], [14], [(.slot 16)]⟩ :: ⟨[13, 0], [], [15], [(.slot 17)]⟩ :: ⟨[13, 15], [], [16], [(.slot 18)]⟩ :: ⟨[13, 16], [], [17], [(.slot 19)]⟩ :: ⟨[13, 14, 17], [], [18], [(.slot 20)]⟩ :: ⟨[13, 18], [], [19], [(.slot 21)]⟩ :: ⟨[13, 19], [], [20], [(.slot 22)]⟩ :: ⟨[20], [], [21], [(.slot 23)]⟩ :: ⟨[21, 0], [], [22], [(.slot 24)]⟩ :: ⟨[21, 22], [], [23], [(.slot 25)]⟩ :: ⟨[21, 23], [], [24], [(.slot 26)]⟩ :: ⟨[24], [], [25], [(.slot 2)]⟩ :: [])) (es' := [(2, .v (.bool v4))]) (by kernel_rfl) rfl rfl
        ⟨st_plain rfl (op_move _ _ _ _ rfl rfl),
        st_plain rfl (op_bin _ _ _ _ _ rfl rfl rfl),
        st_plain rfl (op_move _ _ _ _ (congrArg (fun b => AV.v (Value.bool b)) hg1_2) rfl),
        st_run 2 5 true rfl rfl rfl (List.Mem.head _) (op_move _ _ _ _ rfl rfl),
        st_run 2 5 true rfl rfl rfl (List.Mem.head _) (op_len_str _ _ _ Tryd.underlying9 rfl),
        st_run 2 5 true rfl rfl rfl (List.Mem.head _) (op_bin _ _ _ _ _ rfl rfl rfl),
        st_plain rfl (op_pick _ _ true _ rfl rfl),
        st_plain rfl (op_move _ _ _ _ (congrArg (fun b => AV.v (Value.bool b)) hg1_7) rfl),
        st_run 7 10 true rfl rfl rfl (List.Mem.head _) (op_move _ _ _ _ rfl rfl),
        st_run 7 10 true rfl rfl rfl (List.Mem.head _) (op_chr _ _ _ 0 _ Tryd.underlying9 rfl rfl hv1),
        st_run 7 10 true rfl rfl rfl (List.Mem.head _) (op_bin _ _ _ _ _ rfl rfl rfl),
        st_plain rfl (op_pick _ _ true _ rfl rfl),
        st_plain rfl (op_move _ _ _ _ (congrArg (fun b => AV.v (Value.bool b)) hg1_12) rfl),
        st_run 12 15 true rfl rfl rfl (List.Mem.head _) (op_move _ _ _ _ rfl rfl),
        st_run 12 15 true rfl rfl rfl (List.Mem.head _) (op_move _ _ _ _ rfl rfl),
        st_run 12 15 true rfl rfl rfl (List.Mem.head _) (op_len_str _ _ _ Tryd.underlying9 rfl),
        st_run 12 15 true rfl rfl rfl (List.Mem.head _) (op_bin _ _ _ _ _ rfl rfl (ibind (f := Value.int .i64) (Option.some.inj hv2))),
        st_run 12 15 true rfl rfl rfl (List.Mem.head _) (op_chr _ _ _ v2 _ Tryd.underlying9 rfl rfl hv3),
        st_run 12 15 true rfl rfl rfl (List.Mem.head _) (op_bin _ _ _ _ _ rfl rfl rfl),
        st_plain rfl (op_pick _ _ true _ rfl rfl),
        st_plain rfl (op_move _ _ _ _ (congrArg (fun b => AV.v (Value.bool b)) hg1_20) rfl),
        st_run 20 23 true rfl rfl rfl (List.Mem.head _) (op_move _ _ _ _ rfl rfl),
        st_run 20 23 true rfl rfl rfl (List.Mem.head _) (op_call _ _ 43 _ _ rfl Tryd.call43 rfl (ok_path_all_of_path_label_1 s _ hv4) rfl rfl),
        st_plain rfl (op_pick _ _ true _ rfl rfl),
        st_plain rfl (op_assign _ _ _ _ rfl rfl),
        trivial⟩ ?_
       exact hl7 _ (Option.some.inj h).symm
      ·refine ht_seqR hn (El := (_ :: (3, .v (.string s)) :: (4, .v (.bool ((!(s.toList == (⟨#[]⟩ : ByteArray).toList))))) :: (5, .v (.bool true)) :: (6, .v (.string s)) :: (7, .v (.int .i64 (s.size : Int))) :: (8, .v (.bool ((decide ((s.size : Int) ≤ 63))))) :: (9, .v (.bool ((decide ((s.size : Int) ≤ 63))))) :: (10, .v (.bool true)) :: (11, .v (.string s)) :: (12, .v (.int .u8 v1)) :: (13, .v (.bool (v1 != 45))) :: (14, .v (.bool (v1 != 45))) :: (15, .v (.bool true)) :: (16, .v (.string s)) :: (17, .v (.string s)) :: (18, .v (.int .i64 (s.size : Int))) :: (19, .v (.int .i64 v2)) :: (20, .v (.int .u8 v3)) :: (21, .v (.bool (v3 != 45))) :: (22, .v (.bool (v3 != 45))) :: (23, .v (.bool false)) :: (24, .v undef) :: (25, .v undef) :: (26, .v (.bool false)) :: (2, .v (.bool false)) :: [])) (init := [0]) (fin := [25]) (sps := (⟨[0], [], [1], [(.slot 3)]⟩ :: ⟨[1], [], [2], [(.slot 4)]⟩ :: ⟨[2], [], [3], [(.slot 5)]⟩ :: ⟨[3, 0], [], [4], [(.slot 6)]⟩ :: ⟨[3, 4], [], [5], [(.slot 7)]⟩ :: ⟨[3, 5], [], [6], [(.slot 8)]⟩ :: ⟨[3, 6], [], [7], [(.slot 9)]⟩ :: ⟨[7], [], [8], [(.slot 10)]⟩ :: ⟨[8, 0], [], [9], [(.slot 11)]⟩ :: ⟨[8, 9], [], [10], [(.slot 12)]⟩ :: ⟨[8, 10], [], [11], [(.slot 13)]⟩ :: ⟨[8, 11], [], [12], [(.slot 14)]⟩ :: ⟨[12], [], [13], [(.slot 15)]⟩ :: ⟨[13, 0], [], [14], [(.slot 16)]⟩ :: ⟨[13, 0], [], [15], [(.slot 17)]⟩ :: ⟨[13, 15], [], [16], [(.slot 18)]⟩ :: ⟨[13, 16], [], [17], [(.slot 19)]⟩ :: ⟨[13, 14, 17], [], [18], [(.slot 20)]⟩ :: ⟨[13, 18], [], [19], [(.slot 21)]⟩ :: ⟨[13, 19], [], [20], [(.slot 22)]⟩ :: ⟨[20], [], [21], [(.slot 23)]⟩ :: ⟨[21], [], [22], [(.slot 24)]⟩ :: ⟨[21], [], [23], [(.slot 25)]⟩ :: ⟨[21], [], [24], [(.slot 26)]⟩ :: ⟨[24], [], [25], [(.slot 2)]⟩ :: [])) (es' := [(2, .v (.bool false))]) (by kernel_rfl) rfl rfl
        ⟨st_plain rfl (op_move _ _ _ _ rfl rfl),
        st_plain rfl (op_bin _ _ _ _ _ rfl rfl rfl),
        st_plain rfl (op_move _ _ _ _ (congrArg (fun b => AV.v (Value.bool b)) hg1_2) rfl),
        st_run 2 5 true rfl rfl rfl (List.Mem.head _) (op_move _ _ _ _ rfl rfl),
        st_run 2 5 true rfl rfl rfl (List.Mem.head _) (op_len_str _ _ _ Tryd.underlying9 rfl),
        st_run 2 5 true rfl rfl rfl (List.Mem.head _) (op_bin _ _ _ _ _ rfl rfl rfl),
        st_plain rfl (op_pick _ _ true _ rfl rfl),
        st_plain rfl (op_move _ _ _ _ (congrArg (fun b => AV.v (Value.bool b)) hg1_7) rfl),
        st_run 7 10 true rfl rfl rfl (List.Mem.head _) (op_move _ _ _ _ rfl rfl),
        st_run 7 10 true rfl rfl rfl (List.Mem.head _) (op_chr _ _ _ 0 _ Tryd.underlying9 rfl rfl hv1),
        st_run 7 10 true rfl rfl rfl (List.Mem.head _) (op_bin _ _ _ _ _ rfl rfl rfl),
        st_plain rfl (op_pick _ _ true _ rfl rfl),
        st_plain rfl (op_move _ _ _ _ (congrArg (fun b => AV.v (Value.bool b)) hg1_12) rfl),
        st_run 12 15 true rfl rfl rfl (List.Mem.head _) (op_move _ _ _ _ rfl rfl),
        st_run 12 15 true rfl rfl rfl (List.Mem.head _) (op_move _ _ _ _ rfl rfl),
        st_run 12 15 true rfl rfl rfl (List.Mem.head _) (op_len_str _ _ _ Tryd.underlying9 rfl),
        st_run 12 15 true rfl rfl rfl (List.Mem.head _) (op_bin _ _ _ _ _ rfl rfl (ibind (f := Value.int .i64) (Option.some.inj hv2))),
        st_run 12 15 true rfl rfl rfl (List.Mem.head _) (op_chr _ _ _ v2 _ Tryd.underlying9 rfl rfl hv3),
        st_run 12 15 true rfl rfl rfl (List.Mem.head _) (op_bin _ _ _ _ _ rfl rfl rfl),
        st_plain rfl (op_pick _ _ true _ rfl rfl),
        st_plain rfl (op_move _ _ _ _ (congrArg (fun b => AV.v (Value.bool b)) hg1_20) rfl),
        st_skip 20 23 _ true rfl rfl rfl rfl (List.Mem.head _),
        st_skip 20 23 _ true rfl rfl rfl rfl (List.Mem.head _),
        st_plain rfl (op_pick _ _ false _ rfl rfl),
        st_plain rfl (op_assign _ _ _ _ rfl rfl),
        trivial⟩ ?_
       exact hl7 _ (Option.some.inj h).symm
     ·refine ht_seqR hn (El := (_ :: (3, .v (.string s)) :: (4, .v (.bool ((!(s.toList == (⟨#[]⟩ : ByteArray).toList))))) :: (5, .v (.bool true)) :: (6, .v (.string s)) :: (7, .v (.int .i64 (s.size : Int))) :: (8, .v (.bool ((decide ((s.size : Int) ≤ 63))))) :: (9, .v (.bool ((decide ((s.size : Int) ≤ 63))))) :: (10, .v (.bool true)) :: (11, .v (.string s)) :: (12, .v (.int .u8 v1)) :: (13, .v (.bool (v1 != 45))) :: (14, .v (.bool (v1 != 45))) :: (15, .v (.bool false)) :: (16, .v undef) :: (17, .v undef) :: (18, .v undef) :: (19, .v undef) :: (20, .v undef) :: (21, .v undef) :: (22, .v (.bool false)) :: (23, .v (.bool false)) :: (24, .v undef) :: (25, .v undef) :: (26, .v (.bool false)) :: (2, .v (.bool false)) :: [])) (init := [0]) (fin := [25]) (sps := (⟨[0], [], [1], [(.slot 3)]⟩ :: ⟨[1], [], [2], [(.slot 4)]⟩ :: ⟨[2], [], [3], [(.slot 5)]⟩ :: ⟨[3, 0], [], [4], [(.slot 6)]⟩ :: ⟨[3, 4], [], [5], [(.slot 7)]⟩ :: ⟨[3, 5], [], [6], [(.slot 8)]⟩ :: ⟨[3, 6], [], [7], [(.slot 9)]⟩ :: ⟨[7], [], [8], [(.slot 10)]⟩ :: ⟨[8, 0], [], [9], [(.slot 11)]⟩ :: ⟨[8, 9], [], [10], [(.slot 12)]⟩ :: ⟨[8, 10], [], [11], [(.slot 13)]⟩ :: ⟨[8, 11], [], [12], [(.slot 14)]⟩ :: ⟨[12], [], [13], [(.slot 15)]⟩ :: ⟨[13], [], [14], [(.slot 16)]⟩ :: ⟨[13], [], [15], [(.slot 17)]⟩ :: ⟨[13], [], [16], [(.slot 18)]⟩ :: ⟨[13], [], [17], [(.slot 19)]⟩ :: ⟨[13], [], [18], [(.slot 20)]⟩ :: ⟨[13], [], [19], [(.slot 21)]⟩ :: ⟨[13], [], [20], [(.slot 22)]⟩ :: ⟨[20], [], [21], [(.slot 23)]⟩ :: ⟨[21], [], [22], [(.slot 24)]⟩ :: ⟨[21], [], [23], [(.slot 25)]⟩ :: ⟨[21], [], [24], [(.slot 26)]⟩ :: ⟨[24], [], [25], [(.slot 2)]⟩ :: [])) (es' := [(2, .v (.bool false))]) (by kernel_rfl) rfl rfl
       ⟨st_plain rfl (op_move _ _ _ _ rfl rfl),
       st_plain rfl (op_bin _ _ _ _ _ rfl rfl rfl),
       st_plain rfl (op_move _ _ _ _ (congrArg (fun b => AV.v (Value.bool b)) hg1_2) rfl),
       st_run 2 5 true rfl rfl rfl (List.Mem.head _) (op_move _ _ _ _ rfl rfl),
       st_run 2 5 true rfl rfl rfl (List.Mem.head _) (op_len_str _ _ _ Tryd.underlying9 rfl),
       st_run 2 5 true rfl rfl rfl (List.Mem.head _) (op_bin _ _ _ _ _ rfl rfl rfl),
       st_plain rfl (op_pick _ _ true _ rfl rfl),
       st_plain rfl (op_move _ _ _ _ (congrArg (fun b => AV.v (Value.bool b)) hg1_7) rfl),
       st_run 7 10 true rfl rfl rfl (List.Mem.head _) (op_move _ _ _ _ rfl rfl),
       st_run 7 10 true rfl rfl rfl (List.Mem.head _) (op_chr _ _ _ 0 _ Tryd.underlying9 rfl rfl hv1),
       st_run 7 10 true rfl rfl rfl (List.Mem.head _) (op_bin _ _ _ _ _ rfl rfl rfl),
       st_plain rfl (op_pick _ _ true _ rfl rfl),
       st_plain rfl (op_move _ _ _ _ (congrArg (fun b => AV.v (Value.bool b)) hg1_12) rfl),
       st_skip 12 15 _ true rfl rfl rfl rfl (List.Mem.head _),
       st_skip 12 15 _ true rfl rfl rfl rfl (List.Mem.head _),
       st_skip 12 15 _ true rfl rfl rfl rfl (List.Mem.head _),
       st_skip 12 15 _ true rfl rfl rfl rfl (List.Mem.head _),
       st_skip 12 15 _ true rfl rfl rfl rfl (List.Mem.head _),
       st_skip 12 15 _ true rfl rfl rfl rfl (List.Mem.head _),
       st_plain rfl (op_pick _ _ false _ rfl rfl),
       st_plain rfl (op_move _ _ _ _ rfl rfl),
       st_skip 20 23 _ true rfl rfl rfl rfl (List.Mem.head _),
       st_skip 20 23 _ true rfl rfl rfl rfl (List.Mem.head _),
       st_plain rfl (op_pick _ _ false _ rfl rfl),
       st_plain rfl (op_assign _ _ _ _ rfl rfl),
       trivial⟩ ?_
      exact hl7 _ (Option.some.inj h).symm
    ·refine ht_seqR hn (El := (_ :: (3, .v (.string s)) :: (4, .v (.bool ((!(s.toList == (⟨#[]⟩ : ByteArray).toList))))) :: (5, .v (.bool true)) :: (6, .v (.string s)) :: (7, .v (.int .i64 (s.size : Int))) :: (8, .v (.bool ((decide ((s.size : Int) ≤ 63))))) :: (9, .v (.bool ((decide ((s.size : Int) ≤ 63))))) :: (10, .v (.bool false)) :: (11, .v undef) :: (12, .v undef) :: (13, .v undef) :: (14, .v (.bool false)) :: (15, .v (.bool false)) :: (16, .v undef) :: (17, .v undef) :: (18, .v undef) :: (19, .v undef) :: (20, .v undef) :: (21, .v undef) :: (22, .v (.bool false)) :: (23, .v (.bool false)) :: (24, .v undef) :: (25, .v undef) :: (26, .v (.bool false)) :: (2, .v (.bool false)) :: [])) (init := [0]) (fin := [25]) (sps := (⟨[0], [], [1], [(.slot 3)]⟩ :: ⟨[1], [], [2], [(.slot 4)]⟩ :: ⟨[2], [], [3], [(.slot 5)]⟩ :: ⟨[3, 0], [], [4], [(.slot 6)]⟩ :: ⟨[3, 4], [], [5], [(.slot 7)]⟩ :: ⟨[3, 5], [], [6], [(.slot 8)]⟩ :: ⟨[3, 6], [], [7], [(.slot 9)]⟩ :: ⟨[7], [], [8], [(.slot 10)]⟩ :: ⟨[8], [], [9], [(.slot 11)]⟩ :: ⟨[8], [], [10], [(.slot 12)]⟩ :: ⟨[8], [], [11], [(.slot 13)]⟩ :: ⟨[8], [], [12], [(.slot 14)]⟩ :: ⟨[12], [], [13], [(.slot 15)]⟩ :: ⟨[13], [], [14], [(.slot 16)]⟩ :: ⟨[13], [], [15], [(.slot 17)]⟩ :: ⟨[13], [], [16], [(.slot 18)]⟩ :: ⟨[13], [], [17], [(.slot 19)]⟩ :: ⟨[13], [], [18], [(.slot 20)]⟩ :: ⟨[13], [], [19], [(.slot 21)]⟩ :: ⟨[13], [], [20], [(.slot 22)]⟩ :: ⟨[20], [], [21], [(.slot 23)]⟩ :: ⟨[21], [], [22], [(.slot 24)]⟩ :: ⟨[21], [], [23], [(.slot 25)]⟩ :: ⟨[21], [], [24], [(.slot 26)]⟩ :: ⟨[24], [], [25], [(.slot 2)]⟩ :: [])) (es' := [(2, .v (.bool false))]) (by kernel_rfl) rfl rfl
      ⟨st_plain rfl (op_move _ _ _ _ rfl rfl),
      st_plain rfl (op_bin _ _ _ _ _ rfl rfl rfl),
      st_plain rfl (op_move _ _ _ _ (congrArg (fun b => AV.v (Value.bool b)) hg1_2) rfl),
      st_run 2 5 true rfl rfl rfl (List.Mem.head _) (op_move _ _ _ _ rfl rfl),
      st_run 2 5 true rfl rfl rfl (List.Mem.head _) (op_len_str _ _ _ Tryd.underlying9 rfl),
      st_run 2 5 true rfl rfl rfl (List.Mem.head _) (op_bin _ _ _ _ _ rfl rfl rfl),
      st_plain rfl (op_pick _ _ true _ rfl rfl),
      st_plain rfl (op_move _ _ _ _ (congrArg (fun b => AV.v (Value.bool b)) hg1_7) rfl),
      st_skip 7 10 _ true rfl rfl rfl rfl (List.Mem.head _),
      st_skip 7 10 _ true rfl rfl rfl rfl (List.Mem.head _),
      st_skip 7 10 _ true rfl rfl rfl rfl (List.Mem.head _),
      st_plain rfl (op_pick _ _ false _ rfl rfl),
      st_plain rfl (op_move _ _ _ _ rfl rfl),
      st_skip 12 15 _ true rfl rfl rfl rfl (List.Mem.head _),
      st_skip 12 15 _ true rfl rfl rfl rfl (List.Mem.head _),
      st_skip 12 15 _ true rfl rfl rfl rfl (List.Mem.head _),
      st_skip 12 15 _ true rfl rfl rfl rfl (List.Mem.head _),
      st_skip 12 15 _ true rfl rfl rfl rfl (List.Mem.head _),
      st_skip 12 15 _ true rfl rfl rfl rfl (List.Mem.head _),
      st_plain rfl (op_pick _ _ false _ rfl rfl),
      st_plain rfl (op_move _ _ _ _ rfl rfl),
      st_skip 20 23 _ true rfl rfl rfl rfl (List.Mem.head _),
      st_skip 20 23 _ true rfl rfl rfl rfl (List.Mem.head _),
      st_plain rfl (op_pick _ _ false _ rfl rfl),
      st_plain rfl (op_assign _ _ _ _ rfl rfl),
      trivial⟩ ?_
     exact hl7 _ (Option.some.inj h).symm
   ·refine ht_seqR hn (El := (_ :: (3, .v (.string s)) :: (4, .v (.bool ((!(s.toList == (⟨#[]⟩ : ByteArray).toList))))) :: (5, .v (.bool false)) :: (6, .v undef) :: (7, .v undef) :: (8, .v undef) :: (9, .v (.bool false)) :: (10, .v (.bool false)) :: (11, .v undef) :: (12, .v undef) :: (13, .v undef) :: (14, .v (.bool false)) :: (15, .v (.bool false)) :: (16, .v undef) :: (17, .v undef) :: (18, .v undef) :: (19, .v undef) :: (20, .v undef) :: (21, .v undef) :: (22, .v (.bool false)) :: (23, .v (.bool false)) :: (24, .v undef) :: (25, .v undef) :: (26, .v (.bool false)) :: (2, .v (.bool false)) :: [])) (init := [0]) (fin := [25]) (sps := (⟨[0], [], [1], [(.slot 3)]⟩ :: ⟨[1], [], [2], [(.slot 4)]⟩ :: ⟨[2], [], [3], [(.slot 5)]⟩ :: ⟨[3], [], [4], [(.slot 6)]⟩ :: ⟨[3], [], [5], [(.slot 7)]⟩ :: ⟨[3], [], [6], [(.slot 8)]⟩ :: ⟨[3], [], [7], [(.slot 9)]⟩ :: ⟨[7], [], [8], [(.slot 10)]⟩ :: ⟨[8], [], [9], [(.slot 11)]⟩ :: ⟨[8], [], [10], [(.slot 12)]⟩ :: ⟨[8], [], [11], [(.slot 13)]⟩ :: ⟨[8], [], [12], [(.slot 14)]⟩ :: ⟨[12], [], [13], [(.slot 15)]⟩ :: ⟨[13], [], [14], [(.slot 16)]⟩ :: ⟨[13], [], [15], [(.slot 17)]⟩ :: ⟨[13], [], [16], [(.slot 18)]⟩ :: ⟨[13], [], [17], [(.slot 19)]⟩ :: ⟨[13], [], [18], [(.slot 20)]⟩ :: ⟨[13], [], [19], [(.slot 21)]⟩ :: ⟨[13], [], [20], [(.slot 22)]⟩ :: ⟨[20], [], [21], [(.slot 23)]⟩ :: ⟨[21], [], [22], [(.slot 24)]⟩ :: ⟨[21], [], [23], [(.slot 25)]⟩ :: ⟨[21], [], [24], [(.slot 26)]⟩ :: ⟨[24], [], [25], [(.slot 2)]⟩ :: [])) (es' := [(2, .v (.bool false))]) (by kernel_rfl) rfl rfl
     ⟨st_plain rfl (op_move _ _ _ _ rfl rfl),
     st_plain rfl (op_bin _ _ _ _ _ rfl rfl rfl),
     st_plain rfl (op_move _ _ _ _ (congrArg (fun b => AV.v (Value.bool b)) hg1_2) rfl),
     st_skip 2 5 _ true rfl rfl rfl rfl (List.Mem.head _),
     st_skip 2 5 _ true rfl rfl rfl rfl (List.Mem.head _),
     st_skip 2 5 _ true rfl rfl rfl rfl (List.Mem.head _),
     st_plain rfl (op_pick _ _ false _ rfl rfl),
     st_plain rfl (op_move _ _ _ _ rfl rfl),
     st_skip 7 10 _ true rfl rfl rfl rfl (List.Mem.head _),
     st_skip 7 10 _ true rfl rfl rfl rfl (List.Mem.head _),
     st_skip 7 10 _ true rfl rfl rfl rfl (List.Mem.head _),
     st_plain rfl (op_pick _ _ false _ rfl rfl),
     st_plain rfl (op_move _ _ _ _ rfl rfl),
     st_skip 12 15 _ true rfl rfl rfl rfl (List.Mem.head _),
     st_skip 12 15 _ true rfl rfl rfl rfl (List.Mem.head _),
     st_skip 12 15 _ true rfl rfl rfl rfl (List.Mem.head _),
     st_skip 12 15 _ true rfl rfl rfl rfl (List.Mem.head _),
     st_skip 12 15 _ true rfl rfl rfl rfl (List.Mem.head _),
     st_skip 12 15 _ true rfl rfl rfl rfl (List.Mem.head _),
     st_plain rfl (op_pick _ _ false _ rfl rfl),
     st_plain rfl (op_move _ _ _ _ rfl rfl),
     st_skip 20 23 _ true rfl rfl rfl rfl (List.Mem.head _),
     st_skip 20 23 _ true rfl rfl rfl rfl (List.Mem.head _),
     st_plain rfl (op_pick _ _ false _ rfl rfl),
     st_plain rfl (op_assign _ _ _ _ rfl rfl),
     trivial⟩ ?_
    exact hl7 _ (Option.some.inj h).symm

set_option maxHeartbeats 1000000 in
theorem ok_path_dotted_of_path_label (mx : Int) (s : ByteArray) (r : Bool) (h : Sh.path_dotted_of_path_label s = some r) : FnG Tryd.prog (GL mx) 32 [.v (.string s), .v (.func (.func 33) #[] #[])] (.v (.bool r)) := by
  unfold Sh.path_dotted_of_path_label at h
  refine fn_okG Tryd.func32 rfl (Nat.le_of_ble_eq_true rfl) rfl rfl fun g0 hn hio => ?_
  refine ht_seq ?_
  refine ht_seqR hn (El := [_, _, _, (3, .box 33 [.v (.func (.func 33) #[] #[])]), (4, .box 4 [.v (.bool false)])]) (init := [0, 1, 2]) (fin := [0, 2, 3, 4]) (sps := [⟨[1], [], [3], [(.slot 3)]⟩, ⟨[], [], [4], [(.slot 4)]⟩]) (es' := [(_, _), (_, _), (3, .box 33 [.v (.func (.func 33) #[] #[])]), (4, .box 4 [.v (.bool false)])]) (by kernel_rfl) rfl rfl
   ⟨st_plain rfl (op_box _ _ _ _ rfl rfl rfl),
   st_plain rfl (op_alloc _ _ zr4),
   trivial⟩ ?_
  refine pt_then ?_
  refine ht_seq ?_
  refine ht_seq ?_
  obtain ⟨v1, hv1, h⟩ := bind_some h
  refine ht_seqR hn (El := [_, _, _, _, (6, .v (.string s)), (7, .cloB 56 [.box 9 [.v (.string v1.1)], .box 9 [.v (.string v1.2.1)], .box 3 [.v (.int .i64 v1.2.2)]])]) (init := [0, 1, 2, 3]) (fin := [1, 2, 3, 5]) (sps := [⟨[0], [], [4], [(.slot 6)]⟩, ⟨[4], [], [5], [(.slot 7)]⟩]) (es' := [(_, _), (_, _), (_, _), (7, .cloB 56 [.box 9 [.v (.string v1.1)], .box 9 [.v (.string v1.2.1)], .box 3 [.v (.int .i64 v1.2.2)]])]) (by kernel_rfl) rfl rfl
   ⟨st_plain rfl (op_move _ _ _ _ rfl rfl),
   st_plain rfl (op_callS _ _ 42 _ _ rfl Tryd.call42 rfl rfl (ok_strings_SplitSeq s (⟨#[46]⟩ : ByteArray) _ hv1) rfl),
   trivial⟩ ?_
  refine pt_then ?_
  refine ht_block ?_
  refine ht_pick [3, 0, 1, 2] (by kernel_rfl) (es' := [(7, .cloB 56 [.box 9 [.v (.string v1.1)], .box 9 [.v (.string v1.2.1)], .box 3 [.v (.int .i64 v1.2.2)]]), (13, .glob (GL mx)), (3, .box 33 [.v (.func (.func 33) #[] #[])]), (4, .box 4 [.v (.bool false)])]) rfl ?_
  refine ht_rangeF h 56 7 8 14 _ [13, 3, 4] Tryd.call56 (fun (() : Unit) => [(13, .glob (GL mx)), (3, .box 33 [.v (.func (.func 33) #[] #[])]), (4, .box 4 [.v (.bool false)])]) (fun (() : Unit) => [(13, .glob (GL mx)), (3, .box 33 [.v (.func (.func 33) #[] #[])]), (4, .box 4 [.v (.bool false)])]) (fun l J Y hY t t' h => ok_strings_splitSeq_1 mx l J Y hY v1.1 v1.2.1 v1.2.2 t t' h) hn rfl (fun _ => rfl) (fun _ => rfl) (fun _ => rfl) rfl rfl (fun _ => ⟨rfl, rfl⟩) rfl (glIn_look 13 rfl) ?_ ?_ ?_
  ·rintro kk g0 hn hio x ⟨⟩ u h
   refine ht_es (es' := [(8, .v (.string x)), (13, .glob (GL mx)), (3, .box 33 [.v (.func (.func 33) #[] #[])]), (4, .box 4 [.v (.bool false)]), (13, .v (kk.tm.getD 13 undef)), (3, .v (kk.tm.getD 3 undef)), (4, .v (kk.tm.getD 4 undef)), (14, .inv kk.ready)]) rfl ?_
   refine ht_seqR hn (El := [_, _, _, _, _, _, _, _, (5, .v (.string x))]) (init := [0, 1, 2, 3, 4, 5, 6, 7]) (fin := [1, 2, 3, 4, 5, 6, 7, 8]) (sps := [⟨[0], [], [8], [(.slot 5)]⟩]) (es' := [(_, _), (_, _), (_, _), (_, _), (_, _), (_, _), (_, _), (5, .v (.string x))]) (by kernel_rfl) rfl rfl
    ⟨st_plain rfl (op_assign _ _ _ _ rfl rfl),
    trivial⟩ ?_
   refine pt_pick [0, 1, 2, 3, 4, 5, 7, 6] (by kernel_rfl) (es' := [(13, .glob (GL mx)), (3, .box 33 [.v (.func (.func 33) #[] #[])]), (4, .box 4 [.v (.bool false)]), (13, .v (kk.tm.getD 13 undef)), (3, .v (kk.tm.getD 3 undef)), (4, .v (kk.tm.getD 4 undef)), (5, .v (.string x)), (14, .inv kk.ready)]) rfl ?_
   refine pt_begin (es := [(13, .glob (GL mx)), (3, .box 33 [.v (.func (.func 33) #[] #[])]), (4, .box 4 [.v (.bool false)]), (13, .v (kk.tm.getD 13 undef)), (3, .v (kk.tm.getD 3 undef)), (4, .v (kk.tm.getD 4 undef)), (5, .v (.string x))]) 14 rfl ?_
   refine ht_block ?_
   refine ht_seq ?_
   obtain ⟨v2, hv2, h⟩ := bind_some h
   refine ht_seqR hn (El := [_, _, _, _, _, _, _, _, (9, .v (.func (.func 33) #[] #[])), (10, .v (.string x)), (11, .v (.bool v2)), (12, .v (.bool (!v2)))]) (init := [0, 1, 2, 3, 4, 5, 6, 7]) (fin := [0, 1, 2, 3, 4, 5, 7, 11]) (sps := [⟨[1], [], [8], [(.slot 9)]⟩, ⟨[6], [], [9], [(.slot 10)]⟩, ⟨[9, 8], [], [10], [(.slot 11)]⟩, ⟨[10], [], [11], [(.slot 12)]⟩]) (es' := [(_, _), (_, _), (_, _), (_, _), (_, _), (_, _), (_, _), (12, .v (.bool (!v2)))]) (by kernel_rfl) rfl rfl
    ⟨st_plain rfl (op_load _ _ _ _ _ _ Tryd.underlying33 rfl rfl rfl (Nat.le_of_ble_eq_true rfl) rfl rfl rfl),
    st_plain rfl (op_move _ _ _ _ rfl rfl),
    st_plain rfl (op_call _ _ 33 _ _ rfl Tryd.call33 rfl (ok_path_label x _ hv2) rfl rfl),
    st_plain rfl (op_un _ _ _ _ rfl rfl),
    trivial⟩ ?_
   refine pt_then ?_
   refine ht_cond _ rfl (fun hb5 => ?_) (fun hb5 => ?_)
   ·have h := cond_t hb5 h
    refine ht_seq ?_
    refine ht_seqR hn (El := [_, _, _, _, _, _, _, _, (4, .box 4 [.v (.bool false)])]) (init := [0, 1, 2, 3, 4, 5, 6, 7]) (fin := [0, 1, 8, 3, 4, 5, 6]) (sps := [⟨[], [2], [8], [.cell 4 0]⟩]) (es' := [(_, _), (_, _), (4, .box 4 [.v (.bool false)]), (_, _), (_, _), (_, _), (_, _)]) (by kernel_rfl) rfl rfl
     ⟨st_plain rfl (op_store _ _ _ _ _ _ _ _ sz4 rfl rfl rfl rfl (Nat.le_of_ble_eq_true rfl) rfl rfl),
     trivial⟩ ?_
    refine pt_then ?_
    refine ht_ret ?_
    refine pt_r_in ?_
    obtain rfl := Option.some.inj h
    exact pt_rret 14 [13, 3, 4] _ rfl rfl (by kernel_rfl)
   ·have h := cond_f hb5 h
    refine ht_skip ?_
    refine pt_inb ?_
    refine pt_pick [0, 1, 2, 3, 4, 5, 6] (by kernel_rfl) (es' := [(_, _), (_, _), (_, _), (_, _), (_, _), (_, _), (_, _)]) rfl ?_
    obtain rfl := Option.some.inj h
    exact pt_rnext 14 [13, 3, 4] _ rfl rfl (by kernel_rfl)
  ·rintro D ⟨⟩ h
   refine pt_inb ?_
   refine pt_then ?_
   refine ht_seq ?_
   refine ht_seqR hn (El := [_, _, _, (4, .box 4 [.v (.bool true)])]) (init := [0, 1, 2]) (fin := [0, 3]) (sps := [⟨[], [2], [3], [.cell 4 0]⟩]) (es' := [(_, _), (4, .box 4 [.v (.bool true)])]) (by kernel_rfl) rfl rfl
    ⟨st_plain rfl (op_store _ _ _ _ _ _ _ _ sz4 rfl rfl rfl rfl (Nat.le_of_ble_eq_true rfl) rfl rfl),
    trivial⟩ ?_
   refine pt_then ?_
   refine ht_ret ?_
   refine pt_pick [1] (by kernel_rfl) (es' := [(_, _)]) rfl ?_
   obtain rfl := Option.some.inj h
   exact pt_ret hio rfl (.cell1 _ _ _ _ Tryd.underlying4 rfl .nil) rfl rfl
  ·rintro D ⟨⟩ h
   refine pt_pick [2] (by kernel_rfl) (es' := [(_, _)]) rfl ?_
   refine pt_r_in ?_
   refine pt_r_then ?_
   obtain rfl := Option.some.inj h
   exact pt_ret hio rfl (.cell1 _ _ _ _ Tryd.underlying4 rfl .nil) rfl rfl

set_option maxHeartbeats 1000000 in
theorem ok_path_Domain (mx : Int) (s : ByteArray) (r : Bool) (h : Sh.path_Domain s = some r) : FnG Tryd.prog (GL mx) 14 [.v (.string s)] (.v (.bool r)) := by
  unfold Sh.path_Domain at h
  refine fn_okG Tryd.func14 rfl (Nat.le_of_ble_eq_true rfl) rfl rfl fun g0 hn hio => ?_
  refine ht_seq ?_
  refine ht_seqR hn (El := [_, _, (2, .v (.bool false))]) (init := [0, 1]) (fin := [0, 1]) (sps := [⟨[], [], [2], [(.slot 2)]⟩]) (es' := [(_, _), (_, _)]) (by kernel_rfl) rfl rfl
   ⟨st_plain rfl (op_assign _ _ _ _ rfl rfl),
   trivial⟩ ?_
  refine pt_then ?_
  refine ht_seq ?_
  refine ht_joinS h (fun (s2 : Bool) => [(10, .glob (GL mx)), (2, .v (.bool s2))]) ?_ ?_
  ·rintro s2 h
   refine pt_then ?_
   refine ht_ret ?_
   refine pt_pick [1] (by kernel_rfl) (es' := [(_, _)]) rfl ?_
   obtain rfl := Option.some.inj h
   exact pt_ret hio rfl (.tmp _ _ .nil) rfl rfl
  ·intro u3 h hl4 hr5
   refine cond_some h (fun hg1_3 h => ?_) (fun hg1_3 h => ?_)
   ·obtain ⟨v1, hv1, h⟩ := bind_some h
    refine ht_seqR hn (El := [_, _, (3, .v (.string s)), (4, .v (.int .i64 (s.size : Int))), (5, .v (.bool ((decide ((s.size : Int) ≤ 255))))), (6, .v (.bool true)), (7, .v (.string s)), (8, .v (.bool v1)), (9, .v (.bool v1)), (2, .v (.bool v1))]) (init := [0, 1]) (fin := [1, 9]) (sps := [⟨[0], [], [2], [(.slot 3)]⟩, ⟨[2], [], [3], [(.slot 4)]⟩, ⟨[3], [], [4], [(.slot 5)]⟩, ⟨[4], [], [5], [(.slot 6)]⟩, ⟨[5, 0], [], [6], [(.slot 7)]⟩, ⟨[5, 6, 1], [], [7], [(.slot 8)]⟩, ⟨[5, 7], [], [8], [(.slot 9)]⟩, ⟨[8], [], [9], [(.slot 2)]⟩]) (es' := [(_, _), (2, .v (.bool v1))]) (by kernel_rfl) rfl rfl
     ⟨st_plain rfl (op_move _ _ _ _ rfl rfl),
     st_plain rfl (op_len_str _ _ _ Tryd.underlying9 rfl),
     st_plain rfl (op_bin _ _ _ _ _ rfl rfl rfl),
     st_plain rfl (op_move _ _ _ _ (congrArg (fun b => AV.v (Value.bool b)) hg1_3) rfl),
     st_run 3 6 true rfl rfl rfl (List.Mem.head _) (op_move _ _ _ _ rfl rfl),
     st_run 3 6 true rfl rfl rfl (List.Mem.head _) (op_callG _ _ 10 32 _ _ rfl Tryd.call32 rfl rfl (fun _ h => h) (ok_path_dotted_of_path_label mx s _ hv1) rfl rfl),
     st_plain rfl (op_pick _ _ true _ rfl rfl),
     st_plain rfl (op_assign _ _ _ _ rfl rfl),
     trivial⟩ ?_
    exact hl4 _ (Option.some.inj h).symm
   ·refine ht_seqR hn (El := [_, _, (3, .v (.string s)), (4, .v (.int .i64 (s.size : Int))), (5, .v (.bool ((decide ((s.size : Int) ≤ 255))))), (6, .v (.bool false)), (7, .v undef), (8, .v undef), (9, .v (.bool false)), (2, .v (.bool false))]) (init := [0, 1]) (fin := [1, 9]) (sps := [⟨[0], [], [2], [(.slot 3)]⟩, ⟨[2], [], [3], [(.slot 4)]⟩, ⟨[3], [], [4], [(.slot 5)]⟩, ⟨[4], [], [5], [(.slot 6)]⟩, ⟨[5], [], [6], [(.slot 7)]⟩, ⟨[5], [], [7], [(.slot 8)]⟩, ⟨[5], [], [8], [(.slot 9)]⟩, ⟨[8], [], [9], [(.slot 2)]⟩]) (es' := [(_, _), (2, .v (.bool false))]) (by kernel_rfl) rfl rfl
     ⟨st_plain rfl (op_move _ _ _ _ rfl rfl),
     st_plain rfl (op_len_str _ _ _ Tryd.underlying9 rfl),
     st_plain rfl (op_bin _ _ _ _ _ rfl rfl rfl),
     st_plain rfl (op_move _ _ _ _ (congrArg (fun b => AV.v (Value.bool b)) hg1_3) rfl),
     st_skip 3 6 _ true rfl rfl rfl rfl (List.Mem.head _),
     st_skip 3 6 _ true rfl rfl rfl rfl (List.Mem.head _),
     st_plain rfl (op_pick _ _ false _ rfl rfl),
     st_plain rfl (op_assign _ _ _ _ rfl rfl),
     trivial⟩ ?_
    exact hl4 _ (Option.some.inj h).symm

set_option maxHeartbeats 1000000 in
theorem ok_internal_stringslite_HasPrefix (s : ByteArray) (prefix_ : ByteArray) (r : Bool) (h : Sh.internal_stringslite_HasPrefix s prefix_ = some r) : FnOK Tryd.prog 46 [.v (.string s), .v (.string prefix_)] (.v (.bool r)) := by
  unfold Sh.internal_stringslite_HasPrefix at h
  refine fn_ok Tryd.func46 rfl (Nat.le_of_ble_eq_true rfl) rfl rfl fun g0 hn hio => ?_
  refine ht_seq ?_
  refine ht_seqR hn (El := [_, _, (4, .v (.bool false))]) (init := [0, 1]) (fin := [0, 1]) (sps := [⟨[], [], [2], [(.slot 4)]⟩]) (es' := [(_, _), (_, _)]) (by kernel_rfl) rfl rfl
   ⟨st_plain rfl (op_assign _ _ _ _ rfl rfl),
   trivial⟩ ?_
  refine pt_then ?_
  refine ht_seq ?_
  refine ht_joinS h (fun (s2 : Bool) => [(4, .v (.bool s2))]) ?_ ?_
  ·rintro s2 h
   refine pt_then ?_
   refine ht_ret ?_
   obtain rfl := Option.some.inj h
   exact pt_ret hio rfl (.tmp _ _ .nil) rfl rfl
  ·intro u3 h hl4 hr5
   refine cond_some h (fun hg1_5 h => ?_) (fun hg1_5 h => ?_)
   ·obtain ⟨v1, hv1, h⟩ := bind_some h
    refine ht_seqR hn (El := (_ :: _ :: (5, .v (.string s)) :: (6, .v (.int .i64 (s.size : Int))) :: (7, .v (.string prefix_)) :: (8, .v (.int .i64 (prefix_.size : Int))) :: (9, .v (.bool ((decide ((prefix_.size : Int) ≤ (s.size : Int)))))) :: (10, .v (.bool true)) :: (11, .v (.string s)) :: (12, .v (.string prefix_)) :: (13, .v (.int .i64 (prefix_.size : Int))) :: (14, .v (.string v1)) :: (15, .v (.string prefix_)) :: (16, .v (.bool (v1.toList == prefix_.toList))) :: (17, .v (.bool (v1.toList == prefix_.toList))) :: (4, .v (.bool (v1.toList == prefix_.toList))) :: [])) (init := [0, 1]) (fin := [15]) (sps := [⟨[0], [], [2], [(.slot 5)]⟩, ⟨[2], [], [3], [(.slot 6)]⟩, ⟨[1], [], [4], [(.slot 7)]⟩, ⟨[4], [], [5], [(.slot 8)]⟩, ⟨[3, 5], [], [6], [(.slot 9)]⟩, ⟨[6], [], [7], [(.slot 10)]⟩, ⟨[7, 0], [], [8], [(.slot 11)]⟩, ⟨[7, 1], [], [9], [(.slot 12)]⟩, ⟨[7, 9], [], [10], [(.slot 13)]⟩, ⟨[7, 8, 10], [], [11], [(.slot 14)]⟩, ⟨[7, 1], [], [12], [(.slot 15)]⟩, ⟨[7, 11, 12], [], [13], [(.slot 16)]⟩, ⟨[7, 13], [], [14], [(.slot 17)]⟩, ⟨[14], [], [15], [(.slot 4)]⟩]) (es' := [(4, .v (.bool (v1.toList == prefix_.toList)))]) (by kernel_rfl) rfl rfl
     ⟨st_plain rfl (op_move _ _ _ _ rfl rfl),
     st_plain rfl (op_len_str _ _ _ Tryd.underlying9 rfl),
     st_plain rfl (op_move _ _ _ _ rfl rfl),
     st_plain rfl (op_len_str _ _ _ Tryd.underlying9 rfl),
     st_plain rfl (op_bin _ _ _ _ _ rfl rfl rfl),
     st_plain rfl (op_move _ _ _ _ (congrArg (fun b => AV.v (Value.bool b)) hg1_5) rfl),
     st_run 5 10 true rfl rfl rfl (List.Mem.head _) (op_move _ _ _ _ rfl rfl),
     st_run 5 10 true rfl rfl rfl (List.Mem.head _) (op_move _ _ _ _ rfl rfl),
     st_run 5 10 true rfl rfl rfl (List.Mem.head _) (op_len_str _ _ _ Tryd.underlying9 rfl),
     st_run 5 10 true rfl rfl rfl (List.Mem.head _) (op_substr _ _ _ 0 (prefix_.size : Int) _ Tryd.underlying9 rfl rfl ⟨_, rfl⟩ hv1),
     st_run 5 10 true rfl rfl rfl (List.Mem.head _) (op_move _ _ _ _ rfl rfl),
     st_run 5 10 true rfl rfl rfl (List.Mem.head _) (op_bin _ _ _ _ _ rfl rfl rfl),
     st_plain rfl (op_pick _ _ true _ rfl rfl),
     st_plain rfl (op_assign _ _ _ _ rfl rfl),
     trivial⟩ ?_
    exact hl4 _ (Option.some.inj h).symm
   ·refine ht_seqR hn (El := (_ :: _ :: (5, .v (.string s)) :: (6, .v (.int .i64 (s.size : Int))) :: (7, .v (.string prefix_)) :: (8, .v (.int .i64 (prefix_.size : Int))) :: (9, .v (.bool ((decide ((prefix_.size : Int) ≤ (s.size : Int)))))) :: (10, .v (.bool false)) :: (11, .v undef) :: (12, .v undef) :: (13, .v undef) :: (14, .v undef) :: (15, .v undef) :: (16, .v undef) :: (17, .v (.bool false)) :: (4, .v (.bool false)) :: [])) (init := [0, 1]) (fin := [15]) (sps := [⟨[0], [], [2], [(.slot 5)]⟩, ⟨[2], [], [3], [(.slot 6)]⟩, ⟨[1], [], [4], [(.slot 7)]⟩, ⟨[4], [], [5], [(.slot 8)]⟩, ⟨[3, 5], [], [6], [(.slot 9)]⟩, ⟨[6], [], [7], [(.slot 10)]⟩, ⟨[7], [], [8], [(.slot 11)]⟩, ⟨[7], [], [9], [(.slot 12)]⟩, ⟨[7], [], [10], [(.slot 13)]⟩, ⟨[7], [], [11], [(.slot 14)]⟩, ⟨[7], [], [12], [(.slot 15)]⟩, ⟨[7], [], [13], [(.slot 16)]⟩, ⟨[7], [], [14], [(.slot 17)]⟩, ⟨[14], [], [15], [(.slot 4)]⟩]) (es' := [(4, .v (.bool false))]) (by kernel_rfl) rfl rfl
     ⟨st_plain rfl (op_move _ _ _ _ rfl rfl),
     st_plain rfl (op_len_str _ _ _ Tryd.underlying9 rfl),
     st_plain rfl (op_move _ _ _ _ rfl rfl),
     st_plain rfl (op_len_str _ _ _ Tryd.underlying9 rfl),
     st_plain rfl (op_bin _ _ _ _ _ rfl rfl rfl),
     st_plain rfl (op_move _ _ _ _ (congrArg (fun b => AV.v (Value.bool b)) hg1_5) rfl),
     st_skip 5 10 _ true rfl rfl rfl rfl (List.Mem.head _),
     st_skip 5 10 _ true rfl rfl rfl rfl (List.Mem.head _),
     st_skip 5 10 _ true rfl rfl rfl rfl (List.Mem.head _),
     st_skip 5 10 _ true rfl rfl rfl rfl (List.Mem.head _),
     st_skip 5 10 _ true rfl rfl rfl rfl (List.Mem.head _),
     st_skip 5 10 _ true rfl rfl rfl rfl (List.Mem.head _),
     st_plain rfl (op_pick _ _ false _ rfl rfl),
     st_plain rfl (op_assign _ _ _ _ rfl rfl),
     trivial⟩ ?_
    exact hl4 _ (Option.some.inj h).symm

set_option maxHeartbeats 1000000 in
theorem ok_internal_stringslite_CutPrefix (s : ByteArray) (prefix_ : ByteArray) (r : (ByteArray × Bool)) (h : Sh.internal_stringslite_CutPrefix s prefix_ = some r) : FnOK Tryd.prog 37 [.v (.string s), .v (.string prefix_)] (.tup [.v (.string r.1), .v (.bool r.2)]) := by
  unfold Sh.internal_stringslite_CutPrefix at h
  refine fn_ok Tryd.func37 rfl (Nat.le_of_ble_eq_true rfl) rfl rfl fun g0 hn hio => ?_
  refine ht_seq ?_
  refine ht_seqR hn (El := [_, _, (4, .v (.string (⟨#[]⟩ : ByteArray))), (5, .v (.bool false))]) (init := [0, 1]) (fin := [0, 1]) (sps := [⟨[], [], [2], [(.slot 4)]⟩, ⟨[], [], [3], [(.slot 5)]⟩]) (es' := [(_, _), (_, _)]) (by kernel_rfl) rfl rfl
   ⟨st_plain rfl (op_assign _ _ _ _ rfl rfl),
   st_plain rfl (op_assign _ _ _ _ rfl rfl),
   trivial⟩ ?_
  refine pt_then ?_
  refine ht_seq ?_
  refine ht_seq ?_
  obtain ⟨v1, hv1, h⟩ := bind_some h
  refine ht_seqR hn (El := [_, _, (6, .v (.string s)), (7, .v (.string prefix_)), (8, .v (.bool v1)), (9, .v (.bool (!v1)))]) (init := [0, 1]) (fin := [0, 1, 5]) (sps := [⟨[0], [], [2], [(.slot 6)]⟩, ⟨[1], [], [3], [(.slot 7)]⟩, ⟨[2, 3], [], [4], [(.slot 8)]⟩, ⟨[4], [], [5], [(.slot 9)]⟩]) (es' := [(_, _), (_, _), (9, .v (.bool (!v1)))]) (by kernel_rfl) rfl rfl
   ⟨st_plain rfl (op_move _ _ _ _ rfl rfl),
   st_plain rfl (op_move _ _ _ _ rfl rfl),
   st_plain rfl (op_call _ _ 46 _ _ rfl Tryd.call46 rfl (ok_internal_stringslite_HasPrefix s prefix_ _ hv1) rfl rfl),
   st_plain rfl (op_un _ _ _ _ rfl rfl),
   trivial⟩ ?_
  refine pt_then ?_
  refine ht_cond _ rfl (fun hb2 => ?_) (fun hb2 => ?_)
  ·have h := cond_t hb2 h
   refine ht_seq ?_
   refine ht_seqR hn (El := [_, _, _, (10, .v (.string s)), (4, .v (.string s)), (5, .v (.bool false))]) (init := [0, 1, 2]) (fin := [4, 5]) (sps := [⟨[0], [], [3], [(.slot 10)]⟩, ⟨[3], [], [4], [(.slot 4)]⟩, ⟨[], [], [5], [(.slot 5)]⟩]) (es' := [(4, .v (.string s)), (5, .v (.bool false))]) (by kernel_rfl) rfl rfl
    ⟨st_plain rfl (op_move _ _ _ _ rfl rfl),
    st_plain rfl (op_assign _ _ _ _ rfl rfl),
    st_plain rfl (op_assign _ _ _ _ rfl rfl),
    trivial⟩ ?_
   refine pt_then ?_
   refine ht_ret ?_
   refine pt_r_then ?_
   obtain rfl := Option.some.inj h
   exact pt_ret hio rfl (.tmp _ _ (.tmp _ _ .nil)) rfl rfl
  ·have h := cond_f hb2 h
   refine ht_skip ?_
   refine pt_then ?_
   refine ht_seq ?_
   obtain ⟨v3, hv3, h⟩ := bind_some h
   refine ht_seqR hn (El := [_, _, _, (11, .v (.string s)), (12, .v (.string prefix_)), (13, .v (.int .i64 (prefix_.size : Int))), (14, .v (.string v3)), (4, .v (.string v3)), (5, .v (.bool true))]) (init := [0, 1, 2]) (fin := [7, 8]) (sps := [⟨[0], [], [3], [(.slot 11)]⟩, ⟨[1], [], [4], [(.slot 12)]⟩, ⟨[4], [], [5], [(.slot 13)]⟩, ⟨[3, 5], [], [6], [(.slot 14)]⟩, ⟨[6], [], [7], [(.slot 4)]⟩, ⟨[], [], [8], [(.slot 5)]⟩]) (es' := [(4, .v (.string v3)), (5, .v (.bool true))]) (by kernel_rfl) rfl rfl
    ⟨st_plain rfl (op_move _ _ _ _ rfl rfl),
    st_plain rfl (op_move _ _ _ _ rfl rfl),
    st_plain rfl (op_len_str _ _ _ Tryd.underlying9 rfl),
    st_plain rfl (op_substr _ _ _ (prefix_.size : Int) (s.size : Int) _ Tryd.underlying9 rfl ⟨_, rfl⟩ rfl hv3),
    st_plain rfl (op_assign _ _ _ _ rfl rfl),
    st_plain rfl (op_assign _ _ _ _ rfl rfl),
    trivial⟩ ?_
   refine pt_then ?_
   refine ht_ret ?_
   obtain rfl := Option.some.inj h
   exact pt_ret hio rfl (.tmp _ _ (.tmp _ _ .nil)) rfl rfl

set_option maxHeartbeats 1000000 in
theorem ok_strings_CutPrefix (s : ByteArray) (prefix_ : ByteArray) (r : (ByteArray × Bool)) (h : Sh.strings_CutPrefix s prefix_ = some r) : FnOK Tryd.prog 26 [.v (.string s), .v (.string prefix_)] (.tup [.v (.string r.1), .v (.bool r.2)]) := by
  unfold Sh.strings_CutPrefix at h
  refine fn_ok Tryd.func26 rfl (Nat.le_of_ble_eq_true rfl) rfl rfl fun g0 hn hio => ?_
  refine ht_seq ?_
  refine ht_seqR hn (El := [_, _, (4, .v (.string (⟨#[]⟩ : ByteArray))), (5, .v (.bool false))]) (init := [0, 1]) (fin := [0, 1]) (sps := [⟨[], [], [2], [(.slot 4)]⟩, ⟨[], [], [3], [(.slot 5)]⟩]) (es' := [(_, _), (_, _)]) (by kernel_rfl) rfl rfl
   ⟨st_plain rfl (op_assign _ _ _ _ rfl rfl),
   st_plain rfl (op_assign _ _ _ _ rfl rfl),
   trivial⟩ ?_
  refine pt_then ?_
  refine ht_seq ?_
  obtain ⟨v1, hv1, h⟩ := bind_some h
  refine ht_seqR hn (El := [_, _, (6, .v (.string s)), (7, .v (.string prefix_)), (8, .tup [.v (.string v1.1), .v (.bool v1.2)]), (9, .v (.string v1.1)), (10, .v (.bool v1.2)), (4, .v (.string v1.1)), (5, .v (.bool v1.2))]) (init := [0, 1]) (fin := [7, 8]) (sps := [⟨[0], [], [2], [(.slot 6)]⟩, ⟨[1], [], [3], [(.slot 7)]⟩, ⟨[2, 3], [], [4], [(.slot 8)]⟩, ⟨[4], [], [5], [(.slot 9)]⟩, ⟨[4], [], [6], [(.slot 10)]⟩, ⟨[5], [], [7], [(.slot 4)]⟩, ⟨[6], [], [8], [(.slot 5)]⟩]) (es' := [(4, .v (.string v1.1)), (5, .v (.bool v1.2))]) (by kernel_rfl) rfl rfl
   ⟨st_plain rfl (op_move _ _ _ _ rfl rfl),
   st_plain rfl (op_move _ _ _ _ rfl rfl),
   st_plain rfl (op_call _ _ 37 _ _ rfl Tryd.call37 rfl (ok_internal_stringslite_CutPrefix s prefix_ _ hv1) rfl rfl),
   st_plain rfl (op_extract _ _ _ _ _ rfl rfl (Nat.le_of_ble_eq_true rfl) rfl rfl),
   st_plain rfl (op_extract _ _ _ _ _ rfl rfl (Nat.le_of_ble_eq_true rfl) rfl rfl),
   st_plain rfl (op_assign _ _ _ _ rfl rfl),
   st_plain rfl (op_assign _ _ _ _ rfl rfl),
   trivial⟩ ?_
  refine pt_then ?_
  refine ht_ret ?_
  obtain rfl := Option.some.inj h
  exact pt_ret hio rfl (.tmp _ _ (.tmp _ _ .nil)) rfl rfl

set_option maxHeartbeats 1000000 in
theorem ok_internal_stringslite_HasSuffix (s : ByteArray) (suffix : ByteArray) (r : Bool) (h : Sh.internal_stringslite_HasSuffix s suffix = some r) : FnOK Tryd.prog 47 [.v (.string s), .v (.string suffix)] (.v (.bool r)) := by
  unfold Sh.internal_stringslite_HasSuffix at h
  refine fn_ok Tryd.func47 rfl (Nat.le_of_ble_eq_true rfl) rfl rfl fun g0 hn hio => ?_
  refine ht_seq ?_
  refine ht_seqR hn (El := [_, _, (4, .v (.bool false))]) (init := [0, 1]) (fin := [0, 1]) (sps := [⟨[], [], [2], [(.slot 4)]⟩]) (es' := [(_, _), (_, _)]) (by kernel_rfl) rfl rfl
   ⟨st_plain rfl (op_assign _ _ _ _ rfl rfl),
   trivial⟩ ?_
  refine pt_then ?_
  refine ht_seq ?_
  refine ht_joinS h (fun (s3 : Bool) => [(4, .v (.bool s3))]) ?_ ?_
  ·rintro s3 h
   refine pt_then ?_
   refine ht_ret ?_
   obtain rfl := Option.some.inj h
   exact pt_ret hio rfl (.tmp _ _ .nil) rfl rfl
  ·intro u4 h hl5 hr6
   refine cond_some h (fun hg1_5 h => ?_) (fun hg1_5 h => ?_)
   ·obtain ⟨v1, hv1, h⟩ := bind_some h
    obtain ⟨v2, hv2, h⟩ := bind_some h
    refine ht_seqR hn (El := (_ :: _ :: (5, .v (.string s)) :: (6, .v (.int .i64 (s.size : Int))) :: (7, .v (.string suffix)) :: (8, .v (.int .i64 (suffix.size : Int))) :: (9, .v (.bool ((decide ((suffix.size : Int) ≤ (s.size : Int)))))) :: (10, .v (.bool true)) :: (11, .v (.string s)) :: (12, .v (.string s)) :: (13, .v (.int .i64 (s.size : Int))) :: (14, .v (.string suffix)) :: (15, .v (.int .i64 (suffix.size : Int))) :: (16, .v (.int .i64 v1)) :: (17, .v (.string v2)) :: (18, .v (.string suffix)) :: (19, .v (.bool (v2.toList == suffix.toList))) :: (20, .v (.bool (v2.toList == suffix.toList))) :: (4, .v (.bool (v2.toList == suffix.toList))) :: [])) (init := [0, 1]) (fin := [18]) (sps := (⟨[0], [], [2], [(.slot 5)]⟩ :: ⟨[2], [], [3], [(.slot 6)]⟩ :: ⟨[1], [], [4], [(.slot 7)]⟩ :: ⟨[4], [], [5], [(.slot 8)]⟩ :: ⟨[3, 5], [], [6], [(.slot 9)]⟩ :: ⟨[6], [], [7], [(.slot 10)]⟩ :: ⟨[7, 0], [], [8], [(.slot 11)]⟩ :: ⟨[7, 0], [], [9], [(.slot 12)]⟩ :: ⟨[7, 9], [], [10], [(.slot 13)]⟩ :: ⟨[7, 1], [], [11], [(.slot 14)]⟩ :: ⟨[7, 11], [], [12], [(.slot 15)]⟩ :: ⟨[7, 10, 12], [], [13], [(.slot 16)]⟩ :: ⟨[7, 8, 13], [], [14], [(.slot 17)]⟩ :: ⟨[7, 1], [], [15], [(.slot 18)]⟩ :: ⟨[7, 14, 15], [], [16], [(.slot 19)]⟩ :: ⟨[7, 16], [], [17], [(.slot 20)]⟩ :: ⟨[17], [], [18], [(.slot 4)]⟩ :: [])) (es' := [(4, .v (.bool (v2.toList == suffix.toList)))]) (by kernel_rfl) rfl rfl
     ⟨st_plain rfl (op_move _ _ _ _ rfl rfl),
     st_plain rfl (op_len_str _ _ _ Tryd.underlying9 rfl),
     st_plain rfl (op_move _ _ _ _ rfl rfl),
     st_plain rfl (op_len_str _ _ _ Tryd.underlying9 rfl),
     st_plain rfl (op_bin _ _ _ _ _ rfl rfl rfl),
     st_plain rfl (op_move _ _ _ _ (congrArg (fun b => AV.v (Value.bool b)) hg1_5) rfl),
     st_run 5 10 true rfl rfl rfl (List.Mem.head _) (op_move _ _ _ _ rfl rfl),
     st_run 5 10 true rfl rfl rfl (List.Mem.head _) (op_move _ _ _ _ rfl rfl),
     st_run 5 10 true rfl rfl rfl (List.Mem.head _) (op_len_str _ _ _ Tryd.underlying9 rfl),
     st_run 5 10 true rfl rfl rfl (List.Mem.head _) (op_move _ _ _ _ rfl rfl),
     st_run 5 10 true rfl rfl rfl (List.Mem.head _) (op_len_str _ _ _ Tryd.underlying9 rfl),
     st_run 5 10 true rfl rfl rfl (List.Mem.head _) (op_bin _ _ _ _ _ rfl rfl (ibind (f := Value.int .i64) (Option.some.inj hv1))),
     st_run 5 10 true rfl rfl rfl (List.Mem.head _) (op_substr _ _ _ v1 (s.size : Int) _ Tryd.underlying9 rfl ⟨_, rfl⟩ rfl hv2),
     st_run 5 10 true rfl rfl rfl (List.Mem.head _) (op_move _ _ _ _ rfl rfl),
     st_run 5 10 true rfl rfl rfl (List.Mem.head _) (op_bin _ _ _ _ _ rfl rfl rfl),
     st_plain rfl (op_pick _ _ true _ rfl rfl),
     st_plain rfl (op_assign _ _ _ _ rfl rfl),
     trivial⟩ ?_
    exact hl5 _ (Option.some.inj h).symm
   ·refine ht_seqR hn (El := (_ :: _ :: (5, .v (.string s)) :: (6, .v (.int .i64 (s.size : Int))) :: (7, .v (.string suffix)) :: (8, .v (.int .i64 (suffix.size : Int))) :: (9, .v (.bool ((decide ((suffix.size : Int) ≤ (s.size : Int)))))) :: (10, .v (.bool false)) :: (11, .v undef) :: (12, .v undef) :: (13, .v undef) :: (14, .v undef) :: (15, .v undef) :: (16, .v undef) :: (17, .v undef) :: (18, .v undef) :: (19, .v undef) :: (20, .v (.bool false)) :: (4, .v (.bool false)) :: [])) (init := [0, 1]) (fin := [18]) (sps := (⟨[0], [], [2], [(.slot 5)]⟩ :: ⟨[2], [], [3], [(.slot 6)]⟩ :: ⟨[1], [], [4], [(.slot 7)]⟩ :: ⟨[4], [], [5], [(.slot 8)]⟩ :: ⟨[3, 5], [], [6], [(.slot 9)]⟩ :: ⟨[6], [], [7], [(.slot 10)]⟩ :: ⟨[7], [], [8], [(.slot 11)]⟩ :: ⟨[7], [], [9], [(.slot 12)]⟩ :: ⟨[7], [], [10], [(.slot 13)]⟩ :: ⟨[7], [], [11], [(.slot 14)]⟩ :: ⟨[7], [], [12], [(.slot 15)]⟩ :: ⟨[7], [], [13], [(.slot 16)]⟩ :: ⟨[7], [], [14], [(.slot 17)]⟩ :: ⟨[7], [], [15], [(.slot 18)]⟩ :: ⟨[7], [], [16], [(.slot 19)]⟩ :: ⟨[7], [], [17], [(.slot 20)]⟩ :: ⟨[17], [], [18], [(.slot 4)]⟩ :: [])) (es' := [(4, .v (.bool false))]) (by kernel_rfl) rfl rfl
     ⟨st_plain rfl (op_move _ _ _ _ rfl rfl),
     st_plain rfl (op_len_str _ _ _ Tryd.underlying9 rfl),
     st_plain rfl (op_move _ _ _ _ rfl rfl),
     st_plain rfl (op_len_str _ _ _ Tryd.underlying9 rfl),
     st_plain rfl (op_bin _ _ _ _ _ rfl rfl rfl),
     st_plain rfl (op_move _ _ _ _ (congrArg (fun b => AV.v (Value.bool b)) hg1_5) rfl),
     st_skip 5 10 _ true rfl rfl rfl rfl (List.Mem.head _),
     st_skip 5 10 _ true rfl rfl rfl rfl (List.Mem.head _),
     st_skip 5 10 _ true rfl rfl rfl rfl (List.Mem.head _),
     st_skip 5 10 _ true rfl rfl rfl rfl (List.Mem.head _),
     st_skip 5 10 _ true rfl rfl rfl rfl (List.Mem.head _),
     st_skip 5 10 _ true rfl rfl rfl rfl (List.Mem.head _),
     st_skip 5 10 _ true rfl rfl rfl rfl (List.Mem.head _),
     st_skip 5 10 _ true rfl rfl rfl rfl (List.Mem.head _),
     st_skip 5 10 _ true rfl rfl rfl rfl (List.Mem.head _),
     st_plain rfl (op_pick _ _ false _ rfl rfl),
     st_plain rfl (op_assign _ _ _ _ rfl rfl),
     trivial⟩ ?_
    exact hl5 _ (Option.some.inj h).symm

set_option maxHeartbeats 1000000 in
theorem ok_internal_stringslite_CutSuffix (s : ByteArray) (suffix : ByteArray) (r : (ByteArray × Bool)) (h : Sh.internal_stringslite_CutSuffix s suffix = some r) : FnOK Tryd.prog 38 [.v (.string s), .v (.string suffix)] (.tup [.v (.string r.1), .v (.bool r.2)]) := by
  unfold Sh.internal_stringslite_CutSuffix at h
  refine fn_ok Tryd.func38 rfl (Nat.le_of_ble_eq_true rfl) rfl rfl fun g0 hn hio => ?_
  refine ht_seq ?_
  refine ht_seqR hn (El := [_, _, (4, .v (.string (⟨#[]⟩ : ByteArray))), (5, .v (.bool false))]) (init := [0, 1]) (fin := [0, 1]) (sps := [⟨[], [], [2], [(.slot 4)]⟩, ⟨[], [], [3], [(.slot 5)]⟩]) (es' := [(_, _), (_, _)]) (by kernel_rfl) rfl rfl
   ⟨st_plain rfl (op_assign _ _ _ _ rfl rfl),
   st_plain rfl (op_assign _ _ _ _ rfl rfl),
   trivial⟩ ?_
  refine pt_then ?_
  refine ht_seq ?_
  refine ht_seq ?_
  obtain ⟨v1, hv1, h⟩ := bind_some h
  refine ht_seqR hn (El := [_, _, (6, .v (.string s)), (7, .v (.string suffix)), (8, .v (.bool v1)), (9, .v (.bool (!v1)))]) (init := [0, 1]) (fin := [0, 1, 5]) (sps := [⟨[0], [], [2], [(.slot 6)]⟩, ⟨[1], [], [3], [(.slot 7)]⟩, ⟨[2, 3], [], [4], [(.slot 8)]⟩, ⟨[4], [], [5], [(.slot 9)]⟩]) (es' := [(_, _), (_, _), (9, .v (.bool (!v1)))]) (by kernel_rfl) rfl rfl
   ⟨st_plain rfl (op_move _ _ _ _ rfl rfl),
   st_plain rfl (op_move _ _ _ _ rfl rfl),
   st_plain rfl (op_call _ _ 47 _ _ rfl Tryd.call47 rfl (ok_internal_stringslite_HasSuffix s suffix _ hv1) rfl rfl),
   st_plain rfl (op_un _ _ _ _ rfl rfl),
   trivial⟩ ?_
  refine pt_then ?_
  refine ht_cond _ rfl (fun hb2 => ?_) (fun hb2 => ?_)
  ·have h := cond_t hb2 h
   refine ht_seq ?_
   refine ht_seqR hn (El := [_, _, _, (10, .v (.string s)), (4, .v (.string s)), (5, .v (.bool false))]) (init := [0, 1, 2]) (fin := [4, 5]) (sps := [⟨[0], [], [3], [(.slot 10)]⟩, ⟨[3], [], [4], [(.slot 4)]⟩, ⟨[], [], [5], [(.slot 5)]⟩]) (es' := [(4, .v (.string s)), (5, .v (.bool false))]) (by kernel_rfl) rfl rfl
    ⟨st_plain rfl (op_move _ _ _ _ rfl rfl),
    st_plain rfl (op_assign _ _ _ _ rfl rfl),
    st_plain rfl (op_assign _ _ _ _ rfl rfl),
    trivial⟩ ?_
   refine pt_then ?_
   refine ht_ret ?_
   refine pt_r_then ?_
   obtain rfl := Option.some.inj h
   exact pt_ret hio rfl (.tmp _ _ (.tmp _ _ .nil)) rfl rfl
  ·have h := cond_f hb2 h
   refine ht_skip ?_
   refine pt_then ?_
   refine ht_seq ?_
   obtain ⟨v3, hv3, h⟩ := bind_some h
   obtain ⟨v4, hv4, h⟩ := bind_some h
   refine ht_seqR hn (El := [_, _, _, (11, .v (.string s)), (12, .v (.string s)), (13, .v (.int .i64 (s.size : Int))), (14, .v (.string suffix)), (15, .v (.int .i64 (suffix.size : Int))), (16, .v (.int .i64 v3)), (17, .v (.string v4)), (4, .v (.string v4)), (5, .v (.bool true))]) (init := [0, 1, 2]) (fin := [10, 11]) (sps := [⟨[0], [], [3], [(.slot 11)]⟩, ⟨[0], [], [4], [(.slot 12)]⟩, ⟨[4], [], [5], [(.slot 13)]⟩, ⟨[1], [], [6], [(.slot 14)]⟩, ⟨[6], [], [7], [(.slot 15)]⟩, ⟨[5, 7], [], [8], [(.slot 16)]⟩, ⟨[3, 8], [], [9], [(.slot 17)]⟩, ⟨[9], [], [10], [(.slot 4)]⟩, ⟨[], [], [11], [(.slot 5)]⟩]) (es' := [(4, .v (.string v4)), (5, .v (.bool true))]) (by kernel_rfl) rfl rfl
    ⟨st_plain rfl (op_move _ _ _ _ rfl rfl),
    st_plain rfl (op_move _ _ _ _ rfl rfl),
    st_plain rfl (op_len_str _ _ _ Tryd.underlying9 rfl),
    st_plain rfl (op_move _ _ _ _ rfl rfl),
    st_plain rfl (op_len_str _ _ _ Tryd.underlying9 rfl),
    st_plain rfl (op_bin _ _ _ _ _ rfl rfl (ibind (f := Value.int .i64) (Option.some.inj hv3))),
    st_plain rfl (op_substr _ _ _ 0 v3 _ Tryd.underlying9 rfl rfl ⟨_, rfl⟩ hv4),
    st_plain rfl (op_assign _ _ _ _ rfl rfl),
    st_plain rfl (op_assign _ _ _ _ rfl rfl),
    trivial⟩ ?_
   refine pt_then ?_
   refine ht_ret ?_
   obtain rfl := Option.some.inj h
   exact pt_ret hio rfl (.tmp _ _ (.tmp _ _ .nil)) rfl rfl

set_option maxHeartbeats 1000000 in
theorem ok_strings_CutSuffix (s : ByteArray) (suffix : ByteArray) (r : (ByteArray × Bool)) (h : Sh.strings_CutSuffix s suffix = some r) : FnOK Tryd.prog 27 [.v (.string s), .v (.string suffix)] (.tup [.v (.string r.1), .v (.bool r.2)]) := by
  unfold Sh.strings_CutSuffix at h
  refine fn_ok Tryd.func27 rfl (Nat.le_of_ble_eq_true rfl) rfl rfl fun g0 hn hio => ?_
  refine ht_seq ?_
  refine ht_seqR hn (El := [_, _, (4, .v (.string (⟨#[]⟩ : ByteArray))), (5, .v (.bool false))]) (init := [0, 1]) (fin := [0, 1]) (sps := [⟨[], [], [2], [(.slot 4)]⟩, ⟨[], [], [3], [(.slot 5)]⟩]) (es' := [(_, _), (_, _)]) (by kernel_rfl) rfl rfl
   ⟨st_plain rfl (op_assign _ _ _ _ rfl rfl),
   st_plain rfl (op_assign _ _ _ _ rfl rfl),
   trivial⟩ ?_
  refine pt_then ?_
  refine ht_seq ?_
  obtain ⟨v1, hv1, h⟩ := bind_some h
  refine ht_seqR hn (El := [_, _, (6, .v (.string s)), (7, .v (.string suffix)), (8, .tup [.v (.string v1.1), .v (.bool v1.2)]), (9, .v (.string v1.1)), (10, .v (.bool v1.2)), (4, .v (.string v1.1)), (5, .v (.bool v1.2))]) (init := [0, 1]) (fin := [7, 8]) (sps := [⟨[0], [], [2], [(.slot 6)]⟩, ⟨[1], [], [3], [(.slot 7)]⟩, ⟨[2, 3], [], [4], [(.slot 8)]⟩, ⟨[4], [], [5], [(.slot 9)]⟩, ⟨[4], [], [6], [(.slot 10)]⟩, ⟨[5], [], [7], [(.slot 4)]⟩, ⟨[6], [], [8], [(.slot 5)]⟩]) (es' := [(4, .v (.string v1.1)), (5, .v (.bool v1.2))]) (by kernel_rfl) rfl rfl
   ⟨st_plain rfl (op_move _ _ _ _ rfl rfl),
   st_plain rfl (op_move _ _ _ _ rfl rfl),
   st_plain rfl (op_call _ _ 38 _ _ rfl Tryd.call38 rfl (ok_internal_stringslite_CutSuffix s suffix _ hv1) rfl rfl),
   st_plain rfl (op_extract _ _ _ _ _ rfl rfl (Nat.le_of_ble_eq_true rfl) rfl rfl),
   st_plain rfl (op_extract _ _ _ _ _ rfl rfl (Nat.le_of_ble_eq_true rfl) rfl rfl),
   st_plain rfl (op_assign _ _ _ _ rfl rfl),
   st_plain rfl (op_assign _ _ _ _ rfl rfl),
   trivial⟩ ?_
  refine pt_then ?_
  refine ht_ret ?_
  obtain rfl := Option.some.inj h
  exact pt_ret hio rfl (.tmp _ _ (.tmp _ _ .nil)) rfl rfl

theorem ok_internal_stringslite_Index (s sub : ByteArray) (r : Int) (h : Sh.strings_Index s sub = some r) : FnOK Tryd.prog 48 [.v (.string s), .v (.string sub)] (.v (.int .i64 r)) := lib_strings_Index Tryd.stringslite_Index_one s sub r h

set_option maxHeartbeats 1000000 in
theorem ok_internal_stringslite_Cut (s : ByteArray) (sep : ByteArray) (r : (ByteArray × ByteArray × Bool)) (h : Sh.internal_stringslite_Cut s sep = some r) : FnOK Tryd.prog 39 [.v (.string s), .v (.string sep)] (.tup [.v (.string r.1), .v (.string r.2.1), .v (.bool r.2.2)]) := by
  unfold Sh.internal_stringslite_Cut at h
  refine fn_ok Tryd.func39 rfl (Nat.le_of_ble_eq_true rfl) rfl rfl fun g0 hn hio => ?_
  refine ht_seq ?_
  refine ht_seqR hn (El := [_, _, (4, .v (.string (⟨#[]⟩ : ByteArray))), (5, .v (.string (⟨#[]⟩ : ByteArray))), (6, .v (.bool false))]) (init := [0, 1]) (fin := [0, 1]) (sps := [⟨[], [], [2], [(.slot 4)]⟩, ⟨[], [], [3], [(.slot 5)]⟩, ⟨[], [], [4], [(.slot 6)]⟩]) (es' := [(_, _), (_, _)]) (by kernel_rfl) rfl rfl
   ⟨st_plain rfl (op_assign _ _ _ _ rfl rfl),
   st_plain rfl (op_assign _ _ _ _ rfl rfl),
   st_plain rfl (op_assign _ _ _ _ rfl rfl),
   trivial⟩ ?_
  refine pt_then ?_
  refine ht_seq ?_
  refine ht_seq ?_
  obtain ⟨v1, hv1, h⟩ := bind_some h
  refine ht_seqR hn (El := [_, _, (8, .v (.string s)), (9, .v (.string sep)), (10, .v (.int .i64 v1)), (7, .v (.int .i64 v1))]) (init := [0, 1]) (fin := [0, 1, 5]) (sps := [⟨[0], [], [2], [(.slot 8)]⟩, ⟨[1], [], [3], [(.slot 9)]⟩, ⟨[2, 3], [], [4], [(.slot 10)]⟩, ⟨[4], [], [5], [(.slot 7)]⟩]) (es' := [(_, _), (_, _), (7, .v (.int .i64 v1))]) (by kernel_rfl) rfl rfl
   ⟨st_plain rfl (op_move _ _ _ _ rfl rfl),
   st_plain rfl (op_move _ _ _ _ rfl rfl),
   st_plain rfl (op_call _ _ 48 _ _ rfl Tryd.call48 rfl (ok_internal_stringslite_Index s sep _ hv1) rfl rfl),
   st_plain rfl (op_assign _ _ _ _ rfl rfl),
   trivial⟩ ?_
  refine pt_then ?_
  refine ht_seq ?_
  refine ht_seqR hn (El := [_, _, _, (11, .v (.int .i64 v1)), (12, .v (.bool ((decide (0 ≤ v1)))))]) (init := [0, 1, 2]) (fin := [0, 1, 2, 4]) (sps := [⟨[2], [], [3], [(.slot 11)]⟩, ⟨[3], [], [4], [(.slot 12)]⟩]) (es' := [(_, _), (_, _), (_, _), (12, .v (.bool ((decide (0 ≤ v1)))))]) (by kernel_rfl) rfl rfl
   ⟨st_plain rfl (op_move _ _ _ _ rfl rfl),
   st_plain rfl (op_bin _ _ _ _ _ rfl rfl rfl),
   trivial⟩ ?_
  refine pt_then ?_
  refine ht_cond _ rfl (fun hb2 => ?_) (fun hb2 => ?_)
  ·have h := cond_t hb2 h
   refine ht_seq ?_
   obtain ⟨v3, hv3, h⟩ := bind_some h
   obtain ⟨v4, hv4, h⟩ := bind_some h
   obtain ⟨v5, hv5, h⟩ := bind_some h
   refine ht_anyR (by kernel_rfl) hn (El := (_ :: _ :: _ :: _ :: (13, .v (.string s)) :: (14, .v (.int .i64 v1)) :: (15, .v (.string v3)) :: (16, .v (.string s)) :: (17, .v (.int .i64 v1)) :: (18, .v (.string sep)) :: (19, .v (.int .i64 (sep.size : Int))) :: (20, .v (.int .i64 v4)) :: (21, .v (.string v5)) :: (4, .v (.string v3)) :: (5, .v (.string v5)) :: (6, .v (.bool true)) :: [])) (init := [0, 1, 2, 3]) (fin := [13, 14, 15]) (sps := [⟨[0], [], [4], [(.slot 13)]⟩, ⟨[2], [], [5], [(.slot 14)]⟩, ⟨[4, 5], [], [6], [(.slot 15)]⟩, ⟨[0], [], [7], [(.slot 16)]⟩, ⟨[2], [], [8], [(.slot 17)]⟩, ⟨[1], [], [9], [(.slot 18)]⟩, ⟨[9], [], [10], [(.slot 19)]⟩, ⟨[8, 10], [], [11], [(.slot 20)]⟩, ⟨[7, 11], [], [12], [(.slot 21)]⟩, ⟨[6], [], [13], [(.slot 4)]⟩, ⟨[12], [], [14], [(.slot 5)]⟩, ⟨[], [], [15], [(.slot 6)]⟩]) (es' := [(4, .v (.string v3)), (5, .v (.string v5)), (6, .v (.bool true))]) (by kernel_rfl) rfl rfl
    ⟨st_plain rfl (op_move _ _ _ _ rfl rfl),
    st_plain rfl (op_move _ _ _ _ rfl rfl),
    st_plain rfl (op_substr _ _ _ 0 v1 _ Tryd.underlying9 rfl rfl ⟨_, rfl⟩ hv3),
    st_plain rfl (op_move _ _ _ _ rfl rfl),
    st_plain rfl (op_move _ _ _ _ rfl rfl),
    st_plain rfl (op_move _ _ _ _ rfl rfl),
    st_plain rfl (op_len_str _ _ _ Tryd.underlying9 rfl),
    st_plain rfl (op_bin _ _ _ _ _ rfl rfl (ibind (f := Value.int .i64) (Option.some.inj hv4))),
    st_plain rfl (op_substr _ _ _ v4 (s.size : Int) _ Tryd.underlying9 rfl ⟨_, rfl⟩ rfl hv5),
    st_plain rfl (op_assign _ _ _ _ rfl rfl),
    st_plain rfl (op_assign _ _ _ _ rfl rfl),
    st_plain rfl (op_assign _ _ _ _ rfl rfl),
    trivial⟩ ?_
   refine pt_then ?_
   refine ht_ret ?_
   refine pt_r_then ?_
   obtain rfl := Option.some.inj h
   exact pt_ret hio rfl (.tmp _ _ (.tmp _ _ (.tmp _ _ .nil))) rfl rfl
  ·have h := cond_f hb2 h
   refine ht_skip ?_
   refine pt_then ?_
   refine ht_seq ?_
   refine ht_seqR hn (El := [_, _, _, _, (22, .v (.string s)), (4, .v (.string s)), (5, .v (.string (⟨#[]⟩ : ByteArray))), (6, .v (.bool false))]) (init := [0, 1, 2, 3]) (fin := [5, 6, 7]) (sps := [⟨[0], [], [4], [(.slot 22)]⟩, ⟨[4], [], [5], [(.slot 4)]⟩, ⟨[], [], [6], [(.slot 5)]⟩, ⟨[], [], [7], [(.slot 6)]⟩]) (es' := [(4, .v (.string s)), (5, .v (.string (⟨#[]⟩ : ByteArray))), (6, .v (.bool false))]) (by kernel_rfl) rfl rfl
    ⟨st_plain rfl (op_move _ _ _ _ rfl rfl),
    st_plain rfl (op_assign _ _ _ _ rfl rfl),
    st_plain rfl (op_assign _ _ _ _ rfl rfl),
    st_plain rfl (op_assign _ _ _ _ rfl rfl),
    trivial⟩ ?_
   refine pt_then ?_
   refine ht_ret ?_
   obtain rfl := Option.some.inj h
   exact pt_ret hio rfl (.tmp _ _ (.tmp _ _ (.tmp _ _ .nil))) rfl rfl

set_option maxHeartbeats 1000000 in
theorem ok_strings_Cut (s : ByteArray) (sep : ByteArray) (r : (ByteArray × ByteArray × Bool)) (h : Sh.strings_Cut s sep = some r) : FnOK Tryd.prog 28 [.v (.string s), .v (.string sep)] (.tup [.v (.string r.1), .v (.string r.2.1), .v (.bool r.2.2)]) := by
  unfold Sh.strings_Cut at h
  refine fn_ok Tryd.func28 rfl (Nat.le_of_ble_eq_true rfl) rfl rfl fun g0 hn hio => ?_
  refine ht_seq ?_
  refine ht_seqR hn (El := [_, _, (4, .v (.string (⟨#[]⟩ : ByteArray))), (5, .v (.string (⟨#[]⟩ : ByteArray))), (6, .v (.bool false))]) (init := [0, 1]) (fin := [0, 1]) (sps := [⟨[], [], [2], [(.slot 4)]⟩, ⟨[], [], [3], [(.slot 5)]⟩, ⟨[], [], [4], [(.slot 6)]⟩]) (es' := [(_, _), (_, _)]) (by kernel_rfl) rfl rfl
   ⟨st_plain rfl (op_assign _ _ _ _ rfl rfl),
   st_plain rfl (op_assign _ _ _ _ rfl rfl),
   st_plain rfl (op_assign _ _ _ _ rfl rfl),
   trivial⟩ ?_
  refine pt_then ?_
  refine ht_seq ?_
  obtain ⟨v1, hv1, h⟩ := bind_some h
  refine ht_seqR hn (El := [_, _, (7, .v (.string s)), (8, .v (.string sep)), (9, .tup [.v (.string v1.1), .v (.string v1.2.1), .v (.bool v1.2.2)]), (10, .v (.string v1.1)), (11, .v (.string v1.2.1)), (12, .v (.bool v1.2.2)), (4, .v (.string v1.1)), (5, .v (.string v1.2.1)), (6, .v (.bool v1.2.2))]) (init := [0, 1]) (fin := [8, 9, 10]) (sps := [⟨[0], [], [2], [(.slot 7)]⟩, ⟨[1], [], [3], [(.slot 8)]⟩, ⟨[2, 3], [], [4], [(.slot 9)]⟩, ⟨[4], [], [5], [(.slot 10)]⟩, ⟨[4], [], [6], [(.slot 11)]⟩, ⟨[4], [], [7], [(.slot 12)]⟩, ⟨[5], [], [8], [(.slot 4)]⟩, ⟨[6], [], [9], [(.slot 5)]⟩, ⟨[7], [], [10], [(.slot 6)]⟩]) (es' := [(4, .v (.string v1.1)), (5, .v (.string v1.2.1)), (6, .v (.bool v1.2.2))]) (by kernel_rfl) rfl rfl
   ⟨st_plain rfl (op_move _ _ _ _ rfl rfl),
   st_plain rfl (op_move _ _ _ _ rfl rfl),
   st_plain rfl (op_call _ _ 39 _ _ rfl Tryd.call39 rfl (ok_internal_stringslite_Cut s sep _ hv1) rfl rfl),
   st_plain rfl (op_extract _ _ _ _ _ rfl rfl (Nat.le_of_ble_eq_true rfl) rfl rfl),
   st_plain rfl (op_extract _ _ _ _ _ rfl rfl (Nat.le_of_ble_eq_true rfl) rfl rfl),
   st_plain rfl (op_extract _ _ _ _ _ rfl rfl (Nat.le_of_ble_eq_true rfl) rfl rfl),
   st_plain rfl (op_assign _ _ _ _ rfl rfl),
   st_plain rfl (op_assign _ _ _ _ rfl rfl),
   st_plain rfl (op_assign _ _ _ _ rfl rfl),
   trivial⟩ ?_
  refine pt_then ?_
  refine ht_ret ?_
  obtain rfl := Option.some.inj h
  exact pt_ret hio rfl (.tmp _ _ (.tmp _ _ (.tmp _ _ .nil))) rfl rfl

theorem ok_strings_IndexByte (s : ByteArray) (c r : Int) (h : Sh.strings_IndexByte s c = some r) : FnOK Tryd.prog 50 [.v (.string s), .v (.int .u8 c)] (.v (.int .i64 r)) := lib_strings_IndexByte Tryd.strings_IndexByte s c r h

set_option maxHeartbeats 1000000 in
theorem ok_path_atom_1 (c : Int) (r : Bool) (h : Sh.path_atom_1 c = some r) : FnOK Tryd.prog 49 [.v (.int .u8 c)] (.v (.bool r)) := by
  unfold Sh.path_atom_1 at h
  refine fn_ok Tryd.func49 rfl (Nat.le_of_ble_eq_true rfl) rfl rfl fun g0 hn hio => ?_
  refine ht_seq ?_
  refine ht_seqR hn (El := [_, (2, .v (.bool false))]) (init := [0]) (fin := [0]) (sps := [⟨[], [], [1], [(.slot 2)]⟩]) (es' := [(_, _)]) (by kernel_rfl) rfl rfl
   ⟨st_plain rfl (op_assign _ _ _ _ rfl rfl),
   trivial⟩ ?_
  refine pt_then ?_
  refine ht_seq ?_
  refine ht_joinS h (fun (s3 : Bool) => [(2, .v (.bool s3))]) ?_ ?_
  ·rintro s3 h
   refine pt_then ?_
   refine ht_ret ?_
   obtain rfl := Option.some.inj h
   exact pt_ret hio rfl (.tmp _ _ .nil) rfl rfl
  ·intro u4 h hl5 hr6
   obtain ⟨v1, hv1, h⟩ := bind_some h
   refine cond_some h (fun hg1_2 h => ?_) (fun hg1_2 h => ?_)
   ·refine ht_seqR hn (El := [_, (3, .v (.int .u8 c)), (4, .v (.bool v1)), (5, .v (.bool true)), (6, .v undef), (7, .v undef), (8, .v undef), (9, .v (.bool true)), (2, .v (.bool true))]) (init := [0]) (fin := [8]) (sps := [⟨[0], [], [1], [(.slot 3)]⟩, ⟨[1], [], [2], [(.slot 4)]⟩, ⟨[2], [], [3], [(.slot 5)]⟩, ⟨[3], [], [4], [(.slot 6)]⟩, ⟨[3], [], [5], [(.slot 7)]⟩, ⟨[3], [], [6], [(.slot 8)]⟩, ⟨[3], [], [7], [(.slot 9)]⟩, ⟨[7], [], [8], [(.slot 2)]⟩]) (es' := [(2, .v (.bool true))]) (by kernel_rfl) rfl rfl
     ⟨st_plain rfl (op_move _ _ _ _ rfl rfl),
     st_plain rfl (op_call _ _ 45 _ _ rfl Tryd.call45 rfl (ok_path_alphanumeric c _ hv1) rfl rfl),
     st_plain rfl (op_move _ _ _ _ (congrArg (fun b => AV.v (Value.bool b)) hg1_2) rfl),
     st_skip 2 5 _ false rfl rfl rfl rfl (List.Mem.head _),
     st_skip 2 5 _ false rfl rfl rfl rfl (List.Mem.head _),
     st_skip 2 5 _ false rfl rfl rfl rfl (List.Mem.head _),
     st_plain rfl (op_pick _ _ true _ rfl rfl),
     st_plain rfl (op_assign _ _ _ _ rfl rfl),
     trivial⟩ ?_
    exact hl5 _ (Option.some.inj h).symm
   ·obtain ⟨v2, hv2, h⟩ := bind_some h
    refine ht_seqR hn (El := [_, (3, .v (.int .u8 c)), (4, .v (.bool v1)), (5, .v (.bool false)), (6, .v (.int .u8 c)), (7, .v (.int .i64 v2)), (8, .v (.bool ((decide (0 ≤ v2))))), (9, .v (.bool ((decide (0 ≤ v2))))), (2, .v (.bool ((decide (0 ≤ v2)))))]) (init := [0]) (fin := [8]) (sps := [⟨[0], [], [1], [(.slot 3)]⟩, ⟨[1], [], [2], [(.slot 4)]⟩, ⟨[2], [], [3], [(.slot 5)]⟩, ⟨[3, 0], [], [4], [(.slot 6)]⟩, ⟨[3, 4], [], [5], [(.slot 7)]⟩, ⟨[3, 5], [], [6], [(.slot 8)]⟩, ⟨[3, 6], [], [7], [(.slot 9)]⟩, ⟨[7], [], [8], [(.slot 2)]⟩]) (es' := [(2, .v (.bool ((decide (0 ≤ v2)))))]) (by kernel_rfl) rfl rfl
     ⟨st_plain rfl (op_move _ _ _ _ rfl rfl),
     st_plain rfl (op_call _ _ 45 _ _ rfl Tryd.call45 rfl (ok_path_alphanumeric c _ hv1) rfl rfl),
     st_plain rfl (op_move _ _ _ _ (congrArg (fun b => AV.v (Value.bool b)) hg1_2) rfl),
     st_run 2 5 false rfl rfl rfl (List.Mem.head _) (op_move _ _ _ _ rfl rfl),
     st_run 2 5 false rfl rfl rfl (List.Mem.head _) (op_call _ _ 50 _ _ rfl Tryd.call50 rfl (ok_strings_IndexByte (⟨#[33, 35, 36, 37, 38, 39, 42, 43, 45, 47, 61, 63, 94, 95, 96, 123, 124, 125, 126]⟩ : ByteArray) c _ hv2) rfl rfl),
     st_run 2 5 false rfl rfl rfl (List.Mem.head _) (op_bin _ _ _ _ _ rfl rfl rfl),
     st_plain rfl (op_pick _ _ false _ rfl rfl),
     st_plain rfl (op_assign _ _ _ _ rfl rfl),
     trivial⟩ ?_
    exact hl5 _ (Option.some.inj h).symm

set_option maxHeartbeats 1000000 in
theorem ok_path_all_of_path_atom_1 (s : ByteArray) (r : Bool) (h : Sh.path_all_of_path_atom_1 s = some r) : FnOK Tryd.prog 43 [.v (.string s), .v (.func (.func 49) #[] #[])] (.v (.bool r)) := by
  unfold Sh.path_all_of_path_atom_1 at h
  refine fn_ok Tryd.func43 rfl (Nat.le_of_ble_eq_true rfl) rfl rfl fun g0 hn hio => ?_
  refine ht_seq ?_
  refine ht_seqR hn (El := [_, _, (4, .v (.bool false))]) (init := [0, 1]) (fin := [0, 1]) (sps := [⟨[], [], [2], [(.slot 4)]⟩]) (es' := [(_, _), (_, _)]) (by kernel_rfl) rfl rfl
   ⟨st_plain rfl (op_assign _ _ _ _ rfl rfl),
   trivial⟩ ?_
  refine pt_then ?_
  refine ht_seq ?_
  refine ht_seq ?_
  refine ht_seqR hn (El := [_, _, (6, .v (.string s)), (7, .v (.int .i64 (s.size : Int))), (8, .v (.int .i64 0))]) (init := [0, 1]) (fin := [0, 1, 3, 4]) (sps := [⟨[0], [], [2], [(.slot 6)]⟩, ⟨[2], [], [3], [(.slot 7)]⟩, ⟨[], [], [4], [(.slot 8)]⟩]) (es' := [(_, _), (_, _), (7, .v (.int .i64 (s.size : Int))), (8, .v (.int .i64 0))]) (by kernel_rfl) rfl rfl
   ⟨st_plain rfl (op_move _ _ _ _ rfl rfl),
   st_plain rfl (op_len_str _ _ _ Tryd.underlying9 rfl),
   st_plain rfl (op_move _ _ _ _ rfl rfl),
   trivial⟩ ?_
  refine pt_then ?_
  refine ht_loopS h (fun (s9 : Int) => [(0, .v (.string s)), (1, .v (.func (.func 49) #[] #[])), (7, .v (.int .i64 (s.size : Int))), (8, .v (.int .i64 s9))]) (fun (() : Unit) => []) ?_ ?_
  ·rintro ⟨⟩ h
   refine pt_then ?_
   refine ht_seq ?_
   refine ht_seqR hn (El := [(4, .v (.bool true))]) (init := []) (fin := [0]) (sps := [⟨[], [], [0], [(.slot 4)]⟩]) (es' := [(4, .v (.bool true))]) (by kernel_rfl) rfl rfl
    ⟨st_plain rfl (op_assign _ _ _ _ rfl rfl),
    trivial⟩ ?_
   refine pt_then ?_
   refine ht_ret ?_
   obtain rfl := Option.some.inj h
   exact pt_ret hio rfl (.tmp _ _ .nil) rfl rfl
  ·rintro u12 hl13 hr14 s9 rr17 h ho15
   refine ht_seq ?_
   refine ht_seqR hn (El := [_, _, _, _, (9, .v (.bool ((decide (s9 < (s.size : Int))))))]) (init := [0, 1, 2, 3]) (fin := [0, 1, 2, 3, 4]) (sps := [⟨[3, 2], [], [4], [(.slot 9)]⟩]) (es' := [(_, _), (_, _), (_, _), (_, _), (9, .v (.bool ((decide (s9 < (s.size : Int))))))]) (by kernel_rfl) rfl rfl
    ⟨st_plain rfl (op_bin _ _ _ _ _ rfl rfl rfl),
    trivial⟩ ?_
   refine pt_then ?_
   refine ht_seq ?_
   refine ht_cond _ rfl (fun hb18 => ?_) (fun hb18 => ?_)
   ·have h := cond_t hb18 h
    refine ht_skip ?_
    refine pt_then ?_
    refine ht_seq ?_
    refine ht_block ?_
    refine ht_seq ?_
    refine ht_seqR hn (El := [_, _, _, _, _, (10, .v (.int .i64 s9)), (5, .v (.int .i64 s9))]) (init := [0, 1, 2, 3, 4]) (fin := [0, 1, 2, 3, 6]) (sps := [⟨[3], [], [5], [(.slot 10)]⟩, ⟨[5], [], [6], [(.slot 5)]⟩]) (es' := [(_, _), (_, _), (_, _), (_, _), (5, .v (.int .i64 s9))]) (by kernel_rfl) rfl rfl
     ⟨st_plain rfl (op_move _ _ _ _ rfl rfl),
     st_plain rfl (op_assign _ _ _ _ rfl rfl),
     trivial⟩ ?_
    refine pt_then ?_
    refine ht_seq ?_
    obtain ⟨v2, hv2, h⟩ := bind_some h
    obtain ⟨v3, hv3, h⟩ := bind_some h
    refine ht_seqR hn (El := [_, _, _, _, _, (11, .v (.func (.func 49) #[] #[])), (12, .v (.string s)), (13, .v (.int .i64 s9)), (14, .v (.int .u8 v2)), (15, .v (.bool v3)), (16, .v (.bool (!v3)))]) (init := [0, 1, 2, 3, 4]) (fin := [0, 1, 2, 3, 10]) (sps := [⟨[1], [], [5], [(.slot 11)]⟩, ⟨[0], [], [6], [(.slot 12)]⟩, ⟨[4], [], [7], [(.slot 13)]⟩, ⟨[6, 7], [], [8], [(.slot 14)]⟩, ⟨[8, 5], [], [9], [(.slot 15)]⟩, ⟨[9], [], [10], [(.slot 16)]⟩]) (es' := [(_, _), (_, _), (_, _), (_, _), (16, .v (.bool (!v3)))]) (by kernel_rfl) rfl rfl
     ⟨st_plain rfl (op_move _ _ _ _ rfl rfl),
     st_plain rfl (op_move _ _ _ _ rfl rfl),
     st_plain rfl (op_move _ _ _ _ rfl rfl),
     st_plain rfl (op_chr _ _ _ s9 _ Tryd.underlying9 rfl rfl hv2),
     st_plain rfl (op_call _ _ 49 _ _ rfl Tryd.call49 rfl (ok_path_atom_1 v2 _ hv3) rfl rfl),
     st_plain rfl (op_un _ _ _ _ rfl rfl),
     trivial⟩ ?_
    refine pt_then ?_
    refine ht_cond _ rfl (fun hb19 => ?_) (fun hb19 => ?_)
    ·have h := cond_t hb19 h
     refine ht_seq ?_
     refine ht_seqR hn (El := [_, _, _, _, _, (4, .v (.bool false))]) (init := [0, 1, 2, 3, 4]) (fin := [5]) (sps := [⟨[], [], [5], [(.slot 4)]⟩]) (es' := [(4, .v (.bool false))]) (by kernel_rfl) rfl rfl
      ⟨st_plain rfl (op_assign _ _ _ _ rfl rfl),
      trivial⟩ ?_
     refine pt_then ?_
     refine ht_ret ?_
     refine pt_r_in ?_
     refine pt_r_then ?_
     refine pt_r_then ?_
     refine pt_r_in ?_
     refine pt_r_then ?_
     have h := hr14 _ (ho15 _ (Option.some.inj h).symm).symm
     obtain rfl := Option.some.inj h
     exact pt_ret hio rfl (.tmp _ _ .nil) rfl rfl
    ·have h := cond_f hb19 h
     refine ht_skip ?_
     refine pt_inb ?_
     refine pt_then ?_
     obtain ⟨v5, hv5, h⟩ := bind_some h
     refine ht_seqR hn (El := [_, _, _, _, _, (17, .v (.int .i64 v5)), (8, .v (.int .i64 v5))]) (init := [0, 1, 2, 3, 4]) (fin := [0, 1, 2, 6]) (sps := [⟨[3], [], [5], [(.slot 17)]⟩, ⟨[5], [3], [6], [(.slot 8)]⟩]) (es' := [(_, _), (_, _), (_, _), (8, .v (.int .i64 v5))]) (by kernel_rfl) rfl rfl
      ⟨st_plain rfl (op_bin _ _ _ _ _ rfl rfl (ibind (f := Value.int .i64) (Option.some.inj hv5))),
      st_plain rfl (LOp.drop [_] (op_move _ _ _ _ rfl rfl)),
      trivial⟩ ?_
     exact pt_next _ (Option.some.inj h).symm rfl
   ·have h := cond_f hb18 h
    refine ht_exit ?_
    refine pt_x_then ?_
    refine pt_x_then ?_
    refine pt_x_in ?_
    refine pt_pick [] (by kernel_rfl) (es' := []) rfl ?_
    exact hl13 _ (ho15 _ (Option.some.inj h).symm).symm

set_option maxHeartbeats 1000000 in
theorem ok_path_atom (s : ByteArray) (r : Bool) (h : Sh.path_atom s = some r) : FnOK Tryd.prog 41 [.v (.string s)] (.v (.bool r)) := by
  unfold Sh.path_atom at h
  refine fn_ok Tryd.func41 rfl (Nat.le_of_ble_eq_true rfl) rfl rfl fun g0 hn hio => ?_
  refine ht_seq ?_
  refine ht_seqR hn (El := [_, (2, .v (.bool false))]) (init := [0]) (fin := [0]) (sps := [⟨[], [], [1], [(.slot 2)]⟩]) (es' := [(_, _)]) (by kernel_rfl) rfl rfl
   ⟨st_plain rfl (op_assign _ _ _ _ rfl rfl),
   trivial⟩ ?_
  refine pt_then ?_
  refine ht_seq ?_
  refine ht_joinS h (fun (s2 : Bool) => [(2, .v (.bool s2))]) ?_ ?_
  ·rintro s2 h
   refine pt_then ?_
   refine ht_ret ?_
   obtain rfl := Option.some.inj h
   exact pt_ret hio rfl (.tmp _ _ .nil) rfl rfl
  ·intro u3 h hl4 hr5
   refine cond_some h (fun hg1_2 h => ?_) (fun hg1_2 h => ?_)
   ·obtain ⟨v1, hv1, h⟩ := bind_some h
    refine ht_seqR hn (El := [_, (3, .v (.string s)), (4, .v (.bool ((!(s.toList == (⟨#[]⟩ : ByteArray).toList))))), (5, .v (.bool true)), (6, .v (.string s)), (7, .v (.bool v1)), (8, .v (.bool v1)), (2, .v (.bool v1))]) (init := [0]) (fin := [7]) (sps := [⟨[0], [], [1], [(.slot 3)]⟩, ⟨[1], [], [2], [(.slot 4)]⟩, ⟨[2], [], [3], [(.slot 5)]⟩, ⟨[3, 0], [], [4], [(.slot 6)]⟩, ⟨[3, 4], [], [5], [(.slot 7)]⟩, ⟨[3, 5], [], [6], [(.slot 8)]⟩, ⟨[6], [], [7], [(.slot 2)]⟩]) (es' := [(2, .v (.bool v1))]) (by kernel_rfl) rfl rfl
     ⟨st_plain rfl (op_move _ _ _ _ rfl rfl),
     st_plain rfl (op_bin _ _ _ _ _ rfl rfl rfl),
     st_plain rfl (op_move _ _ _ _ (congrArg (fun b => AV.v (Value.bool b)) hg1_2) rfl),
     st_run 2 5 true rfl rfl rfl (List.Mem.head _) (op_move _ _ _ _ rfl rfl),
     st_run 2 5 true rfl rfl rfl (List.Mem.head _) (op_call _ _ 43 _ _ rfl Tryd.call43 rfl (ok_path_all_of_path_atom_1 s _ hv1) rfl rfl),
     st_plain rfl (op_pick _ _ true _ rfl rfl),
     st_plain rfl (op_assign _ _ _ _ rfl rfl),
     trivial⟩ ?_
    exact hl4 _ (Option.some.inj h).symm
   ·refine ht_seqR hn (El := [_, (3, .v (.string s)), (4, .v (.bool ((!(s.toList == (⟨#[]⟩ : ByteArray).toList))))), (5, .v (.bool false)), (6, .v undef), (7, .v undef), (8, .v (.bool false)), (2, .v (.bool false))]) (init := [0]) (fin := [7]) (sps := [⟨[0], [], [1], [(.slot 3)]⟩, ⟨[1], [], [2], [(.slot 4)]⟩, ⟨[2], [], [3], [(.slot 5)]⟩, ⟨[3], [], [4], [(.slot 6)]⟩, ⟨[3], [], [5], [(.slot 7)]⟩, ⟨[3], [], [6], [(.slot 8)]⟩, ⟨[6], [], [7], [(.slot 2)]⟩]) (es' := [(2, .v (.bool false))]) (by kernel_rfl) rfl rfl
     ⟨st_plain rfl (op_move _ _ _ _ rfl rfl),
     st_plain rfl (op_bin _ _ _ _ _ rfl rfl rfl),
     st_plain rfl (op_move _ _ _ _ (congrArg (fun b => AV.v (Value.bool b)) hg1_2) rfl),
     st_skip 2 5 _ true rfl rfl rfl rfl (List.Mem.head _),
     st_skip 2 5 _ true rfl rfl rfl rfl (List.Mem.head _),
     st_plain rfl (op_pick _ _ false _ rfl rfl),
     st_plain rfl (op_assign _ _ _ _ rfl rfl),
     trivial⟩ ?_
    exact hl4 _ (Option.some.inj h).symm

set_option maxHeartbeats 1000000 in
theorem ok_path_dotted_of_path_atom (mx : Int) (s : ByteArray) (r : Bool) (h : Sh.path_dotted_of_path_atom s = some r) : FnG Tryd.prog (GL mx) 32 [.v (.string s), .v (.func (.func 41) #[] #[])] (.v (.bool r)) := by
  unfold Sh.path_dotted_of_path_atom at h
  refine fn_okG Tryd.func32 rfl (Nat.le_of_ble_eq_true rfl) rfl rfl fun g0 hn hio => ?_
  refine ht_seq ?_
  refine ht_seqR hn (El := [_, _, _, (3, .box 33 [.v (.func (.func 41) #[] #[])]), (4, .box 4 [.v (.bool false)])]) (init := [0, 1, 2]) (fin := [0, 2, 3, 4]) (sps := [⟨[1], [], [3], [(.slot 3)]⟩, ⟨[], [], [4], [(.slot 4)]⟩]) (es' := [(_, _), (_, _), (3, .box 33 [.v (.func (.func 41) #[] #[])]), (4, .box 4 [.v (.bool false)])]) (by kernel_rfl) rfl rfl
   ⟨st_plain rfl (op_box _ _ _ _ rfl rfl rfl),
   st_plain rfl (op_alloc _ _ zr4),
   trivial⟩ ?_
  refine pt_then ?_
  refine ht_seq ?_
  refine ht_seq ?_
  obtain ⟨v1, hv1, h⟩ := bind_some h
  refine ht_seqR hn (El := [_, _, _, _, (6, .v (.string s)), (7, .cloB 56 [.box 9 [.v (.string v1.1)], .box 9 [.v (.string v1.2.1)], .box 3 [.v (.int .i64 v1.2.2)]])]) (init := [0, 1, 2, 3]) (fin := [1, 2, 3, 5]) (sps := [⟨[0], [], [4], [(.slot 6)]⟩, ⟨[4], [], [5], [(.slot 7)]⟩]) (es' := [(_, _), (_, _), (_, _), (7, .cloB 56 [.box 9 [.v (.string v1.1)], .box 9 [.v (.string v1.2.1)], .box 3 [.v (.int .i64 v1.2.2)]])]) (by kernel_rfl) rfl rfl
   ⟨st_plain rfl (op_move _ _ _ _ rfl rfl),
   st_plain rfl (op_callS _ _ 42 _ _ rfl Tryd.call42 rfl rfl (ok_strings_SplitSeq s (⟨#[46]⟩ : ByteArray) _ hv1) rfl),
   trivial⟩ ?_
  refine pt_then ?_
  refine ht_block ?_
  refine ht_pick [3, 0, 1, 2] (by kernel_rfl) (es' := [(7, .cloB 56 [.box 9 [.v (.string v1.1)], .box 9 [.v (.string v1.2.1)], .box 3 [.v (.int .i64 v1.2.2)]]), (13, .glob (GL mx)), (3, .box 33 [.v (.func (.func 41) #[] #[])]), (4, .box 4 [.v (.bool false)])]) rfl ?_
  refine ht_rangeF h 56 7 8 14 _ [13, 3, 4] Tryd.call56 (fun (() : Unit) => [(13, .glob (GL mx)), (3, .box 33 [.v (.func (.func 41) #[] #[])]), (4, .box 4 [.v (.bool false)])]) (fun (() : Unit) => [(13, .glob (GL mx)), (3, .box 33 [.v (.func (.func 41) #[] #[])]), (4, .box 4 [.v (.bool false)])]) (fun l J Y hY t t' h => ok_strings_splitSeq_1 mx l J Y hY v1.1 v1.2.1 v1.2.2 t t' h) hn rfl (fun _ => rfl) (fun _ => rfl) (fun _ => rfl) rfl rfl (fun _ => ⟨rfl, rfl⟩) rfl (glIn_look 13 rfl) ?_ ?_ ?_
  ·rintro kk g0 hn hio x ⟨⟩ u h
   refine ht_es (es' := [(8, .v (.string x)), (13, .glob (GL mx)), (3, .box 33 [.v (.func (.func 41) #[] #[])]), (4, .box 4 [.v (.bool false)]), (13, .v (kk.tm.getD 13 undef)), (3, .v (kk.tm.getD 3 undef)), (4, .v (kk.tm.getD 4 undef)), (14, .inv kk.ready)]) rfl ?_
   refine ht_seqR hn (El := [_, _, _, _, _, _, _, _, (5, .v (.string x))]) (init := [0, 1, 2, 3, 4, 5, 6, 7]) (fin := [1, 2, 3, 4, 5, 6, 7, 8]) (sps := [⟨[0], [], [8], [(.slot 5)]⟩]) (es' := [(_, _), (_, _), (_, _), (_, _), (_, _), (_, _), (_, _), (5, .v (.string x))]) (by kernel_rfl) rfl rfl
    ⟨st_plain rfl (op_assign _ _ _ _ rfl rfl),
    trivial⟩ ?_
   refine pt_pick [0, 1, 2, 3, 4, 5, 7, 6] (by kernel_rfl) (es' := [(13, .glob (GL mx)), (3, .box 33 [.v (.func (.func 41) #[] #[])]), (4, .box 4 [.v (.bool false)]), (13, .v (kk.tm.getD 13 undef)), (3, .v (kk.tm.getD 3 undef)), (4, .v (kk.tm.getD 4 undef)), (5, .v (.string x)), (14, .inv kk.ready)]) rfl ?_
   refine pt_begin (es := [(13, .glob (GL mx)), (3, .box 33 [.v (.func (.func 41) #[] #[])]), (4, .box 4 [.v (.bool false)]), (13, .v (kk.tm.getD 13 undef)), (3, .v (kk.tm.getD 3 undef)), (4, .v (kk.tm.getD 4 undef)), (5, .v (.string x))]) 14 rfl ?_
   refine ht_block ?_
   refine ht_seq ?_
   obtain ⟨v2, hv2, h⟩ := bind_some h
   refine ht_seqR hn (El := [_, _, _, _, _, _, _, _, (9, .v (.func (.func 41) #[] #[])), (10, .v (.string x)), (11, .v (.bool v2)), (12, .v (.bool (!v2)))]) (init := [0, 1, 2, 3, 4, 5, 6, 7]) (fin := [0, 1, 2, 3, 4, 5, 7, 11]) (sps := [⟨[1], [], [8], [(.slot 9)]⟩, ⟨[6], [], [9], [(.slot 10)]⟩, ⟨[9, 8], [], [10], [(.slot 11)]⟩, ⟨[10], [], [11], [(.slot 12)]⟩]) (es' := [(_, _), (_, _), (_, _), (_, _), (_, _), (_, _), (_, _), (12, .v (.bool (!v2)))]) (by kernel_rfl) rfl rfl
    ⟨st_plain rfl (op_load _ _ _ _ _ _ Tryd.underlying33 rfl rfl rfl (Nat.le_of_ble_eq_true rfl) rfl rfl rfl),
    st_plain rfl (op_move _ _ _ _ rfl rfl),
    st_plain rfl (op_call _ _ 41 _ _ rfl Tryd.call41 rfl (ok_path_atom x _ hv2) rfl rfl),
    st_plain rfl (op_un _ _ _ _ rfl rfl),
    trivial⟩ ?_
   refine pt_then ?_
   refine ht_cond _ rfl (fun hb5 => ?_) (fun hb5 => ?_)
   ·have h := cond_t hb5 h
    refine ht_seq ?_
    refine ht_seqR hn (El := [_, _, _, _, _, _, _, _, (4, .box 4 [.v (.bool false)])]) (init := [0, 1, 2, 3, 4, 5, 6, 7]) (fin := [0, 1, 8, 3, 4, 5, 6]) (sps := [⟨[], [2], [8], [.cell 4 0]⟩]) (es' := [(_, _), (_, _), (4, .box 4 [.v (.bool false)]), (_, _), (_, _), (_, _), (_, _)]) (by kernel_rfl) rfl rfl
     ⟨st_plain rfl (op_store _ _ _ _ _ _ _ _ sz4 rfl rfl rfl rfl (Nat.le_of_ble_eq_true rfl) rfl rfl),
     trivial⟩ ?_
    refine pt_then ?_
    refine ht_ret ?_
    refine pt_r_in ?_
    obtain rfl := Option.some.inj h
    exact pt_rret 14 [13, 3, 4] _ rfl rfl (by kernel_rfl)
   ·have h := cond_f hb5 h
    refine ht_skip ?_
    refine pt_inb ?_
    refine pt_pick [0, 1, 2, 3, 4, 5, 6] (by kernel_rfl) (es' := [(_, _), (_, _), (_, _), (_, _), (_, _), (_, _), (_, _)]) rfl ?_
    obtain rfl := Option.some.inj h
    exact pt_rnext 14 [13, 3, 4] _ rfl rfl (by kernel_rfl)
  ·rintro D ⟨⟩ h
   refine pt_inb ?_
   refine pt_then ?_
   refine ht_seq ?_
   refine ht_seqR hn (El := [_, _, _, (4, .box 4 [.v (.bool true)])]) (init := [0, 1, 2]) (fin := [0, 3]) (sps := [⟨[], [2], [3], [.cell 4 0]⟩]) (es' := [(_, _), (4, .box 4 [.v (.bool true)])]) (by kernel_rfl) rfl rfl
    ⟨st_plain rfl (op_store _ _ _ _ _ _ _ _ sz4 rfl rfl rfl rfl (Nat.le_of_ble_eq_true rfl) rfl rfl),
    trivial⟩ ?_
   refine pt_then ?_
   refine ht_ret ?_
   refine pt_pick [1] (by kernel_rfl) (es' := [(_, _)]) rfl ?_
   obtain rfl := Option.some.inj h
   exact pt_ret hio rfl (.cell1 _ _ _ _ Tryd.underlying4 rfl .nil) rfl rfl
  ·rintro D ⟨⟩ h
   refine pt_pick [2] (by kernel_rfl) (es' := [(_, _)]) rfl ?_
   refine pt_r_in ?_
   refine pt_r_then ?_
   obtain rfl := Option.some.inj h
   exact pt_ret hio rfl (.cell1 _ _ _ _ Tryd.underlying4 rfl .nil) rfl rfl

set_option maxHeartbeats 1000000 in
theorem ok_path_local (mx : Int) (s : ByteArray) (r : Bool) (h : Sh.path_local s = some r) : FnG Tryd.prog (GL mx) 31 [.v (.string s)] (.v (.bool r)) := by
  unfold Sh.path_local at h
  refine fn_okG Tryd.func31 rfl (Nat.le_of_ble_eq_true rfl) rfl rfl fun g0 hn hio => ?_
  refine ht_seq ?_
  refine ht_seqR hn (El := [_, _, (2, .v (.bool false))]) (init := [0, 1]) (fin := [0, 1]) (sps := [⟨[], [], [2], [(.slot 2)]⟩]) (es' := [(_, _), (_, _)]) (by kernel_rfl) rfl rfl
   ⟨st_plain rfl (op_assign _ _ _ _ rfl rfl),
   trivial⟩ ?_
  refine pt_then ?_
  refine ht_seq ?_
  refine ht_joinS h (fun (s2 : Bool) => [(10, .glob (GL mx)), (2, .v (.bool s2))]) ?_ ?_
  ·rintro s2 h
   refine pt_then ?_
   refine ht_ret ?_
   refine pt_pick [1] (by kernel_rfl) (es' := [(_, _)]) rfl ?_
   obtain rfl := Option.some.inj h
   exact pt_ret hio rfl (.tmp _ _ .nil) rfl rfl
  ·intro u3 h hl4 hr5
   refine cond_some h (fun hg1_3 h => ?_) (fun hg1_3 h => ?_)
   ·obtain ⟨v1, hv1, h⟩ := bind_some h
    refine ht_seqR hn (El := [_, _, (3, .v (.string s)), (4, .v (.int .i64 (s.size : Int))), (5, .v (.bool ((decide ((s.size : Int) ≤ 64))))), (6, .v (.bool true)), (7, .v (.string s)), (8, .v (.bool v1)), (9, .v (.bool v1)), (2, .v (.bool v1))]) (init := [0, 1]) (fin := [1, 9]) (sps := [⟨[0], [], [2], [(.slot 3)]⟩, ⟨[2], [], [3], [(.slot 4)]⟩, ⟨[3], [], [4], [(.slot 5)]⟩, ⟨[4], [], [5], [(.slot 6)]⟩, ⟨[5, 0], [], [6], [(.slot 7)]⟩, ⟨[5, 6, 1], [], [7], [(.slot 8)]⟩, ⟨[5, 7], [], [8], [(.slot 9)]⟩, ⟨[8], [], [9], [(.slot 2)]⟩]) (es' := [(_, _), (2, .v (.bool v1))]) (by kernel_rfl) rfl rfl
     ⟨st_plain rfl (op_move _ _ _ _ rfl rfl),
     st_plain rfl (op_len_str _ _ _ Tryd.underlying9 rfl),
     st_plain rfl (op_bin _ _ _ _ _ rfl rfl rfl),
     st_plain rfl (op_move _ _ _ _ (congrArg (fun b => AV.v (Value.bool b)) hg1_3) rfl),
     st_run 3 6 true rfl rfl rfl (List.Mem.head _) (op_move _ _ _ _ rfl rfl),
     st_run 3 6 true rfl rfl rfl (List.Mem.head _) (op_callG _ _ 10 32 _ _ rfl Tryd.call32 rfl rfl (fun _ h => h) (ok_path_dotted_of_path_atom mx s _ hv1) rfl rfl),
     st_plain rfl (op_pick _ _ true _ rfl rfl),
     st_plain rfl (op_assign _ _ _ _ rfl rfl),
     trivial⟩ ?_
    exact hl4 _ (Option.some.inj h).symm
   ·refine ht_seqR hn (El := [_, _, (3, .v (.string s)), (4, .v (.int .i64 (s.size : Int))), (5, .v (.bool ((decide ((s.size : Int) ≤ 64))))), (6, .v (.bool false)), (7, .v undef), (8, .v undef), (9, .v (.bool false)), (2, .v (.bool false))]) (init := [0, 1]) (fin := [1, 9]) (sps := [⟨[0], [], [2], [(.slot 3)]⟩, ⟨[2], [], [3], [(.slot 4)]⟩, ⟨[3], [], [4], [(.slot 5)]⟩, ⟨[4], [], [5], [(.slot 6)]⟩, ⟨[5], [], [6], [(.slot 7)]⟩, ⟨[5], [], [7], [(.slot 8)]⟩, ⟨[5], [], [8], [(.slot 9)]⟩, ⟨[8], [], [9], [(.slot 2)]⟩]) (es' := [(_, _), (2, .v (.bool false))]) (by kernel_rfl) rfl rfl
     ⟨st_plain rfl (op_move _ _ _ _ rfl rfl),
     st_plain rfl (op_len_str _ _ _ Tryd.underlying9 rfl),
     st_plain rfl (op_bin _ _ _ _ _ rfl rfl rfl),
     st_plain rfl (op_move _ _ _ _ (congrArg (fun b => AV.v (Value.bool b)) hg1_3) rfl),
     st_skip 3 6 _ true rfl rfl rfl rfl (List.Mem.head _),
     st_skip 3 6 _ true rfl rfl rfl rfl (List.Mem.head _),
     st_plain rfl (op_pick _ _ false _ rfl rfl),
     st_plain rfl (op_assign _ _ _ _ rfl rfl),
     trivial⟩ ?_
    exact hl4 _ (Option.some.inj h).symm

set_option maxHeartbeats 1000000 in
theorem ok_path_Check (mx : Int) (p : T_Path) (r : Int) (h : Sh.path_Check p = some r) : FnG Tryd.prog (GL mx) 13 [.agg [.v (.bool p.Null), .v (.string p.Local), .v (.string p.Domain)]] (.v (.int .i64 r)) := by
  unfold Sh.path_Check at h
  refine fn_okG Tryd.func13 rfl (Nat.le_of_ble_eq_true rfl) rfl rfl fun g0 hn hio => ?_
  refine ht_seq ?_
  refine ht_seqR hn (El := [_, _, (1, .box 23 [.v (.bool p.Null), .v (.string p.Local), .v (.string p.Domain)]), (2, .v (.int .i64 0))]) (init := [0, 1]) (fin := [1, 2]) (sps := [⟨[0], [], [2], [(.slot 1)]⟩, ⟨[], [], [3], [(.slot 2)]⟩]) (es' := [(_, _), (1, .box 23 [.v (.bool p.Null), .v (.string p.Local), .v (.string p.Domain)])]) (by kernel_rfl) rfl rfl
   ⟨st_plain rfl (op_box _ _ _ _ rfl rfl rfl),
   st_plain rfl (op_assign _ _ _ _ rfl rfl),
   trivial⟩ ?_
  refine pt_then ?_
  refine ht_seq ?_
  refine ht_seqR hn (El := [_, _, (5, .agg [.v (.bool p.Null), .v (.string p.Local), .v (.string p.Domain)]), (6, .agg [.v (.bool true), .v (.string (⟨#[]⟩ : ByteArray)), .v (.string (⟨#[]⟩ : ByteArray))]), (7, .v (.bool (((p.Null == true) && ((p.Local.toList == (⟨#[]⟩ : ByteArray).toList) && ((p.Domain.toList == (⟨#[]⟩ : ByteArray).toList) && true)))))), (3, .v (.bool (((p.Null == true) && ((p.Local.toList == (⟨#[]⟩ : ByteArray).toList) && ((p.Domain.toList == (⟨#[]⟩ : ByteArray).toList) && true))))))]) (init := [0, 1]) (fin := [0, 1, 5]) (sps := [⟨[1], [], [2], [(.slot 5)]⟩, ⟨[], [], [3], [(.slot 6)]⟩, ⟨[2, 3], [], [4], [(.slot 7)]⟩, ⟨[4], [], [5], [(.slot 3)]⟩]) (es' := [(_, _), (_, _), (3, .v (.bool (((p.Null == true) && ((p.Local.toList == (⟨#[]⟩ : ByteArray).toList) && ((p.Domain.toList == (⟨#[]⟩ : ByteArray).toList) && true))))))]) (by kernel_rfl) rfl rfl
   ⟨st_plain rfl (op_loadA _ _ _ _ _ _ _ Tryd.underlying23 rfl sz23 rfl rfl (Nat.le_of_ble_eq_true rfl) rfl rfl),
   st_plain rfl (op_build _ _ _ _ [1, 1, 1] _ _ Tryd.underlying23 zr23 (fs23 _ Tryd.underlying23) (.copy _ Src.nil) rfl rfl rfl),
   st_plain rfl (op_eq_st _ _ [.bool p.Null, .string p.Local, .string p.Domain] [.bool true, .string (⟨#[]⟩ : ByteArray), .string (⟨#[]⟩ : ByteArray)] (((p.Null == true) && ((p.Local.toList == (⟨#[]⟩ : ByteArray).toList) && ((p.Domain.toList == (⟨#[]⟩ : ByteArray).toList) && true)))) _ false (by kernel_rfl) (by kernel_rfl) (by kernel_rfl) (by kernel_rfl) (by kernel_rfl) rfl rfl rfl rfl (by kernel_rfl) rfl),
   st_plain rfl (op_assign _ _ _ _ rfl rfl),
   trivial⟩ ?_
  refine pt_then ?_
  refine ht_seq ?_
  refine ht_joinS h (fun (s3 : Bool) => [(27, .glob (GL mx)), (3, .v (.bool (((p.Null == true) && ((p.Local.toList == (⟨#[]⟩ : ByteArray).toList) && ((p.Domain.toList == (⟨#[]⟩ : ByteArray).toList) && true)))))), (4, .v (.bool s3))]) ?_ ?_
  ·rintro s3 h
   refine pt_then ?_
   refine ht_seq ?_
   refine ht_seq ?_
   refine ht_joinS h (fun (s7 : Bool) => [(27, .glob (GL mx)), (26, .v (.bool s7))]) ?_ ?_
   ·rintro s7 h
    refine pt_then ?_
    refine ht_cond _ rfl (fun hb11 => ?_) (fun hb11 => ?_)
    ·have h := cond_t hb11 h
     refine ht_seq ?_
     refine ht_seqR hn (El := [_, _, (2, .v (.int .i64 5))]) (init := [0, 1]) (fin := [0, 2]) (sps := [⟨[], [], [2], [(.slot 2)]⟩]) (es' := [(_, _), (2, .v (.int .i64 5))]) (by kernel_rfl) rfl rfl
      ⟨st_plain rfl (op_assign _ _ _ _ rfl rfl),
      trivial⟩ ?_
     refine pt_then ?_
     refine ht_ret ?_
     refine pt_pick [1] (by kernel_rfl) (es' := [(_, _)]) rfl ?_
     refine pt_r_then ?_
     obtain rfl := Option.some.inj h
     exact pt_ret hio rfl (.tmp _ _ .nil) rfl rfl
    ·have h := cond_f hb11 h
     refine ht_skip ?_
     refine pt_then ?_
     refine ht_seq ?_
     refine ht_seqR hn (El := [_, _, (2, .v (.int .i64 0))]) (init := [0, 1]) (fin := [0, 2]) (sps := [⟨[], [], [2], [(.slot 2)]⟩]) (es' := [(_, _), (2, .v (.int .i64 0))]) (by kernel_rfl) rfl rfl
      ⟨st_plain rfl (op_assign _ _ _ _ rfl rfl),
      trivial⟩ ?_
     refine pt_then ?_
     refine ht_ret ?_
     refine pt_pick [1] (by kernel_rfl) (es' := [(_, _)]) rfl ?_
     obtain rfl := Option.some.inj h
     exact pt_ret hio rfl (.tmp _ _ .nil) rfl rfl
   ·intro u8 h hl9 hr10
    refine cond_some h (fun hg3_2 h => ?_) (fun hg3_2 h => ?_)
    ·refine ht_seqR hn (El := [_, _, _, (21, .v (.bool (((p.Null == true) && ((p.Local.toList == (⟨#[]⟩ : ByteArray).toList) && ((p.Domain.toList == (⟨#[]⟩ : ByteArray).toList) && true)))))), (22, .v (.bool ((!(((p.Null == true) && ((p.Local.toList == (⟨#[]⟩ : ByteArray).toList) && ((p.Domain.toList == (⟨#[]⟩ : ByteArray).toList) && true)))))))), (23, .v (.bool true)), (24, .v (.bool s3)), (25, .v (.bool (!s3))), (26, .v (.bool (!s3)))]) (init := [0, 1, 2]) (fin := [0, 8]) (sps := [⟨[1], [], [3], [(.slot 21)]⟩, ⟨[3], [], [4], [(.slot 22)]⟩, ⟨[4], [], [5], [(.slot 23)]⟩, ⟨[5, 2], [], [6], [(.slot 24)]⟩, ⟨[5, 6], [], [7], [(.slot 25)]⟩, ⟨[5, 7], [], [8], [(.slot 26)]⟩]) (es' := [(_, _), (26, .v (.bool (!s3)))]) (by kernel_rfl) rfl rfl
      ⟨st_plain rfl (op_move _ _ _ _ rfl rfl),
      st_plain rfl (op_un _ _ _ _ rfl rfl),
      st_plain rfl (op_move _ _ _ _ (congrArg (fun b => AV.v (Value.bool b)) hg3_2) rfl),
      st_run 2 23 true rfl rfl rfl (List.Mem.head _) (op_move _ _ _ _ rfl rfl),
      st_run 2 23 true rfl rfl rfl (List.Mem.head _) (op_un _ _ _ _ rfl rfl),
      st_plain rfl (op_pick _ _ true _ rfl rfl),
      trivial⟩ ?_
     exact hl9 _ (Option.some.inj h).symm
    ·refine ht_seqR hn (El := [_, _, _, (21, .v (.bool (((p.Null == true) && ((p.Local.toList == (⟨#[]⟩ : ByteArray).toList) && ((p.Domain.toList == (⟨#[]⟩ : ByteArray).toList) && true)))))), (22, .v (.bool ((!(((p.Null == true) && ((p.Local.toList == (⟨#[]⟩ : ByteArray).toList) && ((p.Domain.toList == (⟨#[]⟩ : ByteArray).toList) && true)))))))), (23, .v (.bool false)), (24, .v undef), (25, .v undef), (26, .v (.bool false))]) (init := [0, 1, 2]) (fin := [0, 8]) (sps := [⟨[1], [], [3], [(.slot 21)]⟩, ⟨[3], [], [4], [(.slot 22)]⟩, ⟨[4], [], [5], [(.slot 23)]⟩, ⟨[5], [], [6], [(.slot 24)]⟩, ⟨[5], [], [7], [(.slot 25)]⟩, ⟨[5], [], [8], [(.slot 26)]⟩]) (es' := [(_, _), (26, .v (.bool false))]) (by kernel_rfl) rfl rfl
      ⟨st_plain rfl (op_move _ _ _ _ rfl rfl),
      st_plain rfl (op_un _ _ _ _ rfl rfl),
      st_plain rfl (op_move _ _ _ _ (congrArg (fun b => AV.v (Value.bool b)) hg3_2) rfl),
      st_skip 2 23 _ true rfl rfl rfl rfl (List.Mem.head _),
      st_skip 2 23 _ true rfl rfl rfl rfl (List.Mem.head _),
      st_plain rfl (op_pick _ _ false _ rfl rfl),
      trivial⟩ ?_
     exact hl9 _ (Option.some.inj h).symm
  ·intro u4 h hl5 hr6
   refine cond_some h (fun hg2_3 h => ?_) (fun hg2_3 h => ?_)
   ·obtain ⟨v1, hv1, h⟩ := bind_some h
    refine cond_some h (fun hg2_8 h => ?_) (fun hg2_8 h => ?_)
    ·obtain ⟨v2, hv2, h⟩ := bind_some h
     refine ht_seqR hn (El := (_ :: _ :: _ :: (8, .ptr 1 0) :: (9, .v (.bool p.Null)) :: (10, .v (.bool (!p.Null))) :: (11, .v (.bool true)) :: (12, .ptr 1 1) :: (13, .v (.string p.Local)) :: (14, .v (.bool v1)) :: (15, .v (.bool v1)) :: (16, .v (.bool true)) :: (17, .ptr 1 2) :: (18, .v (.string p.Domain)) :: (19, .v (.bool v2)) :: (20, .v (.bool v2)) :: (4, .v (.bool v2)) :: [])) (init := [0, 1, 2]) (fin := [0, 2, 16]) (sps := [⟨[1], [], [3], [(.slot 8)]⟩, ⟨[3, 1], [], [4], [(.slot 9)]⟩, ⟨[4], [], [5], [(.slot 10)]⟩, ⟨[5], [], [6], [(.slot 11)]⟩, ⟨[6, 1], [], [7], [(.slot 12)]⟩, ⟨[6, 7, 1], [], [8], [(.slot 13)]⟩, ⟨[6, 8, 0], [], [9], [(.slot 14)]⟩, ⟨[6, 9], [], [10], [(.slot 15)]⟩, ⟨[10], [], [11], [(.slot 16)]⟩, ⟨[11, 1], [], [12], [(.slot 17)]⟩, ⟨[11, 12, 1], [], [13], [(.slot 18)]⟩, ⟨[11, 13, 0], [], [14], [(.slot 19)]⟩, ⟨[11, 14], [], [15], [(.slot 20)]⟩, ⟨[15], [], [16], [(.slot 4)]⟩]) (es' := [(_, _), (_, _), (4, .v (.bool v2))]) (by kernel_rfl) rfl rfl
      ⟨st_plain rfl (op_fieldAddr _ _ _ _ 1 0 _ Tryd.underlying23 rfl sz4 rfl rfl (by decide)),
      st_plain rfl (op_load _ _ _ _ _ _ Tryd.underlying4 rfl rfl rfl (Nat.le_of_ble_eq_true rfl) rfl rfl rfl),
      st_plain rfl (op_un _ _ _ _ rfl rfl),
      st_plain rfl (op_move _ _ _ _ (congrArg (fun b => AV.v (Value.bool b)) hg2_3) rfl),
      st_run 3 11 true rfl rfl rfl (List.Mem.head _) (op_fieldAddr _ _ _ _ 1 0 _ Tryd.underlying23 rfl sz9 rfl rfl (by decide)),
      st_run 3 11 true rfl rfl rfl (List.Mem.head _) (op_load _ _ _ _ _ _ Tryd.underlying9 rfl rfl rfl (Nat.le_of_ble_eq_true rfl) rfl rfl rfl),
      st_run 3 11 true rfl rfl rfl (List.Mem.head _) (op_callG _ _ 27 31 _ _ rfl Tryd.call31 rfl rfl (fun _ h => h) (ok_path_local mx p.Local _ hv1) rfl rfl),
      st_plain rfl (op_pick _ _ true _ rfl rfl),
      st_plain rfl (op_move _ _ _ _ (congrArg (fun b => AV.v (Value.bool b)) hg2_8) rfl),
      st_run 8 16 true rfl rfl rfl (List.Mem.head _) (op_fieldAddr _ _ _ _ 1 0 _ Tryd.underlying23 rfl sz9 rfl rfl (by decide)),
      st_run 8 16 true rfl rfl rfl (List.Mem.head _) (op_load _ _ _ _ _ _ Tryd.underlying9 rfl rfl rfl (Nat.le_of_ble_eq_true rfl) rfl rfl rfl),
      st_run 8 16 true rfl rfl rfl (List.Mem.head _) (op_callG _ _ 27 14 _ _ rfl Tryd.call14 rfl rfl (fun _ h => h) (ok_path_Domain mx p.Domain _ hv2) rfl rfl),
      st_plain rfl (op_pick _ _ true _ rfl rfl),
      st_plain rfl (op_assign _ _ _ _ rfl rfl),
      trivial⟩ ?_
     exact hl5 _ (Option.some.inj h).symm
    ·refine ht_seqR hn (El := (_ :: _ :: _ :: (8, .ptr 1 0) :: (9, .v (.bool p.Null)) :: (10, .v (.bool (!p.Null))) :: (11, .v (.bool true)) :: (12, .ptr 1 1) :: (13, .v (.string p.Local)) :: (14, .v (.bool v1)) :: (15, .v (.bool v1)) :: (16, .v (.bool false)) :: (17, .v undef) :: (18, .v undef) :: (19, .v undef) :: (20, .v (.bool false)) :: (4, .v (.bool false)) :: [])) (init := [0, 1, 2]) (fin := [0, 2, 16]) (sps := [⟨[1], [], [3], [(.slot 8)]⟩, ⟨[3, 1], [], [4], [(.slot 9)]⟩, ⟨[4], [], [5], [(.slot 10)]⟩, ⟨[5], [], [6], [(.slot 11)]⟩, ⟨[6, 1], [], [7], [(.slot 12)]⟩, ⟨[6, 7, 1], [], [8], [(.slot 13)]⟩, ⟨[6, 8, 0], [], [9], [(.slot 14)]⟩, ⟨[6, 9], [], [10], [(.slot 15)]⟩, ⟨[10], [], [11], [(.slot 16)]⟩, ⟨[11], [], [12], [(.slot 17)]⟩, ⟨[11], [], [13], [(.slot 18)]⟩, ⟨[11], [], [14], [(.slot 19)]⟩, ⟨[11], [], [15], [(.slot 20)]⟩, ⟨[15], [], [16], [(.slot 4)]⟩]) (es' := [(_, _), (_, _), (4, .v (.bool false))]) (by kernel_rfl) rfl rfl
      ⟨st_plain rfl (op_fieldAddr _ _ _ _ 1 0 _ Tryd.underlying23 rfl sz4 rfl rfl (by decide)),
      st_plain rfl (op_load _ _ _ _ _ _ Tryd.underlying4 rfl rfl rfl (Nat.le_of_ble_eq_true rfl) rfl rfl rfl),
      st_plain rfl (op_un _ _ _ _ rfl rfl),
      st_plain rfl (op_move _ _ _ _ (congrArg (fun b => AV.v (Value.bool b)) hg2_3) rfl),
      st_run 3 11 true rfl rfl rfl (List.Mem.head _) (op_fieldAddr _ _ _ _ 1 0 _ Tryd.underlying23 rfl sz9 rfl rfl (by decide)),
      st_run 3 11 true rfl rfl rfl (List.Mem.head _) (op_load _ _ _ _ _ _ Tryd.underlying9 rfl rfl rfl (Nat.le_of_ble_eq_true rfl) rfl rfl rfl),
      st_run 3 11 true rfl rfl rfl (List.Mem.head _) (op_callG _ _ 27 31 _ _ rfl Tryd.call31 rfl rfl (fun _ h => h) (ok_path_local mx p.Local _ hv1) rfl rfl),
      st_plain rfl (op_pick _ _ true _ rfl rfl),
      st_plain rfl (op_move _ _ _ _ (congrArg (fun b => AV.v (Value.bool b)) hg2_8) rfl),
      st_skip 8 16 _ true rfl rfl rfl rfl (List.Mem.head _),
      st_skip 8 16 _ true rfl rfl rfl rfl (List.Mem.head _),
      st_skip 8 16 _ true rfl rfl rfl rfl (List.Mem.head _),
      st_plain rfl (op_pick _ _ false _ rfl rfl),
      st_plain rfl (op_assign _ _ _ _ rfl rfl),
      trivial⟩ ?_
     exact hl5 _ (Option.some.inj h).symm
   ·refine ht_seqR hn (El := (_ :: _ :: _ :: (8, .ptr 1 0) :: (9, .v (.bool p.Null)) :: (10, .v (.bool (!p.Null))) :: (11, .v (.bool false)) :: (12, .v undef) :: (13, .v undef) :: (14, .v undef) :: (15, .v (.bool false)) :: (16, .v (.bool false)) :: (17, .v undef) :: (18, .v undef) :: (19, .v undef) :: (20, .v (.bool false)) :: (4, .v (.bool false)) :: [])) (init := [0, 1, 2]) (fin := [0, 2, 16]) (sps := [⟨[1], [], [3], [(.slot 8)]⟩, ⟨[3, 1], [], [4], [(.slot 9)]⟩, ⟨[4], [], [5], [(.slot 10)]⟩, ⟨[5], [], [6], [(.slot 11)]⟩, ⟨[6], [], [7], [(.slot 12)]⟩, ⟨[6], [], [8], [(.slot 13)]⟩, ⟨[6], [], [9], [(.slot 14)]⟩, ⟨[6], [], [10], [(.slot 15)]⟩, ⟨[10], [], [11], [(.slot 16)]⟩, ⟨[11], [], [12], [(.slot 17)]⟩, ⟨[11], [], [13], [(.slot 18)]⟩, ⟨[11], [], [14], [(.slot 19)]⟩, ⟨[11], [], [15], [(.slot 20)]⟩, ⟨[15], [], [16], [(.slot 4)]⟩]) (es' := [(_, _), (_, _), (4, .v (.bool false))]) (by kernel_rfl) rfl rfl
     ⟨st_plain rfl (op_fieldAddr _ _ _ _ 1 0 _ Tryd.underlying23 rfl sz4 rfl rfl (by decide)),
     st_plain rfl (op_load _ _ _ _ _ _ Tryd.underlying4 rfl rfl rfl (Nat.le_of_ble_eq_true rfl) rfl rfl rfl),
     st_plain rfl (op_un _ _ _ _ rfl rfl),
     st_plain rfl (op_move _ _ _ _ (congrArg (fun b => AV.v (Value.bool b)) hg2_3) rfl),
     st_skip 3 11 _ true rfl rfl rfl rfl (List.Mem.head _),
     st_skip 3 11 _ true rfl rfl rfl rfl (List.Mem.head _),
     st_skip 3 11 _ true rfl rfl rfl rfl (List.Mem.head _),
     st_plain rfl (op_pick _ _ false _ rfl rfl),
     st_plain rfl (op_move _ _ _ _ rfl rfl),
     st_skip 8 16 _ true rfl rfl rfl rfl (List.Mem.head _),
     st_skip 8 16 _ true rfl rfl rfl rfl (List.Mem.head _),
     st_skip 8 16 _ true rfl rfl rfl rfl (List.Mem.head _),
     st_plain rfl (op_pick _ _ false _ rfl rfl),
     st_plain rfl (op_assign _ _ _ _ rfl rfl),
     trivial⟩ ?_
    exact hl5 _ (Option.some.inj h).symm

set_option maxHeartbeats 1000000 in
theorem ok_path_Parse (mx : Int) (s : ByteArray) (r : (T_Path × Int)) (h : Sh.path_Parse s = some r) : FnG Tryd.prog (GL mx) 9 [.v (.string s)] (.tup [.agg [.v (.bool r.1.Null), .v (.string r.1.Local), .v (.string r.1.Domain)], .v (.int .i64 r.2)]) := by
  unfold Sh.path_Parse at h
  refine fn_okG Tryd.func9 rfl (Nat.le_of_ble_eq_true rfl) rfl rfl fun g0 hn hio => ?_
  refine ht_seq ?_
  refine ht_seqR hn (El := [_, _, (2, .box 23 [.v (.bool false), .v (.string (⟨#[]⟩ : ByteArray)), .v (.string (⟨#[]⟩ : ByteArray))]), (3, .v (.int .i64 0))]) (init := [0, 1]) (fin := [0, 1, 2]) (sps := [⟨[], [], [2], [(.slot 2)]⟩, ⟨[], [], [3], [(.slot 3)]⟩]) (es' := [(_, _), (_, _), (2, .box 23 [.v (.bool false), .v (.string (⟨#[]⟩ : ByteArray)), .v (.string (⟨#[]⟩ : ByteArray))])]) (by kernel_rfl) rfl rfl
   ⟨st_plain rfl (op_alloc _ _ zr23),
   st_plain rfl (op_assign _ _ _ _ rfl rfl),
   trivial⟩ ?_
  refine pt_then ?_
  refine ht_seq ?_
  refine ht_seq ?_
  refine ht_seqR hn (El := [_, _, _, (11, .v (.string s)), (12, .v (.bool ((s.toList == (⟨#[60, 62]⟩ : ByteArray).toList))))]) (init := [0, 1, 2]) (fin := [0, 1, 2, 4]) (sps := [⟨[0], [], [3], [(.slot 11)]⟩, ⟨[3], [], [4], [(.slot 12)]⟩]) (es' := [(_, _), (_, _), (_, _), (12, .v (.bool ((s.toList == (⟨#[60, 62]⟩ : ByteArray).toList))))]) (by kernel_rfl) rfl rfl
   ⟨st_plain rfl (op_move _ _ _ _ rfl rfl),
   st_plain rfl (op_bin _ _ _ _ _ rfl rfl rfl),
   trivial⟩ ?_
  refine pt_then ?_
  refine ht_cond _ rfl (fun hb1 => ?_) (fun hb1 => ?_)
  ·have h := cond_t hb1 h
   refine ht_seq ?_
   refine ht_seqR hn (El := [_, _, _, _, (13, .agg [.v (.bool true), .v (.string (⟨#[]⟩ : ByteArray)), .v (.string (⟨#[]⟩ : ByteArray))]), (2, .box 23 [.v (.bool true), .v (.string (⟨#[]⟩ : ByteArray)), .v (.string (⟨#[]⟩ : ByteArray))]), (3, .v (.int .i64 0))]) (init := [0, 1, 2, 3]) (fin := [1, 5, 6]) (sps := [⟨[], [], [4], [(.slot 13)]⟩, ⟨[4], [2], [5], [.cell 2 0, .cell 2 1, .cell 2 2]⟩, ⟨[], [], [6], [(.slot 3)]⟩]) (es' := [(_, _), (2, .box 23 [.v (.bool true), .v (.string (⟨#[]⟩ : ByteArray)), .v (.string (⟨#[]⟩ : ByteArray))]), (3, .v (.int .i64 0))]) (by kernel_rfl) rfl rfl
    ⟨st_plain rfl (op_build _ _ _ _ [1, 1, 1] _ _ Tryd.underlying23 zr23 (fs23 _ Tryd.underlying23) (.copy _ Src.nil) rfl rfl rfl),
    st_plain rfl (op_store _ _ _ _ _ _ _ _ sz23 rfl rfl rfl rfl (Nat.le_of_ble_eq_true rfl) rfl rfl),
    st_plain rfl (op_assign _ _ _ _ rfl rfl),
    trivial⟩ ?_
   refine pt_then ?_
   refine ht_ret ?_
   refine pt_pick [1, 2] (by kernel_rfl) (es' := [(_, _), (_, _)]) rfl ?_
   refine pt_r_then ?_
   obtain rfl := Option.some.inj h
   exact pt_ret hio rfl (.cellA _ _ _ _ Tryd.underlying23 rfl sz23 (.tmp _ _ .nil)) rfl rfl
  ·have h := cond_f hb1 h
   refine ht_skip ?_
   refine pt_then ?_
   refine ht_seq ?_
   obtain ⟨v2, hv2, h⟩ := bind_some h
   refine ht_seqR hn (El := [_, _, _, _, (15, .v (.string s)), (16, .tup [.v (.string v2.1), .v (.bool v2.2)]), (14, .tup [.v (.string v2.1), .v (.bool v2.2)]), (17, .v (.string v2.1)), (18, .v (.bool v2.2)), (4, .v (.string v2.1)), (5, .v (.bool v2.2))]) (init := [0, 1, 2, 3]) (fin := [1, 2, 9, 10]) (sps := [⟨[0], [], [4], [(.slot 15)]⟩, ⟨[4], [], [5], [(.slot 16)]⟩, ⟨[], [5], [6], [(.slot 14)]⟩, ⟨[6], [], [7], [(.slot 17)]⟩, ⟨[6], [], [8], [(.slot 18)]⟩, ⟨[7], [], [9], [(.slot 4)]⟩, ⟨[8], [], [10], [(.slot 5)]⟩]) (es' := [(_, _), (_, _), (4, .v (.string v2.1)), (5, .v (.bool v2.2))]) (by kernel_rfl) rfl rfl
    ⟨st_plain rfl (op_move _ _ _ _ rfl rfl),
    st_plain rfl (op_call _ _ 26 _ _ rfl Tryd.call26 rfl (ok_strings_CutPrefix s (⟨#[60]⟩ : ByteArray) _ hv2) rfl rfl),
    st_plain rfl (op_move_take _ _ _ _ rfl),
    st_plain rfl (op_extract _ _ _ _ _ rfl rfl (Nat.le_of_ble_eq_true rfl) rfl rfl),
    st_plain rfl (op_extract _ _ _ _ _ rfl rfl (Nat.le_of_ble_eq_true rfl) rfl rfl),
    st_plain rfl (op_assign _ _ _ _ rfl rfl),
    st_plain rfl (op_assign _ _ _ _ rfl rfl),
    trivial⟩ ?_
   refine pt_then ?_
   refine ht_seq ?_
   obtain ⟨v3, hv3, h⟩ := bind_some h
   refine ht_seqR hn (El := [_, _, _, _, (20, .v (.string v2.1)), (21, .tup [.v (.string v3.1), .v (.bool v3.2)]), (19, .tup [.v (.string v3.1), .v (.bool v3.2)]), (22, .v (.string v3.1)), (23, .v (.bool v3.2)), (4, .v (.string v3.1)), (6, .v (.bool v3.2))]) (init := [0, 1, 2, 3]) (fin := [0, 1, 3, 9, 10]) (sps := [⟨[2], [], [4], [(.slot 20)]⟩, ⟨[4], [], [5], [(.slot 21)]⟩, ⟨[], [5], [6], [(.slot 19)]⟩, ⟨[6], [], [7], [(.slot 22)]⟩, ⟨[6], [], [8], [(.slot 23)]⟩, ⟨[7], [2], [9], [(.slot 4)]⟩, ⟨[8], [], [10], [(.slot 6)]⟩]) (es' := [(_, _), (_, _), (_, _), (4, .v (.string v3.1)), (6, .v (.bool v3.2))]) (by kernel_rfl) rfl rfl
    ⟨st_plain rfl (op_move _ _ _ _ rfl rfl),
    st_plain rfl (op_call _ _ 27 _ _ rfl Tryd.call27 rfl (ok_strings_CutSuffix v2.1 (⟨#[62]⟩ : ByteArray) _ hv3) rfl rfl),
    st_plain rfl (op_move_take _ _ _ _ rfl),
    st_plain rfl (op_extract _ _ _ _ _ rfl rfl (Nat.le_of_ble_eq_true rfl) rfl rfl),
    st_plain rfl (op_extract _ _ _ _ _ rfl rfl (Nat.le_of_ble_eq_true rfl) rfl rfl),
    st_plain rfl (LOp.drop [_] (op_assign _ _ _ _ rfl rfl)),
    st_plain rfl (op_assign _ _ _ _ rfl rfl),
    trivial⟩ ?_
   refine pt_then ?_
   refine ht_seq ?_
   obtain ⟨v4, hv4, h⟩ := bind_some h
   refine ht_seqR hn (El := [_, _, _, _, _, (25, .v (.string v3.1)), (26, .tup [.v (.string v4.1), .v (.string v4.2.1), .v (.bool v4.2.2)]), (24, .tup [.v (.string v4.1), .v (.string v4.2.1), .v (.bool v4.2.2)]), (27, .v (.string v4.1)), (28, .v (.string v4.2.1)), (29, .v (.bool v4.2.2)), (7, .v (.string v4.1)), (8, .v (.string v4.2.1)), (9, .v (.bool v4.2.2))]) (init := [0, 1, 2, 3, 4]) (fin := [0, 1, 2, 4, 11, 12, 13]) (sps := [⟨[3], [], [5], [(.slot 25)]⟩, ⟨[5], [], [6], [(.slot 26)]⟩, ⟨[], [6], [7], [(.slot 24)]⟩, ⟨[7], [], [8], [(.slot 27)]⟩, ⟨[7], [], [9], [(.slot 28)]⟩, ⟨[7], [], [10], [(.slot 29)]⟩, ⟨[8], [], [11], [(.slot 7)]⟩, ⟨[9], [], [12], [(.slot 8)]⟩, ⟨[10], [], [13], [(.slot 9)]⟩]) (es' := [(_, _), (_, _), (_, _), (_, _), (7, .v (.string v4.1)), (8, .v (.string v4.2.1)), (9, .v (.bool v4.2.2))]) (by kernel_rfl) rfl rfl
    ⟨st_plain rfl (op_move _ _ _ _ rfl rfl),
    st_plain rfl (op_call _ _ 28 _ _ rfl Tryd.call28 rfl (ok_strings_Cut v3.1 (⟨#[64]⟩ : ByteArray) _ hv4) rfl rfl),
    st_plain rfl (op_move_take _ _ _ _ rfl),
    st_plain rfl (op_extract _ _ _ _ _ rfl rfl (Nat.le_of_ble_eq_true rfl) rfl rfl),
    st_plain rfl (op_extract _ _ _ _ _ rfl rfl (Nat.le_of_ble_eq_true rfl) rfl rfl),
    st_plain rfl (op_extract _ _ _ _ _ rfl rfl (Nat.le_of_ble_eq_true rfl) rfl rfl),
    st_plain rfl (op_assign _ _ _ _ rfl rfl),
    st_plain rfl (op_assign _ _ _ _ rfl rfl),
    st_plain rfl (op_assign _ _ _ _ rfl rfl),
    trivial⟩ ?_
   refine pt_then ?_
   refine ht_seq ?_
   refine ht_seqR hn (El := [_, _, _, _, _, _, _, (30, .v (.string v4.1)), (31, .v (.string v4.2.1)), (32, .agg [.v (.bool false), .v (.string v4.1), .v (.string v4.2.1)]), (10, .box 23 [.v (.bool false), .v (.string (⟨#[]⟩ : ByteArray)), .v (.string (⟨#[]⟩ : ByteArray))]), (10, .box 23 [.v (.bool false), .v (.string v4.1), .v (.string v4.2.1)])]) (init := [0, 1, 2, 3, 4, 5, 6]) (fin := [0, 1, 2, 3, 6, 11]) (sps := [⟨[4], [], [7], [(.slot 30)]⟩, ⟨[5], [], [8], [(.slot 31)]⟩, ⟨[7, 8], [], [9], [(.slot 32)]⟩, ⟨[], [], [10], [(.slot 10)]⟩, ⟨[9], [10], [11], [.cell 10 0, .cell 10 1, .cell 10 2]⟩]) (es' := [(_, _), (_, _), (_, _), (_, _), (_, _), (10, .box 23 [.v (.bool false), .v (.string v4.1), .v (.string v4.2.1)])]) (by kernel_rfl) rfl rfl
    ⟨st_plain rfl (op_move _ _ _ _ rfl rfl),
    st_plain rfl (op_move _ _ _ _ rfl rfl),
    st_plain rfl (op_build _ _ _ _ [1, 1, 1] _ _ Tryd.underlying23 zr23 (fs23 _ Tryd.underlying23) (.copy _ (.copy _ Src.nil)) rfl rfl rfl),
    st_plain rfl (op_alloc _ _ zr23),
    st_plain rfl (op_store _ _ _ _ _ _ _ _ sz23 rfl rfl rfl rfl (Nat.le_of_ble_eq_true rfl) rfl rfl),
    trivial⟩ ?_
   refine pt_then ?_
   refine ht_seq ?_
   refine ht_seq ?_
   refine ht_joinS h (fun (s6 : Bool) => [(50, .glob (GL mx)), (2, .box 23 [.v (.bool false), .v (.string (⟨#[]⟩ : ByteArray)), .v (.string (⟨#[]⟩ : ByteArray))]), (10, .box 23 [.v (.bool false), .v (.string v4.1), .v (.string v4.2.1)]), (47, .v (.bool s6))]) ?_ ?_
   ·rintro s6 h
    refine pt_then ?_
    refine ht_cond _ rfl (fun hb10 => ?_) (fun hb10 => ?_)
    ·have h := cond_t hb10 h
     refine ht_seq ?_
     refine ht_seqR hn (El := [_, _, _, _, (48, .agg [.v (.bool false), .v (.string (⟨#[]⟩ : ByteArray)), .v (.string (⟨#[]⟩ : ByteArray))]), (2, .box 23 [.v (.bool false), .v (.string (⟨#[]⟩ : ByteArray)), .v (.string (⟨#[]⟩ : ByteArray))]), (3, .v (.int .i64 5))]) (init := [0, 1, 2, 3]) (fin := [0, 5, 6]) (sps := [⟨[], [], [4], [(.slot 48)]⟩, ⟨[], [4, 1], [5], [.cell 2 0, .cell 2 1, .cell 2 2]⟩, ⟨[], [], [6], [(.slot 3)]⟩]) (es' := [(_, _), (2, .box 23 [.v (.bool false), .v (.string (⟨#[]⟩ : ByteArray)), .v (.string (⟨#[]⟩ : ByteArray))]), (3, .v (.int .i64 5))]) (by kernel_rfl) rfl rfl
      ⟨st_plain rfl (op_build _ _ _ _ [1, 1, 1] _ _ Tryd.underlying23 zr23 (fs23 _ Tryd.underlying23) Src.nil rfl rfl rfl),
      st_plain rfl (op_store_self _ _ _ 48 2 3 sz23 rfl rfl rfl rfl rfl (.eq _ (.eq _ (.eq _ (.nil _)))) rfl),
      st_plain rfl (op_assign _ _ _ _ rfl rfl),
      trivial⟩ ?_
     refine pt_then ?_
     refine ht_ret ?_
     refine pt_pick [1, 2] (by kernel_rfl) (es' := [(_, _), (_, _)]) rfl ?_
     refine pt_r_then ?_
     obtain rfl := Option.some.inj h
     exact pt_ret hio rfl (.cellA _ _ _ _ Tryd.underlying23 rfl sz23 (.tmp _ _ .nil)) rfl rfl
    ·have h := cond_f hb10 h
     refine ht_skip ?_
     refine pt_then ?_
     refine ht_seq ?_
     refine ht_seqR hn (El := [_, _, _, _, (49, .agg [.v (.bool false), .v (.string v4.1), .v (.string v4.2.1)]), (2, .box 23 [.v (.bool false), .v (.string v4.1), .v (.string v4.2.1)]), (3, .v (.int .i64 0))]) (init := [0, 1, 2, 3]) (fin := [0, 5, 6]) (sps := [⟨[2], [], [4], [(.slot 49)]⟩, ⟨[4], [1], [5], [.cell 2 0, .cell 2 1, .cell 2 2]⟩, ⟨[], [], [6], [(.slot 3)]⟩]) (es' := [(_, _), (2, .box 23 [.v (.bool false), .v (.string v4.1), .v (.string v4.2.1)]), (3, .v (.int .i64 0))]) (by kernel_rfl) rfl rfl
      ⟨st_plain rfl (op_loadA _ _ _ _ _ _ _ Tryd.underlying23 rfl sz23 rfl rfl (Nat.le_of_ble_eq_true rfl) rfl rfl),
      st_plain rfl (op_store _ _ _ _ _ _ _ _ sz23 rfl rfl rfl rfl (Nat.le_of_ble_eq_true rfl) rfl rfl),
      st_plain rfl (op_assign _ _ _ _ rfl rfl),
      trivial⟩ ?_
     refine pt_then ?_
     refine ht_ret ?_
     refine pt_pick [1, 2] (by kernel_rfl) (es' := [(_, _), (_, _)]) rfl ?_
     obtain rfl := Option.some.inj h
     exact pt_ret hio rfl (.cellA _ _ _ _ Tryd.underlying23 rfl sz23 (.tmp _ _ .nil)) rfl rfl
   ·intro u7 h hl8 hr9
    refine cond_some h (fun hg7_2 h => ?_) (fun hg7_2 h => ?_)
    ·refine ht_seqR hn (El := (_ :: _ :: _ :: _ :: _ :: _ :: (33, .v (.bool v2.2)) :: (34, .v (.bool (!v2.2))) :: (35, .v (.bool true)) :: (36, .v undef) :: (37, .v undef) :: (38, .v (.bool true)) :: (39, .v (.bool true)) :: (40, .v undef) :: (41, .v undef) :: (42, .v (.bool true)) :: (43, .v (.bool true)) :: (44, .v undef) :: (45, .v undef) :: (46, .v undef) :: (47, .v (.bool true)) :: [])) (init := [0, 1, 2, 3, 4, 5]) (fin := [0, 1, 5, 20]) (sps := (⟨[2], [], [6], [(.slot 33)]⟩ :: ⟨[6], [], [7], [(.slot 34)]⟩ :: ⟨[7], [], [8], [(.slot 35)]⟩ :: ⟨[8], [], [9], [(.slot 36)]⟩ :: ⟨[8], [], [10], [(.slot 37)]⟩ :: ⟨[8], [], [11], [(.slot 38)]⟩ :: ⟨[11], [], [12], [(.slot 39)]⟩ :: ⟨[12], [], [13], [(.slot 40)]⟩ :: ⟨[12], [], [14], [(.slot 41)]⟩ :: ⟨[12], [], [15], [(.slot 42)]⟩ :: ⟨[15], [], [16], [(.slot 43)]⟩ :: ⟨[16], [], [17], [(.slot 44)]⟩ :: ⟨[16], [], [18], [(.slot 45)]⟩ :: ⟨[16], [], [19], [(.slot 46)]⟩ :: ⟨[16], [], [20], [(.slot 47)]⟩ :: [])) (es' := [(_, _), (_, _), (_, _), (47, .v (.bool true))]) (by kernel_rfl) rfl rfl
      ⟨st_plain rfl (op_move _ _ _ _ rfl rfl),
      st_plain rfl (op_un _ _ _ _ rfl rfl),
      st_plain rfl (op_move _ _ _ _ (congrArg (fun b => AV.v (Value.bool b)) hg7_2) rfl),
      st_skip 2 35 _ false rfl rfl rfl rfl (List.Mem.head _),
      st_skip 2 35 _ false rfl rfl rfl rfl (List.Mem.head _),
      st_plain rfl (op_pick _ _ true _ rfl rfl),
      st_plain rfl (op_move _ _ _ _ rfl rfl),
      st_skip 6 39 _ false rfl rfl rfl rfl (List.Mem.head _),
      st_skip 6 39 _ false rfl rfl rfl rfl (List.Mem.head _),
      st_plain rfl (op_pick _ _ true _ rfl rfl),
      st_plain rfl (op_move _ _ _ _ rfl rfl),
      st_skip 10 43 _ false rfl rfl rfl rfl (List.Mem.head _),
      st_skip 10 43 _ false rfl rfl rfl rfl (List.Mem.head _),
      st_skip 10 43 _ false rfl rfl rfl rfl (List.Mem.head _),
      st_plain rfl (op_pick _ _ true _ rfl rfl),
      trivial⟩ ?_
     exact hl8 _ (Option.some.inj h).symm
    ·refine cond_some h (fun hg7_6 h => ?_) (fun hg7_6 h => ?_)
     ·refine ht_seqR hn (El := (_ :: _ :: _ :: _ :: _ :: _ :: (33, .v (.bool v2.2)) :: (34, .v (.bool (!v2.2))) :: (35, .v (.bool false)) :: (36, .v (.bool v3.2)) :: (37, .v (.bool (!v3.2))) :: (38, .v (.bool (!v3.2))) :: (39, .v (.bool true)) :: (40, .v undef) :: (41, .v undef) :: (42, .v (.bool true)) :: (43, .v (.bool true)) :: (44, .v undef) :: (45, .v undef) :: (46, .v undef) :: (47, .v (.bool true)) :: [])) (init := [0, 1, 2, 3, 4, 5]) (fin := [0, 1, 5, 20]) (sps := (⟨[2], [], [6], [(.slot 33)]⟩ :: ⟨[6], [], [7], [(.slot 34)]⟩ :: ⟨[7], [], [8], [(.slot 35)]⟩ :: ⟨[8, 3], [], [9], [(.slot 36)]⟩ :: ⟨[8, 9], [], [10], [(.slot 37)]⟩ :: ⟨[8, 10], [], [11], [(.slot 38)]⟩ :: ⟨[11], [], [12], [(.slot 39)]⟩ :: ⟨[12], [], [13], [(.slot 40)]⟩ :: ⟨[12], [], [14], [(.slot 41)]⟩ :: ⟨[12], [], [15], [(.slot 42)]⟩ :: ⟨[15], [], [16], [(.slot 43)]⟩ :: ⟨[16], [], [17], [(.slot 44)]⟩ :: ⟨[16], [], [18], [(.slot 45)]⟩ :: ⟨[16], [], [19], [(.slot 46)]⟩ :: ⟨[16], [], [20], [(.slot 47)]⟩ :: [])) (es' := [(_, _), (_, _), (_, _), (47, .v (.bool true))]) (by kernel_rfl) rfl rfl
       ⟨st_plain rfl (op_move _ _ _ _ rfl rfl),
       st_plain rfl (op_un _ _ _ _ rfl rfl),
       st_plain rfl (op_move _ _ _ _ (congrArg (fun b => AV.v (Value.bool b)) hg7_2) rfl),
       st_run 2 35 false rfl rfl rfl (List.Mem.head _) (op_move _ _ _ _ rfl rfl),
       st_run 2 35 false rfl rfl rfl (List.Mem.head _) (op_un _ _ _ _ rfl rfl),
       st_plain rfl (op_pick _ _ false _ rfl rfl),
       st_plain rfl (op_move _ _ _ _ (congrArg (fun b => AV.v (Value.bool b)) hg7_6) rfl),
       st_skip 6 39 _ false rfl rfl rfl rfl (List.Mem.head _),
       st_skip 6 39 _ false rfl rfl rfl rfl (List.Mem.head _),
       st_plain rfl (op_pick _ _ true _ rfl rfl),
       st_plain rfl (op_move _ _ _ _ rfl rfl),
       st_skip 10 43 _ false rfl rfl rfl rfl (List.Mem.head _),
       st_skip 10 43 _ false rfl rfl rfl rfl (List.Mem.head _),
       st_skip 10 43 _ false rfl rfl rfl rfl (List.Mem.head _),
       st_plain rfl (op_pick _ _ true _ rfl rfl),
       trivial⟩ ?_
      exact hl8 _ (Option.some.inj h).symm
     ·refine cond_some h (fun hg7_10 h => ?_) (fun hg7_10 h => ?_)
      ·refine ht_seqR hn (El := (_ :: _ :: _ :: _ :: _ :: _ :: (33, .v (.bool v2.2)) :: (34, .v (.bool (!v2.2))) :: (35, .v (.bool false)) :: (36, .v (.bool v3.2)) :: (37, .v (.bool (!v3.2))) :: (38, .v (.bool (!v3.2))) :: (39, .v (.bool false)) :: (40, .v (.bool v4.2.2)) :: (41, .v (.bool (!v4.2.2))) :: (42, .v (.bool (!v4.2.2))) :: (43, .v (.bool true)) :: (44, .v undef) :: (45, .v undef) :: (46, .v undef) :: (47, .v (.bool true)) :: [])) (init := [0, 1, 2, 3, 4, 5]) (fin := [0, 1, 5, 20]) (sps := (⟨[2], [], [6], [(.slot 33)]⟩ :: ⟨[6], [], [7], [(.slot 34)]⟩ :: ⟨[7], [], [8], [(.slot 35)]⟩ :: ⟨[8, 3], [], [9], [(.slot 36)]⟩ :: ⟨[8, 9], [], [10], [(.slot 37)]⟩ :: ⟨[8, 10], [], [11], [(.slot 38)]⟩ :: ⟨[11], [], [12], [(.slot 39)]⟩ :: ⟨[12, 4], [], [13], [(.slot 40)]⟩ :: ⟨[12, 13], [], [14], [(.slot 41)]⟩ :: ⟨[12, 14], [], [15], [(.slot 42)]⟩ :: ⟨[15], [], [16], [(.slot 43)]⟩ :: ⟨[16], [], [17], [(.slot 44)]⟩ :: ⟨[16], [], [18], [(.slot 45)]⟩ :: ⟨[16], [], [19], [(.slot 46)]⟩ :: ⟨[16], [], [20], [(.slot 47)]⟩ :: [])) (es' := [(_, _), (_, _), (_, _), (47, .v (.bool true))]) (by kernel_rfl) rfl rfl
        ⟨st_plain rfl (op_move _ _ _ _ rfl rfl),
        st_plain rfl (op_un _ _ _ _ rfl rfl),
        st_plain rfl (op_move _ _ _ _ (congrArg (fun b => AV.v (Value.bool b)) hg7_2) rfl),
        st_run 2 35 false rfl rfl rfl (List.Mem.head _) (op_move _ _ _ _ rfl rfl),
        st_run 2 35 false rfl rfl rfl (List.Mem.head _) (op_un _ _ _ _ rfl rfl),
        st_plain rfl (op_pick _ _ false _ rfl rfl),
        st_plain rfl (op_move _ _ _ _ (congrArg (fun b => AV.v (Value.bool b)) hg7_6) rfl),
        st_run 6 39 false rfl rfl rfl (List.Mem.head _) (op_move _ _ _ _ rfl rfl),
        st_run 6 39 false rfl rfl rfl (List.Mem.head _) (op_un _ _ _ _ rfl rfl),
        st_plain rfl (op_pick _ _ false _ rfl rfl),
        st_plain rfl (op_move _ _ _ _ (congrArg (fun b => AV.v (Value.bool b)) hg7_10) rfl),
        st_skip 10 43 _ false rfl rfl rfl rfl (List.Mem.head _),
        st_skip 10 43 _ false rfl rfl rfl rfl (List.Mem.head _),
        st_skip 10 43 _ false rfl rfl rfl rfl (List.Mem.head _),
        st_plain rfl (op_pick _ _ true _ rfl rfl),
        trivial⟩ ?_
       exact hl8 _ (Option.some.inj h).symm
      ·obtain ⟨v5, hv5, h⟩ := bind_some h
       refine ht_seqR hn (El := (_ :: _ :: _ :: _ :: _ :: _ :: (33, .v (.bool v2.2)) :: (34, .v (.bool (!v2.2))) :: (35, .v (.bool false)) :: (36, .v (.bool v3.2)) :: (37, .v (.bool (!v3.2))) :: (38, .v (.bool (!v3.2))) :: (39, .v (.bool false)) :: (40, .v (.bool v4.2.2)) :: (41, .v (.bool (!v4.2.2))) :: (42, .v (.bool (!v4.2.2))) :: (43, .v (.bool false)) :: (44, .agg [.v (.bool false), .v (.string v4.1), .v (.string v4.2.1)]) :: (45, .v (.int .i64 v5)) :: (46, .v (.bool (v5 != 0))) :: (47, .v (.bool (v5 != 0))) :: [])) (init := [0, 1, 2, 3, 4, 5]) (fin := [0, 1, 5, 20]) (sps := (⟨[2], [], [6], [(.slot 33)]⟩ :: ⟨[6], [], [7], [(.slot 34)]⟩ :: ⟨[7], [], [8], [(.slot 35)]⟩ :: ⟨[8, 3], [], [9], [(.slot 36)]⟩ :: ⟨[8, 9], [], [10], [(.slot 37)]⟩ :: ⟨[8, 10], [], [11], [(.slot 38)]⟩ :: ⟨[11], [], [12], [(.slot 39)]⟩ :: ⟨[12, 4], [], [13], [(.slot 40)]⟩ :: ⟨[12, 13], [], [14], [(.slot 41)]⟩ :: ⟨[12, 14], [], [15], [(.slot 42)]⟩ :: ⟨[15], [], [16], [(.slot 43)]⟩ :: ⟨[16, 5], [], [17], [(.slot 44)]⟩ :: ⟨[16, 17, 0], [], [18], [(.slot 45)]⟩ :: ⟨[16, 18], [], [19], [(.slot 46)]⟩ :: ⟨[16, 19], [], [20], [(.slot 47)]⟩ :: [])) (es' := [(_, _), (_, _), (_, _), (47, .v (.bool (v5 != 0)))]) (by kernel_rfl) rfl rfl
        ⟨st_plain rfl (op_move _ _ _ _ rfl rfl),
        st_plain rfl (op_un _ _ _ _ rfl rfl),
        st_plain rfl (op_move _ _ _ _ (congrArg (fun b => AV.v (Value.bool b)) hg7_2) rfl),
        st_run 2 35 false rfl rfl rfl (List.Mem.head _) (op_move _ _ _ _ rfl rfl),
        st_run 2 35 false rfl rfl rfl (List.Mem.head _) (op_un _ _ _ _ rfl rfl),
        st_plain rfl (op_pick _ _ false _ rfl rfl),
        st_plain rfl (op_move _ _ _ _ (congrArg (fun b => AV.v (Value.bool b)) hg7_6) rfl),
        st_run 6 39 false rfl rfl rfl (List.Mem.head _) (op_move _ _ _ _ rfl rfl),
        st_run 6 39 false rfl rfl rfl (List.Mem.head _) (op_un _ _ _ _ rfl rfl),
        st_plain rfl (op_pick _ _ false _ rfl rfl),
        st_plain rfl (op_move _ _ _ _ (congrArg (fun b => AV.v (Value.bool b)) hg7_10) rfl),
        st_run 10 43 false rfl rfl rfl (List.Mem.head _) (op_loadA _ _ _ _ _ _ _ Tryd.underlying23 rfl sz23 rfl rfl (Nat.le_of_ble_eq_true rfl) rfl rfl),
        st_run 10 43 false rfl rfl rfl (List.Mem.head _) (op_callG _ _ 50 13 _ _ rfl Tryd.call13 rfl rfl (fun _ h => h) (ok_path_Check mx (T_Path.mk false v4.1 v4.2.1) _ hv5) rfl rfl),
        st_run 10 43 false rfl rfl rfl (List.Mem.head _) (op_bin _ _ _ _ _ rfl rfl rfl),
        st_plain rfl (op_pick _ _ false _ rfl rfl),
        trivial⟩ ?_
       exact hl8 _ (Option.some.inj h).symm

set_option maxHeartbeats 1000000 in
theorem ok_path_Text (mx : Int) (p : T_Path) (r : (ByteArray × Int)) (h : Sh.path_Text p = some r) : FnG Tryd.prog (GL mx) 11 [.agg [.v (.bool p.Null), .v (.string p.Local), .v (.string p.Domain)]] (.tup [.v (.string r.1), .v (.int .i64 r.2)]) := by
  unfold Sh.path_Text at h
  refine fn_okG Tryd.func11 rfl (Nat.le_of_ble_eq_true rfl) rfl rfl fun g0 hn hio => ?_
  refine ht_seq ?_
  refine ht_seqR hn (El := [_, _, (1, .box 23 [.v (.bool p.Null), .v (.string p.Local), .v (.string p.Domain)]), (2, .v (.string (⟨#[]⟩ : ByteArray))), (3, .v (.int .i64 0))]) (init := [0, 1]) (fin := [1, 2]) (sps := [⟨[0], [], [2], [(.slot 1)]⟩, ⟨[], [], [3], [(.slot 2)]⟩, ⟨[], [], [4], [(.slot 3)]⟩]) (es' := [(_, _), (1, .box 23 [.v (.bool p.Null), .v (.string p.Local), .v (.string p.Domain)])]) (by kernel_rfl) rfl rfl
   ⟨st_plain rfl (op_box _ _ _ _ rfl rfl rfl),
   st_plain rfl (op_assign _ _ _ _ rfl rfl),
   st_plain rfl (op_assign _ _ _ _ rfl rfl),
   trivial⟩ ?_
  refine pt_then ?_
  refine ht_seq ?_
  refine ht_seq ?_
  obtain ⟨v1, hv1, h⟩ := bind_some h
  refine ht_seqR hn (El := [_, _, (5, .agg [.v (.bool p.Null), .v (.string p.Local), .v (.string p.Domain)]), (6, .v (.int .i64 v1)), (4, .v (.int .i64 v1))]) (init := [0, 1]) (fin := [0, 1, 4]) (sps := [⟨[1], [], [2], [(.slot 5)]⟩, ⟨[2, 0], [], [3], [(.slot 6)]⟩, ⟨[3], [], [4], [(.slot 4)]⟩]) (es' := [(_, _), (_, _), (4, .v (.int .i64 v1))]) (by kernel_rfl) rfl rfl
   ⟨st_plain rfl (op_loadA _ _ _ _ _ _ _ Tryd.underlying23 rfl sz23 rfl rfl (Nat.le_of_ble_eq_true rfl) rfl rfl),
   st_plain rfl (op_callG _ _ 20 13 _ _ rfl Tryd.call13 rfl rfl (fun _ h => h) (ok_path_Check mx p _ hv1) rfl rfl),
   st_plain rfl (op_assign _ _ _ _ rfl rfl),
   trivial⟩ ?_
  refine pt_then ?_
  refine ht_seq ?_
  refine ht_seqR hn (El := [_, _, _, (7, .v (.int .i64 v1)), (8, .v (.bool (v1 != 0)))]) (init := [0, 1, 2]) (fin := [0, 1, 2, 4]) (sps := [⟨[2], [], [3], [(.slot 7)]⟩, ⟨[3], [], [4], [(.slot 8)]⟩]) (es' := [(_, _), (_, _), (_, _), (8, .v (.bool (v1 != 0)))]) (by kernel_rfl) rfl rfl
   ⟨st_plain rfl (op_move _ _ _ _ rfl rfl),
   st_plain rfl (op_bin _ _ _ _ _ rfl rfl rfl),
   trivial⟩ ?_
  refine pt_then ?_
  refine ht_cond _ rfl (fun hb2 => ?_) (fun hb2 => ?_)
  ·have h := cond_t hb2 h
   refine ht_seq ?_
   refine ht_seqR hn (El := [_, _, _, _, (9, .v (.int .i64 v1)), (2, .v (.string (⟨#[]⟩ : ByteArray))), (3, .v (.int .i64 v1))]) (init := [0, 1, 2, 3]) (fin := [0, 5, 6]) (sps := [⟨[2], [], [4], [(.slot 9)]⟩, ⟨[], [], [5], [(.slot 2)]⟩, ⟨[4], [], [6], [(.slot 3)]⟩]) (es' := [(_, _), (2, .v (.string (⟨#[]⟩ : ByteArray))), (3, .v (.int .i64 v1))]) (by kernel_rfl) rfl rfl
    ⟨st_plain rfl (op_move _ _ _ _ rfl rfl),
    st_plain rfl (op_assign _ _ _ _ rfl rfl),
    st_plain rfl (op_assign _ _ _ _ rfl rfl),
    trivial⟩ ?_
   refine pt_then ?_
   refine ht_ret ?_
   refine pt_pick [1, 2] (by kernel_rfl) (es' := [(_, _), (_, _)]) rfl ?_
   refine pt_r_then ?_
   obtain rfl := Option.some.inj h
   exact pt_ret hio rfl (.tmp _ _ (.tmp _ _ .nil)) rfl rfl
  ·have h := cond_f hb2 h
   refine ht_skip ?_
   refine pt_then ?_
   refine ht_seq ?_
   refine ht_seq ?_
   refine ht_seqR hn (El := [_, _, _, _, (10, .ptr 1 0), (11, .v (.bool p.Null))]) (init := [0, 1, 2, 3]) (fin := [0, 1, 5]) (sps := [⟨[1], [], [4], [(.slot 10)]⟩, ⟨[4, 1], [], [5], [(.slot 11)]⟩]) (es' := [(_, _), (_, _), (11, .v (.bool p.Null))]) (by kernel_rfl) rfl rfl
    ⟨st_plain rfl (op_fieldAddr _ _ _ _ 1 0 _ Tryd.underlying23 rfl sz4 rfl rfl (by decide)),
    st_plain rfl (op_load _ _ _ _ _ _ Tryd.underlying4 rfl rfl rfl (Nat.le_of_ble_eq_true rfl) rfl rfl rfl),
    trivial⟩ ?_
   refine pt_then ?_
   refine ht_cond _ rfl (fun hb3 => ?_) (fun hb3 => ?_)
   ·have h := cond_t hb3 h
    refine ht_seq ?_
    refine ht_seqR hn (El := [_, _, _, (2, .v (.string (⟨#[60, 62]⟩ : ByteArray))), (3, .v (.int .i64 0))]) (init := [0, 1, 2]) (fin := [0, 3, 4]) (sps := [⟨[], [], [3], [(.slot 2)]⟩, ⟨[], [], [4], [(.slot 3)]⟩]) (es' := [(_, _), (2, .v (.string (⟨#[60, 62]⟩ : ByteArray))), (3, .v (.int .i64 0))]) (by kernel_rfl) rfl rfl
     ⟨st_plain rfl (op_assign _ _ _ _ rfl rfl),
     st_plain rfl (op_assign _ _ _ _ rfl rfl),
     trivial⟩ ?_
    refine pt_then ?_
    refine ht_ret ?_
    refine pt_pick [1, 2] (by kernel_rfl) (es' := [(_, _), (_, _)]) rfl ?_
    refine pt_r_then ?_
    obtain rfl := Option.some.inj h
    exact pt_ret hio rfl (.tmp _ _ (.tmp _ _ .nil)) rfl rfl
   ·have h := cond_f hb3 h
    refine ht_skip ?_
    refine pt_then ?_
    refine ht_seq ?_
    obtain ⟨v4, hv4, h⟩ := bind_some h
    obtain ⟨v5, hv5, h⟩ := bind_some h
    obtain ⟨v6, hv6, h⟩ := bind_some h
    obtain ⟨v7, hv7, h⟩ := bind_some h
    refine ht_seqR hn (El := [_, _, _, (12, .ptr 1 1), (13, .v (.string p.Local)), (14, .v (.string v4)), (15, .v (.string v5)), (16, .ptr 1 2), (17, .v (.string p.Domain)), (18, .v (.string v6)), (19, .v (.string v7)), (2, .v (.string v7)), (3, .v (.int .i64 0))]) (init := [0, 1, 2]) (fin := [0, 11, 12]) (sps := [⟨[1], [], [3], [(.slot 12)]⟩, ⟨[3, 1], [], [4], [(.slot 13)]⟩, ⟨[4], [], [5], [(.slot 14)]⟩, ⟨[5], [], [6], [(.slot 15)]⟩, ⟨[1], [], [7], [(.slot 16)]⟩, ⟨[7, 1], [], [8], [(.slot 17)]⟩, ⟨[6, 8], [], [9], [(.slot 18)]⟩, ⟨[9], [], [10], [(.slot 19)]⟩, ⟨[10], [], [11], [(.slot 2)]⟩, ⟨[], [], [12], [(.slot 3)]⟩]) (es' := [(_, _), (2, .v (.string v7)), (3, .v (.int .i64 0))]) (by kernel_rfl) rfl rfl
     ⟨st_plain rfl (op_fieldAddr _ _ _ _ 1 0 _ Tryd.underlying23 rfl sz9 rfl rfl (by decide)),
     st_plain rfl (op_load _ _ _ _ _ _ Tryd.underlying9 rfl rfl rfl (Nat.le_of_ble_eq_true rfl) rfl rfl rfl),
     st_plain rfl (op_bin _ _ _ _ _ rfl rfl (cat_ok hv4)),
     st_plain rfl (op_bin _ _ _ _ _ rfl rfl (cat_ok hv5)),
     st_plain rfl (op_fieldAddr _ _ _ _ 1 0 _ Tryd.underlying23 rfl sz9 rfl rfl (by decide)),
     st_plain rfl (op_load _ _ _ _ _ _ Tryd.underlying9 rfl rfl rfl (Nat.le_of_ble_eq_true rfl) rfl rfl rfl),
     st_plain rfl (op_bin _ _ _ _ _ rfl rfl (cat_ok hv6)),
     st_plain rfl (op_bin _ _ _ _ _ rfl rfl (cat_ok hv7)),
     st_plain rfl (op_assign _ _ _ _ rfl rfl),
     st_plain rfl (op_assign _ _ _ _ rfl rfl),
     trivial⟩ ?_
    refine pt_then ?_
    refine ht_ret ?_
    refine pt_pick [1, 2] (by kernel_rfl) (es' := [(_, _), (_, _)]) rfl ?_
    obtain rfl := Option.some.inj h
    exact pt_ret hio rfl (.tmp _ _ (.tmp _ _ .nil)) rfl rfl

end Go.Proofs.YtpmngahekkagpaaDoor
