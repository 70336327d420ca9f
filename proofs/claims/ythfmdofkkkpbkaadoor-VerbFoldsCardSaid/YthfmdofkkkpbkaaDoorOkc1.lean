/-
  The model's runs are what is told in Lean.
-/
import Derived.Test.YthfmdofkkkpbkaaDoorProg
import Derived.KernelRfl
import Derived.Test.YthfmdofkkkpbkaaDoorShelf
import Derived.Test.YthfmdofkkkpbkaaDoorSh
set_option linter.unusedVariables false
set_option linter.unusedSimpArgs false
namespace Go.Proofs.YthfmdofkkkpbkaaDoor
open Go.Abs Go.Abs.Sh
def GL (mx : Int) : List (Nat × List Value) := []
theorem zr26 : (Tryd.prog.info? 26).bind (·.zero) = some (.agg #[.int .i64 0, .string ByteArray.empty, .bool false, .string ByteArray.empty, .string ByteArray.empty, .slice none 0 0]) := by kernel_rfl
theorem sz5 : (Tryd.prog.info? 5).map (·.size) = some 1 := by kernel_rfl
theorem fs26 : ∀ fs, Tryd.prog.underlying 26 = some (.struct fs) → fs.toList.map (fun f => (Tryd.prog.info? f.type).map (·.size)) = ([1, 1, 3, 1] : List Nat).map some := by
  intro fs h
  rw [Tryd.underlying26] at h
  cases h
  kernel_rfl
theorem sz26 : (Tryd.prog.info? 26).map (·.size) = some 6 := by kernel_rfl
theorem zr4 : (Tryd.prog.info? 4).bind (·.zero) = some (.bool false) := by kernel_rfl
theorem sz9 : (Tryd.prog.info? 9).map (·.size) = some 1 := by kernel_rfl
theorem sz4 : (Tryd.prog.info? 4).map (·.size) = some 1 := by kernel_rfl
theorem sz3 : (Tryd.prog.info? 3).map (·.size) = some 1 := by kernel_rfl
theorem zr23 : (Tryd.prog.info? 23).bind (·.zero) = some (.agg #[.bool false, .string ByteArray.empty, .string ByteArray.empty]) := by kernel_rfl
theorem fs23 : ∀ fs, Tryd.prog.underlying 23 = some (.struct fs) → fs.toList.map (fun f => (Tryd.prog.info? f.type).map (·.size)) = ([1, 1, 1] : List Nat).map some := by
  intro fs h
  rw [Tryd.underlying23] at h
  cases h
  kernel_rfl
theorem sz23 : (Tryd.prog.info? 23).map (·.size) = some 3 := by kernel_rfl
theorem zr24 : (Tryd.prog.info? 24).bind (·.zero) = some (.slice none 0 0) := by kernel_rfl
theorem sz24 : (Tryd.prog.info? 24).map (·.size) = some 1 := by kernel_rfl
theorem zr46 : (Tryd.prog.info? 46).bind (·.zero) = some (.agg #[.string ByteArray.empty, .string ByteArray.empty]) := by kernel_rfl
theorem fs46 : ∀ fs, Tryd.prog.underlying 46 = some (.struct fs) → fs.toList.map (fun f => (Tryd.prog.info? f.type).map (·.size)) = ([1, 1] : List Nat).map some := by
  intro fs h
  rw [Tryd.underlying46] at h
  cases h
  kernel_rfl
theorem sz46 : (Tryd.prog.info? 46).map (·.size) = some 2 := by kernel_rfl
theorem zr9 : (Tryd.prog.info? 9).bind (·.zero) = some (.string ByteArray.empty) := by kernel_rfl
theorem el24 : ElemT Tryd.prog 24 46 2 32 := ⟨⟨Tryd.t46, .agg #[.string ByteArray.empty, .string ByteArray.empty], Tryd.underlying24, by kernel_rfl, by kernel_rfl, by kernel_rfl, by kernel_rfl, by decide, by kernel_rfl⟩⟩
theorem zr59 : (Tryd.prog.info? 59).bind (·.zero) = some (.agg #[.pointer none, .slice none 0 0]) := by kernel_rfl
theorem sz37 : (Tryd.prog.info? 37).map (·.size) = some 1 := by kernel_rfl
theorem el37 : ElemT Tryd.prog 37 5 1 1 := ⟨⟨Tryd.t5, .int .u8 0, Tryd.underlying37, by kernel_rfl, by kernel_rfl, by kernel_rfl, by kernel_rfl, by decide, by kernel_rfl⟩⟩
theorem zr5 : (Tryd.prog.info? 5).bind (·.zero) = some (.int .u8 0) := by kernel_rfl
set_option maxHeartbeats 1000000 in
theorem ok_verb_printable (line : ByteArray) (r : Bool) (h : Sh.verb_printable line = some r) : FnOK Tryd.prog 16 [.v (.string line)] (.v (.bool r)) := by
  unfold Sh.verb_printable at h
  refine fn_ok Tryd.func16 rfl (Nat.le_of_ble_eq_true rfl) rfl rfl fun g0 hn hio => ?_
  refine ht_seq ?_
  refine ht_seqR hn (El := [_, (2, .v (.bool false))]) (init := [0]) (fin := [0]) (sps := [⟨[], [], [1], [(.slot 2)]⟩]) (es' := [(_, _)]) (by kernel_rfl) rfl rfl
   ⟨st_plain rfl (op_assign _ _ _ _ rfl rfl),
   trivial⟩ ?_
  refine pt_then ?_
  refine ht_seq ?_
  refine ht_seq ?_
  refine ht_seqR hn (El := [_, (4, .v (.string line)), (5, .v (.int .i64 (line.size : Int))), (6, .v (.int .i64 0))]) (init := [0]) (fin := [0, 2, 3]) (sps := [⟨[0], [], [1], [(.slot 4)]⟩, ⟨[1], [], [2], [(.slot 5)]⟩, ⟨[], [], [3], [(.slot 6)]⟩]) (es' := [(_, _), (5, .v (.int .i64 (line.size : Int))), (6, .v (.int .i64 0))]) (by kernel_rfl) rfl rfl
   ⟨st_plain rfl (op_move _ _ _ _ rfl rfl),
   st_plain rfl (op_len_str _ _ _ Tryd.underlying9 rfl),
   st_plain rfl (op_move _ _ _ _ rfl rfl),
   trivial⟩ ?_
  refine pt_then ?_
  refine ht_loopS h (fun (s17 : Int) => [(0, .v (.string line)), (5, .v (.int .i64 (line.size : Int))), (6, .v (.int .i64 s17))]) (fun (() : Unit) => []) ?_ ?_
  ·rintro ⟨⟩ h
   refine pt_then ?_
   refine ht_seq ?_
   refine ht_seqR hn (El := [(2, .v (.bool true))]) (init := []) (fin := [0]) (sps := [⟨[], [], [0], [(.slot 2)]⟩]) (es' := [(2, .v (.bool true))]) (by kernel_rfl) rfl rfl
    ⟨st_plain rfl (op_assign _ _ _ _ rfl rfl),
    trivial⟩ ?_
   refine pt_then ?_
   refine ht_ret ?_
   obtain rfl := Option.some.inj h
   exact pt_ret hio rfl (.tmp _ _ .nil) rfl rfl
  ·rintro u24 hl25 hr26 s17 rr29 h ho27
   refine ht_seq ?_
   refine ht_seqR hn (El := [_, _, _, (7, .v (.bool ((decide (s17 < (line.size : Int))))))]) (init := [0, 1, 2]) (fin := [0, 1, 2, 3]) (sps := [⟨[2, 1], [], [3], [(.slot 7)]⟩]) (es' := [(_, _), (_, _), (_, _), (7, .v (.bool ((decide (s17 < (line.size : Int))))))]) (by kernel_rfl) rfl rfl
    ⟨st_plain rfl (op_bin _ _ _ _ _ rfl rfl rfl),
    trivial⟩ ?_
   refine pt_then ?_
   refine ht_seq ?_
   refine ht_cond _ rfl (fun hb30 => ?_) (fun hb30 => ?_)
   ·have h := cond_t hb30 h
    refine ht_skip ?_
    refine pt_then ?_
    refine ht_seq ?_
    refine ht_block ?_
    refine ht_seq ?_
    refine ht_seqR hn (El := [_, _, _, _, (8, .v (.int .i64 s17)), (3, .v (.int .i64 s17))]) (init := [0, 1, 2, 3]) (fin := [0, 1, 2, 5]) (sps := [⟨[2], [], [4], [(.slot 8)]⟩, ⟨[4], [], [5], [(.slot 3)]⟩]) (es' := [(_, _), (_, _), (_, _), (3, .v (.int .i64 s17))]) (by kernel_rfl) rfl rfl
     ⟨st_plain rfl (op_move _ _ _ _ rfl rfl),
     st_plain rfl (op_assign _ _ _ _ rfl rfl),
     trivial⟩ ?_
    refine pt_then ?_
    refine ht_seq ?_
    refine ht_joinS h (fun (s31 : Bool) => [(0, .v (.string line)), (5, .v (.int .i64 (line.size : Int))), (6, .v (.int .i64 s17)), (18, .v (.bool s31))]) ?_ ?_
    ·rintro s31 h
     refine pt_then ?_
     refine ht_cond _ rfl (fun hb35 => ?_) (fun hb35 => ?_)
     ·have h := cond_t hb35 h
      refine ht_seq ?_
      refine ht_seqR hn (El := [_, _, _, _, (2, .v (.bool false))]) (init := [0, 1, 2, 3]) (fin := [4]) (sps := [⟨[], [], [4], [(.slot 2)]⟩]) (es' := [(2, .v (.bool false))]) (by kernel_rfl) rfl rfl
       ⟨st_plain rfl (op_assign _ _ _ _ rfl rfl),
       trivial⟩ ?_
      refine pt_then ?_
      refine ht_ret ?_
      refine pt_r_in ?_
      refine pt_r_then ?_
      refine pt_r_then ?_
      refine pt_r_in ?_
      refine pt_r_then ?_
      have h := hr26 _ (ho27 _ (Option.some.inj h).symm).symm
      obtain rfl := Option.some.inj h
      exact pt_ret hio rfl (.tmp _ _ .nil) rfl rfl
     ·have h := cond_f hb35 h
      refine ht_skip ?_
      refine pt_inb ?_
      refine pt_then ?_
      obtain ⟨v9, hv9, h⟩ := bind_some h
      refine ht_seqR hn (El := [_, _, _, _, (19, .v (.int .i64 v9)), (6, .v (.int .i64 v9))]) (init := [0, 1, 2, 3]) (fin := [0, 1, 5]) (sps := [⟨[2], [], [4], [(.slot 19)]⟩, ⟨[4], [2], [5], [(.slot 6)]⟩]) (es' := [(_, _), (_, _), (6, .v (.int .i64 v9))]) (by kernel_rfl) rfl rfl
       ⟨st_plain rfl (op_bin _ _ _ _ _ rfl rfl (ibind (f := Value.int .i64) (Option.some.inj hv9))),
       st_plain rfl (LOp.drop [_] (op_move _ _ _ _ rfl rfl)),
       trivial⟩ ?_
      exact pt_next _ (Option.some.inj h).symm rfl
    ·intro u32 h hl33 hr34
     obtain ⟨v2, hv2, h⟩ := bind_some h
     refine cond_some h (fun hg4_4 h => ?_) (fun hg4_4 h => ?_)
     ·refine ht_seqR hn (El := [_, _, _, _, (9, .v (.string line)), (10, .v (.int .i64 s17)), (11, .v (.int .u8 v2)), (12, .v (.bool ((decide (v2 < 32))))), (13, .v (.bool true)), (14, .v undef), (15, .v undef), (16, .v undef), (17, .v undef), (18, .v (.bool true))]) (init := [0, 1, 2, 3]) (fin := [0, 1, 2, 13]) (sps := [⟨[0], [], [4], [(.slot 9)]⟩, ⟨[3], [], [5], [(.slot 10)]⟩, ⟨[4, 5], [], [6], [(.slot 11)]⟩, ⟨[6], [], [7], [(.slot 12)]⟩, ⟨[7], [], [8], [(.slot 13)]⟩, ⟨[8], [], [9], [(.slot 14)]⟩, ⟨[8], [], [10], [(.slot 15)]⟩, ⟨[8], [], [11], [(.slot 16)]⟩, ⟨[8], [], [12], [(.slot 17)]⟩, ⟨[8], [], [13], [(.slot 18)]⟩]) (es' := [(_, _), (_, _), (_, _), (18, .v (.bool true))]) (by kernel_rfl) rfl rfl
       ⟨st_plain rfl (op_move _ _ _ _ rfl rfl),
       st_plain rfl (op_move _ _ _ _ rfl rfl),
       st_plain rfl (op_chr _ _ _ s17 _ Tryd.underlying9 rfl rfl hv2),
       st_plain rfl (op_bin _ _ _ _ _ rfl rfl rfl),
       st_plain rfl (op_move _ _ _ _ (congrArg (fun b => AV.v (Value.bool b)) hg4_4) rfl),
       st_skip 4 13 _ false rfl rfl rfl rfl (List.Mem.head _),
       st_skip 4 13 _ false rfl rfl rfl rfl (List.Mem.head _),
       st_skip 4 13 _ false rfl rfl rfl rfl (List.Mem.head _),
       st_skip 4 13 _ false rfl rfl rfl rfl (List.Mem.head _),
       st_plain rfl (op_pick _ _ true _ rfl rfl),
       trivial⟩ ?_
      exact hl33 _ (Option.some.inj h).symm
     ·obtain ⟨v3, hv3, h⟩ := bind_some h
      refine ht_seqR hn (El := [_, _, _, _, (9, .v (.string line)), (10, .v (.int .i64 s17)), (11, .v (.int .u8 v2)), (12, .v (.bool ((decide (v2 < 32))))), (13, .v (.bool false)), (14, .v (.string line)), (15, .v (.int .i64 s17)), (16, .v (.int .u8 v3)), (17, .v (.bool ((decide (126 < v3))))), (18, .v (.bool ((decide (126 < v3)))))]) (init := [0, 1, 2, 3]) (fin := [0, 1, 2, 13]) (sps := [⟨[0], [], [4], [(.slot 9)]⟩, ⟨[3], [], [5], [(.slot 10)]⟩, ⟨[4, 5], [], [6], [(.slot 11)]⟩, ⟨[6], [], [7], [(.slot 12)]⟩, ⟨[7], [], [8], [(.slot 13)]⟩, ⟨[8, 0], [], [9], [(.slot 14)]⟩, ⟨[8, 3], [], [10], [(.slot 15)]⟩, ⟨[8, 9, 10], [], [11], [(.slot 16)]⟩, ⟨[8, 11], [], [12], [(.slot 17)]⟩, ⟨[8, 12], [], [13], [(.slot 18)]⟩]) (es' := [(_, _), (_, _), (_, _), (18, .v (.bool ((decide (126 < v3)))))]) (by kernel_rfl) rfl rfl
       ⟨st_plain rfl (op_move _ _ _ _ rfl rfl),
       st_plain rfl (op_move _ _ _ _ rfl rfl),
       st_plain rfl (op_chr _ _ _ s17 _ Tryd.underlying9 rfl rfl hv2),
       st_plain rfl (op_bin _ _ _ _ _ rfl rfl rfl),
       st_plain rfl (op_move _ _ _ _ (congrArg (fun b => AV.v (Value.bool b)) hg4_4) rfl),
       st_run 4 13 false rfl rfl rfl (List.Mem.head _) (op_move _ _ _ _ rfl rfl),
       st_run 4 13 false rfl rfl rfl (List.Mem.head _) (op_move _ _ _ _ rfl rfl),
       st_run 4 13 false rfl rfl rfl (List.Mem.head _) (op_chr _ _ _ s17 _ Tryd.underlying9 rfl rfl hv3),
       st_run 4 13 false rfl rfl rfl (List.Mem.head _) (op_bin _ _ _ _ _ rfl rfl rfl),
       st_plain rfl (op_pick _ _ false _ rfl rfl),
       trivial⟩ ?_
      exact hl33 _ (Option.some.inj h).symm
   ·have h := cond_f hb30 h
    refine ht_exit ?_
    refine pt_x_then ?_
    refine pt_x_then ?_
    refine pt_x_in ?_
    refine pt_pick [] (by kernel_rfl) (es' := []) rfl ?_
    exact hl25 _ (ho27 _ (Option.some.inj h).symm).symm
theorem ok_internal_stringslite_Index (s sub : ByteArray) (r : Int) (h : Sh.strings_Index s sub = some r) : FnOK Tryd.prog 46 [.v (.string s), .v (.string sub)] (.v (.int .i64 r)) := lib_strings_Index Tryd.stringslite_Index_one s sub r h
set_option maxHeartbeats 1000000 in
theorem ok_internal_stringslite_Cut (s : ByteArray) (sep : ByteArray) (r : (ByteArray × ByteArray × Bool)) (h : Sh.internal_stringslite_Cut s sep = some r) : FnOK Tryd.prog 38 [.v (.string s), .v (.string sep)] (.tup [.v (.string r.1), .v (.string r.2.1), .v (.bool r.2.2)]) := by
  unfold Sh.internal_stringslite_Cut at h
  refine fn_ok Tryd.func38 rfl (Nat.le_of_ble_eq_true rfl) rfl rfl fun g0 hn hio => ?_
  refine ht_seq ?_
  refine ht_seqR hn (El := [_, _, (4, .v (.string (⟨#[]⟩ : ByteArray))), (5, .v (.string (⟨#[]⟩ : ByteArray))), (6, .v (.bool false))]) (init := [0, 1]) (fin := [0, 1]) (sps := [⟨[], [], [2], [(.slot 4)]⟩, ⟨[], [], [3], [(.slot 5)]⟩, ⟨[], [], [4], [(.slot 6)]⟩]) (es' := [(_, _), (_, _)]) (by kernel_rfl) rfl rfl
   ⟨st_plain rfl (op_assign _ _ _ _ rfl rfl),
   st_plain rfl (op_assign _ _ _ _ rfl rfl),
   st_plain rfl (op_assign _ _ _ _ rfl rfl),
   trivial⟩ ?_
  refine pt_then ?_
  refine ht_seq ?_
  refine ht_seq ?_
  obtain ⟨v1, hv1, h⟩ := bind_some h
  refine ht_seqR hn (El := [_, _, (8, .v (.string s)), (9, .v (.string sep)), (10, .v (.int .i64 v1)), (7, .v (.int .i64 v1))]) (init := [0, 1]) (fin := [0, 1, 5]) (sps := [⟨[0], [], [2], [(.slot 8)]⟩, ⟨[1], [], [3], [(.slot 9)]⟩, ⟨[2, 3], [], [4], [(.slot 10)]⟩, ⟨[4], [], [5], [(.slot 7)]⟩]) (es' := [(_, _), (_, _), (7, .v (.int .i64 v1))]) (by kernel_rfl) rfl rfl
   ⟨st_plain rfl (op_move _ _ _ _ rfl rfl),
   st_plain rfl (op_move _ _ _ _ rfl rfl),
   st_plain rfl (op_call _ _ 46 _ _ rfl Tryd.call46 rfl (ok_internal_stringslite_Index s sep _ hv1) rfl rfl),
   st_plain rfl (op_assign _ _ _ _ rfl rfl),
   trivial⟩ ?_
  refine pt_then ?_
  refine ht_seq ?_
  refine ht_seqR hn (El := [_, _, _, (11, .v (.int .i64 v1)), (12, .v (.bool ((decide (0 ≤ v1)))))]) (init := [0, 1, 2]) (fin := [0, 1, 2, 4]) (sps := [⟨[2], [], [3], [(.slot 11)]⟩, ⟨[3], [], [4], [(.slot 12)]⟩]) (es' := [(_, _), (_, _), (_, _), (12, .v (.bool ((decide (0 ≤ v1)))))]) (by kernel_rfl) rfl rfl
   ⟨st_plain rfl (op_move _ _ _ _ rfl rfl),
   st_plain rfl (op_bin _ _ _ _ _ rfl rfl rfl),
   trivial⟩ ?_
  refine pt_then ?_
  refine ht_cond _ rfl (fun hb2 => ?_) (fun hb2 => ?_)
  ·have h := cond_t hb2 h
   refine ht_seq ?_
   obtain ⟨v3, hv3, h⟩ := bind_some h
   obtain ⟨v4, hv4, h⟩ := bind_some h
   obtain ⟨v5, hv5, h⟩ := bind_some h
   refine ht_anyR (by kernel_rfl) hn (El := (_ :: _ :: _ :: _ :: (13, .v (.string s)) :: (14, .v (.int .i64 v1)) :: (15, .v (.string v3)) :: (16, .v (.string s)) :: (17, .v (.int .i64 v1)) :: (18, .v (.string sep)) :: (19, .v (.int .i64 (sep.size : Int))) :: (20, .v (.int .i64 v4)) :: (21, .v (.string v5)) :: (4, .v (.string v3)) :: (5, .v (.string v5)) :: (6, .v (.bool true)) :: [])) (init := [0, 1, 2, 3]) (fin := [13, 14, 15]) (sps := [⟨[0], [], [4], [(.slot 13)]⟩, ⟨[2], [], [5], [(.slot 14)]⟩, ⟨[4, 5], [], [6], [(.slot 15)]⟩, ⟨[0], [], [7], [(.slot 16)]⟩, ⟨[2], [], [8], [(.slot 17)]⟩, ⟨[1], [], [9], [(.slot 18)]⟩, ⟨[9], [], [10], [(.slot 19)]⟩, ⟨[8, 10], [], [11], [(.slot 20)]⟩, ⟨[7, 11], [], [12], [(.slot 21)]⟩, ⟨[6], [], [13], [(.slot 4)]⟩, ⟨[12], [], [14], [(.slot 5)]⟩, ⟨[], [], [15], [(.slot 6)]⟩]) (es' := [(4, .v (.string v3)), (5, .v (.string v5)), (6, .v (.bool true))]) (by kernel_rfl) rfl rfl
    ⟨st_plain rfl (op_move _ _ _ _ rfl rfl),
    st_plain rfl (op_move _ _ _ _ rfl rfl),
    st_plain rfl (op_substr _ _ _ 0 v1 _ Tryd.underlying9 rfl rfl ⟨_, rfl⟩ hv3),
    st_plain rfl (op_move _ _ _ _ rfl rfl),
    st_plain rfl (op_move _ _ _ _ rfl rfl),
    st_plain rfl (op_move _ _ _ _ rfl rfl),
    st_plain rfl (op_len_str _ _ _ Tryd.underlying9 rfl),
    st_plain rfl (op_bin _ _ _ _ _ rfl rfl (ibind (f := Value.int .i64) (Option.some.inj hv4))),
    st_plain rfl (op_substr _ _ _ v4 (s.size : Int) _ Tryd.underlying9 rfl ⟨_, rfl⟩ rfl hv5),
    st_plain rfl (op_assign _ _ _ _ rfl rfl),
    st_plain rfl (op_assign _ _ _ _ rfl rfl),
    st_plain rfl (op_assign _ _ _ _ rfl rfl),
    trivial⟩ ?_
   refine pt_then ?_
   refine ht_ret ?_
   refine pt_r_then ?_
   obtain rfl := Option.some.inj h
   exact pt_ret hio rfl (.tmp _ _ (.tmp _ _ (.tmp _ _ .nil))) rfl rfl
  ·have h := cond_f hb2 h
   refine ht_skip ?_
   refine pt_then ?_
   refine ht_seq ?_
   refine ht_seqR hn (El := [_, _, _, _, (22, .v (.string s)), (4, .v (.string s)), (5, .v (.string (⟨#[]⟩ : ByteArray))), (6, .v (.bool false))]) (init := [0, 1, 2, 3]) (fin := [5, 6, 7]) (sps := [⟨[0], [], [4], [(.slot 22)]⟩, ⟨[4], [], [5], [(.slot 4)]⟩, ⟨[], [], [6], [(.slot 5)]⟩, ⟨[], [], [7], [(.slot 6)]⟩]) (es' := [(4, .v (.string s)), (5, .v (.string (⟨#[]⟩ : ByteArray))), (6, .v (.bool false))]) (by kernel_rfl) rfl rfl
    ⟨st_plain rfl (op_move _ _ _ _ rfl rfl),
    st_plain rfl (op_assign _ _ _ _ rfl rfl),
    st_plain rfl (op_assign _ _ _ _ rfl rfl),
    st_plain rfl (op_assign _ _ _ _ rfl rfl),
    trivial⟩ ?_
   refine pt_then ?_
   refine ht_ret ?_
   obtain rfl := Option.some.inj h
   exact pt_ret hio rfl (.tmp _ _ (.tmp _ _ (.tmp _ _ .nil))) rfl rfl
set_option maxHeartbeats 1000000 in
theorem ok_strings_Cut (s : ByteArray) (sep : ByteArray) (r : (ByteArray × ByteArray × Bool)) (h : Sh.strings_Cut s sep = some r) : FnOK Tryd.prog 30 [.v (.string s), .v (.string sep)] (.tup [.v (.string r.1), .v (.string r.2.1), .v (.bool r.2.2)]) := by
  unfold Sh.strings_Cut at h
  refine fn_ok Tryd.func30 rfl (Nat.le_of_ble_eq_true rfl) rfl rfl fun g0 hn hio => ?_
  refine ht_seq ?_
  refine ht_seqR hn (El := [_, _, (4, .v (.string (⟨#[]⟩ : ByteArray))), (5, .v (.string (⟨#[]⟩ : ByteArray))), (6, .v (.bool false))]) (init := [0, 1]) (fin := [0, 1]) (sps := [⟨[], [], [2], [(.slot 4)]⟩, ⟨[], [], [3], [(.slot 5)]⟩, ⟨[], [], [4], [(.slot 6)]⟩]) (es' := [(_, _), (_, _)]) (by kernel_rfl) rfl rfl
   ⟨st_plain rfl (op_assign _ _ _ _ rfl rfl),
   st_plain rfl (op_assign _ _ _ _ rfl rfl),
   st_plain rfl (op_assign _ _ _ _ rfl rfl),
   trivial⟩ ?_
  refine pt_then ?_
  refine ht_seq ?_
  obtain ⟨v1, hv1, h⟩ := bind_some h
  refine ht_seqR hn (El := [_, _, (7, .v (.string s)), (8, .v (.string sep)), (9, .tup [.v (.string v1.1), .v (.string v1.2.1), .v (.bool v1.2.2)]), (10, .v (.string v1.1)), (11, .v (.string v1.2.1)), (12, .v (.bool v1.2.2)), (4, .v (.string v1.1)), (5, .v (.string v1.2.1)), (6, .v (.bool v1.2.2))]) (init := [0, 1]) (fin := [8, 9, 10]) (sps := [⟨[0], [], [2], [(.slot 7)]⟩, ⟨[1], [], [3], [(.slot 8)]⟩, ⟨[2, 3], [], [4], [(.slot 9)]⟩, ⟨[4], [], [5], [(.slot 10)]⟩, ⟨[4], [], [6], [(.slot 11)]⟩, ⟨[4], [], [7], [(.slot 12)]⟩, ⟨[5], [], [8], [(.slot 4)]⟩, ⟨[6], [], [9], [(.slot 5)]⟩, ⟨[7], [], [10], [(.slot 6)]⟩]) (es' := [(4, .v (.string v1.1)), (5, .v (.string v1.2.1)), (6, .v (.bool v1.2.2))]) (by kernel_rfl) rfl rfl
   ⟨st_plain rfl (op_move _ _ _ _ rfl rfl),
   st_plain rfl (op_move _ _ _ _ rfl rfl),
   st_plain rfl (op_call _ _ 38 _ _ rfl Tryd.call38 rfl (ok_internal_stringslite_Cut s sep _ hv1) rfl rfl),
   st_plain rfl (op_extract _ _ _ _ _ rfl rfl (Nat.le_of_ble_eq_true rfl) rfl rfl),
   st_plain rfl (op_extract _ _ _ _ _ rfl rfl (Nat.le_of_ble_eq_true rfl) rfl rfl),
   st_plain rfl (op_extract _ _ _ _ _ rfl rfl (Nat.le_of_ble_eq_true rfl) rfl rfl),
   st_plain rfl (op_assign _ _ _ _ rfl rfl),
   st_plain rfl (op_assign _ _ _ _ rfl rfl),
   st_plain rfl (op_assign _ _ _ _ rfl rfl),
   trivial⟩ ?_
  refine pt_then ?_
  refine ht_ret ?_
  obtain rfl := Option.some.inj h
  exact pt_ret hio rfl (.tmp _ _ (.tmp _ _ (.tmp _ _ .nil))) rfl rfl
set_option maxHeartbeats 1000000 in
theorem ok_path_Fold (s : ByteArray) (r : ByteArray) (h : Sh.path_Fold s = some r) : FnOK Tryd.prog 31 [.v (.string s)] (.v (.string r)) := by
  unfold Sh.path_Fold at h
  refine fn_ok Tryd.func31 rfl (Nat.le_of_ble_eq_true rfl) rfl rfl fun g0 hn hio => ?_
  refine ht_seq ?_
  refine ht_seqR hn (El := [_, (2, .v (.string (⟨#[]⟩ : ByteArray)))]) (init := [0]) (fin := [0]) (sps := [⟨[], [], [1], [(.slot 2)]⟩]) (es' := [(_, _)]) (by kernel_rfl) rfl rfl
   ⟨st_plain rfl (op_assign _ _ _ _ rfl rfl),
   trivial⟩ ?_
  refine pt_then ?_
  refine ht_seq ?_
  obtain ⟨v1, hv1, h⟩ := bind_some h
  refine ht_seqR hn (El := [_, (6, .v (.string s)), (7, .mkr 5 (List.map (Value.int .u8) v1)), (3, .mkr 5 (List.map (Value.int .u8) v1))]) (init := [0]) (fin := [3]) (sps := [⟨[0], [], [1], [(.slot 6)]⟩, ⟨[1], [], [2], [(.slot 7)]⟩, ⟨[], [2], [3], [(.slot 3)]⟩]) (es' := [(3, .mkr 5 (List.map (Value.int .u8) v1))]) (by kernel_rfl) rfl rfl
   ⟨st_plain rfl (op_move _ _ _ _ rfl rfl),
   st_plain rfl ((Option.some.inj hv1) ▸ op_str_mk _ _ _ s Tryd.underlying9 Tryd.underlying37 Tryd.underlying5 rfl),
   st_plain rfl (op_assign_take _ _ _ _ rfl),
   trivial⟩ ?_
  refine pt_then ?_
  refine ht_seq ?_
  refine ht_seq ?_
  refine ht_seqR hn (El := [_, (8, .same (.slot 3)), (9, .v (.int .i64 (v1.length : Int))), (10, .v (.int .i64 0))]) (init := [0]) (fin := [0, 1, 2, 3]) (sps := [⟨[0], [], [1], [(.slot 8)]⟩, ⟨[1, 0], [], [2], [(.slot 9)]⟩, ⟨[], [], [3], [(.slot 10)]⟩]) (es' := [(_, _), (8, .same (.slot 3)), (9, .v (.int .i64 (v1.length : Int))), (10, .v (.int .i64 0))]) (by kernel_rfl) rfl rfl
   ⟨st_plain rfl (op_move _ _ _ _ rfl rfl),
   st_plain rfl (op_len_mk _ _ _ Tryd.underlying37 rfl (List.length_map _)),
   st_plain rfl (op_move _ _ _ _ rfl rfl),
   trivial⟩ ?_
  refine pt_then ?_
  refine ht_loopS h (fun ((s40, s41) : (List Int) × Int) => [(3, .mkr 5 (List.map (Value.int .u8) s40)), (8, .same (.slot 3)), (9, .v (.int .i64 (v1.length : Int))), (10, .v (.int .i64 s41))]) (fun (s57 : (List Int)) => [(3, .mkr 5 (List.map (Value.int .u8) s57))]) ?_ ?_
  ·rintro s57 h
   refine pt_then ?_
   refine ht_seq ?_
   obtain ⟨v79, hv79, h⟩ := bind_some h
   refine ht_seqR hn (El := [_, (27, .mkr 5 (List.map (Value.int .u8) s57)), (28, .v (.string v79)), (2, .v (.string v79))]) (init := [0]) (fin := [3]) (sps := [⟨[], [0], [1], [(.slot 27)]⟩, ⟨[1], [], [2], [(.slot 28)]⟩, ⟨[2], [], [3], [(.slot 2)]⟩]) (es' := [(2, .v (.string v79))]) (by kernel_rfl) rfl rfl
    ⟨st_plain rfl (op_move_take _ _ _ _ rfl),
    st_plain rfl ((Option.some.inj hv79) ▸ op_mk_str _ _ _ s57 Tryd.underlying37 Tryd.underlying9 Tryd.underlying5 rfl),
    st_plain rfl (op_assign _ _ _ _ rfl rfl),
    trivial⟩ ?_
   refine pt_then ?_
   refine ht_ret ?_
   obtain rfl := Option.some.inj h
   exact pt_ret hio rfl (.tmp _ _ .nil) rfl rfl
  ·rintro u58 hl59 hr60 ⟨s40, s41⟩ rr63 h ho61
   refine ht_seq ?_
   refine ht_seqR hn (El := [_, _, _, _, (11, .v (.bool ((decide (s41 < (v1.length : Int))))))]) (init := [0, 1, 2, 3]) (fin := [0, 1, 2, 3, 4]) (sps := [⟨[3, 2], [], [4], [(.slot 11)]⟩]) (es' := [(_, _), (_, _), (_, _), (_, _), (11, .v (.bool ((decide (s41 < (v1.length : Int))))))]) (by kernel_rfl) rfl rfl
    ⟨st_plain rfl (op_bin _ _ _ _ _ rfl rfl rfl),
    trivial⟩ ?_
   refine pt_then ?_
   refine ht_seq ?_
   refine ht_cond _ rfl (fun hb64 => ?_) (fun hb64 => ?_)
   ·have h := cond_t hb64 h
    refine ht_skip ?_
    refine pt_then ?_
    refine ht_seq ?_
    refine ht_joinS h (fun (s70 : (List Int)) => [(3, .mkr 5 (List.map (Value.int .u8) s70)), (8, .same (.slot 3)), (9, .v (.int .i64 (v1.length : Int))), (10, .v (.int .i64 s41))]) ?_ ?_
    ·rintro s70 h
     refine pt_then ?_
     obtain ⟨v22, hv22, h⟩ := bind_some h
     refine ht_seqR hn (El := [_, _, _, _, (26, .v (.int .i64 v22)), (10, .v (.int .i64 v22))]) (init := [0, 1, 2, 3]) (fin := [0, 1, 2, 5]) (sps := [⟨[3], [], [4], [(.slot 26)]⟩, ⟨[4], [3], [5], [(.slot 10)]⟩]) (es' := [(_, _), (_, _), (_, _), (10, .v (.int .i64 v22))]) (by kernel_rfl) rfl rfl
      ⟨st_plain rfl (op_bin _ _ _ _ _ rfl rfl (ibind (f := Value.int .i64) (Option.some.inj hv22))),
      st_plain rfl (LOp.drop [_] (op_move _ _ _ _ rfl rfl)),
      trivial⟩ ?_
     exact pt_next _ (Option.some.inj h).symm rfl
    ·intro u71 h hl72 hr73
     refine ht_block ?_
     refine ht_seq ?_
     obtain ⟨v3, hv3, h⟩ := bind_some h
     obtain ⟨v4, hv4, h⟩ := bind_some h
     refine ht_seqR hn (El := [_, _, _, _, _, (12, .v (.int .i64 s41)), (13, .eref (.slot 3) (v3 * 1)), (14, .v (.int .u8 v4)), (4, .v (.int .i64 s41)), (5, .v (.int .u8 v4))]) (init := [0, 1, 2, 3, 4]) (fin := [0, 1, 2, 3, 8, 9]) (sps := [⟨[3], [], [5], [(.slot 12)]⟩, ⟨[1, 0, 3], [], [6], [(.slot 13)]⟩, ⟨[6, 0], [], [7], [(.slot 14)]⟩, ⟨[5], [], [8], [(.slot 4)]⟩, ⟨[7], [], [9], [(.slot 5)]⟩]) (es' := [(_, _), (_, _), (_, _), (_, _), (4, .v (.int .i64 s41)), (5, .v (.int .u8 v4))]) (by kernel_rfl) rfl rfl
      ⟨st_plain rfl (op_move _ _ _ _ rfl rfl),
      st_plain rfl (op_ix_mk _ _ _ _ _ _ _ Tryd.underlying37 sz5 rfl rfl rfl (ix_ok hv3).1 (mk_lt' (ix_ok hv3).2) rfl),
      st_plain rfl (op_load_mk _ _ _ _ _ _ Tryd.underlying5 rfl rfl rfl (map_get hv4)),
      st_plain rfl (op_assign _ _ _ _ rfl rfl),
      st_plain rfl (op_assign _ _ _ _ rfl rfl),
      trivial⟩ ?_
     refine pt_then ?_
     refine ht_seq ?_
     refine ht_joinS h (fun (s74 : Bool) => [(3, .mkr 5 (List.map (Value.int .u8) s40)), (8, .same (.slot 3)), (9, .v (.int .i64 (v1.length : Int))), (10, .v (.int .i64 s41)), (4, .v (.int .i64 s41)), (5, .v (.int .u8 v4)), (20, .v (.bool s74))]) ?_ ?_
     ·rintro s74 h
      refine pt_then ?_
      refine ht_cond _ rfl (fun hb78 => ?_) (fun hb78 => ?_)
      ·have h := cond_t hb78 h
       obtain ⟨v10, hv10, h⟩ := bind_some h
       obtain ⟨v11, hv11, h⟩ := bind_some h
       obtain ⟨v12, hv12, h⟩ := bind_some h
       refine ht_seqR hn (El := [_, _, _, _, _, _, _, (21, .same (.slot 3)), (22, .v (.int .i64 s41)), (23, .v (.int .u8 v4)), (24, .v (.int .u8 v10)), (25, .eref (.slot 3) (v11 * 1)), (3, .mkr 5 (List.map (Value.int .u8) v12))]) (init := [0, 1, 2, 3, 4, 5, 6]) (fin := [12, 1, 2, 3]) (sps := [⟨[0], [], [7], [(.slot 21)]⟩, ⟨[4], [], [8], [(.slot 22)]⟩, ⟨[5], [], [9], [(.slot 23)]⟩, ⟨[9], [], [10], [(.slot 24)]⟩, ⟨[7, 0, 8], [], [11], [(.slot 25)]⟩, ⟨[11, 10], [0], [12], []⟩]) (es' := [(3, .mkr 5 (List.map (Value.int .u8) v12)), (_, _), (_, _), (_, _)]) (by kernel_rfl) rfl rfl
        ⟨st_plain rfl (op_move _ _ _ _ rfl rfl),
        st_plain rfl (op_move _ _ _ _ rfl rfl),
        st_plain rfl (op_move _ _ _ _ rfl rfl),
        st_plain rfl (op_bin _ _ _ _ _ rfl rfl (ibind (f := Value.int .u8) (Option.some.inj hv10))),
        st_plain rfl (op_ix_mk _ _ _ _ _ _ _ Tryd.underlying37 sz5 rfl rfl rfl (ix_ok hv11).1 (mk_lt' (ix_ok hv11).2) rfl),
        st_plain rfl (op_store_mk _ _ _ _ _ _ _ sz5 rfl rfl rfl (mk_lt (ix_ok hv11).2) (mk_set (f := Value.int .u8) (Option.some.inj hv12))),
        trivial⟩ ?_
       refine pt_inb ?_
       exact hl72 _ (Option.some.inj h).symm
      ·have h := cond_f hb78 h
       refine ht_skip ?_
       refine pt_inb ?_
       refine pt_pick [0, 1, 2, 3] (by kernel_rfl) (es' := [(_, _), (_, _), (_, _), (_, _)]) rfl ?_
       exact hl72 _ (Option.some.inj h).symm
     ·intro u75 h hl76 hr77
      refine cond_some h (fun hg5_2 h => ?_) (fun hg5_2 h => ?_)
      ·refine ht_seqR hn (El := [_, _, _, _, _, _, (15, .v (.int .u8 v4)), (16, .v (.bool ((decide (65 ≤ v4))))), (17, .v (.bool true)), (18, .v (.int .u8 v4)), (19, .v (.bool ((decide (v4 ≤ 90))))), (20, .v (.bool ((decide (v4 ≤ 90)))))]) (init := [0, 1, 2, 3, 4, 5]) (fin := [0, 1, 2, 3, 4, 5, 11]) (sps := [⟨[5], [], [6], [(.slot 15)]⟩, ⟨[6], [], [7], [(.slot 16)]⟩, ⟨[7], [], [8], [(.slot 17)]⟩, ⟨[8, 5], [], [9], [(.slot 18)]⟩, ⟨[8, 9], [], [10], [(.slot 19)]⟩, ⟨[8, 10], [], [11], [(.slot 20)]⟩]) (es' := [(_, _), (_, _), (_, _), (_, _), (_, _), (_, _), (20, .v (.bool ((decide (v4 ≤ 90)))))]) (by kernel_rfl) rfl rfl
        ⟨st_plain rfl (op_move _ _ _ _ rfl rfl),
        st_plain rfl (op_bin _ _ _ _ _ rfl rfl rfl),
        st_plain rfl (op_move _ _ _ _ (congrArg (fun b => AV.v (Value.bool b)) hg5_2) rfl),
        st_run 2 17 true rfl rfl rfl (List.Mem.head _) (op_move _ _ _ _ rfl rfl),
        st_run 2 17 true rfl rfl rfl (List.Mem.head _) (op_bin _ _ _ _ _ rfl rfl rfl),
        st_plain rfl (op_pick _ _ true _ rfl rfl),
        trivial⟩ ?_
       exact hl76 _ (Option.some.inj h).symm
      ·refine ht_seqR hn (El := [_, _, _, _, _, _, (15, .v (.int .u8 v4)), (16, .v (.bool ((decide (65 ≤ v4))))), (17, .v (.bool false)), (18, .v undef), (19, .v undef), (20, .v (.bool false))]) (init := [0, 1, 2, 3, 4, 5]) (fin := [0, 1, 2, 3, 4, 5, 11]) (sps := [⟨[5], [], [6], [(.slot 15)]⟩, ⟨[6], [], [7], [(.slot 16)]⟩, ⟨[7], [], [8], [(.slot 17)]⟩, ⟨[8], [], [9], [(.slot 18)]⟩, ⟨[8], [], [10], [(.slot 19)]⟩, ⟨[8], [], [11], [(.slot 20)]⟩]) (es' := [(_, _), (_, _), (_, _), (_, _), (_, _), (_, _), (20, .v (.bool false))]) (by kernel_rfl) rfl rfl
        ⟨st_plain rfl (op_move _ _ _ _ rfl rfl),
        st_plain rfl (op_bin _ _ _ _ _ rfl rfl rfl),
        st_plain rfl (op_move _ _ _ _ (congrArg (fun b => AV.v (Value.bool b)) hg5_2) rfl),
        st_skip 2 17 _ true rfl rfl rfl rfl (List.Mem.head _),
        st_skip 2 17 _ true rfl rfl rfl rfl (List.Mem.head _),
        st_plain rfl (op_pick _ _ false _ rfl rfl),
        trivial⟩ ?_
       exact hl76 _ (Option.some.inj h).symm
   ·have h := cond_f hb64 h
    refine ht_exit ?_
    refine pt_x_then ?_
    refine pt_x_then ?_
    refine pt_x_in ?_
    refine pt_pick [0] (by kernel_rfl) (es' := [(_, _)]) rfl ?_
    exact hl59 _ (ho61 _ (Option.some.inj h).symm).symm
set_option maxHeartbeats 1000000 in
theorem ok_verb_kindOf (line : ByteArray) (r : Int) (h : Sh.verb_kindOf line = some r) : FnOK Tryd.prog 17 [.v (.string line)] (.v (.int .i64 r)) := by
  unfold Sh.verb_kindOf at h
  refine fn_ok Tryd.func17 rfl (Nat.le_of_ble_eq_true rfl) rfl rfl fun g0 hn hio => ?_
  refine ht_seq ?_
  refine ht_seqR hn (El := [_, (2, .v (.int .i64 0))]) (init := [0]) (fin := [0]) (sps := [⟨[], [], [1], [(.slot 2)]⟩]) (es' := [(_, _)]) (by kernel_rfl) rfl rfl
   ⟨st_plain rfl (op_assign _ _ _ _ rfl rfl),
   trivial⟩ ?_
  refine pt_then ?_
  refine ht_seq ?_
  obtain ⟨v1, hv1, h⟩ := bind_some h
  refine ht_seqR hn (El := [_, (7, .v (.string line)), (8, .tup [.v (.string v1.1), .v (.string v1.2.1), .v (.bool v1.2.2)]), (6, .tup [.v (.string v1.1), .v (.string v1.2.1), .v (.bool v1.2.2)]), (9, .v (.string v1.1)), (10, .v (.string v1.2.1)), (11, .v (.bool v1.2.2)), (3, .v (.string v1.1)), (4, .v (.string v1.2.1)), (5, .v (.bool v1.2.2))]) (init := [0]) (fin := [7]) (sps := [⟨[0], [], [1], [(.slot 7)]⟩, ⟨[1], [], [2], [(.slot 8)]⟩, ⟨[], [2], [3], [(.slot 6)]⟩, ⟨[3], [], [4], [(.slot 9)]⟩, ⟨[3], [], [5], [(.slot 10)]⟩, ⟨[3], [], [6], [(.slot 11)]⟩, ⟨[4], [], [7], [(.slot 3)]⟩, ⟨[5], [], [8], [(.slot 4)]⟩, ⟨[6], [], [9], [(.slot 5)]⟩]) (es' := [(3, .v (.string v1.1))]) (by kernel_rfl) rfl rfl
   ⟨st_plain rfl (op_move _ _ _ _ rfl rfl),
   st_plain rfl (op_call _ _ 30 _ _ rfl Tryd.call30 rfl (ok_strings_Cut line (⟨#[32]⟩ : ByteArray) _ hv1) rfl rfl),
   st_plain rfl (op_move_take _ _ _ _ rfl),
   st_plain rfl (op_extract _ _ _ _ _ rfl rfl (Nat.le_of_ble_eq_true rfl) rfl rfl),
   st_plain rfl (op_extract _ _ _ _ _ rfl rfl (Nat.le_of_ble_eq_true rfl) rfl rfl),
   st_plain rfl (op_extract _ _ _ _ _ rfl rfl (Nat.le_of_ble_eq_true rfl) rfl rfl),
   st_plain rfl (op_assign _ _ _ _ rfl rfl),
   st_plain rfl (op_assign _ _ _ _ rfl rfl),
   st_plain rfl (op_assign _ _ _ _ rfl rfl),
   trivial⟩ ?_
  refine pt_then ?_
  refine ht_seq ?_
  refine ht_seq ?_
  obtain ⟨v2, hv2, h⟩ := bind_some h
  refine ht_seqR hn (El := [_, (12, .v (.string v1.1)), (13, .v (.string v2))]) (init := [0]) (fin := [2]) (sps := [⟨[0], [], [1], [(.slot 12)]⟩, ⟨[1], [], [2], [(.slot 13)]⟩]) (es' := [(13, .v (.string v2))]) (by kernel_rfl) rfl rfl
   ⟨st_plain rfl (op_move _ _ _ _ rfl rfl),
   st_plain rfl (op_call _ _ 31 _ _ rfl Tryd.call31 rfl (ok_path_Fold v1.1 _ hv2) rfl rfl),
   trivial⟩ ?_
  refine pt_then ?_
  refine ht_block ?_
  refine ht_seq ?_
  refine ht_joinS h (fun (s4 : Bool) => [(13, .v (.string v2)), (14, .v (.bool s4))]) ?_ ?_
  ·rintro s4 h
   refine pt_then ?_
   refine ht_cond _ rfl (fun hb9 => ?_) (fun hb9 => ?_)
   ·have h := cond_t hb9 h
    refine ht_seq ?_
    refine ht_seqR hn (El := [_, _, (2, .v (.int .i64 1))]) (init := [0, 1]) (fin := [2]) (sps := [⟨[], [], [2], [(.slot 2)]⟩]) (es' := [(2, .v (.int .i64 1))]) (by kernel_rfl) rfl rfl
     ⟨st_plain rfl (op_assign _ _ _ _ rfl rfl),
     trivial⟩ ?_
    refine pt_then ?_
    refine ht_ret ?_
    refine pt_r_in ?_
    refine pt_r_then ?_
    obtain rfl := Option.some.inj h
    exact pt_ret hio rfl (.tmp _ _ .nil) rfl rfl
   ·have h := cond_f hb9 h
    refine ht_seq ?_
    refine ht_seqR hn (El := [_, _, (18, .v (.bool ((v2.toList == (⟨#[109, 97, 105, 108]⟩ : ByteArray).toList)))), (17, .v (.bool ((v2.toList == (⟨#[109, 97, 105, 108]⟩ : ByteArray).toList))))]) (init := [0, 1]) (fin := [0, 3]) (sps := [⟨[0], [], [2], [(.slot 18)]⟩, ⟨[2], [], [3], [(.slot 17)]⟩]) (es' := [(_, _), (17, .v (.bool ((v2.toList == (⟨#[109, 97, 105, 108]⟩ : ByteArray).toList))))]) (by kernel_rfl) rfl rfl
     ⟨st_plain rfl (op_bin _ _ _ _ _ rfl rfl rfl),
     st_plain rfl (op_assign _ _ _ _ rfl rfl),
     trivial⟩ ?_
    refine pt_then ?_
    refine ht_cond _ rfl (fun hb10 => ?_) (fun hb10 => ?_)
    ·have h := cond_t hb10 h
     refine ht_seq ?_
     refine ht_seqR hn (El := [_, _, (2, .v (.int .i64 2))]) (init := [0, 1]) (fin := [2]) (sps := [⟨[], [], [2], [(.slot 2)]⟩]) (es' := [(2, .v (.int .i64 2))]) (by kernel_rfl) rfl rfl
      ⟨st_plain rfl (op_assign _ _ _ _ rfl rfl),
      trivial⟩ ?_
     refine pt_then ?_
     refine ht_ret ?_
     refine pt_r_in ?_
     refine pt_r_then ?_
     obtain rfl := Option.some.inj h
     exact pt_ret hio rfl (.tmp _ _ .nil) rfl rfl
    ·have h := cond_f hb10 h
     refine ht_seq ?_
     refine ht_seqR hn (El := [_, _, (20, .v (.bool ((v2.toList == (⟨#[114, 99, 112, 116]⟩ : ByteArray).toList)))), (19, .v (.bool ((v2.toList == (⟨#[114, 99, 112, 116]⟩ : ByteArray).toList))))]) (init := [0, 1]) (fin := [0, 3]) (sps := [⟨[0], [], [2], [(.slot 20)]⟩, ⟨[2], [], [3], [(.slot 19)]⟩]) (es' := [(_, _), (19, .v (.bool ((v2.toList == (⟨#[114, 99, 112, 116]⟩ : ByteArray).toList))))]) (by kernel_rfl) rfl rfl
      ⟨st_plain rfl (op_bin _ _ _ _ _ rfl rfl rfl),
      st_plain rfl (op_assign _ _ _ _ rfl rfl),
      trivial⟩ ?_
     refine pt_then ?_
     refine ht_cond _ rfl (fun hb11 => ?_) (fun hb11 => ?_)
     ·have h := cond_t hb11 h
      refine ht_seq ?_
      refine ht_seqR hn (El := [_, _, (2, .v (.int .i64 3))]) (init := [0, 1]) (fin := [2]) (sps := [⟨[], [], [2], [(.slot 2)]⟩]) (es' := [(2, .v (.int .i64 3))]) (by kernel_rfl) rfl rfl
       ⟨st_plain rfl (op_assign _ _ _ _ rfl rfl),
       trivial⟩ ?_
      refine pt_then ?_
      refine ht_ret ?_
      refine pt_r_in ?_
      refine pt_r_then ?_
      obtain rfl := Option.some.inj h
      exact pt_ret hio rfl (.tmp _ _ .nil) rfl rfl
     ·have h := cond_f hb11 h
      refine ht_seq ?_
      refine ht_seqR hn (El := [_, _, (22, .v (.bool ((v2.toList == (⟨#[100, 97, 116, 97]⟩ : ByteArray).toList)))), (21, .v (.bool ((v2.toList == (⟨#[100, 97, 116, 97]⟩ : ByteArray).toList))))]) (init := [0, 1]) (fin := [0, 3]) (sps := [⟨[0], [], [2], [(.slot 22)]⟩, ⟨[2], [], [3], [(.slot 21)]⟩]) (es' := [(_, _), (21, .v (.bool ((v2.toList == (⟨#[100, 97, 116, 97]⟩ : ByteArray).toList))))]) (by kernel_rfl) rfl rfl
       ⟨st_plain rfl (op_bin _ _ _ _ _ rfl rfl rfl),
       st_plain rfl (op_assign _ _ _ _ rfl rfl),
       trivial⟩ ?_
      refine pt_then ?_
      refine ht_cond _ rfl (fun hb12 => ?_) (fun hb12 => ?_)
      ·have h := cond_t hb12 h
       refine ht_seq ?_
       refine ht_seqR hn (El := [_, _, (2, .v (.int .i64 4))]) (init := [0, 1]) (fin := [2]) (sps := [⟨[], [], [2], [(.slot 2)]⟩]) (es' := [(2, .v (.int .i64 4))]) (by kernel_rfl) rfl rfl
        ⟨st_plain rfl (op_assign _ _ _ _ rfl rfl),
        trivial⟩ ?_
       refine pt_then ?_
       refine ht_ret ?_
       refine pt_r_in ?_
       refine pt_r_then ?_
       obtain rfl := Option.some.inj h
       exact pt_ret hio rfl (.tmp _ _ .nil) rfl rfl
      ·have h := cond_f hb12 h
       refine ht_seq ?_
       refine ht_seqR hn (El := [_, _, (24, .v (.bool ((v2.toList == (⟨#[114, 115, 101, 116]⟩ : ByteArray).toList)))), (23, .v (.bool ((v2.toList == (⟨#[114, 115, 101, 116]⟩ : ByteArray).toList))))]) (init := [0, 1]) (fin := [0, 3]) (sps := [⟨[0], [], [2], [(.slot 24)]⟩, ⟨[2], [], [3], [(.slot 23)]⟩]) (es' := [(_, _), (23, .v (.bool ((v2.toList == (⟨#[114, 115, 101, 116]⟩ : ByteArray).toList))))]) (by kernel_rfl) rfl rfl
        ⟨st_plain rfl (op_bin _ _ _ _ _ rfl rfl rfl),
        st_plain rfl (op_assign _ _ _ _ rfl rfl),
        trivial⟩ ?_
       refine pt_then ?_
       refine ht_cond _ rfl (fun hb13 => ?_) (fun hb13 => ?_)
       ·have h := cond_t hb13 h
        refine ht_seq ?_
        refine ht_seqR hn (El := [_, _, (2, .v (.int .i64 5))]) (init := [0, 1]) (fin := [2]) (sps := [⟨[], [], [2], [(.slot 2)]⟩]) (es' := [(2, .v (.int .i64 5))]) (by kernel_rfl) rfl rfl
         ⟨st_plain rfl (op_assign _ _ _ _ rfl rfl),
         trivial⟩ ?_
        refine pt_then ?_
        refine ht_ret ?_
        refine pt_r_in ?_
        refine pt_r_then ?_
        obtain rfl := Option.some.inj h
        exact pt_ret hio rfl (.tmp _ _ .nil) rfl rfl
       ·have h := cond_f hb13 h
        refine ht_seq ?_
        refine ht_seqR hn (El := [_, _, (26, .v (.bool ((v2.toList == (⟨#[113, 117, 105, 116]⟩ : ByteArray).toList)))), (25, .v (.bool ((v2.toList == (⟨#[113, 117, 105, 116]⟩ : ByteArray).toList))))]) (init := [0, 1]) (fin := [0, 3]) (sps := [⟨[0], [], [2], [(.slot 26)]⟩, ⟨[2], [], [3], [(.slot 25)]⟩]) (es' := [(_, _), (25, .v (.bool ((v2.toList == (⟨#[113, 117, 105, 116]⟩ : ByteArray).toList))))]) (by kernel_rfl) rfl rfl
         ⟨st_plain rfl (op_bin _ _ _ _ _ rfl rfl rfl),
         st_plain rfl (op_assign _ _ _ _ rfl rfl),
         trivial⟩ ?_
        refine pt_then ?_
        refine ht_cond _ rfl (fun hb14 => ?_) (fun hb14 => ?_)
        ·have h := cond_t hb14 h
         refine ht_seq ?_
         refine ht_seqR hn (El := [_, _, (2, .v (.int .i64 8))]) (init := [0, 1]) (fin := [2]) (sps := [⟨[], [], [2], [(.slot 2)]⟩]) (es' := [(2, .v (.int .i64 8))]) (by kernel_rfl) rfl rfl
          ⟨st_plain rfl (op_assign _ _ _ _ rfl rfl),
          trivial⟩ ?_
         refine pt_then ?_
         refine ht_ret ?_
         refine pt_r_in ?_
         refine pt_r_then ?_
         obtain rfl := Option.some.inj h
         exact pt_ret hio rfl (.tmp _ _ .nil) rfl rfl
        ·have h := cond_f hb14 h
         refine ht_seq ?_
         refine ht_seqR hn (El := [_, _, (28, .v (.bool ((v2.toList == (⟨#[110, 111, 111, 112]⟩ : ByteArray).toList)))), (27, .v (.bool ((v2.toList == (⟨#[110, 111, 111, 112]⟩ : ByteArray).toList))))]) (init := [0, 1]) (fin := [0, 3]) (sps := [⟨[0], [], [2], [(.slot 28)]⟩, ⟨[2], [], [3], [(.slot 27)]⟩]) (es' := [(_, _), (27, .v (.bool ((v2.toList == (⟨#[110, 111, 111, 112]⟩ : ByteArray).toList))))]) (by kernel_rfl) rfl rfl
          ⟨st_plain rfl (op_bin _ _ _ _ _ rfl rfl rfl),
          st_plain rfl (op_assign _ _ _ _ rfl rfl),
          trivial⟩ ?_
         refine pt_then ?_
         refine ht_cond _ rfl (fun hb15 => ?_) (fun hb15 => ?_)
         ·have h := cond_t hb15 h
          refine ht_seq ?_
          refine ht_seqR hn (El := [_, _, (2, .v (.int .i64 7))]) (init := [0, 1]) (fin := [2]) (sps := [⟨[], [], [2], [(.slot 2)]⟩]) (es' := [(2, .v (.int .i64 7))]) (by kernel_rfl) rfl rfl
           ⟨st_plain rfl (op_assign _ _ _ _ rfl rfl),
           trivial⟩ ?_
          refine pt_then ?_
          refine ht_ret ?_
          refine pt_r_in ?_
          refine pt_r_then ?_
          obtain rfl := Option.some.inj h
          exact pt_ret hio rfl (.tmp _ _ .nil) rfl rfl
         ·have h := cond_f hb15 h
          refine ht_seq ?_
          refine ht_seqR hn (El := [_, _, (30, .v (.bool ((v2.toList == (⟨#[118, 114, 102, 121]⟩ : ByteArray).toList)))), (29, .v (.bool ((v2.toList == (⟨#[118, 114, 102, 121]⟩ : ByteArray).toList))))]) (init := [0, 1]) (fin := [0, 3]) (sps := [⟨[0], [], [2], [(.slot 30)]⟩, ⟨[2], [], [3], [(.slot 29)]⟩]) (es' := [(_, _), (29, .v (.bool ((v2.toList == (⟨#[118, 114, 102, 121]⟩ : ByteArray).toList))))]) (by kernel_rfl) rfl rfl
           ⟨st_plain rfl (op_bin _ _ _ _ _ rfl rfl rfl),
           st_plain rfl (op_assign _ _ _ _ rfl rfl),
           trivial⟩ ?_
          refine pt_then ?_
          refine ht_cond _ rfl (fun hb16 => ?_) (fun hb16 => ?_)
          ·have h := cond_t hb16 h
           refine ht_seq ?_
           refine ht_seqR hn (El := [_, _, (2, .v (.int .i64 6))]) (init := [0, 1]) (fin := [2]) (sps := [⟨[], [], [2], [(.slot 2)]⟩]) (es' := [(2, .v (.int .i64 6))]) (by kernel_rfl) rfl rfl
            ⟨st_plain rfl (op_assign _ _ _ _ rfl rfl),
            trivial⟩ ?_
           refine pt_then ?_
           refine ht_ret ?_
           refine pt_r_in ?_
           refine pt_r_then ?_
           obtain rfl := Option.some.inj h
           exact pt_ret hio rfl (.tmp _ _ .nil) rfl rfl
          ·have h := cond_f hb16 h
           refine ht_seq ?_
           refine ht_seqR hn (El := [_, _, (32, .v (.bool ((v2.toList == (⟨#[101, 116, 114, 110]⟩ : ByteArray).toList)))), (31, .v (.bool ((v2.toList == (⟨#[101, 116, 114, 110]⟩ : ByteArray).toList))))]) (init := [0, 1]) (fin := [0, 3]) (sps := [⟨[0], [], [2], [(.slot 32)]⟩, ⟨[2], [], [3], [(.slot 31)]⟩]) (es' := [(_, _), (31, .v (.bool ((v2.toList == (⟨#[101, 116, 114, 110]⟩ : ByteArray).toList))))]) (by kernel_rfl) rfl rfl
            ⟨st_plain rfl (op_bin _ _ _ _ _ rfl rfl rfl),
            st_plain rfl (op_assign _ _ _ _ rfl rfl),
            trivial⟩ ?_
           refine pt_then ?_
           refine ht_cond _ rfl (fun hb17 => ?_) (fun hb17 => ?_)
           ·have h := cond_t hb17 h
            refine ht_seq ?_
            refine ht_seqR hn (El := [_, _, (2, .v (.int .i64 9))]) (init := [0, 1]) (fin := [2]) (sps := [⟨[], [], [2], [(.slot 2)]⟩]) (es' := [(2, .v (.int .i64 9))]) (by kernel_rfl) rfl rfl
             ⟨st_plain rfl (op_assign _ _ _ _ rfl rfl),
             trivial⟩ ?_
            refine pt_then ?_
            refine ht_ret ?_
            refine pt_r_in ?_
            refine pt_r_then ?_
            obtain rfl := Option.some.inj h
            exact pt_ret hio rfl (.tmp _ _ .nil) rfl rfl
           ·have h := cond_f hb17 h
            refine ht_seq ?_
            refine ht_seqR hn (El := [_, _, (34, .v (.bool ((v2.toList == (⟨#[97, 117, 116, 104]⟩ : ByteArray).toList)))), (33, .v (.bool ((v2.toList == (⟨#[97, 117, 116, 104]⟩ : ByteArray).toList))))]) (init := [0, 1]) (fin := [0, 3]) (sps := [⟨[0], [], [2], [(.slot 34)]⟩, ⟨[2], [], [3], [(.slot 33)]⟩]) (es' := [(_, _), (33, .v (.bool ((v2.toList == (⟨#[97, 117, 116, 104]⟩ : ByteArray).toList))))]) (by kernel_rfl) rfl rfl
             ⟨st_plain rfl (op_bin _ _ _ _ _ rfl rfl rfl),
             st_plain rfl (op_assign _ _ _ _ rfl rfl),
             trivial⟩ ?_
            refine pt_then ?_
            refine ht_cond _ rfl (fun hb18 => ?_) (fun hb18 => ?_)
            ·have h := cond_t hb18 h
             refine ht_seq ?_
             refine ht_seqR hn (El := [_, _, (2, .v (.int .i64 10))]) (init := [0, 1]) (fin := [2]) (sps := [⟨[], [], [2], [(.slot 2)]⟩]) (es' := [(2, .v (.int .i64 10))]) (by kernel_rfl) rfl rfl
              ⟨st_plain rfl (op_assign _ _ _ _ rfl rfl),
              trivial⟩ ?_
             refine pt_then ?_
             refine ht_ret ?_
             refine pt_r_in ?_
             refine pt_r_then ?_
             obtain rfl := Option.some.inj h
             exact pt_ret hio rfl (.tmp _ _ .nil) rfl rfl
            ·have h := cond_f hb18 h
             refine ht_seq ?_
             refine ht_seqR hn (El := [_, _, (36, .v (.bool ((v2.toList == (⟨#[97, 116, 114, 110]⟩ : ByteArray).toList)))), (35, .v (.bool ((v2.toList == (⟨#[97, 116, 114, 110]⟩ : ByteArray).toList))))]) (init := [0, 1]) (fin := [3]) (sps := [⟨[0], [], [2], [(.slot 36)]⟩, ⟨[2], [], [3], [(.slot 35)]⟩]) (es' := [(35, .v (.bool ((v2.toList == (⟨#[97, 116, 114, 110]⟩ : ByteArray).toList))))]) (by kernel_rfl) rfl rfl
              ⟨st_plain rfl (op_bin _ _ _ _ _ rfl rfl rfl),
              st_plain rfl (op_assign _ _ _ _ rfl rfl),
              trivial⟩ ?_
             refine pt_then ?_
             refine ht_cond _ rfl (fun hb19 => ?_) (fun hb19 => ?_)
             ·have h := cond_t hb19 h
              refine ht_seq ?_
              refine ht_seqR hn (El := [_, (2, .v (.int .i64 11))]) (init := [0]) (fin := [1]) (sps := [⟨[], [], [1], [(.slot 2)]⟩]) (es' := [(2, .v (.int .i64 11))]) (by kernel_rfl) rfl rfl
               ⟨st_plain rfl (op_assign _ _ _ _ rfl rfl),
               trivial⟩ ?_
              refine pt_then ?_
              refine ht_ret ?_
              refine pt_r_in ?_
              refine pt_r_then ?_
              obtain rfl := Option.some.inj h
              exact pt_ret hio rfl (.tmp _ _ .nil) rfl rfl
             ·have h := cond_f hb19 h
              refine ht_skip ?_
              refine pt_inb ?_
              refine pt_then ?_
              refine ht_seq ?_
              refine ht_seqR hn (El := [_, (2, .v (.int .i64 0))]) (init := [0]) (fin := [1]) (sps := [⟨[], [], [1], [(.slot 2)]⟩]) (es' := [(2, .v (.int .i64 0))]) (by kernel_rfl) rfl rfl
               ⟨st_plain rfl (op_assign _ _ _ _ rfl rfl),
               trivial⟩ ?_
              refine pt_then ?_
              refine ht_ret ?_
              obtain rfl := Option.some.inj h
              exact pt_ret hio rfl (.tmp _ _ .nil) rfl rfl
  ·intro u5 h hl6 hr7
   refine ht_seq ?_
   refine ht_seqR hn (El := [_, (15, .v (.bool ((v2.toList == (⟨#[101, 104, 108, 111]⟩ : ByteArray).toList)))), (14, .v (.bool ((v2.toList == (⟨#[101, 104, 108, 111]⟩ : ByteArray).toList))))]) (init := [0]) (fin := [0, 2]) (sps := [⟨[0], [], [1], [(.slot 15)]⟩, ⟨[1], [], [2], [(.slot 14)]⟩]) (es' := [(_, _), (14, .v (.bool ((v2.toList == (⟨#[101, 104, 108, 111]⟩ : ByteArray).toList))))]) (by kernel_rfl) rfl rfl
    ⟨st_plain rfl (op_bin _ _ _ _ _ rfl rfl rfl),
    st_plain rfl (op_assign _ _ _ _ rfl rfl),
    trivial⟩ ?_
   refine pt_then ?_
   refine ht_cond _ rfl (fun hb8 => ?_) (fun hb8 => ?_)
   ·have h := cond_t hb8 h
    refine ht_skip ?_
    exact hl6 _ (Option.some.inj h).symm
   ·have h := cond_f hb8 h
    refine ht_seqR hn (El := [_, _, (16, .v (.bool ((v2.toList == (⟨#[104, 101, 108, 111]⟩ : ByteArray).toList)))), (14, .v (.bool ((v2.toList == (⟨#[104, 101, 108, 111]⟩ : ByteArray).toList))))]) (init := [0, 1]) (fin := [0, 3]) (sps := [⟨[0], [], [2], [(.slot 16)]⟩, ⟨[2], [1], [3], [(.slot 14)]⟩]) (es' := [(_, _), (14, .v (.bool ((v2.toList == (⟨#[104, 101, 108, 111]⟩ : ByteArray).toList))))]) (by kernel_rfl) rfl rfl
     ⟨st_plain rfl (op_bin _ _ _ _ _ rfl rfl rfl),
     st_plain rfl (LOp.drop [_] (op_assign _ _ _ _ rfl rfl)),
     trivial⟩ ?_
    exact hl6 _ (Option.some.inj h).symm
set_option maxHeartbeats 1000000 in
theorem ok_verb_equalFold (a : ByteArray) (b : ByteArray) (r : Bool) (h : Sh.verb_equalFold a b = some r) : FnOK Tryd.prog 33 [.v (.string a), .v (.string b)] (.v (.bool r)) := by
  unfold Sh.verb_equalFold at h
  refine fn_ok Tryd.func33 rfl (Nat.le_of_ble_eq_true rfl) rfl rfl fun g0 hn hio => ?_
  refine ht_seq ?_
  refine ht_seqR hn (El := [_, _, (4, .v (.bool false))]) (init := [0, 1]) (fin := [0, 1]) (sps := [⟨[], [], [2], [(.slot 4)]⟩]) (es' := [(_, _), (_, _)]) (by kernel_rfl) rfl rfl
   ⟨st_plain rfl (op_assign _ _ _ _ rfl rfl),
   trivial⟩ ?_
  refine pt_then ?_
  refine ht_seq ?_
  obtain ⟨v1, hv1, h⟩ := bind_some h
  obtain ⟨v2, hv2, h⟩ := bind_some h
  refine ht_seqR hn (El := [_, _, (5, .v (.string a)), (6, .v (.string v1)), (7, .v (.string b)), (8, .v (.string v2)), (9, .v (.bool (v1.toList == v2.toList))), (4, .v (.bool (v1.toList == v2.toList)))]) (init := [0, 1]) (fin := [7]) (sps := [⟨[0], [], [2], [(.slot 5)]⟩, ⟨[2], [], [3], [(.slot 6)]⟩, ⟨[1], [], [4], [(.slot 7)]⟩, ⟨[4], [], [5], [(.slot 8)]⟩, ⟨[3, 5], [], [6], [(.slot 9)]⟩, ⟨[6], [], [7], [(.slot 4)]⟩]) (es' := [(4, .v (.bool (v1.toList == v2.toList)))]) (by kernel_rfl) rfl rfl
   ⟨st_plain rfl (op_move _ _ _ _ rfl rfl),
   st_plain rfl (op_call _ _ 31 _ _ rfl Tryd.call31 rfl (ok_path_Fold a _ hv1) rfl rfl),
   st_plain rfl (op_move _ _ _ _ rfl rfl),
   st_plain rfl (op_call _ _ 31 _ _ rfl Tryd.call31 rfl (ok_path_Fold b _ hv2) rfl rfl),
   st_plain rfl (op_bin _ _ _ _ _ rfl rfl rfl),
   st_plain rfl (op_assign _ _ _ _ rfl rfl),
   trivial⟩ ?_
  refine pt_then ?_
  refine ht_ret ?_
  obtain rfl := Option.some.inj h
  exact pt_ret hio rfl (.tmp _ _ .nil) rfl rfl
set_option maxHeartbeats 1000000 in
theorem ok_verb_cutFold (s : ByteArray) (prefix_ : ByteArray) (r : (ByteArray × Bool)) (h : Sh.verb_cutFold s prefix_ = some r) : FnOK Tryd.prog 32 [.v (.string s), .v (.string prefix_)] (.tup [.v (.string r.1), .v (.bool r.2)]) := by
  unfold Sh.verb_cutFold at h
  refine fn_ok Tryd.func32 rfl (Nat.le_of_ble_eq_true rfl) rfl rfl fun g0 hn hio => ?_
  refine ht_seq ?_
  refine ht_seqR hn (El := [_, _, (4, .v (.string (⟨#[]⟩ : ByteArray))), (5, .v (.bool false))]) (init := [0, 1]) (fin := [0, 1]) (sps := [⟨[], [], [2], [(.slot 4)]⟩, ⟨[], [], [3], [(.slot 5)]⟩]) (es' := [(_, _), (_, _)]) (by kernel_rfl) rfl rfl
   ⟨st_plain rfl (op_assign _ _ _ _ rfl rfl),
   st_plain rfl (op_assign _ _ _ _ rfl rfl),
   trivial⟩ ?_
  refine pt_then ?_
  refine ht_seq ?_
  refine ht_seq ?_
  refine ht_joinS h (fun (s3 : Bool) => [(0, .v (.string s)), (1, .v (.string prefix_)), (19, .v (.bool s3))]) ?_ ?_
  ·rintro s3 h
   refine pt_then ?_
   refine ht_cond _ rfl (fun hb7 => ?_) (fun hb7 => ?_)
   ·have h := cond_t hb7 h
    refine ht_seq ?_
    refine ht_seqR hn (El := [_, _, _, (4, .v (.string (⟨#[]⟩ : ByteArray))), (5, .v (.bool false))]) (init := [0, 1, 2]) (fin := [3, 4]) (sps := [⟨[], [], [3], [(.slot 4)]⟩, ⟨[], [], [4], [(.slot 5)]⟩]) (es' := [(4, .v (.string (⟨#[]⟩ : ByteArray))), (5, .v (.bool false))]) (by kernel_rfl) rfl rfl
     ⟨st_plain rfl (op_assign _ _ _ _ rfl rfl),
     st_plain rfl (op_assign _ _ _ _ rfl rfl),
     trivial⟩ ?_
    refine pt_then ?_
    refine ht_ret ?_
    refine pt_r_then ?_
    obtain rfl := Option.some.inj h
    exact pt_ret hio rfl (.tmp _ _ (.tmp _ _ .nil)) rfl rfl
   ·have h := cond_f hb7 h
    refine ht_skip ?_
    refine pt_then ?_
    refine ht_seq ?_
    obtain ⟨v8, hv8, h⟩ := bind_some h
    refine ht_seqR hn (El := [_, _, _, (20, .v (.string s)), (21, .v (.string prefix_)), (22, .v (.int .i64 (prefix_.size : Int))), (23, .v (.string v8)), (4, .v (.string v8)), (5, .v (.bool true))]) (init := [0, 1, 2]) (fin := [7, 8]) (sps := [⟨[0], [], [3], [(.slot 20)]⟩, ⟨[1], [], [4], [(.slot 21)]⟩, ⟨[4], [], [5], [(.slot 22)]⟩, ⟨[3, 5], [], [6], [(.slot 23)]⟩, ⟨[6], [], [7], [(.slot 4)]⟩, ⟨[], [], [8], [(.slot 5)]⟩]) (es' := [(4, .v (.string v8)), (5, .v (.bool true))]) (by kernel_rfl) rfl rfl
     ⟨st_plain rfl (op_move _ _ _ _ rfl rfl),
     st_plain rfl (op_move _ _ _ _ rfl rfl),
     st_plain rfl (op_len_str _ _ _ Tryd.underlying9 rfl),
     st_plain rfl (op_substr _ _ _ (prefix_.size : Int) (s.size : Int) _ Tryd.underlying9 rfl ⟨_, rfl⟩ rfl hv8),
     st_plain rfl (op_assign _ _ _ _ rfl rfl),
     st_plain rfl (op_assign _ _ _ _ rfl rfl),
     trivial⟩ ?_
    refine pt_then ?_
    refine ht_ret ?_
    obtain rfl := Option.some.inj h
    exact pt_ret hio rfl (.tmp _ _ (.tmp _ _ .nil)) rfl rfl
  ·intro u4 h hl5 hr6
   refine cond_some h (fun hg1_5 h => ?_) (fun hg1_5 h => ?_)
   ·refine ht_seqR hn (El := (_ :: _ :: (6, .v (.string s)) :: (7, .v (.int .i64 (s.size : Int))) :: (8, .v (.string prefix_)) :: (9, .v (.int .i64 (prefix_.size : Int))) :: (10, .v (.bool ((decide ((s.size : Int) < (prefix_.size : Int)))))) :: (11, .v (.bool true)) :: (12, .v undef) :: (13, .v undef) :: (14, .v undef) :: (15, .v undef) :: (16, .v undef) :: (17, .v undef) :: (18, .v undef) :: (19, .v (.bool true)) :: [])) (init := [0, 1]) (fin := [0, 1, 15]) (sps := [⟨[0], [], [2], [(.slot 6)]⟩, ⟨[2], [], [3], [(.slot 7)]⟩, ⟨[1], [], [4], [(.slot 8)]⟩, ⟨[4], [], [5], [(.slot 9)]⟩, ⟨[3, 5], [], [6], [(.slot 10)]⟩, ⟨[6], [], [7], [(.slot 11)]⟩, ⟨[7], [], [8], [(.slot 12)]⟩, ⟨[7], [], [9], [(.slot 13)]⟩, ⟨[7], [], [10], [(.slot 14)]⟩, ⟨[7], [], [11], [(.slot 15)]⟩, ⟨[7], [], [12], [(.slot 16)]⟩, ⟨[7], [], [13], [(.slot 17)]⟩, ⟨[7], [], [14], [(.slot 18)]⟩, ⟨[7], [], [15], [(.slot 19)]⟩]) (es' := [(_, _), (_, _), (19, .v (.bool true))]) (by kernel_rfl) rfl rfl
     ⟨st_plain rfl (op_move _ _ _ _ rfl rfl),
     st_plain rfl (op_len_str _ _ _ Tryd.underlying9 rfl),
     st_plain rfl (op_move _ _ _ _ rfl rfl),
     st_plain rfl (op_len_str _ _ _ Tryd.underlying9 rfl),
     st_plain rfl (op_bin _ _ _ _ _ rfl rfl rfl),
     st_plain rfl (op_move _ _ _ _ (congrArg (fun b => AV.v (Value.bool b)) hg1_5) rfl),
     st_skip 5 11 _ false rfl rfl rfl rfl (List.Mem.head _),
     st_skip 5 11 _ false rfl rfl rfl rfl (List.Mem.head _),
     st_skip 5 11 _ false rfl rfl rfl rfl (List.Mem.head _),
     st_skip 5 11 _ false rfl rfl rfl rfl (List.Mem.head _),
     st_skip 5 11 _ false rfl rfl rfl rfl (List.Mem.head _),
     st_skip 5 11 _ false rfl rfl rfl rfl (List.Mem.head _),
     st_skip 5 11 _ false rfl rfl rfl rfl (List.Mem.head _),
     st_plain rfl (op_pick _ _ true _ rfl rfl),
     trivial⟩ ?_
    exact hl5 _ (Option.some.inj h).symm
   ·obtain ⟨v1, hv1, h⟩ := bind_some h
    obtain ⟨v2, hv2, h⟩ := bind_some h
    refine ht_seqR hn (El := (_ :: _ :: (6, .v (.string s)) :: (7, .v (.int .i64 (s.size : Int))) :: (8, .v (.string prefix_)) :: (9, .v (.int .i64 (prefix_.size : Int))) :: (10, .v (.bool ((decide ((s.size : Int) < (prefix_.size : Int)))))) :: (11, .v (.bool false)) :: (12, .v (.string s)) :: (13, .v (.string prefix_)) :: (14, .v (.int .i64 (prefix_.size : Int))) :: (15, .v (.string v1)) :: (16, .v (.string prefix_)) :: (17, .v (.bool v2)) :: (18, .v (.bool (!v2))) :: (19, .v (.bool (!v2))) :: [])) (init := [0, 1]) (fin := [0, 1, 15]) (sps := [⟨[0], [], [2], [(.slot 6)]⟩, ⟨[2], [], [3], [(.slot 7)]⟩, ⟨[1], [], [4], [(.slot 8)]⟩, ⟨[4], [], [5], [(.slot 9)]⟩, ⟨[3, 5], [], [6], [(.slot 10)]⟩, ⟨[6], [], [7], [(.slot 11)]⟩, ⟨[7, 0], [], [8], [(.slot 12)]⟩, ⟨[7, 1], [], [9], [(.slot 13)]⟩, ⟨[7, 9], [], [10], [(.slot 14)]⟩, ⟨[7, 8, 10], [], [11], [(.slot 15)]⟩, ⟨[7, 1], [], [12], [(.slot 16)]⟩, ⟨[7, 11, 12], [], [13], [(.slot 17)]⟩, ⟨[7, 13], [], [14], [(.slot 18)]⟩, ⟨[7, 14], [], [15], [(.slot 19)]⟩]) (es' := [(_, _), (_, _), (19, .v (.bool (!v2)))]) (by kernel_rfl) rfl rfl
     ⟨st_plain rfl (op_move _ _ _ _ rfl rfl),
     st_plain rfl (op_len_str _ _ _ Tryd.underlying9 rfl),
     st_plain rfl (op_move _ _ _ _ rfl rfl),
     st_plain rfl (op_len_str _ _ _ Tryd.underlying9 rfl),
     st_plain rfl (op_bin _ _ _ _ _ rfl rfl rfl),
     st_plain rfl (op_move _ _ _ _ (congrArg (fun b => AV.v (Value.bool b)) hg1_5) rfl),
     st_run 5 11 false rfl rfl rfl (List.Mem.head _) (op_move _ _ _ _ rfl rfl),
     st_run 5 11 false rfl rfl rfl (List.Mem.head _) (op_move _ _ _ _ rfl rfl),
     st_run 5 11 false rfl rfl rfl (List.Mem.head _) (op_len_str _ _ _ Tryd.underlying9 rfl),
     st_run 5 11 false rfl rfl rfl (List.Mem.head _) (op_substr _ _ _ 0 (prefix_.size : Int) _ Tryd.underlying9 rfl rfl ⟨_, rfl⟩ hv1),
     st_run 5 11 false rfl rfl rfl (List.Mem.head _) (op_move _ _ _ _ rfl rfl),
     st_run 5 11 false rfl rfl rfl (List.Mem.head _) (op_call _ _ 33 _ _ rfl Tryd.call33 rfl (ok_verb_equalFold v1 prefix_ _ hv2) rfl rfl),
     st_run 5 11 false rfl rfl rfl (List.Mem.head _) (op_un _ _ _ _ rfl rfl),
     st_plain rfl (op_pick _ _ false _ rfl rfl),
     trivial⟩ ?_
    exact hl5 _ (Option.some.inj h).symm
set_option maxHeartbeats 1000000 in
theorem ok_strings_splitSeq (s : ByteArray) (sep : ByteArray) (sepSave : Int) (r : (ByteArray × ByteArray × Int)) (h : Sh.strings_splitSeq s sep sepSave = some r) : FnOK Tryd.prog 61 [.v (.string s), .v (.string sep), .v (.int .i64 sepSave)] (.cloB 71 [.box 9 [.v (.string r.1)], .box 9 [.v (.string r.2.1)], .box 3 [.v (.int .i64 r.2.2)]]) := by
  unfold Sh.strings_splitSeq at h
  refine fn_ok Tryd.func61 rfl (Nat.le_of_ble_eq_true rfl) rfl rfl fun g0 hn hio => ?_
  refine ht_seq ?_
  refine ht_seqR hn (El := [_, _, _, (3, .box 9 [.v (.string s)]), (4, .box 9 [.v (.string sep)]), (5, .box 3 [.v (.int .i64 sepSave)]), (6, .v (.nilFunc))]) (init := [0, 1, 2]) (fin := [3, 4, 5]) (sps := [⟨[0], [], [3], [(.slot 3)]⟩, ⟨[1], [], [4], [(.slot 4)]⟩, ⟨[2], [], [5], [(.slot 5)]⟩, ⟨[], [], [6], [(.slot 6)]⟩]) (es' := [(3, .box 9 [.v (.string s)]), (4, .box 9 [.v (.string sep)]), (5, .box 3 [.v (.int .i64 sepSave)])]) (by kernel_rfl) rfl rfl
   ⟨st_plain rfl (op_box _ _ _ _ rfl rfl rfl),
   st_plain rfl (op_box _ _ _ _ rfl rfl rfl),
   st_plain rfl (op_box _ _ _ _ rfl rfl rfl),
   st_plain rfl (op_assign _ _ _ _ rfl rfl),
   trivial⟩ ?_
  refine pt_then ?_
  refine ht_seq ?_
  refine ht_seqR hn (El := [_, _, _, (7, .cloB 71 [.box 9 [.v (.string sep)], .box 9 [.v (.string s)], .box 3 [.v (.int .i64 sepSave)]]), (6, .cloB 71 [.box 9 [.v (.string sep)], .box 9 [.v (.string s)], .box 3 [.v (.int .i64 sepSave)]])]) (init := [0, 1, 2]) (fin := [4]) (sps := [⟨[], [1, 0, 2], [3], [(.slot 7)]⟩, ⟨[], [3], [4], [(.slot 6)]⟩]) (es' := [(6, .cloB 71 [.box 9 [.v (.string sep)], .box 9 [.v (.string s)], .box 3 [.v (.int .i64 sepSave)]])]) (by kernel_rfl) rfl rfl
   ⟨st_plain rfl (op_mkclo _ _ [4, 3, 5] [.box 9 [.v (.string sep)], .box 9 [.v (.string s)], .box 3 [.v (.int .i64 sepSave)]] rfl rfl rfl),
   st_plain rfl (op_assign_take _ _ _ _ rfl),
   trivial⟩ ?_
  refine pt_then ?_
  refine ht_ret ?_
  obtain rfl := Option.some.inj h
  exact pt_ret hio rfl (.tmp _ _ .nil) rfl rfl
set_option maxHeartbeats 1000000 in
theorem ok_strings_SplitSeq (s : ByteArray) (sep : ByteArray) (r : (ByteArray × ByteArray × Int)) (h : Sh.strings_SplitSeq s sep = some r) : FnOK Tryd.prog 47 [.v (.string s), .v (.string sep)] (.cloB 71 [.box 9 [.v (.string r.1)], .box 9 [.v (.string r.2.1)], .box 3 [.v (.int .i64 r.2.2)]]) := by
  unfold Sh.strings_SplitSeq at h
  refine fn_ok Tryd.func47 rfl (Nat.le_of_ble_eq_true rfl) rfl rfl fun g0 hn hio => ?_
  refine ht_seq ?_
  refine ht_seqR hn (El := [_, _, (4, .v (.nilFunc))]) (init := [0, 1]) (fin := [0, 1]) (sps := [⟨[], [], [2], [(.slot 4)]⟩]) (es' := [(_, _), (_, _)]) (by kernel_rfl) rfl rfl
   ⟨st_plain rfl (op_assign _ _ _ _ rfl rfl),
   trivial⟩ ?_
  refine pt_then ?_
  refine ht_seq ?_
  obtain ⟨v1, hv1, h⟩ := bind_some h
  refine ht_seqR hn (El := [_, _, (5, .v (.string s)), (6, .v (.string sep)), (7, .cloB 71 [.box 9 [.v (.string v1.1)], .box 9 [.v (.string v1.2.1)], .box 3 [.v (.int .i64 v1.2.2)]]), (4, .cloB 71 [.box 9 [.v (.string v1.1)], .box 9 [.v (.string v1.2.1)], .box 3 [.v (.int .i64 v1.2.2)]])]) (init := [0, 1]) (fin := [5]) (sps := [⟨[0], [], [2], [(.slot 5)]⟩, ⟨[1], [], [3], [(.slot 6)]⟩, ⟨[2, 3], [], [4], [(.slot 7)]⟩, ⟨[], [4], [5], [(.slot 4)]⟩]) (es' := [(4, .cloB 71 [.box 9 [.v (.string v1.1)], .box 9 [.v (.string v1.2.1)], .box 3 [.v (.int .i64 v1.2.2)]])]) (by kernel_rfl) rfl rfl
   ⟨st_plain rfl (op_move _ _ _ _ rfl rfl),
   st_plain rfl (op_move _ _ _ _ rfl rfl),
   st_plain rfl (op_callS _ _ 61 _ _ rfl Tryd.call61 rfl rfl (ok_strings_splitSeq s sep 0 _ hv1) rfl),
   st_plain rfl (op_assign_take _ _ _ _ rfl),
   trivial⟩ ?_
  refine pt_then ?_
  refine ht_ret ?_
  obtain rfl := Option.some.inj h
  exact pt_ret hio rfl (.tmp _ _ .nil) rfl rfl
set_option maxHeartbeats 1000000 in
theorem ok_unicode_utf8_decodeRuneInStringSlow (mx : Int) (s : ByteArray) (r : (Int × Int)) (h : Sh.unicode_utf8_decodeRuneInStringSlow s = some r) : FnG Tryd.prog (GL mx) 76 [.v (.string s)] (.tup [.v (.int .i32 r.1), .v (.int .i64 r.2)]) := by
  unfold Sh.unicode_utf8_decodeRuneInStringSlow at h
  refine fn_okG Tryd.func76 rfl (Nat.le_of_ble_eq_true rfl) rfl rfl fun g0 hn hio => ?_
  refine ht_seq ?_
  refine ht_seqR hn (El := [_, _, (2, .v (.int .i32 0)), (3, .v (.int .i64 0))]) (init := [0, 1]) (fin := [0, 1]) (sps := [⟨[], [], [2], [(.slot 2)]⟩, ⟨[], [], [3], [(.slot 3)]⟩]) (es' := [(_, _), (_, _)]) (by kernel_rfl) rfl rfl
   ⟨st_plain rfl (op_assign _ _ _ _ rfl rfl),
   st_plain rfl (op_assign _ _ _ _ rfl rfl),
   trivial⟩ ?_
  refine pt_then ?_
  refine ht_seq ?_
  refine ht_seqR hn (El := [_, _, (13, .v (.string s)), (14, .v (.int .i64 (s.size : Int))), (4, .v (.int .i64 (s.size : Int)))]) (init := [0, 1]) (fin := [0, 1, 4]) (sps := [⟨[0], [], [2], [(.slot 13)]⟩, ⟨[2], [], [3], [(.slot 14)]⟩, ⟨[3], [], [4], [(.slot 4)]⟩]) (es' := [(_, _), (_, _), (4, .v (.int .i64 (s.size : Int)))]) (by kernel_rfl) rfl rfl
   ⟨st_plain rfl (op_move _ _ _ _ rfl rfl),
   st_plain rfl (op_len_str _ _ _ Tryd.underlying9 rfl),
   st_plain rfl (op_assign _ _ _ _ rfl rfl),
   trivial⟩ ?_
  refine pt_then ?_
  refine ht_seq ?_
  refine ht_seq ?_
  refine ht_seqR hn (El := [_, _, _, (15, .v (.int .i64 (s.size : Int))), (16, .v (.bool ((decide ((s.size : Int) < 1)))))]) (init := [0, 1, 2]) (fin := [0, 1, 2, 4]) (sps := [⟨[2], [], [3], [(.slot 15)]⟩, ⟨[3], [], [4], [(.slot 16)]⟩]) (es' := [(_, _), (_, _), (_, _), (16, .v (.bool ((decide ((s.size : Int) < 1)))))]) (by kernel_rfl) rfl rfl
   ⟨st_plain rfl (op_move _ _ _ _ rfl rfl),
   st_plain rfl (op_bin _ _ _ _ _ rfl rfl rfl),
   trivial⟩ ?_
  refine pt_then ?_
  refine ht_cond _ rfl (fun hb1 => ?_) (fun hb1 => ?_)
  ·have h := cond_t hb1 h
   refine ht_seq ?_
   refine ht_seqR hn (El := [_, _, _, _, (2, .v (.int .i32 65533)), (3, .v (.int .i64 0))]) (init := [0, 1, 2, 3]) (fin := [1, 4, 5]) (sps := [⟨[], [], [4], [(.slot 2)]⟩, ⟨[], [], [5], [(.slot 3)]⟩]) (es' := [(_, _), (2, .v (.int .i32 65533)), (3, .v (.int .i64 0))]) (by kernel_rfl) rfl rfl
    ⟨st_plain rfl (op_assign _ _ _ _ rfl rfl),
    st_plain rfl (op_assign _ _ _ _ rfl rfl),
    trivial⟩ ?_
   refine pt_then ?_
   refine ht_ret ?_
   refine pt_pick [1, 2] (by kernel_rfl) (es' := [(_, _), (_, _)]) rfl ?_
   refine pt_r_then ?_
   obtain rfl := Option.some.inj h
   exact pt_ret hio rfl (.tmp _ _ (.tmp _ _ .nil)) rfl rfl
  ·have h := cond_f hb1 h
   cases h
set_option maxHeartbeats 1000000 in
theorem ok_unicode_utf8_DecodeRuneInString (mx : Int) (s : ByteArray) (r : (Int × Int)) (h : Sh.unicode_utf8_DecodeRuneInString s = some r) : FnG Tryd.prog (GL mx) 72 [.v (.string s)] (.tup [.v (.int .i32 r.1), .v (.int .i64 r.2)]) := by
  unfold Sh.unicode_utf8_DecodeRuneInString at h
  refine fn_okG Tryd.func72 rfl (Nat.le_of_ble_eq_true rfl) rfl rfl fun g0 hn hio => ?_
  refine ht_seq ?_
  refine ht_seqR hn (El := [_, _, (2, .v (.int .i32 0)), (3, .v (.int .i64 0))]) (init := [0, 1]) (fin := [0, 1]) (sps := [⟨[], [], [2], [(.slot 2)]⟩, ⟨[], [], [3], [(.slot 3)]⟩]) (es' := [(_, _), (_, _)]) (by kernel_rfl) rfl rfl
   ⟨st_plain rfl (op_assign _ _ _ _ rfl rfl),
   st_plain rfl (op_assign _ _ _ _ rfl rfl),
   trivial⟩ ?_
  refine pt_then ?_
  refine ht_seq ?_
  refine ht_seq ?_
  refine ht_joinS h (fun (s2 : Bool) => [(0, .v (.string s)), (19, .glob (GL mx)), (10, .v (.bool s2))]) ?_ ?_
  ·rintro s2 h
   refine pt_then ?_
   refine ht_cond _ rfl (fun hb6 => ?_) (fun hb6 => ?_)
   ·have h := cond_t hb6 h
    refine ht_seq ?_
    obtain ⟨v7, hv7, h⟩ := bind_some h
    obtain ⟨v8, hv8, h⟩ := bind_some h
    refine ht_seqR hn (El := [_, _, _, (11, .v (.string s)), (12, .v (.int .u8 v7)), (13, .v (.int .i32 v8)), (2, .v (.int .i32 v8)), (3, .v (.int .i64 1))]) (init := [0, 1, 2]) (fin := [1, 6, 7]) (sps := [⟨[0], [], [3], [(.slot 11)]⟩, ⟨[3], [], [4], [(.slot 12)]⟩, ⟨[4], [], [5], [(.slot 13)]⟩, ⟨[5], [], [6], [(.slot 2)]⟩, ⟨[], [], [7], [(.slot 3)]⟩]) (es' := [(_, _), (2, .v (.int .i32 v8)), (3, .v (.int .i64 1))]) (by kernel_rfl) rfl rfl
     ⟨st_plain rfl (op_move _ _ _ _ rfl rfl),
     st_plain rfl (op_chr _ _ _ 0 _ Tryd.underlying9 rfl rfl hv7),
     st_plain rfl ((Option.some.inj hv8) ▸ op_conv _ _ _ Tryd.underlying5 Tryd.underlying21 rfl),
     st_plain rfl (op_assign _ _ _ _ rfl rfl),
     st_plain rfl (op_assign _ _ _ _ rfl rfl),
     trivial⟩ ?_
    refine pt_then ?_
    refine ht_ret ?_
    refine pt_pick [1, 2] (by kernel_rfl) (es' := [(_, _), (_, _)]) rfl ?_
    refine pt_r_then ?_
    obtain rfl := Option.some.inj h
    exact pt_ret hio rfl (.tmp _ _ (.tmp _ _ .nil)) rfl rfl
   ·have h := cond_f hb6 h
    obtain ⟨v9, hv9, h⟩ := bind_some h
    refine ht_seqR hn (El := [_, _, _, (15, .v (.string s)), (16, .tup [.v (.int .i32 v9.1), .v (.int .i64 v9.2)]), (14, .tup [.v (.int .i32 v9.1), .v (.int .i64 v9.2)]), (17, .v (.int .i32 v9.1)), (18, .v (.int .i64 v9.2)), (2, .v (.int .i32 v9.1)), (3, .v (.int .i64 v9.2))]) (init := [0, 1, 2]) (fin := [1, 8, 9]) (sps := [⟨[0], [], [3], [(.slot 15)]⟩, ⟨[3, 1], [], [4], [(.slot 16)]⟩, ⟨[], [4], [5], [(.slot 14)]⟩, ⟨[5], [], [6], [(.slot 17)]⟩, ⟨[5], [], [7], [(.slot 18)]⟩, ⟨[6], [], [8], [(.slot 2)]⟩, ⟨[7], [], [9], [(.slot 3)]⟩]) (es' := [(_, _), (2, .v (.int .i32 v9.1)), (3, .v (.int .i64 v9.2))]) (by kernel_rfl) rfl rfl
     ⟨st_plain rfl (op_move _ _ _ _ rfl rfl),
     st_plain rfl (op_callG _ _ 19 76 _ _ rfl Tryd.call76 rfl rfl (fun _ h => h) (ok_unicode_utf8_decodeRuneInStringSlow mx s _ hv9) rfl rfl),
     st_plain rfl (op_move_take _ _ _ _ rfl),
     st_plain rfl (op_extract _ _ _ _ _ rfl rfl (Nat.le_of_ble_eq_true rfl) rfl rfl),
     st_plain rfl (op_extract _ _ _ _ _ rfl rfl (Nat.le_of_ble_eq_true rfl) rfl rfl),
     st_plain rfl (op_assign _ _ _ _ rfl rfl),
     st_plain rfl (op_assign _ _ _ _ rfl rfl),
     trivial⟩ ?_
    refine pt_then ?_
    refine ht_ret ?_
    refine pt_pick [1, 2] (by kernel_rfl) (es' := [(_, _), (_, _)]) rfl ?_
    obtain rfl := Option.some.inj h
    exact pt_ret hio rfl (.tmp _ _ (.tmp _ _ .nil)) rfl rfl
  ·intro u3 h hl4 hr5
   refine cond_some h (fun hg1_2 h => ?_) (fun hg1_2 h => ?_)
   ·obtain ⟨v1, hv1, h⟩ := bind_some h
    refine ht_seqR hn (El := [_, _, (4, .v (.string s)), (5, .v (.bool ((!(s.toList == (⟨#[]⟩ : ByteArray).toList))))), (6, .v (.bool true)), (7, .v (.string s)), (8, .v (.int .u8 v1)), (9, .v (.bool ((decide (v1 < 128))))), (10, .v (.bool ((decide (v1 < 128)))))]) (init := [0, 1]) (fin := [0, 1, 8]) (sps := [⟨[0], [], [2], [(.slot 4)]⟩, ⟨[2], [], [3], [(.slot 5)]⟩, ⟨[3], [], [4], [(.slot 6)]⟩, ⟨[4, 0], [], [5], [(.slot 7)]⟩, ⟨[4, 5], [], [6], [(.slot 8)]⟩, ⟨[4, 6], [], [7], [(.slot 9)]⟩, ⟨[4, 7], [], [8], [(.slot 10)]⟩]) (es' := [(_, _), (_, _), (10, .v (.bool ((decide (v1 < 128)))))]) (by kernel_rfl) rfl rfl
     ⟨st_plain rfl (op_move _ _ _ _ rfl rfl),
     st_plain rfl (op_bin _ _ _ _ _ rfl rfl rfl),
     st_plain rfl (op_move _ _ _ _ (congrArg (fun b => AV.v (Value.bool b)) hg1_2) rfl),
     st_run 2 6 true rfl rfl rfl (List.Mem.head _) (op_move _ _ _ _ rfl rfl),
     st_run 2 6 true rfl rfl rfl (List.Mem.head _) (op_chr _ _ _ 0 _ Tryd.underlying9 rfl rfl hv1),
     st_run 2 6 true rfl rfl rfl (List.Mem.head _) (op_bin _ _ _ _ _ rfl rfl rfl),
     st_plain rfl (op_pick _ _ true _ rfl rfl),
     trivial⟩ ?_
    exact hl4 _ (Option.some.inj h).symm
   ·refine ht_seqR hn (El := [_, _, (4, .v (.string s)), (5, .v (.bool ((!(s.toList == (⟨#[]⟩ : ByteArray).toList))))), (6, .v (.bool false)), (7, .v undef), (8, .v undef), (9, .v undef), (10, .v (.bool false))]) (init := [0, 1]) (fin := [0, 1, 8]) (sps := [⟨[0], [], [2], [(.slot 4)]⟩, ⟨[2], [], [3], [(.slot 5)]⟩, ⟨[3], [], [4], [(.slot 6)]⟩, ⟨[4], [], [5], [(.slot 7)]⟩, ⟨[4], [], [6], [(.slot 8)]⟩, ⟨[4], [], [7], [(.slot 9)]⟩, ⟨[4], [], [8], [(.slot 10)]⟩]) (es' := [(_, _), (_, _), (10, .v (.bool false))]) (by kernel_rfl) rfl rfl
     ⟨st_plain rfl (op_move _ _ _ _ rfl rfl),
     st_plain rfl (op_bin _ _ _ _ _ rfl rfl rfl),
     st_plain rfl (op_move _ _ _ _ (congrArg (fun b => AV.v (Value.bool b)) hg1_2) rfl),
     st_skip 2 6 _ true rfl rfl rfl rfl (List.Mem.head _),
     st_skip 2 6 _ true rfl rfl rfl rfl (List.Mem.head _),
     st_skip 2 6 _ true rfl rfl rfl rfl (List.Mem.head _),
     st_plain rfl (op_pick _ _ false _ rfl rfl),
     trivial⟩ ?_
    exact hl4 _ (Option.some.inj h).symm
theorem ok_strings_Index (s sub : ByteArray) (r : Int) (h : Sh.strings_Index s sub = some r) : FnOK Tryd.prog 41 [.v (.string s), .v (.string sub)] (.v (.int .i64 r)) := lib_strings_Index Tryd.strings_Index_one s sub r h
set_option maxHeartbeats 1000000 in
theorem ok_strings_splitSeq_1 (mx : Int) (l : Nat) {S : Type} (J : S → InvT) (Y : ByteArray → S → Option (S × Bool)) (hY : YieldOK Tryd.prog l (fun x => .v (.string x)) Y J) (c0 : ByteArray) (c1 : ByteArray) (c2 : Int) (st r : S) (h : Sh.strings_splitSeq_1 Y c0 c1 c2 st = some r) : FnI Tryd.prog (GL mx) 71 l [.box 9 [.v (.string c0)], .box 9 [.v (.string c1)], .box 3 [.v (.int .i64 c2)]] (J st) (J r) := by
  unfold Sh.strings_splitSeq_1 at h
  refine fn_okI Tryd.func71 rfl (Nat.le_of_ble_eq_true rfl) rfl fun g0 hn hio => ?_
  refine ht_seq ?_
  refine ht_seq ?_
  refine ht_seqR hn (El := [_, _, _, _, _, _, (9, .v (.string c0)), (10, .v (.int .i64 (c0.size : Int))), (11, .v (.bool (((c0.size : Int) == 0))))]) (init := [0, 1, 2, 3, 4, 5]) (fin := [0, 1, 2, 3, 4, 5, 8]) (sps := [⟨[1], [], [6], [(.slot 9)]⟩, ⟨[6], [], [7], [(.slot 10)]⟩, ⟨[7], [], [8], [(.slot 11)]⟩]) (es' := [(_, _), (_, _), (_, _), (_, _), (_, _), (_, _), (11, .v (.bool (((c0.size : Int) == 0))))]) (by kernel_rfl) rfl rfl
   ⟨st_plain rfl (op_load _ _ _ _ _ _ Tryd.underlying9 rfl rfl rfl (Nat.le_of_ble_eq_true rfl) rfl rfl rfl),
   st_plain rfl (op_len_str _ _ _ Tryd.underlying9 rfl),
   st_plain rfl (op_bin _ _ _ _ _ rfl rfl rfl),
   trivial⟩ ?_
  refine pt_then ?_
  refine ht_cond _ rfl (fun hb1 => ?_) (fun hb1 => ?_)
  ·have h := cond_t hb1 h
   refine ht_seq ?_
   refine ht_pick [0, 2, 4, 5] (by kernel_rfl) (es' := [(_, _), (_, _), (_, _), (_, _)]) rfl ?_
   refine ht_loopS h (fun ((s12, s13) : ByteArray × S) => [(0, .v (.func (.yield l) #[] #[])), (2, .box 9 [.v (.string s12)]), (52, .glob (GL mx)), (53, .inv (J s13))]) (fun (s16 : S) => [(52, .glob (GL mx)), (53, .inv (J s16))]) ?_ ?_
   ·rintro s16 h
    refine pt_then ?_
    refine ht_ret ?_
    refine pt_pick [1] (by kernel_rfl) (es' := [(53, .inv (J s16))]) rfl ?_
    refine pt_r_then ?_
    obtain rfl := Option.some.inj h
    exact pt_retI hio rfl rfl rfl
   ·rintro u17 hl18 hr19 ⟨s12, s13⟩ rr22 h ho20
    refine ht_seq ?_
    refine ht_seq ?_
    refine ht_seqR hn (El := [_, _, _, _, (12, .v (.string s12)), (13, .v (.int .i64 (s12.size : Int))), (14, .v (.bool ((decide (0 < (s12.size : Int))))))]) (init := [0, 1, 2, 3]) (fin := [0, 1, 2, 3, 6]) (sps := [⟨[1], [], [4], [(.slot 12)]⟩, ⟨[4], [], [5], [(.slot 13)]⟩, ⟨[5], [], [6], [(.slot 14)]⟩]) (es' := [(_, _), (_, _), (_, _), (_, _), (14, .v (.bool ((decide (0 < (s12.size : Int))))))]) (by kernel_rfl) rfl rfl
     ⟨st_plain rfl (op_load _ _ _ _ _ _ Tryd.underlying9 rfl rfl rfl (Nat.le_of_ble_eq_true rfl) rfl rfl rfl),
     st_plain rfl (op_len_str _ _ _ Tryd.underlying9 rfl),
     st_plain rfl (op_bin _ _ _ _ _ rfl rfl rfl),
     trivial⟩ ?_
    refine pt_then ?_
    refine ht_cond _ rfl (fun hb23 => ?_) (fun hb23 => ?_)
    ·have h := cond_t hb23 h
     refine ht_skip ?_
     refine pt_then ?_
     refine ht_block ?_
     refine ht_seq ?_
     obtain ⟨v3, hv3, h⟩ := bind_some h
     refine ht_seqR hn (El := [_, _, _, _, _, (16, .v (.string s12)), (17, .tup [.v (.int .i32 v3.1), .v (.int .i64 v3.2)]), (15, .tup [.v (.int .i32 v3.1), .v (.int .i64 v3.2)]), (18, .v (.int .i32 v3.1)), (19, .v (.int .i64 v3.2)), (5, .v (.int .i32 v3.1)), (6, .v (.int .i64 v3.2))]) (init := [0, 1, 2, 3, 4]) (fin := [0, 1, 2, 3, 11]) (sps := [⟨[1], [], [5], [(.slot 16)]⟩, ⟨[5, 2], [], [6], [(.slot 17)]⟩, ⟨[], [6], [7], [(.slot 15)]⟩, ⟨[7], [], [8], [(.slot 18)]⟩, ⟨[7], [], [9], [(.slot 19)]⟩, ⟨[8], [], [10], [(.slot 5)]⟩, ⟨[9], [], [11], [(.slot 6)]⟩]) (es' := [(_, _), (_, _), (_, _), (_, _), (6, .v (.int .i64 v3.2))]) (by kernel_rfl) rfl rfl
      ⟨st_plain rfl (op_load _ _ _ _ _ _ Tryd.underlying9 rfl rfl rfl (Nat.le_of_ble_eq_true rfl) rfl rfl rfl),
      st_plain rfl (op_callG _ _ 52 72 _ _ rfl Tryd.call72 rfl rfl (fun _ h => h) (ok_unicode_utf8_DecodeRuneInString mx s12 _ hv3) rfl rfl),
      st_plain rfl (op_move_take _ _ _ _ rfl),
      st_plain rfl (op_extract _ _ _ _ _ rfl rfl (Nat.le_of_ble_eq_true rfl) rfl rfl),
      st_plain rfl (op_extract _ _ _ _ _ rfl rfl (Nat.le_of_ble_eq_true rfl) rfl rfl),
      st_plain rfl (op_assign _ _ _ _ rfl rfl),
      st_plain rfl (op_assign _ _ _ _ rfl rfl),
      trivial⟩ ?_
     refine pt_then ?_
     refine ht_seq ?_
     refine ht_seq ?_
     obtain ⟨v4, hv4, h⟩ := bind_some h
     obtain ⟨v5, hv5, h⟩ := bind_some h
     refine ht_seqR hn (El := [_, _, _, _, _, (20, .v (.func (.yield l) #[] #[])), (21, .v (.string s12)), (22, .v (.int .i64 v3.2)), (23, .v (.string v4)), (24, .v (.bool v5.2)), (53, .inv (J v5.1)), (25, .v (.bool (!v5.2)))]) (init := [0, 1, 2, 3, 4]) (fin := [0, 1, 2, 10, 4, 11]) (sps := [⟨[0], [], [5], [(.slot 20)]⟩, ⟨[1], [], [6], [(.slot 21)]⟩, ⟨[4], [], [7], [(.slot 22)]⟩, ⟨[6, 7], [], [8], [(.slot 23)]⟩, ⟨[8, 5], [3], [10, 9], [(.slot 24)]⟩, ⟨[9], [], [11], [(.slot 25)]⟩]) (es' := [(_, _), (_, _), (_, _), (53, .inv (J v5.1)), (_, _), (25, .v (.bool (!v5.2)))]) (by kernel_rfl) rfl rfl
      ⟨st_plain rfl (op_move _ _ _ _ rfl rfl),
      st_plain rfl (op_load _ _ _ _ _ _ Tryd.underlying9 rfl rfl rfl (Nat.le_of_ble_eq_true rfl) rfl rfl rfl),
      st_plain rfl (op_move _ _ _ _ rfl rfl),
      st_plain rfl (op_substr _ _ _ 0 v3.2 _ Tryd.underlying9 rfl rfl ⟨_, rfl⟩ hv4),
      st_plain rfl (op_yield _ _ 53 l v4 s13 v5 hY hv5 rfl rfl rfl),
      st_plain rfl (op_un _ _ _ _ rfl rfl),
      trivial⟩ ?_
     refine pt_then ?_
     refine ht_cond _ rfl (fun hb24 => ?_) (fun hb24 => ?_)
     ·have h := cond_t hb24 h
      refine ht_ret ?_
      refine pt_pick [3] (by kernel_rfl) (es' := [(53, .inv (J v5.1))]) rfl ?_
      refine pt_r_then ?_
      refine pt_r_in ?_
      refine pt_r_then ?_
      refine pt_r_in ?_
      refine pt_r_then ?_
      refine pt_r_then ?_
      have h := hr19 _ (ho20 _ (Option.some.inj h).symm).symm
      obtain rfl := Option.some.inj h
      exact pt_retI hio rfl rfl rfl
     ·have h := cond_f hb24 h
      refine ht_skip ?_
      refine pt_then ?_
      obtain ⟨v7, hv7, h⟩ := bind_some h
      refine ht_seqR hn (El := [_, _, _, _, _, _, (26, .v (.string s12)), (27, .v (.int .i64 v3.2)), (28, .v (.string v7)), (2, .box 9 [.v (.string v7)])]) (init := [0, 1, 2, 3, 4, 5]) (fin := [0, 9, 2, 3]) (sps := [⟨[1], [], [6], [(.slot 26)]⟩, ⟨[4], [], [7], [(.slot 27)]⟩, ⟨[6, 7], [], [8], [(.slot 28)]⟩, ⟨[8], [1], [9], [.cell 2 0]⟩]) (es' := [(_, _), (2, .box 9 [.v (.string v7)]), (_, _), (_, _)]) (by kernel_rfl) rfl rfl
       ⟨st_plain rfl (op_load _ _ _ _ _ _ Tryd.underlying9 rfl rfl rfl (Nat.le_of_ble_eq_true rfl) rfl rfl rfl),
       st_plain rfl (op_move _ _ _ _ rfl rfl),
       st_plain rfl (op_substr _ _ _ v3.2 (s12.size : Int) _ Tryd.underlying9 rfl ⟨_, rfl⟩ rfl hv7),
       st_plain rfl (op_store _ _ _ _ _ _ _ _ sz9 rfl rfl rfl rfl (Nat.le_of_ble_eq_true rfl) rfl rfl),
       trivial⟩ ?_
      refine pt_inb ?_
      exact pt_next _ (Option.some.inj h).symm rfl
    ·have h := cond_f hb23 h
     refine ht_exit ?_
     refine pt_x_then ?_
     refine pt_x_then ?_
     refine pt_x_in ?_
     refine pt_pick [2, 3] (by kernel_rfl) (es' := [(_, _), (_, _)]) rfl ?_
     exact hl18 _ (ho20 _ (Option.some.inj h).symm).symm
  ·have h := cond_f hb1 h
   refine ht_skip ?_
   refine pt_then ?_
   refine ht_seq ?_
   refine ht_pick [0, 1, 2, 3, 4, 5] (by kernel_rfl) (es' := [(_, _), (_, _), (_, _), (_, _), (_, _), (_, _)]) rfl ?_
   refine ht_loopS h (fun ((s37, s38) : ByteArray × S) => [(0, .v (.func (.yield l) #[] #[])), (1, .box 9 [.v (.string c0)]), (2, .box 9 [.v (.string s37)]), (3, .box 3 [.v (.int .i64 c2)]), (52, .glob (GL mx)), (53, .inv (J s38))]) (fun ((s41, s42) : ByteArray × S) => [(0, .v (.func (.yield l) #[] #[])), (2, .box 9 [.v (.string s41)]), (52, .glob (GL mx)), (53, .inv (J s42))]) ?_ ?_
   ·rintro ⟨s41, s42⟩ h
    refine pt_then ?_
    obtain ⟨v51, hv51, h⟩ := bind_some h
    refine ht_seqR hn (El := [_, _, _, _, (49, .v (.func (.yield l) #[] #[])), (50, .v (.string s41)), (51, .v (.bool v51.2)), (53, .inv (J v51.1))]) (init := [0, 1, 2, 3]) (fin := [2, 7]) (sps := [⟨[0], [], [4], [(.slot 49)]⟩, ⟨[1], [], [5], [(.slot 50)]⟩, ⟨[5, 4], [3], [7, 6], [(.slot 51)]⟩]) (es' := [(_, _), (53, .inv (J v51.1))]) (by kernel_rfl) rfl rfl
     ⟨st_plain rfl (op_move _ _ _ _ rfl rfl),
     st_plain rfl (op_load _ _ _ _ _ _ Tryd.underlying9 rfl rfl rfl (Nat.le_of_ble_eq_true rfl) rfl rfl rfl),
     st_plain rfl (op_yield _ _ 53 l s41 s42 v51 hY hv51 rfl rfl rfl),
     trivial⟩ ?_
    refine pt_pick [1] (by kernel_rfl) (es' := [(53, .inv (J v51.1))]) rfl ?_
    obtain rfl := Option.some.inj h
    exact pt_endI hio rfl rfl rfl
   ·rintro u43 hl44 hr45 ⟨s37, s38⟩ rr48 h ho46
    refine ht_block ?_
    refine ht_seq ?_
    obtain ⟨v25, hv25, h⟩ := bind_some h
    refine ht_seqR hn (El := [_, _, _, _, _, _, (29, .v (.string s37)), (30, .v (.string c0)), (31, .v (.int .i64 v25)), (7, .v (.int .i64 v25))]) (init := [0, 1, 2, 3, 4, 5]) (fin := [0, 1, 2, 3, 4, 5, 9]) (sps := [⟨[2], [], [6], [(.slot 29)]⟩, ⟨[1], [], [7], [(.slot 30)]⟩, ⟨[6, 7], [], [8], [(.slot 31)]⟩, ⟨[8], [], [9], [(.slot 7)]⟩]) (es' := [(_, _), (_, _), (_, _), (_, _), (_, _), (_, _), (7, .v (.int .i64 v25))]) (by kernel_rfl) rfl rfl
     ⟨st_plain rfl (op_load _ _ _ _ _ _ Tryd.underlying9 rfl rfl rfl (Nat.le_of_ble_eq_true rfl) rfl rfl rfl),
     st_plain rfl (op_load _ _ _ _ _ _ Tryd.underlying9 rfl rfl rfl (Nat.le_of_ble_eq_true rfl) rfl rfl rfl),
     st_plain rfl (op_call _ _ 41 _ _ rfl Tryd.call41 rfl (ok_strings_Index s37 c0 _ hv25) rfl rfl),
     st_plain rfl (op_assign _ _ _ _ rfl rfl),
     trivial⟩ ?_
    refine pt_then ?_
    refine ht_seq ?_
    refine ht_seq ?_
    refine ht_seqR hn (El := [_, _, _, _, _, _, _, (32, .v (.int .i64 v25)), (33, .v (.bool ((decide (v25 < 0)))))]) (init := [0, 1, 2, 3, 4, 5, 6]) (fin := [0, 1, 2, 3, 4, 5, 6, 8]) (sps := [⟨[6], [], [7], [(.slot 32)]⟩, ⟨[7], [], [8], [(.slot 33)]⟩]) (es' := [(_, _), (_, _), (_, _), (_, _), (_, _), (_, _), (_, _), (33, .v (.bool ((decide (v25 < 0)))))]) (by kernel_rfl) rfl rfl
     ⟨st_plain rfl (op_move _ _ _ _ rfl rfl),
     st_plain rfl (op_bin _ _ _ _ _ rfl rfl rfl),
     trivial⟩ ?_
    refine pt_then ?_
    refine ht_cond _ rfl (fun hb49 => ?_) (fun hb49 => ?_)
    ·have h := cond_t hb49 h
     refine ht_exit ?_
     refine pt_x_then ?_
     refine pt_x_out (by decide) ?_
     refine pt_x_then ?_
     refine pt_x_in ?_
     refine pt_pick [0, 2, 4, 5] (by kernel_rfl) (es' := [(_, _), (_, _), (_, _), (_, _)]) rfl ?_
     exact hl44 _ (ho46 _ (Option.some.inj h).symm).symm
    ·have h := cond_f hb49 h
     refine ht_skip ?_
     refine pt_then ?_
     refine ht_seq ?_
     obtain ⟨v27, hv27, h⟩ := bind_some h
     obtain ⟨v28, hv28, h⟩ := bind_some h
     refine ht_seqR hn (El := [_, _, _, _, _, _, _, _, (34, .v (.string s37)), (35, .v (.int .i64 v25)), (36, .v (.int .i64 c2)), (37, .v (.int .i64 v27)), (38, .v (.string v28)), (8, .v (.string v28))]) (init := [0, 1, 2, 3, 4, 5, 6, 7]) (fin := [0, 1, 2, 3, 4, 5, 6, 13]) (sps := [⟨[2], [], [8], [(.slot 34)]⟩, ⟨[6], [], [9], [(.slot 35)]⟩, ⟨[3], [], [10], [(.slot 36)]⟩, ⟨[9, 10], [], [11], [(.slot 37)]⟩, ⟨[8, 11], [], [12], [(.slot 38)]⟩, ⟨[12], [], [13], [(.slot 8)]⟩]) (es' := [(_, _), (_, _), (_, _), (_, _), (_, _), (_, _), (_, _), (8, .v (.string v28))]) (by kernel_rfl) rfl rfl
      ⟨st_plain rfl (op_load _ _ _ _ _ _ Tryd.underlying9 rfl rfl rfl (Nat.le_of_ble_eq_true rfl) rfl rfl rfl),
      st_plain rfl (op_move _ _ _ _ rfl rfl),
      st_plain rfl (op_load _ _ _ _ _ _ Tryd.underlying3 rfl rfl rfl (Nat.le_of_ble_eq_true rfl) rfl rfl rfl),
      st_plain rfl (op_bin _ _ _ _ _ rfl rfl (ibind (f := Value.int .i64) (Option.some.inj hv27))),
      st_plain rfl (op_substr _ _ _ 0 v27 _ Tryd.underlying9 rfl rfl ⟨_, rfl⟩ hv28),
      st_plain rfl (op_assign _ _ _ _ rfl rfl),
      trivial⟩ ?_
     refine pt_then ?_
     refine ht_seq ?_
     refine ht_seq ?_
     obtain ⟨v29, hv29, h⟩ := bind_some h
     refine ht_seqR hn (El := [_, _, _, _, _, _, _, _, (39, .v (.func (.yield l) #[] #[])), (40, .v (.string v28)), (41, .v (.bool v29.2)), (53, .inv (J v29.1)), (42, .v (.bool (!v29.2)))]) (init := [0, 1, 2, 3, 4, 5, 6, 7]) (fin := [0, 1, 2, 3, 4, 11, 6, 12]) (sps := [⟨[0], [], [8], [(.slot 39)]⟩, ⟨[7], [], [9], [(.slot 40)]⟩, ⟨[9, 8], [5], [11, 10], [(.slot 41)]⟩, ⟨[10], [], [12], [(.slot 42)]⟩]) (es' := [(_, _), (_, _), (_, _), (_, _), (_, _), (53, .inv (J v29.1)), (_, _), (42, .v (.bool (!v29.2)))]) (by kernel_rfl) rfl rfl
      ⟨st_plain rfl (op_move _ _ _ _ rfl rfl),
      st_plain rfl (op_move _ _ _ _ rfl rfl),
      st_plain rfl (op_yield _ _ 53 l v28 s38 v29 hY hv29 rfl rfl rfl),
      st_plain rfl (op_un _ _ _ _ rfl rfl),
      trivial⟩ ?_
     refine pt_then ?_
     refine ht_cond _ rfl (fun hb50 => ?_) (fun hb50 => ?_)
     ·have h := cond_t hb50 h
      refine ht_ret ?_
      refine pt_pick [5] (by kernel_rfl) (es' := [(53, .inv (J v29.1))]) rfl ?_
      refine pt_r_then ?_
      refine pt_r_in ?_
      refine pt_r_then ?_
      refine pt_r_in ?_
      refine pt_r_then ?_
      have h := hr45 _ (ho46 _ (Option.some.inj h).symm).symm
      obtain rfl := Option.some.inj h
      exact pt_retI hio rfl rfl rfl
     ·have h := cond_f hb50 h
      refine ht_skip ?_
      refine pt_then ?_
      obtain ⟨v31, hv31, h⟩ := bind_some h
      obtain ⟨v32, hv32, h⟩ := bind_some h
      refine ht_seqR hn (El := (_ :: _ :: _ :: _ :: _ :: _ :: _ :: _ :: (43, .v (.string s37)) :: (44, .v (.int .i64 v25)) :: (45, .v (.string c0)) :: (46, .v (.int .i64 (c0.size : Int))) :: (47, .v (.int .i64 v31)) :: (48, .v (.string v32)) :: (2, .box 9 [.v (.string v32)]) :: [])) (init := [0, 1, 2, 3, 4, 5, 6, 7]) (fin := [0, 1, 14, 3, 4, 5]) (sps := [⟨[2], [], [8], [(.slot 43)]⟩, ⟨[6], [], [9], [(.slot 44)]⟩, ⟨[1], [], [10], [(.slot 45)]⟩, ⟨[10], [], [11], [(.slot 46)]⟩, ⟨[9, 11], [], [12], [(.slot 47)]⟩, ⟨[8, 12], [], [13], [(.slot 48)]⟩, ⟨[13], [2], [14], [.cell 2 0]⟩]) (es' := [(_, _), (_, _), (2, .box 9 [.v (.string v32)]), (_, _), (_, _), (_, _)]) (by kernel_rfl) rfl rfl
       ⟨st_plain rfl (op_load _ _ _ _ _ _ Tryd.underlying9 rfl rfl rfl (Nat.le_of_ble_eq_true rfl) rfl rfl rfl),
       st_plain rfl (op_move _ _ _ _ rfl rfl),
       st_plain rfl (op_load _ _ _ _ _ _ Tryd.underlying9 rfl rfl rfl (Nat.le_of_ble_eq_true rfl) rfl rfl rfl),
       st_plain rfl (op_len_str _ _ _ Tryd.underlying9 rfl),
       st_plain rfl (op_bin _ _ _ _ _ rfl rfl (ibind (f := Value.int .i64) (Option.some.inj hv31))),
       st_plain rfl (op_substr _ _ _ v31 (s37.size : Int) _ Tryd.underlying9 rfl ⟨_, rfl⟩ rfl hv32),
       st_plain rfl (op_store _ _ _ _ _ _ _ _ sz9 rfl rfl rfl rfl (Nat.le_of_ble_eq_true rfl) rfl rfl),
       trivial⟩ ?_
      refine pt_inb ?_
      exact pt_next _ (Option.some.inj h).symm rfl
set_option maxHeartbeats 1000000 in
theorem ok_path_alphanumeric (c : Int) (r : Bool) (h : Sh.path_alphanumeric c = some r) : FnOK Tryd.prog 50 [.v (.int .u8 c)] (.v (.bool r)) := by
  unfold Sh.path_alphanumeric at h
  refine fn_ok Tryd.func50 rfl (Nat.le_of_ble_eq_true rfl) rfl rfl fun g0 hn hio => ?_
  refine ht_seq ?_
  refine ht_seqR hn (El := [_, (2, .v (.bool false))]) (init := [0]) (fin := [0]) (sps := [⟨[], [], [1], [(.slot 2)]⟩]) (es' := [(_, _)]) (by kernel_rfl) rfl rfl
   ⟨st_plain rfl (op_assign _ _ _ _ rfl rfl),
   trivial⟩ ?_
  refine pt_then ?_
  refine ht_seq ?_
  refine ht_joinS h (fun (s1 : Bool) => [(2, .v (.bool s1))]) ?_ ?_
  ·rintro s1 h
   refine pt_then ?_
   refine ht_ret ?_
   obtain rfl := Option.some.inj h
   exact pt_ret hio rfl (.tmp _ _ .nil) rfl rfl
  ·intro u2 h hl3 hr4
   refine cond_some h (fun hg1_2 h => ?_) (fun hg1_2 h => ?_)
   ·refine cond_some h (fun hg1_6 h => ?_) (fun hg1_6 h => ?_)
    ·refine ht_seqR hn (El := (_ :: (3, .v (.int .u8 c)) :: (4, .v (.bool ((decide (48 ≤ c))))) :: (5, .v (.bool true)) :: (6, .v (.int .u8 c)) :: (7, .v (.bool ((decide (c ≤ 57))))) :: (8, .v (.bool ((decide (c ≤ 57))))) :: (9, .v (.bool true)) :: (10, .v undef) :: (11, .v undef) :: (12, .v undef) :: (13, .v undef) :: (14, .v undef) :: (15, .v undef) :: (16, .v (.bool true)) :: (17, .v (.bool true)) :: (18, .v undef) :: (19, .v undef) :: (20, .v undef) :: (21, .v undef) :: (22, .v undef) :: (23, .v undef) :: (24, .v (.bool true)) :: (2, .v (.bool true)) :: [])) (init := [0]) (fin := [23]) (sps := (⟨[0], [], [1], [(.slot 3)]⟩ :: ⟨[1], [], [2], [(.slot 4)]⟩ :: ⟨[2], [], [3], [(.slot 5)]⟩ :: ⟨[3, 0], [], [4], [(.slot 6)]⟩ :: ⟨[3, 4], [], [5], [(.slot 7)]⟩ :: ⟨[3, 5], [], [6], [(.slot 8)]⟩ :: ⟨[6], [], [7], [(.slot 9)]⟩ :: ⟨[7], [], [8], [(.slot 10)]⟩ :: ⟨[7], [], [9], [(.slot 11)]⟩ :: ⟨[7], [], [10], [(.slot 12)]⟩ :: ⟨[10], [], [11], [(.slot 13)]⟩ :: ⟨[10], [], [12], [(.slot 14)]⟩ :: ⟨[7], [], [13], [(.slot 15)]⟩ :: ⟨[7], [], [14], [(.slot 16)]⟩ :: ⟨[14], [], [15], [(.slot 17)]⟩ :: ⟨[15], [], [16], [(.slot 18)]⟩ :: ⟨[15], [], [17], [(.slot 19)]⟩ :: ⟨[15], [], [18], [(.slot 20)]⟩ :: ⟨[18], [], [19], [(.slot 21)]⟩ :: ⟨[18], [], [20], [(.slot 22)]⟩ :: ⟨[15], [], [21], [(.slot 23)]⟩ :: ⟨[15], [], [22], [(.slot 24)]⟩ :: ⟨[22], [], [23], [(.slot 2)]⟩ :: [])) (es' := [(2, .v (.bool true))]) (by kernel_rfl) rfl rfl
      ⟨st_plain rfl (op_move _ _ _ _ rfl rfl),
      st_plain rfl (op_bin _ _ _ _ _ rfl rfl rfl),
      st_plain rfl (op_move _ _ _ _ (congrArg (fun b => AV.v (Value.bool b)) hg1_2) rfl),
      st_run 2 5 true rfl rfl rfl (List.Mem.head _) (op_move _ _ _ _ rfl rfl),
      st_run 2 5 true rfl rfl rfl (List.Mem.head _) (op_bin _ _ _ _ _ rfl rfl rfl),
      st_plain rfl (op_pick _ _ true _ rfl rfl),
      st_plain rfl (op_move _ _ _ _ (congrArg (fun b => AV.v (Value.bool b)) hg1_6) rfl),
      st_skip 6 9 _ false rfl rfl rfl rfl (List.Mem.head _),
      st_skip 6 9 _ false rfl rfl rfl rfl (List.Mem.head _),
      st_skip 6 9 _ false rfl rfl rfl rfl (List.Mem.head _),
      st_skipU 9 12 _ true rfl rfl rfl rfl (List.Mem.head _),
      st_skipU 9 12 _ true rfl rfl rfl rfl (List.Mem.head _),
      st_skip 6 9 _ false rfl rfl rfl rfl (List.Mem.head _),
      st_plain rfl (op_pick _ _ true _ rfl rfl),
      st_plain rfl (op_move _ _ _ _ rfl rfl),
      st_skip 14 17 _ false rfl rfl rfl rfl (List.Mem.head _),
      st_skip 14 17 _ false rfl rfl rfl rfl (List.Mem.head _),
      st_skip 14 17 _ false rfl rfl rfl rfl (List.Mem.head _),
      st_skipU 17 20 _ true rfl rfl rfl rfl (List.Mem.head _),
      st_skipU 17 20 _ true rfl rfl rfl rfl (List.Mem.head _),
      st_skip 14 17 _ false rfl rfl rfl rfl (List.Mem.head _),
      st_plain rfl (op_pick _ _ true _ rfl rfl),
      st_plain rfl (op_assign _ _ _ _ rfl rfl),
      trivial⟩ ?_
     exact hl3 _ (Option.some.inj h).symm
    ·refine cond_some h (fun hg1_9 h => ?_) (fun hg1_9 h => ?_)
     ·refine cond_some h (fun hg1_14 h => ?_) (fun hg1_14 h => ?_)
      ·refine ht_seqR hn (El := (_ :: (3, .v (.int .u8 c)) :: (4, .v (.bool ((decide (48 ≤ c))))) :: (5, .v (.bool true)) :: (6, .v (.int .u8 c)) :: (7, .v (.bool ((decide (c ≤ 57))))) :: (8, .v (.bool ((decide (c ≤ 57))))) :: (9, .v (.bool false)) :: (10, .v (.int .u8 c)) :: (11, .v (.bool ((decide (65 ≤ c))))) :: (12, .v (.bool true)) :: (13, .v (.int .u8 c)) :: (14, .v (.bool ((decide (c ≤ 90))))) :: (15, .v (.bool ((decide (c ≤ 90))))) :: (16, .v (.bool ((decide (c ≤ 90))))) :: (17, .v (.bool true)) :: (18, .v undef) :: (19, .v undef) :: (20, .v undef) :: (21, .v undef) :: (22, .v undef) :: (23, .v undef) :: (24, .v (.bool true)) :: (2, .v (.bool true)) :: [])) (init := [0]) (fin := [23]) (sps := (⟨[0], [], [1], [(.slot 3)]⟩ :: ⟨[1], [], [2], [(.slot 4)]⟩ :: ⟨[2], [], [3], [(.slot 5)]⟩ :: ⟨[3, 0], [], [4], [(.slot 6)]⟩ :: ⟨[3, 4], [], [5], [(.slot 7)]⟩ :: ⟨[3, 5], [], [6], [(.slot 8)]⟩ :: ⟨[6], [], [7], [(.slot 9)]⟩ :: ⟨[7, 0], [], [8], [(.slot 10)]⟩ :: ⟨[7, 8], [], [9], [(.slot 11)]⟩ :: ⟨[7, 9], [], [10], [(.slot 12)]⟩ :: ⟨[10, 0], [], [11], [(.slot 13)]⟩ :: ⟨[10, 11], [], [12], [(.slot 14)]⟩ :: ⟨[7, 10, 12], [], [13], [(.slot 15)]⟩ :: ⟨[7, 13], [], [14], [(.slot 16)]⟩ :: ⟨[14], [], [15], [(.slot 17)]⟩ :: ⟨[15], [], [16], [(.slot 18)]⟩ :: ⟨[15], [], [17], [(.slot 19)]⟩ :: ⟨[15], [], [18], [(.slot 20)]⟩ :: ⟨[18], [], [19], [(.slot 21)]⟩ :: ⟨[18], [], [20], [(.slot 22)]⟩ :: ⟨[15], [], [21], [(.slot 23)]⟩ :: ⟨[15], [], [22], [(.slot 24)]⟩ :: ⟨[22], [], [23], [(.slot 2)]⟩ :: [])) (es' := [(2, .v (.bool true))]) (by kernel_rfl) rfl rfl
        ⟨st_plain rfl (op_move _ _ _ _ rfl rfl),
        st_plain rfl (op_bin _ _ _ _ _ rfl rfl rfl),
        st_plain rfl (op_move _ _ _ _ (congrArg (fun b => AV.v (Value.bool b)) hg1_2) rfl),
        st_run 2 5 true rfl rfl rfl (List.Mem.head _) (op_move _ _ _ _ rfl rfl),
        st_run 2 5 true rfl rfl rfl (List.Mem.head _) (op_bin _ _ _ _ _ rfl rfl rfl),
        st_plain rfl (op_pick _ _ true _ rfl rfl),
        st_plain rfl (op_move _ _ _ _ (congrArg (fun b => AV.v (Value.bool b)) hg1_6) rfl),
        st_run 6 9 false rfl rfl rfl (List.Mem.head _) (op_move _ _ _ _ rfl rfl),
        st_run 6 9 false rfl rfl rfl (List.Mem.head _) (op_bin _ _ _ _ _ rfl rfl rfl),
        st_run 6 9 false rfl rfl rfl (List.Mem.head _) (op_move _ _ _ _ (congrArg (fun b => AV.v (Value.bool b)) hg1_9) rfl),
        st_run 9 12 true rfl rfl rfl (List.Mem.head _) (op_move _ _ _ _ rfl rfl),
        st_run 9 12 true rfl rfl rfl (List.Mem.head _) (op_bin _ _ _ _ _ rfl rfl rfl),
        st_run 6 9 false rfl rfl rfl (List.Mem.head _) (op_pick _ _ true _ rfl rfl),
        st_plain rfl (op_pick _ _ false _ rfl rfl),
        st_plain rfl (op_move _ _ _ _ (congrArg (fun b => AV.v (Value.bool b)) hg1_14) rfl),
        st_skip 14 17 _ false rfl rfl rfl rfl (List.Mem.head _),
        st_skip 14 17 _ false rfl rfl rfl rfl (List.Mem.head _),
        st_skip 14 17 _ false rfl rfl rfl rfl (List.Mem.head _),
        st_skipU 17 20 _ true rfl rfl rfl rfl (List.Mem.head _),
        st_skipU 17 20 _ true rfl rfl rfl rfl (List.Mem.head _),
        st_skip 14 17 _ false rfl rfl rfl rfl (List.Mem.head _),
        st_plain rfl (op_pick _ _ true _ rfl rfl),
        st_plain rfl (op_assign _ _ _ _ rfl rfl),
        trivial⟩ ?_
       exact hl3 _ (Option.some.inj h).symm
      ·refine cond_some h (fun hg1_17 h => ?_) (fun hg1_17 h => ?_)
       ·refine ht_seqR hn (El := (_ :: (3, .v (.int .u8 c)) :: (4, .v (.bool ((decide (48 ≤ c))))) :: (5, .v (.bool true)) :: (6, .v (.int .u8 c)) :: (7, .v (.bool ((decide (c ≤ 57))))) :: (8, .v (.bool ((decide (c ≤ 57))))) :: (9, .v (.bool false)) :: (10, .v (.int .u8 c)) :: (11, .v (.bool ((decide (65 ≤ c))))) :: (12, .v (.bool true)) :: (13, .v (.int .u8 c)) :: (14, .v (.bool ((decide (c ≤ 90))))) :: (15, .v (.bool ((decide (c ≤ 90))))) :: (16, .v (.bool ((decide (c ≤ 90))))) :: (17, .v (.bool false)) :: (18, .v (.int .u8 c)) :: (19, .v (.bool ((decide (97 ≤ c))))) :: (20, .v (.bool true)) :: (21, .v (.int .u8 c)) :: (22, .v (.bool ((decide (c ≤ 122))))) :: (23, .v (.bool ((decide (c ≤ 122))))) :: (24, .v (.bool ((decide (c ≤ 122))))) :: (2, .v (.bool ((decide (c ≤ 122))))) :: [])) (init := [0]) (fin := [23]) (sps := (⟨[0], [], [1], [(.slot 3)]⟩ :: ⟨[1], [], [2], [(.slot 4)]⟩ :: ⟨[2], [], [3], [(.slot 5)]⟩ :: ⟨[3, 0], [], [4], [(.slot 6)]⟩ :: ⟨[3, 4], [], [5], [(.slot 7)]⟩ :: ⟨[3, 5], [], [6], [(.slot 8)]⟩ :: ⟨[6], [], [7], [(.slot 9)]⟩ :: ⟨[7, 0], [], [8], [(.slot 10)]⟩ :: ⟨[7, 8], [], [9], [(.slot 11)]⟩ :: ⟨[7, 9], [], [10], [(.slot 12)]⟩ :: ⟨[10, 0], [], [11], [(.slot 13)]⟩ :: ⟨[10, 11], [], [12], [(.slot 14)]⟩ :: ⟨[7, 10, 12], [], [13], [(.slot 15)]⟩ :: ⟨[7, 13], [], [14], [(.slot 16)]⟩ :: ⟨[14], [], [15], [(.slot 17)]⟩ :: ⟨[15, 0], [], [16], [(.slot 18)]⟩ :: ⟨[15, 16], [], [17], [(.slot 19)]⟩ :: ⟨[15, 17], [], [18], [(.slot 20)]⟩ :: ⟨[18, 0], [], [19], [(.slot 21)]⟩ :: ⟨[18, 19], [], [20], [(.slot 22)]⟩ :: ⟨[15, 18, 20], [], [21], [(.slot 23)]⟩ :: ⟨[15, 21], [], [22], [(.slot 24)]⟩ :: ⟨[22], [], [23], [(.slot 2)]⟩ :: [])) (es' := [(2, .v (.bool ((decide (c ≤ 122)))))]) (by kernel_rfl) rfl rfl
         ⟨st_plain rfl (op_move _ _ _ _ rfl rfl),
         st_plain rfl (op_bin _ _ _ _ _ rfl rfl rfl),
         st_plain rfl (op_move _ _ _ _ (congrArg (fun b => AV.v (Value.bool b)) hg1_2) rfl),
         st_run 2 5 true rfl rfl rfl (List.Mem.head _) (op_move _ _ _ _ rfl rfl),
         st_run 2 5 true rfl rfl rfl (List.Mem.head _) (op_bin _ _ _ _ _ rfl rfl rfl),
         st_plain rfl (op_pick _ _ true _ rfl rfl),
         st_plain rfl (op_move _ _ _ _ (congrArg (fun b => AV.v (Value.bool b)) hg1_6) rfl),
         st_run 6 9 false rfl rfl rfl (List.Mem.head _) (op_move _ _ _ _ rfl rfl),
         st_run 6 9 false rfl rfl rfl (List.Mem.head _) (op_bin _ _ _ _ _ rfl rfl rfl),
         st_run 6 9 false rfl rfl rfl (List.Mem.head _) (op_move _ _ _ _ (congrArg (fun b => AV.v (Value.bool b)) hg1_9) rfl),
         st_run 9 12 true rfl rfl rfl (List.Mem.head _) (op_move _ _ _ _ rfl rfl),
         st_run 9 12 true rfl rfl rfl (List.Mem.head _) (op_bin _ _ _ _ _ rfl rfl rfl),
         st_run 6 9 false rfl rfl rfl (List.Mem.head _) (op_pick _ _ true _ rfl rfl),
         st_plain rfl (op_pick _ _ false _ rfl rfl),
         st_plain rfl (op_move _ _ _ _ (congrArg (fun b => AV.v (Value.bool b)) hg1_14) rfl),
         st_run 14 17 false rfl rfl rfl (List.Mem.head _) (op_move _ _ _ _ rfl rfl),
         st_run 14 17 false rfl rfl rfl (List.Mem.head _) (op_bin _ _ _ _ _ rfl rfl rfl),
         st_run 14 17 false rfl rfl rfl (List.Mem.head _) (op_move _ _ _ _ (congrArg (fun b => AV.v (Value.bool b)) hg1_17) rfl),
         st_run 17 20 true rfl rfl rfl (List.Mem.head _) (op_move _ _ _ _ rfl rfl),
         st_run 17 20 true rfl rfl rfl (List.Mem.head _) (op_bin _ _ _ _ _ rfl rfl rfl),
         st_run 14 17 false rfl rfl rfl (List.Mem.head _) (op_pick _ _ true _ rfl rfl),
         st_plain rfl (op_pick _ _ false _ rfl rfl),
         st_plain rfl (op_assign _ _ _ _ rfl rfl),
         trivial⟩ ?_
        exact hl3 _ (Option.some.inj h).symm
       ·refine ht_seqR hn (El := (_ :: (3, .v (.int .u8 c)) :: (4, .v (.bool ((decide (48 ≤ c))))) :: (5, .v (.bool true)) :: (6, .v (.int .u8 c)) :: (7, .v (.bool ((decide (c ≤ 57))))) :: (8, .v (.bool ((decide (c ≤ 57))))) :: (9, .v (.bool false)) :: (10, .v (.int .u8 c)) :: (11, .v (.bool ((decide (65 ≤ c))))) :: (12, .v (.bool true)) :: (13, .v (.int .u8 c)) :: (14, .v (.bool ((decide (c ≤ 90))))) :: (15, .v (.bool ((decide (c ≤ 90))))) :: (16, .v (.bool ((decide (c ≤ 90))))) :: (17, .v (.bool false)) :: (18, .v (.int .u8 c)) :: (19, .v (.bool ((decide (97 ≤ c))))) :: (20, .v (.bool false)) :: (21, .v undef) :: (22, .v undef) :: (23, .v (.bool false)) :: (24, .v (.bool false)) :: (2, .v (.bool false)) :: [])) (init := [0]) (fin := [23]) (sps := (⟨[0], [], [1], [(.slot 3)]⟩ :: ⟨[1], [], [2], [(.slot 4)]⟩ :: ⟨[2], [], [3], [(.slot 5)]⟩ :: ⟨[3, 0], [], [4], [(.slot 6)]⟩ :: ⟨[3, 4], [], [5], [(.slot 7)]⟩ :: ⟨[3, 5], [], [6], [(.slot 8)]⟩ :: ⟨[6], [], [7], [(.slot 9)]⟩ :: ⟨[7, 0], [], [8], [(.slot 10)]⟩ :: ⟨[7, 8], [], [9], [(.slot 11)]⟩ :: ⟨[7, 9], [], [10], [(.slot 12)]⟩ :: ⟨[10, 0], [], [11], [(.slot 13)]⟩ :: ⟨[10, 11], [], [12], [(.slot 14)]⟩ :: ⟨[7, 10, 12], [], [13], [(.slot 15)]⟩ :: ⟨[7, 13], [], [14], [(.slot 16)]⟩ :: ⟨[14], [], [15], [(.slot 17)]⟩ :: ⟨[15, 0], [], [16], [(.slot 18)]⟩ :: ⟨[15, 16], [], [17], [(.slot 19)]⟩ :: ⟨[15, 17], [], [18], [(.slot 20)]⟩ :: ⟨[18], [], [19], [(.slot 21)]⟩ :: ⟨[18], [], [20], [(.slot 22)]⟩ :: ⟨[15, 18], [], [21], [(.slot 23)]⟩ :: ⟨[15, 21], [], [22], [(.slot 24)]⟩ :: ⟨[22], [], [23], [(.slot 2)]⟩ :: [])) (es' := [(2, .v (.bool false))]) (by kernel_rfl) rfl rfl
         ⟨st_plain rfl (op_move _ _ _ _ rfl rfl),
         st_plain rfl (op_bin _ _ _ _ _ rfl rfl rfl),
         st_plain rfl (op_move _ _ _ _ (congrArg (fun b => AV.v (Value.bool b)) hg1_2) rfl),
         st_run 2 5 true rfl rfl rfl (List.Mem.head _) (op_move _ _ _ _ rfl rfl),
         st_run 2 5 true rfl rfl rfl (List.Mem.head _) (op_bin _ _ _ _ _ rfl rfl rfl),
         st_plain rfl (op_pick _ _ true _ rfl rfl),
         st_plain rfl (op_move _ _ _ _ (congrArg (fun b => AV.v (Value.bool b)) hg1_6) rfl),
         st_run 6 9 false rfl rfl rfl (List.Mem.head _) (op_move _ _ _ _ rfl rfl),
         st_run 6 9 false rfl rfl rfl (List.Mem.head _) (op_bin _ _ _ _ _ rfl rfl rfl),
         st_run 6 9 false rfl rfl rfl (List.Mem.head _) (op_move _ _ _ _ (congrArg (fun b => AV.v (Value.bool b)) hg1_9) rfl),
         st_run 9 12 true rfl rfl rfl (List.Mem.head _) (op_move _ _ _ _ rfl rfl),
         st_run 9 12 true rfl rfl rfl (List.Mem.head _) (op_bin _ _ _ _ _ rfl rfl rfl),
         st_run 6 9 false rfl rfl rfl (List.Mem.head _) (op_pick _ _ true _ rfl rfl),
         st_plain rfl (op_pick _ _ false _ rfl rfl),
         st_plain rfl (op_move _ _ _ _ (congrArg (fun b => AV.v (Value.bool b)) hg1_14) rfl),
         st_run 14 17 false rfl rfl rfl (List.Mem.head _) (op_move _ _ _ _ rfl rfl),
         st_run 14 17 false rfl rfl rfl (List.Mem.head _) (op_bin _ _ _ _ _ rfl rfl rfl),
         st_run 14 17 false rfl rfl rfl (List.Mem.head _) (op_move _ _ _ _ (congrArg (fun b => AV.v (Value.bool b)) hg1_17) rfl),
         st_skip 17 20 _ true rfl rfl rfl rfl (List.Mem.head _),
         st_skip 17 20 _ true rfl rfl rfl rfl (List.Mem.head _),
         st_run 14 17 false rfl rfl rfl (List.Mem.head _) (op_pick _ _ false _ rfl rfl),
         st_plain rfl (op_pick _ _ false _ rfl rfl),
         st_plain rfl (op_assign _ _ _ _ rfl rfl),
         trivial⟩ ?_
        exact hl3 _ (Option.some.inj h).symm
     ·refine cond_some h (fun hg1_17 h => ?_) (fun hg1_17 h => ?_)
      ·refine ht_seqR hn (El := (_ :: (3, .v (.int .u8 c)) :: (4, .v (.bool ((decide (48 ≤ c))))) :: (5, .v (.bool true)) :: (6, .v (.int .u8 c)) :: (7, .v (.bool ((decide (c ≤ 57))))) :: (8, .v (.bool ((decide (c ≤ 57))))) :: (9, .v (.bool false)) :: (10, .v (.int .u8 c)) :: (11, .v (.bool ((decide (65 ≤ c))))) :: (12, .v (.bool false)) :: (13, .v undef) :: (14, .v undef) :: (15, .v (.bool false)) :: (16, .v (.bool false)) :: (17, .v (.bool false)) :: (18, .v (.int .u8 c)) :: (19, .v (.bool ((decide (97 ≤ c))))) :: (20, .v (.bool true)) :: (21, .v (.int .u8 c)) :: (22, .v (.bool ((decide (c ≤ 122))))) :: (23, .v (.bool ((decide (c ≤ 122))))) :: (24, .v (.bool ((decide (c ≤ 122))))) :: (2, .v (.bool ((decide (c ≤ 122))))) :: [])) (init := [0]) (fin := [23]) (sps := (⟨[0], [], [1], [(.slot 3)]⟩ :: ⟨[1], [], [2], [(.slot 4)]⟩ :: ⟨[2], [], [3], [(.slot 5)]⟩ :: ⟨[3, 0], [], [4], [(.slot 6)]⟩ :: ⟨[3, 4], [], [5], [(.slot 7)]⟩ :: ⟨[3, 5], [], [6], [(.slot 8)]⟩ :: ⟨[6], [], [7], [(.slot 9)]⟩ :: ⟨[7, 0], [], [8], [(.slot 10)]⟩ :: ⟨[7, 8], [], [9], [(.slot 11)]⟩ :: ⟨[7, 9], [], [10], [(.slot 12)]⟩ :: ⟨[10], [], [11], [(.slot 13)]⟩ :: ⟨[10], [], [12], [(.slot 14)]⟩ :: ⟨[7, 10], [], [13], [(.slot 15)]⟩ :: ⟨[7, 13], [], [14], [(.slot 16)]⟩ :: ⟨[14], [], [15], [(.slot 17)]⟩ :: ⟨[15, 0], [], [16], [(.slot 18)]⟩ :: ⟨[15, 16], [], [17], [(.slot 19)]⟩ :: ⟨[15, 17], [], [18], [(.slot 20)]⟩ :: ⟨[18, 0], [], [19], [(.slot 21)]⟩ :: ⟨[18, 19], [], [20], [(.slot 22)]⟩ :: ⟨[15, 18, 20], [], [21], [(.slot 23)]⟩ :: ⟨[15, 21], [], [22], [(.slot 24)]⟩ :: ⟨[22], [], [23], [(.slot 2)]⟩ :: [])) (es' := [(2, .v (.bool ((decide (c ≤ 122)))))]) (by kernel_rfl) rfl rfl
        ⟨st_plain rfl (op_move _ _ _ _ rfl rfl),
        st_plain rfl (op_bin _ _ _ _ _ rfl rfl rfl),
        st_plain rfl (op_move _ _ _ _ (congrArg (fun b => AV.v (Value.bool b)) hg1_2) rfl),
        st_run 2 5 true rfl rfl rfl (List.Mem.head _) (op_move _ _ _ _ rfl rfl),
        st_run 2 5 true rfl rfl rfl (List.Mem.head _) (op_bin _ _ _ _ _ rfl rfl rfl),
        st_plain rfl (op_pick _ _ true _ rfl rfl),
        st_plain rfl (op_move _ _ _ _ (congrArg (fun b => AV.v (Value.bool b)) hg1_6) rfl),
        st_run 6 9 false rfl rfl rfl (List.Mem.head _) (op_move _ _ _ _ rfl rfl),
        st_run 6 9 false rfl rfl rfl (List.Mem.head _) (op_bin _ _ _ _ _ rfl rfl rfl),
        st_run 6 9 false rfl rfl rfl (List.Mem.head _) (op_move _ _ _ _ (congrArg (fun b => AV.v (Value.bool b)) hg1_9) rfl),
        st_skip 9 12 _ true rfl rfl rfl rfl (List.Mem.head _),
        st_skip 9 12 _ true rfl rfl rfl rfl (List.Mem.head _),
        st_run 6 9 false rfl rfl rfl (List.Mem.head _) (op_pick _ _ false _ rfl rfl),
        st_plain rfl (op_pick _ _ false _ rfl rfl),
        st_plain rfl (op_move _ _ _ _ rfl rfl),
        st_run 14 17 false rfl rfl rfl (List.Mem.head _) (op_move _ _ _ _ rfl rfl),
        st_run 14 17 false rfl rfl rfl (List.Mem.head _) (op_bin _ _ _ _ _ rfl rfl rfl),
        st_run 14 17 false rfl rfl rfl (List.Mem.head _) (op_move _ _ _ _ (congrArg (fun b => AV.v (Value.bool b)) hg1_17) rfl),
        st_run 17 20 true rfl rfl rfl (List.Mem.head _) (op_move _ _ _ _ rfl rfl),
        st_run 17 20 true rfl rfl rfl (List.Mem.head _) (op_bin _ _ _ _ _ rfl rfl rfl),
        st_run 14 17 false rfl rfl rfl (List.Mem.head _) (op_pick _ _ true _ rfl rfl),
        st_plain rfl (op_pick _ _ false _ rfl rfl),
        st_plain rfl (op_assign _ _ _ _ rfl rfl),
        trivial⟩ ?_
       exact hl3 _ (Option.some.inj h).symm
      ·refine ht_seqR hn (El := (_ :: (3, .v (.int .u8 c)) :: (4, .v (.bool ((decide (48 ≤ c))))) :: (5, .v (.bool true)) :: (6, .v (.int .u8 c)) :: (7, .v (.bool ((decide (c ≤ 57))))) :: (8, .v (.bool ((decide (c ≤ 57))))) :: (9, .v (.bool false)) :: (10, .v (.int .u8 c)) :: (11, .v (.bool ((decide (65 ≤ c))))) :: (12, .v (.bool false)) :: (13, .v undef) :: (14, .v undef) :: (15, .v (.bool false)) :: (16, .v (.bool false)) :: (17, .v (.bool false)) :: (18, .v (.int .u8 c)) :: (19, .v (.bool ((decide (97 ≤ c))))) :: (20, .v (.bool false)) :: (21, .v undef) :: (22, .v undef) :: (23, .v (.bool false)) :: (24, .v (.bool false)) :: (2, .v (.bool false)) :: [])) (init := [0]) (fin := [23]) (sps := (⟨[0], [], [1], [(.slot 3)]⟩ :: ⟨[1], [], [2], [(.slot 4)]⟩ :: ⟨[2], [], [3], [(.slot 5)]⟩ :: ⟨[3, 0], [], [4], [(.slot 6)]⟩ :: ⟨[3, 4], [], [5], [(.slot 7)]⟩ :: ⟨[3, 5], [], [6], [(.slot 8)]⟩ :: ⟨[6], [], [7], [(.slot 9)]⟩ :: ⟨[7, 0], [], [8], [(.slot 10)]⟩ :: ⟨[7, 8], [], [9], [(.slot 11)]⟩ :: ⟨[7, 9], [], [10], [(.slot 12)]⟩ :: ⟨[10], [], [11], [(.slot 13)]⟩ :: ⟨[10], [], [12], [(.slot 14)]⟩ :: ⟨[7, 10], [], [13], [(.slot 15)]⟩ :: ⟨[7, 13], [], [14], [(.slot 16)]⟩ :: ⟨[14], [], [15], [(.slot 17)]⟩ :: ⟨[15, 0], [], [16], [(.slot 18)]⟩ :: ⟨[15, 16], [], [17], [(.slot 19)]⟩ :: ⟨[15, 17], [], [18], [(.slot 20)]⟩ :: ⟨[18], [], [19], [(.slot 21)]⟩ :: ⟨[18], [], [20], [(.slot 22)]⟩ :: ⟨[15, 18], [], [21], [(.slot 23)]⟩ :: ⟨[15, 21], [], [22], [(.slot 24)]⟩ :: ⟨[22], [], [23], [(.slot 2)]⟩ :: [])) (es' := [(2, .v (.bool false))]) (by kernel_rfl) rfl rfl
        ⟨st_plain rfl (op_move _ _ _ _ rfl rfl),
        st_plain rfl (op_bin _ _ _ _ _ rfl rfl rfl),
        st_plain rfl (op_move _ _ _ _ (congrArg (fun b => AV.v (Value.bool b)) hg1_2) rfl),
        st_run 2 5 true rfl rfl rfl (List.Mem.head _) (op_move _ _ _ _ rfl rfl),
        st_run 2 5 true rfl rfl rfl (List.Mem.head _) (op_bin _ _ _ _ _ rfl rfl rfl),
        st_plain rfl (op_pick _ _ true _ rfl rfl),
        st_plain rfl (op_move _ _ _ _ (congrArg (fun b => AV.v (Value.bool b)) hg1_6) rfl),
        st_run 6 9 false rfl rfl rfl (List.Mem.head _) (op_move _ _ _ _ rfl rfl),
        st_run 6 9 false rfl rfl rfl (List.Mem.head _) (op_bin _ _ _ _ _ rfl rfl rfl),
        st_run 6 9 false rfl rfl rfl (List.Mem.head _) (op_move _ _ _ _ (congrArg (fun b => AV.v (Value.bool b)) hg1_9) rfl),
        st_skip 9 12 _ true rfl rfl rfl rfl (List.Mem.head _),
        st_skip 9 12 _ true rfl rfl rfl rfl (List.Mem.head _),
        st_run 6 9 false rfl rfl rfl (List.Mem.head _) (op_pick _ _ false _ rfl rfl),
        st_plain rfl (op_pick _ _ false _ rfl rfl),
        st_plain rfl (op_move _ _ _ _ rfl rfl),
        st_run 14 17 false rfl rfl rfl (List.Mem.head _) (op_move _ _ _ _ rfl rfl),
        st_run 14 17 false rfl rfl rfl (List.Mem.head _) (op_bin _ _ _ _ _ rfl rfl rfl),
        st_run 14 17 false rfl rfl rfl (List.Mem.head _) (op_move _ _ _ _ (congrArg (fun b => AV.v (Value.bool b)) hg1_17) rfl),
        st_skip 17 20 _ true rfl rfl rfl rfl (List.Mem.head _),
        st_skip 17 20 _ true rfl rfl rfl rfl (List.Mem.head _),
        st_run 14 17 false rfl rfl rfl (List.Mem.head _) (op_pick _ _ false _ rfl rfl),
        st_plain rfl (op_pick _ _ false _ rfl rfl),
        st_plain rfl (op_assign _ _ _ _ rfl rfl),
        trivial⟩ ?_
       exact hl3 _ (Option.some.inj h).symm
   ·refine cond_some h (fun hg1_9 h => ?_) (fun hg1_9 h => ?_)
    ·refine cond_some h (fun hg1_14 h => ?_) (fun hg1_14 h => ?_)
     ·refine ht_seqR hn (El := (_ :: (3, .v (.int .u8 c)) :: (4, .v (.bool ((decide (48 ≤ c))))) :: (5, .v (.bool false)) :: (6, .v undef) :: (7, .v undef) :: (8, .v (.bool false)) :: (9, .v (.bool false)) :: (10, .v (.int .u8 c)) :: (11, .v (.bool ((decide (65 ≤ c))))) :: (12, .v (.bool true)) :: (13, .v (.int .u8 c)) :: (14, .v (.bool ((decide (c ≤ 90))))) :: (15, .v (.bool ((decide (c ≤ 90))))) :: (16, .v (.bool ((decide (c ≤ 90))))) :: (17, .v (.bool true)) :: (18, .v undef) :: (19, .v undef) :: (20, .v undef) :: (21, .v undef) :: (22, .v undef) :: (23, .v undef) :: (24, .v (.bool true)) :: (2, .v (.bool true)) :: [])) (init := [0]) (fin := [23]) (sps := (⟨[0], [], [1], [(.slot 3)]⟩ :: ⟨[1], [], [2], [(.slot 4)]⟩ :: ⟨[2], [], [3], [(.slot 5)]⟩ :: ⟨[3], [], [4], [(.slot 6)]⟩ :: ⟨[3], [], [5], [(.slot 7)]⟩ :: ⟨[3], [], [6], [(.slot 8)]⟩ :: ⟨[6], [], [7], [(.slot 9)]⟩ :: ⟨[7, 0], [], [8], [(.slot 10)]⟩ :: ⟨[7, 8], [], [9], [(.slot 11)]⟩ :: ⟨[7, 9], [], [10], [(.slot 12)]⟩ :: ⟨[10, 0], [], [11], [(.slot 13)]⟩ :: ⟨[10, 11], [], [12], [(.slot 14)]⟩ :: ⟨[7, 10, 12], [], [13], [(.slot 15)]⟩ :: ⟨[7, 13], [], [14], [(.slot 16)]⟩ :: ⟨[14], [], [15], [(.slot 17)]⟩ :: ⟨[15], [], [16], [(.slot 18)]⟩ :: ⟨[15], [], [17], [(.slot 19)]⟩ :: ⟨[15], [], [18], [(.slot 20)]⟩ :: ⟨[18], [], [19], [(.slot 21)]⟩ :: ⟨[18], [], [20], [(.slot 22)]⟩ :: ⟨[15], [], [21], [(.slot 23)]⟩ :: ⟨[15], [], [22], [(.slot 24)]⟩ :: ⟨[22], [], [23], [(.slot 2)]⟩ :: [])) (es' := [(2, .v (.bool true))]) (by kernel_rfl) rfl rfl
       ⟨st_plain rfl (op_move _ _ _ _ rfl rfl),
       st_plain rfl (op_bin _ _ _ _ _ rfl rfl rfl),
       st_plain rfl (op_move _ _ _ _ (congrArg (fun b => AV.v (Value.bool b)) hg1_2) rfl),
       st_skip 2 5 _ true rfl rfl rfl rfl (List.Mem.head _),
       st_skip 2 5 _ true rfl rfl rfl rfl (List.Mem.head _),
       st_plain rfl (op_pick _ _ false _ rfl rfl),
       st_plain rfl (op_move _ _ _ _ rfl rfl),
       st_run 6 9 false rfl rfl rfl (List.Mem.head _) (op_move _ _ _ _ rfl rfl),
       st_run 6 9 false rfl rfl rfl (List.Mem.head _) (op_bin _ _ _ _ _ rfl rfl rfl),
       st_run 6 9 false rfl rfl rfl (List.Mem.head _) (op_move _ _ _ _ (congrArg (fun b => AV.v (Value.bool b)) hg1_9) rfl),
       st_run 9 12 true rfl rfl rfl (List.Mem.head _) (op_move _ _ _ _ rfl rfl),
       st_run 9 12 true rfl rfl rfl (List.Mem.head _) (op_bin _ _ _ _ _ rfl rfl rfl),
       st_run 6 9 false rfl rfl rfl (List.Mem.head _) (op_pick _ _ true _ rfl rfl),
       st_plain rfl (op_pick _ _ false _ rfl rfl),
       st_plain rfl (op_move _ _ _ _ (congrArg (fun b => AV.v (Value.bool b)) hg1_14) rfl),
       st_skip 14 17 _ false rfl rfl rfl rfl (List.Mem.head _),
       st_skip 14 17 _ false rfl rfl rfl rfl (List.Mem.head _),
       st_skip 14 17 _ false rfl rfl rfl rfl (List.Mem.head _),
       st_skipU 17 20 _ true rfl rfl rfl rfl (List.Mem.head _),
       st_skipU 17 20 _ true rfl rfl rfl rfl (List.Mem.head _),
       st_skip 14 17 _ false rfl rfl rfl rfl (List.Mem.head _),
       st_plain rfl (op_pick _ _ true _ rfl rfl),
       st_plain rfl (op_assign _ _ _ _ rfl rfl),
       trivial⟩ ?_
      exact hl3 _ (Option.some.inj h).symm
     ·refine cond_some h (fun hg1_17 h => ?_) (fun hg1_17 h => ?_)
      ·refine ht_seqR hn (El := (_ :: (3, .v (.int .u8 c)) :: (4, .v (.bool ((decide (48 ≤ c))))) :: (5, .v (.bool false)) :: (6, .v undef) :: (7, .v undef) :: (8, .v (.bool false)) :: (9, .v (.bool false)) :: (10, .v (.int .u8 c)) :: (11, .v (.bool ((decide (65 ≤ c))))) :: (12, .v (.bool true)) :: (13, .v (.int .u8 c)) :: (14, .v (.bool ((decide (c ≤ 90))))) :: (15, .v (.bool ((decide (c ≤ 90))))) :: (16, .v (.bool ((decide (c ≤ 90))))) :: (17, .v (.bool false)) :: (18, .v (.int .u8 c)) :: (19, .v (.bool ((decide (97 ≤ c))))) :: (20, .v (.bool true)) :: (21, .v (.int .u8 c)) :: (22, .v (.bool ((decide (c ≤ 122))))) :: (23, .v (.bool ((decide (c ≤ 122))))) :: (24, .v (.bool ((decide (c ≤ 122))))) :: (2, .v (.bool ((decide (c ≤ 122))))) :: [])) (init := [0]) (fin := [23]) (sps := (⟨[0], [], [1], [(.slot 3)]⟩ :: ⟨[1], [], [2], [(.slot 4)]⟩ :: ⟨[2], [], [3], [(.slot 5)]⟩ :: ⟨[3], [], [4], [(.slot 6)]⟩ :: ⟨[3], [], [5], [(.slot 7)]⟩ :: ⟨[3], [], [6], [(.slot 8)]⟩ :: ⟨[6], [], [7], [(.slot 9)]⟩ :: ⟨[7, 0], [], [8], [(.slot 10)]⟩ :: ⟨[7, 8], [], [9], [(.slot 11)]⟩ :: ⟨[7, 9], [], [10], [(.slot 12)]⟩ :: ⟨[10, 0], [], [11], [(.slot 13)]⟩ :: ⟨[10, 11], [], [12], [(.slot 14)]⟩ :: ⟨[7, 10, 12], [], [13], [(.slot 15)]⟩ :: ⟨[7, 13], [], [14], [(.slot 16)]⟩ :: ⟨[14], [], [15], [(.slot 17)]⟩ :: ⟨[15, 0], [], [16], [(.slot 18)]⟩ :: ⟨[15, 16], [], [17], [(.slot 19)]⟩ :: ⟨[15, 17], [], [18], [(.slot 20)]⟩ :: ⟨[18, 0], [], [19], [(.slot 21)]⟩ :: ⟨[18, 19], [], [20], [(.slot 22)]⟩ :: ⟨[15, 18, 20], [], [21], [(.slot 23)]⟩ :: ⟨[15, 21], [], [22], [(.slot 24)]⟩ :: ⟨[22], [], [23], [(.slot 2)]⟩ :: [])) (es' := [(2, .v (.bool ((decide (c ≤ 122)))))]) (by kernel_rfl) rfl rfl
        ⟨st_plain rfl (op_move _ _ _ _ rfl rfl),
        st_plain rfl (op_bin _ _ _ _ _ rfl rfl rfl),
        st_plain rfl (op_move _ _ _ _ (congrArg (fun b => AV.v (Value.bool b)) hg1_2) rfl),
        st_skip 2 5 _ true rfl rfl rfl rfl (List.Mem.head _),
        st_skip 2 5 _ true rfl rfl rfl rfl (List.Mem.head _),
        st_plain rfl (op_pick _ _ false _ rfl rfl),
        st_plain rfl (op_move _ _ _ _ rfl rfl),
        st_run 6 9 false rfl rfl rfl (List.Mem.head _) (op_move _ _ _ _ rfl rfl),
        st_run 6 9 false rfl rfl rfl (List.Mem.head _) (op_bin _ _ _ _ _ rfl rfl rfl),
        st_run 6 9 false rfl rfl rfl (List.Mem.head _) (op_move _ _ _ _ (congrArg (fun b => AV.v (Value.bool b)) hg1_9) rfl),
        st_run 9 12 true rfl rfl rfl (List.Mem.head _) (op_move _ _ _ _ rfl rfl),
        st_run 9 12 true rfl rfl rfl (List.Mem.head _) (op_bin _ _ _ _ _ rfl rfl rfl),
        st_run 6 9 false rfl rfl rfl (List.Mem.head _) (op_pick _ _ true _ rfl rfl),
        st_plain rfl (op_pick _ _ false _ rfl rfl),
        st_plain rfl (op_move _ _ _ _ (congrArg (fun b => AV.v (Value.bool b)) hg1_14) rfl),
        st_run 14 17 false rfl rfl rfl (List.Mem.head _) (op_move _ _ _ _ rfl rfl),
        st_run 14 17 false rfl rfl rfl (List.Mem.head _) (op_bin _ _ _ _ _ rfl rfl rfl),
        st_run 14 17 false rfl rfl rfl (List.Mem.head _) (op_move _ _ _ _ (congrArg (fun b => AV.v (Value.bool b)) hg1_17) rfl),
        st_run 17 20 true rfl rfl rfl (List.Mem.head _) (op_move _ _ _ _ rfl rfl),
        st_run 17 20 true rfl rfl rfl (List.Mem.head _) (op_bin _ _ _ _ _ rfl rfl rfl),
        st_run 14 17 false rfl rfl rfl (List.Mem.head _) (op_pick _ _ true _ rfl rfl),
        st_plain rfl (op_pick _ _ false _ rfl rfl),
        st_plain rfl (op_assign _ _ _ _ rfl rfl),
        trivial⟩ ?_
       exact hl3 _ (Option.some.inj h).symm
      ·refine ht_seqR hn (El := (_ :: (3, .v (.int .u8 c)) :: (4, .v (.bool ((decide (48 ≤ c))))) :: (5, .v (.bool false)) :: (6, .v undef) :: (7, .v undef) :: (8, .v (.bool false)) :: (9, .v (.bool false)) :: (10, .v (.int .u8 c)) :: (11, .v (.bool ((decide (65 ≤ c))))) :: (12, .v (.bool true)) :: (13, .v (.int .u8 c)) :: (14, .v (.bool ((decide (c ≤ 90))))) :: (15, .v (.bool ((decide (c ≤ 90))))) :: (16, .v (.bool ((decide (c ≤ 90))))) :: (17, .v (.bool false)) :: (18, .v (.int .u8 c)) :: (19, .v (.bool ((decide (97 ≤ c))))) :: (20, .v (.bool false)) :: (21, .v undef) :: (22, .v undef) :: (23, .v (.bool false)) :: (24, .v (.bool false)) :: (2, .v (.bool false)) :: [])) (init := [0]) (fin := [23]) (sps := (⟨[0], [], [1], [(.slot 3)]⟩ :: ⟨[1], [], [2], [(.slot 4)]⟩ :: ⟨[2], [], [3], [(.slot 5)]⟩ :: ⟨[3], [], [4], [(.slot 6)]⟩ :: ⟨[3], [], [5], [(.slot 7)]⟩ :: ⟨[3], [], [6], [(.slot 8)]⟩ :: ⟨[6], [], [7], [(.slot 9)]⟩ :: ⟨[7, 0], [], [8], [(.slot 10)]⟩ :: ⟨[7, 8], [], [9], [(.slot 11)]⟩ :: ⟨[7, 9], [], [10], [(.slot 12)]⟩ :: ⟨[10, 0], [], [11], [(.slot 13)]⟩ :: ⟨[10, 11], [], [12], [(.slot 14)]⟩ :: ⟨[7, 10, 12], [], [13], [(.slot 15)]⟩ :: ⟨[7, 13], [], [14], [(.slot 16)]⟩ :: ⟨[14], [], [15], [(.slot 17)]⟩ :: ⟨[15, 0], [], [16], [(.slot 18)]⟩ :: ⟨[15, 16], [], [17], [(.slot 19)]⟩ :: ⟨[15, 17], [], [18], [(.slot 20)]⟩ :: ⟨[18], [], [19], [(.slot 21)]⟩ :: ⟨[18], [], [20], [(.slot 22)]⟩ :: ⟨[15, 18], [], [21], [(.slot 23)]⟩ :: ⟨[15, 21], [], [22], [(.slot 24)]⟩ :: ⟨[22], [], [23], [(.slot 2)]⟩ :: [])) (es' := [(2, .v (.bool false))]) (by kernel_rfl) rfl rfl
        ⟨st_plain rfl (op_move _ _ _ _ rfl rfl),
        st_plain rfl (op_bin _ _ _ _ _ rfl rfl rfl),
        st_plain rfl (op_move _ _ _ _ (congrArg (fun b => AV.v (Value.bool b)) hg1_2) rfl),
        st_skip 2 5 _ true rfl rfl rfl rfl (List.Mem.head _),
        st_skip 2 5 _ true rfl rfl rfl rfl (List.Mem.head _),
        st_plain rfl (op_pick _ _ false _ rfl rfl),
        st_plain rfl (op_move _ _ _ _ rfl rfl),
        st_run 6 9 false rfl rfl rfl (List.Mem.head _) (op_move _ _ _ _ rfl rfl),
        st_run 6 9 false rfl rfl rfl (List.Mem.head _) (op_bin _ _ _ _ _ rfl rfl rfl),
        st_run 6 9 false rfl rfl rfl (List.Mem.head _) (op_move _ _ _ _ (congrArg (fun b => AV.v (Value.bool b)) hg1_9) rfl),
        st_run 9 12 true rfl rfl rfl (List.Mem.head _) (op_move _ _ _ _ rfl rfl),
        st_run 9 12 true rfl rfl rfl (List.Mem.head _) (op_bin _ _ _ _ _ rfl rfl rfl),
        st_run 6 9 false rfl rfl rfl (List.Mem.head _) (op_pick _ _ true _ rfl rfl),
        st_plain rfl (op_pick _ _ false _ rfl rfl),
        st_plain rfl (op_move _ _ _ _ (congrArg (fun b => AV.v (Value.bool b)) hg1_14) rfl),
        st_run 14 17 false rfl rfl rfl (List.Mem.head _) (op_move _ _ _ _ rfl rfl),
        st_run 14 17 false rfl rfl rfl (List.Mem.head _) (op_bin _ _ _ _ _ rfl rfl rfl),
        st_run 14 17 false rfl rfl rfl (List.Mem.head _) (op_move _ _ _ _ (congrArg (fun b => AV.v (Value.bool b)) hg1_17) rfl),
        st_skip 17 20 _ true rfl rfl rfl rfl (List.Mem.head _),
        st_skip 17 20 _ true rfl rfl rfl rfl (List.Mem.head _),
        st_run 14 17 false rfl rfl rfl (List.Mem.head _) (op_pick _ _ false _ rfl rfl),
        st_plain rfl (op_pick _ _ false _ rfl rfl),
        st_plain rfl (op_assign _ _ _ _ rfl rfl),
        trivial⟩ ?_
       exact hl3 _ (Option.some.inj h).symm
    ·refine cond_some h (fun hg1_17 h => ?_) (fun hg1_17 h => ?_)
     ·refine ht_seqR hn (El := (_ :: (3, .v (.int .u8 c)) :: (4, .v (.bool ((decide (48 ≤ c))))) :: (5, .v (.bool false)) :: (6, .v undef) :: (7, .v undef) :: (8, .v (.bool false)) :: (9, .v (.bool false)) :: (10, .v (.int .u8 c)) :: (11, .v (.bool ((decide (65 ≤ c))))) :: (12, .v (.bool false)) :: (13, .v undef) :: (14, .v undef) :: (15, .v (.bool false)) :: (16, .v (.bool false)) :: (17, .v (.bool false)) :: (18, .v (.int .u8 c)) :: (19, .v (.bool ((decide (97 ≤ c))))) :: (20, .v (.bool true)) :: (21, .v (.int .u8 c)) :: (22, .v (.bool ((decide (c ≤ 122))))) :: (23, .v (.bool ((decide (c ≤ 122))))) :: (24, .v (.bool ((decide (c ≤ 122))))) :: (2, .v (.bool ((decide (c ≤ 122))))) :: [])) (init := [0]) (fin := [23]) (sps := (⟨[0], [], [1], [(.slot 3)]⟩ :: ⟨[1], [], [2], [(.slot 4)]⟩ :: ⟨[2], [], [3], [(.slot 5)]⟩ :: ⟨[3], [], [4], [(.slot 6)]⟩ :: ⟨[3], [], [5], [(.slot 7)]⟩ :: ⟨[3], [], [6], [(.slot 8)]⟩ :: ⟨[6], [], [7], [(.slot 9)]⟩ :: ⟨[7, 0], [], [8], [(.slot 10)]⟩ :: ⟨[7, 8], [], [9], [(.slot 11)]⟩ :: ⟨[7, 9], [], [10], [(.slot 12)]⟩ :: ⟨[10], [], [11], [(.slot 13)]⟩ :: ⟨[10], [], [12], [(.slot 14)]⟩ :: ⟨[7, 10], [], [13], [(.slot 15)]⟩ :: ⟨[7, 13], [], [14], [(.slot 16)]⟩ :: ⟨[14], [], [15], [(.slot 17)]⟩ :: ⟨[15, 0], [], [16], [(.slot 18)]⟩ :: ⟨[15, 16], [], [17], [(.slot 19)]⟩ :: ⟨[15, 17], [], [18], [(.slot 20)]⟩ :: ⟨[18, 0], [], [19], [(.slot 21)]⟩ :: ⟨[18, 19], [], [20], [(.slot 22)]⟩ :: ⟨[15, 18, 20], [], [21], [(.slot 23)]⟩ :: ⟨[15, 21], [], [22], [(.slot 24)]⟩ :: ⟨[22], [], [23], [(.slot 2)]⟩ :: [])) (es' := [(2, .v (.bool ((decide (c ≤ 122)))))]) (by kernel_rfl) rfl rfl
       ⟨st_plain rfl (op_move _ _ _ _ rfl rfl),
       st_plain rfl (op_bin _ _ _ _ _ rfl rfl rfl),
       st_plain rfl (op_move _ _ _ _ (congrArg (fun b => AV.v (Value.bool b)) hg1_2) rfl),
       st_skip 2 5 _ true rfl rfl rfl rfl (List.Mem.head _),
       st_skip 2 5 _ true rfl rfl rfl rfl (List.Mem.head _),
       st_plain rfl (op_pick _ _ false _ rfl rfl),
       st_plain rfl (op_move _ _ _ _ rfl rfl),
       st_run 6 9 false rfl rfl rfl (List.Mem.head _) (op_move _ _ _ _ rfl rfl),
       st_run 6 9 false rfl rfl rfl (List.Mem.head _) (op_bin _ _ _ _ _ rfl rfl rfl),
       st_run 6 9 false rfl rfl rfl (List.Mem.head _) (op_move _ _ _ _ (congrArg (fun b => AV.v (Value.bool b)) hg1_9) rfl),
       st_skip 9 12 _ true rfl rfl rfl rfl (List.Mem.head _),
       st_skip 9 12 _ true rfl rfl rfl rfl (List.Mem.head _),
       st_run 6 9 false rfl rfl rfl (List.Mem.head _) (op_pick _ _ false _ rfl rfl),
       st_plain rfl (op_pick _ _ false _ rfl rfl),
       st_plain rfl (op_move _ _ _ _ rfl rfl),
       st_run 14 17 false rfl rfl rfl (List.Mem.head _) (op_move _ _ _ _ rfl rfl),
       st_run 14 17 false rfl rfl rfl (List.Mem.head _) (op_bin _ _ _ _ _ rfl rfl rfl),
       st_run 14 17 false rfl rfl rfl (List.Mem.head _) (op_move _ _ _ _ (congrArg (fun b => AV.v (Value.bool b)) hg1_17) rfl),
       st_run 17 20 true rfl rfl rfl (List.Mem.head _) (op_move _ _ _ _ rfl rfl),
       st_run 17 20 true rfl rfl rfl (List.Mem.head _) (op_bin _ _ _ _ _ rfl rfl rfl),
       st_run 14 17 false rfl rfl rfl (List.Mem.head _) (op_pick _ _ true _ rfl rfl),
       st_plain rfl (op_pick _ _ false _ rfl rfl),
       st_plain rfl (op_assign _ _ _ _ rfl rfl),
       trivial⟩ ?_
      exact hl3 _ (Option.some.inj h).symm
     ·refine ht_seqR hn (El := (_ :: (3, .v (.int .u8 c)) :: (4, .v (.bool ((decide (48 ≤ c))))) :: (5, .v (.bool false)) :: (6, .v undef) :: (7, .v undef) :: (8, .v (.bool false)) :: (9, .v (.bool false)) :: (10, .v (.int .u8 c)) :: (11, .v (.bool ((decide (65 ≤ c))))) :: (12, .v (.bool false)) :: (13, .v undef) :: (14, .v undef) :: (15, .v (.bool false)) :: (16, .v (.bool false)) :: (17, .v (.bool false)) :: (18, .v (.int .u8 c)) :: (19, .v (.bool ((decide (97 ≤ c))))) :: (20, .v (.bool false)) :: (21, .v undef) :: (22, .v undef) :: (23, .v (.bool false)) :: (24, .v (.bool false)) :: (2, .v (.bool false)) :: [])) (init := [0]) (fin := [23]) (sps := (⟨[0], [], [1], [(.slot 3)]⟩ :: ⟨[1], [], [2], [(.slot 4)]⟩ :: ⟨[2], [], [3], [(.slot 5)]⟩ :: ⟨[3], [], [4], [(.slot 6)]⟩ :: ⟨[3], [], [5], [(.slot 7)]⟩ :: ⟨[3], [], [6], [(.slot 8)]⟩ :: ⟨[6], [], [7], [(.slot 9)]⟩ :: ⟨[7, 0], [], [8], [(.slot 10)]⟩ :: ⟨[7, 8], [], [9], [(.slot 11)]⟩ :: ⟨[7, 9], [], [10], [(.slot 12)]⟩ :: ⟨[10], [], [11], [(.slot 13)]⟩ :: ⟨[10], [], [12], [(.slot 14)]⟩ :: ⟨[7, 10], [], [13], [(.slot 15)]⟩ :: ⟨[7, 13], [], [14], [(.slot 16)]⟩ :: ⟨[14], [], [15], [(.slot 17)]⟩ :: ⟨[15, 0], [], [16], [(.slot 18)]⟩ :: ⟨[15, 16], [], [17], [(.slot 19)]⟩ :: ⟨[15, 17], [], [18], [(.slot 20)]⟩ :: ⟨[18], [], [19], [(.slot 21)]⟩ :: ⟨[18], [], [20], [(.slot 22)]⟩ :: ⟨[15, 18], [], [21], [(.slot 23)]⟩ :: ⟨[15, 21], [], [22], [(.slot 24)]⟩ :: ⟨[22], [], [23], [(.slot 2)]⟩ :: [])) (es' := [(2, .v (.bool false))]) (by kernel_rfl) rfl rfl
       ⟨st_plain rfl (op_move _ _ _ _ rfl rfl),
       st_plain rfl (op_bin _ _ _ _ _ rfl rfl rfl),
       st_plain rfl (op_move _ _ _ _ (congrArg (fun b => AV.v (Value.bool b)) hg1_2) rfl),
       st_skip 2 5 _ true rfl rfl rfl rfl (List.Mem.head _),
       st_skip 2 5 _ true rfl rfl rfl rfl (List.Mem.head _),
       st_plain rfl (op_pick _ _ false _ rfl rfl),
       st_plain rfl (op_move _ _ _ _ rfl rfl),
       st_run 6 9 false rfl rfl rfl (List.Mem.head _) (op_move _ _ _ _ rfl rfl),
       st_run 6 9 false rfl rfl rfl (List.Mem.head _) (op_bin _ _ _ _ _ rfl rfl rfl),
       st_run 6 9 false rfl rfl rfl (List.Mem.head _) (op_move _ _ _ _ (congrArg (fun b => AV.v (Value.bool b)) hg1_9) rfl),
       st_skip 9 12 _ true rfl rfl rfl rfl (List.Mem.head _),
       st_skip 9 12 _ true rfl rfl rfl rfl (List.Mem.head _),
       st_run 6 9 false rfl rfl rfl (List.Mem.head _) (op_pick _ _ false _ rfl rfl),
       st_plain rfl (op_pick _ _ false _ rfl rfl),
       st_plain rfl (op_move _ _ _ _ rfl rfl),
       st_run 14 17 false rfl rfl rfl (List.Mem.head _) (op_move _ _ _ _ rfl rfl),
       st_run 14 17 false rfl rfl rfl (List.Mem.head _) (op_bin _ _ _ _ _ rfl rfl rfl),
       st_run 14 17 false rfl rfl rfl (List.Mem.head _) (op_move _ _ _ _ (congrArg (fun b => AV.v (Value.bool b)) hg1_17) rfl),
       st_skip 17 20 _ true rfl rfl rfl rfl (List.Mem.head _),
       st_skip 17 20 _ true rfl rfl rfl rfl (List.Mem.head _),
       st_run 14 17 false rfl rfl rfl (List.Mem.head _) (op_pick _ _ false _ rfl rfl),
       st_plain rfl (op_pick _ _ false _ rfl rfl),
       st_plain rfl (op_assign _ _ _ _ rfl rfl),
       trivial⟩ ?_
      exact hl3 _ (Option.some.inj h).symm
set_option maxHeartbeats 1000000 in
theorem ok_path_label_1 (c : Int) (r : Bool) (h : Sh.path_label_1 c = some r) : FnOK Tryd.prog 49 [.v (.int .u8 c)] (.v (.bool r)) := by
  unfold Sh.path_label_1 at h
  refine fn_ok Tryd.func49 rfl (Nat.le_of_ble_eq_true rfl) rfl rfl fun g0 hn hio => ?_
  refine ht_seq ?_
  refine ht_seqR hn (El := [_, (2, .v (.bool false))]) (init := [0]) (fin := [0]) (sps := [⟨[], [], [1], [(.slot 2)]⟩]) (es' := [(_, _)]) (by kernel_rfl) rfl rfl
   ⟨st_plain rfl (op_assign _ _ _ _ rfl rfl),
   trivial⟩ ?_
  refine pt_then ?_
  refine ht_seq ?_
  refine ht_joinS h (fun (s2 : Bool) => [(2, .v (.bool s2))]) ?_ ?_
  ·rintro s2 h
   refine pt_then ?_
   refine ht_ret ?_
   obtain rfl := Option.some.inj h
   exact pt_ret hio rfl (.tmp _ _ .nil) rfl rfl
  ·intro u3 h hl4 hr5
   obtain ⟨v1, hv1, h⟩ := bind_some h
   refine cond_some h (fun hg1_2 h => ?_) (fun hg1_2 h => ?_)
   ·refine ht_seqR hn (El := [_, (3, .v (.int .u8 c)), (4, .v (.bool v1)), (5, .v (.bool true)), (6, .v undef), (7, .v undef), (8, .v (.bool true)), (2, .v (.bool true))]) (init := [0]) (fin := [7]) (sps := [⟨[0], [], [1], [(.slot 3)]⟩, ⟨[1], [], [2], [(.slot 4)]⟩, ⟨[2], [], [3], [(.slot 5)]⟩, ⟨[3], [], [4], [(.slot 6)]⟩, ⟨[3], [], [5], [(.slot 7)]⟩, ⟨[3], [], [6], [(.slot 8)]⟩, ⟨[6], [], [7], [(.slot 2)]⟩]) (es' := [(2, .v (.bool true))]) (by kernel_rfl) rfl rfl
     ⟨st_plain rfl (op_move _ _ _ _ rfl rfl),
     st_plain rfl (op_call _ _ 50 _ _ rfl Tryd.call50 rfl (ok_path_alphanumeric c _ hv1) rfl rfl),
     st_plain rfl (op_move _ _ _ _ (congrArg (fun b => AV.v (Value.bool b)) hg1_2) rfl),
     st_skip 2 5 _ false rfl rfl rfl rfl (List.Mem.head _),
     st_skip 2 5 _ false rfl rfl rfl rfl (List.Mem.head _),
     st_plain rfl (op_pick _ _ true _ rfl rfl),
     st_plain rfl (op_assign _ _ _ _ rfl rfl),
     trivial⟩ ?_
    exact hl4 _ (Option.some.inj h).symm
   ·refine ht_seqR hn (El := [_, (3, .v (.int .u8 c)), (4, .v (.bool v1)), (5, .v (.bool false)), (6, .v (.int .u8 c)), (7, .v (.bool (c == 45))), (8, .v (.bool (c == 45))), (2, .v (.bool (c == 45)))]) (init := [0]) (fin := [7]) (sps := [⟨[0], [], [1], [(.slot 3)]⟩, ⟨[1], [], [2], [(.slot 4)]⟩, ⟨[2], [], [3], [(.slot 5)]⟩, ⟨[3, 0], [], [4], [(.slot 6)]⟩, ⟨[3, 4], [], [5], [(.slot 7)]⟩, ⟨[3, 5], [], [6], [(.slot 8)]⟩, ⟨[6], [], [7], [(.slot 2)]⟩]) (es' := [(2, .v (.bool (c == 45)))]) (by kernel_rfl) rfl rfl
     ⟨st_plain rfl (op_move _ _ _ _ rfl rfl),
     st_plain rfl (op_call _ _ 50 _ _ rfl Tryd.call50 rfl (ok_path_alphanumeric c _ hv1) rfl rfl),
     st_plain rfl (op_move _ _ _ _ (congrArg (fun b => AV.v (Value.bool b)) hg1_2) rfl),
     st_run 2 5 false rfl rfl rfl (List.Mem.head _) (op_move _ _ _ _ rfl rfl),
     st_run 2 5 false rfl rfl rfl (List.Mem.head _) (op_bin _ _ _ _ _ rfl rfl rfl),
     st_plain rfl (op_pick _ _ false _ rfl rfl),
     st_plain rfl (op_assign _ _ _ _ rfl rfl),
     trivial⟩ ?_
    exact hl4 _ (Option.some.inj h).symm
set_option maxHeartbeats 1000000 in
theorem ok_path_all_of_path_label_1 (s : ByteArray) (r : Bool) (h : Sh.path_all_of_path_label_1 s = some r) : FnOK Tryd.prog 48 [.v (.string s), .v (.func (.func 49) #[] #[])] (.v (.bool r)) := by
  unfold Sh.path_all_of_path_label_1 at h
  refine fn_ok Tryd.func48 rfl (Nat.le_of_ble_eq_true rfl) rfl rfl fun g0 hn hio => ?_
  refine ht_seq ?_
  refine ht_seqR hn (El := [_, _, (4, .v (.bool false))]) (init := [0, 1]) (fin := [0, 1]) (sps := [⟨[], [], [2], [(.slot 4)]⟩]) (es' := [(_, _), (_, _)]) (by kernel_rfl) rfl rfl
   ⟨st_plain rfl (op_assign _ _ _ _ rfl rfl),
   trivial⟩ ?_
  refine pt_then ?_
  refine ht_seq ?_
  refine ht_seq ?_
  refine ht_seqR hn (El := [_, _, (6, .v (.string s)), (7, .v (.int .i64 (s.size : Int))), (8, .v (.int .i64 0))]) (init := [0, 1]) (fin := [0, 1, 3, 4]) (sps := [⟨[0], [], [2], [(.slot 6)]⟩, ⟨[2], [], [3], [(.slot 7)]⟩, ⟨[], [], [4], [(.slot 8)]⟩]) (es' := [(_, _), (_, _), (7, .v (.int .i64 (s.size : Int))), (8, .v (.int .i64 0))]) (by kernel_rfl) rfl rfl
   ⟨st_plain rfl (op_move _ _ _ _ rfl rfl),
   st_plain rfl (op_len_str _ _ _ Tryd.underlying9 rfl),
   st_plain rfl (op_move _ _ _ _ rfl rfl),
   trivial⟩ ?_
  refine pt_then ?_
  refine ht_loopS h (fun (s9 : Int) => [(0, .v (.string s)), (1, .v (.func (.func 49) #[] #[])), (7, .v (.int .i64 (s.size : Int))), (8, .v (.int .i64 s9))]) (fun (() : Unit) => []) ?_ ?_
  ·rintro ⟨⟩ h
   refine pt_then ?_
   refine ht_seq ?_
   refine ht_seqR hn (El := [(4, .v (.bool true))]) (init := []) (fin := [0]) (sps := [⟨[], [], [0], [(.slot 4)]⟩]) (es' := [(4, .v (.bool true))]) (by kernel_rfl) rfl rfl
    ⟨st_plain rfl (op_assign _ _ _ _ rfl rfl),
    trivial⟩ ?_
   refine pt_then ?_
   refine ht_ret ?_
   obtain rfl := Option.some.inj h
   exact pt_ret hio rfl (.tmp _ _ .nil) rfl rfl
  ·rintro u12 hl13 hr14 s9 rr17 h ho15
   refine ht_seq ?_
   refine ht_seqR hn (El := [_, _, _, _, (9, .v (.bool ((decide (s9 < (s.size : Int))))))]) (init := [0, 1, 2, 3]) (fin := [0, 1, 2, 3, 4]) (sps := [⟨[3, 2], [], [4], [(.slot 9)]⟩]) (es' := [(_, _), (_, _), (_, _), (_, _), (9, .v (.bool ((decide (s9 < (s.size : Int))))))]) (by kernel_rfl) rfl rfl
    ⟨st_plain rfl (op_bin _ _ _ _ _ rfl rfl rfl),
    trivial⟩ ?_
   refine pt_then ?_
   refine ht_seq ?_
   refine ht_cond _ rfl (fun hb18 => ?_) (fun hb18 => ?_)
   ·have h := cond_t hb18 h
    refine ht_skip ?_
    refine pt_then ?_
    refine ht_seq ?_
    refine ht_block ?_
    refine ht_seq ?_
    refine ht_seqR hn (El := [_, _, _, _, _, (10, .v (.int .i64 s9)), (5, .v (.int .i64 s9))]) (init := [0, 1, 2, 3, 4]) (fin := [0, 1, 2, 3, 6]) (sps := [⟨[3], [], [5], [(.slot 10)]⟩, ⟨[5], [], [6], [(.slot 5)]⟩]) (es' := [(_, _), (_, _), (_, _), (_, _), (5, .v (.int .i64 s9))]) (by kernel_rfl) rfl rfl
     ⟨st_plain rfl (op_move _ _ _ _ rfl rfl),
     st_plain rfl (op_assign _ _ _ _ rfl rfl),
     trivial⟩ ?_
    refine pt_then ?_
    refine ht_seq ?_
    obtain ⟨v2, hv2, h⟩ := bind_some h
    obtain ⟨v3, hv3, h⟩ := bind_some h
    refine ht_seqR hn (El := [_, _, _, _, _, (11, .v (.func (.func 49) #[] #[])), (12, .v (.string s)), (13, .v (.int .i64 s9)), (14, .v (.int .u8 v2)), (15, .v (.bool v3)), (16, .v (.bool (!v3)))]) (init := [0, 1, 2, 3, 4]) (fin := [0, 1, 2, 3, 10]) (sps := [⟨[1], [], [5], [(.slot 11)]⟩, ⟨[0], [], [6], [(.slot 12)]⟩, ⟨[4], [], [7], [(.slot 13)]⟩, ⟨[6, 7], [], [8], [(.slot 14)]⟩, ⟨[8, 5], [], [9], [(.slot 15)]⟩, ⟨[9], [], [10], [(.slot 16)]⟩]) (es' := [(_, _), (_, _), (_, _), (_, _), (16, .v (.bool (!v3)))]) (by kernel_rfl) rfl rfl
     ⟨st_plain rfl (op_move _ _ _ _ rfl rfl),
     st_plain rfl (op_move _ _ _ _ rfl rfl),
     st_plain rfl (op_move _ _ _ _ rfl rfl),
     st_plain rfl (op_chr _ _ _ s9 _ Tryd.underlying9 rfl rfl hv2),
     st_plain rfl (op_call _ _ 49 _ _ rfl Tryd.call49 rfl (ok_path_label_1 v2 _ hv3) rfl rfl),
     st_plain rfl (op_un _ _ _ _ rfl rfl),
     trivial⟩ ?_
    refine pt_then ?_
    refine ht_cond _ rfl (fun hb19 => ?_) (fun hb19 => ?_)
    ·have h := cond_t hb19 h
     refine ht_seq ?_
     refine ht_seqR hn (El := [_, _, _, _, _, (4, .v (.bool false))]) (init := [0, 1, 2, 3, 4]) (fin := [5]) (sps := [⟨[], [], [5], [(.slot 4)]⟩]) (es' := [(4, .v (.bool false))]) (by kernel_rfl) rfl rfl
      ⟨st_plain rfl (op_assign _ _ _ _ rfl rfl),
      trivial⟩ ?_
     refine pt_then ?_
     refine ht_ret ?_
     refine pt_r_in ?_
     refine pt_r_then ?_
     refine pt_r_then ?_
     refine pt_r_in ?_
     refine pt_r_then ?_
     have h := hr14 _ (ho15 _ (Option.some.inj h).symm).symm
     obtain rfl := Option.some.inj h
     exact pt_ret hio rfl (.tmp _ _ .nil) rfl rfl
    ·have h := cond_f hb19 h
     refine ht_skip ?_
     refine pt_inb ?_
     refine pt_then ?_
     obtain ⟨v5, hv5, h⟩ := bind_some h
     refine ht_seqR hn (El := [_, _, _, _, _, (17, .v (.int .i64 v5)), (8, .v (.int .i64 v5))]) (init := [0, 1, 2, 3, 4]) (fin := [0, 1, 2, 6]) (sps := [⟨[3], [], [5], [(.slot 17)]⟩, ⟨[5], [3], [6], [(.slot 8)]⟩]) (es' := [(_, _), (_, _), (_, _), (8, .v (.int .i64 v5))]) (by kernel_rfl) rfl rfl
      ⟨st_plain rfl (op_bin _ _ _ _ _ rfl rfl (ibind (f := Value.int .i64) (Option.some.inj hv5))),
      st_plain rfl (LOp.drop [_] (op_move _ _ _ _ rfl rfl)),
      trivial⟩ ?_
     exact pt_next _ (Option.some.inj h).symm rfl
   ·have h := cond_f hb18 h
    refine ht_exit ?_
    refine pt_x_then ?_
    refine pt_x_then ?_
    refine pt_x_in ?_
    refine pt_pick [] (by kernel_rfl) (es' := []) rfl ?_
    exact hl13 _ (ho15 _ (Option.some.inj h).symm).symm
set_option maxHeartbeats 1000000 in
theorem ok_path_label (s : ByteArray) (r : Bool) (h : Sh.path_label s = some r) : FnOK Tryd.prog 40 [.v (.string s)] (.v (.bool r)) := by
  unfold Sh.path_label at h
  refine fn_ok Tryd.func40 rfl (Nat.le_of_ble_eq_true rfl) rfl rfl fun g0 hn hio => ?_
  refine ht_seq ?_
  refine ht_seqR hn (El := [_, (2, .v (.bool false))]) (init := [0]) (fin := [0]) (sps := [⟨[], [], [1], [(.slot 2)]⟩]) (es' := [(_, _)]) (by kernel_rfl) rfl rfl
   ⟨st_plain rfl (op_assign _ _ _ _ rfl rfl),
   trivial⟩ ?_
  refine pt_then ?_
  refine ht_seq ?_
  refine ht_joinS h (fun (s5 : Bool) => [(2, .v (.bool s5))]) ?_ ?_
  ·rintro s5 h
   refine pt_then ?_
   refine ht_ret ?_
   obtain rfl := Option.some.inj h
   exact pt_ret hio rfl (.tmp _ _ .nil) rfl rfl
  ·intro u6 h hl7 hr8
   refine cond_some h (fun hg1_2 h => ?_) (fun hg1_2 h => ?_)
   ·refine cond_some h (fun hg1_7 h => ?_) (fun hg1_7 h => ?_)
    ·obtain ⟨v1, hv1, h⟩ := bind_some h
     refine cond_some h (fun hg1_12 h => ?_) (fun hg1_12 h => ?_)
     ·obtain ⟨v2, hv2, h⟩ := bind_some h
      obtain ⟨v3, hv3, h⟩ := bind_some h
      refine cond_some h (fun hg1_20 h => ?_) (fun hg1_20 h => ?_)
      ·obtain ⟨v4, hv4, h⟩ := bind_some h
       refine ht_seqR hn (El := (_ :: (3, .v (.string s)) :: (4, .v (.bool ((!(s.toList == (⟨#[]⟩ : ByteArray).toList))))) :: (5, .v (.bool true)) :: (6, .v (.string s)) :: (7, .v (.int .i64 (s.size : Int))) :: (8, .v (.bool ((decide ((s.size : Int) ≤ 63))))) :: (9, .v (.bool ((decide ((s.size : Int) ≤ 63))))) :: (10, .v (.bool true)) :: (11, .v (.string s)) :: (12, .v (.int .u8 v1)) :: (13, .v (.bool (v1 != 45))) :: (14, .v (.bool (v1 != 45))) :: (15, .v (.bool true)) :: (16, .v (.string s)) :: (17, .v (.string s)) :: (18, .v (.int .i64 (s.size : Int))) :: (19, .v (.int .i64 v2)) :: (20, .v (.int .u8 v3)) :: (21, .v (.bool (v3 != 45))) :: (22, .v (.bool (v3 != 45))) :: (23, .v (.bool true)) :: (24, .v (.string s)) :: (25, .v (.bool v4)) :: (26, .v (.bool v4)) :: (2, .v (.bool v4)) :: [])) (init := [0]) (fin := [25]) (sps := (⟨[0], [], [1], [(.slot 3)]⟩ :: ⟨[1], [], [2], [(.slot 4)]⟩ :: ⟨[2], [], [3], [(.slot 5)]⟩ :: ⟨[3, 0], [], [4], [(.slot 6)]⟩ :: ⟨[3, 4], [], [5], [(.slot 7)]⟩ :: ⟨[3, 5], [], [6], [(.slot 8)]⟩ :: ⟨[3, 6], [], [7], [(.slot 9)]⟩ :: ⟨[7], [], [8], [(.slot 10)]⟩ :: ⟨[8, 0], [], [9], [(.slot 11)]⟩ :: ⟨[8, 9], [], [10], [(.slot 12)]⟩ :: ⟨[8, 10], [], [11], [(.slot 13)]⟩ :: ⟨[8, 11], [], [12], [(.slot 14)]⟩ :: ⟨[12], [], [13], [(.slot 15)]⟩ :: ⟨[13, 0], [], [14], [(.slot 16)]⟩ :: ⟨[13, 0], [], [15], [(.slot 17)]⟩ :: ⟨[13, 15], [], [16], [(.slot 18)]⟩ :: ⟨[13, 16], [], [17], [(.slot 19)]⟩ :: ⟨[13, 14, 17], [], [18], [(.slot 20)]⟩ :: ⟨[13, 18], [], [19], [(.slot 21)]⟩ :: ⟨[13, 19], [], [20], [(.slot 22)]⟩ :: ⟨[20], [], [21], [(.slot 23)]⟩ :: ⟨[21, 0], [], [22], [(.slot 24)]⟩ :: ⟨[21, 22], [], [23], [(.slot 25)]⟩ :: ⟨[21, 23], [], [24], [(.slot 26)]⟩ :: ⟨[24], [], [25], [(.slot 2)]⟩ :: [])) (es' := [(2, .v (.bool v4))]) (by kernel_rfl) rfl rfl
        ⟨st_plain rfl (op_move _ _ _ _ rfl rfl),
        st_plain rfl (op_bin _ _ _ _ _ rfl rfl rfl),
        st_plain rfl (op_move _ _ _ _ (congrArg (fun b => AV.v (Value.bool b)) hg1_2) rfl),
        st_run 2 5 true rfl rfl rfl (List.Mem.head _) (op_move _ _ _ _ rfl rfl),
        st_run 2 5 true rfl rfl rfl (List.Mem.head _) (op_len_str _ _ _ Tryd.underlying9 rfl),
        st_run 2 5 true rfl rfl rfl (List.Mem.head _) (op_bin _ _ _ _ _ rfl rfl rfl),
        st_plain rfl (op_pick _ _ true _ rfl rfl),
        st_plain rfl (op_move _ _ _ _ (congrArg (fun b => AV.v (Value.bool b)) hg1_7) rfl),
        st_run 7 10 true rfl rfl rfl (List.Mem.head _) (op_move _ _ _ _ rfl rfl),
        st_run 7 10 true rfl rfl rfl (List.Mem.head _) (op_chr _ _ _ 0 _ Tryd.underlying9 rfl rfl hv1),
        st_run 7 10 true rfl rfl rfl (List.Mem.head _) (op_bin _ _ _ _ _ rfl rfl rfl),
        st_plain rfl (op_pick _ _ true _ rfl rfl),
        st_plain rfl (op_move _ _ _ _ (congrArg (fun b => AV.v (Value.bool b)) hg1_12) rfl),
        st_run 12 15 true rfl rfl rfl (List.Mem.head _) (op_move _ _ _ _ rfl rfl),
        st_run 12 15 true rfl rfl rfl (List.Mem.head _) (op_move _ _ _ _ rfl rfl),
        st_run 12 15 true rfl rfl rfl (List.Mem.head _) (op_len_str _ _ _ Tryd.underlying9 rfl),
        st_run 12 15 true rfl rfl rfl (List.Mem.head _) (op_bin _ _ _ _ _ rfl rfl (ibind (f := Value.int .i64) (Option.some.inj hv2))),
        st_run 12 15 true rfl rfl rfl (List.Mem.head _) (op_chr _ _ _ v2 _ Tryd.underlying9 rfl rfl hv3),
        st_run 12 15 true rfl rfl rfl (List.Mem.head _) (op_bin _ _ _ _ _ rfl rfl rfl),
        st_plain rfl (op_pick _ _ true _ rfl rfl),
        st_plain rfl (op_move _ _ _ _ (congrArg (fun b => AV.v (Value.bool b)) hg1_20) rfl),
        st_run 20 23 true rfl rfl rfl (List.Mem.head _) (op_move _ _ _ _ rfl rfl),
        st_run 20 23 true rfl rfl rfl (List.Mem.head _) (op_call _ _ 48 _ _ rfl Tryd.call48 rfl (ok_path_all_of_path_label_1 s _ hv4) rfl rfl),
        st_plain rfl (op_pick _ _ true _ rfl rfl),
        st_plain rfl (op_assign _ _ _ _ rfl rfl),
        trivial⟩ ?_
       exact hl7 _ (Option.some.inj h).symm
      ·refine ht_seqR hn (El := (_ :: (3, .v (.string s)) :: (4, .v (.bool ((!(s.toList == (⟨#[]⟩ : ByteArray).toList))))) :: (5, .v (.bool true)) :: (6, .v (.string s)) :: (7, .v (.int .i64 (s.size : Int))) :: (8, .v (.bool ((decide ((s.size : Int) ≤ 63))))) :: (9, .v (.bool ((decide ((s.size : Int) ≤ 63))))) :: (10, .v (.bool true)) :: (11, .v (.string s)) :: (12, .v (.int .u8 v1)) :: (13, .v (.bool (v1 != 45))) :: (14, .v (.bool (v1 != 45))) :: (15, .v (.bool true)) :: (16, .v (.string s)) :: (17, .v (.string s)) :: (18, .v (.int .i64 (s.size : Int))) :: (19, .v (.int .i64 v2)) :: (20, .v (.int .u8 v3)) :: (21, .v (.bool (v3 != 45))) :: (22, .v (.bool (v3 != 45))) :: (23, .v (.bool false)) :: (24, .v undef) :: (25, .v undef) :: (26, .v (.bool false)) :: (2, .v (.bool false)) :: [])) (init := [0]) (fin := [25]) (sps := (⟨[0], [], [1], [(.slot 3)]⟩ :: ⟨[1], [], [2], [(.slot 4)]⟩ :: ⟨[2], [], [3], [(.slot 5)]⟩ :: ⟨[3, 0], [], [4], [(.slot 6)]⟩ :: ⟨[3, 4], [], [5], [(.slot 7)]⟩ :: ⟨[3, 5], [], [6], [(.slot 8)]⟩ :: ⟨[3, 6], [], [7], [(.slot 9)]⟩ :: ⟨[7], [], [8], [(.slot 10)]⟩ :: ⟨[8, 0], [], [9], [(.slot 11)]⟩ :: ⟨[8, 9], [], [10], [(.slot 12)]⟩ :: ⟨[8, 10], [], [11], [(.slot 13)]⟩ :: ⟨[8, 11], [], [12], [(.slot 14)]⟩ :: ⟨[12], [], [13], [(.slot 15)]⟩ :: ⟨[13, 0], [], [14], [(.slot 16)]⟩ :: ⟨[13, 0], [], [15], [(.slot 17)]⟩ :: ⟨[13, 15], [], [16], [(.slot 18)]⟩ :: ⟨[13, 16], [], [17], [(.slot 19)]⟩ :: ⟨[13, 14, 17], [], [18], [(.slot 20)]⟩ :: ⟨[13, 18], [], [19], [(.slot 21)]⟩ :: ⟨[13, 19], [], [20], [(.slot 22)]⟩ :: ⟨[20], [], [21], [(.slot 23)]⟩ :: ⟨[21], [], [22], [(.slot 24)]⟩ :: ⟨[21], [], [23], [(.slot 25)]⟩ :: ⟨[21], [], [24], [(.slot 26)]⟩ :: ⟨[24], [], [25], [(.slot 2)]⟩ :: [])) (es' := [(2, .v (.bool false))]) (by kernel_rfl) rfl rfl
        ⟨st_plain rfl (op_move _ _ _ _ rfl rfl),
        st_plain rfl (op_bin _ _ _ _ _ rfl rfl rfl),
        st_plain rfl (op_move _ _ _ _ (congrArg (fun b => AV.v (Value.bool b)) hg1_2) rfl),
        st_run 2 5 true rfl rfl rfl (List.Mem.head _) (op_move _ _ _ _ rfl rfl),
        st_run 2 5 true rfl rfl rfl (List.Mem.head _) (op_len_str _ _ _ Tryd.underlying9 rfl),
        st_run 2 5 true rfl rfl rfl (List.Mem.head _) (op_bin _ _ _ _ _ rfl rfl rfl),
        st_plain rfl (op_pick _ _ true _ rfl rfl),
        st_plain rfl (op_move _ _ _ _ (congrArg (fun b => AV.v (Value.bool b)) hg1_7) rfl),
        st_run 7 10 true rfl rfl rfl (List.Mem.head _) (op_move _ _ _ _ rfl rfl),
        st_run 7 10 true rfl rfl rfl (List.Mem.head _) (op_chr _ _ _ 0 _ Tryd.underlying9 rfl rfl hv1),
        st_run 7 10 true rfl rfl rfl (List.Mem.head _) (op_bin _ _ _ _ _ rfl rfl rfl),
        st_plain rfl (op_pick _ _ true _ rfl rfl),
        st_plain rfl (op_move _ _ _ _ (congrArg (fun b => AV.v (Value.bool b)) hg1_12) rfl),
        st_run 12 15 true rfl rfl rfl (List.Mem.head _) (op_move _ _ _ _ rfl rfl),
        st_run 12 15 true rfl rfl rfl (List.Mem.head _) (op_move _ _ _ _ rfl rfl),
        st_run 12 15 true rfl rfl rfl (List.Mem.head _) (op_len_str _ _ _ Tryd.underlying9 rfl),
        st_run 12 15 true rfl rfl rfl (List.Mem.head _) (op_bin _ _ _ _ _ rfl rfl (ibind (f := Value.int .i64) (Option.some.inj hv2))),
        st_run 12 15 true rfl rfl rfl (List.Mem.head _) (op_chr _ _ _ v2 _ Tryd.underlying9 rfl rfl hv3),
        st_run 12 15 true rfl rfl rfl (List.Mem.head _) (op_bin _ _ _ _ _ rfl rfl rfl),
        st_plain rfl (op_pick _ _ true _ rfl rfl),
        st_plain rfl (op_move _ _ _ _ (congrArg (fun b => AV.v (Value.bool b)) hg1_20) rfl),
        st_skip 20 23 _ true rfl rfl rfl rfl (List.Mem.head _),
        st_skip 20 23 _ true rfl rfl rfl rfl (List.Mem.head _),
        st_plain rfl (op_pick _ _ false _ rfl rfl),
        st_plain rfl (op_assign _ _ _ _ rfl rfl),
        trivial⟩ ?_
       exact hl7 _ (Option.some.inj h).symm
     ·refine ht_seqR hn (El := (_ :: (3, .v (.string s)) :: (4, .v (.bool ((!(s.toList == (⟨#[]⟩ : ByteArray).toList))))) :: (5, .v (.bool true)) :: (6, .v (.string s)) :: (7, .v (.int .i64 (s.size : Int))) :: (8, .v (.bool ((decide ((s.size : Int) ≤ 63))))) :: (9, .v (.bool ((decide ((s.size : Int) ≤ 63))))) :: (10, .v (.bool true)) :: (11, .v (.string s)) :: (12, .v (.int .u8 v1)) :: (13, .v (.bool (v1 != 45))) :: (14, .v (.bool (v1 != 45))) :: (15, .v (.bool false)) :: (16, .v undef) :: (17, .v undef) :: (18, .v undef) :: (19, .v undef) :: (20, .v undef) :: (21, .v undef) :: (22, .v (.bool false)) :: (23, .v (.bool false)) :: (24, .v undef) :: (25, .v undef) :: (26, .v (.bool false)) :: (2, .v (.bool false)) :: [])) (init := [0]) (fin := [25]) (sps := (⟨[0], [], [1], [(.slot 3)]⟩ :: ⟨[1], [], [2], [(.slot 4)]⟩ :: ⟨[2], [], [3], [(.slot 5)]⟩ :: ⟨[3, 0], [], [4], [(.slot 6)]⟩ :: ⟨[3, 4], [], [5], [(.slot 7)]⟩ :: ⟨[3, 5], [], [6], [(.slot 8)]⟩ :: ⟨[3, 6], [], [7], [(.slot 9)]⟩ :: ⟨[7], [], [8], [(.slot 10)]⟩ :: ⟨[8, 0], [], [9], [(.slot 11)]⟩ :: ⟨[8, 9], [], [10], [(.slot 12)]⟩ :: ⟨[8, 10], [], [11], [(.slot 13)]⟩ :: ⟨[8, 11], [], [12], [(.slot 14)]⟩ :: ⟨[12], [], [13], [(.slot 15)]⟩ :: ⟨[13], [], [14], [(.slot 16)]⟩ :: ⟨[13], [], [15], [(.slot 17)]⟩ :: ⟨[13], [], [16], [(.slot 18)]⟩ :: ⟨[13], [], [17], [(.slot 19)]⟩ :: ⟨[13], [], [18], [(.slot 20)]⟩ :: ⟨[13], [], [19], [(.slot 21)]⟩ :: ⟨[13], [], [20], [(.slot 22)]⟩ :: ⟨[20], [], [21], [(.slot 23)]⟩ :: ⟨[21], [], [22], [(.slot 24)]⟩ :: ⟨[21], [], [23], [(.slot 25)]⟩ :: ⟨[21], [], [24], [(.slot 26)]⟩ :: ⟨[24], [], [25], [(.slot 2)]⟩ :: [])) (es' := [(2, .v (.bool false))]) (by kernel_rfl) rfl rfl
       ⟨st_plain rfl (op_move _ _ _ _ rfl rfl),
       st_plain rfl (op_bin _ _ _ _ _ rfl rfl rfl),
       st_plain rfl (op_move _ _ _ _ (congrArg (fun b => AV.v (Value.bool b)) hg1_2) rfl),
       st_run 2 5 true rfl rfl rfl (List.Mem.head _) (op_move _ _ _ _ rfl rfl),
       st_run 2 5 true rfl rfl rfl (List.Mem.head _) (op_len_str _ _ _ Tryd.underlying9 rfl),
       st_run 2 5 true rfl rfl rfl (List.Mem.head _) (op_bin _ _ _ _ _ rfl rfl rfl),
       st_plain rfl (op_pick _ _ true _ rfl rfl),
       st_plain rfl (op_move _ _ _ _ (congrArg (fun b => AV.v (Value.bool b)) hg1_7) rfl),
       st_run 7 10 true rfl rfl rfl (List.Mem.head _) (op_move _ _ _ _ rfl rfl),
       st_run 7 10 true rfl rfl rfl (List.Mem.head _) (op_chr _ _ _ 0 _ Tryd.underlying9 rfl rfl hv1),
       st_run 7 10 true rfl rfl rfl (List.Mem.head _) (op_bin _ _ _ _ _ rfl rfl rfl),
       st_plain rfl (op_pick _ _ true _ rfl rfl),
       st_plain rfl (op_move _ _ _ _ (congrArg (fun b => AV.v (Value.bool b)) hg1_12) rfl),
       st_skip 12 15 _ true rfl rfl rfl rfl (List.Mem.head _),
       st_skip 12 15 _ true rfl rfl rfl rfl (List.Mem.head _),
       st_skip 12 15 _ true rfl rfl rfl rfl (List.Mem.head _),
       st_skip 12 15 _ true rfl rfl rfl rfl (List.Mem.head _),
       st_skip 12 15 _ true rfl rfl rfl rfl (List.Mem.head _),
       st_skip 12 15 _ true rfl rfl rfl rfl (List.Mem.head _),
       st_plain rfl (op_pick _ _ false _ rfl rfl),
       st_plain rfl (op_move _ _ _ _ rfl rfl),
       st_skip 20 23 _ true rfl rfl rfl rfl (List.Mem.head _),
       st_skip 20 23 _ true rfl rfl rfl rfl (List.Mem.head _),
       st_plain rfl (op_pick _ _ false _ rfl rfl),
       st_plain rfl (op_assign _ _ _ _ rfl rfl),
       trivial⟩ ?_
      exact hl7 _ (Option.some.inj h).symm
    ·refine ht_seqR hn (El := (_ :: (3, .v (.string s)) :: (4, .v (.bool ((!(s.toList == (⟨#[]⟩ : ByteArray).toList))))) :: (5, .v (.bool true)) :: (6, .v (.string s)) :: (7, .v (.int .i64 (s.size : Int))) :: (8, .v (.bool ((decide ((s.size : Int) ≤ 63))))) :: (9, .v (.bool ((decide ((s.size : Int) ≤ 63))))) :: (10, .v (.bool false)) :: (11, .v undef) :: (12, .v undef) :: (13, .v undef) :: (14, .v (.bool false)) :: (15, .v (.bool false)) :: (16, .v undef) :: (17, .v undef) :: (18, .v undef) :: (19, .v undef) :: (20, .v undef) :: (21, .v undef) :: (22, .v (.bool false)) :: (23, .v (.bool false)) :: (24, .v undef) :: (25, .v undef) :: (26, .v (.bool false)) :: (2, .v (.bool false)) :: [])) (init := [0]) (fin := [25]) (sps := (⟨[0], [], [1], [(.slot 3)]⟩ :: ⟨[1], [], [2], [(.slot 4)]⟩ :: ⟨[2], [], [3], [(.slot 5)]⟩ :: ⟨[3, 0], [], [4], [(.slot 6)]⟩ :: ⟨[3, 4], [], [5], [(.slot 7)]⟩ :: ⟨[3, 5], [], [6], [(.slot 8)]⟩ :: ⟨[3, 6], [], [7], [(.slot 9)]⟩ :: ⟨[7], [], [8], [(.slot 10)]⟩ :: ⟨[8], [], [9], [(.slot 11)]⟩ :: ⟨[8], [], [10], [(.slot 12)]⟩ :: ⟨[8], [], [11], [(.slot 13)]⟩ :: ⟨[8], [], [12], [(.slot 14)]⟩ :: ⟨[12], [], [13], [(.slot 15)]⟩ :: ⟨[13], [], [14], [(.slot 16)]⟩ :: ⟨[13], [], [15], [(.slot 17)]⟩ :: ⟨[13], [], [16], [(.slot 18)]⟩ :: ⟨[13], [], [17], [(.slot 19)]⟩ :: ⟨[13], [], [18], [(.slot 20)]⟩ :: ⟨[13], [], [19], [(.slot 21)]⟩ :: ⟨[13], [], [20], [(.slot 22)]⟩ :: ⟨[20], [], [21], [(.slot 23)]⟩ :: ⟨[21], [], [22], [(.slot 24)]⟩ :: ⟨[21], [], [23], [(.slot 25)]⟩ :: ⟨[21], [], [24], [(.slot 26)]⟩ :: ⟨[24], [], [25], [(.slot 2)]⟩ :: [])) (es' := [(2, .v (.bool false))]) (by kernel_rfl) rfl rfl
      ⟨st_plain rfl (op_move _ _ _ _ rfl rfl),
      st_plain rfl (op_bin _ _ _ _ _ rfl rfl rfl),
      st_plain rfl (op_move _ _ _ _ (congrArg (fun b => AV.v (Value.bool b)) hg1_2) rfl),
      st_run 2 5 true rfl rfl rfl (List.Mem.head _) (op_move _ _ _ _ rfl rfl),
      st_run 2 5 true rfl rfl rfl (List.Mem.head _) (op_len_str _ _ _ Tryd.underlying9 rfl),
      st_run 2 5 true rfl rfl rfl (List.Mem.head _) (op_bin _ _ _ _ _ rfl rfl rfl),
      st_plain rfl (op_pick _ _ true _ rfl rfl),
      st_plain rfl (op_move _ _ _ _ (congrArg (fun b => AV.v (Value.bool b)) hg1_7) rfl),
      st_skip 7 10 _ true rfl rfl rfl rfl (List.Mem.head _),
      st_skip 7 10 _ true rfl rfl rfl rfl (List.Mem.head _),
      st_skip 7 10 _ true rfl rfl rfl rfl (List.Mem.head _),
      st_plain rfl (op_pick _ _ false _ rfl rfl),
      st_plain rfl (op_move _ _ _ _ rfl rfl),
      st_skip 12 15 _ true rfl rfl rfl rfl (List.Mem.head _),
      st_skip 12 15 _ true rfl rfl rfl rfl (List.Mem.head _),
      st_skip 12 15 _ true rfl rfl rfl rfl (List.Mem.head _),
      st_skip 12 15 _ true rfl rfl rfl rfl (List.Mem.head _),
      st_skip 12 15 _ true rfl rfl rfl rfl (List.Mem.head _),
      st_skip 12 15 _ true rfl rfl rfl rfl (List.Mem.head _),
      st_plain rfl (op_pick _ _ false _ rfl rfl),
      st_plain rfl (op_move _ _ _ _ rfl rfl),
      st_skip 20 23 _ true rfl rfl rfl rfl (List.Mem.head _),
      st_skip 20 23 _ true rfl rfl rfl rfl (List.Mem.head _),
      st_plain rfl (op_pick _ _ false _ rfl rfl),
      st_plain rfl (op_assign _ _ _ _ rfl rfl),
      trivial⟩ ?_
     exact hl7 _ (Option.some.inj h).symm
   ·refine ht_seqR hn (El := (_ :: (3, .v (.string s)) :: (4, .v (.bool ((!(s.toList == (⟨#[]⟩ : ByteArray).toList))))) :: (5, .v (.bool false)) :: (6, .v undef) :: (7, .v undef) :: (8, .v undef) :: (9, .v (.bool false)) :: (10, .v (.bool false)) :: (11, .v undef) :: (12, .v undef) :: (13, .v undef) :: (14, .v (.bool false)) :: (15, .v (.bool false)) :: (16, .v undef) :: (17, .v undef) :: (18, .v undef) :: (19, .v undef) :: (20, .v undef) :: (21, .v undef) :: (22, .v (.bool false)) :: (23, .v (.bool false)) :: (24, .v undef) :: (25, .v undef) :: (26, .v (.bool false)) :: (2, .v (.bool false)) :: [])) (init := [0]) (fin := [25]) (sps := (⟨[0], [], [1], [(.slot 3)]⟩ :: ⟨[1], [], [2], [(.slot 4)]⟩ :: ⟨[2], [], [3], [(.slot 5)]⟩ :: ⟨[3], [], [4], [(.slot 6)]⟩ :: ⟨[3], [], [5], [(.slot 7)]⟩ :: ⟨[3], [], [6], [(.slot 8)]⟩ :: ⟨[3], [], [7], [(.slot 9)]⟩ :: ⟨[7], [], [8], [(.slot 10)]⟩ :: ⟨[8], [], [9], [(.slot 11)]⟩ :: ⟨[8], [], [10], [(.slot 12)]⟩ :: ⟨[8], [], [11], [(.slot 13)]⟩ :: ⟨[8], [], [12], [(.slot 14)]⟩ :: ⟨[12], [], [13], [(.slot 15)]⟩ :: ⟨[13], [], [14], [(.slot 16)]⟩ :: ⟨[13], [], [15], [(.slot 17)]⟩ :: ⟨[13], [], [16], [(.slot 18)]⟩ :: ⟨[13], [], [17], [(.slot 19)]⟩ :: ⟨[13], [], [18], [(.slot 20)]⟩ :: ⟨[13], [], [19], [(.slot 21)]⟩ :: ⟨[13], [], [20], [(.slot 22)]⟩ :: ⟨[20], [], [21], [(.slot 23)]⟩ :: ⟨[21], [], [22], [(.slot 24)]⟩ :: ⟨[21], [], [23], [(.slot 25)]⟩ :: ⟨[21], [], [24], [(.slot 26)]⟩ :: ⟨[24], [], [25], [(.slot 2)]⟩ :: [])) (es' := [(2, .v (.bool false))]) (by kernel_rfl) rfl rfl
     ⟨st_plain rfl (op_move _ _ _ _ rfl rfl),
     st_plain rfl (op_bin _ _ _ _ _ rfl rfl rfl),
     st_plain rfl (op_move _ _ _ _ (congrArg (fun b => AV.v (Value.bool b)) hg1_2) rfl),
     st_skip 2 5 _ true rfl rfl rfl rfl (List.Mem.head _),
     st_skip 2 5 _ true rfl rfl rfl rfl (List.Mem.head _),
     st_skip 2 5 _ true rfl rfl rfl rfl (List.Mem.head _),
     st_plain rfl (op_pick _ _ false _ rfl rfl),
     st_plain rfl (op_move _ _ _ _ rfl rfl),
     st_skip 7 10 _ true rfl rfl rfl rfl (List.Mem.head _),
     st_skip 7 10 _ true rfl rfl rfl rfl (List.Mem.head _),
     st_skip 7 10 _ true rfl rfl rfl rfl (List.Mem.head _),
     st_plain rfl (op_pick _ _ false _ rfl rfl),
     st_plain rfl (op_move _ _ _ _ rfl rfl),
     st_skip 12 15 _ true rfl rfl rfl rfl (List.Mem.head _),
     st_skip 12 15 _ true rfl rfl rfl rfl (List.Mem.head _),
     st_skip 12 15 _ true rfl rfl rfl rfl (List.Mem.head _),
     st_skip 12 15 _ true rfl rfl rfl rfl (List.Mem.head _),
     st_skip 12 15 _ true rfl rfl rfl rfl (List.Mem.head _),
     st_skip 12 15 _ true rfl rfl rfl rfl (List.Mem.head _),
     st_plain rfl (op_pick _ _ false _ rfl rfl),
     st_plain rfl (op_move _ _ _ _ rfl rfl),
     st_skip 20 23 _ true rfl rfl rfl rfl (List.Mem.head _),
     st_skip 20 23 _ true rfl rfl rfl rfl (List.Mem.head _),
     st_plain rfl (op_pick _ _ false _ rfl rfl),
     st_plain rfl (op_assign _ _ _ _ rfl rfl),
     trivial⟩ ?_
    exact hl7 _ (Option.some.inj h).symm
set_option maxHeartbeats 1000000 in
theorem ok_path_dotted_of_path_label (mx : Int) (s : ByteArray) (r : Bool) (h : Sh.path_dotted_of_path_label s = some r) : FnG Tryd.prog (GL mx) 39 [.v (.string s), .v (.func (.func 40) #[] #[])] (.v (.bool r)) := by
  unfold Sh.path_dotted_of_path_label at h
  refine fn_okG Tryd.func39 rfl (Nat.le_of_ble_eq_true rfl) rfl rfl fun g0 hn hio => ?_
  refine ht_seq ?_
  refine ht_seqR hn (El := [_, _, _, (3, .box 43 [.v (.func (.func 40) #[] #[])]), (4, .box 4 [.v (.bool false)])]) (init := [0, 1, 2]) (fin := [0, 2, 3, 4]) (sps := [⟨[1], [], [3], [(.slot 3)]⟩, ⟨[], [], [4], [(.slot 4)]⟩]) (es' := [(_, _), (_, _), (3, .box 43 [.v (.func (.func 40) #[] #[])]), (4, .box 4 [.v (.bool false)])]) (by kernel_rfl) rfl rfl
   ⟨st_plain rfl (op_box _ _ _ _ rfl rfl rfl),
   st_plain rfl (op_alloc _ _ zr4),
   trivial⟩ ?_
  refine pt_then ?_
  refine ht_seq ?_
  refine ht_seq ?_
  obtain ⟨v1, hv1, h⟩ := bind_some h
  refine ht_seqR hn (El := [_, _, _, _, (6, .v (.string s)), (7, .cloB 71 [.box 9 [.v (.string v1.1)], .box 9 [.v (.string v1.2.1)], .box 3 [.v (.int .i64 v1.2.2)]])]) (init := [0, 1, 2, 3]) (fin := [1, 2, 3, 5]) (sps := [⟨[0], [], [4], [(.slot 6)]⟩, ⟨[4], [], [5], [(.slot 7)]⟩]) (es' := [(_, _), (_, _), (_, _), (7, .cloB 71 [.box 9 [.v (.string v1.1)], .box 9 [.v (.string v1.2.1)], .box 3 [.v (.int .i64 v1.2.2)]])]) (by kernel_rfl) rfl rfl
   ⟨st_plain rfl (op_move _ _ _ _ rfl rfl),
   st_plain rfl (op_callS _ _ 47 _ _ rfl Tryd.call47 rfl rfl (ok_strings_SplitSeq s (⟨#[46]⟩ : ByteArray) _ hv1) rfl),
   trivial⟩ ?_
  refine pt_then ?_
  refine ht_block ?_
  refine ht_pick [3, 0, 1, 2] (by kernel_rfl) (es' := [(7, .cloB 71 [.box 9 [.v (.string v1.1)], .box 9 [.v (.string v1.2.1)], .box 3 [.v (.int .i64 v1.2.2)]]), (13, .glob (GL mx)), (3, .box 43 [.v (.func (.func 40) #[] #[])]), (4, .box 4 [.v (.bool false)])]) rfl ?_
  refine ht_rangeF h 71 7 8 14 _ [13, 3, 4] Tryd.call71 (fun (() : Unit) => [(13, .glob (GL mx)), (3, .box 43 [.v (.func (.func 40) #[] #[])]), (4, .box 4 [.v (.bool false)])]) (fun (() : Unit) => [(13, .glob (GL mx)), (3, .box 43 [.v (.func (.func 40) #[] #[])]), (4, .box 4 [.v (.bool false)])]) (fun l J Y hY t t' h => ok_strings_splitSeq_1 mx l J Y hY v1.1 v1.2.1 v1.2.2 t t' h) hn rfl (fun _ => rfl) (fun _ => rfl) (fun _ => rfl) rfl rfl (fun _ => ⟨rfl, rfl⟩) rfl (glIn_look 13 rfl) ?_ ?_ ?_
  ·rintro kk g0 hn hio x ⟨⟩ u h
   refine ht_es (es' := [(8, .v (.string x)), (13, .glob (GL mx)), (3, .box 43 [.v (.func (.func 40) #[] #[])]), (4, .box 4 [.v (.bool false)]), (13, .v (kk.tm.getD 13 undef)), (3, .v (kk.tm.getD 3 undef)), (4, .v (kk.tm.getD 4 undef)), (14, .inv kk.ready)]) rfl ?_
   refine ht_seqR hn (El := [_, _, _, _, _, _, _, _, (5, .v (.string x))]) (init := [0, 1, 2, 3, 4, 5, 6, 7]) (fin := [1, 2, 3, 4, 5, 6, 7, 8]) (sps := [⟨[0], [], [8], [(.slot 5)]⟩]) (es' := [(_, _), (_, _), (_, _), (_, _), (_, _), (_, _), (_, _), (5, .v (.string x))]) (by kernel_rfl) rfl rfl
    ⟨st_plain rfl (op_assign _ _ _ _ rfl rfl),
    trivial⟩ ?_
   refine pt_pick [0, 1, 2, 3, 4, 5, 7, 6] (by kernel_rfl) (es' := [(13, .glob (GL mx)), (3, .box 43 [.v (.func (.func 40) #[] #[])]), (4, .box 4 [.v (.bool false)]), (13, .v (kk.tm.getD 13 undef)), (3, .v (kk.tm.getD 3 undef)), (4, .v (kk.tm.getD 4 undef)), (5, .v (.string x)), (14, .inv kk.ready)]) rfl ?_
   refine pt_begin (es := [(13, .glob (GL mx)), (3, .box 43 [.v (.func (.func 40) #[] #[])]), (4, .box 4 [.v (.bool false)]), (13, .v (kk.tm.getD 13 undef)), (3, .v (kk.tm.getD 3 undef)), (4, .v (kk.tm.getD 4 undef)), (5, .v (.string x))]) 14 rfl ?_
   refine ht_block ?_
   refine ht_seq ?_
   obtain ⟨v2, hv2, h⟩ := bind_some h
   refine ht_seqR hn (El := [_, _, _, _, _, _, _, _, (9, .v (.func (.func 40) #[] #[])), (10, .v (.string x)), (11, .v (.bool v2)), (12, .v (.bool (!v2)))]) (init := [0, 1, 2, 3, 4, 5, 6, 7]) (fin := [0, 1, 2, 3, 4, 5, 7, 11]) (sps := [⟨[1], [], [8], [(.slot 9)]⟩, ⟨[6], [], [9], [(.slot 10)]⟩, ⟨[9, 8], [], [10], [(.slot 11)]⟩, ⟨[10], [], [11], [(.slot 12)]⟩]) (es' := [(_, _), (_, _), (_, _), (_, _), (_, _), (_, _), (_, _), (12, .v (.bool (!v2)))]) (by kernel_rfl) rfl rfl
    ⟨st_plain rfl (op_load _ _ _ _ _ _ Tryd.underlying43 rfl rfl rfl (Nat.le_of_ble_eq_true rfl) rfl rfl rfl),
    st_plain rfl (op_move _ _ _ _ rfl rfl),
    st_plain rfl (op_call _ _ 40 _ _ rfl Tryd.call40 rfl (ok_path_label x _ hv2) rfl rfl),
    st_plain rfl (op_un _ _ _ _ rfl rfl),
    trivial⟩ ?_
   refine pt_then ?_
   refine ht_cond _ rfl (fun hb5 => ?_) (fun hb5 => ?_)
   ·have h := cond_t hb5 h
    refine ht_seq ?_
    refine ht_seqR hn (El := [_, _, _, _, _, _, _, _, (4, .box 4 [.v (.bool false)])]) (init := [0, 1, 2, 3, 4, 5, 6, 7]) (fin := [0, 1, 8, 3, 4, 5, 6]) (sps := [⟨[], [2], [8], [.cell 4 0]⟩]) (es' := [(_, _), (_, _), (4, .box 4 [.v (.bool false)]), (_, _), (_, _), (_, _), (_, _)]) (by kernel_rfl) rfl rfl
     ⟨st_plain rfl (op_store _ _ _ _ _ _ _ _ sz4 rfl rfl rfl rfl (Nat.le_of_ble_eq_true rfl) rfl rfl),
     trivial⟩ ?_
    refine pt_then ?_
    refine ht_ret ?_
    refine pt_r_in ?_
    obtain rfl := Option.some.inj h
    exact pt_rret 14 [13, 3, 4] _ rfl rfl (by kernel_rfl)
   ·have h := cond_f hb5 h
    refine ht_skip ?_
    refine pt_inb ?_
    refine pt_pick [0, 1, 2, 3, 4, 5, 6] (by kernel_rfl) (es' := [(_, _), (_, _), (_, _), (_, _), (_, _), (_, _), (_, _)]) rfl ?_
    obtain rfl := Option.some.inj h
    exact pt_rnext 14 [13, 3, 4] _ rfl rfl (by kernel_rfl)
  ·rintro D ⟨⟩ h
   refine pt_inb ?_
   refine pt_then ?_
   refine ht_seq ?_
   refine ht_seqR hn (El := [_, _, _, (4, .box 4 [.v (.bool true)])]) (init := [0, 1, 2]) (fin := [0, 3]) (sps := [⟨[], [2], [3], [.cell 4 0]⟩]) (es' := [(_, _), (4, .box 4 [.v (.bool true)])]) (by kernel_rfl) rfl rfl
    ⟨st_plain rfl (op_store _ _ _ _ _ _ _ _ sz4 rfl rfl rfl rfl (Nat.le_of_ble_eq_true rfl) rfl rfl),
    trivial⟩ ?_
   refine pt_then ?_
   refine ht_ret ?_
   refine pt_pick [1] (by kernel_rfl) (es' := [(_, _)]) rfl ?_
   obtain rfl := Option.some.inj h
   exact pt_ret hio rfl (.cell1 _ _ _ _ Tryd.underlying4 rfl .nil) rfl rfl
  ·rintro D ⟨⟩ h
   refine pt_pick [2] (by kernel_rfl) (es' := [(_, _)]) rfl ?_
   refine pt_r_in ?_
   refine pt_r_then ?_
   obtain rfl := Option.some.inj h
   exact pt_ret hio rfl (.cell1 _ _ _ _ Tryd.underlying4 rfl .nil) rfl rfl
set_option maxHeartbeats 1000000 in
theorem ok_path_Domain (mx : Int) (s : ByteArray) (r : Bool) (h : Sh.path_Domain s = some r) : FnG Tryd.prog (GL mx) 34 [.v (.string s)] (.v (.bool r)) := by
  unfold Sh.path_Domain at h
  refine fn_okG Tryd.func34 rfl (Nat.le_of_ble_eq_true rfl) rfl rfl fun g0 hn hio => ?_
  refine ht_seq ?_
  refine ht_seqR hn (El := [_, _, (2, .v (.bool false))]) (init := [0, 1]) (fin := [0, 1]) (sps := [⟨[], [], [2], [(.slot 2)]⟩]) (es' := [(_, _), (_, _)]) (by kernel_rfl) rfl rfl
   ⟨st_plain rfl (op_assign _ _ _ _ rfl rfl),
   trivial⟩ ?_
  refine pt_then ?_
  refine ht_seq ?_
  refine ht_joinS h (fun (s2 : Bool) => [(10, .glob (GL mx)), (2, .v (.bool s2))]) ?_ ?_
  ·rintro s2 h
   refine pt_then ?_
   refine ht_ret ?_
   refine pt_pick [1] (by kernel_rfl) (es' := [(_, _)]) rfl ?_
   obtain rfl := Option.some.inj h
   exact pt_ret hio rfl (.tmp _ _ .nil) rfl rfl
  ·intro u3 h hl4 hr5
   refine cond_some h (fun hg1_3 h => ?_) (fun hg1_3 h => ?_)
   ·obtain ⟨v1, hv1, h⟩ := bind_some h
    refine ht_seqR hn (El := [_, _, (3, .v (.string s)), (4, .v (.int .i64 (s.size : Int))), (5, .v (.bool ((decide ((s.size : Int) ≤ 255))))), (6, .v (.bool true)), (7, .v (.string s)), (8, .v (.bool v1)), (9, .v (.bool v1)), (2, .v (.bool v1))]) (init := [0, 1]) (fin := [1, 9]) (sps := [⟨[0], [], [2], [(.slot 3)]⟩, ⟨[2], [], [3], [(.slot 4)]⟩, ⟨[3], [], [4], [(.slot 5)]⟩, ⟨[4], [], [5], [(.slot 6)]⟩, ⟨[5, 0], [], [6], [(.slot 7)]⟩, ⟨[5, 6, 1], [], [7], [(.slot 8)]⟩, ⟨[5, 7], [], [8], [(.slot 9)]⟩, ⟨[8], [], [9], [(.slot 2)]⟩]) (es' := [(_, _), (2, .v (.bool v1))]) (by kernel_rfl) rfl rfl
     ⟨st_plain rfl (op_move _ _ _ _ rfl rfl),
     st_plain rfl (op_len_str _ _ _ Tryd.underlying9 rfl),
     st_plain rfl (op_bin _ _ _ _ _ rfl rfl rfl),
     st_plain rfl (op_move _ _ _ _ (congrArg (fun b => AV.v (Value.bool b)) hg1_3) rfl),
     st_run 3 6 true rfl rfl rfl (List.Mem.head _) (op_move _ _ _ _ rfl rfl),
     st_run 3 6 true rfl rfl rfl (List.Mem.head _) (op_callG _ _ 10 39 _ _ rfl Tryd.call39 rfl rfl (fun _ h => h) (ok_path_dotted_of_path_label mx s _ hv1) rfl rfl),
     st_plain rfl (op_pick _ _ true _ rfl rfl),
     st_plain rfl (op_assign _ _ _ _ rfl rfl),
     trivial⟩ ?_
    exact hl4 _ (Option.some.inj h).symm
   ·refine ht_seqR hn (El := [_, _, (3, .v (.string s)), (4, .v (.int .i64 (s.size : Int))), (5, .v (.bool ((decide ((s.size : Int) ≤ 255))))), (6, .v (.bool false)), (7, .v undef), (8, .v undef), (9, .v (.bool false)), (2, .v (.bool false))]) (init := [0, 1]) (fin := [1, 9]) (sps := [⟨[0], [], [2], [(.slot 3)]⟩, ⟨[2], [], [3], [(.slot 4)]⟩, ⟨[3], [], [4], [(.slot 5)]⟩, ⟨[4], [], [5], [(.slot 6)]⟩, ⟨[5], [], [6], [(.slot 7)]⟩, ⟨[5], [], [7], [(.slot 8)]⟩, ⟨[5], [], [8], [(.slot 9)]⟩, ⟨[8], [], [9], [(.slot 2)]⟩]) (es' := [(_, _), (2, .v (.bool false))]) (by kernel_rfl) rfl rfl
     ⟨st_plain rfl (op_move _ _ _ _ rfl rfl),
     st_plain rfl (op_len_str _ _ _ Tryd.underlying9 rfl),
     st_plain rfl (op_bin _ _ _ _ _ rfl rfl rfl),
     st_plain rfl (op_move _ _ _ _ (congrArg (fun b => AV.v (Value.bool b)) hg1_3) rfl),
     st_skip 3 6 _ true rfl rfl rfl rfl (List.Mem.head _),
     st_skip 3 6 _ true rfl rfl rfl rfl (List.Mem.head _),
     st_plain rfl (op_pick _ _ false _ rfl rfl),
     st_plain rfl (op_assign _ _ _ _ rfl rfl),
     trivial⟩ ?_
    exact hl4 _ (Option.some.inj h).symm
set_option maxHeartbeats 1000000 in
theorem ok_verb_otherMechanism (mx : Int) (line : ByteArray) (r : Bool) (h : Sh.verb_otherMechanism line = some r) : FnG Tryd.prog (GL mx) 18 [.v (.string line)] (.v (.bool r)) := by
  unfold Sh.verb_otherMechanism at h
  refine fn_okG Tryd.func18 rfl (Nat.le_of_ble_eq_true rfl) rfl rfl fun g0 hn hio => ?_
  refine ht_seq ?_
  refine ht_seqR hn (El := [_, _, (2, .v (.bool false))]) (init := [0, 1]) (fin := [0, 1]) (sps := [⟨[], [], [2], [(.slot 2)]⟩]) (es' := [(_, _), (_, _)]) (by kernel_rfl) rfl rfl
   ⟨st_plain rfl (op_assign _ _ _ _ rfl rfl),
   trivial⟩ ?_
  refine pt_then ?_
  refine ht_seq ?_
  obtain ⟨v1, hv1, h⟩ := bind_some h
  refine ht_seqR hn (El := [_, _, (7, .v (.string line)), (8, .tup [.v (.string v1.1), .v (.bool v1.2)]), (6, .tup [.v (.string v1.1), .v (.bool v1.2)]), (9, .v (.string v1.1)), (10, .v (.bool v1.2)), (3, .v (.string v1.1)), (4, .v (.bool v1.2))]) (init := [0, 1]) (fin := [1, 7, 8]) (sps := [⟨[0], [], [2], [(.slot 7)]⟩, ⟨[2], [], [3], [(.slot 8)]⟩, ⟨[], [3], [4], [(.slot 6)]⟩, ⟨[4], [], [5], [(.slot 9)]⟩, ⟨[4], [], [6], [(.slot 10)]⟩, ⟨[5], [], [7], [(.slot 3)]⟩, ⟨[6], [], [8], [(.slot 4)]⟩]) (es' := [(_, _), (3, .v (.string v1.1)), (4, .v (.bool v1.2))]) (by kernel_rfl) rfl rfl
   ⟨st_plain rfl (op_move _ _ _ _ rfl rfl),
   st_plain rfl (op_call _ _ 32 _ _ rfl Tryd.call32 rfl (ok_verb_cutFold line (⟨#[65, 85, 84, 72, 32]⟩ : ByteArray) _ hv1) rfl rfl),
   st_plain rfl (op_move_take _ _ _ _ rfl),
   st_plain rfl (op_extract _ _ _ _ _ rfl rfl (Nat.le_of_ble_eq_true rfl) rfl rfl),
   st_plain rfl (op_extract _ _ _ _ _ rfl rfl (Nat.le_of_ble_eq_true rfl) rfl rfl),
   st_plain rfl (op_assign _ _ _ _ rfl rfl),
   st_plain rfl (op_assign _ _ _ _ rfl rfl),
   trivial⟩ ?_
  refine pt_then ?_
  refine ht_seq ?_
  refine ht_seq ?_
  refine ht_joinS h (fun (s3 : Bool) => [(40, .glob (GL mx)), (3, .v (.string v1.1)), (20, .v (.bool s3))]) ?_ ?_
  ·rintro s3 h
   refine pt_then ?_
   refine ht_cond _ rfl (fun hb7 => ?_) (fun hb7 => ?_)
   ·have h := cond_t hb7 h
    refine ht_seq ?_
    refine ht_seqR hn (El := [_, _, _, (2, .v (.bool false))]) (init := [0, 1, 2]) (fin := [0, 3]) (sps := [⟨[], [], [3], [(.slot 2)]⟩]) (es' := [(_, _), (2, .v (.bool false))]) (by kernel_rfl) rfl rfl
     ⟨st_plain rfl (op_assign _ _ _ _ rfl rfl),
     trivial⟩ ?_
    refine pt_then ?_
    refine ht_ret ?_
    refine pt_pick [1] (by kernel_rfl) (es' := [(_, _)]) rfl ?_
    refine pt_r_then ?_
    obtain rfl := Option.some.inj h
    exact pt_ret hio rfl (.tmp _ _ .nil) rfl rfl
   ·have h := cond_f hb7 h
    refine ht_skip ?_
    refine pt_then ?_
    refine ht_seq ?_
    refine ht_seq ?_
    refine ht_seqR hn (El := [_, _, _, (21, .v (.string v1.1)), (22, .v (.int .i64 (v1.1.size : Int))), (23, .v (.int .i64 0))]) (init := [0, 1, 2]) (fin := [0, 1, 4, 5]) (sps := [⟨[1], [], [3], [(.slot 21)]⟩, ⟨[3], [], [4], [(.slot 22)]⟩, ⟨[], [], [5], [(.slot 23)]⟩]) (es' := [(_, _), (_, _), (22, .v (.int .i64 (v1.1.size : Int))), (23, .v (.int .i64 0))]) (by kernel_rfl) rfl rfl
     ⟨st_plain rfl (op_move _ _ _ _ rfl rfl),
     st_plain rfl (op_len_str _ _ _ Tryd.underlying9 rfl),
     st_plain rfl (op_move _ _ _ _ rfl rfl),
     trivial⟩ ?_
    refine pt_then ?_
    refine ht_loopS h (fun (s26 : Int) => [(40, .glob (GL mx)), (3, .v (.string v1.1)), (22, .v (.int .i64 (v1.1.size : Int))), (23, .v (.int .i64 s26))]) (fun (() : Unit) => [(40, .glob (GL mx))]) ?_ ?_
    ·rintro ⟨⟩ h
     refine pt_then ?_
     refine ht_seq ?_
     refine ht_seqR hn (El := [_, (2, .v (.bool true))]) (init := [0]) (fin := [0, 1]) (sps := [⟨[], [], [1], [(.slot 2)]⟩]) (es' := [(_, _), (2, .v (.bool true))]) (by kernel_rfl) rfl rfl
      ⟨st_plain rfl (op_assign _ _ _ _ rfl rfl),
      trivial⟩ ?_
     refine pt_then ?_
     refine ht_ret ?_
     refine pt_pick [1] (by kernel_rfl) (es' := [(_, _)]) rfl ?_
     obtain rfl := Option.some.inj h
     exact pt_ret hio rfl (.tmp _ _ .nil) rfl rfl
    ·rintro u33 hl34 hr35 s26 rr38 h ho36
     refine ht_seq ?_
     refine ht_seqR hn (El := [_, _, _, _, (24, .v (.bool ((decide (s26 < (v1.1.size : Int))))))]) (init := [0, 1, 2, 3]) (fin := [0, 1, 2, 3, 4]) (sps := [⟨[3, 2], [], [4], [(.slot 24)]⟩]) (es' := [(_, _), (_, _), (_, _), (_, _), (24, .v (.bool ((decide (s26 < (v1.1.size : Int))))))]) (by kernel_rfl) rfl rfl
      ⟨st_plain rfl (op_bin _ _ _ _ _ rfl rfl rfl),
      trivial⟩ ?_
     refine pt_then ?_
     refine ht_seq ?_
     refine ht_cond _ rfl (fun hb39 => ?_) (fun hb39 => ?_)
     ·have h := cond_t hb39 h
      refine ht_skip ?_
      refine pt_then ?_
      refine ht_seq ?_
      refine ht_block ?_
      refine ht_seq ?_
      refine ht_seqR hn (El := [_, _, _, _, _, (25, .v (.int .i64 s26)), (5, .v (.int .i64 s26))]) (init := [0, 1, 2, 3, 4]) (fin := [0, 1, 2, 3, 6]) (sps := [⟨[3], [], [5], [(.slot 25)]⟩, ⟨[5], [], [6], [(.slot 5)]⟩]) (es' := [(_, _), (_, _), (_, _), (_, _), (5, .v (.int .i64 s26))]) (by kernel_rfl) rfl rfl
       ⟨st_plain rfl (op_move _ _ _ _ rfl rfl),
       st_plain rfl (op_assign _ _ _ _ rfl rfl),
       trivial⟩ ?_
      refine pt_then ?_
      refine ht_seq ?_
      refine ht_joinS h (fun (s40 : Bool) => [(40, .glob (GL mx)), (3, .v (.string v1.1)), (22, .v (.int .i64 (v1.1.size : Int))), (23, .v (.int .i64 s26)), (38, .v (.bool s40))]) ?_ ?_
      ·rintro s40 h
       refine pt_then ?_
       refine ht_cond _ rfl (fun hb44 => ?_) (fun hb44 => ?_)
       ·have h := cond_t hb44 h
        refine ht_seq ?_
        refine ht_seqR hn (El := [_, _, _, _, _, (2, .v (.bool false))]) (init := [0, 1, 2, 3, 4]) (fin := [0, 5]) (sps := [⟨[], [], [5], [(.slot 2)]⟩]) (es' := [(_, _), (2, .v (.bool false))]) (by kernel_rfl) rfl rfl
         ⟨st_plain rfl (op_assign _ _ _ _ rfl rfl),
         trivial⟩ ?_
        refine pt_then ?_
        refine ht_ret ?_
        refine pt_pick [1] (by kernel_rfl) (es' := [(_, _)]) rfl ?_
        refine pt_r_in ?_
        refine pt_r_then ?_
        refine pt_r_then ?_
        refine pt_r_in ?_
        refine pt_r_then ?_
        have h := hr35 _ (ho36 _ (Option.some.inj h).symm).symm
        obtain rfl := Option.some.inj h
        exact pt_ret hio rfl (.tmp _ _ .nil) rfl rfl
       ·have h := cond_f hb44 h
        refine ht_skip ?_
        refine pt_inb ?_
        refine pt_then ?_
        obtain ⟨v18, hv18, h⟩ := bind_some h
        refine ht_seqR hn (El := [_, _, _, _, _, (39, .v (.int .i64 v18)), (23, .v (.int .i64 v18))]) (init := [0, 1, 2, 3, 4]) (fin := [0, 1, 2, 6]) (sps := [⟨[3], [], [5], [(.slot 39)]⟩, ⟨[5], [3], [6], [(.slot 23)]⟩]) (es' := [(_, _), (_, _), (_, _), (23, .v (.int .i64 v18))]) (by kernel_rfl) rfl rfl
         ⟨st_plain rfl (op_bin _ _ _ _ _ rfl rfl (ibind (f := Value.int .i64) (Option.some.inj hv18))),
         st_plain rfl (LOp.drop [_] (op_move _ _ _ _ rfl rfl)),
         trivial⟩ ?_
        exact pt_next _ (Option.some.inj h).symm rfl
      ·intro u41 h hl42 hr43
       obtain ⟨v9, hv9, h⟩ := bind_some h
       refine cond_some h (fun hg7_4 h => ?_) (fun hg7_4 h => ?_)
       ·obtain ⟨v10, hv10, h⟩ := bind_some h
        obtain ⟨v11, hv11, h⟩ := bind_some h
        obtain ⟨v12, hv12, h⟩ := bind_some h
        refine ht_seqR hn (El := (_ :: _ :: _ :: _ :: _ :: (26, .v (.string v1.1)) :: (27, .v (.int .i64 s26)) :: (28, .v (.int .u8 v9)) :: (29, .v (.bool (v9 != 45))) :: (30, .v (.bool true)) :: (31, .v (.string v1.1)) :: (32, .v (.int .i64 s26)) :: (33, .v (.int .i64 s26)) :: (34, .v (.int .i64 v10)) :: (35, .v (.string v11)) :: (36, .v (.bool v12)) :: (37, .v (.bool (!v12))) :: (38, .v (.bool (!v12))) :: [])) (init := [0, 1, 2, 3, 4]) (fin := [0, 1, 2, 3, 17]) (sps := [⟨[1], [], [5], [(.slot 26)]⟩, ⟨[4], [], [6], [(.slot 27)]⟩, ⟨[5, 6], [], [7], [(.slot 28)]⟩, ⟨[7], [], [8], [(.slot 29)]⟩, ⟨[8], [], [9], [(.slot 30)]⟩, ⟨[9, 1], [], [10], [(.slot 31)]⟩, ⟨[9, 4], [], [11], [(.slot 32)]⟩, ⟨[9, 4], [], [12], [(.slot 33)]⟩, ⟨[9, 12], [], [13], [(.slot 34)]⟩, ⟨[9, 10, 11, 13], [], [14], [(.slot 35)]⟩, ⟨[9, 14, 0], [], [15], [(.slot 36)]⟩, ⟨[9, 15], [], [16], [(.slot 37)]⟩, ⟨[9, 16], [], [17], [(.slot 38)]⟩]) (es' := [(_, _), (_, _), (_, _), (_, _), (38, .v (.bool (!v12)))]) (by kernel_rfl) rfl rfl
         ⟨st_plain rfl (op_move _ _ _ _ rfl rfl),
         st_plain rfl (op_move _ _ _ _ rfl rfl),
         st_plain rfl (op_chr _ _ _ s26 _ Tryd.underlying9 rfl rfl hv9),
         st_plain rfl (op_bin _ _ _ _ _ rfl rfl rfl),
         st_plain rfl (op_move _ _ _ _ (congrArg (fun b => AV.v (Value.bool b)) hg7_4) rfl),
         st_run 4 30 true rfl rfl rfl (List.Mem.head _) (op_move _ _ _ _ rfl rfl),
         st_run 4 30 true rfl rfl rfl (List.Mem.head _) (op_move _ _ _ _ rfl rfl),
         st_run 4 30 true rfl rfl rfl (List.Mem.head _) (op_move _ _ _ _ rfl rfl),
         st_run 4 30 true rfl rfl rfl (List.Mem.head _) (op_bin _ _ _ _ _ rfl rfl (ibind (f := Value.int .i64) (Option.some.inj hv10))),
         st_run 4 30 true rfl rfl rfl (List.Mem.head _) (op_substr _ _ _ s26 v10 _ Tryd.underlying9 rfl ⟨_, rfl⟩ ⟨_, rfl⟩ hv11),
         st_run 4 30 true rfl rfl rfl (List.Mem.head _) (op_callG _ _ 40 34 _ _ rfl Tryd.call34 rfl rfl (fun _ h => h) (ok_path_Domain mx v11 _ hv12) rfl rfl),
         st_run 4 30 true rfl rfl rfl (List.Mem.head _) (op_un _ _ _ _ rfl rfl),
         st_plain rfl (op_pick _ _ true _ rfl rfl),
         trivial⟩ ?_
        exact hl42 _ (Option.some.inj h).symm
       ·refine ht_seqR hn (El := (_ :: _ :: _ :: _ :: _ :: (26, .v (.string v1.1)) :: (27, .v (.int .i64 s26)) :: (28, .v (.int .u8 v9)) :: (29, .v (.bool (v9 != 45))) :: (30, .v (.bool false)) :: (31, .v undef) :: (32, .v undef) :: (33, .v undef) :: (34, .v undef) :: (35, .v undef) :: (36, .v undef) :: (37, .v undef) :: (38, .v (.bool false)) :: [])) (init := [0, 1, 2, 3, 4]) (fin := [0, 1, 2, 3, 17]) (sps := [⟨[1], [], [5], [(.slot 26)]⟩, ⟨[4], [], [6], [(.slot 27)]⟩, ⟨[5, 6], [], [7], [(.slot 28)]⟩, ⟨[7], [], [8], [(.slot 29)]⟩, ⟨[8], [], [9], [(.slot 30)]⟩, ⟨[9], [], [10], [(.slot 31)]⟩, ⟨[9], [], [11], [(.slot 32)]⟩, ⟨[9], [], [12], [(.slot 33)]⟩, ⟨[9], [], [13], [(.slot 34)]⟩, ⟨[9], [], [14], [(.slot 35)]⟩, ⟨[9], [], [15], [(.slot 36)]⟩, ⟨[9], [], [16], [(.slot 37)]⟩, ⟨[9], [], [17], [(.slot 38)]⟩]) (es' := [(_, _), (_, _), (_, _), (_, _), (38, .v (.bool false))]) (by kernel_rfl) rfl rfl
         ⟨st_plain rfl (op_move _ _ _ _ rfl rfl),
         st_plain rfl (op_move _ _ _ _ rfl rfl),
         st_plain rfl (op_chr _ _ _ s26 _ Tryd.underlying9 rfl rfl hv9),
         st_plain rfl (op_bin _ _ _ _ _ rfl rfl rfl),
         st_plain rfl (op_move _ _ _ _ (congrArg (fun b => AV.v (Value.bool b)) hg7_4) rfl),
         st_skip 4 30 _ true rfl rfl rfl rfl (List.Mem.head _),
         st_skip 4 30 _ true rfl rfl rfl rfl (List.Mem.head _),
         st_skip 4 30 _ true rfl rfl rfl rfl (List.Mem.head _),
         st_skip 4 30 _ true rfl rfl rfl rfl (List.Mem.head _),
         st_skip 4 30 _ true rfl rfl rfl rfl (List.Mem.head _),
         st_skip 4 30 _ true rfl rfl rfl rfl (List.Mem.head _),
         st_skip 4 30 _ true rfl rfl rfl rfl (List.Mem.head _),
         st_plain rfl (op_pick _ _ false _ rfl rfl),
         trivial⟩ ?_
        exact hl42 _ (Option.some.inj h).symm
     ·have h := cond_f hb39 h
      refine ht_exit ?_
      refine pt_x_then ?_
      refine pt_x_then ?_
      refine pt_x_in ?_
      refine pt_pick [0] (by kernel_rfl) (es' := [(_, _)]) rfl ?_
      exact hl34 _ (ho36 _ (Option.some.inj h).symm).symm
  ·intro u4 h hl5 hr6
   refine cond_some h (fun hg2_2 h => ?_) (fun hg2_2 h => ?_)
   ·refine ht_seqR hn (El := [_, _, _, (11, .v (.bool v1.2)), (12, .v (.bool (!v1.2))), (13, .v (.bool true)), (14, .v undef), (15, .v undef), (16, .v (.bool true)), (17, .v (.bool true)), (18, .v undef), (19, .v undef), (20, .v (.bool true))]) (init := [0, 1, 2]) (fin := [0, 1, 12]) (sps := [⟨[2], [], [3], [(.slot 11)]⟩, ⟨[3], [], [4], [(.slot 12)]⟩, ⟨[4], [], [5], [(.slot 13)]⟩, ⟨[5], [], [6], [(.slot 14)]⟩, ⟨[5], [], [7], [(.slot 15)]⟩, ⟨[5], [], [8], [(.slot 16)]⟩, ⟨[8], [], [9], [(.slot 17)]⟩, ⟨[9], [], [10], [(.slot 18)]⟩, ⟨[9], [], [11], [(.slot 19)]⟩, ⟨[9], [], [12], [(.slot 20)]⟩]) (es' := [(_, _), (_, _), (20, .v (.bool true))]) (by kernel_rfl) rfl rfl
     ⟨st_plain rfl (op_move _ _ _ _ rfl rfl),
     st_plain rfl (op_un _ _ _ _ rfl rfl),
     st_plain rfl (op_move _ _ _ _ (congrArg (fun b => AV.v (Value.bool b)) hg2_2) rfl),
     st_skip 2 13 _ false rfl rfl rfl rfl (List.Mem.head _),
     st_skip 2 13 _ false rfl rfl rfl rfl (List.Mem.head _),
     st_plain rfl (op_pick _ _ true _ rfl rfl),
     st_plain rfl (op_move _ _ _ _ rfl rfl),
     st_skip 6 17 _ false rfl rfl rfl rfl (List.Mem.head _),
     st_skip 6 17 _ false rfl rfl rfl rfl (List.Mem.head _),
     st_plain rfl (op_pick _ _ true _ rfl rfl),
     trivial⟩ ?_
    exact hl5 _ (Option.some.inj h).symm
   ·refine cond_some h (fun hg2_6 h => ?_) (fun hg2_6 h => ?_)
    ·refine ht_seqR hn (El := [_, _, _, (11, .v (.bool v1.2)), (12, .v (.bool (!v1.2))), (13, .v (.bool false)), (14, .v (.string v1.1)), (15, .v (.bool ((v1.1.toList == (⟨#[]⟩ : ByteArray).toList)))), (16, .v (.bool ((v1.1.toList == (⟨#[]⟩ : ByteArray).toList)))), (17, .v (.bool true)), (18, .v undef), (19, .v undef), (20, .v (.bool true))]) (init := [0, 1, 2]) (fin := [0, 1, 12]) (sps := [⟨[2], [], [3], [(.slot 11)]⟩, ⟨[3], [], [4], [(.slot 12)]⟩, ⟨[4], [], [5], [(.slot 13)]⟩, ⟨[5, 1], [], [6], [(.slot 14)]⟩, ⟨[5, 6], [], [7], [(.slot 15)]⟩, ⟨[5, 7], [], [8], [(.slot 16)]⟩, ⟨[8], [], [9], [(.slot 17)]⟩, ⟨[9], [], [10], [(.slot 18)]⟩, ⟨[9], [], [11], [(.slot 19)]⟩, ⟨[9], [], [12], [(.slot 20)]⟩]) (es' := [(_, _), (_, _), (20, .v (.bool true))]) (by kernel_rfl) rfl rfl
      ⟨st_plain rfl (op_move _ _ _ _ rfl rfl),
      st_plain rfl (op_un _ _ _ _ rfl rfl),
      st_plain rfl (op_move _ _ _ _ (congrArg (fun b => AV.v (Value.bool b)) hg2_2) rfl),
      st_run 2 13 false rfl rfl rfl (List.Mem.head _) (op_move _ _ _ _ rfl rfl),
      st_run 2 13 false rfl rfl rfl (List.Mem.head _) (op_bin _ _ _ _ _ rfl rfl rfl),
      st_plain rfl (op_pick _ _ false _ rfl rfl),
      st_plain rfl (op_move _ _ _ _ (congrArg (fun b => AV.v (Value.bool b)) hg2_6) rfl),
      st_skip 6 17 _ false rfl rfl rfl rfl (List.Mem.head _),
      st_skip 6 17 _ false rfl rfl rfl rfl (List.Mem.head _),
      st_plain rfl (op_pick _ _ true _ rfl rfl),
      trivial⟩ ?_
     exact hl5 _ (Option.some.inj h).symm
    ·obtain ⟨v2, hv2, h⟩ := bind_some h
     refine ht_seqR hn (El := [_, _, _, (11, .v (.bool v1.2)), (12, .v (.bool (!v1.2))), (13, .v (.bool false)), (14, .v (.string v1.1)), (15, .v (.bool ((v1.1.toList == (⟨#[]⟩ : ByteArray).toList)))), (16, .v (.bool ((v1.1.toList == (⟨#[]⟩ : ByteArray).toList)))), (17, .v (.bool false)), (18, .v (.string v1.1)), (19, .v (.bool v2)), (20, .v (.bool v2))]) (init := [0, 1, 2]) (fin := [0, 1, 12]) (sps := [⟨[2], [], [3], [(.slot 11)]⟩, ⟨[3], [], [4], [(.slot 12)]⟩, ⟨[4], [], [5], [(.slot 13)]⟩, ⟨[5, 1], [], [6], [(.slot 14)]⟩, ⟨[5, 6], [], [7], [(.slot 15)]⟩, ⟨[5, 7], [], [8], [(.slot 16)]⟩, ⟨[8], [], [9], [(.slot 17)]⟩, ⟨[9, 1], [], [10], [(.slot 18)]⟩, ⟨[9, 10], [], [11], [(.slot 19)]⟩, ⟨[9, 11], [], [12], [(.slot 20)]⟩]) (es' := [(_, _), (_, _), (20, .v (.bool v2))]) (by kernel_rfl) rfl rfl
      ⟨st_plain rfl (op_move _ _ _ _ rfl rfl),
      st_plain rfl (op_un _ _ _ _ rfl rfl),
      st_plain rfl (op_move _ _ _ _ (congrArg (fun b => AV.v (Value.bool b)) hg2_2) rfl),
      st_run 2 13 false rfl rfl rfl (List.Mem.head _) (op_move _ _ _ _ rfl rfl),
      st_run 2 13 false rfl rfl rfl (List.Mem.head _) (op_bin _ _ _ _ _ rfl rfl rfl),
      st_plain rfl (op_pick _ _ false _ rfl rfl),
      st_plain rfl (op_move _ _ _ _ (congrArg (fun b => AV.v (Value.bool b)) hg2_6) rfl),
      st_run 6 17 false rfl rfl rfl (List.Mem.head _) (op_move _ _ _ _ rfl rfl),
      st_run 6 17 false rfl rfl rfl (List.Mem.head _) (op_call _ _ 33 _ _ rfl Tryd.call33 rfl (ok_verb_equalFold v1.1 (⟨#[67, 82, 65, 77, 45, 77, 68, 53]⟩ : ByteArray) _ hv2) rfl rfl),
      st_plain rfl (op_pick _ _ false _ rfl rfl),
      trivial⟩ ?_
     exact hl5 _ (Option.some.inj h).symm
set_option maxHeartbeats 1000000 in
theorem ok_verb_opening (kind : Int) (r : ByteArray) (h : Sh.verb_opening kind = some r) : FnOK Tryd.prog 27 [.v (.int .i64 kind)] (.v (.string r)) := by
  unfold Sh.verb_opening at h
  refine fn_ok Tryd.func27 rfl (Nat.le_of_ble_eq_true rfl) rfl rfl fun g0 hn hio => ?_
  refine ht_seq ?_
  refine ht_seqR hn (El := [_, (2, .v (.string (⟨#[]⟩ : ByteArray)))]) (init := [0]) (fin := [0]) (sps := [⟨[], [], [1], [(.slot 2)]⟩]) (es' := [(_, _)]) (by kernel_rfl) rfl rfl
   ⟨st_plain rfl (op_assign _ _ _ _ rfl rfl),
   trivial⟩ ?_
  refine pt_then ?_
  refine ht_seq ?_
  refine ht_seq ?_
  refine ht_seqR hn (El := [_, (3, .v (.int .i64 kind)), (4, .v (.bool (kind == 2)))]) (init := [0]) (fin := [2]) (sps := [⟨[0], [], [1], [(.slot 3)]⟩, ⟨[1], [], [2], [(.slot 4)]⟩]) (es' := [(4, .v (.bool (kind == 2)))]) (by kernel_rfl) rfl rfl
   ⟨st_plain rfl (op_move _ _ _ _ rfl rfl),
   st_plain rfl (op_bin _ _ _ _ _ rfl rfl rfl),
   trivial⟩ ?_
  refine pt_then ?_
  refine ht_cond _ rfl (fun hb1 => ?_) (fun hb1 => ?_)
  ·have h := cond_t hb1 h
   refine ht_seq ?_
   refine ht_seqR hn (El := [_, (2, .v (.string (⟨#[77, 65, 73, 76, 32, 70, 82, 79, 77, 58]⟩ : ByteArray)))]) (init := [0]) (fin := [1]) (sps := [⟨[], [], [1], [(.slot 2)]⟩]) (es' := [(2, .v (.string (⟨#[77, 65, 73, 76, 32, 70, 82, 79, 77, 58]⟩ : ByteArray)))]) (by kernel_rfl) rfl rfl
    ⟨st_plain rfl (op_assign _ _ _ _ rfl rfl),
    trivial⟩ ?_
   refine pt_then ?_
   refine ht_ret ?_
   refine pt_r_then ?_
   obtain rfl := Option.some.inj h
   exact pt_ret hio rfl (.tmp _ _ .nil) rfl rfl
  ·have h := cond_f hb1 h
   refine ht_skip ?_
   refine pt_then ?_
   refine ht_seq ?_
   refine ht_seqR hn (El := [_, (2, .v (.string (⟨#[82, 67, 80, 84, 32, 84, 79, 58]⟩ : ByteArray)))]) (init := [0]) (fin := [1]) (sps := [⟨[], [], [1], [(.slot 2)]⟩]) (es' := [(2, .v (.string (⟨#[82, 67, 80, 84, 32, 84, 79, 58]⟩ : ByteArray)))]) (by kernel_rfl) rfl rfl
    ⟨st_plain rfl (op_assign _ _ _ _ rfl rfl),
    trivial⟩ ?_
   refine pt_then ?_
   refine ht_ret ?_
   obtain rfl := Option.some.inj h
   exact pt_ret hio rfl (.tmp _ _ .nil) rfl rfl
set_option maxHeartbeats 1000000 in
theorem ok_internal_stringslite_HasPrefix (s : ByteArray) (prefix_ : ByteArray) (r : Bool) (h : Sh.internal_stringslite_HasPrefix s prefix_ = some r) : FnOK Tryd.prog 73 [.v (.string s), .v (.string prefix_)] (.v (.bool r)) := by
  unfold Sh.internal_stringslite_HasPrefix at h
  refine fn_ok Tryd.func73 rfl (Nat.le_of_ble_eq_true rfl) rfl rfl fun g0 hn hio => ?_
  refine ht_seq ?_
  refine ht_seqR hn (El := [_, _, (4, .v (.bool false))]) (init := [0, 1]) (fin := [0, 1]) (sps := [⟨[], [], [2], [(.slot 4)]⟩]) (es' := [(_, _), (_, _)]) (by kernel_rfl) rfl rfl
   ⟨st_plain rfl (op_assign _ _ _ _ rfl rfl),
   trivial⟩ ?_
  refine pt_then ?_
  refine ht_seq ?_
  refine ht_joinS h (fun (s2 : Bool) => [(4, .v (.bool s2))]) ?_ ?_
  ·rintro s2 h
   refine pt_then ?_
   refine ht_ret ?_
   obtain rfl := Option.some.inj h
   exact pt_ret hio rfl (.tmp _ _ .nil) rfl rfl
  ·intro u3 h hl4 hr5
   refine cond_some h (fun hg1_5 h => ?_) (fun hg1_5 h => ?_)
   ·obtain ⟨v1, hv1, h⟩ := bind_some h
    refine ht_seqR hn (El := (_ :: _ :: (5, .v (.string s)) :: (6, .v (.int .i64 (s.size : Int))) :: (7, .v (.string prefix_)) :: (8, .v (.int .i64 (prefix_.size : Int))) :: (9, .v (.bool ((decide ((prefix_.size : Int) ≤ (s.size : Int)))))) :: (10, .v (.bool true)) :: (11, .v (.string s)) :: (12, .v (.string prefix_)) :: (13, .v (.int .i64 (prefix_.size : Int))) :: (14, .v (.string v1)) :: (15, .v (.string prefix_)) :: (16, .v (.bool (v1.toList == prefix_.toList))) :: (17, .v (.bool (v1.toList == prefix_.toList))) :: (4, .v (.bool (v1.toList == prefix_.toList))) :: [])) (init := [0, 1]) (fin := [15]) (sps := [⟨[0], [], [2], [(.slot 5)]⟩, ⟨[2], [], [3], [(.slot 6)]⟩, ⟨[1], [], [4], [(.slot 7)]⟩, ⟨[4], [], [5], [(.slot 8)]⟩, ⟨[3, 5], [], [6], [(.slot 9)]⟩, ⟨[6], [], [7], [(.slot 10)]⟩, ⟨[7, 0], [], [8], [(.slot 11)]⟩, ⟨[7, 1], [], [9], [(.slot 12)]⟩, ⟨[7, 9], [], [10], [(.slot 13)]⟩, ⟨[7, 8, 10], [], [11], [(.slot 14)]⟩, ⟨[7, 1], [], [12], [(.slot 15)]⟩, ⟨[7, 11, 12], [], [13], [(.slot 16)]⟩, ⟨[7, 13], [], [14], [(.slot 17)]⟩, ⟨[14], [], [15], [(.slot 4)]⟩]) (es' := [(4, .v (.bool (v1.toList == prefix_.toList)))]) (by kernel_rfl) rfl rfl
     ⟨st_plain rfl (op_move _ _ _ _ rfl rfl),
     st_plain rfl (op_len_str _ _ _ Tryd.underlying9 rfl),
     st_plain rfl (op_move _ _ _ _ rfl rfl),
     st_plain rfl (op_len_str _ _ _ Tryd.underlying9 rfl),
     st_plain rfl (op_bin _ _ _ _ _ rfl rfl rfl),
     st_plain rfl (op_move _ _ _ _ (congrArg (fun b => AV.v (Value.bool b)) hg1_5) rfl),
     st_run 5 10 true rfl rfl rfl (List.Mem.head _) (op_move _ _ _ _ rfl rfl),
     st_run 5 10 true rfl rfl rfl (List.Mem.head _) (op_move _ _ _ _ rfl rfl),
     st_run 5 10 true rfl rfl rfl (List.Mem.head _) (op_len_str _ _ _ Tryd.underlying9 rfl),
     st_run 5 10 true rfl rfl rfl (List.Mem.head _) (op_substr _ _ _ 0 (prefix_.size : Int) _ Tryd.underlying9 rfl rfl ⟨_, rfl⟩ hv1),
     st_run 5 10 true rfl rfl rfl (List.Mem.head _) (op_move _ _ _ _ rfl rfl),
     st_run 5 10 true rfl rfl rfl (List.Mem.head _) (op_bin _ _ _ _ _ rfl rfl rfl),
     st_plain rfl (op_pick _ _ true _ rfl rfl),
     st_plain rfl (op_assign _ _ _ _ rfl rfl),
     trivial⟩ ?_
    exact hl4 _ (Option.some.inj h).symm
   ·refine ht_seqR hn (El := (_ :: _ :: (5, .v (.string s)) :: (6, .v (.int .i64 (s.size : Int))) :: (7, .v (.string prefix_)) :: (8, .v (.int .i64 (prefix_.size : Int))) :: (9, .v (.bool ((decide ((prefix_.size : Int) ≤ (s.size : Int)))))) :: (10, .v (.bool false)) :: (11, .v undef) :: (12, .v undef) :: (13, .v undef) :: (14, .v undef) :: (15, .v undef) :: (16, .v undef) :: (17, .v (.bool false)) :: (4, .v (.bool false)) :: [])) (init := [0, 1]) (fin := [15]) (sps := [⟨[0], [], [2], [(.slot 5)]⟩, ⟨[2], [], [3], [(.slot 6)]⟩, ⟨[1], [], [4], [(.slot 7)]⟩, ⟨[4], [], [5], [(.slot 8)]⟩, ⟨[3, 5], [], [6], [(.slot 9)]⟩, ⟨[6], [], [7], [(.slot 10)]⟩, ⟨[7], [], [8], [(.slot 11)]⟩, ⟨[7], [], [9], [(.slot 12)]⟩, ⟨[7], [], [10], [(.slot 13)]⟩, ⟨[7], [], [11], [(.slot 14)]⟩, ⟨[7], [], [12], [(.slot 15)]⟩, ⟨[7], [], [13], [(.slot 16)]⟩, ⟨[7], [], [14], [(.slot 17)]⟩, ⟨[14], [], [15], [(.slot 4)]⟩]) (es' := [(4, .v (.bool false))]) (by kernel_rfl) rfl rfl
     ⟨st_plain rfl (op_move _ _ _ _ rfl rfl),
     st_plain rfl (op_len_str _ _ _ Tryd.underlying9 rfl),
     st_plain rfl (op_move _ _ _ _ rfl rfl),
     st_plain rfl (op_len_str _ _ _ Tryd.underlying9 rfl),
     st_plain rfl (op_bin _ _ _ _ _ rfl rfl rfl),
     st_plain rfl (op_move _ _ _ _ (congrArg (fun b => AV.v (Value.bool b)) hg1_5) rfl),
     st_skip 5 10 _ true rfl rfl rfl rfl (List.Mem.head _),
     st_skip 5 10 _ true rfl rfl rfl rfl (List.Mem.head _),
     st_skip 5 10 _ true rfl rfl rfl rfl (List.Mem.head _),
     st_skip 5 10 _ true rfl rfl rfl rfl (List.Mem.head _),
     st_skip 5 10 _ true rfl rfl rfl rfl (List.Mem.head _),
     st_skip 5 10 _ true rfl rfl rfl rfl (List.Mem.head _),
     st_plain rfl (op_pick _ _ false _ rfl rfl),
     st_plain rfl (op_assign _ _ _ _ rfl rfl),
     trivial⟩ ?_
    exact hl4 _ (Option.some.inj h).symm
set_option maxHeartbeats 1000000 in
theorem ok_internal_stringslite_CutPrefix (s : ByteArray) (prefix_ : ByteArray) (r : (ByteArray × Bool)) (h : Sh.internal_stringslite_CutPrefix s prefix_ = some r) : FnOK Tryd.prog 62 [.v (.string s), .v (.string prefix_)] (.tup [.v (.string r.1), .v (.bool r.2)]) := by
  unfold Sh.internal_stringslite_CutPrefix at h
  refine fn_ok Tryd.func62 rfl (Nat.le_of_ble_eq_true rfl) rfl rfl fun g0 hn hio => ?_
  refine ht_seq ?_
  refine ht_seqR hn (El := [_, _, (4, .v (.string (⟨#[]⟩ : ByteArray))), (5, .v (.bool false))]) (init := [0, 1]) (fin := [0, 1]) (sps := [⟨[], [], [2], [(.slot 4)]⟩, ⟨[], [], [3], [(.slot 5)]⟩]) (es' := [(_, _), (_, _)]) (by kernel_rfl) rfl rfl
   ⟨st_plain rfl (op_assign _ _ _ _ rfl rfl),
   st_plain rfl (op_assign _ _ _ _ rfl rfl),
   trivial⟩ ?_
  refine pt_then ?_
  refine ht_seq ?_
  refine ht_seq ?_
  obtain ⟨v1, hv1, h⟩ := bind_some h
  refine ht_seqR hn (El := [_, _, (6, .v (.string s)), (7, .v (.string prefix_)), (8, .v (.bool v1)), (9, .v (.bool (!v1)))]) (init := [0, 1]) (fin := [0, 1, 5]) (sps := [⟨[0], [], [2], [(.slot 6)]⟩, ⟨[1], [], [3], [(.slot 7)]⟩, ⟨[2, 3], [], [4], [(.slot 8)]⟩, ⟨[4], [], [5], [(.slot 9)]⟩]) (es' := [(_, _), (_, _), (9, .v (.bool (!v1)))]) (by kernel_rfl) rfl rfl
   ⟨st_plain rfl (op_move _ _ _ _ rfl rfl),
   st_plain rfl (op_move _ _ _ _ rfl rfl),
   st_plain rfl (op_call _ _ 73 _ _ rfl Tryd.call73 rfl (ok_internal_stringslite_HasPrefix s prefix_ _ hv1) rfl rfl),
   st_plain rfl (op_un _ _ _ _ rfl rfl),
   trivial⟩ ?_
  refine pt_then ?_
  refine ht_cond _ rfl (fun hb2 => ?_) (fun hb2 => ?_)
  ·have h := cond_t hb2 h
   refine ht_seq ?_
   refine ht_seqR hn (El := [_, _, _, (10, .v (.string s)), (4, .v (.string s)), (5, .v (.bool false))]) (init := [0, 1, 2]) (fin := [4, 5]) (sps := [⟨[0], [], [3], [(.slot 10)]⟩, ⟨[3], [], [4], [(.slot 4)]⟩, ⟨[], [], [5], [(.slot 5)]⟩]) (es' := [(4, .v (.string s)), (5, .v (.bool false))]) (by kernel_rfl) rfl rfl
    ⟨st_plain rfl (op_move _ _ _ _ rfl rfl),
    st_plain rfl (op_assign _ _ _ _ rfl rfl),
    st_plain rfl (op_assign _ _ _ _ rfl rfl),
    trivial⟩ ?_
   refine pt_then ?_
   refine ht_ret ?_
   refine pt_r_then ?_
   obtain rfl := Option.some.inj h
   exact pt_ret hio rfl (.tmp _ _ (.tmp _ _ .nil)) rfl rfl
  ·have h := cond_f hb2 h
   refine ht_skip ?_
   refine pt_then ?_
   refine ht_seq ?_
   obtain ⟨v3, hv3, h⟩ := bind_some h
   refine ht_seqR hn (El := [_, _, _, (11, .v (.string s)), (12, .v (.string prefix_)), (13, .v (.int .i64 (prefix_.size : Int))), (14, .v (.string v3)), (4, .v (.string v3)), (5, .v (.bool true))]) (init := [0, 1, 2]) (fin := [7, 8]) (sps := [⟨[0], [], [3], [(.slot 11)]⟩, ⟨[1], [], [4], [(.slot 12)]⟩, ⟨[4], [], [5], [(.slot 13)]⟩, ⟨[3, 5], [], [6], [(.slot 14)]⟩, ⟨[6], [], [7], [(.slot 4)]⟩, ⟨[], [], [8], [(.slot 5)]⟩]) (es' := [(4, .v (.string v3)), (5, .v (.bool true))]) (by kernel_rfl) rfl rfl
    ⟨st_plain rfl (op_move _ _ _ _ rfl rfl),
    st_plain rfl (op_move _ _ _ _ rfl rfl),
    st_plain rfl (op_len_str _ _ _ Tryd.underlying9 rfl),
    st_plain rfl (op_substr _ _ _ (prefix_.size : Int) (s.size : Int) _ Tryd.underlying9 rfl ⟨_, rfl⟩ rfl hv3),
    st_plain rfl (op_assign _ _ _ _ rfl rfl),
    st_plain rfl (op_assign _ _ _ _ rfl rfl),
    trivial⟩ ?_
   refine pt_then ?_
   refine ht_ret ?_
   obtain rfl := Option.some.inj h
   exact pt_ret hio rfl (.tmp _ _ (.tmp _ _ .nil)) rfl rfl
set_option maxHeartbeats 1000000 in
theorem ok_strings_CutPrefix (s : ByteArray) (prefix_ : ByteArray) (r : (ByteArray × Bool)) (h : Sh.strings_CutPrefix s prefix_ = some r) : FnOK Tryd.prog 51 [.v (.string s), .v (.string prefix_)] (.tup [.v (.string r.1), .v (.bool r.2)]) := by
  unfold Sh.strings_CutPrefix at h
  refine fn_ok Tryd.func51 rfl (Nat.le_of_ble_eq_true rfl) rfl rfl fun g0 hn hio => ?_
  refine ht_seq ?_
  refine ht_seqR hn (El := [_, _, (4, .v (.string (⟨#[]⟩ : ByteArray))), (5, .v (.bool false))]) (init := [0, 1]) (fin := [0, 1]) (sps := [⟨[], [], [2], [(.slot 4)]⟩, ⟨[], [], [3], [(.slot 5)]⟩]) (es' := [(_, _), (_, _)]) (by kernel_rfl) rfl rfl
   ⟨st_plain rfl (op_assign _ _ _ _ rfl rfl),
   st_plain rfl (op_assign _ _ _ _ rfl rfl),
   trivial⟩ ?_
  refine pt_then ?_
  refine ht_seq ?_
  obtain ⟨v1, hv1, h⟩ := bind_some h
  refine ht_seqR hn (El := [_, _, (6, .v (.string s)), (7, .v (.string prefix_)), (8, .tup [.v (.string v1.1), .v (.bool v1.2)]), (9, .v (.string v1.1)), (10, .v (.bool v1.2)), (4, .v (.string v1.1)), (5, .v (.bool v1.2))]) (init := [0, 1]) (fin := [7, 8]) (sps := [⟨[0], [], [2], [(.slot 6)]⟩, ⟨[1], [], [3], [(.slot 7)]⟩, ⟨[2, 3], [], [4], [(.slot 8)]⟩, ⟨[4], [], [5], [(.slot 9)]⟩, ⟨[4], [], [6], [(.slot 10)]⟩, ⟨[5], [], [7], [(.slot 4)]⟩, ⟨[6], [], [8], [(.slot 5)]⟩]) (es' := [(4, .v (.string v1.1)), (5, .v (.bool v1.2))]) (by kernel_rfl) rfl rfl
   ⟨st_plain rfl (op_move _ _ _ _ rfl rfl),
   st_plain rfl (op_move _ _ _ _ rfl rfl),
   st_plain rfl (op_call _ _ 62 _ _ rfl Tryd.call62 rfl (ok_internal_stringslite_CutPrefix s prefix_ _ hv1) rfl rfl),
   st_plain rfl (op_extract _ _ _ _ _ rfl rfl (Nat.le_of_ble_eq_true rfl) rfl rfl),
   st_plain rfl (op_extract _ _ _ _ _ rfl rfl (Nat.le_of_ble_eq_true rfl) rfl rfl),
   st_plain rfl (op_assign _ _ _ _ rfl rfl),
   st_plain rfl (op_assign _ _ _ _ rfl rfl),
   trivial⟩ ?_
  refine pt_then ?_
  refine ht_ret ?_
  obtain rfl := Option.some.inj h
  exact pt_ret hio rfl (.tmp _ _ (.tmp _ _ .nil)) rfl rfl
set_option maxHeartbeats 1000000 in
theorem ok_internal_stringslite_HasSuffix (s : ByteArray) (suffix : ByteArray) (r : Bool) (h : Sh.internal_stringslite_HasSuffix s suffix = some r) : FnOK Tryd.prog 74 [.v (.string s), .v (.string suffix)] (.v (.bool r)) := by
  unfold Sh.internal_stringslite_HasSuffix at h
  refine fn_ok Tryd.func74 rfl (Nat.le_of_ble_eq_true rfl) rfl rfl fun g0 hn hio => ?_
  refine ht_seq ?_
  refine ht_seqR hn (El := [_, _, (4, .v (.bool false))]) (init := [0, 1]) (fin := [0, 1]) (sps := [⟨[], [], [2], [(.slot 4)]⟩]) (es' := [(_, _), (_, _)]) (by kernel_rfl) rfl rfl
   ⟨st_plain rfl (op_assign _ _ _ _ rfl rfl),
   trivial⟩ ?_
  refine pt_then ?_
  refine ht_seq ?_
  refine ht_joinS h (fun (s3 : Bool) => [(4, .v (.bool s3))]) ?_ ?_
  ·rintro s3 h
   refine pt_then ?_
   refine ht_ret ?_
   obtain rfl := Option.some.inj h
   exact pt_ret hio rfl (.tmp _ _ .nil) rfl rfl
  ·intro u4 h hl5 hr6
   refine cond_some h (fun hg1_5 h => ?_) (fun hg1_5 h => ?_)
   ·obtain ⟨v1, hv1, h⟩ := bind_some h
    obtain ⟨v2, hv2, h⟩ := bind_some h
    refine ht_seqR hn (El := (_ :: _ :: (5, .v (.string s)) :: (6, .v (.int .i64 (s.size : Int))) :: (7, .v (.string suffix)) :: (8, .v (.int .i64 (suffix.size : Int))) :: (9, .v (.bool ((decide ((suffix.size : Int) ≤ (s.size : Int)))))) :: (10, .v (.bool true)) :: (11, .v (.string s)) :: (12, .v (.string s)) :: (13, .v (.int .i64 (s.size : Int))) :: (14, .v (.string suffix)) :: (15, .v (.int .i64 (suffix.size : Int))) :: (16, .v (.int .i64 v1)) :: (17, .v (.string v2)) :: (18, .v (.string suffix)) :: (19, .v (.bool (v2.toList == suffix.toList))) :: (20, .v (.bool (v2.toList == suffix.toList))) :: (4, .v (.bool (v2.toList == suffix.toList))) :: [])) (init := [0, 1]) (fin := [18]) (sps := (⟨[0], [], [2], [(.slot 5)]⟩ :: ⟨[2], [], [3], [(.slot 6)]⟩ :: ⟨[1], [], [4], [(.slot 7)]⟩ :: ⟨[4], [], [5], [(.slot 8)]⟩ :: ⟨[3, 5], [], [6], [(.slot 9)]⟩ :: ⟨[6], [], [7], [(.slot 10)]⟩ :: ⟨[7, 0], [], [8], [(.slot 11)]⟩ :: ⟨[7, 0], [], [9], [(.slot 12)]⟩ :: ⟨[7, 9], [], [10], [(.slot 13)]⟩ :: ⟨[7, 1], [], [11], [(.slot 14)]⟩ :: ⟨[7, 11], [], [12], [(.slot 15)]⟩ :: ⟨[7, 10, 12], [], [13], [(.slot 16)]⟩ :: ⟨[7, 8, 13], [], [14], [(.slot 17)]⟩ :: ⟨[7, 1], [], [15], [(.slot 18)]⟩ :: ⟨[7, 14, 15], [], [16], [(.slot 19)]⟩ :: ⟨[7, 16], [], [17], [(.slot 20)]⟩ :: ⟨[17], [], [18], [(.slot 4)]⟩ :: [])) (es' := [(4, .v (.bool (v2.toList == suffix.toList)))]) (by kernel_rfl) rfl rfl
     ⟨st_plain rfl (op_move _ _ _ _ rfl rfl),
     st_plain rfl (op_len_str _ _ _ Tryd.underlying9 rfl),
     st_plain rfl (op_move _ _ _ _ rfl rfl),
     st_plain rfl (op_len_str _ _ _ Tryd.underlying9 rfl),
     st_plain rfl (op_bin _ _ _ _ _ rfl rfl rfl),
     st_plain rfl (op_move _ _ _ _ (congrArg (fun b => AV.v (Value.bool b)) hg1_5) rfl),
     st_run 5 10 true rfl rfl rfl (List.Mem.head _) (op_move _ _ _ _ rfl rfl),
     st_run 5 10 true rfl rfl rfl (List.Mem.head _) (op_move _ _ _ _ rfl rfl),
     st_run 5 10 true rfl rfl rfl (List.Mem.head _) (op_len_str _ _ _ Tryd.underlying9 rfl),
     st_run 5 10 true rfl rfl rfl (List.Mem.head _) (op_move _ _ _ _ rfl rfl),
     st_run 5 10 true rfl rfl rfl (List.Mem.head _) (op_len_str _ _ _ Tryd.underlying9 rfl),
     st_run 5 10 true rfl rfl rfl (List.Mem.head _) (op_bin _ _ _ _ _ rfl rfl (ibind (f := Value.int .i64) (Option.some.inj hv1))),
     st_run 5 10 true rfl rfl rfl (List.Mem.head _) (op_substr _ _ _ v1 (s.size : Int) _ Tryd.underlying9 rfl ⟨_, rfl⟩ rfl hv2),
     st_run 5 10 true rfl rfl rfl (List.Mem.head _) (op_move _ _ _ _ rfl rfl),
     st_run 5 10 true rfl rfl rfl (List.Mem.head _) (op_bin _ _ _ _ _ rfl rfl rfl),
     st_plain rfl (op_pick _ _ true _ rfl rfl),
     st_plain rfl (op_assign _ _ _ _ rfl rfl),
     trivial⟩ ?_
    exact hl5 _ (Option.some.inj h).symm
   ·refine ht_seqR hn (El := (_ :: _ :: (5, .v (.string s)) :: (6, .v (.int .i64 (s.size : Int))) :: (7, .v (.string suffix)) :: (8, .v (.int .i64 (suffix.size : Int))) :: (9, .v (.bool ((decide ((suffix.size : Int) ≤ (s.size : Int)))))) :: (10, .v (.bool false)) :: (11, .v undef) :: (12, .v undef) :: (13, .v undef) :: (14, .v undef) :: (15, .v undef) :: (16, .v undef) :: (17, .v undef) :: (18, .v undef) :: (19, .v undef) :: (20, .v (.bool false)) :: (4, .v (.bool false)) :: [])) (init := [0, 1]) (fin := [18]) (sps := (⟨[0], [], [2], [(.slot 5)]⟩ :: ⟨[2], [], [3], [(.slot 6)]⟩ :: ⟨[1], [], [4], [(.slot 7)]⟩ :: ⟨[4], [], [5], [(.slot 8)]⟩ :: ⟨[3, 5], [], [6], [(.slot 9)]⟩ :: ⟨[6], [], [7], [(.slot 10)]⟩ :: ⟨[7], [], [8], [(.slot 11)]⟩ :: ⟨[7], [], [9], [(.slot 12)]⟩ :: ⟨[7], [], [10], [(.slot 13)]⟩ :: ⟨[7], [], [11], [(.slot 14)]⟩ :: ⟨[7], [], [12], [(.slot 15)]⟩ :: ⟨[7], [], [13], [(.slot 16)]⟩ :: ⟨[7], [], [14], [(.slot 17)]⟩ :: ⟨[7], [], [15], [(.slot 18)]⟩ :: ⟨[7], [], [16], [(.slot 19)]⟩ :: ⟨[7], [], [17], [(.slot 20)]⟩ :: ⟨[17], [], [18], [(.slot 4)]⟩ :: [])) (es' := [(4, .v (.bool false))]) (by kernel_rfl) rfl rfl
     ⟨st_plain rfl (op_move _ _ _ _ rfl rfl),
     st_plain rfl (op_len_str _ _ _ Tryd.underlying9 rfl),
     st_plain rfl (op_move _ _ _ _ rfl rfl),
     st_plain rfl (op_len_str _ _ _ Tryd.underlying9 rfl),
     st_plain rfl (op_bin _ _ _ _ _ rfl rfl rfl),
     st_plain rfl (op_move _ _ _ _ (congrArg (fun b => AV.v (Value.bool b)) hg1_5) rfl),
     st_skip 5 10 _ true rfl rfl rfl rfl (List.Mem.head _),
     st_skip 5 10 _ true rfl rfl rfl rfl (List.Mem.head _),
     st_skip 5 10 _ true rfl rfl rfl rfl (List.Mem.head _),
     st_skip 5 10 _ true rfl rfl rfl rfl (List.Mem.head _),
     st_skip 5 10 _ true rfl rfl rfl rfl (List.Mem.head _),
     st_skip 5 10 _ true rfl rfl rfl rfl (List.Mem.head _),
     st_skip 5 10 _ true rfl rfl rfl rfl (List.Mem.head _),
     st_skip 5 10 _ true rfl rfl rfl rfl (List.Mem.head _),
     st_skip 5 10 _ true rfl rfl rfl rfl (List.Mem.head _),
     st_plain rfl (op_pick _ _ false _ rfl rfl),
     st_plain rfl (op_assign _ _ _ _ rfl rfl),
     trivial⟩ ?_
    exact hl5 _ (Option.some.inj h).symm
set_option maxHeartbeats 1000000 in
theorem ok_internal_stringslite_CutSuffix (s : ByteArray) (suffix : ByteArray) (r : (ByteArray × Bool)) (h : Sh.internal_stringslite_CutSuffix s suffix = some r) : FnOK Tryd.prog 63 [.v (.string s), .v (.string suffix)] (.tup [.v (.string r.1), .v (.bool r.2)]) := by
  unfold Sh.internal_stringslite_CutSuffix at h
  refine fn_ok Tryd.func63 rfl (Nat.le_of_ble_eq_true rfl) rfl rfl fun g0 hn hio => ?_
  refine ht_seq ?_
  refine ht_seqR hn (El := [_, _, (4, .v (.string (⟨#[]⟩ : ByteArray))), (5, .v (.bool false))]) (init := [0, 1]) (fin := [0, 1]) (sps := [⟨[], [], [2], [(.slot 4)]⟩, ⟨[], [], [3], [(.slot 5)]⟩]) (es' := [(_, _), (_, _)]) (by kernel_rfl) rfl rfl
   ⟨st_plain rfl (op_assign _ _ _ _ rfl rfl),
   st_plain rfl (op_assign _ _ _ _ rfl rfl),
   trivial⟩ ?_
  refine pt_then ?_
  refine ht_seq ?_
  refine ht_seq ?_
  obtain ⟨v1, hv1, h⟩ := bind_some h
  refine ht_seqR hn (El := [_, _, (6, .v (.string s)), (7, .v (.string suffix)), (8, .v (.bool v1)), (9, .v (.bool (!v1)))]) (init := [0, 1]) (fin := [0, 1, 5]) (sps := [⟨[0], [], [2], [(.slot 6)]⟩, ⟨[1], [], [3], [(.slot 7)]⟩, ⟨[2, 3], [], [4], [(.slot 8)]⟩, ⟨[4], [], [5], [(.slot 9)]⟩]) (es' := [(_, _), (_, _), (9, .v (.bool (!v1)))]) (by kernel_rfl) rfl rfl
   ⟨st_plain rfl (op_move _ _ _ _ rfl rfl),
   st_plain rfl (op_move _ _ _ _ rfl rfl),
   st_plain rfl (op_call _ _ 74 _ _ rfl Tryd.call74 rfl (ok_internal_stringslite_HasSuffix s suffix _ hv1) rfl rfl),
   st_plain rfl (op_un _ _ _ _ rfl rfl),
   trivial⟩ ?_
  refine pt_then ?_
  refine ht_cond _ rfl (fun hb2 => ?_) (fun hb2 => ?_)
  ·have h := cond_t hb2 h
   refine ht_seq ?_
   refine ht_seqR hn (El := [_, _, _, (10, .v (.string s)), (4, .v (.string s)), (5, .v (.bool false))]) (init := [0, 1, 2]) (fin := [4, 5]) (sps := [⟨[0], [], [3], [(.slot 10)]⟩, ⟨[3], [], [4], [(.slot 4)]⟩, ⟨[], [], [5], [(.slot 5)]⟩]) (es' := [(4, .v (.string s)), (5, .v (.bool false))]) (by kernel_rfl) rfl rfl
    ⟨st_plain rfl (op_move _ _ _ _ rfl rfl),
    st_plain rfl (op_assign _ _ _ _ rfl rfl),
    st_plain rfl (op_assign _ _ _ _ rfl rfl),
    trivial⟩ ?_
   refine pt_then ?_
   refine ht_ret ?_
   refine pt_r_then ?_
   obtain rfl := Option.some.inj h
   exact pt_ret hio rfl (.tmp _ _ (.tmp _ _ .nil)) rfl rfl
  ·have h := cond_f hb2 h
   refine ht_skip ?_
   refine pt_then ?_
   refine ht_seq ?_
   obtain ⟨v3, hv3, h⟩ := bind_some h
   obtain ⟨v4, hv4, h⟩ := bind_some h
   refine ht_seqR hn (El := [_, _, _, (11, .v (.string s)), (12, .v (.string s)), (13, .v (.int .i64 (s.size : Int))), (14, .v (.string suffix)), (15, .v (.int .i64 (suffix.size : Int))), (16, .v (.int .i64 v3)), (17, .v (.string v4)), (4, .v (.string v4)), (5, .v (.bool true))]) (init := [0, 1, 2]) (fin := [10, 11]) (sps := [⟨[0], [], [3], [(.slot 11)]⟩, ⟨[0], [], [4], [(.slot 12)]⟩, ⟨[4], [], [5], [(.slot 13)]⟩, ⟨[1], [], [6], [(.slot 14)]⟩, ⟨[6], [], [7], [(.slot 15)]⟩, ⟨[5, 7], [], [8], [(.slot 16)]⟩, ⟨[3, 8], [], [9], [(.slot 17)]⟩, ⟨[9], [], [10], [(.slot 4)]⟩, ⟨[], [], [11], [(.slot 5)]⟩]) (es' := [(4, .v (.string v4)), (5, .v (.bool true))]) (by kernel_rfl) rfl rfl
    ⟨st_plain rfl (op_move _ _ _ _ rfl rfl),
    st_plain rfl (op_move _ _ _ _ rfl rfl),
    st_plain rfl (op_len_str _ _ _ Tryd.underlying9 rfl),
    st_plain rfl (op_move _ _ _ _ rfl rfl),
    st_plain rfl (op_len_str _ _ _ Tryd.underlying9 rfl),
    st_plain rfl (op_bin _ _ _ _ _ rfl rfl (ibind (f := Value.int .i64) (Option.some.inj hv3))),
    st_plain rfl (op_substr _ _ _ 0 v3 _ Tryd.underlying9 rfl rfl ⟨_, rfl⟩ hv4),
    st_plain rfl (op_assign _ _ _ _ rfl rfl),
    st_plain rfl (op_assign _ _ _ _ rfl rfl),
    trivial⟩ ?_
   refine pt_then ?_
   refine ht_ret ?_
   obtain rfl := Option.some.inj h
   exact pt_ret hio rfl (.tmp _ _ (.tmp _ _ .nil)) rfl rfl
set_option maxHeartbeats 1000000 in
theorem ok_strings_CutSuffix (s : ByteArray) (suffix : ByteArray) (r : (ByteArray × Bool)) (h : Sh.strings_CutSuffix s suffix = some r) : FnOK Tryd.prog 52 [.v (.string s), .v (.string suffix)] (.tup [.v (.string r.1), .v (.bool r.2)]) := by
  unfold Sh.strings_CutSuffix at h
  refine fn_ok Tryd.func52 rfl (Nat.le_of_ble_eq_true rfl) rfl rfl fun g0 hn hio => ?_
  refine ht_seq ?_
  refine ht_seqR hn (El := [_, _, (4, .v (.string (⟨#[]⟩ : ByteArray))), (5, .v (.bool false))]) (init := [0, 1]) (fin := [0, 1]) (sps := [⟨[], [], [2], [(.slot 4)]⟩, ⟨[], [], [3], [(.slot 5)]⟩]) (es' := [(_, _), (_, _)]) (by kernel_rfl) rfl rfl
   ⟨st_plain rfl (op_assign _ _ _ _ rfl rfl),
   st_plain rfl (op_assign _ _ _ _ rfl rfl),
   trivial⟩ ?_
  refine pt_then ?_
  refine ht_seq ?_
  obtain ⟨v1, hv1, h⟩ := bind_some h
  refine ht_seqR hn (El := [_, _, (6, .v (.string s)), (7, .v (.string suffix)), (8, .tup [.v (.string v1.1), .v (.bool v1.2)]), (9, .v (.string v1.1)), (10, .v (.bool v1.2)), (4, .v (.string v1.1)), (5, .v (.bool v1.2))]) (init := [0, 1]) (fin := [7, 8]) (sps := [⟨[0], [], [2], [(.slot 6)]⟩, ⟨[1], [], [3], [(.slot 7)]⟩, ⟨[2, 3], [], [4], [(.slot 8)]⟩, ⟨[4], [], [5], [(.slot 9)]⟩, ⟨[4], [], [6], [(.slot 10)]⟩, ⟨[5], [], [7], [(.slot 4)]⟩, ⟨[6], [], [8], [(.slot 5)]⟩]) (es' := [(4, .v (.string v1.1)), (5, .v (.bool v1.2))]) (by kernel_rfl) rfl rfl
   ⟨st_plain rfl (op_move _ _ _ _ rfl rfl),
   st_plain rfl (op_move _ _ _ _ rfl rfl),
   st_plain rfl (op_call _ _ 63 _ _ rfl Tryd.call63 rfl (ok_internal_stringslite_CutSuffix s suffix _ hv1) rfl rfl),
   st_plain rfl (op_extract _ _ _ _ _ rfl rfl (Nat.le_of_ble_eq_true rfl) rfl rfl),
   st_plain rfl (op_extract _ _ _ _ _ rfl rfl (Nat.le_of_ble_eq_true rfl) rfl rfl),
   st_plain rfl (op_assign _ _ _ _ rfl rfl),
   st_plain rfl (op_assign _ _ _ _ rfl rfl),
   trivial⟩ ?_
  refine pt_then ?_
  refine ht_ret ?_
  obtain rfl := Option.some.inj h
  exact pt_ret hio rfl (.tmp _ _ (.tmp _ _ .nil)) rfl rfl
theorem ok_strings_IndexByte (s : ByteArray) (c r : Int) (h : Sh.strings_IndexByte s c = some r) : FnOK Tryd.prog 68 [.v (.string s), .v (.int .u8 c)] (.v (.int .i64 r)) := lib_strings_IndexByte Tryd.strings_IndexByte s c r h
set_option maxHeartbeats 1000000 in
theorem ok_path_atom_1 (c : Int) (r : Bool) (h : Sh.path_atom_1 c = some r) : FnOK Tryd.prog 67 [.v (.int .u8 c)] (.v (.bool r)) := by
  unfold Sh.path_atom_1 at h
  refine fn_ok Tryd.func67 rfl (Nat.le_of_ble_eq_true rfl) rfl rfl fun g0 hn hio => ?_
  refine ht_seq ?_
  refine ht_seqR hn (El := [_, (2, .v (.bool false))]) (init := [0]) (fin := [0]) (sps := [⟨[], [], [1], [(.slot 2)]⟩]) (es' := [(_, _)]) (by kernel_rfl) rfl rfl
   ⟨st_plain rfl (op_assign _ _ _ _ rfl rfl),
   trivial⟩ ?_
  refine pt_then ?_
  refine ht_seq ?_
  refine ht_joinS h (fun (s3 : Bool) => [(2, .v (.bool s3))]) ?_ ?_
  ·rintro s3 h
   refine pt_then ?_
   refine ht_ret ?_
   obtain rfl := Option.some.inj h
   exact pt_ret hio rfl (.tmp _ _ .nil) rfl rfl
  ·intro u4 h hl5 hr6
   obtain ⟨v1, hv1, h⟩ := bind_some h
   refine cond_some h (fun hg1_2 h => ?_) (fun hg1_2 h => ?_)
   ·refine ht_seqR hn (El := [_, (3, .v (.int .u8 c)), (4, .v (.bool v1)), (5, .v (.bool true)), (6, .v undef), (7, .v undef), (8, .v undef), (9, .v (.bool true)), (2, .v (.bool true))]) (init := [0]) (fin := [8]) (sps := [⟨[0], [], [1], [(.slot 3)]⟩, ⟨[1], [], [2], [(.slot 4)]⟩, ⟨[2], [], [3], [(.slot 5)]⟩, ⟨[3], [], [4], [(.slot 6)]⟩, ⟨[3], [], [5], [(.slot 7)]⟩, ⟨[3], [], [6], [(.slot 8)]⟩, ⟨[3], [], [7], [(.slot 9)]⟩, ⟨[7], [], [8], [(.slot 2)]⟩]) (es' := [(2, .v (.bool true))]) (by kernel_rfl) rfl rfl
     ⟨st_plain rfl (op_move _ _ _ _ rfl rfl),
     st_plain rfl (op_call _ _ 50 _ _ rfl Tryd.call50 rfl (ok_path_alphanumeric c _ hv1) rfl rfl),
     st_plain rfl (op_move _ _ _ _ (congrArg (fun b => AV.v (Value.bool b)) hg1_2) rfl),
     st_skip 2 5 _ false rfl rfl rfl rfl (List.Mem.head _),
     st_skip 2 5 _ false rfl rfl rfl rfl (List.Mem.head _),
     st_skip 2 5 _ false rfl rfl rfl rfl (List.Mem.head _),
     st_plain rfl (op_pick _ _ true _ rfl rfl),
     st_plain rfl (op_assign _ _ _ _ rfl rfl),
     trivial⟩ ?_
    exact hl5 _ (Option.some.inj h).symm
   ·obtain ⟨v2, hv2, h⟩ := bind_some h
    refine ht_seqR hn (El := [_, (3, .v (.int .u8 c)), (4, .v (.bool v1)), (5, .v (.bool false)), (6, .v (.int .u8 c)), (7, .v (.int .i64 v2)), (8, .v (.bool ((decide (0 ≤ v2))))), (9, .v (.bool ((decide (0 ≤ v2))))), (2, .v (.bool ((decide (0 ≤ v2)))))]) (init := [0]) (fin := [8]) (sps := [⟨[0], [], [1], [(.slot 3)]⟩, ⟨[1], [], [2], [(.slot 4)]⟩, ⟨[2], [], [3], [(.slot 5)]⟩, ⟨[3, 0], [], [4], [(.slot 6)]⟩, ⟨[3, 4], [], [5], [(.slot 7)]⟩, ⟨[3, 5], [], [6], [(.slot 8)]⟩, ⟨[3, 6], [], [7], [(.slot 9)]⟩, ⟨[7], [], [8], [(.slot 2)]⟩]) (es' := [(2, .v (.bool ((decide (0 ≤ v2)))))]) (by kernel_rfl) rfl rfl
     ⟨st_plain rfl (op_move _ _ _ _ rfl rfl),
     st_plain rfl (op_call _ _ 50 _ _ rfl Tryd.call50 rfl (ok_path_alphanumeric c _ hv1) rfl rfl),
     st_plain rfl (op_move _ _ _ _ (congrArg (fun b => AV.v (Value.bool b)) hg1_2) rfl),
     st_run 2 5 false rfl rfl rfl (List.Mem.head _) (op_move _ _ _ _ rfl rfl),
     st_run 2 5 false rfl rfl rfl (List.Mem.head _) (op_call _ _ 68 _ _ rfl Tryd.call68 rfl (ok_strings_IndexByte (⟨#[33, 35, 36, 37, 38, 39, 42, 43, 45, 47, 61, 63, 94, 95, 96, 123, 124, 125, 126]⟩ : ByteArray) c _ hv2) rfl rfl),
     st_run 2 5 false rfl rfl rfl (List.Mem.head _) (op_bin _ _ _ _ _ rfl rfl rfl),
     st_plain rfl (op_pick _ _ false _ rfl rfl),
     st_plain rfl (op_assign _ _ _ _ rfl rfl),
     trivial⟩ ?_
    exact hl5 _ (Option.some.inj h).symm
end Go.Proofs.YthfmdofkkkpbkaaDoor
