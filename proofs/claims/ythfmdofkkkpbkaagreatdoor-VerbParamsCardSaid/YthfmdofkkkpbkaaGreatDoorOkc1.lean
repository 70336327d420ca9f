/-
  The model's runs are what is told in Lean.
-/
import Derived.Test.YthfmdofkkkpbkaaGreatDoorProg
import Derived.KernelRfl
import Derived.Test.YthfmdofkkkpbkaaGreatDoorShelf
import Derived.Test.YthfmdofkkkpbkaaGreatDoorSh
set_option linter.unusedVariables false
set_option linter.unusedSimpArgs false
namespace Go.Proofs.YthfmdofkkkpbkaaGreatDoor
open Go.Abs Go.Abs.Sh
def GL (mx : Int) : List (Nat × List Value) := [(1, (List.map (Value.int .u8) utf8_first)), (2, (List.map (Value.int .u8) utf8_accept))]
theorem gl_mem1 (mx : Int) : (1, ((List.map (Value.int .u8) utf8_first) : List Value)) ∈ GL mx := .head _
theorem sz9 : (Tryz.prog.info? 9).map (·.size) = some 1 := by kernel_rfl
theorem sz23 : (Tryz.prog.info? 23).map (·.size) = some 3 := by kernel_rfl
theorem sz4 : (Tryz.prog.info? 4).map (·.size) = some 1 := by kernel_rfl
theorem zr9 : (Tryz.prog.info? 9).bind (·.zero) = some (.string ByteArray.empty) := by kernel_rfl
theorem zr26 : (Tryz.prog.info? 26).bind (·.zero) = some (.agg #[.int .i64 0, .string ByteArray.empty, .bool false, .string ByteArray.empty, .string ByteArray.empty, .slice none 0 0]) := by kernel_rfl
theorem sz5 : (Tryz.prog.info? 5).map (·.size) = some 1 := by kernel_rfl
theorem fs26 : ∀ fs, Tryz.prog.underlying 26 = some (.struct fs) → fs.toList.map (fun f => (Tryz.prog.info? f.type).map (·.size)) = ([1, 1, 3, 1] : List Nat).map some := by
  intro fs h
  rw [Tryz.underlying26] at h
  cases h
  kernel_rfl
theorem sz26 : (Tryz.prog.info? 26).map (·.size) = some 6 := by kernel_rfl
theorem zr4 : (Tryz.prog.info? 4).bind (·.zero) = some (.bool false) := by kernel_rfl
theorem sz3 : (Tryz.prog.info? 3).map (·.size) = some 1 := by kernel_rfl
theorem zr23 : (Tryz.prog.info? 23).bind (·.zero) = some (.agg #[.bool false, .string ByteArray.empty, .string ByteArray.empty]) := by kernel_rfl
theorem fs23 : ∀ fs, Tryz.prog.underlying 23 = some (.struct fs) → fs.toList.map (fun f => (Tryz.prog.info? f.type).map (·.size)) = ([1, 1, 1] : List Nat).map some := by
  intro fs h
  rw [Tryz.underlying23] at h
  cases h
  kernel_rfl
theorem zr24 : (Tryz.prog.info? 24).bind (·.zero) = some (.slice none 0 0) := by kernel_rfl
theorem sz24 : (Tryz.prog.info? 24).map (·.size) = some 1 := by kernel_rfl
theorem zr47 : (Tryz.prog.info? 47).bind (·.zero) = some (.agg #[.string ByteArray.empty, .string ByteArray.empty]) := by kernel_rfl
theorem fs47 : ∀ fs, Tryz.prog.underlying 47 = some (.struct fs) → fs.toList.map (fun f => (Tryz.prog.info? f.type).map (·.size)) = ([1, 1] : List Nat).map some := by
  intro fs h
  rw [Tryz.underlying47] at h
  cases h
  kernel_rfl
theorem sz47 : (Tryz.prog.info? 47).map (·.size) = some 2 := by kernel_rfl
theorem el24 : ElemT Tryz.prog 24 47 2 32 := ⟨⟨Tryz.t47, .agg #[.string ByteArray.empty, .string ByteArray.empty], Tryz.underlying24, by kernel_rfl, by kernel_rfl, by kernel_rfl, by kernel_rfl, by decide, by kernel_rfl⟩⟩
theorem zr71 : (Tryz.prog.info? 71).bind (·.zero) = some (.agg #[.pointer none, .slice none 0 0]) := by kernel_rfl
theorem sz67 : (Tryz.prog.info? 67).map (·.size) = some 1 := by kernel_rfl
theorem el67 : ElemT Tryz.prog 67 5 1 1 := ⟨⟨Tryz.t5, .int .u8 0, Tryz.underlying67, by kernel_rfl, by kernel_rfl, by kernel_rfl, by kernel_rfl, by decide, by kernel_rfl⟩⟩
theorem zr5 : (Tryz.prog.info? 5).bind (·.zero) = some (.int .u8 0) := by kernel_rfl
set_option maxHeartbeats 1000000 in
theorem ok_wherryref11_in (n : Int) (lo : Int) (hi : Int) (r : Bool) (h : Sh.wherryref11_in n lo hi = some r) : FnOK Tryz.prog 39 [.v (.int .i64 n), .v (.int .i64 lo), .v (.int .i64 hi)] (.v (.bool r)) := by
  unfold Sh.wherryref11_in at h
  refine fn_ok Tryz.func39 rfl (zl rfl) rfl rfl fun g0 hn hio => ?_
  refine ht_seq ?_
  refine zh hn [_, _, _, (6, .v (.bool false))] [0,1,2] [0,1,2] [zq [] 3 6] [(_,_),(_,_),(_,_)] (by kernel_rfl) rfl rfl ⟨za rfl rfl rfl,trivial⟩ ?_
  refine pt_then ?_
  refine ht_seq ?_
  refine ht_joinS h (fun (s1 : Bool) => [(6, .v (.bool s1))]) ?_ ?_
  ·rintro s1 h
   refine pt_then ?_
   refine ht_ret ?_
   obtain rfl := Option.some.inj h
   exact pt_ret hio rfl (.tmp _ _ .nil) rfl rfl
  ·intro u2 h hl3 hr4
   refine cond_some h (fun hg1_3 h => ?_) (fun hg1_3 h => ?_)
   ·refine zh hn [_, _, _, (7, .v (.int .i64 n)), (8, .v (.int .i64 lo)), (9, .v (.bool ((decide (lo ≤ n))))), (10, .v (.bool true)), (11, .v (.int .i64 n)), (12, .v (.int .i64 hi)), (13, .v (.bool ((decide (n ≤ hi))))), (14, .v (.bool ((decide (n ≤ hi))))), (6, .v (.bool ((decide (n ≤ hi)))))] [0,1,2] [11] [zq [0] 3 7, zq [1] 4 8, zq [3,4] 5 9, zq [5] 6 10, zq [6,0] 7 11, zq [6,2] 8 12, zq [6,7,8] 9 13, zq [6,9] 10 14, zq [10] 11 6] [(_,_)] (by kernel_rfl) rfl rfl ⟨zm rfl rfl rfl,zm rfl rfl rfl,zo rfl rfl rfl rfl,zm rfl (zb hg1_3) rfl,zr 3 rfl rfl rfl (op_move _ _ _ _ rfl rfl),zr 3 rfl rfl rfl (op_move _ _ _ _ rfl rfl),zr 3 rfl rfl rfl (op_bin _ _ _ _ _ rfl rfl rfl),zk true rfl rfl rfl,za rfl rfl rfl,trivial⟩ ?_
    exact hl3 _ (Option.some.inj h).symm
   ·refine zh hn [_, _, _, (7, .v (.int .i64 n)), (8, .v (.int .i64 lo)), (9, .v (.bool ((decide (lo ≤ n))))), (10, .v (.bool false)), (11, .v undef), (12, .v undef), (13, .v undef), (14, .v (.bool false)), (6, .v (.bool false))] [0,1,2] [11] [zq [0] 3 7, zq [1] 4 8, zq [3,4] 5 9, zq [5] 6 10, zq [6] 7 11, zq [6] 8 12, zq [6] 9 13, zq [6] 10 14, zq [10] 11 6] [(_,_)] (by kernel_rfl) rfl rfl ⟨zm rfl rfl rfl,zm rfl rfl rfl,zo rfl rfl rfl rfl,zm rfl (zb hg1_3) rfl,zs 3 true rfl rfl rfl rfl,zs 3 true rfl rfl rfl rfl,zs 3 true rfl rfl rfl rfl,zk false rfl rfl rfl,za rfl rfl rfl,trivial⟩ ?_
    exact hl3 _ (Option.some.inj h).symm
set_option maxHeartbeats 1000000 in
theorem ok_wherryref11_letter (c : Int) (r : Bool) (h : Sh.wherryref11_letter c = some r) : FnOK Tryz.prog 40 [.v (.int .u8 c)] (.v (.bool r)) := by
  unfold Sh.wherryref11_letter at h
  refine fn_ok Tryz.func40 rfl (zl rfl) rfl rfl fun g0 hn hio => ?_
  refine ht_seq ?_
  refine zh hn [_, (2, .v (.bool false))] [0] [0] [zq [] 1 2] [(_,_)] (by kernel_rfl) rfl rfl ⟨za rfl rfl rfl,trivial⟩ ?_
  refine pt_then ?_
  refine ht_seq ?_
  refine ht_joinS h (fun (s1 : Bool) => [(2, .v (.bool s1))]) ?_ ?_
  ·rintro s1 h
   refine pt_then ?_
   refine ht_ret ?_
   obtain rfl := Option.some.inj h
   exact pt_ret hio rfl (.tmp _ _ .nil) rfl rfl
  ·intro u2 h hl3 hr4
   refine cond_some h (fun hg1_2 h => ?_) (fun hg1_2 h => ?_)
   ·refine cond_some h (fun hg1_6 h => ?_) (fun hg1_6 h => ?_)
    ·refine zh hn (_ :: (3, .v (.int .u8 c)) :: (4, .v (.bool ((decide (97 ≤ c))))) :: (5, .v (.bool true)) :: (6, .v (.int .u8 c)) :: (7, .v (.bool ((decide (c ≤ 122))))) :: (8, .v (.bool ((decide (c ≤ 122))))) :: (9, .v (.bool true)) :: (10, .v undef) :: (11, .v undef) :: (12, .v undef) :: (13, .v undef) :: (14, .v undef) :: (15, .v undef) :: (16, .v (.bool true)) :: (2, .v (.bool true)) :: []) [0] [15] (zq [0] 1 3 :: zq [1] 2 4 :: zq [2] 3 5 :: zq [3,0] 4 6 :: zq [3,4] 5 7 :: zq [3,5] 6 8 :: zq [6] 7 9 :: zq [7] 8 10 :: zq [7] 9 11 :: zq [7] 10 12 :: zq [10] 11 13 :: zq [10] 12 14 :: zq [7] 13 15 :: zq [7] 14 16 :: zq [14] 15 2 :: []) [(_,_)] (by kernel_rfl) rfl rfl ⟨zm rfl rfl rfl,zo rfl rfl rfl rfl,zm rfl (zb hg1_2) rfl,zr 2 rfl rfl rfl (op_move _ _ _ _ rfl rfl),zr 2 rfl rfl rfl (op_bin _ _ _ _ _ rfl rfl rfl),zk true rfl rfl rfl,zm rfl (zb hg1_6) rfl,zs 6 false rfl rfl rfl rfl,zs 6 false rfl rfl rfl rfl,zs 6 false rfl rfl rfl rfl,zu 9 rfl rfl rfl rfl,zu 9 rfl rfl rfl rfl,zs 6 false rfl rfl rfl rfl,zk true rfl rfl rfl,za rfl rfl rfl,trivial⟩ ?_
     exact hl3 _ (Option.some.inj h).symm
    ·refine cond_some h (fun hg1_9 h => ?_) (fun hg1_9 h => ?_)
     ·refine zh hn (_ :: (3, .v (.int .u8 c)) :: (4, .v (.bool ((decide (97 ≤ c))))) :: (5, .v (.bool true)) :: (6, .v (.int .u8 c)) :: (7, .v (.bool ((decide (c ≤ 122))))) :: (8, .v (.bool ((decide (c ≤ 122))))) :: (9, .v (.bool false)) :: (10, .v (.int .u8 c)) :: (11, .v (.bool ((decide (65 ≤ c))))) :: (12, .v (.bool true)) :: (13, .v (.int .u8 c)) :: (14, .v (.bool ((decide (c ≤ 90))))) :: (15, .v (.bool ((decide (c ≤ 90))))) :: (16, .v (.bool ((decide (c ≤ 90))))) :: (2, .v (.bool ((decide (c ≤ 90))))) :: []) [0] [15] (zq [0] 1 3 :: zq [1] 2 4 :: zq [2] 3 5 :: zq [3,0] 4 6 :: zq [3,4] 5 7 :: zq [3,5] 6 8 :: zq [6] 7 9 :: zq [7,0] 8 10 :: zq [7,8] 9 11 :: zq [7,9] 10 12 :: zq [10,0] 11 13 :: zq [10,11] 12 14 :: zq [7,10,12] 13 15 :: zq [7,13] 14 16 :: zq [14] 15 2 :: []) [(_,_)] (by kernel_rfl) rfl rfl ⟨zm rfl rfl rfl,zo rfl rfl rfl rfl,zm rfl (zb hg1_2) rfl,zr 2 rfl rfl rfl (op_move _ _ _ _ rfl rfl),zr 2 rfl rfl rfl (op_bin _ _ _ _ _ rfl rfl rfl),zk true rfl rfl rfl,zm rfl (zb hg1_6) rfl,zr 6 rfl rfl rfl (op_move _ _ _ _ rfl rfl),zr 6 rfl rfl rfl (op_bin _ _ _ _ _ rfl rfl rfl),zr 6 rfl rfl rfl (op_move _ _ _ _ (zb hg1_9) rfl),zr 9 rfl rfl rfl (op_move _ _ _ _ rfl rfl),zr 9 rfl rfl rfl (op_bin _ _ _ _ _ rfl rfl rfl),zr 6 rfl rfl rfl (op_pick _ _ true _ rfl rfl),zk false rfl rfl rfl,za rfl rfl rfl,trivial⟩ ?_
      exact hl3 _ (Option.some.inj h).symm
     ·refine zh hn (_ :: (3, .v (.int .u8 c)) :: (4, .v (.bool ((decide (97 ≤ c))))) :: (5, .v (.bool true)) :: (6, .v (.int .u8 c)) :: (7, .v (.bool ((decide (c ≤ 122))))) :: (8, .v (.bool ((decide (c ≤ 122))))) :: (9, .v (.bool false)) :: (10, .v (.int .u8 c)) :: (11, .v (.bool ((decide (65 ≤ c))))) :: (12, .v (.bool false)) :: (13, .v undef) :: (14, .v undef) :: (15, .v (.bool false)) :: (16, .v (.bool false)) :: (2, .v (.bool false)) :: []) [0] [15] (zq [0] 1 3 :: zq [1] 2 4 :: zq [2] 3 5 :: zq [3,0] 4 6 :: zq [3,4] 5 7 :: zq [3,5] 6 8 :: zq [6] 7 9 :: zq [7,0] 8 10 :: zq [7,8] 9 11 :: zq [7,9] 10 12 :: zq [10] 11 13 :: zq [10] 12 14 :: zq [7,10] 13 15 :: zq [7,13] 14 16 :: zq [14] 15 2 :: []) [(_,_)] (by kernel_rfl) rfl rfl ⟨zm rfl rfl rfl,zo rfl rfl rfl rfl,zm rfl (zb hg1_2) rfl,zr 2 rfl rfl rfl (op_move _ _ _ _ rfl rfl),zr 2 rfl rfl rfl (op_bin _ _ _ _ _ rfl rfl rfl),zk true rfl rfl rfl,zm rfl (zb hg1_6) rfl,zr 6 rfl rfl rfl (op_move _ _ _ _ rfl rfl),zr 6 rfl rfl rfl (op_bin _ _ _ _ _ rfl rfl rfl),zr 6 rfl rfl rfl (op_move _ _ _ _ (zb hg1_9) rfl),zs 9 true rfl rfl rfl rfl,zs 9 true rfl rfl rfl rfl,zr 6 rfl rfl rfl (op_pick _ _ false _ rfl rfl),zk false rfl rfl rfl,za rfl rfl rfl,trivial⟩ ?_
      exact hl3 _ (Option.some.inj h).symm
   ·refine cond_some h (fun hg1_9 h => ?_) (fun hg1_9 h => ?_)
    ·refine zh hn (_ :: (3, .v (.int .u8 c)) :: (4, .v (.bool ((decide (97 ≤ c))))) :: (5, .v (.bool false)) :: (6, .v undef) :: (7, .v undef) :: (8, .v (.bool false)) :: (9, .v (.bool false)) :: (10, .v (.int .u8 c)) :: (11, .v (.bool ((decide (65 ≤ c))))) :: (12, .v (.bool true)) :: (13, .v (.int .u8 c)) :: (14, .v (.bool ((decide (c ≤ 90))))) :: (15, .v (.bool ((decide (c ≤ 90))))) :: (16, .v (.bool ((decide (c ≤ 90))))) :: (2, .v (.bool ((decide (c ≤ 90))))) :: []) [0] [15] (zq [0] 1 3 :: zq [1] 2 4 :: zq [2] 3 5 :: zq [3] 4 6 :: zq [3] 5 7 :: zq [3] 6 8 :: zq [6] 7 9 :: zq [7,0] 8 10 :: zq [7,8] 9 11 :: zq [7,9] 10 12 :: zq [10,0] 11 13 :: zq [10,11] 12 14 :: zq [7,10,12] 13 15 :: zq [7,13] 14 16 :: zq [14] 15 2 :: []) [(_,_)] (by kernel_rfl) rfl rfl ⟨zm rfl rfl rfl,zo rfl rfl rfl rfl,zm rfl (zb hg1_2) rfl,zs 2 true rfl rfl rfl rfl,zs 2 true rfl rfl rfl rfl,zk false rfl rfl rfl,zm rfl rfl rfl,zr 6 rfl rfl rfl (op_move _ _ _ _ rfl rfl),zr 6 rfl rfl rfl (op_bin _ _ _ _ _ rfl rfl rfl),zr 6 rfl rfl rfl (op_move _ _ _ _ (zb hg1_9) rfl),zr 9 rfl rfl rfl (op_move _ _ _ _ rfl rfl),zr 9 rfl rfl rfl (op_bin _ _ _ _ _ rfl rfl rfl),zr 6 rfl rfl rfl (op_pick _ _ true _ rfl rfl),zk false rfl rfl rfl,za rfl rfl rfl,trivial⟩ ?_
     exact hl3 _ (Option.some.inj h).symm
    ·refine zh hn (_ :: (3, .v (.int .u8 c)) :: (4, .v (.bool ((decide (97 ≤ c))))) :: (5, .v (.bool false)) :: (6, .v undef) :: (7, .v undef) :: (8, .v (.bool false)) :: (9, .v (.bool false)) :: (10, .v (.int .u8 c)) :: (11, .v (.bool ((decide (65 ≤ c))))) :: (12, .v (.bool false)) :: (13, .v undef) :: (14, .v undef) :: (15, .v (.bool false)) :: (16, .v (.bool false)) :: (2, .v (.bool false)) :: []) [0] [15] (zq [0] 1 3 :: zq [1] 2 4 :: zq [2] 3 5 :: zq [3] 4 6 :: zq [3] 5 7 :: zq [3] 6 8 :: zq [6] 7 9 :: zq [7,0] 8 10 :: zq [7,8] 9 11 :: zq [7,9] 10 12 :: zq [10] 11 13 :: zq [10] 12 14 :: zq [7,10] 13 15 :: zq [7,13] 14 16 :: zq [14] 15 2 :: []) [(_,_)] (by kernel_rfl) rfl rfl ⟨zm rfl rfl rfl,zo rfl rfl rfl rfl,zm rfl (zb hg1_2) rfl,zs 2 true rfl rfl rfl rfl,zs 2 true rfl rfl rfl rfl,zk false rfl rfl rfl,zm rfl rfl rfl,zr 6 rfl rfl rfl (op_move _ _ _ _ rfl rfl),zr 6 rfl rfl rfl (op_bin _ _ _ _ _ rfl rfl rfl),zr 6 rfl rfl rfl (op_move _ _ _ _ (zb hg1_9) rfl),zs 9 true rfl rfl rfl rfl,zs 9 true rfl rfl rfl rfl,zr 6 rfl rfl rfl (op_pick _ _ false _ rfl rfl),zk false rfl rfl rfl,za rfl rfl rfl,trivial⟩ ?_
     exact hl3 _ (Option.some.inj h).symm
set_option maxHeartbeats 1000000 in
theorem ok_wherryref11_digit (c : Int) (r : Bool) (h : Sh.wherryref11_digit c = some r) : FnOK Tryz.prog 41 [.v (.int .u8 c)] (.v (.bool r)) := by
  unfold Sh.wherryref11_digit at h
  refine fn_ok Tryz.func41 rfl (zl rfl) rfl rfl fun g0 hn hio => ?_
  refine ht_seq ?_
  refine zh hn [_, (2, .v (.bool false))] [0] [0] [zq [] 1 2] [(_,_)] (by kernel_rfl) rfl rfl ⟨za rfl rfl rfl,trivial⟩ ?_
  refine pt_then ?_
  refine ht_seq ?_
  refine ht_joinS h (fun (s1 : Bool) => [(2, .v (.bool s1))]) ?_ ?_
  ·rintro s1 h
   refine pt_then ?_
   refine ht_ret ?_
   obtain rfl := Option.some.inj h
   exact pt_ret hio rfl (.tmp _ _ .nil) rfl rfl
  ·intro u2 h hl3 hr4
   refine cond_some h (fun hg1_2 h => ?_) (fun hg1_2 h => ?_)
   ·refine zh hn [_, (3, .v (.int .u8 c)), (4, .v (.bool ((decide (48 ≤ c))))), (5, .v (.bool true)), (6, .v (.int .u8 c)), (7, .v (.bool ((decide (c ≤ 57))))), (8, .v (.bool ((decide (c ≤ 57))))), (2, .v (.bool ((decide (c ≤ 57)))))] [0] [7] [zq [0] 1 3, zq [1] 2 4, zq [2] 3 5, zq [3,0] 4 6, zq [3,4] 5 7, zq [3,5] 6 8, zq [6] 7 2] [(_,_)] (by kernel_rfl) rfl rfl ⟨zm rfl rfl rfl,zo rfl rfl rfl rfl,zm rfl (zb hg1_2) rfl,zr 2 rfl rfl rfl (op_move _ _ _ _ rfl rfl),zr 2 rfl rfl rfl (op_bin _ _ _ _ _ rfl rfl rfl),zk true rfl rfl rfl,za rfl rfl rfl,trivial⟩ ?_
    exact hl3 _ (Option.some.inj h).symm
   ·refine zh hn [_, (3, .v (.int .u8 c)), (4, .v (.bool ((decide (48 ≤ c))))), (5, .v (.bool false)), (6, .v undef), (7, .v undef), (8, .v (.bool false)), (2, .v (.bool false))] [0] [7] [zq [0] 1 3, zq [1] 2 4, zq [2] 3 5, zq [3] 4 6, zq [3] 5 7, zq [3] 6 8, zq [6] 7 2] [(_,_)] (by kernel_rfl) rfl rfl ⟨zm rfl rfl rfl,zo rfl rfl rfl rfl,zm rfl (zb hg1_2) rfl,zs 2 true rfl rfl rfl rfl,zs 2 true rfl rfl rfl rfl,zk false rfl rfl rfl,za rfl rfl rfl,trivial⟩ ?_
    exact hl3 _ (Option.some.inj h).symm
set_option maxHeartbeats 1000000 in
theorem ok_wherryref11_sign (c : Int) (r : Bool) (h : Sh.wherryref11_sign c = some r) : FnOK Tryz.prog 49 [.v (.int .u8 c)] (.v (.bool r)) := by
  unfold Sh.wherryref11_sign at h
  refine fn_ok Tryz.func49 rfl (zl rfl) rfl rfl fun g0 hn hio => ?_
  refine ht_seq ?_
  refine zh hn [_, (2, .v (.bool false))] [0] [0] [zq [] 1 2] [(_,_)] (by kernel_rfl) rfl rfl ⟨za rfl rfl rfl,trivial⟩ ?_
  refine pt_then ?_
  refine ht_seq ?_
  refine ht_seq ?_
  refine ht_joinS h (fun (s3 : Bool) => [(0, .v (.int .u8 c)), (10, .v (.bool s3))]) ?_ ?_
  ·rintro s3 h
   refine pt_then ?_
   refine ht_cond _ rfl (fun hb7 => ?_) (fun hb7 => ?_)
   ·have h := cond_t hb7 h
    refine ht_seq ?_
    refine zh hn [_, _, (2, .v (.bool true))] [0,1] [2] [zq [] 2 2] [(_,_)] (by kernel_rfl) rfl rfl ⟨za rfl rfl rfl,trivial⟩ ?_
    refine pt_then ?_
    refine ht_ret ?_
    refine pt_r_then ?_
    obtain rfl := Option.some.inj h
    exact pt_ret hio rfl (.tmp _ _ .nil) rfl rfl
   ·have h := cond_f hb7 h
    refine ht_skip ?_
    refine pt_then ?_
    refine ht_seq ?_
    refine zh hn [_, _, (3, .v (.string (⟨#[33, 35, 36, 37, 38, 39, 42, 43, 45, 47, 61, 63, 94, 95, 123, 124, 125, 126]⟩ : ByteArray)))] [0,1] [0,2] [zq [] 2 3] [(_,_),(_,_)] (by kernel_rfl) rfl rfl ⟨za rfl rfl rfl,trivial⟩ ?_
    refine pt_then ?_
    refine ht_seq ?_
    refine ht_seq ?_
    refine zh hn [_, _, (4, .v (.int .i64 0))] [0,1] [0,1,2] [zq [] 2 4] [(_,_),(_,_),(_,_)] (by kernel_rfl) rfl rfl ⟨za rfl rfl rfl,trivial⟩ ?_
    refine pt_then ?_
    refine ht_loopS h (fun (s15 : Int) => [(0, .v (.int .u8 c)), (3, .v (.string (⟨#[33, 35, 36, 37, 38, 39, 42, 43, 45, 47, 61, 63, 94, 95, 123, 124, 125, 126]⟩ : ByteArray))), (4, .v (.int .i64 s15))]) (fun (() : Unit) => [(0, .v (.int .u8 c))]) ?_ ?_
    ·rintro ⟨⟩ h
     refine pt_then ?_
     refine ht_seq ?_
     refine zh hn [_, (22, .v (.int .u8 c)), (23, .v (.bool (c == 96))), (2, .v (.bool (c == 96)))] [0] [3] [zq [0] 1 22, zq [1] 2 23, zq [2] 3 2] [(_,_)] (by kernel_rfl) rfl rfl ⟨zm rfl rfl rfl,zo rfl rfl rfl rfl,za rfl rfl rfl,trivial⟩ ?_
     refine pt_then ?_
     refine ht_ret ?_
     obtain rfl := Option.some.inj h
     exact pt_ret hio rfl (.tmp _ _ .nil) rfl rfl
    ·rintro u18 hl19 hr20 s15 rr23 h ho21
     refine ht_seq ?_
     refine ht_seq ?_
     refine zh hn [_, _, _, (11, .v (.int .i64 s15)), (12, .v (.string (⟨#[33, 35, 36, 37, 38, 39, 42, 43, 45, 47, 61, 63, 94, 95, 123, 124, 125, 126]⟩ : ByteArray))), (13, .v (.int .i64 (((⟨#[33, 35, 36, 37, 38, 39, 42, 43, 45, 47, 61, 63, 94, 95, 123, 124, 125, 126]⟩ : ByteArray).size : Int)))), (14, .v (.bool ((decide (s15 < (((⟨#[33, 35, 36, 37, 38, 39, 42, 43, 45, 47, 61, 63, 94, 95, 123, 124, 125, 126]⟩ : ByteArray).size : Int)))))))] [0,1,2] [0,1,2,6] [zq [2] 3 11, zq [1] 4 12, zq [4] 5 13, zq [3,5] 6 14] [(_,_),(_,_),(_,_),(_,_)] (by kernel_rfl) rfl rfl ⟨zm rfl rfl rfl,zm rfl rfl rfl,zp rfl (op_len_str _ _ _ Tryz.underlying9 rfl),zo rfl rfl rfl rfl,trivial⟩ ?_
     refine pt_then ?_
     refine ht_cond _ rfl (fun hb24 => ?_) (fun hb24 => ?_)
     ·have h := cond_t hb24 h
      refine ht_skip ?_
      refine pt_then ?_
      refine ht_seq ?_
      refine ht_block ?_
      refine ht_seq ?_
      obtain ⟨v9, hv9, h⟩ := bind_some h
      refine zh hn [_, _, _, _, (17, .v (.string (⟨#[33, 35, 36, 37, 38, 39, 42, 43, 45, 47, 61, 63, 94, 95, 123, 124, 125, 126]⟩ : ByteArray))), (18, .v (.int .i64 s15)), (19, .v (.int .u8 v9)), (20, .v (.int .u8 c)), (21, .v (.bool (v9 == c)))] [0,1,2,3] [0,1,2,8] [zq [1] 4 17, zq [2] 5 18, zq [4,5] 6 19, zq [0] 7 20, zq [6,7] 8 21] [(_,_),(_,_),(_,_),(_,_)] (by kernel_rfl) rfl rfl ⟨zm rfl rfl rfl,zm rfl rfl rfl,zp rfl (op_chr _ _ _ s15 _ Tryz.underlying9 rfl rfl hv9),zm rfl rfl rfl,zo rfl rfl rfl rfl,trivial⟩ ?_
      refine pt_then ?_
      refine ht_cond _ rfl (fun hb25 => ?_) (fun hb25 => ?_)
      ·have h := cond_t hb25 h
       refine ht_seq ?_
       refine zh hn [_, _, _, _, (2, .v (.bool true))] [0,1,2,3] [4] [zq [] 4 2] [(_,_)] (by kernel_rfl) rfl rfl ⟨za rfl rfl rfl,trivial⟩ ?_
       refine pt_then ?_
       refine ht_ret ?_
       refine pt_r_in ?_
       refine pt_r_then ?_
       refine pt_r_then ?_
       refine pt_r_in ?_
       refine pt_r_then ?_
       have h := hr20 _ (ho21 _ (Option.some.inj h).symm).symm
       obtain rfl := Option.some.inj h
       exact pt_ret hio rfl (.tmp _ _ .nil) rfl rfl
      ·have h := cond_f hb25 h
       refine ht_skip ?_
       refine pt_inb ?_
       refine pt_then ?_
       obtain ⟨v11, hv11, h⟩ := bind_some h
       refine zh hn [_, _, _, _, (15, .v (.int .i64 s15)), (16, .v (.int .i64 v11)), (4, .v (.int .i64 v11))] [0,1,2,3] [0,1,6] [zq [2] 4 15, zq [4] 5 16, ⟨[5], [2], [6], [(.slot 4)]⟩] [(_,_),(_,_),(_,_)] (by kernel_rfl) rfl rfl ⟨zm rfl rfl rfl,zp rfl (op_bin _ _ _ _ _ rfl rfl (ibind (f := Value.int .i64) (Option.some.inj hv11))),zp rfl (LOp.drop [_] (op_assign _ _ _ _ rfl rfl)),trivial⟩ ?_
       exact pt_next _ (Option.some.inj h).symm rfl
     ·have h := cond_f hb24 h
      refine ht_exit ?_
      refine pt_x_then ?_
      refine pt_x_then ?_
      refine pt_x_in ?_
      refine pt_pick [0] (by kernel_rfl) (es' := [(_, _)]) rfl ?_
      exact hl19 _ (ho21 _ (Option.some.inj h).symm).symm
  ·intro u4 h hl5 hr6
   obtain ⟨v1, hv1, h⟩ := bind_some h
   refine cond_some h (fun hg1_2 h => ?_) (fun hg1_2 h => ?_)
   ·refine zh hn [_, (5, .v (.int .u8 c)), (6, .v (.bool v1)), (7, .v (.bool true)), (8, .v undef), (9, .v undef), (10, .v (.bool true))] [0] [0,6] [zq [0] 1 5, zq [1] 2 6, zq [2] 3 7, zq [3] 4 8, zq [3] 5 9, zq [3] 6 10] [(_,_),(_,_)] (by kernel_rfl) rfl rfl ⟨zm rfl rfl rfl,zp rfl (op_call _ _ 40 _ _ rfl Tryz.call40 rfl (ok_wherryref11_letter c _ hv1) rfl rfl),zm rfl (zb hg1_2) rfl,zs 2 false rfl rfl rfl rfl,zs 2 false rfl rfl rfl rfl,zk true rfl rfl rfl,trivial⟩ ?_
    exact hl5 _ (Option.some.inj h).symm
   ·obtain ⟨v2, hv2, h⟩ := bind_some h
    refine zh hn [_, (5, .v (.int .u8 c)), (6, .v (.bool v1)), (7, .v (.bool false)), (8, .v (.int .u8 c)), (9, .v (.bool v2)), (10, .v (.bool v2))] [0] [0,6] [zq [0] 1 5, zq [1] 2 6, zq [2] 3 7, zq [3,0] 4 8, zq [3,4] 5 9, zq [3,5] 6 10] [(_,_),(_,_)] (by kernel_rfl) rfl rfl ⟨zm rfl rfl rfl,zp rfl (op_call _ _ 40 _ _ rfl Tryz.call40 rfl (ok_wherryref11_letter c _ hv1) rfl rfl),zm rfl (zb hg1_2) rfl,zr 2 rfl rfl rfl (op_move _ _ _ _ rfl rfl),zr 2 rfl rfl rfl (op_call _ _ 41 _ _ rfl Tryz.call41 rfl (ok_wherryref11_digit c _ hv2) rfl rfl),zk false rfl rfl rfl,trivial⟩ ?_
    exact hl5 _ (Option.some.inj h).symm
set_option maxHeartbeats 1000000 in
theorem ok_wherryref11_Local (s : ByteArray) (r : Bool) (h : Sh.wherryref11_Local s = some r) : FnOK Tryz.prog 32 [.v (.string s)] (.v (.bool r)) := by
  unfold Sh.wherryref11_Local at h
  refine fn_ok Tryz.func32 rfl (zl rfl) rfl rfl fun g0 hn hio => ?_
  refine ht_seq ?_
  refine zh hn [_, (2, .v (.bool false))] [0] [0] [zq [] 1 2] [(_,_)] (by kernel_rfl) rfl rfl ⟨za rfl rfl rfl,trivial⟩ ?_
  refine pt_then ?_
  refine ht_seq ?_
  refine ht_seq ?_
  refine ht_joinS h (fun (s5 : Bool) => [(0, .v (.string s)), (20, .v (.bool s5))]) ?_ ?_
  ·rintro s5 h
   refine pt_then ?_
   refine ht_cond _ rfl (fun hb9 => ?_) (fun hb9 => ?_)
   ·have h := cond_t hb9 h
    refine ht_seq ?_
    refine zh hn [_, _, (2, .v (.bool false))] [0,1] [2] [zq [] 2 2] [(_,_)] (by kernel_rfl) rfl rfl ⟨za rfl rfl rfl,trivial⟩ ?_
    refine pt_then ?_
    refine ht_ret ?_
    refine pt_r_then ?_
    obtain rfl := Option.some.inj h
    exact pt_ret hio rfl (.tmp _ _ .nil) rfl rfl
   ·have h := cond_f hb9 h
    refine ht_skip ?_
    refine pt_then ?_
    refine ht_seq ?_
    refine ht_seq ?_
    refine zh hn [_, _, (3, .v (.int .i64 0))] [0,1] [0,2] [zq [] 2 3] [(_,_),(_,_)] (by kernel_rfl) rfl rfl ⟨za rfl rfl rfl,trivial⟩ ?_
    refine pt_then ?_
    refine ht_loopS h (fun (s33 : Int) => [(0, .v (.string s)), (3, .v (.int .i64 s33))]) (fun (() : Unit) => []) ?_ ?_
    ·rintro ⟨⟩ h
     refine pt_then ?_
     refine ht_seq ?_
     refine zh hn [(2, .v (.bool true))] [] [0] [zq [] 0 2] [(_,_)] (by kernel_rfl) rfl rfl ⟨za rfl rfl rfl,trivial⟩ ?_
     refine pt_then ?_
     refine ht_ret ?_
     obtain rfl := Option.some.inj h
     exact pt_ret hio rfl (.tmp _ _ .nil) rfl rfl
    ·rintro u40 hl41 hr42 s33 rr45 h ho43
     refine ht_seq ?_
     refine ht_seq ?_
     refine zh hn [_, _, (21, .v (.int .i64 s33)), (22, .v (.string s)), (23, .v (.int .i64 (s.size : Int))), (24, .v (.bool ((decide (s33 < (s.size : Int))))))] [0,1] [0,1,5] [zq [1] 2 21, zq [0] 3 22, zq [3] 4 23, zq [2,4] 5 24] [(_,_),(_,_),(_,_)] (by kernel_rfl) rfl rfl ⟨zm rfl rfl rfl,zm rfl rfl rfl,zp rfl (op_len_str _ _ _ Tryz.underlying9 rfl),zo rfl rfl rfl rfl,trivial⟩ ?_
     refine pt_then ?_
     refine ht_cond _ rfl (fun hb46 => ?_) (fun hb46 => ?_)
     ·have h := cond_t hb46 h
      refine ht_skip ?_
      refine pt_then ?_
      refine ht_seq ?_
      refine ht_block ?_
      refine ht_seq ?_
      refine ht_joinS h (fun (s47 : Bool) => [(0, .v (.string s)), (3, .v (.int .i64 s33)), (50, .v (.bool s47))]) ?_ ?_
      ·rintro s47 h
       refine pt_then ?_
       refine ht_cond _ rfl (fun hb51 => ?_) (fun hb51 => ?_)
       ·have h := cond_t hb51 h
        refine ht_seq ?_
        refine zh hn [_, _, _, (2, .v (.bool false))] [0,1,2] [3] [zq [] 3 2] [(_,_)] (by kernel_rfl) rfl rfl ⟨za rfl rfl rfl,trivial⟩ ?_
        refine pt_then ?_
        refine ht_ret ?_
        refine pt_r_in ?_
        refine pt_r_then ?_
        refine pt_r_then ?_
        refine pt_r_in ?_
        refine pt_r_then ?_
        have h := hr42 _ (ho43 _ (Option.some.inj h).symm).symm
        obtain rfl := Option.some.inj h
        exact pt_ret hio rfl (.tmp _ _ .nil) rfl rfl
       ·have h := cond_f hb51 h
        refine ht_skip ?_
        refine pt_inb ?_
        refine pt_then ?_
        obtain ⟨v25, hv25, h⟩ := bind_some h
        refine zh hn [_, _, _, (25, .v (.int .i64 s33)), (26, .v (.int .i64 v25)), (3, .v (.int .i64 v25))] [0,1,2] [0,5] [zq [1] 3 25, zq [3] 4 26, ⟨[4], [1], [5], [(.slot 3)]⟩] [(_,_),(_,_)] (by kernel_rfl) rfl rfl ⟨zm rfl rfl rfl,zp rfl (op_bin _ _ _ _ _ rfl rfl (ibind (f := Value.int .i64) (Option.some.inj hv25))),zp rfl (LOp.drop [_] (op_assign _ _ _ _ rfl rfl)),trivial⟩ ?_
        exact pt_next _ (Option.some.inj h).symm rfl
      ·intro u48 h hl49 hr50
       obtain ⟨v11, hv11, h⟩ := bind_some h
       refine cond_some h (fun hg6_4 h => ?_) (fun hg6_4 h => ?_)
       ·obtain ⟨v12, hv12, h⟩ := bind_some h
        obtain ⟨v13, hv13, h⟩ := bind_some h
        refine cond_some h (fun hg6_11 h => ?_) (fun hg6_11 h => ?_)
        ·refine zh hn (_ :: _ :: _ :: (27, .v (.string s)) :: (28, .v (.int .i64 s33)) :: (29, .v (.int .u8 v11)) :: (30, .v (.bool (v11 == 46))) :: (31, .v (.bool true)) :: (32, .v (.string s)) :: (33, .v (.int .i64 s33)) :: (34, .v (.int .i64 v12)) :: (35, .v (.int .u8 v13)) :: (36, .v (.bool (v13 == 46))) :: (37, .v (.bool (v13 == 46))) :: (38, .v (.bool true)) :: (39, .v undef) :: (40, .v undef) :: (41, .v undef) :: (42, .v undef) :: (43, .v undef) :: (44, .v undef) :: (45, .v undef) :: (46, .v undef) :: (47, .v undef) :: (48, .v undef) :: (49, .v undef) :: (50, .v (.bool true)) :: []) [0,1,2] [0,1,26] (zq [0] 3 27 :: zq [1] 4 28 :: zq [3,4] 5 29 :: zq [5] 6 30 :: zq [6] 7 31 :: zq [7,0] 8 32 :: zq [7,1] 9 33 :: zq [7,9] 10 34 :: zq [7,8,10] 11 35 :: zq [7,11] 12 36 :: zq [7,12] 13 37 :: zq [13] 14 38 :: zq [14] 15 39 :: zq [14] 16 40 :: zq [14] 17 41 :: zq [14] 18 42 :: zq [14] 19 43 :: zq [19] 20 44 :: zq [19] 21 45 :: zq [19] 22 46 :: zq [19] 23 47 :: zq [19] 24 48 :: zq [14] 25 49 :: zq [14] 26 50 :: []) [(_,_),(_,_),(_,_)] (by kernel_rfl) rfl rfl ⟨zm rfl rfl rfl,zm rfl rfl rfl,zp rfl (op_chr _ _ _ s33 _ Tryz.underlying9 rfl rfl hv11),zo rfl rfl rfl rfl,zm rfl (zb hg6_4) rfl,zr 4 rfl rfl rfl (op_move _ _ _ _ rfl rfl),zr 4 rfl rfl rfl (op_move _ _ _ _ rfl rfl),zr 4 rfl rfl rfl (op_bin _ _ _ _ _ rfl rfl (ibind (f := Value.int .i64) (Option.some.inj hv12))),zr 4 rfl rfl rfl (op_chr _ _ _ v12 _ Tryz.underlying9 rfl rfl hv13),zr 4 rfl rfl rfl (op_bin _ _ _ _ _ rfl rfl rfl),zk true rfl rfl rfl,zm rfl (zb hg6_11) rfl,zs 11 false rfl rfl rfl rfl,zs 11 false rfl rfl rfl rfl,zs 11 false rfl rfl rfl rfl,zs 11 false rfl rfl rfl rfl,zs 11 false rfl rfl rfl rfl,zu 16 rfl rfl rfl rfl,zu 16 rfl rfl rfl rfl,zu 16 rfl rfl rfl rfl,zu 16 rfl rfl rfl rfl,zu 16 rfl rfl rfl rfl,zs 11 false rfl rfl rfl rfl,zk true rfl rfl rfl,trivial⟩ ?_
         exact hl49 _ (Option.some.inj h).symm
        ·obtain ⟨v14, hv14, h⟩ := bind_some h
         refine cond_some h (fun hg6_16 h => ?_) (fun hg6_16 h => ?_)
         ·obtain ⟨v15, hv15, h⟩ := bind_some h
          obtain ⟨v16, hv16, h⟩ := bind_some h
          refine zh hn (_ :: _ :: _ :: (27, .v (.string s)) :: (28, .v (.int .i64 s33)) :: (29, .v (.int .u8 v11)) :: (30, .v (.bool (v11 == 46))) :: (31, .v (.bool true)) :: (32, .v (.string s)) :: (33, .v (.int .i64 s33)) :: (34, .v (.int .i64 v12)) :: (35, .v (.int .u8 v13)) :: (36, .v (.bool (v13 == 46))) :: (37, .v (.bool (v13 == 46))) :: (38, .v (.bool false)) :: (39, .v (.string s)) :: (40, .v (.int .i64 s33)) :: (41, .v (.int .u8 v14)) :: (42, .v (.bool (v14 != 46))) :: (43, .v (.bool true)) :: (44, .v (.string s)) :: (45, .v (.int .i64 s33)) :: (46, .v (.int .u8 v15)) :: (47, .v (.bool v16)) :: (48, .v (.bool (!v16))) :: (49, .v (.bool (!v16))) :: (50, .v (.bool (!v16))) :: []) [0,1,2] [0,1,26] (zq [0] 3 27 :: zq [1] 4 28 :: zq [3,4] 5 29 :: zq [5] 6 30 :: zq [6] 7 31 :: zq [7,0] 8 32 :: zq [7,1] 9 33 :: zq [7,9] 10 34 :: zq [7,8,10] 11 35 :: zq [7,11] 12 36 :: zq [7,12] 13 37 :: zq [13] 14 38 :: zq [14,0] 15 39 :: zq [14,1] 16 40 :: zq [14,15,16] 17 41 :: zq [14,17] 18 42 :: zq [14,18] 19 43 :: zq [19,0] 20 44 :: zq [19,1] 21 45 :: zq [19,20,21] 22 46 :: zq [19,22] 23 47 :: zq [19,23] 24 48 :: zq [14,19,24] 25 49 :: zq [14,25] 26 50 :: []) [(_,_),(_,_),(_,_)] (by kernel_rfl) rfl rfl ⟨zm rfl rfl rfl,zm rfl rfl rfl,zp rfl (op_chr _ _ _ s33 _ Tryz.underlying9 rfl rfl hv11),zo rfl rfl rfl rfl,zm rfl (zb hg6_4) rfl,zr 4 rfl rfl rfl (op_move _ _ _ _ rfl rfl),zr 4 rfl rfl rfl (op_move _ _ _ _ rfl rfl),zr 4 rfl rfl rfl (op_bin _ _ _ _ _ rfl rfl (ibind (f := Value.int .i64) (Option.some.inj hv12))),zr 4 rfl rfl rfl (op_chr _ _ _ v12 _ Tryz.underlying9 rfl rfl hv13),zr 4 rfl rfl rfl (op_bin _ _ _ _ _ rfl rfl rfl),zk true rfl rfl rfl,zm rfl (zb hg6_11) rfl,zr 11 rfl rfl rfl (op_move _ _ _ _ rfl rfl),zr 11 rfl rfl rfl (op_move _ _ _ _ rfl rfl),zr 11 rfl rfl rfl (op_chr _ _ _ s33 _ Tryz.underlying9 rfl rfl hv14),zr 11 rfl rfl rfl (op_bin _ _ _ _ _ rfl rfl rfl),zr 11 rfl rfl rfl (op_move _ _ _ _ (zb hg6_16) rfl),zr 16 rfl rfl rfl (op_move _ _ _ _ rfl rfl),zr 16 rfl rfl rfl (op_move _ _ _ _ rfl rfl),zr 16 rfl rfl rfl (op_chr _ _ _ s33 _ Tryz.underlying9 rfl rfl hv15),zr 16 rfl rfl rfl (op_call _ _ 49 _ _ rfl Tryz.call49 rfl (ok_wherryref11_sign v15 _ hv16) rfl rfl),zr 16 rfl rfl rfl (op_un _ _ _ _ rfl rfl),zr 11 rfl rfl rfl (op_pick _ _ true _ rfl rfl),zk false rfl rfl rfl,trivial⟩ ?_
          exact hl49 _ (Option.some.inj h).symm
         ·refine zh hn (_ :: _ :: _ :: (27, .v (.string s)) :: (28, .v (.int .i64 s33)) :: (29, .v (.int .u8 v11)) :: (30, .v (.bool (v11 == 46))) :: (31, .v (.bool true)) :: (32, .v (.string s)) :: (33, .v (.int .i64 s33)) :: (34, .v (.int .i64 v12)) :: (35, .v (.int .u8 v13)) :: (36, .v (.bool (v13 == 46))) :: (37, .v (.bool (v13 == 46))) :: (38, .v (.bool false)) :: (39, .v (.string s)) :: (40, .v (.int .i64 s33)) :: (41, .v (.int .u8 v14)) :: (42, .v (.bool (v14 != 46))) :: (43, .v (.bool false)) :: (44, .v undef) :: (45, .v undef) :: (46, .v undef) :: (47, .v undef) :: (48, .v undef) :: (49, .v (.bool false)) :: (50, .v (.bool false)) :: []) [0,1,2] [0,1,26] (zq [0] 3 27 :: zq [1] 4 28 :: zq [3,4] 5 29 :: zq [5] 6 30 :: zq [6] 7 31 :: zq [7,0] 8 32 :: zq [7,1] 9 33 :: zq [7,9] 10 34 :: zq [7,8,10] 11 35 :: zq [7,11] 12 36 :: zq [7,12] 13 37 :: zq [13] 14 38 :: zq [14,0] 15 39 :: zq [14,1] 16 40 :: zq [14,15,16] 17 41 :: zq [14,17] 18 42 :: zq [14,18] 19 43 :: zq [19] 20 44 :: zq [19] 21 45 :: zq [19] 22 46 :: zq [19] 23 47 :: zq [19] 24 48 :: zq [14,19] 25 49 :: zq [14,25] 26 50 :: []) [(_,_),(_,_),(_,_)] (by kernel_rfl) rfl rfl ⟨zm rfl rfl rfl,zm rfl rfl rfl,zp rfl (op_chr _ _ _ s33 _ Tryz.underlying9 rfl rfl hv11),zo rfl rfl rfl rfl,zm rfl (zb hg6_4) rfl,zr 4 rfl rfl rfl (op_move _ _ _ _ rfl rfl),zr 4 rfl rfl rfl (op_move _ _ _ _ rfl rfl),zr 4 rfl rfl rfl (op_bin _ _ _ _ _ rfl rfl (ibind (f := Value.int .i64) (Option.some.inj hv12))),zr 4 rfl rfl rfl (op_chr _ _ _ v12 _ Tryz.underlying9 rfl rfl hv13),zr 4 rfl rfl rfl (op_bin _ _ _ _ _ rfl rfl rfl),zk true rfl rfl rfl,zm rfl (zb hg6_11) rfl,zr 11 rfl rfl rfl (op_move _ _ _ _ rfl rfl),zr 11 rfl rfl rfl (op_move _ _ _ _ rfl rfl),zr 11 rfl rfl rfl (op_chr _ _ _ s33 _ Tryz.underlying9 rfl rfl hv14),zr 11 rfl rfl rfl (op_bin _ _ _ _ _ rfl rfl rfl),zr 11 rfl rfl rfl (op_move _ _ _ _ (zb hg6_16) rfl),zs 16 true rfl rfl rfl rfl,zs 16 true rfl rfl rfl rfl,zs 16 true rfl rfl rfl rfl,zs 16 true rfl rfl rfl rfl,zs 16 true rfl rfl rfl rfl,zr 11 rfl rfl rfl (op_pick _ _ false _ rfl rfl),zk false rfl rfl rfl,trivial⟩ ?_
          exact hl49 _ (Option.some.inj h).symm
       ·obtain ⟨v17, hv17, h⟩ := bind_some h
        refine cond_some h (fun hg6_16 h => ?_) (fun hg6_16 h => ?_)
        ·obtain ⟨v18, hv18, h⟩ := bind_some h
         obtain ⟨v19, hv19, h⟩ := bind_some h
         refine zh hn (_ :: _ :: _ :: (27, .v (.string s)) :: (28, .v (.int .i64 s33)) :: (29, .v (.int .u8 v11)) :: (30, .v (.bool (v11 == 46))) :: (31, .v (.bool false)) :: (32, .v undef) :: (33, .v undef) :: (34, .v undef) :: (35, .v undef) :: (36, .v undef) :: (37, .v (.bool false)) :: (38, .v (.bool false)) :: (39, .v (.string s)) :: (40, .v (.int .i64 s33)) :: (41, .v (.int .u8 v17)) :: (42, .v (.bool (v17 != 46))) :: (43, .v (.bool true)) :: (44, .v (.string s)) :: (45, .v (.int .i64 s33)) :: (46, .v (.int .u8 v18)) :: (47, .v (.bool v19)) :: (48, .v (.bool (!v19))) :: (49, .v (.bool (!v19))) :: (50, .v (.bool (!v19))) :: []) [0,1,2] [0,1,26] (zq [0] 3 27 :: zq [1] 4 28 :: zq [3,4] 5 29 :: zq [5] 6 30 :: zq [6] 7 31 :: zq [7] 8 32 :: zq [7] 9 33 :: zq [7] 10 34 :: zq [7] 11 35 :: zq [7] 12 36 :: zq [7] 13 37 :: zq [13] 14 38 :: zq [14,0] 15 39 :: zq [14,1] 16 40 :: zq [14,15,16] 17 41 :: zq [14,17] 18 42 :: zq [14,18] 19 43 :: zq [19,0] 20 44 :: zq [19,1] 21 45 :: zq [19,20,21] 22 46 :: zq [19,22] 23 47 :: zq [19,23] 24 48 :: zq [14,19,24] 25 49 :: zq [14,25] 26 50 :: []) [(_,_),(_,_),(_,_)] (by kernel_rfl) rfl rfl ⟨zm rfl rfl rfl,zm rfl rfl rfl,zp rfl (op_chr _ _ _ s33 _ Tryz.underlying9 rfl rfl hv11),zo rfl rfl rfl rfl,zm rfl (zb hg6_4) rfl,zs 4 true rfl rfl rfl rfl,zs 4 true rfl rfl rfl rfl,zs 4 true rfl rfl rfl rfl,zs 4 true rfl rfl rfl rfl,zs 4 true rfl rfl rfl rfl,zk false rfl rfl rfl,zm rfl rfl rfl,zr 11 rfl rfl rfl (op_move _ _ _ _ rfl rfl),zr 11 rfl rfl rfl (op_move _ _ _ _ rfl rfl),zr 11 rfl rfl rfl (op_chr _ _ _ s33 _ Tryz.underlying9 rfl rfl hv17),zr 11 rfl rfl rfl (op_bin _ _ _ _ _ rfl rfl rfl),zr 11 rfl rfl rfl (op_move _ _ _ _ (zb hg6_16) rfl),zr 16 rfl rfl rfl (op_move _ _ _ _ rfl rfl),zr 16 rfl rfl rfl (op_move _ _ _ _ rfl rfl),zr 16 rfl rfl rfl (op_chr _ _ _ s33 _ Tryz.underlying9 rfl rfl hv18),zr 16 rfl rfl rfl (op_call _ _ 49 _ _ rfl Tryz.call49 rfl (ok_wherryref11_sign v18 _ hv19) rfl rfl),zr 16 rfl rfl rfl (op_un _ _ _ _ rfl rfl),zr 11 rfl rfl rfl (op_pick _ _ true _ rfl rfl),zk false rfl rfl rfl,trivial⟩ ?_
         exact hl49 _ (Option.some.inj h).symm
        ·refine zh hn (_ :: _ :: _ :: (27, .v (.string s)) :: (28, .v (.int .i64 s33)) :: (29, .v (.int .u8 v11)) :: (30, .v (.bool (v11 == 46))) :: (31, .v (.bool false)) :: (32, .v undef) :: (33, .v undef) :: (34, .v undef) :: (35, .v undef) :: (36, .v undef) :: (37, .v (.bool false)) :: (38, .v (.bool false)) :: (39, .v (.string s)) :: (40, .v (.int .i64 s33)) :: (41, .v (.int .u8 v17)) :: (42, .v (.bool (v17 != 46))) :: (43, .v (.bool false)) :: (44, .v undef) :: (45, .v undef) :: (46, .v undef) :: (47, .v undef) :: (48, .v undef) :: (49, .v (.bool false)) :: (50, .v (.bool false)) :: []) [0,1,2] [0,1,26] (zq [0] 3 27 :: zq [1] 4 28 :: zq [3,4] 5 29 :: zq [5] 6 30 :: zq [6] 7 31 :: zq [7] 8 32 :: zq [7] 9 33 :: zq [7] 10 34 :: zq [7] 11 35 :: zq [7] 12 36 :: zq [7] 13 37 :: zq [13] 14 38 :: zq [14,0] 15 39 :: zq [14,1] 16 40 :: zq [14,15,16] 17 41 :: zq [14,17] 18 42 :: zq [14,18] 19 43 :: zq [19] 20 44 :: zq [19] 21 45 :: zq [19] 22 46 :: zq [19] 23 47 :: zq [19] 24 48 :: zq [14,19] 25 49 :: zq [14,25] 26 50 :: []) [(_,_),(_,_),(_,_)] (by kernel_rfl) rfl rfl ⟨zm rfl rfl rfl,zm rfl rfl rfl,zp rfl (op_chr _ _ _ s33 _ Tryz.underlying9 rfl rfl hv11),zo rfl rfl rfl rfl,zm rfl (zb hg6_4) rfl,zs 4 true rfl rfl rfl rfl,zs 4 true rfl rfl rfl rfl,zs 4 true rfl rfl rfl rfl,zs 4 true rfl rfl rfl rfl,zs 4 true rfl rfl rfl rfl,zk false rfl rfl rfl,zm rfl rfl rfl,zr 11 rfl rfl rfl (op_move _ _ _ _ rfl rfl),zr 11 rfl rfl rfl (op_move _ _ _ _ rfl rfl),zr 11 rfl rfl rfl (op_chr _ _ _ s33 _ Tryz.underlying9 rfl rfl hv17),zr 11 rfl rfl rfl (op_bin _ _ _ _ _ rfl rfl rfl),zr 11 rfl rfl rfl (op_move _ _ _ _ (zb hg6_16) rfl),zs 16 true rfl rfl rfl rfl,zs 16 true rfl rfl rfl rfl,zs 16 true rfl rfl rfl rfl,zs 16 true rfl rfl rfl rfl,zs 16 true rfl rfl rfl rfl,zr 11 rfl rfl rfl (op_pick _ _ false _ rfl rfl),zk false rfl rfl rfl,trivial⟩ ?_
         exact hl49 _ (Option.some.inj h).symm
     ·have h := cond_f hb46 h
      refine ht_exit ?_
      refine pt_x_then ?_
      refine pt_x_then ?_
      refine pt_x_in ?_
      refine pt_pick [] (by kernel_rfl) (es' := []) rfl ?_
      exact hl41 _ (ho43 _ (Option.some.inj h).symm).symm
  ·intro u6 h hl7 hr8
   obtain ⟨v1, hv1, h⟩ := bind_some h
   refine cond_some h (fun hg1_4 h => ?_) (fun hg1_4 h => ?_)
   ·refine zh hn (_ :: (4, .v (.string s)) :: (5, .v (.int .i64 (s.size : Int))) :: (6, .v (.bool v1)) :: (7, .v (.bool (!v1))) :: (8, .v (.bool true)) :: (9, .v undef) :: (10, .v undef) :: (11, .v undef) :: (12, .v (.bool true)) :: (13, .v (.bool true)) :: (14, .v undef) :: (15, .v undef) :: (16, .v undef) :: (17, .v undef) :: (18, .v undef) :: (19, .v undef) :: (20, .v (.bool true)) :: []) [0] [0,17] (zq [0] 1 4 :: zq [1] 2 5 :: zq [2] 3 6 :: zq [3] 4 7 :: zq [4] 5 8 :: zq [5] 6 9 :: zq [5] 7 10 :: zq [5] 8 11 :: zq [5] 9 12 :: zq [9] 10 13 :: zq [10] 11 14 :: zq [10] 12 15 :: zq [10] 13 16 :: zq [10] 14 17 :: zq [10] 15 18 :: zq [10] 16 19 :: zq [10] 17 20 :: []) [(_,_),(_,_)] (by kernel_rfl) rfl rfl ⟨zm rfl rfl rfl,zp rfl (op_len_str _ _ _ Tryz.underlying9 rfl),zp rfl (op_call _ _ 39 _ _ rfl Tryz.call39 rfl (ok_wherryref11_in (s.size : Int) 1 64 _ hv1) rfl rfl),zp rfl (op_un _ _ _ _ rfl rfl),zm rfl (zb hg1_4) rfl,zs 4 false rfl rfl rfl rfl,zs 4 false rfl rfl rfl rfl,zs 4 false rfl rfl rfl rfl,zk true rfl rfl rfl,zm rfl rfl rfl,zs 9 false rfl rfl rfl rfl,zs 9 false rfl rfl rfl rfl,zs 9 false rfl rfl rfl rfl,zs 9 false rfl rfl rfl rfl,zs 9 false rfl rfl rfl rfl,zs 9 false rfl rfl rfl rfl,zk true rfl rfl rfl,trivial⟩ ?_
    exact hl7 _ (Option.some.inj h).symm
   ·obtain ⟨v2, hv2, h⟩ := bind_some h
    refine cond_some h (fun hg1_9 h => ?_) (fun hg1_9 h => ?_)
    ·refine zh hn (_ :: (4, .v (.string s)) :: (5, .v (.int .i64 (s.size : Int))) :: (6, .v (.bool v1)) :: (7, .v (.bool (!v1))) :: (8, .v (.bool false)) :: (9, .v (.string s)) :: (10, .v (.int .u8 v2)) :: (11, .v (.bool (v2 == 46))) :: (12, .v (.bool (v2 == 46))) :: (13, .v (.bool true)) :: (14, .v undef) :: (15, .v undef) :: (16, .v undef) :: (17, .v undef) :: (18, .v undef) :: (19, .v undef) :: (20, .v (.bool true)) :: []) [0] [0,17] (zq [0] 1 4 :: zq [1] 2 5 :: zq [2] 3 6 :: zq [3] 4 7 :: zq [4] 5 8 :: zq [5,0] 6 9 :: zq [5,6] 7 10 :: zq [5,7] 8 11 :: zq [5,8] 9 12 :: zq [9] 10 13 :: zq [10] 11 14 :: zq [10] 12 15 :: zq [10] 13 16 :: zq [10] 14 17 :: zq [10] 15 18 :: zq [10] 16 19 :: zq [10] 17 20 :: []) [(_,_),(_,_)] (by kernel_rfl) rfl rfl ⟨zm rfl rfl rfl,zp rfl (op_len_str _ _ _ Tryz.underlying9 rfl),zp rfl (op_call _ _ 39 _ _ rfl Tryz.call39 rfl (ok_wherryref11_in (s.size : Int) 1 64 _ hv1) rfl rfl),zp rfl (op_un _ _ _ _ rfl rfl),zm rfl (zb hg1_4) rfl,zr 4 rfl rfl rfl (op_move _ _ _ _ rfl rfl),zr 4 rfl rfl rfl (op_chr _ _ _ 0 _ Tryz.underlying9 rfl rfl hv2),zr 4 rfl rfl rfl (op_bin _ _ _ _ _ rfl rfl rfl),zk false rfl rfl rfl,zm rfl (zb hg1_9) rfl,zs 9 false rfl rfl rfl rfl,zs 9 false rfl rfl rfl rfl,zs 9 false rfl rfl rfl rfl,zs 9 false rfl rfl rfl rfl,zs 9 false rfl rfl rfl rfl,zs 9 false rfl rfl rfl rfl,zk true rfl rfl rfl,trivial⟩ ?_
     exact hl7 _ (Option.some.inj h).symm
    ·obtain ⟨v3, hv3, h⟩ := bind_some h
     obtain ⟨v4, hv4, h⟩ := bind_some h
     refine zh hn (_ :: (4, .v (.string s)) :: (5, .v (.int .i64 (s.size : Int))) :: (6, .v (.bool v1)) :: (7, .v (.bool (!v1))) :: (8, .v (.bool false)) :: (9, .v (.string s)) :: (10, .v (.int .u8 v2)) :: (11, .v (.bool (v2 == 46))) :: (12, .v (.bool (v2 == 46))) :: (13, .v (.bool false)) :: (14, .v (.string s)) :: (15, .v (.string s)) :: (16, .v (.int .i64 (s.size : Int))) :: (17, .v (.int .i64 v3)) :: (18, .v (.int .u8 v4)) :: (19, .v (.bool (v4 == 46))) :: (20, .v (.bool (v4 == 46))) :: []) [0] [0,17] (zq [0] 1 4 :: zq [1] 2 5 :: zq [2] 3 6 :: zq [3] 4 7 :: zq [4] 5 8 :: zq [5,0] 6 9 :: zq [5,6] 7 10 :: zq [5,7] 8 11 :: zq [5,8] 9 12 :: zq [9] 10 13 :: zq [10,0] 11 14 :: zq [10,0] 12 15 :: zq [10,12] 13 16 :: zq [10,13] 14 17 :: zq [10,11,14] 15 18 :: zq [10,15] 16 19 :: zq [10,16] 17 20 :: []) [(_,_),(_,_)] (by kernel_rfl) rfl rfl ⟨zm rfl rfl rfl,zp rfl (op_len_str _ _ _ Tryz.underlying9 rfl),zp rfl (op_call _ _ 39 _ _ rfl Tryz.call39 rfl (ok_wherryref11_in (s.size : Int) 1 64 _ hv1) rfl rfl),zp rfl (op_un _ _ _ _ rfl rfl),zm rfl (zb hg1_4) rfl,zr 4 rfl rfl rfl (op_move _ _ _ _ rfl rfl),zr 4 rfl rfl rfl (op_chr _ _ _ 0 _ Tryz.underlying9 rfl rfl hv2),zr 4 rfl rfl rfl (op_bin _ _ _ _ _ rfl rfl rfl),zk false rfl rfl rfl,zm rfl (zb hg1_9) rfl,zr 9 rfl rfl rfl (op_move _ _ _ _ rfl rfl),zr 9 rfl rfl rfl (op_move _ _ _ _ rfl rfl),zr 9 rfl rfl rfl (op_len_str _ _ _ Tryz.underlying9 rfl),zr 9 rfl rfl rfl (op_bin _ _ _ _ _ rfl rfl (ibind (f := Value.int .i64) (Option.some.inj hv3))),zr 9 rfl rfl rfl (op_chr _ _ _ v3 _ Tryz.underlying9 rfl rfl hv4),zr 9 rfl rfl rfl (op_bin _ _ _ _ _ rfl rfl rfl),zk false rfl rfl rfl,trivial⟩ ?_
     exact hl7 _ (Option.some.inj h).symm
set_option maxHeartbeats 1000000 in
theorem ok_wherryref11_Domain (s : ByteArray) (r : Bool) (h : Sh.wherryref11_Domain s = some r) : FnOK Tryz.prog 24 [.v (.string s)] (.v (.bool r)) := by
  unfold Sh.wherryref11_Domain at h
  refine fn_ok Tryz.func24 rfl (zl rfl) rfl rfl fun g0 hn hio => ?_
  refine ht_seq ?_
  refine zh hn [_, (2, .v (.bool false))] [0] [0] [zq [] 1 2] [(_,_)] (by kernel_rfl) rfl rfl ⟨za rfl rfl rfl,trivial⟩ ?_
  refine pt_then ?_
  refine ht_seq ?_
  refine ht_seq ?_
  obtain ⟨v1, hv1, h⟩ := bind_some h
  refine zh hn [_, (5, .v (.string s)), (6, .v (.int .i64 (s.size : Int))), (7, .v (.bool v1)), (8, .v (.bool (!v1)))] [0] [0,4] [zq [0] 1 5, zq [1] 2 6, zq [2] 3 7, zq [3] 4 8] [(_,_),(_,_)] (by kernel_rfl) rfl rfl ⟨zm rfl rfl rfl,zp rfl (op_len_str _ _ _ Tryz.underlying9 rfl),zp rfl (op_call _ _ 39 _ _ rfl Tryz.call39 rfl (ok_wherryref11_in (s.size : Int) 1 255 _ hv1) rfl rfl),zp rfl (op_un _ _ _ _ rfl rfl),trivial⟩ ?_
  refine pt_then ?_
  refine ht_cond _ rfl (fun hb2 => ?_) (fun hb2 => ?_)
  ·have h := cond_t hb2 h
   refine ht_seq ?_
   refine zh hn [_, _, (2, .v (.bool false))] [0,1] [2] [zq [] 2 2] [(_,_)] (by kernel_rfl) rfl rfl ⟨za rfl rfl rfl,trivial⟩ ?_
   refine pt_then ?_
   refine ht_ret ?_
   refine pt_r_then ?_
   obtain rfl := Option.some.inj h
   exact pt_ret hio rfl (.tmp _ _ .nil) rfl rfl
  ·have h := cond_f hb2 h
   refine ht_skip ?_
   refine pt_then ?_
   refine ht_seq ?_
   refine zh hn [_, _, (3, .v (.int .i64 0))] [0,1] [0,2] [zq [] 2 3] [(_,_),(_,_)] (by kernel_rfl) rfl rfl ⟨za rfl rfl rfl,trivial⟩ ?_
   refine pt_then ?_
   refine ht_seq ?_
   refine ht_seq ?_
   refine zh hn [_, _, (4, .v (.int .i64 0))] [0,1] [0,1,2] [zq [] 2 4] [(_,_),(_,_),(_,_)] (by kernel_rfl) rfl rfl ⟨za rfl rfl rfl,trivial⟩ ?_
   refine pt_then ?_
   refine ht_loopS h (fun ((s88, s89) : Int × Int) => [(0, .v (.string s)), (3, .v (.int .i64 s88)), (4, .v (.int .i64 s89))]) (fun (() : Unit) => []) ?_ ?_
   ·rintro ⟨⟩ h
    refine pt_then ?_
    refine ht_seq ?_
    refine zh hn [(2, .v (.bool true))] [] [0] [zq [] 0 2] [(_,_)] (by kernel_rfl) rfl rfl ⟨za rfl rfl rfl,trivial⟩ ?_
    refine pt_then ?_
    refine ht_ret ?_
    obtain rfl := Option.some.inj h
    exact pt_ret hio rfl (.tmp _ _ .nil) rfl rfl
   ·rintro u125 hl126 hr127 ⟨s88, s89⟩ rr130 h ho128
    refine ht_seq ?_
    refine ht_seq ?_
    refine zh hn [_, _, _, (9, .v (.int .i64 s89)), (10, .v (.string s)), (11, .v (.int .i64 (s.size : Int))), (12, .v (.bool ((decide (s89 ≤ (s.size : Int))))))] [0,1,2] [0,1,2,6] [zq [2] 3 9, zq [0] 4 10, zq [4] 5 11, zq [3,5] 6 12] [(_,_),(_,_),(_,_),(_,_)] (by kernel_rfl) rfl rfl ⟨zm rfl rfl rfl,zm rfl rfl rfl,zp rfl (op_len_str _ _ _ Tryz.underlying9 rfl),zo rfl rfl rfl rfl,trivial⟩ ?_
    refine pt_then ?_
    refine ht_cond _ rfl (fun hb131 => ?_) (fun hb131 => ?_)
    ·have h := cond_t hb131 h
     refine ht_skip ?_
     refine pt_then ?_
     refine ht_seq ?_
     refine ht_joinS h (fun (s147 : Int) => [(0, .v (.string s)), (3, .v (.int .i64 s147)), (4, .v (.int .i64 s89))]) ?_ ?_
     ·rintro s147 h
      refine pt_then ?_
      obtain ⟨v50, hv50, h⟩ := bind_some h
      refine zh hn [_, _, _, (13, .v (.int .i64 s89)), (14, .v (.int .i64 v50)), (4, .v (.int .i64 v50))] [0,1,2] [0,1,5] [zq [2] 3 13, zq [3] 4 14, ⟨[4], [2], [5], [(.slot 4)]⟩] [(_,_),(_,_),(_,_)] (by kernel_rfl) rfl rfl ⟨zm rfl rfl rfl,zp rfl (op_bin _ _ _ _ _ rfl rfl (ibind (f := Value.int .i64) (Option.some.inj hv50))),zp rfl (LOp.drop [_] (op_assign _ _ _ _ rfl rfl)),trivial⟩ ?_
      exact pt_next _ (Option.some.inj h).symm rfl
     ·intro u148 h hl149 hr150
      refine ht_block ?_
      refine ht_seq ?_
      refine ht_seq ?_
      refine ht_joinS h (fun (s151 : Bool) => [(0, .v (.string s)), (3, .v (.int .i64 s88)), (4, .v (.int .i64 s89)), (24, .v (.bool s151))]) ?_ ?_
      ·rintro s151 h
       refine pt_then ?_
       refine ht_cond _ rfl (fun hb155 => ?_) (fun hb155 => ?_)
       ·have h := cond_t hb155 h
        refine ht_seq ?_
        refine ht_seq ?_
        refine ht_joinS h (fun (s156 : Bool) => [(0, .v (.string s)), (3, .v (.int .i64 s88)), (4, .v (.int .i64 s89)), (42, .v (.bool s156))]) ?_ ?_
        ·rintro s156 h
         refine pt_then ?_
         refine ht_cond _ rfl (fun hb160 => ?_) (fun hb160 => ?_)
         ·have h := cond_t hb160 h
          refine ht_seq ?_
          refine zh hn [_, _, _, _, (2, .v (.bool false))] [0,1,2,3] [4] [zq [] 4 2] [(_,_)] (by kernel_rfl) rfl rfl ⟨za rfl rfl rfl,trivial⟩ ?_
          refine pt_then ?_
          refine ht_ret ?_
          refine pt_r_then ?_
          refine pt_r_then ?_
          refine pt_r_in ?_
          refine pt_r_then ?_
          refine pt_r_then ?_
          refine pt_r_in ?_
          refine pt_r_then ?_
          have h := hr150 _ (Option.some.inj h).symm
          have h := hr127 _ (ho128 _ (Option.some.inj h).symm).symm
          obtain rfl := Option.some.inj h
          exact pt_ret hio rfl (.tmp _ _ .nil) rfl rfl
         ·have h := cond_f hb160 h
          refine ht_skip ?_
          refine pt_then ?_
          refine ht_exit ?_
          refine pt_x_then ?_
          refine pt_x_in ?_
          refine pt_pick [0, 1, 2] (by kernel_rfl) (es' := [(_, _), (_, _), (_, _)]) rfl ?_
          exact hl149 _ (Option.some.inj h).symm
        ·intro u157 h hl158 hr159
         obtain ⟨v10, hv10, h⟩ := bind_some h
         obtain ⟨v11, hv11, h⟩ := bind_some h
         refine cond_some h (fun hg8_5 h => ?_) (fun hg8_5 h => ?_)
         ·obtain ⟨v12, hv12, h⟩ := bind_some h
          obtain ⟨v13, hv13, h⟩ := bind_some h
          refine cond_some h (fun hg8_12 h => ?_) (fun hg8_12 h => ?_)
          ·obtain ⟨v14, hv14, h⟩ := bind_some h
           refine zh hn (_ :: _ :: _ :: _ :: (25, .v (.string s)) :: (26, .v (.int .i64 s89)) :: (27, .v (.int .u8 v10)) :: (28, .v (.bool v11)) :: (29, .v (.bool (!v11))) :: (30, .v (.bool true)) :: (31, .v (.string s)) :: (32, .v (.int .i64 s89)) :: (33, .v (.int .u8 v12)) :: (34, .v (.bool v13)) :: (35, .v (.bool (!v13))) :: (36, .v (.bool (!v13))) :: (37, .v (.bool true)) :: (38, .v (.string s)) :: (39, .v (.int .i64 s89)) :: (40, .v (.int .u8 v14)) :: (41, .v (.bool (v14 != 45))) :: (42, .v (.bool (v14 != 45))) :: []) [0,1,2,3] [0,1,2,21] (zq [0] 4 25 :: zq [2] 5 26 :: zq [4,5] 6 27 :: zq [6] 7 28 :: zq [7] 8 29 :: zq [8] 9 30 :: zq [9,0] 10 31 :: zq [9,2] 11 32 :: zq [9,10,11] 12 33 :: zq [9,12] 13 34 :: zq [9,13] 14 35 :: zq [9,14] 15 36 :: zq [15] 16 37 :: zq [16,0] 17 38 :: zq [16,2] 18 39 :: zq [16,17,18] 19 40 :: zq [16,19] 20 41 :: zq [16,20] 21 42 :: []) [(_,_),(_,_),(_,_),(_,_)] (by kernel_rfl) rfl rfl ⟨zm rfl rfl rfl,zm rfl rfl rfl,zp rfl (op_chr _ _ _ s89 _ Tryz.underlying9 rfl rfl hv10),zp rfl (op_call _ _ 40 _ _ rfl Tryz.call40 rfl (ok_wherryref11_letter v10 _ hv11) rfl rfl),zp rfl (op_un _ _ _ _ rfl rfl),zm rfl (zb hg8_5) rfl,zr 5 rfl rfl rfl (op_move _ _ _ _ rfl rfl),zr 5 rfl rfl rfl (op_move _ _ _ _ rfl rfl),zr 5 rfl rfl rfl (op_chr _ _ _ s89 _ Tryz.underlying9 rfl rfl hv12),zr 5 rfl rfl rfl (op_call _ _ 41 _ _ rfl Tryz.call41 rfl (ok_wherryref11_digit v12 _ hv13) rfl rfl),zr 5 rfl rfl rfl (op_un _ _ _ _ rfl rfl),zk true rfl rfl rfl,zm rfl (zb hg8_12) rfl,zr 12 rfl rfl rfl (op_move _ _ _ _ rfl rfl),zr 12 rfl rfl rfl (op_move _ _ _ _ rfl rfl),zr 12 rfl rfl rfl (op_chr _ _ _ s89 _ Tryz.underlying9 rfl rfl hv14),zr 12 rfl rfl rfl (op_bin _ _ _ _ _ rfl rfl rfl),zk true rfl rfl rfl,trivial⟩ ?_
           exact hl158 _ (Option.some.inj h).symm
          ·refine zh hn (_ :: _ :: _ :: _ :: (25, .v (.string s)) :: (26, .v (.int .i64 s89)) :: (27, .v (.int .u8 v10)) :: (28, .v (.bool v11)) :: (29, .v (.bool (!v11))) :: (30, .v (.bool true)) :: (31, .v (.string s)) :: (32, .v (.int .i64 s89)) :: (33, .v (.int .u8 v12)) :: (34, .v (.bool v13)) :: (35, .v (.bool (!v13))) :: (36, .v (.bool (!v13))) :: (37, .v (.bool false)) :: (38, .v undef) :: (39, .v undef) :: (40, .v undef) :: (41, .v undef) :: (42, .v (.bool false)) :: []) [0,1,2,3] [0,1,2,21] (zq [0] 4 25 :: zq [2] 5 26 :: zq [4,5] 6 27 :: zq [6] 7 28 :: zq [7] 8 29 :: zq [8] 9 30 :: zq [9,0] 10 31 :: zq [9,2] 11 32 :: zq [9,10,11] 12 33 :: zq [9,12] 13 34 :: zq [9,13] 14 35 :: zq [9,14] 15 36 :: zq [15] 16 37 :: zq [16] 17 38 :: zq [16] 18 39 :: zq [16] 19 40 :: zq [16] 20 41 :: zq [16] 21 42 :: []) [(_,_),(_,_),(_,_),(_,_)] (by kernel_rfl) rfl rfl ⟨zm rfl rfl rfl,zm rfl rfl rfl,zp rfl (op_chr _ _ _ s89 _ Tryz.underlying9 rfl rfl hv10),zp rfl (op_call _ _ 40 _ _ rfl Tryz.call40 rfl (ok_wherryref11_letter v10 _ hv11) rfl rfl),zp rfl (op_un _ _ _ _ rfl rfl),zm rfl (zb hg8_5) rfl,zr 5 rfl rfl rfl (op_move _ _ _ _ rfl rfl),zr 5 rfl rfl rfl (op_move _ _ _ _ rfl rfl),zr 5 rfl rfl rfl (op_chr _ _ _ s89 _ Tryz.underlying9 rfl rfl hv12),zr 5 rfl rfl rfl (op_call _ _ 41 _ _ rfl Tryz.call41 rfl (ok_wherryref11_digit v12 _ hv13) rfl rfl),zr 5 rfl rfl rfl (op_un _ _ _ _ rfl rfl),zk true rfl rfl rfl,zm rfl (zb hg8_12) rfl,zs 12 true rfl rfl rfl rfl,zs 12 true rfl rfl rfl rfl,zs 12 true rfl rfl rfl rfl,zs 12 true rfl rfl rfl rfl,zk false rfl rfl rfl,trivial⟩ ?_
           exact hl158 _ (Option.some.inj h).symm
         ·refine zh hn (_ :: _ :: _ :: _ :: (25, .v (.string s)) :: (26, .v (.int .i64 s89)) :: (27, .v (.int .u8 v10)) :: (28, .v (.bool v11)) :: (29, .v (.bool (!v11))) :: (30, .v (.bool false)) :: (31, .v undef) :: (32, .v undef) :: (33, .v undef) :: (34, .v undef) :: (35, .v undef) :: (36, .v (.bool false)) :: (37, .v (.bool false)) :: (38, .v undef) :: (39, .v undef) :: (40, .v undef) :: (41, .v undef) :: (42, .v (.bool false)) :: []) [0,1,2,3] [0,1,2,21] (zq [0] 4 25 :: zq [2] 5 26 :: zq [4,5] 6 27 :: zq [6] 7 28 :: zq [7] 8 29 :: zq [8] 9 30 :: zq [9] 10 31 :: zq [9] 11 32 :: zq [9] 12 33 :: zq [9] 13 34 :: zq [9] 14 35 :: zq [9] 15 36 :: zq [15] 16 37 :: zq [16] 17 38 :: zq [16] 18 39 :: zq [16] 19 40 :: zq [16] 20 41 :: zq [16] 21 42 :: []) [(_,_),(_,_),(_,_),(_,_)] (by kernel_rfl) rfl rfl ⟨zm rfl rfl rfl,zm rfl rfl rfl,zp rfl (op_chr _ _ _ s89 _ Tryz.underlying9 rfl rfl hv10),zp rfl (op_call _ _ 40 _ _ rfl Tryz.call40 rfl (ok_wherryref11_letter v10 _ hv11) rfl rfl),zp rfl (op_un _ _ _ _ rfl rfl),zm rfl (zb hg8_5) rfl,zs 5 true rfl rfl rfl rfl,zs 5 true rfl rfl rfl rfl,zs 5 true rfl rfl rfl rfl,zs 5 true rfl rfl rfl rfl,zs 5 true rfl rfl rfl rfl,zk false rfl rfl rfl,zm rfl rfl rfl,zs 12 true rfl rfl rfl rfl,zs 12 true rfl rfl rfl rfl,zs 12 true rfl rfl rfl rfl,zs 12 true rfl rfl rfl rfl,zk false rfl rfl rfl,trivial⟩ ?_
          exact hl158 _ (Option.some.inj h).symm
       ·have h := cond_f hb155 h
        refine ht_skip ?_
        refine pt_then ?_
        refine ht_seq ?_
        refine ht_seq ?_
        refine ht_joinS h (fun (s161 : Bool) => [(0, .v (.string s)), (4, .v (.int .i64 s89)), (60, .v (.bool s161))]) ?_ ?_
        ·rintro s161 h
         refine pt_then ?_
         refine ht_cond _ rfl (fun hb165 => ?_) (fun hb165 => ?_)
         ·have h := cond_t hb165 h
          refine ht_seq ?_
          refine zh hn [_, _, _, (2, .v (.bool false))] [0,1,2] [3] [zq [] 3 2] [(_,_)] (by kernel_rfl) rfl rfl ⟨za rfl rfl rfl,trivial⟩ ?_
          refine pt_then ?_
          refine ht_ret ?_
          refine pt_r_then ?_
          refine pt_r_in ?_
          refine pt_r_then ?_
          refine pt_r_then ?_
          refine pt_r_in ?_
          refine pt_r_then ?_
          have h := hr150 _ (Option.some.inj h).symm
          have h := hr127 _ (ho128 _ (Option.some.inj h).symm).symm
          obtain rfl := Option.some.inj h
          exact pt_ret hio rfl (.tmp _ _ .nil) rfl rfl
         ·have h := cond_f hb165 h
          refine ht_skip ?_
          refine pt_then ?_
          obtain ⟨v30, hv30, h⟩ := bind_some h
          refine zh hn [_, _, _, (61, .v (.int .i64 s89)), (62, .v (.int .i64 v30)), (3, .v (.int .i64 v30))] [0,1,2] [0,1,5] [zq [1] 3 61, zq [3] 4 62, zq [4] 5 3] [(_,_),(_,_),(_,_)] (by kernel_rfl) rfl rfl ⟨zm rfl rfl rfl,zp rfl (op_bin _ _ _ _ _ rfl rfl (ibind (f := Value.int .i64) (Option.some.inj hv30))),za rfl rfl rfl,trivial⟩ ?_
          refine pt_inb ?_
          refine pt_pick [0, 2, 1] (by kernel_rfl) (es' := [(_, _), (_, _), (_, _)]) rfl ?_
          exact hl149 _ (Option.some.inj h).symm
        ·intro u162 h hl163 hr164
         obtain ⟨v20, hv20, h⟩ := bind_some h
         obtain ⟨v21, hv21, h⟩ := bind_some h
         refine cond_some h (fun hg10_5 h => ?_) (fun hg10_5 h => ?_)
         ·refine zh hn (_ :: _ :: _ :: _ :: (43, .v (.int .i64 s89)) :: (44, .v (.int .i64 s88)) :: (45, .v (.int .i64 v20)) :: (46, .v (.bool v21)) :: (47, .v (.bool (!v21))) :: (48, .v (.bool true)) :: (49, .v undef) :: (50, .v undef) :: (51, .v undef) :: (52, .v undef) :: (53, .v (.bool true)) :: (54, .v (.bool true)) :: (55, .v undef) :: (56, .v undef) :: (57, .v undef) :: (58, .v undef) :: (59, .v undef) :: (60, .v (.bool true)) :: []) [0,1,2,3] [0,2,21] (zq [2] 4 43 :: zq [1] 5 44 :: zq [4,5] 6 45 :: zq [6] 7 46 :: zq [7] 8 47 :: zq [8] 9 48 :: zq [9] 10 49 :: zq [9] 11 50 :: zq [9] 12 51 :: zq [9] 13 52 :: zq [9] 14 53 :: zq [14] 15 54 :: zq [15] 16 55 :: zq [15] 17 56 :: zq [15] 18 57 :: zq [15] 19 58 :: zq [15] 20 59 :: zq [15] 21 60 :: []) [(_,_),(_,_),(_,_)] (by kernel_rfl) rfl rfl ⟨zm rfl rfl rfl,zm rfl rfl rfl,zp rfl (op_bin _ _ _ _ _ rfl rfl (ibind (f := Value.int .i64) (Option.some.inj hv20))),zp rfl (op_call _ _ 39 _ _ rfl Tryz.call39 rfl (ok_wherryref11_in v20 1 63 _ hv21) rfl rfl),zp rfl (op_un _ _ _ _ rfl rfl),zm rfl (zb hg10_5) rfl,zs 5 false rfl rfl rfl rfl,zs 5 false rfl rfl rfl rfl,zs 5 false rfl rfl rfl rfl,zs 5 false rfl rfl rfl rfl,zk true rfl rfl rfl,zm rfl rfl rfl,zs 11 false rfl rfl rfl rfl,zs 11 false rfl rfl rfl rfl,zs 11 false rfl rfl rfl rfl,zs 11 false rfl rfl rfl rfl,zs 11 false rfl rfl rfl rfl,zk true rfl rfl rfl,trivial⟩ ?_
          exact hl163 _ (Option.some.inj h).symm
         ·obtain ⟨v22, hv22, h⟩ := bind_some h
          refine cond_some h (fun hg10_11 h => ?_) (fun hg10_11 h => ?_)
          ·refine zh hn (_ :: _ :: _ :: _ :: (43, .v (.int .i64 s89)) :: (44, .v (.int .i64 s88)) :: (45, .v (.int .i64 v20)) :: (46, .v (.bool v21)) :: (47, .v (.bool (!v21))) :: (48, .v (.bool false)) :: (49, .v (.string s)) :: (50, .v (.int .i64 s88)) :: (51, .v (.int .u8 v22)) :: (52, .v (.bool (v22 == 45))) :: (53, .v (.bool (v22 == 45))) :: (54, .v (.bool true)) :: (55, .v undef) :: (56, .v undef) :: (57, .v undef) :: (58, .v undef) :: (59, .v undef) :: (60, .v (.bool true)) :: []) [0,1,2,3] [0,2,21] (zq [2] 4 43 :: zq [1] 5 44 :: zq [4,5] 6 45 :: zq [6] 7 46 :: zq [7] 8 47 :: zq [8] 9 48 :: zq [9,0] 10 49 :: zq [9,1] 11 50 :: zq [9,10,11] 12 51 :: zq [9,12] 13 52 :: zq [9,13] 14 53 :: zq [14] 15 54 :: zq [15] 16 55 :: zq [15] 17 56 :: zq [15] 18 57 :: zq [15] 19 58 :: zq [15] 20 59 :: zq [15] 21 60 :: []) [(_,_),(_,_),(_,_)] (by kernel_rfl) rfl rfl ⟨zm rfl rfl rfl,zm rfl rfl rfl,zp rfl (op_bin _ _ _ _ _ rfl rfl (ibind (f := Value.int .i64) (Option.some.inj hv20))),zp rfl (op_call _ _ 39 _ _ rfl Tryz.call39 rfl (ok_wherryref11_in v20 1 63 _ hv21) rfl rfl),zp rfl (op_un _ _ _ _ rfl rfl),zm rfl (zb hg10_5) rfl,zr 5 rfl rfl rfl (op_move _ _ _ _ rfl rfl),zr 5 rfl rfl rfl (op_move _ _ _ _ rfl rfl),zr 5 rfl rfl rfl (op_chr _ _ _ s88 _ Tryz.underlying9 rfl rfl hv22),zr 5 rfl rfl rfl (op_bin _ _ _ _ _ rfl rfl rfl),zk false rfl rfl rfl,zm rfl (zb hg10_11) rfl,zs 11 false rfl rfl rfl rfl,zs 11 false rfl rfl rfl rfl,zs 11 false rfl rfl rfl rfl,zs 11 false rfl rfl rfl rfl,zs 11 false rfl rfl rfl rfl,zk true rfl rfl rfl,trivial⟩ ?_
           exact hl163 _ (Option.some.inj h).symm
          ·obtain ⟨v23, hv23, h⟩ := bind_some h
           obtain ⟨v24, hv24, h⟩ := bind_some h
           refine zh hn (_ :: _ :: _ :: _ :: (43, .v (.int .i64 s89)) :: (44, .v (.int .i64 s88)) :: (45, .v (.int .i64 v20)) :: (46, .v (.bool v21)) :: (47, .v (.bool (!v21))) :: (48, .v (.bool false)) :: (49, .v (.string s)) :: (50, .v (.int .i64 s88)) :: (51, .v (.int .u8 v22)) :: (52, .v (.bool (v22 == 45))) :: (53, .v (.bool (v22 == 45))) :: (54, .v (.bool false)) :: (55, .v (.string s)) :: (56, .v (.int .i64 s89)) :: (57, .v (.int .i64 v23)) :: (58, .v (.int .u8 v24)) :: (59, .v (.bool (v24 == 45))) :: (60, .v (.bool (v24 == 45))) :: []) [0,1,2,3] [0,2,21] (zq [2] 4 43 :: zq [1] 5 44 :: zq [4,5] 6 45 :: zq [6] 7 46 :: zq [7] 8 47 :: zq [8] 9 48 :: zq [9,0] 10 49 :: zq [9,1] 11 50 :: zq [9,10,11] 12 51 :: zq [9,12] 13 52 :: zq [9,13] 14 53 :: zq [14] 15 54 :: zq [15,0] 16 55 :: zq [15,2] 17 56 :: zq [15,17] 18 57 :: zq [15,16,18] 19 58 :: zq [15,19] 20 59 :: zq [15,20] 21 60 :: []) [(_,_),(_,_),(_,_)] (by kernel_rfl) rfl rfl ⟨zm rfl rfl rfl,zm rfl rfl rfl,zp rfl (op_bin _ _ _ _ _ rfl rfl (ibind (f := Value.int .i64) (Option.some.inj hv20))),zp rfl (op_call _ _ 39 _ _ rfl Tryz.call39 rfl (ok_wherryref11_in v20 1 63 _ hv21) rfl rfl),zp rfl (op_un _ _ _ _ rfl rfl),zm rfl (zb hg10_5) rfl,zr 5 rfl rfl rfl (op_move _ _ _ _ rfl rfl),zr 5 rfl rfl rfl (op_move _ _ _ _ rfl rfl),zr 5 rfl rfl rfl (op_chr _ _ _ s88 _ Tryz.underlying9 rfl rfl hv22),zr 5 rfl rfl rfl (op_bin _ _ _ _ _ rfl rfl rfl),zk false rfl rfl rfl,zm rfl (zb hg10_11) rfl,zr 11 rfl rfl rfl (op_move _ _ _ _ rfl rfl),zr 11 rfl rfl rfl (op_move _ _ _ _ rfl rfl),zr 11 rfl rfl rfl (op_bin _ _ _ _ _ rfl rfl (ibind (f := Value.int .i64) (Option.some.inj hv23))),zr 11 rfl rfl rfl (op_chr _ _ _ v23 _ Tryz.underlying9 rfl rfl hv24),zr 11 rfl rfl rfl (op_bin _ _ _ _ _ rfl rfl rfl),zk false rfl rfl rfl,trivial⟩ ?_
           exact hl163 _ (Option.some.inj h).symm
      ·intro u152 h hl153 hr154
       refine cond_some h (fun hg7_4 h => ?_) (fun hg7_4 h => ?_)
       ·obtain ⟨v4, hv4, h⟩ := bind_some h
        refine zh hn [_, _, _, _, (15, .v (.int .i64 s89)), (16, .v (.string s)), (17, .v (.int .i64 (s.size : Int))), (18, .v (.bool ((decide (s89 < (s.size : Int)))))), (19, .v (.bool true)), (20, .v (.string s)), (21, .v (.int .i64 s89)), (22, .v (.int .u8 v4)), (23, .v (.bool (v4 != 46))), (24, .v (.bool (v4 != 46)))] [0,1,2,3] [0,1,2,13] [zq [2] 4 15, zq [0] 5 16, zq [5] 6 17, zq [4,6] 7 18, zq [7] 8 19, zq [8,0] 9 20, zq [8,2] 10 21, zq [8,9,10] 11 22, zq [8,11] 12 23, zq [8,12] 13 24] [(_,_),(_,_),(_,_),(_,_)] (by kernel_rfl) rfl rfl ⟨zm rfl rfl rfl,zm rfl rfl rfl,zp rfl (op_len_str _ _ _ Tryz.underlying9 rfl),zo rfl rfl rfl rfl,zm rfl (zb hg7_4) rfl,zr 4 rfl rfl rfl (op_move _ _ _ _ rfl rfl),zr 4 rfl rfl rfl (op_move _ _ _ _ rfl rfl),zr 4 rfl rfl rfl (op_chr _ _ _ s89 _ Tryz.underlying9 rfl rfl hv4),zr 4 rfl rfl rfl (op_bin _ _ _ _ _ rfl rfl rfl),zk true rfl rfl rfl,trivial⟩ ?_
        exact hl153 _ (Option.some.inj h).symm
       ·refine zh hn [_, _, _, _, (15, .v (.int .i64 s89)), (16, .v (.string s)), (17, .v (.int .i64 (s.size : Int))), (18, .v (.bool ((decide (s89 < (s.size : Int)))))), (19, .v (.bool false)), (20, .v undef), (21, .v undef), (22, .v undef), (23, .v undef), (24, .v (.bool false))] [0,1,2,3] [0,1,2,13] [zq [2] 4 15, zq [0] 5 16, zq [5] 6 17, zq [4,6] 7 18, zq [7] 8 19, zq [8] 9 20, zq [8] 10 21, zq [8] 11 22, zq [8] 12 23, zq [8] 13 24] [(_,_),(_,_),(_,_),(_,_)] (by kernel_rfl) rfl rfl ⟨zm rfl rfl rfl,zm rfl rfl rfl,zp rfl (op_len_str _ _ _ Tryz.underlying9 rfl),zo rfl rfl rfl rfl,zm rfl (zb hg7_4) rfl,zs 4 true rfl rfl rfl rfl,zs 4 true rfl rfl rfl rfl,zs 4 true rfl rfl rfl rfl,zs 4 true rfl rfl rfl rfl,zk false rfl rfl rfl,trivial⟩ ?_
        exact hl153 _ (Option.some.inj h).symm
    ·have h := cond_f hb131 h
     refine ht_exit ?_
     refine pt_x_then ?_
     refine pt_x_then ?_
     refine pt_x_in ?_
     refine pt_pick [] (by kernel_rfl) (es' := []) rfl ?_
     exact hl126 _ (ho128 _ (Option.some.inj h).symm).symm
set_option maxHeartbeats 1000000 in
theorem ok_wherryref11_Path (p : T_Path) (r : Bool) (h : Sh.wherryref11_Path p = some r) : FnOK Tryz.prog 14 [.agg [.v (.bool p.Null), .v (.string p.Local), .v (.string p.Domain)]] (.v (.bool r)) := by
  unfold Sh.wherryref11_Path at h
  refine fn_ok Tryz.func14 rfl (zl rfl) rfl rfl fun g0 hn hio => ?_
  refine ht_seq ?_
  refine zh hn [_, (1, .box 23 [.v (.bool p.Null), .v (.string p.Local), .v (.string p.Domain)]), (2, .v (.bool false))] [0] [1] [zq [0] 1 1, zq [] 2 2] [(_,_)] (by kernel_rfl) rfl rfl ⟨zp rfl (op_box _ _ _ _ rfl rfl rfl),za rfl rfl rfl,trivial⟩ ?_
  refine pt_then ?_
  refine ht_seq ?_
  refine ht_seq ?_
  refine zh hn [_, (3, .ptr 1 0), (4, .v (.bool p.Null))] [0] [0,2] [zq [0] 1 3, zq [1,0] 2 4] [(_,_),(_,_)] (by kernel_rfl) rfl rfl ⟨zp rfl (op_fieldAddr _ _ _ _ 1 0 _ Tryz.underlying23 rfl sz4 rfl rfl (by decide)),zp rfl (op_load _ _ _ _ _ _ Tryz.underlying4 rfl rfl rfl (zl rfl) rfl rfl rfl),trivial⟩ ?_
  refine pt_then ?_
  refine ht_cond _ rfl (fun hb1 => ?_) (fun hb1 => ?_)
  ·have h := cond_t hb1 h
   refine ht_seq ?_
   refine ht_joinS h (fun (s2 : Bool) => [(2, .v (.bool s2))]) ?_ ?_
   ·rintro s2 h
    refine pt_then ?_
    refine ht_ret ?_
    refine pt_r_then ?_
    obtain rfl := Option.some.inj h
    exact pt_ret hio rfl (.tmp _ _ .nil) rfl rfl
   ·intro u3 h hl4 hr5
    refine cond_some h (fun hg2_3 h => ?_) (fun hg2_3 h => ?_)
    ·refine zh hn [_, _, (5, .ptr 1 1), (6, .v (.string p.Local)), (7, .v (.bool ((p.Local.toList == (⟨#[]⟩ : ByteArray).toList)))), (8, .v (.bool true)), (9, .ptr 1 2), (10, .v (.string p.Domain)), (11, .v (.bool ((p.Domain.toList == (⟨#[]⟩ : ByteArray).toList)))), (12, .v (.bool ((p.Domain.toList == (⟨#[]⟩ : ByteArray).toList)))), (2, .v (.bool ((p.Domain.toList == (⟨#[]⟩ : ByteArray).toList))))] [0,1] [10] [zq [0] 2 5, zq [2,0] 3 6, zq [3] 4 7, zq [4] 5 8, zq [5,0] 6 9, zq [5,6,0] 7 10, zq [5,7] 8 11, zq [5,8] 9 12, zq [9] 10 2] [(_,_)] (by kernel_rfl) rfl rfl ⟨zp rfl (op_fieldAddr _ _ _ _ 1 0 _ Tryz.underlying23 rfl sz9 rfl rfl (by decide)),zp rfl (op_load _ _ _ _ _ _ Tryz.underlying9 rfl rfl rfl (zl rfl) rfl rfl rfl),zo rfl rfl rfl rfl,zm rfl (zb hg2_3) rfl,zr 3 rfl rfl rfl (op_fieldAddr _ _ _ _ 1 0 _ Tryz.underlying23 rfl sz9 rfl rfl (by decide)),zr 3 rfl rfl rfl (op_load _ _ _ _ _ _ Tryz.underlying9 rfl rfl rfl (zl rfl) rfl rfl rfl),zr 3 rfl rfl rfl (op_bin _ _ _ _ _ rfl rfl rfl),zk true rfl rfl rfl,za rfl rfl rfl,trivial⟩ ?_
     exact hl4 _ (Option.some.inj h).symm
    ·refine zh hn [_, _, (5, .ptr 1 1), (6, .v (.string p.Local)), (7, .v (.bool ((p.Local.toList == (⟨#[]⟩ : ByteArray).toList)))), (8, .v (.bool false)), (9, .v undef), (10, .v undef), (11, .v undef), (12, .v (.bool false)), (2, .v (.bool false))] [0,1] [10] [zq [0] 2 5, zq [2,0] 3 6, zq [3] 4 7, zq [4] 5 8, zq [5] 6 9, zq [5] 7 10, zq [5] 8 11, zq [5] 9 12, zq [9] 10 2] [(_,_)] (by kernel_rfl) rfl rfl ⟨zp rfl (op_fieldAddr _ _ _ _ 1 0 _ Tryz.underlying23 rfl sz9 rfl rfl (by decide)),zp rfl (op_load _ _ _ _ _ _ Tryz.underlying9 rfl rfl rfl (zl rfl) rfl rfl rfl),zo rfl rfl rfl rfl,zm rfl (zb hg2_3) rfl,zs 3 true rfl rfl rfl rfl,zs 3 true rfl rfl rfl rfl,zs 3 true rfl rfl rfl rfl,zk false rfl rfl rfl,za rfl rfl rfl,trivial⟩ ?_
     exact hl4 _ (Option.some.inj h).symm
  ·have h := cond_f hb1 h
   refine ht_skip ?_
   refine pt_then ?_
   refine ht_seq ?_
   refine ht_joinS h (fun (s8 : Bool) => [(2, .v (.bool s8))]) ?_ ?_
   ·rintro s8 h
    refine pt_then ?_
    refine ht_ret ?_
    obtain rfl := Option.some.inj h
    exact pt_ret hio rfl (.tmp _ _ .nil) rfl rfl
   ·intro u9 h hl10 hr11
    obtain ⟨v6, hv6, h⟩ := bind_some h
    refine cond_some h (fun hg3_3 h => ?_) (fun hg3_3 h => ?_)
    ·obtain ⟨v7, hv7, h⟩ := bind_some h
     refine zh hn [_, _, (13, .ptr 1 1), (14, .v (.string p.Local)), (15, .v (.bool v6)), (16, .v (.bool true)), (17, .ptr 1 2), (18, .v (.string p.Domain)), (19, .v (.bool v7)), (20, .v (.bool v7)), (2, .v (.bool v7))] [0,1] [10] [zq [0] 2 13, zq [2,0] 3 14, zq [3] 4 15, zq [4] 5 16, zq [5,0] 6 17, zq [5,6,0] 7 18, zq [5,7] 8 19, zq [5,8] 9 20, zq [9] 10 2] [(_,_)] (by kernel_rfl) rfl rfl ⟨zp rfl (op_fieldAddr _ _ _ _ 1 0 _ Tryz.underlying23 rfl sz9 rfl rfl (by decide)),zp rfl (op_load _ _ _ _ _ _ Tryz.underlying9 rfl rfl rfl (zl rfl) rfl rfl rfl),zp rfl (op_call _ _ 32 _ _ rfl Tryz.call32 rfl (ok_wherryref11_Local p.Local _ hv6) rfl rfl),zm rfl (zb hg3_3) rfl,zr 3 rfl rfl rfl (op_fieldAddr _ _ _ _ 1 0 _ Tryz.underlying23 rfl sz9 rfl rfl (by decide)),zr 3 rfl rfl rfl (op_load _ _ _ _ _ _ Tryz.underlying9 rfl rfl rfl (zl rfl) rfl rfl rfl),zr 3 rfl rfl rfl (op_call _ _ 24 _ _ rfl Tryz.call24 rfl (ok_wherryref11_Domain p.Domain _ hv7) rfl rfl),zk true rfl rfl rfl,za rfl rfl rfl,trivial⟩ ?_
     exact hl10 _ (Option.some.inj h).symm
    ·refine zh hn [_, _, (13, .ptr 1 1), (14, .v (.string p.Local)), (15, .v (.bool v6)), (16, .v (.bool false)), (17, .v undef), (18, .v undef), (19, .v undef), (20, .v (.bool false)), (2, .v (.bool false))] [0,1] [10] [zq [0] 2 13, zq [2,0] 3 14, zq [3] 4 15, zq [4] 5 16, zq [5] 6 17, zq [5] 7 18, zq [5] 8 19, zq [5] 9 20, zq [9] 10 2] [(_,_)] (by kernel_rfl) rfl rfl ⟨zp rfl (op_fieldAddr _ _ _ _ 1 0 _ Tryz.underlying23 rfl sz9 rfl rfl (by decide)),zp rfl (op_load _ _ _ _ _ _ Tryz.underlying9 rfl rfl rfl (zl rfl) rfl rfl rfl),zp rfl (op_call _ _ 32 _ _ rfl Tryz.call32 rfl (ok_wherryref11_Local p.Local _ hv6) rfl rfl),zm rfl (zb hg3_3) rfl,zs 3 true rfl rfl rfl rfl,zs 3 true rfl rfl rfl rfl,zs 3 true rfl rfl rfl rfl,zk false rfl rfl rfl,za rfl rfl rfl,trivial⟩ ?_
     exact hl10 _ (Option.some.inj h).symm
set_option maxHeartbeats 1000000 in
theorem ok_wherryref11_Text (p : T_Path) (r : ByteArray) (h : Sh.wherryref11_Text p = some r) : FnOK Tryz.prog 15 [.agg [.v (.bool p.Null), .v (.string p.Local), .v (.string p.Domain)]] (.v (.string r)) := by
  unfold Sh.wherryref11_Text at h
  refine fn_ok Tryz.func15 rfl (zl rfl) rfl rfl fun g0 hn hio => ?_
  refine ht_seq ?_
  refine zh hn [_, (1, .box 23 [.v (.bool p.Null), .v (.string p.Local), .v (.string p.Domain)]), (2, .v (.string (⟨#[]⟩ : ByteArray)))] [0] [1] [zq [0] 1 1, zq [] 2 2] [(_,_)] (by kernel_rfl) rfl rfl ⟨zp rfl (op_box _ _ _ _ rfl rfl rfl),za rfl rfl rfl,trivial⟩ ?_
  refine pt_then ?_
  refine ht_seq ?_
  refine ht_seq ?_
  refine zh hn [_, (3, .ptr 1 0), (4, .v (.bool p.Null))] [0] [0,2] [zq [0] 1 3, zq [1,0] 2 4] [(_,_),(_,_)] (by kernel_rfl) rfl rfl ⟨zp rfl (op_fieldAddr _ _ _ _ 1 0 _ Tryz.underlying23 rfl sz4 rfl rfl (by decide)),zp rfl (op_load _ _ _ _ _ _ Tryz.underlying4 rfl rfl rfl (zl rfl) rfl rfl rfl),trivial⟩ ?_
  refine pt_then ?_
  refine ht_cond _ rfl (fun hb1 => ?_) (fun hb1 => ?_)
  ·have h := cond_t hb1 h
   refine ht_seq ?_
   refine zh hn [_, _, (2, .v (.string (⟨#[60, 62]⟩ : ByteArray)))] [0,1] [2] [zq [] 2 2] [(_,_)] (by kernel_rfl) rfl rfl ⟨za rfl rfl rfl,trivial⟩ ?_
   refine pt_then ?_
   refine ht_ret ?_
   refine pt_r_then ?_
   obtain rfl := Option.some.inj h
   exact pt_ret hio rfl (.tmp _ _ .nil) rfl rfl
  ·have h := cond_f hb1 h
   refine ht_skip ?_
   refine pt_then ?_
   refine ht_seq ?_
   obtain ⟨v2, hv2, h⟩ := bind_some h
   obtain ⟨v3, hv3, h⟩ := bind_some h
   obtain ⟨v4, hv4, h⟩ := bind_some h
   obtain ⟨v5, hv5, h⟩ := bind_some h
   refine zh hn [_, _, (5, .ptr 1 1), (6, .v (.string p.Local)), (7, .v (.string v2)), (8, .v (.string v3)), (9, .ptr 1 2), (10, .v (.string p.Domain)), (11, .v (.string v4)), (12, .v (.string v5)), (2, .v (.string v5))] [0,1] [10] [zq [0] 2 5, zq [2,0] 3 6, zq [3] 4 7, zq [4] 5 8, zq [0] 6 9, zq [6,0] 7 10, zq [5,7] 8 11, zq [8] 9 12, zq [9] 10 2] [(_,_)] (by kernel_rfl) rfl rfl ⟨zp rfl (op_fieldAddr _ _ _ _ 1 0 _ Tryz.underlying23 rfl sz9 rfl rfl (by decide)),zp rfl (op_load _ _ _ _ _ _ Tryz.underlying9 rfl rfl rfl (zl rfl) rfl rfl rfl),zp rfl (op_bin _ _ _ _ _ rfl rfl (cat_ok hv2)),zp rfl (op_bin _ _ _ _ _ rfl rfl (cat_ok hv3)),zp rfl (op_fieldAddr _ _ _ _ 1 0 _ Tryz.underlying23 rfl sz9 rfl rfl (by decide)),zp rfl (op_load _ _ _ _ _ _ Tryz.underlying9 rfl rfl rfl (zl rfl) rfl rfl rfl),zp rfl (op_bin _ _ _ _ _ rfl rfl (cat_ok hv4)),zp rfl (op_bin _ _ _ _ _ rfl rfl (cat_ok hv5)),za rfl rfl rfl,trivial⟩ ?_
   refine pt_then ?_
   refine ht_ret ?_
   obtain rfl := Option.some.inj h
   exact pt_ret hio rfl (.tmp _ _ .nil) rfl rfl
set_option maxHeartbeats 1000000 in
theorem ok_wherryref11_Digits (n : Int) (r : ByteArray) (h : Sh.wherryref11_Digits n = some r) : FnOK Tryz.prog 16 [.v (.int .i64 n)] (.v (.string r)) := by
  unfold Sh.wherryref11_Digits at h
  refine fn_ok Tryz.func16 rfl (zl rfl) rfl rfl fun g0 hn hio => ?_
  refine ht_seq ?_
  refine zh hn [_, (2, .v (.string (⟨#[]⟩ : ByteArray)))] [0] [0] [zq [] 1 2] [(_,_)] (by kernel_rfl) rfl rfl ⟨za rfl rfl rfl,trivial⟩ ?_
  refine pt_then ?_
  refine ht_seq ?_
  refine zh hn [_, (3, .v (.string (⟨#[]⟩ : ByteArray)))] [0] [0,1] [zq [] 1 3] [(_,_),(_,_)] (by kernel_rfl) rfl rfl ⟨za rfl rfl rfl,trivial⟩ ?_
  refine pt_then ?_
  refine ht_seq ?_
  refine ht_loopS h (fun ((s11, s12) : Int × ByteArray) => [(0, .v (.int .i64 s11)), (3, .v (.string s12))]) (fun ((s14, s15) : Int × ByteArray) => [(0, .v (.int .i64 s14)), (3, .v (.string s15))]) ?_ ?_
  ·rintro ⟨s14, s15⟩ h
   refine pt_then ?_
   refine ht_seq ?_
   obtain ⟨v23, hv23, h⟩ := bind_some h
   obtain ⟨v24, hv24, h⟩ := bind_some h
   obtain ⟨v25, hv25, h⟩ := bind_some h
   refine zh hn [_, _, (16, .v (.int .i64 s14)), (17, .v (.int .i64 s14)), (18, .v (.int .i64 v23)), (19, .v (.string v24)), (20, .v (.string s15)), (21, .v (.string v25)), (2, .v (.string v25))] [0,1] [8] [zq [0] 2 16, zq [0] 3 17, zq [3] 4 18, zq [2,4] 5 19, zq [1] 6 20, zq [5,6] 7 21, zq [7] 8 2] [(_,_)] (by kernel_rfl) rfl rfl ⟨zm rfl rfl rfl,zm rfl rfl rfl,zp rfl (op_bin _ _ _ _ _ rfl rfl (ibind (f := Value.int .i64) (Option.some.inj hv23))),zp rfl (op_substr _ _ _ s14 v23 _ Tryz.underlying9 rfl ⟨_, rfl⟩ ⟨_, rfl⟩ hv24),zm rfl rfl rfl,zp rfl (op_bin _ _ _ _ _ rfl rfl (cat_ok hv25)),za rfl rfl rfl,trivial⟩ ?_
   refine pt_then ?_
   refine ht_ret ?_
   obtain rfl := Option.some.inj h
   exact pt_ret hio rfl (.tmp _ _ .nil) rfl rfl
  ·rintro u16 hl17 hr18 ⟨s11, s12⟩ rr21 h ho19
   refine ht_seq ?_
   refine ht_seq ?_
   refine zh hn [_, _, (4, .v (.int .i64 s11)), (5, .v (.bool ((decide (9 < s11)))))] [0,1] [0,1,3] [zq [0] 2 4, zq [2] 3 5] [(_,_),(_,_),(_,_)] (by kernel_rfl) rfl rfl ⟨zm rfl rfl rfl,zo rfl rfl rfl rfl,trivial⟩ ?_
   refine pt_then ?_
   refine ht_cond _ rfl (fun hb22 => ?_) (fun hb22 => ?_)
   ·have h := cond_t hb22 h
    refine ht_skip ?_
    refine pt_then ?_
    refine ht_block ?_
    refine ht_seq ?_
    obtain ⟨v2, hv2, h⟩ := bind_some h
    obtain ⟨v3, hv3, h⟩ := bind_some h
    obtain ⟨v4, hv4, h⟩ := bind_some h
    obtain ⟨v5, hv5, h⟩ := bind_some h
    obtain ⟨v6, hv6, h⟩ := bind_some h
    refine zh hn [_, _, _, (6, .v (.int .i64 s11)), (7, .v (.int .i64 v2)), (8, .v (.int .i64 s11)), (9, .v (.int .i64 v3)), (10, .v (.int .i64 v4)), (11, .v (.string v5)), (12, .v (.string s12)), (13, .v (.string v6)), (3, .v (.string v6))] [0,1,2] [0,11] [zq [0] 3 6, zq [3] 4 7, zq [0] 5 8, zq [5] 6 9, zq [6] 7 10, zq [4,7] 8 11, zq [1] 9 12, zq [8,9] 10 13, ⟨[10], [1], [11], [(.slot 3)]⟩] [(_,_),(_,_)] (by kernel_rfl) rfl rfl ⟨zm rfl rfl rfl,zp rfl (op_bin _ _ _ _ _ rfl rfl (rem_ok hv2)),zm rfl rfl rfl,zp rfl (op_bin _ _ _ _ _ rfl rfl (rem_ok hv3)),zp rfl (op_bin _ _ _ _ _ rfl rfl (ibind (f := Value.int .i64) (Option.some.inj hv4))),zp rfl (op_substr _ _ _ v2 v4 _ Tryz.underlying9 rfl ⟨_, rfl⟩ ⟨_, rfl⟩ hv5),zm rfl rfl rfl,zp rfl (op_bin _ _ _ _ _ rfl rfl (cat_ok hv6)),zp rfl (LOp.drop [_] (op_assign _ _ _ _ rfl rfl)),trivial⟩ ?_
    refine pt_then ?_
    obtain ⟨v7, hv7, h⟩ := bind_some h
    refine zh hn [_, _, (14, .v (.int .i64 s11)), (15, .v (.int .i64 v7)), (0, .v (.int .i64 v7))] [0,1] [1,4] [zq [0] 2 14, zq [2] 3 15, ⟨[3], [0], [4], [(.slot 0)]⟩] [(_,_),(_,_)] (by kernel_rfl) rfl rfl ⟨zm rfl rfl rfl,zp rfl (op_bin _ _ _ _ _ rfl rfl (quo_ok hv7)),zp rfl (LOp.drop [_] (op_assign _ _ _ _ rfl rfl)),trivial⟩ ?_
    refine pt_inb ?_
    refine pt_pick [1, 0] (by kernel_rfl) (es' := [(_, _), (_, _)]) rfl ?_
    exact pt_next _ (Option.some.inj h).symm rfl
   ·have h := cond_f hb22 h
    refine ht_exit ?_
    refine pt_x_then ?_
    refine pt_x_then ?_
    refine pt_x_in ?_
    refine pt_pick [0, 1] (by kernel_rfl) (es' := [(_, _), (_, _)]) rfl ?_
    exact hl17 _ (ho19 _ (Option.some.inj h).symm).symm
set_option maxHeartbeats 1000000 in
theorem ok_verb_printable (line : ByteArray) (r : Bool) (h : Sh.verb_printable line = some r) : FnOK Tryz.prog 18 [.v (.string line)] (.v (.bool r)) := by
  unfold Sh.verb_printable at h
  refine fn_ok Tryz.func18 rfl (zl rfl) rfl rfl fun g0 hn hio => ?_
  refine ht_seq ?_
  refine zh hn [_, (2, .v (.bool false))] [0] [0] [zq [] 1 2] [(_,_)] (by kernel_rfl) rfl rfl ⟨za rfl rfl rfl,trivial⟩ ?_
  refine pt_then ?_
  refine ht_seq ?_
  refine ht_seq ?_
  refine zh hn [_, (4, .v (.string line)), (5, .v (.int .i64 (line.size : Int))), (6, .v (.int .i64 0))] [0] [0,2,3] [zq [0] 1 4, zq [1] 2 5, zq [] 3 6] [(_,_),(_,_),(_,_)] (by kernel_rfl) rfl rfl ⟨zm rfl rfl rfl,zp rfl (op_len_str _ _ _ Tryz.underlying9 rfl),zm rfl rfl rfl,trivial⟩ ?_
  refine pt_then ?_
  refine ht_loopS h (fun (s17 : Int) => [(0, .v (.string line)), (5, .v (.int .i64 (line.size : Int))), (6, .v (.int .i64 s17))]) (fun (() : Unit) => []) ?_ ?_
  ·rintro ⟨⟩ h
   refine pt_then ?_
   refine ht_seq ?_
   refine zh hn [(2, .v (.bool true))] [] [0] [zq [] 0 2] [(_,_)] (by kernel_rfl) rfl rfl ⟨za rfl rfl rfl,trivial⟩ ?_
   refine pt_then ?_
   refine ht_ret ?_
   obtain rfl := Option.some.inj h
   exact pt_ret hio rfl (.tmp _ _ .nil) rfl rfl
  ·rintro u24 hl25 hr26 s17 rr29 h ho27
   refine ht_seq ?_
   refine zh hn [_, _, _, (7, .v (.bool ((decide (s17 < (line.size : Int))))))] [0,1,2] [0,1,2,3] [zq [2,1] 3 7] [(_,_),(_,_),(_,_),(_,_)] (by kernel_rfl) rfl rfl ⟨zo rfl rfl rfl rfl,trivial⟩ ?_
   refine pt_then ?_
   refine ht_seq ?_
   refine ht_cond _ rfl (fun hb30 => ?_) (fun hb30 => ?_)
   ·have h := cond_t hb30 h
    refine ht_skip ?_
    refine pt_then ?_
    refine ht_seq ?_
    refine ht_block ?_
    refine ht_seq ?_
    refine zh hn [_, _, _, _, (8, .v (.int .i64 s17)), (3, .v (.int .i64 s17))] [0,1,2,3] [0,1,2,5] [zq [2] 4 8, zq [4] 5 3] [(_,_),(_,_),(_,_),(_,_)] (by kernel_rfl) rfl rfl ⟨zm rfl rfl rfl,za rfl rfl rfl,trivial⟩ ?_
    refine pt_then ?_
    refine ht_seq ?_
    refine ht_joinS h (fun (s31 : Bool) => [(0, .v (.string line)), (5, .v (.int .i64 (line.size : Int))), (6, .v (.int .i64 s17)), (18, .v (.bool s31))]) ?_ ?_
    ·rintro s31 h
     refine pt_then ?_
     refine ht_cond _ rfl (fun hb35 => ?_) (fun hb35 => ?_)
     ·have h := cond_t hb35 h
      refine ht_seq ?_
      refine zh hn [_, _, _, _, (2, .v (.bool false))] [0,1,2,3] [4] [zq [] 4 2] [(_,_)] (by kernel_rfl) rfl rfl ⟨za rfl rfl rfl,trivial⟩ ?_
      refine pt_then ?_
      refine ht_ret ?_
      refine pt_r_in ?_
      refine pt_r_then ?_
      refine pt_r_then ?_
      refine pt_r_in ?_
      refine pt_r_then ?_
      have h := hr26 _ (ho27 _ (Option.some.inj h).symm).symm
      obtain rfl := Option.some.inj h
      exact pt_ret hio rfl (.tmp _ _ .nil) rfl rfl
     ·have h := cond_f hb35 h
      refine ht_skip ?_
      refine pt_inb ?_
      refine pt_then ?_
      obtain ⟨v9, hv9, h⟩ := bind_some h
      refine zh hn [_, _, _, _, (19, .v (.int .i64 v9)), (6, .v (.int .i64 v9))] [0,1,2,3] [0,1,5] [zq [2] 4 19, ⟨[4], [2], [5], [(.slot 6)]⟩] [(_,_),(_,_),(_,_)] (by kernel_rfl) rfl rfl ⟨zp rfl (op_bin _ _ _ _ _ rfl rfl (ibind (f := Value.int .i64) (Option.some.inj hv9))),zp rfl (LOp.drop [_] (op_move _ _ _ _ rfl rfl)),trivial⟩ ?_
      exact pt_next _ (Option.some.inj h).symm rfl
    ·intro u32 h hl33 hr34
     obtain ⟨v2, hv2, h⟩ := bind_some h
     refine cond_some h (fun hg4_4 h => ?_) (fun hg4_4 h => ?_)
     ·refine zh hn [_, _, _, _, (9, .v (.string line)), (10, .v (.int .i64 s17)), (11, .v (.int .u8 v2)), (12, .v (.bool ((decide (v2 < 32))))), (13, .v (.bool true)), (14, .v undef), (15, .v undef), (16, .v undef), (17, .v undef), (18, .v (.bool true))] [0,1,2,3] [0,1,2,13] [zq [0] 4 9, zq [3] 5 10, zq [4,5] 6 11, zq [6] 7 12, zq [7] 8 13, zq [8] 9 14, zq [8] 10 15, zq [8] 11 16, zq [8] 12 17, zq [8] 13 18] [(_,_),(_,_),(_,_),(_,_)] (by kernel_rfl) rfl rfl ⟨zm rfl rfl rfl,zm rfl rfl rfl,zp rfl (op_chr _ _ _ s17 _ Tryz.underlying9 rfl rfl hv2),zo rfl rfl rfl rfl,zm rfl (zb hg4_4) rfl,zs 4 false rfl rfl rfl rfl,zs 4 false rfl rfl rfl rfl,zs 4 false rfl rfl rfl rfl,zs 4 false rfl rfl rfl rfl,zk true rfl rfl rfl,trivial⟩ ?_
      exact hl33 _ (Option.some.inj h).symm
     ·obtain ⟨v3, hv3, h⟩ := bind_some h
      refine zh hn [_, _, _, _, (9, .v (.string line)), (10, .v (.int .i64 s17)), (11, .v (.int .u8 v2)), (12, .v (.bool ((decide (v2 < 32))))), (13, .v (.bool false)), (14, .v (.string line)), (15, .v (.int .i64 s17)), (16, .v (.int .u8 v3)), (17, .v (.bool ((decide (126 < v3))))), (18, .v (.bool ((decide (126 < v3)))))] [0,1,2,3] [0,1,2,13] [zq [0] 4 9, zq [3] 5 10, zq [4,5] 6 11, zq [6] 7 12, zq [7] 8 13, zq [8,0] 9 14, zq [8,3] 10 15, zq [8,9,10] 11 16, zq [8,11] 12 17, zq [8,12] 13 18] [(_,_),(_,_),(_,_),(_,_)] (by kernel_rfl) rfl rfl ⟨zm rfl rfl rfl,zm rfl rfl rfl,zp rfl (op_chr _ _ _ s17 _ Tryz.underlying9 rfl rfl hv2),zo rfl rfl rfl rfl,zm rfl (zb hg4_4) rfl,zr 4 rfl rfl rfl (op_move _ _ _ _ rfl rfl),zr 4 rfl rfl rfl (op_move _ _ _ _ rfl rfl),zr 4 rfl rfl rfl (op_chr _ _ _ s17 _ Tryz.underlying9 rfl rfl hv3),zr 4 rfl rfl rfl (op_bin _ _ _ _ _ rfl rfl rfl),zk false rfl rfl rfl,trivial⟩ ?_
      exact hl33 _ (Option.some.inj h).symm
   ·have h := cond_f hb30 h
    refine ht_exit ?_
    refine pt_x_then ?_
    refine pt_x_then ?_
    refine pt_x_in ?_
    refine pt_pick [] (by kernel_rfl) (es' := []) rfl ?_
    exact hl25 _ (ho27 _ (Option.some.inj h).symm).symm
theorem ok_internal_stringslite_Index (s sub : ByteArray) (r : Int) (h : Sh.strings_Index s sub = some r) : FnOK Tryz.prog 60 [.v (.string s), .v (.string sub)] (.v (.int .i64 r)) := lib_strings_Index Tryz.stringslite_Index_one s sub r h
set_option maxHeartbeats 1000000 in
theorem ok_internal_stringslite_Cut (s : ByteArray) (sep : ByteArray) (r : (ByteArray × ByteArray × Bool)) (h : Sh.internal_stringslite_Cut s sep = some r) : FnOK Tryz.prog 50 [.v (.string s), .v (.string sep)] (.tup [.v (.string r.1), .v (.string r.2.1), .v (.bool r.2.2)]) := by
  unfold Sh.internal_stringslite_Cut at h
  refine fn_ok Tryz.func50 rfl (zl rfl) rfl rfl fun g0 hn hio => ?_
  refine ht_seq ?_
  refine zh hn [_, _, (4, .v (.string (⟨#[]⟩ : ByteArray))), (5, .v (.string (⟨#[]⟩ : ByteArray))), (6, .v (.bool false))] [0,1] [0,1] [zq [] 2 4, zq [] 3 5, zq [] 4 6] [(_,_),(_,_)] (by kernel_rfl) rfl rfl ⟨za rfl rfl rfl,za rfl rfl rfl,za rfl rfl rfl,trivial⟩ ?_
  refine pt_then ?_
  refine ht_seq ?_
  refine ht_seq ?_
  obtain ⟨v1, hv1, h⟩ := bind_some h
  refine zh hn [_, _, (8, .v (.string s)), (9, .v (.string sep)), (10, .v (.int .i64 v1)), (7, .v (.int .i64 v1))] [0,1] [0,1,5] [zq [0] 2 8, zq [1] 3 9, zq [2,3] 4 10, zq [4] 5 7] [(_,_),(_,_),(_,_)] (by kernel_rfl) rfl rfl ⟨zm rfl rfl rfl,zm rfl rfl rfl,zp rfl (op_call _ _ 60 _ _ rfl Tryz.call60 rfl (ok_internal_stringslite_Index s sep _ hv1) rfl rfl),za rfl rfl rfl,trivial⟩ ?_
  refine pt_then ?_
  refine ht_seq ?_
  refine zh hn [_, _, _, (11, .v (.int .i64 v1)), (12, .v (.bool ((decide (0 ≤ v1)))))] [0,1,2] [0,1,2,4] [zq [2] 3 11, zq [3] 4 12] [(_,_),(_,_),(_,_),(_,_)] (by kernel_rfl) rfl rfl ⟨zm rfl rfl rfl,zo rfl rfl rfl rfl,trivial⟩ ?_
  refine pt_then ?_
  refine ht_cond _ rfl (fun hb2 => ?_) (fun hb2 => ?_)
  ·have h := cond_t hb2 h
   refine ht_seq ?_
   obtain ⟨v3, hv3, h⟩ := bind_some h
   obtain ⟨v4, hv4, h⟩ := bind_some h
   obtain ⟨v5, hv5, h⟩ := bind_some h
   refine ht_anyR (by kernel_rfl) hn (El := (_ :: _ :: _ :: _ :: (13, .v (.string s)) :: (14, .v (.int .i64 v1)) :: (15, .v (.string v3)) :: (16, .v (.string s)) :: (17, .v (.int .i64 v1)) :: (18, .v (.string sep)) :: (19, .v (.int .i64 (sep.size : Int))) :: (20, .v (.int .i64 v4)) :: (21, .v (.string v5)) :: (4, .v (.string v3)) :: (5, .v (.string v5)) :: (6, .v (.bool true)) :: [])) (init := [0, 1, 2, 3]) (fin := [13, 14, 15]) (sps := [zq [0] 4 13, zq [2] 5 14, zq [4,5] 6 15, zq [0] 7 16, zq [2] 8 17, zq [1] 9 18, zq [9] 10 19, zq [8,10] 11 20, zq [7,11] 12 21, zq [6] 13 4, zq [12] 14 5, zq [] 15 6]) (es' := [(4, .v (.string v3)), (5, .v (.string v5)), (6, .v (.bool true))]) (by kernel_rfl) rfl rfl ⟨zm rfl rfl rfl,zm rfl rfl rfl,zp rfl (op_substr _ _ _ 0 v1 _ Tryz.underlying9 rfl rfl ⟨_, rfl⟩ hv3),zm rfl rfl rfl,zm rfl rfl rfl,zm rfl rfl rfl,zp rfl (op_len_str _ _ _ Tryz.underlying9 rfl),zp rfl (op_bin _ _ _ _ _ rfl rfl (ibind (f := Value.int .i64) (Option.some.inj hv4))),zp rfl (op_substr _ _ _ v4 (s.size : Int) _ Tryz.underlying9 rfl ⟨_, rfl⟩ rfl hv5),za rfl rfl rfl,za rfl rfl rfl,za rfl rfl rfl,trivial⟩ ?_
   refine pt_then ?_
   refine ht_ret ?_
   refine pt_r_then ?_
   obtain rfl := Option.some.inj h
   exact pt_ret hio rfl (.tmp _ _ (.tmp _ _ (.tmp _ _ .nil))) rfl rfl
  ·have h := cond_f hb2 h
   refine ht_skip ?_
   refine pt_then ?_
   refine ht_seq ?_
   refine zh hn [_, _, _, _, (22, .v (.string s)), (4, .v (.string s)), (5, .v (.string (⟨#[]⟩ : ByteArray))), (6, .v (.bool false))] [0,1,2,3] [5,6,7] [zq [0] 4 22, zq [4] 5 4, zq [] 6 5, zq [] 7 6] [(_,_),(_,_),(_,_)] (by kernel_rfl) rfl rfl ⟨zm rfl rfl rfl,za rfl rfl rfl,za rfl rfl rfl,za rfl rfl rfl,trivial⟩ ?_
   refine pt_then ?_
   refine ht_ret ?_
   obtain rfl := Option.some.inj h
   exact pt_ret hio rfl (.tmp _ _ (.tmp _ _ (.tmp _ _ .nil))) rfl rfl
set_option maxHeartbeats 1000000 in
theorem ok_strings_Cut (s : ByteArray) (sep : ByteArray) (r : (ByteArray × ByteArray × Bool)) (h : Sh.strings_Cut s sep = some r) : FnOK Tryz.prog 33 [.v (.string s), .v (.string sep)] (.tup [.v (.string r.1), .v (.string r.2.1), .v (.bool r.2.2)]) := by
  unfold Sh.strings_Cut at h
  refine fn_ok Tryz.func33 rfl (zl rfl) rfl rfl fun g0 hn hio => ?_
  refine ht_seq ?_
  refine zh hn [_, _, (4, .v (.string (⟨#[]⟩ : ByteArray))), (5, .v (.string (⟨#[]⟩ : ByteArray))), (6, .v (.bool false))] [0,1] [0,1] [zq [] 2 4, zq [] 3 5, zq [] 4 6] [(_,_),(_,_)] (by kernel_rfl) rfl rfl ⟨za rfl rfl rfl,za rfl rfl rfl,za rfl rfl rfl,trivial⟩ ?_
  refine pt_then ?_
  refine ht_seq ?_
  obtain ⟨v1, hv1, h⟩ := bind_some h
  refine zh hn [_, _, (7, .v (.string s)), (8, .v (.string sep)), (9, .tup [.v (.string v1.1), .v (.string v1.2.1), .v (.bool v1.2.2)]), (10, .v (.string v1.1)), (11, .v (.string v1.2.1)), (12, .v (.bool v1.2.2)), (4, .v (.string v1.1)), (5, .v (.string v1.2.1)), (6, .v (.bool v1.2.2))] [0,1] [8,9,10] [zq [0] 2 7, zq [1] 3 8, zq [2,3] 4 9, zq [4] 5 10, zq [4] 6 11, zq [4] 7 12, zq [5] 8 4, zq [6] 9 5, zq [7] 10 6] [(_,_),(_,_),(_,_)] (by kernel_rfl) rfl rfl ⟨zm rfl rfl rfl,zm rfl rfl rfl,zp rfl (op_call _ _ 50 _ _ rfl Tryz.call50 rfl (ok_internal_stringslite_Cut s sep _ hv1) rfl rfl),zp rfl (op_extract _ _ _ _ _ rfl rfl (zl rfl) rfl rfl),zp rfl (op_extract _ _ _ _ _ rfl rfl (zl rfl) rfl rfl),zp rfl (op_extract _ _ _ _ _ rfl rfl (zl rfl) rfl rfl),za rfl rfl rfl,za rfl rfl rfl,za rfl rfl rfl,trivial⟩ ?_
  refine pt_then ?_
  refine ht_ret ?_
  obtain rfl := Option.some.inj h
  exact pt_ret hio rfl (.tmp _ _ (.tmp _ _ (.tmp _ _ .nil))) rfl rfl
set_option maxHeartbeats 1000000 in
theorem ok_path_Fold (s : ByteArray) (r : ByteArray) (h : Sh.path_Fold s = some r) : FnOK Tryz.prog 34 [.v (.string s)] (.v (.string r)) := by
  unfold Sh.path_Fold at h
  refine fn_ok Tryz.func34 rfl (zl rfl) rfl rfl fun g0 hn hio => ?_
  refine ht_seq ?_
  refine zh hn [_, (2, .v (.string (⟨#[]⟩ : ByteArray)))] [0] [0] [zq [] 1 2] [(_,_)] (by kernel_rfl) rfl rfl ⟨za rfl rfl rfl,trivial⟩ ?_
  refine pt_then ?_
  refine ht_seq ?_
  obtain ⟨v1, hv1, h⟩ := bind_some h
  refine zh hn [_, (6, .v (.string s)), (7, .mkr 5 (List.map (Value.int .u8) v1)), (3, .mkr 5 (List.map (Value.int .u8) v1))] [0] [3] [zq [0] 1 6, zq [1] 2 7, ⟨[], [2], [3], [(.slot 3)]⟩] [(_,_)] (by kernel_rfl) rfl rfl ⟨zm rfl rfl rfl,zp rfl ((Option.some.inj hv1) ▸ op_str_mk _ _ _ s Tryz.underlying9 Tryz.underlying67 Tryz.underlying5 rfl),zp rfl (op_assign_take _ _ _ _ rfl),trivial⟩ ?_
  refine pt_then ?_
  refine ht_seq ?_
  refine ht_seq ?_
  refine zh hn [_, (8, .same (.slot 3)), (9, .v (.int .i64 (v1.length : Int))), (10, .v (.int .i64 0))] [0] [0,1,2,3] [zq [0] 1 8, zq [1,0] 2 9, zq [] 3 10] [(_,_),(_,_),(_,_),(_,_)] (by kernel_rfl) rfl rfl ⟨zm rfl rfl rfl,zp rfl (op_len_mk _ _ _ Tryz.underlying67 rfl (List.length_map _)),zm rfl rfl rfl,trivial⟩ ?_
  refine pt_then ?_
  refine ht_loopS h (fun ((s40, s41) : (List Int) × Int) => [(3, .mkr 5 (List.map (Value.int .u8) s40)), (8, .same (.slot 3)), (9, .v (.int .i64 (v1.length : Int))), (10, .v (.int .i64 s41))]) (fun (s57 : (List Int)) => [(3, .mkr 5 (List.map (Value.int .u8) s57))]) ?_ ?_
  ·rintro s57 h
   refine pt_then ?_
   refine ht_seq ?_
   obtain ⟨v79, hv79, h⟩ := bind_some h
   refine zh hn [_, (27, .mkr 5 (List.map (Value.int .u8) s57)), (28, .v (.string v79)), (2, .v (.string v79))] [0] [3] [⟨[], [0], [1], [(.slot 27)]⟩, zq [1] 2 28, zq [2] 3 2] [(_,_)] (by kernel_rfl) rfl rfl ⟨zp rfl (op_move_take _ _ _ _ rfl),zp rfl ((Option.some.inj hv79) ▸ op_mk_str _ _ _ s57 Tryz.underlying67 Tryz.underlying9 Tryz.underlying5 rfl),za rfl rfl rfl,trivial⟩ ?_
   refine pt_then ?_
   refine ht_ret ?_
   obtain rfl := Option.some.inj h
   exact pt_ret hio rfl (.tmp _ _ .nil) rfl rfl
  ·rintro u58 hl59 hr60 ⟨s40, s41⟩ rr63 h ho61
   refine ht_seq ?_
   refine zh hn [_, _, _, _, (11, .v (.bool ((decide (s41 < (v1.length : Int))))))] [0,1,2,3] [0,1,2,3,4] [zq [3,2] 4 11] [(_,_),(_,_),(_,_),(_,_),(_,_)] (by kernel_rfl) rfl rfl ⟨zo rfl rfl rfl rfl,trivial⟩ ?_
   refine pt_then ?_
   refine ht_seq ?_
   refine ht_cond _ rfl (fun hb64 => ?_) (fun hb64 => ?_)
   ·have h := cond_t hb64 h
    refine ht_skip ?_
    refine pt_then ?_
    refine ht_seq ?_
    refine ht_joinS h (fun (s70 : (List Int)) => [(3, .mkr 5 (List.map (Value.int .u8) s70)), (8, .same (.slot 3)), (9, .v (.int .i64 (v1.length : Int))), (10, .v (.int .i64 s41))]) ?_ ?_
    ·rintro s70 h
     refine pt_then ?_
     obtain ⟨v22, hv22, h⟩ := bind_some h
     refine zh hn [_, _, _, _, (26, .v (.int .i64 v22)), (10, .v (.int .i64 v22))] [0,1,2,3] [0,1,2,5] [zq [3] 4 26, ⟨[4], [3], [5], [(.slot 10)]⟩] [(_,_),(_,_),(_,_),(_,_)] (by kernel_rfl) rfl rfl ⟨zp rfl (op_bin _ _ _ _ _ rfl rfl (ibind (f := Value.int .i64) (Option.some.inj hv22))),zp rfl (LOp.drop [_] (op_move _ _ _ _ rfl rfl)),trivial⟩ ?_
     exact pt_next _ (Option.some.inj h).symm rfl
    ·intro u71 h hl72 hr73
     refine ht_block ?_
     refine ht_seq ?_
     obtain ⟨v3, hv3, h⟩ := bind_some h
     obtain ⟨v4, hv4, h⟩ := bind_some h
     refine zh hn [_, _, _, _, _, (12, .v (.int .i64 s41)), (13, .eref (.slot 3) (v3 * 1)), (14, .v (.int .u8 v4)), (4, .v (.int .i64 s41)), (5, .v (.int .u8 v4))] [0,1,2,3,4] [0,1,2,3,8,9] [zq [3] 5 12, zq [1,0,3] 6 13, zq [6,0] 7 14, zq [5] 8 4, zq [7] 9 5] [(_,_),(_,_),(_,_),(_,_),(_,_),(_,_)] (by kernel_rfl) rfl rfl ⟨zm rfl rfl rfl,zp rfl (op_ix_mk _ _ _ _ _ _ _ Tryz.underlying67 sz5 rfl rfl rfl (ix_ok hv3).1 (mk_lt' (ix_ok hv3).2) rfl),zp rfl (op_load_mk _ _ _ _ _ _ Tryz.underlying5 rfl rfl rfl (map_get hv4)),za rfl rfl rfl,za rfl rfl rfl,trivial⟩ ?_
     refine pt_then ?_
     refine ht_seq ?_
     refine ht_joinS h (fun (s74 : Bool) => [(3, .mkr 5 (List.map (Value.int .u8) s40)), (8, .same (.slot 3)), (9, .v (.int .i64 (v1.length : Int))), (10, .v (.int .i64 s41)), (4, .v (.int .i64 s41)), (5, .v (.int .u8 v4)), (20, .v (.bool s74))]) ?_ ?_
     ·rintro s74 h
      refine pt_then ?_
      refine ht_cond _ rfl (fun hb78 => ?_) (fun hb78 => ?_)
      ·have h := cond_t hb78 h
       obtain ⟨v10, hv10, h⟩ := bind_some h
       obtain ⟨v11, hv11, h⟩ := bind_some h
       obtain ⟨v12, hv12, h⟩ := bind_some h
       refine zh hn [_, _, _, _, _, _, _, (21, .same (.slot 3)), (22, .v (.int .i64 s41)), (23, .v (.int .u8 v4)), (24, .v (.int .u8 v10)), (25, .eref (.slot 3) (v11 * 1)), (3, .mkr 5 (List.map (Value.int .u8) v12))] [0,1,2,3,4,5,6] [12,1,2,3] [zq [0] 7 21, zq [4] 8 22, zq [5] 9 23, zq [9] 10 24, zq [7,0,8] 11 25, ⟨[11, 10], [0], [12], []⟩] [(_,_),(_,_),(_,_),(_,_)] (by kernel_rfl) rfl rfl ⟨zm rfl rfl rfl,zm rfl rfl rfl,zm rfl rfl rfl,zp rfl (op_bin _ _ _ _ _ rfl rfl (ibind (f := Value.int .u8) (Option.some.inj hv10))),zp rfl (op_ix_mk _ _ _ _ _ _ _ Tryz.underlying67 sz5 rfl rfl rfl (ix_ok hv11).1 (mk_lt' (ix_ok hv11).2) rfl),zp rfl (op_store_mk _ _ _ _ _ _ _ sz5 rfl rfl rfl (mk_lt (ix_ok hv11).2) (mk_set (f := Value.int .u8) (Option.some.inj hv12))),trivial⟩ ?_
       refine pt_inb ?_
       exact hl72 _ (Option.some.inj h).symm
      ·have h := cond_f hb78 h
       refine ht_skip ?_
       refine pt_inb ?_
       refine pt_pick [0, 1, 2, 3] (by kernel_rfl) (es' := [(_, _), (_, _), (_, _), (_, _)]) rfl ?_
       exact hl72 _ (Option.some.inj h).symm
     ·intro u75 h hl76 hr77
      refine cond_some h (fun hg5_2 h => ?_) (fun hg5_2 h => ?_)
      ·refine zh hn [_, _, _, _, _, _, (15, .v (.int .u8 v4)), (16, .v (.bool ((decide (65 ≤ v4))))), (17, .v (.bool true)), (18, .v (.int .u8 v4)), (19, .v (.bool ((decide (v4 ≤ 90))))), (20, .v (.bool ((decide (v4 ≤ 90)))))] [0,1,2,3,4,5] [0,1,2,3,4,5,11] [zq [5] 6 15, zq [6] 7 16, zq [7] 8 17, zq [8,5] 9 18, zq [8,9] 10 19, zq [8,10] 11 20] [(_,_),(_,_),(_,_),(_,_),(_,_),(_,_),(_,_)] (by kernel_rfl) rfl rfl ⟨zm rfl rfl rfl,zo rfl rfl rfl rfl,zm rfl (zb hg5_2) rfl,zr 2 rfl rfl rfl (op_move _ _ _ _ rfl rfl),zr 2 rfl rfl rfl (op_bin _ _ _ _ _ rfl rfl rfl),zk true rfl rfl rfl,trivial⟩ ?_
       exact hl76 _ (Option.some.inj h).symm
      ·refine zh hn [_, _, _, _, _, _, (15, .v (.int .u8 v4)), (16, .v (.bool ((decide (65 ≤ v4))))), (17, .v (.bool false)), (18, .v undef), (19, .v undef), (20, .v (.bool false))] [0,1,2,3,4,5] [0,1,2,3,4,5,11] [zq [5] 6 15, zq [6] 7 16, zq [7] 8 17, zq [8] 9 18, zq [8] 10 19, zq [8] 11 20] [(_,_),(_,_),(_,_),(_,_),(_,_),(_,_),(_,_)] (by kernel_rfl) rfl rfl ⟨zm rfl rfl rfl,zo rfl rfl rfl rfl,zm rfl (zb hg5_2) rfl,zs 2 true rfl rfl rfl rfl,zs 2 true rfl rfl rfl rfl,zk false rfl rfl rfl,trivial⟩ ?_
       exact hl76 _ (Option.some.inj h).symm
   ·have h := cond_f hb64 h
    refine ht_exit ?_
    refine pt_x_then ?_
    refine pt_x_then ?_
    refine pt_x_in ?_
    refine pt_pick [0] (by kernel_rfl) (es' := [(_, _)]) rfl ?_
    exact hl59 _ (ho61 _ (Option.some.inj h).symm).symm
set_option maxHeartbeats 1000000 in
theorem ok_verb_kindOf (line : ByteArray) (r : Int) (h : Sh.verb_kindOf line = some r) : FnOK Tryz.prog 19 [.v (.string line)] (.v (.int .i64 r)) := by
  unfold Sh.verb_kindOf at h
  refine fn_ok Tryz.func19 rfl (zl rfl) rfl rfl fun g0 hn hio => ?_
  refine ht_seq ?_
  refine zh hn [_, (2, .v (.int .i64 0))] [0] [0] [zq [] 1 2] [(_,_)] (by kernel_rfl) rfl rfl ⟨za rfl rfl rfl,trivial⟩ ?_
  refine pt_then ?_
  refine ht_seq ?_
  obtain ⟨v1, hv1, h⟩ := bind_some h
  refine zh hn [_, (7, .v (.string line)), (8, .tup [.v (.string v1.1), .v (.string v1.2.1), .v (.bool v1.2.2)]), (6, .tup [.v (.string v1.1), .v (.string v1.2.1), .v (.bool v1.2.2)]), (9, .v (.string v1.1)), (10, .v (.string v1.2.1)), (11, .v (.bool v1.2.2)), (3, .v (.string v1.1)), (4, .v (.string v1.2.1)), (5, .v (.bool v1.2.2))] [0] [7] [zq [0] 1 7, zq [1] 2 8, ⟨[], [2], [3], [(.slot 6)]⟩, zq [3] 4 9, zq [3] 5 10, zq [3] 6 11, zq [4] 7 3, zq [5] 8 4, zq [6] 9 5] [(_,_)] (by kernel_rfl) rfl rfl ⟨zm rfl rfl rfl,zp rfl (op_call _ _ 33 _ _ rfl Tryz.call33 rfl (ok_strings_Cut line (⟨#[32]⟩ : ByteArray) _ hv1) rfl rfl),zp rfl (op_move_take _ _ _ _ rfl),zp rfl (op_extract _ _ _ _ _ rfl rfl (zl rfl) rfl rfl),zp rfl (op_extract _ _ _ _ _ rfl rfl (zl rfl) rfl rfl),zp rfl (op_extract _ _ _ _ _ rfl rfl (zl rfl) rfl rfl),za rfl rfl rfl,za rfl rfl rfl,za rfl rfl rfl,trivial⟩ ?_
  refine pt_then ?_
  refine ht_seq ?_
  refine ht_seq ?_
  obtain ⟨v2, hv2, h⟩ := bind_some h
  refine zh hn [_, (12, .v (.string v1.1)), (13, .v (.string v2))] [0] [2] [zq [0] 1 12, zq [1] 2 13] [(_,_)] (by kernel_rfl) rfl rfl ⟨zm rfl rfl rfl,zp rfl (op_call _ _ 34 _ _ rfl Tryz.call34 rfl (ok_path_Fold v1.1 _ hv2) rfl rfl),trivial⟩ ?_
  refine pt_then ?_
  refine ht_block ?_
  refine ht_seq ?_
  refine ht_joinS h (fun (s4 : Bool) => [(13, .v (.string v2)), (14, .v (.bool s4))]) ?_ ?_
  ·rintro s4 h
   refine pt_then ?_
   refine ht_cond _ rfl (fun hb9 => ?_) (fun hb9 => ?_)
   ·have h := cond_t hb9 h
    refine ht_seq ?_
    refine zh hn [_, _, (2, .v (.int .i64 1))] [0,1] [2] [zq [] 2 2] [(_,_)] (by kernel_rfl) rfl rfl ⟨za rfl rfl rfl,trivial⟩ ?_
    refine pt_then ?_
    refine ht_ret ?_
    refine pt_r_in ?_
    refine pt_r_then ?_
    obtain rfl := Option.some.inj h
    exact pt_ret hio rfl (.tmp _ _ .nil) rfl rfl
   ·have h := cond_f hb9 h
    refine ht_seq ?_
    refine zh hn [_, _, (18, .v (.bool ((v2.toList == (⟨#[109, 97, 105, 108]⟩ : ByteArray).toList)))), (17, .v (.bool ((v2.toList == (⟨#[109, 97, 105, 108]⟩ : ByteArray).toList))))] [0,1] [0,3] [zq [0] 2 18, zq [2] 3 17] [(_,_),(_,_)] (by kernel_rfl) rfl rfl ⟨zo rfl rfl rfl rfl,za rfl rfl rfl,trivial⟩ ?_
    refine pt_then ?_
    refine ht_cond _ rfl (fun hb10 => ?_) (fun hb10 => ?_)
    ·have h := cond_t hb10 h
     refine ht_seq ?_
     refine zh hn [_, _, (2, .v (.int .i64 2))] [0,1] [2] [zq [] 2 2] [(_,_)] (by kernel_rfl) rfl rfl ⟨za rfl rfl rfl,trivial⟩ ?_
     refine pt_then ?_
     refine ht_ret ?_
     refine pt_r_in ?_
     refine pt_r_then ?_
     obtain rfl := Option.some.inj h
     exact pt_ret hio rfl (.tmp _ _ .nil) rfl rfl
    ·have h := cond_f hb10 h
     refine ht_seq ?_
     refine zh hn [_, _, (20, .v (.bool ((v2.toList == (⟨#[114, 99, 112, 116]⟩ : ByteArray).toList)))), (19, .v (.bool ((v2.toList == (⟨#[114, 99, 112, 116]⟩ : ByteArray).toList))))] [0,1] [0,3] [zq [0] 2 20, zq [2] 3 19] [(_,_),(_,_)] (by kernel_rfl) rfl rfl ⟨zo rfl rfl rfl rfl,za rfl rfl rfl,trivial⟩ ?_
     refine pt_then ?_
     refine ht_cond _ rfl (fun hb11 => ?_) (fun hb11 => ?_)
     ·have h := cond_t hb11 h
      refine ht_seq ?_
      refine zh hn [_, _, (2, .v (.int .i64 3))] [0,1] [2] [zq [] 2 2] [(_,_)] (by kernel_rfl) rfl rfl ⟨za rfl rfl rfl,trivial⟩ ?_
      refine pt_then ?_
      refine ht_ret ?_
      refine pt_r_in ?_
      refine pt_r_then ?_
      obtain rfl := Option.some.inj h
      exact pt_ret hio rfl (.tmp _ _ .nil) rfl rfl
     ·have h := cond_f hb11 h
      refine ht_seq ?_
      refine zh hn [_, _, (22, .v (.bool ((v2.toList == (⟨#[100, 97, 116, 97]⟩ : ByteArray).toList)))), (21, .v (.bool ((v2.toList == (⟨#[100, 97, 116, 97]⟩ : ByteArray).toList))))] [0,1] [0,3] [zq [0] 2 22, zq [2] 3 21] [(_,_),(_,_)] (by kernel_rfl) rfl rfl ⟨zo rfl rfl rfl rfl,za rfl rfl rfl,trivial⟩ ?_
      refine pt_then ?_
      refine ht_cond _ rfl (fun hb12 => ?_) (fun hb12 => ?_)
      ·have h := cond_t hb12 h
       refine ht_seq ?_
       refine zh hn [_, _, (2, .v (.int .i64 4))] [0,1] [2] [zq [] 2 2] [(_,_)] (by kernel_rfl) rfl rfl ⟨za rfl rfl rfl,trivial⟩ ?_
       refine pt_then ?_
       refine ht_ret ?_
       refine pt_r_in ?_
       refine pt_r_then ?_
       obtain rfl := Option.some.inj h
       exact pt_ret hio rfl (.tmp _ _ .nil) rfl rfl
      ·have h := cond_f hb12 h
       refine ht_seq ?_
       refine zh hn [_, _, (24, .v (.bool ((v2.toList == (⟨#[114, 115, 101, 116]⟩ : ByteArray).toList)))), (23, .v (.bool ((v2.toList == (⟨#[114, 115, 101, 116]⟩ : ByteArray).toList))))] [0,1] [0,3] [zq [0] 2 24, zq [2] 3 23] [(_,_),(_,_)] (by kernel_rfl) rfl rfl ⟨zo rfl rfl rfl rfl,za rfl rfl rfl,trivial⟩ ?_
       refine pt_then ?_
       refine ht_cond _ rfl (fun hb13 => ?_) (fun hb13 => ?_)
       ·have h := cond_t hb13 h
        refine ht_seq ?_
        refine zh hn [_, _, (2, .v (.int .i64 5))] [0,1] [2] [zq [] 2 2] [(_,_)] (by kernel_rfl) rfl rfl ⟨za rfl rfl rfl,trivial⟩ ?_
        refine pt_then ?_
        refine ht_ret ?_
        refine pt_r_in ?_
        refine pt_r_then ?_
        obtain rfl := Option.some.inj h
        exact pt_ret hio rfl (.tmp _ _ .nil) rfl rfl
       ·have h := cond_f hb13 h
        refine ht_seq ?_
        refine zh hn [_, _, (26, .v (.bool ((v2.toList == (⟨#[113, 117, 105, 116]⟩ : ByteArray).toList)))), (25, .v (.bool ((v2.toList == (⟨#[113, 117, 105, 116]⟩ : ByteArray).toList))))] [0,1] [0,3] [zq [0] 2 26, zq [2] 3 25] [(_,_),(_,_)] (by kernel_rfl) rfl rfl ⟨zo rfl rfl rfl rfl,za rfl rfl rfl,trivial⟩ ?_
        refine pt_then ?_
        refine ht_cond _ rfl (fun hb14 => ?_) (fun hb14 => ?_)
        ·have h := cond_t hb14 h
         refine ht_seq ?_
         refine zh hn [_, _, (2, .v (.int .i64 8))] [0,1] [2] [zq [] 2 2] [(_,_)] (by kernel_rfl) rfl rfl ⟨za rfl rfl rfl,trivial⟩ ?_
         refine pt_then ?_
         refine ht_ret ?_
         refine pt_r_in ?_
         refine pt_r_then ?_
         obtain rfl := Option.some.inj h
         exact pt_ret hio rfl (.tmp _ _ .nil) rfl rfl
        ·have h := cond_f hb14 h
         refine ht_seq ?_
         refine zh hn [_, _, (28, .v (.bool ((v2.toList == (⟨#[110, 111, 111, 112]⟩ : ByteArray).toList)))), (27, .v (.bool ((v2.toList == (⟨#[110, 111, 111, 112]⟩ : ByteArray).toList))))] [0,1] [0,3] [zq [0] 2 28, zq [2] 3 27] [(_,_),(_,_)] (by kernel_rfl) rfl rfl ⟨zo rfl rfl rfl rfl,za rfl rfl rfl,trivial⟩ ?_
         refine pt_then ?_
         refine ht_cond _ rfl (fun hb15 => ?_) (fun hb15 => ?_)
         ·have h := cond_t hb15 h
          refine ht_seq ?_
          refine zh hn [_, _, (2, .v (.int .i64 7))] [0,1] [2] [zq [] 2 2] [(_,_)] (by kernel_rfl) rfl rfl ⟨za rfl rfl rfl,trivial⟩ ?_
          refine pt_then ?_
          refine ht_ret ?_
          refine pt_r_in ?_
          refine pt_r_then ?_
          obtain rfl := Option.some.inj h
          exact pt_ret hio rfl (.tmp _ _ .nil) rfl rfl
         ·have h := cond_f hb15 h
          refine ht_seq ?_
          refine zh hn [_, _, (30, .v (.bool ((v2.toList == (⟨#[118, 114, 102, 121]⟩ : ByteArray).toList)))), (29, .v (.bool ((v2.toList == (⟨#[118, 114, 102, 121]⟩ : ByteArray).toList))))] [0,1] [0,3] [zq [0] 2 30, zq [2] 3 29] [(_,_),(_,_)] (by kernel_rfl) rfl rfl ⟨zo rfl rfl rfl rfl,za rfl rfl rfl,trivial⟩ ?_
          refine pt_then ?_
          refine ht_cond _ rfl (fun hb16 => ?_) (fun hb16 => ?_)
          ·have h := cond_t hb16 h
           refine ht_seq ?_
           refine zh hn [_, _, (2, .v (.int .i64 6))] [0,1] [2] [zq [] 2 2] [(_,_)] (by kernel_rfl) rfl rfl ⟨za rfl rfl rfl,trivial⟩ ?_
           refine pt_then ?_
           refine ht_ret ?_
           refine pt_r_in ?_
           refine pt_r_then ?_
           obtain rfl := Option.some.inj h
           exact pt_ret hio rfl (.tmp _ _ .nil) rfl rfl
          ·have h := cond_f hb16 h
           refine ht_seq ?_
           refine zh hn [_, _, (32, .v (.bool ((v2.toList == (⟨#[101, 116, 114, 110]⟩ : ByteArray).toList)))), (31, .v (.bool ((v2.toList == (⟨#[101, 116, 114, 110]⟩ : ByteArray).toList))))] [0,1] [0,3] [zq [0] 2 32, zq [2] 3 31] [(_,_),(_,_)] (by kernel_rfl) rfl rfl ⟨zo rfl rfl rfl rfl,za rfl rfl rfl,trivial⟩ ?_
           refine pt_then ?_
           refine ht_cond _ rfl (fun hb17 => ?_) (fun hb17 => ?_)
           ·have h := cond_t hb17 h
            refine ht_seq ?_
            refine zh hn [_, _, (2, .v (.int .i64 9))] [0,1] [2] [zq [] 2 2] [(_,_)] (by kernel_rfl) rfl rfl ⟨za rfl rfl rfl,trivial⟩ ?_
            refine pt_then ?_
            refine ht_ret ?_
            refine pt_r_in ?_
            refine pt_r_then ?_
            obtain rfl := Option.some.inj h
            exact pt_ret hio rfl (.tmp _ _ .nil) rfl rfl
           ·have h := cond_f hb17 h
            refine ht_seq ?_
            refine zh hn [_, _, (34, .v (.bool ((v2.toList == (⟨#[97, 117, 116, 104]⟩ : ByteArray).toList)))), (33, .v (.bool ((v2.toList == (⟨#[97, 117, 116, 104]⟩ : ByteArray).toList))))] [0,1] [0,3] [zq [0] 2 34, zq [2] 3 33] [(_,_),(_,_)] (by kernel_rfl) rfl rfl ⟨zo rfl rfl rfl rfl,za rfl rfl rfl,trivial⟩ ?_
            refine pt_then ?_
            refine ht_cond _ rfl (fun hb18 => ?_) (fun hb18 => ?_)
            ·have h := cond_t hb18 h
             refine ht_seq ?_
             refine zh hn [_, _, (2, .v (.int .i64 10))] [0,1] [2] [zq [] 2 2] [(_,_)] (by kernel_rfl) rfl rfl ⟨za rfl rfl rfl,trivial⟩ ?_
             refine pt_then ?_
             refine ht_ret ?_
             refine pt_r_in ?_
             refine pt_r_then ?_
             obtain rfl := Option.some.inj h
             exact pt_ret hio rfl (.tmp _ _ .nil) rfl rfl
            ·have h := cond_f hb18 h
             refine ht_seq ?_
             refine zh hn [_, _, (36, .v (.bool ((v2.toList == (⟨#[97, 116, 114, 110]⟩ : ByteArray).toList)))), (35, .v (.bool ((v2.toList == (⟨#[97, 116, 114, 110]⟩ : ByteArray).toList))))] [0,1] [3] [zq [0] 2 36, zq [2] 3 35] [(_,_)] (by kernel_rfl) rfl rfl ⟨zo rfl rfl rfl rfl,za rfl rfl rfl,trivial⟩ ?_
             refine pt_then ?_
             refine ht_cond _ rfl (fun hb19 => ?_) (fun hb19 => ?_)
             ·have h := cond_t hb19 h
              refine ht_seq ?_
              refine zh hn [_, (2, .v (.int .i64 11))] [0] [1] [zq [] 1 2] [(_,_)] (by kernel_rfl) rfl rfl ⟨za rfl rfl rfl,trivial⟩ ?_
              refine pt_then ?_
              refine ht_ret ?_
              refine pt_r_in ?_
              refine pt_r_then ?_
              obtain rfl := Option.some.inj h
              exact pt_ret hio rfl (.tmp _ _ .nil) rfl rfl
             ·have h := cond_f hb19 h
              refine ht_skip ?_
              refine pt_inb ?_
              refine pt_then ?_
              refine ht_seq ?_
              refine zh hn [_, (2, .v (.int .i64 0))] [0] [1] [zq [] 1 2] [(_,_)] (by kernel_rfl) rfl rfl ⟨za rfl rfl rfl,trivial⟩ ?_
              refine pt_then ?_
              refine ht_ret ?_
              obtain rfl := Option.some.inj h
              exact pt_ret hio rfl (.tmp _ _ .nil) rfl rfl
  ·intro u5 h hl6 hr7
   refine ht_seq ?_
   refine zh hn [_, (15, .v (.bool ((v2.toList == (⟨#[101, 104, 108, 111]⟩ : ByteArray).toList)))), (14, .v (.bool ((v2.toList == (⟨#[101, 104, 108, 111]⟩ : ByteArray).toList))))] [0] [0,2] [zq [0] 1 15, zq [1] 2 14] [(_,_),(_,_)] (by kernel_rfl) rfl rfl ⟨zo rfl rfl rfl rfl,za rfl rfl rfl,trivial⟩ ?_
   refine pt_then ?_
   refine ht_cond _ rfl (fun hb8 => ?_) (fun hb8 => ?_)
   ·have h := cond_t hb8 h
    refine ht_skip ?_
    exact hl6 _ (Option.some.inj h).symm
   ·have h := cond_f hb8 h
    refine zh hn [_, _, (16, .v (.bool ((v2.toList == (⟨#[104, 101, 108, 111]⟩ : ByteArray).toList)))), (14, .v (.bool ((v2.toList == (⟨#[104, 101, 108, 111]⟩ : ByteArray).toList))))] [0,1] [0,3] [zq [0] 2 16, ⟨[2], [1], [3], [(.slot 14)]⟩] [(_,_),(_,_)] (by kernel_rfl) rfl rfl ⟨zo rfl rfl rfl rfl,zp rfl (LOp.drop [_] (op_assign _ _ _ _ rfl rfl)),trivial⟩ ?_
    exact hl6 _ (Option.some.inj h).symm
set_option maxHeartbeats 1000000 in
theorem ok_verb_equalFold (a : ByteArray) (b : ByteArray) (r : Bool) (h : Sh.verb_equalFold a b = some r) : FnOK Tryz.prog 36 [.v (.string a), .v (.string b)] (.v (.bool r)) := by
  unfold Sh.verb_equalFold at h
  refine fn_ok Tryz.func36 rfl (zl rfl) rfl rfl fun g0 hn hio => ?_
  refine ht_seq ?_
  refine zh hn [_, _, (4, .v (.bool false))] [0,1] [0,1] [zq [] 2 4] [(_,_),(_,_)] (by kernel_rfl) rfl rfl ⟨za rfl rfl rfl,trivial⟩ ?_
  refine pt_then ?_
  refine ht_seq ?_
  obtain ⟨v1, hv1, h⟩ := bind_some h
  obtain ⟨v2, hv2, h⟩ := bind_some h
  refine zh hn [_, _, (5, .v (.string a)), (6, .v (.string v1)), (7, .v (.string b)), (8, .v (.string v2)), (9, .v (.bool (v1.toList == v2.toList))), (4, .v (.bool (v1.toList == v2.toList)))] [0,1] [7] [zq [0] 2 5, zq [2] 3 6, zq [1] 4 7, zq [4] 5 8, zq [3,5] 6 9, zq [6] 7 4] [(_,_)] (by kernel_rfl) rfl rfl ⟨zm rfl rfl rfl,zp rfl (op_call _ _ 34 _ _ rfl Tryz.call34 rfl (ok_path_Fold a _ hv1) rfl rfl),zm rfl rfl rfl,zp rfl (op_call _ _ 34 _ _ rfl Tryz.call34 rfl (ok_path_Fold b _ hv2) rfl rfl),zo rfl rfl rfl rfl,za rfl rfl rfl,trivial⟩ ?_
  refine pt_then ?_
  refine ht_ret ?_
  obtain rfl := Option.some.inj h
  exact pt_ret hio rfl (.tmp _ _ .nil) rfl rfl
set_option maxHeartbeats 1000000 in
theorem ok_verb_cutFold (s : ByteArray) (prefix_ : ByteArray) (r : (ByteArray × Bool)) (h : Sh.verb_cutFold s prefix_ = some r) : FnOK Tryz.prog 35 [.v (.string s), .v (.string prefix_)] (.tup [.v (.string r.1), .v (.bool r.2)]) := by
  unfold Sh.verb_cutFold at h
  refine fn_ok Tryz.func35 rfl (zl rfl) rfl rfl fun g0 hn hio => ?_
  refine ht_seq ?_
  refine zh hn [_, _, (4, .v (.string (⟨#[]⟩ : ByteArray))), (5, .v (.bool false))] [0,1] [0,1] [zq [] 2 4, zq [] 3 5] [(_,_),(_,_)] (by kernel_rfl) rfl rfl ⟨za rfl rfl rfl,za rfl rfl rfl,trivial⟩ ?_
  refine pt_then ?_
  refine ht_seq ?_
  refine ht_seq ?_
  refine ht_joinS h (fun (s3 : Bool) => [(0, .v (.string s)), (1, .v (.string prefix_)), (19, .v (.bool s3))]) ?_ ?_
  ·rintro s3 h
   refine pt_then ?_
   refine ht_cond _ rfl (fun hb7 => ?_) (fun hb7 => ?_)
   ·have h := cond_t hb7 h
    refine ht_seq ?_
    refine zh hn [_, _, _, (4, .v (.string (⟨#[]⟩ : ByteArray))), (5, .v (.bool false))] [0,1,2] [3,4] [zq [] 3 4, zq [] 4 5] [(_,_),(_,_)] (by kernel_rfl) rfl rfl ⟨za rfl rfl rfl,za rfl rfl rfl,trivial⟩ ?_
    refine pt_then ?_
    refine ht_ret ?_
    refine pt_r_then ?_
    obtain rfl := Option.some.inj h
    exact pt_ret hio rfl (.tmp _ _ (.tmp _ _ .nil)) rfl rfl
   ·have h := cond_f hb7 h
    refine ht_skip ?_
    refine pt_then ?_
    refine ht_seq ?_
    obtain ⟨v8, hv8, h⟩ := bind_some h
    refine zh hn [_, _, _, (20, .v (.string s)), (21, .v (.string prefix_)), (22, .v (.int .i64 (prefix_.size : Int))), (23, .v (.string v8)), (4, .v (.string v8)), (5, .v (.bool true))] [0,1,2] [7,8] [zq [0] 3 20, zq [1] 4 21, zq [4] 5 22, zq [3,5] 6 23, zq [6] 7 4, zq [] 8 5] [(_,_),(_,_)] (by kernel_rfl) rfl rfl ⟨zm rfl rfl rfl,zm rfl rfl rfl,zp rfl (op_len_str _ _ _ Tryz.underlying9 rfl),zp rfl (op_substr _ _ _ (prefix_.size : Int) (s.size : Int) _ Tryz.underlying9 rfl ⟨_, rfl⟩ rfl hv8),za rfl rfl rfl,za rfl rfl rfl,trivial⟩ ?_
    refine pt_then ?_
    refine ht_ret ?_
    obtain rfl := Option.some.inj h
    exact pt_ret hio rfl (.tmp _ _ (.tmp _ _ .nil)) rfl rfl
  ·intro u4 h hl5 hr6
   refine cond_some h (fun hg1_5 h => ?_) (fun hg1_5 h => ?_)
   ·refine zh hn (_ :: _ :: (6, .v (.string s)) :: (7, .v (.int .i64 (s.size : Int))) :: (8, .v (.string prefix_)) :: (9, .v (.int .i64 (prefix_.size : Int))) :: (10, .v (.bool ((decide ((s.size : Int) < (prefix_.size : Int)))))) :: (11, .v (.bool true)) :: (12, .v undef) :: (13, .v undef) :: (14, .v undef) :: (15, .v undef) :: (16, .v undef) :: (17, .v undef) :: (18, .v undef) :: (19, .v (.bool true)) :: []) [0,1] [0,1,15] [zq [0] 2 6, zq [2] 3 7, zq [1] 4 8, zq [4] 5 9, zq [3,5] 6 10, zq [6] 7 11, zq [7] 8 12, zq [7] 9 13, zq [7] 10 14, zq [7] 11 15, zq [7] 12 16, zq [7] 13 17, zq [7] 14 18, zq [7] 15 19] [(_,_),(_,_),(_,_)] (by kernel_rfl) rfl rfl ⟨zm rfl rfl rfl,zp rfl (op_len_str _ _ _ Tryz.underlying9 rfl),zm rfl rfl rfl,zp rfl (op_len_str _ _ _ Tryz.underlying9 rfl),zo rfl rfl rfl rfl,zm rfl (zb hg1_5) rfl,zs 5 false rfl rfl rfl rfl,zs 5 false rfl rfl rfl rfl,zs 5 false rfl rfl rfl rfl,zs 5 false rfl rfl rfl rfl,zs 5 false rfl rfl rfl rfl,zs 5 false rfl rfl rfl rfl,zs 5 false rfl rfl rfl rfl,zk true rfl rfl rfl,trivial⟩ ?_
    exact hl5 _ (Option.some.inj h).symm
   ·obtain ⟨v1, hv1, h⟩ := bind_some h
    obtain ⟨v2, hv2, h⟩ := bind_some h
    refine zh hn (_ :: _ :: (6, .v (.string s)) :: (7, .v (.int .i64 (s.size : Int))) :: (8, .v (.string prefix_)) :: (9, .v (.int .i64 (prefix_.size : Int))) :: (10, .v (.bool ((decide ((s.size : Int) < (prefix_.size : Int)))))) :: (11, .v (.bool false)) :: (12, .v (.string s)) :: (13, .v (.string prefix_)) :: (14, .v (.int .i64 (prefix_.size : Int))) :: (15, .v (.string v1)) :: (16, .v (.string prefix_)) :: (17, .v (.bool v2)) :: (18, .v (.bool (!v2))) :: (19, .v (.bool (!v2))) :: []) [0,1] [0,1,15] [zq [0] 2 6, zq [2] 3 7, zq [1] 4 8, zq [4] 5 9, zq [3,5] 6 10, zq [6] 7 11, zq [7,0] 8 12, zq [7,1] 9 13, zq [7,9] 10 14, zq [7,8,10] 11 15, zq [7,1] 12 16, zq [7,11,12] 13 17, zq [7,13] 14 18, zq [7,14] 15 19] [(_,_),(_,_),(_,_)] (by kernel_rfl) rfl rfl ⟨zm rfl rfl rfl,zp rfl (op_len_str _ _ _ Tryz.underlying9 rfl),zm rfl rfl rfl,zp rfl (op_len_str _ _ _ Tryz.underlying9 rfl),zo rfl rfl rfl rfl,zm rfl (zb hg1_5) rfl,zr 5 rfl rfl rfl (op_move _ _ _ _ rfl rfl),zr 5 rfl rfl rfl (op_move _ _ _ _ rfl rfl),zr 5 rfl rfl rfl (op_len_str _ _ _ Tryz.underlying9 rfl),zr 5 rfl rfl rfl (op_substr _ _ _ 0 (prefix_.size : Int) _ Tryz.underlying9 rfl rfl ⟨_, rfl⟩ hv1),zr 5 rfl rfl rfl (op_move _ _ _ _ rfl rfl),zr 5 rfl rfl rfl (op_call _ _ 36 _ _ rfl Tryz.call36 rfl (ok_verb_equalFold v1 prefix_ _ hv2) rfl rfl),zr 5 rfl rfl rfl (op_un _ _ _ _ rfl rfl),zk false rfl rfl rfl,trivial⟩ ?_
    exact hl5 _ (Option.some.inj h).symm
set_option maxHeartbeats 1000000 in
theorem ok_strings_splitSeq (s : ByteArray) (sep : ByteArray) (sepSave : Int) (r : (ByteArray × ByteArray × Int)) (h : Sh.strings_splitSeq s sep sepSave = some r) : FnOK Tryz.prog 77 [.v (.string s), .v (.string sep), .v (.int .i64 sepSave)] (.cloB 86 [.box 9 [.v (.string r.1)], .box 9 [.v (.string r.2.1)], .box 3 [.v (.int .i64 r.2.2)]]) := by
  unfold Sh.strings_splitSeq at h
  refine fn_ok Tryz.func77 rfl (zl rfl) rfl rfl fun g0 hn hio => ?_
  refine ht_seq ?_
  refine zh hn [_, _, _, (3, .box 9 [.v (.string s)]), (4, .box 9 [.v (.string sep)]), (5, .box 3 [.v (.int .i64 sepSave)]), (6, .v (.nilFunc))] [0,1,2] [3,4,5] [zq [0] 3 3, zq [1] 4 4, zq [2] 5 5, zq [] 6 6] [(_,_),(_,_),(_,_)] (by kernel_rfl) rfl rfl ⟨zp rfl (op_box _ _ _ _ rfl rfl rfl),zp rfl (op_box _ _ _ _ rfl rfl rfl),zp rfl (op_box _ _ _ _ rfl rfl rfl),za rfl rfl rfl,trivial⟩ ?_
  refine pt_then ?_
  refine ht_seq ?_
  refine zh hn [_, _, _, (7, .cloB 86 [.box 9 [.v (.string sep)], .box 9 [.v (.string s)], .box 3 [.v (.int .i64 sepSave)]]), (6, .cloB 86 [.box 9 [.v (.string sep)], .box 9 [.v (.string s)], .box 3 [.v (.int .i64 sepSave)]])] [0,1,2] [4] [⟨[], [1, 0, 2], [3], [(.slot 7)]⟩, ⟨[], [3], [4], [(.slot 6)]⟩] [(_,_)] (by kernel_rfl) rfl rfl ⟨zp rfl (op_mkclo _ _ [4, 3, 5] [.box 9 [.v (.string sep)], .box 9 [.v (.string s)], .box 3 [.v (.int .i64 sepSave)]] rfl rfl rfl),zp rfl (op_assign_take _ _ _ _ rfl),trivial⟩ ?_
  refine pt_then ?_
  refine ht_ret ?_
  obtain rfl := Option.some.inj h
  exact pt_ret hio rfl (.tmp _ _ .nil) rfl rfl
set_option maxHeartbeats 1000000 in
theorem ok_strings_SplitSeq (s : ByteArray) (sep : ByteArray) (r : (ByteArray × ByteArray × Int)) (h : Sh.strings_SplitSeq s sep = some r) : FnOK Tryz.prog 61 [.v (.string s), .v (.string sep)] (.cloB 86 [.box 9 [.v (.string r.1)], .box 9 [.v (.string r.2.1)], .box 3 [.v (.int .i64 r.2.2)]]) := by
  unfold Sh.strings_SplitSeq at h
  refine fn_ok Tryz.func61 rfl (zl rfl) rfl rfl fun g0 hn hio => ?_
  refine ht_seq ?_
  refine zh hn [_, _, (4, .v (.nilFunc))] [0,1] [0,1] [zq [] 2 4] [(_,_),(_,_)] (by kernel_rfl) rfl rfl ⟨za rfl rfl rfl,trivial⟩ ?_
  refine pt_then ?_
  refine ht_seq ?_
  obtain ⟨v1, hv1, h⟩ := bind_some h
  refine zh hn [_, _, (5, .v (.string s)), (6, .v (.string sep)), (7, .cloB 86 [.box 9 [.v (.string v1.1)], .box 9 [.v (.string v1.2.1)], .box 3 [.v (.int .i64 v1.2.2)]]), (4, .cloB 86 [.box 9 [.v (.string v1.1)], .box 9 [.v (.string v1.2.1)], .box 3 [.v (.int .i64 v1.2.2)]])] [0,1] [5] [zq [0] 2 5, zq [1] 3 6, zq [2,3] 4 7, ⟨[], [4], [5], [(.slot 4)]⟩] [(_,_)] (by kernel_rfl) rfl rfl ⟨zm rfl rfl rfl,zm rfl rfl rfl,zp rfl (op_callS _ _ 77 _ _ rfl Tryz.call77 rfl rfl (ok_strings_splitSeq s sep 0 _ hv1) rfl),zp rfl (op_assign_take _ _ _ _ rfl),trivial⟩ ?_
  refine pt_then ?_
  refine ht_ret ?_
  obtain rfl := Option.some.inj h
  exact pt_ret hio rfl (.tmp _ _ .nil) rfl rfl
set_option maxHeartbeats 1000000 in
theorem ok_unicode_utf8_decodeRuneInStringSlow (mx : Int) (s : ByteArray) (r : (Int × Int)) (h : Sh.unicode_utf8_decodeRuneInStringSlow s = some r) : FnG Tryz.prog (GL mx) 93 [.v (.string s)] (.tup [.v (.int .i32 r.1), .v (.int .i64 r.2)]) := by
  unfold Sh.unicode_utf8_decodeRuneInStringSlow at h
  refine fn_okG Tryz.func93 rfl (zl rfl) rfl rfl fun g0 hn hio => ?_
  refine ht_seq ?_
  refine zh hn [_, _, (2, .v (.int .i32 0)), (3, .v (.int .i64 0))] [0,1] [0,1] [zq [] 2 2, zq [] 3 3] [(_,_),(_,_)] (by kernel_rfl) rfl rfl ⟨za rfl rfl rfl,za rfl rfl rfl,trivial⟩ ?_
  refine pt_then ?_
  refine ht_seq ?_
  refine zh hn [_, _, (13, .v (.string s)), (14, .v (.int .i64 (s.size : Int))), (4, .v (.int .i64 (s.size : Int)))] [0,1] [0,1,4] [zq [0] 2 13, zq [2] 3 14, zq [3] 4 4] [(_,_),(_,_),(_,_)] (by kernel_rfl) rfl rfl ⟨zm rfl rfl rfl,zp rfl (op_len_str _ _ _ Tryz.underlying9 rfl),za rfl rfl rfl,trivial⟩ ?_
  refine pt_then ?_
  refine ht_seq ?_
  refine ht_seq ?_
  refine zh hn [_, _, _, (15, .v (.int .i64 (s.size : Int))), (16, .v (.bool ((decide ((s.size : Int) < 1)))))] [0,1,2] [0,1,2,4] [zq [2] 3 15, zq [3] 4 16] [(_,_),(_,_),(_,_),(_,_)] (by kernel_rfl) rfl rfl ⟨zm rfl rfl rfl,zo rfl rfl rfl rfl,trivial⟩ ?_
  refine pt_then ?_
  refine ht_cond _ rfl (fun hb1 => ?_) (fun hb1 => ?_)
  ·have h := cond_t hb1 h
   refine ht_seq ?_
   refine zh hn [_, _, _, _, (2, .v (.int .i32 65533)), (3, .v (.int .i64 0))] [0,1,2,3] [1,4,5] [zq [] 4 2, zq [] 5 3] [(_,_),(_,_),(_,_)] (by kernel_rfl) rfl rfl ⟨za rfl rfl rfl,za rfl rfl rfl,trivial⟩ ?_
   refine pt_then ?_
   refine ht_ret ?_
   refine pt_pick [1, 2] (by kernel_rfl) (es' := [(_, _), (_, _)]) rfl ?_
   refine pt_r_then ?_
   obtain rfl := Option.some.inj h
   exact pt_ret hio rfl (.tmp _ _ (.tmp _ _ .nil)) rfl rfl
  ·have h := cond_f hb1 h
   refine ht_skip ?_
   refine pt_then ?_
   refine ht_seq ?_
   obtain ⟨v2, hv2, h⟩ := bind_some h
   refine zh hn [_, _, _, _, (17, .v (.string s)), (18, .v (.int .u8 v2)), (5, .v (.int .u8 v2))] [0,1,2,3] [0,1,2,6] [zq [0] 4 17, zq [4] 5 18, zq [5] 6 5] [(_,_),(_,_),(_,_),(_,_)] (by kernel_rfl) rfl rfl ⟨zm rfl rfl rfl,zp rfl (op_chr _ _ _ 0 _ Tryz.underlying9 rfl rfl hv2),za rfl rfl rfl,trivial⟩ ?_
   refine pt_then ?_
   refine ht_seq ?_
   obtain ⟨v3, hv3, h⟩ := bind_some h
   obtain ⟨v4, hv4, h⟩ := bind_some h
   refine zh hn [_, _, _, _, (19, .v (.int .u8 v2)), (20, .v (.pointer (some ⟨1, (0 + v3 * 1), none⟩))), (21, .v (.int .u8 v4)), (6, .v (.int .u8 v4))] [0,1,2,3] [0,1,2,3,7] [zq [3] 4 19, zq [4] 5 20, zq [5,1] 6 21, zq [6] 7 6] [(_,_),(_,_),(_,_),(_,_),(_,_)] (by kernel_rfl) rfl rfl ⟨zm rfl rfl rfl,zp rfl (op_ix_globz _ _ _ _ 256 1 0 _ 1 _ Tryz.underlying111 sz5 rfl rfl (ix_ok hv3).1 (ix_ok hv3).2),zp rfl (op_load_glob _ _ 117 1 _ _ _ Tryz.underlying5 rfl rfl rfl (gl_mem1 mx) (map_get1 hv4)),za rfl rfl rfl,trivial⟩ ?_
   refine pt_then ?_
   refine ht_seq ?_
   refine ht_seq ?_
   refine zh hn [_, _, _, _, _, (22, .v (.int .u8 v4)), (23, .v (.bool ((decide (240 ≤ v4)))))] [0,1,2,3,4] [0,1,2,3,4,6] [zq [4] 5 22, zq [5] 6 23] [(_,_),(_,_),(_,_),(_,_),(_,_),(_,_)] (by kernel_rfl) rfl rfl ⟨zm rfl rfl rfl,zo rfl rfl rfl rfl,trivial⟩ ?_
   refine pt_then ?_
   refine ht_cond _ rfl (fun hb5 => ?_) (fun hb5 => ?_)
   ·have h := cond_t hb5 h
    refine ht_seq ?_
    obtain ⟨v6, hv6, h⟩ := bind_some h
    obtain ⟨v7, hv7, h⟩ := bind_some h
    obtain ⟨v8, hv8, h⟩ := bind_some h
    refine zh hn [_, _, _, _, _, _, (24, .v (.int .u8 v4)), (25, .v (.int .i32 v6)), (26, .v (.int .i32 v7)), (27, .v (.int .i32 v8)), (7, .v (.int .i32 v8))] [0,1,2,3,4,5] [0,1,10] [zq [4] 6 24, zq [6] 7 25, zq [7] 8 26, zq [8] 9 27, zq [9] 10 7] [(_,_),(_,_),(_,_)] (by kernel_rfl) rfl rfl ⟨zm rfl rfl rfl,zp rfl ((Option.some.inj hv6) ▸ op_conv _ _ _ Tryz.underlying5 Tryz.underlying21 rfl),zp rfl (op_bin _ _ _ _ _ rfl rfl (shl_ok hv7)),zp rfl (op_bin _ _ _ _ _ rfl rfl (shr_ok hv8)),za rfl rfl rfl,trivial⟩ ?_
    refine pt_then ?_
    refine ht_seq ?_
    obtain ⟨v9, hv9, h⟩ := bind_some h
    obtain ⟨v10, hv10, h⟩ := bind_some h
    obtain ⟨v11, hv11, h⟩ := bind_some h
    obtain ⟨v12, hv12, h⟩ := bind_some h
    obtain ⟨v13, hv13, h⟩ := bind_some h
    refine zh hn [_, _, _, (28, .v (.string s)), (29, .v (.int .u8 v9)), (30, .v (.int .i32 v10)), (31, .v (.int .i32 v8)), (32, .v (.int .i32 v11)), (33, .v (.int .i32 v8)), (34, .v (.int .i32 v12)), (35, .v (.int .i32 v13)), (2, .v (.int .i32 v13)), (3, .v (.int .i64 1))] [0,1,2] [1,11,12] [zq [0] 3 28, zq [3] 4 29, zq [4] 5 30, zq [2] 6 31, zq [5,6] 7 32, zq [2] 8 33, zq [8] 9 34, zq [7,9] 10 35, zq [10] 11 2, zq [] 12 3] [(_,_),(_,_),(_,_)] (by kernel_rfl) rfl rfl ⟨zm rfl rfl rfl,zp rfl (op_chr _ _ _ 0 _ Tryz.underlying9 rfl rfl hv9),zp rfl ((Option.some.inj hv10) ▸ op_conv _ _ _ Tryz.underlying5 Tryz.underlying21 rfl),zm rfl rfl rfl,zp rfl (op_bin _ _ _ _ _ rfl rfl (ibind (f := Value.int .i32) (Option.some.inj hv11))),zm rfl rfl rfl,zp rfl (op_bin _ _ _ _ _ rfl rfl (ibind (f := Value.int .i32) (Option.some.inj hv12))),zp rfl (op_bin _ _ _ _ _ rfl rfl (ibind (f := Value.int .i32) (Option.some.inj hv13))),za rfl rfl rfl,za rfl rfl rfl,trivial⟩ ?_
    refine pt_then ?_
    refine ht_ret ?_
    refine pt_pick [1, 2] (by kernel_rfl) (es' := [(_, _), (_, _)]) rfl ?_
    refine pt_r_then ?_
    obtain rfl := Option.some.inj h
    exact pt_ret hio rfl (.tmp _ _ (.tmp _ _ .nil)) rfl rfl
   ·have h := cond_f hb5 h
    cases h
set_option maxHeartbeats 1000000 in
theorem ok_unicode_utf8_DecodeRuneInString (mx : Int) (s : ByteArray) (r : (Int × Int)) (h : Sh.unicode_utf8_DecodeRuneInString s = some r) : FnG Tryz.prog (GL mx) 87 [.v (.string s)] (.tup [.v (.int .i32 r.1), .v (.int .i64 r.2)]) := by
  unfold Sh.unicode_utf8_DecodeRuneInString at h
  refine fn_okG Tryz.func87 rfl (zl rfl) rfl rfl fun g0 hn hio => ?_
  refine ht_seq ?_
  refine zh hn [_, _, (2, .v (.int .i32 0)), (3, .v (.int .i64 0))] [0,1] [0,1] [zq [] 2 2, zq [] 3 3] [(_,_),(_,_)] (by kernel_rfl) rfl rfl ⟨za rfl rfl rfl,za rfl rfl rfl,trivial⟩ ?_
  refine pt_then ?_
  refine ht_seq ?_
  refine ht_seq ?_
  refine ht_joinS h (fun (s2 : Bool) => [(0, .v (.string s)), (19, .glob (GL mx)), (10, .v (.bool s2))]) ?_ ?_
  ·rintro s2 h
   refine pt_then ?_
   refine ht_cond _ rfl (fun hb6 => ?_) (fun hb6 => ?_)
   ·have h := cond_t hb6 h
    refine ht_seq ?_
    obtain ⟨v7, hv7, h⟩ := bind_some h
    obtain ⟨v8, hv8, h⟩ := bind_some h
    refine zh hn [_, _, _, (11, .v (.string s)), (12, .v (.int .u8 v7)), (13, .v (.int .i32 v8)), (2, .v (.int .i32 v8)), (3, .v (.int .i64 1))] [0,1,2] [1,6,7] [zq [0] 3 11, zq [3] 4 12, zq [4] 5 13, zq [5] 6 2, zq [] 7 3] [(_,_),(_,_),(_,_)] (by kernel_rfl) rfl rfl ⟨zm rfl rfl rfl,zp rfl (op_chr _ _ _ 0 _ Tryz.underlying9 rfl rfl hv7),zp rfl ((Option.some.inj hv8) ▸ op_conv _ _ _ Tryz.underlying5 Tryz.underlying21 rfl),za rfl rfl rfl,za rfl rfl rfl,trivial⟩ ?_
    refine pt_then ?_
    refine ht_ret ?_
    refine pt_pick [1, 2] (by kernel_rfl) (es' := [(_, _), (_, _)]) rfl ?_
    refine pt_r_then ?_
    obtain rfl := Option.some.inj h
    exact pt_ret hio rfl (.tmp _ _ (.tmp _ _ .nil)) rfl rfl
   ·have h := cond_f hb6 h
    obtain ⟨v9, hv9, h⟩ := bind_some h
    refine zh hn [_, _, _, (15, .v (.string s)), (16, .tup [.v (.int .i32 v9.1), .v (.int .i64 v9.2)]), (14, .tup [.v (.int .i32 v9.1), .v (.int .i64 v9.2)]), (17, .v (.int .i32 v9.1)), (18, .v (.int .i64 v9.2)), (2, .v (.int .i32 v9.1)), (3, .v (.int .i64 v9.2))] [0,1,2] [1,8,9] [zq [0] 3 15, zq [3,1] 4 16, ⟨[], [4], [5], [(.slot 14)]⟩, zq [5] 6 17, zq [5] 7 18, zq [6] 8 2, zq [7] 9 3] [(_,_),(_,_),(_,_)] (by kernel_rfl) rfl rfl ⟨zm rfl rfl rfl,zp rfl (op_callG _ _ 19 93 _ _ rfl Tryz.call93 rfl rfl (fun _ h => h) (ok_unicode_utf8_decodeRuneInStringSlow mx s _ hv9) rfl rfl),zp rfl (op_move_take _ _ _ _ rfl),zp rfl (op_extract _ _ _ _ _ rfl rfl (zl rfl) rfl rfl),zp rfl (op_extract _ _ _ _ _ rfl rfl (zl rfl) rfl rfl),za rfl rfl rfl,za rfl rfl rfl,trivial⟩ ?_
    refine pt_then ?_
    refine ht_ret ?_
    refine pt_pick [1, 2] (by kernel_rfl) (es' := [(_, _), (_, _)]) rfl ?_
    obtain rfl := Option.some.inj h
    exact pt_ret hio rfl (.tmp _ _ (.tmp _ _ .nil)) rfl rfl
  ·intro u3 h hl4 hr5
   refine cond_some h (fun hg1_2 h => ?_) (fun hg1_2 h => ?_)
   ·obtain ⟨v1, hv1, h⟩ := bind_some h
    refine zh hn [_, _, (4, .v (.string s)), (5, .v (.bool ((!(s.toList == (⟨#[]⟩ : ByteArray).toList))))), (6, .v (.bool true)), (7, .v (.string s)), (8, .v (.int .u8 v1)), (9, .v (.bool ((decide (v1 < 128))))), (10, .v (.bool ((decide (v1 < 128)))))] [0,1] [0,1,8] [zq [0] 2 4, zq [2] 3 5, zq [3] 4 6, zq [4,0] 5 7, zq [4,5] 6 8, zq [4,6] 7 9, zq [4,7] 8 10] [(_,_),(_,_),(_,_)] (by kernel_rfl) rfl rfl ⟨zm rfl rfl rfl,zo rfl rfl rfl rfl,zm rfl (zb hg1_2) rfl,zr 2 rfl rfl rfl (op_move _ _ _ _ rfl rfl),zr 2 rfl rfl rfl (op_chr _ _ _ 0 _ Tryz.underlying9 rfl rfl hv1),zr 2 rfl rfl rfl (op_bin _ _ _ _ _ rfl rfl rfl),zk true rfl rfl rfl,trivial⟩ ?_
    exact hl4 _ (Option.some.inj h).symm
   ·refine zh hn [_, _, (4, .v (.string s)), (5, .v (.bool ((!(s.toList == (⟨#[]⟩ : ByteArray).toList))))), (6, .v (.bool false)), (7, .v undef), (8, .v undef), (9, .v undef), (10, .v (.bool false))] [0,1] [0,1,8] [zq [0] 2 4, zq [2] 3 5, zq [3] 4 6, zq [4] 5 7, zq [4] 6 8, zq [4] 7 9, zq [4] 8 10] [(_,_),(_,_),(_,_)] (by kernel_rfl) rfl rfl ⟨zm rfl rfl rfl,zo rfl rfl rfl rfl,zm rfl (zb hg1_2) rfl,zs 2 true rfl rfl rfl rfl,zs 2 true rfl rfl rfl rfl,zs 2 true rfl rfl rfl rfl,zk false rfl rfl rfl,trivial⟩ ?_
    exact hl4 _ (Option.some.inj h).symm
theorem ok_strings_Index (s sub : ByteArray) (r : Int) (h : Sh.strings_Index s sub = some r) : FnOK Tryz.prog 53 [.v (.string s), .v (.string sub)] (.v (.int .i64 r)) := lib_strings_Index Tryz.strings_Index_one s sub r h
set_option maxHeartbeats 1000000 in
theorem ok_strings_splitSeq_1 (mx : Int) (l : Nat) {S : Type} (J : S → InvT) (Y : ByteArray → S → Option (S × Bool)) (hY : YieldOK Tryz.prog l (fun x => .v (.string x)) Y J) (c0 : ByteArray) (c1 : ByteArray) (c2 : Int) (st r : S) (h : Sh.strings_splitSeq_1 Y c0 c1 c2 st = some r) : FnI Tryz.prog (GL mx) 86 l [.box 9 [.v (.string c0)], .box 9 [.v (.string c1)], .box 3 [.v (.int .i64 c2)]] (J st) (J r) := by
  unfold Sh.strings_splitSeq_1 at h
  refine fn_okI Tryz.func86 rfl (zl rfl) rfl fun g0 hn hio => ?_
  refine ht_seq ?_
  refine ht_seq ?_
  refine zh hn [_, _, _, _, _, _, (9, .v (.string c0)), (10, .v (.int .i64 (c0.size : Int))), (11, .v (.bool (((c0.size : Int) == 0))))] [0,1,2,3,4,5] [0,1,2,3,4,5,8] [zq [1] 6 9, zq [6] 7 10, zq [7] 8 11] [(_,_),(_,_),(_,_),(_,_),(_,_),(_,_),(_,_)] (by kernel_rfl) rfl rfl ⟨zp rfl (op_load _ _ _ _ _ _ Tryz.underlying9 rfl rfl rfl (zl rfl) rfl rfl rfl),zp rfl (op_len_str _ _ _ Tryz.underlying9 rfl),zo rfl rfl rfl rfl,trivial⟩ ?_
  refine pt_then ?_
  refine ht_cond _ rfl (fun hb1 => ?_) (fun hb1 => ?_)
  ·have h := cond_t hb1 h
   refine ht_seq ?_
   refine ht_pick [0, 2, 4, 5] (by kernel_rfl) (es' := [(_, _), (_, _), (_, _), (_, _)]) rfl ?_
   refine ht_loopS h (fun ((s12, s13) : ByteArray × S) => [(0, .v (.func (.yield l) #[] #[])), (2, .box 9 [.v (.string s12)]), (52, .glob (GL mx)), (53, .inv (J s13))]) (fun (s16 : S) => [(52, .glob (GL mx)), (53, .inv (J s16))]) ?_ ?_
   ·rintro s16 h
    refine pt_then ?_
    refine ht_ret ?_
    refine pt_pick [1] (by kernel_rfl) (es' := [(53, .inv (J s16))]) rfl ?_
    refine pt_r_then ?_
    obtain rfl := Option.some.inj h
    exact pt_retI hio rfl rfl rfl
   ·rintro u17 hl18 hr19 ⟨s12, s13⟩ rr22 h ho20
    refine ht_seq ?_
    refine ht_seq ?_
    refine zh hn [_, _, _, _, (12, .v (.string s12)), (13, .v (.int .i64 (s12.size : Int))), (14, .v (.bool ((decide (0 < (s12.size : Int))))))] [0,1,2,3] [0,1,2,3,6] [zq [1] 4 12, zq [4] 5 13, zq [5] 6 14] [(_,_),(_,_),(_,_),(_,_),(_,_)] (by kernel_rfl) rfl rfl ⟨zp rfl (op_load _ _ _ _ _ _ Tryz.underlying9 rfl rfl rfl (zl rfl) rfl rfl rfl),zp rfl (op_len_str _ _ _ Tryz.underlying9 rfl),zo rfl rfl rfl rfl,trivial⟩ ?_
    refine pt_then ?_
    refine ht_cond _ rfl (fun hb23 => ?_) (fun hb23 => ?_)
    ·have h := cond_t hb23 h
     refine ht_skip ?_
     refine pt_then ?_
     refine ht_block ?_
     refine ht_seq ?_
     obtain ⟨v3, hv3, h⟩ := bind_some h
     refine zh hn [_, _, _, _, _, (16, .v (.string s12)), (17, .tup [.v (.int .i32 v3.1), .v (.int .i64 v3.2)]), (15, .tup [.v (.int .i32 v3.1), .v (.int .i64 v3.2)]), (18, .v (.int .i32 v3.1)), (19, .v (.int .i64 v3.2)), (5, .v (.int .i32 v3.1)), (6, .v (.int .i64 v3.2))] [0,1,2,3,4] [0,1,2,3,11] [zq [1] 5 16, zq [5,2] 6 17, ⟨[], [6], [7], [(.slot 15)]⟩, zq [7] 8 18, zq [7] 9 19, zq [8] 10 5, zq [9] 11 6] [(_,_),(_,_),(_,_),(_,_),(_,_)] (by kernel_rfl) rfl rfl ⟨zp rfl (op_load _ _ _ _ _ _ Tryz.underlying9 rfl rfl rfl (zl rfl) rfl rfl rfl),zp rfl (op_callG _ _ 52 87 _ _ rfl Tryz.call87 rfl rfl (fun _ h => h) (ok_unicode_utf8_DecodeRuneInString mx s12 _ hv3) rfl rfl),zp rfl (op_move_take _ _ _ _ rfl),zp rfl (op_extract _ _ _ _ _ rfl rfl (zl rfl) rfl rfl),zp rfl (op_extract _ _ _ _ _ rfl rfl (zl rfl) rfl rfl),za rfl rfl rfl,za rfl rfl rfl,trivial⟩ ?_
     refine pt_then ?_
     refine ht_seq ?_
     refine ht_seq ?_
     obtain ⟨v4, hv4, h⟩ := bind_some h
     obtain ⟨v5, hv5, h⟩ := bind_some h
     refine zh hn [_, _, _, _, _, (20, .v (.func (.yield l) #[] #[])), (21, .v (.string s12)), (22, .v (.int .i64 v3.2)), (23, .v (.string v4)), (24, .v (.bool v5.2)), (53, .inv (J v5.1)), (25, .v (.bool (!v5.2)))] [0,1,2,3,4] [0,1,2,10,4,11] [zq [0] 5 20, zq [1] 6 21, zq [4] 7 22, zq [6,7] 8 23, ⟨[8, 5], [3], [10, 9], [(.slot 24)]⟩, zq [9] 11 25] [(_,_),(_,_),(_,_),(_,_),(_,_),(_,_)] (by kernel_rfl) rfl rfl ⟨zm rfl rfl rfl,zp rfl (op_load _ _ _ _ _ _ Tryz.underlying9 rfl rfl rfl (zl rfl) rfl rfl rfl),zm rfl rfl rfl,zp rfl (op_substr _ _ _ 0 v3.2 _ Tryz.underlying9 rfl rfl ⟨_, rfl⟩ hv4),zp rfl (op_yield _ _ 53 l v4 s13 v5 hY hv5 rfl rfl rfl),zp rfl (op_un _ _ _ _ rfl rfl),trivial⟩ ?_
     refine pt_then ?_
     refine ht_cond _ rfl (fun hb24 => ?_) (fun hb24 => ?_)
     ·have h := cond_t hb24 h
      refine ht_ret ?_
      refine pt_pick [3] (by kernel_rfl) (es' := [(53, .inv (J v5.1))]) rfl ?_
      refine pt_r_then ?_
      refine pt_r_in ?_
      refine pt_r_then ?_
      refine pt_r_in ?_
      refine pt_r_then ?_
      refine pt_r_then ?_
      have h := hr19 _ (ho20 _ (Option.some.inj h).symm).symm
      obtain rfl := Option.some.inj h
      exact pt_retI hio rfl rfl rfl
     ·have h := cond_f hb24 h
      refine ht_skip ?_
      refine pt_then ?_
      obtain ⟨v7, hv7, h⟩ := bind_some h
      refine zh hn [_, _, _, _, _, _, (26, .v (.string s12)), (27, .v (.int .i64 v3.2)), (28, .v (.string v7)), (2, .box 9 [.v (.string v7)])] [0,1,2,3,4,5] [0,9,2,3] [zq [1] 6 26, zq [4] 7 27, zq [6,7] 8 28, ⟨[8], [1], [9], [.cell 2 0]⟩] [(_,_),(_,_),(_,_),(_,_)] (by kernel_rfl) rfl rfl ⟨zp rfl (op_load _ _ _ _ _ _ Tryz.underlying9 rfl rfl rfl (zl rfl) rfl rfl rfl),zm rfl rfl rfl,zp rfl (op_substr _ _ _ v3.2 (s12.size : Int) _ Tryz.underlying9 rfl ⟨_, rfl⟩ rfl hv7),zp rfl (op_store _ _ _ _ _ _ _ _ sz9 rfl rfl rfl rfl (zl rfl) rfl rfl),trivial⟩ ?_
      refine pt_inb ?_
      exact pt_next _ (Option.some.inj h).symm rfl
    ·have h := cond_f hb23 h
     refine ht_exit ?_
     refine pt_x_then ?_
     refine pt_x_then ?_
     refine pt_x_in ?_
     refine pt_pick [2, 3] (by kernel_rfl) (es' := [(_, _), (_, _)]) rfl ?_
     exact hl18 _ (ho20 _ (Option.some.inj h).symm).symm
  ·have h := cond_f hb1 h
   refine ht_skip ?_
   refine pt_then ?_
   refine ht_seq ?_
   refine ht_pick [0, 1, 2, 3, 4, 5] (by kernel_rfl) (es' := [(_, _), (_, _), (_, _), (_, _), (_, _), (_, _)]) rfl ?_
   refine ht_loopS h (fun ((s37, s38) : ByteArray × S) => [(0, .v (.func (.yield l) #[] #[])), (1, .box 9 [.v (.string c0)]), (2, .box 9 [.v (.string s37)]), (3, .box 3 [.v (.int .i64 c2)]), (52, .glob (GL mx)), (53, .inv (J s38))]) (fun ((s41, s42) : ByteArray × S) => [(0, .v (.func (.yield l) #[] #[])), (2, .box 9 [.v (.string s41)]), (52, .glob (GL mx)), (53, .inv (J s42))]) ?_ ?_
   ·rintro ⟨s41, s42⟩ h
    refine pt_then ?_
    obtain ⟨v51, hv51, h⟩ := bind_some h
    refine zh hn [_, _, _, _, (49, .v (.func (.yield l) #[] #[])), (50, .v (.string s41)), (51, .v (.bool v51.2)), (53, .inv (J v51.1))] [0,1,2,3] [2,7] [zq [0] 4 49, zq [1] 5 50, ⟨[5, 4], [3], [7, 6], [(.slot 51)]⟩] [(_,_),(_,_)] (by kernel_rfl) rfl rfl ⟨zm rfl rfl rfl,zp rfl (op_load _ _ _ _ _ _ Tryz.underlying9 rfl rfl rfl (zl rfl) rfl rfl rfl),zp rfl (op_yield _ _ 53 l s41 s42 v51 hY hv51 rfl rfl rfl),trivial⟩ ?_
    refine pt_pick [1] (by kernel_rfl) (es' := [(53, .inv (J v51.1))]) rfl ?_
    obtain rfl := Option.some.inj h
    exact pt_endI hio rfl rfl rfl
   ·rintro u43 hl44 hr45 ⟨s37, s38⟩ rr48 h ho46
    refine ht_block ?_
    refine ht_seq ?_
    obtain ⟨v25, hv25, h⟩ := bind_some h
    refine zh hn [_, _, _, _, _, _, (29, .v (.string s37)), (30, .v (.string c0)), (31, .v (.int .i64 v25)), (7, .v (.int .i64 v25))] [0,1,2,3,4,5] [0,1,2,3,4,5,9] [zq [2] 6 29, zq [1] 7 30, zq [6,7] 8 31, zq [8] 9 7] [(_,_),(_,_),(_,_),(_,_),(_,_),(_,_),(_,_)] (by kernel_rfl) rfl rfl ⟨zp rfl (op_load _ _ _ _ _ _ Tryz.underlying9 rfl rfl rfl (zl rfl) rfl rfl rfl),zp rfl (op_load _ _ _ _ _ _ Tryz.underlying9 rfl rfl rfl (zl rfl) rfl rfl rfl),zp rfl (op_call _ _ 53 _ _ rfl Tryz.call53 rfl (ok_strings_Index s37 c0 _ hv25) rfl rfl),za rfl rfl rfl,trivial⟩ ?_
    refine pt_then ?_
    refine ht_seq ?_
    refine ht_seq ?_
    refine zh hn [_, _, _, _, _, _, _, (32, .v (.int .i64 v25)), (33, .v (.bool ((decide (v25 < 0)))))] [0,1,2,3,4,5,6] [0,1,2,3,4,5,6,8] [zq [6] 7 32, zq [7] 8 33] [(_,_),(_,_),(_,_),(_,_),(_,_),(_,_),(_,_),(_,_)] (by kernel_rfl) rfl rfl ⟨zm rfl rfl rfl,zo rfl rfl rfl rfl,trivial⟩ ?_
    refine pt_then ?_
    refine ht_cond _ rfl (fun hb49 => ?_) (fun hb49 => ?_)
    ·have h := cond_t hb49 h
     refine ht_exit ?_
     refine pt_x_then ?_
     refine pt_x_out (by decide) ?_
     refine pt_x_then ?_
     refine pt_x_in ?_
     refine pt_pick [0, 2, 4, 5] (by kernel_rfl) (es' := [(_, _), (_, _), (_, _), (_, _)]) rfl ?_
     exact hl44 _ (ho46 _ (Option.some.inj h).symm).symm
    ·have h := cond_f hb49 h
     refine ht_skip ?_
     refine pt_then ?_
     refine ht_seq ?_
     obtain ⟨v27, hv27, h⟩ := bind_some h
     obtain ⟨v28, hv28, h⟩ := bind_some h
     refine zh hn [_, _, _, _, _, _, _, _, (34, .v (.string s37)), (35, .v (.int .i64 v25)), (36, .v (.int .i64 c2)), (37, .v (.int .i64 v27)), (38, .v (.string v28)), (8, .v (.string v28))] [0,1,2,3,4,5,6,7] [0,1,2,3,4,5,6,13] [zq [2] 8 34, zq [6] 9 35, zq [3] 10 36, zq [9,10] 11 37, zq [8,11] 12 38, zq [12] 13 8] [(_,_),(_,_),(_,_),(_,_),(_,_),(_,_),(_,_),(_,_)] (by kernel_rfl) rfl rfl ⟨zp rfl (op_load _ _ _ _ _ _ Tryz.underlying9 rfl rfl rfl (zl rfl) rfl rfl rfl),zm rfl rfl rfl,zp rfl (op_load _ _ _ _ _ _ Tryz.underlying3 rfl rfl rfl (zl rfl) rfl rfl rfl),zp rfl (op_bin _ _ _ _ _ rfl rfl (ibind (f := Value.int .i64) (Option.some.inj hv27))),zp rfl (op_substr _ _ _ 0 v27 _ Tryz.underlying9 rfl rfl ⟨_, rfl⟩ hv28),za rfl rfl rfl,trivial⟩ ?_
     refine pt_then ?_
     refine ht_seq ?_
     refine ht_seq ?_
     obtain ⟨v29, hv29, h⟩ := bind_some h
     refine zh hn [_, _, _, _, _, _, _, _, (39, .v (.func (.yield l) #[] #[])), (40, .v (.string v28)), (41, .v (.bool v29.2)), (53, .inv (J v29.1)), (42, .v (.bool (!v29.2)))] [0,1,2,3,4,5,6,7] [0,1,2,3,4,11,6,12] [zq [0] 8 39, zq [7] 9 40, ⟨[9, 8], [5], [11, 10], [(.slot 41)]⟩, zq [10] 12 42] [(_,_),(_,_),(_,_),(_,_),(_,_),(_,_),(_,_),(_,_)] (by kernel_rfl) rfl rfl ⟨zm rfl rfl rfl,zm rfl rfl rfl,zp rfl (op_yield _ _ 53 l v28 s38 v29 hY hv29 rfl rfl rfl),zp rfl (op_un _ _ _ _ rfl rfl),trivial⟩ ?_
     refine pt_then ?_
     refine ht_cond _ rfl (fun hb50 => ?_) (fun hb50 => ?_)
     ·have h := cond_t hb50 h
      refine ht_ret ?_
      refine pt_pick [5] (by kernel_rfl) (es' := [(53, .inv (J v29.1))]) rfl ?_
      refine pt_r_then ?_
      refine pt_r_in ?_
      refine pt_r_then ?_
      refine pt_r_in ?_
      refine pt_r_then ?_
      have h := hr45 _ (ho46 _ (Option.some.inj h).symm).symm
      obtain rfl := Option.some.inj h
      exact pt_retI hio rfl rfl rfl
     ·have h := cond_f hb50 h
      refine ht_skip ?_
      refine pt_then ?_
      obtain ⟨v31, hv31, h⟩ := bind_some h
      obtain ⟨v32, hv32, h⟩ := bind_some h
      refine zh hn (_ :: _ :: _ :: _ :: _ :: _ :: _ :: _ :: (43, .v (.string s37)) :: (44, .v (.int .i64 v25)) :: (45, .v (.string c0)) :: (46, .v (.int .i64 (c0.size : Int))) :: (47, .v (.int .i64 v31)) :: (48, .v (.string v32)) :: (2, .box 9 [.v (.string v32)]) :: []) [0,1,2,3,4,5,6,7] [0,1,14,3,4,5] [zq [2] 8 43, zq [6] 9 44, zq [1] 10 45, zq [10] 11 46, zq [9,11] 12 47, zq [8,12] 13 48, ⟨[13], [2], [14], [.cell 2 0]⟩] [(_,_),(_,_),(_,_),(_,_),(_,_),(_,_)] (by kernel_rfl) rfl rfl ⟨zp rfl (op_load _ _ _ _ _ _ Tryz.underlying9 rfl rfl rfl (zl rfl) rfl rfl rfl),zm rfl rfl rfl,zp rfl (op_load _ _ _ _ _ _ Tryz.underlying9 rfl rfl rfl (zl rfl) rfl rfl rfl),zp rfl (op_len_str _ _ _ Tryz.underlying9 rfl),zp rfl (op_bin _ _ _ _ _ rfl rfl (ibind (f := Value.int .i64) (Option.some.inj hv31))),zp rfl (op_substr _ _ _ v31 (s37.size : Int) _ Tryz.underlying9 rfl ⟨_, rfl⟩ rfl hv32),zp rfl (op_store _ _ _ _ _ _ _ _ sz9 rfl rfl rfl rfl (zl rfl) rfl rfl),trivial⟩ ?_
      refine pt_inb ?_
      exact pt_next _ (Option.some.inj h).symm rfl
set_option maxHeartbeats 1000000 in
theorem ok_path_alphanumeric (c : Int) (r : Bool) (h : Sh.path_alphanumeric c = some r) : FnOK Tryz.prog 64 [.v (.int .u8 c)] (.v (.bool r)) := by
  unfold Sh.path_alphanumeric at h
  refine fn_ok Tryz.func64 rfl (zl rfl) rfl rfl fun g0 hn hio => ?_
  refine ht_seq ?_
  refine zh hn [_, (2, .v (.bool false))] [0] [0] [zq [] 1 2] [(_,_)] (by kernel_rfl) rfl rfl ⟨za rfl rfl rfl,trivial⟩ ?_
  refine pt_then ?_
  refine ht_seq ?_
  refine ht_joinS h (fun (s1 : Bool) => [(2, .v (.bool s1))]) ?_ ?_
  ·rintro s1 h
   refine pt_then ?_
   refine ht_ret ?_
   obtain rfl := Option.some.inj h
   exact pt_ret hio rfl (.tmp _ _ .nil) rfl rfl
  ·intro u2 h hl3 hr4
   refine cond_some h (fun hg1_2 h => ?_) (fun hg1_2 h => ?_)
   ·refine cond_some h (fun hg1_6 h => ?_) (fun hg1_6 h => ?_)
    ·refine zh hn (_ :: (3, .v (.int .u8 c)) :: (4, .v (.bool ((decide (48 ≤ c))))) :: (5, .v (.bool true)) :: (6, .v (.int .u8 c)) :: (7, .v (.bool ((decide (c ≤ 57))))) :: (8, .v (.bool ((decide (c ≤ 57))))) :: (9, .v (.bool true)) :: (10, .v undef) :: (11, .v undef) :: (12, .v undef) :: (13, .v undef) :: (14, .v undef) :: (15, .v undef) :: (16, .v (.bool true)) :: (17, .v (.bool true)) :: (18, .v undef) :: (19, .v undef) :: (20, .v undef) :: (21, .v undef) :: (22, .v undef) :: (23, .v undef) :: (24, .v (.bool true)) :: (2, .v (.bool true)) :: []) [0] [23] (zq [0] 1 3 :: zq [1] 2 4 :: zq [2] 3 5 :: zq [3,0] 4 6 :: zq [3,4] 5 7 :: zq [3,5] 6 8 :: zq [6] 7 9 :: zq [7] 8 10 :: zq [7] 9 11 :: zq [7] 10 12 :: zq [10] 11 13 :: zq [10] 12 14 :: zq [7] 13 15 :: zq [7] 14 16 :: zq [14] 15 17 :: zq [15] 16 18 :: zq [15] 17 19 :: zq [15] 18 20 :: zq [18] 19 21 :: zq [18] 20 22 :: zq [15] 21 23 :: zq [15] 22 24 :: zq [22] 23 2 :: []) [(_,_)] (by kernel_rfl) rfl rfl ⟨zm rfl rfl rfl,zo rfl rfl rfl rfl,zm rfl (zb hg1_2) rfl,zr 2 rfl rfl rfl (op_move _ _ _ _ rfl rfl),zr 2 rfl rfl rfl (op_bin _ _ _ _ _ rfl rfl rfl),zk true rfl rfl rfl,zm rfl (zb hg1_6) rfl,zs 6 false rfl rfl rfl rfl,zs 6 false rfl rfl rfl rfl,zs 6 false rfl rfl rfl rfl,zu 9 rfl rfl rfl rfl,zu 9 rfl rfl rfl rfl,zs 6 false rfl rfl rfl rfl,zk true rfl rfl rfl,zm rfl rfl rfl,zs 14 false rfl rfl rfl rfl,zs 14 false rfl rfl rfl rfl,zs 14 false rfl rfl rfl rfl,zu 17 rfl rfl rfl rfl,zu 17 rfl rfl rfl rfl,zs 14 false rfl rfl rfl rfl,zk true rfl rfl rfl,za rfl rfl rfl,trivial⟩ ?_
     exact hl3 _ (Option.some.inj h).symm
    ·refine cond_some h (fun hg1_9 h => ?_) (fun hg1_9 h => ?_)
     ·refine cond_some h (fun hg1_14 h => ?_) (fun hg1_14 h => ?_)
      ·refine zh hn (_ :: (3, .v (.int .u8 c)) :: (4, .v (.bool ((decide (48 ≤ c))))) :: (5, .v (.bool true)) :: (6, .v (.int .u8 c)) :: (7, .v (.bool ((decide (c ≤ 57))))) :: (8, .v (.bool ((decide (c ≤ 57))))) :: (9, .v (.bool false)) :: (10, .v (.int .u8 c)) :: (11, .v (.bool ((decide (65 ≤ c))))) :: (12, .v (.bool true)) :: (13, .v (.int .u8 c)) :: (14, .v (.bool ((decide (c ≤ 90))))) :: (15, .v (.bool ((decide (c ≤ 90))))) :: (16, .v (.bool ((decide (c ≤ 90))))) :: (17, .v (.bool true)) :: (18, .v undef) :: (19, .v undef) :: (20, .v undef) :: (21, .v undef) :: (22, .v undef) :: (23, .v undef) :: (24, .v (.bool true)) :: (2, .v (.bool true)) :: []) [0] [23] (zq [0] 1 3 :: zq [1] 2 4 :: zq [2] 3 5 :: zq [3,0] 4 6 :: zq [3,4] 5 7 :: zq [3,5] 6 8 :: zq [6] 7 9 :: zq [7,0] 8 10 :: zq [7,8] 9 11 :: zq [7,9] 10 12 :: zq [10,0] 11 13 :: zq [10,11] 12 14 :: zq [7,10,12] 13 15 :: zq [7,13] 14 16 :: zq [14] 15 17 :: zq [15] 16 18 :: zq [15] 17 19 :: zq [15] 18 20 :: zq [18] 19 21 :: zq [18] 20 22 :: zq [15] 21 23 :: zq [15] 22 24 :: zq [22] 23 2 :: []) [(_,_)] (by kernel_rfl) rfl rfl ⟨zm rfl rfl rfl,zo rfl rfl rfl rfl,zm rfl (zb hg1_2) rfl,zr 2 rfl rfl rfl (op_move _ _ _ _ rfl rfl),zr 2 rfl rfl rfl (op_bin _ _ _ _ _ rfl rfl rfl),zk true rfl rfl rfl,zm rfl (zb hg1_6) rfl,zr 6 rfl rfl rfl (op_move _ _ _ _ rfl rfl),zr 6 rfl rfl rfl (op_bin _ _ _ _ _ rfl rfl rfl),zr 6 rfl rfl rfl (op_move _ _ _ _ (zb hg1_9) rfl),zr 9 rfl rfl rfl (op_move _ _ _ _ rfl rfl),zr 9 rfl rfl rfl (op_bin _ _ _ _ _ rfl rfl rfl),zr 6 rfl rfl rfl (op_pick _ _ true _ rfl rfl),zk false rfl rfl rfl,zm rfl (zb hg1_14) rfl,zs 14 false rfl rfl rfl rfl,zs 14 false rfl rfl rfl rfl,zs 14 false rfl rfl rfl rfl,zu 17 rfl rfl rfl rfl,zu 17 rfl rfl rfl rfl,zs 14 false rfl rfl rfl rfl,zk true rfl rfl rfl,za rfl rfl rfl,trivial⟩ ?_
       exact hl3 _ (Option.some.inj h).symm
      ·refine cond_some h (fun hg1_17 h => ?_) (fun hg1_17 h => ?_)
       ·refine zh hn (_ :: (3, .v (.int .u8 c)) :: (4, .v (.bool ((decide (48 ≤ c))))) :: (5, .v (.bool true)) :: (6, .v (.int .u8 c)) :: (7, .v (.bool ((decide (c ≤ 57))))) :: (8, .v (.bool ((decide (c ≤ 57))))) :: (9, .v (.bool false)) :: (10, .v (.int .u8 c)) :: (11, .v (.bool ((decide (65 ≤ c))))) :: (12, .v (.bool true)) :: (13, .v (.int .u8 c)) :: (14, .v (.bool ((decide (c ≤ 90))))) :: (15, .v (.bool ((decide (c ≤ 90))))) :: (16, .v (.bool ((decide (c ≤ 90))))) :: (17, .v (.bool false)) :: (18, .v (.int .u8 c)) :: (19, .v (.bool ((decide (97 ≤ c))))) :: (20, .v (.bool true)) :: (21, .v (.int .u8 c)) :: (22, .v (.bool ((decide (c ≤ 122))))) :: (23, .v (.bool ((decide (c ≤ 122))))) :: (24, .v (.bool ((decide (c ≤ 122))))) :: (2, .v (.bool ((decide (c ≤ 122))))) :: []) [0] [23] (zq [0] 1 3 :: zq [1] 2 4 :: zq [2] 3 5 :: zq [3,0] 4 6 :: zq [3,4] 5 7 :: zq [3,5] 6 8 :: zq [6] 7 9 :: zq [7,0] 8 10 :: zq [7,8] 9 11 :: zq [7,9] 10 12 :: zq [10,0] 11 13 :: zq [10,11] 12 14 :: zq [7,10,12] 13 15 :: zq [7,13] 14 16 :: zq [14] 15 17 :: zq [15,0] 16 18 :: zq [15,16] 17 19 :: zq [15,17] 18 20 :: zq [18,0] 19 21 :: zq [18,19] 20 22 :: zq [15,18,20] 21 23 :: zq [15,21] 22 24 :: zq [22] 23 2 :: []) [(_,_)] (by kernel_rfl) rfl rfl ⟨zm rfl rfl rfl,zo rfl rfl rfl rfl,zm rfl (zb hg1_2) rfl,zr 2 rfl rfl rfl (op_move _ _ _ _ rfl rfl),zr 2 rfl rfl rfl (op_bin _ _ _ _ _ rfl rfl rfl),zk true rfl rfl rfl,zm rfl (zb hg1_6) rfl,zr 6 rfl rfl rfl (op_move _ _ _ _ rfl rfl),zr 6 rfl rfl rfl (op_bin _ _ _ _ _ rfl rfl rfl),zr 6 rfl rfl rfl (op_move _ _ _ _ (zb hg1_9) rfl),zr 9 rfl rfl rfl (op_move _ _ _ _ rfl rfl),zr 9 rfl rfl rfl (op_bin _ _ _ _ _ rfl rfl rfl),zr 6 rfl rfl rfl (op_pick _ _ true _ rfl rfl),zk false rfl rfl rfl,zm rfl (zb hg1_14) rfl,zr 14 rfl rfl rfl (op_move _ _ _ _ rfl rfl),zr 14 rfl rfl rfl (op_bin _ _ _ _ _ rfl rfl rfl),zr 14 rfl rfl rfl (op_move _ _ _ _ (zb hg1_17) rfl),zr 17 rfl rfl rfl (op_move _ _ _ _ rfl rfl),zr 17 rfl rfl rfl (op_bin _ _ _ _ _ rfl rfl rfl),zr 14 rfl rfl rfl (op_pick _ _ true _ rfl rfl),zk false rfl rfl rfl,za rfl rfl rfl,trivial⟩ ?_
        exact hl3 _ (Option.some.inj h).symm
       ·refine zh hn (_ :: (3, .v (.int .u8 c)) :: (4, .v (.bool ((decide (48 ≤ c))))) :: (5, .v (.bool true)) :: (6, .v (.int .u8 c)) :: (7, .v (.bool ((decide (c ≤ 57))))) :: (8, .v (.bool ((decide (c ≤ 57))))) :: (9, .v (.bool false)) :: (10, .v (.int .u8 c)) :: (11, .v (.bool ((decide (65 ≤ c))))) :: (12, .v (.bool true)) :: (13, .v (.int .u8 c)) :: (14, .v (.bool ((decide (c ≤ 90))))) :: (15, .v (.bool ((decide (c ≤ 90))))) :: (16, .v (.bool ((decide (c ≤ 90))))) :: (17, .v (.bool false)) :: (18, .v (.int .u8 c)) :: (19, .v (.bool ((decide (97 ≤ c))))) :: (20, .v (.bool false)) :: (21, .v undef) :: (22, .v undef) :: (23, .v (.bool false)) :: (24, .v (.bool false)) :: (2, .v (.bool false)) :: []) [0] [23] (zq [0] 1 3 :: zq [1] 2 4 :: zq [2] 3 5 :: zq [3,0] 4 6 :: zq [3,4] 5 7 :: zq [3,5] 6 8 :: zq [6] 7 9 :: zq [7,0] 8 10 :: zq [7,8] 9 11 :: zq [7,9] 10 12 :: zq [10,0] 11 13 :: zq [10,11] 12 14 :: zq [7,10,12] 13 15 :: zq [7,13] 14 16 :: zq [14] 15 17 :: zq [15,0] 16 18 :: zq [15,16] 17 19 :: zq [15,17] 18 20 :: zq [18] 19 21 :: zq [18] 20 22 :: zq [15,18] 21 23 :: zq [15,21] 22 24 :: zq [22] 23 2 :: []) [(_,_)] (by kernel_rfl) rfl rfl ⟨zm rfl rfl rfl,zo rfl rfl rfl rfl,zm rfl (zb hg1_2) rfl,zr 2 rfl rfl rfl (op_move _ _ _ _ rfl rfl),zr 2 rfl rfl rfl (op_bin _ _ _ _ _ rfl rfl rfl),zk true rfl rfl rfl,zm rfl (zb hg1_6) rfl,zr 6 rfl rfl rfl (op_move _ _ _ _ rfl rfl),zr 6 rfl rfl rfl (op_bin _ _ _ _ _ rfl rfl rfl),zr 6 rfl rfl rfl (op_move _ _ _ _ (zb hg1_9) rfl),zr 9 rfl rfl rfl (op_move _ _ _ _ rfl rfl),zr 9 rfl rfl rfl (op_bin _ _ _ _ _ rfl rfl rfl),zr 6 rfl rfl rfl (op_pick _ _ true _ rfl rfl),zk false rfl rfl rfl,zm rfl (zb hg1_14) rfl,zr 14 rfl rfl rfl (op_move _ _ _ _ rfl rfl),zr 14 rfl rfl rfl (op_bin _ _ _ _ _ rfl rfl rfl),zr 14 rfl rfl rfl (op_move _ _ _ _ (zb hg1_17) rfl),zs 17 true rfl rfl rfl rfl,zs 17 true rfl rfl rfl rfl,zr 14 rfl rfl rfl (op_pick _ _ false _ rfl rfl),zk false rfl rfl rfl,za rfl rfl rfl,trivial⟩ ?_
        exact hl3 _ (Option.some.inj h).symm
     ·refine cond_some h (fun hg1_17 h => ?_) (fun hg1_17 h => ?_)
      ·refine zh hn (_ :: (3, .v (.int .u8 c)) :: (4, .v (.bool ((decide (48 ≤ c))))) :: (5, .v (.bool true)) :: (6, .v (.int .u8 c)) :: (7, .v (.bool ((decide (c ≤ 57))))) :: (8, .v (.bool ((decide (c ≤ 57))))) :: (9, .v (.bool false)) :: (10, .v (.int .u8 c)) :: (11, .v (.bool ((decide (65 ≤ c))))) :: (12, .v (.bool false)) :: (13, .v undef) :: (14, .v undef) :: (15, .v (.bool false)) :: (16, .v (.bool false)) :: (17, .v (.bool false)) :: (18, .v (.int .u8 c)) :: (19, .v (.bool ((decide (97 ≤ c))))) :: (20, .v (.bool true)) :: (21, .v (.int .u8 c)) :: (22, .v (.bool ((decide (c ≤ 122))))) :: (23, .v (.bool ((decide (c ≤ 122))))) :: (24, .v (.bool ((decide (c ≤ 122))))) :: (2, .v (.bool ((decide (c ≤ 122))))) :: []) [0] [23] (zq [0] 1 3 :: zq [1] 2 4 :: zq [2] 3 5 :: zq [3,0] 4 6 :: zq [3,4] 5 7 :: zq [3,5] 6 8 :: zq [6] 7 9 :: zq [7,0] 8 10 :: zq [7,8] 9 11 :: zq [7,9] 10 12 :: zq [10] 11 13 :: zq [10] 12 14 :: zq [7,10] 13 15 :: zq [7,13] 14 16 :: zq [14] 15 17 :: zq [15,0] 16 18 :: zq [15,16] 17 19 :: zq [15,17] 18 20 :: zq [18,0] 19 21 :: zq [18,19] 20 22 :: zq [15,18,20] 21 23 :: zq [15,21] 22 24 :: zq [22] 23 2 :: []) [(_,_)] (by kernel_rfl) rfl rfl ⟨zm rfl rfl rfl,zo rfl rfl rfl rfl,zm rfl (zb hg1_2) rfl,zr 2 rfl rfl rfl (op_move _ _ _ _ rfl rfl),zr 2 rfl rfl rfl (op_bin _ _ _ _ _ rfl rfl rfl),zk true rfl rfl rfl,zm rfl (zb hg1_6) rfl,zr 6 rfl rfl rfl (op_move _ _ _ _ rfl rfl),zr 6 rfl rfl rfl (op_bin _ _ _ _ _ rfl rfl rfl),zr 6 rfl rfl rfl (op_move _ _ _ _ (zb hg1_9) rfl),zs 9 true rfl rfl rfl rfl,zs 9 true rfl rfl rfl rfl,zr 6 rfl rfl rfl (op_pick _ _ false _ rfl rfl),zk false rfl rfl rfl,zm rfl rfl rfl,zr 14 rfl rfl rfl (op_move _ _ _ _ rfl rfl),zr 14 rfl rfl rfl (op_bin _ _ _ _ _ rfl rfl rfl),zr 14 rfl rfl rfl (op_move _ _ _ _ (zb hg1_17) rfl),zr 17 rfl rfl rfl (op_move _ _ _ _ rfl rfl),zr 17 rfl rfl rfl (op_bin _ _ _ _ _ rfl rfl rfl),zr 14 rfl rfl rfl (op_pick _ _ true _ rfl rfl),zk false rfl rfl rfl,za rfl rfl rfl,trivial⟩ ?_
       exact hl3 _ (Option.some.inj h).symm
      ·refine zh hn (_ :: (3, .v (.int .u8 c)) :: (4, .v (.bool ((decide (48 ≤ c))))) :: (5, .v (.bool true)) :: (6, .v (.int .u8 c)) :: (7, .v (.bool ((decide (c ≤ 57))))) :: (8, .v (.bool ((decide (c ≤ 57))))) :: (9, .v (.bool false)) :: (10, .v (.int .u8 c)) :: (11, .v (.bool ((decide (65 ≤ c))))) :: (12, .v (.bool false)) :: (13, .v undef) :: (14, .v undef) :: (15, .v (.bool false)) :: (16, .v (.bool false)) :: (17, .v (.bool false)) :: (18, .v (.int .u8 c)) :: (19, .v (.bool ((decide (97 ≤ c))))) :: (20, .v (.bool false)) :: (21, .v undef) :: (22, .v undef) :: (23, .v (.bool false)) :: (24, .v (.bool false)) :: (2, .v (.bool false)) :: []) [0] [23] (zq [0] 1 3 :: zq [1] 2 4 :: zq [2] 3 5 :: zq [3,0] 4 6 :: zq [3,4] 5 7 :: zq [3,5] 6 8 :: zq [6] 7 9 :: zq [7,0] 8 10 :: zq [7,8] 9 11 :: zq [7,9] 10 12 :: zq [10] 11 13 :: zq [10] 12 14 :: zq [7,10] 13 15 :: zq [7,13] 14 16 :: zq [14] 15 17 :: zq [15,0] 16 18 :: zq [15,16] 17 19 :: zq [15,17] 18 20 :: zq [18] 19 21 :: zq [18] 20 22 :: zq [15,18] 21 23 :: zq [15,21] 22 24 :: zq [22] 23 2 :: []) [(_,_)] (by kernel_rfl) rfl rfl ⟨zm rfl rfl rfl,zo rfl rfl rfl rfl,zm rfl (zb hg1_2) rfl,zr 2 rfl rfl rfl (op_move _ _ _ _ rfl rfl),zr 2 rfl rfl rfl (op_bin _ _ _ _ _ rfl rfl rfl),zk true rfl rfl rfl,zm rfl (zb hg1_6) rfl,zr 6 rfl rfl rfl (op_move _ _ _ _ rfl rfl),zr 6 rfl rfl rfl (op_bin _ _ _ _ _ rfl rfl rfl),zr 6 rfl rfl rfl (op_move _ _ _ _ (zb hg1_9) rfl),zs 9 true rfl rfl rfl rfl,zs 9 true rfl rfl rfl rfl,zr 6 rfl rfl rfl (op_pick _ _ false _ rfl rfl),zk false rfl rfl rfl,zm rfl rfl rfl,zr 14 rfl rfl rfl (op_move _ _ _ _ rfl rfl),zr 14 rfl rfl rfl (op_bin _ _ _ _ _ rfl rfl rfl),zr 14 rfl rfl rfl (op_move _ _ _ _ (zb hg1_17) rfl),zs 17 true rfl rfl rfl rfl,zs 17 true rfl rfl rfl rfl,zr 14 rfl rfl rfl (op_pick _ _ false _ rfl rfl),zk false rfl rfl rfl,za rfl rfl rfl,trivial⟩ ?_
       exact hl3 _ (Option.some.inj h).symm
   ·refine cond_some h (fun hg1_9 h => ?_) (fun hg1_9 h => ?_)
    ·refine cond_some h (fun hg1_14 h => ?_) (fun hg1_14 h => ?_)
     ·refine zh hn (_ :: (3, .v (.int .u8 c)) :: (4, .v (.bool ((decide (48 ≤ c))))) :: (5, .v (.bool false)) :: (6, .v undef) :: (7, .v undef) :: (8, .v (.bool false)) :: (9, .v (.bool false)) :: (10, .v (.int .u8 c)) :: (11, .v (.bool ((decide (65 ≤ c))))) :: (12, .v (.bool true)) :: (13, .v (.int .u8 c)) :: (14, .v (.bool ((decide (c ≤ 90))))) :: (15, .v (.bool ((decide (c ≤ 90))))) :: (16, .v (.bool ((decide (c ≤ 90))))) :: (17, .v (.bool true)) :: (18, .v undef) :: (19, .v undef) :: (20, .v undef) :: (21, .v undef) :: (22, .v undef) :: (23, .v undef) :: (24, .v (.bool true)) :: (2, .v (.bool true)) :: []) [0] [23] (zq [0] 1 3 :: zq [1] 2 4 :: zq [2] 3 5 :: zq [3] 4 6 :: zq [3] 5 7 :: zq [3] 6 8 :: zq [6] 7 9 :: zq [7,0] 8 10 :: zq [7,8] 9 11 :: zq [7,9] 10 12 :: zq [10,0] 11 13 :: zq [10,11] 12 14 :: zq [7,10,12] 13 15 :: zq [7,13] 14 16 :: zq [14] 15 17 :: zq [15] 16 18 :: zq [15] 17 19 :: zq [15] 18 20 :: zq [18] 19 21 :: zq [18] 20 22 :: zq [15] 21 23 :: zq [15] 22 24 :: zq [22] 23 2 :: []) [(_,_)] (by kernel_rfl) rfl rfl ⟨zm rfl rfl rfl,zo rfl rfl rfl rfl,zm rfl (zb hg1_2) rfl,zs 2 true rfl rfl rfl rfl,zs 2 true rfl rfl rfl rfl,zk false rfl rfl rfl,zm rfl rfl rfl,zr 6 rfl rfl rfl (op_move _ _ _ _ rfl rfl),zr 6 rfl rfl rfl (op_bin _ _ _ _ _ rfl rfl rfl),zr 6 rfl rfl rfl (op_move _ _ _ _ (zb hg1_9) rfl),zr 9 rfl rfl rfl (op_move _ _ _ _ rfl rfl),zr 9 rfl rfl rfl (op_bin _ _ _ _ _ rfl rfl rfl),zr 6 rfl rfl rfl (op_pick _ _ true _ rfl rfl),zk false rfl rfl rfl,zm rfl (zb hg1_14) rfl,zs 14 false rfl rfl rfl rfl,zs 14 false rfl rfl rfl rfl,zs 14 false rfl rfl rfl rfl,zu 17 rfl rfl rfl rfl,zu 17 rfl rfl rfl rfl,zs 14 false rfl rfl rfl rfl,zk true rfl rfl rfl,za rfl rfl rfl,trivial⟩ ?_
      exact hl3 _ (Option.some.inj h).symm
     ·refine cond_some h (fun hg1_17 h => ?_) (fun hg1_17 h => ?_)
      ·refine zh hn (_ :: (3, .v (.int .u8 c)) :: (4, .v (.bool ((decide (48 ≤ c))))) :: (5, .v (.bool false)) :: (6, .v undef) :: (7, .v undef) :: (8, .v (.bool false)) :: (9, .v (.bool false)) :: (10, .v (.int .u8 c)) :: (11, .v (.bool ((decide (65 ≤ c))))) :: (12, .v (.bool true)) :: (13, .v (.int .u8 c)) :: (14, .v (.bool ((decide (c ≤ 90))))) :: (15, .v (.bool ((decide (c ≤ 90))))) :: (16, .v (.bool ((decide (c ≤ 90))))) :: (17, .v (.bool false)) :: (18, .v (.int .u8 c)) :: (19, .v (.bool ((decide (97 ≤ c))))) :: (20, .v (.bool true)) :: (21, .v (.int .u8 c)) :: (22, .v (.bool ((decide (c ≤ 122))))) :: (23, .v (.bool ((decide (c ≤ 122))))) :: (24, .v (.bool ((decide (c ≤ 122))))) :: (2, .v (.bool ((decide (c ≤ 122))))) :: []) [0] [23] (zq [0] 1 3 :: zq [1] 2 4 :: zq [2] 3 5 :: zq [3] 4 6 :: zq [3] 5 7 :: zq [3] 6 8 :: zq [6] 7 9 :: zq [7,0] 8 10 :: zq [7,8] 9 11 :: zq [7,9] 10 12 :: zq [10,0] 11 13 :: zq [10,11] 12 14 :: zq [7,10,12] 13 15 :: zq [7,13] 14 16 :: zq [14] 15 17 :: zq [15,0] 16 18 :: zq [15,16] 17 19 :: zq [15,17] 18 20 :: zq [18,0] 19 21 :: zq [18,19] 20 22 :: zq [15,18,20] 21 23 :: zq [15,21] 22 24 :: zq [22] 23 2 :: []) [(_,_)] (by kernel_rfl) rfl rfl ⟨zm rfl rfl rfl,zo rfl rfl rfl rfl,zm rfl (zb hg1_2) rfl,zs 2 true rfl rfl rfl rfl,zs 2 true rfl rfl rfl rfl,zk false rfl rfl rfl,zm rfl rfl rfl,zr 6 rfl rfl rfl (op_move _ _ _ _ rfl rfl),zr 6 rfl rfl rfl (op_bin _ _ _ _ _ rfl rfl rfl),zr 6 rfl rfl rfl (op_move _ _ _ _ (zb hg1_9) rfl),zr 9 rfl rfl rfl (op_move _ _ _ _ rfl rfl),zr 9 rfl rfl rfl (op_bin _ _ _ _ _ rfl rfl rfl),zr 6 rfl rfl rfl (op_pick _ _ true _ rfl rfl),zk false rfl rfl rfl,zm rfl (zb hg1_14) rfl,zr 14 rfl rfl rfl (op_move _ _ _ _ rfl rfl),zr 14 rfl rfl rfl (op_bin _ _ _ _ _ rfl rfl rfl),zr 14 rfl rfl rfl (op_move _ _ _ _ (zb hg1_17) rfl),zr 17 rfl rfl rfl (op_move _ _ _ _ rfl rfl),zr 17 rfl rfl rfl (op_bin _ _ _ _ _ rfl rfl rfl),zr 14 rfl rfl rfl (op_pick _ _ true _ rfl rfl),zk false rfl rfl rfl,za rfl rfl rfl,trivial⟩ ?_
       exact hl3 _ (Option.some.inj h).symm
      ·refine zh hn (_ :: (3, .v (.int .u8 c)) :: (4, .v (.bool ((decide (48 ≤ c))))) :: (5, .v (.bool false)) :: (6, .v undef) :: (7, .v undef) :: (8, .v (.bool false)) :: (9, .v (.bool false)) :: (10, .v (.int .u8 c)) :: (11, .v (.bool ((decide (65 ≤ c))))) :: (12, .v (.bool true)) :: (13, .v (.int .u8 c)) :: (14, .v (.bool ((decide (c ≤ 90))))) :: (15, .v (.bool ((decide (c ≤ 90))))) :: (16, .v (.bool ((decide (c ≤ 90))))) :: (17, .v (.bool false)) :: (18, .v (.int .u8 c)) :: (19, .v (.bool ((decide (97 ≤ c))))) :: (20, .v (.bool false)) :: (21, .v undef) :: (22, .v undef) :: (23, .v (.bool false)) :: (24, .v (.bool false)) :: (2, .v (.bool false)) :: []) [0] [23] (zq [0] 1 3 :: zq [1] 2 4 :: zq [2] 3 5 :: zq [3] 4 6 :: zq [3] 5 7 :: zq [3] 6 8 :: zq [6] 7 9 :: zq [7,0] 8 10 :: zq [7,8] 9 11 :: zq [7,9] 10 12 :: zq [10,0] 11 13 :: zq [10,11] 12 14 :: zq [7,10,12] 13 15 :: zq [7,13] 14 16 :: zq [14] 15 17 :: zq [15,0] 16 18 :: zq [15,16] 17 19 :: zq [15,17] 18 20 :: zq [18] 19 21 :: zq [18] 20 22 :: zq [15,18] 21 23 :: zq [15,21] 22 24 :: zq [22] 23 2 :: []) [(_,_)] (by kernel_rfl) rfl rfl ⟨zm rfl rfl rfl,zo rfl rfl rfl rfl,zm rfl (zb hg1_2) rfl,zs 2 true rfl rfl rfl rfl,zs 2 true rfl rfl rfl rfl,zk false rfl rfl rfl,zm rfl rfl rfl,zr 6 rfl rfl rfl (op_move _ _ _ _ rfl rfl),zr 6 rfl rfl rfl (op_bin _ _ _ _ _ rfl rfl rfl),zr 6 rfl rfl rfl (op_move _ _ _ _ (zb hg1_9) rfl),zr 9 rfl rfl rfl (op_move _ _ _ _ rfl rfl),zr 9 rfl rfl rfl (op_bin _ _ _ _ _ rfl rfl rfl),zr 6 rfl rfl rfl (op_pick _ _ true _ rfl rfl),zk false rfl rfl rfl,zm rfl (zb hg1_14) rfl,zr 14 rfl rfl rfl (op_move _ _ _ _ rfl rfl),zr 14 rfl rfl rfl (op_bin _ _ _ _ _ rfl rfl rfl),zr 14 rfl rfl rfl (op_move _ _ _ _ (zb hg1_17) rfl),zs 17 true rfl rfl rfl rfl,zs 17 true rfl rfl rfl rfl,zr 14 rfl rfl rfl (op_pick _ _ false _ rfl rfl),zk false rfl rfl rfl,za rfl rfl rfl,trivial⟩ ?_
       exact hl3 _ (Option.some.inj h).symm
    ·refine cond_some h (fun hg1_17 h => ?_) (fun hg1_17 h => ?_)
     ·refine zh hn (_ :: (3, .v (.int .u8 c)) :: (4, .v (.bool ((decide (48 ≤ c))))) :: (5, .v (.bool false)) :: (6, .v undef) :: (7, .v undef) :: (8, .v (.bool false)) :: (9, .v (.bool false)) :: (10, .v (.int .u8 c)) :: (11, .v (.bool ((decide (65 ≤ c))))) :: (12, .v (.bool false)) :: (13, .v undef) :: (14, .v undef) :: (15, .v (.bool false)) :: (16, .v (.bool false)) :: (17, .v (.bool false)) :: (18, .v (.int .u8 c)) :: (19, .v (.bool ((decide (97 ≤ c))))) :: (20, .v (.bool true)) :: (21, .v (.int .u8 c)) :: (22, .v (.bool ((decide (c ≤ 122))))) :: (23, .v (.bool ((decide (c ≤ 122))))) :: (24, .v (.bool ((decide (c ≤ 122))))) :: (2, .v (.bool ((decide (c ≤ 122))))) :: []) [0] [23] (zq [0] 1 3 :: zq [1] 2 4 :: zq [2] 3 5 :: zq [3] 4 6 :: zq [3] 5 7 :: zq [3] 6 8 :: zq [6] 7 9 :: zq [7,0] 8 10 :: zq [7,8] 9 11 :: zq [7,9] 10 12 :: zq [10] 11 13 :: zq [10] 12 14 :: zq [7,10] 13 15 :: zq [7,13] 14 16 :: zq [14] 15 17 :: zq [15,0] 16 18 :: zq [15,16] 17 19 :: zq [15,17] 18 20 :: zq [18,0] 19 21 :: zq [18,19] 20 22 :: zq [15,18,20] 21 23 :: zq [15,21] 22 24 :: zq [22] 23 2 :: []) [(_,_)] (by kernel_rfl) rfl rfl ⟨zm rfl rfl rfl,zo rfl rfl rfl rfl,zm rfl (zb hg1_2) rfl,zs 2 true rfl rfl rfl rfl,zs 2 true rfl rfl rfl rfl,zk false rfl rfl rfl,zm rfl rfl rfl,zr 6 rfl rfl rfl (op_move _ _ _ _ rfl rfl),zr 6 rfl rfl rfl (op_bin _ _ _ _ _ rfl rfl rfl),zr 6 rfl rfl rfl (op_move _ _ _ _ (zb hg1_9) rfl),zs 9 true rfl rfl rfl rfl,zs 9 true rfl rfl rfl rfl,zr 6 rfl rfl rfl (op_pick _ _ false _ rfl rfl),zk false rfl rfl rfl,zm rfl rfl rfl,zr 14 rfl rfl rfl (op_move _ _ _ _ rfl rfl),zr 14 rfl rfl rfl (op_bin _ _ _ _ _ rfl rfl rfl),zr 14 rfl rfl rfl (op_move _ _ _ _ (zb hg1_17) rfl),zr 17 rfl rfl rfl (op_move _ _ _ _ rfl rfl),zr 17 rfl rfl rfl (op_bin _ _ _ _ _ rfl rfl rfl),zr 14 rfl rfl rfl (op_pick _ _ true _ rfl rfl),zk false rfl rfl rfl,za rfl rfl rfl,trivial⟩ ?_
      exact hl3 _ (Option.some.inj h).symm
     ·refine zh hn (_ :: (3, .v (.int .u8 c)) :: (4, .v (.bool ((decide (48 ≤ c))))) :: (5, .v (.bool false)) :: (6, .v undef) :: (7, .v undef) :: (8, .v (.bool false)) :: (9, .v (.bool false)) :: (10, .v (.int .u8 c)) :: (11, .v (.bool ((decide (65 ≤ c))))) :: (12, .v (.bool false)) :: (13, .v undef) :: (14, .v undef) :: (15, .v (.bool false)) :: (16, .v (.bool false)) :: (17, .v (.bool false)) :: (18, .v (.int .u8 c)) :: (19, .v (.bool ((decide (97 ≤ c))))) :: (20, .v (.bool false)) :: (21, .v undef) :: (22, .v undef) :: (23, .v (.bool false)) :: (24, .v (.bool false)) :: (2, .v (.bool false)) :: []) [0] [23] (zq [0] 1 3 :: zq [1] 2 4 :: zq [2] 3 5 :: zq [3] 4 6 :: zq [3] 5 7 :: zq [3] 6 8 :: zq [6] 7 9 :: zq [7,0] 8 10 :: zq [7,8] 9 11 :: zq [7,9] 10 12 :: zq [10] 11 13 :: zq [10] 12 14 :: zq [7,10] 13 15 :: zq [7,13] 14 16 :: zq [14] 15 17 :: zq [15,0] 16 18 :: zq [15,16] 17 19 :: zq [15,17] 18 20 :: zq [18] 19 21 :: zq [18] 20 22 :: zq [15,18] 21 23 :: zq [15,21] 22 24 :: zq [22] 23 2 :: []) [(_,_)] (by kernel_rfl) rfl rfl ⟨zm rfl rfl rfl,zo rfl rfl rfl rfl,zm rfl (zb hg1_2) rfl,zs 2 true rfl rfl rfl rfl,zs 2 true rfl rfl rfl rfl,zk false rfl rfl rfl,zm rfl rfl rfl,zr 6 rfl rfl rfl (op_move _ _ _ _ rfl rfl),zr 6 rfl rfl rfl (op_bin _ _ _ _ _ rfl rfl rfl),zr 6 rfl rfl rfl (op_move _ _ _ _ (zb hg1_9) rfl),zs 9 true rfl rfl rfl rfl,zs 9 true rfl rfl rfl rfl,zr 6 rfl rfl rfl (op_pick _ _ false _ rfl rfl),zk false rfl rfl rfl,zm rfl rfl rfl,zr 14 rfl rfl rfl (op_move _ _ _ _ rfl rfl),zr 14 rfl rfl rfl (op_bin _ _ _ _ _ rfl rfl rfl),zr 14 rfl rfl rfl (op_move _ _ _ _ (zb hg1_17) rfl),zs 17 true rfl rfl rfl rfl,zs 17 true rfl rfl rfl rfl,zr 14 rfl rfl rfl (op_pick _ _ false _ rfl rfl),zk false rfl rfl rfl,za rfl rfl rfl,trivial⟩ ?_
      exact hl3 _ (Option.some.inj h).symm
set_option maxHeartbeats 1000000 in
theorem ok_path_label_1 (c : Int) (r : Bool) (h : Sh.path_label_1 c = some r) : FnOK Tryz.prog 63 [.v (.int .u8 c)] (.v (.bool r)) := by
  unfold Sh.path_label_1 at h
  refine fn_ok Tryz.func63 rfl (zl rfl) rfl rfl fun g0 hn hio => ?_
  refine ht_seq ?_
  refine zh hn [_, (2, .v (.bool false))] [0] [0] [zq [] 1 2] [(_,_)] (by kernel_rfl) rfl rfl ⟨za rfl rfl rfl,trivial⟩ ?_
  refine pt_then ?_
  refine ht_seq ?_
  refine ht_joinS h (fun (s2 : Bool) => [(2, .v (.bool s2))]) ?_ ?_
  ·rintro s2 h
   refine pt_then ?_
   refine ht_ret ?_
   obtain rfl := Option.some.inj h
   exact pt_ret hio rfl (.tmp _ _ .nil) rfl rfl
  ·intro u3 h hl4 hr5
   obtain ⟨v1, hv1, h⟩ := bind_some h
   refine cond_some h (fun hg1_2 h => ?_) (fun hg1_2 h => ?_)
   ·refine zh hn [_, (3, .v (.int .u8 c)), (4, .v (.bool v1)), (5, .v (.bool true)), (6, .v undef), (7, .v undef), (8, .v (.bool true)), (2, .v (.bool true))] [0] [7] [zq [0] 1 3, zq [1] 2 4, zq [2] 3 5, zq [3] 4 6, zq [3] 5 7, zq [3] 6 8, zq [6] 7 2] [(_,_)] (by kernel_rfl) rfl rfl ⟨zm rfl rfl rfl,zp rfl (op_call _ _ 64 _ _ rfl Tryz.call64 rfl (ok_path_alphanumeric c _ hv1) rfl rfl),zm rfl (zb hg1_2) rfl,zs 2 false rfl rfl rfl rfl,zs 2 false rfl rfl rfl rfl,zk true rfl rfl rfl,za rfl rfl rfl,trivial⟩ ?_
    exact hl4 _ (Option.some.inj h).symm
   ·refine zh hn [_, (3, .v (.int .u8 c)), (4, .v (.bool v1)), (5, .v (.bool false)), (6, .v (.int .u8 c)), (7, .v (.bool (c == 45))), (8, .v (.bool (c == 45))), (2, .v (.bool (c == 45)))] [0] [7] [zq [0] 1 3, zq [1] 2 4, zq [2] 3 5, zq [3,0] 4 6, zq [3,4] 5 7, zq [3,5] 6 8, zq [6] 7 2] [(_,_)] (by kernel_rfl) rfl rfl ⟨zm rfl rfl rfl,zp rfl (op_call _ _ 64 _ _ rfl Tryz.call64 rfl (ok_path_alphanumeric c _ hv1) rfl rfl),zm rfl (zb hg1_2) rfl,zr 2 rfl rfl rfl (op_move _ _ _ _ rfl rfl),zr 2 rfl rfl rfl (op_bin _ _ _ _ _ rfl rfl rfl),zk false rfl rfl rfl,za rfl rfl rfl,trivial⟩ ?_
    exact hl4 _ (Option.some.inj h).symm
set_option maxHeartbeats 1000000 in
theorem ok_path_all_of_path_label_1 (s : ByteArray) (r : Bool) (h : Sh.path_all_of_path_label_1 s = some r) : FnOK Tryz.prog 62 [.v (.string s), .v (.func (.func 63) #[] #[])] (.v (.bool r)) := by
  unfold Sh.path_all_of_path_label_1 at h
  refine fn_ok Tryz.func62 rfl (zl rfl) rfl rfl fun g0 hn hio => ?_
  refine ht_seq ?_
  refine zh hn [_, _, (4, .v (.bool false))] [0,1] [0,1] [zq [] 2 4] [(_,_),(_,_)] (by kernel_rfl) rfl rfl ⟨za rfl rfl rfl,trivial⟩ ?_
  refine pt_then ?_
  refine ht_seq ?_
  refine ht_seq ?_
  refine zh hn [_, _, (6, .v (.string s)), (7, .v (.int .i64 (s.size : Int))), (8, .v (.int .i64 0))] [0,1] [0,1,3,4] [zq [0] 2 6, zq [2] 3 7, zq [] 4 8] [(_,_),(_,_),(_,_),(_,_)] (by kernel_rfl) rfl rfl ⟨zm rfl rfl rfl,zp rfl (op_len_str _ _ _ Tryz.underlying9 rfl),zm rfl rfl rfl,trivial⟩ ?_
  refine pt_then ?_
  refine ht_loopS h (fun (s9 : Int) => [(0, .v (.string s)), (1, .v (.func (.func 63) #[] #[])), (7, .v (.int .i64 (s.size : Int))), (8, .v (.int .i64 s9))]) (fun (() : Unit) => []) ?_ ?_
  ·rintro ⟨⟩ h
   refine pt_then ?_
   refine ht_seq ?_
   refine zh hn [(4, .v (.bool true))] [] [0] [zq [] 0 4] [(_,_)] (by kernel_rfl) rfl rfl ⟨za rfl rfl rfl,trivial⟩ ?_
   refine pt_then ?_
   refine ht_ret ?_
   obtain rfl := Option.some.inj h
   exact pt_ret hio rfl (.tmp _ _ .nil) rfl rfl
  ·rintro u12 hl13 hr14 s9 rr17 h ho15
   refine ht_seq ?_
   refine zh hn [_, _, _, _, (9, .v (.bool ((decide (s9 < (s.size : Int))))))] [0,1,2,3] [0,1,2,3,4] [zq [3,2] 4 9] [(_,_),(_,_),(_,_),(_,_),(_,_)] (by kernel_rfl) rfl rfl ⟨zo rfl rfl rfl rfl,trivial⟩ ?_
   refine pt_then ?_
   refine ht_seq ?_
   refine ht_cond _ rfl (fun hb18 => ?_) (fun hb18 => ?_)
   ·have h := cond_t hb18 h
    refine ht_skip ?_
    refine pt_then ?_
    refine ht_seq ?_
    refine ht_block ?_
    refine ht_seq ?_
    refine zh hn [_, _, _, _, _, (10, .v (.int .i64 s9)), (5, .v (.int .i64 s9))] [0,1,2,3,4] [0,1,2,3,6] [zq [3] 5 10, zq [5] 6 5] [(_,_),(_,_),(_,_),(_,_),(_,_)] (by kernel_rfl) rfl rfl ⟨zm rfl rfl rfl,za rfl rfl rfl,trivial⟩ ?_
    refine pt_then ?_
    refine ht_seq ?_
    obtain ⟨v2, hv2, h⟩ := bind_some h
    obtain ⟨v3, hv3, h⟩ := bind_some h
    refine zh hn [_, _, _, _, _, (11, .v (.func (.func 63) #[] #[])), (12, .v (.string s)), (13, .v (.int .i64 s9)), (14, .v (.int .u8 v2)), (15, .v (.bool v3)), (16, .v (.bool (!v3)))] [0,1,2,3,4] [0,1,2,3,10] [zq [1] 5 11, zq [0] 6 12, zq [4] 7 13, zq [6,7] 8 14, zq [8,5] 9 15, zq [9] 10 16] [(_,_),(_,_),(_,_),(_,_),(_,_)] (by kernel_rfl) rfl rfl ⟨zm rfl rfl rfl,zm rfl rfl rfl,zm rfl rfl rfl,zp rfl (op_chr _ _ _ s9 _ Tryz.underlying9 rfl rfl hv2),zp rfl (op_call _ _ 63 _ _ rfl Tryz.call63 rfl (ok_path_label_1 v2 _ hv3) rfl rfl),zp rfl (op_un _ _ _ _ rfl rfl),trivial⟩ ?_
    refine pt_then ?_
    refine ht_cond _ rfl (fun hb19 => ?_) (fun hb19 => ?_)
    ·have h := cond_t hb19 h
     refine ht_seq ?_
     refine zh hn [_, _, _, _, _, (4, .v (.bool false))] [0,1,2,3,4] [5] [zq [] 5 4] [(_,_)] (by kernel_rfl) rfl rfl ⟨za rfl rfl rfl,trivial⟩ ?_
     refine pt_then ?_
     refine ht_ret ?_
     refine pt_r_in ?_
     refine pt_r_then ?_
     refine pt_r_then ?_
     refine pt_r_in ?_
     refine pt_r_then ?_
     have h := hr14 _ (ho15 _ (Option.some.inj h).symm).symm
     obtain rfl := Option.some.inj h
     exact pt_ret hio rfl (.tmp _ _ .nil) rfl rfl
    ·have h := cond_f hb19 h
     refine ht_skip ?_
     refine pt_inb ?_
     refine pt_then ?_
     obtain ⟨v5, hv5, h⟩ := bind_some h
     refine zh hn [_, _, _, _, _, (17, .v (.int .i64 v5)), (8, .v (.int .i64 v5))] [0,1,2,3,4] [0,1,2,6] [zq [3] 5 17, ⟨[5], [3], [6], [(.slot 8)]⟩] [(_,_),(_,_),(_,_),(_,_)] (by kernel_rfl) rfl rfl ⟨zp rfl (op_bin _ _ _ _ _ rfl rfl (ibind (f := Value.int .i64) (Option.some.inj hv5))),zp rfl (LOp.drop [_] (op_move _ _ _ _ rfl rfl)),trivial⟩ ?_
     exact pt_next _ (Option.some.inj h).symm rfl
   ·have h := cond_f hb18 h
    refine ht_exit ?_
    refine pt_x_then ?_
    refine pt_x_then ?_
    refine pt_x_in ?_
    refine pt_pick [] (by kernel_rfl) (es' := []) rfl ?_
    exact hl13 _ (ho15 _ (Option.some.inj h).symm).symm
set_option maxHeartbeats 1000000 in
theorem ok_path_label (s : ByteArray) (r : Bool) (h : Sh.path_label s = some r) : FnOK Tryz.prog 52 [.v (.string s)] (.v (.bool r)) := by
  unfold Sh.path_label at h
  refine fn_ok Tryz.func52 rfl (zl rfl) rfl rfl fun g0 hn hio => ?_
  refine ht_seq ?_
  refine zh hn [_, (2, .v (.bool false))] [0] [0] [zq [] 1 2] [(_,_)] (by kernel_rfl) rfl rfl ⟨za rfl rfl rfl,trivial⟩ ?_
  refine pt_then ?_
  refine ht_seq ?_
  refine ht_joinS h (fun (s5 : Bool) => [(2, .v (.bool s5))]) ?_ ?_
  ·rintro s5 h
   refine pt_then ?_
   refine ht_ret ?_
   obtain rfl := Option.some.inj h
   exact pt_ret hio rfl (.tmp _ _ .nil) rfl rfl
  ·intro u6 h hl7 hr8
   refine cond_some h (fun hg1_2 h => ?_) (fun hg1_2 h => ?_)
   ·refine cond_some h (fun hg1_7 h => ?_) (fun hg1_7 h => ?_)
    ·obtain ⟨v1, hv1, h⟩ := bind_some h
     refine cond_some h (fun hg1_12 h => ?_) (fun hg1_12 h => ?_)
     ·obtain ⟨v2, hv2, h⟩ := bind_some h
      obtain ⟨v3, hv3, h⟩ := bind_some h
      refine cond_some h (fun hg1_20 h => ?_) (fun hg1_20 h => ?_)
      ·obtain ⟨v4, hv4, h⟩ := bind_some h
       refine zh hn (_ :: (3, .v (.string s)) :: (4, .v (.bool ((!(s.toList == (⟨#[]⟩ : ByteArray).toList))))) :: (5, .v (.bool true)) :: (6, .v (.string s)) :: (7, .v (.int .i64 (s.size : Int))) :: (8, .v (.bool ((decide ((s.size : Int) ≤ 63))))) :: (9, .v (.bool ((decide ((s.size : Int) ≤ 63))))) :: (10, .v (.bool true)) :: (11, .v (.string s)) :: (12, .v (.int .u8 v1)) :: (13, .v (.bool (v1 != 45))) :: (14, .v (.bool (v1 != 45))) :: (15, .v (.bool true)) :: (16, .v (.string s)) :: (17, .v (.string s)) :: (18, .v (.int .i64 (s.size : Int))) :: (19, .v (.int .i64 v2)) :: (20, .v (.int .u8 v3)) :: (21, .v (.bool (v3 != 45))) :: (22, .v (.bool (v3 != 45))) :: (23, .v (.bool true)) :: (24, .v (.string s)) :: (25, .v (.bool v4)) :: (26, .v (.bool v4)) :: (2, .v (.bool v4)) :: []) [0] [25] (zq [0] 1 3 :: zq [1] 2 4 :: zq [2] 3 5 :: zq [3,0] 4 6 :: zq [3,4] 5 7 :: zq [3,5] 6 8 :: zq [3,6] 7 9 :: zq [7] 8 10 :: zq [8,0] 9 11 :: zq [8,9] 10 12 :: zq [8,10] 11 13 :: zq [8,11] 12 14 :: zq [12] 13 15 :: zq [13,0] 14 16 :: zq [13,0] 15 17 :: zq [13,15] 16 18 :: zq [13,16] 17 19 :: zq [13,14,17] 18 20 :: zq [13,18] 19 21 :: zq [13,19] 20 22 :: zq [20] 21 23 :: zq [21,0] 22 24 :: zq [21,22] 23 25 :: zq [21,23] 24 26 :: zq [24] 25 2 :: []) [(_,_)] (by kernel_rfl) rfl rfl ⟨zm rfl rfl rfl,zo rfl rfl rfl rfl,zm rfl (zb hg1_2) rfl,zr 2 rfl rfl rfl (op_move _ _ _ _ rfl rfl),zr 2 rfl rfl rfl (op_len_str _ _ _ Tryz.underlying9 rfl),zr 2 rfl rfl rfl (op_bin _ _ _ _ _ rfl rfl rfl),zk true rfl rfl rfl,zm rfl (zb hg1_7) rfl,zr 7 rfl rfl rfl (op_move _ _ _ _ rfl rfl),zr 7 rfl rfl rfl (op_chr _ _ _ 0 _ Tryz.underlying9 rfl rfl hv1),zr 7 rfl rfl rfl (op_bin _ _ _ _ _ rfl rfl rfl),zk true rfl rfl rfl,zm rfl (zb hg1_12) rfl,zr 12 rfl rfl rfl (op_move _ _ _ _ rfl rfl),zr 12 rfl rfl rfl (op_move _ _ _ _ rfl rfl),zr 12 rfl rfl rfl (op_len_str _ _ _ Tryz.underlying9 rfl),zr 12 rfl rfl rfl (op_bin _ _ _ _ _ rfl rfl (ibind (f := Value.int .i64) (Option.some.inj hv2))),zr 12 rfl rfl rfl (op_chr _ _ _ v2 _ Tryz.underlying9 rfl rfl hv3),zr 12 rfl rfl rfl (op_bin _ _ _ _ _ rfl rfl rfl),zk true rfl rfl rfl,zm rfl (zb hg1_20) rfl,zr 20 rfl rfl rfl (op_move _ _ _ _ rfl rfl),zr 20 rfl rfl rfl (op_call _ _ 62 _ _ rfl Tryz.call62 rfl (ok_path_all_of_path_label_1 s _ hv4) rfl rfl),zk true rfl rfl rfl,za rfl rfl rfl,trivial⟩ ?_
       exact hl7 _ (Option.some.inj h).symm
      ·refine zh hn (_ :: (3, .v (.string s)) :: (4, .v (.bool ((!(s.toList == (⟨#[]⟩ : ByteArray).toList))))) :: (5, .v (.bool true)) :: (6, .v (.string s)) :: (7, .v (.int .i64 (s.size : Int))) :: (8, .v (.bool ((decide ((s.size : Int) ≤ 63))))) :: (9, .v (.bool ((decide ((s.size : Int) ≤ 63))))) :: (10, .v (.bool true)) :: (11, .v (.string s)) :: (12, .v (.int .u8 v1)) :: (13, .v (.bool (v1 != 45))) :: (14, .v (.bool (v1 != 45))) :: (15, .v (.bool true)) :: (16, .v (.string s)) :: (17, .v (.string s)) :: (18, .v (.int .i64 (s.size : Int))) :: (19, .v (.int .i64 v2)) :: (20, .v (.int .u8 v3)) :: (21, .v (.bool (v3 != 45))) :: (22, .v (.bool (v3 != 45))) :: (23, .v (.bool false)) :: (24, .v undef) :: (25, .v undef) :: (26, .v (.bool false)) :: (2, .v (.bool false)) :: []) [0] [25] (zq [0] 1 3 :: zq [1] 2 4 :: zq [2] 3 5 :: zq [3,0] 4 6 :: zq [3,4] 5 7 :: zq [3,5] 6 8 :: zq [3,6] 7 9 :: zq [7] 8 10 :: zq [8,0] 9 11 :: zq [8,9] 10 12 :: zq [8,10] 11 13 :: zq [8,11] 12 14 :: zq [12] 13 15 :: zq [13,0] 14 16 :: zq [13,0] 15 17 :: zq [13,15] 16 18 :: zq [13,16] 17 19 :: zq [13,14,17] 18 20 :: zq [13,18] 19 21 :: zq [13,19] 20 22 :: zq [20] 21 23 :: zq [21] 22 24 :: zq [21] 23 25 :: zq [21] 24 26 :: zq [24] 25 2 :: []) [(_,_)] (by kernel_rfl) rfl rfl ⟨zm rfl rfl rfl,zo rfl rfl rfl rfl,zm rfl (zb hg1_2) rfl,zr 2 rfl rfl rfl (op_move _ _ _ _ rfl rfl),zr 2 rfl rfl rfl (op_len_str _ _ _ Tryz.underlying9 rfl),zr 2 rfl rfl rfl (op_bin _ _ _ _ _ rfl rfl rfl),zk true rfl rfl rfl,zm rfl (zb hg1_7) rfl,zr 7 rfl rfl rfl (op_move _ _ _ _ rfl rfl),zr 7 rfl rfl rfl (op_chr _ _ _ 0 _ Tryz.underlying9 rfl rfl hv1),zr 7 rfl rfl rfl (op_bin _ _ _ _ _ rfl rfl rfl),zk true rfl rfl rfl,zm rfl (zb hg1_12) rfl,zr 12 rfl rfl rfl (op_move _ _ _ _ rfl rfl),zr 12 rfl rfl rfl (op_move _ _ _ _ rfl rfl),zr 12 rfl rfl rfl (op_len_str _ _ _ Tryz.underlying9 rfl),zr 12 rfl rfl rfl (op_bin _ _ _ _ _ rfl rfl (ibind (f := Value.int .i64) (Option.some.inj hv2))),zr 12 rfl rfl rfl (op_chr _ _ _ v2 _ Tryz.underlying9 rfl rfl hv3),zr 12 rfl rfl rfl (op_bin _ _ _ _ _ rfl rfl rfl),zk true rfl rfl rfl,zm rfl (zb hg1_20) rfl,zs 20 true rfl rfl rfl rfl,zs 20 true rfl rfl rfl rfl,zk false rfl rfl rfl,za rfl rfl rfl,trivial⟩ ?_
       exact hl7 _ (Option.some.inj h).symm
     ·refine zh hn (_ :: (3, .v (.string s)) :: (4, .v (.bool ((!(s.toList == (⟨#[]⟩ : ByteArray).toList))))) :: (5, .v (.bool true)) :: (6, .v (.string s)) :: (7, .v (.int .i64 (s.size : Int))) :: (8, .v (.bool ((decide ((s.size : Int) ≤ 63))))) :: (9, .v (.bool ((decide ((s.size : Int) ≤ 63))))) :: (10, .v (.bool true)) :: (11, .v (.string s)) :: (12, .v (.int .u8 v1)) :: (13, .v (.bool (v1 != 45))) :: (14, .v (.bool (v1 != 45))) :: (15, .v (.bool false)) :: (16, .v undef) :: (17, .v undef) :: (18, .v undef) :: (19, .v undef) :: (20, .v undef) :: (21, .v undef) :: (22, .v (.bool false)) :: (23, .v (.bool false)) :: (24, .v undef) :: (25, .v undef) :: (26, .v (.bool false)) :: (2, .v (.bool false)) :: []) [0] [25] (zq [0] 1 3 :: zq [1] 2 4 :: zq [2] 3 5 :: zq [3,0] 4 6 :: zq [3,4] 5 7 :: zq [3,5] 6 8 :: zq [3,6] 7 9 :: zq [7] 8 10 :: zq [8,0] 9 11 :: zq [8,9] 10 12 :: zq [8,10] 11 13 :: zq [8,11] 12 14 :: zq [12] 13 15 :: zq [13] 14 16 :: zq [13] 15 17 :: zq [13] 16 18 :: zq [13] 17 19 :: zq [13] 18 20 :: zq [13] 19 21 :: zq [13] 20 22 :: zq [20] 21 23 :: zq [21] 22 24 :: zq [21] 23 25 :: zq [21] 24 26 :: zq [24] 25 2 :: []) [(_,_)] (by kernel_rfl) rfl rfl ⟨zm rfl rfl rfl,zo rfl rfl rfl rfl,zm rfl (zb hg1_2) rfl,zr 2 rfl rfl rfl (op_move _ _ _ _ rfl rfl),zr 2 rfl rfl rfl (op_len_str _ _ _ Tryz.underlying9 rfl),zr 2 rfl rfl rfl (op_bin _ _ _ _ _ rfl rfl rfl),zk true rfl rfl rfl,zm rfl (zb hg1_7) rfl,zr 7 rfl rfl rfl (op_move _ _ _ _ rfl rfl),zr 7 rfl rfl rfl (op_chr _ _ _ 0 _ Tryz.underlying9 rfl rfl hv1),zr 7 rfl rfl rfl (op_bin _ _ _ _ _ rfl rfl rfl),zk true rfl rfl rfl,zm rfl (zb hg1_12) rfl,zs 12 true rfl rfl rfl rfl,zs 12 true rfl rfl rfl rfl,zs 12 true rfl rfl rfl rfl,zs 12 true rfl rfl rfl rfl,zs 12 true rfl rfl rfl rfl,zs 12 true rfl rfl rfl rfl,zk false rfl rfl rfl,zm rfl rfl rfl,zs 20 true rfl rfl rfl rfl,zs 20 true rfl rfl rfl rfl,zk false rfl rfl rfl,za rfl rfl rfl,trivial⟩ ?_
      exact hl7 _ (Option.some.inj h).symm
    ·refine zh hn (_ :: (3, .v (.string s)) :: (4, .v (.bool ((!(s.toList == (⟨#[]⟩ : ByteArray).toList))))) :: (5, .v (.bool true)) :: (6, .v (.string s)) :: (7, .v (.int .i64 (s.size : Int))) :: (8, .v (.bool ((decide ((s.size : Int) ≤ 63))))) :: (9, .v (.bool ((decide ((s.size : Int) ≤ 63))))) :: (10, .v (.bool false)) :: (11, .v undef) :: (12, .v undef) :: (13, .v undef) :: (14, .v (.bool false)) :: (15, .v (.bool false)) :: (16, .v undef) :: (17, .v undef) :: (18, .v undef) :: (19, .v undef) :: (20, .v undef) :: (21, .v undef) :: (22, .v (.bool false)) :: (23, .v (.bool false)) :: (24, .v undef) :: (25, .v undef) :: (26, .v (.bool false)) :: (2, .v (.bool false)) :: []) [0] [25] (zq [0] 1 3 :: zq [1] 2 4 :: zq [2] 3 5 :: zq [3,0] 4 6 :: zq [3,4] 5 7 :: zq [3,5] 6 8 :: zq [3,6] 7 9 :: zq [7] 8 10 :: zq [8] 9 11 :: zq [8] 10 12 :: zq [8] 11 13 :: zq [8] 12 14 :: zq [12] 13 15 :: zq [13] 14 16 :: zq [13] 15 17 :: zq [13] 16 18 :: zq [13] 17 19 :: zq [13] 18 20 :: zq [13] 19 21 :: zq [13] 20 22 :: zq [20] 21 23 :: zq [21] 22 24 :: zq [21] 23 25 :: zq [21] 24 26 :: zq [24] 25 2 :: []) [(_,_)] (by kernel_rfl) rfl rfl ⟨zm rfl rfl rfl,zo rfl rfl rfl rfl,zm rfl (zb hg1_2) rfl,zr 2 rfl rfl rfl (op_move _ _ _ _ rfl rfl),zr 2 rfl rfl rfl (op_len_str _ _ _ Tryz.underlying9 rfl),zr 2 rfl rfl rfl (op_bin _ _ _ _ _ rfl rfl rfl),zk true rfl rfl rfl,zm rfl (zb hg1_7) rfl,zs 7 true rfl rfl rfl rfl,zs 7 true rfl rfl rfl rfl,zs 7 true rfl rfl rfl rfl,zk false rfl rfl rfl,zm rfl rfl rfl,zs 12 true rfl rfl rfl rfl,zs 12 true rfl rfl rfl rfl,zs 12 true rfl rfl rfl rfl,zs 12 true rfl rfl rfl rfl,zs 12 true rfl rfl rfl rfl,zs 12 true rfl rfl rfl rfl,zk false rfl rfl rfl,zm rfl rfl rfl,zs 20 true rfl rfl rfl rfl,zs 20 true rfl rfl rfl rfl,zk false rfl rfl rfl,za rfl rfl rfl,trivial⟩ ?_
     exact hl7 _ (Option.some.inj h).symm
   ·refine zh hn (_ :: (3, .v (.string s)) :: (4, .v (.bool ((!(s.toList == (⟨#[]⟩ : ByteArray).toList))))) :: (5, .v (.bool false)) :: (6, .v undef) :: (7, .v undef) :: (8, .v undef) :: (9, .v (.bool false)) :: (10, .v (.bool false)) :: (11, .v undef) :: (12, .v undef) :: (13, .v undef) :: (14, .v (.bool false)) :: (15, .v (.bool false)) :: (16, .v undef) :: (17, .v undef) :: (18, .v undef) :: (19, .v undef) :: (20, .v undef) :: (21, .v undef) :: (22, .v (.bool false)) :: (23, .v (.bool false)) :: (24, .v undef) :: (25, .v undef) :: (26, .v (.bool false)) :: (2, .v (.bool false)) :: []) [0] [25] (zq [0] 1 3 :: zq [1] 2 4 :: zq [2] 3 5 :: zq [3] 4 6 :: zq [3] 5 7 :: zq [3] 6 8 :: zq [3] 7 9 :: zq [7] 8 10 :: zq [8] 9 11 :: zq [8] 10 12 :: zq [8] 11 13 :: zq [8] 12 14 :: zq [12] 13 15 :: zq [13] 14 16 :: zq [13] 15 17 :: zq [13] 16 18 :: zq [13] 17 19 :: zq [13] 18 20 :: zq [13] 19 21 :: zq [13] 20 22 :: zq [20] 21 23 :: zq [21] 22 24 :: zq [21] 23 25 :: zq [21] 24 26 :: zq [24] 25 2 :: []) [(_,_)] (by kernel_rfl) rfl rfl ⟨zm rfl rfl rfl,zo rfl rfl rfl rfl,zm rfl (zb hg1_2) rfl,zs 2 true rfl rfl rfl rfl,zs 2 true rfl rfl rfl rfl,zs 2 true rfl rfl rfl rfl,zk false rfl rfl rfl,zm rfl rfl rfl,zs 7 true rfl rfl rfl rfl,zs 7 true rfl rfl rfl rfl,zs 7 true rfl rfl rfl rfl,zk false rfl rfl rfl,zm rfl rfl rfl,zs 12 true rfl rfl rfl rfl,zs 12 true rfl rfl rfl rfl,zs 12 true rfl rfl rfl rfl,zs 12 true rfl rfl rfl rfl,zs 12 true rfl rfl rfl rfl,zs 12 true rfl rfl rfl rfl,zk false rfl rfl rfl,zm rfl rfl rfl,zs 20 true rfl rfl rfl rfl,zs 20 true rfl rfl rfl rfl,zk false rfl rfl rfl,za rfl rfl rfl,trivial⟩ ?_
    exact hl7 _ (Option.some.inj h).symm
set_option maxHeartbeats 1000000 in
theorem ok_path_dotted_of_path_label (mx : Int) (s : ByteArray) (r : Bool) (h : Sh.path_dotted_of_path_label s = some r) : FnG Tryz.prog (GL mx) 51 [.v (.string s), .v (.func (.func 52) #[] #[])] (.v (.bool r)) := by
  unfold Sh.path_dotted_of_path_label at h
  refine fn_okG Tryz.func51 rfl (zl rfl) rfl rfl fun g0 hn hio => ?_
  refine ht_seq ?_
  refine zh hn [_, _, _, (3, .box 48 [.v (.func (.func 52) #[] #[])]), (4, .box 4 [.v (.bool false)])] [0,1,2] [0,2,3,4] [zq [1] 3 3, zq [] 4 4] [(_,_),(_,_),(_,_),(_,_)] (by kernel_rfl) rfl rfl ⟨zp rfl (op_box _ _ _ _ rfl rfl rfl),zp rfl (op_alloc _ _ zr4),trivial⟩ ?_
  refine pt_then ?_
  refine ht_seq ?_
  refine ht_seq ?_
  obtain ⟨v1, hv1, h⟩ := bind_some h
  refine zh hn [_, _, _, _, (6, .v (.string s)), (7, .cloB 86 [.box 9 [.v (.string v1.1)], .box 9 [.v (.string v1.2.1)], .box 3 [.v (.int .i64 v1.2.2)]])] [0,1,2,3] [1,2,3,5] [zq [0] 4 6, zq [4] 5 7] [(_,_),(_,_),(_,_),(_,_)] (by kernel_rfl) rfl rfl ⟨zm rfl rfl rfl,zp rfl (op_callS _ _ 61 _ _ rfl Tryz.call61 rfl rfl (ok_strings_SplitSeq s (⟨#[46]⟩ : ByteArray) _ hv1) rfl),trivial⟩ ?_
  refine pt_then ?_
  refine ht_block ?_
  refine ht_pick [3, 0, 1, 2] (by kernel_rfl) (es' := [(7, .cloB 86 [.box 9 [.v (.string v1.1)], .box 9 [.v (.string v1.2.1)], .box 3 [.v (.int .i64 v1.2.2)]]), (13, .glob (GL mx)), (3, .box 48 [.v (.func (.func 52) #[] #[])]), (4, .box 4 [.v (.bool false)])]) rfl ?_
  refine ht_rangeF h 86 7 8 14 _ [13, 3, 4] Tryz.call86 (fun (() : Unit) => [(13, .glob (GL mx)), (3, .box 48 [.v (.func (.func 52) #[] #[])]), (4, .box 4 [.v (.bool false)])]) (fun (() : Unit) => [(13, .glob (GL mx)), (3, .box 48 [.v (.func (.func 52) #[] #[])]), (4, .box 4 [.v (.bool false)])]) (fun l J Y hY t t' h => ok_strings_splitSeq_1 mx l J Y hY v1.1 v1.2.1 v1.2.2 t t' h) hn rfl (fun _ => rfl) (fun _ => rfl) (fun _ => rfl) rfl rfl (fun _ => ⟨rfl, rfl⟩) rfl (glIn_look 13 rfl) ?_ ?_ ?_
  ·rintro kk g0 hn hio x ⟨⟩ u h
   refine ht_es (es' := [(8, .v (.string x)), (13, .glob (GL mx)), (3, .box 48 [.v (.func (.func 52) #[] #[])]), (4, .box 4 [.v (.bool false)]), (13, .v (kk.tm.getD 13 undef)), (3, .v (kk.tm.getD 3 undef)), (4, .v (kk.tm.getD 4 undef)), (14, .inv kk.ready)]) rfl ?_
   refine zh hn [_, _, _, _, _, _, _, _, (5, .v (.string x))] [0,1,2,3,4,5,6,7] [1,2,3,4,5,6,7,8] [zq [0] 8 5] [(_,_),(_,_),(_,_),(_,_),(_,_),(_,_),(_,_),(_,_)] (by kernel_rfl) rfl rfl ⟨za rfl rfl rfl,trivial⟩ ?_
   refine pt_pick [0, 1, 2, 3, 4, 5, 7, 6] (by kernel_rfl) (es' := [(13, .glob (GL mx)), (3, .box 48 [.v (.func (.func 52) #[] #[])]), (4, .box 4 [.v (.bool false)]), (13, .v (kk.tm.getD 13 undef)), (3, .v (kk.tm.getD 3 undef)), (4, .v (kk.tm.getD 4 undef)), (5, .v (.string x)), (14, .inv kk.ready)]) rfl ?_
   refine pt_begin (es := [(13, .glob (GL mx)), (3, .box 48 [.v (.func (.func 52) #[] #[])]), (4, .box 4 [.v (.bool false)]), (13, .v (kk.tm.getD 13 undef)), (3, .v (kk.tm.getD 3 undef)), (4, .v (kk.tm.getD 4 undef)), (5, .v (.string x))]) 14 rfl ?_
   refine ht_block ?_
   refine ht_seq ?_
   obtain ⟨v2, hv2, h⟩ := bind_some h
   refine zh hn [_, _, _, _, _, _, _, _, (9, .v (.func (.func 52) #[] #[])), (10, .v (.string x)), (11, .v (.bool v2)), (12, .v (.bool (!v2)))] [0,1,2,3,4,5,6,7] [0,1,2,3,4,5,7,11] [zq [1] 8 9, zq [6] 9 10, zq [9,8] 10 11, zq [10] 11 12] [(_,_),(_,_),(_,_),(_,_),(_,_),(_,_),(_,_),(_,_)] (by kernel_rfl) rfl rfl ⟨zp rfl (op_load _ _ _ _ _ _ Tryz.underlying48 rfl rfl rfl (zl rfl) rfl rfl rfl),zm rfl rfl rfl,zp rfl (op_call _ _ 52 _ _ rfl Tryz.call52 rfl (ok_path_label x _ hv2) rfl rfl),zp rfl (op_un _ _ _ _ rfl rfl),trivial⟩ ?_
   refine pt_then ?_
   refine ht_cond _ rfl (fun hb5 => ?_) (fun hb5 => ?_)
   ·have h := cond_t hb5 h
    refine ht_seq ?_
    refine zh hn [_, _, _, _, _, _, _, _, (4, .box 4 [.v (.bool false)])] [0,1,2,3,4,5,6,7] [0,1,8,3,4,5,6] [⟨[], [2], [8], [.cell 4 0]⟩] [(_,_),(_,_),(_,_),(_,_),(_,_),(_,_),(_,_)] (by kernel_rfl) rfl rfl ⟨zp rfl (op_store _ _ _ _ _ _ _ _ sz4 rfl rfl rfl rfl (zl rfl) rfl rfl),trivial⟩ ?_
    refine pt_then ?_
    refine ht_ret ?_
    refine pt_r_in ?_
    obtain rfl := Option.some.inj h
    exact pt_rret 14 [13, 3, 4] _ rfl rfl (by kernel_rfl)
   ·have h := cond_f hb5 h
    refine ht_skip ?_
    refine pt_inb ?_
    refine pt_pick [0, 1, 2, 3, 4, 5, 6] (by kernel_rfl) (es' := [(_, _), (_, _), (_, _), (_, _), (_, _), (_, _), (_, _)]) rfl ?_
    obtain rfl := Option.some.inj h
    exact pt_rnext 14 [13, 3, 4] _ rfl rfl (by kernel_rfl)
  ·rintro D ⟨⟩ h
   refine pt_inb ?_
   refine pt_then ?_
   refine ht_seq ?_
   refine zh hn [_, _, _, (4, .box 4 [.v (.bool true)])] [0,1,2] [0,3] [⟨[], [2], [3], [.cell 4 0]⟩] [(_,_),(_,_)] (by kernel_rfl) rfl rfl ⟨zp rfl (op_store _ _ _ _ _ _ _ _ sz4 rfl rfl rfl rfl (zl rfl) rfl rfl),trivial⟩ ?_
   refine pt_then ?_
   refine ht_ret ?_
   refine pt_pick [1] (by kernel_rfl) (es' := [(_, _)]) rfl ?_
   obtain rfl := Option.some.inj h
   exact pt_ret hio rfl (.cell1 _ _ _ _ Tryz.underlying4 rfl .nil) rfl rfl
  ·rintro D ⟨⟩ h
   refine pt_pick [2] (by kernel_rfl) (es' := [(_, _)]) rfl ?_
   refine pt_r_in ?_
   refine pt_r_then ?_
   obtain rfl := Option.some.inj h
   exact pt_ret hio rfl (.cell1 _ _ _ _ Tryz.underlying4 rfl .nil) rfl rfl
set_option maxHeartbeats 1000000 in
theorem ok_path_Domain (mx : Int) (s : ByteArray) (r : Bool) (h : Sh.path_Domain s = some r) : FnG Tryz.prog (GL mx) 37 [.v (.string s)] (.v (.bool r)) := by
  unfold Sh.path_Domain at h
  refine fn_okG Tryz.func37 rfl (zl rfl) rfl rfl fun g0 hn hio => ?_
  refine ht_seq ?_
  refine zh hn [_, _, (2, .v (.bool false))] [0,1] [0,1] [zq [] 2 2] [(_,_),(_,_)] (by kernel_rfl) rfl rfl ⟨za rfl rfl rfl,trivial⟩ ?_
  refine pt_then ?_
  refine ht_seq ?_
  refine ht_joinS h (fun (s2 : Bool) => [(10, .glob (GL mx)), (2, .v (.bool s2))]) ?_ ?_
  ·rintro s2 h
   refine pt_then ?_
   refine ht_ret ?_
   refine pt_pick [1] (by kernel_rfl) (es' := [(_, _)]) rfl ?_
   obtain rfl := Option.some.inj h
   exact pt_ret hio rfl (.tmp _ _ .nil) rfl rfl
  ·intro u3 h hl4 hr5
   refine cond_some h (fun hg1_3 h => ?_) (fun hg1_3 h => ?_)
   ·obtain ⟨v1, hv1, h⟩ := bind_some h
    refine zh hn [_, _, (3, .v (.string s)), (4, .v (.int .i64 (s.size : Int))), (5, .v (.bool ((decide ((s.size : Int) ≤ 255))))), (6, .v (.bool true)), (7, .v (.string s)), (8, .v (.bool v1)), (9, .v (.bool v1)), (2, .v (.bool v1))] [0,1] [1,9] [zq [0] 2 3, zq [2] 3 4, zq [3] 4 5, zq [4] 5 6, zq [5,0] 6 7, zq [5,6,1] 7 8, zq [5,7] 8 9, zq [8] 9 2] [(_,_),(_,_)] (by kernel_rfl) rfl rfl ⟨zm rfl rfl rfl,zp rfl (op_len_str _ _ _ Tryz.underlying9 rfl),zo rfl rfl rfl rfl,zm rfl (zb hg1_3) rfl,zr 3 rfl rfl rfl (op_move _ _ _ _ rfl rfl),zr 3 rfl rfl rfl (op_callG _ _ 10 51 _ _ rfl Tryz.call51 rfl rfl (fun _ h => h) (ok_path_dotted_of_path_label mx s _ hv1) rfl rfl),zk true rfl rfl rfl,za rfl rfl rfl,trivial⟩ ?_
    exact hl4 _ (Option.some.inj h).symm
   ·refine zh hn [_, _, (3, .v (.string s)), (4, .v (.int .i64 (s.size : Int))), (5, .v (.bool ((decide ((s.size : Int) ≤ 255))))), (6, .v (.bool false)), (7, .v undef), (8, .v undef), (9, .v (.bool false)), (2, .v (.bool false))] [0,1] [1,9] [zq [0] 2 3, zq [2] 3 4, zq [3] 4 5, zq [4] 5 6, zq [5] 6 7, zq [5] 7 8, zq [5] 8 9, zq [8] 9 2] [(_,_),(_,_)] (by kernel_rfl) rfl rfl ⟨zm rfl rfl rfl,zp rfl (op_len_str _ _ _ Tryz.underlying9 rfl),zo rfl rfl rfl rfl,zm rfl (zb hg1_3) rfl,zs 3 true rfl rfl rfl rfl,zs 3 true rfl rfl rfl rfl,zk false rfl rfl rfl,za rfl rfl rfl,trivial⟩ ?_
    exact hl4 _ (Option.some.inj h).symm
set_option maxHeartbeats 1000000 in
theorem ok_verb_otherMechanism (mx : Int) (line : ByteArray) (r : Bool) (h : Sh.verb_otherMechanism line = some r) : FnG Tryz.prog (GL mx) 20 [.v (.string line)] (.v (.bool r)) := by
  unfold Sh.verb_otherMechanism at h
  refine fn_okG Tryz.func20 rfl (zl rfl) rfl rfl fun g0 hn hio => ?_
  refine ht_seq ?_
  refine zh hn [_, _, (2, .v (.bool false))] [0,1] [0,1] [zq [] 2 2] [(_,_),(_,_)] (by kernel_rfl) rfl rfl ⟨za rfl rfl rfl,trivial⟩ ?_
  refine pt_then ?_
  refine ht_seq ?_
  obtain ⟨v1, hv1, h⟩ := bind_some h
  refine zh hn [_, _, (7, .v (.string line)), (8, .tup [.v (.string v1.1), .v (.bool v1.2)]), (6, .tup [.v (.string v1.1), .v (.bool v1.2)]), (9, .v (.string v1.1)), (10, .v (.bool v1.2)), (3, .v (.string v1.1)), (4, .v (.bool v1.2))] [0,1] [1,7,8] [zq [0] 2 7, zq [2] 3 8, ⟨[], [3], [4], [(.slot 6)]⟩, zq [4] 5 9, zq [4] 6 10, zq [5] 7 3, zq [6] 8 4] [(_,_),(_,_),(_,_)] (by kernel_rfl) rfl rfl ⟨zm rfl rfl rfl,zp rfl (op_call _ _ 35 _ _ rfl Tryz.call35 rfl (ok_verb_cutFold line (⟨#[65, 85, 84, 72, 32]⟩ : ByteArray) _ hv1) rfl rfl),zp rfl (op_move_take _ _ _ _ rfl),zp rfl (op_extract _ _ _ _ _ rfl rfl (zl rfl) rfl rfl),zp rfl (op_extract _ _ _ _ _ rfl rfl (zl rfl) rfl rfl),za rfl rfl rfl,za rfl rfl rfl,trivial⟩ ?_
  refine pt_then ?_
  refine ht_seq ?_
  refine ht_seq ?_
  refine ht_joinS h (fun (s3 : Bool) => [(40, .glob (GL mx)), (3, .v (.string v1.1)), (20, .v (.bool s3))]) ?_ ?_
  ·rintro s3 h
   refine pt_then ?_
   refine ht_cond _ rfl (fun hb7 => ?_) (fun hb7 => ?_)
   ·have h := cond_t hb7 h
    refine ht_seq ?_
    refine zh hn [_, _, _, (2, .v (.bool false))] [0,1,2] [0,3] [zq [] 3 2] [(_,_),(_,_)] (by kernel_rfl) rfl rfl ⟨za rfl rfl rfl,trivial⟩ ?_
    refine pt_then ?_
    refine ht_ret ?_
    refine pt_pick [1] (by kernel_rfl) (es' := [(_, _)]) rfl ?_
    refine pt_r_then ?_
    obtain rfl := Option.some.inj h
    exact pt_ret hio rfl (.tmp _ _ .nil) rfl rfl
   ·have h := cond_f hb7 h
    refine ht_skip ?_
    refine pt_then ?_
    refine ht_seq ?_
    refine ht_seq ?_
    refine zh hn [_, _, _, (21, .v (.string v1.1)), (22, .v (.int .i64 (v1.1.size : Int))), (23, .v (.int .i64 0))] [0,1,2] [0,1,4,5] [zq [1] 3 21, zq [3] 4 22, zq [] 5 23] [(_,_),(_,_),(_,_),(_,_)] (by kernel_rfl) rfl rfl ⟨zm rfl rfl rfl,zp rfl (op_len_str _ _ _ Tryz.underlying9 rfl),zm rfl rfl rfl,trivial⟩ ?_
    refine pt_then ?_
    refine ht_loopS h (fun (s26 : Int) => [(40, .glob (GL mx)), (3, .v (.string v1.1)), (22, .v (.int .i64 (v1.1.size : Int))), (23, .v (.int .i64 s26))]) (fun (() : Unit) => [(40, .glob (GL mx))]) ?_ ?_
    ·rintro ⟨⟩ h
     refine pt_then ?_
     refine ht_seq ?_
     refine zh hn [_, (2, .v (.bool true))] [0] [0,1] [zq [] 1 2] [(_,_),(_,_)] (by kernel_rfl) rfl rfl ⟨za rfl rfl rfl,trivial⟩ ?_
     refine pt_then ?_
     refine ht_ret ?_
     refine pt_pick [1] (by kernel_rfl) (es' := [(_, _)]) rfl ?_
     obtain rfl := Option.some.inj h
     exact pt_ret hio rfl (.tmp _ _ .nil) rfl rfl
    ·rintro u33 hl34 hr35 s26 rr38 h ho36
     refine ht_seq ?_
     refine zh hn [_, _, _, _, (24, .v (.bool ((decide (s26 < (v1.1.size : Int))))))] [0,1,2,3] [0,1,2,3,4] [zq [3,2] 4 24] [(_,_),(_,_),(_,_),(_,_),(_,_)] (by kernel_rfl) rfl rfl ⟨zo rfl rfl rfl rfl,trivial⟩ ?_
     refine pt_then ?_
     refine ht_seq ?_
     refine ht_cond _ rfl (fun hb39 => ?_) (fun hb39 => ?_)
     ·have h := cond_t hb39 h
      refine ht_skip ?_
      refine pt_then ?_
      refine ht_seq ?_
      refine ht_block ?_
      refine ht_seq ?_
      refine zh hn [_, _, _, _, _, (25, .v (.int .i64 s26)), (5, .v (.int .i64 s26))] [0,1,2,3,4] [0,1,2,3,6] [zq [3] 5 25, zq [5] 6 5] [(_,_),(_,_),(_,_),(_,_),(_,_)] (by kernel_rfl) rfl rfl ⟨zm rfl rfl rfl,za rfl rfl rfl,trivial⟩ ?_
      refine pt_then ?_
      refine ht_seq ?_
      refine ht_joinS h (fun (s40 : Bool) => [(40, .glob (GL mx)), (3, .v (.string v1.1)), (22, .v (.int .i64 (v1.1.size : Int))), (23, .v (.int .i64 s26)), (38, .v (.bool s40))]) ?_ ?_
      ·rintro s40 h
       refine pt_then ?_
       refine ht_cond _ rfl (fun hb44 => ?_) (fun hb44 => ?_)
       ·have h := cond_t hb44 h
        refine ht_seq ?_
        refine zh hn [_, _, _, _, _, (2, .v (.bool false))] [0,1,2,3,4] [0,5] [zq [] 5 2] [(_,_),(_,_)] (by kernel_rfl) rfl rfl ⟨za rfl rfl rfl,trivial⟩ ?_
        refine pt_then ?_
        refine ht_ret ?_
        refine pt_pick [1] (by kernel_rfl) (es' := [(_, _)]) rfl ?_
        refine pt_r_in ?_
        refine pt_r_then ?_
        refine pt_r_then ?_
        refine pt_r_in ?_
        refine pt_r_then ?_
        have h := hr35 _ (ho36 _ (Option.some.inj h).symm).symm
        obtain rfl := Option.some.inj h
        exact pt_ret hio rfl (.tmp _ _ .nil) rfl rfl
       ·have h := cond_f hb44 h
        refine ht_skip ?_
        refine pt_inb ?_
        refine pt_then ?_
        obtain ⟨v18, hv18, h⟩ := bind_some h
        refine zh hn [_, _, _, _, _, (39, .v (.int .i64 v18)), (23, .v (.int .i64 v18))] [0,1,2,3,4] [0,1,2,6] [zq [3] 5 39, ⟨[5], [3], [6], [(.slot 23)]⟩] [(_,_),(_,_),(_,_),(_,_)] (by kernel_rfl) rfl rfl ⟨zp rfl (op_bin _ _ _ _ _ rfl rfl (ibind (f := Value.int .i64) (Option.some.inj hv18))),zp rfl (LOp.drop [_] (op_move _ _ _ _ rfl rfl)),trivial⟩ ?_
        exact pt_next _ (Option.some.inj h).symm rfl
      ·intro u41 h hl42 hr43
       obtain ⟨v9, hv9, h⟩ := bind_some h
       refine cond_some h (fun hg7_4 h => ?_) (fun hg7_4 h => ?_)
       ·obtain ⟨v10, hv10, h⟩ := bind_some h
        obtain ⟨v11, hv11, h⟩ := bind_some h
        obtain ⟨v12, hv12, h⟩ := bind_some h
        refine zh hn (_ :: _ :: _ :: _ :: _ :: (26, .v (.string v1.1)) :: (27, .v (.int .i64 s26)) :: (28, .v (.int .u8 v9)) :: (29, .v (.bool (v9 != 45))) :: (30, .v (.bool true)) :: (31, .v (.string v1.1)) :: (32, .v (.int .i64 s26)) :: (33, .v (.int .i64 s26)) :: (34, .v (.int .i64 v10)) :: (35, .v (.string v11)) :: (36, .v (.bool v12)) :: (37, .v (.bool (!v12))) :: (38, .v (.bool (!v12))) :: []) [0,1,2,3,4] [0,1,2,3,17] [zq [1] 5 26, zq [4] 6 27, zq [5,6] 7 28, zq [7] 8 29, zq [8] 9 30, zq [9,1] 10 31, zq [9,4] 11 32, zq [9,4] 12 33, zq [9,12] 13 34, zq [9,10,11,13] 14 35, zq [9,14,0] 15 36, zq [9,15] 16 37, zq [9,16] 17 38] [(_,_),(_,_),(_,_),(_,_),(_,_)] (by kernel_rfl) rfl rfl ⟨zm rfl rfl rfl,zm rfl rfl rfl,zp rfl (op_chr _ _ _ s26 _ Tryz.underlying9 rfl rfl hv9),zo rfl rfl rfl rfl,zm rfl (zb hg7_4) rfl,zr 4 rfl rfl rfl (op_move _ _ _ _ rfl rfl),zr 4 rfl rfl rfl (op_move _ _ _ _ rfl rfl),zr 4 rfl rfl rfl (op_move _ _ _ _ rfl rfl),zr 4 rfl rfl rfl (op_bin _ _ _ _ _ rfl rfl (ibind (f := Value.int .i64) (Option.some.inj hv10))),zr 4 rfl rfl rfl (op_substr _ _ _ s26 v10 _ Tryz.underlying9 rfl ⟨_, rfl⟩ ⟨_, rfl⟩ hv11),zr 4 rfl rfl rfl (op_callG _ _ 40 37 _ _ rfl Tryz.call37 rfl rfl (fun _ h => h) (ok_path_Domain mx v11 _ hv12) rfl rfl),zr 4 rfl rfl rfl (op_un _ _ _ _ rfl rfl),zk true rfl rfl rfl,trivial⟩ ?_
        exact hl42 _ (Option.some.inj h).symm
       ·refine zh hn (_ :: _ :: _ :: _ :: _ :: (26, .v (.string v1.1)) :: (27, .v (.int .i64 s26)) :: (28, .v (.int .u8 v9)) :: (29, .v (.bool (v9 != 45))) :: (30, .v (.bool false)) :: (31, .v undef) :: (32, .v undef) :: (33, .v undef) :: (34, .v undef) :: (35, .v undef) :: (36, .v undef) :: (37, .v undef) :: (38, .v (.bool false)) :: []) [0,1,2,3,4] [0,1,2,3,17] [zq [1] 5 26, zq [4] 6 27, zq [5,6] 7 28, zq [7] 8 29, zq [8] 9 30, zq [9] 10 31, zq [9] 11 32, zq [9] 12 33, zq [9] 13 34, zq [9] 14 35, zq [9] 15 36, zq [9] 16 37, zq [9] 17 38] [(_,_),(_,_),(_,_),(_,_),(_,_)] (by kernel_rfl) rfl rfl ⟨zm rfl rfl rfl,zm rfl rfl rfl,zp rfl (op_chr _ _ _ s26 _ Tryz.underlying9 rfl rfl hv9),zo rfl rfl rfl rfl,zm rfl (zb hg7_4) rfl,zs 4 true rfl rfl rfl rfl,zs 4 true rfl rfl rfl rfl,zs 4 true rfl rfl rfl rfl,zs 4 true rfl rfl rfl rfl,zs 4 true rfl rfl rfl rfl,zs 4 true rfl rfl rfl rfl,zs 4 true rfl rfl rfl rfl,zk false rfl rfl rfl,trivial⟩ ?_
        exact hl42 _ (Option.some.inj h).symm
     ·have h := cond_f hb39 h
      refine ht_exit ?_
      refine pt_x_then ?_
      refine pt_x_then ?_
      refine pt_x_in ?_
      refine pt_pick [0] (by kernel_rfl) (es' := [(_, _)]) rfl ?_
      exact hl34 _ (ho36 _ (Option.some.inj h).symm).symm
  ·intro u4 h hl5 hr6
   refine cond_some h (fun hg2_2 h => ?_) (fun hg2_2 h => ?_)
   ·refine zh hn [_, _, _, (11, .v (.bool v1.2)), (12, .v (.bool (!v1.2))), (13, .v (.bool true)), (14, .v undef), (15, .v undef), (16, .v (.bool true)), (17, .v (.bool true)), (18, .v undef), (19, .v undef), (20, .v (.bool true))] [0,1,2] [0,1,12] [zq [2] 3 11, zq [3] 4 12, zq [4] 5 13, zq [5] 6 14, zq [5] 7 15, zq [5] 8 16, zq [8] 9 17, zq [9] 10 18, zq [9] 11 19, zq [9] 12 20] [(_,_),(_,_),(_,_)] (by kernel_rfl) rfl rfl ⟨zm rfl rfl rfl,zp rfl (op_un _ _ _ _ rfl rfl),zm rfl (zb hg2_2) rfl,zs 2 false rfl rfl rfl rfl,zs 2 false rfl rfl rfl rfl,zk true rfl rfl rfl,zm rfl rfl rfl,zs 6 false rfl rfl rfl rfl,zs 6 false rfl rfl rfl rfl,zk true rfl rfl rfl,trivial⟩ ?_
    exact hl5 _ (Option.some.inj h).symm
   ·refine cond_some h (fun hg2_6 h => ?_) (fun hg2_6 h => ?_)
    ·refine zh hn [_, _, _, (11, .v (.bool v1.2)), (12, .v (.bool (!v1.2))), (13, .v (.bool false)), (14, .v (.string v1.1)), (15, .v (.bool ((v1.1.toList == (⟨#[]⟩ : ByteArray).toList)))), (16, .v (.bool ((v1.1.toList == (⟨#[]⟩ : ByteArray).toList)))), (17, .v (.bool true)), (18, .v undef), (19, .v undef), (20, .v (.bool true))] [0,1,2] [0,1,12] [zq [2] 3 11, zq [3] 4 12, zq [4] 5 13, zq [5,1] 6 14, zq [5,6] 7 15, zq [5,7] 8 16, zq [8] 9 17, zq [9] 10 18, zq [9] 11 19, zq [9] 12 20] [(_,_),(_,_),(_,_)] (by kernel_rfl) rfl rfl ⟨zm rfl rfl rfl,zp rfl (op_un _ _ _ _ rfl rfl),zm rfl (zb hg2_2) rfl,zr 2 rfl rfl rfl (op_move _ _ _ _ rfl rfl),zr 2 rfl rfl rfl (op_bin _ _ _ _ _ rfl rfl rfl),zk false rfl rfl rfl,zm rfl (zb hg2_6) rfl,zs 6 false rfl rfl rfl rfl,zs 6 false rfl rfl rfl rfl,zk true rfl rfl rfl,trivial⟩ ?_
     exact hl5 _ (Option.some.inj h).symm
    ·obtain ⟨v2, hv2, h⟩ := bind_some h
     refine zh hn [_, _, _, (11, .v (.bool v1.2)), (12, .v (.bool (!v1.2))), (13, .v (.bool false)), (14, .v (.string v1.1)), (15, .v (.bool ((v1.1.toList == (⟨#[]⟩ : ByteArray).toList)))), (16, .v (.bool ((v1.1.toList == (⟨#[]⟩ : ByteArray).toList)))), (17, .v (.bool false)), (18, .v (.string v1.1)), (19, .v (.bool v2)), (20, .v (.bool v2))] [0,1,2] [0,1,12] [zq [2] 3 11, zq [3] 4 12, zq [4] 5 13, zq [5,1] 6 14, zq [5,6] 7 15, zq [5,7] 8 16, zq [8] 9 17, zq [9,1] 10 18, zq [9,10] 11 19, zq [9,11] 12 20] [(_,_),(_,_),(_,_)] (by kernel_rfl) rfl rfl ⟨zm rfl rfl rfl,zp rfl (op_un _ _ _ _ rfl rfl),zm rfl (zb hg2_2) rfl,zr 2 rfl rfl rfl (op_move _ _ _ _ rfl rfl),zr 2 rfl rfl rfl (op_bin _ _ _ _ _ rfl rfl rfl),zk false rfl rfl rfl,zm rfl (zb hg2_6) rfl,zr 6 rfl rfl rfl (op_move _ _ _ _ rfl rfl),zr 6 rfl rfl rfl (op_call _ _ 36 _ _ rfl Tryz.call36 rfl (ok_verb_equalFold v1.1 (⟨#[67, 82, 65, 77, 45, 77, 68, 53]⟩ : ByteArray) _ hv2) rfl rfl),zk false rfl rfl rfl,trivial⟩ ?_
     exact hl5 _ (Option.some.inj h).symm
set_option maxHeartbeats 1000000 in
theorem ok_verb_opening (kind : Int) (r : ByteArray) (h : Sh.verb_opening kind = some r) : FnOK Tryz.prog 46 [.v (.int .i64 kind)] (.v (.string r)) := by
  unfold Sh.verb_opening at h
  refine fn_ok Tryz.func46 rfl (zl rfl) rfl rfl fun g0 hn hio => ?_
  refine ht_seq ?_
  refine zh hn [_, (2, .v (.string (⟨#[]⟩ : ByteArray)))] [0] [0] [zq [] 1 2] [(_,_)] (by kernel_rfl) rfl rfl ⟨za rfl rfl rfl,trivial⟩ ?_
  refine pt_then ?_
  refine ht_seq ?_
  refine ht_seq ?_
  refine zh hn [_, (3, .v (.int .i64 kind)), (4, .v (.bool (kind == 2)))] [0] [2] [zq [0] 1 3, zq [1] 2 4] [(_,_)] (by kernel_rfl) rfl rfl ⟨zm rfl rfl rfl,zo rfl rfl rfl rfl,trivial⟩ ?_
  refine pt_then ?_
  refine ht_cond _ rfl (fun hb1 => ?_) (fun hb1 => ?_)
  ·have h := cond_t hb1 h
   refine ht_seq ?_
   refine zh hn [_, (2, .v (.string (⟨#[77, 65, 73, 76, 32, 70, 82, 79, 77, 58]⟩ : ByteArray)))] [0] [1] [zq [] 1 2] [(_,_)] (by kernel_rfl) rfl rfl ⟨za rfl rfl rfl,trivial⟩ ?_
   refine pt_then ?_
   refine ht_ret ?_
   refine pt_r_then ?_
   obtain rfl := Option.some.inj h
   exact pt_ret hio rfl (.tmp _ _ .nil) rfl rfl
  ·have h := cond_f hb1 h
   refine ht_skip ?_
   refine pt_then ?_
   refine ht_seq ?_
   refine zh hn [_, (2, .v (.string (⟨#[82, 67, 80, 84, 32, 84, 79, 58]⟩ : ByteArray)))] [0] [1] [zq [] 1 2] [(_,_)] (by kernel_rfl) rfl rfl ⟨za rfl rfl rfl,trivial⟩ ?_
   refine pt_then ?_
   refine ht_ret ?_
   obtain rfl := Option.some.inj h
   exact pt_ret hio rfl (.tmp _ _ .nil) rfl rfl
set_option maxHeartbeats 1000000 in
theorem ok_internal_stringslite_HasPrefix (s : ByteArray) (prefix_ : ByteArray) (r : Bool) (h : Sh.internal_stringslite_HasPrefix s prefix_ = some r) : FnOK Tryz.prog 88 [.v (.string s), .v (.string prefix_)] (.v (.bool r)) := by
  unfold Sh.internal_stringslite_HasPrefix at h
  refine fn_ok Tryz.func88 rfl (zl rfl) rfl rfl fun g0 hn hio => ?_
  refine ht_seq ?_
  refine zh hn [_, _, (4, .v (.bool false))] [0,1] [0,1] [zq [] 2 4] [(_,_),(_,_)] (by kernel_rfl) rfl rfl ⟨za rfl rfl rfl,trivial⟩ ?_
  refine pt_then ?_
  refine ht_seq ?_
  refine ht_joinS h (fun (s2 : Bool) => [(4, .v (.bool s2))]) ?_ ?_
  ·rintro s2 h
   refine pt_then ?_
   refine ht_ret ?_
   obtain rfl := Option.some.inj h
   exact pt_ret hio rfl (.tmp _ _ .nil) rfl rfl
  ·intro u3 h hl4 hr5
   refine cond_some h (fun hg1_5 h => ?_) (fun hg1_5 h => ?_)
   ·obtain ⟨v1, hv1, h⟩ := bind_some h
    refine zh hn (_ :: _ :: (5, .v (.string s)) :: (6, .v (.int .i64 (s.size : Int))) :: (7, .v (.string prefix_)) :: (8, .v (.int .i64 (prefix_.size : Int))) :: (9, .v (.bool ((decide ((prefix_.size : Int) ≤ (s.size : Int)))))) :: (10, .v (.bool true)) :: (11, .v (.string s)) :: (12, .v (.string prefix_)) :: (13, .v (.int .i64 (prefix_.size : Int))) :: (14, .v (.string v1)) :: (15, .v (.string prefix_)) :: (16, .v (.bool (v1.toList == prefix_.toList))) :: (17, .v (.bool (v1.toList == prefix_.toList))) :: (4, .v (.bool (v1.toList == prefix_.toList))) :: []) [0,1] [15] [zq [0] 2 5, zq [2] 3 6, zq [1] 4 7, zq [4] 5 8, zq [3,5] 6 9, zq [6] 7 10, zq [7,0] 8 11, zq [7,1] 9 12, zq [7,9] 10 13, zq [7,8,10] 11 14, zq [7,1] 12 15, zq [7,11,12] 13 16, zq [7,13] 14 17, zq [14] 15 4] [(_,_)] (by kernel_rfl) rfl rfl ⟨zm rfl rfl rfl,zp rfl (op_len_str _ _ _ Tryz.underlying9 rfl),zm rfl rfl rfl,zp rfl (op_len_str _ _ _ Tryz.underlying9 rfl),zo rfl rfl rfl rfl,zm rfl (zb hg1_5) rfl,zr 5 rfl rfl rfl (op_move _ _ _ _ rfl rfl),zr 5 rfl rfl rfl (op_move _ _ _ _ rfl rfl),zr 5 rfl rfl rfl (op_len_str _ _ _ Tryz.underlying9 rfl),zr 5 rfl rfl rfl (op_substr _ _ _ 0 (prefix_.size : Int) _ Tryz.underlying9 rfl rfl ⟨_, rfl⟩ hv1),zr 5 rfl rfl rfl (op_move _ _ _ _ rfl rfl),zr 5 rfl rfl rfl (op_bin _ _ _ _ _ rfl rfl rfl),zk true rfl rfl rfl,za rfl rfl rfl,trivial⟩ ?_
    exact hl4 _ (Option.some.inj h).symm
   ·refine zh hn (_ :: _ :: (5, .v (.string s)) :: (6, .v (.int .i64 (s.size : Int))) :: (7, .v (.string prefix_)) :: (8, .v (.int .i64 (prefix_.size : Int))) :: (9, .v (.bool ((decide ((prefix_.size : Int) ≤ (s.size : Int)))))) :: (10, .v (.bool false)) :: (11, .v undef) :: (12, .v undef) :: (13, .v undef) :: (14, .v undef) :: (15, .v undef) :: (16, .v undef) :: (17, .v (.bool false)) :: (4, .v (.bool false)) :: []) [0,1] [15] [zq [0] 2 5, zq [2] 3 6, zq [1] 4 7, zq [4] 5 8, zq [3,5] 6 9, zq [6] 7 10, zq [7] 8 11, zq [7] 9 12, zq [7] 10 13, zq [7] 11 14, zq [7] 12 15, zq [7] 13 16, zq [7] 14 17, zq [14] 15 4] [(_,_)] (by kernel_rfl) rfl rfl ⟨zm rfl rfl rfl,zp rfl (op_len_str _ _ _ Tryz.underlying9 rfl),zm rfl rfl rfl,zp rfl (op_len_str _ _ _ Tryz.underlying9 rfl),zo rfl rfl rfl rfl,zm rfl (zb hg1_5) rfl,zs 5 true rfl rfl rfl rfl,zs 5 true rfl rfl rfl rfl,zs 5 true rfl rfl rfl rfl,zs 5 true rfl rfl rfl rfl,zs 5 true rfl rfl rfl rfl,zs 5 true rfl rfl rfl rfl,zk false rfl rfl rfl,za rfl rfl rfl,trivial⟩ ?_
    exact hl4 _ (Option.some.inj h).symm
set_option maxHeartbeats 1000000 in
theorem ok_internal_stringslite_CutPrefix (s : ByteArray) (prefix_ : ByteArray) (r : (ByteArray × Bool)) (h : Sh.internal_stringslite_CutPrefix s prefix_ = some r) : FnOK Tryz.prog 78 [.v (.string s), .v (.string prefix_)] (.tup [.v (.string r.1), .v (.bool r.2)]) := by
  unfold Sh.internal_stringslite_CutPrefix at h
  refine fn_ok Tryz.func78 rfl (zl rfl) rfl rfl fun g0 hn hio => ?_
  refine ht_seq ?_
  refine zh hn [_, _, (4, .v (.string (⟨#[]⟩ : ByteArray))), (5, .v (.bool false))] [0,1] [0,1] [zq [] 2 4, zq [] 3 5] [(_,_),(_,_)] (by kernel_rfl) rfl rfl ⟨za rfl rfl rfl,za rfl rfl rfl,trivial⟩ ?_
  refine pt_then ?_
  refine ht_seq ?_
  refine ht_seq ?_
  obtain ⟨v1, hv1, h⟩ := bind_some h
  refine zh hn [_, _, (6, .v (.string s)), (7, .v (.string prefix_)), (8, .v (.bool v1)), (9, .v (.bool (!v1)))] [0,1] [0,1,5] [zq [0] 2 6, zq [1] 3 7, zq [2,3] 4 8, zq [4] 5 9] [(_,_),(_,_),(_,_)] (by kernel_rfl) rfl rfl ⟨zm rfl rfl rfl,zm rfl rfl rfl,zp rfl (op_call _ _ 88 _ _ rfl Tryz.call88 rfl (ok_internal_stringslite_HasPrefix s prefix_ _ hv1) rfl rfl),zp rfl (op_un _ _ _ _ rfl rfl),trivial⟩ ?_
  refine pt_then ?_
  refine ht_cond _ rfl (fun hb2 => ?_) (fun hb2 => ?_)
  ·have h := cond_t hb2 h
   refine ht_seq ?_
   refine zh hn [_, _, _, (10, .v (.string s)), (4, .v (.string s)), (5, .v (.bool false))] [0,1,2] [4,5] [zq [0] 3 10, zq [3] 4 4, zq [] 5 5] [(_,_),(_,_)] (by kernel_rfl) rfl rfl ⟨zm rfl rfl rfl,za rfl rfl rfl,za rfl rfl rfl,trivial⟩ ?_
   refine pt_then ?_
   refine ht_ret ?_
   refine pt_r_then ?_
   obtain rfl := Option.some.inj h
   exact pt_ret hio rfl (.tmp _ _ (.tmp _ _ .nil)) rfl rfl
  ·have h := cond_f hb2 h
   refine ht_skip ?_
   refine pt_then ?_
   refine ht_seq ?_
   obtain ⟨v3, hv3, h⟩ := bind_some h
   refine zh hn [_, _, _, (11, .v (.string s)), (12, .v (.string prefix_)), (13, .v (.int .i64 (prefix_.size : Int))), (14, .v (.string v3)), (4, .v (.string v3)), (5, .v (.bool true))] [0,1,2] [7,8] [zq [0] 3 11, zq [1] 4 12, zq [4] 5 13, zq [3,5] 6 14, zq [6] 7 4, zq [] 8 5] [(_,_),(_,_)] (by kernel_rfl) rfl rfl ⟨zm rfl rfl rfl,zm rfl rfl rfl,zp rfl (op_len_str _ _ _ Tryz.underlying9 rfl),zp rfl (op_substr _ _ _ (prefix_.size : Int) (s.size : Int) _ Tryz.underlying9 rfl ⟨_, rfl⟩ rfl hv3),za rfl rfl rfl,za rfl rfl rfl,trivial⟩ ?_
   refine pt_then ?_
   refine ht_ret ?_
   obtain rfl := Option.some.inj h
   exact pt_ret hio rfl (.tmp _ _ (.tmp _ _ .nil)) rfl rfl
set_option maxHeartbeats 1000000 in
theorem ok_strings_CutPrefix (s : ByteArray) (prefix_ : ByteArray) (r : (ByteArray × Bool)) (h : Sh.strings_CutPrefix s prefix_ = some r) : FnOK Tryz.prog 65 [.v (.string s), .v (.string prefix_)] (.tup [.v (.string r.1), .v (.bool r.2)]) := by
  unfold Sh.strings_CutPrefix at h
  refine fn_ok Tryz.func65 rfl (zl rfl) rfl rfl fun g0 hn hio => ?_
  refine ht_seq ?_
  refine zh hn [_, _, (4, .v (.string (⟨#[]⟩ : ByteArray))), (5, .v (.bool false))] [0,1] [0,1] [zq [] 2 4, zq [] 3 5] [(_,_),(_,_)] (by kernel_rfl) rfl rfl ⟨za rfl rfl rfl,za rfl rfl rfl,trivial⟩ ?_
  refine pt_then ?_
  refine ht_seq ?_
  obtain ⟨v1, hv1, h⟩ := bind_some h
  refine zh hn [_, _, (6, .v (.string s)), (7, .v (.string prefix_)), (8, .tup [.v (.string v1.1), .v (.bool v1.2)]), (9, .v (.string v1.1)), (10, .v (.bool v1.2)), (4, .v (.string v1.1)), (5, .v (.bool v1.2))] [0,1] [7,8] [zq [0] 2 6, zq [1] 3 7, zq [2,3] 4 8, zq [4] 5 9, zq [4] 6 10, zq [5] 7 4, zq [6] 8 5] [(_,_),(_,_)] (by kernel_rfl) rfl rfl ⟨zm rfl rfl rfl,zm rfl rfl rfl,zp rfl (op_call _ _ 78 _ _ rfl Tryz.call78 rfl (ok_internal_stringslite_CutPrefix s prefix_ _ hv1) rfl rfl),zp rfl (op_extract _ _ _ _ _ rfl rfl (zl rfl) rfl rfl),zp rfl (op_extract _ _ _ _ _ rfl rfl (zl rfl) rfl rfl),za rfl rfl rfl,za rfl rfl rfl,trivial⟩ ?_
  refine pt_then ?_
  refine ht_ret ?_
  obtain rfl := Option.some.inj h
  exact pt_ret hio rfl (.tmp _ _ (.tmp _ _ .nil)) rfl rfl
end Go.Proofs.YthfmdofkkkpbkaaGreatDoor
