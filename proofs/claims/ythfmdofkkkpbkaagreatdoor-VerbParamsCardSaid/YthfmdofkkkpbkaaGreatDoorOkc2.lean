/-
  The model's runs are what is told in Lean.
-/
import Derived.Test.YthfmdofkkkpbkaaGreatDoorProg
import Derived.KernelRfl
import Derived.Test.YthfmdofkkkpbkaaGreatDoorShelf
import Derived.Test.YthfmdofkkkpbkaaGreatDoorOkc1
set_option linter.unusedVariables false
set_option linter.unusedSimpArgs false
namespace Go.Proofs.YthfmdofkkkpbkaaGreatDoor
open Go.Abs Go.Abs.Sh
set_option maxHeartbeats 1000000 in
theorem ok_internal_stringslite_HasSuffix (s : ByteArray) (suffix : ByteArray) (r : Bool) (h : Sh.internal_stringslite_HasSuffix s suffix = some r) : FnOK Tryz.prog 89 [.v (.string s), .v (.string suffix)] (.v (.bool r)) := by
  unfold Sh.internal_stringslite_HasSuffix at h
  refine fn_ok Tryz.func89 rfl (zl rfl) rfl rfl fun g0 hn hio => ?_
  refine ht_seq ?_
  refine zh hn [_, _, (4, .v (.bool false))] [0,1] [0,1] [zq [] 2 4] [(_,_),(_,_)] (by kernel_rfl) rfl rfl ⟨za rfl rfl rfl,trivial⟩ ?_
  refine pt_then ?_
  refine ht_seq ?_
  refine ht_joinS h (fun (s3 : Bool) => [(4, .v (.bool s3))]) ?_ ?_
  ·rintro s3 h
   refine pt_then ?_
   refine ht_ret ?_
   obtain rfl := Option.some.inj h
   exact pt_ret hio rfl (.tmp _ _ .nil) rfl rfl
  ·intro u4 h hl5 hr6
   refine cond_some h (fun hg1_5 h => ?_) (fun hg1_5 h => ?_)
   ·obtain ⟨v1, hv1, h⟩ := bind_some h
    obtain ⟨v2, hv2, h⟩ := bind_some h
    refine zh hn (_ :: _ :: (5, .v (.string s)) :: (6, .v (.int .i64 (s.size : Int))) :: (7, .v (.string suffix)) :: (8, .v (.int .i64 (suffix.size : Int))) :: (9, .v (.bool ((decide ((suffix.size : Int) ≤ (s.size : Int)))))) :: (10, .v (.bool true)) :: (11, .v (.string s)) :: (12, .v (.string s)) :: (13, .v (.int .i64 (s.size : Int))) :: (14, .v (.string suffix)) :: (15, .v (.int .i64 (suffix.size : Int))) :: (16, .v (.int .i64 v1)) :: (17, .v (.string v2)) :: (18, .v (.string suffix)) :: (19, .v (.bool (v2.toList == suffix.toList))) :: (20, .v (.bool (v2.toList == suffix.toList))) :: (4, .v (.bool (v2.toList == suffix.toList))) :: []) [0,1] [18] (zq [0] 2 5 :: zq [2] 3 6 :: zq [1] 4 7 :: zq [4] 5 8 :: zq [3,5] 6 9 :: zq [6] 7 10 :: zq [7,0] 8 11 :: zq [7,0] 9 12 :: zq [7,9] 10 13 :: zq [7,1] 11 14 :: zq [7,11] 12 15 :: zq [7,10,12] 13 16 :: zq [7,8,13] 14 17 :: zq [7,1] 15 18 :: zq [7,14,15] 16 19 :: zq [7,16] 17 20 :: zq [17] 18 4 :: []) [(_,_)] (by kernel_rfl) rfl rfl ⟨zm rfl rfl rfl,zp rfl (op_len_str _ _ _ Tryz.underlying9 rfl),zm rfl rfl rfl,zp rfl (op_len_str _ _ _ Tryz.underlying9 rfl),zo rfl rfl rfl rfl,zm rfl (zb hg1_5) rfl,zr 5 rfl rfl rfl (op_move _ _ _ _ rfl rfl),zr 5 rfl rfl rfl (op_move _ _ _ _ rfl rfl),zr 5 rfl rfl rfl (op_len_str _ _ _ Tryz.underlying9 rfl),zr 5 rfl rfl rfl (op_move _ _ _ _ rfl rfl),zr 5 rfl rfl rfl (op_len_str _ _ _ Tryz.underlying9 rfl),zr 5 rfl rfl rfl (op_bin _ _ _ _ _ rfl rfl (ibind (f := Value.int .i64) (Option.some.inj hv1))),zr 5 rfl rfl rfl (op_substr _ _ _ v1 (s.size : Int) _ Tryz.underlying9 rfl ⟨_, rfl⟩ rfl hv2),zr 5 rfl rfl rfl (op_move _ _ _ _ rfl rfl),zr 5 rfl rfl rfl (op_bin _ _ _ _ _ rfl rfl rfl),zk true rfl rfl rfl,za rfl rfl rfl,trivial⟩ ?_
    exact hl5 _ (Option.some.inj h).symm
   ·refine zh hn (_ :: _ :: (5, .v (.string s)) :: (6, .v (.int .i64 (s.size : Int))) :: (7, .v (.string suffix)) :: (8, .v (.int .i64 (suffix.size : Int))) :: (9, .v (.bool ((decide ((suffix.size : Int) ≤ (s.size : Int)))))) :: (10, .v (.bool false)) :: (11, .v undef) :: (12, .v undef) :: (13, .v undef) :: (14, .v undef) :: (15, .v undef) :: (16, .v undef) :: (17, .v undef) :: (18, .v undef) :: (19, .v undef) :: (20, .v (.bool false)) :: (4, .v (.bool false)) :: []) [0,1] [18] (zq [0] 2 5 :: zq [2] 3 6 :: zq [1] 4 7 :: zq [4] 5 8 :: zq [3,5] 6 9 :: zq [6] 7 10 :: zq [7] 8 11 :: zq [7] 9 12 :: zq [7] 10 13 :: zq [7] 11 14 :: zq [7] 12 15 :: zq [7] 13 16 :: zq [7] 14 17 :: zq [7] 15 18 :: zq [7] 16 19 :: zq [7] 17 20 :: zq [17] 18 4 :: []) [(_,_)] (by kernel_rfl) rfl rfl ⟨zm rfl rfl rfl,zp rfl (op_len_str _ _ _ Tryz.underlying9 rfl),zm rfl rfl rfl,zp rfl (op_len_str _ _ _ Tryz.underlying9 rfl),zo rfl rfl rfl rfl,zm rfl (zb hg1_5) rfl,zs 5 true rfl rfl rfl rfl,zs 5 true rfl rfl rfl rfl,zs 5 true rfl rfl rfl rfl,zs 5 true rfl rfl rfl rfl,zs 5 true rfl rfl rfl rfl,zs 5 true rfl rfl rfl rfl,zs 5 true rfl rfl rfl rfl,zs 5 true rfl rfl rfl rfl,zs 5 true rfl rfl rfl rfl,zk false rfl rfl rfl,za rfl rfl rfl,trivial⟩ ?_
    exact hl5 _ (Option.some.inj h).symm
set_option maxHeartbeats 1000000 in
theorem ok_internal_stringslite_CutSuffix (s : ByteArray) (suffix : ByteArray) (r : (ByteArray × Bool)) (h : Sh.internal_stringslite_CutSuffix s suffix = some r) : FnOK Tryz.prog 79 [.v (.string s), .v (.string suffix)] (.tup [.v (.string r.1), .v (.bool r.2)]) := by
  unfold Sh.internal_stringslite_CutSuffix at h
  refine fn_ok Tryz.func79 rfl (zl rfl) rfl rfl fun g0 hn hio => ?_
  refine ht_seq ?_
  refine zh hn [_, _, (4, .v (.string (⟨#[]⟩ : ByteArray))), (5, .v (.bool false))] [0,1] [0,1] [zq [] 2 4, zq [] 3 5] [(_,_),(_,_)] (by kernel_rfl) rfl rfl ⟨za rfl rfl rfl,za rfl rfl rfl,trivial⟩ ?_
  refine pt_then ?_
  refine ht_seq ?_
  refine ht_seq ?_
  obtain ⟨v1, hv1, h⟩ := bind_some h
  refine zh hn [_, _, (6, .v (.string s)), (7, .v (.string suffix)), (8, .v (.bool v1)), (9, .v (.bool (!v1)))] [0,1] [0,1,5] [zq [0] 2 6, zq [1] 3 7, zq [2,3] 4 8, zq [4] 5 9] [(_,_),(_,_),(_,_)] (by kernel_rfl) rfl rfl ⟨zm rfl rfl rfl,zm rfl rfl rfl,zp rfl (op_call _ _ 89 _ _ rfl Tryz.call89 rfl (ok_internal_stringslite_HasSuffix s suffix _ hv1) rfl rfl),zp rfl (op_un _ _ _ _ rfl rfl),trivial⟩ ?_
  refine pt_then ?_
  refine ht_cond _ rfl (fun hb2 => ?_) (fun hb2 => ?_)
  ·have h := cond_t hb2 h
   refine ht_seq ?_
   refine zh hn [_, _, _, (10, .v (.string s)), (4, .v (.string s)), (5, .v (.bool false))] [0,1,2] [4,5] [zq [0] 3 10, zq [3] 4 4, zq [] 5 5] [(_,_),(_,_)] (by kernel_rfl) rfl rfl ⟨zm rfl rfl rfl,za rfl rfl rfl,za rfl rfl rfl,trivial⟩ ?_
   refine pt_then ?_
   refine ht_ret ?_
   refine pt_r_then ?_
   obtain rfl := Option.some.inj h
   exact pt_ret hio rfl (.tmp _ _ (.tmp _ _ .nil)) rfl rfl
  ·have h := cond_f hb2 h
   refine ht_skip ?_
   refine pt_then ?_
   refine ht_seq ?_
   obtain ⟨v3, hv3, h⟩ := bind_some h
   obtain ⟨v4, hv4, h⟩ := bind_some h
   refine zh hn [_, _, _, (11, .v (.string s)), (12, .v (.string s)), (13, .v (.int .i64 (s.size : Int))), (14, .v (.string suffix)), (15, .v (.int .i64 (suffix.size : Int))), (16, .v (.int .i64 v3)), (17, .v (.string v4)), (4, .v (.string v4)), (5, .v (.bool true))] [0,1,2] [10,11] [zq [0] 3 11, zq [0] 4 12, zq [4] 5 13, zq [1] 6 14, zq [6] 7 15, zq [5,7] 8 16, zq [3,8] 9 17, zq [9] 10 4, zq [] 11 5] [(_,_),(_,_)] (by kernel_rfl) rfl rfl ⟨zm rfl rfl rfl,zm rfl rfl rfl,zp rfl (op_len_str _ _ _ Tryz.underlying9 rfl),zm rfl rfl rfl,zp rfl (op_len_str _ _ _ Tryz.underlying9 rfl),zp rfl (op_bin _ _ _ _ _ rfl rfl (ibind (f := Value.int .i64) (Option.some.inj hv3))),zp rfl (op_substr _ _ _ 0 v3 _ Tryz.underlying9 rfl rfl ⟨_, rfl⟩ hv4),za rfl rfl rfl,za rfl rfl rfl,trivial⟩ ?_
   refine pt_then ?_
   refine ht_ret ?_
   obtain rfl := Option.some.inj h
   exact pt_ret hio rfl (.tmp _ _ (.tmp _ _ .nil)) rfl rfl
set_option maxHeartbeats 1000000 in
theorem ok_strings_CutSuffix (s : ByteArray) (suffix : ByteArray) (r : (ByteArray × Bool)) (h : Sh.strings_CutSuffix s suffix = some r) : FnOK Tryz.prog 66 [.v (.string s), .v (.string suffix)] (.tup [.v (.string r.1), .v (.bool r.2)]) := by
  unfold Sh.strings_CutSuffix at h
  refine fn_ok Tryz.func66 rfl (zl rfl) rfl rfl fun g0 hn hio => ?_
  refine ht_seq ?_
  refine zh hn [_, _, (4, .v (.string (⟨#[]⟩ : ByteArray))), (5, .v (.bool false))] [0,1] [0,1] [zq [] 2 4, zq [] 3 5] [(_,_),(_,_)] (by kernel_rfl) rfl rfl ⟨za rfl rfl rfl,za rfl rfl rfl,trivial⟩ ?_
  refine pt_then ?_
  refine ht_seq ?_
  obtain ⟨v1, hv1, h⟩ := bind_some h
  refine zh hn [_, _, (6, .v (.string s)), (7, .v (.string suffix)), (8, .tup [.v (.string v1.1), .v (.bool v1.2)]), (9, .v (.string v1.1)), (10, .v (.bool v1.2)), (4, .v (.string v1.1)), (5, .v (.bool v1.2))] [0,1] [7,8] [zq [0] 2 6, zq [1] 3 7, zq [2,3] 4 8, zq [4] 5 9, zq [4] 6 10, zq [5] 7 4, zq [6] 8 5] [(_,_),(_,_)] (by kernel_rfl) rfl rfl ⟨zm rfl rfl rfl,zm rfl rfl rfl,zp rfl (op_call _ _ 79 _ _ rfl Tryz.call79 rfl (ok_internal_stringslite_CutSuffix s suffix _ hv1) rfl rfl),zp rfl (op_extract _ _ _ _ _ rfl rfl (zl rfl) rfl rfl),zp rfl (op_extract _ _ _ _ _ rfl rfl (zl rfl) rfl rfl),za rfl rfl rfl,za rfl rfl rfl,trivial⟩ ?_
  refine pt_then ?_
  refine ht_ret ?_
  obtain rfl := Option.some.inj h
  exact pt_ret hio rfl (.tmp _ _ (.tmp _ _ .nil)) rfl rfl
theorem ok_strings_IndexByte (s : ByteArray) (c r : Int) (h : Sh.strings_IndexByte s c = some r) : FnOK Tryz.prog 92 [.v (.string s), .v (.int .u8 c)] (.v (.int .i64 r)) := lib_strings_IndexByte Tryz.strings_IndexByte s c r h
set_option maxHeartbeats 1000000 in
theorem ok_path_atom_1 (c : Int) (r : Bool) (h : Sh.path_atom_1 c = some r) : FnOK Tryz.prog 91 [.v (.int .u8 c)] (.v (.bool r)) := by
  unfold Sh.path_atom_1 at h
  refine fn_ok Tryz.func91 rfl (zl rfl) rfl rfl fun g0 hn hio => ?_
  refine ht_seq ?_
  refine zh hn [_, (2, .v (.bool false))] [0] [0] [zq [] 1 2] [(_,_)] (by kernel_rfl) rfl rfl ⟨za rfl rfl rfl,trivial⟩ ?_
  refine pt_then ?_
  refine ht_seq ?_
  refine ht_joinS h (fun (s3 : Bool) => [(2, .v (.bool s3))]) ?_ ?_
  ·rintro s3 h
   refine pt_then ?_
   refine ht_ret ?_
   obtain rfl := Option.some.inj h
   exact pt_ret hio rfl (.tmp _ _ .nil) rfl rfl
  ·intro u4 h hl5 hr6
   obtain ⟨v1, hv1, h⟩ := bind_some h
   refine cond_some h (fun hg1_2 h => ?_) (fun hg1_2 h => ?_)
   ·refine zh hn [_, (3, .v (.int .u8 c)), (4, .v (.bool v1)), (5, .v (.bool true)), (6, .v undef), (7, .v undef), (8, .v undef), (9, .v (.bool true)), (2, .v (.bool true))] [0] [8] [zq [0] 1 3, zq [1] 2 4, zq [2] 3 5, zq [3] 4 6, zq [3] 5 7, zq [3] 6 8, zq [3] 7 9, zq [7] 8 2] [(_,_)] (by kernel_rfl) rfl rfl ⟨zm rfl rfl rfl,zp rfl (op_call _ _ 64 _ _ rfl Tryz.call64 rfl (ok_path_alphanumeric c _ hv1) rfl rfl),zm rfl (zb hg1_2) rfl,zs 2 false rfl rfl rfl rfl,zs 2 false rfl rfl rfl rfl,zs 2 false rfl rfl rfl rfl,zk true rfl rfl rfl,za rfl rfl rfl,trivial⟩ ?_
    exact hl5 _ (Option.some.inj h).symm
   ·obtain ⟨v2, hv2, h⟩ := bind_some h
    refine zh hn [_, (3, .v (.int .u8 c)), (4, .v (.bool v1)), (5, .v (.bool false)), (6, .v (.int .u8 c)), (7, .v (.int .i64 v2)), (8, .v (.bool ((decide (0 ≤ v2))))), (9, .v (.bool ((decide (0 ≤ v2))))), (2, .v (.bool ((decide (0 ≤ v2)))))] [0] [8] [zq [0] 1 3, zq [1] 2 4, zq [2] 3 5, zq [3,0] 4 6, zq [3,4] 5 7, zq [3,5] 6 8, zq [3,6] 7 9, zq [7] 8 2] [(_,_)] (by kernel_rfl) rfl rfl ⟨zm rfl rfl rfl,zp rfl (op_call _ _ 64 _ _ rfl Tryz.call64 rfl (ok_path_alphanumeric c _ hv1) rfl rfl),zm rfl (zb hg1_2) rfl,zr 2 rfl rfl rfl (op_move _ _ _ _ rfl rfl),zr 2 rfl rfl rfl (op_call _ _ 92 _ _ rfl Tryz.call92 rfl (ok_strings_IndexByte (⟨#[33, 35, 36, 37, 38, 39, 42, 43, 45, 47, 61, 63, 94, 95, 96, 123, 124, 125, 126]⟩ : ByteArray) c _ hv2) rfl rfl),zr 2 rfl rfl rfl (op_bin _ _ _ _ _ rfl rfl rfl),zk false rfl rfl rfl,za rfl rfl rfl,trivial⟩ ?_
    exact hl5 _ (Option.some.inj h).symm
set_option maxHeartbeats 1000000 in
theorem ok_path_all_of_path_atom_1 (s : ByteArray) (r : Bool) (h : Sh.path_all_of_path_atom_1 s = some r) : FnOK Tryz.prog 62 [.v (.string s), .v (.func (.func 91) #[] #[])] (.v (.bool r)) := by
  unfold Sh.path_all_of_path_atom_1 at h
  refine fn_ok Tryz.func62 rfl (zl rfl) rfl rfl fun g0 hn hio => ?_
  refine ht_seq ?_
  refine zh hn [_, _, (4, .v (.bool false))] [0,1] [0,1] [zq [] 2 4] [(_,_),(_,_)] (by kernel_rfl) rfl rfl ⟨za rfl rfl rfl,trivial⟩ ?_
  refine pt_then ?_
  refine ht_seq ?_
  refine ht_seq ?_
  refine zh hn [_, _, (6, .v (.string s)), (7, .v (.int .i64 (s.size : Int))), (8, .v (.int .i64 0))] [0,1] [0,1,3,4] [zq [0] 2 6, zq [2] 3 7, zq [] 4 8] [(_,_),(_,_),(_,_),(_,_)] (by kernel_rfl) rfl rfl ⟨zm rfl rfl rfl,zp rfl (op_len_str _ _ _ Tryz.underlying9 rfl),zm rfl rfl rfl,trivial⟩ ?_
  refine pt_then ?_
  refine ht_loopS h (fun (s9 : Int) => [(0, .v (.string s)), (1, .v (.func (.func 91) #[] #[])), (7, .v (.int .i64 (s.size : Int))), (8, .v (.int .i64 s9))]) (fun (() : Unit) => []) ?_ ?_
  ·rintro ⟨⟩ h
   refine pt_then ?_
   refine ht_seq ?_
   refine zh hn [(4, .v (.bool true))] [] [0] [zq [] 0 4] [(_,_)] (by kernel_rfl) rfl rfl ⟨za rfl rfl rfl,trivial⟩ ?_
   refine pt_then ?_
   refine ht_ret ?_
   obtain rfl := Option.some.inj h
   exact pt_ret hio rfl (.tmp _ _ .nil) rfl rfl
  ·rintro u12 hl13 hr14 s9 rr17 h ho15
   refine ht_seq ?_
   refine zh hn [_, _, _, _, (9, .v (.bool ((decide (s9 < (s.size : Int))))))] [0,1,2,3] [0,1,2,3,4] [zq [3,2] 4 9] [(_,_),(_,_),(_,_),(_,_),(_,_)] (by kernel_rfl) rfl rfl ⟨zo rfl rfl rfl rfl,trivial⟩ ?_
   refine pt_then ?_
   refine ht_seq ?_
   refine ht_cond _ rfl (fun hb18 => ?_) (fun hb18 => ?_)
   ·have h := cond_t hb18 h
    refine ht_skip ?_
    refine pt_then ?_
    refine ht_seq ?_
    refine ht_block ?_
    refine ht_seq ?_
    refine zh hn [_, _, _, _, _, (10, .v (.int .i64 s9)), (5, .v (.int .i64 s9))] [0,1,2,3,4] [0,1,2,3,6] [zq [3] 5 10, zq [5] 6 5] [(_,_),(_,_),(_,_),(_,_),(_,_)] (by kernel_rfl) rfl rfl ⟨zm rfl rfl rfl,za rfl rfl rfl,trivial⟩ ?_
    refine pt_then ?_
    refine ht_seq ?_
    obtain ⟨v2, hv2, h⟩ := bind_some h
    obtain ⟨v3, hv3, h⟩ := bind_some h
    refine zh hn [_, _, _, _, _, (11, .v (.func (.func 91) #[] #[])), (12, .v (.string s)), (13, .v (.int .i64 s9)), (14, .v (.int .u8 v2)), (15, .v (.bool v3)), (16, .v (.bool (!v3)))] [0,1,2,3,4] [0,1,2,3,10] [zq [1] 5 11, zq [0] 6 12, zq [4] 7 13, zq [6,7] 8 14, zq [8,5] 9 15, zq [9] 10 16] [(_,_),(_,_),(_,_),(_,_),(_,_)] (by kernel_rfl) rfl rfl ⟨zm rfl rfl rfl,zm rfl rfl rfl,zm rfl rfl rfl,zp rfl (op_chr _ _ _ s9 _ Tryz.underlying9 rfl rfl hv2),zp rfl (op_call _ _ 91 _ _ rfl Tryz.call91 rfl (ok_path_atom_1 v2 _ hv3) rfl rfl),zp rfl (op_un _ _ _ _ rfl rfl),trivial⟩ ?_
    refine pt_then ?_
    refine ht_cond _ rfl (fun hb19 => ?_) (fun hb19 => ?_)
    ·have h := cond_t hb19 h
     refine ht_seq ?_
     refine zh hn [_, _, _, _, _, (4, .v (.bool false))] [0,1,2,3,4] [5] [zq [] 5 4] [(_,_)] (by kernel_rfl) rfl rfl ⟨za rfl rfl rfl,trivial⟩ ?_
     refine pt_then ?_
     refine ht_ret ?_
     refine pt_r_in ?_
     refine pt_r_then ?_
     refine pt_r_then ?_
     refine pt_r_in ?_
     refine pt_r_then ?_
     have h := hr14 _ (ho15 _ (Option.some.inj h).symm).symm
     obtain rfl := Option.some.inj h
     exact pt_ret hio rfl (.tmp _ _ .nil) rfl rfl
    ·have h := cond_f hb19 h
     refine ht_skip ?_
     refine pt_inb ?_
     refine pt_then ?_
     obtain ⟨v5, hv5, h⟩ := bind_some h
     refine zh hn [_, _, _, _, _, (17, .v (.int .i64 v5)), (8, .v (.int .i64 v5))] [0,1,2,3,4] [0,1,2,6] [zq [3] 5 17, ⟨[5], [3], [6], [(.slot 8)]⟩] [(_,_),(_,_),(_,_),(_,_)] (by kernel_rfl) rfl rfl ⟨zp rfl (op_bin _ _ _ _ _ rfl rfl (ibind (f := Value.int .i64) (Option.some.inj hv5))),zp rfl (LOp.drop [_] (op_move _ _ _ _ rfl rfl)),trivial⟩ ?_
     exact pt_next _ (Option.some.inj h).symm rfl
   ·have h := cond_f hb18 h
    refine ht_exit ?_
    refine pt_x_then ?_
    refine pt_x_then ?_
    refine pt_x_in ?_
    refine pt_pick [] (by kernel_rfl) (es' := []) rfl ?_
    exact hl13 _ (ho15 _ (Option.some.inj h).symm).symm
set_option maxHeartbeats 1000000 in
theorem ok_path_atom (s : ByteArray) (r : Bool) (h : Sh.path_atom s = some r) : FnOK Tryz.prog 83 [.v (.string s)] (.v (.bool r)) := by
  unfold Sh.path_atom at h
  refine fn_ok Tryz.func83 rfl (zl rfl) rfl rfl fun g0 hn hio => ?_
  refine ht_seq ?_
  refine zh hn [_, (2, .v (.bool false))] [0] [0] [zq [] 1 2] [(_,_)] (by kernel_rfl) rfl rfl ⟨za rfl rfl rfl,trivial⟩ ?_
  refine pt_then ?_
  refine ht_seq ?_
  refine ht_joinS h (fun (s2 : Bool) => [(2, .v (.bool s2))]) ?_ ?_
  ·rintro s2 h
   refine pt_then ?_
   refine ht_ret ?_
   obtain rfl := Option.some.inj h
   exact pt_ret hio rfl (.tmp _ _ .nil) rfl rfl
  ·intro u3 h hl4 hr5
   refine cond_some h (fun hg1_2 h => ?_) (fun hg1_2 h => ?_)
   ·obtain ⟨v1, hv1, h⟩ := bind_some h
    refine zh hn [_, (3, .v (.string s)), (4, .v (.bool ((!(s.toList == (⟨#[]⟩ : ByteArray).toList))))), (5, .v (.bool true)), (6, .v (.string s)), (7, .v (.bool v1)), (8, .v (.bool v1)), (2, .v (.bool v1))] [0] [7] [zq [0] 1 3, zq [1] 2 4, zq [2] 3 5, zq [3,0] 4 6, zq [3,4] 5 7, zq [3,5] 6 8, zq [6] 7 2] [(_,_)] (by kernel_rfl) rfl rfl ⟨zm rfl rfl rfl,zo rfl rfl rfl rfl,zm rfl (zb hg1_2) rfl,zr 2 rfl rfl rfl (op_move _ _ _ _ rfl rfl),zr 2 rfl rfl rfl (op_call _ _ 62 _ _ rfl Tryz.call62 rfl (ok_path_all_of_path_atom_1 s _ hv1) rfl rfl),zk true rfl rfl rfl,za rfl rfl rfl,trivial⟩ ?_
    exact hl4 _ (Option.some.inj h).symm
   ·refine zh hn [_, (3, .v (.string s)), (4, .v (.bool ((!(s.toList == (⟨#[]⟩ : ByteArray).toList))))), (5, .v (.bool false)), (6, .v undef), (7, .v undef), (8, .v (.bool false)), (2, .v (.bool false))] [0] [7] [zq [0] 1 3, zq [1] 2 4, zq [2] 3 5, zq [3] 4 6, zq [3] 5 7, zq [3] 6 8, zq [6] 7 2] [(_,_)] (by kernel_rfl) rfl rfl ⟨zm rfl rfl rfl,zo rfl rfl rfl rfl,zm rfl (zb hg1_2) rfl,zs 2 true rfl rfl rfl rfl,zs 2 true rfl rfl rfl rfl,zk false rfl rfl rfl,za rfl rfl rfl,trivial⟩ ?_
    exact hl4 _ (Option.some.inj h).symm
set_option maxHeartbeats 1000000 in
theorem ok_path_dotted_of_path_atom (mx : Int) (s : ByteArray) (r : Bool) (h : Sh.path_dotted_of_path_atom s = some r) : FnG Tryz.prog (GL mx) 51 [.v (.string s), .v (.func (.func 83) #[] #[])] (.v (.bool r)) := by
  unfold Sh.path_dotted_of_path_atom at h
  refine fn_okG Tryz.func51 rfl (zl rfl) rfl rfl fun g0 hn hio => ?_
  refine ht_seq ?_
  refine zh hn [_, _, _, (3, .box 48 [.v (.func (.func 83) #[] #[])]), (4, .box 4 [.v (.bool false)])] [0,1,2] [0,2,3,4] [zq [1] 3 3, zq [] 4 4] [(_,_),(_,_),(_,_),(_,_)] (by kernel_rfl) rfl rfl ⟨zp rfl (op_box _ _ _ _ rfl rfl rfl),zp rfl (op_alloc _ _ zr4),trivial⟩ ?_
  refine pt_then ?_
  refine ht_seq ?_
  refine ht_seq ?_
  obtain ⟨v1, hv1, h⟩ := bind_some h
  refine zh hn [_, _, _, _, (6, .v (.string s)), (7, .cloB 86 [.box 9 [.v (.string v1.1)], .box 9 [.v (.string v1.2.1)], .box 3 [.v (.int .i64 v1.2.2)]])] [0,1,2,3] [1,2,3,5] [zq [0] 4 6, zq [4] 5 7] [(_,_),(_,_),(_,_),(_,_)] (by kernel_rfl) rfl rfl ⟨zm rfl rfl rfl,zp rfl (op_callS _ _ 61 _ _ rfl Tryz.call61 rfl rfl (ok_strings_SplitSeq s (⟨#[46]⟩ : ByteArray) _ hv1) rfl),trivial⟩ ?_
  refine pt_then ?_
  refine ht_block ?_
  refine ht_pick [3, 0, 1, 2] (by kernel_rfl) (es' := [(7, .cloB 86 [.box 9 [.v (.string v1.1)], .box 9 [.v (.string v1.2.1)], .box 3 [.v (.int .i64 v1.2.2)]]), (13, .glob (GL mx)), (3, .box 48 [.v (.func (.func 83) #[] #[])]), (4, .box 4 [.v (.bool false)])]) rfl ?_
  refine ht_rangeF h 86 7 8 14 _ [13, 3, 4] Tryz.call86 (fun (() : Unit) => [(13, .glob (GL mx)), (3, .box 48 [.v (.func (.func 83) #[] #[])]), (4, .box 4 [.v (.bool false)])]) (fun (() : Unit) => [(13, .glob (GL mx)), (3, .box 48 [.v (.func (.func 83) #[] #[])]), (4, .box 4 [.v (.bool false)])]) (fun l J Y hY t t' h => ok_strings_splitSeq_1 mx l J Y hY v1.1 v1.2.1 v1.2.2 t t' h) hn rfl (fun _ => rfl) (fun _ => rfl) (fun _ => rfl) rfl rfl (fun _ => ⟨rfl, rfl⟩) rfl (glIn_look 13 rfl) ?_ ?_ ?_
  ·rintro kk g0 hn hio x ⟨⟩ u h
   refine ht_es (es' := [(8, .v (.string x)), (13, .glob (GL mx)), (3, .box 48 [.v (.func (.func 83) #[] #[])]), (4, .box 4 [.v (.bool false)]), (13, .v (kk.tm.getD 13 undef)), (3, .v (kk.tm.getD 3 undef)), (4, .v (kk.tm.getD 4 undef)), (14, .inv kk.ready)]) rfl ?_
   refine zh hn [_, _, _, _, _, _, _, _, (5, .v (.string x))] [0,1,2,3,4,5,6,7] [1,2,3,4,5,6,7,8] [zq [0] 8 5] [(_,_),(_,_),(_,_),(_,_),(_,_),(_,_),(_,_),(_,_)] (by kernel_rfl) rfl rfl ⟨za rfl rfl rfl,trivial⟩ ?_
   refine pt_pick [0, 1, 2, 3, 4, 5, 7, 6] (by kernel_rfl) (es' := [(13, .glob (GL mx)), (3, .box 48 [.v (.func (.func 83) #[] #[])]), (4, .box 4 [.v (.bool false)]), (13, .v (kk.tm.getD 13 undef)), (3, .v (kk.tm.getD 3 undef)), (4, .v (kk.tm.getD 4 undef)), (5, .v (.string x)), (14, .inv kk.ready)]) rfl ?_
   refine pt_begin (es := [(13, .glob (GL mx)), (3, .box 48 [.v (.func (.func 83) #[] #[])]), (4, .box 4 [.v (.bool false)]), (13, .v (kk.tm.getD 13 undef)), (3, .v (kk.tm.getD 3 undef)), (4, .v (kk.tm.getD 4 undef)), (5, .v (.string x))]) 14 rfl ?_
   refine ht_block ?_
   refine ht_seq ?_
   obtain ⟨v2, hv2, h⟩ := bind_some h
   refine zh hn [_, _, _, _, _, _, _, _, (9, .v (.func (.func 83) #[] #[])), (10, .v (.string x)), (11, .v (.bool v2)), (12, .v (.bool (!v2)))] [0,1,2,3,4,5,6,7] [0,1,2,3,4,5,7,11] [zq [1] 8 9, zq [6] 9 10, zq [9,8] 10 11, zq [10] 11 12] [(_,_),(_,_),(_,_),(_,_),(_,_),(_,_),(_,_),(_,_)] (by kernel_rfl) rfl rfl ⟨zp rfl (op_load _ _ _ _ _ _ Tryz.underlying48 rfl rfl rfl (zl rfl) rfl rfl rfl),zm rfl rfl rfl,zp rfl (op_call _ _ 83 _ _ rfl Tryz.call83 rfl (ok_path_atom x _ hv2) rfl rfl),zp rfl (op_un _ _ _ _ rfl rfl),trivial⟩ ?_
   refine pt_then ?_
   refine ht_cond _ rfl (fun hb5 => ?_) (fun hb5 => ?_)
   ·have h := cond_t hb5 h
    refine ht_seq ?_
    refine zh hn [_, _, _, _, _, _, _, _, (4, .box 4 [.v (.bool false)])] [0,1,2,3,4,5,6,7] [0,1,8,3,4,5,6] [⟨[], [2], [8], [.cell 4 0]⟩] [(_,_),(_,_),(_,_),(_,_),(_,_),(_,_),(_,_)] (by kernel_rfl) rfl rfl ⟨zp rfl (op_store _ _ _ _ _ _ _ _ sz4 rfl rfl rfl rfl (zl rfl) rfl rfl),trivial⟩ ?_
    refine pt_then ?_
    refine ht_ret ?_
    refine pt_r_in ?_
    obtain rfl := Option.some.inj h
    exact pt_rret 14 [13, 3, 4] _ rfl rfl (by kernel_rfl)
   ·have h := cond_f hb5 h
    refine ht_skip ?_
    refine pt_inb ?_
    refine pt_pick [0, 1, 2, 3, 4, 5, 6] (by kernel_rfl) (es' := [(_, _), (_, _), (_, _), (_, _), (_, _), (_, _), (_, _)]) rfl ?_
    obtain rfl := Option.some.inj h
    exact pt_rnext 14 [13, 3, 4] _ rfl rfl (by kernel_rfl)
  ·rintro D ⟨⟩ h
   refine pt_inb ?_
   refine pt_then ?_
   refine ht_seq ?_
   refine zh hn [_, _, _, (4, .box 4 [.v (.bool true)])] [0,1,2] [0,3] [⟨[], [2], [3], [.cell 4 0]⟩] [(_,_),(_,_)] (by kernel_rfl) rfl rfl ⟨zp rfl (op_store _ _ _ _ _ _ _ _ sz4 rfl rfl rfl rfl (zl rfl) rfl rfl),trivial⟩ ?_
   refine pt_then ?_
   refine ht_ret ?_
   refine pt_pick [1] (by kernel_rfl) (es' := [(_, _)]) rfl ?_
   obtain rfl := Option.some.inj h
   exact pt_ret hio rfl (.cell1 _ _ _ _ Tryz.underlying4 rfl .nil) rfl rfl
  ·rintro D ⟨⟩ h
   refine pt_pick [2] (by kernel_rfl) (es' := [(_, _)]) rfl ?_
   refine pt_r_in ?_
   refine pt_r_then ?_
   obtain rfl := Option.some.inj h
   exact pt_ret hio rfl (.cell1 _ _ _ _ Tryz.underlying4 rfl .nil) rfl rfl
set_option maxHeartbeats 1000000 in
theorem ok_path_local (mx : Int) (s : ByteArray) (r : Bool) (h : Sh.path_local s = some r) : FnG Tryz.prog (GL mx) 71 [.v (.string s)] (.v (.bool r)) := by
  unfold Sh.path_local at h
  refine fn_okG Tryz.func71 rfl (zl rfl) rfl rfl fun g0 hn hio => ?_
  refine ht_seq ?_
  refine zh hn [_, _, (2, .v (.bool false))] [0,1] [0,1] [zq [] 2 2] [(_,_),(_,_)] (by kernel_rfl) rfl rfl ⟨za rfl rfl rfl,trivial⟩ ?_
  refine pt_then ?_
  refine ht_seq ?_
  refine ht_joinS h (fun (s2 : Bool) => [(10, .glob (GL mx)), (2, .v (.bool s2))]) ?_ ?_
  ·rintro s2 h
   refine pt_then ?_
   refine ht_ret ?_
   refine pt_pick [1] (by kernel_rfl) (es' := [(_, _)]) rfl ?_
   obtain rfl := Option.some.inj h
   exact pt_ret hio rfl (.tmp _ _ .nil) rfl rfl
  ·intro u3 h hl4 hr5
   refine cond_some h (fun hg1_3 h => ?_) (fun hg1_3 h => ?_)
   ·obtain ⟨v1, hv1, h⟩ := bind_some h
    refine zh hn [_, _, (3, .v (.string s)), (4, .v (.int .i64 (s.size : Int))), (5, .v (.bool ((decide ((s.size : Int) ≤ 64))))), (6, .v (.bool true)), (7, .v (.string s)), (8, .v (.bool v1)), (9, .v (.bool v1)), (2, .v (.bool v1))] [0,1] [1,9] [zq [0] 2 3, zq [2] 3 4, zq [3] 4 5, zq [4] 5 6, zq [5,0] 6 7, zq [5,6,1] 7 8, zq [5,7] 8 9, zq [8] 9 2] [(_,_),(_,_)] (by kernel_rfl) rfl rfl ⟨zm rfl rfl rfl,zp rfl (op_len_str _ _ _ Tryz.underlying9 rfl),zo rfl rfl rfl rfl,zm rfl (zb hg1_3) rfl,zr 3 rfl rfl rfl (op_move _ _ _ _ rfl rfl),zr 3 rfl rfl rfl (op_callG _ _ 10 51 _ _ rfl Tryz.call51 rfl rfl (fun _ h => h) (ok_path_dotted_of_path_atom mx s _ hv1) rfl rfl),zk true rfl rfl rfl,za rfl rfl rfl,trivial⟩ ?_
    exact hl4 _ (Option.some.inj h).symm
   ·refine zh hn [_, _, (3, .v (.string s)), (4, .v (.int .i64 (s.size : Int))), (5, .v (.bool ((decide ((s.size : Int) ≤ 64))))), (6, .v (.bool false)), (7, .v undef), (8, .v undef), (9, .v (.bool false)), (2, .v (.bool false))] [0,1] [1,9] [zq [0] 2 3, zq [2] 3 4, zq [3] 4 5, zq [4] 5 6, zq [5] 6 7, zq [5] 7 8, zq [5] 8 9, zq [8] 9 2] [(_,_),(_,_)] (by kernel_rfl) rfl rfl ⟨zm rfl rfl rfl,zp rfl (op_len_str _ _ _ Tryz.underlying9 rfl),zo rfl rfl rfl rfl,zm rfl (zb hg1_3) rfl,zs 3 true rfl rfl rfl rfl,zs 3 true rfl rfl rfl rfl,zk false rfl rfl rfl,za rfl rfl rfl,trivial⟩ ?_
    exact hl4 _ (Option.some.inj h).symm
set_option maxHeartbeats 1000000 in
theorem ok_path_Check (mx : Int) (p : T_Path) (r : Int) (h : Sh.path_Check p = some r) : FnG Tryz.prog (GL mx) 58 [.agg [.v (.bool p.Null), .v (.string p.Local), .v (.string p.Domain)]] (.v (.int .i64 r)) := by
  unfold Sh.path_Check at h
  refine fn_okG Tryz.func58 rfl (zl rfl) rfl rfl fun g0 hn hio => ?_
  refine ht_seq ?_
  refine zh hn [_, _, (1, .box 23 [.v (.bool p.Null), .v (.string p.Local), .v (.string p.Domain)]), (2, .v (.int .i64 0))] [0,1] [1,2] [zq [0] 2 1, zq [] 3 2] [(_,_),(_,_)] (by kernel_rfl) rfl rfl ⟨zp rfl (op_box _ _ _ _ rfl rfl rfl),za rfl rfl rfl,trivial⟩ ?_
  refine pt_then ?_
  refine ht_seq ?_
  refine zh hn [_, _, (5, .agg [.v (.bool p.Null), .v (.string p.Local), .v (.string p.Domain)]), (6, .agg [.v (.bool true), .v (.string (⟨#[]⟩ : ByteArray)), .v (.string (⟨#[]⟩ : ByteArray))]), (7, .v (.bool (((p.Null == true) && ((p.Local.toList == (⟨#[]⟩ : ByteArray).toList) && ((p.Domain.toList == (⟨#[]⟩ : ByteArray).toList) && true)))))), (3, .v (.bool (((p.Null == true) && ((p.Local.toList == (⟨#[]⟩ : ByteArray).toList) && ((p.Domain.toList == (⟨#[]⟩ : ByteArray).toList) && true))))))] [0,1] [0,1,5] [zq [1] 2 5, zq [] 3 6, zq [2,3] 4 7, zq [4] 5 3] [(_,_),(_,_),(_,_)] (by kernel_rfl) rfl rfl ⟨zp rfl (op_loadA _ _ _ _ _ _ _ Tryz.underlying23 rfl sz23 rfl rfl (zl rfl) rfl rfl),zp rfl (op_build _ _ _ _ [1, 1, 1] _ _ Tryz.underlying23 zr23 (fs23 _ Tryz.underlying23) (.copy _ Src.nil) rfl rfl rfl),zp rfl (op_eq_st _ _ [.bool p.Null, .string p.Local, .string p.Domain] [.bool true, .string (⟨#[]⟩ : ByteArray), .string (⟨#[]⟩ : ByteArray)] (((p.Null == true) && ((p.Local.toList == (⟨#[]⟩ : ByteArray).toList) && ((p.Domain.toList == (⟨#[]⟩ : ByteArray).toList) && true)))) _ false (by kernel_rfl) (by kernel_rfl) (by kernel_rfl) (by kernel_rfl) (by kernel_rfl) rfl rfl rfl rfl (by kernel_rfl) rfl),za rfl rfl rfl,trivial⟩ ?_
  refine pt_then ?_
  refine ht_seq ?_
  refine ht_joinS h (fun (s3 : Bool) => [(27, .glob (GL mx)), (3, .v (.bool (((p.Null == true) && ((p.Local.toList == (⟨#[]⟩ : ByteArray).toList) && ((p.Domain.toList == (⟨#[]⟩ : ByteArray).toList) && true)))))), (4, .v (.bool s3))]) ?_ ?_
  ·rintro s3 h
   refine pt_then ?_
   refine ht_seq ?_
   refine ht_seq ?_
   refine ht_joinS h (fun (s7 : Bool) => [(27, .glob (GL mx)), (26, .v (.bool s7))]) ?_ ?_
   ·rintro s7 h
    refine pt_then ?_
    refine ht_cond _ rfl (fun hb11 => ?_) (fun hb11 => ?_)
    ·have h := cond_t hb11 h
     refine ht_seq ?_
     refine zh hn [_, _, (2, .v (.int .i64 5))] [0,1] [0,2] [zq [] 2 2] [(_,_),(_,_)] (by kernel_rfl) rfl rfl ⟨za rfl rfl rfl,trivial⟩ ?_
     refine pt_then ?_
     refine ht_ret ?_
     refine pt_pick [1] (by kernel_rfl) (es' := [(_, _)]) rfl ?_
     refine pt_r_then ?_
     obtain rfl := Option.some.inj h
     exact pt_ret hio rfl (.tmp _ _ .nil) rfl rfl
    ·have h := cond_f hb11 h
     refine ht_skip ?_
     refine pt_then ?_
     refine ht_seq ?_
     refine zh hn [_, _, (2, .v (.int .i64 0))] [0,1] [0,2] [zq [] 2 2] [(_,_),(_,_)] (by kernel_rfl) rfl rfl ⟨za rfl rfl rfl,trivial⟩ ?_
     refine pt_then ?_
     refine ht_ret ?_
     refine pt_pick [1] (by kernel_rfl) (es' := [(_, _)]) rfl ?_
     obtain rfl := Option.some.inj h
     exact pt_ret hio rfl (.tmp _ _ .nil) rfl rfl
   ·intro u8 h hl9 hr10
    refine cond_some h (fun hg3_2 h => ?_) (fun hg3_2 h => ?_)
    ·refine zh hn [_, _, _, (21, .v (.bool (((p.Null == true) && ((p.Local.toList == (⟨#[]⟩ : ByteArray).toList) && ((p.Domain.toList == (⟨#[]⟩ : ByteArray).toList) && true)))))), (22, .v (.bool ((!(((p.Null == true) && ((p.Local.toList == (⟨#[]⟩ : ByteArray).toList) && ((p.Domain.toList == (⟨#[]⟩ : ByteArray).toList) && true)))))))), (23, .v (.bool true)), (24, .v (.bool s3)), (25, .v (.bool (!s3))), (26, .v (.bool (!s3)))] [0,1,2] [0,8] [zq [1] 3 21, zq [3] 4 22, zq [4] 5 23, zq [5,2] 6 24, zq [5,6] 7 25, zq [5,7] 8 26] [(_,_),(_,_)] (by kernel_rfl) rfl rfl ⟨zm rfl rfl rfl,zp rfl (op_un _ _ _ _ rfl rfl),zm rfl (zb hg3_2) rfl,zr 2 rfl rfl rfl (op_move _ _ _ _ rfl rfl),zr 2 rfl rfl rfl (op_un _ _ _ _ rfl rfl),zk true rfl rfl rfl,trivial⟩ ?_
     exact hl9 _ (Option.some.inj h).symm
    ·refine zh hn [_, _, _, (21, .v (.bool (((p.Null == true) && ((p.Local.toList == (⟨#[]⟩ : ByteArray).toList) && ((p.Domain.toList == (⟨#[]⟩ : ByteArray).toList) && true)))))), (22, .v (.bool ((!(((p.Null == true) && ((p.Local.toList == (⟨#[]⟩ : ByteArray).toList) && ((p.Domain.toList == (⟨#[]⟩ : ByteArray).toList) && true)))))))), (23, .v (.bool false)), (24, .v undef), (25, .v undef), (26, .v (.bool false))] [0,1,2] [0,8] [zq [1] 3 21, zq [3] 4 22, zq [4] 5 23, zq [5] 6 24, zq [5] 7 25, zq [5] 8 26] [(_,_),(_,_)] (by kernel_rfl) rfl rfl ⟨zm rfl rfl rfl,zp rfl (op_un _ _ _ _ rfl rfl),zm rfl (zb hg3_2) rfl,zs 2 true rfl rfl rfl rfl,zs 2 true rfl rfl rfl rfl,zk false rfl rfl rfl,trivial⟩ ?_
     exact hl9 _ (Option.some.inj h).symm
  ·intro u4 h hl5 hr6
   refine cond_some h (fun hg2_3 h => ?_) (fun hg2_3 h => ?_)
   ·obtain ⟨v1, hv1, h⟩ := bind_some h
    refine cond_some h (fun hg2_8 h => ?_) (fun hg2_8 h => ?_)
    ·obtain ⟨v2, hv2, h⟩ := bind_some h
     refine zh hn (_ :: _ :: _ :: (8, .ptr 1 0) :: (9, .v (.bool p.Null)) :: (10, .v (.bool (!p.Null))) :: (11, .v (.bool true)) :: (12, .ptr 1 1) :: (13, .v (.string p.Local)) :: (14, .v (.bool v1)) :: (15, .v (.bool v1)) :: (16, .v (.bool true)) :: (17, .ptr 1 2) :: (18, .v (.string p.Domain)) :: (19, .v (.bool v2)) :: (20, .v (.bool v2)) :: (4, .v (.bool v2)) :: []) [0,1,2] [0,2,16] [zq [1] 3 8, zq [3,1] 4 9, zq [4] 5 10, zq [5] 6 11, zq [6,1] 7 12, zq [6,7,1] 8 13, zq [6,8,0] 9 14, zq [6,9] 10 15, zq [10] 11 16, zq [11,1] 12 17, zq [11,12,1] 13 18, zq [11,13,0] 14 19, zq [11,14] 15 20, zq [15] 16 4] [(_,_),(_,_),(_,_)] (by kernel_rfl) rfl rfl ⟨zp rfl (op_fieldAddr _ _ _ _ 1 0 _ Tryz.underlying23 rfl sz4 rfl rfl (by decide)),zp rfl (op_load _ _ _ _ _ _ Tryz.underlying4 rfl rfl rfl (zl rfl) rfl rfl rfl),zp rfl (op_un _ _ _ _ rfl rfl),zm rfl (zb hg2_3) rfl,zr 3 rfl rfl rfl (op_fieldAddr _ _ _ _ 1 0 _ Tryz.underlying23 rfl sz9 rfl rfl (by decide)),zr 3 rfl rfl rfl (op_load _ _ _ _ _ _ Tryz.underlying9 rfl rfl rfl (zl rfl) rfl rfl rfl),zr 3 rfl rfl rfl (op_callG _ _ 27 71 _ _ rfl Tryz.call71 rfl rfl (fun _ h => h) (ok_path_local mx p.Local _ hv1) rfl rfl),zk true rfl rfl rfl,zm rfl (zb hg2_8) rfl,zr 8 rfl rfl rfl (op_fieldAddr _ _ _ _ 1 0 _ Tryz.underlying23 rfl sz9 rfl rfl (by decide)),zr 8 rfl rfl rfl (op_load _ _ _ _ _ _ Tryz.underlying9 rfl rfl rfl (zl rfl) rfl rfl rfl),zr 8 rfl rfl rfl (op_callG _ _ 27 37 _ _ rfl Tryz.call37 rfl rfl (fun _ h => h) (ok_path_Domain mx p.Domain _ hv2) rfl rfl),zk true rfl rfl rfl,za rfl rfl rfl,trivial⟩ ?_
     exact hl5 _ (Option.some.inj h).symm
    ·refine zh hn (_ :: _ :: _ :: (8, .ptr 1 0) :: (9, .v (.bool p.Null)) :: (10, .v (.bool (!p.Null))) :: (11, .v (.bool true)) :: (12, .ptr 1 1) :: (13, .v (.string p.Local)) :: (14, .v (.bool v1)) :: (15, .v (.bool v1)) :: (16, .v (.bool false)) :: (17, .v undef) :: (18, .v undef) :: (19, .v undef) :: (20, .v (.bool false)) :: (4, .v (.bool false)) :: []) [0,1,2] [0,2,16] [zq [1] 3 8, zq [3,1] 4 9, zq [4] 5 10, zq [5] 6 11, zq [6,1] 7 12, zq [6,7,1] 8 13, zq [6,8,0] 9 14, zq [6,9] 10 15, zq [10] 11 16, zq [11] 12 17, zq [11] 13 18, zq [11] 14 19, zq [11] 15 20, zq [15] 16 4] [(_,_),(_,_),(_,_)] (by kernel_rfl) rfl rfl ⟨zp rfl (op_fieldAddr _ _ _ _ 1 0 _ Tryz.underlying23 rfl sz4 rfl rfl (by decide)),zp rfl (op_load _ _ _ _ _ _ Tryz.underlying4 rfl rfl rfl (zl rfl) rfl rfl rfl),zp rfl (op_un _ _ _ _ rfl rfl),zm rfl (zb hg2_3) rfl,zr 3 rfl rfl rfl (op_fieldAddr _ _ _ _ 1 0 _ Tryz.underlying23 rfl sz9 rfl rfl (by decide)),zr 3 rfl rfl rfl (op_load _ _ _ _ _ _ Tryz.underlying9 rfl rfl rfl (zl rfl) rfl rfl rfl),zr 3 rfl rfl rfl (op_callG _ _ 27 71 _ _ rfl Tryz.call71 rfl rfl (fun _ h => h) (ok_path_local mx p.Local _ hv1) rfl rfl),zk true rfl rfl rfl,zm rfl (zb hg2_8) rfl,zs 8 true rfl rfl rfl rfl,zs 8 true rfl rfl rfl rfl,zs 8 true rfl rfl rfl rfl,zk false rfl rfl rfl,za rfl rfl rfl,trivial⟩ ?_
     exact hl5 _ (Option.some.inj h).symm
   ·refine zh hn (_ :: _ :: _ :: (8, .ptr 1 0) :: (9, .v (.bool p.Null)) :: (10, .v (.bool (!p.Null))) :: (11, .v (.bool false)) :: (12, .v undef) :: (13, .v undef) :: (14, .v undef) :: (15, .v (.bool false)) :: (16, .v (.bool false)) :: (17, .v undef) :: (18, .v undef) :: (19, .v undef) :: (20, .v (.bool false)) :: (4, .v (.bool false)) :: []) [0,1,2] [0,2,16] [zq [1] 3 8, zq [3,1] 4 9, zq [4] 5 10, zq [5] 6 11, zq [6] 7 12, zq [6] 8 13, zq [6] 9 14, zq [6] 10 15, zq [10] 11 16, zq [11] 12 17, zq [11] 13 18, zq [11] 14 19, zq [11] 15 20, zq [15] 16 4] [(_,_),(_,_),(_,_)] (by kernel_rfl) rfl rfl ⟨zp rfl (op_fieldAddr _ _ _ _ 1 0 _ Tryz.underlying23 rfl sz4 rfl rfl (by decide)),zp rfl (op_load _ _ _ _ _ _ Tryz.underlying4 rfl rfl rfl (zl rfl) rfl rfl rfl),zp rfl (op_un _ _ _ _ rfl rfl),zm rfl (zb hg2_3) rfl,zs 3 true rfl rfl rfl rfl,zs 3 true rfl rfl rfl rfl,zs 3 true rfl rfl rfl rfl,zk false rfl rfl rfl,zm rfl rfl rfl,zs 8 true rfl rfl rfl rfl,zs 8 true rfl rfl rfl rfl,zs 8 true rfl rfl rfl rfl,zk false rfl rfl rfl,za rfl rfl rfl,trivial⟩ ?_
    exact hl5 _ (Option.some.inj h).symm
set_option maxHeartbeats 1000000 in
theorem ok_path_Parse (mx : Int) (s : ByteArray) (r : (T_Path × Int)) (h : Sh.path_Parse s = some r) : FnG Tryz.prog (GL mx) 54 [.v (.string s)] (.tup [.agg [.v (.bool r.1.Null), .v (.string r.1.Local), .v (.string r.1.Domain)], .v (.int .i64 r.2)]) := by
  unfold Sh.path_Parse at h
  refine fn_okG Tryz.func54 rfl (zl rfl) rfl rfl fun g0 hn hio => ?_
  refine ht_seq ?_
  refine zh hn [_, _, (2, .box 23 [.v (.bool false), .v (.string (⟨#[]⟩ : ByteArray)), .v (.string (⟨#[]⟩ : ByteArray))]), (3, .v (.int .i64 0))] [0,1] [0,1,2] [zq [] 2 2, zq [] 3 3] [(_,_),(_,_),(_,_)] (by kernel_rfl) rfl rfl ⟨zp rfl (op_alloc _ _ zr23),za rfl rfl rfl,trivial⟩ ?_
  refine pt_then ?_
  refine ht_seq ?_
  refine ht_seq ?_
  refine zh hn [_, _, _, (11, .v (.string s)), (12, .v (.bool ((s.toList == (⟨#[60, 62]⟩ : ByteArray).toList))))] [0,1,2] [0,1,2,4] [zq [0] 3 11, zq [3] 4 12] [(_,_),(_,_),(_,_),(_,_)] (by kernel_rfl) rfl rfl ⟨zm rfl rfl rfl,zo rfl rfl rfl rfl,trivial⟩ ?_
  refine pt_then ?_
  refine ht_cond _ rfl (fun hb1 => ?_) (fun hb1 => ?_)
  ·have h := cond_t hb1 h
   refine ht_seq ?_
   refine zh hn [_, _, _, _, (13, .agg [.v (.bool true), .v (.string (⟨#[]⟩ : ByteArray)), .v (.string (⟨#[]⟩ : ByteArray))]), (2, .box 23 [.v (.bool true), .v (.string (⟨#[]⟩ : ByteArray)), .v (.string (⟨#[]⟩ : ByteArray))]), (3, .v (.int .i64 0))] [0,1,2,3] [1,5,6] [zq [] 4 13, ⟨[4], [2], [5], [.cell 2 0, .cell 2 1, .cell 2 2]⟩, zq [] 6 3] [(_,_),(_,_),(_,_)] (by kernel_rfl) rfl rfl ⟨zp rfl (op_build _ _ _ _ [1, 1, 1] _ _ Tryz.underlying23 zr23 (fs23 _ Tryz.underlying23) (.copy _ Src.nil) rfl rfl rfl),zp rfl (op_store _ _ _ _ _ _ _ _ sz23 rfl rfl rfl rfl (zl rfl) rfl rfl),za rfl rfl rfl,trivial⟩ ?_
   refine pt_then ?_
   refine ht_ret ?_
   refine pt_pick [1, 2] (by kernel_rfl) (es' := [(_, _), (_, _)]) rfl ?_
   refine pt_r_then ?_
   obtain rfl := Option.some.inj h
   exact pt_ret hio rfl (.cellA _ _ _ _ Tryz.underlying23 rfl sz23 (.tmp _ _ .nil)) rfl rfl
  ·have h := cond_f hb1 h
   refine ht_skip ?_
   refine pt_then ?_
   refine ht_seq ?_
   obtain ⟨v2, hv2, h⟩ := bind_some h
   refine zh hn [_, _, _, _, (15, .v (.string s)), (16, .tup [.v (.string v2.1), .v (.bool v2.2)]), (14, .tup [.v (.string v2.1), .v (.bool v2.2)]), (17, .v (.string v2.1)), (18, .v (.bool v2.2)), (4, .v (.string v2.1)), (5, .v (.bool v2.2))] [0,1,2,3] [1,2,9,10] [zq [0] 4 15, zq [4] 5 16, ⟨[], [5], [6], [(.slot 14)]⟩, zq [6] 7 17, zq [6] 8 18, zq [7] 9 4, zq [8] 10 5] [(_,_),(_,_),(_,_),(_,_)] (by kernel_rfl) rfl rfl ⟨zm rfl rfl rfl,zp rfl (op_call _ _ 65 _ _ rfl Tryz.call65 rfl (ok_strings_CutPrefix s (⟨#[60]⟩ : ByteArray) _ hv2) rfl rfl),zp rfl (op_move_take _ _ _ _ rfl),zp rfl (op_extract _ _ _ _ _ rfl rfl (zl rfl) rfl rfl),zp rfl (op_extract _ _ _ _ _ rfl rfl (zl rfl) rfl rfl),za rfl rfl rfl,za rfl rfl rfl,trivial⟩ ?_
   refine pt_then ?_
   refine ht_seq ?_
   obtain ⟨v3, hv3, h⟩ := bind_some h
   refine zh hn [_, _, _, _, (20, .v (.string v2.1)), (21, .tup [.v (.string v3.1), .v (.bool v3.2)]), (19, .tup [.v (.string v3.1), .v (.bool v3.2)]), (22, .v (.string v3.1)), (23, .v (.bool v3.2)), (4, .v (.string v3.1)), (6, .v (.bool v3.2))] [0,1,2,3] [0,1,3,9,10] [zq [2] 4 20, zq [4] 5 21, ⟨[], [5], [6], [(.slot 19)]⟩, zq [6] 7 22, zq [6] 8 23, ⟨[7], [2], [9], [(.slot 4)]⟩, zq [8] 10 6] [(_,_),(_,_),(_,_),(_,_),(_,_)] (by kernel_rfl) rfl rfl ⟨zm rfl rfl rfl,zp rfl (op_call _ _ 66 _ _ rfl Tryz.call66 rfl (ok_strings_CutSuffix v2.1 (⟨#[62]⟩ : ByteArray) _ hv3) rfl rfl),zp rfl (op_move_take _ _ _ _ rfl),zp rfl (op_extract _ _ _ _ _ rfl rfl (zl rfl) rfl rfl),zp rfl (op_extract _ _ _ _ _ rfl rfl (zl rfl) rfl rfl),zp rfl (LOp.drop [_] (op_assign _ _ _ _ rfl rfl)),za rfl rfl rfl,trivial⟩ ?_
   refine pt_then ?_
   refine ht_seq ?_
   obtain ⟨v4, hv4, h⟩ := bind_some h
   refine zh hn [_, _, _, _, _, (25, .v (.string v3.1)), (26, .tup [.v (.string v4.1), .v (.string v4.2.1), .v (.bool v4.2.2)]), (24, .tup [.v (.string v4.1), .v (.string v4.2.1), .v (.bool v4.2.2)]), (27, .v (.string v4.1)), (28, .v (.string v4.2.1)), (29, .v (.bool v4.2.2)), (7, .v (.string v4.1)), (8, .v (.string v4.2.1)), (9, .v (.bool v4.2.2))] [0,1,2,3,4] [0,1,2,4,11,12,13] [zq [3] 5 25, zq [5] 6 26, ⟨[], [6], [7], [(.slot 24)]⟩, zq [7] 8 27, zq [7] 9 28, zq [7] 10 29, zq [8] 11 7, zq [9] 12 8, zq [10] 13 9] [(_,_),(_,_),(_,_),(_,_),(_,_),(_,_),(_,_)] (by kernel_rfl) rfl rfl ⟨zm rfl rfl rfl,zp rfl (op_call _ _ 33 _ _ rfl Tryz.call33 rfl (ok_strings_Cut v3.1 (⟨#[64]⟩ : ByteArray) _ hv4) rfl rfl),zp rfl (op_move_take _ _ _ _ rfl),zp rfl (op_extract _ _ _ _ _ rfl rfl (zl rfl) rfl rfl),zp rfl (op_extract _ _ _ _ _ rfl rfl (zl rfl) rfl rfl),zp rfl (op_extract _ _ _ _ _ rfl rfl (zl rfl) rfl rfl),za rfl rfl rfl,za rfl rfl rfl,za rfl rfl rfl,trivial⟩ ?_
   refine pt_then ?_
   refine ht_seq ?_
   refine zh hn [_, _, _, _, _, _, _, (30, .v (.string v4.1)), (31, .v (.string v4.2.1)), (32, .agg [.v (.bool false), .v (.string v4.1), .v (.string v4.2.1)]), (10, .box 23 [.v (.bool false), .v (.string (⟨#[]⟩ : ByteArray)), .v (.string (⟨#[]⟩ : ByteArray))]), (10, .box 23 [.v (.bool false), .v (.string v4.1), .v (.string v4.2.1)])] [0,1,2,3,4,5,6] [0,1,2,3,6,11] [zq [4] 7 30, zq [5] 8 31, zq [7,8] 9 32, zq [] 10 10, ⟨[9], [10], [11], [.cell 10 0, .cell 10 1, .cell 10 2]⟩] [(_,_),(_,_),(_,_),(_,_),(_,_),(_,_)] (by kernel_rfl) rfl rfl ⟨zm rfl rfl rfl,zm rfl rfl rfl,zp rfl (op_build _ _ _ _ [1, 1, 1] _ _ Tryz.underlying23 zr23 (fs23 _ Tryz.underlying23) (.copy _ (.copy _ Src.nil)) rfl rfl rfl),zp rfl (op_alloc _ _ zr23),zp rfl (op_store _ _ _ _ _ _ _ _ sz23 rfl rfl rfl rfl (zl rfl) rfl rfl),trivial⟩ ?_
   refine pt_then ?_
   refine ht_seq ?_
   refine ht_seq ?_
   refine ht_joinS h (fun (s6 : Bool) => [(50, .glob (GL mx)), (2, .box 23 [.v (.bool false), .v (.string (⟨#[]⟩ : ByteArray)), .v (.string (⟨#[]⟩ : ByteArray))]), (10, .box 23 [.v (.bool false), .v (.string v4.1), .v (.string v4.2.1)]), (47, .v (.bool s6))]) ?_ ?_
   ·rintro s6 h
    refine pt_then ?_
    refine ht_cond _ rfl (fun hb10 => ?_) (fun hb10 => ?_)
    ·have h := cond_t hb10 h
     refine ht_seq ?_
     refine zh hn [_, _, _, _, (48, .agg [.v (.bool false), .v (.string (⟨#[]⟩ : ByteArray)), .v (.string (⟨#[]⟩ : ByteArray))]), (2, .box 23 [.v (.bool false), .v (.string (⟨#[]⟩ : ByteArray)), .v (.string (⟨#[]⟩ : ByteArray))]), (3, .v (.int .i64 5))] [0,1,2,3] [0,5,6] [zq [] 4 48, ⟨[], [4, 1], [5], [.cell 2 0, .cell 2 1, .cell 2 2]⟩, zq [] 6 3] [(_,_),(_,_),(_,_)] (by kernel_rfl) rfl rfl ⟨zp rfl (op_build _ _ _ _ [1, 1, 1] _ _ Tryz.underlying23 zr23 (fs23 _ Tryz.underlying23) Src.nil rfl rfl rfl),zp rfl (op_store_self _ _ _ 48 2 3 sz23 rfl rfl rfl rfl rfl (.eq _ (.eq _ (.eq _ (.nil _)))) rfl),za rfl rfl rfl,trivial⟩ ?_
     refine pt_then ?_
     refine ht_ret ?_
     refine pt_pick [1, 2] (by kernel_rfl) (es' := [(_, _), (_, _)]) rfl ?_
     refine pt_r_then ?_
     obtain rfl := Option.some.inj h
     exact pt_ret hio rfl (.cellA _ _ _ _ Tryz.underlying23 rfl sz23 (.tmp _ _ .nil)) rfl rfl
    ·have h := cond_f hb10 h
     refine ht_skip ?_
     refine pt_then ?_
     refine ht_seq ?_
     refine zh hn [_, _, _, _, (49, .agg [.v (.bool false), .v (.string v4.1), .v (.string v4.2.1)]), (2, .box 23 [.v (.bool false), .v (.string v4.1), .v (.string v4.2.1)]), (3, .v (.int .i64 0))] [0,1,2,3] [0,5,6] [zq [2] 4 49, ⟨[4], [1], [5], [.cell 2 0, .cell 2 1, .cell 2 2]⟩, zq [] 6 3] [(_,_),(_,_),(_,_)] (by kernel_rfl) rfl rfl ⟨zp rfl (op_loadA _ _ _ _ _ _ _ Tryz.underlying23 rfl sz23 rfl rfl (zl rfl) rfl rfl),zp rfl (op_store _ _ _ _ _ _ _ _ sz23 rfl rfl rfl rfl (zl rfl) rfl rfl),za rfl rfl rfl,trivial⟩ ?_
     refine pt_then ?_
     refine ht_ret ?_
     refine pt_pick [1, 2] (by kernel_rfl) (es' := [(_, _), (_, _)]) rfl ?_
     obtain rfl := Option.some.inj h
     exact pt_ret hio rfl (.cellA _ _ _ _ Tryz.underlying23 rfl sz23 (.tmp _ _ .nil)) rfl rfl
   ·intro u7 h hl8 hr9
    refine cond_some h (fun hg7_2 h => ?_) (fun hg7_2 h => ?_)
    ·refine zh hn (_ :: _ :: _ :: _ :: _ :: _ :: (33, .v (.bool v2.2)) :: (34, .v (.bool (!v2.2))) :: (35, .v (.bool true)) :: (36, .v undef) :: (37, .v undef) :: (38, .v (.bool true)) :: (39, .v (.bool true)) :: (40, .v undef) :: (41, .v undef) :: (42, .v (.bool true)) :: (43, .v (.bool true)) :: (44, .v undef) :: (45, .v undef) :: (46, .v undef) :: (47, .v (.bool true)) :: []) [0,1,2,3,4,5] [0,1,5,20] (zq [2] 6 33 :: zq [6] 7 34 :: zq [7] 8 35 :: zq [8] 9 36 :: zq [8] 10 37 :: zq [8] 11 38 :: zq [11] 12 39 :: zq [12] 13 40 :: zq [12] 14 41 :: zq [12] 15 42 :: zq [15] 16 43 :: zq [16] 17 44 :: zq [16] 18 45 :: zq [16] 19 46 :: zq [16] 20 47 :: []) [(_,_),(_,_),(_,_),(_,_)] (by kernel_rfl) rfl rfl ⟨zm rfl rfl rfl,zp rfl (op_un _ _ _ _ rfl rfl),zm rfl (zb hg7_2) rfl,zs 2 false rfl rfl rfl rfl,zs 2 false rfl rfl rfl rfl,zk true rfl rfl rfl,zm rfl rfl rfl,zs 6 false rfl rfl rfl rfl,zs 6 false rfl rfl rfl rfl,zk true rfl rfl rfl,zm rfl rfl rfl,zs 10 false rfl rfl rfl rfl,zs 10 false rfl rfl rfl rfl,zs 10 false rfl rfl rfl rfl,zk true rfl rfl rfl,trivial⟩ ?_
     exact hl8 _ (Option.some.inj h).symm
    ·refine cond_some h (fun hg7_6 h => ?_) (fun hg7_6 h => ?_)
     ·refine zh hn (_ :: _ :: _ :: _ :: _ :: _ :: (33, .v (.bool v2.2)) :: (34, .v (.bool (!v2.2))) :: (35, .v (.bool false)) :: (36, .v (.bool v3.2)) :: (37, .v (.bool (!v3.2))) :: (38, .v (.bool (!v3.2))) :: (39, .v (.bool true)) :: (40, .v undef) :: (41, .v undef) :: (42, .v (.bool true)) :: (43, .v (.bool true)) :: (44, .v undef) :: (45, .v undef) :: (46, .v undef) :: (47, .v (.bool true)) :: []) [0,1,2,3,4,5] [0,1,5,20] (zq [2] 6 33 :: zq [6] 7 34 :: zq [7] 8 35 :: zq [8,3] 9 36 :: zq [8,9] 10 37 :: zq [8,10] 11 38 :: zq [11] 12 39 :: zq [12] 13 40 :: zq [12] 14 41 :: zq [12] 15 42 :: zq [15] 16 43 :: zq [16] 17 44 :: zq [16] 18 45 :: zq [16] 19 46 :: zq [16] 20 47 :: []) [(_,_),(_,_),(_,_),(_,_)] (by kernel_rfl) rfl rfl ⟨zm rfl rfl rfl,zp rfl (op_un _ _ _ _ rfl rfl),zm rfl (zb hg7_2) rfl,zr 2 rfl rfl rfl (op_move _ _ _ _ rfl rfl),zr 2 rfl rfl rfl (op_un _ _ _ _ rfl rfl),zk false rfl rfl rfl,zm rfl (zb hg7_6) rfl,zs 6 false rfl rfl rfl rfl,zs 6 false rfl rfl rfl rfl,zk true rfl rfl rfl,zm rfl rfl rfl,zs 10 false rfl rfl rfl rfl,zs 10 false rfl rfl rfl rfl,zs 10 false rfl rfl rfl rfl,zk true rfl rfl rfl,trivial⟩ ?_
      exact hl8 _ (Option.some.inj h).symm
     ·refine cond_some h (fun hg7_10 h => ?_) (fun hg7_10 h => ?_)
      ·refine zh hn (_ :: _ :: _ :: _ :: _ :: _ :: (33, .v (.bool v2.2)) :: (34, .v (.bool (!v2.2))) :: (35, .v (.bool false)) :: (36, .v (.bool v3.2)) :: (37, .v (.bool (!v3.2))) :: (38, .v (.bool (!v3.2))) :: (39, .v (.bool false)) :: (40, .v (.bool v4.2.2)) :: (41, .v (.bool (!v4.2.2))) :: (42, .v (.bool (!v4.2.2))) :: (43, .v (.bool true)) :: (44, .v undef) :: (45, .v undef) :: (46, .v undef) :: (47, .v (.bool true)) :: []) [0,1,2,3,4,5] [0,1,5,20] (zq [2] 6 33 :: zq [6] 7 34 :: zq [7] 8 35 :: zq [8,3] 9 36 :: zq [8,9] 10 37 :: zq [8,10] 11 38 :: zq [11] 12 39 :: zq [12,4] 13 40 :: zq [12,13] 14 41 :: zq [12,14] 15 42 :: zq [15] 16 43 :: zq [16] 17 44 :: zq [16] 18 45 :: zq [16] 19 46 :: zq [16] 20 47 :: []) [(_,_),(_,_),(_,_),(_,_)] (by kernel_rfl) rfl rfl ⟨zm rfl rfl rfl,zp rfl (op_un _ _ _ _ rfl rfl),zm rfl (zb hg7_2) rfl,zr 2 rfl rfl rfl (op_move _ _ _ _ rfl rfl),zr 2 rfl rfl rfl (op_un _ _ _ _ rfl rfl),zk false rfl rfl rfl,zm rfl (zb hg7_6) rfl,zr 6 rfl rfl rfl (op_move _ _ _ _ rfl rfl),zr 6 rfl rfl rfl (op_un _ _ _ _ rfl rfl),zk false rfl rfl rfl,zm rfl (zb hg7_10) rfl,zs 10 false rfl rfl rfl rfl,zs 10 false rfl rfl rfl rfl,zs 10 false rfl rfl rfl rfl,zk true rfl rfl rfl,trivial⟩ ?_
       exact hl8 _ (Option.some.inj h).symm
      ·obtain ⟨v5, hv5, h⟩ := bind_some h
       refine zh hn (_ :: _ :: _ :: _ :: _ :: _ :: (33, .v (.bool v2.2)) :: (34, .v (.bool (!v2.2))) :: (35, .v (.bool false)) :: (36, .v (.bool v3.2)) :: (37, .v (.bool (!v3.2))) :: (38, .v (.bool (!v3.2))) :: (39, .v (.bool false)) :: (40, .v (.bool v4.2.2)) :: (41, .v (.bool (!v4.2.2))) :: (42, .v (.bool (!v4.2.2))) :: (43, .v (.bool false)) :: (44, .agg [.v (.bool false), .v (.string v4.1), .v (.string v4.2.1)]) :: (45, .v (.int .i64 v5)) :: (46, .v (.bool (v5 != 0))) :: (47, .v (.bool (v5 != 0))) :: []) [0,1,2,3,4,5] [0,1,5,20] (zq [2] 6 33 :: zq [6] 7 34 :: zq [7] 8 35 :: zq [8,3] 9 36 :: zq [8,9] 10 37 :: zq [8,10] 11 38 :: zq [11] 12 39 :: zq [12,4] 13 40 :: zq [12,13] 14 41 :: zq [12,14] 15 42 :: zq [15] 16 43 :: zq [16,5] 17 44 :: zq [16,17,0] 18 45 :: zq [16,18] 19 46 :: zq [16,19] 20 47 :: []) [(_,_),(_,_),(_,_),(_,_)] (by kernel_rfl) rfl rfl ⟨zm rfl rfl rfl,zp rfl (op_un _ _ _ _ rfl rfl),zm rfl (zb hg7_2) rfl,zr 2 rfl rfl rfl (op_move _ _ _ _ rfl rfl),zr 2 rfl rfl rfl (op_un _ _ _ _ rfl rfl),zk false rfl rfl rfl,zm rfl (zb hg7_6) rfl,zr 6 rfl rfl rfl (op_move _ _ _ _ rfl rfl),zr 6 rfl rfl rfl (op_un _ _ _ _ rfl rfl),zk false rfl rfl rfl,zm rfl (zb hg7_10) rfl,zr 10 rfl rfl rfl (op_loadA _ _ _ _ _ _ _ Tryz.underlying23 rfl sz23 rfl rfl (zl rfl) rfl rfl),zr 10 rfl rfl rfl (op_callG _ _ 50 58 _ _ rfl Tryz.call58 rfl rfl (fun _ h => h) (ok_path_Check mx (T_Path.mk false v4.1 v4.2.1) _ hv5) rfl rfl),zr 10 rfl rfl rfl (op_bin _ _ _ _ _ rfl rfl rfl),zk false rfl rfl rfl,trivial⟩ ?_
       exact hl8 _ (Option.some.inj h).symm
theorem ok_strconv_Atoi (s : ByteArray) (r : Int × Unit) (h : Sh.strconv_Atoi s = some r) : FnOK Tryz.prog 90 [.v (.string s)] (.tup [.v (.int .i64 r.1), .v .nilIface]) := lib_strconv_Atoi (fun s n w h1 h2 => Tryz.strconv_Atoi s n h1 h2 w) s r h
set_option maxHeartbeats 1000000 in
theorem ok_number_Parse (s : ByteArray) (digits : Int) (r : (Int × Bool)) (h : Sh.number_Parse s digits = some r) : FnOK Tryz.prog 80 [.v (.string s), .v (.int .i64 digits)] (.tup [.v (.int .i64 r.1), .v (.bool r.2)]) := by
  unfold Sh.number_Parse at h
  refine fn_ok Tryz.func80 rfl (zl rfl) rfl rfl fun g0 hn hio => ?_
  refine ht_seq ?_
  refine zh hn [_, _, (4, .v (.int .i64 0)), (5, .v (.bool false))] [0,1] [0,1] [zq [] 2 4, zq [] 3 5] [(_,_),(_,_)] (by kernel_rfl) rfl rfl ⟨za rfl rfl rfl,za rfl rfl rfl,trivial⟩ ?_
  refine pt_then ?_
  refine ht_seq ?_
  refine ht_seq ?_
  refine ht_joinS h (fun (s3 : Bool) => [(0, .v (.string s)), (26, .v (.bool s3))]) ?_ ?_
  ·rintro s3 h
   refine pt_then ?_
   refine ht_cond _ rfl (fun hb7 => ?_) (fun hb7 => ?_)
   ·have h := cond_t hb7 h
    refine ht_seq ?_
    refine zh hn [_, _, (4, .v (.int .i64 0)), (5, .v (.bool false))] [0,1] [2,3] [zq [] 2 4, zq [] 3 5] [(_,_),(_,_)] (by kernel_rfl) rfl rfl ⟨za rfl rfl rfl,za rfl rfl rfl,trivial⟩ ?_
    refine pt_then ?_
    refine ht_ret ?_
    refine pt_r_then ?_
    obtain rfl := Option.some.inj h
    exact pt_ret hio rfl (.tmp _ _ (.tmp _ _ .nil)) rfl rfl
   ·have h := cond_f hb7 h
    refine ht_skip ?_
    refine pt_then ?_
    refine ht_seq ?_
    refine ht_seq ?_
    refine zh hn [_, _, (27, .v (.string s)), (28, .v (.int .i64 (s.size : Int))), (29, .v (.int .i64 0))] [0,1] [0,3,4] [zq [0] 2 27, zq [2] 3 28, zq [] 4 29] [(_,_),(_,_),(_,_)] (by kernel_rfl) rfl rfl ⟨zm rfl rfl rfl,zp rfl (op_len_str _ _ _ Tryz.underlying9 rfl),zm rfl rfl rfl,trivial⟩ ?_
    refine pt_then ?_
    refine ht_loopS h (fun (s24 : Int) => [(0, .v (.string s)), (28, .v (.int .i64 (s.size : Int))), (29, .v (.int .i64 s24))]) (fun (() : Unit) => [(0, .v (.string s))]) ?_ ?_
    ·rintro ⟨⟩ h
     refine pt_then ?_
     refine ht_seq ?_
     obtain ⟨v43, hv43, h⟩ := bind_some h
     refine zh hn [_, (44, .v (.string s)), (45, .tup [.v (.int .i64 v43.1), .v (.nilIface)]), (43, .tup [.v (.int .i64 v43.1), .v (.nilIface)]), (46, .v (.int .i64 v43.1)), (47, .v (.nilIface)), (7, .v (.int .i64 v43.1)), (8, .v (.nilIface))] [0] [6,7] [zq [0] 1 44, zq [1] 2 45, ⟨[], [2], [3], [(.slot 43)]⟩, zq [3] 4 46, zq [3] 5 47, zq [4] 6 7, zq [5] 7 8] [(_,_),(_,_)] (by kernel_rfl) rfl rfl ⟨zm rfl rfl rfl,zp rfl (op_call _ _ 90 _ _ rfl Tryz.call90 rfl (ok_strconv_Atoi s _ hv43) rfl rfl),zp rfl (op_move_take _ _ _ _ rfl),zp rfl (op_extract _ _ _ _ _ rfl rfl (zl rfl) rfl rfl),zp rfl (op_extract _ _ _ _ _ rfl rfl (zl rfl) rfl rfl),za rfl rfl rfl,za rfl rfl rfl,trivial⟩ ?_
     refine pt_then ?_
     refine ht_seq ?_
     refine ht_anyR (by kernel_rfl) hn (El := [_, _, (48, .v (.int .i64 v43.1)), (49, .v (.nilIface)), (50, .v (.bool true)), (4, .v (.int .i64 v43.1)), (5, .v (.bool true))]) (init := [0, 1]) (fin := [5, 6]) (sps := [zq [0] 2 48, zq [1] 3 49, zq [3] 4 50, zq [2] 5 4, zq [4] 6 5]) (es' := [(4, .v (.int .i64 v43.1)), (5, .v (.bool true))]) (by kernel_rfl) rfl rfl ⟨zm rfl rfl rfl,zm rfl rfl rfl,zp rfl (op_ifnil _ _ false Tryz.underlying73 rfl),za rfl rfl rfl,za rfl rfl rfl,trivial⟩ ?_
     refine pt_then ?_
     refine ht_ret ?_
     obtain rfl := Option.some.inj h
     exact pt_ret hio rfl (.tmp _ _ (.tmp _ _ .nil)) rfl rfl
    ·rintro u31 hl32 hr33 s24 rr36 h ho34
     refine ht_seq ?_
     refine zh hn [_, _, _, (30, .v (.bool ((decide (s24 < (s.size : Int))))))] [0,1,2] [0,1,2,3] [zq [2,1] 3 30] [(_,_),(_,_),(_,_),(_,_)] (by kernel_rfl) rfl rfl ⟨zo rfl rfl rfl rfl,trivial⟩ ?_
     refine pt_then ?_
     refine ht_seq ?_
     refine ht_cond _ rfl (fun hb37 => ?_) (fun hb37 => ?_)
     ·have h := cond_t hb37 h
      refine ht_skip ?_
      refine pt_then ?_
      refine ht_seq ?_
      refine ht_block ?_
      refine ht_seq ?_
      refine zh hn [_, _, _, _, (31, .v (.int .i64 s24)), (6, .v (.int .i64 s24))] [0,1,2,3] [0,1,2,5] [zq [2] 4 31, zq [4] 5 6] [(_,_),(_,_),(_,_),(_,_)] (by kernel_rfl) rfl rfl ⟨zm rfl rfl rfl,za rfl rfl rfl,trivial⟩ ?_
      refine pt_then ?_
      refine ht_seq ?_
      refine ht_joinS h (fun (s38 : Bool) => [(0, .v (.string s)), (28, .v (.int .i64 (s.size : Int))), (29, .v (.int .i64 s24)), (41, .v (.bool s38))]) ?_ ?_
      ·rintro s38 h
       refine pt_then ?_
       refine ht_cond _ rfl (fun hb42 => ?_) (fun hb42 => ?_)
       ·have h := cond_t hb42 h
        refine ht_seq ?_
        refine zh hn [_, _, _, _, (4, .v (.int .i64 0)), (5, .v (.bool false))] [0,1,2,3] [4,5] [zq [] 4 4, zq [] 5 5] [(_,_),(_,_)] (by kernel_rfl) rfl rfl ⟨za rfl rfl rfl,za rfl rfl rfl,trivial⟩ ?_
        refine pt_then ?_
        refine ht_ret ?_
        refine pt_r_in ?_
        refine pt_r_then ?_
        refine pt_r_then ?_
        refine pt_r_in ?_
        refine pt_r_then ?_
        have h := hr33 _ (ho34 _ (Option.some.inj h).symm).symm
        obtain rfl := Option.some.inj h
        exact pt_ret hio rfl (.tmp _ _ (.tmp _ _ .nil)) rfl rfl
       ·have h := cond_f hb42 h
        refine ht_skip ?_
        refine pt_inb ?_
        refine pt_then ?_
        obtain ⟨v16, hv16, h⟩ := bind_some h
        refine zh hn [_, _, _, _, (42, .v (.int .i64 v16)), (29, .v (.int .i64 v16))] [0,1,2,3] [0,1,5] [zq [2] 4 42, ⟨[4], [2], [5], [(.slot 29)]⟩] [(_,_),(_,_),(_,_)] (by kernel_rfl) rfl rfl ⟨zp rfl (op_bin _ _ _ _ _ rfl rfl (ibind (f := Value.int .i64) (Option.some.inj hv16))),zp rfl (LOp.drop [_] (op_move _ _ _ _ rfl rfl)),trivial⟩ ?_
        exact pt_next _ (Option.some.inj h).symm rfl
      ·intro u39 h hl40 hr41
       obtain ⟨v9, hv9, h⟩ := bind_some h
       refine cond_some h (fun hg6_4 h => ?_) (fun hg6_4 h => ?_)
       ·refine zh hn [_, _, _, _, (32, .v (.string s)), (33, .v (.int .i64 s24)), (34, .v (.int .u8 v9)), (35, .v (.bool ((decide (v9 < 48))))), (36, .v (.bool true)), (37, .v undef), (38, .v undef), (39, .v undef), (40, .v undef), (41, .v (.bool true))] [0,1,2,3] [0,1,2,13] [zq [0] 4 32, zq [3] 5 33, zq [4,5] 6 34, zq [6] 7 35, zq [7] 8 36, zq [8] 9 37, zq [8] 10 38, zq [8] 11 39, zq [8] 12 40, zq [8] 13 41] [(_,_),(_,_),(_,_),(_,_)] (by kernel_rfl) rfl rfl ⟨zm rfl rfl rfl,zm rfl rfl rfl,zp rfl (op_chr _ _ _ s24 _ Tryz.underlying9 rfl rfl hv9),zo rfl rfl rfl rfl,zm rfl (zb hg6_4) rfl,zs 4 false rfl rfl rfl rfl,zs 4 false rfl rfl rfl rfl,zs 4 false rfl rfl rfl rfl,zs 4 false rfl rfl rfl rfl,zk true rfl rfl rfl,trivial⟩ ?_
        exact hl40 _ (Option.some.inj h).symm
       ·obtain ⟨v10, hv10, h⟩ := bind_some h
        refine zh hn [_, _, _, _, (32, .v (.string s)), (33, .v (.int .i64 s24)), (34, .v (.int .u8 v9)), (35, .v (.bool ((decide (v9 < 48))))), (36, .v (.bool false)), (37, .v (.string s)), (38, .v (.int .i64 s24)), (39, .v (.int .u8 v10)), (40, .v (.bool ((decide (57 < v10))))), (41, .v (.bool ((decide (57 < v10)))))] [0,1,2,3] [0,1,2,13] [zq [0] 4 32, zq [3] 5 33, zq [4,5] 6 34, zq [6] 7 35, zq [7] 8 36, zq [8,0] 9 37, zq [8,3] 10 38, zq [8,9,10] 11 39, zq [8,11] 12 40, zq [8,12] 13 41] [(_,_),(_,_),(_,_),(_,_)] (by kernel_rfl) rfl rfl ⟨zm rfl rfl rfl,zm rfl rfl rfl,zp rfl (op_chr _ _ _ s24 _ Tryz.underlying9 rfl rfl hv9),zo rfl rfl rfl rfl,zm rfl (zb hg6_4) rfl,zr 4 rfl rfl rfl (op_move _ _ _ _ rfl rfl),zr 4 rfl rfl rfl (op_move _ _ _ _ rfl rfl),zr 4 rfl rfl rfl (op_chr _ _ _ s24 _ Tryz.underlying9 rfl rfl hv10),zr 4 rfl rfl rfl (op_bin _ _ _ _ _ rfl rfl rfl),zk false rfl rfl rfl,trivial⟩ ?_
        exact hl40 _ (Option.some.inj h).symm
     ·have h := cond_f hb37 h
      refine ht_exit ?_
      refine pt_x_then ?_
      refine pt_x_then ?_
      refine pt_x_in ?_
      refine pt_pick [0] (by kernel_rfl) (es' := [(_, _)]) rfl ?_
      exact hl32 _ (ho34 _ (Option.some.inj h).symm).symm
  ·intro u4 h hl5 hr6
   refine cond_some h (fun hg1_2 h => ?_) (fun hg1_2 h => ?_)
   ·refine zh hn (_ :: _ :: (9, .v (.string s)) :: (10, .v (.bool ((s.toList == (⟨#[]⟩ : ByteArray).toList)))) :: (11, .v (.bool true)) :: (12, .v undef) :: (13, .v undef) :: (14, .v undef) :: (15, .v undef) :: (16, .v undef) :: (17, .v (.bool true)) :: (18, .v (.bool true)) :: (19, .v undef) :: (20, .v undef) :: (21, .v undef) :: (22, .v undef) :: (23, .v undef) :: (24, .v undef) :: (25, .v undef) :: (26, .v (.bool true)) :: []) [0,1] [0,19] (zq [0] 2 9 :: zq [2] 3 10 :: zq [3] 4 11 :: zq [4] 5 12 :: zq [4] 6 13 :: zq [4] 7 14 :: zq [4] 8 15 :: zq [4] 9 16 :: zq [4] 10 17 :: zq [10] 11 18 :: zq [11] 12 19 :: zq [11] 13 20 :: zq [11] 14 21 :: zq [11] 15 22 :: zq [15] 16 23 :: zq [15] 17 24 :: zq [11] 18 25 :: zq [11] 19 26 :: []) [(_,_),(_,_)] (by kernel_rfl) rfl rfl ⟨zm rfl rfl rfl,zo rfl rfl rfl rfl,zm rfl (zb hg1_2) rfl,zs 2 false rfl rfl rfl rfl,zs 2 false rfl rfl rfl rfl,zs 2 false rfl rfl rfl rfl,zs 2 false rfl rfl rfl rfl,zs 2 false rfl rfl rfl rfl,zk true rfl rfl rfl,zm rfl rfl rfl,zs 9 false rfl rfl rfl rfl,zs 9 false rfl rfl rfl rfl,zs 9 false rfl rfl rfl rfl,zs 9 false rfl rfl rfl rfl,zu 13 rfl rfl rfl rfl,zu 13 rfl rfl rfl rfl,zs 9 false rfl rfl rfl rfl,zk true rfl rfl rfl,trivial⟩ ?_
    exact hl5 _ (Option.some.inj h).symm
   ·obtain ⟨v1, hv1, h⟩ := bind_some h
    refine cond_some h (fun hg1_9 h => ?_) (fun hg1_9 h => ?_)
    ·refine zh hn (_ :: _ :: (9, .v (.string s)) :: (10, .v (.bool ((s.toList == (⟨#[]⟩ : ByteArray).toList)))) :: (11, .v (.bool false)) :: (12, .v (.string s)) :: (13, .v (.int .i64 (s.size : Int))) :: (14, .v (.int .i64 digits)) :: (15, .v (.int .i64 v1)) :: (16, .v (.bool ((decide (v1 < (s.size : Int)))))) :: (17, .v (.bool ((decide (v1 < (s.size : Int)))))) :: (18, .v (.bool true)) :: (19, .v undef) :: (20, .v undef) :: (21, .v undef) :: (22, .v undef) :: (23, .v undef) :: (24, .v undef) :: (25, .v undef) :: (26, .v (.bool true)) :: []) [0,1] [0,19] (zq [0] 2 9 :: zq [2] 3 10 :: zq [3] 4 11 :: zq [4,0] 5 12 :: zq [4,5] 6 13 :: zq [4,1] 7 14 :: zq [4,7] 8 15 :: zq [4,6,8] 9 16 :: zq [4,9] 10 17 :: zq [10] 11 18 :: zq [11] 12 19 :: zq [11] 13 20 :: zq [11] 14 21 :: zq [11] 15 22 :: zq [15] 16 23 :: zq [15] 17 24 :: zq [11] 18 25 :: zq [11] 19 26 :: []) [(_,_),(_,_)] (by kernel_rfl) rfl rfl ⟨zm rfl rfl rfl,zo rfl rfl rfl rfl,zm rfl (zb hg1_2) rfl,zr 2 rfl rfl rfl (op_move _ _ _ _ rfl rfl),zr 2 rfl rfl rfl (op_len_str _ _ _ Tryz.underlying9 rfl),zr 2 rfl rfl rfl (op_move _ _ _ _ rfl rfl),zr 2 rfl rfl rfl ((Option.some.inj hv1) ▸ op_min _ _ _ _ rfl rfl),zr 2 rfl rfl rfl (op_bin _ _ _ _ _ rfl rfl rfl),zk false rfl rfl rfl,zm rfl (zb hg1_9) rfl,zs 9 false rfl rfl rfl rfl,zs 9 false rfl rfl rfl rfl,zs 9 false rfl rfl rfl rfl,zs 9 false rfl rfl rfl rfl,zu 13 rfl rfl rfl rfl,zu 13 rfl rfl rfl rfl,zs 9 false rfl rfl rfl rfl,zk true rfl rfl rfl,trivial⟩ ?_
     exact hl5 _ (Option.some.inj h).symm
    ·obtain ⟨v2, hv2, h⟩ := bind_some h
     refine cond_some h (fun hg1_13 h => ?_) (fun hg1_13 h => ?_)
     ·refine zh hn (_ :: _ :: (9, .v (.string s)) :: (10, .v (.bool ((s.toList == (⟨#[]⟩ : ByteArray).toList)))) :: (11, .v (.bool false)) :: (12, .v (.string s)) :: (13, .v (.int .i64 (s.size : Int))) :: (14, .v (.int .i64 digits)) :: (15, .v (.int .i64 v1)) :: (16, .v (.bool ((decide (v1 < (s.size : Int)))))) :: (17, .v (.bool ((decide (v1 < (s.size : Int)))))) :: (18, .v (.bool false)) :: (19, .v (.string s)) :: (20, .v (.int .u8 v2)) :: (21, .v (.bool (v2 == 48))) :: (22, .v (.bool true)) :: (23, .v (.string s)) :: (24, .v (.bool ((!(s.toList == (⟨#[48]⟩ : ByteArray).toList))))) :: (25, .v (.bool ((!(s.toList == (⟨#[48]⟩ : ByteArray).toList))))) :: (26, .v (.bool ((!(s.toList == (⟨#[48]⟩ : ByteArray).toList))))) :: []) [0,1] [0,19] (zq [0] 2 9 :: zq [2] 3 10 :: zq [3] 4 11 :: zq [4,0] 5 12 :: zq [4,5] 6 13 :: zq [4,1] 7 14 :: zq [4,7] 8 15 :: zq [4,6,8] 9 16 :: zq [4,9] 10 17 :: zq [10] 11 18 :: zq [11,0] 12 19 :: zq [11,12] 13 20 :: zq [11,13] 14 21 :: zq [11,14] 15 22 :: zq [15,0] 16 23 :: zq [15,16] 17 24 :: zq [11,15,17] 18 25 :: zq [11,18] 19 26 :: []) [(_,_),(_,_)] (by kernel_rfl) rfl rfl ⟨zm rfl rfl rfl,zo rfl rfl rfl rfl,zm rfl (zb hg1_2) rfl,zr 2 rfl rfl rfl (op_move _ _ _ _ rfl rfl),zr 2 rfl rfl rfl (op_len_str _ _ _ Tryz.underlying9 rfl),zr 2 rfl rfl rfl (op_move _ _ _ _ rfl rfl),zr 2 rfl rfl rfl ((Option.some.inj hv1) ▸ op_min _ _ _ _ rfl rfl),zr 2 rfl rfl rfl (op_bin _ _ _ _ _ rfl rfl rfl),zk false rfl rfl rfl,zm rfl (zb hg1_9) rfl,zr 9 rfl rfl rfl (op_move _ _ _ _ rfl rfl),zr 9 rfl rfl rfl (op_chr _ _ _ 0 _ Tryz.underlying9 rfl rfl hv2),zr 9 rfl rfl rfl (op_bin _ _ _ _ _ rfl rfl rfl),zr 9 rfl rfl rfl (op_move _ _ _ _ (zb hg1_13) rfl),zr 13 rfl rfl rfl (op_move _ _ _ _ rfl rfl),zr 13 rfl rfl rfl (op_bin _ _ _ _ _ rfl rfl rfl),zr 9 rfl rfl rfl (op_pick _ _ true _ rfl rfl),zk false rfl rfl rfl,trivial⟩ ?_
      exact hl5 _ (Option.some.inj h).symm
     ·refine zh hn (_ :: _ :: (9, .v (.string s)) :: (10, .v (.bool ((s.toList == (⟨#[]⟩ : ByteArray).toList)))) :: (11, .v (.bool false)) :: (12, .v (.string s)) :: (13, .v (.int .i64 (s.size : Int))) :: (14, .v (.int .i64 digits)) :: (15, .v (.int .i64 v1)) :: (16, .v (.bool ((decide (v1 < (s.size : Int)))))) :: (17, .v (.bool ((decide (v1 < (s.size : Int)))))) :: (18, .v (.bool false)) :: (19, .v (.string s)) :: (20, .v (.int .u8 v2)) :: (21, .v (.bool (v2 == 48))) :: (22, .v (.bool false)) :: (23, .v undef) :: (24, .v undef) :: (25, .v (.bool false)) :: (26, .v (.bool false)) :: []) [0,1] [0,19] (zq [0] 2 9 :: zq [2] 3 10 :: zq [3] 4 11 :: zq [4,0] 5 12 :: zq [4,5] 6 13 :: zq [4,1] 7 14 :: zq [4,7] 8 15 :: zq [4,6,8] 9 16 :: zq [4,9] 10 17 :: zq [10] 11 18 :: zq [11,0] 12 19 :: zq [11,12] 13 20 :: zq [11,13] 14 21 :: zq [11,14] 15 22 :: zq [15] 16 23 :: zq [15] 17 24 :: zq [11,15] 18 25 :: zq [11,18] 19 26 :: []) [(_,_),(_,_)] (by kernel_rfl) rfl rfl ⟨zm rfl rfl rfl,zo rfl rfl rfl rfl,zm rfl (zb hg1_2) rfl,zr 2 rfl rfl rfl (op_move _ _ _ _ rfl rfl),zr 2 rfl rfl rfl (op_len_str _ _ _ Tryz.underlying9 rfl),zr 2 rfl rfl rfl (op_move _ _ _ _ rfl rfl),zr 2 rfl rfl rfl ((Option.some.inj hv1) ▸ op_min _ _ _ _ rfl rfl),zr 2 rfl rfl rfl (op_bin _ _ _ _ _ rfl rfl rfl),zk false rfl rfl rfl,zm rfl (zb hg1_9) rfl,zr 9 rfl rfl rfl (op_move _ _ _ _ rfl rfl),zr 9 rfl rfl rfl (op_chr _ _ _ 0 _ Tryz.underlying9 rfl rfl hv2),zr 9 rfl rfl rfl (op_bin _ _ _ _ _ rfl rfl rfl),zr 9 rfl rfl rfl (op_move _ _ _ _ (zb hg1_13) rfl),zs 13 true rfl rfl rfl rfl,zs 13 true rfl rfl rfl rfl,zr 9 rfl rfl rfl (op_pick _ _ false _ rfl rfl),zk false rfl rfl rfl,trivial⟩ ?_
      exact hl5 _ (Option.some.inj h).symm
set_option maxHeartbeats 1000000 in
theorem ok_verb_oneOf (s : ByteArray) (words : (List ByteArray)) (r : (ByteArray × Bool)) (h : Sh.verb_oneOf s words = some r) : FnOK Tryz.prog 81 [.v (.string s), .fl .shr 1 (List.map Value.string words)] (.tup [.v (.string r.1), .v (.bool r.2)]) := by
  unfold Sh.verb_oneOf at h
  refine fn_ok Tryz.func81 rfl (zl rfl) rfl rfl fun g0 hn hio => ?_
  refine ht_seq ?_
  refine zh hn [_, _, (4, .v (.string (⟨#[]⟩ : ByteArray))), (5, .v (.bool false))] [0,1] [0,1] [zq [] 2 4, zq [] 3 5] [(_,_),(_,_)] (by kernel_rfl) rfl rfl ⟨za rfl rfl rfl,za rfl rfl rfl,trivial⟩ ?_
  refine pt_then ?_
  refine ht_seq ?_
  refine ht_seq ?_
  refine zh hn [_, _, (8, .fl .shr 1 (List.map Value.string words)), (9, .v (.int .i64 (words.length : Int))), (10, .v (.int .i64 0))] [0,1] [0,2,3,4] [zq [1] 2 8, zq [2] 3 9, zq [] 4 10] [(_,_),(_,_),(_,_),(_,_)] (by kernel_rfl) rfl rfl ⟨zm rfl rfl rfl,zp rfl (op_len_fl _ _ _ Tryz.underlying43 rfl (by decide) (map_len _)),zm rfl rfl rfl,trivial⟩ ?_
  refine pt_then ?_
  refine ht_loopS h (fun (s10 : Int) => [(0, .v (.string s)), (8, .fl .shr 1 (List.map Value.string words)), (9, .v (.int .i64 (words.length : Int))), (10, .v (.int .i64 s10))]) (fun (() : Unit) => []) ?_ ?_
  ·rintro ⟨⟩ h
   refine pt_then ?_
   refine ht_seq ?_
   refine zh hn [(4, .v (.string (⟨#[]⟩ : ByteArray))), (5, .v (.bool false))] [] [0,1] [zq [] 0 4, zq [] 1 5] [(_,_),(_,_)] (by kernel_rfl) rfl rfl ⟨za rfl rfl rfl,za rfl rfl rfl,trivial⟩ ?_
   refine pt_then ?_
   refine ht_ret ?_
   obtain rfl := Option.some.inj h
   exact pt_ret hio rfl (.tmp _ _ (.tmp _ _ .nil)) rfl rfl
  ·rintro u13 hl14 hr15 s10 rr18 h ho16
   refine ht_seq ?_
   refine zh hn [_, _, _, _, (11, .v (.bool ((decide (s10 < (words.length : Int))))))] [0,1,2,3] [0,1,2,3,4] [zq [3,2] 4 11] [(_,_),(_,_),(_,_),(_,_),(_,_)] (by kernel_rfl) rfl rfl ⟨zo rfl rfl rfl rfl,trivial⟩ ?_
   refine pt_then ?_
   refine ht_seq ?_
   refine ht_cond _ rfl (fun hb19 => ?_) (fun hb19 => ?_)
   ·have h := cond_t hb19 h
    refine ht_skip ?_
    refine pt_then ?_
    refine ht_seq ?_
    refine ht_block ?_
    refine ht_seq ?_
    obtain ⟨v2, hv2, h⟩ := bind_some h
    obtain ⟨v3, hv3, h⟩ := bind_some h
    refine zh hn [_, _, _, _, _, (12, .eref (.slot 8) (v2 * 1)), (13, .v (.string v3)), (7, .v (.string v3))] [0,1,2,3,4] [0,1,2,3,7] [zq [1,3] 5 12, zq [5,1] 6 13, zq [6] 7 7] [(_,_),(_,_),(_,_),(_,_),(_,_)] (by kernel_rfl) rfl rfl ⟨zp rfl (op_ix _ _ _ _ _ _ _ _ Tryz.underlying43 sz9 (by decide) rfl rfl rfl (ix_ok hv2).1 (map_lt (ix_ok hv2).2) rfl),zp rfl (op_load_e _ _ _ _ _ _ Tryz.underlying9 rfl rfl rfl (map_get hv3)),za rfl rfl rfl,trivial⟩ ?_
    refine pt_then ?_
    refine ht_seq ?_
    obtain ⟨v4, hv4, h⟩ := bind_some h
    refine zh hn [_, _, _, _, _, (14, .v (.string s)), (15, .v (.string v3)), (16, .v (.bool v4))] [0,1,2,3,4] [0,1,2,3,4,7] [zq [0] 5 14, zq [4] 6 15, zq [5,6] 7 16] [(_,_),(_,_),(_,_),(_,_),(_,_),(_,_)] (by kernel_rfl) rfl rfl ⟨zm rfl rfl rfl,zm rfl rfl rfl,zp rfl (op_call _ _ 36 _ _ rfl Tryz.call36 rfl (ok_verb_equalFold s v3 _ hv4) rfl rfl),trivial⟩ ?_
    refine pt_then ?_
    refine ht_cond _ rfl (fun hb20 => ?_) (fun hb20 => ?_)
    ·have h := cond_t hb20 h
     refine ht_seq ?_
     refine zh hn [_, _, _, _, _, _, (17, .v (.string v3)), (4, .v (.string v3)), (5, .v (.bool true))] [0,1,2,3,4,5] [7,8] [zq [4] 6 17, zq [6] 7 4, zq [] 8 5] [(_,_),(_,_)] (by kernel_rfl) rfl rfl ⟨zm rfl rfl rfl,za rfl rfl rfl,za rfl rfl rfl,trivial⟩ ?_
     refine pt_then ?_
     refine ht_ret ?_
     refine pt_r_in ?_
     refine pt_r_then ?_
     refine pt_r_then ?_
     refine pt_r_in ?_
     refine pt_r_then ?_
     have h := hr15 _ (ho16 _ (Option.some.inj h).symm).symm
     obtain rfl := Option.some.inj h
     exact pt_ret hio rfl (.tmp _ _ (.tmp _ _ .nil)) rfl rfl
    ·have h := cond_f hb20 h
     refine ht_skip ?_
     refine pt_inb ?_
     refine pt_then ?_
     obtain ⟨v6, hv6, h⟩ := bind_some h
     refine zh hn [_, _, _, _, _, _, (18, .v (.int .i64 v6)), (10, .v (.int .i64 v6))] [0,1,2,3,4,5] [0,1,2,7] [zq [3] 6 18, ⟨[6], [3], [7], [(.slot 10)]⟩] [(_,_),(_,_),(_,_),(_,_)] (by kernel_rfl) rfl rfl ⟨zp rfl (op_bin _ _ _ _ _ rfl rfl (ibind (f := Value.int .i64) (Option.some.inj hv6))),zp rfl (LOp.drop [_] (op_move _ _ _ _ rfl rfl)),trivial⟩ ?_
     exact pt_next _ (Option.some.inj h).symm rfl
   ·have h := cond_f hb19 h
    refine ht_exit ?_
    refine pt_x_then ?_
    refine pt_x_then ?_
    refine pt_x_in ?_
    refine pt_pick [] (by kernel_rfl) (es' := []) rfl ?_
    exact hl14 _ (ho16 _ (Option.some.inj h).symm).symm
set_option maxHeartbeats 1000000 in
theorem ok_verb_parameter (kind : Int) (key : ByteArray) (val : ByteArray) (r : (T_Param × Bool)) (h : Sh.verb_parameter kind key val = some r) : FnOK Tryz.prog 67 [.v (.int .i64 kind), .v (.string key), .v (.string val)] (.tup [.agg [.v (.string r.1.Key), .v (.string r.1.Val)], .v (.bool r.2)]) := by
  unfold Sh.verb_parameter at h
  refine fn_ok Tryz.func67 rfl (zl rfl) rfl rfl fun g0 hn hio => ?_
  refine ht_seq ?_
  refine zh hn [_, _, _, (6, .box 47 [.v (.string (⟨#[]⟩ : ByteArray)), .v (.string (⟨#[]⟩ : ByteArray))]), (7, .v (.bool false))] [0,1,2] [0,1,2,3] [zq [] 3 6, zq [] 4 7] [(_,_),(_,_),(_,_),(_,_)] (by kernel_rfl) rfl rfl ⟨zp rfl (op_alloc _ _ zr47),za rfl rfl rfl,trivial⟩ ?_
  refine pt_then ?_
  refine ht_seq ?_
  refine ht_block ?_
  refine ht_seq ?_
  refine ht_joinS h (fun (s1 : Bool) => [(0, .v (.int .i64 kind)), (1, .v (.string key)), (2, .v (.string val)), (6, .box 47 [.v (.string (⟨#[]⟩ : ByteArray)), .v (.string (⟨#[]⟩ : ByteArray))]), (14, .v (.bool s1))]) ?_ ?_
  ·rintro s1 h
   refine pt_then ?_
   refine ht_cond _ rfl (fun hb5 => ?_) (fun hb5 => ?_)
   ·have h := cond_t hb5 h
    refine ht_seq ?_
    obtain ⟨v6, hv6, h⟩ := bind_some h
    refine zh hn [_, _, _, _, _, (22, .v (.string val)), (23, .tup [.v (.int .i64 v6.1), .v (.bool v6.2)]), (21, .tup [.v (.int .i64 v6.1), .v (.bool v6.2)]), (24, .v (.int .i64 v6.1)), (25, .v (.bool v6.2)), (8, .v (.int .i64 v6.1)), (9, .v (.bool v6.2))] [0,1,2,3,4] [2,3,11] [zq [2] 5 22, zq [5] 6 23, ⟨[], [6], [7], [(.slot 21)]⟩, zq [7] 8 24, zq [7] 9 25, zq [8] 10 8, zq [9] 11 9] [(_,_),(_,_),(_,_)] (by kernel_rfl) rfl rfl ⟨zm rfl rfl rfl,zp rfl (op_call _ _ 80 _ _ rfl Tryz.call80 rfl (ok_number_Parse val 9 _ hv6) rfl rfl),zp rfl (op_move_take _ _ _ _ rfl),zp rfl (op_extract _ _ _ _ _ rfl rfl (zl rfl) rfl rfl),zp rfl (op_extract _ _ _ _ _ rfl rfl (zl rfl) rfl rfl),za rfl rfl rfl,za rfl rfl rfl,trivial⟩ ?_
    refine pt_then ?_
    refine ht_seq ?_
    refine zh hn [_, _, _, (26, .v (.string val)), (27, .agg [.v (.string (⟨#[83, 73, 90, 69]⟩ : ByteArray)), .v (.string val)]), (28, .v (.bool v6.2)), (6, .box 47 [.v (.string (⟨#[83, 73, 90, 69]⟩ : ByteArray)), .v (.string val)]), (7, .v (.bool v6.2))] [0,1,2] [6,7] [zq [0] 3 26, zq [3] 4 27, zq [2] 5 28, ⟨[4], [1], [6], [.cell 6 0, .cell 6 1]⟩, zq [5] 7 7] [(_,_),(_,_)] (by kernel_rfl) rfl rfl ⟨zm rfl rfl rfl,zp rfl (op_build _ _ _ _ [1, 1] _ _ Tryz.underlying47 zr47 (fs47 _ Tryz.underlying47) (.copy _ (.copy _ Src.nil)) rfl rfl rfl),zm rfl rfl rfl,zp rfl (op_store _ _ _ _ _ _ _ _ sz47 rfl rfl rfl rfl (zl rfl) rfl rfl),za rfl rfl rfl,trivial⟩ ?_
    refine pt_then ?_
    refine ht_ret ?_
    refine pt_r_in ?_
    refine pt_r_then ?_
    obtain rfl := Option.some.inj h
    exact pt_ret hio rfl (.cellA _ _ _ _ Tryz.underlying47 rfl sz47 (.tmp _ _ .nil)) rfl rfl
   ·have h := cond_f hb5 h
    refine ht_seq ?_
    refine ht_joinS h (fun (s7 : Bool) => [(0, .v (.int .i64 kind)), (1, .v (.string key)), (2, .v (.string val)), (6, .box 47 [.v (.string (⟨#[]⟩ : ByteArray)), .v (.string (⟨#[]⟩ : ByteArray))]), (29, .v (.bool s7))]) ?_ ?_
    ·rintro s7 h
     refine pt_then ?_
     refine ht_cond _ rfl (fun hb11 => ?_) (fun hb11 => ?_)
     ·have h := cond_t hb11 h
      refine ht_seq ?_
      obtain ⟨v12, hv12, h⟩ := bind_some h
      refine zh hn [_, _, _, _, _, (37, .v (.string val)), (38, .fl (.own 9) 1 (List.map Value.string ([(⟨#[70, 85, 76, 76]⟩ : ByteArray), (⟨#[72, 68, 82, 83]⟩ : ByteArray)]))), (39, .tup [.v (.string v12.1), .v (.bool v12.2)]), (36, .tup [.v (.string v12.1), .v (.bool v12.2)]), (40, .v (.string v12.1)), (41, .v (.bool v12.2)), (10, .v (.string v12.1)), (11, .v (.bool v12.2))] [0,1,2,3,4] [3,11,12] [zq [2] 5 37, zq [] 6 38, zq [5,6] 7 39, ⟨[], [7], [8], [(.slot 36)]⟩, zq [8] 9 40, zq [8] 10 41, zq [9] 11 10, zq [10] 12 11] [(_,_),(_,_),(_,_)] (by kernel_rfl) rfl rfl ⟨zm rfl rfl rfl,zp rfl (op_buildSlice _ _ 1 (.string ByteArray.empty) (List.map Value.string ([(⟨#[70, 85, 76, 76]⟩ : ByteArray), (⟨#[72, 68, 82, 83]⟩ : ByteArray)])) [(0, .string (⟨#[70, 85, 76, 76]⟩ : ByteArray)), (1, .string (⟨#[72, 68, 82, 83]⟩ : ByteArray))] Tryz.underlying43 sz9 zr9 (fun _ V w o a hv hes => by simp only [List.map_toArray, List.map_cons, List.map_nil]; try rfl) (litfill (by simp [Instr.fill, Value.cells]; rfl) (by simp [List.range, List.range.loop] <;> rfl)) (by simp [Value.oneCell']) rfl (by decide) (by decide) (by decide)),zp rfl (op_call _ _ 81 _ _ rfl Tryz.call81 rfl (ok_verb_oneOf val ([(⟨#[70, 85, 76, 76]⟩ : ByteArray), (⟨#[72, 68, 82, 83]⟩ : ByteArray)]) _ hv12) rfl rfl),zp rfl (op_move_take _ _ _ _ rfl),zp rfl (op_extract _ _ _ _ _ rfl rfl (zl rfl) rfl rfl),zp rfl (op_extract _ _ _ _ _ rfl rfl (zl rfl) rfl rfl),za rfl rfl rfl,za rfl rfl rfl,trivial⟩ ?_
      refine pt_then ?_
      refine ht_seq ?_
      refine zh hn [_, _, _, (42, .v (.string v12.1)), (43, .agg [.v (.string (⟨#[82, 69, 84]⟩ : ByteArray)), .v (.string v12.1)]), (44, .v (.bool v12.2)), (6, .box 47 [.v (.string (⟨#[82, 69, 84]⟩ : ByteArray)), .v (.string v12.1)]), (7, .v (.bool v12.2))] [0,1,2] [6,7] [zq [1] 3 42, zq [3] 4 43, zq [2] 5 44, ⟨[4], [0], [6], [.cell 6 0, .cell 6 1]⟩, zq [5] 7 7] [(_,_),(_,_)] (by kernel_rfl) rfl rfl ⟨zm rfl rfl rfl,zp rfl (op_build _ _ _ _ [1, 1] _ _ Tryz.underlying47 zr47 (fs47 _ Tryz.underlying47) (.copy _ (.copy _ Src.nil)) rfl rfl rfl),zm rfl rfl rfl,zp rfl (op_store _ _ _ _ _ _ _ _ sz47 rfl rfl rfl rfl (zl rfl) rfl rfl),za rfl rfl rfl,trivial⟩ ?_
      refine pt_then ?_
      refine ht_ret ?_
      refine pt_r_in ?_
      refine pt_r_then ?_
      obtain rfl := Option.some.inj h
      exact pt_ret hio rfl (.cellA _ _ _ _ Tryz.underlying47 rfl sz47 (.tmp _ _ .nil)) rfl rfl
     ·have h := cond_f hb11 h
      refine ht_seq ?_
      refine ht_joinS h (fun (s13 : Bool) => [(2, .v (.string val)), (6, .box 47 [.v (.string (⟨#[]⟩ : ByteArray)), .v (.string (⟨#[]⟩ : ByteArray))]), (45, .v (.bool s13))]) ?_ ?_
      ·rintro s13 h
       refine pt_then ?_
       refine ht_cond _ rfl (fun hb17 => ?_) (fun hb17 => ?_)
       ·have h := cond_t hb17 h
        refine ht_seq ?_
        obtain ⟨v18, hv18, h⟩ := bind_some h
        refine zh hn [_, _, _, (53, .v (.string val)), (54, .fl (.own 9) 1 (List.map Value.string ([(⟨#[78, 69, 86, 69, 82]⟩ : ByteArray), (⟨#[70, 65, 73, 76, 85, 82, 69]⟩ : ByteArray)]))), (55, .tup [.v (.string v18.1), .v (.bool v18.2)]), (52, .tup [.v (.string v18.1), .v (.bool v18.2)]), (56, .v (.string v18.1)), (57, .v (.bool v18.2)), (12, .v (.string v18.1)), (13, .v (.bool v18.2))] [0,1,2] [1,9,10] [zq [0] 3 53, zq [] 4 54, zq [3,4] 5 55, ⟨[], [5], [6], [(.slot 52)]⟩, zq [6] 7 56, zq [6] 8 57, zq [7] 9 12, zq [8] 10 13] [(_,_),(_,_),(_,_)] (by kernel_rfl) rfl rfl ⟨zm rfl rfl rfl,zp rfl (op_buildSlice _ _ 1 (.string ByteArray.empty) (List.map Value.string ([(⟨#[78, 69, 86, 69, 82]⟩ : ByteArray), (⟨#[70, 65, 73, 76, 85, 82, 69]⟩ : ByteArray)])) [(0, .string (⟨#[78, 69, 86, 69, 82]⟩ : ByteArray)), (1, .string (⟨#[70, 65, 73, 76, 85, 82, 69]⟩ : ByteArray))] Tryz.underlying43 sz9 zr9 (fun _ V w o a hv hes => by simp only [List.map_toArray, List.map_cons, List.map_nil]; try rfl) (litfill (by simp [Instr.fill, Value.cells]; rfl) (by simp [List.range, List.range.loop] <;> rfl)) (by simp [Value.oneCell']) rfl (by decide) (by decide) (by decide)),zp rfl (op_call _ _ 81 _ _ rfl Tryz.call81 rfl (ok_verb_oneOf val ([(⟨#[78, 69, 86, 69, 82]⟩ : ByteArray), (⟨#[70, 65, 73, 76, 85, 82, 69]⟩ : ByteArray)]) _ hv18) rfl rfl),zp rfl (op_move_take _ _ _ _ rfl),zp rfl (op_extract _ _ _ _ _ rfl rfl (zl rfl) rfl rfl),zp rfl (op_extract _ _ _ _ _ rfl rfl (zl rfl) rfl rfl),za rfl rfl rfl,za rfl rfl rfl,trivial⟩ ?_
        refine pt_then ?_
        refine ht_seq ?_
        refine zh hn [_, _, _, (58, .v (.string v18.1)), (59, .agg [.v (.string (⟨#[78, 79, 84, 73, 70, 89]⟩ : ByteArray)), .v (.string v18.1)]), (60, .v (.bool v18.2)), (6, .box 47 [.v (.string (⟨#[78, 79, 84, 73, 70, 89]⟩ : ByteArray)), .v (.string v18.1)]), (7, .v (.bool v18.2))] [0,1,2] [6,7] [zq [1] 3 58, zq [3] 4 59, zq [2] 5 60, ⟨[4], [0], [6], [.cell 6 0, .cell 6 1]⟩, zq [5] 7 7] [(_,_),(_,_)] (by kernel_rfl) rfl rfl ⟨zm rfl rfl rfl,zp rfl (op_build _ _ _ _ [1, 1] _ _ Tryz.underlying47 zr47 (fs47 _ Tryz.underlying47) (.copy _ (.copy _ Src.nil)) rfl rfl rfl),zm rfl rfl rfl,zp rfl (op_store _ _ _ _ _ _ _ _ sz47 rfl rfl rfl rfl (zl rfl) rfl rfl),za rfl rfl rfl,trivial⟩ ?_
        refine pt_then ?_
        refine ht_ret ?_
        refine pt_r_in ?_
        refine pt_r_then ?_
        obtain rfl := Option.some.inj h
        exact pt_ret hio rfl (.cellA _ _ _ _ Tryz.underlying47 rfl sz47 (.tmp _ _ .nil)) rfl rfl
       ·have h := cond_f hb17 h
        refine ht_skip ?_
        refine pt_inb ?_
        refine pt_then ?_
        refine ht_seq ?_
        refine zh hn [_, _, _, (61, .agg [.v (.string (⟨#[]⟩ : ByteArray)), .v (.string (⟨#[]⟩ : ByteArray))]), (6, .box 47 [.v (.string (⟨#[]⟩ : ByteArray)), .v (.string (⟨#[]⟩ : ByteArray))]), (7, .v (.bool false))] [0,1,2] [4,5] [zq [] 3 61, ⟨[], [3, 1], [4], [.cell 6 0, .cell 6 1]⟩, zq [] 5 7] [(_,_),(_,_)] (by kernel_rfl) rfl rfl ⟨zp rfl (op_build _ _ _ _ [1, 1] _ _ Tryz.underlying47 zr47 (fs47 _ Tryz.underlying47) Src.nil rfl rfl rfl),zp rfl (op_store_self _ _ _ 61 6 2 sz47 rfl rfl rfl rfl rfl (.eq _ (.eq _ (.nil _))) rfl),za rfl rfl rfl,trivial⟩ ?_
        refine pt_then ?_
        refine ht_ret ?_
        obtain rfl := Option.some.inj h
        exact pt_ret hio rfl (.cellA _ _ _ _ Tryz.underlying47 rfl sz47 (.tmp _ _ .nil)) rfl rfl
      ·intro u14 h hl15 hr16
       refine cond_some h (fun hg7_2 h => ?_) (fun hg7_2 h => ?_)
       ·refine zh hn [_, _, _, _, _, (46, .v (.int .i64 kind)), (47, .v (.bool (kind == 3))), (48, .v (.bool true)), (49, .v (.string key)), (50, .v (.bool ((key.toList == (⟨#[110, 111, 116, 105, 102, 121]⟩ : ByteArray).toList)))), (51, .v (.bool ((key.toList == (⟨#[110, 111, 116, 105, 102, 121]⟩ : ByteArray).toList)))), (45, .v (.bool ((key.toList == (⟨#[110, 111, 116, 105, 102, 121]⟩ : ByteArray).toList))))] [0,1,2,3,4] [2,3,11] [zq [0] 5 46, zq [5] 6 47, zq [6] 7 48, zq [7,1] 8 49, zq [7,8] 9 50, zq [7,9] 10 51, zq [10] 11 45] [(_,_),(_,_),(_,_)] (by kernel_rfl) rfl rfl ⟨zm rfl rfl rfl,zo rfl rfl rfl rfl,zm rfl (zb hg7_2) rfl,zr 2 rfl rfl rfl (op_move _ _ _ _ rfl rfl),zr 2 rfl rfl rfl (op_bin _ _ _ _ _ rfl rfl rfl),zk true rfl rfl rfl,za rfl rfl rfl,trivial⟩ ?_
        exact hl15 _ (Option.some.inj h).symm
       ·refine zh hn [_, _, _, _, _, (46, .v (.int .i64 kind)), (47, .v (.bool (kind == 3))), (48, .v (.bool false)), (49, .v undef), (50, .v undef), (51, .v (.bool false)), (45, .v (.bool false))] [0,1,2,3,4] [2,3,11] [zq [0] 5 46, zq [5] 6 47, zq [6] 7 48, zq [7] 8 49, zq [7] 9 50, zq [7] 10 51, zq [10] 11 45] [(_,_),(_,_),(_,_)] (by kernel_rfl) rfl rfl ⟨zm rfl rfl rfl,zo rfl rfl rfl rfl,zm rfl (zb hg7_2) rfl,zs 2 true rfl rfl rfl rfl,zs 2 true rfl rfl rfl rfl,zk false rfl rfl rfl,za rfl rfl rfl,trivial⟩ ?_
        exact hl15 _ (Option.some.inj h).symm
    ·intro u8 h hl9 hr10
     refine cond_some h (fun hg4_2 h => ?_) (fun hg4_2 h => ?_)
     ·refine zh hn [_, _, _, _, _, (30, .v (.int .i64 kind)), (31, .v (.bool (kind == 2))), (32, .v (.bool true)), (33, .v (.string key)), (34, .v (.bool ((key.toList == (⟨#[114, 101, 116]⟩ : ByteArray).toList)))), (35, .v (.bool ((key.toList == (⟨#[114, 101, 116]⟩ : ByteArray).toList)))), (29, .v (.bool ((key.toList == (⟨#[114, 101, 116]⟩ : ByteArray).toList))))] [0,1,2,3,4] [0,1,2,3,11] [zq [0] 5 30, zq [5] 6 31, zq [6] 7 32, zq [7,1] 8 33, zq [7,8] 9 34, zq [7,9] 10 35, zq [10] 11 29] [(_,_),(_,_),(_,_),(_,_),(_,_)] (by kernel_rfl) rfl rfl ⟨zm rfl rfl rfl,zo rfl rfl rfl rfl,zm rfl (zb hg4_2) rfl,zr 2 rfl rfl rfl (op_move _ _ _ _ rfl rfl),zr 2 rfl rfl rfl (op_bin _ _ _ _ _ rfl rfl rfl),zk true rfl rfl rfl,za rfl rfl rfl,trivial⟩ ?_
      exact hl9 _ (Option.some.inj h).symm
     ·refine zh hn [_, _, _, _, _, (30, .v (.int .i64 kind)), (31, .v (.bool (kind == 2))), (32, .v (.bool false)), (33, .v undef), (34, .v undef), (35, .v (.bool false)), (29, .v (.bool false))] [0,1,2,3,4] [0,1,2,3,11] [zq [0] 5 30, zq [5] 6 31, zq [6] 7 32, zq [7] 8 33, zq [7] 9 34, zq [7] 10 35, zq [10] 11 29] [(_,_),(_,_),(_,_),(_,_),(_,_)] (by kernel_rfl) rfl rfl ⟨zm rfl rfl rfl,zo rfl rfl rfl rfl,zm rfl (zb hg4_2) rfl,zs 2 true rfl rfl rfl rfl,zs 2 true rfl rfl rfl rfl,zk false rfl rfl rfl,za rfl rfl rfl,trivial⟩ ?_
      exact hl9 _ (Option.some.inj h).symm
  ·intro u2 h hl3 hr4
   refine cond_some h (fun hg1_2 h => ?_) (fun hg1_2 h => ?_)
   ·refine zh hn [_, _, _, _, (15, .v (.int .i64 kind)), (16, .v (.bool (kind == 2))), (17, .v (.bool true)), (18, .v (.string key)), (19, .v (.bool ((key.toList == (⟨#[115, 105, 122, 101]⟩ : ByteArray).toList)))), (20, .v (.bool ((key.toList == (⟨#[115, 105, 122, 101]⟩ : ByteArray).toList)))), (14, .v (.bool ((key.toList == (⟨#[115, 105, 122, 101]⟩ : ByteArray).toList))))] [0,1,2,3] [0,1,2,3,10] [zq [0] 4 15, zq [4] 5 16, zq [5] 6 17, zq [6,1] 7 18, zq [6,7] 8 19, zq [6,8] 9 20, zq [9] 10 14] [(_,_),(_,_),(_,_),(_,_),(_,_)] (by kernel_rfl) rfl rfl ⟨zm rfl rfl rfl,zo rfl rfl rfl rfl,zm rfl (zb hg1_2) rfl,zr 2 rfl rfl rfl (op_move _ _ _ _ rfl rfl),zr 2 rfl rfl rfl (op_bin _ _ _ _ _ rfl rfl rfl),zk true rfl rfl rfl,za rfl rfl rfl,trivial⟩ ?_
    exact hl3 _ (Option.some.inj h).symm
   ·refine zh hn [_, _, _, _, (15, .v (.int .i64 kind)), (16, .v (.bool (kind == 2))), (17, .v (.bool false)), (18, .v undef), (19, .v undef), (20, .v (.bool false)), (14, .v (.bool false))] [0,1,2,3] [0,1,2,3,10] [zq [0] 4 15, zq [4] 5 16, zq [5] 6 17, zq [6] 7 18, zq [6] 8 19, zq [6] 9 20, zq [9] 10 14] [(_,_),(_,_),(_,_),(_,_),(_,_)] (by kernel_rfl) rfl rfl ⟨zm rfl rfl rfl,zo rfl rfl rfl rfl,zm rfl (zb hg1_2) rfl,zs 2 true rfl rfl rfl rfl,zs 2 true rfl rfl rfl rfl,zk false rfl rfl rfl,za rfl rfl rfl,trivial⟩ ?_
    exact hl3 _ (Option.some.inj h).symm
set_option maxHeartbeats 1000000 in
theorem ok_verb_parameters_1_cap (bx : Nat) (q : T_Param) (cap : T_Param) (r : Bool) (h : Sh.verb_parameters_1_cap q cap = some r) : FnG Tryz.prog [(bx, [.string cap.Key, .string cap.Val])] 69 [.agg [.v (.string q.Key), .v (.string q.Val)], .v (.pointer (some ⟨bx, 0, none⟩))] (.v (.bool r)) := by
  unfold Sh.verb_parameters_1_cap at h
  refine fn_okG Tryz.func69 rfl (zl rfl) rfl rfl fun g0 hn hio => ?_
  refine ht_seq ?_
  refine zh hn [_, _, _, (2, .box 47 [.v (.string q.Key), .v (.string q.Val)]), (3, .v (.bool false))] [0,1,2] [1,2,3] [zq [0] 3 2, zq [] 4 3] [(_,_),(_,_),(_,_)] (by kernel_rfl) rfl rfl ⟨zp rfl (op_box _ _ _ _ rfl rfl rfl),za rfl rfl rfl,trivial⟩ ?_
  refine pt_then ?_
  refine ht_seq ?_
  refine zh hn [_, _, _, (4, .ptr 2 0), (5, .v (.string q.Key)), (6, .v (.pointer (some ⟨bx, 0, none⟩))), (7, .v (.string cap.Key)), (8, .v (.bool (q.Key.toList == cap.Key.toList))), (3, .v (.bool (q.Key.toList == cap.Key.toList)))] [0,1,2] [1,8] [zq [2] 3 4, zq [3,2] 4 5, zq [0] 5 6, zq [5,1] 6 7, zq [4,6] 7 8, zq [7] 8 3] [(_,_),(_,_)] (by kernel_rfl) rfl rfl ⟨zp rfl (op_fieldAddr _ _ _ _ 2 0 _ Tryz.underlying47 rfl sz9 rfl rfl (by decide)),zp rfl (op_load _ _ _ _ _ _ Tryz.underlying9 rfl rfl rfl (zl rfl) rfl rfl rfl),zp rfl (op_fieldAddr_v _ _ _ _ bx 0 _ Tryz.underlying47 rfl sz9 rfl rfl),zp rfl (op_load_glob _ _ 9 bx 0 _ _ Tryz.underlying9 rfl rfl rfl (.head _) rfl),zo rfl rfl rfl rfl,za rfl rfl rfl,trivial⟩ ?_
  refine pt_then ?_
  refine ht_ret ?_
  refine pt_pick [1] (by kernel_rfl) (es' := [(_, _)]) rfl ?_
  obtain rfl := Option.some.inj h
  exact pt_ret hio rfl (.tmp _ _ .nil) rfl rfl
set_option maxHeartbeats 1000000 in
theorem ok_slices_IndexFunc_api_Param_api_Param_of_verb_parameters_1 (bx : Nat) (s : (List T_Param)) (cap : T_Param) (r : Int) (h : Sh.slices_IndexFunc_api_Param_api_Param_of_verb_parameters_1 s cap = some r) : FnG Tryz.prog [(bx, [.string cap.Key, .string cap.Val])] 82 [.fl .shr 2 (List.flatten (List.map T_Param.enc s)), .v (.func (.func 69) #[] #[.pointer (some ⟨bx, 0, none⟩)])] (.v (.int .i64 r)) := by
  unfold Sh.slices_IndexFunc_api_Param_api_Param_of_verb_parameters_1 at h
  refine fn_okG Tryz.func82 rfl (zl rfl) rfl rfl fun g0 hn hio => ?_
  refine ht_seq ?_
  refine zh hn [_, _, _, (4, .v (.int .i64 0))] [0,1,2] [0,1,2] [zq [] 3 4] [(_,_),(_,_),(_,_)] (by kernel_rfl) rfl rfl ⟨za rfl rfl rfl,trivial⟩ ?_
  refine pt_then ?_
  refine ht_seq ?_
  refine ht_seq ?_
  refine zh hn [_, _, _, (6, .fl .shr 2 (List.flatten (List.map T_Param.enc s))), (7, .v (.int .i64 (s.length : Int))), (8, .v (.int .i64 0))] [0,1,2] [0,1,2,4,5] [zq [0] 3 6, zq [3] 4 7, zq [] 5 8] [(_,_),(_,_),(_,_),(_,_),(_,_)] (by kernel_rfl) rfl rfl ⟨zm rfl rfl rfl,zp rfl (op_len_fl _ _ _ Tryz.underlying24 rfl (by decide) (flat_len T_Param.len _)),zm rfl rfl rfl,trivial⟩ ?_
  refine pt_then ?_
  refine ht_loopS h (fun (s10 : Int) => [(0, .fl .shr 2 (List.flatten (List.map T_Param.enc s))), (1, .v (.func (.func 69) #[] #[.pointer (some ⟨bx, 0, none⟩)])), (19, .glob [(bx, [.string cap.Key, .string cap.Val])]), (7, .v (.int .i64 (s.length : Int))), (8, .v (.int .i64 s10))]) (fun (() : Unit) => [(19, .glob [(bx, [.string cap.Key, .string cap.Val])])]) ?_ ?_
  ·rintro ⟨⟩ h
   refine pt_then ?_
   refine ht_seq ?_
   refine zh hn [_, (4, .v (.int .i64 (-1)))] [0] [0,1] [zq [] 1 4] [(_,_),(_,_)] (by kernel_rfl) rfl rfl ⟨za rfl rfl rfl,trivial⟩ ?_
   refine pt_then ?_
   refine ht_ret ?_
   refine pt_pick [1] (by kernel_rfl) (es' := [(_, _)]) rfl ?_
   obtain rfl := Option.some.inj h
   exact pt_ret hio rfl (.tmp _ _ .nil) rfl rfl
  ·rintro u13 hl14 hr15 s10 rr18 h ho16
   refine ht_seq ?_
   refine zh hn [_, _, _, _, _, (9, .v (.bool ((decide (s10 < (s.length : Int))))))] [0,1,2,3,4] [0,1,2,3,4,5] [zq [4,3] 5 9] [(_,_),(_,_),(_,_),(_,_),(_,_),(_,_)] (by kernel_rfl) rfl rfl ⟨zo rfl rfl rfl rfl,trivial⟩ ?_
   refine pt_then ?_
   refine ht_seq ?_
   refine ht_cond _ rfl (fun hb19 => ?_) (fun hb19 => ?_)
   ·have h := cond_t hb19 h
    refine ht_skip ?_
    refine pt_then ?_
    refine ht_seq ?_
    refine ht_block ?_
    refine ht_seq ?_
    refine zh hn [_, _, _, _, _, _, (10, .v (.int .i64 s10)), (5, .v (.int .i64 s10))] [0,1,2,3,4,5] [0,1,2,3,4,7] [zq [4] 6 10, zq [6] 7 5] [(_,_),(_,_),(_,_),(_,_),(_,_),(_,_)] (by kernel_rfl) rfl rfl ⟨zm rfl rfl rfl,za rfl rfl rfl,trivial⟩ ?_
    refine pt_then ?_
    refine ht_seq ?_
    obtain ⟨v2, hv2, h⟩ := bind_some h
    obtain ⟨v3, hv3, h⟩ := bind_some h
    obtain ⟨v4, hv4, h⟩ := bind_some h
    refine zh hn [_, _, _, _, _, _, (11, .v (.func (.func 69) #[] #[.pointer (some ⟨bx, 0, none⟩)])), (12, .fl .shr 2 (List.flatten (List.map T_Param.enc s))), (13, .v (.int .i64 s10)), (14, .eref (.slot 12) (v2 * 2)), (15, .agg [.v (.string v3.Key), .v (.string v3.Val)]), (16, .v (.bool v4))] [0,1,2,3,4,5] [0,1,2,3,4,5,11] [zq [1] 6 11, zq [0] 7 12, zq [5] 8 13, zq [7,8] 9 14, zq [9,7] 10 15, zq [10,6,2] 11 16] [(_,_),(_,_),(_,_),(_,_),(_,_),(_,_),(_,_)] (by kernel_rfl) rfl rfl ⟨zm rfl rfl rfl,zm rfl rfl rfl,zm rfl rfl rfl,zp rfl (op_ix _ _ _ _ _ _ _ _ Tryz.underlying24 sz47 (by decide) rfl rfl rfl (ix_ok hv2).1 (flat_lt T_Param.len (ix_ok hv2).2) rfl),zp rfl (op_load_eA _ _ _ _ _ _ _ Tryz.underlying47 rfl sz47 rfl rfl (flat_get T_Param.len hv3) rfl (by decide)),zp rfl (op_callV _ _ 19 69 (.pointer (some ⟨bx, 0, none⟩)) _ _ rfl Tryz.call69 rfl rfl (fun _ h => h) (ok_verb_parameters_1_cap bx v3 cap _ hv4) rfl rfl),trivial⟩ ?_
    refine pt_then ?_
    refine ht_cond _ rfl (fun hb20 => ?_) (fun hb20 => ?_)
    ·have h := cond_t hb20 h
     refine ht_seq ?_
     refine zh hn [_, _, _, _, _, _, _, (17, .v (.int .i64 s10)), (4, .v (.int .i64 s10))] [0,1,2,3,4,5,6] [2,8] [zq [5] 7 17, zq [7] 8 4] [(_,_),(_,_)] (by kernel_rfl) rfl rfl ⟨zm rfl rfl rfl,za rfl rfl rfl,trivial⟩ ?_
     refine pt_then ?_
     refine ht_ret ?_
     refine pt_pick [1] (by kernel_rfl) (es' := [(_, _)]) rfl ?_
     refine pt_r_in ?_
     refine pt_r_then ?_
     refine pt_r_then ?_
     refine pt_r_in ?_
     refine pt_r_then ?_
     have h := hr15 _ (ho16 _ (Option.some.inj h).symm).symm
     obtain rfl := Option.some.inj h
     exact pt_ret hio rfl (.tmp _ _ .nil) rfl rfl
    ·have h := cond_f hb20 h
     refine ht_skip ?_
     refine pt_inb ?_
     refine pt_then ?_
     obtain ⟨v6, hv6, h⟩ := bind_some h
     refine zh hn [_, _, _, _, _, _, _, (18, .v (.int .i64 v6)), (8, .v (.int .i64 v6))] [0,1,2,3,4,5,6] [0,1,2,3,8] [zq [4] 7 18, ⟨[7], [4], [8], [(.slot 8)]⟩] [(_,_),(_,_),(_,_),(_,_),(_,_)] (by kernel_rfl) rfl rfl ⟨zp rfl (op_bin _ _ _ _ _ rfl rfl (ibind (f := Value.int .i64) (Option.some.inj hv6))),zp rfl (LOp.drop [_] (op_move _ _ _ _ rfl rfl)),trivial⟩ ?_
     exact pt_next _ (Option.some.inj h).symm rfl
   ·have h := cond_f hb19 h
    refine ht_exit ?_
    refine pt_x_then ?_
    refine pt_x_then ?_
    refine pt_x_in ?_
    refine pt_pick [2] (by kernel_rfl) (es' := [(_, _)]) rfl ?_
    exact hl14 _ (ho16 _ (Option.some.inj h).symm).symm
set_option maxHeartbeats 1000000 in
theorem ok_slices_ContainsFunc_api_Param_api_Param_of_verb_parameters_1 (bx : Nat) (s : (List T_Param)) (cap : T_Param) (r : Bool) (h : Sh.slices_ContainsFunc_api_Param_api_Param_of_verb_parameters_1 s cap = some r) : FnG Tryz.prog [(bx, [.string cap.Key, .string cap.Val])] 68 [.fl .shr 2 (List.flatten (List.map T_Param.enc s)), .v (.func (.func 69) #[] #[.pointer (some ⟨bx, 0, none⟩)])] (.v (.bool r)) := by
  unfold Sh.slices_ContainsFunc_api_Param_api_Param_of_verb_parameters_1 at h
  refine fn_okG Tryz.func68 rfl (zl rfl) rfl rfl fun g0 hn hio => ?_
  refine ht_seq ?_
  refine zh hn [_, _, _, (4, .v (.bool false))] [0,1,2] [0,1,2] [zq [] 3 4] [(_,_),(_,_),(_,_)] (by kernel_rfl) rfl rfl ⟨za rfl rfl rfl,trivial⟩ ?_
  refine pt_then ?_
  refine ht_seq ?_
  obtain ⟨v1, hv1, h⟩ := bind_some h
  refine zh hn [_, _, _, (5, .fl .shr 2 (List.flatten (List.map T_Param.enc s))), (6, .v (.func (.func 69) #[] #[.pointer (some ⟨bx, 0, none⟩)])), (7, .v (.int .i64 v1)), (8, .v (.bool ((decide (0 ≤ v1))))), (4, .v (.bool ((decide (0 ≤ v1)))))] [0,1,2] [2,7] [zq [0] 3 5, zq [1] 4 6, zq [3,4,2] 5 7, zq [5] 6 8, zq [6] 7 4] [(_,_),(_,_)] (by kernel_rfl) rfl rfl ⟨zm rfl rfl rfl,zm rfl rfl rfl,zp rfl (op_callG _ _ 9 82 _ _ rfl Tryz.call82 rfl rfl (fun _ h => h) (ok_slices_IndexFunc_api_Param_api_Param_of_verb_parameters_1 bx s cap _ hv1) rfl rfl),zo rfl rfl rfl rfl,za rfl rfl rfl,trivial⟩ ?_
  refine pt_then ?_
  refine ht_ret ?_
  refine pt_pick [1] (by kernel_rfl) (es' := [(_, _)]) rfl ?_
  obtain rfl := Option.some.inj h
  exact pt_ret hio rfl (.tmp _ _ .nil) rfl rfl
set_option maxHeartbeats 1000000 in
theorem ok_verb_parameters (mx : Int) (kind : Int) (s : ByteArray) (r : ((List T_Param) × Bool)) (h : Sh.verb_parameters kind s = some r) : FnG Tryz.prog (GL mx) 55 [.v (.int .i64 kind), .v (.string s)] (.tup [.fl .ro 2 (List.flatten (List.map T_Param.enc r.1)), .v (.bool r.2)]) := by
  unfold Sh.verb_parameters at h
  refine fn_okG Tryz.func55 rfl (zl rfl) rfl rfl fun g0 hn hio => ?_
  refine ht_seq ?_
  refine zh hn [_, _, _, (2, .box 3 [.v (.int .i64 kind)]), (4, .box 24 [.v (.slice none 0 0)]), (5, .box 4 [.v (.bool false)])] [0,1,2] [1,2,3,4,5] [zq [0] 3 2, zq [] 4 4, zq [] 5 5] [(_,_),(_,_),(_,_),(_,_),(_,_)] (by kernel_rfl) rfl rfl ⟨zp rfl (op_box _ _ _ _ rfl rfl rfl),zp rfl (op_alloc _ _ zr24),zp rfl (op_alloc _ _ zr4),trivial⟩ ?_
  refine pt_then ?_
  refine ht_seq ?_
  refine zh hn [_, _, _, _, _, (6, .box 24 [.v (.slice none 0 0)])] [0,1,2,3,4] [0,1,2,3,4,5] [zq [] 5 6] [(_,_),(_,_),(_,_),(_,_),(_,_),(_,_)] (by kernel_rfl) rfl rfl ⟨zp rfl (op_alloc _ _ zr24),trivial⟩ ?_
  refine pt_then ?_
  refine ht_seq ?_
  refine ht_seq ?_
  refine zh hn [_, _, _, _, _, _, (14, .v (.string s)), (15, .v (.bool ((s.toList == (⟨#[]⟩ : ByteArray).toList))))] [0,1,2,3,4,5] [0,1,2,3,4,5,7] [zq [0] 6 14, zq [6] 7 15] [(_,_),(_,_),(_,_),(_,_),(_,_),(_,_),(_,_)] (by kernel_rfl) rfl rfl ⟨zm rfl rfl rfl,zo rfl rfl rfl rfl,trivial⟩ ?_
  refine pt_then ?_
  refine ht_cond _ rfl (fun hb33 => ?_) (fun hb33 => ?_)
  ·have h := cond_t hb33 h
   refine ht_seq ?_
   refine zh hn [_, _, _, _, _, _, _, (16, .v (.slice none 0 0)), (4, .box 24 [.v (.slice none 0 0)]), (5, .box 4 [.v (.bool true)])] [0,1,2,3,4,5,6] [1,8,9] [zq [5] 7 16, ⟨[7], [3], [8], [.cell 4 0]⟩, ⟨[], [4], [9], [.cell 5 0]⟩] [(_,_),(_,_),(_,_)] (by kernel_rfl) rfl rfl ⟨zp rfl (op_load _ _ _ _ _ _ Tryz.underlying24 rfl rfl rfl (zl rfl) rfl rfl rfl),zp rfl (op_store _ _ _ _ _ _ _ _ sz24 rfl rfl rfl rfl (zl rfl) rfl rfl),zp rfl (op_store _ _ _ _ _ _ _ _ sz4 rfl rfl rfl rfl (zl rfl) rfl rfl),trivial⟩ ?_
   refine pt_then ?_
   refine ht_ret ?_
   refine pt_pick [1, 2] (by kernel_rfl) (es' := [(_, _), (_, _)]) rfl ?_
   refine pt_sub (fs := [(4, .box 24 [.fl (.own 47) 2 (List.flatten (List.map T_Param.enc []))]), (5, .box 4 [.v (.bool true)])]) (.box _ _ (subs_cons (sub_nil 47 2) (subs_nil)) rfl (.same _ .nil)) ?_
   refine pt_frz 0 hio (es' := [(4, .box 24 [.fl .ro 2 (List.flatten (List.map T_Param.enc []))]), (5, .box 4 [.v (.bool true)])]) rfl ?_
   refine pt_r_then ?_
   obtain rfl := Option.some.inj h
   exact pt_ret hio rfl (.cell1 _ _ _ _ Tryz.underlying24 rfl (.cell1 _ _ _ _ Tryz.underlying4 rfl .nil)) rfl rfl
  ·have h := cond_f hb33 h
   refine ht_skip ?_
   refine pt_then ?_
   refine ht_seq ?_
   obtain ⟨v2, hv2, h⟩ := bind_some h
   refine zh hn [_, _, _, _, _, _, _, (18, .v (.string s)), (19, .tup [.v (.string v2.1), .v (.bool v2.2)]), (17, .tup [.v (.string v2.1), .v (.bool v2.2)]), (20, .v (.string v2.1)), (21, .v (.bool v2.2)), (1, .v (.string v2.1)), (7, .v (.bool v2.2))] [0,1,2,3,4,5,6] [1,2,3,4,5,12,13] [zq [0] 7 18, zq [7] 8 19, ⟨[], [8], [9], [(.slot 17)]⟩, zq [9] 10 20, zq [9] 11 21, ⟨[10], [0], [12], [(.slot 1)]⟩, zq [11] 13 7] [(_,_),(_,_),(_,_),(_,_),(_,_),(_,_),(_,_)] (by kernel_rfl) rfl rfl ⟨zm rfl rfl rfl,zp rfl (op_call _ _ 65 _ _ rfl Tryz.call65 rfl (ok_strings_CutPrefix s (⟨#[32]⟩ : ByteArray) _ hv2) rfl rfl),zp rfl (op_move_take _ _ _ _ rfl),zp rfl (op_extract _ _ _ _ _ rfl rfl (zl rfl) rfl rfl),zp rfl (op_extract _ _ _ _ _ rfl rfl (zl rfl) rfl rfl),zp rfl (LOp.drop [_] (op_assign _ _ _ _ rfl rfl)),za rfl rfl rfl,trivial⟩ ?_
   refine pt_then ?_
   refine ht_seq ?_
   refine ht_seq ?_
   refine zh hn [_, _, _, _, _, _, _, (22, .v (.bool v2.2)), (23, .v (.bool (!v2.2)))] [0,1,2,3,4,5,6] [0,1,2,3,4,5,8] [zq [6] 7 22, zq [7] 8 23] [(_,_),(_,_),(_,_),(_,_),(_,_),(_,_),(_,_)] (by kernel_rfl) rfl rfl ⟨zm rfl rfl rfl,zp rfl (op_un _ _ _ _ rfl rfl),trivial⟩ ?_
   refine pt_then ?_
   refine ht_cond _ rfl (fun hb34 => ?_) (fun hb34 => ?_)
   ·have h := cond_t hb34 h
    refine ht_seq ?_
    refine zh hn [_, _, _, _, _, _, _, (4, .box 24 [.v (.slice none 0 0)]), (5, .box 4 [.v (.bool false)])] [0,1,2,3,4,5,6] [0,7,8] [⟨[], [2], [7], [.cell 4 0]⟩, ⟨[], [3], [8], [.cell 5 0]⟩] [(_,_),(_,_),(_,_)] (by kernel_rfl) rfl rfl ⟨zp rfl (op_store _ _ _ _ _ _ _ _ sz24 rfl rfl rfl rfl (zl rfl) rfl rfl),zp rfl (op_store _ _ _ _ _ _ _ _ sz4 rfl rfl rfl rfl (zl rfl) rfl rfl),trivial⟩ ?_
    refine pt_then ?_
    refine ht_ret ?_
    refine pt_pick [1, 2] (by kernel_rfl) (es' := [(_, _), (_, _)]) rfl ?_
    refine pt_sub (fs := [(4, .box 24 [.fl (.own 47) 2 (List.flatten (List.map T_Param.enc []))]), (5, .box 4 [.v (.bool false)])]) (.box _ _ (subs_cons (sub_nil 47 2) (subs_nil)) rfl (.same _ .nil)) ?_
    refine pt_frz 0 hio (es' := [(4, .box 24 [.fl .ro 2 (List.flatten (List.map T_Param.enc []))]), (5, .box 4 [.v (.bool false)])]) rfl ?_
    refine pt_r_then ?_
    obtain rfl := Option.some.inj h
    exact pt_ret hio rfl (.cell1 _ _ _ _ Tryz.underlying24 rfl (.cell1 _ _ _ _ Tryz.underlying4 rfl .nil)) rfl rfl
   ·have h := cond_f hb34 h
    refine ht_skip ?_
    refine pt_then ?_
    refine ht_seq ?_
    refine ht_seq ?_
    obtain ⟨v4, hv4, h⟩ := bind_some h
    refine zh hn [_, _, _, _, _, _, _, (24, .v (.string v2.1)), (25, .cloB 86 [.box 9 [.v (.string v4.1)], .box 9 [.v (.string v4.2.1)], .box 3 [.v (.int .i64 v4.2.2)]])] [0,1,2,3,4,5,6] [0,1,2,3,4,8] [zq [5] 7 24, zq [7] 8 25] [(_,_),(_,_),(_,_),(_,_),(_,_),(_,_)] (by kernel_rfl) rfl rfl ⟨zm rfl rfl rfl,zp rfl (op_callS _ _ 61 _ _ rfl Tryz.call61 rfl rfl (ok_strings_SplitSeq v2.1 (⟨#[32]⟩ : ByteArray) _ hv4) rfl),trivial⟩ ?_
    refine pt_then ?_
    refine ht_block ?_
    refine ht_pick [5, 0, 1, 2, 3, 4] (by kernel_rfl) (es' := [(25, .cloB 86 [.box 9 [.v (.string v4.1)], .box 9 [.v (.string v4.2.1)], .box 3 [.v (.int .i64 v4.2.2)]]), (53, .glob (GL mx)), (2, .box 3 [.v (.int .i64 kind)]), (4, .box 24 [.v (.slice none 0 0)]), (5, .box 4 [.v (.bool false)]), (6, .box 24 [.v (.slice none 0 0)])]) rfl ?_
    refine ht_sub (fs := [(25, .cloB 86 [.box 9 [.v (.string v4.1)], .box 9 [.v (.string v4.2.1)], .box 3 [.v (.int .i64 v4.2.2)]]), (53, .glob (GL mx)), (2, .box 3 [.v (.int .i64 kind)]), (4, .box 24 [.v (.slice none 0 0)]), (5, .box 4 [.v (.bool false)]), (6, .box 24 [.fl (.own 47) 2 (List.flatten (List.map T_Param.enc []))])]) (.same _ (.same _ (.same _ (.same _ (.same _ (.box _ _ (subs_cons (sub_nil 47 2) (subs_nil)) rfl .nil)))))) ?_
    refine ht_rangeF h 86 25 26 54 _ [53, 2, 4, 5, 6] Tryz.call86 (fun (s46 : (List T_Param)) => [(53, .glob (GL mx)), (2, .box 3 [.v (.int .i64 kind)]), (4, .box 24 [.v (.slice none 0 0)]), (5, .box 4 [.v (.bool false)]), (6, .box 24 [.fl (.own 47) 2 (List.flatten (List.map T_Param.enc s46))])]) (fun (s52 : (List T_Param)) => [(53, .glob (GL mx)), (2, .box 3 [.v (.int .i64 kind)]), (4, .box 24 [.v (.slice none 0 0)]), (5, .box 4 [.v (.bool false)]), (6, .box 24 [.fl (.own 47) 2 (List.flatten (List.map T_Param.enc s52))])]) (fun l J Y hY t t' h => ok_strings_splitSeq_1 mx l J Y hY v4.1 v4.2.1 v4.2.2 t t' h) hn rfl (fun _ => rfl) (fun _ => rfl) (fun _ => rfl) rfl rfl (fun _ => ⟨rfl, rfl⟩) rfl (glIn_look 53 rfl) ?_ ?_ ?_
    ·rintro kk g0 hn hio x s46 u h
     refine ht_es (es' := [(26, .v (.string x)), (53, .glob (GL mx)), (2, .box 3 [.v (.int .i64 kind)]), (4, .box 24 [.v (.slice none 0 0)]), (5, .box 4 [.v (.bool false)]), (6, .box 24 [.fl (.own 47) 2 (List.flatten (List.map T_Param.enc s46))]), (53, .v (kk.tm.getD 53 undef)), (2, .v (kk.tm.getD 2 undef)), (4, .v (kk.tm.getD 4 undef)), (5, .v (kk.tm.getD 5 undef)), (6, .v (kk.tm.getD 6 undef)), (54, .inv kk.ready)]) rfl ?_
     refine zh hn [_, _, _, _, _, _, _, _, _, _, _, _, (8, .v (.string x))] [0,1,2,3,4,5,6,7,8,9,10,11] [1,2,3,4,5,6,7,8,9,10,11,12] [zq [0] 12 8] [(_,_),(_,_),(_,_),(_,_),(_,_),(_,_),(_,_),(_,_),(_,_),(_,_),(_,_),(_,_)] (by kernel_rfl) rfl rfl ⟨za rfl rfl rfl,trivial⟩ ?_
     refine pt_pick [0, 1, 2, 3, 4, 5, 6, 7, 8, 9, 11, 10] (by kernel_rfl) (es' := [(53, .glob (GL mx)), (2, .box 3 [.v (.int .i64 kind)]), (4, .box 24 [.v (.slice none 0 0)]), (5, .box 4 [.v (.bool false)]), (6, .box 24 [.fl (.own 47) 2 (List.flatten (List.map T_Param.enc s46))]), (53, .v (kk.tm.getD 53 undef)), (2, .v (kk.tm.getD 2 undef)), (4, .v (kk.tm.getD 4 undef)), (5, .v (kk.tm.getD 5 undef)), (6, .v (kk.tm.getD 6 undef)), (8, .v (.string x)), (54, .inv kk.ready)]) rfl ?_
     refine pt_begin (es := [(53, .glob (GL mx)), (2, .box 3 [.v (.int .i64 kind)]), (4, .box 24 [.v (.slice none 0 0)]), (5, .box 4 [.v (.bool false)]), (6, .box 24 [.fl (.own 47) 2 (List.flatten (List.map T_Param.enc s46))]), (53, .v (kk.tm.getD 53 undef)), (2, .v (kk.tm.getD 2 undef)), (4, .v (kk.tm.getD 4 undef)), (5, .v (kk.tm.getD 5 undef)), (6, .v (kk.tm.getD 6 undef)), (8, .v (.string x))]) 54 rfl ?_
     refine ht_block ?_
     refine ht_seq ?_
     obtain ⟨v5, hv5, h⟩ := bind_some h
     refine zh hn (_ :: _ :: _ :: _ :: _ :: _ :: _ :: _ :: _ :: _ :: _ :: _ :: (28, .v (.string x)) :: (29, .tup [.v (.string v5.1), .v (.string v5.2.1), .v (.bool v5.2.2)]) :: (27, .tup [.v (.string v5.1), .v (.string v5.2.1), .v (.bool v5.2.2)]) :: (30, .v (.string v5.1)) :: (31, .v (.string v5.2.1)) :: (32, .v (.bool v5.2.2)) :: (9, .v (.string v5.1)) :: (10, .v (.string v5.2.1)) :: (11, .v (.bool v5.2.2)) :: []) [0,1,2,3,4,5,6,7,8,9,10,11] [0,1,2,3,4,5,6,7,8,9,11,18,19] [zq [10] 12 28, zq [12] 13 29, ⟨[], [13], [14], [(.slot 27)]⟩, zq [14] 15 30, zq [14] 16 31, zq [14] 17 32, zq [15] 18 9, zq [16] 19 10, zq [17] 20 11] [(_,_),(_,_),(_,_),(_,_),(_,_),(_,_),(_,_),(_,_),(_,_),(_,_),(_,_),(_,_),(_,_)] (by kernel_rfl) rfl rfl ⟨zm rfl rfl rfl,zp rfl (op_call _ _ 33 _ _ rfl Tryz.call33 rfl (ok_strings_Cut x (⟨#[61]⟩ : ByteArray) _ hv5) rfl rfl),zp rfl (op_move_take _ _ _ _ rfl),zp rfl (op_extract _ _ _ _ _ rfl rfl (zl rfl) rfl rfl),zp rfl (op_extract _ _ _ _ _ rfl rfl (zl rfl) rfl rfl),zp rfl (op_extract _ _ _ _ _ rfl rfl (zl rfl) rfl rfl),za rfl rfl rfl,za rfl rfl rfl,za rfl rfl rfl,trivial⟩ ?_
     refine pt_then ?_
     refine ht_seq ?_
     obtain ⟨v6, hv6, h⟩ := bind_some h
     obtain ⟨v7, hv7, h⟩ := bind_some h
     refine ht_anyR (by kernel_rfl) hn (El := (_ :: _ :: _ :: _ :: _ :: _ :: _ :: _ :: _ :: _ :: _ :: _ :: _ :: (34, .v (.int .i64 kind)) :: (35, .v (.string v5.1)) :: (36, .v (.string v6)) :: (37, .v (.string v5.2.1)) :: (38, .tup [.agg [.v (.string v7.1.Key), .v (.string v7.1.Val)], .v (.bool v7.2)]) :: (33, .tup [.agg [.v (.string v7.1.Key), .v (.string v7.1.Val)], .any]) :: (33, .tup [.any, .v (.bool v7.2)]) :: (39, .agg [.v (.string v7.1.Key), .v (.string v7.1.Val)]) :: (33, .tup [.any, .any]) :: (40, .v (.bool v7.2)) :: (12, .box 47 [.v (.string (⟨#[]⟩ : ByteArray)), .v (.string (⟨#[]⟩ : ByteArray))]) :: (12, .box 47 [.v (.string v7.1.Key), .v (.string v7.1.Val)]) :: (13, .v (.bool v7.2)) :: [])) (init := [0, 1, 2, 3, 4, 5, 6, 7, 8, 9, 10, 11, 12]) (fin := [0, 1, 2, 3, 4, 5, 6, 7, 8, 9, 10, 24, 25]) (sps := [zq [1] 13 34, zq [11] 14 35, zq [14] 15 36, zq [12] 16 37, zq [13,15,16] 17 38, ⟨[], [17], [18, 19], [(.slot 33)]⟩, ⟨[], [18], [21, 20], [(.slot 39)]⟩, zq [19] 22 40, zq [] 23 12, ⟨[20], [23], [24], [.cell 12 0, .cell 12 1]⟩, zq [22] 25 13]) (es' := [(_, _), (_, _), (_, _), (_, _), (_, _), (_, _), (_, _), (_, _), (_, _), (_, _), (_, _), (12, .box 47 [.v (.string v7.1.Key), .v (.string v7.1.Val)]), (13, .v (.bool v7.2))]) (by kernel_rfl) rfl rfl ⟨zp rfl (op_load _ _ _ _ _ _ Tryz.underlying3 rfl rfl rfl (zl rfl) rfl rfl rfl),zm rfl rfl rfl,zp rfl (op_call _ _ 34 _ _ rfl Tryz.call34 rfl (ok_path_Fold v5.1 _ hv6) rfl rfl),zm rfl rfl rfl,zp rfl (op_call _ _ 67 _ _ rfl Tryz.call67 rfl (ok_verb_parameter kind v6 v5.2.1 _ hv7) rfl rfl),zp rfl (LOp.split (A := []) 33 0 _ _ _ (op_move_take _ _ _ _ rfl) (zl rfl) rfl rfl),zp rfl (op_extract_take _ _ _ _ _ rfl (zl rfl) rfl rfl (by decide) rfl),zp rfl (op_extract _ _ _ _ _ rfl rfl (zl rfl) rfl rfl),zp rfl (op_alloc _ _ zr47),zp rfl (op_store _ _ _ _ _ _ _ _ sz47 rfl rfl rfl rfl (zl rfl) rfl rfl),za rfl rfl rfl,trivial⟩ ?_
     refine pt_then ?_
     refine ht_seq ?_
     refine ht_seq ?_
     refine ht_joinS h (fun (s53 : Bool) => [(53, .glob (GL mx)), (2, .box 3 [.v (.int .i64 kind)]), (4, .box 24 [.v (.slice none 0 0)]), (5, .box 4 [.v (.bool false)]), (6, .box 24 [.fl (.own 47) 2 (List.flatten (List.map T_Param.enc s46))]), (53, .v (kk.tm.getD 53 undef)), (2, .v (kk.tm.getD 2 undef)), (4, .v (kk.tm.getD 4 undef)), (5, .v (kk.tm.getD 5 undef)), (6, .v (kk.tm.getD 6 undef)), (54, .inv kk.busy), (12, .box 47 [.v (.string v7.1.Key), .v (.string v7.1.Val)]), (47, .v (.bool s53))]) ?_ ?_
     ·rintro s53 h
      refine pt_then ?_
      refine ht_cond _ rfl (fun hb57 => ?_) (fun hb57 => ?_)
      ·have h := cond_t hb57 h
       refine ht_seq ?_
       refine zh hn (_ :: _ :: _ :: _ :: _ :: _ :: _ :: _ :: _ :: _ :: _ :: _ :: _ :: (4, .box 24 [.v (.slice none 0 0)]) :: (5, .box 4 [.v (.bool false)]) :: []) [0,1,2,3,4,5,6,7,8,9,10,11,12] [0,1,13,14,4,5,6,7,8,9,10] [⟨[], [2], [13], [.cell 4 0]⟩, ⟨[], [3], [14], [.cell 5 0]⟩] [(_,_),(_,_),(_,_),(_,_),(_,_),(_,_),(_,_),(_,_),(_,_),(_,_),(_,_)] (by kernel_rfl) rfl rfl ⟨zp rfl (op_store _ _ _ _ _ _ _ _ sz24 rfl rfl rfl rfl (zl rfl) rfl rfl),zp rfl (op_store _ _ _ _ _ _ _ _ sz4 rfl rfl rfl rfl (zl rfl) rfl rfl),trivial⟩ ?_
       refine pt_then ?_
       refine ht_ret ?_
       refine pt_r_then ?_
       refine pt_r_in ?_
       obtain rfl := Option.some.inj h
       exact pt_rret 54 [53, 2, 4, 5, 6] _ rfl rfl (by kernel_rfl)
      ·have h := cond_f hb57 h
       refine ht_skip ?_
       refine pt_then ?_
       obtain ⟨v14, hv14, h⟩ := bind_some h
       refine zh hn (_ :: _ :: _ :: _ :: _ :: _ :: _ :: _ :: _ :: _ :: _ :: _ :: _ :: (48, .same (.cell 6 0)) :: (49, .agg [.v (.string v7.1.Key), .v (.string v7.1.Val)]) :: (50, .fl (.own 47) 2 (List.flatten (List.map T_Param.enc [v7.1]))) :: (51, .fl (.own 47) 2 (List.flatten (List.map T_Param.enc v14))) :: (6, .box 24 [.any]) :: (6, .box 24 [.fl (.own 47) 2 (List.flatten (List.map T_Param.enc v14))]) :: []) [0,1,2,3,4,5,6,7,8,9,10,11,12] [0,1,2,3,18,5,6,7,8,9,10] [zq [4] 13 48, zq [11] 14 49, zq [14] 15 50, ⟨[13, 15], [4], [17, 16], [(.slot 51)]⟩, ⟨[], [13, 16, 17], [18], [.cell 6 0]⟩] [(_,_),(_,_),(_,_),(_,_),(_,_),(_,_),(_,_),(_,_),(_,_),(_,_),(_,_)] (by kernel_rfl) rfl rfl ⟨zp rfl (op_load _ _ _ _ _ _ Tryz.underlying24 rfl rfl rfl (zl rfl) rfl rfl rfl),zp rfl (op_loadA _ _ _ _ _ _ _ Tryz.underlying47 rfl sz47 rfl rfl (zl rfl) rfl rfl),zp rfl (op_buildSlice _ _ 2 (.agg #[.string ByteArray.empty, .string ByteArray.empty]) (List.flatten (List.map T_Param.enc [v7.1])) [(0, .agg #[.string v7.1.Key, .string v7.1.Val])] Tryz.underlying24 sz47 zr47 (fun _ V w o a hv hes => by have e0 := agg_v (ys := [.string v7.1.Key, .string v7.1.Val]) hv hes (x := .tmp 49) rfl; simp only [List.map_toArray, List.map_cons, List.map_nil, e0]; try rfl) (litfill (by simp [Instr.fill, Value.cells]; rfl) (by simp [List.range, List.range.loop, T_Param.enc] <;> rfl)) (by simp [Value.oneCell', T_Param.enc]) rfl (by decide) (by decide) (by decide)),zp rfl (op_app_cell _ _ _ _ _ _ el24 rfl rfl (zl rfl) rfl (flat_len T_Param.len _) (flat_len T_Param.len _) hv14 (flat_app (app_eq hv14)) (Nat.ne_of_beq_eq_false rfl) rfl rfl),zp rfl (LOp.drop [_] (op_store_take _ _ _ _ _ _ _ _ sz24 rfl rfl rfl (zl rfl) rfl rfl)),trivial⟩ ?_
       refine pt_inb ?_
       obtain rfl := Option.some.inj h
       exact pt_rnext 54 [53, 2, 4, 5, 6] _ rfl rfl (by kernel_rfl)
     ·intro u54 h hl55 hr56
      refine cond_some h (fun hg11_2 h => ?_) (fun hg11_2 h => ?_)
      ·refine zh hn (_ :: _ :: _ :: _ :: _ :: _ :: _ :: _ :: _ :: _ :: _ :: _ :: _ :: (41, .v (.bool v7.2)) :: (42, .v (.bool (!v7.2))) :: (43, .v (.bool true)) :: (44, .v undef) :: (45, .v undef) :: (46, .v undef) :: (47, .v (.bool true)) :: []) [0,1,2,3,4,5,6,7,8,9,10,11,12] [0,1,2,3,4,5,6,7,8,9,10,11,19] [zq [12] 13 41, zq [13] 14 42, zq [14] 15 43, zq [15] 16 44, zq [15] 17 45, zq [15] 18 46, zq [15] 19 47] [(_,_),(_,_),(_,_),(_,_),(_,_),(_,_),(_,_),(_,_),(_,_),(_,_),(_,_),(_,_),(_,_)] (by kernel_rfl) rfl rfl ⟨zm rfl rfl rfl,zp rfl (op_un _ _ _ _ rfl rfl),zm rfl (zb hg11_2) rfl,zs 2 false rfl rfl rfl rfl,zs 2 false rfl rfl rfl rfl,zs 2 false rfl rfl rfl rfl,zk true rfl rfl rfl,trivial⟩ ?_
       exact hl55 _ (Option.some.inj h).symm
      ·obtain ⟨v8, hv8, h⟩ := bind_some h
       refine zh hn (_ :: _ :: _ :: _ :: _ :: _ :: _ :: _ :: _ :: _ :: _ :: _ :: _ :: (41, .v (.bool v7.2)) :: (42, .v (.bool (!v7.2))) :: (43, .v (.bool false)) :: (44, .same (.cell 6 0)) :: (45, .clo 69 [12]) :: (46, .v (.bool v8)) :: (47, .v (.bool v8)) :: []) [0,1,2,3,4,5,6,7,8,9,10,11,12] [0,1,2,3,4,5,6,7,8,9,10,11,19] [zq [12] 13 41, zq [13] 14 42, zq [14] 15 43, zq [15,4] 16 44, zq [15] 17 45, zq [15,16,4,17,11] 18 46, zq [15,18] 19 47] [(_,_),(_,_),(_,_),(_,_),(_,_),(_,_),(_,_),(_,_),(_,_),(_,_),(_,_),(_,_),(_,_)] (by kernel_rfl) rfl rfl ⟨zm rfl rfl rfl,zp rfl (op_un _ _ _ _ rfl rfl),zm rfl (zb hg11_2) rfl,zr 2 rfl rfl rfl (op_load _ _ _ _ _ _ Tryz.underlying24 rfl rfl rfl (zl rfl) rfl rfl rfl),zr 2 rfl rfl rfl (op_makeFunc_name _ _ _ 12 (by decide)),zr 2 rfl rfl rfl (op_callC _ 46 12 45 68 69 [.string v7.1.Key, .string v7.1.Val] [.tmp 44] _ _ rfl Tryz.call68 rfl rfl rfl rfl (fun bx => ok_slices_ContainsFunc_api_Param_api_Param_of_verb_parameters_1 bx s46 v7.1 _ hv8) rfl rfl),zk false rfl rfl rfl,trivial⟩ ?_
       exact hl55 _ (Option.some.inj h).symm
    ·rintro D s46 h
     refine pt_inb ?_
     refine pt_then ?_
     refine ht_seq ?_
     refine ht_frz 4 hio (es' := [(53, .glob (GL mx)), (2, .box 3 [.v (.int .i64 kind)]), (4, .box 24 [.v (.slice none 0 0)]), (5, .box 4 [.v (.bool false)]), (6, .box 24 [.fl .ro 2 (List.flatten (List.map T_Param.enc s46))])]) rfl ?_
     refine zh hn [_, _, _, _, _, (52, .fl .ro 2 (List.flatten (List.map T_Param.enc s46))), (4, .box 24 [.fl .ro 2 (List.flatten (List.map T_Param.enc s46))]), (5, .box 4 [.v (.bool true)])] [0,1,2,3,4] [0,6,7] [zq [4] 5 52, ⟨[5], [2], [6], [.cell 4 0]⟩, ⟨[], [3], [7], [.cell 5 0]⟩] [(_,_),(_,_),(_,_)] (by kernel_rfl) rfl rfl ⟨zp rfl (op_load _ _ _ _ _ _ Tryz.underlying24 rfl rfl rfl (zl rfl) rfl rfl rfl),zp rfl (op_store _ _ _ _ _ _ _ _ sz24 rfl rfl rfl rfl (zl rfl) rfl rfl),zp rfl (op_store _ _ _ _ _ _ _ _ sz4 rfl rfl rfl rfl (zl rfl) rfl rfl),trivial⟩ ?_
     refine pt_then ?_
     refine ht_ret ?_
     refine pt_pick [1, 2] (by kernel_rfl) (es' := [(_, _), (_, _)]) rfl ?_
     obtain rfl := Option.some.inj h
     exact pt_ret hio rfl (.cell1 _ _ _ _ Tryz.underlying24 rfl (.cell1 _ _ _ _ Tryz.underlying4 rfl .nil)) rfl rfl
    ·rintro D s52 h
     refine pt_pick [2, 3] (by kernel_rfl) (es' := [(_, _), (_, _)]) rfl ?_
     refine pt_sub (fs := [(4, .box 24 [.fl (.own 47) 2 (List.flatten (List.map T_Param.enc []))]), (5, .box 4 [.v (.bool false)])]) (.box _ _ (subs_cons (sub_nil 47 2) (subs_nil)) rfl (.same _ .nil)) ?_
     refine pt_frz 0 hio (es' := [(4, .box 24 [.fl .ro 2 (List.flatten (List.map T_Param.enc []))]), (5, .box 4 [.v (.bool false)])]) rfl ?_
     refine pt_r_in ?_
     refine pt_r_then ?_
     obtain rfl := Option.some.inj h
     exact pt_ret hio rfl (.cell1 _ _ _ _ Tryz.underlying24 rfl (.cell1 _ _ _ _ Tryz.underlying4 rfl .nil)) rfl rfl
set_option maxHeartbeats 1000000 in
theorem ok_verb_pathCommand (mx : Int) (kind : Int) (line : ByteArray) (r : (T_Cmd × Bool)) (h : Sh.verb_pathCommand kind line = some r) : FnG Tryz.prog (GL mx) 38 [.v (.int .i64 kind), .v (.string line)] (.tup [.agg [.v (.int .i64 r.1.Kind), .v (.string r.1.Text), .v (.bool r.1.Path.Null), .v (.string r.1.Path.Local), .v (.string r.1.Path.Domain), .fl .ro 2 (List.flatten (List.map T_Param.enc r.1.Params))], .v (.bool r.2)]) := by
  unfold Sh.verb_pathCommand at h
  refine fn_okG Tryz.func38 rfl (zl rfl) rfl rfl fun g0 hn hio => ?_
  refine ht_seq ?_
  refine zh hn [_, _, _, (4, .box 26 [.v (.int .i64 0), .v (.string (⟨#[]⟩ : ByteArray)), .v (.bool false), .v (.string (⟨#[]⟩ : ByteArray)), .v (.string (⟨#[]⟩ : ByteArray)), .v (.slice none 0 0)]), (5, .v (.bool false))] [0,1,2] [0,1,2,3] [zq [] 3 4, zq [] 4 5] [(_,_),(_,_),(_,_),(_,_)] (by kernel_rfl) rfl rfl ⟨zp rfl (op_alloc _ _ zr26),za rfl rfl rfl,trivial⟩ ?_
  refine pt_then ?_
  refine ht_seq ?_
  obtain ⟨v1, hv1, h⟩ := bind_some h
  obtain ⟨v2, hv2, h⟩ := bind_some h
  refine zh hn [_, _, _, _, (13, .v (.string line)), (14, .v (.int .i64 kind)), (15, .v (.string v1)), (16, .tup [.v (.string v2.1), .v (.bool v2.2)]), (12, .tup [.v (.string v2.1), .v (.bool v2.2)]), (17, .v (.string v2.1)), (18, .v (.bool v2.2)), (6, .v (.string v2.1)), (7, .v (.bool v2.2))] [0,1,2,3] [0,2,3,11,12] [zq [1] 4 13, zq [0] 5 14, zq [5] 6 15, zq [4,6] 7 16, ⟨[], [7], [8], [(.slot 12)]⟩, zq [8] 9 17, zq [8] 10 18, zq [9] 11 6, zq [10] 12 7] [(_,_),(_,_),(_,_),(_,_),(_,_)] (by kernel_rfl) rfl rfl ⟨zm rfl rfl rfl,zm rfl rfl rfl,zp rfl (op_call _ _ 46 _ _ rfl Tryz.call46 rfl (ok_verb_opening kind _ hv1) rfl rfl),zp rfl (op_call _ _ 35 _ _ rfl Tryz.call35 rfl (ok_verb_cutFold line v1 _ hv2) rfl rfl),zp rfl (op_move_take _ _ _ _ rfl),zp rfl (op_extract _ _ _ _ _ rfl rfl (zl rfl) rfl rfl),zp rfl (op_extract _ _ _ _ _ rfl rfl (zl rfl) rfl rfl),za rfl rfl rfl,za rfl rfl rfl,trivial⟩ ?_
  refine pt_then ?_
  refine ht_seq ?_
  refine ht_seq ?_
  refine zh hn [_, _, _, _, _, (19, .v (.bool v2.2)), (20, .v (.bool (!v2.2)))] [0,1,2,3,4] [0,1,2,3,6] [zq [4] 5 19, zq [5] 6 20] [(_,_),(_,_),(_,_),(_,_),(_,_)] (by kernel_rfl) rfl rfl ⟨zm rfl rfl rfl,zp rfl (op_un _ _ _ _ rfl rfl),trivial⟩ ?_
  refine pt_then ?_
  refine ht_cond _ rfl (fun hb15 => ?_) (fun hb15 => ?_)
  ·have h := cond_t hb15 h
   refine ht_seq ?_
   refine zh hn [_, _, _, _, _, (21, .agg [.v (.int .i64 0), .v (.string (⟨#[]⟩ : ByteArray)), .v (.bool false), .v (.string (⟨#[]⟩ : ByteArray)), .v (.string (⟨#[]⟩ : ByteArray)), .v (.slice none 0 0)]), (4, .box 26 [.v (.int .i64 0), .v (.string (⟨#[]⟩ : ByteArray)), .v (.bool false), .v (.string (⟨#[]⟩ : ByteArray)), .v (.string (⟨#[]⟩ : ByteArray)), .v (.slice none 0 0)]), (5, .v (.bool false))] [0,1,2,3,4] [1,6,7] [zq [] 5 21, ⟨[], [5, 2], [6], [.cell 4 0, .cell 4 1, .cell 4 2, .cell 4 3, .cell 4 4, .cell 4 5]⟩, zq [] 7 5] [(_,_),(_,_),(_,_)] (by kernel_rfl) rfl rfl ⟨zp rfl (op_build _ _ _ _ [1, 1, 3, 1] _ _ Tryz.underlying26 zr26 (fs26 _ Tryz.underlying26) Src.nil rfl rfl rfl),zp rfl (op_store_self _ _ _ 21 4 6 sz26 rfl rfl rfl rfl rfl (.eq _ (.eq _ (.eq _ (.eq _ (.eq _ (.eq _ (.nil _))))))) rfl),za rfl rfl rfl,trivial⟩ ?_
   refine pt_then ?_
   refine ht_ret ?_
   refine pt_pick [1, 2] (by kernel_rfl) (es' := [(_, _), (_, _)]) rfl ?_
   refine pt_sub (fs := [(4, .box 26 [.v (.int .i64 0), .v (.string (⟨#[]⟩ : ByteArray)), .v (.bool false), .v (.string (⟨#[]⟩ : ByteArray)), .v (.string (⟨#[]⟩ : ByteArray)), .fl (.own 47) 2 (List.flatten (List.map T_Param.enc []))]), (5, .v (.bool false))]) (.box _ _ (subs_cons (sub_refl _) (subs_cons (sub_refl _) (subs_cons (sub_refl _) (subs_cons (sub_refl _) (subs_cons (sub_refl _) (subs_cons (sub_nil 47 2) (subs_nil))))))) rfl (.same _ .nil)) ?_
   refine pt_frz 0 hio (es' := [(4, .box 26 [.v (.int .i64 0), .v (.string (⟨#[]⟩ : ByteArray)), .v (.bool false), .v (.string (⟨#[]⟩ : ByteArray)), .v (.string (⟨#[]⟩ : ByteArray)), .fl .ro 2 (List.flatten (List.map T_Param.enc []))]), (5, .v (.bool false))]) rfl ?_
   refine pt_r_then ?_
   obtain rfl := Option.some.inj h
   exact pt_ret hio rfl (.cellA _ _ _ _ Tryz.underlying26 rfl sz26 (.tmp _ _ .nil)) rfl rfl
  ·have h := cond_f hb15 h
   refine ht_skip ?_
   refine pt_then ?_
   refine ht_seq ?_
   obtain ⟨v4, hv4, h⟩ := bind_some h
   obtain ⟨v5, hv5, h⟩ := bind_some h
   refine zh hn [_, _, _, _, _, (22, .v (.string v2.1)), (23, .v (.int .i64 v4)), (24, .v (.int .i64 v5)), (8, .v (.int .i64 v5))] [0,1,2,3,4] [0,1,2,3,8] [zq [3] 5 22, zq [5] 6 23, zq [6] 7 24, zq [7] 8 8] [(_,_),(_,_),(_,_),(_,_),(_,_)] (by kernel_rfl) rfl rfl ⟨zm rfl rfl rfl,zp rfl (op_call _ _ 53 _ _ rfl Tryz.call53 rfl (ok_strings_Index v2.1 (⟨#[62]⟩ : ByteArray) _ hv4) rfl rfl),zp rfl (op_bin _ _ _ _ _ rfl rfl (ibind (f := Value.int .i64) (Option.some.inj hv5))),za rfl rfl rfl,trivial⟩ ?_
   refine pt_then ?_
   refine ht_seq ?_
   obtain ⟨v6, hv6, h⟩ := bind_some h
   obtain ⟨v7, hv7, h⟩ := bind_some h
   refine zh hn (_ :: _ :: _ :: _ :: _ :: (26, .v (.string v2.1)) :: (27, .v (.int .i64 v5)) :: (28, .v (.string v6)) :: (29, .tup [.agg [.v (.bool v7.1.Null), .v (.string v7.1.Local), .v (.string v7.1.Domain)], .v (.int .i64 v7.2)]) :: (25, .tup [.agg [.v (.bool v7.1.Null), .v (.string v7.1.Local), .v (.string v7.1.Domain)], .v (.int .i64 v7.2)]) :: (30, .agg [.v (.bool v7.1.Null), .v (.string v7.1.Local), .v (.string v7.1.Domain)]) :: (31, .v (.int .i64 v7.2)) :: (9, .box 23 [.v (.bool false), .v (.string (⟨#[]⟩ : ByteArray)), .v (.string (⟨#[]⟩ : ByteArray))]) :: (9, .box 23 [.v (.bool v7.1.Null), .v (.string v7.1.Local), .v (.string v7.1.Domain)]) :: (10, .v (.int .i64 v7.2)) :: []) [0,1,2,3,4] [0,1,2,3,4,13,14] [zq [3] 5 26, zq [4] 6 27, zq [5,6] 7 28, zq [7,1] 8 29, ⟨[], [8], [9], [(.slot 25)]⟩, zq [9] 10 30, zq [9] 11 31, zq [] 12 9, ⟨[10], [12], [13], [.cell 9 0, .cell 9 1, .cell 9 2]⟩, zq [11] 14 10] [(_,_),(_,_),(_,_),(_,_),(_,_),(_,_),(_,_)] (by kernel_rfl) rfl rfl ⟨zm rfl rfl rfl,zm rfl rfl rfl,zp rfl (op_substr _ _ _ 0 v5 _ Tryz.underlying9 rfl rfl ⟨_, rfl⟩ hv6),zp rfl (op_callG _ _ 56 54 _ _ rfl Tryz.call54 rfl rfl (fun _ h => h) (ok_path_Parse mx v6 _ hv7) rfl rfl),zp rfl (op_move_take _ _ _ _ rfl),zp rfl (op_extract_no _ _ _ _ _ _ rfl rfl (zl rfl) rfl rfl),zp rfl (op_extract _ _ _ _ _ rfl rfl (zl rfl) rfl rfl),zp rfl (op_alloc _ _ zr23),zp rfl (op_store _ _ _ _ _ _ _ _ sz23 rfl rfl rfl rfl (zl rfl) rfl rfl),za rfl rfl rfl,trivial⟩ ?_
   refine pt_then ?_
   refine ht_seq ?_
   refine ht_seq ?_
   refine ht_joinS h (fun (s16 : Bool) => [(0, .v (.int .i64 kind)), (56, .glob (GL mx)), (4, .box 26 [.v (.int .i64 0), .v (.string (⟨#[]⟩ : ByteArray)), .v (.bool false), .v (.string (⟨#[]⟩ : ByteArray)), .v (.string (⟨#[]⟩ : ByteArray)), .v (.slice none 0 0)]), (6, .v (.string v2.1)), (8, .v (.int .i64 v5)), (9, .box 23 [.v (.bool v7.1.Null), .v (.string v7.1.Local), .v (.string v7.1.Domain)]), (41, .v (.bool s16))]) ?_ ?_
   ·rintro s16 h
    refine pt_then ?_
    refine ht_cond _ rfl (fun hb20 => ?_) (fun hb20 => ?_)
    ·have h := cond_t hb20 h
     refine ht_seq ?_
     refine zh hn [_, _, _, _, _, _, _, (42, .agg [.v (.int .i64 0), .v (.string (⟨#[]⟩ : ByteArray)), .v (.bool false), .v (.string (⟨#[]⟩ : ByteArray)), .v (.string (⟨#[]⟩ : ByteArray)), .v (.slice none 0 0)]), (4, .box 26 [.v (.int .i64 0), .v (.string (⟨#[]⟩ : ByteArray)), .v (.bool false), .v (.string (⟨#[]⟩ : ByteArray)), .v (.string (⟨#[]⟩ : ByteArray)), .v (.slice none 0 0)]), (5, .v (.bool false))] [0,1,2,3,4,5,6] [1,8,9] [zq [] 7 42, ⟨[], [7, 2], [8], [.cell 4 0, .cell 4 1, .cell 4 2, .cell 4 3, .cell 4 4, .cell 4 5]⟩, zq [] 9 5] [(_,_),(_,_),(_,_)] (by kernel_rfl) rfl rfl ⟨zp rfl (op_build _ _ _ _ [1, 1, 3, 1] _ _ Tryz.underlying26 zr26 (fs26 _ Tryz.underlying26) Src.nil rfl rfl rfl),zp rfl (op_store_self _ _ _ 42 4 6 sz26 rfl rfl rfl rfl rfl (.eq _ (.eq _ (.eq _ (.eq _ (.eq _ (.eq _ (.nil _))))))) rfl),za rfl rfl rfl,trivial⟩ ?_
     refine pt_then ?_
     refine ht_ret ?_
     refine pt_pick [1, 2] (by kernel_rfl) (es' := [(_, _), (_, _)]) rfl ?_
     refine pt_sub (fs := [(4, .box 26 [.v (.int .i64 0), .v (.string (⟨#[]⟩ : ByteArray)), .v (.bool false), .v (.string (⟨#[]⟩ : ByteArray)), .v (.string (⟨#[]⟩ : ByteArray)), .fl (.own 47) 2 (List.flatten (List.map T_Param.enc []))]), (5, .v (.bool false))]) (.box _ _ (subs_cons (sub_refl _) (subs_cons (sub_refl _) (subs_cons (sub_refl _) (subs_cons (sub_refl _) (subs_cons (sub_refl _) (subs_cons (sub_nil 47 2) (subs_nil))))))) rfl (.same _ .nil)) ?_
     refine pt_frz 0 hio (es' := [(4, .box 26 [.v (.int .i64 0), .v (.string (⟨#[]⟩ : ByteArray)), .v (.bool false), .v (.string (⟨#[]⟩ : ByteArray)), .v (.string (⟨#[]⟩ : ByteArray)), .fl .ro 2 (List.flatten (List.map T_Param.enc []))]), (5, .v (.bool false))]) rfl ?_
     refine pt_r_then ?_
     obtain rfl := Option.some.inj h
     exact pt_ret hio rfl (.cellA _ _ _ _ Tryz.underlying26 rfl sz26 (.tmp _ _ .nil)) rfl rfl
    ·have h := cond_f hb20 h
     refine ht_skip ?_
     refine pt_then ?_
     refine ht_seq ?_
     obtain ⟨v13, hv13, h⟩ := bind_some h
     obtain ⟨v14, hv14, h⟩ := bind_some h
     refine zh hn (_ :: _ :: _ :: _ :: _ :: _ :: _ :: (44, .v (.int .i64 kind)) :: (45, .v (.string v2.1)) :: (46, .v (.int .i64 v5)) :: (47, .v (.string v13)) :: (48, .tup [.fl .ro 2 (List.flatten (List.map T_Param.enc v14.1)), .v (.bool v14.2)]) :: (43, .tup [.fl .ro 2 (List.flatten (List.map T_Param.enc v14.1)), .v (.bool v14.2)]) :: (49, .fl .ro 2 (List.flatten (List.map T_Param.enc v14.1))) :: (50, .v (.bool v14.2)) :: (11, .fl .ro 2 (List.flatten (List.map T_Param.enc v14.1))) :: (7, .v (.bool v14.2)) :: []) [0,1,2,3,4,5,6] [0,1,2,5,15,16] [zq [0] 7 44, zq [3] 8 45, zq [4] 9 46, zq [8,9] 10 47, zq [7,10,1] 11 48, ⟨[], [11], [12], [(.slot 43)]⟩, zq [12] 13 49, zq [12] 14 50, zq [13] 15 11, zq [14] 16 7] [(_,_),(_,_),(_,_),(_,_),(_,_),(_,_)] (by kernel_rfl) rfl rfl ⟨zm rfl rfl rfl,zm rfl rfl rfl,zm rfl rfl rfl,zp rfl (op_substr _ _ _ v5 (v2.1.size : Int) _ Tryz.underlying9 rfl ⟨_, rfl⟩ rfl hv13),zp rfl (op_callG _ _ 56 55 _ _ rfl Tryz.call55 rfl rfl (fun _ h => h) (ok_verb_parameters mx kind v13 _ hv14) rfl rfl),zp rfl (op_move_take _ _ _ _ rfl),zp rfl (op_extract _ _ _ _ _ rfl rfl (zl rfl) rfl rfl),zp rfl (op_extract _ _ _ _ _ rfl rfl (zl rfl) rfl rfl),za rfl rfl rfl,za rfl rfl rfl,trivial⟩ ?_
     refine pt_then ?_
     refine ht_seq ?_
     refine zh hn [_, _, _, _, _, _, (51, .v (.int .i64 kind)), (52, .agg [.v (.bool v7.1.Null), .v (.string v7.1.Local), .v (.string v7.1.Domain)]), (53, .fl .ro 2 (List.flatten (List.map T_Param.enc v14.1))), (54, .agg [.v (.int .i64 kind), .v (.string (⟨#[]⟩ : ByteArray)), .v (.bool v7.1.Null), .v (.string v7.1.Local), .v (.string v7.1.Domain), .fl .ro 2 (List.flatten (List.map T_Param.enc v14.1))]), (55, .v (.bool v14.2)), (4, .box 26 [.v (.int .i64 kind), .v (.string (⟨#[]⟩ : ByteArray)), .v (.bool v7.1.Null), .v (.string v7.1.Local), .v (.string v7.1.Domain), .fl .ro 2 (List.flatten (List.map T_Param.enc v14.1))]), (5, .v (.bool v14.2))] [0,1,2,3,4,5] [1,11,12] [zq [0] 6 51, zq [3] 7 52, zq [4] 8 53, zq [6,7,8] 9 54, zq [5] 10 55, ⟨[9], [2], [11], [.cell 4 0, .cell 4 1, .cell 4 2, .cell 4 3, .cell 4 4, .cell 4 5]⟩, zq [10] 12 5] [(_,_),(_,_),(_,_)] (by kernel_rfl) rfl rfl ⟨zm rfl rfl rfl,zp rfl (op_loadA _ _ _ _ _ _ _ Tryz.underlying23 rfl sz23 rfl rfl (zl rfl) rfl rfl),zm rfl rfl rfl,zp rfl (op_build _ _ _ _ [1, 1, 3, 1] _ _ Tryz.underlying26 zr26 (fs26 _ Tryz.underlying26) (.copy _ (.copy _ (.copy _ Src.nil))) rfl rfl rfl),zm rfl rfl rfl,zp rfl (op_store _ _ _ _ _ _ _ _ sz26 rfl rfl rfl rfl (zl rfl) rfl rfl),za rfl rfl rfl,trivial⟩ ?_
     refine pt_then ?_
     refine ht_ret ?_
     refine pt_pick [1, 2] (by kernel_rfl) (es' := [(_, _), (_, _)]) rfl ?_
     obtain rfl := Option.some.inj h
     exact pt_ret hio rfl (.cellA _ _ _ _ Tryz.underlying26 rfl sz26 (.tmp _ _ .nil)) rfl rfl
   ·intro u17 h hl18 hr19
    refine cond_some h (fun hg6_2 h => ?_) (fun hg6_2 h => ?_)
    ·refine zh hn (_ :: _ :: _ :: _ :: _ :: _ :: _ :: (32, .v (.int .i64 v7.2)) :: (33, .v (.bool (v7.2 != 0))) :: (34, .v (.bool true)) :: (35, .v undef) :: (36, .v undef) :: (37, .v undef) :: (38, .v undef) :: (39, .v undef) :: (40, .v undef) :: (41, .v (.bool true)) :: []) [0,1,2,3,4,5,6] [0,1,2,3,4,5,16] [zq [6] 7 32, zq [7] 8 33, zq [8] 9 34, zq [9] 10 35, zq [9] 11 36, zq [9] 12 37, zq [12] 13 38, zq [12] 14 39, zq [9] 15 40, zq [9] 16 41] [(_,_),(_,_),(_,_),(_,_),(_,_),(_,_),(_,_)] (by kernel_rfl) rfl rfl ⟨zm rfl rfl rfl,zo rfl rfl rfl rfl,zm rfl (zb hg6_2) rfl,zs 2 false rfl rfl rfl rfl,zs 2 false rfl rfl rfl rfl,zs 2 false rfl rfl rfl rfl,zu 5 rfl rfl rfl rfl,zu 5 rfl rfl rfl rfl,zs 2 false rfl rfl rfl rfl,zk true rfl rfl rfl,trivial⟩ ?_
     exact hl18 _ (Option.some.inj h).symm
    ·refine cond_some h (fun hg6_5 h => ?_) (fun hg6_5 h => ?_)
     ·refine zh hn (_ :: _ :: _ :: _ :: _ :: _ :: _ :: (32, .v (.int .i64 v7.2)) :: (33, .v (.bool (v7.2 != 0))) :: (34, .v (.bool false)) :: (35, .v (.int .i64 kind)) :: (36, .v (.bool (kind == 3))) :: (37, .v (.bool true)) :: (38, .ptr 9 0) :: (39, .v (.bool v7.1.Null)) :: (40, .v (.bool v7.1.Null)) :: (41, .v (.bool v7.1.Null)) :: []) [0,1,2,3,4,5,6] [0,1,2,3,4,5,16] [zq [6] 7 32, zq [7] 8 33, zq [8] 9 34, zq [9,0] 10 35, zq [9,10] 11 36, zq [9,11] 12 37, zq [12,5] 13 38, zq [12,13,5] 14 39, zq [9,12,14] 15 40, zq [9,15] 16 41] [(_,_),(_,_),(_,_),(_,_),(_,_),(_,_),(_,_)] (by kernel_rfl) rfl rfl ⟨zm rfl rfl rfl,zo rfl rfl rfl rfl,zm rfl (zb hg6_2) rfl,zr 2 rfl rfl rfl (op_move _ _ _ _ rfl rfl),zr 2 rfl rfl rfl (op_bin _ _ _ _ _ rfl rfl rfl),zr 2 rfl rfl rfl (op_move _ _ _ _ (zb hg6_5) rfl),zr 5 rfl rfl rfl (op_fieldAddr _ _ _ _ 9 0 _ Tryz.underlying23 rfl sz4 rfl rfl (by decide)),zr 5 rfl rfl rfl (op_load _ _ _ _ _ _ Tryz.underlying4 rfl rfl rfl (zl rfl) rfl rfl rfl),zr 2 rfl rfl rfl (op_pick _ _ true _ rfl rfl),zk false rfl rfl rfl,trivial⟩ ?_
      exact hl18 _ (Option.some.inj h).symm
     ·refine zh hn (_ :: _ :: _ :: _ :: _ :: _ :: _ :: (32, .v (.int .i64 v7.2)) :: (33, .v (.bool (v7.2 != 0))) :: (34, .v (.bool false)) :: (35, .v (.int .i64 kind)) :: (36, .v (.bool (kind == 3))) :: (37, .v (.bool false)) :: (38, .v undef) :: (39, .v undef) :: (40, .v (.bool false)) :: (41, .v (.bool false)) :: []) [0,1,2,3,4,5,6] [0,1,2,3,4,5,16] [zq [6] 7 32, zq [7] 8 33, zq [8] 9 34, zq [9,0] 10 35, zq [9,10] 11 36, zq [9,11] 12 37, zq [12] 13 38, zq [12] 14 39, zq [9,12] 15 40, zq [9,15] 16 41] [(_,_),(_,_),(_,_),(_,_),(_,_),(_,_),(_,_)] (by kernel_rfl) rfl rfl ⟨zm rfl rfl rfl,zo rfl rfl rfl rfl,zm rfl (zb hg6_2) rfl,zr 2 rfl rfl rfl (op_move _ _ _ _ rfl rfl),zr 2 rfl rfl rfl (op_bin _ _ _ _ _ rfl rfl rfl),zr 2 rfl rfl rfl (op_move _ _ _ _ (zb hg6_5) rfl),zs 5 true rfl rfl rfl rfl,zs 5 true rfl rfl rfl rfl,zr 2 rfl rfl rfl (op_pick _ _ false _ rfl rfl),zk false rfl rfl rfl,trivial⟩ ?_
      exact hl18 _ (Option.some.inj h).symm
set_option maxHeartbeats 1000000 in
theorem ok_verb_command (mx : Int) (line : ByteArray) (r : (T_Cmd × Bool)) (h : Sh.verb_command line = some r) : FnG Tryz.prog (GL mx) 21 [.v (.string line)] (.tup [.agg [.v (.int .i64 r.1.Kind), .v (.string r.1.Text), .v (.bool r.1.Path.Null), .v (.string r.1.Path.Local), .v (.string r.1.Path.Domain), .fl .ro 2 (List.flatten (List.map T_Param.enc r.1.Params))], .v (.bool r.2)]) := by
  unfold Sh.verb_command at h
  refine fn_okG Tryz.func21 rfl (zl rfl) rfl rfl fun g0 hn hio => ?_
  refine ht_seq ?_
  refine zh hn [_, _, (2, .box 26 [.v (.int .i64 0), .v (.string (⟨#[]⟩ : ByteArray)), .v (.bool false), .v (.string (⟨#[]⟩ : ByteArray)), .v (.string (⟨#[]⟩ : ByteArray)), .v (.slice none 0 0)]), (3, .v (.bool false))] [0,1] [0,1,2] [zq [] 2 2, zq [] 3 3] [(_,_),(_,_),(_,_)] (by kernel_rfl) rfl rfl ⟨zp rfl (op_alloc _ _ zr26),za rfl rfl rfl,trivial⟩ ?_
  refine pt_then ?_
  refine ht_seq ?_
  obtain ⟨v1, hv1, h⟩ := bind_some h
  refine zh hn [_, _, _, (9, .v (.string line)), (10, .tup [.v (.string v1.1), .v (.string v1.2.1), .v (.bool v1.2.2)]), (8, .tup [.v (.string v1.1), .v (.string v1.2.1), .v (.bool v1.2.2)]), (11, .v (.string v1.1)), (12, .v (.string v1.2.1)), (13, .v (.bool v1.2.2)), (4, .v (.string v1.1)), (5, .v (.string v1.2.1)), (6, .v (.bool v1.2.2))] [0,1,2] [0,1,2,10,11] [zq [0] 3 9, zq [3] 4 10, ⟨[], [4], [5], [(.slot 8)]⟩, zq [5] 6 11, zq [5] 7 12, zq [5] 8 13, zq [6] 9 4, zq [7] 10 5, zq [8] 11 6] [(_,_),(_,_),(_,_),(_,_),(_,_)] (by kernel_rfl) rfl rfl ⟨zm rfl rfl rfl,zp rfl (op_call _ _ 33 _ _ rfl Tryz.call33 rfl (ok_strings_Cut line (⟨#[32]⟩ : ByteArray) _ hv1) rfl rfl),zp rfl (op_move_take _ _ _ _ rfl),zp rfl (op_extract _ _ _ _ _ rfl rfl (zl rfl) rfl rfl),zp rfl (op_extract _ _ _ _ _ rfl rfl (zl rfl) rfl rfl),zp rfl (op_extract _ _ _ _ _ rfl rfl (zl rfl) rfl rfl),za rfl rfl rfl,za rfl rfl rfl,za rfl rfl rfl,trivial⟩ ?_
  refine pt_then ?_
  refine ht_seq ?_
  obtain ⟨v2, hv2, h⟩ := bind_some h
  refine zh hn [_, _, _, _, _, (14, .v (.string line)), (15, .v (.int .i64 v2)), (16, .agg [.v (.int .i64 v2), .v (.string (⟨#[]⟩ : ByteArray)), .v (.bool false), .v (.string (⟨#[]⟩ : ByteArray)), .v (.string (⟨#[]⟩ : ByteArray)), .v (.slice none 0 0)]), (7, .box 26 [.v (.int .i64 0), .v (.string (⟨#[]⟩ : ByteArray)), .v (.bool false), .v (.string (⟨#[]⟩ : ByteArray)), .v (.string (⟨#[]⟩ : ByteArray)), .v (.slice none 0 0)]), (7, .box 26 [.v (.int .i64 v2), .v (.string (⟨#[]⟩ : ByteArray)), .v (.bool false), .v (.string (⟨#[]⟩ : ByteArray)), .v (.string (⟨#[]⟩ : ByteArray)), .v (.slice none 0 0)])] [0,1,2,3,4] [0,1,2,3,4,9] [zq [0] 5 14, zq [5] 6 15, zq [6] 7 16, zq [] 8 7, ⟨[7], [8], [9], [.cell 7 0, .cell 7 1, .cell 7 2, .cell 7 3, .cell 7 4, .cell 7 5]⟩] [(_,_),(_,_),(_,_),(_,_),(_,_),(_,_)] (by kernel_rfl) rfl rfl ⟨zm rfl rfl rfl,zp rfl (op_call _ _ 19 _ _ rfl Tryz.call19 rfl (ok_verb_kindOf line _ hv2) rfl rfl),zp rfl (op_build _ _ _ _ [1, 1, 3, 1] _ _ Tryz.underlying26 zr26 (fs26 _ Tryz.underlying26) (.copy _ Src.nil) rfl rfl rfl),zp rfl (op_alloc _ _ zr26),zp rfl (op_store _ _ _ _ _ _ _ _ sz26 rfl rfl rfl rfl (zl rfl) rfl rfl),trivial⟩ ?_
  refine pt_then ?_
  refine ht_seq ?_
  refine ht_seq ?_
  refine zh hn [_, _, _, _, _, _, (17, .ptr 7 0), (18, .v (.int .i64 v2))] [0,1,2,3,4,5] [0,1,2,3,4,5,7] [zq [5] 6 17, zq [6,5] 7 18] [(_,_),(_,_),(_,_),(_,_),(_,_),(_,_),(_,_)] (by kernel_rfl) rfl rfl ⟨zp rfl (op_fieldAddr _ _ _ _ 7 0 _ Tryz.underlying26 rfl sz3 rfl rfl (by decide)),zp rfl (op_load _ _ _ _ _ _ Tryz.underlying3 rfl rfl rfl (zl rfl) rfl rfl rfl),trivial⟩ ?_
  refine pt_then ?_
  refine ht_block ?_
  refine ht_seq ?_
  refine ht_joinS h (fun (s30 : Bool) => [(0, .v (.string line)), (65, .glob (GL mx)), (2, .box 26 [.v (.int .i64 0), .v (.string (⟨#[]⟩ : ByteArray)), .v (.bool false), .v (.string (⟨#[]⟩ : ByteArray)), .v (.string (⟨#[]⟩ : ByteArray)), .v (.slice none 0 0)]), (5, .v (.string v1.2.1)), (6, .v (.bool v1.2.2)), (7, .box 26 [.v (.int .i64 v2), .v (.string (⟨#[]⟩ : ByteArray)), .v (.bool false), .v (.string (⟨#[]⟩ : ByteArray)), .v (.string (⟨#[]⟩ : ByteArray)), .v (.slice none 0 0)]), (18, .v (.int .i64 v2)), (19, .v (.bool s30))]) ?_ ?_
  ·rintro s30 h
   refine pt_then ?_
   refine ht_cond _ rfl (fun hb35 => ?_) (fun hb35 => ?_)
   ·have h := cond_t hb35 h
    refine ht_seq ?_
    obtain ⟨v10, hv10, h⟩ := bind_some h
    refine zh hn (_ :: _ :: _ :: _ :: _ :: _ :: _ :: _ :: (22, .ptr 7 0) :: (23, .v (.int .i64 v2)) :: (24, .v (.string line)) :: (25, .tup [.agg [.v (.int .i64 v10.1.Kind), .v (.string v10.1.Text), .v (.bool v10.1.Path.Null), .v (.string v10.1.Path.Local), .v (.string v10.1.Path.Domain), .fl .ro 2 (List.flatten (List.map T_Param.enc v10.1.Params))], .v (.bool v10.2)]) :: (26, .agg [.v (.int .i64 v10.1.Kind), .v (.string v10.1.Text), .v (.bool v10.1.Path.Null), .v (.string v10.1.Path.Local), .v (.string v10.1.Path.Domain), .fl .ro 2 (List.flatten (List.map T_Param.enc v10.1.Params))]) :: (27, .v (.bool v10.2)) :: (2, .box 26 [.v (.int .i64 v10.1.Kind), .v (.string v10.1.Text), .v (.bool v10.1.Path.Null), .v (.string v10.1.Path.Local), .v (.string v10.1.Path.Domain), .fl .ro 2 (List.flatten (List.map T_Param.enc v10.1.Params))]) :: (3, .v (.bool v10.2)) :: []) [0,1,2,3,4,5,6,7] [1,14,15] [zq [5] 8 22, zq [8,5] 9 23, zq [0] 10 24, zq [9,10,1] 11 25, zq [11] 12 26, zq [11] 13 27, ⟨[12], [2], [14], [.cell 2 0, .cell 2 1, .cell 2 2, .cell 2 3, .cell 2 4, .cell 2 5]⟩, zq [13] 15 3] [(_,_),(_,_),(_,_)] (by kernel_rfl) rfl rfl ⟨zp rfl (op_fieldAddr _ _ _ _ 7 0 _ Tryz.underlying26 rfl sz3 rfl rfl (by decide)),zp rfl (op_load _ _ _ _ _ _ Tryz.underlying3 rfl rfl rfl (zl rfl) rfl rfl rfl),zm rfl rfl rfl,zp rfl (op_callG _ _ 65 38 _ _ rfl Tryz.call38 rfl rfl (fun _ h => h) (ok_verb_pathCommand mx v2 line _ hv10) rfl rfl),zp rfl (op_extract_no _ _ _ _ _ _ rfl rfl (zl rfl) rfl rfl),zp rfl (op_extract _ _ _ _ _ rfl rfl (zl rfl) rfl rfl),zp rfl (op_store _ _ _ _ _ _ _ _ sz26 rfl rfl rfl rfl (zl rfl) rfl rfl),za rfl rfl rfl,trivial⟩ ?_
    refine pt_then ?_
    refine ht_ret ?_
    refine pt_pick [1, 2] (by kernel_rfl) (es' := [(_, _), (_, _)]) rfl ?_
    refine pt_r_in ?_
    refine pt_r_then ?_
    obtain rfl := Option.some.inj h
    exact pt_ret hio rfl (.cellA _ _ _ _ Tryz.underlying26 rfl sz26 (.tmp _ _ .nil)) rfl rfl
   ·have h := cond_f hb35 h
    refine ht_seq ?_
    refine ht_joinS h (fun (s37 : Bool) => [(65, .glob (GL mx)), (2, .box 26 [.v (.int .i64 0), .v (.string (⟨#[]⟩ : ByteArray)), .v (.bool false), .v (.string (⟨#[]⟩ : ByteArray)), .v (.string (⟨#[]⟩ : ByteArray)), .v (.slice none 0 0)]), (5, .v (.string v1.2.1)), (6, .v (.bool v1.2.2)), (7, .box 26 [.v (.int .i64 v2), .v (.string (⟨#[]⟩ : ByteArray)), .v (.bool false), .v (.string (⟨#[]⟩ : ByteArray)), .v (.string (⟨#[]⟩ : ByteArray)), .v (.slice none 0 0)]), (18, .v (.int .i64 v2)), (28, .v (.bool s37))]) ?_ ?_
    ·rintro s37 h
     refine pt_then ?_
     refine ht_cond _ rfl (fun hb42 => ?_) (fun hb42 => ?_)
     ·have h := cond_t hb42 h
      refine ht_seq ?_
      refine zh hn [_, _, _, _, _, _, _, (31, .v (.string v1.2.1)), (32, .ptr 7 1), (7, .box 26 [.v (.int .i64 v2), .v (.string v1.2.1), .v (.bool false), .v (.string (⟨#[]⟩ : ByteArray)), .v (.string (⟨#[]⟩ : ByteArray)), .v (.slice none 0 0)])] [0,1,2,3,4,5,6] [0,1,2,9] [zq [2] 7 31, zq [4] 8 32, ⟨[8, 7], [4], [9], [.cell 7 1]⟩] [(_,_),(_,_),(_,_),(_,_)] (by kernel_rfl) rfl rfl ⟨zm rfl rfl rfl,zp rfl (op_fieldAddr _ _ _ _ 7 0 _ Tryz.underlying26 rfl sz9 rfl rfl (by decide)),zp rfl (op_store _ _ _ _ _ _ _ _ sz9 rfl rfl rfl rfl (zl rfl) rfl rfl),trivial⟩ ?_
      refine pt_then ?_
      refine ht_seq ?_
      obtain ⟨v18, hv18, h⟩ := bind_some h
      refine ht_anyR (by kernel_rfl) hn (El := [_, _, _, _, (33, .agg [.v (.int .i64 v2), .v (.string v1.2.1), .v (.bool false), .v (.string (⟨#[]⟩ : ByteArray)), .v (.string (⟨#[]⟩ : ByteArray)), .v (.slice none 0 0)]), (34, .v (.string v1.2.1)), (35, .v (.bool v18)), (2, .box 26 [.v (.int .i64 v2), .v (.string v1.2.1), .v (.bool false), .v (.string (⟨#[]⟩ : ByteArray)), .v (.string (⟨#[]⟩ : ByteArray)), .v (.slice none 0 0)]), (3, .v (.bool v18))]) (init := [0, 1, 2, 3]) (fin := [0, 7, 8]) (sps := [zq [3] 4 33, zq [2] 5 34, zq [5,0] 6 35, ⟨[4], [1], [7], [.cell 2 0, .cell 2 1, .cell 2 2, .cell 2 3, .cell 2 4, .cell 2 5]⟩, zq [6] 8 3]) (es' := [(_, _), (2, .box 26 [.v (.int .i64 v2), .v (.string v1.2.1), .v (.bool false), .v (.string (⟨#[]⟩ : ByteArray)), .v (.string (⟨#[]⟩ : ByteArray)), .v (.slice none 0 0)]), (3, .v (.bool v18))]) (by kernel_rfl) rfl rfl ⟨zp rfl (op_loadA _ _ _ _ _ _ _ Tryz.underlying26 rfl sz26 rfl rfl (zl rfl) rfl rfl),zm rfl rfl rfl,zp rfl (op_callG _ _ 65 37 _ _ rfl Tryz.call37 rfl rfl (fun _ h => h) (ok_path_Domain mx v1.2.1 _ hv18) rfl rfl),zp rfl (op_store _ _ _ _ _ _ _ _ sz26 rfl rfl rfl rfl (zl rfl) rfl rfl),za rfl rfl rfl,trivial⟩ ?_
      refine pt_then ?_
      refine ht_ret ?_
      refine pt_pick [1, 2] (by kernel_rfl) (es' := [(_, _), (_, _)]) rfl ?_
      refine pt_sub (fs := [(2, .box 26 [.v (.int .i64 v2), .v (.string v1.2.1), .v (.bool false), .v (.string (⟨#[]⟩ : ByteArray)), .v (.string (⟨#[]⟩ : ByteArray)), .fl (.own 47) 2 (List.flatten (List.map T_Param.enc []))]), (3, .v (.bool v18))]) (.box _ _ (subs_cons (sub_refl _) (subs_cons (sub_refl _) (subs_cons (sub_refl _) (subs_cons (sub_refl _) (subs_cons (sub_refl _) (subs_cons (sub_nil 47 2) (subs_nil))))))) rfl (.same _ .nil)) ?_
      refine pt_frz 0 hio (es' := [(2, .box 26 [.v (.int .i64 v2), .v (.string v1.2.1), .v (.bool false), .v (.string (⟨#[]⟩ : ByteArray)), .v (.string (⟨#[]⟩ : ByteArray)), .fl .ro 2 (List.flatten (List.map T_Param.enc []))]), (3, .v (.bool v18))]) rfl ?_
      refine pt_r_in ?_
      refine pt_r_then ?_
      obtain rfl := Option.some.inj h
      exact pt_ret hio rfl (.cellA _ _ _ _ Tryz.underlying26 rfl sz26 (.tmp _ _ .nil)) rfl rfl
     ·have h := cond_f hb42 h
      refine ht_seq ?_
      refine zh hn [_, _, _, _, _, _, _, (37, .v (.bool (v2 == 6))), (36, .v (.bool (v2 == 6)))] [0,1,2,3,4,5,6] [0,1,2,3,4,5,8] [zq [5] 7 37, zq [7] 8 36] [(_,_),(_,_),(_,_),(_,_),(_,_),(_,_),(_,_)] (by kernel_rfl) rfl rfl ⟨zo rfl rfl rfl rfl,za rfl rfl rfl,trivial⟩ ?_
      refine pt_then ?_
      refine ht_cond _ rfl (fun hb43 => ?_) (fun hb43 => ?_)
      ·have h := cond_t hb43 h
       refine ht_seq ?_
       refine zh hn [_, _, _, _, _, _, _, (38, .v (.string v1.2.1)), (39, .ptr 7 1), (7, .box 26 [.v (.int .i64 v2), .v (.string v1.2.1), .v (.bool false), .v (.string (⟨#[]⟩ : ByteArray)), .v (.string (⟨#[]⟩ : ByteArray)), .v (.slice none 0 0)])] [0,1,2,3,4,5,6] [0,1,2,9] [zq [2] 7 38, zq [4] 8 39, ⟨[8, 7], [4], [9], [.cell 7 1]⟩] [(_,_),(_,_),(_,_),(_,_)] (by kernel_rfl) rfl rfl ⟨zm rfl rfl rfl,zp rfl (op_fieldAddr _ _ _ _ 7 0 _ Tryz.underlying26 rfl sz9 rfl rfl (by decide)),zp rfl (op_store _ _ _ _ _ _ _ _ sz9 rfl rfl rfl rfl (zl rfl) rfl rfl),trivial⟩ ?_
       refine pt_then ?_
       refine ht_seq ?_
       refine zh hn [_, _, _, _, (40, .agg [.v (.int .i64 v2), .v (.string v1.2.1), .v (.bool false), .v (.string (⟨#[]⟩ : ByteArray)), .v (.string (⟨#[]⟩ : ByteArray)), .v (.slice none 0 0)]), (41, .v (.string v1.2.1)), (42, .v (.bool ((!(v1.2.1.toList == (⟨#[]⟩ : ByteArray).toList))))), (2, .box 26 [.v (.int .i64 v2), .v (.string v1.2.1), .v (.bool false), .v (.string (⟨#[]⟩ : ByteArray)), .v (.string (⟨#[]⟩ : ByteArray)), .v (.slice none 0 0)]), (3, .v (.bool ((!(v1.2.1.toList == (⟨#[]⟩ : ByteArray).toList)))))] [0,1,2,3] [0,7,8] [zq [3] 4 40, zq [2] 5 41, zq [5] 6 42, ⟨[4], [1], [7], [.cell 2 0, .cell 2 1, .cell 2 2, .cell 2 3, .cell 2 4, .cell 2 5]⟩, zq [6] 8 3] [(_,_),(_,_),(_,_)] (by kernel_rfl) rfl rfl ⟨zp rfl (op_loadA _ _ _ _ _ _ _ Tryz.underlying26 rfl sz26 rfl rfl (zl rfl) rfl rfl),zm rfl rfl rfl,zo rfl rfl rfl rfl,zp rfl (op_store _ _ _ _ _ _ _ _ sz26 rfl rfl rfl rfl (zl rfl) rfl rfl),za rfl rfl rfl,trivial⟩ ?_
       refine pt_then ?_
       refine ht_ret ?_
       refine pt_pick [1, 2] (by kernel_rfl) (es' := [(_, _), (_, _)]) rfl ?_
       refine pt_sub (fs := [(2, .box 26 [.v (.int .i64 v2), .v (.string v1.2.1), .v (.bool false), .v (.string (⟨#[]⟩ : ByteArray)), .v (.string (⟨#[]⟩ : ByteArray)), .fl (.own 47) 2 (List.flatten (List.map T_Param.enc []))]), (3, .v (.bool ((!(v1.2.1.toList == (⟨#[]⟩ : ByteArray).toList)))))]) (.box _ _ (subs_cons (sub_refl _) (subs_cons (sub_refl _) (subs_cons (sub_refl _) (subs_cons (sub_refl _) (subs_cons (sub_refl _) (subs_cons (sub_nil 47 2) (subs_nil))))))) rfl (.same _ .nil)) ?_
       refine pt_frz 0 hio (es' := [(2, .box 26 [.v (.int .i64 v2), .v (.string v1.2.1), .v (.bool false), .v (.string (⟨#[]⟩ : ByteArray)), .v (.string (⟨#[]⟩ : ByteArray)), .fl .ro 2 (List.flatten (List.map T_Param.enc []))]), (3, .v (.bool ((!(v1.2.1.toList == (⟨#[]⟩ : ByteArray).toList)))))]) rfl ?_
       refine pt_r_in ?_
       refine pt_r_then ?_
       obtain rfl := Option.some.inj h
       exact pt_ret hio rfl (.cellA _ _ _ _ Tryz.underlying26 rfl sz26 (.tmp _ _ .nil)) rfl rfl
      ·have h := cond_f hb43 h
       refine ht_seq ?_
       refine zh hn [_, _, _, _, _, _, _, (44, .v (.bool (v2 == 11))), (43, .v (.bool (v2 == 11)))] [0,1,2,3,4,5,6] [0,1,2,3,4,5,8] [zq [5] 7 44, zq [7] 8 43] [(_,_),(_,_),(_,_),(_,_),(_,_),(_,_),(_,_)] (by kernel_rfl) rfl rfl ⟨zo rfl rfl rfl rfl,za rfl rfl rfl,trivial⟩ ?_
       refine pt_then ?_
       refine ht_cond _ rfl (fun hb44 => ?_) (fun hb44 => ?_)
       ·have h := cond_t hb44 h
        refine ht_seq ?_
        refine zh hn [_, _, _, _, _, _, _, (45, .v (.string v1.2.1)), (46, .ptr 7 1), (7, .box 26 [.v (.int .i64 v2), .v (.string v1.2.1), .v (.bool false), .v (.string (⟨#[]⟩ : ByteArray)), .v (.string (⟨#[]⟩ : ByteArray)), .v (.slice none 0 0)])] [0,1,2,3,4,5,6] [0,1,2,3,9] [zq [2] 7 45, zq [4] 8 46, ⟨[8, 7], [4], [9], [.cell 7 1]⟩] [(_,_),(_,_),(_,_),(_,_),(_,_)] (by kernel_rfl) rfl rfl ⟨zm rfl rfl rfl,zp rfl (op_fieldAddr _ _ _ _ 7 0 _ Tryz.underlying26 rfl sz9 rfl rfl (by decide)),zp rfl (op_store _ _ _ _ _ _ _ _ sz9 rfl rfl rfl rfl (zl rfl) rfl rfl),trivial⟩ ?_
        refine pt_then ?_
        refine ht_seq ?_
        refine ht_joinS h (fun (s45 : Bool) => [(65, .glob (GL mx)), (2, .box 26 [.v (.int .i64 v2), .v (.string v1.2.1), .v (.bool false), .v (.string (⟨#[]⟩ : ByteArray)), .v (.string (⟨#[]⟩ : ByteArray)), .v (.slice none 0 0)]), (3, .v (.bool s45))]) ?_ ?_
        ·rintro s45 h
         refine pt_then ?_
         refine ht_ret ?_
         refine pt_pick [1, 2] (by kernel_rfl) (es' := [(_, _), (_, _)]) rfl ?_
         refine pt_sub (fs := [(2, .box 26 [.v (.int .i64 v2), .v (.string v1.2.1), .v (.bool false), .v (.string (⟨#[]⟩ : ByteArray)), .v (.string (⟨#[]⟩ : ByteArray)), .fl (.own 47) 2 (List.flatten (List.map T_Param.enc []))]), (3, .v (.bool s45))]) (.box _ _ (subs_cons (sub_refl _) (subs_cons (sub_refl _) (subs_cons (sub_refl _) (subs_cons (sub_refl _) (subs_cons (sub_refl _) (subs_cons (sub_nil 47 2) (subs_nil))))))) rfl (.same _ .nil)) ?_
         refine pt_frz 0 hio (es' := [(2, .box 26 [.v (.int .i64 v2), .v (.string v1.2.1), .v (.bool false), .v (.string (⟨#[]⟩ : ByteArray)), .v (.string (⟨#[]⟩ : ByteArray)), .fl .ro 2 (List.flatten (List.map T_Param.enc []))]), (3, .v (.bool s45))]) rfl ?_
         refine pt_r_in ?_
         refine pt_r_then ?_
         obtain rfl := Option.some.inj h
         exact pt_ret hio rfl (.cellA _ _ _ _ Tryz.underlying26 rfl sz26 (.tmp _ _ .nil)) rfl rfl
        ·intro u46 h hl47 hr48
         refine cond_some h (fun hg16_3 h => ?_) (fun hg16_3 h => ?_)
         ·refine ht_anyR (by kernel_rfl) hn (El := [_, _, _, _, _, (47, .agg [.v (.int .i64 v2), .v (.string v1.2.1), .v (.bool false), .v (.string (⟨#[]⟩ : ByteArray)), .v (.string (⟨#[]⟩ : ByteArray)), .v (.slice none 0 0)]), (48, .v (.bool v1.2.2)), (49, .v (.bool (!v1.2.2))), (50, .v (.bool true)), (51, .v undef), (52, .v undef), (53, .v (.bool true)), (2, .box 26 [.v (.int .i64 v2), .v (.string v1.2.1), .v (.bool false), .v (.string (⟨#[]⟩ : ByteArray)), .v (.string (⟨#[]⟩ : ByteArray)), .v (.slice none 0 0)]), (3, .v (.bool true))]) (init := [0, 1, 2, 3, 4]) (fin := [0, 12, 13]) (sps := [zq [4] 5 47, zq [3] 6 48, zq [6] 7 49, zq [7] 8 50, zq [8] 9 51, zq [8] 10 52, zq [8] 11 53, ⟨[5], [1], [12], [.cell 2 0, .cell 2 1, .cell 2 2, .cell 2 3, .cell 2 4, .cell 2 5]⟩, zq [11] 13 3]) (es' := [(_, _), (2, .box 26 [.v (.int .i64 v2), .v (.string v1.2.1), .v (.bool false), .v (.string (⟨#[]⟩ : ByteArray)), .v (.string (⟨#[]⟩ : ByteArray)), .v (.slice none 0 0)]), (3, .v (.bool true))]) (by kernel_rfl) rfl rfl ⟨zp rfl (op_loadA _ _ _ _ _ _ _ Tryz.underlying26 rfl sz26 rfl rfl (zl rfl) rfl rfl),zm rfl rfl rfl,zp rfl (op_un _ _ _ _ rfl rfl),zm rfl (zb hg16_3) rfl,zs 3 false rfl rfl rfl rfl,zs 3 false rfl rfl rfl rfl,zk true rfl rfl rfl,zp rfl (op_store _ _ _ _ _ _ _ _ sz26 rfl rfl rfl rfl (zl rfl) rfl rfl),za rfl rfl rfl,trivial⟩ ?_
          exact hl47 _ (Option.some.inj h).symm
         ·obtain ⟨v21, hv21, h⟩ := bind_some h
          refine ht_anyR (by kernel_rfl) hn (El := [_, _, _, _, _, (47, .agg [.v (.int .i64 v2), .v (.string v1.2.1), .v (.bool false), .v (.string (⟨#[]⟩ : ByteArray)), .v (.string (⟨#[]⟩ : ByteArray)), .v (.slice none 0 0)]), (48, .v (.bool v1.2.2)), (49, .v (.bool (!v1.2.2))), (50, .v (.bool false)), (51, .v (.string v1.2.1)), (52, .v (.bool v21)), (53, .v (.bool v21)), (2, .box 26 [.v (.int .i64 v2), .v (.string v1.2.1), .v (.bool false), .v (.string (⟨#[]⟩ : ByteArray)), .v (.string (⟨#[]⟩ : ByteArray)), .v (.slice none 0 0)]), (3, .v (.bool v21))]) (init := [0, 1, 2, 3, 4]) (fin := [0, 12, 13]) (sps := [zq [4] 5 47, zq [3] 6 48, zq [6] 7 49, zq [7] 8 50, zq [8,2] 9 51, zq [8,9,0] 10 52, zq [8,10] 11 53, ⟨[5], [1], [12], [.cell 2 0, .cell 2 1, .cell 2 2, .cell 2 3, .cell 2 4, .cell 2 5]⟩, zq [11] 13 3]) (es' := [(_, _), (2, .box 26 [.v (.int .i64 v2), .v (.string v1.2.1), .v (.bool false), .v (.string (⟨#[]⟩ : ByteArray)), .v (.string (⟨#[]⟩ : ByteArray)), .v (.slice none 0 0)]), (3, .v (.bool v21))]) (by kernel_rfl) rfl rfl ⟨zp rfl (op_loadA _ _ _ _ _ _ _ Tryz.underlying26 rfl sz26 rfl rfl (zl rfl) rfl rfl),zm rfl rfl rfl,zp rfl (op_un _ _ _ _ rfl rfl),zm rfl (zb hg16_3) rfl,zr 3 rfl rfl rfl (op_move _ _ _ _ rfl rfl),zr 3 rfl rfl rfl (op_callG _ _ 65 37 _ _ rfl Tryz.call37 rfl rfl (fun _ h => h) (ok_path_Domain mx v1.2.1 _ hv21) rfl rfl),zk false rfl rfl rfl,zp rfl (op_store _ _ _ _ _ _ _ _ sz26 rfl rfl rfl rfl (zl rfl) rfl rfl),za rfl rfl rfl,trivial⟩ ?_
          exact hl47 _ (Option.some.inj h).symm
       ·have h := cond_f hb44 h
        refine ht_seq ?_
        refine zh hn [_, _, _, _, _, _, _, (55, .v (.bool (v2 == 10))), (54, .v (.bool (v2 == 10)))] [0,1,2,3,4,5,6] [0,1,2,3,4,5,8] [zq [5] 7 55, zq [7] 8 54] [(_,_),(_,_),(_,_),(_,_),(_,_),(_,_),(_,_)] (by kernel_rfl) rfl rfl ⟨zo rfl rfl rfl rfl,za rfl rfl rfl,trivial⟩ ?_
        refine pt_then ?_
        refine ht_cond _ rfl (fun hb49 => ?_) (fun hb49 => ?_)
        ·have h := cond_t hb49 h
         refine ht_seq ?_
         obtain ⟨v27, hv27, h⟩ := bind_some h
         refine ht_anyR (by kernel_rfl) hn (El := [_, _, _, _, _, _, _, (56, .agg [.v (.int .i64 v2), .v (.string (⟨#[]⟩ : ByteArray)), .v (.bool false), .v (.string (⟨#[]⟩ : ByteArray)), .v (.string (⟨#[]⟩ : ByteArray)), .v (.slice none 0 0)]), (57, .v (.string v1.2.1)), (58, .v (.bool v27)), (2, .box 26 [.v (.int .i64 v2), .v (.string (⟨#[]⟩ : ByteArray)), .v (.bool false), .v (.string (⟨#[]⟩ : ByteArray)), .v (.string (⟨#[]⟩ : ByteArray)), .v (.slice none 0 0)]), (3, .v (.bool v27))]) (init := [0, 1, 2, 3, 4, 5, 6]) (fin := [0, 10, 11]) (sps := [zq [4] 7 56, zq [2] 8 57, zq [8] 9 58, ⟨[7], [1], [10], [.cell 2 0, .cell 2 1, .cell 2 2, .cell 2 3, .cell 2 4, .cell 2 5]⟩, zq [9] 11 3]) (es' := [(_, _), (2, .box 26 [.v (.int .i64 v2), .v (.string (⟨#[]⟩ : ByteArray)), .v (.bool false), .v (.string (⟨#[]⟩ : ByteArray)), .v (.string (⟨#[]⟩ : ByteArray)), .v (.slice none 0 0)]), (3, .v (.bool v27))]) (by kernel_rfl) rfl rfl ⟨zp rfl (op_loadA _ _ _ _ _ _ _ Tryz.underlying26 rfl sz26 rfl rfl (zl rfl) rfl rfl),zm rfl rfl rfl,zp rfl (op_call _ _ 36 _ _ rfl Tryz.call36 rfl (ok_verb_equalFold v1.2.1 (⟨#[67, 82, 65, 77, 45, 77, 68, 53]⟩ : ByteArray) _ hv27) rfl rfl),zp rfl (op_store _ _ _ _ _ _ _ _ sz26 rfl rfl rfl rfl (zl rfl) rfl rfl),za rfl rfl rfl,trivial⟩ ?_
         refine pt_then ?_
         refine ht_ret ?_
         refine pt_pick [1, 2] (by kernel_rfl) (es' := [(_, _), (_, _)]) rfl ?_
         refine pt_sub (fs := [(2, .box 26 [.v (.int .i64 v2), .v (.string (⟨#[]⟩ : ByteArray)), .v (.bool false), .v (.string (⟨#[]⟩ : ByteArray)), .v (.string (⟨#[]⟩ : ByteArray)), .fl (.own 47) 2 (List.flatten (List.map T_Param.enc []))]), (3, .v (.bool v27))]) (.box _ _ (subs_cons (sub_refl _) (subs_cons (sub_refl _) (subs_cons (sub_refl _) (subs_cons (sub_refl _) (subs_cons (sub_refl _) (subs_cons (sub_nil 47 2) (subs_nil))))))) rfl (.same _ .nil)) ?_
         refine pt_frz 0 hio (es' := [(2, .box 26 [.v (.int .i64 v2), .v (.string (⟨#[]⟩ : ByteArray)), .v (.bool false), .v (.string (⟨#[]⟩ : ByteArray)), .v (.string (⟨#[]⟩ : ByteArray)), .fl .ro 2 (List.flatten (List.map T_Param.enc []))]), (3, .v (.bool v27))]) rfl ?_
         refine pt_r_in ?_
         refine pt_r_then ?_
         obtain rfl := Option.some.inj h
         exact pt_ret hio rfl (.cellA _ _ _ _ Tryz.underlying26 rfl sz26 (.tmp _ _ .nil)) rfl rfl
        ·have h := cond_f hb49 h
         refine ht_seq ?_
         refine zh hn [_, _, _, _, _, _, _, (60, .v (.bool (v2 == 7))), (59, .v (.bool (v2 == 7)))] [0,1,2,3,4,5,6] [0,1,3,4,8] [zq [5] 7 60, zq [7] 8 59] [(_,_),(_,_),(_,_),(_,_),(_,_)] (by kernel_rfl) rfl rfl ⟨zo rfl rfl rfl rfl,za rfl rfl rfl,trivial⟩ ?_
         refine pt_then ?_
         refine ht_cond _ rfl (fun hb50 => ?_) (fun hb50 => ?_)
         ·have h := cond_t hb50 h
          refine ht_seq ?_
          refine zh hn [_, _, _, _, _, (61, .agg [.v (.int .i64 v2), .v (.string (⟨#[]⟩ : ByteArray)), .v (.bool false), .v (.string (⟨#[]⟩ : ByteArray)), .v (.string (⟨#[]⟩ : ByteArray)), .v (.slice none 0 0)]), (2, .box 26 [.v (.int .i64 v2), .v (.string (⟨#[]⟩ : ByteArray)), .v (.bool false), .v (.string (⟨#[]⟩ : ByteArray)), .v (.string (⟨#[]⟩ : ByteArray)), .v (.slice none 0 0)]), (3, .v (.bool true))] [0,1,2,3,4] [0,6,7] [zq [3] 5 61, ⟨[5], [1], [6], [.cell 2 0, .cell 2 1, .cell 2 2, .cell 2 3, .cell 2 4, .cell 2 5]⟩, zq [] 7 3] [(_,_),(_,_),(_,_)] (by kernel_rfl) rfl rfl ⟨zp rfl (op_loadA _ _ _ _ _ _ _ Tryz.underlying26 rfl sz26 rfl rfl (zl rfl) rfl rfl),zp rfl (op_store _ _ _ _ _ _ _ _ sz26 rfl rfl rfl rfl (zl rfl) rfl rfl),za rfl rfl rfl,trivial⟩ ?_
          refine pt_then ?_
          refine ht_ret ?_
          refine pt_pick [1, 2] (by kernel_rfl) (es' := [(_, _), (_, _)]) rfl ?_
          refine pt_sub (fs := [(2, .box 26 [.v (.int .i64 v2), .v (.string (⟨#[]⟩ : ByteArray)), .v (.bool false), .v (.string (⟨#[]⟩ : ByteArray)), .v (.string (⟨#[]⟩ : ByteArray)), .fl (.own 47) 2 (List.flatten (List.map T_Param.enc []))]), (3, .v (.bool true))]) (.box _ _ (subs_cons (sub_refl _) (subs_cons (sub_refl _) (subs_cons (sub_refl _) (subs_cons (sub_refl _) (subs_cons (sub_refl _) (subs_cons (sub_nil 47 2) (subs_nil))))))) rfl (.same _ .nil)) ?_
          refine pt_frz 0 hio (es' := [(2, .box 26 [.v (.int .i64 v2), .v (.string (⟨#[]⟩ : ByteArray)), .v (.bool false), .v (.string (⟨#[]⟩ : ByteArray)), .v (.string (⟨#[]⟩ : ByteArray)), .fl .ro 2 (List.flatten (List.map T_Param.enc []))]), (3, .v (.bool true))]) rfl ?_
          refine pt_r_in ?_
          refine pt_r_then ?_
          obtain rfl := Option.some.inj h
          exact pt_ret hio rfl (.cellA _ _ _ _ Tryz.underlying26 rfl sz26 (.tmp _ _ .nil)) rfl rfl
         ·have h := cond_f hb50 h
          refine ht_skip ?_
          refine pt_inb ?_
          refine pt_then ?_
          refine ht_seq ?_
          refine zh hn [_, _, _, _, _, (62, .agg [.v (.int .i64 v2), .v (.string (⟨#[]⟩ : ByteArray)), .v (.bool false), .v (.string (⟨#[]⟩ : ByteArray)), .v (.string (⟨#[]⟩ : ByteArray)), .v (.slice none 0 0)]), (63, .v (.bool v1.2.2)), (64, .v (.bool (!v1.2.2))), (2, .box 26 [.v (.int .i64 v2), .v (.string (⟨#[]⟩ : ByteArray)), .v (.bool false), .v (.string (⟨#[]⟩ : ByteArray)), .v (.string (⟨#[]⟩ : ByteArray)), .v (.slice none 0 0)]), (3, .v (.bool (!v1.2.2)))] [0,1,2,3,4] [0,8,9] [zq [3] 5 62, zq [2] 6 63, zq [6] 7 64, ⟨[5], [1], [8], [.cell 2 0, .cell 2 1, .cell 2 2, .cell 2 3, .cell 2 4, .cell 2 5]⟩, zq [7] 9 3] [(_,_),(_,_),(_,_)] (by kernel_rfl) rfl rfl ⟨zp rfl (op_loadA _ _ _ _ _ _ _ Tryz.underlying26 rfl sz26 rfl rfl (zl rfl) rfl rfl),zm rfl rfl rfl,zp rfl (op_un _ _ _ _ rfl rfl),zp rfl (op_store _ _ _ _ _ _ _ _ sz26 rfl rfl rfl rfl (zl rfl) rfl rfl),za rfl rfl rfl,trivial⟩ ?_
          refine pt_then ?_
          refine ht_ret ?_
          refine pt_pick [1, 2] (by kernel_rfl) (es' := [(_, _), (_, _)]) rfl ?_
          refine pt_sub (fs := [(2, .box 26 [.v (.int .i64 v2), .v (.string (⟨#[]⟩ : ByteArray)), .v (.bool false), .v (.string (⟨#[]⟩ : ByteArray)), .v (.string (⟨#[]⟩ : ByteArray)), .fl (.own 47) 2 (List.flatten (List.map T_Param.enc []))]), (3, .v (.bool (!v1.2.2)))]) (.box _ _ (subs_cons (sub_refl _) (subs_cons (sub_refl _) (subs_cons (sub_refl _) (subs_cons (sub_refl _) (subs_cons (sub_refl _) (subs_cons (sub_nil 47 2) (subs_nil))))))) rfl (.same _ .nil)) ?_
          refine pt_frz 0 hio (es' := [(2, .box 26 [.v (.int .i64 v2), .v (.string (⟨#[]⟩ : ByteArray)), .v (.bool false), .v (.string (⟨#[]⟩ : ByteArray)), .v (.string (⟨#[]⟩ : ByteArray)), .fl .ro 2 (List.flatten (List.map T_Param.enc []))]), (3, .v (.bool (!v1.2.2)))]) rfl ?_
          obtain rfl := Option.some.inj h
          exact pt_ret hio rfl (.cellA _ _ _ _ Tryz.underlying26 rfl sz26 (.tmp _ _ .nil)) rfl rfl
    ·intro u38 h hl39 hr40
     refine ht_seq ?_
     refine zh hn [_, _, _, _, _, _, _, _, (29, .v (.bool (v2 == 1))), (28, .v (.bool (v2 == 1)))] [0,1,2,3,4,5,6,7] [1,2,3,4,5,6,9] [zq [6] 8 29, zq [8] 9 28] [(_,_),(_,_),(_,_),(_,_),(_,_),(_,_),(_,_)] (by kernel_rfl) rfl rfl ⟨zo rfl rfl rfl rfl,za rfl rfl rfl,trivial⟩ ?_
     refine pt_then ?_
     refine ht_cond _ rfl (fun hb41 => ?_) (fun hb41 => ?_)
     ·have h := cond_t hb41 h
      refine ht_skip ?_
      exact hl39 _ (Option.some.inj h).symm
     ·have h := cond_f hb41 h
      refine zh hn [_, _, _, _, _, _, _, (30, .v (.bool (v2 == 9))), (28, .v (.bool (v2 == 9)))] [0,1,2,3,4,5,6] [0,1,2,3,4,5,8] [zq [5] 7 30, ⟨[7], [6], [8], [(.slot 28)]⟩] [(_,_),(_,_),(_,_),(_,_),(_,_),(_,_),(_,_)] (by kernel_rfl) rfl rfl ⟨zo rfl rfl rfl rfl,zp rfl (LOp.drop [_] (op_assign _ _ _ _ rfl rfl)),trivial⟩ ?_
      exact hl39 _ (Option.some.inj h).symm
  ·intro u31 h hl32 hr33
   refine ht_seq ?_
   refine zh hn [_, _, _, _, _, _, _, (20, .v (.bool (v2 == 2))), (19, .v (.bool (v2 == 2)))] [0,1,2,3,4,5,6] [0,1,2,3,4,5,6,8] [zq [6] 7 20, zq [7] 8 19] [(_,_),(_,_),(_,_),(_,_),(_,_),(_,_),(_,_),(_,_)] (by kernel_rfl) rfl rfl ⟨zo rfl rfl rfl rfl,za rfl rfl rfl,trivial⟩ ?_
   refine pt_then ?_
   refine ht_cond _ rfl (fun hb34 => ?_) (fun hb34 => ?_)
   ·have h := cond_t hb34 h
    refine ht_skip ?_
    exact hl32 _ (Option.some.inj h).symm
   ·have h := cond_f hb34 h
    refine zh hn [_, _, _, _, _, _, _, _, (21, .v (.bool (v2 == 3))), (19, .v (.bool (v2 == 3)))] [0,1,2,3,4,5,6,7] [0,1,2,3,4,5,6,9] [zq [6] 8 21, ⟨[8], [7], [9], [(.slot 19)]⟩] [(_,_),(_,_),(_,_),(_,_),(_,_),(_,_),(_,_),(_,_)] (by kernel_rfl) rfl rfl ⟨zo rfl rfl rfl rfl,zp rfl (LOp.drop [_] (op_assign _ _ _ _ rfl rfl)),trivial⟩ ?_
    exact hl32 _ (Option.some.inj h).symm
set_option maxHeartbeats 1000000 in
theorem ok_verb_Parse (mx : Int) (line : ByteArray) (r : (T_Cmd × Int)) (h : Sh.verb_Parse line = some r) : FnG Tryz.prog (GL mx) 6 [.v (.string line)] (.tup [.agg [.v (.int .i64 r.1.Kind), .v (.string r.1.Text), .v (.bool r.1.Path.Null), .v (.string r.1.Path.Local), .v (.string r.1.Path.Domain), .fl .ro 2 (List.flatten (List.map T_Param.enc r.1.Params))], .v (.int .i64 r.2)]) := by
  unfold Sh.verb_Parse at h
  refine fn_okG Tryz.func6 rfl (zl rfl) rfl rfl fun g0 hn hio => ?_
  refine ht_seq ?_
  refine zh hn [_, _, (2, .box 26 [.v (.int .i64 0), .v (.string (⟨#[]⟩ : ByteArray)), .v (.bool false), .v (.string (⟨#[]⟩ : ByteArray)), .v (.string (⟨#[]⟩ : ByteArray)), .v (.slice none 0 0)]), (3, .v (.int .i64 0))] [0,1] [0,1,2] [zq [] 2 2, zq [] 3 3] [(_,_),(_,_),(_,_)] (by kernel_rfl) rfl rfl ⟨zp rfl (op_alloc _ _ zr26),za rfl rfl rfl,trivial⟩ ?_
  refine pt_then ?_
  refine ht_seq ?_
  refine ht_seq ?_
  refine ht_joinS h (fun (s12 : Bool) => [(0, .v (.string line)), (32, .glob (GL mx)), (2, .box 26 [.v (.int .i64 0), .v (.string (⟨#[]⟩ : ByteArray)), .v (.bool false), .v (.string (⟨#[]⟩ : ByteArray)), .v (.string (⟨#[]⟩ : ByteArray)), .v (.slice none 0 0)]), (18, .v (.bool s12))]) ?_ ?_
  ·rintro s12 h
   refine pt_then ?_
   refine ht_cond _ rfl (fun hb16 => ?_) (fun hb16 => ?_)
   ·have h := cond_t hb16 h
    refine ht_seq ?_
    refine zh hn [_, _, _, _, (19, .agg [.v (.int .i64 0), .v (.string (⟨#[]⟩ : ByteArray)), .v (.bool false), .v (.string (⟨#[]⟩ : ByteArray)), .v (.string (⟨#[]⟩ : ByteArray)), .v (.slice none 0 0)]), (2, .box 26 [.v (.int .i64 0), .v (.string (⟨#[]⟩ : ByteArray)), .v (.bool false), .v (.string (⟨#[]⟩ : ByteArray)), .v (.string (⟨#[]⟩ : ByteArray)), .v (.slice none 0 0)]), (3, .v (.int .i64 500))] [0,1,2,3] [1,5,6] [zq [] 4 19, ⟨[], [4, 2], [5], [.cell 2 0, .cell 2 1, .cell 2 2, .cell 2 3, .cell 2 4, .cell 2 5]⟩, zq [] 6 3] [(_,_),(_,_),(_,_)] (by kernel_rfl) rfl rfl ⟨zp rfl (op_build _ _ _ _ [1, 1, 3, 1] _ _ Tryz.underlying26 zr26 (fs26 _ Tryz.underlying26) Src.nil rfl rfl rfl),zp rfl (op_store_self _ _ _ 19 2 6 sz26 rfl rfl rfl rfl rfl (.eq _ (.eq _ (.eq _ (.eq _ (.eq _ (.eq _ (.nil _))))))) rfl),za rfl rfl rfl,trivial⟩ ?_
    refine pt_then ?_
    refine ht_ret ?_
    refine pt_pick [1, 2] (by kernel_rfl) (es' := [(_, _), (_, _)]) rfl ?_
    refine pt_sub (fs := [(2, .box 26 [.v (.int .i64 0), .v (.string (⟨#[]⟩ : ByteArray)), .v (.bool false), .v (.string (⟨#[]⟩ : ByteArray)), .v (.string (⟨#[]⟩ : ByteArray)), .fl (.own 47) 2 (List.flatten (List.map T_Param.enc []))]), (3, .v (.int .i64 500))]) (.box _ _ (subs_cons (sub_refl _) (subs_cons (sub_refl _) (subs_cons (sub_refl _) (subs_cons (sub_refl _) (subs_cons (sub_refl _) (subs_cons (sub_nil 47 2) (subs_nil))))))) rfl (.same _ .nil)) ?_
    refine pt_frz 0 hio (es' := [(2, .box 26 [.v (.int .i64 0), .v (.string (⟨#[]⟩ : ByteArray)), .v (.bool false), .v (.string (⟨#[]⟩ : ByteArray)), .v (.string (⟨#[]⟩ : ByteArray)), .fl .ro 2 (List.flatten (List.map T_Param.enc []))]), (3, .v (.int .i64 500))]) rfl ?_
    refine pt_r_then ?_
    obtain rfl := Option.some.inj h
    exact pt_ret hio rfl (.cellA _ _ _ _ Tryz.underlying26 rfl sz26 (.tmp _ _ .nil)) rfl rfl
   ·have h := cond_f hb16 h
    refine ht_skip ?_
    refine pt_then ?_
    refine ht_seq ?_
    refine ht_seq ?_
    obtain ⟨v8, hv8, h⟩ := bind_some h
    refine zh hn [_, _, _, _, (20, .v (.string line)), (21, .v (.bool v8))] [0,1,2,3] [0,1,2,5] [zq [0] 4 20, zq [4,1] 5 21] [(_,_),(_,_),(_,_),(_,_)] (by kernel_rfl) rfl rfl ⟨zm rfl rfl rfl,zp rfl (op_callG _ _ 32 20 _ _ rfl Tryz.call20 rfl rfl (fun _ h => h) (ok_verb_otherMechanism mx line _ hv8) rfl rfl),trivial⟩ ?_
    refine pt_then ?_
    refine ht_cond _ rfl (fun hb17 => ?_) (fun hb17 => ?_)
    ·have h := cond_t hb17 h
     refine ht_seq ?_
     refine zh hn [_, _, _, _, (22, .agg [.v (.int .i64 0), .v (.string (⟨#[]⟩ : ByteArray)), .v (.bool false), .v (.string (⟨#[]⟩ : ByteArray)), .v (.string (⟨#[]⟩ : ByteArray)), .v (.slice none 0 0)]), (2, .box 26 [.v (.int .i64 0), .v (.string (⟨#[]⟩ : ByteArray)), .v (.bool false), .v (.string (⟨#[]⟩ : ByteArray)), .v (.string (⟨#[]⟩ : ByteArray)), .v (.slice none 0 0)]), (3, .v (.int .i64 504))] [0,1,2,3] [1,5,6] [zq [] 4 22, ⟨[], [4, 2], [5], [.cell 2 0, .cell 2 1, .cell 2 2, .cell 2 3, .cell 2 4, .cell 2 5]⟩, zq [] 6 3] [(_,_),(_,_),(_,_)] (by kernel_rfl) rfl rfl ⟨zp rfl (op_build _ _ _ _ [1, 1, 3, 1] _ _ Tryz.underlying26 zr26 (fs26 _ Tryz.underlying26) Src.nil rfl rfl rfl),zp rfl (op_store_self _ _ _ 22 2 6 sz26 rfl rfl rfl rfl rfl (.eq _ (.eq _ (.eq _ (.eq _ (.eq _ (.eq _ (.nil _))))))) rfl),za rfl rfl rfl,trivial⟩ ?_
     refine pt_then ?_
     refine ht_ret ?_
     refine pt_pick [1, 2] (by kernel_rfl) (es' := [(_, _), (_, _)]) rfl ?_
     refine pt_sub (fs := [(2, .box 26 [.v (.int .i64 0), .v (.string (⟨#[]⟩ : ByteArray)), .v (.bool false), .v (.string (⟨#[]⟩ : ByteArray)), .v (.string (⟨#[]⟩ : ByteArray)), .fl (.own 47) 2 (List.flatten (List.map T_Param.enc []))]), (3, .v (.int .i64 504))]) (.box _ _ (subs_cons (sub_refl _) (subs_cons (sub_refl _) (subs_cons (sub_refl _) (subs_cons (sub_refl _) (subs_cons (sub_refl _) (subs_cons (sub_nil 47 2) (subs_nil))))))) rfl (.same _ .nil)) ?_
     refine pt_frz 0 hio (es' := [(2, .box 26 [.v (.int .i64 0), .v (.string (⟨#[]⟩ : ByteArray)), .v (.bool false), .v (.string (⟨#[]⟩ : ByteArray)), .v (.string (⟨#[]⟩ : ByteArray)), .fl .ro 2 (List.flatten (List.map T_Param.enc []))]), (3, .v (.int .i64 504))]) rfl ?_
     refine pt_r_then ?_
     obtain rfl := Option.some.inj h
     exact pt_ret hio rfl (.cellA _ _ _ _ Tryz.underlying26 rfl sz26 (.tmp _ _ .nil)) rfl rfl
    ·have h := cond_f hb17 h
     refine ht_skip ?_
     refine pt_then ?_
     refine ht_seq ?_
     obtain ⟨v10, hv10, h⟩ := bind_some h
     refine zh hn [_, _, _, _, (24, .v (.string line)), (25, .tup [.agg [.v (.int .i64 v10.1.Kind), .v (.string v10.1.Text), .v (.bool v10.1.Path.Null), .v (.string v10.1.Path.Local), .v (.string v10.1.Path.Domain), .fl .ro 2 (List.flatten (List.map T_Param.enc v10.1.Params))], .v (.bool v10.2)]), (23, .tup [.agg [.v (.int .i64 v10.1.Kind), .v (.string v10.1.Text), .v (.bool v10.1.Path.Null), .v (.string v10.1.Path.Local), .v (.string v10.1.Path.Domain), .fl .ro 2 (List.flatten (List.map T_Param.enc v10.1.Params))], .v (.bool v10.2)]), (26, .agg [.v (.int .i64 v10.1.Kind), .v (.string v10.1.Text), .v (.bool v10.1.Path.Null), .v (.string v10.1.Path.Local), .v (.string v10.1.Path.Domain), .fl .ro 2 (List.flatten (List.map T_Param.enc v10.1.Params))]), (27, .v (.bool v10.2)), (4, .box 26 [.v (.int .i64 0), .v (.string (⟨#[]⟩ : ByteArray)), .v (.bool false), .v (.string (⟨#[]⟩ : ByteArray)), .v (.string (⟨#[]⟩ : ByteArray)), .v (.slice none 0 0)]), (4, .box 26 [.v (.int .i64 v10.1.Kind), .v (.string v10.1.Text), .v (.bool v10.1.Path.Null), .v (.string v10.1.Path.Local), .v (.string v10.1.Path.Domain), .fl .ro 2 (List.flatten (List.map T_Param.enc v10.1.Params))]), (5, .v (.bool v10.2))] [0,1,2,3] [1,2,10,11] [zq [0] 4 24, zq [4,1] 5 25, ⟨[], [5], [6], [(.slot 23)]⟩, zq [6] 7 26, zq [6] 8 27, zq [] 9 4, ⟨[7], [9], [10], [.cell 4 0, .cell 4 1, .cell 4 2, .cell 4 3, .cell 4 4, .cell 4 5]⟩, zq [8] 11 5] [(_,_),(_,_),(_,_),(_,_)] (by kernel_rfl) rfl rfl ⟨zm rfl rfl rfl,zp rfl (op_callG _ _ 32 21 _ _ rfl Tryz.call21 rfl rfl (fun _ h => h) (ok_verb_command mx line _ hv10) rfl rfl),zp rfl (op_move_take _ _ _ _ rfl),zp rfl (op_extract_no _ _ _ _ _ _ rfl rfl (zl rfl) rfl rfl),zp rfl (op_extract _ _ _ _ _ rfl rfl (zl rfl) rfl rfl),zp rfl (op_alloc _ _ zr26),zp rfl (op_store _ _ _ _ _ _ _ _ sz26 rfl rfl rfl rfl (zl rfl) rfl rfl),za rfl rfl rfl,trivial⟩ ?_
     refine pt_then ?_
     refine ht_seq ?_
     refine ht_seq ?_
     refine zh hn [_, _, _, _, (28, .v (.bool v10.2)), (29, .v (.bool (!v10.2)))] [0,1,2,3] [0,1,2,5] [zq [3] 4 28, zq [4] 5 29] [(_,_),(_,_),(_,_),(_,_)] (by kernel_rfl) rfl rfl ⟨zm rfl rfl rfl,zp rfl (op_un _ _ _ _ rfl rfl),trivial⟩ ?_
     refine pt_then ?_
     refine ht_cond _ rfl (fun hb18 => ?_) (fun hb18 => ?_)
     ·have h := cond_t hb18 h
      refine ht_seq ?_
      refine zh hn [_, _, _, _, (30, .agg [.v (.int .i64 0), .v (.string (⟨#[]⟩ : ByteArray)), .v (.bool false), .v (.string (⟨#[]⟩ : ByteArray)), .v (.string (⟨#[]⟩ : ByteArray)), .v (.slice none 0 0)]), (2, .box 26 [.v (.int .i64 0), .v (.string (⟨#[]⟩ : ByteArray)), .v (.bool false), .v (.string (⟨#[]⟩ : ByteArray)), .v (.string (⟨#[]⟩ : ByteArray)), .v (.slice none 0 0)]), (3, .v (.int .i64 501))] [0,1,2,3] [0,5,6] [zq [] 4 30, ⟨[], [4, 1], [5], [.cell 2 0, .cell 2 1, .cell 2 2, .cell 2 3, .cell 2 4, .cell 2 5]⟩, zq [] 6 3] [(_,_),(_,_),(_,_)] (by kernel_rfl) rfl rfl ⟨zp rfl (op_build _ _ _ _ [1, 1, 3, 1] _ _ Tryz.underlying26 zr26 (fs26 _ Tryz.underlying26) Src.nil rfl rfl rfl),zp rfl (op_store_self _ _ _ 30 2 6 sz26 rfl rfl rfl rfl rfl (.eq _ (.eq _ (.eq _ (.eq _ (.eq _ (.eq _ (.nil _))))))) rfl),za rfl rfl rfl,trivial⟩ ?_
      refine pt_then ?_
      refine ht_ret ?_
      refine pt_pick [1, 2] (by kernel_rfl) (es' := [(_, _), (_, _)]) rfl ?_
      refine pt_sub (fs := [(2, .box 26 [.v (.int .i64 0), .v (.string (⟨#[]⟩ : ByteArray)), .v (.bool false), .v (.string (⟨#[]⟩ : ByteArray)), .v (.string (⟨#[]⟩ : ByteArray)), .fl (.own 47) 2 (List.flatten (List.map T_Param.enc []))]), (3, .v (.int .i64 501))]) (.box _ _ (subs_cons (sub_refl _) (subs_cons (sub_refl _) (subs_cons (sub_refl _) (subs_cons (sub_refl _) (subs_cons (sub_refl _) (subs_cons (sub_nil 47 2) (subs_nil))))))) rfl (.same _ .nil)) ?_
      refine pt_frz 0 hio (es' := [(2, .box 26 [.v (.int .i64 0), .v (.string (⟨#[]⟩ : ByteArray)), .v (.bool false), .v (.string (⟨#[]⟩ : ByteArray)), .v (.string (⟨#[]⟩ : ByteArray)), .fl .ro 2 (List.flatten (List.map T_Param.enc []))]), (3, .v (.int .i64 501))]) rfl ?_
      refine pt_r_then ?_
      obtain rfl := Option.some.inj h
      exact pt_ret hio rfl (.cellA _ _ _ _ Tryz.underlying26 rfl sz26 (.tmp _ _ .nil)) rfl rfl
     ·have h := cond_f hb18 h
      refine ht_skip ?_
      refine pt_then ?_
      refine ht_seq ?_
      refine zh hn [_, _, _, _, (31, .agg [.v (.int .i64 v10.1.Kind), .v (.string v10.1.Text), .v (.bool v10.1.Path.Null), .v (.string v10.1.Path.Local), .v (.string v10.1.Path.Domain), .fl .ro 2 (List.flatten (List.map T_Param.enc v10.1.Params))]), (2, .box 26 [.v (.int .i64 v10.1.Kind), .v (.string v10.1.Text), .v (.bool v10.1.Path.Null), .v (.string v10.1.Path.Local), .v (.string v10.1.Path.Domain), .fl .ro 2 (List.flatten (List.map T_Param.enc v10.1.Params))]), (3, .v (.int .i64 0))] [0,1,2,3] [0,5,6] [zq [2] 4 31, ⟨[4], [1], [5], [.cell 2 0, .cell 2 1, .cell 2 2, .cell 2 3, .cell 2 4, .cell 2 5]⟩, zq [] 6 3] [(_,_),(_,_),(_,_)] (by kernel_rfl) rfl rfl ⟨zp rfl (op_loadA _ _ _ _ _ _ _ Tryz.underlying26 rfl sz26 rfl rfl (zl rfl) rfl rfl),zp rfl (op_store _ _ _ _ _ _ _ _ sz26 rfl rfl rfl rfl (zl rfl) rfl rfl),za rfl rfl rfl,trivial⟩ ?_
      refine pt_then ?_
      refine ht_ret ?_
      refine pt_pick [1, 2] (by kernel_rfl) (es' := [(_, _), (_, _)]) rfl ?_
      obtain rfl := Option.some.inj h
      exact pt_ret hio rfl (.cellA _ _ _ _ Tryz.underlying26 rfl sz26 (.tmp _ _ .nil)) rfl rfl
  ·intro u13 h hl14 hr15
   refine cond_some h (fun hg1_3 h => ?_) (fun hg1_3 h => ?_)
   ·refine zh hn (_ :: _ :: _ :: (6, .v (.string line)) :: (7, .v (.int .i64 (line.size : Int))) :: (8, .v (.bool ((decide (510 < (line.size : Int)))))) :: (9, .v (.bool true)) :: (10, .v undef) :: (11, .v undef) :: (12, .v undef) :: (13, .v (.bool true)) :: (14, .v (.bool true)) :: (15, .v undef) :: (16, .v undef) :: (17, .v undef) :: (18, .v (.bool true)) :: []) [0,1,2] [0,1,2,15] [zq [0] 3 6, zq [3] 4 7, zq [4] 5 8, zq [5] 6 9, zq [6] 7 10, zq [6] 8 11, zq [6] 9 12, zq [6] 10 13, zq [10] 11 14, zq [11] 12 15, zq [11] 13 16, zq [11] 14 17, zq [11] 15 18] [(_,_),(_,_),(_,_),(_,_)] (by kernel_rfl) rfl rfl ⟨zm rfl rfl rfl,zp rfl (op_len_str _ _ _ Tryz.underlying9 rfl),zo rfl rfl rfl rfl,zm rfl (zb hg1_3) rfl,zs 3 false rfl rfl rfl rfl,zs 3 false rfl rfl rfl rfl,zs 3 false rfl rfl rfl rfl,zk true rfl rfl rfl,zm rfl rfl rfl,zs 8 false rfl rfl rfl rfl,zs 8 false rfl rfl rfl rfl,zs 8 false rfl rfl rfl rfl,zk true rfl rfl rfl,trivial⟩ ?_
    exact hl14 _ (Option.some.inj h).symm
   ·obtain ⟨v1, hv1, h⟩ := bind_some h
    refine cond_some h (fun hg1_8 h => ?_) (fun hg1_8 h => ?_)
    ·refine zh hn (_ :: _ :: _ :: (6, .v (.string line)) :: (7, .v (.int .i64 (line.size : Int))) :: (8, .v (.bool ((decide (510 < (line.size : Int)))))) :: (9, .v (.bool false)) :: (10, .v (.string line)) :: (11, .v (.bool v1)) :: (12, .v (.bool (!v1))) :: (13, .v (.bool (!v1))) :: (14, .v (.bool true)) :: (15, .v undef) :: (16, .v undef) :: (17, .v undef) :: (18, .v (.bool true)) :: []) [0,1,2] [0,1,2,15] [zq [0] 3 6, zq [3] 4 7, zq [4] 5 8, zq [5] 6 9, zq [6,0] 7 10, zq [6,7] 8 11, zq [6,8] 9 12, zq [6,9] 10 13, zq [10] 11 14, zq [11] 12 15, zq [11] 13 16, zq [11] 14 17, zq [11] 15 18] [(_,_),(_,_),(_,_),(_,_)] (by kernel_rfl) rfl rfl ⟨zm rfl rfl rfl,zp rfl (op_len_str _ _ _ Tryz.underlying9 rfl),zo rfl rfl rfl rfl,zm rfl (zb hg1_3) rfl,zr 3 rfl rfl rfl (op_move _ _ _ _ rfl rfl),zr 3 rfl rfl rfl (op_call _ _ 18 _ _ rfl Tryz.call18 rfl (ok_verb_printable line _ hv1) rfl rfl),zr 3 rfl rfl rfl (op_un _ _ _ _ rfl rfl),zk false rfl rfl rfl,zm rfl (zb hg1_8) rfl,zs 8 false rfl rfl rfl rfl,zs 8 false rfl rfl rfl rfl,zs 8 false rfl rfl rfl rfl,zk true rfl rfl rfl,trivial⟩ ?_
     exact hl14 _ (Option.some.inj h).symm
    ·obtain ⟨v2, hv2, h⟩ := bind_some h
     refine zh hn (_ :: _ :: _ :: (6, .v (.string line)) :: (7, .v (.int .i64 (line.size : Int))) :: (8, .v (.bool ((decide (510 < (line.size : Int)))))) :: (9, .v (.bool false)) :: (10, .v (.string line)) :: (11, .v (.bool v1)) :: (12, .v (.bool (!v1))) :: (13, .v (.bool (!v1))) :: (14, .v (.bool false)) :: (15, .v (.string line)) :: (16, .v (.int .i64 v2)) :: (17, .v (.bool (v2 == 0))) :: (18, .v (.bool (v2 == 0))) :: []) [0,1,2] [0,1,2,15] [zq [0] 3 6, zq [3] 4 7, zq [4] 5 8, zq [5] 6 9, zq [6,0] 7 10, zq [6,7] 8 11, zq [6,8] 9 12, zq [6,9] 10 13, zq [10] 11 14, zq [11,0] 12 15, zq [11,12] 13 16, zq [11,13] 14 17, zq [11,14] 15 18] [(_,_),(_,_),(_,_),(_,_)] (by kernel_rfl) rfl rfl ⟨zm rfl rfl rfl,zp rfl (op_len_str _ _ _ Tryz.underlying9 rfl),zo rfl rfl rfl rfl,zm rfl (zb hg1_3) rfl,zr 3 rfl rfl rfl (op_move _ _ _ _ rfl rfl),zr 3 rfl rfl rfl (op_call _ _ 18 _ _ rfl Tryz.call18 rfl (ok_verb_printable line _ hv1) rfl rfl),zr 3 rfl rfl rfl (op_un _ _ _ _ rfl rfl),zk false rfl rfl rfl,zm rfl (zb hg1_8) rfl,zr 8 rfl rfl rfl (op_move _ _ _ _ rfl rfl),zr 8 rfl rfl rfl (op_call _ _ 19 _ _ rfl Tryz.call19 rfl (ok_verb_kindOf line _ hv2) rfl rfl),zr 8 rfl rfl rfl (op_bin _ _ _ _ _ rfl rfl rfl),zk false rfl rfl rfl,trivial⟩ ?_
     exact hl14 _ (Option.some.inj h).symm
set_option maxHeartbeats 1000000 in
theorem ok_verb_Param (c : T_Cmd) (key : ByteArray) (r : (ByteArray × Bool)) (h : Sh.verb_Param c key = some r) : FnOK Tryz.prog 10 [.agg [.v (.int .i64 c.Kind), .v (.string c.Text), .v (.bool c.Path.Null), .v (.string c.Path.Local), .v (.string c.Path.Domain), .fl .shr 2 (List.flatten (List.map T_Param.enc c.Params))], .v (.string key)] (.tup [.v (.string r.1), .v (.bool r.2)]) := by
  unfold Sh.verb_Param at h
  refine fn_ok Tryz.func10 rfl (zl rfl) rfl rfl fun g0 hn hio => ?_
  refine ht_seq ?_
  refine zh hn [_, _, (2, .box 26 [.v (.int .i64 c.Kind), .v (.string c.Text), .v (.bool c.Path.Null), .v (.string c.Path.Local), .v (.string c.Path.Domain), .fl .shr 2 (List.flatten (List.map T_Param.enc c.Params))]), (4, .v (.string (⟨#[]⟩ : ByteArray))), (5, .v (.bool false))] [0,1] [1,2] [zq [0] 2 2, zq [] 3 4, zq [] 4 5] [(_,_),(_,_)] (by kernel_rfl) rfl rfl ⟨zp rfl (op_box _ _ _ _ rfl rfl rfl),za rfl rfl rfl,za rfl rfl rfl,trivial⟩ ?_
  refine pt_then ?_
  refine ht_seq ?_
  refine ht_seq ?_
  refine zh hn [_, _, (8, .ptr 2 5), (9, .fl .shr 2 (List.flatten (List.map T_Param.enc c.Params))), (10, .v (.int .i64 (c.Params.length : Int))), (11, .v (.int .i64 0))] [0,1] [0,3,4,5] [zq [1] 2 8, zq [2,1] 3 9, zq [3] 4 10, zq [] 5 11] [(_,_),(_,_),(_,_),(_,_)] (by kernel_rfl) rfl rfl ⟨zp rfl (op_fieldAddr _ _ _ _ 2 0 _ Tryz.underlying26 rfl sz24 rfl rfl (by decide)),zp rfl (op_load _ _ _ _ _ _ Tryz.underlying24 rfl rfl rfl (zl rfl) rfl rfl rfl),zp rfl (op_len_fl _ _ _ Tryz.underlying24 rfl (by decide) (flat_len T_Param.len _)),zm rfl rfl rfl,trivial⟩ ?_
  refine pt_then ?_
  refine ht_loopS h (fun (s9 : Int) => [(1, .v (.string key)), (9, .fl .shr 2 (List.flatten (List.map T_Param.enc c.Params))), (10, .v (.int .i64 (c.Params.length : Int))), (11, .v (.int .i64 s9))]) (fun (() : Unit) => []) ?_ ?_
  ·rintro ⟨⟩ h
   refine pt_then ?_
   refine ht_seq ?_
   refine zh hn [(4, .v (.string (⟨#[]⟩ : ByteArray))), (5, .v (.bool false))] [] [0,1] [zq [] 0 4, zq [] 1 5] [(_,_),(_,_)] (by kernel_rfl) rfl rfl ⟨za rfl rfl rfl,za rfl rfl rfl,trivial⟩ ?_
   refine pt_then ?_
   refine ht_ret ?_
   obtain rfl := Option.some.inj h
   exact pt_ret hio rfl (.tmp _ _ (.tmp _ _ .nil)) rfl rfl
  ·rintro u12 hl13 hr14 s9 rr17 h ho15
   refine ht_seq ?_
   refine zh hn [_, _, _, _, (12, .v (.bool ((decide (s9 < (c.Params.length : Int))))))] [0,1,2,3] [0,1,2,3,4] [zq [3,2] 4 12] [(_,_),(_,_),(_,_),(_,_),(_,_)] (by kernel_rfl) rfl rfl ⟨zo rfl rfl rfl rfl,trivial⟩ ?_
   refine pt_then ?_
   refine ht_seq ?_
   refine ht_cond _ rfl (fun hb18 => ?_) (fun hb18 => ?_)
   ·have h := cond_t hb18 h
    refine ht_skip ?_
    refine pt_then ?_
    refine ht_seq ?_
    refine ht_block ?_
    refine ht_seq ?_
    obtain ⟨v2, hv2, h⟩ := bind_some h
    obtain ⟨v3, hv3, h⟩ := bind_some h
    refine zh hn [_, _, _, _, _, (13, .eref (.slot 9) (v2 * 2)), (14, .agg [.v (.string v3.Key), .v (.string v3.Val)]), (7, .box 47 [.v (.string (⟨#[]⟩ : ByteArray)), .v (.string (⟨#[]⟩ : ByteArray))]), (7, .box 47 [.v (.string v3.Key), .v (.string v3.Val)])] [0,1,2,3,4] [0,1,2,3,8] [zq [1,3] 5 13, zq [5,1] 6 14, zq [] 7 7, ⟨[6], [7], [8], [.cell 7 0, .cell 7 1]⟩] [(_,_),(_,_),(_,_),(_,_),(_,_)] (by kernel_rfl) rfl rfl ⟨zp rfl (op_ix _ _ _ _ _ _ _ _ Tryz.underlying24 sz47 (by decide) rfl rfl rfl (ix_ok hv2).1 (flat_lt T_Param.len (ix_ok hv2).2) rfl),zp rfl (op_load_eA _ _ _ _ _ _ _ Tryz.underlying47 rfl sz47 rfl rfl (flat_get T_Param.len hv3) rfl (by decide)),zp rfl (op_alloc _ _ zr47),zp rfl (op_store _ _ _ _ _ _ _ _ sz47 rfl rfl rfl rfl (zl rfl) rfl rfl),trivial⟩ ?_
    refine pt_then ?_
    refine ht_seq ?_
    refine zh hn [_, _, _, _, _, (15, .ptr 7 0), (16, .v (.string v3.Key)), (17, .v (.string key)), (18, .v (.bool (v3.Key.toList == key.toList)))] [0,1,2,3,4] [0,1,2,3,4,8] [zq [4] 5 15, zq [5,4] 6 16, zq [0] 7 17, zq [6,7] 8 18] [(_,_),(_,_),(_,_),(_,_),(_,_),(_,_)] (by kernel_rfl) rfl rfl ⟨zp rfl (op_fieldAddr _ _ _ _ 7 0 _ Tryz.underlying47 rfl sz9 rfl rfl (by decide)),zp rfl (op_load _ _ _ _ _ _ Tryz.underlying9 rfl rfl rfl (zl rfl) rfl rfl rfl),zm rfl rfl rfl,zo rfl rfl rfl rfl,trivial⟩ ?_
    refine pt_then ?_
    refine ht_cond _ rfl (fun hb19 => ?_) (fun hb19 => ?_)
    ·have h := cond_t hb19 h
     refine ht_seq ?_
     refine zh hn [_, _, _, _, _, _, (19, .ptr 7 1), (20, .v (.string v3.Val)), (4, .v (.string v3.Val)), (5, .v (.bool true))] [0,1,2,3,4,5] [8,9] [zq [4] 6 19, zq [6,4] 7 20, zq [7] 8 4, zq [] 9 5] [(_,_),(_,_)] (by kernel_rfl) rfl rfl ⟨zp rfl (op_fieldAddr _ _ _ _ 7 0 _ Tryz.underlying47 rfl sz9 rfl rfl (by decide)),zp rfl (op_load _ _ _ _ _ _ Tryz.underlying9 rfl rfl rfl (zl rfl) rfl rfl rfl),za rfl rfl rfl,za rfl rfl rfl,trivial⟩ ?_
     refine pt_then ?_
     refine ht_ret ?_
     refine pt_r_in ?_
     refine pt_r_then ?_
     refine pt_r_then ?_
     refine pt_r_in ?_
     refine pt_r_then ?_
     have h := hr14 _ (ho15 _ (Option.some.inj h).symm).symm
     obtain rfl := Option.some.inj h
     exact pt_ret hio rfl (.tmp _ _ (.tmp _ _ .nil)) rfl rfl
    ·have h := cond_f hb19 h
     refine ht_skip ?_
     refine pt_inb ?_
     refine pt_then ?_
     obtain ⟨v5, hv5, h⟩ := bind_some h
     refine zh hn [_, _, _, _, _, _, (21, .v (.int .i64 v5)), (11, .v (.int .i64 v5))] [0,1,2,3,4,5] [0,1,2,7] [zq [3] 6 21, ⟨[6], [3], [7], [(.slot 11)]⟩] [(_,_),(_,_),(_,_),(_,_)] (by kernel_rfl) rfl rfl ⟨zp rfl (op_bin _ _ _ _ _ rfl rfl (ibind (f := Value.int .i64) (Option.some.inj hv5))),zp rfl (LOp.drop [_] (op_move _ _ _ _ rfl rfl)),trivial⟩ ?_
     exact pt_next _ (Option.some.inj h).symm rfl
   ·have h := cond_f hb18 h
    refine ht_exit ?_
    refine pt_x_then ?_
    refine pt_x_then ?_
    refine pt_x_in ?_
    refine pt_pick [] (by kernel_rfl) (es' := []) rfl ?_
    exact hl13 _ (ho15 _ (Option.some.inj h).symm).symm
set_option maxHeartbeats 1000000 in
theorem ok_wherrykeep_Path (a : T_Path) (b : T_Path) (r : Bool) (h : Sh.wherrykeep_Path a b = some r) : FnOK Tryz.prog 17 [.agg [.v (.bool a.Null), .v (.string a.Local), .v (.string a.Domain)], .agg [.v (.bool b.Null), .v (.string b.Local), .v (.string b.Domain)]] (.v (.bool r)) := by
  unfold Sh.wherrykeep_Path at h
  refine fn_ok Tryz.func17 rfl (zl rfl) rfl rfl fun g0 hn hio => ?_
  refine ht_seq ?_
  refine zh hn [_, _, (2, .box 23 [.v (.bool a.Null), .v (.string a.Local), .v (.string a.Domain)]), (3, .box 23 [.v (.bool b.Null), .v (.string b.Local), .v (.string b.Domain)]), (4, .v (.bool false))] [0,1] [2,3] [zq [0] 2 2, zq [1] 3 3, zq [] 4 4] [(_,_),(_,_)] (by kernel_rfl) rfl rfl ⟨zp rfl (op_box _ _ _ _ rfl rfl rfl),zp rfl (op_box _ _ _ _ rfl rfl rfl),za rfl rfl rfl,trivial⟩ ?_
  refine pt_then ?_
  refine ht_seq ?_
  refine ht_joinS h (fun (s2 : Bool) => [(4, .v (.bool s2))]) ?_ ?_
  ·rintro s2 h
   refine pt_then ?_
   refine ht_ret ?_
   obtain rfl := Option.some.inj h
   exact pt_ret hio rfl (.tmp _ _ .nil) rfl rfl
  ·intro u3 h hl4 hr5
   obtain ⟨v1, hv1, h⟩ := bind_some h
   refine cond_some h (fun hg1_5 h => ?_) (fun hg1_5 h => ?_)
   ·refine cond_some h (fun hg1_12 h => ?_) (fun hg1_12 h => ?_)
    ·refine zh hn (_ :: _ :: (5, .ptr 2 0) :: (6, .v (.bool a.Null)) :: (7, .ptr 3 0) :: (8, .v (.bool b.Null)) :: (9, .v (.bool (a.Null == b.Null))) :: (10, .v (.bool true)) :: (11, .ptr 2 1) :: (12, .v (.string a.Local)) :: (13, .ptr 3 1) :: (14, .v (.string b.Local)) :: (15, .v (.bool (a.Local.toList == b.Local.toList))) :: (16, .v (.bool (a.Local.toList == b.Local.toList))) :: (17, .v (.bool true)) :: (18, .ptr 2 2) :: (19, .v (.string a.Domain)) :: (20, .ptr 3 2) :: (21, .v (.string b.Domain)) :: (22, .v (.bool (a.Domain.toList == b.Domain.toList))) :: (23, .v (.bool (a.Domain.toList == b.Domain.toList))) :: (4, .v (.bool (a.Domain.toList == b.Domain.toList))) :: []) [0,1] [21] (zq [0] 2 5 :: zq [2,0] 3 6 :: zq [1] 4 7 :: zq [4,1] 5 8 :: zq [3,5] 6 9 :: zq [6] 7 10 :: zq [7,0] 8 11 :: zq [7,8,0] 9 12 :: zq [7,1] 10 13 :: zq [7,10,1] 11 14 :: zq [7,9,11] 12 15 :: zq [7,12] 13 16 :: zq [13] 14 17 :: zq [14,0] 15 18 :: zq [14,15,0] 16 19 :: zq [14,1] 17 20 :: zq [14,17,1] 18 21 :: zq [14,16,18] 19 22 :: zq [14,19] 20 23 :: zq [20] 21 4 :: []) [(_,_)] (by kernel_rfl) rfl rfl ⟨zp rfl (op_fieldAddr _ _ _ _ 2 0 _ Tryz.underlying23 rfl sz4 rfl rfl (by decide)),zp rfl (op_load _ _ _ _ _ _ Tryz.underlying4 rfl rfl rfl (zl rfl) rfl rfl rfl),zp rfl (op_fieldAddr _ _ _ _ 3 0 _ Tryz.underlying23 rfl sz4 rfl rfl (by decide)),zp rfl (op_load _ _ _ _ _ _ Tryz.underlying4 rfl rfl rfl (zl rfl) rfl rfl rfl),zp rfl (op_beq _ _ _ _ Tryz.underlying4 rfl rfl),zm rfl (zb hg1_5) rfl,zr 5 rfl rfl rfl (op_fieldAddr _ _ _ _ 2 0 _ Tryz.underlying23 rfl sz9 rfl rfl (by decide)),zr 5 rfl rfl rfl (op_load _ _ _ _ _ _ Tryz.underlying9 rfl rfl rfl (zl rfl) rfl rfl rfl),zr 5 rfl rfl rfl (op_fieldAddr _ _ _ _ 3 0 _ Tryz.underlying23 rfl sz9 rfl rfl (by decide)),zr 5 rfl rfl rfl (op_load _ _ _ _ _ _ Tryz.underlying9 rfl rfl rfl (zl rfl) rfl rfl rfl),zr 5 rfl rfl rfl (op_bin _ _ _ _ _ rfl rfl rfl),zk true rfl rfl rfl,zm rfl (zb hg1_12) rfl,zr 12 rfl rfl rfl (op_fieldAddr _ _ _ _ 2 0 _ Tryz.underlying23 rfl sz9 rfl rfl (by decide)),zr 12 rfl rfl rfl (op_load _ _ _ _ _ _ Tryz.underlying9 rfl rfl rfl (zl rfl) rfl rfl rfl),zr 12 rfl rfl rfl (op_fieldAddr _ _ _ _ 3 0 _ Tryz.underlying23 rfl sz9 rfl rfl (by decide)),zr 12 rfl rfl rfl (op_load _ _ _ _ _ _ Tryz.underlying9 rfl rfl rfl (zl rfl) rfl rfl rfl),zr 12 rfl rfl rfl (op_bin _ _ _ _ _ rfl rfl rfl),zk true rfl rfl rfl,za rfl rfl rfl,trivial⟩ ?_
     exact hl4 _ (Option.some.inj h).symm
    ·refine zh hn (_ :: _ :: (5, .ptr 2 0) :: (6, .v (.bool a.Null)) :: (7, .ptr 3 0) :: (8, .v (.bool b.Null)) :: (9, .v (.bool (a.Null == b.Null))) :: (10, .v (.bool true)) :: (11, .ptr 2 1) :: (12, .v (.string a.Local)) :: (13, .ptr 3 1) :: (14, .v (.string b.Local)) :: (15, .v (.bool (a.Local.toList == b.Local.toList))) :: (16, .v (.bool (a.Local.toList == b.Local.toList))) :: (17, .v (.bool false)) :: (18, .v undef) :: (19, .v undef) :: (20, .v undef) :: (21, .v undef) :: (22, .v undef) :: (23, .v (.bool false)) :: (4, .v (.bool false)) :: []) [0,1] [21] (zq [0] 2 5 :: zq [2,0] 3 6 :: zq [1] 4 7 :: zq [4,1] 5 8 :: zq [3,5] 6 9 :: zq [6] 7 10 :: zq [7,0] 8 11 :: zq [7,8,0] 9 12 :: zq [7,1] 10 13 :: zq [7,10,1] 11 14 :: zq [7,9,11] 12 15 :: zq [7,12] 13 16 :: zq [13] 14 17 :: zq [14] 15 18 :: zq [14] 16 19 :: zq [14] 17 20 :: zq [14] 18 21 :: zq [14] 19 22 :: zq [14] 20 23 :: zq [20] 21 4 :: []) [(_,_)] (by kernel_rfl) rfl rfl ⟨zp rfl (op_fieldAddr _ _ _ _ 2 0 _ Tryz.underlying23 rfl sz4 rfl rfl (by decide)),zp rfl (op_load _ _ _ _ _ _ Tryz.underlying4 rfl rfl rfl (zl rfl) rfl rfl rfl),zp rfl (op_fieldAddr _ _ _ _ 3 0 _ Tryz.underlying23 rfl sz4 rfl rfl (by decide)),zp rfl (op_load _ _ _ _ _ _ Tryz.underlying4 rfl rfl rfl (zl rfl) rfl rfl rfl),zp rfl (op_beq _ _ _ _ Tryz.underlying4 rfl rfl),zm rfl (zb hg1_5) rfl,zr 5 rfl rfl rfl (op_fieldAddr _ _ _ _ 2 0 _ Tryz.underlying23 rfl sz9 rfl rfl (by decide)),zr 5 rfl rfl rfl (op_load _ _ _ _ _ _ Tryz.underlying9 rfl rfl rfl (zl rfl) rfl rfl rfl),zr 5 rfl rfl rfl (op_fieldAddr _ _ _ _ 3 0 _ Tryz.underlying23 rfl sz9 rfl rfl (by decide)),zr 5 rfl rfl rfl (op_load _ _ _ _ _ _ Tryz.underlying9 rfl rfl rfl (zl rfl) rfl rfl rfl),zr 5 rfl rfl rfl (op_bin _ _ _ _ _ rfl rfl rfl),zk true rfl rfl rfl,zm rfl (zb hg1_12) rfl,zs 12 true rfl rfl rfl rfl,zs 12 true rfl rfl rfl rfl,zs 12 true rfl rfl rfl rfl,zs 12 true rfl rfl rfl rfl,zs 12 true rfl rfl rfl rfl,zk false rfl rfl rfl,za rfl rfl rfl,trivial⟩ ?_
     exact hl4 _ (Option.some.inj h).symm
   ·refine zh hn (_ :: _ :: (5, .ptr 2 0) :: (6, .v (.bool a.Null)) :: (7, .ptr 3 0) :: (8, .v (.bool b.Null)) :: (9, .v (.bool (a.Null == b.Null))) :: (10, .v (.bool false)) :: (11, .v undef) :: (12, .v undef) :: (13, .v undef) :: (14, .v undef) :: (15, .v undef) :: (16, .v (.bool false)) :: (17, .v (.bool false)) :: (18, .v undef) :: (19, .v undef) :: (20, .v undef) :: (21, .v undef) :: (22, .v undef) :: (23, .v (.bool false)) :: (4, .v (.bool false)) :: []) [0,1] [21] (zq [0] 2 5 :: zq [2,0] 3 6 :: zq [1] 4 7 :: zq [4,1] 5 8 :: zq [3,5] 6 9 :: zq [6] 7 10 :: zq [7] 8 11 :: zq [7] 9 12 :: zq [7] 10 13 :: zq [7] 11 14 :: zq [7] 12 15 :: zq [7] 13 16 :: zq [13] 14 17 :: zq [14] 15 18 :: zq [14] 16 19 :: zq [14] 17 20 :: zq [14] 18 21 :: zq [14] 19 22 :: zq [14] 20 23 :: zq [20] 21 4 :: []) [(_,_)] (by kernel_rfl) rfl rfl ⟨zp rfl (op_fieldAddr _ _ _ _ 2 0 _ Tryz.underlying23 rfl sz4 rfl rfl (by decide)),zp rfl (op_load _ _ _ _ _ _ Tryz.underlying4 rfl rfl rfl (zl rfl) rfl rfl rfl),zp rfl (op_fieldAddr _ _ _ _ 3 0 _ Tryz.underlying23 rfl sz4 rfl rfl (by decide)),zp rfl (op_load _ _ _ _ _ _ Tryz.underlying4 rfl rfl rfl (zl rfl) rfl rfl rfl),zp rfl (op_beq _ _ _ _ Tryz.underlying4 rfl rfl),zm rfl (zb hg1_5) rfl,zs 5 true rfl rfl rfl rfl,zs 5 true rfl rfl rfl rfl,zs 5 true rfl rfl rfl rfl,zs 5 true rfl rfl rfl rfl,zs 5 true rfl rfl rfl rfl,zk false rfl rfl rfl,zm rfl rfl rfl,zs 12 true rfl rfl rfl rfl,zs 12 true rfl rfl rfl rfl,zs 12 true rfl rfl rfl rfl,zs 12 true rfl rfl rfl rfl,zs 12 true rfl rfl rfl rfl,zk false rfl rfl rfl,za rfl rfl rfl,trivial⟩ ?_
    exact hl4 _ (Option.some.inj h).symm
set_option maxHeartbeats 1000000 in
theorem ok_path_Text (mx : Int) (p : T_Path) (r : (ByteArray × Int)) (h : Sh.path_Text p = some r) : FnG Tryz.prog (GL mx) 44 [.agg [.v (.bool p.Null), .v (.string p.Local), .v (.string p.Domain)]] (.tup [.v (.string r.1), .v (.int .i64 r.2)]) := by
  unfold Sh.path_Text at h
  refine fn_okG Tryz.func44 rfl (zl rfl) rfl rfl fun g0 hn hio => ?_
  refine ht_seq ?_
  refine zh hn [_, _, (1, .box 23 [.v (.bool p.Null), .v (.string p.Local), .v (.string p.Domain)]), (2, .v (.string (⟨#[]⟩ : ByteArray))), (3, .v (.int .i64 0))] [0,1] [1,2] [zq [0] 2 1, zq [] 3 2, zq [] 4 3] [(_,_),(_,_)] (by kernel_rfl) rfl rfl ⟨zp rfl (op_box _ _ _ _ rfl rfl rfl),za rfl rfl rfl,za rfl rfl rfl,trivial⟩ ?_
  refine pt_then ?_
  refine ht_seq ?_
  refine ht_seq ?_
  obtain ⟨v1, hv1, h⟩ := bind_some h
  refine zh hn [_, _, (5, .agg [.v (.bool p.Null), .v (.string p.Local), .v (.string p.Domain)]), (6, .v (.int .i64 v1)), (4, .v (.int .i64 v1))] [0,1] [0,1,4] [zq [1] 2 5, zq [2,0] 3 6, zq [3] 4 4] [(_,_),(_,_),(_,_)] (by kernel_rfl) rfl rfl ⟨zp rfl (op_loadA _ _ _ _ _ _ _ Tryz.underlying23 rfl sz23 rfl rfl (zl rfl) rfl rfl),zp rfl (op_callG _ _ 20 58 _ _ rfl Tryz.call58 rfl rfl (fun _ h => h) (ok_path_Check mx p _ hv1) rfl rfl),za rfl rfl rfl,trivial⟩ ?_
  refine pt_then ?_
  refine ht_seq ?_
  refine zh hn [_, _, _, (7, .v (.int .i64 v1)), (8, .v (.bool (v1 != 0)))] [0,1,2] [0,1,2,4] [zq [2] 3 7, zq [3] 4 8] [(_,_),(_,_),(_,_),(_,_)] (by kernel_rfl) rfl rfl ⟨zm rfl rfl rfl,zo rfl rfl rfl rfl,trivial⟩ ?_
  refine pt_then ?_
  refine ht_cond _ rfl (fun hb2 => ?_) (fun hb2 => ?_)
  ·have h := cond_t hb2 h
   refine ht_seq ?_
   refine zh hn [_, _, _, _, (9, .v (.int .i64 v1)), (2, .v (.string (⟨#[]⟩ : ByteArray))), (3, .v (.int .i64 v1))] [0,1,2,3] [0,5,6] [zq [2] 4 9, zq [] 5 2, zq [4] 6 3] [(_,_),(_,_),(_,_)] (by kernel_rfl) rfl rfl ⟨zm rfl rfl rfl,za rfl rfl rfl,za rfl rfl rfl,trivial⟩ ?_
   refine pt_then ?_
   refine ht_ret ?_
   refine pt_pick [1, 2] (by kernel_rfl) (es' := [(_, _), (_, _)]) rfl ?_
   refine pt_r_then ?_
   obtain rfl := Option.some.inj h
   exact pt_ret hio rfl (.tmp _ _ (.tmp _ _ .nil)) rfl rfl
  ·have h := cond_f hb2 h
   refine ht_skip ?_
   refine pt_then ?_
   refine ht_seq ?_
   refine ht_seq ?_
   refine zh hn [_, _, _, _, (10, .ptr 1 0), (11, .v (.bool p.Null))] [0,1,2,3] [0,1,5] [zq [1] 4 10, zq [4,1] 5 11] [(_,_),(_,_),(_,_)] (by kernel_rfl) rfl rfl ⟨zp rfl (op_fieldAddr _ _ _ _ 1 0 _ Tryz.underlying23 rfl sz4 rfl rfl (by decide)),zp rfl (op_load _ _ _ _ _ _ Tryz.underlying4 rfl rfl rfl (zl rfl) rfl rfl rfl),trivial⟩ ?_
   refine pt_then ?_
   refine ht_cond _ rfl (fun hb3 => ?_) (fun hb3 => ?_)
   ·have h := cond_t hb3 h
    refine ht_seq ?_
    refine zh hn [_, _, _, (2, .v (.string (⟨#[60, 62]⟩ : ByteArray))), (3, .v (.int .i64 0))] [0,1,2] [0,3,4] [zq [] 3 2, zq [] 4 3] [(_,_),(_,_),(_,_)] (by kernel_rfl) rfl rfl ⟨za rfl rfl rfl,za rfl rfl rfl,trivial⟩ ?_
    refine pt_then ?_
    refine ht_ret ?_
    refine pt_pick [1, 2] (by kernel_rfl) (es' := [(_, _), (_, _)]) rfl ?_
    refine pt_r_then ?_
    obtain rfl := Option.some.inj h
    exact pt_ret hio rfl (.tmp _ _ (.tmp _ _ .nil)) rfl rfl
   ·have h := cond_f hb3 h
    refine ht_skip ?_
    refine pt_then ?_
    refine ht_seq ?_
    obtain ⟨v4, hv4, h⟩ := bind_some h
    obtain ⟨v5, hv5, h⟩ := bind_some h
    obtain ⟨v6, hv6, h⟩ := bind_some h
    obtain ⟨v7, hv7, h⟩ := bind_some h
    refine zh hn [_, _, _, (12, .ptr 1 1), (13, .v (.string p.Local)), (14, .v (.string v4)), (15, .v (.string v5)), (16, .ptr 1 2), (17, .v (.string p.Domain)), (18, .v (.string v6)), (19, .v (.string v7)), (2, .v (.string v7)), (3, .v (.int .i64 0))] [0,1,2] [0,11,12] [zq [1] 3 12, zq [3,1] 4 13, zq [4] 5 14, zq [5] 6 15, zq [1] 7 16, zq [7,1] 8 17, zq [6,8] 9 18, zq [9] 10 19, zq [10] 11 2, zq [] 12 3] [(_,_),(_,_),(_,_)] (by kernel_rfl) rfl rfl ⟨zp rfl (op_fieldAddr _ _ _ _ 1 0 _ Tryz.underlying23 rfl sz9 rfl rfl (by decide)),zp rfl (op_load _ _ _ _ _ _ Tryz.underlying9 rfl rfl rfl (zl rfl) rfl rfl rfl),zp rfl (op_bin _ _ _ _ _ rfl rfl (cat_ok hv4)),zp rfl (op_bin _ _ _ _ _ rfl rfl (cat_ok hv5)),zp rfl (op_fieldAddr _ _ _ _ 1 0 _ Tryz.underlying23 rfl sz9 rfl rfl (by decide)),zp rfl (op_load _ _ _ _ _ _ Tryz.underlying9 rfl rfl rfl (zl rfl) rfl rfl rfl),zp rfl (op_bin _ _ _ _ _ rfl rfl (cat_ok hv6)),zp rfl (op_bin _ _ _ _ _ rfl rfl (cat_ok hv7)),za rfl rfl rfl,za rfl rfl rfl,trivial⟩ ?_
    refine pt_then ?_
    refine ht_ret ?_
    refine pt_pick [1, 2] (by kernel_rfl) (es' := [(_, _), (_, _)]) rfl ?_
    obtain rfl := Option.some.inj h
    exact pt_ret hio rfl (.tmp _ _ (.tmp _ _ .nil)) rfl rfl
theorem ok_strings_Builder_copyCheck (xs : List Value) : FnP Tryz.prog 59 [.hid (bldT 71 5 false xs)] [.hid (bldT 71 5 true xs)] (.tup []) :=
  bld_check (by decide) (fun b w h1 h2 h3 => Tryz.Builder_copyCheck_fresh b w h1 h2 h3) (fun b w h => Tryz.Builder_copyCheck_used b w h)
set_option maxHeartbeats 1000000 in
theorem ok_strings_Builder_WriteString (xs : List Int) (s : ByteArray) (r : List Int) (h : appO 1 xs (sbytes s) = some r) : FnP Tryz.prog 45 [.hid (bldT 71 5 false (List.map (Value.int .u8) xs)), .v (.string s)] [.hid (bldT 71 5 false (List.map (Value.int .u8) r))] (.tup [.v (.int .i64 (s.size : Int)), .v .nilIface]) := by
  refine FnP.bldW ?_
  refine fn_okP Tryz.func45 rfl (zl rfl) rfl (zl rfl) fun args0 hargs0 g0 hn hio => ?_
  refine ht_seq ?_
  refine zh hn [_, _, _, (4, .v (.int .i64 0)), (5, .v .nilIface)] [0,1,2] [0,1,2] [zq [] 3 4, zq [] 4 5] [(_,_),(_,_),(_,_)] (by kernel_rfl) rfl rfl ⟨za rfl rfl rfl,za rfl rfl rfl,trivial⟩ ?_
  refine pt_then ?_
  refine ht_seq ?_
  refine zh hn [_, _, _, (6, .same (.slot 0)), (0, .hid (bldT 71 5 true (List.map (Value.int .u8) xs))), (7, .tup [])] [0,1,2] [4,1,2] [zq [] 3 6, ⟨[3], [0], [4, 5], [(.slot 7)]⟩] [(_,_),(_,_),(_,_)] (by kernel_rfl) rfl rfl ⟨zp rfl (op_move_name _ _ _ rfl),zp rfl (op_callPS _ _ _ _ 7 59 [.tmp 6] [] _ _ _ rfl Tryz.call59 rfl rfl rfl (ok_strings_Builder_copyCheck _) (zl rfl) rfl rfl rfl rfl rfl rfl rfl),trivial⟩ ?_
  refine pt_then ?_
  refine ht_bld_box 0 rfl ?_
  refine ht_seq ?_
  refine zh hn (_ :: _ :: _ :: (8, .ptr 0 0) :: (9, .ptr 0 0) :: (10, .ptr 0 0) :: (11, .ptr 0 1) :: (12, .same (.cell 0 1)) :: (13, .v (.string s)) :: (14, .fl (.own 5) 1 (List.map (Value.int .u8) r)) :: (0, .box 71 [.ptr 0 0, .any]) :: (15, .ptr 0 0) :: (16, .ptr 0 1) :: (0, .box 71 [.ptr 0 0, .fl (.own 5) 1 (List.map (Value.int .u8) r)]) :: []) [0,1,2] [13,1,2] [zq [0] 3 8, zq [0] 4 9, zq [4,0] 5 10, zq [5,0] 6 11, zq [6,0] 7 12, zq [1] 8 13, ⟨[7, 8], [0], [10, 9], [(.slot 14)]⟩, zq [3,10] 11 15, zq [11,10] 12 16, ⟨[12], [7, 9, 10], [13], [.cell 0 1]⟩] [(_,_),(_,_),(_,_)] (by kernel_rfl) rfl rfl ⟨zm rfl rfl rfl,zm rfl rfl rfl,zp rfl (op_nilCheck _ _ _ 0 0 rfl (by decide)),zp rfl (op_fieldAddr _ _ _ _ 0 0 _ Tryz.underlying71 rfl sz67 rfl rfl (by decide)),zp rfl (op_load _ _ _ _ _ _ Tryz.underlying67 rfl rfl rfl (zl rfl) rfl rfl rfl),zm rfl rfl rfl,zp rfl (op_apps_cell _ _ _ _ _ _ el67 zr5 Tryz.underlying9 rfl rfl (zl rfl) rfl rfl h rfl (by decide) rfl rfl),zp rfl (op_nilCheck _ _ _ 0 0 rfl (by decide)),zp rfl (op_fieldAddr _ _ _ _ 0 0 _ Tryz.underlying71 rfl sz67 rfl rfl (by decide)),zp rfl (LOp.drop [_] (op_store_take _ _ _ _ _ _ _ _ sz67 rfl rfl rfl (zl rfl) rfl rfl)),trivial⟩ ?_
  refine pt_then ?_
  refine ht_seq ?_
  refine zh hn [_, _, _, (17, .v (.string s)), (18, .v (.int .i64 (s.size : Int))), (4, .v (.int .i64 (s.size : Int))), (5, .v .nilIface)] [0,1,2] [0,2,5,6] [zq [1] 3 17, zq [3] 4 18, zq [4] 5 4, zq [] 6 5] [(_,_),(_,_),(_,_),(_,_)] (by kernel_rfl) rfl rfl ⟨zm rfl rfl rfl,zp rfl (op_len_str _ _ _ Tryz.underlying9 rfl),za rfl rfl rfl,za rfl rfl rfl,trivial⟩ ?_
  refine pt_then ?_
  refine ht_ret ?_
  refine pt_bld 0 ?_
  refine pt_pick [2, 3, 0, 1] (by kernel_rfl) (es' := [(_, _), (_, _), (_, _), (_, _)]) rfl ?_
  exact pt_retP (es := [(4, .v (.int .i64 (s.size : Int))), (5, .v .nilIface)]) (posts := [.hid (bldT 71 5 true (List.map (Value.int .u8) r))]) hio rfl rfl (.tmp _ _ (.tmp _ _ .nil)) rfl rfl hargs0 rfl
set_option maxHeartbeats 1000000 in
theorem ok_strings_Builder_String (xs : List Int) (s : ByteArray) (h : strO xs = some s) : FnP Tryz.prog 47 [.hid (bldT 71 5 false (List.map (Value.int .u8) xs))] [] (.v (.string s)) := by
  refine fn_okP Tryz.func47 rfl (zl rfl) rfl (zl rfl) fun args0 hargs0 g0 hn hio => ?_
  refine ht_bld_row 0 fun v => ?_
  refine ht_seq ?_
  refine zh hn [_, (2, .v (.string ByteArray.empty))] [0] [0] [zq [] 1 2] [(_,_)] (by kernel_rfl) rfl rfl ⟨za rfl rfl rfl,trivial⟩ ?_
  refine pt_then ?_
  refine ht_seq ?_
  refine ht_anyR (by kernel_rfl) hn (El := [_, (3, .same (.slot 0)), (4, .ptr 0 0), (5, .ptr 0 1), (6, .v v), (7, .hid (usdT v)), (8, .same (.slot 0)), (9, .ptr 0 0), (10, .ptr 0 1), (11, .v v), (12, .v (.int .i64 ((List.map (Value.int .u8) xs).length : Int))), (13, .v (.string s)), (2, .v (.string s))]) (init := [0]) (fin := [12]) (sps := [zq [] 1 3, zq [1,0] 2 4, zq [2] 3 5, zq [3,0] 4 6, zq [4,0] 5 7, zq [] 6 8, zq [6,0] 7 9, zq [7] 8 10, zq [8,0] 9 11, zq [9,0] 10 12, ⟨[5, 10], [0], [11], [(.slot 13)]⟩, zq [11] 12 2]) (es' := [(2, .v (.string s))]) (by kernel_rfl) rfl rfl ⟨zp rfl (op_move_name _ _ _ rfl),zp rfl (op_nilCheck_bld _ _ _ 0 rfl rfl (by decide)),zp rfl (op_fieldAddr _ _ _ _ 0 0 _ Tryz.underlying71 rfl sz67 rfl rfl (by decide)),zp rfl (op_load_bld _ _ _ 0 Tryz.underlying67 rfl rfl rfl),zp rfl (op_usd _ _ 0 Tryz.underlying87 rfl rfl),zp rfl (op_move_name _ _ _ rfl),zp rfl (op_nilCheck_bld _ _ _ 0 rfl rfl (by decide)),zp rfl (op_fieldAddr _ _ _ _ 0 0 _ Tryz.underlying71 rfl sz67 rfl rfl (by decide)),zp rfl (op_load_bld _ _ _ 0 Tryz.underlying67 rfl rfl rfl),zp rfl (op_len_bld _ _ 0 Tryz.underlying67 rfl rfl),zp rfl (op_ustr _ _ 0 Tryz.underlying87 (by kernel_rfl) rfl rfl h),za rfl rfl rfl,trivial⟩ ?_
  refine pt_then ?_
  refine ht_ret ?_
  exact pt_retP (es := [(2, .v (.string s))]) (posts := []) hio rfl rfl (.tmp _ _ .nil) rfl rfl hargs0 rfl
end Go.Proofs.YthfmdofkkkpbkaaGreatDoor
