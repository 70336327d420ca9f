/-
  The model's runs are what is told in Lean.
-/
import Derived.Test.YtgonanjdmdlkjaaDoorProg
import Derived.KernelRfl
import Derived.Test.YtgonanjdmdlkjaaDoorShelf
import Derived.Test.YtgonanjdmdlkjaaDoorIdx
import Derived.Test.YtgonanjdmdlkjaaDoorOkc1
set_option linter.unusedVariables false
set_option linter.unusedSimpArgs false
namespace Go.Proofs.YtgonanjdmdlkjaaDoor
open Go.Abs Go.Abs.Sh

set_option maxHeartbeats 1000000 in
theorem ok_wherrylaw14_DotsLines (mx : Int) (l : (List (List Int))) (r : Bool) (h : Sh.wherrylaw14_DotsLines l = some r) : FnG Tryd.prog (GL mx) 7 [.fr .shr true 1 (List.flatten (List.map Row_int_u8.ienc l))] (.v (.bool r)) := by
  unfold Sh.wherrylaw14_DotsLines at h
  refine fn_okG Tryd.func7 rfl (zl rfl) rfl rfl fun g0 hn hio => ?_
  refine ht_seq ?_
  refine zh hn [_, _, (2, .v (.bool false))] [0,1] [0,1] [zq [] 2 2] [(_,_),(_,_)] (by kernel_rfl) rfl rfl ⟨za rfl rfl rfl,trivial⟩ ?_
  refine pt_then ?_
  refine ht_seq ?_
  refine ht_seq ?_
  refine zh hn [_, _, (11, .fr .shr true 1 (List.flatten (List.map Row_int_u8.ienc l))), (12, .v (.int .i64 (l.length : Int))), (13, .v (.bool ((decide (40 < (l.length : Int))))))] [0,1] [0,1,4] [zq [0] 2 11, zq [2] 3 12, zq [3] 4 13] [(_,_),(_,_),(_,_)] (by kernel_rfl) rfl rfl ⟨zm rfl rfl rfl,zp rfl (op_len_fr _ _ _ Tryd.underlying29 rfl (by decide) (gflat_len Row_int_u8.ilen _)),zo rfl rfl rfl rfl,trivial⟩ ?_
  refine pt_then ?_
  refine ht_cond _ rfl (fun hb1 => ?_) (fun hb1 => ?_)
  ·have h := cond_t hb1 h
   refine ht_seq ?_
   refine zh hn [_, _, _, (2, .v (.bool true))] [0,1,2] [1,3] [zq [] 3 2] [(_,_),(_,_)] (by kernel_rfl) rfl rfl ⟨za rfl rfl rfl,trivial⟩ ?_
   refine pt_then ?_
   refine ht_ret ?_
   refine pt_pick [1] (by kernel_rfl) (es' := [(_, _)]) rfl ?_
   refine pt_r_then ?_
   obtain rfl := Option.some.inj h
   exact pt_ret hio rfl (.tmp _ _ .nil) rfl rfl
  ·have h := cond_f hb1 h
   refine ht_skip ?_
   refine pt_then ?_
   refine ht_seq ?_
   refine zh hn [_, _, _, (3, .v (.slice none 0 0)), (4, .v (.slice none 0 0))] [0,1,2] [0,1,3,4] [zq [] 3 3, zq [] 4 4] [(_,_),(_,_),(_,_),(_,_)] (by kernel_rfl) rfl rfl ⟨za rfl rfl rfl,za rfl rfl rfl,trivial⟩ ?_
   refine pt_then ?_
   refine ht_seq ?_
   refine ht_seq ?_
   refine zh hn [_, _, _, _, (5, .v (.int .i64 0))] [0,1,2,3] [0,1,2,3,4] [zq [] 4 5] [(_,_),(_,_),(_,_),(_,_),(_,_)] (by kernel_rfl) rfl rfl ⟨za rfl rfl rfl,trivial⟩ ?_
   refine pt_then ?_
   refine ht_sub (fs := [(0, .fr .shr true 1 (List.flatten (List.map Row_int_u8.ienc l))), (133, .glob (GL mx)), (3, .fl (.own 5) 1 (List.map (Value.int .u8) [])), (4, .fl (.own 5) 1 (List.map (Value.int .u8) [])), (5, .v (.int .i64 0))]) (.same _ (.same _ (.sub _ (sub_nil 5 1) rfl (.sub _ (sub_nil 5 1) rfl (.same _ .nil))))) ?_
   refine ht_loopS h (fun ((s130, s131, s132) : (List Int) × (List Int) × Int) => [(0, .fr .shr true 1 (List.flatten (List.map Row_int_u8.ienc l))), (133, .glob (GL mx)), (3, .fl (.own 5) 1 (List.map (Value.int .u8) s130)), (4, .fl (.own 5) 1 (List.map (Value.int .u8) s131)), (5, .v (.int .i64 s132))]) (fun ((s181, s182) : (List Int) × (List Int)) => [(0, .fr .shr true 1 (List.flatten (List.map Row_int_u8.ienc l))), (133, .glob (GL mx)), (3, .fl (.own 5) 1 (List.map (Value.int .u8) s181)), (4, .fl (.own 5) 1 (List.map (Value.int .u8) s182))]) ?_ ?_
   ·rintro ⟨s181, s182⟩ h
    refine pt_then ?_
    refine ht_seq ?_
    obtain ⟨v237, hv237, h⟩ := bind_some h
    refine zh hn [_, _, _, _, (87, .same (.slot 3)), (88, .fr .ro false 1 (List.flatten (List.map Row_int_u8.ienc v237))), (7, .fr .ro false 1 (List.flatten (List.map Row_int_u8.ienc v237)))] [0,1,2,3] [0,1,2,3,6] [zq [2] 4 87, zq [4,2,1] 5 88, zq [5] 6 7] [(_,_),(_,_),(_,_),(_,_),(_,_)] (by kernel_rfl) rfl rfl ⟨zm rfl rfl rfl,zp rfl (op_callG _ _ 133 14 _ _ rfl Tryd.call14 rfl rfl (fun _ h => h) (ok_dots_Lines mx s181 _ hv237) rfl rfl),za rfl rfl rfl,trivial⟩ ?_
    refine pt_then ?_
    refine ht_seq ?_
    obtain ⟨v238, hv238, h⟩ := bind_some h
    refine zh hn [_, _, _, _, _, (90, .same (.slot 3)), (91, .tup [.fl (.own 5) 1 (List.map (Value.int .u8) v238.1), .v (.int .i64 v238.2)]), (89, .tup [.fl (.own 5) 1 (List.map (Value.int .u8) v238.1), .v (.int .i64 v238.2)]), (92, .fl (.own 5) 1 (List.map (Value.int .u8) v238.1)), (89, .tup [.any, .v (.int .i64 v238.2)]), (93, .v (.int .i64 v238.2)), (8, .fl (.own 5) 1 (List.map (Value.int .u8) v238.1)), (9, .v (.int .i64 v238.2))] [0,1,2,3,4] [0,1,2,3,4,11,12] [zq [2] 5 90, zq [5,2,1] 6 91, ⟨[], [6], [7], [(.slot 89)]⟩, ⟨[], [7], [9, 8], [(.slot 92)]⟩, zq [9] 10 93, ⟨[], [8], [11], [(.slot 8)]⟩, zq [10] 12 9] [(_,_),(_,_),(_,_),(_,_),(_,_),(_,_),(_,_)] (by kernel_rfl) rfl rfl ⟨zm rfl rfl rfl,zp rfl (op_callG _ _ 133 11 _ _ rfl Tryd.call11 rfl rfl (fun _ h => h) (ok_dots_Stuff mx s181 _ hv238) rfl rfl),zp rfl (op_move_take _ _ _ _ rfl),zp rfl (op_extract_take _ _ _ _ _ rfl (zl rfl) rfl rfl (by decide) rfl),zp rfl (op_extract _ _ _ _ _ rfl rfl (zl rfl) rfl rfl),zp rfl (op_assign_take _ _ _ _ rfl),za rfl rfl rfl,trivial⟩ ?_
    refine pt_then ?_
    refine ht_seq ?_
    refine ht_seq ?_
    refine ht_joinS h (fun (s242 : Bool) => [(0, .fr .shr true 1 (List.flatten (List.map Row_int_u8.ienc l))), (133, .glob (GL mx)), (7, .fr .ro false 1 (List.flatten (List.map Row_int_u8.ienc v237))), (115, .v (.bool s242))]) ?_ ?_
    ·rintro s242 h
     refine pt_then ?_
     refine ht_cond _ rfl (fun hb246 => ?_) (fun hb246 => ?_)
     ·have h := cond_t hb246 h
      refine ht_seq ?_
      refine zh hn [_, _, _, _, (2, .v (.bool false))] [0,1,2,3] [1,4] [zq [] 4 2] [(_,_),(_,_)] (by kernel_rfl) rfl rfl ⟨za rfl rfl rfl,trivial⟩ ?_
      refine pt_then ?_
      refine ht_ret ?_
      refine pt_pick [1] (by kernel_rfl) (es' := [(_, _)]) rfl ?_
      refine pt_r_then ?_
      obtain rfl := Option.some.inj h
      exact pt_ret hio rfl (.tmp _ _ .nil) rfl rfl
     ·have h := cond_f hb246 h
      refine ht_skip ?_
      refine pt_then ?_
      refine ht_seq ?_
      refine ht_seq ?_
      refine zh hn [_, _, _, _, (10, .v (.int .i64 0))] [0,1,2,3] [0,1,2,4] [zq [] 4 10] [(_,_),(_,_),(_,_),(_,_)] (by kernel_rfl) rfl rfl ⟨za rfl rfl rfl,trivial⟩ ?_
      refine pt_then ?_
      refine ht_loopS h (fun (s258 : Int) => [(0, .fr .shr true 1 (List.flatten (List.map Row_int_u8.ienc l))), (133, .glob (GL mx)), (7, .fr .ro false 1 (List.flatten (List.map Row_int_u8.ienc v237))), (10, .v (.int .i64 s258))]) (fun (() : Unit) => [(133, .glob (GL mx))]) ?_ ?_
      ·rintro ⟨⟩ h
       refine pt_then ?_
       refine ht_seq ?_
       obtain ⟨v269, hv269, h⟩ := bind_some h
       refine zh hn [_, (132, .v (.bool v269)), (2, .v (.bool v269))] [0] [0,2] [zq [0] 1 132, zq [1] 2 2] [(_,_),(_,_)] (by kernel_rfl) rfl rfl ⟨zp rfl (op_callG _ _ 133 21 _ _ rfl Tryd.call21 rfl rfl (fun _ h => h) (ok_wherrylaw14_wakes mx  _ hv269) rfl rfl),za rfl rfl rfl,trivial⟩ ?_
       refine pt_then ?_
       refine ht_ret ?_
       refine pt_pick [1] (by kernel_rfl) (es' := [(_, _)]) rfl ?_
       obtain rfl := Option.some.inj h
       exact pt_ret hio rfl (.tmp _ _ .nil) rfl rfl
      ·rintro u261 hl262 hr263 s258 rr266 h ho264
       refine ht_seq ?_
       refine ht_seq ?_
       refine zh hn [_, _, _, _, (116, .v (.int .i64 s258)), (117, .fr .shr true 1 (List.flatten (List.map Row_int_u8.ienc l))), (118, .v (.int .i64 (l.length : Int))), (119, .v (.bool ((decide (s258 < (l.length : Int))))))] [0,1,2,3] [0,1,2,3,7] [zq [3] 4 116, zq [0] 5 117, zq [5] 6 118, zq [4,6] 7 119] [(_,_),(_,_),(_,_),(_,_),(_,_)] (by kernel_rfl) rfl rfl ⟨zm rfl rfl rfl,zm rfl rfl rfl,zp rfl (op_len_fr _ _ _ Tryd.underlying29 rfl (by decide) (gflat_len Row_int_u8.ilen _)),zo rfl rfl rfl rfl,trivial⟩ ?_
       refine pt_then ?_
       refine ht_cond _ rfl (fun hb267 => ?_) (fun hb267 => ?_)
       ·have h := cond_t hb267 h
        refine ht_skip ?_
        refine pt_then ?_
        refine ht_seq ?_
        refine ht_block ?_
        refine ht_seq ?_
        obtain ⟨v248, hv248, h⟩ := bind_some h
        obtain ⟨v249, hv249, h⟩ := bind_some h
        obtain ⟨v250, hv250, h⟩ := bind_some h
        obtain ⟨v251, hv251, h⟩ := bind_some h
        obtain ⟨v252, hv252, h⟩ := bind_some h
        refine ht_anyR (by kernel_rfl) hn (El := (_ :: _ :: _ :: _ :: _ :: (122, .fr .ro false 1 (List.flatten (List.map Row_int_u8.ienc v237))) :: (123, .v (.int .i64 s258)) :: (124, .eref (.slot 122) (v248 * 1)) :: (125, .fl .ro 1 (List.map (Value.int .u8) v249)) :: (126, .fr .shr true 1 (List.flatten (List.map Row_int_u8.ienc l))) :: (127, .v (.int .i64 s258)) :: (128, .eref (.slot 126) (v250 * 1)) :: (129, .fl .shr 1 (List.map (Value.int .u8) v251)) :: (130, .v (.bool v252)) :: (131, .v (.bool (!v252))) :: [])) (init := [0, 1, 2, 3, 4]) (fin := [0, 1, 2, 3, 14]) (sps := [zq [2] 5 122, zq [3] 6 123, zq [5,6] 7 124, zq [7,5] 8 125, zq [0] 9 126, zq [3] 10 127, zq [9,10] 11 128, zq [11,9] 12 129, zq [8,12] 13 130, zq [13] 14 131]) (es' := [(_, _), (_, _), (_, _), (_, _), (131, .v (.bool (!v252)))]) (by kernel_rfl) rfl rfl ⟨zm rfl rfl rfl,zm rfl rfl rfl,zp rfl (op_ix_fr _ _ _ _ _ _ _ _ Tryd.underlying29 sz22 (by decide) rfl rfl rfl (ix_ok hv248).1 (gflat_lt Row_int_u8.ilen (ix_ok hv248).2) rfl),zp rfl (op_load_fr _ _ _ _ _ _ _ Tryd.underlying22 rfl rfl rfl (gflat_cell0 Row_int_u8.ilen hv249 rfl) (.fl _ _ rfl)),zm rfl rfl rfl,zm rfl rfl rfl,zp rfl (op_ix_fr _ _ _ _ _ _ _ _ Tryd.underlying29 sz22 (by decide) rfl rfl rfl (ix_ok hv250).1 (gflat_lt Row_int_u8.ilen (ix_ok hv250).2) rfl),zp rfl (op_load_fr _ _ _ _ _ _ _ Tryd.underlying22 rfl rfl rfl (gflat_cell0 Row_int_u8.ilen hv251 rfl) (.fl _ _ rfl)),zp rfl (op_call _ _ 18 _ _ rfl Tryd.call18 rfl (ok_wherrykeep_Bytes v249 v251 _ hv252) rfl rfl),zp rfl (op_un _ _ _ _ rfl rfl),trivial⟩ ?_
        refine pt_then ?_
        refine ht_cond _ rfl (fun hb268 => ?_) (fun hb268 => ?_)
        ·have h := cond_t hb268 h
         refine ht_seq ?_
         refine zh hn [_, _, _, _, _, (2, .v (.bool false))] [0,1,2,3,4] [1,5] [zq [] 5 2] [(_,_),(_,_)] (by kernel_rfl) rfl rfl ⟨za rfl rfl rfl,trivial⟩ ?_
         refine pt_then ?_
         refine ht_ret ?_
         refine pt_pick [1] (by kernel_rfl) (es' := [(_, _)]) rfl ?_
         refine pt_r_in ?_
         refine pt_r_then ?_
         refine pt_r_then ?_
         refine pt_r_in ?_
         refine pt_r_then ?_
         have h := hr263 _ (ho264 _ (Option.some.inj h).symm).symm
         obtain rfl := Option.some.inj h
         exact pt_ret hio rfl (.tmp _ _ .nil) rfl rfl
        ·have h := cond_f hb268 h
         refine ht_skip ?_
         refine pt_inb ?_
         refine pt_then ?_
         obtain ⟨v254, hv254, h⟩ := bind_some h
         refine zh hn [_, _, _, _, _, (120, .v (.int .i64 s258)), (121, .v (.int .i64 v254)), (10, .v (.int .i64 v254))] [0,1,2,3,4] [0,1,2,7] [zq [3] 5 120, zq [5] 6 121, ⟨[6], [3], [7], [(.slot 10)]⟩] [(_,_),(_,_),(_,_),(_,_)] (by kernel_rfl) rfl rfl ⟨zm rfl rfl rfl,zp rfl (op_bin _ _ _ _ _ rfl rfl (ibind (f := Value.int .i64) (Option.some.inj hv254))),zp rfl (LOp.drop [_] (op_assign _ _ _ _ rfl rfl)),trivial⟩ ?_
         exact pt_next _ (Option.some.inj h).symm rfl
       ·have h := cond_f hb267 h
        refine ht_exit ?_
        refine pt_x_then ?_
        refine pt_x_then ?_
        refine pt_x_in ?_
        refine pt_pick [1] (by kernel_rfl) (es' := [(_, _)]) rfl ?_
        exact hl262 _ (ho264 _ (Option.some.inj h).symm).symm
    ·intro u243 h hl244 hr245
     obtain ⟨v239, hv239, h⟩ := bind_some h
     refine cond_some h (fun hg20_3 h => ?_) (fun hg20_3 h => ?_)
     ·refine zh hn (_ :: _ :: _ :: _ :: _ :: _ :: _ :: (94, .fl (.own 5) 1 (List.map (Value.int .u8) s181)) :: (95, .v (.int .i64 v239)) :: (96, .v (.bool (v239 != 0))) :: (97, .v (.bool true)) :: (98, .v undef) :: (99, .v undef) :: (100, .v (.bool true)) :: (101, .v (.bool true)) :: (102, .v undef) :: (103, .v undef) :: (104, .v undef) :: (105, .v undef) :: (106, .v undef) :: (107, .v (.bool true)) :: (108, .v (.bool true)) :: (109, .v undef) :: (110, .v undef) :: (111, .v undef) :: (112, .v undef) :: (113, .v undef) :: (114, .v undef) :: (115, .v (.bool true)) :: []) [0,1,2,3,4,5,6] [0,1,4,28] (⟨[], [2], [7], [(.slot 94)]⟩ :: zq [7,1] 8 95 :: zq [8] 9 96 :: zq [9] 10 97 :: zq [10] 11 98 :: zq [10] 12 99 :: zq [10] 13 100 :: zq [13] 14 101 :: zq [14] 15 102 :: zq [14] 16 103 :: zq [14] 17 104 :: zq [14] 18 105 :: zq [14] 19 106 :: zq [14] 20 107 :: zq [20] 21 108 :: zq [21] 22 109 :: zq [21] 23 110 :: zq [21] 24 111 :: zq [21] 25 112 :: zq [21] 26 113 :: zq [21] 27 114 :: zq [21] 28 115 :: []) [(_,_),(_,_),(_,_),(_,_)] (by kernel_rfl) rfl rfl ⟨zp rfl (op_move_take _ _ _ _ rfl),zp rfl (op_callG _ _ 133 17 _ _ rfl Tryd.call17 rfl rfl (fun _ h => h) (ok_dots_Check mx s181 _ hv239) rfl rfl),zo rfl rfl rfl rfl,zm rfl (zb hg20_3) rfl,zs 3 false rfl rfl rfl rfl,zs 3 false rfl rfl rfl rfl,zk true rfl rfl rfl,zm rfl rfl rfl,zs 7 false rfl rfl rfl rfl,zs 7 false rfl rfl rfl rfl,zs 7 false rfl rfl rfl rfl,zs 7 false rfl rfl rfl rfl,zs 7 false rfl rfl rfl rfl,zk true rfl rfl rfl,zm rfl rfl rfl,zs 14 false rfl rfl rfl rfl,zs 14 false rfl rfl rfl rfl,zs 14 false rfl rfl rfl rfl,zs 14 false rfl rfl rfl rfl,zs 14 false rfl rfl rfl rfl,zs 14 false rfl rfl rfl rfl,zk true rfl rfl rfl,trivial⟩ ?_
      exact hl244 _ (Option.some.inj h).symm
     ·refine cond_some h (fun hg20_7 h => ?_) (fun hg20_7 h => ?_)
      ·refine zh hn (_ :: _ :: _ :: _ :: _ :: _ :: _ :: (94, .fl (.own 5) 1 (List.map (Value.int .u8) s181)) :: (95, .v (.int .i64 v239)) :: (96, .v (.bool (v239 != 0))) :: (97, .v (.bool false)) :: (98, .v (.int .i64 v238.2)) :: (99, .v (.bool (v238.2 != 0))) :: (100, .v (.bool (v238.2 != 0))) :: (101, .v (.bool true)) :: (102, .v undef) :: (103, .v undef) :: (104, .v undef) :: (105, .v undef) :: (106, .v undef) :: (107, .v (.bool true)) :: (108, .v (.bool true)) :: (109, .v undef) :: (110, .v undef) :: (111, .v undef) :: (112, .v undef) :: (113, .v undef) :: (114, .v undef) :: (115, .v (.bool true)) :: []) [0,1,2,3,4,5,6] [0,1,4,28] (⟨[], [2], [7], [(.slot 94)]⟩ :: zq [7,1] 8 95 :: zq [8] 9 96 :: zq [9] 10 97 :: zq [10,6] 11 98 :: zq [10,11] 12 99 :: zq [10,12] 13 100 :: zq [13] 14 101 :: zq [14] 15 102 :: zq [14] 16 103 :: zq [14] 17 104 :: zq [14] 18 105 :: zq [14] 19 106 :: zq [14] 20 107 :: zq [20] 21 108 :: zq [21] 22 109 :: zq [21] 23 110 :: zq [21] 24 111 :: zq [21] 25 112 :: zq [21] 26 113 :: zq [21] 27 114 :: zq [21] 28 115 :: []) [(_,_),(_,_),(_,_),(_,_)] (by kernel_rfl) rfl rfl ⟨zp rfl (op_move_take _ _ _ _ rfl),zp rfl (op_callG _ _ 133 17 _ _ rfl Tryd.call17 rfl rfl (fun _ h => h) (ok_dots_Check mx s181 _ hv239) rfl rfl),zo rfl rfl rfl rfl,zm rfl (zb hg20_3) rfl,zr 3 rfl rfl rfl (op_move _ _ _ _ rfl rfl),zr 3 rfl rfl rfl (op_bin _ _ _ _ _ rfl rfl rfl),zk false rfl rfl rfl,zm rfl (zb hg20_7) rfl,zs 7 false rfl rfl rfl rfl,zs 7 false rfl rfl rfl rfl,zs 7 false rfl rfl rfl rfl,zs 7 false rfl rfl rfl rfl,zs 7 false rfl rfl rfl rfl,zk true rfl rfl rfl,zm rfl rfl rfl,zs 14 false rfl rfl rfl rfl,zs 14 false rfl rfl rfl rfl,zs 14 false rfl rfl rfl rfl,zs 14 false rfl rfl rfl rfl,zs 14 false rfl rfl rfl rfl,zs 14 false rfl rfl rfl rfl,zk true rfl rfl rfl,trivial⟩ ?_
       exact hl244 _ (Option.some.inj h).symm
      ·refine cond_some h (fun hg20_14 h => ?_) (fun hg20_14 h => ?_)
       ·refine zh hn (_ :: _ :: _ :: _ :: _ :: _ :: _ :: (94, .fl (.own 5) 1 (List.map (Value.int .u8) s181)) :: (95, .v (.int .i64 v239)) :: (96, .v (.bool (v239 != 0))) :: (97, .v (.bool false)) :: (98, .v (.int .i64 v238.2)) :: (99, .v (.bool (v238.2 != 0))) :: (100, .v (.bool (v238.2 != 0))) :: (101, .v (.bool false)) :: (102, .fr .ro false 1 (List.flatten (List.map Row_int_u8.ienc v237))) :: (103, .v (.int .i64 (v237.length : Int))) :: (104, .fr .shr true 1 (List.flatten (List.map Row_int_u8.ienc l))) :: (105, .v (.int .i64 (l.length : Int))) :: (106, .v (.bool (((v237.length : Int) != (l.length : Int))))) :: (107, .v (.bool (((v237.length : Int) != (l.length : Int))))) :: (108, .v (.bool true)) :: (109, .v undef) :: (110, .v undef) :: (111, .v undef) :: (112, .v undef) :: (113, .v undef) :: (114, .v undef) :: (115, .v (.bool true)) :: []) [0,1,2,3,4,5,6] [0,1,4,28] (⟨[], [2], [7], [(.slot 94)]⟩ :: zq [7,1] 8 95 :: zq [8] 9 96 :: zq [9] 10 97 :: zq [10,6] 11 98 :: zq [10,11] 12 99 :: zq [10,12] 13 100 :: zq [13] 14 101 :: zq [14,4] 15 102 :: zq [14,15] 16 103 :: zq [14,0] 17 104 :: zq [14,17] 18 105 :: zq [14,16,18] 19 106 :: zq [14,19] 20 107 :: zq [20] 21 108 :: zq [21] 22 109 :: zq [21] 23 110 :: zq [21] 24 111 :: zq [21] 25 112 :: zq [21] 26 113 :: zq [21] 27 114 :: zq [21] 28 115 :: []) [(_,_),(_,_),(_,_),(_,_)] (by kernel_rfl) rfl rfl ⟨zp rfl (op_move_take _ _ _ _ rfl),zp rfl (op_callG _ _ 133 17 _ _ rfl Tryd.call17 rfl rfl (fun _ h => h) (ok_dots_Check mx s181 _ hv239) rfl rfl),zo rfl rfl rfl rfl,zm rfl (zb hg20_3) rfl,zr 3 rfl rfl rfl (op_move _ _ _ _ rfl rfl),zr 3 rfl rfl rfl (op_bin _ _ _ _ _ rfl rfl rfl),zk false rfl rfl rfl,zm rfl (zb hg20_7) rfl,zr 7 rfl rfl rfl (op_move _ _ _ _ rfl rfl),zr 7 rfl rfl rfl (op_len_fr _ _ _ Tryd.underlying29 rfl (by decide) (gflat_len Row_int_u8.ilen _)),zr 7 rfl rfl rfl (op_move _ _ _ _ rfl rfl),zr 7 rfl rfl rfl (op_len_fr _ _ _ Tryd.underlying29 rfl (by decide) (gflat_len Row_int_u8.ilen _)),zr 7 rfl rfl rfl (op_bin _ _ _ _ _ rfl rfl rfl),zk false rfl rfl rfl,zm rfl (zb hg20_14) rfl,zs 14 false rfl rfl rfl rfl,zs 14 false rfl rfl rfl rfl,zs 14 false rfl rfl rfl rfl,zs 14 false rfl rfl rfl rfl,zs 14 false rfl rfl rfl rfl,zs 14 false rfl rfl rfl rfl,zk true rfl rfl rfl,trivial⟩ ?_
        exact hl244 _ (Option.some.inj h).symm
       ·obtain ⟨v240, hv240, h⟩ := bind_some h
        obtain ⟨v241, hv241, h⟩ := bind_some h
        refine zh hn (_ :: _ :: _ :: _ :: _ :: _ :: _ :: (94, .fl (.own 5) 1 (List.map (Value.int .u8) s181)) :: (95, .v (.int .i64 v239)) :: (96, .v (.bool (v239 != 0))) :: (97, .v (.bool false)) :: (98, .v (.int .i64 v238.2)) :: (99, .v (.bool (v238.2 != 0))) :: (100, .v (.bool (v238.2 != 0))) :: (101, .v (.bool false)) :: (102, .fr .ro false 1 (List.flatten (List.map Row_int_u8.ienc v237))) :: (103, .v (.int .i64 (v237.length : Int))) :: (104, .fr .shr true 1 (List.flatten (List.map Row_int_u8.ienc l))) :: (105, .v (.int .i64 (l.length : Int))) :: (106, .v (.bool (((v237.length : Int) != (l.length : Int))))) :: (107, .v (.bool (((v237.length : Int) != (l.length : Int))))) :: (108, .v (.bool false)) :: (109, .fl (.own 5) 1 (List.map (Value.int .u8) v238.1)) :: (110, .fl (.own 5) 1 (List.map (Value.int .u8) s182)) :: (111, .fl (.own 5) 1 (List.map (Value.int .u8) [46, 13, 10])) :: (112, .fl (.own 5) 1 (List.map (Value.int .u8) v240)) :: (110, .any) :: (113, .v (.bool v241)) :: (114, .v (.bool (!v241))) :: (115, .v (.bool (!v241))) :: []) [0,1,2,3,4,5,6] [0,1,4,29] (⟨[], [2], [7], [(.slot 94)]⟩ :: zq [7,1] 8 95 :: zq [8] 9 96 :: zq [9] 10 97 :: zq [10,6] 11 98 :: zq [10,11] 12 99 :: zq [10,12] 13 100 :: zq [13] 14 101 :: zq [14,4] 15 102 :: zq [14,15] 16 103 :: zq [14,0] 17 104 :: zq [14,17] 18 105 :: zq [14,16,18] 19 106 :: zq [14,19] 20 107 :: zq [20] 21 108 :: ⟨[21], [5], [22], [(.slot 109)]⟩ :: ⟨[21], [3], [23], [(.slot 110)]⟩ :: zq [21] 24 111 :: ⟨[21, 24], [23], [26, 25], [(.slot 112)]⟩ :: zq [21,22,25] 27 113 :: zq [21,27] 28 114 :: zq [21,28] 29 115 :: []) [(_,_),(_,_),(_,_),(_,_)] (by kernel_rfl) rfl rfl ⟨zp rfl (op_move_take _ _ _ _ rfl),zp rfl (op_callG _ _ 133 17 _ _ rfl Tryd.call17 rfl rfl (fun _ h => h) (ok_dots_Check mx s181 _ hv239) rfl rfl),zo rfl rfl rfl rfl,zm rfl (zb hg20_3) rfl,zr 3 rfl rfl rfl (op_move _ _ _ _ rfl rfl),zr 3 rfl rfl rfl (op_bin _ _ _ _ _ rfl rfl rfl),zk false rfl rfl rfl,zm rfl (zb hg20_7) rfl,zr 7 rfl rfl rfl (op_move _ _ _ _ rfl rfl),zr 7 rfl rfl rfl (op_len_fr _ _ _ Tryd.underlying29 rfl (by decide) (gflat_len Row_int_u8.ilen _)),zr 7 rfl rfl rfl (op_move _ _ _ _ rfl rfl),zr 7 rfl rfl rfl (op_len_fr _ _ _ Tryd.underlying29 rfl (by decide) (gflat_len Row_int_u8.ilen _)),zr 7 rfl rfl rfl (op_bin _ _ _ _ _ rfl rfl rfl),zk false rfl rfl rfl,zm rfl (zb hg20_14) rfl,zr 14 rfl rfl rfl (op_move_take _ _ _ _ rfl),zr 14 rfl rfl rfl (op_move_take _ _ _ _ rfl),zr 14 rfl rfl rfl (op_buildSlice _ _ 1 (.int .u8 0) (List.map (Value.int .u8) [46, 13, 10]) [(0, .int .u8 46), (1, .int .u8 13), (2, .int .u8 10)] Tryd.underlying22 sz5 zr5 (fun _ V w o a hv hes => by simp only [List.map_toArray, List.map_cons, List.map_nil]; try rfl) (litfill (by simp [Instr.fill, Value.cells]; rfl) (by simp [List.range, List.range.loop] <;> rfl)) (by simp [Value.oneCell']) rfl (by decide) (by decide) (by decide)),zr 14 rfl rfl rfl (op_app _ _ _ _ _ el22 rfl rfl (map_len _) (map_len _) hv240 ((List.map_append).symm.trans (congrArg (List.map _) (app_eq hv240)))),zr 14 rfl rfl rfl (op_call _ _ 18 _ _ rfl Tryd.call18 rfl (ok_wherrykeep_Bytes v238.1 v240 _ hv241) rfl rfl),zr 14 rfl rfl rfl (op_un _ _ _ _ rfl rfl),zk false rfl rfl rfl,trivial⟩ ?_
        exact hl244 _ (Option.some.inj h).symm
   ·rintro u183 hl184 hr185 ⟨s130, s131, s132⟩ rr188 h ho186
    refine ht_seq ?_
    refine ht_seq ?_
    refine zh hn [_, _, _, _, _, (14, .v (.int .i64 s132)), (15, .fr .shr true 1 (List.flatten (List.map Row_int_u8.ienc l))), (16, .v (.int .i64 (l.length : Int))), (17, .v (.bool ((decide (s132 < (l.length : Int))))))] [0,1,2,3,4] [0,1,2,3,4,8] [zq [4] 5 14, zq [0] 6 15, zq [6] 7 16, zq [5,7] 8 17] [(_,_),(_,_),(_,_),(_,_),(_,_),(_,_)] (by kernel_rfl) rfl rfl ⟨zm rfl rfl rfl,zm rfl rfl rfl,zp rfl (op_len_fr _ _ _ Tryd.underlying29 rfl (by decide) (gflat_len Row_int_u8.ilen _)),zo rfl rfl rfl rfl,trivial⟩ ?_
    refine pt_then ?_
    refine ht_cond _ rfl (fun hb189 => ?_) (fun hb189 => ?_)
    ·have h := cond_t hb189 h
     refine ht_skip ?_
     refine pt_then ?_
     refine ht_seq ?_
     refine ht_block ?_
     refine ht_seq ?_
     refine ht_seq ?_
     obtain ⟨v3, hv3, h⟩ := bind_some h
     obtain ⟨v4, hv4, h⟩ := bind_some h
     refine zh hn [_, _, _, _, _, _, (20, .fr .shr true 1 (List.flatten (List.map Row_int_u8.ienc l))), (21, .v (.int .i64 s132)), (22, .eref (.slot 20) (v3 * 1)), (23, .fl .shr 1 (List.map (Value.int .u8) v4)), (24, .v (.int .i64 (v4.length : Int))), (25, .v (.bool ((decide (60 < (v4.length : Int))))))] [0,1,2,3,4,5] [0,1,2,3,4,11] [zq [0] 6 20, zq [4] 7 21, zq [6,7] 8 22, zq [8,6] 9 23, zq [9] 10 24, zq [10] 11 25] [(_,_),(_,_),(_,_),(_,_),(_,_),(_,_)] (by kernel_rfl) rfl rfl ⟨zm rfl rfl rfl,zm rfl rfl rfl,zp rfl (op_ix_fr _ _ _ _ _ _ _ _ Tryd.underlying29 sz22 (by decide) rfl rfl rfl (ix_ok hv3).1 (gflat_lt Row_int_u8.ilen (ix_ok hv3).2) rfl),zp rfl (op_load_fr _ _ _ _ _ _ _ Tryd.underlying22 rfl rfl rfl (gflat_cell0 Row_int_u8.ilen hv4 rfl) (.fl _ _ rfl)),zp rfl (op_len_fl _ _ _ Tryd.underlying22 rfl (by decide) (map_len _)),zo rfl rfl rfl rfl,trivial⟩ ?_
     refine pt_then ?_
     refine ht_cond _ rfl (fun hb190 => ?_) (fun hb190 => ?_)
     ·have h := cond_t hb190 h
      refine ht_seq ?_
      refine zh hn [_, _, _, _, _, _, (2, .v (.bool true))] [0,1,2,3,4,5] [1,6] [zq [] 6 2] [(_,_),(_,_)] (by kernel_rfl) rfl rfl ⟨za rfl rfl rfl,trivial⟩ ?_
      refine pt_then ?_
      refine ht_ret ?_
      refine pt_pick [1] (by kernel_rfl) (es' := [(_, _)]) rfl ?_
      refine pt_r_then ?_
      refine pt_r_in ?_
      refine pt_r_then ?_
      refine pt_r_then ?_
      refine pt_r_in ?_
      refine pt_r_then ?_
      have h := hr185 _ (ho186 _ (Option.some.inj h).symm).symm
      obtain rfl := Option.some.inj h
      exact pt_ret hio rfl (.tmp _ _ .nil) rfl rfl
     ·have h := cond_f hb190 h
      refine ht_skip ?_
      refine pt_then ?_
      refine ht_seq ?_
      refine ht_seq ?_
      refine zh hn [_, _, _, _, _, _, (6, .v (.int .i64 0))] [0,1,2,3,4,5] [0,1,2,3,4,6] [zq [] 6 6] [(_,_),(_,_),(_,_),(_,_),(_,_),(_,_)] (by kernel_rfl) rfl rfl ⟨za rfl rfl rfl,trivial⟩ ?_
      refine pt_then ?_
      refine ht_loopS h (fun (s204 : Int) => [(0, .fr .shr true 1 (List.flatten (List.map Row_int_u8.ienc l))), (133, .glob (GL mx)), (3, .fl (.own 5) 1 (List.map (Value.int .u8) s130)), (4, .fl (.own 5) 1 (List.map (Value.int .u8) s131)), (5, .v (.int .i64 s132)), (6, .v (.int .i64 s204))]) (fun (() : Unit) => [(0, .fr .shr true 1 (List.flatten (List.map Row_int_u8.ienc l))), (133, .glob (GL mx)), (3, .fl (.own 5) 1 (List.map (Value.int .u8) s130)), (4, .fl (.own 5) 1 (List.map (Value.int .u8) s131)), (5, .v (.int .i64 s132))]) ?_ ?_
      ·rintro ⟨⟩ h
       refine pt_then ?_
       refine ht_seq ?_
       obtain ⟨v49, hv49, h⟩ := bind_some h
       obtain ⟨v50, hv50, h⟩ := bind_some h
       obtain ⟨v51, hv51, h⟩ := bind_some h
       obtain ⟨v52, hv52, h⟩ := bind_some h
       refine zh hn (_ :: _ :: _ :: _ :: _ :: (53, .fl (.own 5) 1 (List.map (Value.int .u8) s130)) :: (54, .fr .shr true 1 (List.flatten (List.map Row_int_u8.ienc l))) :: (55, .v (.int .i64 s132)) :: (56, .eref (.slot 54) (v49 * 1)) :: (57, .fl .shr 1 (List.map (Value.int .u8) v50)) :: (58, .fl (.own 5) 1 (List.map (Value.int .u8) v51)) :: (53, .any) :: (59, .fl (.own 5) 1 (List.map (Value.int .u8) [13, 10])) :: (60, .fl (.own 5) 1 (List.map (Value.int .u8) v52)) :: (58, .any) :: (3, .fl (.own 5) 1 (List.map (Value.int .u8) v52)) :: []) [0,1,2,3,4] [0,1,3,4,15] [⟨[], [2], [5], [(.slot 53)]⟩, zq [0] 6 54, zq [4] 7 55, zq [6,7] 8 56, zq [8,6] 9 57, ⟨[9], [5], [11, 10], [(.slot 58)]⟩, zq [] 12 59, ⟨[12], [10], [14, 13], [(.slot 60)]⟩, ⟨[], [13], [15], [(.slot 3)]⟩] [(_,_),(_,_),(_,_),(_,_),(_,_)] (by kernel_rfl) rfl rfl ⟨zp rfl (op_move_take _ _ _ _ rfl),zm rfl rfl rfl,zm rfl rfl rfl,zp rfl (op_ix_fr _ _ _ _ _ _ _ _ Tryd.underlying29 sz22 (by decide) rfl rfl rfl (ix_ok hv49).1 (gflat_lt Row_int_u8.ilen (ix_ok hv49).2) rfl),zp rfl (op_load_fr _ _ _ _ _ _ _ Tryd.underlying22 rfl rfl rfl (gflat_cell0 Row_int_u8.ilen hv50 rfl) (.fl _ _ rfl)),zp rfl (op_app _ _ _ _ _ el22 rfl rfl (map_len _) (map_len _) hv51 ((List.map_append).symm.trans (congrArg (List.map _) (app_eq hv51)))),zp rfl (op_buildSlice _ _ 1 (.int .u8 0) (List.map (Value.int .u8) [13, 10]) [(0, .int .u8 13), (1, .int .u8 10)] Tryd.underlying22 sz5 zr5 (fun _ V w o a hv hes => by simp only [List.map_toArray, List.map_cons, List.map_nil]; try rfl) (litfill (by simp [Instr.fill, Value.cells]; rfl) (by simp [List.range, List.range.loop] <;> rfl)) (by simp [Value.oneCell']) rfl (by decide) (by decide) (by decide)),zp rfl (op_app _ _ _ _ _ el22 rfl rfl (map_len _) (map_len _) hv52 ((List.map_append).symm.trans (congrArg (List.map _) (app_eq hv52)))),zp rfl (op_assign_take _ _ _ _ rfl),trivial⟩ ?_
       refine pt_then ?_
       refine ht_seq ?_
       refine ht_joinS h (fun (s228 : (List Int)) => [(0, .fr .shr true 1 (List.flatten (List.map Row_int_u8.ienc l))), (133, .glob (GL mx)), (5, .v (.int .i64 s132)), (3, .fl (.own 5) 1 (List.map (Value.int .u8) v52)), (4, .fl (.own 5) 1 (List.map (Value.int .u8) s228))]) ?_ ?_
       ·rintro s228 h
        refine pt_then ?_
        obtain ⟨v74, hv74, h⟩ := bind_some h
        obtain ⟨v75, hv75, h⟩ := bind_some h
        obtain ⟨v76, hv76, h⟩ := bind_some h
        obtain ⟨v77, hv77, h⟩ := bind_some h
        refine zh hn (_ :: _ :: _ :: _ :: _ :: (79, .fl (.own 5) 1 (List.map (Value.int .u8) s228)) :: (80, .fr .shr true 1 (List.flatten (List.map Row_int_u8.ienc l))) :: (81, .v (.int .i64 s132)) :: (82, .eref (.slot 80) (v74 * 1)) :: (83, .fl .shr 1 (List.map (Value.int .u8) v75)) :: (84, .fl (.own 5) 1 (List.map (Value.int .u8) v76)) :: (79, .any) :: (85, .fl (.own 5) 1 (List.map (Value.int .u8) [13, 10])) :: (86, .fl (.own 5) 1 (List.map (Value.int .u8) v77)) :: (84, .any) :: (4, .fl (.own 5) 1 (List.map (Value.int .u8) v77)) :: []) [0,1,2,3,4] [0,1,2,3,15] [⟨[], [4], [5], [(.slot 79)]⟩, zq [0] 6 80, zq [2] 7 81, zq [6,7] 8 82, zq [8,6] 9 83, ⟨[9], [5], [11, 10], [(.slot 84)]⟩, zq [] 12 85, ⟨[12], [10], [14, 13], [(.slot 86)]⟩, ⟨[], [13], [15], [(.slot 4)]⟩] [(_,_),(_,_),(_,_),(_,_),(_,_)] (by kernel_rfl) rfl rfl ⟨zp rfl (op_move_take _ _ _ _ rfl),zm rfl rfl rfl,zm rfl rfl rfl,zp rfl (op_ix_fr _ _ _ _ _ _ _ _ Tryd.underlying29 sz22 (by decide) rfl rfl rfl (ix_ok hv74).1 (gflat_lt Row_int_u8.ilen (ix_ok hv74).2) rfl),zp rfl (op_load_fr _ _ _ _ _ _ _ Tryd.underlying22 rfl rfl rfl (gflat_cell0 Row_int_u8.ilen hv75 rfl) (.fl _ _ rfl)),zp rfl (op_app _ _ _ _ _ el22 rfl rfl (map_len _) (map_len _) hv76 ((List.map_append).symm.trans (congrArg (List.map _) (app_eq hv76)))),zp rfl (op_buildSlice _ _ 1 (.int .u8 0) (List.map (Value.int .u8) [13, 10]) [(0, .int .u8 13), (1, .int .u8 10)] Tryd.underlying22 sz5 zr5 (fun _ V w o a hv hes => by simp only [List.map_toArray, List.map_cons, List.map_nil]; try rfl) (litfill (by simp [Instr.fill, Value.cells]; rfl) (by simp [List.range, List.range.loop] <;> rfl)) (by simp [Value.oneCell']) rfl (by decide) (by decide) (by decide)),zp rfl (op_app _ _ _ _ _ el22 rfl rfl (map_len _) (map_len _) hv77 ((List.map_append).symm.trans (congrArg (List.map _) (app_eq hv77)))),zp rfl (op_assign_take _ _ _ _ rfl),trivial⟩ ?_
        refine pt_inb ?_
        refine pt_then ?_
        obtain ⟨v78, hv78, h⟩ := bind_some h
        refine zh hn [_, _, _, _, _, (18, .v (.int .i64 s132)), (19, .v (.int .i64 v78)), (5, .v (.int .i64 v78))] [0,1,2,3,4] [0,1,3,4,7] [zq [2] 5 18, zq [5] 6 19, ⟨[6], [2], [7], [(.slot 5)]⟩] [(_,_),(_,_),(_,_),(_,_),(_,_)] (by kernel_rfl) rfl rfl ⟨zm rfl rfl rfl,zp rfl (op_bin _ _ _ _ _ rfl rfl (ibind (f := Value.int .i64) (Option.some.inj hv78))),zp rfl (LOp.drop [_] (op_assign _ _ _ _ rfl rfl)),trivial⟩ ?_
        exact pt_next _ (Option.some.inj h).symm rfl
       ·intro u229 h hl230 hr231
        refine ht_seq ?_
        refine ht_joinS h (fun (s232 : Bool) => [(0, .fr .shr true 1 (List.flatten (List.map Row_int_u8.ienc l))), (133, .glob (GL mx)), (4, .fl (.own 5) 1 (List.map (Value.int .u8) s131)), (5, .v (.int .i64 s132)), (3, .fl (.own 5) 1 (List.map (Value.int .u8) v52)), (75, .v (.bool s232))]) ?_ ?_
        ·rintro s232 h
         refine pt_then ?_
         refine ht_cond _ rfl (fun hb236 => ?_) (fun hb236 => ?_)
         ·have h := cond_t hb236 h
          obtain ⟨v64, hv64, h⟩ := bind_some h
          refine zh hn [_, _, _, _, _, _, (76, .fl (.own 5) 1 (List.map (Value.int .u8) s131)), (77, .fl (.own 5) 1 (List.map (Value.int .u8) [46])), (78, .fl (.own 5) 1 (List.map (Value.int .u8) v64)), (76, .any), (4, .fl (.own 5) 1 (List.map (Value.int .u8) v64))] [0,1,2,3,4,5] [0,1,3,4,10] [⟨[], [2], [6], [(.slot 76)]⟩, zq [] 7 77, ⟨[7], [6], [9, 8], [(.slot 78)]⟩, ⟨[], [8], [10], [(.slot 4)]⟩] [(_,_),(_,_),(_,_),(_,_),(_,_)] (by kernel_rfl) rfl rfl ⟨zp rfl (op_move_take _ _ _ _ rfl),zp rfl (op_buildSlice _ _ 1 (.int .u8 0) (List.map (Value.int .u8) [46]) [(0, .int .u8 46)] Tryd.underlying22 sz5 zr5 (fun _ V w o a hv hes => by simp only [List.map_toArray, List.map_cons, List.map_nil]; try rfl) (litfill (by simp [Instr.fill, Value.cells]; rfl) (by simp [List.range, List.range.loop] <;> rfl)) (by simp [Value.oneCell']) rfl (by decide) (by decide) (by decide)),zp rfl (op_app _ _ _ _ _ el22 rfl rfl (map_len _) (map_len _) hv64 ((List.map_append).symm.trans (congrArg (List.map _) (app_eq hv64)))),zp rfl (op_assign_take _ _ _ _ rfl),trivial⟩ ?_
          exact hl230 _ (Option.some.inj h).symm
         ·have h := cond_f hb236 h
          refine ht_skip ?_
          refine pt_pick [0, 1, 3, 4, 2] (by kernel_rfl) (es' := [(_, _), (_, _), (_, _), (_, _), (_, _)]) rfl ?_
          exact hl230 _ (Option.some.inj h).symm
        ·intro u233 h hl234 hr235
         obtain ⟨v53, hv53, h⟩ := bind_some h
         obtain ⟨v54, hv54, h⟩ := bind_some h
         refine cond_some h (fun hg15_6 h => ?_) (fun hg15_6 h => ?_)
         ·obtain ⟨v55, hv55, h⟩ := bind_some h
          obtain ⟨v56, hv56, h⟩ := bind_some h
          obtain ⟨v57, hv57, h⟩ := bind_some h
          obtain ⟨v58, hv58, h⟩ := bind_some h
          refine zh hn (_ :: _ :: _ :: _ :: _ :: (61, .fr .shr true 1 (List.flatten (List.map Row_int_u8.ienc l))) :: (62, .v (.int .i64 s132)) :: (63, .eref (.slot 61) (v53 * 1)) :: (64, .fl .shr 1 (List.map (Value.int .u8) v54)) :: (65, .v (.int .i64 (v54.length : Int))) :: (66, .v (.bool ((decide (0 < (v54.length : Int)))))) :: (67, .v (.bool true)) :: (68, .fr .shr true 1 (List.flatten (List.map Row_int_u8.ienc l))) :: (69, .v (.int .i64 s132)) :: (70, .eref (.slot 68) (v55 * 1)) :: (71, .fl .shr 1 (List.map (Value.int .u8) v56)) :: (72, .eref (.slot 71) (v57 * 1)) :: (73, .v (.int .u8 v58)) :: (74, .v (.bool (v58 == 46))) :: (75, .v (.bool (v58 == 46))) :: []) [0,1,2,3,4] [0,1,2,3,4,19] (zq [0] 5 61 :: zq [3] 6 62 :: zq [5,6] 7 63 :: zq [7,5] 8 64 :: zq [8] 9 65 :: zq [9] 10 66 :: zq [10] 11 67 :: zq [11,0] 12 68 :: zq [11,3] 13 69 :: zq [11,12,13] 14 70 :: zq [11,14,12] 15 71 :: zq [11,15] 16 72 :: zq [11,16,15] 17 73 :: zq [11,17] 18 74 :: zq [11,18] 19 75 :: []) [(_,_),(_,_),(_,_),(_,_),(_,_),(_,_)] (by kernel_rfl) rfl rfl ⟨zm rfl rfl rfl,zm rfl rfl rfl,zp rfl (op_ix_fr _ _ _ _ _ _ _ _ Tryd.underlying29 sz22 (by decide) rfl rfl rfl (ix_ok hv53).1 (gflat_lt Row_int_u8.ilen (ix_ok hv53).2) rfl),zp rfl (op_load_fr _ _ _ _ _ _ _ Tryd.underlying22 rfl rfl rfl (gflat_cell0 Row_int_u8.ilen hv54 rfl) (.fl _ _ rfl)),zp rfl (op_len_fl _ _ _ Tryd.underlying22 rfl (by decide) (map_len _)),zo rfl rfl rfl rfl,zm rfl (zb hg15_6) rfl,zr 6 rfl rfl rfl (op_move _ _ _ _ rfl rfl),zr 6 rfl rfl rfl (op_move _ _ _ _ rfl rfl),zr 6 rfl rfl rfl (op_ix_fr _ _ _ _ _ _ _ _ Tryd.underlying29 sz22 (by decide) rfl rfl rfl (ix_ok hv55).1 (gflat_lt Row_int_u8.ilen (ix_ok hv55).2) rfl),zr 6 rfl rfl rfl (op_load_fr _ _ _ _ _ _ _ Tryd.underlying22 rfl rfl rfl (gflat_cell0 Row_int_u8.ilen hv56 rfl) (.fl _ _ rfl)),zr 6 rfl rfl rfl (op_ix _ _ _ _ _ _ _ _ Tryd.underlying22 sz5 (by decide) rfl rfl rfl (ix_ok hv57).1 (map_lt (ix_ok hv57).2) rfl),zr 6 rfl rfl rfl (op_load_e _ _ _ _ _ _ Tryd.underlying5 rfl rfl rfl (map_get hv58)),zr 6 rfl rfl rfl (op_bin _ _ _ _ _ rfl rfl rfl),zk true rfl rfl rfl,trivial⟩ ?_
          exact hl234 _ (Option.some.inj h).symm
         ·refine zh hn (_ :: _ :: _ :: _ :: _ :: (61, .fr .shr true 1 (List.flatten (List.map Row_int_u8.ienc l))) :: (62, .v (.int .i64 s132)) :: (63, .eref (.slot 61) (v53 * 1)) :: (64, .fl .shr 1 (List.map (Value.int .u8) v54)) :: (65, .v (.int .i64 (v54.length : Int))) :: (66, .v (.bool ((decide (0 < (v54.length : Int)))))) :: (67, .v (.bool false)) :: (68, .v undef) :: (69, .v undef) :: (70, .v undef) :: (71, .v undef) :: (72, .v undef) :: (73, .v undef) :: (74, .v undef) :: (75, .v (.bool false)) :: []) [0,1,2,3,4] [0,1,2,3,4,19] (zq [0] 5 61 :: zq [3] 6 62 :: zq [5,6] 7 63 :: zq [7,5] 8 64 :: zq [8] 9 65 :: zq [9] 10 66 :: zq [10] 11 67 :: zq [11] 12 68 :: zq [11] 13 69 :: zq [11] 14 70 :: zq [11] 15 71 :: zq [11] 16 72 :: zq [11] 17 73 :: zq [11] 18 74 :: zq [11] 19 75 :: []) [(_,_),(_,_),(_,_),(_,_),(_,_),(_,_)] (by kernel_rfl) rfl rfl ⟨zm rfl rfl rfl,zm rfl rfl rfl,zp rfl (op_ix_fr _ _ _ _ _ _ _ _ Tryd.underlying29 sz22 (by decide) rfl rfl rfl (ix_ok hv53).1 (gflat_lt Row_int_u8.ilen (ix_ok hv53).2) rfl),zp rfl (op_load_fr _ _ _ _ _ _ _ Tryd.underlying22 rfl rfl rfl (gflat_cell0 Row_int_u8.ilen hv54 rfl) (.fl _ _ rfl)),zp rfl (op_len_fl _ _ _ Tryd.underlying22 rfl (by decide) (map_len _)),zo rfl rfl rfl rfl,zm rfl (zb hg15_6) rfl,zs 6 true rfl rfl rfl rfl,zs 6 true rfl rfl rfl rfl,zs 6 true rfl rfl rfl rfl,zs 6 true rfl rfl rfl rfl,zs 6 true rfl rfl rfl rfl,zs 6 true rfl rfl rfl rfl,zs 6 true rfl rfl rfl rfl,zk false rfl rfl rfl,trivial⟩ ?_
          exact hl234 _ (Option.some.inj h).symm
      ·rintro u211 hl212 hr213 s204 rr216 h ho214
       refine ht_seq ?_
       refine ht_seq ?_
       obtain ⟨v6, hv6, h⟩ := bind_some h
       obtain ⟨v7, hv7, h⟩ := bind_some h
       refine zh hn [_, _, _, _, _, _, (26, .v (.int .i64 s204)), (27, .fr .shr true 1 (List.flatten (List.map Row_int_u8.ienc l))), (28, .v (.int .i64 s132)), (29, .eref (.slot 27) (v6 * 1)), (30, .fl .shr 1 (List.map (Value.int .u8) v7)), (31, .v (.int .i64 (v7.length : Int))), (32, .v (.bool ((decide (s204 < (v7.length : Int))))))] [0,1,2,3,4,5] [0,1,2,3,4,5,12] [zq [5] 6 26, zq [0] 7 27, zq [4] 8 28, zq [7,8] 9 29, zq [9,7] 10 30, zq [10] 11 31, zq [6,11] 12 32] [(_,_),(_,_),(_,_),(_,_),(_,_),(_,_),(_,_)] (by kernel_rfl) rfl rfl ⟨zm rfl rfl rfl,zm rfl rfl rfl,zm rfl rfl rfl,zp rfl (op_ix_fr _ _ _ _ _ _ _ _ Tryd.underlying29 sz22 (by decide) rfl rfl rfl (ix_ok hv6).1 (gflat_lt Row_int_u8.ilen (ix_ok hv6).2) rfl),zp rfl (op_load_fr _ _ _ _ _ _ _ Tryd.underlying22 rfl rfl rfl (gflat_cell0 Row_int_u8.ilen hv7 rfl) (.fl _ _ rfl)),zp rfl (op_len_fl _ _ _ Tryd.underlying22 rfl (by decide) (map_len _)),zo rfl rfl rfl rfl,trivial⟩ ?_
       refine pt_then ?_
       refine ht_cond _ rfl (fun hb217 => ?_) (fun hb217 => ?_)
       ·have h := cond_t hb217 h
        refine ht_skip ?_
        refine pt_then ?_
        refine ht_seq ?_
        refine ht_block ?_
        refine ht_seq ?_
        refine ht_joinS h (fun (s218 : Bool) => [(0, .fr .shr true 1 (List.flatten (List.map Row_int_u8.ienc l))), (133, .glob (GL mx)), (3, .fl (.own 5) 1 (List.map (Value.int .u8) s130)), (4, .fl (.own 5) 1 (List.map (Value.int .u8) s131)), (5, .v (.int .i64 s132)), (6, .v (.int .i64 s204)), (52, .v (.bool s218))]) ?_ ?_
        ·rintro s218 h
         refine pt_then ?_
         refine ht_cond _ rfl (fun hb222 => ?_) (fun hb222 => ?_)
         ·have h := cond_t hb222 h
          refine ht_seq ?_
          refine zh hn [_, _, _, _, _, _, _, (2, .v (.bool true))] [0,1,2,3,4,5,6] [1,7] [zq [] 7 2] [(_,_),(_,_)] (by kernel_rfl) rfl rfl ⟨za rfl rfl rfl,trivial⟩ ?_
          refine pt_then ?_
          refine ht_ret ?_
          refine pt_pick [1] (by kernel_rfl) (es' := [(_, _)]) rfl ?_
          refine pt_r_in ?_
          refine pt_r_then ?_
          refine pt_r_then ?_
          refine pt_r_in ?_
          refine pt_r_then ?_
          refine pt_r_in ?_
          refine pt_r_then ?_
          refine pt_r_then ?_
          refine pt_r_in ?_
          refine pt_r_then ?_
          have h := hr213 _ (ho214 _ (Option.some.inj h).symm).symm
          have h := hr185 _ (ho186 _ (Option.some.inj h).symm).symm
          obtain rfl := Option.some.inj h
          exact pt_ret hio rfl (.tmp _ _ .nil) rfl rfl
         ·have h := cond_f hb222 h
          refine ht_skip ?_
          refine pt_inb ?_
          refine pt_then ?_
          obtain ⟨v22, hv22, h⟩ := bind_some h
          refine zh hn [_, _, _, _, _, _, _, (33, .v (.int .i64 s204)), (34, .v (.int .i64 v22)), (6, .v (.int .i64 v22))] [0,1,2,3,4,5,6] [0,1,2,3,4,9] [zq [5] 7 33, zq [7] 8 34, ⟨[8], [5], [9], [(.slot 6)]⟩] [(_,_),(_,_),(_,_),(_,_),(_,_),(_,_)] (by kernel_rfl) rfl rfl ⟨zm rfl rfl rfl,zp rfl (op_bin _ _ _ _ _ rfl rfl (ibind (f := Value.int .i64) (Option.some.inj hv22))),zp rfl (LOp.drop [_] (op_assign _ _ _ _ rfl rfl)),trivial⟩ ?_
          exact pt_next _ (Option.some.inj h).symm rfl
        ·intro u219 h hl220 hr221
         obtain ⟨v9, hv9, h⟩ := bind_some h
         obtain ⟨v10, hv10, h⟩ := bind_some h
         obtain ⟨v11, hv11, h⟩ := bind_some h
         obtain ⟨v12, hv12, h⟩ := bind_some h
         refine cond_some h (fun hg12_8 h => ?_) (fun hg12_8 h => ?_)
         ·refine zh hn (_ :: _ :: _ :: _ :: _ :: _ :: _ :: (35, .fr .shr true 1 (List.flatten (List.map Row_int_u8.ienc l))) :: (36, .v (.int .i64 s132)) :: (37, .eref (.slot 35) (v9 * 1)) :: (38, .fl .shr 1 (List.map (Value.int .u8) v10)) :: (39, .v (.int .i64 s204)) :: (40, .eref (.slot 38) (v11 * 1)) :: (41, .v (.int .u8 v12)) :: (42, .v (.bool (v12 == 13))) :: (43, .v (.bool true)) :: (44, .v undef) :: (45, .v undef) :: (46, .v undef) :: (47, .v undef) :: (48, .v undef) :: (49, .v undef) :: (50, .v undef) :: (51, .v undef) :: (52, .v (.bool true)) :: []) [0,1,2,3,4,5,6] [0,1,2,3,4,5,24] (zq [0] 7 35 :: zq [4] 8 36 :: zq [7,8] 9 37 :: zq [9,7] 10 38 :: zq [5] 11 39 :: zq [10,11] 12 40 :: zq [12,10] 13 41 :: zq [13] 14 42 :: zq [14] 15 43 :: zq [15] 16 44 :: zq [15] 17 45 :: zq [15] 18 46 :: zq [15] 19 47 :: zq [15] 20 48 :: zq [15] 21 49 :: zq [15] 22 50 :: zq [15] 23 51 :: zq [15] 24 52 :: []) [(_,_),(_,_),(_,_),(_,_),(_,_),(_,_),(_,_)] (by kernel_rfl) rfl rfl ⟨zm rfl rfl rfl,zm rfl rfl rfl,zp rfl (op_ix_fr _ _ _ _ _ _ _ _ Tryd.underlying29 sz22 (by decide) rfl rfl rfl (ix_ok hv9).1 (gflat_lt Row_int_u8.ilen (ix_ok hv9).2) rfl),zp rfl (op_load_fr _ _ _ _ _ _ _ Tryd.underlying22 rfl rfl rfl (gflat_cell0 Row_int_u8.ilen hv10 rfl) (.fl _ _ rfl)),zm rfl rfl rfl,zp rfl (op_ix _ _ _ _ _ _ _ _ Tryd.underlying22 sz5 (by decide) rfl rfl rfl (ix_ok hv11).1 (map_lt (ix_ok hv11).2) rfl),zp rfl (op_load_e _ _ _ _ _ _ Tryd.underlying5 rfl rfl rfl (map_get hv12)),zo rfl rfl rfl rfl,zm rfl (zb hg12_8) rfl,zs 8 false rfl rfl rfl rfl,zs 8 false rfl rfl rfl rfl,zs 8 false rfl rfl rfl rfl,zs 8 false rfl rfl rfl rfl,zs 8 false rfl rfl rfl rfl,zs 8 false rfl rfl rfl rfl,zs 8 false rfl rfl rfl rfl,zs 8 false rfl rfl rfl rfl,zk true rfl rfl rfl,trivial⟩ ?_
          exact hl220 _ (Option.some.inj h).symm
         ·obtain ⟨v13, hv13, h⟩ := bind_some h
          obtain ⟨v14, hv14, h⟩ := bind_some h
          obtain ⟨v15, hv15, h⟩ := bind_some h
          obtain ⟨v16, hv16, h⟩ := bind_some h
          refine zh hn (_ :: _ :: _ :: _ :: _ :: _ :: _ :: (35, .fr .shr true 1 (List.flatten (List.map Row_int_u8.ienc l))) :: (36, .v (.int .i64 s132)) :: (37, .eref (.slot 35) (v9 * 1)) :: (38, .fl .shr 1 (List.map (Value.int .u8) v10)) :: (39, .v (.int .i64 s204)) :: (40, .eref (.slot 38) (v11 * 1)) :: (41, .v (.int .u8 v12)) :: (42, .v (.bool (v12 == 13))) :: (43, .v (.bool false)) :: (44, .fr .shr true 1 (List.flatten (List.map Row_int_u8.ienc l))) :: (45, .v (.int .i64 s132)) :: (46, .eref (.slot 44) (v13 * 1)) :: (47, .fl .shr 1 (List.map (Value.int .u8) v14)) :: (48, .v (.int .i64 s204)) :: (49, .eref (.slot 47) (v15 * 1)) :: (50, .v (.int .u8 v16)) :: (51, .v (.bool (v16 == 10))) :: (52, .v (.bool (v16 == 10))) :: []) [0,1,2,3,4,5,6] [0,1,2,3,4,5,24] (zq [0] 7 35 :: zq [4] 8 36 :: zq [7,8] 9 37 :: zq [9,7] 10 38 :: zq [5] 11 39 :: zq [10,11] 12 40 :: zq [12,10] 13 41 :: zq [13] 14 42 :: zq [14] 15 43 :: zq [15,0] 16 44 :: zq [15,4] 17 45 :: zq [15,16,17] 18 46 :: zq [15,18,16] 19 47 :: zq [15,5] 20 48 :: zq [15,19,20] 21 49 :: zq [15,21,19] 22 50 :: zq [15,22] 23 51 :: zq [15,23] 24 52 :: []) [(_,_),(_,_),(_,_),(_,_),(_,_),(_,_),(_,_)] (by kernel_rfl) rfl rfl ⟨zm rfl rfl rfl,zm rfl rfl rfl,zp rfl (op_ix_fr _ _ _ _ _ _ _ _ Tryd.underlying29 sz22 (by decide) rfl rfl rfl (ix_ok hv9).1 (gflat_lt Row_int_u8.ilen (ix_ok hv9).2) rfl),zp rfl (op_load_fr _ _ _ _ _ _ _ Tryd.underlying22 rfl rfl rfl (gflat_cell0 Row_int_u8.ilen hv10 rfl) (.fl _ _ rfl)),zm rfl rfl rfl,zp rfl (op_ix _ _ _ _ _ _ _ _ Tryd.underlying22 sz5 (by decide) rfl rfl rfl (ix_ok hv11).1 (map_lt (ix_ok hv11).2) rfl),zp rfl (op_load_e _ _ _ _ _ _ Tryd.underlying5 rfl rfl rfl (map_get hv12)),zo rfl rfl rfl rfl,zm rfl (zb hg12_8) rfl,zr 8 rfl rfl rfl (op_move _ _ _ _ rfl rfl),zr 8 rfl rfl rfl (op_move _ _ _ _ rfl rfl),zr 8 rfl rfl rfl (op_ix_fr _ _ _ _ _ _ _ _ Tryd.underlying29 sz22 (by decide) rfl rfl rfl (ix_ok hv13).1 (gflat_lt Row_int_u8.ilen (ix_ok hv13).2) rfl),zr 8 rfl rfl rfl (op_load_fr _ _ _ _ _ _ _ Tryd.underlying22 rfl rfl rfl (gflat_cell0 Row_int_u8.ilen hv14 rfl) (.fl _ _ rfl)),zr 8 rfl rfl rfl (op_move _ _ _ _ rfl rfl),zr 8 rfl rfl rfl (op_ix _ _ _ _ _ _ _ _ Tryd.underlying22 sz5 (by decide) rfl rfl rfl (ix_ok hv15).1 (map_lt (ix_ok hv15).2) rfl),zr 8 rfl rfl rfl (op_load_e _ _ _ _ _ _ Tryd.underlying5 rfl rfl rfl (map_get hv16)),zr 8 rfl rfl rfl (op_bin _ _ _ _ _ rfl rfl rfl),zk false rfl rfl rfl,trivial⟩ ?_
          exact hl220 _ (Option.some.inj h).symm
       ·have h := cond_f hb217 h
        refine ht_exit ?_
        refine pt_x_then ?_
        refine pt_x_then ?_
        refine pt_x_in ?_
        refine pt_pick [0, 1, 2, 3, 4] (by kernel_rfl) (es' := [(_, _), (_, _), (_, _), (_, _), (_, _)]) rfl ?_
        exact hl212 _ (ho214 _ (Option.some.inj h).symm).symm
    ·have h := cond_f hb189 h
     refine ht_exit ?_
     refine pt_x_then ?_
     refine pt_x_then ?_
     refine pt_x_in ?_
     refine pt_pick [0, 1, 2, 3] (by kernel_rfl) (es' := [(_, _), (_, _), (_, _), (_, _)]) rfl ?_
     exact hl184 _ (ho186 _ (Option.some.inj h).symm).symm

end Go.Proofs.YtgonanjdmdlkjaaDoor
