/-
  The model's runs are what is told in Lean.
-/
import Derived.Test.YtofbofdggabfiaaDoorProg
import Derived.KernelRfl
import Derived.Test.YtofbofdggabfiaaDoorShelf
import Derived.Test.YtofbofdggabfiaaDoorB3
import Derived.Test.YtofbofdggabfiaaDoorOkc2
set_option linter.unusedVariables false
set_option linter.unusedSimpArgs false
set_option maxHeartbeats 1000000
namespace Go.Proofs.YtofbofdggabfiaaDoor
open Go.Abs Go.Abs.Sh Tryd
open List (map flatten)
open Value (int)
theorem ok_strings_splitSeq_1 (mx : Int) (l : Nat) {S : Type} (J : S → InvT) (Y : ByteArray → S → Option (S × Bool)) (hY : YieldOK Tryd.prog l (fun x => .v (.string x)) Y J) (c0 : ByteArray) (c1 : ByteArray) (c2 : Int) (st r : S) (h : Sh.strings_splitSeq_1 Y c0 c1 c2 st = some r) : FnI Tryd.prog (GL mx) 111 l [.box 9 [.v (.string c0)], .box 9 [.v (.string c1)], .box 3 [.v (.int .i64 c2)]] (J st) (J r) := by
  unfold Sh.strings_splitSeq_1 at h
  refine fn_okI func111 rfl (zl rfl) rfl fun g0 hn hio => ?_
  refine ht_seq ?_
  refine zgg hn [_,_,_,_,_,_,(9,vs c0),(10,vi (c0.size : Int)),(11,vb ((c0.size : Int) == 0))] [0,1,2,3,4,5] [0,1,2,3,4,5,8] [zq [1] 6 9,zq [6] 7 10,zq [7] 8 11] [(_,_),(_,_),(_,_),(_,_),(_,_),(_,_),(_,_)] rfl ⟨zp rfl (oL underlying9 rfl),zp rfl (oN underlying9 rfl),z4 rfl rfl,zz⟩ ?_
  refine ht_cond _ rfl (fun hb1 => ?_) (fun hb1 => ?_)
  ·have h := cond_t hb1 h
   refine ht_seq ?_
   refine ht_pick [0,2,4,5] (by kernel_rfl) (es' := [(_,_),(_,_),(_,_),(_,_)]) rfl ?_
   refine ht_loopS h (fun ((s12,s13) : ByteArray × S) => [(0,.v (.func (.yield l) #[] #[])),(2,.box 9 [vs s12]),(52,.glob (GL mx)),(53,.inv (J s13))]) (fun (s16 : S) => [(52,.glob (GL mx)),(53,.inv (J s16))]) ?_ ?_
   ·rintro s16 h
    refine pt_then (ht_ret ?_)
    refine pt_pick [1] (by kernel_rfl) (es' := [(53,.inv (J s16))]) rfl ?_
    refine pt_r_then ?_
    obtain rfl := zi h
    exact pt_retI hio rfl rfl rfl
   ·rintro u17 hl18 hr19 ⟨s12, s13⟩ rr22 h ho20
    refine ht_seq ?_
    refine zgg hn [_,_,_,_,(12,vs s12),(13,vi (s12.size : Int)),(14,vb (decide (0 < (s12.size : Int))))] [0,1,2,3] [0,1,2,3,6] [zq [1] 4 12,zq [4] 5 13,zq [5] 6 14] [(_,_),(_,_),(_,_),(_,_),(_,_)] rfl ⟨zp rfl (oL underlying9 rfl),zp rfl (oN underlying9 rfl),z4 rfl rfl,zz⟩ ?_
    refine ht_cond _ rfl (fun hb23 => ?_) (fun hb23 => ?_)
    ·have h := cond_t hb23 h
     refine ht_skip ?_
     refine pt_then ?_
     refine ht_block ?_
     refine ht_seq ?_
     obtain ⟨v3, hv3, h⟩ := zn h
     refine zg hn [_,_,_,_,_,(16,vs s12),(17,.tup [.v (.int .i32 v3.1),vi v3.2]),(15,.tup [.v (.int .i32 v3.1),vi v3.2]),(18,.v (.int .i32 v3.1)),(19,vi v3.2),(5,.v (.int .i32 v3.1)),(6,vi v3.2)] [0,1,2,3,4] [0,1,2,3,11] [zq [1] 5 16,zq [5,2] 6 17,⟨[],[6],[7],[(.slot 15)]⟩,zq [7] 8 18,zq [7] 9 19,zq [8] 10 5,zq [9] 11 6] [(_,_),(_,_),(_,_),(_,_),(_,_)] rfl ⟨zp rfl (oL underlying9 rfl),zp rfl (op_callG _ _ 52 112 _ _ rfl call112 rfl rfl (fun _ h => h) (ok_unicode_utf8_DecodeRuneInString mx s12 _ hv3) rfl rfl),zp rfl (op_move_take _ _ _ _ rfl),zp rfl (oE rfl),zp rfl (oE rfl),z2 rfl,z2 rfl,zz⟩ ?_
     refine pt_then (ht_seq ?_)
     refine ht_seq ?_
     obtain ⟨v4, hv4, h⟩ := zn h
     obtain ⟨v5, hv5, h⟩ := zn h
     refine zg hn [_,_,_,_,_,(20,.v (.func (.yield l) #[] #[])),(21,vs s12),(22,vi v3.2),(23,vs v4),(24,vb v5.2),(53,.inv (J v5.1)),(25,vb (!v5.2))] [0,1,2,3,4] [0,1,2,10,4,11] [zq [0] 5 20,zq [1] 6 21,zq [4] 7 22,zq [6,7] 8 23,⟨[8,5],[3],[10,9],[(.slot 24)]⟩,zq [9] 11 25] [(_,_),(_,_),(_,_),(_,_),(_,_),(_,_)] rfl ⟨z1 rfl,zp rfl (oL underlying9 rfl),z1 rfl,zp rfl (op_substr _ _ _ 0 v3.2 _ underlying9 rfl rfl ⟨_, rfl⟩ hv4),zp rfl (op_yield _ _ 53 l v4 s13 v5 hY hv5 rfl rfl rfl),zp rfl (op_un _ _ _ _ rfl rfl),zz⟩ ?_
     refine pt_then ?_
     refine ht_cond _ rfl (fun hb24 => ?_) (fun hb24 => ?_)
     ·have h := cond_t hb24 h
      refine ht_ret ?_
      refine pt_pick [3] (by kernel_rfl) (es' := [(53,.inv (J v5.1))]) rfl ?_
      refine pt_r_then ?_
      refine pt_r_in ?_
      refine pt_r_then ?_
      refine pt_r_in ?_
      refine pt_r_then ?_
      refine pt_r_then ?_
      have h := hr19 _ (ho20 _ (zi h).symm).symm
      obtain rfl := zi h
      exact pt_retI hio rfl rfl rfl
     ·have h := cond_f hb24 h
      refine ht_skip ?_
      refine pt_then ?_
      obtain ⟨v7, hv7, h⟩ := zn h
      refine zg hn [_,_,_,_,_,_,(26,vs s12),(27,vi v3.2),(28,vs v7),(2,.box 9 [vs v7])] [0,1,2,3,4,5] [0,9,2,3] [zq [1] 6 26,zq [4] 7 27,zq [6,7] 8 28,⟨[8],[1],[9],[.cell 2 0]⟩] [(_,_),(_,_),(_,_),(_,_)] rfl ⟨zp rfl (oL underlying9 rfl),z1 rfl,zp rfl (op_substr _ _ _ v3.2 (s12.size : Int) _ underlying9 rfl ⟨_, rfl⟩ rfl hv7),zp rfl (oS sz9 rfl),zz⟩ ?_
      refine pt_inb ?_
      exact pt_next _ (zi h).symm rfl
    ·have h := cond_f hb23 h
     refine ht_exit ?_
     refine pt_x_then ?_
     refine pt_x_then ?_
     refine pt_x_in ?_
     refine pt_pick [2,3] (by kernel_rfl) (es' := [(_,_),(_,_)]) rfl ?_
     exact hl18 _ (ho20 _ (zi h).symm).symm
  ·have h := cond_f hb1 h
   refine ht_skip ?_
   refine pt_then (ht_seq ?_)
   refine ht_pick [0,1,2,3,4,5] (by kernel_rfl) (es' := [(_,_),(_,_),(_,_),(_,_),(_,_),(_,_)]) rfl ?_
   refine ht_loopS h (fun ((s37,s38) : ByteArray × S) => [(0,.v (.func (.yield l) #[] #[])),(1,.box 9 [vs c0]),(2,.box 9 [vs s37]),(3,.box 3 [vi c2]),(52,.glob (GL mx)),(53,.inv (J s38))]) (fun ((s41,s42) : ByteArray × S) => [(0,.v (.func (.yield l) #[] #[])),(2,.box 9 [vs s41]),(52,.glob (GL mx)),(53,.inv (J s42))]) ?_ ?_
   ·rintro ⟨s41, s42⟩ h
    refine pt_then ?_
    obtain ⟨v51, hv51, h⟩ := zn h
    refine zg hn [_,_,_,_,(49,.v (.func (.yield l) #[] #[])),(50,vs s41),(51,vb v51.2),(53,.inv (J v51.1))] [0,1,2,3] [2,7] [zq [0] 4 49,zq [1] 5 50,⟨[5,4],[3],[7,6],[(.slot 51)]⟩] [(_,_),(_,_)] rfl ⟨z1 rfl,zp rfl (oL underlying9 rfl),zp rfl (op_yield _ _ 53 l s41 s42 v51 hY hv51 rfl rfl rfl),zz⟩ ?_
    refine pt_pick [1] (by kernel_rfl) (es' := [(53,.inv (J v51.1))]) rfl ?_
    obtain rfl := zi h
    exact pt_endI hio rfl rfl rfl
   ·rintro u43 hl44 hr45 ⟨s37, s38⟩ rr48 h ho46
    refine ht_block ?_
    refine ht_seq ?_
    obtain ⟨v25, hv25, h⟩ := zn h
    refine zg hn [_,_,_,_,_,_,(29,vs s37),(30,vs c0),(31,vi v25),(7,vi v25)] [0,1,2,3,4,5] [0,1,2,3,4,5,9] [zq [2] 6 29,zq [1] 7 30,zq [6,7] 8 31,zq [8] 9 7] [(_,_),(_,_),(_,_),(_,_),(_,_),(_,_),(_,_)] rfl ⟨zp rfl (oL underlying9 rfl),zp rfl (oL underlying9 rfl),zp rfl (op_call _ _ 113 _ _ rfl call113 rfl (ok_strings_Index s37 c0 _ hv25) rfl rfl),z2 rfl,zz⟩ ?_
    refine pt_then (ht_seq ?_)
    refine zgg hn [_,_,_,_,_,_,_,(32,vi v25),(33,vb (decide (v25 < 0)))] [0,1,2,3,4,5,6] [0,1,2,3,4,5,6,8] [zq [6] 7 32,zq [7] 8 33] [(_,_),(_,_),(_,_),(_,_),(_,_),(_,_),(_,_),(_,_)] rfl ⟨z1 rfl,z4 rfl rfl,zz⟩ ?_
    refine ht_cond _ rfl (fun hb49 => ?_) (fun hb49 => ?_)
    ·have h := cond_t hb49 h
     refine ht_exit ?_
     refine pt_x_then ?_
     refine pt_x_out (by decide) ?_
     refine pt_x_then ?_
     refine pt_x_in ?_
     refine pt_pick [0,2,4,5] (by kernel_rfl) (es' := [(_,_),(_,_),(_,_),(_,_)]) rfl ?_
     exact hl44 _ (ho46 _ (zi h).symm).symm
    ·have h := cond_f hb49 h
     refine ht_skip ?_
     refine pt_then (ht_seq ?_)
     obtain ⟨v27, hv27, h⟩ := zn h
     obtain ⟨v28, hv28, h⟩ := zn h
     refine zg hn [_,_,_,_,_,_,_,_,(34,vs s37),(35,vi v25),(36,vi c2),(37,vi v27),(38,vs v28),(8,vs v28)] [0,1,2,3,4,5,6,7] [0,1,2,3,4,5,6,13] [zq [2] 8 34,zq [6] 9 35,zq [3] 10 36,zq [9,10] 11 37,zq [8,11] 12 38,zq [12] 13 8] [(_,_),(_,_),(_,_),(_,_),(_,_),(_,_),(_,_),(_,_)] rfl ⟨zp rfl (oL underlying9 rfl),z1 rfl,zp rfl (oL underlying3 rfl),zp rfl (oB rfl (ibind (f := int .i64) (Option.some.inj hv27))),zp rfl (op_substr _ _ _ 0 v27 _ underlying9 rfl rfl ⟨_, rfl⟩ hv28),z2 rfl,zz⟩ ?_
     refine pt_then (ht_seq ?_)
     refine ht_seq ?_
     obtain ⟨v29, hv29, h⟩ := zn h
     refine zg hn [_,_,_,_,_,_,_,_,(39,.v (.func (.yield l) #[] #[])),(40,vs v28),(41,vb v29.2),(53,.inv (J v29.1)),(42,vb (!v29.2))] [0,1,2,3,4,5,6,7] [0,1,2,3,4,11,6,12] [zq [0] 8 39,zq [7] 9 40,⟨[9,8],[5],[11,10],[(.slot 41)]⟩,zq [10] 12 42] [(_,_),(_,_),(_,_),(_,_),(_,_),(_,_),(_,_),(_,_)] rfl ⟨z1 rfl,z1 rfl,zp rfl (op_yield _ _ 53 l v28 s38 v29 hY hv29 rfl rfl rfl),zp rfl (op_un _ _ _ _ rfl rfl),zz⟩ ?_
     refine pt_then ?_
     refine ht_cond _ rfl (fun hb50 => ?_) (fun hb50 => ?_)
     ·have h := cond_t hb50 h
      refine ht_ret ?_
      refine pt_pick [5] (by kernel_rfl) (es' := [(53,.inv (J v29.1))]) rfl ?_
      refine pt_r_then ?_
      refine pt_r_in ?_
      refine pt_r_then ?_
      refine pt_r_in ?_
      refine pt_r_then ?_
      have h := hr45 _ (ho46 _ (zi h).symm).symm
      obtain rfl := zi h
      exact pt_retI hio rfl rfl rfl
     ·have h := cond_f hb50 h
      refine ht_skip ?_
      refine pt_then ?_
      obtain ⟨v31, hv31, h⟩ := zn h
      obtain ⟨v32, hv32, h⟩ := zn h
      refine zg hn (_::_::_::_::_::_::_::_::(43,vs s37)::(44,vi v25)::(45,vs c0)::(46,vi (c0.size : Int))::(47,vi v31)::(48,vs v32)::(2,.box 9 [vs v32])::[]) [0,1,2,3,4,5,6,7] [0,1,14,3,4,5] [zq [2] 8 43,zq [6] 9 44,zq [1] 10 45,zq [10] 11 46,zq [9,11] 12 47,zq [8,12] 13 48,⟨[13],[2],[14],[.cell 2 0]⟩] [(_,_),(_,_),(_,_),(_,_),(_,_),(_,_)] rfl ⟨zp rfl (oL underlying9 rfl),z1 rfl,zp rfl (oL underlying9 rfl),zp rfl (oN underlying9 rfl),zp rfl (oB rfl (ibind (f := int .i64) (Option.some.inj hv31))),zp rfl (op_substr _ _ _ v31 (s37.size : Int) _ underlying9 rfl ⟨_, rfl⟩ rfl hv32),zp rfl (oS sz9 rfl),zz⟩ ?_
      refine pt_inb ?_
      exact pt_next _ (zi h).symm rfl
theorem ok_path_alphanumeric (c : Int) (r : Bool) (h : Sh.path_alphanumeric c = some r) : FnOK Tryd.prog 92 [.v (.int .u8 c)] (.v (.bool r)) := by
  unfold Sh.path_alphanumeric at h
  refine fn_ok func92 rfl (zl rfl) rfl rfl fun g0 hn hio => ?_
  refine zgg hn [_,(2,vb false)] [0] [0] [zq [] 1 2] [(_,_)] rfl ⟨z2 rfl,zz⟩ ?_
  refine ht_seq ?_
  refine ht_joinS h (fun (s1 : Bool) => [(2,vb s1)]) ?_ ?_
  ·rintro s1 h
   refine pt_then (ht_ret ?_)
   obtain rfl := zi h
   exact pt_ret hio rfl (.tmp _ _ .nil) rfl rfl
  ·intro u2 h hl3 hr4
   refine cond_some h (fun hg1_2 h => ?_) (fun hg1_2 h => ?_)
   ·refine cond_some h (fun hg1_6 h => ?_) (fun hg1_6 h => ?_)
    ·refine zg hn (_::(3,.v (.int .u8 c))::(4,vb (decide (48 ≤ c)))::(5,vb true)::(6,.v (.int .u8 c))::(7,vb (decide (c ≤ 57)))::(8,vb (decide (c ≤ 57)))::(9,vb true)::(10,.v undef)::(11,.v undef)::(12,.v undef)::(13,.v undef)::(14,.v undef)::(15,.v undef)::(16,vb true)::(17,vb true)::(18,.v undef)::(19,.v undef)::(20,.v undef)::(21,.v undef)::(22,.v undef)::(23,.v undef)::(24,vb true)::(2,vb true)::[]) [0] [23] (zq [0] 1 3::zq [1] 2 4::zq [2] 3 5::zq [3,0] 4 6::zq [3,4] 5 7::zq [3,5] 6 8::zq [6] 7 9::zq [7] 8 10::zq [7] 9 11::zq [7] 10 12::zq [10] 11 13::zq [10] 12 14::zq [7] 13 15::zq [7] 14 16::zq [14] 15 17::zq [15] 16 18::zq [15] 17 19::zq [15] 18 20::zq [18] 19 21::zq [18] 20 22::zq [15] 21 23::zq [15] 22 24::zq [22] 23 2::[]) [(_,_)] rfl ⟨z1 rfl,z4 rfl rfl,z8 hg1_2 rfl,zr' rfl (oM rfl),zr' rfl (oB rfl rfl),z3 true rfl,z8 hg1_6 rfl,zf rfl,zf rfl,zf rfl,zu' rfl,zu' rfl,zf rfl,z3 true rfl,z1 rfl,zf rfl,zf rfl,zf rfl,zu' rfl,zu' rfl,zf rfl,z3 true rfl,z2 rfl,zz⟩ ?_
     exact hl3 _ (zi h).symm
    ·refine cond_some h (fun hg1_9 h => ?_) (fun hg1_9 h => ?_)
     ·refine cond_some h (fun hg1_14 h => ?_) (fun hg1_14 h => ?_)
      ·refine zg hn (_::(3,.v (.int .u8 c))::(4,vb (decide (48 ≤ c)))::(5,vb true)::(6,.v (.int .u8 c))::(7,vb (decide (c ≤ 57)))::(8,vb (decide (c ≤ 57)))::(9,vb false)::(10,.v (.int .u8 c))::(11,vb (decide (65 ≤ c)))::(12,vb true)::(13,.v (.int .u8 c))::(14,vb (decide (c ≤ 90)))::(15,vb (decide (c ≤ 90)))::(16,vb (decide (c ≤ 90)))::(17,vb true)::(18,.v undef)::(19,.v undef)::(20,.v undef)::(21,.v undef)::(22,.v undef)::(23,.v undef)::(24,vb true)::(2,vb true)::[]) [0] [23] (zq [0] 1 3::zq [1] 2 4::zq [2] 3 5::zq [3,0] 4 6::zq [3,4] 5 7::zq [3,5] 6 8::zq [6] 7 9::zq [7,0] 8 10::zq [7,8] 9 11::zq [7,9] 10 12::zq [10,0] 11 13::zq [10,11] 12 14::zq [7,10,12] 13 15::zq [7,13] 14 16::zq [14] 15 17::zq [15] 16 18::zq [15] 17 19::zq [15] 18 20::zq [18] 19 21::zq [18] 20 22::zq [15] 21 23::zq [15] 22 24::zq [22] 23 2::[]) [(_,_)] rfl ⟨z1 rfl,z4 rfl rfl,z8 hg1_2 rfl,zr' rfl (oM rfl),zr' rfl (oB rfl rfl),z3 true rfl,z8 hg1_6 rfl,zr' rfl (oM rfl),zr' rfl (oB rfl rfl),zr' rfl (op_move _ _ _ _ (zb hg1_9) rfl),zr' rfl (oM rfl),zr' rfl (oB rfl rfl),zr' rfl (op_pick _ _ true _ rfl rfl),z3 false rfl,z8 hg1_14 rfl,zf rfl,zf rfl,zf rfl,zu' rfl,zu' rfl,zf rfl,z3 true rfl,z2 rfl,zz⟩ ?_
       exact hl3 _ (zi h).symm
      ·refine cond_some h (fun hg1_17 h => ?_) (fun hg1_17 h => ?_)
       ·refine zg hn (_::(3,.v (.int .u8 c))::(4,vb (decide (48 ≤ c)))::(5,vb true)::(6,.v (.int .u8 c))::(7,vb (decide (c ≤ 57)))::(8,vb (decide (c ≤ 57)))::(9,vb false)::(10,.v (.int .u8 c))::(11,vb (decide (65 ≤ c)))::(12,vb true)::(13,.v (.int .u8 c))::(14,vb (decide (c ≤ 90)))::(15,vb (decide (c ≤ 90)))::(16,vb (decide (c ≤ 90)))::(17,vb false)::(18,.v (.int .u8 c))::(19,vb (decide (97 ≤ c)))::(20,vb true)::(21,.v (.int .u8 c))::(22,vb (decide (c ≤ 122)))::(23,vb (decide (c ≤ 122)))::(24,vb (decide (c ≤ 122)))::(2,vb (decide (c ≤ 122)))::[]) [0] [23] (zq [0] 1 3::zq [1] 2 4::zq [2] 3 5::zq [3,0] 4 6::zq [3,4] 5 7::zq [3,5] 6 8::zq [6] 7 9::zq [7,0] 8 10::zq [7,8] 9 11::zq [7,9] 10 12::zq [10,0] 11 13::zq [10,11] 12 14::zq [7,10,12] 13 15::zq [7,13] 14 16::zq [14] 15 17::zq [15,0] 16 18::zq [15,16] 17 19::zq [15,17] 18 20::zq [18,0] 19 21::zq [18,19] 20 22::zq [15,18,20] 21 23::zq [15,21] 22 24::zq [22] 23 2::[]) [(_,_)] rfl ⟨z1 rfl,z4 rfl rfl,z8 hg1_2 rfl,zr' rfl (oM rfl),zr' rfl (oB rfl rfl),z3 true rfl,z8 hg1_6 rfl,zr' rfl (oM rfl),zr' rfl (oB rfl rfl),zr' rfl (op_move _ _ _ _ (zb hg1_9) rfl),zr' rfl (oM rfl),zr' rfl (oB rfl rfl),zr' rfl (op_pick _ _ true _ rfl rfl),z3 false rfl,z8 hg1_14 rfl,zr' rfl (oM rfl),zr' rfl (oB rfl rfl),zr' rfl (op_move _ _ _ _ (zb hg1_17) rfl),zr' rfl (oM rfl),zr' rfl (oB rfl rfl),zr' rfl (op_pick _ _ true _ rfl rfl),z3 false rfl,z2 rfl,zz⟩ ?_
        exact hl3 _ (zi h).symm
       ·refine zg hn (_::(3,.v (.int .u8 c))::(4,vb (decide (48 ≤ c)))::(5,vb true)::(6,.v (.int .u8 c))::(7,vb (decide (c ≤ 57)))::(8,vb (decide (c ≤ 57)))::(9,vb false)::(10,.v (.int .u8 c))::(11,vb (decide (65 ≤ c)))::(12,vb true)::(13,.v (.int .u8 c))::(14,vb (decide (c ≤ 90)))::(15,vb (decide (c ≤ 90)))::(16,vb (decide (c ≤ 90)))::(17,vb false)::(18,.v (.int .u8 c))::(19,vb (decide (97 ≤ c)))::(20,vb false)::(21,.v undef)::(22,.v undef)::(23,vb false)::(24,vb false)::(2,vb false)::[]) [0] [23] (zq [0] 1 3::zq [1] 2 4::zq [2] 3 5::zq [3,0] 4 6::zq [3,4] 5 7::zq [3,5] 6 8::zq [6] 7 9::zq [7,0] 8 10::zq [7,8] 9 11::zq [7,9] 10 12::zq [10,0] 11 13::zq [10,11] 12 14::zq [7,10,12] 13 15::zq [7,13] 14 16::zq [14] 15 17::zq [15,0] 16 18::zq [15,16] 17 19::zq [15,17] 18 20::zq [18] 19 21::zq [18] 20 22::zq [15,18] 21 23::zq [15,21] 22 24::zq [22] 23 2::[]) [(_,_)] rfl ⟨z1 rfl,z4 rfl rfl,z8 hg1_2 rfl,zr' rfl (oM rfl),zr' rfl (oB rfl rfl),z3 true rfl,z8 hg1_6 rfl,zr' rfl (oM rfl),zr' rfl (oB rfl rfl),zr' rfl (op_move _ _ _ _ (zb hg1_9) rfl),zr' rfl (oM rfl),zr' rfl (oB rfl rfl),zr' rfl (op_pick _ _ true _ rfl rfl),z3 false rfl,z8 hg1_14 rfl,zr' rfl (oM rfl),zr' rfl (oB rfl rfl),zr' rfl (op_move _ _ _ _ (zb hg1_17) rfl),zt rfl,zt rfl,zr' rfl (op_pick _ _ false _ rfl rfl),z3 false rfl,z2 rfl,zz⟩ ?_
        exact hl3 _ (zi h).symm
     ·refine cond_some h (fun hg1_17 h => ?_) (fun hg1_17 h => ?_)
      ·refine zg hn (_::(3,.v (.int .u8 c))::(4,vb (decide (48 ≤ c)))::(5,vb true)::(6,.v (.int .u8 c))::(7,vb (decide (c ≤ 57)))::(8,vb (decide (c ≤ 57)))::(9,vb false)::(10,.v (.int .u8 c))::(11,vb (decide (65 ≤ c)))::(12,vb false)::(13,.v undef)::(14,.v undef)::(15,vb false)::(16,vb false)::(17,vb false)::(18,.v (.int .u8 c))::(19,vb (decide (97 ≤ c)))::(20,vb true)::(21,.v (.int .u8 c))::(22,vb (decide (c ≤ 122)))::(23,vb (decide (c ≤ 122)))::(24,vb (decide (c ≤ 122)))::(2,vb (decide (c ≤ 122)))::[]) [0] [23] (zq [0] 1 3::zq [1] 2 4::zq [2] 3 5::zq [3,0] 4 6::zq [3,4] 5 7::zq [3,5] 6 8::zq [6] 7 9::zq [7,0] 8 10::zq [7,8] 9 11::zq [7,9] 10 12::zq [10] 11 13::zq [10] 12 14::zq [7,10] 13 15::zq [7,13] 14 16::zq [14] 15 17::zq [15,0] 16 18::zq [15,16] 17 19::zq [15,17] 18 20::zq [18,0] 19 21::zq [18,19] 20 22::zq [15,18,20] 21 23::zq [15,21] 22 24::zq [22] 23 2::[]) [(_,_)] rfl ⟨z1 rfl,z4 rfl rfl,z8 hg1_2 rfl,zr' rfl (oM rfl),zr' rfl (oB rfl rfl),z3 true rfl,z8 hg1_6 rfl,zr' rfl (oM rfl),zr' rfl (oB rfl rfl),zr' rfl (op_move _ _ _ _ (zb hg1_9) rfl),zt rfl,zt rfl,zr' rfl (op_pick _ _ false _ rfl rfl),z3 false rfl,z1 rfl,zr' rfl (oM rfl),zr' rfl (oB rfl rfl),zr' rfl (op_move _ _ _ _ (zb hg1_17) rfl),zr' rfl (oM rfl),zr' rfl (oB rfl rfl),zr' rfl (op_pick _ _ true _ rfl rfl),z3 false rfl,z2 rfl,zz⟩ ?_
       exact hl3 _ (zi h).symm
      ·refine zg hn (_::(3,.v (.int .u8 c))::(4,vb (decide (48 ≤ c)))::(5,vb true)::(6,.v (.int .u8 c))::(7,vb (decide (c ≤ 57)))::(8,vb (decide (c ≤ 57)))::(9,vb false)::(10,.v (.int .u8 c))::(11,vb (decide (65 ≤ c)))::(12,vb false)::(13,.v undef)::(14,.v undef)::(15,vb false)::(16,vb false)::(17,vb false)::(18,.v (.int .u8 c))::(19,vb (decide (97 ≤ c)))::(20,vb false)::(21,.v undef)::(22,.v undef)::(23,vb false)::(24,vb false)::(2,vb false)::[]) [0] [23] (zq [0] 1 3::zq [1] 2 4::zq [2] 3 5::zq [3,0] 4 6::zq [3,4] 5 7::zq [3,5] 6 8::zq [6] 7 9::zq [7,0] 8 10::zq [7,8] 9 11::zq [7,9] 10 12::zq [10] 11 13::zq [10] 12 14::zq [7,10] 13 15::zq [7,13] 14 16::zq [14] 15 17::zq [15,0] 16 18::zq [15,16] 17 19::zq [15,17] 18 20::zq [18] 19 21::zq [18] 20 22::zq [15,18] 21 23::zq [15,21] 22 24::zq [22] 23 2::[]) [(_,_)] rfl ⟨z1 rfl,z4 rfl rfl,z8 hg1_2 rfl,zr' rfl (oM rfl),zr' rfl (oB rfl rfl),z3 true rfl,z8 hg1_6 rfl,zr' rfl (oM rfl),zr' rfl (oB rfl rfl),zr' rfl (op_move _ _ _ _ (zb hg1_9) rfl),zt rfl,zt rfl,zr' rfl (op_pick _ _ false _ rfl rfl),z3 false rfl,z1 rfl,zr' rfl (oM rfl),zr' rfl (oB rfl rfl),zr' rfl (op_move _ _ _ _ (zb hg1_17) rfl),zt rfl,zt rfl,zr' rfl (op_pick _ _ false _ rfl rfl),z3 false rfl,z2 rfl,zz⟩ ?_
       exact hl3 _ (zi h).symm
   ·refine cond_some h (fun hg1_9 h => ?_) (fun hg1_9 h => ?_)
    ·refine cond_some h (fun hg1_14 h => ?_) (fun hg1_14 h => ?_)
     ·refine zg hn (_::(3,.v (.int .u8 c))::(4,vb (decide (48 ≤ c)))::(5,vb false)::(6,.v undef)::(7,.v undef)::(8,vb false)::(9,vb false)::(10,.v (.int .u8 c))::(11,vb (decide (65 ≤ c)))::(12,vb true)::(13,.v (.int .u8 c))::(14,vb (decide (c ≤ 90)))::(15,vb (decide (c ≤ 90)))::(16,vb (decide (c ≤ 90)))::(17,vb true)::(18,.v undef)::(19,.v undef)::(20,.v undef)::(21,.v undef)::(22,.v undef)::(23,.v undef)::(24,vb true)::(2,vb true)::[]) [0] [23] (zq [0] 1 3::zq [1] 2 4::zq [2] 3 5::zq [3] 4 6::zq [3] 5 7::zq [3] 6 8::zq [6] 7 9::zq [7,0] 8 10::zq [7,8] 9 11::zq [7,9] 10 12::zq [10,0] 11 13::zq [10,11] 12 14::zq [7,10,12] 13 15::zq [7,13] 14 16::zq [14] 15 17::zq [15] 16 18::zq [15] 17 19::zq [15] 18 20::zq [18] 19 21::zq [18] 20 22::zq [15] 21 23::zq [15] 22 24::zq [22] 23 2::[]) [(_,_)] rfl ⟨z1 rfl,z4 rfl rfl,z8 hg1_2 rfl,zt rfl,zt rfl,z3 false rfl,z1 rfl,zr' rfl (oM rfl),zr' rfl (oB rfl rfl),zr' rfl (op_move _ _ _ _ (zb hg1_9) rfl),zr' rfl (oM rfl),zr' rfl (oB rfl rfl),zr' rfl (op_pick _ _ true _ rfl rfl),z3 false rfl,z8 hg1_14 rfl,zf rfl,zf rfl,zf rfl,zu' rfl,zu' rfl,zf rfl,z3 true rfl,z2 rfl,zz⟩ ?_
      exact hl3 _ (zi h).symm
     ·refine cond_some h (fun hg1_17 h => ?_) (fun hg1_17 h => ?_)
      ·refine zg hn (_::(3,.v (.int .u8 c))::(4,vb (decide (48 ≤ c)))::(5,vb false)::(6,.v undef)::(7,.v undef)::(8,vb false)::(9,vb false)::(10,.v (.int .u8 c))::(11,vb (decide (65 ≤ c)))::(12,vb true)::(13,.v (.int .u8 c))::(14,vb (decide (c ≤ 90)))::(15,vb (decide (c ≤ 90)))::(16,vb (decide (c ≤ 90)))::(17,vb false)::(18,.v (.int .u8 c))::(19,vb (decide (97 ≤ c)))::(20,vb true)::(21,.v (.int .u8 c))::(22,vb (decide (c ≤ 122)))::(23,vb (decide (c ≤ 122)))::(24,vb (decide (c ≤ 122)))::(2,vb (decide (c ≤ 122)))::[]) [0] [23] (zq [0] 1 3::zq [1] 2 4::zq [2] 3 5::zq [3] 4 6::zq [3] 5 7::zq [3] 6 8::zq [6] 7 9::zq [7,0] 8 10::zq [7,8] 9 11::zq [7,9] 10 12::zq [10,0] 11 13::zq [10,11] 12 14::zq [7,10,12] 13 15::zq [7,13] 14 16::zq [14] 15 17::zq [15,0] 16 18::zq [15,16] 17 19::zq [15,17] 18 20::zq [18,0] 19 21::zq [18,19] 20 22::zq [15,18,20] 21 23::zq [15,21] 22 24::zq [22] 23 2::[]) [(_,_)] rfl ⟨z1 rfl,z4 rfl rfl,z8 hg1_2 rfl,zt rfl,zt rfl,z3 false rfl,z1 rfl,zr' rfl (oM rfl),zr' rfl (oB rfl rfl),zr' rfl (op_move _ _ _ _ (zb hg1_9) rfl),zr' rfl (oM rfl),zr' rfl (oB rfl rfl),zr' rfl (op_pick _ _ true _ rfl rfl),z3 false rfl,z8 hg1_14 rfl,zr' rfl (oM rfl),zr' rfl (oB rfl rfl),zr' rfl (op_move _ _ _ _ (zb hg1_17) rfl),zr' rfl (oM rfl),zr' rfl (oB rfl rfl),zr' rfl (op_pick _ _ true _ rfl rfl),z3 false rfl,z2 rfl,zz⟩ ?_
       exact hl3 _ (zi h).symm
      ·refine zg hn (_::(3,.v (.int .u8 c))::(4,vb (decide (48 ≤ c)))::(5,vb false)::(6,.v undef)::(7,.v undef)::(8,vb false)::(9,vb false)::(10,.v (.int .u8 c))::(11,vb (decide (65 ≤ c)))::(12,vb true)::(13,.v (.int .u8 c))::(14,vb (decide (c ≤ 90)))::(15,vb (decide (c ≤ 90)))::(16,vb (decide (c ≤ 90)))::(17,vb false)::(18,.v (.int .u8 c))::(19,vb (decide (97 ≤ c)))::(20,vb false)::(21,.v undef)::(22,.v undef)::(23,vb false)::(24,vb false)::(2,vb false)::[]) [0] [23] (zq [0] 1 3::zq [1] 2 4::zq [2] 3 5::zq [3] 4 6::zq [3] 5 7::zq [3] 6 8::zq [6] 7 9::zq [7,0] 8 10::zq [7,8] 9 11::zq [7,9] 10 12::zq [10,0] 11 13::zq [10,11] 12 14::zq [7,10,12] 13 15::zq [7,13] 14 16::zq [14] 15 17::zq [15,0] 16 18::zq [15,16] 17 19::zq [15,17] 18 20::zq [18] 19 21::zq [18] 20 22::zq [15,18] 21 23::zq [15,21] 22 24::zq [22] 23 2::[]) [(_,_)] rfl ⟨z1 rfl,z4 rfl rfl,z8 hg1_2 rfl,zt rfl,zt rfl,z3 false rfl,z1 rfl,zr' rfl (oM rfl),zr' rfl (oB rfl rfl),zr' rfl (op_move _ _ _ _ (zb hg1_9) rfl),zr' rfl (oM rfl),zr' rfl (oB rfl rfl),zr' rfl (op_pick _ _ true _ rfl rfl),z3 false rfl,z8 hg1_14 rfl,zr' rfl (oM rfl),zr' rfl (oB rfl rfl),zr' rfl (op_move _ _ _ _ (zb hg1_17) rfl),zt rfl,zt rfl,zr' rfl (op_pick _ _ false _ rfl rfl),z3 false rfl,z2 rfl,zz⟩ ?_
       exact hl3 _ (zi h).symm
    ·refine cond_some h (fun hg1_17 h => ?_) (fun hg1_17 h => ?_)
     ·refine zg hn (_::(3,.v (.int .u8 c))::(4,vb (decide (48 ≤ c)))::(5,vb false)::(6,.v undef)::(7,.v undef)::(8,vb false)::(9,vb false)::(10,.v (.int .u8 c))::(11,vb (decide (65 ≤ c)))::(12,vb false)::(13,.v undef)::(14,.v undef)::(15,vb false)::(16,vb false)::(17,vb false)::(18,.v (.int .u8 c))::(19,vb (decide (97 ≤ c)))::(20,vb true)::(21,.v (.int .u8 c))::(22,vb (decide (c ≤ 122)))::(23,vb (decide (c ≤ 122)))::(24,vb (decide (c ≤ 122)))::(2,vb (decide (c ≤ 122)))::[]) [0] [23] (zq [0] 1 3::zq [1] 2 4::zq [2] 3 5::zq [3] 4 6::zq [3] 5 7::zq [3] 6 8::zq [6] 7 9::zq [7,0] 8 10::zq [7,8] 9 11::zq [7,9] 10 12::zq [10] 11 13::zq [10] 12 14::zq [7,10] 13 15::zq [7,13] 14 16::zq [14] 15 17::zq [15,0] 16 18::zq [15,16] 17 19::zq [15,17] 18 20::zq [18,0] 19 21::zq [18,19] 20 22::zq [15,18,20] 21 23::zq [15,21] 22 24::zq [22] 23 2::[]) [(_,_)] rfl ⟨z1 rfl,z4 rfl rfl,z8 hg1_2 rfl,zt rfl,zt rfl,z3 false rfl,z1 rfl,zr' rfl (oM rfl),zr' rfl (oB rfl rfl),zr' rfl (op_move _ _ _ _ (zb hg1_9) rfl),zt rfl,zt rfl,zr' rfl (op_pick _ _ false _ rfl rfl),z3 false rfl,z1 rfl,zr' rfl (oM rfl),zr' rfl (oB rfl rfl),zr' rfl (op_move _ _ _ _ (zb hg1_17) rfl),zr' rfl (oM rfl),zr' rfl (oB rfl rfl),zr' rfl (op_pick _ _ true _ rfl rfl),z3 false rfl,z2 rfl,zz⟩ ?_
      exact hl3 _ (zi h).symm
     ·refine zg hn (_::(3,.v (.int .u8 c))::(4,vb (decide (48 ≤ c)))::(5,vb false)::(6,.v undef)::(7,.v undef)::(8,vb false)::(9,vb false)::(10,.v (.int .u8 c))::(11,vb (decide (65 ≤ c)))::(12,vb false)::(13,.v undef)::(14,.v undef)::(15,vb false)::(16,vb false)::(17,vb false)::(18,.v (.int .u8 c))::(19,vb (decide (97 ≤ c)))::(20,vb false)::(21,.v undef)::(22,.v undef)::(23,vb false)::(24,vb false)::(2,vb false)::[]) [0] [23] (zq [0] 1 3::zq [1] 2 4::zq [2] 3 5::zq [3] 4 6::zq [3] 5 7::zq [3] 6 8::zq [6] 7 9::zq [7,0] 8 10::zq [7,8] 9 11::zq [7,9] 10 12::zq [10] 11 13::zq [10] 12 14::zq [7,10] 13 15::zq [7,13] 14 16::zq [14] 15 17::zq [15,0] 16 18::zq [15,16] 17 19::zq [15,17] 18 20::zq [18] 19 21::zq [18] 20 22::zq [15,18] 21 23::zq [15,21] 22 24::zq [22] 23 2::[]) [(_,_)] rfl ⟨z1 rfl,z4 rfl rfl,z8 hg1_2 rfl,zt rfl,zt rfl,z3 false rfl,z1 rfl,zr' rfl (oM rfl),zr' rfl (oB rfl rfl),zr' rfl (op_move _ _ _ _ (zb hg1_9) rfl),zt rfl,zt rfl,zr' rfl (op_pick _ _ false _ rfl rfl),z3 false rfl,z1 rfl,zr' rfl (oM rfl),zr' rfl (oB rfl rfl),zr' rfl (op_move _ _ _ _ (zb hg1_17) rfl),zt rfl,zt rfl,zr' rfl (op_pick _ _ false _ rfl rfl),z3 false rfl,z2 rfl,zz⟩ ?_
      exact hl3 _ (zi h).symm
theorem ok_strings_IndexByte (s : ByteArray) (c r : Int) (h : Sh.strings_IndexByte s c = some r) : FnOK Tryd.prog 96 [.v (.string s), .v (.int .u8 c)] (.v (.int .i64 r)) := lib_strings_IndexByte Tryd.strings_IndexByte s c r h
theorem ok_path_atom_1 (c : Int) (r : Bool) (h : Sh.path_atom_1 c = some r) : FnOK Tryd.prog 95 [.v (.int .u8 c)] (.v (.bool r)) := by
  unfold Sh.path_atom_1 at h
  refine fn_ok func95 rfl (zl rfl) rfl rfl fun g0 hn hio => ?_
  refine zgg hn [_,(2,vb false)] [0] [0] [zq [] 1 2] [(_,_)] rfl ⟨z2 rfl,zz⟩ ?_
  refine ht_seq ?_
  refine ht_joinS h (fun (s3 : Bool) => [(2,vb s3)]) ?_ ?_
  ·rintro s3 h
   refine pt_then (ht_ret ?_)
   obtain rfl := zi h
   exact pt_ret hio rfl (.tmp _ _ .nil) rfl rfl
  ·intro u4 h hl5 hr6
   obtain ⟨v1, hv1, h⟩ := zn h
   refine cond_some h (fun hg1_2 h => ?_) (fun hg1_2 h => ?_)
   ·refine zg hn [_,(3,.v (.int .u8 c)),(4,vb v1),(5,vb true),(6,.v undef),(7,.v undef),(8,.v undef),(9,vb true),(2,vb true)] [0] [8] [zq [0] 1 3,zq [1] 2 4,zq [2] 3 5,zq [3] 4 6,zq [3] 5 7,zq [3] 6 8,zq [3] 7 9,zq [7] 8 2] [(_,_)] rfl ⟨z1 rfl,zp rfl (op_call _ _ 92 _ _ rfl call92 rfl (ok_path_alphanumeric c _ hv1) rfl rfl),z8 hg1_2 rfl,zf rfl,zf rfl,zf rfl,z3 true rfl,z2 rfl,zz⟩ ?_
    exact hl5 _ (zi h).symm
   ·obtain ⟨v2, hv2, h⟩ := zn h
    refine zg hn [_,(3,.v (.int .u8 c)),(4,vb v1),(5,vb false),(6,.v (.int .u8 c)),(7,vi v2),(8,vb (decide (0 ≤ v2))),(9,vb (decide (0 ≤ v2))),(2,vb (decide (0 ≤ v2)))] [0] [8] [zq [0] 1 3,zq [1] 2 4,zq [2] 3 5,zq [3,0] 4 6,zq [3,4] 5 7,zq [3,5] 6 8,zq [3,6] 7 9,zq [7] 8 2] [(_,_)] rfl ⟨z1 rfl,zp rfl (op_call _ _ 92 _ _ rfl call92 rfl (ok_path_alphanumeric c _ hv1) rfl rfl),z8 hg1_2 rfl,zr' rfl (oM rfl),zr' rfl (op_call _ _ 96 _ _ rfl call96 rfl (ok_strings_IndexByte (⟨#[33, 35, 36, 37, 38, 39, 42, 43, 45, 47, 61, 63, 94, 95, 96, 123, 124, 125, 126]⟩ : ByteArray) c _ hv2) rfl rfl),zr' rfl (oB rfl rfl),z3 false rfl,z2 rfl,zz⟩ ?_
    exact hl5 _ (zi h).symm
theorem ok_path_all_of_path_atom_1 (s : ByteArray) (r : Bool) (h : Sh.path_all_of_path_atom_1 s = some r) : FnOK Tryd.prog 90 [.v (.string s), .v (.func (.func 95) #[] #[])] (.v (.bool r)) := by
  unfold Sh.path_all_of_path_atom_1 at h
  refine fn_ok func90 rfl (zl rfl) rfl rfl fun g0 hn hio => ?_
  refine zgg hn [_,_,(4,vb false)] [0,1] [0,1] [zq [] 2 4] [(_,_),(_,_)] rfl ⟨z2 rfl,zz⟩ ?_
  refine ht_seq ?_
  refine zgg hn [_,_,(6,vs s),(7,vi (s.size : Int)),(8,vi 0)] [0,1] [0,1,3,4] [zq [0] 2 6,zq [2] 3 7,zq [] 4 8] [(_,_),(_,_),(_,_),(_,_)] rfl ⟨z1 rfl,zp rfl (oN underlying9 rfl),z1 rfl,zz⟩ ?_
  refine ht_loopS h (fun (s9 : Int) => [(0,vs s),(1,.v (.func (.func 95) #[] #[])),(7,vi (s.size : Int)),(8,vi s9)]) (fun (() : Unit) => []) ?_ ?_
  ·rintro ⟨⟩ h
   refine pt_then ?_
   refine zgg hn [(4,vb true)] [] [0] [zq [] 0 4] [(_,_)] rfl ⟨z2 rfl,zz⟩ ?_
   refine ht_ret ?_
   obtain rfl := zi h
   exact pt_ret hio rfl (.tmp _ _ .nil) rfl rfl
  ·rintro u12 hl13 hr14 s9 rr17 h ho15
   refine zgg hn [_,_,_,_,(9,vb (decide (s9 < (s.size : Int))))] [0,1,2,3] [0,1,2,3,4] [zq [3,2] 4 9] [(_,_),(_,_),(_,_),(_,_),(_,_)] rfl ⟨z4 rfl rfl,zz⟩ ?_
   refine ht_seq ?_
   refine ht_cond _ rfl (fun hb18 => ?_) (fun hb18 => ?_)
   ·have h := cond_t hb18 h
    refine ht_skip ?_
    refine pt_then (ht_seq ?_)
    refine ht_block ?_
    refine zgg hn [_,_,_,_,_,(10,vi s9),(5,vi s9)] [0,1,2,3,4] [0,1,2,3,6] [zq [3] 5 10,zq [5] 6 5] [(_,_),(_,_),(_,_),(_,_),(_,_)] rfl ⟨z1 rfl,z2 rfl,zz⟩ ?_
    refine ht_seq ?_
    obtain ⟨v2, hv2, h⟩ := zn h
    obtain ⟨v3, hv3, h⟩ := zn h
    refine zg hn [_,_,_,_,_,(11,.v (.func (.func 95) #[] #[])),(12,vs s),(13,vi s9),(14,.v (.int .u8 v2)),(15,vb v3),(16,vb (!v3))] [0,1,2,3,4] [0,1,2,3,10] [zq [1] 5 11,zq [0] 6 12,zq [4] 7 13,zq [6,7] 8 14,zq [8,5] 9 15,zq [9] 10 16] [(_,_),(_,_),(_,_),(_,_),(_,_)] rfl ⟨z1 rfl,z1 rfl,z1 rfl,zp rfl (op_chr _ _ _ s9 _ underlying9 rfl rfl hv2),zp rfl (op_call _ _ 95 _ _ rfl call95 rfl (ok_path_atom_1 v2 _ hv3) rfl rfl),zp rfl (op_un _ _ _ _ rfl rfl),zz⟩ ?_
    refine pt_then ?_
    refine ht_cond _ rfl (fun hb19 => ?_) (fun hb19 => ?_)
    ·have h := cond_t hb19 h
     refine zgg hn [_,_,_,_,_,(4,vb false)] [0,1,2,3,4] [5] [zq [] 5 4] [(_,_)] rfl ⟨z2 rfl,zz⟩ ?_
     refine ht_ret ?_
     refine pt_r_in ?_
     refine pt_r_then ?_
     refine pt_r_then ?_
     refine pt_r_in ?_
     refine pt_r_then ?_
     have h := hr14 _ (ho15 _ (zi h).symm).symm
     obtain rfl := zi h
     exact pt_ret hio rfl (.tmp _ _ .nil) rfl rfl
    ·have h := cond_f hb19 h
     refine ht_skip ?_
     refine pt_inb ?_
     refine pt_then ?_
     obtain ⟨v5, hv5, h⟩ := zn h
     refine zg hn [_,_,_,_,_,(17,vi v5),(8,vi v5)] [0,1,2,3,4] [0,1,2,6] [zq [3] 5 17,⟨[5],[3],[6],[(.slot 8)]⟩] [(_,_),(_,_),(_,_),(_,_)] rfl ⟨zp rfl (oB rfl (ibind (f := int .i64) (Option.some.inj hv5))),zp rfl (LOp.drop [_] (oM rfl)),zz⟩ ?_
     exact pt_next _ (zi h).symm rfl
   ·have h := cond_f hb18 h
    refine ht_exit ?_
    refine pt_x_then ?_
    refine pt_x_then ?_
    refine pt_x_in ?_
    refine pt_pick [] (by kernel_rfl) (es' := []) rfl ?_
    exact hl13 _ (ho15 _ (zi h).symm).symm
theorem ok_path_atom (s : ByteArray) (r : Bool) (h : Sh.path_atom s = some r) : FnOK Tryd.prog 85 [.v (.string s)] (.v (.bool r)) := by
  unfold Sh.path_atom at h
  refine fn_ok func85 rfl (zl rfl) rfl rfl fun g0 hn hio => ?_
  refine zgg hn [_,(2,vb false)] [0] [0] [zq [] 1 2] [(_,_)] rfl ⟨z2 rfl,zz⟩ ?_
  refine ht_seq ?_
  refine ht_joinS h (fun (s2 : Bool) => [(2,vb s2)]) ?_ ?_
  ·rintro s2 h
   refine pt_then (ht_ret ?_)
   obtain rfl := zi h
   exact pt_ret hio rfl (.tmp _ _ .nil) rfl rfl
  ·intro u3 h hl4 hr5
   refine cond_some h (fun hg1_2 h => ?_) (fun hg1_2 h => ?_)
   ·obtain ⟨v1, hv1, h⟩ := zn h
    refine zg hn [_,(3,vs s),(4,vb (!(s.toList == z0.toList))),(5,vb true),(6,vs s),(7,vb v1),(8,vb v1),(2,vb v1)] [0] [7] [zq [0] 1 3,zq [1] 2 4,zq [2] 3 5,zq [3,0] 4 6,zq [3,4] 5 7,zq [3,5] 6 8,zq [6] 7 2] [(_,_)] rfl ⟨z1 rfl,z4 rfl rfl,z8 hg1_2 rfl,zr' rfl (oM rfl),zr' rfl (op_call _ _ 90 _ _ rfl call90 rfl (ok_path_all_of_path_atom_1 s _ hv1) rfl rfl),z3 true rfl,z2 rfl,zz⟩ ?_
    exact hl4 _ (zi h).symm
   ·refine zg hn [_,(3,vs s),(4,vb (!(s.toList == z0.toList))),(5,vb false),(6,.v undef),(7,.v undef),(8,vb false),(2,vb false)] [0] [7] [zq [0] 1 3,zq [1] 2 4,zq [2] 3 5,zq [3] 4 6,zq [3] 5 7,zq [3] 6 8,zq [6] 7 2] [(_,_)] rfl ⟨z1 rfl,z4 rfl rfl,z8 hg1_2 rfl,zt rfl,zt rfl,z3 false rfl,z2 rfl,zz⟩ ?_
    exact hl4 _ (zi h).symm
theorem ok_path_dotted_of_path_atom (mx : Int) (s : ByteArray) (r : Bool) (h : Sh.path_dotted_of_path_atom s = some r) : FnG Tryd.prog (GL mx) 80 [.v (.string s), .v (.func (.func 85) #[] #[])] (.v (.bool r)) := by
  unfold Sh.path_dotted_of_path_atom at h
  refine fn_okG func80 rfl (zl rfl) rfl rfl fun g0 hn hio => ?_
  refine zgg hn [_,_,_,(3,.box 84 [.v (.func (.func 85) #[] #[])]),(4,.box 4 [vb false])] [0,1,2] [0,2,3,4] [zq [1] 3 3,zq [] 4 4] [(_,_),(_,_),(_,_),(_,_)] rfl ⟨zp rfl (op_box _ _ _ _ rfl rfl rfl),zp rfl (op_alloc _ _ zr4),zz⟩ ?_
  refine ht_seq ?_
  refine ht_seq ?_
  obtain ⟨v1, hv1, h⟩ := zn h
  refine zg hn [_,_,_,_,(6,vs s),(7,.cloB 111 [.box 9 [vs v1.1],.box 9 [vs v1.2.1],.box 3 [vi v1.2.2]])] [0,1,2,3] [1,2,3,5] [zq [0] 4 6,zq [4] 5 7] [(_,_),(_,_),(_,_),(_,_)] rfl ⟨z1 rfl,zp rfl (op_callS _ _ 89 _ _ rfl call89 rfl rfl (ok_strings_SplitSeq s (⟨#[46]⟩ : ByteArray) _ hv1) rfl),zz⟩ ?_
  refine pt_then ?_
  refine ht_block ?_
  refine ht_pick [3,0,1,2] (by kernel_rfl) (es' := [(7,.cloB 111 [.box 9 [vs v1.1],.box 9 [vs v1.2.1],.box 3 [vi v1.2.2]]),(13,.glob (GL mx)),(3,.box 84 [.v (.func (.func 85) #[] #[])]),(4,.box 4 [vb false])]) rfl ?_
  refine ht_rangeF h 111 7 8 14 _ [13, 3, 4] call111 (fun (() : Unit) => [(13, .glob (GL mx)), (3, .box 84 [.v (.func (.func 85) #[] #[])]), (4, .box 4 [.v (.bool false)])]) (fun (() : Unit) => [(13, .glob (GL mx)), (3, .box 84 [.v (.func (.func 85) #[] #[])]), (4, .box 4 [.v (.bool false)])]) (fun l J Y hY t t' h => ok_strings_splitSeq_1 mx l J Y hY v1.1 v1.2.1 v1.2.2 t t' h) hn rfl (fun _ => rfl) (fun _ => rfl) (fun _ => rfl) rfl rfl (fun _ => ⟨rfl, rfl⟩) rfl (glIn_look 13 rfl) ?_ ?_ ?_
  ·rintro kk g0 hn hio x ⟨⟩ u h
   refine ht_es (es' := [(8,vs x),(13,.glob (GL mx)),(3,.box 84 [.v (.func (.func 85) #[] #[])]),(4,.box 4 [vb false]),(13,.v (kk.tm.getD 13 undef)),(3,.v (kk.tm.getD 3 undef)),(4,.v (kk.tm.getD 4 undef)),(14,.inv kk.ready)]) rfl ?_
   refine zg hn [_,_,_,_,_,_,_,_,(5,vs x)] [0,1,2,3,4,5,6,7] [1,2,3,4,5,6,7,8] [zq [0] 8 5] [(_,_),(_,_),(_,_),(_,_),(_,_),(_,_),(_,_),(_,_)] rfl ⟨z2 rfl,zz⟩ ?_
   refine pt_pick [0,1,2,3,4,5,7,6] (by kernel_rfl) (es' := [(13,.glob (GL mx)),(3,.box 84 [.v (.func (.func 85) #[] #[])]),(4,.box 4 [vb false]),(13,.v (kk.tm.getD 13 undef)),(3,.v (kk.tm.getD 3 undef)),(4,.v (kk.tm.getD 4 undef)),(5,vs x),(14,.inv kk.ready)]) rfl ?_
   refine pt_begin (es := [(13,.glob (GL mx)),(3,.box 84 [.v (.func (.func 85) #[] #[])]),(4,.box 4 [vb false]),(13,.v (kk.tm.getD 13 undef)),(3,.v (kk.tm.getD 3 undef)),(4,.v (kk.tm.getD 4 undef)),(5,vs x)]) 14 rfl ?_
   refine ht_block ?_
   refine ht_seq ?_
   obtain ⟨v2, hv2, h⟩ := zn h
   refine zg hn [_,_,_,_,_,_,_,_,(9,.v (.func (.func 85) #[] #[])),(10,vs x),(11,vb v2),(12,vb (!v2))] [0,1,2,3,4,5,6,7] [0,1,2,3,4,5,7,11] [zq [1] 8 9,zq [6] 9 10,zq [9,8] 10 11,zq [10] 11 12] [(_,_),(_,_),(_,_),(_,_),(_,_),(_,_),(_,_),(_,_)] rfl ⟨zp rfl (oL underlying84 rfl),z1 rfl,zp rfl (op_call _ _ 85 _ _ rfl call85 rfl (ok_path_atom x _ hv2) rfl rfl),zp rfl (op_un _ _ _ _ rfl rfl),zz⟩ ?_
   refine pt_then ?_
   refine ht_cond _ rfl (fun hb5 => ?_) (fun hb5 => ?_)
   ·have h := cond_t hb5 h
    refine zgg hn [_,_,_,_,_,_,_,_,(4,.box 4 [vb false])] [0,1,2,3,4,5,6,7] [0,1,8,3,4,5,6] [⟨[],[2],[8],[.cell 4 0]⟩] [(_,_),(_,_),(_,_),(_,_),(_,_),(_,_),(_,_)] rfl ⟨zp rfl (oS sz4 rfl),zz⟩ ?_
    refine ht_ret ?_
    refine pt_r_in ?_
    obtain rfl := zi h
    exact pt_rret 14 [13, 3, 4] _ rfl rfl (by kernel_rfl)
   ·have h := cond_f hb5 h
    refine ht_skip ?_
    refine pt_inb ?_
    refine pt_pick [0,1,2,3,4,5,6] (by kernel_rfl) (es' := [(_,_),(_,_),(_,_),(_,_),(_,_),(_,_),(_,_)]) rfl ?_
    obtain rfl := zi h
    exact pt_rnext 14 [13, 3, 4] _ rfl rfl (by kernel_rfl)
  ·rintro D ⟨⟩ h
   refine pt_inb ?_
   refine pt_then ?_
   refine zgg hn [_,_,_,(4,.box 4 [vb true])] [0,1,2] [0,3] [⟨[],[2],[3],[.cell 4 0]⟩] [(_,_),(_,_)] rfl ⟨zp rfl (oS sz4 rfl),zz⟩ ?_
   refine ht_ret ?_
   refine pt_pick [1] (by kernel_rfl) (es' := [(_,_)]) rfl ?_
   obtain rfl := zi h
   exact pt_ret hio rfl (.cell1 _ _ _ _ underlying4 rfl .nil) rfl rfl
  ·rintro D ⟨⟩ h
   refine pt_pick [2] (by kernel_rfl) (es' := [(_,_)]) rfl ?_
   refine pt_r_in ?_
   refine pt_r_then ?_
   obtain rfl := zi h
   exact pt_ret hio rfl (.cell1 _ _ _ _ underlying4 rfl .nil) rfl rfl
theorem ok_path_local (mx : Int) (s : ByteArray) (r : Bool) (h : Sh.path_local s = some r) : FnG Tryd.prog (GL mx) 72 [.v (.string s)] (.v (.bool r)) := by
  unfold Sh.path_local at h
  refine fn_okG func72 rfl (zl rfl) rfl rfl fun g0 hn hio => ?_
  refine zgg hn [_,_,(2,vb false)] [0,1] [0,1] [zq [] 2 2] [(_,_),(_,_)] rfl ⟨z2 rfl,zz⟩ ?_
  refine ht_seq ?_
  refine ht_joinS h (fun (s2 : Bool) => [(10,.glob (GL mx)),(2,vb s2)]) ?_ ?_
  ·rintro s2 h
   refine pt_then (ht_ret ?_)
   refine pt_pick [1] (by kernel_rfl) (es' := [(_,_)]) rfl ?_
   obtain rfl := zi h
   exact pt_ret hio rfl (.tmp _ _ .nil) rfl rfl
  ·intro u3 h hl4 hr5
   refine cond_some h (fun hg1_3 h => ?_) (fun hg1_3 h => ?_)
   ·obtain ⟨v1, hv1, h⟩ := zn h
    refine zg hn [_,_,(3,vs s),(4,vi (s.size : Int)),(5,vb (decide ((s.size : Int) ≤ 64))),(6,vb true),(7,vs s),(8,vb v1),(9,vb v1),(2,vb v1)] [0,1] [1,9] [zq [0] 2 3,zq [2] 3 4,zq [3] 4 5,zq [4] 5 6,zq [5,0] 6 7,zq [5,6,1] 7 8,zq [5,7] 8 9,zq [8] 9 2] [(_,_),(_,_)] rfl ⟨z1 rfl,zp rfl (oN underlying9 rfl),z4 rfl rfl,z8 hg1_3 rfl,zr' rfl (oM rfl),zr' rfl (op_callG _ _ 10 80 _ _ rfl call80 rfl rfl (fun _ h => h) (ok_path_dotted_of_path_atom mx s _ hv1) rfl rfl),z3 true rfl,z2 rfl,zz⟩ ?_
    exact hl4 _ (zi h).symm
   ·refine zg hn [_,_,(3,vs s),(4,vi (s.size : Int)),(5,vb (decide ((s.size : Int) ≤ 64))),(6,vb false),(7,.v undef),(8,.v undef),(9,vb false),(2,vb false)] [0,1] [1,9] [zq [0] 2 3,zq [2] 3 4,zq [3] 4 5,zq [4] 5 6,zq [5] 6 7,zq [5] 7 8,zq [5] 8 9,zq [8] 9 2] [(_,_),(_,_)] rfl ⟨z1 rfl,zp rfl (oN underlying9 rfl),z4 rfl rfl,z8 hg1_3 rfl,zt rfl,zt rfl,z3 false rfl,z2 rfl,zz⟩ ?_
    exact hl4 _ (zi h).symm
theorem ok_path_label_1 (c : Int) (r : Bool) (h : Sh.path_label_1 c = some r) : FnOK Tryd.prog 91 [.v (.int .u8 c)] (.v (.bool r)) := by
  unfold Sh.path_label_1 at h
  refine fn_ok func91 rfl (zl rfl) rfl rfl fun g0 hn hio => ?_
  refine zgg hn [_,(2,vb false)] [0] [0] [zq [] 1 2] [(_,_)] rfl ⟨z2 rfl,zz⟩ ?_
  refine ht_seq ?_
  refine ht_joinS h (fun (s2 : Bool) => [(2,vb s2)]) ?_ ?_
  ·rintro s2 h
   refine pt_then (ht_ret ?_)
   obtain rfl := zi h
   exact pt_ret hio rfl (.tmp _ _ .nil) rfl rfl
  ·intro u3 h hl4 hr5
   obtain ⟨v1, hv1, h⟩ := zn h
   refine cond_some h (fun hg1_2 h => ?_) (fun hg1_2 h => ?_)
   ·refine zg hn [_,(3,.v (.int .u8 c)),(4,vb v1),(5,vb true),(6,.v undef),(7,.v undef),(8,vb true),(2,vb true)] [0] [7] [zq [0] 1 3,zq [1] 2 4,zq [2] 3 5,zq [3] 4 6,zq [3] 5 7,zq [3] 6 8,zq [6] 7 2] [(_,_)] rfl ⟨z1 rfl,zp rfl (op_call _ _ 92 _ _ rfl call92 rfl (ok_path_alphanumeric c _ hv1) rfl rfl),z8 hg1_2 rfl,zf rfl,zf rfl,z3 true rfl,z2 rfl,zz⟩ ?_
    exact hl4 _ (zi h).symm
   ·refine zg hn [_,(3,.v (.int .u8 c)),(4,vb v1),(5,vb false),(6,.v (.int .u8 c)),(7,vb (c == 45)),(8,vb (c == 45)),(2,vb (c == 45))] [0] [7] [zq [0] 1 3,zq [1] 2 4,zq [2] 3 5,zq [3,0] 4 6,zq [3,4] 5 7,zq [3,5] 6 8,zq [6] 7 2] [(_,_)] rfl ⟨z1 rfl,zp rfl (op_call _ _ 92 _ _ rfl call92 rfl (ok_path_alphanumeric c _ hv1) rfl rfl),z8 hg1_2 rfl,zr' rfl (oM rfl),zr' rfl (oB rfl rfl),z3 false rfl,z2 rfl,zz⟩ ?_
    exact hl4 _ (zi h).symm
theorem ok_path_all_of_path_label_1 (s : ByteArray) (r : Bool) (h : Sh.path_all_of_path_label_1 s = some r) : FnOK Tryd.prog 90 [.v (.string s), .v (.func (.func 91) #[] #[])] (.v (.bool r)) := by
  unfold Sh.path_all_of_path_label_1 at h
  refine fn_ok func90 rfl (zl rfl) rfl rfl fun g0 hn hio => ?_
  refine zgg hn [_,_,(4,vb false)] [0,1] [0,1] [zq [] 2 4] [(_,_),(_,_)] rfl ⟨z2 rfl,zz⟩ ?_
  refine ht_seq ?_
  refine zgg hn [_,_,(6,vs s),(7,vi (s.size : Int)),(8,vi 0)] [0,1] [0,1,3,4] [zq [0] 2 6,zq [2] 3 7,zq [] 4 8] [(_,_),(_,_),(_,_),(_,_)] rfl ⟨z1 rfl,zp rfl (oN underlying9 rfl),z1 rfl,zz⟩ ?_
  refine ht_loopS h (fun (s9 : Int) => [(0,vs s),(1,.v (.func (.func 91) #[] #[])),(7,vi (s.size : Int)),(8,vi s9)]) (fun (() : Unit) => []) ?_ ?_
  ·rintro ⟨⟩ h
   refine pt_then ?_
   refine zgg hn [(4,vb true)] [] [0] [zq [] 0 4] [(_,_)] rfl ⟨z2 rfl,zz⟩ ?_
   refine ht_ret ?_
   obtain rfl := zi h
   exact pt_ret hio rfl (.tmp _ _ .nil) rfl rfl
  ·rintro u12 hl13 hr14 s9 rr17 h ho15
   refine zgg hn [_,_,_,_,(9,vb (decide (s9 < (s.size : Int))))] [0,1,2,3] [0,1,2,3,4] [zq [3,2] 4 9] [(_,_),(_,_),(_,_),(_,_),(_,_)] rfl ⟨z4 rfl rfl,zz⟩ ?_
   refine ht_seq ?_
   refine ht_cond _ rfl (fun hb18 => ?_) (fun hb18 => ?_)
   ·have h := cond_t hb18 h
    refine ht_skip ?_
    refine pt_then (ht_seq ?_)
    refine ht_block ?_
    refine zgg hn [_,_,_,_,_,(10,vi s9),(5,vi s9)] [0,1,2,3,4] [0,1,2,3,6] [zq [3] 5 10,zq [5] 6 5] [(_,_),(_,_),(_,_),(_,_),(_,_)] rfl ⟨z1 rfl,z2 rfl,zz⟩ ?_
    refine ht_seq ?_
    obtain ⟨v2, hv2, h⟩ := zn h
    obtain ⟨v3, hv3, h⟩ := zn h
    refine zg hn [_,_,_,_,_,(11,.v (.func (.func 91) #[] #[])),(12,vs s),(13,vi s9),(14,.v (.int .u8 v2)),(15,vb v3),(16,vb (!v3))] [0,1,2,3,4] [0,1,2,3,10] [zq [1] 5 11,zq [0] 6 12,zq [4] 7 13,zq [6,7] 8 14,zq [8,5] 9 15,zq [9] 10 16] [(_,_),(_,_),(_,_),(_,_),(_,_)] rfl ⟨z1 rfl,z1 rfl,z1 rfl,zp rfl (op_chr _ _ _ s9 _ underlying9 rfl rfl hv2),zp rfl (op_call _ _ 91 _ _ rfl call91 rfl (ok_path_label_1 v2 _ hv3) rfl rfl),zp rfl (op_un _ _ _ _ rfl rfl),zz⟩ ?_
    refine pt_then ?_
    refine ht_cond _ rfl (fun hb19 => ?_) (fun hb19 => ?_)
    ·have h := cond_t hb19 h
     refine zgg hn [_,_,_,_,_,(4,vb false)] [0,1,2,3,4] [5] [zq [] 5 4] [(_,_)] rfl ⟨z2 rfl,zz⟩ ?_
     refine ht_ret ?_
     refine pt_r_in ?_
     refine pt_r_then ?_
     refine pt_r_then ?_
     refine pt_r_in ?_
     refine pt_r_then ?_
     have h := hr14 _ (ho15 _ (zi h).symm).symm
     obtain rfl := zi h
     exact pt_ret hio rfl (.tmp _ _ .nil) rfl rfl
    ·have h := cond_f hb19 h
     refine ht_skip ?_
     refine pt_inb ?_
     refine pt_then ?_
     obtain ⟨v5, hv5, h⟩ := zn h
     refine zg hn [_,_,_,_,_,(17,vi v5),(8,vi v5)] [0,1,2,3,4] [0,1,2,6] [zq [3] 5 17,⟨[5],[3],[6],[(.slot 8)]⟩] [(_,_),(_,_),(_,_),(_,_)] rfl ⟨zp rfl (oB rfl (ibind (f := int .i64) (Option.some.inj hv5))),zp rfl (LOp.drop [_] (oM rfl)),zz⟩ ?_
     exact pt_next _ (zi h).symm rfl
   ·have h := cond_f hb18 h
    refine ht_exit ?_
    refine pt_x_then ?_
    refine pt_x_then ?_
    refine pt_x_in ?_
    refine pt_pick [] (by kernel_rfl) (es' := []) rfl ?_
    exact hl13 _ (ho15 _ (zi h).symm).symm
theorem ok_path_label (s : ByteArray) (r : Bool) (h : Sh.path_label s = some r) : FnOK Tryd.prog 81 [.v (.string s)] (.v (.bool r)) := by
  unfold Sh.path_label at h
  refine fn_ok func81 rfl (zl rfl) rfl rfl fun g0 hn hio => ?_
  refine zgg hn [_,(2,vb false)] [0] [0] [zq [] 1 2] [(_,_)] rfl ⟨z2 rfl,zz⟩ ?_
  refine ht_seq ?_
  refine ht_joinS h (fun (s5 : Bool) => [(2,vb s5)]) ?_ ?_
  ·rintro s5 h
   refine pt_then (ht_ret ?_)
   obtain rfl := zi h
   exact pt_ret hio rfl (.tmp _ _ .nil) rfl rfl
  ·intro u6 h hl7 hr8
   refine cond_some h (fun hg1_2 h => ?_) (fun hg1_2 h => ?_)
   ·refine cond_some h (fun hg1_7 h => ?_) (fun hg1_7 h => ?_)
    ·obtain ⟨v1, hv1, h⟩ := zn h
     refine cond_some h (fun hg1_12 h => ?_) (fun hg1_12 h => ?_)
     ·obtain ⟨v2, hv2, h⟩ := zn h
      obtain ⟨v3, hv3, h⟩ := zn h
      refine cond_some h (fun hg1_20 h => ?_) (fun hg1_20 h => ?_)
      ·obtain ⟨v4, hv4, h⟩ := zn h
       refine zg hn (_::(3,vs s)::(4,vb (!(s.toList == z0.toList)))::(5,vb true)::(6,vs s)::(7,vi (s.size : Int))::(8,vb (decide ((s.size : Int) ≤ 63)))::(9,vb (decide ((s.size : Int) ≤ 63)))::(10,vb true)::(11,vs s)::(12,.v (.int .u8 v1))::(13,vb (v1 != 45))::(14,vb (v1 != 45))::(15,vb true)::(16,vs s)::(17,vs s)::(18,vi (s.size : Int))::(19,vi v2)::(20,.v (.int .u8 v3))::(21,vb (v3 != 45))::(22,vb (v3 != 45))::(23,vb true)::(24,vs s)::(25,vb v4)::(26,vb v4)::(2,vb v4)::[]) [0] [25] (zq [0] 1 3::zq [1] 2 4::zq [2] 3 5::zq [3,0] 4 6::zq [3,4] 5 7::zq [3,5] 6 8::zq [3,6] 7 9::zq [7] 8 10::zq [8,0] 9 11::zq [8,9] 10 12::zq [8,10] 11 13::zq [8,11] 12 14::zq [12] 13 15::zq [13,0] 14 16::zq [13,0] 15 17::zq [13,15] 16 18::zq [13,16] 17 19::zq [13,14,17] 18 20::zq [13,18] 19 21::zq [13,19] 20 22::zq [20] 21 23::zq [21,0] 22 24::zq [21,22] 23 25::zq [21,23] 24 26::zq [24] 25 2::[]) [(_,_)] rfl ⟨z1 rfl,z4 rfl rfl,z8 hg1_2 rfl,zr' rfl (oM rfl),zr' rfl (oN underlying9 rfl),zr' rfl (oB rfl rfl),z3 true rfl,z8 hg1_7 rfl,zr' rfl (oM rfl),zr' rfl (op_chr _ _ _ 0 _ underlying9 rfl rfl hv1),zr' rfl (oB rfl rfl),z3 true rfl,z8 hg1_12 rfl,zr' rfl (oM rfl),zr' rfl (oM rfl),zr' rfl (oN underlying9 rfl),zr' rfl (oB rfl (ibind (f := int .i64) (Option.some.inj hv2))),zr' rfl (op_chr _ _ _ v2 _ underlying9 rfl rfl hv3),zr' rfl (oB rfl rfl),z3 true rfl,z8 hg1_20 rfl,zr' rfl (oM rfl),zr' rfl (op_call _ _ 90 _ _ rfl call90 rfl (ok_path_all_of_path_label_1 s _ hv4) rfl rfl),z3 true rfl,z2 rfl,zz⟩ ?_
       exact hl7 _ (zi h).symm
      ·refine zg hn (_::(3,vs s)::(4,vb (!(s.toList == z0.toList)))::(5,vb true)::(6,vs s)::(7,vi (s.size : Int))::(8,vb (decide ((s.size : Int) ≤ 63)))::(9,vb (decide ((s.size : Int) ≤ 63)))::(10,vb true)::(11,vs s)::(12,.v (.int .u8 v1))::(13,vb (v1 != 45))::(14,vb (v1 != 45))::(15,vb true)::(16,vs s)::(17,vs s)::(18,vi (s.size : Int))::(19,vi v2)::(20,.v (.int .u8 v3))::(21,vb (v3 != 45))::(22,vb (v3 != 45))::(23,vb false)::(24,.v undef)::(25,.v undef)::(26,vb false)::(2,vb false)::[]) [0] [25] (zq [0] 1 3::zq [1] 2 4::zq [2] 3 5::zq [3,0] 4 6::zq [3,4] 5 7::zq [3,5] 6 8::zq [3,6] 7 9::zq [7] 8 10::zq [8,0] 9 11::zq [8,9] 10 12::zq [8,10] 11 13::zq [8,11] 12 14::zq [12] 13 15::zq [13,0] 14 16::zq [13,0] 15 17::zq [13,15] 16 18::zq [13,16] 17 19::zq [13,14,17] 18 20::zq [13,18] 19 21::zq [13,19] 20 22::zq [20] 21 23::zq [21] 22 24::zq [21] 23 25::zq [21] 24 26::zq [24] 25 2::[]) [(_,_)] rfl ⟨z1 rfl,z4 rfl rfl,z8 hg1_2 rfl,zr' rfl (oM rfl),zr' rfl (oN underlying9 rfl),zr' rfl (oB rfl rfl),z3 true rfl,z8 hg1_7 rfl,zr' rfl (oM rfl),zr' rfl (op_chr _ _ _ 0 _ underlying9 rfl rfl hv1),zr' rfl (oB rfl rfl),z3 true rfl,z8 hg1_12 rfl,zr' rfl (oM rfl),zr' rfl (oM rfl),zr' rfl (oN underlying9 rfl),zr' rfl (oB rfl (ibind (f := int .i64) (Option.some.inj hv2))),zr' rfl (op_chr _ _ _ v2 _ underlying9 rfl rfl hv3),zr' rfl (oB rfl rfl),z3 true rfl,z8 hg1_20 rfl,zt rfl,zt rfl,z3 false rfl,z2 rfl,zz⟩ ?_
       exact hl7 _ (zi h).symm
     ·refine zg hn (_::(3,vs s)::(4,vb (!(s.toList == z0.toList)))::(5,vb true)::(6,vs s)::(7,vi (s.size : Int))::(8,vb (decide ((s.size : Int) ≤ 63)))::(9,vb (decide ((s.size : Int) ≤ 63)))::(10,vb true)::(11,vs s)::(12,.v (.int .u8 v1))::(13,vb (v1 != 45))::(14,vb (v1 != 45))::(15,vb false)::(16,.v undef)::(17,.v undef)::(18,.v undef)::(19,.v undef)::(20,.v undef)::(21,.v undef)::(22,vb false)::(23,vb false)::(24,.v undef)::(25,.v undef)::(26,vb false)::(2,vb false)::[]) [0] [25] (zq [0] 1 3::zq [1] 2 4::zq [2] 3 5::zq [3,0] 4 6::zq [3,4] 5 7::zq [3,5] 6 8::zq [3,6] 7 9::zq [7] 8 10::zq [8,0] 9 11::zq [8,9] 10 12::zq [8,10] 11 13::zq [8,11] 12 14::zq [12] 13 15::zq [13] 14 16::zq [13] 15 17::zq [13] 16 18::zq [13] 17 19::zq [13] 18 20::zq [13] 19 21::zq [13] 20 22::zq [20] 21 23::zq [21] 22 24::zq [21] 23 25::zq [21] 24 26::zq [24] 25 2::[]) [(_,_)] rfl ⟨z1 rfl,z4 rfl rfl,z8 hg1_2 rfl,zr' rfl (oM rfl),zr' rfl (oN underlying9 rfl),zr' rfl (oB rfl rfl),z3 true rfl,z8 hg1_7 rfl,zr' rfl (oM rfl),zr' rfl (op_chr _ _ _ 0 _ underlying9 rfl rfl hv1),zr' rfl (oB rfl rfl),z3 true rfl,z8 hg1_12 rfl,zt rfl,zt rfl,zt rfl,zt rfl,zt rfl,zt rfl,z3 false rfl,z1 rfl,zt rfl,zt rfl,z3 false rfl,z2 rfl,zz⟩ ?_
      exact hl7 _ (zi h).symm
    ·refine zg hn (_::(3,vs s)::(4,vb (!(s.toList == z0.toList)))::(5,vb true)::(6,vs s)::(7,vi (s.size : Int))::(8,vb (decide ((s.size : Int) ≤ 63)))::(9,vb (decide ((s.size : Int) ≤ 63)))::(10,vb false)::(11,.v undef)::(12,.v undef)::(13,.v undef)::(14,vb false)::(15,vb false)::(16,.v undef)::(17,.v undef)::(18,.v undef)::(19,.v undef)::(20,.v undef)::(21,.v undef)::(22,vb false)::(23,vb false)::(24,.v undef)::(25,.v undef)::(26,vb false)::(2,vb false)::[]) [0] [25] (zq [0] 1 3::zq [1] 2 4::zq [2] 3 5::zq [3,0] 4 6::zq [3,4] 5 7::zq [3,5] 6 8::zq [3,6] 7 9::zq [7] 8 10::zq [8] 9 11::zq [8] 10 12::zq [8] 11 13::zq [8] 12 14::zq [12] 13 15::zq [13] 14 16::zq [13] 15 17::zq [13] 16 18::zq [13] 17 19::zq [13] 18 20::zq [13] 19 21::zq [13] 20 22::zq [20] 21 23::zq [21] 22 24::zq [21] 23 25::zq [21] 24 26::zq [24] 25 2::[]) [(_,_)] rfl ⟨z1 rfl,z4 rfl rfl,z8 hg1_2 rfl,zr' rfl (oM rfl),zr' rfl (oN underlying9 rfl),zr' rfl (oB rfl rfl),z3 true rfl,z8 hg1_7 rfl,zt rfl,zt rfl,zt rfl,z3 false rfl,z1 rfl,zt rfl,zt rfl,zt rfl,zt rfl,zt rfl,zt rfl,z3 false rfl,z1 rfl,zt rfl,zt rfl,z3 false rfl,z2 rfl,zz⟩ ?_
     exact hl7 _ (zi h).symm
   ·refine zg hn (_::(3,vs s)::(4,vb (!(s.toList == z0.toList)))::(5,vb false)::(6,.v undef)::(7,.v undef)::(8,.v undef)::(9,vb false)::(10,vb false)::(11,.v undef)::(12,.v undef)::(13,.v undef)::(14,vb false)::(15,vb false)::(16,.v undef)::(17,.v undef)::(18,.v undef)::(19,.v undef)::(20,.v undef)::(21,.v undef)::(22,vb false)::(23,vb false)::(24,.v undef)::(25,.v undef)::(26,vb false)::(2,vb false)::[]) [0] [25] (zq [0] 1 3::zq [1] 2 4::zq [2] 3 5::zq [3] 4 6::zq [3] 5 7::zq [3] 6 8::zq [3] 7 9::zq [7] 8 10::zq [8] 9 11::zq [8] 10 12::zq [8] 11 13::zq [8] 12 14::zq [12] 13 15::zq [13] 14 16::zq [13] 15 17::zq [13] 16 18::zq [13] 17 19::zq [13] 18 20::zq [13] 19 21::zq [13] 20 22::zq [20] 21 23::zq [21] 22 24::zq [21] 23 25::zq [21] 24 26::zq [24] 25 2::[]) [(_,_)] rfl ⟨z1 rfl,z4 rfl rfl,z8 hg1_2 rfl,zt rfl,zt rfl,zt rfl,z3 false rfl,z1 rfl,zt rfl,zt rfl,zt rfl,z3 false rfl,z1 rfl,zt rfl,zt rfl,zt rfl,zt rfl,zt rfl,zt rfl,z3 false rfl,z1 rfl,zt rfl,zt rfl,z3 false rfl,z2 rfl,zz⟩ ?_
    exact hl7 _ (zi h).symm
theorem ok_path_dotted_of_path_label (mx : Int) (s : ByteArray) (r : Bool) (h : Sh.path_dotted_of_path_label s = some r) : FnG Tryd.prog (GL mx) 80 [.v (.string s), .v (.func (.func 81) #[] #[])] (.v (.bool r)) := by
  unfold Sh.path_dotted_of_path_label at h
  refine fn_okG func80 rfl (zl rfl) rfl rfl fun g0 hn hio => ?_
  refine zgg hn [_,_,_,(3,.box 84 [.v (.func (.func 81) #[] #[])]),(4,.box 4 [vb false])] [0,1,2] [0,2,3,4] [zq [1] 3 3,zq [] 4 4] [(_,_),(_,_),(_,_),(_,_)] rfl ⟨zp rfl (op_box _ _ _ _ rfl rfl rfl),zp rfl (op_alloc _ _ zr4),zz⟩ ?_
  refine ht_seq ?_
  refine ht_seq ?_
  obtain ⟨v1, hv1, h⟩ := zn h
  refine zg hn [_,_,_,_,(6,vs s),(7,.cloB 111 [.box 9 [vs v1.1],.box 9 [vs v1.2.1],.box 3 [vi v1.2.2]])] [0,1,2,3] [1,2,3,5] [zq [0] 4 6,zq [4] 5 7] [(_,_),(_,_),(_,_),(_,_)] rfl ⟨z1 rfl,zp rfl (op_callS _ _ 89 _ _ rfl call89 rfl rfl (ok_strings_SplitSeq s (⟨#[46]⟩ : ByteArray) _ hv1) rfl),zz⟩ ?_
  refine pt_then ?_
  refine ht_block ?_
  refine ht_pick [3,0,1,2] (by kernel_rfl) (es' := [(7,.cloB 111 [.box 9 [vs v1.1],.box 9 [vs v1.2.1],.box 3 [vi v1.2.2]]),(13,.glob (GL mx)),(3,.box 84 [.v (.func (.func 81) #[] #[])]),(4,.box 4 [vb false])]) rfl ?_
  refine ht_rangeF h 111 7 8 14 _ [13, 3, 4] call111 (fun (() : Unit) => [(13, .glob (GL mx)), (3, .box 84 [.v (.func (.func 81) #[] #[])]), (4, .box 4 [.v (.bool false)])]) (fun (() : Unit) => [(13, .glob (GL mx)), (3, .box 84 [.v (.func (.func 81) #[] #[])]), (4, .box 4 [.v (.bool false)])]) (fun l J Y hY t t' h => ok_strings_splitSeq_1 mx l J Y hY v1.1 v1.2.1 v1.2.2 t t' h) hn rfl (fun _ => rfl) (fun _ => rfl) (fun _ => rfl) rfl rfl (fun _ => ⟨rfl, rfl⟩) rfl (glIn_look 13 rfl) ?_ ?_ ?_
  ·rintro kk g0 hn hio x ⟨⟩ u h
   refine ht_es (es' := [(8,vs x),(13,.glob (GL mx)),(3,.box 84 [.v (.func (.func 81) #[] #[])]),(4,.box 4 [vb false]),(13,.v (kk.tm.getD 13 undef)),(3,.v (kk.tm.getD 3 undef)),(4,.v (kk.tm.getD 4 undef)),(14,.inv kk.ready)]) rfl ?_
   refine zg hn [_,_,_,_,_,_,_,_,(5,vs x)] [0,1,2,3,4,5,6,7] [1,2,3,4,5,6,7,8] [zq [0] 8 5] [(_,_),(_,_),(_,_),(_,_),(_,_),(_,_),(_,_),(_,_)] rfl ⟨z2 rfl,zz⟩ ?_
   refine pt_pick [0,1,2,3,4,5,7,6] (by kernel_rfl) (es' := [(13,.glob (GL mx)),(3,.box 84 [.v (.func (.func 81) #[] #[])]),(4,.box 4 [vb false]),(13,.v (kk.tm.getD 13 undef)),(3,.v (kk.tm.getD 3 undef)),(4,.v (kk.tm.getD 4 undef)),(5,vs x),(14,.inv kk.ready)]) rfl ?_
   refine pt_begin (es := [(13,.glob (GL mx)),(3,.box 84 [.v (.func (.func 81) #[] #[])]),(4,.box 4 [vb false]),(13,.v (kk.tm.getD 13 undef)),(3,.v (kk.tm.getD 3 undef)),(4,.v (kk.tm.getD 4 undef)),(5,vs x)]) 14 rfl ?_
   refine ht_block ?_
   refine ht_seq ?_
   obtain ⟨v2, hv2, h⟩ := zn h
   refine zg hn [_,_,_,_,_,_,_,_,(9,.v (.func (.func 81) #[] #[])),(10,vs x),(11,vb v2),(12,vb (!v2))] [0,1,2,3,4,5,6,7] [0,1,2,3,4,5,7,11] [zq [1] 8 9,zq [6] 9 10,zq [9,8] 10 11,zq [10] 11 12] [(_,_),(_,_),(_,_),(_,_),(_,_),(_,_),(_,_),(_,_)] rfl ⟨zp rfl (oL underlying84 rfl),z1 rfl,zp rfl (op_call _ _ 81 _ _ rfl call81 rfl (ok_path_label x _ hv2) rfl rfl),zp rfl (op_un _ _ _ _ rfl rfl),zz⟩ ?_
   refine pt_then ?_
   refine ht_cond _ rfl (fun hb5 => ?_) (fun hb5 => ?_)
   ·have h := cond_t hb5 h
    refine zgg hn [_,_,_,_,_,_,_,_,(4,.box 4 [vb false])] [0,1,2,3,4,5,6,7] [0,1,8,3,4,5,6] [⟨[],[2],[8],[.cell 4 0]⟩] [(_,_),(_,_),(_,_),(_,_),(_,_),(_,_),(_,_)] rfl ⟨zp rfl (oS sz4 rfl),zz⟩ ?_
    refine ht_ret ?_
    refine pt_r_in ?_
    obtain rfl := zi h
    exact pt_rret 14 [13, 3, 4] _ rfl rfl (by kernel_rfl)
   ·have h := cond_f hb5 h
    refine ht_skip ?_
    refine pt_inb ?_
    refine pt_pick [0,1,2,3,4,5,6] (by kernel_rfl) (es' := [(_,_),(_,_),(_,_),(_,_),(_,_),(_,_),(_,_)]) rfl ?_
    obtain rfl := zi h
    exact pt_rnext 14 [13, 3, 4] _ rfl rfl (by kernel_rfl)
  ·rintro D ⟨⟩ h
   refine pt_inb ?_
   refine pt_then ?_
   refine zgg hn [_,_,_,(4,.box 4 [vb true])] [0,1,2] [0,3] [⟨[],[2],[3],[.cell 4 0]⟩] [(_,_),(_,_)] rfl ⟨zp rfl (oS sz4 rfl),zz⟩ ?_
   refine ht_ret ?_
   refine pt_pick [1] (by kernel_rfl) (es' := [(_,_)]) rfl ?_
   obtain rfl := zi h
   exact pt_ret hio rfl (.cell1 _ _ _ _ underlying4 rfl .nil) rfl rfl
  ·rintro D ⟨⟩ h
   refine pt_pick [2] (by kernel_rfl) (es' := [(_,_)]) rfl ?_
   refine pt_r_in ?_
   refine pt_r_then ?_
   obtain rfl := zi h
   exact pt_ret hio rfl (.cell1 _ _ _ _ underlying4 rfl .nil) rfl rfl
theorem ok_path_Domain (mx : Int) (s : ByteArray) (r : Bool) (h : Sh.path_Domain s = some r) : FnG Tryd.prog (GL mx) 70 [.v (.string s)] (.v (.bool r)) := by
  unfold Sh.path_Domain at h
  refine fn_okG func70 rfl (zl rfl) rfl rfl fun g0 hn hio => ?_
  refine zgg hn [_,_,(2,vb false)] [0,1] [0,1] [zq [] 2 2] [(_,_),(_,_)] rfl ⟨z2 rfl,zz⟩ ?_
  refine ht_seq ?_
  refine ht_joinS h (fun (s2 : Bool) => [(10,.glob (GL mx)),(2,vb s2)]) ?_ ?_
  ·rintro s2 h
   refine pt_then (ht_ret ?_)
   refine pt_pick [1] (by kernel_rfl) (es' := [(_,_)]) rfl ?_
   obtain rfl := zi h
   exact pt_ret hio rfl (.tmp _ _ .nil) rfl rfl
  ·intro u3 h hl4 hr5
   refine cond_some h (fun hg1_3 h => ?_) (fun hg1_3 h => ?_)
   ·obtain ⟨v1, hv1, h⟩ := zn h
    refine zg hn [_,_,(3,vs s),(4,vi (s.size : Int)),(5,vb (decide ((s.size : Int) ≤ 255))),(6,vb true),(7,vs s),(8,vb v1),(9,vb v1),(2,vb v1)] [0,1] [1,9] [zq [0] 2 3,zq [2] 3 4,zq [3] 4 5,zq [4] 5 6,zq [5,0] 6 7,zq [5,6,1] 7 8,zq [5,7] 8 9,zq [8] 9 2] [(_,_),(_,_)] rfl ⟨z1 rfl,zp rfl (oN underlying9 rfl),z4 rfl rfl,z8 hg1_3 rfl,zr' rfl (oM rfl),zr' rfl (op_callG _ _ 10 80 _ _ rfl call80 rfl rfl (fun _ h => h) (ok_path_dotted_of_path_label mx s _ hv1) rfl rfl),z3 true rfl,z2 rfl,zz⟩ ?_
    exact hl4 _ (zi h).symm
   ·refine zg hn [_,_,(3,vs s),(4,vi (s.size : Int)),(5,vb (decide ((s.size : Int) ≤ 255))),(6,vb false),(7,.v undef),(8,.v undef),(9,vb false),(2,vb false)] [0,1] [1,9] [zq [0] 2 3,zq [2] 3 4,zq [3] 4 5,zq [4] 5 6,zq [5] 6 7,zq [5] 7 8,zq [5] 8 9,zq [8] 9 2] [(_,_),(_,_)] rfl ⟨z1 rfl,zp rfl (oN underlying9 rfl),z4 rfl rfl,z8 hg1_3 rfl,zt rfl,zt rfl,z3 false rfl,z2 rfl,zz⟩ ?_
    exact hl4 _ (zi h).symm
theorem ok_path_Check (mx : Int) (p : T_Path) (r : Int) (h : Sh.path_Check p = some r) : FnG Tryd.prog (GL mx) 61 [.agg [.v (.bool p.Null), .v (.string p.Local), .v (.string p.Domain)]] (.v (.int .i64 r)) := by
  unfold Sh.path_Check at h
  refine fn_okG func61 rfl (zl rfl) rfl rfl fun g0 hn hio => ?_
  refine zgg hn [_,_,(1,.box 24 [vb p.Null,vs p.Local,vs p.Domain]),(2,vi 0)] [0,1] [1,2] [zq [0] 2 1,zq [] 3 2] [(_,_),(_,_)] rfl ⟨zp rfl (op_box _ _ _ _ rfl rfl rfl),z2 rfl,zz⟩ ?_
  refine zgg hn [_,_,(5,.agg [vb p.Null,vs p.Local,vs p.Domain]),(6,.agg [vb true,vs z0,vs z0]),(7,vb ((p.Null == true) && ((p.Local.toList == z0.toList) && ((p.Domain.toList == z0.toList) && true)))),(3,vb ((p.Null == true) && ((p.Local.toList == z0.toList) && ((p.Domain.toList == z0.toList) && true))))] [0,1] [0,1,5] [zq [1] 2 5,zq [] 3 6,zq [2,3] 4 7,zq [4] 5 3] [(_,_),(_,_),(_,_)] rfl ⟨zp rfl (op_loadA _ _ _ _ _ _ _ underlying24 rfl sz24 rfl rfl (zl rfl) rfl rfl),zp rfl (op_build _ _ _ _ [1, 1, 1] _ _ underlying24 zr24 (fs24 _ underlying24) (.copy _ Src.nil) rfl rfl rfl),zp rfl (op_eq_st _ _ [.bool p.Null, .string p.Local, .string p.Domain] [.bool true, .string (⟨#[]⟩ : ByteArray), .string (⟨#[]⟩ : ByteArray)] (((p.Null == true) && ((p.Local.toList == (⟨#[]⟩ : ByteArray).toList) && ((p.Domain.toList == (⟨#[]⟩ : ByteArray).toList) && true)))) _ false (by kernel_rfl) (by kernel_rfl) (by kernel_rfl) (by kernel_rfl) (by kernel_rfl) rfl rfl rfl rfl (by kernel_rfl) rfl),z2 rfl,zz⟩ ?_
  refine ht_seq ?_
  refine ht_joinS h (fun (s3 : Bool) => [(27,.glob (GL mx)),(3,vb ((p.Null == true) && ((p.Local.toList == z0.toList) && ((p.Domain.toList == z0.toList) && true)))),(4,vb s3)]) ?_ ?_
  ·rintro s3 h
   refine pt_then (ht_seq ?_)
   refine ht_seq ?_
   refine ht_joinS h (fun (s7 : Bool) => [(27,.glob (GL mx)),(26,vb s7)]) ?_ ?_
   ·rintro s7 h
    refine pt_then ?_
    refine ht_cond _ rfl (fun hb11 => ?_) (fun hb11 => ?_)
    ·have h := cond_t hb11 h
     refine zgg hn [_,_,(2,vi 5)] [0,1] [0,2] [zq [] 2 2] [(_,_),(_,_)] rfl ⟨z2 rfl,zz⟩ ?_
     refine ht_ret ?_
     refine pt_pick [1] (by kernel_rfl) (es' := [(_,_)]) rfl ?_
     refine pt_r_then ?_
     obtain rfl := zi h
     exact pt_ret hio rfl (.tmp _ _ .nil) rfl rfl
    ·have h := cond_f hb11 h
     refine ht_skip ?_
     refine pt_then ?_
     refine zgg hn [_,_,(2,vi 0)] [0,1] [0,2] [zq [] 2 2] [(_,_),(_,_)] rfl ⟨z2 rfl,zz⟩ ?_
     refine ht_ret ?_
     refine pt_pick [1] (by kernel_rfl) (es' := [(_,_)]) rfl ?_
     obtain rfl := zi h
     exact pt_ret hio rfl (.tmp _ _ .nil) rfl rfl
   ·intro u8 h hl9 hr10
    refine cond_some h (fun hg3_2 h => ?_) (fun hg3_2 h => ?_)
    ·refine zg hn [_,_,_,(21,vb ((p.Null == true) && ((p.Local.toList == z0.toList) && ((p.Domain.toList == z0.toList) && true)))),(22,vb (!(((p.Null == true) && ((p.Local.toList == z0.toList) && ((p.Domain.toList == z0.toList) && true)))))),(23,vb true),(24,vb s3),(25,vb (!s3)),(26,vb (!s3))] [0,1,2] [0,8] [zq [1] 3 21,zq [3] 4 22,zq [4] 5 23,zq [5,2] 6 24,zq [5,6] 7 25,zq [5,7] 8 26] [(_,_),(_,_)] rfl ⟨z1 rfl,zp rfl (op_un _ _ _ _ rfl rfl),z8 hg3_2 rfl,zr' rfl (oM rfl),zr' rfl (op_un _ _ _ _ rfl rfl),z3 true rfl,zz⟩ ?_
     exact hl9 _ (zi h).symm
    ·refine zg hn [_,_,_,(21,vb ((p.Null == true) && ((p.Local.toList == z0.toList) && ((p.Domain.toList == z0.toList) && true)))),(22,vb (!(((p.Null == true) && ((p.Local.toList == z0.toList) && ((p.Domain.toList == z0.toList) && true)))))),(23,vb false),(24,.v undef),(25,.v undef),(26,vb false)] [0,1,2] [0,8] [zq [1] 3 21,zq [3] 4 22,zq [4] 5 23,zq [5] 6 24,zq [5] 7 25,zq [5] 8 26] [(_,_),(_,_)] rfl ⟨z1 rfl,zp rfl (op_un _ _ _ _ rfl rfl),z8 hg3_2 rfl,zt rfl,zt rfl,z3 false rfl,zz⟩ ?_
     exact hl9 _ (zi h).symm
  ·intro u4 h hl5 hr6
   refine cond_some h (fun hg2_3 h => ?_) (fun hg2_3 h => ?_)
   ·obtain ⟨v1, hv1, h⟩ := zn h
    refine cond_some h (fun hg2_8 h => ?_) (fun hg2_8 h => ?_)
    ·obtain ⟨v2, hv2, h⟩ := zn h
     refine zg hn (_::_::_::(8,.ptr 1 0)::(9,vb p.Null)::(10,vb (!p.Null))::(11,vb true)::(12,.ptr 1 1)::(13,vs p.Local)::(14,vb v1)::(15,vb v1)::(16,vb true)::(17,.ptr 1 2)::(18,vs p.Domain)::(19,vb v2)::(20,vb v2)::(4,vb v2)::[]) [0,1,2] [0,2,16] [zq [1] 3 8,zq [3,1] 4 9,zq [4] 5 10,zq [5] 6 11,zq [6,1] 7 12,zq [6,7,1] 8 13,zq [6,8,0] 9 14,zq [6,9] 10 15,zq [10] 11 16,zq [11,1] 12 17,zq [11,12,1] 13 18,zq [11,13,0] 14 19,zq [11,14] 15 20,zq [15] 16 4] [(_,_),(_,_),(_,_)] rfl ⟨zp rfl (oF underlying24 rfl sz4),zp rfl (oL underlying4 rfl),zp rfl (op_un _ _ _ _ rfl rfl),z8 hg2_3 rfl,zr' rfl (oF underlying24 rfl sz9),zr' rfl (oL underlying9 rfl),zr' rfl (op_callG _ _ 27 72 _ _ rfl call72 rfl rfl (fun _ h => h) (ok_path_local mx p.Local _ hv1) rfl rfl),z3 true rfl,z8 hg2_8 rfl,zr' rfl (oF underlying24 rfl sz9),zr' rfl (oL underlying9 rfl),zr' rfl (op_callG _ _ 27 70 _ _ rfl call70 rfl rfl (fun _ h => h) (ok_path_Domain mx p.Domain _ hv2) rfl rfl),z3 true rfl,z2 rfl,zz⟩ ?_
     exact hl5 _ (zi h).symm
    ·refine zg hn (_::_::_::(8,.ptr 1 0)::(9,vb p.Null)::(10,vb (!p.Null))::(11,vb true)::(12,.ptr 1 1)::(13,vs p.Local)::(14,vb v1)::(15,vb v1)::(16,vb false)::(17,.v undef)::(18,.v undef)::(19,.v undef)::(20,vb false)::(4,vb false)::[]) [0,1,2] [0,2,16] [zq [1] 3 8,zq [3,1] 4 9,zq [4] 5 10,zq [5] 6 11,zq [6,1] 7 12,zq [6,7,1] 8 13,zq [6,8,0] 9 14,zq [6,9] 10 15,zq [10] 11 16,zq [11] 12 17,zq [11] 13 18,zq [11] 14 19,zq [11] 15 20,zq [15] 16 4] [(_,_),(_,_),(_,_)] rfl ⟨zp rfl (oF underlying24 rfl sz4),zp rfl (oL underlying4 rfl),zp rfl (op_un _ _ _ _ rfl rfl),z8 hg2_3 rfl,zr' rfl (oF underlying24 rfl sz9),zr' rfl (oL underlying9 rfl),zr' rfl (op_callG _ _ 27 72 _ _ rfl call72 rfl rfl (fun _ h => h) (ok_path_local mx p.Local _ hv1) rfl rfl),z3 true rfl,z8 hg2_8 rfl,zt rfl,zt rfl,zt rfl,z3 false rfl,z2 rfl,zz⟩ ?_
     exact hl5 _ (zi h).symm
   ·refine zg hn (_::_::_::(8,.ptr 1 0)::(9,vb p.Null)::(10,vb (!p.Null))::(11,vb false)::(12,.v undef)::(13,.v undef)::(14,.v undef)::(15,vb false)::(16,vb false)::(17,.v undef)::(18,.v undef)::(19,.v undef)::(20,vb false)::(4,vb false)::[]) [0,1,2] [0,2,16] [zq [1] 3 8,zq [3,1] 4 9,zq [4] 5 10,zq [5] 6 11,zq [6] 7 12,zq [6] 8 13,zq [6] 9 14,zq [6] 10 15,zq [10] 11 16,zq [11] 12 17,zq [11] 13 18,zq [11] 14 19,zq [11] 15 20,zq [15] 16 4] [(_,_),(_,_),(_,_)] rfl ⟨zp rfl (oF underlying24 rfl sz4),zp rfl (oL underlying4 rfl),zp rfl (op_un _ _ _ _ rfl rfl),z8 hg2_3 rfl,zt rfl,zt rfl,zt rfl,z3 false rfl,z1 rfl,zt rfl,zt rfl,zt rfl,z3 false rfl,z2 rfl,zz⟩ ?_
    exact hl5 _ (zi h).symm
theorem ok_path_Parse (mx : Int) (s : ByteArray) (r : (T_Path × Int)) (h : Sh.path_Parse s = some r) : FnG Tryd.prog (GL mx) 57 [.v (.string s)] (.tup [.agg [.v (.bool r.1.Null), .v (.string r.1.Local), .v (.string r.1.Domain)], .v (.int .i64 r.2)]) := by
  unfold Sh.path_Parse at h
  refine fn_okG func57 rfl (zl rfl) rfl rfl fun g0 hn hio => ?_
  refine zgg hn [_,_,(2,.box 24 [vb false,vs z0,vs z0]),(3,vi 0)] [0,1] [0,1,2] [zq [] 2 2,zq [] 3 3] [(_,_),(_,_),(_,_)] rfl ⟨zp rfl (op_alloc _ _ zr24),z2 rfl,zz⟩ ?_
  refine ht_seq ?_
  refine zgg hn [_,_,_,(11,vs s),(12,vb (s.toList == (⟨#[60,62]⟩ : ByteArray).toList))] [0,1,2] [0,1,2,4] [zq [0] 3 11,zq [3] 4 12] [(_,_),(_,_),(_,_),(_,_)] rfl ⟨z1 rfl,z4 rfl rfl,zz⟩ ?_
  refine ht_cond _ rfl (fun hb1 => ?_) (fun hb1 => ?_)
  ·have h := cond_t hb1 h
   refine zgg hn [_,_,_,_,(13,.agg [vb true,vs z0,vs z0]),(2,.box 24 [vb true,vs z0,vs z0]),(3,vi 0)] [0,1,2,3] [1,5,6] [zq [] 4 13,⟨[4],[2],[5],[.cell 2 0,.cell 2 1,.cell 2 2]⟩,zq [] 6 3] [(_,_),(_,_),(_,_)] rfl ⟨zp rfl (op_build _ _ _ _ [1, 1, 1] _ _ underlying24 zr24 (fs24 _ underlying24) (.copy _ Src.nil) rfl rfl rfl),zp rfl (oS sz24 rfl),z2 rfl,zz⟩ ?_
   refine ht_ret ?_
   refine pt_pick [1,2] (by kernel_rfl) (es' := [(_,_),(_,_)]) rfl ?_
   refine pt_r_then ?_
   obtain rfl := zi h
   exact pt_ret hio rfl (.cellA _ _ _ _ underlying24 rfl sz24 (.tmp _ _ .nil)) rfl rfl
  ·have h := cond_f hb1 h
   refine ht_skip ?_
   refine pt_then (ht_seq ?_)
   obtain ⟨v2, hv2, h⟩ := zn h
   refine zg hn [_,_,_,_,(15,vs s),(16,.tup [vs v2.1,vb v2.2]),(14,.tup [vs v2.1,vb v2.2]),(17,vs v2.1),(18,vb v2.2),(4,vs v2.1),(5,vb v2.2)] [0,1,2,3] [1,2,9,10] [zq [0] 4 15,zq [4] 5 16,⟨[],[5],[6],[(.slot 14)]⟩,zq [6] 7 17,zq [6] 8 18,zq [7] 9 4,zq [8] 10 5] [(_,_),(_,_),(_,_),(_,_)] rfl ⟨z1 rfl,zp rfl (op_call _ _ 66 _ _ rfl call66 rfl (ok_strings_CutPrefix s (⟨#[60]⟩ : ByteArray) _ hv2) rfl rfl),zp rfl (op_move_take _ _ _ _ rfl),zp rfl (oE rfl),zp rfl (oE rfl),z2 rfl,z2 rfl,zz⟩ ?_
   refine pt_then (ht_seq ?_)
   obtain ⟨v3, hv3, h⟩ := zn h
   refine zg hn [_,_,_,_,(20,vs v2.1),(21,.tup [vs v3.1,vb v3.2]),(19,.tup [vs v3.1,vb v3.2]),(22,vs v3.1),(23,vb v3.2),(4,vs v3.1),(6,vb v3.2)] [0,1,2,3] [0,1,3,9,10] [zq [2] 4 20,zq [4] 5 21,⟨[],[5],[6],[(.slot 19)]⟩,zq [6] 7 22,zq [6] 8 23,⟨[7],[2],[9],[(.slot 4)]⟩,zq [8] 10 6] [(_,_),(_,_),(_,_),(_,_),(_,_)] rfl ⟨z1 rfl,zp rfl (op_call _ _ 67 _ _ rfl call67 rfl (ok_strings_CutSuffix v2.1 (⟨#[62]⟩ : ByteArray) _ hv3) rfl rfl),zp rfl (op_move_take _ _ _ _ rfl),zp rfl (oE rfl),zp rfl (oE rfl),zp rfl (LOp.drop [_] (op_assign _ _ _ _ rfl rfl)),z2 rfl,zz⟩ ?_
   refine pt_then (ht_seq ?_)
   obtain ⟨v4, hv4, h⟩ := zn h
   refine zg hn [_,_,_,_,_,(25,vs v3.1),(26,.tup [vs v4.1,vs v4.2.1,vb v4.2.2]),(24,.tup [vs v4.1,vs v4.2.1,vb v4.2.2]),(27,vs v4.1),(28,vs v4.2.1),(29,vb v4.2.2),(7,vs v4.1),(8,vs v4.2.1),(9,vb v4.2.2)] [0,1,2,3,4] [0,1,2,4,11,12,13] [zq [3] 5 25,zq [5] 6 26,⟨[],[6],[7],[(.slot 24)]⟩,zq [7] 8 27,zq [7] 9 28,zq [7] 10 29,zq [8] 11 7,zq [9] 12 8,zq [10] 13 9] [(_,_),(_,_),(_,_),(_,_),(_,_),(_,_),(_,_)] rfl ⟨z1 rfl,zp rfl (op_call _ _ 68 _ _ rfl call68 rfl (ok_strings_Cut v3.1 (⟨#[64]⟩ : ByteArray) _ hv4) rfl rfl),zp rfl (op_move_take _ _ _ _ rfl),zp rfl (oE rfl),zp rfl (oE rfl),zp rfl (oE rfl),z2 rfl,z2 rfl,z2 rfl,zz⟩ ?_
   refine pt_then ?_
   refine zgg hn [_,_,_,_,_,_,_,(30,vs v4.1),(31,vs v4.2.1),(32,.agg [vb false,vs v4.1,vs v4.2.1]),(10,.box 24 [vb false,vs z0,vs z0]),(10,.box 24 [vb false,vs v4.1,vs v4.2.1])] [0,1,2,3,4,5,6] [0,1,2,3,6,11] [zq [4] 7 30,zq [5] 8 31,zq [7,8] 9 32,zq [] 10 10,⟨[9],[10],[11],[.cell 10 0,.cell 10 1,.cell 10 2]⟩] [(_,_),(_,_),(_,_),(_,_),(_,_),(_,_)] rfl ⟨z1 rfl,z1 rfl,zp rfl (op_build _ _ _ _ [1, 1, 1] _ _ underlying24 zr24 (fs24 _ underlying24) (.copy _ (.copy _ Src.nil)) rfl rfl rfl),zp rfl (op_alloc _ _ zr24),zp rfl (oS sz24 rfl),zz⟩ ?_
   refine ht_seq ?_
   refine ht_seq ?_
   refine ht_joinS h (fun (s6 : Bool) => [(50,.glob (GL mx)),(2,.box 24 [vb false,vs z0,vs z0]),(10,.box 24 [vb false,vs v4.1,vs v4.2.1]),(47,vb s6)]) ?_ ?_
   ·rintro s6 h
    refine pt_then ?_
    refine ht_cond _ rfl (fun hb10 => ?_) (fun hb10 => ?_)
    ·have h := cond_t hb10 h
     refine zgg hn [_,_,_,_,(48,.agg [vb false,vs z0,vs z0]),(2,.box 24 [vb false,vs z0,vs z0]),(3,vi 5)] [0,1,2,3] [0,5,6] [zq [] 4 48,⟨[],[4,1],[5],[.cell 2 0,.cell 2 1,.cell 2 2]⟩,zq [] 6 3] [(_,_),(_,_),(_,_)] rfl ⟨zp rfl (op_build _ _ _ _ [1, 1, 1] _ _ underlying24 zr24 (fs24 _ underlying24) Src.nil rfl rfl rfl),zp rfl (op_store_self _ _ _ 48 2 3 sz24 rfl rfl rfl rfl rfl (.eq _ (.eq _ (.eq _ (.nil _)))) rfl),z2 rfl,zz⟩ ?_
     refine ht_ret ?_
     refine pt_pick [1,2] (by kernel_rfl) (es' := [(_,_),(_,_)]) rfl ?_
     refine pt_r_then ?_
     obtain rfl := zi h
     exact pt_ret hio rfl (.cellA _ _ _ _ underlying24 rfl sz24 (.tmp _ _ .nil)) rfl rfl
    ·have h := cond_f hb10 h
     refine ht_skip ?_
     refine pt_then ?_
     refine zgg hn [_,_,_,_,(49,.agg [vb false,vs v4.1,vs v4.2.1]),(2,.box 24 [vb false,vs v4.1,vs v4.2.1]),(3,vi 0)] [0,1,2,3] [0,5,6] [zq [2] 4 49,⟨[4],[1],[5],[.cell 2 0,.cell 2 1,.cell 2 2]⟩,zq [] 6 3] [(_,_),(_,_),(_,_)] rfl ⟨zp rfl (op_loadA _ _ _ _ _ _ _ underlying24 rfl sz24 rfl rfl (zl rfl) rfl rfl),zp rfl (oS sz24 rfl),z2 rfl,zz⟩ ?_
     refine ht_ret ?_
     refine pt_pick [1,2] (by kernel_rfl) (es' := [(_,_),(_,_)]) rfl ?_
     obtain rfl := zi h
     exact pt_ret hio rfl (.cellA _ _ _ _ underlying24 rfl sz24 (.tmp _ _ .nil)) rfl rfl
   ·intro u7 h hl8 hr9
    refine cond_some h (fun hg7_2 h => ?_) (fun hg7_2 h => ?_)
    ·refine zg hn (_::_::_::_::_::_::(33,vb v2.2)::(34,vb (!v2.2))::(35,vb true)::(36,.v undef)::(37,.v undef)::(38,vb true)::(39,vb true)::(40,.v undef)::(41,.v undef)::(42,vb true)::(43,vb true)::(44,.v undef)::(45,.v undef)::(46,.v undef)::(47,vb true)::[]) [0,1,2,3,4,5] [0,1,5,20] (zq [2] 6 33::zq [6] 7 34::zq [7] 8 35::zq [8] 9 36::zq [8] 10 37::zq [8] 11 38::zq [11] 12 39::zq [12] 13 40::zq [12] 14 41::zq [12] 15 42::zq [15] 16 43::zq [16] 17 44::zq [16] 18 45::zq [16] 19 46::zq [16] 20 47::[]) [(_,_),(_,_),(_,_),(_,_)] rfl ⟨z1 rfl,zp rfl (op_un _ _ _ _ rfl rfl),z8 hg7_2 rfl,zf rfl,zf rfl,z3 true rfl,z1 rfl,zf rfl,zf rfl,z3 true rfl,z1 rfl,zf rfl,zf rfl,zf rfl,z3 true rfl,zz⟩ ?_
     exact hl8 _ (zi h).symm
    ·refine cond_some h (fun hg7_6 h => ?_) (fun hg7_6 h => ?_)
     ·refine zg hn (_::_::_::_::_::_::(33,vb v2.2)::(34,vb (!v2.2))::(35,vb false)::(36,vb v3.2)::(37,vb (!v3.2))::(38,vb (!v3.2))::(39,vb true)::(40,.v undef)::(41,.v undef)::(42,vb true)::(43,vb true)::(44,.v undef)::(45,.v undef)::(46,.v undef)::(47,vb true)::[]) [0,1,2,3,4,5] [0,1,5,20] (zq [2] 6 33::zq [6] 7 34::zq [7] 8 35::zq [8,3] 9 36::zq [8,9] 10 37::zq [8,10] 11 38::zq [11] 12 39::zq [12] 13 40::zq [12] 14 41::zq [12] 15 42::zq [15] 16 43::zq [16] 17 44::zq [16] 18 45::zq [16] 19 46::zq [16] 20 47::[]) [(_,_),(_,_),(_,_),(_,_)] rfl ⟨z1 rfl,zp rfl (op_un _ _ _ _ rfl rfl),z8 hg7_2 rfl,zr' rfl (oM rfl),zr' rfl (op_un _ _ _ _ rfl rfl),z3 false rfl,z8 hg7_6 rfl,zf rfl,zf rfl,z3 true rfl,z1 rfl,zf rfl,zf rfl,zf rfl,z3 true rfl,zz⟩ ?_
      exact hl8 _ (zi h).symm
     ·refine cond_some h (fun hg7_10 h => ?_) (fun hg7_10 h => ?_)
      ·refine zg hn (_::_::_::_::_::_::(33,vb v2.2)::(34,vb (!v2.2))::(35,vb false)::(36,vb v3.2)::(37,vb (!v3.2))::(38,vb (!v3.2))::(39,vb false)::(40,vb v4.2.2)::(41,vb (!v4.2.2))::(42,vb (!v4.2.2))::(43,vb true)::(44,.v undef)::(45,.v undef)::(46,.v undef)::(47,vb true)::[]) [0,1,2,3,4,5] [0,1,5,20] (zq [2] 6 33::zq [6] 7 34::zq [7] 8 35::zq [8,3] 9 36::zq [8,9] 10 37::zq [8,10] 11 38::zq [11] 12 39::zq [12,4] 13 40::zq [12,13] 14 41::zq [12,14] 15 42::zq [15] 16 43::zq [16] 17 44::zq [16] 18 45::zq [16] 19 46::zq [16] 20 47::[]) [(_,_),(_,_),(_,_),(_,_)] rfl ⟨z1 rfl,zp rfl (op_un _ _ _ _ rfl rfl),z8 hg7_2 rfl,zr' rfl (oM rfl),zr' rfl (op_un _ _ _ _ rfl rfl),z3 false rfl,z8 hg7_6 rfl,zr' rfl (oM rfl),zr' rfl (op_un _ _ _ _ rfl rfl),z3 false rfl,z8 hg7_10 rfl,zf rfl,zf rfl,zf rfl,z3 true rfl,zz⟩ ?_
       exact hl8 _ (zi h).symm
      ·obtain ⟨v5, hv5, h⟩ := zn h
       refine zg hn (_::_::_::_::_::_::(33,vb v2.2)::(34,vb (!v2.2))::(35,vb false)::(36,vb v3.2)::(37,vb (!v3.2))::(38,vb (!v3.2))::(39,vb false)::(40,vb v4.2.2)::(41,vb (!v4.2.2))::(42,vb (!v4.2.2))::(43,vb false)::(44,.agg [vb false,vs v4.1,vs v4.2.1])::(45,vi v5)::(46,vb (v5 != 0))::(47,vb (v5 != 0))::[]) [0,1,2,3,4,5] [0,1,5,20] (zq [2] 6 33::zq [6] 7 34::zq [7] 8 35::zq [8,3] 9 36::zq [8,9] 10 37::zq [8,10] 11 38::zq [11] 12 39::zq [12,4] 13 40::zq [12,13] 14 41::zq [12,14] 15 42::zq [15] 16 43::zq [16,5] 17 44::zq [16,17,0] 18 45::zq [16,18] 19 46::zq [16,19] 20 47::[]) [(_,_),(_,_),(_,_),(_,_)] rfl ⟨z1 rfl,zp rfl (op_un _ _ _ _ rfl rfl),z8 hg7_2 rfl,zr' rfl (oM rfl),zr' rfl (op_un _ _ _ _ rfl rfl),z3 false rfl,z8 hg7_6 rfl,zr' rfl (oM rfl),zr' rfl (op_un _ _ _ _ rfl rfl),z3 false rfl,z8 hg7_10 rfl,zr' rfl (op_loadA _ _ _ _ _ _ _ underlying24 rfl sz24 rfl rfl (zl rfl) rfl rfl),zr' rfl (op_callG _ _ 50 61 _ _ rfl call61 rfl rfl (fun _ h => h) (ok_path_Check mx (T_Path.mk false v4.1 v4.2.1) _ hv5) rfl rfl),zr' rfl (oB rfl rfl),z3 false rfl,zz⟩ ?_
       exact hl8 _ (zi h).symm
theorem ok_path_Text (mx : Int) (p : T_Path) (r : (ByteArray × Int)) (h : Sh.path_Text p = some r) : FnG Tryd.prog (GL mx) 79 [.agg [.v (.bool p.Null), .v (.string p.Local), .v (.string p.Domain)]] (.tup [.v (.string r.1), .v (.int .i64 r.2)]) := by
  unfold Sh.path_Text at h
  refine fn_okG func79 rfl (zl rfl) rfl rfl fun g0 hn hio => ?_
  refine zgg hn [_,_,(1,.box 24 [vb p.Null,vs p.Local,vs p.Domain]),(2,vs z0),(3,vi 0)] [0,1] [1,2] [zq [0] 2 1,zq [] 3 2,zq [] 4 3] [(_,_),(_,_)] rfl ⟨zp rfl (op_box _ _ _ _ rfl rfl rfl),z2 rfl,z2 rfl,zz⟩ ?_
  refine ht_seq ?_
  refine ht_seq ?_
  obtain ⟨v1, hv1, h⟩ := zn h
  refine zg hn [_,_,(5,.agg [vb p.Null,vs p.Local,vs p.Domain]),(6,vi v1),(4,vi v1)] [0,1] [0,1,4] [zq [1] 2 5,zq [2,0] 3 6,zq [3] 4 4] [(_,_),(_,_),(_,_)] rfl ⟨zp rfl (op_loadA _ _ _ _ _ _ _ underlying24 rfl sz24 rfl rfl (zl rfl) rfl rfl),zp rfl (op_callG _ _ 20 61 _ _ rfl call61 rfl rfl (fun _ h => h) (ok_path_Check mx p _ hv1) rfl rfl),z2 rfl,zz⟩ ?_
  refine pt_then ?_
  refine zgg hn [_,_,_,(7,vi v1),(8,vb (v1 != 0))] [0,1,2] [0,1,2,4] [zq [2] 3 7,zq [3] 4 8] [(_,_),(_,_),(_,_),(_,_)] rfl ⟨z1 rfl,z4 rfl rfl,zz⟩ ?_
  refine ht_cond _ rfl (fun hb2 => ?_) (fun hb2 => ?_)
  ·have h := cond_t hb2 h
   refine zgg hn [_,_,_,_,(9,vi v1),(2,vs z0),(3,vi v1)] [0,1,2,3] [0,5,6] [zq [2] 4 9,zq [] 5 2,zq [4] 6 3] [(_,_),(_,_),(_,_)] rfl ⟨z1 rfl,z2 rfl,z2 rfl,zz⟩ ?_
   refine ht_ret ?_
   refine pt_pick [1,2] (by kernel_rfl) (es' := [(_,_),(_,_)]) rfl ?_
   refine pt_r_then ?_
   obtain rfl := zi h
   exact pt_ret hio rfl (.tmp _ _ (.tmp _ _ .nil)) rfl rfl
  ·have h := cond_f hb2 h
   refine ht_skip ?_
   refine pt_then (ht_seq ?_)
   refine zgg hn [_,_,_,_,(10,.ptr 1 0),(11,vb p.Null)] [0,1,2,3] [0,1,5] [zq [1] 4 10,zq [4,1] 5 11] [(_,_),(_,_),(_,_)] rfl ⟨zp rfl (oF underlying24 rfl sz4),zp rfl (oL underlying4 rfl),zz⟩ ?_
   refine ht_cond _ rfl (fun hb3 => ?_) (fun hb3 => ?_)
   ·have h := cond_t hb3 h
    refine zgg hn [_,_,_,(2,vs (⟨#[60,62]⟩ : ByteArray)),(3,vi 0)] [0,1,2] [0,3,4] [zq [] 3 2,zq [] 4 3] [(_,_),(_,_),(_,_)] rfl ⟨z2 rfl,z2 rfl,zz⟩ ?_
    refine ht_ret ?_
    refine pt_pick [1,2] (by kernel_rfl) (es' := [(_,_),(_,_)]) rfl ?_
    refine pt_r_then ?_
    obtain rfl := zi h
    exact pt_ret hio rfl (.tmp _ _ (.tmp _ _ .nil)) rfl rfl
   ·have h := cond_f hb3 h
    refine ht_skip ?_
    refine pt_then (ht_seq ?_)
    obtain ⟨v4, hv4, h⟩ := zn h
    obtain ⟨v5, hv5, h⟩ := zn h
    obtain ⟨v6, hv6, h⟩ := zn h
    obtain ⟨v7, hv7, h⟩ := zn h
    refine zg hn [_,_,_,(12,.ptr 1 1),(13,vs p.Local),(14,vs v4),(15,vs v5),(16,.ptr 1 2),(17,vs p.Domain),(18,vs v6),(19,vs v7),(2,vs v7),(3,vi 0)] [0,1,2] [0,11,12] [zq [1] 3 12,zq [3,1] 4 13,zq [4] 5 14,zq [5] 6 15,zq [1] 7 16,zq [7,1] 8 17,zq [6,8] 9 18,zq [9] 10 19,zq [10] 11 2,zq [] 12 3] [(_,_),(_,_),(_,_)] rfl ⟨zp rfl (oF underlying24 rfl sz9),zp rfl (oL underlying9 rfl),zp rfl (oB rfl (cat_ok hv4)),zp rfl (oB rfl (cat_ok hv5)),zp rfl (oF underlying24 rfl sz9),zp rfl (oL underlying9 rfl),zp rfl (oB rfl (cat_ok hv6)),zp rfl (oB rfl (cat_ok hv7)),z2 rfl,z2 rfl,zz⟩ ?_
    refine pt_then (ht_ret ?_)
    refine pt_pick [1,2] (by kernel_rfl) (es' := [(_,_),(_,_)]) rfl ?_
    obtain rfl := zi h
    exact pt_ret hio rfl (.tmp _ _ (.tmp _ _ .nil)) rfl rfl
theorem ok_report_text (mx : Int) (p : T_Path) (r : (ByteArray × Bool)) (h : Sh.report_text p = some r) : FnG Tryd.prog (GL mx) 69 [.agg [.v (.bool p.Null), .v (.string p.Local), .v (.string p.Domain)]] (.tup [.v (.string r.1), .v (.bool r.2)]) := by
  unfold Sh.report_text at h
  refine fn_okG func69 rfl (zl rfl) rfl rfl fun g0 hn hio => ?_
  refine zgg hn [_,_,(1,.box 24 [vb p.Null,vs p.Local,vs p.Domain]),(2,vs z0),(3,vb false)] [0,1] [1,2] [zq [0] 2 1,zq [] 3 2,zq [] 4 3] [(_,_),(_,_)] rfl ⟨zp rfl (op_box _ _ _ _ rfl rfl rfl),z2 rfl,z2 rfl,zz⟩ ?_
  refine ht_seq ?_
  obtain ⟨v1, hv1, h⟩ := zn h
  refine zg hn [_,_,(7,.agg [vb p.Null,vs p.Local,vs p.Domain]),(8,.tup [vs v1.1,vi v1.2]),(6,.tup [vs v1.1,vi v1.2]),(9,vs v1.1),(10,vi v1.2),(4,vs v1.1),(5,vi v1.2)] [0,1] [0,1,7,8] [zq [1] 2 7,zq [2,0] 3 8,⟨[],[3],[4],[(.slot 6)]⟩,zq [4] 5 9,zq [4] 6 10,zq [5] 7 4,zq [6] 8 5] [(_,_),(_,_),(_,_),(_,_)] rfl ⟨zp rfl (op_loadA _ _ _ _ _ _ _ underlying24 rfl sz24 rfl rfl (zl rfl) rfl rfl),zp rfl (op_callG _ _ 19 79 _ _ rfl call79 rfl rfl (fun _ h => h) (ok_path_Text mx p _ hv1) rfl rfl),zp rfl (op_move_take _ _ _ _ rfl),zp rfl (oE rfl),zp rfl (oE rfl),z2 rfl,z2 rfl,zz⟩ ?_
  refine pt_then (ht_seq ?_)
  refine ht_joinS h (fun (s2 : Bool) => [(19,.glob (GL mx)),(2,vs v1.1),(3,vb s2)]) ?_ ?_
  ·rintro s2 h
   refine pt_then (ht_ret ?_)
   refine pt_pick [1,2] (by kernel_rfl) (es' := [(_,_),(_,_)]) rfl ?_
   obtain rfl := zi h
   exact pt_ret hio rfl (.tmp _ _ (.tmp _ _ .nil)) rfl rfl
  ·intro u3 h hl4 hr5
   refine cond_some h (fun hg2_3 h => ?_) (fun hg2_3 h => ?_)
   ·refine ht_anyR (by kernel_rfl) hn (El := [_,_,_,_,(11,vs v1.1),(12,vi v1.2),(13,vb (v1.2 == 0)),(14,vb true),(15,.ptr 1 0),(16,vb p.Null),(17,vb (!p.Null)),(18,vb (!p.Null)),(2,vs v1.1),(3,vb (!p.Null))]) (init := [0,1,2,3]) (fin := [0,12,13]) (sps := [zq [2] 4 11,zq [3] 5 12,zq [5] 6 13,zq [6] 7 14,zq [7,1] 8 15,zq [7,8,1] 9 16,zq [7,9] 10 17,zq [7,10] 11 18,zq [4] 12 2,zq [11] 13 3]) (es' := [(_,_),(2,vs v1.1),(3,vb (!p.Null))]) (by kernel_rfl) rfl rfl ⟨z1 rfl,z1 rfl,z4 rfl rfl,z8 hg2_3 rfl,zr' rfl (oF underlying24 rfl sz4),zr' rfl (oL underlying4 rfl),zr' rfl (op_un _ _ _ _ rfl rfl),z3 true rfl,z2 rfl,z2 rfl,zz⟩ ?_
    exact hl4 _ (zi h).symm
   ·refine ht_anyR (by kernel_rfl) hn (El := [_,_,_,_,(11,vs v1.1),(12,vi v1.2),(13,vb (v1.2 == 0)),(14,vb false),(15,.v undef),(16,.v undef),(17,.v undef),(18,vb false),(2,vs v1.1),(3,vb false)]) (init := [0,1,2,3]) (fin := [0,12,13]) (sps := [zq [2] 4 11,zq [3] 5 12,zq [5] 6 13,zq [6] 7 14,zq [7] 8 15,zq [7] 9 16,zq [7] 10 17,zq [7] 11 18,zq [4] 12 2,zq [11] 13 3]) (es' := [(_,_),(2,vs v1.1),(3,vb false)]) (by kernel_rfl) rfl rfl ⟨z1 rfl,z1 rfl,z4 rfl rfl,z8 hg2_3 rfl,zt rfl,zt rfl,zt rfl,z3 false rfl,z2 rfl,z2 rfl,zz⟩ ?_
    exact hl4 _ (zi h).symm
theorem ok_strings_Join (l : List ByteArray) (sep r : ByteArray) (h : Sh.strings_Join l sep = some r) : FnOK Tryd.prog 71 [.fl .shr 1 (map Value.string l), .v (.string sep)] (.v (.string r)) := lib_strings_Join Tryd.strings_Join_none Tryd.strings_Join l sep r h
theorem ok_report_Build (mx : Int) (site : ByteArray) (sender : T_Path) (rcpt : T_Path) (r : ((List Int) × Int)) (h : Sh.report_Build site sender rcpt = some r) : FnG Tryd.prog (GL mx) 58 [.v (.string site), .agg [.v (.bool sender.Null), .v (.string sender.Local), .v (.string sender.Domain)], .agg [.v (.bool rcpt.Null), .v (.string rcpt.Local), .v (.string rcpt.Domain)]] (.tup [.mkr 5 (map (int .u8) r.1), .v (.int .i64 r.2)]) := by
  unfold Sh.report_Build at h
  refine fn_okG func58 rfl (zl rfl) rfl rfl fun g0 hn hio => ?_
  refine zgg hn [_,_,_,_,(4,.box 24 [vb sender.Null,vs sender.Local,vs sender.Domain]),(5,.box 24 [vb rcpt.Null,vs rcpt.Local,vs rcpt.Domain]),(6,vz),(7,vi 0)] [0,1,2,3] [0,3,4,5] [zq [1] 4 4,zq [2] 5 5,zq [] 6 6,zq [] 7 7] [(_,_),(_,_),(_,_),(_,_)] rfl ⟨zp rfl (op_box _ _ _ _ rfl rfl rfl),zp rfl (op_box _ _ _ _ rfl rfl rfl),z2 rfl,z2 rfl,zz⟩ ?_
  refine ht_seq ?_
  obtain ⟨v1, hv1, h⟩ := zn h
  refine zg hn [_,_,_,_,(14,.agg [vb sender.Null,vs sender.Local,vs sender.Domain]),(15,.tup [vs v1.1,vb v1.2]),(13,.tup [vs v1.1,vb v1.2]),(16,vs v1.1),(17,vb v1.2),(8,vs v1.1),(9,vb v1.2)] [0,1,2,3] [0,1,3,9,10] [zq [2] 4 14,zq [4,1] 5 15,⟨[],[5],[6],[(.slot 13)]⟩,zq [6] 7 16,zq [6] 8 17,zq [7] 9 8,zq [8] 10 9] [(_,_),(_,_),(_,_),(_,_),(_,_)] rfl ⟨zp rfl (op_loadA _ _ _ _ _ _ _ underlying24 rfl sz24 rfl rfl (zl rfl) rfl rfl),zp rfl (op_callG _ _ 51 69 _ _ rfl call69 rfl rfl (fun _ h => h) (ok_report_text mx sender _ hv1) rfl rfl),zp rfl (op_move_take _ _ _ _ rfl),zp rfl (oE rfl),zp rfl (oE rfl),z2 rfl,z2 rfl,zz⟩ ?_
  refine pt_then (ht_seq ?_)
  obtain ⟨v2, hv2, h⟩ := zn h
  refine zg hn [_,_,_,_,_,(19,.agg [vb rcpt.Null,vs rcpt.Local,vs rcpt.Domain]),(20,.tup [vs v2.1,vb v2.2]),(18,.tup [vs v2.1,vb v2.2]),(21,vs v2.1),(22,vb v2.2),(10,vs v2.1),(11,vb v2.2)] [0,1,2,3,4] [0,1,3,4,10,11] [zq [2] 5 19,zq [5,1] 6 20,⟨[],[6],[7],[(.slot 18)]⟩,zq [7] 8 21,zq [7] 9 22,zq [8] 10 10,zq [9] 11 11] [(_,_),(_,_),(_,_),(_,_),(_,_),(_,_)] rfl ⟨zp rfl (op_loadA _ _ _ _ _ _ _ underlying24 rfl sz24 rfl rfl (zl rfl) rfl rfl),zp rfl (op_callG _ _ 51 69 _ _ rfl call69 rfl rfl (fun _ h => h) (ok_report_text mx rcpt _ hv2) rfl rfl),zp rfl (op_move_take _ _ _ _ rfl),zp rfl (oE rfl),zp rfl (oE rfl),z2 rfl,z2 rfl,zz⟩ ?_
  refine pt_then (ht_seq ?_)
  refine ht_seq ?_
  refine ht_joinS h (fun (s19 : Bool) => [(0,vs site),(51,.glob (GL mx)),(8,vs v1.1),(10,vs v2.1),(33,vb s19)]) ?_ ?_
  ·rintro s19 h
   refine pt_then ?_
   refine ht_cond _ rfl (fun hb23 => ?_) (fun hb23 => ?_)
   ·have h := cond_t hb23 h
    refine zgg hn [_,_,_,_,_,(6,vz),(7,vi 5)] [0,1,2,3,4] [1,5,6] [zq [] 5 6,zq [] 6 7] [(_,_),(_,_),(_,_)] rfl ⟨z2 rfl,z2 rfl,zz⟩ ?_
    refine ht_ret ?_
    refine pt_pick [1,2] (by kernel_rfl) (es' := [(_,_),(_,_)]) rfl ?_
    refine pt_sub (fs := [(6,.mkr 5 (map (int .u8) [])),(7,vi 5)]) (.sub _ (sub_nil_mk 5) rfl (.same _ .nil)) ?_
    refine pt_r_then ?_
    obtain rfl := zi h
    exact pt_ret hio rfl (.tmp _ _ (.tmp _ _ .nil)) rfl rfl
   ·have h := cond_f hb23 h
    refine ht_skip ?_
    refine pt_then (ht_seq ?_)
    obtain ⟨v9, hv9, h⟩ := zn h
    obtain ⟨v10, hv10, h⟩ := zn h
    obtain ⟨v11, hv11, h⟩ := zn h
    obtain ⟨v12, hv12, h⟩ := zn h
    obtain ⟨v13, hv13, h⟩ := zn h
    obtain ⟨v14, hv14, h⟩ := zn h
    obtain ⟨v15, hv15, h⟩ := zn h
    refine zg hn (_::_::_::_::_::(34,vs site)::(35,vs v9)::(36,vs v10)::(37,vs v1.1)::(38,vs v11)::(39,vs v2.1)::(40,vs v12)::(41,vs v13)::(42,vs site)::(43,vs v14)::(44,vs v2.1)::(45,vs v15)::(46,.fl (.own 9) 1 (map Value.string ([v10,v11,(⟨#[83,117,98,106,101,99,116,58,32,85,110,100,101,108,105,118,101,114,101,100,32,109,97,105,108]⟩ : ByteArray),(⟨#[67,111,110,116,101,110,116,45,84,121,112,101,58,32,109,117,108,116,105,112,97,114,116,47,114,101,112,111,114,116,59,32,114,101,112,111,114,116,45,116,121,112,101,61,100,101,108,105,118,101,114,121,45,115,116,97,116,117,115,59,32,98,111,117,110,100,97,114,121,61,119]⟩ : ByteArray),z0,(⟨#[45,45,119]⟩ : ByteArray),(⟨#[67,111,110,116,101,110,116,45,84,121,112,101,58,32,116,101,120,116,47,112,108,97,105,110]⟩ : ByteArray),z0,v13,(⟨#[45,45,119]⟩ : ByteArray),(⟨#[67,111,110,116,101,110,116,45,84,121,112,101,58,32,109,101,115,115,97,103,101,47,100,101,108,105,118,101,114,121,45,115,116,97,116,117,115]⟩ : ByteArray),z0,v14,z0,v15,(⟨#[65,99,116,105,111,110,58,32,102,97,105,108,101,100]⟩ : ByteArray),(⟨#[83,116,97,116,117,115,58,32,52,46,52,46,55]⟩ : ByteArray),(⟨#[45,45,119,45,45]⟩ : ByteArray)])))::(12,.fl (.own 9) 1 (map Value.string ([v10,v11,(⟨#[83,117,98,106,101,99,116,58,32,85,110,100,101,108,105,118,101,114,101,100,32,109,97,105,108]⟩ : ByteArray),(⟨#[67,111,110,116,101,110,116,45,84,121,112,101,58,32,109,117,108,116,105,112,97,114,116,47,114,101,112,111,114,116,59,32,114,101,112,111,114,116,45,116,121,112,101,61,100,101,108,105,118,101,114,121,45,115,116,97,116,117,115,59,32,98,111,117,110,100,97,114,121,61,119]⟩ : ByteArray),z0,(⟨#[45,45,119]⟩ : ByteArray),(⟨#[67,111,110,116,101,110,116,45,84,121,112,101,58,32,116,101,120,116,47,112,108,97,105,110]⟩ : ByteArray),z0,v13,(⟨#[45,45,119]⟩ : ByteArray),(⟨#[67,111,110,116,101,110,116,45,84,121,112,101,58,32,109,101,115,115,97,103,101,47,100,101,108,105,118,101,114,121,45,115,116,97,116,117,115]⟩ : ByteArray),z0,v14,z0,v15,(⟨#[65,99,116,105,111,110,58,32,102,97,105,108,101,100]⟩ : ByteArray),(⟨#[83,116,97,116,117,115,58,32,52,46,52,46,55]⟩ : ByteArray),(⟨#[45,45,119,45,45]⟩ : ByteArray)])))::[]) [0,1,2,3,4] [1,18] [zq [0] 5 34,zq [5] 6 35,zq [6] 7 36,zq [2] 8 37,zq [8] 9 38,zq [3] 10 39,zq [10] 11 40,zq [11] 12 41,zq [0] 13 42,zq [13] 14 43,zq [3] 15 44,zq [15] 16 45,zq [7,9,12,14,16] 17 46,⟨[],[17],[18],[(.slot 12)]⟩] [(_,_),(_,_)] rfl ⟨z1 rfl,zp rfl (oB rfl (cat_ok hv9)),zp rfl (oB rfl (cat_ok hv10)),z1 rfl,zp rfl (oB rfl (cat_ok hv11)),z1 rfl,zp rfl (oB rfl (cat_ok hv12)),zp rfl (oB rfl (cat_ok hv13)),z1 rfl,zp rfl (oB rfl (cat_ok hv14)),z1 rfl,zp rfl (oB rfl (cat_ok hv15)),zp rfl (op_buildSlice _ _ 1 (.string ByteArray.empty) (map Value.string ([v10, v11, (⟨#[83, 117, 98, 106, 101, 99, 116, 58, 32, 85, 110, 100, 101, 108, 105, 118, 101, 114, 101, 100, 32, 109, 97, 105, 108]⟩ : ByteArray), (⟨#[67, 111, 110, 116, 101, 110, 116, 45, 84, 121, 112, 101, 58, 32, 109, 117, 108, 116, 105, 112, 97, 114, 116, 47, 114, 101, 112, 111, 114, 116, 59, 32, 114, 101, 112, 111, 114, 116, 45, 116, 121, 112, 101, 61, 100, 101, 108, 105, 118, 101, 114, 121, 45, 115, 116, 97, 116, 117, 115, 59, 32, 98, 111, 117, 110, 100, 97, 114, 121, 61, 119]⟩ : ByteArray), (⟨#[]⟩ : ByteArray), (⟨#[45, 45, 119]⟩ : ByteArray), (⟨#[67, 111, 110, 116, 101, 110, 116, 45, 84, 121, 112, 101, 58, 32, 116, 101, 120, 116, 47, 112, 108, 97, 105, 110]⟩ : ByteArray), (⟨#[]⟩ : ByteArray), v13, (⟨#[45, 45, 119]⟩ : ByteArray), (⟨#[67, 111, 110, 116, 101, 110, 116, 45, 84, 121, 112, 101, 58, 32, 109, 101, 115, 115, 97, 103, 101, 47, 100, 101, 108, 105, 118, 101, 114, 121, 45, 115, 116, 97, 116, 117, 115]⟩ : ByteArray), (⟨#[]⟩ : ByteArray), v14, (⟨#[]⟩ : ByteArray), v15, (⟨#[65, 99, 116, 105, 111, 110, 58, 32, 102, 97, 105, 108, 101, 100]⟩ : ByteArray), (⟨#[83, 116, 97, 116, 117, 115, 58, 32, 52, 46, 52, 46, 55]⟩ : ByteArray), (⟨#[45, 45, 119, 45, 45]⟩ : ByteArray)])) [(0, .string v10), (1, .string v11), (2, .string (⟨#[83, 117, 98, 106, 101, 99, 116, 58, 32, 85, 110, 100, 101, 108, 105, 118, 101, 114, 101, 100, 32, 109, 97, 105, 108]⟩ : ByteArray)), (3, .string (⟨#[67, 111, 110, 116, 101, 110, 116, 45, 84, 121, 112, 101, 58, 32, 109, 117, 108, 116, 105, 112, 97, 114, 116, 47, 114, 101, 112, 111, 114, 116, 59, 32, 114, 101, 112, 111, 114, 116, 45, 116, 121, 112, 101, 61, 100, 101, 108, 105, 118, 101, 114, 121, 45, 115, 116, 97, 116, 117, 115, 59, 32, 98, 111, 117, 110, 100, 97, 114, 121, 61, 119]⟩ : ByteArray)), (4, .string ByteArray.empty), (5, .string (⟨#[45, 45, 119]⟩ : ByteArray)), (6, .string (⟨#[67, 111, 110, 116, 101, 110, 116, 45, 84, 121, 112, 101, 58, 32, 116, 101, 120, 116, 47, 112, 108, 97, 105, 110]⟩ : ByteArray)), (7, .string ByteArray.empty), (8, .string v13), (9, .string (⟨#[45, 45, 119]⟩ : ByteArray)), (10, .string (⟨#[67, 111, 110, 116, 101, 110, 116, 45, 84, 121, 112, 101, 58, 32, 109, 101, 115, 115, 97, 103, 101, 47, 100, 101, 108, 105, 118, 101, 114, 121, 45, 115, 116, 97, 116, 117, 115]⟩ : ByteArray)), (11, .string ByteArray.empty), (12, .string v14), (13, .string ByteArray.empty), (14, .string v15), (15, .string (⟨#[65, 99, 116, 105, 111, 110, 58, 32, 102, 97, 105, 108, 101, 100]⟩ : ByteArray)), (16, .string (⟨#[83, 116, 97, 116, 117, 115, 58, 32, 52, 46, 52, 46, 55]⟩ : ByteArray)), (17, .string (⟨#[45, 45, 119, 45, 45]⟩ : ByteArray))] underlying90 sz9 zr9 (fun _ V w o a hv hes => by have e0 := rd_v hv hes (x := .tmp 36) rfl; have e1 := rd_v hv hes (x := .tmp 38) rfl; have e8 := rd_v hv hes (x := .tmp 41) rfl; have e12 := rd_v hv hes (x := .tmp 43) rfl; have e14 := rd_v hv hes (x := .tmp 45) rfl; simp only [List.map_toArray, List.map_cons, List.map_nil, e0, e1, e8, e12, e14]; try rfl) (litfill (by simp [Instr.fill, Value.cells]; rfl) (by simp [List.range, List.range.loop] <;> rfl)) (by simp [Value.oneCell']) rfl (by decide) (by decide) (by decide)),zp rfl (op_assign_take _ _ _ _ rfl),zz⟩ ?_
    refine pt_then (ht_seq ?_)
    obtain ⟨v16, hv16, h⟩ := zn h
    obtain ⟨v17, hv17, h⟩ := zn h
    obtain ⟨v18, hv18, h⟩ := zn h
    refine zg hn [_,_,(47,.fl (.own 9) 1 (map Value.string ([v10,v11,(⟨#[83,117,98,106,101,99,116,58,32,85,110,100,101,108,105,118,101,114,101,100,32,109,97,105,108]⟩ : ByteArray),(⟨#[67,111,110,116,101,110,116,45,84,121,112,101,58,32,109,117,108,116,105,112,97,114,116,47,114,101,112,111,114,116,59,32,114,101,112,111,114,116,45,116,121,112,101,61,100,101,108,105,118,101,114,121,45,115,116,97,116,117,115,59,32,98,111,117,110,100,97,114,121,61,119]⟩ : ByteArray),z0,(⟨#[45,45,119]⟩ : ByteArray),(⟨#[67,111,110,116,101,110,116,45,84,121,112,101,58,32,116,101,120,116,47,112,108,97,105,110]⟩ : ByteArray),z0,v13,(⟨#[45,45,119]⟩ : ByteArray),(⟨#[67,111,110,116,101,110,116,45,84,121,112,101,58,32,109,101,115,115,97,103,101,47,100,101,108,105,118,101,114,121,45,115,116,97,116,117,115]⟩ : ByteArray),z0,v14,z0,v15,(⟨#[65,99,116,105,111,110,58,32,102,97,105,108,101,100]⟩ : ByteArray),(⟨#[83,116,97,116,117,115,58,32,52,46,52,46,55]⟩ : ByteArray),(⟨#[45,45,119,45,45]⟩ : ByteArray)]))),(48,vs v16),(49,vs v17),(50,.mkr 5 (map (int .u8) v18)),(6,.mkr 5 (map (int .u8) v18)),(7,vi 0)] [0,1] [0,6,7] [⟨[],[1],[2],[(.slot 47)]⟩,zq [2] 3 48,zq [3] 4 49,zq [4] 5 50,⟨[],[5],[6],[(.slot 6)]⟩,zq [] 7 7] [(_,_),(_,_),(_,_)] rfl ⟨zp rfl (op_move_take _ _ _ _ rfl),zp rfl (op_call _ _ 71 _ _ rfl call71 rfl (ok_strings_Join ([v10, v11, (⟨#[83, 117, 98, 106, 101, 99, 116, 58, 32, 85, 110, 100, 101, 108, 105, 118, 101, 114, 101, 100, 32, 109, 97, 105, 108]⟩ : ByteArray), (⟨#[67, 111, 110, 116, 101, 110, 116, 45, 84, 121, 112, 101, 58, 32, 109, 117, 108, 116, 105, 112, 97, 114, 116, 47, 114, 101, 112, 111, 114, 116, 59, 32, 114, 101, 112, 111, 114, 116, 45, 116, 121, 112, 101, 61, 100, 101, 108, 105, 118, 101, 114, 121, 45, 115, 116, 97, 116, 117, 115, 59, 32, 98, 111, 117, 110, 100, 97, 114, 121, 61, 119]⟩ : ByteArray), (⟨#[]⟩ : ByteArray), (⟨#[45, 45, 119]⟩ : ByteArray), (⟨#[67, 111, 110, 116, 101, 110, 116, 45, 84, 121, 112, 101, 58, 32, 116, 101, 120, 116, 47, 112, 108, 97, 105, 110]⟩ : ByteArray), (⟨#[]⟩ : ByteArray), v13, (⟨#[45, 45, 119]⟩ : ByteArray), (⟨#[67, 111, 110, 116, 101, 110, 116, 45, 84, 121, 112, 101, 58, 32, 109, 101, 115, 115, 97, 103, 101, 47, 100, 101, 108, 105, 118, 101, 114, 121, 45, 115, 116, 97, 116, 117, 115]⟩ : ByteArray), (⟨#[]⟩ : ByteArray), v14, (⟨#[]⟩ : ByteArray), v15, (⟨#[65, 99, 116, 105, 111, 110, 58, 32, 102, 97, 105, 108, 101, 100]⟩ : ByteArray), (⟨#[83, 116, 97, 116, 117, 115, 58, 32, 52, 46, 52, 46, 55]⟩ : ByteArray), (⟨#[45, 45, 119, 45, 45]⟩ : ByteArray)]) (⟨#[13, 10]⟩ : ByteArray) _ hv16) rfl rfl),zp rfl (oB rfl (cat_ok hv17)),zp rfl ((Option.some.inj hv18) ▸ op_str_mk _ _ _ v17 underlying9 underlying25 underlying5 rfl),zp rfl (op_assign_take _ _ _ _ rfl),z2 rfl,zz⟩ ?_
    refine pt_then (ht_ret ?_)
    refine pt_pick [1,2] (by kernel_rfl) (es' := [(_,_),(_,_)]) rfl ?_
    obtain rfl := zi h
    exact pt_ret hio rfl (.tmp _ _ (.tmp _ _ .nil)) rfl rfl
  ·intro u20 h hl21 hr22
   obtain ⟨v3, hv3, h⟩ := zn h
   refine cond_some h (fun hg3_3 h => ?_) (fun hg3_3 h => ?_)
   ·refine zg hn (_::_::_::_::_::_::(23,vs site)::(24,vb v3)::(25,vb (!v3))::(26,vb true)::(27,.v undef)::(28,.v undef)::(29,vb true)::(30,vb true)::(31,.v undef)::(32,.v undef)::(33,vb true)::[]) [0,1,2,3,4,5] [0,1,2,4,16] [zq [0] 6 23,zq [6,1] 7 24,zq [7] 8 25,zq [8] 9 26,zq [9] 10 27,zq [9] 11 28,zq [9] 12 29,zq [12] 13 30,zq [13] 14 31,zq [13] 15 32,zq [13] 16 33] [(_,_),(_,_),(_,_),(_,_),(_,_)] rfl ⟨z1 rfl,zp rfl (op_callG _ _ 51 70 _ _ rfl call70 rfl rfl (fun _ h => h) (ok_path_Domain mx site _ hv3) rfl rfl),zp rfl (op_un _ _ _ _ rfl rfl),z8 hg3_3 rfl,zf rfl,zf rfl,z3 true rfl,z1 rfl,zf rfl,zf rfl,z3 true rfl,zz⟩ ?_
    exact hl21 _ (zi h).symm
   ·refine cond_some h (fun hg3_7 h => ?_) (fun hg3_7 h => ?_)
    ·refine zg hn (_::_::_::_::_::_::(23,vs site)::(24,vb v3)::(25,vb (!v3))::(26,vb false)::(27,vb v1.2)::(28,vb (!v1.2))::(29,vb (!v1.2))::(30,vb true)::(31,.v undef)::(32,.v undef)::(33,vb true)::[]) [0,1,2,3,4,5] [0,1,2,4,16] [zq [0] 6 23,zq [6,1] 7 24,zq [7] 8 25,zq [8] 9 26,zq [9,3] 10 27,zq [9,10] 11 28,zq [9,11] 12 29,zq [12] 13 30,zq [13] 14 31,zq [13] 15 32,zq [13] 16 33] [(_,_),(_,_),(_,_),(_,_),(_,_)] rfl ⟨z1 rfl,zp rfl (op_callG _ _ 51 70 _ _ rfl call70 rfl rfl (fun _ h => h) (ok_path_Domain mx site _ hv3) rfl rfl),zp rfl (op_un _ _ _ _ rfl rfl),z8 hg3_3 rfl,zr' rfl (oM rfl),zr' rfl (op_un _ _ _ _ rfl rfl),z3 false rfl,z8 hg3_7 rfl,zf rfl,zf rfl,z3 true rfl,zz⟩ ?_
     exact hl21 _ (zi h).symm
    ·refine zg hn (_::_::_::_::_::_::(23,vs site)::(24,vb v3)::(25,vb (!v3))::(26,vb false)::(27,vb v1.2)::(28,vb (!v1.2))::(29,vb (!v1.2))::(30,vb false)::(31,vb v2.2)::(32,vb (!v2.2))::(33,vb (!v2.2))::[]) [0,1,2,3,4,5] [0,1,2,4,16] [zq [0] 6 23,zq [6,1] 7 24,zq [7] 8 25,zq [8] 9 26,zq [9,3] 10 27,zq [9,10] 11 28,zq [9,11] 12 29,zq [12] 13 30,zq [13,5] 14 31,zq [13,14] 15 32,zq [13,15] 16 33] [(_,_),(_,_),(_,_),(_,_),(_,_)] rfl ⟨z1 rfl,zp rfl (op_callG _ _ 51 70 _ _ rfl call70 rfl rfl (fun _ h => h) (ok_path_Domain mx site _ hv3) rfl rfl),zp rfl (op_un _ _ _ _ rfl rfl),z8 hg3_3 rfl,zr' rfl (oM rfl),zr' rfl (op_un _ _ _ _ rfl rfl),z3 false rfl,z8 hg3_7 rfl,zr' rfl (oM rfl),zr' rfl (op_un _ _ _ _ rfl rfl),z3 false rfl,zz⟩ ?_
     exact hl21 _ (zi h).symm
theorem ok_report_Read (mx : Int) (b : (List Int)) (r : (ByteArray × T_Path × T_Path × Int)) (h : Sh.report_Read b = some r) : FnG Tryd.prog (GL mx) 43 [.fl .shr 1 (map (int .u8) b)] (.tup [.v (.string r.1), .agg [.v (.bool r.2.1.Null), .v (.string r.2.1.Local), .v (.string r.2.1.Domain)], .agg [.v (.bool r.2.2.1.Null), .v (.string r.2.2.1.Local), .v (.string r.2.2.1.Domain)], .v (.int .i64 r.2.2.2)]) := by
  unfold Sh.report_Read at h
  refine fn_okG func43 rfl (zl rfl) rfl rfl fun g0 hn hio => ?_
  refine zgg hn [_,_,(2,vs z0),(3,.box 24 [vb false,vs z0,vs z0]),(4,.box 24 [vb false,vs z0,vs z0]),(5,vi 0)] [0,1] [0,1,3,4] [zq [] 2 2,zq [] 3 3,zq [] 4 4,zq [] 5 5] [(_,_),(_,_),(_,_),(_,_)] rfl ⟨z2 rfl,zp rfl (op_alloc _ _ zr24),zp rfl (op_alloc _ _ zr24),z2 rfl,zz⟩ ?_
  refine ht_seq ?_
  obtain ⟨v1, hv1, h⟩ := zn h
  refine zg hn [_,_,_,_,(8,fb b),(9,.fr .ro false 1 (flatten (map Row_int_u8.ienc v1))),(6,.fr .ro false 1 (flatten (map Row_int_u8.ienc v1)))] [0,1,2,3] [0,1,2,3,6] [zq [0] 4 8,zq [4,1] 5 9,zq [5] 6 6] [(_,_),(_,_),(_,_),(_,_),(_,_)] rfl ⟨z1 rfl,zp rfl (op_callG _ _ 58 55 _ _ rfl call55 rfl rfl (fun _ h => h) (ok_dots_Lines mx b _ hv1) rfl rfl),z2 rfl,zz⟩ ?_
  refine pt_then (ht_seq ?_)
  refine zgg hn [_,_,_,_,_,(10,.fr .ro false 1 (flatten (map Row_int_u8.ienc v1))),(11,vi (v1.length : Int)),(12,vb (decide ((v1.length : Int) ≤ 14)))] [0,1,2,3,4] [0,1,2,3,4,7] [zq [4] 5 10,zq [5] 6 11,zq [6] 7 12] [(_,_),(_,_),(_,_),(_,_),(_,_),(_,_)] rfl ⟨z1 rfl,zp rfl (op_len_fr _ _ _ underlying99 rfl (by decide) (gflat_len Row_int_u8.ilen _)),z4 rfl rfl,zz⟩ ?_
  refine ht_cond _ rfl (fun hb2 => ?_) (fun hb2 => ?_)
  ·have h := cond_t hb2 h
   refine zgg hn [_,_,_,_,_,_,(13,.agg [vb false,vs z0,vs z0]),(14,.agg [vb false,vs z0,vs z0]),(2,vs z0),(3,.box 24 [vb false,vs z0,vs z0]),(4,.box 24 [vb false,vs z0,vs z0]),(5,vi 5)] [0,1,2,3,4,5] [1,9,10,8,11] [zq [] 6 13,zq [] 7 14,zq [] 8 2,⟨[],[6,2],[9],[.cell 3 0,.cell 3 1,.cell 3 2]⟩,⟨[],[7,3],[10],[.cell 4 0,.cell 4 1,.cell 4 2]⟩,zq [] 11 5] [(_,_),(_,_),(_,_),(_,_),(_,_)] rfl ⟨zp rfl (op_build _ _ _ _ [1, 1, 1] _ _ underlying24 zr24 (fs24 _ underlying24) Src.nil rfl rfl rfl),zp rfl (op_build _ _ _ _ [1, 1, 1] _ _ underlying24 zr24 (fs24 _ underlying24) Src.nil rfl rfl rfl),z2 rfl,zp rfl (op_store_self _ _ _ 13 3 3 sz24 rfl rfl rfl rfl rfl (.eq _ (.eq _ (.eq _ (.nil _)))) rfl),zp rfl (op_store_self _ _ _ 14 4 3 sz24 rfl rfl rfl rfl rfl (.eq _ (.eq _ (.eq _ (.nil _)))) rfl),z2 rfl,zz⟩ ?_
   refine ht_ret ?_
   refine pt_pick [3,1,2,4] (by kernel_rfl) (es' := [(_,_),(_,_),(_,_),(_,_)]) rfl ?_
   refine pt_r_then ?_
   obtain rfl := zi h
   exact pt_ret hio rfl (.tmp _ _ (.cellA _ _ _ _ underlying24 rfl sz24 (.cellA _ _ _ _ underlying24 rfl sz24 (.tmp _ _ .nil)))) rfl rfl
  ·have h := cond_f hb2 h
   refine ht_skip ?_
   refine pt_then (ht_seq ?_)
   obtain ⟨v3, hv3, h⟩ := zn h
   obtain ⟨v4, hv4, h⟩ := zn h
   obtain ⟨v5, hv5, h⟩ := zn h
   obtain ⟨v6, hv6, h⟩ := zn h
   refine zg hn [_,_,_,_,_,_,(15,.fr .ro false 1 (flatten (map Row_int_u8.ienc v1))),(16,.eref (.slot 15) (v3 * 1)),(17,.fl .ro 1 (map (int .u8) v4)),(18,vs v5),(19,vs v6),(2,vs v6)] [0,1,2,3,4,5] [0,1,2,3,4,11] [zq [4] 6 15,zq [6] 7 16,zq [7,6] 8 17,zq [8] 9 18,zq [9] 10 19,zq [10] 11 2] [(_,_),(_,_),(_,_),(_,_),(_,_),(_,_)] rfl ⟨z1 rfl,zp rfl (op_ix_fr _ _ _ _ _ _ _ _ underlying99 sz25 (by decide) rfl rfl rfl (ix_ok hv3).1 (gflat_lt Row_int_u8.ilen (ix_ok hv3).2) rfl),zp rfl (op_load_fr _ _ _ _ _ _ _ underlying25 rfl rfl rfl (gflat_cell0 Row_int_u8.ilen hv4 rfl) (.fl _ _ rfl)),zp rfl ((Option.some.inj hv5) ▸ op_bytes_str _ _ _ v4 underlying25 underlying9 underlying5 rfl),zp rfl (op_call _ _ 56 _ _ rfl call56 rfl (ok_strings_TrimPrefix v5 (⟨#[82, 101, 112, 111, 114, 116, 105, 110, 103, 45, 77, 84, 65, 58, 32, 100, 110, 115, 59, 32]⟩ : ByteArray) _ hv6) rfl rfl),z2 rfl,zz⟩ ?_
   refine pt_then (ht_seq ?_)
   obtain ⟨v7, hv7, h⟩ := zn h
   obtain ⟨v8, hv8, h⟩ := zn h
   obtain ⟨v9, hv9, h⟩ := zn h
   obtain ⟨v10, hv10, h⟩ := zn h
   obtain ⟨v11, hv11, h⟩ := zn h
   refine zg hn (_::_::_::_::_::_::(21,.fr .ro false 1 (flatten (map Row_int_u8.ienc v1)))::(22,.eref (.slot 21) (v7 * 1))::(23,.fl .ro 1 (map (int .u8) v8))::(24,vs v9)::(25,vs v10)::(26,.tup [.agg [vb v11.1.Null,vs v11.1.Local,vs v11.1.Domain],vi v11.2])::(20,.tup [.agg [vb v11.1.Null,vs v11.1.Local,vs v11.1.Domain],vi v11.2])::(27,.agg [vb v11.1.Null,vs v11.1.Local,vs v11.1.Domain])::(28,vi v11.2)::(3,.box 24 [vb v11.1.Null,vs v11.1.Local,vs v11.1.Domain])::[]) [0,1,2,3,4,5] [0,1,15,3,4,5] [zq [4] 6 21,zq [6] 7 22,zq [7,6] 8 23,zq [8] 9 24,zq [9] 10 25,zq [10,1] 11 26,⟨[],[11],[12],[(.slot 20)]⟩,zq [12] 13 27,zq [12] 14 28,⟨[13],[2],[15],[.cell 3 0,.cell 3 1,.cell 3 2]⟩] [(_,_),(_,_),(_,_),(_,_),(_,_),(_,_)] rfl ⟨z1 rfl,zp rfl (op_ix_fr _ _ _ _ _ _ _ _ underlying99 sz25 (by decide) rfl rfl rfl (ix_ok hv7).1 (gflat_lt Row_int_u8.ilen (ix_ok hv7).2) rfl),zp rfl (op_load_fr _ _ _ _ _ _ _ underlying25 rfl rfl rfl (gflat_cell0 Row_int_u8.ilen hv8 rfl) (.fl _ _ rfl)),zp rfl ((Option.some.inj hv9) ▸ op_bytes_str _ _ _ v8 underlying25 underlying9 underlying5 rfl),zp rfl (op_call _ _ 56 _ _ rfl call56 rfl (ok_strings_TrimPrefix v9 (⟨#[84, 111, 58, 32]⟩ : ByteArray) _ hv10) rfl rfl),zp rfl (op_callG _ _ 58 57 _ _ rfl call57 rfl rfl (fun _ h => h) (ok_path_Parse mx v10 _ hv11) rfl rfl),zp rfl (op_move_take _ _ _ _ rfl),zp rfl (op_extract_no _ _ _ _ _ _ rfl rfl (zl rfl) rfl rfl),zp rfl (oE rfl),zp rfl (oS sz24 rfl),zz⟩ ?_
   refine pt_then (ht_seq ?_)
   obtain ⟨v12, hv12, h⟩ := zn h
   obtain ⟨v13, hv13, h⟩ := zn h
   obtain ⟨v14, hv14, h⟩ := zn h
   obtain ⟨v15, hv15, h⟩ := zn h
   obtain ⟨v16, hv16, h⟩ := zn h
   refine zg hn (_::_::_::_::_::_::(30,.fr .ro false 1 (flatten (map Row_int_u8.ienc v1)))::(31,.eref (.slot 30) (v12 * 1))::(32,.fl .ro 1 (map (int .u8) v13))::(33,vs v14)::(34,vs v15)::(35,.tup [.agg [vb v16.1.Null,vs v16.1.Local,vs v16.1.Domain],vi v16.2])::(29,.tup [.agg [vb v16.1.Null,vs v16.1.Local,vs v16.1.Domain],vi v16.2])::(36,.agg [vb v16.1.Null,vs v16.1.Local,vs v16.1.Domain])::(37,vi v16.2)::(4,.box 24 [vb v16.1.Null,vs v16.1.Local,vs v16.1.Domain])::[]) [0,1,2,3,4,5] [0,1,2,15,5] [zq [4] 6 30,zq [6] 7 31,zq [7,6] 8 32,zq [8] 9 33,zq [9] 10 34,zq [10,1] 11 35,⟨[],[11],[12],[(.slot 29)]⟩,zq [12] 13 36,zq [12] 14 37,⟨[13],[3],[15],[.cell 4 0,.cell 4 1,.cell 4 2]⟩] [(_,_),(_,_),(_,_),(_,_),(_,_)] rfl ⟨z1 rfl,zp rfl (op_ix_fr _ _ _ _ _ _ _ _ underlying99 sz25 (by decide) rfl rfl rfl (ix_ok hv12).1 (gflat_lt Row_int_u8.ilen (ix_ok hv12).2) rfl),zp rfl (op_load_fr _ _ _ _ _ _ _ underlying25 rfl rfl rfl (gflat_cell0 Row_int_u8.ilen hv13 rfl) (.fl _ _ rfl)),zp rfl ((Option.some.inj hv14) ▸ op_bytes_str _ _ _ v13 underlying25 underlying9 underlying5 rfl),zp rfl (op_call _ _ 56 _ _ rfl call56 rfl (ok_strings_TrimPrefix v14 (⟨#[70, 105, 110, 97, 108, 45, 82, 101, 99, 105, 112, 105, 101, 110, 116, 58, 32, 114, 102, 99, 56, 50, 50, 59, 32]⟩ : ByteArray) _ hv15) rfl rfl),zp rfl (op_callG _ _ 58 57 _ _ rfl call57 rfl rfl (fun _ h => h) (ok_path_Parse mx v15 _ hv16) rfl rfl),zp rfl (op_move_take _ _ _ _ rfl),zp rfl (op_extract_no _ _ _ _ _ _ rfl rfl (zl rfl) rfl rfl),zp rfl (oE rfl),zp rfl (oS sz24 rfl),zz⟩ ?_
   refine pt_then (ht_seq ?_)
   obtain ⟨v17, hv17, h⟩ := zn h
   refine zg hn (_::_::_::_::_::(39,vs v6)::(40,.agg [vb v11.1.Null,vs v11.1.Local,vs v11.1.Domain])::(41,.agg [vb v16.1.Null,vs v16.1.Local,vs v16.1.Domain])::(42,.tup [.mkr 5 (map (int .u8) v17.1),vi v17.2])::(38,.tup [.mkr 5 (map (int .u8) v17.1),vi v17.2])::(43,.mkr 5 (map (int .u8) v17.1))::(38,.tup [.any,vi v17.2])::(44,vi v17.2)::(7,.mkr 5 (map (int .u8) v17.1))::(5,vi v17.2)::[]) [0,1,2,3,4] [0,1,2,3,4,13,14] [zq [4] 5 39,zq [2] 6 40,zq [3] 7 41,zq [5,6,7,1] 8 42,⟨[],[8],[9],[(.slot 38)]⟩,⟨[],[9],[11,10],[(.slot 43)]⟩,zq [11] 12 44,⟨[],[10],[13],[(.slot 7)]⟩,zq [12] 14 5] [(_,_),(_,_),(_,_),(_,_),(_,_),(_,_),(_,_)] rfl ⟨z1 rfl,zp rfl (op_loadA _ _ _ _ _ _ _ underlying24 rfl sz24 rfl rfl (zl rfl) rfl rfl),zp rfl (op_loadA _ _ _ _ _ _ _ underlying24 rfl sz24 rfl rfl (zl rfl) rfl rfl),zp rfl (op_callG _ _ 58 58 _ _ rfl call58 rfl rfl (fun _ h => h) (ok_report_Build mx v6 (T_Path.mk v11.1.Null v11.1.Local v11.1.Domain) (T_Path.mk v16.1.Null v16.1.Local v16.1.Domain) _ hv17) rfl rfl),zp rfl (op_move_take _ _ _ _ rfl),zp rfl (op_extract_take _ _ _ _ _ rfl (zl rfl) rfl rfl (by decide) rfl),zp rfl (oE rfl),zp rfl (op_assign_take _ _ _ _ rfl),z2 rfl,zz⟩ ?_
   refine pt_then (ht_seq ?_)
   refine ht_seq ?_
   refine ht_joinS h (fun (s19 : Bool) => [(58,.glob (GL mx)),(3,.box 24 [vb v11.1.Null,vs v11.1.Local,vs v11.1.Domain]),(4,.box 24 [vb v16.1.Null,vs v16.1.Local,vs v16.1.Domain]),(2,vs v6),(52,vb s19)]) ?_ ?_
   ·rintro s19 h
    refine pt_then ?_
    refine ht_cond _ rfl (fun hb23 => ?_) (fun hb23 => ?_)
    ·have h := cond_t hb23 h
     refine zgg hn [_,_,_,_,_,(53,.agg [vb false,vs z0,vs z0]),(54,.agg [vb false,vs z0,vs z0]),(2,vs z0),(3,.box 24 [vb false,vs z0,vs z0]),(4,.box 24 [vb false,vs z0,vs z0]),(5,vi 5)] [0,1,2,3,4] [0,8,9,7,10] [zq [] 5 53,zq [] 6 54,⟨[],[3],[7],[(.slot 2)]⟩,⟨[5],[1],[8],[.cell 3 0,.cell 3 1,.cell 3 2]⟩,⟨[6],[2],[9],[.cell 4 0,.cell 4 1,.cell 4 2]⟩,zq [] 10 5] [(_,_),(_,_),(_,_),(_,_),(_,_)] rfl ⟨zp rfl (op_build _ _ _ _ [1, 1, 1] _ _ underlying24 zr24 (fs24 _ underlying24) Src.nil rfl rfl rfl),zp rfl (op_build _ _ _ _ [1, 1, 1] _ _ underlying24 zr24 (fs24 _ underlying24) Src.nil rfl rfl rfl),zp rfl (LOp.drop [_] (op_assign _ _ _ _ rfl rfl)),zp rfl (oS sz24 rfl),zp rfl (oS sz24 rfl),z2 rfl,zz⟩ ?_
     refine ht_ret ?_
     refine pt_pick [3,1,2,4] (by kernel_rfl) (es' := [(_,_),(_,_),(_,_),(_,_)]) rfl ?_
     refine pt_r_then ?_
     obtain rfl := zi h
     exact pt_ret hio rfl (.tmp _ _ (.cellA _ _ _ _ underlying24 rfl sz24 (.cellA _ _ _ _ underlying24 rfl sz24 (.tmp _ _ .nil)))) rfl rfl
    ·have h := cond_f hb23 h
     refine ht_skip ?_
     refine pt_then (ht_seq ?_)
     refine ht_anyR (by kernel_rfl) hn (El := [_,_,_,_,_,(55,vs v6),(56,.agg [vb v11.1.Null,vs v11.1.Local,vs v11.1.Domain]),(57,.agg [vb v16.1.Null,vs v16.1.Local,vs v16.1.Domain]),(2,vs v6),(3,.box 24 [vb v11.1.Null,vs v11.1.Local,vs v11.1.Domain]),(4,.box 24 [vb v16.1.Null,vs v16.1.Local,vs v16.1.Domain]),(5,vi 0)]) (init := [0,1,2,3,4]) (fin := [0,9,10,8,11]) (sps := [zq [3] 5 55,zq [1] 6 56,zq [2] 7 57,⟨[5],[3],[8],[(.slot 2)]⟩,⟨[],[6,1],[9],[.cell 3 0,.cell 3 1,.cell 3 2]⟩,⟨[],[7,2],[10],[.cell 4 0,.cell 4 1,.cell 4 2]⟩,zq [] 11 5]) (es' := [(_,_),(3,.box 24 [vb v11.1.Null,vs v11.1.Local,vs v11.1.Domain]),(4,.box 24 [vb v16.1.Null,vs v16.1.Local,vs v16.1.Domain]),(2,vs v6),(5,vi 0)]) (by kernel_rfl) rfl rfl ⟨z1 rfl,zp rfl (op_loadA _ _ _ _ _ _ _ underlying24 rfl sz24 rfl rfl (zl rfl) rfl rfl),zp rfl (op_loadA _ _ _ _ _ _ _ underlying24 rfl sz24 rfl rfl (zl rfl) rfl rfl),zp rfl (LOp.drop [_] (op_assign _ _ _ _ rfl rfl)),zp rfl (op_store_self _ _ _ 56 3 3 sz24 rfl rfl rfl rfl rfl (.eq _ (.eq _ (.eq _ (.nil _)))) rfl),zp rfl (op_store_self _ _ _ 57 4 3 sz24 rfl rfl rfl rfl rfl (.eq _ (.eq _ (.eq _ (.nil _)))) rfl),z2 rfl,zz⟩ ?_
     refine pt_then (ht_ret ?_)
     refine pt_pick [3,1,2,4] (by kernel_rfl) (es' := [(_,_),(_,_),(_,_),(_,_)]) rfl ?_
     obtain rfl := zi h
     exact pt_ret hio rfl (.tmp _ _ (.cellA _ _ _ _ underlying24 rfl sz24 (.cellA _ _ _ _ underlying24 rfl sz24 (.tmp _ _ .nil)))) rfl rfl
   ·intro u20 h hl21 hr22
    refine cond_some h (fun hg8_2 h => ?_) (fun hg8_2 h => ?_)
    ·refine zg hn (_::_::_::_::_::_::_::(45,vi v17.2)::(46,vb (v17.2 != 0))::(47,vb true)::(48,.v undef)::(49,.v undef)::(50,.v undef)::(51,.v undef)::(52,vb true)::[]) [0,1,2,3,4,5,6] [1,2,3,4,14] [zq [6] 7 45,zq [7] 8 46,zq [8] 9 47,zq [9] 10 48,zq [9] 11 49,zq [9] 12 50,zq [9] 13 51,zq [9] 14 52] [(_,_),(_,_),(_,_),(_,_),(_,_)] rfl ⟨z1 rfl,z4 rfl rfl,z8 hg8_2 rfl,zf rfl,zf rfl,zf rfl,zf rfl,z3 true rfl,zz⟩ ?_
     exact hl21 _ (zi h).symm
    ·obtain ⟨v18, hv18, h⟩ := zn h
     refine zg hn (_::_::_::_::_::_::_::(45,vi v17.2)::(46,vb (v17.2 != 0))::(47,vb false)::(48,.mkr 5 (map (int .u8) v17.1))::(49,fb b)::(50,vb v18)::(51,vb (!v18))::(52,vb (!v18))::[]) [0,1,2,3,4,5,6] [1,2,3,4,14] [zq [6] 7 45,zq [7] 8 46,zq [8] 9 47,⟨[9],[5],[10],[(.slot 48)]⟩,zq [9,0] 11 49,zq [9,10,11] 12 50,zq [9,12] 13 51,zq [9,13] 14 52] [(_,_),(_,_),(_,_),(_,_),(_,_)] rfl ⟨z1 rfl,z4 rfl rfl,z8 hg8_2 rfl,zr' rfl (op_move_take _ _ _ _ rfl),zr' rfl (oM rfl),zr' rfl (op_call _ _ 26 _ _ rfl call26 rfl (ok_bytes_Equal v17.1 b _ hv18) rfl rfl),zr' rfl (op_un _ _ _ _ rfl rfl),z3 false rfl,zz⟩ ?_
     exact hl21 _ (zi h).symm
theorem ok_tally_reports (mx : Int) (b : (List Int)) (to_ : T_Path) (r : Bool) (h : Sh.tally_reports b to_ = some r) : FnG Tryd.prog (GL mx) 27 [.fl .shr 1 (map (int .u8) b), .agg [.v (.bool to_.Null), .v (.string to_.Local), .v (.string to_.Domain)]] (.v (.bool r)) := by
  unfold Sh.tally_reports at h
  refine fn_okG func27 rfl (zl rfl) rfl rfl fun g0 hn hio => ?_
  refine zgg hn [_,_,_,(3,.box 24 [vb to_.Null,vs to_.Local,vs to_.Domain]),(4,vb false)] [0,1,2] [0,2,3] [zq [1] 3 3,zq [] 4 4] [(_,_),(_,_),(_,_)] rfl ⟨zp rfl (op_box _ _ _ _ rfl rfl rfl),z2 rfl,zz⟩ ?_
  refine ht_seq ?_
  obtain ⟨v1, hv1, h⟩ := zn h
  refine zg hn (_::_::_::(10,fb b)::(11,.tup [vs v1.1,.agg [vb v1.2.1.Null,vs v1.2.1.Local,vs v1.2.1.Domain],.agg [vb v1.2.2.1.Null,vs v1.2.2.1.Local,vs v1.2.2.1.Domain],vi v1.2.2.2])::(9,.tup [vs v1.1,.agg [vb v1.2.1.Null,vs v1.2.1.Local,vs v1.2.1.Domain],.agg [vb v1.2.2.1.Null,vs v1.2.2.1.Local,vs v1.2.2.1.Domain],vi v1.2.2.2])::(12,vs v1.1)::(13,.agg [vb v1.2.1.Null,vs v1.2.1.Local,vs v1.2.1.Domain])::(14,.agg [vb v1.2.2.1.Null,vs v1.2.2.1.Local,vs v1.2.2.1.Domain])::(15,vi v1.2.2.2)::(6,.box 24 [vb false,vs z0,vs z0])::(7,.box 24 [vb false,vs z0,vs z0])::(5,vs v1.1)::(6,.box 24 [vb v1.2.1.Null,vs v1.2.1.Local,vs v1.2.1.Domain])::(7,.box 24 [vb v1.2.2.1.Null,vs v1.2.2.1.Local,vs v1.2.2.1.Domain])::(8,vi v1.2.2.2)::[]) [0,1,2] [1,2,14,15] [zq [0] 3 10,zq [3,1] 4 11,⟨[],[4],[5],[(.slot 9)]⟩,zq [5] 6 12,zq [5] 7 13,zq [5] 8 14,zq [5] 9 15,zq [] 10 6,zq [] 11 7,zq [6] 12 5,⟨[7],[10],[13],[.cell 6 0,.cell 6 1,.cell 6 2]⟩,⟨[8],[11],[14],[.cell 7 0,.cell 7 1,.cell 7 2]⟩,zq [9] 15 8] [(_,_),(_,_),(_,_),(_,_)] rfl ⟨z1 rfl,zp rfl (op_callG _ _ 23 43 _ _ rfl call43 rfl rfl (fun _ h => h) (ok_report_Read mx b _ hv1) rfl rfl),zp rfl (op_move_take _ _ _ _ rfl),zp rfl (oE rfl),zp rfl (op_extract_no _ _ _ _ _ _ rfl rfl (zl rfl) rfl rfl),zp rfl (op_extract_no _ _ _ _ _ _ rfl rfl (zl rfl) rfl rfl),zp rfl (oE rfl),zp rfl (op_alloc _ _ zr24),zp rfl (op_alloc _ _ zr24),z2 rfl,zp rfl (oS sz24 rfl),zp rfl (oS sz24 rfl),z2 rfl,zz⟩ ?_
  refine pt_then (ht_seq ?_)
  refine ht_joinS h (fun (s2 : Bool) => [(23,.glob (GL mx)),(4,vb s2)]) ?_ ?_
  ·rintro s2 h
   refine pt_then (ht_ret ?_)
   refine pt_pick [1] (by kernel_rfl) (es' := [(_,_)]) rfl ?_
   obtain rfl := zi h
   exact pt_ret hio rfl (.tmp _ _ .nil) rfl rfl
  ·intro u3 h hl4 hr5
   refine cond_some h (fun hg2_2 h => ?_) (fun hg2_2 h => ?_)
   ·refine zg hn [_,_,_,_,(16,vi v1.2.2.2),(17,vb (v1.2.2.2 == 0)),(18,vb true),(19,.agg [vb v1.2.2.1.Null,vs v1.2.2.1.Local,vs v1.2.2.1.Domain]),(20,.agg [vb to_.Null,vs to_.Local,vs to_.Domain]),(21,vb ((v1.2.2.1.Null == to_.Null) && ((v1.2.2.1.Local.toList == to_.Local.toList) && ((v1.2.2.1.Domain.toList == to_.Domain.toList) && true)))),(22,vb ((v1.2.2.1.Null == to_.Null) && ((v1.2.2.1.Local.toList == to_.Local.toList) && ((v1.2.2.1.Domain.toList == to_.Domain.toList) && true)))),(4,vb ((v1.2.2.1.Null == to_.Null) && ((v1.2.2.1.Local.toList == to_.Local.toList) && ((v1.2.2.1.Domain.toList == to_.Domain.toList) && true))))] [0,1,2,3] [0,11] [zq [3] 4 16,zq [4] 5 17,zq [5] 6 18,zq [6,2] 7 19,zq [6,1] 8 20,zq [6,7,8] 9 21,zq [6,9] 10 22,zq [10] 11 4] [(_,_),(_,_)] rfl ⟨z1 rfl,z4 rfl rfl,z8 hg2_2 rfl,zr' rfl (op_loadA _ _ _ _ _ _ _ underlying24 rfl sz24 rfl rfl (zl rfl) rfl rfl),zr' rfl (op_loadA _ _ _ _ _ _ _ underlying24 rfl sz24 rfl rfl (zl rfl) rfl rfl),zr' rfl (op_eq_st _ _ [.bool v1.2.2.1.Null, .string v1.2.2.1.Local, .string v1.2.2.1.Domain] [.bool to_.Null, .string to_.Local, .string to_.Domain] (((v1.2.2.1.Null == to_.Null) && ((v1.2.2.1.Local.toList == to_.Local.toList) && ((v1.2.2.1.Domain.toList == to_.Domain.toList) && true)))) _ false (by kernel_rfl) (by kernel_rfl) (by kernel_rfl) (by kernel_rfl) (by kernel_rfl) rfl rfl rfl rfl (by kernel_rfl) rfl),z3 true rfl,z2 rfl,zz⟩ ?_
    exact hl4 _ (zi h).symm
   ·refine zg hn [_,_,_,_,(16,vi v1.2.2.2),(17,vb (v1.2.2.2 == 0)),(18,vb false),(19,.v undef),(20,.v undef),(21,.v undef),(22,vb false),(4,vb false)] [0,1,2,3] [0,11] [zq [3] 4 16,zq [4] 5 17,zq [5] 6 18,zq [6] 7 19,zq [6] 8 20,zq [6] 9 21,zq [6] 10 22,zq [10] 11 4] [(_,_),(_,_)] rfl ⟨z1 rfl,z4 rfl rfl,z8 hg2_2 rfl,zt rfl,zt rfl,zt rfl,z3 false rfl,z2 rfl,zz⟩ ?_
    exact hl4 _ (zi h).symm
theorem ok_tally_Of (mx : Int) (l : (List T_Event)) (site : Int) (to_ : T_Path) (body : (List Int)) (r : (Int × Int)) (h : Sh.tally_Of l site to_ body = some r) : FnG Tryd.prog (GL mx) 10 [.fr .shr true 9 (flatten (map T_Event.ienc l)), .v (.int .i64 site), .agg [.v (.bool to_.Null), .v (.string to_.Local), .v (.string to_.Domain)], .fl .shr 1 (map (int .u8) body)] (.tup [.v (.int .i64 r.1), .v (.int .i64 r.2)]) := by
  unfold Sh.tally_Of at h
  refine fn_okG func10 rfl (zl rfl) rfl rfl fun g0 hn hio => ?_
  refine zgg hn [_,_,_,_,_,(6,.box 24 [vb to_.Null,vs to_.Local,vs to_.Domain]),(8,vi 0),(9,vi 0)] [0,1,2,3,4] [0,1,3,4,5,6,7] [zq [2] 5 6,zq [] 6 8,zq [] 7 9] [(_,_),(_,_),(_,_),(_,_),(_,_),(_,_),(_,_)] rfl ⟨zp rfl (op_box _ _ _ _ rfl rfl rfl),z2 rfl,z2 rfl,zz⟩ ?_
  refine ht_seq ?_
  refine zgg hn [_,_,_,_,_,_,_,(12,.fr .shr true 9 (flatten (map T_Event.ienc l))),(13,vi (l.length : Int)),(14,vi 0)] [0,1,2,3,4,5,6] [1,2,3,4,5,6,7,8,9] [zq [0] 7 12,zq [7] 8 13,zq [] 9 14] [(_,_),(_,_),(_,_),(_,_),(_,_),(_,_),(_,_),(_,_),(_,_)] rfl ⟨z1 rfl,zp rfl (op_len_fr _ _ _ underlying22 rfl (by decide) (gflat_len T_Event.ilen _)),z1 rfl,zz⟩ ?_
  refine ht_loopS h (fun ((s131,s132,s133) : Int × Int × Int) => [(1,vi site),(3,fb body),(56,.glob (GL mx)),(6,.box 24 [vb to_.Null,vs to_.Local,vs to_.Domain]),(8,vi s131),(9,vi s132),(12,.fr .shr true 9 (flatten (map T_Event.ienc l))),(13,vi (l.length : Int)),(14,vi s133)]) (fun ((s194,s195) : Int × Int) => [(56,.glob (GL mx)),(8,vi s194),(9,vi s195)]) ?_ ?_
  ·rintro ⟨s194, s195⟩ h
   refine pt_then ?_
   refine zgg hn [_,_,_,(54,vi s194),(55,vi s195),(8,vi s194),(9,vi s195)] [0,1,2] [0,5,6] [zq [1] 3 54,zq [2] 4 55,⟨[3],[1],[5],[(.slot 8)]⟩,⟨[4],[2],[6],[(.slot 9)]⟩] [(_,_),(_,_),(_,_)] rfl ⟨z1 rfl,z1 rfl,zp rfl (LOp.drop [_] (op_assign _ _ _ _ rfl rfl)),zp rfl (LOp.drop [_] (op_assign _ _ _ _ rfl rfl)),zz⟩ ?_
   refine ht_ret ?_
   refine pt_pick [1,2] (by kernel_rfl) (es' := [(_,_),(_,_)]) rfl ?_
   obtain rfl := zi h
   exact pt_ret hio rfl (.tmp _ _ (.tmp _ _ .nil)) rfl rfl
  ·rintro u196 hl197 hr198 ⟨s131, s132, s133⟩ rr201 h ho199
   refine zgg hn [_,_,_,_,_,_,_,_,_,(15,vb (decide (s133 < (l.length : Int))))] [0,1,2,3,4,5,6,7,8] [0,1,2,3,4,5,6,7,8,9] [zq [8,7] 9 15] [(_,_),(_,_),(_,_),(_,_),(_,_),(_,_),(_,_),(_,_),(_,_),(_,_)] rfl ⟨z4 rfl rfl,zz⟩ ?_
   refine ht_seq ?_
   refine ht_cond _ rfl (fun hb202 => ?_) (fun hb202 => ?_)
   ·have h := cond_t hb202 h
    refine ht_skip ?_
    refine pt_then (ht_seq ?_)
    refine ht_joinS h (fun ((s230,s231) : Int × Int) => [(1,vi site),(3,fb body),(56,.glob (GL mx)),(6,.box 24 [vb to_.Null,vs to_.Local,vs to_.Domain]),(8,vi s230),(9,vi s231),(12,.fr .shr true 9 (flatten (map T_Event.ienc l))),(13,vi (l.length : Int)),(14,vi s133)]) ?_ ?_
    ·rintro ⟨s230, s231⟩ h
     refine pt_then ?_
     obtain ⟨v67, hv67, h⟩ := zn h
     refine zg hn [_,_,_,_,_,_,_,_,_,(53,vi v67),(14,vi v67)] [0,1,2,3,4,5,6,7,8] [0,1,2,3,4,5,6,7,10] [zq [8] 9 53,⟨[9],[8],[10],[(.slot 14)]⟩] [(_,_),(_,_),(_,_),(_,_),(_,_),(_,_),(_,_),(_,_),(_,_)] rfl ⟨zp rfl (oB rfl (ibind (f := int .i64) (Option.some.inj hv67))),zp rfl (LOp.drop [_] (oM rfl)),zz⟩ ?_
     exact pt_next _ (zi h).symm rfl
    ·intro u232 h hl233 hr234
     refine ht_block ?_
     refine ht_seq ?_
     obtain ⟨v2, hv2, h⟩ := zn h
     obtain ⟨v3, hv3, h⟩ := zn h
     refine zg hn [_,_,_,_,_,_,_,_,_,_,(16,.eref (.slot 12) (v2 * 9)),(17,.agg (T_Event.c v3 [])),(11,.box 64 [vi 0,vi 0,vb false,vs z0,vs z0,vb false,vs z0,vs z0,vz]),(11,.box 64 (T_Event.c v3 []))] [0,1,2,3,4,5,6,7,8,9] [0,1,2,3,4,5,6,7,8,13] [zq [6,8] 10 16,zq [10,6] 11 17,zq [] 12 11,⟨[11],[12],[13],[.cell 11 0,.cell 11 1,.cell 11 2,.cell 11 3,.cell 11 4,.cell 11 5,.cell 11 6,.cell 11 7,.cell 11 8]⟩] [(_,_),(_,_),(_,_),(_,_),(_,_),(_,_),(_,_),(_,_),(_,_),(_,_)] rfl ⟨zp rfl (op_ix_fr _ _ _ _ _ _ _ _ underlying22 sz64 (by decide) rfl rfl rfl (ix_ok hv2).1 (gflat_lt T_Event.ilen (ix_ok hv2).2) rfl),zp rfl (op_loadA_fr _ _ _ _ _ _ _ _ underlying64 rfl sz64 rfl rfl (gflat_get T_Event.ilen hv3) (.cons (.v _) (.cons (.v _) (.cons (.v _) (.cons (.v _) (.cons (.v _) (.cons (.v _) (.cons (.v _) (.cons (.v _) (.cons (.fl _ _ rfl) (.nil)))))))))) rfl (by decide)),zp rfl (op_alloc _ _ zr64),zp rfl (oS sz64 rfl),zz⟩ ?_
     refine pt_then ?_
     refine ht_joinS h (fun ((s246,s247) : Int × Int) => [(1,vi site),(3,fb body),(56,.glob (GL mx)),(6,.box 24 [vb to_.Null,vs to_.Local,vs to_.Domain]),(8,vi s246),(9,vi s247),(12,.fr .shr true 9 (flatten (map T_Event.ienc l))),(13,vi (l.length : Int)),(14,vi s133)]) ?_ ?_
     ·rintro ⟨s246, s247⟩ h
      refine pt_inb ?_
      exact hl233 _ (zi h).symm
     ·intro u248 h hl249 hr250
      refine ht_block ?_
      refine zgg hn (_::_::_::_::_::_::_::_::_::_::(19,.ptr 11 1)::(20,vi v3.Site)::(21,vi site)::(22,vb (v3.Site != site))::(18,vb (v3.Site != site))::[]) [0,1,2,3,4,5,6,7,8,9] [0,1,2,3,4,5,6,7,8,9,14] [zq [9] 10 19,zq [10,9] 11 20,zq [0] 12 21,zq [11,12] 13 22,zq [13] 14 18] [(_,_),(_,_),(_,_),(_,_),(_,_),(_,_),(_,_),(_,_),(_,_),(_,_),(_,_)] rfl ⟨zp rfl (oF underlying64 rfl sz3),zp rfl (oL underlying3 rfl),z1 rfl,z4 rfl rfl,z2 rfl,zz⟩ ?_
      refine ht_cond _ rfl (fun hb251 => ?_) (fun hb251 => ?_)
      ·have h := cond_t hb251 h
       refine ht_skip ?_
       refine pt_inb ?_
       refine pt_pick [0,1,2,3,4,5,6,7,8] (by kernel_rfl) (es' := [(_,_),(_,_),(_,_),(_,_),(_,_),(_,_),(_,_),(_,_),(_,_)]) rfl ?_
       exact hl249 _ (zi h).symm
      ·have h := cond_f hb251 h
       refine ht_seq ?_
       refine ht_joinS h (fun (s252 : Bool) => [(1,vi site),(3,fb body),(56,.glob (GL mx)),(6,.box 24 [vb to_.Null,vs to_.Local,vs to_.Domain]),(8,vi s131),(9,vi s132),(12,.fr .shr true 9 (flatten (map T_Event.ienc l))),(13,vi (l.length : Int)),(14,vi s133),(11,.box 64 (T_Event.c v3 [])),(23,vb s252)]) ?_ ?_
       ·rintro s252 h
        refine pt_then ?_
        refine ht_cond _ rfl (fun hb256 => ?_) (fun hb256 => ?_)
        ·have h := cond_t hb256 h
         obtain ⟨v11, hv11, h⟩ := zn h
         refine zg hn [_,_,_,_,_,_,_,_,_,_,_,(39,vi s131),(40,vi v11),(8,vi v11)] [0,1,2,3,4,5,6,7,8,9,10] [0,1,2,3,5,6,7,8,13] [zq [4] 11 39,zq [11] 12 40,⟨[12],[4],[13],[(.slot 8)]⟩] [(_,_),(_,_),(_,_),(_,_),(_,_),(_,_),(_,_),(_,_),(_,_)] rfl ⟨z1 rfl,zp rfl (oB rfl (ibind (f := int .i64) (Option.some.inj hv11))),zp rfl (LOp.drop [_] (op_assign _ _ _ _ rfl rfl)),zz⟩ ?_
         refine pt_inb ?_
         refine pt_pick [0,1,2,3,8,4,5,6,7] (by kernel_rfl) (es' := [(_,_),(_,_),(_,_),(_,_),(_,_),(_,_),(_,_),(_,_),(_,_)]) rfl ?_
         exact hl249 _ (zi h).symm
        ·have h := cond_f hb256 h
         refine ht_seq ?_
         refine ht_joinS h (fun (s257 : Bool) => [(1,vi site),(3,fb body),(56,.glob (GL mx)),(6,.box 24 [vb to_.Null,vs to_.Local,vs to_.Domain]),(8,vi s131),(9,vi s132),(12,.fr .shr true 9 (flatten (map T_Event.ienc l))),(13,vi (l.length : Int)),(14,vi s133),(41,vb s257)]) ?_ ?_
         ·rintro s257 h
          refine pt_then ?_
          refine ht_cond _ rfl (fun hb261 => ?_) (fun hb261 => ?_)
          ·have h := cond_t hb261 h
           obtain ⟨v18, hv18, h⟩ := zn h
           refine zg hn [_,_,_,_,_,_,_,_,_,_,(51,vi s132),(52,vi v18),(9,vi v18)] [0,1,2,3,4,5,6,7,8,9] [0,1,2,3,4,6,7,8,12] [zq [5] 10 51,zq [10] 11 52,⟨[11],[5],[12],[(.slot 9)]⟩] [(_,_),(_,_),(_,_),(_,_),(_,_),(_,_),(_,_),(_,_),(_,_)] rfl ⟨z1 rfl,zp rfl (oB rfl (ibind (f := int .i64) (Option.some.inj hv18))),zp rfl (LOp.drop [_] (op_assign _ _ _ _ rfl rfl)),zz⟩ ?_
           refine pt_inb ?_
           refine pt_pick [0,1,2,3,4,8,5,6,7] (by kernel_rfl) (es' := [(_,_),(_,_),(_,_),(_,_),(_,_),(_,_),(_,_),(_,_),(_,_)]) rfl ?_
           exact hl249 _ (zi h).symm
          ·have h := cond_f hb261 h
           refine ht_skip ?_
           refine pt_inb ?_
           refine pt_pick [0,1,2,3,4,5,6,7,8] (by kernel_rfl) (es' := [(_,_),(_,_),(_,_),(_,_),(_,_),(_,_),(_,_),(_,_),(_,_)]) rfl ?_
           exact hl249 _ (zi h).symm
         ·intro u258 h hl259 hr260
          refine cond_some h (fun hg7_3 h => ?_) (fun hg7_3 h => ?_)
          ·obtain ⟨v12, hv12, h⟩ := zn h
           refine zg hn (_::_::_::_::_::_::_::_::_::_::_::(42,.ptr 11 0)::(43,vi v3.Kind)::(44,vb (v3.Kind == 2))::(45,vb true)::(46,.ptr 11 8)::(47,fb v3.Body)::(48,.agg [vb to_.Null,vs to_.Local,vs to_.Domain])::(49,vb v12)::(50,vb v12)::(41,vb v12)::[]) [0,1,2,3,4,5,6,7,8,9,10] [0,1,2,3,4,5,6,7,8,20] [zq [9] 11 42,zq [11,9] 12 43,zq [12] 13 44,zq [13] 14 45,zq [14,9] 15 46,zq [14,15,9] 16 47,zq [14,3] 17 48,zq [14,16,17,2] 18 49,zq [14,18] 19 50,zq [19] 20 41] [(_,_),(_,_),(_,_),(_,_),(_,_),(_,_),(_,_),(_,_),(_,_),(_,_)] rfl ⟨zp rfl (oF underlying64 rfl sz3),zp rfl (oL underlying3 rfl),z4 rfl rfl,z8 hg7_3 rfl,zr' rfl (oF underlying64 rfl sz25),zr' rfl (oL underlying25 rfl),zr' rfl (op_loadA _ _ _ _ _ _ _ underlying24 rfl sz24 rfl rfl (zl rfl) rfl rfl),zr' rfl (op_callG _ _ 56 27 _ _ rfl call27 rfl rfl (fun _ h => h) (ok_tally_reports mx v3.Body to_ _ hv12) rfl rfl),z3 true rfl,z2 rfl,zz⟩ ?_
           exact hl259 _ (zi h).symm
          ·refine zg hn (_::_::_::_::_::_::_::_::_::_::_::(42,.ptr 11 0)::(43,vi v3.Kind)::(44,vb (v3.Kind == 2))::(45,vb false)::(46,.v undef)::(47,.v undef)::(48,.v undef)::(49,.v undef)::(50,vb false)::(41,vb false)::[]) [0,1,2,3,4,5,6,7,8,9,10] [0,1,2,3,4,5,6,7,8,20] [zq [9] 11 42,zq [11,9] 12 43,zq [12] 13 44,zq [13] 14 45,zq [14] 15 46,zq [14] 16 47,zq [14] 17 48,zq [14] 18 49,zq [14] 19 50,zq [19] 20 41] [(_,_),(_,_),(_,_),(_,_),(_,_),(_,_),(_,_),(_,_),(_,_),(_,_)] rfl ⟨zp rfl (oF underlying64 rfl sz3),zp rfl (oL underlying3 rfl),z4 rfl rfl,z8 hg7_3 rfl,zt rfl,zt rfl,zt rfl,zt rfl,z3 false rfl,z2 rfl,zz⟩ ?_
           exact hl259 _ (zi h).symm
       ·intro u253 h hl254 hr255
        refine cond_some h (fun hg5_3 h => ?_) (fun hg5_3 h => ?_)
        ·refine cond_some h (fun hg5_9 h => ?_) (fun hg5_9 h => ?_)
         ·obtain ⟨v5, hv5, h⟩ := zn h
          refine zg hn (_::_::_::_::_::_::_::_::_::_::_::(24,.ptr 11 0)::(25,vi v3.Kind)::(26,vb (v3.Kind == 1))::(27,vb true)::(28,.ptr 11 5)::(29,.agg [vb v3.To.Null,vs v3.To.Local,vs v3.To.Domain])::(30,.agg [vb to_.Null,vs to_.Local,vs to_.Domain])::(31,vb ((v3.To.Null == to_.Null) && ((v3.To.Local.toList == to_.Local.toList) && ((v3.To.Domain.toList == to_.Domain.toList) && true))))::(32,vb ((v3.To.Null == to_.Null) && ((v3.To.Local.toList == to_.Local.toList) && ((v3.To.Domain.toList == to_.Domain.toList) && true))))::(33,vb true)::(34,.ptr 11 8)::(35,fb v3.Body)::(36,fb body)::(37,vb v5)::(38,vb v5)::(23,vb v5)::[]) [0,1,2,3,4,5,6,7,8,9,10] [0,1,2,3,4,5,6,7,8,9,26] (zq [9] 11 24::zq [11,9] 12 25::zq [12] 13 26::zq [13] 14 27::zq [14,9] 15 28::zq [14,15,9] 16 29::zq [14,3] 17 30::zq [14,16,17] 18 31::zq [14,18] 19 32::zq [19] 20 33::zq [20,9] 21 34::zq [20,21,9] 22 35::zq [20,1] 23 36::zq [20,22,23] 24 37::zq [20,24] 25 38::zq [25] 26 23::[]) [(_,_),(_,_),(_,_),(_,_),(_,_),(_,_),(_,_),(_,_),(_,_),(_,_),(_,_)] rfl ⟨zp rfl (oF underlying64 rfl sz3),zp rfl (oL underlying3 rfl),z4 rfl rfl,z8 hg5_3 rfl,zr' rfl (oF underlying64 rfl sz24),zr' rfl (op_loadA _ _ _ _ _ _ _ underlying24 rfl sz24 rfl rfl (zl rfl) rfl rfl),zr' rfl (op_loadA _ _ _ _ _ _ _ underlying24 rfl sz24 rfl rfl (zl rfl) rfl rfl),zr' rfl (op_eq_st _ _ [.bool v3.To.Null, .string v3.To.Local, .string v3.To.Domain] [.bool to_.Null, .string to_.Local, .string to_.Domain] (((v3.To.Null == to_.Null) && ((v3.To.Local.toList == to_.Local.toList) && ((v3.To.Domain.toList == to_.Domain.toList) && true)))) _ false (by kernel_rfl) (by kernel_rfl) (by kernel_rfl) (by kernel_rfl) (by kernel_rfl) rfl rfl rfl rfl (by kernel_rfl) rfl),z3 true rfl,z8 hg5_9 rfl,zr' rfl (oF underlying64 rfl sz25),zr' rfl (oL underlying25 rfl),zr' rfl (oM rfl),zr' rfl (op_call _ _ 26 _ _ rfl call26 rfl (ok_bytes_Equal v3.Body body _ hv5) rfl rfl),z3 true rfl,z2 rfl,zz⟩ ?_
          exact hl254 _ (zi h).symm
         ·refine zg hn (_::_::_::_::_::_::_::_::_::_::_::(24,.ptr 11 0)::(25,vi v3.Kind)::(26,vb (v3.Kind == 1))::(27,vb true)::(28,.ptr 11 5)::(29,.agg [vb v3.To.Null,vs v3.To.Local,vs v3.To.Domain])::(30,.agg [vb to_.Null,vs to_.Local,vs to_.Domain])::(31,vb ((v3.To.Null == to_.Null) && ((v3.To.Local.toList == to_.Local.toList) && ((v3.To.Domain.toList == to_.Domain.toList) && true))))::(32,vb ((v3.To.Null == to_.Null) && ((v3.To.Local.toList == to_.Local.toList) && ((v3.To.Domain.toList == to_.Domain.toList) && true))))::(33,vb false)::(34,.v undef)::(35,.v undef)::(36,.v undef)::(37,.v undef)::(38,vb false)::(23,vb false)::[]) [0,1,2,3,4,5,6,7,8,9,10] [0,1,2,3,4,5,6,7,8,9,26] (zq [9] 11 24::zq [11,9] 12 25::zq [12] 13 26::zq [13] 14 27::zq [14,9] 15 28::zq [14,15,9] 16 29::zq [14,3] 17 30::zq [14,16,17] 18 31::zq [14,18] 19 32::zq [19] 20 33::zq [20] 21 34::zq [20] 22 35::zq [20] 23 36::zq [20] 24 37::zq [20] 25 38::zq [25] 26 23::[]) [(_,_),(_,_),(_,_),(_,_),(_,_),(_,_),(_,_),(_,_),(_,_),(_,_),(_,_)] rfl ⟨zp rfl (oF underlying64 rfl sz3),zp rfl (oL underlying3 rfl),z4 rfl rfl,z8 hg5_3 rfl,zr' rfl (oF underlying64 rfl sz24),zr' rfl (op_loadA _ _ _ _ _ _ _ underlying24 rfl sz24 rfl rfl (zl rfl) rfl rfl),zr' rfl (op_loadA _ _ _ _ _ _ _ underlying24 rfl sz24 rfl rfl (zl rfl) rfl rfl),zr' rfl (op_eq_st _ _ [.bool v3.To.Null, .string v3.To.Local, .string v3.To.Domain] [.bool to_.Null, .string to_.Local, .string to_.Domain] (((v3.To.Null == to_.Null) && ((v3.To.Local.toList == to_.Local.toList) && ((v3.To.Domain.toList == to_.Domain.toList) && true)))) _ false (by kernel_rfl) (by kernel_rfl) (by kernel_rfl) (by kernel_rfl) (by kernel_rfl) rfl rfl rfl rfl (by kernel_rfl) rfl),z3 true rfl,z8 hg5_9 rfl,zt rfl,zt rfl,zt rfl,zt rfl,z3 false rfl,z2 rfl,zz⟩ ?_
          exact hl254 _ (zi h).symm
        ·refine zg hn (_::_::_::_::_::_::_::_::_::_::_::(24,.ptr 11 0)::(25,vi v3.Kind)::(26,vb (v3.Kind == 1))::(27,vb false)::(28,.v undef)::(29,.v undef)::(30,.v undef)::(31,.v undef)::(32,vb false)::(33,vb false)::(34,.v undef)::(35,.v undef)::(36,.v undef)::(37,.v undef)::(38,vb false)::(23,vb false)::[]) [0,1,2,3,4,5,6,7,8,9,10] [0,1,2,3,4,5,6,7,8,9,26] (zq [9] 11 24::zq [11,9] 12 25::zq [12] 13 26::zq [13] 14 27::zq [14] 15 28::zq [14] 16 29::zq [14] 17 30::zq [14] 18 31::zq [14] 19 32::zq [19] 20 33::zq [20] 21 34::zq [20] 22 35::zq [20] 23 36::zq [20] 24 37::zq [20] 25 38::zq [25] 26 23::[]) [(_,_),(_,_),(_,_),(_,_),(_,_),(_,_),(_,_),(_,_),(_,_),(_,_),(_,_)] rfl ⟨zp rfl (oF underlying64 rfl sz3),zp rfl (oL underlying3 rfl),z4 rfl rfl,z8 hg5_3 rfl,zt rfl,zt rfl,zt rfl,zt rfl,z3 false rfl,z1 rfl,zt rfl,zt rfl,zt rfl,zt rfl,z3 false rfl,z2 rfl,zz⟩ ?_
         exact hl254 _ (zi h).symm
   ·have h := cond_f hb202 h
    refine ht_exit ?_
    refine pt_x_then ?_
    refine pt_x_then ?_
    refine pt_x_in ?_
    refine pt_pick [2,4,5] (by kernel_rfl) (es' := [(_,_),(_,_),(_,_)]) rfl ?_
    exact hl197 _ (ho199 _ (zi h).symm).symm
theorem ok_tally_Count (l : (List T_Event)) (r : Int) (h : Sh.tally_Count l = some r) : FnOK Tryd.prog 11 [.fr .shr true 9 (flatten (map T_Event.ienc l))] (.v (.int .i64 r)) := by
  unfold Sh.tally_Count at h
  refine fn_ok func11 rfl (zl rfl) rfl rfl fun g0 hn hio => ?_
  refine zgg hn [_,(2,vi 0)] [0] [0] [zq [] 1 2] [(_,_)] rfl ⟨z2 rfl,zz⟩ ?_
  refine zgg hn [_,(6,.hid (setT Tryd.prog 73 T_tally_event.enc [])),(3,.hid (setT Tryd.prog 73 T_tally_event.enc []))] [0] [0,2] [zq [] 1 6,⟨[],[1],[2],[(.slot 3)]⟩] [(_,_),(_,_)] rfl ⟨zp rfl (op_makeSet _ _ T_tally_event.enc),zp rfl (op_assign_take _ _ _ _ rfl),zz⟩ ?_
  refine ht_seq ?_
  refine zgg hn [_,_,(7,.fr .shr true 9 (flatten (map T_Event.ienc l))),(8,vi (l.length : Int)),(9,vi 0)] [0,1] [1,2,3,4] [zq [0] 2 7,zq [2] 3 8,zq [] 4 9] [(_,_),(_,_),(_,_),(_,_)] rfl ⟨z1 rfl,zp rfl (op_len_fr _ _ _ underlying22 rfl (by decide) (gflat_len T_Event.ilen _)),z1 rfl,zz⟩ ?_
  refine ht_loopS h (fun ((s10,s11) : (List T_tally_event) × Int) => [(3,.hid (setT Tryd.prog 73 T_tally_event.enc s10)),(7,.fr .shr true 9 (flatten (map T_Event.ienc l))),(8,vi (l.length : Int)),(9,vi s11)]) (fun (s13 : (List T_tally_event)) => [(3,.hid (setT Tryd.prog 73 T_tally_event.enc s13))]) ?_ ?_
  ·rintro s13 h
   refine pt_then ?_
   refine zgg hn [_,(28,.hid (setT Tryd.prog 73 T_tally_event.enc s13)),(29,vi (s13.length : Int)),(2,vi (s13.length : Int))] [0] [3] [⟨[],[0],[1],[(.slot 28)]⟩,zq [1] 2 29,zq [2] 3 2] [(_,_)] rfl ⟨zp rfl (op_move_take _ _ _ _ rfl),zp rfl (op_len_setT _ _ 28 underlying70 rfl),z2 rfl,zz⟩ ?_
   refine ht_ret ?_
   obtain rfl := zi h
   exact pt_ret hio rfl (.tmp _ _ .nil) rfl rfl
  ·rintro u14 hl15 hr16 ⟨s10, s11⟩ rr19 h ho17
   refine zgg hn [_,_,_,_,(10,vb (decide (s11 < (l.length : Int))))] [0,1,2,3] [0,1,2,3,4] [zq [3,2] 4 10] [(_,_),(_,_),(_,_),(_,_),(_,_)] rfl ⟨z4 rfl rfl,zz⟩ ?_
   refine ht_seq ?_
   refine ht_cond _ rfl (fun hb20 => ?_) (fun hb20 => ?_)
   ·have h := cond_t hb20 h
    refine ht_skip ?_
    refine pt_then (ht_seq ?_)
    refine ht_block ?_
    refine ht_seq ?_
    obtain ⟨v2, hv2, h⟩ := zn h
    obtain ⟨v3, hv3, h⟩ := zn h
    refine zg hn [_,_,_,_,_,(11,.eref (.slot 7) (v2 * 9)),(12,.agg (T_Event.c v3 [])),(5,.box 64 [vi 0,vi 0,vb false,vs z0,vs z0,vb false,vs z0,vs z0,vz]),(5,.box 64 (T_Event.c v3 []))] [0,1,2,3,4] [0,1,2,3,8] [zq [1,3] 5 11,zq [5,1] 6 12,zq [] 7 5,⟨[6],[7],[8],[.cell 5 0,.cell 5 1,.cell 5 2,.cell 5 3,.cell 5 4,.cell 5 5,.cell 5 6,.cell 5 7,.cell 5 8]⟩] [(_,_),(_,_),(_,_),(_,_),(_,_)] rfl ⟨zp rfl (op_ix_fr _ _ _ _ _ _ _ _ underlying22 sz64 (by decide) rfl rfl rfl (ix_ok hv2).1 (gflat_lt T_Event.ilen (ix_ok hv2).2) rfl),zp rfl (op_loadA_fr _ _ _ _ _ _ _ _ underlying64 rfl sz64 rfl rfl (gflat_get T_Event.ilen hv3) (.cons (.v _) (.cons (.v _) (.cons (.v _) (.cons (.v _) (.cons (.v _) (.cons (.v _) (.cons (.v _) (.cons (.v _) (.cons (.fl _ _ rfl) (.nil)))))))))) rfl (by decide)),zp rfl (op_alloc _ _ zr64),zp rfl (oS sz64 rfl),zz⟩ ?_
    refine pt_then ?_
    obtain ⟨v4, hv4, h⟩ := zn h
    obtain ⟨v5, hv5, h⟩ := zn h
    refine zg hn (_::_::_::_::_::(13,.same (.slot 3))::(14,.ptr 5 0)::(15,vi v3.Kind)::(16,.ptr 5 1)::(17,vi v3.Site)::(18,.ptr 5 2)::(19,.agg [vb v3.From.Null,vs v3.From.Local,vs v3.From.Domain])::(20,.ptr 5 5)::(21,.agg [vb v3.To.Null,vs v3.To.Local,vs v3.To.Domain])::(22,.ptr 5 8)::(23,fb v3.Body)::(24,vs v4)::(25,.agg [vi v3.Kind,vi v3.Site,vb v3.From.Null,vs v3.From.Local,vs v3.From.Domain,vb v3.To.Null,vs v3.To.Local,vs v3.To.Domain,vs v4])::(26,.agg [])::(3,.hid (setT Tryd.prog 73 T_tally_event.enc v5))::[]) [0,1,2,3,4] [19,1,2,3] (zq [] 5 13::zq [4] 6 14::zq [6,4] 7 15::zq [4] 8 16::zq [8,4] 9 17::zq [4] 10 18::zq [10,4] 11 19::zq [4] 12 20::zq [12,4] 13 21::zq [4] 14 22::zq [14,4] 15 23::zq [15] 16 24::zq [7,9,11,13,16] 17 25::zq [] 18 26::⟨[5,17,18],[0],[19],[]⟩::[]) [(_,_),(_,_),(_,_),(_,_)] rfl ⟨zp rfl (op_move_name _ _ _ rfl),zp rfl (oF underlying64 rfl sz3),zp rfl (oL underlying3 rfl),zp rfl (oF underlying64 rfl sz3),zp rfl (oL underlying3 rfl),zp rfl (oF underlying64 rfl sz24),zp rfl (op_loadA _ _ _ _ _ _ _ underlying24 rfl sz24 rfl rfl (zl rfl) rfl rfl),zp rfl (oF underlying64 rfl sz24),zp rfl (op_loadA _ _ _ _ _ _ _ underlying24 rfl sz24 rfl rfl (zl rfl) rfl rfl),zp rfl (oF underlying64 rfl sz25),zp rfl (oL underlying25 rfl),zp rfl ((Option.some.inj hv4) ▸ op_bytes_str _ _ _ v3.Body underlying25 underlying9 underlying5 rfl),zp rfl (op_build _ _ _ _ [1, 1, 3, 3, 1] _ _ underlying73 zr73 (fs73 _ underlying73) (.copy _ (.copy _ (.copy _ (.copy _ (.copy _ Src.nil))))) rfl rfl rfl),zp rfl (op_build _ _ _ _ [] _ _ underlying71 zr71 (fs71 _ underlying71) Src.nil rfl rfl rfl),zp rfl (op_setUpdate _ _ _ _ 3 ((T_tally_event.mk v3.Kind v3.Site (T_Path.mk v3.From.Null v3.From.Local v3.From.Domain) (T_Path.mk v3.To.Null v3.To.Local v3.To.Domain) v4)) sf70 rfl rfl rfl hv5),zz⟩ ?_
    refine pt_inb ?_
    refine pt_then ?_
    obtain ⟨v6, hv6, h⟩ := zn h
    refine zg hn [_,_,_,_,(27,vi v6),(9,vi v6)] [0,1,2,3] [0,1,2,5] [zq [3] 4 27,⟨[4],[3],[5],[(.slot 9)]⟩] [(_,_),(_,_),(_,_),(_,_)] rfl ⟨zp rfl (oB rfl (ibind (f := int .i64) (Option.some.inj hv6))),zp rfl (LOp.drop [_] (oM rfl)),zz⟩ ?_
    exact pt_next _ (zi h).symm rfl
   ·have h := cond_f hb20 h
    refine ht_exit ?_
    refine pt_x_then ?_
    refine pt_x_then ?_
    refine pt_x_in ?_
    refine pt_pick [0] (by kernel_rfl) (es' := [(_,_)]) rfl ?_
    exact hl15 _ (ho17 _ (zi h).symm).symm
theorem ok_wherrylaw26_wakes (mx : Int) (r : Bool) (h : Sh.wherrylaw26_wakes  = some r) : FnG Tryd.prog (GL mx) 12 [] (.v (.bool r)) := by
  unfold Sh.wherrylaw26_wakes at h
  refine fn_okG func12 rfl (zl rfl) rfl rfl fun g0 hn hio => ?_
  refine zgg hn [_,(0,vb false)] [0] [0] [zq [] 1 0] [(_,_)] rfl ⟨z2 rfl,zz⟩ ?_
  refine zgg hn [_,(4,.agg [vb false,vs (⟨#[97]⟩ : ByteArray),vs (⟨#[98]⟩ : ByteArray)]),(5,.fl (.own 5) 1 (map (int .u8) [120])),(6,.fl .ro 1 (map (int .u8) [120])),(7,.agg [vi 1,vi 1,vb false,vs z0,vs z0,vb false,vs (⟨#[97]⟩ : ByteArray),vs (⟨#[98]⟩ : ByteArray),.fl .ro 1 (map (int .u8) [120])]),(1,.box 64 [vi 0,vi 0,vb false,vs z0,vs z0,vb false,vs z0,vs z0,vz]),(1,.box 64 [vi 1,vi 1,vb false,vs z0,vs z0,vb false,vs (⟨#[97]⟩ : ByteArray),vs (⟨#[98]⟩ : ByteArray),.fl .ro 1 (map (int .u8) [120])])] [0] [0,6] [zq [] 1 4,zq [] 2 5,⟨[],[2],[3],[(.slot 6)]⟩,zq [1,3] 4 7,zq [] 5 1,⟨[4],[5],[6],[.cell 1 0,.cell 1 1,.cell 1 2,.cell 1 3,.cell 1 4,.cell 1 5,.cell 1 6,.cell 1 7,.cell 1 8]⟩] [(_,_),(_,_)] rfl ⟨zp rfl (op_build _ _ _ _ [1, 1, 1] _ _ underlying24 zr24 (fs24 _ underlying24) (.copy _ (.copy _ Src.nil)) rfl rfl rfl),zp rfl (op_buildSlice _ _ 1 (.int .u8 0) (map (int .u8) [120]) [(0, .int .u8 120)] underlying25 sz5 zr5 (fun _ V w o a hv hes => by simp only [List.map_toArray, List.map_cons, List.map_nil]; try rfl) (litfill (by simp [Instr.fill, Value.cells]; rfl) (by simp [List.range, List.range.loop] <;> rfl)) (by simp [Value.oneCell']) rfl (by decide) (by decide) (by decide)),zp rfl (op_conv_mark _ _ _ underlying25 underlying5 (by intro h; cases h)),zp rfl (op_build _ _ _ _ [1, 1, 3, 3, 1] _ _ underlying64 zr64 (fs64 _ underlying64) (.copy _ (.copy _ (.copy _ (.copy _ Src.nil)))) rfl rfl rfl),zp rfl (op_alloc _ _ zr64),zp rfl (oS sz64 rfl),zz⟩ ?_
  refine ht_seq ?_
  obtain ⟨v1, hv1, h⟩ := zn h
  refine zg hn (_::_::(9,.agg [vi 1,vi 1,vb false,vs z0,vs z0,vb false,vs (⟨#[97]⟩ : ByteArray),vs (⟨#[98]⟩ : ByteArray),.fl .ro 1 (map (int .u8) [120])])::(10,.agg [vi 1,vi 1,vb false,vs z0,vs z0,vb false,vs (⟨#[97]⟩ : ByteArray),vs (⟨#[98]⟩ : ByteArray),.fl .ro 1 (map (int .u8) [120])])::(11,.fr (.own 64) false 9 (flatten (map T_Event.ienc ([(T_Event.mk 1 1 ((T_Path.mk false z0 z0)) ((T_Path.mk false (⟨#[97]⟩ : ByteArray) (⟨#[98]⟩ : ByteArray))) [120]),(T_Event.mk 1 1 ((T_Path.mk false z0 z0)) ((T_Path.mk false (⟨#[97]⟩ : ByteArray) (⟨#[98]⟩ : ByteArray))) [120])]))))::(12,.ptr 1 5)::(13,.agg [vb false,vs (⟨#[97]⟩ : ByteArray),vs (⟨#[98]⟩ : ByteArray)])::(14,.ptr 1 8)::(15,.fl .ro 1 (map (int .u8) [120]))::(16,.tup [vi v1.1,vi v1.2])::(8,.tup [vi v1.1,vi v1.2])::(17,vi v1.1)::(18,vi v1.2)::(2,vi v1.1)::(3,vi v1.2)::[]) [0,1] [0,1,13,14] [zq [1] 2 9,zq [1] 3 10,zq [2,3] 4 11,zq [1] 5 12,zq [5,1] 6 13,zq [1] 7 14,zq [7,1] 8 15,zq [4,6,8,0] 9 16,⟨[],[9],[10],[(.slot 8)]⟩,zq [10] 11 17,zq [10] 12 18,zq [11] 13 2,zq [12] 14 3] [(_,_),(_,_),(_,_),(_,_)] rfl ⟨zp rfl (op_loadA _ _ _ _ _ _ _ underlying64 rfl sz64 rfl rfl (zl rfl) rfl rfl),zp rfl (op_loadA _ _ _ _ _ _ _ underlying64 rfl sz64 rfl rfl (zl rfl) rfl rfl),zp rfl (op_buildn_fr _ _ 2 9 (.agg #[.int .i64 0, .int .i64 0, .bool false, .string ByteArray.empty, .string ByteArray.empty, .bool false, .string ByteArray.empty, .string ByteArray.empty, .slice none 0 0]) false [some (.tmp 9), some (.tmp 10)] _ underlying22 sz64 zr64 rfl rfl (by kernel_rfl) rfl rfl (.some (ics := T_Event.ienc ((T_Event.mk 1 1 ((T_Path.mk false (⟨#[]⟩ : ByteArray) (⟨#[]⟩ : ByteArray))) ((T_Path.mk false (⟨#[97]⟩ : ByteArray) (⟨#[98]⟩ : ByteArray))) [120]))) (jcs := (flatten (map T_Event.ienc ([(T_Event.mk 1 1 ((T_Path.mk false (⟨#[]⟩ : ByteArray) (⟨#[]⟩ : ByteArray))) ((T_Path.mk false (⟨#[97]⟩ : ByteArray) (⟨#[98]⟩ : ByteArray))) [120])] : List T_Event)))) _ rfl rfl (.cons (.v _) (.cons (.v _) (.cons (.v _) (.cons (.v _) (.cons (.v _) (.cons (.v _) (.cons (.v _) (.cons (.v _) (.cons (.ro _ _ rfl) (.nil)))))))))) rfl (.some (ics := T_Event.ienc ((T_Event.mk 1 1 ((T_Path.mk false (⟨#[]⟩ : ByteArray) (⟨#[]⟩ : ByteArray))) ((T_Path.mk false (⟨#[97]⟩ : ByteArray) (⟨#[98]⟩ : ByteArray))) [120]))) (jcs := (flatten (map T_Event.ienc ([] : List T_Event)))) _ rfl rfl (.cons (.v _) (.cons (.v _) (.cons (.v _) (.cons (.v _) (.cons (.v _) (.cons (.v _) (.cons (.v _) (.cons (.v _) (.cons (.ro _ _ rfl) (.nil)))))))))) rfl (.nil))) (by decide) (by decide) (by decide)),zp rfl (oF underlying64 rfl sz24),zp rfl (op_loadA _ _ _ _ _ _ _ underlying24 rfl sz24 rfl rfl (zl rfl) rfl rfl),zp rfl (oF underlying64 rfl sz25),zp rfl (oL underlying25 rfl),zp rfl (op_callG _ _ 44 10 _ _ rfl call10 rfl rfl (fun _ h => h) (ok_tally_Of mx ([(T_Event.mk 1 1 ((T_Path.mk false (⟨#[]⟩ : ByteArray) (⟨#[]⟩ : ByteArray))) ((T_Path.mk false (⟨#[97]⟩ : ByteArray) (⟨#[98]⟩ : ByteArray))) [120]), (T_Event.mk 1 1 ((T_Path.mk false (⟨#[]⟩ : ByteArray) (⟨#[]⟩ : ByteArray))) ((T_Path.mk false (⟨#[97]⟩ : ByteArray) (⟨#[98]⟩ : ByteArray))) [120])]) 1 ((T_Path.mk false (⟨#[97]⟩ : ByteArray) (⟨#[98]⟩ : ByteArray))) [120] _ hv1) rfl rfl),zp rfl (op_move_take _ _ _ _ rfl),zp rfl (oE rfl),zp rfl (oE rfl),z2 rfl,z2 rfl,zz⟩ ?_
  refine pt_then (ht_seq ?_)
  refine ht_joinS h (fun (s5 : Bool) => [(44,.glob (GL mx)),(0,vb s5)]) ?_ ?_
  ·rintro s5 h
   refine pt_then (ht_ret ?_)
   refine pt_pick [1] (by kernel_rfl) (es' := [(_,_)]) rfl ?_
   obtain rfl := zi h
   exact pt_ret hio rfl (.tmp _ _ .nil) rfl rfl
  ·intro u6 h hl7 hr8
   obtain ⟨v2, hv2, h⟩ := zn h
   refine cond_some h (fun hg3_5 h => ?_) (fun hg3_5 h => ?_)
   ·refine cond_some h (fun hg3_9 h => ?_) (fun hg3_9 h => ?_)
    ·refine cond_some h (fun hg3_13 h => ?_) (fun hg3_13 h => ?_)
     ·obtain ⟨v3, hv3, h⟩ := zn h
      refine cond_some h (fun hg3_18 h => ?_) (fun hg3_18 h => ?_)
      ·obtain ⟨v4, hv4, h⟩ := zn h
       refine zg hn (_::_::_::_::(19,.agg [vi 1,vi 1,vb false,vs z0,vs z0,vb false,vs (⟨#[97]⟩ : ByteArray),vs (⟨#[98]⟩ : ByteArray),.fl .ro 1 (map (int .u8) [120])])::(20,.agg [vi 1,vi 1,vb false,vs z0,vs z0,vb false,vs (⟨#[97]⟩ : ByteArray),vs (⟨#[98]⟩ : ByteArray),.fl .ro 1 (map (int .u8) [120])])::(21,.fr (.own 64) false 9 (flatten (map T_Event.ienc ([(T_Event.mk 1 1 ((T_Path.mk false z0 z0)) ((T_Path.mk false (⟨#[97]⟩ : ByteArray) (⟨#[98]⟩ : ByteArray))) [120]),(T_Event.mk 1 1 ((T_Path.mk false z0 z0)) ((T_Path.mk false (⟨#[97]⟩ : ByteArray) (⟨#[98]⟩ : ByteArray))) [120])]))))::(22,vi v2)::(23,vb (v2 == 1))::(24,vb true)::(25,vi v1.1)::(26,vb (v1.1 == 2))::(27,vb (v1.1 == 2))::(28,vb true)::(29,vi v1.2)::(30,vb (v1.2 == 0))::(31,vb (v1.2 == 0))::(32,vb true)::(33,.agg [vz,vi 0,vz,vz,vi 0,vz])::(34,vi v3)::(35,vb (v3 == 40))::(36,vb (v3 == 40))::(37,vb true)::(38,.agg [vi 0,vb false,vs z0,vs z0,vz,vz,vb false,vs z0,vi 0,vi 1,vi 0])::(39,.fr (.own 75) false 11 (flatten (map T_Item.ienc ([(T_Item.mk 0 ((T_Mail.mk ((T_Path.mk false z0 z0)) [] [] false z0 0)) 1 0)]))))::(40,.agg [.fr (.own 75) false 11 (flatten (map T_Item.ienc ([(T_Item.mk 0 ((T_Mail.mk ((T_Path.mk false z0 z0)) [] [] false z0 0)) 1 0)]))),vi 0,vz,vz,vi 0,vz])::(41,vi v4)::(42,vb (v4 == 1))::(43,vb (v4 == 1))::(0,vb (v4 == 1))::[]) [0,1,2,3] [0,29] (zq [1] 4 19::zq [1] 5 20::zq [4,5] 6 21::zq [6] 7 22::zq [7] 8 23::zq [8] 9 24::zq [9,2] 10 25::zq [9,10] 11 26::zq [9,11] 12 27::zq [12] 13 28::zq [13,3] 14 29::zq [13,14] 15 30::zq [13,15] 16 31::zq [16] 17 32::zq [17] 18 33::zq [17,18] 19 34::zq [17,19] 20 35::zq [17,20] 21 36::zq [21] 22 37::zq [22] 23 38::zq [22,23] 24 39::⟨[22],[24],[25],[(.slot 40)]⟩::zq [22,25] 26 41::zq [22,26] 27 42::zq [22,27] 28 43::zq [28] 29 0::[]) [(_,_),(_,_)] rfl ⟨zp rfl (op_loadA _ _ _ _ _ _ _ underlying64 rfl sz64 rfl rfl (zl rfl) rfl rfl),zp rfl (op_loadA _ _ _ _ _ _ _ underlying64 rfl sz64 rfl rfl (zl rfl) rfl rfl),zp rfl (op_buildn_fr _ _ 2 9 (.agg #[.int .i64 0, .int .i64 0, .bool false, .string ByteArray.empty, .string ByteArray.empty, .bool false, .string ByteArray.empty, .string ByteArray.empty, .slice none 0 0]) false [some (.tmp 19), some (.tmp 20)] _ underlying22 sz64 zr64 rfl rfl (by kernel_rfl) rfl rfl (.some (ics := T_Event.ienc ((T_Event.mk 1 1 ((T_Path.mk false (⟨#[]⟩ : ByteArray) (⟨#[]⟩ : ByteArray))) ((T_Path.mk false (⟨#[97]⟩ : ByteArray) (⟨#[98]⟩ : ByteArray))) [120]))) (jcs := (flatten (map T_Event.ienc ([(T_Event.mk 1 1 ((T_Path.mk false (⟨#[]⟩ : ByteArray) (⟨#[]⟩ : ByteArray))) ((T_Path.mk false (⟨#[97]⟩ : ByteArray) (⟨#[98]⟩ : ByteArray))) [120])] : List T_Event)))) _ rfl rfl (.cons (.v _) (.cons (.v _) (.cons (.v _) (.cons (.v _) (.cons (.v _) (.cons (.v _) (.cons (.v _) (.cons (.v _) (.cons (.ro _ _ rfl) (.nil)))))))))) rfl (.some (ics := T_Event.ienc ((T_Event.mk 1 1 ((T_Path.mk false (⟨#[]⟩ : ByteArray) (⟨#[]⟩ : ByteArray))) ((T_Path.mk false (⟨#[97]⟩ : ByteArray) (⟨#[98]⟩ : ByteArray))) [120]))) (jcs := (flatten (map T_Event.ienc ([] : List T_Event)))) _ rfl rfl (.cons (.v _) (.cons (.v _) (.cons (.v _) (.cons (.v _) (.cons (.v _) (.cons (.v _) (.cons (.v _) (.cons (.v _) (.cons (.ro _ _ rfl) (.nil)))))))))) rfl (.nil))) (by decide) (by decide) (by decide)),zp rfl (op_call _ _ 11 _ _ rfl call11 rfl (ok_tally_Count ([(T_Event.mk 1 1 ((T_Path.mk false (⟨#[]⟩ : ByteArray) (⟨#[]⟩ : ByteArray))) ((T_Path.mk false (⟨#[97]⟩ : ByteArray) (⟨#[98]⟩ : ByteArray))) [120]), (T_Event.mk 1 1 ((T_Path.mk false (⟨#[]⟩ : ByteArray) (⟨#[]⟩ : ByteArray))) ((T_Path.mk false (⟨#[97]⟩ : ByteArray) (⟨#[98]⟩ : ByteArray))) [120])]) _ hv2) rfl rfl),z4 rfl rfl,z8 hg3_5 rfl,zr' rfl (oM rfl),zr' rfl (oB rfl rfl),z3 true rfl,z8 hg3_9 rfl,zr' rfl (oM rfl),zr' rfl (oB rfl rfl),z3 true rfl,z8 hg3_13 rfl,zr' rfl (op_build _ _ _ _ [1, 1, 1, 1, 1, 1] _ _ underlying43 zr43 (fs43 _ underlying43) Src.nil rfl rfl rfl),zr' rfl (op_call _ _ 16 _ _ rfl call16 rfl ((ok_tally_Bound (T_Spool.mk [] 0 [] [] 0 []) _ hv3).args (subs_cons (sub_agg (subs_cons (sub_nil_frs true 11) (subs_cons (sub_refl _) (subs_cons (sub_nil_shr 1) (subs_cons (sub_nil_shr 1) (subs_cons (sub_refl _) (subs_cons (sub_nil_shr 1) (subs_nil)))))))) (subs_nil))) rfl rfl),zr' rfl (oB rfl rfl),z3 true rfl,z8 hg3_18 rfl,zr' rfl (op_build _ _ _ _ [1, 8, 1, 1] _ _ underlying75 zr75 (fs75 _ underlying75) (.copy _ Src.nil) rfl rfl rfl),zr' rfl (op_build1_fr _ _ _ 11 (.agg #[.int .i64 0, .bool false, .string ByteArray.empty, .string ByteArray.empty, .slice none 0 0, .slice none 0 0, .bool false, .string ByteArray.empty, .int .i64 0, .int .i64 0, .int .i64 0]) false _ _ underlying41 sz75 zr75 rfl rfl (.cons (.v _) (.cons (.v _) (.cons (.v _) (.cons (.v _) (.cons (.nil 3) (.cons (.nil 1) (.cons (.v _) (.cons (.v _) (.cons (.v _) (.cons (.v _) (.cons (.v _) (.nil)))))))))))) rfl (by decide) (by decide)),zr' rfl (op_build _ _ _ _ [1, 1, 1, 1, 1, 1] _ _ underlying43 zr43 (fs43 _ underlying43) (.take _ _ Src.nil) rfl rfl rfl),zr' rfl (op_call _ _ 17 _ _ rfl call17 rfl ((ok_tally_Waits ((T_Spool.mk ([(T_Item.mk 0 ((T_Mail.mk ((T_Path.mk false (⟨#[]⟩ : ByteArray) (⟨#[]⟩ : ByteArray))) [] [] false (⟨#[]⟩ : ByteArray) 0)) 1 0)]) 0 [] [] 0 [])) _ hv4).args (subs_cons (sub_agg (subs_cons (sub_refl _) (subs_cons (sub_refl _) (subs_cons (sub_nil_shr 1) (subs_cons (sub_nil_shr 1) (subs_cons (sub_refl _) (subs_cons (sub_nil_shr 1) (subs_nil)))))))) (subs_nil))) rfl rfl),zr' rfl (oB rfl rfl),z3 true rfl,z2 rfl,zz⟩ ?_
       exact hl7 _ (zi h).symm
      ·refine zg hn (_::_::_::_::(19,.agg [vi 1,vi 1,vb false,vs z0,vs z0,vb false,vs (⟨#[97]⟩ : ByteArray),vs (⟨#[98]⟩ : ByteArray),.fl .ro 1 (map (int .u8) [120])])::(20,.agg [vi 1,vi 1,vb false,vs z0,vs z0,vb false,vs (⟨#[97]⟩ : ByteArray),vs (⟨#[98]⟩ : ByteArray),.fl .ro 1 (map (int .u8) [120])])::(21,.fr (.own 64) false 9 (flatten (map T_Event.ienc ([(T_Event.mk 1 1 ((T_Path.mk false z0 z0)) ((T_Path.mk false (⟨#[97]⟩ : ByteArray) (⟨#[98]⟩ : ByteArray))) [120]),(T_Event.mk 1 1 ((T_Path.mk false z0 z0)) ((T_Path.mk false (⟨#[97]⟩ : ByteArray) (⟨#[98]⟩ : ByteArray))) [120])]))))::(22,vi v2)::(23,vb (v2 == 1))::(24,vb true)::(25,vi v1.1)::(26,vb (v1.1 == 2))::(27,vb (v1.1 == 2))::(28,vb true)::(29,vi v1.2)::(30,vb (v1.2 == 0))::(31,vb (v1.2 == 0))::(32,vb true)::(33,.agg [vz,vi 0,vz,vz,vi 0,vz])::(34,vi v3)::(35,vb (v3 == 40))::(36,vb (v3 == 40))::(37,vb false)::(38,.v undef)::(39,.v undef)::(40,.v undef)::(41,.v undef)::(42,.v undef)::(43,vb false)::(0,vb false)::[]) [0,1,2,3] [0,29] (zq [1] 4 19::zq [1] 5 20::zq [4,5] 6 21::zq [6] 7 22::zq [7] 8 23::zq [8] 9 24::zq [9,2] 10 25::zq [9,10] 11 26::zq [9,11] 12 27::zq [12] 13 28::zq [13,3] 14 29::zq [13,14] 15 30::zq [13,15] 16 31::zq [16] 17 32::zq [17] 18 33::zq [17,18] 19 34::zq [17,19] 20 35::zq [17,20] 21 36::zq [21] 22 37::zq [22] 23 38::zq [22] 24 39::zq [22] 25 40::zq [22] 26 41::zq [22] 27 42::zq [22] 28 43::zq [28] 29 0::[]) [(_,_),(_,_)] rfl ⟨zp rfl (op_loadA _ _ _ _ _ _ _ underlying64 rfl sz64 rfl rfl (zl rfl) rfl rfl),zp rfl (op_loadA _ _ _ _ _ _ _ underlying64 rfl sz64 rfl rfl (zl rfl) rfl rfl),zp rfl (op_buildn_fr _ _ 2 9 (.agg #[.int .i64 0, .int .i64 0, .bool false, .string ByteArray.empty, .string ByteArray.empty, .bool false, .string ByteArray.empty, .string ByteArray.empty, .slice none 0 0]) false [some (.tmp 19), some (.tmp 20)] _ underlying22 sz64 zr64 rfl rfl (by kernel_rfl) rfl rfl (.some (ics := T_Event.ienc ((T_Event.mk 1 1 ((T_Path.mk false (⟨#[]⟩ : ByteArray) (⟨#[]⟩ : ByteArray))) ((T_Path.mk false (⟨#[97]⟩ : ByteArray) (⟨#[98]⟩ : ByteArray))) [120]))) (jcs := (flatten (map T_Event.ienc ([(T_Event.mk 1 1 ((T_Path.mk false (⟨#[]⟩ : ByteArray) (⟨#[]⟩ : ByteArray))) ((T_Path.mk false (⟨#[97]⟩ : ByteArray) (⟨#[98]⟩ : ByteArray))) [120])] : List T_Event)))) _ rfl rfl (.cons (.v _) (.cons (.v _) (.cons (.v _) (.cons (.v _) (.cons (.v _) (.cons (.v _) (.cons (.v _) (.cons (.v _) (.cons (.ro _ _ rfl) (.nil)))))))))) rfl (.some (ics := T_Event.ienc ((T_Event.mk 1 1 ((T_Path.mk false (⟨#[]⟩ : ByteArray) (⟨#[]⟩ : ByteArray))) ((T_Path.mk false (⟨#[97]⟩ : ByteArray) (⟨#[98]⟩ : ByteArray))) [120]))) (jcs := (flatten (map T_Event.ienc ([] : List T_Event)))) _ rfl rfl (.cons (.v _) (.cons (.v _) (.cons (.v _) (.cons (.v _) (.cons (.v _) (.cons (.v _) (.cons (.v _) (.cons (.v _) (.cons (.ro _ _ rfl) (.nil)))))))))) rfl (.nil))) (by decide) (by decide) (by decide)),zp rfl (op_call _ _ 11 _ _ rfl call11 rfl (ok_tally_Count ([(T_Event.mk 1 1 ((T_Path.mk false (⟨#[]⟩ : ByteArray) (⟨#[]⟩ : ByteArray))) ((T_Path.mk false (⟨#[97]⟩ : ByteArray) (⟨#[98]⟩ : ByteArray))) [120]), (T_Event.mk 1 1 ((T_Path.mk false (⟨#[]⟩ : ByteArray) (⟨#[]⟩ : ByteArray))) ((T_Path.mk false (⟨#[97]⟩ : ByteArray) (⟨#[98]⟩ : ByteArray))) [120])]) _ hv2) rfl rfl),z4 rfl rfl,z8 hg3_5 rfl,zr' rfl (oM rfl),zr' rfl (oB rfl rfl),z3 true rfl,z8 hg3_9 rfl,zr' rfl (oM rfl),zr' rfl (oB rfl rfl),z3 true rfl,z8 hg3_13 rfl,zr' rfl (op_build _ _ _ _ [1, 1, 1, 1, 1, 1] _ _ underlying43 zr43 (fs43 _ underlying43) Src.nil rfl rfl rfl),zr' rfl (op_call _ _ 16 _ _ rfl call16 rfl ((ok_tally_Bound (T_Spool.mk [] 0 [] [] 0 []) _ hv3).args (subs_cons (sub_agg (subs_cons (sub_nil_frs true 11) (subs_cons (sub_refl _) (subs_cons (sub_nil_shr 1) (subs_cons (sub_nil_shr 1) (subs_cons (sub_refl _) (subs_cons (sub_nil_shr 1) (subs_nil)))))))) (subs_nil))) rfl rfl),zr' rfl (oB rfl rfl),z3 true rfl,z8 hg3_18 rfl,zt rfl,zt rfl,zt rfl,zt rfl,zt rfl,z3 false rfl,z2 rfl,zz⟩ ?_
       exact hl7 _ (zi h).symm
     ·refine zg hn (_::_::_::_::(19,.agg [vi 1,vi 1,vb false,vs z0,vs z0,vb false,vs (⟨#[97]⟩ : ByteArray),vs (⟨#[98]⟩ : ByteArray),.fl .ro 1 (map (int .u8) [120])])::(20,.agg [vi 1,vi 1,vb false,vs z0,vs z0,vb false,vs (⟨#[97]⟩ : ByteArray),vs (⟨#[98]⟩ : ByteArray),.fl .ro 1 (map (int .u8) [120])])::(21,.fr (.own 64) false 9 (flatten (map T_Event.ienc ([(T_Event.mk 1 1 ((T_Path.mk false z0 z0)) ((T_Path.mk false (⟨#[97]⟩ : ByteArray) (⟨#[98]⟩ : ByteArray))) [120]),(T_Event.mk 1 1 ((T_Path.mk false z0 z0)) ((T_Path.mk false (⟨#[97]⟩ : ByteArray) (⟨#[98]⟩ : ByteArray))) [120])]))))::(22,vi v2)::(23,vb (v2 == 1))::(24,vb true)::(25,vi v1.1)::(26,vb (v1.1 == 2))::(27,vb (v1.1 == 2))::(28,vb true)::(29,vi v1.2)::(30,vb (v1.2 == 0))::(31,vb (v1.2 == 0))::(32,vb false)::(33,.v undef)::(34,.v undef)::(35,.v undef)::(36,vb false)::(37,vb false)::(38,.v undef)::(39,.v undef)::(40,.v undef)::(41,.v undef)::(42,.v undef)::(43,vb false)::(0,vb false)::[]) [0,1,2,3] [0,29] (zq [1] 4 19::zq [1] 5 20::zq [4,5] 6 21::zq [6] 7 22::zq [7] 8 23::zq [8] 9 24::zq [9,2] 10 25::zq [9,10] 11 26::zq [9,11] 12 27::zq [12] 13 28::zq [13,3] 14 29::zq [13,14] 15 30::zq [13,15] 16 31::zq [16] 17 32::zq [17] 18 33::zq [17] 19 34::zq [17] 20 35::zq [17] 21 36::zq [21] 22 37::zq [22] 23 38::zq [22] 24 39::zq [22] 25 40::zq [22] 26 41::zq [22] 27 42::zq [22] 28 43::zq [28] 29 0::[]) [(_,_),(_,_)] rfl ⟨zp rfl (op_loadA _ _ _ _ _ _ _ underlying64 rfl sz64 rfl rfl (zl rfl) rfl rfl),zp rfl (op_loadA _ _ _ _ _ _ _ underlying64 rfl sz64 rfl rfl (zl rfl) rfl rfl),zp rfl (op_buildn_fr _ _ 2 9 (.agg #[.int .i64 0, .int .i64 0, .bool false, .string ByteArray.empty, .string ByteArray.empty, .bool false, .string ByteArray.empty, .string ByteArray.empty, .slice none 0 0]) false [some (.tmp 19), some (.tmp 20)] _ underlying22 sz64 zr64 rfl rfl (by kernel_rfl) rfl rfl (.some (ics := T_Event.ienc ((T_Event.mk 1 1 ((T_Path.mk false (⟨#[]⟩ : ByteArray) (⟨#[]⟩ : ByteArray))) ((T_Path.mk false (⟨#[97]⟩ : ByteArray) (⟨#[98]⟩ : ByteArray))) [120]))) (jcs := (flatten (map T_Event.ienc ([(T_Event.mk 1 1 ((T_Path.mk false (⟨#[]⟩ : ByteArray) (⟨#[]⟩ : ByteArray))) ((T_Path.mk false (⟨#[97]⟩ : ByteArray) (⟨#[98]⟩ : ByteArray))) [120])] : List T_Event)))) _ rfl rfl (.cons (.v _) (.cons (.v _) (.cons (.v _) (.cons (.v _) (.cons (.v _) (.cons (.v _) (.cons (.v _) (.cons (.v _) (.cons (.ro _ _ rfl) (.nil)))))))))) rfl (.some (ics := T_Event.ienc ((T_Event.mk 1 1 ((T_Path.mk false (⟨#[]⟩ : ByteArray) (⟨#[]⟩ : ByteArray))) ((T_Path.mk false (⟨#[97]⟩ : ByteArray) (⟨#[98]⟩ : ByteArray))) [120]))) (jcs := (flatten (map T_Event.ienc ([] : List T_Event)))) _ rfl rfl (.cons (.v _) (.cons (.v _) (.cons (.v _) (.cons (.v _) (.cons (.v _) (.cons (.v _) (.cons (.v _) (.cons (.v _) (.cons (.ro _ _ rfl) (.nil)))))))))) rfl (.nil))) (by decide) (by decide) (by decide)),zp rfl (op_call _ _ 11 _ _ rfl call11 rfl (ok_tally_Count ([(T_Event.mk 1 1 ((T_Path.mk false (⟨#[]⟩ : ByteArray) (⟨#[]⟩ : ByteArray))) ((T_Path.mk false (⟨#[97]⟩ : ByteArray) (⟨#[98]⟩ : ByteArray))) [120]), (T_Event.mk 1 1 ((T_Path.mk false (⟨#[]⟩ : ByteArray) (⟨#[]⟩ : ByteArray))) ((T_Path.mk false (⟨#[97]⟩ : ByteArray) (⟨#[98]⟩ : ByteArray))) [120])]) _ hv2) rfl rfl),z4 rfl rfl,z8 hg3_5 rfl,zr' rfl (oM rfl),zr' rfl (oB rfl rfl),z3 true rfl,z8 hg3_9 rfl,zr' rfl (oM rfl),zr' rfl (oB rfl rfl),z3 true rfl,z8 hg3_13 rfl,zt rfl,zt rfl,zt rfl,z3 false rfl,z1 rfl,zt rfl,zt rfl,zt rfl,zt rfl,zt rfl,z3 false rfl,z2 rfl,zz⟩ ?_
      exact hl7 _ (zi h).symm
    ·refine zg hn (_::_::_::_::(19,.agg [vi 1,vi 1,vb false,vs z0,vs z0,vb false,vs (⟨#[97]⟩ : ByteArray),vs (⟨#[98]⟩ : ByteArray),.fl .ro 1 (map (int .u8) [120])])::(20,.agg [vi 1,vi 1,vb false,vs z0,vs z0,vb false,vs (⟨#[97]⟩ : ByteArray),vs (⟨#[98]⟩ : ByteArray),.fl .ro 1 (map (int .u8) [120])])::(21,.fr (.own 64) false 9 (flatten (map T_Event.ienc ([(T_Event.mk 1 1 ((T_Path.mk false z0 z0)) ((T_Path.mk false (⟨#[97]⟩ : ByteArray) (⟨#[98]⟩ : ByteArray))) [120]),(T_Event.mk 1 1 ((T_Path.mk false z0 z0)) ((T_Path.mk false (⟨#[97]⟩ : ByteArray) (⟨#[98]⟩ : ByteArray))) [120])]))))::(22,vi v2)::(23,vb (v2 == 1))::(24,vb true)::(25,vi v1.1)::(26,vb (v1.1 == 2))::(27,vb (v1.1 == 2))::(28,vb false)::(29,.v undef)::(30,.v undef)::(31,vb false)::(32,vb false)::(33,.v undef)::(34,.v undef)::(35,.v undef)::(36,vb false)::(37,vb false)::(38,.v undef)::(39,.v undef)::(40,.v undef)::(41,.v undef)::(42,.v undef)::(43,vb false)::(0,vb false)::[]) [0,1,2,3] [0,29] (zq [1] 4 19::zq [1] 5 20::zq [4,5] 6 21::zq [6] 7 22::zq [7] 8 23::zq [8] 9 24::zq [9,2] 10 25::zq [9,10] 11 26::zq [9,11] 12 27::zq [12] 13 28::zq [13] 14 29::zq [13] 15 30::zq [13] 16 31::zq [16] 17 32::zq [17] 18 33::zq [17] 19 34::zq [17] 20 35::zq [17] 21 36::zq [21] 22 37::zq [22] 23 38::zq [22] 24 39::zq [22] 25 40::zq [22] 26 41::zq [22] 27 42::zq [22] 28 43::zq [28] 29 0::[]) [(_,_),(_,_)] rfl ⟨zp rfl (op_loadA _ _ _ _ _ _ _ underlying64 rfl sz64 rfl rfl (zl rfl) rfl rfl),zp rfl (op_loadA _ _ _ _ _ _ _ underlying64 rfl sz64 rfl rfl (zl rfl) rfl rfl),zp rfl (op_buildn_fr _ _ 2 9 (.agg #[.int .i64 0, .int .i64 0, .bool false, .string ByteArray.empty, .string ByteArray.empty, .bool false, .string ByteArray.empty, .string ByteArray.empty, .slice none 0 0]) false [some (.tmp 19), some (.tmp 20)] _ underlying22 sz64 zr64 rfl rfl (by kernel_rfl) rfl rfl (.some (ics := T_Event.ienc ((T_Event.mk 1 1 ((T_Path.mk false (⟨#[]⟩ : ByteArray) (⟨#[]⟩ : ByteArray))) ((T_Path.mk false (⟨#[97]⟩ : ByteArray) (⟨#[98]⟩ : ByteArray))) [120]))) (jcs := (flatten (map T_Event.ienc ([(T_Event.mk 1 1 ((T_Path.mk false (⟨#[]⟩ : ByteArray) (⟨#[]⟩ : ByteArray))) ((T_Path.mk false (⟨#[97]⟩ : ByteArray) (⟨#[98]⟩ : ByteArray))) [120])] : List T_Event)))) _ rfl rfl (.cons (.v _) (.cons (.v _) (.cons (.v _) (.cons (.v _) (.cons (.v _) (.cons (.v _) (.cons (.v _) (.cons (.v _) (.cons (.ro _ _ rfl) (.nil)))))))))) rfl (.some (ics := T_Event.ienc ((T_Event.mk 1 1 ((T_Path.mk false (⟨#[]⟩ : ByteArray) (⟨#[]⟩ : ByteArray))) ((T_Path.mk false (⟨#[97]⟩ : ByteArray) (⟨#[98]⟩ : ByteArray))) [120]))) (jcs := (flatten (map T_Event.ienc ([] : List T_Event)))) _ rfl rfl (.cons (.v _) (.cons (.v _) (.cons (.v _) (.cons (.v _) (.cons (.v _) (.cons (.v _) (.cons (.v _) (.cons (.v _) (.cons (.ro _ _ rfl) (.nil)))))))))) rfl (.nil))) (by decide) (by decide) (by decide)),zp rfl (op_call _ _ 11 _ _ rfl call11 rfl (ok_tally_Count ([(T_Event.mk 1 1 ((T_Path.mk false (⟨#[]⟩ : ByteArray) (⟨#[]⟩ : ByteArray))) ((T_Path.mk false (⟨#[97]⟩ : ByteArray) (⟨#[98]⟩ : ByteArray))) [120]), (T_Event.mk 1 1 ((T_Path.mk false (⟨#[]⟩ : ByteArray) (⟨#[]⟩ : ByteArray))) ((T_Path.mk false (⟨#[97]⟩ : ByteArray) (⟨#[98]⟩ : ByteArray))) [120])]) _ hv2) rfl rfl),z4 rfl rfl,z8 hg3_5 rfl,zr' rfl (oM rfl),zr' rfl (oB rfl rfl),z3 true rfl,z8 hg3_9 rfl,zt rfl,zt rfl,z3 false rfl,z1 rfl,zt rfl,zt rfl,zt rfl,z3 false rfl,z1 rfl,zt rfl,zt rfl,zt rfl,zt rfl,zt rfl,z3 false rfl,z2 rfl,zz⟩ ?_
     exact hl7 _ (zi h).symm
   ·refine zg hn (_::_::_::_::(19,.agg [vi 1,vi 1,vb false,vs z0,vs z0,vb false,vs (⟨#[97]⟩ : ByteArray),vs (⟨#[98]⟩ : ByteArray),.fl .ro 1 (map (int .u8) [120])])::(20,.agg [vi 1,vi 1,vb false,vs z0,vs z0,vb false,vs (⟨#[97]⟩ : ByteArray),vs (⟨#[98]⟩ : ByteArray),.fl .ro 1 (map (int .u8) [120])])::(21,.fr (.own 64) false 9 (flatten (map T_Event.ienc ([(T_Event.mk 1 1 ((T_Path.mk false z0 z0)) ((T_Path.mk false (⟨#[97]⟩ : ByteArray) (⟨#[98]⟩ : ByteArray))) [120]),(T_Event.mk 1 1 ((T_Path.mk false z0 z0)) ((T_Path.mk false (⟨#[97]⟩ : ByteArray) (⟨#[98]⟩ : ByteArray))) [120])]))))::(22,vi v2)::(23,vb (v2 == 1))::(24,vb false)::(25,.v undef)::(26,.v undef)::(27,vb false)::(28,vb false)::(29,.v undef)::(30,.v undef)::(31,vb false)::(32,vb false)::(33,.v undef)::(34,.v undef)::(35,.v undef)::(36,vb false)::(37,vb false)::(38,.v undef)::(39,.v undef)::(40,.v undef)::(41,.v undef)::(42,.v undef)::(43,vb false)::(0,vb false)::[]) [0,1,2,3] [0,29] (zq [1] 4 19::zq [1] 5 20::zq [4,5] 6 21::zq [6] 7 22::zq [7] 8 23::zq [8] 9 24::zq [9] 10 25::zq [9] 11 26::zq [9] 12 27::zq [12] 13 28::zq [13] 14 29::zq [13] 15 30::zq [13] 16 31::zq [16] 17 32::zq [17] 18 33::zq [17] 19 34::zq [17] 20 35::zq [17] 21 36::zq [21] 22 37::zq [22] 23 38::zq [22] 24 39::zq [22] 25 40::zq [22] 26 41::zq [22] 27 42::zq [22] 28 43::zq [28] 29 0::[]) [(_,_),(_,_)] rfl ⟨zp rfl (op_loadA _ _ _ _ _ _ _ underlying64 rfl sz64 rfl rfl (zl rfl) rfl rfl),zp rfl (op_loadA _ _ _ _ _ _ _ underlying64 rfl sz64 rfl rfl (zl rfl) rfl rfl),zp rfl (op_buildn_fr _ _ 2 9 (.agg #[.int .i64 0, .int .i64 0, .bool false, .string ByteArray.empty, .string ByteArray.empty, .bool false, .string ByteArray.empty, .string ByteArray.empty, .slice none 0 0]) false [some (.tmp 19), some (.tmp 20)] _ underlying22 sz64 zr64 rfl rfl (by kernel_rfl) rfl rfl (.some (ics := T_Event.ienc ((T_Event.mk 1 1 ((T_Path.mk false (⟨#[]⟩ : ByteArray) (⟨#[]⟩ : ByteArray))) ((T_Path.mk false (⟨#[97]⟩ : ByteArray) (⟨#[98]⟩ : ByteArray))) [120]))) (jcs := (flatten (map T_Event.ienc ([(T_Event.mk 1 1 ((T_Path.mk false (⟨#[]⟩ : ByteArray) (⟨#[]⟩ : ByteArray))) ((T_Path.mk false (⟨#[97]⟩ : ByteArray) (⟨#[98]⟩ : ByteArray))) [120])] : List T_Event)))) _ rfl rfl (.cons (.v _) (.cons (.v _) (.cons (.v _) (.cons (.v _) (.cons (.v _) (.cons (.v _) (.cons (.v _) (.cons (.v _) (.cons (.ro _ _ rfl) (.nil)))))))))) rfl (.some (ics := T_Event.ienc ((T_Event.mk 1 1 ((T_Path.mk false (⟨#[]⟩ : ByteArray) (⟨#[]⟩ : ByteArray))) ((T_Path.mk false (⟨#[97]⟩ : ByteArray) (⟨#[98]⟩ : ByteArray))) [120]))) (jcs := (flatten (map T_Event.ienc ([] : List T_Event)))) _ rfl rfl (.cons (.v _) (.cons (.v _) (.cons (.v _) (.cons (.v _) (.cons (.v _) (.cons (.v _) (.cons (.v _) (.cons (.v _) (.cons (.ro _ _ rfl) (.nil)))))))))) rfl (.nil))) (by decide) (by decide) (by decide)),zp rfl (op_call _ _ 11 _ _ rfl call11 rfl (ok_tally_Count ([(T_Event.mk 1 1 ((T_Path.mk false (⟨#[]⟩ : ByteArray) (⟨#[]⟩ : ByteArray))) ((T_Path.mk false (⟨#[97]⟩ : ByteArray) (⟨#[98]⟩ : ByteArray))) [120]), (T_Event.mk 1 1 ((T_Path.mk false (⟨#[]⟩ : ByteArray) (⟨#[]⟩ : ByteArray))) ((T_Path.mk false (⟨#[97]⟩ : ByteArray) (⟨#[98]⟩ : ByteArray))) [120])]) _ hv2) rfl rfl),z4 rfl rfl,z8 hg3_5 rfl,zt rfl,zt rfl,z3 false rfl,z1 rfl,zt rfl,zt rfl,z3 false rfl,z1 rfl,zt rfl,zt rfl,zt rfl,z3 false rfl,z1 rfl,zt rfl,zt rfl,zt rfl,zt rfl,zt rfl,z3 false rfl,z2 rfl,zz⟩ ?_
    exact hl7 _ (zi h).symm
end Go.Proofs.YtofbofdggabfiaaDoor
