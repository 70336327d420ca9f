/-
  The model's runs are what is told in Lean.
-/
import Derived.Test.YtkgfjkfccpjcgaaDoorProg
import Derived.KernelRfl
import Derived.Test.YtkgfjkfccpjcgaaDoorShelf
import Derived.Test.YtkgfjkfccpjcgaaDoorB2
import Derived.Test.YtkgfjkfccpjcgaaDoorB4
import Derived.Test.YtkgfjkfccpjcgaaDoorB5
import Derived.Test.YtkgfjkfccpjcgaaDoorB8
import Derived.Test.YtkgfjkfccpjcgaaDoorSrt
import Derived.Test.YtkgfjkfccpjcgaaDoorB9
import Derived.Test.YtkgfjkfccpjcgaaDoorShr
import Derived.Test.YtkgfjkfccpjcgaaDoorOkc3
set_option linter.unusedVariables false
set_option linter.unusedSimpArgs false
set_option maxHeartbeats 1000000
namespace Go.Proofs.YtkgfjkfccpjcgaaDoor
open Go.Abs Go.Abs.Sh Tryd
open List (map flatten)
open Value (int)

theorem ok_wherrylaw06_ShrinkRow (mx : Int) (l : (List Int)) (r : Bool) (h : Sh.wherrylaw06_ShrinkRow l = some r) : FnG Tryd.prog (GL mx) 7 [.fl .shr 1 (map (int .i64) l)] (.v (.bool r)) := by
  unfold Sh.wherrylaw06_ShrinkRow at h
  refine fn_okG func7 rfl (zl rfl) rfl rfl fun g0 hn hio => ?_
  refine zgg hn [_,_,(2,vb false)] [0,1] [0,1] [zq [] 2 2] [(_,_),(_,_)] rfl ⟨z2 rfl,zz⟩ ?_
  refine ht_seq ?_
  refine zgg hn [_,_,(15,fi l),(16,vi (l.length : Int)),(17,vb (decide (400 < (l.length : Int))))] [0,1] [0,1,4] [zq [0] 2 15,zq [2] 3 16,zq [3] 4 17] [(_,_),(_,_),(_,_)] rfl ⟨z1 rfl,zp rfl (op_len_fl _ _ _ underlying37 rfl (by decide) (map_len _)),z4 rfl rfl,zz⟩ ?_
  refine ht_cond _ rfl (fun hb1 => ?_) (fun hb1 => ?_)
  ·have h := cond_t hb1 h
   refine zgg hn [_,_,_,(2,vb true)] [0,1,2] [1,3] [zq [] 3 2] [(_,_),(_,_)] rfl ⟨z2 rfl,zz⟩ ?_
   refine ht_ret ?_
   refine pt_pick [1] (by kernel_rfl) (es' := [(_,_)]) rfl ?_
   refine pt_r_then ?_
   obtain rfl := zi h
   exact pt_ret hio rfl (.tmp _ _ .nil) rfl rfl
  ·have h := cond_f hb1 h
   refine ht_skip ?_
   refine pt_then (ht_seq ?_)
   obtain ⟨v2, hv2, h⟩ := zn h
   refine zg hn [_,_,_,(18,fi l),(19,.fl (.own 3) 1 (map (int .i64) v2)),(3,.fl (.own 3) 1 (map (int .i64) v2))] [0,1,2] [0,1,5] [zq [0] 3 18,zq [3] 4 19,⟨[],[4],[5],[(.slot 3)]⟩] [(_,_),(_,_),(_,_)] rfl ⟨z1 rfl,zp rfl (op_call _ _ 23 _ _ rfl call23 rfl (ok_wherrykeep_TwinInts l _ hv2) rfl rfl),zp rfl (op_assign_take _ _ _ _ rfl),zz⟩ ?_
   refine pt_then (ht_seq ?_)
   obtain ⟨v3, hv3, h⟩ := zn h
   refine zg hn [_,_,_,(21,.same (.slot 3)),(22,.tup [.fl (.own 3) 1 (map (int .i64) v3.1),.fl (.own 3) 1 (map (int .i64) v3.2.1),vi v3.2.2]),(20,.tup [.fl (.own 3) 1 (map (int .i64) v3.1),.fl (.own 3) 1 (map (int .i64) v3.2.1),vi v3.2.2]),(23,.fl (.own 3) 1 (map (int .i64) v3.1)),(20,.tup [.any,.fl (.own 3) 1 (map (int .i64) v3.2.1),vi v3.2.2]),(24,.fl (.own 3) 1 (map (int .i64) v3.2.1)),(20,.tup [.any,.any,vi v3.2.2]),(25,vi v3.2.2),(4,.fl (.own 3) 1 (map (int .i64) v3.1)),(5,.fl (.own 3) 1 (map (int .i64) v3.2.1)),(6,vi v3.2.2)] [0,1,2] [0,1,2,11,12,13] [zq [2] 3 21,zq [3,2] 4 22,⟨[],[4],[5],[(.slot 20)]⟩,⟨[],[5],[7,6],[(.slot 23)]⟩,⟨[],[7],[9,8],[(.slot 24)]⟩,zq [9] 10 25,⟨[],[6],[11],[(.slot 4)]⟩,⟨[],[8],[12],[(.slot 5)]⟩,zq [10] 13 6] [(_,_),(_,_),(_,_),(_,_),(_,_),(_,_)] rfl ⟨z1 rfl,zp rfl (op_call _ _ 24 _ _ rfl call24 rfl (ok_shrink_Row v2 _ hv3) rfl rfl),zp rfl (op_move_take _ _ _ _ rfl),zp rfl (op_extract_take _ _ _ _ _ rfl (zl rfl) rfl rfl (by decide) rfl),zp rfl (op_extract_take _ _ _ _ _ rfl (zl rfl) rfl rfl (by decide) rfl),zp rfl (oE rfl),zp rfl (op_assign_take _ _ _ _ rfl),zp rfl (op_assign_take _ _ _ _ rfl),z2 rfl,zz⟩ ?_
   refine pt_then ?_
   refine zgg hn [_,_,_,_,_,_,(26,fi l),(27,vi (l.length : Int)),(28,vb (decide ((l.length : Int) ≤ 320))),(7,vb (decide ((l.length : Int) ≤ 320)))] [0,1,2,3,4,5] [0,1,2,3,4,5,9] [zq [0] 6 26,zq [6] 7 27,zq [7] 8 28,zq [8] 9 7] [(_,_),(_,_),(_,_),(_,_),(_,_),(_,_),(_,_)] rfl ⟨z1 rfl,zp rfl (op_len_fl _ _ _ underlying37 rfl (by decide) (map_len _)),z4 rfl rfl,z2 rfl,zz⟩ ?_
   refine ht_seq ?_
   refine zgg hn [_,_,_,_,_,_,_,(8,vi 0)] [0,1,2,3,4,5,6] [0,1,2,3,4,5,6,7] [zq [] 7 8] [(_,_),(_,_),(_,_),(_,_),(_,_),(_,_),(_,_),(_,_)] rfl ⟨z2 rfl,zz⟩ ?_
   refine ht_loopS h (fun ((s21,s22) : Bool × Int) => [(0,fi l),(160,.glob (GL mx)),(3,.fl (.own 3) 1 (map (int .i64) v2)),(4,.fl (.own 3) 1 (map (int .i64) v3.1)),(5,.fl (.own 3) 1 (map (int .i64) v3.2.1)),(6,vi v3.2.2),(7,vb s21),(8,vi s22)]) (fun (s28 : Bool) => [(0,fi l),(160,.glob (GL mx)),(3,.fl (.own 3) 1 (map (int .i64) v2)),(4,.fl (.own 3) 1 (map (int .i64) v3.1)),(5,.fl (.own 3) 1 (map (int .i64) v3.2.1)),(6,vi v3.2.2),(7,vb s28)]) ?_ ?_
   ·rintro s28 h
    refine pt_then (ht_seq ?_)
    refine zgg hn [_,_,_,_,_,_,_,(50,vb s28),(51,vb (!s28))] [0,1,2,3,4,5,6] [0,1,2,3,4,5,8] [zq [6] 7 50,zq [7] 8 51] [(_,_),(_,_),(_,_),(_,_),(_,_),(_,_),(_,_)] rfl ⟨z1 rfl,zp rfl (op_un _ _ _ _ rfl rfl),zz⟩ ?_
    refine ht_cond _ rfl (fun hb40 => ?_) (fun hb40 => ?_)
    ·have h := cond_t hb40 h
     refine ht_seq ?_
     refine ht_joinS h (fun (s43 : Bool) => [(160,.glob (GL mx)),(2,vb s43)]) ?_ ?_
     ·rintro s43 h
      refine pt_then (ht_ret ?_)
      refine pt_pick [1] (by kernel_rfl) (es' := [(_,_)]) rfl ?_
      refine pt_r_then ?_
      obtain rfl := zi h
      exact pt_ret hio rfl (.tmp _ _ .nil) rfl rfl
     ·intro u44 h hl45 hr46
      refine cond_some h (fun hg11_2 h => ?_) (fun hg11_2 h => ?_)
      ·obtain ⟨v41, hv41, h⟩ := zn h
       refine cond_some h (fun hg11_10 h => ?_) (fun hg11_10 h => ?_)
       ·obtain ⟨v42, hv42, h⟩ := zn h
        refine zg hn (_::_::_::_::_::_::_::(52,vi v3.2.2)::(53,vb (v3.2.2 == 1))::(54,vb true)::(55,.fl (.own 3) 1 (map (int .i64) v3.1))::(56,vi (v3.1.length : Int))::(57,.fl (.own 3) 1 (map (int .i64) v3.2.1))::(58,vi (v3.2.1.length : Int))::(59,vi v41)::(60,vb (v41 == 0))::(61,vb (v41 == 0))::(62,vb true)::(63,vb v42)::(64,vb v42)::(2,vb v42)::[]) [0,1,2,3,4,5,6] [1,20] [zq [5] 7 52,zq [7] 8 53,zq [8] 9 54,⟨[9],[3],[10],[(.slot 55)]⟩,zq [9,10] 11 56,⟨[9],[4],[12],[(.slot 57)]⟩,zq [9,12] 13 58,zq [9,11,13] 14 59,zq [9,14] 15 60,zq [9,15] 16 61,zq [16] 17 62,zq [17,1] 18 63,zq [17,18] 19 64,zq [19] 20 2] [(_,_),(_,_)] rfl ⟨z1 rfl,z4 rfl rfl,z8 hg11_2 rfl,zr' rfl (op_move_take _ _ _ _ rfl),zr' rfl (op_len_fl _ _ _ underlying37 rfl (by decide) (map_len _)),zr' rfl (op_move_take _ _ _ _ rfl),zr' rfl (op_len_fl _ _ _ underlying37 rfl (by decide) (map_len _)),zr' rfl (oB rfl (ibind (f := int .i64) (Option.some.inj hv41))),zr' rfl (oB rfl rfl),z3 true rfl,z8 hg11_10 rfl,zr' rfl (op_callG _ _ 160 21 _ _ rfl call21 rfl rfl (fun _ h => h) (ok_wherrylaw06_wakes mx  _ hv42) rfl rfl),z3 true rfl,z2 rfl,zz⟩ ?_
        exact hl45 _ (zi h).symm
       ·refine zg hn (_::_::_::_::_::_::_::(52,vi v3.2.2)::(53,vb (v3.2.2 == 1))::(54,vb true)::(55,.fl (.own 3) 1 (map (int .i64) v3.1))::(56,vi (v3.1.length : Int))::(57,.fl (.own 3) 1 (map (int .i64) v3.2.1))::(58,vi (v3.2.1.length : Int))::(59,vi v41)::(60,vb (v41 == 0))::(61,vb (v41 == 0))::(62,vb false)::(63,.v undef)::(64,vb false)::(2,vb false)::[]) [0,1,2,3,4,5,6] [1,20] [zq [5] 7 52,zq [7] 8 53,zq [8] 9 54,⟨[9],[3],[10],[(.slot 55)]⟩,zq [9,10] 11 56,⟨[9],[4],[12],[(.slot 57)]⟩,zq [9,12] 13 58,zq [9,11,13] 14 59,zq [9,14] 15 60,zq [9,15] 16 61,zq [16] 17 62,zq [17] 18 63,zq [17] 19 64,zq [19] 20 2] [(_,_),(_,_)] rfl ⟨z1 rfl,z4 rfl rfl,z8 hg11_2 rfl,zr' rfl (op_move_take _ _ _ _ rfl),zr' rfl (op_len_fl _ _ _ underlying37 rfl (by decide) (map_len _)),zr' rfl (op_move_take _ _ _ _ rfl),zr' rfl (op_len_fl _ _ _ underlying37 rfl (by decide) (map_len _)),zr' rfl (oB rfl (ibind (f := int .i64) (Option.some.inj hv41))),zr' rfl (oB rfl rfl),z3 true rfl,z8 hg11_10 rfl,zt rfl,z3 false rfl,z2 rfl,zz⟩ ?_
        exact hl45 _ (zi h).symm
      ·refine zg hn (_::_::_::_::_::_::_::(52,vi v3.2.2)::(53,vb (v3.2.2 == 1))::(54,vb false)::(55,.v undef)::(56,.v undef)::(57,.v undef)::(58,.v undef)::(59,.v undef)::(60,.v undef)::(61,vb false)::(62,vb false)::(63,.v undef)::(64,vb false)::(2,vb false)::[]) [0,1,2,3,4,5,6] [1,20] [zq [5] 7 52,zq [7] 8 53,zq [8] 9 54,zq [9] 10 55,zq [9] 11 56,zq [9] 12 57,zq [9] 13 58,zq [9] 14 59,zq [9] 15 60,zq [9] 16 61,zq [16] 17 62,zq [17] 18 63,zq [17] 19 64,zq [19] 20 2] [(_,_),(_,_)] rfl ⟨z1 rfl,z4 rfl rfl,z8 hg11_2 rfl,zt rfl,zt rfl,zt rfl,zt rfl,zt rfl,zt rfl,z3 false rfl,z1 rfl,zt rfl,z3 false rfl,z2 rfl,zz⟩ ?_
       exact hl45 _ (zi h).symm
    ·have h := cond_f hb40 h
     refine ht_skip ?_
     refine pt_then (ht_seq ?_)
     obtain ⟨v47, hv47, h⟩ := zn h
     refine zg hn (_::_::_::_::_::_::_::(66,fi l)::(67,.tup [.fl (.own 3) 1 (map (int .i64) v47.1),.fl (.own 3) 1 (map (int .i64) v47.2)])::(65,.tup [.fl (.own 3) 1 (map (int .i64) v47.1),.fl (.own 3) 1 (map (int .i64) v47.2)])::(68,.fl (.own 3) 1 (map (int .i64) v47.1))::(65,.tup [.any,.fl (.own 3) 1 (map (int .i64) v47.2)])::(69,.fl (.own 3) 1 (map (int .i64) v47.2))::(65,.tup [.any,.any])::(9,.fl (.own 3) 1 (map (int .i64) v47.1))::(10,.fl (.own 3) 1 (map (int .i64) v47.2))::[]) [0,1,2,3,4,5,6] [0,1,2,3,4,5,14,15] [zq [0] 7 66,zq [7] 8 67,⟨[],[8],[9],[(.slot 65)]⟩,⟨[],[9],[11,10],[(.slot 68)]⟩,⟨[],[11],[13,12],[(.slot 69)]⟩,⟨[],[10],[14],[(.slot 9)]⟩,⟨[],[12],[15],[(.slot 10)]⟩] [(_,_),(_,_),(_,_),(_,_),(_,_),(_,_),(_,_),(_,_)] rfl ⟨z1 rfl,zp rfl (op_call _ _ 25 _ _ rfl call25 rfl (ok_wherryref01_Row l _ hv47) rfl rfl),zp rfl (op_move_take _ _ _ _ rfl),zp rfl (op_extract_take _ _ _ _ _ rfl (zl rfl) rfl rfl (by decide) rfl),zp rfl (op_extract_take _ _ _ _ _ rfl (zl rfl) rfl rfl (by decide) rfl),zp rfl (op_assign_take _ _ _ _ rfl),zp rfl (op_assign_take _ _ _ _ rfl),zz⟩ ?_
     refine pt_then (ht_seq ?_)
     refine ht_seq ?_
     refine ht_joinS h (fun (s51 : Bool) => [(0,fi l),(160,.glob (GL mx)),(4,.fl (.own 3) 1 (map (int .i64) v3.1)),(5,.fl (.own 3) 1 (map (int .i64) v3.2.1)),(96,vb s51)]) ?_ ?_
     ·rintro s51 h
      refine pt_then ?_
      refine ht_cond _ rfl (fun hb55 => ?_) (fun hb55 => ?_)
      ·have h := cond_t hb55 h
       refine zgg hn [_,_,_,_,_,(2,vb false)] [0,1,2,3,4] [1,5] [zq [] 5 2] [(_,_),(_,_)] rfl ⟨z2 rfl,zz⟩ ?_
       refine ht_ret ?_
       refine pt_pick [1] (by kernel_rfl) (es' := [(_,_)]) rfl ?_
       refine pt_r_then ?_
       obtain rfl := zi h
       exact pt_ret hio rfl (.tmp _ _ .nil) rfl rfl
      ·have h := cond_f hb55 h
       refine ht_skip ?_
       refine pt_then ?_
       refine zgg hn [_,_,_,_,_,(11,vz)] [0,1,2,3,4] [0,1,2,3,5] [zq [] 5 11] [(_,_),(_,_),(_,_),(_,_),(_,_)] rfl ⟨z2 rfl,zz⟩ ?_
       refine ht_seq ?_
       refine zgg hn [_,_,_,_,_,(12,vi 0)] [0,1,2,3,4] [0,1,2,3,4,5] [zq [] 5 12] [(_,_),(_,_),(_,_),(_,_),(_,_),(_,_)] rfl ⟨z2 rfl,zz⟩ ?_
       refine ht_sub (fs := [(0,fi l),(160,.glob (GL mx)),(4,.fl (.own 3) 1 (map (int .i64) v3.1)),(5,.fl (.own 3) 1 (map (int .i64) v3.2.1)),(11,.fl (.own 3) 1 (map (int .i64) [])),(12,vi 0)]) (.same _ (.same _ (.same _ (.same _ (.sub _ (sub_nil 3 1) rfl (.same _ .nil)))))) ?_
       refine ht_loopS h (fun ((s203,s204) : (List Int) × Int) => [(0,fi l),(160,.glob (GL mx)),(4,.fl (.own 3) 1 (map (int .i64) v3.1)),(5,.fl (.own 3) 1 (map (int .i64) v3.2.1)),(11,.fl (.own 3) 1 (map (int .i64) s203)),(12,vi s204)]) (fun (s268 : (List Int)) => [(0,fi l),(160,.glob (GL mx)),(11,.fl (.own 3) 1 (map (int .i64) s268))]) ?_ ?_
       ·rintro s268 h
        refine pt_then (ht_seq ?_)
        refine ht_joinS h (fun (s340 : Bool) => [(160,.glob (GL mx)),(2,vb s340)]) ?_ ?_
        ·rintro s340 h
         refine pt_then (ht_ret ?_)
         refine pt_pick [1] (by kernel_rfl) (es' := [(_,_)]) rfl ?_
         obtain rfl := zi h
         exact pt_ret hio rfl (.tmp _ _ .nil) rfl rfl
        ·intro u341 h hl342 hr343
         obtain ⟨v338, hv338, h⟩ := zn h
         refine cond_some h (fun hg32_3 h => ?_) (fun hg32_3 h => ?_)
         ·obtain ⟨v339, hv339, h⟩ := zn h
          refine zg hn [_,_,_,(154,.fl (.own 3) 1 (map (int .i64) s268)),(155,fi l),(156,vb v338),(157,vb true),(158,vb v339),(159,vb v339),(2,vb v339)] [0,1,2] [1,9] [⟨[],[2],[3],[(.slot 154)]⟩,zq [0] 4 155,zq [3,4] 5 156,zq [5] 6 157,zq [6,1] 7 158,zq [6,7] 8 159,zq [8] 9 2] [(_,_),(_,_)] rfl ⟨zp rfl (op_move_take _ _ _ _ rfl),z1 rfl,zp rfl (op_call _ _ 26 _ _ rfl call26 rfl (ok_wherrykeep_Ints s268 l _ hv338) rfl rfl),z8 hg32_3 rfl,zr' rfl (op_callG _ _ 160 21 _ _ rfl call21 rfl rfl (fun _ h => h) (ok_wherrylaw06_wakes mx  _ hv339) rfl rfl),z3 true rfl,z2 rfl,zz⟩ ?_
          exact hl342 _ (zi h).symm
         ·refine zg hn [_,_,_,(154,.fl (.own 3) 1 (map (int .i64) s268)),(155,fi l),(156,vb v338),(157,vb false),(158,.v undef),(159,vb false),(2,vb false)] [0,1,2] [1,9] [⟨[],[2],[3],[(.slot 154)]⟩,zq [0] 4 155,zq [3,4] 5 156,zq [5] 6 157,zq [6] 7 158,zq [6] 8 159,zq [8] 9 2] [(_,_),(_,_)] rfl ⟨zp rfl (op_move_take _ _ _ _ rfl),z1 rfl,zp rfl (op_call _ _ 26 _ _ rfl call26 rfl (ok_wherrykeep_Ints s268 l _ hv338) rfl rfl),z8 hg32_3 rfl,zt rfl,z3 false rfl,z2 rfl,zz⟩ ?_
          exact hl342 _ (zi h).symm
       ·rintro u269 hl270 hr271 ⟨s203, s204⟩ rr274 h ho272
        refine ht_seq ?_
        refine zgg hn [_,_,_,_,_,_,(97,vi s204),(98,.same (.slot 4)),(99,vi (v3.1.length : Int)),(100,vb (decide (s204 < (v3.1.length : Int))))] [0,1,2,3,4,5] [0,1,2,3,4,5,9] [zq [5] 6 97,zq [2] 7 98,zq [7,2] 8 99,zq [6,8] 9 100] [(_,_),(_,_),(_,_),(_,_),(_,_),(_,_),(_,_)] rfl ⟨z1 rfl,z1 rfl,zp rfl (op_len_fl _ _ _ underlying37 rfl (by decide) (map_len _)),z4 rfl rfl,zz⟩ ?_
        refine ht_cond _ rfl (fun hb275 => ?_) (fun hb275 => ?_)
        ·have h := cond_t hb275 h
         refine ht_skip ?_
         refine pt_then (ht_seq ?_)
         refine ht_block ?_
         refine ht_seq ?_
         obtain ⟨v57, hv57, h⟩ := zn h
         obtain ⟨v58, hv58, h⟩ := zn h
         refine zg hn [_,_,_,_,_,_,_,(103,.same (.slot 4)),(104,vi s204),(105,.eref (.slot 4) (v57 * 1)),(106,vi v58),(13,vi v58),(14,vi 1)] [0,1,2,3,4,5,6] [0,1,2,3,4,5,11,12] [zq [2] 7 103,zq [5] 8 104,zq [7,2,8] 9 105,zq [9,2] 10 106,zq [10] 11 13,zq [] 12 14] [(_,_),(_,_),(_,_),(_,_),(_,_),(_,_),(_,_),(_,_)] rfl ⟨z1 rfl,z1 rfl,zp rfl (op_ix _ _ _ _ _ _ _ _ underlying37 sz3 (by decide) rfl rfl rfl (ix_ok hv57).1 (map_lt (ix_ok hv57).2) rfl),zp rfl (op_load_e _ _ _ _ _ _ underlying3 rfl rfl rfl (map_get hv58)),z2 rfl,z2 rfl,zz⟩ ?_
         refine pt_then (ht_seq ?_)
         refine ht_joinS h (fun ((s289,s290) : Int × Int) => [(0,fi l),(160,.glob (GL mx)),(4,.fl (.own 3) 1 (map (int .i64) v3.1)),(5,.fl (.own 3) 1 (map (int .i64) v3.2.1)),(11,.fl (.own 3) 1 (map (int .i64) s203)),(12,vi s204),(13,vi s289),(14,vi s290)]) ?_ ?_
         ·rintro ⟨s289, s290⟩ h
          refine pt_then ?_
          refine ht_loopS h (fun ((s319,s320) : (List Int) × Int) => [(0,fi l),(160,.glob (GL mx)),(4,.fl (.own 3) 1 (map (int .i64) v3.1)),(5,.fl (.own 3) 1 (map (int .i64) v3.2.1)),(11,.fl (.own 3) 1 (map (int .i64) s319)),(12,vi s204),(13,vi s289),(14,vi s320)]) (fun (s326 : (List Int)) => [(0,fi l),(160,.glob (GL mx)),(4,.fl (.own 3) 1 (map (int .i64) v3.1)),(5,.fl (.own 3) 1 (map (int .i64) v3.2.1)),(11,.fl (.own 3) 1 (map (int .i64) s326)),(12,vi s204)]) ?_ ?_
          ·rintro s326 h
           refine pt_inb ?_
           refine pt_then ?_
           obtain ⟨v132, hv132, h⟩ := zn h
           refine zg hn [_,_,_,_,_,_,(101,vi s204),(102,vi v132),(12,vi v132)] [0,1,2,3,4,5] [0,1,2,3,4,8] [zq [5] 6 101,zq [6] 7 102,⟨[7],[5],[8],[(.slot 12)]⟩] [(_,_),(_,_),(_,_),(_,_),(_,_),(_,_)] rfl ⟨z1 rfl,zp rfl (oB rfl (ibind (f := int .i64) (Option.some.inj hv132))),zp rfl (LOp.drop [_] (op_assign _ _ _ _ rfl rfl)),zz⟩ ?_
           exact pt_next _ (zi h).symm rfl
          ·rintro u327 hl328 hr329 ⟨s319, s320⟩ rr332 h ho330
           refine ht_seq ?_
           refine ht_seq ?_
           refine ht_joinS h (fun (s333 : Bool) => [(0,fi l),(160,.glob (GL mx)),(4,.fl (.own 3) 1 (map (int .i64) v3.1)),(5,.fl (.own 3) 1 (map (int .i64) v3.2.1)),(11,.fl (.own 3) 1 (map (int .i64) s319)),(12,vi s204),(13,vi s289),(14,vi s320),(147,vb s333)]) ?_ ?_
           ·rintro s333 h
            refine pt_then ?_
            refine ht_cond _ rfl (fun hb337 => ?_) (fun hb337 => ?_)
            ·have h := cond_t hb337 h
             refine ht_skip ?_
             refine pt_then (ht_seq ?_)
             refine ht_block ?_
             obtain ⟨v104, hv104, h⟩ := zn h
             refine zg hn (_::_::_::_::_::_::_::_::_::(150,.fl (.own 3) 1 (map (int .i64) s319))::(151,vi s289)::(152,.fl (.own 3) 1 (map (int .i64) [s289]))::(153,.fl (.own 3) 1 (map (int .i64) v104))::(150,.any)::(11,.fl (.own 3) 1 (map (int .i64) v104))::[]) [0,1,2,3,4,5,6,7,8] [0,1,2,3,5,6,7,14] [⟨[],[4],[9],[(.slot 150)]⟩,zq [6] 10 151,zq [10] 11 152,⟨[11],[9],[13,12],[(.slot 153)]⟩,⟨[],[12],[14],[(.slot 11)]⟩] [(_,_),(_,_),(_,_),(_,_),(_,_),(_,_),(_,_),(_,_)] rfl ⟨zp rfl (op_move_take _ _ _ _ rfl),z1 rfl,zp rfl (op_buildSlice _ _ 1 (.int .i64 0) (map (int .i64) [s289]) [(0, .int .i64 s289)] underlying37 sz3 zr3 (fun _ V w o a hv hes => by have e0 := rd_v hv hes (x := .tmp 151) rfl; simp only [List.map_toArray, List.map_cons, List.map_nil, e0]; try rfl) (litfill (by simp [Instr.fill, Value.cells]; rfl) (by simp [List.range, List.range.loop] <;> rfl)) (by simp [Value.oneCell']) rfl (by decide) (by decide) (by decide)),zp rfl (op_app _ _ _ _ _ el37 rfl rfl (map_len _) (map_len _) hv104 ((List.map_append).symm.trans (congrArg (map _) (app_eq hv104)))),zp rfl (op_assign_take _ _ _ _ rfl),zz⟩ ?_
             refine pt_inb ?_
             refine pt_then ?_
             obtain ⟨v105, hv105, h⟩ := zn h
             refine zg hn [_,_,_,_,_,_,_,_,(148,vi s320),(149,vi v105),(14,vi v105)] [0,1,2,3,4,5,6,7] [0,1,2,3,4,5,7,10] [zq [6] 8 148,zq [8] 9 149,⟨[9],[6],[10],[(.slot 14)]⟩] [(_,_),(_,_),(_,_),(_,_),(_,_),(_,_),(_,_),(_,_)] rfl ⟨z1 rfl,zp rfl (oB rfl (ibind (f := int .i64) (Option.some.inj hv105))),zp rfl (LOp.drop [_] (op_assign _ _ _ _ rfl rfl)),zz⟩ ?_
             refine pt_pick [0,1,2,3,6,4,5,7] (by kernel_rfl) (es' := [(_,_),(_,_),(_,_),(_,_),(_,_),(_,_),(_,_),(_,_)]) rfl ?_
             exact pt_next _ (zi h).symm rfl
            ·have h := cond_f hb337 h
             refine ht_exit ?_
             refine pt_x_then ?_
             refine pt_x_then ?_
             refine pt_x_in ?_
             refine pt_pick [0,1,2,3,4,5] (by kernel_rfl) (es' := [(_,_),(_,_),(_,_),(_,_),(_,_),(_,_)]) rfl ?_
             exact hl328 _ (ho330 _ (zi h).symm).symm
           ·intro u334 h hl335 hr336
            refine cond_some h (fun hg29_2 h => ?_) (fun hg29_2 h => ?_)
            ·refine zg hn (_::_::_::_::_::_::_::_::(141,vi s320)::(142,vb (decide (0 < s320)))::(143,vb true)::(144,.same (.slot 11))::(145,vi (s319.length : Int))::(146,vb (decide ((s319.length : Int) ≤ 400)))::(147,vb (decide ((s319.length : Int) ≤ 400)))::[]) [0,1,2,3,4,5,6,7] [0,1,2,3,4,5,6,7,14] [zq [7] 8 141,zq [8] 9 142,zq [9] 10 143,zq [10,4] 11 144,zq [10,11,4] 12 145,zq [10,12] 13 146,zq [10,13] 14 147] [(_,_),(_,_),(_,_),(_,_),(_,_),(_,_),(_,_),(_,_),(_,_)] rfl ⟨z1 rfl,z4 rfl rfl,z8 hg29_2 rfl,zr' rfl (oM rfl),zr' rfl (op_len_fl _ _ _ underlying37 rfl (by decide) (map_len _)),zr' rfl (oB rfl rfl),z3 true rfl,zz⟩ ?_
             exact hl335 _ (zi h).symm
            ·refine zg hn (_::_::_::_::_::_::_::_::(141,vi s320)::(142,vb (decide (0 < s320)))::(143,vb false)::(144,.v undef)::(145,.v undef)::(146,.v undef)::(147,vb false)::[]) [0,1,2,3,4,5,6,7] [0,1,2,3,4,5,6,7,14] [zq [7] 8 141,zq [8] 9 142,zq [9] 10 143,zq [10] 11 144,zq [10] 12 145,zq [10] 13 146,zq [10] 14 147] [(_,_),(_,_),(_,_),(_,_),(_,_),(_,_),(_,_),(_,_),(_,_)] rfl ⟨z1 rfl,z4 rfl rfl,z8 hg29_2 rfl,zt rfl,zt rfl,zt rfl,z3 false rfl,zz⟩ ?_
             exact hl335 _ (zi h).symm
         ·intro u291 h hl292 hr293
          refine ht_seq ?_
          obtain ⟨v59, hv59, h⟩ := zn h
          obtain ⟨v60, hv60, h⟩ := zn h
          refine zg hn [_,_,_,_,_,_,_,_,(107,.same (.slot 4)),(108,vi s204),(109,.eref (.slot 4) (v59 * 1)),(110,vi v60)] [0,1,2,3,4,5,6,7] [0,1,2,3,4,5,6,7,11] [zq [2] 8 107,zq [5] 9 108,zq [8,2,9] 10 109,zq [10,2] 11 110] [(_,_),(_,_),(_,_),(_,_),(_,_),(_,_),(_,_),(_,_),(_,_)] rfl ⟨z1 rfl,z1 rfl,zp rfl (op_ix _ _ _ _ _ _ _ _ underlying37 sz3 (by decide) rfl rfl rfl (ix_ok hv59).1 (map_lt (ix_ok hv59).2) rfl),zp rfl (op_load_e _ _ _ _ _ _ underlying3 rfl rfl rfl (map_get hv60)),zz⟩ ?_
          refine pt_then ?_
          refine ht_joinS h (fun ((s298,s299) : Int × Int) => [(0,fi l),(160,.glob (GL mx)),(4,.fl (.own 3) 1 (map (int .i64) v3.1)),(5,.fl (.own 3) 1 (map (int .i64) v3.2.1)),(11,.fl (.own 3) 1 (map (int .i64) s203)),(12,vi s204),(13,vi s298),(14,vi s299)]) ?_ ?_
          ·rintro ⟨s298, s299⟩ h
           exact hl292 _ (zi h).symm
          ·intro u300 h hl301 hr302
           refine ht_block ?_
           refine zgg hn [_,_,_,_,_,_,_,_,_,(112,vb (v60 == 16)),(111,vb (v60 == 16))] [0,1,2,3,4,5,6,7,8] [0,1,2,3,4,5,6,7,8,10] [zq [8] 9 112,zq [9] 10 111] [(_,_),(_,_),(_,_),(_,_),(_,_),(_,_),(_,_),(_,_),(_,_),(_,_)] rfl ⟨z4 rfl rfl,z2 rfl,zz⟩ ?_
           refine ht_cond _ rfl (fun hb303 => ?_) (fun hb303 => ?_)
           ·have h := cond_t hb303 h
            refine ht_seq ?_
            refine zgg hn [_,_,_,_,_,_,_,_,_,_,(113,.same (.slot 11)),(114,vi (s203.length : Int)),(115,vb ((s203.length : Int) == 0))] [0,1,2,3,4,5,6,7,8,9] [0,1,2,3,4,5,12] [zq [4] 10 113,zq [10,4] 11 114,zq [11] 12 115] [(_,_),(_,_),(_,_),(_,_),(_,_),(_,_),(_,_)] rfl ⟨z1 rfl,zp rfl (op_len_fl _ _ _ underlying37 rfl (by decide) (map_len _)),z4 rfl rfl,zz⟩ ?_
            refine ht_cond _ rfl (fun hb304 => ?_) (fun hb304 => ?_)
            ·have h := cond_t hb304 h
             refine zgg hn [_,_,_,_,_,_,_,(2,vb false)] [0,1,2,3,4,5,6] [1,7] [zq [] 7 2] [(_,_),(_,_)] rfl ⟨z2 rfl,zz⟩ ?_
             refine ht_ret ?_
             refine pt_pick [1] (by kernel_rfl) (es' := [(_,_)]) rfl ?_
             refine pt_r_then ?_
             refine pt_r_in ?_
             refine pt_r_then ?_
             refine pt_r_in ?_
             refine pt_r_then ?_
             refine pt_r_then ?_
             refine pt_r_in ?_
             refine pt_r_then ?_
             have h := hr302 _ (zi h).symm
             have h := hr293 _ (zi h).symm
             have h := hr271 _ (ho272 _ (zi h).symm).symm
             obtain rfl := zi h
             exact pt_ret hio rfl (.tmp _ _ .nil) rfl rfl
            ·have h := cond_f hb304 h
             refine ht_skip ?_
             refine pt_then ?_
             obtain ⟨v63, hv63, h⟩ := zn h
             obtain ⟨v138, hv138, h⟩ := zn h
             obtain ⟨v139, hv139, h⟩ := zn h
             obtain ⟨v140, hv140, h⟩ := zn h
             obtain ⟨v141, hv141, h⟩ := zn h
             obtain ⟨v142, hv142, h⟩ := zn h
             refine ht_anyR (by kernel_rfl) hn (El := (_ :: _ :: _ :: _ :: _ :: _ :: _ :: (116,.same (.slot 11)) :: (117,.same (.slot 11)) :: (118,vi (s203.length : Int)) :: (119,vi v63) :: (120,.eref (.slot 11) (v138 * 1)) :: (121,vi v139) :: (122,.same (.slot 5)) :: (123,vi s204) :: (124,.eref (.slot 5) (v140 * 1)) :: (125,vi v141) :: (126,vi v142) :: (13,vi v139) :: (14,vi v142) :: [])) (init := [0,1,2,3,4,5,6]) (fin := [0,1,2,3,4,5,18,19]) (sps := [zq [4] 7 116,zq [4] 8 117,zq [8,4] 9 118,zq [9] 10 119,zq [7,4,10] 11 120,zq [11,4] 12 121,zq [] 13 122,zq [5] 14 123,zq [13,3,14] 15 124,zq [15,3] 16 125,zq [16] 17 126,zq [12] 18 13,zq [17] 19 14]) (es' := [(_,_),(_,_),(_,_),(_,_),(_,_),(_,_),(13,vi v139),(14,vi v142)]) (by kernel_rfl) rfl rfl ⟨z1 rfl,z1 rfl,zp rfl (op_len_fl _ _ _ underlying37 rfl (by decide) (map_len _)),zp rfl (oB rfl (ibind (f := int .i64) (Option.some.inj hv63))),zp rfl (op_ix _ _ _ _ _ _ _ _ underlying37 sz3 (by decide) rfl rfl rfl (ix_ok hv138).1 (map_lt (ix_ok hv138).2) rfl),zp rfl (op_load_e _ _ _ _ _ _ underlying3 rfl rfl rfl (map_get hv139)),zp rfl (op_move_name _ _ _ rfl),z1 rfl,zp rfl (op_ix _ _ _ _ _ _ _ _ underlying37 sz3 (by decide) rfl rfl rfl (ix_ok hv140).1 (map_lt (ix_ok hv140).2) rfl),zp rfl (op_load_e _ _ _ _ _ _ underlying3 rfl rfl rfl (map_get hv141)),zp rfl (oB rfl (ibind (f := int .i64) (Option.some.inj hv142))),z2 rfl,z2 rfl,zz⟩ ?_
             refine pt_inb ?_
             exact hl301 _ (zi h).symm
           ·have h := cond_f hb303 h
            refine zgg hn [_,_,_,_,_,_,_,_,_,_,(128,vb (v60 == 17)),(127,vb (v60 == 17))] [0,1,2,3,4,5,6,7,8,9] [0,1,2,3,4,5,6,7,8,11] [zq [8] 10 128,zq [10] 11 127] [(_,_),(_,_),(_,_),(_,_),(_,_),(_,_),(_,_),(_,_),(_,_),(_,_)] rfl ⟨z4 rfl rfl,z2 rfl,zz⟩ ?_
            refine ht_cond _ rfl (fun hb305 => ?_) (fun hb305 => ?_)
            ·have h := cond_t hb305 h
             obtain ⟨v65, hv65, h⟩ := zn h
             obtain ⟨v66, hv66, h⟩ := zn h
             obtain ⟨v67, hv67, h⟩ := zn h
             refine ht_anyR (by kernel_rfl) hn (El := (_ :: _ :: _ :: _ :: _ :: _ :: _ :: _ :: _ :: _ :: (129,.same (.slot 5)) :: (130,vi s204) :: (131,.eref (.slot 5) (v65 * 1)) :: (132,vi v66) :: (133,vi v67) :: (13,vi 0) :: (14,vi v67) :: [])) (init := [0,1,2,3,4,5,6,7,8,9]) (fin := [0,1,2,3,4,5,15,16]) (sps := [zq [] 10 129,zq [5] 11 130,zq [10,3,11] 12 131,zq [12,3] 13 132,zq [13] 14 133,⟨[],[6],[15],[(.slot 13)]⟩,⟨[14],[7],[16],[(.slot 14)]⟩]) (es' := [(_,_),(_,_),(_,_),(_,_),(_,_),(_,_),(13,vi 0),(14,vi v67)]) (by kernel_rfl) rfl rfl ⟨zp rfl (op_move_name _ _ _ rfl),z1 rfl,zp rfl (op_ix _ _ _ _ _ _ _ _ underlying37 sz3 (by decide) rfl rfl rfl (ix_ok hv65).1 (map_lt (ix_ok hv65).2) rfl),zp rfl (op_load_e _ _ _ _ _ _ underlying3 rfl rfl rfl (map_get hv66)),zp rfl (oB rfl (ibind (f := int .i64) (Option.some.inj hv67))),zp rfl (LOp.drop [_] (op_assign _ _ _ _ rfl rfl)),zp rfl (LOp.drop [_] (op_assign _ _ _ _ rfl rfl)),zz⟩ ?_
             refine pt_inb ?_
             exact hl301 _ (zi h).symm
            ·have h := cond_f hb305 h
             refine zgg hn [_,_,_,_,_,_,_,_,_,_,(135,vb (v60 == 18)),(134,vb (v60 == 18))] [0,1,2,3,4,5,6,7,8,9] [0,1,2,3,4,5,6,7,11] [zq [8] 10 135,zq [10] 11 134] [(_,_),(_,_),(_,_),(_,_),(_,_),(_,_),(_,_),(_,_),(_,_)] rfl ⟨z4 rfl rfl,z2 rfl,zz⟩ ?_
             refine ht_cond _ rfl (fun hb306 => ?_) (fun hb306 => ?_)
             ·have h := cond_t hb306 h
              obtain ⟨v69, hv69, h⟩ := zn h
              obtain ⟨v70, hv70, h⟩ := zn h
              obtain ⟨v71, hv71, h⟩ := zn h
              refine ht_anyR (by kernel_rfl) hn (El := (_ :: _ :: _ :: _ :: _ :: _ :: _ :: _ :: _ :: (136,.same (.slot 5)) :: (137,vi s204) :: (138,.eref (.slot 5) (v69 * 1)) :: (139,vi v70) :: (140,vi v71) :: (13,vi 0) :: (14,vi v71) :: [])) (init := [0,1,2,3,4,5,6,7,8]) (fin := [0,1,2,3,4,5,14,15]) (sps := [zq [] 9 136,zq [5] 10 137,zq [9,3,10] 11 138,zq [11,3] 12 139,zq [12] 13 140,⟨[],[6],[14],[(.slot 13)]⟩,⟨[13],[7],[15],[(.slot 14)]⟩]) (es' := [(_,_),(_,_),(_,_),(_,_),(_,_),(_,_),(13,vi 0),(14,vi v71)]) (by kernel_rfl) rfl rfl ⟨zp rfl (op_move_name _ _ _ rfl),z1 rfl,zp rfl (op_ix _ _ _ _ _ _ _ _ underlying37 sz3 (by decide) rfl rfl rfl (ix_ok hv69).1 (map_lt (ix_ok hv69).2) rfl),zp rfl (op_load_e _ _ _ _ _ _ underlying3 rfl rfl rfl (map_get hv70)),zp rfl (oB rfl (ibind (f := int .i64) (Option.some.inj hv71))),zp rfl (LOp.drop [_] (op_assign _ _ _ _ rfl rfl)),zp rfl (LOp.drop [_] (op_assign _ _ _ _ rfl rfl)),zz⟩ ?_
              refine pt_inb ?_
              exact hl301 _ (zi h).symm
             ·have h := cond_f hb306 h
              refine ht_skip ?_
              refine pt_inb ?_
              refine pt_pick [0,1,2,3,4,5,6,7] (by kernel_rfl) (es' := [(_,_),(_,_),(_,_),(_,_),(_,_),(_,_),(_,_),(_,_)]) rfl ?_
              exact hl301 _ (zi h).symm
        ·have h := cond_f hb275 h
         refine ht_exit ?_
         refine pt_x_then ?_
         refine pt_x_then ?_
         refine pt_x_in ?_
         refine pt_pick [0,1,4] (by kernel_rfl) (es' := [(_,_),(_,_),(_,_)]) rfl ?_
         exact hl270 _ (ho272 _ (zi h).symm).symm
     ·intro u52 h hl53 hr54
      refine cond_some h (fun hg13_2 h => ?_) (fun hg13_2 h => ?_)
      ·refine zg hn (_::_::_::_::_::_::_::_::(70,vi v3.2.2)::(71,vb (v3.2.2 != 0))::(72,vb true)::(73,.v undef)::(74,.v undef)::(75,.v undef)::(76,.v undef)::(77,vb true)::(78,vb true)::(79,.v undef)::(80,.v undef)::(81,.v undef)::(82,.v undef)::(83,vb true)::(84,vb true)::(85,.v undef)::(86,.v undef)::(87,.v undef)::(88,.v undef)::(89,vb true)::(90,vb true)::(91,.v undef)::(92,.v undef)::(93,.v undef)::(94,.v undef)::(95,.v undef)::(96,vb true)::[]) [0,1,2,3,4,5,6,7] [0,1,3,4,34] (zq [5] 8 70::zq [8] 9 71::zq [9] 10 72::zq [10] 11 73::zq [10] 12 74::zq [10] 13 75::zq [10] 14 76::zq [10] 15 77::zq [15] 16 78::zq [16] 17 79::zq [16] 18 80::zq [16] 19 81::zq [16] 20 82::zq [16] 21 83::zq [21] 22 84::zq [22] 23 85::zq [22] 24 86::zq [22] 25 87::zq [22] 26 88::zq [22] 27 89::zq [27] 28 90::zq [28] 29 91::zq [28] 30 92::zq [28] 31 93::zq [28] 32 94::zq [28] 33 95::zq [28] 34 96::[]) [(_,_),(_,_),(_,_),(_,_),(_,_)] rfl ⟨z1 rfl,z4 rfl rfl,z8 hg13_2 rfl,zf rfl,zf rfl,zf rfl,zf rfl,z3 true rfl,z1 rfl,zf rfl,zf rfl,zf rfl,zf rfl,z3 true rfl,z1 rfl,zf rfl,zf rfl,zf rfl,zf rfl,z3 true rfl,z1 rfl,zf rfl,zf rfl,zf rfl,zf rfl,zf rfl,z3 true rfl,zz⟩ ?_
       exact hl53 _ (zi h).symm
      ·obtain ⟨v48, hv48, h⟩ := zn h
       refine cond_some h (fun hg13_8 h => ?_) (fun hg13_8 h => ?_)
       ·refine zg hn (_::_::_::_::_::_::_::_::(70,vi v3.2.2)::(71,vb (v3.2.2 != 0))::(72,vb false)::(73,.same (.slot 4))::(74,.fl (.own 3) 1 (map (int .i64) v47.1))::(75,vb v48)::(76,vb (!v48))::(77,vb (!v48))::(78,vb true)::(79,.v undef)::(80,.v undef)::(81,.v undef)::(82,.v undef)::(83,vb true)::(84,vb true)::(85,.v undef)::(86,.v undef)::(87,.v undef)::(88,.v undef)::(89,vb true)::(90,vb true)::(91,.v undef)::(92,.v undef)::(93,.v undef)::(94,.v undef)::(95,.v undef)::(96,vb true)::[]) [0,1,2,3,4,5,6,7] [0,1,3,4,34] (zq [5] 8 70::zq [8] 9 71::zq [9] 10 72::zq [10,3] 11 73::⟨[10],[6],[12],[(.slot 74)]⟩::zq [10,11,3,12] 13 75::zq [10,13] 14 76::zq [10,14] 15 77::zq [15] 16 78::zq [16] 17 79::zq [16] 18 80::zq [16] 19 81::zq [16] 20 82::zq [16] 21 83::zq [21] 22 84::zq [22] 23 85::zq [22] 24 86::zq [22] 25 87::zq [22] 26 88::zq [22] 27 89::zq [27] 28 90::zq [28] 29 91::zq [28] 30 92::zq [28] 31 93::zq [28] 32 94::zq [28] 33 95::zq [28] 34 96::[]) [(_,_),(_,_),(_,_),(_,_),(_,_)] rfl ⟨z1 rfl,z4 rfl rfl,z8 hg13_2 rfl,zr' rfl (oM rfl),zr' rfl (op_move_take _ _ _ _ rfl),zr' rfl (op_call _ _ 26 _ _ rfl call26 rfl (ok_wherrykeep_Ints v3.1 v47.1 _ hv48) rfl rfl),zr' rfl (op_un _ _ _ _ rfl rfl),z3 false rfl,z8 hg13_8 rfl,zf rfl,zf rfl,zf rfl,zf rfl,z3 true rfl,z1 rfl,zf rfl,zf rfl,zf rfl,zf rfl,z3 true rfl,z1 rfl,zf rfl,zf rfl,zf rfl,zf rfl,zf rfl,z3 true rfl,zz⟩ ?_
        exact hl53 _ (zi h).symm
       ·obtain ⟨v49, hv49, h⟩ := zn h
        refine cond_some h (fun hg13_14 h => ?_) (fun hg13_14 h => ?_)
        ·refine zg hn (_::_::_::_::_::_::_::_::(70,vi v3.2.2)::(71,vb (v3.2.2 != 0))::(72,vb false)::(73,.same (.slot 4))::(74,.fl (.own 3) 1 (map (int .i64) v47.1))::(75,vb v48)::(76,vb (!v48))::(77,vb (!v48))::(78,vb false)::(79,.same (.slot 5))::(80,.fl (.own 3) 1 (map (int .i64) v47.2))::(81,vb v49)::(82,vb (!v49))::(83,vb (!v49))::(84,vb true)::(85,.v undef)::(86,.v undef)::(87,.v undef)::(88,.v undef)::(89,vb true)::(90,vb true)::(91,.v undef)::(92,.v undef)::(93,.v undef)::(94,.v undef)::(95,.v undef)::(96,vb true)::[]) [0,1,2,3,4,5,6,7] [0,1,3,4,34] (zq [5] 8 70::zq [8] 9 71::zq [9] 10 72::zq [10,3] 11 73::⟨[10],[6],[12],[(.slot 74)]⟩::zq [10,11,3,12] 13 75::zq [10,13] 14 76::zq [10,14] 15 77::zq [15] 16 78::zq [16,4] 17 79::⟨[16],[7],[18],[(.slot 80)]⟩::zq [16,17,4,18] 19 81::zq [16,19] 20 82::zq [16,20] 21 83::zq [21] 22 84::zq [22] 23 85::zq [22] 24 86::zq [22] 25 87::zq [22] 26 88::zq [22] 27 89::zq [27] 28 90::zq [28] 29 91::zq [28] 30 92::zq [28] 31 93::zq [28] 32 94::zq [28] 33 95::zq [28] 34 96::[]) [(_,_),(_,_),(_,_),(_,_),(_,_)] rfl ⟨z1 rfl,z4 rfl rfl,z8 hg13_2 rfl,zr' rfl (oM rfl),zr' rfl (op_move_take _ _ _ _ rfl),zr' rfl (op_call _ _ 26 _ _ rfl call26 rfl (ok_wherrykeep_Ints v3.1 v47.1 _ hv48) rfl rfl),zr' rfl (op_un _ _ _ _ rfl rfl),z3 false rfl,z8 hg13_8 rfl,zr' rfl (oM rfl),zr' rfl (op_move_take _ _ _ _ rfl),zr' rfl (op_call _ _ 26 _ _ rfl call26 rfl (ok_wherrykeep_Ints v3.2.1 v47.2 _ hv49) rfl rfl),zr' rfl (op_un _ _ _ _ rfl rfl),z3 false rfl,z8 hg13_14 rfl,zf rfl,zf rfl,zf rfl,zf rfl,z3 true rfl,z1 rfl,zf rfl,zf rfl,zf rfl,zf rfl,zf rfl,z3 true rfl,zz⟩ ?_
         exact hl53 _ (zi h).symm
        ·obtain ⟨v50, hv50, h⟩ := zn h
         refine cond_some h (fun hg13_20 h => ?_) (fun hg13_20 h => ?_)
         ·refine zg hn (_::_::_::_::_::_::_::_::(70,vi v3.2.2)::(71,vb (v3.2.2 != 0))::(72,vb false)::(73,.same (.slot 4))::(74,.fl (.own 3) 1 (map (int .i64) v47.1))::(75,vb v48)::(76,vb (!v48))::(77,vb (!v48))::(78,vb false)::(79,.same (.slot 5))::(80,.fl (.own 3) 1 (map (int .i64) v47.2))::(81,vb v49)::(82,vb (!v49))::(83,vb (!v49))::(84,vb false)::(85,.fl (.own 3) 1 (map (int .i64) v2))::(86,fi l)::(87,vb v50)::(88,vb (!v50))::(89,vb (!v50))::(90,vb true)::(91,.v undef)::(92,.v undef)::(93,.v undef)::(94,.v undef)::(95,.v undef)::(96,vb true)::[]) [0,1,2,3,4,5,6,7] [0,1,3,4,34] (zq [5] 8 70::zq [8] 9 71::zq [9] 10 72::zq [10,3] 11 73::⟨[10],[6],[12],[(.slot 74)]⟩::zq [10,11,3,12] 13 75::zq [10,13] 14 76::zq [10,14] 15 77::zq [15] 16 78::zq [16,4] 17 79::⟨[16],[7],[18],[(.slot 80)]⟩::zq [16,17,4,18] 19 81::zq [16,19] 20 82::zq [16,20] 21 83::zq [21] 22 84::⟨[22],[2],[23],[(.slot 85)]⟩::zq [22,0] 24 86::zq [22,23,24] 25 87::zq [22,25] 26 88::zq [22,26] 27 89::zq [27] 28 90::zq [28] 29 91::zq [28] 30 92::zq [28] 31 93::zq [28] 32 94::zq [28] 33 95::zq [28] 34 96::[]) [(_,_),(_,_),(_,_),(_,_),(_,_)] rfl ⟨z1 rfl,z4 rfl rfl,z8 hg13_2 rfl,zr' rfl (oM rfl),zr' rfl (op_move_take _ _ _ _ rfl),zr' rfl (op_call _ _ 26 _ _ rfl call26 rfl (ok_wherrykeep_Ints v3.1 v47.1 _ hv48) rfl rfl),zr' rfl (op_un _ _ _ _ rfl rfl),z3 false rfl,z8 hg13_8 rfl,zr' rfl (oM rfl),zr' rfl (op_move_take _ _ _ _ rfl),zr' rfl (op_call _ _ 26 _ _ rfl call26 rfl (ok_wherrykeep_Ints v3.2.1 v47.2 _ hv49) rfl rfl),zr' rfl (op_un _ _ _ _ rfl rfl),z3 false rfl,z8 hg13_14 rfl,zr' rfl (op_move_take _ _ _ _ rfl),zr' rfl (oM rfl),zr' rfl (op_call _ _ 26 _ _ rfl call26 rfl (ok_wherrykeep_Ints v2 l _ hv50) rfl rfl),zr' rfl (op_un _ _ _ _ rfl rfl),z3 false rfl,z8 hg13_20 rfl,zf rfl,zf rfl,zf rfl,zf rfl,zf rfl,z3 true rfl,zz⟩ ?_
          exact hl53 _ (zi h).symm
         ·refine zg hn (_::_::_::_::_::_::_::_::(70,vi v3.2.2)::(71,vb (v3.2.2 != 0))::(72,vb false)::(73,.same (.slot 4))::(74,.fl (.own 3) 1 (map (int .i64) v47.1))::(75,vb v48)::(76,vb (!v48))::(77,vb (!v48))::(78,vb false)::(79,.same (.slot 5))::(80,.fl (.own 3) 1 (map (int .i64) v47.2))::(81,vb v49)::(82,vb (!v49))::(83,vb (!v49))::(84,vb false)::(85,.fl (.own 3) 1 (map (int .i64) v2))::(86,fi l)::(87,vb v50)::(88,vb (!v50))::(89,vb (!v50))::(90,vb false)::(91,.same (.slot 4))::(92,vi (v3.1.length : Int))::(93,.same (.slot 5))::(94,vi (v3.2.1.length : Int))::(95,vb ((v3.1.length : Int) != (v3.2.1.length : Int)))::(96,vb ((v3.1.length : Int) != (v3.2.1.length : Int)))::[]) [0,1,2,3,4,5,6,7] [0,1,3,4,34] (zq [5] 8 70::zq [8] 9 71::zq [9] 10 72::zq [10,3] 11 73::⟨[10],[6],[12],[(.slot 74)]⟩::zq [10,11,3,12] 13 75::zq [10,13] 14 76::zq [10,14] 15 77::zq [15] 16 78::zq [16,4] 17 79::⟨[16],[7],[18],[(.slot 80)]⟩::zq [16,17,4,18] 19 81::zq [16,19] 20 82::zq [16,20] 21 83::zq [21] 22 84::⟨[22],[2],[23],[(.slot 85)]⟩::zq [22,0] 24 86::zq [22,23,24] 25 87::zq [22,25] 26 88::zq [22,26] 27 89::zq [27] 28 90::zq [28,3] 29 91::zq [28,29,3] 30 92::zq [28,4] 31 93::zq [28,31,4] 32 94::zq [28,30,32] 33 95::zq [28,33] 34 96::[]) [(_,_),(_,_),(_,_),(_,_),(_,_)] rfl ⟨z1 rfl,z4 rfl rfl,z8 hg13_2 rfl,zr' rfl (oM rfl),zr' rfl (op_move_take _ _ _ _ rfl),zr' rfl (op_call _ _ 26 _ _ rfl call26 rfl (ok_wherrykeep_Ints v3.1 v47.1 _ hv48) rfl rfl),zr' rfl (op_un _ _ _ _ rfl rfl),z3 false rfl,z8 hg13_8 rfl,zr' rfl (oM rfl),zr' rfl (op_move_take _ _ _ _ rfl),zr' rfl (op_call _ _ 26 _ _ rfl call26 rfl (ok_wherrykeep_Ints v3.2.1 v47.2 _ hv49) rfl rfl),zr' rfl (op_un _ _ _ _ rfl rfl),z3 false rfl,z8 hg13_14 rfl,zr' rfl (op_move_take _ _ _ _ rfl),zr' rfl (oM rfl),zr' rfl (op_call _ _ 26 _ _ rfl call26 rfl (ok_wherrykeep_Ints v2 l _ hv50) rfl rfl),zr' rfl (op_un _ _ _ _ rfl rfl),z3 false rfl,z8 hg13_20 rfl,zr' rfl (oM rfl),zr' rfl (op_len_fl _ _ _ underlying37 rfl (by decide) (map_len _)),zr' rfl (oM rfl),zr' rfl (op_len_fl _ _ _ underlying37 rfl (by decide) (map_len _)),zr' rfl (oB rfl rfl),z3 false rfl,zz⟩ ?_
          exact hl53 _ (zi h).symm
   ·rintro u29 hl30 hr31 ⟨s21, s22⟩ rr34 h ho32
    refine ht_seq ?_
    refine zgg hn [_,_,_,_,_,_,_,_,(29,vi s22),(30,fi l),(31,vi (l.length : Int)),(32,vb (decide (s22 < (l.length : Int))))] [0,1,2,3,4,5,6,7] [0,1,2,3,4,5,6,7,11] [zq [7] 8 29,zq [0] 9 30,zq [9] 10 31,zq [8,10] 11 32] [(_,_),(_,_),(_,_),(_,_),(_,_),(_,_),(_,_),(_,_),(_,_)] rfl ⟨z1 rfl,z1 rfl,zp rfl (op_len_fl _ _ _ underlying37 rfl (by decide) (map_len _)),z4 rfl rfl,zz⟩ ?_
    refine ht_cond _ rfl (fun hb35 => ?_) (fun hb35 => ?_)
    ·have h := cond_t hb35 h
     refine ht_skip ?_
     refine pt_then (ht_seq ?_)
     refine ht_block ?_
     refine ht_joinS h (fun (s36 : Bool) => [(0,fi l),(160,.glob (GL mx)),(3,.fl (.own 3) 1 (map (int .i64) v2)),(4,.fl (.own 3) 1 (map (int .i64) v3.1)),(5,.fl (.own 3) 1 (map (int .i64) v3.2.1)),(6,vi v3.2.2),(8,vi s22),(7,vb s36)]) ?_ ?_
     ·rintro s36 h
      refine pt_inb ?_
      refine pt_then ?_
      obtain ⟨v13, hv13, h⟩ := zn h
      refine zg hn [_,_,_,_,_,_,_,_,(33,vi s22),(34,vi v13),(8,vi v13)] [0,1,2,3,4,5,6,7] [0,1,2,3,4,5,7,10] [zq [6] 8 33,zq [8] 9 34,⟨[9],[6],[10],[(.slot 8)]⟩] [(_,_),(_,_),(_,_),(_,_),(_,_),(_,_),(_,_),(_,_)] rfl ⟨z1 rfl,zp rfl (oB rfl (ibind (f := int .i64) (Option.some.inj hv13))),zp rfl (LOp.drop [_] (op_assign _ _ _ _ rfl rfl)),zz⟩ ?_
      exact pt_next _ (zi h).symm rfl
     ·intro u37 h hl38 hr39
      refine cond_some h (fun hg9_1 h => ?_) (fun hg9_1 h => ?_)
      ·obtain ⟨v5, hv5, h⟩ := zn h
       obtain ⟨v6, hv6, h⟩ := zn h
       refine cond_some h (fun hg9_8 h => ?_) (fun hg9_8 h => ?_)
       ·obtain ⟨v7, hv7, h⟩ := zn h
        obtain ⟨v8, hv8, h⟩ := zn h
        refine zg hn (_::_::_::_::_::_::_::_::_::(35,vb s21)::(36,vb true)::(37,fi l)::(38,vi s22)::(39,.eref (.slot 37) (v5 * 1))::(40,vi v6)::(41,vb (decide (0 ≤ v6)))::(42,vb (decide (0 ≤ v6)))::(43,vb true)::(44,fi l)::(45,vi s22)::(46,.eref (.slot 44) (v7 * 1))::(47,vi v8)::(48,vb (decide (v8 ≤ 15)))::(49,vb (decide (v8 ≤ 15)))::(7,vb (decide (v8 ≤ 15)))::[]) [0,1,2,3,4,5,6,7,8] [0,1,2,3,4,5,7,24] (zq [6] 9 35::zq [9] 10 36::zq [10,0] 11 37::zq [10,7] 12 38::zq [10,11,12] 13 39::zq [10,13,11] 14 40::zq [10,14] 15 41::zq [10,15] 16 42::zq [16] 17 43::zq [17,0] 18 44::zq [17,7] 19 45::zq [17,18,19] 20 46::zq [17,20,18] 21 47::zq [17,21] 22 48::zq [17,22] 23 49::⟨[23],[6],[24],[(.slot 7)]⟩::[]) [(_,_),(_,_),(_,_),(_,_),(_,_),(_,_),(_,_),(_,_)] rfl ⟨z1 rfl,z8 hg9_1 rfl,zr' rfl (oM rfl),zr' rfl (oM rfl),zr' rfl (op_ix _ _ _ _ _ _ _ _ underlying37 sz3 (by decide) rfl rfl rfl (ix_ok hv5).1 (map_lt (ix_ok hv5).2) rfl),zr' rfl (op_load_e _ _ _ _ _ _ underlying3 rfl rfl rfl (map_get hv6)),zr' rfl (oB rfl rfl),z3 true rfl,z8 hg9_8 rfl,zr' rfl (oM rfl),zr' rfl (oM rfl),zr' rfl (op_ix _ _ _ _ _ _ _ _ underlying37 sz3 (by decide) rfl rfl rfl (ix_ok hv7).1 (map_lt (ix_ok hv7).2) rfl),zr' rfl (op_load_e _ _ _ _ _ _ underlying3 rfl rfl rfl (map_get hv8)),zr' rfl (oB rfl rfl),z3 true rfl,zp rfl (LOp.drop [_] (op_assign _ _ _ _ rfl rfl)),zz⟩ ?_
        exact hl38 _ (zi h).symm
       ·refine zg hn (_::_::_::_::_::_::_::_::_::(35,vb s21)::(36,vb true)::(37,fi l)::(38,vi s22)::(39,.eref (.slot 37) (v5 * 1))::(40,vi v6)::(41,vb (decide (0 ≤ v6)))::(42,vb (decide (0 ≤ v6)))::(43,vb false)::(44,.v undef)::(45,.v undef)::(46,.v undef)::(47,.v undef)::(48,.v undef)::(49,vb false)::(7,vb false)::[]) [0,1,2,3,4,5,6,7,8] [0,1,2,3,4,5,7,24] (zq [6] 9 35::zq [9] 10 36::zq [10,0] 11 37::zq [10,7] 12 38::zq [10,11,12] 13 39::zq [10,13,11] 14 40::zq [10,14] 15 41::zq [10,15] 16 42::zq [16] 17 43::zq [17] 18 44::zq [17] 19 45::zq [17] 20 46::zq [17] 21 47::zq [17] 22 48::zq [17] 23 49::⟨[23],[6],[24],[(.slot 7)]⟩::[]) [(_,_),(_,_),(_,_),(_,_),(_,_),(_,_),(_,_),(_,_)] rfl ⟨z1 rfl,z8 hg9_1 rfl,zr' rfl (oM rfl),zr' rfl (oM rfl),zr' rfl (op_ix _ _ _ _ _ _ _ _ underlying37 sz3 (by decide) rfl rfl rfl (ix_ok hv5).1 (map_lt (ix_ok hv5).2) rfl),zr' rfl (op_load_e _ _ _ _ _ _ underlying3 rfl rfl rfl (map_get hv6)),zr' rfl (oB rfl rfl),z3 true rfl,z8 hg9_8 rfl,zt rfl,zt rfl,zt rfl,zt rfl,zt rfl,z3 false rfl,zp rfl (LOp.drop [_] (op_assign _ _ _ _ rfl rfl)),zz⟩ ?_
        exact hl38 _ (zi h).symm
      ·refine zg hn (_::_::_::_::_::_::_::_::_::(35,vb s21)::(36,vb false)::(37,.v undef)::(38,.v undef)::(39,.v undef)::(40,.v undef)::(41,.v undef)::(42,vb false)::(43,vb false)::(44,.v undef)::(45,.v undef)::(46,.v undef)::(47,.v undef)::(48,.v undef)::(49,vb false)::(7,vb false)::[]) [0,1,2,3,4,5,6,7,8] [0,1,2,3,4,5,7,24] (zq [6] 9 35::zq [9] 10 36::zq [10] 11 37::zq [10] 12 38::zq [10] 13 39::zq [10] 14 40::zq [10] 15 41::zq [10] 16 42::zq [16] 17 43::zq [17] 18 44::zq [17] 19 45::zq [17] 20 46::zq [17] 21 47::zq [17] 22 48::zq [17] 23 49::⟨[23],[6],[24],[(.slot 7)]⟩::[]) [(_,_),(_,_),(_,_),(_,_),(_,_),(_,_),(_,_),(_,_)] rfl ⟨z1 rfl,z8 hg9_1 rfl,zt rfl,zt rfl,zt rfl,zt rfl,zt rfl,z3 false rfl,z1 rfl,zt rfl,zt rfl,zt rfl,zt rfl,zt rfl,z3 false rfl,zp rfl (LOp.drop [_] (op_assign _ _ _ _ rfl rfl)),zz⟩ ?_
       exact hl38 _ (zi h).symm
    ·have h := cond_f hb35 h
     refine ht_exit ?_
     refine pt_x_then ?_
     refine pt_x_then ?_
     refine pt_x_in ?_
     refine pt_pick [0,1,2,3,4,5,6] (by kernel_rfl) (es' := [(_,_),(_,_),(_,_),(_,_),(_,_),(_,_),(_,_)]) rfl ?_
     exact hl30 _ (ho32 _ (zi h).symm).symm

end Go.Proofs.YtkgfjkfccpjcgaaDoor
