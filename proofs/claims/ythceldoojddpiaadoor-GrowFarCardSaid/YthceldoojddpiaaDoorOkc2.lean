/-
  The model's runs are what is told in Lean.
-/
import Derived.Test.YthceldoojddpiaaDoorProg
import Derived.KernelRfl
import Derived.Test.YthceldoojddpiaaDoorB3
import Derived.Test.YthceldoojddpiaaDoorOkc1
set_option linter.unusedVariables false
set_option linter.unusedSimpArgs false
set_option maxHeartbeats 1000000
namespace Go.Proofs.YthceldoojddpiaaDoor
open Go.Abs Go.Abs.Sh Tryd
open List (map flatten)
open Value (int)
theorem ok_grow_stream_dynamic (mx : Int) (s : T_grow_stream) (r : (Int × T_grow_stream)) (h : Sh.grow_stream_dynamic s = some r) : FnPG Tryd.prog (GL mx) 61 [.box 59 [.fl .shr 1 (map (int .u8) s.b), .v (.int .i64 s.at_), .fl (.own 5) 1 (map (int .u8) s.out), .v (.int .i64 s.most), .v (.int .i64 s.blocks)]] [.box 59 [.fl .shr 1 (map (int .u8) r.2.b), .v (.int .i64 r.2.at_), .fl (.own 5) 1 (map (int .u8) r.2.out), .v (.int .i64 r.2.most), .v (.int .i64 r.2.blocks)]] (.v (.int .i64 r.1)) := by
  unfold Sh.grow_stream_dynamic at h
  refine fn_okPG func61 rfl (zl rfl) rfl (zl rfl) fun args0 hargs0 g0 hn hio => ?_
  refine zgg hn [_,_,_,(2,vi 0)] [0,1,2] [0,1,2] [zq [] 3 2] [(_,_),(_,_),(_,_)] rfl ⟨z2 rfl,zz⟩ ?_
  refine ht_seq ?_
  obtain ⟨v1, hv1, h⟩ := zn h
  refine zg hn [_,_,_,(9,.ptr 0 0),(10,.tup [vi v1.1,vi v1.2.1]),(0,.box 59 [fb v1.2.2.b,vi v1.2.2.at_,.fl (.own 5) 1 (map (int .u8) v1.2.2.out),vi v1.2.2.most,vi v1.2.2.blocks]),(8,.tup [vi v1.1,vi v1.2.1]),(11,vi v1.1),(12,vi v1.2.1),(3,vi v1.1),(4,vi v1.2.1)] [0,1,2] [5,1,2,9,10] [zq [0] 3 9,⟨[3],[0],[5,4],[(.slot 10),(.cell 0 0),(.cell 0 1),(.cell 0 2),(.cell 0 3),(.cell 0 4)]⟩,⟨[],[4],[6],[(.slot 8)]⟩,zq [6] 7 11,zq [6] 8 12,zq [7] 9 3,zq [8] 10 4] [(_,_),(_,_),(_,_),(_,_),(_,_)] rfl ⟨z1 rfl,zp rfl (op_callPS _ _ _ _ 10 58 [.tmp 9] [_] _ _ _ rfl call58 rfl rfl rfl (ok_grow_stream_number s 5 _ hv1) (zl rfl) rfl rfl rfl rfl rfl rfl rfl),zp rfl (op_move_take _ _ _ _ rfl),zp rfl (oE rfl),zp rfl (oE rfl),z2 rfl,z2 rfl,zz⟩ ?_
  refine pt_then (ht_seq ?_)
  refine zgg hn [_,_,_,_,_,(13,vi v1.2.1),(14,vb (v1.2.1 != 0))] [0,1,2,3,4] [0,1,2,3,4,6] [zq [4] 5 13,zq [5] 6 14] [(_,_),(_,_),(_,_),(_,_),(_,_),(_,_)] rfl ⟨z1 rfl,z4 rfl rfl,zz⟩ ?_
  refine ht_cond _ rfl (fun hb2 => ?_) (fun hb2 => ?_)
  ·have h := cond_t hb2 h
   refine zgg hn [_,_,_,_,_,_,(15,vi v1.2.1),(2,vi v1.2.1)] [0,1,2,3,4,5] [0,1,2,7] [zq [4] 6 15,zq [6] 7 2] [(_,_),(_,_),(_,_),(_,_)] rfl ⟨z1 rfl,z2 rfl,zz⟩ ?_
   refine ht_ret ?_
   refine pt_pick [3,0,1] (by kernel_rfl) (es' := [(_,_),(_,_),(_,_)]) rfl ?_
   refine pt_r_then ?_
   obtain rfl := zi h
   exact pt_retP (es := [(2, .v (.int .i64 v1.2.1))]) (posts := [.box 59 [fb v1.2.2.b, .v (.int .i64 v1.2.2.at_), .fl (.own 5) 1 (map (int .u8) v1.2.2.out), .v (.int .i64 v1.2.2.most), .v (.int .i64 v1.2.2.blocks)]]) hio rfl rfl (.tmp _ _ .nil) rfl rfl hargs0 rfl
  ·have h := cond_f hb2 h
   refine ht_skip ?_
   refine pt_then (ht_seq ?_)
   obtain ⟨v3, hv3, h⟩ := zn h
   refine zg hn [_,_,_,_,_,_,(17,.ptr 0 0),(18,.tup [vi v3.1,vi v3.2.1]),(0,.box 59 [fb v3.2.2.b,vi v3.2.2.at_,.fl (.own 5) 1 (map (int .u8) v3.2.2.out),vi v3.2.2.most,vi v3.2.2.blocks]),(16,.tup [vi v3.1,vi v3.2.1]),(19,vi v3.1),(20,vi v3.2.1),(5,vi v3.1),(4,vi v3.2.1)] [0,1,2,3,4,5] [8,1,2,3,12,13] [zq [0] 6 17,⟨[6],[0],[8,7],[(.slot 18),(.cell 0 0),(.cell 0 1),(.cell 0 2),(.cell 0 3),(.cell 0 4)]⟩,⟨[],[7],[9],[(.slot 16)]⟩,zq [9] 10 19,zq [9] 11 20,zq [10] 12 5,⟨[11],[4],[13],[(.slot 4)]⟩] [(_,_),(_,_),(_,_),(_,_),(_,_),(_,_)] rfl ⟨z1 rfl,zp rfl (op_callPS _ _ _ _ 18 58 [.tmp 17] [_] _ _ _ rfl call58 rfl rfl rfl (ok_grow_stream_number v1.2.2 5 _ hv3) (zl rfl) rfl rfl rfl rfl rfl rfl rfl),zp rfl (op_move_take _ _ _ _ rfl),zp rfl (oE rfl),zp rfl (oE rfl),z2 rfl,zp rfl (LOp.drop [_] (op_assign _ _ _ _ rfl rfl)),zz⟩ ?_
   refine pt_then (ht_seq ?_)
   refine zgg hn [_,_,_,_,_,_,(21,vi v3.2.1),(22,vb (v3.2.1 != 0))] [0,1,2,3,4,5] [0,1,2,3,4,5,7] [zq [5] 6 21,zq [6] 7 22] [(_,_),(_,_),(_,_),(_,_),(_,_),(_,_),(_,_)] rfl ⟨z1 rfl,z4 rfl rfl,zz⟩ ?_
   refine ht_cond _ rfl (fun hb4 => ?_) (fun hb4 => ?_)
   ·have h := cond_t hb4 h
    refine zgg hn [_,_,_,_,_,_,_,(23,vi v3.2.1),(2,vi v3.2.1)] [0,1,2,3,4,5,6] [0,1,2,8] [zq [5] 7 23,zq [7] 8 2] [(_,_),(_,_),(_,_),(_,_)] rfl ⟨z1 rfl,z2 rfl,zz⟩ ?_
    refine ht_ret ?_
    refine pt_pick [3,0,1] (by kernel_rfl) (es' := [(_,_),(_,_),(_,_)]) rfl ?_
    refine pt_r_then ?_
    obtain rfl := zi h
    exact pt_retP (es := [(2, .v (.int .i64 v3.2.1))]) (posts := [.box 59 [fb v3.2.2.b, .v (.int .i64 v3.2.2.at_), .fl (.own 5) 1 (map (int .u8) v3.2.2.out), .v (.int .i64 v3.2.2.most), .v (.int .i64 v3.2.2.blocks)]]) hio rfl rfl (.tmp _ _ .nil) rfl rfl hargs0 rfl
   ·have h := cond_f hb4 h
    refine ht_skip ?_
    refine pt_then (ht_seq ?_)
    obtain ⟨v5, hv5, h⟩ := zn h
    obtain ⟨v6, hv6, h⟩ := zn h
    refine zg hn [_,_,_,_,_,_,_,(24,vi v1.1),(25,vi v5),(26,vi v3.1),(27,vi v6),(3,vi v5),(5,vi v6)] [0,1,2,3,4,5,6] [0,1,2,11,12] [zq [3] 7 24,zq [7] 8 25,zq [4] 9 26,zq [9] 10 27,⟨[8],[3],[11],[(.slot 3)]⟩,⟨[10],[4],[12],[(.slot 5)]⟩] [(_,_),(_,_),(_,_),(_,_),(_,_)] rfl ⟨z1 rfl,zp rfl (oB rfl (ibind (f := int .i64) (Option.some.inj hv5))),z1 rfl,zp rfl (oB rfl (ibind (f := int .i64) (Option.some.inj hv6))),zp rfl (LOp.drop [_] (op_assign _ _ _ _ rfl rfl)),zp rfl (LOp.drop [_] (op_assign _ _ _ _ rfl rfl)),zz⟩ ?_
    refine pt_then (ht_seq ?_)
    refine ht_seq ?_
    refine ht_joinS h (fun (s7 : Bool) => [(0,.box 59 [fb v3.2.2.b,vi v3.2.2.at_,.fl (.own 5) 1 (map (int .u8) v3.2.2.out),vi v3.2.2.most,vi v3.2.2.blocks]),(0,.v (List.getD args0 0 undef)),(80,.glob (GL mx)),(3,vi v5),(5,vi v6),(33,vb s7)]) ?_ ?_
    ·rintro s7 h
     refine pt_then ?_
     refine ht_cond _ rfl (fun hb11 => ?_) (fun hb11 => ?_)
     ·have h := cond_t hb11 h
      refine zgg hn [_,_,_,_,_,_,(2,vi 3)] [0,1,2,3,4,5] [0,1,2,6] [zq [] 6 2] [(_,_),(_,_),(_,_),(_,_)] rfl ⟨z2 rfl,zz⟩ ?_
      refine ht_ret ?_
      refine pt_pick [3,0,1] (by kernel_rfl) (es' := [(_,_),(_,_),(_,_)]) rfl ?_
      refine pt_r_then ?_
      obtain rfl := zi h
      exact pt_retP (es := [(2, .v (.int .i64 3))]) (posts := [.box 59 [fb v3.2.2.b, .v (.int .i64 v3.2.2.at_), .fl (.own 5) 1 (map (int .u8) v3.2.2.out), .v (.int .i64 v3.2.2.most), .v (.int .i64 v3.2.2.blocks)]]) hio rfl rfl (.tmp _ _ .nil) rfl rfl hargs0 rfl
     ·have h := cond_f hb11 h
      refine ht_skip ?_
      refine pt_then (ht_seq ?_)
      obtain ⟨v12, hv12, h⟩ := zn h
      refine zg hn (_::_::_::_::_::_::(35,.ptr 0 0)::(36,.tup [.fl (.own 3) 1 (map (int .i64) v12.1),vi v12.2.1])::(0,.box 59 [fb v12.2.2.b,vi v12.2.2.at_,.fl (.own 5) 1 (map (int .u8) v12.2.2.out),vi v12.2.2.most,vi v12.2.2.blocks])::(34,.tup [.fl (.own 3) 1 (map (int .i64) v12.1),vi v12.2.1])::(37,.fl (.own 3) 1 (map (int .i64) v12.1))::(34,.tup [.any,vi v12.2.1])::(38,vi v12.2.1)::(6,.fl (.own 3) 1 (map (int .i64) v12.1))::(4,vi v12.2.1)::[]) [0,1,2,3,4,5] [8,1,2,3,4,13,14] [zq [0] 6 35,⟨[6,2],[0],[8,7],[(.slot 36),(.cell 0 0),(.cell 0 1),(.cell 0 2),(.cell 0 3),(.cell 0 4)]⟩,⟨[],[7],[9],[(.slot 34)]⟩,⟨[],[9],[11,10],[(.slot 37)]⟩,zq [11] 12 38,⟨[],[10],[13],[(.slot 6)]⟩,zq [12] 14 4] [(_,_),(_,_),(_,_),(_,_),(_,_),(_,_),(_,_)] rfl ⟨z1 rfl,zp rfl (op_callPSG _ _ _ _ 36 80 80 [.tmp 35] [] _ _ _ rfl call80 rfl rfl rfl rfl (fun _ h => h) (ok_grow_stream_rowLengths mx v3.2.2 _ hv12) (zl rfl) rfl rfl rfl rfl rfl rfl rfl),zp rfl (op_move_take _ _ _ _ rfl),zp rfl (op_extract_take _ _ _ _ _ rfl (zl rfl) rfl rfl (by decide) rfl),zp rfl (oE rfl),zp rfl (op_assign_take _ _ _ _ rfl),z2 rfl,zz⟩ ?_
      refine pt_then (ht_seq ?_)
      refine zgg hn [_,_,_,_,_,_,_,(39,vi v12.2.1),(40,vb (v12.2.1 != 0))] [0,1,2,3,4,5,6] [0,1,2,3,4,5,6,8] [zq [6] 7 39,zq [7] 8 40] [(_,_),(_,_),(_,_),(_,_),(_,_),(_,_),(_,_),(_,_)] rfl ⟨z1 rfl,z4 rfl rfl,zz⟩ ?_
      refine ht_cond _ rfl (fun hb13 => ?_) (fun hb13 => ?_)
      ·have h := cond_t hb13 h
       refine zgg hn [_,_,_,_,_,_,_,_,(41,vi v12.2.1),(2,vi v12.2.1)] [0,1,2,3,4,5,6,7] [0,1,2,9] [zq [6] 8 41,zq [8] 9 2] [(_,_),(_,_),(_,_),(_,_)] rfl ⟨z1 rfl,z2 rfl,zz⟩ ?_
       refine ht_ret ?_
       refine pt_pick [3,0,1] (by kernel_rfl) (es' := [(_,_),(_,_),(_,_)]) rfl ?_
       refine pt_r_then ?_
       obtain rfl := zi h
       exact pt_retP (es := [(2, .v (.int .i64 v12.2.1))]) (posts := [.box 59 [fb v12.2.2.b, .v (.int .i64 v12.2.2.at_), .fl (.own 5) 1 (map (int .u8) v12.2.2.out), .v (.int .i64 v12.2.2.most), .v (.int .i64 v12.2.2.blocks)]]) hio rfl rfl (.tmp _ _ .nil) rfl rfl hargs0 rfl
      ·have h := cond_f hb13 h
       refine ht_skip ?_
       refine pt_then (ht_seq ?_)
       refine ht_frzE 5 hio (es' := [(0, .box 59 [fb v12.2.2.b, .v (.int .i64 v12.2.2.at_), .fl (.own 5) 1 (map (int .u8) v12.2.2.out), .v (.int .i64 v12.2.2.most), .v (.int .i64 v12.2.2.blocks)]), (0, .v (List.getD args0 0 undef)), (80, .glob (GL mx)), (3, .v (.int .i64 v5)), (5, .v (.int .i64 v6)), (6, .fl .ro 1 (map (int .i64) v12.1)), (4, .v (.int .i64 v12.2.1)), (40, .v (.bool (v12.2.1 != 0)))]) rfl ?_
       obtain ⟨v14, hv14, h⟩ := zn h
       obtain ⟨v15, hv15, h⟩ := zn h
       refine zg hn (_::_::_::_::_::_::_::_::(43,.ptr 0 0)::(44,.fl .ro 1 (map (int .i64) v12.1))::(45,vi v5)::(46,vi v6)::(47,vi v14)::(48,.tup [.fl (.own 3) 1 (map (int .i64) v15.1),vi v15.2.1])::(0,.box 59 [fb v15.2.2.b,vi v15.2.2.at_,.fl (.own 5) 1 (map (int .u8) v15.2.2.out),vi v15.2.2.most,vi v15.2.2.blocks])::(42,.tup [.fl (.own 3) 1 (map (int .i64) v15.1),vi v15.2.1])::(49,.fl (.own 3) 1 (map (int .i64) v15.1))::(42,.tup [.any,vi v15.2.1])::(50,vi v15.2.1)::(7,.fl (.own 3) 1 (map (int .i64) v15.1))::(4,vi v15.2.1)::[]) [0,1,2,3,4,5,6,7] [14,1,2,3,19,20] [zq [0] 8 43,zq [5] 9 44,zq [3] 10 45,zq [4] 11 46,zq [10,11] 12 47,⟨[8,9,12],[0],[14,13],[(.slot 48),(.cell 0 0),(.cell 0 1),(.cell 0 2),(.cell 0 3),(.cell 0 4)]⟩,⟨[],[13],[15],[(.slot 42)]⟩,⟨[],[15],[17,16],[(.slot 49)]⟩,zq [17] 18 50,⟨[],[16],[19],[(.slot 7)]⟩,⟨[18],[6],[20],[(.slot 4)]⟩] [(_,_),(_,_),(_,_),(_,_),(_,_),(_,_)] rfl ⟨z1 rfl,z1 rfl,z1 rfl,z1 rfl,zp rfl (oB rfl (ibind (f := int .i64) (Option.some.inj hv14))),zp rfl (op_callPS _ _ _ _ 48 81 [.tmp 43] [.tmp 44, .tmp 47] _ _ _ rfl call81 rfl rfl rfl (ok_grow_stream_row v12.2.2 v12.1 v14 _ hv15) (zl rfl) rfl rfl rfl rfl rfl rfl rfl),zp rfl (op_move_take _ _ _ _ rfl),zp rfl (op_extract_take _ _ _ _ _ rfl (zl rfl) rfl rfl (by decide) rfl),zp rfl (oE rfl),zp rfl (op_assign_take _ _ _ _ rfl),zp rfl (LOp.drop [_] (op_assign _ _ _ _ rfl rfl)),zz⟩ ?_
       refine pt_then (ht_seq ?_)
       refine zgg hn [_,_,_,_,_,_,(51,vi v15.2.1),(52,vb (v15.2.1 != 0))] [0,1,2,3,4,5] [0,1,2,3,4,5,7] [zq [5] 6 51,zq [6] 7 52] [(_,_),(_,_),(_,_),(_,_),(_,_),(_,_),(_,_)] rfl ⟨z1 rfl,z4 rfl rfl,zz⟩ ?_
       refine ht_cond _ rfl (fun hb16 => ?_) (fun hb16 => ?_)
       ·have h := cond_t hb16 h
        refine zgg hn [_,_,_,_,_,_,_,(53,vi v15.2.1),(2,vi v15.2.1)] [0,1,2,3,4,5,6] [0,1,2,8] [zq [5] 7 53,zq [7] 8 2] [(_,_),(_,_),(_,_),(_,_)] rfl ⟨z1 rfl,z2 rfl,zz⟩ ?_
        refine ht_ret ?_
        refine pt_pick [3,0,1] (by kernel_rfl) (es' := [(_,_),(_,_),(_,_)]) rfl ?_
        refine pt_r_then ?_
        obtain rfl := zi h
        exact pt_retP (es := [(2, .v (.int .i64 v15.2.1))]) (posts := [.box 59 [fb v15.2.2.b, .v (.int .i64 v15.2.2.at_), .fl (.own 5) 1 (map (int .u8) v15.2.2.out), .v (.int .i64 v15.2.2.most), .v (.int .i64 v15.2.2.blocks)]]) hio rfl rfl (.tmp _ _ .nil) rfl rfl hargs0 rfl
       ·have h := cond_f hb16 h
        refine ht_skip ?_
        refine pt_then (ht_seq ?_)
        refine ht_seq ?_
        refine ht_frzE 4 hio (es' := [(0, .box 59 [fb v15.2.2.b, .v (.int .i64 v15.2.2.at_), .fl (.own 5) 1 (map (int .u8) v15.2.2.out), .v (.int .i64 v15.2.2.most), .v (.int .i64 v15.2.2.blocks)]), (0, .v (List.getD args0 0 undef)), (80, .glob (GL mx)), (3, .v (.int .i64 v5)), (7, .fl .ro 1 (map (int .i64) v15.1)), (4, .v (.int .i64 v15.2.1)), (52, .v (.bool (v15.2.1 != 0)))]) rfl ?_
        refine ht_joinS h (fun (s23 : Bool) => [(0,.box 59 [fb v15.2.2.b,vi v15.2.2.at_,.fl (.own 5) 1 (map (int .u8) v15.2.2.out),vi v15.2.2.most,vi v15.2.2.blocks]),(0,.v (List.getD args0 0 undef)),(80,.glob (GL mx)),(3,vi v5),(7,.fl .ro 1 (map (int .i64) v15.1)),(71,vb s23)]) ?_ ?_
        ·rintro s23 h
         refine pt_then ?_
         refine ht_cond _ rfl (fun hb27 => ?_) (fun hb27 => ?_)
         ·have h := cond_t hb27 h
          refine zgg hn [_,_,_,_,_,_,(2,vi 3)] [0,1,2,3,4,5] [0,1,2,6] [zq [] 6 2] [(_,_),(_,_),(_,_),(_,_)] rfl ⟨z2 rfl,zz⟩ ?_
          refine ht_ret ?_
          refine pt_pick [3,0,1] (by kernel_rfl) (es' := [(_,_),(_,_),(_,_)]) rfl ?_
          refine pt_r_then ?_
          obtain rfl := zi h
          exact pt_retP (es := [(2, .v (.int .i64 3))]) (posts := [.box 59 [fb v15.2.2.b, .v (.int .i64 v15.2.2.at_), .fl (.own 5) 1 (map (int .u8) v15.2.2.out), .v (.int .i64 v15.2.2.most), .v (.int .i64 v15.2.2.blocks)]]) hio rfl rfl (.tmp _ _ .nil) rfl rfl hargs0 rfl
         ·have h := cond_f hb27 h
          refine ht_skip ?_
          refine pt_then (ht_seq ?_)
          obtain ⟨v28, hv28, h⟩ := zn h
          obtain ⟨v29, hv29, h⟩ := zn h
          obtain ⟨v30, hv30, h⟩ := zn h
          refine ht_anyR (by kernel_rfl) hn (El := (_ :: _ :: _ :: _ :: _ :: _ :: (72,.ptr 0 0) :: (73,.fl .ro 1 (map (int .i64) v15.1)) :: (74,vi v5) :: (75,.fl .ro 1 (map (int .i64) v28)) :: (76,.fl .ro 1 (map (int .i64) v15.1)) :: (77,vi v5) :: (78,.fl .ro 1 (map (int .i64) v29)) :: (79,vi v30.1) :: (0,.box 59 [fb v30.2.b,vi v30.2.at_,.fl (.own 5) 1 (map (int .u8) v30.2.out),vi v30.2.most,vi v30.2.blocks]) :: (2,vi v30.1) :: [])) (init := [0,1,2,3,4,5]) (fin := [14,1,2,15]) (sps := [zq [0] 6 72,zq [4] 7 73,zq [3] 8 74,zq [7,8] 9 75,zq [4] 10 76,zq [3] 11 77,zq [10,11] 12 78,⟨[6,9,12],[0],[14,13],[(.slot 79),(.cell 0 0),(.cell 0 1),(.cell 0 2),(.cell 0 3),(.cell 0 4)]⟩,zq [13] 15 2]) (es' := [(0,.box 59 [fb v30.2.b,vi v30.2.at_,.fl (.own 5) 1 (map (int .u8) v30.2.out),vi v30.2.most,vi v30.2.blocks]),(_,_),(_,_),(2,vi v30.1)]) (by kernel_rfl) rfl rfl ⟨z1 rfl,z1 rfl,z1 rfl,zp rfl (op_sl _ _ _ 0 v5 _ underlying73 sz3 rfl rfl rfl ⟨_,rfl⟩ hv28),z1 rfl,z1 rfl,zp rfl (op_sl _ _ _ v5 (v15.1.length : Int) _ underlying73 sz3 rfl rfl ⟨_,rfl⟩ rfl hv29),zp rfl (op_callPS _ _ _ _ 79 60 [.tmp 72] [.tmp 75,.tmp 78] _ _ _ rfl call60 rfl rfl rfl (ok_grow_stream_tokens v15.2.2 v28 v29 _ hv30) (zl rfl) rfl rfl rfl rfl rfl rfl rfl),z2 rfl,zz⟩ ?_
          refine pt_then (ht_ret ?_)
          refine pt_pick [3,0,1] (by kernel_rfl) (es' := [(_,_),(_,_),(_,_)]) rfl ?_
          obtain rfl := zi h
          exact pt_retP (es := [(2, .v (.int .i64 v30.1))]) (posts := [.box 59 [fb v30.2.b, .v (.int .i64 v30.2.at_), .fl (.own 5) 1 (map (int .u8) v30.2.out), .v (.int .i64 v30.2.most), .v (.int .i64 v30.2.blocks)]]) hio rfl rfl (.tmp _ _ .nil) rfl rfl hargs0 rfl
        ·intro u24 h hl25 hr26
         obtain ⟨v17, hv17, h⟩ := zn h
         obtain ⟨v18, hv18, h⟩ := zn h
         refine cond_some h (fun hg16_5 h => ?_) (fun hg16_5 h => ?_)
         ·refine zg hn (_::_::_::_::_::_::_::(54,.fl .ro 1 (map (int .i64) v15.1))::(55,vi v5)::(56,.fl .ro 1 (map (int .i64) v17))::(57,vi v18)::(58,vb (v18 != 0))::(59,vb true)::(60,.v undef)::(61,.v undef)::(62,.v undef)::(63,.v undef)::(64,.v undef)::(65,vb true)::(66,vb true)::(67,.v undef)::(68,.v undef)::(69,.v undef)::(70,.v undef)::(71,vb true)::[]) [0,1,2,3,4,5,6] [0,1,2,3,4,24] (zq [4] 7 54::zq [3] 8 55::zq [7,8] 9 56::zq [9] 10 57::zq [10] 11 58::zq [11] 12 59::zq [12] 13 60::zq [12] 14 61::zq [12] 15 62::zq [12] 16 63::zq [12] 17 64::zq [12] 18 65::zq [18] 19 66::zq [19] 20 67::zq [19] 21 68::zq [19] 22 69::zq [19] 23 70::zq [19] 24 71::[]) [(_,_),(_,_),(_,_),(_,_),(_,_),(_,_)] rfl ⟨z1 rfl,z1 rfl,zp rfl (op_sl _ _ _ 0 v5 _ underlying73 sz3 rfl rfl rfl ⟨_, rfl⟩ hv17),zp rfl (op_call _ _ 66 _ _ rfl call66 rfl (ok_canon_Check v17 _ hv18) rfl rfl),z4 rfl rfl,z8 hg16_5 rfl,zf rfl,zf rfl,zf rfl,zf rfl,zf rfl,z3 true rfl,z1 rfl,zf rfl,zf rfl,zf rfl,zf rfl,z3 true rfl,zz⟩ ?_
          exact hl25 _ (zi h).symm
         ·obtain ⟨v19, hv19, h⟩ := zn h
          obtain ⟨v20, hv20, h⟩ := zn h
          refine cond_some h (fun hg16_12 h => ?_) (fun hg16_12 h => ?_)
          ·refine zg hn (_::_::_::_::_::_::_::(54,.fl .ro 1 (map (int .i64) v15.1))::(55,vi v5)::(56,.fl .ro 1 (map (int .i64) v17))::(57,vi v18)::(58,vb (v18 != 0))::(59,vb false)::(60,.fl .ro 1 (map (int .i64) v15.1))::(61,vi v5)::(62,.fl .ro 1 (map (int .i64) v19))::(63,vi v20)::(64,vb (v20 != 0))::(65,vb (v20 != 0))::(66,vb true)::(67,.v undef)::(68,.v undef)::(69,.v undef)::(70,.v undef)::(71,vb true)::[]) [0,1,2,3,4,5,6] [0,1,2,3,4,24] (zq [4] 7 54::zq [3] 8 55::zq [7,8] 9 56::zq [9] 10 57::zq [10] 11 58::zq [11] 12 59::zq [12,4] 13 60::zq [12,3] 14 61::zq [12,13,14] 15 62::zq [12,15] 16 63::zq [12,16] 17 64::zq [12,17] 18 65::zq [18] 19 66::zq [19] 20 67::zq [19] 21 68::zq [19] 22 69::zq [19] 23 70::zq [19] 24 71::[]) [(_,_),(_,_),(_,_),(_,_),(_,_),(_,_)] rfl ⟨z1 rfl,z1 rfl,zp rfl (op_sl _ _ _ 0 v5 _ underlying73 sz3 rfl rfl rfl ⟨_, rfl⟩ hv17),zp rfl (op_call _ _ 66 _ _ rfl call66 rfl (ok_canon_Check v17 _ hv18) rfl rfl),z4 rfl rfl,z8 hg16_5 rfl,zr' rfl (oM rfl),zr' rfl (oM rfl),zr' rfl (op_sl _ _ _ v5 (v15.1.length : Int) _ underlying73 sz3 rfl rfl ⟨_, rfl⟩ rfl hv19),zr' rfl (op_call _ _ 66 _ _ rfl call66 rfl (ok_canon_Check v19 _ hv20) rfl rfl),zr' rfl (oB rfl rfl),z3 false rfl,z8 hg16_12 rfl,zf rfl,zf rfl,zf rfl,zf rfl,z3 true rfl,zz⟩ ?_
           exact hl25 _ (zi h).symm
          ·obtain ⟨v21, hv21, h⟩ := zn h
           obtain ⟨v22, hv22, h⟩ := zn h
           refine zg hn (_::_::_::_::_::_::_::(54,.fl .ro 1 (map (int .i64) v15.1))::(55,vi v5)::(56,.fl .ro 1 (map (int .i64) v17))::(57,vi v18)::(58,vb (v18 != 0))::(59,vb false)::(60,.fl .ro 1 (map (int .i64) v15.1))::(61,vi v5)::(62,.fl .ro 1 (map (int .i64) v19))::(63,vi v20)::(64,vb (v20 != 0))::(65,vb (v20 != 0))::(66,vb false)::(67,.fl .ro 1 (map (int .i64) v15.1))::(68,.eref (.slot 67) (v21 * 1))::(69,vi v22)::(70,vb (v22 == 0))::(71,vb (v22 == 0))::[]) [0,1,2,3,4,5,6] [0,1,2,3,4,24] (zq [4] 7 54::zq [3] 8 55::zq [7,8] 9 56::zq [9] 10 57::zq [10] 11 58::zq [11] 12 59::zq [12,4] 13 60::zq [12,3] 14 61::zq [12,13,14] 15 62::zq [12,15] 16 63::zq [12,16] 17 64::zq [12,17] 18 65::zq [18] 19 66::zq [19,4] 20 67::zq [19,20] 21 68::zq [19,21,20] 22 69::zq [19,22] 23 70::zq [19,23] 24 71::[]) [(_,_),(_,_),(_,_),(_,_),(_,_),(_,_)] rfl ⟨z1 rfl,z1 rfl,zp rfl (op_sl _ _ _ 0 v5 _ underlying73 sz3 rfl rfl rfl ⟨_, rfl⟩ hv17),zp rfl (op_call _ _ 66 _ _ rfl call66 rfl (ok_canon_Check v17 _ hv18) rfl rfl),z4 rfl rfl,z8 hg16_5 rfl,zr' rfl (oM rfl),zr' rfl (oM rfl),zr' rfl (op_sl _ _ _ v5 (v15.1.length : Int) _ underlying73 sz3 rfl rfl ⟨_, rfl⟩ rfl hv19),zr' rfl (op_call _ _ 66 _ _ rfl call66 rfl (ok_canon_Check v19 _ hv20) rfl rfl),zr' rfl (oB rfl rfl),z3 false rfl,z8 hg16_12 rfl,zr' rfl (oM rfl),zr' rfl (op_ix _ _ _ _ _ _ _ _ underlying73 sz3 (by decide) rfl rfl rfl (ix_ok hv21).1 (map_lt (ix_ok hv21).2) rfl),zr' rfl (op_load_e _ _ _ _ _ _ underlying3 rfl rfl rfl (map_get hv22)),zr' rfl (oB rfl rfl),z3 false rfl,zz⟩ ?_
           exact hl25 _ (zi h).symm
    ·intro u8 h hl9 hr10
     refine cond_some h (fun hg8_2 h => ?_) (fun hg8_2 h => ?_)
     ·refine zg hn [_,_,_,_,_,(28,vi v5),(29,vb (decide (286 < v5))),(30,vb true),(31,.v undef),(32,.v undef),(33,vb true)] [0,1,2,3,4] [0,1,2,3,4,10] [zq [3] 5 28,zq [5] 6 29,zq [6] 7 30,zq [7] 8 31,zq [7] 9 32,zq [7] 10 33] [(_,_),(_,_),(_,_),(_,_),(_,_),(_,_)] rfl ⟨z1 rfl,z4 rfl rfl,z8 hg8_2 rfl,zf rfl,zf rfl,z3 true rfl,zz⟩ ?_
      exact hl9 _ (zi h).symm
     ·refine zg hn [_,_,_,_,_,(28,vi v5),(29,vb (decide (286 < v5))),(30,vb false),(31,vi v6),(32,vb (decide (30 < v6))),(33,vb (decide (30 < v6)))] [0,1,2,3,4] [0,1,2,3,4,10] [zq [3] 5 28,zq [5] 6 29,zq [6] 7 30,zq [7,4] 8 31,zq [7,8] 9 32,zq [7,9] 10 33] [(_,_),(_,_),(_,_),(_,_),(_,_),(_,_)] rfl ⟨z1 rfl,z4 rfl rfl,z8 hg8_2 rfl,zr' rfl (oM rfl),zr' rfl (oB rfl rfl),z3 false rfl,zz⟩ ?_
      exact hl9 _ (zi h).symm
theorem ok_grow_stream_block (mx : Int) (s : T_grow_stream) (r : (Bool × Int × T_grow_stream)) (h : Sh.grow_stream_block s = some r) : FnPG Tryd.prog (GL mx) 40 [.box 59 [.fl .shr 1 (map (int .u8) s.b), .v (.int .i64 s.at_), .fl (.own 5) 1 (map (int .u8) s.out), .v (.int .i64 s.most), .v (.int .i64 s.blocks)]] [.box 59 [.fl .shr 1 (map (int .u8) r.2.2.b), .v (.int .i64 r.2.2.at_), .fl (.own 5) 1 (map (int .u8) r.2.2.out), .v (.int .i64 r.2.2.most), .v (.int .i64 r.2.2.blocks)]] (.tup [.v (.bool r.1), .v (.int .i64 r.2.1)]) := by
  unfold Sh.grow_stream_block at h
  refine fn_okPG func40 rfl (zl rfl) rfl (zl rfl) fun args0 hargs0 g0 hn hio => ?_
  refine zgg hn [_,_,_,(2,vb false),(3,vi 0)] [0,1,2] [0,1,2] [zq [] 3 2,zq [] 4 3] [(_,_),(_,_),(_,_)] rfl ⟨z2 rfl,z2 rfl,zz⟩ ?_
  refine ht_seq ?_
  obtain ⟨v1, hv1, h⟩ := zn h
  refine zg hn [_,_,_,(7,.ptr 0 0),(8,.tup [vi v1.1,vi v1.2.1]),(0,.box 59 [fb v1.2.2.b,vi v1.2.2.at_,.fl (.own 5) 1 (map (int .u8) v1.2.2.out),vi v1.2.2.most,vi v1.2.2.blocks]),(6,.tup [vi v1.1,vi v1.2.1]),(9,vi v1.1),(10,vi v1.2.1),(4,vi v1.1),(3,vi v1.2.1)] [0,1,2] [5,1,2,9,10] [zq [0] 3 7,⟨[3],[0],[5,4],[(.slot 8),(.cell 0 0),(.cell 0 1),(.cell 0 2),(.cell 0 3),(.cell 0 4)]⟩,⟨[],[4],[6],[(.slot 6)]⟩,zq [6] 7 9,zq [6] 8 10,zq [7] 9 4,zq [8] 10 3] [(_,_),(_,_),(_,_),(_,_),(_,_)] rfl ⟨z1 rfl,zp rfl (op_callPS _ _ _ _ 8 58 [.tmp 7] [_] _ _ _ rfl call58 rfl rfl rfl (ok_grow_stream_number s 1 _ hv1) (zl rfl) rfl rfl rfl rfl rfl rfl rfl),zp rfl (op_move_take _ _ _ _ rfl),zp rfl (oE rfl),zp rfl (oE rfl),z2 rfl,z2 rfl,zz⟩ ?_
  refine pt_then (ht_seq ?_)
  refine zgg hn [_,_,_,_,_,(11,vi v1.2.1),(12,vb (v1.2.1 != 0))] [0,1,2,3,4] [0,1,2,3,4,6] [zq [4] 5 11,zq [5] 6 12] [(_,_),(_,_),(_,_),(_,_),(_,_),(_,_)] rfl ⟨z1 rfl,z4 rfl rfl,zz⟩ ?_
  refine ht_cond _ rfl (fun hb14 => ?_) (fun hb14 => ?_)
  ·have h := cond_t hb14 h
   refine zgg hn [_,_,_,_,_,_,(13,vi v1.2.1),(2,vb false),(3,vi v1.2.1)] [0,1,2,3,4,5] [0,1,2,7,8] [zq [4] 6 13,zq [] 7 2,⟨[6],[4],[8],[(.slot 3)]⟩] [(_,_),(_,_),(_,_),(_,_),(_,_)] rfl ⟨z1 rfl,z2 rfl,zp rfl (LOp.drop [_] (op_assign _ _ _ _ rfl rfl)),zz⟩ ?_
   refine ht_ret ?_
   refine pt_pick [3,4,0,1] (by kernel_rfl) (es' := [(_,_),(_,_),(_,_),(_,_)]) rfl ?_
   refine pt_r_then ?_
   obtain rfl := zi h
   exact pt_retP (es := [(2, .v (.bool false)), (3, .v (.int .i64 v1.2.1))]) (posts := [.box 59 [fb v1.2.2.b, .v (.int .i64 v1.2.2.at_), .fl (.own 5) 1 (map (int .u8) v1.2.2.out), .v (.int .i64 v1.2.2.most), .v (.int .i64 v1.2.2.blocks)]]) hio rfl rfl (.tmp _ _ (.tmp _ _ .nil)) rfl rfl hargs0 rfl
  ·have h := cond_f hb14 h
   refine ht_skip ?_
   refine pt_then (ht_seq ?_)
   obtain ⟨v3, hv3, h⟩ := zn h
   refine zg hn [_,_,_,_,_,_,(15,.ptr 0 0),(16,.tup [vi v3.1,vi v3.2.1]),(0,.box 59 [fb v3.2.2.b,vi v3.2.2.at_,.fl (.own 5) 1 (map (int .u8) v3.2.2.out),vi v3.2.2.most,vi v3.2.2.blocks]),(14,.tup [vi v3.1,vi v3.2.1]),(17,vi v3.1),(18,vi v3.2.1),(5,vi v3.1),(3,vi v3.2.1)] [0,1,2,3,4,5] [8,1,2,3,12,13] [zq [0] 6 15,⟨[6],[0],[8,7],[(.slot 16),(.cell 0 0),(.cell 0 1),(.cell 0 2),(.cell 0 3),(.cell 0 4)]⟩,⟨[],[7],[9],[(.slot 14)]⟩,zq [9] 10 17,zq [9] 11 18,zq [10] 12 5,⟨[11],[4],[13],[(.slot 3)]⟩] [(_,_),(_,_),(_,_),(_,_),(_,_),(_,_)] rfl ⟨z1 rfl,zp rfl (op_callPS _ _ _ _ 16 58 [.tmp 15] [_] _ _ _ rfl call58 rfl rfl rfl (ok_grow_stream_number v1.2.2 2 _ hv3) (zl rfl) rfl rfl rfl rfl rfl rfl rfl),zp rfl (op_move_take _ _ _ _ rfl),zp rfl (oE rfl),zp rfl (oE rfl),z2 rfl,zp rfl (LOp.drop [_] (op_assign _ _ _ _ rfl rfl)),zz⟩ ?_
   refine pt_then (ht_seq ?_)
   refine zgg hn [_,_,_,_,_,_,(19,vi v3.2.1),(20,vb (v3.2.1 != 0))] [0,1,2,3,4,5] [0,1,2,3,4,5,7] [zq [5] 6 19,zq [6] 7 20] [(_,_),(_,_),(_,_),(_,_),(_,_),(_,_),(_,_)] rfl ⟨z1 rfl,z4 rfl rfl,zz⟩ ?_
   refine ht_cond _ rfl (fun hb15 => ?_) (fun hb15 => ?_)
   ·have h := cond_t hb15 h
    refine zgg hn [_,_,_,_,_,_,_,(21,vi v3.2.1),(2,vb false),(3,vi v3.2.1)] [0,1,2,3,4,5,6] [0,1,2,8,9] [zq [5] 7 21,zq [] 8 2,⟨[7],[5],[9],[(.slot 3)]⟩] [(_,_),(_,_),(_,_),(_,_),(_,_)] rfl ⟨z1 rfl,z2 rfl,zp rfl (LOp.drop [_] (op_assign _ _ _ _ rfl rfl)),zz⟩ ?_
    refine ht_ret ?_
    refine pt_pick [3,4,0,1] (by kernel_rfl) (es' := [(_,_),(_,_),(_,_),(_,_)]) rfl ?_
    refine pt_r_then ?_
    obtain rfl := zi h
    exact pt_retP (es := [(2, .v (.bool false)), (3, .v (.int .i64 v3.2.1))]) (posts := [.box 59 [fb v3.2.2.b, .v (.int .i64 v3.2.2.at_), .fl (.own 5) 1 (map (int .u8) v3.2.2.out), .v (.int .i64 v3.2.2.most), .v (.int .i64 v3.2.2.blocks)]]) hio rfl rfl (.tmp _ _ (.tmp _ _ .nil)) rfl rfl hargs0 rfl
   ·have h := cond_f hb15 h
    refine ht_skip ?_
    refine pt_then (ht_seq ?_)
    refine ht_joinS h (fun ((s32,s33,s34,s35,s36,s37) : (List Int) × Int × (List Int) × Int × Int × Int) => [(0,.box 59 [fb s32,vi s33,.fl (.own 5) 1 (map (int .u8) s34),vi s35,vi s36]),(0,.v (List.getD args0 0 undef)),(41,.glob (GL mx)),(4,vi v1.1),(3,vi s37)]) ?_ ?_
    ·rintro ⟨s32, s33, s34, s35, s36, s37⟩ h
     refine pt_then ?_
     refine zgg hn [_,_,_,_,_,(38,vi v1.1),(39,vb (v1.1 == 1)),(40,vi s37),(2,vb (v1.1 == 1)),(3,vi s37)] [0,1,2,3,4] [0,1,2,8,9] [zq [3] 5 38,zq [5] 6 39,zq [4] 7 40,zq [6] 8 2,⟨[7],[4],[9],[(.slot 3)]⟩] [(_,_),(_,_),(_,_),(_,_),(_,_)] rfl ⟨z1 rfl,z4 rfl rfl,z1 rfl,z2 rfl,zp rfl (LOp.drop [_] (op_assign _ _ _ _ rfl rfl)),zz⟩ ?_
     refine ht_ret ?_
     refine pt_pick [3,4,0,1] (by kernel_rfl) (es' := [(_,_),(_,_),(_,_),(_,_)]) rfl ?_
     obtain rfl := zi h
     exact pt_retP (es := [(2, .v (.bool (v1.1 == 1))), (3, .v (.int .i64 s37))]) (posts := [.box 59 [fb s32, .v (.int .i64 s33), .fl (.own 5) 1 (map (int .u8) s34), .v (.int .i64 s35), .v (.int .i64 s36)]]) hio rfl rfl (.tmp _ _ (.tmp _ _ .nil)) rfl rfl hargs0 rfl
    ·intro u38 h hl39 hr40
     refine zgg hn [_,_,_,_,_,_,_,(22,vi v3.1)] [0,1,2,3,4,5,6] [0,1,2,3,7] [zq [4] 7 22] [(_,_),(_,_),(_,_),(_,_),(_,_)] rfl ⟨z1 rfl,zz⟩ ?_
     refine ht_joinS h (fun ((s44,s45,s46,s47,s48,s49) : (List Int) × Int × (List Int) × Int × Int × Int) => [(0,.box 59 [fb s44,vi s45,.fl (.own 5) 1 (map (int .u8) s46),vi s47,vi s48]),(0,.v (List.getD args0 0 undef)),(41,.glob (GL mx)),(4,vi v1.1),(3,vi s49)]) ?_ ?_
     ·rintro ⟨s44, s45, s46, s47, s48, s49⟩ h
      exact hl39 _ (zi h).symm
     ·intro u50 h hl51 hr52
      refine ht_block ?_
      refine zgg hn [_,_,_,_,_,(24,vb (v3.1 == 0)),(23,vb (v3.1 == 0))] [0,1,2,3,4] [0,1,2,3,4,6] [zq [4] 5 24,zq [5] 6 23] [(_,_),(_,_),(_,_),(_,_),(_,_),(_,_)] rfl ⟨z4 rfl rfl,z2 rfl,zz⟩ ?_
      refine ht_cond _ rfl (fun hb53 => ?_) (fun hb53 => ?_)
      ·have h := cond_t hb53 h
       obtain ⟨v6, hv6, h⟩ := zn h
       refine zg hn [_,_,_,_,_,_,(25,.ptr 0 0),(26,vi v6.1),(0,.box 59 [fb v6.2.b,vi v6.2.at_,.fl (.own 5) 1 (map (int .u8) v6.2.out),vi v6.2.most,vi v6.2.blocks]),(3,vi v6.1)] [0,1,2,3,4,5] [8,1,2,3,9] [zq [0] 6 25,⟨[6],[0],[8,7],[(.slot 26),(.cell 0 0),(.cell 0 1),(.cell 0 2),(.cell 0 3),(.cell 0 4)]⟩,zq [7] 9 3] [(_,_),(_,_),(_,_),(_,_),(_,_)] rfl ⟨z1 rfl,zp rfl (op_callPS _ _ _ _ 26 59 [.tmp 25] [] _ _ _ rfl call59 rfl rfl rfl (ok_grow_stream_stored v3.2.2 _ hv6) (zl rfl) rfl rfl rfl rfl rfl rfl rfl),z2 rfl,zz⟩ ?_
       refine pt_inb ?_
       exact hl51 _ (zi h).symm
      ·have h := cond_f hb53 h
       refine zgg hn [_,_,_,_,_,_,(28,vb (v3.1 == 1)),(27,vb (v3.1 == 1))] [0,1,2,3,4,5] [0,1,2,3,4,7] [zq [4] 6 28,zq [6] 7 27] [(_,_),(_,_),(_,_),(_,_),(_,_),(_,_)] rfl ⟨z4 rfl rfl,z2 rfl,zz⟩ ?_
       refine ht_cond _ rfl (fun hb54 => ?_) (fun hb54 => ?_)
       ·have h := cond_t hb54 h
        obtain ⟨v8, hv8, h⟩ := zn h
        obtain ⟨v9, hv9, h⟩ := zn h
        refine zg hn (_::_::_::_::_::_::(29,.ptr 0 0)::(30,.tup [.fl (.own 3) 1 (map (int .i64) v8.1),.fl (.own 3) 1 (map (int .i64) v8.2)])::(31,.fl .ro 1 (map (int .i64) v8.1))::(30,.tup [.any,.fl (.own 3) 1 (map (int .i64) v8.2)])::(32,.fl .ro 1 (map (int .i64) v8.2))::(30,.tup [.any,.any])::(33,vi v9.1)::(0,.box 59 [fb v9.2.b,vi v9.2.at_,.fl (.own 5) 1 (map (int .u8) v9.2.out),vi v9.2.most,vi v9.2.blocks])::(3,vi v9.1)::[]) [0,1,2,3,4,5] [13,1,2,3,14] [zq [0] 6 29,zq [] 7 30,⟨[],[7],[9,8],[(.slot 31)]⟩,⟨[],[9],[11,10],[(.slot 32)]⟩,⟨[6,8,10],[0],[13,12],[(.slot 33),(.cell 0 0),(.cell 0 1),(.cell 0 2),(.cell 0 3),(.cell 0 4)]⟩,zq [12] 14 3] [(_,_),(_,_),(_,_),(_,_),(_,_)] rfl ⟨z1 rfl,zp rfl (op_call _ _ 33 _ _ rfl call33 rfl (ok_sym_Fixed  _ hv8) rfl rfl),zp rfl (LOp.frzG 1 (op_extract_take _ _ _ _ _ rfl (zl rfl) rfl rfl (by decide) rfl) (zl rfl) rfl),zp rfl (LOp.frzG 1 (op_extract_take _ _ _ _ _ rfl (zl rfl) rfl rfl (by decide) rfl) (zl rfl) rfl),zp rfl (op_callPS _ _ _ _ 33 60 [.tmp 29] [.tmp 31, .tmp 32] _ _ _ rfl call60 rfl rfl rfl (ok_grow_stream_tokens v3.2.2 v8.1 v8.2 _ hv9) (zl rfl) rfl rfl rfl rfl rfl rfl rfl),z2 rfl,zz⟩ ?_
        refine pt_inb ?_
        exact hl51 _ (zi h).symm
       ·have h := cond_f hb54 h
        refine zgg hn [_,_,_,_,_,_,(35,vb (v3.1 == 2)),(34,vb (v3.1 == 2))] [0,1,2,3,4,5] [0,1,2,3,7] [zq [4] 6 35,zq [6] 7 34] [(_,_),(_,_),(_,_),(_,_),(_,_)] rfl ⟨z4 rfl rfl,z2 rfl,zz⟩ ?_
        refine ht_cond _ rfl (fun hb55 => ?_) (fun hb55 => ?_)
        ·have h := cond_t hb55 h
         obtain ⟨v19, hv19, h⟩ := zn h
         refine zg hn [_,_,_,_,_,(36,.ptr 0 0),(37,vi v19.1),(0,.box 59 [fb v19.2.b,vi v19.2.at_,.fl (.own 5) 1 (map (int .u8) v19.2.out),vi v19.2.most,vi v19.2.blocks]),(3,vi v19.1)] [0,1,2,3,4] [7,1,2,3,8] [zq [0] 5 36,⟨[5,2],[0],[7,6],[(.slot 37),(.cell 0 0),(.cell 0 1),(.cell 0 2),(.cell 0 3),(.cell 0 4)]⟩,zq [6] 8 3] [(_,_),(_,_),(_,_),(_,_),(_,_)] rfl ⟨z1 rfl,zp rfl (op_callPSG _ _ _ _ 37 41 61 [.tmp 36] [] _ _ _ rfl call61 rfl rfl rfl rfl (fun _ h => h) (ok_grow_stream_dynamic mx v3.2.2 _ hv19) (zl rfl) rfl rfl rfl rfl rfl rfl rfl),z2 rfl,zz⟩ ?_
         refine pt_inb ?_
         exact hl51 _ (zi h).symm
        ·have h := cond_f hb55 h
         refine zg hn [_,_,_,_,_,(3,vi 3)] [0,1,2,3,4] [0,1,2,3,5] [zq [] 5 3] [(_,_),(_,_),(_,_),(_,_),(_,_)] rfl ⟨z2 rfl,zz⟩ ?_
         refine pt_inb ?_
         exact hl51 _ (zi h).symm
theorem ok_grow_stream_end (s : T_grow_stream) (r : (Int × T_grow_stream)) (h : Sh.grow_stream_end s = some r) : FnP Tryd.prog 41 [.box 59 [.fl .shr 1 (map (int .u8) s.b), .v (.int .i64 s.at_), .fl (.own 5) 1 (map (int .u8) s.out), .v (.int .i64 s.most), .v (.int .i64 s.blocks)]] [.box 59 [.fl .shr 1 (map (int .u8) r.2.b), .v (.int .i64 r.2.at_), .fl (.own 5) 1 (map (int .u8) r.2.out), .v (.int .i64 r.2.most), .v (.int .i64 r.2.blocks)]] (.v (.int .i64 r.1)) := by
  unfold Sh.grow_stream_end at h
  refine fn_okP func41 rfl (zl rfl) rfl (zl rfl) fun args0 hargs0 g0 hn hio => ?_
  refine zgg hn [_,_,(2,vi 0)] [0,1] [0,1] [zq [] 2 2] [(_,_),(_,_)] rfl ⟨z2 rfl,zz⟩ ?_
  refine ht_seq ?_
  refine ht_seq ?_
  obtain ⟨v1, hv1, h⟩ := zn h
  obtain ⟨v2, hv2, h⟩ := zn h
  refine ht_anyR (by kernel_rfl) hn (El := [_,_,(3,.same (.slot 0)),(4,.ptr 0 0),(5,.ptr 0 0),(6,fb s.b),(7,vi (s.b.length : Int)),(8,vi v1),(9,.same (.slot 0)),(10,.ptr 0 0),(11,.ptr 0 1),(12,vi s.at_),(13,vi v2),(14,vb (decide (8 ≤ v2)))]) (init := [0,1]) (fin := [0,1,13]) (sps := [zq [] 2 3,zq [2,0] 3 4,zq [3,0] 4 5,zq [4,0] 5 6,zq [5] 6 7,zq [6] 7 8,zq [] 8 9,zq [8,0] 9 10,zq [9,0] 10 11,zq [10,0] 11 12,zq [7,11] 12 13,zq [12] 13 14]) (es' := [(_,_),(_,_),(14,vb (decide (8 ≤ v2)))]) (by kernel_rfl) rfl rfl ⟨zp rfl (op_move_name _ _ _ rfl),zp rfl (op_nilCheck_name _ _ _ 0 rfl rfl (by decide)),zp rfl (oF underlying59 rfl sz22),zp rfl (oL underlying22 rfl),zp rfl (op_len_fl _ _ _ underlying22 rfl (by decide) (map_len _)),zp rfl (oB rfl (ibind (f := int .i64) (Option.some.inj hv1))),zp rfl (op_move_name _ _ _ rfl),zp rfl (op_nilCheck_name _ _ _ 0 rfl rfl (by decide)),zp rfl (oF underlying59 rfl sz3),zp rfl (oL underlying3 rfl),zp rfl (oB rfl (ibind (f := int .i64) (Option.some.inj hv2))),z4 rfl rfl,zz⟩ ?_
  refine pt_then ?_
  refine ht_cond _ rfl (fun hb3 => ?_) (fun hb3 => ?_)
  ·have h := cond_t hb3 h
   refine zgg hn [_,_,_,(2,vi 3)] [0,1,2] [0,1,3] [zq [] 3 2] [(_,_),(_,_),(_,_)] rfl ⟨z2 rfl,zz⟩ ?_
   refine ht_ret ?_
   refine pt_pick [2,0,1] (by kernel_rfl) (es' := [(_,_),(_,_),(_,_)]) rfl ?_
   refine pt_r_then ?_
   obtain rfl := zi h
   exact pt_retP (es := [(2, .v (.int .i64 3))]) (posts := [.box 59 [fb s.b, .v (.int .i64 s.at_), .fl (.own 5) 1 (map (int .u8) s.out), .v (.int .i64 s.most), .v (.int .i64 s.blocks)]]) hio rfl rfl (.tmp _ _ .nil) rfl rfl hargs0 rfl
  ·have h := cond_f hb3 h
   refine ht_skip ?_
   refine pt_then (ht_seq ?_)
   obtain ⟨v4, hv4, h⟩ := zn h
   refine zg hn [_,_,_,(15,.ptr 0 0),(16,vi v4.1),(0,.box 59 [fb v4.2.b,vi v4.2.at_,.fl (.own 5) 1 (map (int .u8) v4.2.out),vi v4.2.most,vi v4.2.blocks]),(2,vi v4.1)] [0,1,2] [5,1,6] [zq [0] 3 15,⟨[3],[0],[5,4],[(.slot 16),(.cell 0 0),(.cell 0 1),(.cell 0 2),(.cell 0 3),(.cell 0 4)]⟩,zq [4] 6 2] [(_,_),(_,_),(_,_)] rfl ⟨z1 rfl,zp rfl (op_callPS _ _ _ _ 16 62 [.tmp 15] [] _ _ _ rfl call62 rfl rfl rfl (ok_grow_stream_pad s _ hv4) (zl rfl) rfl rfl rfl rfl rfl rfl rfl),z2 rfl,zz⟩ ?_
   refine pt_then (ht_ret ?_)
   refine pt_pick [2,0,1] (by kernel_rfl) (es' := [(_,_),(_,_),(_,_)]) rfl ?_
   obtain rfl := zi h
   exact pt_retP (es := [(2, .v (.int .i64 v4.1))]) (posts := [.box 59 [fb v4.2.b, .v (.int .i64 v4.2.at_), .fl (.own 5) 1 (map (int .u8) v4.2.out), .v (.int .i64 v4.2.most), .v (.int .i64 v4.2.blocks)]]) hio rfl rfl (.tmp _ _ .nil) rfl rfl hargs0 rfl
theorem ok_grow_read_sh (mx : Int) (b : (List Int)) (most : Int) (r : ((Option T_grow_stream) × Int)) (h : Sh.grow_read_sh b most = some r) : FnG Tryd.prog (GL mx) 24 [.fl .shr 1 (map (int .u8) b), .v (.int .i64 most)] (.tup [.obox (Option.isSome r.1) 59 [.fl .shr 1 (map (int .u8) (((Option.getD r.1 (default : T_grow_stream))).b)), .v (.int .i64 (((Option.getD r.1 (default : T_grow_stream))).at_)), .fl (.own 5) 1 (map (int .u8) (((Option.getD r.1 (default : T_grow_stream))).out)), .v (.int .i64 (((Option.getD r.1 (default : T_grow_stream))).most)), .v (.int .i64 (((Option.getD r.1 (default : T_grow_stream))).blocks))], .v (.int .i64 r.2)]) := by
  unfold Sh.grow_read_sh at h
  refine fn_okG func24 rfl (zl rfl) rfl rfl fun g0 hn hio => ?_
  refine zgg hn [_,_,_,(4,.v (.pointer none)),(5,vi 0)] [0,1,2] [0,1,2] [zq [] 3 4,zq [] 4 5] [(_,_),(_,_),(_,_)] rfl ⟨z2 rfl,z2 rfl,zz⟩ ?_
  refine ht_seq ?_
  refine ht_seq ?_
  refine ht_joinS h (fun (s1 : Bool) => [(0,fb b),(1,vi most),(42,.glob (GL mx)),(14,vb s1)]) ?_ ?_
  ·rintro s1 h
   refine pt_then ?_
   refine ht_cond _ rfl (fun hb5 => ?_) (fun hb5 => ?_)
   ·have h := cond_t hb5 h
    refine zgg hn [_,_,_,_,(4,.v (.pointer none)),(5,vi 1)] [0,1,2,3] [2,4,5] [zq [] 4 4,zq [] 5 5] [(_,_),(_,_),(_,_)] rfl ⟨z2 rfl,z2 rfl,zz⟩ ?_
    refine ht_ret ?_
    refine pt_pick [1,2] (by kernel_rfl) (es' := [(_,_),(_,_)]) rfl ?_
    refine pt_sub (fs := [(4,.obox false 59 [fb ((default : T_grow_stream).b),vi ((default : T_grow_stream).at_),.fl (.own 5) 1 (map (int .u8) ((default : T_grow_stream).out)),vi ((default : T_grow_stream).most),vi ((default : T_grow_stream).blocks)]),(5,vi 1)]) (.sub _ (sub_ob_nil 59 [fb ((default : T_grow_stream).b),vi ((default : T_grow_stream).at_),.fl (.own 5) 1 (map (int .u8) ((default : T_grow_stream).out)),vi ((default : T_grow_stream).most),vi ((default : T_grow_stream).blocks)]) rfl (.same _ .nil)) ?_
    refine pt_r_then ?_
    obtain rfl := zi h
    exact pt_ret hio rfl (.tmp _ _ (.tmp _ _ .nil)) rfl rfl
   ·have h := cond_f hb5 h
    refine ht_skip ?_
    refine pt_then (ht_seq ?_)
    refine zgg hn [_,_,_,_,(15,fb b),(16,vi (b.length : Int)),(17,vb (decide (5000 < (b.length : Int))))] [0,1,2,3] [0,1,2,6] [zq [0] 4 15,zq [4] 5 16,zq [5] 6 17] [(_,_),(_,_),(_,_),(_,_)] rfl ⟨z1 rfl,zp rfl (op_len_fl _ _ _ underlying22 rfl (by decide) (map_len _)),z4 rfl rfl,zz⟩ ?_
    refine ht_cond _ rfl (fun hb6 => ?_) (fun hb6 => ?_)
    ·have h := cond_t hb6 h
     refine zgg hn [_,_,_,_,(4,.v (.pointer none)),(5,vi 2)] [0,1,2,3] [2,4,5] [zq [] 4 4,zq [] 5 5] [(_,_),(_,_),(_,_)] rfl ⟨z2 rfl,z2 rfl,zz⟩ ?_
     refine ht_ret ?_
     refine pt_pick [1,2] (by kernel_rfl) (es' := [(_,_),(_,_)]) rfl ?_
     refine pt_sub (fs := [(4,.obox false 59 [fb ((default : T_grow_stream).b),vi ((default : T_grow_stream).at_),.fl (.own 5) 1 (map (int .u8) ((default : T_grow_stream).out)),vi ((default : T_grow_stream).most),vi ((default : T_grow_stream).blocks)]),(5,vi 2)]) (.sub _ (sub_ob_nil 59 [fb ((default : T_grow_stream).b),vi ((default : T_grow_stream).at_),.fl (.own 5) 1 (map (int .u8) ((default : T_grow_stream).out)),vi ((default : T_grow_stream).most),vi ((default : T_grow_stream).blocks)]) rfl (.same _ .nil)) ?_
     refine pt_r_then ?_
     obtain rfl := zi h
     exact pt_ret hio rfl (.tmp _ _ (.tmp _ _ .nil)) rfl rfl
    ·have h := cond_f hb6 h
     refine ht_skip ?_
     refine pt_then ?_
     refine zgg hn [_,_,_,_,(18,fb b),(19,vi most),(20,.agg [fb b,vi 0,vz,vi most,vi 0]),(21,.box 59 [fb b,vi 0,vz,vi most,vi 0]),(6,.box 59 [fb b,vi 0,vz,vi most,vi 0])] [0,1,2,3] [2,8] [zq [0] 4 18,zq [1] 5 19,zq [4,5] 6 20,zq [6] 7 21,⟨[],[7],[8],[(.slot 6)]⟩] [(_,_),(_,_)] rfl ⟨z1 rfl,z1 rfl,zp rfl (op_build _ _ _ _ [1, 1, 1, 1, 1] _ _ underlying59 zr59 (fs59 _ underlying59) (.copy _ (.copy _ Src.nil)) rfl rfl rfl),zp rfl (op_box _ _ _ _ rfl rfl rfl),zp rfl (op_assign_take _ _ _ _ rfl),zz⟩ ?_
     refine ht_seq ?_
     refine zgg hn [_,_,(7,vb false)] [0,1] [0,1,2] [zq [] 2 7] [(_,_),(_,_),(_,_)] rfl ⟨z2 rfl,zz⟩ ?_
     refine ht_sub (fs := [(42,.glob (GL mx)),(6,.box 59 [fb b,vi 0,.fl (.own 5) 1 (map (int .u8) []),vi most,vi 0]),(7,vb false)]) (.same _ (.box _ _ (subs_cons (sub_refl _) (subs_cons (sub_refl _) (subs_cons (sub_nil 5 1) (subs_cons (sub_refl _) (subs_cons (sub_refl _) (subs_nil)))))) rfl (.same _ .nil))) ?_
     refine ht_loopS h (fun ((s18,s19,s20,s21,s22,s23) : (List Int) × Int × (List Int) × Int × Int × Bool) => [(42,.glob (GL mx)),(6,.box 59 [fb s18,vi s19,.fl (.own 5) 1 (map (int .u8) s20),vi s21,vi s22]),(7,vb s23)]) (fun ((s26,s27,s28,s29,s30) : (List Int) × Int × (List Int) × Int × Int) => [(42,.glob (GL mx)),(6,.box 59 [fb s26,vi s27,.fl (.own 5) 1 (map (int .u8) s28),vi s29,vi s30])]) ?_ ?_
     ·rintro ⟨s26, s27, s28, s29, s30⟩ h
      refine pt_then (ht_seq ?_)
      obtain ⟨v39, hv39, h⟩ := zn h
      refine zg hn [_,_,(39,.ptr 6 0),(40,.ptr 6 0),(41,vi v39.1),(6,.box 59 [fb v39.2.b,vi v39.2.at_,.fl (.own 5) 1 (map (int .u8) v39.2.out),vi v39.2.most,vi v39.2.blocks]),(4,.box 59 [fb v39.2.b,vi v39.2.at_,.fl (.own 5) 1 (map (int .u8) v39.2.out),vi v39.2.most,vi v39.2.blocks]),(5,vi v39.1)] [0,1] [0,6,7] [zq [1] 2 39,zq [1] 3 40,⟨[3],[1],[5,4],[(.slot 41),(.cell 6 0),(.cell 6 1),(.cell 6 2),(.cell 6 3),(.cell 6 4)]⟩,⟨[2],[3,5],[6],[(.slot 4)]⟩,zq [4] 7 5] [(_,_),(_,_),(_,_)] rfl ⟨z1 rfl,z1 rfl,zp rfl (op_callPS _ _ _ _ 41 41 [.tmp 40] [] _ _ _ rfl call41 rfl rfl rfl (ok_grow_stream_end (T_grow_stream.mk s26 s27 s28 s29 s30) _ hv39) (zl rfl) rfl rfl rfl rfl rfl rfl rfl),zp rfl (LOp.drop [_] (op_assign_takeP _ _ 6 _ rfl rfl)),z2 rfl,zz⟩ ?_
      refine pt_then (ht_ret ?_)
      refine pt_pick [1,2] (by kernel_rfl) (es' := [(_,_),(_,_)]) rfl ?_
      refine pt_sub (fs := [(4,.obox true 59 [fb v39.2.b,vi v39.2.at_,.fl (.own 5) 1 (map (int .u8) v39.2.out),vi v39.2.most,vi v39.2.blocks]),(5,vi v39.1)]) (.sub _ (sub_ob_box 59 (subs_refl _)) rfl (.same _ .nil)) ?_
      obtain rfl := zi h
      exact pt_ret hio rfl (.tmp _ _ (.tmp _ _ .nil)) rfl rfl
     ·rintro u31 hl32 hr33 ⟨s18, s19, s20, s21, s22, s23⟩ rr36 h ho34
      refine ht_seq ?_
      refine zgg hn [_,_,_,(22,vb s23),(23,vb (!s23))] [0,1,2] [0,1,4] [zq [2] 3 22,zq [3] 4 23] [(_,_),(_,_),(_,_)] rfl ⟨z1 rfl,zp rfl (op_un _ _ _ _ rfl rfl),zz⟩ ?_
      refine ht_cond _ rfl (fun hb37 => ?_) (fun hb37 => ?_)
      ·have h := cond_t hb37 h
       refine ht_skip ?_
       refine pt_then ?_
       refine ht_block ?_
       refine zgg hn [_,_,_,(8,vi 0)] [0,1,2] [0,1] [zq [] 3 8] [(_,_),(_,_)] rfl ⟨z2 rfl,zz⟩ ?_
       refine ht_seq ?_
       refine ht_seq ?_
       obtain ⟨v7, hv7, h⟩ := zn h
       refine zg hn [_,_,(25,.ptr 6 0),(26,.tup [vb v7.1,vi v7.2.1]),(6,.box 59 [fb v7.2.2.b,vi v7.2.2.at_,.fl (.own 5) 1 (map (int .u8) v7.2.2.out),vi v7.2.2.most,vi v7.2.2.blocks]),(24,.tup [vb v7.1,vi v7.2.1]),(27,vb v7.1),(28,vi v7.2.1),(7,vb v7.1),(8,vi v7.2.1)] [0,1] [0,4,8,9] [zq [1] 2 25,⟨[2,0],[1],[4,3],[(.slot 26),(.cell 6 0),(.cell 6 1),(.cell 6 2),(.cell 6 3),(.cell 6 4)]⟩,⟨[],[3],[5],[(.slot 24)]⟩,zq [5] 6 27,zq [5] 7 28,zq [6] 8 7,zq [7] 9 8] [(_,_),(_,_),(_,_),(_,_)] rfl ⟨z1 rfl,zp rfl (op_callPSG _ _ _ _ 26 42 40 [.tmp 25] [] _ _ _ rfl call40 rfl rfl rfl rfl (fun _ h => h) (ok_grow_stream_block mx (T_grow_stream.mk s18 s19 s20 s21 s22) _ hv7) (zl rfl) rfl rfl rfl rfl rfl rfl rfl),zp rfl (op_move_take _ _ _ _ rfl),zp rfl (oE rfl),zp rfl (oE rfl),z2 rfl,z2 rfl,zz⟩ ?_
       refine pt_then ?_
       refine zgg hn [_,_,_,_,(29,vi v7.2.1),(30,vb (v7.2.1 != 0))] [0,1,2,3] [0,1,2,3,5] [zq [3] 4 29,zq [4] 5 30] [(_,_),(_,_),(_,_),(_,_),(_,_)] rfl ⟨z1 rfl,z4 rfl rfl,zz⟩ ?_
       refine ht_cond _ rfl (fun hb38 => ?_) (fun hb38 => ?_)
       ·have h := cond_t hb38 h
        refine zgg hn [_,_,_,_,_,(31,vi v7.2.1),(4,.v (.pointer none)),(5,vi v7.2.1)] [0,1,2,3,4] [0,6,7] [zq [3] 5 31,zq [] 6 4,zq [5] 7 5] [(_,_),(_,_),(_,_)] rfl ⟨z1 rfl,z2 rfl,z2 rfl,zz⟩ ?_
        refine ht_ret ?_
        refine pt_pick [1,2] (by kernel_rfl) (es' := [(_,_),(_,_)]) rfl ?_
        refine pt_sub (fs := [(4,.obox false 59 [fb ((default : T_grow_stream).b),vi ((default : T_grow_stream).at_),.fl (.own 5) 1 (map (int .u8) ((default : T_grow_stream).out)),vi ((default : T_grow_stream).most),vi ((default : T_grow_stream).blocks)]),(5,vi v7.2.1)]) (.sub _ (sub_ob_nil 59 [fb ((default : T_grow_stream).b),vi ((default : T_grow_stream).at_),.fl (.own 5) 1 (map (int .u8) ((default : T_grow_stream).out)),vi ((default : T_grow_stream).most),vi ((default : T_grow_stream).blocks)]) rfl (.same _ .nil)) ?_
        refine pt_r_then ?_
        refine pt_r_in ?_
        refine pt_r_then ?_
        refine pt_r_in ?_
        refine pt_r_then ?_
        have h := hr33 _ (ho34 _ (zi h).symm).symm
        obtain rfl := zi h
        exact pt_ret hio rfl (.tmp _ _ (.tmp _ _ .nil)) rfl rfl
       ·have h := cond_f hb38 h
        refine ht_skip ?_
        refine pt_then ?_
        obtain ⟨v9, hv9, h⟩ := zn h
        refine zg hn [_,_,_,_,_,(32,.ptr 6 0),(33,.ptr 6 0),(34,.ptr 6 4),(35,vi v7.2.2.blocks),(36,vi v9),(37,.ptr 6 0),(38,.ptr 6 4),(6,.box 59 [fb v7.2.2.b,vi v7.2.2.at_,.fl (.own 5) 1 (map (int .u8) v7.2.2.out),vi v7.2.2.most,vi v9])] [0,1,2,3,4] [0,12,2] [zq [1] 5 32,zq [5,1] 6 33,zq [6,1] 7 34,zq [7,1] 8 35,zq [8] 9 36,zq [5,1] 10 37,zq [10,1] 11 38,⟨[11,9],[1],[12],[.cell 6 4]⟩] [(_,_),(_,_),(_,_)] rfl ⟨z1 rfl,zp rfl (op_nilCheck _ _ _ 6 0 rfl (by decide)),zp rfl (oF underlying59 rfl sz3),zp rfl (oL underlying3 rfl),zp rfl (oB rfl (ibind (f := int .i64) (Option.some.inj hv9))),zp rfl (op_nilCheck _ _ _ 6 0 rfl (by decide)),zp rfl (oF underlying59 rfl sz3),zp rfl (oS sz3 rfl),zz⟩ ?_
        refine pt_inb ?_
        exact pt_next _ (zi h).symm rfl
      ·have h := cond_f hb37 h
       refine ht_exit ?_
       refine pt_x_then ?_
       refine pt_x_then ?_
       refine pt_x_in ?_
       refine pt_pick [0,1] (by kernel_rfl) (es' := [(_,_),(_,_)]) rfl ?_
       exact hl32 _ (ho34 _ (zi h).symm).symm
  ·intro u2 h hl3 hr4
   refine cond_some h (fun hg1_2 h => ?_) (fun hg1_2 h => ?_)
   ·refine zg hn [_,_,_,(9,vi most),(10,vb (decide (most < 0))),(11,vb true),(12,.v undef),(13,.v undef),(14,vb true)] [0,1,2] [0,1,2,8] [zq [1] 3 9,zq [3] 4 10,zq [4] 5 11,zq [5] 6 12,zq [5] 7 13,zq [5] 8 14] [(_,_),(_,_),(_,_),(_,_)] rfl ⟨z1 rfl,z4 rfl rfl,z8 hg1_2 rfl,zf rfl,zf rfl,z3 true rfl,zz⟩ ?_
    exact hl3 _ (zi h).symm
   ·refine zg hn [_,_,_,(9,vi most),(10,vb (decide (most < 0))),(11,vb false),(12,vi most),(13,vb (decide (4096 < most))),(14,vb (decide (4096 < most)))] [0,1,2] [0,1,2,8] [zq [1] 3 9,zq [3] 4 10,zq [4] 5 11,zq [5,1] 6 12,zq [5,6] 7 13,zq [5,7] 8 14] [(_,_),(_,_),(_,_),(_,_)] rfl ⟨z1 rfl,z4 rfl rfl,z8 hg1_2 rfl,zr' rfl (oM rfl),zr' rfl (oB rfl rfl),z3 false rfl,zz⟩ ?_
    exact hl3 _ (zi h).symm
theorem ok_grow_Grow (mx : Int) (b : (List Int)) (most : Int) (r : ((List Int) × Int)) (h : Sh.grow_Grow b most = some r) : FnG Tryd.prog (GL mx) 11 [.fl .shr 1 (map (int .u8) b), .v (.int .i64 most)] (.tup [.fl .ro 1 (map (int .u8) r.1), .v (.int .i64 r.2)]) := by
  unfold Sh.grow_Grow at h
  refine fn_okG func11 rfl (zl rfl) rfl rfl fun g0 hn hio => ?_
  refine zgg hn [_,_,_,(4,vz),(5,vi 0)] [0,1,2] [0,1,2] [zq [] 3 4,zq [] 4 5] [(_,_),(_,_),(_,_)] rfl ⟨z2 rfl,z2 rfl,zz⟩ ?_
  refine ht_seq ?_
  obtain ⟨v1, hv1, h⟩ := zn h
  refine zg hn [_,_,_,(9,fb b),(10,vi most),(11,.tup [.obox (Option.isSome v1.1) 59 [fb (((Option.getD v1.1 (default : T_grow_stream))).b),vi (((Option.getD v1.1 (default : T_grow_stream))).at_),.fl (.own 5) 1 (map (int .u8) (((Option.getD v1.1 (default : T_grow_stream))).out)),vi (((Option.getD v1.1 (default : T_grow_stream))).most),vi (((Option.getD v1.1 (default : T_grow_stream))).blocks)],vi v1.2]),(8,.tup [.obox (Option.isSome v1.1) 59 [fb (((Option.getD v1.1 (default : T_grow_stream))).b),vi (((Option.getD v1.1 (default : T_grow_stream))).at_),.fl (.own 5) 1 (map (int .u8) (((Option.getD v1.1 (default : T_grow_stream))).out)),vi (((Option.getD v1.1 (default : T_grow_stream))).most),vi (((Option.getD v1.1 (default : T_grow_stream))).blocks)],vi v1.2]),(12,.obox (Option.isSome v1.1) 59 [fb (((Option.getD v1.1 (default : T_grow_stream))).b),vi (((Option.getD v1.1 (default : T_grow_stream))).at_),.fl (.own 5) 1 (map (int .u8) (((Option.getD v1.1 (default : T_grow_stream))).out)),vi (((Option.getD v1.1 (default : T_grow_stream))).most),vi (((Option.getD v1.1 (default : T_grow_stream))).blocks)]),(8,.tup [.any,vi v1.2]),(13,vi v1.2),(6,.obox (Option.isSome v1.1) 59 [fb (((Option.getD v1.1 (default : T_grow_stream))).b),vi (((Option.getD v1.1 (default : T_grow_stream))).at_),.fl (.own 5) 1 (map (int .u8) (((Option.getD v1.1 (default : T_grow_stream))).out)),vi (((Option.getD v1.1 (default : T_grow_stream))).most),vi (((Option.getD v1.1 (default : T_grow_stream))).blocks)]),(7,vi v1.2)] [0,1,2] [2,10,11] [zq [0] 3 9,zq [1] 4 10,zq [3,4,2] 5 11,⟨[],[5],[6],[(.slot 8)]⟩,⟨[],[6],[8,7],[(.slot 12)]⟩,zq [8] 9 13,⟨[],[7],[10],[(.slot 6)]⟩,zq [9] 11 7] [(_,_),(_,_),(_,_)] rfl ⟨z1 rfl,z1 rfl,zp rfl (op_callSG _ _ 21 24 _ _ rfl call24 rfl rfl rfl (fun _ h => h) (ok_grow_read_sh mx b most _ hv1) rfl),zp rfl (op_move_take _ _ _ _ rfl),zp rfl (op_extract_take _ _ _ _ _ rfl (zl rfl) rfl rfl (by decide) rfl),zp rfl (oE rfl),zp rfl (op_assign_take _ _ _ _ rfl),z2 rfl,zz⟩ ?_
  refine pt_ob (d := default) (f := fun (v6 : T_grow_stream) => [fb v6.b, .v (.int .i64 v6.at_), .fl (.own 5) 1 (map (int .u8) v6.out), .v (.int .i64 v6.most), .v (.int .i64 v6.blocks)]) 1 5 6 59 h (es1 := fun v6 => [(21, .glob (GL mx)), (6, .box 59 [fb v6.b, .v (.int .i64 v6.at_), .fl (.own 5) 1 (map (int .u8) v6.out), .v (.int .i64 v6.most), .v (.int .i64 v6.blocks)]), (7, .v (.int .i64 v1.2))]) (es0 := [(21, .glob (GL mx)), (6, .v (.pointer none)), (7, .v (.int .i64 v1.2))]) rfl (fun _ => rfl) (by kernel_rfl) (fun _ => rfl) (fun _ => rfl) rfl (fun v6 hv7 h => ?_) (fun hv7 h => ?_)
  ·refine pt_then (ht_seq ?_)
   refine zgg hn [_,_,_,(14,vi v1.2),(15,vb (v1.2 != 0))] [0,1,2] [0,1,2,4] [zq [2] 3 14,zq [3] 4 15] [(_,_),(_,_),(_,_),(_,_)] rfl ⟨z1 rfl,z4 rfl rfl,zz⟩ ?_
   refine ht_cond _ rfl (fun hb8 => ?_) (fun hb8 => ?_)
   ·have h := cond_t hb8 h
    refine zgg hn [_,_,_,_,(16,vi v1.2),(4,vz),(5,vi v1.2)] [0,1,2,3] [0,5,6] [zq [2] 4 16,zq [] 5 4,zq [4] 6 5] [(_,_),(_,_),(_,_)] rfl ⟨z1 rfl,z2 rfl,z2 rfl,zz⟩ ?_
    refine ht_ret ?_
    refine pt_pick [1,2] (by kernel_rfl) (es' := [(_,_),(_,_)]) rfl ?_
    refine pt_sub (fs := [(4,.fl (.own 5) 1 (map (int .u8) [])),(5,vi v1.2)]) (.sub _ (sub_nil 5 1) rfl (.same _ .nil)) ?_
    refine pt_frz 0 hio (es' := [(4, .fl .ro 1 (map (int .u8) [])), (5, .v (.int .i64 v1.2))]) rfl ?_
    refine pt_r_then ?_
    obtain rfl := zi h
    exact pt_ret hio rfl (.tmp _ _ (.tmp _ _ .nil)) rfl rfl
   ·have h := cond_f hb8 h
    refine ht_skip ?_
    refine pt_then (ht_seq ?_)
    refine ht_frz 1 hio (es' := [(21, .glob (GL mx)), (6, .box 59 [fb v6.b, .v (.int .i64 v6.at_), .fl .ro 1 (map (int .u8) v6.out), .v (.int .i64 v6.most), .v (.int .i64 v6.blocks)]), (7, .v (.int .i64 v1.2)), (15, .v (.bool (v1.2 != 0)))]) rfl ?_
    refine zg hn [_,_,_,_,(17,.box 59 [fb v6.b,vi v6.at_,.fl .ro 1 (map (int .u8) v6.out),vi v6.most,vi v6.blocks]),(18,.ptr 17 0),(19,.ptr 17 2),(20,.fl .ro 1 (map (int .u8) v6.out)),(4,.fl .ro 1 (map (int .u8) v6.out)),(5,vi 0)] [0,1,2,3] [0,8,9] [⟨[],[1],[4],[(.slot 17)]⟩,zq [4] 5 18,zq [5,4] 6 19,zq [6,4] 7 20,zq [7] 8 4,zq [] 9 5] [(_,_),(_,_),(_,_)] rfl ⟨zp rfl (op_move_take _ _ _ _ rfl),zp rfl (op_nilCheck _ _ _ 17 0 rfl (by decide)),zp rfl (oF underlying59 rfl sz22),zp rfl (oL underlying22 rfl),z2 rfl,z2 rfl,zz⟩ ?_
    refine pt_then (ht_ret ?_)
    refine pt_pick [1,2] (by kernel_rfl) (es' := [(_,_),(_,_)]) rfl ?_
    obtain rfl := zi h
    exact pt_ret hio rfl (.tmp _ _ (.tmp _ _ .nil)) rfl rfl
  ·refine pt_then (ht_seq ?_)
   refine zgg hn [_,_,_,(14,vi v1.2),(15,vb (v1.2 != 0))] [0,1,2] [0,1,2,4] [zq [2] 3 14,zq [3] 4 15] [(_,_),(_,_),(_,_),(_,_)] rfl ⟨z1 rfl,z4 rfl rfl,zz⟩ ?_
   refine ht_cond _ rfl (fun hb9 => ?_) (fun hb9 => ?_)
   ·have h := cond_t hb9 h
    refine zgg hn [_,_,_,_,(16,vi v1.2),(4,vz),(5,vi v1.2)] [0,1,2,3] [0,5,6] [zq [2] 4 16,zq [] 5 4,zq [4] 6 5] [(_,_),(_,_),(_,_)] rfl ⟨z1 rfl,z2 rfl,z2 rfl,zz⟩ ?_
    refine ht_ret ?_
    refine pt_pick [1,2] (by kernel_rfl) (es' := [(_,_),(_,_)]) rfl ?_
    refine pt_sub (fs := [(4,.fl (.own 5) 1 (map (int .u8) [])),(5,vi v1.2)]) (.sub _ (sub_nil 5 1) rfl (.same _ .nil)) ?_
    refine pt_frz 0 hio (es' := [(4, .fl .ro 1 (map (int .u8) [])), (5, .v (.int .i64 v1.2))]) rfl ?_
    refine pt_r_then ?_
    obtain rfl := zi h
    exact pt_ret hio rfl (.tmp _ _ (.tmp _ _ .nil)) rfl rfl
   ·have h := cond_f hb9 h
    cases h
theorem ok_grow_Blocks (mx : Int) (b : (List Int)) (r : (Int × Int)) (h : Sh.grow_Blocks b = some r) : FnG Tryd.prog (GL mx) 12 [.fl .shr 1 (map (int .u8) b)] (.tup [.v (.int .i64 r.1), .v (.int .i64 r.2)]) := by
  unfold Sh.grow_Blocks at h
  refine fn_okG func12 rfl (zl rfl) rfl rfl fun g0 hn hio => ?_
  refine zgg hn [_,_,(2,vi 0),(3,vi 0)] [0,1] [0,1] [zq [] 2 2,zq [] 3 3] [(_,_),(_,_)] rfl ⟨z2 rfl,z2 rfl,zz⟩ ?_
  refine ht_seq ?_
  obtain ⟨v1, hv1, h⟩ := zn h
  refine zg hn [_,_,(7,fb b),(8,.tup [.obox (Option.isSome v1.1) 59 [fb (((Option.getD v1.1 (default : T_grow_stream))).b),vi (((Option.getD v1.1 (default : T_grow_stream))).at_),.fl (.own 5) 1 (map (int .u8) (((Option.getD v1.1 (default : T_grow_stream))).out)),vi (((Option.getD v1.1 (default : T_grow_stream))).most),vi (((Option.getD v1.1 (default : T_grow_stream))).blocks)],vi v1.2]),(6,.tup [.obox (Option.isSome v1.1) 59 [fb (((Option.getD v1.1 (default : T_grow_stream))).b),vi (((Option.getD v1.1 (default : T_grow_stream))).at_),.fl (.own 5) 1 (map (int .u8) (((Option.getD v1.1 (default : T_grow_stream))).out)),vi (((Option.getD v1.1 (default : T_grow_stream))).most),vi (((Option.getD v1.1 (default : T_grow_stream))).blocks)],vi v1.2]),(9,.obox (Option.isSome v1.1) 59 [fb (((Option.getD v1.1 (default : T_grow_stream))).b),vi (((Option.getD v1.1 (default : T_grow_stream))).at_),.fl (.own 5) 1 (map (int .u8) (((Option.getD v1.1 (default : T_grow_stream))).out)),vi (((Option.getD v1.1 (default : T_grow_stream))).most),vi (((Option.getD v1.1 (default : T_grow_stream))).blocks)]),(6,.tup [.any,vi v1.2]),(10,vi v1.2),(4,.obox (Option.isSome v1.1) 59 [fb (((Option.getD v1.1 (default : T_grow_stream))).b),vi (((Option.getD v1.1 (default : T_grow_stream))).at_),.fl (.own 5) 1 (map (int .u8) (((Option.getD v1.1 (default : T_grow_stream))).out)),vi (((Option.getD v1.1 (default : T_grow_stream))).most),vi (((Option.getD v1.1 (default : T_grow_stream))).blocks)]),(5,vi v1.2)] [0,1] [1,8,9] [zq [0] 2 7,zq [2,1] 3 8,⟨[],[3],[4],[(.slot 6)]⟩,⟨[],[4],[6,5],[(.slot 9)]⟩,zq [6] 7 10,⟨[],[5],[8],[(.slot 4)]⟩,zq [7] 9 5] [(_,_),(_,_),(_,_)] rfl ⟨z1 rfl,zp rfl (op_callSG _ _ 18 24 _ _ rfl call24 rfl rfl rfl (fun _ h => h) (ok_grow_read_sh mx b 4096 _ hv1) rfl),zp rfl (op_move_take _ _ _ _ rfl),zp rfl (op_extract_take _ _ _ _ _ rfl (zl rfl) rfl rfl (by decide) rfl),zp rfl (oE rfl),zp rfl (op_assign_take _ _ _ _ rfl),z2 rfl,zz⟩ ?_
  refine pt_ob (d := default) (f := fun (v2 : T_grow_stream) => [fb v2.b, .v (.int .i64 v2.at_), .fl (.own 5) 1 (map (int .u8) v2.out), .v (.int .i64 v2.most), .v (.int .i64 v2.blocks)]) 1 5 4 59 h (es1 := fun v2 => [(18, .glob (GL mx)), (4, .box 59 [fb v2.b, .v (.int .i64 v2.at_), .fl (.own 5) 1 (map (int .u8) v2.out), .v (.int .i64 v2.most), .v (.int .i64 v2.blocks)]), (5, .v (.int .i64 v1.2))]) (es0 := [(18, .glob (GL mx)), (4, .v (.pointer none)), (5, .v (.int .i64 v1.2))]) rfl (fun _ => rfl) (by kernel_rfl) (fun _ => rfl) (fun _ => rfl) rfl (fun v2 hv3 h => ?_) (fun hv3 h => ?_)
  ·refine pt_then (ht_seq ?_)
   refine zgg hn [_,_,_,(11,vi v1.2),(12,vb (v1.2 != 0))] [0,1,2] [0,1,2,4] [zq [2] 3 11,zq [3] 4 12] [(_,_),(_,_),(_,_),(_,_)] rfl ⟨z1 rfl,z4 rfl rfl,zz⟩ ?_
   refine ht_cond _ rfl (fun hb4 => ?_) (fun hb4 => ?_)
   ·have h := cond_t hb4 h
    refine zgg hn [_,_,_,_,(13,vi v1.2),(2,vi 0),(3,vi v1.2)] [0,1,2,3] [0,5,6] [zq [2] 4 13,zq [] 5 2,zq [4] 6 3] [(_,_),(_,_),(_,_)] rfl ⟨z1 rfl,z2 rfl,z2 rfl,zz⟩ ?_
    refine ht_ret ?_
    refine pt_pick [1,2] (by kernel_rfl) (es' := [(_,_),(_,_)]) rfl ?_
    refine pt_r_then ?_
    obtain rfl := zi h
    exact pt_ret hio rfl (.tmp _ _ (.tmp _ _ .nil)) rfl rfl
   ·have h := cond_f hb4 h
    refine ht_skip ?_
    refine pt_then ?_
    refine zgg hn [_,_,_,_,(14,.box 59 [fb v2.b,vi v2.at_,.fl (.own 5) 1 (map (int .u8) v2.out),vi v2.most,vi v2.blocks]),(15,.ptr 14 0),(16,.ptr 14 4),(17,vi v2.blocks),(2,vi v2.blocks),(3,vi 0)] [0,1,2,3] [0,8,9] [⟨[],[1],[4],[(.slot 14)]⟩,zq [4] 5 15,zq [5,4] 6 16,zq [6,4] 7 17,zq [7] 8 2,zq [] 9 3] [(_,_),(_,_),(_,_)] rfl ⟨zp rfl (op_move_take _ _ _ _ rfl),zp rfl (op_nilCheck _ _ _ 14 0 rfl (by decide)),zp rfl (oF underlying59 rfl sz3),zp rfl (oL underlying3 rfl),z2 rfl,z2 rfl,zz⟩ ?_
    refine ht_ret ?_
    refine pt_pick [1,2] (by kernel_rfl) (es' := [(_,_),(_,_)]) rfl ?_
    obtain rfl := zi h
    exact pt_ret hio rfl (.tmp _ _ (.tmp _ _ .nil)) rfl rfl
  ·refine pt_then (ht_seq ?_)
   refine zgg hn [_,_,_,(11,vi v1.2),(12,vb (v1.2 != 0))] [0,1,2] [0,1,2,4] [zq [2] 3 11,zq [3] 4 12] [(_,_),(_,_),(_,_),(_,_)] rfl ⟨z1 rfl,z4 rfl rfl,zz⟩ ?_
   refine ht_cond _ rfl (fun hb5 => ?_) (fun hb5 => ?_)
   ·have h := cond_t hb5 h
    refine zgg hn [_,_,_,_,(13,vi v1.2),(2,vi 0),(3,vi v1.2)] [0,1,2,3] [0,5,6] [zq [2] 4 13,zq [] 5 2,zq [4] 6 3] [(_,_),(_,_),(_,_)] rfl ⟨z1 rfl,z2 rfl,z2 rfl,zz⟩ ?_
    refine ht_ret ?_
    refine pt_pick [1,2] (by kernel_rfl) (es' := [(_,_),(_,_)]) rfl ?_
    refine pt_r_then ?_
    obtain rfl := zi h
    exact pt_ret hio rfl (.tmp _ _ (.tmp _ _ .nil)) rfl rfl
   ·have h := cond_f hb5 h
    cases h
theorem ok_wherrykeep_Bytes (a : (List Int)) (b : (List Int)) (r : Bool) (h : Sh.wherrykeep_Bytes a b = some r) : FnOK Tryd.prog 13 [.fl .shr 1 (map (int .u8) a), .fl .shr 1 (map (int .u8) b)] (.v (.bool r)) := by
  unfold Sh.wherrykeep_Bytes at h
  refine fn_ok func13 rfl (zl rfl) rfl rfl fun g0 hn hio => ?_
  refine zgg hn [_,_,(4,vb false)] [0,1] [0,1] [zq [] 2 4] [(_,_),(_,_)] rfl ⟨z2 rfl,zz⟩ ?_
  refine ht_seq ?_
  refine zgg hn [_,_,(6,fb a),(7,vi (a.length : Int)),(8,fb b),(9,vi (b.length : Int)),(10,vb ((a.length : Int) != (b.length : Int)))] [0,1] [0,1,6] [zq [0] 2 6,zq [2] 3 7,zq [1] 4 8,zq [4] 5 9,zq [3,5] 6 10] [(_,_),(_,_),(_,_)] rfl ⟨z1 rfl,zp rfl (op_len_fl _ _ _ underlying22 rfl (by decide) (map_len _)),z1 rfl,zp rfl (op_len_fl _ _ _ underlying22 rfl (by decide) (map_len _)),z4 rfl rfl,zz⟩ ?_
  refine ht_cond _ rfl (fun hb1 => ?_) (fun hb1 => ?_)
  ·have h := cond_t hb1 h
   refine zgg hn [_,_,_,(4,vb false)] [0,1,2] [3] [zq [] 3 4] [(_,_)] rfl ⟨z2 rfl,zz⟩ ?_
   refine ht_ret ?_
   refine pt_r_then ?_
   obtain rfl := zi h
   exact pt_ret hio rfl (.tmp _ _ .nil) rfl rfl
  ·have h := cond_f hb1 h
   refine ht_skip ?_
   refine pt_then (ht_seq ?_)
   refine zgg hn [_,_,_,(5,vi 0)] [0,1,2] [0,1,3] [zq [] 3 5] [(_,_),(_,_),(_,_)] rfl ⟨z2 rfl,zz⟩ ?_
   refine ht_loopS h (fun (s12 : Int) => [(0,fb a),(1,fb b),(5,vi s12)]) (fun (() : Unit) => []) ?_ ?_
   ·rintro ⟨⟩ h
    refine pt_then ?_
    refine zgg hn [(4,vb true)] [] [0] [zq [] 0 4] [(_,_)] rfl ⟨z2 rfl,zz⟩ ?_
    refine ht_ret ?_
    obtain rfl := zi h
    exact pt_ret hio rfl (.tmp _ _ .nil) rfl rfl
   ·rintro u15 hl16 hr17 s12 rr20 h ho18
    refine ht_seq ?_
    refine zgg hn [_,_,_,(11,vi s12),(12,fb a),(13,vi (a.length : Int)),(14,vb (decide (s12 < (a.length : Int))))] [0,1,2] [0,1,2,6] [zq [2] 3 11,zq [0] 4 12,zq [4] 5 13,zq [3,5] 6 14] [(_,_),(_,_),(_,_),(_,_)] rfl ⟨z1 rfl,z1 rfl,zp rfl (op_len_fl _ _ _ underlying22 rfl (by decide) (map_len _)),z4 rfl rfl,zz⟩ ?_
    refine ht_cond _ rfl (fun hb21 => ?_) (fun hb21 => ?_)
    ·have h := cond_t hb21 h
     refine ht_skip ?_
     refine pt_then (ht_seq ?_)
     refine ht_block ?_
     refine ht_seq ?_
     obtain ⟨v3, hv3, h⟩ := zn h
     obtain ⟨v4, hv4, h⟩ := zn h
     obtain ⟨v5, hv5, h⟩ := zn h
     obtain ⟨v6, hv6, h⟩ := zn h
     refine ht_anyR (by kernel_rfl) hn (El := [_,_,_,_,(17,fb a),(18,vi s12),(19,.eref (.slot 17) (v3 * 1)),(20,.v (.int .u8 v4)),(21,fb b),(22,vi s12),(23,.eref (.slot 21) (v5 * 1)),(24,.v (.int .u8 v6)),(25,vb (v4 != v6))]) (init := [0,1,2,3]) (fin := [0,1,2,12]) (sps := [zq [0] 4 17,zq [2] 5 18,zq [4,5] 6 19,zq [6,4] 7 20,zq [1] 8 21,zq [2] 9 22,zq [8,9] 10 23,zq [10,8] 11 24,zq [7,11] 12 25]) (es' := [(_,_),(_,_),(_,_),(25,vb (v4 != v6))]) (by kernel_rfl) rfl rfl ⟨z1 rfl,z1 rfl,zp rfl (op_ix _ _ _ _ _ _ _ _ underlying22 sz5 (by decide) rfl rfl rfl (ix_ok hv3).1 (map_lt (ix_ok hv3).2) rfl),zp rfl (op_load_e _ _ _ _ _ _ underlying5 rfl rfl rfl (map_get hv4)),z1 rfl,z1 rfl,zp rfl (op_ix _ _ _ _ _ _ _ _ underlying22 sz5 (by decide) rfl rfl rfl (ix_ok hv5).1 (map_lt (ix_ok hv5).2) rfl),zp rfl (op_load_e _ _ _ _ _ _ underlying5 rfl rfl rfl (map_get hv6)),z4 rfl rfl,zz⟩ ?_
     refine pt_then ?_
     refine ht_cond _ rfl (fun hb22 => ?_) (fun hb22 => ?_)
     ·have h := cond_t hb22 h
      refine zgg hn [_,_,_,_,(4,vb false)] [0,1,2,3] [4] [zq [] 4 4] [(_,_)] rfl ⟨z2 rfl,zz⟩ ?_
      refine ht_ret ?_
      refine pt_r_in ?_
      refine pt_r_then ?_
      refine pt_r_then ?_
      refine pt_r_in ?_
      refine pt_r_then ?_
      have h := hr17 _ (ho18 _ (zi h).symm).symm
      obtain rfl := zi h
      exact pt_ret hio rfl (.tmp _ _ .nil) rfl rfl
     ·have h := cond_f hb22 h
      refine ht_skip ?_
      refine pt_inb ?_
      refine pt_then ?_
      obtain ⟨v8, hv8, h⟩ := zn h
      refine zg hn [_,_,_,_,(15,vi s12),(16,vi v8),(5,vi v8)] [0,1,2,3] [0,1,6] [zq [2] 4 15,zq [4] 5 16,⟨[5],[2],[6],[(.slot 5)]⟩] [(_,_),(_,_),(_,_)] rfl ⟨z1 rfl,zp rfl (oB rfl (ibind (f := int .i64) (Option.some.inj hv8))),zp rfl (LOp.drop [_] (op_assign _ _ _ _ rfl rfl)),zz⟩ ?_
      exact pt_next _ (zi h).symm rfl
    ·have h := cond_f hb21 h
     refine ht_exit ?_
     refine pt_x_then ?_
     refine pt_x_then ?_
     refine pt_x_in ?_
     refine pt_pick [] (by kernel_rfl) (es' := []) rfl ?_
     exact hl16 _ (ho18 _ (zi h).symm).symm
theorem ok_wherrylaw07_wakes (mx : Int) (r : Bool) (h : Sh.wherrylaw07_wakes  = some r) : FnG Tryd.prog (GL mx) 14 [] (.v (.bool r)) := by
  unfold Sh.wherrylaw07_wakes at h
  refine fn_okG func14 rfl (zl rfl) rfl rfl fun g0 hn hio => ?_
  refine zgg hn [_,(0,vb false)] [0] [0] [zq [] 1 0] [(_,_)] rfl ⟨z2 rfl,zz⟩ ?_
  refine ht_seq ?_
  obtain ⟨v1, hv1, h⟩ := zn h
  refine zg hn [_,(10,.fl (.own 5) 1 (map (int .u8) [3,0])),(11,.tup [.fl .ro 1 (map (int .u8) v1.1),vi v1.2]),(9,.tup [.fl .ro 1 (map (int .u8) v1.1),vi v1.2]),(12,.fl .ro 1 (map (int .u8) v1.1)),(13,vi v1.2),(1,.fl .ro 1 (map (int .u8) v1.1)),(2,vi v1.2)] [0] [0,6,7] [zq [] 1 10,zq [1,0] 2 11,⟨[],[2],[3],[(.slot 9)]⟩,zq [3] 4 12,zq [3] 5 13,zq [4] 6 1,zq [5] 7 2] [(_,_),(_,_),(_,_)] rfl ⟨zp rfl (op_buildSlice _ _ 1 (.int .u8 0) (map (int .u8) [3, 0]) [(0, .int .u8 3), (1, .int .u8 0)] underlying22 sz5 zr5 (fun _ V w o a hv hes => by simp only [List.map_toArray, List.map_cons, List.map_nil]; try rfl) (litfill (by simp [Instr.fill, Value.cells]; rfl) (by simp [List.range, List.range.loop] <;> rfl)) (by simp [Value.oneCell']) rfl (by decide) (by decide) (by decide)),zp rfl (op_callG _ _ 57 11 _ _ rfl call11 rfl rfl (fun _ h => h) (ok_grow_Grow mx [3, 0] 0 _ hv1) rfl rfl),zp rfl (op_move_take _ _ _ _ rfl),zp rfl (oE rfl),zp rfl (oE rfl),z2 rfl,z2 rfl,zz⟩ ?_
  refine pt_then (ht_seq ?_)
  obtain ⟨v2, hv2, h⟩ := zn h
  refine zg hn [_,_,_,(15,.fl (.own 5) 1 (map (int .u8) [1,1,0,254,255,7])),(16,.tup [.fl .ro 1 (map (int .u8) v2.1),vi v2.2]),(14,.tup [.fl .ro 1 (map (int .u8) v2.1),vi v2.2]),(17,.fl .ro 1 (map (int .u8) v2.1)),(18,vi v2.2),(3,.fl .ro 1 (map (int .u8) v2.1)),(4,vi v2.2)] [0,1,2] [0,1,2,8,9] [zq [] 3 15,zq [3,0] 4 16,⟨[],[4],[5],[(.slot 14)]⟩,zq [5] 6 17,zq [5] 7 18,zq [6] 8 3,zq [7] 9 4] [(_,_),(_,_),(_,_),(_,_),(_,_)] rfl ⟨zp rfl (op_buildSlice _ _ 1 (.int .u8 0) (map (int .u8) [1, 1, 0, 254, 255, 7]) [(0, .int .u8 1), (1, .int .u8 1), (2, .int .u8 0), (3, .int .u8 254), (4, .int .u8 255), (5, .int .u8 7)] underlying22 sz5 zr5 (fun _ V w o a hv hes => by simp only [List.map_toArray, List.map_cons, List.map_nil]; try rfl) (litfill (by simp [Instr.fill, Value.cells]; rfl) (by simp [List.range, List.range.loop] <;> rfl)) (by simp [Value.oneCell']) rfl (by decide) (by decide) (by decide)),zp rfl (op_callG _ _ 57 11 _ _ rfl call11 rfl rfl (fun _ h => h) (ok_grow_Grow mx [1, 1, 0, 254, 255, 7] 9 _ hv2) rfl rfl),zp rfl (op_move_take _ _ _ _ rfl),zp rfl (oE rfl),zp rfl (oE rfl),z2 rfl,z2 rfl,zz⟩ ?_
  refine pt_then (ht_seq ?_)
  obtain ⟨v3, hv3, h⟩ := zn h
  refine zg hn [_,_,_,_,_,(20,.fl (.own 5) 1 (map (int .u8) [3,0])),(21,.tup [vi v3.1,vi v3.2]),(19,.tup [vi v3.1,vi v3.2]),(22,vi v3.1),(23,vi v3.2),(5,vi v3.1),(6,vi v3.2)] [0,1,2,3,4] [0,1,2,3,4,10,11] [zq [] 5 20,zq [5,0] 6 21,⟨[],[6],[7],[(.slot 19)]⟩,zq [7] 8 22,zq [7] 9 23,zq [8] 10 5,zq [9] 11 6] [(_,_),(_,_),(_,_),(_,_),(_,_),(_,_),(_,_)] rfl ⟨zp rfl (op_buildSlice _ _ 1 (.int .u8 0) (map (int .u8) [3, 0]) [(0, .int .u8 3), (1, .int .u8 0)] underlying22 sz5 zr5 (fun _ V w o a hv hes => by simp only [List.map_toArray, List.map_cons, List.map_nil]; try rfl) (litfill (by simp [Instr.fill, Value.cells]; rfl) (by simp [List.range, List.range.loop] <;> rfl)) (by simp [Value.oneCell']) rfl (by decide) (by decide) (by decide)),zp rfl (op_callG _ _ 57 12 _ _ rfl call12 rfl rfl (fun _ h => h) (ok_grow_Blocks mx [3, 0] _ hv3) rfl rfl),zp rfl (op_move_take _ _ _ _ rfl),zp rfl (oE rfl),zp rfl (oE rfl),z2 rfl,z2 rfl,zz⟩ ?_
  refine pt_then (ht_seq ?_)
  obtain ⟨v4, hv4, h⟩ := zn h
  refine zg hn [_,_,_,_,_,_,_,(25,.fl (.own 5) 1 (map (int .u8) [7])),(26,.tup [.fl .ro 1 (map (int .u8) v4.1),vi v4.2]),(24,.tup [.fl .ro 1 (map (int .u8) v4.1),vi v4.2]),(27,.fl .ro 1 (map (int .u8) v4.1)),(28,vi v4.2),(7,.fl .ro 1 (map (int .u8) v4.1)),(8,vi v4.2)] [0,1,2,3,4,5,6] [0,1,2,3,4,5,6,13] [zq [] 7 25,zq [7,0] 8 26,⟨[],[8],[9],[(.slot 24)]⟩,zq [9] 10 27,zq [9] 11 28,zq [10] 12 7,zq [11] 13 8] [(_,_),(_,_),(_,_),(_,_),(_,_),(_,_),(_,_),(_,_)] rfl ⟨zp rfl (op_buildSlice _ _ 1 (.int .u8 0) (map (int .u8) [7]) [(0, .int .u8 7)] underlying22 sz5 zr5 (fun _ V w o a hv hes => by simp only [List.map_toArray, List.map_cons, List.map_nil]; try rfl) (litfill (by simp [Instr.fill, Value.cells]; rfl) (by simp [List.range, List.range.loop] <;> rfl)) (by simp [Value.oneCell']) rfl (by decide) (by decide) (by decide)),zp rfl (op_callG _ _ 57 11 _ _ rfl call11 rfl rfl (fun _ h => h) (ok_grow_Grow mx [7] 9 _ hv4) rfl rfl),zp rfl (op_move_take _ _ _ _ rfl),zp rfl (oE rfl),zp rfl (oE rfl),z2 rfl,z2 rfl,zz⟩ ?_
  refine pt_then (ht_seq ?_)
  refine ht_joinS h (fun (s6 : Bool) => [(57,.glob (GL mx)),(0,vb s6)]) ?_ ?_
  ·rintro s6 h
   refine pt_then (ht_ret ?_)
   refine pt_pick [1] (by kernel_rfl) (es' := [(_,_)]) rfl ?_
   obtain rfl := zi h
   exact pt_ret hio rfl (.tmp _ _ .nil) rfl rfl
  ·intro u7 h hl8 hr9
   refine cond_some h (fun hg5_2 h => ?_) (fun hg5_2 h => ?_)
   ·refine cond_some h (fun hg5_6 h => ?_) (fun hg5_6 h => ?_)
    ·refine cond_some h (fun hg5_10 h => ?_) (fun hg5_10 h => ?_)
     ·refine cond_some h (fun hg5_14 h => ?_) (fun hg5_14 h => ?_)
      ·refine cond_some h (fun hg5_19 h => ?_) (fun hg5_19 h => ?_)
       ·obtain ⟨v5, hv5, h⟩ := zn h
        refine cond_some h (fun hg5_24 h => ?_) (fun hg5_24 h => ?_)
        ·refine zg hn (_::_::_::_::_::_::_::_::(29,vi v1.2)::(30,vb (v1.2 == 0))::(31,vb true)::(32,vi v2.2)::(33,vb (v2.2 == 0))::(34,vb (v2.2 == 0))::(35,vb true)::(36,vi v3.2)::(37,vb (v3.2 == 0))::(38,vb (v3.2 == 0))::(39,vb true)::(40,vi v4.2)::(41,vb (v4.2 == 3))::(42,vb (v4.2 == 3))::(43,vb true)::(44,.fl .ro 1 (map (int .u8) v1.1))::(45,vi (v1.1.length : Int))::(46,vb ((v1.1.length : Int) == 0))::(47,vb ((v1.1.length : Int) == 0))::(48,vb true)::(49,.fl .ro 1 (map (int .u8) v2.1))::(50,.fl (.own 5) 1 (map (int .u8) [7]))::(51,vb v5)::(52,vb v5)::(53,vb true)::(54,vi v3.1)::(55,vb (v3.1 == 1))::(56,vb (v3.1 == 1))::(0,vb (v3.1 == 1))::[]) [0,1,2,3,4,5,6,7] [0,36] (zq [2] 8 29::zq [8] 9 30::zq [9] 10 31::zq [10,4] 11 32::zq [10,11] 12 33::zq [10,12] 13 34::zq [13] 14 35::zq [14,6] 15 36::zq [14,15] 16 37::zq [14,16] 17 38::zq [17] 18 39::zq [18,7] 19 40::zq [18,19] 20 41::zq [18,20] 21 42::zq [21] 22 43::zq [22,1] 23 44::zq [22,23] 24 45::zq [22,24] 25 46::zq [22,25] 26 47::zq [26] 27 48::zq [27,3] 28 49::zq [27] 29 50::zq [27,28,29] 30 51::zq [27,30] 31 52::zq [31] 32 53::zq [32,5] 33 54::zq [32,33] 34 55::zq [32,34] 35 56::zq [35] 36 0::[]) [(_,_),(_,_)] rfl ⟨z1 rfl,z4 rfl rfl,z8 hg5_2 rfl,zr' rfl (oM rfl),zr' rfl (oB rfl rfl),z3 true rfl,z8 hg5_6 rfl,zr' rfl (oM rfl),zr' rfl (oB rfl rfl),z3 true rfl,z8 hg5_10 rfl,zr' rfl (oM rfl),zr' rfl (oB rfl rfl),z3 true rfl,z8 hg5_14 rfl,zr' rfl (oM rfl),zr' rfl (op_len_fl _ _ _ underlying22 rfl (by decide) (map_len _)),zr' rfl (oB rfl rfl),z3 true rfl,z8 hg5_19 rfl,zr' rfl (oM rfl),zr' rfl (op_buildSlice _ _ 1 (.int .u8 0) (map (int .u8) [7]) [(0, .int .u8 7)] underlying22 sz5 zr5 (fun _ V w o a hv hes => by simp only [List.map_toArray, List.map_cons, List.map_nil]; try rfl) (litfill (by simp [Instr.fill, Value.cells]; rfl) (by simp [List.range, List.range.loop] <;> rfl)) (by simp [Value.oneCell']) rfl (by decide) (by decide) (by decide)),zr' rfl (op_call _ _ 13 _ _ rfl call13 rfl (ok_wherrykeep_Bytes v2.1 [7] _ hv5) rfl rfl),z3 true rfl,z8 hg5_24 rfl,zr' rfl (oM rfl),zr' rfl (oB rfl rfl),z3 true rfl,z2 rfl,zz⟩ ?_
         exact hl8 _ (zi h).symm
        ·refine zg hn (_::_::_::_::_::_::_::_::(29,vi v1.2)::(30,vb (v1.2 == 0))::(31,vb true)::(32,vi v2.2)::(33,vb (v2.2 == 0))::(34,vb (v2.2 == 0))::(35,vb true)::(36,vi v3.2)::(37,vb (v3.2 == 0))::(38,vb (v3.2 == 0))::(39,vb true)::(40,vi v4.2)::(41,vb (v4.2 == 3))::(42,vb (v4.2 == 3))::(43,vb true)::(44,.fl .ro 1 (map (int .u8) v1.1))::(45,vi (v1.1.length : Int))::(46,vb ((v1.1.length : Int) == 0))::(47,vb ((v1.1.length : Int) == 0))::(48,vb true)::(49,.fl .ro 1 (map (int .u8) v2.1))::(50,.fl (.own 5) 1 (map (int .u8) [7]))::(51,vb v5)::(52,vb v5)::(53,vb false)::(54,.v undef)::(55,.v undef)::(56,vb false)::(0,vb false)::[]) [0,1,2,3,4,5,6,7] [0,36] (zq [2] 8 29::zq [8] 9 30::zq [9] 10 31::zq [10,4] 11 32::zq [10,11] 12 33::zq [10,12] 13 34::zq [13] 14 35::zq [14,6] 15 36::zq [14,15] 16 37::zq [14,16] 17 38::zq [17] 18 39::zq [18,7] 19 40::zq [18,19] 20 41::zq [18,20] 21 42::zq [21] 22 43::zq [22,1] 23 44::zq [22,23] 24 45::zq [22,24] 25 46::zq [22,25] 26 47::zq [26] 27 48::zq [27,3] 28 49::zq [27] 29 50::zq [27,28,29] 30 51::zq [27,30] 31 52::zq [31] 32 53::zq [32] 33 54::zq [32] 34 55::zq [32] 35 56::zq [35] 36 0::[]) [(_,_),(_,_)] rfl ⟨z1 rfl,z4 rfl rfl,z8 hg5_2 rfl,zr' rfl (oM rfl),zr' rfl (oB rfl rfl),z3 true rfl,z8 hg5_6 rfl,zr' rfl (oM rfl),zr' rfl (oB rfl rfl),z3 true rfl,z8 hg5_10 rfl,zr' rfl (oM rfl),zr' rfl (oB rfl rfl),z3 true rfl,z8 hg5_14 rfl,zr' rfl (oM rfl),zr' rfl (op_len_fl _ _ _ underlying22 rfl (by decide) (map_len _)),zr' rfl (oB rfl rfl),z3 true rfl,z8 hg5_19 rfl,zr' rfl (oM rfl),zr' rfl (op_buildSlice _ _ 1 (.int .u8 0) (map (int .u8) [7]) [(0, .int .u8 7)] underlying22 sz5 zr5 (fun _ V w o a hv hes => by simp only [List.map_toArray, List.map_cons, List.map_nil]; try rfl) (litfill (by simp [Instr.fill, Value.cells]; rfl) (by simp [List.range, List.range.loop] <;> rfl)) (by simp [Value.oneCell']) rfl (by decide) (by decide) (by decide)),zr' rfl (op_call _ _ 13 _ _ rfl call13 rfl (ok_wherrykeep_Bytes v2.1 [7] _ hv5) rfl rfl),z3 true rfl,z8 hg5_24 rfl,zt rfl,zt rfl,z3 false rfl,z2 rfl,zz⟩ ?_
         exact hl8 _ (zi h).symm
       ·refine zg hn (_::_::_::_::_::_::_::_::(29,vi v1.2)::(30,vb (v1.2 == 0))::(31,vb true)::(32,vi v2.2)::(33,vb (v2.2 == 0))::(34,vb (v2.2 == 0))::(35,vb true)::(36,vi v3.2)::(37,vb (v3.2 == 0))::(38,vb (v3.2 == 0))::(39,vb true)::(40,vi v4.2)::(41,vb (v4.2 == 3))::(42,vb (v4.2 == 3))::(43,vb true)::(44,.fl .ro 1 (map (int .u8) v1.1))::(45,vi (v1.1.length : Int))::(46,vb ((v1.1.length : Int) == 0))::(47,vb ((v1.1.length : Int) == 0))::(48,vb false)::(49,.v undef)::(50,.v undef)::(51,.v undef)::(52,vb false)::(53,vb false)::(54,.v undef)::(55,.v undef)::(56,vb false)::(0,vb false)::[]) [0,1,2,3,4,5,6,7] [0,36] (zq [2] 8 29::zq [8] 9 30::zq [9] 10 31::zq [10,4] 11 32::zq [10,11] 12 33::zq [10,12] 13 34::zq [13] 14 35::zq [14,6] 15 36::zq [14,15] 16 37::zq [14,16] 17 38::zq [17] 18 39::zq [18,7] 19 40::zq [18,19] 20 41::zq [18,20] 21 42::zq [21] 22 43::zq [22,1] 23 44::zq [22,23] 24 45::zq [22,24] 25 46::zq [22,25] 26 47::zq [26] 27 48::zq [27] 28 49::zq [27] 29 50::zq [27] 30 51::zq [27] 31 52::zq [31] 32 53::zq [32] 33 54::zq [32] 34 55::zq [32] 35 56::zq [35] 36 0::[]) [(_,_),(_,_)] rfl ⟨z1 rfl,z4 rfl rfl,z8 hg5_2 rfl,zr' rfl (oM rfl),zr' rfl (oB rfl rfl),z3 true rfl,z8 hg5_6 rfl,zr' rfl (oM rfl),zr' rfl (oB rfl rfl),z3 true rfl,z8 hg5_10 rfl,zr' rfl (oM rfl),zr' rfl (oB rfl rfl),z3 true rfl,z8 hg5_14 rfl,zr' rfl (oM rfl),zr' rfl (op_len_fl _ _ _ underlying22 rfl (by decide) (map_len _)),zr' rfl (oB rfl rfl),z3 true rfl,z8 hg5_19 rfl,zt rfl,zt rfl,zt rfl,z3 false rfl,z1 rfl,zt rfl,zt rfl,z3 false rfl,z2 rfl,zz⟩ ?_
        exact hl8 _ (zi h).symm
      ·refine zg hn (_::_::_::_::_::_::_::_::(29,vi v1.2)::(30,vb (v1.2 == 0))::(31,vb true)::(32,vi v2.2)::(33,vb (v2.2 == 0))::(34,vb (v2.2 == 0))::(35,vb true)::(36,vi v3.2)::(37,vb (v3.2 == 0))::(38,vb (v3.2 == 0))::(39,vb true)::(40,vi v4.2)::(41,vb (v4.2 == 3))::(42,vb (v4.2 == 3))::(43,vb false)::(44,.v undef)::(45,.v undef)::(46,.v undef)::(47,vb false)::(48,vb false)::(49,.v undef)::(50,.v undef)::(51,.v undef)::(52,vb false)::(53,vb false)::(54,.v undef)::(55,.v undef)::(56,vb false)::(0,vb false)::[]) [0,1,2,3,4,5,6,7] [0,36] (zq [2] 8 29::zq [8] 9 30::zq [9] 10 31::zq [10,4] 11 32::zq [10,11] 12 33::zq [10,12] 13 34::zq [13] 14 35::zq [14,6] 15 36::zq [14,15] 16 37::zq [14,16] 17 38::zq [17] 18 39::zq [18,7] 19 40::zq [18,19] 20 41::zq [18,20] 21 42::zq [21] 22 43::zq [22] 23 44::zq [22] 24 45::zq [22] 25 46::zq [22] 26 47::zq [26] 27 48::zq [27] 28 49::zq [27] 29 50::zq [27] 30 51::zq [27] 31 52::zq [31] 32 53::zq [32] 33 54::zq [32] 34 55::zq [32] 35 56::zq [35] 36 0::[]) [(_,_),(_,_)] rfl ⟨z1 rfl,z4 rfl rfl,z8 hg5_2 rfl,zr' rfl (oM rfl),zr' rfl (oB rfl rfl),z3 true rfl,z8 hg5_6 rfl,zr' rfl (oM rfl),zr' rfl (oB rfl rfl),z3 true rfl,z8 hg5_10 rfl,zr' rfl (oM rfl),zr' rfl (oB rfl rfl),z3 true rfl,z8 hg5_14 rfl,zt rfl,zt rfl,zt rfl,z3 false rfl,z1 rfl,zt rfl,zt rfl,zt rfl,z3 false rfl,z1 rfl,zt rfl,zt rfl,z3 false rfl,z2 rfl,zz⟩ ?_
       exact hl8 _ (zi h).symm
     ·refine zg hn (_::_::_::_::_::_::_::_::(29,vi v1.2)::(30,vb (v1.2 == 0))::(31,vb true)::(32,vi v2.2)::(33,vb (v2.2 == 0))::(34,vb (v2.2 == 0))::(35,vb true)::(36,vi v3.2)::(37,vb (v3.2 == 0))::(38,vb (v3.2 == 0))::(39,vb false)::(40,.v undef)::(41,.v undef)::(42,vb false)::(43,vb false)::(44,.v undef)::(45,.v undef)::(46,.v undef)::(47,vb false)::(48,vb false)::(49,.v undef)::(50,.v undef)::(51,.v undef)::(52,vb false)::(53,vb false)::(54,.v undef)::(55,.v undef)::(56,vb false)::(0,vb false)::[]) [0,1,2,3,4,5,6,7] [0,36] (zq [2] 8 29::zq [8] 9 30::zq [9] 10 31::zq [10,4] 11 32::zq [10,11] 12 33::zq [10,12] 13 34::zq [13] 14 35::zq [14,6] 15 36::zq [14,15] 16 37::zq [14,16] 17 38::zq [17] 18 39::zq [18] 19 40::zq [18] 20 41::zq [18] 21 42::zq [21] 22 43::zq [22] 23 44::zq [22] 24 45::zq [22] 25 46::zq [22] 26 47::zq [26] 27 48::zq [27] 28 49::zq [27] 29 50::zq [27] 30 51::zq [27] 31 52::zq [31] 32 53::zq [32] 33 54::zq [32] 34 55::zq [32] 35 56::zq [35] 36 0::[]) [(_,_),(_,_)] rfl ⟨z1 rfl,z4 rfl rfl,z8 hg5_2 rfl,zr' rfl (oM rfl),zr' rfl (oB rfl rfl),z3 true rfl,z8 hg5_6 rfl,zr' rfl (oM rfl),zr' rfl (oB rfl rfl),z3 true rfl,z8 hg5_10 rfl,zt rfl,zt rfl,z3 false rfl,z1 rfl,zt rfl,zt rfl,zt rfl,z3 false rfl,z1 rfl,zt rfl,zt rfl,zt rfl,z3 false rfl,z1 rfl,zt rfl,zt rfl,z3 false rfl,z2 rfl,zz⟩ ?_
      exact hl8 _ (zi h).symm
    ·refine zg hn (_::_::_::_::_::_::_::_::(29,vi v1.2)::(30,vb (v1.2 == 0))::(31,vb true)::(32,vi v2.2)::(33,vb (v2.2 == 0))::(34,vb (v2.2 == 0))::(35,vb false)::(36,.v undef)::(37,.v undef)::(38,vb false)::(39,vb false)::(40,.v undef)::(41,.v undef)::(42,vb false)::(43,vb false)::(44,.v undef)::(45,.v undef)::(46,.v undef)::(47,vb false)::(48,vb false)::(49,.v undef)::(50,.v undef)::(51,.v undef)::(52,vb false)::(53,vb false)::(54,.v undef)::(55,.v undef)::(56,vb false)::(0,vb false)::[]) [0,1,2,3,4,5,6,7] [0,36] (zq [2] 8 29::zq [8] 9 30::zq [9] 10 31::zq [10,4] 11 32::zq [10,11] 12 33::zq [10,12] 13 34::zq [13] 14 35::zq [14] 15 36::zq [14] 16 37::zq [14] 17 38::zq [17] 18 39::zq [18] 19 40::zq [18] 20 41::zq [18] 21 42::zq [21] 22 43::zq [22] 23 44::zq [22] 24 45::zq [22] 25 46::zq [22] 26 47::zq [26] 27 48::zq [27] 28 49::zq [27] 29 50::zq [27] 30 51::zq [27] 31 52::zq [31] 32 53::zq [32] 33 54::zq [32] 34 55::zq [32] 35 56::zq [35] 36 0::[]) [(_,_),(_,_)] rfl ⟨z1 rfl,z4 rfl rfl,z8 hg5_2 rfl,zr' rfl (oM rfl),zr' rfl (oB rfl rfl),z3 true rfl,z8 hg5_6 rfl,zt rfl,zt rfl,z3 false rfl,z1 rfl,zt rfl,zt rfl,z3 false rfl,z1 rfl,zt rfl,zt rfl,zt rfl,z3 false rfl,z1 rfl,zt rfl,zt rfl,zt rfl,z3 false rfl,z1 rfl,zt rfl,zt rfl,z3 false rfl,z2 rfl,zz⟩ ?_
     exact hl8 _ (zi h).symm
   ·refine zg hn (_::_::_::_::_::_::_::_::(29,vi v1.2)::(30,vb (v1.2 == 0))::(31,vb false)::(32,.v undef)::(33,.v undef)::(34,vb false)::(35,vb false)::(36,.v undef)::(37,.v undef)::(38,vb false)::(39,vb false)::(40,.v undef)::(41,.v undef)::(42,vb false)::(43,vb false)::(44,.v undef)::(45,.v undef)::(46,.v undef)::(47,vb false)::(48,vb false)::(49,.v undef)::(50,.v undef)::(51,.v undef)::(52,vb false)::(53,vb false)::(54,.v undef)::(55,.v undef)::(56,vb false)::(0,vb false)::[]) [0,1,2,3,4,5,6,7] [0,36] (zq [2] 8 29::zq [8] 9 30::zq [9] 10 31::zq [10] 11 32::zq [10] 12 33::zq [10] 13 34::zq [13] 14 35::zq [14] 15 36::zq [14] 16 37::zq [14] 17 38::zq [17] 18 39::zq [18] 19 40::zq [18] 20 41::zq [18] 21 42::zq [21] 22 43::zq [22] 23 44::zq [22] 24 45::zq [22] 25 46::zq [22] 26 47::zq [26] 27 48::zq [27] 28 49::zq [27] 29 50::zq [27] 30 51::zq [27] 31 52::zq [31] 32 53::zq [32] 33 54::zq [32] 34 55::zq [32] 35 56::zq [35] 36 0::[]) [(_,_),(_,_)] rfl ⟨z1 rfl,z4 rfl rfl,z8 hg5_2 rfl,zt rfl,zt rfl,z3 false rfl,z1 rfl,zt rfl,zt rfl,z3 false rfl,z1 rfl,zt rfl,zt rfl,z3 false rfl,z1 rfl,zt rfl,zt rfl,zt rfl,z3 false rfl,z1 rfl,zt rfl,zt rfl,zt rfl,z3 false rfl,z1 rfl,zt rfl,zt rfl,z3 false rfl,z2 rfl,zz⟩ ?_
    exact hl8 _ (zi h).symm
theorem ok_wherrykeep_Twin (l : (List Int)) (r : (List Int)) (h : Sh.wherrykeep_Twin l = some r) : FnOK Tryd.prog 16 [.fl .shr 1 (map (int .u8) l)] (.fl (.own 5) 1 (map (int .u8) r)) := by
  unfold Sh.wherrykeep_Twin at h
  refine fn_ok func16 rfl (zl rfl) rfl rfl fun g0 hn hio => ?_
  refine zgg hn [_,(2,vz)] [0] [0] [zq [] 1 2] [(_,_)] rfl ⟨z2 rfl,zz⟩ ?_
  refine zgg hn [_,(3,vz)] [0] [0,1] [zq [] 1 3] [(_,_),(_,_)] rfl ⟨z2 rfl,zz⟩ ?_
  refine ht_seq ?_
  obtain ⟨v1, hv1, h⟩ := zn h
  refine zg hn [_,_,(4,vz),(5,fb l),(6,.fl (.own 5) 1 (map (int .u8) v1)),(2,.fl (.own 5) 1 (map (int .u8) v1))] [0,1] [5] [zq [1] 2 4,zq [0] 3 5,zq [2,3] 4 6,⟨[],[4],[5],[(.slot 2)]⟩] [(_,_)] rfl ⟨z1 rfl,z1 rfl,zp rfl (op_app_nil _ _ _ _ el22 rfl rfl (map_len _) hv1 (congrArg (map _) (app_nil_eq hv1))),zp rfl (op_assign_take _ _ _ _ rfl),zz⟩ ?_
  refine pt_then (ht_ret ?_)
  obtain rfl := zi h
  exact pt_ret hio rfl (.tmp _ _ .nil) rfl rfl
end Go.Proofs.YthceldoojddpiaaDoor
