/-
  The model's runs are what is told in Lean.
-/
import Derived.Test.YthceldoojddpiaaDoorProg
import Derived.KernelRfl
import Derived.Test.YthceldoojddpiaaDoorB3
import Derived.Test.YthceldoojddpiaaDoorOkc2
set_option linter.unusedVariables false
set_option linter.unusedSimpArgs false
set_option maxHeartbeats 1000000
namespace Go.Proofs.YthceldoojddpiaaDoor
open Go.Abs Go.Abs.Sh Tryd
open List (map flatten)
open Value (int)

theorem ok_wherrylaw07_GrowFar (mx : Int) (a : Int) (c : Int) (dist : Int) (n : Int) (r : Bool) (h : Sh.wherrylaw07_GrowFar a c dist n = some r) : FnG Tryd.prog (GL mx) 6 [.v (.int .u8 a), .v (.int .u8 c), .v (.int .i64 dist), .v (.int .i64 n)] (.v (.bool r)) := by
  unfold Sh.wherrylaw07_GrowFar at h
  refine fn_okG func6 rfl (zl rfl) rfl rfl fun g0 hn hio => ?_
  refine zgg hn [_,_,_,_,_,(8,vb false)] [0,1,2,3,4] [0,1,2,3,4] [zq [] 5 8] [(_,_),(_,_),(_,_),(_,_),(_,_)] rfl ⟨z2 rfl,zz⟩ ?_
  refine ht_seq ?_
  obtain ⟨v1, hv1, h⟩ := zn h
  obtain ⟨v2, hv2, h⟩ := zn h
  obtain ⟨v3, hv3, h⟩ := zn h
  obtain ⟨v4, hv4, h⟩ := zn h
  obtain ⟨v5, hv5, h⟩ := zn h
  obtain ⟨v6, hv6, h⟩ := zn h
  obtain ⟨v7, hv7, h⟩ := zn h
  obtain ⟨v8, hv8, h⟩ := zn h
  refine zg hn (_::_::_::_::_::(26,vi dist)::(27,.v (.int .u64 v1))::(28,.v (.int .u64 v2))::(29,vi v3)::(30,vi v4)::(31,vi n)::(32,.v (.int .u64 v5))::(33,.v (.int .u64 v6))::(34,vi v7)::(35,vi v8)::(2,vi v4)::(3,vi v8)::[]) [0,1,2,3,4] [0,1,4,15,16] [zq [2] 5 26,zq [5] 6 27,zq [6] 7 28,zq [7] 8 29,zq [8] 9 30,zq [3] 10 31,zq [10] 11 32,zq [11] 12 33,zq [12] 13 34,zq [13] 14 35,⟨[9],[2],[15],[(.slot 2)]⟩,⟨[14],[3],[16],[(.slot 3)]⟩] [(_,_),(_,_),(_,_),(_,_),(_,_)] rfl ⟨z1 rfl,zp rfl ((Option.some.inj hv1) ▸ op_conv _ _ _ underlying3 underlying32 rfl),zp rfl (oB rfl (rem_ok hv2)),zp rfl ((Option.some.inj hv3) ▸ op_conv _ _ _ underlying32 underlying3 rfl),zp rfl (oB rfl (ibind (f := int .i64) (Option.some.inj hv4))),z1 rfl,zp rfl ((Option.some.inj hv5) ▸ op_conv _ _ _ underlying3 underlying32 rfl),zp rfl (oB rfl (rem_ok hv6)),zp rfl ((Option.some.inj hv7) ▸ op_conv _ _ _ underlying32 underlying3 rfl),zp rfl (oB rfl (ibind (f := int .i64) (Option.some.inj hv8))),zp rfl (LOp.drop [_] (op_assign _ _ _ _ rfl rfl)),zp rfl (LOp.drop [_] (op_assign _ _ _ _ rfl rfl)),zz⟩ ?_
  refine pt_then ?_
  refine zgg hn [_,_,_,_,_,(9,.box 36 [vz,vi 0])] [0,1,2,3,4] [0,1,2,3,4,5] [zq [] 5 9] [(_,_),(_,_),(_,_),(_,_),(_,_),(_,_)] rfl ⟨zp rfl (op_alloc _ _ zr36),zz⟩ ?_
  refine zgg hn [_,_,_,_,_,_,(36,.agg [vi 1,vi 1]),(37,.agg [vi 1,vi 2]),(38,.fl (.own 37) 2 (flatten (map T_pair.enc [(T_pair.mk 1 1),(T_pair.mk 1 2)]))),(10,.fl (.own 37) 2 (flatten (map T_pair.enc [(T_pair.mk 1 1),(T_pair.mk 1 2)])))] [0,1,2,3,4,5] [0,1,2,3,4,5,9] [zq [] 6 36,zq [] 7 37,zq [6,7] 8 38,⟨[],[8],[9],[(.slot 10)]⟩] [(_,_),(_,_),(_,_),(_,_),(_,_),(_,_),(_,_)] rfl ⟨zp rfl (op_build_arrA _ _ (.agg #[.int .i64 0, .int .i64 0]) (map (int .i64) ([1, 1] : List Int)) [(0, .int .i64 1), (1, .int .i64 1)] underlying37 sz3 zr37 (fun _ V w o a hv hes => by simp only [List.map_toArray, List.map_cons, List.map_nil]; try rfl) (litfill (by simp [Instr.fill, Value.cells]; rfl) (by simp)) rfl),zp rfl (op_build_arrA _ _ (.agg #[.int .i64 0, .int .i64 0]) (map (int .i64) ([1, 2] : List Int)) [(0, .int .i64 1), (1, .int .i64 2)] underlying37 sz3 zr37 (fun _ V w o a hv hes => by simp only [List.map_toArray, List.map_cons, List.map_nil]; try rfl) (litfill (by simp [Instr.fill, Value.cells]; rfl) (by simp)) rfl),zp rfl (op_buildSlice _ _ 2 (.agg #[.int .i64 0, .int .i64 0]) (flatten (map T_pair.enc [(T_pair.mk 1 1), (T_pair.mk 1 2)])) [(0, .agg #[.int .i64 1, .int .i64 1]), (1, .agg #[.int .i64 1, .int .i64 2])] underlying38 sz37 zr37 (fun _ V w o a hv hes => by have e0 := agg_v (ys := [.int .i64 1, .int .i64 1]) hv hes (x := .tmp 36) rfl; have e1 := agg_v (ys := [.int .i64 1, .int .i64 2]) hv hes (x := .tmp 37) rfl; simp only [List.map_toArray, List.map_cons, List.map_nil, e0, e1]; try rfl) (litfill (by simp [Instr.fill, Value.cells]; rfl) (by simp [List.range, List.range.loop, T_pair.enc] <;> rfl)) (by simp [Value.oneCell', T_pair.enc]) rfl (by decide) (by decide) (by decide)),zp rfl (op_assign_take _ _ _ _ rfl),zz⟩ ?_
  refine ht_seq ?_
  obtain ⟨v9, hv9, h⟩ := zn h
  obtain ⟨v10, hv10, h⟩ := zn h
  refine zg hn [_,_,_,_,_,_,_,(39,.v (.int .u8 a)),(40,.v (.int .u8 v9)),(41,.v (.int .u8 c)),(42,.v (.int .u8 v10)),(43,.fl (.own 5) 1 (map (int .u8) [v9,v10])),(11,.fl (.own 5) 1 (map (int .u8) [v9,v10]))] [0,1,2,3,4,5,6] [2,3,4,5,6,12] [zq [0] 7 39,zq [7] 8 40,zq [1] 9 41,zq [9] 10 42,zq [8,10] 11 43,⟨[],[11],[12],[(.slot 11)]⟩] [(_,_),(_,_),(_,_),(_,_),(_,_),(_,_)] rfl ⟨z1 rfl,zp rfl (oB rfl (ibind (f := int .u8) (Option.some.inj hv9))),z1 rfl,zp rfl (oB rfl (ibind (f := int .u8) (Option.some.inj hv10))),zp rfl (op_buildSlice _ _ 1 (.int .u8 0) (map (int .u8) [v9, v10]) [(0, .int .u8 v9), (1, .int .u8 v10)] underlying22 sz5 zr5 (fun _ V w o a hv hes => by have e0 := rd_v hv hes (x := .tmp 40) rfl; have e1 := rd_v hv hes (x := .tmp 42) rfl; simp only [List.map_toArray, List.map_cons, List.map_nil, e0, e1]; try rfl) (litfill (by simp [Instr.fill, Value.cells]; rfl) (by simp [List.range, List.range.loop] <;> rfl)) (by simp [Value.oneCell']) rfl (by decide) (by decide) (by decide)),zp rfl (op_assign_take _ _ _ _ rfl),zz⟩ ?_
  refine pt_then (ht_seq ?_)
  refine zgg hn [_,_,_,_,_,_,(12,vi 0)] [0,1,2,3,4,5] [0,1,2,3,4,5,6] [zq [] 6 12] [(_,_),(_,_),(_,_),(_,_),(_,_),(_,_),(_,_)] rfl ⟨z2 rfl,zz⟩ ?_
  refine ht_loopS h (fun ((s22,s23) : (List T_pair) × Int) => [(155,.glob (GL mx)),(2,vi v4),(3,vi v8),(9,.box 36 [vz,vi 0]),(10,.fl (.own 37) 2 (flatten (map T_pair.enc s22))),(11,.fl (.own 5) 1 (map (int .u8) [v9,v10])),(12,vi s23)]) (fun (s25 : (List T_pair)) => [(155,.glob (GL mx)),(2,vi v4),(3,vi v8),(9,.box 36 [vz,vi 0]),(10,.fl (.own 37) 2 (flatten (map T_pair.enc s25))),(11,.fl (.own 5) 1 (map (int .u8) [v9,v10]))]) ?_ ?_
  ·rintro s25 h
   refine pt_then (ht_seq ?_)
   obtain ⟨v33, hv33, h⟩ := zn h
   obtain ⟨v34, hv34, h⟩ := zn h
   obtain ⟨v35, hv35, h⟩ := zn h
   refine zg hn (_::_::_::_::_::_::(66,vi v8)::(67,vi v33)::(68,vi v34)::(69,.tup [vi v35.1,vi v35.2])::(65,.tup [vi v35.1,vi v35.2])::(70,vi v35.1)::(71,vi v35.2)::(15,vi v35.1)::(16,vi v35.2)::[]) [0,1,2,3,4,5] [0,1,2,3,4,5,13] [zq [2] 6 66,zq [6] 7 67,zq [7] 8 68,zq [8] 9 69,⟨[],[9],[10],[(.slot 65)]⟩,zq [10] 11 70,zq [10] 12 71,zq [11] 13 15,zq [12] 14 16] [(_,_),(_,_),(_,_),(_,_),(_,_),(_,_),(_,_)] rfl ⟨z1 rfl,zp rfl (oB rfl (ibind (f := int .i64) (Option.some.inj hv33))),zp rfl (oB rfl (ibind (f := int .i64) (Option.some.inj hv34))),zp rfl (op_call _ _ 18 _ _ rfl call18 rfl (ok_bits_Turn v34 7 _ hv35) rfl rfl),zp rfl (op_move_take _ _ _ _ rfl),zp rfl (oE rfl),zp rfl (oE rfl),z2 rfl,z2 rfl,zz⟩ ?_
   refine pt_then (ht_seq ?_)
   obtain ⟨v36, hv36, h⟩ := zn h
   obtain ⟨v37, hv37, h⟩ := zn h
   refine zg hn (_::_::_::_::_::_::_::(73,vi v4)::(74,vi v36)::(75,.tup [vi v37.1,vi v37.2])::(72,.tup [vi v37.1,vi v37.2])::(76,vi v37.1)::(77,vi v37.2)::(17,vi v37.1)::(18,vi v37.2)::[]) [0,1,2,3,4,5,6] [0,1,2,3,4,5,6,13] [zq [1] 7 73,zq [7] 8 74,zq [8] 9 75,⟨[],[9],[10],[(.slot 72)]⟩,zq [10] 11 76,zq [10] 12 77,zq [11] 13 17,zq [12] 14 18] [(_,_),(_,_),(_,_),(_,_),(_,_),(_,_),(_,_),(_,_)] rfl ⟨z1 rfl,zp rfl (oB rfl (ibind (f := int .i64) (Option.some.inj hv36))),zp rfl (op_call _ _ 18 _ _ rfl call18 rfl (ok_bits_Turn v36 5 _ hv37) rfl rfl),zp rfl (op_move_take _ _ _ _ rfl),zp rfl (oE rfl),zp rfl (oE rfl),z2 rfl,z2 rfl,zz⟩ ?_
   refine pt_then (ht_seq ?_)
   obtain ⟨v38, hv38, h⟩ := zn h
   refine zg hn (_::_::_::_::_::_::_::_::(78,.fl (.own 37) 2 (flatten (map T_pair.enc s25)))::(79,vi v35.1)::(80,.agg [vi v35.1,vi 7])::(81,vi v37.1)::(82,.agg [vi v37.1,vi 5])::(83,.agg [vi 0,vi 7])::(84,.fl (.own 37) 2 (flatten (map T_pair.enc [(T_pair.mk v35.1 7),(T_pair.mk v37.1 5),(T_pair.mk 0 7)])))::(85,.fl (.own 37) 2 (flatten (map T_pair.enc v38)))::(78,.any)::(10,.fl (.own 37) 2 (flatten (map T_pair.enc v38)))::[]) [0,1,2,3,4,5,6,7] [0,1,2,3,5,17] [⟨[],[4],[8],[(.slot 78)]⟩,zq [6] 9 79,zq [9] 10 80,zq [7] 11 81,zq [11] 12 82,zq [] 13 83,zq [10,12,13] 14 84,⟨[14],[8],[16,15],[(.slot 85)]⟩,⟨[],[15],[17],[(.slot 10)]⟩] [(_,_),(_,_),(_,_),(_,_),(_,_),(_,_)] rfl ⟨zp rfl (op_move_take _ _ _ _ rfl),z1 rfl,zp rfl (op_build_arrA _ _ (.agg #[.int .i64 0, .int .i64 0]) (map (int .i64) ([v35.1, 7] : List Int)) [(0, .int .i64 v35.1), (1, .int .i64 7)] underlying37 sz3 zr37 (fun _ V w o a hv hes => by have e0 := rd_v hv hes (x := .tmp 79) rfl; simp only [List.map_toArray, List.map_cons, List.map_nil, e0]; try rfl) (litfill (by simp [Instr.fill, Value.cells]; rfl) (by simp)) rfl),z1 rfl,zp rfl (op_build_arrA _ _ (.agg #[.int .i64 0, .int .i64 0]) (map (int .i64) ([v37.1, 5] : List Int)) [(0, .int .i64 v37.1), (1, .int .i64 5)] underlying37 sz3 zr37 (fun _ V w o a hv hes => by have e0 := rd_v hv hes (x := .tmp 81) rfl; simp only [List.map_toArray, List.map_cons, List.map_nil, e0]; try rfl) (litfill (by simp [Instr.fill, Value.cells]; rfl) (by simp)) rfl),zp rfl (op_build_arrA _ _ (.agg #[.int .i64 0, .int .i64 0]) (map (int .i64) ([0, 7] : List Int)) [(0, .int .i64 0), (1, .int .i64 7)] underlying37 sz3 zr37 (fun _ V w o a hv hes => by simp only [List.map_toArray, List.map_cons, List.map_nil]; try rfl) (litfill (by simp [Instr.fill, Value.cells]; rfl) (by simp)) rfl),zp rfl (op_buildSlice _ _ 2 (.agg #[.int .i64 0, .int .i64 0]) (flatten (map T_pair.enc [(T_pair.mk v35.1 7), (T_pair.mk v37.1 5), (T_pair.mk 0 7)])) [(0, .agg #[.int .i64 v35.1, .int .i64 7]), (1, .agg #[.int .i64 v37.1, .int .i64 5]), (2, .agg #[.int .i64 0, .int .i64 7])] underlying38 sz37 zr37 (fun _ V w o a hv hes => by have e0 := agg_v (ys := [.int .i64 v35.1, .int .i64 7]) hv hes (x := .tmp 80) rfl; have e1 := agg_v (ys := [.int .i64 v37.1, .int .i64 5]) hv hes (x := .tmp 82) rfl; have e2 := agg_v (ys := [.int .i64 0, .int .i64 7]) hv hes (x := .tmp 83) rfl; simp only [List.map_toArray, List.map_cons, List.map_nil, e0, e1, e2]; try rfl) (litfill (by simp [Instr.fill, Value.cells]; rfl) (by simp [List.range, List.range.loop, T_pair.enc] <;> rfl)) (by simp [Value.oneCell', T_pair.enc]) rfl (by decide) (by decide) (by decide)),zp rfl (op_app _ _ _ _ _ el38 rfl rfl (flat_len T_pair.len _) (flat_len T_pair.len _) hv38 (flat_app (app_eq hv38))),zp rfl (op_assign_take _ _ _ _ rfl),zz⟩ ?_
   refine pt_then (ht_seq ?_)
   refine zgg hn [_,_,_,_,_,_,(19,vi 0)] [0,1,2,3,4,5] [0,1,2,3,4,5,6] [zq [] 6 19] [(_,_),(_,_),(_,_),(_,_),(_,_),(_,_),(_,_)] rfl ⟨z2 rfl,zz⟩ ?_
   refine ht_sub (fs := [(155,.glob (GL mx)),(2,vi v4),(3,vi v8),(9,.box 36 [.fl (.own 5) 1 (map (int .u8) []),vi 0]),(11,.fl (.own 5) 1 (map (int .u8) [v9,v10])),(10,.fl (.own 37) 2 (flatten (map T_pair.enc v38))),(19,vi 0)]) (.same _ (.same _ (.same _ (.box _ _ (subs_cons (sub_nil 5 1) (subs_cons (sub_refl _) (subs_nil))) rfl (.same _ (.same _ (.same _ .nil))))))) ?_
   refine ht_loopS h (fun ((s52,s53,s54) : (List Int) × Int × Int) => [(155,.glob (GL mx)),(2,vi v4),(3,vi v8),(9,.box 36 [.fl (.own 5) 1 (map (int .u8) s52),vi s53]),(11,.fl (.own 5) 1 (map (int .u8) [v9,v10])),(10,.fl (.own 37) 2 (flatten (map T_pair.enc v38))),(19,vi s54)]) (fun ((s57,s58) : (List Int) × Int) => [(155,.glob (GL mx)),(2,vi v4),(3,vi v8),(9,.box 36 [.fl (.own 5) 1 (map (int .u8) s57),vi s58]),(11,.fl (.own 5) 1 (map (int .u8) [v9,v10]))]) ?_ ?_
   ·rintro ⟨s57, s58⟩ h
    refine pt_then (ht_seq ?_)
    obtain ⟨v67, hv67, h⟩ := zn h
    refine zg hn [_,_,_,_,_,(111,.ptr 9 0),(112,.same (.cell 9 0)),(113,.tup [.fl .ro 1 (map (int .u8) v67.1),vi v67.2]),(110,.tup [.fl .ro 1 (map (int .u8) v67.1),vi v67.2]),(114,.fl .ro 1 (map (int .u8) v67.1)),(115,vi v67.2),(22,.fl .ro 1 (map (int .u8) v67.1)),(23,vi v67.2)] [0,1,2,3,4] [0,1,2,4,11,12] [zq [3] 5 111,zq [5,3] 6 112,zq [6,3,0] 7 113,⟨[],[7],[8],[(.slot 110)]⟩,zq [8] 9 114,zq [8] 10 115,zq [9] 11 22,zq [10] 12 23] [(_,_),(_,_),(_,_),(_,_),(_,_),(_,_)] rfl ⟨zp rfl (oF underlying36 rfl sz22),zp rfl (oL underlying22 rfl),zp rfl (op_callG _ _ 155 11 _ _ rfl call11 rfl rfl (fun _ h => h) (ok_grow_Grow mx s57 4096 _ hv67) rfl rfl),zp rfl (op_move_take _ _ _ _ rfl),zp rfl (oE rfl),zp rfl (oE rfl),z2 rfl,z2 rfl,zz⟩ ?_
    refine pt_then (ht_seq ?_)
    refine zgg hn [_,_,_,_,_,_,(116,vi v4),(117,vb (decide (2 < v4)))] [0,1,2,3,4,5] [0,1,2,3,4,5,7] [zq [1] 6 116,zq [6] 7 117] [(_,_),(_,_),(_,_),(_,_),(_,_),(_,_),(_,_)] rfl ⟨z1 rfl,z4 rfl rfl,zz⟩ ?_
    refine ht_cond _ rfl (fun hb68 => ?_) (fun hb68 => ?_)
    ·have h := cond_t hb68 h
     refine ht_seq ?_
     refine ht_joinS h (fun (s70 : Bool) => [(155,.glob (GL mx)),(8,vb s70)]) ?_ ?_
     ·rintro s70 h
      refine pt_then (ht_ret ?_)
      refine pt_pick [1] (by kernel_rfl) (es' := [(_,_)]) rfl ?_
      refine pt_r_then ?_
      obtain rfl := zi h
      exact pt_ret hio rfl (.tmp _ _ .nil) rfl rfl
     ·intro u71 h hl72 hr73
      refine cond_some h (fun hg22_2 h => ?_) (fun hg22_2 h => ?_)
      ·refine cond_some h (fun hg22_7 h => ?_) (fun hg22_7 h => ?_)
       ·obtain ⟨v69, hv69, h⟩ := zn h
        refine zg hn (_::_::_::_::_::_::_::(118,vi v67.2)::(119,vb (v67.2 == 3))::(120,vb true)::(121,.fl .ro 1 (map (int .u8) v67.1))::(122,vi (v67.1.length : Int))::(123,vb ((v67.1.length : Int) == 0))::(124,vb ((v67.1.length : Int) == 0))::(125,vb true)::(126,vb v69)::(127,vb v69)::(8,vb v69)::[]) [0,1,2,3,4,5,6] [0,17] [zq [5] 7 118,zq [7] 8 119,zq [8] 9 120,zq [9,4] 10 121,zq [9,10] 11 122,zq [9,11] 12 123,zq [9,12] 13 124,zq [13] 14 125,zq [14,0] 15 126,zq [14,15] 16 127,zq [16] 17 8] [(_,_),(_,_)] rfl ⟨z1 rfl,z4 rfl rfl,z8 hg22_2 rfl,zr' rfl (oM rfl),zr' rfl (op_len_fl _ _ _ underlying22 rfl (by decide) (map_len _)),zr' rfl (oB rfl rfl),z3 true rfl,z8 hg22_7 rfl,zr' rfl (op_callG _ _ 155 14 _ _ rfl call14 rfl rfl (fun _ h => h) (ok_wherrylaw07_wakes mx  _ hv69) rfl rfl),z3 true rfl,z2 rfl,zz⟩ ?_
        exact hl72 _ (zi h).symm
       ·refine zg hn (_::_::_::_::_::_::_::(118,vi v67.2)::(119,vb (v67.2 == 3))::(120,vb true)::(121,.fl .ro 1 (map (int .u8) v67.1))::(122,vi (v67.1.length : Int))::(123,vb ((v67.1.length : Int) == 0))::(124,vb ((v67.1.length : Int) == 0))::(125,vb false)::(126,.v undef)::(127,vb false)::(8,vb false)::[]) [0,1,2,3,4,5,6] [0,17] [zq [5] 7 118,zq [7] 8 119,zq [8] 9 120,zq [9,4] 10 121,zq [9,10] 11 122,zq [9,11] 12 123,zq [9,12] 13 124,zq [13] 14 125,zq [14] 15 126,zq [14] 16 127,zq [16] 17 8] [(_,_),(_,_)] rfl ⟨z1 rfl,z4 rfl rfl,z8 hg22_2 rfl,zr' rfl (oM rfl),zr' rfl (op_len_fl _ _ _ underlying22 rfl (by decide) (map_len _)),zr' rfl (oB rfl rfl),z3 true rfl,z8 hg22_7 rfl,zt rfl,z3 false rfl,z2 rfl,zz⟩ ?_
        exact hl72 _ (zi h).symm
      ·refine zg hn (_::_::_::_::_::_::_::(118,vi v67.2)::(119,vb (v67.2 == 3))::(120,vb false)::(121,.v undef)::(122,.v undef)::(123,.v undef)::(124,vb false)::(125,vb false)::(126,.v undef)::(127,vb false)::(8,vb false)::[]) [0,1,2,3,4,5,6] [0,17] [zq [5] 7 118,zq [7] 8 119,zq [8] 9 120,zq [9] 10 121,zq [9] 11 122,zq [9] 12 123,zq [9] 13 124,zq [13] 14 125,zq [14] 15 126,zq [14] 16 127,zq [16] 17 8] [(_,_),(_,_)] rfl ⟨z1 rfl,z4 rfl rfl,z8 hg22_2 rfl,zt rfl,zt rfl,zt rfl,z3 false rfl,z1 rfl,zt rfl,z3 false rfl,z2 rfl,zz⟩ ?_
       exact hl72 _ (zi h).symm
    ·have h := cond_f hb68 h
     refine ht_skip ?_
     refine pt_then (ht_seq ?_)
     obtain ⟨v74, hv74, h⟩ := zn h
     refine zg hn [_,_,_,_,_,_,_,(128,.fl (.own 5) 1 (map (int .u8) [v9,v10])),(129,.fl (.own 5) 1 (map (int .u8) v74)),(24,.fl (.own 5) 1 (map (int .u8) v74))] [0,1,2,3,4,5,6] [0,1,2,4,5,9] [⟨[],[3],[7],[(.slot 128)]⟩,zq [7] 8 129,⟨[],[8],[9],[(.slot 24)]⟩] [(_,_),(_,_),(_,_),(_,_),(_,_),(_,_)] rfl ⟨zp rfl (op_move_take _ _ _ _ rfl),zp rfl (op_call _ _ 16 _ _ rfl call16 rfl (ok_wherrykeep_Twin [v9, v10] _ hv74) rfl rfl),zp rfl (op_assign_take _ _ _ _ rfl),zz⟩ ?_
     refine pt_then (ht_seq ?_)
     refine zgg hn [_,_,_,_,_,_,(25,vi 0)] [0,1,2,3,4,5] [0,1,2,3,4,5,6] [zq [] 6 25] [(_,_),(_,_),(_,_),(_,_),(_,_),(_,_),(_,_)] rfl ⟨z2 rfl,zz⟩ ?_
     refine ht_loopS h (fun ((s84,s85) : (List Int) × Int) => [(155,.glob (GL mx)),(2,vi v4),(3,vi v8),(22,.fl .ro 1 (map (int .u8) v67.1)),(23,vi v67.2),(24,.fl (.own 5) 1 (map (int .u8) s84)),(25,vi s85)]) (fun (s87 : (List Int)) => [(155,.glob (GL mx)),(22,.fl .ro 1 (map (int .u8) v67.1)),(23,vi v67.2),(24,.fl (.own 5) 1 (map (int .u8) s87))]) ?_ ?_
     ·rintro s87 h
      refine pt_then (ht_seq ?_)
      refine ht_joinS h (fun (s97 : Bool) => [(155,.glob (GL mx)),(8,vb s97)]) ?_ ?_
      ·rintro s97 h
       refine pt_then (ht_ret ?_)
       refine pt_pick [1] (by kernel_rfl) (es' := [(_,_)]) rfl ?_
       obtain rfl := zi h
       exact pt_ret hio rfl (.tmp _ _ .nil) rfl rfl
      ·intro u98 h hl99 hr100
       refine cond_some h (fun hg28_2 h => ?_) (fun hg28_2 h => ?_)
       ·obtain ⟨v95, hv95, h⟩ := zn h
        refine cond_some h (fun hg28_7 h => ?_) (fun hg28_7 h => ?_)
        ·obtain ⟨v96, hv96, h⟩ := zn h
         refine zg hn (_::_::_::_::(145,vi v67.2)::(146,vb (v67.2 == 0))::(147,vb true)::(148,.fl .ro 1 (map (int .u8) v67.1))::(149,.fl (.own 5) 1 (map (int .u8) s87))::(150,vb v95)::(151,vb v95)::(152,vb true)::(153,vb v96)::(154,vb v96)::(8,vb v96)::[]) [0,1,2,3] [0,14] [zq [2] 4 145,zq [4] 5 146,zq [5] 6 147,zq [6,1] 7 148,⟨[6],[3],[8],[(.slot 149)]⟩,zq [6,7,8] 9 150,zq [6,9] 10 151,zq [10] 11 152,zq [11,0] 12 153,zq [11,12] 13 154,zq [13] 14 8] [(_,_),(_,_)] rfl ⟨z1 rfl,z4 rfl rfl,z8 hg28_2 rfl,zr' rfl (oM rfl),zr' rfl (op_move_take _ _ _ _ rfl),zr' rfl (op_call _ _ 13 _ _ rfl call13 rfl (ok_wherrykeep_Bytes v67.1 s87 _ hv95) rfl rfl),z3 true rfl,z8 hg28_7 rfl,zr' rfl (op_callG _ _ 155 14 _ _ rfl call14 rfl rfl (fun _ h => h) (ok_wherrylaw07_wakes mx  _ hv96) rfl rfl),z3 true rfl,z2 rfl,zz⟩ ?_
         exact hl99 _ (zi h).symm
        ·refine zg hn (_::_::_::_::(145,vi v67.2)::(146,vb (v67.2 == 0))::(147,vb true)::(148,.fl .ro 1 (map (int .u8) v67.1))::(149,.fl (.own 5) 1 (map (int .u8) s87))::(150,vb v95)::(151,vb v95)::(152,vb false)::(153,.v undef)::(154,vb false)::(8,vb false)::[]) [0,1,2,3] [0,14] [zq [2] 4 145,zq [4] 5 146,zq [5] 6 147,zq [6,1] 7 148,⟨[6],[3],[8],[(.slot 149)]⟩,zq [6,7,8] 9 150,zq [6,9] 10 151,zq [10] 11 152,zq [11] 12 153,zq [11] 13 154,zq [13] 14 8] [(_,_),(_,_)] rfl ⟨z1 rfl,z4 rfl rfl,z8 hg28_2 rfl,zr' rfl (oM rfl),zr' rfl (op_move_take _ _ _ _ rfl),zr' rfl (op_call _ _ 13 _ _ rfl call13 rfl (ok_wherrykeep_Bytes v67.1 s87 _ hv95) rfl rfl),z3 true rfl,z8 hg28_7 rfl,zt rfl,z3 false rfl,z2 rfl,zz⟩ ?_
         exact hl99 _ (zi h).symm
       ·refine zg hn (_::_::_::_::(145,vi v67.2)::(146,vb (v67.2 == 0))::(147,vb false)::(148,.v undef)::(149,.v undef)::(150,.v undef)::(151,vb false)::(152,vb false)::(153,.v undef)::(154,vb false)::(8,vb false)::[]) [0,1,2,3] [0,14] [zq [2] 4 145,zq [4] 5 146,zq [5] 6 147,zq [6] 7 148,zq [6] 8 149,zq [6] 9 150,zq [6] 10 151,zq [10] 11 152,zq [11] 12 153,zq [11] 13 154,zq [13] 14 8] [(_,_),(_,_)] rfl ⟨z1 rfl,z4 rfl rfl,z8 hg28_2 rfl,zt rfl,zt rfl,zt rfl,z3 false rfl,z1 rfl,zt rfl,z3 false rfl,z2 rfl,zz⟩ ?_
        exact hl99 _ (zi h).symm
     ·rintro u88 hl89 hr90 ⟨s84, s85⟩ rr93 h ho91
      refine ht_seq ?_
      refine zgg hn [_,_,_,_,_,_,_,(130,vi s85),(131,vi v8),(132,vb (decide (s85 < v8)))] [0,1,2,3,4,5,6] [0,1,2,3,4,5,6,9] [zq [6] 7 130,zq [2] 8 131,zq [7,8] 9 132] [(_,_),(_,_),(_,_),(_,_),(_,_),(_,_),(_,_),(_,_)] rfl ⟨z1 rfl,z1 rfl,z4 rfl rfl,zz⟩ ?_
      refine ht_cond _ rfl (fun hb94 => ?_) (fun hb94 => ?_)
      ·have h := cond_t hb94 h
       refine ht_skip ?_
       refine pt_then (ht_seq ?_)
       refine ht_block ?_
       obtain ⟨v76, hv76, h⟩ := zn h
       obtain ⟨v77, hv77, h⟩ := zn h
       obtain ⟨v78, hv78, h⟩ := zn h
       obtain ⟨v79, hv79, h⟩ := zn h
       refine zg hn (_::_::_::_::_::_::_::_::(135,.same (.slot 24))::(136,.same (.slot 24))::(137,.same (.slot 24))::(138,vi (s84.length : Int))::(139,vi v4)::(140,vi v76)::(141,.eref (.slot 24) (v77 * 1))::(142,.v (.int .u8 v78))::(143,.fl (.own 5) 1 (map (int .u8) [v78]))::(144,.fl (.own 5) 1 (map (int .u8) v79))::(24,.any)::(24,.fl (.own 5) 1 (map (int .u8) v79))::[]) [0,1,2,3,4,5,6,7] [0,1,2,3,4,6,19] [zq [5] 8 135,zq [5] 9 136,zq [5] 10 137,zq [10,5] 11 138,zq [1] 12 139,zq [11,12] 13 140,zq [9,5,13] 14 141,zq [14,5] 15 142,zq [15] 16 143,⟨[8,16],[5],[18,17],[(.slot 144)]⟩,⟨[],[18,8,9,10,14,17],[19],[(.slot 24)]⟩] [(_,_),(_,_),(_,_),(_,_),(_,_),(_,_),(_,_)] rfl ⟨z1 rfl,z1 rfl,z1 rfl,zp rfl (op_len_fl _ _ _ underlying22 rfl (by decide) (map_len _)),z1 rfl,zp rfl (oB rfl (ibind (f := int .i64) (Option.some.inj hv76))),zp rfl (op_ix _ _ _ _ _ _ _ _ underlying22 sz5 (by decide) rfl rfl rfl (ix_ok hv77).1 (map_lt (ix_ok hv77).2) rfl),zp rfl (op_load_e _ _ _ _ _ _ underlying5 rfl rfl rfl (map_get hv78)),zp rfl (op_buildSlice _ _ 1 (.int .u8 0) (map (int .u8) [v78]) [(0, .int .u8 v78)] underlying22 sz5 zr5 (fun _ V w o a hv hes => by have e0 := rd_v hv hes (x := .tmp 142) rfl; simp only [List.map_toArray, List.map_cons, List.map_nil, e0]; try rfl) (litfill (by simp [Instr.fill, Value.cells]; rfl) (by simp [List.range, List.range.loop] <;> rfl)) (by simp [Value.oneCell']) rfl (by decide) (by decide) (by decide)),zp rfl (op_app _ _ _ _ _ el22 rfl rfl (map_len _) (map_len _) hv79 ((List.map_append).symm.trans (congrArg (map _) (app_eq hv79)))),zp rfl (LOp.drop [_] (LOp.drop [_] (LOp.drop [_] (LOp.drop [_] (LOp.drop [_] (op_assign_take _ _ _ _ rfl)))))),zz⟩ ?_
       refine pt_inb ?_
       refine pt_then ?_
       obtain ⟨v80, hv80, h⟩ := zn h
       refine zg hn [_,_,_,_,_,_,_,(133,vi s85),(134,vi v80),(25,vi v80)] [0,1,2,3,4,5,6] [0,1,2,3,4,6,9] [zq [5] 7 133,zq [7] 8 134,⟨[8],[5],[9],[(.slot 25)]⟩] [(_,_),(_,_),(_,_),(_,_),(_,_),(_,_),(_,_)] rfl ⟨z1 rfl,zp rfl (oB rfl (ibind (f := int .i64) (Option.some.inj hv80))),zp rfl (LOp.drop [_] (op_assign _ _ _ _ rfl rfl)),zz⟩ ?_
       exact pt_next _ (zi h).symm rfl
      ·have h := cond_f hb94 h
       refine ht_exit ?_
       refine pt_x_then ?_
       refine pt_x_then ?_
       refine pt_x_in ?_
       refine pt_pick [0,3,4,5] (by kernel_rfl) (es' := [(_,_),(_,_),(_,_),(_,_)]) rfl ?_
       exact hl89 _ (ho91 _ (zi h).symm).symm
   ·rintro u59 hl60 hr61 ⟨s52, s53, s54⟩ rr64 h ho62
    refine ht_seq ?_
    refine zgg hn [_,_,_,_,_,_,_,(86,vi s54),(87,.same (.slot 10)),(88,vi (v38.length : Int)),(89,vb (decide (s54 < (v38.length : Int))))] [0,1,2,3,4,5,6] [0,1,2,3,4,5,6,10] [zq [6] 7 86,zq [5] 8 87,zq [8,5] 9 88,zq [7,9] 10 89] [(_,_),(_,_),(_,_),(_,_),(_,_),(_,_),(_,_),(_,_)] rfl ⟨z1 rfl,z1 rfl,zp rfl (op_len_fl _ _ _ underlying38 rfl (by decide) (flat_len T_pair.len _)),z4 rfl rfl,zz⟩ ?_
    refine ht_cond _ rfl (fun hb65 => ?_) (fun hb65 => ?_)
    ·have h := cond_t hb65 h
     refine ht_skip ?_
     refine pt_then (ht_seq ?_)
     refine ht_block ?_
     refine ht_seq ?_
     obtain ⟨v40, hv40, h⟩ := zn h
     obtain ⟨v41, hv41, h⟩ := zn h
     obtain ⟨v42, hv42, h⟩ := zn h
     obtain ⟨v43, hv43, h⟩ := zn h
     obtain ⟨v44, hv44, h⟩ := zn h
     refine ht_anyR (by kernel_rfl) hn (El := (_ :: _ :: _ :: _ :: _ :: _ :: _ :: _ :: (93,.agg [.same (.cell 9 0),vi s53]) :: (94,.same (.slot 10)) :: (95,vi s54) :: (96,.eref (.slot 10) (v40 * 2)) :: (97,.eref (.slot 10) (v40 * 2 + 0)) :: (98,vi v41.a0) :: (99,.same (.slot 10)) :: (100,vi s54) :: (101,.eref (.slot 10) (v42 * 2)) :: (102,.eref (.slot 10) (v42 * 2 + 1)) :: (103,vi v43.a1) :: (104,.tup [.agg [.fl (.own 5) 1 (map (int .u8) v44.1.B),vi v44.1.N],vi v44.2]) :: (92,.tup [.agg [.fl (.own 5) 1 (map (int .u8) v44.1.B),vi v44.1.N],.any]) :: (92,.tup [.any,vi v44.2]) :: (105,.agg [.fl (.own 5) 1 (map (int .u8) v44.1.B),vi v44.1.N]) :: (92,.tup [.any,.any]) :: (106,vi v44.2) :: (20,.box 36 [vz,vi 0]) :: (20,.box 36 [.fl (.own 5) 1 (map (int .u8) v44.1.B),vi v44.1.N]) :: (21,vi v44.2) :: [])) (init := [0,1,2,3,4,5,6,7]) (fin := [0,1,2,3,4,5,6,26,27]) (sps := (zq [3] 8 93 :: zq [5] 9 94 :: zq [6] 10 95 :: zq [9,5,10] 11 96 :: zq [11,5] 12 97 :: zq [12,5] 13 98 :: zq [5] 14 99 :: zq [6] 15 100 :: zq [14,5,15] 16 101 :: zq [16,5] 17 102 :: zq [17,5] 18 103 :: zq [8,3,13,18] 19 104 :: ⟨[],[19],[20,21],[(.slot 92)]⟩ :: ⟨[],[20],[23,22],[(.slot 105)]⟩ :: zq [21] 24 106 :: zq [] 25 20 :: ⟨[],[22,25],[26],[.cell 20 0,.cell 20 1]⟩ :: zq [24] 27 21 :: [])) (es' := [(_,_),(_,_),(_,_),(_,_),(_,_),(_,_),(_,_),(20,.box 36 [.fl (.own 5) 1 (map (int .u8) v44.1.B),vi v44.1.N]),(21,vi v44.2)]) (by kernel_rfl) rfl rfl ⟨zp rfl (op_loadA _ _ _ _ _ _ _ underlying36 rfl sz36 rfl rfl (zl rfl) rfl rfl),z1 rfl,z1 rfl,zp rfl (op_ix _ _ _ _ _ _ _ _ underlying38 sz37 (by decide) rfl rfl rfl (ix_ok hv40).1 (flat_lt T_pair.len (ix_ok hv40).2) rfl),zp rfl (op_ix_e _ _ _ _ 2 0 1 _ _ _ underlying37 sz3 rfl rfl (by decide) rfl rfl),zp rfl (op_load_e _ _ _ _ _ _ underlying3 rfl rfl rfl (flat_cell T_pair.len hv41 rfl)),z1 rfl,z1 rfl,zp rfl (op_ix _ _ _ _ _ _ _ _ underlying38 sz37 (by decide) rfl rfl rfl (ix_ok hv42).1 (flat_lt T_pair.len (ix_ok hv42).2) rfl),zp rfl (op_ix_e _ _ _ _ 2 1 1 _ _ _ underlying37 sz3 rfl rfl (by decide) rfl rfl),zp rfl (op_load_e _ _ _ _ _ _ underlying3 rfl rfl rfl (flat_cell T_pair.len hv43 rfl)),zp rfl (op_call _ _ 19 _ _ rfl call19 rfl (ok_bits_Put (T_Bits.mk s52 s53) v41.a0 v43.a1 _ hv44) rfl rfl),zp rfl (LOp.split (A := []) 92 0 _ _ _ (op_move_take _ _ _ _ rfl) (zl rfl) rfl rfl),zp rfl (op_extract_take _ _ _ _ _ rfl (zl rfl) rfl rfl (by decide) rfl),zp rfl (oE rfl),zp rfl (op_alloc _ _ zr36),zp rfl (op_store_take _ _ _ _ _ _ _ _ sz36 rfl rfl rfl (zl rfl) rfl rfl),z2 rfl,zz⟩ ?_
     refine pt_then (ht_seq ?_)
     refine zgg hn [_,_,_,_,_,_,_,_,_,(107,vi v44.2),(108,vb (v44.2 != 0))] [0,1,2,3,4,5,6,7,8] [0,1,2,3,4,5,6,7,10] [zq [8] 9 107,zq [9] 10 108] [(_,_),(_,_),(_,_),(_,_),(_,_),(_,_),(_,_),(_,_),(_,_)] rfl ⟨z1 rfl,z4 rfl rfl,zz⟩ ?_
     refine ht_cond _ rfl (fun hb66 => ?_) (fun hb66 => ?_)
     ·have h := cond_t hb66 h
      refine zgg hn [_,_,_,_,_,_,_,_,_,(8,vb false)] [0,1,2,3,4,5,6,7,8] [0,9] [zq [] 9 8] [(_,_),(_,_)] rfl ⟨z2 rfl,zz⟩ ?_
      refine ht_ret ?_
      refine pt_pick [1] (by kernel_rfl) (es' := [(_,_)]) rfl ?_
      refine pt_r_then ?_
      refine pt_r_in ?_
      refine pt_r_then ?_
      refine pt_r_then ?_
      refine pt_r_in ?_
      refine pt_r_then ?_
      have h := hr61 _ (ho62 _ (zi h).symm).symm
      obtain rfl := zi h
      exact pt_ret hio rfl (.tmp _ _ .nil) rfl rfl
     ·have h := cond_f hb66 h
      refine ht_skip ?_
      refine pt_then ?_
      refine zg hn [_,_,_,_,_,_,_,_,_,(109,.agg [.fl (.own 5) 1 (map (int .u8) v44.1.B),vi v44.1.N]),(9,.box 36 [.fl (.own 5) 1 (map (int .u8) v44.1.B),vi v44.1.N])] [0,1,2,3,4,5,6,7,8] [0,1,2,10,4,5,6] [⟨[],[7],[9],[(.slot 109)]⟩,⟨[],[9,3],[10],[.cell 9 0,.cell 9 1]⟩] [(_,_),(_,_),(_,_),(_,_),(_,_),(_,_),(_,_)] rfl ⟨zp rfl (op_loadA_take _ _ _ _ underlying36 rfl sz36 rfl rfl),zp rfl (op_store_take _ _ _ _ _ _ _ _ sz36 rfl rfl rfl (zl rfl) rfl rfl),zz⟩ ?_
      refine pt_inb ?_
      refine pt_then ?_
      obtain ⟨v46, hv46, h⟩ := zn h
      refine zg hn [_,_,_,_,_,_,_,(90,vi s54),(91,vi v46),(19,vi v46)] [0,1,2,3,4,5,6] [0,1,2,3,4,5,9] [zq [6] 7 90,zq [7] 8 91,⟨[8],[6],[9],[(.slot 19)]⟩] [(_,_),(_,_),(_,_),(_,_),(_,_),(_,_),(_,_)] rfl ⟨z1 rfl,zp rfl (oB rfl (ibind (f := int .i64) (Option.some.inj hv46))),zp rfl (LOp.drop [_] (op_assign _ _ _ _ rfl rfl)),zz⟩ ?_
      exact pt_next _ (zi h).symm rfl
    ·have h := cond_f hb65 h
     refine ht_exit ?_
     refine pt_x_then ?_
     refine pt_x_then ?_
     refine pt_x_in ?_
     refine pt_pick [0,1,2,3,4] (by kernel_rfl) (es' := [(_,_),(_,_),(_,_),(_,_),(_,_)]) rfl ?_
     exact hl60 _ (ho62 _ (zi h).symm).symm
  ·rintro u26 hl27 hr28 ⟨s22, s23⟩ rr31 h ho29
   refine ht_seq ?_
   refine zgg hn [_,_,_,_,_,_,_,(44,vi s23),(45,.same (.slot 11)),(46,vi ([v9,v10].length : Int)),(47,vb (decide (s23 < ([v9,v10].length : Int))))] [0,1,2,3,4,5,6] [0,1,2,3,4,5,6,10] [zq [6] 7 44,zq [5] 8 45,zq [8,5] 9 46,zq [7,9] 10 47] [(_,_),(_,_),(_,_),(_,_),(_,_),(_,_),(_,_),(_,_)] rfl ⟨z1 rfl,z1 rfl,zp rfl (op_len_fl _ _ _ underlying22 rfl (by decide) (map_len _)),z4 rfl rfl,zz⟩ ?_
   refine ht_cond _ rfl (fun hb32 => ?_) (fun hb32 => ?_)
   ·have h := cond_t hb32 h
    refine ht_skip ?_
    refine pt_then (ht_seq ?_)
    refine ht_block ?_
    refine ht_seq ?_
    obtain ⟨v12, hv12, h⟩ := zn h
    obtain ⟨v13, hv13, h⟩ := zn h
    obtain ⟨v14, hv14, h⟩ := zn h
    obtain ⟨v15, hv15, h⟩ := zn h
    obtain ⟨v16, hv16, h⟩ := zn h
    refine zg hn (_::_::_::_::_::_::_::_::(51,.same (.slot 11))::(52,vi s23)::(53,.eref (.slot 11) (v12 * 1))::(54,.v (.int .u8 v13))::(55,vi v14)::(56,vi v15)::(57,.tup [vi v16.1,vi v16.2])::(50,.tup [vi v16.1,vi v16.2])::(58,vi v16.1)::(59,vi v16.2)::(13,vi v16.1)::(14,vi v16.2)::[]) [0,1,2,3,4,5,6,7] [0,1,2,3,4,5,6,18] [zq [5] 8 51,zq [6] 9 52,zq [8,5,9] 10 53,zq [10,5] 11 54,zq [11] 12 55,zq [12] 13 56,zq [13] 14 57,⟨[],[14],[15],[(.slot 50)]⟩,zq [15] 16 58,zq [15] 17 59,zq [16] 18 13,zq [17] 19 14] [(_,_),(_,_),(_,_),(_,_),(_,_),(_,_),(_,_),(_,_)] rfl ⟨z1 rfl,z1 rfl,zp rfl (op_ix _ _ _ _ _ _ _ _ underlying22 sz5 (by decide) rfl rfl rfl (ix_ok hv12).1 (map_lt (ix_ok hv12).2) rfl),zp rfl (op_load_e _ _ _ _ _ _ underlying5 rfl rfl rfl (map_get hv13)),zp rfl ((Option.some.inj hv14) ▸ op_conv _ _ _ underlying5 underlying3 rfl),zp rfl (oB rfl (ibind (f := int .i64) (Option.some.inj hv15))),zp rfl (op_call _ _ 18 _ _ rfl call18 rfl (ok_bits_Turn v15 8 _ hv16) rfl rfl),zp rfl (op_move_take _ _ _ _ rfl),zp rfl (oE rfl),zp rfl (oE rfl),z2 rfl,z2 rfl,zz⟩ ?_
    refine pt_then ?_
    obtain ⟨v17, hv17, h⟩ := zn h
    refine zg hn (_::_::_::_::_::_::_::_::(60,.fl (.own 37) 2 (flatten (map T_pair.enc s22)))::(61,vi v16.1)::(62,.agg [vi v16.1,vi 8])::(63,.fl (.own 37) 2 (flatten (map T_pair.enc [(T_pair.mk v16.1 8)])))::(64,.fl (.own 37) 2 (flatten (map T_pair.enc v17)))::(60,.any)::(10,.fl (.own 37) 2 (flatten (map T_pair.enc v17)))::[]) [0,1,2,3,4,5,6,7] [0,1,2,3,5,6,14] [⟨[],[4],[8],[(.slot 60)]⟩,zq [7] 9 61,zq [9] 10 62,zq [10] 11 63,⟨[11],[8],[13,12],[(.slot 64)]⟩,⟨[],[12],[14],[(.slot 10)]⟩] [(_,_),(_,_),(_,_),(_,_),(_,_),(_,_),(_,_)] rfl ⟨zp rfl (op_move_take _ _ _ _ rfl),z1 rfl,zp rfl (op_build_arrA _ _ (.agg #[.int .i64 0, .int .i64 0]) (map (int .i64) ([v16.1, 8] : List Int)) [(0, .int .i64 v16.1), (1, .int .i64 8)] underlying37 sz3 zr37 (fun _ V w o a hv hes => by have e0 := rd_v hv hes (x := .tmp 61) rfl; simp only [List.map_toArray, List.map_cons, List.map_nil, e0]; try rfl) (litfill (by simp [Instr.fill, Value.cells]; rfl) (by simp)) rfl),zp rfl (op_buildSlice _ _ 2 (.agg #[.int .i64 0, .int .i64 0]) (flatten (map T_pair.enc [(T_pair.mk v16.1 8)])) [(0, .agg #[.int .i64 v16.1, .int .i64 8])] underlying38 sz37 zr37 (fun _ V w o a hv hes => by have e0 := agg_v (ys := [.int .i64 v16.1, .int .i64 8]) hv hes (x := .tmp 62) rfl; simp only [List.map_toArray, List.map_cons, List.map_nil, e0]; try rfl) (litfill (by simp [Instr.fill, Value.cells]; rfl) (by simp [List.range, List.range.loop, T_pair.enc] <;> rfl)) (by simp [Value.oneCell', T_pair.enc]) rfl (by decide) (by decide) (by decide)),zp rfl (op_app _ _ _ _ _ el38 rfl rfl (flat_len T_pair.len _) (flat_len T_pair.len _) hv17 (flat_app (app_eq hv17))),zp rfl (op_assign_take _ _ _ _ rfl),zz⟩ ?_
    refine pt_inb ?_
    refine pt_then ?_
    obtain ⟨v18, hv18, h⟩ := zn h
    refine zg hn [_,_,_,_,_,_,_,(48,vi s23),(49,vi v18),(12,vi v18)] [0,1,2,3,4,5,6] [0,1,2,3,4,6,9] [zq [5] 7 48,zq [7] 8 49,⟨[8],[5],[9],[(.slot 12)]⟩] [(_,_),(_,_),(_,_),(_,_),(_,_),(_,_),(_,_)] rfl ⟨z1 rfl,zp rfl (oB rfl (ibind (f := int .i64) (Option.some.inj hv18))),zp rfl (LOp.drop [_] (op_assign _ _ _ _ rfl rfl)),zz⟩ ?_
    refine pt_pick [0,1,2,3,5,4,6] (by kernel_rfl) (es' := [(_,_),(_,_),(_,_),(_,_),(_,_),(_,_),(_,_)]) rfl ?_
    exact pt_next _ (zi h).symm rfl
   ·have h := cond_f hb32 h
    refine ht_exit ?_
    refine pt_x_then ?_
    refine pt_x_then ?_
    refine pt_x_in ?_
    refine pt_pick [0,1,2,3,4,5] (by kernel_rfl) (es' := [(_,_),(_,_),(_,_),(_,_),(_,_),(_,_)]) rfl ?_
    exact hl27 _ (ho29 _ (zi h).symm).symm

end Go.Proofs.YthceldoojddpiaaDoor
