/-
  The model's runs are what is told in Lean.
-/
import Derived.Test.YtglabbpbianmnaaGreatDoorProg
import Derived.KernelRfl
import Derived.Test.YtglabbpbianmnaaGreatDoorShelf
import Derived.Test.YtglabbpbianmnaaGreatDoorIdx
import Derived.Test.YtglabbpbianmnaaGreatDoorOkc2
set_option linter.unusedVariables false
set_option linter.unusedSimpArgs false
set_option maxHeartbeats 1000000
namespace Go.Proofs.YtglabbpbianmnaaGreatDoor
open Go.Abs Go.Abs.Sh Tryz
open List (map flatten)
open Value (int)
theorem ok_wherrykeep_Bundle (a : T_Bundle) (b : T_Bundle) (r : Bool) (h : Sh.wherrykeep_Bundle a b = some r) : FnOK Tryz.prog 22 [.agg [.v (.int .i64 a.Origin), .v (.int .i64 a.Number), .fr .shr true 8 (flatten (map T_Mail.ienc a.Mails))], .agg [.v (.int .i64 b.Origin), .v (.int .i64 b.Number), .fr .shr true 8 (flatten (map T_Mail.ienc b.Mails))]] (.v (.bool r)) := by
  unfold Sh.wherrykeep_Bundle at h
  refine fn_ok func22 rfl (zl rfl) rfl rfl fun g0 hn hio => ?_
  refine zgg hn [_,_,(2,.box 24 [vi a.Origin,vi a.Number,.fr .shr true 8 (flatten (map T_Mail.ienc a.Mails))]),(3,.box 24 [vi b.Origin,vi b.Number,.fr .shr true 8 (flatten (map T_Mail.ienc b.Mails))]),(4,vb false)] [0,1] [2,3] [zq [0] 2 2,zq [1] 3 3,zq [] 4 4] [(_,_),(_,_)] rfl ⟨zp rfl (op_box _ _ _ _ rfl rfl rfl),zp rfl (op_box _ _ _ _ rfl rfl rfl),z2 rfl,zz⟩ ?_
  refine ht_seq ?_
  refine ht_seq ?_
  refine ht_joinS h (fun (s1 : Bool) => [(2, .box 24 [.v (.int .i64 a.Origin), .v (.int .i64 a.Number), .fr .shr true 8 (flatten (map T_Mail.ienc a.Mails))]), (3, .box 24 [.v (.int .i64 b.Origin), .v (.int .i64 b.Number), .fr .shr true 8 (flatten (map T_Mail.ienc b.Mails))]), (26, .v (.bool s1))]) ?_ ?_
  ·rintro s1 h
   refine pt_then ?_
   refine ht_cond _ rfl (fun hb5 => ?_) (fun hb5 => ?_)
   ·have h := cond_t hb5 h
    refine zgg hn [_,_,_,(4,vb false)] [0,1,2] [3] [zq [] 3 4] [(_,_)] rfl ⟨z2 rfl,zz⟩ ?_
    refine ht_ret ?_
    refine pt_r_then ?_
    obtain rfl := zi h
    exact pt_ret hio rfl (.tmp _ _ .nil) rfl rfl
   ·have h := cond_f hb5 h
    refine ht_skip ?_
    refine pt_then (ht_seq ?_)
    refine zgg hn [_,_,_,(5,vi 0)] [0,1,2] [0,1,3] [zq [] 3 5] [(_,_),(_,_),(_,_)] rfl ⟨z2 rfl,zz⟩ ?_
    refine ht_loopS h (fun (s17 : Int) => [(2, .box 24 [.v (.int .i64 a.Origin), .v (.int .i64 a.Number), .fr .shr true 8 (flatten (map T_Mail.ienc a.Mails))]), (3, .box 24 [.v (.int .i64 b.Origin), .v (.int .i64 b.Number), .fr .shr true 8 (flatten (map T_Mail.ienc b.Mails))]), (5, .v (.int .i64 s17))]) (fun (() : Unit) => []) ?_ ?_
    ·rintro ⟨⟩ h
     refine pt_then ?_
     refine zgg hn [(4,vb true)] [] [0] [zq [] 0 4] [(_,_)] rfl ⟨z2 rfl,zz⟩ ?_
     refine ht_ret ?_
     obtain rfl := zi h
     exact pt_ret hio rfl (.tmp _ _ .nil) rfl rfl
    ·rintro u20 hl21 hr22 s17 rr25 h ho23
     refine ht_seq ?_
     refine zgg hn [_,_,_,(27,vi s17),(28,.ptr 2 2),(29,.fr .shr true 8 (flatten (map T_Mail.ienc a.Mails))),(30,vi (a.Mails.length : Int)),(31,vb (decide (s17 < (a.Mails.length : Int))))] [0,1,2] [0,1,2,7] [zq [2] 3 27,zq [0] 4 28,zq [4,0] 5 29,zq [5] 6 30,zq [3,6] 7 31] [(_,_),(_,_),(_,_),(_,_)] rfl ⟨z1 rfl,zp rfl (oF underlying24 rfl sz22),zp rfl (oL underlying22 rfl),zp rfl (op_len_fr _ _ _ underlying22 rfl (by decide) (gflat_len T_Mail.ilen _)),z4 rfl rfl,zz⟩ ?_
     refine ht_cond _ rfl (fun hb26 => ?_) (fun hb26 => ?_)
     ·have h := cond_t hb26 h
      refine ht_skip ?_
      refine pt_then (ht_seq ?_)
      refine ht_block ?_
      refine ht_seq ?_
      obtain ⟨v7, hv7, h⟩ := zn h
      obtain ⟨v8, hv8, h⟩ := zn h
      obtain ⟨v9, hv9, h⟩ := zn h
      obtain ⟨v10, hv10, h⟩ := zn h
      obtain ⟨v11, hv11, h⟩ := zn h
      refine ht_anyR (by kernel_rfl) hn (El := (_ :: _ :: _ :: _ :: (34, .ptr 2 2) :: (35, .fr .shr true 8 (flatten (map T_Mail.ienc a.Mails))) :: (36, .v (.int .i64 s17)) :: (37, .eref (.slot 35) (v7 * 8)) :: (38, .agg [.v (.bool v8.From.Null), .v (.string v8.From.Local), .v (.string v8.From.Domain), .fl .shr 3 (flatten (map T_Path.enc v8.To)), .fl .shr 1 (map (int .u8) v8.Body), .v (.bool v8.Quiet), .v (.string v8.Helo), .v (.int .i64 v8.At)]) :: (39, .ptr 3 2) :: (40, .fr .shr true 8 (flatten (map T_Mail.ienc b.Mails))) :: (41, .v (.int .i64 s17)) :: (42, .eref (.slot 40) (v9 * 8)) :: (43, .agg [.v (.bool v10.From.Null), .v (.string v10.From.Local), .v (.string v10.From.Domain), .fl .shr 3 (flatten (map T_Path.enc v10.To)), .fl .shr 1 (map (int .u8) v10.Body), .v (.bool v10.Quiet), .v (.string v10.Helo), .v (.int .i64 v10.At)]) :: (44, .v (.bool v11)) :: (45, .v (.bool (!v11))) :: [])) (init := [0, 1, 2, 3]) (fin := [0, 1, 2, 15]) (sps := [zq [0] 4 34, zq [4,0] 5 35, zq [2] 6 36, zq [5,6] 7 37, zq [7,5] 8 38, zq [1] 9 39, zq [9,1] 10 40, zq [2] 11 41, zq [10,11] 12 42, zq [12,10] 13 43, zq [8,13] 14 44, zq [14] 15 45]) (es' := [(_,_),(_,_),(_,_),(45, .v (.bool (!v11)))]) (by kernel_rfl) rfl rfl ⟨zp rfl (oF underlying24 rfl sz22),zp rfl (oL underlying22 rfl),z1 rfl,zp rfl (op_ix_fr _ _ _ _ _ _ _ _ underlying22 sz46 (by decide) rfl rfl rfl (ix_ok hv7).1 (gflat_lt T_Mail.ilen (ix_ok hv7).2) rfl),zp rfl (op_loadA_fr _ _ _ _ _ _ _ _ underlying46 rfl sz46 rfl rfl (gflat_get T_Mail.ilen hv8) (.cons (.v _) (.cons (.v _) (.cons (.v _) (.cons (.fl _ _ rfl) (.cons (.fl _ _ rfl) (.cons (.v _) (.cons (.v _) (.cons (.v _) (.nil))))))))) rfl (by decide)),zp rfl (oF underlying24 rfl sz22),zp rfl (oL underlying22 rfl),z1 rfl,zp rfl (op_ix_fr _ _ _ _ _ _ _ _ underlying22 sz46 (by decide) rfl rfl rfl (ix_ok hv9).1 (gflat_lt T_Mail.ilen (ix_ok hv9).2) rfl),zp rfl (op_loadA_fr _ _ _ _ _ _ _ _ underlying46 rfl sz46 rfl rfl (gflat_get T_Mail.ilen hv10) (.cons (.v _) (.cons (.v _) (.cons (.v _) (.cons (.fl _ _ rfl) (.cons (.fl _ _ rfl) (.cons (.v _) (.cons (.v _) (.cons (.v _) (.nil))))))))) rfl (by decide)),zp rfl (op_call _ _ 23 _ _ rfl call23 rfl (ok_wherrykeep_Mail ((T_Mail.mk (T_Path.mk v8.From.Null v8.From.Local v8.From.Domain) v8.To v8.Body v8.Quiet v8.Helo v8.At)) ((T_Mail.mk (T_Path.mk v10.From.Null v10.From.Local v10.From.Domain) v10.To v10.Body v10.Quiet v10.Helo v10.At)) _ hv11) rfl rfl),zp rfl (op_un _ _ _ _ rfl rfl),zz⟩ ?_
      refine pt_then ?_
      refine ht_cond _ rfl (fun hb27 => ?_) (fun hb27 => ?_)
      ·have h := cond_t hb27 h
       refine zgg hn [_,_,_,_,(4,vb false)] [0,1,2,3] [4] [zq [] 4 4] [(_,_)] rfl ⟨z2 rfl,zz⟩ ?_
       refine ht_ret ?_
       refine pt_r_in ?_
       refine pt_r_then ?_
       refine pt_r_then ?_
       refine pt_r_in ?_
       refine pt_r_then ?_
       have h := hr22 _ (ho23 _ (zi h).symm).symm
       obtain rfl := zi h
       exact pt_ret hio rfl (.tmp _ _ .nil) rfl rfl
      ·have h := cond_f hb27 h
       refine ht_skip ?_
       refine pt_inb ?_
       refine pt_then ?_
       obtain ⟨v13, hv13, h⟩ := zn h
       refine zg hn [_,_,_,_,(32,vi s17),(33,vi v13),(5,vi v13)] [0,1,2,3] [0,1,6] [zq [2] 4 32,zq [4] 5 33,⟨[5],[2],[6],[(.slot 5)]⟩] [(_,_),(_,_),(_,_)] rfl ⟨z1 rfl,zp rfl (oB rfl (ibind (f := int .i64) (Option.some.inj hv13))),zp rfl (LOp.drop [_] (op_assign _ _ _ _ rfl rfl)),zz⟩ ?_
       exact pt_next _ (zi h).symm rfl
     ·have h := cond_f hb26 h
      refine ht_exit ?_
      refine pt_x_then ?_
      refine pt_x_then ?_
      refine pt_x_in ?_
      refine pt_pick [] (by kernel_rfl) (es' := []) rfl ?_
      exact hl21 _ (ho23 _ (zi h).symm).symm
  ·intro u2 h hl3 hr4
   refine cond_some h (fun hg1_5 h => ?_) (fun hg1_5 h => ?_)
   ·refine zg hn (_::_::(6,.ptr 2 0)::(7,vi a.Origin)::(8,.ptr 3 0)::(9,vi b.Origin)::(10,vb (a.Origin != b.Origin))::(11,vb true)::(12,.v undef)::(13,.v undef)::(14,.v undef)::(15,.v undef)::(16,.v undef)::(17,vb true)::(18,vb true)::(19,.v undef)::(20,.v undef)::(21,.v undef)::(22,.v undef)::(23,.v undef)::(24,.v undef)::(25,.v undef)::(26,vb true)::[]) [0,1] [0,1,22] (zq [0] 2 6::zq [2,0] 3 7::zq [1] 4 8::zq [4,1] 5 9::zq [3,5] 6 10::zq [6] 7 11::zq [7] 8 12::zq [7] 9 13::zq [7] 10 14::zq [7] 11 15::zq [7] 12 16::zq [7] 13 17::zq [13] 14 18::zq [14] 15 19::zq [14] 16 20::zq [14] 17 21::zq [14] 18 22::zq [14] 19 23::zq [14] 20 24::zq [14] 21 25::zq [14] 22 26::[]) [(_,_),(_,_),(_,_)] rfl ⟨zp rfl (oF underlying24 rfl sz3),zp rfl (oL underlying3 rfl),zp rfl (oF underlying24 rfl sz3),zp rfl (oL underlying3 rfl),z4 rfl rfl,z8 hg1_5 rfl,zf rfl,zf rfl,zf rfl,zf rfl,zf rfl,z3 true rfl,z1 rfl,zf rfl,zf rfl,zf rfl,zf rfl,zf rfl,zf rfl,zf rfl,z3 true rfl,zz⟩ ?_
    exact hl3 _ (zi h).symm
   ·refine cond_some h (fun hg1_12 h => ?_) (fun hg1_12 h => ?_)
    ·refine zg hn (_::_::(6,.ptr 2 0)::(7,vi a.Origin)::(8,.ptr 3 0)::(9,vi b.Origin)::(10,vb (a.Origin != b.Origin))::(11,vb false)::(12,.ptr 2 1)::(13,vi a.Number)::(14,.ptr 3 1)::(15,vi b.Number)::(16,vb (a.Number != b.Number))::(17,vb (a.Number != b.Number))::(18,vb true)::(19,.v undef)::(20,.v undef)::(21,.v undef)::(22,.v undef)::(23,.v undef)::(24,.v undef)::(25,.v undef)::(26,vb true)::[]) [0,1] [0,1,22] (zq [0] 2 6::zq [2,0] 3 7::zq [1] 4 8::zq [4,1] 5 9::zq [3,5] 6 10::zq [6] 7 11::zq [7,0] 8 12::zq [7,8,0] 9 13::zq [7,1] 10 14::zq [7,10,1] 11 15::zq [7,9,11] 12 16::zq [7,12] 13 17::zq [13] 14 18::zq [14] 15 19::zq [14] 16 20::zq [14] 17 21::zq [14] 18 22::zq [14] 19 23::zq [14] 20 24::zq [14] 21 25::zq [14] 22 26::[]) [(_,_),(_,_),(_,_)] rfl ⟨zp rfl (oF underlying24 rfl sz3),zp rfl (oL underlying3 rfl),zp rfl (oF underlying24 rfl sz3),zp rfl (oL underlying3 rfl),z4 rfl rfl,z8 hg1_5 rfl,zr' rfl (oF underlying24 rfl sz3),zr' rfl (oL underlying3 rfl),zr' rfl (oF underlying24 rfl sz3),zr' rfl (oL underlying3 rfl),zr' rfl (oB rfl rfl),z3 false rfl,z8 hg1_12 rfl,zf rfl,zf rfl,zf rfl,zf rfl,zf rfl,zf rfl,zf rfl,z3 true rfl,zz⟩ ?_
     exact hl3 _ (zi h).symm
    ·refine zg hn (_::_::(6,.ptr 2 0)::(7,vi a.Origin)::(8,.ptr 3 0)::(9,vi b.Origin)::(10,vb (a.Origin != b.Origin))::(11,vb false)::(12,.ptr 2 1)::(13,vi a.Number)::(14,.ptr 3 1)::(15,vi b.Number)::(16,vb (a.Number != b.Number))::(17,vb (a.Number != b.Number))::(18,vb false)::(19,.ptr 2 2)::(20,.fr .shr true 8 (flatten (map T_Mail.ienc a.Mails)))::(21,vi (a.Mails.length : Int))::(22,.ptr 3 2)::(23,.fr .shr true 8 (flatten (map T_Mail.ienc b.Mails)))::(24,vi (b.Mails.length : Int))::(25,vb ((a.Mails.length : Int) != (b.Mails.length : Int)))::(26,vb ((a.Mails.length : Int) != (b.Mails.length : Int)))::[]) [0,1] [0,1,22] (zq [0] 2 6::zq [2,0] 3 7::zq [1] 4 8::zq [4,1] 5 9::zq [3,5] 6 10::zq [6] 7 11::zq [7,0] 8 12::zq [7,8,0] 9 13::zq [7,1] 10 14::zq [7,10,1] 11 15::zq [7,9,11] 12 16::zq [7,12] 13 17::zq [13] 14 18::zq [14,0] 15 19::zq [14,15,0] 16 20::zq [14,16] 17 21::zq [14,1] 18 22::zq [14,18,1] 19 23::zq [14,19] 20 24::zq [14,17,20] 21 25::zq [14,21] 22 26::[]) [(_,_),(_,_),(_,_)] rfl ⟨zp rfl (oF underlying24 rfl sz3),zp rfl (oL underlying3 rfl),zp rfl (oF underlying24 rfl sz3),zp rfl (oL underlying3 rfl),z4 rfl rfl,z8 hg1_5 rfl,zr' rfl (oF underlying24 rfl sz3),zr' rfl (oL underlying3 rfl),zr' rfl (oF underlying24 rfl sz3),zr' rfl (oL underlying3 rfl),zr' rfl (oB rfl rfl),z3 false rfl,z8 hg1_12 rfl,zr' rfl (oF underlying24 rfl sz22),zr' rfl (oL underlying22 rfl),zr' rfl (op_len_fr _ _ _ underlying22 rfl (by decide) (gflat_len T_Mail.ilen _)),zr' rfl (oF underlying24 rfl sz22),zr' rfl (oL underlying22 rfl),zr' rfl (op_len_fr _ _ _ underlying22 rfl (by decide) (gflat_len T_Mail.ilen _)),zr' rfl (oB rfl rfl),z3 false rfl,zz⟩ ?_
     exact hl3 _ (zi h).symm
theorem ok_bundle_Read_sh (mx : Int) (t : (List Int)) (r : (T_Bundle × Int)) (h : Sh.bundle_Read_sh t = some r) : FnG Tryz.prog (GL mx) 15 [.fl .shr 1 (map (int .u8) t)] (.tup [.agg [.v (.int .i64 r.1.Origin), .v (.int .i64 r.1.Number), .fr .shr true 8 (flatten (map T_Mail.ienc r.1.Mails))], .v (.int .i64 r.2)]) := by
  unfold Sh.bundle_Read_sh at h
  refine fn_okG func15 rfl (zl rfl) rfl rfl fun g0 hn hio => ?_
  refine zgg hn [_,_,(2,.box 24 [vi 0,vi 0,.v (.slice none 0 0)]),(3,vi 0)] [0,1] [0,1,2] [zq [] 2 2,zq [] 3 3] [(_,_),(_,_),(_,_)] rfl ⟨zp rfl (op_alloc _ _ zr24),z2 rfl,zz⟩ ?_
  refine ht_seq ?_
  obtain ⟨v1, hv1, h⟩ := zn h
  refine zg hn [_,_,_,(13,.fl .shr 1 (map (int .u8) t)),(14,.fl (.own 5) 1 (map (int .u8) [13,10])),(15,.fl .ro 1 (map (int .u8) [13,10])),(16,.tup [.fl .shr 1 (map (int .u8) v1.1),.fl .shr 1 (map (int .u8) v1.2.1),vb v1.2.2]),(12,.tup [.fl .shr 1 (map (int .u8) v1.1),.fl .shr 1 (map (int .u8) v1.2.1),vb v1.2.2]),(17,.fl .shr 1 (map (int .u8) v1.1)),(18,.fl .shr 1 (map (int .u8) v1.2.1)),(19,vb v1.2.2),(4,.fl .shr 1 (map (int .u8) v1.1)),(5,.fl .shr 1 (map (int .u8) v1.2.1)),(6,vb v1.2.2)] [0,1,2] [0,1,2,11,12,13] [zq [0] 3 13,zq [] 4 14,⟨[],[4],[5],[(.slot 15)]⟩,zq [3,5,1] 6 16,⟨[],[6],[7],[(.slot 12)]⟩,zq [7] 8 17,zq [7] 9 18,zq [7] 10 19,zq [8] 11 4,zq [9] 12 5,zq [10] 13 6] [(_,_),(_,_),(_,_),(_,_),(_,_),(_,_)] rfl ⟨z1 rfl,zp rfl (op_buildSlice _ _ 1 (.int .u8 0) (map (int .u8) [13, 10]) [(0, .int .u8 13), (1, .int .u8 10)] underlying25 sz5 zr5 (fun _ V w o a hv hes => by simp only [List.map_toArray, List.map_cons, List.map_nil]; try rfl) (litfill (by simp [Instr.fill, Value.cells]; rfl) (by simp [List.range, List.range.loop] <;> rfl)) (by simp [Value.oneCell']) rfl (by decide) (by decide) (by decide)),zp rfl (op_conv_mark _ _ _ underlying25 underlying5 (by intro h; cases h)),zp rfl (op_callSG _ _ 68 34 _ _ rfl call34 rfl rfl rfl (fun _ h => h) (ok_bytes_Cut_sh mx t [13, 10] _ hv1) rfl),zp rfl (op_move_take _ _ _ _ rfl),zp rfl (oE rfl),zp rfl (oE rfl),zp rfl (oE rfl),z2 rfl,z2 rfl,z2 rfl,zz⟩ ?_
  refine pt_then (ht_seq ?_)
  obtain ⟨v2, hv2, h⟩ := zn h
  obtain ⟨v3, hv3, h⟩ := zn h
  refine zg hn (_::_::_::_::_::_::(21,.fl .shr 1 (map (int .u8) v1.1))::(22,vs v2)::(23,.tup [.agg [vi v3.1.origin,vi v3.1.number,vi v3.1.size,vi v3.1.sum],vb v3.2])::(20,.tup [.agg [vi v3.1.origin,vi v3.1.number,vi v3.1.size,vi v3.1.sum],vb v3.2])::(24,.agg [vi v3.1.origin,vi v3.1.number,vi v3.1.size,vi v3.1.sum])::(25,vb v3.2)::(7,.box 66 [vi 0,vi 0,vi 0,vi 0])::(7,.box 66 [vi v3.1.origin,vi v3.1.number,vi v3.1.size,vi v3.1.sum])::(8,vb v3.2)::[]) [0,1,2,3,4,5] [0,1,2,4,5,13,14] [zq [3] 6 21,zq [6] 7 22,zq [7] 8 23,⟨[],[8],[9],[(.slot 20)]⟩,zq [9] 10 24,zq [9] 11 25,zq [] 12 7,⟨[10],[12],[13],[.cell 7 0,.cell 7 1,.cell 7 2,.cell 7 3]⟩,zq [11] 14 8] [(_,_),(_,_),(_,_),(_,_),(_,_),(_,_),(_,_)] rfl ⟨z1 rfl,zp rfl ((Option.some.inj hv2) ▸ op_bytes_str _ _ _ v1.1 underlying25 underlying9 underlying5 rfl),zp rfl (op_call _ _ 35 _ _ rfl call35 rfl (ok_bundle_parseHeader v2 _ hv3) rfl rfl),zp rfl (op_move_take _ _ _ _ rfl),zp rfl (op_extract_no _ _ _ _ _ _ rfl rfl (zl rfl) rfl rfl),zp rfl (oE rfl),zp rfl (op_alloc _ _ zr66),zp rfl (oS sz66 rfl),z2 rfl,zz⟩ ?_
  refine pt_then (ht_seq ?_)
  refine ht_seq ?_
  refine ht_joinS h (fun (s4 : Bool) => [(0, .fl .shr 1 (map (int .u8) t)), (68, .glob (GL mx)), (2, .box 24 [.v (.int .i64 0), .v (.int .i64 0), .v (.slice none 0 0)]), (5, .fl .shr 1 (map (int .u8) v1.2.1)), (7, .box 66 [.v (.int .i64 v3.1.origin), .v (.int .i64 v3.1.number), .v (.int .i64 v3.1.size), .v (.int .i64 v3.1.sum)]), (38, .v (.bool s4))]) ?_ ?_
  ·rintro s4 h
   refine pt_then ?_
   refine ht_cond _ rfl (fun hb8 => ?_) (fun hb8 => ?_)
   ·have h := cond_t hb8 h
    refine zgg hn [_,_,_,_,_,_,(39,.agg [vi 0,vi 0,.v (.slice none 0 0)]),(2,.box 24 [vi 0,vi 0,.v (.slice none 0 0)]),(3,vi 5)] [0,1,2,3,4,5] [1,7,8] [zq [] 6 39,⟨[],[6,2],[7],[.cell 2 0,.cell 2 1,.cell 2 2]⟩,zq [] 8 3] [(_,_),(_,_),(_,_)] rfl ⟨zp rfl (op_build _ _ _ _ [1, 1, 1] _ _ underlying24 zr24 (fs24 _ underlying24) Src.nil rfl rfl rfl),zp rfl (op_store_self _ _ _ 39 2 3 sz24 rfl rfl rfl rfl rfl (.eq _ (.eq _ (.eq _ (.nil _)))) rfl),z2 rfl,zz⟩ ?_
    refine ht_ret ?_
    refine pt_pick [1, 2] (by kernel_rfl) (es' := [(_,_),(_,_)]) rfl ?_
    refine pt_sub (fs := [(2, .box 24 [.v (.int .i64 0), .v (.int .i64 0), .fr .shr true 8 (flatten (map T_Mail.ienc []))]), (3, .v (.int .i64 5))]) (.box _ _ (subs_cons (sub_refl _) (subs_cons (sub_refl _) (subs_cons (sub_nil_frs true 8) (subs_nil)))) rfl (.same _ .nil)) ?_
    refine pt_r_then ?_
    obtain rfl := zi h
    exact pt_ret hio rfl (.cellA _ _ _ _ underlying24 rfl sz24 (.tmp _ _ .nil)) rfl rfl
   ·have h := cond_f hb8 h
    refine ht_skip ?_
    refine pt_then (ht_seq ?_)
    refine ht_seq ?_
    obtain ⟨v9, hv9, h⟩ := zn h
    refine ht_anyR (by kernel_rfl) hn (El := [_, _, _, _, _, _, (40, .fl .shr 1 (map (int .u8) v1.2.1)), (41, .v (.int .i64 v9)), (42, .ptr 7 3), (43, .v (.int .i64 v3.1.sum)), (44, .v (.bool (v9 != v3.1.sum)))]) (init := [0, 1, 2, 3, 4, 5]) (fin := [0, 1, 2, 3, 4, 10]) (sps := [zq [3] 6 40, zq [6] 7 41, zq [4] 8 42, zq [8,4] 9 43, zq [7,9] 10 44]) (es' := [(_,_),(_,_),(_,_),(_,_),(_,_),(44, .v (.bool (v9 != v3.1.sum)))]) (by kernel_rfl) rfl rfl ⟨z1 rfl,zp rfl (op_call _ _ 31 _ _ rfl call31 rfl (ok_sums_Long v1.2.1 _ hv9) rfl rfl),zp rfl (oF underlying66 rfl sz3),zp rfl (oL underlying3 rfl),z4 rfl rfl,zz⟩ ?_
    refine pt_then ?_
    refine ht_cond _ rfl (fun hb10 => ?_) (fun hb10 => ?_)
    ·have h := cond_t hb10 h
     refine zgg hn [_,_,_,_,_,_,(45,.agg [vi 0,vi 0,.v (.slice none 0 0)]),(2,.box 24 [vi 0,vi 0,.v (.slice none 0 0)]),(3,vi 6)] [0,1,2,3,4,5] [1,7,8] [zq [] 6 45,⟨[],[6,2],[7],[.cell 2 0,.cell 2 1,.cell 2 2]⟩,zq [] 8 3] [(_,_),(_,_),(_,_)] rfl ⟨zp rfl (op_build _ _ _ _ [1, 1, 1] _ _ underlying24 zr24 (fs24 _ underlying24) Src.nil rfl rfl rfl),zp rfl (op_store_self _ _ _ 45 2 3 sz24 rfl rfl rfl rfl rfl (.eq _ (.eq _ (.eq _ (.nil _)))) rfl),z2 rfl,zz⟩ ?_
     refine ht_ret ?_
     refine pt_pick [1, 2] (by kernel_rfl) (es' := [(_,_),(_,_)]) rfl ?_
     refine pt_sub (fs := [(2, .box 24 [.v (.int .i64 0), .v (.int .i64 0), .fr .shr true 8 (flatten (map T_Mail.ienc []))]), (3, .v (.int .i64 6))]) (.box _ _ (subs_cons (sub_refl _) (subs_cons (sub_refl _) (subs_cons (sub_nil_frs true 8) (subs_nil)))) rfl (.same _ .nil)) ?_
     refine pt_r_then ?_
     obtain rfl := zi h
     exact pt_ret hio rfl (.cellA _ _ _ _ underlying24 rfl sz24 (.tmp _ _ .nil)) rfl rfl
    ·have h := cond_f hb10 h
     refine ht_skip ?_
     refine pt_then (ht_seq ?_)
     obtain ⟨v11, hv11, h⟩ := zn h
     refine ht_anyR (by kernel_rfl) hn (El := (_ :: _ :: _ :: _ :: _ :: _ :: (46, .ptr 7 0) :: (47, .v (.int .i64 v3.1.origin)) :: (48, .ptr 7 1) :: (49, .v (.int .i64 v3.1.number)) :: (50, .fl .shr 1 (map (int .u8) v1.2.1)) :: (51, .fr .shr true 8 (flatten (map T_Mail.ienc v11))) :: (52, .agg [.v (.int .i64 v3.1.origin), .v (.int .i64 v3.1.number), .fr .shr true 8 (flatten (map T_Mail.ienc v11))]) :: (9, .box 24 [.v (.int .i64 0), .v (.int .i64 0), .v (.slice none 0 0)]) :: (9, .box 24 [.v (.int .i64 v3.1.origin), .v (.int .i64 v3.1.number), .fr .shr true 8 (flatten (map T_Mail.ienc v11))]) :: [])) (init := [0, 1, 2, 3, 4, 5]) (fin := [0, 1, 2, 14]) (sps := [zq [4] 6 46, zq [6,4] 7 47, zq [4] 8 48, zq [8,4] 9 49, zq [3] 10 50, zq [10,1] 11 51, zq [7,9,11] 12 52, zq [] 13 9, ⟨[12], [13], [14], [.cell 9 0, .cell 9 1, .cell 9 2]⟩]) (es' := [(_,_),(_,_),(_,_),(9, .box 24 [.v (.int .i64 v3.1.origin), .v (.int .i64 v3.1.number), .fr .shr true 8 (flatten (map T_Mail.ienc v11))])]) (by kernel_rfl) rfl rfl ⟨zp rfl (oF underlying66 rfl sz3),zp rfl (oL underlying3 rfl),zp rfl (oF underlying66 rfl sz3),zp rfl (oL underlying3 rfl),z1 rfl,zp rfl (op_callSG _ _ 68 36 _ _ rfl call36 rfl rfl rfl (fun _ h => h) (ok_bundle_parseMails_sh mx v1.2.1 _ hv11) rfl),zp rfl (op_build _ _ _ _ [1, 1, 1] _ _ underlying24 zr24 (fs24 _ underlying24) (.copy _ (.copy _ (.copy _ Src.nil))) rfl rfl rfl),zp rfl (op_alloc _ _ zr24),zp rfl (oS sz24 rfl),zz⟩ ?_
     refine pt_then (ht_seq ?_)
     obtain ⟨v12, hv12, h⟩ := zn h
     refine zg hn [_,_,_,_,(54,.agg [vi v3.1.origin,vi v3.1.number,.fr .shr true 8 (flatten (map T_Mail.ienc v11))]),(55,.tup [.mkr 5 (map (int .u8) v12.1),vi v12.2]),(53,.tup [.mkr 5 (map (int .u8) v12.1),vi v12.2]),(56,.mkr 5 (map (int .u8) v12.1)),(53,.tup [.any,vi v12.2]),(57,vi v12.2),(10,.mkr 5 (map (int .u8) v12.1)),(11,vi v12.2)] [0,1,2,3] [0,1,2,3,10,11] [zq [3] 4 54,zq [4,1] 5 55,⟨[],[5],[6],[(.slot 53)]⟩,⟨[],[6],[8,7],[(.slot 56)]⟩,zq [8] 9 57,⟨[],[7],[10],[(.slot 10)]⟩,zq [9] 11 11] [(_,_),(_,_),(_,_),(_,_),(_,_),(_,_)] rfl ⟨zp rfl (op_loadA _ _ _ _ _ _ _ underlying24 rfl sz24 rfl rfl (zl rfl) rfl rfl),zp rfl (op_callG _ _ 68 13 _ _ rfl call13 rfl rfl (fun _ h => h) (ok_bundle_Bytes mx (T_Bundle.mk v3.1.origin v3.1.number v11) _ hv12) rfl rfl),zp rfl (op_move_take _ _ _ _ rfl),zp rfl (op_extract_take _ _ _ _ _ rfl (zl rfl) rfl rfl (by decide) rfl),zp rfl (oE rfl),zp rfl (op_assign_take _ _ _ _ rfl),z2 rfl,zz⟩ ?_
     refine pt_then (ht_seq ?_)
     refine ht_seq ?_
     refine ht_joinS h (fun (s14 : Bool) => [(68, .glob (GL mx)), (2, .box 24 [.v (.int .i64 0), .v (.int .i64 0), .v (.slice none 0 0)]), (9, .box 24 [.v (.int .i64 v3.1.origin), .v (.int .i64 v3.1.number), .fr .shr true 8 (flatten (map T_Mail.ienc v11))]), (65, .v (.bool s14))]) ?_ ?_
     ·rintro s14 h
      refine pt_then ?_
      refine ht_cond _ rfl (fun hb18 => ?_) (fun hb18 => ?_)
      ·have h := cond_t hb18 h
       refine zgg hn [_,_,_,_,(66,.agg [vi 0,vi 0,.v (.slice none 0 0)]),(2,.box 24 [vi 0,vi 0,.v (.slice none 0 0)]),(3,vi 5)] [0,1,2,3] [0,5,6] [zq [] 4 66,⟨[],[4,1],[5],[.cell 2 0,.cell 2 1,.cell 2 2]⟩,zq [] 6 3] [(_,_),(_,_),(_,_)] rfl ⟨zp rfl (op_build _ _ _ _ [1, 1, 1] _ _ underlying24 zr24 (fs24 _ underlying24) Src.nil rfl rfl rfl),zp rfl (op_store_self _ _ _ 66 2 3 sz24 rfl rfl rfl rfl rfl (.eq _ (.eq _ (.eq _ (.nil _)))) rfl),z2 rfl,zz⟩ ?_
       refine ht_ret ?_
       refine pt_pick [1, 2] (by kernel_rfl) (es' := [(_,_),(_,_)]) rfl ?_
       refine pt_sub (fs := [(2, .box 24 [.v (.int .i64 0), .v (.int .i64 0), .fr .shr true 8 (flatten (map T_Mail.ienc []))]), (3, .v (.int .i64 5))]) (.box _ _ (subs_cons (sub_refl _) (subs_cons (sub_refl _) (subs_cons (sub_nil_frs true 8) (subs_nil)))) rfl (.same _ .nil)) ?_
       refine pt_r_then ?_
       obtain rfl := zi h
       exact pt_ret hio rfl (.cellA _ _ _ _ underlying24 rfl sz24 (.tmp _ _ .nil)) rfl rfl
      ·have h := cond_f hb18 h
       refine ht_skip ?_
       refine pt_then ?_
       refine zgg hn [_,_,_,_,(67,.agg [vi v3.1.origin,vi v3.1.number,.fr .shr true 8 (flatten (map T_Mail.ienc v11))]),(2,.box 24 [vi v3.1.origin,vi v3.1.number,.fr .shr true 8 (flatten (map T_Mail.ienc v11))]),(3,vi 0)] [0,1,2,3] [0,5,6] [zq [2] 4 67,⟨[4],[1],[5],[.cell 2 0,.cell 2 1,.cell 2 2]⟩,zq [] 6 3] [(_,_),(_,_),(_,_)] rfl ⟨zp rfl (op_loadA _ _ _ _ _ _ _ underlying24 rfl sz24 rfl rfl (zl rfl) rfl rfl),zp rfl (oS sz24 rfl),z2 rfl,zz⟩ ?_
       refine ht_ret ?_
       refine pt_pick [1, 2] (by kernel_rfl) (es' := [(_,_),(_,_)]) rfl ?_
       obtain rfl := zi h
       exact pt_ret hio rfl (.cellA _ _ _ _ underlying24 rfl sz24 (.tmp _ _ .nil)) rfl rfl
     ·intro u15 h hl16 hr17
      refine cond_some h (fun hg9_2 h => ?_) (fun hg9_2 h => ?_)
      ·refine zg hn [_,_,_,_,_,_,(58,vi v12.2),(59,vb (v12.2 != 0)),(60,vb true),(61,.v undef),(62,.v undef),(63,.v undef),(64,.v undef),(65,vb true)] [0,1,2,3,4,5] [1,2,3,13] [zq [5] 6 58,zq [6] 7 59,zq [7] 8 60,zq [8] 9 61,zq [8] 10 62,zq [8] 11 63,zq [8] 12 64,zq [8] 13 65] [(_,_),(_,_),(_,_),(_,_)] rfl ⟨z1 rfl,z4 rfl rfl,z8 hg9_2 rfl,zf rfl,zf rfl,zf rfl,zf rfl,z3 true rfl,zz⟩ ?_
       exact hl16 _ (zi h).symm
      ·obtain ⟨v13, hv13, h⟩ := zn h
       refine zg hn [_,_,_,_,_,_,(58,vi v12.2),(59,vb (v12.2 != 0)),(60,vb false),(61,.mkr 5 (map (int .u8) v12.1)),(62,.fl .shr 1 (map (int .u8) t)),(63,vb v13),(64,vb (!v13)),(65,vb (!v13))] [0,1,2,3,4,5] [1,2,3,13] [zq [5] 6 58,zq [6] 7 59,zq [7] 8 60,⟨[8],[4],[9],[(.slot 61)]⟩,zq [8,0] 10 62,zq [8,9,10] 11 63,zq [8,11] 12 64,zq [8,12] 13 65] [(_,_),(_,_),(_,_),(_,_)] rfl ⟨z1 rfl,z4 rfl rfl,z8 hg9_2 rfl,zr' rfl (op_move_take _ _ _ _ rfl),zr' rfl (oM rfl),zr' rfl (op_call _ _ 37 _ _ rfl call37 rfl (ok_bytes_Equal v12.1 t _ hv13) rfl rfl),zr' rfl (op_un _ _ _ _ rfl rfl),z3 false rfl,zz⟩ ?_
       exact hl16 _ (zi h).symm
  ·intro u5 h hl6 hr7
   refine cond_some h (fun hg3_2 h => ?_) (fun hg3_2 h => ?_)
   ·refine zg hn (_::_::_::_::_::_::_::(26,vb v1.2.2)::(27,vb (!v1.2.2))::(28,vb true)::(29,.v undef)::(30,.v undef)::(31,vb true)::(32,vb true)::(33,.v undef)::(34,.v undef)::(35,.v undef)::(36,.v undef)::(37,.v undef)::(38,vb true)::[]) [0,1,2,3,4,5,6] [0,1,2,3,5,19] [zq [4] 7 26,zq [7] 8 27,zq [8] 9 28,zq [9] 10 29,zq [9] 11 30,zq [9] 12 31,zq [12] 13 32,zq [13] 14 33,zq [13] 15 34,zq [13] 16 35,zq [13] 17 36,zq [13] 18 37,zq [13] 19 38] [(_,_),(_,_),(_,_),(_,_),(_,_),(_,_)] rfl ⟨z1 rfl,zp rfl (op_un _ _ _ _ rfl rfl),z8 hg3_2 rfl,zf rfl,zf rfl,z3 true rfl,z1 rfl,zf rfl,zf rfl,zf rfl,zf rfl,zf rfl,z3 true rfl,zz⟩ ?_
    exact hl6 _ (zi h).symm
   ·refine cond_some h (fun hg3_6 h => ?_) (fun hg3_6 h => ?_)
    ·refine zg hn (_::_::_::_::_::_::_::(26,vb v1.2.2)::(27,vb (!v1.2.2))::(28,vb false)::(29,vb v3.2)::(30,vb (!v3.2))::(31,vb (!v3.2))::(32,vb true)::(33,.v undef)::(34,.v undef)::(35,.v undef)::(36,.v undef)::(37,.v undef)::(38,vb true)::[]) [0,1,2,3,4,5,6] [0,1,2,3,5,19] [zq [4] 7 26,zq [7] 8 27,zq [8] 9 28,zq [9,6] 10 29,zq [9,10] 11 30,zq [9,11] 12 31,zq [12] 13 32,zq [13] 14 33,zq [13] 15 34,zq [13] 16 35,zq [13] 17 36,zq [13] 18 37,zq [13] 19 38] [(_,_),(_,_),(_,_),(_,_),(_,_),(_,_)] rfl ⟨z1 rfl,zp rfl (op_un _ _ _ _ rfl rfl),z8 hg3_2 rfl,zr' rfl (oM rfl),zr' rfl (op_un _ _ _ _ rfl rfl),z3 false rfl,z8 hg3_6 rfl,zf rfl,zf rfl,zf rfl,zf rfl,zf rfl,z3 true rfl,zz⟩ ?_
     exact hl6 _ (zi h).symm
    ·refine zg hn (_::_::_::_::_::_::_::(26,vb v1.2.2)::(27,vb (!v1.2.2))::(28,vb false)::(29,vb v3.2)::(30,vb (!v3.2))::(31,vb (!v3.2))::(32,vb false)::(33,.fl .shr 1 (map (int .u8) v1.2.1))::(34,vi (v1.2.1.length : Int))::(35,.ptr 7 2)::(36,vi v3.1.size)::(37,vb ((v1.2.1.length : Int) != v3.1.size))::(38,vb ((v1.2.1.length : Int) != v3.1.size))::[]) [0,1,2,3,4,5,6] [0,1,2,3,5,19] [zq [4] 7 26,zq [7] 8 27,zq [8] 9 28,zq [9,6] 10 29,zq [9,10] 11 30,zq [9,11] 12 31,zq [12] 13 32,zq [13,3] 14 33,zq [13,14] 15 34,zq [13,5] 16 35,zq [13,16,5] 17 36,zq [13,15,17] 18 37,zq [13,18] 19 38] [(_,_),(_,_),(_,_),(_,_),(_,_),(_,_)] rfl ⟨z1 rfl,zp rfl (op_un _ _ _ _ rfl rfl),z8 hg3_2 rfl,zr' rfl (oM rfl),zr' rfl (op_un _ _ _ _ rfl rfl),z3 false rfl,z8 hg3_6 rfl,zr' rfl (oM rfl),zr' rfl (op_len_fl _ _ _ underlying25 rfl (by decide) (map_len _)),zr' rfl (oF underlying66 rfl sz3),zr' rfl (oL underlying3 rfl),zr' rfl (oB rfl rfl),z3 false rfl,zz⟩ ?_
     exact hl6 _ (zi h).symm
theorem ok_bundle_Pack (mx : Int) (l : (List T_Mail)) (origin : Int) (number : Int) (r : (Int × Int)) (h : Sh.bundle_Pack l origin number = some r) : FnG Tryz.prog (GL mx) 17 [.fr .shr true 8 (flatten (map T_Mail.ienc l)), .v (.int .i64 origin), .v (.int .i64 number)] (.tup [.v (.int .i64 r.1), .v (.int .i64 r.2)]) := by
  unfold Sh.bundle_Pack at h
  refine fn_okG func17 rfl (zl rfl) rfl rfl fun g0 hn hio => ?_
  refine zgg hn [_,_,_,_,(6,vi 0),(7,vi 0)] [0,1,2,3] [0,1,2,3] [zq [] 4 6,zq [] 5 7] [(_,_),(_,_),(_,_),(_,_)] rfl ⟨z2 rfl,z2 rfl,zz⟩ ?_
  refine zgg hn [_,_,_,_,(8,.v (.slice none 0 0))] [0,1,2,3] [0,1,2,3,4] [zq [] 4 8] [(_,_),(_,_),(_,_),(_,_),(_,_)] rfl ⟨z2 rfl,zz⟩ ?_
  refine ht_seq ?_
  refine ht_seq ?_
  obtain ⟨v1, hv1, h⟩ := zn h
  obtain ⟨v2, hv2, h⟩ := zn h
  refine zg hn [_,_,_,_,_,(14,.fr .shr true 8 (flatten (map T_Mail.ienc l))),(15,.fr .shr true 8 (flatten (map T_Mail.ienc l))),(16,vi (l.length : Int)),(17,vi v1),(18,.fr .shr true 8 (flatten (map T_Mail.ienc v2))),(19,vi (v2.length : Int)),(20,vi 0)] [0,1,2,3,4] [1,2,3,4,9,10,11] [zq [0] 5 14,zq [0] 6 15,zq [6] 7 16,zq [7] 8 17,zq [5,8] 9 18,zq [9] 10 19,zq [] 11 20] [(_,_),(_,_),(_,_),(_,_),(_,_),(_,_),(_,_)] rfl ⟨z1 rfl,z1 rfl,zp rfl (op_len_fr _ _ _ underlying22 rfl (by decide) (gflat_len T_Mail.ilen _)),zp rfl ((Option.some.inj hv1) ▸ op_min _ _ _ _ rfl rfl),zp rfl (op_slice_fr _ _ (Int.toNat 0) (Int.toNat v1) _ underlying22 sz46 (by decide) rfl rfl rfl ⟨_, congrArg (fun j => AV.v (int .i64 j)) (sli_bd hv2).2.1⟩ (sli_bd hv2).2.2.1 (by rw [gflat_len T_Mail.ilen]; exact Nat.mul_le_mul_right _ (sli_bd hv2).2.2.2) (gflat_sli T_Mail.ilen hv2)),zp rfl (op_len_fr _ _ _ underlying22 rfl (by decide) (gflat_len T_Mail.ilen _)),z1 rfl,zz⟩ ?_
  refine pt_then ?_
  refine ht_sub (fs := [(1, .v (.int .i64 origin)), (2, .v (.int .i64 number)), (51, .glob (GL mx)), (8, .fr (.own 46) true 8 (flatten (map T_Mail.ienc []))), (18, .fr .shr true 8 (flatten (map T_Mail.ienc v2))), (19, .v (.int .i64 (v2.length : Int))), (20, .v (.int .i64 0))]) (.same _ (.same _ (.same _ (.sub _ (sub_nil_fr 46 true 8) rfl (.same _ (.same _ (.same _ .nil))))))) ?_
  refine ht_loopS h (fun ((s11, s12) : (List T_Mail) × Int) => [(1, .v (.int .i64 origin)), (2, .v (.int .i64 number)), (51, .glob (GL mx)), (8, .fr (.own 46) true 8 (flatten (map T_Mail.ienc s11))), (18, .fr .shr true 8 (flatten (map T_Mail.ienc v2))), (19, .v (.int .i64 (v2.length : Int))), (20, .v (.int .i64 s12))]) (fun (s14 : (List T_Mail)) => [(1, .v (.int .i64 origin)), (2, .v (.int .i64 number)), (51, .glob (GL mx)), (8, .fr (.own 46) true 8 (flatten (map T_Mail.ienc s14)))]) ?_ ?_
  ·rintro s14 h
   refine pt_then (ht_seq ?_)
   refine zgg hn [_,_,_,_,(32,.same (.slot 8)),(33,vi (s14.length : Int)),(11,vi (s14.length : Int))] [0,1,2,3] [0,1,2,3,6] [zq [3] 4 32,zq [4,3] 5 33,zq [5] 6 11] [(_,_),(_,_),(_,_),(_,_),(_,_)] rfl ⟨z1 rfl,zp rfl (op_len_fr _ _ _ underlying22 rfl (by decide) (gflat_len T_Mail.ilen _)),z2 rfl,zz⟩ ?_
   refine ht_frz 3 hio (es' := [(1, .v (.int .i64 origin)), (2, .v (.int .i64 number)), (51, .glob (GL mx)), (8, .fr .ro true 8 (flatten (map T_Mail.ienc s14))), (11, .v (.int .i64 (s14.length : Int)))]) rfl ?_
   refine ht_loopS h (fun ((s31, s32) : (List T_Mail) × Int) => [(1, .v (.int .i64 origin)), (2, .v (.int .i64 number)), (51, .glob (GL mx)), (8, .fr .ro true 8 (flatten (map T_Mail.ienc s31))), (11, .v (.int .i64 s32))]) (fun (() : Unit) => [(51, .glob (GL mx))]) ?_ ?_
   ·rintro ⟨⟩ h
    refine pt_then ?_
    refine zgg hn [_,(6,vi 0),(7,vi 9)] [0] [0,1,2] [zq [] 1 6,zq [] 2 7] [(_,_),(_,_),(_,_)] rfl ⟨z2 rfl,z2 rfl,zz⟩ ?_
    refine ht_ret ?_
    refine pt_pick [1, 2] (by kernel_rfl) (es' := [(_,_),(_,_)]) rfl ?_
    obtain rfl := zi h
    exact pt_ret hio rfl (.tmp _ _ (.tmp _ _ .nil)) rfl rfl
   ·rintro u35 hl36 hr37 ⟨s31, s32⟩ rr40 h ho38
    refine ht_seq ?_
    refine zgg hn [_,_,_,_,_,(34,vi s32),(35,vb (decide (0 < s32)))] [0,1,2,3,4] [0,1,2,3,4,6] [zq [4] 5 34,zq [5] 6 35] [(_,_),(_,_),(_,_),(_,_),(_,_),(_,_)] rfl ⟨z1 rfl,z4 rfl rfl,zz⟩ ?_
    refine ht_cond _ rfl (fun hb41 => ?_) (fun hb41 => ?_)
    ·have h := cond_t hb41 h
     refine ht_skip ?_
     refine pt_then (ht_seq ?_)
     refine ht_block ?_
     refine ht_seq ?_
     obtain ⟨v23, hv23, h⟩ := zn h
     obtain ⟨v24, hv24, h⟩ := zn h
     refine zg hn (_::_::_::_::_::_::(39,vi origin)::(40,vi number)::(41,.fr .ro true 8 (flatten (map T_Mail.ienc s31)))::(42,vi s32)::(43,.fr .ro true 8 (flatten (map T_Mail.ienc v23)))::(44,.agg [vi origin,vi number,.fr .ro true 8 (flatten (map T_Mail.ienc v23))])::(45,.tup [.mkr 5 (map (int .u8) v24.1),vi v24.2])::(38,.tup [.mkr 5 (map (int .u8) v24.1),vi v24.2])::(46,.mkr 5 (map (int .u8) v24.1))::(38,.tup [.any,vi v24.2])::(47,vi v24.2)::(12,.mkr 5 (map (int .u8) v24.1))::(13,vi v24.2)::[]) [0,1,2,3,4,5] [0,1,2,3,4,18] [zq [0] 6 39,zq [1] 7 40,zq [3] 8 41,zq [4] 9 42,zq [8,9] 10 43,zq [6,7,10] 11 44,zq [11,2] 12 45,⟨[],[12],[13],[(.slot 38)]⟩,⟨[],[13],[15,14],[(.slot 46)]⟩,zq [15] 16 47,⟨[],[14],[17],[(.slot 12)]⟩,zq [16] 18 13] [(_,_),(_,_),(_,_),(_,_),(_,_),(_,_)] rfl ⟨z1 rfl,z1 rfl,z1 rfl,z1 rfl,zp rfl (op_slice_fr _ _ (Int.toNat 0) (Int.toNat s32) _ underlying22 sz46 (by decide) rfl rfl rfl ⟨_, congrArg (fun j => AV.v (int .i64 j)) (sli_bd hv23).2.1⟩ (sli_bd hv23).2.2.1 (by rw [gflat_len T_Mail.ilen]; exact Nat.mul_le_mul_right _ (sli_bd hv23).2.2.2) (gflat_sli T_Mail.ilen hv23)),zp rfl (op_build _ _ _ _ [1, 1, 1] _ _ underlying24 zr24 (fs24 _ underlying24) (.copy _ (.copy _ (.copy _ Src.nil))) rfl rfl rfl),zp rfl (op_callG _ _ 51 13 _ _ rfl call13 rfl rfl (fun _ h => h) (ok_bundle_Bytes mx (T_Bundle.mk origin number v23) _ hv24) rfl rfl),zp rfl (op_move_take _ _ _ _ rfl),zp rfl (op_extract_take _ _ _ _ _ rfl (zl rfl) rfl rfl (by decide) rfl),zp rfl (oE rfl),zp rfl (op_assign_take _ _ _ _ rfl),z2 rfl,zz⟩ ?_
     refine pt_then ?_
     refine zgg hn [_,_,_,_,_,_,(48,vi v24.2),(49,vb (v24.2 == 0))] [0,1,2,3,4,5] [0,1,2,3,4,7] [zq [5] 6 48,zq [6] 7 49] [(_,_),(_,_),(_,_),(_,_),(_,_),(_,_)] rfl ⟨z1 rfl,z4 rfl rfl,zz⟩ ?_
     refine ht_cond _ rfl (fun hb42 => ?_) (fun hb42 => ?_)
     ·have h := cond_t hb42 h
      refine zgg hn [_,_,_,_,_,_,(50,vi s32),(6,vi s32),(7,vi 0)] [0,1,2,3,4,5] [2,7,8] [zq [4] 6 50,zq [6] 7 6,zq [] 8 7] [(_,_),(_,_),(_,_)] rfl ⟨z1 rfl,z2 rfl,z2 rfl,zz⟩ ?_
      refine ht_ret ?_
      refine pt_pick [1, 2] (by kernel_rfl) (es' := [(_,_),(_,_)]) rfl ?_
      refine pt_r_in ?_
      refine pt_r_then ?_
      refine pt_r_then ?_
      refine pt_r_in ?_
      refine pt_r_then ?_
      have h := hr37 _ (ho38 _ (zi h).symm).symm
      obtain rfl := zi h
      exact pt_ret hio rfl (.tmp _ _ (.tmp _ _ .nil)) rfl rfl
     ·have h := cond_f hb42 h
      refine ht_skip ?_
      refine pt_inb ?_
      refine pt_then ?_
      obtain ⟨v26, hv26, h⟩ := zn h
      refine zg hn [_,_,_,_,_,_,(36,vi s32),(37,vi v26),(11,vi v26)] [0,1,2,3,4,5] [0,1,2,3,8] [zq [4] 6 36,zq [6] 7 37,⟨[7],[4],[8],[(.slot 11)]⟩] [(_,_),(_,_),(_,_),(_,_),(_,_)] rfl ⟨z1 rfl,zp rfl (oB rfl (ibind (f := int .i64) (Option.some.inj hv26))),zp rfl (LOp.drop [_] (op_assign _ _ _ _ rfl rfl)),zz⟩ ?_
      exact pt_next _ (zi h).symm rfl
    ·have h := cond_f hb41 h
     refine ht_exit ?_
     refine pt_x_then ?_
     refine pt_x_then ?_
     refine pt_x_in ?_
     refine pt_pick [2] (by kernel_rfl) (es' := [(_,_)]) rfl ?_
     exact hl36 _ (ho38 _ (zi h).symm).symm
  ·rintro u15 hl16 hr17 ⟨s11, s12⟩ rr20 h ho18
   refine zgg hn [_,_,_,_,_,_,_,(21,vb (decide (s12 < (v2.length : Int))))] [0,1,2,3,4,5,6] [0,1,2,3,4,5,6,7] [zq [6,5] 7 21] [(_,_),(_,_),(_,_),(_,_),(_,_),(_,_),(_,_),(_,_)] rfl ⟨z4 rfl rfl,zz⟩ ?_
   refine ht_seq ?_
   refine ht_cond _ rfl (fun hb21 => ?_) (fun hb21 => ?_)
   ·have h := cond_t hb21 h
    refine ht_skip ?_
    refine pt_then (ht_seq ?_)
    refine ht_block ?_
    refine ht_seq ?_
    obtain ⟨v4, hv4, h⟩ := zn h
    obtain ⟨v5, hv5, h⟩ := zn h
    refine zg hn [_,_,_,_,_,_,_,_,(22,.eref (.slot 18) (v4 * 8)),(23,.agg [vb v5.From.Null,vs v5.From.Local,vs v5.From.Domain,.fl .shr 3 (flatten (map T_Path.enc v5.To)),.fl .shr 1 (map (int .u8) v5.Body),vb v5.Quiet,vs v5.Helo,vi v5.At]),(10,.box 46 [vb false,vs z0,vs z0,.v (.slice none 0 0),.v (.slice none 0 0),vb false,vs z0,vi 0]),(10,.box 46 [vb v5.From.Null,vs v5.From.Local,vs v5.From.Domain,.fl .shr 3 (flatten (map T_Path.enc v5.To)),.fl .shr 1 (map (int .u8) v5.Body),vb v5.Quiet,vs v5.Helo,vi v5.At])] [0,1,2,3,4,5,6,7] [0,1,2,3,4,5,6,11] [zq [4,6] 8 22,zq [8,4] 9 23,zq [] 10 10,⟨[9],[10],[11],[.cell 10 0,.cell 10 1,.cell 10 2,.cell 10 3,.cell 10 4,.cell 10 5,.cell 10 6,.cell 10 7]⟩] [(_,_),(_,_),(_,_),(_,_),(_,_),(_,_),(_,_),(_,_)] rfl ⟨zp rfl (op_ix_fr _ _ _ _ _ _ _ _ underlying22 sz46 (by decide) rfl rfl rfl (ix_ok hv4).1 (gflat_lt T_Mail.ilen (ix_ok hv4).2) rfl),zp rfl (op_loadA_fr _ _ _ _ _ _ _ _ underlying46 rfl sz46 rfl rfl (gflat_get T_Mail.ilen hv5) (.cons (.v _) (.cons (.v _) (.cons (.v _) (.cons (.fl _ _ rfl) (.cons (.fl _ _ rfl) (.cons (.v _) (.cons (.v _) (.cons (.v _) (.nil))))))))) rfl (by decide)),zp rfl (op_alloc _ _ zr46),zp rfl (oS sz46 rfl),zz⟩ ?_
    refine pt_then ?_
    refine zgg hn [_,_,_,_,_,_,_,_,(24,.ptr 10 5),(10,.box 46 [vb v5.From.Null,vs v5.From.Local,vs v5.From.Domain,.fl .shr 3 (flatten (map T_Path.enc v5.To)),.fl .shr 1 (map (int .u8) v5.Body),vb false,vs v5.Helo,vi v5.At]),(25,.ptr 10 6),(10,.box 46 [vb v5.From.Null,vs v5.From.Local,vs v5.From.Domain,.fl .shr 3 (flatten (map T_Path.enc v5.To)),.fl .shr 1 (map (int .u8) v5.Body),vb false,vs z0,vi v5.At]),(26,.ptr 10 7),(10,.box 46 [vb v5.From.Null,vs v5.From.Local,vs v5.From.Domain,.fl .shr 3 (flatten (map T_Path.enc v5.To)),.fl .shr 1 (map (int .u8) v5.Body),vb false,vs z0,vi 0])] [0,1,2,3,4,5,6,7] [0,1,2,3,4,5,6,13] [zq [7] 8 24,⟨[8],[7],[9],[.cell 10 5]⟩,zq [9] 10 25,⟨[10],[9],[11],[.cell 10 6]⟩,zq [11] 12 26,⟨[12],[11],[13],[.cell 10 7]⟩] [(_,_),(_,_),(_,_),(_,_),(_,_),(_,_),(_,_),(_,_)] rfl ⟨zp rfl (oF underlying46 rfl sz4),zp rfl (oS sz4 rfl),zp rfl (oF underlying46 rfl sz9),zp rfl (oS sz9 rfl),zp rfl (oF underlying46 rfl sz3),zp rfl (oS sz3 rfl),zz⟩ ?_
    obtain ⟨v6, hv6, h⟩ := zn h
    refine zg hn [_,_,_,_,_,_,_,_,(27,.fr (.own 46) true 8 (flatten (map T_Mail.ienc s11))),(28,.agg [vb v5.From.Null,vs v5.From.Local,vs v5.From.Domain,.fl .shr 3 (flatten (map T_Path.enc v5.To)),.fl .shr 1 (map (int .u8) v5.Body),vb false,vs z0,vi 0]),(29,.fr (.own 46) true 8 (flatten (map T_Mail.ienc ([(T_Mail.mk (T_Path.mk v5.From.Null v5.From.Local v5.From.Domain) v5.To v5.Body false z0 0)])))),(30,.fr (.own 46) true 8 (flatten (map T_Mail.ienc v6))),(27,.any),(8,.fr (.own 46) true 8 (flatten (map T_Mail.ienc v6)))] [0,1,2,3,4,5,6,7] [0,1,2,4,5,6,13] [⟨[],[3],[8],[(.slot 27)]⟩,zq [7] 9 28,zq [9] 10 29,⟨[10],[8],[12,11],[(.slot 30)]⟩,⟨[],[11],[13],[(.slot 8)]⟩] [(_,_),(_,_),(_,_),(_,_),(_,_),(_,_),(_,_)] rfl ⟨zp rfl (op_move_take _ _ _ _ rfl),zp rfl (op_loadA _ _ _ _ _ _ _ underlying46 rfl sz46 rfl rfl (zl rfl) rfl rfl),zp rfl (op_build1_fr _ _ _ 8 (.agg #[.bool false, .string ByteArray.empty, .string ByteArray.empty, .slice none 0 0, .slice none 0 0, .bool false, .string ByteArray.empty, .int .i64 0]) true _ _ underlying22 sz46 zr46 rfl rfl (.cons (.v _) (.cons (.v _) (.cons (.v _) (.cons (.shr _ _ rfl rfl) (.cons (.shr _ _ rfl rfl) (.cons (.v _) (.cons (.v _) (.cons (.v _) (.nil))))))))) rfl (by decide) (by decide)),zp rfl (op_app_fr _ _ _ _ _ el22 rfl rfl (gflat_len T_Mail.ilen _) (gflat_len T_Mail.ilen _) hv6 (gflat_app (app_eq hv6)) (by decide) (by decide)),zp rfl (op_assign_take _ _ _ _ rfl),zz⟩ ?_
    refine pt_inb ?_
    refine pt_then ?_
    obtain ⟨v7, hv7, h⟩ := zn h
    refine zg hn [_,_,_,_,_,_,_,(31,vi v7),(20,vi v7)] [0,1,2,3,4,5,6] [0,1,2,3,4,6,8] [zq [5] 7 31,⟨[7],[5],[8],[(.slot 20)]⟩] [(_,_),(_,_),(_,_),(_,_),(_,_),(_,_),(_,_)] rfl ⟨zp rfl (oB rfl (ibind (f := int .i64) (Option.some.inj hv7))),zp rfl (LOp.drop [_] (oM rfl)),zz⟩ ?_
    refine pt_pick [0, 1, 2, 5, 3, 4, 6] (by kernel_rfl) (es' := [(_,_),(_,_),(_,_),(_,_),(_,_),(_,_),(_,_)]) rfl ?_
    exact pt_next _ (zi h).symm rfl
   ·have h := cond_f hb21 h
    refine ht_exit ?_
    refine pt_x_then ?_
    refine pt_x_then ?_
    refine pt_x_in ?_
    refine pt_pick [0, 1, 2, 3] (by kernel_rfl) (es' := [(_,_),(_,_),(_,_),(_,_)]) rfl ?_
    exact hl16 _ (ho18 _ (zi h).symm).symm
theorem ok_wherrylaw17_wakes (mx : Int) (r : Bool) (h : Sh.wherrylaw17_wakes  = some r) : FnG Tryz.prog (GL mx) 25 [] (.v (.bool r)) := by
  unfold Sh.wherrylaw17_wakes at h
  refine fn_okG func25 rfl (zl rfl) rfl rfl fun g0 hn hio => ?_
  refine zgg hn [_,(0,vb false)] [0] [0] [zq [] 1 0] [(_,_)] rfl ⟨z2 rfl,zz⟩ ?_
  refine zgg hn [_,(8,.agg [vb true,vs z0,vs z0]),(9,.agg [vb false,vs (⟨#[97]⟩ : ByteArray),vs (⟨#[98]⟩ : ByteArray)]),(10,.fl (.own 43) 3 (flatten (map T_Path.enc ([(T_Path.mk false (⟨#[97]⟩ : ByteArray) (⟨#[98]⟩ : ByteArray))])))),(11,.agg [vb true,vs z0,vs z0,.fl (.own 43) 3 (flatten (map T_Path.enc ([(T_Path.mk false (⟨#[97]⟩ : ByteArray) (⟨#[98]⟩ : ByteArray))]))),.v (.slice none 0 0),vb false,vs z0,vi 0]),(12,.fr (.own 46) false 8 (flatten (map T_Mail.ienc ([(T_Mail.mk ((T_Path.mk true z0 z0)) ([(T_Path.mk false (⟨#[97]⟩ : ByteArray) (⟨#[98]⟩ : ByteArray))]) [] false z0 0)])))),(13,.agg [vi 0,vi 1,.fr (.own 46) false 8 (flatten (map T_Mail.ienc ([(T_Mail.mk ((T_Path.mk true z0 z0)) ([(T_Path.mk false (⟨#[97]⟩ : ByteArray) (⟨#[98]⟩ : ByteArray))]) [] false z0 0)])))]),(1,.box 24 [vi 0,vi 0,.v (.slice none 0 0)]),(1,.box 24 [vi 0,vi 1,.fr (.own 46) false 8 (flatten (map T_Mail.ienc ([(T_Mail.mk ((T_Path.mk true z0 z0)) ([(T_Path.mk false (⟨#[97]⟩ : ByteArray) (⟨#[98]⟩ : ByteArray))]) [] false z0 0)])))])] [0] [0,8] [zq [] 1 8,zq [] 2 9,zq [2] 3 10,⟨[1],[3],[4],[(.slot 11)]⟩,⟨[],[4],[5],[(.slot 12)]⟩,⟨[],[5],[6],[(.slot 13)]⟩,zq [] 7 1,⟨[],[6,7],[8],[.cell 1 0,.cell 1 1,.cell 1 2]⟩] [(_,_),(_,_)] rfl ⟨zp rfl (op_build _ _ _ _ [1, 1, 1] _ _ underlying43 zr43 (fs43 _ underlying43) (.copy _ Src.nil) rfl rfl rfl),zp rfl (op_build _ _ _ _ [1, 1, 1] _ _ underlying43 zr43 (fs43 _ underlying43) (.copy _ (.copy _ Src.nil)) rfl rfl rfl),zp rfl (op_buildSlice _ _ 3 (.agg #[.bool false, .string ByteArray.empty, .string ByteArray.empty]) (flatten (map T_Path.enc ([(T_Path.mk false (⟨#[97]⟩ : ByteArray) (⟨#[98]⟩ : ByteArray))]))) [(0, .agg #[.bool false, .string (⟨#[97]⟩ : ByteArray), .string (⟨#[98]⟩ : ByteArray)])] underlying44 sz43 zr43 (fun _ V w o a hv hes => by have e0 := agg_v (ys := [.bool false, .string (⟨#[97]⟩ : ByteArray), .string (⟨#[98]⟩ : ByteArray)]) hv hes (x := .tmp 9) rfl; simp only [List.map_toArray, List.map_cons, List.map_nil, e0]; try rfl) (litfill (by simp [Instr.fill, Value.cells]; rfl) (by simp [List.range, List.range.loop, T_Path.enc] <;> rfl)) (by simp [Value.oneCell', T_Path.enc]) rfl (by decide) (by decide) (by decide)),zp rfl (op_build _ _ _ _ [3, 1, 1, 1, 1, 1] _ _ underlying46 zr46 (fs46 _ underlying46) (.copy _ (.take _ _ Src.nil)) rfl rfl rfl),zp rfl (op_build1_fr_take _ _ _ 8 (.agg #[.bool false, .string ByteArray.empty, .string ByteArray.empty, .slice none 0 0, .slice none 0 0, .bool false, .string ByteArray.empty, .int .i64 0]) false _ _ underlying22 sz46 zr46 rfl (.cons (.v _) (.cons (.v _) (.cons (.v _) (.cons (.ro _ _ rfl) (.cons (.nil 1) (.cons (.v _) (.cons (.v _) (.cons (.v _) (.nil))))))))) rfl (by decide) (by decide)),zp rfl (op_build _ _ _ _ [1, 1, 1] _ _ underlying24 zr24 (fs24 _ underlying24) (.copy _ (.take _ _ Src.nil)) rfl rfl rfl),zp rfl (op_alloc _ _ zr24),zp rfl (op_store_take _ _ _ _ _ _ _ _ sz24 rfl rfl rfl (zl rfl) rfl rfl),zz⟩ ?_
  refine ht_seq ?_
  obtain ⟨v1, hv1, h⟩ := zn h
  refine zg hn [_,_,(15,.agg [vi 0,vi 1,.same (.cell 1 2)]),(16,.tup [.mkr 5 (map (int .u8) v1.1),vi v1.2]),(14,.tup [.mkr 5 (map (int .u8) v1.1),vi v1.2]),(17,.mkr 5 (map (int .u8) v1.1)),(14,.tup [.any,vi v1.2]),(18,vi v1.2),(2,.mkr 5 (map (int .u8) v1.1)),(3,vi v1.2)] [0,1] [0,1,8,9] [zq [1] 2 15,zq [2,1,0] 3 16,⟨[],[3],[4],[(.slot 14)]⟩,⟨[],[4],[6,5],[(.slot 17)]⟩,zq [6] 7 18,⟨[],[5],[8],[(.slot 2)]⟩,zq [7] 9 3] [(_,_),(_,_),(_,_),(_,_)] rfl ⟨zp rfl (op_loadA _ _ _ _ _ _ _ underlying24 rfl sz24 rfl rfl (zl rfl) rfl rfl),zp rfl (op_callG _ _ 60 13 _ _ rfl call13 rfl rfl (fun _ h => h) (ok_bundle_Bytes mx ((T_Bundle.mk 0 1 ([(T_Mail.mk ((T_Path.mk true (⟨#[]⟩ : ByteArray) (⟨#[]⟩ : ByteArray))) ([(T_Path.mk false (⟨#[97]⟩ : ByteArray) (⟨#[98]⟩ : ByteArray))]) [] false (⟨#[]⟩ : ByteArray) 0)]))) _ hv1) rfl rfl),zp rfl (op_move_take _ _ _ _ rfl),zp rfl (op_extract_take _ _ _ _ _ rfl (zl rfl) rfl rfl (by decide) rfl),zp rfl (oE rfl),zp rfl (op_assign_take _ _ _ _ rfl),z2 rfl,zz⟩ ?_
  refine pt_then (ht_seq ?_)
  refine ht_frz 2 hio (es' := [(60, .glob (GL mx)), (1, .box 24 [.v (.int .i64 0), .v (.int .i64 1), .fr (.own 46) false 8 (flatten (map T_Mail.ienc ([(T_Mail.mk ((T_Path.mk true (⟨#[]⟩ : ByteArray) (⟨#[]⟩ : ByteArray))) ([(T_Path.mk false (⟨#[97]⟩ : ByteArray) (⟨#[98]⟩ : ByteArray))]) [] false (⟨#[]⟩ : ByteArray) 0)])))]), (2, .fl .ro 1 (map (int .u8) v1.1)), (3, .v (.int .i64 v1.2))]) rfl ?_
  obtain ⟨v2, hv2, h⟩ := zn h
  refine zg hn [_,_,_,_,(20,.fl .ro 1 (map (int .u8) v1.1)),(21,.tup [.agg [vi v2.1.Origin,vi v2.1.Number,.fr (.own 46) false 8 (flatten (map T_Mail.ienc v2.1.Mails))],vi v2.2]),(19,.tup [.agg [vi v2.1.Origin,vi v2.1.Number,.fr (.own 46) false 8 (flatten (map T_Mail.ienc v2.1.Mails))],vi v2.2]),(22,.agg [vi v2.1.Origin,vi v2.1.Number,.fr (.own 46) false 8 (flatten (map T_Mail.ienc v2.1.Mails))]),(19,.tup [.any,vi v2.2]),(23,vi v2.2),(4,.box 24 [vi 0,vi 0,.v (.slice none 0 0)]),(4,.box 24 [vi v2.1.Origin,vi v2.1.Number,.fr (.own 46) false 8 (flatten (map T_Mail.ienc v2.1.Mails))]),(5,vi v2.2)] [0,1,2,3] [0,1,2,3,11,12] [zq [2] 4 20,zq [4,0] 5 21,⟨[],[5],[6],[(.slot 19)]⟩,⟨[],[6],[8,7],[(.slot 22)]⟩,zq [8] 9 23,zq [] 10 4,⟨[],[7,10],[11],[.cell 4 0,.cell 4 1,.cell 4 2]⟩,zq [9] 12 5] [(_,_),(_,_),(_,_),(_,_),(_,_),(_,_)] rfl ⟨z1 rfl,zp rfl (op_callRG _ _ 60 15 _ _ rfl call15 rfl rfl (fun _ h => h) (ok_bundle_Read_ro mx v1.1 _ hv2) rfl rfl),zp rfl (op_move_take _ _ _ _ rfl),zp rfl (op_extract_take _ _ _ _ _ rfl (zl rfl) rfl rfl (by decide) rfl),zp rfl (oE rfl),zp rfl (op_alloc _ _ zr24),zp rfl (op_store_take _ _ _ _ _ _ _ _ sz24 rfl rfl rfl (zl rfl) rfl rfl),z2 rfl,zz⟩ ?_
  refine pt_then (ht_seq ?_)
  obtain ⟨v3, hv3, h⟩ := zn h
  refine zg hn [_,_,_,_,_,_,(25,.ptr 1 2),(26,.same (.cell 1 2)),(27,.tup [vi v3.1,vi v3.2]),(24,.tup [vi v3.1,vi v3.2]),(28,vi v3.1),(29,vi v3.2),(6,vi v3.1),(7,vi v3.2)] [0,1,2,3,4,5] [0,1,2,3,4,5,12,13] [zq [1] 6 25,zq [6,1] 7 26,zq [7,1,0] 8 27,⟨[],[8],[9],[(.slot 24)]⟩,zq [9] 10 28,zq [9] 11 29,zq [10] 12 6,zq [11] 13 7] [(_,_),(_,_),(_,_),(_,_),(_,_),(_,_),(_,_),(_,_)] rfl ⟨zp rfl (oF underlying24 rfl sz22),zp rfl (oL underlying22 rfl),zp rfl (op_callG _ _ 60 17 _ _ rfl call17 rfl rfl (fun _ h => h) (ok_bundle_Pack mx ([(T_Mail.mk ((T_Path.mk true (⟨#[]⟩ : ByteArray) (⟨#[]⟩ : ByteArray))) ([(T_Path.mk false (⟨#[97]⟩ : ByteArray) (⟨#[98]⟩ : ByteArray))]) [] false (⟨#[]⟩ : ByteArray) 0)]) 0 1 _ hv3) rfl rfl),zp rfl (op_move_take _ _ _ _ rfl),zp rfl (oE rfl),zp rfl (oE rfl),z2 rfl,z2 rfl,zz⟩ ?_
  refine pt_then (ht_seq ?_)
  refine ht_joinS h (fun (s7 : Bool) => [(60, .glob (GL mx)), (0, .v (.bool s7))]) ?_ ?_
  ·rintro s7 h
   refine pt_then (ht_ret ?_)
   refine pt_pick [1] (by kernel_rfl) (es' := [(_,_)]) rfl ?_
   obtain rfl := zi h
   exact pt_ret hio rfl (.tmp _ _ .nil) rfl rfl
  ·intro u8 h hl9 hr10
   refine cond_some h (fun hg5_2 h => ?_) (fun hg5_2 h => ?_)
   ·refine cond_some h (fun hg5_6 h => ?_) (fun hg5_6 h => ?_)
    ·refine cond_some h (fun hg5_10 h => ?_) (fun hg5_10 h => ?_)
     ·obtain ⟨v4, hv4, h⟩ := zn h
      refine cond_some h (fun hg5_15 h => ?_) (fun hg5_15 h => ?_)
      ·refine cond_some h (fun hg5_19 h => ?_) (fun hg5_19 h => ?_)
       ·refine cond_some h (fun hg5_24 h => ?_) (fun hg5_24 h => ?_)
        ·obtain ⟨v5, hv5, h⟩ := zn h
         obtain ⟨v6, hv6, h⟩ := zn h
         refine zg hn (_::_::_::_::_::_::_::_::(30,vi v1.2)::(31,vb (v1.2 == 0))::(32,vb true)::(33,vi v2.2)::(34,vb (v2.2 == 0))::(35,vb (v2.2 == 0))::(36,vb true)::(37,vi v3.2)::(38,vb (v3.2 == 0))::(39,vb (v3.2 == 0))::(40,vb true)::(41,.agg [vi v2.1.Origin,vi v2.1.Number,.fr (.own 46) false 8 (flatten (map T_Mail.ienc v2.1.Mails))])::(42,.agg [vi 0,vi 1,.fr (.own 46) false 8 (flatten (map T_Mail.ienc ([(T_Mail.mk ((T_Path.mk true z0 z0)) ([(T_Path.mk false (⟨#[97]⟩ : ByteArray) (⟨#[98]⟩ : ByteArray))]) [] false z0 0)])))])::(43,vb v4)::(44,vb v4)::(45,vb true)::(46,vi v3.1)::(47,vb (v3.1 == 1))::(48,vb (v3.1 == 1))::(49,vb true)::(50,.fl .ro 1 (map (int .u8) v1.1))::(51,vi (v1.1.length : Int))::(52,vb (decide (14 < (v1.1.length : Int))))::(53,vb (decide (14 < (v1.1.length : Int))))::(54,vb true)::(55,.fl .ro 1 (map (int .u8) v1.1))::(56,.fl .ro 1 (map (int .u8) v5))::(57,vs v6)::(58,vb (v6.toList == (⟨#[66,85,78,68,76,69,32,48,32,49,32,49,32,52]⟩ : ByteArray).toList))::(59,vb (v6.toList == (⟨#[66,85,78,68,76,69,32,48,32,49,32,49,32,52]⟩ : ByteArray).toList))::(0,vb (v6.toList == (⟨#[66,85,78,68,76,69,32,48,32,49,32,49,32,52]⟩ : ByteArray).toList))::[]) [0,1,2,3,4,5,6,7] [0,38] (zq [3] 8 30::zq [8] 9 31::zq [9] 10 32::zq [10,5] 11 33::zq [10,11] 12 34::zq [10,12] 13 35::zq [13] 14 36::zq [14,7] 15 37::zq [14,15] 16 38::zq [14,16] 17 39::zq [17] 18 40::⟨[18],[4],[19],[(.slot 41)]⟩::⟨[18],[1],[20],[(.slot 42)]⟩::zq [18,19,20] 21 43::zq [18,21] 22 44::zq [22] 23 45::zq [23,6] 24 46::zq [23,24] 25 47::zq [23,25] 26 48::zq [26] 27 49::zq [27,2] 28 50::zq [27,28] 29 51::zq [27,29] 30 52::zq [27,30] 31 53::zq [31] 32 54::zq [32,2] 33 55::zq [32,33] 34 56::zq [32,34] 35 57::zq [32,35] 36 58::zq [32,36] 37 59::zq [37] 38 0::[]) [(_,_),(_,_)] rfl ⟨z1 rfl,z4 rfl rfl,z8 hg5_2 rfl,zr' rfl (oM rfl),zr' rfl (oB rfl rfl),z3 true rfl,z8 hg5_6 rfl,zr' rfl (oM rfl),zr' rfl (oB rfl rfl),z3 true rfl,z8 hg5_10 rfl,zr' rfl (op_loadA_take _ _ _ _ underlying24 rfl sz24 rfl rfl),zr' rfl (op_loadA_take _ _ _ _ underlying24 rfl sz24 rfl rfl),zr' rfl (op_call _ _ 22 _ _ rfl call22 rfl (ok_wherrykeep_Bundle (T_Bundle.mk v2.1.Origin v2.1.Number v2.1.Mails) ((T_Bundle.mk 0 1 ([(T_Mail.mk ((T_Path.mk true (⟨#[]⟩ : ByteArray) (⟨#[]⟩ : ByteArray))) ([(T_Path.mk false (⟨#[97]⟩ : ByteArray) (⟨#[98]⟩ : ByteArray))]) [] false (⟨#[]⟩ : ByteArray) 0)]))) _ hv4) rfl rfl),z3 true rfl,z8 hg5_15 rfl,zr' rfl (oM rfl),zr' rfl (oB rfl rfl),z3 true rfl,z8 hg5_19 rfl,zr' rfl (oM rfl),zr' rfl (op_len_fl _ _ _ underlying25 rfl (by decide) (map_len _)),zr' rfl (oB rfl rfl),z3 true rfl,z8 hg5_24 rfl,zr' rfl (oM rfl),zr' rfl (op_sl _ _ _ 0 14 _ underlying25 sz5 rfl rfl rfl ⟨_, rfl⟩ hv5),zr' rfl ((Option.some.inj hv6) ▸ op_bytes_str _ _ _ v5 underlying25 underlying9 underlying5 rfl),zr' rfl (oB rfl rfl),z3 true rfl,z2 rfl,zz⟩ ?_
         exact hl9 _ (zi h).symm
        ·refine zg hn (_::_::_::_::_::_::_::_::(30,vi v1.2)::(31,vb (v1.2 == 0))::(32,vb true)::(33,vi v2.2)::(34,vb (v2.2 == 0))::(35,vb (v2.2 == 0))::(36,vb true)::(37,vi v3.2)::(38,vb (v3.2 == 0))::(39,vb (v3.2 == 0))::(40,vb true)::(41,.agg [vi v2.1.Origin,vi v2.1.Number,.fr (.own 46) false 8 (flatten (map T_Mail.ienc v2.1.Mails))])::(42,.agg [vi 0,vi 1,.fr (.own 46) false 8 (flatten (map T_Mail.ienc ([(T_Mail.mk ((T_Path.mk true z0 z0)) ([(T_Path.mk false (⟨#[97]⟩ : ByteArray) (⟨#[98]⟩ : ByteArray))]) [] false z0 0)])))])::(43,vb v4)::(44,vb v4)::(45,vb true)::(46,vi v3.1)::(47,vb (v3.1 == 1))::(48,vb (v3.1 == 1))::(49,vb true)::(50,.fl .ro 1 (map (int .u8) v1.1))::(51,vi (v1.1.length : Int))::(52,vb (decide (14 < (v1.1.length : Int))))::(53,vb (decide (14 < (v1.1.length : Int))))::(54,vb false)::(55,.v undef)::(56,.v undef)::(57,.v undef)::(58,.v undef)::(59,vb false)::(0,vb false)::[]) [0,1,2,3,4,5,6,7] [0,38] (zq [3] 8 30::zq [8] 9 31::zq [9] 10 32::zq [10,5] 11 33::zq [10,11] 12 34::zq [10,12] 13 35::zq [13] 14 36::zq [14,7] 15 37::zq [14,15] 16 38::zq [14,16] 17 39::zq [17] 18 40::⟨[18],[4],[19],[(.slot 41)]⟩::⟨[18],[1],[20],[(.slot 42)]⟩::zq [18,19,20] 21 43::zq [18,21] 22 44::zq [22] 23 45::zq [23,6] 24 46::zq [23,24] 25 47::zq [23,25] 26 48::zq [26] 27 49::zq [27,2] 28 50::zq [27,28] 29 51::zq [27,29] 30 52::zq [27,30] 31 53::zq [31] 32 54::zq [32] 33 55::zq [32] 34 56::zq [32] 35 57::zq [32] 36 58::zq [32] 37 59::zq [37] 38 0::[]) [(_,_),(_,_)] rfl ⟨z1 rfl,z4 rfl rfl,z8 hg5_2 rfl,zr' rfl (oM rfl),zr' rfl (oB rfl rfl),z3 true rfl,z8 hg5_6 rfl,zr' rfl (oM rfl),zr' rfl (oB rfl rfl),z3 true rfl,z8 hg5_10 rfl,zr' rfl (op_loadA_take _ _ _ _ underlying24 rfl sz24 rfl rfl),zr' rfl (op_loadA_take _ _ _ _ underlying24 rfl sz24 rfl rfl),zr' rfl (op_call _ _ 22 _ _ rfl call22 rfl (ok_wherrykeep_Bundle (T_Bundle.mk v2.1.Origin v2.1.Number v2.1.Mails) ((T_Bundle.mk 0 1 ([(T_Mail.mk ((T_Path.mk true (⟨#[]⟩ : ByteArray) (⟨#[]⟩ : ByteArray))) ([(T_Path.mk false (⟨#[97]⟩ : ByteArray) (⟨#[98]⟩ : ByteArray))]) [] false (⟨#[]⟩ : ByteArray) 0)]))) _ hv4) rfl rfl),z3 true rfl,z8 hg5_15 rfl,zr' rfl (oM rfl),zr' rfl (oB rfl rfl),z3 true rfl,z8 hg5_19 rfl,zr' rfl (oM rfl),zr' rfl (op_len_fl _ _ _ underlying25 rfl (by decide) (map_len _)),zr' rfl (oB rfl rfl),z3 true rfl,z8 hg5_24 rfl,zt rfl,zt rfl,zt rfl,zt rfl,z3 false rfl,z2 rfl,zz⟩ ?_
         exact hl9 _ (zi h).symm
       ·refine zg hn (_::_::_::_::_::_::_::_::(30,vi v1.2)::(31,vb (v1.2 == 0))::(32,vb true)::(33,vi v2.2)::(34,vb (v2.2 == 0))::(35,vb (v2.2 == 0))::(36,vb true)::(37,vi v3.2)::(38,vb (v3.2 == 0))::(39,vb (v3.2 == 0))::(40,vb true)::(41,.agg [vi v2.1.Origin,vi v2.1.Number,.fr (.own 46) false 8 (flatten (map T_Mail.ienc v2.1.Mails))])::(42,.agg [vi 0,vi 1,.fr (.own 46) false 8 (flatten (map T_Mail.ienc ([(T_Mail.mk ((T_Path.mk true z0 z0)) ([(T_Path.mk false (⟨#[97]⟩ : ByteArray) (⟨#[98]⟩ : ByteArray))]) [] false z0 0)])))])::(43,vb v4)::(44,vb v4)::(45,vb true)::(46,vi v3.1)::(47,vb (v3.1 == 1))::(48,vb (v3.1 == 1))::(49,vb false)::(50,.v undef)::(51,.v undef)::(52,.v undef)::(53,vb false)::(54,vb false)::(55,.v undef)::(56,.v undef)::(57,.v undef)::(58,.v undef)::(59,vb false)::(0,vb false)::[]) [0,1,2,3,4,5,6,7] [0,38] (zq [3] 8 30::zq [8] 9 31::zq [9] 10 32::zq [10,5] 11 33::zq [10,11] 12 34::zq [10,12] 13 35::zq [13] 14 36::zq [14,7] 15 37::zq [14,15] 16 38::zq [14,16] 17 39::zq [17] 18 40::⟨[18],[4],[19],[(.slot 41)]⟩::⟨[18],[1],[20],[(.slot 42)]⟩::zq [18,19,20] 21 43::zq [18,21] 22 44::zq [22] 23 45::zq [23,6] 24 46::zq [23,24] 25 47::zq [23,25] 26 48::zq [26] 27 49::zq [27] 28 50::zq [27] 29 51::zq [27] 30 52::zq [27] 31 53::zq [31] 32 54::zq [32] 33 55::zq [32] 34 56::zq [32] 35 57::zq [32] 36 58::zq [32] 37 59::zq [37] 38 0::[]) [(_,_),(_,_)] rfl ⟨z1 rfl,z4 rfl rfl,z8 hg5_2 rfl,zr' rfl (oM rfl),zr' rfl (oB rfl rfl),z3 true rfl,z8 hg5_6 rfl,zr' rfl (oM rfl),zr' rfl (oB rfl rfl),z3 true rfl,z8 hg5_10 rfl,zr' rfl (op_loadA_take _ _ _ _ underlying24 rfl sz24 rfl rfl),zr' rfl (op_loadA_take _ _ _ _ underlying24 rfl sz24 rfl rfl),zr' rfl (op_call _ _ 22 _ _ rfl call22 rfl (ok_wherrykeep_Bundle (T_Bundle.mk v2.1.Origin v2.1.Number v2.1.Mails) ((T_Bundle.mk 0 1 ([(T_Mail.mk ((T_Path.mk true (⟨#[]⟩ : ByteArray) (⟨#[]⟩ : ByteArray))) ([(T_Path.mk false (⟨#[97]⟩ : ByteArray) (⟨#[98]⟩ : ByteArray))]) [] false (⟨#[]⟩ : ByteArray) 0)]))) _ hv4) rfl rfl),z3 true rfl,z8 hg5_15 rfl,zr' rfl (oM rfl),zr' rfl (oB rfl rfl),z3 true rfl,z8 hg5_19 rfl,zt rfl,zt rfl,zt rfl,z3 false rfl,z1 rfl,zt rfl,zt rfl,zt rfl,zt rfl,z3 false rfl,z2 rfl,zz⟩ ?_
        exact hl9 _ (zi h).symm
      ·refine zg hn (_::_::_::_::_::_::_::_::(30,vi v1.2)::(31,vb (v1.2 == 0))::(32,vb true)::(33,vi v2.2)::(34,vb (v2.2 == 0))::(35,vb (v2.2 == 0))::(36,vb true)::(37,vi v3.2)::(38,vb (v3.2 == 0))::(39,vb (v3.2 == 0))::(40,vb true)::(41,.agg [vi v2.1.Origin,vi v2.1.Number,.fr (.own 46) false 8 (flatten (map T_Mail.ienc v2.1.Mails))])::(42,.agg [vi 0,vi 1,.fr (.own 46) false 8 (flatten (map T_Mail.ienc ([(T_Mail.mk ((T_Path.mk true z0 z0)) ([(T_Path.mk false (⟨#[97]⟩ : ByteArray) (⟨#[98]⟩ : ByteArray))]) [] false z0 0)])))])::(43,vb v4)::(44,vb v4)::(45,vb false)::(46,.v undef)::(47,.v undef)::(48,vb false)::(49,vb false)::(50,.v undef)::(51,.v undef)::(52,.v undef)::(53,vb false)::(54,vb false)::(55,.v undef)::(56,.v undef)::(57,.v undef)::(58,.v undef)::(59,vb false)::(0,vb false)::[]) [0,1,2,3,4,5,6,7] [0,38] (zq [3] 8 30::zq [8] 9 31::zq [9] 10 32::zq [10,5] 11 33::zq [10,11] 12 34::zq [10,12] 13 35::zq [13] 14 36::zq [14,7] 15 37::zq [14,15] 16 38::zq [14,16] 17 39::zq [17] 18 40::⟨[18],[4],[19],[(.slot 41)]⟩::⟨[18],[1],[20],[(.slot 42)]⟩::zq [18,19,20] 21 43::zq [18,21] 22 44::zq [22] 23 45::zq [23] 24 46::zq [23] 25 47::zq [23] 26 48::zq [26] 27 49::zq [27] 28 50::zq [27] 29 51::zq [27] 30 52::zq [27] 31 53::zq [31] 32 54::zq [32] 33 55::zq [32] 34 56::zq [32] 35 57::zq [32] 36 58::zq [32] 37 59::zq [37] 38 0::[]) [(_,_),(_,_)] rfl ⟨z1 rfl,z4 rfl rfl,z8 hg5_2 rfl,zr' rfl (oM rfl),zr' rfl (oB rfl rfl),z3 true rfl,z8 hg5_6 rfl,zr' rfl (oM rfl),zr' rfl (oB rfl rfl),z3 true rfl,z8 hg5_10 rfl,zr' rfl (op_loadA_take _ _ _ _ underlying24 rfl sz24 rfl rfl),zr' rfl (op_loadA_take _ _ _ _ underlying24 rfl sz24 rfl rfl),zr' rfl (op_call _ _ 22 _ _ rfl call22 rfl (ok_wherrykeep_Bundle (T_Bundle.mk v2.1.Origin v2.1.Number v2.1.Mails) ((T_Bundle.mk 0 1 ([(T_Mail.mk ((T_Path.mk true (⟨#[]⟩ : ByteArray) (⟨#[]⟩ : ByteArray))) ([(T_Path.mk false (⟨#[97]⟩ : ByteArray) (⟨#[98]⟩ : ByteArray))]) [] false (⟨#[]⟩ : ByteArray) 0)]))) _ hv4) rfl rfl),z3 true rfl,z8 hg5_15 rfl,zt rfl,zt rfl,z3 false rfl,z1 rfl,zt rfl,zt rfl,zt rfl,z3 false rfl,z1 rfl,zt rfl,zt rfl,zt rfl,zt rfl,z3 false rfl,z2 rfl,zz⟩ ?_
       exact hl9 _ (zi h).symm
     ·refine zg hn (_::_::_::_::_::_::_::_::(30,vi v1.2)::(31,vb (v1.2 == 0))::(32,vb true)::(33,vi v2.2)::(34,vb (v2.2 == 0))::(35,vb (v2.2 == 0))::(36,vb true)::(37,vi v3.2)::(38,vb (v3.2 == 0))::(39,vb (v3.2 == 0))::(40,vb false)::(41,.v undef)::(42,.v undef)::(43,.v undef)::(44,vb false)::(45,vb false)::(46,.v undef)::(47,.v undef)::(48,vb false)::(49,vb false)::(50,.v undef)::(51,.v undef)::(52,.v undef)::(53,vb false)::(54,vb false)::(55,.v undef)::(56,.v undef)::(57,.v undef)::(58,.v undef)::(59,vb false)::(0,vb false)::[]) [0,1,2,3,4,5,6,7] [0,38] (zq [3] 8 30::zq [8] 9 31::zq [9] 10 32::zq [10,5] 11 33::zq [10,11] 12 34::zq [10,12] 13 35::zq [13] 14 36::zq [14,7] 15 37::zq [14,15] 16 38::zq [14,16] 17 39::zq [17] 18 40::zq [18] 19 41::zq [18] 20 42::zq [18] 21 43::zq [18] 22 44::zq [22] 23 45::zq [23] 24 46::zq [23] 25 47::zq [23] 26 48::zq [26] 27 49::zq [27] 28 50::zq [27] 29 51::zq [27] 30 52::zq [27] 31 53::zq [31] 32 54::zq [32] 33 55::zq [32] 34 56::zq [32] 35 57::zq [32] 36 58::zq [32] 37 59::zq [37] 38 0::[]) [(_,_),(_,_)] rfl ⟨z1 rfl,z4 rfl rfl,z8 hg5_2 rfl,zr' rfl (oM rfl),zr' rfl (oB rfl rfl),z3 true rfl,z8 hg5_6 rfl,zr' rfl (oM rfl),zr' rfl (oB rfl rfl),z3 true rfl,z8 hg5_10 rfl,zt rfl,zt rfl,zt rfl,z3 false rfl,z1 rfl,zt rfl,zt rfl,z3 false rfl,z1 rfl,zt rfl,zt rfl,zt rfl,z3 false rfl,z1 rfl,zt rfl,zt rfl,zt rfl,zt rfl,z3 false rfl,z2 rfl,zz⟩ ?_
      exact hl9 _ (zi h).symm
    ·refine zg hn (_::_::_::_::_::_::_::_::(30,vi v1.2)::(31,vb (v1.2 == 0))::(32,vb true)::(33,vi v2.2)::(34,vb (v2.2 == 0))::(35,vb (v2.2 == 0))::(36,vb false)::(37,.v undef)::(38,.v undef)::(39,vb false)::(40,vb false)::(41,.v undef)::(42,.v undef)::(43,.v undef)::(44,vb false)::(45,vb false)::(46,.v undef)::(47,.v undef)::(48,vb false)::(49,vb false)::(50,.v undef)::(51,.v undef)::(52,.v undef)::(53,vb false)::(54,vb false)::(55,.v undef)::(56,.v undef)::(57,.v undef)::(58,.v undef)::(59,vb false)::(0,vb false)::[]) [0,1,2,3,4,5,6,7] [0,38] (zq [3] 8 30::zq [8] 9 31::zq [9] 10 32::zq [10,5] 11 33::zq [10,11] 12 34::zq [10,12] 13 35::zq [13] 14 36::zq [14] 15 37::zq [14] 16 38::zq [14] 17 39::zq [17] 18 40::zq [18] 19 41::zq [18] 20 42::zq [18] 21 43::zq [18] 22 44::zq [22] 23 45::zq [23] 24 46::zq [23] 25 47::zq [23] 26 48::zq [26] 27 49::zq [27] 28 50::zq [27] 29 51::zq [27] 30 52::zq [27] 31 53::zq [31] 32 54::zq [32] 33 55::zq [32] 34 56::zq [32] 35 57::zq [32] 36 58::zq [32] 37 59::zq [37] 38 0::[]) [(_,_),(_,_)] rfl ⟨z1 rfl,z4 rfl rfl,z8 hg5_2 rfl,zr' rfl (oM rfl),zr' rfl (oB rfl rfl),z3 true rfl,z8 hg5_6 rfl,zt rfl,zt rfl,z3 false rfl,z1 rfl,zt rfl,zt rfl,zt rfl,z3 false rfl,z1 rfl,zt rfl,zt rfl,z3 false rfl,z1 rfl,zt rfl,zt rfl,zt rfl,z3 false rfl,z1 rfl,zt rfl,zt rfl,zt rfl,zt rfl,z3 false rfl,z2 rfl,zz⟩ ?_
     exact hl9 _ (zi h).symm
   ·refine zg hn (_::_::_::_::_::_::_::_::(30,vi v1.2)::(31,vb (v1.2 == 0))::(32,vb false)::(33,.v undef)::(34,.v undef)::(35,vb false)::(36,vb false)::(37,.v undef)::(38,.v undef)::(39,vb false)::(40,vb false)::(41,.v undef)::(42,.v undef)::(43,.v undef)::(44,vb false)::(45,vb false)::(46,.v undef)::(47,.v undef)::(48,vb false)::(49,vb false)::(50,.v undef)::(51,.v undef)::(52,.v undef)::(53,vb false)::(54,vb false)::(55,.v undef)::(56,.v undef)::(57,.v undef)::(58,.v undef)::(59,vb false)::(0,vb false)::[]) [0,1,2,3,4,5,6,7] [0,38] (zq [3] 8 30::zq [8] 9 31::zq [9] 10 32::zq [10] 11 33::zq [10] 12 34::zq [10] 13 35::zq [13] 14 36::zq [14] 15 37::zq [14] 16 38::zq [14] 17 39::zq [17] 18 40::zq [18] 19 41::zq [18] 20 42::zq [18] 21 43::zq [18] 22 44::zq [22] 23 45::zq [23] 24 46::zq [23] 25 47::zq [23] 26 48::zq [26] 27 49::zq [27] 28 50::zq [27] 29 51::zq [27] 30 52::zq [27] 31 53::zq [31] 32 54::zq [32] 33 55::zq [32] 34 56::zq [32] 35 57::zq [32] 36 58::zq [32] 37 59::zq [37] 38 0::[]) [(_,_),(_,_)] rfl ⟨z1 rfl,z4 rfl rfl,z8 hg5_2 rfl,zt rfl,zt rfl,z3 false rfl,z1 rfl,zt rfl,zt rfl,z3 false rfl,z1 rfl,zt rfl,zt rfl,zt rfl,z3 false rfl,z1 rfl,zt rfl,zt rfl,z3 false rfl,z1 rfl,zt rfl,zt rfl,zt rfl,z3 false rfl,z1 rfl,zt rfl,zt rfl,zt rfl,zt rfl,z3 false rfl,z2 rfl,zz⟩ ?_
    exact hl9 _ (zi h).symm
end Go.Proofs.YtglabbpbianmnaaGreatDoor
