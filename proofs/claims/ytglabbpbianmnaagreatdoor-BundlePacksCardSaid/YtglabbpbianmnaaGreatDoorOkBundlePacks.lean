/-
  The model's runs are what is told in Lean.
-/
import Derived.Test.YtglabbpbianmnaaGreatDoorProg
import Derived.KernelRfl
import Derived.Test.YtglabbpbianmnaaGreatDoorShelf
import Derived.Test.YtglabbpbianmnaaGreatDoorIdx
import Derived.Test.YtglabbpbianmnaaGreatDoorOkc3
set_option linter.unusedVariables false
set_option linter.unusedSimpArgs false
set_option maxHeartbeats 1000000
namespace Go.Proofs.YtglabbpbianmnaaGreatDoor
open Go.Abs Go.Abs.Sh Tryz
open List (map flatten)
open Value (int)

theorem ok_wherrylaw17_BundlePacks (mx : Int) (l : (List T_Mail)) (origin : Int) (number : Int) (r : Bool) (h : Sh.wherrylaw17_BundlePacks l origin number = some r) : FnG Tryz.prog (GL mx) 6 [.fr .shr true 8 (flatten (map T_Mail.ienc l)), .v (.int .i64 origin), .v (.int .i64 number)] (.v (.bool r)) := by
  unfold Sh.wherrylaw17_BundlePacks at h
  refine fn_okG func6 rfl (zl rfl) rfl rfl fun g0 hn hio => ?_
  refine zgg hn [_,_,_,_,(6,vb false)] [0,1,2,3] [0,1,2,3] [zq [] 4 6] [(_,_),(_,_),(_,_),(_,_)] rfl ⟨z2 rfl,zz⟩ ?_
  refine ht_seq ?_
  refine ht_seq ?_
  obtain ⟨v1, hv1, h⟩ := zn h
  refine zg hn [_,_,_,_,(17,.fr .shr true 8 (flatten (map T_Mail.ienc l))),(18,vb v1)] [0,1,2,3] [0,1,2,3,5] [zq [0] 4 17,zq [4] 5 18] [(_,_),(_,_),(_,_),(_,_),(_,_)] rfl ⟨z1 rfl,zp rfl (op_call _ _ 10 _ _ rfl call10 rfl (ok_wherrylaw17_Heavy l _ hv1) rfl rfl),zz⟩ ?_
  refine pt_then ?_
  refine ht_cond _ rfl (fun hb2 => ?_) (fun hb2 => ?_)
  ·have h := cond_t hb2 h
   refine zgg hn [_,_,_,_,_,(6,vb true)] [0,1,2,3,4] [3,5] [zq [] 5 6] [(_,_),(_,_)] rfl ⟨z2 rfl,zz⟩ ?_
   refine ht_ret ?_
   refine pt_pick [1] (by kernel_rfl) (es' := [(_,_)]) rfl ?_
   refine pt_r_then ?_
   obtain rfl := zi h
   exact pt_ret hio rfl (.tmp _ _ .nil) rfl rfl
  ·have h := cond_f hb2 h
   refine ht_skip ?_
   refine pt_then (ht_seq ?_)
   obtain ⟨v3, hv3, h⟩ := zn h
   refine zg hn [_,_,_,_,_,(20,.fr .shr true 8 (flatten (map T_Mail.ienc l))),(21,vi origin),(22,vi number),(23,.tup [vi v3.1,vi v3.2]),(19,.tup [vi v3.1,vi v3.2]),(24,vi v3.1),(25,vi v3.2),(7,vi v3.1),(8,vi v3.2)] [0,1,2,3,4] [0,1,2,3,12,13] [zq [0] 5 20,zq [1] 6 21,zq [2] 7 22,zq [5,6,7,3] 8 23,⟨[],[8],[9],[(.slot 19)]⟩,zq [9] 10 24,zq [9] 11 25,zq [10] 12 7,zq [11] 13 8] [(_,_),(_,_),(_,_),(_,_),(_,_),(_,_)] rfl ⟨z1 rfl,z1 rfl,z1 rfl,zp rfl (op_callG _ _ 118 17 _ _ rfl call17 rfl rfl (fun _ h => h) (ok_bundle_Pack mx l origin number _ hv3) rfl rfl),zp rfl (op_move_take _ _ _ _ rfl),zp rfl (oE rfl),zp rfl (oE rfl),z2 rfl,z2 rfl,zz⟩ ?_
   refine pt_then (ht_seq ?_)
   refine zgg hn [_,_,_,_,_,_,(26,vi v3.2),(27,vb (v3.2 != 0))] [0,1,2,3,4,5] [0,1,2,3,4,5,7] [zq [5] 6 26,zq [6] 7 27] [(_,_),(_,_),(_,_),(_,_),(_,_),(_,_),(_,_)] rfl ⟨z1 rfl,z4 rfl rfl,zz⟩ ?_
   refine ht_cond _ rfl (fun hb4 => ?_) (fun hb4 => ?_)
   ·have h := cond_t hb4 h
    refine ht_seq ?_
    refine ht_joinS h (fun (s6 : Bool) => [(118, .glob (GL mx)), (6, .v (.bool s6))]) ?_ ?_
    ·rintro s6 h
     refine pt_then (ht_ret ?_)
     refine pt_pick [1] (by kernel_rfl) (es' := [(_,_)]) rfl ?_
     refine pt_r_then ?_
     obtain rfl := zi h
     exact pt_ret hio rfl (.tmp _ _ .nil) rfl rfl
    ·intro u7 h hl8 hr9
     refine cond_some h (fun hg5_2 h => ?_) (fun hg5_2 h => ?_)
     ·refine cond_some h (fun hg5_6 h => ?_) (fun hg5_6 h => ?_)
      ·obtain ⟨v5, hv5, h⟩ := zn h
       refine zg hn (_::_::_::_::_::_::_::(28,vi v3.2)::(29,vb (v3.2 == 9))::(30,vb true)::(31,vi v3.1)::(32,vb (v3.1 == 0))::(33,vb (v3.1 == 0))::(34,vb true)::(35,vb v5)::(36,vb v5)::(6,vb v5)::[]) [0,1,2,3,4,5,6] [3,16] [zq [5] 7 28,zq [7] 8 29,zq [8] 9 30,zq [9,4] 10 31,zq [9,10] 11 32,zq [9,11] 12 33,zq [12] 13 34,zq [13,3] 14 35,zq [13,14] 15 36,zq [15] 16 6] [(_,_),(_,_)] rfl ⟨z1 rfl,z4 rfl rfl,z8 hg5_2 rfl,zr' rfl (oM rfl),zr' rfl (oB rfl rfl),z3 true rfl,z8 hg5_6 rfl,zr' rfl (op_callG _ _ 118 25 _ _ rfl call25 rfl rfl (fun _ h => h) (ok_wherrylaw17_wakes mx  _ hv5) rfl rfl),z3 true rfl,z2 rfl,zz⟩ ?_
       exact hl8 _ (zi h).symm
      ·refine zg hn (_::_::_::_::_::_::_::(28,vi v3.2)::(29,vb (v3.2 == 9))::(30,vb true)::(31,vi v3.1)::(32,vb (v3.1 == 0))::(33,vb (v3.1 == 0))::(34,vb false)::(35,.v undef)::(36,vb false)::(6,vb false)::[]) [0,1,2,3,4,5,6] [3,16] [zq [5] 7 28,zq [7] 8 29,zq [8] 9 30,zq [9,4] 10 31,zq [9,10] 11 32,zq [9,11] 12 33,zq [12] 13 34,zq [13] 14 35,zq [13] 15 36,zq [15] 16 6] [(_,_),(_,_)] rfl ⟨z1 rfl,z4 rfl rfl,z8 hg5_2 rfl,zr' rfl (oM rfl),zr' rfl (oB rfl rfl),z3 true rfl,z8 hg5_6 rfl,zt rfl,z3 false rfl,z2 rfl,zz⟩ ?_
       exact hl8 _ (zi h).symm
     ·refine zg hn (_::_::_::_::_::_::_::(28,vi v3.2)::(29,vb (v3.2 == 9))::(30,vb false)::(31,.v undef)::(32,.v undef)::(33,vb false)::(34,vb false)::(35,.v undef)::(36,vb false)::(6,vb false)::[]) [0,1,2,3,4,5,6] [3,16] [zq [5] 7 28,zq [7] 8 29,zq [8] 9 30,zq [9] 10 31,zq [9] 11 32,zq [9] 12 33,zq [12] 13 34,zq [13] 14 35,zq [13] 15 36,zq [15] 16 6] [(_,_),(_,_)] rfl ⟨z1 rfl,z4 rfl rfl,z8 hg5_2 rfl,zt rfl,zt rfl,z3 false rfl,z1 rfl,zt rfl,z3 false rfl,z2 rfl,zz⟩ ?_
      exact hl8 _ (zi h).symm
   ·have h := cond_f hb4 h
    refine ht_skip ?_
    refine pt_then (ht_seq ?_)
    refine ht_seq ?_
    refine ht_joinS h (fun (s10 : Bool) => [(0, .fr .shr true 8 (flatten (map T_Mail.ienc l))), (1, .v (.int .i64 origin)), (2, .v (.int .i64 number)), (118, .glob (GL mx)), (7, .v (.int .i64 v3.1)), (48, .v (.bool s10))]) ?_ ?_
    ·rintro s10 h
     refine pt_then ?_
     refine ht_cond _ rfl (fun hb14 => ?_) (fun hb14 => ?_)
     ·have h := cond_t hb14 h
      refine zgg hn [_,_,_,_,_,_,(6,vb false)] [0,1,2,3,4,5] [3,6] [zq [] 6 6] [(_,_),(_,_)] rfl ⟨z2 rfl,zz⟩ ?_
      refine ht_ret ?_
      refine pt_pick [1] (by kernel_rfl) (es' := [(_,_)]) rfl ?_
      refine pt_r_then ?_
      obtain rfl := zi h
      exact pt_ret hio rfl (.tmp _ _ .nil) rfl rfl
     ·have h := cond_f hb14 h
      refine ht_skip ?_
      refine pt_then ?_
      refine zgg hn [_,_,_,_,_,_,(49,vi origin),(50,vi number),(51,.agg [vi origin,vi number,.v (.slice none 0 0)]),(9,.box 24 [vi 0,vi 0,.v (.slice none 0 0)]),(9,.box 24 [vi origin,vi number,.v (.slice none 0 0)])] [0,1,2,3,4,5] [0,3,4,10] [zq [1] 6 49,zq [2] 7 50,zq [6,7] 8 51,zq [] 9 9,⟨[8],[9],[10],[.cell 9 0,.cell 9 1,.cell 9 2]⟩] [(_,_),(_,_),(_,_),(_,_)] rfl ⟨z1 rfl,z1 rfl,zp rfl (op_build _ _ _ _ [1, 1, 1] _ _ underlying24 zr24 (fs24 _ underlying24) (.copy _ (.copy _ Src.nil)) rfl rfl rfl),zp rfl (op_alloc _ _ zr24),zp rfl (oS sz24 rfl),zz⟩ ?_
      refine ht_seq ?_
      refine zgg hn [_,_,_,_,(10,vi 0)] [0,1,2,3] [0,1,2,3,4] [zq [] 4 10] [(_,_),(_,_),(_,_),(_,_),(_,_)] rfl ⟨z2 rfl,zz⟩ ?_
      refine ht_sub (fs := [(0, .fr .shr true 8 (flatten (map T_Mail.ienc l))), (118, .glob (GL mx)), (7, .v (.int .i64 v3.1)), (9, .box 24 [.v (.int .i64 origin), .v (.int .i64 number), .fr (.own 46) false 8 (flatten (map T_Mail.ienc []))]), (10, .v (.int .i64 0))]) (.same _ (.same _ (.same _ (.box _ _ (subs_cons (sub_refl _) (subs_cons (sub_refl _) (subs_cons (sub_nil_fr 46 false 8) (subs_nil)))) rfl (.same _ .nil))))) ?_
      refine ht_loopS h (fun ((s24, s25) : (List T_Mail) × Int) => [(0, .fr .shr true 8 (flatten (map T_Mail.ienc l))), (118, .glob (GL mx)), (7, .v (.int .i64 v3.1)), (9, .box 24 [.v (.int .i64 origin), .v (.int .i64 number), .fr (.own 46) false 8 (flatten (map T_Mail.ienc s24))]), (10, .v (.int .i64 s25))]) (fun (s27 : (List T_Mail)) => [(0, .fr .shr true 8 (flatten (map T_Mail.ienc l))), (118, .glob (GL mx)), (7, .v (.int .i64 v3.1)), (9, .box 24 [.v (.int .i64 origin), .v (.int .i64 number), .fr (.own 46) false 8 (flatten (map T_Mail.ienc s27))])]) ?_ ?_
      ·rintro s27 h
       refine pt_then (ht_seq ?_)
       obtain ⟨v35, hv35, h⟩ := zn h
       refine zg hn [_,_,_,_,(68,.agg [vi origin,vi number,.same (.cell 9 2)]),(69,.tup [.mkr 5 (map (int .u8) v35.1),vi v35.2]),(67,.tup [.mkr 5 (map (int .u8) v35.1),vi v35.2]),(70,.mkr 5 (map (int .u8) v35.1)),(67,.tup [.any,vi v35.2]),(71,vi v35.2),(11,.mkr 5 (map (int .u8) v35.1)),(12,vi v35.2)] [0,1,2,3] [0,1,2,3,10,11] [zq [3] 4 68,zq [4,3,1] 5 69,⟨[],[5],[6],[(.slot 67)]⟩,⟨[],[6],[8,7],[(.slot 70)]⟩,zq [8] 9 71,⟨[],[7],[10],[(.slot 11)]⟩,zq [9] 11 12] [(_,_),(_,_),(_,_),(_,_),(_,_),(_,_)] rfl ⟨zp rfl (op_loadA _ _ _ _ _ _ _ underlying24 rfl sz24 rfl rfl (zl rfl) rfl rfl),zp rfl (op_callG _ _ 118 13 _ _ rfl call13 rfl rfl (fun _ h => h) (ok_bundle_Bytes mx (T_Bundle.mk origin number s27) _ hv35) rfl rfl),zp rfl (op_move_take _ _ _ _ rfl),zp rfl (op_extract_take _ _ _ _ _ rfl (zl rfl) rfl rfl (by decide) rfl),zp rfl (oE rfl),zp rfl (op_assign_take _ _ _ _ rfl),z2 rfl,zz⟩ ?_
       refine pt_then (ht_seq ?_)
       refine ht_frz 4 hio (es' := [(0, .fr .shr true 8 (flatten (map T_Mail.ienc l))), (118, .glob (GL mx)), (7, .v (.int .i64 v3.1)), (9, .box 24 [.v (.int .i64 origin), .v (.int .i64 number), .fr (.own 46) false 8 (flatten (map T_Mail.ienc s27))]), (11, .fl .ro 1 (map (int .u8) v35.1)), (12, .v (.int .i64 v35.2))]) rfl ?_
       obtain ⟨v36, hv36, h⟩ := zn h
       refine zg hn (_::_::_::_::_::_::(73,.fl .ro 1 (map (int .u8) v35.1))::(74,.tup [.agg [vi v36.1.Origin,vi v36.1.Number,.fr (.own 46) false 8 (flatten (map T_Mail.ienc v36.1.Mails))],vi v36.2])::(72,.tup [.agg [vi v36.1.Origin,vi v36.1.Number,.fr (.own 46) false 8 (flatten (map T_Mail.ienc v36.1.Mails))],vi v36.2])::(75,.agg [vi v36.1.Origin,vi v36.1.Number,.fr (.own 46) false 8 (flatten (map T_Mail.ienc v36.1.Mails))])::(72,.tup [.any,vi v36.2])::(76,vi v36.2)::(13,.box 24 [vi 0,vi 0,.v (.slice none 0 0)])::(13,.box 24 [vi v36.1.Origin,vi v36.1.Number,.fr (.own 46) false 8 (flatten (map T_Mail.ienc v36.1.Mails))])::(14,vi v36.2)::[]) [0,1,2,3,4,5] [0,1,2,3,5,13,14] [zq [4] 6 73,zq [6,1] 7 74,⟨[],[7],[8],[(.slot 72)]⟩,⟨[],[8],[10,9],[(.slot 75)]⟩,zq [10] 11 76,zq [] 12 13,⟨[],[9,12],[13],[.cell 13 0,.cell 13 1,.cell 13 2]⟩,zq [11] 14 14] [(_,_),(_,_),(_,_),(_,_),(_,_),(_,_),(_,_)] rfl ⟨z1 rfl,zp rfl (op_callRG _ _ 118 15 _ _ rfl call15 rfl rfl (fun _ h => h) (ok_bundle_Read_ro mx v35.1 _ hv36) rfl rfl),zp rfl (op_move_take _ _ _ _ rfl),zp rfl (op_extract_take _ _ _ _ _ rfl (zl rfl) rfl rfl (by decide) rfl),zp rfl (oE rfl),zp rfl (op_alloc _ _ zr24),zp rfl (op_store_take _ _ _ _ _ _ _ _ sz24 rfl rfl rfl (zl rfl) rfl rfl),z2 rfl,zz⟩ ?_
       refine pt_then (ht_seq ?_)
       refine ht_seq ?_
       refine ht_joinS h (fun (s38 : Bool) => [(0, .fr .shr true 8 (flatten (map T_Mail.ienc l))), (118, .glob (GL mx)), (7, .v (.int .i64 v3.1)), (9, .box 24 [.v (.int .i64 origin), .v (.int .i64 number), .fr (.own 46) false 8 (flatten (map T_Mail.ienc s27))]), (88, .v (.bool s38))]) ?_ ?_
       ·rintro s38 h
        refine pt_then ?_
        refine ht_cond _ rfl (fun hb42 => ?_) (fun hb42 => ?_)
        ·have h := cond_t hb42 h
         refine zgg hn [_,_,_,_,_,(6,vb false)] [0,1,2,3,4] [1,5] [zq [] 5 6] [(_,_),(_,_)] rfl ⟨z2 rfl,zz⟩ ?_
         refine ht_ret ?_
         refine pt_pick [1] (by kernel_rfl) (es' := [(_,_)]) rfl ?_
         refine pt_r_then ?_
         obtain rfl := zi h
         exact pt_ret hio rfl (.tmp _ _ .nil) rfl rfl
        ·have h := cond_f hb42 h
         refine ht_skip ?_
         refine pt_then (ht_seq ?_)
         refine ht_seq ?_
         refine ht_joinS h (fun (s43 : Bool) => [(0, .fr .shr true 8 (flatten (map T_Mail.ienc l))), (118, .glob (GL mx)), (7, .v (.int .i64 v3.1)), (9, .box 24 [.v (.int .i64 origin), .v (.int .i64 number), .fr (.own 46) false 8 (flatten (map T_Mail.ienc s27))]), (96, .v (.bool s43))]) ?_ ?_
         ·rintro s43 h
          refine pt_then ?_
          refine ht_cond _ rfl (fun hb47 => ?_) (fun hb47 => ?_)
          ·have h := cond_t hb47 h
           refine ht_seq ?_
           obtain ⟨v48, hv48, h⟩ := zn h
           refine zg hn [_,_,_,_,_,(97,vb v48),(6,vb v48)] [0,1,2,3,4] [1,6] [zq [1] 5 97,zq [5] 6 6] [(_,_),(_,_)] rfl ⟨zp rfl (op_callG _ _ 118 25 _ _ rfl call25 rfl rfl (fun _ h => h) (ok_wherrylaw17_wakes mx  _ hv48) rfl rfl),z2 rfl,zz⟩ ?_
           refine pt_then (ht_ret ?_)
           refine pt_pick [1] (by kernel_rfl) (es' := [(_,_)]) rfl ?_
           refine pt_r_then ?_
           obtain rfl := zi h
           exact pt_ret hio rfl (.tmp _ _ .nil) rfl rfl
          ·have h := cond_f hb47 h
           refine ht_skip ?_
           refine pt_then (ht_seq ?_)
           obtain ⟨v49, hv49, h⟩ := zn h
           obtain ⟨v50, hv50, h⟩ := zn h
           obtain ⟨v51, hv51, h⟩ := zn h
           obtain ⟨v52, hv52, h⟩ := zn h
           refine ht_anyR (by kernel_rfl) hn (El := (_ :: _ :: _ :: _ :: _ :: (98, .ptr 9 2) :: (99, .same (.cell 9 2)) :: (100, .fr .shr true 8 (flatten (map T_Mail.ienc l))) :: (101, .v (.int .i64 v3.1)) :: (102, .eref (.slot 100) (v49 * 8)) :: (103, .agg [.v (.bool v50.From.Null), .v (.string v50.From.Local), .v (.string v50.From.Domain), .fl .shr 3 (flatten (map T_Path.enc v50.To)), .fl .shr 1 (map (int .u8) v50.Body), .v (.bool v50.Quiet), .v (.string v50.Helo), .v (.int .i64 v50.At)]) :: (104, .agg [.v (.bool v51.From.Null), .v (.string v51.From.Local), .v (.string v51.From.Domain), .fl (.own 43) 3 (flatten (map T_Path.enc v51.To)), .fl (.own 5) 1 (map (int .u8) v51.Body), .v (.bool v51.Quiet), .v (.string v51.Helo), .v (.int .i64 v51.At)]) :: (105, .fr (.own 46) false 8 (flatten (map T_Mail.ienc [(T_Mail.mk (T_Path.mk v51.From.Null v51.From.Local v51.From.Domain) v51.To v51.Body v51.Quiet v51.Helo v51.At)]))) :: (106, .fr (.own 46) false 8 (flatten (map T_Mail.ienc v52))) :: (9, .box 24 [.v (.int .i64 origin), .v (.int .i64 number), .any]) :: (107, .ptr 9 2) :: (9, .box 24 [.v (.int .i64 origin), .v (.int .i64 number), .fr (.own 46) false 8 (flatten (map T_Mail.ienc v52))]) :: [])) (init := [0, 1, 2, 3, 4]) (fin := [1, 16]) (sps := [zq [3] 5 98, zq [5,3] 6 99, zq [0] 7 100, zq [2] 8 101, zq [7,8] 9 102, zq [9,7] 10 103, zq [10] 11 104, ⟨[], [11], [12], [(.slot 105)]⟩, ⟨[6, 12], [3], [14, 13], [(.slot 106)]⟩, zq [14] 15 107, ⟨[15], [6, 13, 14], [16], [.cell 9 2]⟩]) (es' := [(_,_),(9, .box 24 [.v (.int .i64 origin), .v (.int .i64 number), .fr (.own 46) false 8 (flatten (map T_Mail.ienc v52))])]) (by kernel_rfl) rfl rfl ⟨zp rfl (oF underlying24 rfl sz22),zp rfl (oL underlying22 rfl),z1 rfl,z1 rfl,zp rfl (op_ix_fr _ _ _ _ _ _ _ _ underlying22 sz46 (by decide) rfl rfl rfl (ix_ok hv49).1 (gflat_lt T_Mail.ilen (ix_ok hv49).2) rfl),zp rfl (op_loadA_fr _ _ _ _ _ _ _ _ underlying46 rfl sz46 rfl rfl (gflat_get T_Mail.ilen hv50) (.cons (.v _) (.cons (.v _) (.cons (.v _) (.cons (.fl _ _ rfl) (.cons (.fl _ _ rfl) (.cons (.v _) (.cons (.v _) (.cons (.v _) (.nil))))))))) rfl (by decide)),zp rfl (op_call _ _ 26 _ _ rfl call26 rfl (ok_wherryref11_Plain ((T_Mail.mk (T_Path.mk v50.From.Null v50.From.Local v50.From.Domain) v50.To v50.Body v50.Quiet v50.Helo v50.At)) _ hv51) rfl rfl),zp rfl (op_build1_fr_take _ _ _ 8 (.agg #[.bool false, .string ByteArray.empty, .string ByteArray.empty, .slice none 0 0, .slice none 0 0, .bool false, .string ByteArray.empty, .int .i64 0]) false _ _ underlying22 sz46 zr46 rfl (.cons (.v _) (.cons (.v _) (.cons (.v _) (.cons (.ro _ _ rfl) (.cons (.ro _ _ rfl) (.cons (.v _) (.cons (.v _) (.cons (.v _) (.nil))))))))) rfl (by decide) (by decide)),zp rfl (op_app_fr_cell _ 106 9 2 _ _ el22 rfl rfl (zl rfl) rfl (gflat_len T_Mail.ilen _) (gflat_len T_Mail.ilen _) hv52 (gflat_app (app_eq hv52)) (by decide) (by decide) (by decide) rfl rfl),zp rfl (oF underlying24 rfl sz22),zp rfl (LOp.drop [_] (op_store_take _ _ _ _ _ _ _ _ sz22 rfl rfl rfl (zl rfl) rfl rfl)),zz⟩ ?_
           refine pt_then (ht_seq ?_)
           obtain ⟨v53, hv53, h⟩ := zn h
           refine zg hn [_,_,(109,.agg [vi origin,vi number,.fr (.own 46) false 8 (flatten (map T_Mail.ienc v52))]),(110,.tup [.mkr 5 (map (int .u8) v53.1),vi v53.2]),(108,.tup [.mkr 5 (map (int .u8) v53.1),vi v53.2]),(111,.mkr 5 (map (int .u8) v53.1)),(108,.tup [.any,vi v53.2]),(112,vi v53.2),(15,.mkr 5 (map (int .u8) v53.1)),(16,vi v53.2)] [0,1] [0,9] [⟨[],[1],[2],[(.slot 109)]⟩,zq [2,0] 3 110,⟨[],[3],[4],[(.slot 108)]⟩,⟨[],[4],[6,5],[(.slot 111)]⟩,zq [6] 7 112,⟨[],[5],[8],[(.slot 15)]⟩,zq [7] 9 16] [(_,_),(_,_)] rfl ⟨zp rfl (op_loadA_take _ _ _ _ underlying24 rfl sz24 rfl rfl),zp rfl (op_callG _ _ 118 13 _ _ rfl call13 rfl rfl (fun _ h => h) (ok_bundle_Bytes mx (T_Bundle.mk origin number v52) _ hv53) rfl rfl),zp rfl (op_move_take _ _ _ _ rfl),zp rfl (op_extract_take _ _ _ _ _ rfl (zl rfl) rfl rfl (by decide) rfl),zp rfl (oE rfl),zp rfl (op_assign_take _ _ _ _ rfl),z2 rfl,zz⟩ ?_
           refine pt_then (ht_seq ?_)
           refine ht_joinS h (fun (s55 : Bool) => [(118, .glob (GL mx)), (6, .v (.bool s55))]) ?_ ?_
           ·rintro s55 h
            refine pt_then (ht_ret ?_)
            refine pt_pick [1] (by kernel_rfl) (es' := [(_,_)]) rfl ?_
            obtain rfl := zi h
            exact pt_ret hio rfl (.tmp _ _ .nil) rfl rfl
           ·intro u56 h hl57 hr58
            refine cond_some h (fun hg21_2 h => ?_) (fun hg21_2 h => ?_)
            ·obtain ⟨v54, hv54, h⟩ := zn h
             refine zg hn [_,_,(113,vi v53.2),(114,vb (v53.2 != 0)),(115,vb true),(116,vb v54),(117,vb v54),(6,vb v54)] [0,1] [0,7] [zq [1] 2 113,zq [2] 3 114,zq [3] 4 115,zq [4,0] 5 116,zq [4,5] 6 117,zq [6] 7 6] [(_,_),(_,_)] rfl ⟨z1 rfl,z4 rfl rfl,z8 hg21_2 rfl,zr' rfl (op_callG _ _ 118 25 _ _ rfl call25 rfl rfl (fun _ h => h) (ok_wherrylaw17_wakes mx  _ hv54) rfl rfl),z3 true rfl,z2 rfl,zz⟩ ?_
             exact hl57 _ (zi h).symm
            ·refine zg hn [_,_,(113,vi v53.2),(114,vb (v53.2 != 0)),(115,vb false),(116,.v undef),(117,vb false),(6,vb false)] [0,1] [0,7] [zq [1] 2 113,zq [2] 3 114,zq [3] 4 115,zq [4] 5 116,zq [4] 6 117,zq [6] 7 6] [(_,_),(_,_)] rfl ⟨z1 rfl,z4 rfl rfl,z8 hg21_2 rfl,zt rfl,z3 false rfl,z2 rfl,zz⟩ ?_
             exact hl57 _ (zi h).symm
         ·intro u44 h hl45 hr46
          refine cond_some h (fun hg17_4 h => ?_) (fun hg17_4 h => ?_)
          ·refine zg hn [_,_,_,_,_,(89,vi v3.1),(90,.fr .shr true 8 (flatten (map T_Mail.ienc l))),(91,vi (l.length : Int)),(92,vb (v3.1 == (l.length : Int))),(93,vb true),(94,.v undef),(95,.v undef),(96,vb true)] [0,1,2,3,4] [0,1,2,3,12] [zq [2] 5 89,zq [0] 6 90,zq [6] 7 91,zq [5,7] 8 92,zq [8] 9 93,zq [9] 10 94,zq [9] 11 95,zq [9] 12 96] [(_,_),(_,_),(_,_),(_,_),(_,_)] rfl ⟨z1 rfl,z1 rfl,zp rfl (op_len_fr _ _ _ underlying22 rfl (by decide) (gflat_len T_Mail.ilen _)),z4 rfl rfl,z8 hg17_4 rfl,zf rfl,zf rfl,z3 true rfl,zz⟩ ?_
           exact hl45 _ (zi h).symm
          ·refine zg hn [_,_,_,_,_,(89,vi v3.1),(90,.fr .shr true 8 (flatten (map T_Mail.ienc l))),(91,vi (l.length : Int)),(92,vb (v3.1 == (l.length : Int))),(93,vb false),(94,vi v3.1),(95,vb (v3.1 == 4)),(96,vb (v3.1 == 4))] [0,1,2,3,4] [0,1,2,3,12] [zq [2] 5 89,zq [0] 6 90,zq [6] 7 91,zq [5,7] 8 92,zq [8] 9 93,zq [9,2] 10 94,zq [9,10] 11 95,zq [9,11] 12 96] [(_,_),(_,_),(_,_),(_,_),(_,_)] rfl ⟨z1 rfl,z1 rfl,zp rfl (op_len_fr _ _ _ underlying22 rfl (by decide) (gflat_len T_Mail.ilen _)),z4 rfl rfl,z8 hg17_4 rfl,zr' rfl (oM rfl),zr' rfl (oB rfl rfl),z3 false rfl,zz⟩ ?_
           exact hl45 _ (zi h).symm
       ·intro u39 h hl40 hr41
        refine cond_some h (fun hg15_2 h => ?_) (fun hg15_2 h => ?_)
        ·refine zg hn (_::_::_::_::_::_::_::(77,vi v35.2)::(78,vb (v35.2 != 0))::(79,vb true)::(80,.v undef)::(81,.v undef)::(82,vb true)::(83,vb true)::(84,.v undef)::(85,.v undef)::(86,.v undef)::(87,.v undef)::(88,vb true)::[]) [0,1,2,3,4,5,6] [0,1,2,3,18] [zq [4] 7 77,zq [7] 8 78,zq [8] 9 79,zq [9] 10 80,zq [9] 11 81,zq [9] 12 82,zq [12] 13 83,zq [13] 14 84,zq [13] 15 85,zq [13] 16 86,zq [13] 17 87,zq [13] 18 88] [(_,_),(_,_),(_,_),(_,_),(_,_)] rfl ⟨z1 rfl,z4 rfl rfl,z8 hg15_2 rfl,zf rfl,zf rfl,z3 true rfl,z1 rfl,zf rfl,zf rfl,zf rfl,zf rfl,z3 true rfl,zz⟩ ?_
         exact hl40 _ (zi h).symm
        ·refine cond_some h (fun hg15_6 h => ?_) (fun hg15_6 h => ?_)
         ·refine zg hn (_::_::_::_::_::_::_::(77,vi v35.2)::(78,vb (v35.2 != 0))::(79,vb false)::(80,vi v36.2)::(81,vb (v36.2 != 0))::(82,vb (v36.2 != 0))::(83,vb true)::(84,.v undef)::(85,.v undef)::(86,.v undef)::(87,.v undef)::(88,vb true)::[]) [0,1,2,3,4,5,6] [0,1,2,3,18] [zq [4] 7 77,zq [7] 8 78,zq [8] 9 79,zq [9,6] 10 80,zq [9,10] 11 81,zq [9,11] 12 82,zq [12] 13 83,zq [13] 14 84,zq [13] 15 85,zq [13] 16 86,zq [13] 17 87,zq [13] 18 88] [(_,_),(_,_),(_,_),(_,_),(_,_)] rfl ⟨z1 rfl,z4 rfl rfl,z8 hg15_2 rfl,zr' rfl (oM rfl),zr' rfl (oB rfl rfl),z3 false rfl,z8 hg15_6 rfl,zf rfl,zf rfl,zf rfl,zf rfl,z3 true rfl,zz⟩ ?_
          exact hl40 _ (zi h).symm
         ·obtain ⟨v37, hv37, h⟩ := zn h
          refine zg hn (_::_::_::_::_::_::_::(77,vi v35.2)::(78,vb (v35.2 != 0))::(79,vb false)::(80,vi v36.2)::(81,vb (v36.2 != 0))::(82,vb (v36.2 != 0))::(83,vb false)::(84,.agg [vi v36.1.Origin,vi v36.1.Number,.fr (.own 46) false 8 (flatten (map T_Mail.ienc v36.1.Mails))])::(85,.agg [vi origin,vi number,.same (.cell 9 2)])::(86,vb v37)::(87,vb (!v37))::(88,vb (!v37))::[]) [0,1,2,3,4,5,6] [0,1,2,3,18] [zq [4] 7 77,zq [7] 8 78,zq [8] 9 79,zq [9,6] 10 80,zq [9,10] 11 81,zq [9,11] 12 82,zq [12] 13 83,⟨[13],[5],[14],[(.slot 84)]⟩,zq [13,3] 15 85,zq [13,14,15,3] 16 86,zq [13,16] 17 87,zq [13,17] 18 88] [(_,_),(_,_),(_,_),(_,_),(_,_)] rfl ⟨z1 rfl,z4 rfl rfl,z8 hg15_2 rfl,zr' rfl (oM rfl),zr' rfl (oB rfl rfl),z3 false rfl,z8 hg15_6 rfl,zr' rfl (op_loadA_take _ _ _ _ underlying24 rfl sz24 rfl rfl),zr' rfl (op_loadA _ _ _ _ _ _ _ underlying24 rfl sz24 rfl rfl (zl rfl) rfl rfl),zr' rfl (op_call _ _ 22 _ _ rfl call22 rfl (ok_wherrykeep_Bundle v36.1 (T_Bundle.mk origin number s27) _ hv37) rfl rfl),zr' rfl (op_un _ _ _ _ rfl rfl),z3 false rfl,zz⟩ ?_
          exact hl40 _ (zi h).symm
      ·rintro u28 hl29 hr30 ⟨s24, s25⟩ rr33 h ho31
       refine ht_seq ?_
       refine zgg hn [_,_,_,_,_,(52,vi s25),(53,vi v3.1),(54,vb (decide (s25 < v3.1)))] [0,1,2,3,4] [0,1,2,3,4,7] [zq [4] 5 52,zq [2] 6 53,zq [5,6] 7 54] [(_,_),(_,_),(_,_),(_,_),(_,_),(_,_)] rfl ⟨z1 rfl,z1 rfl,z4 rfl rfl,zz⟩ ?_
       refine ht_cond _ rfl (fun hb34 => ?_) (fun hb34 => ?_)
       ·have h := cond_t hb34 h
        refine ht_skip ?_
        refine pt_then (ht_seq ?_)
        refine ht_block ?_
        obtain ⟨v16, hv16, h⟩ := zn h
        obtain ⟨v17, hv17, h⟩ := zn h
        obtain ⟨v18, hv18, h⟩ := zn h
        obtain ⟨v19, hv19, h⟩ := zn h
        refine ht_anyR (by kernel_rfl) hn (El := (_ :: _ :: _ :: _ :: _ :: _ :: (57, .ptr 9 2) :: (58, .same (.cell 9 2)) :: (59, .fr .shr true 8 (flatten (map T_Mail.ienc l))) :: (60, .v (.int .i64 s25)) :: (61, .eref (.slot 59) (v16 * 8)) :: (62, .agg [.v (.bool v17.From.Null), .v (.string v17.From.Local), .v (.string v17.From.Domain), .fl .shr 3 (flatten (map T_Path.enc v17.To)), .fl .shr 1 (map (int .u8) v17.Body), .v (.bool v17.Quiet), .v (.string v17.Helo), .v (.int .i64 v17.At)]) :: (63, .agg [.v (.bool v18.From.Null), .v (.string v18.From.Local), .v (.string v18.From.Domain), .fl (.own 43) 3 (flatten (map T_Path.enc v18.To)), .fl (.own 5) 1 (map (int .u8) v18.Body), .v (.bool v18.Quiet), .v (.string v18.Helo), .v (.int .i64 v18.At)]) :: (64, .fr (.own 46) false 8 (flatten (map T_Mail.ienc [(T_Mail.mk (T_Path.mk v18.From.Null v18.From.Local v18.From.Domain) v18.To v18.Body v18.Quiet v18.Helo v18.At)]))) :: (65, .fr (.own 46) false 8 (flatten (map T_Mail.ienc v19))) :: (9, .box 24 [.v (.int .i64 origin), .v (.int .i64 number), .any]) :: (66, .ptr 9 2) :: (9, .box 24 [.v (.int .i64 origin), .v (.int .i64 number), .fr (.own 46) false 8 (flatten (map T_Mail.ienc v19))]) :: [])) (init := [0, 1, 2, 3, 4, 5]) (fin := [0, 1, 2, 17, 4]) (sps := [zq [3] 6 57, zq [6,3] 7 58, zq [0] 8 59, zq [4] 9 60, zq [8,9] 10 61, zq [10,8] 11 62, zq [11] 12 63, ⟨[], [12], [13], [(.slot 64)]⟩, ⟨[7, 13], [3], [15, 14], [(.slot 65)]⟩, zq [15] 16 66, ⟨[16], [7, 14, 15], [17], [.cell 9 2]⟩]) (es' := [(_,_),(_,_),(_,_),(9, .box 24 [.v (.int .i64 origin), .v (.int .i64 number), .fr (.own 46) false 8 (flatten (map T_Mail.ienc v19))]), (_,_)]) (by kernel_rfl) rfl rfl ⟨zp rfl (oF underlying24 rfl sz22),zp rfl (oL underlying22 rfl),z1 rfl,z1 rfl,zp rfl (op_ix_fr _ _ _ _ _ _ _ _ underlying22 sz46 (by decide) rfl rfl rfl (ix_ok hv16).1 (gflat_lt T_Mail.ilen (ix_ok hv16).2) rfl),zp rfl (op_loadA_fr _ _ _ _ _ _ _ _ underlying46 rfl sz46 rfl rfl (gflat_get T_Mail.ilen hv17) (.cons (.v _) (.cons (.v _) (.cons (.v _) (.cons (.fl _ _ rfl) (.cons (.fl _ _ rfl) (.cons (.v _) (.cons (.v _) (.cons (.v _) (.nil))))))))) rfl (by decide)),zp rfl (op_call _ _ 26 _ _ rfl call26 rfl (ok_wherryref11_Plain ((T_Mail.mk (T_Path.mk v17.From.Null v17.From.Local v17.From.Domain) v17.To v17.Body v17.Quiet v17.Helo v17.At)) _ hv18) rfl rfl),zp rfl (op_build1_fr_take _ _ _ 8 (.agg #[.bool false, .string ByteArray.empty, .string ByteArray.empty, .slice none 0 0, .slice none 0 0, .bool false, .string ByteArray.empty, .int .i64 0]) false _ _ underlying22 sz46 zr46 rfl (.cons (.v _) (.cons (.v _) (.cons (.v _) (.cons (.ro _ _ rfl) (.cons (.ro _ _ rfl) (.cons (.v _) (.cons (.v _) (.cons (.v _) (.nil))))))))) rfl (by decide) (by decide)),zp rfl (op_app_fr_cell _ 65 9 2 _ _ el22 rfl rfl (zl rfl) rfl (gflat_len T_Mail.ilen _) (gflat_len T_Mail.ilen _) hv19 (gflat_app (app_eq hv19)) (by decide) (by decide) (by decide) rfl rfl),zp rfl (oF underlying24 rfl sz22),zp rfl (LOp.drop [_] (op_store_take _ _ _ _ _ _ _ _ sz22 rfl rfl rfl (zl rfl) rfl rfl)),zz⟩ ?_
        refine pt_inb ?_
        refine pt_then ?_
        obtain ⟨v20, hv20, h⟩ := zn h
        refine zg hn [_,_,_,_,_,(55,vi s25),(56,vi v20),(10,vi v20)] [0,1,2,3,4] [0,1,2,3,7] [zq [4] 5 55,zq [5] 6 56,⟨[6],[4],[7],[(.slot 10)]⟩] [(_,_),(_,_),(_,_),(_,_),(_,_)] rfl ⟨z1 rfl,zp rfl (oB rfl (ibind (f := int .i64) (Option.some.inj hv20))),zp rfl (LOp.drop [_] (op_assign _ _ _ _ rfl rfl)),zz⟩ ?_
        exact pt_next _ (zi h).symm rfl
       ·have h := cond_f hb34 h
        refine ht_exit ?_
        refine pt_x_then ?_
        refine pt_x_then ?_
        refine pt_x_in ?_
        refine pt_pick [0, 1, 2, 3] (by kernel_rfl) (es' := [(_,_),(_,_),(_,_),(_,_)]) rfl ?_
        exact hl29 _ (ho31 _ (zi h).symm).symm
    ·intro u11 h hl12 hr13
     refine cond_some h (fun hg6_2 h => ?_) (fun hg6_2 h => ?_)
     ·refine zg hn (_::_::_::_::_::_::_::(37,vi v3.1)::(38,vb (decide (v3.1 < 1)))::(39,vb true)::(40,.v undef)::(41,.v undef)::(42,.v undef)::(43,.v undef)::(44,vb true)::(45,vb true)::(46,.v undef)::(47,.v undef)::(48,vb true)::[]) [0,1,2,3,4,5,6] [0,1,2,3,4,18] [zq [4] 7 37,zq [7] 8 38,zq [8] 9 39,zq [9] 10 40,zq [9] 11 41,zq [9] 12 42,zq [9] 13 43,zq [9] 14 44,zq [14] 15 45,zq [15] 16 46,zq [15] 17 47,zq [15] 18 48] [(_,_),(_,_),(_,_),(_,_),(_,_),(_,_)] rfl ⟨z1 rfl,z4 rfl rfl,z8 hg6_2 rfl,zf rfl,zf rfl,zf rfl,zf rfl,z3 true rfl,z1 rfl,zf rfl,zf rfl,z3 true rfl,zz⟩ ?_
      exact hl12 _ (zi h).symm
     ·refine cond_some h (fun hg6_8 h => ?_) (fun hg6_8 h => ?_)
      ·refine zg hn (_::_::_::_::_::_::_::(37,vi v3.1)::(38,vb (decide (v3.1 < 1)))::(39,vb false)::(40,vi v3.1)::(41,.fr .shr true 8 (flatten (map T_Mail.ienc l)))::(42,vi (l.length : Int))::(43,vb (decide ((l.length : Int) < v3.1)))::(44,vb (decide ((l.length : Int) < v3.1)))::(45,vb true)::(46,.v undef)::(47,.v undef)::(48,vb true)::[]) [0,1,2,3,4,5,6] [0,1,2,3,4,18] [zq [4] 7 37,zq [7] 8 38,zq [8] 9 39,zq [9,4] 10 40,zq [9,0] 11 41,zq [9,11] 12 42,zq [9,10,12] 13 43,zq [9,13] 14 44,zq [14] 15 45,zq [15] 16 46,zq [15] 17 47,zq [15] 18 48] [(_,_),(_,_),(_,_),(_,_),(_,_),(_,_)] rfl ⟨z1 rfl,z4 rfl rfl,z8 hg6_2 rfl,zr' rfl (oM rfl),zr' rfl (oM rfl),zr' rfl (op_len_fr _ _ _ underlying22 rfl (by decide) (gflat_len T_Mail.ilen _)),zr' rfl (oB rfl rfl),z3 false rfl,z8 hg6_8 rfl,zf rfl,zf rfl,z3 true rfl,zz⟩ ?_
       exact hl12 _ (zi h).symm
      ·refine zg hn (_::_::_::_::_::_::_::(37,vi v3.1)::(38,vb (decide (v3.1 < 1)))::(39,vb false)::(40,vi v3.1)::(41,.fr .shr true 8 (flatten (map T_Mail.ienc l)))::(42,vi (l.length : Int))::(43,vb (decide ((l.length : Int) < v3.1)))::(44,vb (decide ((l.length : Int) < v3.1)))::(45,vb false)::(46,vi v3.1)::(47,vb (decide (4 < v3.1)))::(48,vb (decide (4 < v3.1)))::[]) [0,1,2,3,4,5,6] [0,1,2,3,4,18] [zq [4] 7 37,zq [7] 8 38,zq [8] 9 39,zq [9,4] 10 40,zq [9,0] 11 41,zq [9,11] 12 42,zq [9,10,12] 13 43,zq [9,13] 14 44,zq [14] 15 45,zq [15,4] 16 46,zq [15,16] 17 47,zq [15,17] 18 48] [(_,_),(_,_),(_,_),(_,_),(_,_),(_,_)] rfl ⟨z1 rfl,z4 rfl rfl,z8 hg6_2 rfl,zr' rfl (oM rfl),zr' rfl (oM rfl),zr' rfl (op_len_fr _ _ _ underlying22 rfl (by decide) (gflat_len T_Mail.ilen _)),zr' rfl (oB rfl rfl),z3 false rfl,z8 hg6_8 rfl,zr' rfl (oM rfl),zr' rfl (oB rfl rfl),z3 false rfl,zz⟩ ?_
       exact hl12 _ (zi h).symm

end Go.Proofs.YtglabbpbianmnaaGreatDoor
