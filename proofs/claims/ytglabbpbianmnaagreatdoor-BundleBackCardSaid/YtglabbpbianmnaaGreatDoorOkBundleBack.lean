/-
  The model's runs are what is told in Lean.
-/
import Derived.Test.YtglabbpbianmnaaGreatDoorProg
import Derived.KernelRfl
import Derived.Test.YtglabbpbianmnaaGreatDoorShelf
import Derived.Test.YtglabbpbianmnaaGreatDoorIdx
import Derived.Test.YtglabbpbianmnaaGreatDoorOkc3
set_option linter.unusedVariables false
set_option linter.unusedSimpArgs false
set_option maxHeartbeats 1000000
namespace Go.Proofs.YtglabbpbianmnaaGreatDoor
open Go.Abs Go.Abs.Sh Tryz
open List (map flatten)
open Value (int)

theorem ok_wherrylaw17_BundleBack (mx : Int) (b : T_Bundle) (t : (List Int)) (r : Bool) (h : Sh.wherrylaw17_BundleBack b t = some r) : FnG Tryz.prog (GL mx) 4 [.agg [.v (.int .i64 b.Origin), .v (.int .i64 b.Number), .fr .shr true 8 (flatten (map T_Mail.ienc b.Mails))], .fl .shr 1 (map (int .u8) t)] (.v (.bool r)) := by
  unfold Sh.wherrylaw17_BundleBack at h
  refine fn_okG func4 rfl (zl rfl) rfl rfl fun g0 hn hio => ?_
  refine zgg hn [_,_,_,(2,.box 24 [vi b.Origin,vi b.Number,.fr .shr true 8 (flatten (map T_Mail.ienc b.Mails))]),(4,vb false)] [0,1,2] [1,2,3] [zq [0] 3 2,zq [] 4 4] [(_,_),(_,_),(_,_)] rfl ⟨zp rfl (op_box _ _ _ _ rfl rfl rfl),z2 rfl,zz⟩ ?_
  refine ht_seq ?_
  refine ht_seq ?_
  refine ht_joinS h (fun (s2 : Bool) => [(1, .fl .shr 1 (map (int .u8) t)), (87, .glob (GL mx)), (2, .box 24 [.v (.int .i64 b.Origin), .v (.int .i64 b.Number), .fr .shr true 8 (flatten (map T_Mail.ienc b.Mails))]), (20, .v (.bool s2))]) ?_ ?_
  ·rintro s2 h
   refine pt_then ?_
   refine ht_cond _ rfl (fun hb6 => ?_) (fun hb6 => ?_)
   ·have h := cond_t hb6 h
    refine zgg hn [_,_,_,_,(4,vb true)] [0,1,2,3] [1,4] [zq [] 4 4] [(_,_),(_,_)] rfl ⟨z2 rfl,zz⟩ ?_
    refine ht_ret ?_
    refine pt_pick [1] (by kernel_rfl) (es' := [(_,_)]) rfl ?_
    refine pt_r_then ?_
    obtain rfl := zi h
    exact pt_ret hio rfl (.tmp _ _ .nil) rfl rfl
   ·have h := cond_f hb6 h
    refine ht_skip ?_
    refine pt_then (ht_seq ?_)
    refine ht_joinS h (fun (() : Unit) => [(1, .fl .shr 1 (map (int .u8) t)), (87, .glob (GL mx))]) ?_ ?_
    ·rintro ⟨⟩ h
     refine pt_then (ht_seq ?_)
     obtain ⟨v26, hv26, h⟩ := zn h
     refine zg hn [_,_,(52,.fl .shr 1 (map (int .u8) t)),(53,.tup [.agg [vi v26.1.Origin,vi v26.1.Number,.fr .shr true 8 (flatten (map T_Mail.ienc v26.1.Mails))],vi v26.2]),(51,.tup [.agg [vi v26.1.Origin,vi v26.1.Number,.fr .shr true 8 (flatten (map T_Mail.ienc v26.1.Mails))],vi v26.2]),(54,.agg [vi v26.1.Origin,vi v26.1.Number,.fr .shr true 8 (flatten (map T_Mail.ienc v26.1.Mails))]),(55,vi v26.2),(9,.box 24 [vi 0,vi 0,.v (.slice none 0 0)]),(9,.box 24 [vi v26.1.Origin,vi v26.1.Number,.fr .shr true 8 (flatten (map T_Mail.ienc v26.1.Mails))]),(10,vi v26.2)] [0,1] [0,1,8,9] [zq [0] 2 52,zq [2,1] 3 53,⟨[],[3],[4],[(.slot 51)]⟩,zq [4] 5 54,zq [4] 6 55,zq [] 7 9,⟨[5],[7],[8],[.cell 9 0,.cell 9 1,.cell 9 2]⟩,zq [6] 9 10] [(_,_),(_,_),(_,_),(_,_)] rfl ⟨z1 rfl,zp rfl (op_callSG _ _ 87 15 _ _ rfl call15 rfl rfl rfl (fun _ h => h) (ok_bundle_Read_sh mx t _ hv26) rfl),zp rfl (op_move_take _ _ _ _ rfl),zp rfl (op_extract_no _ _ _ _ _ _ rfl rfl (zl rfl) rfl rfl),zp rfl (oE rfl),zp rfl (op_alloc _ _ zr24),zp rfl (oS sz24 rfl),z2 rfl,zz⟩ ?_
     refine pt_then (ht_seq ?_)
     refine zgg hn [_,_,_,_,(56,vi v26.2),(57,vb (v26.2 != 0))] [0,1,2,3] [0,1,2,3,5] [zq [3] 4 56,zq [4] 5 57] [(_,_),(_,_),(_,_),(_,_),(_,_)] rfl ⟨z1 rfl,z4 rfl rfl,zz⟩ ?_
     refine ht_cond _ rfl (fun hb27 => ?_) (fun hb27 => ?_)
     ·have h := cond_t hb27 h
      refine ht_seq ?_
      refine ht_joinS h (fun (s32 : Bool) => [(87, .glob (GL mx)), (4, .v (.bool s32))]) ?_ ?_
      ·rintro s32 h
       refine pt_then (ht_ret ?_)
       refine pt_pick [1] (by kernel_rfl) (es' := [(_,_)]) rfl ?_
       refine pt_r_then ?_
       obtain rfl := zi h
       exact pt_ret hio rfl (.tmp _ _ .nil) rfl rfl
      ·intro u33 h hl34 hr35
       refine cond_some h (fun hg10_2 h => ?_) (fun hg10_2 h => ?_)
       ·obtain ⟨v28, hv28, h⟩ := zn h
        refine cond_some h (fun hg10_11 h => ?_) (fun hg10_11 h => ?_)
        ·obtain ⟨v29, hv29, h⟩ := zn h
         refine zg hn (_::_::_::_::_::(58,vi v26.2)::(59,vb (v26.2 == 5))::(60,vb true)::(61,.v undef)::(62,.v undef)::(63,vb true)::(64,vb true)::(65,.agg [vi v26.1.Origin,vi v26.1.Number,.fr .shr true 8 (flatten (map T_Mail.ienc v26.1.Mails))])::(66,.agg [vi 0,vi 0,.v (.slice none 0 0)])::(67,vb v28)::(68,vb v28)::(69,vb true)::(70,vb v29)::(71,vb v29)::(4,vb v29)::[]) [0,1,2,3,4] [1,19] (zq [3] 5 58::zq [5] 6 59::zq [6] 7 60::zq [7] 8 61::zq [7] 9 62::zq [7] 10 63::zq [10] 11 64::zq [11,2] 12 65::zq [11] 13 66::zq [11,12,13] 14 67::zq [11,14] 15 68::zq [15] 16 69::zq [16,1] 17 70::zq [16,17] 18 71::zq [18] 19 4::[]) [(_,_),(_,_)] rfl ⟨z1 rfl,z4 rfl rfl,z8 hg10_2 rfl,zf rfl,zf rfl,z3 true rfl,z1 rfl,zr' rfl (op_loadA _ _ _ _ _ _ _ underlying24 rfl sz24 rfl rfl (zl rfl) rfl rfl),zr' rfl (op_build _ _ _ _ [1, 1, 1] _ _ underlying24 zr24 (fs24 _ underlying24) Src.nil rfl rfl rfl),zr' rfl (op_call _ _ 22 _ _ rfl call22 rfl ((ok_wherrykeep_Bundle (T_Bundle.mk v26.1.Origin v26.1.Number v26.1.Mails) (T_Bundle.mk 0 0 []) _ hv28).args (subs_cons (sub_refl _) (subs_cons (sub_agg (subs_cons (sub_refl _) (subs_cons (sub_refl _) (subs_cons (sub_nil_frs true 8) (subs_nil))))) (subs_nil)))) rfl rfl),z3 true rfl,z8 hg10_11 rfl,zr' rfl (op_callG _ _ 87 25 _ _ rfl call25 rfl rfl (fun _ h => h) (ok_wherrylaw17_wakes mx  _ hv29) rfl rfl),z3 true rfl,z2 rfl,zz⟩ ?_
         exact hl34 _ (zi h).symm
        ·refine zg hn (_::_::_::_::_::(58,vi v26.2)::(59,vb (v26.2 == 5))::(60,vb true)::(61,.v undef)::(62,.v undef)::(63,vb true)::(64,vb true)::(65,.agg [vi v26.1.Origin,vi v26.1.Number,.fr .shr true 8 (flatten (map T_Mail.ienc v26.1.Mails))])::(66,.agg [vi 0,vi 0,.v (.slice none 0 0)])::(67,vb v28)::(68,vb v28)::(69,vb false)::(70,.v undef)::(71,vb false)::(4,vb false)::[]) [0,1,2,3,4] [1,19] (zq [3] 5 58::zq [5] 6 59::zq [6] 7 60::zq [7] 8 61::zq [7] 9 62::zq [7] 10 63::zq [10] 11 64::zq [11,2] 12 65::zq [11] 13 66::zq [11,12,13] 14 67::zq [11,14] 15 68::zq [15] 16 69::zq [16] 17 70::zq [16] 18 71::zq [18] 19 4::[]) [(_,_),(_,_)] rfl ⟨z1 rfl,z4 rfl rfl,z8 hg10_2 rfl,zf rfl,zf rfl,z3 true rfl,z1 rfl,zr' rfl (op_loadA _ _ _ _ _ _ _ underlying24 rfl sz24 rfl rfl (zl rfl) rfl rfl),zr' rfl (op_build _ _ _ _ [1, 1, 1] _ _ underlying24 zr24 (fs24 _ underlying24) Src.nil rfl rfl rfl),zr' rfl (op_call _ _ 22 _ _ rfl call22 rfl ((ok_wherrykeep_Bundle (T_Bundle.mk v26.1.Origin v26.1.Number v26.1.Mails) (T_Bundle.mk 0 0 []) _ hv28).args (subs_cons (sub_refl _) (subs_cons (sub_agg (subs_cons (sub_refl _) (subs_cons (sub_refl _) (subs_cons (sub_nil_frs true 8) (subs_nil))))) (subs_nil)))) rfl rfl),z3 true rfl,z8 hg10_11 rfl,zt rfl,z3 false rfl,z2 rfl,zz⟩ ?_
         exact hl34 _ (zi h).symm
       ·refine cond_some h (fun hg10_6 h => ?_) (fun hg10_6 h => ?_)
        ·obtain ⟨v30, hv30, h⟩ := zn h
         refine cond_some h (fun hg10_11 h => ?_) (fun hg10_11 h => ?_)
         ·obtain ⟨v31, hv31, h⟩ := zn h
          refine zg hn (_::_::_::_::_::(58,vi v26.2)::(59,vb (v26.2 == 5))::(60,vb false)::(61,vi v26.2)::(62,vb (v26.2 == 6))::(63,vb (v26.2 == 6))::(64,vb true)::(65,.agg [vi v26.1.Origin,vi v26.1.Number,.fr .shr true 8 (flatten (map T_Mail.ienc v26.1.Mails))])::(66,.agg [vi 0,vi 0,.v (.slice none 0 0)])::(67,vb v30)::(68,vb v30)::(69,vb true)::(70,vb v31)::(71,vb v31)::(4,vb v31)::[]) [0,1,2,3,4] [1,19] (zq [3] 5 58::zq [5] 6 59::zq [6] 7 60::zq [7,3] 8 61::zq [7,8] 9 62::zq [7,9] 10 63::zq [10] 11 64::zq [11,2] 12 65::zq [11] 13 66::zq [11,12,13] 14 67::zq [11,14] 15 68::zq [15] 16 69::zq [16,1] 17 70::zq [16,17] 18 71::zq [18] 19 4::[]) [(_,_),(_,_)] rfl ⟨z1 rfl,z4 rfl rfl,z8 hg10_2 rfl,zr' rfl (oM rfl),zr' rfl (oB rfl rfl),z3 false rfl,z8 hg10_6 rfl,zr' rfl (op_loadA _ _ _ _ _ _ _ underlying24 rfl sz24 rfl rfl (zl rfl) rfl rfl),zr' rfl (op_build _ _ _ _ [1, 1, 1] _ _ underlying24 zr24 (fs24 _ underlying24) Src.nil rfl rfl rfl),zr' rfl (op_call _ _ 22 _ _ rfl call22 rfl ((ok_wherrykeep_Bundle (T_Bundle.mk v26.1.Origin v26.1.Number v26.1.Mails) (T_Bundle.mk 0 0 []) _ hv30).args (subs_cons (sub_refl _) (subs_cons (sub_agg (subs_cons (sub_refl _) (subs_cons (sub_refl _) (subs_cons (sub_nil_frs true 8) (subs_nil))))) (subs_nil)))) rfl rfl),z3 true rfl,z8 hg10_11 rfl,zr' rfl (op_callG _ _ 87 25 _ _ rfl call25 rfl rfl (fun _ h => h) (ok_wherrylaw17_wakes mx  _ hv31) rfl rfl),z3 true rfl,z2 rfl,zz⟩ ?_
          exact hl34 _ (zi h).symm
         ·refine zg hn (_::_::_::_::_::(58,vi v26.2)::(59,vb (v26.2 == 5))::(60,vb false)::(61,vi v26.2)::(62,vb (v26.2 == 6))::(63,vb (v26.2 == 6))::(64,vb true)::(65,.agg [vi v26.1.Origin,vi v26.1.Number,.fr .shr true 8 (flatten (map T_Mail.ienc v26.1.Mails))])::(66,.agg [vi 0,vi 0,.v (.slice none 0 0)])::(67,vb v30)::(68,vb v30)::(69,vb false)::(70,.v undef)::(71,vb false)::(4,vb false)::[]) [0,1,2,3,4] [1,19] (zq [3] 5 58::zq [5] 6 59::zq [6] 7 60::zq [7,3] 8 61::zq [7,8] 9 62::zq [7,9] 10 63::zq [10] 11 64::zq [11,2] 12 65::zq [11] 13 66::zq [11,12,13] 14 67::zq [11,14] 15 68::zq [15] 16 69::zq [16] 17 70::zq [16] 18 71::zq [18] 19 4::[]) [(_,_),(_,_)] rfl ⟨z1 rfl,z4 rfl rfl,z8 hg10_2 rfl,zr' rfl (oM rfl),zr' rfl (oB rfl rfl),z3 false rfl,z8 hg10_6 rfl,zr' rfl (op_loadA _ _ _ _ _ _ _ underlying24 rfl sz24 rfl rfl (zl rfl) rfl rfl),zr' rfl (op_build _ _ _ _ [1, 1, 1] _ _ underlying24 zr24 (fs24 _ underlying24) Src.nil rfl rfl rfl),zr' rfl (op_call _ _ 22 _ _ rfl call22 rfl ((ok_wherrykeep_Bundle (T_Bundle.mk v26.1.Origin v26.1.Number v26.1.Mails) (T_Bundle.mk 0 0 []) _ hv30).args (subs_cons (sub_refl _) (subs_cons (sub_agg (subs_cons (sub_refl _) (subs_cons (sub_refl _) (subs_cons (sub_nil_frs true 8) (subs_nil))))) (subs_nil)))) rfl rfl),z3 true rfl,z8 hg10_11 rfl,zt rfl,z3 false rfl,z2 rfl,zz⟩ ?_
          exact hl34 _ (zi h).symm
        ·refine zg hn (_::_::_::_::_::(58,vi v26.2)::(59,vb (v26.2 == 5))::(60,vb false)::(61,vi v26.2)::(62,vb (v26.2 == 6))::(63,vb (v26.2 == 6))::(64,vb false)::(65,.v undef)::(66,.v undef)::(67,.v undef)::(68,vb false)::(69,vb false)::(70,.v undef)::(71,vb false)::(4,vb false)::[]) [0,1,2,3,4] [1,19] (zq [3] 5 58::zq [5] 6 59::zq [6] 7 60::zq [7,3] 8 61::zq [7,8] 9 62::zq [7,9] 10 63::zq [10] 11 64::zq [11] 12 65::zq [11] 13 66::zq [11] 14 67::zq [11] 15 68::zq [15] 16 69::zq [16] 17 70::zq [16] 18 71::zq [18] 19 4::[]) [(_,_),(_,_)] rfl ⟨z1 rfl,z4 rfl rfl,z8 hg10_2 rfl,zr' rfl (oM rfl),zr' rfl (oB rfl rfl),z3 false rfl,z8 hg10_6 rfl,zt rfl,zt rfl,zt rfl,z3 false rfl,z1 rfl,zt rfl,z3 false rfl,z2 rfl,zz⟩ ?_
         exact hl34 _ (zi h).symm
     ·have h := cond_f hb27 h
      refine ht_skip ?_
      refine pt_then (ht_seq ?_)
      obtain ⟨v36, hv36, h⟩ := zn h
      refine zg hn [_,_,_,_,_,(73,.agg [vi v26.1.Origin,vi v26.1.Number,.fr .shr true 8 (flatten (map T_Mail.ienc v26.1.Mails))]),(74,.tup [.mkr 5 (map (int .u8) v36.1),vi v36.2]),(72,.tup [.mkr 5 (map (int .u8) v36.1),vi v36.2]),(75,.mkr 5 (map (int .u8) v36.1)),(72,.tup [.any,vi v36.2]),(76,vi v36.2),(11,.mkr 5 (map (int .u8) v36.1)),(12,vi v36.2)] [0,1,2,3,4] [0,1,11,12] [zq [2] 5 73,zq [5,1] 6 74,⟨[],[6],[7],[(.slot 72)]⟩,⟨[],[7],[9,8],[(.slot 75)]⟩,zq [9] 10 76,⟨[],[8],[11],[(.slot 11)]⟩,zq [10] 12 12] [(_,_),(_,_),(_,_),(_,_)] rfl ⟨zp rfl (op_loadA _ _ _ _ _ _ _ underlying24 rfl sz24 rfl rfl (zl rfl) rfl rfl),zp rfl (op_callG _ _ 87 13 _ _ rfl call13 rfl rfl (fun _ h => h) (ok_bundle_Bytes mx (T_Bundle.mk v26.1.Origin v26.1.Number v26.1.Mails) _ hv36) rfl rfl),zp rfl (op_move_take _ _ _ _ rfl),zp rfl (op_extract_take _ _ _ _ _ rfl (zl rfl) rfl rfl (by decide) rfl),zp rfl (oE rfl),zp rfl (op_assign_take _ _ _ _ rfl),z2 rfl,zz⟩ ?_
      refine pt_then (ht_seq ?_)
      refine ht_joinS h (fun (s39 : Bool) => [(87, .glob (GL mx)), (4, .v (.bool s39))]) ?_ ?_
      ·rintro s39 h
       refine pt_then (ht_ret ?_)
       refine pt_pick [1] (by kernel_rfl) (es' := [(_,_)]) rfl ?_
       obtain rfl := zi h
       exact pt_ret hio rfl (.tmp _ _ .nil) rfl rfl
      ·intro u40 h hl41 hr42
       refine cond_some h (fun hg12_2 h => ?_) (fun hg12_2 h => ?_)
       ·obtain ⟨v37, hv37, h⟩ := zn h
        refine cond_some h (fun hg12_7 h => ?_) (fun hg12_7 h => ?_)
        ·obtain ⟨v38, hv38, h⟩ := zn h
         refine zg hn (_::_::_::_::(77,vi v36.2)::(78,vb (v36.2 == 0))::(79,vb true)::(80,.mkr 5 (map (int .u8) v36.1))::(81,.fl .shr 1 (map (int .u8) t))::(82,vb v37)::(83,vb v37)::(84,vb true)::(85,vb v38)::(86,vb v38)::(4,vb v38)::[]) [0,1,2,3] [1,14] [zq [3] 4 77,zq [4] 5 78,zq [5] 6 79,⟨[6],[2],[7],[(.slot 80)]⟩,zq [6,0] 8 81,zq [6,7,8] 9 82,zq [6,9] 10 83,zq [10] 11 84,zq [11,1] 12 85,zq [11,12] 13 86,zq [13] 14 4] [(_,_),(_,_)] rfl ⟨z1 rfl,z4 rfl rfl,z8 hg12_2 rfl,zr' rfl (op_move_take _ _ _ _ rfl),zr' rfl (oM rfl),zr' rfl (op_call _ _ 21 _ _ rfl call21 rfl (ok_wherrykeep_Bytes v36.1 t _ hv37) rfl rfl),z3 true rfl,z8 hg12_7 rfl,zr' rfl (op_callG _ _ 87 25 _ _ rfl call25 rfl rfl (fun _ h => h) (ok_wherrylaw17_wakes mx  _ hv38) rfl rfl),z3 true rfl,z2 rfl,zz⟩ ?_
         exact hl41 _ (zi h).symm
        ·refine zg hn (_::_::_::_::(77,vi v36.2)::(78,vb (v36.2 == 0))::(79,vb true)::(80,.mkr 5 (map (int .u8) v36.1))::(81,.fl .shr 1 (map (int .u8) t))::(82,vb v37)::(83,vb v37)::(84,vb false)::(85,.v undef)::(86,vb false)::(4,vb false)::[]) [0,1,2,3] [1,14] [zq [3] 4 77,zq [4] 5 78,zq [5] 6 79,⟨[6],[2],[7],[(.slot 80)]⟩,zq [6,0] 8 81,zq [6,7,8] 9 82,zq [6,9] 10 83,zq [10] 11 84,zq [11] 12 85,zq [11] 13 86,zq [13] 14 4] [(_,_),(_,_)] rfl ⟨z1 rfl,z4 rfl rfl,z8 hg12_2 rfl,zr' rfl (op_move_take _ _ _ _ rfl),zr' rfl (oM rfl),zr' rfl (op_call _ _ 21 _ _ rfl call21 rfl (ok_wherrykeep_Bytes v36.1 t _ hv37) rfl rfl),z3 true rfl,z8 hg12_7 rfl,zt rfl,z3 false rfl,z2 rfl,zz⟩ ?_
         exact hl41 _ (zi h).symm
       ·refine zg hn (_::_::_::_::(77,vi v36.2)::(78,vb (v36.2 == 0))::(79,vb false)::(80,.v undef)::(81,.v undef)::(82,.v undef)::(83,vb false)::(84,vb false)::(85,.v undef)::(86,vb false)::(4,vb false)::[]) [0,1,2,3] [1,14] [zq [3] 4 77,zq [4] 5 78,zq [5] 6 79,zq [6] 7 80,zq [6] 8 81,zq [6] 9 82,zq [6] 10 83,zq [10] 11 84,zq [11] 12 85,zq [11] 13 86,zq [13] 14 4] [(_,_),(_,_)] rfl ⟨z1 rfl,z4 rfl rfl,z8 hg12_2 rfl,zt rfl,zt rfl,zt rfl,z3 false rfl,z1 rfl,zt rfl,z3 false rfl,z2 rfl,zz⟩ ?_
        exact hl41 _ (zi h).symm
    ·intro u17 h hl18 hr19
     refine ht_seq ?_
     obtain ⟨v7, hv7, h⟩ := zn h
     refine zg hn [_,_,_,_,(22,.agg [vi b.Origin,vi b.Number,.fr .shr true 8 (flatten (map T_Mail.ienc b.Mails))]),(23,.tup [.mkr 5 (map (int .u8) v7.1),vi v7.2]),(21,.tup [.mkr 5 (map (int .u8) v7.1),vi v7.2]),(24,.mkr 5 (map (int .u8) v7.1)),(21,.tup [.any,vi v7.2]),(25,vi v7.2),(5,.mkr 5 (map (int .u8) v7.1)),(6,vi v7.2)] [0,1,2,3] [0,1,2,10,11] [zq [2] 4 22,zq [4,1] 5 23,⟨[],[5],[6],[(.slot 21)]⟩,⟨[],[6],[8,7],[(.slot 24)]⟩,zq [8] 9 25,⟨[],[7],[10],[(.slot 5)]⟩,zq [9] 11 6] [(_,_),(_,_),(_,_),(_,_),(_,_)] rfl ⟨zp rfl (op_loadA _ _ _ _ _ _ _ underlying24 rfl sz24 rfl rfl (zl rfl) rfl rfl),zp rfl (op_callG _ _ 87 13 _ _ rfl call13 rfl rfl (fun _ h => h) (ok_bundle_Bytes mx (T_Bundle.mk b.Origin b.Number b.Mails) _ hv7) rfl rfl),zp rfl (op_move_take _ _ _ _ rfl),zp rfl (op_extract_take _ _ _ _ _ rfl (zl rfl) rfl rfl (by decide) rfl),zp rfl (oE rfl),zp rfl (op_assign_take _ _ _ _ rfl),z2 rfl,zz⟩ ?_
     refine pt_then ?_
     refine zgg hn [_,_,_,_,_,(26,vi v7.2),(27,vb (v7.2 == 0))] [0,1,2,3,4] [0,1,2,3,6] [zq [4] 5 26,zq [5] 6 27] [(_,_),(_,_),(_,_),(_,_),(_,_)] rfl ⟨z1 rfl,z4 rfl rfl,zz⟩ ?_
     refine ht_cond _ rfl (fun hb20 => ?_) (fun hb20 => ?_)
     ·have h := cond_t hb20 h
      refine ht_seq ?_
      refine ht_frz 3 hio (es' := [(1, .fl .shr 1 (map (int .u8) t)), (87, .glob (GL mx)), (2, .box 24 [.v (.int .i64 b.Origin), .v (.int .i64 b.Number), .fr .shr true 8 (flatten (map T_Mail.ienc b.Mails))]), (5, .fl .ro 1 (map (int .u8) v7.1)), (27, .v (.bool (v7.2 == 0)))]) rfl ?_
      obtain ⟨v9, hv9, h⟩ := zn h
      refine zg hn [_,_,_,_,_,(29,.fl .ro 1 (map (int .u8) v7.1)),(30,.tup [.agg [vi v9.1.Origin,vi v9.1.Number,.fr (.own 46) false 8 (flatten (map T_Mail.ienc v9.1.Mails))],vi v9.2]),(28,.tup [.agg [vi v9.1.Origin,vi v9.1.Number,.fr (.own 46) false 8 (flatten (map T_Mail.ienc v9.1.Mails))],vi v9.2]),(31,.agg [vi v9.1.Origin,vi v9.1.Number,.fr (.own 46) false 8 (flatten (map T_Mail.ienc v9.1.Mails))]),(28,.tup [.any,vi v9.2]),(32,vi v9.2),(7,.box 24 [vi 0,vi 0,.v (.slice none 0 0)]),(7,.box 24 [vi v9.1.Origin,vi v9.1.Number,.fr (.own 46) false 8 (flatten (map T_Mail.ienc v9.1.Mails))]),(8,vi v9.2)] [0,1,2,3,4] [0,1,2,3,12,13] [zq [3] 5 29,zq [5,1] 6 30,⟨[],[6],[7],[(.slot 28)]⟩,⟨[],[7],[9,8],[(.slot 31)]⟩,zq [9] 10 32,zq [] 11 7,⟨[],[8,11],[12],[.cell 7 0,.cell 7 1,.cell 7 2]⟩,zq [10] 13 8] [(_,_),(_,_),(_,_),(_,_),(_,_),(_,_)] rfl ⟨z1 rfl,zp rfl (op_callRG _ _ 87 15 _ _ rfl call15 rfl rfl (fun _ h => h) (ok_bundle_Read_ro mx v7.1 _ hv9) rfl rfl),zp rfl (op_move_take _ _ _ _ rfl),zp rfl (op_extract_take _ _ _ _ _ rfl (zl rfl) rfl rfl (by decide) rfl),zp rfl (oE rfl),zp rfl (op_alloc _ _ zr24),zp rfl (op_store_take _ _ _ _ _ _ _ _ sz24 rfl rfl rfl (zl rfl) rfl rfl),z2 rfl,zz⟩ ?_
      refine pt_then (ht_seq ?_)
      refine ht_joinS h (fun (s21 : Bool) => [(1, .fl .shr 1 (map (int .u8) t)), (87, .glob (GL mx)), (50, .v (.bool s21))]) ?_ ?_
      ·rintro s21 h
       refine pt_then ?_
       refine ht_cond _ rfl (fun hb25 => ?_) (fun hb25 => ?_)
       ·have h := cond_t hb25 h
        refine zgg hn [_,_,_,(4,vb false)] [0,1,2] [1,3] [zq [] 3 4] [(_,_),(_,_)] rfl ⟨z2 rfl,zz⟩ ?_
        refine ht_ret ?_
        refine pt_pick [1] (by kernel_rfl) (es' := [(_,_)]) rfl ?_
        refine pt_r_then ?_
        have h := hr19 _ (zi h).symm
        obtain rfl := zi h
        exact pt_ret hio rfl (.tmp _ _ .nil) rfl rfl
       ·have h := cond_f hb25 h
        refine ht_skip ?_
        refine pt_pick [0, 1] (by kernel_rfl) (es' := [(_,_),(_,_)]) rfl ?_
        exact hl18 _ (zi h).symm
      ·intro u22 h hl23 hr24
       refine cond_some h (fun hg6_2 h => ?_) (fun hg6_2 h => ?_)
       ·refine zg hn (_::_::_::_::_::_::(33,vi v9.2)::(34,vb (v9.2 != 0))::(35,vb true)::(36,.v undef)::(37,.v undef)::(38,.v undef)::(39,.v undef)::(40,vb true)::(41,vb true)::(42,.v undef)::(43,.v undef)::(44,.v undef)::(45,vb true)::(46,vb true)::(47,.v undef)::(48,.v undef)::(49,.v undef)::(50,vb true)::[]) [0,1,2,3,4,5] [0,1,23] (zq [5] 6 33::zq [6] 7 34::zq [7] 8 35::zq [8] 9 36::zq [8] 10 37::zq [8] 11 38::zq [8] 12 39::zq [8] 13 40::zq [13] 14 41::zq [14] 15 42::zq [14] 16 43::zq [14] 17 44::zq [14] 18 45::zq [18] 19 46::zq [19] 20 47::zq [19] 21 48::zq [19] 22 49::zq [19] 23 50::[]) [(_,_),(_,_),(_,_)] rfl ⟨z1 rfl,z4 rfl rfl,z8 hg6_2 rfl,zf rfl,zf rfl,zf rfl,zf rfl,z3 true rfl,z1 rfl,zf rfl,zf rfl,zf rfl,z3 true rfl,z1 rfl,zf rfl,zf rfl,zf rfl,z3 true rfl,zz⟩ ?_
        exact hl23 _ (zi h).symm
       ·obtain ⟨v10, hv10, h⟩ := zn h
        refine cond_some h (fun hg6_8 h => ?_) (fun hg6_8 h => ?_)
        ·refine zg hn (_::_::_::_::_::_::(33,vi v9.2)::(34,vb (v9.2 != 0))::(35,vb false)::(36,.agg [vi v9.1.Origin,vi v9.1.Number,.fr (.own 46) false 8 (flatten (map T_Mail.ienc v9.1.Mails))])::(37,.agg [vi b.Origin,vi b.Number,.fr .shr true 8 (flatten (map T_Mail.ienc b.Mails))])::(38,vb v10)::(39,vb (!v10))::(40,vb (!v10))::(41,vb true)::(42,.v undef)::(43,.v undef)::(44,.v undef)::(45,vb true)::(46,vb true)::(47,.v undef)::(48,.v undef)::(49,.v undef)::(50,vb true)::[]) [0,1,2,3,4,5] [0,1,23] (zq [5] 6 33::zq [6] 7 34::zq [7] 8 35::⟨[8],[4],[9],[(.slot 36)]⟩::zq [8,2] 10 37::zq [8,9,10] 11 38::zq [8,11] 12 39::zq [8,12] 13 40::zq [13] 14 41::zq [14] 15 42::zq [14] 16 43::zq [14] 17 44::zq [14] 18 45::zq [18] 19 46::zq [19] 20 47::zq [19] 21 48::zq [19] 22 49::zq [19] 23 50::[]) [(_,_),(_,_),(_,_)] rfl ⟨z1 rfl,z4 rfl rfl,z8 hg6_2 rfl,zr' rfl (op_loadA_take _ _ _ _ underlying24 rfl sz24 rfl rfl),zr' rfl (op_loadA _ _ _ _ _ _ _ underlying24 rfl sz24 rfl rfl (zl rfl) rfl rfl),zr' rfl (op_call _ _ 22 _ _ rfl call22 rfl (ok_wherrykeep_Bundle v9.1 (T_Bundle.mk b.Origin b.Number b.Mails) _ hv10) rfl rfl),zr' rfl (op_un _ _ _ _ rfl rfl),z3 false rfl,z8 hg6_8 rfl,zf rfl,zf rfl,zf rfl,z3 true rfl,z1 rfl,zf rfl,zf rfl,zf rfl,z3 true rfl,zz⟩ ?_
         exact hl23 _ (zi h).symm
        ·refine cond_some h (fun hg6_13 h => ?_) (fun hg6_13 h => ?_)
         ·refine zg hn (_::_::_::_::_::_::(33,vi v9.2)::(34,vb (v9.2 != 0))::(35,vb false)::(36,.agg [vi v9.1.Origin,vi v9.1.Number,.fr (.own 46) false 8 (flatten (map T_Mail.ienc v9.1.Mails))])::(37,.agg [vi b.Origin,vi b.Number,.fr .shr true 8 (flatten (map T_Mail.ienc b.Mails))])::(38,vb v10)::(39,vb (!v10))::(40,vb (!v10))::(41,vb false)::(42,.fl .ro 1 (map (int .u8) v7.1))::(43,vi (v7.1.length : Int))::(44,vb (decide (4096 < (v7.1.length : Int))))::(45,vb (decide (4096 < (v7.1.length : Int))))::(46,vb true)::(47,.v undef)::(48,.v undef)::(49,.v undef)::(50,vb true)::[]) [0,1,2,3,4,5] [0,1,23] (zq [5] 6 33::zq [6] 7 34::zq [7] 8 35::⟨[8],[4],[9],[(.slot 36)]⟩::zq [8,2] 10 37::zq [8,9,10] 11 38::zq [8,11] 12 39::zq [8,12] 13 40::zq [13] 14 41::zq [14,3] 15 42::zq [14,15] 16 43::zq [14,16] 17 44::zq [14,17] 18 45::zq [18] 19 46::zq [19] 20 47::zq [19] 21 48::zq [19] 22 49::zq [19] 23 50::[]) [(_,_),(_,_),(_,_)] rfl ⟨z1 rfl,z4 rfl rfl,z8 hg6_2 rfl,zr' rfl (op_loadA_take _ _ _ _ underlying24 rfl sz24 rfl rfl),zr' rfl (op_loadA _ _ _ _ _ _ _ underlying24 rfl sz24 rfl rfl (zl rfl) rfl rfl),zr' rfl (op_call _ _ 22 _ _ rfl call22 rfl (ok_wherrykeep_Bundle v9.1 (T_Bundle.mk b.Origin b.Number b.Mails) _ hv10) rfl rfl),zr' rfl (op_un _ _ _ _ rfl rfl),z3 false rfl,z8 hg6_8 rfl,zr' rfl (oM rfl),zr' rfl (op_len_fl _ _ _ underlying25 rfl (by decide) (map_len _)),zr' rfl (oB rfl rfl),z3 false rfl,z8 hg6_13 rfl,zf rfl,zf rfl,zf rfl,z3 true rfl,zz⟩ ?_
          exact hl23 _ (zi h).symm
         ·obtain ⟨v11, hv11, h⟩ := zn h
          refine zg hn (_::_::_::_::_::_::(33,vi v9.2)::(34,vb (v9.2 != 0))::(35,vb false)::(36,.agg [vi v9.1.Origin,vi v9.1.Number,.fr (.own 46) false 8 (flatten (map T_Mail.ienc v9.1.Mails))])::(37,.agg [vi b.Origin,vi b.Number,.fr .shr true 8 (flatten (map T_Mail.ienc b.Mails))])::(38,vb v10)::(39,vb (!v10))::(40,vb (!v10))::(41,vb false)::(42,.fl .ro 1 (map (int .u8) v7.1))::(43,vi (v7.1.length : Int))::(44,vb (decide (4096 < (v7.1.length : Int))))::(45,vb (decide (4096 < (v7.1.length : Int))))::(46,vb false)::(47,.agg [vi b.Origin,vi b.Number,.fr .shr true 8 (flatten (map T_Mail.ienc b.Mails))])::(48,vi v11)::(49,vb (v11 != 0))::(50,vb (v11 != 0))::[]) [0,1,2,3,4,5] [0,1,23] (zq [5] 6 33::zq [6] 7 34::zq [7] 8 35::⟨[8],[4],[9],[(.slot 36)]⟩::zq [8,2] 10 37::zq [8,9,10] 11 38::zq [8,11] 12 39::zq [8,12] 13 40::zq [13] 14 41::zq [14,3] 15 42::zq [14,15] 16 43::zq [14,16] 17 44::zq [14,17] 18 45::zq [18] 19 46::zq [19,2] 20 47::zq [19,20,1] 21 48::zq [19,21] 22 49::zq [19,22] 23 50::[]) [(_,_),(_,_),(_,_)] rfl ⟨z1 rfl,z4 rfl rfl,z8 hg6_2 rfl,zr' rfl (op_loadA_take _ _ _ _ underlying24 rfl sz24 rfl rfl),zr' rfl (op_loadA _ _ _ _ _ _ _ underlying24 rfl sz24 rfl rfl (zl rfl) rfl rfl),zr' rfl (op_call _ _ 22 _ _ rfl call22 rfl (ok_wherrykeep_Bundle v9.1 (T_Bundle.mk b.Origin b.Number b.Mails) _ hv10) rfl rfl),zr' rfl (op_un _ _ _ _ rfl rfl),z3 false rfl,z8 hg6_8 rfl,zr' rfl (oM rfl),zr' rfl (op_len_fl _ _ _ underlying25 rfl (by decide) (map_len _)),zr' rfl (oB rfl rfl),z3 false rfl,z8 hg6_13 rfl,zr' rfl (op_loadA _ _ _ _ _ _ _ underlying24 rfl sz24 rfl rfl (zl rfl) rfl rfl),zr' rfl (op_callG _ _ 87 19 _ _ rfl call19 rfl rfl (fun _ h => h) (ok_bundle_Check mx (T_Bundle.mk b.Origin b.Number b.Mails) _ hv11) rfl rfl),zr' rfl (oB rfl rfl),z3 false rfl,zz⟩ ?_
          exact hl23 _ (zi h).symm
     ·have h := cond_f hb20 h
      refine ht_skip ?_
      refine pt_pick [0, 1] (by kernel_rfl) (es' := [(_,_),(_,_)]) rfl ?_
      exact hl18 _ (zi h).symm
  ·intro u3 h hl4 hr5
   obtain ⟨v1, hv1, h⟩ := zn h
   refine cond_some h (fun hg1_3 h => ?_) (fun hg1_3 h => ?_)
   ·refine zg hn [_,_,_,(13,.ptr 2 2),(14,.fr .shr true 8 (flatten (map T_Mail.ienc b.Mails))),(15,vb v1),(16,vb true),(17,.v undef),(18,.v undef),(19,.v undef),(20,vb true)] [0,1,2] [0,1,2,10] [zq [2] 3 13,zq [3,2] 4 14,zq [4] 5 15,zq [5] 6 16,zq [6] 7 17,zq [6] 8 18,zq [6] 9 19,zq [6] 10 20] [(_,_),(_,_),(_,_),(_,_)] rfl ⟨zp rfl (oF underlying24 rfl sz22),zp rfl (oL underlying22 rfl),zp rfl (op_call _ _ 10 _ _ rfl call10 rfl (ok_wherrylaw17_Heavy b.Mails _ hv1) rfl rfl),z8 hg1_3 rfl,zf rfl,zf rfl,zf rfl,z3 true rfl,zz⟩ ?_
    exact hl4 _ (zi h).symm
   ·refine zg hn [_,_,_,(13,.ptr 2 2),(14,.fr .shr true 8 (flatten (map T_Mail.ienc b.Mails))),(15,vb v1),(16,vb false),(17,.fl .shr 1 (map (int .u8) t)),(18,vi (t.length : Int)),(19,vb (decide (5000 < (t.length : Int)))),(20,vb (decide (5000 < (t.length : Int))))] [0,1,2] [0,1,2,10] [zq [2] 3 13,zq [3,2] 4 14,zq [4] 5 15,zq [5] 6 16,zq [6,0] 7 17,zq [6,7] 8 18,zq [6,8] 9 19,zq [6,9] 10 20] [(_,_),(_,_),(_,_),(_,_)] rfl ⟨zp rfl (oF underlying24 rfl sz22),zp rfl (oL underlying22 rfl),zp rfl (op_call _ _ 10 _ _ rfl call10 rfl (ok_wherrylaw17_Heavy b.Mails _ hv1) rfl rfl),z8 hg1_3 rfl,zr' rfl (oM rfl),zr' rfl (op_len_fl _ _ _ underlying25 rfl (by decide) (map_len _)),zr' rfl (oB rfl rfl),z3 false rfl,zz⟩ ?_
    exact hl4 _ (zi h).symm

end Go.Proofs.YtglabbpbianmnaaGreatDoor
