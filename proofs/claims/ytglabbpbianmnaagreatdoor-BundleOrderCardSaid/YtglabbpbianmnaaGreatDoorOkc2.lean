/-
  The model's runs are what is told in Lean.
-/
import Derived.Test.YtglabbpbianmnaaGreatDoorProg
import Derived.KernelRfl
import Derived.Test.YtglabbpbianmnaaGreatDoorShelf
import Derived.Test.YtglabbpbianmnaaGreatDoorIdx
import Derived.Test.YtglabbpbianmnaaGreatDoorOkc1
set_option linter.unusedVariables false
set_option linter.unusedSimpArgs false
set_option maxHeartbeats 1000000
namespace Go.Proofs.YtglabbpbianmnaaGreatDoor
open Go.Abs Go.Abs.Sh Tryz
open List (map flatten)
open Value (int)
theorem ok_strings_genSplit (s : ByteArray) (sep : ByteArray) (sepSave : Int) (n : Int) (r : (List ByteArray)) (h : Sh.strings_genSplit s sep sepSave n = some r) : FnOK Tryz.prog 77 [.v (.string s), .v (.string sep), .v (.int .i64 sepSave), .v (.int .i64 n)] (.fl .ro 1 (map Value.string r)) := by
  unfold Sh.strings_genSplit at h
  refine fn_ok func77 rfl (zl rfl) rfl rfl fun g0 hn hio => ?_
  refine zgg hn [_,_,_,_,(8,.v (.slice none 0 0))] [0,1,2,3] [0,1,2,3] [zq [] 4 8] [(_,_),(_,_),(_,_),(_,_)] rfl ⟨z2 rfl,zz⟩ ?_
  refine ht_seq ?_
  refine zgg hn [_,_,_,_,(12,vi n),(13,vb (n == 0))] [0,1,2,3] [0,1,2,3,5] [zq [3] 4 12,zq [4] 5 13] [(_,_),(_,_),(_,_),(_,_),(_,_)] rfl ⟨z1 rfl,z4 rfl rfl,zz⟩ ?_
  refine ht_cond _ rfl (fun hb50 => ?_) (fun hb50 => ?_)
  ·have h := cond_t hb50 h
   refine zgg hn [_,_,_,_,_,(8,.v (.slice none 0 0))] [0,1,2,3,4] [5] [zq [] 5 8] [(_,_)] rfl ⟨z2 rfl,zz⟩ ?_
   refine ht_ret ?_
   refine pt_sub (fs := [(8, .fl (.own 9) 1 (map Value.string []))]) (.sub _ (sub_nil 9 1) rfl .nil) ?_
   refine pt_frz 0 hio (es' := [(8, .fl .ro 1 (map Value.string []))]) rfl ?_
   refine pt_r_then ?_
   obtain rfl := zi h
   exact pt_ret hio rfl (.tmp _ _ .nil) rfl rfl
  ·have h := cond_f hb50 h
   refine ht_skip ?_
   refine pt_then (ht_seq ?_)
   refine zgg hn [_,_,_,_,_,(14,vs sep),(15,vb (sep.toList == z0.toList))] [0,1,2,3,4] [0,1,2,3,6] [zq [1] 5 14,zq [5] 6 15] [(_,_),(_,_),(_,_),(_,_),(_,_)] rfl ⟨z1 rfl,z4 rfl rfl,zz⟩ ?_
   refine ht_cond _ rfl (fun hb51 => ?_) (fun hb51 => ?_)
   ·have h := cond_t hb51 h
    cases h
   ·have h := cond_f hb51 h
    refine ht_skip ?_
    refine pt_then (ht_seq ?_)
    refine ht_joinS h (fun (s53 : Int) => [(0, .v (.string s)), (1, .v (.string sep)), (2, .v (.int .i64 sepSave)), (3, .v (.int .i64 s53))]) ?_ ?_
    ·rintro s53 h
     refine pt_then (ht_seq ?_)
     obtain ⟨v11, hv11, h⟩ := zn h
     obtain ⟨v12, hv12, h⟩ := zn h
     refine zg hn [_,_,_,_,(25,vi s53),(26,vs s),(27,vi (s.size : Int)),(28,vi v11),(29,vi v12),(3,vi v12)] [0,1,2,3] [0,1,2,9] [zq [3] 4 25,zq [0] 5 26,zq [5] 6 27,zq [6] 7 28,zq [4,7] 8 29,⟨[8],[3],[9],[(.slot 3)]⟩] [(_,_),(_,_),(_,_),(_,_)] rfl ⟨z1 rfl,z1 rfl,zp rfl (oN underlying9 rfl),zp rfl (oB rfl (ibind (f := int .i64) (Option.some.inj hv11))),zp rfl ((Option.some.inj hv12) ▸ op_min _ _ _ _ rfl rfl),zp rfl (LOp.drop [_] (op_assign _ _ _ _ rfl rfl)),zz⟩ ?_
     refine pt_then (ht_seq ?_)
     obtain ⟨v13, hv13, h⟩ := zn h
     refine zg hn [_,_,_,_,(30,vi v12),(31,.fl (.own 9) 1 (map Value.string v13)),(9,.fl (.own 9) 1 (map Value.string v13))] [0,1,2,3] [0,1,2,3,6] [zq [3] 4 30,zq [4] 5 31,⟨[],[5],[6],[(.slot 9)]⟩] [(_,_),(_,_),(_,_),(_,_),(_,_)] rfl ⟨z1 rfl,zp rfl (op_mk (f := Value.string) _ _ _ _ el57 (by decide) zr9 rfl rfl rfl hv13),zp rfl (op_assign_take _ _ _ _ rfl),zz⟩ ?_
     refine pt_then (ht_seq ?_)
     obtain ⟨v14, hv14, h⟩ := zn h
     refine zg hn [_,_,_,_,_,(32,vi v12),(33,vi v14),(3,vi v14)] [0,1,2,3,4] [0,1,2,4,7] [zq [3] 5 32,zq [5] 6 33,⟨[6],[3],[7],[(.slot 3)]⟩] [(_,_),(_,_),(_,_),(_,_),(_,_)] rfl ⟨z1 rfl,zp rfl (oB rfl (ibind (f := int .i64) (Option.some.inj hv14))),zp rfl (LOp.drop [_] (op_assign _ _ _ _ rfl rfl)),zz⟩ ?_
     refine pt_then ?_
     refine zgg hn [_,_,_,_,_,(10,vi 0)] [0,1,2,3,4] [0,1,2,3,4,5] [zq [] 5 10] [(_,_),(_,_),(_,_),(_,_),(_,_),(_,_)] rfl ⟨z2 rfl,zz⟩ ?_
     refine ht_seq ?_
     refine ht_loopS h (fun ((s65, s66, s67) : ByteArray × (List ByteArray) × Int) => [(0, .v (.string s65)), (1, .v (.string sep)), (2, .v (.int .i64 sepSave)), (9, .fl (.own 9) 1 (map Value.string s66)), (3, .v (.int .i64 v14)), (10, .v (.int .i64 s67))]) (fun ((s70, s71, s72) : ByteArray × (List ByteArray) × Int) => [(0, .v (.string s70)), (9, .fl (.own 9) 1 (map Value.string s71)), (10, .v (.int .i64 s72))]) ?_ ?_
     ·rintro ⟨s70, s71, s72⟩ h
      refine pt_then (ht_seq ?_)
      obtain ⟨v46, hv46, h⟩ := zn h
      obtain ⟨v47, hv47, h⟩ := zn h
      refine zg hn [_,_,_,(58,.same (.slot 9)),(59,vi s72),(60,vs s70),(61,.eref (.slot 9) (v46 * 1)),(9,.fl (.own 9) 1 (map Value.string v47))] [0,1,2] [7,2] [zq [1] 3 58,zq [2] 4 59,zq [0] 5 60,zq [3,1,4] 6 61,⟨[6,5],[1],[7],[]⟩] [(_,_),(_,_)] rfl ⟨z1 rfl,z1 rfl,z1 rfl,zp rfl (op_ix _ _ _ _ _ _ _ _ underlying57 sz9 (by decide) rfl rfl rfl (ix_ok hv46).1 (map_lt (ix_ok hv46).2) rfl),zp rfl (op_store_e _ _ _ _ _ _ _ _ sz9 rfl rfl rfl (by decide) (map_lt (ix_ok hv46).2) ((map_set (f := Value.string) _ (ix_ok hv46).2).trans (congrArg (map _) (Option.some.inj hv47)))),zz⟩ ?_
      refine pt_then (ht_seq ?_)
      refine ht_frz 0 hio (es' := [(9, .fl .ro 1 (map Value.string v47)), (10, .v (.int .i64 s72))]) rfl ?_
      obtain ⟨v48, hv48, h⟩ := zn h
      obtain ⟨v49, hv49, h⟩ := zn h
      refine zg hn [_,_,(62,.fl .ro 1 (map Value.string v47)),(63,vi s72),(64,vi v48),(65,.fl .ro 1 (map Value.string v49)),(8,.fl .ro 1 (map Value.string v49))] [0,1] [6] [zq [0] 2 62,zq [1] 3 63,zq [3] 4 64,zq [2,4] 5 65,zq [5] 6 8] [(_,_)] rfl ⟨z1 rfl,z1 rfl,zp rfl (oB rfl (ibind (f := int .i64) (Option.some.inj hv48))),zp rfl (op_sl _ _ _ 0 v48 _ underlying57 sz9 rfl rfl rfl ⟨_, rfl⟩ hv49),z2 rfl,zz⟩ ?_
      refine pt_then (ht_ret ?_)
      obtain rfl := zi h
      exact pt_ret hio rfl (.tmp _ _ .nil) rfl rfl
     ·rintro u73 hl74 hr75 ⟨s65, s66, s67⟩ rr78 h ho76
      refine ht_seq ?_
      refine zgg hn [_,_,_,_,_,_,(34,vi s67),(35,vi v14),(36,vb (decide (s67 < v14)))] [0,1,2,3,4,5] [0,1,2,3,4,5,8] [zq [5] 6 34,zq [4] 7 35,zq [6,7] 8 36] [(_,_),(_,_),(_,_),(_,_),(_,_),(_,_),(_,_)] rfl ⟨z1 rfl,z1 rfl,z4 rfl rfl,zz⟩ ?_
      refine ht_cond _ rfl (fun hb79 => ?_) (fun hb79 => ?_)
      ·have h := cond_t hb79 h
       refine ht_skip ?_
       refine pt_then ?_
       refine ht_block ?_
       refine ht_seq ?_
       obtain ⟨v16, hv16, h⟩ := zn h
       refine zg hn [_,_,_,_,_,_,_,(37,vs s65),(38,vs sep),(39,vi v16),(11,vi v16)] [0,1,2,3,4,5,6] [0,1,2,3,4,5,10] [zq [0] 7 37,zq [1] 8 38,zq [7,8] 9 39,zq [9] 10 11] [(_,_),(_,_),(_,_),(_,_),(_,_),(_,_),(_,_)] rfl ⟨z1 rfl,z1 rfl,zp rfl (op_call _ _ 98 _ _ rfl call98 rfl (ok_strings_Index s65 sep _ hv16) rfl rfl),z2 rfl,zz⟩ ?_
       refine pt_then (ht_seq ?_)
       refine zgg hn [_,_,_,_,_,_,_,(40,vi v16),(41,vb (decide (v16 < 0)))] [0,1,2,3,4,5,6] [0,1,2,3,4,5,6,8] [zq [6] 7 40,zq [7] 8 41] [(_,_),(_,_),(_,_),(_,_),(_,_),(_,_),(_,_),(_,_)] rfl ⟨z1 rfl,z4 rfl rfl,zz⟩ ?_
       refine ht_cond _ rfl (fun hb80 => ?_) (fun hb80 => ?_)
       ·have h := cond_t hb80 h
        refine ht_exit ?_
        refine pt_x_then ?_
        refine pt_x_out (by decide) ?_
        refine pt_x_then ?_
        refine pt_x_in ?_
        refine pt_pick [0, 3, 5] (by kernel_rfl) (es' := [(_,_),(_,_),(_,_)]) rfl ?_
        exact hl74 _ (ho76 _ (zi h).symm).symm
       ·have h := cond_f hb80 h
        refine ht_skip ?_
        refine pt_then (ht_seq ?_)
        obtain ⟨v18, hv18, h⟩ := zn h
        obtain ⟨v19, hv19, h⟩ := zn h
        obtain ⟨v20, hv20, h⟩ := zn h
        obtain ⟨v21, hv21, h⟩ := zn h
        refine zg hn (_::_::_::_::_::_::_::_::(42,.same (.slot 9))::(43,vi s67)::(44,vs s65)::(45,vi v16)::(46,vi sepSave)::(47,vi v18)::(48,vs v19)::(49,.eref (.slot 9) (v20 * 1))::(9,.fl (.own 9) 1 (map Value.string v21))::[]) [0,1,2,3,4,5,6,7] [0,1,2,16,4,5,6] [zq [3] 8 42,zq [5] 9 43,zq [0] 10 44,zq [6] 11 45,zq [2] 12 46,zq [11,12] 13 47,zq [10,13] 14 48,zq [8,3,9] 15 49,⟨[15,14],[3],[16],[]⟩] [(_,_),(_,_),(_,_),(_,_),(_,_),(_,_),(_,_)] rfl ⟨z1 rfl,z1 rfl,z1 rfl,z1 rfl,z1 rfl,zp rfl (oB rfl (ibind (f := int .i64) (Option.some.inj hv18))),zp rfl (op_substr _ _ _ 0 v18 _ underlying9 rfl rfl ⟨_, rfl⟩ hv19),zp rfl (op_ix _ _ _ _ _ _ _ _ underlying57 sz9 (by decide) rfl rfl rfl (ix_ok hv20).1 (map_lt (ix_ok hv20).2) rfl),zp rfl (op_store_e _ _ _ _ _ _ _ _ sz9 rfl rfl rfl (by decide) (map_lt (ix_ok hv20).2) ((map_set (f := Value.string) _ (ix_ok hv20).2).trans (congrArg (map _) (Option.some.inj hv21)))),zz⟩ ?_
        refine pt_then (ht_seq ?_)
        obtain ⟨v22, hv22, h⟩ := zn h
        obtain ⟨v23, hv23, h⟩ := zn h
        refine zg hn [_,_,_,_,_,_,_,(50,vs s65),(51,vi v16),(52,vs sep),(53,vi (sep.size : Int)),(54,vi v22),(55,vs v23),(0,vs v23)] [0,1,2,3,4,5,6] [1,2,3,4,5,13] [zq [0] 7 50,zq [6] 8 51,zq [1] 9 52,zq [9] 10 53,zq [8,10] 11 54,zq [7,11] 12 55,⟨[12],[0],[13],[(.slot 0)]⟩] [(_,_),(_,_),(_,_),(_,_),(_,_),(_,_)] rfl ⟨z1 rfl,z1 rfl,z1 rfl,zp rfl (oN underlying9 rfl),zp rfl (oB rfl (ibind (f := int .i64) (Option.some.inj hv22))),zp rfl (op_substr _ _ _ v22 (s65.size : Int) _ underlying9 rfl ⟨_, rfl⟩ rfl hv23),zp rfl (LOp.drop [_] (op_assign _ _ _ _ rfl rfl)),zz⟩ ?_
        refine pt_then ?_
        obtain ⟨v24, hv24, h⟩ := zn h
        refine zg hn [_,_,_,_,_,_,(56,vi s67),(57,vi v24),(10,vi v24)] [0,1,2,3,4,5] [0,1,2,3,5,8] [zq [4] 6 56,zq [6] 7 57,⟨[7],[4],[8],[(.slot 10)]⟩] [(_,_),(_,_),(_,_),(_,_),(_,_),(_,_)] rfl ⟨z1 rfl,zp rfl (oB rfl (ibind (f := int .i64) (Option.some.inj hv24))),zp rfl (LOp.drop [_] (op_assign _ _ _ _ rfl rfl)),zz⟩ ?_
        refine pt_inb ?_
        refine pt_pick [4, 0, 1, 2, 3, 5] (by kernel_rfl) (es' := [(_,_),(_,_),(_,_),(_,_),(_,_),(_,_)]) rfl ?_
        exact pt_next _ (zi h).symm rfl
      ·have h := cond_f hb79 h
       refine ht_exit ?_
       refine pt_x_then ?_
       refine pt_x_then ?_
       refine pt_x_in ?_
       refine pt_pick [0, 3, 5] (by kernel_rfl) (es' := [(_,_),(_,_),(_,_)]) rfl ?_
       exact hl74 _ (ho76 _ (zi h).symm).symm
    ·intro u54 h hl55 hr56
     refine zgg hn [_,_,_,_,_,(19,vi n),(20,vb (decide (n < 0)))] [0,1,2,3,4] [0,1,2,3,6] [zq [3] 5 19,zq [5] 6 20] [(_,_),(_,_),(_,_),(_,_),(_,_)] rfl ⟨z1 rfl,z4 rfl rfl,zz⟩ ?_
     refine ht_cond _ rfl (fun hb57 => ?_) (fun hb57 => ?_)
     ·have h := cond_t hb57 h
      obtain ⟨v4, hv4, h⟩ := zn h
      obtain ⟨v5, hv5, h⟩ := zn h
      refine zg hn [_,_,_,_,_,(21,vs s),(22,vs sep),(23,vi v4),(24,vi v5),(3,vi v5)] [0,1,2,3,4] [0,1,2,9] [zq [0] 5 21,zq [1] 6 22,zq [5,6] 7 23,zq [7] 8 24,⟨[8],[3],[9],[(.slot 3)]⟩] [(_,_),(_,_),(_,_),(_,_)] rfl ⟨z1 rfl,z1 rfl,zp rfl (op_call _ _ 97 _ _ rfl call97 rfl (ok_strings_Count s sep _ hv4) rfl rfl),zp rfl (oB rfl (ibind (f := int .i64) (Option.some.inj hv5))),zp rfl (LOp.drop [_] (op_assign _ _ _ _ rfl rfl)),zz⟩ ?_
      exact hl55 _ (zi h).symm
     ·have h := cond_f hb57 h
      refine ht_skip ?_
      refine pt_pick [0, 1, 2, 3] (by kernel_rfl) (es' := [(_,_),(_,_),(_,_),(_,_)]) rfl ?_
      exact hl55 _ (zi h).symm
theorem ok_strings_Split (s : ByteArray) (sep : ByteArray) (r : (List ByteArray)) (h : Sh.strings_Split s sep = some r) : FnOK Tryz.prog 57 [.v (.string s), .v (.string sep)] (.fl .ro 1 (map Value.string r)) := by
  unfold Sh.strings_Split at h
  refine fn_ok func57 rfl (zl rfl) rfl rfl fun g0 hn hio => ?_
  refine zgg hn [_,_,(4,.v (.slice none 0 0))] [0,1] [0,1] [zq [] 2 4] [(_,_),(_,_)] rfl ⟨z2 rfl,zz⟩ ?_
  refine ht_seq ?_
  obtain ⟨v1, hv1, h⟩ := zn h
  refine zg hn [_,_,(5,vs s),(6,vs sep),(7,.fl .ro 1 (map Value.string v1)),(4,.fl .ro 1 (map Value.string v1))] [0,1] [5] [zq [0] 2 5,zq [1] 3 6,zq [2,3] 4 7,zq [4] 5 4] [(_,_)] rfl ⟨z1 rfl,z1 rfl,zp rfl (op_call _ _ 77 _ _ rfl call77 rfl (ok_strings_genSplit s sep 0 (-1) _ hv1) rfl rfl),z2 rfl,zz⟩ ?_
  refine pt_then (ht_ret ?_)
  obtain rfl := zi h
  exact pt_ret hio rfl (.tmp _ _ .nil) rfl rfl
theorem ok_strconv_Atoi (s : ByteArray) (r : Int × Unit) (h : Sh.strconv_Atoi s = some r) : FnOK Tryz.prog 78 [.v (.string s)] (.tup [.v (.int .i64 r.1), .v .nilIface]) := lib_strconv_Atoi (fun s n w h1 h2 => Tryz.strconv_Atoi s n h1 h2 w) s r h
theorem ok_number_Parse (s : ByteArray) (digits : Int) (r : (Int × Bool)) (h : Sh.number_Parse s digits = some r) : FnOK Tryz.prog 58 [.v (.string s), .v (.int .i64 digits)] (.tup [.v (.int .i64 r.1), .v (.bool r.2)]) := by
  unfold Sh.number_Parse at h
  refine fn_ok func58 rfl (zl rfl) rfl rfl fun g0 hn hio => ?_
  refine zgg hn [_,_,(4,vi 0),(5,vb false)] [0,1] [0,1] [zq [] 2 4,zq [] 3 5] [(_,_),(_,_)] rfl ⟨z2 rfl,z2 rfl,zz⟩ ?_
  refine ht_seq ?_
  refine ht_seq ?_
  refine ht_joinS h (fun (s3 : Bool) => [(0, .v (.string s)), (26, .v (.bool s3))]) ?_ ?_
  ·rintro s3 h
   refine pt_then ?_
   refine ht_cond _ rfl (fun hb7 => ?_) (fun hb7 => ?_)
   ·have h := cond_t hb7 h
    refine zgg hn [_,_,(4,vi 0),(5,vb false)] [0,1] [2,3] [zq [] 2 4,zq [] 3 5] [(_,_),(_,_)] rfl ⟨z2 rfl,z2 rfl,zz⟩ ?_
    refine ht_ret ?_
    refine pt_r_then ?_
    obtain rfl := zi h
    exact pt_ret hio rfl (.tmp _ _ (.tmp _ _ .nil)) rfl rfl
   ·have h := cond_f hb7 h
    refine ht_skip ?_
    refine pt_then (ht_seq ?_)
    refine zgg hn [_,_,(27,vs s),(28,vi (s.size : Int)),(29,vi 0)] [0,1] [0,3,4] [zq [0] 2 27,zq [2] 3 28,zq [] 4 29] [(_,_),(_,_),(_,_)] rfl ⟨z1 rfl,zp rfl (oN underlying9 rfl),z1 rfl,zz⟩ ?_
    refine ht_loopS h (fun (s24 : Int) => [(0, .v (.string s)), (28, .v (.int .i64 (s.size : Int))), (29, .v (.int .i64 s24))]) (fun (() : Unit) => [(0, .v (.string s))]) ?_ ?_
    ·rintro ⟨⟩ h
     refine pt_then (ht_seq ?_)
     obtain ⟨v43, hv43, h⟩ := zn h
     refine zg hn [_,(44,vs s),(45,.tup [vi v43.1,.v (.nilIface)]),(43,.tup [vi v43.1,.v (.nilIface)]),(46,vi v43.1),(47,.v (.nilIface)),(7,vi v43.1),(8,.v (.nilIface))] [0] [6,7] [zq [0] 1 44,zq [1] 2 45,⟨[],[2],[3],[(.slot 43)]⟩,zq [3] 4 46,zq [3] 5 47,zq [4] 6 7,zq [5] 7 8] [(_,_),(_,_)] rfl ⟨z1 rfl,zp rfl (op_call _ _ 78 _ _ rfl call78 rfl (ok_strconv_Atoi s _ hv43) rfl rfl),zp rfl (op_move_take _ _ _ _ rfl),zp rfl (oE rfl),zp rfl (oE rfl),z2 rfl,z2 rfl,zz⟩ ?_
     refine pt_then (ht_seq ?_)
     refine ht_anyR (by kernel_rfl) hn (El := [_, _, (48, .v (.int .i64 v43.1)), (49, .v (.nilIface)), (50, .v (.bool true)), (4, .v (.int .i64 v43.1)), (5, .v (.bool true))]) (init := [0, 1]) (fin := [5, 6]) (sps := [zq [0] 2 48, zq [1] 3 49, zq [3] 4 50, zq [2] 5 4, zq [4] 6 5]) (es' := [(4, .v (.int .i64 v43.1)), (5, .v (.bool true))]) (by kernel_rfl) rfl rfl ⟨z1 rfl,z1 rfl,zp rfl (op_ifnil _ _ false underlying116 rfl),z2 rfl,z2 rfl,zz⟩ ?_
     refine pt_then (ht_ret ?_)
     obtain rfl := zi h
     exact pt_ret hio rfl (.tmp _ _ (.tmp _ _ .nil)) rfl rfl
    ·rintro u31 hl32 hr33 s24 rr36 h ho34
     refine zgg hn [_,_,_,(30,vb (decide (s24 < (s.size : Int))))] [0,1,2] [0,1,2,3] [zq [2,1] 3 30] [(_,_),(_,_),(_,_),(_,_)] rfl ⟨z4 rfl rfl,zz⟩ ?_
     refine ht_seq ?_
     refine ht_cond _ rfl (fun hb37 => ?_) (fun hb37 => ?_)
     ·have h := cond_t hb37 h
      refine ht_skip ?_
      refine pt_then (ht_seq ?_)
      refine ht_block ?_
      refine zgg hn [_,_,_,_,(31,vi s24),(6,vi s24)] [0,1,2,3] [0,1,2,5] [zq [2] 4 31,zq [4] 5 6] [(_,_),(_,_),(_,_),(_,_)] rfl ⟨z1 rfl,z2 rfl,zz⟩ ?_
      refine ht_seq ?_
      refine ht_joinS h (fun (s38 : Bool) => [(0, .v (.string s)), (28, .v (.int .i64 (s.size : Int))), (29, .v (.int .i64 s24)), (41, .v (.bool s38))]) ?_ ?_
      ·rintro s38 h
       refine pt_then ?_
       refine ht_cond _ rfl (fun hb42 => ?_) (fun hb42 => ?_)
       ·have h := cond_t hb42 h
        refine zgg hn [_,_,_,_,(4,vi 0),(5,vb false)] [0,1,2,3] [4,5] [zq [] 4 4,zq [] 5 5] [(_,_),(_,_)] rfl ⟨z2 rfl,z2 rfl,zz⟩ ?_
        refine ht_ret ?_
        refine pt_r_in ?_
        refine pt_r_then ?_
        refine pt_r_then ?_
        refine pt_r_in ?_
        refine pt_r_then ?_
        have h := hr33 _ (ho34 _ (zi h).symm).symm
        obtain rfl := zi h
        exact pt_ret hio rfl (.tmp _ _ (.tmp _ _ .nil)) rfl rfl
       ·have h := cond_f hb42 h
        refine ht_skip ?_
        refine pt_inb ?_
        refine pt_then ?_
        obtain ⟨v16, hv16, h⟩ := zn h
        refine zg hn [_,_,_,_,(42,vi v16),(29,vi v16)] [0,1,2,3] [0,1,5] [zq [2] 4 42,⟨[4],[2],[5],[(.slot 29)]⟩] [(_,_),(_,_),(_,_)] rfl ⟨zp rfl (oB rfl (ibind (f := int .i64) (Option.some.inj hv16))),zp rfl (LOp.drop [_] (oM rfl)),zz⟩ ?_
        exact pt_next _ (zi h).symm rfl
      ·intro u39 h hl40 hr41
       obtain ⟨v9, hv9, h⟩ := zn h
       refine cond_some h (fun hg6_4 h => ?_) (fun hg6_4 h => ?_)
       ·refine zg hn [_,_,_,_,(32,vs s),(33,vi s24),(34,.v (.int .u8 v9)),(35,vb (decide (v9 < 48))),(36,vb true),(37,.v undef),(38,.v undef),(39,.v undef),(40,.v undef),(41,vb true)] [0,1,2,3] [0,1,2,13] [zq [0] 4 32,zq [3] 5 33,zq [4,5] 6 34,zq [6] 7 35,zq [7] 8 36,zq [8] 9 37,zq [8] 10 38,zq [8] 11 39,zq [8] 12 40,zq [8] 13 41] [(_,_),(_,_),(_,_),(_,_)] rfl ⟨z1 rfl,z1 rfl,zp rfl (op_chr _ _ _ s24 _ underlying9 rfl rfl hv9),z4 rfl rfl,z8 hg6_4 rfl,zf rfl,zf rfl,zf rfl,zf rfl,z3 true rfl,zz⟩ ?_
        exact hl40 _ (zi h).symm
       ·obtain ⟨v10, hv10, h⟩ := zn h
        refine zg hn [_,_,_,_,(32,vs s),(33,vi s24),(34,.v (.int .u8 v9)),(35,vb (decide (v9 < 48))),(36,vb false),(37,vs s),(38,vi s24),(39,.v (.int .u8 v10)),(40,vb (decide (57 < v10))),(41,vb (decide (57 < v10)))] [0,1,2,3] [0,1,2,13] [zq [0] 4 32,zq [3] 5 33,zq [4,5] 6 34,zq [6] 7 35,zq [7] 8 36,zq [8,0] 9 37,zq [8,3] 10 38,zq [8,9,10] 11 39,zq [8,11] 12 40,zq [8,12] 13 41] [(_,_),(_,_),(_,_),(_,_)] rfl ⟨z1 rfl,z1 rfl,zp rfl (op_chr _ _ _ s24 _ underlying9 rfl rfl hv9),z4 rfl rfl,z8 hg6_4 rfl,zr' rfl (oM rfl),zr' rfl (oM rfl),zr' rfl (op_chr _ _ _ s24 _ underlying9 rfl rfl hv10),zr' rfl (oB rfl rfl),z3 false rfl,zz⟩ ?_
        exact hl40 _ (zi h).symm
     ·have h := cond_f hb37 h
      refine ht_exit ?_
      refine pt_x_then ?_
      refine pt_x_then ?_
      refine pt_x_in ?_
      refine pt_pick [0] (by kernel_rfl) (es' := [(_,_)]) rfl ?_
      exact hl32 _ (ho34 _ (zi h).symm).symm
  ·intro u4 h hl5 hr6
   refine cond_some h (fun hg1_2 h => ?_) (fun hg1_2 h => ?_)
   ·refine zg hn (_::_::(9,vs s)::(10,vb (s.toList == z0.toList))::(11,vb true)::(12,.v undef)::(13,.v undef)::(14,.v undef)::(15,.v undef)::(16,.v undef)::(17,vb true)::(18,vb true)::(19,.v undef)::(20,.v undef)::(21,.v undef)::(22,.v undef)::(23,.v undef)::(24,.v undef)::(25,.v undef)::(26,vb true)::[]) [0,1] [0,19] (zq [0] 2 9::zq [2] 3 10::zq [3] 4 11::zq [4] 5 12::zq [4] 6 13::zq [4] 7 14::zq [4] 8 15::zq [4] 9 16::zq [4] 10 17::zq [10] 11 18::zq [11] 12 19::zq [11] 13 20::zq [11] 14 21::zq [11] 15 22::zq [15] 16 23::zq [15] 17 24::zq [11] 18 25::zq [11] 19 26::[]) [(_,_),(_,_)] rfl ⟨z1 rfl,z4 rfl rfl,z8 hg1_2 rfl,zf rfl,zf rfl,zf rfl,zf rfl,zf rfl,z3 true rfl,z1 rfl,zf rfl,zf rfl,zf rfl,zf rfl,zu' rfl,zu' rfl,zf rfl,z3 true rfl,zz⟩ ?_
    exact hl5 _ (zi h).symm
   ·obtain ⟨v1, hv1, h⟩ := zn h
    refine cond_some h (fun hg1_9 h => ?_) (fun hg1_9 h => ?_)
    ·refine zg hn (_::_::(9,vs s)::(10,vb (s.toList == z0.toList))::(11,vb false)::(12,vs s)::(13,vi (s.size : Int))::(14,vi digits)::(15,vi v1)::(16,vb (decide (v1 < (s.size : Int))))::(17,vb (decide (v1 < (s.size : Int))))::(18,vb true)::(19,.v undef)::(20,.v undef)::(21,.v undef)::(22,.v undef)::(23,.v undef)::(24,.v undef)::(25,.v undef)::(26,vb true)::[]) [0,1] [0,19] (zq [0] 2 9::zq [2] 3 10::zq [3] 4 11::zq [4,0] 5 12::zq [4,5] 6 13::zq [4,1] 7 14::zq [4,7] 8 15::zq [4,6,8] 9 16::zq [4,9] 10 17::zq [10] 11 18::zq [11] 12 19::zq [11] 13 20::zq [11] 14 21::zq [11] 15 22::zq [15] 16 23::zq [15] 17 24::zq [11] 18 25::zq [11] 19 26::[]) [(_,_),(_,_)] rfl ⟨z1 rfl,z4 rfl rfl,z8 hg1_2 rfl,zr' rfl (oM rfl),zr' rfl (oN underlying9 rfl),zr' rfl (oM rfl),zr' rfl ((Option.some.inj hv1) ▸ op_min _ _ _ _ rfl rfl),zr' rfl (oB rfl rfl),z3 false rfl,z8 hg1_9 rfl,zf rfl,zf rfl,zf rfl,zf rfl,zu' rfl,zu' rfl,zf rfl,z3 true rfl,zz⟩ ?_
     exact hl5 _ (zi h).symm
    ·obtain ⟨v2, hv2, h⟩ := zn h
     refine cond_some h (fun hg1_13 h => ?_) (fun hg1_13 h => ?_)
     ·refine zg hn (_::_::(9,vs s)::(10,vb (s.toList == z0.toList))::(11,vb false)::(12,vs s)::(13,vi (s.size : Int))::(14,vi digits)::(15,vi v1)::(16,vb (decide (v1 < (s.size : Int))))::(17,vb (decide (v1 < (s.size : Int))))::(18,vb false)::(19,vs s)::(20,.v (.int .u8 v2))::(21,vb (v2 == 48))::(22,vb true)::(23,vs s)::(24,vb (!(s.toList == (⟨#[48]⟩ : ByteArray).toList)))::(25,vb (!(s.toList == (⟨#[48]⟩ : ByteArray).toList)))::(26,vb (!(s.toList == (⟨#[48]⟩ : ByteArray).toList)))::[]) [0,1] [0,19] (zq [0] 2 9::zq [2] 3 10::zq [3] 4 11::zq [4,0] 5 12::zq [4,5] 6 13::zq [4,1] 7 14::zq [4,7] 8 15::zq [4,6,8] 9 16::zq [4,9] 10 17::zq [10] 11 18::zq [11,0] 12 19::zq [11,12] 13 20::zq [11,13] 14 21::zq [11,14] 15 22::zq [15,0] 16 23::zq [15,16] 17 24::zq [11,15,17] 18 25::zq [11,18] 19 26::[]) [(_,_),(_,_)] rfl ⟨z1 rfl,z4 rfl rfl,z8 hg1_2 rfl,zr' rfl (oM rfl),zr' rfl (oN underlying9 rfl),zr' rfl (oM rfl),zr' rfl ((Option.some.inj hv1) ▸ op_min _ _ _ _ rfl rfl),zr' rfl (oB rfl rfl),z3 false rfl,z8 hg1_9 rfl,zr' rfl (oM rfl),zr' rfl (op_chr _ _ _ 0 _ underlying9 rfl rfl hv2),zr' rfl (oB rfl rfl),zr' rfl (op_move _ _ _ _ (zb hg1_13) rfl),zr' rfl (oM rfl),zr' rfl (oB rfl rfl),zr' rfl (op_pick _ _ true _ rfl rfl),z3 false rfl,zz⟩ ?_
      exact hl5 _ (zi h).symm
     ·refine zg hn (_::_::(9,vs s)::(10,vb (s.toList == z0.toList))::(11,vb false)::(12,vs s)::(13,vi (s.size : Int))::(14,vi digits)::(15,vi v1)::(16,vb (decide (v1 < (s.size : Int))))::(17,vb (decide (v1 < (s.size : Int))))::(18,vb false)::(19,vs s)::(20,.v (.int .u8 v2))::(21,vb (v2 == 48))::(22,vb false)::(23,.v undef)::(24,.v undef)::(25,vb false)::(26,vb false)::[]) [0,1] [0,19] (zq [0] 2 9::zq [2] 3 10::zq [3] 4 11::zq [4,0] 5 12::zq [4,5] 6 13::zq [4,1] 7 14::zq [4,7] 8 15::zq [4,6,8] 9 16::zq [4,9] 10 17::zq [10] 11 18::zq [11,0] 12 19::zq [11,12] 13 20::zq [11,13] 14 21::zq [11,14] 15 22::zq [15] 16 23::zq [15] 17 24::zq [11,15] 18 25::zq [11,18] 19 26::[]) [(_,_),(_,_)] rfl ⟨z1 rfl,z4 rfl rfl,z8 hg1_2 rfl,zr' rfl (oM rfl),zr' rfl (oN underlying9 rfl),zr' rfl (oM rfl),zr' rfl ((Option.some.inj hv1) ▸ op_min _ _ _ _ rfl rfl),zr' rfl (oB rfl rfl),z3 false rfl,z8 hg1_9 rfl,zr' rfl (oM rfl),zr' rfl (op_chr _ _ _ 0 _ underlying9 rfl rfl hv2),zr' rfl (oB rfl rfl),zr' rfl (op_move _ _ _ _ (zb hg1_13) rfl),zt rfl,zt rfl,zr' rfl (op_pick _ _ false _ rfl rfl),z3 false rfl,zz⟩ ?_
      exact hl5 _ (zi h).symm
theorem ok_bundle_parseHeader (line : ByteArray) (r : (T_bundle_header × Bool)) (h : Sh.bundle_parseHeader line = some r) : FnOK Tryz.prog 35 [.v (.string line)] (.tup [.agg [.v (.int .i64 r.1.origin), .v (.int .i64 r.1.number), .v (.int .i64 r.1.size), .v (.int .i64 r.1.sum)], .v (.bool r.2)]) := by
  unfold Sh.bundle_parseHeader at h
  refine fn_ok func35 rfl (zl rfl) rfl rfl fun g0 hn hio => ?_
  refine zgg hn [_,(2,.box 66 [vi 0,vi 0,vi 0,vi 0]),(3,vb false)] [0] [0,1] [zq [] 1 2,zq [] 2 3] [(_,_),(_,_)] rfl ⟨zp rfl (op_alloc _ _ zr66),z2 rfl,zz⟩ ?_
  refine ht_seq ?_
  obtain ⟨v1, hv1, h⟩ := zn h
  refine zg hn [_,_,(11,vs line),(12,.fl .ro 1 (map Value.string v1)),(4,.fl .ro 1 (map Value.string v1))] [0,1] [1,4] [zq [0] 2 11,zq [2] 3 12,zq [3] 4 4] [(_,_),(_,_)] rfl ⟨z1 rfl,zp rfl (op_call _ _ 57 _ _ rfl call57 rfl (ok_strings_Split line (⟨#[32]⟩ : ByteArray) _ hv1) rfl rfl),z2 rfl,zz⟩ ?_
  refine pt_then (ht_seq ?_)
  refine ht_seq ?_
  refine ht_joinS h (fun (s4 : Bool) => [(2, .box 66 [.v (.int .i64 0), .v (.int .i64 0), .v (.int .i64 0), .v (.int .i64 0)]), (4, .fl .ro 1 (map Value.string v1)), (21, .v (.bool s4))]) ?_ ?_
  ·rintro s4 h
   refine pt_then ?_
   refine ht_cond _ rfl (fun hb8 => ?_) (fun hb8 => ?_)
   ·have h := cond_t hb8 h
    refine zgg hn [_,_,_,(22,.agg [vi 0,vi 0,vi 0,vi 0]),(2,.box 66 [vi 0,vi 0,vi 0,vi 0]),(3,vb false)] [0,1,2] [4,5] [zq [] 3 22,⟨[],[3,0],[4],[.cell 2 0,.cell 2 1,.cell 2 2,.cell 2 3]⟩,zq [] 5 3] [(_,_),(_,_)] rfl ⟨zp rfl (op_build _ _ _ _ [1, 1, 1, 1] _ _ underlying66 zr66 (fs66 _ underlying66) Src.nil rfl rfl rfl),zp rfl (op_store_self _ _ _ 22 2 4 sz66 rfl rfl rfl rfl rfl (.eq _ (.eq _ (.eq _ (.eq _ (.nil _))))) rfl),z2 rfl,zz⟩ ?_
    refine ht_ret ?_
    refine pt_r_then ?_
    obtain rfl := zi h
    exact pt_ret hio rfl (.cellA _ _ _ _ underlying66 rfl sz66 (.tmp _ _ .nil)) rfl rfl
   ·have h := cond_f hb8 h
    refine ht_skip ?_
    refine pt_then ?_
    refine zgg hn [_,_,_,(5,.arr 90 (map (int .i64) ((List.replicate 5 (0 : Int)))))] [0,1,2] [0,1,3] [zq [] 3 5] [(_,_),(_,_),(_,_)] rfl ⟨zp rfl (op_alloc_arr _ za90),zz⟩ ?_
    refine ht_seq ?_
    refine ht_seq ?_
    obtain ⟨v9, hv9, h⟩ := zn h
    refine zg hn [_,_,_,(23,.fl .ro 1 (map Value.string v1)),(24,.fl .ro 1 (map Value.string v9)),(25,vi (v9.length : Int)),(26,vi 0)] [0,1,2] [0,2,4,5,6] [zq [1] 3 23,zq [3] 4 24,zq [4] 5 25,zq [] 6 26] [(_,_),(_,_),(_,_),(_,_),(_,_)] rfl ⟨z1 rfl,zp rfl (op_sl _ _ _ 1 (v1.length : Int) _ underlying57 sz9 rfl rfl ⟨_, rfl⟩ rfl hv9),zp rfl (op_len_fl _ _ _ underlying57 rfl (by decide) (map_len _)),z1 rfl,zz⟩ ?_
    refine pt_then ?_
    refine ht_loopS h (fun ((s22, s23) : (List Int) × Int) => [(2, .box 66 [.v (.int .i64 0), .v (.int .i64 0), .v (.int .i64 0), .v (.int .i64 0)]), (5, .arr 90 (map (int .i64) s22)), (24, .fl .ro 1 (map Value.string v9)), (25, .v (.int .i64 (v9.length : Int))), (26, .v (.int .i64 s23))]) (fun (s26 : (List Int)) => [(2, .box 66 [.v (.int .i64 0), .v (.int .i64 0), .v (.int .i64 0), .v (.int .i64 0)]), (5, .arr 90 (map (int .i64) s26))]) ?_ ?_
    ·rintro s26 h
     refine pt_then (ht_seq ?_)
     obtain ⟨v35, hv35, h⟩ := zn h
     obtain ⟨v36, hv36, h⟩ := zn h
     obtain ⟨v37, hv37, h⟩ := zn h
     obtain ⟨v38, hv38, h⟩ := zn h
     obtain ⟨v39, hv39, h⟩ := zn h
     obtain ⟨v40, hv40, h⟩ := zn h
     obtain ⟨v41, hv41, h⟩ := zn h
     obtain ⟨v42, hv42, h⟩ := zn h
     refine zg hn [_,_,(43,.ptr 5 v35),(44,vi v36),(45,.ptr 5 v37),(46,vi v38),(47,.ptr 5 v39),(48,vi v40),(49,.ptr 5 v41),(50,vi v42),(51,.agg [vi v36,vi v38,vi v40,vi v42]),(10,.box 66 [vi 0,vi 0,vi 0,vi 0]),(10,.box 66 [vi v36,vi v38,vi v40,vi v42])] [0,1] [0,12] [zq [1] 2 43,zq [2,1] 3 44,zq [1] 4 45,zq [4,1] 5 46,zq [1] 6 47,zq [6,1] 7 48,zq [1] 8 49,zq [8,1] 9 50,zq [3,5,7,9] 10 51,zq [] 11 10,⟨[10],[11],[12],[.cell 10 0,.cell 10 1,.cell 10 2,.cell 10 3]⟩] [(_,_),(_,_)] rfl ⟨zp rfl (op_ix_arr _ _ _ _ 5 5 _ underlying90 sz3 rfl rfl (ix_ok hv35).1 (ix_ok hv35).2 (by decide)),zp rfl (op_load_arr _ _ _ _ _ _ underlying3 rfl rfl rfl (map_get1 hv36)),zp rfl (op_ix_arr _ _ _ _ 5 5 _ underlying90 sz3 rfl rfl (ix_ok hv37).1 (ix_ok hv37).2 (by decide)),zp rfl (op_load_arr _ _ _ _ _ _ underlying3 rfl rfl rfl (map_get1 hv38)),zp rfl (op_ix_arr _ _ _ _ 5 5 _ underlying90 sz3 rfl rfl (ix_ok hv39).1 (ix_ok hv39).2 (by decide)),zp rfl (op_load_arr _ _ _ _ _ _ underlying3 rfl rfl rfl (map_get1 hv40)),zp rfl (op_ix_arr _ _ _ _ 5 5 _ underlying90 sz3 rfl rfl (ix_ok hv41).1 (ix_ok hv41).2 (by decide)),zp rfl (op_load_arr _ _ _ _ _ _ underlying3 rfl rfl rfl (map_get1 hv42)),zp rfl (op_build _ _ _ _ [1, 1, 1, 1] _ _ underlying66 zr66 (fs66 _ underlying66) (.copy _ (.copy _ (.copy _ (.copy _ Src.nil)))) rfl rfl rfl),zp rfl (op_alloc _ _ zr66),zp rfl (oS sz66 rfl),zz⟩ ?_
     refine pt_then (ht_seq ?_)
     refine ht_anyR (by kernel_rfl) hn (El := [_, _, (52, .agg [.v (.int .i64 v36), .v (.int .i64 v38), .v (.int .i64 v40), .v (.int .i64 v42)]), (53, .ptr 10 0), (54, .v (.int .i64 v36)), (55, .v (.bool ((decide (v36 ≤ 1))))), (2, .box 66 [.v (.int .i64 v36), .v (.int .i64 v38), .v (.int .i64 v40), .v (.int .i64 v42)]), (3, .v (.bool ((decide (v36 ≤ 1)))))]) (init := [0, 1]) (fin := [6, 7]) (sps := [zq [1] 2 52, zq [1] 3 53, zq [3,1] 4 54, zq [4] 5 55, ⟨[2], [0], [6], [.cell 2 0, .cell 2 1, .cell 2 2, .cell 2 3]⟩, zq [5] 7 3]) (es' := [(2, .box 66 [.v (.int .i64 v36), .v (.int .i64 v38), .v (.int .i64 v40), .v (.int .i64 v42)]), (3, .v (.bool ((decide (v36 ≤ 1)))))]) (by kernel_rfl) rfl rfl ⟨zp rfl (op_loadA _ _ _ _ _ _ _ underlying66 rfl sz66 rfl rfl (zl rfl) rfl rfl),zp rfl (oF underlying66 rfl sz3),zp rfl (oL underlying3 rfl),z4 rfl rfl,zp rfl (oS sz66 rfl),z2 rfl,zz⟩ ?_
     refine pt_then (ht_ret ?_)
     obtain rfl := zi h
     exact pt_ret hio rfl (.cellA _ _ _ _ underlying66 rfl sz66 (.tmp _ _ .nil)) rfl rfl
    ·rintro u27 hl28 hr29 ⟨s22, s23⟩ rr32 h ho30
     refine zgg hn [_,_,_,_,_,(27,vb (decide (s23 < (v9.length : Int))))] [0,1,2,3,4] [0,1,2,3,4,5] [zq [4,3] 5 27] [(_,_),(_,_),(_,_),(_,_),(_,_),(_,_)] rfl ⟨z4 rfl rfl,zz⟩ ?_
     refine ht_seq ?_
     refine ht_cond _ rfl (fun hb33 => ?_) (fun hb33 => ?_)
     ·have h := cond_t hb33 h
      refine ht_skip ?_
      refine pt_then (ht_seq ?_)
      refine ht_block ?_
      refine ht_seq ?_
      obtain ⟨v11, hv11, h⟩ := zn h
      obtain ⟨v12, hv12, h⟩ := zn h
      refine zg hn [_,_,_,_,_,_,(28,vi s23),(29,.eref (.slot 24) (v11 * 1)),(30,vs v12),(6,vi s23),(7,vs v12)] [0,1,2,3,4,5] [0,1,2,3,4,9,10] [zq [4] 6 28,zq [2,4] 7 29,zq [7,2] 8 30,zq [6] 9 6,zq [8] 10 7] [(_,_),(_,_),(_,_),(_,_),(_,_),(_,_),(_,_)] rfl ⟨z1 rfl,zp rfl (op_ix _ _ _ _ _ _ _ _ underlying57 sz9 (by decide) rfl rfl rfl (ix_ok hv11).1 (map_lt (ix_ok hv11).2) rfl),zp rfl (op_load_e _ _ _ _ _ _ underlying9 rfl rfl rfl (map_get hv12)),z2 rfl,z2 rfl,zz⟩ ?_
      refine pt_then (ht_seq ?_)
      obtain ⟨v13, hv13, h⟩ := zn h
      refine zg hn [_,_,_,_,_,_,_,(32,vs v12),(33,.tup [vi v13.1,vb v13.2]),(31,.tup [vi v13.1,vb v13.2]),(34,vi v13.1),(35,vb v13.2),(8,vi v13.1),(9,vb v13.2)] [0,1,2,3,4,5,6] [0,1,2,3,4,5,12,13] [zq [6] 7 32,zq [7] 8 33,⟨[],[8],[9],[(.slot 31)]⟩,zq [9] 10 34,zq [9] 11 35,zq [10] 12 8,zq [11] 13 9] [(_,_),(_,_),(_,_),(_,_),(_,_),(_,_),(_,_),(_,_)] rfl ⟨z1 rfl,zp rfl (op_call _ _ 58 _ _ rfl call58 rfl (ok_number_Parse v12 10 _ hv13) rfl rfl),zp rfl (op_move_take _ _ _ _ rfl),zp rfl (oE rfl),zp rfl (oE rfl),z2 rfl,z2 rfl,zz⟩ ?_
      refine pt_then (ht_seq ?_)
      refine zgg hn [_,_,_,_,_,_,_,_,(36,vb v13.2),(37,vb (!v13.2))] [0,1,2,3,4,5,6,7] [0,1,2,3,4,5,6,9] [zq [7] 8 36,zq [8] 9 37] [(_,_),(_,_),(_,_),(_,_),(_,_),(_,_),(_,_),(_,_)] rfl ⟨z1 rfl,zp rfl (op_un _ _ _ _ rfl rfl),zz⟩ ?_
      refine ht_cond _ rfl (fun hb34 => ?_) (fun hb34 => ?_)
      ·have h := cond_t hb34 h
       refine zgg hn [_,_,_,_,_,_,_,_,(38,.agg [vi 0,vi 0,vi 0,vi 0]),(2,.box 66 [vi 0,vi 0,vi 0,vi 0]),(3,vb false)] [0,1,2,3,4,5,6,7] [9,10] [zq [] 8 38,⟨[],[8,0],[9],[.cell 2 0,.cell 2 1,.cell 2 2,.cell 2 3]⟩,zq [] 10 3] [(_,_),(_,_)] rfl ⟨zp rfl (op_build _ _ _ _ [1, 1, 1, 1] _ _ underlying66 zr66 (fs66 _ underlying66) Src.nil rfl rfl rfl),zp rfl (op_store_self _ _ _ 38 2 4 sz66 rfl rfl rfl rfl rfl (.eq _ (.eq _ (.eq _ (.eq _ (.nil _))))) rfl),z2 rfl,zz⟩ ?_
       refine ht_ret ?_
       refine pt_r_then ?_
       refine pt_r_in ?_
       refine pt_r_then ?_
       refine pt_r_then ?_
       refine pt_r_in ?_
       refine pt_r_then ?_
       have h := hr29 _ (ho30 _ (zi h).symm).symm
       obtain rfl := zi h
       exact pt_ret hio rfl (.cellA _ _ _ _ underlying66 rfl sz66 (.tmp _ _ .nil)) rfl rfl
      ·have h := cond_f hb34 h
       refine ht_skip ?_
       refine pt_then ?_
       obtain ⟨v15, hv15, h⟩ := zn h
       obtain ⟨v16, hv16, h⟩ := zn h
       refine zg hn [_,_,_,_,_,_,_,_,(39,vi s23),(40,vi v13.1),(41,.ptr 5 v15),(5,.arr 90 (map (int .i64) v16))] [0,1,2,3,4,5,6,7] [0,11,2,3,4] [zq [5] 8 39,zq [6] 9 40,zq [1,8] 10 41,⟨[10,9],[1],[11],[]⟩] [(_,_),(_,_),(_,_),(_,_),(_,_)] rfl ⟨z1 rfl,z1 rfl,zp rfl (op_ix_arr _ _ _ _ 5 5 _ underlying90 sz3 rfl rfl (ix_ok hv15).1 (ix_ok hv15).2 (by decide)),zp rfl (op_store_arr _ _ _ _ _ _ sz3 rfl rfl rfl rfl (set_lt hv16) (set_eq (f := int .i64) hv16)),zz⟩ ?_
       refine pt_inb ?_
       refine pt_then ?_
       obtain ⟨v17, hv17, h⟩ := zn h
       refine zg hn [_,_,_,_,_,(42,vi v17),(26,vi v17)] [0,1,2,3,4] [0,1,2,3,6] [zq [4] 5 42,⟨[5],[4],[6],[(.slot 26)]⟩] [(_,_),(_,_),(_,_),(_,_),(_,_)] rfl ⟨zp rfl (oB rfl (ibind (f := int .i64) (Option.some.inj hv17))),zp rfl (LOp.drop [_] (oM rfl)),zz⟩ ?_
       exact pt_next _ (zi h).symm rfl
     ·have h := cond_f hb33 h
      refine ht_exit ?_
      refine pt_x_then ?_
      refine pt_x_then ?_
      refine pt_x_in ?_
      refine pt_pick [0, 1] (by kernel_rfl) (es' := [(_,_),(_,_)]) rfl ?_
      exact hl28 _ (ho30 _ (zi h).symm).symm
  ·intro u5 h hl6 hr7
   refine cond_some h (fun hg2_3 h => ?_) (fun hg2_3 h => ?_)
   ·refine zg hn [_,_,(13,.fl .ro 1 (map Value.string v1)),(14,vi (v1.length : Int)),(15,vb ((v1.length : Int) != 6)),(16,vb true),(17,.v undef),(18,.v undef),(19,.v undef),(20,.v undef),(21,vb true)] [0,1] [0,1,10] [zq [1] 2 13,zq [2] 3 14,zq [3] 4 15,zq [4] 5 16,zq [5] 6 17,zq [5] 7 18,zq [5] 8 19,zq [5] 9 20,zq [5] 10 21] [(_,_),(_,_),(_,_)] rfl ⟨z1 rfl,zp rfl (op_len_fl _ _ _ underlying57 rfl (by decide) (map_len _)),z4 rfl rfl,z8 hg2_3 rfl,zf rfl,zf rfl,zf rfl,zf rfl,z3 true rfl,zz⟩ ?_
    exact hl6 _ (zi h).symm
   ·obtain ⟨v2, hv2, h⟩ := zn h
    obtain ⟨v3, hv3, h⟩ := zn h
    refine zg hn [_,_,(13,.fl .ro 1 (map Value.string v1)),(14,vi (v1.length : Int)),(15,vb ((v1.length : Int) != 6)),(16,vb false),(17,.fl .ro 1 (map Value.string v1)),(18,.eref (.slot 17) (v2 * 1)),(19,vs v3),(20,vb (!(v3.toList == (⟨#[66,85,78,68,76,69]⟩ : ByteArray).toList))),(21,vb (!(v3.toList == (⟨#[66,85,78,68,76,69]⟩ : ByteArray).toList)))] [0,1] [0,1,10] [zq [1] 2 13,zq [2] 3 14,zq [3] 4 15,zq [4] 5 16,zq [5,1] 6 17,zq [5,6] 7 18,zq [5,7,6] 8 19,zq [5,8] 9 20,zq [5,9] 10 21] [(_,_),(_,_),(_,_)] rfl ⟨z1 rfl,zp rfl (op_len_fl _ _ _ underlying57 rfl (by decide) (map_len _)),z4 rfl rfl,z8 hg2_3 rfl,zr' rfl (oM rfl),zr' rfl (op_ix _ _ _ _ _ _ _ _ underlying57 sz9 (by decide) rfl rfl rfl (ix_ok hv2).1 (map_lt (ix_ok hv2).2) rfl),zr' rfl (op_load_e _ _ _ _ _ _ underlying9 rfl rfl rfl (map_get hv3)),zr' rfl (oB rfl rfl),z3 false rfl,zz⟩ ?_
    exact hl6 _ (zi h).symm
theorem ok_internal_stringslite_HasPrefix (s : ByteArray) (prefix_ : ByteArray) (r : Bool) (h : Sh.internal_stringslite_HasPrefix s prefix_ = some r) : FnOK Tryz.prog 149 [.v (.string s), .v (.string prefix_)] (.v (.bool r)) := by
  unfold Sh.internal_stringslite_HasPrefix at h
  refine fn_ok func149 rfl (zl rfl) rfl rfl fun g0 hn hio => ?_
  refine zgg hn [_,_,(4,vb false)] [0,1] [0,1] [zq [] 2 4] [(_,_),(_,_)] rfl ⟨z2 rfl,zz⟩ ?_
  refine ht_seq ?_
  refine ht_joinS h (fun (s2 : Bool) => [(4, .v (.bool s2))]) ?_ ?_
  ·rintro s2 h
   refine pt_then (ht_ret ?_)
   obtain rfl := zi h
   exact pt_ret hio rfl (.tmp _ _ .nil) rfl rfl
  ·intro u3 h hl4 hr5
   refine cond_some h (fun hg1_5 h => ?_) (fun hg1_5 h => ?_)
   ·obtain ⟨v1, hv1, h⟩ := zn h
    refine zg hn (_::_::(5,vs s)::(6,vi (s.size : Int))::(7,vs prefix_)::(8,vi (prefix_.size : Int))::(9,vb (decide ((prefix_.size : Int) ≤ (s.size : Int))))::(10,vb true)::(11,vs s)::(12,vs prefix_)::(13,vi (prefix_.size : Int))::(14,vs v1)::(15,vs prefix_)::(16,vb (v1.toList == prefix_.toList))::(17,vb (v1.toList == prefix_.toList))::(4,vb (v1.toList == prefix_.toList))::[]) [0,1] [15] [zq [0] 2 5,zq [2] 3 6,zq [1] 4 7,zq [4] 5 8,zq [3,5] 6 9,zq [6] 7 10,zq [7,0] 8 11,zq [7,1] 9 12,zq [7,9] 10 13,zq [7,8,10] 11 14,zq [7,1] 12 15,zq [7,11,12] 13 16,zq [7,13] 14 17,zq [14] 15 4] [(_,_)] rfl ⟨z1 rfl,zp rfl (oN underlying9 rfl),z1 rfl,zp rfl (oN underlying9 rfl),z4 rfl rfl,z8 hg1_5 rfl,zr' rfl (oM rfl),zr' rfl (oM rfl),zr' rfl (oN underlying9 rfl),zr' rfl (op_substr _ _ _ 0 (prefix_.size : Int) _ underlying9 rfl rfl ⟨_, rfl⟩ hv1),zr' rfl (oM rfl),zr' rfl (oB rfl rfl),z3 true rfl,z2 rfl,zz⟩ ?_
    exact hl4 _ (zi h).symm
   ·refine zg hn (_::_::(5,vs s)::(6,vi (s.size : Int))::(7,vs prefix_)::(8,vi (prefix_.size : Int))::(9,vb (decide ((prefix_.size : Int) ≤ (s.size : Int))))::(10,vb false)::(11,.v undef)::(12,.v undef)::(13,.v undef)::(14,.v undef)::(15,.v undef)::(16,.v undef)::(17,vb false)::(4,vb false)::[]) [0,1] [15] [zq [0] 2 5,zq [2] 3 6,zq [1] 4 7,zq [4] 5 8,zq [3,5] 6 9,zq [6] 7 10,zq [7] 8 11,zq [7] 9 12,zq [7] 10 13,zq [7] 11 14,zq [7] 12 15,zq [7] 13 16,zq [7] 14 17,zq [14] 15 4] [(_,_)] rfl ⟨z1 rfl,zp rfl (oN underlying9 rfl),z1 rfl,zp rfl (oN underlying9 rfl),z4 rfl rfl,z8 hg1_5 rfl,zt rfl,zt rfl,zt rfl,zt rfl,zt rfl,zt rfl,z3 false rfl,z2 rfl,zz⟩ ?_
    exact hl4 _ (zi h).symm
theorem ok_internal_stringslite_CutPrefix (s : ByteArray) (prefix_ : ByteArray) (r : (ByteArray × Bool)) (h : Sh.internal_stringslite_CutPrefix s prefix_ = some r) : FnOK Tryz.prog 125 [.v (.string s), .v (.string prefix_)] (.tup [.v (.string r.1), .v (.bool r.2)]) := by
  unfold Sh.internal_stringslite_CutPrefix at h
  refine fn_ok func125 rfl (zl rfl) rfl rfl fun g0 hn hio => ?_
  refine zgg hn [_,_,(4,vs z0),(5,vb false)] [0,1] [0,1] [zq [] 2 4,zq [] 3 5] [(_,_),(_,_)] rfl ⟨z2 rfl,z2 rfl,zz⟩ ?_
  refine ht_seq ?_
  refine ht_seq ?_
  obtain ⟨v1, hv1, h⟩ := zn h
  refine zg hn [_,_,(6,vs s),(7,vs prefix_),(8,vb v1),(9,vb (!v1))] [0,1] [0,1,5] [zq [0] 2 6,zq [1] 3 7,zq [2,3] 4 8,zq [4] 5 9] [(_,_),(_,_),(_,_)] rfl ⟨z1 rfl,z1 rfl,zp rfl (op_call _ _ 149 _ _ rfl call149 rfl (ok_internal_stringslite_HasPrefix s prefix_ _ hv1) rfl rfl),zp rfl (op_un _ _ _ _ rfl rfl),zz⟩ ?_
  refine pt_then ?_
  refine ht_cond _ rfl (fun hb2 => ?_) (fun hb2 => ?_)
  ·have h := cond_t hb2 h
   refine zgg hn [_,_,_,(10,vs s),(4,vs s),(5,vb false)] [0,1,2] [4,5] [zq [0] 3 10,zq [3] 4 4,zq [] 5 5] [(_,_),(_,_)] rfl ⟨z1 rfl,z2 rfl,z2 rfl,zz⟩ ?_
   refine ht_ret ?_
   refine pt_r_then ?_
   obtain rfl := zi h
   exact pt_ret hio rfl (.tmp _ _ (.tmp _ _ .nil)) rfl rfl
  ·have h := cond_f hb2 h
   refine ht_skip ?_
   refine pt_then (ht_seq ?_)
   obtain ⟨v3, hv3, h⟩ := zn h
   refine zg hn [_,_,_,(11,vs s),(12,vs prefix_),(13,vi (prefix_.size : Int)),(14,vs v3),(4,vs v3),(5,vb true)] [0,1,2] [7,8] [zq [0] 3 11,zq [1] 4 12,zq [4] 5 13,zq [3,5] 6 14,zq [6] 7 4,zq [] 8 5] [(_,_),(_,_)] rfl ⟨z1 rfl,z1 rfl,zp rfl (oN underlying9 rfl),zp rfl (op_substr _ _ _ (prefix_.size : Int) (s.size : Int) _ underlying9 rfl ⟨_, rfl⟩ rfl hv3),z2 rfl,z2 rfl,zz⟩ ?_
   refine pt_then (ht_ret ?_)
   obtain rfl := zi h
   exact pt_ret hio rfl (.tmp _ _ (.tmp _ _ .nil)) rfl rfl
theorem ok_strings_CutPrefix (s : ByteArray) (prefix_ : ByteArray) (r : (ByteArray × Bool)) (h : Sh.strings_CutPrefix s prefix_ = some r) : FnOK Tryz.prog 101 [.v (.string s), .v (.string prefix_)] (.tup [.v (.string r.1), .v (.bool r.2)]) := by
  unfold Sh.strings_CutPrefix at h
  refine fn_ok func101 rfl (zl rfl) rfl rfl fun g0 hn hio => ?_
  refine zgg hn [_,_,(4,vs z0),(5,vb false)] [0,1] [0,1] [zq [] 2 4,zq [] 3 5] [(_,_),(_,_)] rfl ⟨z2 rfl,z2 rfl,zz⟩ ?_
  refine ht_seq ?_
  obtain ⟨v1, hv1, h⟩ := zn h
  refine zg hn [_,_,(6,vs s),(7,vs prefix_),(8,.tup [vs v1.1,vb v1.2]),(9,vs v1.1),(10,vb v1.2),(4,vs v1.1),(5,vb v1.2)] [0,1] [7,8] [zq [0] 2 6,zq [1] 3 7,zq [2,3] 4 8,zq [4] 5 9,zq [4] 6 10,zq [5] 7 4,zq [6] 8 5] [(_,_),(_,_)] rfl ⟨z1 rfl,z1 rfl,zp rfl (op_call _ _ 125 _ _ rfl call125 rfl (ok_internal_stringslite_CutPrefix s prefix_ _ hv1) rfl rfl),zp rfl (oE rfl),zp rfl (oE rfl),z2 rfl,z2 rfl,zz⟩ ?_
  refine pt_then (ht_ret ?_)
  obtain rfl := zi h
  exact pt_ret hio rfl (.tmp _ _ (.tmp _ _ .nil)) rfl rfl
theorem ok_internal_stringslite_HasSuffix (s : ByteArray) (suffix : ByteArray) (r : Bool) (h : Sh.internal_stringslite_HasSuffix s suffix = some r) : FnOK Tryz.prog 159 [.v (.string s), .v (.string suffix)] (.v (.bool r)) := by
  unfold Sh.internal_stringslite_HasSuffix at h
  refine fn_ok func159 rfl (zl rfl) rfl rfl fun g0 hn hio => ?_
  refine zgg hn [_,_,(4,vb false)] [0,1] [0,1] [zq [] 2 4] [(_,_),(_,_)] rfl ⟨z2 rfl,zz⟩ ?_
  refine ht_seq ?_
  refine ht_joinS h (fun (s3 : Bool) => [(4, .v (.bool s3))]) ?_ ?_
  ·rintro s3 h
   refine pt_then (ht_ret ?_)
   obtain rfl := zi h
   exact pt_ret hio rfl (.tmp _ _ .nil) rfl rfl
  ·intro u4 h hl5 hr6
   refine cond_some h (fun hg1_5 h => ?_) (fun hg1_5 h => ?_)
   ·obtain ⟨v1, hv1, h⟩ := zn h
    obtain ⟨v2, hv2, h⟩ := zn h
    refine zg hn (_::_::(5,vs s)::(6,vi (s.size : Int))::(7,vs suffix)::(8,vi (suffix.size : Int))::(9,vb (decide ((suffix.size : Int) ≤ (s.size : Int))))::(10,vb true)::(11,vs s)::(12,vs s)::(13,vi (s.size : Int))::(14,vs suffix)::(15,vi (suffix.size : Int))::(16,vi v1)::(17,vs v2)::(18,vs suffix)::(19,vb (v2.toList == suffix.toList))::(20,vb (v2.toList == suffix.toList))::(4,vb (v2.toList == suffix.toList))::[]) [0,1] [18] (zq [0] 2 5::zq [2] 3 6::zq [1] 4 7::zq [4] 5 8::zq [3,5] 6 9::zq [6] 7 10::zq [7,0] 8 11::zq [7,0] 9 12::zq [7,9] 10 13::zq [7,1] 11 14::zq [7,11] 12 15::zq [7,10,12] 13 16::zq [7,8,13] 14 17::zq [7,1] 15 18::zq [7,14,15] 16 19::zq [7,16] 17 20::zq [17] 18 4::[]) [(_,_)] rfl ⟨z1 rfl,zp rfl (oN underlying9 rfl),z1 rfl,zp rfl (oN underlying9 rfl),z4 rfl rfl,z8 hg1_5 rfl,zr' rfl (oM rfl),zr' rfl (oM rfl),zr' rfl (oN underlying9 rfl),zr' rfl (oM rfl),zr' rfl (oN underlying9 rfl),zr' rfl (oB rfl (ibind (f := int .i64) (Option.some.inj hv1))),zr' rfl (op_substr _ _ _ v1 (s.size : Int) _ underlying9 rfl ⟨_, rfl⟩ rfl hv2),zr' rfl (oM rfl),zr' rfl (oB rfl rfl),z3 true rfl,z2 rfl,zz⟩ ?_
    exact hl5 _ (zi h).symm
   ·refine zg hn (_::_::(5,vs s)::(6,vi (s.size : Int))::(7,vs suffix)::(8,vi (suffix.size : Int))::(9,vb (decide ((suffix.size : Int) ≤ (s.size : Int))))::(10,vb false)::(11,.v undef)::(12,.v undef)::(13,.v undef)::(14,.v undef)::(15,.v undef)::(16,.v undef)::(17,.v undef)::(18,.v undef)::(19,.v undef)::(20,vb false)::(4,vb false)::[]) [0,1] [18] (zq [0] 2 5::zq [2] 3 6::zq [1] 4 7::zq [4] 5 8::zq [3,5] 6 9::zq [6] 7 10::zq [7] 8 11::zq [7] 9 12::zq [7] 10 13::zq [7] 11 14::zq [7] 12 15::zq [7] 13 16::zq [7] 14 17::zq [7] 15 18::zq [7] 16 19::zq [7] 17 20::zq [17] 18 4::[]) [(_,_)] rfl ⟨z1 rfl,zp rfl (oN underlying9 rfl),z1 rfl,zp rfl (oN underlying9 rfl),z4 rfl rfl,z8 hg1_5 rfl,zt rfl,zt rfl,zt rfl,zt rfl,zt rfl,zt rfl,zt rfl,zt rfl,zt rfl,z3 false rfl,z2 rfl,zz⟩ ?_
    exact hl5 _ (zi h).symm
theorem ok_internal_stringslite_CutSuffix (s : ByteArray) (suffix : ByteArray) (r : (ByteArray × Bool)) (h : Sh.internal_stringslite_CutSuffix s suffix = some r) : FnOK Tryz.prog 150 [.v (.string s), .v (.string suffix)] (.tup [.v (.string r.1), .v (.bool r.2)]) := by
  unfold Sh.internal_stringslite_CutSuffix at h
  refine fn_ok func150 rfl (zl rfl) rfl rfl fun g0 hn hio => ?_
  refine zgg hn [_,_,(4,vs z0),(5,vb false)] [0,1] [0,1] [zq [] 2 4,zq [] 3 5] [(_,_),(_,_)] rfl ⟨z2 rfl,z2 rfl,zz⟩ ?_
  refine ht_seq ?_
  refine ht_seq ?_
  obtain ⟨v1, hv1, h⟩ := zn h
  refine zg hn [_,_,(6,vs s),(7,vs suffix),(8,vb v1),(9,vb (!v1))] [0,1] [0,1,5] [zq [0] 2 6,zq [1] 3 7,zq [2,3] 4 8,zq [4] 5 9] [(_,_),(_,_),(_,_)] rfl ⟨z1 rfl,z1 rfl,zp rfl (op_call _ _ 159 _ _ rfl call159 rfl (ok_internal_stringslite_HasSuffix s suffix _ hv1) rfl rfl),zp rfl (op_un _ _ _ _ rfl rfl),zz⟩ ?_
  refine pt_then ?_
  refine ht_cond _ rfl (fun hb2 => ?_) (fun hb2 => ?_)
  ·have h := cond_t hb2 h
   refine zgg hn [_,_,_,(10,vs s),(4,vs s),(5,vb false)] [0,1,2] [4,5] [zq [0] 3 10,zq [3] 4 4,zq [] 5 5] [(_,_),(_,_)] rfl ⟨z1 rfl,z2 rfl,z2 rfl,zz⟩ ?_
   refine ht_ret ?_
   refine pt_r_then ?_
   obtain rfl := zi h
   exact pt_ret hio rfl (.tmp _ _ (.tmp _ _ .nil)) rfl rfl
  ·have h := cond_f hb2 h
   refine ht_skip ?_
   refine pt_then (ht_seq ?_)
   obtain ⟨v3, hv3, h⟩ := zn h
   obtain ⟨v4, hv4, h⟩ := zn h
   refine zg hn [_,_,_,(11,vs s),(12,vs s),(13,vi (s.size : Int)),(14,vs suffix),(15,vi (suffix.size : Int)),(16,vi v3),(17,vs v4),(4,vs v4),(5,vb true)] [0,1,2] [10,11] [zq [0] 3 11,zq [0] 4 12,zq [4] 5 13,zq [1] 6 14,zq [6] 7 15,zq [5,7] 8 16,zq [3,8] 9 17,zq [9] 10 4,zq [] 11 5] [(_,_),(_,_)] rfl ⟨z1 rfl,z1 rfl,zp rfl (oN underlying9 rfl),z1 rfl,zp rfl (oN underlying9 rfl),zp rfl (oB rfl (ibind (f := int .i64) (Option.some.inj hv3))),zp rfl (op_substr _ _ _ 0 v3 _ underlying9 rfl rfl ⟨_, rfl⟩ hv4),z2 rfl,z2 rfl,zz⟩ ?_
   refine pt_then (ht_ret ?_)
   obtain rfl := zi h
   exact pt_ret hio rfl (.tmp _ _ (.tmp _ _ .nil)) rfl rfl
theorem ok_strings_CutSuffix (s : ByteArray) (suffix : ByteArray) (r : (ByteArray × Bool)) (h : Sh.strings_CutSuffix s suffix = some r) : FnOK Tryz.prog 126 [.v (.string s), .v (.string suffix)] (.tup [.v (.string r.1), .v (.bool r.2)]) := by
  unfold Sh.strings_CutSuffix at h
  refine fn_ok func126 rfl (zl rfl) rfl rfl fun g0 hn hio => ?_
  refine zgg hn [_,_,(4,vs z0),(5,vb false)] [0,1] [0,1] [zq [] 2 4,zq [] 3 5] [(_,_),(_,_)] rfl ⟨z2 rfl,z2 rfl,zz⟩ ?_
  refine ht_seq ?_
  obtain ⟨v1, hv1, h⟩ := zn h
  refine zg hn [_,_,(6,vs s),(7,vs suffix),(8,.tup [vs v1.1,vb v1.2]),(9,vs v1.1),(10,vb v1.2),(4,vs v1.1),(5,vb v1.2)] [0,1] [7,8] [zq [0] 2 6,zq [1] 3 7,zq [2,3] 4 8,zq [4] 5 9,zq [4] 6 10,zq [5] 7 4,zq [6] 8 5] [(_,_),(_,_)] rfl ⟨z1 rfl,z1 rfl,zp rfl (op_call _ _ 150 _ _ rfl call150 rfl (ok_internal_stringslite_CutSuffix s suffix _ hv1) rfl rfl),zp rfl (oE rfl),zp rfl (oE rfl),z2 rfl,z2 rfl,zz⟩ ?_
  refine pt_then (ht_ret ?_)
  obtain rfl := zi h
  exact pt_ret hio rfl (.tmp _ _ (.tmp _ _ .nil)) rfl rfl
theorem ok_internal_stringslite_Index (s sub : ByteArray) (r : Int) (h : Sh.strings_Index s sub = some r) : FnOK Tryz.prog 119 [.v (.string s), .v (.string sub)] (.v (.int .i64 r)) := lib_strings_Index Tryz.stringslite_Index_one s sub r h
theorem ok_internal_stringslite_Cut (s : ByteArray) (sep : ByteArray) (r : (ByteArray × ByteArray × Bool)) (h : Sh.internal_stringslite_Cut s sep = some r) : FnOK Tryz.prog 151 [.v (.string s), .v (.string sep)] (.tup [.v (.string r.1), .v (.string r.2.1), .v (.bool r.2.2)]) := by
  unfold Sh.internal_stringslite_Cut at h
  refine fn_ok func151 rfl (zl rfl) rfl rfl fun g0 hn hio => ?_
  refine zgg hn [_,_,(4,vs z0),(5,vs z0),(6,vb false)] [0,1] [0,1] [zq [] 2 4,zq [] 3 5,zq [] 4 6] [(_,_),(_,_)] rfl ⟨z2 rfl,z2 rfl,z2 rfl,zz⟩ ?_
  refine ht_seq ?_
  refine ht_seq ?_
  obtain ⟨v1, hv1, h⟩ := zn h
  refine zg hn [_,_,(8,vs s),(9,vs sep),(10,vi v1),(7,vi v1)] [0,1] [0,1,5] [zq [0] 2 8,zq [1] 3 9,zq [2,3] 4 10,zq [4] 5 7] [(_,_),(_,_),(_,_)] rfl ⟨z1 rfl,z1 rfl,zp rfl (op_call _ _ 119 _ _ rfl call119 rfl (ok_internal_stringslite_Index s sep _ hv1) rfl rfl),z2 rfl,zz⟩ ?_
  refine pt_then ?_
  refine zgg hn [_,_,_,(11,vi v1),(12,vb (decide (0 ≤ v1)))] [0,1,2] [0,1,2,4] [zq [2] 3 11,zq [3] 4 12] [(_,_),(_,_),(_,_),(_,_)] rfl ⟨z1 rfl,z4 rfl rfl,zz⟩ ?_
  refine ht_cond _ rfl (fun hb2 => ?_) (fun hb2 => ?_)
  ·have h := cond_t hb2 h
   refine ht_seq ?_
   obtain ⟨v3, hv3, h⟩ := zn h
   obtain ⟨v4, hv4, h⟩ := zn h
   obtain ⟨v5, hv5, h⟩ := zn h
   refine ht_anyR (by kernel_rfl) hn (El := (_ :: _ :: _ :: _ :: (13, .v (.string s)) :: (14, .v (.int .i64 v1)) :: (15, .v (.string v3)) :: (16, .v (.string s)) :: (17, .v (.int .i64 v1)) :: (18, .v (.string sep)) :: (19, .v (.int .i64 (sep.size : Int))) :: (20, .v (.int .i64 v4)) :: (21, .v (.string v5)) :: (4, .v (.string v3)) :: (5, .v (.string v5)) :: (6, .v (.bool true)) :: [])) (init := [0, 1, 2, 3]) (fin := [13, 14, 15]) (sps := [zq [0] 4 13, zq [2] 5 14, zq [4,5] 6 15, zq [0] 7 16, zq [2] 8 17, zq [1] 9 18, zq [9] 10 19, zq [8,10] 11 20, zq [7,11] 12 21, zq [6] 13 4, zq [12] 14 5, zq [] 15 6]) (es' := [(4, .v (.string v3)), (5, .v (.string v5)), (6, .v (.bool true))]) (by kernel_rfl) rfl rfl ⟨z1 rfl,z1 rfl,zp rfl (op_substr _ _ _ 0 v1 _ underlying9 rfl rfl ⟨_, rfl⟩ hv3),z1 rfl,z1 rfl,z1 rfl,zp rfl (oN underlying9 rfl),zp rfl (oB rfl (ibind (f := int .i64) (Option.some.inj hv4))),zp rfl (op_substr _ _ _ v4 (s.size : Int) _ underlying9 rfl ⟨_, rfl⟩ rfl hv5),z2 rfl,z2 rfl,z2 rfl,zz⟩ ?_
   refine pt_then (ht_ret ?_)
   refine pt_r_then ?_
   obtain rfl := zi h
   exact pt_ret hio rfl (.tmp _ _ (.tmp _ _ (.tmp _ _ .nil))) rfl rfl
  ·have h := cond_f hb2 h
   refine ht_skip ?_
   refine pt_then ?_
   refine zgg hn [_,_,_,_,(22,vs s),(4,vs s),(5,vs z0),(6,vb false)] [0,1,2,3] [5,6,7] [zq [0] 4 22,zq [4] 5 4,zq [] 6 5,zq [] 7 6] [(_,_),(_,_),(_,_)] rfl ⟨z1 rfl,z2 rfl,z2 rfl,z2 rfl,zz⟩ ?_
   refine ht_ret ?_
   obtain rfl := zi h
   exact pt_ret hio rfl (.tmp _ _ (.tmp _ _ (.tmp _ _ .nil))) rfl rfl
theorem ok_strings_Cut (s : ByteArray) (sep : ByteArray) (r : (ByteArray × ByteArray × Bool)) (h : Sh.strings_Cut s sep = some r) : FnOK Tryz.prog 127 [.v (.string s), .v (.string sep)] (.tup [.v (.string r.1), .v (.string r.2.1), .v (.bool r.2.2)]) := by
  unfold Sh.strings_Cut at h
  refine fn_ok func127 rfl (zl rfl) rfl rfl fun g0 hn hio => ?_
  refine zgg hn [_,_,(4,vs z0),(5,vs z0),(6,vb false)] [0,1] [0,1] [zq [] 2 4,zq [] 3 5,zq [] 4 6] [(_,_),(_,_)] rfl ⟨z2 rfl,z2 rfl,z2 rfl,zz⟩ ?_
  refine ht_seq ?_
  obtain ⟨v1, hv1, h⟩ := zn h
  refine zg hn [_,_,(7,vs s),(8,vs sep),(9,.tup [vs v1.1,vs v1.2.1,vb v1.2.2]),(10,vs v1.1),(11,vs v1.2.1),(12,vb v1.2.2),(4,vs v1.1),(5,vs v1.2.1),(6,vb v1.2.2)] [0,1] [8,9,10] [zq [0] 2 7,zq [1] 3 8,zq [2,3] 4 9,zq [4] 5 10,zq [4] 6 11,zq [4] 7 12,zq [5] 8 4,zq [6] 9 5,zq [7] 10 6] [(_,_),(_,_),(_,_)] rfl ⟨z1 rfl,z1 rfl,zp rfl (op_call _ _ 151 _ _ rfl call151 rfl (ok_internal_stringslite_Cut s sep _ hv1) rfl rfl),zp rfl (oE rfl),zp rfl (oE rfl),zp rfl (oE rfl),z2 rfl,z2 rfl,z2 rfl,zz⟩ ?_
  refine pt_then (ht_ret ?_)
  obtain rfl := zi h
  exact pt_ret hio rfl (.tmp _ _ (.tmp _ _ (.tmp _ _ .nil))) rfl rfl
theorem ok_path_Parse (mx : Int) (s : ByteArray) (r : (T_Path × Int)) (h : Sh.path_Parse s = some r) : FnG Tryz.prog (GL mx) 102 [.v (.string s)] (.tup [.agg [.v (.bool r.1.Null), .v (.string r.1.Local), .v (.string r.1.Domain)], .v (.int .i64 r.2)]) := by
  unfold Sh.path_Parse at h
  refine fn_okG func102 rfl (zl rfl) rfl rfl fun g0 hn hio => ?_
  refine zgg hn [_,_,(2,.box 43 [vb false,vs z0,vs z0]),(3,vi 0)] [0,1] [0,1,2] [zq [] 2 2,zq [] 3 3] [(_,_),(_,_),(_,_)] rfl ⟨zp rfl (op_alloc _ _ zr43),z2 rfl,zz⟩ ?_
  refine ht_seq ?_
  refine zgg hn [_,_,_,(11,vs s),(12,vb (s.toList == (⟨#[60,62]⟩ : ByteArray).toList))] [0,1,2] [0,1,2,4] [zq [0] 3 11,zq [3] 4 12] [(_,_),(_,_),(_,_),(_,_)] rfl ⟨z1 rfl,z4 rfl rfl,zz⟩ ?_
  refine ht_cond _ rfl (fun hb1 => ?_) (fun hb1 => ?_)
  ·have h := cond_t hb1 h
   refine zgg hn [_,_,_,_,(13,.agg [vb true,vs z0,vs z0]),(2,.box 43 [vb true,vs z0,vs z0]),(3,vi 0)] [0,1,2,3] [1,5,6] [zq [] 4 13,⟨[4],[2],[5],[.cell 2 0,.cell 2 1,.cell 2 2]⟩,zq [] 6 3] [(_,_),(_,_),(_,_)] rfl ⟨zp rfl (op_build _ _ _ _ [1, 1, 1] _ _ underlying43 zr43 (fs43 _ underlying43) (.copy _ Src.nil) rfl rfl rfl),zp rfl (oS sz43 rfl),z2 rfl,zz⟩ ?_
   refine ht_ret ?_
   refine pt_pick [1, 2] (by kernel_rfl) (es' := [(_,_),(_,_)]) rfl ?_
   refine pt_r_then ?_
   obtain rfl := zi h
   exact pt_ret hio rfl (.cellA _ _ _ _ underlying43 rfl sz43 (.tmp _ _ .nil)) rfl rfl
  ·have h := cond_f hb1 h
   refine ht_skip ?_
   refine pt_then (ht_seq ?_)
   obtain ⟨v2, hv2, h⟩ := zn h
   refine zg hn [_,_,_,_,(15,vs s),(16,.tup [vs v2.1,vb v2.2]),(14,.tup [vs v2.1,vb v2.2]),(17,vs v2.1),(18,vb v2.2),(4,vs v2.1),(5,vb v2.2)] [0,1,2,3] [1,2,9,10] [zq [0] 4 15,zq [4] 5 16,⟨[],[5],[6],[(.slot 14)]⟩,zq [6] 7 17,zq [6] 8 18,zq [7] 9 4,zq [8] 10 5] [(_,_),(_,_),(_,_),(_,_)] rfl ⟨z1 rfl,zp rfl (op_call _ _ 101 _ _ rfl call101 rfl (ok_strings_CutPrefix s (⟨#[60]⟩ : ByteArray) _ hv2) rfl rfl),zp rfl (op_move_take _ _ _ _ rfl),zp rfl (oE rfl),zp rfl (oE rfl),z2 rfl,z2 rfl,zz⟩ ?_
   refine pt_then (ht_seq ?_)
   obtain ⟨v3, hv3, h⟩ := zn h
   refine zg hn [_,_,_,_,(20,vs v2.1),(21,.tup [vs v3.1,vb v3.2]),(19,.tup [vs v3.1,vb v3.2]),(22,vs v3.1),(23,vb v3.2),(4,vs v3.1),(6,vb v3.2)] [0,1,2,3] [0,1,3,9,10] [zq [2] 4 20,zq [4] 5 21,⟨[],[5],[6],[(.slot 19)]⟩,zq [6] 7 22,zq [6] 8 23,⟨[7],[2],[9],[(.slot 4)]⟩,zq [8] 10 6] [(_,_),(_,_),(_,_),(_,_),(_,_)] rfl ⟨z1 rfl,zp rfl (op_call _ _ 126 _ _ rfl call126 rfl (ok_strings_CutSuffix v2.1 (⟨#[62]⟩ : ByteArray) _ hv3) rfl rfl),zp rfl (op_move_take _ _ _ _ rfl),zp rfl (oE rfl),zp rfl (oE rfl),zp rfl (LOp.drop [_] (op_assign _ _ _ _ rfl rfl)),z2 rfl,zz⟩ ?_
   refine pt_then (ht_seq ?_)
   obtain ⟨v4, hv4, h⟩ := zn h
   refine zg hn [_,_,_,_,_,(25,vs v3.1),(26,.tup [vs v4.1,vs v4.2.1,vb v4.2.2]),(24,.tup [vs v4.1,vs v4.2.1,vb v4.2.2]),(27,vs v4.1),(28,vs v4.2.1),(29,vb v4.2.2),(7,vs v4.1),(8,vs v4.2.1),(9,vb v4.2.2)] [0,1,2,3,4] [0,1,2,4,11,12,13] [zq [3] 5 25,zq [5] 6 26,⟨[],[6],[7],[(.slot 24)]⟩,zq [7] 8 27,zq [7] 9 28,zq [7] 10 29,zq [8] 11 7,zq [9] 12 8,zq [10] 13 9] [(_,_),(_,_),(_,_),(_,_),(_,_),(_,_),(_,_)] rfl ⟨z1 rfl,zp rfl (op_call _ _ 127 _ _ rfl call127 rfl (ok_strings_Cut v3.1 (⟨#[64]⟩ : ByteArray) _ hv4) rfl rfl),zp rfl (op_move_take _ _ _ _ rfl),zp rfl (oE rfl),zp rfl (oE rfl),zp rfl (oE rfl),z2 rfl,z2 rfl,z2 rfl,zz⟩ ?_
   refine pt_then ?_
   refine zgg hn [_,_,_,_,_,_,_,(30,vs v4.1),(31,vs v4.2.1),(32,.agg [vb false,vs v4.1,vs v4.2.1]),(10,.box 43 [vb false,vs z0,vs z0]),(10,.box 43 [vb false,vs v4.1,vs v4.2.1])] [0,1,2,3,4,5,6] [0,1,2,3,6,11] [zq [4] 7 30,zq [5] 8 31,zq [7,8] 9 32,zq [] 10 10,⟨[9],[10],[11],[.cell 10 0,.cell 10 1,.cell 10 2]⟩] [(_,_),(_,_),(_,_),(_,_),(_,_),(_,_)] rfl ⟨z1 rfl,z1 rfl,zp rfl (op_build _ _ _ _ [1, 1, 1] _ _ underlying43 zr43 (fs43 _ underlying43) (.copy _ (.copy _ Src.nil)) rfl rfl rfl),zp rfl (op_alloc _ _ zr43),zp rfl (oS sz43 rfl),zz⟩ ?_
   refine ht_seq ?_
   refine ht_seq ?_
   refine ht_joinS h (fun (s6 : Bool) => [(50, .glob (GL mx)), (2, .box 43 [.v (.bool false), .v (.string (⟨#[]⟩ : ByteArray)), .v (.string (⟨#[]⟩ : ByteArray))]), (10, .box 43 [.v (.bool false), .v (.string v4.1), .v (.string v4.2.1)]), (47, .v (.bool s6))]) ?_ ?_
   ·rintro s6 h
    refine pt_then ?_
    refine ht_cond _ rfl (fun hb10 => ?_) (fun hb10 => ?_)
    ·have h := cond_t hb10 h
     refine zgg hn [_,_,_,_,(48,.agg [vb false,vs z0,vs z0]),(2,.box 43 [vb false,vs z0,vs z0]),(3,vi 5)] [0,1,2,3] [0,5,6] [zq [] 4 48,⟨[],[4,1],[5],[.cell 2 0,.cell 2 1,.cell 2 2]⟩,zq [] 6 3] [(_,_),(_,_),(_,_)] rfl ⟨zp rfl (op_build _ _ _ _ [1, 1, 1] _ _ underlying43 zr43 (fs43 _ underlying43) Src.nil rfl rfl rfl),zp rfl (op_store_self _ _ _ 48 2 3 sz43 rfl rfl rfl rfl rfl (.eq _ (.eq _ (.eq _ (.nil _)))) rfl),z2 rfl,zz⟩ ?_
     refine ht_ret ?_
     refine pt_pick [1, 2] (by kernel_rfl) (es' := [(_,_),(_,_)]) rfl ?_
     refine pt_r_then ?_
     obtain rfl := zi h
     exact pt_ret hio rfl (.cellA _ _ _ _ underlying43 rfl sz43 (.tmp _ _ .nil)) rfl rfl
    ·have h := cond_f hb10 h
     refine ht_skip ?_
     refine pt_then ?_
     refine zgg hn [_,_,_,_,(49,.agg [vb false,vs v4.1,vs v4.2.1]),(2,.box 43 [vb false,vs v4.1,vs v4.2.1]),(3,vi 0)] [0,1,2,3] [0,5,6] [zq [2] 4 49,⟨[4],[1],[5],[.cell 2 0,.cell 2 1,.cell 2 2]⟩,zq [] 6 3] [(_,_),(_,_),(_,_)] rfl ⟨zp rfl (op_loadA _ _ _ _ _ _ _ underlying43 rfl sz43 rfl rfl (zl rfl) rfl rfl),zp rfl (oS sz43 rfl),z2 rfl,zz⟩ ?_
     refine ht_ret ?_
     refine pt_pick [1, 2] (by kernel_rfl) (es' := [(_,_),(_,_)]) rfl ?_
     obtain rfl := zi h
     exact pt_ret hio rfl (.cellA _ _ _ _ underlying43 rfl sz43 (.tmp _ _ .nil)) rfl rfl
   ·intro u7 h hl8 hr9
    refine cond_some h (fun hg7_2 h => ?_) (fun hg7_2 h => ?_)
    ·refine zg hn (_::_::_::_::_::_::(33,vb v2.2)::(34,vb (!v2.2))::(35,vb true)::(36,.v undef)::(37,.v undef)::(38,vb true)::(39,vb true)::(40,.v undef)::(41,.v undef)::(42,vb true)::(43,vb true)::(44,.v undef)::(45,.v undef)::(46,.v undef)::(47,vb true)::[]) [0,1,2,3,4,5] [0,1,5,20] (zq [2] 6 33::zq [6] 7 34::zq [7] 8 35::zq [8] 9 36::zq [8] 10 37::zq [8] 11 38::zq [11] 12 39::zq [12] 13 40::zq [12] 14 41::zq [12] 15 42::zq [15] 16 43::zq [16] 17 44::zq [16] 18 45::zq [16] 19 46::zq [16] 20 47::[]) [(_,_),(_,_),(_,_),(_,_)] rfl ⟨z1 rfl,zp rfl (op_un _ _ _ _ rfl rfl),z8 hg7_2 rfl,zf rfl,zf rfl,z3 true rfl,z1 rfl,zf rfl,zf rfl,z3 true rfl,z1 rfl,zf rfl,zf rfl,zf rfl,z3 true rfl,zz⟩ ?_
     exact hl8 _ (zi h).symm
    ·refine cond_some h (fun hg7_6 h => ?_) (fun hg7_6 h => ?_)
     ·refine zg hn (_::_::_::_::_::_::(33,vb v2.2)::(34,vb (!v2.2))::(35,vb false)::(36,vb v3.2)::(37,vb (!v3.2))::(38,vb (!v3.2))::(39,vb true)::(40,.v undef)::(41,.v undef)::(42,vb true)::(43,vb true)::(44,.v undef)::(45,.v undef)::(46,.v undef)::(47,vb true)::[]) [0,1,2,3,4,5] [0,1,5,20] (zq [2] 6 33::zq [6] 7 34::zq [7] 8 35::zq [8,3] 9 36::zq [8,9] 10 37::zq [8,10] 11 38::zq [11] 12 39::zq [12] 13 40::zq [12] 14 41::zq [12] 15 42::zq [15] 16 43::zq [16] 17 44::zq [16] 18 45::zq [16] 19 46::zq [16] 20 47::[]) [(_,_),(_,_),(_,_),(_,_)] rfl ⟨z1 rfl,zp rfl (op_un _ _ _ _ rfl rfl),z8 hg7_2 rfl,zr' rfl (oM rfl),zr' rfl (op_un _ _ _ _ rfl rfl),z3 false rfl,z8 hg7_6 rfl,zf rfl,zf rfl,z3 true rfl,z1 rfl,zf rfl,zf rfl,zf rfl,z3 true rfl,zz⟩ ?_
      exact hl8 _ (zi h).symm
     ·refine cond_some h (fun hg7_10 h => ?_) (fun hg7_10 h => ?_)
      ·refine zg hn (_::_::_::_::_::_::(33,vb v2.2)::(34,vb (!v2.2))::(35,vb false)::(36,vb v3.2)::(37,vb (!v3.2))::(38,vb (!v3.2))::(39,vb false)::(40,vb v4.2.2)::(41,vb (!v4.2.2))::(42,vb (!v4.2.2))::(43,vb true)::(44,.v undef)::(45,.v undef)::(46,.v undef)::(47,vb true)::[]) [0,1,2,3,4,5] [0,1,5,20] (zq [2] 6 33::zq [6] 7 34::zq [7] 8 35::zq [8,3] 9 36::zq [8,9] 10 37::zq [8,10] 11 38::zq [11] 12 39::zq [12,4] 13 40::zq [12,13] 14 41::zq [12,14] 15 42::zq [15] 16 43::zq [16] 17 44::zq [16] 18 45::zq [16] 19 46::zq [16] 20 47::[]) [(_,_),(_,_),(_,_),(_,_)] rfl ⟨z1 rfl,zp rfl (op_un _ _ _ _ rfl rfl),z8 hg7_2 rfl,zr' rfl (oM rfl),zr' rfl (op_un _ _ _ _ rfl rfl),z3 false rfl,z8 hg7_6 rfl,zr' rfl (oM rfl),zr' rfl (op_un _ _ _ _ rfl rfl),z3 false rfl,z8 hg7_10 rfl,zf rfl,zf rfl,zf rfl,z3 true rfl,zz⟩ ?_
       exact hl8 _ (zi h).symm
      ·obtain ⟨v5, hv5, h⟩ := zn h
       refine zg hn (_::_::_::_::_::_::(33,vb v2.2)::(34,vb (!v2.2))::(35,vb false)::(36,vb v3.2)::(37,vb (!v3.2))::(38,vb (!v3.2))::(39,vb false)::(40,vb v4.2.2)::(41,vb (!v4.2.2))::(42,vb (!v4.2.2))::(43,vb false)::(44,.agg [vb false,vs v4.1,vs v4.2.1])::(45,vi v5)::(46,vb (v5 != 0))::(47,vb (v5 != 0))::[]) [0,1,2,3,4,5] [0,1,5,20] (zq [2] 6 33::zq [6] 7 34::zq [7] 8 35::zq [8,3] 9 36::zq [8,9] 10 37::zq [8,10] 11 38::zq [11] 12 39::zq [12,4] 13 40::zq [12,13] 14 41::zq [12,14] 15 42::zq [15] 16 43::zq [16,5] 17 44::zq [16,17,0] 18 45::zq [16,18] 19 46::zq [16,19] 20 47::[]) [(_,_),(_,_),(_,_),(_,_)] rfl ⟨z1 rfl,zp rfl (op_un _ _ _ _ rfl rfl),z8 hg7_2 rfl,zr' rfl (oM rfl),zr' rfl (op_un _ _ _ _ rfl rfl),z3 false rfl,z8 hg7_6 rfl,zr' rfl (oM rfl),zr' rfl (op_un _ _ _ _ rfl rfl),z3 false rfl,z8 hg7_10 rfl,zr' rfl (op_loadA _ _ _ _ _ _ _ underlying43 rfl sz43 rfl rfl (zl rfl) rfl rfl),zr' rfl (op_callG _ _ 50 68 _ _ rfl call68 rfl rfl (fun _ h => h) (ok_path_Check mx (T_Path.mk false v4.1 v4.2.1) _ hv5) rfl rfl),zr' rfl (oB rfl rfl),z3 false rfl,zz⟩ ?_
       exact hl8 _ (zi h).symm
theorem ok_dots_lastLine (mx : Int) (b : (List Int)) (r : (Int × Bool)) (h : Sh.dots_lastLine b = some r) : FnG Tryz.prog (GL mx) 103 [.fl .shr 1 (map (int .u8) b)] (.tup [.v (.int .i64 r.1), .v (.bool r.2)]) := by
  unfold Sh.dots_lastLine at h
  refine fn_okG func103 rfl (zl rfl) rfl rfl fun g0 hn hio => ?_
  refine zgg hn [_,_,(2,.box 3 [vi 0]),(3,.box 4 [vb false])] [0,1] [0,1,2,3] [zq [] 2 2,zq [] 3 3] [(_,_),(_,_),(_,_),(_,_)] rfl ⟨zp rfl (op_alloc _ _ zr3),zp rfl (op_alloc _ _ zr4),zz⟩ ?_
  refine ht_seq ?_
  refine ht_seq ?_
  obtain ⟨v1, hv1, h⟩ := zn h
  refine zg hn [_,_,_,_,(5,.fl .shr 1 (map (int .u8) b)),(6,.cloB 89 [.box 25 [.fl .shr 1 (map (int .u8) v1)]])] [0,1,2,3] [1,2,3,5] [zq [0] 4 5,zq [4] 5 6] [(_,_),(_,_),(_,_),(_,_)] rfl ⟨z1 rfl,zp rfl (op_callS _ _ 69 _ _ rfl call69 rfl rfl (ok_dots_lines b _ hv1) rfl),zz⟩ ?_
  refine pt_then ?_
  refine ht_block ?_
  refine ht_pick [3, 0, 1, 2] (by kernel_rfl) (es' := [(6, .cloB 89 [.box 25 [.fl .shr 1 (map (int .u8) v1)]]), (17, .glob (GL mx)), (2, .box 3 [.v (.int .i64 0)]), (3, .box 4 [.v (.bool false)])]) rfl ?_
  refine ht_rangeF h 89 6 7 18 _ [17, 2, 3] call89 (fun (s8 : Int) => [(17, .glob (GL mx)), (2, .box 3 [.v (.int .i64 s8)]), (3, .box 4 [.v (.bool false)])]) (fun (s10 : Int) => [(17, .glob (GL mx)), (2, .box 3 [.v (.int .i64 s10)]), (3, .box 4 [.v (.bool true)])]) (fun l J Y hY t t' h => ok_dots_lines_1 mx l J Y hY v1 t t' h) hn rfl (fun _ => rfl) (fun _ => rfl) (fun _ => rfl) rfl rfl (fun _ => ⟨rfl, rfl⟩) rfl (glIn_look 17 rfl) ?_ ?_ ?_
  ·rintro kk g0 hn hio x s8 u h
   refine ht_es (es' := [(7, .fl .shr 1 (map (int .u8) x)), (17, .glob (GL mx)), (2, .box 3 [.v (.int .i64 s8)]), (3, .box 4 [.v (.bool false)]), (17, .v (kk.tm.getD 17 undef)), (2, .v (kk.tm.getD 2 undef)), (3, .v (kk.tm.getD 3 undef)), (18, .inv kk.ready)]) rfl ?_
   refine zg hn [_,_,_,_,_,_,_,_,(4,.fl .shr 1 (map (int .u8) x))] [0,1,2,3,4,5,6,7] [1,2,3,4,5,6,7,8] [zq [0] 8 4] [(_,_),(_,_),(_,_),(_,_),(_,_),(_,_),(_,_),(_,_)] rfl ⟨z2 rfl,zz⟩ ?_
   refine pt_pick [0, 1, 2, 3, 4, 5, 7, 6] (by kernel_rfl) (es' := [(17, .glob (GL mx)), (2, .box 3 [.v (.int .i64 s8)]), (3, .box 4 [.v (.bool false)]), (17, .v (kk.tm.getD 17 undef)), (2, .v (kk.tm.getD 2 undef)), (3, .v (kk.tm.getD 3 undef)), (4, .fl .shr 1 (map (int .u8) x)), (18, .inv kk.ready)]) rfl ?_
   refine pt_begin (es := [(17, .glob (GL mx)), (2, .box 3 [.v (.int .i64 s8)]), (3, .box 4 [.v (.bool false)]), (17, .v (kk.tm.getD 17 undef)), (2, .v (kk.tm.getD 2 undef)), (3, .v (kk.tm.getD 3 undef)), (4, .fl .shr 1 (map (int .u8) x))]) 18 rfl ?_
   refine ht_block ?_
   refine ht_seq ?_
   refine ht_seq ?_
   obtain ⟨v2, hv2, h⟩ := zn h
   refine zg hn [_,_,_,_,_,_,_,_,(8,.fl .shr 1 (map (int .u8) x)),(9,vs v2),(10,vb (v2.toList == (⟨#[46]⟩ : ByteArray).toList))] [0,1,2,3,4,5,6,7] [0,1,2,3,4,5,6,7,10] [zq [6] 8 8,zq [8] 9 9,zq [9] 10 10] [(_,_),(_,_),(_,_),(_,_),(_,_),(_,_),(_,_),(_,_),(_,_)] rfl ⟨z1 rfl,zp rfl ((Option.some.inj hv2) ▸ op_bytes_str _ _ _ x underlying25 underlying9 underlying5 rfl),z4 rfl rfl,zz⟩ ?_
   refine pt_then ?_
   refine ht_cond _ rfl (fun hb11 => ?_) (fun hb11 => ?_)
   ·have h := cond_t hb11 h
    refine zgg hn [_,_,_,_,_,_,_,_,_,(11,vi s8),(2,.box 3 [vi s8]),(3,.box 4 [vb true])] [0,1,2,3,4,5,6,7,8] [0,10,11,3,4,5,7] [zq [1] 9 11,⟨[9],[1],[10],[.cell 2 0]⟩,⟨[],[2],[11],[.cell 3 0]⟩] [(_,_),(_,_),(_,_),(_,_),(_,_),(_,_),(_,_)] rfl ⟨zp rfl (oL underlying3 rfl),zp rfl (oS sz3 rfl),zp rfl (oS sz4 rfl),zz⟩ ?_
    refine ht_ret ?_
    refine pt_r_then ?_
    refine pt_r_in ?_
    obtain rfl := zi h
    exact pt_rret 18 [17, 2, 3] _ rfl rfl (by kernel_rfl)
   ·have h := cond_f hb11 h
    refine ht_skip ?_
    refine pt_then ?_
    obtain ⟨v4, hv4, h⟩ := zn h
    obtain ⟨v5, hv5, h⟩ := zn h
    refine zg hn (_::_::_::_::_::_::_::_::_::(12,vi s8)::(13,.fl .shr 1 (map (int .u8) x))::(14,vi (x.length : Int))::(15,vi v4)::(16,vi v5)::(2,.box 3 [vi v5])::[]) [0,1,2,3,4,5,6,7,8] [0,14,2,3,4,5,7] [zq [1] 9 12,zq [6] 10 13,zq [10] 11 14,zq [11] 12 15,zq [9,12] 13 16,⟨[13],[1],[14],[.cell 2 0]⟩] [(_,_),(_,_),(_,_),(_,_),(_,_),(_,_),(_,_)] rfl ⟨zp rfl (oL underlying3 rfl),z1 rfl,zp rfl (op_len_fl _ _ _ underlying25 rfl (by decide) (map_len _)),zp rfl (oB rfl (ibind (f := int .i64) (Option.some.inj hv4))),zp rfl (oB rfl (ibind (f := int .i64) (Option.some.inj hv5))),zp rfl (oS sz3 rfl),zz⟩ ?_
    refine pt_inb ?_
    obtain rfl := zi h
    exact pt_rnext 18 [17, 2, 3] _ rfl rfl (by kernel_rfl)
  ·rintro D s8 h
   refine pt_inb ?_
   refine pt_then ?_
   refine zgg hn [_,_,_,(2,.box 3 [vi 0]),(3,.box 4 [vb false])] [0,1,2] [0,3,4] [⟨[],[1],[3],[.cell 2 0]⟩,⟨[],[2],[4],[.cell 3 0]⟩] [(_,_),(_,_),(_,_)] rfl ⟨zp rfl (oS sz3 rfl),zp rfl (oS sz4 rfl),zz⟩ ?_
   refine ht_ret ?_
   refine pt_pick [1, 2] (by kernel_rfl) (es' := [(_,_),(_,_)]) rfl ?_
   obtain rfl := zi h
   exact pt_ret hio rfl (.cell1 _ _ _ _ underlying3 rfl (.cell1 _ _ _ _ underlying4 rfl .nil)) rfl rfl
  ·rintro D s10 h
   refine pt_pick [1, 2] (by kernel_rfl) (es' := [(_,_),(_,_)]) rfl ?_
   refine pt_r_in ?_
   refine pt_r_then ?_
   obtain rfl := zi h
   exact pt_ret hio rfl (.cell1 _ _ _ _ underlying3 rfl (.cell1 _ _ _ _ underlying4 rfl .nil)) rfl rfl
theorem ok_bytes_TrimPrefix_sh (s : (List Int)) (prefix_ : (List Int)) (r : (List Int)) (h : Sh.bytes_TrimPrefix_sh s prefix_ = some r) : FnOK Tryz.prog 104 [.fl .shr 1 (map (int .u8) s), .fl .shr 1 (map (int .u8) prefix_)] (.fl .shr 1 (map (int .u8) r)) := by
  unfold Sh.bytes_TrimPrefix_sh at h
  refine fn_ok func104 rfl (zl rfl) rfl rfl fun g0 hn hio => ?_
  refine zgg hn [_,_,(4,.v (.slice none 0 0))] [0,1] [0,1] [zq [] 2 4] [(_,_),(_,_)] rfl ⟨z2 rfl,zz⟩ ?_
  refine ht_seq ?_
  refine ht_seq ?_
  obtain ⟨v1, hv1, h⟩ := zn h
  refine zg hn [_,_,(5,.fl .shr 1 (map (int .u8) s)),(6,.fl .shr 1 (map (int .u8) prefix_)),(7,vb v1)] [0,1] [0,1,4] [zq [0] 2 5,zq [1] 3 6,zq [2,3] 4 7] [(_,_),(_,_),(_,_)] rfl ⟨z1 rfl,z1 rfl,zp rfl (op_call _ _ 70 _ _ rfl call70 rfl (ok_bytes_HasPrefix s prefix_ _ hv1) rfl rfl),zz⟩ ?_
  refine pt_then ?_
  refine ht_cond _ rfl (fun hb2 => ?_) (fun hb2 => ?_)
  ·have h := cond_t hb2 h
   refine ht_seq ?_
   obtain ⟨v3, hv3, h⟩ := zn h
   refine zg hn [_,_,_,(8,.fl .shr 1 (map (int .u8) s)),(9,.fl .shr 1 (map (int .u8) prefix_)),(10,vi (prefix_.length : Int)),(11,.fl .shr 1 (map (int .u8) v3)),(4,.fl .shr 1 (map (int .u8) v3))] [0,1,2] [7] [zq [0] 3 8,zq [1] 4 9,zq [4] 5 10,zq [3,5] 6 11,zq [6] 7 4] [(_,_)] rfl ⟨z1 rfl,z1 rfl,zp rfl (op_len_fl _ _ _ underlying25 rfl (by decide) (map_len _)),zp rfl (op_sl _ _ _ (prefix_.length : Int) (s.length : Int) _ underlying25 sz5 rfl rfl ⟨_, rfl⟩ rfl hv3),z2 rfl,zz⟩ ?_
   refine pt_then (ht_ret ?_)
   refine pt_r_then ?_
   obtain rfl := zi h
   exact pt_ret hio rfl (.tmp _ _ .nil) rfl rfl
  ·have h := cond_f hb2 h
   refine ht_skip ?_
   refine pt_then ?_
   refine zgg hn [_,_,_,(12,.fl .shr 1 (map (int .u8) s)),(4,.fl .shr 1 (map (int .u8) s))] [0,1,2] [4] [zq [0] 3 12,zq [3] 4 4] [(_,_)] rfl ⟨z1 rfl,z2 rfl,zz⟩ ?_
   refine ht_ret ?_
   obtain rfl := zi h
   exact pt_ret hio rfl (.tmp _ _ .nil) rfl rfl
theorem ok_dots_Strip (mx : Int) (b : (List Int)) (r : ((List Int) × Int × Int)) (h : Sh.dots_Strip b = some r) : FnG Tryz.prog (GL mx) 81 [.fl .shr 1 (map (int .u8) b)] (.tup [.fl (.own 5) 1 (map (int .u8) r.1), .v (.int .i64 r.2.1), .v (.int .i64 r.2.2)]) := by
  unfold Sh.dots_Strip at h
  refine fn_okG func81 rfl (zl rfl) rfl rfl fun g0 hn hio => ?_
  refine zgg hn [_,_,(2,.box 25 [.v (.slice none 0 0)]),(3,vi 0),(4,vi 0)] [0,1] [0,1,2] [zq [] 2 2,zq [] 3 3,zq [] 4 4] [(_,_),(_,_),(_,_)] rfl ⟨zp rfl (op_alloc _ _ zr25),z2 rfl,z2 rfl,zz⟩ ?_
  refine ht_seq ?_
  obtain ⟨v1, hv1, h⟩ := zn h
  refine zg hn [_,_,_,(10,.fl .shr 1 (map (int .u8) b)),(11,.tup [vi v1.1,vb v1.2]),(9,.tup [vi v1.1,vb v1.2]),(12,vi v1.1),(13,vb v1.2),(5,vi v1.1),(6,vb v1.2)] [0,1,2] [0,1,2,8,9] [zq [0] 3 10,zq [3,1] 4 11,⟨[],[4],[5],[(.slot 9)]⟩,zq [5] 6 12,zq [5] 7 13,zq [6] 8 5,zq [7] 9 6] [(_,_),(_,_),(_,_),(_,_),(_,_)] rfl ⟨z1 rfl,zp rfl (op_callG _ _ 39 103 _ _ rfl call103 rfl rfl (fun _ h => h) (ok_dots_lastLine mx b _ hv1) rfl rfl),zp rfl (op_move_take _ _ _ _ rfl),zp rfl (oE rfl),zp rfl (oE rfl),z2 rfl,z2 rfl,zz⟩ ?_
  refine pt_then (ht_seq ?_)
  refine zgg hn [_,_,_,_,_,(14,vb v1.2),(15,vb (!v1.2))] [0,1,2,3,4] [0,1,2,3,6] [zq [4] 5 14,zq [5] 6 15] [(_,_),(_,_),(_,_),(_,_),(_,_)] rfl ⟨z1 rfl,zp rfl (op_un _ _ _ _ rfl rfl),zz⟩ ?_
  refine ht_cond _ rfl (fun hb2 => ?_) (fun hb2 => ?_)
  ·have h := cond_t hb2 h
   refine zgg hn [_,_,_,_,_,(2,.box 25 [.v (.slice none 0 0)]),(3,vi 0),(4,vi 9)] [0,1,2,3,4] [1,5,6,7] [⟨[],[2],[5],[.cell 2 0]⟩,zq [] 6 3,zq [] 7 4] [(_,_),(_,_),(_,_),(_,_)] rfl ⟨zp rfl (oS sz25 rfl),z2 rfl,z2 rfl,zz⟩ ?_
   refine ht_ret ?_
   refine pt_pick [1, 2, 3] (by kernel_rfl) (es' := [(_,_),(_,_),(_,_)]) rfl ?_
   refine pt_sub (fs := [(2, .box 25 [.fl (.own 5) 1 (map (int .u8) [])]), (3, .v (.int .i64 0)), (4, .v (.int .i64 9))]) (.box _ _ (subs_cons (sub_nil 5 1) (subs_nil)) rfl (.same _ (.same _ .nil))) ?_
   refine pt_r_then ?_
   obtain rfl := zi h
   exact pt_ret hio rfl (.cell1 _ _ _ _ underlying25 rfl (.tmp _ _ (.tmp _ _ .nil))) rfl rfl
  ·have h := cond_f hb2 h
   refine ht_skip ?_
   refine pt_then (ht_seq ?_)
   refine ht_seq ?_
   obtain ⟨v3, hv3, h⟩ := zn h
   obtain ⟨v4, hv4, h⟩ := zn h
   refine zg hn [_,_,_,_,_,(16,.fl .shr 1 (map (int .u8) b)),(17,vi v1.1),(18,.fl .shr 1 (map (int .u8) v3)),(19,vi v4),(7,vi v4)] [0,1,2,3,4] [0,1,2,3,9] [zq [0] 5 16,zq [3] 6 17,zq [5,6] 7 18,zq [7,1] 8 19,zq [8] 9 7] [(_,_),(_,_),(_,_),(_,_),(_,_)] rfl ⟨z1 rfl,z1 rfl,zp rfl (op_sl _ _ _ 0 v1.1 _ underlying25 sz5 rfl rfl rfl ⟨_, rfl⟩ hv3),zp rfl (op_callG _ _ 39 65 _ _ rfl call65 rfl rfl (fun _ h => h) (ok_dots_Check mx v3 _ hv4) rfl rfl),z2 rfl,zz⟩ ?_
   refine pt_then ?_
   refine zgg hn [_,_,_,_,_,(20,vi v4),(21,vb (v4 != 0))] [0,1,2,3,4] [0,1,2,3,4,6] [zq [4] 5 20,zq [5] 6 21] [(_,_),(_,_),(_,_),(_,_),(_,_),(_,_)] rfl ⟨z1 rfl,z4 rfl rfl,zz⟩ ?_
   refine ht_cond _ rfl (fun hb5 => ?_) (fun hb5 => ?_)
   ·have h := cond_t hb5 h
    refine zgg hn [_,_,_,_,_,_,(22,vi v4),(2,.box 25 [.v (.slice none 0 0)]),(3,vi 0),(4,vi v4)] [0,1,2,3,4,5] [1,7,8,9] [zq [4] 6 22,⟨[],[2],[7],[.cell 2 0]⟩,zq [] 8 3,zq [6] 9 4] [(_,_),(_,_),(_,_),(_,_)] rfl ⟨z1 rfl,zp rfl (oS sz25 rfl),z2 rfl,z2 rfl,zz⟩ ?_
    refine ht_ret ?_
    refine pt_pick [1, 2, 3] (by kernel_rfl) (es' := [(_,_),(_,_),(_,_)]) rfl ?_
    refine pt_sub (fs := [(2, .box 25 [.fl (.own 5) 1 (map (int .u8) [])]), (3, .v (.int .i64 0)), (4, .v (.int .i64 v4))]) (.box _ _ (subs_cons (sub_nil 5 1) (subs_nil)) rfl (.same _ (.same _ .nil))) ?_
    refine pt_r_then ?_
    obtain rfl := zi h
    exact pt_ret hio rfl (.cell1 _ _ _ _ underlying25 rfl (.tmp _ _ (.tmp _ _ .nil))) rfl rfl
   ·have h := cond_f hb5 h
    refine ht_skip ?_
    refine pt_then (ht_seq ?_)
    refine ht_seq ?_
    obtain ⟨v6, hv6, h⟩ := zn h
    obtain ⟨v7, hv7, h⟩ := zn h
    refine zg hn [_,_,_,_,_,_,(23,.fl .shr 1 (map (int .u8) b)),(24,vi v1.1),(25,.fl .shr 1 (map (int .u8) v6)),(26,.cloB 89 [.box 25 [.fl .shr 1 (map (int .u8) v7)]])] [0,1,2,3,4,5] [1,2,3,9] [zq [0] 6 23,zq [3] 7 24,zq [6,7] 8 25,zq [8] 9 26] [(_,_),(_,_),(_,_),(_,_)] rfl ⟨z1 rfl,z1 rfl,zp rfl (op_sl _ _ _ 0 v1.1 _ underlying25 sz5 rfl rfl rfl ⟨_, rfl⟩ hv6),zp rfl (op_callS _ _ 69 _ _ rfl call69 rfl rfl (ok_dots_lines v6 _ hv7) rfl),zz⟩ ?_
    refine pt_then ?_
    refine ht_block ?_
    refine ht_pick [3, 0, 1, 2] (by kernel_rfl) (es' := [(26, .cloB 89 [.box 25 [.fl .shr 1 (map (int .u8) v7)]]), (39, .glob (GL mx)), (2, .box 25 [.v (.slice none 0 0)]), (5, .v (.int .i64 v1.1))]) rfl ?_
    refine ht_sub (fs := [(26, .cloB 89 [.box 25 [.fl .shr 1 (map (int .u8) v7)]]), (39, .glob (GL mx)), (2, .box 25 [.fl (.own 5) 1 (map (int .u8) [])]), (5, .v (.int .i64 v1.1))]) (.same _ (.same _ (.box _ _ (subs_cons (sub_nil 5 1) (subs_nil)) rfl (.same _ .nil)))) ?_
    refine ht_rangeF h 89 26 27 40 _ [39, 2, 5] call89 (fun (s12 : (List Int)) => [(39, .glob (GL mx)), (2, .box 25 [.fl (.own 5) 1 (map (int .u8) s12)]), (5, .v (.int .i64 v1.1))]) (fun (() : Unit) => []) (fun l J Y hY t t' h => ok_dots_lines_1 mx l J Y hY v7 t t' h) hn rfl (fun _ => rfl) (fun _ => rfl) (fun _ => rfl) rfl rfl (fun _ => ⟨rfl, rfl⟩) rfl (glIn_look 39 rfl) ?_ ?_ ?_
    ·rintro kk g0 hn hio x s12 u h
     refine ht_es (es' := [(27, .fl .shr 1 (map (int .u8) x)), (39, .glob (GL mx)), (2, .box 25 [.fl (.own 5) 1 (map (int .u8) s12)]), (5, .v (.int .i64 v1.1)), (39, .v (kk.tm.getD 39 undef)), (2, .v (kk.tm.getD 2 undef)), (5, .v (kk.tm.getD 5 undef)), (40, .inv kk.ready)]) rfl ?_
     refine zg hn [_,_,_,_,_,_,_,_,(8,.fl .shr 1 (map (int .u8) x))] [0,1,2,3,4,5,6,7] [1,2,3,4,5,6,7,8] [zq [0] 8 8] [(_,_),(_,_),(_,_),(_,_),(_,_),(_,_),(_,_),(_,_)] rfl ⟨z2 rfl,zz⟩ ?_
     refine pt_pick [0, 1, 2, 3, 4, 5, 7, 6] (by kernel_rfl) (es' := [(39, .glob (GL mx)), (2, .box 25 [.fl (.own 5) 1 (map (int .u8) s12)]), (5, .v (.int .i64 v1.1)), (39, .v (kk.tm.getD 39 undef)), (2, .v (kk.tm.getD 2 undef)), (5, .v (kk.tm.getD 5 undef)), (8, .fl .shr 1 (map (int .u8) x)), (40, .inv kk.ready)]) rfl ?_
     refine pt_begin (es := [(39, .glob (GL mx)), (2, .box 25 [.fl (.own 5) 1 (map (int .u8) s12)]), (5, .v (.int .i64 v1.1)), (39, .v (kk.tm.getD 39 undef)), (2, .v (kk.tm.getD 2 undef)), (5, .v (kk.tm.getD 5 undef)), (8, .fl .shr 1 (map (int .u8) x))]) 40 rfl ?_
     refine ht_block ?_
     refine ht_seq ?_
     obtain ⟨v8, hv8, h⟩ := zn h
     obtain ⟨v9, hv9, h⟩ := zn h
     refine ht_anyR (by kernel_rfl) hn (El := (_ :: _ :: _ :: _ :: _ :: _ :: _ :: _ :: (28, .same (.cell 2 0)) :: (29, .fl .shr 1 (map (int .u8) x)) :: (30, .fl (.own 5) 1 (map (int .u8) [46])) :: (31, .fl .ro 1 (map (int .u8) [46])) :: (32, .fl .shr 1 (map (int .u8) v8)) :: (33, .fl (.own 5) 1 (map (int .u8) v9)) :: (2, .box 25 [.any]) :: (2, .box 25 [.fl (.own 5) 1 (map (int .u8) v9)]) :: [])) (init := [0, 1, 2, 3, 4, 5, 6, 7]) (fin := [0, 15, 2, 3, 4, 5, 7]) (sps := [zq [1] 8 28, zq [6] 9 29, zq [] 10 30, ⟨[], [10], [11], [(.slot 31)]⟩, zq [9,11] 12 32, ⟨[8, 12], [1], [14, 13], [(.slot 33)]⟩, ⟨[], [8, 13, 14], [15], [.cell 2 0]⟩]) (es' := [(_,_),(2, .box 25 [.fl (.own 5) 1 (map (int .u8) v9)]), (_,_),(_,_),(_,_),(_,_),(_,_)]) (by kernel_rfl) rfl rfl ⟨zp rfl (oL underlying25 rfl),z1 rfl,zp rfl (op_buildSlice _ _ 1 (.int .u8 0) (map (int .u8) [46]) [(0, .int .u8 46)] underlying25 sz5 zr5 (fun _ V w o a hv hes => by simp only [List.map_toArray, List.map_cons, List.map_nil]; try rfl) (litfill (by simp [Instr.fill, Value.cells]; rfl) (by simp [List.range, List.range.loop] <;> rfl)) (by simp [Value.oneCell']) rfl (by decide) (by decide) (by decide)),zp rfl (op_conv_mark _ _ _ underlying25 underlying5 (by intro h; cases h)),zp rfl (op_callS _ _ 104 _ _ rfl call104 rfl rfl (ok_bytes_TrimPrefix_sh x [46] _ hv8) rfl),zp rfl (op_app_cell _ _ _ _ _ _ el25 rfl rfl (zl rfl) rfl (map_len _) (map_len _) hv9 ((List.map_append).symm.trans (congrArg (map _) (app_eq hv9))) (Nat.ne_of_beq_eq_false rfl) rfl rfl),zp rfl (LOp.drop [_] (op_store_take _ _ _ _ _ _ _ _ sz25 rfl rfl rfl (zl rfl) rfl rfl)),zz⟩ ?_
     refine pt_then ?_
     obtain ⟨v10, hv10, h⟩ := zn h
     refine zg hn [_,_,_,_,_,_,_,(34,.same (.cell 2 0)),(35,.fl (.own 5) 1 (map (int .u8) v10)),(2,.box 25 [.any]),(2,.box 25 [.fl (.own 5) 1 (map (int .u8) v10)])] [0,1,2,3,4,5,6] [0,10,2,3,4,5,6] [zq [1] 7 34,⟨[7],[1],[9,8],[(.slot 35)]⟩,⟨[],[7,8,9],[10],[.cell 2 0]⟩] [(_,_),(_,_),(_,_),(_,_),(_,_),(_,_),(_,_)] rfl ⟨zp rfl (oL underlying25 rfl),zp rfl (op_apps_cell _ _ _ _ _ _ el25 zr5 underlying9 rfl rfl (zl rfl) rfl rfl hv10 rfl (Nat.ne_of_beq_eq_false rfl) rfl rfl),zp rfl (LOp.drop [_] (op_store_take _ _ _ _ _ _ _ _ sz25 rfl rfl rfl (zl rfl) rfl rfl)),zz⟩ ?_
     refine pt_inb ?_
     obtain rfl := zi h
     exact pt_rnext 40 [39, 2, 5] _ rfl rfl (by kernel_rfl)
    ·rintro D s12 h
     refine pt_inb ?_
     refine pt_then (ht_seq ?_)
     obtain ⟨v13, hv13, h⟩ := zn h
     refine zg hn [_,_,_,(36,.same (.cell 2 0)),(37,vi v1.1),(38,vi v13),(2,.box 25 [.fl (.own 5) 1 (map (int .u8) s12)]),(3,vi v13),(4,vi 0)] [0,1,2] [0,6,7,8] [zq [1] 3 36,zq [2] 4 37,zq [4] 5 38,⟨[3],[1],[6],[]⟩,zq [5] 7 3,zq [] 8 4] [(_,_),(_,_),(_,_),(_,_)] rfl ⟨zp rfl (oL underlying25 rfl),z1 rfl,zp rfl (oB rfl (ibind (f := int .i64) (Option.some.inj hv13))),zp rfl (op_store_self1 _ _ _ 2 0 sz25 rfl rfl rfl (zl rfl)),z2 rfl,z2 rfl,zz⟩ ?_
     refine pt_then (ht_ret ?_)
     refine pt_pick [1, 2, 3] (by kernel_rfl) (es' := [(_,_),(_,_),(_,_)]) rfl ?_
     obtain rfl := zi h
     exact pt_ret hio rfl (.cell1 _ _ _ _ underlying25 rfl (.tmp _ _ (.tmp _ _ .nil))) rfl rfl
    ·rintro D ⟨⟩ h
     cases h
theorem ok_bytes_Cut_ro (mx : Int) (s : (List Int)) (sep : (List Int)) (r : ((List Int) × (List Int) × Bool)) (h : Sh.bytes_Cut_ro s sep = some r) : FnG Tryz.prog (GL mx) 34 [.fl .ro 1 (map (int .u8) s), .fl .ro 1 (map (int .u8) sep)] (.tup [.fl .ro 1 (map (int .u8) r.1), .fl .ro 1 (map (int .u8) r.2.1), .v (.bool r.2.2)]) := by
  unfold Sh.bytes_Cut_ro at h
  refine fn_okG func34 rfl (zl rfl) rfl rfl fun g0 hn hio => ?_
  refine zgg hn [_,_,_,(4,.v (.slice none 0 0)),(5,.v (.slice none 0 0)),(6,vb false)] [0,1,2] [0,1,2] [zq [] 3 4,zq [] 4 5,zq [] 5 6] [(_,_),(_,_),(_,_)] rfl ⟨z2 rfl,z2 rfl,z2 rfl,zz⟩ ?_
  refine ht_seq ?_
  refine ht_seq ?_
  obtain ⟨v1, hv1, h⟩ := zn h
  refine zg hn [_,_,_,(8,.fl .ro 1 (map (int .u8) s)),(9,.fl .ro 1 (map (int .u8) sep)),(10,vi v1),(7,vi v1)] [0,1,2] [0,1,2,6] [zq [0] 3 8,zq [1] 4 9,zq [3,4,2] 5 10,zq [5] 6 7] [(_,_),(_,_),(_,_),(_,_)] rfl ⟨z1 rfl,z1 rfl,zp rfl (op_callG _ _ 23 56 _ _ rfl call56 rfl rfl (fun _ h => h) (ok_bytes_Index mx s sep _ hv1) rfl rfl),z2 rfl,zz⟩ ?_
  refine pt_then ?_
  refine zgg hn [_,_,_,_,(11,vi v1),(12,vb (decide (0 ≤ v1)))] [0,1,2,3] [0,1,2,3,5] [zq [3] 4 11,zq [4] 5 12] [(_,_),(_,_),(_,_),(_,_),(_,_)] rfl ⟨z1 rfl,z4 rfl rfl,zz⟩ ?_
  refine ht_cond _ rfl (fun hb6 => ?_) (fun hb6 => ?_)
  ·have h := cond_t hb6 h
   refine ht_seq ?_
   obtain ⟨v3, hv3, h⟩ := zn h
   obtain ⟨v4, hv4, h⟩ := zn h
   obtain ⟨v5, hv5, h⟩ := zn h
   refine ht_anyR (by kernel_rfl) hn (El := (_ :: _ :: _ :: _ :: _ :: (13, .fl .ro 1 (map (int .u8) s)) :: (14, .v (.int .i64 v1)) :: (15, .fl .ro 1 (map (int .u8) v3)) :: (16, .fl .ro 1 (map (int .u8) s)) :: (17, .v (.int .i64 v1)) :: (18, .fl .ro 1 (map (int .u8) sep)) :: (19, .v (.int .i64 (sep.length : Int))) :: (20, .v (.int .i64 v4)) :: (21, .fl .ro 1 (map (int .u8) v5)) :: (4, .fl .ro 1 (map (int .u8) v3)) :: (5, .fl .ro 1 (map (int .u8) v5)) :: (6, .v (.bool true)) :: [])) (init := [0, 1, 2, 3, 4]) (fin := [2, 14, 15, 16]) (sps := [zq [0] 5 13, zq [3] 6 14, zq [5,6] 7 15, zq [0] 8 16, zq [3] 9 17, zq [1] 10 18, zq [10] 11 19, zq [9,11] 12 20, zq [8,12] 13 21, zq [7] 14 4, zq [13] 15 5, zq [] 16 6]) (es' := [(_,_),(4, .fl .ro 1 (map (int .u8) v3)), (5, .fl .ro 1 (map (int .u8) v5)), (6, .v (.bool true))]) (by kernel_rfl) rfl rfl ⟨z1 rfl,z1 rfl,zp rfl (op_sl _ _ _ 0 v1 _ underlying25 sz5 rfl rfl rfl ⟨_, rfl⟩ hv3),z1 rfl,z1 rfl,z1 rfl,zp rfl (op_len_fl _ _ _ underlying25 rfl (by decide) (map_len _)),zp rfl (oB rfl (ibind (f := int .i64) (Option.some.inj hv4))),zp rfl (op_sl _ _ _ v4 (s.length : Int) _ underlying25 sz5 rfl rfl ⟨_, rfl⟩ rfl hv5),z2 rfl,z2 rfl,z2 rfl,zz⟩ ?_
   refine pt_then (ht_ret ?_)
   refine pt_pick [1, 2, 3] (by kernel_rfl) (es' := [(_,_),(_,_),(_,_)]) rfl ?_
   refine pt_r_then ?_
   obtain rfl := zi h
   exact pt_ret hio rfl (.tmp _ _ (.tmp _ _ (.tmp _ _ .nil))) rfl rfl
  ·have h := cond_f hb6 h
   refine ht_skip ?_
   refine pt_then ?_
   refine zgg hn [_,_,_,_,_,(22,.fl .ro 1 (map (int .u8) s)),(4,.fl .ro 1 (map (int .u8) s)),(5,.v (.slice none 0 0)),(6,vb false)] [0,1,2,3,4] [2,6,7,8] [zq [0] 5 22,zq [5] 6 4,zq [] 7 5,zq [] 8 6] [(_,_),(_,_),(_,_),(_,_)] rfl ⟨z1 rfl,z2 rfl,z2 rfl,z2 rfl,zz⟩ ?_
   refine ht_ret ?_
   refine pt_pick [1, 2, 3] (by kernel_rfl) (es' := [(_,_),(_,_),(_,_)]) rfl ?_
   refine pt_sub (fs := [(4, .fl .ro 1 (map (int .u8) s)), (5, .fl (.own 5) 1 (map (int .u8) [])), (6, .v (.bool false))]) (.same _ (.sub _ (sub_nil 5 1) rfl (.same _ .nil))) ?_
   refine pt_frz 1 hio (es' := [(4, .fl .ro 1 (map (int .u8) s)), (5, .fl .ro 1 (map (int .u8) [])), (6, .v (.bool false))]) rfl ?_
   obtain rfl := zi h
   exact pt_ret hio rfl (.tmp _ _ (.tmp _ _ (.tmp _ _ .nil))) rfl rfl
theorem ok_bundle_parsePath_ro (mx : Int) (c : (List Int)) (word : ByteArray) (r : (T_Path × (List Int) × Bool)) (h : Sh.bundle_parsePath_ro c word = some r) : FnG Tryz.prog (GL mx) 79 [.fl .ro 1 (map (int .u8) c), .v (.string word)] (.tup [.agg [.v (.bool r.1.Null), .v (.string r.1.Local), .v (.string r.1.Domain)], .fl .ro 1 (map (int .u8) r.2.1), .v (.bool r.2.2)]) := by
  unfold Sh.bundle_parsePath_ro at h
  refine fn_okG func79 rfl (zl rfl) rfl rfl fun g0 hn hio => ?_
  refine zgg hn [_,_,_,(4,.box 43 [vb false,vs z0,vs z0]),(5,.v (.slice none 0 0)),(6,vb false)] [0,1,2] [0,1,2,3] [zq [] 3 4,zq [] 4 5,zq [] 5 6] [(_,_),(_,_),(_,_),(_,_)] rfl ⟨zp rfl (op_alloc _ _ zr43),z2 rfl,z2 rfl,zz⟩ ?_
  refine ht_seq ?_
  obtain ⟨v1, hv1, h⟩ := zn h
  refine zg hn (_::_::_::_::(13,.fl .ro 1 (map (int .u8) c))::(14,.fl (.own 5) 1 (map (int .u8) [13,10]))::(15,.fl .ro 1 (map (int .u8) [13,10]))::(16,.tup [.fl .ro 1 (map (int .u8) v1.1),.fl .ro 1 (map (int .u8) v1.2.1),vb v1.2.2])::(12,.tup [.fl .ro 1 (map (int .u8) v1.1),.fl .ro 1 (map (int .u8) v1.2.1),vb v1.2.2])::(17,.fl .ro 1 (map (int .u8) v1.1))::(18,.fl .ro 1 (map (int .u8) v1.2.1))::(19,vb v1.2.2)::(7,.fl .ro 1 (map (int .u8) v1.1))::(5,.fl .ro 1 (map (int .u8) v1.2.1))::(8,vb v1.2.2)::[]) [0,1,2,3] [1,2,3,12,13,14] [zq [0] 4 13,zq [] 5 14,⟨[],[5],[6],[(.slot 15)]⟩,zq [4,6,2] 7 16,⟨[],[7],[8],[(.slot 12)]⟩,zq [8] 9 17,zq [8] 10 18,zq [8] 11 19,zq [9] 12 7,zq [10] 13 5,zq [11] 14 8] [(_,_),(_,_),(_,_),(_,_),(_,_),(_,_)] rfl ⟨z1 rfl,zp rfl (op_buildSlice _ _ 1 (.int .u8 0) (map (int .u8) [13, 10]) [(0, .int .u8 13), (1, .int .u8 10)] underlying25 sz5 zr5 (fun _ V w o a hv hes => by simp only [List.map_toArray, List.map_cons, List.map_nil]; try rfl) (litfill (by simp [Instr.fill, Value.cells]; rfl) (by simp [List.range, List.range.loop] <;> rfl)) (by simp [Value.oneCell']) rfl (by decide) (by decide) (by decide)),zp rfl (op_conv_mark _ _ _ underlying25 underlying5 (by intro h; cases h)),zp rfl (op_callRG _ _ 43 34 _ _ rfl call34 rfl rfl (fun _ h => h) (ok_bytes_Cut_ro mx c [13, 10] _ hv1) rfl rfl),zp rfl (op_move_take _ _ _ _ rfl),zp rfl (oE rfl),zp rfl (oE rfl),zp rfl (oE rfl),z2 rfl,z2 rfl,z2 rfl,zz⟩ ?_
  refine pt_then (ht_seq ?_)
  obtain ⟨v2, hv2, h⟩ := zn h
  obtain ⟨v3, hv3, h⟩ := zn h
  refine zg hn (_::_::_::_::_::_::(21,.fl .ro 1 (map (int .u8) v1.1))::(22,vs v2)::(23,vs word)::(24,.tup [vs v3.1,vb v3.2])::(20,.tup [vs v3.1,vb v3.2])::(25,vs v3.1)::(26,vb v3.2)::(9,vs v3.1)::(10,vb v3.2)::[]) [0,1,2,3,4,5] [1,2,4,5,13,14] [zq [3] 6 21,zq [6] 7 22,zq [0] 8 23,zq [7,8] 9 24,⟨[],[9],[10],[(.slot 20)]⟩,zq [10] 11 25,zq [10] 12 26,zq [11] 13 9,zq [12] 14 10] [(_,_),(_,_),(_,_),(_,_),(_,_),(_,_)] rfl ⟨z1 rfl,zp rfl ((Option.some.inj hv2) ▸ op_bytes_str _ _ _ v1.1 underlying25 underlying9 underlying5 rfl),z1 rfl,zp rfl (op_call _ _ 101 _ _ rfl call101 rfl (ok_strings_CutPrefix v2 word _ hv3) rfl rfl),zp rfl (op_move_take _ _ _ _ rfl),zp rfl (oE rfl),zp rfl (oE rfl),z2 rfl,z2 rfl,zz⟩ ?_
  refine pt_then (ht_seq ?_)
  refine ht_seq ?_
  refine ht_joinS h (fun (s10 : Bool) => [(43, .glob (GL mx)), (4, .box 43 [.v (.bool false), .v (.string (⟨#[]⟩ : ByteArray)), .v (.string (⟨#[]⟩ : ByteArray))]), (5, .fl .ro 1 (map (int .u8) v1.2.1)), (9, .v (.string v3.1)), (32, .v (.bool s10))]) ?_ ?_
  ·rintro s10 h
   refine pt_then ?_
   refine ht_cond _ rfl (fun hb14 => ?_) (fun hb14 => ?_)
   ·have h := cond_t hb14 h
    refine zgg hn [_,_,_,_,_,(33,.agg [vb false,vs z0,vs z0]),(4,.box 43 [vb false,vs z0,vs z0]),(5,.v (.slice none 0 0)),(6,vb false)] [0,1,2,3,4] [0,6,7,8] [zq [] 5 33,⟨[],[5,1],[6],[.cell 4 0,.cell 4 1,.cell 4 2]⟩,⟨[],[2],[7],[(.slot 5)]⟩,zq [] 8 6] [(_,_),(_,_),(_,_),(_,_)] rfl ⟨zp rfl (op_build _ _ _ _ [1, 1, 1] _ _ underlying43 zr43 (fs43 _ underlying43) Src.nil rfl rfl rfl),zp rfl (op_store_self _ _ _ 33 4 3 sz43 rfl rfl rfl rfl rfl (.eq _ (.eq _ (.eq _ (.nil _)))) rfl),zp rfl (LOp.drop [_] (op_assign _ _ _ _ rfl rfl)),z2 rfl,zz⟩ ?_
    refine ht_ret ?_
    refine pt_pick [1, 2, 3] (by kernel_rfl) (es' := [(_,_),(_,_),(_,_)]) rfl ?_
    refine pt_sub (fs := [(4, .box 43 [.v (.bool false), .v (.string (⟨#[]⟩ : ByteArray)), .v (.string (⟨#[]⟩ : ByteArray))]), (5, .fl (.own 5) 1 (map (int .u8) [])), (6, .v (.bool false))]) (.same _ (.sub _ (sub_nil 5 1) rfl (.same _ .nil))) ?_
    refine pt_frz 1 hio (es' := [(4, .box 43 [.v (.bool false), .v (.string (⟨#[]⟩ : ByteArray)), .v (.string (⟨#[]⟩ : ByteArray))]), (5, .fl .ro 1 (map (int .u8) [])), (6, .v (.bool false))]) rfl ?_
    refine pt_r_then ?_
    obtain rfl := zi h
    exact pt_ret hio rfl (.cellA _ _ _ _ underlying43 rfl sz43 (.tmp _ _ (.tmp _ _ .nil))) rfl rfl
   ·have h := cond_f hb14 h
    refine ht_skip ?_
    refine pt_then (ht_seq ?_)
    obtain ⟨v9, hv9, h⟩ := zn h
    refine zg hn [_,_,_,_,_,(35,vs v3.1),(36,.tup [.agg [vb v9.1.Null,vs v9.1.Local,vs v9.1.Domain],vi v9.2]),(34,.tup [.agg [vb v9.1.Null,vs v9.1.Local,vs v9.1.Domain],vi v9.2]),(37,.agg [vb v9.1.Null,vs v9.1.Local,vs v9.1.Domain]),(38,vi v9.2),(4,.box 43 [vb v9.1.Null,vs v9.1.Local,vs v9.1.Domain]),(11,vi v9.2)] [0,1,2,3,4] [0,10,2,11] [zq [3] 5 35,zq [5,0] 6 36,⟨[],[6],[7],[(.slot 34)]⟩,zq [7] 8 37,zq [7] 9 38,⟨[8],[1],[10],[.cell 4 0,.cell 4 1,.cell 4 2]⟩,zq [9] 11 11] [(_,_),(_,_),(_,_),(_,_)] rfl ⟨z1 rfl,zp rfl (op_callG _ _ 43 102 _ _ rfl call102 rfl rfl (fun _ h => h) (ok_path_Parse mx v3.1 _ hv9) rfl rfl),zp rfl (op_move_take _ _ _ _ rfl),zp rfl (op_extract_no _ _ _ _ _ _ rfl rfl (zl rfl) rfl rfl),zp rfl (oE rfl),zp rfl (oS sz43 rfl),z2 rfl,zz⟩ ?_
    refine pt_then ?_
    refine zgg hn [_,_,_,_,(39,.agg [vb v9.1.Null,vs v9.1.Local,vs v9.1.Domain]),(40,.fl .ro 1 (map (int .u8) v1.2.1)),(41,vi v9.2),(42,vb (v9.2 == 0)),(4,.box 43 [vb v9.1.Null,vs v9.1.Local,vs v9.1.Domain]),(5,.fl .ro 1 (map (int .u8) v1.2.1)),(6,vb (v9.2 == 0))] [0,1,2,3] [0,8,9,10] [zq [1] 4 39,zq [2] 5 40,zq [3] 6 41,zq [6] 7 42,⟨[],[4,1],[8],[.cell 4 0,.cell 4 1,.cell 4 2]⟩,⟨[5],[2],[9],[(.slot 5)]⟩,zq [7] 10 6] [(_,_),(_,_),(_,_),(_,_)] rfl ⟨zp rfl (op_loadA _ _ _ _ _ _ _ underlying43 rfl sz43 rfl rfl (zl rfl) rfl rfl),z1 rfl,z1 rfl,z4 rfl rfl,zp rfl (op_store_self _ _ _ 39 4 3 sz43 rfl rfl rfl rfl rfl (.eq _ (.eq _ (.eq _ (.nil _)))) rfl),zp rfl (LOp.drop [_] (op_assign _ _ _ _ rfl rfl)),z2 rfl,zz⟩ ?_
    refine ht_ret ?_
    refine pt_pick [1, 2, 3] (by kernel_rfl) (es' := [(_,_),(_,_),(_,_)]) rfl ?_
    obtain rfl := zi h
    exact pt_ret hio rfl (.cellA _ _ _ _ underlying43 rfl sz43 (.tmp _ _ (.tmp _ _ .nil))) rfl rfl
  ·intro u11 h hl12 hr13
   refine cond_some h (fun hg3_2 h => ?_) (fun hg3_2 h => ?_)
   ·refine zg hn [_,_,_,_,_,_,(27,vb v1.2.2),(28,vb (!v1.2.2)),(29,vb true),(30,.v undef),(31,.v undef),(32,vb true)] [0,1,2,3,4,5] [0,1,2,4,11] [zq [3] 6 27,zq [6] 7 28,zq [7] 8 29,zq [8] 9 30,zq [8] 10 31,zq [8] 11 32] [(_,_),(_,_),(_,_),(_,_),(_,_)] rfl ⟨z1 rfl,zp rfl (op_un _ _ _ _ rfl rfl),z8 hg3_2 rfl,zf rfl,zf rfl,z3 true rfl,zz⟩ ?_
    exact hl12 _ (zi h).symm
   ·refine zg hn [_,_,_,_,_,_,(27,vb v1.2.2),(28,vb (!v1.2.2)),(29,vb false),(30,vb v3.2),(31,vb (!v3.2)),(32,vb (!v3.2))] [0,1,2,3,4,5] [0,1,2,4,11] [zq [3] 6 27,zq [6] 7 28,zq [7] 8 29,zq [8,5] 9 30,zq [8,9] 10 31,zq [8,10] 11 32] [(_,_),(_,_),(_,_),(_,_),(_,_)] rfl ⟨z1 rfl,zp rfl (op_un _ _ _ _ rfl rfl),z8 hg3_2 rfl,zr' rfl (oM rfl),zr' rfl (op_un _ _ _ _ rfl rfl),z3 false rfl,zz⟩ ?_
    exact hl12 _ (zi h).symm
theorem ok_bytes_CutPrefix_ro (s : (List Int)) (prefix_ : (List Int)) (r : ((List Int) × Bool)) (h : Sh.bytes_CutPrefix_ro s prefix_ = some r) : FnOK Tryz.prog 80 [.fl .ro 1 (map (int .u8) s), .fl .ro 1 (map (int .u8) prefix_)] (.tup [.fl .ro 1 (map (int .u8) r.1), .v (.bool r.2)]) := by
  unfold Sh.bytes_CutPrefix_ro at h
  refine fn_ok func80 rfl (zl rfl) rfl rfl fun g0 hn hio => ?_
  refine zgg hn [_,_,(4,.v (.slice none 0 0)),(5,vb false)] [0,1] [0,1] [zq [] 2 4,zq [] 3 5] [(_,_),(_,_)] rfl ⟨z2 rfl,z2 rfl,zz⟩ ?_
  refine ht_seq ?_
  refine ht_seq ?_
  obtain ⟨v1, hv1, h⟩ := zn h
  refine zg hn [_,_,(6,.fl .ro 1 (map (int .u8) s)),(7,.fl .ro 1 (map (int .u8) prefix_)),(8,vb v1),(9,vb (!v1))] [0,1] [0,1,5] [zq [0] 2 6,zq [1] 3 7,zq [2,3] 4 8,zq [4] 5 9] [(_,_),(_,_),(_,_)] rfl ⟨z1 rfl,z1 rfl,zp rfl (op_call _ _ 70 _ _ rfl call70 rfl (ok_bytes_HasPrefix s prefix_ _ hv1) rfl rfl),zp rfl (op_un _ _ _ _ rfl rfl),zz⟩ ?_
  refine pt_then ?_
  refine ht_cond _ rfl (fun hb4 => ?_) (fun hb4 => ?_)
  ·have h := cond_t hb4 h
   refine zgg hn [_,_,_,(10,.fl .ro 1 (map (int .u8) s)),(4,.fl .ro 1 (map (int .u8) s)),(5,vb false)] [0,1,2] [4,5] [zq [0] 3 10,zq [3] 4 4,zq [] 5 5] [(_,_),(_,_)] rfl ⟨z1 rfl,z2 rfl,z2 rfl,zz⟩ ?_
   refine ht_ret ?_
   refine pt_r_then ?_
   obtain rfl := zi h
   exact pt_ret hio rfl (.tmp _ _ (.tmp _ _ .nil)) rfl rfl
  ·have h := cond_f hb4 h
   refine ht_skip ?_
   refine pt_then (ht_seq ?_)
   obtain ⟨v3, hv3, h⟩ := zn h
   refine zg hn [_,_,_,(11,.fl .ro 1 (map (int .u8) s)),(12,.fl .ro 1 (map (int .u8) prefix_)),(13,vi (prefix_.length : Int)),(14,.fl .ro 1 (map (int .u8) v3)),(4,.fl .ro 1 (map (int .u8) v3)),(5,vb true)] [0,1,2] [7,8] [zq [0] 3 11,zq [1] 4 12,zq [4] 5 13,zq [3,5] 6 14,zq [6] 7 4,zq [] 8 5] [(_,_),(_,_)] rfl ⟨z1 rfl,z1 rfl,zp rfl (op_len_fl _ _ _ underlying25 rfl (by decide) (map_len _)),zp rfl (op_sl _ _ _ (prefix_.length : Int) (s.length : Int) _ underlying25 sz5 rfl rfl ⟨_, rfl⟩ rfl hv3),z2 rfl,z2 rfl,zz⟩ ?_
   refine pt_then (ht_ret ?_)
   obtain rfl := zi h
   exact pt_ret hio rfl (.tmp _ _ (.tmp _ _ .nil)) rfl rfl
theorem ok_bundle_parseMail_ro (mx : Int) (c : (List Int)) (r : (T_Mail × (List Int) × Bool)) (h : Sh.bundle_parseMail_ro c = some r) : FnG Tryz.prog (GL mx) 59 [.fl .ro 1 (map (int .u8) c)] (.tup [.agg [.v (.bool r.1.From.Null), .v (.string r.1.From.Local), .v (.string r.1.From.Domain), .fl .ro 3 (flatten (map T_Path.enc r.1.To)), .fl .ro 1 (map (int .u8) r.1.Body), .v (.bool r.1.Quiet), .v (.string r.1.Helo), .v (.int .i64 r.1.At)], .fl .ro 1 (map (int .u8) r.2.1), .v (.bool r.2.2)]) := by
  unfold Sh.bundle_parseMail_ro at h
  refine fn_okG func59 rfl (zl rfl) rfl rfl fun g0 hn hio => ?_
  refine zgg hn [_,_,(2,.box 46 [vb false,vs z0,vs z0,.v (.slice none 0 0),.v (.slice none 0 0),vb false,vs z0,vi 0]),(3,.v (.slice none 0 0)),(4,vb false)] [0,1] [0,1,2] [zq [] 2 2,zq [] 3 3,zq [] 4 4] [(_,_),(_,_),(_,_)] rfl ⟨zp rfl (op_alloc _ _ zr46),z2 rfl,z2 rfl,zz⟩ ?_
  refine ht_seq ?_
  obtain ⟨v1, hv1, h⟩ := zn h
  refine zg hn [_,_,_,(12,.fl .ro 1 (map (int .u8) c)),(13,.tup [.agg [vb v1.1.Null,vs v1.1.Local,vs v1.1.Domain],.fl .ro 1 (map (int .u8) v1.2.1),vb v1.2.2]),(11,.tup [.agg [vb v1.1.Null,vs v1.1.Local,vs v1.1.Domain],.fl .ro 1 (map (int .u8) v1.2.1),vb v1.2.2]),(14,.agg [vb v1.1.Null,vs v1.1.Local,vs v1.1.Domain]),(15,.fl .ro 1 (map (int .u8) v1.2.1)),(16,vb v1.2.2),(17,.ptr 2 0),(2,.box 46 [vb v1.1.Null,vs v1.1.Local,vs v1.1.Domain,.v (.slice none 0 0),.v (.slice none 0 0),vb false,vs z0,vi 0]),(0,.fl .ro 1 (map (int .u8) v1.2.1)),(4,vb v1.2.2)] [0,1,2] [1,10,11,12] [zq [0] 3 12,zq [3,1] 4 13,⟨[],[4],[5],[(.slot 11)]⟩,zq [5] 6 14,zq [5] 7 15,zq [5] 8 16,zq [2] 9 17,⟨[9,6],[2],[10],[.cell 2 0,.cell 2 1,.cell 2 2]⟩,⟨[7],[0],[11],[(.slot 0)]⟩,zq [8] 12 4] [(_,_),(_,_),(_,_),(_,_)] rfl ⟨z1 rfl,zp rfl (op_callRG _ _ 65 79 _ _ rfl call79 rfl rfl (fun _ h => h) (ok_bundle_parsePath_ro mx c (⟨#[77, 65, 73, 76, 32, 70, 82, 79, 77, 58]⟩ : ByteArray) _ hv1) rfl rfl),zp rfl (op_move_take _ _ _ _ rfl),zp rfl (op_extract_no _ _ _ _ _ _ rfl rfl (zl rfl) rfl rfl),zp rfl (oE rfl),zp rfl (oE rfl),zp rfl (oF underlying46 rfl sz43),zp rfl (oS sz43 rfl),zp rfl (LOp.drop [_] (op_assign _ _ _ _ rfl rfl)),z2 rfl,zz⟩ ?_
  refine pt_then (ht_seq ?_)
  refine zgg hn [_,_,_,_,(18,vb v1.2.2),(19,vb (!v1.2.2))] [0,1,2,3] [0,1,2,5] [zq [3] 4 18,zq [4] 5 19] [(_,_),(_,_),(_,_),(_,_)] rfl ⟨z1 rfl,zp rfl (op_un _ _ _ _ rfl rfl),zz⟩ ?_
  refine ht_cond _ rfl (fun hb30 => ?_) (fun hb30 => ?_)
  ·have h := cond_t hb30 h
   refine zgg hn [_,_,_,_,(20,.agg [vb false,vs z0,vs z0,.v (.slice none 0 0),.v (.slice none 0 0),vb false,vs z0,vi 0]),(2,.box 46 [vb false,vs z0,vs z0,.v (.slice none 0 0),.v (.slice none 0 0),vb false,vs z0,vi 0]),(3,.v (.slice none 0 0)),(4,vb false)] [0,1,2,3] [0,5,6,7] [zq [] 4 20,⟨[4],[1],[5],[.cell 2 0,.cell 2 1,.cell 2 2,.cell 2 3,.cell 2 4,.cell 2 5,.cell 2 6,.cell 2 7]⟩,zq [] 6 3,zq [] 7 4] [(_,_),(_,_),(_,_),(_,_)] rfl ⟨zp rfl (op_build _ _ _ _ [3, 1, 1, 1, 1, 1] _ _ underlying46 zr46 (fs46 _ underlying46) Src.nil rfl rfl rfl),zp rfl (oS sz46 rfl),z2 rfl,z2 rfl,zz⟩ ?_
   refine ht_ret ?_
   refine pt_pick [1, 2, 3] (by kernel_rfl) (es' := [(_,_),(_,_),(_,_)]) rfl ?_
   refine pt_sub (fs := [(2, .box 46 [.v (.bool false), .v (.string (⟨#[]⟩ : ByteArray)), .v (.string (⟨#[]⟩ : ByteArray)), .fl (.own 43) 3 (flatten (map T_Path.enc [])), .fl (.own 5) 1 (map (int .u8) []), .v (.bool false), .v (.string (⟨#[]⟩ : ByteArray)), .v (.int .i64 0)]), (3, .fl (.own 5) 1 (map (int .u8) [])), (4, .v (.bool false))]) (.box _ _ (subs_cons (sub_refl _) (subs_cons (sub_refl _) (subs_cons (sub_refl _) (subs_cons (sub_nil 43 3) (subs_cons (sub_nil 5 1) (subs_cons (sub_refl _) (subs_cons (sub_refl _) (subs_cons (sub_refl _) (subs_nil))))))))) rfl (.sub _ (sub_nil 5 1) rfl (.same _ .nil))) ?_
   refine pt_frz 0 hio (es' := [(2, .box 46 [.v (.bool false), .v (.string (⟨#[]⟩ : ByteArray)), .v (.string (⟨#[]⟩ : ByteArray)), .fl .ro 3 (flatten (map T_Path.enc [])), .fl .ro 1 (map (int .u8) []), .v (.bool false), .v (.string (⟨#[]⟩ : ByteArray)), .v (.int .i64 0)]), (3, .fl (.own 5) 1 (map (int .u8) [])), (4, .v (.bool false))]) rfl ?_
   refine pt_frz 1 hio (es' := [(2, .box 46 [.v (.bool false), .v (.string (⟨#[]⟩ : ByteArray)), .v (.string (⟨#[]⟩ : ByteArray)), .fl .ro 3 (flatten (map T_Path.enc [])), .fl .ro 1 (map (int .u8) []), .v (.bool false), .v (.string (⟨#[]⟩ : ByteArray)), .v (.int .i64 0)]), (3, .fl .ro 1 (map (int .u8) [])), (4, .v (.bool false))]) rfl ?_
   refine pt_r_then ?_
   obtain rfl := zi h
   exact pt_ret hio rfl (.cellA _ _ _ _ underlying46 rfl sz46 (.tmp _ _ (.tmp _ _ .nil))) rfl rfl
  ·have h := cond_f hb30 h
   refine ht_skip ?_
   refine pt_then (ht_seq ?_)
   refine ht_pick [0, 1, 2] (by kernel_rfl) (es' := [(_,_),(_,_),(_,_)]) rfl ?_
   refine ht_sub (fs := [(65, .glob (GL mx)), (2, .box 46 [.v (.bool v1.1.Null), .v (.string v1.1.Local), .v (.string v1.1.Domain), .fl (.own 43) 3 (flatten (map T_Path.enc [])), .v (.slice none 0 0), .v (.bool false), .v (.string (⟨#[]⟩ : ByteArray)), .v (.int .i64 0)]), (0, .fl .ro 1 (map (int .u8) v1.2.1))]) (.same _ (.box _ _ (subs_cons (sub_refl _) (subs_cons (sub_refl _) (subs_cons (sub_refl _) (subs_cons (sub_nil 43 3) (subs_cons (sub_refl _) (subs_cons (sub_refl _) (subs_cons (sub_refl _) (subs_cons (sub_refl _) (subs_nil))))))))) rfl (.same _ .nil))) ?_
   refine ht_loopS h (fun ((s37, s38) : (List T_Path) × (List Int)) => [(65, .glob (GL mx)), (2, .box 46 [.v (.bool v1.1.Null), .v (.string v1.1.Local), .v (.string v1.1.Domain), .fl (.own 43) 3 (flatten (map T_Path.enc s37)), .v (.slice none 0 0), .v (.bool false), .v (.string (⟨#[]⟩ : ByteArray)), .v (.int .i64 0)]), (0, .fl .ro 1 (map (int .u8) s38))]) (fun ((s41, s42) : (List T_Path) × (List Int)) => [(65, .glob (GL mx)), (2, .box 46 [.v (.bool v1.1.Null), .v (.string v1.1.Local), .v (.string v1.1.Domain), .fl (.own 43) 3 (flatten (map T_Path.enc s41)), .v (.slice none 0 0), .v (.bool false), .v (.string (⟨#[]⟩ : ByteArray)), .v (.int .i64 0)]), (0, .fl .ro 1 (map (int .u8) s42))]) ?_ ?_
   ·rintro ⟨s41, s42⟩ h
    refine pt_then (ht_seq ?_)
    obtain ⟨v25, hv25, h⟩ := zn h
    refine zg hn [_,_,_,(41,.fl .ro 1 (map (int .u8) s42)),(42,.fl (.own 5) 1 (map (int .u8) [68,65,84,65,13,10])),(43,.fl .ro 1 (map (int .u8) [68,65,84,65,13,10])),(44,.tup [.fl .ro 1 (map (int .u8) v25.1),vb v25.2]),(40,.tup [.fl .ro 1 (map (int .u8) v25.1),vb v25.2]),(45,.fl .ro 1 (map (int .u8) v25.1)),(46,vb v25.2),(0,.fl .ro 1 (map (int .u8) v25.1)),(4,vb v25.2)] [0,1,2] [0,1,10,11] [zq [2] 3 41,zq [] 4 42,⟨[],[4],[5],[(.slot 43)]⟩,zq [3,5] 6 44,⟨[],[6],[7],[(.slot 40)]⟩,zq [7] 8 45,zq [7] 9 46,⟨[8],[2],[10],[(.slot 0)]⟩,zq [9] 11 4] [(_,_),(_,_),(_,_),(_,_)] rfl ⟨z1 rfl,zp rfl (op_buildSlice _ _ 1 (.int .u8 0) (map (int .u8) [68, 65, 84, 65, 13, 10]) [(0, .int .u8 68), (1, .int .u8 65), (2, .int .u8 84), (3, .int .u8 65), (4, .int .u8 13), (5, .int .u8 10)] underlying25 sz5 zr5 (fun _ V w o a hv hes => by simp only [List.map_toArray, List.map_cons, List.map_nil]; try rfl) (litfill (by simp [Instr.fill, Value.cells]; rfl) (by simp [List.range, List.range.loop] <;> rfl)) (by simp [Value.oneCell']) rfl (by decide) (by decide) (by decide)),zp rfl (op_conv_mark _ _ _ underlying25 underlying5 (by intro h; cases h)),zp rfl (op_callR _ _ 80 _ _ rfl call80 rfl (ok_bytes_CutPrefix_ro s42 [68, 65, 84, 65, 13, 10] _ hv25) rfl rfl),zp rfl (op_move_take _ _ _ _ rfl),zp rfl (oE rfl),zp rfl (oE rfl),zp rfl (LOp.drop [_] (op_assign _ _ _ _ rfl rfl)),z2 rfl,zz⟩ ?_
    refine pt_then (ht_seq ?_)
    refine zgg hn [_,_,_,_,(47,vb v25.2),(48,vb (!v25.2))] [0,1,2,3] [0,1,2,5] [zq [3] 4 47,zq [4] 5 48] [(_,_),(_,_),(_,_),(_,_)] rfl ⟨z1 rfl,zp rfl (op_un _ _ _ _ rfl rfl),zz⟩ ?_
    refine ht_cond _ rfl (fun hb51 => ?_) (fun hb51 => ?_)
    ·have h := cond_t hb51 h
     refine zgg hn [_,_,_,_,(49,.agg [vb false,vs z0,vs z0,.v (.slice none 0 0),.v (.slice none 0 0),vb false,vs z0,vi 0]),(2,.box 46 [vb false,vs z0,vs z0,.v (.slice none 0 0),.v (.slice none 0 0),vb false,vs z0,vi 0]),(3,.v (.slice none 0 0)),(4,vb false)] [0,1,2,3] [0,5,6,7] [zq [] 4 49,⟨[4],[1],[5],[.cell 2 0,.cell 2 1,.cell 2 2,.cell 2 3,.cell 2 4,.cell 2 5,.cell 2 6,.cell 2 7]⟩,zq [] 6 3,zq [] 7 4] [(_,_),(_,_),(_,_),(_,_)] rfl ⟨zp rfl (op_build _ _ _ _ [3, 1, 1, 1, 1, 1] _ _ underlying46 zr46 (fs46 _ underlying46) Src.nil rfl rfl rfl),zp rfl (oS sz46 rfl),z2 rfl,z2 rfl,zz⟩ ?_
     refine ht_ret ?_
     refine pt_pick [1, 2, 3] (by kernel_rfl) (es' := [(_,_),(_,_),(_,_)]) rfl ?_
     refine pt_sub (fs := [(2, .box 46 [.v (.bool false), .v (.string (⟨#[]⟩ : ByteArray)), .v (.string (⟨#[]⟩ : ByteArray)), .fl (.own 43) 3 (flatten (map T_Path.enc [])), .fl (.own 5) 1 (map (int .u8) []), .v (.bool false), .v (.string (⟨#[]⟩ : ByteArray)), .v (.int .i64 0)]), (3, .fl (.own 5) 1 (map (int .u8) [])), (4, .v (.bool false))]) (.box _ _ (subs_cons (sub_refl _) (subs_cons (sub_refl _) (subs_cons (sub_refl _) (subs_cons (sub_nil 43 3) (subs_cons (sub_nil 5 1) (subs_cons (sub_refl _) (subs_cons (sub_refl _) (subs_cons (sub_refl _) (subs_nil))))))))) rfl (.sub _ (sub_nil 5 1) rfl (.same _ .nil))) ?_
     refine pt_frz 0 hio (es' := [(2, .box 46 [.v (.bool false), .v (.string (⟨#[]⟩ : ByteArray)), .v (.string (⟨#[]⟩ : ByteArray)), .fl .ro 3 (flatten (map T_Path.enc [])), .fl .ro 1 (map (int .u8) []), .v (.bool false), .v (.string (⟨#[]⟩ : ByteArray)), .v (.int .i64 0)]), (3, .fl (.own 5) 1 (map (int .u8) [])), (4, .v (.bool false))]) rfl ?_
     refine pt_frz 1 hio (es' := [(2, .box 46 [.v (.bool false), .v (.string (⟨#[]⟩ : ByteArray)), .v (.string (⟨#[]⟩ : ByteArray)), .fl .ro 3 (flatten (map T_Path.enc [])), .fl .ro 1 (map (int .u8) []), .v (.bool false), .v (.string (⟨#[]⟩ : ByteArray)), .v (.int .i64 0)]), (3, .fl .ro 1 (map (int .u8) [])), (4, .v (.bool false))]) rfl ?_
     refine pt_r_then ?_
     obtain rfl := zi h
     exact pt_ret hio rfl (.cellA _ _ _ _ underlying46 rfl sz46 (.tmp _ _ (.tmp _ _ .nil))) rfl rfl
    ·have h := cond_f hb51 h
     refine ht_skip ?_
     refine pt_then (ht_seq ?_)
     obtain ⟨v27, hv27, h⟩ := zn h
     refine zg hn [_,_,_,_,(51,.fl .ro 1 (map (int .u8) v25.1)),(52,.tup [.fl (.own 5) 1 (map (int .u8) v27.1),vi v27.2.1,vi v27.2.2]),(50,.tup [.fl (.own 5) 1 (map (int .u8) v27.1),vi v27.2.1,vi v27.2.2]),(53,.fl (.own 5) 1 (map (int .u8) v27.1)),(50,.tup [.any,vi v27.2.1,vi v27.2.2]),(54,vi v27.2.1),(55,vi v27.2.2),(8,.fl (.own 5) 1 (map (int .u8) v27.1)),(9,vi v27.2.1),(10,vi v27.2.2)] [0,1,2,3] [0,1,2,11,12,13] [zq [2] 4 51,zq [4,0] 5 52,⟨[],[5],[6],[(.slot 50)]⟩,⟨[],[6],[8,7],[(.slot 53)]⟩,zq [8] 9 54,zq [8] 10 55,⟨[],[7],[11],[(.slot 8)]⟩,zq [9] 12 9,zq [10] 13 10] [(_,_),(_,_),(_,_),(_,_),(_,_),(_,_)] rfl ⟨z1 rfl,zp rfl (op_callG _ _ 65 81 _ _ rfl call81 rfl rfl (fun _ h => h) (ok_dots_Strip mx v25.1 _ hv27) rfl rfl),zp rfl (op_move_take _ _ _ _ rfl),zp rfl (op_extract_take _ _ _ _ _ rfl (zl rfl) rfl rfl (by decide) rfl),zp rfl (oE rfl),zp rfl (oE rfl),zp rfl (op_assign_take _ _ _ _ rfl),z2 rfl,z2 rfl,zz⟩ ?_
     refine pt_then (ht_seq ?_)
     refine zgg hn [_,_,_,_,_,_,(56,vi v27.2.2),(57,vb (v27.2.2 != 0))] [0,1,2,3,4,5] [0,1,2,3,4,7] [zq [5] 6 56,zq [6] 7 57] [(_,_),(_,_),(_,_),(_,_),(_,_),(_,_)] rfl ⟨z1 rfl,z4 rfl rfl,zz⟩ ?_
     refine ht_cond _ rfl (fun hb52 => ?_) (fun hb52 => ?_)
     ·have h := cond_t hb52 h
      refine zgg hn [_,_,_,_,_,_,(58,.agg [vb false,vs z0,vs z0,.v (.slice none 0 0),.v (.slice none 0 0),vb false,vs z0,vi 0]),(2,.box 46 [vb false,vs z0,vs z0,.v (.slice none 0 0),.v (.slice none 0 0),vb false,vs z0,vi 0]),(3,.v (.slice none 0 0)),(4,vb false)] [0,1,2,3,4,5] [0,7,8,9] [zq [] 6 58,⟨[6],[1],[7],[.cell 2 0,.cell 2 1,.cell 2 2,.cell 2 3,.cell 2 4,.cell 2 5,.cell 2 6,.cell 2 7]⟩,zq [] 8 3,zq [] 9 4] [(_,_),(_,_),(_,_),(_,_)] rfl ⟨zp rfl (op_build _ _ _ _ [3, 1, 1, 1, 1, 1] _ _ underlying46 zr46 (fs46 _ underlying46) Src.nil rfl rfl rfl),zp rfl (oS sz46 rfl),z2 rfl,z2 rfl,zz⟩ ?_
      refine ht_ret ?_
      refine pt_pick [1, 2, 3] (by kernel_rfl) (es' := [(_,_),(_,_),(_,_)]) rfl ?_
      refine pt_sub (fs := [(2, .box 46 [.v (.bool false), .v (.string (⟨#[]⟩ : ByteArray)), .v (.string (⟨#[]⟩ : ByteArray)), .fl (.own 43) 3 (flatten (map T_Path.enc [])), .fl (.own 5) 1 (map (int .u8) []), .v (.bool false), .v (.string (⟨#[]⟩ : ByteArray)), .v (.int .i64 0)]), (3, .fl (.own 5) 1 (map (int .u8) [])), (4, .v (.bool false))]) (.box _ _ (subs_cons (sub_refl _) (subs_cons (sub_refl _) (subs_cons (sub_refl _) (subs_cons (sub_nil 43 3) (subs_cons (sub_nil 5 1) (subs_cons (sub_refl _) (subs_cons (sub_refl _) (subs_cons (sub_refl _) (subs_nil))))))))) rfl (.sub _ (sub_nil 5 1) rfl (.same _ .nil))) ?_
      refine pt_frz 0 hio (es' := [(2, .box 46 [.v (.bool false), .v (.string (⟨#[]⟩ : ByteArray)), .v (.string (⟨#[]⟩ : ByteArray)), .fl .ro 3 (flatten (map T_Path.enc [])), .fl .ro 1 (map (int .u8) []), .v (.bool false), .v (.string (⟨#[]⟩ : ByteArray)), .v (.int .i64 0)]), (3, .fl (.own 5) 1 (map (int .u8) [])), (4, .v (.bool false))]) rfl ?_
      refine pt_frz 1 hio (es' := [(2, .box 46 [.v (.bool false), .v (.string (⟨#[]⟩ : ByteArray)), .v (.string (⟨#[]⟩ : ByteArray)), .fl .ro 3 (flatten (map T_Path.enc [])), .fl .ro 1 (map (int .u8) []), .v (.bool false), .v (.string (⟨#[]⟩ : ByteArray)), .v (.int .i64 0)]), (3, .fl .ro 1 (map (int .u8) [])), (4, .v (.bool false))]) rfl ?_
      refine pt_r_then ?_
      obtain rfl := zi h
      exact pt_ret hio rfl (.cellA _ _ _ _ underlying46 rfl sz46 (.tmp _ _ (.tmp _ _ .nil))) rfl rfl
     ·have h := cond_f hb52 h
      refine ht_skip ?_
      refine pt_then ?_
      refine zgg hn [_,_,_,_,_,_,(59,.fl (.own 5) 1 (map (int .u8) v27.1)),(60,.ptr 2 4),(2,.box 46 [vb v1.1.Null,vs v1.1.Local,vs v1.1.Domain,.fl (.own 43) 3 (flatten (map T_Path.enc s41)),.fl (.own 5) 1 (map (int .u8) v27.1),vb false,vs z0,vi 0])] [0,1,2,3,4,5] [0,8,2,4] [⟨[],[3],[6],[(.slot 59)]⟩,zq [1] 7 60,⟨[7],[6,1],[8],[.cell 2 4]⟩] [(_,_),(_,_),(_,_),(_,_)] rfl ⟨zp rfl (op_move_take _ _ _ _ rfl),zp rfl (oF underlying46 rfl sz25),zp rfl (op_store_take _ _ _ _ _ _ _ _ sz25 rfl rfl rfl (zl rfl) rfl rfl),zz⟩ ?_
      refine ht_seq ?_
      obtain ⟨v29, hv29, h⟩ := zn h
      refine ht_anyR (by kernel_rfl) hn (El := [_, _, _, _, (61, .agg [.v (.bool v1.1.Null), .v (.string v1.1.Local), .v (.string v1.1.Domain), .same (.cell 2 3), .same (.cell 2 4), .v (.bool false), .v (.string (⟨#[]⟩ : ByteArray)), .v (.int .i64 0)]), (62, .fl .ro 1 (map (int .u8) v25.1)), (63, .v (.int .i64 v27.2.1)), (64, .fl .ro 1 (map (int .u8) v29)), (2, .box 46 [.v (.bool v1.1.Null), .v (.string v1.1.Local), .v (.string v1.1.Domain), .fl (.own 43) 3 (flatten (map T_Path.enc s41)), .fl (.own 5) 1 (map (int .u8) v27.1), .v (.bool false), .v (.string (⟨#[]⟩ : ByteArray)), .v (.int .i64 0)]), (3, .fl .ro 1 (map (int .u8) v29)), (4, .v (.bool true))]) (init := [0, 1, 2, 3]) (fin := [0, 8, 9, 10]) (sps := [zq [1] 4 61, zq [2] 5 62, zq [3] 6 63, zq [5,6] 7 64, ⟨[], [4, 1], [8], [.cell 2 0, .cell 2 1, .cell 2 2, .cell 2 3, .cell 2 4, .cell 2 5, .cell 2 6, .cell 2 7]⟩, zq [7] 9 3, zq [] 10 4]) (es' := [(_,_),(2, .box 46 [.v (.bool v1.1.Null), .v (.string v1.1.Local), .v (.string v1.1.Domain), .fl (.own 43) 3 (flatten (map T_Path.enc s41)), .fl (.own 5) 1 (map (int .u8) v27.1), .v (.bool false), .v (.string (⟨#[]⟩ : ByteArray)), .v (.int .i64 0)]), (3, .fl .ro 1 (map (int .u8) v29)), (4, .v (.bool true))]) (by kernel_rfl) rfl rfl ⟨zp rfl (op_loadA _ _ _ _ _ _ _ underlying46 rfl sz46 rfl rfl (zl rfl) rfl rfl),z1 rfl,z1 rfl,zp rfl (op_sl _ _ _ v27.2.1 (v25.1.length : Int) _ underlying25 sz5 rfl rfl ⟨_, rfl⟩ rfl hv29),zp rfl (op_store_self _ _ _ 61 2 8 sz46 rfl rfl rfl rfl rfl (.eq _ (.eq _ (.eq _ (.same _ (.same _ (.eq _ (.eq _ (.eq _ (.nil _))))))))) rfl),z2 rfl,z2 rfl,zz⟩ ?_
      refine pt_then (ht_ret ?_)
      refine pt_pick [1, 2, 3] (by kernel_rfl) (es' := [(_,_),(_,_),(_,_)]) rfl ?_
      refine pt_frz 0 hio (es' := [(2, .box 46 [.v (.bool v1.1.Null), .v (.string v1.1.Local), .v (.string v1.1.Domain), .fl .ro 3 (flatten (map T_Path.enc s41)), .fl .ro 1 (map (int .u8) v27.1), .v (.bool false), .v (.string (⟨#[]⟩ : ByteArray)), .v (.int .i64 0)]), (3, .fl .ro 1 (map (int .u8) v29)), (4, .v (.bool true))]) rfl ?_
      obtain rfl := zi h
      exact pt_ret hio rfl (.cellA _ _ _ _ underlying46 rfl sz46 (.tmp _ _ (.tmp _ _ .nil))) rfl rfl
   ·rintro u43 hl44 hr45 ⟨s37, s38⟩ rr48 h ho46
    refine ht_seq ?_
    refine zgg hn [_,_,_,(21,.ptr 2 3),(22,.same (.cell 2 3)),(23,vi (s37.length : Int)),(24,vb (decide ((s37.length : Int) ≤ 8)))] [0,1,2] [0,1,2,6] [zq [1] 3 21,zq [3,1] 4 22,zq [4,1] 5 23,zq [5] 6 24] [(_,_),(_,_),(_,_),(_,_)] rfl ⟨zp rfl (oF underlying46 rfl sz44),zp rfl (oL underlying44 rfl),zp rfl (op_len_fl _ _ _ underlying44 rfl (by decide) (flat_len T_Path.len _)),z4 rfl rfl,zz⟩ ?_
    refine ht_cond _ rfl (fun hb49 => ?_) (fun hb49 => ?_)
    ·have h := cond_t hb49 h
     refine ht_skip ?_
     refine pt_then ?_
     refine ht_block ?_
     refine ht_seq ?_
     obtain ⟨v4, hv4, h⟩ := zn h
     refine zg hn [_,_,_,_,(26,.fl .ro 1 (map (int .u8) s38)),(27,.tup [.agg [vb v4.1.Null,vs v4.1.Local,vs v4.1.Domain],.fl .ro 1 (map (int .u8) v4.2.1),vb v4.2.2]),(25,.tup [.agg [vb v4.1.Null,vs v4.1.Local,vs v4.1.Domain],.fl .ro 1 (map (int .u8) v4.2.1),vb v4.2.2]),(28,.agg [vb v4.1.Null,vs v4.1.Local,vs v4.1.Domain]),(29,.fl .ro 1 (map (int .u8) v4.2.1)),(30,vb v4.2.2),(5,.box 43 [vb false,vs z0,vs z0]),(5,.box 43 [vb v4.1.Null,vs v4.1.Local,vs v4.1.Domain]),(6,.fl .ro 1 (map (int .u8) v4.2.1)),(7,vb v4.2.2)] [0,1,2,3] [0,1,2,11,12,13] [zq [2] 4 26,zq [4,0] 5 27,⟨[],[5],[6],[(.slot 25)]⟩,zq [6] 7 28,zq [6] 8 29,zq [6] 9 30,zq [] 10 5,⟨[7],[10],[11],[.cell 5 0,.cell 5 1,.cell 5 2]⟩,zq [8] 12 6,zq [9] 13 7] [(_,_),(_,_),(_,_),(_,_),(_,_),(_,_)] rfl ⟨z1 rfl,zp rfl (op_callRG _ _ 65 79 _ _ rfl call79 rfl rfl (fun _ h => h) (ok_bundle_parsePath_ro mx s38 (⟨#[82, 67, 80, 84, 32, 84, 79, 58]⟩ : ByteArray) _ hv4) rfl rfl),zp rfl (op_move_take _ _ _ _ rfl),zp rfl (op_extract_no _ _ _ _ _ _ rfl rfl (zl rfl) rfl rfl),zp rfl (oE rfl),zp rfl (oE rfl),zp rfl (op_alloc _ _ zr43),zp rfl (oS sz43 rfl),z2 rfl,z2 rfl,zz⟩ ?_
     refine pt_then (ht_seq ?_)
     refine zgg hn [_,_,_,_,_,_,(31,vb v4.2.2),(32,vb (!v4.2.2))] [0,1,2,3,4,5] [0,1,2,3,4,7] [zq [5] 6 31,zq [6] 7 32] [(_,_),(_,_),(_,_),(_,_),(_,_),(_,_)] rfl ⟨z1 rfl,zp rfl (op_un _ _ _ _ rfl rfl),zz⟩ ?_
     refine ht_cond _ rfl (fun hb50 => ?_) (fun hb50 => ?_)
     ·have h := cond_t hb50 h
      refine ht_exit ?_
      refine pt_x_then ?_
      refine pt_x_out (by decide) ?_
      refine pt_x_then ?_
      refine pt_x_in ?_
      refine pt_pick [0, 1, 2] (by kernel_rfl) (es' := [(_,_),(_,_),(_,_)]) rfl ?_
      exact hl44 _ (ho46 _ (zi h).symm).symm
     ·have h := cond_f hb50 h
      refine ht_skip ?_
      refine pt_then (ht_seq ?_)
      obtain ⟨v6, hv6, h⟩ := zn h
      refine zg hn [_,_,_,_,_,_,(33,.ptr 2 3),(34,.same (.cell 2 3)),(35,.agg [vb v4.1.Null,vs v4.1.Local,vs v4.1.Domain]),(36,.fl (.own 43) 3 (flatten (map T_Path.enc [v4.1]))),(37,.fl (.own 43) 3 (flatten (map T_Path.enc v6))),(2,.box 46 [vb v1.1.Null,vs v1.1.Local,vs v1.1.Domain,.any,.v (.slice none 0 0),vb false,vs z0,vi 0]),(38,.ptr 2 3),(2,.box 46 [vb v1.1.Null,vs v1.1.Local,vs v1.1.Domain,.fl (.own 43) 3 (flatten (map T_Path.enc v6)),.v (.slice none 0 0),vb false,vs z0,vi 0])] [0,1,2,3,4,5] [0,13,4] [zq [1] 6 33,zq [6,1] 7 34,zq [3] 8 35,zq [8] 9 36,⟨[7,9],[1],[11,10],[(.slot 37)]⟩,zq [11] 12 38,⟨[12],[7,10,11],[13],[.cell 2 3]⟩] [(_,_),(_,_),(_,_)] rfl ⟨zp rfl (oF underlying46 rfl sz44),zp rfl (oL underlying44 rfl),zp rfl (op_loadA _ _ _ _ _ _ _ underlying43 rfl sz43 rfl rfl (zl rfl) rfl rfl),zp rfl (op_buildSlice _ _ 3 (.agg #[.bool false, .string ByteArray.empty, .string ByteArray.empty]) (flatten (map T_Path.enc [v4.1])) [(0, .agg #[.bool v4.1.Null, .string v4.1.Local, .string v4.1.Domain])] underlying44 sz43 zr43 (fun _ V w o a hv hes => by have e0 := agg_v (ys := [.bool v4.1.Null, .string v4.1.Local, .string v4.1.Domain]) hv hes (x := .tmp 35) rfl; simp only [List.map_toArray, List.map_cons, List.map_nil, e0]; try rfl) (litfill (by simp [Instr.fill, Value.cells]; rfl) (by simp [List.range, List.range.loop, T_Path.enc] <;> rfl)) (by simp [Value.oneCell', T_Path.enc]) rfl (by decide) (by decide) (by decide)),zp rfl (op_app_cell _ _ _ _ _ _ el44 rfl rfl (zl rfl) rfl (flat_len T_Path.len _) (flat_len T_Path.len _) hv6 (flat_app (app_eq hv6)) (Nat.ne_of_beq_eq_false rfl) rfl rfl),zp rfl (oF underlying46 rfl sz44),zp rfl (LOp.drop [_] (op_store_take _ _ _ _ _ _ _ _ sz44 rfl rfl rfl (zl rfl) rfl rfl)),zz⟩ ?_
      refine pt_then ?_
      refine zg hn [_,_,_,(39,.fl .ro 1 (map (int .u8) v4.2.1)),(0,.fl .ro 1 (map (int .u8) v4.2.1))] [0,1,2] [0,1,4] [zq [2] 3 39,zq [3] 4 0] [(_,_),(_,_),(_,_)] rfl ⟨z1 rfl,z2 rfl,zz⟩ ?_
      refine pt_inb ?_
      exact pt_next _ (zi h).symm rfl
    ·have h := cond_f hb49 h
     refine ht_exit ?_
     refine pt_x_then ?_
     refine pt_x_then ?_
     refine pt_x_in ?_
     refine pt_pick [0, 1, 2] (by kernel_rfl) (es' := [(_,_),(_,_),(_,_)]) rfl ?_
     exact hl44 _ (ho46 _ (zi h).symm).symm
theorem ok_bundle_parseMails_ro (mx : Int) (c : (List Int)) (r : (List T_Mail)) (h : Sh.bundle_parseMails_ro c = some r) : FnG Tryz.prog (GL mx) 36 [.fl .ro 1 (map (int .u8) c)] (.fr (.own 46) false 8 (flatten (map T_Mail.ienc r))) := by
  unfold Sh.bundle_parseMails_ro at h
  refine fn_okG func36 rfl (zl rfl) rfl rfl fun g0 hn hio => ?_
  refine zgg hn [_,_,(2,.v (.slice none 0 0))] [0,1] [0,1] [zq [] 2 2] [(_,_),(_,_)] rfl ⟨z2 rfl,zz⟩ ?_
  refine zgg hn [_,_,(3,.v (.slice none 0 0))] [0,1] [0,1,2] [zq [] 2 3] [(_,_),(_,_),(_,_)] rfl ⟨z2 rfl,zz⟩ ?_
  refine ht_seq ?_
  refine ht_sub (fs := [(0, .fl .ro 1 (map (int .u8) c)), (24, .glob (GL mx)), (3, .fr (.own 46) false 8 (flatten (map T_Mail.ienc [])))]) (.same _ (.same _ (.sub _ (sub_nil_fr 46 false 8) rfl .nil))) ?_
  refine ht_loopS h (fun ((s9, s10) : (List Int) × (List T_Mail)) => [(0, .fl .ro 1 (map (int .u8) s9)), (24, .glob (GL mx)), (3, .fr (.own 46) false 8 (flatten (map T_Mail.ienc s10)))]) (fun (s13 : (List T_Mail)) => [(24, .glob (GL mx)), (3, .fr (.own 46) false 8 (flatten (map T_Mail.ienc s13)))]) ?_ ?_
  ·rintro s13 h
   refine pt_then ?_
   refine zgg hn [_,_,(23,.fr (.own 46) false 8 (flatten (map T_Mail.ienc s13))),(2,.fr (.own 46) false 8 (flatten (map T_Mail.ienc s13)))] [0,1] [0,3] [⟨[],[1],[2],[(.slot 23)]⟩,⟨[],[2],[3],[(.slot 2)]⟩] [(_,_),(_,_)] rfl ⟨zp rfl (op_move_take _ _ _ _ rfl),zp rfl (op_assign_take _ _ _ _ rfl),zz⟩ ?_
   refine ht_ret ?_
   refine pt_pick [1] (by kernel_rfl) (es' := [(_,_)]) rfl ?_
   obtain rfl := zi h
   exact pt_ret hio rfl (.tmp _ _ .nil) rfl rfl
  ·rintro u14 hl15 hr16 ⟨s9, s10⟩ rr19 h ho17
   refine ht_seq ?_
   refine zgg hn [_,_,_,(7,.same (.slot 3)),(8,vi (s10.length : Int)),(9,vb (decide ((s10.length : Int) ≤ 4)))] [0,1,2] [0,1,2,5] [zq [2] 3 7,zq [3,2] 4 8,zq [4] 5 9] [(_,_),(_,_),(_,_),(_,_)] rfl ⟨z1 rfl,zp rfl (op_len_fr _ _ _ underlying22 rfl (by decide) (gflat_len T_Mail.ilen _)),z4 rfl rfl,zz⟩ ?_
   refine ht_cond _ rfl (fun hb20 => ?_) (fun hb20 => ?_)
   ·have h := cond_t hb20 h
    refine ht_skip ?_
    refine pt_then ?_
    refine ht_block ?_
    refine ht_seq ?_
    obtain ⟨v2, hv2, h⟩ := zn h
    refine zg hn [_,_,_,_,(11,.fl .ro 1 (map (int .u8) s9)),(12,.tup [.agg [vb v2.1.From.Null,vs v2.1.From.Local,vs v2.1.From.Domain,.fl .ro 3 (flatten (map T_Path.enc v2.1.To)),.fl .ro 1 (map (int .u8) v2.1.Body),vb v2.1.Quiet,vs v2.1.Helo,vi v2.1.At],.fl .ro 1 (map (int .u8) v2.2.1),vb v2.2.2]),(10,.tup [.agg [vb v2.1.From.Null,vs v2.1.From.Local,vs v2.1.From.Domain,.fl .ro 3 (flatten (map T_Path.enc v2.1.To)),.fl .ro 1 (map (int .u8) v2.1.Body),vb v2.1.Quiet,vs v2.1.Helo,vi v2.1.At],.fl .ro 1 (map (int .u8) v2.2.1),vb v2.2.2]),(13,.agg [vb v2.1.From.Null,vs v2.1.From.Local,vs v2.1.From.Domain,.fl .ro 3 (flatten (map T_Path.enc v2.1.To)),.fl .ro 1 (map (int .u8) v2.1.Body),vb v2.1.Quiet,vs v2.1.Helo,vi v2.1.At]),(14,.fl .ro 1 (map (int .u8) v2.2.1)),(15,vb v2.2.2),(4,.box 46 [vb false,vs z0,vs z0,.v (.slice none 0 0),.v (.slice none 0 0),vb false,vs z0,vi 0]),(4,.box 46 [vb v2.1.From.Null,vs v2.1.From.Local,vs v2.1.From.Domain,.fl .ro 3 (flatten (map T_Path.enc v2.1.To)),.fl .ro 1 (map (int .u8) v2.1.Body),vb v2.1.Quiet,vs v2.1.Helo,vi v2.1.At]),(5,.fl .ro 1 (map (int .u8) v2.2.1)),(6,vb v2.2.2)] [0,1,2,3] [1,2,11,12,13] [zq [0] 4 11,zq [4,1] 5 12,⟨[],[5],[6],[(.slot 10)]⟩,zq [6] 7 13,zq [6] 8 14,zq [6] 9 15,zq [] 10 4,⟨[7],[10],[11],[.cell 4 0,.cell 4 1,.cell 4 2,.cell 4 3,.cell 4 4,.cell 4 5,.cell 4 6,.cell 4 7]⟩,zq [8] 12 5,zq [9] 13 6] [(_,_),(_,_),(_,_),(_,_),(_,_)] rfl ⟨z1 rfl,zp rfl (op_callRG _ _ 24 59 _ _ rfl call59 rfl rfl (fun _ h => h) (ok_bundle_parseMail_ro mx s9 _ hv2) rfl rfl),zp rfl (op_move_take _ _ _ _ rfl),zp rfl (op_extract_no _ _ _ _ _ _ rfl rfl (zl rfl) rfl rfl),zp rfl (oE rfl),zp rfl (oE rfl),zp rfl (op_alloc _ _ zr46),zp rfl (oS sz46 rfl),z2 rfl,z2 rfl,zz⟩ ?_
    refine pt_then (ht_seq ?_)
    refine zgg hn [_,_,_,_,_,(16,vb v2.2.2),(17,vb (!v2.2.2))] [0,1,2,3,4] [0,1,2,3,6] [zq [4] 5 16,zq [5] 6 17] [(_,_),(_,_),(_,_),(_,_),(_,_)] rfl ⟨z1 rfl,zp rfl (op_un _ _ _ _ rfl rfl),zz⟩ ?_
    refine ht_cond _ rfl (fun hb21 => ?_) (fun hb21 => ?_)
    ·have h := cond_t hb21 h
     refine ht_exit ?_
     refine pt_x_then ?_
     refine pt_x_out (by decide) ?_
     refine pt_x_then ?_
     refine pt_x_in ?_
     refine pt_pick [0, 1] (by kernel_rfl) (es' := [(_,_),(_,_)]) rfl ?_
     exact hl15 _ (ho17 _ (zi h).symm).symm
    ·have h := cond_f hb21 h
     refine ht_skip ?_
     refine pt_then (ht_seq ?_)
     obtain ⟨v4, hv4, h⟩ := zn h
     refine zg hn [_,_,_,_,_,(18,.fr (.own 46) false 8 (flatten (map T_Mail.ienc s10))),(19,.agg [vb v2.1.From.Null,vs v2.1.From.Local,vs v2.1.From.Domain,.fl .ro 3 (flatten (map T_Path.enc v2.1.To)),.fl .ro 1 (map (int .u8) v2.1.Body),vb v2.1.Quiet,vs v2.1.Helo,vi v2.1.At]),(20,.fr (.own 46) false 8 (flatten (map T_Mail.ienc [(T_Mail.mk (T_Path.mk v2.1.From.Null v2.1.From.Local v2.1.From.Domain) v2.1.To v2.1.Body v2.1.Quiet v2.1.Helo v2.1.At)]))),(21,.fr (.own 46) false 8 (flatten (map T_Mail.ienc v4))),(18,.any),(3,.fr (.own 46) false 8 (flatten (map T_Mail.ienc v4)))] [0,1,2,3,4] [0,3,10] [⟨[],[1],[5],[(.slot 18)]⟩,zq [2] 6 19,zq [6] 7 20,⟨[7],[5],[9,8],[(.slot 21)]⟩,⟨[],[8],[10],[(.slot 3)]⟩] [(_,_),(_,_),(_,_)] rfl ⟨zp rfl (op_move_take _ _ _ _ rfl),zp rfl (op_loadA _ _ _ _ _ _ _ underlying46 rfl sz46 rfl rfl (zl rfl) rfl rfl),zp rfl (op_build1_fr _ _ _ 8 (.agg #[.bool false, .string ByteArray.empty, .string ByteArray.empty, .slice none 0 0, .slice none 0 0, .bool false, .string ByteArray.empty, .int .i64 0]) false _ _ underlying22 sz46 zr46 rfl rfl (.cons (.v _) (.cons (.v _) (.cons (.v _) (.cons (.ro _ _ rfl) (.cons (.ro _ _ rfl) (.cons (.v _) (.cons (.v _) (.cons (.v _) (.nil))))))))) rfl (by decide) (by decide)),zp rfl (op_app_fr _ _ _ _ _ el22 rfl rfl (gflat_len T_Mail.ilen _) (gflat_len T_Mail.ilen _) hv4 (gflat_app (app_eq hv4)) (by decide) (by decide)),zp rfl (op_assign_take _ _ _ _ rfl),zz⟩ ?_
     refine pt_then ?_
     refine zg hn [_,_,_,(22,.fl .ro 1 (map (int .u8) v2.2.1)),(0,.fl .ro 1 (map (int .u8) v2.2.1))] [0,1,2] [0,2,4] [zq [1] 3 22,zq [3] 4 0] [(_,_),(_,_),(_,_)] rfl ⟨z1 rfl,z2 rfl,zz⟩ ?_
     refine pt_inb ?_
     refine pt_pick [2, 0, 1] (by kernel_rfl) (es' := [(_,_),(_,_),(_,_)]) rfl ?_
     exact pt_next _ (zi h).symm rfl
   ·have h := cond_f hb20 h
    refine ht_exit ?_
    refine pt_x_then ?_
    refine pt_x_then ?_
    refine pt_x_in ?_
    refine pt_pick [1, 2] (by kernel_rfl) (es' := [(_,_),(_,_)]) rfl ?_
    exact hl15 _ (ho17 _ (zi h).symm).symm
theorem ok_bundle_Read_ro (mx : Int) (t : (List Int)) (r : (T_Bundle × Int)) (h : Sh.bundle_Read_ro t = some r) : FnG Tryz.prog (GL mx) 15 [.fl .ro 1 (map (int .u8) t)] (.tup [.agg [.v (.int .i64 r.1.Origin), .v (.int .i64 r.1.Number), .fr (.own 46) false 8 (flatten (map T_Mail.ienc r.1.Mails))], .v (.int .i64 r.2)]) := by
  unfold Sh.bundle_Read_ro at h
  refine fn_okG func15 rfl (zl rfl) rfl rfl fun g0 hn hio => ?_
  refine zgg hn [_,_,(2,.box 24 [vi 0,vi 0,.v (.slice none 0 0)]),(3,vi 0)] [0,1] [0,1,2] [zq [] 2 2,zq [] 3 3] [(_,_),(_,_),(_,_)] rfl ⟨zp rfl (op_alloc _ _ zr24),z2 rfl,zz⟩ ?_
  refine ht_seq ?_
  obtain ⟨v1, hv1, h⟩ := zn h
  refine zg hn [_,_,_,(13,.fl .ro 1 (map (int .u8) t)),(14,.fl (.own 5) 1 (map (int .u8) [13,10])),(15,.fl .ro 1 (map (int .u8) [13,10])),(16,.tup [.fl .ro 1 (map (int .u8) v1.1),.fl .ro 1 (map (int .u8) v1.2.1),vb v1.2.2]),(12,.tup [.fl .ro 1 (map (int .u8) v1.1),.fl .ro 1 (map (int .u8) v1.2.1),vb v1.2.2]),(17,.fl .ro 1 (map (int .u8) v1.1)),(18,.fl .ro 1 (map (int .u8) v1.2.1)),(19,vb v1.2.2),(4,.fl .ro 1 (map (int .u8) v1.1)),(5,.fl .ro 1 (map (int .u8) v1.2.1)),(6,vb v1.2.2)] [0,1,2] [0,1,2,11,12,13] [zq [0] 3 13,zq [] 4 14,⟨[],[4],[5],[(.slot 15)]⟩,zq [3,5,1] 6 16,⟨[],[6],[7],[(.slot 12)]⟩,zq [7] 8 17,zq [7] 9 18,zq [7] 10 19,zq [8] 11 4,zq [9] 12 5,zq [10] 13 6] [(_,_),(_,_),(_,_),(_,_),(_,_),(_,_)] rfl ⟨z1 rfl,zp rfl (op_buildSlice _ _ 1 (.int .u8 0) (map (int .u8) [13, 10]) [(0, .int .u8 13), (1, .int .u8 10)] underlying25 sz5 zr5 (fun _ V w o a hv hes => by simp only [List.map_toArray, List.map_cons, List.map_nil]; try rfl) (litfill (by simp [Instr.fill, Value.cells]; rfl) (by simp [List.range, List.range.loop] <;> rfl)) (by simp [Value.oneCell']) rfl (by decide) (by decide) (by decide)),zp rfl (op_conv_mark _ _ _ underlying25 underlying5 (by intro h; cases h)),zp rfl (op_callRG _ _ 68 34 _ _ rfl call34 rfl rfl (fun _ h => h) (ok_bytes_Cut_ro mx t [13, 10] _ hv1) rfl rfl),zp rfl (op_move_take _ _ _ _ rfl),zp rfl (oE rfl),zp rfl (oE rfl),zp rfl (oE rfl),z2 rfl,z2 rfl,z2 rfl,zz⟩ ?_
  refine pt_then (ht_seq ?_)
  obtain ⟨v2, hv2, h⟩ := zn h
  obtain ⟨v3, hv3, h⟩ := zn h
  refine zg hn (_::_::_::_::_::_::(21,.fl .ro 1 (map (int .u8) v1.1))::(22,vs v2)::(23,.tup [.agg [vi v3.1.origin,vi v3.1.number,vi v3.1.size,vi v3.1.sum],vb v3.2])::(20,.tup [.agg [vi v3.1.origin,vi v3.1.number,vi v3.1.size,vi v3.1.sum],vb v3.2])::(24,.agg [vi v3.1.origin,vi v3.1.number,vi v3.1.size,vi v3.1.sum])::(25,vb v3.2)::(7,.box 66 [vi 0,vi 0,vi 0,vi 0])::(7,.box 66 [vi v3.1.origin,vi v3.1.number,vi v3.1.size,vi v3.1.sum])::(8,vb v3.2)::[]) [0,1,2,3,4,5] [0,1,2,4,5,13,14] [zq [3] 6 21,zq [6] 7 22,zq [7] 8 23,⟨[],[8],[9],[(.slot 20)]⟩,zq [9] 10 24,zq [9] 11 25,zq [] 12 7,⟨[10],[12],[13],[.cell 7 0,.cell 7 1,.cell 7 2,.cell 7 3]⟩,zq [11] 14 8] [(_,_),(_,_),(_,_),(_,_),(_,_),(_,_),(_,_)] rfl ⟨z1 rfl,zp rfl ((Option.some.inj hv2) ▸ op_bytes_str _ _ _ v1.1 underlying25 underlying9 underlying5 rfl),zp rfl (op_call _ _ 35 _ _ rfl call35 rfl (ok_bundle_parseHeader v2 _ hv3) rfl rfl),zp rfl (op_move_take _ _ _ _ rfl),zp rfl (op_extract_no _ _ _ _ _ _ rfl rfl (zl rfl) rfl rfl),zp rfl (oE rfl),zp rfl (op_alloc _ _ zr66),zp rfl (oS sz66 rfl),z2 rfl,zz⟩ ?_
  refine pt_then (ht_seq ?_)
  refine ht_seq ?_
  refine ht_joinS h (fun (s4 : Bool) => [(0, .fl .ro 1 (map (int .u8) t)), (68, .glob (GL mx)), (2, .box 24 [.v (.int .i64 0), .v (.int .i64 0), .v (.slice none 0 0)]), (5, .fl .ro 1 (map (int .u8) v1.2.1)), (7, .box 66 [.v (.int .i64 v3.1.origin), .v (.int .i64 v3.1.number), .v (.int .i64 v3.1.size), .v (.int .i64 v3.1.sum)]), (38, .v (.bool s4))]) ?_ ?_
  ·rintro s4 h
   refine pt_then ?_
   refine ht_cond _ rfl (fun hb8 => ?_) (fun hb8 => ?_)
   ·have h := cond_t hb8 h
    refine zgg hn [_,_,_,_,_,_,(39,.agg [vi 0,vi 0,.v (.slice none 0 0)]),(2,.box 24 [vi 0,vi 0,.v (.slice none 0 0)]),(3,vi 5)] [0,1,2,3,4,5] [1,7,8] [zq [] 6 39,⟨[],[6,2],[7],[.cell 2 0,.cell 2 1,.cell 2 2]⟩,zq [] 8 3] [(_,_),(_,_),(_,_)] rfl ⟨zp rfl (op_build _ _ _ _ [1, 1, 1] _ _ underlying24 zr24 (fs24 _ underlying24) Src.nil rfl rfl rfl),zp rfl (op_store_self _ _ _ 39 2 3 sz24 rfl rfl rfl rfl rfl (.eq _ (.eq _ (.eq _ (.nil _)))) rfl),z2 rfl,zz⟩ ?_
    refine ht_ret ?_
    refine pt_pick [1, 2] (by kernel_rfl) (es' := [(_,_),(_,_)]) rfl ?_
    refine pt_sub (fs := [(2, .box 24 [.v (.int .i64 0), .v (.int .i64 0), .fr (.own 46) false 8 (flatten (map T_Mail.ienc []))]), (3, .v (.int .i64 5))]) (.box _ _ (subs_cons (sub_refl _) (subs_cons (sub_refl _) (subs_cons (sub_nil_fr 46 false 8) (subs_nil)))) rfl (.same _ .nil)) ?_
    refine pt_r_then ?_
    obtain rfl := zi h
    exact pt_ret hio rfl (.cellA _ _ _ _ underlying24 rfl sz24 (.tmp _ _ .nil)) rfl rfl
   ·have h := cond_f hb8 h
    refine ht_skip ?_
    refine pt_then (ht_seq ?_)
    refine ht_seq ?_
    obtain ⟨v9, hv9, h⟩ := zn h
    refine ht_anyR (by kernel_rfl) hn (El := [_, _, _, _, _, _, (40, .fl .ro 1 (map (int .u8) v1.2.1)), (41, .v (.int .i64 v9)), (42, .ptr 7 3), (43, .v (.int .i64 v3.1.sum)), (44, .v (.bool (v9 != v3.1.sum)))]) (init := [0, 1, 2, 3, 4, 5]) (fin := [0, 1, 2, 3, 4, 10]) (sps := [zq [3] 6 40, zq [6] 7 41, zq [4] 8 42, zq [8,4] 9 43, zq [7,9] 10 44]) (es' := [(_,_),(_,_),(_,_),(_,_),(_,_),(44, .v (.bool (v9 != v3.1.sum)))]) (by kernel_rfl) rfl rfl ⟨z1 rfl,zp rfl (op_call _ _ 31 _ _ rfl call31 rfl (ok_sums_Long v1.2.1 _ hv9) rfl rfl),zp rfl (oF underlying66 rfl sz3),zp rfl (oL underlying3 rfl),z4 rfl rfl,zz⟩ ?_
    refine pt_then ?_
    refine ht_cond _ rfl (fun hb10 => ?_) (fun hb10 => ?_)
    ·have h := cond_t hb10 h
     refine zgg hn [_,_,_,_,_,_,(45,.agg [vi 0,vi 0,.v (.slice none 0 0)]),(2,.box 24 [vi 0,vi 0,.v (.slice none 0 0)]),(3,vi 6)] [0,1,2,3,4,5] [1,7,8] [zq [] 6 45,⟨[],[6,2],[7],[.cell 2 0,.cell 2 1,.cell 2 2]⟩,zq [] 8 3] [(_,_),(_,_),(_,_)] rfl ⟨zp rfl (op_build _ _ _ _ [1, 1, 1] _ _ underlying24 zr24 (fs24 _ underlying24) Src.nil rfl rfl rfl),zp rfl (op_store_self _ _ _ 45 2 3 sz24 rfl rfl rfl rfl rfl (.eq _ (.eq _ (.eq _ (.nil _)))) rfl),z2 rfl,zz⟩ ?_
     refine ht_ret ?_
     refine pt_pick [1, 2] (by kernel_rfl) (es' := [(_,_),(_,_)]) rfl ?_
     refine pt_sub (fs := [(2, .box 24 [.v (.int .i64 0), .v (.int .i64 0), .fr (.own 46) false 8 (flatten (map T_Mail.ienc []))]), (3, .v (.int .i64 6))]) (.box _ _ (subs_cons (sub_refl _) (subs_cons (sub_refl _) (subs_cons (sub_nil_fr 46 false 8) (subs_nil)))) rfl (.same _ .nil)) ?_
     refine pt_r_then ?_
     obtain rfl := zi h
     exact pt_ret hio rfl (.cellA _ _ _ _ underlying24 rfl sz24 (.tmp _ _ .nil)) rfl rfl
    ·have h := cond_f hb10 h
     refine ht_skip ?_
     refine pt_then (ht_seq ?_)
     obtain ⟨v11, hv11, h⟩ := zn h
     refine ht_anyR (by kernel_rfl) hn (El := (_ :: _ :: _ :: _ :: _ :: _ :: (46, .ptr 7 0) :: (47, .v (.int .i64 v3.1.origin)) :: (48, .ptr 7 1) :: (49, .v (.int .i64 v3.1.number)) :: (50, .fl .ro 1 (map (int .u8) v1.2.1)) :: (51, .fr (.own 46) false 8 (flatten (map T_Mail.ienc v11))) :: (52, .agg [.v (.int .i64 v3.1.origin), .v (.int .i64 v3.1.number), .fr (.own 46) false 8 (flatten (map T_Mail.ienc v11))]) :: (9, .box 24 [.v (.int .i64 0), .v (.int .i64 0), .v (.slice none 0 0)]) :: (9, .box 24 [.v (.int .i64 v3.1.origin), .v (.int .i64 v3.1.number), .fr (.own 46) false 8 (flatten (map T_Mail.ienc v11))]) :: [])) (init := [0, 1, 2, 3, 4, 5]) (fin := [0, 1, 2, 14]) (sps := [zq [4] 6 46, zq [6,4] 7 47, zq [4] 8 48, zq [8,4] 9 49, zq [3] 10 50, zq [10,1] 11 51, ⟨[7, 9], [11], [12], [(.slot 52)]⟩, zq [] 13 9, ⟨[], [12, 13], [14], [.cell 9 0, .cell 9 1, .cell 9 2]⟩]) (es' := [(_,_),(_,_),(_,_),(9, .box 24 [.v (.int .i64 v3.1.origin), .v (.int .i64 v3.1.number), .fr (.own 46) false 8 (flatten (map T_Mail.ienc v11))])]) (by kernel_rfl) rfl rfl ⟨zp rfl (oF underlying66 rfl sz3),zp rfl (oL underlying3 rfl),zp rfl (oF underlying66 rfl sz3),zp rfl (oL underlying3 rfl),z1 rfl,zp rfl (op_callRG _ _ 68 36 _ _ rfl call36 rfl rfl (fun _ h => h) (ok_bundle_parseMails_ro mx v1.2.1 _ hv11) rfl rfl),zp rfl (op_build _ _ _ _ [1, 1, 1] _ _ underlying24 zr24 (fs24 _ underlying24) (.copy _ (.copy _ (.take _ _ Src.nil))) rfl rfl rfl),zp rfl (op_alloc _ _ zr24),zp rfl (op_store_take _ _ _ _ _ _ _ _ sz24 rfl rfl rfl (zl rfl) rfl rfl),zz⟩ ?_
     refine pt_then (ht_seq ?_)
     obtain ⟨v12, hv12, h⟩ := zn h
     refine zg hn [_,_,_,_,(54,.agg [vi v3.1.origin,vi v3.1.number,.same (.cell 9 2)]),(55,.tup [.mkr 5 (map (int .u8) v12.1),vi v12.2]),(53,.tup [.mkr 5 (map (int .u8) v12.1),vi v12.2]),(56,.mkr 5 (map (int .u8) v12.1)),(53,.tup [.any,vi v12.2]),(57,vi v12.2),(10,.mkr 5 (map (int .u8) v12.1)),(11,vi v12.2)] [0,1,2,3] [0,1,2,3,10,11] [zq [3] 4 54,zq [4,3,1] 5 55,⟨[],[5],[6],[(.slot 53)]⟩,⟨[],[6],[8,7],[(.slot 56)]⟩,zq [8] 9 57,⟨[],[7],[10],[(.slot 10)]⟩,zq [9] 11 11] [(_,_),(_,_),(_,_),(_,_),(_,_),(_,_)] rfl ⟨zp rfl (op_loadA _ _ _ _ _ _ _ underlying24 rfl sz24 rfl rfl (zl rfl) rfl rfl),zp rfl (op_callG _ _ 68 13 _ _ rfl call13 rfl rfl (fun _ h => h) (ok_bundle_Bytes mx (T_Bundle.mk v3.1.origin v3.1.number v11) _ hv12) rfl rfl),zp rfl (op_move_take _ _ _ _ rfl),zp rfl (op_extract_take _ _ _ _ _ rfl (zl rfl) rfl rfl (by decide) rfl),zp rfl (oE rfl),zp rfl (op_assign_take _ _ _ _ rfl),z2 rfl,zz⟩ ?_
     refine pt_then (ht_seq ?_)
     refine ht_seq ?_
     refine ht_joinS h (fun (s14 : Bool) => [(68, .glob (GL mx)), (2, .box 24 [.v (.int .i64 0), .v (.int .i64 0), .v (.slice none 0 0)]), (9, .box 24 [.v (.int .i64 v3.1.origin), .v (.int .i64 v3.1.number), .fr (.own 46) false 8 (flatten (map T_Mail.ienc v11))]), (65, .v (.bool s14))]) ?_ ?_
     ·rintro s14 h
      refine pt_then ?_
      refine ht_cond _ rfl (fun hb18 => ?_) (fun hb18 => ?_)
      ·have h := cond_t hb18 h
       refine zgg hn [_,_,_,_,(66,.agg [vi 0,vi 0,.v (.slice none 0 0)]),(2,.box 24 [vi 0,vi 0,.v (.slice none 0 0)]),(3,vi 5)] [0,1,2,3] [0,5,6] [zq [] 4 66,⟨[],[4,1],[5],[.cell 2 0,.cell 2 1,.cell 2 2]⟩,zq [] 6 3] [(_,_),(_,_),(_,_)] rfl ⟨zp rfl (op_build _ _ _ _ [1, 1, 1] _ _ underlying24 zr24 (fs24 _ underlying24) Src.nil rfl rfl rfl),zp rfl (op_store_self _ _ _ 66 2 3 sz24 rfl rfl rfl rfl rfl (.eq _ (.eq _ (.eq _ (.nil _)))) rfl),z2 rfl,zz⟩ ?_
       refine ht_ret ?_
       refine pt_pick [1, 2] (by kernel_rfl) (es' := [(_,_),(_,_)]) rfl ?_
       refine pt_sub (fs := [(2, .box 24 [.v (.int .i64 0), .v (.int .i64 0), .fr (.own 46) false 8 (flatten (map T_Mail.ienc []))]), (3, .v (.int .i64 5))]) (.box _ _ (subs_cons (sub_refl _) (subs_cons (sub_refl _) (subs_cons (sub_nil_fr 46 false 8) (subs_nil)))) rfl (.same _ .nil)) ?_
       refine pt_r_then ?_
       obtain rfl := zi h
       exact pt_ret hio rfl (.cellA _ _ _ _ underlying24 rfl sz24 (.tmp _ _ .nil)) rfl rfl
      ·have h := cond_f hb18 h
       refine ht_skip ?_
       refine pt_then ?_
       refine zgg hn [_,_,_,_,(67,.agg [vi v3.1.origin,vi v3.1.number,.fr (.own 46) false 8 (flatten (map T_Mail.ienc v11))]),(2,.box 24 [vi v3.1.origin,vi v3.1.number,.fr (.own 46) false 8 (flatten (map T_Mail.ienc v11))]),(3,vi 0)] [0,1,2,3] [0,5,6] [⟨[],[2],[4],[(.slot 67)]⟩,⟨[],[4,1],[5],[.cell 2 0,.cell 2 1,.cell 2 2]⟩,zq [] 6 3] [(_,_),(_,_),(_,_)] rfl ⟨zp rfl (op_loadA_take _ _ _ _ underlying24 rfl sz24 rfl rfl),zp rfl (op_store_take _ _ _ _ _ _ _ _ sz24 rfl rfl rfl (zl rfl) rfl rfl),z2 rfl,zz⟩ ?_
       refine ht_ret ?_
       refine pt_pick [1, 2] (by kernel_rfl) (es' := [(_,_),(_,_)]) rfl ?_
       obtain rfl := zi h
       exact pt_ret hio rfl (.cellA _ _ _ _ underlying24 rfl sz24 (.tmp _ _ .nil)) rfl rfl
     ·intro u15 h hl16 hr17
      refine cond_some h (fun hg9_2 h => ?_) (fun hg9_2 h => ?_)
      ·refine zg hn [_,_,_,_,_,_,(58,vi v12.2),(59,vb (v12.2 != 0)),(60,vb true),(61,.v undef),(62,.v undef),(63,.v undef),(64,.v undef),(65,vb true)] [0,1,2,3,4,5] [1,2,3,13] [zq [5] 6 58,zq [6] 7 59,zq [7] 8 60,zq [8] 9 61,zq [8] 10 62,zq [8] 11 63,zq [8] 12 64,zq [8] 13 65] [(_,_),(_,_),(_,_),(_,_)] rfl ⟨z1 rfl,z4 rfl rfl,z8 hg9_2 rfl,zf rfl,zf rfl,zf rfl,zf rfl,z3 true rfl,zz⟩ ?_
       exact hl16 _ (zi h).symm
      ·obtain ⟨v13, hv13, h⟩ := zn h
       refine zg hn [_,_,_,_,_,_,(58,vi v12.2),(59,vb (v12.2 != 0)),(60,vb false),(61,.mkr 5 (map (int .u8) v12.1)),(62,.fl .ro 1 (map (int .u8) t)),(63,vb v13),(64,vb (!v13)),(65,vb (!v13))] [0,1,2,3,4,5] [1,2,3,13] [zq [5] 6 58,zq [6] 7 59,zq [7] 8 60,⟨[8],[4],[9],[(.slot 61)]⟩,zq [8,0] 10 62,zq [8,9,10] 11 63,zq [8,11] 12 64,zq [8,12] 13 65] [(_,_),(_,_),(_,_),(_,_)] rfl ⟨z1 rfl,z4 rfl rfl,z8 hg9_2 rfl,zr' rfl (op_move_take _ _ _ _ rfl),zr' rfl (oM rfl),zr' rfl (op_call _ _ 37 _ _ rfl call37 rfl (ok_bytes_Equal v12.1 t _ hv13) rfl rfl),zr' rfl (op_un _ _ _ _ rfl rfl),z3 false rfl,zz⟩ ?_
       exact hl16 _ (zi h).symm
  ·intro u5 h hl6 hr7
   refine cond_some h (fun hg3_2 h => ?_) (fun hg3_2 h => ?_)
   ·refine zg hn (_::_::_::_::_::_::_::(26,vb v1.2.2)::(27,vb (!v1.2.2))::(28,vb true)::(29,.v undef)::(30,.v undef)::(31,vb true)::(32,vb true)::(33,.v undef)::(34,.v undef)::(35,.v undef)::(36,.v undef)::(37,.v undef)::(38,vb true)::[]) [0,1,2,3,4,5,6] [0,1,2,3,5,19] [zq [4] 7 26,zq [7] 8 27,zq [8] 9 28,zq [9] 10 29,zq [9] 11 30,zq [9] 12 31,zq [12] 13 32,zq [13] 14 33,zq [13] 15 34,zq [13] 16 35,zq [13] 17 36,zq [13] 18 37,zq [13] 19 38] [(_,_),(_,_),(_,_),(_,_),(_,_),(_,_)] rfl ⟨z1 rfl,zp rfl (op_un _ _ _ _ rfl rfl),z8 hg3_2 rfl,zf rfl,zf rfl,z3 true rfl,z1 rfl,zf rfl,zf rfl,zf rfl,zf rfl,zf rfl,z3 true rfl,zz⟩ ?_
    exact hl6 _ (zi h).symm
   ·refine cond_some h (fun hg3_6 h => ?_) (fun hg3_6 h => ?_)
    ·refine zg hn (_::_::_::_::_::_::_::(26,vb v1.2.2)::(27,vb (!v1.2.2))::(28,vb false)::(29,vb v3.2)::(30,vb (!v3.2))::(31,vb (!v3.2))::(32,vb true)::(33,.v undef)::(34,.v undef)::(35,.v undef)::(36,.v undef)::(37,.v undef)::(38,vb true)::[]) [0,1,2,3,4,5,6] [0,1,2,3,5,19] [zq [4] 7 26,zq [7] 8 27,zq [8] 9 28,zq [9,6] 10 29,zq [9,10] 11 30,zq [9,11] 12 31,zq [12] 13 32,zq [13] 14 33,zq [13] 15 34,zq [13] 16 35,zq [13] 17 36,zq [13] 18 37,zq [13] 19 38] [(_,_),(_,_),(_,_),(_,_),(_,_),(_,_)] rfl ⟨z1 rfl,zp rfl (op_un _ _ _ _ rfl rfl),z8 hg3_2 rfl,zr' rfl (oM rfl),zr' rfl (op_un _ _ _ _ rfl rfl),z3 false rfl,z8 hg3_6 rfl,zf rfl,zf rfl,zf rfl,zf rfl,zf rfl,z3 true rfl,zz⟩ ?_
     exact hl6 _ (zi h).symm
    ·refine zg hn (_::_::_::_::_::_::_::(26,vb v1.2.2)::(27,vb (!v1.2.2))::(28,vb false)::(29,vb v3.2)::(30,vb (!v3.2))::(31,vb (!v3.2))::(32,vb false)::(33,.fl .ro 1 (map (int .u8) v1.2.1))::(34,vi (v1.2.1.length : Int))::(35,.ptr 7 2)::(36,vi v3.1.size)::(37,vb ((v1.2.1.length : Int) != v3.1.size))::(38,vb ((v1.2.1.length : Int) != v3.1.size))::[]) [0,1,2,3,4,5,6] [0,1,2,3,5,19] [zq [4] 7 26,zq [7] 8 27,zq [8] 9 28,zq [9,6] 10 29,zq [9,10] 11 30,zq [9,11] 12 31,zq [12] 13 32,zq [13,3] 14 33,zq [13,14] 15 34,zq [13,5] 16 35,zq [13,16,5] 17 36,zq [13,15,17] 18 37,zq [13,18] 19 38] [(_,_),(_,_),(_,_),(_,_),(_,_),(_,_)] rfl ⟨z1 rfl,zp rfl (op_un _ _ _ _ rfl rfl),z8 hg3_2 rfl,zr' rfl (oM rfl),zr' rfl (op_un _ _ _ _ rfl rfl),z3 false rfl,z8 hg3_6 rfl,zr' rfl (oM rfl),zr' rfl (op_len_fl _ _ _ underlying25 rfl (by decide) (map_len _)),zr' rfl (oF underlying66 rfl sz3),zr' rfl (oL underlying3 rfl),zr' rfl (oB rfl rfl),z3 false rfl,zz⟩ ?_
     exact hl6 _ (zi h).symm
theorem ok_bundle_Pack (mx : Int) (l : (List T_Mail)) (origin : Int) (number : Int) (r : (Int × Int)) (h : Sh.bundle_Pack l origin number = some r) : FnG Tryz.prog (GL mx) 17 [.fr .shr true 8 (flatten (map T_Mail.ienc l)), .v (.int .i64 origin), .v (.int .i64 number)] (.tup [.v (.int .i64 r.1), .v (.int .i64 r.2)]) := by
  unfold Sh.bundle_Pack at h
  refine fn_okG func17 rfl (zl rfl) rfl rfl fun g0 hn hio => ?_
  refine zgg hn [_,_,_,_,(6,vi 0),(7,vi 0)] [0,1,2,3] [0,1,2,3] [zq [] 4 6,zq [] 5 7] [(_,_),(_,_),(_,_),(_,_)] rfl ⟨z2 rfl,z2 rfl,zz⟩ ?_
  refine zgg hn [_,_,_,_,(8,.v (.slice none 0 0))] [0,1,2,3] [0,1,2,3,4] [zq [] 4 8] [(_,_),(_,_),(_,_),(_,_),(_,_)] rfl ⟨z2 rfl,zz⟩ ?_
  refine ht_seq ?_
  refine ht_seq ?_
  obtain ⟨v1, hv1, h⟩ := zn h
  obtain ⟨v2, hv2, h⟩ := zn h
  refine zg hn [_,_,_,_,_,(14,.fr .shr true 8 (flatten (map T_Mail.ienc l))),(15,.fr .shr true 8 (flatten (map T_Mail.ienc l))),(16,vi (l.length : Int)),(17,vi v1),(18,.fr .shr true 8 (flatten (map T_Mail.ienc v2))),(19,vi (v2.length : Int)),(20,vi 0)] [0,1,2,3,4] [1,2,3,4,9,10,11] [zq [0] 5 14,zq [0] 6 15,zq [6] 7 16,zq [7] 8 17,zq [5,8] 9 18,zq [9] 10 19,zq [] 11 20] [(_,_),(_,_),(_,_),(_,_),(_,_),(_,_),(_,_)] rfl ⟨z1 rfl,z1 rfl,zp rfl (op_len_fr _ _ _ underlying22 rfl (by decide) (gflat_len T_Mail.ilen _)),zp rfl ((Option.some.inj hv1) ▸ op_min _ _ _ _ rfl rfl),zp rfl (op_slice_fr _ _ (Int.toNat 0) (Int.toNat v1) _ underlying22 sz46 (by decide) rfl rfl rfl ⟨_, congrArg (fun j => AV.v (int .i64 j)) (sli_bd hv2).2.1⟩ (sli_bd hv2).2.2.1 (by rw [gflat_len T_Mail.ilen]; exact Nat.mul_le_mul_right _ (sli_bd hv2).2.2.2) (gflat_sli T_Mail.ilen hv2)),zp rfl (op_len_fr _ _ _ underlying22 rfl (by decide) (gflat_len T_Mail.ilen _)),z1 rfl,zz⟩ ?_
  refine pt_then ?_
  refine ht_sub (fs := [(1, .v (.int .i64 origin)), (2, .v (.int .i64 number)), (51, .glob (GL mx)), (8, .fr (.own 46) true 8 (flatten (map T_Mail.ienc []))), (18, .fr .shr true 8 (flatten (map T_Mail.ienc v2))), (19, .v (.int .i64 (v2.length : Int))), (20, .v (.int .i64 0))]) (.same _ (.same _ (.same _ (.sub _ (sub_nil_fr 46 true 8) rfl (.same _ (.same _ (.same _ .nil))))))) ?_
  refine ht_loopS h (fun ((s11, s12) : (List T_Mail) × Int) => [(1, .v (.int .i64 origin)), (2, .v (.int .i64 number)), (51, .glob (GL mx)), (8, .fr (.own 46) true 8 (flatten (map T_Mail.ienc s11))), (18, .fr .shr true 8 (flatten (map T_Mail.ienc v2))), (19, .v (.int .i64 (v2.length : Int))), (20, .v (.int .i64 s12))]) (fun (s14 : (List T_Mail)) => [(1, .v (.int .i64 origin)), (2, .v (.int .i64 number)), (51, .glob (GL mx)), (8, .fr (.own 46) true 8 (flatten (map T_Mail.ienc s14)))]) ?_ ?_
  ·rintro s14 h
   refine pt_then (ht_seq ?_)
   refine zgg hn [_,_,_,_,(32,.same (.slot 8)),(33,vi (s14.length : Int)),(11,vi (s14.length : Int))] [0,1,2,3] [0,1,2,3,6] [zq [3] 4 32,zq [4,3] 5 33,zq [5] 6 11] [(_,_),(_,_),(_,_),(_,_),(_,_)] rfl ⟨z1 rfl,zp rfl (op_len_fr _ _ _ underlying22 rfl (by decide) (gflat_len T_Mail.ilen _)),z2 rfl,zz⟩ ?_
   refine ht_frz 3 hio (es' := [(1, .v (.int .i64 origin)), (2, .v (.int .i64 number)), (51, .glob (GL mx)), (8, .fr .ro true 8 (flatten (map T_Mail.ienc s14))), (11, .v (.int .i64 (s14.length : Int)))]) rfl ?_
   refine ht_loopS h (fun ((s31, s32) : (List T_Mail) × Int) => [(1, .v (.int .i64 origin)), (2, .v (.int .i64 number)), (51, .glob (GL mx)), (8, .fr .ro true 8 (flatten (map T_Mail.ienc s31))), (11, .v (.int .i64 s32))]) (fun (() : Unit) => [(51, .glob (GL mx))]) ?_ ?_
   ·rintro ⟨⟩ h
    refine pt_then ?_
    refine zgg hn [_,(6,vi 0),(7,vi 9)] [0] [0,1,2] [zq [] 1 6,zq [] 2 7] [(_,_),(_,_),(_,_)] rfl ⟨z2 rfl,z2 rfl,zz⟩ ?_
    refine ht_ret ?_
    refine pt_pick [1, 2] (by kernel_rfl) (es' := [(_,_),(_,_)]) rfl ?_
    obtain rfl := zi h
    exact pt_ret hio rfl (.tmp _ _ (.tmp _ _ .nil)) rfl rfl
   ·rintro u35 hl36 hr37 ⟨s31, s32⟩ rr40 h ho38
    refine ht_seq ?_
    refine zgg hn [_,_,_,_,_,(34,vi s32),(35,vb (decide (0 < s32)))] [0,1,2,3,4] [0,1,2,3,4,6] [zq [4] 5 34,zq [5] 6 35] [(_,_),(_,_),(_,_),(_,_),(_,_),(_,_)] rfl ⟨z1 rfl,z4 rfl rfl,zz⟩ ?_
    refine ht_cond _ rfl (fun hb41 => ?_) (fun hb41 => ?_)
    ·have h := cond_t hb41 h
     refine ht_skip ?_
     refine pt_then (ht_seq ?_)
     refine ht_block ?_
     refine ht_seq ?_
     obtain ⟨v23, hv23, h⟩ := zn h
     obtain ⟨v24, hv24, h⟩ := zn h
     refine zg hn (_::_::_::_::_::_::(39,vi origin)::(40,vi number)::(41,.fr .ro true 8 (flatten (map T_Mail.ienc s31)))::(42,vi s32)::(43,.fr .ro true 8 (flatten (map T_Mail.ienc v23)))::(44,.agg [vi origin,vi number,.fr .ro true 8 (flatten (map T_Mail.ienc v23))])::(45,.tup [.mkr 5 (map (int .u8) v24.1),vi v24.2])::(38,.tup [.mkr 5 (map (int .u8) v24.1),vi v24.2])::(46,.mkr 5 (map (int .u8) v24.1))::(38,.tup [.any,vi v24.2])::(47,vi v24.2)::(12,.mkr 5 (map (int .u8) v24.1))::(13,vi v24.2)::[]) [0,1,2,3,4,5] [0,1,2,3,4,18] [zq [0] 6 39,zq [1] 7 40,zq [3] 8 41,zq [4] 9 42,zq [8,9] 10 43,zq [6,7,10] 11 44,zq [11,2] 12 45,⟨[],[12],[13],[(.slot 38)]⟩,⟨[],[13],[15,14],[(.slot 46)]⟩,zq [15] 16 47,⟨[],[14],[17],[(.slot 12)]⟩,zq [16] 18 13] [(_,_),(_,_),(_,_),(_,_),(_,_),(_,_)] rfl ⟨z1 rfl,z1 rfl,z1 rfl,z1 rfl,zp rfl (op_slice_fr _ _ (Int.toNat 0) (Int.toNat s32) _ underlying22 sz46 (by decide) rfl rfl rfl ⟨_, congrArg (fun j => AV.v (int .i64 j)) (sli_bd hv23).2.1⟩ (sli_bd hv23).2.2.1 (by rw [gflat_len T_Mail.ilen]; exact Nat.mul_le_mul_right _ (sli_bd hv23).2.2.2) (gflat_sli T_Mail.ilen hv23)),zp rfl (op_build _ _ _ _ [1, 1, 1] _ _ underlying24 zr24 (fs24 _ underlying24) (.copy _ (.copy _ (.copy _ Src.nil))) rfl rfl rfl),zp rfl (op_callG _ _ 51 13 _ _ rfl call13 rfl rfl (fun _ h => h) (ok_bundle_Bytes mx (T_Bundle.mk origin number v23) _ hv24) rfl rfl),zp rfl (op_move_take _ _ _ _ rfl),zp rfl (op_extract_take _ _ _ _ _ rfl (zl rfl) rfl rfl (by decide) rfl),zp rfl (oE rfl),zp rfl (op_assign_take _ _ _ _ rfl),z2 rfl,zz⟩ ?_
     refine pt_then ?_
     refine zgg hn [_,_,_,_,_,_,(48,vi v24.2),(49,vb (v24.2 == 0))] [0,1,2,3,4,5] [0,1,2,3,4,7] [zq [5] 6 48,zq [6] 7 49] [(_,_),(_,_),(_,_),(_,_),(_,_),(_,_)] rfl ⟨z1 rfl,z4 rfl rfl,zz⟩ ?_
     refine ht_cond _ rfl (fun hb42 => ?_) (fun hb42 => ?_)
     ·have h := cond_t hb42 h
      refine zgg hn [_,_,_,_,_,_,(50,vi s32),(6,vi s32),(7,vi 0)] [0,1,2,3,4,5] [2,7,8] [zq [4] 6 50,zq [6] 7 6,zq [] 8 7] [(_,_),(_,_),(_,_)] rfl ⟨z1 rfl,z2 rfl,z2 rfl,zz⟩ ?_
      refine ht_ret ?_
      refine pt_pick [1, 2] (by kernel_rfl) (es' := [(_,_),(_,_)]) rfl ?_
      refine pt_r_in ?_
      refine pt_r_then ?_
      refine pt_r_then ?_
      refine pt_r_in ?_
      refine pt_r_then ?_
      have h := hr37 _ (ho38 _ (zi h).symm).symm
      obtain rfl := zi h
      exact pt_ret hio rfl (.tmp _ _ (.tmp _ _ .nil)) rfl rfl
     ·have h := cond_f hb42 h
      refine ht_skip ?_
      refine pt_inb ?_
      refine pt_then ?_
      obtain ⟨v26, hv26, h⟩ := zn h
      refine zg hn [_,_,_,_,_,_,(36,vi s32),(37,vi v26),(11,vi v26)] [0,1,2,3,4,5] [0,1,2,3,8] [zq [4] 6 36,zq [6] 7 37,⟨[7],[4],[8],[(.slot 11)]⟩] [(_,_),(_,_),(_,_),(_,_),(_,_)] rfl ⟨z1 rfl,zp rfl (oB rfl (ibind (f := int .i64) (Option.some.inj hv26))),zp rfl (LOp.drop [_] (op_assign _ _ _ _ rfl rfl)),zz⟩ ?_
      exact pt_next _ (zi h).symm rfl
    ·have h := cond_f hb41 h
     refine ht_exit ?_
     refine pt_x_then ?_
     refine pt_x_then ?_
     refine pt_x_in ?_
     refine pt_pick [2] (by kernel_rfl) (es' := [(_,_)]) rfl ?_
     exact hl36 _ (ho38 _ (zi h).symm).symm
  ·rintro u15 hl16 hr17 ⟨s11, s12⟩ rr20 h ho18
   refine zgg hn [_,_,_,_,_,_,_,(21,vb (decide (s12 < (v2.length : Int))))] [0,1,2,3,4,5,6] [0,1,2,3,4,5,6,7] [zq [6,5] 7 21] [(_,_),(_,_),(_,_),(_,_),(_,_),(_,_),(_,_),(_,_)] rfl ⟨z4 rfl rfl,zz⟩ ?_
   refine ht_seq ?_
   refine ht_cond _ rfl (fun hb21 => ?_) (fun hb21 => ?_)
   ·have h := cond_t hb21 h
    refine ht_skip ?_
    refine pt_then (ht_seq ?_)
    refine ht_block ?_
    refine ht_seq ?_
    obtain ⟨v4, hv4, h⟩ := zn h
    obtain ⟨v5, hv5, h⟩ := zn h
    refine zg hn [_,_,_,_,_,_,_,_,(22,.eref (.slot 18) (v4 * 8)),(23,.agg [vb v5.From.Null,vs v5.From.Local,vs v5.From.Domain,.fl .shr 3 (flatten (map T_Path.enc v5.To)),.fl .shr 1 (map (int .u8) v5.Body),vb v5.Quiet,vs v5.Helo,vi v5.At]),(10,.box 46 [vb false,vs z0,vs z0,.v (.slice none 0 0),.v (.slice none 0 0),vb false,vs z0,vi 0]),(10,.box 46 [vb v5.From.Null,vs v5.From.Local,vs v5.From.Domain,.fl .shr 3 (flatten (map T_Path.enc v5.To)),.fl .shr 1 (map (int .u8) v5.Body),vb v5.Quiet,vs v5.Helo,vi v5.At])] [0,1,2,3,4,5,6,7] [0,1,2,3,4,5,6,11] [zq [4,6] 8 22,zq [8,4] 9 23,zq [] 10 10,⟨[9],[10],[11],[.cell 10 0,.cell 10 1,.cell 10 2,.cell 10 3,.cell 10 4,.cell 10 5,.cell 10 6,.cell 10 7]⟩] [(_,_),(_,_),(_,_),(_,_),(_,_),(_,_),(_,_),(_,_)] rfl ⟨zp rfl (op_ix_fr _ _ _ _ _ _ _ _ underlying22 sz46 (by decide) rfl rfl rfl (ix_ok hv4).1 (gflat_lt T_Mail.ilen (ix_ok hv4).2) rfl),zp rfl (op_loadA_fr _ _ _ _ _ _ _ _ underlying46 rfl sz46 rfl rfl (gflat_get T_Mail.ilen hv5) (.cons (.v _) (.cons (.v _) (.cons (.v _) (.cons (.fl _ _ rfl) (.cons (.fl _ _ rfl) (.cons (.v _) (.cons (.v _) (.cons (.v _) (.nil))))))))) rfl (by decide)),zp rfl (op_alloc _ _ zr46),zp rfl (oS sz46 rfl),zz⟩ ?_
    refine pt_then ?_
    refine zgg hn [_,_,_,_,_,_,_,_,(24,.ptr 10 5),(10,.box 46 [vb v5.From.Null,vs v5.From.Local,vs v5.From.Domain,.fl .shr 3 (flatten (map T_Path.enc v5.To)),.fl .shr 1 (map (int .u8) v5.Body),vb false,vs v5.Helo,vi v5.At]),(25,.ptr 10 6),(10,.box 46 [vb v5.From.Null,vs v5.From.Local,vs v5.From.Domain,.fl .shr 3 (flatten (map T_Path.enc v5.To)),.fl .shr 1 (map (int .u8) v5.Body),vb false,vs z0,vi v5.At]),(26,.ptr 10 7),(10,.box 46 [vb v5.From.Null,vs v5.From.Local,vs v5.From.Domain,.fl .shr 3 (flatten (map T_Path.enc v5.To)),.fl .shr 1 (map (int .u8) v5.Body),vb false,vs z0,vi 0])] [0,1,2,3,4,5,6,7] [0,1,2,3,4,5,6,13] [zq [7] 8 24,⟨[8],[7],[9],[.cell 10 5]⟩,zq [9] 10 25,⟨[10],[9],[11],[.cell 10 6]⟩,zq [11] 12 26,⟨[12],[11],[13],[.cell 10 7]⟩] [(_,_),(_,_),(_,_),(_,_),(_,_),(_,_),(_,_),(_,_)] rfl ⟨zp rfl (oF underlying46 rfl sz4),zp rfl (oS sz4 rfl),zp rfl (oF underlying46 rfl sz9),zp rfl (oS sz9 rfl),zp rfl (oF underlying46 rfl sz3),zp rfl (oS sz3 rfl),zz⟩ ?_
    obtain ⟨v6, hv6, h⟩ := zn h
    refine zg hn [_,_,_,_,_,_,_,_,(27,.fr (.own 46) true 8 (flatten (map T_Mail.ienc s11))),(28,.agg [vb v5.From.Null,vs v5.From.Local,vs v5.From.Domain,.fl .shr 3 (flatten (map T_Path.enc v5.To)),.fl .shr 1 (map (int .u8) v5.Body),vb false,vs z0,vi 0]),(29,.fr (.own 46) true 8 (flatten (map T_Mail.ienc ([(T_Mail.mk (T_Path.mk v5.From.Null v5.From.Local v5.From.Domain) v5.To v5.Body false z0 0)])))),(30,.fr (.own 46) true 8 (flatten (map T_Mail.ienc v6))),(27,.any),(8,.fr (.own 46) true 8 (flatten (map T_Mail.ienc v6)))] [0,1,2,3,4,5,6,7] [0,1,2,4,5,6,13] [⟨[],[3],[8],[(.slot 27)]⟩,zq [7] 9 28,zq [9] 10 29,⟨[10],[8],[12,11],[(.slot 30)]⟩,⟨[],[11],[13],[(.slot 8)]⟩] [(_,_),(_,_),(_,_),(_,_),(_,_),(_,_),(_,_)] rfl ⟨zp rfl (op_move_take _ _ _ _ rfl),zp rfl (op_loadA _ _ _ _ _ _ _ underlying46 rfl sz46 rfl rfl (zl rfl) rfl rfl),zp rfl (op_build1_fr _ _ _ 8 (.agg #[.bool false, .string ByteArray.empty, .string ByteArray.empty, .slice none 0 0, .slice none 0 0, .bool false, .string ByteArray.empty, .int .i64 0]) true _ _ underlying22 sz46 zr46 rfl rfl (.cons (.v _) (.cons (.v _) (.cons (.v _) (.cons (.shr _ _ rfl rfl) (.cons (.shr _ _ rfl rfl) (.cons (.v _) (.cons (.v _) (.cons (.v _) (.nil))))))))) rfl (by decide) (by decide)),zp rfl (op_app_fr _ _ _ _ _ el22 rfl rfl (gflat_len T_Mail.ilen _) (gflat_len T_Mail.ilen _) hv6 (gflat_app (app_eq hv6)) (by decide) (by decide)),zp rfl (op_assign_take _ _ _ _ rfl),zz⟩ ?_
    refine pt_inb ?_
    refine pt_then ?_
    obtain ⟨v7, hv7, h⟩ := zn h
    refine zg hn [_,_,_,_,_,_,_,(31,vi v7),(20,vi v7)] [0,1,2,3,4,5,6] [0,1,2,3,4,6,8] [zq [5] 7 31,⟨[7],[5],[8],[(.slot 20)]⟩] [(_,_),(_,_),(_,_),(_,_),(_,_),(_,_),(_,_)] rfl ⟨zp rfl (oB rfl (ibind (f := int .i64) (Option.some.inj hv7))),zp rfl (LOp.drop [_] (oM rfl)),zz⟩ ?_
    refine pt_pick [0, 1, 2, 5, 3, 4, 6] (by kernel_rfl) (es' := [(_,_),(_,_),(_,_),(_,_),(_,_),(_,_),(_,_)]) rfl ?_
    exact pt_next _ (zi h).symm rfl
   ·have h := cond_f hb21 h
    refine ht_exit ?_
    refine pt_x_then ?_
    refine pt_x_then ?_
    refine pt_x_in ?_
    refine pt_pick [0, 1, 2, 3] (by kernel_rfl) (es' := [(_,_),(_,_),(_,_),(_,_)]) rfl ?_
    exact hl16 _ (ho18 _ (zi h).symm).symm
theorem ok_wherrykeep_Path (a : T_Path) (b : T_Path) (r : Bool) (h : Sh.wherrykeep_Path a b = some r) : FnOK Tryz.prog 45 [.agg [.v (.bool a.Null), .v (.string a.Local), .v (.string a.Domain)], .agg [.v (.bool b.Null), .v (.string b.Local), .v (.string b.Domain)]] (.v (.bool r)) := by
  unfold Sh.wherrykeep_Path at h
  refine fn_ok func45 rfl (zl rfl) rfl rfl fun g0 hn hio => ?_
  refine zgg hn [_,_,(2,.box 43 [vb a.Null,vs a.Local,vs a.Domain]),(3,.box 43 [vb b.Null,vs b.Local,vs b.Domain]),(4,vb false)] [0,1] [2,3] [zq [0] 2 2,zq [1] 3 3,zq [] 4 4] [(_,_),(_,_)] rfl ⟨zp rfl (op_box _ _ _ _ rfl rfl rfl),zp rfl (op_box _ _ _ _ rfl rfl rfl),z2 rfl,zz⟩ ?_
  refine ht_seq ?_
  refine ht_joinS h (fun (s2 : Bool) => [(4, .v (.bool s2))]) ?_ ?_
  ·rintro s2 h
   refine pt_then (ht_ret ?_)
   obtain rfl := zi h
   exact pt_ret hio rfl (.tmp _ _ .nil) rfl rfl
  ·intro u3 h hl4 hr5
   obtain ⟨v1, hv1, h⟩ := zn h
   refine cond_some h (fun hg1_5 h => ?_) (fun hg1_5 h => ?_)
   ·refine cond_some h (fun hg1_12 h => ?_) (fun hg1_12 h => ?_)
    ·refine zg hn (_::_::(5,.ptr 2 0)::(6,vb a.Null)::(7,.ptr 3 0)::(8,vb b.Null)::(9,vb (a.Null == b.Null))::(10,vb true)::(11,.ptr 2 1)::(12,vs a.Local)::(13,.ptr 3 1)::(14,vs b.Local)::(15,vb (a.Local.toList == b.Local.toList))::(16,vb (a.Local.toList == b.Local.toList))::(17,vb true)::(18,.ptr 2 2)::(19,vs a.Domain)::(20,.ptr 3 2)::(21,vs b.Domain)::(22,vb (a.Domain.toList == b.Domain.toList))::(23,vb (a.Domain.toList == b.Domain.toList))::(4,vb (a.Domain.toList == b.Domain.toList))::[]) [0,1] [21] (zq [0] 2 5::zq [2,0] 3 6::zq [1] 4 7::zq [4,1] 5 8::zq [3,5] 6 9::zq [6] 7 10::zq [7,0] 8 11::zq [7,8,0] 9 12::zq [7,1] 10 13::zq [7,10,1] 11 14::zq [7,9,11] 12 15::zq [7,12] 13 16::zq [13] 14 17::zq [14,0] 15 18::zq [14,15,0] 16 19::zq [14,1] 17 20::zq [14,17,1] 18 21::zq [14,16,18] 19 22::zq [14,19] 20 23::zq [20] 21 4::[]) [(_,_)] rfl ⟨zp rfl (oF underlying43 rfl sz4),zp rfl (oL underlying4 rfl),zp rfl (oF underlying43 rfl sz4),zp rfl (oL underlying4 rfl),zp rfl (op_beq _ _ _ _ underlying4 rfl rfl),z8 hg1_5 rfl,zr' rfl (oF underlying43 rfl sz9),zr' rfl (oL underlying9 rfl),zr' rfl (oF underlying43 rfl sz9),zr' rfl (oL underlying9 rfl),zr' rfl (oB rfl rfl),z3 true rfl,z8 hg1_12 rfl,zr' rfl (oF underlying43 rfl sz9),zr' rfl (oL underlying9 rfl),zr' rfl (oF underlying43 rfl sz9),zr' rfl (oL underlying9 rfl),zr' rfl (oB rfl rfl),z3 true rfl,z2 rfl,zz⟩ ?_
     exact hl4 _ (zi h).symm
    ·refine zg hn (_::_::(5,.ptr 2 0)::(6,vb a.Null)::(7,.ptr 3 0)::(8,vb b.Null)::(9,vb (a.Null == b.Null))::(10,vb true)::(11,.ptr 2 1)::(12,vs a.Local)::(13,.ptr 3 1)::(14,vs b.Local)::(15,vb (a.Local.toList == b.Local.toList))::(16,vb (a.Local.toList == b.Local.toList))::(17,vb false)::(18,.v undef)::(19,.v undef)::(20,.v undef)::(21,.v undef)::(22,.v undef)::(23,vb false)::(4,vb false)::[]) [0,1] [21] (zq [0] 2 5::zq [2,0] 3 6::zq [1] 4 7::zq [4,1] 5 8::zq [3,5] 6 9::zq [6] 7 10::zq [7,0] 8 11::zq [7,8,0] 9 12::zq [7,1] 10 13::zq [7,10,1] 11 14::zq [7,9,11] 12 15::zq [7,12] 13 16::zq [13] 14 17::zq [14] 15 18::zq [14] 16 19::zq [14] 17 20::zq [14] 18 21::zq [14] 19 22::zq [14] 20 23::zq [20] 21 4::[]) [(_,_)] rfl ⟨zp rfl (oF underlying43 rfl sz4),zp rfl (oL underlying4 rfl),zp rfl (oF underlying43 rfl sz4),zp rfl (oL underlying4 rfl),zp rfl (op_beq _ _ _ _ underlying4 rfl rfl),z8 hg1_5 rfl,zr' rfl (oF underlying43 rfl sz9),zr' rfl (oL underlying9 rfl),zr' rfl (oF underlying43 rfl sz9),zr' rfl (oL underlying9 rfl),zr' rfl (oB rfl rfl),z3 true rfl,z8 hg1_12 rfl,zt rfl,zt rfl,zt rfl,zt rfl,zt rfl,z3 false rfl,z2 rfl,zz⟩ ?_
     exact hl4 _ (zi h).symm
   ·refine zg hn (_::_::(5,.ptr 2 0)::(6,vb a.Null)::(7,.ptr 3 0)::(8,vb b.Null)::(9,vb (a.Null == b.Null))::(10,vb false)::(11,.v undef)::(12,.v undef)::(13,.v undef)::(14,.v undef)::(15,.v undef)::(16,vb false)::(17,vb false)::(18,.v undef)::(19,.v undef)::(20,.v undef)::(21,.v undef)::(22,.v undef)::(23,vb false)::(4,vb false)::[]) [0,1] [21] (zq [0] 2 5::zq [2,0] 3 6::zq [1] 4 7::zq [4,1] 5 8::zq [3,5] 6 9::zq [6] 7 10::zq [7] 8 11::zq [7] 9 12::zq [7] 10 13::zq [7] 11 14::zq [7] 12 15::zq [7] 13 16::zq [13] 14 17::zq [14] 15 18::zq [14] 16 19::zq [14] 17 20::zq [14] 18 21::zq [14] 19 22::zq [14] 20 23::zq [20] 21 4::[]) [(_,_)] rfl ⟨zp rfl (oF underlying43 rfl sz4),zp rfl (oL underlying4 rfl),zp rfl (oF underlying43 rfl sz4),zp rfl (oL underlying4 rfl),zp rfl (op_beq _ _ _ _ underlying4 rfl rfl),z8 hg1_5 rfl,zt rfl,zt rfl,zt rfl,zt rfl,zt rfl,z3 false rfl,z1 rfl,zt rfl,zt rfl,zt rfl,zt rfl,zt rfl,z3 false rfl,z2 rfl,zz⟩ ?_
    exact hl4 _ (zi h).symm
theorem ok_wherrykeep_Paths (a : (List T_Path)) (b : (List T_Path)) (r : Bool) (h : Sh.wherrykeep_Paths a b = some r) : FnOK Tryz.prog 46 [.fl .shr 3 (flatten (map T_Path.enc a)), .fl .shr 3 (flatten (map T_Path.enc b))] (.v (.bool r)) := by
  unfold Sh.wherrykeep_Paths at h
  refine fn_ok func46 rfl (zl rfl) rfl rfl fun g0 hn hio => ?_
  refine zgg hn [_,_,(4,vb false)] [0,1] [0,1] [zq [] 2 4] [(_,_),(_,_)] rfl ⟨z2 rfl,zz⟩ ?_
  refine ht_seq ?_
  refine zgg hn [_,_,(6,.fl .shr 3 (flatten (map T_Path.enc a))),(7,vi (a.length : Int)),(8,.fl .shr 3 (flatten (map T_Path.enc b))),(9,vi (b.length : Int)),(10,vb ((a.length : Int) != (b.length : Int)))] [0,1] [0,1,6] [zq [0] 2 6,zq [2] 3 7,zq [1] 4 8,zq [4] 5 9,zq [3,5] 6 10] [(_,_),(_,_),(_,_)] rfl ⟨z1 rfl,zp rfl (op_len_fl _ _ _ underlying44 rfl (by decide) (flat_len T_Path.len _)),z1 rfl,zp rfl (op_len_fl _ _ _ underlying44 rfl (by decide) (flat_len T_Path.len _)),z4 rfl rfl,zz⟩ ?_
  refine ht_cond _ rfl (fun hb1 => ?_) (fun hb1 => ?_)
  ·have h := cond_t hb1 h
   refine zgg hn [_,_,_,(4,vb false)] [0,1,2] [3] [zq [] 3 4] [(_,_)] rfl ⟨z2 rfl,zz⟩ ?_
   refine ht_ret ?_
   refine pt_r_then ?_
   obtain rfl := zi h
   exact pt_ret hio rfl (.tmp _ _ .nil) rfl rfl
  ·have h := cond_f hb1 h
   refine ht_skip ?_
   refine pt_then (ht_seq ?_)
   refine zgg hn [_,_,_,(5,vi 0)] [0,1,2] [0,1,3] [zq [] 3 5] [(_,_),(_,_),(_,_)] rfl ⟨z2 rfl,zz⟩ ?_
   refine ht_loopS h (fun (s13 : Int) => [(0, .fl .shr 3 (flatten (map T_Path.enc a))), (1, .fl .shr 3 (flatten (map T_Path.enc b))), (5, .v (.int .i64 s13))]) (fun (() : Unit) => []) ?_ ?_
   ·rintro ⟨⟩ h
    refine pt_then ?_
    refine zgg hn [(4,vb true)] [] [0] [zq [] 0 4] [(_,_)] rfl ⟨z2 rfl,zz⟩ ?_
    refine ht_ret ?_
    obtain rfl := zi h
    exact pt_ret hio rfl (.tmp _ _ .nil) rfl rfl
   ·rintro u16 hl17 hr18 s13 rr21 h ho19
    refine ht_seq ?_
    refine zgg hn [_,_,_,(11,vi s13),(12,.fl .shr 3 (flatten (map T_Path.enc a))),(13,vi (a.length : Int)),(14,vb (decide (s13 < (a.length : Int))))] [0,1,2] [0,1,2,6] [zq [2] 3 11,zq [0] 4 12,zq [4] 5 13,zq [3,5] 6 14] [(_,_),(_,_),(_,_),(_,_)] rfl ⟨z1 rfl,z1 rfl,zp rfl (op_len_fl _ _ _ underlying44 rfl (by decide) (flat_len T_Path.len _)),z4 rfl rfl,zz⟩ ?_
    refine ht_cond _ rfl (fun hb22 => ?_) (fun hb22 => ?_)
    ·have h := cond_t hb22 h
     refine ht_skip ?_
     refine pt_then (ht_seq ?_)
     refine ht_block ?_
     refine ht_seq ?_
     obtain ⟨v3, hv3, h⟩ := zn h
     obtain ⟨v4, hv4, h⟩ := zn h
     obtain ⟨v5, hv5, h⟩ := zn h
     obtain ⟨v6, hv6, h⟩ := zn h
     obtain ⟨v7, hv7, h⟩ := zn h
     refine ht_anyR (by kernel_rfl) hn (El := [_, _, _, _, (17, .fl .shr 3 (flatten (map T_Path.enc a))), (18, .v (.int .i64 s13)), (19, .eref (.slot 17) (v3 * 3)), (20, .agg [.v (.bool v4.Null), .v (.string v4.Local), .v (.string v4.Domain)]), (21, .fl .shr 3 (flatten (map T_Path.enc b))), (22, .v (.int .i64 s13)), (23, .eref (.slot 21) (v5 * 3)), (24, .agg [.v (.bool v6.Null), .v (.string v6.Local), .v (.string v6.Domain)]), (25, .v (.bool v7)), (26, .v (.bool (!v7)))]) (init := [0, 1, 2, 3]) (fin := [0, 1, 2, 13]) (sps := [zq [0] 4 17, zq [2] 5 18, zq [4,5] 6 19, zq [6,4] 7 20, zq [1] 8 21, zq [2] 9 22, zq [8,9] 10 23, zq [10,8] 11 24, zq [7,11] 12 25, zq [12] 13 26]) (es' := [(_,_),(_,_),(_,_),(26, .v (.bool (!v7)))]) (by kernel_rfl) rfl rfl ⟨z1 rfl,z1 rfl,zp rfl (op_ix _ _ _ _ _ _ _ _ underlying44 sz43 (by decide) rfl rfl rfl (ix_ok hv3).1 (flat_lt T_Path.len (ix_ok hv3).2) rfl),zp rfl (op_load_eA _ _ _ _ _ _ _ underlying43 rfl sz43 rfl rfl (flat_get T_Path.len hv4) rfl (by decide)),z1 rfl,z1 rfl,zp rfl (op_ix _ _ _ _ _ _ _ _ underlying44 sz43 (by decide) rfl rfl rfl (ix_ok hv5).1 (flat_lt T_Path.len (ix_ok hv5).2) rfl),zp rfl (op_load_eA _ _ _ _ _ _ _ underlying43 rfl sz43 rfl rfl (flat_get T_Path.len hv6) rfl (by decide)),zp rfl (op_call _ _ 45 _ _ rfl call45 rfl (ok_wherrykeep_Path v4 v6 _ hv7) rfl rfl),zp rfl (op_un _ _ _ _ rfl rfl),zz⟩ ?_
     refine pt_then ?_
     refine ht_cond _ rfl (fun hb23 => ?_) (fun hb23 => ?_)
     ·have h := cond_t hb23 h
      refine zgg hn [_,_,_,_,(4,vb false)] [0,1,2,3] [4] [zq [] 4 4] [(_,_)] rfl ⟨z2 rfl,zz⟩ ?_
      refine ht_ret ?_
      refine pt_r_in ?_
      refine pt_r_then ?_
      refine pt_r_then ?_
      refine pt_r_in ?_
      refine pt_r_then ?_
      have h := hr18 _ (ho19 _ (zi h).symm).symm
      obtain rfl := zi h
      exact pt_ret hio rfl (.tmp _ _ .nil) rfl rfl
     ·have h := cond_f hb23 h
      refine ht_skip ?_
      refine pt_inb ?_
      refine pt_then ?_
      obtain ⟨v9, hv9, h⟩ := zn h
      refine zg hn [_,_,_,_,(15,vi s13),(16,vi v9),(5,vi v9)] [0,1,2,3] [0,1,6] [zq [2] 4 15,zq [4] 5 16,⟨[5],[2],[6],[(.slot 5)]⟩] [(_,_),(_,_),(_,_)] rfl ⟨z1 rfl,zp rfl (oB rfl (ibind (f := int .i64) (Option.some.inj hv9))),zp rfl (LOp.drop [_] (op_assign _ _ _ _ rfl rfl)),zz⟩ ?_
      exact pt_next _ (zi h).symm rfl
    ·have h := cond_f hb22 h
     refine ht_exit ?_
     refine pt_x_then ?_
     refine pt_x_then ?_
     refine pt_x_in ?_
     refine pt_pick [] (by kernel_rfl) (es' := []) rfl ?_
     exact hl17 _ (ho19 _ (zi h).symm).symm
theorem ok_wherrykeep_Bytes (a : (List Int)) (b : (List Int)) (r : Bool) (h : Sh.wherrykeep_Bytes a b = some r) : FnOK Tryz.prog 21 [.fl .shr 1 (map (int .u8) a), .fl .shr 1 (map (int .u8) b)] (.v (.bool r)) := by
  unfold Sh.wherrykeep_Bytes at h
  refine fn_ok func21 rfl (zl rfl) rfl rfl fun g0 hn hio => ?_
  refine zgg hn [_,_,(4,vb false)] [0,1] [0,1] [zq [] 2 4] [(_,_),(_,_)] rfl ⟨z2 rfl,zz⟩ ?_
  refine ht_seq ?_
  refine zgg hn [_,_,(6,.fl .shr 1 (map (int .u8) a)),(7,vi (a.length : Int)),(8,.fl .shr 1 (map (int .u8) b)),(9,vi (b.length : Int)),(10,vb ((a.length : Int) != (b.length : Int)))] [0,1] [0,1,6] [zq [0] 2 6,zq [2] 3 7,zq [1] 4 8,zq [4] 5 9,zq [3,5] 6 10] [(_,_),(_,_),(_,_)] rfl ⟨z1 rfl,zp rfl (op_len_fl _ _ _ underlying25 rfl (by decide) (map_len _)),z1 rfl,zp rfl (op_len_fl _ _ _ underlying25 rfl (by decide) (map_len _)),z4 rfl rfl,zz⟩ ?_
  refine ht_cond _ rfl (fun hb1 => ?_) (fun hb1 => ?_)
  ·have h := cond_t hb1 h
   refine zgg hn [_,_,_,(4,vb false)] [0,1,2] [3] [zq [] 3 4] [(_,_)] rfl ⟨z2 rfl,zz⟩ ?_
   refine ht_ret ?_
   refine pt_r_then ?_
   obtain rfl := zi h
   exact pt_ret hio rfl (.tmp _ _ .nil) rfl rfl
  ·have h := cond_f hb1 h
   refine ht_skip ?_
   refine pt_then (ht_seq ?_)
   refine zgg hn [_,_,_,(5,vi 0)] [0,1,2] [0,1,3] [zq [] 3 5] [(_,_),(_,_),(_,_)] rfl ⟨z2 rfl,zz⟩ ?_
   refine ht_loopS h (fun (s12 : Int) => [(0, .fl .shr 1 (map (int .u8) a)), (1, .fl .shr 1 (map (int .u8) b)), (5, .v (.int .i64 s12))]) (fun (() : Unit) => []) ?_ ?_
   ·rintro ⟨⟩ h
    refine pt_then ?_
    refine zgg hn [(4,vb true)] [] [0] [zq [] 0 4] [(_,_)] rfl ⟨z2 rfl,zz⟩ ?_
    refine ht_ret ?_
    obtain rfl := zi h
    exact pt_ret hio rfl (.tmp _ _ .nil) rfl rfl
   ·rintro u15 hl16 hr17 s12 rr20 h ho18
    refine ht_seq ?_
    refine zgg hn [_,_,_,(11,vi s12),(12,.fl .shr 1 (map (int .u8) a)),(13,vi (a.length : Int)),(14,vb (decide (s12 < (a.length : Int))))] [0,1,2] [0,1,2,6] [zq [2] 3 11,zq [0] 4 12,zq [4] 5 13,zq [3,5] 6 14] [(_,_),(_,_),(_,_),(_,_)] rfl ⟨z1 rfl,z1 rfl,zp rfl (op_len_fl _ _ _ underlying25 rfl (by decide) (map_len _)),z4 rfl rfl,zz⟩ ?_
    refine ht_cond _ rfl (fun hb21 => ?_) (fun hb21 => ?_)
    ·have h := cond_t hb21 h
     refine ht_skip ?_
     refine pt_then (ht_seq ?_)
     refine ht_block ?_
     refine ht_seq ?_
     obtain ⟨v3, hv3, h⟩ := zn h
     obtain ⟨v4, hv4, h⟩ := zn h
     obtain ⟨v5, hv5, h⟩ := zn h
     obtain ⟨v6, hv6, h⟩ := zn h
     refine ht_anyR (by kernel_rfl) hn (El := [_, _, _, _, (17, .fl .shr 1 (map (int .u8) a)), (18, .v (.int .i64 s12)), (19, .eref (.slot 17) (v3 * 1)), (20, .v (.int .u8 v4)), (21, .fl .shr 1 (map (int .u8) b)), (22, .v (.int .i64 s12)), (23, .eref (.slot 21) (v5 * 1)), (24, .v (.int .u8 v6)), (25, .v (.bool (v4 != v6)))]) (init := [0, 1, 2, 3]) (fin := [0, 1, 2, 12]) (sps := [zq [0] 4 17, zq [2] 5 18, zq [4,5] 6 19, zq [6,4] 7 20, zq [1] 8 21, zq [2] 9 22, zq [8,9] 10 23, zq [10,8] 11 24, zq [7,11] 12 25]) (es' := [(_,_),(_,_),(_,_),(25, .v (.bool (v4 != v6)))]) (by kernel_rfl) rfl rfl ⟨z1 rfl,z1 rfl,zp rfl (op_ix _ _ _ _ _ _ _ _ underlying25 sz5 (by decide) rfl rfl rfl (ix_ok hv3).1 (map_lt (ix_ok hv3).2) rfl),zp rfl (op_load_e _ _ _ _ _ _ underlying5 rfl rfl rfl (map_get hv4)),z1 rfl,z1 rfl,zp rfl (op_ix _ _ _ _ _ _ _ _ underlying25 sz5 (by decide) rfl rfl rfl (ix_ok hv5).1 (map_lt (ix_ok hv5).2) rfl),zp rfl (op_load_e _ _ _ _ _ _ underlying5 rfl rfl rfl (map_get hv6)),z4 rfl rfl,zz⟩ ?_
     refine pt_then ?_
     refine ht_cond _ rfl (fun hb22 => ?_) (fun hb22 => ?_)
     ·have h := cond_t hb22 h
      refine zgg hn [_,_,_,_,(4,vb false)] [0,1,2,3] [4] [zq [] 4 4] [(_,_)] rfl ⟨z2 rfl,zz⟩ ?_
      refine ht_ret ?_
      refine pt_r_in ?_
      refine pt_r_then ?_
      refine pt_r_then ?_
      refine pt_r_in ?_
      refine pt_r_then ?_
      have h := hr17 _ (ho18 _ (zi h).symm).symm
      obtain rfl := zi h
      exact pt_ret hio rfl (.tmp _ _ .nil) rfl rfl
     ·have h := cond_f hb22 h
      refine ht_skip ?_
      refine pt_inb ?_
      refine pt_then ?_
      obtain ⟨v8, hv8, h⟩ := zn h
      refine zg hn [_,_,_,_,(15,vi s12),(16,vi v8),(5,vi v8)] [0,1,2,3] [0,1,6] [zq [2] 4 15,zq [4] 5 16,⟨[5],[2],[6],[(.slot 5)]⟩] [(_,_),(_,_),(_,_)] rfl ⟨z1 rfl,zp rfl (oB rfl (ibind (f := int .i64) (Option.some.inj hv8))),zp rfl (LOp.drop [_] (op_assign _ _ _ _ rfl rfl)),zz⟩ ?_
      exact pt_next _ (zi h).symm rfl
    ·have h := cond_f hb21 h
     refine ht_exit ?_
     refine pt_x_then ?_
     refine pt_x_then ?_
     refine pt_x_in ?_
     refine pt_pick [] (by kernel_rfl) (es' := []) rfl ?_
     exact hl16 _ (ho18 _ (zi h).symm).symm
end Go.Proofs.YtglabbpbianmnaaGreatDoor
