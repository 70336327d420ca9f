/-
  The model's runs are what is told in Lean.
-/
import Derived.Test.YtglabbpbianmnaaGreatDoorProg
import Derived.KernelRfl
import Derived.Test.YtglabbpbianmnaaGreatDoorShelf
import Derived.Test.YtglabbpbianmnaaGreatDoorIdx
import Derived.Test.YtglabbpbianmnaaGreatDoorOkc3
set_option linter.unusedVariables false
set_option linter.unusedSimpArgs false
set_option maxHeartbeats 1000000
namespace Go.Proofs.YtglabbpbianmnaaGreatDoor
open Go.Abs Go.Abs.Sh Tryz

theorem ok_wherrylaw17_BundleSpoilt (mx : Int) (b : T_Bundle) (at_ : Int) (n : Int) (r : Bool) (h : Sh.wherrylaw17_BundleSpoilt b at_ n = some r) : FnG Tryz.prog (GL mx) 5 [.agg [.v (.int .i64 b.Origin), .v (.int .i64 b.Number), .fr .shr true 8 (List.flatten (List.map T_Mail.ienc b.Mails))], .v (.int .i64 at_), .v (.int .i64 n)] (.v (.bool r)) := by
  unfold Sh.wherrylaw17_BundleSpoilt at h
  refine fn_okG func5 rfl (zl rfl) rfl rfl fun g0 hn hio => ?_
  refine zgg hn [_,_,_,_,(3,.box 24 [vi b.Origin,vi b.Number,.fr .shr true 8 (List.flatten (List.map T_Mail.ienc b.Mails))]),(6,vb false)] [0,1,2,3] [1,2,3,4] [zq [0] 4 3,zq [] 5 6] [(_,_),(_,_),(_,_),(_,_)] rfl ⟨zp rfl (op_box _ _ _ _ rfl rfl rfl),z2 rfl,zz⟩ ?_
  refine ht_seq ?_
  refine ht_seq ?_
  obtain ⟨v1, hv1, h⟩ := bind_some h
  refine zg hn [_,_,_,_,(15,.ptr 3 2),(16,.fr .shr true 8 (List.flatten (List.map T_Mail.ienc b.Mails))),(17,vb v1)] [0,1,2,3] [0,1,2,3,6] [zq [3] 4 15,zq [4,3] 5 16,zq [5] 6 17] [(_,_),(_,_),(_,_),(_,_),(_,_)] rfl ⟨zp rfl (oF underlying24 rfl sz22),zp rfl (oL underlying22 rfl),zp rfl (op_call _ _ 10 _ _ rfl call10 rfl (ok_wherrylaw17_Heavy b.Mails _ hv1) rfl rfl),zz⟩ ?_
  refine pt_then ?_
  refine ht_cond _ rfl (fun hb2 => ?_) (fun hb2 => ?_)
  ·have h := cond_t hb2 h
   refine zgg hn [_,_,_,_,_,(6,vb true)] [0,1,2,3,4] [2,5] [zq [] 5 6] [(_,_),(_,_)] rfl ⟨z2 rfl,zz⟩ ?_
   refine ht_ret ?_
   refine pt_pick [1] (by kernel_rfl) (es' := [(_,_)]) rfl ?_
   refine pt_r_then ?_
   obtain rfl := Option.some.inj h
   exact pt_ret hio rfl (.tmp _ _ .nil) rfl rfl
  ·have h := cond_f hb2 h
   refine ht_skip ?_
   refine pt_then (ht_seq ?_)
   obtain ⟨v3, hv3, h⟩ := bind_some h
   refine zg hn [_,_,_,_,_,(19,.agg [vi b.Origin,vi b.Number,.fr .shr true 8 (List.flatten (List.map T_Mail.ienc b.Mails))]),(20,.tup [.mkr 5 (List.map (Value.int .u8) v3.1),vi v3.2]),(18,.tup [.mkr 5 (List.map (Value.int .u8) v3.1),vi v3.2]),(21,.mkr 5 (List.map (Value.int .u8) v3.1)),(18,.tup [.any,vi v3.2]),(22,vi v3.2),(7,.mkr 5 (List.map (Value.int .u8) v3.1)),(8,vi v3.2)] [0,1,2,3,4] [0,1,2,11,12] [zq [3] 5 19,zq [5,2] 6 20,⟨[],[6],[7],[(.slot 18)]⟩,⟨[],[7],[9,8],[(.slot 21)]⟩,zq [9] 10 22,⟨[],[8],[11],[(.slot 7)]⟩,zq [10] 12 8] [(_,_),(_,_),(_,_),(_,_),(_,_)] rfl ⟨zp rfl (op_loadA _ _ _ _ _ _ _ underlying24 rfl sz24 rfl rfl (zl rfl) rfl rfl),zp rfl (op_callG _ _ 126 13 _ _ rfl call13 rfl rfl (fun _ h => h) (ok_bundle_Bytes mx b _ hv3) rfl rfl),zp rfl (op_move_take _ _ _ _ rfl),zp rfl (op_extract_take _ _ _ _ _ rfl (zl rfl) rfl rfl (by decide) rfl),zp rfl (oE rfl),zp rfl (op_assign_take _ _ _ _ rfl),z2 rfl,zz⟩ ?_
   refine pt_then (ht_seq ?_)
   refine zgg hn [_,_,_,_,_,(23,vi v3.2),(24,vb (v3.2 != 0))] [0,1,2,3,4] [0,1,2,3,6] [zq [4] 5 23,zq [5] 6 24] [(_,_),(_,_),(_,_),(_,_),(_,_)] rfl ⟨z1 rfl,z4 rfl rfl,zz⟩ ?_
   refine ht_cond _ rfl (fun hb4 => ?_) (fun hb4 => ?_)
   ·have h := cond_t hb4 h
    refine ht_seq ?_
    obtain ⟨v5, hv5, h⟩ := bind_some h
    refine zg hn [_,_,_,_,_,(25,vb v5),(6,vb v5)] [0,1,2,3,4] [2,6] [zq [2] 5 25,zq [5] 6 6] [(_,_),(_,_)] rfl ⟨zp rfl (op_callG _ _ 126 25 _ _ rfl call25 rfl rfl (fun _ h => h) (ok_wherrylaw17_wakes mx  _ hv5) rfl rfl),z2 rfl,zz⟩ ?_
    refine pt_then (ht_ret ?_)
    refine pt_pick [1] (by kernel_rfl) (es' := [(_,_)]) rfl ?_
    refine pt_r_then ?_
    obtain rfl := Option.some.inj h
    exact pt_ret hio rfl (.tmp _ _ .nil) rfl rfl
   ·have h := cond_f hb4 h
    refine ht_skip ?_
    refine pt_then ?_
    refine zgg hn [_,_,_,_,_,(9,vi 0)] [0,1,2,3,4] [0,1,2,3,5] [zq [] 5 9] [(_,_),(_,_),(_,_),(_,_),(_,_)] rfl ⟨z2 rfl,zz⟩ ?_
    refine ht_seq ?_
    refine ht_loopS h (fun (s24 : Int) => [(1, .v (.int .i64 at_)), (2, .v (.int .i64 n)), (126, .glob (GL mx)), (7, .mkr 5 (List.map (Value.int .u8) v3.1)), (9, .v (.int .i64 s24))]) (fun (s30 : Int) => [(1, .v (.int .i64 at_)), (2, .v (.int .i64 n)), (126, .glob (GL mx)), (7, .mkr 5 (List.map (Value.int .u8) v3.1)), (9, .v (.int .i64 s30))]) ?_ ?_
    ·rintro s30 h
     refine pt_then (ht_seq ?_)
     obtain ⟨v42, hv42, h⟩ := bind_some h
     refine zg hn [_,_,_,_,_,(48,vi s30),(49,vi v42),(9,vi v42)] [0,1,2,3,4] [0,1,2,3,7] [zq [4] 5 48,zq [5] 6 49,⟨[6],[4],[7],[(.slot 9)]⟩] [(_,_),(_,_),(_,_),(_,_),(_,_)] rfl ⟨z1 rfl,zp rfl (oB rfl (ibind (f := Value.int .i64) (Option.some.inj hv42))),zp rfl (LOp.drop [_] (op_assign _ _ _ _ rfl rfl)),zz⟩ ?_
     refine pt_then (ht_seq ?_)
     refine zgg hn [_,_,_,_,_,(50,vi v42),(51,.same (.slot 7)),(52,vi (v3.1.length : Int)),(53,vb (decide ((v3.1.length : Int) ≤ v42)))] [0,1,2,3,4] [0,1,2,3,4,8] [zq [4] 5 50,zq [3] 6 51,zq [6,3] 7 52,zq [5,7] 8 53] [(_,_),(_,_),(_,_),(_,_),(_,_),(_,_)] rfl ⟨z1 rfl,z1 rfl,zp rfl (op_len_mk _ _ _ underlying25 rfl (List.length_map _)),z4 rfl rfl,zz⟩ ?_
     refine ht_cond _ rfl (fun hb43 => ?_) (fun hb43 => ?_)
     ·have h := cond_t hb43 h
      refine zgg hn [_,_,_,_,_,_,(6,vb false)] [0,1,2,3,4,5] [2,6] [zq [] 6 6] [(_,_),(_,_)] rfl ⟨z2 rfl,zz⟩ ?_
      refine ht_ret ?_
      refine pt_pick [1] (by kernel_rfl) (es' := [(_,_)]) rfl ?_
      refine pt_r_then ?_
      obtain rfl := Option.some.inj h
      exact pt_ret hio rfl (.tmp _ _ .nil) rfl rfl
     ·have h := cond_f hb43 h
      refine ht_skip ?_
      refine pt_then (ht_seq ?_)
      obtain ⟨v44, hv44, h⟩ := bind_some h
      obtain ⟨v45, hv45, h⟩ := bind_some h
      refine zg hn [_,_,_,_,_,_,(54,.same (.slot 7)),(55,vi (v3.1.length : Int)),(56,vi v42),(57,vi v44),(58,vi v45),(10,vi v45)] [0,1,2,3,4,5] [0,1,2,3,4,11] [zq [3] 6 54,zq [6,3] 7 55,zq [4] 8 56,zq [7,8] 9 57,zq [9] 10 58,zq [10] 11 10] [(_,_),(_,_),(_,_),(_,_),(_,_),(_,_)] rfl ⟨z1 rfl,zp rfl (op_len_mk _ _ _ underlying25 rfl (List.length_map _)),z1 rfl,zp rfl (oB rfl (ibind (f := Value.int .i64) (Option.some.inj hv44))),zp rfl (oB rfl (ibind (f := Value.int .i64) (Option.some.inj hv45))),z2 rfl,zz⟩ ?_
      refine pt_then (ht_seq ?_)
      obtain ⟨v46, hv46, h⟩ := bind_some h
      obtain ⟨v47, hv47, h⟩ := bind_some h
      obtain ⟨v48, hv48, h⟩ := bind_some h
      obtain ⟨v49, hv49, h⟩ := bind_some h
      refine zg hn [_,_,_,_,_,_,(59,vi at_),(60,.v (.int .u64 v46)),(61,vi v45),(62,.v (.int .u64 v47)),(63,.v (.int .u64 v48)),(64,vi v49),(1,vi v49)] [0,1,2,3,4,5] [1,2,3,4,5,12] [zq [0] 6 59,zq [6] 7 60,zq [5] 8 61,zq [8] 9 62,zq [7,9] 10 63,zq [10] 11 64,⟨[11],[0],[12],[(.slot 1)]⟩] [(_,_),(_,_),(_,_),(_,_),(_,_),(_,_)] rfl ⟨z1 rfl,zp rfl ((Option.some.inj hv46) ▸ op_conv _ _ _ underlying3 underlying51 rfl),z1 rfl,zp rfl ((Option.some.inj hv47) ▸ op_conv _ _ _ underlying3 underlying51 rfl),zp rfl (oB rfl (rem_ok hv48)),zp rfl ((Option.some.inj hv49) ▸ op_conv _ _ _ underlying51 underlying3 rfl),zp rfl (LOp.drop [_] (op_assign _ _ _ _ rfl rfl)),zz⟩ ?_
      refine pt_then (ht_seq ?_)
      obtain ⟨v50, hv50, h⟩ := bind_some h
      obtain ⟨v51, hv51, h⟩ := bind_some h
      refine zg hn [_,_,_,_,_,_,(65,vi n),(66,vi v50),(67,vi v51),(2,vi v51)] [0,1,2,3,4,5] [1,2,3,4,5,9] [zq [0] 6 65,zq [6] 7 66,zq [7] 8 67,⟨[8],[0],[9],[(.slot 2)]⟩] [(_,_),(_,_),(_,_),(_,_),(_,_),(_,_)] rfl ⟨z1 rfl,zp rfl (oB rfl (ibind (f := Value.int .i64) (Option.some.inj hv50))),zp rfl (oB rfl (ibind (f := Value.int .i64) (Option.some.inj hv51))),zp rfl (LOp.drop [_] (op_assign _ _ _ _ rfl rfl)),zz⟩ ?_
      refine pt_then (ht_seq ?_)
      obtain ⟨v52, hv52, h⟩ := bind_some h
      refine zg hn [_,_,_,_,_,_,(68,.mkr 5 (List.map (Value.int .u8) v3.1)),(69,.fl (.own 5) 1 (List.map (Value.int .u8) v52)),(11,.fl (.own 5) 1 (List.map (Value.int .u8) v52))] [0,1,2,3,4,5] [0,2,3,4,5,8] [⟨[],[1],[6],[(.slot 68)]⟩,zq [6] 7 69,⟨[],[7],[8],[(.slot 11)]⟩] [(_,_),(_,_),(_,_),(_,_),(_,_),(_,_)] rfl ⟨zp rfl (op_move_take _ _ _ _ rfl),zp rfl (op_call _ _ 12 _ _ rfl call12 rfl (ok_wherrykeep_Twin v3.1 _ hv52) rfl rfl),zp rfl (op_assign_take _ _ _ _ rfl),zz⟩ ?_
      refine pt_then (ht_seq ?_)
      refine zgg hn [_,_,_,_,_,_,(12,vi 0)] [0,1,2,3,4,5] [0,1,2,3,4,5,6] [zq [] 6 12] [(_,_),(_,_),(_,_),(_,_),(_,_),(_,_),(_,_)] rfl ⟨z2 rfl,zz⟩ ?_
      refine ht_loopS h (fun ((s97, s98) : (List Int) × Int) => [(126, .glob (GL mx)), (9, .v (.int .i64 v42)), (10, .v (.int .i64 v45)), (1, .v (.int .i64 v49)), (2, .v (.int .i64 v51)), (11, .fl (.own 5) 1 (List.map (Value.int .u8) s97)), (12, .v (.int .i64 s98))]) (fun (s110 : (List Int)) => [(126, .glob (GL mx)), (11, .fl (.own 5) 1 (List.map (Value.int .u8) s110))]) ?_ ?_
      ·rintro s110 h
       refine pt_then (ht_seq ?_)
       refine ht_frz 1 hio (es' := [(126, .glob (GL mx)), (11, .fl .ro 1 (List.map (Value.int .u8) s110))]) rfl ?_
       obtain ⟨v128, hv128, h⟩ := bind_some h
       refine zg hn [_,_,(112,.fl .ro 1 (List.map (Value.int .u8) s110)),(113,.tup [.agg [vi v128.1.Origin,vi v128.1.Number,.fr (.own 46) false 8 (List.flatten (List.map T_Mail.ienc v128.1.Mails))],vi v128.2]),(111,.tup [.agg [vi v128.1.Origin,vi v128.1.Number,.fr (.own 46) false 8 (List.flatten (List.map T_Mail.ienc v128.1.Mails))],vi v128.2]),(114,.agg [vi v128.1.Origin,vi v128.1.Number,.fr (.own 46) false 8 (List.flatten (List.map T_Mail.ienc v128.1.Mails))]),(111,.tup [.any,vi v128.2]),(115,vi v128.2),(13,.box 24 [vi 0,vi 0,.v (.slice none 0 0)]),(13,.box 24 [vi v128.1.Origin,vi v128.1.Number,.fr (.own 46) false 8 (List.flatten (List.map T_Mail.ienc v128.1.Mails))]),(14,vi v128.2)] [0,1] [0,9,10] [zq [1] 2 112,zq [2,0] 3 113,⟨[],[3],[4],[(.slot 111)]⟩,⟨[],[4],[6,5],[(.slot 114)]⟩,zq [6] 7 115,zq [] 8 13,⟨[],[5,8],[9],[.cell 13 0,.cell 13 1,.cell 13 2]⟩,zq [7] 10 14] [(_,_),(_,_),(_,_)] rfl ⟨z1 rfl,zp rfl (op_callRG _ _ 126 15 _ _ rfl call15 rfl rfl (fun _ h => h) (ok_bundle_Read_ro mx s110 _ hv128) rfl rfl),zp rfl (op_move_take _ _ _ _ rfl),zp rfl (op_extract_take _ _ _ _ _ rfl (zl rfl) rfl rfl (by decide) rfl),zp rfl (oE rfl),zp rfl (op_alloc _ _ zr24),zp rfl (op_store_take _ _ _ _ _ _ _ _ sz24 rfl rfl rfl (zl rfl) rfl rfl),z2 rfl,zz⟩ ?_
       refine pt_then (ht_seq ?_)
       refine ht_joinS h (fun (s131 : Bool) => [(126, .glob (GL mx)), (6, .v (.bool s131))]) ?_ ?_
       ·rintro s131 h
        refine pt_then (ht_ret ?_)
        refine pt_pick [1] (by kernel_rfl) (es' := [(_,_)]) rfl ?_
        obtain rfl := Option.some.inj h
        exact pt_ret hio rfl (.tmp _ _ .nil) rfl rfl
       ·intro u132 h hl133 hr134
        refine cond_some h (fun hg22_2 h => ?_) (fun hg22_2 h => ?_)
        ·obtain ⟨v129, hv129, h⟩ := bind_some h
         refine cond_some h (fun hg22_7 h => ?_) (fun hg22_7 h => ?_)
         ·obtain ⟨v130, hv130, h⟩ := bind_some h
          refine zg hn [_,_,_,(116,vi v128.2),(117,vb (v128.2 == 6)),(118,vb true),(119,.agg [vi v128.1.Origin,vi v128.1.Number,.fr (.own 46) false 8 (List.flatten (List.map T_Mail.ienc v128.1.Mails))]),(120,.agg [vi 0,vi 0,.v (.slice none 0 0)]),(121,vb v129),(122,vb v129),(123,vb true),(124,vb v130),(125,vb v130),(6,vb v130)] [0,1,2] [0,13] [zq [2] 3 116,zq [3] 4 117,zq [4] 5 118,⟨[5],[1],[6],[(.slot 119)]⟩,zq [5] 7 120,zq [5,6,7] 8 121,zq [5,8] 9 122,zq [9] 10 123,zq [10,0] 11 124,zq [10,11] 12 125,zq [12] 13 6] [(_,_),(_,_)] rfl ⟨z1 rfl,z4 rfl rfl,z8 hg22_2 rfl,zr' rfl (op_loadA_take _ _ _ _ underlying24 rfl sz24 rfl rfl),zr' rfl (op_build _ _ _ _ [1, 1, 1] _ _ underlying24 zr24 (fs24 _ underlying24) Src.nil rfl rfl rfl),zr' rfl (op_call _ _ 22 _ _ rfl call22 rfl ((ok_wherrykeep_Bundle v128.1 (T_Bundle.mk 0 0 []) _ hv129).args (subs_cons (sub_refl _) (subs_cons (sub_agg (subs_cons (sub_refl _) (subs_cons (sub_refl _) (subs_cons (sub_nil_frs true 8) (subs_nil))))) (subs_nil)))) rfl rfl),z3 true rfl,z8 hg22_7 rfl,zr' rfl (op_callG _ _ 126 25 _ _ rfl call25 rfl rfl (fun _ h => h) (ok_wherrylaw17_wakes mx  _ hv130) rfl rfl),z3 true rfl,z2 rfl,zz⟩ ?_
          exact hl133 _ (Option.some.inj h).symm
         ·refine zg hn [_,_,_,(116,vi v128.2),(117,vb (v128.2 == 6)),(118,vb true),(119,.agg [vi v128.1.Origin,vi v128.1.Number,.fr (.own 46) false 8 (List.flatten (List.map T_Mail.ienc v128.1.Mails))]),(120,.agg [vi 0,vi 0,.v (.slice none 0 0)]),(121,vb v129),(122,vb v129),(123,vb false),(124,.v undef),(125,vb false),(6,vb false)] [0,1,2] [0,13] [zq [2] 3 116,zq [3] 4 117,zq [4] 5 118,⟨[5],[1],[6],[(.slot 119)]⟩,zq [5] 7 120,zq [5,6,7] 8 121,zq [5,8] 9 122,zq [9] 10 123,zq [10] 11 124,zq [10] 12 125,zq [12] 13 6] [(_,_),(_,_)] rfl ⟨z1 rfl,z4 rfl rfl,z8 hg22_2 rfl,zr' rfl (op_loadA_take _ _ _ _ underlying24 rfl sz24 rfl rfl),zr' rfl (op_build _ _ _ _ [1, 1, 1] _ _ underlying24 zr24 (fs24 _ underlying24) Src.nil rfl rfl rfl),zr' rfl (op_call _ _ 22 _ _ rfl call22 rfl ((ok_wherrykeep_Bundle v128.1 (T_Bundle.mk 0 0 []) _ hv129).args (subs_cons (sub_refl _) (subs_cons (sub_agg (subs_cons (sub_refl _) (subs_cons (sub_refl _) (subs_cons (sub_nil_frs true 8) (subs_nil))))) (subs_nil)))) rfl rfl),z3 true rfl,z8 hg22_7 rfl,zt rfl,z3 false rfl,z2 rfl,zz⟩ ?_
          exact hl133 _ (Option.some.inj h).symm
        ·refine zg hn [_,_,_,(116,vi v128.2),(117,vb (v128.2 == 6)),(118,vb false),(119,.v undef),(120,.v undef),(121,.v undef),(122,vb false),(123,vb false),(124,.v undef),(125,vb false),(6,vb false)] [0,1,2] [0,13] [zq [2] 3 116,zq [3] 4 117,zq [4] 5 118,zq [5] 6 119,zq [5] 7 120,zq [5] 8 121,zq [5] 9 122,zq [9] 10 123,zq [10] 11 124,zq [10] 12 125,zq [12] 13 6] [(_,_),(_,_)] rfl ⟨z1 rfl,z4 rfl rfl,z8 hg22_2 rfl,zt rfl,zt rfl,zt rfl,z3 false rfl,z1 rfl,zt rfl,z3 false rfl,z2 rfl,zz⟩ ?_
         exact hl133 _ (Option.some.inj h).symm
      ·rintro u111 hl112 hr113 ⟨s97, s98⟩ rr116 h ho114
       refine ht_seq ?_
       refine ht_seq ?_
       refine ht_joinS h (fun (s117 : Bool) => [(126, .glob (GL mx)), (9, .v (.int .i64 v42)), (10, .v (.int .i64 v45)), (1, .v (.int .i64 v49)), (2, .v (.int .i64 v51)), (11, .fl (.own 5) 1 (List.map (Value.int .u8) s97)), (12, .v (.int .i64 s98)), (78, .v (.bool s117))]) ?_ ?_
       ·rintro s117 h
        refine pt_then ?_
        refine ht_cond _ rfl (fun hb121 => ?_) (fun hb121 => ?_)
        ·have h := cond_t hb121 h
         refine ht_skip ?_
         refine pt_then (ht_seq ?_)
         refine ht_joinS h (fun (s123 : (List Int)) => [(126, .glob (GL mx)), (9, .v (.int .i64 v42)), (10, .v (.int .i64 v45)), (1, .v (.int .i64 v49)), (2, .v (.int .i64 v51)), (11, .fl (.own 5) 1 (List.map (Value.int .u8) s123)), (12, .v (.int .i64 s98))]) ?_ ?_
         ·rintro s123 h
          refine pt_then ?_
          obtain ⟨v83, hv83, h⟩ := bind_some h
          refine zg hn [_,_,_,_,_,_,_,(79,vi s98),(80,vi v83),(12,vi v83)] [0,1,2,3,4,5,6] [0,1,2,3,4,5,9] [zq [6] 7 79,zq [7] 8 80,⟨[8],[6],[9],[(.slot 12)]⟩] [(_,_),(_,_),(_,_),(_,_),(_,_),(_,_),(_,_)] rfl ⟨z1 rfl,zp rfl (oB rfl (ibind (f := Value.int .i64) (Option.some.inj hv83))),zp rfl (LOp.drop [_] (op_assign _ _ _ _ rfl rfl)),zz⟩ ?_
          exact pt_next _ (Option.some.inj h).symm rfl
         ·intro u124 h hl125 hr126
          refine ht_block ?_
          refine ht_seq ?_
          obtain ⟨v59, hv59, h⟩ := bind_some h
          obtain ⟨v60, hv60, h⟩ := bind_some h
          obtain ⟨v61, hv61, h⟩ := bind_some h
          refine zg hn [_,_,_,_,_,_,_,_,(81,vi v51),(82,vi s98),(83,.v (.int .u64 v59)),(84,vi v60),(85,vi v61),(86,vb (v61 == 1))] [0,1,2,3,4,5,6,7] [0,1,2,3,4,5,6,13] [zq [4] 8 81,zq [6] 9 82,zq [9] 10 83,zq [8,10] 11 84,zq [11] 12 85,zq [12] 13 86] [(_,_),(_,_),(_,_),(_,_),(_,_),(_,_),(_,_),(_,_)] rfl ⟨z1 rfl,z1 rfl,zp rfl ((Option.some.inj hv59) ▸ op_conv _ _ _ underlying3 underlying51 rfl),zp rfl (oB rfl (shr_ok hv60)),zp rfl (oB rfl (ibind (f := Value.int .i64) (Option.some.inj hv61))),z4 rfl rfl,zz⟩ ?_
          refine pt_then ?_
          refine ht_cond _ rfl (fun hb127 => ?_) (fun hb127 => ?_)
          ·have h := cond_t hb127 h
           obtain ⟨v63, hv63, h⟩ := bind_some h
           obtain ⟨v64, hv64, h⟩ := bind_some h
           obtain ⟨v65, hv65, h⟩ := bind_some h
           obtain ⟨v66, hv66, h⟩ := bind_some h
           obtain ⟨v67, hv67, h⟩ := bind_some h
           obtain ⟨v68, hv68, h⟩ := bind_some h
           obtain ⟨v69, hv69, h⟩ := bind_some h
           obtain ⟨v70, hv70, h⟩ := bind_some h
           obtain ⟨v71, hv71, h⟩ := bind_some h
           obtain ⟨v72, hv72, h⟩ := bind_some h
           obtain ⟨v73, hv73, h⟩ := bind_some h
           obtain ⟨v74, hv74, h⟩ := bind_some h
           obtain ⟨v75, hv75, h⟩ := bind_some h
           obtain ⟨v76, hv76, h⟩ := bind_some h
           obtain ⟨v77, hv77, h⟩ := bind_some h
           refine zg hn (_::_::_::_::_::_::_::_::(87,.same (.slot 11))::(88,vi v42)::(89,vi v49)::(90,vi s98)::(91,vi v63)::(92,vi v64)::(93,vi v65)::(94,.same (.slot 11))::(95,vi v42)::(96,vi v49)::(97,vi s98)::(98,vi v66)::(99,vi v67)::(100,vi v68)::(101,.eref (.slot 11) (v69 * 1))::(102,.v (.int .u8 v70))::(103,vi v49)::(104,vi s98)::(105,vi v71)::(106,vi v72)::(107,.v (.int .u64 v73))::(108,.v (.int .u8 v74))::(109,.v (.int .u8 v75))::(110,.eref (.slot 11) (v76 * 1))::(11,.fl (.own 5) 1 (List.map (Value.int .u8) v77))::[]) [0,1,2,3,4,5,6,7] [0,1,2,3,4,32,6] (zq [5] 8 87::zq [1] 9 88::zq [3] 10 89::zq [6] 11 90::zq [10,11] 12 91::zq [12] 13 92::zq [9,13] 14 93::zq [5] 15 94::zq [1] 16 95::zq [3] 17 96::zq [6] 18 97::zq [17,18] 19 98::zq [19] 20 99::zq [16,20] 21 100::zq [15,5,21] 22 101::zq [22,5] 23 102::zq [3] 24 103::zq [6] 25 104::zq [24,25] 26 105::zq [26] 27 106::zq [27] 28 107::zq [28] 29 108::zq [23,29] 30 109::zq [8,5,14] 31 110::⟨[31,30],[5],[32],[]⟩::[]) [(_,_),(_,_),(_,_),(_,_),(_,_),(_,_),(_,_)] rfl ⟨z1 rfl,z1 rfl,z1 rfl,z1 rfl,zp rfl (oB rfl (ibind (f := Value.int .i64) (Option.some.inj hv63))),zp rfl (oB rfl (quo_ok hv64)),zp rfl (oB rfl (ibind (f := Value.int .i64) (Option.some.inj hv65))),z1 rfl,z1 rfl,z1 rfl,z1 rfl,zp rfl (oB rfl (ibind (f := Value.int .i64) (Option.some.inj hv66))),zp rfl (oB rfl (quo_ok hv67)),zp rfl (oB rfl (ibind (f := Value.int .i64) (Option.some.inj hv68))),zp rfl (op_ix _ _ _ _ _ _ _ _ underlying25 sz5 (by decide) rfl rfl rfl (ix_ok hv69).1 (map_lt (ix_ok hv69).2) rfl),zp rfl (op_load_e _ _ _ _ _ _ underlying5 rfl rfl rfl (map_get hv70)),z1 rfl,z1 rfl,zp rfl (oB rfl (ibind (f := Value.int .i64) (Option.some.inj hv71))),zp rfl (oB rfl (rem_ok hv72)),zp rfl ((Option.some.inj hv73) ▸ op_conv _ _ _ underlying3 underlying51 rfl),zp rfl (oB rfl (shl_ok hv74)),zp rfl (oB rfl (ibind (f := Value.int .u8) (Option.some.inj hv75))),zp rfl (op_ix _ _ _ _ _ _ _ _ underlying25 sz5 (by decide) rfl rfl rfl (ix_ok hv76).1 (map_lt (ix_ok hv76).2) rfl),zp rfl (op_store_e _ _ _ _ _ _ _ _ sz5 rfl rfl rfl (by decide) (map_lt (ix_ok hv76).2) ((map_set (f := Value.int .u8) _ (ix_ok hv76).2).trans (congrArg (List.map _) (Option.some.inj hv77)))),zz⟩ ?_
           refine pt_inb ?_
           exact hl125 _ (Option.some.inj h).symm
          ·have h := cond_f hb127 h
           refine ht_skip ?_
           refine pt_inb ?_
           refine pt_pick [0, 1, 2, 3, 4, 5, 6] (by kernel_rfl) (es' := [(_,_),(_,_),(_,_),(_,_),(_,_),(_,_),(_,_)]) rfl ?_
           exact hl125 _ (Option.some.inj h).symm
        ·have h := cond_f hb121 h
         refine ht_exit ?_
         refine pt_x_then ?_
         refine pt_x_then ?_
         refine pt_x_in ?_
         refine pt_pick [0, 5] (by kernel_rfl) (es' := [(_,_),(_,_)]) rfl ?_
         exact hl112 _ (ho114 _ (Option.some.inj h).symm).symm
       ·intro u118 h hl119 hr120
        refine cond_some h (fun hg17_2 h => ?_) (fun hg17_2 h => ?_)
        ·obtain ⟨v53, hv53, h⟩ := bind_some h
         refine zg hn (_::_::_::_::_::_::_::(70,vi s98)::(71,vb (decide (s98 < 32)))::(72,vb true)::(73,vi v49)::(74,vi s98)::(75,vi v53)::(76,vi v45)::(77,vb (decide (v53 < v45)))::(78,vb (decide (v53 < v45)))::[]) [0,1,2,3,4,5,6] [0,1,2,3,4,5,6,15] [zq [6] 7 70,zq [7] 8 71,zq [8] 9 72,zq [9,3] 10 73,zq [9,6] 11 74,zq [9,10,11] 12 75,zq [9,2] 13 76,zq [9,12,13] 14 77,zq [9,14] 15 78] [(_,_),(_,_),(_,_),(_,_),(_,_),(_,_),(_,_),(_,_)] rfl ⟨z1 rfl,z4 rfl rfl,z8 hg17_2 rfl,zr' rfl (oM rfl),zr' rfl (oM rfl),zr' rfl (oB rfl (ibind (f := Value.int .i64) (Option.some.inj hv53))),zr' rfl (oM rfl),zr' rfl (oB rfl rfl),z3 true rfl,zz⟩ ?_
         exact hl119 _ (Option.some.inj h).symm
        ·refine zg hn (_::_::_::_::_::_::_::(70,vi s98)::(71,vb (decide (s98 < 32)))::(72,vb false)::(73,.v undef)::(74,.v undef)::(75,.v undef)::(76,.v undef)::(77,.v undef)::(78,vb false)::[]) [0,1,2,3,4,5,6] [0,1,2,3,4,5,6,15] [zq [6] 7 70,zq [7] 8 71,zq [8] 9 72,zq [9] 10 73,zq [9] 11 74,zq [9] 12 75,zq [9] 13 76,zq [9] 14 77,zq [9] 15 78] [(_,_),(_,_),(_,_),(_,_),(_,_),(_,_),(_,_),(_,_)] rfl ⟨z1 rfl,z4 rfl rfl,z8 hg17_2 rfl,zt rfl,zt rfl,zt rfl,zt rfl,zt rfl,z3 false rfl,zz⟩ ?_
         exact hl119 _ (Option.some.inj h).symm
    ·rintro u31 hl32 hr33 s24 rr36 h ho34
     refine ht_seq ?_
     refine ht_seq ?_
     refine ht_joinS h (fun (s37 : Bool) => [(1, .v (.int .i64 at_)), (2, .v (.int .i64 n)), (126, .glob (GL mx)), (7, .mkr 5 (List.map (Value.int .u8) v3.1)), (9, .v (.int .i64 s24)), (45, .v (.bool s37))]) ?_ ?_
     ·rintro s37 h
      refine pt_then ?_
      refine ht_cond _ rfl (fun hb41 => ?_) (fun hb41 => ?_)
      ·have h := cond_t hb41 h
       refine ht_skip ?_
       refine pt_then ?_
       refine ht_block ?_
       obtain ⟨v17, hv17, h⟩ := bind_some h
       refine zg hn [_,_,_,_,_,_,(46,vi s24),(47,vi v17),(9,vi v17)] [0,1,2,3,4,5] [0,1,2,3,8] [zq [4] 6 46,zq [6] 7 47,⟨[7],[4],[8],[(.slot 9)]⟩] [(_,_),(_,_),(_,_),(_,_),(_,_)] rfl ⟨z1 rfl,zp rfl (oB rfl (ibind (f := Value.int .i64) (Option.some.inj hv17))),zp rfl (LOp.drop [_] (op_assign _ _ _ _ rfl rfl)),zz⟩ ?_
       refine pt_inb ?_
       exact pt_next _ (Option.some.inj h).symm rfl
      ·have h := cond_f hb41 h
       refine ht_exit ?_
       refine pt_x_then ?_
       refine pt_x_then ?_
       refine pt_x_in ?_
       refine pt_pick [0, 1, 2, 3, 4] (by kernel_rfl) (es' := [(_,_),(_,_),(_,_),(_,_),(_,_)]) rfl ?_
       exact hl32 _ (ho34 _ (Option.some.inj h).symm).symm
     ·intro u38 h hl39 hr40
      obtain ⟨v6, hv6, h⟩ := bind_some h
      refine cond_some h (fun hg7_5 h => ?_) (fun hg7_5 h => ?_)
      ·obtain ⟨v7, hv7, h⟩ := bind_some h
       obtain ⟨v8, hv8, h⟩ := bind_some h
       refine cond_some h (fun hg7_11 h => ?_) (fun hg7_11 h => ?_)
       ·refine zg hn (_::_::_::_::_::(26,vi s24)::(27,vi v6)::(28,.same (.slot 7))::(29,vi (v3.1.length : Int))::(30,vb (decide (v6 < (v3.1.length : Int))))::(31,vb true)::(32,.same (.slot 7))::(33,vi s24)::(34,.eref (.slot 7) (v7 * 1))::(35,.v (.int .u8 v8))::(36,vb (v8 != 13))::(37,vb true)::(38,.v undef)::(39,.v undef)::(40,.v undef)::(41,.v undef)::(42,.v undef)::(43,.v undef)::(44,vb true)::(45,vb true)::[]) [0,1,2,3,4] [0,1,2,3,4,24] (zq [4] 5 26::zq [5] 6 27::zq [3] 7 28::zq [7,3] 8 29::zq [6,8] 9 30::zq [9] 10 31::zq [10,3] 11 32::zq [10,4] 12 33::zq [10,11,3,12] 13 34::zq [10,13,3] 14 35::zq [10,14] 15 36::zq [10,15] 16 37::zq [16] 17 38::zq [16] 18 39::zq [16] 19 40::zq [16] 20 41::zq [16] 21 42::zq [16] 22 43::zq [10,16] 23 44::zq [10,23] 24 45::[]) [(_,_),(_,_),(_,_),(_,_),(_,_),(_,_)] rfl ⟨z1 rfl,zp rfl (oB rfl (ibind (f := Value.int .i64) (Option.some.inj hv6))),z1 rfl,zp rfl (op_len_mk _ _ _ underlying25 rfl (List.length_map _)),z4 rfl rfl,z8 hg7_5 rfl,zr' rfl (oM rfl),zr' rfl (oM rfl),zr' rfl (op_ix_mk _ _ _ _ _ _ _ underlying25 sz5 rfl rfl rfl (ix_ok hv7).1 (mk_lt' (ix_ok hv7).2) rfl),zr' rfl (op_load_mk _ _ _ _ _ _ underlying5 rfl rfl rfl (map_get hv8)),zr' rfl (oB rfl rfl),zr' rfl (op_move _ _ _ _ (zb hg7_11) rfl),zf rfl,zf rfl,zf rfl,zf rfl,zf rfl,zf rfl,zr' rfl (op_pick _ _ true _ rfl rfl),z3 true rfl,zz⟩ ?_
        exact hl39 _ (Option.some.inj h).symm
       ·obtain ⟨v9, hv9, h⟩ := bind_some h
        obtain ⟨v10, hv10, h⟩ := bind_some h
        obtain ⟨v11, hv11, h⟩ := bind_some h
        refine zg hn (_::_::_::_::_::(26,vi s24)::(27,vi v6)::(28,.same (.slot 7))::(29,vi (v3.1.length : Int))::(30,vb (decide (v6 < (v3.1.length : Int))))::(31,vb true)::(32,.same (.slot 7))::(33,vi s24)::(34,.eref (.slot 7) (v7 * 1))::(35,.v (.int .u8 v8))::(36,vb (v8 != 13))::(37,vb false)::(38,.same (.slot 7))::(39,vi s24)::(40,vi v9)::(41,.eref (.slot 7) (v10 * 1))::(42,.v (.int .u8 v11))::(43,vb (v11 != 10))::(44,vb (v11 != 10))::(45,vb (v11 != 10))::[]) [0,1,2,3,4] [0,1,2,3,4,24] (zq [4] 5 26::zq [5] 6 27::zq [3] 7 28::zq [7,3] 8 29::zq [6,8] 9 30::zq [9] 10 31::zq [10,3] 11 32::zq [10,4] 12 33::zq [10,11,3,12] 13 34::zq [10,13,3] 14 35::zq [10,14] 15 36::zq [10,15] 16 37::zq [16,3] 17 38::zq [16,4] 18 39::zq [16,18] 19 40::zq [16,17,3,19] 20 41::zq [16,20,3] 21 42::zq [16,21] 22 43::zq [10,16,22] 23 44::zq [10,23] 24 45::[]) [(_,_),(_,_),(_,_),(_,_),(_,_),(_,_)] rfl ⟨z1 rfl,zp rfl (oB rfl (ibind (f := Value.int .i64) (Option.some.inj hv6))),z1 rfl,zp rfl (op_len_mk _ _ _ underlying25 rfl (List.length_map _)),z4 rfl rfl,z8 hg7_5 rfl,zr' rfl (oM rfl),zr' rfl (oM rfl),zr' rfl (op_ix_mk _ _ _ _ _ _ _ underlying25 sz5 rfl rfl rfl (ix_ok hv7).1 (mk_lt' (ix_ok hv7).2) rfl),zr' rfl (op_load_mk _ _ _ _ _ _ underlying5 rfl rfl rfl (map_get hv8)),zr' rfl (oB rfl rfl),zr' rfl (op_move _ _ _ _ (zb hg7_11) rfl),zr' rfl (oM rfl),zr' rfl (oM rfl),zr' rfl (oB rfl (ibind (f := Value.int .i64) (Option.some.inj hv9))),zr' rfl (op_ix_mk _ _ _ _ _ _ _ underlying25 sz5 rfl rfl rfl (ix_ok hv10).1 (mk_lt' (ix_ok hv10).2) rfl),zr' rfl (op_load_mk _ _ _ _ _ _ underlying5 rfl rfl rfl (map_get hv11)),zr' rfl (oB rfl rfl),zr' rfl (op_pick _ _ false _ rfl rfl),z3 true rfl,zz⟩ ?_
        exact hl39 _ (Option.some.inj h).symm
      ·refine zg hn (_::_::_::_::_::(26,vi s24)::(27,vi v6)::(28,.same (.slot 7))::(29,vi (v3.1.length : Int))::(30,vb (decide (v6 < (v3.1.length : Int))))::(31,vb false)::(32,.v undef)::(33,.v undef)::(34,.v undef)::(35,.v undef)::(36,.v undef)::(37,.v undef)::(38,.v undef)::(39,.v undef)::(40,.v undef)::(41,.v undef)::(42,.v undef)::(43,.v undef)::(44,.v undef)::(45,vb false)::[]) [0,1,2,3,4] [0,1,2,3,4,24] (zq [4] 5 26::zq [5] 6 27::zq [3] 7 28::zq [7,3] 8 29::zq [6,8] 9 30::zq [9] 10 31::zq [10] 11 32::zq [10] 12 33::zq [10] 13 34::zq [10] 14 35::zq [10] 15 36::zq [10] 16 37::zq [16] 17 38::zq [16] 18 39::zq [16] 19 40::zq [16] 20 41::zq [16] 21 42::zq [16] 22 43::zq [10] 23 44::zq [10] 24 45::[]) [(_,_),(_,_),(_,_),(_,_),(_,_),(_,_)] rfl ⟨z1 rfl,zp rfl (oB rfl (ibind (f := Value.int .i64) (Option.some.inj hv6))),z1 rfl,zp rfl (op_len_mk _ _ _ underlying25 rfl (List.length_map _)),z4 rfl rfl,z8 hg7_5 rfl,zt rfl,zt rfl,zt rfl,zt rfl,zt rfl,zt rfl,zu' rfl,zu' rfl,zu' rfl,zu' rfl,zu' rfl,zu' rfl,zt rfl,z3 false rfl,zz⟩ ?_
       exact hl39 _ (Option.some.inj h).symm

end Go.Proofs.YtglabbpbianmnaaGreatDoor
