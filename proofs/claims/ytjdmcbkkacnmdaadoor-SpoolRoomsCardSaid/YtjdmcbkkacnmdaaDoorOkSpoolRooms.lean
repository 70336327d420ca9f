/-
  The model's runs are what is told in Lean.
-/
import Derived.Test.YtjdmcbkkacnmdaaDoorProg
import Derived.KernelRfl
import Derived.Test.YtjdmcbkkacnmdaaDoorShelf
import Derived.Test.YtjdmcbkkacnmdaaDoorIdx
import Derived.Test.YtjdmcbkkacnmdaaDoorIns
import Derived.Test.YtjdmcbkkacnmdaaDoorB1
import Derived.Test.YtjdmcbkkacnmdaaDoorOkc3
set_option linter.unusedVariables false
set_option linter.unusedSimpArgs false
set_option maxHeartbeats 1000000
namespace Go.Proofs.YtjdmcbkkacnmdaaDoor
open Go.Abs Go.Abs.Sh Tryd

theorem ok_wherrylaw19_SpoolRooms (mx : Int) (l : (List T_Rec)) (r : Bool) (h : Sh.wherrylaw19_SpoolRooms l = some r) : FnG Tryd.prog (GL mx) 7 [.fr .shr true 15 (List.flatten (List.map T_Rec.ienc l))] (.v (.bool r)) := by
  unfold Sh.wherrylaw19_SpoolRooms at h
  refine fn_okG func7 rfl (zl rfl) rfl rfl fun g0 hn hio => ?_
  refine zgg hn [_,_,(2,vb false)] [0,1] [0,1] [zq [] 2 2] [(_,_),(_,_)] rfl ⟨z2 rfl,zz⟩ ?_
  refine ht_seq ?_
  refine ht_seq ?_
  obtain ⟨v1, hv1, h⟩ := bind_some h
  refine zg hn [_,_,(12,.fr .shr true 15 (List.flatten (List.map T_Rec.ienc l))),(13,vb v1)] [0,1] [0,1,3] [zq [0] 2 12,zq [2] 3 13] [(_,_),(_,_),(_,_)] rfl ⟨z1 rfl,zp rfl (op_call _ _ 8 _ _ rfl call8 rfl (ok_wherrylaw18_Heavy l _ hv1) rfl rfl),zz⟩ ?_
  refine pt_then ?_
  refine ht_cond _ rfl (fun hb2 => ?_) (fun hb2 => ?_)
  ·have h := cond_t hb2 h
   refine zgg hn [_,_,_,(2,vb true)] [0,1,2] [1,3] [zq [] 3 2] [(_,_),(_,_)] rfl ⟨z2 rfl,zz⟩ ?_
   refine ht_ret ?_
   refine pt_pick [1] (by kernel_rfl) (es' := [(_,_)]) rfl ?_
   refine pt_r_then ?_
   obtain rfl := Option.some.inj h
   exact pt_ret hio rfl (.tmp _ _ .nil) rfl rfl
  ·have h := cond_f hb2 h
   refine ht_skip ?_
   refine pt_then (ht_seq ?_)
   obtain ⟨v3, hv3, h⟩ := bind_some h
   refine zg hn [_,_,_,(15,.fr .shr true 15 (List.flatten (List.map T_Rec.ienc l))),(16,.tup [.agg [.fr (.own 41) false 11 (List.flatten (List.map T_Item.ienc v3.1.Items)),vi v3.1.Packs,.fl (.own 3) 1 (List.map (Value.int .i64) v3.1.Sent),.fl (.own 5) 1 (List.map (Value.int .u8) v3.1.Part),vi v3.1.Of,.fl (.own 3) 1 (List.map (Value.int .i64) v3.1.Done)],vi v3.2]),(14,.tup [.agg [.fr (.own 41) false 11 (List.flatten (List.map T_Item.ienc v3.1.Items)),vi v3.1.Packs,.fl (.own 3) 1 (List.map (Value.int .i64) v3.1.Sent),.fl (.own 5) 1 (List.map (Value.int .u8) v3.1.Part),vi v3.1.Of,.fl (.own 3) 1 (List.map (Value.int .i64) v3.1.Done)],vi v3.2]),(17,.agg [.fr (.own 41) false 11 (List.flatten (List.map T_Item.ienc v3.1.Items)),vi v3.1.Packs,.fl (.own 3) 1 (List.map (Value.int .i64) v3.1.Sent),.fl (.own 5) 1 (List.map (Value.int .u8) v3.1.Part),vi v3.1.Of,.fl (.own 3) 1 (List.map (Value.int .i64) v3.1.Done)]),(14,.tup [.any,vi v3.2]),(18,vi v3.2),(3,.box 28 [.v (.slice none 0 0),vi 0,.v (.slice none 0 0),.v (.slice none 0 0),vi 0,.v (.slice none 0 0)]),(3,.box 28 [.fr (.own 41) false 11 (List.flatten (List.map T_Item.ienc v3.1.Items)),vi v3.1.Packs,.fl (.own 3) 1 (List.map (Value.int .i64) v3.1.Sent),.fl (.own 5) 1 (List.map (Value.int .u8) v3.1.Part),vi v3.1.Of,.fl (.own 3) 1 (List.map (Value.int .i64) v3.1.Done)]),(4,vi v3.2)] [0,1,2] [0,1,11] [zq [0] 3 15,zq [3,1] 4 16,⟨[],[4],[5],[(.slot 14)]⟩,⟨[],[5],[7,6],[(.slot 17)]⟩,zq [7] 8 18,zq [] 9 3,⟨[],[6,9],[10],[.cell 3 0,.cell 3 1,.cell 3 2,.cell 3 3,.cell 3 4,.cell 3 5]⟩,zq [8] 11 4] [(_,_),(_,_),(_,_)] rfl ⟨z1 rfl,zp rfl (op_callG _ _ 91 16 _ _ rfl call16 rfl rfl (fun _ h => h) (ok_spool_Fold mx l _ hv3) rfl rfl),zp rfl (op_move_take _ _ _ _ rfl),zp rfl (op_extract_take _ _ _ _ _ rfl (zl rfl) rfl rfl (by decide) rfl),zp rfl (oE rfl),zp rfl (op_alloc _ _ zr28),zp rfl (op_store_take _ _ _ _ _ _ _ _ sz28 rfl rfl rfl (zl rfl) rfl rfl),z2 rfl,zz⟩ ?_
   refine pt_then (ht_seq ?_)
   obtain ⟨v4, hv4, h⟩ := bind_some h
   refine zg hn [_,_,_,(19,.fr .shr true 15 (List.flatten (List.map T_Rec.ienc l))),(20,.fr (.own 39) false 15 (List.flatten (List.map T_Rec.ienc v4))),(5,.fr (.own 39) false 15 (List.flatten (List.map T_Rec.ienc v4)))] [0,1,2] [0,1,2,5] [zq [0] 3 19,zq [3,1] 4 20,⟨[],[4],[5],[(.slot 5)]⟩] [(_,_),(_,_),(_,_),(_,_)] rfl ⟨z1 rfl,zp rfl (op_callG _ _ 91 19 _ _ rfl call19 rfl rfl (fun _ h => h) (ok_spool_Lean mx l _ hv4) rfl rfl),zp rfl (op_assign_take _ _ _ _ rfl),zz⟩ ?_
   refine pt_then (ht_seq ?_)
   refine ht_seq ?_
   refine ht_joinS h (fun (s5 : Bool) => [(0, .fr .shr true 15 (List.flatten (List.map T_Rec.ienc l))), (91, .glob (GL mx)), (4, .v (.int .i64 v3.2)), (5, .fr (.own 39) false 15 (List.flatten (List.map T_Rec.ienc v4))), (28, .v (.bool s5))]) ?_ ?_
   ·rintro s5 h
    refine pt_then ?_
    refine ht_cond _ rfl (fun hb9 => ?_) (fun hb9 => ?_)
    ·have h := cond_t hb9 h
     refine zgg hn [_,_,_,_,_,(2,vb false)] [0,1,2,3,4] [1,5] [zq [] 5 2] [(_,_),(_,_)] rfl ⟨z2 rfl,zz⟩ ?_
     refine ht_ret ?_
     refine pt_pick [1] (by kernel_rfl) (es' := [(_,_)]) rfl ?_
     refine pt_r_then ?_
     obtain rfl := Option.some.inj h
     exact pt_ret hio rfl (.tmp _ _ .nil) rfl rfl
    ·have h := cond_f hb9 h
     refine ht_skip ?_
     refine pt_then ?_
     refine zgg hn [_,_,_,_,_,(6,.v (.slice none 0 0)),(7,.v (.slice none 0 0))] [0,1,2,3,4] [0,1,2,3,5,6] [zq [] 5 6,zq [] 6 7] [(_,_),(_,_),(_,_),(_,_),(_,_),(_,_)] rfl ⟨z2 rfl,z2 rfl,zz⟩ ?_
     refine zgg hn [_,_,_,_,_,_,(8,vi 0),(9,vi 0)] [0,1,2,3,4,5] [0,1,2,3,4,5,6,7] [zq [] 6 8,zq [] 7 9] [(_,_),(_,_),(_,_),(_,_),(_,_),(_,_),(_,_),(_,_)] rfl ⟨z2 rfl,z2 rfl,zz⟩ ?_
     refine ht_seq ?_
     refine zgg hn [_,_,_,_,_,_,_,_,(10,vi 0)] [0,1,2,3,4,5,6,7] [0,1,2,3,4,5,6,7,8] [zq [] 8 10] [(_,_),(_,_),(_,_),(_,_),(_,_),(_,_),(_,_),(_,_),(_,_)] rfl ⟨z2 rfl,zz⟩ ?_
     refine ht_sub (fs := [(0, .fr .shr true 15 (List.flatten (List.map T_Rec.ienc l))), (91, .glob (GL mx)), (4, .v (.int .i64 v3.2)), (5, .fr (.own 39) false 15 (List.flatten (List.map T_Rec.ienc v4))), (6, .fr (.own 39) true 15 (List.flatten (List.map T_Rec.ienc []))), (7, .v (.slice none 0 0)), (8, .v (.int .i64 0)), (9, .v (.int .i64 0)), (10, .v (.int .i64 0))]) (.same _ (.same _ (.same _ (.same _ (.sub _ (sub_nil_fr 39 true 15) rfl (.same _ (.same _ (.same _ (.same _ .nil))))))))) ?_
     refine ht_loopS h (fun ((s39, s40, s41) : (List T_Rec) × Int × Int) => [(0, .fr .shr true 15 (List.flatten (List.map T_Rec.ienc l))), (91, .glob (GL mx)), (4, .v (.int .i64 v3.2)), (5, .fr (.own 39) false 15 (List.flatten (List.map T_Rec.ienc v4))), (6, .fr (.own 39) true 15 (List.flatten (List.map T_Rec.ienc s39))), (7, .v (.slice none 0 0)), (8, .v (.int .i64 s40)), (9, .v (.int .i64 0)), (10, .v (.int .i64 s41))]) (fun ((s50, s51) : (List T_Rec) × Int) => [(91, .glob (GL mx)), (5, .fr (.own 39) false 15 (List.flatten (List.map T_Rec.ienc v4))), (6, .fr (.own 39) true 15 (List.flatten (List.map T_Rec.ienc s50))), (7, .v (.slice none 0 0)), (8, .v (.int .i64 s51)), (9, .v (.int .i64 0))]) ?_ ?_
     ·rintro ⟨s50, s51⟩ h
      refine pt_then (ht_seq ?_)
      refine zgg hn [_,_,_,_,_,_,(11,vi 0)] [0,1,2,3,4,5] [0,1,2,3,4,5,6] [zq [] 6 11] [(_,_),(_,_),(_,_),(_,_),(_,_),(_,_),(_,_)] rfl ⟨z2 rfl,zz⟩ ?_
      refine ht_sub (fs := [(91, .glob (GL mx)), (5, .fr (.own 39) false 15 (List.flatten (List.map T_Rec.ienc v4))), (6, .fr (.own 39) true 15 (List.flatten (List.map T_Rec.ienc s50))), (7, .fr (.own 39) false 15 (List.flatten (List.map T_Rec.ienc []))), (8, .v (.int .i64 s51)), (9, .v (.int .i64 0)), (11, .v (.int .i64 0))]) (.same _ (.same _ (.same _ (.sub _ (sub_nil_fr 39 false 15) rfl (.same _ (.same _ (.same _ .nil))))))) ?_
      refine ht_loopS h (fun ((s95, s96, s97) : (List T_Rec) × Int × Int) => [(91, .glob (GL mx)), (5, .fr (.own 39) false 15 (List.flatten (List.map T_Rec.ienc v4))), (6, .fr (.own 39) true 15 (List.flatten (List.map T_Rec.ienc s50))), (7, .fr (.own 39) false 15 (List.flatten (List.map T_Rec.ienc s95))), (8, .v (.int .i64 s51)), (9, .v (.int .i64 s96)), (11, .v (.int .i64 s97))]) (fun ((s106, s107) : (List T_Rec) × Int) => [(91, .glob (GL mx)), (6, .fr (.own 39) true 15 (List.flatten (List.map T_Rec.ienc s50))), (7, .fr (.own 39) false 15 (List.flatten (List.map T_Rec.ienc s106))), (8, .v (.int .i64 s51)), (9, .v (.int .i64 s107))]) ?_ ?_
      ·rintro ⟨s106, s107⟩ h
       refine pt_then (ht_seq ?_)
       refine ht_joinS h (fun (s124 : Bool) => [(91, .glob (GL mx)), (2, .v (.bool s124))]) ?_ ?_
       ·rintro s124 h
        refine pt_then (ht_ret ?_)
        refine pt_pick [1] (by kernel_rfl) (es' := [(_,_)]) rfl ?_
        obtain rfl := Option.some.inj h
        exact pt_ret hio rfl (.tmp _ _ .nil) rfl rfl
       ·intro u125 h hl126 hr127
        refine cond_some h (fun hg21_3 h => ?_) (fun hg21_3 h => ?_)
        ·obtain ⟨v122, hv122, h⟩ := bind_some h
         refine cond_some h (fun hg21_8 h => ?_) (fun hg21_8 h => ?_)
         ·obtain ⟨v123, hv123, h⟩ := bind_some h
          refine zg hn (_::_::_::_::_::(80,vi s107)::(81,vi s51)::(82,vb (decide (s107 ≤ s51)))::(83,vb true)::(84,.fr (.own 39) true 15 (List.flatten (List.map T_Rec.ienc s50)))::(85,.fr (.own 39) false 15 (List.flatten (List.map T_Rec.ienc s106)))::(86,vb v122)::(87,vb v122)::(88,vb true)::(89,vb v123)::(90,vb v123)::(2,vb v123)::[]) [0,1,2,3,4] [0,16] [zq [4] 5 80,zq [3] 6 81,zq [5,6] 7 82,zq [7] 8 83,⟨[8],[1],[9],[(.slot 84)]⟩,⟨[8],[2],[10],[(.slot 85)]⟩,zq [8,9,10] 11 86,zq [8,11] 12 87,zq [12] 13 88,zq [13,0] 14 89,zq [13,14] 15 90,zq [15] 16 2] [(_,_),(_,_)] rfl ⟨z1 rfl,z1 rfl,z4 rfl rfl,z8 hg21_3 rfl,zr' rfl (op_move_take _ _ _ _ rfl),zr' rfl (op_move_take _ _ _ _ rfl),zr' rfl (op_call _ _ 21 _ _ rfl call21 rfl (ok_wherrykeep_Recs s50 s106 _ hv122) rfl rfl),z3 true rfl,z8 hg21_8 rfl,zr' rfl (op_callG _ _ 91 13 _ _ rfl call13 rfl rfl (fun _ h => h) (ok_wherrylaw19_wakes mx  _ hv123) rfl rfl),z3 true rfl,z2 rfl,zz⟩ ?_
          exact hl126 _ (Option.some.inj h).symm
         ·refine zg hn (_::_::_::_::_::(80,vi s107)::(81,vi s51)::(82,vb (decide (s107 ≤ s51)))::(83,vb true)::(84,.fr (.own 39) true 15 (List.flatten (List.map T_Rec.ienc s50)))::(85,.fr (.own 39) false 15 (List.flatten (List.map T_Rec.ienc s106)))::(86,vb v122)::(87,vb v122)::(88,vb false)::(89,.v undef)::(90,vb false)::(2,vb false)::[]) [0,1,2,3,4] [0,16] [zq [4] 5 80,zq [3] 6 81,zq [5,6] 7 82,zq [7] 8 83,⟨[8],[1],[9],[(.slot 84)]⟩,⟨[8],[2],[10],[(.slot 85)]⟩,zq [8,9,10] 11 86,zq [8,11] 12 87,zq [12] 13 88,zq [13] 14 89,zq [13] 15 90,zq [15] 16 2] [(_,_),(_,_)] rfl ⟨z1 rfl,z1 rfl,z4 rfl rfl,z8 hg21_3 rfl,zr' rfl (op_move_take _ _ _ _ rfl),zr' rfl (op_move_take _ _ _ _ rfl),zr' rfl (op_call _ _ 21 _ _ rfl call21 rfl (ok_wherrykeep_Recs s50 s106 _ hv122) rfl rfl),z3 true rfl,z8 hg21_8 rfl,zt rfl,z3 false rfl,z2 rfl,zz⟩ ?_
          exact hl126 _ (Option.some.inj h).symm
        ·refine zg hn (_::_::_::_::_::(80,vi s107)::(81,vi s51)::(82,vb (decide (s107 ≤ s51)))::(83,vb false)::(84,.v undef)::(85,.v undef)::(86,.v undef)::(87,vb false)::(88,vb false)::(89,.v undef)::(90,vb false)::(2,vb false)::[]) [0,1,2,3,4] [0,16] [zq [4] 5 80,zq [3] 6 81,zq [5,6] 7 82,zq [7] 8 83,zq [8] 9 84,zq [8] 10 85,zq [8] 11 86,zq [8] 12 87,zq [12] 13 88,zq [13] 14 89,zq [13] 15 90,zq [15] 16 2] [(_,_),(_,_)] rfl ⟨z1 rfl,z1 rfl,z4 rfl rfl,z8 hg21_3 rfl,zt rfl,zt rfl,zt rfl,z3 false rfl,z1 rfl,zt rfl,z3 false rfl,z2 rfl,zz⟩ ?_
         exact hl126 _ (Option.some.inj h).symm
      ·rintro u108 hl109 hr110 ⟨s95, s96, s97⟩ rr113 h ho111
       refine ht_seq ?_
       refine zgg hn [_,_,_,_,_,_,_,(54,vi s97),(55,.same (.slot 5)),(56,vi (v4.length : Int)),(57,vb (decide (s97 < (v4.length : Int))))] [0,1,2,3,4,5,6] [0,1,2,3,4,5,6,10] [zq [6] 7 54,zq [1] 8 55,zq [8,1] 9 56,zq [7,9] 10 57] [(_,_),(_,_),(_,_),(_,_),(_,_),(_,_),(_,_),(_,_)] rfl ⟨z1 rfl,z1 rfl,zp rfl (op_len_fr _ _ _ underlying22 rfl (by decide) (gflat_len T_Rec.ilen _)),z4 rfl rfl,zz⟩ ?_
       refine ht_cond _ rfl (fun hb114 => ?_) (fun hb114 => ?_)
       ·have h := cond_t hb114 h
        refine ht_skip ?_
        refine pt_then (ht_seq ?_)
        refine ht_joinS h (fun ((s116, s117) : (List T_Rec) × Int) => [(91, .glob (GL mx)), (5, .fr (.own 39) false 15 (List.flatten (List.map T_Rec.ienc v4))), (6, .fr (.own 39) true 15 (List.flatten (List.map T_Rec.ienc s50))), (8, .v (.int .i64 s51)), (11, .v (.int .i64 s97)), (9, .v (.int .i64 s117)), (7, .fr (.own 39) false 15 (List.flatten (List.map T_Rec.ienc s116)))]) ?_ ?_
        ·rintro ⟨s116, s117⟩ h
         refine pt_then ?_
         obtain ⟨v83, hv83, h⟩ := bind_some h
         refine zg hn [_,_,_,_,_,_,_,(58,vi s97),(59,vi v83),(11,vi v83)] [0,1,2,3,4,5,6] [0,1,2,3,5,6,9] [zq [4] 7 58,zq [7] 8 59,⟨[8],[4],[9],[(.slot 11)]⟩] [(_,_),(_,_),(_,_),(_,_),(_,_),(_,_),(_,_)] rfl ⟨z1 rfl,zp rfl (oB rfl (ibind (f := Value.int .i64) (Option.some.inj hv83))),zp rfl (LOp.drop [_] (op_assign _ _ _ _ rfl rfl)),zz⟩ ?_
         refine pt_pick [0, 1, 2, 5, 3, 4, 6] (by kernel_rfl) (es' := [(_,_),(_,_),(_,_),(_,_),(_,_),(_,_),(_,_)]) rfl ?_
         exact pt_next _ (Option.some.inj h).symm rfl
        ·intro u118 h hl119 hr120
         refine ht_block ?_
         refine ht_seq ?_
         obtain ⟨v67, hv67, h⟩ := bind_some h
         obtain ⟨v68, hv68, h⟩ := bind_some h
         obtain ⟨v69, hv69, h⟩ := bind_some h
         obtain ⟨v70, hv70, h⟩ := bind_some h
         refine zg hn (_::_::_::_::_::_::_::_::(60,vi s96)::(61,.same (.slot 5))::(62,vi s97)::(63,.eref (.slot 5) (v67 * 15))::(64,.agg [vi v68.Kind,vb v68.Mail.From.Null,vs v68.Mail.From.Local,vs v68.Mail.From.Domain,.fl .ro 3 (List.flatten (List.map T_Path.enc v68.Mail.To)),.fl .ro 1 (List.map (Value.int .u8) v68.Mail.Body),vb v68.Mail.Quiet,vs v68.Mail.Helo,vi v68.Mail.At,vi v68.Id,.fl .ro 1 (List.map (Value.int .i64) v68.Ids),vi v68.Origin,vi v68.Number,vi v68.Offset,.fl .ro 1 (List.map (Value.int .u8) v68.Data)])::(65,vi v69)::(66,vi v70)::(9,vi v70)::[]) [0,1,2,3,4,5,6,7] [0,1,2,3,4,6,15] [zq [5] 8 60,zq [1] 9 61,zq [6] 10 62,zq [9,1,10] 11 63,zq [11,1] 12 64,zq [12] 13 65,zq [8,13] 14 66,⟨[14],[5],[15],[(.slot 9)]⟩] [(_,_),(_,_),(_,_),(_,_),(_,_),(_,_),(_,_)] rfl ⟨z1 rfl,z1 rfl,z1 rfl,zp rfl (op_ix_fr _ _ _ _ _ _ _ _ underlying22 sz39 (by decide) rfl rfl rfl (ix_ok hv67).1 (gflat_lt T_Rec.ilen (ix_ok hv67).2) rfl),zp rfl (op_loadA_fr _ _ _ _ _ _ _ _ underlying39 rfl sz39 rfl rfl (gflat_get T_Rec.ilen hv68) (.cons (.v _) (.cons (.v _) (.cons (.v _) (.cons (.v _) (.cons (.fl _ _ rfl) (.cons (.fl _ _ rfl) (.cons (.v _) (.cons (.v _) (.cons (.v _) (.cons (.v _) (.cons (.fl _ _ rfl) (.cons (.v _) (.cons (.v _) (.cons (.v _) (.cons (.fl _ _ rfl) (.nil)))))))))))))))) rfl (by decide)),zp rfl (op_call _ _ 20 _ _ rfl call20 rfl (ok_wherryref18_Room ((T_Rec.mk v68.Kind ((T_Mail.mk (T_Path.mk v68.Mail.From.Null v68.Mail.From.Local v68.Mail.From.Domain) v68.Mail.To v68.Mail.Body v68.Mail.Quiet v68.Mail.Helo v68.Mail.At)) v68.Id v68.Ids v68.Origin v68.Number v68.Offset v68.Data)) _ hv69) rfl rfl),zp rfl (oB rfl (ibind (f := Value.int .i64) (Option.some.inj hv70))),zp rfl (LOp.drop [_] (op_assign _ _ _ _ rfl rfl)),zz⟩ ?_
         refine pt_then (ht_seq ?_)
         obtain ⟨v71, hv71, h⟩ := bind_some h
         obtain ⟨v72, hv72, h⟩ := bind_some h
         refine zg hn [_,_,_,_,_,_,_,(67,.same (.slot 5)),(68,vi s97),(69,.eref (.slot 5) (v71 * 15)),(70,.eref (.slot 5) (v71 * 15 + 0)),(71,vi v72.Kind),(72,vb (v72.Kind != 5))] [0,1,2,3,4,5,6] [0,1,2,3,4,5,6,12] [zq [1] 7 67,zq [5] 8 68,zq [7,1,8] 9 69,zq [9,1] 10 70,zq [10,1] 11 71,zq [11] 12 72] [(_,_),(_,_),(_,_),(_,_),(_,_),(_,_),(_,_),(_,_)] rfl ⟨z1 rfl,z1 rfl,zp rfl (op_ix_fr _ _ _ _ _ _ _ _ underlying22 sz39 (by decide) rfl rfl rfl (ix_ok hv71).1 (gflat_lt T_Rec.ilen (ix_ok hv71).2) rfl),zp rfl (op_fieldAddr_e _ _ _ _ _ _ _ underlying39 rfl sz3 rfl rfl rfl),zp rfl (op_load_fr _ _ _ _ _ _ _ underlying3 rfl rfl rfl (gflat_cell T_Rec.ilen hv72 rfl) (.v _)),z4 rfl rfl,zz⟩ ?_
         refine pt_then ?_
         refine ht_cond _ rfl (fun hb121 => ?_) (fun hb121 => ?_)
         ·have h := cond_t hb121 h
          obtain ⟨v74, hv74, h⟩ := bind_some h
          obtain ⟨v75, hv75, h⟩ := bind_some h
          obtain ⟨v76, hv76, h⟩ := bind_some h
          refine zg hn (_::_::_::_::_::_::_::_::(73,.fr (.own 39) false 15 (List.flatten (List.map T_Rec.ienc s95)))::(74,.same (.slot 5))::(75,vi s97)::(76,.eref (.slot 5) (v74 * 15))::(77,.agg [vi v75.Kind,vb v75.Mail.From.Null,vs v75.Mail.From.Local,vs v75.Mail.From.Domain,.fl .ro 3 (List.flatten (List.map T_Path.enc v75.Mail.To)),.fl .ro 1 (List.map (Value.int .u8) v75.Mail.Body),vb v75.Mail.Quiet,vs v75.Mail.Helo,vi v75.Mail.At,vi v75.Id,.fl .ro 1 (List.map (Value.int .i64) v75.Ids),vi v75.Origin,vi v75.Number,vi v75.Offset,.fl .ro 1 (List.map (Value.int .u8) v75.Data)])::(78,.fr (.own 39) false 15 (List.flatten (List.map T_Rec.ienc [(T_Rec.mk v75.Kind ((T_Mail.mk (T_Path.mk v75.Mail.From.Null v75.Mail.From.Local v75.Mail.From.Domain) v75.Mail.To v75.Mail.Body v75.Mail.Quiet v75.Mail.Helo v75.Mail.At)) v75.Id v75.Ids v75.Origin v75.Number v75.Offset v75.Data)])))::(79,.fr (.own 39) false 15 (List.flatten (List.map T_Rec.ienc v76)))::(73,.any)::(7,.fr (.own 39) false 15 (List.flatten (List.map T_Rec.ienc v76)))::[]) [0,1,2,3,4,5,6,7] [0,1,2,4,5,6,16] [⟨[],[3],[8],[(.slot 73)]⟩,zq [1] 9 74,zq [5] 10 75,zq [9,1,10] 11 76,zq [11,1] 12 77,zq [12] 13 78,⟨[13],[8],[15,14],[(.slot 79)]⟩,⟨[],[14],[16],[(.slot 7)]⟩] [(_,_),(_,_),(_,_),(_,_),(_,_),(_,_),(_,_)] rfl ⟨zp rfl (op_move_take _ _ _ _ rfl),z1 rfl,z1 rfl,zp rfl (op_ix_fr _ _ _ _ _ _ _ _ underlying22 sz39 (by decide) rfl rfl rfl (ix_ok hv74).1 (gflat_lt T_Rec.ilen (ix_ok hv74).2) rfl),zp rfl (op_loadA_fr _ _ _ _ _ _ _ _ underlying39 rfl sz39 rfl rfl (gflat_get T_Rec.ilen hv75) (.cons (.v _) (.cons (.v _) (.cons (.v _) (.cons (.v _) (.cons (.fl _ _ rfl) (.cons (.fl _ _ rfl) (.cons (.v _) (.cons (.v _) (.cons (.v _) (.cons (.v _) (.cons (.fl _ _ rfl) (.cons (.v _) (.cons (.v _) (.cons (.v _) (.cons (.fl _ _ rfl) (.nil)))))))))))))))) rfl (by decide)),zp rfl (op_build1_fr _ _ _ 15 (.agg #[.int .i64 0, .bool false, .string ByteArray.empty, .string ByteArray.empty, .slice none 0 0, .slice none 0 0, .bool false, .string ByteArray.empty, .int .i64 0, .int .i64 0, .slice none 0 0, .int .i64 0, .int .i64 0, .int .i64 0, .slice none 0 0]) false _ _ underlying22 sz39 zr39 rfl rfl (.cons (.v _) (.cons (.v _) (.cons (.v _) (.cons (.v _) (.cons (.ro _ _ rfl) (.cons (.ro _ _ rfl) (.cons (.v _) (.cons (.v _) (.cons (.v _) (.cons (.v _) (.cons (.ro _ _ rfl) (.cons (.v _) (.cons (.v _) (.cons (.v _) (.cons (.ro _ _ rfl) (.nil)))))))))))))))) rfl (by decide) (by decide)),zp rfl (op_app_fr _ _ _ _ _ el22 rfl rfl (gflat_len T_Rec.ilen _) (gflat_len T_Rec.ilen _) hv76 (gflat_app (app_eq hv76)) (by decide) (by decide)),zp rfl (op_assign_take _ _ _ _ rfl),zz⟩ ?_
          refine pt_inb ?_
          exact hl119 _ (Option.some.inj h).symm
         ·have h := cond_f hb121 h
          refine ht_skip ?_
          refine pt_inb ?_
          refine pt_pick [0, 1, 2, 4, 5, 6, 3] (by kernel_rfl) (es' := [(_,_),(_,_),(_,_),(_,_),(_,_),(_,_),(_,_)]) rfl ?_
          exact hl119 _ (Option.some.inj h).symm
       ·have h := cond_f hb114 h
        refine ht_exit ?_
        refine pt_x_then ?_
        refine pt_x_then ?_
        refine pt_x_in ?_
        refine pt_pick [0, 2, 3, 4, 5] (by kernel_rfl) (es' := [(_,_),(_,_),(_,_),(_,_),(_,_)]) rfl ?_
        exact hl109 _ (ho111 _ (Option.some.inj h).symm).symm
     ·rintro u52 hl53 hr54 ⟨s39, s40, s41⟩ rr57 h ho55
      refine ht_seq ?_
      refine zgg hn [_,_,_,_,_,_,_,_,_,(29,vi s41),(30,vi v3.2),(31,vb (decide (s41 < v3.2)))] [0,1,2,3,4,5,6,7,8] [0,1,2,3,4,5,6,7,8,11] [zq [8] 9 29,zq [2] 10 30,zq [9,10] 11 31] [(_,_),(_,_),(_,_),(_,_),(_,_),(_,_),(_,_),(_,_),(_,_),(_,_)] rfl ⟨z1 rfl,z1 rfl,z4 rfl rfl,zz⟩ ?_
      refine ht_cond _ rfl (fun hb58 => ?_) (fun hb58 => ?_)
      ·have h := cond_t hb58 h
       refine ht_skip ?_
       refine pt_then (ht_seq ?_)
       refine ht_joinS h (fun ((s60, s61) : (List T_Rec) × Int) => [(0, .fr .shr true 15 (List.flatten (List.map T_Rec.ienc l))), (91, .glob (GL mx)), (4, .v (.int .i64 v3.2)), (5, .fr (.own 39) false 15 (List.flatten (List.map T_Rec.ienc v4))), (7, .v (.slice none 0 0)), (9, .v (.int .i64 0)), (10, .v (.int .i64 s41)), (8, .v (.int .i64 s61)), (6, .fr (.own 39) true 15 (List.flatten (List.map T_Rec.ienc s60)))]) ?_ ?_
       ·rintro ⟨s60, s61⟩ h
        refine pt_then ?_
        obtain ⟨v27, hv27, h⟩ := bind_some h
        refine zg hn [_,_,_,_,_,_,_,_,_,(32,vi s41),(33,vi v27),(10,vi v27)] [0,1,2,3,4,5,6,7,8] [0,1,2,3,4,5,7,8,11] [zq [6] 9 32,zq [9] 10 33,⟨[10],[6],[11],[(.slot 10)]⟩] [(_,_),(_,_),(_,_),(_,_),(_,_),(_,_),(_,_),(_,_),(_,_)] rfl ⟨z1 rfl,zp rfl (oB rfl (ibind (f := Value.int .i64) (Option.some.inj hv27))),zp rfl (LOp.drop [_] (op_assign _ _ _ _ rfl rfl)),zz⟩ ?_
        refine pt_pick [0, 1, 2, 3, 7, 4, 6, 5, 8] (by kernel_rfl) (es' := [(_,_),(_,_),(_,_),(_,_),(_,_),(_,_),(_,_),(_,_),(_,_)]) rfl ?_
        exact pt_next _ (Option.some.inj h).symm rfl
       ·intro u62 h hl63 hr64
        refine ht_block ?_
        refine ht_seq ?_
        obtain ⟨v11, hv11, h⟩ := bind_some h
        obtain ⟨v12, hv12, h⟩ := bind_some h
        obtain ⟨v13, hv13, h⟩ := bind_some h
        obtain ⟨v14, hv14, h⟩ := bind_some h
        refine zg hn (_::_::_::_::_::_::_::_::_::_::(34,vi s40)::(35,.fr .shr true 15 (List.flatten (List.map T_Rec.ienc l)))::(36,vi s41)::(37,.eref (.slot 35) (v11 * 15))::(38,.agg [vi v12.Kind,vb v12.Mail.From.Null,vs v12.Mail.From.Local,vs v12.Mail.From.Domain,.fl .shr 3 (List.flatten (List.map T_Path.enc v12.Mail.To)),.fl .shr 1 (List.map (Value.int .u8) v12.Mail.Body),vb v12.Mail.Quiet,vs v12.Mail.Helo,vi v12.Mail.At,vi v12.Id,.fl .shr 1 (List.map (Value.int .i64) v12.Ids),vi v12.Origin,vi v12.Number,vi v12.Offset,.fl .shr 1 (List.map (Value.int .u8) v12.Data)])::(39,vi v13)::(40,vi v14)::(8,vi v14)::[]) [0,1,2,3,4,5,6,7,8,9] [0,1,2,3,4,5,7,8,17] [zq [6] 10 34,zq [0] 11 35,zq [8] 12 36,zq [11,12] 13 37,zq [13,11] 14 38,zq [14] 15 39,zq [10,15] 16 40,⟨[16],[6],[17],[(.slot 8)]⟩] [(_,_),(_,_),(_,_),(_,_),(_,_),(_,_),(_,_),(_,_),(_,_)] rfl ⟨z1 rfl,z1 rfl,z1 rfl,zp rfl (op_ix_fr _ _ _ _ _ _ _ _ underlying22 sz39 (by decide) rfl rfl rfl (ix_ok hv11).1 (gflat_lt T_Rec.ilen (ix_ok hv11).2) rfl),zp rfl (op_loadA_fr _ _ _ _ _ _ _ _ underlying39 rfl sz39 rfl rfl (gflat_get T_Rec.ilen hv12) (.cons (.v _) (.cons (.v _) (.cons (.v _) (.cons (.v _) (.cons (.fl _ _ rfl) (.cons (.fl _ _ rfl) (.cons (.v _) (.cons (.v _) (.cons (.v _) (.cons (.v _) (.cons (.fl _ _ rfl) (.cons (.v _) (.cons (.v _) (.cons (.v _) (.cons (.fl _ _ rfl) (.nil)))))))))))))))) rfl (by decide)),zp rfl (op_call _ _ 20 _ _ rfl call20 rfl (ok_wherryref18_Room ((T_Rec.mk v12.Kind ((T_Mail.mk (T_Path.mk v12.Mail.From.Null v12.Mail.From.Local v12.Mail.From.Domain) v12.Mail.To v12.Mail.Body v12.Mail.Quiet v12.Mail.Helo v12.Mail.At)) v12.Id v12.Ids v12.Origin v12.Number v12.Offset v12.Data)) _ hv13) rfl rfl),zp rfl (oB rfl (ibind (f := Value.int .i64) (Option.some.inj hv14))),zp rfl (LOp.drop [_] (op_assign _ _ _ _ rfl rfl)),zz⟩ ?_
        refine pt_then (ht_seq ?_)
        obtain ⟨v15, hv15, h⟩ := bind_some h
        obtain ⟨v16, hv16, h⟩ := bind_some h
        refine zg hn (_::_::_::_::_::_::_::_::_::(41,.fr .shr true 15 (List.flatten (List.map T_Rec.ienc l)))::(42,vi s41)::(43,.eref (.slot 41) (v15 * 15))::(44,.eref (.slot 41) (v15 * 15 + 0))::(45,vi v16.Kind)::(46,vb (v16.Kind != 5))::[]) [0,1,2,3,4,5,6,7,8] [0,1,2,3,4,5,6,7,8,14] [zq [0] 9 41,zq [7] 10 42,zq [9,10] 11 43,zq [11,9] 12 44,zq [12,9] 13 45,zq [13] 14 46] [(_,_),(_,_),(_,_),(_,_),(_,_),(_,_),(_,_),(_,_),(_,_),(_,_)] rfl ⟨z1 rfl,z1 rfl,zp rfl (op_ix_fr _ _ _ _ _ _ _ _ underlying22 sz39 (by decide) rfl rfl rfl (ix_ok hv15).1 (gflat_lt T_Rec.ilen (ix_ok hv15).2) rfl),zp rfl (op_fieldAddr_e _ _ _ _ _ _ _ underlying39 rfl sz3 rfl rfl rfl),zp rfl (op_load_fr _ _ _ _ _ _ _ underlying3 rfl rfl rfl (gflat_cell T_Rec.ilen hv16 rfl) (.v _)),z4 rfl rfl,zz⟩ ?_
        refine pt_then ?_
        refine ht_cond _ rfl (fun hb65 => ?_) (fun hb65 => ?_)
        ·have h := cond_t hb65 h
         obtain ⟨v18, hv18, h⟩ := bind_some h
         obtain ⟨v19, hv19, h⟩ := bind_some h
         obtain ⟨v20, hv20, h⟩ := bind_some h
         refine zg hn (_::_::_::_::_::_::_::_::_::_::(47,.fr (.own 39) true 15 (List.flatten (List.map T_Rec.ienc s39)))::(48,.fr .shr true 15 (List.flatten (List.map T_Rec.ienc l)))::(49,vi s41)::(50,.eref (.slot 48) (v18 * 15))::(51,.agg [vi v19.Kind,vb v19.Mail.From.Null,vs v19.Mail.From.Local,vs v19.Mail.From.Domain,.fl .shr 3 (List.flatten (List.map T_Path.enc v19.Mail.To)),.fl .shr 1 (List.map (Value.int .u8) v19.Mail.Body),vb v19.Mail.Quiet,vs v19.Mail.Helo,vi v19.Mail.At,vi v19.Id,.fl .shr 1 (List.map (Value.int .i64) v19.Ids),vi v19.Origin,vi v19.Number,vi v19.Offset,.fl .shr 1 (List.map (Value.int .u8) v19.Data)])::(52,.fr (.own 39) true 15 (List.flatten (List.map T_Rec.ienc [(T_Rec.mk v19.Kind ((T_Mail.mk (T_Path.mk v19.Mail.From.Null v19.Mail.From.Local v19.Mail.From.Domain) v19.Mail.To v19.Mail.Body v19.Mail.Quiet v19.Mail.Helo v19.Mail.At)) v19.Id v19.Ids v19.Origin v19.Number v19.Offset v19.Data)])))::(53,.fr (.own 39) true 15 (List.flatten (List.map T_Rec.ienc v20)))::(47,.any)::(6,.fr (.own 39) true 15 (List.flatten (List.map T_Rec.ienc v20)))::[]) [0,1,2,3,4,5,6,7,8,9] [0,1,2,3,5,6,7,8,18] [⟨[],[4],[10],[(.slot 47)]⟩,zq [0] 11 48,zq [7] 12 49,zq [11,12] 13 50,zq [13,11] 14 51,zq [14] 15 52,⟨[15],[10],[17,16],[(.slot 53)]⟩,⟨[],[16],[18],[(.slot 6)]⟩] [(_,_),(_,_),(_,_),(_,_),(_,_),(_,_),(_,_),(_,_),(_,_)] rfl ⟨zp rfl (op_move_take _ _ _ _ rfl),z1 rfl,z1 rfl,zp rfl (op_ix_fr _ _ _ _ _ _ _ _ underlying22 sz39 (by decide) rfl rfl rfl (ix_ok hv18).1 (gflat_lt T_Rec.ilen (ix_ok hv18).2) rfl),zp rfl (op_loadA_fr _ _ _ _ _ _ _ _ underlying39 rfl sz39 rfl rfl (gflat_get T_Rec.ilen hv19) (.cons (.v _) (.cons (.v _) (.cons (.v _) (.cons (.v _) (.cons (.fl _ _ rfl) (.cons (.fl _ _ rfl) (.cons (.v _) (.cons (.v _) (.cons (.v _) (.cons (.v _) (.cons (.fl _ _ rfl) (.cons (.v _) (.cons (.v _) (.cons (.v _) (.cons (.fl _ _ rfl) (.nil)))))))))))))))) rfl (by decide)),zp rfl (op_build1_fr _ _ _ 15 (.agg #[.int .i64 0, .bool false, .string ByteArray.empty, .string ByteArray.empty, .slice none 0 0, .slice none 0 0, .bool false, .string ByteArray.empty, .int .i64 0, .int .i64 0, .slice none 0 0, .int .i64 0, .int .i64 0, .int .i64 0, .slice none 0 0]) true _ _ underlying22 sz39 zr39 rfl rfl (.cons (.v _) (.cons (.v _) (.cons (.v _) (.cons (.v _) (.cons (.shr _ _ rfl rfl) (.cons (.shr _ _ rfl rfl) (.cons (.v _) (.cons (.v _) (.cons (.v _) (.cons (.v _) (.cons (.shr _ _ rfl rfl) (.cons (.v _) (.cons (.v _) (.cons (.v _) (.cons (.shr _ _ rfl rfl) (.nil)))))))))))))))) rfl (by decide) (by decide)),zp rfl (op_app_fr _ _ _ _ _ el22 rfl rfl (gflat_len T_Rec.ilen _) (gflat_len T_Rec.ilen _) hv20 (gflat_app (app_eq hv20)) (by decide) (by decide)),zp rfl (op_assign_take _ _ _ _ rfl),zz⟩ ?_
         refine pt_inb ?_
         exact hl63 _ (Option.some.inj h).symm
        ·have h := cond_f hb65 h
         refine ht_skip ?_
         refine pt_inb ?_
         refine pt_pick [0, 1, 2, 3, 5, 6, 7, 8, 4] (by kernel_rfl) (es' := [(_,_),(_,_),(_,_),(_,_),(_,_),(_,_),(_,_),(_,_),(_,_)]) rfl ?_
         exact hl63 _ (Option.some.inj h).symm
      ·have h := cond_f hb58 h
       refine ht_exit ?_
       refine pt_x_then ?_
       refine pt_x_then ?_
       refine pt_x_in ?_
       refine pt_pick [1, 3, 4, 5, 6, 7] (by kernel_rfl) (es' := [(_,_),(_,_),(_,_),(_,_),(_,_),(_,_)]) rfl ?_
       exact hl53 _ (ho55 _ (Option.some.inj h).symm).symm
   ·intro u6 h hl7 hr8
    refine cond_some h (fun hg5_2 h => ?_) (fun hg5_2 h => ?_)
    ·refine zg hn [_,_,_,_,(21,vi v3.2),(22,vb (decide (v3.2 < 0))),(23,vb true),(24,.v undef),(25,.v undef),(26,.v undef),(27,.v undef),(28,vb true)] [0,1,2,3] [0,1,2,3,11] [zq [2] 4 21,zq [4] 5 22,zq [5] 6 23,zq [6] 7 24,zq [6] 8 25,zq [6] 9 26,zq [6] 10 27,zq [6] 11 28] [(_,_),(_,_),(_,_),(_,_),(_,_)] rfl ⟨z1 rfl,z4 rfl rfl,z8 hg5_2 rfl,zf rfl,zf rfl,zf rfl,zf rfl,z3 true rfl,zz⟩ ?_
     exact hl7 _ (Option.some.inj h).symm
    ·refine zg hn [_,_,_,_,(21,vi v3.2),(22,vb (decide (v3.2 < 0))),(23,vb false),(24,vi v3.2),(25,.fr .shr true 15 (List.flatten (List.map T_Rec.ienc l))),(26,vi (l.length : Int)),(27,vb (decide ((l.length : Int) < v3.2))),(28,vb (decide ((l.length : Int) < v3.2)))] [0,1,2,3] [0,1,2,3,11] [zq [2] 4 21,zq [4] 5 22,zq [5] 6 23,zq [6,2] 7 24,zq [6,0] 8 25,zq [6,8] 9 26,zq [6,7,9] 10 27,zq [6,10] 11 28] [(_,_),(_,_),(_,_),(_,_),(_,_)] rfl ⟨z1 rfl,z4 rfl rfl,z8 hg5_2 rfl,zr' rfl (oM rfl),zr' rfl (oM rfl),zr' rfl (op_len_fr _ _ _ underlying22 rfl (by decide) (gflat_len T_Rec.ilen _)),zr' rfl (oB rfl rfl),z3 false rfl,zz⟩ ?_
     exact hl7 _ (Option.some.inj h).symm

end Go.Proofs.YtjdmcbkkacnmdaaDoor
