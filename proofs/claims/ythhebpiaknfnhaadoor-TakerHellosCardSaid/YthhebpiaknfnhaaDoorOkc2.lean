/-
  The model's runs are what is told in Lean.
-/
import Derived.Test.YthhebpiaknfnhaaDoorProg
import Derived.KernelRfl
import Derived.Test.YthhebpiaknfnhaaDoorShelf
import Derived.Test.YthhebpiaknfnhaaDoorIdx
import Derived.Test.YthhebpiaknfnhaaDoorIns
import Derived.Test.YthhebpiaknfnhaaDoorB1
import Derived.Test.YthhebpiaknfnhaaDoorOkc1
set_option linter.unusedVariables false
set_option linter.unusedSimpArgs false
set_option maxHeartbeats 1000000
namespace Go.Proofs.YthhebpiaknfnhaaDoor
open Go.Abs Go.Abs.Sh Tryd
theorem ok_spool_find (s : T_Spool) (p_id : Int) (r : Int) (h : Sh.spool_find s p_id = some r) : FnOK Tryd.prog 26 [.agg [.fr .shr true 11 (List.flatten (List.map T_Item.ienc s.Items)), .v (.int .i64 s.Packs), .fl .shr 1 (List.map (Value.int .i64) s.Sent), .fl .shr 1 (List.map (Value.int .u8) s.Part), .v (.int .i64 s.Of), .fl .shr 1 (List.map (Value.int .i64) s.Done)], .v (.int .i64 p_id)] (.v (.int .i64 r)) := by
  unfold Sh.spool_find at h
  refine fn_ok func26 rfl (zl rfl) rfl rfl fun g0 hn hio => ?_
  refine zgg hn [_,_,(2,.box 31 [.fr .shr true 11 (List.flatten (List.map T_Item.ienc s.Items)),vi s.Packs,.fl .shr 1 (List.map (Value.int .i64) s.Sent),.fl .shr 1 (List.map (Value.int .u8) s.Part),vi s.Of,.fl .shr 1 (List.map (Value.int .i64) s.Done)]),(3,.box 3 [vi p_id]),(4,vi 0)] [0,1] [2,3] [zq [0] 2 2,zq [1] 3 3,zq [] 4 4] [(_,_),(_,_)] rfl ⟨zp rfl (op_box _ _ _ _ rfl rfl rfl),zp rfl (op_box _ _ _ _ rfl rfl rfl),z2 rfl,zz⟩ ?_
  refine ht_seq ?_
  obtain ⟨v1, hv1, h⟩ := bind_some h
  refine zg hn [_,_,(5,.ptr 2 0),(6,.fr .shr true 11 (List.flatten (List.map T_Item.ienc s.Items))),(7,.clo 38 [3]),(8,vi v1),(4,vi v1)] [0,1] [6] [zq [0] 2 5,zq [2,0] 3 6,zq [] 4 7,zq [3,4,1] 5 8,zq [5] 6 4] [(_,_)] rfl ⟨zp rfl (oF underlying31 rfl sz27),zp rfl (oL underlying27 rfl),zp rfl (op_makeFunc_name _ _ _ 3 (by decide)),zp rfl (op_callC _ 8 3 7 37 38 [.int .i64 p_id] [.tmp 6] _ _ rfl call37 rfl rfl rfl rfl (fun bx => ok_slices_IndexFunc_api_Item_api_Item_of_spool_find_1 bx s.Items p_id _ hv1) rfl rfl),z2 rfl,zz⟩ ?_
  refine pt_then (ht_ret ?_)
  obtain rfl := Option.some.inj h
  exact pt_ret hio rfl (.tmp _ _ .nil) rfl rfl
theorem ok_spool_waits (s : T_Spool) (p_id : Int) (r : Bool) (h : Sh.spool_waits s p_id = some r) : FnOK Tryd.prog 22 [.agg [.fr .shr true 11 (List.flatten (List.map T_Item.ienc s.Items)), .v (.int .i64 s.Packs), .fl .shr 1 (List.map (Value.int .i64) s.Sent), .fl .shr 1 (List.map (Value.int .u8) s.Part), .v (.int .i64 s.Of), .fl .shr 1 (List.map (Value.int .i64) s.Done)], .v (.int .i64 p_id)] (.v (.bool r)) := by
  unfold Sh.spool_waits at h
  refine fn_ok func22 rfl (zl rfl) rfl rfl fun g0 hn hio => ?_
  refine zgg hn [_,_,(2,.box 31 [.fr .shr true 11 (List.flatten (List.map T_Item.ienc s.Items)),vi s.Packs,.fl .shr 1 (List.map (Value.int .i64) s.Sent),.fl .shr 1 (List.map (Value.int .u8) s.Part),vi s.Of,.fl .shr 1 (List.map (Value.int .i64) s.Done)]),(4,vb false)] [0,1] [1,2] [zq [0] 2 2,zq [] 3 4] [(_,_),(_,_)] rfl ⟨zp rfl (op_box _ _ _ _ rfl rfl rfl),z2 rfl,zz⟩ ?_
  refine ht_seq ?_
  obtain ⟨v1, hv1, h⟩ := bind_some h
  refine zg hn [_,_,(6,.agg [.fr .shr true 11 (List.flatten (List.map T_Item.ienc s.Items)),vi s.Packs,.fl .shr 1 (List.map (Value.int .i64) s.Sent),.fl .shr 1 (List.map (Value.int .u8) s.Part),vi s.Of,.fl .shr 1 (List.map (Value.int .i64) s.Done)]),(7,vi p_id),(8,vi v1),(5,vi v1)] [0,1] [1,5] [zq [1] 2 6,zq [0] 3 7,zq [2,3] 4 8,zq [4] 5 5] [(_,_),(_,_)] rfl ⟨zp rfl (op_loadA _ _ _ _ _ _ _ underlying31 rfl sz31 rfl rfl (zl rfl) rfl rfl),z1 rfl,zp rfl (op_call _ _ 26 _ _ rfl call26 rfl (ok_spool_find s p_id _ hv1) rfl rfl),z2 rfl,zz⟩ ?_
  refine pt_then (ht_seq ?_)
  refine ht_joinS h (fun (s4 : Bool) => [(4, .v (.bool s4))]) ?_ ?_
  ·rintro s4 h
   refine pt_then (ht_ret ?_)
   obtain rfl := Option.some.inj h
   exact pt_ret hio rfl (.tmp _ _ .nil) rfl rfl
  ·intro u5 h hl6 hr7
   refine cond_some h (fun hg2_2 h => ?_) (fun hg2_2 h => ?_)
   ·obtain ⟨v2, hv2, h⟩ := bind_some h
    obtain ⟨v3, hv3, h⟩ := bind_some h
    refine zg hn [_,_,(9,vi v1),(10,vb (decide (0 ≤ v1))),(11,vb true),(12,.ptr 2 0),(13,.fr .shr true 11 (List.flatten (List.map T_Item.ienc s.Items))),(14,vi v1),(15,.eref (.slot 13) (v2 * 11)),(16,.eref (.slot 13) (v2 * 11 + 9)),(17,vi v3.State),(18,vb (v3.State == 1)),(19,vb (v3.State == 1)),(4,vb (v3.State == 1))] [0,1] [13] [zq [1] 2 9,zq [2] 3 10,zq [3] 4 11,zq [4,0] 5 12,zq [4,5,0] 6 13,zq [4,1] 7 14,zq [4,6,7] 8 15,zq [4,8,6] 9 16,zq [4,9,6] 10 17,zq [4,10] 11 18,zq [4,11] 12 19,zq [12] 13 4] [(_,_)] rfl ⟨z1 rfl,z4 rfl rfl,z8 hg2_2 rfl,zr' rfl (oF underlying31 rfl sz27),zr' rfl (oL underlying27 rfl),zr' rfl (oM rfl),zr' rfl (op_ix_fr _ _ _ _ _ _ _ _ underlying27 sz71 (by decide) rfl rfl rfl (ix_ok hv2).1 (gflat_lt T_Item.ilen (ix_ok hv2).2) rfl),zr' rfl (op_fieldAddr_e _ _ _ _ _ _ _ underlying71 rfl sz3 rfl rfl rfl),zr' rfl (op_load_fr _ _ _ _ _ _ _ underlying3 rfl rfl rfl (gflat_cell T_Item.ilen hv3 rfl) (.v _)),zr' rfl (oB rfl rfl),z3 true rfl,z2 rfl,zz⟩ ?_
    exact hl6 _ (Option.some.inj h).symm
   ·refine zg hn [_,_,(9,vi v1),(10,vb (decide (0 ≤ v1))),(11,vb false),(12,.v undef),(13,.v undef),(14,.v undef),(15,.v undef),(16,.v undef),(17,.v undef),(18,.v undef),(19,vb false),(4,vb false)] [0,1] [13] [zq [1] 2 9,zq [2] 3 10,zq [3] 4 11,zq [4] 5 12,zq [4] 6 13,zq [4] 7 14,zq [4] 8 15,zq [4] 9 16,zq [4] 10 17,zq [4] 11 18,zq [4] 12 19,zq [12] 13 4] [(_,_)] rfl ⟨z1 rfl,z4 rfl rfl,z8 hg2_2 rfl,zt rfl,zt rfl,zt rfl,zt rfl,zt rfl,zt rfl,zt rfl,z3 false rfl,z2 rfl,zz⟩ ?_
    exact hl6 _ (Option.some.inj h).symm
theorem ok_spool_validIds (s : T_Spool) (ids : (List Int)) (r : Bool) (h : Sh.spool_validIds s ids = some r) : FnOK Tryd.prog 20 [.agg [.fr .shr true 11 (List.flatten (List.map T_Item.ienc s.Items)), .v (.int .i64 s.Packs), .fl .shr 1 (List.map (Value.int .i64) s.Sent), .fl .shr 1 (List.map (Value.int .u8) s.Part), .v (.int .i64 s.Of), .fl .shr 1 (List.map (Value.int .i64) s.Done)], .fl .shr 1 (List.map (Value.int .i64) ids)] (.v (.bool r)) := by
  unfold Sh.spool_validIds at h
  refine fn_ok func20 rfl (zl rfl) rfl rfl fun g0 hn hio => ?_
  refine zgg hn [_,_,(2,.box 31 [.fr .shr true 11 (List.flatten (List.map T_Item.ienc s.Items)),vi s.Packs,.fl .shr 1 (List.map (Value.int .i64) s.Sent),.fl .shr 1 (List.map (Value.int .u8) s.Part),vi s.Of,.fl .shr 1 (List.map (Value.int .i64) s.Done)]),(4,vb false)] [0,1] [1,2] [zq [0] 2 2,zq [] 3 4] [(_,_),(_,_)] rfl ⟨zp rfl (op_box _ _ _ _ rfl rfl rfl),z2 rfl,zz⟩ ?_
  refine ht_seq ?_
  refine ht_seq ?_
  refine ht_joinS h (fun (s1 : Bool) => [(1, .fl .shr 1 (List.map (Value.int .i64) ids)), (2, .box 31 [.fr .shr true 11 (List.flatten (List.map T_Item.ienc s.Items)), .v (.int .i64 s.Packs), .fl .shr 1 (List.map (Value.int .i64) s.Sent), .fl .shr 1 (List.map (Value.int .u8) s.Part), .v (.int .i64 s.Of), .fl .shr 1 (List.map (Value.int .i64) s.Done)]), (14, .v (.bool s1))]) ?_ ?_
  ·rintro s1 h
   refine pt_then ?_
   refine ht_cond _ rfl (fun hb5 => ?_) (fun hb5 => ?_)
   ·have h := cond_t hb5 h
    refine zgg hn [_,_,_,(4,vb false)] [0,1,2] [3] [zq [] 3 4] [(_,_)] rfl ⟨z2 rfl,zz⟩ ?_
    refine ht_ret ?_
    refine pt_r_then ?_
    obtain rfl := Option.some.inj h
    exact pt_ret hio rfl (.tmp _ _ .nil) rfl rfl
   ·have h := cond_f hb5 h
    refine ht_skip ?_
    refine pt_then (ht_seq ?_)
    refine zgg hn [_,_,_,(15,.fl .shr 1 (List.map (Value.int .i64) ids)),(16,vi (ids.length : Int)),(17,vi 0)] [0,1,2] [0,1,3,4,5] [zq [0] 3 15,zq [3] 4 16,zq [] 5 17] [(_,_),(_,_),(_,_),(_,_),(_,_)] rfl ⟨z1 rfl,zp rfl (op_len_fl _ _ _ underlying28 rfl (by decide) (map_len _)),z1 rfl,zz⟩ ?_
    refine ht_loopS h (fun (s27 : Int) => [(1, .fl .shr 1 (List.map (Value.int .i64) ids)), (2, .box 31 [.fr .shr true 11 (List.flatten (List.map T_Item.ienc s.Items)), .v (.int .i64 s.Packs), .fl .shr 1 (List.map (Value.int .i64) s.Sent), .fl .shr 1 (List.map (Value.int .u8) s.Part), .v (.int .i64 s.Of), .fl .shr 1 (List.map (Value.int .i64) s.Done)]), (15, .fl .shr 1 (List.map (Value.int .i64) ids)), (16, .v (.int .i64 (ids.length : Int))), (17, .v (.int .i64 s27))]) (fun (() : Unit) => []) ?_ ?_
    ·rintro ⟨⟩ h
     refine pt_then ?_
     refine zgg hn [(4,vb true)] [] [0] [zq [] 0 4] [(_,_)] rfl ⟨z2 rfl,zz⟩ ?_
     refine ht_ret ?_
     obtain rfl := Option.some.inj h
     exact pt_ret hio rfl (.tmp _ _ .nil) rfl rfl
    ·rintro u34 hl35 hr36 s27 rr39 h ho37
     refine zgg hn [_,_,_,_,_,(18,vb (decide (s27 < (ids.length : Int))))] [0,1,2,3,4] [0,1,2,3,4,5] [zq [4,3] 5 18] [(_,_),(_,_),(_,_),(_,_),(_,_),(_,_)] rfl ⟨z4 rfl rfl,zz⟩ ?_
     refine ht_seq ?_
     refine ht_cond _ rfl (fun hb40 => ?_) (fun hb40 => ?_)
     ·have h := cond_t hb40 h
      refine ht_skip ?_
      refine pt_then (ht_seq ?_)
      refine ht_block ?_
      refine ht_seq ?_
      obtain ⟨v7, hv7, h⟩ := bind_some h
      obtain ⟨v8, hv8, h⟩ := bind_some h
      refine zg hn [_,_,_,_,_,_,(19,vi s27),(20,.eref (.slot 15) (v7 * 1)),(21,vi v8),(5,vi s27),(6,vi v8)] [0,1,2,3,4,5] [0,1,2,3,4,9,10] [zq [4] 6 19,zq [2,4] 7 20,zq [7,2] 8 21,zq [6] 9 5,zq [8] 10 6] [(_,_),(_,_),(_,_),(_,_),(_,_),(_,_),(_,_)] rfl ⟨z1 rfl,zp rfl (op_ix _ _ _ _ _ _ _ _ underlying28 sz3 (by decide) rfl rfl rfl (ix_ok hv7).1 (map_lt (ix_ok hv7).2) rfl),zp rfl (op_load_e _ _ _ _ _ _ underlying3 rfl rfl rfl (map_get hv8)),z2 rfl,z2 rfl,zz⟩ ?_
      refine pt_then (ht_seq ?_)
      refine ht_joinS h (fun (s41 : Bool) => [(1, .fl .shr 1 (List.map (Value.int .i64) ids)), (2, .box 31 [.fr .shr true 11 (List.flatten (List.map T_Item.ienc s.Items)), .v (.int .i64 s.Packs), .fl .shr 1 (List.map (Value.int .i64) s.Sent), .fl .shr 1 (List.map (Value.int .u8) s.Part), .v (.int .i64 s.Of), .fl .shr 1 (List.map (Value.int .i64) s.Done)]), (15, .fl .shr 1 (List.map (Value.int .i64) ids)), (16, .v (.int .i64 (ids.length : Int))), (17, .v (.int .i64 s27)), (38, .v (.bool s41))]) ?_ ?_
      ·rintro s41 h
       refine pt_then ?_
       refine ht_cond _ rfl (fun hb45 => ?_) (fun hb45 => ?_)
       ·have h := cond_t hb45 h
        refine zgg hn [_,_,_,_,_,_,(4,vb false)] [0,1,2,3,4,5] [6] [zq [] 6 4] [(_,_)] rfl ⟨z2 rfl,zz⟩ ?_
        refine ht_ret ?_
        refine pt_r_in ?_
        refine pt_r_then ?_
        refine pt_r_then ?_
        refine pt_r_in ?_
        refine pt_r_then ?_
        have h := hr36 _ (ho37 _ (Option.some.inj h).symm).symm
        obtain rfl := Option.some.inj h
        exact pt_ret hio rfl (.tmp _ _ .nil) rfl rfl
       ·have h := cond_f hb45 h
        refine ht_skip ?_
        refine pt_inb ?_
        refine pt_then ?_
        obtain ⟨v19, hv19, h⟩ := bind_some h
        refine zg hn [_,_,_,_,_,_,(39,vi v19),(17,vi v19)] [0,1,2,3,4,5] [0,1,2,3,7] [zq [4] 6 39,⟨[6],[4],[7],[(.slot 17)]⟩] [(_,_),(_,_),(_,_),(_,_),(_,_)] rfl ⟨zp rfl (oB rfl (ibind (f := Value.int .i64) (Option.some.inj hv19))),zp rfl (LOp.drop [_] (oM rfl)),zz⟩ ?_
        exact pt_next _ (Option.some.inj h).symm rfl
      ·intro u42 h hl43 hr44
       refine cond_some h (fun hg6_2 h => ?_) (fun hg6_2 h => ?_)
       ·obtain ⟨v9, hv9, h⟩ := bind_some h
        obtain ⟨v10, hv10, h⟩ := bind_some h
        obtain ⟨v11, hv11, h⟩ := bind_some h
        refine cond_some h (fun hg6_11 h => ?_) (fun hg6_11 h => ?_)
        ·refine zg hn (_::_::_::_::_::_::_::(22,vi s27)::(23,vb (decide (0 < s27)))::(24,vb true)::(25,vi v8)::(26,.fl .shr 1 (List.map (Value.int .i64) ids))::(27,vi s27)::(28,vi v9)::(29,.eref (.slot 26) (v10 * 1))::(30,vi v11)::(31,vb (decide (v8 ≤ v11)))::(32,vb (decide (v8 ≤ v11)))::(33,vb true)::(34,.v undef)::(35,.v undef)::(36,.v undef)::(37,.v undef)::(38,vb true)::[]) [0,1,2,3,4,5,6] [0,1,2,3,4,23] (zq [5] 7 22::zq [7] 8 23::zq [8] 9 24::zq [9,6] 10 25::zq [9,0] 11 26::zq [9,5] 12 27::zq [9,12] 13 28::zq [9,11,13] 14 29::zq [9,14,11] 15 30::zq [9,10,15] 16 31::zq [9,16] 17 32::zq [17] 18 33::zq [18] 19 34::zq [18] 20 35::zq [18] 21 36::zq [18] 22 37::zq [18] 23 38::[]) [(_,_),(_,_),(_,_),(_,_),(_,_),(_,_)] rfl ⟨z1 rfl,z4 rfl rfl,z8 hg6_2 rfl,zr' rfl (oM rfl),zr' rfl (oM rfl),zr' rfl (oM rfl),zr' rfl (oB rfl (ibind (f := Value.int .i64) (Option.some.inj hv9))),zr' rfl (op_ix _ _ _ _ _ _ _ _ underlying28 sz3 (by decide) rfl rfl rfl (ix_ok hv10).1 (map_lt (ix_ok hv10).2) rfl),zr' rfl (op_load_e _ _ _ _ _ _ underlying3 rfl rfl rfl (map_get hv11)),zr' rfl (oB rfl rfl),z3 true rfl,z8 hg6_11 rfl,zf rfl,zf rfl,zf rfl,zf rfl,z3 true rfl,zz⟩ ?_
         exact hl43 _ (Option.some.inj h).symm
        ·obtain ⟨v12, hv12, h⟩ := bind_some h
         refine zg hn (_::_::_::_::_::_::_::(22,vi s27)::(23,vb (decide (0 < s27)))::(24,vb true)::(25,vi v8)::(26,.fl .shr 1 (List.map (Value.int .i64) ids))::(27,vi s27)::(28,vi v9)::(29,.eref (.slot 26) (v10 * 1))::(30,vi v11)::(31,vb (decide (v8 ≤ v11)))::(32,vb (decide (v8 ≤ v11)))::(33,vb false)::(34,.agg [.fr .shr true 11 (List.flatten (List.map T_Item.ienc s.Items)),vi s.Packs,.fl .shr 1 (List.map (Value.int .i64) s.Sent),.fl .shr 1 (List.map (Value.int .u8) s.Part),vi s.Of,.fl .shr 1 (List.map (Value.int .i64) s.Done)])::(35,vi v8)::(36,vb v12)::(37,vb (!v12))::(38,vb (!v12))::[]) [0,1,2,3,4,5,6] [0,1,2,3,4,23] (zq [5] 7 22::zq [7] 8 23::zq [8] 9 24::zq [9,6] 10 25::zq [9,0] 11 26::zq [9,5] 12 27::zq [9,12] 13 28::zq [9,11,13] 14 29::zq [9,14,11] 15 30::zq [9,10,15] 16 31::zq [9,16] 17 32::zq [17] 18 33::zq [18,1] 19 34::zq [18,6] 20 35::zq [18,19,20] 21 36::zq [18,21] 22 37::zq [18,22] 23 38::[]) [(_,_),(_,_),(_,_),(_,_),(_,_),(_,_)] rfl ⟨z1 rfl,z4 rfl rfl,z8 hg6_2 rfl,zr' rfl (oM rfl),zr' rfl (oM rfl),zr' rfl (oM rfl),zr' rfl (oB rfl (ibind (f := Value.int .i64) (Option.some.inj hv9))),zr' rfl (op_ix _ _ _ _ _ _ _ _ underlying28 sz3 (by decide) rfl rfl rfl (ix_ok hv10).1 (map_lt (ix_ok hv10).2) rfl),zr' rfl (op_load_e _ _ _ _ _ _ underlying3 rfl rfl rfl (map_get hv11)),zr' rfl (oB rfl rfl),z3 true rfl,z8 hg6_11 rfl,zr' rfl (op_loadA _ _ _ _ _ _ _ underlying31 rfl sz31 rfl rfl (zl rfl) rfl rfl),zr' rfl (oM rfl),zr' rfl (op_call _ _ 22 _ _ rfl call22 rfl (ok_spool_waits s v8 _ hv12) rfl rfl),zr' rfl (op_un _ _ _ _ rfl rfl),z3 false rfl,zz⟩ ?_
         exact hl43 _ (Option.some.inj h).symm
       ·obtain ⟨v13, hv13, h⟩ := bind_some h
        refine zg hn (_::_::_::_::_::_::_::(22,vi s27)::(23,vb (decide (0 < s27)))::(24,vb false)::(25,.v undef)::(26,.v undef)::(27,.v undef)::(28,.v undef)::(29,.v undef)::(30,.v undef)::(31,.v undef)::(32,vb false)::(33,vb false)::(34,.agg [.fr .shr true 11 (List.flatten (List.map T_Item.ienc s.Items)),vi s.Packs,.fl .shr 1 (List.map (Value.int .i64) s.Sent),.fl .shr 1 (List.map (Value.int .u8) s.Part),vi s.Of,.fl .shr 1 (List.map (Value.int .i64) s.Done)])::(35,vi v8)::(36,vb v13)::(37,vb (!v13))::(38,vb (!v13))::[]) [0,1,2,3,4,5,6] [0,1,2,3,4,23] (zq [5] 7 22::zq [7] 8 23::zq [8] 9 24::zq [9] 10 25::zq [9] 11 26::zq [9] 12 27::zq [9] 13 28::zq [9] 14 29::zq [9] 15 30::zq [9] 16 31::zq [9] 17 32::zq [17] 18 33::zq [18,1] 19 34::zq [18,6] 20 35::zq [18,19,20] 21 36::zq [18,21] 22 37::zq [18,22] 23 38::[]) [(_,_),(_,_),(_,_),(_,_),(_,_),(_,_)] rfl ⟨z1 rfl,z4 rfl rfl,z8 hg6_2 rfl,zt rfl,zt rfl,zt rfl,zt rfl,zt rfl,zt rfl,zt rfl,z3 false rfl,z1 rfl,zr' rfl (op_loadA _ _ _ _ _ _ _ underlying31 rfl sz31 rfl rfl (zl rfl) rfl rfl),zr' rfl (oM rfl),zr' rfl (op_call _ _ 22 _ _ rfl call22 rfl (ok_spool_waits s v8 _ hv13) rfl rfl),zr' rfl (op_un _ _ _ _ rfl rfl),z3 false rfl,zz⟩ ?_
        exact hl43 _ (Option.some.inj h).symm
     ·have h := cond_f hb40 h
      refine ht_exit ?_
      refine pt_x_then ?_
      refine pt_x_then ?_
      refine pt_x_in ?_
      refine pt_pick [] (by kernel_rfl) (es' := []) rfl ?_
      exact hl35 _ (ho37 _ (Option.some.inj h).symm).symm
  ·intro u2 h hl3 hr4
   refine cond_some h (fun hg1_3 h => ?_) (fun hg1_3 h => ?_)
   ·refine zg hn [_,_,(7,.fl .shr 1 (List.map (Value.int .i64) ids)),(8,vi (ids.length : Int)),(9,vb (decide ((ids.length : Int) < 1))),(10,vb true),(11,.v undef),(12,.v undef),(13,.v undef),(14,vb true)] [0,1] [0,1,9] [zq [0] 2 7,zq [2] 3 8,zq [3] 4 9,zq [4] 5 10,zq [5] 6 11,zq [5] 7 12,zq [5] 8 13,zq [5] 9 14] [(_,_),(_,_),(_,_)] rfl ⟨z1 rfl,zp rfl (op_len_fl _ _ _ underlying28 rfl (by decide) (map_len _)),z4 rfl rfl,z8 hg1_3 rfl,zf rfl,zf rfl,zf rfl,z3 true rfl,zz⟩ ?_
    exact hl3 _ (Option.some.inj h).symm
   ·refine zg hn [_,_,(7,.fl .shr 1 (List.map (Value.int .i64) ids)),(8,vi (ids.length : Int)),(9,vb (decide ((ids.length : Int) < 1))),(10,vb false),(11,.fl .shr 1 (List.map (Value.int .i64) ids)),(12,vi (ids.length : Int)),(13,vb (decide (4 < (ids.length : Int)))),(14,vb (decide (4 < (ids.length : Int))))] [0,1] [0,1,9] [zq [0] 2 7,zq [2] 3 8,zq [3] 4 9,zq [4] 5 10,zq [5,0] 6 11,zq [5,6] 7 12,zq [5,7] 8 13,zq [5,8] 9 14] [(_,_),(_,_),(_,_)] rfl ⟨z1 rfl,zp rfl (op_len_fl _ _ _ underlying28 rfl (by decide) (map_len _)),z4 rfl rfl,z8 hg1_3 rfl,zr' rfl (oM rfl),zr' rfl (op_len_fl _ _ _ underlying28 rfl (by decide) (map_len _)),zr' rfl (oB rfl rfl),z3 false rfl,zz⟩ ?_
    exact hl3 _ (Option.some.inj h).symm
theorem ok_slices_Index_int_int (s : (List Int)) (v : Int) (r : Int) (h : Sh.slices_Index_int_int s v = some r) : FnOK Tryd.prog 34 [.fl .shr 1 (List.map (Value.int .i64) s), .v (.int .i64 v)] (.v (.int .i64 r)) := by
  unfold Sh.slices_Index_int_int at h
  refine fn_ok func34 rfl (zl rfl) rfl rfl fun g0 hn hio => ?_
  refine zgg hn [_,_,(4,vi 0)] [0,1] [0,1] [zq [] 2 4] [(_,_),(_,_)] rfl ⟨z2 rfl,zz⟩ ?_
  refine ht_seq ?_
  refine zgg hn [_,_,(6,.fl .shr 1 (List.map (Value.int .i64) s)),(7,vi (s.length : Int)),(8,vi 0)] [0,1] [0,1,3,4] [zq [0] 2 6,zq [2] 3 7,zq [] 4 8] [(_,_),(_,_),(_,_),(_,_)] rfl ⟨z1 rfl,zp rfl (op_len_fl _ _ _ underlying28 rfl (by decide) (map_len _)),z1 rfl,zz⟩ ?_
  refine ht_loopS h (fun (s9 : Int) => [(0, .fl .shr 1 (List.map (Value.int .i64) s)), (1, .v (.int .i64 v)), (7, .v (.int .i64 (s.length : Int))), (8, .v (.int .i64 s9))]) (fun (() : Unit) => []) ?_ ?_
  ·rintro ⟨⟩ h
   refine pt_then ?_
   refine zgg hn [(4,vi (-1))] [] [0] [zq [] 0 4] [(_,_)] rfl ⟨z2 rfl,zz⟩ ?_
   refine ht_ret ?_
   obtain rfl := Option.some.inj h
   exact pt_ret hio rfl (.tmp _ _ .nil) rfl rfl
  ·rintro u12 hl13 hr14 s9 rr17 h ho15
   refine zgg hn [_,_,_,_,(9,vb (decide (s9 < (s.length : Int))))] [0,1,2,3] [0,1,2,3,4] [zq [3,2] 4 9] [(_,_),(_,_),(_,_),(_,_),(_,_)] rfl ⟨z4 rfl rfl,zz⟩ ?_
   refine ht_seq ?_
   refine ht_cond _ rfl (fun hb18 => ?_) (fun hb18 => ?_)
   ·have h := cond_t hb18 h
    refine ht_skip ?_
    refine pt_then (ht_seq ?_)
    refine ht_block ?_
    refine zgg hn [_,_,_,_,_,(10,vi s9),(5,vi s9)] [0,1,2,3,4] [0,1,2,3,6] [zq [3] 5 10,zq [5] 6 5] [(_,_),(_,_),(_,_),(_,_),(_,_)] rfl ⟨z1 rfl,z2 rfl,zz⟩ ?_
    refine ht_seq ?_
    obtain ⟨v2, hv2, h⟩ := bind_some h
    obtain ⟨v3, hv3, h⟩ := bind_some h
    refine zg hn [_,_,_,_,_,(11,vi v),(12,.fl .shr 1 (List.map (Value.int .i64) s)),(13,vi s9),(14,.eref (.slot 12) (v2 * 1)),(15,vi v3),(16,vb (v == v3))] [0,1,2,3,4] [0,1,2,3,4,10] [zq [1] 5 11,zq [0] 6 12,zq [4] 7 13,zq [6,7] 8 14,zq [8,6] 9 15,zq [5,9] 10 16] [(_,_),(_,_),(_,_),(_,_),(_,_),(_,_)] rfl ⟨z1 rfl,z1 rfl,z1 rfl,zp rfl (op_ix _ _ _ _ _ _ _ _ underlying28 sz3 (by decide) rfl rfl rfl (ix_ok hv2).1 (map_lt (ix_ok hv2).2) rfl),zp rfl (op_load_e _ _ _ _ _ _ underlying3 rfl rfl rfl (map_get hv3)),z4 rfl rfl,zz⟩ ?_
    refine pt_then ?_
    refine ht_cond _ rfl (fun hb19 => ?_) (fun hb19 => ?_)
    ·have h := cond_t hb19 h
     refine zgg hn [_,_,_,_,_,_,(17,vi s9),(4,vi s9)] [0,1,2,3,4,5] [7] [zq [4] 6 17,zq [6] 7 4] [(_,_)] rfl ⟨z1 rfl,z2 rfl,zz⟩ ?_
     refine ht_ret ?_
     refine pt_r_in ?_
     refine pt_r_then ?_
     refine pt_r_then ?_
     refine pt_r_in ?_
     refine pt_r_then ?_
     have h := hr14 _ (ho15 _ (Option.some.inj h).symm).symm
     obtain rfl := Option.some.inj h
     exact pt_ret hio rfl (.tmp _ _ .nil) rfl rfl
    ·have h := cond_f hb19 h
     refine ht_skip ?_
     refine pt_inb ?_
     refine pt_then ?_
     obtain ⟨v5, hv5, h⟩ := bind_some h
     refine zg hn [_,_,_,_,_,_,(18,vi v5),(8,vi v5)] [0,1,2,3,4,5] [0,1,2,7] [zq [3] 6 18,⟨[6],[3],[7],[(.slot 8)]⟩] [(_,_),(_,_),(_,_),(_,_)] rfl ⟨zp rfl (oB rfl (ibind (f := Value.int .i64) (Option.some.inj hv5))),zp rfl (LOp.drop [_] (oM rfl)),zz⟩ ?_
     exact pt_next _ (Option.some.inj h).symm rfl
   ·have h := cond_f hb18 h
    refine ht_exit ?_
    refine pt_x_then ?_
    refine pt_x_then ?_
    refine pt_x_in ?_
    refine pt_pick [] (by kernel_rfl) (es' := []) rfl ?_
    exact hl13 _ (ho15 _ (Option.some.inj h).symm).symm
theorem ok_slices_Contains_int_int (s : (List Int)) (v : Int) (r : Bool) (h : Sh.slices_Contains_int_int s v = some r) : FnOK Tryd.prog 21 [.fl .shr 1 (List.map (Value.int .i64) s), .v (.int .i64 v)] (.v (.bool r)) := by
  unfold Sh.slices_Contains_int_int at h
  refine fn_ok func21 rfl (zl rfl) rfl rfl fun g0 hn hio => ?_
  refine zgg hn [_,_,(4,vb false)] [0,1] [0,1] [zq [] 2 4] [(_,_),(_,_)] rfl ⟨z2 rfl,zz⟩ ?_
  refine ht_seq ?_
  obtain ⟨v1, hv1, h⟩ := bind_some h
  refine zg hn [_,_,(5,.fl .shr 1 (List.map (Value.int .i64) s)),(6,vi v),(7,vi v1),(8,vb (decide (0 ≤ v1))),(4,vb (decide (0 ≤ v1)))] [0,1] [6] [zq [0] 2 5,zq [1] 3 6,zq [2,3] 4 7,zq [4] 5 8,zq [5] 6 4] [(_,_)] rfl ⟨z1 rfl,z1 rfl,zp rfl (op_call _ _ 34 _ _ rfl call34 rfl (ok_slices_Index_int_int s v _ hv1) rfl rfl),z4 rfl rfl,z2 rfl,zz⟩ ?_
  refine pt_then (ht_ret ?_)
  obtain rfl := Option.some.inj h
  exact pt_ret hio rfl (.tmp _ _ .nil) rfl rfl
theorem ok_spool_open (s : T_Spool) (number : Int) (r : Bool) (h : Sh.spool_open s number = some r) : FnOK Tryd.prog 23 [.agg [.fr .shr true 11 (List.flatten (List.map T_Item.ienc s.Items)), .v (.int .i64 s.Packs), .fl .shr 1 (List.map (Value.int .i64) s.Sent), .fl .shr 1 (List.map (Value.int .u8) s.Part), .v (.int .i64 s.Of), .fl .shr 1 (List.map (Value.int .i64) s.Done)], .v (.int .i64 number)] (.v (.bool r)) := by
  unfold Sh.spool_open at h
  refine fn_ok func23 rfl (zl rfl) rfl rfl fun g0 hn hio => ?_
  refine zgg hn [_,_,(2,.box 31 [.fr .shr true 11 (List.flatten (List.map T_Item.ienc s.Items)),vi s.Packs,.fl .shr 1 (List.map (Value.int .i64) s.Sent),.fl .shr 1 (List.map (Value.int .u8) s.Part),vi s.Of,.fl .shr 1 (List.map (Value.int .i64) s.Done)]),(4,vb false)] [0,1] [1,2] [zq [0] 2 2,zq [] 3 4] [(_,_),(_,_)] rfl ⟨zp rfl (op_box _ _ _ _ rfl rfl rfl),z2 rfl,zz⟩ ?_
  refine ht_seq ?_
  refine ht_joinS h (fun (s2 : Bool) => [(4, .v (.bool s2))]) ?_ ?_
  ·rintro s2 h
   refine pt_then (ht_ret ?_)
   obtain rfl := Option.some.inj h
   exact pt_ret hio rfl (.tmp _ _ .nil) rfl rfl
  ·intro u3 h hl4 hr5
   refine cond_some h (fun hg1_2 h => ?_) (fun hg1_2 h => ?_)
   ·refine cond_some h (fun hg1_6 h => ?_) (fun hg1_6 h => ?_)
    ·obtain ⟨v1, hv1, h⟩ := bind_some h
     refine zg hn (_::_::(5,vi number)::(6,vb (decide (1 ≤ number)))::(7,vb true)::(8,vi number)::(9,vb (decide (number ≤ 65535)))::(10,vb (decide (number ≤ 65535)))::(11,vb true)::(12,.ptr 2 5)::(13,.fl .shr 1 (List.map (Value.int .i64) s.Done))::(14,vi number)::(15,vb v1)::(16,vb (!v1))::(17,vb (!v1))::(4,vb (!v1))::[]) [0,1] [15] [zq [0] 2 5,zq [2] 3 6,zq [3] 4 7,zq [4,0] 5 8,zq [4,5] 6 9,zq [4,6] 7 10,zq [7] 8 11,zq [8,1] 9 12,zq [8,9,1] 10 13,zq [8,0] 11 14,zq [8,10,11] 12 15,zq [8,12] 13 16,zq [8,13] 14 17,zq [14] 15 4] [(_,_)] rfl ⟨z1 rfl,z4 rfl rfl,z8 hg1_2 rfl,zr' rfl (oM rfl),zr' rfl (oB rfl rfl),z3 true rfl,z8 hg1_6 rfl,zr' rfl (oF underlying31 rfl sz28),zr' rfl (oL underlying28 rfl),zr' rfl (oM rfl),zr' rfl (op_call _ _ 21 _ _ rfl call21 rfl (ok_slices_Contains_int_int s.Done number _ hv1) rfl rfl),zr' rfl (op_un _ _ _ _ rfl rfl),z3 true rfl,z2 rfl,zz⟩ ?_
     exact hl4 _ (Option.some.inj h).symm
    ·refine zg hn (_::_::(5,vi number)::(6,vb (decide (1 ≤ number)))::(7,vb true)::(8,vi number)::(9,vb (decide (number ≤ 65535)))::(10,vb (decide (number ≤ 65535)))::(11,vb false)::(12,.v undef)::(13,.v undef)::(14,.v undef)::(15,.v undef)::(16,.v undef)::(17,vb false)::(4,vb false)::[]) [0,1] [15] [zq [0] 2 5,zq [2] 3 6,zq [3] 4 7,zq [4,0] 5 8,zq [4,5] 6 9,zq [4,6] 7 10,zq [7] 8 11,zq [8] 9 12,zq [8] 10 13,zq [8] 11 14,zq [8] 12 15,zq [8] 13 16,zq [8] 14 17,zq [14] 15 4] [(_,_)] rfl ⟨z1 rfl,z4 rfl rfl,z8 hg1_2 rfl,zr' rfl (oM rfl),zr' rfl (oB rfl rfl),z3 true rfl,z8 hg1_6 rfl,zt rfl,zt rfl,zt rfl,zt rfl,zt rfl,z3 false rfl,z2 rfl,zz⟩ ?_
     exact hl4 _ (Option.some.inj h).symm
   ·refine zg hn (_::_::(5,vi number)::(6,vb (decide (1 ≤ number)))::(7,vb false)::(8,.v undef)::(9,.v undef)::(10,vb false)::(11,vb false)::(12,.v undef)::(13,.v undef)::(14,.v undef)::(15,.v undef)::(16,.v undef)::(17,vb false)::(4,vb false)::[]) [0,1] [15] [zq [0] 2 5,zq [2] 3 6,zq [3] 4 7,zq [4] 5 8,zq [4] 6 9,zq [4] 7 10,zq [7] 8 11,zq [8] 9 12,zq [8] 10 13,zq [8] 11 14,zq [8] 12 15,zq [8] 13 16,zq [8] 14 17,zq [14] 15 4] [(_,_)] rfl ⟨z1 rfl,z4 rfl rfl,z8 hg1_2 rfl,zt rfl,zt rfl,z3 false rfl,z1 rfl,zt rfl,zt rfl,zt rfl,zt rfl,zt rfl,z3 false rfl,z2 rfl,zz⟩ ?_
    exact hl4 _ (Option.some.inj h).symm
theorem ok_spool_validChunk (s : T_Spool) (p_r : T_Rec) (r : Bool) (h : Sh.spool_validChunk s p_r = some r) : FnOK Tryd.prog 24 [.agg [.fr .shr true 11 (List.flatten (List.map T_Item.ienc s.Items)), .v (.int .i64 s.Packs), .fl .shr 1 (List.map (Value.int .i64) s.Sent), .fl .shr 1 (List.map (Value.int .u8) s.Part), .v (.int .i64 s.Of), .fl .shr 1 (List.map (Value.int .i64) s.Done)], .agg [.v (.int .i64 p_r.Kind), .v (.bool p_r.Mail.From.Null), .v (.string p_r.Mail.From.Local), .v (.string p_r.Mail.From.Domain), .fl .shr 3 (List.flatten (List.map T_Path.enc p_r.Mail.To)), .fl .shr 1 (List.map (Value.int .u8) p_r.Mail.Body), .v (.bool p_r.Mail.Quiet), .v (.string p_r.Mail.Helo), .v (.int .i64 p_r.Mail.At), .v (.int .i64 p_r.Id), .fl .shr 1 (List.map (Value.int .i64) p_r.Ids), .v (.int .i64 p_r.Origin), .v (.int .i64 p_r.Number), .v (.int .i64 p_r.Offset), .fl .shr 1 (List.map (Value.int .u8) p_r.Data)]] (.v (.bool r)) := by
  unfold Sh.spool_validChunk at h
  refine fn_ok func24 rfl (zl rfl) rfl rfl fun g0 hn hio => ?_
  refine zgg hn [_,_,(2,.box 31 [.fr .shr true 11 (List.flatten (List.map T_Item.ienc s.Items)),vi s.Packs,.fl .shr 1 (List.map (Value.int .i64) s.Sent),.fl .shr 1 (List.map (Value.int .u8) s.Part),vi s.Of,.fl .shr 1 (List.map (Value.int .i64) s.Done)]),(3,.box 50 [vi p_r.Kind,vb p_r.Mail.From.Null,vs p_r.Mail.From.Local,vs p_r.Mail.From.Domain,.fl .shr 3 (List.flatten (List.map T_Path.enc p_r.Mail.To)),.fl .shr 1 (List.map (Value.int .u8) p_r.Mail.Body),vb p_r.Mail.Quiet,vs p_r.Mail.Helo,vi p_r.Mail.At,vi p_r.Id,.fl .shr 1 (List.map (Value.int .i64) p_r.Ids),vi p_r.Origin,vi p_r.Number,vi p_r.Offset,.fl .shr 1 (List.map (Value.int .u8) p_r.Data)]),(4,vb false)] [0,1] [2,3] [zq [0] 2 2,zq [1] 3 3,zq [] 4 4] [(_,_),(_,_)] rfl ⟨zp rfl (op_box _ _ _ _ rfl rfl rfl),zp rfl (op_box _ _ _ _ rfl rfl rfl),z2 rfl,zz⟩ ?_
  refine ht_seq ?_
  refine ht_seq ?_
  refine ht_joinS h (fun (s1 : Bool) => [(2, .box 31 [.fr .shr true 11 (List.flatten (List.map T_Item.ienc s.Items)), .v (.int .i64 s.Packs), .fl .shr 1 (List.map (Value.int .i64) s.Sent), .fl .shr 1 (List.map (Value.int .u8) s.Part), .v (.int .i64 s.Of), .fl .shr 1 (List.map (Value.int .i64) s.Done)]), (3, .box 50 [.v (.int .i64 p_r.Kind), .v (.bool p_r.Mail.From.Null), .v (.string p_r.Mail.From.Local), .v (.string p_r.Mail.From.Domain), .fl .shr 3 (List.flatten (List.map T_Path.enc p_r.Mail.To)), .fl .shr 1 (List.map (Value.int .u8) p_r.Mail.Body), .v (.bool p_r.Mail.Quiet), .v (.string p_r.Mail.Helo), .v (.int .i64 p_r.Mail.At), .v (.int .i64 p_r.Id), .fl .shr 1 (List.map (Value.int .i64) p_r.Ids), .v (.int .i64 p_r.Origin), .v (.int .i64 p_r.Number), .v (.int .i64 p_r.Offset), .fl .shr 1 (List.map (Value.int .u8) p_r.Data)]), (14, .v (.bool s1))]) ?_ ?_
  ·rintro s1 h
   refine pt_then ?_
   refine ht_cond _ rfl (fun hb5 => ?_) (fun hb5 => ?_)
   ·have h := cond_t hb5 h
    refine zgg hn [_,_,_,(4,vb false)] [0,1,2] [3] [zq [] 3 4] [(_,_)] rfl ⟨z2 rfl,zz⟩ ?_
    refine ht_ret ?_
    refine pt_r_then ?_
    obtain rfl := Option.some.inj h
    exact pt_ret hio rfl (.tmp _ _ .nil) rfl rfl
   ·have h := cond_f hb5 h
    refine ht_skip ?_
    refine pt_then (ht_seq ?_)
    refine zgg hn [_,_,_,(15,.ptr 3 13),(16,vi p_r.Offset),(17,vb (p_r.Offset == 0))] [0,1,2] [0,1,5] [zq [1] 3 15,zq [3,1] 4 16,zq [4] 5 17] [(_,_),(_,_),(_,_)] rfl ⟨zp rfl (oF underlying50 rfl sz3),zp rfl (oL underlying3 rfl),z4 rfl rfl,zz⟩ ?_
    refine ht_cond _ rfl (fun hb6 => ?_) (fun hb6 => ?_)
    ·have h := cond_t hb6 h
     refine zgg hn [_,_,_,(4,vb true)] [0,1,2] [3] [zq [] 3 4] [(_,_)] rfl ⟨z2 rfl,zz⟩ ?_
     refine ht_ret ?_
     refine pt_r_then ?_
     obtain rfl := Option.some.inj h
     exact pt_ret hio rfl (.tmp _ _ .nil) rfl rfl
    ·have h := cond_f hb6 h
     refine ht_skip ?_
     refine pt_then (ht_seq ?_)
     refine ht_joinS h (fun (s8 : Bool) => [(4, .v (.bool s8))]) ?_ ?_
     ·rintro s8 h
      refine pt_then (ht_ret ?_)
      obtain rfl := Option.some.inj h
      exact pt_ret hio rfl (.tmp _ _ .nil) rfl rfl
     ·intro u9 h hl10 hr11
      refine cond_some h (fun hg5_5 h => ?_) (fun hg5_5 h => ?_)
      ·refine cond_some h (fun hg5_13 h => ?_) (fun hg5_13 h => ?_)
       ·obtain ⟨v7, hv7, h⟩ := bind_some h
        refine zg hn (_::_::_::(18,.ptr 2 4)::(19,vi s.Of)::(20,.ptr 3 12)::(21,vi p_r.Number)::(22,vb (s.Of == p_r.Number))::(23,vb true)::(24,.ptr 3 13)::(25,vi p_r.Offset)::(26,.ptr 2 3)::(27,.fl .shr 1 (List.map (Value.int .u8) s.Part))::(28,vi (s.Part.length : Int))::(29,vb (p_r.Offset == (s.Part.length : Int)))::(30,vb (p_r.Offset == (s.Part.length : Int)))::(31,vb true)::(32,.ptr 2 3)::(33,.fl .shr 1 (List.map (Value.int .u8) s.Part))::(34,vi (s.Part.length : Int))::(35,.ptr 3 14)::(36,.fl .shr 1 (List.map (Value.int .u8) p_r.Data))::(37,vi (p_r.Data.length : Int))::(38,vi v7)::(39,vb (decide (v7 ≤ 5000)))::(40,vb (decide (v7 ≤ 5000)))::(4,vb (decide (v7 ≤ 5000)))::[]) [0,1,2] [26] (zq [0] 3 18::zq [3,0] 4 19::zq [1] 5 20::zq [5,1] 6 21::zq [4,6] 7 22::zq [7] 8 23::zq [8,1] 9 24::zq [8,9,1] 10 25::zq [8,0] 11 26::zq [8,11,0] 12 27::zq [8,12] 13 28::zq [8,10,13] 14 29::zq [8,14] 15 30::zq [15] 16 31::zq [16,0] 17 32::zq [16,17,0] 18 33::zq [16,18] 19 34::zq [16,1] 20 35::zq [16,20,1] 21 36::zq [16,21] 22 37::zq [16,19,22] 23 38::zq [16,23] 24 39::zq [16,24] 25 40::zq [25] 26 4::[]) [(_,_)] rfl ⟨zp rfl (oF underlying31 rfl sz3),zp rfl (oL underlying3 rfl),zp rfl (oF underlying50 rfl sz3),zp rfl (oL underlying3 rfl),z4 rfl rfl,z8 hg5_5 rfl,zr' rfl (oF underlying50 rfl sz3),zr' rfl (oL underlying3 rfl),zr' rfl (oF underlying31 rfl sz29),zr' rfl (oL underlying29 rfl),zr' rfl (op_len_fl _ _ _ underlying29 rfl (by decide) (map_len _)),zr' rfl (oB rfl rfl),z3 true rfl,z8 hg5_13 rfl,zr' rfl (oF underlying31 rfl sz29),zr' rfl (oL underlying29 rfl),zr' rfl (op_len_fl _ _ _ underlying29 rfl (by decide) (map_len _)),zr' rfl (oF underlying50 rfl sz29),zr' rfl (oL underlying29 rfl),zr' rfl (op_len_fl _ _ _ underlying29 rfl (by decide) (map_len _)),zr' rfl (oB rfl (ibind (f := Value.int .i64) (Option.some.inj hv7))),zr' rfl (oB rfl rfl),z3 true rfl,z2 rfl,zz⟩ ?_
        exact hl10 _ (Option.some.inj h).symm
       ·refine zg hn (_::_::_::(18,.ptr 2 4)::(19,vi s.Of)::(20,.ptr 3 12)::(21,vi p_r.Number)::(22,vb (s.Of == p_r.Number))::(23,vb true)::(24,.ptr 3 13)::(25,vi p_r.Offset)::(26,.ptr 2 3)::(27,.fl .shr 1 (List.map (Value.int .u8) s.Part))::(28,vi (s.Part.length : Int))::(29,vb (p_r.Offset == (s.Part.length : Int)))::(30,vb (p_r.Offset == (s.Part.length : Int)))::(31,vb false)::(32,.v undef)::(33,.v undef)::(34,.v undef)::(35,.v undef)::(36,.v undef)::(37,.v undef)::(38,.v undef)::(39,.v undef)::(40,vb false)::(4,vb false)::[]) [0,1,2] [26] (zq [0] 3 18::zq [3,0] 4 19::zq [1] 5 20::zq [5,1] 6 21::zq [4,6] 7 22::zq [7] 8 23::zq [8,1] 9 24::zq [8,9,1] 10 25::zq [8,0] 11 26::zq [8,11,0] 12 27::zq [8,12] 13 28::zq [8,10,13] 14 29::zq [8,14] 15 30::zq [15] 16 31::zq [16] 17 32::zq [16] 18 33::zq [16] 19 34::zq [16] 20 35::zq [16] 21 36::zq [16] 22 37::zq [16] 23 38::zq [16] 24 39::zq [16] 25 40::zq [25] 26 4::[]) [(_,_)] rfl ⟨zp rfl (oF underlying31 rfl sz3),zp rfl (oL underlying3 rfl),zp rfl (oF underlying50 rfl sz3),zp rfl (oL underlying3 rfl),z4 rfl rfl,z8 hg5_5 rfl,zr' rfl (oF underlying50 rfl sz3),zr' rfl (oL underlying3 rfl),zr' rfl (oF underlying31 rfl sz29),zr' rfl (oL underlying29 rfl),zr' rfl (op_len_fl _ _ _ underlying29 rfl (by decide) (map_len _)),zr' rfl (oB rfl rfl),z3 true rfl,z8 hg5_13 rfl,zt rfl,zt rfl,zt rfl,zt rfl,zt rfl,zt rfl,zt rfl,zt rfl,z3 false rfl,z2 rfl,zz⟩ ?_
        exact hl10 _ (Option.some.inj h).symm
      ·refine zg hn (_::_::_::(18,.ptr 2 4)::(19,vi s.Of)::(20,.ptr 3 12)::(21,vi p_r.Number)::(22,vb (s.Of == p_r.Number))::(23,vb false)::(24,.v undef)::(25,.v undef)::(26,.v undef)::(27,.v undef)::(28,.v undef)::(29,.v undef)::(30,vb false)::(31,vb false)::(32,.v undef)::(33,.v undef)::(34,.v undef)::(35,.v undef)::(36,.v undef)::(37,.v undef)::(38,.v undef)::(39,.v undef)::(40,vb false)::(4,vb false)::[]) [0,1,2] [26] (zq [0] 3 18::zq [3,0] 4 19::zq [1] 5 20::zq [5,1] 6 21::zq [4,6] 7 22::zq [7] 8 23::zq [8] 9 24::zq [8] 10 25::zq [8] 11 26::zq [8] 12 27::zq [8] 13 28::zq [8] 14 29::zq [8] 15 30::zq [15] 16 31::zq [16] 17 32::zq [16] 18 33::zq [16] 19 34::zq [16] 20 35::zq [16] 21 36::zq [16] 22 37::zq [16] 23 38::zq [16] 24 39::zq [16] 25 40::zq [25] 26 4::[]) [(_,_)] rfl ⟨zp rfl (oF underlying31 rfl sz3),zp rfl (oL underlying3 rfl),zp rfl (oF underlying50 rfl sz3),zp rfl (oL underlying3 rfl),z4 rfl rfl,z8 hg5_5 rfl,zt rfl,zt rfl,zt rfl,zt rfl,zt rfl,zt rfl,z3 false rfl,z1 rfl,zt rfl,zt rfl,zt rfl,zt rfl,zt rfl,zt rfl,zt rfl,zt rfl,z3 false rfl,z2 rfl,zz⟩ ?_
       exact hl10 _ (Option.some.inj h).symm
  ·intro u2 h hl3 hr4
   refine cond_some h (fun hg1_4 h => ?_) (fun hg1_4 h => ?_)
   ·refine zg hn [_,_,(5,.ptr 3 14),(6,.fl .shr 1 (List.map (Value.int .u8) p_r.Data)),(7,vi (p_r.Data.length : Int)),(8,vb (decide ((p_r.Data.length : Int) < 1))),(9,vb true),(10,.v undef),(11,.v undef),(12,.v undef),(13,.v undef),(14,vb true)] [0,1] [0,1,11] [zq [1] 2 5,zq [2,1] 3 6,zq [3] 4 7,zq [4] 5 8,zq [5] 6 9,zq [6] 7 10,zq [6] 8 11,zq [6] 9 12,zq [6] 10 13,zq [6] 11 14] [(_,_),(_,_),(_,_)] rfl ⟨zp rfl (oF underlying50 rfl sz29),zp rfl (oL underlying29 rfl),zp rfl (op_len_fl _ _ _ underlying29 rfl (by decide) (map_len _)),z4 rfl rfl,z8 hg1_4 rfl,zf rfl,zf rfl,zf rfl,zf rfl,z3 true rfl,zz⟩ ?_
    exact hl3 _ (Option.some.inj h).symm
   ·refine zg hn [_,_,(5,.ptr 3 14),(6,.fl .shr 1 (List.map (Value.int .u8) p_r.Data)),(7,vi (p_r.Data.length : Int)),(8,vb (decide ((p_r.Data.length : Int) < 1))),(9,vb false),(10,.ptr 3 14),(11,.fl .shr 1 (List.map (Value.int .u8) p_r.Data)),(12,vi (p_r.Data.length : Int)),(13,vb (decide (48 < (p_r.Data.length : Int)))),(14,vb (decide (48 < (p_r.Data.length : Int))))] [0,1] [0,1,11] [zq [1] 2 5,zq [2,1] 3 6,zq [3] 4 7,zq [4] 5 8,zq [5] 6 9,zq [6,1] 7 10,zq [6,7,1] 8 11,zq [6,8] 9 12,zq [6,9] 10 13,zq [6,10] 11 14] [(_,_),(_,_),(_,_)] rfl ⟨zp rfl (oF underlying50 rfl sz29),zp rfl (oL underlying29 rfl),zp rfl (op_len_fl _ _ _ underlying29 rfl (by decide) (map_len _)),z4 rfl rfl,z8 hg1_4 rfl,zr' rfl (oF underlying50 rfl sz29),zr' rfl (oL underlying29 rfl),zr' rfl (op_len_fl _ _ _ underlying29 rfl (by decide) (map_len _)),zr' rfl (oB rfl rfl),z3 false rfl,zz⟩ ?_
    exact hl3 _ (Option.some.inj h).symm
theorem ok_spool_valid (mx : Int) (s : T_Spool) (p_r : T_Rec) (r : Bool) (h : Sh.spool_valid s p_r = some r) : FnG Tryd.prog (GL mx) 12 [.agg [.fr .shr true 11 (List.flatten (List.map T_Item.ienc s.Items)), .v (.int .i64 s.Packs), .fl .shr 1 (List.map (Value.int .i64) s.Sent), .fl .shr 1 (List.map (Value.int .u8) s.Part), .v (.int .i64 s.Of), .fl .shr 1 (List.map (Value.int .i64) s.Done)], .agg [.v (.int .i64 p_r.Kind), .v (.bool p_r.Mail.From.Null), .v (.string p_r.Mail.From.Local), .v (.string p_r.Mail.From.Domain), .fl .shr 3 (List.flatten (List.map T_Path.enc p_r.Mail.To)), .fl .shr 1 (List.map (Value.int .u8) p_r.Mail.Body), .v (.bool p_r.Mail.Quiet), .v (.string p_r.Mail.Helo), .v (.int .i64 p_r.Mail.At), .v (.int .i64 p_r.Id), .fl .shr 1 (List.map (Value.int .i64) p_r.Ids), .v (.int .i64 p_r.Origin), .v (.int .i64 p_r.Number), .v (.int .i64 p_r.Offset), .fl .shr 1 (List.map (Value.int .u8) p_r.Data)]] (.v (.bool r)) := by
  unfold Sh.spool_valid at h
  refine fn_okG func12 rfl (zl rfl) rfl rfl fun g0 hn hio => ?_
  refine zgg hn [_,_,_,(2,.box 31 [.fr .shr true 11 (List.flatten (List.map T_Item.ienc s.Items)),vi s.Packs,.fl .shr 1 (List.map (Value.int .i64) s.Sent),.fl .shr 1 (List.map (Value.int .u8) s.Part),vi s.Of,.fl .shr 1 (List.map (Value.int .i64) s.Done)]),(3,.box 50 [vi p_r.Kind,vb p_r.Mail.From.Null,vs p_r.Mail.From.Local,vs p_r.Mail.From.Domain,.fl .shr 3 (List.flatten (List.map T_Path.enc p_r.Mail.To)),.fl .shr 1 (List.map (Value.int .u8) p_r.Mail.Body),vb p_r.Mail.Quiet,vs p_r.Mail.Helo,vi p_r.Mail.At,vi p_r.Id,.fl .shr 1 (List.map (Value.int .i64) p_r.Ids),vi p_r.Origin,vi p_r.Number,vi p_r.Offset,.fl .shr 1 (List.map (Value.int .u8) p_r.Data)]),(4,vb false)] [0,1,2] [2,3,4] [zq [0] 3 2,zq [1] 4 3,zq [] 5 4] [(_,_),(_,_),(_,_)] rfl ⟨zp rfl (op_box _ _ _ _ rfl rfl rfl),zp rfl (op_box _ _ _ _ rfl rfl rfl),z2 rfl,zz⟩ ?_
  refine ht_seq ?_
  refine ht_seq ?_
  obtain ⟨v1, hv1, h⟩ := bind_some h
  obtain ⟨v2, hv2, h⟩ := bind_some h
  refine zg hn [_,_,_,(5,.agg [vi p_r.Kind,vb p_r.Mail.From.Null,vs p_r.Mail.From.Local,vs p_r.Mail.From.Domain,.fl .shr 3 (List.flatten (List.map T_Path.enc p_r.Mail.To)),.fl .shr 1 (List.map (Value.int .u8) p_r.Mail.Body),vb p_r.Mail.Quiet,vs p_r.Mail.Helo,vi p_r.Mail.At,vi p_r.Id,.fl .shr 1 (List.map (Value.int .i64) p_r.Ids),vi p_r.Origin,vi p_r.Number,vi p_r.Offset,.fl .shr 1 (List.map (Value.int .u8) p_r.Data)]),(6,.agg [vi v1.Kind,vb v1.Mail.From.Null,vs v1.Mail.From.Local,vs v1.Mail.From.Domain,.fl .shr 3 (List.flatten (List.map T_Path.enc v1.Mail.To)),.fl .shr 1 (List.map (Value.int .u8) v1.Mail.Body),vb v1.Mail.Quiet,vs v1.Mail.Helo,vi v1.Mail.At,vi v1.Id,.fl .shr 1 (List.map (Value.int .i64) v1.Ids),vi v1.Origin,vi v1.Number,vi v1.Offset,.fl .shr 1 (List.map (Value.int .u8) v1.Data)]),(7,vb v2),(8,vb (!v2))] [0,1,2] [0,1,2,6] [zq [2] 3 5,zq [3] 4 6,zq [4] 5 7,zq [5] 6 8] [(_,_),(_,_),(_,_),(_,_)] rfl ⟨zp rfl (op_loadA _ _ _ _ _ _ _ underlying50 rfl sz50 rfl rfl (zl rfl) rfl rfl),zp rfl (op_callS _ _ 18 _ _ rfl call18 rfl rfl (ok_spool_rest_sh ((T_Rec.mk p_r.Kind ((T_Mail.mk (T_Path.mk p_r.Mail.From.Null p_r.Mail.From.Local p_r.Mail.From.Domain) p_r.Mail.To p_r.Mail.Body p_r.Mail.Quiet p_r.Mail.Helo p_r.Mail.At)) p_r.Id p_r.Ids p_r.Origin p_r.Number p_r.Offset p_r.Data)) _ hv1) rfl),zp rfl (op_call _ _ 17 _ _ rfl call17 rfl (ok_spool_empty ((T_Rec.mk v1.Kind ((T_Mail.mk (T_Path.mk v1.Mail.From.Null v1.Mail.From.Local v1.Mail.From.Domain) v1.Mail.To v1.Mail.Body v1.Mail.Quiet v1.Mail.Helo v1.Mail.At)) v1.Id v1.Ids v1.Origin v1.Number v1.Offset v1.Data)) _ hv2) rfl rfl),zp rfl (op_un _ _ _ _ rfl rfl),zz⟩ ?_
  refine pt_then ?_
  refine ht_cond _ rfl (fun hb3 => ?_) (fun hb3 => ?_)
  ·have h := cond_t hb3 h
   refine zgg hn [_,_,_,_,(4,vb false)] [0,1,2,3] [0,4] [zq [] 4 4] [(_,_),(_,_)] rfl ⟨z2 rfl,zz⟩ ?_
   refine ht_ret ?_
   refine pt_pick [1] (by kernel_rfl) (es' := [(_,_)]) rfl ?_
   refine pt_r_then ?_
   obtain rfl := Option.some.inj h
   exact pt_ret hio rfl (.tmp _ _ .nil) rfl rfl
  ·have h := cond_f hb3 h
   refine ht_skip ?_
   refine pt_then (ht_seq ?_)
   refine zgg hn [_,_,_,_,(9,.ptr 3 0),(10,vi p_r.Kind)] [0,1,2,3] [0,1,2,5] [zq [2] 4 9,zq [4,2] 5 10] [(_,_),(_,_),(_,_),(_,_)] rfl ⟨zp rfl (oF underlying50 rfl sz3),zp rfl (oL underlying3 rfl),zz⟩ ?_
   refine ht_block ?_
   refine zgg hn [_,_,_,_,(12,vb (p_r.Kind == 1)),(11,vb (p_r.Kind == 1))] [0,1,2,3] [0,1,2,3,5] [zq [3] 4 12,zq [4] 5 11] [(_,_),(_,_),(_,_),(_,_),(_,_)] rfl ⟨z4 rfl rfl,z2 rfl,zz⟩ ?_
   refine ht_cond _ rfl (fun hb4 => ?_) (fun hb4 => ?_)
   ·have h := cond_t hb4 h
    refine ht_seq ?_
    refine ht_joinS h (fun (s8 : Bool) => [(98, .glob (GL mx)), (4, .v (.bool s8))]) ?_ ?_
    ·rintro s8 h
     refine pt_then (ht_ret ?_)
     refine pt_pick [1] (by kernel_rfl) (es' := [(_,_)]) rfl ?_
     refine pt_r_in ?_
     refine pt_r_then ?_
     obtain rfl := Option.some.inj h
     exact pt_ret hio rfl (.tmp _ _ .nil) rfl rfl
    ·intro u9 h hl10 hr11
     refine cond_some h (fun hg5_4 h => ?_) (fun hg5_4 h => ?_)
     ·obtain ⟨v5, hv5, h⟩ := bind_some h
      refine cond_some h (fun hg5_13 h => ?_) (fun hg5_13 h => ?_)
      ·refine cond_some h (fun hg5_17 h => ?_) (fun hg5_17 h => ?_)
       ·obtain ⟨v6, hv6, h⟩ := bind_some h
        refine zg hn (_::_::_::_::_::(13,.ptr 2 0)::(14,.fr .shr true 11 (List.flatten (List.map T_Item.ienc s.Items)))::(15,vi (s.Items.length : Int))::(16,vb (decide ((s.Items.length : Int) < 60)))::(17,vb true)::(18,.ptr 3 9)::(19,vi p_r.Id)::(20,.ptr 2 0)::(21,.fr .shr true 11 (List.flatten (List.map T_Item.ienc s.Items)))::(22,vi (s.Items.length : Int))::(23,vi v5)::(24,vb (p_r.Id == v5))::(25,vb (p_r.Id == v5))::(26,vb true)::(27,.ptr 3 11)::(28,vi p_r.Origin)::(29,vb (p_r.Origin == 0))::(30,vb true)::(31,.v undef)::(32,.v undef)::(33,.v undef)::(34,vb true)::(35,vb true)::(36,vb true)::(37,.ptr 3 1)::(38,.agg [vb p_r.Mail.From.Null,vs p_r.Mail.From.Local,vs p_r.Mail.From.Domain,.fl .shr 3 (List.flatten (List.map T_Path.enc p_r.Mail.To)),.fl .shr 1 (List.map (Value.int .u8) p_r.Mail.Body),vb p_r.Mail.Quiet,vs p_r.Mail.Helo,vi p_r.Mail.At])::(39,vb v6)::(40,vb v6)::(4,vb v6)::[]) [0,1,2,3,4] [0,33] (zq [1] 5 13::zq [5,1] 6 14::zq [6] 7 15::zq [7] 8 16::zq [8] 9 17::zq [9,2] 10 18::zq [9,10,2] 11 19::zq [9,1] 12 20::zq [9,12,1] 13 21::zq [9,13] 14 22::zq [9,14] 15 23::zq [9,11,15] 16 24::zq [9,16] 17 25::zq [17] 18 26::zq [18,2] 19 27::zq [18,19,2] 20 28::zq [18,20] 21 29::zq [18,21] 22 30::zq [22] 23 31::zq [22] 24 32::zq [22] 25 33::zq [18,22] 26 34::zq [18,26] 27 35::zq [27] 28 36::zq [28,2] 29 37::zq [28,29,2] 30 38::zq [28,30,0] 31 39::zq [28,31] 32 40::zq [32] 33 4::[]) [(_,_),(_,_)] rfl ⟨zp rfl (oF underlying31 rfl sz27),zp rfl (oL underlying27 rfl),zp rfl (op_len_fr _ _ _ underlying27 rfl (by decide) (gflat_len T_Item.ilen _)),z4 rfl rfl,z8 hg5_4 rfl,zr' rfl (oF underlying50 rfl sz3),zr' rfl (oL underlying3 rfl),zr' rfl (oF underlying31 rfl sz27),zr' rfl (oL underlying27 rfl),zr' rfl (op_len_fr _ _ _ underlying27 rfl (by decide) (gflat_len T_Item.ilen _)),zr' rfl (oB rfl (ibind (f := Value.int .i64) (Option.some.inj hv5))),zr' rfl (oB rfl rfl),z3 true rfl,z8 hg5_13 rfl,zr' rfl (oF underlying50 rfl sz3),zr' rfl (oL underlying3 rfl),zr' rfl (oB rfl rfl),zr' rfl (op_move _ _ _ _ (zb hg5_17) rfl),zf rfl,zf rfl,zf rfl,zr' rfl (op_pick _ _ true _ rfl rfl),z3 true rfl,z1 rfl,zr' rfl (oF underlying50 rfl sz48),zr' rfl (op_loadA _ _ _ _ _ _ _ underlying48 rfl sz48 rfl rfl (zl rfl) rfl rfl),zr' rfl (op_callG _ _ 98 19 _ _ rfl call19 rfl rfl (fun _ h => h) (ok_spool_validMail mx ((T_Mail.mk (T_Path.mk p_r.Mail.From.Null p_r.Mail.From.Local p_r.Mail.From.Domain) p_r.Mail.To p_r.Mail.Body p_r.Mail.Quiet p_r.Mail.Helo p_r.Mail.At)) _ hv6) rfl rfl),z3 true rfl,z2 rfl,zz⟩ ?_
        exact hl10 _ (Option.some.inj h).symm
       ·refine cond_some h (fun hg5_23 h => ?_) (fun hg5_23 h => ?_)
        ·obtain ⟨v7, hv7, h⟩ := bind_some h
         refine zg hn (_::_::_::_::_::(13,.ptr 2 0)::(14,.fr .shr true 11 (List.flatten (List.map T_Item.ienc s.Items)))::(15,vi (s.Items.length : Int))::(16,vb (decide ((s.Items.length : Int) < 60)))::(17,vb true)::(18,.ptr 3 9)::(19,vi p_r.Id)::(20,.ptr 2 0)::(21,.fr .shr true 11 (List.flatten (List.map T_Item.ienc s.Items)))::(22,vi (s.Items.length : Int))::(23,vi v5)::(24,vb (p_r.Id == v5))::(25,vb (p_r.Id == v5))::(26,vb true)::(27,.ptr 3 11)::(28,vi p_r.Origin)::(29,vb (p_r.Origin == 0))::(30,vb false)::(31,.ptr 3 11)::(32,vi p_r.Origin)::(33,vb (p_r.Origin == 1))::(34,vb (p_r.Origin == 1))::(35,vb (p_r.Origin == 1))::(36,vb true)::(37,.ptr 3 1)::(38,.agg [vb p_r.Mail.From.Null,vs p_r.Mail.From.Local,vs p_r.Mail.From.Domain,.fl .shr 3 (List.flatten (List.map T_Path.enc p_r.Mail.To)),.fl .shr 1 (List.map (Value.int .u8) p_r.Mail.Body),vb p_r.Mail.Quiet,vs p_r.Mail.Helo,vi p_r.Mail.At])::(39,vb v7)::(40,vb v7)::(4,vb v7)::[]) [0,1,2,3,4] [0,33] (zq [1] 5 13::zq [5,1] 6 14::zq [6] 7 15::zq [7] 8 16::zq [8] 9 17::zq [9,2] 10 18::zq [9,10,2] 11 19::zq [9,1] 12 20::zq [9,12,1] 13 21::zq [9,13] 14 22::zq [9,14] 15 23::zq [9,11,15] 16 24::zq [9,16] 17 25::zq [17] 18 26::zq [18,2] 19 27::zq [18,19,2] 20 28::zq [18,20] 21 29::zq [18,21] 22 30::zq [22,2] 23 31::zq [22,23,2] 24 32::zq [22,24] 25 33::zq [18,22,25] 26 34::zq [18,26] 27 35::zq [27] 28 36::zq [28,2] 29 37::zq [28,29,2] 30 38::zq [28,30,0] 31 39::zq [28,31] 32 40::zq [32] 33 4::[]) [(_,_),(_,_)] rfl ⟨zp rfl (oF underlying31 rfl sz27),zp rfl (oL underlying27 rfl),zp rfl (op_len_fr _ _ _ underlying27 rfl (by decide) (gflat_len T_Item.ilen _)),z4 rfl rfl,z8 hg5_4 rfl,zr' rfl (oF underlying50 rfl sz3),zr' rfl (oL underlying3 rfl),zr' rfl (oF underlying31 rfl sz27),zr' rfl (oL underlying27 rfl),zr' rfl (op_len_fr _ _ _ underlying27 rfl (by decide) (gflat_len T_Item.ilen _)),zr' rfl (oB rfl (ibind (f := Value.int .i64) (Option.some.inj hv5))),zr' rfl (oB rfl rfl),z3 true rfl,z8 hg5_13 rfl,zr' rfl (oF underlying50 rfl sz3),zr' rfl (oL underlying3 rfl),zr' rfl (oB rfl rfl),zr' rfl (op_move _ _ _ _ (zb hg5_17) rfl),zr' rfl (oF underlying50 rfl sz3),zr' rfl (oL underlying3 rfl),zr' rfl (oB rfl rfl),zr' rfl (op_pick _ _ false _ rfl rfl),z3 true rfl,z8 hg5_23 rfl,zr' rfl (oF underlying50 rfl sz48),zr' rfl (op_loadA _ _ _ _ _ _ _ underlying48 rfl sz48 rfl rfl (zl rfl) rfl rfl),zr' rfl (op_callG _ _ 98 19 _ _ rfl call19 rfl rfl (fun _ h => h) (ok_spool_validMail mx ((T_Mail.mk (T_Path.mk p_r.Mail.From.Null p_r.Mail.From.Local p_r.Mail.From.Domain) p_r.Mail.To p_r.Mail.Body p_r.Mail.Quiet p_r.Mail.Helo p_r.Mail.At)) _ hv7) rfl rfl),z3 true rfl,z2 rfl,zz⟩ ?_
         exact hl10 _ (Option.some.inj h).symm
        ·refine zg hn (_::_::_::_::_::(13,.ptr 2 0)::(14,.fr .shr true 11 (List.flatten (List.map T_Item.ienc s.Items)))::(15,vi (s.Items.length : Int))::(16,vb (decide ((s.Items.length : Int) < 60)))::(17,vb true)::(18,.ptr 3 9)::(19,vi p_r.Id)::(20,.ptr 2 0)::(21,.fr .shr true 11 (List.flatten (List.map T_Item.ienc s.Items)))::(22,vi (s.Items.length : Int))::(23,vi v5)::(24,vb (p_r.Id == v5))::(25,vb (p_r.Id == v5))::(26,vb true)::(27,.ptr 3 11)::(28,vi p_r.Origin)::(29,vb (p_r.Origin == 0))::(30,vb false)::(31,.ptr 3 11)::(32,vi p_r.Origin)::(33,vb (p_r.Origin == 1))::(34,vb (p_r.Origin == 1))::(35,vb (p_r.Origin == 1))::(36,vb false)::(37,.v undef)::(38,.v undef)::(39,.v undef)::(40,vb false)::(4,vb false)::[]) [0,1,2,3,4] [0,33] (zq [1] 5 13::zq [5,1] 6 14::zq [6] 7 15::zq [7] 8 16::zq [8] 9 17::zq [9,2] 10 18::zq [9,10,2] 11 19::zq [9,1] 12 20::zq [9,12,1] 13 21::zq [9,13] 14 22::zq [9,14] 15 23::zq [9,11,15] 16 24::zq [9,16] 17 25::zq [17] 18 26::zq [18,2] 19 27::zq [18,19,2] 20 28::zq [18,20] 21 29::zq [18,21] 22 30::zq [22,2] 23 31::zq [22,23,2] 24 32::zq [22,24] 25 33::zq [18,22,25] 26 34::zq [18,26] 27 35::zq [27] 28 36::zq [28] 29 37::zq [28] 30 38::zq [28] 31 39::zq [28] 32 40::zq [32] 33 4::[]) [(_,_),(_,_)] rfl ⟨zp rfl (oF underlying31 rfl sz27),zp rfl (oL underlying27 rfl),zp rfl (op_len_fr _ _ _ underlying27 rfl (by decide) (gflat_len T_Item.ilen _)),z4 rfl rfl,z8 hg5_4 rfl,zr' rfl (oF underlying50 rfl sz3),zr' rfl (oL underlying3 rfl),zr' rfl (oF underlying31 rfl sz27),zr' rfl (oL underlying27 rfl),zr' rfl (op_len_fr _ _ _ underlying27 rfl (by decide) (gflat_len T_Item.ilen _)),zr' rfl (oB rfl (ibind (f := Value.int .i64) (Option.some.inj hv5))),zr' rfl (oB rfl rfl),z3 true rfl,z8 hg5_13 rfl,zr' rfl (oF underlying50 rfl sz3),zr' rfl (oL underlying3 rfl),zr' rfl (oB rfl rfl),zr' rfl (op_move _ _ _ _ (zb hg5_17) rfl),zr' rfl (oF underlying50 rfl sz3),zr' rfl (oL underlying3 rfl),zr' rfl (oB rfl rfl),zr' rfl (op_pick _ _ false _ rfl rfl),z3 true rfl,z8 hg5_23 rfl,zt rfl,zt rfl,zt rfl,z3 false rfl,z2 rfl,zz⟩ ?_
         exact hl10 _ (Option.some.inj h).symm
      ·refine zg hn (_::_::_::_::_::(13,.ptr 2 0)::(14,.fr .shr true 11 (List.flatten (List.map T_Item.ienc s.Items)))::(15,vi (s.Items.length : Int))::(16,vb (decide ((s.Items.length : Int) < 60)))::(17,vb true)::(18,.ptr 3 9)::(19,vi p_r.Id)::(20,.ptr 2 0)::(21,.fr .shr true 11 (List.flatten (List.map T_Item.ienc s.Items)))::(22,vi (s.Items.length : Int))::(23,vi v5)::(24,vb (p_r.Id == v5))::(25,vb (p_r.Id == v5))::(26,vb false)::(27,.v undef)::(28,.v undef)::(29,.v undef)::(30,.v undef)::(31,.v undef)::(32,.v undef)::(33,.v undef)::(34,.v undef)::(35,vb false)::(36,vb false)::(37,.v undef)::(38,.v undef)::(39,.v undef)::(40,vb false)::(4,vb false)::[]) [0,1,2,3,4] [0,33] (zq [1] 5 13::zq [5,1] 6 14::zq [6] 7 15::zq [7] 8 16::zq [8] 9 17::zq [9,2] 10 18::zq [9,10,2] 11 19::zq [9,1] 12 20::zq [9,12,1] 13 21::zq [9,13] 14 22::zq [9,14] 15 23::zq [9,11,15] 16 24::zq [9,16] 17 25::zq [17] 18 26::zq [18] 19 27::zq [18] 20 28::zq [18] 21 29::zq [18] 22 30::zq [22] 23 31::zq [22] 24 32::zq [22] 25 33::zq [18] 26 34::zq [18] 27 35::zq [27] 28 36::zq [28] 29 37::zq [28] 30 38::zq [28] 31 39::zq [28] 32 40::zq [32] 33 4::[]) [(_,_),(_,_)] rfl ⟨zp rfl (oF underlying31 rfl sz27),zp rfl (oL underlying27 rfl),zp rfl (op_len_fr _ _ _ underlying27 rfl (by decide) (gflat_len T_Item.ilen _)),z4 rfl rfl,z8 hg5_4 rfl,zr' rfl (oF underlying50 rfl sz3),zr' rfl (oL underlying3 rfl),zr' rfl (oF underlying31 rfl sz27),zr' rfl (oL underlying27 rfl),zr' rfl (op_len_fr _ _ _ underlying27 rfl (by decide) (gflat_len T_Item.ilen _)),zr' rfl (oB rfl (ibind (f := Value.int .i64) (Option.some.inj hv5))),zr' rfl (oB rfl rfl),z3 true rfl,z8 hg5_13 rfl,zt rfl,zt rfl,zt rfl,zt rfl,zu' rfl,zu' rfl,zu' rfl,zt rfl,z3 false rfl,z1 rfl,zt rfl,zt rfl,zt rfl,z3 false rfl,z2 rfl,zz⟩ ?_
       exact hl10 _ (Option.some.inj h).symm
     ·refine zg hn (_::_::_::_::_::(13,.ptr 2 0)::(14,.fr .shr true 11 (List.flatten (List.map T_Item.ienc s.Items)))::(15,vi (s.Items.length : Int))::(16,vb (decide ((s.Items.length : Int) < 60)))::(17,vb false)::(18,.v undef)::(19,.v undef)::(20,.v undef)::(21,.v undef)::(22,.v undef)::(23,.v undef)::(24,.v undef)::(25,vb false)::(26,vb false)::(27,.v undef)::(28,.v undef)::(29,.v undef)::(30,.v undef)::(31,.v undef)::(32,.v undef)::(33,.v undef)::(34,.v undef)::(35,vb false)::(36,vb false)::(37,.v undef)::(38,.v undef)::(39,.v undef)::(40,vb false)::(4,vb false)::[]) [0,1,2,3,4] [0,33] (zq [1] 5 13::zq [5,1] 6 14::zq [6] 7 15::zq [7] 8 16::zq [8] 9 17::zq [9] 10 18::zq [9] 11 19::zq [9] 12 20::zq [9] 13 21::zq [9] 14 22::zq [9] 15 23::zq [9] 16 24::zq [9] 17 25::zq [17] 18 26::zq [18] 19 27::zq [18] 20 28::zq [18] 21 29::zq [18] 22 30::zq [22] 23 31::zq [22] 24 32::zq [22] 25 33::zq [18] 26 34::zq [18] 27 35::zq [27] 28 36::zq [28] 29 37::zq [28] 30 38::zq [28] 31 39::zq [28] 32 40::zq [32] 33 4::[]) [(_,_),(_,_)] rfl ⟨zp rfl (oF underlying31 rfl sz27),zp rfl (oL underlying27 rfl),zp rfl (op_len_fr _ _ _ underlying27 rfl (by decide) (gflat_len T_Item.ilen _)),z4 rfl rfl,z8 hg5_4 rfl,zt rfl,zt rfl,zt rfl,zt rfl,zt rfl,zt rfl,zt rfl,z3 false rfl,z1 rfl,zt rfl,zt rfl,zt rfl,zt rfl,zu' rfl,zu' rfl,zu' rfl,zt rfl,z3 false rfl,z1 rfl,zt rfl,zt rfl,zt rfl,z3 false rfl,z2 rfl,zz⟩ ?_
      exact hl10 _ (Option.some.inj h).symm
   ·have h := cond_f hb4 h
    refine zgg hn [_,_,_,_,_,(42,vb (p_r.Kind == 2)),(41,vb (p_r.Kind == 2))] [0,1,2,3,4] [0,1,2,3,6] [zq [3] 5 42,zq [5] 6 41] [(_,_),(_,_),(_,_),(_,_),(_,_)] rfl ⟨z4 rfl rfl,z2 rfl,zz⟩ ?_
    refine ht_cond _ rfl (fun hb12 => ?_) (fun hb12 => ?_)
    ·have h := cond_t hb12 h
     refine ht_seq ?_
     refine ht_joinS h (fun (s15 : Bool) => [(98, .glob (GL mx)), (4, .v (.bool s15))]) ?_ ?_
     ·rintro s15 h
      refine pt_then (ht_ret ?_)
      refine pt_pick [1] (by kernel_rfl) (es' := [(_,_)]) rfl ?_
      refine pt_r_in ?_
      refine pt_r_then ?_
      obtain rfl := Option.some.inj h
      exact pt_ret hio rfl (.tmp _ _ .nil) rfl rfl
     ·intro u16 h hl17 hr18
      obtain ⟨v13, hv13, h⟩ := bind_some h
      refine cond_some h (fun hg7_6 h => ?_) (fun hg7_6 h => ?_)
      ·obtain ⟨v14, hv14, h⟩ := bind_some h
       refine zg hn (_::_::_::_::_::(43,.ptr 3 12)::(44,vi p_r.Number)::(45,.ptr 2 1)::(46,vi s.Packs)::(47,vi v13)::(48,vb (p_r.Number == v13))::(49,vb true)::(50,.agg [.fr .shr true 11 (List.flatten (List.map T_Item.ienc s.Items)),vi s.Packs,.fl .shr 1 (List.map (Value.int .i64) s.Sent),.fl .shr 1 (List.map (Value.int .u8) s.Part),vi s.Of,.fl .shr 1 (List.map (Value.int .i64) s.Done)])::(51,.ptr 3 10)::(52,.fl .shr 1 (List.map (Value.int .i64) p_r.Ids))::(53,vb v14)::(54,vb v14)::(4,vb v14)::[]) [0,1,2,3,4] [0,17] [zq [2] 5 43,zq [5,2] 6 44,zq [1] 7 45,zq [7,1] 8 46,zq [8] 9 47,zq [6,9] 10 48,zq [10] 11 49,zq [11,1] 12 50,zq [11,2] 13 51,zq [11,13,2] 14 52,zq [11,12,14] 15 53,zq [11,15] 16 54,zq [16] 17 4] [(_,_),(_,_)] rfl ⟨zp rfl (oF underlying50 rfl sz3),zp rfl (oL underlying3 rfl),zp rfl (oF underlying31 rfl sz3),zp rfl (oL underlying3 rfl),zp rfl (oB rfl (ibind (f := Value.int .i64) (Option.some.inj hv13))),z4 rfl rfl,z8 hg7_6 rfl,zr' rfl (op_loadA _ _ _ _ _ _ _ underlying31 rfl sz31 rfl rfl (zl rfl) rfl rfl),zr' rfl (oF underlying50 rfl sz28),zr' rfl (oL underlying28 rfl),zr' rfl (op_call _ _ 20 _ _ rfl call20 rfl (ok_spool_validIds s p_r.Ids _ hv14) rfl rfl),z3 true rfl,z2 rfl,zz⟩ ?_
       exact hl17 _ (Option.some.inj h).symm
      ·refine zg hn (_::_::_::_::_::(43,.ptr 3 12)::(44,vi p_r.Number)::(45,.ptr 2 1)::(46,vi s.Packs)::(47,vi v13)::(48,vb (p_r.Number == v13))::(49,vb false)::(50,.v undef)::(51,.v undef)::(52,.v undef)::(53,.v undef)::(54,vb false)::(4,vb false)::[]) [0,1,2,3,4] [0,17] [zq [2] 5 43,zq [5,2] 6 44,zq [1] 7 45,zq [7,1] 8 46,zq [8] 9 47,zq [6,9] 10 48,zq [10] 11 49,zq [11] 12 50,zq [11] 13 51,zq [11] 14 52,zq [11] 15 53,zq [11] 16 54,zq [16] 17 4] [(_,_),(_,_)] rfl ⟨zp rfl (oF underlying50 rfl sz3),zp rfl (oL underlying3 rfl),zp rfl (oF underlying31 rfl sz3),zp rfl (oL underlying3 rfl),zp rfl (oB rfl (ibind (f := Value.int .i64) (Option.some.inj hv13))),z4 rfl rfl,z8 hg7_6 rfl,zt rfl,zt rfl,zt rfl,zt rfl,z3 false rfl,z2 rfl,zz⟩ ?_
       exact hl17 _ (Option.some.inj h).symm
    ·have h := cond_f hb12 h
     refine zgg hn [_,_,_,_,_,(56,vb (p_r.Kind == 3)),(55,vb (p_r.Kind == 3))] [0,1,2,3,4] [0,1,2,3,6] [zq [3] 5 56,zq [5] 6 55] [(_,_),(_,_),(_,_),(_,_),(_,_)] rfl ⟨z4 rfl rfl,z2 rfl,zz⟩ ?_
     refine ht_cond _ rfl (fun hb19 => ?_) (fun hb19 => ?_)
     ·have h := cond_t hb19 h
      refine ht_seq ?_
      refine ht_joinS h (fun (s21 : Bool) => [(98, .glob (GL mx)), (4, .v (.bool s21))]) ?_ ?_
      ·rintro s21 h
       refine pt_then (ht_ret ?_)
       refine pt_pick [1] (by kernel_rfl) (es' := [(_,_)]) rfl ?_
       refine pt_r_in ?_
       refine pt_r_then ?_
       obtain rfl := Option.some.inj h
       exact pt_ret hio rfl (.tmp _ _ .nil) rfl rfl
      ·intro u22 h hl23 hr24
       refine cond_some h (fun hg9_3 h => ?_) (fun hg9_3 h => ?_)
       ·refine cond_some h (fun hg9_10 h => ?_) (fun hg9_10 h => ?_)
        ·obtain ⟨v20, hv20, h⟩ := bind_some h
         refine zg hn (_::_::_::_::_::(57,.ptr 3 12)::(58,vi p_r.Number)::(59,vb (decide (1 ≤ p_r.Number)))::(60,vb true)::(61,.ptr 3 12)::(62,vi p_r.Number)::(63,.ptr 2 1)::(64,vi s.Packs)::(65,vb (decide (p_r.Number ≤ s.Packs)))::(66,vb (decide (p_r.Number ≤ s.Packs)))::(67,vb true)::(68,.ptr 2 2)::(69,.fl .shr 1 (List.map (Value.int .i64) s.Sent))::(70,.ptr 3 12)::(71,vi p_r.Number)::(72,vb v20)::(73,vb (!v20))::(74,vb (!v20))::(4,vb (!v20))::[]) [0,1,2,3,4] [0,23] (zq [2] 5 57::zq [5,2] 6 58::zq [6] 7 59::zq [7] 8 60::zq [8,2] 9 61::zq [8,9,2] 10 62::zq [8,1] 11 63::zq [8,11,1] 12 64::zq [8,10,12] 13 65::zq [8,13] 14 66::zq [14] 15 67::zq [15,1] 16 68::zq [15,16,1] 17 69::zq [15,2] 18 70::zq [15,18,2] 19 71::zq [15,17,19] 20 72::zq [15,20] 21 73::zq [15,21] 22 74::zq [22] 23 4::[]) [(_,_),(_,_)] rfl ⟨zp rfl (oF underlying50 rfl sz3),zp rfl (oL underlying3 rfl),z4 rfl rfl,z8 hg9_3 rfl,zr' rfl (oF underlying50 rfl sz3),zr' rfl (oL underlying3 rfl),zr' rfl (oF underlying31 rfl sz3),zr' rfl (oL underlying3 rfl),zr' rfl (oB rfl rfl),z3 true rfl,z8 hg9_10 rfl,zr' rfl (oF underlying31 rfl sz28),zr' rfl (oL underlying28 rfl),zr' rfl (oF underlying50 rfl sz3),zr' rfl (oL underlying3 rfl),zr' rfl (op_call _ _ 21 _ _ rfl call21 rfl (ok_slices_Contains_int_int s.Sent p_r.Number _ hv20) rfl rfl),zr' rfl (op_un _ _ _ _ rfl rfl),z3 true rfl,z2 rfl,zz⟩ ?_
         exact hl23 _ (Option.some.inj h).symm
        ·refine zg hn (_::_::_::_::_::(57,.ptr 3 12)::(58,vi p_r.Number)::(59,vb (decide (1 ≤ p_r.Number)))::(60,vb true)::(61,.ptr 3 12)::(62,vi p_r.Number)::(63,.ptr 2 1)::(64,vi s.Packs)::(65,vb (decide (p_r.Number ≤ s.Packs)))::(66,vb (decide (p_r.Number ≤ s.Packs)))::(67,vb false)::(68,.v undef)::(69,.v undef)::(70,.v undef)::(71,.v undef)::(72,.v undef)::(73,.v undef)::(74,vb false)::(4,vb false)::[]) [0,1,2,3,4] [0,23] (zq [2] 5 57::zq [5,2] 6 58::zq [6] 7 59::zq [7] 8 60::zq [8,2] 9 61::zq [8,9,2] 10 62::zq [8,1] 11 63::zq [8,11,1] 12 64::zq [8,10,12] 13 65::zq [8,13] 14 66::zq [14] 15 67::zq [15] 16 68::zq [15] 17 69::zq [15] 18 70::zq [15] 19 71::zq [15] 20 72::zq [15] 21 73::zq [15] 22 74::zq [22] 23 4::[]) [(_,_),(_,_)] rfl ⟨zp rfl (oF underlying50 rfl sz3),zp rfl (oL underlying3 rfl),z4 rfl rfl,z8 hg9_3 rfl,zr' rfl (oF underlying50 rfl sz3),zr' rfl (oL underlying3 rfl),zr' rfl (oF underlying31 rfl sz3),zr' rfl (oL underlying3 rfl),zr' rfl (oB rfl rfl),z3 true rfl,z8 hg9_10 rfl,zt rfl,zt rfl,zt rfl,zt rfl,zt rfl,zt rfl,z3 false rfl,z2 rfl,zz⟩ ?_
         exact hl23 _ (Option.some.inj h).symm
       ·refine zg hn (_::_::_::_::_::(57,.ptr 3 12)::(58,vi p_r.Number)::(59,vb (decide (1 ≤ p_r.Number)))::(60,vb false)::(61,.v undef)::(62,.v undef)::(63,.v undef)::(64,.v undef)::(65,.v undef)::(66,vb false)::(67,vb false)::(68,.v undef)::(69,.v undef)::(70,.v undef)::(71,.v undef)::(72,.v undef)::(73,.v undef)::(74,vb false)::(4,vb false)::[]) [0,1,2,3,4] [0,23] (zq [2] 5 57::zq [5,2] 6 58::zq [6] 7 59::zq [7] 8 60::zq [8] 9 61::zq [8] 10 62::zq [8] 11 63::zq [8] 12 64::zq [8] 13 65::zq [8] 14 66::zq [14] 15 67::zq [15] 16 68::zq [15] 17 69::zq [15] 18 70::zq [15] 19 71::zq [15] 20 72::zq [15] 21 73::zq [15] 22 74::zq [22] 23 4::[]) [(_,_),(_,_)] rfl ⟨zp rfl (oF underlying50 rfl sz3),zp rfl (oL underlying3 rfl),z4 rfl rfl,z8 hg9_3 rfl,zt rfl,zt rfl,zt rfl,zt rfl,zt rfl,z3 false rfl,z1 rfl,zt rfl,zt rfl,zt rfl,zt rfl,zt rfl,zt rfl,z3 false rfl,z2 rfl,zz⟩ ?_
        exact hl23 _ (Option.some.inj h).symm
     ·have h := cond_f hb19 h
      refine zgg hn [_,_,_,_,_,(76,vb (p_r.Kind == 4)),(75,vb (p_r.Kind == 4))] [0,1,2,3,4] [0,1,2,3,6] [zq [3] 5 76,zq [5] 6 75] [(_,_),(_,_),(_,_),(_,_),(_,_)] rfl ⟨z4 rfl rfl,z2 rfl,zz⟩ ?_
      refine ht_cond _ rfl (fun hb25 => ?_) (fun hb25 => ?_)
      ·have h := cond_t hb25 h
       refine ht_seq ?_
       obtain ⟨v26, hv26, h⟩ := bind_some h
       refine zg hn [_,_,_,_,_,(77,.agg [.fr .shr true 11 (List.flatten (List.map T_Item.ienc s.Items)),vi s.Packs,.fl .shr 1 (List.map (Value.int .i64) s.Sent),.fl .shr 1 (List.map (Value.int .u8) s.Part),vi s.Of,.fl .shr 1 (List.map (Value.int .i64) s.Done)]),(78,.ptr 3 9),(79,vi p_r.Id),(80,vb v26),(4,vb v26)] [0,1,2,3,4] [0,9] [zq [1] 5 77,zq [2] 6 78,zq [6,2] 7 79,zq [5,7] 8 80,zq [8] 9 4] [(_,_),(_,_)] rfl ⟨zp rfl (op_loadA _ _ _ _ _ _ _ underlying31 rfl sz31 rfl rfl (zl rfl) rfl rfl),zp rfl (oF underlying50 rfl sz3),zp rfl (oL underlying3 rfl),zp rfl (op_call _ _ 22 _ _ rfl call22 rfl (ok_spool_waits s p_r.Id _ hv26) rfl rfl),z2 rfl,zz⟩ ?_
       refine pt_then (ht_ret ?_)
       refine pt_pick [1] (by kernel_rfl) (es' := [(_,_)]) rfl ?_
       refine pt_r_in ?_
       refine pt_r_then ?_
       obtain rfl := Option.some.inj h
       exact pt_ret hio rfl (.tmp _ _ .nil) rfl rfl
      ·have h := cond_f hb25 h
       refine zgg hn [_,_,_,_,_,(82,vb (p_r.Kind == 5)),(81,vb (p_r.Kind == 5))] [0,1,2,3,4] [0,1,2,3,6] [zq [3] 5 82,zq [5] 6 81] [(_,_),(_,_),(_,_),(_,_),(_,_)] rfl ⟨z4 rfl rfl,z2 rfl,zz⟩ ?_
       refine ht_cond _ rfl (fun hb27 => ?_) (fun hb27 => ?_)
       ·have h := cond_t hb27 h
        refine ht_seq ?_
        refine ht_joinS h (fun (s30 : Bool) => [(98, .glob (GL mx)), (4, .v (.bool s30))]) ?_ ?_
        ·rintro s30 h
         refine pt_then (ht_ret ?_)
         refine pt_pick [1] (by kernel_rfl) (es' := [(_,_)]) rfl ?_
         refine pt_r_in ?_
         refine pt_r_then ?_
         obtain rfl := Option.some.inj h
         exact pt_ret hio rfl (.tmp _ _ .nil) rfl rfl
        ·intro u31 h hl32 hr33
         obtain ⟨v28, hv28, h⟩ := bind_some h
         refine cond_some h (fun hg13_4 h => ?_) (fun hg13_4 h => ?_)
         ·obtain ⟨v29, hv29, h⟩ := bind_some h
          refine zg hn (_::_::_::_::_::(83,.agg [.fr .shr true 11 (List.flatten (List.map T_Item.ienc s.Items)),vi s.Packs,.fl .shr 1 (List.map (Value.int .i64) s.Sent),.fl .shr 1 (List.map (Value.int .u8) s.Part),vi s.Of,.fl .shr 1 (List.map (Value.int .i64) s.Done)])::(84,.ptr 3 12)::(85,vi p_r.Number)::(86,vb v28)::(87,vb true)::(88,.agg [.fr .shr true 11 (List.flatten (List.map T_Item.ienc s.Items)),vi s.Packs,.fl .shr 1 (List.map (Value.int .i64) s.Sent),.fl .shr 1 (List.map (Value.int .u8) s.Part),vi s.Of,.fl .shr 1 (List.map (Value.int .i64) s.Done)])::(89,.agg [vi p_r.Kind,vb p_r.Mail.From.Null,vs p_r.Mail.From.Local,vs p_r.Mail.From.Domain,.fl .shr 3 (List.flatten (List.map T_Path.enc p_r.Mail.To)),.fl .shr 1 (List.map (Value.int .u8) p_r.Mail.Body),vb p_r.Mail.Quiet,vs p_r.Mail.Helo,vi p_r.Mail.At,vi p_r.Id,.fl .shr 1 (List.map (Value.int .i64) p_r.Ids),vi p_r.Origin,vi p_r.Number,vi p_r.Offset,.fl .shr 1 (List.map (Value.int .u8) p_r.Data)])::(90,vb v29)::(91,vb v29)::(4,vb v29)::[]) [0,1,2,3,4] [0,14] [zq [1] 5 83,zq [2] 6 84,zq [6,2] 7 85,zq [5,7] 8 86,zq [8] 9 87,zq [9,1] 10 88,zq [9,2] 11 89,zq [9,10,11] 12 90,zq [9,12] 13 91,zq [13] 14 4] [(_,_),(_,_)] rfl ⟨zp rfl (op_loadA _ _ _ _ _ _ _ underlying31 rfl sz31 rfl rfl (zl rfl) rfl rfl),zp rfl (oF underlying50 rfl sz3),zp rfl (oL underlying3 rfl),zp rfl (op_call _ _ 23 _ _ rfl call23 rfl (ok_spool_open s p_r.Number _ hv28) rfl rfl),z8 hg13_4 rfl,zr' rfl (op_loadA _ _ _ _ _ _ _ underlying31 rfl sz31 rfl rfl (zl rfl) rfl rfl),zr' rfl (op_loadA _ _ _ _ _ _ _ underlying50 rfl sz50 rfl rfl (zl rfl) rfl rfl),zr' rfl (op_call _ _ 24 _ _ rfl call24 rfl (ok_spool_validChunk s ((T_Rec.mk p_r.Kind ((T_Mail.mk (T_Path.mk p_r.Mail.From.Null p_r.Mail.From.Local p_r.Mail.From.Domain) p_r.Mail.To p_r.Mail.Body p_r.Mail.Quiet p_r.Mail.Helo p_r.Mail.At)) p_r.Id p_r.Ids p_r.Origin p_r.Number p_r.Offset p_r.Data)) _ hv29) rfl rfl),z3 true rfl,z2 rfl,zz⟩ ?_
          exact hl32 _ (Option.some.inj h).symm
         ·refine zg hn (_::_::_::_::_::(83,.agg [.fr .shr true 11 (List.flatten (List.map T_Item.ienc s.Items)),vi s.Packs,.fl .shr 1 (List.map (Value.int .i64) s.Sent),.fl .shr 1 (List.map (Value.int .u8) s.Part),vi s.Of,.fl .shr 1 (List.map (Value.int .i64) s.Done)])::(84,.ptr 3 12)::(85,vi p_r.Number)::(86,vb v28)::(87,vb false)::(88,.v undef)::(89,.v undef)::(90,.v undef)::(91,vb false)::(4,vb false)::[]) [0,1,2,3,4] [0,14] [zq [1] 5 83,zq [2] 6 84,zq [6,2] 7 85,zq [5,7] 8 86,zq [8] 9 87,zq [9] 10 88,zq [9] 11 89,zq [9] 12 90,zq [9] 13 91,zq [13] 14 4] [(_,_),(_,_)] rfl ⟨zp rfl (op_loadA _ _ _ _ _ _ _ underlying31 rfl sz31 rfl rfl (zl rfl) rfl rfl),zp rfl (oF underlying50 rfl sz3),zp rfl (oL underlying3 rfl),zp rfl (op_call _ _ 23 _ _ rfl call23 rfl (ok_spool_open s p_r.Number _ hv28) rfl rfl),z8 hg13_4 rfl,zt rfl,zt rfl,zt rfl,z3 false rfl,z2 rfl,zz⟩ ?_
          exact hl32 _ (Option.some.inj h).symm
       ·have h := cond_f hb27 h
        refine zgg hn [_,_,_,_,_,(93,vb (p_r.Kind == 6)),(92,vb (p_r.Kind == 6))] [0,1,2,3,4] [0,1,2,6] [zq [3] 5 93,zq [5] 6 92] [(_,_),(_,_),(_,_),(_,_)] rfl ⟨z4 rfl rfl,z2 rfl,zz⟩ ?_
        refine ht_cond _ rfl (fun hb34 => ?_) (fun hb34 => ?_)
        ·have h := cond_t hb34 h
         refine ht_seq ?_
         obtain ⟨v35, hv35, h⟩ := bind_some h
         refine zg hn [_,_,_,_,(94,.agg [.fr .shr true 11 (List.flatten (List.map T_Item.ienc s.Items)),vi s.Packs,.fl .shr 1 (List.map (Value.int .i64) s.Sent),.fl .shr 1 (List.map (Value.int .u8) s.Part),vi s.Of,.fl .shr 1 (List.map (Value.int .i64) s.Done)]),(95,.ptr 3 12),(96,vi p_r.Number),(97,vb v35),(4,vb v35)] [0,1,2,3] [0,8] [zq [1] 4 94,zq [2] 5 95,zq [5,2] 6 96,zq [4,6] 7 97,zq [7] 8 4] [(_,_),(_,_)] rfl ⟨zp rfl (op_loadA _ _ _ _ _ _ _ underlying31 rfl sz31 rfl rfl (zl rfl) rfl rfl),zp rfl (oF underlying50 rfl sz3),zp rfl (oL underlying3 rfl),zp rfl (op_call _ _ 23 _ _ rfl call23 rfl (ok_spool_open s p_r.Number _ hv35) rfl rfl),z2 rfl,zz⟩ ?_
         refine pt_then (ht_ret ?_)
         refine pt_pick [1] (by kernel_rfl) (es' := [(_,_)]) rfl ?_
         refine pt_r_in ?_
         refine pt_r_then ?_
         obtain rfl := Option.some.inj h
         exact pt_ret hio rfl (.tmp _ _ .nil) rfl rfl
        ·have h := cond_f hb34 h
         refine ht_skip ?_
         refine pt_inb ?_
         refine pt_then ?_
         refine zgg hn [_,_,_,_,(4,vb false)] [0,1,2,3] [0,4] [zq [] 4 4] [(_,_),(_,_)] rfl ⟨z2 rfl,zz⟩ ?_
         refine ht_ret ?_
         refine pt_pick [1] (by kernel_rfl) (es' := [(_,_)]) rfl ?_
         obtain rfl := Option.some.inj h
         exact pt_ret hio rfl (.tmp _ _ .nil) rfl rfl
theorem ok_clone_List_api_Path (l : (List T_Path)) (r : (List T_Path)) (h : Sh.clone_List_api_Path l = some r) : FnOK Tryd.prog 35 [.fl .shr 3 (List.flatten (List.map T_Path.enc l))] (.fl (.own 45) 3 (List.flatten (List.map T_Path.enc r))) := by
  unfold Sh.clone_List_api_Path at h
  refine fn_ok func35 rfl (zl rfl) rfl rfl fun g0 hn hio => ?_
  refine zgg hn [_,(2,.v (.slice none 0 0))] [0] [0] [zq [] 1 2] [(_,_)] rfl ⟨z2 rfl,zz⟩ ?_
  refine ht_seq ?_
  obtain ⟨v1, hv1, h⟩ := bind_some h
  refine zg hn [_,(3,.fl .shr 3 (List.flatten (List.map T_Path.enc l))),(4,.fl (.own 45) 3 (List.flatten (List.map T_Path.enc v1))),(2,.fl (.own 45) 3 (List.flatten (List.map T_Path.enc v1)))] [0] [3] [zq [0] 1 3,zq [1] 2 4,⟨[],[2],[3],[(.slot 2)]⟩] [(_,_)] rfl ⟨z1 rfl,zp rfl (op_app_nil _ _ _ _ el46 rfl rfl (flat_len T_Path.len _) hv1 (congrArg (fun l => List.flatten (List.map _ l)) (app_nil_eq hv1))),zp rfl (op_assign_take _ _ _ _ rfl),zz⟩ ?_
  refine pt_then (ht_ret ?_)
  obtain rfl := Option.some.inj h
  exact pt_ret hio rfl (.tmp _ _ .nil) rfl rfl
theorem ok_clone_List_byte (l : (List Int)) (r : (List Int)) (h : Sh.clone_List_byte l = some r) : FnOK Tryd.prog 36 [.fl .shr 1 (List.map (Value.int .u8) l)] (.fl (.own 5) 1 (List.map (Value.int .u8) r)) := by
  unfold Sh.clone_List_byte at h
  refine fn_ok func36 rfl (zl rfl) rfl rfl fun g0 hn hio => ?_
  refine zgg hn [_,(2,.v (.slice none 0 0))] [0] [0] [zq [] 1 2] [(_,_)] rfl ⟨z2 rfl,zz⟩ ?_
  refine ht_seq ?_
  obtain ⟨v1, hv1, h⟩ := bind_some h
  refine zg hn [_,(3,.fl .shr 1 (List.map (Value.int .u8) l)),(4,.fl (.own 5) 1 (List.map (Value.int .u8) v1)),(2,.fl (.own 5) 1 (List.map (Value.int .u8) v1))] [0] [3] [zq [0] 1 3,zq [1] 2 4,⟨[],[2],[3],[(.slot 2)]⟩] [(_,_)] rfl ⟨z1 rfl,zp rfl (op_app_nil _ _ _ _ el29 rfl rfl (map_len _) hv1 (congrArg (List.map _) (app_nil_eq hv1))),zp rfl (op_assign_take _ _ _ _ rfl),zz⟩ ?_
  refine pt_then (ht_ret ?_)
  obtain rfl := Option.some.inj h
  exact pt_ret hio rfl (.tmp _ _ .nil) rfl rfl
theorem ok_clone_Mail (m : T_Mail) (r : T_Mail) (h : Sh.clone_Mail m = some r) : FnOK Tryd.prog 25 [.agg [.v (.bool m.From.Null), .v (.string m.From.Local), .v (.string m.From.Domain), .fl .shr 3 (List.flatten (List.map T_Path.enc m.To)), .fl .shr 1 (List.map (Value.int .u8) m.Body), .v (.bool m.Quiet), .v (.string m.Helo), .v (.int .i64 m.At)]] (.agg [.v (.bool r.From.Null), .v (.string r.From.Local), .v (.string r.From.Domain), .fl (.own 45) 3 (List.flatten (List.map T_Path.enc r.To)), .fl (.own 5) 1 (List.map (Value.int .u8) r.Body), .v (.bool r.Quiet), .v (.string r.Helo), .v (.int .i64 r.At)]) := by
  unfold Sh.clone_Mail at h
  refine fn_ok func25 rfl (zl rfl) rfl rfl fun g0 hn hio => ?_
  refine zgg hn [_,(1,.box 48 [vb m.From.Null,vs m.From.Local,vs m.From.Domain,.fl .shr 3 (List.flatten (List.map T_Path.enc m.To)),.fl .shr 1 (List.map (Value.int .u8) m.Body),vb m.Quiet,vs m.Helo,vi m.At]),(2,.box 48 [vb false,vs z0,vs z0,.v (.slice none 0 0),.v (.slice none 0 0),vb false,vs z0,vi 0])] [0] [1,2] [zq [0] 1 1,zq [] 2 2] [(_,_),(_,_)] rfl ⟨zp rfl (op_box _ _ _ _ rfl rfl rfl),zp rfl (op_alloc _ _ zr48),zz⟩ ?_
  refine ht_seq ?_
  obtain ⟨v1, hv1, h⟩ := bind_some h
  refine zg hn [_,_,(3,.ptr 1 3),(4,.fl .shr 3 (List.flatten (List.map T_Path.enc m.To))),(5,.fl (.own 45) 3 (List.flatten (List.map T_Path.enc v1))),(6,.ptr 1 3),(1,.box 48 [vb m.From.Null,vs m.From.Local,vs m.From.Domain,.fl (.own 45) 3 (List.flatten (List.map T_Path.enc v1)),.fl .shr 1 (List.map (Value.int .u8) m.Body),vb m.Quiet,vs m.Helo,vi m.At])] [0,1] [6,1] [zq [0] 2 3,zq [2,0] 3 4,zq [3] 4 5,zq [0] 5 6,⟨[5],[4,0],[6],[.cell 1 3]⟩] [(_,_),(_,_)] rfl ⟨zp rfl (oF underlying48 rfl sz46),zp rfl (oL underlying46 rfl),zp rfl (op_call _ _ 35 _ _ rfl call35 rfl (ok_clone_List_api_Path m.To _ hv1) rfl rfl),zp rfl (oF underlying48 rfl sz46),zp rfl (op_store_take _ _ _ _ _ _ _ _ sz46 rfl rfl rfl (zl rfl) rfl rfl),zz⟩ ?_
  refine pt_then (ht_seq ?_)
  obtain ⟨v2, hv2, h⟩ := bind_some h
  refine zg hn [_,_,(7,.ptr 1 4),(8,.fl .shr 1 (List.map (Value.int .u8) m.Body)),(9,.fl (.own 5) 1 (List.map (Value.int .u8) v2)),(10,.ptr 1 4),(1,.box 48 [vb m.From.Null,vs m.From.Local,vs m.From.Domain,.fl (.own 45) 3 (List.flatten (List.map T_Path.enc v1)),.fl (.own 5) 1 (List.map (Value.int .u8) v2),vb m.Quiet,vs m.Helo,vi m.At])] [0,1] [6,1] [zq [0] 2 7,zq [2,0] 3 8,zq [3] 4 9,zq [0] 5 10,⟨[5],[4,0],[6],[.cell 1 4]⟩] [(_,_),(_,_)] rfl ⟨zp rfl (oF underlying48 rfl sz29),zp rfl (oL underlying29 rfl),zp rfl (op_call _ _ 36 _ _ rfl call36 rfl (ok_clone_List_byte m.Body _ hv2) rfl rfl),zp rfl (oF underlying48 rfl sz29),zp rfl (op_store_take _ _ _ _ _ _ _ _ sz29 rfl rfl rfl (zl rfl) rfl rfl),zz⟩ ?_
  refine pt_then ?_
  refine zgg hn [_,_,(11,.agg [vb m.From.Null,vs m.From.Local,vs m.From.Domain,.fl (.own 45) 3 (List.flatten (List.map T_Path.enc v1)),.fl (.own 5) 1 (List.map (Value.int .u8) v2),vb m.Quiet,vs m.Helo,vi m.At]),(2,.box 48 [vb m.From.Null,vs m.From.Local,vs m.From.Domain,.fl (.own 45) 3 (List.flatten (List.map T_Path.enc v1)),.fl (.own 5) 1 (List.map (Value.int .u8) v2),vb m.Quiet,vs m.Helo,vi m.At])] [0,1] [3] [⟨[],[0],[2],[(.slot 11)]⟩,⟨[],[2,1],[3],[.cell 2 0,.cell 2 1,.cell 2 2,.cell 2 3,.cell 2 4,.cell 2 5,.cell 2 6,.cell 2 7]⟩] [(_,_)] rfl ⟨zp rfl (op_loadA_take _ _ _ _ underlying48 rfl sz48 rfl rfl),zp rfl (op_store_take _ _ _ _ _ _ _ _ sz48 rfl rfl rfl (zl rfl) rfl rfl),zz⟩ ?_
  refine ht_ret ?_
  obtain rfl := Option.some.inj h
  exact pt_ret hio rfl (.cellA _ _ _ _ underlying48 rfl sz48 .nil) rfl rfl
theorem ok_cmp_isNaN_int (x : Int) (r : Bool) (h : Sh.cmp_isNaN_int x = some r) : FnOK Tryd.prog 47 [.v (.int .i64 x)] (.v (.bool r)) := by
  unfold Sh.cmp_isNaN_int at h
  refine fn_ok func47 rfl (zl rfl) rfl rfl fun g0 hn hio => ?_
  refine zgg hn [_,(2,vb false)] [0] [0] [zq [] 1 2] [(_,_)] rfl ⟨z2 rfl,zz⟩ ?_
  refine zgg hn [_,(3,vi x),(4,vi x),(5,vb (x != x)),(2,vb (x != x))] [0] [4] [zq [0] 1 3,zq [0] 2 4,zq [1,2] 3 5,zq [3] 4 2] [(_,_)] rfl ⟨z1 rfl,z1 rfl,z4 rfl rfl,z2 rfl,zz⟩ ?_
  refine ht_ret ?_
  obtain rfl := Option.some.inj h
  exact pt_ret hio rfl (.tmp _ _ .nil) rfl rfl
theorem ok_cmp_Less_int (x : Int) (y : Int) (r : Bool) (h : Sh.cmp_Less_int x y = some r) : FnOK Tryd.prog 39 [.v (.int .i64 x), .v (.int .i64 y)] (.v (.bool r)) := by
  unfold Sh.cmp_Less_int at h
  refine fn_ok func39 rfl (zl rfl) rfl rfl fun g0 hn hio => ?_
  refine zgg hn [_,_,(4,vb false)] [0,1] [0,1] [zq [] 2 4] [(_,_),(_,_)] rfl ⟨z2 rfl,zz⟩ ?_
  refine ht_seq ?_
  refine ht_joinS h (fun (s3 : Bool) => [(4, .v (.bool s3))]) ?_ ?_
  ·rintro s3 h
   refine pt_then (ht_ret ?_)
   obtain rfl := Option.some.inj h
   exact pt_ret hio rfl (.tmp _ _ .nil) rfl rfl
  ·intro u4 h hl5 hr6
   obtain ⟨v1, hv1, h⟩ := bind_some h
   refine cond_some h (fun hg1_2 h => ?_) (fun hg1_2 h => ?_)
   ·obtain ⟨v2, hv2, h⟩ := bind_some h
    refine cond_some h (fun hg1_7 h => ?_) (fun hg1_7 h => ?_)
    ·refine zg hn (_::_::(5,vi x)::(6,vb v1)::(7,vb true)::(8,vi y)::(9,vb v2)::(10,vb (!v2))::(11,vb (!v2))::(12,vb true)::(13,.v undef)::(14,.v undef)::(15,.v undef)::(16,vb true)::(4,vb true)::[]) [0,1] [14] [zq [0] 2 5,zq [2] 3 6,zq [3] 4 7,zq [4,1] 5 8,zq [4,5] 6 9,zq [4,6] 7 10,zq [4,7] 8 11,zq [8] 9 12,zq [9] 10 13,zq [9] 11 14,zq [9] 12 15,zq [9] 13 16,zq [13] 14 4] [(_,_)] rfl ⟨z1 rfl,zp rfl (op_call _ _ 47 _ _ rfl call47 rfl (ok_cmp_isNaN_int x _ hv1) rfl rfl),z8 hg1_2 rfl,zr' rfl (oM rfl),zr' rfl (op_call _ _ 47 _ _ rfl call47 rfl (ok_cmp_isNaN_int y _ hv2) rfl rfl),zr' rfl (op_un _ _ _ _ rfl rfl),z3 true rfl,z8 hg1_7 rfl,zf rfl,zf rfl,zf rfl,z3 true rfl,z2 rfl,zz⟩ ?_
     exact hl5 _ (Option.some.inj h).symm
    ·refine zg hn (_::_::(5,vi x)::(6,vb v1)::(7,vb true)::(8,vi y)::(9,vb v2)::(10,vb (!v2))::(11,vb (!v2))::(12,vb false)::(13,vi x)::(14,vi y)::(15,vb (decide (x < y)))::(16,vb (decide (x < y)))::(4,vb (decide (x < y)))::[]) [0,1] [14] [zq [0] 2 5,zq [2] 3 6,zq [3] 4 7,zq [4,1] 5 8,zq [4,5] 6 9,zq [4,6] 7 10,zq [4,7] 8 11,zq [8] 9 12,zq [9,0] 10 13,zq [9,1] 11 14,zq [9,10,11] 12 15,zq [9,12] 13 16,zq [13] 14 4] [(_,_)] rfl ⟨z1 rfl,zp rfl (op_call _ _ 47 _ _ rfl call47 rfl (ok_cmp_isNaN_int x _ hv1) rfl rfl),z8 hg1_2 rfl,zr' rfl (oM rfl),zr' rfl (op_call _ _ 47 _ _ rfl call47 rfl (ok_cmp_isNaN_int y _ hv2) rfl rfl),zr' rfl (op_un _ _ _ _ rfl rfl),z3 true rfl,z8 hg1_7 rfl,zr' rfl (oM rfl),zr' rfl (oM rfl),zr' rfl (oB rfl rfl),z3 false rfl,z2 rfl,zz⟩ ?_
     exact hl5 _ (Option.some.inj h).symm
   ·refine zg hn (_::_::(5,vi x)::(6,vb v1)::(7,vb false)::(8,.v undef)::(9,.v undef)::(10,.v undef)::(11,vb false)::(12,vb false)::(13,vi x)::(14,vi y)::(15,vb (decide (x < y)))::(16,vb (decide (x < y)))::(4,vb (decide (x < y)))::[]) [0,1] [14] [zq [0] 2 5,zq [2] 3 6,zq [3] 4 7,zq [4] 5 8,zq [4] 6 9,zq [4] 7 10,zq [4] 8 11,zq [8] 9 12,zq [9,0] 10 13,zq [9,1] 11 14,zq [9,10,11] 12 15,zq [9,12] 13 16,zq [13] 14 4] [(_,_)] rfl ⟨z1 rfl,zp rfl (op_call _ _ 47 _ _ rfl call47 rfl (ok_cmp_isNaN_int x _ hv1) rfl rfl),z8 hg1_2 rfl,zt rfl,zt rfl,zt rfl,z3 false rfl,z1 rfl,zr' rfl (oM rfl),zr' rfl (oM rfl),zr' rfl (oB rfl rfl),z3 false rfl,z2 rfl,zz⟩ ?_
    exact hl5 _ (Option.some.inj h).symm
theorem ok_slices_isNaN_int (x : Int) (r : Bool) (h : Sh.slices_isNaN_int x = some r) : FnOK Tryd.prog 40 [.v (.int .i64 x)] (.v (.bool r)) := by
  unfold Sh.slices_isNaN_int at h
  refine fn_ok func40 rfl (zl rfl) rfl rfl fun g0 hn hio => ?_
  refine zgg hn [_,(2,vb false)] [0] [0] [zq [] 1 2] [(_,_)] rfl ⟨z2 rfl,zz⟩ ?_
  refine zgg hn [_,(3,vi x),(4,vi x),(5,vb (x != x)),(2,vb (x != x))] [0] [4] [zq [0] 1 3,zq [0] 2 4,zq [1,2] 3 5,zq [3] 4 2] [(_,_)] rfl ⟨z1 rfl,z1 rfl,z4 rfl rfl,z2 rfl,zz⟩ ?_
  refine ht_ret ?_
  obtain rfl := Option.some.inj h
  exact pt_ret hio rfl (.tmp _ _ .nil) rfl rfl
theorem ok_slices_BinarySearch_int_int (x : (List Int)) (target : Int) (r : (Int × Bool)) (h : Sh.slices_BinarySearch_int_int x target = some r) : FnOK Tryd.prog 27 [.fl .shr 1 (List.map (Value.int .i64) x), .v (.int .i64 target)] (.tup [.v (.int .i64 r.1), .v (.bool r.2)]) := by
  unfold Sh.slices_BinarySearch_int_int at h
  refine fn_ok func27 rfl (zl rfl) rfl rfl fun g0 hn hio => ?_
  refine zgg hn [_,_,(4,vi 0),(5,vb false)] [0,1] [0,1] [zq [] 2 4,zq [] 3 5] [(_,_),(_,_)] rfl ⟨z2 rfl,z2 rfl,zz⟩ ?_
  refine zgg hn [_,_,(10,.fl .shr 1 (List.map (Value.int .i64) x)),(11,vi (x.length : Int)),(6,vi (x.length : Int))] [0,1] [0,1,4] [zq [0] 2 10,zq [2] 3 11,zq [3] 4 6] [(_,_),(_,_),(_,_)] rfl ⟨z1 rfl,zp rfl (op_len_fl _ _ _ underlying28 rfl (by decide) (map_len _)),z2 rfl,zz⟩ ?_
  refine zgg hn [_,_,_,(12,vi (x.length : Int)),(7,vi 0),(8,vi (x.length : Int))] [0,1,2] [0,1,2,4,5] [zq [2] 3 12,zq [] 4 7,zq [3] 5 8] [(_,_),(_,_),(_,_),(_,_),(_,_)] rfl ⟨z1 rfl,z2 rfl,z2 rfl,zz⟩ ?_
  refine ht_seq ?_
  refine ht_loopS h (fun ((s27, s28) : Int × Int) => [(0, .fl .shr 1 (List.map (Value.int .i64) x)), (1, .v (.int .i64 target)), (6, .v (.int .i64 (x.length : Int))), (7, .v (.int .i64 s27)), (8, .v (.int .i64 s28))]) (fun (s37 : Int) => [(0, .fl .shr 1 (List.map (Value.int .i64) x)), (1, .v (.int .i64 target)), (6, .v (.int .i64 (x.length : Int))), (7, .v (.int .i64 s37))]) ?_ ?_
  ·rintro s37 h
   refine pt_then (ht_seq ?_)
   refine ht_joinS h (fun (s58 : Bool) => [(4, .v (.int .i64 s37)), (5, .v (.bool s58))]) ?_ ?_
   ·rintro s58 h
    refine pt_then (ht_ret ?_)
    obtain rfl := Option.some.inj h
    exact pt_ret hio rfl (.tmp _ _ (.tmp _ _ .nil)) rfl rfl
   ·intro u59 h hl60 hr61
    refine cond_some h (fun hg8_4 h => ?_) (fun hg8_4 h => ?_)
    ·obtain ⟨v52, hv52, h⟩ := bind_some h
     obtain ⟨v53, hv53, h⟩ := bind_some h
     refine cond_some h (fun hg8_11 h => ?_) (fun hg8_11 h => ?_)
     ·refine zg hn (_::_::_::_::(31,vi s37)::(32,vi s37)::(33,vi (x.length : Int))::(34,vb (decide (s37 < (x.length : Int))))::(35,vb true)::(36,.fl .shr 1 (List.map (Value.int .i64) x))::(37,vi s37)::(38,.eref (.slot 36) (v52 * 1))::(39,vi v53)::(40,vi target)::(41,vb (v53 == target))::(42,vb true)::(43,.v undef)::(44,.v undef)::(45,.v undef)::(46,.v undef)::(47,.v undef)::(48,.v undef)::(49,.v undef)::(50,.v undef)::(51,.v undef)::(52,vb true)::(53,vb true)::(4,vi s37)::(5,vb true)::[]) [0,1,2,3] [27,28] (zq [3] 4 31::zq [3] 5 32::zq [2] 6 33::zq [5,6] 7 34::zq [7] 8 35::zq [8,0] 9 36::zq [8,3] 10 37::zq [8,9,10] 11 38::zq [8,11,9] 12 39::zq [8,1] 13 40::zq [8,12,13] 14 41::zq [8,14] 15 42::zq [15] 16 43::zq [15] 17 44::zq [15] 18 45::zq [15] 19 46::zq [15] 20 47::zq [15] 21 48::zq [21] 22 49::zq [21] 23 50::zq [15] 24 51::zq [8,15] 25 52::zq [8,25] 26 53::zq [4] 27 4::zq [26] 28 5::[]) [(_,_),(_,_)] rfl ⟨z1 rfl,z1 rfl,z1 rfl,z4 rfl rfl,z8 hg8_4 rfl,zr' rfl (oM rfl),zr' rfl (oM rfl),zr' rfl (op_ix _ _ _ _ _ _ _ _ underlying28 sz3 (by decide) rfl rfl rfl (ix_ok hv52).1 (map_lt (ix_ok hv52).2) rfl),zr' rfl (op_load_e _ _ _ _ _ _ underlying3 rfl rfl rfl (map_get hv53)),zr' rfl (oM rfl),zr' rfl (oB rfl rfl),zr' rfl (op_move _ _ _ _ (zb hg8_11) rfl),zf rfl,zf rfl,zf rfl,zf rfl,zf rfl,zf rfl,zu' rfl,zu' rfl,zf rfl,zr' rfl (op_pick _ _ true _ rfl rfl),z3 true rfl,z2 rfl,z2 rfl,zz⟩ ?_
      exact hl60 _ (Option.some.inj h).symm
     ·obtain ⟨v54, hv54, h⟩ := bind_some h
      obtain ⟨v55, hv55, h⟩ := bind_some h
      obtain ⟨v56, hv56, h⟩ := bind_some h
      refine cond_some h (fun hg8_17 h => ?_) (fun hg8_17 h => ?_)
      ·obtain ⟨v57, hv57, h⟩ := bind_some h
       refine zg hn (_::_::_::_::(31,vi s37)::(32,vi s37)::(33,vi (x.length : Int))::(34,vb (decide (s37 < (x.length : Int))))::(35,vb true)::(36,.fl .shr 1 (List.map (Value.int .i64) x))::(37,vi s37)::(38,.eref (.slot 36) (v52 * 1))::(39,vi v53)::(40,vi target)::(41,vb (v53 == target))::(42,vb false)::(43,.fl .shr 1 (List.map (Value.int .i64) x))::(44,vi s37)::(45,.eref (.slot 43) (v54 * 1))::(46,vi v55)::(47,vb v56)::(48,vb true)::(49,vi target)::(50,vb v57)::(51,vb v57)::(52,vb v57)::(53,vb v57)::(4,vi s37)::(5,vb v57)::[]) [0,1,2,3] [27,28] (zq [3] 4 31::zq [3] 5 32::zq [2] 6 33::zq [5,6] 7 34::zq [7] 8 35::zq [8,0] 9 36::zq [8,3] 10 37::zq [8,9,10] 11 38::zq [8,11,9] 12 39::zq [8,1] 13 40::zq [8,12,13] 14 41::zq [8,14] 15 42::zq [15,0] 16 43::zq [15,3] 17 44::zq [15,16,17] 18 45::zq [15,18,16] 19 46::zq [15,19] 20 47::zq [15,20] 21 48::zq [21,1] 22 49::zq [21,22] 23 50::zq [15,21,23] 24 51::zq [8,15,24] 25 52::zq [8,25] 26 53::zq [4] 27 4::zq [26] 28 5::[]) [(_,_),(_,_)] rfl ⟨z1 rfl,z1 rfl,z1 rfl,z4 rfl rfl,z8 hg8_4 rfl,zr' rfl (oM rfl),zr' rfl (oM rfl),zr' rfl (op_ix _ _ _ _ _ _ _ _ underlying28 sz3 (by decide) rfl rfl rfl (ix_ok hv52).1 (map_lt (ix_ok hv52).2) rfl),zr' rfl (op_load_e _ _ _ _ _ _ underlying3 rfl rfl rfl (map_get hv53)),zr' rfl (oM rfl),zr' rfl (oB rfl rfl),zr' rfl (op_move _ _ _ _ (zb hg8_11) rfl),zr' rfl (oM rfl),zr' rfl (oM rfl),zr' rfl (op_ix _ _ _ _ _ _ _ _ underlying28 sz3 (by decide) rfl rfl rfl (ix_ok hv54).1 (map_lt (ix_ok hv54).2) rfl),zr' rfl (op_load_e _ _ _ _ _ _ underlying3 rfl rfl rfl (map_get hv55)),zr' rfl (op_call _ _ 40 _ _ rfl call40 rfl (ok_slices_isNaN_int v55 _ hv56) rfl rfl),zr' rfl (op_move _ _ _ _ (zb hg8_17) rfl),zr' rfl (oM rfl),zr' rfl (op_call _ _ 40 _ _ rfl call40 rfl (ok_slices_isNaN_int target _ hv57) rfl rfl),zr' rfl (op_pick _ _ true _ rfl rfl),zr' rfl (op_pick _ _ false _ rfl rfl),z3 true rfl,z2 rfl,z2 rfl,zz⟩ ?_
       exact hl60 _ (Option.some.inj h).symm
      ·refine zg hn (_::_::_::_::(31,vi s37)::(32,vi s37)::(33,vi (x.length : Int))::(34,vb (decide (s37 < (x.length : Int))))::(35,vb true)::(36,.fl .shr 1 (List.map (Value.int .i64) x))::(37,vi s37)::(38,.eref (.slot 36) (v52 * 1))::(39,vi v53)::(40,vi target)::(41,vb (v53 == target))::(42,vb false)::(43,.fl .shr 1 (List.map (Value.int .i64) x))::(44,vi s37)::(45,.eref (.slot 43) (v54 * 1))::(46,vi v55)::(47,vb v56)::(48,vb false)::(49,.v undef)::(50,.v undef)::(51,vb false)::(52,vb false)::(53,vb false)::(4,vi s37)::(5,vb false)::[]) [0,1,2,3] [27,28] (zq [3] 4 31::zq [3] 5 32::zq [2] 6 33::zq [5,6] 7 34::zq [7] 8 35::zq [8,0] 9 36::zq [8,3] 10 37::zq [8,9,10] 11 38::zq [8,11,9] 12 39::zq [8,1] 13 40::zq [8,12,13] 14 41::zq [8,14] 15 42::zq [15,0] 16 43::zq [15,3] 17 44::zq [15,16,17] 18 45::zq [15,18,16] 19 46::zq [15,19] 20 47::zq [15,20] 21 48::zq [21] 22 49::zq [21] 23 50::zq [15,21] 24 51::zq [8,15,24] 25 52::zq [8,25] 26 53::zq [4] 27 4::zq [26] 28 5::[]) [(_,_),(_,_)] rfl ⟨z1 rfl,z1 rfl,z1 rfl,z4 rfl rfl,z8 hg8_4 rfl,zr' rfl (oM rfl),zr' rfl (oM rfl),zr' rfl (op_ix _ _ _ _ _ _ _ _ underlying28 sz3 (by decide) rfl rfl rfl (ix_ok hv52).1 (map_lt (ix_ok hv52).2) rfl),zr' rfl (op_load_e _ _ _ _ _ _ underlying3 rfl rfl rfl (map_get hv53)),zr' rfl (oM rfl),zr' rfl (oB rfl rfl),zr' rfl (op_move _ _ _ _ (zb hg8_11) rfl),zr' rfl (oM rfl),zr' rfl (oM rfl),zr' rfl (op_ix _ _ _ _ _ _ _ _ underlying28 sz3 (by decide) rfl rfl rfl (ix_ok hv54).1 (map_lt (ix_ok hv54).2) rfl),zr' rfl (op_load_e _ _ _ _ _ _ underlying3 rfl rfl rfl (map_get hv55)),zr' rfl (op_call _ _ 40 _ _ rfl call40 rfl (ok_slices_isNaN_int v55 _ hv56) rfl rfl),zr' rfl (op_move _ _ _ _ (zb hg8_17) rfl),zt rfl,zt rfl,zr' rfl (op_pick _ _ false _ rfl rfl),zr' rfl (op_pick _ _ false _ rfl rfl),z3 true rfl,z2 rfl,z2 rfl,zz⟩ ?_
       exact hl60 _ (Option.some.inj h).symm
    ·refine zg hn (_::_::_::_::(31,vi s37)::(32,vi s37)::(33,vi (x.length : Int))::(34,vb (decide (s37 < (x.length : Int))))::(35,vb false)::(36,.v undef)::(37,.v undef)::(38,.v undef)::(39,.v undef)::(40,.v undef)::(41,.v undef)::(42,.v undef)::(43,.v undef)::(44,.v undef)::(45,.v undef)::(46,.v undef)::(47,.v undef)::(48,.v undef)::(49,.v undef)::(50,.v undef)::(51,.v undef)::(52,.v undef)::(53,vb false)::(4,vi s37)::(5,vb false)::[]) [0,1,2,3] [27,28] (zq [3] 4 31::zq [3] 5 32::zq [2] 6 33::zq [5,6] 7 34::zq [7] 8 35::zq [8] 9 36::zq [8] 10 37::zq [8] 11 38::zq [8] 12 39::zq [8] 13 40::zq [8] 14 41::zq [8] 15 42::zq [15] 16 43::zq [15] 17 44::zq [15] 18 45::zq [15] 19 46::zq [15] 20 47::zq [15] 21 48::zq [21] 22 49::zq [21] 23 50::zq [15] 24 51::zq [8] 25 52::zq [8] 26 53::zq [4] 27 4::zq [26] 28 5::[]) [(_,_),(_,_)] rfl ⟨z1 rfl,z1 rfl,z1 rfl,z4 rfl rfl,z8 hg8_4 rfl,zt rfl,zt rfl,zt rfl,zt rfl,zt rfl,zt rfl,zt rfl,zu' rfl,zu' rfl,zu' rfl,zu' rfl,zu' rfl,zu' rfl,zu' rfl,zu' rfl,zu' rfl,zt rfl,z3 false rfl,z2 rfl,z2 rfl,zz⟩ ?_
     exact hl60 _ (Option.some.inj h).symm
  ·rintro u38 hl39 hr40 ⟨s27, s28⟩ rr43 h ho41
   refine ht_seq ?_
   refine zgg hn [_,_,_,_,_,(13,vi s27),(14,vi s28),(15,vb (decide (s27 < s28)))] [0,1,2,3,4] [0,1,2,3,4,7] [zq [3] 5 13,zq [4] 6 14,zq [5,6] 7 15] [(_,_),(_,_),(_,_),(_,_),(_,_),(_,_)] rfl ⟨z1 rfl,z1 rfl,z4 rfl rfl,zz⟩ ?_
   refine ht_cond _ rfl (fun hb44 => ?_) (fun hb44 => ?_)
   ·have h := cond_t hb44 h
    refine ht_skip ?_
    refine pt_then ?_
    refine ht_joinS h (fun ((s46, s47) : Int × Int) => [(0, .fl .shr 1 (List.map (Value.int .i64) x)), (1, .v (.int .i64 target)), (6, .v (.int .i64 (x.length : Int))), (8, .v (.int .i64 s46)), (7, .v (.int .i64 s47))]) ?_ ?_
    ·rintro ⟨s46, s47⟩ h
     refine pt_pick [0, 1, 2, 4, 3] (by kernel_rfl) (es' := [(_,_),(_,_),(_,_),(_,_),(_,_)]) rfl ?_
     exact pt_next _ (Option.some.inj h).symm rfl
    ·intro u48 h hl49 hr50
     refine ht_block ?_
     refine ht_seq ?_
     obtain ⟨v2, hv2, h⟩ := bind_some h
     obtain ⟨v3, hv3, h⟩ := bind_some h
     obtain ⟨v4, hv4, h⟩ := bind_some h
     obtain ⟨v5, hv5, h⟩ := bind_some h
     refine zg hn [_,_,_,_,_,_,(16,vi s27),(17,vi s28),(18,vi v2),(19,.v (.int .u64 v3)),(20,.v (.int .u64 v4)),(21,vi v5),(9,vi v5)] [0,1,2,3,4,5] [0,1,2,3,4,12] [zq [3] 6 16,zq [4] 7 17,zq [6,7] 8 18,zq [8] 9 19,zq [9] 10 20,zq [10] 11 21,zq [11] 12 9] [(_,_),(_,_),(_,_),(_,_),(_,_),(_,_)] rfl ⟨z1 rfl,z1 rfl,zp rfl (oB rfl (ibind (f := Value.int .i64) (Option.some.inj hv2))),zp rfl ((Option.some.inj hv3) ▸ op_conv _ _ _ underlying3 underlying26 rfl),zp rfl (oB rfl (shr_ok hv4)),zp rfl ((Option.some.inj hv5) ▸ op_conv _ _ _ underlying26 underlying3 rfl),z2 rfl,zz⟩ ?_
     refine pt_then (ht_seq ?_)
     obtain ⟨v6, hv6, h⟩ := bind_some h
     obtain ⟨v7, hv7, h⟩ := bind_some h
     obtain ⟨v8, hv8, h⟩ := bind_some h
     refine zg hn [_,_,_,_,_,_,(22,.fl .shr 1 (List.map (Value.int .i64) x)),(23,vi v5),(24,.eref (.slot 22) (v6 * 1)),(25,vi v7),(26,vi target),(27,vb v8)] [0,1,2,3,4,5] [0,1,2,3,4,5,11] [zq [0] 6 22,zq [5] 7 23,zq [6,7] 8 24,zq [8,6] 9 25,zq [1] 10 26,zq [9,10] 11 27] [(_,_),(_,_),(_,_),(_,_),(_,_),(_,_),(_,_)] rfl ⟨z1 rfl,z1 rfl,zp rfl (op_ix _ _ _ _ _ _ _ _ underlying28 sz3 (by decide) rfl rfl rfl (ix_ok hv6).1 (map_lt (ix_ok hv6).2) rfl),zp rfl (op_load_e _ _ _ _ _ _ underlying3 rfl rfl rfl (map_get hv7)),z1 rfl,zp rfl (op_call _ _ 39 _ _ rfl call39 rfl (ok_cmp_Less_int v7 target _ hv8) rfl rfl),zz⟩ ?_
     refine pt_then ?_
     refine ht_cond _ rfl (fun hb51 => ?_) (fun hb51 => ?_)
     ·have h := cond_t hb51 h
      obtain ⟨v10, hv10, h⟩ := bind_some h
      refine zg hn [_,_,_,_,_,_,_,(28,vi v5),(29,vi v10),(7,vi v10)] [0,1,2,3,4,5,6] [0,1,2,4,9] [zq [5] 7 28,zq [7] 8 29,⟨[8],[3],[9],[(.slot 7)]⟩] [(_,_),(_,_),(_,_),(_,_),(_,_)] rfl ⟨z1 rfl,zp rfl (oB rfl (ibind (f := Value.int .i64) (Option.some.inj hv10))),zp rfl (LOp.drop [_] (op_assign _ _ _ _ rfl rfl)),zz⟩ ?_
      refine pt_inb ?_
      exact hl49 _ (Option.some.inj h).symm
     ·have h := cond_f hb51 h
      refine zg hn [_,_,_,_,_,_,_,(30,vi v5),(8,vi v5)] [0,1,2,3,4,5,6] [0,1,2,3,8] [zq [5] 7 30,⟨[7],[4],[8],[(.slot 8)]⟩] [(_,_),(_,_),(_,_),(_,_),(_,_)] rfl ⟨z1 rfl,zp rfl (LOp.drop [_] (op_assign _ _ _ _ rfl rfl)),zz⟩ ?_
      refine pt_inb ?_
      refine pt_pick [0, 1, 2, 4, 3] (by kernel_rfl) (es' := [(_,_),(_,_),(_,_),(_,_),(_,_)]) rfl ?_
      exact hl49 _ (Option.some.inj h).symm
   ·have h := cond_f hb44 h
    refine ht_exit ?_
    refine pt_x_then ?_
    refine pt_x_then ?_
    refine pt_x_in ?_
    refine pt_pick [0, 1, 2, 3] (by kernel_rfl) (es' := [(_,_),(_,_),(_,_),(_,_)]) rfl ?_
    exact hl39 _ (ho41 _ (Option.some.inj h).symm).symm
theorem ok_spool_apply (s : T_Spool) (p_r : T_Rec) (r : T_Spool) (h : Sh.spool_apply s p_r = some r) : FnP Tryd.prog 13 [.box 31 [.fr (.own 71) false 11 (List.flatten (List.map T_Item.ienc s.Items)), .v (.int .i64 s.Packs), .fl (.own 3) 1 (List.map (Value.int .i64) s.Sent), .fl (.own 5) 1 (List.map (Value.int .u8) s.Part), .v (.int .i64 s.Of), .fl (.own 3) 1 (List.map (Value.int .i64) s.Done)], .agg [.v (.int .i64 p_r.Kind), .v (.bool p_r.Mail.From.Null), .v (.string p_r.Mail.From.Local), .v (.string p_r.Mail.From.Domain), .fl .shr 3 (List.flatten (List.map T_Path.enc p_r.Mail.To)), .fl .shr 1 (List.map (Value.int .u8) p_r.Mail.Body), .v (.bool p_r.Mail.Quiet), .v (.string p_r.Mail.Helo), .v (.int .i64 p_r.Mail.At), .v (.int .i64 p_r.Id), .fl .shr 1 (List.map (Value.int .i64) p_r.Ids), .v (.int .i64 p_r.Origin), .v (.int .i64 p_r.Number), .v (.int .i64 p_r.Offset), .fl .shr 1 (List.map (Value.int .u8) p_r.Data)]] [.box 31 [.fr (.own 71) false 11 (List.flatten (List.map T_Item.ienc r.Items)), .v (.int .i64 r.Packs), .fl (.own 3) 1 (List.map (Value.int .i64) r.Sent), .fl (.own 5) 1 (List.map (Value.int .u8) r.Part), .v (.int .i64 r.Of), .fl (.own 3) 1 (List.map (Value.int .i64) r.Done)]] (.tup []) := by
  unfold Sh.spool_apply at h
  refine fn_okP func13 rfl (zl rfl) rfl (zl rfl) fun args0 hargs0 g0 hn hio => ?_
  refine zgg hn [_,_,_,(3,.box 50 [vi p_r.Kind,vb p_r.Mail.From.Null,vs p_r.Mail.From.Local,vs p_r.Mail.From.Domain,.fl .shr 3 (List.flatten (List.map T_Path.enc p_r.Mail.To)),.fl .shr 1 (List.map (Value.int .u8) p_r.Mail.Body),vb p_r.Mail.Quiet,vs p_r.Mail.Helo,vi p_r.Mail.At,vi p_r.Id,.fl .shr 1 (List.map (Value.int .i64) p_r.Ids),vi p_r.Origin,vi p_r.Number,vi p_r.Offset,.fl .shr 1 (List.map (Value.int .u8) p_r.Data)])] [0,1,2] [0,2,3] [zq [1] 3 3] [(_,_),(_,_),(_,_)] rfl ⟨zp rfl (op_box _ _ _ _ rfl rfl rfl),zz⟩ ?_
  refine zgg hn [_,_,_,(11,.ptr 3 0),(12,vi p_r.Kind)] [0,1,2] [0,1,2,4] [zq [2] 3 11,zq [3,2] 4 12] [(_,_),(_,_),(_,_),(_,_)] rfl ⟨zp rfl (oF underlying50 rfl sz3),zp rfl (oL underlying3 rfl),zz⟩ ?_
  refine ht_joinS h (fun ((s125, s126, s127, s128, s129, s130) : (List T_Item) × Int × (List Int) × (List Int) × Int × (List Int)) => [(0, .box 31 [.fr (.own 71) false 11 (List.flatten (List.map T_Item.ienc s125)), .v (.int .i64 s126), .fl (.own 3) 1 (List.map (Value.int .i64) s127), .fl (.own 5) 1 (List.map (Value.int .u8) s128), .v (.int .i64 s129), .fl (.own 3) 1 (List.map (Value.int .i64) s130)]), (0, .v (List.getD args0 0 undef))]) ?_ ?_
  ·rintro ⟨s125, s126, s127, s128, s129, s130⟩ h
   obtain rfl := Option.some.inj h
   exact pt_endP (es := []) (posts := [.box 31 [.fr (.own 71) false 11 (List.flatten (List.map T_Item.ienc s125)), .v (.int .i64 s126), .fl (.own 3) 1 (List.map (Value.int .i64) s127), .fl (.own 5) 1 (List.map (Value.int .u8) s128), .v (.int .i64 s129), .fl (.own 3) 1 (List.map (Value.int .i64) s130)]]) hio rfl rfl .nil rfl rfl hargs0 rfl
  ·intro u131 h hl132 hr133
   refine ht_block ?_
   refine zgg hn [_,_,_,_,(14,vb (p_r.Kind == 1)),(13,vb (p_r.Kind == 1))] [0,1,2,3] [0,1,2,3,5] [zq [3] 4 14,zq [4] 5 13] [(_,_),(_,_),(_,_),(_,_),(_,_)] rfl ⟨z4 rfl rfl,z2 rfl,zz⟩ ?_
   refine ht_cond _ rfl (fun hb134 => ?_) (fun hb134 => ?_)
   ·have h := cond_t hb134 h
    refine zgg hn [_,_,_,_,_,(4,vi 1)] [0,1,2,3,4] [0,1,2,5] [zq [] 5 4] [(_,_),(_,_),(_,_),(_,_)] rfl ⟨z2 rfl,zz⟩ ?_
    refine ht_seq ?_
    refine ht_joinS h (fun (s136 : Int) => [(0, .box 31 [.fr (.own 71) false 11 (List.flatten (List.map T_Item.ienc s.Items)), .v (.int .i64 s.Packs), .fl (.own 3) 1 (List.map (Value.int .i64) s.Sent), .fl (.own 5) 1 (List.map (Value.int .u8) s.Part), .v (.int .i64 s.Of), .fl (.own 3) 1 (List.map (Value.int .i64) s.Done)]), (0, .v (List.getD args0 0 undef)), (3, .box 50 [.v (.int .i64 p_r.Kind), .v (.bool p_r.Mail.From.Null), .v (.string p_r.Mail.From.Local), .v (.string p_r.Mail.From.Domain), .fl .shr 3 (List.flatten (List.map T_Path.enc p_r.Mail.To)), .fl .shr 1 (List.map (Value.int .u8) p_r.Mail.Body), .v (.bool p_r.Mail.Quiet), .v (.string p_r.Mail.Helo), .v (.int .i64 p_r.Mail.At), .v (.int .i64 p_r.Id), .fl .shr 1 (List.map (Value.int .i64) p_r.Ids), .v (.int .i64 p_r.Origin), .v (.int .i64 p_r.Number), .v (.int .i64 p_r.Offset), .fl .shr 1 (List.map (Value.int .u8) p_r.Data)]), (4, .v (.int .i64 s136))]) ?_ ?_
    ·rintro s136 h
     refine pt_then ?_
     obtain ⟨v8, hv8, h⟩ := bind_some h
     obtain ⟨v9, hv9, h⟩ := bind_some h
     refine ht_anyR (by kernel_rfl) hn (El := (_ :: _ :: _ :: _ :: (18, .same (.slot 0)) :: (19, .same (.slot 0)) :: (20, .ptr 0 0) :: (21, .ptr 0 0) :: (22, .same (.cell 0 0)) :: (23, .ptr 3 9) :: (24, .v (.int .i64 p_r.Id)) :: (25, .ptr 3 1) :: (26, .agg [.v (.bool p_r.Mail.From.Null), .v (.string p_r.Mail.From.Local), .v (.string p_r.Mail.From.Domain), .fl .shr 3 (List.flatten (List.map T_Path.enc p_r.Mail.To)), .fl .shr 1 (List.map (Value.int .u8) p_r.Mail.Body), .v (.bool p_r.Mail.Quiet), .v (.string p_r.Mail.Helo), .v (.int .i64 p_r.Mail.At)]) :: (27, .agg [.v (.bool v8.From.Null), .v (.string v8.From.Local), .v (.string v8.From.Domain), .fl (.own 45) 3 (List.flatten (List.map T_Path.enc v8.To)), .fl (.own 5) 1 (List.map (Value.int .u8) v8.Body), .v (.bool v8.Quiet), .v (.string v8.Helo), .v (.int .i64 v8.At)]) :: (28, .v (.int .i64 s136)) :: (29, .agg [.v (.int .i64 p_r.Id), .v (.bool v8.From.Null), .v (.string v8.From.Local), .v (.string v8.From.Domain), .fl (.own 45) 3 (List.flatten (List.map T_Path.enc v8.To)), .fl (.own 5) 1 (List.map (Value.int .u8) v8.Body), .v (.bool v8.Quiet), .v (.string v8.Helo), .v (.int .i64 v8.At), .v (.int .i64 s136), .v (.int .i64 0)]) :: (30, .fr (.own 71) false 11 (List.flatten (List.map T_Item.ienc [(T_Item.mk p_r.Id ((T_Mail.mk (T_Path.mk v8.From.Null v8.From.Local v8.From.Domain) v8.To v8.Body v8.Quiet v8.Helo v8.At)) s136 0)]))) :: (31, .fr (.own 71) false 11 (List.flatten (List.map T_Item.ienc v9))) :: (0, .box 31 [.any, .v (.int .i64 s.Packs), .fl (.own 3) 1 (List.map (Value.int .i64) s.Sent), .fl (.own 5) 1 (List.map (Value.int .u8) s.Part), .v (.int .i64 s.Of), .fl (.own 3) 1 (List.map (Value.int .i64) s.Done)]) :: (32, .ptr 0 0) :: (33, .ptr 0 0) :: (0, .box 31 [.fr (.own 71) false 11 (List.flatten (List.map T_Item.ienc v9)), .v (.int .i64 s.Packs), .fl (.own 3) 1 (List.map (Value.int .i64) s.Sent), .fl (.own 5) 1 (List.map (Value.int .u8) s.Part), .v (.int .i64 s.Of), .fl (.own 3) 1 (List.map (Value.int .i64) s.Done)]) :: [])) (init := [0, 1, 2, 3]) (fin := [21, 1]) (sps := (zq [] 4 18 :: zq [] 5 19 :: zq [5,0] 6 20 :: zq [6,0] 7 21 :: zq [7,0] 8 22 :: zq [2] 9 23 :: zq [9,2] 10 24 :: zq [2] 11 25 :: zq [11,2] 12 26 :: zq [12] 13 27 :: zq [3] 14 28 :: ⟨[10, 14], [13], [15], [(.slot 29)]⟩ :: ⟨[], [15], [16], [(.slot 30)]⟩ :: ⟨[8, 16], [0], [18, 17], [(.slot 31)]⟩ :: zq [4,18] 19 32 :: zq [19,18] 20 33 :: ⟨[20], [8, 17, 18], [21], [.cell 0 0]⟩ :: [])) (es' := [(0, .box 31 [.fr (.own 71) false 11 (List.flatten (List.map T_Item.ienc v9)), .v (.int .i64 s.Packs), .fl (.own 3) 1 (List.map (Value.int .i64) s.Sent), .fl (.own 5) 1 (List.map (Value.int .u8) s.Part), .v (.int .i64 s.Of), .fl (.own 3) 1 (List.map (Value.int .i64) s.Done)]), (_,_)]) (by kernel_rfl) rfl rfl ⟨zp rfl (op_move_name _ _ _ rfl),zp rfl (op_move_name _ _ _ rfl),zp rfl (op_nilCheck_name _ _ _ 0 rfl rfl (by decide)),zp rfl (oF underlying31 rfl sz27),zp rfl (oL underlying27 rfl),zp rfl (oF underlying50 rfl sz3),zp rfl (oL underlying3 rfl),zp rfl (oF underlying50 rfl sz48),zp rfl (op_loadA _ _ _ _ _ _ _ underlying48 rfl sz48 rfl rfl (zl rfl) rfl rfl),zp rfl (op_call _ _ 25 _ _ rfl call25 rfl (ok_clone_Mail ((T_Mail.mk (T_Path.mk p_r.Mail.From.Null p_r.Mail.From.Local p_r.Mail.From.Domain) p_r.Mail.To p_r.Mail.Body p_r.Mail.Quiet p_r.Mail.Helo p_r.Mail.At)) _ hv8) rfl rfl),z1 rfl,zp rfl (op_build _ _ _ _ [1, 8, 1, 1] _ _ underlying71 zr71 (fs71 _ underlying71) (.copy _ (.take _ _ (.copy _ Src.nil))) rfl rfl rfl),zp rfl (op_build1_fr_take _ _ _ 11 (.agg #[.int .i64 0, .bool false, .string ByteArray.empty, .string ByteArray.empty, .slice none 0 0, .slice none 0 0, .bool false, .string ByteArray.empty, .int .i64 0, .int .i64 0, .int .i64 0]) false _ _ underlying27 sz71 zr71 rfl (.cons (.v _) (.cons (.v _) (.cons (.v _) (.cons (.v _) (.cons (.ro _ _ rfl) (.cons (.ro _ _ rfl) (.cons (.v _) (.cons (.v _) (.cons (.v _) (.cons (.v _) (.cons (.v _) (.nil)))))))))))) rfl (by decide) (by decide)),zp rfl (op_app_fr_cell _ 31 0 0 _ _ el27 rfl rfl (zl rfl) rfl (gflat_len T_Item.ilen _) (gflat_len T_Item.ilen _) hv9 (gflat_app (app_eq hv9)) (by decide) (by decide) (by decide) rfl rfl),zp rfl (op_nilCheck_name _ _ _ 0 rfl rfl (by decide)),zp rfl (oF underlying31 rfl sz27),zp rfl (LOp.drop [_] (op_store_take _ _ _ _ _ _ _ _ sz27 rfl rfl rfl (zl rfl) rfl rfl)),zz⟩ ?_
     refine pt_inb ?_
     exact hl132 _ (Option.some.inj h).symm
    ·intro u137 h hl138 hr139
     refine zgg hn [_,_,_,_,(15,.ptr 3 11),(16,vi p_r.Origin),(17,vb (p_r.Origin == 0))] [0,1,2,3] [0,1,2,3,6] [zq [2] 4 15,zq [4,2] 5 16,zq [5] 6 17] [(_,_),(_,_),(_,_),(_,_),(_,_)] rfl ⟨zp rfl (oF underlying50 rfl sz3),zp rfl (oL underlying3 rfl),z4 rfl rfl,zz⟩ ?_
     refine ht_cond _ rfl (fun hb140 => ?_) (fun hb140 => ?_)
     ·have h := cond_t hb140 h
      refine zg hn [_,_,_,_,_,(4,vi 3)] [0,1,2,3,4] [0,1,2,5] [⟨[],[3],[5],[(.slot 4)]⟩] [(_,_),(_,_),(_,_),(_,_)] rfl ⟨zp rfl (LOp.drop [_] (op_assign _ _ _ _ rfl rfl)),zz⟩ ?_
      exact hl138 _ (Option.some.inj h).symm
     ·have h := cond_f hb140 h
      refine ht_skip ?_
      refine pt_pick [0, 1, 2, 3] (by kernel_rfl) (es' := [(_,_),(_,_),(_,_),(_,_)]) rfl ?_
      exact hl138 _ (Option.some.inj h).symm
   ·have h := cond_f hb134 h
    refine zgg hn [_,_,_,_,_,(35,vb (p_r.Kind == 2)),(34,vb (p_r.Kind == 2))] [0,1,2,3,4] [0,1,2,3,6] [zq [3] 5 35,zq [5] 6 34] [(_,_),(_,_),(_,_),(_,_),(_,_)] rfl ⟨z4 rfl rfl,z2 rfl,zz⟩ ?_
    refine ht_cond _ rfl (fun hb141 => ?_) (fun hb141 => ?_)
    ·have h := cond_t hb141 h
     refine ht_seq ?_
     refine zgg hn [_,_,_,_,_,(36,.ptr 0 0),(37,.ptr 0 0),(38,.ptr 0 0),(39,.same (.cell 0 0)),(40,vi (s.Items.length : Int)),(41,vi 0)] [0,1,2,3,4] [0,1,2,8,9,10] [zq [0] 5 36,zq [5,0] 6 37,zq [6,0] 7 38,zq [7,0] 8 39,zq [8,0] 9 40,zq [] 10 41] [(_,_),(_,_),(_,_),(_,_),(_,_),(_,_)] rfl ⟨z1 rfl,zp rfl (op_nilCheck _ _ _ 0 0 rfl (by decide)),zp rfl (oF underlying31 rfl sz27),zp rfl (oL underlying27 rfl),zp rfl (op_len_fr _ _ _ underlying27 rfl (by decide) (gflat_len T_Item.ilen _)),z1 rfl,zz⟩ ?_
     refine ht_loopS h (fun ((s158, s159) : (List T_Item) × Int) => [(0, .box 31 [.fr (.own 71) false 11 (List.flatten (List.map T_Item.ienc s158)), .v (.int .i64 s.Packs), .fl (.own 3) 1 (List.map (Value.int .i64) s.Sent), .fl (.own 5) 1 (List.map (Value.int .u8) s.Part), .v (.int .i64 s.Of), .fl (.own 3) 1 (List.map (Value.int .i64) s.Done)]), (0, .v (List.getD args0 0 undef)), (3, .box 50 [.v (.int .i64 p_r.Kind), .v (.bool p_r.Mail.From.Null), .v (.string p_r.Mail.From.Local), .v (.string p_r.Mail.From.Domain), .fl .shr 3 (List.flatten (List.map T_Path.enc p_r.Mail.To)), .fl .shr 1 (List.map (Value.int .u8) p_r.Mail.Body), .v (.bool p_r.Mail.Quiet), .v (.string p_r.Mail.Helo), .v (.int .i64 p_r.Mail.At), .v (.int .i64 p_r.Id), .fl .shr 1 (List.map (Value.int .i64) p_r.Ids), .v (.int .i64 p_r.Origin), .v (.int .i64 p_r.Number), .v (.int .i64 p_r.Offset), .fl .shr 1 (List.map (Value.int .u8) p_r.Data)]), (39, .same (.cell 0 0)), (40, .v (.int .i64 (s.Items.length : Int))), (41, .v (.int .i64 s159))]) (fun (s167 : (List T_Item)) => [(0, .box 31 [.fr (.own 71) false 11 (List.flatten (List.map T_Item.ienc s167)), .v (.int .i64 s.Packs), .fl (.own 3) 1 (List.map (Value.int .i64) s.Sent), .fl (.own 5) 1 (List.map (Value.int .u8) s.Part), .v (.int .i64 s.Of), .fl (.own 3) 1 (List.map (Value.int .i64) s.Done)]), (0, .v (List.getD args0 0 undef)), (3, .box 50 [.v (.int .i64 p_r.Kind), .v (.bool p_r.Mail.From.Null), .v (.string p_r.Mail.From.Local), .v (.string p_r.Mail.From.Domain), .fl .shr 3 (List.flatten (List.map T_Path.enc p_r.Mail.To)), .fl .shr 1 (List.map (Value.int .u8) p_r.Mail.Body), .v (.bool p_r.Mail.Quiet), .v (.string p_r.Mail.Helo), .v (.int .i64 p_r.Mail.At), .v (.int .i64 p_r.Id), .fl .shr 1 (List.map (Value.int .i64) p_r.Ids), .v (.int .i64 p_r.Origin), .v (.int .i64 p_r.Number), .v (.int .i64 p_r.Offset), .fl .shr 1 (List.map (Value.int .u8) p_r.Data)])]) ?_ ?_
     ·rintro s167 h
      refine pt_then ?_
      refine zg hn [_,_,_,(68,.ptr 0 0),(69,.ptr 3 12),(70,vi p_r.Number),(71,.ptr 0 0),(72,.ptr 0 1),(0,.box 31 [.fr (.own 71) false 11 (List.flatten (List.map T_Item.ienc s167)),vi p_r.Number,.fl (.own 3) 1 (List.map (Value.int .i64) s.Sent),.fl (.own 5) 1 (List.map (Value.int .u8) s.Part),vi s.Of,.fl (.own 3) 1 (List.map (Value.int .i64) s.Done)])] [0,1,2] [8,1] [zq [0] 3 68,zq [2] 4 69,zq [4,2] 5 70,zq [3,0] 6 71,zq [6,0] 7 72,⟨[7,5],[0],[8],[.cell 0 1]⟩] [(_,_),(_,_)] rfl ⟨z1 rfl,zp rfl (oF underlying50 rfl sz3),zp rfl (oL underlying3 rfl),zp rfl (op_nilCheck _ _ _ 0 0 rfl (by decide)),zp rfl (oF underlying31 rfl sz3),zp rfl (oS sz3 rfl),zz⟩ ?_
      refine pt_inb ?_
      exact hl132 _ (Option.some.inj h).symm
     ·rintro u168 hl169 hr170 ⟨s158, s159⟩ rr173 h ho171
      refine zgg hn [_,_,_,_,_,_,(42,vb (decide (s159 < (s.Items.length : Int))))] [0,1,2,3,4,5] [0,1,2,3,4,5,6] [zq [5,4] 6 42] [(_,_),(_,_),(_,_),(_,_),(_,_),(_,_),(_,_)] rfl ⟨z4 rfl rfl,zz⟩ ?_
      refine ht_seq ?_
      refine ht_cond _ rfl (fun hb174 => ?_) (fun hb174 => ?_)
      ·have h := cond_t hb174 h
       refine ht_skip ?_
       refine pt_then (ht_seq ?_)
       refine ht_joinS h (fun (s176 : (List T_Item)) => [(0, .box 31 [.fr (.own 71) false 11 (List.flatten (List.map T_Item.ienc s176)), .v (.int .i64 s.Packs), .fl (.own 3) 1 (List.map (Value.int .i64) s.Sent), .fl (.own 5) 1 (List.map (Value.int .u8) s.Part), .v (.int .i64 s.Of), .fl (.own 3) 1 (List.map (Value.int .i64) s.Done)]), (0, .v (List.getD args0 0 undef)), (3, .box 50 [.v (.int .i64 p_r.Kind), .v (.bool p_r.Mail.From.Null), .v (.string p_r.Mail.From.Local), .v (.string p_r.Mail.From.Domain), .fl .shr 3 (List.flatten (List.map T_Path.enc p_r.Mail.To)), .fl .shr 1 (List.map (Value.int .u8) p_r.Mail.Body), .v (.bool p_r.Mail.Quiet), .v (.string p_r.Mail.Helo), .v (.int .i64 p_r.Mail.At), .v (.int .i64 p_r.Id), .fl .shr 1 (List.map (Value.int .i64) p_r.Ids), .v (.int .i64 p_r.Origin), .v (.int .i64 p_r.Number), .v (.int .i64 p_r.Offset), .fl .shr 1 (List.map (Value.int .u8) p_r.Data)]), (39, .same (.cell 0 0)), (40, .v (.int .i64 (s.Items.length : Int))), (41, .v (.int .i64 s159))]) ?_ ?_
       ·rintro s176 h
        refine pt_then ?_
        obtain ⟨v27, hv27, h⟩ := bind_some h
        refine zg hn [_,_,_,_,_,_,(67,vi v27),(41,vi v27)] [0,1,2,3,4,5] [0,1,2,3,4,7] [zq [5] 6 67,⟨[6],[5],[7],[(.slot 41)]⟩] [(_,_),(_,_),(_,_),(_,_),(_,_),(_,_)] rfl ⟨zp rfl (oB rfl (ibind (f := Value.int .i64) (Option.some.inj hv27))),zp rfl (LOp.drop [_] (oM rfl)),zz⟩ ?_
        exact pt_next _ (Option.some.inj h).symm rfl
       ·intro u177 h hl178 hr179
        refine ht_block ?_
        refine ht_seq ?_
        obtain ⟨v12, hv12, h⟩ := bind_some h
        obtain ⟨v13, hv13, h⟩ := bind_some h
        refine zg hn [_,_,_,_,_,_,_,(43,vi s159),(44,.eref (.cell 0 0) (v12 * 11)),(45,.agg [vi v13.Id,vb v13.Mail.From.Null,vs v13.Mail.From.Local,vs v13.Mail.From.Domain,.fl .ro 3 (List.flatten (List.map T_Path.enc v13.Mail.To)),.fl .ro 1 (List.map (Value.int .u8) v13.Mail.Body),vb v13.Mail.Quiet,vs v13.Mail.Helo,vi v13.Mail.At,vi v13.State,vi v13.Pack]),(6,.box 71 [vi 0,vb false,vs z0,vs z0,.v (.slice none 0 0),.v (.slice none 0 0),vb false,vs z0,vi 0,vi 0,vi 0]),(5,vi s159),(6,.box 71 [vi v13.Id,vb v13.Mail.From.Null,vs v13.Mail.From.Local,vs v13.Mail.From.Domain,.fl .ro 3 (List.flatten (List.map T_Path.enc v13.Mail.To)),.fl .ro 1 (List.map (Value.int .u8) v13.Mail.Body),vb v13.Mail.Quiet,vs v13.Mail.Helo,vi v13.Mail.At,vi v13.State,vi v13.Pack])] [0,1,2,3,4,5,6] [0,1,2,3,4,5,12,11] [zq [5] 7 43,zq [3,0,5] 8 44,zq [8,0] 9 45,zq [] 10 6,zq [7] 11 5,⟨[9],[10],[12],[.cell 6 0,.cell 6 1,.cell 6 2,.cell 6 3,.cell 6 4,.cell 6 5,.cell 6 6,.cell 6 7,.cell 6 8,.cell 6 9,.cell 6 10]⟩] [(_,_),(_,_),(_,_),(_,_),(_,_),(_,_),(_,_),(_,_)] rfl ⟨z1 rfl,zp rfl (op_ix_fr _ _ _ _ _ _ _ _ underlying27 sz71 (by decide) rfl rfl rfl (ix_ok hv12).1 (gflat_lt T_Item.ilen (ix_ok hv12).2) rfl),zp rfl (op_loadA_fr _ _ _ _ _ _ _ _ underlying71 rfl sz71 rfl rfl (gflat_get T_Item.ilen hv13) (.cons (.v _) (.cons (.v _) (.cons (.v _) (.cons (.v _) (.cons (.fl _ _ rfl) (.cons (.fl _ _ rfl) (.cons (.v _) (.cons (.v _) (.cons (.v _) (.cons (.v _) (.cons (.v _) (.nil)))))))))))) rfl (by decide)),zp rfl (op_alloc _ _ zr71),z2 rfl,zp rfl (oS sz71 rfl),zz⟩ ?_
        refine pt_then (ht_seq ?_)
        obtain ⟨v14, hv14, h⟩ := bind_some h
        refine zg hn [_,_,_,_,_,_,_,_,(46,.ptr 3 10),(47,.fl .shr 1 (List.map (Value.int .i64) p_r.Ids)),(48,.ptr 6 0),(49,vi v13.Id),(50,vb v14)] [0,1,2,3,4,5,6,7] [0,1,2,3,4,5,7,12] [zq [2] 8 46,zq [8,2] 9 47,zq [6] 10 48,zq [10,6] 11 49,zq [9,11] 12 50] [(_,_),(_,_),(_,_),(_,_),(_,_),(_,_),(_,_),(_,_)] rfl ⟨zp rfl (oF underlying50 rfl sz28),zp rfl (oL underlying28 rfl),zp rfl (oF underlying71 rfl sz3),zp rfl (oL underlying3 rfl),zp rfl (op_call _ _ 21 _ _ rfl call21 rfl (ok_slices_Contains_int_int p_r.Ids v13.Id _ hv14) rfl rfl),zz⟩ ?_
        refine pt_then ?_
        refine ht_cond _ rfl (fun hb180 => ?_) (fun hb180 => ?_)
        ·have h := cond_t hb180 h
         refine ht_seq ?_
         obtain ⟨v16, hv16, h⟩ := bind_some h
         obtain ⟨v17, hv17, h⟩ := bind_some h
         obtain ⟨v18, hv18, h⟩ := bind_some h
         refine zg hn (_::_::_::_::_::_::_::_::(51,.ptr 0 0)::(52,.ptr 0 0)::(53,.ptr 0 0)::(54,.same (.cell 0 0))::(55,vi s159)::(56,.eref (.cell 0 0) (v16 * 11))::(57,.eref (.cell 0 0) (v16 * 11 + 9))::(0,.box 31 [.fr (.own 71) false 11 (List.flatten (List.map T_Item.ienc v18)),vi s.Packs,.fl (.own 3) 1 (List.map (Value.int .i64) s.Sent),.fl (.own 5) 1 (List.map (Value.int .u8) s.Part),vi s.Of,.fl (.own 3) 1 (List.map (Value.int .i64) s.Done)])::[]) [0,1,2,3,4,5,6,7] [15,1,2,3,4,5,6] [zq [0] 8 51,zq [8,0] 9 52,zq [9,0] 10 53,zq [10,0] 11 54,zq [6] 12 55,zq [11,0,12] 13 56,zq [13,0] 14 57,⟨[14],[0],[15],[]⟩] [(_,_),(_,_),(_,_),(_,_),(_,_),(_,_),(_,_)] rfl ⟨z1 rfl,zp rfl (op_nilCheck _ _ _ 0 0 rfl (by decide)),zp rfl (oF underlying31 rfl sz27),zp rfl (oL underlying27 rfl),z1 rfl,zp rfl (op_ix_fr _ _ _ _ _ _ _ _ underlying27 sz71 (by decide) rfl rfl rfl (ix_ok hv16).1 (gflat_lt T_Item.ilen (ix_ok hv16).2) rfl),zp rfl (op_fieldAddr_e _ _ _ _ _ _ _ underlying71 rfl sz3 rfl rfl rfl),zp rfl (op_store_fr_cell _ _ _ 0 0 _ 1 _ sz3 rfl rfl (zl rfl) rfl rfl (by decide) (gflat_fit (q := 9) (s := 1) T_Item.ilen hv17 (by decide)) ((gflat_setc (q := 9) (s := 1) (y := (T_Item.mk v17.Id ((T_Mail.mk (T_Path.mk v17.Mail.From.Null v17.Mail.From.Local v17.Mail.From.Domain) v17.Mail.To v17.Mail.Body v17.Mail.Quiet v17.Mail.Helo v17.Mail.At)) 2 v17.Pack)) T_Item.ilen hv17 rfl (by decide)).trans (congrArg (fun l => List.flatten (List.map T_Item.ienc l)) (Option.some.inj hv18))) rfl),zz⟩ ?_
         refine pt_then ?_
         obtain ⟨v19, hv19, h⟩ := bind_some h
         obtain ⟨v20, hv20, h⟩ := bind_some h
         obtain ⟨v21, hv21, h⟩ := bind_some h
         refine ht_anyR (by kernel_rfl) hn (El := (_ :: _ :: _ :: _ :: _ :: _ :: _ :: (58, .same (.slot 0)) :: (59, .ptr 0 0) :: (60, .ptr 0 0) :: (61, .same (.cell 0 0)) :: (62, .v (.int .i64 s159)) :: (63, .ptr 3 12) :: (64, .v (.int .i64 p_r.Number)) :: (65, .eref (.cell 0 0) (v19 * 11)) :: (66, .eref (.cell 0 0) (v19 * 11 + 10)) :: (0, .box 31 [.fr (.own 71) false 11 (List.flatten (List.map T_Item.ienc v21)), .v (.int .i64 s.Packs), .fl (.own 3) 1 (List.map (Value.int .i64) s.Sent), .fl (.own 5) 1 (List.map (Value.int .u8) s.Part), .v (.int .i64 s.Of), .fl (.own 3) 1 (List.map (Value.int .i64) s.Done)]) :: [])) (init := [0, 1, 2, 3, 4, 5, 6]) (fin := [16, 1, 2, 3, 4, 5]) (sps := [zq [] 7 58, zq [7,0] 8 59, zq [8,0] 9 60, zq [9,0] 10 61, zq [6] 11 62, zq [2] 12 63, zq [12,2] 13 64, zq [10,0,11] 14 65, zq [14,0] 15 66, ⟨[15, 13], [0], [16], []⟩]) (es' := [(0, .box 31 [.fr (.own 71) false 11 (List.flatten (List.map T_Item.ienc v21)), .v (.int .i64 s.Packs), .fl (.own 3) 1 (List.map (Value.int .i64) s.Sent), .fl (.own 5) 1 (List.map (Value.int .u8) s.Part), .v (.int .i64 s.Of), .fl (.own 3) 1 (List.map (Value.int .i64) s.Done)]), (_,_),(_,_),(_,_),(_,_),(_,_)]) (by kernel_rfl) rfl rfl ⟨zp rfl (op_move_name _ _ _ rfl),zp rfl (op_nilCheck_name _ _ _ 0 rfl rfl (by decide)),zp rfl (oF underlying31 rfl sz27),zp rfl (oL underlying27 rfl),z1 rfl,zp rfl (oF underlying50 rfl sz3),zp rfl (oL underlying3 rfl),zp rfl (op_ix_fr _ _ _ _ _ _ _ _ underlying27 sz71 (by decide) rfl rfl rfl (ix_ok hv19).1 (gflat_lt T_Item.ilen (ix_ok hv19).2) rfl),zp rfl (op_fieldAddr_e _ _ _ _ _ _ _ underlying71 rfl sz3 rfl rfl rfl),zp rfl (op_store_fr_cell _ _ _ 0 0 _ 1 _ sz3 rfl rfl (zl rfl) rfl rfl (by decide) (gflat_fit (q := 10) (s := 1) T_Item.ilen hv20 (by decide)) ((gflat_setc (q := 10) (s := 1) (y := (T_Item.mk v20.Id ((T_Mail.mk (T_Path.mk v20.Mail.From.Null v20.Mail.From.Local v20.Mail.From.Domain) v20.Mail.To v20.Mail.Body v20.Mail.Quiet v20.Mail.Helo v20.Mail.At)) v20.State p_r.Number)) T_Item.ilen hv20 rfl (by decide)).trans (congrArg (fun l => List.flatten (List.map T_Item.ienc l)) (Option.some.inj hv21))) rfl),zz⟩ ?_
         refine pt_inb ?_
         exact hl178 _ (Option.some.inj h).symm
        ·have h := cond_f hb180 h
         refine ht_skip ?_
         refine pt_inb ?_
         refine pt_pick [0, 1, 2, 3, 4, 5] (by kernel_rfl) (es' := [(_,_),(_,_),(_,_),(_,_),(_,_),(_,_)]) rfl ?_
         exact hl178 _ (Option.some.inj h).symm
      ·have h := cond_f hb174 h
       refine ht_exit ?_
       refine pt_x_then ?_
       refine pt_x_then ?_
       refine pt_x_in ?_
       refine pt_pick [0, 1, 2] (by kernel_rfl) (es' := [(_,_),(_,_),(_,_)]) rfl ?_
       exact hl169 _ (ho171 _ (Option.some.inj h).symm).symm
    ·have h := cond_f hb141 h
     refine zgg hn [_,_,_,_,_,(74,vb (p_r.Kind == 3)),(73,vb (p_r.Kind == 3))] [0,1,2,3,4] [0,1,2,3,6] [zq [3] 5 74,zq [5] 6 73] [(_,_),(_,_),(_,_),(_,_),(_,_)] rfl ⟨z4 rfl rfl,z2 rfl,zz⟩ ?_
     refine ht_cond _ rfl (fun hb181 => ?_) (fun hb181 => ?_)
     ·have h := cond_t hb181 h
      refine ht_seq ?_
      refine zgg hn [_,_,_,_,_,(75,.ptr 0 0),(76,.ptr 0 0),(77,.ptr 0 0),(78,.same (.cell 0 0)),(79,vi (s.Items.length : Int)),(80,vi 0)] [0,1,2,3,4] [0,1,2,8,9,10] [zq [0] 5 75,zq [5,0] 6 76,zq [6,0] 7 77,zq [7,0] 8 78,zq [8,0] 9 79,zq [] 10 80] [(_,_),(_,_),(_,_),(_,_),(_,_),(_,_)] rfl ⟨z1 rfl,zp rfl (op_nilCheck _ _ _ 0 0 rfl (by decide)),zp rfl (oF underlying31 rfl sz27),zp rfl (oL underlying27 rfl),zp rfl (op_len_fr _ _ _ underlying27 rfl (by decide) (gflat_len T_Item.ilen _)),z1 rfl,zz⟩ ?_
      refine ht_loopS h (fun ((s198, s199) : (List T_Item) × Int) => [(0, .box 31 [.fr (.own 71) false 11 (List.flatten (List.map T_Item.ienc s198)), .v (.int .i64 s.Packs), .fl (.own 3) 1 (List.map (Value.int .i64) s.Sent), .fl (.own 5) 1 (List.map (Value.int .u8) s.Part), .v (.int .i64 s.Of), .fl (.own 3) 1 (List.map (Value.int .i64) s.Done)]), (0, .v (List.getD args0 0 undef)), (3, .box 50 [.v (.int .i64 p_r.Kind), .v (.bool p_r.Mail.From.Null), .v (.string p_r.Mail.From.Local), .v (.string p_r.Mail.From.Domain), .fl .shr 3 (List.flatten (List.map T_Path.enc p_r.Mail.To)), .fl .shr 1 (List.map (Value.int .u8) p_r.Mail.Body), .v (.bool p_r.Mail.Quiet), .v (.string p_r.Mail.Helo), .v (.int .i64 p_r.Mail.At), .v (.int .i64 p_r.Id), .fl .shr 1 (List.map (Value.int .i64) p_r.Ids), .v (.int .i64 p_r.Origin), .v (.int .i64 p_r.Number), .v (.int .i64 p_r.Offset), .fl .shr 1 (List.map (Value.int .u8) p_r.Data)]), (78, .same (.cell 0 0)), (79, .v (.int .i64 (s.Items.length : Int))), (80, .v (.int .i64 s199))]) (fun (s207 : (List T_Item)) => [(0, .box 31 [.fr (.own 71) false 11 (List.flatten (List.map T_Item.ienc s207)), .v (.int .i64 s.Packs), .fl (.own 3) 1 (List.map (Value.int .i64) s.Sent), .fl (.own 5) 1 (List.map (Value.int .u8) s.Part), .v (.int .i64 s.Of), .fl (.own 3) 1 (List.map (Value.int .i64) s.Done)]), (0, .v (List.getD args0 0 undef)), (3, .box 50 [.v (.int .i64 p_r.Kind), .v (.bool p_r.Mail.From.Null), .v (.string p_r.Mail.From.Local), .v (.string p_r.Mail.From.Domain), .fl .shr 3 (List.flatten (List.map T_Path.enc p_r.Mail.To)), .fl .shr 1 (List.map (Value.int .u8) p_r.Mail.Body), .v (.bool p_r.Mail.Quiet), .v (.string p_r.Mail.Helo), .v (.int .i64 p_r.Mail.At), .v (.int .i64 p_r.Id), .fl .shr 1 (List.map (Value.int .i64) p_r.Ids), .v (.int .i64 p_r.Origin), .v (.int .i64 p_r.Number), .v (.int .i64 p_r.Offset), .fl .shr 1 (List.map (Value.int .u8) p_r.Data)])]) ?_ ?_
      ·rintro s207 h
       refine pt_then ?_
       obtain ⟨v106, hv106, h⟩ := bind_some h
       refine ht_anyR (by kernel_rfl) hn (El := (_ :: _ :: _ :: (98, .same (.slot 0)) :: (99, .same (.slot 0)) :: (100, .ptr 0 0) :: (101, .ptr 0 2) :: (102, .same (.cell 0 2)) :: (103, .ptr 3 12) :: (104, .v (.int .i64 p_r.Number)) :: (105, .fl (.own 3) 1 (List.map (Value.int .i64) [p_r.Number])) :: (106, .fl (.own 3) 1 (List.map (Value.int .i64) v106)) :: (0, .box 31 [.fr (.own 71) false 11 (List.flatten (List.map T_Item.ienc s207)), .v (.int .i64 s.Packs), .any, .fl (.own 5) 1 (List.map (Value.int .u8) s.Part), .v (.int .i64 s.Of), .fl (.own 3) 1 (List.map (Value.int .i64) s.Done)]) :: (107, .ptr 0 0) :: (108, .ptr 0 2) :: (0, .box 31 [.fr (.own 71) false 11 (List.flatten (List.map T_Item.ienc s207)), .v (.int .i64 s.Packs), .fl (.own 3) 1 (List.map (Value.int .i64) v106), .fl (.own 5) 1 (List.map (Value.int .u8) s.Part), .v (.int .i64 s.Of), .fl (.own 3) 1 (List.map (Value.int .i64) s.Done)]) :: [])) (init := [0, 1, 2]) (fin := [15, 1]) (sps := [zq [] 3 98, zq [] 4 99, zq [4,0] 5 100, zq [5,0] 6 101, zq [6,0] 7 102, zq [2] 8 103, zq [8,2] 9 104, zq [9] 10 105, ⟨[7, 10], [0], [12, 11], [(.slot 106)]⟩, zq [3,12] 13 107, zq [13,12] 14 108, ⟨[14], [7, 11, 12], [15], [.cell 0 2]⟩]) (es' := [(0, .box 31 [.fr (.own 71) false 11 (List.flatten (List.map T_Item.ienc s207)), .v (.int .i64 s.Packs), .fl (.own 3) 1 (List.map (Value.int .i64) v106), .fl (.own 5) 1 (List.map (Value.int .u8) s.Part), .v (.int .i64 s.Of), .fl (.own 3) 1 (List.map (Value.int .i64) s.Done)]), (_,_)]) (by kernel_rfl) rfl rfl ⟨zp rfl (op_move_name _ _ _ rfl),zp rfl (op_move_name _ _ _ rfl),zp rfl (op_nilCheck_name _ _ _ 0 rfl rfl (by decide)),zp rfl (oF underlying31 rfl sz28),zp rfl (oL underlying28 rfl),zp rfl (oF underlying50 rfl sz3),zp rfl (oL underlying3 rfl),zp rfl (op_buildSlice _ _ 1 (.int .i64 0) (List.map (Value.int .i64) [p_r.Number]) [(0, .int .i64 p_r.Number)] underlying28 sz3 zr3 (fun _ V w o a hv hes => by have e0 := rd_v hv hes (x := .tmp 104) rfl; simp only [List.map_toArray, List.map_cons, List.map_nil, e0]; try rfl) (litfill (by simp [Instr.fill, Value.cells]; rfl) (by simp [List.range, List.range.loop] <;> rfl)) (by simp [Value.oneCell']) rfl (by decide) (by decide) (by decide)),zp rfl (op_app_cell _ _ _ _ _ _ el28 rfl rfl (zl rfl) rfl (map_len _) (map_len _) hv106 ((List.map_append).symm.trans (congrArg (List.map _) (app_eq hv106))) (Nat.ne_of_beq_eq_false rfl) rfl rfl),zp rfl (op_nilCheck_name _ _ _ 0 rfl rfl (by decide)),zp rfl (oF underlying31 rfl sz28),zp rfl (LOp.drop [_] (op_store_take _ _ _ _ _ _ _ _ sz28 rfl rfl rfl (zl rfl) rfl rfl)),zz⟩ ?_
       refine pt_inb ?_
       exact hl132 _ (Option.some.inj h).symm
      ·rintro u208 hl209 hr210 ⟨s198, s199⟩ rr213 h ho211
       refine zgg hn [_,_,_,_,_,_,(81,vb (decide (s199 < (s.Items.length : Int))))] [0,1,2,3,4,5] [0,1,2,3,4,5,6] [zq [5,4] 6 81] [(_,_),(_,_),(_,_),(_,_),(_,_),(_,_),(_,_)] rfl ⟨z4 rfl rfl,zz⟩ ?_
       refine ht_seq ?_
       refine ht_cond _ rfl (fun hb214 => ?_) (fun hb214 => ?_)
       ·have h := cond_t hb214 h
        refine ht_skip ?_
        refine pt_then (ht_seq ?_)
        refine ht_joinS h (fun (s216 : (List T_Item)) => [(0, .box 31 [.fr (.own 71) false 11 (List.flatten (List.map T_Item.ienc s216)), .v (.int .i64 s.Packs), .fl (.own 3) 1 (List.map (Value.int .i64) s.Sent), .fl (.own 5) 1 (List.map (Value.int .u8) s.Part), .v (.int .i64 s.Of), .fl (.own 3) 1 (List.map (Value.int .i64) s.Done)]), (0, .v (List.getD args0 0 undef)), (3, .box 50 [.v (.int .i64 p_r.Kind), .v (.bool p_r.Mail.From.Null), .v (.string p_r.Mail.From.Local), .v (.string p_r.Mail.From.Domain), .fl .shr 3 (List.flatten (List.map T_Path.enc p_r.Mail.To)), .fl .shr 1 (List.map (Value.int .u8) p_r.Mail.Body), .v (.bool p_r.Mail.Quiet), .v (.string p_r.Mail.Helo), .v (.int .i64 p_r.Mail.At), .v (.int .i64 p_r.Id), .fl .shr 1 (List.map (Value.int .i64) p_r.Ids), .v (.int .i64 p_r.Origin), .v (.int .i64 p_r.Number), .v (.int .i64 p_r.Offset), .fl .shr 1 (List.map (Value.int .u8) p_r.Data)]), (78, .same (.cell 0 0)), (79, .v (.int .i64 (s.Items.length : Int))), (80, .v (.int .i64 s199))]) ?_ ?_
        ·rintro s216 h
         refine pt_then ?_
         obtain ⟨v73, hv73, h⟩ := bind_some h
         refine zg hn [_,_,_,_,_,_,(97,vi v73),(80,vi v73)] [0,1,2,3,4,5] [0,1,2,3,4,7] [zq [5] 6 97,⟨[6],[5],[7],[(.slot 80)]⟩] [(_,_),(_,_),(_,_),(_,_),(_,_),(_,_)] rfl ⟨zp rfl (oB rfl (ibind (f := Value.int .i64) (Option.some.inj hv73))),zp rfl (LOp.drop [_] (oM rfl)),zz⟩ ?_
         exact pt_next _ (Option.some.inj h).symm rfl
        ·intro u217 h hl218 hr219
         refine ht_block ?_
         refine ht_seq ?_
         obtain ⟨v62, hv62, h⟩ := bind_some h
         obtain ⟨v63, hv63, h⟩ := bind_some h
         refine zg hn [_,_,_,_,_,_,_,(82,vi s199),(83,.eref (.cell 0 0) (v62 * 11)),(84,.agg [vi v63.Id,vb v63.Mail.From.Null,vs v63.Mail.From.Local,vs v63.Mail.From.Domain,.fl .ro 3 (List.flatten (List.map T_Path.enc v63.Mail.To)),.fl .ro 1 (List.map (Value.int .u8) v63.Mail.Body),vb v63.Mail.Quiet,vs v63.Mail.Helo,vi v63.Mail.At,vi v63.State,vi v63.Pack]),(8,.box 71 [vi 0,vb false,vs z0,vs z0,.v (.slice none 0 0),.v (.slice none 0 0),vb false,vs z0,vi 0,vi 0,vi 0]),(7,vi s199),(8,.box 71 [vi v63.Id,vb v63.Mail.From.Null,vs v63.Mail.From.Local,vs v63.Mail.From.Domain,.fl .ro 3 (List.flatten (List.map T_Path.enc v63.Mail.To)),.fl .ro 1 (List.map (Value.int .u8) v63.Mail.Body),vb v63.Mail.Quiet,vs v63.Mail.Helo,vi v63.Mail.At,vi v63.State,vi v63.Pack])] [0,1,2,3,4,5,6] [0,1,2,3,4,5,12,11] [zq [5] 7 82,zq [3,0,5] 8 83,zq [8,0] 9 84,zq [] 10 8,zq [7] 11 7,⟨[9],[10],[12],[.cell 8 0,.cell 8 1,.cell 8 2,.cell 8 3,.cell 8 4,.cell 8 5,.cell 8 6,.cell 8 7,.cell 8 8,.cell 8 9,.cell 8 10]⟩] [(_,_),(_,_),(_,_),(_,_),(_,_),(_,_),(_,_),(_,_)] rfl ⟨z1 rfl,zp rfl (op_ix_fr _ _ _ _ _ _ _ _ underlying27 sz71 (by decide) rfl rfl rfl (ix_ok hv62).1 (gflat_lt T_Item.ilen (ix_ok hv62).2) rfl),zp rfl (op_loadA_fr _ _ _ _ _ _ _ _ underlying71 rfl sz71 rfl rfl (gflat_get T_Item.ilen hv63) (.cons (.v _) (.cons (.v _) (.cons (.v _) (.cons (.v _) (.cons (.fl _ _ rfl) (.cons (.fl _ _ rfl) (.cons (.v _) (.cons (.v _) (.cons (.v _) (.cons (.v _) (.cons (.v _) (.nil)))))))))))) rfl (by decide)),zp rfl (op_alloc _ _ zr71),z2 rfl,zp rfl (oS sz71 rfl),zz⟩ ?_
         refine pt_then ?_
         refine zgg hn [_,_,_,_,_,_,_,_,(85,.ptr 8 10),(86,vi v63.Pack),(87,.ptr 3 12),(88,vi p_r.Number),(89,vb (v63.Pack == p_r.Number))] [0,1,2,3,4,5,6,7] [0,1,2,3,4,5,7,12] [zq [6] 8 85,zq [8,6] 9 86,zq [2] 10 87,zq [10,2] 11 88,zq [9,11] 12 89] [(_,_),(_,_),(_,_),(_,_),(_,_),(_,_),(_,_),(_,_)] rfl ⟨zp rfl (oF underlying71 rfl sz3),zp rfl (oL underlying3 rfl),zp rfl (oF underlying50 rfl sz3),zp rfl (oL underlying3 rfl),z4 rfl rfl,zz⟩ ?_
         refine ht_cond _ rfl (fun hb220 => ?_) (fun hb220 => ?_)
         ·have h := cond_t hb220 h
          obtain ⟨v65, hv65, h⟩ := bind_some h
          obtain ⟨v66, hv66, h⟩ := bind_some h
          obtain ⟨v67, hv67, h⟩ := bind_some h
          refine zg hn (_::_::_::_::_::_::_::_::(90,.ptr 0 0)::(91,.ptr 0 0)::(92,.ptr 0 0)::(93,.same (.cell 0 0))::(94,vi s199)::(95,.eref (.cell 0 0) (v65 * 11))::(96,.eref (.cell 0 0) (v65 * 11 + 9))::(0,.box 31 [.fr (.own 71) false 11 (List.flatten (List.map T_Item.ienc v67)),vi s.Packs,.fl (.own 3) 1 (List.map (Value.int .i64) s.Sent),.fl (.own 5) 1 (List.map (Value.int .u8) s.Part),vi s.Of,.fl (.own 3) 1 (List.map (Value.int .i64) s.Done)])::[]) [0,1,2,3,4,5,6,7] [15,1,2,3,4,5] [zq [0] 8 90,zq [8,0] 9 91,zq [9,0] 10 92,zq [10,0] 11 93,zq [6] 12 94,zq [11,0,12] 13 95,zq [13,0] 14 96,⟨[14],[0],[15],[]⟩] [(_,_),(_,_),(_,_),(_,_),(_,_),(_,_)] rfl ⟨z1 rfl,zp rfl (op_nilCheck _ _ _ 0 0 rfl (by decide)),zp rfl (oF underlying31 rfl sz27),zp rfl (oL underlying27 rfl),z1 rfl,zp rfl (op_ix_fr _ _ _ _ _ _ _ _ underlying27 sz71 (by decide) rfl rfl rfl (ix_ok hv65).1 (gflat_lt T_Item.ilen (ix_ok hv65).2) rfl),zp rfl (op_fieldAddr_e _ _ _ _ _ _ _ underlying71 rfl sz3 rfl rfl rfl),zp rfl (op_store_fr_cell _ _ _ 0 0 _ 1 _ sz3 rfl rfl (zl rfl) rfl rfl (by decide) (gflat_fit (q := 9) (s := 1) T_Item.ilen hv66 (by decide)) ((gflat_setc (q := 9) (s := 1) (y := (T_Item.mk v66.Id ((T_Mail.mk (T_Path.mk v66.Mail.From.Null v66.Mail.From.Local v66.Mail.From.Domain) v66.Mail.To v66.Mail.Body v66.Mail.Quiet v66.Mail.Helo v66.Mail.At)) 3 v66.Pack)) T_Item.ilen hv66 rfl (by decide)).trans (congrArg (fun l => List.flatten (List.map T_Item.ienc l)) (Option.some.inj hv67))) rfl),zz⟩ ?_
          refine pt_inb ?_
          exact hl218 _ (Option.some.inj h).symm
         ·have h := cond_f hb220 h
          refine ht_skip ?_
          refine pt_inb ?_
          refine pt_pick [0, 1, 2, 3, 4, 5] (by kernel_rfl) (es' := [(_,_),(_,_),(_,_),(_,_),(_,_),(_,_)]) rfl ?_
          exact hl218 _ (Option.some.inj h).symm
       ·have h := cond_f hb214 h
        refine ht_exit ?_
        refine pt_x_then ?_
        refine pt_x_then ?_
        refine pt_x_in ?_
        refine pt_pick [0, 1, 2] (by kernel_rfl) (es' := [(_,_),(_,_),(_,_)]) rfl ?_
        exact hl209 _ (ho211 _ (Option.some.inj h).symm).symm
     ·have h := cond_f hb181 h
      refine zgg hn [_,_,_,_,_,(110,vb (p_r.Kind == 4)),(109,vb (p_r.Kind == 4))] [0,1,2,3,4] [0,1,2,3,6] [zq [3] 5 110,zq [5] 6 109] [(_,_),(_,_),(_,_),(_,_),(_,_)] rfl ⟨z4 rfl rfl,z2 rfl,zz⟩ ?_
      refine ht_cond _ rfl (fun hb221 => ?_) (fun hb221 => ?_)
      ·have h := cond_t hb221 h
       obtain ⟨v108, hv108, h⟩ := bind_some h
       obtain ⟨v109, hv109, h⟩ := bind_some h
       obtain ⟨v110, hv110, h⟩ := bind_some h
       obtain ⟨v111, hv111, h⟩ := bind_some h
       refine ht_anyR (by kernel_rfl) hn (El := (_ :: _ :: _ :: _ :: _ :: (111, .same (.slot 0)) :: (112, .ptr 0 0) :: (113, .ptr 0 0) :: (114, .same (.cell 0 0)) :: (115, .same (.slot 0)) :: (116, .ptr 0 0) :: (117, .agg [.same (.cell 0 0), .v (.int .i64 s.Packs), .same (.cell 0 2), .same (.cell 0 3), .v (.int .i64 s.Of), .same (.cell 0 5)]) :: (118, .ptr 3 9) :: (119, .v (.int .i64 p_r.Id)) :: (120, .v (.int .i64 v108)) :: (121, .eref (.cell 0 0) (v109 * 11)) :: (122, .eref (.cell 0 0) (v109 * 11 + 9)) :: (0, .box 31 [.fr (.own 71) false 11 (List.flatten (List.map T_Item.ienc v111)), .v (.int .i64 s.Packs), .fl (.own 3) 1 (List.map (Value.int .i64) s.Sent), .fl (.own 5) 1 (List.map (Value.int .u8) s.Part), .v (.int .i64 s.Of), .fl (.own 3) 1 (List.map (Value.int .i64) s.Done)]) :: [])) (init := [0, 1, 2, 3, 4]) (fin := [17, 1]) (sps := [zq [] 5 111, zq [5,0] 6 112, zq [6,0] 7 113, zq [7,0] 8 114, zq [] 9 115, zq [9,0] 10 116, zq [10,0] 11 117, zq [2] 12 118, zq [12,2] 13 119, zq [11,0,13] 14 120, zq [8,0,14] 15 121, zq [15,0] 16 122, ⟨[16], [0], [17], []⟩]) (es' := [(0, .box 31 [.fr (.own 71) false 11 (List.flatten (List.map T_Item.ienc v111)), .v (.int .i64 s.Packs), .fl (.own 3) 1 (List.map (Value.int .i64) s.Sent), .fl (.own 5) 1 (List.map (Value.int .u8) s.Part), .v (.int .i64 s.Of), .fl (.own 3) 1 (List.map (Value.int .i64) s.Done)]), (_,_)]) (by kernel_rfl) rfl rfl ⟨zp rfl (op_move_name _ _ _ rfl),zp rfl (op_nilCheck_name _ _ _ 0 rfl rfl (by decide)),zp rfl (oF underlying31 rfl sz27),zp rfl (oL underlying27 rfl),zp rfl (op_move_name _ _ _ rfl),zp rfl (op_nilCheck_name _ _ _ 0 rfl rfl (by decide)),zp rfl (op_loadA _ _ _ _ _ _ _ underlying31 rfl sz31 rfl rfl (zl rfl) rfl rfl),zp rfl (oF underlying50 rfl sz3),zp rfl (oL underlying3 rfl),zp rfl (op_call _ _ 26 _ _ rfl call26 rfl (ok_spool_find s p_r.Id _ hv108) rfl rfl),zp rfl (op_ix_fr _ _ _ _ _ _ _ _ underlying27 sz71 (by decide) rfl rfl rfl (ix_ok hv109).1 (gflat_lt T_Item.ilen (ix_ok hv109).2) rfl),zp rfl (op_fieldAddr_e _ _ _ _ _ _ _ underlying71 rfl sz3 rfl rfl rfl),zp rfl (op_store_fr_cell _ _ _ 0 0 _ 1 _ sz3 rfl rfl (zl rfl) rfl rfl (by decide) (gflat_fit (q := 9) (s := 1) T_Item.ilen hv110 (by decide)) ((gflat_setc (q := 9) (s := 1) (y := (T_Item.mk v110.Id ((T_Mail.mk (T_Path.mk v110.Mail.From.Null v110.Mail.From.Local v110.Mail.From.Domain) v110.Mail.To v110.Mail.Body v110.Mail.Quiet v110.Mail.Helo v110.Mail.At)) 4 v110.Pack)) T_Item.ilen hv110 rfl (by decide)).trans (congrArg (fun l => List.flatten (List.map T_Item.ienc l)) (Option.some.inj hv111))) rfl),zz⟩ ?_
       refine pt_inb ?_
       exact hl132 _ (Option.some.inj h).symm
      ·have h := cond_f hb221 h
       refine zgg hn [_,_,_,_,_,(124,vb (p_r.Kind == 5)),(123,vb (p_r.Kind == 5))] [0,1,2,3,4] [0,1,2,3,6] [zq [3] 5 124,zq [5] 6 123] [(_,_),(_,_),(_,_),(_,_),(_,_)] rfl ⟨z4 rfl rfl,z2 rfl,zz⟩ ?_
       refine ht_cond _ rfl (fun hb222 => ?_) (fun hb222 => ?_)
       ·have h := cond_t hb222 h
        refine ht_seq ?_
        refine ht_joinS h (fun ((s224, s225) : (List Int) × Int) => [(0, .box 31 [.fr (.own 71) false 11 (List.flatten (List.map T_Item.ienc s.Items)), .v (.int .i64 s.Packs), .fl (.own 3) 1 (List.map (Value.int .i64) s.Sent), .fl (.own 5) 1 (List.map (Value.int .u8) s224), .v (.int .i64 s225), .fl (.own 3) 1 (List.map (Value.int .i64) s.Done)]), (0, .v (List.getD args0 0 undef)), (3, .box 50 [.v (.int .i64 p_r.Kind), .v (.bool p_r.Mail.From.Null), .v (.string p_r.Mail.From.Local), .v (.string p_r.Mail.From.Domain), .fl .shr 3 (List.flatten (List.map T_Path.enc p_r.Mail.To)), .fl .shr 1 (List.map (Value.int .u8) p_r.Mail.Body), .v (.bool p_r.Mail.Quiet), .v (.string p_r.Mail.Helo), .v (.int .i64 p_r.Mail.At), .v (.int .i64 p_r.Id), .fl .shr 1 (List.map (Value.int .i64) p_r.Ids), .v (.int .i64 p_r.Origin), .v (.int .i64 p_r.Number), .v (.int .i64 p_r.Offset), .fl .shr 1 (List.map (Value.int .u8) p_r.Data)])]) ?_ ?_
        ·rintro ⟨s224, s225⟩ h
         refine pt_then ?_
         obtain ⟨v120, hv120, h⟩ := bind_some h
         refine ht_anyR (by kernel_rfl) hn (El := (_ :: _ :: _ :: (136, .same (.slot 0)) :: (137, .same (.slot 0)) :: (138, .ptr 0 0) :: (139, .ptr 0 3) :: (140, .same (.cell 0 3)) :: (141, .ptr 3 14) :: (142, .fl .shr 1 (List.map (Value.int .u8) p_r.Data)) :: (143, .fl (.own 5) 1 (List.map (Value.int .u8) v120)) :: (0, .box 31 [.fr (.own 71) false 11 (List.flatten (List.map T_Item.ienc s.Items)), .v (.int .i64 s.Packs), .fl (.own 3) 1 (List.map (Value.int .i64) s.Sent), .any, .v (.int .i64 s225), .fl (.own 3) 1 (List.map (Value.int .i64) s.Done)]) :: (144, .ptr 0 0) :: (145, .ptr 0 3) :: (0, .box 31 [.fr (.own 71) false 11 (List.flatten (List.map T_Item.ienc s.Items)), .v (.int .i64 s.Packs), .fl (.own 3) 1 (List.map (Value.int .i64) s.Sent), .fl (.own 5) 1 (List.map (Value.int .u8) v120), .v (.int .i64 s225), .fl (.own 3) 1 (List.map (Value.int .i64) s.Done)]) :: [])) (init := [0, 1, 2]) (fin := [14, 1]) (sps := [zq [] 3 136, zq [] 4 137, zq [4,0] 5 138, zq [5,0] 6 139, zq [6,0] 7 140, zq [2] 8 141, zq [8,2] 9 142, ⟨[7, 9], [0], [11, 10], [(.slot 143)]⟩, zq [3,11] 12 144, zq [12,11] 13 145, ⟨[13], [7, 10, 11], [14], [.cell 0 3]⟩]) (es' := [(0, .box 31 [.fr (.own 71) false 11 (List.flatten (List.map T_Item.ienc s.Items)), .v (.int .i64 s.Packs), .fl (.own 3) 1 (List.map (Value.int .i64) s.Sent), .fl (.own 5) 1 (List.map (Value.int .u8) v120), .v (.int .i64 s225), .fl (.own 3) 1 (List.map (Value.int .i64) s.Done)]), (_,_)]) (by kernel_rfl) rfl rfl ⟨zp rfl (op_move_name _ _ _ rfl),zp rfl (op_move_name _ _ _ rfl),zp rfl (op_nilCheck_name _ _ _ 0 rfl rfl (by decide)),zp rfl (oF underlying31 rfl sz29),zp rfl (oL underlying29 rfl),zp rfl (oF underlying50 rfl sz29),zp rfl (oL underlying29 rfl),zp rfl (op_app_cell _ _ _ _ _ _ el29 rfl rfl (zl rfl) rfl (map_len _) (map_len _) hv120 ((List.map_append).symm.trans (congrArg (List.map _) (app_eq hv120))) (Nat.ne_of_beq_eq_false rfl) rfl rfl),zp rfl (op_nilCheck_name _ _ _ 0 rfl rfl (by decide)),zp rfl (oF underlying31 rfl sz29),zp rfl (LOp.drop [_] (op_store_take _ _ _ _ _ _ _ _ sz29 rfl rfl rfl (zl rfl) rfl rfl)),zz⟩ ?_
         refine pt_inb ?_
         exact hl132 _ (Option.some.inj h).symm
        ·intro u226 h hl227 hr228
         refine zgg hn [_,_,_,_,_,(125,.ptr 3 13),(126,vi p_r.Offset),(127,vb (p_r.Offset == 0))] [0,1,2,3,4] [0,1,2,7] [zq [2] 5 125,zq [5,2] 6 126,zq [6] 7 127] [(_,_),(_,_),(_,_),(_,_)] rfl ⟨zp rfl (oF underlying50 rfl sz3),zp rfl (oL underlying3 rfl),z4 rfl rfl,zz⟩ ?_
         refine ht_cond _ rfl (fun hb229 => ?_) (fun hb229 => ?_)
         ·have h := cond_t hb229 h
          refine zg hn [_,_,_,_,(128,.ptr 0 0),(129,.ptr 0 0),(130,.ptr 3 12),(131,vi p_r.Number),(132,.ptr 0 0),(133,.ptr 0 4),(0,.box 31 [.fr (.own 71) false 11 (List.flatten (List.map T_Item.ienc s.Items)),vi s.Packs,.fl (.own 3) 1 (List.map (Value.int .i64) s.Sent),.fl (.own 5) 1 (List.map (Value.int .u8) s.Part),vi p_r.Number,.fl (.own 3) 1 (List.map (Value.int .i64) s.Done)]),(134,.ptr 0 0),(135,.ptr 0 3),(0,.box 31 [.fr (.own 71) false 11 (List.flatten (List.map T_Item.ienc s.Items)),vi s.Packs,.fl (.own 3) 1 (List.map (Value.int .i64) s.Sent),.v (.slice none 0 0),vi p_r.Number,.fl (.own 3) 1 (List.map (Value.int .i64) s.Done)])] [0,1,2,3] [13,1,2] [zq [0] 4 128,zq [0] 5 129,zq [2] 6 130,zq [6,2] 7 131,zq [4,0] 8 132,zq [8,0] 9 133,⟨[9,7],[0],[10],[.cell 0 4]⟩,zq [5,10] 11 134,zq [11,10] 12 135,⟨[12],[10],[13],[.cell 0 3]⟩] [(_,_),(_,_),(_,_)] rfl ⟨z1 rfl,z1 rfl,zp rfl (oF underlying50 rfl sz3),zp rfl (oL underlying3 rfl),zp rfl (op_nilCheck _ _ _ 0 0 rfl (by decide)),zp rfl (oF underlying31 rfl sz3),zp rfl (oS sz3 rfl),zp rfl (op_nilCheck _ _ _ 0 0 rfl (by decide)),zp rfl (oF underlying31 rfl sz29),zp rfl (oS sz29 rfl),zz⟩ ?_
          refine pt_sub (fs := [(0, .box 31 [.fr (.own 71) false 11 (List.flatten (List.map T_Item.ienc s.Items)), .v (.int .i64 s.Packs), .fl (.own 3) 1 (List.map (Value.int .i64) s.Sent), .fl (.own 5) 1 (List.map (Value.int .u8) []), .v (.int .i64 p_r.Number), .fl (.own 3) 1 (List.map (Value.int .i64) s.Done)]), (0, .v (List.getD args0 0 undef)), (3, .box 50 [.v (.int .i64 p_r.Kind), .v (.bool p_r.Mail.From.Null), .v (.string p_r.Mail.From.Local), .v (.string p_r.Mail.From.Domain), .fl .shr 3 (List.flatten (List.map T_Path.enc p_r.Mail.To)), .fl .shr 1 (List.map (Value.int .u8) p_r.Mail.Body), .v (.bool p_r.Mail.Quiet), .v (.string p_r.Mail.Helo), .v (.int .i64 p_r.Mail.At), .v (.int .i64 p_r.Id), .fl .shr 1 (List.map (Value.int .i64) p_r.Ids), .v (.int .i64 p_r.Origin), .v (.int .i64 p_r.Number), .v (.int .i64 p_r.Offset), .fl .shr 1 (List.map (Value.int .u8) p_r.Data)])]) (.box _ _ (subs_cons (sub_refl _) (subs_cons (sub_refl _) (subs_cons (sub_refl _) (subs_cons (sub_nil 5 1) (subs_cons (sub_refl _) (subs_cons (sub_refl _) (subs_nil))))))) rfl (.same _ (.same _ .nil))) ?_
          exact hl227 _ (Option.some.inj h).symm
         ·have h := cond_f hb229 h
          refine ht_skip ?_
          refine pt_pick [0, 1, 2] (by kernel_rfl) (es' := [(_,_),(_,_),(_,_)]) rfl ?_
          exact hl227 _ (Option.some.inj h).symm
       ·have h := cond_f hb222 h
        refine zgg hn [_,_,_,_,_,(147,vb (p_r.Kind == 6)),(146,vb (p_r.Kind == 6))] [0,1,2,3,4] [0,1,2,6] [zq [3] 5 147,zq [5] 6 146] [(_,_),(_,_),(_,_),(_,_)] rfl ⟨z4 rfl rfl,z2 rfl,zz⟩ ?_
        refine ht_cond _ rfl (fun hb230 => ?_) (fun hb230 => ?_)
        ·have h := cond_t hb230 h
         refine ht_seq ?_
         obtain ⟨v122, hv122, h⟩ := bind_some h
         refine ht_anyR (by kernel_rfl) hn (El := (_ :: _ :: _ :: _ :: (149, .same (.slot 0)) :: (150, .ptr 0 0) :: (151, .ptr 0 5) :: (152, .same (.cell 0 5)) :: (153, .ptr 3 12) :: (154, .v (.int .i64 p_r.Number)) :: (155, .tup [.v (.int .i64 v122.1), .v (.bool v122.2)]) :: (148, .tup [.v (.int .i64 v122.1), .v (.bool v122.2)]) :: (156, .v (.int .i64 v122.1)) :: (157, .v (.bool v122.2)) :: (9, .v (.int .i64 v122.1)) :: (10, .v (.bool v122.2)) :: [])) (init := [0, 1, 2, 3]) (fin := [0, 1, 2, 14]) (sps := [zq [] 4 149, zq [4,0] 5 150, zq [5,0] 6 151, zq [6,0] 7 152, zq [2] 8 153, zq [8,2] 9 154, zq [7,0,9] 10 155, ⟨[], [10], [11], [(.slot 148)]⟩, zq [11] 12 156, zq [11] 13 157, zq [12] 14 9, zq [13] 15 10]) (es' := [(_,_),(_,_),(_,_),(9, .v (.int .i64 v122.1))]) (by kernel_rfl) rfl rfl ⟨zp rfl (op_move_name _ _ _ rfl),zp rfl (op_nilCheck_name _ _ _ 0 rfl rfl (by decide)),zp rfl (oF underlying31 rfl sz28),zp rfl (oL underlying28 rfl),zp rfl (oF underlying50 rfl sz3),zp rfl (oL underlying3 rfl),zp rfl (op_call _ _ 27 _ _ rfl call27 rfl (ok_slices_BinarySearch_int_int s.Done p_r.Number _ hv122) rfl rfl),zp rfl (op_move_take _ _ _ _ rfl),zp rfl (oE rfl),zp rfl (oE rfl),z2 rfl,z2 rfl,zz⟩ ?_
         refine pt_then (ht_seq ?_)
         obtain ⟨v123, hv123, h⟩ := bind_some h
         refine ht_anyR (by kernel_rfl) hn (El := (_ :: _ :: _ :: _ :: (158, .same (.slot 0)) :: (159, .same (.slot 0)) :: (160, .ptr 0 0) :: (161, .ptr 0 5) :: (162, .same (.cell 0 5)) :: (163, .v (.int .i64 v122.1)) :: (164, .ptr 3 12) :: (165, .v (.int .i64 p_r.Number)) :: (166, .fl (.own 3) 1 (List.map (Value.int .i64) [p_r.Number])) :: (167, .fl (.own 3) 1 (List.map (Value.int .i64) v123)) :: (0, .box 31 [.fr (.own 71) false 11 (List.flatten (List.map T_Item.ienc s.Items)), .v (.int .i64 s.Packs), .fl (.own 3) 1 (List.map (Value.int .i64) s.Sent), .fl (.own 5) 1 (List.map (Value.int .u8) s.Part), .v (.int .i64 s.Of), .any]) :: (168, .ptr 0 0) :: (169, .ptr 0 5) :: (0, .box 31 [.fr (.own 71) false 11 (List.flatten (List.map T_Item.ienc s.Items)), .v (.int .i64 s.Packs), .fl (.own 3) 1 (List.map (Value.int .i64) s.Sent), .fl (.own 5) 1 (List.map (Value.int .u8) s.Part), .v (.int .i64 s.Of), .fl (.own 3) 1 (List.map (Value.int .i64) v123)]) :: [])) (init := [0, 1, 2, 3]) (fin := [17, 1, 2]) (sps := [zq [] 4 158, zq [] 5 159, zq [5,0] 6 160, zq [6,0] 7 161, zq [7,0] 8 162, zq [3] 9 163, zq [2] 10 164, zq [10,2] 11 165, zq [11] 12 166, ⟨[8, 9, 12], [0], [14, 13], [(.slot 167)]⟩, zq [4,14] 15 168, zq [15,14] 16 169, ⟨[16], [8, 13, 14], [17], [.cell 0 5]⟩]) (es' := [(0, .box 31 [.fr (.own 71) false 11 (List.flatten (List.map T_Item.ienc s.Items)), .v (.int .i64 s.Packs), .fl (.own 3) 1 (List.map (Value.int .i64) s.Sent), .fl (.own 5) 1 (List.map (Value.int .u8) s.Part), .v (.int .i64 s.Of), .fl (.own 3) 1 (List.map (Value.int .i64) v123)]), (_,_),(_,_)]) (by kernel_rfl) rfl rfl ⟨zp rfl (op_move_name _ _ _ rfl),zp rfl (op_move_name _ _ _ rfl),zp rfl (op_nilCheck_name _ _ _ 0 rfl rfl (by decide)),zp rfl (oF underlying31 rfl sz28),zp rfl (oL underlying28 rfl),z1 rfl,zp rfl (oF underlying50 rfl sz3),zp rfl (oL underlying3 rfl),zp rfl (op_buildSlice _ _ 1 (.int .i64 0) (List.map (Value.int .i64) [p_r.Number]) [(0, .int .i64 p_r.Number)] underlying28 sz3 zr3 (fun _ V w o a hv hes => by have e0 := rd_v hv hes (x := .tmp 165) rfl; simp only [List.map_toArray, List.map_cons, List.map_nil, e0]; try rfl) (litfill (by simp [Instr.fill, Value.cells]; rfl) (by simp [List.range, List.range.loop] <;> rfl)) (by simp [Value.oneCell']) rfl (by decide) (by decide) (by decide)),zp rfl (op_ins_cell _ 167 0 5 166 _ rfl call28 ins28 rfl rfl (zl rfl) rfl rfl rfl rfl hv123 rfl (by decide) rfl rfl),zp rfl (op_nilCheck_name _ _ _ 0 rfl rfl (by decide)),zp rfl (oF underlying31 rfl sz28),zp rfl (LOp.drop [_] (op_store_take _ _ _ _ _ _ _ _ sz28 rfl rfl rfl (zl rfl) rfl rfl)),zz⟩ ?_
         refine pt_then (ht_seq ?_)
         refine ht_anyR (by kernel_rfl) hn (El := [_, _, _, (170, .same (.slot 0)), (171, .ptr 0 0), (172, .ptr 0 4), (173, .v (.int .i64 s.Of)), (174, .ptr 3 12), (175, .v (.int .i64 p_r.Number)), (176, .v (.bool (s.Of == p_r.Number)))]) (init := [0, 1, 2]) (fin := [0, 1, 9]) (sps := [zq [] 3 170, zq [3,0] 4 171, zq [4,0] 5 172, zq [5,0] 6 173, zq [2] 7 174, zq [7,2] 8 175, zq [6,8] 9 176]) (es' := [(_,_),(_,_),(176, .v (.bool (s.Of == p_r.Number)))]) (by kernel_rfl) rfl rfl ⟨zp rfl (op_move_name _ _ _ rfl),zp rfl (op_nilCheck_name _ _ _ 0 rfl rfl (by decide)),zp rfl (oF underlying31 rfl sz3),zp rfl (oL underlying3 rfl),zp rfl (oF underlying50 rfl sz3),zp rfl (oL underlying3 rfl),z4 rfl rfl,zz⟩ ?_
         refine pt_then ?_
         refine ht_cond _ rfl (fun hb231 => ?_) (fun hb231 => ?_)
         ·have h := cond_t hb231 h
          refine zg hn [_,_,_,(177,.ptr 0 0),(178,.ptr 0 0),(179,.ptr 0 0),(180,.ptr 0 4),(0,.box 31 [.fr (.own 71) false 11 (List.flatten (List.map T_Item.ienc s.Items)),vi s.Packs,.fl (.own 3) 1 (List.map (Value.int .i64) s.Sent),.fl (.own 5) 1 (List.map (Value.int .u8) s.Part),vi (-1),.fl (.own 3) 1 (List.map (Value.int .i64) v123)]),(181,.ptr 0 0),(182,.ptr 0 3),(0,.box 31 [.fr (.own 71) false 11 (List.flatten (List.map T_Item.ienc s.Items)),vi s.Packs,.fl (.own 3) 1 (List.map (Value.int .i64) s.Sent),.v (.slice none 0 0),vi (-1),.fl (.own 3) 1 (List.map (Value.int .i64) v123)])] [0,1,2] [10,1] [zq [0] 3 177,zq [0] 4 178,zq [3,0] 5 179,zq [5,0] 6 180,⟨[6],[0],[7],[.cell 0 4]⟩,zq [4,7] 8 181,zq [8,7] 9 182,⟨[9],[7],[10],[.cell 0 3]⟩] [(_,_),(_,_)] rfl ⟨z1 rfl,z1 rfl,zp rfl (op_nilCheck _ _ _ 0 0 rfl (by decide)),zp rfl (oF underlying31 rfl sz3),zp rfl (oS sz3 rfl),zp rfl (op_nilCheck _ _ _ 0 0 rfl (by decide)),zp rfl (oF underlying31 rfl sz29),zp rfl (oS sz29 rfl),zz⟩ ?_
          refine pt_inb ?_
          refine pt_sub (fs := [(0, .box 31 [.fr (.own 71) false 11 (List.flatten (List.map T_Item.ienc s.Items)), .v (.int .i64 s.Packs), .fl (.own 3) 1 (List.map (Value.int .i64) s.Sent), .fl (.own 5) 1 (List.map (Value.int .u8) []), .v (.int .i64 (-1)), .fl (.own 3) 1 (List.map (Value.int .i64) v123)]), (0, .v (List.getD args0 0 undef))]) (.box _ _ (subs_cons (sub_refl _) (subs_cons (sub_refl _) (subs_cons (sub_refl _) (subs_cons (sub_nil 5 1) (subs_cons (sub_refl _) (subs_cons (sub_refl _) (subs_nil))))))) rfl (.same _ .nil)) ?_
          exact hl132 _ (Option.some.inj h).symm
         ·have h := cond_f hb231 h
          refine ht_skip ?_
          refine pt_inb ?_
          refine pt_pick [0, 1] (by kernel_rfl) (es' := [(_,_),(_,_)]) rfl ?_
          exact hl132 _ (Option.some.inj h).symm
        ·have h := cond_f hb230 h
         refine ht_skip ?_
         refine pt_inb ?_
         refine pt_pick [0, 1] (by kernel_rfl) (es' := [(_,_),(_,_)]) rfl ?_
         exact hl132 _ (Option.some.inj h).symm
theorem ok_spool_Fold (mx : Int) (l : (List T_Rec)) (r : (T_Spool × Int)) (h : Sh.spool_Fold l = some r) : FnG Tryd.prog (GL mx) 5 [.fr .shr true 15 (List.flatten (List.map T_Rec.ienc l))] (.tup [.agg [.fr (.own 71) false 11 (List.flatten (List.map T_Item.ienc r.1.Items)), .v (.int .i64 r.1.Packs), .fl (.own 3) 1 (List.map (Value.int .i64) r.1.Sent), .fl (.own 5) 1 (List.map (Value.int .u8) r.1.Part), .v (.int .i64 r.1.Of), .fl (.own 3) 1 (List.map (Value.int .i64) r.1.Done)], .v (.int .i64 r.2)]) := by
  unfold Sh.spool_Fold at h
  refine fn_okG func5 rfl (zl rfl) rfl rfl fun g0 hn hio => ?_
  refine zgg hn [_,_,(2,.box 31 [.v (.slice none 0 0),vi 0,.v (.slice none 0 0),.v (.slice none 0 0),vi 0,.v (.slice none 0 0)]),(3,vi 0)] [0,1] [0,1,2] [zq [] 2 2,zq [] 3 3] [(_,_),(_,_),(_,_)] rfl ⟨zp rfl (op_alloc _ _ zr31),z2 rfl,zz⟩ ?_
  refine ht_seq ?_
  obtain ⟨v1, hv1, h⟩ := bind_some h
  refine zg hn [_,_,_,(7,.agg [.fr (.own 71) false 11 (List.flatten (List.map T_Item.ienc v1.Items)),vi v1.Packs,.fl (.own 3) 1 (List.map (Value.int .i64) v1.Sent),.fl (.own 5) 1 (List.map (Value.int .u8) v1.Part),vi v1.Of,.fl (.own 3) 1 (List.map (Value.int .i64) v1.Done)]),(4,.box 31 [.v (.slice none 0 0),vi 0,.v (.slice none 0 0),.v (.slice none 0 0),vi 0,.v (.slice none 0 0)]),(4,.box 31 [.fr (.own 71) false 11 (List.flatten (List.map T_Item.ienc v1.Items)),vi v1.Packs,.fl (.own 3) 1 (List.map (Value.int .i64) v1.Sent),.fl (.own 5) 1 (List.map (Value.int .u8) v1.Part),vi v1.Of,.fl (.own 3) 1 (List.map (Value.int .i64) v1.Done)])] [0,1,2] [0,1,2,5] [zq [] 3 7,zq [] 4 4,⟨[],[3,4],[5],[.cell 4 0,.cell 4 1,.cell 4 2,.cell 4 3,.cell 4 4,.cell 4 5]⟩] [(_,_),(_,_),(_,_),(_,_)] rfl ⟨zp rfl (op_call _ _ 11 _ _ rfl call11 rfl (ok_spool_New  _ hv1) rfl rfl),zp rfl (op_alloc _ _ zr31),zp rfl (op_store_take _ _ _ _ _ _ _ _ sz31 rfl rfl rfl (zl rfl) rfl rfl),zz⟩ ?_
  refine pt_then (ht_seq ?_)
  refine zgg hn [_,_,_,_,(8,.fr .shr true 15 (List.flatten (List.map T_Rec.ienc l))),(9,vi (l.length : Int)),(10,vi 0)] [0,1,2,3] [0,1,2,3,4,5,6] [zq [0] 4 8,zq [4] 5 9,zq [] 6 10] [(_,_),(_,_),(_,_),(_,_),(_,_),(_,_),(_,_)] rfl ⟨z1 rfl,zp rfl (op_len_fr _ _ _ underlying22 rfl (by decide) (gflat_len T_Rec.ilen _)),z1 rfl,zz⟩ ?_
  refine ht_loopS h (fun ((s18, s19, s20, s21, s22, s23, s24) : (List T_Item) × Int × (List Int) × (List Int) × Int × (List Int) × Int) => [(0, .fr .shr true 15 (List.flatten (List.map T_Rec.ienc l))), (27, .glob (GL mx)), (2, .box 31 [.v (.slice none 0 0), .v (.int .i64 0), .v (.slice none 0 0), .v (.slice none 0 0), .v (.int .i64 0), .v (.slice none 0 0)]), (4, .box 31 [.fr (.own 71) false 11 (List.flatten (List.map T_Item.ienc s18)), .v (.int .i64 s19), .fl (.own 3) 1 (List.map (Value.int .i64) s20), .fl (.own 5) 1 (List.map (Value.int .u8) s21), .v (.int .i64 s22), .fl (.own 3) 1 (List.map (Value.int .i64) s23)]), (8, .fr .shr true 15 (List.flatten (List.map T_Rec.ienc l))), (9, .v (.int .i64 (l.length : Int))), (10, .v (.int .i64 s24))]) (fun ((s27, s28, s29, s30, s31, s32) : (List T_Item) × Int × (List Int) × (List Int) × Int × (List Int)) => [(0, .fr .shr true 15 (List.flatten (List.map T_Rec.ienc l))), (27, .glob (GL mx)), (2, .box 31 [.v (.slice none 0 0), .v (.int .i64 0), .v (.slice none 0 0), .v (.slice none 0 0), .v (.int .i64 0), .v (.slice none 0 0)]), (4, .box 31 [.fr (.own 71) false 11 (List.flatten (List.map T_Item.ienc s27)), .v (.int .i64 s28), .fl (.own 3) 1 (List.map (Value.int .i64) s29), .fl (.own 5) 1 (List.map (Value.int .u8) s30), .v (.int .i64 s31), .fl (.own 3) 1 (List.map (Value.int .i64) s32)])]) ?_ ?_
  ·rintro ⟨s27, s28, s29, s30, s31, s32⟩ h
   refine pt_then ?_
   refine zgg hn [_,_,_,_,(24,.agg [.fr (.own 71) false 11 (List.flatten (List.map T_Item.ienc s27)),vi s28,.fl (.own 3) 1 (List.map (Value.int .i64) s29),.fl (.own 5) 1 (List.map (Value.int .u8) s30),vi s31,.fl (.own 3) 1 (List.map (Value.int .i64) s32)]),(25,.fr .shr true 15 (List.flatten (List.map T_Rec.ienc l))),(26,vi (l.length : Int)),(2,.box 31 [.fr (.own 71) false 11 (List.flatten (List.map T_Item.ienc s27)),vi s28,.fl (.own 3) 1 (List.map (Value.int .i64) s29),.fl (.own 5) 1 (List.map (Value.int .u8) s30),vi s31,.fl (.own 3) 1 (List.map (Value.int .i64) s32)]),(3,vi (l.length : Int))] [0,1,2,3] [1,7,8] [⟨[],[3],[4],[(.slot 24)]⟩,zq [0] 5 25,zq [5] 6 26,⟨[],[4,2],[7],[.cell 2 0,.cell 2 1,.cell 2 2,.cell 2 3,.cell 2 4,.cell 2 5]⟩,zq [6] 8 3] [(_,_),(_,_),(_,_)] rfl ⟨zp rfl (op_loadA_take _ _ _ _ underlying31 rfl sz31 rfl rfl),z1 rfl,zp rfl (op_len_fr _ _ _ underlying22 rfl (by decide) (gflat_len T_Rec.ilen _)),zp rfl (op_store_take _ _ _ _ _ _ _ _ sz31 rfl rfl rfl (zl rfl) rfl rfl),z2 rfl,zz⟩ ?_
   refine ht_ret ?_
   refine pt_pick [1, 2] (by kernel_rfl) (es' := [(_,_),(_,_)]) rfl ?_
   obtain rfl := Option.some.inj h
   exact pt_ret hio rfl (.cellA _ _ _ _ underlying31 rfl sz31 (.tmp _ _ .nil)) rfl rfl
  ·rintro u33 hl34 hr35 ⟨s18, s19, s20, s21, s22, s23, s24⟩ rr38 h ho36
   refine zgg hn [_,_,_,_,_,_,_,(11,vb (decide (s24 < (l.length : Int))))] [0,1,2,3,4,5,6] [0,1,2,3,4,5,6,7] [zq [6,5] 7 11] [(_,_),(_,_),(_,_),(_,_),(_,_),(_,_),(_,_),(_,_)] rfl ⟨z4 rfl rfl,zz⟩ ?_
   refine ht_seq ?_
   refine ht_cond _ rfl (fun hb39 => ?_) (fun hb39 => ?_)
   ·have h := cond_t hb39 h
    refine ht_skip ?_
    refine pt_then (ht_seq ?_)
    refine ht_block ?_
    refine ht_seq ?_
    obtain ⟨v3, hv3, h⟩ := bind_some h
    obtain ⟨v4, hv4, h⟩ := bind_some h
    refine zg hn [_,_,_,_,_,_,_,_,(12,vi s24),(13,.eref (.slot 8) (v3 * 15)),(14,.agg [vi v4.Kind,vb v4.Mail.From.Null,vs v4.Mail.From.Local,vs v4.Mail.From.Domain,.fl .shr 3 (List.flatten (List.map T_Path.enc v4.Mail.To)),.fl .shr 1 (List.map (Value.int .u8) v4.Mail.Body),vb v4.Mail.Quiet,vs v4.Mail.Helo,vi v4.Mail.At,vi v4.Id,.fl .shr 1 (List.map (Value.int .i64) v4.Ids),vi v4.Origin,vi v4.Number,vi v4.Offset,.fl .shr 1 (List.map (Value.int .u8) v4.Data)]),(6,.box 50 [vi 0,vb false,vs z0,vs z0,.v (.slice none 0 0),.v (.slice none 0 0),vb false,vs z0,vi 0,vi 0,.v (.slice none 0 0),vi 0,vi 0,vi 0,.v (.slice none 0 0)]),(5,vi s24),(6,.box 50 [vi v4.Kind,vb v4.Mail.From.Null,vs v4.Mail.From.Local,vs v4.Mail.From.Domain,.fl .shr 3 (List.flatten (List.map T_Path.enc v4.Mail.To)),.fl .shr 1 (List.map (Value.int .u8) v4.Mail.Body),vb v4.Mail.Quiet,vs v4.Mail.Helo,vi v4.Mail.At,vi v4.Id,.fl .shr 1 (List.map (Value.int .i64) v4.Ids),vi v4.Origin,vi v4.Number,vi v4.Offset,.fl .shr 1 (List.map (Value.int .u8) v4.Data)])] [0,1,2,3,4,5,6,7] [0,1,2,3,4,5,6,13,12] [zq [6] 8 12,zq [4,6] 9 13,zq [9,4] 10 14,zq [] 11 6,zq [8] 12 5,⟨[10],[11],[13],[.cell 6 0,.cell 6 1,.cell 6 2,.cell 6 3,.cell 6 4,.cell 6 5,.cell 6 6,.cell 6 7,.cell 6 8,.cell 6 9,.cell 6 10,.cell 6 11,.cell 6 12,.cell 6 13,.cell 6 14]⟩] [(_,_),(_,_),(_,_),(_,_),(_,_),(_,_),(_,_),(_,_),(_,_)] rfl ⟨z1 rfl,zp rfl (op_ix_fr _ _ _ _ _ _ _ _ underlying22 sz50 (by decide) rfl rfl rfl (ix_ok hv3).1 (gflat_lt T_Rec.ilen (ix_ok hv3).2) rfl),zp rfl (op_loadA_fr _ _ _ _ _ _ _ _ underlying50 rfl sz50 rfl rfl (gflat_get T_Rec.ilen hv4) (.cons (.v _) (.cons (.v _) (.cons (.v _) (.cons (.v _) (.cons (.fl _ _ rfl) (.cons (.fl _ _ rfl) (.cons (.v _) (.cons (.v _) (.cons (.v _) (.cons (.v _) (.cons (.fl _ _ rfl) (.cons (.v _) (.cons (.v _) (.cons (.v _) (.cons (.fl _ _ rfl) (.nil)))))))))))))))) rfl (by decide)),zp rfl (op_alloc _ _ zr50),z2 rfl,zp rfl (oS sz50 rfl),zz⟩ ?_
    refine pt_then (ht_seq ?_)
    refine ht_seq ?_
    obtain ⟨v5, hv5, h⟩ := bind_some h
    refine zg hn [_,_,_,_,_,_,_,_,_,(15,.agg [.same (.cell 4 0),vi s19,.same (.cell 4 2),.same (.cell 4 3),vi s22,.same (.cell 4 5)]),(16,.agg [vi v4.Kind,vb v4.Mail.From.Null,vs v4.Mail.From.Local,vs v4.Mail.From.Domain,.fl .shr 3 (List.flatten (List.map T_Path.enc v4.Mail.To)),.fl .shr 1 (List.map (Value.int .u8) v4.Mail.Body),vb v4.Mail.Quiet,vs v4.Mail.Helo,vi v4.Mail.At,vi v4.Id,.fl .shr 1 (List.map (Value.int .i64) v4.Ids),vi v4.Origin,vi v4.Number,vi v4.Offset,.fl .shr 1 (List.map (Value.int .u8) v4.Data)]),(17,vb v5),(18,vb (!v5))] [0,1,2,3,4,5,6,7,8] [0,1,2,3,4,5,6,7,8,12] [zq [3] 9 15,zq [7] 10 16,zq [9,3,10,1] 11 17,zq [11] 12 18] [(_,_),(_,_),(_,_),(_,_),(_,_),(_,_),(_,_),(_,_),(_,_),(_,_)] rfl ⟨zp rfl (op_loadA _ _ _ _ _ _ _ underlying31 rfl sz31 rfl rfl (zl rfl) rfl rfl),zp rfl (op_loadA _ _ _ _ _ _ _ underlying50 rfl sz50 rfl rfl (zl rfl) rfl rfl),zp rfl (op_callG _ _ 27 12 _ _ rfl call12 rfl rfl (fun _ h => h) (ok_spool_valid mx (T_Spool.mk s18 s19 s20 s21 s22 s23) ((T_Rec.mk v4.Kind ((T_Mail.mk (T_Path.mk v4.Mail.From.Null v4.Mail.From.Local v4.Mail.From.Domain) v4.Mail.To v4.Mail.Body v4.Mail.Quiet v4.Mail.Helo v4.Mail.At)) v4.Id v4.Ids v4.Origin v4.Number v4.Offset v4.Data)) _ hv5) rfl rfl),zp rfl (op_un _ _ _ _ rfl rfl),zz⟩ ?_
    refine pt_then ?_
    refine ht_cond _ rfl (fun hb40 => ?_) (fun hb40 => ?_)
    ·have h := cond_t hb40 h
     refine zgg hn [_,_,_,_,_,_,_,_,_,_,(19,.agg [.fr (.own 71) false 11 (List.flatten (List.map T_Item.ienc s18)),vi s19,.fl (.own 3) 1 (List.map (Value.int .i64) s20),.fl (.own 5) 1 (List.map (Value.int .u8) s21),vi s22,.fl (.own 3) 1 (List.map (Value.int .i64) s23)]),(20,vi s24),(2,.box 31 [.fr (.own 71) false 11 (List.flatten (List.map T_Item.ienc s18)),vi s19,.fl (.own 3) 1 (List.map (Value.int .i64) s20),.fl (.own 5) 1 (List.map (Value.int .u8) s21),vi s22,.fl (.own 3) 1 (List.map (Value.int .i64) s23)]),(3,vi s24)] [0,1,2,3,4,5,6,7,8,9] [1,12,13] [⟨[],[3],[10],[(.slot 19)]⟩,zq [8] 11 20,⟨[],[10,2],[12],[.cell 2 0,.cell 2 1,.cell 2 2,.cell 2 3,.cell 2 4,.cell 2 5]⟩,zq [11] 13 3] [(_,_),(_,_),(_,_)] rfl ⟨zp rfl (op_loadA_take _ _ _ _ underlying31 rfl sz31 rfl rfl),z1 rfl,zp rfl (op_store_take _ _ _ _ _ _ _ _ sz31 rfl rfl rfl (zl rfl) rfl rfl),z2 rfl,zz⟩ ?_
     refine ht_ret ?_
     refine pt_pick [1, 2] (by kernel_rfl) (es' := [(_,_),(_,_)]) rfl ?_
     refine pt_r_then ?_
     refine pt_r_in ?_
     refine pt_r_then ?_
     refine pt_r_then ?_
     refine pt_r_in ?_
     refine pt_r_then ?_
     have h := hr35 _ (ho36 _ (Option.some.inj h).symm).symm
     obtain rfl := Option.some.inj h
     exact pt_ret hio rfl (.cellA _ _ _ _ underlying31 rfl sz31 (.tmp _ _ .nil)) rfl rfl
    ·have h := cond_f hb40 h
     refine ht_skip ?_
     refine pt_then ?_
     obtain ⟨v7, hv7, h⟩ := bind_some h
     refine zg hn [_,_,_,_,_,_,_,_,_,_,(21,.agg [vi v4.Kind,vb v4.Mail.From.Null,vs v4.Mail.From.Local,vs v4.Mail.From.Domain,.fl .shr 3 (List.flatten (List.map T_Path.enc v4.Mail.To)),.fl .shr 1 (List.map (Value.int .u8) v4.Mail.Body),vb v4.Mail.Quiet,vs v4.Mail.Helo,vi v4.Mail.At,vi v4.Id,.fl .shr 1 (List.map (Value.int .i64) v4.Ids),vi v4.Origin,vi v4.Number,vi v4.Offset,.fl .shr 1 (List.map (Value.int .u8) v4.Data)]),(22,.tup []),(4,.box 31 [.fr (.own 71) false 11 (List.flatten (List.map T_Item.ienc v7.Items)),vi v7.Packs,.fl (.own 3) 1 (List.map (Value.int .i64) v7.Sent),.fl (.own 5) 1 (List.map (Value.int .u8) v7.Part),vi v7.Of,.fl (.own 3) 1 (List.map (Value.int .i64) v7.Done)])] [0,1,2,3,4,5,6,7,8,9] [0,1,2,12,4,5,6] [zq [7] 10 21,⟨[10],[3],[12,11],[(.slot 22),(.cell 4 0),(.cell 4 1),(.cell 4 2),(.cell 4 3),(.cell 4 4),(.cell 4 5)]⟩] [(_,_),(_,_),(_,_),(_,_),(_,_),(_,_),(_,_)] rfl ⟨zp rfl (op_loadA _ _ _ _ _ _ _ underlying50 rfl sz50 rfl rfl (zl rfl) rfl rfl),zp rfl (op_callP _ _ _ _ 22 13 [.tmp 4] [.tmp 21] _ _ _ rfl call13 rfl rfl rfl (ok_spool_apply (T_Spool.mk s18 s19 s20 s21 s22 s23) ((T_Rec.mk v4.Kind ((T_Mail.mk (T_Path.mk v4.Mail.From.Null v4.Mail.From.Local v4.Mail.From.Domain) v4.Mail.To v4.Mail.Body v4.Mail.Quiet v4.Mail.Helo v4.Mail.At)) v4.Id v4.Ids v4.Origin v4.Number v4.Offset v4.Data)) _ hv7) (zl rfl) rfl rfl rfl rfl rfl rfl rfl rfl),zz⟩ ?_
     refine pt_inb ?_
     refine pt_then ?_
     obtain ⟨v8, hv8, h⟩ := bind_some h
     refine zg hn [_,_,_,_,_,_,_,(23,vi v8),(10,vi v8)] [0,1,2,3,4,5,6] [0,1,2,3,4,5,8] [zq [6] 7 23,⟨[7],[6],[8],[(.slot 10)]⟩] [(_,_),(_,_),(_,_),(_,_),(_,_),(_,_),(_,_)] rfl ⟨zp rfl (oB rfl (ibind (f := Value.int .i64) (Option.some.inj hv8))),zp rfl (LOp.drop [_] (oM rfl)),zz⟩ ?_
     exact pt_next _ (Option.some.inj h).symm rfl
   ·have h := cond_f hb39 h
    refine ht_exit ?_
    refine pt_x_then ?_
    refine pt_x_then ?_
    refine pt_x_in ?_
    refine pt_pick [0, 1, 2, 3] (by kernel_rfl) (es' := [(_,_),(_,_),(_,_),(_,_)]) rfl ?_
    exact hl34 _ (ho36 _ (Option.some.inj h).symm).symm
theorem ok_frame_Check (f : T_Frame) (r : Int) (h : Sh.frame_Check f = some r) : FnOK Tryd.prog 15 [.agg [.v (.int .i64 f.Kind), .v (.int .i64 f.Number), .v (.int .i64 f.Offset), .v (.int .i64 f.Seq), .fl .shr 1 (List.map (Value.int .u8) f.Data)]] (.v (.int .i64 r)) := by
  unfold Sh.frame_Check at h
  refine fn_ok func15 rfl (zl rfl) rfl rfl fun g0 hn hio => ?_
  refine zgg hn [_,(1,.box 41 [vi f.Kind,vi f.Number,vi f.Offset,vi f.Seq,.fl .shr 1 (List.map (Value.int .u8) f.Data)]),(2,vi 0)] [0] [1] [zq [0] 1 1,zq [] 2 2] [(_,_)] rfl ⟨zp rfl (op_box _ _ _ _ rfl rfl rfl),z2 rfl,zz⟩ ?_
  refine ht_seq ?_
  refine ht_anyR (by kernel_rfl) hn (El := [_, (9, .ptr 1 2), (10, .v (.int .i64 f.Offset)), (11, .v (.bool (f.Offset == 0))), (12, .ptr 1 3), (13, .v (.int .i64 f.Seq)), (14, .v (.bool (f.Seq == 0))), (15, .ptr 1 4), (16, .fl .shr 1 (List.map (Value.int .u8) f.Data)), (17, .v (.int .i64 (f.Data.length : Int))), (18, .v (.bool (((f.Data.length : Int) == 0)))), (3, .v (.bool (f.Offset == 0))), (4, .v (.bool (f.Seq == 0))), (5, .v (.bool (((f.Data.length : Int) == 0))))]) (init := [0]) (fin := [0, 11, 12, 13]) (sps := [zq [0] 1 9, zq [1,0] 2 10, zq [2] 3 11, zq [0] 4 12, zq [4,0] 5 13, zq [5] 6 14, zq [0] 7 15, zq [7,0] 8 16, zq [8] 9 17, zq [9] 10 18, zq [3] 11 3, zq [6] 12 4, zq [10] 13 5]) (es' := [(_,_),(3, .v (.bool (f.Offset == 0))), (4, .v (.bool (f.Seq == 0))), (5, .v (.bool (((f.Data.length : Int) == 0))))]) (by kernel_rfl) rfl rfl ⟨zp rfl (oF underlying41 rfl sz3),zp rfl (oL underlying3 rfl),z4 rfl rfl,zp rfl (oF underlying41 rfl sz3),zp rfl (oL underlying3 rfl),z4 rfl rfl,zp rfl (oF underlying41 rfl sz29),zp rfl (oL underlying29 rfl),zp rfl (op_len_fl _ _ _ underlying29 rfl (by decide) (map_len _)),z4 rfl rfl,z2 rfl,z2 rfl,z2 rfl,zz⟩ ?_
  refine pt_then (ht_seq ?_)
  refine ht_joinS h (fun (s1 : Bool) => [(1, .box 41 [.v (.int .i64 f.Kind), .v (.int .i64 f.Number), .v (.int .i64 f.Offset), .v (.int .i64 f.Seq), .fl .shr 1 (List.map (Value.int .u8) f.Data)]), (3, .v (.bool (f.Offset == 0))), (4, .v (.bool (f.Seq == 0))), (5, .v (.bool (((f.Data.length : Int) == 0)))), (6, .v (.bool s1))]) ?_ ?_
  ·rintro s1 h
   refine pt_then (ht_seq ?_)
   refine ht_joinS h (fun (s5 : Bool) => [(1, .box 41 [.v (.int .i64 f.Kind), .v (.int .i64 f.Number), .v (.int .i64 f.Offset), .v (.int .i64 f.Seq), .fl .shr 1 (List.map (Value.int .u8) f.Data)]), (3, .v (.bool (f.Offset == 0))), (4, .v (.bool (f.Seq == 0))), (5, .v (.bool (((f.Data.length : Int) == 0)))), (6, .v (.bool s1)), (7, .v (.bool s5))]) ?_ ?_
   ·rintro s5 h
    refine pt_then ?_
    refine zgg hn [_,_,_,_,_,_,(8,vb false)] [0,1,2,3,4,5] [0,1,2,3,4,5,6] [zq [] 6 8] [(_,_),(_,_),(_,_),(_,_),(_,_),(_,_),(_,_)] rfl ⟨z2 rfl,zz⟩ ?_
    refine ht_seq ?_
    refine ht_joinS h (fun (s65 : Bool) => [(1, .box 41 [.v (.int .i64 f.Kind), .v (.int .i64 f.Number), .v (.int .i64 f.Offset), .v (.int .i64 f.Seq), .fl .shr 1 (List.map (Value.int .u8) f.Data)]), (8, .v (.bool s65))]) ?_ ?_
    ·rintro s65 h
     refine pt_then (ht_seq ?_)
     refine ht_seq ?_
     refine ht_joinS h (fun (s125 : Bool) => [(92, .v (.bool s125))]) ?_ ?_
     ·rintro s125 h
      refine pt_then ?_
      refine ht_cond _ rfl (fun hb129 => ?_) (fun hb129 => ?_)
      ·have h := cond_t hb129 h
       refine zgg hn [_,(2,vi 1)] [0] [1] [zq [] 1 2] [(_,_)] rfl ⟨z2 rfl,zz⟩ ?_
       refine ht_ret ?_
       refine pt_r_then ?_
       obtain rfl := Option.some.inj h
       exact pt_ret hio rfl (.tmp _ _ .nil) rfl rfl
      ·have h := cond_f hb129 h
       refine ht_skip ?_
       refine pt_then ?_
       refine zgg hn [_,(2,vi 0)] [0] [1] [zq [] 1 2] [(_,_)] rfl ⟨z2 rfl,zz⟩ ?_
       refine ht_ret ?_
       obtain rfl := Option.some.inj h
       exact pt_ret hio rfl (.tmp _ _ .nil) rfl rfl
     ·intro u126 h hl127 hr128
      refine cond_some h (fun hg15_2 h => ?_) (fun hg15_2 h => ?_)
      ·refine zg hn [_,_,(81,vb s65),(82,vb (!s65)),(83,vb true),(84,.v undef),(85,.v undef),(86,.v undef),(87,vb true),(88,vb true),(89,.v undef),(90,.v undef),(91,.v undef),(92,vb true)] [0,1] [13] [zq [1] 2 81,zq [2] 3 82,zq [3] 4 83,zq [4] 5 84,zq [4] 6 85,zq [4] 7 86,zq [4] 8 87,zq [8] 9 88,zq [9] 10 89,zq [9] 11 90,zq [9] 12 91,zq [9] 13 92] [(_,_)] rfl ⟨z1 rfl,zp rfl (op_un _ _ _ _ rfl rfl),z8 hg15_2 rfl,zf rfl,zf rfl,zf rfl,z3 true rfl,z1 rfl,zf rfl,zf rfl,zf rfl,z3 true rfl,zz⟩ ?_
       exact hl127 _ (Option.some.inj h).symm
      ·refine cond_some h (fun hg15_7 h => ?_) (fun hg15_7 h => ?_)
       ·refine zg hn [_,_,(81,vb s65),(82,vb (!s65)),(83,vb false),(84,.ptr 1 1),(85,vi f.Number),(86,vb (decide (f.Number < 1))),(87,vb (decide (f.Number < 1))),(88,vb true),(89,.v undef),(90,.v undef),(91,.v undef),(92,vb true)] [0,1] [13] [zq [1] 2 81,zq [2] 3 82,zq [3] 4 83,zq [4,0] 5 84,zq [4,5,0] 6 85,zq [4,6] 7 86,zq [4,7] 8 87,zq [8] 9 88,zq [9] 10 89,zq [9] 11 90,zq [9] 12 91,zq [9] 13 92] [(_,_)] rfl ⟨z1 rfl,zp rfl (op_un _ _ _ _ rfl rfl),z8 hg15_2 rfl,zr' rfl (oF underlying41 rfl sz3),zr' rfl (oL underlying3 rfl),zr' rfl (oB rfl rfl),z3 false rfl,z8 hg15_7 rfl,zf rfl,zf rfl,zf rfl,z3 true rfl,zz⟩ ?_
        exact hl127 _ (Option.some.inj h).symm
       ·refine zg hn [_,_,(81,vb s65),(82,vb (!s65)),(83,vb false),(84,.ptr 1 1),(85,vi f.Number),(86,vb (decide (f.Number < 1))),(87,vb (decide (f.Number < 1))),(88,vb false),(89,.ptr 1 1),(90,vi f.Number),(91,vb (decide (65535 < f.Number))),(92,vb (decide (65535 < f.Number)))] [0,1] [13] [zq [1] 2 81,zq [2] 3 82,zq [3] 4 83,zq [4,0] 5 84,zq [4,5,0] 6 85,zq [4,6] 7 86,zq [4,7] 8 87,zq [8] 9 88,zq [9,0] 10 89,zq [9,10,0] 11 90,zq [9,11] 12 91,zq [9,12] 13 92] [(_,_)] rfl ⟨z1 rfl,zp rfl (op_un _ _ _ _ rfl rfl),z8 hg15_2 rfl,zr' rfl (oF underlying41 rfl sz3),zr' rfl (oL underlying3 rfl),zr' rfl (oB rfl rfl),z3 false rfl,z8 hg15_7 rfl,zr' rfl (oF underlying41 rfl sz3),zr' rfl (oL underlying3 rfl),zr' rfl (oB rfl rfl),z3 false rfl,zz⟩ ?_
        exact hl127 _ (Option.some.inj h).symm
    ·intro u66 h hl67 hr68
     refine zgg hn [_,_,_,_,_,_,_,(35,.ptr 1 0),(36,vi f.Kind)] [0,1,2,3,4,5,6] [0,1,2,3,4,5,6,8] [zq [0] 7 35,zq [7,0] 8 36] [(_,_),(_,_),(_,_),(_,_),(_,_),(_,_),(_,_),(_,_)] rfl ⟨zp rfl (oF underlying41 rfl sz3),zp rfl (oL underlying3 rfl),zz⟩ ?_
     refine ht_joinS h (fun (s95 : Bool) => [(1, .box 41 [.v (.int .i64 f.Kind), .v (.int .i64 f.Number), .v (.int .i64 f.Offset), .v (.int .i64 f.Seq), .fl .shr 1 (List.map (Value.int .u8) f.Data)]), (8, .v (.bool s95))]) ?_ ?_
     ·rintro s95 h
      exact hl67 _ (Option.some.inj h).symm
     ·intro u96 h hl97 hr98
      refine ht_block ?_
      refine ht_seq ?_
      refine ht_joinS h (fun (s100 : Bool) => [(1, .box 41 [.v (.int .i64 f.Kind), .v (.int .i64 f.Number), .v (.int .i64 f.Offset), .v (.int .i64 f.Seq), .fl .shr 1 (List.map (Value.int .u8) f.Data)]), (3, .v (.bool (f.Offset == 0))), (4, .v (.bool (f.Seq == 0))), (5, .v (.bool (((f.Data.length : Int) == 0)))), (6, .v (.bool s1)), (7, .v (.bool s5)), (8, .v (.bool false)), (36, .v (.int .i64 f.Kind)), (37, .v (.bool s100))]) ?_ ?_
      ·rintro s100 h
       refine pt_then ?_
       refine ht_cond _ rfl (fun hb105 => ?_) (fun hb105 => ?_)
       ·have h := cond_t hb105 h
        refine ht_joinS h (fun (s106 : Bool) => [(1, .box 41 [.v (.int .i64 f.Kind), .v (.int .i64 f.Number), .v (.int .i64 f.Offset), .v (.int .i64 f.Seq), .fl .shr 1 (List.map (Value.int .u8) f.Data)]), (8, .v (.bool s106))]) ?_ ?_
        ·rintro s106 h
         refine pt_inb ?_
         exact hl97 _ (Option.some.inj h).symm
        ·intro u107 h hl108 hr109
         refine cond_some h (fun hg8_1 h => ?_) (fun hg8_1 h => ?_)
         ·refine cond_some h (fun hg8_4 h => ?_) (fun hg8_4 h => ?_)
          ·refine zg hn (_::_::_::_::_::_::_::_::_::(40,vb s1)::(41,vb true)::(42,vb (f.Seq == 0))::(43,vb (f.Seq == 0))::(44,vb true)::(45,vb ((f.Data.length : Int) == 0))::(46,vb ((f.Data.length : Int) == 0))::(8,vb ((f.Data.length : Int) == 0))::[]) [0,1,2,3,4,5,6,7,8] [0,16] [zq [4] 9 40,zq [9] 10 41,zq [10,2] 11 42,zq [10,11] 12 43,zq [12] 13 44,zq [13,3] 14 45,zq [13,14] 15 46,⟨[15],[6],[16],[(.slot 8)]⟩] [(_,_),(_,_)] rfl ⟨z1 rfl,z8 hg8_1 rfl,zr' rfl (oM rfl),z3 true rfl,z8 hg8_4 rfl,zr' rfl (oM rfl),z3 true rfl,zp rfl (LOp.drop [_] (op_assign _ _ _ _ rfl rfl)),zz⟩ ?_
           exact hl108 _ (Option.some.inj h).symm
          ·refine zg hn (_::_::_::_::_::_::_::_::_::(40,vb s1)::(41,vb true)::(42,vb (f.Seq == 0))::(43,vb (f.Seq == 0))::(44,vb false)::(45,.v undef)::(46,vb false)::(8,vb false)::[]) [0,1,2,3,4,5,6,7,8] [0,16] [zq [4] 9 40,zq [9] 10 41,zq [10,2] 11 42,zq [10,11] 12 43,zq [12] 13 44,zq [13] 14 45,zq [13] 15 46,⟨[15],[6],[16],[(.slot 8)]⟩] [(_,_),(_,_)] rfl ⟨z1 rfl,z8 hg8_1 rfl,zr' rfl (oM rfl),z3 true rfl,z8 hg8_4 rfl,zt rfl,z3 false rfl,zp rfl (LOp.drop [_] (op_assign _ _ _ _ rfl rfl)),zz⟩ ?_
           exact hl108 _ (Option.some.inj h).symm
         ·refine zg hn (_::_::_::_::_::_::_::_::_::(40,vb s1)::(41,vb false)::(42,.v undef)::(43,vb false)::(44,vb false)::(45,.v undef)::(46,vb false)::(8,vb false)::[]) [0,1,2,3,4,5,6,7,8] [0,16] [zq [4] 9 40,zq [9] 10 41,zq [10] 11 42,zq [10] 12 43,zq [12] 13 44,zq [13] 14 45,zq [13] 15 46,⟨[15],[6],[16],[(.slot 8)]⟩] [(_,_),(_,_)] rfl ⟨z1 rfl,z8 hg8_1 rfl,zt rfl,z3 false rfl,z1 rfl,zt rfl,z3 false rfl,zp rfl (LOp.drop [_] (op_assign _ _ _ _ rfl rfl)),zz⟩ ?_
          exact hl108 _ (Option.some.inj h).symm
       ·have h := cond_f hb105 h
        refine zgg hn [_,_,_,_,_,_,_,_,_,(48,vb (f.Kind == 3)),(47,vb (f.Kind == 3))] [0,1,2,3,4,5,6,7,8] [0,1,2,3,4,5,6,7,10] [zq [7] 9 48,zq [9] 10 47] [(_,_),(_,_),(_,_),(_,_),(_,_),(_,_),(_,_),(_,_),(_,_)] rfl ⟨z4 rfl rfl,z2 rfl,zz⟩ ?_
        refine ht_cond _ rfl (fun hb110 => ?_) (fun hb110 => ?_)
        ·have h := cond_t hb110 h
         refine ht_joinS h (fun (s111 : Bool) => [(1, .box 41 [.v (.int .i64 f.Kind), .v (.int .i64 f.Number), .v (.int .i64 f.Offset), .v (.int .i64 f.Seq), .fl .shr 1 (List.map (Value.int .u8) f.Data)]), (8, .v (.bool s111))]) ?_ ?_
         ·rintro s111 h
          refine pt_inb ?_
          exact hl97 _ (Option.some.inj h).symm
         ·intro u112 h hl113 hr114
          refine cond_some h (fun hg10_1 h => ?_) (fun hg10_1 h => ?_)
          ·refine cond_some h (fun hg10_4 h => ?_) (fun hg10_4 h => ?_)
           ·refine cond_some h (fun hg10_8 h => ?_) (fun hg10_8 h => ?_)
            ·refine zg hn (_::_::_::_::_::_::_::_::_::(49,vb s1)::(50,vb true)::(51,vb s5)::(52,vb s5)::(53,vb true)::(54,vb ((f.Data.length : Int) == 0))::(55,vb (!(((f.Data.length : Int) == 0))))::(56,vb (!(((f.Data.length : Int) == 0))))::(57,vb true)::(58,.ptr 1 4)::(59,.fl .shr 1 (List.map (Value.int .u8) f.Data))::(60,vi (f.Data.length : Int))::(61,vb (decide ((f.Data.length : Int) ≤ 48)))::(62,vb (decide ((f.Data.length : Int) ≤ 48)))::(8,vb (decide ((f.Data.length : Int) ≤ 48)))::[]) [0,1,2,3,4,5,6,7,8] [0,23] (zq [4] 9 49::zq [9] 10 50::zq [10,5] 11 51::zq [10,11] 12 52::zq [12] 13 53::zq [13,3] 14 54::zq [13,14] 15 55::zq [13,15] 16 56::zq [16] 17 57::zq [17,0] 18 58::zq [17,18,0] 19 59::zq [17,19] 20 60::zq [17,20] 21 61::zq [17,21] 22 62::⟨[22],[6],[23],[(.slot 8)]⟩::[]) [(_,_),(_,_)] rfl ⟨z1 rfl,z8 hg10_1 rfl,zr' rfl (oM rfl),z3 true rfl,z8 hg10_4 rfl,zr' rfl (oM rfl),zr' rfl (op_un _ _ _ _ rfl rfl),z3 true rfl,z8 hg10_8 rfl,zr' rfl (oF underlying41 rfl sz29),zr' rfl (oL underlying29 rfl),zr' rfl (op_len_fl _ _ _ underlying29 rfl (by decide) (map_len _)),zr' rfl (oB rfl rfl),z3 true rfl,zp rfl (LOp.drop [_] (op_assign _ _ _ _ rfl rfl)),zz⟩ ?_
             exact hl113 _ (Option.some.inj h).symm
            ·refine zg hn (_::_::_::_::_::_::_::_::_::(49,vb s1)::(50,vb true)::(51,vb s5)::(52,vb s5)::(53,vb true)::(54,vb ((f.Data.length : Int) == 0))::(55,vb (!(((f.Data.length : Int) == 0))))::(56,vb (!(((f.Data.length : Int) == 0))))::(57,vb false)::(58,.v undef)::(59,.v undef)::(60,.v undef)::(61,.v undef)::(62,vb false)::(8,vb false)::[]) [0,1,2,3,4,5,6,7,8] [0,23] (zq [4] 9 49::zq [9] 10 50::zq [10,5] 11 51::zq [10,11] 12 52::zq [12] 13 53::zq [13,3] 14 54::zq [13,14] 15 55::zq [13,15] 16 56::zq [16] 17 57::zq [17] 18 58::zq [17] 19 59::zq [17] 20 60::zq [17] 21 61::zq [17] 22 62::⟨[22],[6],[23],[(.slot 8)]⟩::[]) [(_,_),(_,_)] rfl ⟨z1 rfl,z8 hg10_1 rfl,zr' rfl (oM rfl),z3 true rfl,z8 hg10_4 rfl,zr' rfl (oM rfl),zr' rfl (op_un _ _ _ _ rfl rfl),z3 true rfl,z8 hg10_8 rfl,zt rfl,zt rfl,zt rfl,zt rfl,z3 false rfl,zp rfl (LOp.drop [_] (op_assign _ _ _ _ rfl rfl)),zz⟩ ?_
             exact hl113 _ (Option.some.inj h).symm
           ·refine zg hn (_::_::_::_::_::_::_::_::_::(49,vb s1)::(50,vb true)::(51,vb s5)::(52,vb s5)::(53,vb false)::(54,.v undef)::(55,.v undef)::(56,vb false)::(57,vb false)::(58,.v undef)::(59,.v undef)::(60,.v undef)::(61,.v undef)::(62,vb false)::(8,vb false)::[]) [0,1,2,3,4,5,6,7,8] [0,23] (zq [4] 9 49::zq [9] 10 50::zq [10,5] 11 51::zq [10,11] 12 52::zq [12] 13 53::zq [13] 14 54::zq [13] 15 55::zq [13] 16 56::zq [16] 17 57::zq [17] 18 58::zq [17] 19 59::zq [17] 20 60::zq [17] 21 61::zq [17] 22 62::⟨[22],[6],[23],[(.slot 8)]⟩::[]) [(_,_),(_,_)] rfl ⟨z1 rfl,z8 hg10_1 rfl,zr' rfl (oM rfl),z3 true rfl,z8 hg10_4 rfl,zt rfl,zt rfl,z3 false rfl,z1 rfl,zt rfl,zt rfl,zt rfl,zt rfl,z3 false rfl,zp rfl (LOp.drop [_] (op_assign _ _ _ _ rfl rfl)),zz⟩ ?_
            exact hl113 _ (Option.some.inj h).symm
          ·refine zg hn (_::_::_::_::_::_::_::_::_::(49,vb s1)::(50,vb false)::(51,.v undef)::(52,vb false)::(53,vb false)::(54,.v undef)::(55,.v undef)::(56,vb false)::(57,vb false)::(58,.v undef)::(59,.v undef)::(60,.v undef)::(61,.v undef)::(62,vb false)::(8,vb false)::[]) [0,1,2,3,4,5,6,7,8] [0,23] (zq [4] 9 49::zq [9] 10 50::zq [10] 11 51::zq [10] 12 52::zq [12] 13 53::zq [13] 14 54::zq [13] 15 55::zq [13] 16 56::zq [16] 17 57::zq [17] 18 58::zq [17] 19 59::zq [17] 20 60::zq [17] 21 61::zq [17] 22 62::⟨[22],[6],[23],[(.slot 8)]⟩::[]) [(_,_),(_,_)] rfl ⟨z1 rfl,z8 hg10_1 rfl,zt rfl,z3 false rfl,z1 rfl,zt rfl,zt rfl,z3 false rfl,z1 rfl,zt rfl,zt rfl,zt rfl,zt rfl,z3 false rfl,zp rfl (LOp.drop [_] (op_assign _ _ _ _ rfl rfl)),zz⟩ ?_
           exact hl113 _ (Option.some.inj h).symm
        ·have h := cond_f hb110 h
         refine zgg hn [_,_,_,_,_,_,_,_,_,(64,vb (f.Kind == 4)),(63,vb (f.Kind == 4))] [0,1,2,3,4,5,6,7,8] [0,1,2,3,5,6,7,10] [zq [7] 9 64,zq [9] 10 63] [(_,_),(_,_),(_,_),(_,_),(_,_),(_,_),(_,_),(_,_)] rfl ⟨z4 rfl rfl,z2 rfl,zz⟩ ?_
         refine ht_cond _ rfl (fun hb115 => ?_) (fun hb115 => ?_)
         ·have h := cond_t hb115 h
          refine ht_joinS h (fun (s116 : Bool) => [(1, .box 41 [.v (.int .i64 f.Kind), .v (.int .i64 f.Number), .v (.int .i64 f.Offset), .v (.int .i64 f.Seq), .fl .shr 1 (List.map (Value.int .u8) f.Data)]), (8, .v (.bool s116))]) ?_ ?_
          ·rintro s116 h
           refine pt_inb ?_
           exact hl97 _ (Option.some.inj h).symm
          ·intro u117 h hl118 hr119
           refine cond_some h (fun hg12_1 h => ?_) (fun hg12_1 h => ?_)
           ·refine cond_some h (fun hg12_4 h => ?_) (fun hg12_4 h => ?_)
            ·refine zg hn (_::_::_::_::_::_::_::_::(65,vb (f.Offset == 0))::(66,vb true)::(67,vb s5)::(68,vb s5)::(69,vb true)::(70,vb ((f.Data.length : Int) == 0))::(71,vb ((f.Data.length : Int) == 0))::(8,vb ((f.Data.length : Int) == 0))::[]) [0,1,2,3,4,5,6,7] [0,15] [zq [1] 8 65,zq [8] 9 66,zq [9,4] 10 67,zq [9,10] 11 68,zq [11] 12 69,zq [12,3] 13 70,zq [12,13] 14 71,⟨[14],[5],[15],[(.slot 8)]⟩] [(_,_),(_,_)] rfl ⟨z1 rfl,z8 hg12_1 rfl,zr' rfl (oM rfl),z3 true rfl,z8 hg12_4 rfl,zr' rfl (oM rfl),z3 true rfl,zp rfl (LOp.drop [_] (op_assign _ _ _ _ rfl rfl)),zz⟩ ?_
             exact hl118 _ (Option.some.inj h).symm
            ·refine zg hn (_::_::_::_::_::_::_::_::(65,vb (f.Offset == 0))::(66,vb true)::(67,vb s5)::(68,vb s5)::(69,vb false)::(70,.v undef)::(71,vb false)::(8,vb false)::[]) [0,1,2,3,4,5,6,7] [0,15] [zq [1] 8 65,zq [8] 9 66,zq [9,4] 10 67,zq [9,10] 11 68,zq [11] 12 69,zq [12] 13 70,zq [12] 14 71,⟨[14],[5],[15],[(.slot 8)]⟩] [(_,_),(_,_)] rfl ⟨z1 rfl,z8 hg12_1 rfl,zr' rfl (oM rfl),z3 true rfl,z8 hg12_4 rfl,zt rfl,z3 false rfl,zp rfl (LOp.drop [_] (op_assign _ _ _ _ rfl rfl)),zz⟩ ?_
             exact hl118 _ (Option.some.inj h).symm
           ·refine zg hn (_::_::_::_::_::_::_::_::(65,vb (f.Offset == 0))::(66,vb false)::(67,.v undef)::(68,vb false)::(69,vb false)::(70,.v undef)::(71,vb false)::(8,vb false)::[]) [0,1,2,3,4,5,6,7] [0,15] [zq [1] 8 65,zq [8] 9 66,zq [9] 10 67,zq [9] 11 68,zq [11] 12 69,zq [12] 13 70,zq [12] 14 71,⟨[14],[5],[15],[(.slot 8)]⟩] [(_,_),(_,_)] rfl ⟨z1 rfl,z8 hg12_1 rfl,zt rfl,z3 false rfl,z1 rfl,zt rfl,z3 false rfl,zp rfl (LOp.drop [_] (op_assign _ _ _ _ rfl rfl)),zz⟩ ?_
            exact hl118 _ (Option.some.inj h).symm
         ·have h := cond_f hb115 h
          refine zgg hn [_,_,_,_,_,_,_,_,(73,vb (f.Kind == 5)),(72,vb (f.Kind == 5))] [0,1,2,3,4,5,6,7] [0,1,2,3,5,9] [zq [6] 8 73,zq [8] 9 72] [(_,_),(_,_),(_,_),(_,_),(_,_),(_,_)] rfl ⟨z4 rfl rfl,z2 rfl,zz⟩ ?_
          refine ht_cond _ rfl (fun hb120 => ?_) (fun hb120 => ?_)
          ·have h := cond_t hb120 h
           refine ht_joinS h (fun (s121 : Bool) => [(1, .box 41 [.v (.int .i64 f.Kind), .v (.int .i64 f.Number), .v (.int .i64 f.Offset), .v (.int .i64 f.Seq), .fl .shr 1 (List.map (Value.int .u8) f.Data)]), (8, .v (.bool s121))]) ?_ ?_
           ·rintro s121 h
            refine pt_inb ?_
            exact hl97 _ (Option.some.inj h).symm
           ·intro u122 h hl123 hr124
            refine cond_some h (fun hg14_1 h => ?_) (fun hg14_1 h => ?_)
            ·refine cond_some h (fun hg14_4 h => ?_) (fun hg14_4 h => ?_)
             ·refine zg hn [_,_,_,_,_,_,(74,vb (f.Offset == 0)),(75,vb true),(76,vb (f.Seq == 0)),(77,vb (f.Seq == 0)),(78,vb true),(79,vb ((f.Data.length : Int) == 0)),(80,vb ((f.Data.length : Int) == 0)),(8,vb ((f.Data.length : Int) == 0))] [0,1,2,3,4,5] [0,13] [zq [1] 6 74,zq [6] 7 75,zq [7,2] 8 76,zq [7,8] 9 77,zq [9] 10 78,zq [10,3] 11 79,zq [10,11] 12 80,⟨[12],[4],[13],[(.slot 8)]⟩] [(_,_),(_,_)] rfl ⟨z1 rfl,z8 hg14_1 rfl,zr' rfl (oM rfl),z3 true rfl,z8 hg14_4 rfl,zr' rfl (oM rfl),z3 true rfl,zp rfl (LOp.drop [_] (op_assign _ _ _ _ rfl rfl)),zz⟩ ?_
              exact hl123 _ (Option.some.inj h).symm
             ·refine zg hn [_,_,_,_,_,_,(74,vb (f.Offset == 0)),(75,vb true),(76,vb (f.Seq == 0)),(77,vb (f.Seq == 0)),(78,vb false),(79,.v undef),(80,vb false),(8,vb false)] [0,1,2,3,4,5] [0,13] [zq [1] 6 74,zq [6] 7 75,zq [7,2] 8 76,zq [7,8] 9 77,zq [9] 10 78,zq [10] 11 79,zq [10] 12 80,⟨[12],[4],[13],[(.slot 8)]⟩] [(_,_),(_,_)] rfl ⟨z1 rfl,z8 hg14_1 rfl,zr' rfl (oM rfl),z3 true rfl,z8 hg14_4 rfl,zt rfl,z3 false rfl,zp rfl (LOp.drop [_] (op_assign _ _ _ _ rfl rfl)),zz⟩ ?_
              exact hl123 _ (Option.some.inj h).symm
            ·refine zg hn [_,_,_,_,_,_,(74,vb (f.Offset == 0)),(75,vb false),(76,.v undef),(77,vb false),(78,vb false),(79,.v undef),(80,vb false),(8,vb false)] [0,1,2,3,4,5] [0,13] [zq [1] 6 74,zq [6] 7 75,zq [7] 8 76,zq [7] 9 77,zq [9] 10 78,zq [10] 11 79,zq [10] 12 80,⟨[12],[4],[13],[(.slot 8)]⟩] [(_,_),(_,_)] rfl ⟨z1 rfl,z8 hg14_1 rfl,zt rfl,z3 false rfl,z1 rfl,zt rfl,z3 false rfl,zp rfl (LOp.drop [_] (op_assign _ _ _ _ rfl rfl)),zz⟩ ?_
             exact hl123 _ (Option.some.inj h).symm
          ·have h := cond_f hb120 h
           refine ht_skip ?_
           refine pt_inb ?_
           refine pt_pick [0, 4] (by kernel_rfl) (es' := [(_,_),(_,_)]) rfl ?_
           exact hl97 _ (Option.some.inj h).symm
      ·intro u101 h hl102 hr103
       refine zgg hn [_,_,_,_,_,_,_,_,(38,vb (f.Kind == 1)),(37,vb (f.Kind == 1))] [0,1,2,3,4,5,6,7] [0,1,2,3,4,5,6,7,9] [zq [7] 8 38,zq [8] 9 37] [(_,_),(_,_),(_,_),(_,_),(_,_),(_,_),(_,_),(_,_),(_,_)] rfl ⟨z4 rfl rfl,z2 rfl,zz⟩ ?_
       refine ht_cond _ rfl (fun hb104 => ?_) (fun hb104 => ?_)
       ·have h := cond_t hb104 h
        refine ht_skip ?_
        exact hl102 _ (Option.some.inj h).symm
       ·have h := cond_f hb104 h
        refine zg hn [_,_,_,_,_,_,_,_,_,(39,vb (f.Kind == 2)),(37,vb (f.Kind == 2))] [0,1,2,3,4,5,6,7,8] [0,1,2,3,4,5,6,7,10] [zq [7] 9 39,⟨[9],[8],[10],[(.slot 37)]⟩] [(_,_),(_,_),(_,_),(_,_),(_,_),(_,_),(_,_),(_,_),(_,_)] rfl ⟨z4 rfl rfl,zp rfl (LOp.drop [_] (op_assign _ _ _ _ rfl rfl)),zz⟩ ?_
        exact hl102 _ (Option.some.inj h).symm
   ·intro u6 h hl7 hr8
    refine cond_some h (fun hg3_3 h => ?_) (fun hg3_3 h => ?_)
    ·refine zg hn [_,_,_,_,_,(27,.ptr 1 3),(28,vi f.Seq),(29,vb (decide (0 ≤ f.Seq))),(30,vb true),(31,.ptr 1 3),(32,vi f.Seq),(33,vb (decide (f.Seq ≤ 7))),(34,vb (decide (f.Seq ≤ 7))),(7,vb (decide (f.Seq ≤ 7)))] [0,1,2,3,4] [0,1,2,3,4,13] [zq [0] 5 27,zq [5,0] 6 28,zq [6] 7 29,zq [7] 8 30,zq [8,0] 9 31,zq [8,9,0] 10 32,zq [8,10] 11 33,zq [8,11] 12 34,zq [12] 13 7] [(_,_),(_,_),(_,_),(_,_),(_,_),(_,_)] rfl ⟨zp rfl (oF underlying41 rfl sz3),zp rfl (oL underlying3 rfl),z4 rfl rfl,z8 hg3_3 rfl,zr' rfl (oF underlying41 rfl sz3),zr' rfl (oL underlying3 rfl),zr' rfl (oB rfl rfl),z3 true rfl,z2 rfl,zz⟩ ?_
     exact hl7 _ (Option.some.inj h).symm
    ·refine zg hn [_,_,_,_,_,(27,.ptr 1 3),(28,vi f.Seq),(29,vb (decide (0 ≤ f.Seq))),(30,vb false),(31,.v undef),(32,.v undef),(33,.v undef),(34,vb false),(7,vb false)] [0,1,2,3,4] [0,1,2,3,4,13] [zq [0] 5 27,zq [5,0] 6 28,zq [6] 7 29,zq [7] 8 30,zq [8] 9 31,zq [8] 10 32,zq [8] 11 33,zq [8] 12 34,zq [12] 13 7] [(_,_),(_,_),(_,_),(_,_),(_,_),(_,_)] rfl ⟨zp rfl (oF underlying41 rfl sz3),zp rfl (oL underlying3 rfl),z4 rfl rfl,z8 hg3_3 rfl,zt rfl,zt rfl,zt rfl,z3 false rfl,z2 rfl,zz⟩ ?_
     exact hl7 _ (Option.some.inj h).symm
  ·intro u2 h hl3 hr4
   refine cond_some h (fun hg2_3 h => ?_) (fun hg2_3 h => ?_)
   ·refine zg hn [_,_,_,_,(19,.ptr 1 2),(20,vi f.Offset),(21,vb (decide (0 ≤ f.Offset))),(22,vb true),(23,.ptr 1 2),(24,vi f.Offset),(25,vb (decide (f.Offset ≤ 5000))),(26,vb (decide (f.Offset ≤ 5000))),(6,vb (decide (f.Offset ≤ 5000)))] [0,1,2,3] [0,1,2,3,12] [zq [0] 4 19,zq [4,0] 5 20,zq [5] 6 21,zq [6] 7 22,zq [7,0] 8 23,zq [7,8,0] 9 24,zq [7,9] 10 25,zq [7,10] 11 26,zq [11] 12 6] [(_,_),(_,_),(_,_),(_,_),(_,_)] rfl ⟨zp rfl (oF underlying41 rfl sz3),zp rfl (oL underlying3 rfl),z4 rfl rfl,z8 hg2_3 rfl,zr' rfl (oF underlying41 rfl sz3),zr' rfl (oL underlying3 rfl),zr' rfl (oB rfl rfl),z3 true rfl,z2 rfl,zz⟩ ?_
    exact hl3 _ (Option.some.inj h).symm
   ·refine zg hn [_,_,_,_,(19,.ptr 1 2),(20,vi f.Offset),(21,vb (decide (0 ≤ f.Offset))),(22,vb false),(23,.v undef),(24,.v undef),(25,.v undef),(26,vb false),(6,vb false)] [0,1,2,3] [0,1,2,3,12] [zq [0] 4 19,zq [4,0] 5 20,zq [5] 6 21,zq [6] 7 22,zq [7] 8 23,zq [7] 9 24,zq [7] 10 25,zq [7] 11 26,zq [11] 12 6] [(_,_),(_,_),(_,_),(_,_),(_,_)] rfl ⟨zp rfl (oF underlying41 rfl sz3),zp rfl (oL underlying3 rfl),z4 rfl rfl,z8 hg2_3 rfl,zt rfl,zt rfl,zt rfl,z3 false rfl,z2 rfl,zz⟩ ?_
    exact hl3 _ (Option.some.inj h).symm
theorem ok_taker_answer_sh (t : T_Take) (f : T_Frame) (r : T_taker_result) (h : Sh.taker_answer_sh t f = some r) : FnOK Tryd.prog 29 [.agg [.v (.bool t.Open), .v (.int .i64 t.Number), .v (.int .i64 t.Total)], .agg [.v (.int .i64 f.Kind), .v (.int .i64 f.Number), .v (.int .i64 f.Offset), .v (.int .i64 f.Seq), .fl .shr 1 (List.map (Value.int .u8) f.Data)]] (.agg [.v (.bool r.take.Open), .v (.int .i64 r.take.Number), .v (.int .i64 r.take.Total), .fr .shr true 15 (List.flatten (List.map T_Rec.ienc r.recs)), .fr .shr true 5 (List.flatten (List.map T_Frame.ienc r.out))]) := by
  unfold Sh.taker_answer_sh at h
  refine fn_ok func29 rfl (zl rfl) rfl rfl fun g0 hn hio => ?_
  refine zgg hn [_,_,(2,.box 24 [vb t.Open,vi t.Number,vi t.Total]),(3,.box 41 [vi f.Kind,vi f.Number,vi f.Offset,vi f.Seq,.fl .shr 1 (List.map (Value.int .u8) f.Data)]),(4,.box 60 [vb false,vi 0,vi 0,.v (.slice none 0 0),.v (.slice none 0 0)])] [0,1] [2,3,4] [zq [0] 2 2,zq [1] 3 3,zq [] 4 4] [(_,_),(_,_),(_,_)] rfl ⟨zp rfl (op_box _ _ _ _ rfl rfl rfl),zp rfl (op_box _ _ _ _ rfl rfl rfl),zp rfl (op_alloc _ _ zr60),zz⟩ ?_
  refine zgg hn [_,_,_,(5,.agg [vb t.Open,vi t.Number,vi t.Total]),(6,.agg [vi f.Kind,vi f.Number,vi f.Offset,vi f.Seq,.fl .shr 1 (List.map (Value.int .u8) f.Data)]),(7,.fr (.own 41) true 5 (List.flatten (List.map T_Frame.ienc [f]))),(8,.agg [vb t.Open,vi t.Number,vi t.Total,.v (.slice none 0 0),.fr (.own 41) true 5 (List.flatten (List.map T_Frame.ienc [f]))]),(4,.box 60 [vb t.Open,vi t.Number,vi t.Total,.v (.slice none 0 0),.fr (.own 41) true 5 (List.flatten (List.map T_Frame.ienc [f]))])] [0,1,2] [7] [zq [0] 3 5,zq [1] 4 6,zq [4] 5 7,⟨[3],[5],[6],[(.slot 8)]⟩,⟨[],[6,2],[7],[.cell 4 0,.cell 4 1,.cell 4 2,.cell 4 3,.cell 4 4]⟩] [(_,_)] rfl ⟨zp rfl (op_loadA _ _ _ _ _ _ _ underlying24 rfl sz24 rfl rfl (zl rfl) rfl rfl),zp rfl (op_loadA _ _ _ _ _ _ _ underlying41 rfl sz41 rfl rfl (zl rfl) rfl rfl),zp rfl (op_build1_fr _ _ _ 5 (.agg #[.int .i64 0, .int .i64 0, .int .i64 0, .int .i64 0, .slice none 0 0]) true _ _ underlying36 sz41 zr41 rfl rfl (.cons (.v _) (.cons (.v _) (.cons (.v _) (.cons (.v _) (.cons (.shr _ _ rfl rfl) (.nil)))))) rfl (by decide) (by decide)),zp rfl (op_build _ _ _ _ [3, 1, 1] _ _ underlying60 zr60 (fs60 _ underlying60) (.copy _ (.take _ _ Src.nil)) rfl rfl rfl),zp rfl (op_store_take _ _ _ _ _ _ _ _ sz60 rfl rfl rfl (zl rfl) rfl rfl),zz⟩ ?_
  refine ht_ret ?_
  refine pt_sub (fs := [(4, .box 60 [.v (.bool t.Open), .v (.int .i64 t.Number), .v (.int .i64 t.Total), .fr .shr true 15 (List.flatten (List.map T_Rec.ienc [])), .fr (.own 41) true 5 (List.flatten (List.map T_Frame.ienc [f]))])]) (.box _ _ (subs_cons (sub_refl _) (subs_cons (sub_refl _) (subs_cons (sub_refl _) (subs_cons (sub_nil_frs true 15) (subs_cons (sub_refl _) (subs_nil)))))) rfl .nil) ?_
  refine pt_frz 0 hio (es' := [(4, .box 60 [.v (.bool t.Open), .v (.int .i64 t.Number), .v (.int .i64 t.Total), .fr .shr true 15 (List.flatten (List.map T_Rec.ienc [])), .fr .ro true 5 (List.flatten (List.map T_Frame.ienc [f]))])]) rfl ?_
  refine pt_sub (fs := [(4, .box 60 [.v (.bool t.Open), .v (.int .i64 t.Number), .v (.int .i64 t.Total), .fr .shr true 15 (List.flatten (List.map T_Rec.ienc [])), .fr .shr true 5 (List.flatten (List.map T_Frame.ienc [f]))])]) (.box _ _ (subs_cons (sub_refl _) (subs_cons (sub_refl _) (subs_cons (sub_refl _) (subs_cons (sub_refl _) (subs_cons (sub_fr_shr _ _ _) (subs_nil)))))) rfl .nil) ?_
  obtain rfl := Option.some.inj h
  exact pt_ret hio rfl (.cellA _ _ _ _ underlying60 rfl sz60 .nil) rfl rfl
theorem ok_taker_Far (s : T_Spool) (number : Int) (r : Int) (h : Sh.taker_Far s number = some r) : FnOK Tryd.prog 7 [.agg [.fr .shr true 11 (List.flatten (List.map T_Item.ienc s.Items)), .v (.int .i64 s.Packs), .fl .shr 1 (List.map (Value.int .i64) s.Sent), .fl .shr 1 (List.map (Value.int .u8) s.Part), .v (.int .i64 s.Of), .fl .shr 1 (List.map (Value.int .i64) s.Done)], .v (.int .i64 number)] (.v (.int .i64 r)) := by
  unfold Sh.taker_Far at h
  refine fn_ok func7 rfl (zl rfl) rfl rfl fun g0 hn hio => ?_
  refine zgg hn [_,_,(2,.box 31 [.fr .shr true 11 (List.flatten (List.map T_Item.ienc s.Items)),vi s.Packs,.fl .shr 1 (List.map (Value.int .i64) s.Sent),.fl .shr 1 (List.map (Value.int .u8) s.Part),vi s.Of,.fl .shr 1 (List.map (Value.int .i64) s.Done)]),(4,vi 0)] [0,1] [1,2] [zq [0] 2 2,zq [] 3 4] [(_,_),(_,_)] rfl ⟨zp rfl (op_box _ _ _ _ rfl rfl rfl),z2 rfl,zz⟩ ?_
  refine ht_seq ?_
  refine zgg hn [_,_,(5,.ptr 2 4),(6,vi s.Of),(7,vi number),(8,vb (s.Of != number))] [0,1] [1,5] [zq [1] 2 5,zq [2,1] 3 6,zq [0] 4 7,zq [3,4] 5 8] [(_,_),(_,_)] rfl ⟨zp rfl (oF underlying31 rfl sz3),zp rfl (oL underlying3 rfl),z1 rfl,z4 rfl rfl,zz⟩ ?_
  refine ht_cond _ rfl (fun hb1 => ?_) (fun hb1 => ?_)
  ·have h := cond_t hb1 h
   refine zgg hn [_,_,(4,vi 0)] [0,1] [2] [zq [] 2 4] [(_,_)] rfl ⟨z2 rfl,zz⟩ ?_
   refine ht_ret ?_
   refine pt_r_then ?_
   obtain rfl := Option.some.inj h
   exact pt_ret hio rfl (.tmp _ _ .nil) rfl rfl
  ·have h := cond_f hb1 h
   refine ht_skip ?_
   refine pt_then ?_
   refine zgg hn [_,_,(9,.ptr 2 3),(10,.fl .shr 1 (List.map (Value.int .u8) s.Part)),(11,vi (s.Part.length : Int)),(4,vi (s.Part.length : Int))] [0,1] [5] [zq [0] 2 9,zq [2,0] 3 10,zq [3] 4 11,zq [4] 5 4] [(_,_)] rfl ⟨zp rfl (oF underlying31 rfl sz29),zp rfl (oL underlying29 rfl),zp rfl (op_len_fl _ _ _ underlying29 rfl (by decide) (map_len _)),z2 rfl,zz⟩ ?_
   refine ht_ret ?_
   obtain rfl := Option.some.inj h
   exact pt_ret hio rfl (.tmp _ _ .nil) rfl rfl
theorem ok_taker_hello_sh (off : Int) (f : T_Frame) (r : (T_taker_result × Int)) (h : Sh.taker_hello_sh off f = some r) : FnOK Tryd.prog 30 [.v (.int .i64 off), .agg [.v (.int .i64 f.Kind), .v (.int .i64 f.Number), .v (.int .i64 f.Offset), .v (.int .i64 f.Seq), .fl .shr 1 (List.map (Value.int .u8) f.Data)]] (.tup [.agg [.v (.bool r.1.take.Open), .v (.int .i64 r.1.take.Number), .v (.int .i64 r.1.take.Total), .fr .shr true 15 (List.flatten (List.map T_Rec.ienc r.1.recs)), .fr .shr true 5 (List.flatten (List.map T_Frame.ienc r.1.out))], .v (.int .i64 r.2)]) := by
  unfold Sh.taker_hello_sh at h
  refine fn_ok func30 rfl (zl rfl) rfl rfl fun g0 hn hio => ?_
  refine zgg hn [_,_,(3,.box 41 [vi f.Kind,vi f.Number,vi f.Offset,vi f.Seq,.fl .shr 1 (List.map (Value.int .u8) f.Data)]),(4,.box 60 [vb false,vi 0,vi 0,.v (.slice none 0 0),.v (.slice none 0 0)]),(5,vi 0)] [0,1] [0,2,3] [zq [1] 2 3,zq [] 3 4,zq [] 4 5] [(_,_),(_,_),(_,_)] rfl ⟨zp rfl (op_box _ _ _ _ rfl rfl rfl),zp rfl (op_alloc _ _ zr60),z2 rfl,zz⟩ ?_
  refine ht_seq ?_
  refine ht_seq ?_
  refine ht_joinS h (fun (s1 : Bool) => [(0, .v (.int .i64 off)), (3, .box 41 [.v (.int .i64 f.Kind), .v (.int .i64 f.Number), .v (.int .i64 f.Offset), .v (.int .i64 f.Seq), .fl .shr 1 (List.map (Value.int .u8) f.Data)]), (4, .box 60 [.v (.bool false), .v (.int .i64 0), .v (.int .i64 0), .v (.slice none 0 0), .v (.slice none 0 0)]), (15, .v (.bool s1))]) ?_ ?_
  ·rintro s1 h
   refine pt_then ?_
   refine ht_cond _ rfl (fun hb5 => ?_) (fun hb5 => ?_)
   ·have h := cond_t hb5 h
    refine zgg hn [_,_,_,_,(16,.agg [vb false,vi 0,vi 0,.v (.slice none 0 0),.v (.slice none 0 0)]),(4,.box 60 [vb false,vi 0,vi 0,.v (.slice none 0 0),.v (.slice none 0 0)]),(5,vi 11)] [0,1,2,3] [5,6] [zq [] 4 16,⟨[],[4,2],[5],[.cell 4 0,.cell 4 1,.cell 4 2,.cell 4 3,.cell 4 4]⟩,zq [] 6 5] [(_,_),(_,_)] rfl ⟨zp rfl (op_build _ _ _ _ [3, 1, 1] _ _ underlying60 zr60 (fs60 _ underlying60) Src.nil rfl rfl rfl),zp rfl (op_store_self _ _ _ 16 4 5 sz60 rfl rfl rfl rfl rfl (.eq _ (.eq _ (.eq _ (.eq _ (.eq _ (.nil _)))))) rfl),z2 rfl,zz⟩ ?_
    refine ht_ret ?_
    refine pt_sub (fs := [(4, .box 60 [.v (.bool false), .v (.int .i64 0), .v (.int .i64 0), .fr .shr true 15 (List.flatten (List.map T_Rec.ienc [])), .fr .shr true 5 (List.flatten (List.map T_Frame.ienc []))]), (5, .v (.int .i64 11))]) (.box _ _ (subs_cons (sub_refl _) (subs_cons (sub_refl _) (subs_cons (sub_refl _) (subs_cons (sub_nil_frs true 15) (subs_cons (sub_nil_frs true 5) (subs_nil)))))) rfl (.same _ .nil)) ?_
    refine pt_r_then ?_
    obtain rfl := Option.some.inj h
    exact pt_ret hio rfl (.cellA _ _ _ _ underlying60 rfl sz60 (.tmp _ _ .nil)) rfl rfl
   ·have h := cond_f hb5 h
    refine ht_skip ?_
    refine pt_then ?_
    refine zgg hn [_,_,_,_,(17,.ptr 3 1),(18,vi f.Number),(19,.ptr 3 2),(20,vi f.Offset),(21,.agg [vb true,vi f.Number,vi f.Offset]),(6,.box 24 [vb false,vi 0,vi 0]),(6,.box 24 [vb true,vi f.Number,vi f.Offset])] [0,1,2,3] [0,1,2,10] [zq [1] 4 17,zq [4,1] 5 18,zq [1] 6 19,zq [6,1] 7 20,zq [5,7] 8 21,zq [] 9 6,⟨[8],[9],[10],[.cell 6 0,.cell 6 1,.cell 6 2]⟩] [(_,_),(_,_),(_,_),(_,_)] rfl ⟨zp rfl (oF underlying41 rfl sz3),zp rfl (oL underlying3 rfl),zp rfl (oF underlying41 rfl sz3),zp rfl (oL underlying3 rfl),zp rfl (op_build _ _ _ _ [1, 1, 1] _ _ underlying24 zr24 (fs24 _ underlying24) (.copy _ (.copy _ (.copy _ Src.nil))) rfl rfl rfl),zp rfl (op_alloc _ _ zr24),zp rfl (oS sz24 rfl),zz⟩ ?_
    refine ht_seq ?_
    obtain ⟨v6, hv6, h⟩ := bind_some h
    refine zg hn [_,_,_,_,(22,.agg [vb true,vi f.Number,vi f.Offset]),(23,.ptr 3 1),(24,vi f.Number),(25,vi off),(26,.agg [vi 2,vi f.Number,vi off,vi 0,.v (.slice none 0 0)]),(27,.agg [vb v6.take.Open,vi v6.take.Number,vi v6.take.Total,.fr .shr true 15 (List.flatten (List.map T_Rec.ienc v6.recs)),.fr .shr true 5 (List.flatten (List.map T_Frame.ienc v6.out))]),(4,.box 60 [vb v6.take.Open,vi v6.take.Number,vi v6.take.Total,.fr .shr true 15 (List.flatten (List.map T_Rec.ienc v6.recs)),.fr .shr true 5 (List.flatten (List.map T_Frame.ienc v6.out))]),(5,vi 0)] [0,1,2,3] [10,11] [zq [3] 4 22,zq [1] 5 23,zq [5,1] 6 24,zq [0] 7 25,zq [6,7] 8 26,zq [4,8] 9 27,⟨[9],[2],[10],[.cell 4 0,.cell 4 1,.cell 4 2,.cell 4 3,.cell 4 4]⟩,zq [] 11 5] [(_,_),(_,_)] rfl ⟨zp rfl (op_loadA _ _ _ _ _ _ _ underlying24 rfl sz24 rfl rfl (zl rfl) rfl rfl),zp rfl (oF underlying41 rfl sz3),zp rfl (oL underlying3 rfl),z1 rfl,zp rfl (op_build _ _ _ _ [1, 1, 1, 1, 1] _ _ underlying41 zr41 (fs41 _ underlying41) (.copy _ (.copy _ (.copy _ Src.nil))) rfl rfl rfl),zp rfl (op_callS _ _ 29 _ _ rfl call29 rfl rfl ((ok_taker_answer_sh (T_Take.mk true f.Number f.Offset) (T_Frame.mk 2 f.Number off 0 []) _ hv6).args (subs_cons (sub_refl _) (subs_cons (sub_agg (subs_cons (sub_refl _) (subs_cons (sub_refl _) (subs_cons (sub_refl _) (subs_cons (sub_refl _) (subs_cons (sub_nil_shr 1) (subs_nil))))))) (subs_nil)))) rfl),zp rfl (oS sz60 rfl),z2 rfl,zz⟩ ?_
    refine pt_then (ht_ret ?_)
    obtain rfl := Option.some.inj h
    exact pt_ret hio rfl (.cellA _ _ _ _ underlying60 rfl sz60 (.tmp _ _ .nil)) rfl rfl
  ·intro u2 h hl3 hr4
   refine cond_some h (fun hg1_3 h => ?_) (fun hg1_3 h => ?_)
   ·refine zg hn [_,_,_,(7,.ptr 3 2),(8,vi f.Offset),(9,vb (f.Offset == 0)),(10,vb true),(11,.v undef),(12,.v undef),(13,.v undef),(14,.v undef),(15,vb true)] [0,1,2] [0,1,2,11] [zq [1] 3 7,zq [3,1] 4 8,zq [4] 5 9,zq [5] 6 10,zq [6] 7 11,zq [6] 8 12,zq [6] 9 13,zq [6] 10 14,zq [6] 11 15] [(_,_),(_,_),(_,_),(_,_)] rfl ⟨zp rfl (oF underlying41 rfl sz3),zp rfl (oL underlying3 rfl),z4 rfl rfl,z8 hg1_3 rfl,zf rfl,zf rfl,zf rfl,zf rfl,z3 true rfl,zz⟩ ?_
    exact hl3 _ (Option.some.inj h).symm
   ·refine zg hn [_,_,_,(7,.ptr 3 2),(8,vi f.Offset),(9,vb (f.Offset == 0)),(10,vb false),(11,.ptr 3 2),(12,vi f.Offset),(13,vi off),(14,vb (decide (f.Offset < off))),(15,vb (decide (f.Offset < off)))] [0,1,2] [0,1,2,11] [zq [1] 3 7,zq [3,1] 4 8,zq [4] 5 9,zq [5] 6 10,zq [6,1] 7 11,zq [6,7,1] 8 12,zq [6,0] 9 13,zq [6,8,9] 10 14,zq [6,10] 11 15] [(_,_),(_,_),(_,_),(_,_)] rfl ⟨zp rfl (oF underlying41 rfl sz3),zp rfl (oL underlying3 rfl),z4 rfl rfl,z8 hg1_3 rfl,zr' rfl (oF underlying41 rfl sz3),zr' rfl (oL underlying3 rfl),zr' rfl (oM rfl),zr' rfl (oB rfl rfl),z3 false rfl,zz⟩ ?_
    exact hl3 _ (Option.some.inj h).symm
theorem ok_taker_ack (number : Int) (piece : Int) (r : T_Frame) (h : Sh.taker_ack number piece = some r) : FnOK Tryd.prog 43 [.v (.int .i64 number), .v (.int .i64 piece)] (.agg [.v (.int .i64 r.Kind), .v (.int .i64 r.Number), .v (.int .i64 r.Offset), .v (.int .i64 r.Seq), .fl (.own 5) 1 (List.map (Value.int .u8) r.Data)]) := by
  unfold Sh.taker_ack at h
  refine fn_ok func43 rfl (zl rfl) rfl rfl fun g0 hn hio => ?_
  refine zgg hn [_,_,(4,.box 41 [vi 0,vi 0,vi 0,vi 0,.v (.slice none 0 0)])] [0,1] [0,1,2] [zq [] 2 4] [(_,_),(_,_),(_,_)] rfl ⟨zp rfl (op_alloc _ _ zr41),zz⟩ ?_
  refine ht_seq ?_
  obtain ⟨v1, hv1, h⟩ := bind_some h
  refine zg hn [_,_,_,(5,vi number),(6,vi piece),(7,vi v1),(8,.agg [vi 4,vi number,vi 0,vi v1,.v (.slice none 0 0)]),(4,.box 41 [vi 4,vi number,vi 0,vi v1,.v (.slice none 0 0)])] [0,1,2] [7] [zq [0] 3 5,zq [1] 4 6,zq [4] 5 7,zq [3,5] 6 8,⟨[6],[2],[7],[.cell 4 0,.cell 4 1,.cell 4 2,.cell 4 3,.cell 4 4]⟩] [(_,_)] rfl ⟨z1 rfl,z1 rfl,zp rfl (oB rfl (rem_ok hv1)),zp rfl (op_build _ _ _ _ [1, 1, 1, 1, 1] _ _ underlying41 zr41 (fs41 _ underlying41) (.copy _ (.copy _ (.copy _ Src.nil))) rfl rfl rfl),zp rfl (oS sz41 rfl),zz⟩ ?_
  refine pt_then (ht_ret ?_)
  refine pt_sub (fs := [(4, .box 41 [.v (.int .i64 4), .v (.int .i64 number), .v (.int .i64 0), .v (.int .i64 v1), .fl (.own 5) 1 (List.map (Value.int .u8) [])])]) (.box _ _ (subs_cons (sub_refl _) (subs_cons (sub_refl _) (subs_cons (sub_refl _) (subs_cons (sub_refl _) (subs_cons (sub_nil 5 1) (subs_nil)))))) rfl .nil) ?_
  obtain rfl := Option.some.inj h
  exact pt_ret hio rfl (.cellA _ _ _ _ underlying41 rfl sz41 .nil) rfl rfl
end Go.Proofs.YthhebpiaknfnhaaDoor
