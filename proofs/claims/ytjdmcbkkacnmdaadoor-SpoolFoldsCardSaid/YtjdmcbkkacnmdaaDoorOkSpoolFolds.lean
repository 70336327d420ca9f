/-
  The model's runs are what is told in Lean.
-/
import Derived.Test.YtjdmcbkkacnmdaaDoorProg
import Derived.KernelRfl
import Derived.Test.YtjdmcbkkacnmdaaDoorShelf
import Derived.Test.YtjdmcbkkacnmdaaDoorIdx
import Derived.Test.YtjdmcbkkacnmdaaDoorIns
import Derived.Test.YtjdmcbkkacnmdaaDoorB1
import Derived.Test.YtjdmcbkkacnmdaaDoorOkc3
set_option linter.unusedVariables false
set_option linter.unusedSimpArgs false
set_option maxHeartbeats 1000000
namespace Go.Proofs.YtjdmcbkkacnmdaaDoor
open Go.Abs Go.Abs.Sh Tryd

theorem ok_wherrylaw19_SpoolFolds (mx : Int) (l : (List T_Rec)) (at_ : Int) (r : Bool) (h : Sh.wherrylaw19_SpoolFolds l at_ = some r) : FnG Tryd.prog (GL mx) 6 [.fr .shr true 15 (List.flatten (List.map T_Rec.ienc l)), .v (.int .i64 at_)] (.v (.bool r)) := by
  unfold Sh.wherrylaw19_SpoolFolds at h
  refine fn_okG func6 rfl (zl rfl) rfl rfl fun g0 hn hio => ?_
  refine zgg hn [_,_,_,(4,vb false)] [0,1,2] [0,1,2] [zq [] 3 4] [(_,_),(_,_),(_,_)] rfl ⟨z2 rfl,zz⟩ ?_
  refine ht_seq ?_
  refine ht_seq ?_
  obtain ⟨v1, hv1, h⟩ := bind_some h
  refine zg hn [_,_,_,(14,.fr .shr true 15 (List.flatten (List.map T_Rec.ienc l))),(15,vb v1)] [0,1,2] [0,1,2,4] [zq [0] 3 14,zq [3] 4 15] [(_,_),(_,_),(_,_),(_,_)] rfl ⟨z1 rfl,zp rfl (op_call _ _ 8 _ _ rfl call8 rfl (ok_wherrylaw18_Heavy l _ hv1) rfl rfl),zz⟩ ?_
  refine pt_then ?_
  refine ht_cond _ rfl (fun hb2 => ?_) (fun hb2 => ?_)
  ·have h := cond_t hb2 h
   refine zgg hn [_,_,_,_,(4,vb true)] [0,1,2,3] [2,4] [zq [] 4 4] [(_,_),(_,_)] rfl ⟨z2 rfl,zz⟩ ?_
   refine ht_ret ?_
   refine pt_pick [1] (by kernel_rfl) (es' := [(_,_)]) rfl ?_
   refine pt_r_then ?_
   obtain rfl := Option.some.inj h
   exact pt_ret hio rfl (.tmp _ _ .nil) rfl rfl
  ·have h := cond_f hb2 h
   refine ht_skip ?_
   refine pt_then (ht_seq ?_)
   obtain ⟨v3, hv3, h⟩ := bind_some h
   refine zg hn [_,_,_,_,(17,.fr .shr true 15 (List.flatten (List.map T_Rec.ienc l))),(18,.tup [.agg [.fr (.own 41) false 11 (List.flatten (List.map T_Item.ienc v3.1.Items)),vi v3.1.Packs,.fl (.own 3) 1 (List.map (Value.int .i64) v3.1.Sent),.fl (.own 5) 1 (List.map (Value.int .u8) v3.1.Part),vi v3.1.Of,.fl (.own 3) 1 (List.map (Value.int .i64) v3.1.Done)],vi v3.2]),(16,.tup [.agg [.fr (.own 41) false 11 (List.flatten (List.map T_Item.ienc v3.1.Items)),vi v3.1.Packs,.fl (.own 3) 1 (List.map (Value.int .i64) v3.1.Sent),.fl (.own 5) 1 (List.map (Value.int .u8) v3.1.Part),vi v3.1.Of,.fl (.own 3) 1 (List.map (Value.int .i64) v3.1.Done)],vi v3.2]),(19,.agg [.fr (.own 41) false 11 (List.flatten (List.map T_Item.ienc v3.1.Items)),vi v3.1.Packs,.fl (.own 3) 1 (List.map (Value.int .i64) v3.1.Sent),.fl (.own 5) 1 (List.map (Value.int .u8) v3.1.Part),vi v3.1.Of,.fl (.own 3) 1 (List.map (Value.int .i64) v3.1.Done)]),(16,.tup [.any,vi v3.2]),(20,vi v3.2),(5,.box 28 [.v (.slice none 0 0),vi 0,.v (.slice none 0 0),.v (.slice none 0 0),vi 0,.v (.slice none 0 0)]),(5,.box 28 [.fr (.own 41) false 11 (List.flatten (List.map T_Item.ienc v3.1.Items)),vi v3.1.Packs,.fl (.own 3) 1 (List.map (Value.int .i64) v3.1.Sent),.fl (.own 5) 1 (List.map (Value.int .u8) v3.1.Part),vi v3.1.Of,.fl (.own 3) 1 (List.map (Value.int .i64) v3.1.Done)]),(6,vi v3.2)] [0,1,2,3] [0,1,2,11,12] [zq [0] 4 17,zq [4,2] 5 18,⟨[],[5],[6],[(.slot 16)]⟩,⟨[],[6],[8,7],[(.slot 19)]⟩,zq [8] 9 20,zq [] 10 5,⟨[],[7,10],[11],[.cell 5 0,.cell 5 1,.cell 5 2,.cell 5 3,.cell 5 4,.cell 5 5]⟩,zq [9] 12 6] [(_,_),(_,_),(_,_),(_,_),(_,_)] rfl ⟨z1 rfl,zp rfl (op_callG _ _ 85 16 _ _ rfl call16 rfl rfl (fun _ h => h) (ok_spool_Fold mx l _ hv3) rfl rfl),zp rfl (op_move_take _ _ _ _ rfl),zp rfl (op_extract_take _ _ _ _ _ rfl (zl rfl) rfl rfl (by decide) rfl),zp rfl (oE rfl),zp rfl (op_alloc _ _ zr28),zp rfl (op_store_take _ _ _ _ _ _ _ _ sz28 rfl rfl rfl (zl rfl) rfl rfl),z2 rfl,zz⟩ ?_
   refine pt_then (ht_seq ?_)
   refine ht_seq ?_
   refine ht_joinS h (fun (s4 : Bool) => [(0, .fr .shr true 15 (List.flatten (List.map T_Rec.ienc l))), (1, .v (.int .i64 at_)), (85, .glob (GL mx)), (5, .box 28 [.fr (.own 41) false 11 (List.flatten (List.map T_Item.ienc v3.1.Items)), .v (.int .i64 v3.1.Packs), .fl (.own 3) 1 (List.map (Value.int .i64) v3.1.Sent), .fl (.own 5) 1 (List.map (Value.int .u8) v3.1.Part), .v (.int .i64 v3.1.Of), .fl (.own 3) 1 (List.map (Value.int .i64) v3.1.Done)]), (6, .v (.int .i64 v3.2)), (28, .v (.bool s4))]) ?_ ?_
   ·rintro s4 h
    refine pt_then ?_
    refine ht_cond _ rfl (fun hb8 => ?_) (fun hb8 => ?_)
    ·have h := cond_t hb8 h
     refine zgg hn [_,_,_,_,_,_,(4,vb false)] [0,1,2,3,4,5] [2,6] [zq [] 6 4] [(_,_),(_,_)] rfl ⟨z2 rfl,zz⟩ ?_
     refine ht_ret ?_
     refine pt_pick [1] (by kernel_rfl) (es' := [(_,_)]) rfl ?_
     refine pt_r_then ?_
     obtain rfl := Option.some.inj h
     exact pt_ret hio rfl (.tmp _ _ .nil) rfl rfl
    ·have h := cond_f hb8 h
     refine ht_skip ?_
     refine pt_then (ht_seq ?_)
     obtain ⟨v9, hv9, h⟩ := bind_some h
     obtain ⟨v10, hv10, h⟩ := bind_some h
     obtain ⟨v11, hv11, h⟩ := bind_some h
     obtain ⟨v12, hv12, h⟩ := bind_some h
     obtain ⟨v13, hv13, h⟩ := bind_some h
     refine zg hn [_,_,_,_,_,_,(29,vi at_),(30,.v (.int .u64 v9)),(31,vi v3.2),(32,vi v10),(33,.v (.int .u64 v11)),(34,.v (.int .u64 v12)),(35,vi v13),(1,vi v13)] [0,1,2,3,4,5] [0,2,3,4,13] [zq [1] 6 29,zq [6] 7 30,zq [4] 8 31,zq [8] 9 32,zq [9] 10 33,zq [7,10] 11 34,zq [11] 12 35,⟨[12],[1],[13],[(.slot 1)]⟩] [(_,_),(_,_),(_,_),(_,_),(_,_)] rfl ⟨z1 rfl,zp rfl ((Option.some.inj hv9) ▸ op_conv _ _ _ underlying3 underlying46 rfl),z1 rfl,zp rfl (oB rfl (ibind (f := Value.int .i64) (Option.some.inj hv10))),zp rfl ((Option.some.inj hv11) ▸ op_conv _ _ _ underlying3 underlying46 rfl),zp rfl (oB rfl (rem_ok hv12)),zp rfl ((Option.some.inj hv13) ▸ op_conv _ _ _ underlying46 underlying3 rfl),zp rfl (LOp.drop [_] (op_assign _ _ _ _ rfl rfl)),zz⟩ ?_
     refine pt_then (ht_seq ?_)
     obtain ⟨v14, hv14, h⟩ := bind_some h
     obtain ⟨v15, hv15, h⟩ := bind_some h
     refine zg hn (_::_::_::_::_::(37,.fr .shr true 15 (List.flatten (List.map T_Rec.ienc l)))::(38,vi v13)::(39,.fr .shr true 15 (List.flatten (List.map T_Rec.ienc v14)))::(40,.tup [.agg [.fr (.own 41) false 11 (List.flatten (List.map T_Item.ienc v15.1.Items)),vi v15.1.Packs,.fl (.own 3) 1 (List.map (Value.int .i64) v15.1.Sent),.fl (.own 5) 1 (List.map (Value.int .u8) v15.1.Part),vi v15.1.Of,.fl (.own 3) 1 (List.map (Value.int .i64) v15.1.Done)],vi v15.2])::(36,.tup [.agg [.fr (.own 41) false 11 (List.flatten (List.map T_Item.ienc v15.1.Items)),vi v15.1.Packs,.fl (.own 3) 1 (List.map (Value.int .i64) v15.1.Sent),.fl (.own 5) 1 (List.map (Value.int .u8) v15.1.Part),vi v15.1.Of,.fl (.own 3) 1 (List.map (Value.int .i64) v15.1.Done)],vi v15.2])::(41,.agg [.fr (.own 41) false 11 (List.flatten (List.map T_Item.ienc v15.1.Items)),vi v15.1.Packs,.fl (.own 3) 1 (List.map (Value.int .i64) v15.1.Sent),.fl (.own 5) 1 (List.map (Value.int .u8) v15.1.Part),vi v15.1.Of,.fl (.own 3) 1 (List.map (Value.int .i64) v15.1.Done)])::(36,.tup [.any,vi v15.2])::(42,vi v15.2)::(7,.box 28 [.v (.slice none 0 0),vi 0,.v (.slice none 0 0),.v (.slice none 0 0),vi 0,.v (.slice none 0 0)])::(7,.box 28 [.fr (.own 41) false 11 (List.flatten (List.map T_Item.ienc v15.1.Items)),vi v15.1.Packs,.fl (.own 3) 1 (List.map (Value.int .i64) v15.1.Sent),.fl (.own 5) 1 (List.map (Value.int .u8) v15.1.Part),vi v15.1.Of,.fl (.own 3) 1 (List.map (Value.int .i64) v15.1.Done)])::(8,vi v15.2)::[]) [0,1,2,3,4] [0,1,2,3,4,14,15] [zq [0] 5 37,zq [4] 6 38,zq [5,6] 7 39,zq [7,1] 8 40,⟨[],[8],[9],[(.slot 36)]⟩,⟨[],[9],[11,10],[(.slot 41)]⟩,zq [11] 12 42,zq [] 13 7,⟨[],[10,13],[14],[.cell 7 0,.cell 7 1,.cell 7 2,.cell 7 3,.cell 7 4,.cell 7 5]⟩,zq [12] 15 8] [(_,_),(_,_),(_,_),(_,_),(_,_),(_,_),(_,_)] rfl ⟨z1 rfl,z1 rfl,zp rfl (op_slice_fr _ _ (Int.toNat 0) (Int.toNat v13) _ underlying22 sz39 (by decide) rfl rfl rfl ⟨_, congrArg (fun j => AV.v (Value.int .i64 j)) (sli_bd hv14).2.1⟩ (sli_bd hv14).2.2.1 (by rw [gflat_len T_Rec.ilen]; exact Nat.mul_le_mul_right _ (sli_bd hv14).2.2.2) (gflat_sli T_Rec.ilen hv14)),zp rfl (op_callG _ _ 85 16 _ _ rfl call16 rfl rfl (fun _ h => h) (ok_spool_Fold mx v14 _ hv15) rfl rfl),zp rfl (op_move_take _ _ _ _ rfl),zp rfl (op_extract_take _ _ _ _ _ rfl (zl rfl) rfl rfl (by decide) rfl),zp rfl (oE rfl),zp rfl (op_alloc _ _ zr28),zp rfl (op_store_take _ _ _ _ _ _ _ _ sz28 rfl rfl rfl (zl rfl) rfl rfl),z2 rfl,zz⟩ ?_
     refine pt_then (ht_seq ?_)
     refine zgg hn [_,_,_,_,_,_,_,(43,vi v15.2),(44,vi v13),(45,vb (v15.2 != v13))] [0,1,2,3,4,5,6] [0,1,2,3,4,5,9] [zq [6] 7 43,zq [4] 8 44,zq [7,8] 9 45] [(_,_),(_,_),(_,_),(_,_),(_,_),(_,_),(_,_)] rfl ⟨z1 rfl,z1 rfl,z4 rfl rfl,zz⟩ ?_
     refine ht_cond _ rfl (fun hb16 => ?_) (fun hb16 => ?_)
     ·have h := cond_t hb16 h
      refine zgg hn [_,_,_,_,_,_,_,(4,vb false)] [0,1,2,3,4,5,6] [1,7] [zq [] 7 4] [(_,_),(_,_)] rfl ⟨z2 rfl,zz⟩ ?_
      refine ht_ret ?_
      refine pt_pick [1] (by kernel_rfl) (es' := [(_,_)]) rfl ?_
      refine pt_r_then ?_
      obtain rfl := Option.some.inj h
      exact pt_ret hio rfl (.tmp _ _ .nil) rfl rfl
     ·have h := cond_f hb16 h
      refine ht_skip ?_
      refine pt_then (ht_seq ?_)
      refine zgg hn [_,_,_,_,_,_,_,(46,vi v13),(9,vi v13)] [0,1,2,3,4,5,6] [0,1,2,3,5,8] [zq [4] 7 46,zq [7] 8 9] [(_,_),(_,_),(_,_),(_,_),(_,_),(_,_)] rfl ⟨z1 rfl,z2 rfl,zz⟩ ?_
      refine ht_loopS h (fun ((s32, s33, s34, s35, s36, s37, s38) : (List T_Item) × Int × (List Int) × (List Int) × Int × (List Int) × Int) => [(0, .fr .shr true 15 (List.flatten (List.map T_Rec.ienc l))), (85, .glob (GL mx)), (5, .box 28 [.fr (.own 41) false 11 (List.flatten (List.map T_Item.ienc v3.1.Items)), .v (.int .i64 v3.1.Packs), .fl (.own 3) 1 (List.map (Value.int .i64) v3.1.Sent), .fl (.own 5) 1 (List.map (Value.int .u8) v3.1.Part), .v (.int .i64 v3.1.Of), .fl (.own 3) 1 (List.map (Value.int .i64) v3.1.Done)]), (6, .v (.int .i64 v3.2)), (7, .box 28 [.fr (.own 41) false 11 (List.flatten (List.map T_Item.ienc s32)), .v (.int .i64 s33), .fl (.own 3) 1 (List.map (Value.int .i64) s34), .fl (.own 5) 1 (List.map (Value.int .u8) s35), .v (.int .i64 s36), .fl (.own 3) 1 (List.map (Value.int .i64) s37)]), (9, .v (.int .i64 s38))]) (fun ((s41, s42, s43, s44, s45, s46) : (List T_Item) × Int × (List Int) × (List Int) × Int × (List Int)) => [(0, .fr .shr true 15 (List.flatten (List.map T_Rec.ienc l))), (85, .glob (GL mx)), (5, .box 28 [.fr (.own 41) false 11 (List.flatten (List.map T_Item.ienc v3.1.Items)), .v (.int .i64 v3.1.Packs), .fl (.own 3) 1 (List.map (Value.int .i64) v3.1.Sent), .fl (.own 5) 1 (List.map (Value.int .u8) v3.1.Part), .v (.int .i64 v3.1.Of), .fl (.own 3) 1 (List.map (Value.int .i64) v3.1.Done)]), (6, .v (.int .i64 v3.2)), (7, .box 28 [.fr (.own 41) false 11 (List.flatten (List.map T_Item.ienc s41)), .v (.int .i64 s42), .fl (.own 3) 1 (List.map (Value.int .i64) s43), .fl (.own 5) 1 (List.map (Value.int .u8) s44), .v (.int .i64 s45), .fl (.own 3) 1 (List.map (Value.int .i64) s46)])]) ?_ ?_
      ·rintro ⟨s41, s42, s43, s44, s45, s46⟩ h
       refine pt_then (ht_seq ?_)
       refine ht_joinS h (fun (() : Unit) => [(85, .glob (GL mx)), (5, .box 28 [.fr (.own 41) false 11 (List.flatten (List.map T_Item.ienc v3.1.Items)), .v (.int .i64 v3.1.Packs), .fl (.own 3) 1 (List.map (Value.int .i64) v3.1.Sent), .fl (.own 5) 1 (List.map (Value.int .u8) v3.1.Part), .v (.int .i64 v3.1.Of), .fl (.own 3) 1 (List.map (Value.int .i64) v3.1.Done)]), (7, .box 28 [.fr (.own 41) false 11 (List.flatten (List.map T_Item.ienc s41)), .v (.int .i64 s42), .fl (.own 3) 1 (List.map (Value.int .i64) s43), .fl (.own 5) 1 (List.map (Value.int .u8) s44), .v (.int .i64 s45), .fl (.own 3) 1 (List.map (Value.int .i64) s46)])]) ?_ ?_
       ·rintro ⟨⟩ h
        refine pt_then (ht_seq ?_)
        refine ht_joinS h (fun (s67 : Bool) => [(85, .glob (GL mx)), (4, .v (.bool s67))]) ?_ ?_
        ·rintro s67 h
         refine pt_then (ht_ret ?_)
         refine pt_pick [1] (by kernel_rfl) (es' := [(_,_)]) rfl ?_
         obtain rfl := Option.some.inj h
         exact pt_ret hio rfl (.tmp _ _ .nil) rfl rfl
        ·intro u68 h hl69 hr70
         obtain ⟨v65, hv65, h⟩ := bind_some h
         refine cond_some h (fun hg21_3 h => ?_) (fun hg21_3 h => ?_)
         ·obtain ⟨v66, hv66, h⟩ := bind_some h
          refine zg hn [_,_,_,(79,.agg [.fr (.own 41) false 11 (List.flatten (List.map T_Item.ienc s41)),vi s42,.fl (.own 3) 1 (List.map (Value.int .i64) s43),.fl (.own 5) 1 (List.map (Value.int .u8) s44),vi s45,.fl (.own 3) 1 (List.map (Value.int .i64) s46)]),(80,.agg [.fr (.own 41) false 11 (List.flatten (List.map T_Item.ienc v3.1.Items)),vi v3.1.Packs,.fl (.own 3) 1 (List.map (Value.int .i64) v3.1.Sent),.fl (.own 5) 1 (List.map (Value.int .u8) v3.1.Part),vi v3.1.Of,.fl (.own 3) 1 (List.map (Value.int .i64) v3.1.Done)]),(81,vb v65),(82,vb true),(83,vb v66),(84,vb v66),(4,vb v66)] [0,1,2] [0,9] [⟨[],[2],[3],[(.slot 79)]⟩,⟨[],[1],[4],[(.slot 80)]⟩,zq [3,4] 5 81,zq [5] 6 82,zq [6,0] 7 83,zq [6,7] 8 84,zq [8] 9 4] [(_,_),(_,_)] rfl ⟨zp rfl (op_loadA_take _ _ _ _ underlying28 rfl sz28 rfl rfl),zp rfl (op_loadA_take _ _ _ _ underlying28 rfl sz28 rfl rfl),zp rfl (op_call _ _ 18 _ _ rfl call18 rfl (ok_wherrykeep_Spool (T_Spool.mk s41 s42 s43 s44 s45 s46) v3.1 _ hv65) rfl rfl),z8 hg21_3 rfl,zr' rfl (op_callG _ _ 85 13 _ _ rfl call13 rfl rfl (fun _ h => h) (ok_wherrylaw19_wakes mx  _ hv66) rfl rfl),z3 true rfl,z2 rfl,zz⟩ ?_
          exact hl69 _ (Option.some.inj h).symm
         ·refine zg hn [_,_,_,(79,.agg [.fr (.own 41) false 11 (List.flatten (List.map T_Item.ienc s41)),vi s42,.fl (.own 3) 1 (List.map (Value.int .i64) s43),.fl (.own 5) 1 (List.map (Value.int .u8) s44),vi s45,.fl (.own 3) 1 (List.map (Value.int .i64) s46)]),(80,.agg [.fr (.own 41) false 11 (List.flatten (List.map T_Item.ienc v3.1.Items)),vi v3.1.Packs,.fl (.own 3) 1 (List.map (Value.int .i64) v3.1.Sent),.fl (.own 5) 1 (List.map (Value.int .u8) v3.1.Part),vi v3.1.Of,.fl (.own 3) 1 (List.map (Value.int .i64) v3.1.Done)]),(81,vb v65),(82,vb false),(83,.v undef),(84,vb false),(4,vb false)] [0,1,2] [0,9] [⟨[],[2],[3],[(.slot 79)]⟩,⟨[],[1],[4],[(.slot 80)]⟩,zq [3,4] 5 81,zq [5] 6 82,zq [6] 7 83,zq [6] 8 84,zq [8] 9 4] [(_,_),(_,_)] rfl ⟨zp rfl (op_loadA_take _ _ _ _ underlying28 rfl sz28 rfl rfl),zp rfl (op_loadA_take _ _ _ _ underlying28 rfl sz28 rfl rfl),zp rfl (op_call _ _ 18 _ _ rfl call18 rfl (ok_wherrykeep_Spool (T_Spool.mk s41 s42 s43 s44 s45 s46) v3.1 _ hv65) rfl rfl),z8 hg21_3 rfl,zt rfl,z3 false rfl,z2 rfl,zz⟩ ?_
          exact hl69 _ (Option.some.inj h).symm
       ·intro u60 h hl61 hr62
        refine zgg hn [_,_,_,_,_,(64,vi v3.2),(65,.fr .shr true 15 (List.flatten (List.map T_Rec.ienc l))),(66,vi (l.length : Int)),(67,vb (decide (v3.2 < (l.length : Int))))] [0,1,2,3,4] [0,1,2,3,4,8] [zq [3] 5 64,zq [0] 6 65,zq [6] 7 66,zq [5,7] 8 67] [(_,_),(_,_),(_,_),(_,_),(_,_),(_,_)] rfl ⟨z1 rfl,z1 rfl,zp rfl (op_len_fr _ _ _ underlying22 rfl (by decide) (gflat_len T_Rec.ilen _)),z4 rfl rfl,zz⟩ ?_
        refine ht_cond _ rfl (fun hb63 => ?_) (fun hb63 => ?_)
        ·have h := cond_t hb63 h
         refine ht_seq ?_
         obtain ⟨v56, hv56, h⟩ := bind_some h
         obtain ⟨v57, hv57, h⟩ := bind_some h
         obtain ⟨v58, hv58, h⟩ := bind_some h
         refine ht_anyR (by kernel_rfl) hn (El := (_ :: _ :: _ :: _ :: _ :: _ :: (69, .agg [.same (.cell 7 0), .v (.int .i64 s42), .same (.cell 7 2), .same (.cell 7 3), .v (.int .i64 s45), .same (.cell 7 5)]) :: (70, .fr .shr true 15 (List.flatten (List.map T_Rec.ienc l))) :: (71, .v (.int .i64 v3.2)) :: (72, .eref (.slot 70) (v56 * 15)) :: (73, .agg [.v (.int .i64 v57.Kind), .v (.bool v57.Mail.From.Null), .v (.string v57.Mail.From.Local), .v (.string v57.Mail.From.Domain), .fl .shr 3 (List.flatten (List.map T_Path.enc v57.Mail.To)), .fl .shr 1 (List.map (Value.int .u8) v57.Mail.Body), .v (.bool v57.Mail.Quiet), .v (.string v57.Mail.Helo), .v (.int .i64 v57.Mail.At), .v (.int .i64 v57.Id), .fl .shr 1 (List.map (Value.int .i64) v57.Ids), .v (.int .i64 v57.Origin), .v (.int .i64 v57.Number), .v (.int .i64 v57.Offset), .fl .shr 1 (List.map (Value.int .u8) v57.Data)]) :: (74, .tup [.agg [.fr (.own 41) false 11 (List.flatten (List.map T_Item.ienc v58.1.Items)), .v (.int .i64 v58.1.Packs), .fl (.own 3) 1 (List.map (Value.int .i64) v58.1.Sent), .fl (.own 5) 1 (List.map (Value.int .u8) v58.1.Part), .v (.int .i64 v58.1.Of), .fl (.own 3) 1 (List.map (Value.int .i64) v58.1.Done)], .v (.int .i64 v58.2)]) :: (68, .tup [.agg [.fr (.own 41) false 11 (List.flatten (List.map T_Item.ienc v58.1.Items)), .v (.int .i64 v58.1.Packs), .fl (.own 3) 1 (List.map (Value.int .i64) v58.1.Sent), .fl (.own 5) 1 (List.map (Value.int .u8) v58.1.Part), .v (.int .i64 v58.1.Of), .fl (.own 3) 1 (List.map (Value.int .i64) v58.1.Done)], .any]) :: (68, .tup [.any, .v (.int .i64 v58.2)]) :: (75, .agg [.fr (.own 41) false 11 (List.flatten (List.map T_Item.ienc v58.1.Items)), .v (.int .i64 v58.1.Packs), .fl (.own 3) 1 (List.map (Value.int .i64) v58.1.Sent), .fl (.own 5) 1 (List.map (Value.int .u8) v58.1.Part), .v (.int .i64 v58.1.Of), .fl (.own 3) 1 (List.map (Value.int .i64) v58.1.Done)]) :: (68, .tup [.any, .any]) :: (76, .v (.int .i64 v58.2)) :: (12, .box 28 [.v (.slice none 0 0), .v (.int .i64 0), .v (.slice none 0 0), .v (.slice none 0 0), .v (.int .i64 0), .v (.slice none 0 0)]) :: (12, .box 28 [.fr (.own 41) false 11 (List.flatten (List.map T_Item.ienc v58.1.Items)), .v (.int .i64 v58.1.Packs), .fl (.own 3) 1 (List.map (Value.int .i64) v58.1.Sent), .fl (.own 5) 1 (List.map (Value.int .u8) v58.1.Part), .v (.int .i64 v58.1.Of), .fl (.own 3) 1 (List.map (Value.int .i64) v58.1.Done)]) :: (13, .v (.int .i64 v58.2)) :: [])) (init := [0, 1, 2, 3, 4, 5]) (fin := [1, 2, 4, 19]) (sps := [zq [4] 6 69, zq [0] 7 70, zq [3] 8 71, zq [7,8] 9 72, zq [9,7] 10 73, zq [6,4,10,1] 11 74, ⟨[], [11], [12, 13], [(.slot 68)]⟩, ⟨[], [12], [15, 14], [(.slot 75)]⟩, zq [13] 16 76, zq [] 17 12, ⟨[], [14, 17], [18], [.cell 12 0, .cell 12 1, .cell 12 2, .cell 12 3, .cell 12 4, .cell 12 5]⟩, zq [16] 19 13]) (es' := [(_,_),(_,_),(_,_),(13, .v (.int .i64 v58.2))]) (by kernel_rfl) rfl rfl ⟨zp rfl (op_loadA _ _ _ _ _ _ _ underlying28 rfl sz28 rfl rfl (zl rfl) rfl rfl),z1 rfl,z1 rfl,zp rfl (op_ix_fr _ _ _ _ _ _ _ _ underlying22 sz39 (by decide) rfl rfl rfl (ix_ok hv56).1 (gflat_lt T_Rec.ilen (ix_ok hv56).2) rfl),zp rfl (op_loadA_fr _ _ _ _ _ _ _ _ underlying39 rfl sz39 rfl rfl (gflat_get T_Rec.ilen hv57) (.cons (.v _) (.cons (.v _) (.cons (.v _) (.cons (.v _) (.cons (.fl _ _ rfl) (.cons (.fl _ _ rfl) (.cons (.v _) (.cons (.v _) (.cons (.v _) (.cons (.v _) (.cons (.fl _ _ rfl) (.cons (.v _) (.cons (.v _) (.cons (.v _) (.cons (.fl _ _ rfl) (.nil)))))))))))))))) rfl (by decide)),zp rfl (op_callG _ _ 85 10 _ _ rfl call10 rfl rfl (fun _ h => h) (ok_spool_Add mx (T_Spool.mk s41 s42 s43 s44 s45 s46) ((T_Rec.mk v57.Kind ((T_Mail.mk (T_Path.mk v57.Mail.From.Null v57.Mail.From.Local v57.Mail.From.Domain) v57.Mail.To v57.Mail.Body v57.Mail.Quiet v57.Mail.Helo v57.Mail.At)) v57.Id v57.Ids v57.Origin v57.Number v57.Offset v57.Data)) _ hv58) rfl rfl),zp rfl (LOp.split (A := []) 68 0 _ _ _ (op_move_take _ _ _ _ rfl) (zl rfl) rfl rfl),zp rfl (op_extract_take _ _ _ _ _ rfl (zl rfl) rfl rfl (by decide) rfl),zp rfl (oE rfl),zp rfl (op_alloc _ _ zr28),zp rfl (op_store_take _ _ _ _ _ _ _ _ sz28 rfl rfl rfl (zl rfl) rfl rfl),z2 rfl,zz⟩ ?_
         refine pt_then ?_
         refine zgg hn [_,_,_,_,(77,vi v58.2),(78,vb (v58.2 != 5))] [0,1,2,3] [0,1,2,5] [zq [3] 4 77,zq [4] 5 78] [(_,_),(_,_),(_,_),(_,_)] rfl ⟨z1 rfl,z4 rfl rfl,zz⟩ ?_
         refine ht_cond _ rfl (fun hb64 => ?_) (fun hb64 => ?_)
         ·have h := cond_t hb64 h
          refine zgg hn [_,_,_,_,(4,vb false)] [0,1,2,3] [0,4] [zq [] 4 4] [(_,_),(_,_)] rfl ⟨z2 rfl,zz⟩ ?_
          refine ht_ret ?_
          refine pt_pick [1] (by kernel_rfl) (es' := [(_,_)]) rfl ?_
          refine pt_r_then ?_
          have h := hr62 _ (Option.some.inj h).symm
          obtain rfl := Option.some.inj h
          exact pt_ret hio rfl (.tmp _ _ .nil) rfl rfl
         ·have h := cond_f hb64 h
          refine ht_skip ?_
          refine pt_pick [0, 1, 2] (by kernel_rfl) (es' := [(_,_),(_,_),(_,_)]) rfl ?_
          exact hl61 _ (Option.some.inj h).symm
        ·have h := cond_f hb63 h
         refine ht_skip ?_
         refine pt_pick [1, 2, 4] (by kernel_rfl) (es' := [(_,_),(_,_),(_,_)]) rfl ?_
         exact hl61 _ (Option.some.inj h).symm
      ·rintro u47 hl48 hr49 ⟨s32, s33, s34, s35, s36, s37, s38⟩ rr52 h ho50
       refine ht_seq ?_
       refine zgg hn [_,_,_,_,_,_,(47,vi s38),(48,vi v3.2),(49,vb (decide (s38 < v3.2)))] [0,1,2,3,4,5] [0,1,2,3,4,5,8] [zq [5] 6 47,zq [3] 7 48,zq [6,7] 8 49] [(_,_),(_,_),(_,_),(_,_),(_,_),(_,_),(_,_)] rfl ⟨z1 rfl,z1 rfl,z4 rfl rfl,zz⟩ ?_
       refine ht_cond _ rfl (fun hb53 => ?_) (fun hb53 => ?_)
       ·have h := cond_t hb53 h
        refine ht_skip ?_
        refine pt_then (ht_seq ?_)
        refine ht_block ?_
        refine ht_seq ?_
        obtain ⟨v18, hv18, h⟩ := bind_some h
        obtain ⟨v19, hv19, h⟩ := bind_some h
        obtain ⟨v20, hv20, h⟩ := bind_some h
        refine ht_anyR (by kernel_rfl) hn (El := (_ :: _ :: _ :: _ :: _ :: _ :: _ :: (53, .agg [.same (.cell 7 0), .v (.int .i64 s33), .same (.cell 7 2), .same (.cell 7 3), .v (.int .i64 s36), .same (.cell 7 5)]) :: (54, .fr .shr true 15 (List.flatten (List.map T_Rec.ienc l))) :: (55, .v (.int .i64 s38)) :: (56, .eref (.slot 54) (v18 * 15)) :: (57, .agg [.v (.int .i64 v19.Kind), .v (.bool v19.Mail.From.Null), .v (.string v19.Mail.From.Local), .v (.string v19.Mail.From.Domain), .fl .shr 3 (List.flatten (List.map T_Path.enc v19.Mail.To)), .fl .shr 1 (List.map (Value.int .u8) v19.Mail.Body), .v (.bool v19.Mail.Quiet), .v (.string v19.Mail.Helo), .v (.int .i64 v19.Mail.At), .v (.int .i64 v19.Id), .fl .shr 1 (List.map (Value.int .i64) v19.Ids), .v (.int .i64 v19.Origin), .v (.int .i64 v19.Number), .v (.int .i64 v19.Offset), .fl .shr 1 (List.map (Value.int .u8) v19.Data)]) :: (58, .tup [.agg [.fr (.own 41) false 11 (List.flatten (List.map T_Item.ienc v20.1.Items)), .v (.int .i64 v20.1.Packs), .fl (.own 3) 1 (List.map (Value.int .i64) v20.1.Sent), .fl (.own 5) 1 (List.map (Value.int .u8) v20.1.Part), .v (.int .i64 v20.1.Of), .fl (.own 3) 1 (List.map (Value.int .i64) v20.1.Done)], .v (.int .i64 v20.2)]) :: (52, .tup [.agg [.fr (.own 41) false 11 (List.flatten (List.map T_Item.ienc v20.1.Items)), .v (.int .i64 v20.1.Packs), .fl (.own 3) 1 (List.map (Value.int .i64) v20.1.Sent), .fl (.own 5) 1 (List.map (Value.int .u8) v20.1.Part), .v (.int .i64 v20.1.Of), .fl (.own 3) 1 (List.map (Value.int .i64) v20.1.Done)], .any]) :: (52, .tup [.any, .v (.int .i64 v20.2)]) :: (59, .agg [.fr (.own 41) false 11 (List.flatten (List.map T_Item.ienc v20.1.Items)), .v (.int .i64 v20.1.Packs), .fl (.own 3) 1 (List.map (Value.int .i64) v20.1.Sent), .fl (.own 5) 1 (List.map (Value.int .u8) v20.1.Part), .v (.int .i64 v20.1.Of), .fl (.own 3) 1 (List.map (Value.int .i64) v20.1.Done)]) :: (52, .tup [.any, .any]) :: (60, .v (.int .i64 v20.2)) :: (10, .box 28 [.v (.slice none 0 0), .v (.int .i64 0), .v (.slice none 0 0), .v (.slice none 0 0), .v (.int .i64 0), .v (.slice none 0 0)]) :: (10, .box 28 [.fr (.own 41) false 11 (List.flatten (List.map T_Item.ienc v20.1.Items)), .v (.int .i64 v20.1.Packs), .fl (.own 3) 1 (List.map (Value.int .i64) v20.1.Sent), .fl (.own 5) 1 (List.map (Value.int .u8) v20.1.Part), .v (.int .i64 v20.1.Of), .fl (.own 3) 1 (List.map (Value.int .i64) v20.1.Done)]) :: (11, .v (.int .i64 v20.2)) :: [])) (init := [0, 1, 2, 3, 4, 5, 6]) (fin := [0, 1, 2, 3, 4, 5, 19, 20]) (sps := [zq [4] 7 53, zq [0] 8 54, zq [5] 9 55, zq [8,9] 10 56, zq [10,8] 11 57, zq [7,4,11,1] 12 58, ⟨[], [12], [13, 14], [(.slot 52)]⟩, ⟨[], [13], [16, 15], [(.slot 59)]⟩, zq [14] 17 60, zq [] 18 10, ⟨[], [15, 18], [19], [.cell 10 0, .cell 10 1, .cell 10 2, .cell 10 3, .cell 10 4, .cell 10 5]⟩, zq [17] 20 11]) (es' := [(_,_),(_,_),(_,_),(_,_),(_,_),(_,_),(10, .box 28 [.fr (.own 41) false 11 (List.flatten (List.map T_Item.ienc v20.1.Items)), .v (.int .i64 v20.1.Packs), .fl (.own 3) 1 (List.map (Value.int .i64) v20.1.Sent), .fl (.own 5) 1 (List.map (Value.int .u8) v20.1.Part), .v (.int .i64 v20.1.Of), .fl (.own 3) 1 (List.map (Value.int .i64) v20.1.Done)]), (11, .v (.int .i64 v20.2))]) (by kernel_rfl) rfl rfl ⟨zp rfl (op_loadA _ _ _ _ _ _ _ underlying28 rfl sz28 rfl rfl (zl rfl) rfl rfl),z1 rfl,z1 rfl,zp rfl (op_ix_fr _ _ _ _ _ _ _ _ underlying22 sz39 (by decide) rfl rfl rfl (ix_ok hv18).1 (gflat_lt T_Rec.ilen (ix_ok hv18).2) rfl),zp rfl (op_loadA_fr _ _ _ _ _ _ _ _ underlying39 rfl sz39 rfl rfl (gflat_get T_Rec.ilen hv19) (.cons (.v _) (.cons (.v _) (.cons (.v _) (.cons (.v _) (.cons (.fl _ _ rfl) (.cons (.fl _ _ rfl) (.cons (.v _) (.cons (.v _) (.cons (.v _) (.cons (.v _) (.cons (.fl _ _ rfl) (.cons (.v _) (.cons (.v _) (.cons (.v _) (.cons (.fl _ _ rfl) (.nil)))))))))))))))) rfl (by decide)),zp rfl (op_callG _ _ 85 10 _ _ rfl call10 rfl rfl (fun _ h => h) (ok_spool_Add mx (T_Spool.mk s32 s33 s34 s35 s36 s37) ((T_Rec.mk v19.Kind ((T_Mail.mk (T_Path.mk v19.Mail.From.Null v19.Mail.From.Local v19.Mail.From.Domain) v19.Mail.To v19.Mail.Body v19.Mail.Quiet v19.Mail.Helo v19.Mail.At)) v19.Id v19.Ids v19.Origin v19.Number v19.Offset v19.Data)) _ hv20) rfl rfl),zp rfl (LOp.split (A := []) 52 0 _ _ _ (op_move_take _ _ _ _ rfl) (zl rfl) rfl rfl),zp rfl (op_extract_take _ _ _ _ _ rfl (zl rfl) rfl rfl (by decide) rfl),zp rfl (oE rfl),zp rfl (op_alloc _ _ zr28),zp rfl (op_store_take _ _ _ _ _ _ _ _ sz28 rfl rfl rfl (zl rfl) rfl rfl),z2 rfl,zz⟩ ?_
        refine pt_then (ht_seq ?_)
        refine zgg hn [_,_,_,_,_,_,_,_,(61,vi v20.2),(62,vb (v20.2 != 0))] [0,1,2,3,4,5,6,7] [0,1,2,3,4,5,6,9] [zq [7] 8 61,zq [8] 9 62] [(_,_),(_,_),(_,_),(_,_),(_,_),(_,_),(_,_),(_,_)] rfl ⟨z1 rfl,z4 rfl rfl,zz⟩ ?_
        refine ht_cond _ rfl (fun hb54 => ?_) (fun hb54 => ?_)
        ·have h := cond_t hb54 h
         refine zgg hn [_,_,_,_,_,_,_,_,(4,vb false)] [0,1,2,3,4,5,6,7] [1,8] [zq [] 8 4] [(_,_),(_,_)] rfl ⟨z2 rfl,zz⟩ ?_
         refine ht_ret ?_
         refine pt_pick [1] (by kernel_rfl) (es' := [(_,_)]) rfl ?_
         refine pt_r_then ?_
         refine pt_r_in ?_
         refine pt_r_then ?_
         refine pt_r_then ?_
         refine pt_r_in ?_
         refine pt_r_then ?_
         have h := hr49 _ (ho50 _ (Option.some.inj h).symm).symm
         obtain rfl := Option.some.inj h
         exact pt_ret hio rfl (.tmp _ _ .nil) rfl rfl
        ·have h := cond_f hb54 h
         refine ht_skip ?_
         refine pt_then ?_
         refine zg hn [_,_,_,_,_,_,_,_,(63,.agg [.fr (.own 41) false 11 (List.flatten (List.map T_Item.ienc v20.1.Items)),vi v20.1.Packs,.fl (.own 3) 1 (List.map (Value.int .i64) v20.1.Sent),.fl (.own 5) 1 (List.map (Value.int .u8) v20.1.Part),vi v20.1.Of,.fl (.own 3) 1 (List.map (Value.int .i64) v20.1.Done)]),(7,.box 28 [.fr (.own 41) false 11 (List.flatten (List.map T_Item.ienc v20.1.Items)),vi v20.1.Packs,.fl (.own 3) 1 (List.map (Value.int .i64) v20.1.Sent),.fl (.own 5) 1 (List.map (Value.int .u8) v20.1.Part),vi v20.1.Of,.fl (.own 3) 1 (List.map (Value.int .i64) v20.1.Done)])] [0,1,2,3,4,5,6,7] [0,1,2,3,9,5] [⟨[],[6],[8],[(.slot 63)]⟩,⟨[],[8,4],[9],[.cell 7 0,.cell 7 1,.cell 7 2,.cell 7 3,.cell 7 4,.cell 7 5]⟩] [(_,_),(_,_),(_,_),(_,_),(_,_),(_,_)] rfl ⟨zp rfl (op_loadA_take _ _ _ _ underlying28 rfl sz28 rfl rfl),zp rfl (op_store_take _ _ _ _ _ _ _ _ sz28 rfl rfl rfl (zl rfl) rfl rfl),zz⟩ ?_
         refine pt_inb ?_
         refine pt_then ?_
         obtain ⟨v22, hv22, h⟩ := bind_some h
         refine zg hn [_,_,_,_,_,_,(50,vi s38),(51,vi v22),(9,vi v22)] [0,1,2,3,4,5] [0,1,2,3,4,8] [zq [5] 6 50,zq [6] 7 51,⟨[7],[5],[8],[(.slot 9)]⟩] [(_,_),(_,_),(_,_),(_,_),(_,_),(_,_)] rfl ⟨z1 rfl,zp rfl (oB rfl (ibind (f := Value.int .i64) (Option.some.inj hv22))),zp rfl (LOp.drop [_] (op_assign _ _ _ _ rfl rfl)),zz⟩ ?_
         exact pt_next _ (Option.some.inj h).symm rfl
       ·have h := cond_f hb53 h
        refine ht_exit ?_
        refine pt_x_then ?_
        refine pt_x_then ?_
        refine pt_x_in ?_
        refine pt_pick [0, 1, 2, 3, 4] (by kernel_rfl) (es' := [(_,_),(_,_),(_,_),(_,_),(_,_)]) rfl ?_
        exact hl48 _ (ho50 _ (Option.some.inj h).symm).symm
   ·intro u5 h hl6 hr7
    refine cond_some h (fun hg4_2 h => ?_) (fun hg4_2 h => ?_)
    ·refine zg hn [_,_,_,_,_,(21,vi v3.2),(22,vb (decide (v3.2 < 0))),(23,vb true),(24,.v undef),(25,.v undef),(26,.v undef),(27,.v undef),(28,vb true)] [0,1,2,3,4] [0,1,2,3,4,12] [zq [4] 5 21,zq [5] 6 22,zq [6] 7 23,zq [7] 8 24,zq [7] 9 25,zq [7] 10 26,zq [7] 11 27,zq [7] 12 28] [(_,_),(_,_),(_,_),(_,_),(_,_),(_,_)] rfl ⟨z1 rfl,z4 rfl rfl,z8 hg4_2 rfl,zf rfl,zf rfl,zf rfl,zf rfl,z3 true rfl,zz⟩ ?_
     exact hl6 _ (Option.some.inj h).symm
    ·refine zg hn [_,_,_,_,_,(21,vi v3.2),(22,vb (decide (v3.2 < 0))),(23,vb false),(24,vi v3.2),(25,.fr .shr true 15 (List.flatten (List.map T_Rec.ienc l))),(26,vi (l.length : Int)),(27,vb (decide ((l.length : Int) < v3.2))),(28,vb (decide ((l.length : Int) < v3.2)))] [0,1,2,3,4] [0,1,2,3,4,12] [zq [4] 5 21,zq [5] 6 22,zq [6] 7 23,zq [7,4] 8 24,zq [7,0] 9 25,zq [7,9] 10 26,zq [7,8,10] 11 27,zq [7,11] 12 28] [(_,_),(_,_),(_,_),(_,_),(_,_),(_,_)] rfl ⟨z1 rfl,z4 rfl rfl,z8 hg4_2 rfl,zr' rfl (oM rfl),zr' rfl (oM rfl),zr' rfl (op_len_fr _ _ _ underlying22 rfl (by decide) (gflat_len T_Rec.ilen _)),zr' rfl (oB rfl rfl),z3 false rfl,zz⟩ ?_
     exact hl6 _ (Option.some.inj h).symm

end Go.Proofs.YtjdmcbkkacnmdaaDoor
