/-
  The model's runs are what is told in Lean.
-/
import Derived.Test.YthfmdofkkkpbkaaGreatDoorProg
import Derived.KernelRfl
import Derived.Test.YthfmdofkkkpbkaaGreatDoorShelf
import Derived.Test.YthfmdofkkkpbkaaGreatDoorOkc1
set_option linter.unusedVariables false
set_option linter.unusedSimpArgs false
set_option maxHeartbeats 1000000
namespace Go.Proofs.YthfmdofkkkpbkaaGreatDoor
open Go.Abs Go.Abs.Sh Tryz
theorem ok_verb_command (mx : Int) (line : ByteArray) (r : (T_Cmd × Bool)) (h : Sh.verb_command line = some r) : FnG Tryz.prog (GL mx) 21 [.v (.string line)] (.tup [.agg [.v (.int .i64 r.1.Kind), .v (.string r.1.Text), .v (.bool r.1.Path.Null), .v (.string r.1.Path.Local), .v (.string r.1.Path.Domain), .fl .ro 2 (List.flatten (List.map T_Param.enc r.1.Params))], .v (.bool r.2)]) := by
  unfold Sh.verb_command at h
  refine fn_okG func21 rfl (zl rfl) rfl rfl fun g0 hn hio => ?_
  refine zgg hn [_,_,(2,.box 26 [vi 0,vs z0,vb false,vs z0,vs z0,.v (.slice none 0 0)]),(3,vb false)] [0,1] [0,1,2] [zq [] 2 2,zq [] 3 3] [(_,_),(_,_),(_,_)] rfl ⟨zp rfl (op_alloc _ _ zr26),z2 rfl,zz⟩ ?_
  refine ht_seq ?_
  obtain ⟨v1, hv1, h⟩ := bind_some h
  refine zg hn [_,_,_,(9,vs line),(10,.tup [vs v1.1,vs v1.2.1,vb v1.2.2]),(8,.tup [vs v1.1,vs v1.2.1,vb v1.2.2]),(11,vs v1.1),(12,vs v1.2.1),(13,vb v1.2.2),(4,vs v1.1),(5,vs v1.2.1),(6,vb v1.2.2)] [0,1,2] [0,1,2,10,11] [zq [0] 3 9,zq [3] 4 10,⟨[],[4],[5],[(.slot 8)]⟩,zq [5] 6 11,zq [5] 7 12,zq [5] 8 13,zq [6] 9 4,zq [7] 10 5,zq [8] 11 6] [(_,_),(_,_),(_,_),(_,_),(_,_)] rfl ⟨z1 rfl,zp rfl (op_call _ _ 33 _ _ rfl call33 rfl (ok_strings_Cut line (⟨#[32]⟩ : ByteArray) _ hv1) rfl rfl),zp rfl (op_move_take _ _ _ _ rfl),zp rfl (oE rfl),zp rfl (oE rfl),zp rfl (oE rfl),z2 rfl,z2 rfl,z2 rfl,zz⟩ ?_
  refine pt_then (ht_seq ?_)
  obtain ⟨v2, hv2, h⟩ := bind_some h
  refine zg hn [_,_,_,_,_,(14,vs line),(15,vi v2),(16,.agg [vi v2,vs z0,vb false,vs z0,vs z0,.v (.slice none 0 0)]),(7,.box 26 [vi 0,vs z0,vb false,vs z0,vs z0,.v (.slice none 0 0)]),(7,.box 26 [vi v2,vs z0,vb false,vs z0,vs z0,.v (.slice none 0 0)])] [0,1,2,3,4] [0,1,2,3,4,9] [zq [0] 5 14,zq [5] 6 15,zq [6] 7 16,zq [] 8 7,⟨[7],[8],[9],[.cell 7 0,.cell 7 1,.cell 7 2,.cell 7 3,.cell 7 4,.cell 7 5]⟩] [(_,_),(_,_),(_,_),(_,_),(_,_),(_,_)] rfl ⟨z1 rfl,zp rfl (op_call _ _ 19 _ _ rfl call19 rfl (ok_verb_kindOf line _ hv2) rfl rfl),zp rfl (op_build _ _ _ _ [1, 1, 3, 1] _ _ underlying26 zr26 (fs26 _ underlying26) (.copy _ Src.nil) rfl rfl rfl),zp rfl (op_alloc _ _ zr26),zp rfl (oS sz26 rfl),zz⟩ ?_
  refine pt_then (ht_seq ?_)
  refine zgg hn [_,_,_,_,_,_,(17,.ptr 7 0),(18,vi v2)] [0,1,2,3,4,5] [0,1,2,3,4,5,7] [zq [5] 6 17,zq [6,5] 7 18] [(_,_),(_,_),(_,_),(_,_),(_,_),(_,_),(_,_)] rfl ⟨zp rfl (oF underlying26 rfl sz3),zp rfl (oL underlying3 rfl),zz⟩ ?_
  refine ht_block ?_
  refine ht_seq ?_
  refine ht_joinS h (fun (s30 : Bool) => [(0, .v (.string line)), (65, .glob (GL mx)), (2, .box 26 [.v (.int .i64 0), .v (.string (⟨#[]⟩ : ByteArray)), .v (.bool false), .v (.string (⟨#[]⟩ : ByteArray)), .v (.string (⟨#[]⟩ : ByteArray)), .v (.slice none 0 0)]), (5, .v (.string v1.2.1)), (6, .v (.bool v1.2.2)), (7, .box 26 [.v (.int .i64 v2), .v (.string (⟨#[]⟩ : ByteArray)), .v (.bool false), .v (.string (⟨#[]⟩ : ByteArray)), .v (.string (⟨#[]⟩ : ByteArray)), .v (.slice none 0 0)]), (18, .v (.int .i64 v2)), (19, .v (.bool s30))]) ?_ ?_
  ·rintro s30 h
   refine pt_then ?_
   refine ht_cond _ rfl (fun hb35 => ?_) (fun hb35 => ?_)
   ·have h := cond_t hb35 h
    refine ht_seq ?_
    obtain ⟨v10, hv10, h⟩ := bind_some h
    refine zg hn (_::_::_::_::_::_::_::_::(22,.ptr 7 0)::(23,vi v2)::(24,vs line)::(25,.tup [.agg [vi v10.1.Kind,vs v10.1.Text,vb v10.1.Path.Null,vs v10.1.Path.Local,vs v10.1.Path.Domain,.fl .ro 2 (List.flatten (List.map T_Param.enc v10.1.Params))],vb v10.2])::(26,.agg [vi v10.1.Kind,vs v10.1.Text,vb v10.1.Path.Null,vs v10.1.Path.Local,vs v10.1.Path.Domain,.fl .ro 2 (List.flatten (List.map T_Param.enc v10.1.Params))])::(27,vb v10.2)::(2,.box 26 [vi v10.1.Kind,vs v10.1.Text,vb v10.1.Path.Null,vs v10.1.Path.Local,vs v10.1.Path.Domain,.fl .ro 2 (List.flatten (List.map T_Param.enc v10.1.Params))])::(3,vb v10.2)::[]) [0,1,2,3,4,5,6,7] [1,14,15] [zq [5] 8 22,zq [8,5] 9 23,zq [0] 10 24,zq [9,10,1] 11 25,zq [11] 12 26,zq [11] 13 27,⟨[12],[2],[14],[.cell 2 0,.cell 2 1,.cell 2 2,.cell 2 3,.cell 2 4,.cell 2 5]⟩,zq [13] 15 3] [(_,_),(_,_),(_,_)] rfl ⟨zp rfl (oF underlying26 rfl sz3),zp rfl (oL underlying3 rfl),z1 rfl,zp rfl (op_callG _ _ 65 38 _ _ rfl call38 rfl rfl (fun _ h => h) (ok_verb_pathCommand mx v2 line _ hv10) rfl rfl),zp rfl (op_extract_no _ _ _ _ _ _ rfl rfl (zl rfl) rfl rfl),zp rfl (oE rfl),zp rfl (oS sz26 rfl),z2 rfl,zz⟩ ?_
    refine pt_then (ht_ret ?_)
    refine pt_pick [1, 2] (by kernel_rfl) (es' := [(_,_),(_,_)]) rfl ?_
    refine pt_r_in ?_
    refine pt_r_then ?_
    obtain rfl := Option.some.inj h
    exact pt_ret hio rfl (.cellA _ _ _ _ underlying26 rfl sz26 (.tmp _ _ .nil)) rfl rfl
   ·have h := cond_f hb35 h
    refine ht_seq ?_
    refine ht_joinS h (fun (s37 : Bool) => [(65, .glob (GL mx)), (2, .box 26 [.v (.int .i64 0), .v (.string (⟨#[]⟩ : ByteArray)), .v (.bool false), .v (.string (⟨#[]⟩ : ByteArray)), .v (.string (⟨#[]⟩ : ByteArray)), .v (.slice none 0 0)]), (5, .v (.string v1.2.1)), (6, .v (.bool v1.2.2)), (7, .box 26 [.v (.int .i64 v2), .v (.string (⟨#[]⟩ : ByteArray)), .v (.bool false), .v (.string (⟨#[]⟩ : ByteArray)), .v (.string (⟨#[]⟩ : ByteArray)), .v (.slice none 0 0)]), (18, .v (.int .i64 v2)), (28, .v (.bool s37))]) ?_ ?_
    ·rintro s37 h
     refine pt_then ?_
     refine ht_cond _ rfl (fun hb42 => ?_) (fun hb42 => ?_)
     ·have h := cond_t hb42 h
      refine zgg hn [_,_,_,_,_,_,_,(31,vs v1.2.1),(32,.ptr 7 1),(7,.box 26 [vi v2,vs v1.2.1,vb false,vs z0,vs z0,.v (.slice none 0 0)])] [0,1,2,3,4,5,6] [0,1,2,9] [zq [2] 7 31,zq [4] 8 32,⟨[8,7],[4],[9],[.cell 7 1]⟩] [(_,_),(_,_),(_,_),(_,_)] rfl ⟨z1 rfl,zp rfl (oF underlying26 rfl sz9),zp rfl (oS sz9 rfl),zz⟩ ?_
      refine ht_seq ?_
      obtain ⟨v18, hv18, h⟩ := bind_some h
      refine ht_anyR (by kernel_rfl) hn (El := [_, _, _, _, (33, .agg [.v (.int .i64 v2), .v (.string v1.2.1), .v (.bool false), .v (.string (⟨#[]⟩ : ByteArray)), .v (.string (⟨#[]⟩ : ByteArray)), .v (.slice none 0 0)]), (34, .v (.string v1.2.1)), (35, .v (.bool v18)), (2, .box 26 [.v (.int .i64 v2), .v (.string v1.2.1), .v (.bool false), .v (.string (⟨#[]⟩ : ByteArray)), .v (.string (⟨#[]⟩ : ByteArray)), .v (.slice none 0 0)]), (3, .v (.bool v18))]) (init := [0, 1, 2, 3]) (fin := [0, 7, 8]) (sps := [zq [3] 4 33, zq [2] 5 34, zq [5,0] 6 35, ⟨[4], [1], [7], [.cell 2 0, .cell 2 1, .cell 2 2, .cell 2 3, .cell 2 4, .cell 2 5]⟩, zq [6] 8 3]) (es' := [(_,_),(2, .box 26 [.v (.int .i64 v2), .v (.string v1.2.1), .v (.bool false), .v (.string (⟨#[]⟩ : ByteArray)), .v (.string (⟨#[]⟩ : ByteArray)), .v (.slice none 0 0)]), (3, .v (.bool v18))]) (by kernel_rfl) rfl rfl ⟨zp rfl (op_loadA _ _ _ _ _ _ _ underlying26 rfl sz26 rfl rfl (zl rfl) rfl rfl),z1 rfl,zp rfl (op_callG _ _ 65 37 _ _ rfl call37 rfl rfl (fun _ h => h) (ok_path_Domain mx v1.2.1 _ hv18) rfl rfl),zp rfl (oS sz26 rfl),z2 rfl,zz⟩ ?_
      refine pt_then (ht_ret ?_)
      refine pt_pick [1, 2] (by kernel_rfl) (es' := [(_,_),(_,_)]) rfl ?_
      refine pt_sub (fs := [(2, .box 26 [.v (.int .i64 v2), .v (.string v1.2.1), .v (.bool false), .v (.string (⟨#[]⟩ : ByteArray)), .v (.string (⟨#[]⟩ : ByteArray)), .fl (.own 47) 2 (List.flatten (List.map T_Param.enc []))]), (3, .v (.bool v18))]) (.box _ _ (subs_cons (sub_refl _) (subs_cons (sub_refl _) (subs_cons (sub_refl _) (subs_cons (sub_refl _) (subs_cons (sub_refl _) (subs_cons (sub_nil 47 2) (subs_nil))))))) rfl (.same _ .nil)) ?_
      refine pt_frz 0 hio (es' := [(2, .box 26 [.v (.int .i64 v2), .v (.string v1.2.1), .v (.bool false), .v (.string (⟨#[]⟩ : ByteArray)), .v (.string (⟨#[]⟩ : ByteArray)), .fl .ro 2 (List.flatten (List.map T_Param.enc []))]), (3, .v (.bool v18))]) rfl ?_
      refine pt_r_in ?_
      refine pt_r_then ?_
      obtain rfl := Option.some.inj h
      exact pt_ret hio rfl (.cellA _ _ _ _ underlying26 rfl sz26 (.tmp _ _ .nil)) rfl rfl
     ·have h := cond_f hb42 h
      refine zgg hn [_,_,_,_,_,_,_,(37,vb (v2 == 6)),(36,vb (v2 == 6))] [0,1,2,3,4,5,6] [0,1,2,3,4,5,8] [zq [5] 7 37,zq [7] 8 36] [(_,_),(_,_),(_,_),(_,_),(_,_),(_,_),(_,_)] rfl ⟨z4 rfl rfl,z2 rfl,zz⟩ ?_
      refine ht_cond _ rfl (fun hb43 => ?_) (fun hb43 => ?_)
      ·have h := cond_t hb43 h
       refine zgg hn [_,_,_,_,_,_,_,(38,vs v1.2.1),(39,.ptr 7 1),(7,.box 26 [vi v2,vs v1.2.1,vb false,vs z0,vs z0,.v (.slice none 0 0)])] [0,1,2,3,4,5,6] [0,1,2,9] [zq [2] 7 38,zq [4] 8 39,⟨[8,7],[4],[9],[.cell 7 1]⟩] [(_,_),(_,_),(_,_),(_,_)] rfl ⟨z1 rfl,zp rfl (oF underlying26 rfl sz9),zp rfl (oS sz9 rfl),zz⟩ ?_
       refine zgg hn [_,_,_,_,(40,.agg [vi v2,vs v1.2.1,vb false,vs z0,vs z0,.v (.slice none 0 0)]),(41,vs v1.2.1),(42,vb (!(v1.2.1.toList == z0.toList))),(2,.box 26 [vi v2,vs v1.2.1,vb false,vs z0,vs z0,.v (.slice none 0 0)]),(3,vb (!(v1.2.1.toList == z0.toList)))] [0,1,2,3] [0,7,8] [zq [3] 4 40,zq [2] 5 41,zq [5] 6 42,⟨[4],[1],[7],[.cell 2 0,.cell 2 1,.cell 2 2,.cell 2 3,.cell 2 4,.cell 2 5]⟩,zq [6] 8 3] [(_,_),(_,_),(_,_)] rfl ⟨zp rfl (op_loadA _ _ _ _ _ _ _ underlying26 rfl sz26 rfl rfl (zl rfl) rfl rfl),z1 rfl,z4 rfl rfl,zp rfl (oS sz26 rfl),z2 rfl,zz⟩ ?_
       refine ht_ret ?_
       refine pt_pick [1, 2] (by kernel_rfl) (es' := [(_,_),(_,_)]) rfl ?_
       refine pt_sub (fs := [(2, .box 26 [.v (.int .i64 v2), .v (.string v1.2.1), .v (.bool false), .v (.string (⟨#[]⟩ : ByteArray)), .v (.string (⟨#[]⟩ : ByteArray)), .fl (.own 47) 2 (List.flatten (List.map T_Param.enc []))]), (3, .v (.bool ((!(v1.2.1.toList == (⟨#[]⟩ : ByteArray).toList)))))]) (.box _ _ (subs_cons (sub_refl _) (subs_cons (sub_refl _) (subs_cons (sub_refl _) (subs_cons (sub_refl _) (subs_cons (sub_refl _) (subs_cons (sub_nil 47 2) (subs_nil))))))) rfl (.same _ .nil)) ?_
       refine pt_frz 0 hio (es' := [(2, .box 26 [.v (.int .i64 v2), .v (.string v1.2.1), .v (.bool false), .v (.string (⟨#[]⟩ : ByteArray)), .v (.string (⟨#[]⟩ : ByteArray)), .fl .ro 2 (List.flatten (List.map T_Param.enc []))]), (3, .v (.bool ((!(v1.2.1.toList == (⟨#[]⟩ : ByteArray).toList)))))]) rfl ?_
       refine pt_r_in ?_
       refine pt_r_then ?_
       obtain rfl := Option.some.inj h
       exact pt_ret hio rfl (.cellA _ _ _ _ underlying26 rfl sz26 (.tmp _ _ .nil)) rfl rfl
      ·have h := cond_f hb43 h
       refine zgg hn [_,_,_,_,_,_,_,(44,vb (v2 == 11)),(43,vb (v2 == 11))] [0,1,2,3,4,5,6] [0,1,2,3,4,5,8] [zq [5] 7 44,zq [7] 8 43] [(_,_),(_,_),(_,_),(_,_),(_,_),(_,_),(_,_)] rfl ⟨z4 rfl rfl,z2 rfl,zz⟩ ?_
       refine ht_cond _ rfl (fun hb44 => ?_) (fun hb44 => ?_)
       ·have h := cond_t hb44 h
        refine zgg hn [_,_,_,_,_,_,_,(45,vs v1.2.1),(46,.ptr 7 1),(7,.box 26 [vi v2,vs v1.2.1,vb false,vs z0,vs z0,.v (.slice none 0 0)])] [0,1,2,3,4,5,6] [0,1,2,3,9] [zq [2] 7 45,zq [4] 8 46,⟨[8,7],[4],[9],[.cell 7 1]⟩] [(_,_),(_,_),(_,_),(_,_),(_,_)] rfl ⟨z1 rfl,zp rfl (oF underlying26 rfl sz9),zp rfl (oS sz9 rfl),zz⟩ ?_
        refine ht_seq ?_
        refine ht_joinS h (fun (s45 : Bool) => [(65, .glob (GL mx)), (2, .box 26 [.v (.int .i64 v2), .v (.string v1.2.1), .v (.bool false), .v (.string (⟨#[]⟩ : ByteArray)), .v (.string (⟨#[]⟩ : ByteArray)), .v (.slice none 0 0)]), (3, .v (.bool s45))]) ?_ ?_
        ·rintro s45 h
         refine pt_then (ht_ret ?_)
         refine pt_pick [1, 2] (by kernel_rfl) (es' := [(_,_),(_,_)]) rfl ?_
         refine pt_sub (fs := [(2, .box 26 [.v (.int .i64 v2), .v (.string v1.2.1), .v (.bool false), .v (.string (⟨#[]⟩ : ByteArray)), .v (.string (⟨#[]⟩ : ByteArray)), .fl (.own 47) 2 (List.flatten (List.map T_Param.enc []))]), (3, .v (.bool s45))]) (.box _ _ (subs_cons (sub_refl _) (subs_cons (sub_refl _) (subs_cons (sub_refl _) (subs_cons (sub_refl _) (subs_cons (sub_refl _) (subs_cons (sub_nil 47 2) (subs_nil))))))) rfl (.same _ .nil)) ?_
         refine pt_frz 0 hio (es' := [(2, .box 26 [.v (.int .i64 v2), .v (.string v1.2.1), .v (.bool false), .v (.string (⟨#[]⟩ : ByteArray)), .v (.string (⟨#[]⟩ : ByteArray)), .fl .ro 2 (List.flatten (List.map T_Param.enc []))]), (3, .v (.bool s45))]) rfl ?_
         refine pt_r_in ?_
         refine pt_r_then ?_
         obtain rfl := Option.some.inj h
         exact pt_ret hio rfl (.cellA _ _ _ _ underlying26 rfl sz26 (.tmp _ _ .nil)) rfl rfl
        ·intro u46 h hl47 hr48
         refine cond_some h (fun hg16_3 h => ?_) (fun hg16_3 h => ?_)
         ·refine ht_anyR (by kernel_rfl) hn (El := [_, _, _, _, _, (47, .agg [.v (.int .i64 v2), .v (.string v1.2.1), .v (.bool false), .v (.string (⟨#[]⟩ : ByteArray)), .v (.string (⟨#[]⟩ : ByteArray)), .v (.slice none 0 0)]), (48, .v (.bool v1.2.2)), (49, .v (.bool (!v1.2.2))), (50, .v (.bool true)), (51, .v undef), (52, .v undef), (53, .v (.bool true)), (2, .box 26 [.v (.int .i64 v2), .v (.string v1.2.1), .v (.bool false), .v (.string (⟨#[]⟩ : ByteArray)), .v (.string (⟨#[]⟩ : ByteArray)), .v (.slice none 0 0)]), (3, .v (.bool true))]) (init := [0, 1, 2, 3, 4]) (fin := [0, 12, 13]) (sps := [zq [4] 5 47, zq [3] 6 48, zq [6] 7 49, zq [7] 8 50, zq [8] 9 51, zq [8] 10 52, zq [8] 11 53, ⟨[5], [1], [12], [.cell 2 0, .cell 2 1, .cell 2 2, .cell 2 3, .cell 2 4, .cell 2 5]⟩, zq [11] 13 3]) (es' := [(_,_),(2, .box 26 [.v (.int .i64 v2), .v (.string v1.2.1), .v (.bool false), .v (.string (⟨#[]⟩ : ByteArray)), .v (.string (⟨#[]⟩ : ByteArray)), .v (.slice none 0 0)]), (3, .v (.bool true))]) (by kernel_rfl) rfl rfl ⟨zp rfl (op_loadA _ _ _ _ _ _ _ underlying26 rfl sz26 rfl rfl (zl rfl) rfl rfl),z1 rfl,zp rfl (op_un _ _ _ _ rfl rfl),z8 hg16_3 rfl,zf rfl,zf rfl,z3 true rfl,zp rfl (oS sz26 rfl),z2 rfl,zz⟩ ?_
          exact hl47 _ (Option.some.inj h).symm
         ·obtain ⟨v21, hv21, h⟩ := bind_some h
          refine ht_anyR (by kernel_rfl) hn (El := [_, _, _, _, _, (47, .agg [.v (.int .i64 v2), .v (.string v1.2.1), .v (.bool false), .v (.string (⟨#[]⟩ : ByteArray)), .v (.string (⟨#[]⟩ : ByteArray)), .v (.slice none 0 0)]), (48, .v (.bool v1.2.2)), (49, .v (.bool (!v1.2.2))), (50, .v (.bool false)), (51, .v (.string v1.2.1)), (52, .v (.bool v21)), (53, .v (.bool v21)), (2, .box 26 [.v (.int .i64 v2), .v (.string v1.2.1), .v (.bool false), .v (.string (⟨#[]⟩ : ByteArray)), .v (.string (⟨#[]⟩ : ByteArray)), .v (.slice none 0 0)]), (3, .v (.bool v21))]) (init := [0, 1, 2, 3, 4]) (fin := [0, 12, 13]) (sps := [zq [4] 5 47, zq [3] 6 48, zq [6] 7 49, zq [7] 8 50, zq [8,2] 9 51, zq [8,9,0] 10 52, zq [8,10] 11 53, ⟨[5], [1], [12], [.cell 2 0, .cell 2 1, .cell 2 2, .cell 2 3, .cell 2 4, .cell 2 5]⟩, zq [11] 13 3]) (es' := [(_,_),(2, .box 26 [.v (.int .i64 v2), .v (.string v1.2.1), .v (.bool false), .v (.string (⟨#[]⟩ : ByteArray)), .v (.string (⟨#[]⟩ : ByteArray)), .v (.slice none 0 0)]), (3, .v (.bool v21))]) (by kernel_rfl) rfl rfl ⟨zp rfl (op_loadA _ _ _ _ _ _ _ underlying26 rfl sz26 rfl rfl (zl rfl) rfl rfl),z1 rfl,zp rfl (op_un _ _ _ _ rfl rfl),z8 hg16_3 rfl,zr' rfl (oM rfl),zr' rfl (op_callG _ _ 65 37 _ _ rfl call37 rfl rfl (fun _ h => h) (ok_path_Domain mx v1.2.1 _ hv21) rfl rfl),z3 false rfl,zp rfl (oS sz26 rfl),z2 rfl,zz⟩ ?_
          exact hl47 _ (Option.some.inj h).symm
       ·have h := cond_f hb44 h
        refine zgg hn [_,_,_,_,_,_,_,(55,vb (v2 == 10)),(54,vb (v2 == 10))] [0,1,2,3,4,5,6] [0,1,2,3,4,5,8] [zq [5] 7 55,zq [7] 8 54] [(_,_),(_,_),(_,_),(_,_),(_,_),(_,_),(_,_)] rfl ⟨z4 rfl rfl,z2 rfl,zz⟩ ?_
        refine ht_cond _ rfl (fun hb49 => ?_) (fun hb49 => ?_)
        ·have h := cond_t hb49 h
         refine ht_seq ?_
         obtain ⟨v27, hv27, h⟩ := bind_some h
         refine ht_anyR (by kernel_rfl) hn (El := [_, _, _, _, _, _, _, (56, .agg [.v (.int .i64 v2), .v (.string (⟨#[]⟩ : ByteArray)), .v (.bool false), .v (.string (⟨#[]⟩ : ByteArray)), .v (.string (⟨#[]⟩ : ByteArray)), .v (.slice none 0 0)]), (57, .v (.string v1.2.1)), (58, .v (.bool v27)), (2, .box 26 [.v (.int .i64 v2), .v (.string (⟨#[]⟩ : ByteArray)), .v (.bool false), .v (.string (⟨#[]⟩ : ByteArray)), .v (.string (⟨#[]⟩ : ByteArray)), .v (.slice none 0 0)]), (3, .v (.bool v27))]) (init := [0, 1, 2, 3, 4, 5, 6]) (fin := [0, 10, 11]) (sps := [zq [4] 7 56, zq [2] 8 57, zq [8] 9 58, ⟨[7], [1], [10], [.cell 2 0, .cell 2 1, .cell 2 2, .cell 2 3, .cell 2 4, .cell 2 5]⟩, zq [9] 11 3]) (es' := [(_,_),(2, .box 26 [.v (.int .i64 v2), .v (.string (⟨#[]⟩ : ByteArray)), .v (.bool false), .v (.string (⟨#[]⟩ : ByteArray)), .v (.string (⟨#[]⟩ : ByteArray)), .v (.slice none 0 0)]), (3, .v (.bool v27))]) (by kernel_rfl) rfl rfl ⟨zp rfl (op_loadA _ _ _ _ _ _ _ underlying26 rfl sz26 rfl rfl (zl rfl) rfl rfl),z1 rfl,zp rfl (op_call _ _ 36 _ _ rfl call36 rfl (ok_verb_equalFold v1.2.1 (⟨#[67, 82, 65, 77, 45, 77, 68, 53]⟩ : ByteArray) _ hv27) rfl rfl),zp rfl (oS sz26 rfl),z2 rfl,zz⟩ ?_
         refine pt_then (ht_ret ?_)
         refine pt_pick [1, 2] (by kernel_rfl) (es' := [(_,_),(_,_)]) rfl ?_
         refine pt_sub (fs := [(2, .box 26 [.v (.int .i64 v2), .v (.string (⟨#[]⟩ : ByteArray)), .v (.bool false), .v (.string (⟨#[]⟩ : ByteArray)), .v (.string (⟨#[]⟩ : ByteArray)), .fl (.own 47) 2 (List.flatten (List.map T_Param.enc []))]), (3, .v (.bool v27))]) (.box _ _ (subs_cons (sub_refl _) (subs_cons (sub_refl _) (subs_cons (sub_refl _) (subs_cons (sub_refl _) (subs_cons (sub_refl _) (subs_cons (sub_nil 47 2) (subs_nil))))))) rfl (.same _ .nil)) ?_
         refine pt_frz 0 hio (es' := [(2, .box 26 [.v (.int .i64 v2), .v (.string (⟨#[]⟩ : ByteArray)), .v (.bool false), .v (.string (⟨#[]⟩ : ByteArray)), .v (.string (⟨#[]⟩ : ByteArray)), .fl .ro 2 (List.flatten (List.map T_Param.enc []))]), (3, .v (.bool v27))]) rfl ?_
         refine pt_r_in ?_
         refine pt_r_then ?_
         obtain rfl := Option.some.inj h
         exact pt_ret hio rfl (.cellA _ _ _ _ underlying26 rfl sz26 (.tmp _ _ .nil)) rfl rfl
        ·have h := cond_f hb49 h
         refine zgg hn [_,_,_,_,_,_,_,(60,vb (v2 == 7)),(59,vb (v2 == 7))] [0,1,2,3,4,5,6] [0,1,3,4,8] [zq [5] 7 60,zq [7] 8 59] [(_,_),(_,_),(_,_),(_,_),(_,_)] rfl ⟨z4 rfl rfl,z2 rfl,zz⟩ ?_
         refine ht_cond _ rfl (fun hb50 => ?_) (fun hb50 => ?_)
         ·have h := cond_t hb50 h
          refine zgg hn [_,_,_,_,_,(61,.agg [vi v2,vs z0,vb false,vs z0,vs z0,.v (.slice none 0 0)]),(2,.box 26 [vi v2,vs z0,vb false,vs z0,vs z0,.v (.slice none 0 0)]),(3,vb true)] [0,1,2,3,4] [0,6,7] [zq [3] 5 61,⟨[5],[1],[6],[.cell 2 0,.cell 2 1,.cell 2 2,.cell 2 3,.cell 2 4,.cell 2 5]⟩,zq [] 7 3] [(_,_),(_,_),(_,_)] rfl ⟨zp rfl (op_loadA _ _ _ _ _ _ _ underlying26 rfl sz26 rfl rfl (zl rfl) rfl rfl),zp rfl (oS sz26 rfl),z2 rfl,zz⟩ ?_
          refine ht_ret ?_
          refine pt_pick [1, 2] (by kernel_rfl) (es' := [(_,_),(_,_)]) rfl ?_
          refine pt_sub (fs := [(2, .box 26 [.v (.int .i64 v2), .v (.string (⟨#[]⟩ : ByteArray)), .v (.bool false), .v (.string (⟨#[]⟩ : ByteArray)), .v (.string (⟨#[]⟩ : ByteArray)), .fl (.own 47) 2 (List.flatten (List.map T_Param.enc []))]), (3, .v (.bool true))]) (.box _ _ (subs_cons (sub_refl _) (subs_cons (sub_refl _) (subs_cons (sub_refl _) (subs_cons (sub_refl _) (subs_cons (sub_refl _) (subs_cons (sub_nil 47 2) (subs_nil))))))) rfl (.same _ .nil)) ?_
          refine pt_frz 0 hio (es' := [(2, .box 26 [.v (.int .i64 v2), .v (.string (⟨#[]⟩ : ByteArray)), .v (.bool false), .v (.string (⟨#[]⟩ : ByteArray)), .v (.string (⟨#[]⟩ : ByteArray)), .fl .ro 2 (List.flatten (List.map T_Param.enc []))]), (3, .v (.bool true))]) rfl ?_
          refine pt_r_in ?_
          refine pt_r_then ?_
          obtain rfl := Option.some.inj h
          exact pt_ret hio rfl (.cellA _ _ _ _ underlying26 rfl sz26 (.tmp _ _ .nil)) rfl rfl
         ·have h := cond_f hb50 h
          refine ht_skip ?_
          refine pt_inb ?_
          refine pt_then ?_
          refine zgg hn [_,_,_,_,_,(62,.agg [vi v2,vs z0,vb false,vs z0,vs z0,.v (.slice none 0 0)]),(63,vb v1.2.2),(64,vb (!v1.2.2)),(2,.box 26 [vi v2,vs z0,vb false,vs z0,vs z0,.v (.slice none 0 0)]),(3,vb (!v1.2.2))] [0,1,2,3,4] [0,8,9] [zq [3] 5 62,zq [2] 6 63,zq [6] 7 64,⟨[5],[1],[8],[.cell 2 0,.cell 2 1,.cell 2 2,.cell 2 3,.cell 2 4,.cell 2 5]⟩,zq [7] 9 3] [(_,_),(_,_),(_,_)] rfl ⟨zp rfl (op_loadA _ _ _ _ _ _ _ underlying26 rfl sz26 rfl rfl (zl rfl) rfl rfl),z1 rfl,zp rfl (op_un _ _ _ _ rfl rfl),zp rfl (oS sz26 rfl),z2 rfl,zz⟩ ?_
          refine ht_ret ?_
          refine pt_pick [1, 2] (by kernel_rfl) (es' := [(_,_),(_,_)]) rfl ?_
          refine pt_sub (fs := [(2, .box 26 [.v (.int .i64 v2), .v (.string (⟨#[]⟩ : ByteArray)), .v (.bool false), .v (.string (⟨#[]⟩ : ByteArray)), .v (.string (⟨#[]⟩ : ByteArray)), .fl (.own 47) 2 (List.flatten (List.map T_Param.enc []))]), (3, .v (.bool (!v1.2.2)))]) (.box _ _ (subs_cons (sub_refl _) (subs_cons (sub_refl _) (subs_cons (sub_refl _) (subs_cons (sub_refl _) (subs_cons (sub_refl _) (subs_cons (sub_nil 47 2) (subs_nil))))))) rfl (.same _ .nil)) ?_
          refine pt_frz 0 hio (es' := [(2, .box 26 [.v (.int .i64 v2), .v (.string (⟨#[]⟩ : ByteArray)), .v (.bool false), .v (.string (⟨#[]⟩ : ByteArray)), .v (.string (⟨#[]⟩ : ByteArray)), .fl .ro 2 (List.flatten (List.map T_Param.enc []))]), (3, .v (.bool (!v1.2.2)))]) rfl ?_
          obtain rfl := Option.some.inj h
          exact pt_ret hio rfl (.cellA _ _ _ _ underlying26 rfl sz26 (.tmp _ _ .nil)) rfl rfl
    ·intro u38 h hl39 hr40
     refine zgg hn [_,_,_,_,_,_,_,_,(29,vb (v2 == 1)),(28,vb (v2 == 1))] [0,1,2,3,4,5,6,7] [1,2,3,4,5,6,9] [zq [6] 8 29,zq [8] 9 28] [(_,_),(_,_),(_,_),(_,_),(_,_),(_,_),(_,_)] rfl ⟨z4 rfl rfl,z2 rfl,zz⟩ ?_
     refine ht_cond _ rfl (fun hb41 => ?_) (fun hb41 => ?_)
     ·have h := cond_t hb41 h
      refine ht_skip ?_
      exact hl39 _ (Option.some.inj h).symm
     ·have h := cond_f hb41 h
      refine zg hn [_,_,_,_,_,_,_,(30,vb (v2 == 9)),(28,vb (v2 == 9))] [0,1,2,3,4,5,6] [0,1,2,3,4,5,8] [zq [5] 7 30,⟨[7],[6],[8],[(.slot 28)]⟩] [(_,_),(_,_),(_,_),(_,_),(_,_),(_,_),(_,_)] rfl ⟨z4 rfl rfl,zp rfl (LOp.drop [_] (op_assign _ _ _ _ rfl rfl)),zz⟩ ?_
      exact hl39 _ (Option.some.inj h).symm
  ·intro u31 h hl32 hr33
   refine zgg hn [_,_,_,_,_,_,_,(20,vb (v2 == 2)),(19,vb (v2 == 2))] [0,1,2,3,4,5,6] [0,1,2,3,4,5,6,8] [zq [6] 7 20,zq [7] 8 19] [(_,_),(_,_),(_,_),(_,_),(_,_),(_,_),(_,_),(_,_)] rfl ⟨z4 rfl rfl,z2 rfl,zz⟩ ?_
   refine ht_cond _ rfl (fun hb34 => ?_) (fun hb34 => ?_)
   ·have h := cond_t hb34 h
    refine ht_skip ?_
    exact hl32 _ (Option.some.inj h).symm
   ·have h := cond_f hb34 h
    refine zg hn [_,_,_,_,_,_,_,_,(21,vb (v2 == 3)),(19,vb (v2 == 3))] [0,1,2,3,4,5,6,7] [0,1,2,3,4,5,6,9] [zq [6] 8 21,⟨[8],[7],[9],[(.slot 19)]⟩] [(_,_),(_,_),(_,_),(_,_),(_,_),(_,_),(_,_),(_,_)] rfl ⟨z4 rfl rfl,zp rfl (LOp.drop [_] (op_assign _ _ _ _ rfl rfl)),zz⟩ ?_
    exact hl32 _ (Option.some.inj h).symm
theorem ok_verb_Parse (mx : Int) (line : ByteArray) (r : (T_Cmd × Int)) (h : Sh.verb_Parse line = some r) : FnG Tryz.prog (GL mx) 6 [.v (.string line)] (.tup [.agg [.v (.int .i64 r.1.Kind), .v (.string r.1.Text), .v (.bool r.1.Path.Null), .v (.string r.1.Path.Local), .v (.string r.1.Path.Domain), .fl .ro 2 (List.flatten (List.map T_Param.enc r.1.Params))], .v (.int .i64 r.2)]) := by
  unfold Sh.verb_Parse at h
  refine fn_okG func6 rfl (zl rfl) rfl rfl fun g0 hn hio => ?_
  refine zgg hn [_,_,(2,.box 26 [vi 0,vs z0,vb false,vs z0,vs z0,.v (.slice none 0 0)]),(3,vi 0)] [0,1] [0,1,2] [zq [] 2 2,zq [] 3 3] [(_,_),(_,_),(_,_)] rfl ⟨zp rfl (op_alloc _ _ zr26),z2 rfl,zz⟩ ?_
  refine ht_seq ?_
  refine ht_seq ?_
  refine ht_joinS h (fun (s12 : Bool) => [(0, .v (.string line)), (32, .glob (GL mx)), (2, .box 26 [.v (.int .i64 0), .v (.string (⟨#[]⟩ : ByteArray)), .v (.bool false), .v (.string (⟨#[]⟩ : ByteArray)), .v (.string (⟨#[]⟩ : ByteArray)), .v (.slice none 0 0)]), (18, .v (.bool s12))]) ?_ ?_
  ·rintro s12 h
   refine pt_then ?_
   refine ht_cond _ rfl (fun hb16 => ?_) (fun hb16 => ?_)
   ·have h := cond_t hb16 h
    refine zgg hn [_,_,_,_,(19,.agg [vi 0,vs z0,vb false,vs z0,vs z0,.v (.slice none 0 0)]),(2,.box 26 [vi 0,vs z0,vb false,vs z0,vs z0,.v (.slice none 0 0)]),(3,vi 500)] [0,1,2,3] [1,5,6] [zq [] 4 19,⟨[],[4,2],[5],[.cell 2 0,.cell 2 1,.cell 2 2,.cell 2 3,.cell 2 4,.cell 2 5]⟩,zq [] 6 3] [(_,_),(_,_),(_,_)] rfl ⟨zp rfl (op_build _ _ _ _ [1, 1, 3, 1] _ _ underlying26 zr26 (fs26 _ underlying26) Src.nil rfl rfl rfl),zp rfl (op_store_self _ _ _ 19 2 6 sz26 rfl rfl rfl rfl rfl (.eq _ (.eq _ (.eq _ (.eq _ (.eq _ (.eq _ (.nil _))))))) rfl),z2 rfl,zz⟩ ?_
    refine ht_ret ?_
    refine pt_pick [1, 2] (by kernel_rfl) (es' := [(_,_),(_,_)]) rfl ?_
    refine pt_sub (fs := [(2, .box 26 [.v (.int .i64 0), .v (.string (⟨#[]⟩ : ByteArray)), .v (.bool false), .v (.string (⟨#[]⟩ : ByteArray)), .v (.string (⟨#[]⟩ : ByteArray)), .fl (.own 47) 2 (List.flatten (List.map T_Param.enc []))]), (3, .v (.int .i64 500))]) (.box _ _ (subs_cons (sub_refl _) (subs_cons (sub_refl _) (subs_cons (sub_refl _) (subs_cons (sub_refl _) (subs_cons (sub_refl _) (subs_cons (sub_nil 47 2) (subs_nil))))))) rfl (.same _ .nil)) ?_
    refine pt_frz 0 hio (es' := [(2, .box 26 [.v (.int .i64 0), .v (.string (⟨#[]⟩ : ByteArray)), .v (.bool false), .v (.string (⟨#[]⟩ : ByteArray)), .v (.string (⟨#[]⟩ : ByteArray)), .fl .ro 2 (List.flatten (List.map T_Param.enc []))]), (3, .v (.int .i64 500))]) rfl ?_
    refine pt_r_then ?_
    obtain rfl := Option.some.inj h
    exact pt_ret hio rfl (.cellA _ _ _ _ underlying26 rfl sz26 (.tmp _ _ .nil)) rfl rfl
   ·have h := cond_f hb16 h
    refine ht_skip ?_
    refine pt_then (ht_seq ?_)
    refine ht_seq ?_
    obtain ⟨v8, hv8, h⟩ := bind_some h
    refine zg hn [_,_,_,_,(20,vs line),(21,vb v8)] [0,1,2,3] [0,1,2,5] [zq [0] 4 20,zq [4,1] 5 21] [(_,_),(_,_),(_,_),(_,_)] rfl ⟨z1 rfl,zp rfl (op_callG _ _ 32 20 _ _ rfl call20 rfl rfl (fun _ h => h) (ok_verb_otherMechanism mx line _ hv8) rfl rfl),zz⟩ ?_
    refine pt_then ?_
    refine ht_cond _ rfl (fun hb17 => ?_) (fun hb17 => ?_)
    ·have h := cond_t hb17 h
     refine zgg hn [_,_,_,_,(22,.agg [vi 0,vs z0,vb false,vs z0,vs z0,.v (.slice none 0 0)]),(2,.box 26 [vi 0,vs z0,vb false,vs z0,vs z0,.v (.slice none 0 0)]),(3,vi 504)] [0,1,2,3] [1,5,6] [zq [] 4 22,⟨[],[4,2],[5],[.cell 2 0,.cell 2 1,.cell 2 2,.cell 2 3,.cell 2 4,.cell 2 5]⟩,zq [] 6 3] [(_,_),(_,_),(_,_)] rfl ⟨zp rfl (op_build _ _ _ _ [1, 1, 3, 1] _ _ underlying26 zr26 (fs26 _ underlying26) Src.nil rfl rfl rfl),zp rfl (op_store_self _ _ _ 22 2 6 sz26 rfl rfl rfl rfl rfl (.eq _ (.eq _ (.eq _ (.eq _ (.eq _ (.eq _ (.nil _))))))) rfl),z2 rfl,zz⟩ ?_
     refine ht_ret ?_
     refine pt_pick [1, 2] (by kernel_rfl) (es' := [(_,_),(_,_)]) rfl ?_
     refine pt_sub (fs := [(2, .box 26 [.v (.int .i64 0), .v (.string (⟨#[]⟩ : ByteArray)), .v (.bool false), .v (.string (⟨#[]⟩ : ByteArray)), .v (.string (⟨#[]⟩ : ByteArray)), .fl (.own 47) 2 (List.flatten (List.map T_Param.enc []))]), (3, .v (.int .i64 504))]) (.box _ _ (subs_cons (sub_refl _) (subs_cons (sub_refl _) (subs_cons (sub_refl _) (subs_cons (sub_refl _) (subs_cons (sub_refl _) (subs_cons (sub_nil 47 2) (subs_nil))))))) rfl (.same _ .nil)) ?_
     refine pt_frz 0 hio (es' := [(2, .box 26 [.v (.int .i64 0), .v (.string (⟨#[]⟩ : ByteArray)), .v (.bool false), .v (.string (⟨#[]⟩ : ByteArray)), .v (.string (⟨#[]⟩ : ByteArray)), .fl .ro 2 (List.flatten (List.map T_Param.enc []))]), (3, .v (.int .i64 504))]) rfl ?_
     refine pt_r_then ?_
     obtain rfl := Option.some.inj h
     exact pt_ret hio rfl (.cellA _ _ _ _ underlying26 rfl sz26 (.tmp _ _ .nil)) rfl rfl
    ·have h := cond_f hb17 h
     refine ht_skip ?_
     refine pt_then (ht_seq ?_)
     obtain ⟨v10, hv10, h⟩ := bind_some h
     refine zg hn [_,_,_,_,(24,vs line),(25,.tup [.agg [vi v10.1.Kind,vs v10.1.Text,vb v10.1.Path.Null,vs v10.1.Path.Local,vs v10.1.Path.Domain,.fl .ro 2 (List.flatten (List.map T_Param.enc v10.1.Params))],vb v10.2]),(23,.tup [.agg [vi v10.1.Kind,vs v10.1.Text,vb v10.1.Path.Null,vs v10.1.Path.Local,vs v10.1.Path.Domain,.fl .ro 2 (List.flatten (List.map T_Param.enc v10.1.Params))],vb v10.2]),(26,.agg [vi v10.1.Kind,vs v10.1.Text,vb v10.1.Path.Null,vs v10.1.Path.Local,vs v10.1.Path.Domain,.fl .ro 2 (List.flatten (List.map T_Param.enc v10.1.Params))]),(27,vb v10.2),(4,.box 26 [vi 0,vs z0,vb false,vs z0,vs z0,.v (.slice none 0 0)]),(4,.box 26 [vi v10.1.Kind,vs v10.1.Text,vb v10.1.Path.Null,vs v10.1.Path.Local,vs v10.1.Path.Domain,.fl .ro 2 (List.flatten (List.map T_Param.enc v10.1.Params))]),(5,vb v10.2)] [0,1,2,3] [1,2,10,11] [zq [0] 4 24,zq [4,1] 5 25,⟨[],[5],[6],[(.slot 23)]⟩,zq [6] 7 26,zq [6] 8 27,zq [] 9 4,⟨[7],[9],[10],[.cell 4 0,.cell 4 1,.cell 4 2,.cell 4 3,.cell 4 4,.cell 4 5]⟩,zq [8] 11 5] [(_,_),(_,_),(_,_),(_,_)] rfl ⟨z1 rfl,zp rfl (op_callG _ _ 32 21 _ _ rfl call21 rfl rfl (fun _ h => h) (ok_verb_command mx line _ hv10) rfl rfl),zp rfl (op_move_take _ _ _ _ rfl),zp rfl (op_extract_no _ _ _ _ _ _ rfl rfl (zl rfl) rfl rfl),zp rfl (oE rfl),zp rfl (op_alloc _ _ zr26),zp rfl (oS sz26 rfl),z2 rfl,zz⟩ ?_
     refine pt_then (ht_seq ?_)
     refine zgg hn [_,_,_,_,(28,vb v10.2),(29,vb (!v10.2))] [0,1,2,3] [0,1,2,5] [zq [3] 4 28,zq [4] 5 29] [(_,_),(_,_),(_,_),(_,_)] rfl ⟨z1 rfl,zp rfl (op_un _ _ _ _ rfl rfl),zz⟩ ?_
     refine ht_cond _ rfl (fun hb18 => ?_) (fun hb18 => ?_)
     ·have h := cond_t hb18 h
      refine zgg hn [_,_,_,_,(30,.agg [vi 0,vs z0,vb false,vs z0,vs z0,.v (.slice none 0 0)]),(2,.box 26 [vi 0,vs z0,vb false,vs z0,vs z0,.v (.slice none 0 0)]),(3,vi 501)] [0,1,2,3] [0,5,6] [zq [] 4 30,⟨[],[4,1],[5],[.cell 2 0,.cell 2 1,.cell 2 2,.cell 2 3,.cell 2 4,.cell 2 5]⟩,zq [] 6 3] [(_,_),(_,_),(_,_)] rfl ⟨zp rfl (op_build _ _ _ _ [1, 1, 3, 1] _ _ underlying26 zr26 (fs26 _ underlying26) Src.nil rfl rfl rfl),zp rfl (op_store_self _ _ _ 30 2 6 sz26 rfl rfl rfl rfl rfl (.eq _ (.eq _ (.eq _ (.eq _ (.eq _ (.eq _ (.nil _))))))) rfl),z2 rfl,zz⟩ ?_
      refine ht_ret ?_
      refine pt_pick [1, 2] (by kernel_rfl) (es' := [(_,_),(_,_)]) rfl ?_
      refine pt_sub (fs := [(2, .box 26 [.v (.int .i64 0), .v (.string (⟨#[]⟩ : ByteArray)), .v (.bool false), .v (.string (⟨#[]⟩ : ByteArray)), .v (.string (⟨#[]⟩ : ByteArray)), .fl (.own 47) 2 (List.flatten (List.map T_Param.enc []))]), (3, .v (.int .i64 501))]) (.box _ _ (subs_cons (sub_refl _) (subs_cons (sub_refl _) (subs_cons (sub_refl _) (subs_cons (sub_refl _) (subs_cons (sub_refl _) (subs_cons (sub_nil 47 2) (subs_nil))))))) rfl (.same _ .nil)) ?_
      refine pt_frz 0 hio (es' := [(2, .box 26 [.v (.int .i64 0), .v (.string (⟨#[]⟩ : ByteArray)), .v (.bool false), .v (.string (⟨#[]⟩ : ByteArray)), .v (.string (⟨#[]⟩ : ByteArray)), .fl .ro 2 (List.flatten (List.map T_Param.enc []))]), (3, .v (.int .i64 501))]) rfl ?_
      refine pt_r_then ?_
      obtain rfl := Option.some.inj h
      exact pt_ret hio rfl (.cellA _ _ _ _ underlying26 rfl sz26 (.tmp _ _ .nil)) rfl rfl
     ·have h := cond_f hb18 h
      refine ht_skip ?_
      refine pt_then ?_
      refine zgg hn [_,_,_,_,(31,.agg [vi v10.1.Kind,vs v10.1.Text,vb v10.1.Path.Null,vs v10.1.Path.Local,vs v10.1.Path.Domain,.fl .ro 2 (List.flatten (List.map T_Param.enc v10.1.Params))]),(2,.box 26 [vi v10.1.Kind,vs v10.1.Text,vb v10.1.Path.Null,vs v10.1.Path.Local,vs v10.1.Path.Domain,.fl .ro 2 (List.flatten (List.map T_Param.enc v10.1.Params))]),(3,vi 0)] [0,1,2,3] [0,5,6] [zq [2] 4 31,⟨[4],[1],[5],[.cell 2 0,.cell 2 1,.cell 2 2,.cell 2 3,.cell 2 4,.cell 2 5]⟩,zq [] 6 3] [(_,_),(_,_),(_,_)] rfl ⟨zp rfl (op_loadA _ _ _ _ _ _ _ underlying26 rfl sz26 rfl rfl (zl rfl) rfl rfl),zp rfl (oS sz26 rfl),z2 rfl,zz⟩ ?_
      refine ht_ret ?_
      refine pt_pick [1, 2] (by kernel_rfl) (es' := [(_,_),(_,_)]) rfl ?_
      obtain rfl := Option.some.inj h
      exact pt_ret hio rfl (.cellA _ _ _ _ underlying26 rfl sz26 (.tmp _ _ .nil)) rfl rfl
  ·intro u13 h hl14 hr15
   refine cond_some h (fun hg1_3 h => ?_) (fun hg1_3 h => ?_)
   ·refine zg hn (_::_::_::(6,vs line)::(7,vi (line.size : Int))::(8,vb (decide (510 < (line.size : Int))))::(9,vb true)::(10,.v undef)::(11,.v undef)::(12,.v undef)::(13,vb true)::(14,vb true)::(15,.v undef)::(16,.v undef)::(17,.v undef)::(18,vb true)::[]) [0,1,2] [0,1,2,15] [zq [0] 3 6,zq [3] 4 7,zq [4] 5 8,zq [5] 6 9,zq [6] 7 10,zq [6] 8 11,zq [6] 9 12,zq [6] 10 13,zq [10] 11 14,zq [11] 12 15,zq [11] 13 16,zq [11] 14 17,zq [11] 15 18] [(_,_),(_,_),(_,_),(_,_)] rfl ⟨z1 rfl,zp rfl (oN underlying9 rfl),z4 rfl rfl,z8 hg1_3 rfl,zf rfl,zf rfl,zf rfl,z3 true rfl,z1 rfl,zf rfl,zf rfl,zf rfl,z3 true rfl,zz⟩ ?_
    exact hl14 _ (Option.some.inj h).symm
   ·obtain ⟨v1, hv1, h⟩ := bind_some h
    refine cond_some h (fun hg1_8 h => ?_) (fun hg1_8 h => ?_)
    ·refine zg hn (_::_::_::(6,vs line)::(7,vi (line.size : Int))::(8,vb (decide (510 < (line.size : Int))))::(9,vb false)::(10,vs line)::(11,vb v1)::(12,vb (!v1))::(13,vb (!v1))::(14,vb true)::(15,.v undef)::(16,.v undef)::(17,.v undef)::(18,vb true)::[]) [0,1,2] [0,1,2,15] [zq [0] 3 6,zq [3] 4 7,zq [4] 5 8,zq [5] 6 9,zq [6,0] 7 10,zq [6,7] 8 11,zq [6,8] 9 12,zq [6,9] 10 13,zq [10] 11 14,zq [11] 12 15,zq [11] 13 16,zq [11] 14 17,zq [11] 15 18] [(_,_),(_,_),(_,_),(_,_)] rfl ⟨z1 rfl,zp rfl (oN underlying9 rfl),z4 rfl rfl,z8 hg1_3 rfl,zr' rfl (oM rfl),zr' rfl (op_call _ _ 18 _ _ rfl call18 rfl (ok_verb_printable line _ hv1) rfl rfl),zr' rfl (op_un _ _ _ _ rfl rfl),z3 false rfl,z8 hg1_8 rfl,zf rfl,zf rfl,zf rfl,z3 true rfl,zz⟩ ?_
     exact hl14 _ (Option.some.inj h).symm
    ·obtain ⟨v2, hv2, h⟩ := bind_some h
     refine zg hn (_::_::_::(6,vs line)::(7,vi (line.size : Int))::(8,vb (decide (510 < (line.size : Int))))::(9,vb false)::(10,vs line)::(11,vb v1)::(12,vb (!v1))::(13,vb (!v1))::(14,vb false)::(15,vs line)::(16,vi v2)::(17,vb (v2 == 0))::(18,vb (v2 == 0))::[]) [0,1,2] [0,1,2,15] [zq [0] 3 6,zq [3] 4 7,zq [4] 5 8,zq [5] 6 9,zq [6,0] 7 10,zq [6,7] 8 11,zq [6,8] 9 12,zq [6,9] 10 13,zq [10] 11 14,zq [11,0] 12 15,zq [11,12] 13 16,zq [11,13] 14 17,zq [11,14] 15 18] [(_,_),(_,_),(_,_),(_,_)] rfl ⟨z1 rfl,zp rfl (oN underlying9 rfl),z4 rfl rfl,z8 hg1_3 rfl,zr' rfl (oM rfl),zr' rfl (op_call _ _ 18 _ _ rfl call18 rfl (ok_verb_printable line _ hv1) rfl rfl),zr' rfl (op_un _ _ _ _ rfl rfl),z3 false rfl,z8 hg1_8 rfl,zr' rfl (oM rfl),zr' rfl (op_call _ _ 19 _ _ rfl call19 rfl (ok_verb_kindOf line _ hv2) rfl rfl),zr' rfl (oB rfl rfl),z3 false rfl,zz⟩ ?_
     exact hl14 _ (Option.some.inj h).symm
theorem ok_wherryref11_Fold (s : ByteArray) (r : ByteArray) (h : Sh.wherryref11_Fold s = some r) : FnOK Tryz.prog 27 [.v (.string s)] (.v (.string r)) := by
  unfold Sh.wherryref11_Fold at h
  refine fn_ok func27 rfl (zl rfl) rfl rfl fun g0 hn hio => ?_
  refine zgg hn [_,(2,vs z0)] [0] [0] [zq [] 1 2] [(_,_)] rfl ⟨z2 rfl,zz⟩ ?_
  refine zgg hn [_,(3,.v (.slice none 0 0))] [0] [0,1] [zq [] 1 3] [(_,_),(_,_)] rfl ⟨z2 rfl,zz⟩ ?_
  refine ht_seq ?_
  refine zgg hn [_,_,(4,vi 0)] [0,1] [0,1,2] [zq [] 2 4] [(_,_),(_,_),(_,_)] rfl ⟨z2 rfl,zz⟩ ?_
  refine ht_sub (fs := [(0, .v (.string s)), (3, .fl (.own 5) 1 (List.map (Value.int .u8) [])), (4, .v (.int .i64 0))]) (.same _ (.sub _ (sub_nil 5 1) rfl (.same _ .nil))) ?_
  refine ht_loopS h (fun ((s37, s38) : (List Int) × Int) => [(0, .v (.string s)), (3, .fl (.own 5) 1 (List.map (Value.int .u8) s37)), (4, .v (.int .i64 s38))]) (fun (s54 : (List Int)) => [(3, .fl (.own 5) 1 (List.map (Value.int .u8) s54))]) ?_ ?_
  ·rintro s54 h
   refine pt_then (ht_seq ?_)
   obtain ⟨v76, hv76, h⟩ := bind_some h
   refine zg hn [_,(27,.fl (.own 5) 1 (List.map (Value.int .u8) s54)),(28,vs v76),(2,vs v76)] [0] [3] [⟨[],[0],[1],[(.slot 27)]⟩,zq [1] 2 28,zq [2] 3 2] [(_,_)] rfl ⟨zp rfl (op_move_take _ _ _ _ rfl),zp rfl ((Option.some.inj hv76) ▸ op_bytes_str _ _ _ s54 underlying67 underlying9 underlying5 rfl),z2 rfl,zz⟩ ?_
   refine pt_then (ht_ret ?_)
   obtain rfl := Option.some.inj h
   exact pt_ret hio rfl (.tmp _ _ .nil) rfl rfl
  ·rintro u55 hl56 hr57 ⟨s37, s38⟩ rr60 h ho58
   refine ht_seq ?_
   refine zgg hn [_,_,_,(6,vi s38),(7,vs s),(8,vi (s.size : Int)),(9,vb (decide (s38 < (s.size : Int))))] [0,1,2] [0,1,2,6] [zq [2] 3 6,zq [0] 4 7,zq [4] 5 8,zq [3,5] 6 9] [(_,_),(_,_),(_,_),(_,_)] rfl ⟨z1 rfl,z1 rfl,zp rfl (oN underlying9 rfl),z4 rfl rfl,zz⟩ ?_
   refine ht_cond _ rfl (fun hb61 => ?_) (fun hb61 => ?_)
   ·have h := cond_t hb61 h
    refine ht_skip ?_
    refine pt_then (ht_seq ?_)
    refine ht_block ?_
    refine ht_seq ?_
    obtain ⟨v2, hv2, h⟩ := bind_some h
    refine zg hn [_,_,_,_,(12,vs s),(13,vi s38),(14,.v (.int .u8 v2)),(5,.v (.int .u8 v2))] [0,1,2,3] [0,1,2,7] [zq [0] 4 12,zq [2] 5 13,zq [4,5] 6 14,zq [6] 7 5] [(_,_),(_,_),(_,_),(_,_)] rfl ⟨z1 rfl,z1 rfl,zp rfl (op_chr _ _ _ s38 _ underlying9 rfl rfl hv2),z2 rfl,zz⟩ ?_
    refine pt_then (ht_seq ?_)
    refine ht_joinS h (fun (s67 : Int) => [(0, .v (.string s)), (3, .fl (.own 5) 1 (List.map (Value.int .u8) s37)), (4, .v (.int .i64 s38)), (5, .v (.int .u8 s67))]) ?_ ?_
    ·rintro s67 h
     refine pt_then ?_
     obtain ⟨v18, hv18, h⟩ := bind_some h
     refine zg hn [_,_,_,_,(23,.fl (.own 5) 1 (List.map (Value.int .u8) s37)),(24,.v (.int .u8 s67)),(25,.fl (.own 5) 1 (List.map (Value.int .u8) [s67])),(26,.fl (.own 5) 1 (List.map (Value.int .u8) v18)),(23,.any),(3,.fl (.own 5) 1 (List.map (Value.int .u8) v18))] [0,1,2,3] [0,2,9] [⟨[],[1],[4],[(.slot 23)]⟩,zq [3] 5 24,zq [5] 6 25,⟨[6],[4],[8,7],[(.slot 26)]⟩,⟨[],[7],[9],[(.slot 3)]⟩] [(_,_),(_,_),(_,_)] rfl ⟨zp rfl (op_move_take _ _ _ _ rfl),z1 rfl,zp rfl (op_buildSlice _ _ 1 (.int .u8 0) (List.map (Value.int .u8) [s67]) [(0, .int .u8 s67)] underlying67 sz5 zr5 (fun _ V w o a hv hes => by have e0 := rd_v hv hes (x := .tmp 24) rfl; simp only [List.map_toArray, List.map_cons, List.map_nil, e0]; try rfl) (litfill (by simp [Instr.fill, Value.cells]; rfl) (by simp [List.range, List.range.loop] <;> rfl)) (by simp [Value.oneCell']) rfl (by decide) (by decide) (by decide)),zp rfl (op_app _ _ _ _ _ el67 rfl rfl (map_len _) (map_len _) hv18 ((List.map_append).symm.trans (congrArg (List.map _) (app_eq hv18)))),zp rfl (op_assign_take _ _ _ _ rfl),zz⟩ ?_
     refine pt_inb ?_
     refine pt_then ?_
     obtain ⟨v19, hv19, h⟩ := bind_some h
     refine zg hn [_,_,_,(10,vi s38),(11,vi v19),(4,vi v19)] [0,1,2] [0,2,5] [zq [1] 3 10,zq [3] 4 11,⟨[4],[1],[5],[(.slot 4)]⟩] [(_,_),(_,_),(_,_)] rfl ⟨z1 rfl,zp rfl (oB rfl (ibind (f := Value.int .i64) (Option.some.inj hv19))),zp rfl (LOp.drop [_] (op_assign _ _ _ _ rfl rfl)),zz⟩ ?_
     exact pt_next _ (Option.some.inj h).symm rfl
    ·intro u68 h hl69 hr70
     refine ht_seq ?_
     refine ht_joinS h (fun (s71 : Bool) => [(0, .v (.string s)), (3, .fl (.own 5) 1 (List.map (Value.int .u8) s37)), (4, .v (.int .i64 s38)), (5, .v (.int .u8 v2)), (20, .v (.bool s71))]) ?_ ?_
     ·rintro s71 h
      refine pt_then ?_
      refine ht_cond _ rfl (fun hb75 => ?_) (fun hb75 => ?_)
      ·have h := cond_t hb75 h
       obtain ⟨v8, hv8, h⟩ := bind_some h
       refine zg hn [_,_,_,_,_,(21,.v (.int .u8 v2)),(22,.v (.int .u8 v8)),(5,.v (.int .u8 v8))] [0,1,2,3,4] [0,1,2,7] [zq [3] 5 21,zq [5] 6 22,⟨[6],[3],[7],[(.slot 5)]⟩] [(_,_),(_,_),(_,_),(_,_)] rfl ⟨z1 rfl,zp rfl (oB rfl (ibind (f := Value.int .u8) (Option.some.inj hv8))),zp rfl (LOp.drop [_] (op_assign _ _ _ _ rfl rfl)),zz⟩ ?_
       exact hl69 _ (Option.some.inj h).symm
      ·have h := cond_f hb75 h
       refine ht_skip ?_
       refine pt_pick [0, 1, 2, 3] (by kernel_rfl) (es' := [(_,_),(_,_),(_,_),(_,_)]) rfl ?_
       exact hl69 _ (Option.some.inj h).symm
     ·intro u72 h hl73 hr74
      refine cond_some h (fun hg6_2 h => ?_) (fun hg6_2 h => ?_)
      ·refine zg hn [_,_,_,_,(15,.v (.int .u8 v2)),(16,vb (decide (65 ≤ v2))),(17,vb true),(18,.v (.int .u8 v2)),(19,vb (decide (v2 ≤ 90))),(20,vb (decide (v2 ≤ 90)))] [0,1,2,3] [0,1,2,3,9] [zq [3] 4 15,zq [4] 5 16,zq [5] 6 17,zq [6,3] 7 18,zq [6,7] 8 19,zq [6,8] 9 20] [(_,_),(_,_),(_,_),(_,_),(_,_)] rfl ⟨z1 rfl,z4 rfl rfl,z8 hg6_2 rfl,zr' rfl (oM rfl),zr' rfl (oB rfl rfl),z3 true rfl,zz⟩ ?_
       exact hl73 _ (Option.some.inj h).symm
      ·refine zg hn [_,_,_,_,(15,.v (.int .u8 v2)),(16,vb (decide (65 ≤ v2))),(17,vb false),(18,.v undef),(19,.v undef),(20,vb false)] [0,1,2,3] [0,1,2,3,9] [zq [3] 4 15,zq [4] 5 16,zq [5] 6 17,zq [6] 7 18,zq [6] 8 19,zq [6] 9 20] [(_,_),(_,_),(_,_),(_,_),(_,_)] rfl ⟨z1 rfl,z4 rfl rfl,z8 hg6_2 rfl,zt rfl,zt rfl,z3 false rfl,zz⟩ ?_
       exact hl73 _ (Option.some.inj h).symm
   ·have h := cond_f hb61 h
    refine ht_exit ?_
    refine pt_x_then ?_
    refine pt_x_then ?_
    refine pt_x_in ?_
    refine pt_pick [1] (by kernel_rfl) (es' := [(_,_)]) rfl ?_
    exact hl56 _ (ho58 _ (Option.some.inj h).symm).symm
theorem ok_wherryref11_first (s : ByteArray) (r : ByteArray) (h : Sh.wherryref11_first s = some r) : FnOK Tryz.prog 22 [.v (.string s)] (.v (.string r)) := by
  unfold Sh.wherryref11_first at h
  refine fn_ok func22 rfl (zl rfl) rfl rfl fun g0 hn hio => ?_
  refine zgg hn [_,(2,vs z0)] [0] [0] [zq [] 1 2] [(_,_)] rfl ⟨z2 rfl,zz⟩ ?_
  refine ht_seq ?_
  refine zgg hn [_,(3,vi 0)] [0] [0,1] [zq [] 1 3] [(_,_),(_,_)] rfl ⟨z2 rfl,zz⟩ ?_
  refine ht_loopS h (fun (s10 : Int) => [(0, .v (.string s)), (3, .v (.int .i64 s10))]) (fun (() : Unit) => [(0, .v (.string s))]) ?_ ?_
  ·rintro ⟨⟩ h
   refine pt_then (ht_seq ?_)
   obtain ⟨v21, hv21, h⟩ := bind_some h
   refine zg hn [_,(18,vs s),(19,vs v21),(2,vs v21)] [0] [3] [zq [0] 1 18,zq [1] 2 19,zq [2] 3 2] [(_,_)] rfl ⟨z1 rfl,zp rfl (op_call _ _ 27 _ _ rfl call27 rfl (ok_wherryref11_Fold s _ hv21) rfl rfl),z2 rfl,zz⟩ ?_
   refine pt_then (ht_ret ?_)
   obtain rfl := Option.some.inj h
   exact pt_ret hio rfl (.tmp _ _ .nil) rfl rfl
  ·rintro u13 hl14 hr15 s10 rr18 h ho16
   refine ht_seq ?_
   refine zgg hn [_,_,(4,vi s10),(5,vs s),(6,vi (s.size : Int)),(7,vb (decide (s10 < (s.size : Int))))] [0,1] [0,1,5] [zq [1] 2 4,zq [0] 3 5,zq [3] 4 6,zq [2,4] 5 7] [(_,_),(_,_),(_,_)] rfl ⟨z1 rfl,z1 rfl,zp rfl (oN underlying9 rfl),z4 rfl rfl,zz⟩ ?_
   refine ht_cond _ rfl (fun hb19 => ?_) (fun hb19 => ?_)
   ·have h := cond_t hb19 h
    refine ht_skip ?_
    refine pt_then (ht_seq ?_)
    refine ht_block ?_
    refine ht_seq ?_
    obtain ⟨v2, hv2, h⟩ := bind_some h
    refine zg hn [_,_,_,(10,vs s),(11,vi s10),(12,.v (.int .u8 v2)),(13,vb (v2 == 32))] [0,1,2] [0,1,6] [zq [0] 3 10,zq [1] 4 11,zq [3,4] 5 12,zq [5] 6 13] [(_,_),(_,_),(_,_)] rfl ⟨z1 rfl,z1 rfl,zp rfl (op_chr _ _ _ s10 _ underlying9 rfl rfl hv2),z4 rfl rfl,zz⟩ ?_
    refine pt_then ?_
    refine ht_cond _ rfl (fun hb20 => ?_) (fun hb20 => ?_)
    ·have h := cond_t hb20 h
     refine ht_seq ?_
     obtain ⟨v4, hv4, h⟩ := bind_some h
     obtain ⟨v5, hv5, h⟩ := bind_some h
     refine zg hn [_,_,_,(14,vs s),(15,vi s10),(16,vs v4),(17,vs v5),(2,vs v5)] [0,1,2] [7] [zq [0] 3 14,zq [1] 4 15,zq [3,4] 5 16,zq [5] 6 17,zq [6] 7 2] [(_,_)] rfl ⟨z1 rfl,z1 rfl,zp rfl (op_substr _ _ _ 0 s10 _ underlying9 rfl rfl ⟨_, rfl⟩ hv4),zp rfl (op_call _ _ 27 _ _ rfl call27 rfl (ok_wherryref11_Fold v4 _ hv5) rfl rfl),z2 rfl,zz⟩ ?_
     refine pt_then (ht_ret ?_)
     refine pt_r_in ?_
     refine pt_r_then ?_
     refine pt_r_then ?_
     refine pt_r_in ?_
     refine pt_r_then ?_
     have h := hr15 _ (ho16 _ (Option.some.inj h).symm).symm
     obtain rfl := Option.some.inj h
     exact pt_ret hio rfl (.tmp _ _ .nil) rfl rfl
    ·have h := cond_f hb20 h
     refine ht_skip ?_
     refine pt_inb ?_
     refine pt_then ?_
     obtain ⟨v6, hv6, h⟩ := bind_some h
     refine zg hn [_,_,_,(8,vi s10),(9,vi v6),(3,vi v6)] [0,1,2] [0,5] [zq [1] 3 8,zq [3] 4 9,⟨[4],[1],[5],[(.slot 3)]⟩] [(_,_),(_,_)] rfl ⟨z1 rfl,zp rfl (oB rfl (ibind (f := Value.int .i64) (Option.some.inj hv6))),zp rfl (LOp.drop [_] (op_assign _ _ _ _ rfl rfl)),zz⟩ ?_
     exact pt_next _ (Option.some.inj h).symm rfl
   ·have h := cond_f hb19 h
    refine ht_exit ?_
    refine pt_x_then ?_
    refine pt_x_then ?_
    refine pt_x_in ?_
    refine pt_pick [0] (by kernel_rfl) (es' := [(_,_)]) rfl ?_
    exact hl14 _ (ho16 _ (Option.some.inj h).symm).symm
theorem ok_wherryref11_among (s : ByteArray) (l : (List ByteArray)) (r : Bool) (h : Sh.wherryref11_among s l = some r) : FnOK Tryz.prog 23 [.v (.string s), .fl .shr 1 (List.map Value.string l)] (.v (.bool r)) := by
  unfold Sh.wherryref11_among at h
  refine fn_ok func23 rfl (zl rfl) rfl rfl fun g0 hn hio => ?_
  refine zgg hn [_,_,(4,vb false)] [0,1] [0,1] [zq [] 2 4] [(_,_),(_,_)] rfl ⟨z2 rfl,zz⟩ ?_
  refine ht_seq ?_
  refine zgg hn [_,_,(5,vi 0)] [0,1] [0,1,2] [zq [] 2 5] [(_,_),(_,_),(_,_)] rfl ⟨z2 rfl,zz⟩ ?_
  refine ht_loopS h (fun (s9 : Int) => [(0, .v (.string s)), (1, .fl .shr 1 (List.map Value.string l)), (5, .v (.int .i64 s9))]) (fun (() : Unit) => []) ?_ ?_
  ·rintro ⟨⟩ h
   refine pt_then ?_
   refine zgg hn [(4,vb false)] [] [0] [zq [] 0 4] [(_,_)] rfl ⟨z2 rfl,zz⟩ ?_
   refine ht_ret ?_
   obtain rfl := Option.some.inj h
   exact pt_ret hio rfl (.tmp _ _ .nil) rfl rfl
  ·rintro u12 hl13 hr14 s9 rr17 h ho15
   refine ht_seq ?_
   refine zgg hn [_,_,_,(6,vi s9),(7,.fl .shr 1 (List.map Value.string l)),(8,vi (l.length : Int)),(9,vb (decide (s9 < (l.length : Int))))] [0,1,2] [0,1,2,6] [zq [2] 3 6,zq [1] 4 7,zq [4] 5 8,zq [3,5] 6 9] [(_,_),(_,_),(_,_),(_,_)] rfl ⟨z1 rfl,z1 rfl,zp rfl (op_len_fl _ _ _ underlying43 rfl (by decide) (map_len _)),z4 rfl rfl,zz⟩ ?_
   refine ht_cond _ rfl (fun hb18 => ?_) (fun hb18 => ?_)
   ·have h := cond_t hb18 h
    refine ht_skip ?_
    refine pt_then (ht_seq ?_)
    refine ht_block ?_
    refine ht_seq ?_
    obtain ⟨v2, hv2, h⟩ := bind_some h
    obtain ⟨v3, hv3, h⟩ := bind_some h
    refine zg hn [_,_,_,_,(12,.fl .shr 1 (List.map Value.string l)),(13,vi s9),(14,.eref (.slot 12) (v2 * 1)),(15,vs v3),(16,vs s),(17,vb (v3.toList == s.toList))] [0,1,2,3] [0,1,2,9] [zq [1] 4 12,zq [2] 5 13,zq [4,5] 6 14,zq [6,4] 7 15,zq [0] 8 16,zq [7,8] 9 17] [(_,_),(_,_),(_,_),(_,_)] rfl ⟨z1 rfl,z1 rfl,zp rfl (op_ix _ _ _ _ _ _ _ _ underlying43 sz9 (by decide) rfl rfl rfl (ix_ok hv2).1 (map_lt (ix_ok hv2).2) rfl),zp rfl (op_load_e _ _ _ _ _ _ underlying9 rfl rfl rfl (map_get hv3)),z1 rfl,z4 rfl rfl,zz⟩ ?_
    refine pt_then ?_
    refine ht_cond _ rfl (fun hb19 => ?_) (fun hb19 => ?_)
    ·have h := cond_t hb19 h
     refine zgg hn [_,_,_,_,(4,vb true)] [0,1,2,3] [4] [zq [] 4 4] [(_,_)] rfl ⟨z2 rfl,zz⟩ ?_
     refine ht_ret ?_
     refine pt_r_in ?_
     refine pt_r_then ?_
     refine pt_r_then ?_
     refine pt_r_in ?_
     refine pt_r_then ?_
     have h := hr14 _ (ho15 _ (Option.some.inj h).symm).symm
     obtain rfl := Option.some.inj h
     exact pt_ret hio rfl (.tmp _ _ .nil) rfl rfl
    ·have h := cond_f hb19 h
     refine ht_skip ?_
     refine pt_inb ?_
     refine pt_then ?_
     obtain ⟨v5, hv5, h⟩ := bind_some h
     refine zg hn [_,_,_,_,(10,vi s9),(11,vi v5),(5,vi v5)] [0,1,2,3] [0,1,6] [zq [2] 4 10,zq [4] 5 11,⟨[5],[2],[6],[(.slot 5)]⟩] [(_,_),(_,_),(_,_)] rfl ⟨z1 rfl,zp rfl (oB rfl (ibind (f := Value.int .i64) (Option.some.inj hv5))),zp rfl (LOp.drop [_] (op_assign _ _ _ _ rfl rfl)),zz⟩ ?_
     exact pt_next _ (Option.some.inj h).symm rfl
   ·have h := cond_f hb18 h
    refine ht_exit ?_
    refine pt_x_then ?_
    refine pt_x_then ?_
    refine pt_x_in ?_
    refine pt_pick [] (by kernel_rfl) (es' := []) rfl ?_
    exact hl13 _ (ho15 _ (Option.some.inj h).symm).symm
theorem ok_wherryref11_in (n : Int) (lo : Int) (hi : Int) (r : Bool) (h : Sh.wherryref11_in n lo hi = some r) : FnOK Tryz.prog 39 [.v (.int .i64 n), .v (.int .i64 lo), .v (.int .i64 hi)] (.v (.bool r)) := by
  unfold Sh.wherryref11_in at h
  refine fn_ok func39 rfl (zl rfl) rfl rfl fun g0 hn hio => ?_
  refine zgg hn [_,_,_,(6,vb false)] [0,1,2] [0,1,2] [zq [] 3 6] [(_,_),(_,_),(_,_)] rfl ⟨z2 rfl,zz⟩ ?_
  refine ht_seq ?_
  refine ht_joinS h (fun (s1 : Bool) => [(6, .v (.bool s1))]) ?_ ?_
  ·rintro s1 h
   refine pt_then (ht_ret ?_)
   obtain rfl := Option.some.inj h
   exact pt_ret hio rfl (.tmp _ _ .nil) rfl rfl
  ·intro u2 h hl3 hr4
   refine cond_some h (fun hg1_3 h => ?_) (fun hg1_3 h => ?_)
   ·refine zg hn [_,_,_,(7,vi n),(8,vi lo),(9,vb (decide (lo ≤ n))),(10,vb true),(11,vi n),(12,vi hi),(13,vb (decide (n ≤ hi))),(14,vb (decide (n ≤ hi))),(6,vb (decide (n ≤ hi)))] [0,1,2] [11] [zq [0] 3 7,zq [1] 4 8,zq [3,4] 5 9,zq [5] 6 10,zq [6,0] 7 11,zq [6,2] 8 12,zq [6,7,8] 9 13,zq [6,9] 10 14,zq [10] 11 6] [(_,_)] rfl ⟨z1 rfl,z1 rfl,z4 rfl rfl,z8 hg1_3 rfl,zr' rfl (oM rfl),zr' rfl (oM rfl),zr' rfl (oB rfl rfl),z3 true rfl,z2 rfl,zz⟩ ?_
    exact hl3 _ (Option.some.inj h).symm
   ·refine zg hn [_,_,_,(7,vi n),(8,vi lo),(9,vb (decide (lo ≤ n))),(10,vb false),(11,.v undef),(12,.v undef),(13,.v undef),(14,vb false),(6,vb false)] [0,1,2] [11] [zq [0] 3 7,zq [1] 4 8,zq [3,4] 5 9,zq [5] 6 10,zq [6] 7 11,zq [6] 8 12,zq [6] 9 13,zq [6] 10 14,zq [10] 11 6] [(_,_)] rfl ⟨z1 rfl,z1 rfl,z4 rfl rfl,z8 hg1_3 rfl,zt rfl,zt rfl,zt rfl,z3 false rfl,z2 rfl,zz⟩ ?_
    exact hl3 _ (Option.some.inj h).symm
theorem ok_wherryref11_letter (c : Int) (r : Bool) (h : Sh.wherryref11_letter c = some r) : FnOK Tryz.prog 40 [.v (.int .u8 c)] (.v (.bool r)) := by
  unfold Sh.wherryref11_letter at h
  refine fn_ok func40 rfl (zl rfl) rfl rfl fun g0 hn hio => ?_
  refine zgg hn [_,(2,vb false)] [0] [0] [zq [] 1 2] [(_,_)] rfl ⟨z2 rfl,zz⟩ ?_
  refine ht_seq ?_
  refine ht_joinS h (fun (s1 : Bool) => [(2, .v (.bool s1))]) ?_ ?_
  ·rintro s1 h
   refine pt_then (ht_ret ?_)
   obtain rfl := Option.some.inj h
   exact pt_ret hio rfl (.tmp _ _ .nil) rfl rfl
  ·intro u2 h hl3 hr4
   refine cond_some h (fun hg1_2 h => ?_) (fun hg1_2 h => ?_)
   ·refine cond_some h (fun hg1_6 h => ?_) (fun hg1_6 h => ?_)
    ·refine zg hn (_::(3,.v (.int .u8 c))::(4,vb (decide (97 ≤ c)))::(5,vb true)::(6,.v (.int .u8 c))::(7,vb (decide (c ≤ 122)))::(8,vb (decide (c ≤ 122)))::(9,vb true)::(10,.v undef)::(11,.v undef)::(12,.v undef)::(13,.v undef)::(14,.v undef)::(15,.v undef)::(16,vb true)::(2,vb true)::[]) [0] [15] (zq [0] 1 3::zq [1] 2 4::zq [2] 3 5::zq [3,0] 4 6::zq [3,4] 5 7::zq [3,5] 6 8::zq [6] 7 9::zq [7] 8 10::zq [7] 9 11::zq [7] 10 12::zq [10] 11 13::zq [10] 12 14::zq [7] 13 15::zq [7] 14 16::zq [14] 15 2::[]) [(_,_)] rfl ⟨z1 rfl,z4 rfl rfl,z8 hg1_2 rfl,zr' rfl (oM rfl),zr' rfl (oB rfl rfl),z3 true rfl,z8 hg1_6 rfl,zf rfl,zf rfl,zf rfl,zu' rfl,zu' rfl,zf rfl,z3 true rfl,z2 rfl,zz⟩ ?_
     exact hl3 _ (Option.some.inj h).symm
    ·refine cond_some h (fun hg1_9 h => ?_) (fun hg1_9 h => ?_)
     ·refine zg hn (_::(3,.v (.int .u8 c))::(4,vb (decide (97 ≤ c)))::(5,vb true)::(6,.v (.int .u8 c))::(7,vb (decide (c ≤ 122)))::(8,vb (decide (c ≤ 122)))::(9,vb false)::(10,.v (.int .u8 c))::(11,vb (decide (65 ≤ c)))::(12,vb true)::(13,.v (.int .u8 c))::(14,vb (decide (c ≤ 90)))::(15,vb (decide (c ≤ 90)))::(16,vb (decide (c ≤ 90)))::(2,vb (decide (c ≤ 90)))::[]) [0] [15] (zq [0] 1 3::zq [1] 2 4::zq [2] 3 5::zq [3,0] 4 6::zq [3,4] 5 7::zq [3,5] 6 8::zq [6] 7 9::zq [7,0] 8 10::zq [7,8] 9 11::zq [7,9] 10 12::zq [10,0] 11 13::zq [10,11] 12 14::zq [7,10,12] 13 15::zq [7,13] 14 16::zq [14] 15 2::[]) [(_,_)] rfl ⟨z1 rfl,z4 rfl rfl,z8 hg1_2 rfl,zr' rfl (oM rfl),zr' rfl (oB rfl rfl),z3 true rfl,z8 hg1_6 rfl,zr' rfl (oM rfl),zr' rfl (oB rfl rfl),zr' rfl (op_move _ _ _ _ (zb hg1_9) rfl),zr' rfl (oM rfl),zr' rfl (oB rfl rfl),zr' rfl (op_pick _ _ true _ rfl rfl),z3 false rfl,z2 rfl,zz⟩ ?_
      exact hl3 _ (Option.some.inj h).symm
     ·refine zg hn (_::(3,.v (.int .u8 c))::(4,vb (decide (97 ≤ c)))::(5,vb true)::(6,.v (.int .u8 c))::(7,vb (decide (c ≤ 122)))::(8,vb (decide (c ≤ 122)))::(9,vb false)::(10,.v (.int .u8 c))::(11,vb (decide (65 ≤ c)))::(12,vb false)::(13,.v undef)::(14,.v undef)::(15,vb false)::(16,vb false)::(2,vb false)::[]) [0] [15] (zq [0] 1 3::zq [1] 2 4::zq [2] 3 5::zq [3,0] 4 6::zq [3,4] 5 7::zq [3,5] 6 8::zq [6] 7 9::zq [7,0] 8 10::zq [7,8] 9 11::zq [7,9] 10 12::zq [10] 11 13::zq [10] 12 14::zq [7,10] 13 15::zq [7,13] 14 16::zq [14] 15 2::[]) [(_,_)] rfl ⟨z1 rfl,z4 rfl rfl,z8 hg1_2 rfl,zr' rfl (oM rfl),zr' rfl (oB rfl rfl),z3 true rfl,z8 hg1_6 rfl,zr' rfl (oM rfl),zr' rfl (oB rfl rfl),zr' rfl (op_move _ _ _ _ (zb hg1_9) rfl),zt rfl,zt rfl,zr' rfl (op_pick _ _ false _ rfl rfl),z3 false rfl,z2 rfl,zz⟩ ?_
      exact hl3 _ (Option.some.inj h).symm
   ·refine cond_some h (fun hg1_9 h => ?_) (fun hg1_9 h => ?_)
    ·refine zg hn (_::(3,.v (.int .u8 c))::(4,vb (decide (97 ≤ c)))::(5,vb false)::(6,.v undef)::(7,.v undef)::(8,vb false)::(9,vb false)::(10,.v (.int .u8 c))::(11,vb (decide (65 ≤ c)))::(12,vb true)::(13,.v (.int .u8 c))::(14,vb (decide (c ≤ 90)))::(15,vb (decide (c ≤ 90)))::(16,vb (decide (c ≤ 90)))::(2,vb (decide (c ≤ 90)))::[]) [0] [15] (zq [0] 1 3::zq [1] 2 4::zq [2] 3 5::zq [3] 4 6::zq [3] 5 7::zq [3] 6 8::zq [6] 7 9::zq [7,0] 8 10::zq [7,8] 9 11::zq [7,9] 10 12::zq [10,0] 11 13::zq [10,11] 12 14::zq [7,10,12] 13 15::zq [7,13] 14 16::zq [14] 15 2::[]) [(_,_)] rfl ⟨z1 rfl,z4 rfl rfl,z8 hg1_2 rfl,zt rfl,zt rfl,z3 false rfl,z1 rfl,zr' rfl (oM rfl),zr' rfl (oB rfl rfl),zr' rfl (op_move _ _ _ _ (zb hg1_9) rfl),zr' rfl (oM rfl),zr' rfl (oB rfl rfl),zr' rfl (op_pick _ _ true _ rfl rfl),z3 false rfl,z2 rfl,zz⟩ ?_
     exact hl3 _ (Option.some.inj h).symm
    ·refine zg hn (_::(3,.v (.int .u8 c))::(4,vb (decide (97 ≤ c)))::(5,vb false)::(6,.v undef)::(7,.v undef)::(8,vb false)::(9,vb false)::(10,.v (.int .u8 c))::(11,vb (decide (65 ≤ c)))::(12,vb false)::(13,.v undef)::(14,.v undef)::(15,vb false)::(16,vb false)::(2,vb false)::[]) [0] [15] (zq [0] 1 3::zq [1] 2 4::zq [2] 3 5::zq [3] 4 6::zq [3] 5 7::zq [3] 6 8::zq [6] 7 9::zq [7,0] 8 10::zq [7,8] 9 11::zq [7,9] 10 12::zq [10] 11 13::zq [10] 12 14::zq [7,10] 13 15::zq [7,13] 14 16::zq [14] 15 2::[]) [(_,_)] rfl ⟨z1 rfl,z4 rfl rfl,z8 hg1_2 rfl,zt rfl,zt rfl,z3 false rfl,z1 rfl,zr' rfl (oM rfl),zr' rfl (oB rfl rfl),zr' rfl (op_move _ _ _ _ (zb hg1_9) rfl),zt rfl,zt rfl,zr' rfl (op_pick _ _ false _ rfl rfl),z3 false rfl,z2 rfl,zz⟩ ?_
     exact hl3 _ (Option.some.inj h).symm
theorem ok_wherryref11_digit (c : Int) (r : Bool) (h : Sh.wherryref11_digit c = some r) : FnOK Tryz.prog 41 [.v (.int .u8 c)] (.v (.bool r)) := by
  unfold Sh.wherryref11_digit at h
  refine fn_ok func41 rfl (zl rfl) rfl rfl fun g0 hn hio => ?_
  refine zgg hn [_,(2,vb false)] [0] [0] [zq [] 1 2] [(_,_)] rfl ⟨z2 rfl,zz⟩ ?_
  refine ht_seq ?_
  refine ht_joinS h (fun (s1 : Bool) => [(2, .v (.bool s1))]) ?_ ?_
  ·rintro s1 h
   refine pt_then (ht_ret ?_)
   obtain rfl := Option.some.inj h
   exact pt_ret hio rfl (.tmp _ _ .nil) rfl rfl
  ·intro u2 h hl3 hr4
   refine cond_some h (fun hg1_2 h => ?_) (fun hg1_2 h => ?_)
   ·refine zg hn [_,(3,.v (.int .u8 c)),(4,vb (decide (48 ≤ c))),(5,vb true),(6,.v (.int .u8 c)),(7,vb (decide (c ≤ 57))),(8,vb (decide (c ≤ 57))),(2,vb (decide (c ≤ 57)))] [0] [7] [zq [0] 1 3,zq [1] 2 4,zq [2] 3 5,zq [3,0] 4 6,zq [3,4] 5 7,zq [3,5] 6 8,zq [6] 7 2] [(_,_)] rfl ⟨z1 rfl,z4 rfl rfl,z8 hg1_2 rfl,zr' rfl (oM rfl),zr' rfl (oB rfl rfl),z3 true rfl,z2 rfl,zz⟩ ?_
    exact hl3 _ (Option.some.inj h).symm
   ·refine zg hn [_,(3,.v (.int .u8 c)),(4,vb (decide (48 ≤ c))),(5,vb false),(6,.v undef),(7,.v undef),(8,vb false),(2,vb false)] [0] [7] [zq [0] 1 3,zq [1] 2 4,zq [2] 3 5,zq [3] 4 6,zq [3] 5 7,zq [3] 6 8,zq [6] 7 2] [(_,_)] rfl ⟨z1 rfl,z4 rfl rfl,z8 hg1_2 rfl,zt rfl,zt rfl,z3 false rfl,z2 rfl,zz⟩ ?_
    exact hl3 _ (Option.some.inj h).symm
theorem ok_wherryref11_Domain (s : ByteArray) (r : Bool) (h : Sh.wherryref11_Domain s = some r) : FnOK Tryz.prog 24 [.v (.string s)] (.v (.bool r)) := by
  unfold Sh.wherryref11_Domain at h
  refine fn_ok func24 rfl (zl rfl) rfl rfl fun g0 hn hio => ?_
  refine zgg hn [_,(2,vb false)] [0] [0] [zq [] 1 2] [(_,_)] rfl ⟨z2 rfl,zz⟩ ?_
  refine ht_seq ?_
  refine ht_seq ?_
  obtain ⟨v1, hv1, h⟩ := bind_some h
  refine zg hn [_,(5,vs s),(6,vi (s.size : Int)),(7,vb v1),(8,vb (!v1))] [0] [0,4] [zq [0] 1 5,zq [1] 2 6,zq [2] 3 7,zq [3] 4 8] [(_,_),(_,_)] rfl ⟨z1 rfl,zp rfl (oN underlying9 rfl),zp rfl (op_call _ _ 39 _ _ rfl call39 rfl (ok_wherryref11_in (s.size : Int) 1 255 _ hv1) rfl rfl),zp rfl (op_un _ _ _ _ rfl rfl),zz⟩ ?_
  refine pt_then ?_
  refine ht_cond _ rfl (fun hb2 => ?_) (fun hb2 => ?_)
  ·have h := cond_t hb2 h
   refine zgg hn [_,_,(2,vb false)] [0,1] [2] [zq [] 2 2] [(_,_)] rfl ⟨z2 rfl,zz⟩ ?_
   refine ht_ret ?_
   refine pt_r_then ?_
   obtain rfl := Option.some.inj h
   exact pt_ret hio rfl (.tmp _ _ .nil) rfl rfl
  ·have h := cond_f hb2 h
   refine ht_skip ?_
   refine pt_then ?_
   refine zgg hn [_,_,(3,vi 0)] [0,1] [0,2] [zq [] 2 3] [(_,_),(_,_)] rfl ⟨z2 rfl,zz⟩ ?_
   refine ht_seq ?_
   refine zgg hn [_,_,(4,vi 0)] [0,1] [0,1,2] [zq [] 2 4] [(_,_),(_,_),(_,_)] rfl ⟨z2 rfl,zz⟩ ?_
   refine ht_loopS h (fun ((s88, s89) : Int × Int) => [(0, .v (.string s)), (3, .v (.int .i64 s88)), (4, .v (.int .i64 s89))]) (fun (() : Unit) => []) ?_ ?_
   ·rintro ⟨⟩ h
    refine pt_then ?_
    refine zgg hn [(2,vb true)] [] [0] [zq [] 0 2] [(_,_)] rfl ⟨z2 rfl,zz⟩ ?_
    refine ht_ret ?_
    obtain rfl := Option.some.inj h
    exact pt_ret hio rfl (.tmp _ _ .nil) rfl rfl
   ·rintro u125 hl126 hr127 ⟨s88, s89⟩ rr130 h ho128
    refine ht_seq ?_
    refine zgg hn [_,_,_,(9,vi s89),(10,vs s),(11,vi (s.size : Int)),(12,vb (decide (s89 ≤ (s.size : Int))))] [0,1,2] [0,1,2,6] [zq [2] 3 9,zq [0] 4 10,zq [4] 5 11,zq [3,5] 6 12] [(_,_),(_,_),(_,_),(_,_)] rfl ⟨z1 rfl,z1 rfl,zp rfl (oN underlying9 rfl),z4 rfl rfl,zz⟩ ?_
    refine ht_cond _ rfl (fun hb131 => ?_) (fun hb131 => ?_)
    ·have h := cond_t hb131 h
     refine ht_skip ?_
     refine pt_then (ht_seq ?_)
     refine ht_joinS h (fun (s147 : Int) => [(0, .v (.string s)), (3, .v (.int .i64 s147)), (4, .v (.int .i64 s89))]) ?_ ?_
     ·rintro s147 h
      refine pt_then ?_
      obtain ⟨v50, hv50, h⟩ := bind_some h
      refine zg hn [_,_,_,(13,vi s89),(14,vi v50),(4,vi v50)] [0,1,2] [0,1,5] [zq [2] 3 13,zq [3] 4 14,⟨[4],[2],[5],[(.slot 4)]⟩] [(_,_),(_,_),(_,_)] rfl ⟨z1 rfl,zp rfl (oB rfl (ibind (f := Value.int .i64) (Option.some.inj hv50))),zp rfl (LOp.drop [_] (op_assign _ _ _ _ rfl rfl)),zz⟩ ?_
      exact pt_next _ (Option.some.inj h).symm rfl
     ·intro u148 h hl149 hr150
      refine ht_block ?_
      refine ht_seq ?_
      refine ht_seq ?_
      refine ht_joinS h (fun (s151 : Bool) => [(0, .v (.string s)), (3, .v (.int .i64 s88)), (4, .v (.int .i64 s89)), (24, .v (.bool s151))]) ?_ ?_
      ·rintro s151 h
       refine pt_then ?_
       refine ht_cond _ rfl (fun hb155 => ?_) (fun hb155 => ?_)
       ·have h := cond_t hb155 h
        refine ht_seq ?_
        refine ht_seq ?_
        refine ht_joinS h (fun (s156 : Bool) => [(0, .v (.string s)), (3, .v (.int .i64 s88)), (4, .v (.int .i64 s89)), (42, .v (.bool s156))]) ?_ ?_
        ·rintro s156 h
         refine pt_then ?_
         refine ht_cond _ rfl (fun hb160 => ?_) (fun hb160 => ?_)
         ·have h := cond_t hb160 h
          refine zgg hn [_,_,_,_,(2,vb false)] [0,1,2,3] [4] [zq [] 4 2] [(_,_)] rfl ⟨z2 rfl,zz⟩ ?_
          refine ht_ret ?_
          refine pt_r_then ?_
          refine pt_r_then ?_
          refine pt_r_in ?_
          refine pt_r_then ?_
          refine pt_r_then ?_
          refine pt_r_in ?_
          refine pt_r_then ?_
          have h := hr150 _ (Option.some.inj h).symm
          have h := hr127 _ (ho128 _ (Option.some.inj h).symm).symm
          obtain rfl := Option.some.inj h
          exact pt_ret hio rfl (.tmp _ _ .nil) rfl rfl
         ·have h := cond_f hb160 h
          refine ht_skip ?_
          refine pt_then ?_
          refine ht_exit ?_
          refine pt_x_then ?_
          refine pt_x_in ?_
          refine pt_pick [0, 1, 2] (by kernel_rfl) (es' := [(_,_),(_,_),(_,_)]) rfl ?_
          exact hl149 _ (Option.some.inj h).symm
        ·intro u157 h hl158 hr159
         obtain ⟨v10, hv10, h⟩ := bind_some h
         obtain ⟨v11, hv11, h⟩ := bind_some h
         refine cond_some h (fun hg8_5 h => ?_) (fun hg8_5 h => ?_)
         ·obtain ⟨v12, hv12, h⟩ := bind_some h
          obtain ⟨v13, hv13, h⟩ := bind_some h
          refine cond_some h (fun hg8_12 h => ?_) (fun hg8_12 h => ?_)
          ·obtain ⟨v14, hv14, h⟩ := bind_some h
           refine zg hn (_::_::_::_::(25,vs s)::(26,vi s89)::(27,.v (.int .u8 v10))::(28,vb v11)::(29,vb (!v11))::(30,vb true)::(31,vs s)::(32,vi s89)::(33,.v (.int .u8 v12))::(34,vb v13)::(35,vb (!v13))::(36,vb (!v13))::(37,vb true)::(38,vs s)::(39,vi s89)::(40,.v (.int .u8 v14))::(41,vb (v14 != 45))::(42,vb (v14 != 45))::[]) [0,1,2,3] [0,1,2,21] (zq [0] 4 25::zq [2] 5 26::zq [4,5] 6 27::zq [6] 7 28::zq [7] 8 29::zq [8] 9 30::zq [9,0] 10 31::zq [9,2] 11 32::zq [9,10,11] 12 33::zq [9,12] 13 34::zq [9,13] 14 35::zq [9,14] 15 36::zq [15] 16 37::zq [16,0] 17 38::zq [16,2] 18 39::zq [16,17,18] 19 40::zq [16,19] 20 41::zq [16,20] 21 42::[]) [(_,_),(_,_),(_,_),(_,_)] rfl ⟨z1 rfl,z1 rfl,zp rfl (op_chr _ _ _ s89 _ underlying9 rfl rfl hv10),zp rfl (op_call _ _ 40 _ _ rfl call40 rfl (ok_wherryref11_letter v10 _ hv11) rfl rfl),zp rfl (op_un _ _ _ _ rfl rfl),z8 hg8_5 rfl,zr' rfl (oM rfl),zr' rfl (oM rfl),zr' rfl (op_chr _ _ _ s89 _ underlying9 rfl rfl hv12),zr' rfl (op_call _ _ 41 _ _ rfl call41 rfl (ok_wherryref11_digit v12 _ hv13) rfl rfl),zr' rfl (op_un _ _ _ _ rfl rfl),z3 true rfl,z8 hg8_12 rfl,zr' rfl (oM rfl),zr' rfl (oM rfl),zr' rfl (op_chr _ _ _ s89 _ underlying9 rfl rfl hv14),zr' rfl (oB rfl rfl),z3 true rfl,zz⟩ ?_
           exact hl158 _ (Option.some.inj h).symm
          ·refine zg hn (_::_::_::_::(25,vs s)::(26,vi s89)::(27,.v (.int .u8 v10))::(28,vb v11)::(29,vb (!v11))::(30,vb true)::(31,vs s)::(32,vi s89)::(33,.v (.int .u8 v12))::(34,vb v13)::(35,vb (!v13))::(36,vb (!v13))::(37,vb false)::(38,.v undef)::(39,.v undef)::(40,.v undef)::(41,.v undef)::(42,vb false)::[]) [0,1,2,3] [0,1,2,21] (zq [0] 4 25::zq [2] 5 26::zq [4,5] 6 27::zq [6] 7 28::zq [7] 8 29::zq [8] 9 30::zq [9,0] 10 31::zq [9,2] 11 32::zq [9,10,11] 12 33::zq [9,12] 13 34::zq [9,13] 14 35::zq [9,14] 15 36::zq [15] 16 37::zq [16] 17 38::zq [16] 18 39::zq [16] 19 40::zq [16] 20 41::zq [16] 21 42::[]) [(_,_),(_,_),(_,_),(_,_)] rfl ⟨z1 rfl,z1 rfl,zp rfl (op_chr _ _ _ s89 _ underlying9 rfl rfl hv10),zp rfl (op_call _ _ 40 _ _ rfl call40 rfl (ok_wherryref11_letter v10 _ hv11) rfl rfl),zp rfl (op_un _ _ _ _ rfl rfl),z8 hg8_5 rfl,zr' rfl (oM rfl),zr' rfl (oM rfl),zr' rfl (op_chr _ _ _ s89 _ underlying9 rfl rfl hv12),zr' rfl (op_call _ _ 41 _ _ rfl call41 rfl (ok_wherryref11_digit v12 _ hv13) rfl rfl),zr' rfl (op_un _ _ _ _ rfl rfl),z3 true rfl,z8 hg8_12 rfl,zt rfl,zt rfl,zt rfl,zt rfl,z3 false rfl,zz⟩ ?_
           exact hl158 _ (Option.some.inj h).symm
         ·refine zg hn (_::_::_::_::(25,vs s)::(26,vi s89)::(27,.v (.int .u8 v10))::(28,vb v11)::(29,vb (!v11))::(30,vb false)::(31,.v undef)::(32,.v undef)::(33,.v undef)::(34,.v undef)::(35,.v undef)::(36,vb false)::(37,vb false)::(38,.v undef)::(39,.v undef)::(40,.v undef)::(41,.v undef)::(42,vb false)::[]) [0,1,2,3] [0,1,2,21] (zq [0] 4 25::zq [2] 5 26::zq [4,5] 6 27::zq [6] 7 28::zq [7] 8 29::zq [8] 9 30::zq [9] 10 31::zq [9] 11 32::zq [9] 12 33::zq [9] 13 34::zq [9] 14 35::zq [9] 15 36::zq [15] 16 37::zq [16] 17 38::zq [16] 18 39::zq [16] 19 40::zq [16] 20 41::zq [16] 21 42::[]) [(_,_),(_,_),(_,_),(_,_)] rfl ⟨z1 rfl,z1 rfl,zp rfl (op_chr _ _ _ s89 _ underlying9 rfl rfl hv10),zp rfl (op_call _ _ 40 _ _ rfl call40 rfl (ok_wherryref11_letter v10 _ hv11) rfl rfl),zp rfl (op_un _ _ _ _ rfl rfl),z8 hg8_5 rfl,zt rfl,zt rfl,zt rfl,zt rfl,zt rfl,z3 false rfl,z1 rfl,zt rfl,zt rfl,zt rfl,zt rfl,z3 false rfl,zz⟩ ?_
          exact hl158 _ (Option.some.inj h).symm
       ·have h := cond_f hb155 h
        refine ht_skip ?_
        refine pt_then (ht_seq ?_)
        refine ht_seq ?_
        refine ht_joinS h (fun (s161 : Bool) => [(0, .v (.string s)), (4, .v (.int .i64 s89)), (60, .v (.bool s161))]) ?_ ?_
        ·rintro s161 h
         refine pt_then ?_
         refine ht_cond _ rfl (fun hb165 => ?_) (fun hb165 => ?_)
         ·have h := cond_t hb165 h
          refine zgg hn [_,_,_,(2,vb false)] [0,1,2] [3] [zq [] 3 2] [(_,_)] rfl ⟨z2 rfl,zz⟩ ?_
          refine ht_ret ?_
          refine pt_r_then ?_
          refine pt_r_in ?_
          refine pt_r_then ?_
          refine pt_r_then ?_
          refine pt_r_in ?_
          refine pt_r_then ?_
          have h := hr150 _ (Option.some.inj h).symm
          have h := hr127 _ (ho128 _ (Option.some.inj h).symm).symm
          obtain rfl := Option.some.inj h
          exact pt_ret hio rfl (.tmp _ _ .nil) rfl rfl
         ·have h := cond_f hb165 h
          refine ht_skip ?_
          refine pt_then ?_
          obtain ⟨v30, hv30, h⟩ := bind_some h
          refine zg hn [_,_,_,(61,vi s89),(62,vi v30),(3,vi v30)] [0,1,2] [0,1,5] [zq [1] 3 61,zq [3] 4 62,zq [4] 5 3] [(_,_),(_,_),(_,_)] rfl ⟨z1 rfl,zp rfl (oB rfl (ibind (f := Value.int .i64) (Option.some.inj hv30))),z2 rfl,zz⟩ ?_
          refine pt_inb ?_
          refine pt_pick [0, 2, 1] (by kernel_rfl) (es' := [(_,_),(_,_),(_,_)]) rfl ?_
          exact hl149 _ (Option.some.inj h).symm
        ·intro u162 h hl163 hr164
         obtain ⟨v20, hv20, h⟩ := bind_some h
         obtain ⟨v21, hv21, h⟩ := bind_some h
         refine cond_some h (fun hg10_5 h => ?_) (fun hg10_5 h => ?_)
         ·refine zg hn (_::_::_::_::(43,vi s89)::(44,vi s88)::(45,vi v20)::(46,vb v21)::(47,vb (!v21))::(48,vb true)::(49,.v undef)::(50,.v undef)::(51,.v undef)::(52,.v undef)::(53,vb true)::(54,vb true)::(55,.v undef)::(56,.v undef)::(57,.v undef)::(58,.v undef)::(59,.v undef)::(60,vb true)::[]) [0,1,2,3] [0,2,21] (zq [2] 4 43::zq [1] 5 44::zq [4,5] 6 45::zq [6] 7 46::zq [7] 8 47::zq [8] 9 48::zq [9] 10 49::zq [9] 11 50::zq [9] 12 51::zq [9] 13 52::zq [9] 14 53::zq [14] 15 54::zq [15] 16 55::zq [15] 17 56::zq [15] 18 57::zq [15] 19 58::zq [15] 20 59::zq [15] 21 60::[]) [(_,_),(_,_),(_,_)] rfl ⟨z1 rfl,z1 rfl,zp rfl (oB rfl (ibind (f := Value.int .i64) (Option.some.inj hv20))),zp rfl (op_call _ _ 39 _ _ rfl call39 rfl (ok_wherryref11_in v20 1 63 _ hv21) rfl rfl),zp rfl (op_un _ _ _ _ rfl rfl),z8 hg10_5 rfl,zf rfl,zf rfl,zf rfl,zf rfl,z3 true rfl,z1 rfl,zf rfl,zf rfl,zf rfl,zf rfl,zf rfl,z3 true rfl,zz⟩ ?_
          exact hl163 _ (Option.some.inj h).symm
         ·obtain ⟨v22, hv22, h⟩ := bind_some h
          refine cond_some h (fun hg10_11 h => ?_) (fun hg10_11 h => ?_)
          ·refine zg hn (_::_::_::_::(43,vi s89)::(44,vi s88)::(45,vi v20)::(46,vb v21)::(47,vb (!v21))::(48,vb false)::(49,vs s)::(50,vi s88)::(51,.v (.int .u8 v22))::(52,vb (v22 == 45))::(53,vb (v22 == 45))::(54,vb true)::(55,.v undef)::(56,.v undef)::(57,.v undef)::(58,.v undef)::(59,.v undef)::(60,vb true)::[]) [0,1,2,3] [0,2,21] (zq [2] 4 43::zq [1] 5 44::zq [4,5] 6 45::zq [6] 7 46::zq [7] 8 47::zq [8] 9 48::zq [9,0] 10 49::zq [9,1] 11 50::zq [9,10,11] 12 51::zq [9,12] 13 52::zq [9,13] 14 53::zq [14] 15 54::zq [15] 16 55::zq [15] 17 56::zq [15] 18 57::zq [15] 19 58::zq [15] 20 59::zq [15] 21 60::[]) [(_,_),(_,_),(_,_)] rfl ⟨z1 rfl,z1 rfl,zp rfl (oB rfl (ibind (f := Value.int .i64) (Option.some.inj hv20))),zp rfl (op_call _ _ 39 _ _ rfl call39 rfl (ok_wherryref11_in v20 1 63 _ hv21) rfl rfl),zp rfl (op_un _ _ _ _ rfl rfl),z8 hg10_5 rfl,zr' rfl (oM rfl),zr' rfl (oM rfl),zr' rfl (op_chr _ _ _ s88 _ underlying9 rfl rfl hv22),zr' rfl (oB rfl rfl),z3 false rfl,z8 hg10_11 rfl,zf rfl,zf rfl,zf rfl,zf rfl,zf rfl,z3 true rfl,zz⟩ ?_
           exact hl163 _ (Option.some.inj h).symm
          ·obtain ⟨v23, hv23, h⟩ := bind_some h
           obtain ⟨v24, hv24, h⟩ := bind_some h
           refine zg hn (_::_::_::_::(43,vi s89)::(44,vi s88)::(45,vi v20)::(46,vb v21)::(47,vb (!v21))::(48,vb false)::(49,vs s)::(50,vi s88)::(51,.v (.int .u8 v22))::(52,vb (v22 == 45))::(53,vb (v22 == 45))::(54,vb false)::(55,vs s)::(56,vi s89)::(57,vi v23)::(58,.v (.int .u8 v24))::(59,vb (v24 == 45))::(60,vb (v24 == 45))::[]) [0,1,2,3] [0,2,21] (zq [2] 4 43::zq [1] 5 44::zq [4,5] 6 45::zq [6] 7 46::zq [7] 8 47::zq [8] 9 48::zq [9,0] 10 49::zq [9,1] 11 50::zq [9,10,11] 12 51::zq [9,12] 13 52::zq [9,13] 14 53::zq [14] 15 54::zq [15,0] 16 55::zq [15,2] 17 56::zq [15,17] 18 57::zq [15,16,18] 19 58::zq [15,19] 20 59::zq [15,20] 21 60::[]) [(_,_),(_,_),(_,_)] rfl ⟨z1 rfl,z1 rfl,zp rfl (oB rfl (ibind (f := Value.int .i64) (Option.some.inj hv20))),zp rfl (op_call _ _ 39 _ _ rfl call39 rfl (ok_wherryref11_in v20 1 63 _ hv21) rfl rfl),zp rfl (op_un _ _ _ _ rfl rfl),z8 hg10_5 rfl,zr' rfl (oM rfl),zr' rfl (oM rfl),zr' rfl (op_chr _ _ _ s88 _ underlying9 rfl rfl hv22),zr' rfl (oB rfl rfl),z3 false rfl,z8 hg10_11 rfl,zr' rfl (oM rfl),zr' rfl (oM rfl),zr' rfl (oB rfl (ibind (f := Value.int .i64) (Option.some.inj hv23))),zr' rfl (op_chr _ _ _ v23 _ underlying9 rfl rfl hv24),zr' rfl (oB rfl rfl),z3 false rfl,zz⟩ ?_
           exact hl163 _ (Option.some.inj h).symm
      ·intro u152 h hl153 hr154
       refine cond_some h (fun hg7_4 h => ?_) (fun hg7_4 h => ?_)
       ·obtain ⟨v4, hv4, h⟩ := bind_some h
        refine zg hn [_,_,_,_,(15,vi s89),(16,vs s),(17,vi (s.size : Int)),(18,vb (decide (s89 < (s.size : Int)))),(19,vb true),(20,vs s),(21,vi s89),(22,.v (.int .u8 v4)),(23,vb (v4 != 46)),(24,vb (v4 != 46))] [0,1,2,3] [0,1,2,13] [zq [2] 4 15,zq [0] 5 16,zq [5] 6 17,zq [4,6] 7 18,zq [7] 8 19,zq [8,0] 9 20,zq [8,2] 10 21,zq [8,9,10] 11 22,zq [8,11] 12 23,zq [8,12] 13 24] [(_,_),(_,_),(_,_),(_,_)] rfl ⟨z1 rfl,z1 rfl,zp rfl (oN underlying9 rfl),z4 rfl rfl,z8 hg7_4 rfl,zr' rfl (oM rfl),zr' rfl (oM rfl),zr' rfl (op_chr _ _ _ s89 _ underlying9 rfl rfl hv4),zr' rfl (oB rfl rfl),z3 true rfl,zz⟩ ?_
        exact hl153 _ (Option.some.inj h).symm
       ·refine zg hn [_,_,_,_,(15,vi s89),(16,vs s),(17,vi (s.size : Int)),(18,vb (decide (s89 < (s.size : Int)))),(19,vb false),(20,.v undef),(21,.v undef),(22,.v undef),(23,.v undef),(24,vb false)] [0,1,2,3] [0,1,2,13] [zq [2] 4 15,zq [0] 5 16,zq [5] 6 17,zq [4,6] 7 18,zq [7] 8 19,zq [8] 9 20,zq [8] 10 21,zq [8] 11 22,zq [8] 12 23,zq [8] 13 24] [(_,_),(_,_),(_,_),(_,_)] rfl ⟨z1 rfl,z1 rfl,zp rfl (oN underlying9 rfl),z4 rfl rfl,z8 hg7_4 rfl,zt rfl,zt rfl,zt rfl,zt rfl,z3 false rfl,zz⟩ ?_
        exact hl153 _ (Option.some.inj h).symm
    ·have h := cond_f hb131 h
     refine ht_exit ?_
     refine pt_x_then ?_
     refine pt_x_then ?_
     refine pt_x_in ?_
     refine pt_pick [] (by kernel_rfl) (es' := []) rfl ?_
     exact hl126 _ (ho128 _ (Option.some.inj h).symm).symm
theorem ok_wherryref11_begins (s : ByteArray) (with_ : ByteArray) (r : (ByteArray × Bool)) (h : Sh.wherryref11_begins s with_ = some r) : FnOK Tryz.prog 25 [.v (.string s), .v (.string with_)] (.tup [.v (.string r.1), .v (.bool r.2)]) := by
  unfold Sh.wherryref11_begins at h
  refine fn_ok func25 rfl (zl rfl) rfl rfl fun g0 hn hio => ?_
  refine zgg hn [_,_,(4,vs z0),(5,vb false)] [0,1] [0,1] [zq [] 2 4,zq [] 3 5] [(_,_),(_,_)] rfl ⟨z2 rfl,z2 rfl,zz⟩ ?_
  refine ht_seq ?_
  refine ht_seq ?_
  refine ht_joinS h (fun (s3 : Bool) => [(0, .v (.string s)), (1, .v (.string with_)), (19, .v (.bool s3))]) ?_ ?_
  ·rintro s3 h
   refine pt_then ?_
   refine ht_cond _ rfl (fun hb7 => ?_) (fun hb7 => ?_)
   ·have h := cond_t hb7 h
    refine zgg hn [_,_,_,(4,vs z0),(5,vb false)] [0,1,2] [3,4] [zq [] 3 4,zq [] 4 5] [(_,_),(_,_)] rfl ⟨z2 rfl,z2 rfl,zz⟩ ?_
    refine ht_ret ?_
    refine pt_r_then ?_
    obtain rfl := Option.some.inj h
    exact pt_ret hio rfl (.tmp _ _ (.tmp _ _ .nil)) rfl rfl
   ·have h := cond_f hb7 h
    refine ht_skip ?_
    refine pt_then (ht_seq ?_)
    obtain ⟨v8, hv8, h⟩ := bind_some h
    refine zg hn [_,_,_,(20,vs s),(21,vs with_),(22,vi (with_.size : Int)),(23,vs v8),(4,vs v8),(5,vb true)] [0,1,2] [7,8] [zq [0] 3 20,zq [1] 4 21,zq [4] 5 22,zq [3,5] 6 23,zq [6] 7 4,zq [] 8 5] [(_,_),(_,_)] rfl ⟨z1 rfl,z1 rfl,zp rfl (oN underlying9 rfl),zp rfl (op_substr _ _ _ (with_.size : Int) (s.size : Int) _ underlying9 rfl ⟨_, rfl⟩ rfl hv8),z2 rfl,z2 rfl,zz⟩ ?_
    refine pt_then (ht_ret ?_)
    obtain rfl := Option.some.inj h
    exact pt_ret hio rfl (.tmp _ _ (.tmp _ _ .nil)) rfl rfl
  ·intro u4 h hl5 hr6
   refine cond_some h (fun hg1_5 h => ?_) (fun hg1_5 h => ?_)
   ·refine zg hn (_::_::(6,vs s)::(7,vi (s.size : Int))::(8,vs with_)::(9,vi (with_.size : Int))::(10,vb (decide ((s.size : Int) < (with_.size : Int))))::(11,vb true)::(12,.v undef)::(13,.v undef)::(14,.v undef)::(15,.v undef)::(16,.v undef)::(17,.v undef)::(18,.v undef)::(19,vb true)::[]) [0,1] [0,1,15] [zq [0] 2 6,zq [2] 3 7,zq [1] 4 8,zq [4] 5 9,zq [3,5] 6 10,zq [6] 7 11,zq [7] 8 12,zq [7] 9 13,zq [7] 10 14,zq [7] 11 15,zq [7] 12 16,zq [7] 13 17,zq [7] 14 18,zq [7] 15 19] [(_,_),(_,_),(_,_)] rfl ⟨z1 rfl,zp rfl (oN underlying9 rfl),z1 rfl,zp rfl (oN underlying9 rfl),z4 rfl rfl,z8 hg1_5 rfl,zf rfl,zf rfl,zf rfl,zf rfl,zf rfl,zf rfl,zf rfl,z3 true rfl,zz⟩ ?_
    exact hl5 _ (Option.some.inj h).symm
   ·obtain ⟨v1, hv1, h⟩ := bind_some h
    obtain ⟨v2, hv2, h⟩ := bind_some h
    refine zg hn (_::_::(6,vs s)::(7,vi (s.size : Int))::(8,vs with_)::(9,vi (with_.size : Int))::(10,vb (decide ((s.size : Int) < (with_.size : Int))))::(11,vb false)::(12,vs s)::(13,vs with_)::(14,vi (with_.size : Int))::(15,vs v1)::(16,vs v2)::(17,vs with_)::(18,vb (!(v2.toList == with_.toList)))::(19,vb (!(v2.toList == with_.toList)))::[]) [0,1] [0,1,15] [zq [0] 2 6,zq [2] 3 7,zq [1] 4 8,zq [4] 5 9,zq [3,5] 6 10,zq [6] 7 11,zq [7,0] 8 12,zq [7,1] 9 13,zq [7,9] 10 14,zq [7,8,10] 11 15,zq [7,11] 12 16,zq [7,1] 13 17,zq [7,12,13] 14 18,zq [7,14] 15 19] [(_,_),(_,_),(_,_)] rfl ⟨z1 rfl,zp rfl (oN underlying9 rfl),z1 rfl,zp rfl (oN underlying9 rfl),z4 rfl rfl,z8 hg1_5 rfl,zr' rfl (oM rfl),zr' rfl (oM rfl),zr' rfl (oN underlying9 rfl),zr' rfl (op_substr _ _ _ 0 (with_.size : Int) _ underlying9 rfl rfl ⟨_, rfl⟩ hv1),zr' rfl (op_call _ _ 27 _ _ rfl call27 rfl (ok_wherryref11_Fold v1 _ hv2) rfl rfl),zr' rfl (oM rfl),zr' rfl (oB rfl rfl),z3 false rfl,zz⟩ ?_
    exact hl5 _ (Option.some.inj h).symm
theorem ok_wherryref11_sign (c : Int) (r : Bool) (h : Sh.wherryref11_sign c = some r) : FnOK Tryz.prog 49 [.v (.int .u8 c)] (.v (.bool r)) := by
  unfold Sh.wherryref11_sign at h
  refine fn_ok func49 rfl (zl rfl) rfl rfl fun g0 hn hio => ?_
  refine zgg hn [_,(2,vb false)] [0] [0] [zq [] 1 2] [(_,_)] rfl ⟨z2 rfl,zz⟩ ?_
  refine ht_seq ?_
  refine ht_seq ?_
  refine ht_joinS h (fun (s3 : Bool) => [(0, .v (.int .u8 c)), (10, .v (.bool s3))]) ?_ ?_
  ·rintro s3 h
   refine pt_then ?_
   refine ht_cond _ rfl (fun hb7 => ?_) (fun hb7 => ?_)
   ·have h := cond_t hb7 h
    refine zgg hn [_,_,(2,vb true)] [0,1] [2] [zq [] 2 2] [(_,_)] rfl ⟨z2 rfl,zz⟩ ?_
    refine ht_ret ?_
    refine pt_r_then ?_
    obtain rfl := Option.some.inj h
    exact pt_ret hio rfl (.tmp _ _ .nil) rfl rfl
   ·have h := cond_f hb7 h
    refine ht_skip ?_
    refine pt_then ?_
    refine zgg hn [_,_,(3,vs (⟨#[33,35,36,37,38,39,42,43,45,47,61,63,94,95,123,124,125,126]⟩ : ByteArray))] [0,1] [0,2] [zq [] 2 3] [(_,_),(_,_)] rfl ⟨z2 rfl,zz⟩ ?_
    refine ht_seq ?_
    refine zgg hn [_,_,(4,vi 0)] [0,1] [0,1,2] [zq [] 2 4] [(_,_),(_,_),(_,_)] rfl ⟨z2 rfl,zz⟩ ?_
    refine ht_loopS h (fun (s15 : Int) => [(0, .v (.int .u8 c)), (3, .v (.string (⟨#[33, 35, 36, 37, 38, 39, 42, 43, 45, 47, 61, 63, 94, 95, 123, 124, 125, 126]⟩ : ByteArray))), (4, .v (.int .i64 s15))]) (fun (() : Unit) => [(0, .v (.int .u8 c))]) ?_ ?_
    ·rintro ⟨⟩ h
     refine pt_then ?_
     refine zgg hn [_,(22,.v (.int .u8 c)),(23,vb (c == 96)),(2,vb (c == 96))] [0] [3] [zq [0] 1 22,zq [1] 2 23,zq [2] 3 2] [(_,_)] rfl ⟨z1 rfl,z4 rfl rfl,z2 rfl,zz⟩ ?_
     refine ht_ret ?_
     obtain rfl := Option.some.inj h
     exact pt_ret hio rfl (.tmp _ _ .nil) rfl rfl
    ·rintro u18 hl19 hr20 s15 rr23 h ho21
     refine ht_seq ?_
     refine zgg hn [_,_,_,(11,vi s15),(12,vs (⟨#[33,35,36,37,38,39,42,43,45,47,61,63,94,95,123,124,125,126]⟩ : ByteArray)),(13,vi ((⟨#[33,35,36,37,38,39,42,43,45,47,61,63,94,95,123,124,125,126]⟩ : ByteArray).size : Int)),(14,vb (decide (s15 < (((⟨#[33,35,36,37,38,39,42,43,45,47,61,63,94,95,123,124,125,126]⟩ : ByteArray).size : Int)))))] [0,1,2] [0,1,2,6] [zq [2] 3 11,zq [1] 4 12,zq [4] 5 13,zq [3,5] 6 14] [(_,_),(_,_),(_,_),(_,_)] rfl ⟨z1 rfl,z1 rfl,zp rfl (oN underlying9 rfl),z4 rfl rfl,zz⟩ ?_
     refine ht_cond _ rfl (fun hb24 => ?_) (fun hb24 => ?_)
     ·have h := cond_t hb24 h
      refine ht_skip ?_
      refine pt_then (ht_seq ?_)
      refine ht_block ?_
      refine ht_seq ?_
      obtain ⟨v9, hv9, h⟩ := bind_some h
      refine zg hn [_,_,_,_,(17,vs (⟨#[33,35,36,37,38,39,42,43,45,47,61,63,94,95,123,124,125,126]⟩ : ByteArray)),(18,vi s15),(19,.v (.int .u8 v9)),(20,.v (.int .u8 c)),(21,vb (v9 == c))] [0,1,2,3] [0,1,2,8] [zq [1] 4 17,zq [2] 5 18,zq [4,5] 6 19,zq [0] 7 20,zq [6,7] 8 21] [(_,_),(_,_),(_,_),(_,_)] rfl ⟨z1 rfl,z1 rfl,zp rfl (op_chr _ _ _ s15 _ underlying9 rfl rfl hv9),z1 rfl,z4 rfl rfl,zz⟩ ?_
      refine pt_then ?_
      refine ht_cond _ rfl (fun hb25 => ?_) (fun hb25 => ?_)
      ·have h := cond_t hb25 h
       refine zgg hn [_,_,_,_,(2,vb true)] [0,1,2,3] [4] [zq [] 4 2] [(_,_)] rfl ⟨z2 rfl,zz⟩ ?_
       refine ht_ret ?_
       refine pt_r_in ?_
       refine pt_r_then ?_
       refine pt_r_then ?_
       refine pt_r_in ?_
       refine pt_r_then ?_
       have h := hr20 _ (ho21 _ (Option.some.inj h).symm).symm
       obtain rfl := Option.some.inj h
       exact pt_ret hio rfl (.tmp _ _ .nil) rfl rfl
      ·have h := cond_f hb25 h
       refine ht_skip ?_
       refine pt_inb ?_
       refine pt_then ?_
       obtain ⟨v11, hv11, h⟩ := bind_some h
       refine zg hn [_,_,_,_,(15,vi s15),(16,vi v11),(4,vi v11)] [0,1,2,3] [0,1,6] [zq [2] 4 15,zq [4] 5 16,⟨[5],[2],[6],[(.slot 4)]⟩] [(_,_),(_,_),(_,_)] rfl ⟨z1 rfl,zp rfl (oB rfl (ibind (f := Value.int .i64) (Option.some.inj hv11))),zp rfl (LOp.drop [_] (op_assign _ _ _ _ rfl rfl)),zz⟩ ?_
       exact pt_next _ (Option.some.inj h).symm rfl
     ·have h := cond_f hb24 h
      refine ht_exit ?_
      refine pt_x_then ?_
      refine pt_x_then ?_
      refine pt_x_in ?_
      refine pt_pick [0] (by kernel_rfl) (es' := [(_,_)]) rfl ?_
      exact hl19 _ (ho21 _ (Option.some.inj h).symm).symm
  ·intro u4 h hl5 hr6
   obtain ⟨v1, hv1, h⟩ := bind_some h
   refine cond_some h (fun hg1_2 h => ?_) (fun hg1_2 h => ?_)
   ·refine zg hn [_,(5,.v (.int .u8 c)),(6,vb v1),(7,vb true),(8,.v undef),(9,.v undef),(10,vb true)] [0] [0,6] [zq [0] 1 5,zq [1] 2 6,zq [2] 3 7,zq [3] 4 8,zq [3] 5 9,zq [3] 6 10] [(_,_),(_,_)] rfl ⟨z1 rfl,zp rfl (op_call _ _ 40 _ _ rfl call40 rfl (ok_wherryref11_letter c _ hv1) rfl rfl),z8 hg1_2 rfl,zf rfl,zf rfl,z3 true rfl,zz⟩ ?_
    exact hl5 _ (Option.some.inj h).symm
   ·obtain ⟨v2, hv2, h⟩ := bind_some h
    refine zg hn [_,(5,.v (.int .u8 c)),(6,vb v1),(7,vb false),(8,.v (.int .u8 c)),(9,vb v2),(10,vb v2)] [0] [0,6] [zq [0] 1 5,zq [1] 2 6,zq [2] 3 7,zq [3,0] 4 8,zq [3,4] 5 9,zq [3,5] 6 10] [(_,_),(_,_)] rfl ⟨z1 rfl,zp rfl (op_call _ _ 40 _ _ rfl call40 rfl (ok_wherryref11_letter c _ hv1) rfl rfl),z8 hg1_2 rfl,zr' rfl (oM rfl),zr' rfl (op_call _ _ 41 _ _ rfl call41 rfl (ok_wherryref11_digit c _ hv2) rfl rfl),z3 false rfl,zz⟩ ?_
    exact hl5 _ (Option.some.inj h).symm
theorem ok_wherryref11_Local (s : ByteArray) (r : Bool) (h : Sh.wherryref11_Local s = some r) : FnOK Tryz.prog 32 [.v (.string s)] (.v (.bool r)) := by
  unfold Sh.wherryref11_Local at h
  refine fn_ok func32 rfl (zl rfl) rfl rfl fun g0 hn hio => ?_
  refine zgg hn [_,(2,vb false)] [0] [0] [zq [] 1 2] [(_,_)] rfl ⟨z2 rfl,zz⟩ ?_
  refine ht_seq ?_
  refine ht_seq ?_
  refine ht_joinS h (fun (s5 : Bool) => [(0, .v (.string s)), (20, .v (.bool s5))]) ?_ ?_
  ·rintro s5 h
   refine pt_then ?_
   refine ht_cond _ rfl (fun hb9 => ?_) (fun hb9 => ?_)
   ·have h := cond_t hb9 h
    refine zgg hn [_,_,(2,vb false)] [0,1] [2] [zq [] 2 2] [(_,_)] rfl ⟨z2 rfl,zz⟩ ?_
    refine ht_ret ?_
    refine pt_r_then ?_
    obtain rfl := Option.some.inj h
    exact pt_ret hio rfl (.tmp _ _ .nil) rfl rfl
   ·have h := cond_f hb9 h
    refine ht_skip ?_
    refine pt_then (ht_seq ?_)
    refine zgg hn [_,_,(3,vi 0)] [0,1] [0,2] [zq [] 2 3] [(_,_),(_,_)] rfl ⟨z2 rfl,zz⟩ ?_
    refine ht_loopS h (fun (s33 : Int) => [(0, .v (.string s)), (3, .v (.int .i64 s33))]) (fun (() : Unit) => []) ?_ ?_
    ·rintro ⟨⟩ h
     refine pt_then ?_
     refine zgg hn [(2,vb true)] [] [0] [zq [] 0 2] [(_,_)] rfl ⟨z2 rfl,zz⟩ ?_
     refine ht_ret ?_
     obtain rfl := Option.some.inj h
     exact pt_ret hio rfl (.tmp _ _ .nil) rfl rfl
    ·rintro u40 hl41 hr42 s33 rr45 h ho43
     refine ht_seq ?_
     refine zgg hn [_,_,(21,vi s33),(22,vs s),(23,vi (s.size : Int)),(24,vb (decide (s33 < (s.size : Int))))] [0,1] [0,1,5] [zq [1] 2 21,zq [0] 3 22,zq [3] 4 23,zq [2,4] 5 24] [(_,_),(_,_),(_,_)] rfl ⟨z1 rfl,z1 rfl,zp rfl (oN underlying9 rfl),z4 rfl rfl,zz⟩ ?_
     refine ht_cond _ rfl (fun hb46 => ?_) (fun hb46 => ?_)
     ·have h := cond_t hb46 h
      refine ht_skip ?_
      refine pt_then (ht_seq ?_)
      refine ht_block ?_
      refine ht_seq ?_
      refine ht_joinS h (fun (s47 : Bool) => [(0, .v (.string s)), (3, .v (.int .i64 s33)), (50, .v (.bool s47))]) ?_ ?_
      ·rintro s47 h
       refine pt_then ?_
       refine ht_cond _ rfl (fun hb51 => ?_) (fun hb51 => ?_)
       ·have h := cond_t hb51 h
        refine zgg hn [_,_,_,(2,vb false)] [0,1,2] [3] [zq [] 3 2] [(_,_)] rfl ⟨z2 rfl,zz⟩ ?_
        refine ht_ret ?_
        refine pt_r_in ?_
        refine pt_r_then ?_
        refine pt_r_then ?_
        refine pt_r_in ?_
        refine pt_r_then ?_
        have h := hr42 _ (ho43 _ (Option.some.inj h).symm).symm
        obtain rfl := Option.some.inj h
        exact pt_ret hio rfl (.tmp _ _ .nil) rfl rfl
       ·have h := cond_f hb51 h
        refine ht_skip ?_
        refine pt_inb ?_
        refine pt_then ?_
        obtain ⟨v25, hv25, h⟩ := bind_some h
        refine zg hn [_,_,_,(25,vi s33),(26,vi v25),(3,vi v25)] [0,1,2] [0,5] [zq [1] 3 25,zq [3] 4 26,⟨[4],[1],[5],[(.slot 3)]⟩] [(_,_),(_,_)] rfl ⟨z1 rfl,zp rfl (oB rfl (ibind (f := Value.int .i64) (Option.some.inj hv25))),zp rfl (LOp.drop [_] (op_assign _ _ _ _ rfl rfl)),zz⟩ ?_
        exact pt_next _ (Option.some.inj h).symm rfl
      ·intro u48 h hl49 hr50
       obtain ⟨v11, hv11, h⟩ := bind_some h
       refine cond_some h (fun hg6_4 h => ?_) (fun hg6_4 h => ?_)
       ·obtain ⟨v12, hv12, h⟩ := bind_some h
        obtain ⟨v13, hv13, h⟩ := bind_some h
        refine cond_some h (fun hg6_11 h => ?_) (fun hg6_11 h => ?_)
        ·refine zg hn (_::_::_::(27,vs s)::(28,vi s33)::(29,.v (.int .u8 v11))::(30,vb (v11 == 46))::(31,vb true)::(32,vs s)::(33,vi s33)::(34,vi v12)::(35,.v (.int .u8 v13))::(36,vb (v13 == 46))::(37,vb (v13 == 46))::(38,vb true)::(39,.v undef)::(40,.v undef)::(41,.v undef)::(42,.v undef)::(43,.v undef)::(44,.v undef)::(45,.v undef)::(46,.v undef)::(47,.v undef)::(48,.v undef)::(49,.v undef)::(50,vb true)::[]) [0,1,2] [0,1,26] (zq [0] 3 27::zq [1] 4 28::zq [3,4] 5 29::zq [5] 6 30::zq [6] 7 31::zq [7,0] 8 32::zq [7,1] 9 33::zq [7,9] 10 34::zq [7,8,10] 11 35::zq [7,11] 12 36::zq [7,12] 13 37::zq [13] 14 38::zq [14] 15 39::zq [14] 16 40::zq [14] 17 41::zq [14] 18 42::zq [14] 19 43::zq [19] 20 44::zq [19] 21 45::zq [19] 22 46::zq [19] 23 47::zq [19] 24 48::zq [14] 25 49::zq [14] 26 50::[]) [(_,_),(_,_),(_,_)] rfl ⟨z1 rfl,z1 rfl,zp rfl (op_chr _ _ _ s33 _ underlying9 rfl rfl hv11),z4 rfl rfl,z8 hg6_4 rfl,zr' rfl (oM rfl),zr' rfl (oM rfl),zr' rfl (oB rfl (ibind (f := Value.int .i64) (Option.some.inj hv12))),zr' rfl (op_chr _ _ _ v12 _ underlying9 rfl rfl hv13),zr' rfl (oB rfl rfl),z3 true rfl,z8 hg6_11 rfl,zf rfl,zf rfl,zf rfl,zf rfl,zf rfl,zu' rfl,zu' rfl,zu' rfl,zu' rfl,zu' rfl,zf rfl,z3 true rfl,zz⟩ ?_
         exact hl49 _ (Option.some.inj h).symm
        ·obtain ⟨v14, hv14, h⟩ := bind_some h
         refine cond_some h (fun hg6_16 h => ?_) (fun hg6_16 h => ?_)
         ·obtain ⟨v15, hv15, h⟩ := bind_some h
          obtain ⟨v16, hv16, h⟩ := bind_some h
          refine zg hn (_::_::_::(27,vs s)::(28,vi s33)::(29,.v (.int .u8 v11))::(30,vb (v11 == 46))::(31,vb true)::(32,vs s)::(33,vi s33)::(34,vi v12)::(35,.v (.int .u8 v13))::(36,vb (v13 == 46))::(37,vb (v13 == 46))::(38,vb false)::(39,vs s)::(40,vi s33)::(41,.v (.int .u8 v14))::(42,vb (v14 != 46))::(43,vb true)::(44,vs s)::(45,vi s33)::(46,.v (.int .u8 v15))::(47,vb v16)::(48,vb (!v16))::(49,vb (!v16))::(50,vb (!v16))::[]) [0,1,2] [0,1,26] (zq [0] 3 27::zq [1] 4 28::zq [3,4] 5 29::zq [5] 6 30::zq [6] 7 31::zq [7,0] 8 32::zq [7,1] 9 33::zq [7,9] 10 34::zq [7,8,10] 11 35::zq [7,11] 12 36::zq [7,12] 13 37::zq [13] 14 38::zq [14,0] 15 39::zq [14,1] 16 40::zq [14,15,16] 17 41::zq [14,17] 18 42::zq [14,18] 19 43::zq [19,0] 20 44::zq [19,1] 21 45::zq [19,20,21] 22 46::zq [19,22] 23 47::zq [19,23] 24 48::zq [14,19,24] 25 49::zq [14,25] 26 50::[]) [(_,_),(_,_),(_,_)] rfl ⟨z1 rfl,z1 rfl,zp rfl (op_chr _ _ _ s33 _ underlying9 rfl rfl hv11),z4 rfl rfl,z8 hg6_4 rfl,zr' rfl (oM rfl),zr' rfl (oM rfl),zr' rfl (oB rfl (ibind (f := Value.int .i64) (Option.some.inj hv12))),zr' rfl (op_chr _ _ _ v12 _ underlying9 rfl rfl hv13),zr' rfl (oB rfl rfl),z3 true rfl,z8 hg6_11 rfl,zr' rfl (oM rfl),zr' rfl (oM rfl),zr' rfl (op_chr _ _ _ s33 _ underlying9 rfl rfl hv14),zr' rfl (oB rfl rfl),zr' rfl (op_move _ _ _ _ (zb hg6_16) rfl),zr' rfl (oM rfl),zr' rfl (oM rfl),zr' rfl (op_chr _ _ _ s33 _ underlying9 rfl rfl hv15),zr' rfl (op_call _ _ 49 _ _ rfl call49 rfl (ok_wherryref11_sign v15 _ hv16) rfl rfl),zr' rfl (op_un _ _ _ _ rfl rfl),zr' rfl (op_pick _ _ true _ rfl rfl),z3 false rfl,zz⟩ ?_
          exact hl49 _ (Option.some.inj h).symm
         ·refine zg hn (_::_::_::(27,vs s)::(28,vi s33)::(29,.v (.int .u8 v11))::(30,vb (v11 == 46))::(31,vb true)::(32,vs s)::(33,vi s33)::(34,vi v12)::(35,.v (.int .u8 v13))::(36,vb (v13 == 46))::(37,vb (v13 == 46))::(38,vb false)::(39,vs s)::(40,vi s33)::(41,.v (.int .u8 v14))::(42,vb (v14 != 46))::(43,vb false)::(44,.v undef)::(45,.v undef)::(46,.v undef)::(47,.v undef)::(48,.v undef)::(49,vb false)::(50,vb false)::[]) [0,1,2] [0,1,26] (zq [0] 3 27::zq [1] 4 28::zq [3,4] 5 29::zq [5] 6 30::zq [6] 7 31::zq [7,0] 8 32::zq [7,1] 9 33::zq [7,9] 10 34::zq [7,8,10] 11 35::zq [7,11] 12 36::zq [7,12] 13 37::zq [13] 14 38::zq [14,0] 15 39::zq [14,1] 16 40::zq [14,15,16] 17 41::zq [14,17] 18 42::zq [14,18] 19 43::zq [19] 20 44::zq [19] 21 45::zq [19] 22 46::zq [19] 23 47::zq [19] 24 48::zq [14,19] 25 49::zq [14,25] 26 50::[]) [(_,_),(_,_),(_,_)] rfl ⟨z1 rfl,z1 rfl,zp rfl (op_chr _ _ _ s33 _ underlying9 rfl rfl hv11),z4 rfl rfl,z8 hg6_4 rfl,zr' rfl (oM rfl),zr' rfl (oM rfl),zr' rfl (oB rfl (ibind (f := Value.int .i64) (Option.some.inj hv12))),zr' rfl (op_chr _ _ _ v12 _ underlying9 rfl rfl hv13),zr' rfl (oB rfl rfl),z3 true rfl,z8 hg6_11 rfl,zr' rfl (oM rfl),zr' rfl (oM rfl),zr' rfl (op_chr _ _ _ s33 _ underlying9 rfl rfl hv14),zr' rfl (oB rfl rfl),zr' rfl (op_move _ _ _ _ (zb hg6_16) rfl),zt rfl,zt rfl,zt rfl,zt rfl,zt rfl,zr' rfl (op_pick _ _ false _ rfl rfl),z3 false rfl,zz⟩ ?_
          exact hl49 _ (Option.some.inj h).symm
       ·obtain ⟨v17, hv17, h⟩ := bind_some h
        refine cond_some h (fun hg6_16 h => ?_) (fun hg6_16 h => ?_)
        ·obtain ⟨v18, hv18, h⟩ := bind_some h
         obtain ⟨v19, hv19, h⟩ := bind_some h
         refine zg hn (_::_::_::(27,vs s)::(28,vi s33)::(29,.v (.int .u8 v11))::(30,vb (v11 == 46))::(31,vb false)::(32,.v undef)::(33,.v undef)::(34,.v undef)::(35,.v undef)::(36,.v undef)::(37,vb false)::(38,vb false)::(39,vs s)::(40,vi s33)::(41,.v (.int .u8 v17))::(42,vb (v17 != 46))::(43,vb true)::(44,vs s)::(45,vi s33)::(46,.v (.int .u8 v18))::(47,vb v19)::(48,vb (!v19))::(49,vb (!v19))::(50,vb (!v19))::[]) [0,1,2] [0,1,26] (zq [0] 3 27::zq [1] 4 28::zq [3,4] 5 29::zq [5] 6 30::zq [6] 7 31::zq [7] 8 32::zq [7] 9 33::zq [7] 10 34::zq [7] 11 35::zq [7] 12 36::zq [7] 13 37::zq [13] 14 38::zq [14,0] 15 39::zq [14,1] 16 40::zq [14,15,16] 17 41::zq [14,17] 18 42::zq [14,18] 19 43::zq [19,0] 20 44::zq [19,1] 21 45::zq [19,20,21] 22 46::zq [19,22] 23 47::zq [19,23] 24 48::zq [14,19,24] 25 49::zq [14,25] 26 50::[]) [(_,_),(_,_),(_,_)] rfl ⟨z1 rfl,z1 rfl,zp rfl (op_chr _ _ _ s33 _ underlying9 rfl rfl hv11),z4 rfl rfl,z8 hg6_4 rfl,zt rfl,zt rfl,zt rfl,zt rfl,zt rfl,z3 false rfl,z1 rfl,zr' rfl (oM rfl),zr' rfl (oM rfl),zr' rfl (op_chr _ _ _ s33 _ underlying9 rfl rfl hv17),zr' rfl (oB rfl rfl),zr' rfl (op_move _ _ _ _ (zb hg6_16) rfl),zr' rfl (oM rfl),zr' rfl (oM rfl),zr' rfl (op_chr _ _ _ s33 _ underlying9 rfl rfl hv18),zr' rfl (op_call _ _ 49 _ _ rfl call49 rfl (ok_wherryref11_sign v18 _ hv19) rfl rfl),zr' rfl (op_un _ _ _ _ rfl rfl),zr' rfl (op_pick _ _ true _ rfl rfl),z3 false rfl,zz⟩ ?_
         exact hl49 _ (Option.some.inj h).symm
        ·refine zg hn (_::_::_::(27,vs s)::(28,vi s33)::(29,.v (.int .u8 v11))::(30,vb (v11 == 46))::(31,vb false)::(32,.v undef)::(33,.v undef)::(34,.v undef)::(35,.v undef)::(36,.v undef)::(37,vb false)::(38,vb false)::(39,vs s)::(40,vi s33)::(41,.v (.int .u8 v17))::(42,vb (v17 != 46))::(43,vb false)::(44,.v undef)::(45,.v undef)::(46,.v undef)::(47,.v undef)::(48,.v undef)::(49,vb false)::(50,vb false)::[]) [0,1,2] [0,1,26] (zq [0] 3 27::zq [1] 4 28::zq [3,4] 5 29::zq [5] 6 30::zq [6] 7 31::zq [7] 8 32::zq [7] 9 33::zq [7] 10 34::zq [7] 11 35::zq [7] 12 36::zq [7] 13 37::zq [13] 14 38::zq [14,0] 15 39::zq [14,1] 16 40::zq [14,15,16] 17 41::zq [14,17] 18 42::zq [14,18] 19 43::zq [19] 20 44::zq [19] 21 45::zq [19] 22 46::zq [19] 23 47::zq [19] 24 48::zq [14,19] 25 49::zq [14,25] 26 50::[]) [(_,_),(_,_),(_,_)] rfl ⟨z1 rfl,z1 rfl,zp rfl (op_chr _ _ _ s33 _ underlying9 rfl rfl hv11),z4 rfl rfl,z8 hg6_4 rfl,zt rfl,zt rfl,zt rfl,zt rfl,zt rfl,z3 false rfl,z1 rfl,zr' rfl (oM rfl),zr' rfl (oM rfl),zr' rfl (op_chr _ _ _ s33 _ underlying9 rfl rfl hv17),zr' rfl (oB rfl rfl),zr' rfl (op_move _ _ _ _ (zb hg6_16) rfl),zt rfl,zt rfl,zt rfl,zt rfl,zt rfl,zr' rfl (op_pick _ _ false _ rfl rfl),z3 false rfl,zz⟩ ?_
         exact hl49 _ (Option.some.inj h).symm
     ·have h := cond_f hb46 h
      refine ht_exit ?_
      refine pt_x_then ?_
      refine pt_x_then ?_
      refine pt_x_in ?_
      refine pt_pick [] (by kernel_rfl) (es' := []) rfl ?_
      exact hl41 _ (ho43 _ (Option.some.inj h).symm).symm
  ·intro u6 h hl7 hr8
   obtain ⟨v1, hv1, h⟩ := bind_some h
   refine cond_some h (fun hg1_4 h => ?_) (fun hg1_4 h => ?_)
   ·refine zg hn (_::(4,vs s)::(5,vi (s.size : Int))::(6,vb v1)::(7,vb (!v1))::(8,vb true)::(9,.v undef)::(10,.v undef)::(11,.v undef)::(12,vb true)::(13,vb true)::(14,.v undef)::(15,.v undef)::(16,.v undef)::(17,.v undef)::(18,.v undef)::(19,.v undef)::(20,vb true)::[]) [0] [0,17] (zq [0] 1 4::zq [1] 2 5::zq [2] 3 6::zq [3] 4 7::zq [4] 5 8::zq [5] 6 9::zq [5] 7 10::zq [5] 8 11::zq [5] 9 12::zq [9] 10 13::zq [10] 11 14::zq [10] 12 15::zq [10] 13 16::zq [10] 14 17::zq [10] 15 18::zq [10] 16 19::zq [10] 17 20::[]) [(_,_),(_,_)] rfl ⟨z1 rfl,zp rfl (oN underlying9 rfl),zp rfl (op_call _ _ 39 _ _ rfl call39 rfl (ok_wherryref11_in (s.size : Int) 1 64 _ hv1) rfl rfl),zp rfl (op_un _ _ _ _ rfl rfl),z8 hg1_4 rfl,zf rfl,zf rfl,zf rfl,z3 true rfl,z1 rfl,zf rfl,zf rfl,zf rfl,zf rfl,zf rfl,zf rfl,z3 true rfl,zz⟩ ?_
    exact hl7 _ (Option.some.inj h).symm
   ·obtain ⟨v2, hv2, h⟩ := bind_some h
    refine cond_some h (fun hg1_9 h => ?_) (fun hg1_9 h => ?_)
    ·refine zg hn (_::(4,vs s)::(5,vi (s.size : Int))::(6,vb v1)::(7,vb (!v1))::(8,vb false)::(9,vs s)::(10,.v (.int .u8 v2))::(11,vb (v2 == 46))::(12,vb (v2 == 46))::(13,vb true)::(14,.v undef)::(15,.v undef)::(16,.v undef)::(17,.v undef)::(18,.v undef)::(19,.v undef)::(20,vb true)::[]) [0] [0,17] (zq [0] 1 4::zq [1] 2 5::zq [2] 3 6::zq [3] 4 7::zq [4] 5 8::zq [5,0] 6 9::zq [5,6] 7 10::zq [5,7] 8 11::zq [5,8] 9 12::zq [9] 10 13::zq [10] 11 14::zq [10] 12 15::zq [10] 13 16::zq [10] 14 17::zq [10] 15 18::zq [10] 16 19::zq [10] 17 20::[]) [(_,_),(_,_)] rfl ⟨z1 rfl,zp rfl (oN underlying9 rfl),zp rfl (op_call _ _ 39 _ _ rfl call39 rfl (ok_wherryref11_in (s.size : Int) 1 64 _ hv1) rfl rfl),zp rfl (op_un _ _ _ _ rfl rfl),z8 hg1_4 rfl,zr' rfl (oM rfl),zr' rfl (op_chr _ _ _ 0 _ underlying9 rfl rfl hv2),zr' rfl (oB rfl rfl),z3 false rfl,z8 hg1_9 rfl,zf rfl,zf rfl,zf rfl,zf rfl,zf rfl,zf rfl,z3 true rfl,zz⟩ ?_
     exact hl7 _ (Option.some.inj h).symm
    ·obtain ⟨v3, hv3, h⟩ := bind_some h
     obtain ⟨v4, hv4, h⟩ := bind_some h
     refine zg hn (_::(4,vs s)::(5,vi (s.size : Int))::(6,vb v1)::(7,vb (!v1))::(8,vb false)::(9,vs s)::(10,.v (.int .u8 v2))::(11,vb (v2 == 46))::(12,vb (v2 == 46))::(13,vb false)::(14,vs s)::(15,vs s)::(16,vi (s.size : Int))::(17,vi v3)::(18,.v (.int .u8 v4))::(19,vb (v4 == 46))::(20,vb (v4 == 46))::[]) [0] [0,17] (zq [0] 1 4::zq [1] 2 5::zq [2] 3 6::zq [3] 4 7::zq [4] 5 8::zq [5,0] 6 9::zq [5,6] 7 10::zq [5,7] 8 11::zq [5,8] 9 12::zq [9] 10 13::zq [10,0] 11 14::zq [10,0] 12 15::zq [10,12] 13 16::zq [10,13] 14 17::zq [10,11,14] 15 18::zq [10,15] 16 19::zq [10,16] 17 20::[]) [(_,_),(_,_)] rfl ⟨z1 rfl,zp rfl (oN underlying9 rfl),zp rfl (op_call _ _ 39 _ _ rfl call39 rfl (ok_wherryref11_in (s.size : Int) 1 64 _ hv1) rfl rfl),zp rfl (op_un _ _ _ _ rfl rfl),z8 hg1_4 rfl,zr' rfl (oM rfl),zr' rfl (op_chr _ _ _ 0 _ underlying9 rfl rfl hv2),zr' rfl (oB rfl rfl),z3 false rfl,z8 hg1_9 rfl,zr' rfl (oM rfl),zr' rfl (oM rfl),zr' rfl (oN underlying9 rfl),zr' rfl (oB rfl (ibind (f := Value.int .i64) (Option.some.inj hv3))),zr' rfl (op_chr _ _ _ v3 _ underlying9 rfl rfl hv4),zr' rfl (oB rfl rfl),z3 false rfl,zz⟩ ?_
     exact hl7 _ (Option.some.inj h).symm
theorem ok_wherryref11_Path (p : T_Path) (r : Bool) (h : Sh.wherryref11_Path p = some r) : FnOK Tryz.prog 14 [.agg [.v (.bool p.Null), .v (.string p.Local), .v (.string p.Domain)]] (.v (.bool r)) := by
  unfold Sh.wherryref11_Path at h
  refine fn_ok func14 rfl (zl rfl) rfl rfl fun g0 hn hio => ?_
  refine zgg hn [_,(1,.box 23 [vb p.Null,vs p.Local,vs p.Domain]),(2,vb false)] [0] [1] [zq [0] 1 1,zq [] 2 2] [(_,_)] rfl ⟨zp rfl (op_box _ _ _ _ rfl rfl rfl),z2 rfl,zz⟩ ?_
  refine ht_seq ?_
  refine zgg hn [_,(3,.ptr 1 0),(4,vb p.Null)] [0] [0,2] [zq [0] 1 3,zq [1,0] 2 4] [(_,_),(_,_)] rfl ⟨zp rfl (oF underlying23 rfl sz4),zp rfl (oL underlying4 rfl),zz⟩ ?_
  refine ht_cond _ rfl (fun hb1 => ?_) (fun hb1 => ?_)
  ·have h := cond_t hb1 h
   refine ht_seq ?_
   refine ht_joinS h (fun (s2 : Bool) => [(2, .v (.bool s2))]) ?_ ?_
   ·rintro s2 h
    refine pt_then (ht_ret ?_)
    refine pt_r_then ?_
    obtain rfl := Option.some.inj h
    exact pt_ret hio rfl (.tmp _ _ .nil) rfl rfl
   ·intro u3 h hl4 hr5
    refine cond_some h (fun hg2_3 h => ?_) (fun hg2_3 h => ?_)
    ·refine zg hn [_,_,(5,.ptr 1 1),(6,vs p.Local),(7,vb (p.Local.toList == z0.toList)),(8,vb true),(9,.ptr 1 2),(10,vs p.Domain),(11,vb (p.Domain.toList == z0.toList)),(12,vb (p.Domain.toList == z0.toList)),(2,vb (p.Domain.toList == z0.toList))] [0,1] [10] [zq [0] 2 5,zq [2,0] 3 6,zq [3] 4 7,zq [4] 5 8,zq [5,0] 6 9,zq [5,6,0] 7 10,zq [5,7] 8 11,zq [5,8] 9 12,zq [9] 10 2] [(_,_)] rfl ⟨zp rfl (oF underlying23 rfl sz9),zp rfl (oL underlying9 rfl),z4 rfl rfl,z8 hg2_3 rfl,zr' rfl (oF underlying23 rfl sz9),zr' rfl (oL underlying9 rfl),zr' rfl (oB rfl rfl),z3 true rfl,z2 rfl,zz⟩ ?_
     exact hl4 _ (Option.some.inj h).symm
    ·refine zg hn [_,_,(5,.ptr 1 1),(6,vs p.Local),(7,vb (p.Local.toList == z0.toList)),(8,vb false),(9,.v undef),(10,.v undef),(11,.v undef),(12,vb false),(2,vb false)] [0,1] [10] [zq [0] 2 5,zq [2,0] 3 6,zq [3] 4 7,zq [4] 5 8,zq [5] 6 9,zq [5] 7 10,zq [5] 8 11,zq [5] 9 12,zq [9] 10 2] [(_,_)] rfl ⟨zp rfl (oF underlying23 rfl sz9),zp rfl (oL underlying9 rfl),z4 rfl rfl,z8 hg2_3 rfl,zt rfl,zt rfl,zt rfl,z3 false rfl,z2 rfl,zz⟩ ?_
     exact hl4 _ (Option.some.inj h).symm
  ·have h := cond_f hb1 h
   refine ht_skip ?_
   refine pt_then (ht_seq ?_)
   refine ht_joinS h (fun (s8 : Bool) => [(2, .v (.bool s8))]) ?_ ?_
   ·rintro s8 h
    refine pt_then (ht_ret ?_)
    obtain rfl := Option.some.inj h
    exact pt_ret hio rfl (.tmp _ _ .nil) rfl rfl
   ·intro u9 h hl10 hr11
    obtain ⟨v6, hv6, h⟩ := bind_some h
    refine cond_some h (fun hg3_3 h => ?_) (fun hg3_3 h => ?_)
    ·obtain ⟨v7, hv7, h⟩ := bind_some h
     refine zg hn [_,_,(13,.ptr 1 1),(14,vs p.Local),(15,vb v6),(16,vb true),(17,.ptr 1 2),(18,vs p.Domain),(19,vb v7),(20,vb v7),(2,vb v7)] [0,1] [10] [zq [0] 2 13,zq [2,0] 3 14,zq [3] 4 15,zq [4] 5 16,zq [5,0] 6 17,zq [5,6,0] 7 18,zq [5,7] 8 19,zq [5,8] 9 20,zq [9] 10 2] [(_,_)] rfl ⟨zp rfl (oF underlying23 rfl sz9),zp rfl (oL underlying9 rfl),zp rfl (op_call _ _ 32 _ _ rfl call32 rfl (ok_wherryref11_Local p.Local _ hv6) rfl rfl),z8 hg3_3 rfl,zr' rfl (oF underlying23 rfl sz9),zr' rfl (oL underlying9 rfl),zr' rfl (op_call _ _ 24 _ _ rfl call24 rfl (ok_wherryref11_Domain p.Domain _ hv7) rfl rfl),z3 true rfl,z2 rfl,zz⟩ ?_
     exact hl10 _ (Option.some.inj h).symm
    ·refine zg hn [_,_,(13,.ptr 1 1),(14,vs p.Local),(15,vb v6),(16,vb false),(17,.v undef),(18,.v undef),(19,.v undef),(20,vb false),(2,vb false)] [0,1] [10] [zq [0] 2 13,zq [2,0] 3 14,zq [3] 4 15,zq [4] 5 16,zq [5] 6 17,zq [5] 7 18,zq [5] 8 19,zq [5] 9 20,zq [9] 10 2] [(_,_)] rfl ⟨zp rfl (oF underlying23 rfl sz9),zp rfl (oL underlying9 rfl),zp rfl (op_call _ _ 32 _ _ rfl call32 rfl (ok_wherryref11_Local p.Local _ hv6) rfl rfl),z8 hg3_3 rfl,zt rfl,zt rfl,zt rfl,z3 false rfl,z2 rfl,zz⟩ ?_
     exact hl10 _ (Option.some.inj h).symm
theorem ok_wherryref11_keep (p : T_Path) (ok : Bool) (r : (T_Path × Bool)) (h : Sh.wherryref11_keep p ok = some r) : FnOK Tryz.prog 56 [.agg [.v (.bool p.Null), .v (.string p.Local), .v (.string p.Domain)], .v (.bool ok)] (.tup [.agg [.v (.bool r.1.Null), .v (.string r.1.Local), .v (.string r.1.Domain)], .v (.bool r.2)]) := by
  unfold Sh.wherryref11_keep at h
  refine fn_ok func56 rfl (zl rfl) rfl rfl fun g0 hn hio => ?_
  refine zgg hn [_,_,(2,.box 23 [vb p.Null,vs p.Local,vs p.Domain]),(4,.box 23 [vb false,vs z0,vs z0]),(5,vb false)] [0,1] [1,2,3] [zq [0] 2 2,zq [] 3 4,zq [] 4 5] [(_,_),(_,_),(_,_)] rfl ⟨zp rfl (op_box _ _ _ _ rfl rfl rfl),zp rfl (op_alloc _ _ zr23),z2 rfl,zz⟩ ?_
  refine ht_seq ?_
  refine zgg hn [_,_,_,(6,vb ok),(7,vb (!ok))] [0,1,2] [1,2,4] [zq [0] 3 6,zq [3] 4 7] [(_,_),(_,_),(_,_)] rfl ⟨z1 rfl,zp rfl (op_un _ _ _ _ rfl rfl),zz⟩ ?_
  refine ht_cond _ rfl (fun hb1 => ?_) (fun hb1 => ?_)
  ·have h := cond_t hb1 h
   refine zgg hn [_,_,_,(8,.agg [vb false,vs z0,vs z0]),(4,.box 23 [vb false,vs z0,vs z0]),(5,vb false)] [0,1,2] [4,5] [zq [] 3 8,⟨[],[3,1],[4],[.cell 4 0,.cell 4 1,.cell 4 2]⟩,zq [] 5 5] [(_,_),(_,_)] rfl ⟨zp rfl (op_build _ _ _ _ [1, 1, 1] _ _ underlying23 zr23 (fs23 _ underlying23) Src.nil rfl rfl rfl),zp rfl (op_store_self _ _ _ 8 4 3 sz23 rfl rfl rfl rfl rfl (.eq _ (.eq _ (.eq _ (.nil _)))) rfl),z2 rfl,zz⟩ ?_
   refine ht_ret ?_
   refine pt_r_then ?_
   obtain rfl := Option.some.inj h
   exact pt_ret hio rfl (.cellA _ _ _ _ underlying23 rfl sz23 (.tmp _ _ .nil)) rfl rfl
  ·have h := cond_f hb1 h
   refine ht_skip ?_
   refine pt_then ?_
   refine zgg hn [_,_,_,(9,.agg [vb p.Null,vs p.Local,vs p.Domain]),(4,.box 23 [vb p.Null,vs p.Local,vs p.Domain]),(5,vb true)] [0,1,2] [4,5] [zq [0] 3 9,⟨[3],[1],[4],[.cell 4 0,.cell 4 1,.cell 4 2]⟩,zq [] 5 5] [(_,_),(_,_)] rfl ⟨zp rfl (op_loadA _ _ _ _ _ _ _ underlying23 rfl sz23 rfl rfl (zl rfl) rfl rfl),zp rfl (oS sz23 rfl),z2 rfl,zz⟩ ?_
   refine ht_ret ?_
   obtain rfl := Option.some.inj h
   exact pt_ret hio rfl (.cellA _ _ _ _ underlying23 rfl sz23 (.tmp _ _ .nil)) rfl rfl
theorem ok_wherryref11_Parse (s : ByteArray) (r : (T_Path × Bool)) (h : Sh.wherryref11_Parse s = some r) : FnOK Tryz.prog 42 [.v (.string s)] (.tup [.agg [.v (.bool r.1.Null), .v (.string r.1.Local), .v (.string r.1.Domain)], .v (.bool r.2)]) := by
  unfold Sh.wherryref11_Parse at h
  refine fn_ok func42 rfl (zl rfl) rfl rfl fun g0 hn hio => ?_
  refine zgg hn [_,(2,.box 23 [vb false,vs z0,vs z0]),(3,vb false)] [0] [0,1] [zq [] 1 2,zq [] 2 3] [(_,_),(_,_)] rfl ⟨zp rfl (op_alloc _ _ zr23),z2 rfl,zz⟩ ?_
  refine ht_seq ?_
  refine zgg hn [_,_,(6,vs s),(7,vb (s.toList == (⟨#[60,62]⟩ : ByteArray).toList))] [0,1] [0,1,3] [zq [0] 2 6,zq [2] 3 7] [(_,_),(_,_),(_,_)] rfl ⟨z1 rfl,z4 rfl rfl,zz⟩ ?_
  refine ht_cond _ rfl (fun hb1 => ?_) (fun hb1 => ?_)
  ·have h := cond_t hb1 h
   refine zgg hn [_,_,_,(8,.agg [vb true,vs z0,vs z0]),(2,.box 23 [vb true,vs z0,vs z0]),(3,vb true)] [0,1,2] [4,5] [zq [] 3 8,⟨[3],[1],[4],[.cell 2 0,.cell 2 1,.cell 2 2]⟩,zq [] 5 3] [(_,_),(_,_)] rfl ⟨zp rfl (op_build _ _ _ _ [1, 1, 1] _ _ underlying23 zr23 (fs23 _ underlying23) (.copy _ Src.nil) rfl rfl rfl),zp rfl (oS sz23 rfl),z2 rfl,zz⟩ ?_
   refine ht_ret ?_
   refine pt_r_then ?_
   obtain rfl := Option.some.inj h
   exact pt_ret hio rfl (.cellA _ _ _ _ underlying23 rfl sz23 (.tmp _ _ .nil)) rfl rfl
  ·have h := cond_f hb1 h
   refine ht_skip ?_
   refine pt_then (ht_seq ?_)
   refine ht_seq ?_
   refine ht_joinS h (fun (s5 : Bool) => [(0, .v (.string s)), (2, .box 23 [.v (.bool false), .v (.string (⟨#[]⟩ : ByteArray)), .v (.string (⟨#[]⟩ : ByteArray))]), (24, .v (.bool s5))]) ?_ ?_
   ·rintro s5 h
    refine pt_then ?_
    refine ht_cond _ rfl (fun hb9 => ?_) (fun hb9 => ?_)
    ·have h := cond_t hb9 h
     refine zgg hn [_,_,_,(25,.agg [vb false,vs z0,vs z0]),(2,.box 23 [vb false,vs z0,vs z0]),(3,vb false)] [0,1,2] [4,5] [zq [] 3 25,⟨[],[3,1],[4],[.cell 2 0,.cell 2 1,.cell 2 2]⟩,zq [] 5 3] [(_,_),(_,_)] rfl ⟨zp rfl (op_build _ _ _ _ [1, 1, 1] _ _ underlying23 zr23 (fs23 _ underlying23) Src.nil rfl rfl rfl),zp rfl (op_store_self _ _ _ 25 2 3 sz23 rfl rfl rfl rfl rfl (.eq _ (.eq _ (.eq _ (.nil _)))) rfl),z2 rfl,zz⟩ ?_
     refine ht_ret ?_
     refine pt_r_then ?_
     obtain rfl := Option.some.inj h
     exact pt_ret hio rfl (.cellA _ _ _ _ underlying23 rfl sz23 (.tmp _ _ .nil)) rfl rfl
    ·have h := cond_f hb9 h
     refine ht_skip ?_
     refine pt_then (ht_seq ?_)
     obtain ⟨v10, hv10, h⟩ := bind_some h
     obtain ⟨v11, hv11, h⟩ := bind_some h
     refine zg hn [_,_,_,(26,vs s),(27,vs s),(28,vi (s.size : Int)),(29,vi v10),(30,vs v11),(0,vs v11)] [0,1,2] [1,8] [zq [0] 3 26,zq [0] 4 27,zq [4] 5 28,zq [5] 6 29,zq [3,6] 7 30,⟨[7],[0],[8],[(.slot 0)]⟩] [(_,_),(_,_)] rfl ⟨z1 rfl,z1 rfl,zp rfl (oN underlying9 rfl),zp rfl (oB rfl (ibind (f := Value.int .i64) (Option.some.inj hv10))),zp rfl (op_substr _ _ _ 1 v10 _ underlying9 rfl ⟨_, rfl⟩ ⟨_, rfl⟩ hv11),zp rfl (LOp.drop [_] (op_assign _ _ _ _ rfl rfl)),zz⟩ ?_
     refine pt_then (ht_seq ?_)
     refine zgg hn [_,_,(4,vi 0)] [0,1] [0,1,2] [zq [] 2 4] [(_,_),(_,_),(_,_)] rfl ⟨z2 rfl,zz⟩ ?_
     refine ht_loopS h (fun (s24 : Int) => [(2, .box 23 [.v (.bool false), .v (.string (⟨#[]⟩ : ByteArray)), .v (.string (⟨#[]⟩ : ByteArray))]), (0, .v (.string v11)), (4, .v (.int .i64 s24))]) (fun (() : Unit) => [(2, .box 23 [.v (.bool false), .v (.string (⟨#[]⟩ : ByteArray)), .v (.string (⟨#[]⟩ : ByteArray))])]) ?_ ?_
     ·rintro ⟨⟩ h
      refine pt_then ?_
      refine zgg hn [_,(55,.agg [vb false,vs z0,vs z0]),(2,.box 23 [vb false,vs z0,vs z0]),(3,vb false)] [0] [2,3] [zq [] 1 55,⟨[],[1,0],[2],[.cell 2 0,.cell 2 1,.cell 2 2]⟩,zq [] 3 3] [(_,_),(_,_)] rfl ⟨zp rfl (op_build _ _ _ _ [1, 1, 1] _ _ underlying23 zr23 (fs23 _ underlying23) Src.nil rfl rfl rfl),zp rfl (op_store_self _ _ _ 55 2 3 sz23 rfl rfl rfl rfl rfl (.eq _ (.eq _ (.eq _ (.nil _)))) rfl),z2 rfl,zz⟩ ?_
      refine ht_ret ?_
      obtain rfl := Option.some.inj h
      exact pt_ret hio rfl (.cellA _ _ _ _ underlying23 rfl sz23 (.tmp _ _ .nil)) rfl rfl
     ·rintro u27 hl28 hr29 s24 rr32 h ho30
      refine ht_seq ?_
      refine zgg hn [_,_,_,(31,vi s24),(32,vs v11),(33,vi (v11.size : Int)),(34,vb (decide (s24 < (v11.size : Int))))] [0,1,2] [0,1,2,6] [zq [2] 3 31,zq [1] 4 32,zq [4] 5 33,zq [3,5] 6 34] [(_,_),(_,_),(_,_),(_,_)] rfl ⟨z1 rfl,z1 rfl,zp rfl (oN underlying9 rfl),z4 rfl rfl,zz⟩ ?_
      refine ht_cond _ rfl (fun hb33 => ?_) (fun hb33 => ?_)
      ·have h := cond_t hb33 h
       refine ht_skip ?_
       refine pt_then (ht_seq ?_)
       refine ht_block ?_
       refine ht_seq ?_
       obtain ⟨v13, hv13, h⟩ := bind_some h
       refine zg hn [_,_,_,_,(37,vs v11),(38,vi s24),(39,.v (.int .u8 v13)),(40,vb (v13 == 64))] [0,1,2,3] [0,1,2,7] [zq [1] 4 37,zq [2] 5 38,zq [4,5] 6 39,zq [6] 7 40] [(_,_),(_,_),(_,_),(_,_)] rfl ⟨z1 rfl,z1 rfl,zp rfl (op_chr _ _ _ s24 _ underlying9 rfl rfl hv13),z4 rfl rfl,zz⟩ ?_
       refine pt_then ?_
       refine ht_cond _ rfl (fun hb34 => ?_) (fun hb34 => ?_)
       ·have h := cond_t hb34 h
        refine ht_seq ?_
        obtain ⟨v15, hv15, h⟩ := bind_some h
        obtain ⟨v16, hv16, h⟩ := bind_some h
        obtain ⟨v17, hv17, h⟩ := bind_some h
        refine ht_anyR (by kernel_rfl) hn (El := [_, _, _, _, (41, .v (.string v11)), (42, .v (.int .i64 s24)), (43, .v (.string v15)), (44, .v (.string v11)), (45, .v (.int .i64 s24)), (46, .v (.int .i64 v16)), (47, .v (.string v17)), (48, .agg [.v (.bool false), .v (.string v15), .v (.string v17)]), (5, .box 23 [.v (.bool false), .v (.string (⟨#[]⟩ : ByteArray)), .v (.string (⟨#[]⟩ : ByteArray))]), (5, .box 23 [.v (.bool false), .v (.string v15), .v (.string v17)])]) (init := [0, 1, 2, 3]) (fin := [0, 13]) (sps := [zq [1] 4 41, zq [2] 5 42, zq [4,5] 6 43, zq [1] 7 44, zq [2] 8 45, zq [8] 9 46, zq [7,9] 10 47, zq [6,10] 11 48, zq [] 12 5, ⟨[11], [12], [13], [.cell 5 0, .cell 5 1, .cell 5 2]⟩]) (es' := [(_,_),(5, .box 23 [.v (.bool false), .v (.string v15), .v (.string v17)])]) (by kernel_rfl) rfl rfl ⟨z1 rfl,z1 rfl,zp rfl (op_substr _ _ _ 0 s24 _ underlying9 rfl rfl ⟨_, rfl⟩ hv15),z1 rfl,z1 rfl,zp rfl (oB rfl (ibind (f := Value.int .i64) (Option.some.inj hv16))),zp rfl (op_substr _ _ _ v16 (v11.size : Int) _ underlying9 rfl ⟨_, rfl⟩ rfl hv17),zp rfl (op_build _ _ _ _ [1, 1, 1] _ _ underlying23 zr23 (fs23 _ underlying23) (.copy _ (.copy _ Src.nil)) rfl rfl rfl),zp rfl (op_alloc _ _ zr23),zp rfl (oS sz23 rfl),zz⟩ ?_
        refine pt_then (ht_seq ?_)
        obtain ⟨v18, hv18, h⟩ := bind_some h
        obtain ⟨v19, hv19, h⟩ := bind_some h
        refine ht_anyR (by kernel_rfl) hn (El := [_, _, (49, .agg [.v (.bool false), .v (.string v15), .v (.string v17)]), (50, .agg [.v (.bool false), .v (.string v15), .v (.string v17)]), (51, .v (.bool v18)), (52, .tup [.agg [.v (.bool v19.1.Null), .v (.string v19.1.Local), .v (.string v19.1.Domain)], .v (.bool v19.2)]), (53, .agg [.v (.bool v19.1.Null), .v (.string v19.1.Local), .v (.string v19.1.Domain)]), (54, .v (.bool v19.2)), (2, .box 23 [.v (.bool v19.1.Null), .v (.string v19.1.Local), .v (.string v19.1.Domain)]), (3, .v (.bool v19.2))]) (init := [0, 1]) (fin := [8, 9]) (sps := [zq [1] 2 49, zq [1] 3 50, zq [3] 4 51, zq [2,4] 5 52, zq [5] 6 53, zq [5] 7 54, ⟨[6], [0], [8], [.cell 2 0, .cell 2 1, .cell 2 2]⟩, zq [7] 9 3]) (es' := [(2, .box 23 [.v (.bool v19.1.Null), .v (.string v19.1.Local), .v (.string v19.1.Domain)]), (3, .v (.bool v19.2))]) (by kernel_rfl) rfl rfl ⟨zp rfl (op_loadA _ _ _ _ _ _ _ underlying23 rfl sz23 rfl rfl (zl rfl) rfl rfl),zp rfl (op_loadA _ _ _ _ _ _ _ underlying23 rfl sz23 rfl rfl (zl rfl) rfl rfl),zp rfl (op_call _ _ 14 _ _ rfl call14 rfl (ok_wherryref11_Path (T_Path.mk false v15 v17) _ hv18) rfl rfl),zp rfl (op_call _ _ 56 _ _ rfl call56 rfl (ok_wherryref11_keep (T_Path.mk false v15 v17) v18 _ hv19) rfl rfl),zp rfl (op_extract_no _ _ _ _ _ _ rfl rfl (zl rfl) rfl rfl),zp rfl (oE rfl),zp rfl (oS sz23 rfl),z2 rfl,zz⟩ ?_
        refine pt_then (ht_ret ?_)
        refine pt_r_in ?_
        refine pt_r_then ?_
        refine pt_r_then ?_
        refine pt_r_in ?_
        refine pt_r_then ?_
        have h := hr29 _ (ho30 _ (Option.some.inj h).symm).symm
        obtain rfl := Option.some.inj h
        exact pt_ret hio rfl (.cellA _ _ _ _ underlying23 rfl sz23 (.tmp _ _ .nil)) rfl rfl
       ·have h := cond_f hb34 h
        refine ht_skip ?_
        refine pt_inb ?_
        refine pt_then ?_
        obtain ⟨v20, hv20, h⟩ := bind_some h
        refine zg hn [_,_,_,_,(35,vi s24),(36,vi v20),(4,vi v20)] [0,1,2,3] [0,1,6] [zq [2] 4 35,zq [4] 5 36,⟨[5],[2],[6],[(.slot 4)]⟩] [(_,_),(_,_),(_,_)] rfl ⟨z1 rfl,zp rfl (oB rfl (ibind (f := Value.int .i64) (Option.some.inj hv20))),zp rfl (LOp.drop [_] (op_assign _ _ _ _ rfl rfl)),zz⟩ ?_
        exact pt_next _ (Option.some.inj h).symm rfl
      ·have h := cond_f hb33 h
       refine ht_exit ?_
       refine pt_x_then ?_
       refine pt_x_then ?_
       refine pt_x_in ?_
       refine pt_pick [0] (by kernel_rfl) (es' := [(_,_)]) rfl ?_
       exact hl28 _ (ho30 _ (Option.some.inj h).symm).symm
   ·intro u6 h hl7 hr8
    refine cond_some h (fun hg3_3 h => ?_) (fun hg3_3 h => ?_)
    ·refine zg hn (_::_::_::(9,vs s)::(10,vi (s.size : Int))::(11,vb (decide ((s.size : Int) < 2)))::(12,vb true)::(13,.v undef)::(14,.v undef)::(15,.v undef)::(16,vb true)::(17,vb true)::(18,.v undef)::(19,.v undef)::(20,.v undef)::(21,.v undef)::(22,.v undef)::(23,.v undef)::(24,vb true)::[]) [0,1,2] [0,1,18] (zq [0] 3 9::zq [3] 4 10::zq [4] 5 11::zq [5] 6 12::zq [6] 7 13::zq [6] 8 14::zq [6] 9 15::zq [6] 10 16::zq [10] 11 17::zq [11] 12 18::zq [11] 13 19::zq [11] 14 20::zq [11] 15 21::zq [11] 16 22::zq [11] 17 23::zq [11] 18 24::[]) [(_,_),(_,_),(_,_)] rfl ⟨z1 rfl,zp rfl (oN underlying9 rfl),z4 rfl rfl,z8 hg3_3 rfl,zf rfl,zf rfl,zf rfl,z3 true rfl,z1 rfl,zf rfl,zf rfl,zf rfl,zf rfl,zf rfl,zf rfl,z3 true rfl,zz⟩ ?_
     exact hl7 _ (Option.some.inj h).symm
    ·obtain ⟨v2, hv2, h⟩ := bind_some h
     refine cond_some h (fun hg3_8 h => ?_) (fun hg3_8 h => ?_)
     ·refine zg hn (_::_::_::(9,vs s)::(10,vi (s.size : Int))::(11,vb (decide ((s.size : Int) < 2)))::(12,vb false)::(13,vs s)::(14,.v (.int .u8 v2))::(15,vb (v2 != 60))::(16,vb (v2 != 60))::(17,vb true)::(18,.v undef)::(19,.v undef)::(20,.v undef)::(21,.v undef)::(22,.v undef)::(23,.v undef)::(24,vb true)::[]) [0,1,2] [0,1,18] (zq [0] 3 9::zq [3] 4 10::zq [4] 5 11::zq [5] 6 12::zq [6,0] 7 13::zq [6,7] 8 14::zq [6,8] 9 15::zq [6,9] 10 16::zq [10] 11 17::zq [11] 12 18::zq [11] 13 19::zq [11] 14 20::zq [11] 15 21::zq [11] 16 22::zq [11] 17 23::zq [11] 18 24::[]) [(_,_),(_,_),(_,_)] rfl ⟨z1 rfl,zp rfl (oN underlying9 rfl),z4 rfl rfl,z8 hg3_3 rfl,zr' rfl (oM rfl),zr' rfl (op_chr _ _ _ 0 _ underlying9 rfl rfl hv2),zr' rfl (oB rfl rfl),z3 false rfl,z8 hg3_8 rfl,zf rfl,zf rfl,zf rfl,zf rfl,zf rfl,zf rfl,z3 true rfl,zz⟩ ?_
      exact hl7 _ (Option.some.inj h).symm
     ·obtain ⟨v3, hv3, h⟩ := bind_some h
      obtain ⟨v4, hv4, h⟩ := bind_some h
      refine zg hn (_::_::_::(9,vs s)::(10,vi (s.size : Int))::(11,vb (decide ((s.size : Int) < 2)))::(12,vb false)::(13,vs s)::(14,.v (.int .u8 v2))::(15,vb (v2 != 60))::(16,vb (v2 != 60))::(17,vb false)::(18,vs s)::(19,vs s)::(20,vi (s.size : Int))::(21,vi v3)::(22,.v (.int .u8 v4))::(23,vb (v4 != 62))::(24,vb (v4 != 62))::[]) [0,1,2] [0,1,18] (zq [0] 3 9::zq [3] 4 10::zq [4] 5 11::zq [5] 6 12::zq [6,0] 7 13::zq [6,7] 8 14::zq [6,8] 9 15::zq [6,9] 10 16::zq [10] 11 17::zq [11,0] 12 18::zq [11,0] 13 19::zq [11,13] 14 20::zq [11,14] 15 21::zq [11,12,15] 16 22::zq [11,16] 17 23::zq [11,17] 18 24::[]) [(_,_),(_,_),(_,_)] rfl ⟨z1 rfl,zp rfl (oN underlying9 rfl),z4 rfl rfl,z8 hg3_3 rfl,zr' rfl (oM rfl),zr' rfl (op_chr _ _ _ 0 _ underlying9 rfl rfl hv2),zr' rfl (oB rfl rfl),z3 false rfl,z8 hg3_8 rfl,zr' rfl (oM rfl),zr' rfl (oM rfl),zr' rfl (oN underlying9 rfl),zr' rfl (oB rfl (ibind (f := Value.int .i64) (Option.some.inj hv3))),zr' rfl (op_chr _ _ _ v3 _ underlying9 rfl rfl hv4),zr' rfl (oB rfl rfl),z3 false rfl,zz⟩ ?_
      exact hl7 _ (Option.some.inj h).symm
theorem ok_wherryref11_number (s : ByteArray) (most : Int) (r : Int) (h : Sh.wherryref11_number s most = some r) : FnOK Tryz.prog 70 [.v (.string s), .v (.int .i64 most)] (.v (.int .i64 r)) := by
  unfold Sh.wherryref11_number at h
  refine fn_ok func70 rfl (zl rfl) rfl rfl fun g0 hn hio => ?_
  refine zgg hn [_,_,(4,vi 0)] [0,1] [0,1] [zq [] 2 4] [(_,_),(_,_)] rfl ⟨z2 rfl,zz⟩ ?_
  refine ht_seq ?_
  refine ht_seq ?_
  refine ht_joinS h (fun (s3 : Bool) => [(0, .v (.string s)), (21, .v (.bool s3))]) ?_ ?_
  ·rintro s3 h
   refine pt_then ?_
   refine ht_cond _ rfl (fun hb7 => ?_) (fun hb7 => ?_)
   ·have h := cond_t hb7 h
    refine zgg hn [_,_,(4,vi (-1))] [0,1] [2] [zq [] 2 4] [(_,_)] rfl ⟨z2 rfl,zz⟩ ?_
    refine ht_ret ?_
    refine pt_r_then ?_
    obtain rfl := Option.some.inj h
    exact pt_ret hio rfl (.tmp _ _ .nil) rfl rfl
   ·have h := cond_f hb7 h
    refine ht_skip ?_
    refine pt_then ?_
    refine zgg hn [_,_,(5,vi 0)] [0,1] [0,2] [zq [] 2 5] [(_,_),(_,_)] rfl ⟨z2 rfl,zz⟩ ?_
    refine ht_seq ?_
    refine zgg hn [_,_,(6,vi 0)] [0,1] [0,1,2] [zq [] 2 6] [(_,_),(_,_),(_,_)] rfl ⟨z2 rfl,zz⟩ ?_
    refine ht_loopS h (fun ((s22, s23) : Int × Int) => [(0, .v (.string s)), (5, .v (.int .i64 s22)), (6, .v (.int .i64 s23))]) (fun (s26 : Int) => [(5, .v (.int .i64 s26))]) ?_ ?_
    ·rintro s26 h
     refine pt_then ?_
     refine zgg hn [_,(41,vi s26),(4,vi s26)] [0] [2] [zq [0] 1 41,zq [1] 2 4] [(_,_)] rfl ⟨z1 rfl,z2 rfl,zz⟩ ?_
     refine ht_ret ?_
     obtain rfl := Option.some.inj h
     exact pt_ret hio rfl (.tmp _ _ .nil) rfl rfl
    ·rintro u27 hl28 hr29 ⟨s22, s23⟩ rr32 h ho30
     refine ht_seq ?_
     refine zgg hn [_,_,_,(22,vi s23),(23,vs s),(24,vi (s.size : Int)),(25,vb (decide (s23 < (s.size : Int))))] [0,1,2] [0,1,2,6] [zq [2] 3 22,zq [0] 4 23,zq [4] 5 24,zq [3,5] 6 25] [(_,_),(_,_),(_,_),(_,_)] rfl ⟨z1 rfl,z1 rfl,zp rfl (oN underlying9 rfl),z4 rfl rfl,zz⟩ ?_
     refine ht_cond _ rfl (fun hb33 => ?_) (fun hb33 => ?_)
     ·have h := cond_t hb33 h
      refine ht_skip ?_
      refine pt_then (ht_seq ?_)
      refine ht_block ?_
      refine ht_seq ?_
      refine ht_seq ?_
      obtain ⟨v9, hv9, h⟩ := bind_some h
      obtain ⟨v10, hv10, h⟩ := bind_some h
      refine zg hn [_,_,_,_,(28,vs s),(29,vi s23),(30,.v (.int .u8 v9)),(31,vb v10),(32,vb (!v10))] [0,1,2,3] [0,1,2,8] [zq [0] 4 28,zq [2] 5 29,zq [4,5] 6 30,zq [6] 7 31,zq [7] 8 32] [(_,_),(_,_),(_,_),(_,_)] rfl ⟨z1 rfl,z1 rfl,zp rfl (op_chr _ _ _ s23 _ underlying9 rfl rfl hv9),zp rfl (op_call _ _ 41 _ _ rfl call41 rfl (ok_wherryref11_digit v9 _ hv10) rfl rfl),zp rfl (op_un _ _ _ _ rfl rfl),zz⟩ ?_
      refine pt_then ?_
      refine ht_cond _ rfl (fun hb34 => ?_) (fun hb34 => ?_)
      ·have h := cond_t hb34 h
       refine zgg hn [_,_,_,_,(4,vi (-1))] [0,1,2,3] [4] [zq [] 4 4] [(_,_)] rfl ⟨z2 rfl,zz⟩ ?_
       refine ht_ret ?_
       refine pt_r_then ?_
       refine pt_r_in ?_
       refine pt_r_then ?_
       refine pt_r_then ?_
       refine pt_r_in ?_
       refine pt_r_then ?_
       have h := hr29 _ (ho30 _ (Option.some.inj h).symm).symm
       obtain rfl := Option.some.inj h
       exact pt_ret hio rfl (.tmp _ _ .nil) rfl rfl
      ·have h := cond_f hb34 h
       refine ht_skip ?_
       refine pt_then ?_
       obtain ⟨v12, hv12, h⟩ := bind_some h
       obtain ⟨v13, hv13, h⟩ := bind_some h
       obtain ⟨v14, hv14, h⟩ := bind_some h
       obtain ⟨v15, hv15, h⟩ := bind_some h
       obtain ⟨v16, hv16, h⟩ := bind_some h
       refine zg hn [_,_,_,_,(33,vi s22),(34,vi v12),(35,vs s),(36,vi s23),(37,.v (.int .u8 v13)),(38,.v (.int .u8 v14)),(39,vi v15),(40,vi v16),(5,vi v16)] [0,1,2,3] [0,2,12] [zq [1] 4 33,zq [4] 5 34,zq [0] 6 35,zq [2] 7 36,zq [6,7] 8 37,zq [8] 9 38,zq [9] 10 39,zq [5,10] 11 40,⟨[11],[1],[12],[(.slot 5)]⟩] [(_,_),(_,_),(_,_)] rfl ⟨z1 rfl,zp rfl (oB rfl (ibind (f := Value.int .i64) (Option.some.inj hv12))),z1 rfl,z1 rfl,zp rfl (op_chr _ _ _ s23 _ underlying9 rfl rfl hv13),zp rfl (oB rfl (ibind (f := Value.int .u8) (Option.some.inj hv14))),zp rfl ((Option.some.inj hv15) ▸ op_conv _ _ _ underlying5 underlying3 rfl),zp rfl (oB rfl (ibind (f := Value.int .i64) (Option.some.inj hv16))),zp rfl (LOp.drop [_] (op_assign _ _ _ _ rfl rfl)),zz⟩ ?_
       refine pt_inb ?_
       refine pt_then ?_
       obtain ⟨v17, hv17, h⟩ := bind_some h
       refine zg hn [_,_,_,(26,vi s23),(27,vi v17),(6,vi v17)] [0,1,2] [0,2,5] [zq [1] 3 26,zq [3] 4 27,⟨[4],[1],[5],[(.slot 6)]⟩] [(_,_),(_,_),(_,_)] rfl ⟨z1 rfl,zp rfl (oB rfl (ibind (f := Value.int .i64) (Option.some.inj hv17))),zp rfl (LOp.drop [_] (op_assign _ _ _ _ rfl rfl)),zz⟩ ?_
       exact pt_next _ (Option.some.inj h).symm rfl
     ·have h := cond_f hb33 h
      refine ht_exit ?_
      refine pt_x_then ?_
      refine pt_x_then ?_
      refine pt_x_in ?_
      refine pt_pick [1] (by kernel_rfl) (es' := [(_,_)]) rfl ?_
      exact hl28 _ (ho30 _ (Option.some.inj h).symm).symm
  ·intro u4 h hl5 hr6
   obtain ⟨v1, hv1, h⟩ := bind_some h
   refine cond_some h (fun hg1_5 h => ?_) (fun hg1_5 h => ?_)
   ·refine zg hn (_::_::(7,vs s)::(8,vi (s.size : Int))::(9,vi most)::(10,vb v1)::(11,vb (!v1))::(12,vb true)::(13,.v undef)::(14,.v undef)::(15,.v undef)::(16,.v undef)::(17,.v undef)::(18,.v undef)::(19,.v undef)::(20,.v undef)::(21,vb true)::[]) [0,1] [0,16] (zq [0] 2 7::zq [2] 3 8::zq [1] 4 9::zq [3,4] 5 10::zq [5] 6 11::zq [6] 7 12::zq [7] 8 13::zq [7] 9 14::zq [7] 10 15::zq [7] 11 16::zq [11] 12 17::zq [11] 13 18::zq [11] 14 19::zq [7] 15 20::zq [7] 16 21::[]) [(_,_),(_,_)] rfl ⟨z1 rfl,zp rfl (oN underlying9 rfl),z1 rfl,zp rfl (op_call _ _ 39 _ _ rfl call39 rfl (ok_wherryref11_in (s.size : Int) 1 most _ hv1) rfl rfl),zp rfl (op_un _ _ _ _ rfl rfl),z8 hg1_5 rfl,zf rfl,zf rfl,zf rfl,zf rfl,zu' rfl,zu' rfl,zu' rfl,zf rfl,z3 true rfl,zz⟩ ?_
    exact hl5 _ (Option.some.inj h).symm
   ·refine cond_some h (fun hg1_9 h => ?_) (fun hg1_9 h => ?_)
    ·obtain ⟨v2, hv2, h⟩ := bind_some h
     refine zg hn (_::_::(7,vs s)::(8,vi (s.size : Int))::(9,vi most)::(10,vb v1)::(11,vb (!v1))::(12,vb false)::(13,vs s)::(14,vi (s.size : Int))::(15,vb (decide (1 < (s.size : Int))))::(16,vb true)::(17,vs s)::(18,.v (.int .u8 v2))::(19,vb (v2 == 48))::(20,vb (v2 == 48))::(21,vb (v2 == 48))::[]) [0,1] [0,16] (zq [0] 2 7::zq [2] 3 8::zq [1] 4 9::zq [3,4] 5 10::zq [5] 6 11::zq [6] 7 12::zq [7,0] 8 13::zq [7,8] 9 14::zq [7,9] 10 15::zq [7,10] 11 16::zq [11,0] 12 17::zq [11,12] 13 18::zq [11,13] 14 19::zq [7,11,14] 15 20::zq [7,15] 16 21::[]) [(_,_),(_,_)] rfl ⟨z1 rfl,zp rfl (oN underlying9 rfl),z1 rfl,zp rfl (op_call _ _ 39 _ _ rfl call39 rfl (ok_wherryref11_in (s.size : Int) 1 most _ hv1) rfl rfl),zp rfl (op_un _ _ _ _ rfl rfl),z8 hg1_5 rfl,zr' rfl (oM rfl),zr' rfl (oN underlying9 rfl),zr' rfl (oB rfl rfl),zr' rfl (op_move _ _ _ _ (zb hg1_9) rfl),zr' rfl (oM rfl),zr' rfl (op_chr _ _ _ 0 _ underlying9 rfl rfl hv2),zr' rfl (oB rfl rfl),zr' rfl (op_pick _ _ true _ rfl rfl),z3 false rfl,zz⟩ ?_
     exact hl5 _ (Option.some.inj h).symm
    ·refine zg hn (_::_::(7,vs s)::(8,vi (s.size : Int))::(9,vi most)::(10,vb v1)::(11,vb (!v1))::(12,vb false)::(13,vs s)::(14,vi (s.size : Int))::(15,vb (decide (1 < (s.size : Int))))::(16,vb false)::(17,.v undef)::(18,.v undef)::(19,.v undef)::(20,vb false)::(21,vb false)::[]) [0,1] [0,16] (zq [0] 2 7::zq [2] 3 8::zq [1] 4 9::zq [3,4] 5 10::zq [5] 6 11::zq [6] 7 12::zq [7,0] 8 13::zq [7,8] 9 14::zq [7,9] 10 15::zq [7,10] 11 16::zq [11] 12 17::zq [11] 13 18::zq [11] 14 19::zq [7,11] 15 20::zq [7,15] 16 21::[]) [(_,_),(_,_)] rfl ⟨z1 rfl,zp rfl (oN underlying9 rfl),z1 rfl,zp rfl (op_call _ _ 39 _ _ rfl call39 rfl (ok_wherryref11_in (s.size : Int) 1 most _ hv1) rfl rfl),zp rfl (op_un _ _ _ _ rfl rfl),z8 hg1_5 rfl,zr' rfl (oM rfl),zr' rfl (oN underlying9 rfl),zr' rfl (oB rfl rfl),zr' rfl (op_move _ _ _ _ (zb hg1_9) rfl),zt rfl,zt rfl,zt rfl,zr' rfl (op_pick _ _ false _ rfl rfl),z3 false rfl,zz⟩ ?_
     exact hl5 _ (Option.some.inj h).symm
theorem ok_wherryref11_param (s : ByteArray) (kind : Int) (r : (T_Param × Bool)) (h : Sh.wherryref11_param s kind = some r) : FnOK Tryz.prog 57 [.v (.string s), .v (.int .i64 kind)] (.tup [.agg [.v (.string r.1.Key), .v (.string r.1.Val)], .v (.bool r.2)]) := by
  unfold Sh.wherryref11_param at h
  refine fn_ok func57 rfl (zl rfl) rfl rfl fun g0 hn hio => ?_
  refine zgg hn [_,_,(4,.box 47 [vs z0,vs z0]),(5,vb false)] [0,1] [0,1,2] [zq [] 2 4,zq [] 3 5] [(_,_),(_,_),(_,_)] rfl ⟨zp rfl (op_alloc _ _ zr47),z2 rfl,zz⟩ ?_
  refine ht_seq ?_
  refine ht_seq ?_
  obtain ⟨v1, hv1, h⟩ := bind_some h
  refine zg hn [_,_,_,(17,vs s),(18,.tup [vs v1.1,vb v1.2]),(16,.tup [vs v1.1,vb v1.2]),(19,vs v1.1),(20,vb v1.2),(6,vs v1.1),(7,vb v1.2)] [0,1,2] [0,1,2,8,9] [zq [0] 3 17,zq [3] 4 18,⟨[],[4],[5],[(.slot 16)]⟩,zq [5] 6 19,zq [5] 7 20,zq [6] 8 6,zq [7] 9 7] [(_,_),(_,_),(_,_),(_,_),(_,_)] rfl ⟨z1 rfl,zp rfl (op_call _ _ 25 _ _ rfl call25 rfl (ok_wherryref11_begins s (⟨#[115, 105, 122, 101, 61]⟩ : ByteArray) _ hv1) rfl rfl),zp rfl (op_move_take _ _ _ _ rfl),zp rfl (oE rfl),zp rfl (oE rfl),z2 rfl,z2 rfl,zz⟩ ?_
  refine pt_then (ht_seq ?_)
  refine ht_joinS h (fun (s3 : Bool) => [(0, .v (.string s)), (1, .v (.int .i64 kind)), (4, .box 47 [.v (.string (⟨#[]⟩ : ByteArray)), .v (.string (⟨#[]⟩ : ByteArray))]), (6, .v (.string v1.1)), (30, .v (.bool s3))]) ?_ ?_
  ·rintro s3 h
   refine pt_then ?_
   refine ht_cond _ rfl (fun hb7 => ?_) (fun hb7 => ?_)
   ·have h := cond_t hb7 h
    refine zgg hn [_,_,_,_,_,(31,vs v1.1),(32,.agg [vs (⟨#[83,73,90,69]⟩ : ByteArray),vs v1.1]),(4,.box 47 [vs (⟨#[83,73,90,69]⟩ : ByteArray),vs v1.1]),(5,vb true)] [0,1,2,3,4] [7,8] [zq [3] 5 31,zq [5] 6 32,⟨[6],[2],[7],[.cell 4 0,.cell 4 1]⟩,zq [] 8 5] [(_,_),(_,_)] rfl ⟨z1 rfl,zp rfl (op_build _ _ _ _ [1, 1] _ _ underlying47 zr47 (fs47 _ underlying47) (.copy _ (.copy _ Src.nil)) rfl rfl rfl),zp rfl (oS sz47 rfl),z2 rfl,zz⟩ ?_
    refine ht_ret ?_
    refine pt_r_then ?_
    obtain rfl := Option.some.inj h
    exact pt_ret hio rfl (.cellA _ _ _ _ underlying47 rfl sz47 (.tmp _ _ .nil)) rfl rfl
   ·have h := cond_f hb7 h
    refine ht_skip ?_
    refine pt_then (ht_seq ?_)
    refine ht_seq ?_
    obtain ⟨v8, hv8, h⟩ := bind_some h
    refine zg hn [_,_,_,_,_,(34,vs s),(35,.tup [vs v8.1,vb v8.2]),(33,.tup [vs v8.1,vb v8.2]),(36,vs v8.1),(37,vb v8.2),(8,vs v8.1),(9,vb v8.2)] [0,1,2,3,4] [0,1,2,10,11] [zq [0] 5 34,zq [5] 6 35,⟨[],[6],[7],[(.slot 33)]⟩,zq [7] 8 36,zq [7] 9 37,zq [8] 10 8,zq [9] 11 9] [(_,_),(_,_),(_,_),(_,_),(_,_)] rfl ⟨z1 rfl,zp rfl (op_call _ _ 25 _ _ rfl call25 rfl (ok_wherryref11_begins s (⟨#[114, 101, 116, 61]⟩ : ByteArray) _ hv8) rfl rfl),zp rfl (op_move_take _ _ _ _ rfl),zp rfl (oE rfl),zp rfl (oE rfl),z2 rfl,z2 rfl,zz⟩ ?_
    refine pt_then (ht_seq ?_)
    refine ht_joinS h (fun (s10 : Bool) => [(0, .v (.string s)), (1, .v (.int .i64 kind)), (4, .box 47 [.v (.string (⟨#[]⟩ : ByteArray)), .v (.string (⟨#[]⟩ : ByteArray))]), (47, .v (.bool s10))]) ?_ ?_
    ·rintro s10 h
     refine pt_then ?_
     refine ht_cond _ rfl (fun hb14 => ?_) (fun hb14 => ?_)
     ·have h := cond_t hb14 h
      refine zgg hn [_,_,_,_,(48,.agg [vs (⟨#[82,69,84]⟩ : ByteArray),vs (⟨#[70,85,76,76]⟩ : ByteArray)]),(4,.box 47 [vs (⟨#[82,69,84]⟩ : ByteArray),vs (⟨#[70,85,76,76]⟩ : ByteArray)]),(5,vb true)] [0,1,2,3] [5,6] [zq [] 4 48,⟨[4],[2],[5],[.cell 4 0,.cell 4 1]⟩,zq [] 6 5] [(_,_),(_,_)] rfl ⟨zp rfl (op_build _ _ _ _ [1, 1] _ _ underlying47 zr47 (fs47 _ underlying47) (.copy _ (.copy _ Src.nil)) rfl rfl rfl),zp rfl (oS sz47 rfl),z2 rfl,zz⟩ ?_
      refine ht_ret ?_
      refine pt_r_then ?_
      obtain rfl := Option.some.inj h
      exact pt_ret hio rfl (.cellA _ _ _ _ underlying47 rfl sz47 (.tmp _ _ .nil)) rfl rfl
     ·have h := cond_f hb14 h
      refine ht_skip ?_
      refine pt_then (ht_seq ?_)
      refine ht_seq ?_
      obtain ⟨v15, hv15, h⟩ := bind_some h
      refine zg hn [_,_,_,_,(50,vs s),(51,.tup [vs v15.1,vb v15.2]),(49,.tup [vs v15.1,vb v15.2]),(52,vs v15.1),(53,vb v15.2),(10,vs v15.1),(11,vb v15.2)] [0,1,2,3] [0,1,2,9,10] [zq [0] 4 50,zq [4] 5 51,⟨[],[5],[6],[(.slot 49)]⟩,zq [6] 7 52,zq [6] 8 53,zq [7] 9 10,zq [8] 10 11] [(_,_),(_,_),(_,_),(_,_),(_,_)] rfl ⟨z1 rfl,zp rfl (op_call _ _ 25 _ _ rfl call25 rfl (ok_wherryref11_begins s (⟨#[114, 101, 116, 61]⟩ : ByteArray) _ hv15) rfl rfl),zp rfl (op_move_take _ _ _ _ rfl),zp rfl (oE rfl),zp rfl (oE rfl),z2 rfl,z2 rfl,zz⟩ ?_
      refine pt_then (ht_seq ?_)
      refine ht_joinS h (fun (s17 : Bool) => [(0, .v (.string s)), (1, .v (.int .i64 kind)), (4, .box 47 [.v (.string (⟨#[]⟩ : ByteArray)), .v (.string (⟨#[]⟩ : ByteArray))]), (63, .v (.bool s17))]) ?_ ?_
      ·rintro s17 h
       refine pt_then ?_
       refine ht_cond _ rfl (fun hb21 => ?_) (fun hb21 => ?_)
       ·have h := cond_t hb21 h
        refine zgg hn [_,_,_,_,(64,.agg [vs (⟨#[82,69,84]⟩ : ByteArray),vs (⟨#[72,68,82,83]⟩ : ByteArray)]),(4,.box 47 [vs (⟨#[82,69,84]⟩ : ByteArray),vs (⟨#[72,68,82,83]⟩ : ByteArray)]),(5,vb true)] [0,1,2,3] [5,6] [zq [] 4 64,⟨[4],[2],[5],[.cell 4 0,.cell 4 1]⟩,zq [] 6 5] [(_,_),(_,_)] rfl ⟨zp rfl (op_build _ _ _ _ [1, 1] _ _ underlying47 zr47 (fs47 _ underlying47) (.copy _ (.copy _ Src.nil)) rfl rfl rfl),zp rfl (oS sz47 rfl),z2 rfl,zz⟩ ?_
        refine ht_ret ?_
        refine pt_r_then ?_
        obtain rfl := Option.some.inj h
        exact pt_ret hio rfl (.cellA _ _ _ _ underlying47 rfl sz47 (.tmp _ _ .nil)) rfl rfl
       ·have h := cond_f hb21 h
        refine ht_skip ?_
        refine pt_then (ht_seq ?_)
        refine ht_seq ?_
        obtain ⟨v22, hv22, h⟩ := bind_some h
        refine zg hn [_,_,_,_,(66,vs s),(67,.tup [vs v22.1,vb v22.2]),(65,.tup [vs v22.1,vb v22.2]),(68,vs v22.1),(69,vb v22.2),(12,vs v22.1),(13,vb v22.2)] [0,1,2,3] [0,1,2,9,10] [zq [0] 4 66,zq [4] 5 67,⟨[],[5],[6],[(.slot 65)]⟩,zq [6] 7 68,zq [6] 8 69,zq [7] 9 12,zq [8] 10 13] [(_,_),(_,_),(_,_),(_,_),(_,_)] rfl ⟨z1 rfl,zp rfl (op_call _ _ 25 _ _ rfl call25 rfl (ok_wherryref11_begins s (⟨#[110, 111, 116, 105, 102, 121, 61]⟩ : ByteArray) _ hv22) rfl rfl),zp rfl (op_move_take _ _ _ _ rfl),zp rfl (oE rfl),zp rfl (oE rfl),z2 rfl,z2 rfl,zz⟩ ?_
        refine pt_then (ht_seq ?_)
        refine ht_joinS h (fun (s24 : Bool) => [(0, .v (.string s)), (1, .v (.int .i64 kind)), (4, .box 47 [.v (.string (⟨#[]⟩ : ByteArray)), .v (.string (⟨#[]⟩ : ByteArray))]), (79, .v (.bool s24))]) ?_ ?_
        ·rintro s24 h
         refine pt_then ?_
         refine ht_cond _ rfl (fun hb28 => ?_) (fun hb28 => ?_)
         ·have h := cond_t hb28 h
          refine zgg hn [_,_,_,_,(80,.agg [vs (⟨#[78,79,84,73,70,89]⟩ : ByteArray),vs (⟨#[78,69,86,69,82]⟩ : ByteArray)]),(4,.box 47 [vs (⟨#[78,79,84,73,70,89]⟩ : ByteArray),vs (⟨#[78,69,86,69,82]⟩ : ByteArray)]),(5,vb true)] [0,1,2,3] [5,6] [zq [] 4 80,⟨[4],[2],[5],[.cell 4 0,.cell 4 1]⟩,zq [] 6 5] [(_,_),(_,_)] rfl ⟨zp rfl (op_build _ _ _ _ [1, 1] _ _ underlying47 zr47 (fs47 _ underlying47) (.copy _ (.copy _ Src.nil)) rfl rfl rfl),zp rfl (oS sz47 rfl),z2 rfl,zz⟩ ?_
          refine ht_ret ?_
          refine pt_r_then ?_
          obtain rfl := Option.some.inj h
          exact pt_ret hio rfl (.cellA _ _ _ _ underlying47 rfl sz47 (.tmp _ _ .nil)) rfl rfl
         ·have h := cond_f hb28 h
          refine ht_skip ?_
          refine pt_then (ht_seq ?_)
          refine ht_seq ?_
          obtain ⟨v29, hv29, h⟩ := bind_some h
          refine zg hn [_,_,_,_,(82,vs s),(83,.tup [vs v29.1,vb v29.2]),(81,.tup [vs v29.1,vb v29.2]),(84,vs v29.1),(85,vb v29.2),(14,vs v29.1),(15,vb v29.2)] [0,1,2,3] [1,2,9,10] [zq [0] 4 82,zq [4] 5 83,⟨[],[5],[6],[(.slot 81)]⟩,zq [6] 7 84,zq [6] 8 85,zq [7] 9 14,zq [8] 10 15] [(_,_),(_,_),(_,_),(_,_)] rfl ⟨z1 rfl,zp rfl (op_call _ _ 25 _ _ rfl call25 rfl (ok_wherryref11_begins s (⟨#[110, 111, 116, 105, 102, 121, 61]⟩ : ByteArray) _ hv29) rfl rfl),zp rfl (op_move_take _ _ _ _ rfl),zp rfl (oE rfl),zp rfl (oE rfl),z2 rfl,z2 rfl,zz⟩ ?_
          refine pt_then (ht_seq ?_)
          refine ht_joinS h (fun (s31 : Bool) => [(4, .box 47 [.v (.string (⟨#[]⟩ : ByteArray)), .v (.string (⟨#[]⟩ : ByteArray))]), (95, .v (.bool s31))]) ?_ ?_
          ·rintro s31 h
           refine pt_then ?_
           refine ht_cond _ rfl (fun hb35 => ?_) (fun hb35 => ?_)
           ·have h := cond_t hb35 h
            refine zgg hn [_,_,(96,.agg [vs (⟨#[78,79,84,73,70,89]⟩ : ByteArray),vs (⟨#[70,65,73,76,85,82,69]⟩ : ByteArray)]),(4,.box 47 [vs (⟨#[78,79,84,73,70,89]⟩ : ByteArray),vs (⟨#[70,65,73,76,85,82,69]⟩ : ByteArray)]),(5,vb true)] [0,1] [3,4] [zq [] 2 96,⟨[2],[0],[3],[.cell 4 0,.cell 4 1]⟩,zq [] 4 5] [(_,_),(_,_)] rfl ⟨zp rfl (op_build _ _ _ _ [1, 1] _ _ underlying47 zr47 (fs47 _ underlying47) (.copy _ (.copy _ Src.nil)) rfl rfl rfl),zp rfl (oS sz47 rfl),z2 rfl,zz⟩ ?_
            refine ht_ret ?_
            refine pt_r_then ?_
            obtain rfl := Option.some.inj h
            exact pt_ret hio rfl (.cellA _ _ _ _ underlying47 rfl sz47 (.tmp _ _ .nil)) rfl rfl
           ·have h := cond_f hb35 h
            refine ht_skip ?_
            refine pt_then ?_
            refine zgg hn [_,_,(97,.agg [vs z0,vs z0]),(4,.box 47 [vs z0,vs z0]),(5,vb false)] [0,1] [3,4] [zq [] 2 97,⟨[],[2,0],[3],[.cell 4 0,.cell 4 1]⟩,zq [] 4 5] [(_,_),(_,_)] rfl ⟨zp rfl (op_build _ _ _ _ [1, 1] _ _ underlying47 zr47 (fs47 _ underlying47) Src.nil rfl rfl rfl),zp rfl (op_store_self _ _ _ 97 4 2 sz47 rfl rfl rfl rfl rfl (.eq _ (.eq _ (.nil _))) rfl),z2 rfl,zz⟩ ?_
            refine ht_ret ?_
            obtain rfl := Option.some.inj h
            exact pt_ret hio rfl (.cellA _ _ _ _ underlying47 rfl sz47 (.tmp _ _ .nil)) rfl rfl
          ·intro u32 h hl33 hr34
           refine cond_some h (fun hg14_1 h => ?_) (fun hg14_1 h => ?_)
           ·refine cond_some h (fun hg14_5 h => ?_) (fun hg14_5 h => ?_)
            ·obtain ⟨v30, hv30, h⟩ := bind_some h
             refine zg hn [_,_,_,_,(86,vb v29.2),(87,vb true),(88,vi kind),(89,vb (kind == 3)),(90,vb (kind == 3)),(91,vb true),(92,vs v29.1),(93,vs v30),(94,vb (v30.toList == (⟨#[102,97,105,108,117,114,101]⟩ : ByteArray).toList)),(95,vb (v30.toList == (⟨#[102,97,105,108,117,114,101]⟩ : ByteArray).toList))] [0,1,2,3] [1,13] [zq [3] 4 86,zq [4] 5 87,zq [5,0] 6 88,zq [5,6] 7 89,zq [5,7] 8 90,zq [8] 9 91,zq [9,2] 10 92,zq [9,10] 11 93,zq [9,11] 12 94,zq [9,12] 13 95] [(_,_),(_,_)] rfl ⟨z1 rfl,z8 hg14_1 rfl,zr' rfl (oM rfl),zr' rfl (oB rfl rfl),z3 true rfl,z8 hg14_5 rfl,zr' rfl (oM rfl),zr' rfl (op_call _ _ 27 _ _ rfl call27 rfl (ok_wherryref11_Fold v29.1 _ hv30) rfl rfl),zr' rfl (oB rfl rfl),z3 true rfl,zz⟩ ?_
             exact hl33 _ (Option.some.inj h).symm
            ·refine zg hn [_,_,_,_,(86,vb v29.2),(87,vb true),(88,vi kind),(89,vb (kind == 3)),(90,vb (kind == 3)),(91,vb false),(92,.v undef),(93,.v undef),(94,.v undef),(95,vb false)] [0,1,2,3] [1,13] [zq [3] 4 86,zq [4] 5 87,zq [5,0] 6 88,zq [5,6] 7 89,zq [5,7] 8 90,zq [8] 9 91,zq [9] 10 92,zq [9] 11 93,zq [9] 12 94,zq [9] 13 95] [(_,_),(_,_)] rfl ⟨z1 rfl,z8 hg14_1 rfl,zr' rfl (oM rfl),zr' rfl (oB rfl rfl),z3 true rfl,z8 hg14_5 rfl,zt rfl,zt rfl,zt rfl,z3 false rfl,zz⟩ ?_
             exact hl33 _ (Option.some.inj h).symm
           ·refine zg hn [_,_,_,_,(86,vb v29.2),(87,vb false),(88,.v undef),(89,.v undef),(90,vb false),(91,vb false),(92,.v undef),(93,.v undef),(94,.v undef),(95,vb false)] [0,1,2,3] [1,13] [zq [3] 4 86,zq [4] 5 87,zq [5] 6 88,zq [5] 7 89,zq [5] 8 90,zq [8] 9 91,zq [9] 10 92,zq [9] 11 93,zq [9] 12 94,zq [9] 13 95] [(_,_),(_,_)] rfl ⟨z1 rfl,z8 hg14_1 rfl,zt rfl,zt rfl,z3 false rfl,z1 rfl,zt rfl,zt rfl,zt rfl,z3 false rfl,zz⟩ ?_
            exact hl33 _ (Option.some.inj h).symm
        ·intro u25 h hl26 hr27
         refine cond_some h (fun hg11_1 h => ?_) (fun hg11_1 h => ?_)
         ·refine cond_some h (fun hg11_5 h => ?_) (fun hg11_5 h => ?_)
          ·obtain ⟨v23, hv23, h⟩ := bind_some h
           refine zg hn (_::_::_::_::_::(70,vb v22.2)::(71,vb true)::(72,vi kind)::(73,vb (kind == 3))::(74,vb (kind == 3))::(75,vb true)::(76,vs v22.1)::(77,vs v23)::(78,vb (v23.toList == (⟨#[110,101,118,101,114]⟩ : ByteArray).toList))::(79,vb (v23.toList == (⟨#[110,101,118,101,114]⟩ : ByteArray).toList))::[]) [0,1,2,3,4] [0,1,2,14] [zq [4] 5 70,zq [5] 6 71,zq [6,1] 7 72,zq [6,7] 8 73,zq [6,8] 9 74,zq [9] 10 75,zq [10,3] 11 76,zq [10,11] 12 77,zq [10,12] 13 78,zq [10,13] 14 79] [(_,_),(_,_),(_,_),(_,_)] rfl ⟨z1 rfl,z8 hg11_1 rfl,zr' rfl (oM rfl),zr' rfl (oB rfl rfl),z3 true rfl,z8 hg11_5 rfl,zr' rfl (oM rfl),zr' rfl (op_call _ _ 27 _ _ rfl call27 rfl (ok_wherryref11_Fold v22.1 _ hv23) rfl rfl),zr' rfl (oB rfl rfl),z3 true rfl,zz⟩ ?_
           exact hl26 _ (Option.some.inj h).symm
          ·refine zg hn (_::_::_::_::_::(70,vb v22.2)::(71,vb true)::(72,vi kind)::(73,vb (kind == 3))::(74,vb (kind == 3))::(75,vb false)::(76,.v undef)::(77,.v undef)::(78,.v undef)::(79,vb false)::[]) [0,1,2,3,4] [0,1,2,14] [zq [4] 5 70,zq [5] 6 71,zq [6,1] 7 72,zq [6,7] 8 73,zq [6,8] 9 74,zq [9] 10 75,zq [10] 11 76,zq [10] 12 77,zq [10] 13 78,zq [10] 14 79] [(_,_),(_,_),(_,_),(_,_)] rfl ⟨z1 rfl,z8 hg11_1 rfl,zr' rfl (oM rfl),zr' rfl (oB rfl rfl),z3 true rfl,z8 hg11_5 rfl,zt rfl,zt rfl,zt rfl,z3 false rfl,zz⟩ ?_
           exact hl26 _ (Option.some.inj h).symm
         ·refine zg hn (_::_::_::_::_::(70,vb v22.2)::(71,vb false)::(72,.v undef)::(73,.v undef)::(74,vb false)::(75,vb false)::(76,.v undef)::(77,.v undef)::(78,.v undef)::(79,vb false)::[]) [0,1,2,3,4] [0,1,2,14] [zq [4] 5 70,zq [5] 6 71,zq [6] 7 72,zq [6] 8 73,zq [6] 9 74,zq [9] 10 75,zq [10] 11 76,zq [10] 12 77,zq [10] 13 78,zq [10] 14 79] [(_,_),(_,_),(_,_),(_,_)] rfl ⟨z1 rfl,z8 hg11_1 rfl,zt rfl,zt rfl,z3 false rfl,z1 rfl,zt rfl,zt rfl,zt rfl,z3 false rfl,zz⟩ ?_
          exact hl26 _ (Option.some.inj h).symm
      ·intro u18 h hl19 hr20
       refine cond_some h (fun hg8_1 h => ?_) (fun hg8_1 h => ?_)
       ·refine cond_some h (fun hg8_5 h => ?_) (fun hg8_5 h => ?_)
        ·obtain ⟨v16, hv16, h⟩ := bind_some h
         refine zg hn (_::_::_::_::_::(54,vb v15.2)::(55,vb true)::(56,vi kind)::(57,vb (kind == 2))::(58,vb (kind == 2))::(59,vb true)::(60,vs v15.1)::(61,vs v16)::(62,vb (v16.toList == (⟨#[104,100,114,115]⟩ : ByteArray).toList))::(63,vb (v16.toList == (⟨#[104,100,114,115]⟩ : ByteArray).toList))::[]) [0,1,2,3,4] [0,1,2,14] [zq [4] 5 54,zq [5] 6 55,zq [6,1] 7 56,zq [6,7] 8 57,zq [6,8] 9 58,zq [9] 10 59,zq [10,3] 11 60,zq [10,11] 12 61,zq [10,12] 13 62,zq [10,13] 14 63] [(_,_),(_,_),(_,_),(_,_)] rfl ⟨z1 rfl,z8 hg8_1 rfl,zr' rfl (oM rfl),zr' rfl (oB rfl rfl),z3 true rfl,z8 hg8_5 rfl,zr' rfl (oM rfl),zr' rfl (op_call _ _ 27 _ _ rfl call27 rfl (ok_wherryref11_Fold v15.1 _ hv16) rfl rfl),zr' rfl (oB rfl rfl),z3 true rfl,zz⟩ ?_
         exact hl19 _ (Option.some.inj h).symm
        ·refine zg hn (_::_::_::_::_::(54,vb v15.2)::(55,vb true)::(56,vi kind)::(57,vb (kind == 2))::(58,vb (kind == 2))::(59,vb false)::(60,.v undef)::(61,.v undef)::(62,.v undef)::(63,vb false)::[]) [0,1,2,3,4] [0,1,2,14] [zq [4] 5 54,zq [5] 6 55,zq [6,1] 7 56,zq [6,7] 8 57,zq [6,8] 9 58,zq [9] 10 59,zq [10] 11 60,zq [10] 12 61,zq [10] 13 62,zq [10] 14 63] [(_,_),(_,_),(_,_),(_,_)] rfl ⟨z1 rfl,z8 hg8_1 rfl,zr' rfl (oM rfl),zr' rfl (oB rfl rfl),z3 true rfl,z8 hg8_5 rfl,zt rfl,zt rfl,zt rfl,z3 false rfl,zz⟩ ?_
         exact hl19 _ (Option.some.inj h).symm
       ·refine zg hn (_::_::_::_::_::(54,vb v15.2)::(55,vb false)::(56,.v undef)::(57,.v undef)::(58,vb false)::(59,vb false)::(60,.v undef)::(61,.v undef)::(62,.v undef)::(63,vb false)::[]) [0,1,2,3,4] [0,1,2,14] [zq [4] 5 54,zq [5] 6 55,zq [6] 7 56,zq [6] 8 57,zq [6] 9 58,zq [9] 10 59,zq [10] 11 60,zq [10] 12 61,zq [10] 13 62,zq [10] 14 63] [(_,_),(_,_),(_,_),(_,_)] rfl ⟨z1 rfl,z8 hg8_1 rfl,zt rfl,zt rfl,z3 false rfl,z1 rfl,zt rfl,zt rfl,zt rfl,z3 false rfl,zz⟩ ?_
        exact hl19 _ (Option.some.inj h).symm
    ·intro u11 h hl12 hr13
     refine cond_some h (fun hg5_1 h => ?_) (fun hg5_1 h => ?_)
     ·refine cond_some h (fun hg5_5 h => ?_) (fun hg5_5 h => ?_)
      ·obtain ⟨v9, hv9, h⟩ := bind_some h
       refine zg hn (_::_::_::_::_::(38,vb v8.2)::(39,vb true)::(40,vi kind)::(41,vb (kind == 2))::(42,vb (kind == 2))::(43,vb true)::(44,vs v8.1)::(45,vs v9)::(46,vb (v9.toList == (⟨#[102,117,108,108]⟩ : ByteArray).toList))::(47,vb (v9.toList == (⟨#[102,117,108,108]⟩ : ByteArray).toList))::[]) [0,1,2,3,4] [0,1,2,14] [zq [4] 5 38,zq [5] 6 39,zq [6,1] 7 40,zq [6,7] 8 41,zq [6,8] 9 42,zq [9] 10 43,zq [10,3] 11 44,zq [10,11] 12 45,zq [10,12] 13 46,zq [10,13] 14 47] [(_,_),(_,_),(_,_),(_,_)] rfl ⟨z1 rfl,z8 hg5_1 rfl,zr' rfl (oM rfl),zr' rfl (oB rfl rfl),z3 true rfl,z8 hg5_5 rfl,zr' rfl (oM rfl),zr' rfl (op_call _ _ 27 _ _ rfl call27 rfl (ok_wherryref11_Fold v8.1 _ hv9) rfl rfl),zr' rfl (oB rfl rfl),z3 true rfl,zz⟩ ?_
       exact hl12 _ (Option.some.inj h).symm
      ·refine zg hn (_::_::_::_::_::(38,vb v8.2)::(39,vb true)::(40,vi kind)::(41,vb (kind == 2))::(42,vb (kind == 2))::(43,vb false)::(44,.v undef)::(45,.v undef)::(46,.v undef)::(47,vb false)::[]) [0,1,2,3,4] [0,1,2,14] [zq [4] 5 38,zq [5] 6 39,zq [6,1] 7 40,zq [6,7] 8 41,zq [6,8] 9 42,zq [9] 10 43,zq [10] 11 44,zq [10] 12 45,zq [10] 13 46,zq [10] 14 47] [(_,_),(_,_),(_,_),(_,_)] rfl ⟨z1 rfl,z8 hg5_1 rfl,zr' rfl (oM rfl),zr' rfl (oB rfl rfl),z3 true rfl,z8 hg5_5 rfl,zt rfl,zt rfl,zt rfl,z3 false rfl,zz⟩ ?_
       exact hl12 _ (Option.some.inj h).symm
     ·refine zg hn (_::_::_::_::_::(38,vb v8.2)::(39,vb false)::(40,.v undef)::(41,.v undef)::(42,vb false)::(43,vb false)::(44,.v undef)::(45,.v undef)::(46,.v undef)::(47,vb false)::[]) [0,1,2,3,4] [0,1,2,14] [zq [4] 5 38,zq [5] 6 39,zq [6] 7 40,zq [6] 8 41,zq [6] 9 42,zq [9] 10 43,zq [10] 11 44,zq [10] 12 45,zq [10] 13 46,zq [10] 14 47] [(_,_),(_,_),(_,_),(_,_)] rfl ⟨z1 rfl,z8 hg5_1 rfl,zt rfl,zt rfl,z3 false rfl,z1 rfl,zt rfl,zt rfl,zt rfl,z3 false rfl,zz⟩ ?_
      exact hl12 _ (Option.some.inj h).symm
  ·intro u4 h hl5 hr6
   refine cond_some h (fun hg2_1 h => ?_) (fun hg2_1 h => ?_)
   ·refine cond_some h (fun hg2_5 h => ?_) (fun hg2_5 h => ?_)
    ·obtain ⟨v2, hv2, h⟩ := bind_some h
     refine zg hn (_::_::_::_::_::(21,vb v1.2)::(22,vb true)::(23,vi kind)::(24,vb (kind == 2))::(25,vb (kind == 2))::(26,vb true)::(27,vs v1.1)::(28,vi v2)::(29,vb (decide (0 ≤ v2)))::(30,vb (decide (0 ≤ v2)))::[]) [0,1,2,3,4] [0,1,2,3,14] [zq [4] 5 21,zq [5] 6 22,zq [6,1] 7 23,zq [6,7] 8 24,zq [6,8] 9 25,zq [9] 10 26,zq [10,3] 11 27,zq [10,11] 12 28,zq [10,12] 13 29,zq [10,13] 14 30] [(_,_),(_,_),(_,_),(_,_),(_,_)] rfl ⟨z1 rfl,z8 hg2_1 rfl,zr' rfl (oM rfl),zr' rfl (oB rfl rfl),z3 true rfl,z8 hg2_5 rfl,zr' rfl (oM rfl),zr' rfl (op_call _ _ 70 _ _ rfl call70 rfl (ok_wherryref11_number v1.1 9 _ hv2) rfl rfl),zr' rfl (oB rfl rfl),z3 true rfl,zz⟩ ?_
     exact hl5 _ (Option.some.inj h).symm
    ·refine zg hn (_::_::_::_::_::(21,vb v1.2)::(22,vb true)::(23,vi kind)::(24,vb (kind == 2))::(25,vb (kind == 2))::(26,vb false)::(27,.v undef)::(28,.v undef)::(29,.v undef)::(30,vb false)::[]) [0,1,2,3,4] [0,1,2,3,14] [zq [4] 5 21,zq [5] 6 22,zq [6,1] 7 23,zq [6,7] 8 24,zq [6,8] 9 25,zq [9] 10 26,zq [10] 11 27,zq [10] 12 28,zq [10] 13 29,zq [10] 14 30] [(_,_),(_,_),(_,_),(_,_),(_,_)] rfl ⟨z1 rfl,z8 hg2_1 rfl,zr' rfl (oM rfl),zr' rfl (oB rfl rfl),z3 true rfl,z8 hg2_5 rfl,zt rfl,zt rfl,zt rfl,z3 false rfl,zz⟩ ?_
     exact hl5 _ (Option.some.inj h).symm
   ·refine zg hn (_::_::_::_::_::(21,vb v1.2)::(22,vb false)::(23,.v undef)::(24,.v undef)::(25,vb false)::(26,vb false)::(27,.v undef)::(28,.v undef)::(29,.v undef)::(30,vb false)::[]) [0,1,2,3,4] [0,1,2,3,14] [zq [4] 5 21,zq [5] 6 22,zq [6] 7 23,zq [6] 8 24,zq [6] 9 25,zq [9] 10 26,zq [10] 11 27,zq [10] 12 28,zq [10] 13 29,zq [10] 14 30] [(_,_),(_,_),(_,_),(_,_),(_,_)] rfl ⟨z1 rfl,z8 hg2_1 rfl,zt rfl,zt rfl,z3 false rfl,z1 rfl,zt rfl,zt rfl,zt rfl,z3 false rfl,zz⟩ ?_
    exact hl5 _ (Option.some.inj h).symm
theorem ok_wherryref11_params (s : ByteArray) (kind : Int) (r : ((List T_Param) × Bool)) (h : Sh.wherryref11_params s kind = some r) : FnOK Tryz.prog 43 [.v (.string s), .v (.int .i64 kind)] (.tup [.fl (.own 47) 2 (List.flatten (List.map T_Param.enc r.1)), .v (.bool r.2)]) := by
  unfold Sh.wherryref11_params at h
  refine fn_ok func43 rfl (zl rfl) rfl rfl fun g0 hn hio => ?_
  refine zgg hn [_,_,(4,.v (.slice none 0 0)),(5,vb false)] [0,1] [0,1] [zq [] 2 4,zq [] 3 5] [(_,_),(_,_)] rfl ⟨z2 rfl,z2 rfl,zz⟩ ?_
  refine zgg hn [_,_,(6,.v (.slice none 0 0))] [0,1] [0,1,2] [zq [] 2 6] [(_,_),(_,_),(_,_)] rfl ⟨z2 rfl,zz⟩ ?_
  refine ht_seq ?_
  refine ht_sub (fs := [(0, .v (.string s)), (1, .v (.int .i64 kind)), (6, .fl (.own 47) 2 (List.flatten (List.map T_Param.enc [])))]) (.same _ (.same _ (.sub _ (sub_nil 47 2) rfl .nil))) ?_
  refine ht_loopS h (fun ((s103, s104) : ByteArray × (List T_Param)) => [(0, .v (.string s103)), (1, .v (.int .i64 kind)), (6, .fl (.own 47) 2 (List.flatten (List.map T_Param.enc s104)))]) (fun (s153 : (List T_Param)) => [(6, .fl (.own 47) 2 (List.flatten (List.map T_Param.enc s153)))]) ?_ ?_
  ·rintro s153 h
   refine pt_then ?_
   refine zgg hn [_,(62,.fl (.own 47) 2 (List.flatten (List.map T_Param.enc s153))),(4,.fl (.own 47) 2 (List.flatten (List.map T_Param.enc s153))),(5,vb true)] [0] [2,3] [⟨[],[0],[1],[(.slot 62)]⟩,⟨[],[1],[2],[(.slot 4)]⟩,zq [] 3 5] [(_,_),(_,_)] rfl ⟨zp rfl (op_move_take _ _ _ _ rfl),zp rfl (op_assign_take _ _ _ _ rfl),z2 rfl,zz⟩ ?_
   refine ht_ret ?_
   obtain rfl := Option.some.inj h
   exact pt_ret hio rfl (.tmp _ _ (.tmp _ _ .nil)) rfl rfl
  ·rintro u154 hl155 hr156 ⟨s103, s104⟩ rr159 h ho157
   refine ht_seq ?_
   refine zgg hn [_,_,_,(11,vs s103),(12,vi (s103.size : Int)),(13,vb (decide (0 < (s103.size : Int))))] [0,1,2] [0,1,2,5] [zq [0] 3 11,zq [3] 4 12,zq [4] 5 13] [(_,_),(_,_),(_,_),(_,_)] rfl ⟨z1 rfl,zp rfl (oN underlying9 rfl),z4 rfl rfl,zz⟩ ?_
   refine ht_cond _ rfl (fun hb160 => ?_) (fun hb160 => ?_)
   ·have h := cond_t hb160 h
    refine ht_skip ?_
    refine pt_then ?_
    refine ht_block ?_
    refine ht_seq ?_
    refine ht_seq ?_
    obtain ⟨v2, hv2, h⟩ := bind_some h
    refine zg hn [_,_,_,_,(14,vs s103),(15,.v (.int .u8 v2)),(16,vb (v2 != 32))] [0,1,2,3] [0,1,2,6] [zq [0] 4 14,zq [4] 5 15,zq [5] 6 16] [(_,_),(_,_),(_,_),(_,_)] rfl ⟨z1 rfl,zp rfl (op_chr _ _ _ 0 _ underlying9 rfl rfl hv2),z4 rfl rfl,zz⟩ ?_
    refine pt_then ?_
    refine ht_cond _ rfl (fun hb161 => ?_) (fun hb161 => ?_)
    ·have h := cond_t hb161 h
     refine zgg hn [_,_,_,_,(4,.v (.slice none 0 0)),(5,vb false)] [0,1,2,3] [4,5] [zq [] 4 4,zq [] 5 5] [(_,_),(_,_)] rfl ⟨z2 rfl,z2 rfl,zz⟩ ?_
     refine ht_ret ?_
     refine pt_sub (fs := [(4, .fl (.own 47) 2 (List.flatten (List.map T_Param.enc []))), (5, .v (.bool false))]) (.sub _ (sub_nil 47 2) rfl (.same _ .nil)) ?_
     refine pt_r_then ?_
     refine pt_r_in ?_
     refine pt_r_then ?_
     refine pt_r_in ?_
     refine pt_r_then ?_
     have h := hr156 _ (ho157 _ (Option.some.inj h).symm).symm
     obtain rfl := Option.some.inj h
     exact pt_ret hio rfl (.tmp _ _ (.tmp _ _ .nil)) rfl rfl
    ·have h := cond_f hb161 h
     refine ht_skip ?_
     refine pt_then (ht_seq ?_)
     obtain ⟨v4, hv4, h⟩ := bind_some h
     refine zg hn [_,_,_,_,(17,vs s103),(18,vs v4),(0,vs v4)] [0,1,2,3] [1,2,6] [zq [0] 4 17,zq [4] 5 18,⟨[5],[0],[6],[(.slot 0)]⟩] [(_,_),(_,_),(_,_)] rfl ⟨z1 rfl,zp rfl (op_substr _ _ _ 1 (s103.size : Int) _ underlying9 rfl ⟨_, rfl⟩ rfl hv4),zp rfl (LOp.drop [_] (op_assign _ _ _ _ rfl rfl)),zz⟩ ?_
     refine pt_then ?_
     refine zgg hn [_,_,_,(7,vi 0)] [0,1,2] [0,1,2,3] [zq [] 3 7] [(_,_),(_,_),(_,_),(_,_)] rfl ⟨z2 rfl,zz⟩ ?_
     refine ht_seq ?_
     refine ht_loopS h (fun (s173 : Int) => [(1, .v (.int .i64 kind)), (6, .fl (.own 47) 2 (List.flatten (List.map T_Param.enc s104))), (0, .v (.string v4)), (7, .v (.int .i64 s173))]) (fun (s179 : Int) => [(1, .v (.int .i64 kind)), (6, .fl (.own 47) 2 (List.flatten (List.map T_Param.enc s104))), (0, .v (.string v4)), (7, .v (.int .i64 s179))]) ?_ ?_
     ·rintro s179 h
      refine pt_then (ht_seq ?_)
      obtain ⟨v36, hv36, h⟩ := bind_some h
      obtain ⟨v37, hv37, h⟩ := bind_some h
      refine zg hn (_::_::_::_::(32,vs v4)::(33,vi s179)::(34,vs v36)::(35,vi kind)::(36,.tup [.agg [vs v37.1.Key,vs v37.1.Val],vb v37.2])::(31,.tup [.agg [vs v37.1.Key,vs v37.1.Val],vb v37.2])::(37,.agg [vs v37.1.Key,vs v37.1.Val])::(38,vb v37.2)::(8,.box 47 [vs z0,vs z0])::(8,.box 47 [vs v37.1.Key,vs v37.1.Val])::(9,vb v37.2)::[]) [0,1,2,3] [0,1,2,3,13,14] [zq [2] 4 32,zq [3] 5 33,zq [4,5] 6 34,zq [0] 7 35,zq [6,7] 8 36,⟨[],[8],[9],[(.slot 31)]⟩,zq [9] 10 37,zq [9] 11 38,zq [] 12 8,⟨[10],[12],[13],[.cell 8 0,.cell 8 1]⟩,zq [11] 14 9] [(_,_),(_,_),(_,_),(_,_),(_,_),(_,_)] rfl ⟨z1 rfl,z1 rfl,zp rfl (op_substr _ _ _ 0 s179 _ underlying9 rfl rfl ⟨_, rfl⟩ hv36),z1 rfl,zp rfl (op_call _ _ 57 _ _ rfl call57 rfl (ok_wherryref11_param v36 kind _ hv37) rfl rfl),zp rfl (op_move_take _ _ _ _ rfl),zp rfl (op_extract_no _ _ _ _ _ _ rfl rfl (zl rfl) rfl rfl),zp rfl (oE rfl),zp rfl (op_alloc _ _ zr47),zp rfl (oS sz47 rfl),z2 rfl,zz⟩ ?_
      refine pt_then (ht_seq ?_)
      refine zgg hn [_,_,_,_,_,_,(39,vb v37.2),(40,vb (!v37.2))] [0,1,2,3,4,5] [0,1,2,3,4,7] [zq [5] 6 39,zq [6] 7 40] [(_,_),(_,_),(_,_),(_,_),(_,_),(_,_)] rfl ⟨z1 rfl,zp rfl (op_un _ _ _ _ rfl rfl),zz⟩ ?_
      refine ht_cond _ rfl (fun hb191 => ?_) (fun hb191 => ?_)
      ·have h := cond_t hb191 h
       refine zgg hn [_,_,_,_,_,_,(4,.v (.slice none 0 0)),(5,vb false)] [0,1,2,3,4,5] [6,7] [zq [] 6 4,zq [] 7 5] [(_,_),(_,_)] rfl ⟨z2 rfl,z2 rfl,zz⟩ ?_
       refine ht_ret ?_
       refine pt_sub (fs := [(4, .fl (.own 47) 2 (List.flatten (List.map T_Param.enc []))), (5, .v (.bool false))]) (.sub _ (sub_nil 47 2) rfl (.same _ .nil)) ?_
       refine pt_r_then ?_
       refine pt_r_in ?_
       refine pt_r_then ?_
       refine pt_r_in ?_
       refine pt_r_then ?_
       have h := hr156 _ (ho157 _ (Option.some.inj h).symm).symm
       obtain rfl := Option.some.inj h
       exact pt_ret hio rfl (.tmp _ _ (.tmp _ _ .nil)) rfl rfl
      ·have h := cond_f hb191 h
       refine ht_skip ?_
       refine pt_then (ht_seq ?_)
       refine zgg hn [_,_,_,_,_,_,(10,vi 0)] [0,1,2,3,4,5] [0,1,2,3,4,6] [zq [] 6 10] [(_,_),(_,_),(_,_),(_,_),(_,_),(_,_)] rfl ⟨z2 rfl,zz⟩ ?_
       refine ht_loopS h (fun (s197 : Int) => [(1, .v (.int .i64 kind)), (6, .fl (.own 47) 2 (List.flatten (List.map T_Param.enc s104))), (0, .v (.string v4)), (7, .v (.int .i64 s179)), (8, .box 47 [.v (.string v37.1.Key), .v (.string v37.1.Val)]), (10, .v (.int .i64 s197))]) (fun (() : Unit) => [(1, .v (.int .i64 kind)), (6, .fl (.own 47) 2 (List.flatten (List.map T_Param.enc s104))), (0, .v (.string v4)), (7, .v (.int .i64 s179)), (8, .box 47 [.v (.string v37.1.Key), .v (.string v37.1.Val)])]) ?_ ?_
       ·rintro ⟨⟩ h
        refine pt_then (ht_seq ?_)
        obtain ⟨v48, hv48, h⟩ := bind_some h
        refine zg hn [_,_,_,_,_,(55,.fl (.own 47) 2 (List.flatten (List.map T_Param.enc s104))),(56,.agg [vs v37.1.Key,vs v37.1.Val]),(57,.fl (.own 47) 2 (List.flatten (List.map T_Param.enc [v37.1]))),(58,.fl (.own 47) 2 (List.flatten (List.map T_Param.enc v48))),(55,.any),(6,.fl (.own 47) 2 (List.flatten (List.map T_Param.enc v48)))] [0,1,2,3,4] [0,2,3,10] [⟨[],[1],[5],[(.slot 55)]⟩,zq [4] 6 56,zq [6] 7 57,⟨[7],[5],[9,8],[(.slot 58)]⟩,⟨[],[8],[10],[(.slot 6)]⟩] [(_,_),(_,_),(_,_),(_,_)] rfl ⟨zp rfl (op_move_take _ _ _ _ rfl),zp rfl (op_loadA _ _ _ _ _ _ _ underlying47 rfl sz47 rfl rfl (zl rfl) rfl rfl),zp rfl (op_buildSlice _ _ 2 (.agg #[.string ByteArray.empty, .string ByteArray.empty]) (List.flatten (List.map T_Param.enc [v37.1])) [(0, .agg #[.string v37.1.Key, .string v37.1.Val])] underlying24 sz47 zr47 (fun _ V w o a hv hes => by have e0 := agg_v (ys := [.string v37.1.Key, .string v37.1.Val]) hv hes (x := .tmp 56) rfl; simp only [List.map_toArray, List.map_cons, List.map_nil, e0]; try rfl) (litfill (by simp [Instr.fill, Value.cells]; rfl) (by simp [List.range, List.range.loop, T_Param.enc] <;> rfl)) (by simp [Value.oneCell', T_Param.enc]) rfl (by decide) (by decide) (by decide)),zp rfl (op_app _ _ _ _ _ el24 rfl rfl (flat_len T_Param.len _) (flat_len T_Param.len _) hv48 (flat_app (app_eq hv48))),zp rfl (op_assign_take _ _ _ _ rfl),zz⟩ ?_
        refine pt_then ?_
        obtain ⟨v49, hv49, h⟩ := bind_some h
        refine zg hn [_,_,_,_,(59,vs v4),(60,vi s179),(61,vs v49),(0,vs v49)] [0,1,2,3] [0,3,7] [zq [1] 4 59,zq [2] 5 60,zq [4,5] 6 61,⟨[6],[1],[7],[(.slot 0)]⟩] [(_,_),(_,_),(_,_)] rfl ⟨z1 rfl,z1 rfl,zp rfl (op_substr _ _ _ s179 (v4.size : Int) _ underlying9 rfl ⟨_, rfl⟩ rfl hv49),zp rfl (LOp.drop [_] (op_assign _ _ _ _ rfl rfl)),zz⟩ ?_
        refine pt_inb ?_
        refine pt_pick [2, 0, 1] (by kernel_rfl) (es' := [(_,_),(_,_),(_,_)]) rfl ?_
        exact pt_next _ (Option.some.inj h).symm rfl
       ·rintro u200 hl201 hr202 s197 rr205 h ho203
        refine ht_seq ?_
        refine zgg hn [_,_,_,_,_,_,(41,vi s197),(42,.same (.slot 6)),(43,vi (s104.length : Int)),(44,vb (decide (s197 < (s104.length : Int))))] [0,1,2,3,4,5] [0,1,2,3,4,5,9] [zq [5] 6 41,zq [1] 7 42,zq [7,1] 8 43,zq [6,8] 9 44] [(_,_),(_,_),(_,_),(_,_),(_,_),(_,_),(_,_)] rfl ⟨z1 rfl,z1 rfl,zp rfl (op_len_fl _ _ _ underlying24 rfl (by decide) (flat_len T_Param.len _)),z4 rfl rfl,zz⟩ ?_
        refine ht_cond _ rfl (fun hb206 => ?_) (fun hb206 => ?_)
        ·have h := cond_t hb206 h
         refine ht_skip ?_
         refine pt_then (ht_seq ?_)
         refine ht_block ?_
         refine ht_seq ?_
         obtain ⟨v85, hv85, h⟩ := bind_some h
         obtain ⟨v86, hv86, h⟩ := bind_some h
         refine ht_anyR (by kernel_rfl) hn (El := (_ :: _ :: _ :: _ :: _ :: _ :: _ :: (47, .same (.slot 6)) :: (48, .v (.int .i64 s197)) :: (49, .eref (.slot 6) (v85 * 2)) :: (50, .eref (.slot 6) (v85 * 2 + 0)) :: (51, .v (.string v86.Key)) :: (52, .ptr 8 0) :: (53, .v (.string v37.1.Key)) :: (54, .v (.bool (v86.Key.toList == v37.1.Key.toList))) :: [])) (init := [0, 1, 2, 3, 4, 5, 6]) (fin := [0, 1, 2, 3, 4, 5, 14]) (sps := [zq [1] 7 47, zq [5] 8 48, zq [7,1,8] 9 49, zq [9,1] 10 50, zq [10,1] 11 51, zq [4] 12 52, zq [12,4] 13 53, zq [11,13] 14 54]) (es' := [(_,_),(_,_),(_,_),(_,_),(_,_),(_,_),(54, .v (.bool (v86.Key.toList == v37.1.Key.toList)))]) (by kernel_rfl) rfl rfl ⟨z1 rfl,z1 rfl,zp rfl (op_ix _ _ _ _ _ _ _ _ underlying24 sz47 (by decide) rfl rfl rfl (ix_ok hv85).1 (flat_lt T_Param.len (ix_ok hv85).2) rfl),zp rfl (op_fieldAddr_e _ _ _ _ _ _ _ underlying47 rfl sz9 rfl rfl rfl),zp rfl (op_load_e _ _ _ _ _ _ underlying9 rfl rfl rfl (flat_cell T_Param.len hv86 rfl)),zp rfl (oF underlying47 rfl sz9),zp rfl (oL underlying9 rfl),z4 rfl rfl,zz⟩ ?_
         refine pt_then ?_
         refine ht_cond _ rfl (fun hb207 => ?_) (fun hb207 => ?_)
         ·have h := cond_t hb207 h
          refine zgg hn [_,_,_,_,_,_,_,(4,.v (.slice none 0 0)),(5,vb false)] [0,1,2,3,4,5,6] [7,8] [zq [] 7 4,zq [] 8 5] [(_,_),(_,_)] rfl ⟨z2 rfl,z2 rfl,zz⟩ ?_
          refine ht_ret ?_
          refine pt_sub (fs := [(4, .fl (.own 47) 2 (List.flatten (List.map T_Param.enc []))), (5, .v (.bool false))]) (.sub _ (sub_nil 47 2) rfl (.same _ .nil)) ?_
          refine pt_r_in ?_
          refine pt_r_then ?_
          refine pt_r_then ?_
          refine pt_r_in ?_
          refine pt_r_then ?_
          refine pt_r_in ?_
          refine pt_r_then ?_
          refine pt_r_in ?_
          refine pt_r_then ?_
          have h := hr202 _ (ho203 _ (Option.some.inj h).symm).symm
          have h := hr156 _ (ho157 _ (Option.some.inj h).symm).symm
          obtain rfl := Option.some.inj h
          exact pt_ret hio rfl (.tmp _ _ (.tmp _ _ .nil)) rfl rfl
         ·have h := cond_f hb207 h
          refine ht_skip ?_
          refine pt_inb ?_
          refine pt_then ?_
          obtain ⟨v88, hv88, h⟩ := bind_some h
          refine zg hn [_,_,_,_,_,_,_,(45,vi s197),(46,vi v88),(10,vi v88)] [0,1,2,3,4,5,6] [0,1,2,3,4,9] [zq [5] 7 45,zq [7] 8 46,⟨[8],[5],[9],[(.slot 10)]⟩] [(_,_),(_,_),(_,_),(_,_),(_,_),(_,_)] rfl ⟨z1 rfl,zp rfl (oB rfl (ibind (f := Value.int .i64) (Option.some.inj hv88))),zp rfl (LOp.drop [_] (op_assign _ _ _ _ rfl rfl)),zz⟩ ?_
          exact pt_next _ (Option.some.inj h).symm rfl
        ·have h := cond_f hb206 h
         refine ht_exit ?_
         refine pt_x_then ?_
         refine pt_x_then ?_
         refine pt_x_in ?_
         refine pt_pick [0, 1, 2, 3, 4] (by kernel_rfl) (es' := [(_,_),(_,_),(_,_),(_,_),(_,_)]) rfl ?_
         exact hl201 _ (ho203 _ (Option.some.inj h).symm).symm
     ·rintro u180 hl181 hr182 s173 rr185 h ho183
      refine ht_seq ?_
      refine ht_seq ?_
      refine ht_joinS h (fun (s186 : Bool) => [(1, .v (.int .i64 kind)), (6, .fl (.own 47) 2 (List.flatten (List.map T_Param.enc s104))), (0, .v (.string v4)), (7, .v (.int .i64 s173)), (28, .v (.bool s186))]) ?_ ?_
      ·rintro s186 h
       refine pt_then ?_
       refine ht_cond _ rfl (fun hb190 => ?_) (fun hb190 => ?_)
       ·have h := cond_t hb190 h
        refine ht_skip ?_
        refine pt_then ?_
        refine ht_block ?_
        obtain ⟨v11, hv11, h⟩ := bind_some h
        refine zg hn [_,_,_,_,_,(29,vi s173),(30,vi v11),(7,vi v11)] [0,1,2,3,4] [0,1,2,7] [zq [3] 5 29,zq [5] 6 30,⟨[6],[3],[7],[(.slot 7)]⟩] [(_,_),(_,_),(_,_),(_,_)] rfl ⟨z1 rfl,zp rfl (oB rfl (ibind (f := Value.int .i64) (Option.some.inj hv11))),zp rfl (LOp.drop [_] (op_assign _ _ _ _ rfl rfl)),zz⟩ ?_
        refine pt_inb ?_
        exact pt_next _ (Option.some.inj h).symm rfl
       ·have h := cond_f hb190 h
        refine ht_exit ?_
        refine pt_x_then ?_
        refine pt_x_then ?_
        refine pt_x_in ?_
        refine pt_pick [0, 1, 2, 3] (by kernel_rfl) (es' := [(_,_),(_,_),(_,_),(_,_)]) rfl ?_
        exact hl181 _ (ho183 _ (Option.some.inj h).symm).symm
      ·intro u187 h hl188 hr189
       refine cond_some h (fun hg7_4 h => ?_) (fun hg7_4 h => ?_)
       ·obtain ⟨v5, hv5, h⟩ := bind_some h
        refine zg hn [_,_,_,_,(19,vi s173),(20,vs v4),(21,vi (v4.size : Int)),(22,vb (decide (s173 < (v4.size : Int)))),(23,vb true),(24,vs v4),(25,vi s173),(26,.v (.int .u8 v5)),(27,vb (v5 != 32)),(28,vb (v5 != 32))] [0,1,2,3] [0,1,2,3,13] [zq [3] 4 19,zq [2] 5 20,zq [5] 6 21,zq [4,6] 7 22,zq [7] 8 23,zq [8,2] 9 24,zq [8,3] 10 25,zq [8,9,10] 11 26,zq [8,11] 12 27,zq [8,12] 13 28] [(_,_),(_,_),(_,_),(_,_),(_,_)] rfl ⟨z1 rfl,z1 rfl,zp rfl (oN underlying9 rfl),z4 rfl rfl,z8 hg7_4 rfl,zr' rfl (oM rfl),zr' rfl (oM rfl),zr' rfl (op_chr _ _ _ s173 _ underlying9 rfl rfl hv5),zr' rfl (oB rfl rfl),z3 true rfl,zz⟩ ?_
        exact hl188 _ (Option.some.inj h).symm
       ·refine zg hn [_,_,_,_,(19,vi s173),(20,vs v4),(21,vi (v4.size : Int)),(22,vb (decide (s173 < (v4.size : Int)))),(23,vb false),(24,.v undef),(25,.v undef),(26,.v undef),(27,.v undef),(28,vb false)] [0,1,2,3] [0,1,2,3,13] [zq [3] 4 19,zq [2] 5 20,zq [5] 6 21,zq [4,6] 7 22,zq [7] 8 23,zq [8] 9 24,zq [8] 10 25,zq [8] 11 26,zq [8] 12 27,zq [8] 13 28] [(_,_),(_,_),(_,_),(_,_),(_,_)] rfl ⟨z1 rfl,z1 rfl,zp rfl (oN underlying9 rfl),z4 rfl rfl,z8 hg7_4 rfl,zt rfl,zt rfl,zt rfl,zt rfl,z3 false rfl,zz⟩ ?_
        exact hl188 _ (Option.some.inj h).symm
   ·have h := cond_f hb160 h
    refine ht_exit ?_
    refine pt_x_then ?_
    refine pt_x_then ?_
    refine pt_x_in ?_
    refine pt_pick [2] (by kernel_rfl) (es' := [(_,_)]) rfl ?_
    exact hl155 _ (ho157 _ (Option.some.inj h).symm).symm
theorem ok_wherryref11_pathed (s : ByteArray) (kind : Int) (r : (T_Cmd × Int)) (h : Sh.wherryref11_pathed s kind = some r) : FnOK Tryz.prog 26 [.v (.string s), .v (.int .i64 kind)] (.tup [.agg [.v (.int .i64 r.1.Kind), .v (.string r.1.Text), .v (.bool r.1.Path.Null), .v (.string r.1.Path.Local), .v (.string r.1.Path.Domain), .fl (.own 47) 2 (List.flatten (List.map T_Param.enc r.1.Params))], .v (.int .i64 r.2)]) := by
  unfold Sh.wherryref11_pathed at h
  refine fn_ok func26 rfl (zl rfl) rfl rfl fun g0 hn hio => ?_
  refine zgg hn [_,_,(4,.box 26 [vi 0,vs z0,vb false,vs z0,vs z0,.v (.slice none 0 0)]),(5,vi 0)] [0,1] [0,1,2] [zq [] 2 4,zq [] 3 5] [(_,_),(_,_),(_,_)] rfl ⟨zp rfl (op_alloc _ _ zr26),z2 rfl,zz⟩ ?_
  refine zgg hn [_,_,_,(6,vi 0)] [0,1,2] [0,1,2,3] [zq [] 3 6] [(_,_),(_,_),(_,_),(_,_)] rfl ⟨z2 rfl,zz⟩ ?_
  refine ht_seq ?_
  refine ht_loopS h (fun (s14 : Int) => [(0, .v (.string s)), (1, .v (.int .i64 kind)), (4, .box 26 [.v (.int .i64 0), .v (.string (⟨#[]⟩ : ByteArray)), .v (.bool false), .v (.string (⟨#[]⟩ : ByteArray)), .v (.string (⟨#[]⟩ : ByteArray)), .v (.slice none 0 0)]), (6, .v (.int .i64 s14))]) (fun (s20 : Int) => [(0, .v (.string s)), (1, .v (.int .i64 kind)), (4, .box 26 [.v (.int .i64 0), .v (.string (⟨#[]⟩ : ByteArray)), .v (.bool false), .v (.string (⟨#[]⟩ : ByteArray)), .v (.string (⟨#[]⟩ : ByteArray)), .v (.slice none 0 0)]), (6, .v (.int .i64 s20))]) ?_ ?_
  ·rintro s20 h
   refine pt_then (ht_seq ?_)
   refine zgg hn [_,_,_,_,(23,vi s20),(24,vs s),(25,vi (s.size : Int)),(26,vb (s20 == (s.size : Int)))] [0,1,2,3] [0,1,2,3,7] [zq [3] 4 23,zq [0] 5 24,zq [5] 6 25,zq [4,6] 7 26] [(_,_),(_,_),(_,_),(_,_),(_,_)] rfl ⟨z1 rfl,z1 rfl,zp rfl (oN underlying9 rfl),z4 rfl rfl,zz⟩ ?_
   refine ht_cond _ rfl (fun hb32 => ?_) (fun hb32 => ?_)
   ·have h := cond_t hb32 h
    refine zgg hn [_,_,_,_,_,(27,.agg [vi 0,vs z0,vb false,vs z0,vs z0,.v (.slice none 0 0)]),(4,.box 26 [vi 0,vs z0,vb false,vs z0,vs z0,.v (.slice none 0 0)]),(5,vi 501)] [0,1,2,3,4] [6,7] [zq [] 5 27,⟨[],[5,2],[6],[.cell 4 0,.cell 4 1,.cell 4 2,.cell 4 3,.cell 4 4,.cell 4 5]⟩,zq [] 7 5] [(_,_),(_,_)] rfl ⟨zp rfl (op_build _ _ _ _ [1, 1, 3, 1] _ _ underlying26 zr26 (fs26 _ underlying26) Src.nil rfl rfl rfl),zp rfl (op_store_self _ _ _ 27 4 6 sz26 rfl rfl rfl rfl rfl (.eq _ (.eq _ (.eq _ (.eq _ (.eq _ (.eq _ (.nil _))))))) rfl),z2 rfl,zz⟩ ?_
    refine ht_ret ?_
    refine pt_sub (fs := [(4, .box 26 [.v (.int .i64 0), .v (.string (⟨#[]⟩ : ByteArray)), .v (.bool false), .v (.string (⟨#[]⟩ : ByteArray)), .v (.string (⟨#[]⟩ : ByteArray)), .fl (.own 47) 2 (List.flatten (List.map T_Param.enc []))]), (5, .v (.int .i64 501))]) (.box _ _ (subs_cons (sub_refl _) (subs_cons (sub_refl _) (subs_cons (sub_refl _) (subs_cons (sub_refl _) (subs_cons (sub_refl _) (subs_cons (sub_nil 47 2) (subs_nil))))))) rfl (.same _ .nil)) ?_
    refine pt_r_then ?_
    obtain rfl := Option.some.inj h
    exact pt_ret hio rfl (.cellA _ _ _ _ underlying26 rfl sz26 (.tmp _ _ .nil)) rfl rfl
   ·have h := cond_f hb32 h
    refine ht_skip ?_
    refine pt_then (ht_seq ?_)
    obtain ⟨v33, hv33, h⟩ := bind_some h
    obtain ⟨v34, hv34, h⟩ := bind_some h
    obtain ⟨v35, hv35, h⟩ := bind_some h
    refine zg hn (_::_::_::_::_::(29,vs s)::(30,vi s20)::(31,vi v33)::(32,vs v34)::(33,.tup [.agg [vb v35.1.Null,vs v35.1.Local,vs v35.1.Domain],vb v35.2])::(28,.tup [.agg [vb v35.1.Null,vs v35.1.Local,vs v35.1.Domain],vb v35.2])::(34,.agg [vb v35.1.Null,vs v35.1.Local,vs v35.1.Domain])::(35,vb v35.2)::(7,.box 23 [vb false,vs z0,vs z0])::(7,.box 23 [vb v35.1.Null,vs v35.1.Local,vs v35.1.Domain])::(8,vb v35.2)::[]) [0,1,2,3,4] [0,1,2,3,14,15] [zq [0] 5 29,zq [3] 6 30,zq [6] 7 31,zq [5,7] 8 32,zq [8] 9 33,⟨[],[9],[10],[(.slot 28)]⟩,zq [10] 11 34,zq [10] 12 35,zq [] 13 7,⟨[11],[13],[14],[.cell 7 0,.cell 7 1,.cell 7 2]⟩,zq [12] 15 8] [(_,_),(_,_),(_,_),(_,_),(_,_),(_,_)] rfl ⟨z1 rfl,z1 rfl,zp rfl (oB rfl (ibind (f := Value.int .i64) (Option.some.inj hv33))),zp rfl (op_substr _ _ _ 0 v33 _ underlying9 rfl rfl ⟨_, rfl⟩ hv34),zp rfl (op_call _ _ 42 _ _ rfl call42 rfl (ok_wherryref11_Parse v34 _ hv35) rfl rfl),zp rfl (op_move_take _ _ _ _ rfl),zp rfl (op_extract_no _ _ _ _ _ _ rfl rfl (zl rfl) rfl rfl),zp rfl (oE rfl),zp rfl (op_alloc _ _ zr23),zp rfl (oS sz23 rfl),z2 rfl,zz⟩ ?_
    refine pt_then (ht_seq ?_)
    obtain ⟨v36, hv36, h⟩ := bind_some h
    obtain ⟨v37, hv37, h⟩ := bind_some h
    obtain ⟨v38, hv38, h⟩ := bind_some h
    refine zg hn (_::_::_::_::_::_::(37,vs s)::(38,vi s20)::(39,vi v36)::(40,vs v37)::(41,vi kind)::(42,.tup [.fl (.own 47) 2 (List.flatten (List.map T_Param.enc v38.1)),vb v38.2])::(36,.tup [.fl (.own 47) 2 (List.flatten (List.map T_Param.enc v38.1)),vb v38.2])::(43,.fl (.own 47) 2 (List.flatten (List.map T_Param.enc v38.1)))::(36,.tup [.any,vb v38.2])::(44,vb v38.2)::(9,.fl (.own 47) 2 (List.flatten (List.map T_Param.enc v38.1)))::(10,vb v38.2)::[]) [0,1,2,3,4,5] [1,2,4,5,16,17] [zq [0] 6 37,zq [3] 7 38,zq [7] 8 39,zq [6,8] 9 40,zq [1] 10 41,zq [9,10] 11 42,⟨[],[11],[12],[(.slot 36)]⟩,⟨[],[12],[14,13],[(.slot 43)]⟩,zq [14] 15 44,⟨[],[13],[16],[(.slot 9)]⟩,zq [15] 17 10] [(_,_),(_,_),(_,_),(_,_),(_,_),(_,_)] rfl ⟨z1 rfl,z1 rfl,zp rfl (oB rfl (ibind (f := Value.int .i64) (Option.some.inj hv36))),zp rfl (op_substr _ _ _ v36 (s.size : Int) _ underlying9 rfl ⟨_, rfl⟩ rfl hv37),z1 rfl,zp rfl (op_call _ _ 43 _ _ rfl call43 rfl (ok_wherryref11_params v37 kind _ hv38) rfl rfl),zp rfl (op_move_take _ _ _ _ rfl),zp rfl (op_extract_take _ _ _ _ _ rfl (zl rfl) rfl rfl (by decide) rfl),zp rfl (oE rfl),zp rfl (op_assign_take _ _ _ _ rfl),z2 rfl,zz⟩ ?_
    refine pt_then (ht_seq ?_)
    refine ht_seq ?_
    refine ht_joinS h (fun (s39 : Bool) => [(1, .v (.int .i64 kind)), (4, .box 26 [.v (.int .i64 0), .v (.string (⟨#[]⟩ : ByteArray)), .v (.bool false), .v (.string (⟨#[]⟩ : ByteArray)), .v (.string (⟨#[]⟩ : ByteArray)), .v (.slice none 0 0)]), (7, .box 23 [.v (.bool v35.1.Null), .v (.string v35.1.Local), .v (.string v35.1.Domain)]), (9, .fl (.own 47) 2 (List.flatten (List.map T_Param.enc v38.1))), (58, .v (.bool s39))]) ?_ ?_
    ·rintro s39 h
     refine pt_then ?_
     refine ht_cond _ rfl (fun hb43 => ?_) (fun hb43 => ?_)
     ·have h := cond_t hb43 h
      refine zgg hn [_,_,_,_,_,(59,.agg [vi 0,vs z0,vb false,vs z0,vs z0,.v (.slice none 0 0)]),(4,.box 26 [vi 0,vs z0,vb false,vs z0,vs z0,.v (.slice none 0 0)]),(5,vi 501)] [0,1,2,3,4] [6,7] [zq [] 5 59,⟨[],[5,1],[6],[.cell 4 0,.cell 4 1,.cell 4 2,.cell 4 3,.cell 4 4,.cell 4 5]⟩,zq [] 7 5] [(_,_),(_,_)] rfl ⟨zp rfl (op_build _ _ _ _ [1, 1, 3, 1] _ _ underlying26 zr26 (fs26 _ underlying26) Src.nil rfl rfl rfl),zp rfl (op_store_self _ _ _ 59 4 6 sz26 rfl rfl rfl rfl rfl (.eq _ (.eq _ (.eq _ (.eq _ (.eq _ (.eq _ (.nil _))))))) rfl),z2 rfl,zz⟩ ?_
      refine ht_ret ?_
      refine pt_sub (fs := [(4, .box 26 [.v (.int .i64 0), .v (.string (⟨#[]⟩ : ByteArray)), .v (.bool false), .v (.string (⟨#[]⟩ : ByteArray)), .v (.string (⟨#[]⟩ : ByteArray)), .fl (.own 47) 2 (List.flatten (List.map T_Param.enc []))]), (5, .v (.int .i64 501))]) (.box _ _ (subs_cons (sub_refl _) (subs_cons (sub_refl _) (subs_cons (sub_refl _) (subs_cons (sub_refl _) (subs_cons (sub_refl _) (subs_cons (sub_nil 47 2) (subs_nil))))))) rfl (.same _ .nil)) ?_
      refine pt_r_then ?_
      obtain rfl := Option.some.inj h
      exact pt_ret hio rfl (.cellA _ _ _ _ underlying26 rfl sz26 (.tmp _ _ .nil)) rfl rfl
     ·have h := cond_f hb43 h
      refine ht_skip ?_
      refine pt_then ?_
      refine zgg hn [_,_,_,_,_,(60,vi kind),(61,.agg [vb v35.1.Null,vs v35.1.Local,vs v35.1.Domain]),(62,.fl (.own 47) 2 (List.flatten (List.map T_Param.enc v38.1))),(63,.agg [vi kind,vs z0,vb v35.1.Null,vs v35.1.Local,vs v35.1.Domain,.fl (.own 47) 2 (List.flatten (List.map T_Param.enc v38.1))]),(4,.box 26 [vi kind,vs z0,vb v35.1.Null,vs v35.1.Local,vs v35.1.Domain,.fl (.own 47) 2 (List.flatten (List.map T_Param.enc v38.1))]),(5,vi 0)] [0,1,2,3,4] [9,10] [zq [0] 5 60,zq [2] 6 61,⟨[],[3],[7],[(.slot 62)]⟩,⟨[5,6],[7],[8],[(.slot 63)]⟩,⟨[],[8,1],[9],[.cell 4 0,.cell 4 1,.cell 4 2,.cell 4 3,.cell 4 4,.cell 4 5]⟩,zq [] 10 5] [(_,_),(_,_)] rfl ⟨z1 rfl,zp rfl (op_loadA _ _ _ _ _ _ _ underlying23 rfl sz23 rfl rfl (zl rfl) rfl rfl),zp rfl (op_move_take _ _ _ _ rfl),zp rfl (op_build _ _ _ _ [1, 1, 3, 1] _ _ underlying26 zr26 (fs26 _ underlying26) (.copy _ (.copy _ (.take _ _ Src.nil))) rfl rfl rfl),zp rfl (op_store_take _ _ _ _ _ _ _ _ sz26 rfl rfl rfl (zl rfl) rfl rfl),z2 rfl,zz⟩ ?_
      refine ht_ret ?_
      obtain rfl := Option.some.inj h
      exact pt_ret hio rfl (.cellA _ _ _ _ underlying26 rfl sz26 (.tmp _ _ .nil)) rfl rfl
    ·intro u40 h hl41 hr42
     refine cond_some h (fun hg8_2 h => ?_) (fun hg8_2 h => ?_)
     ·refine zg hn (_::_::_::_::_::_::(45,vb v35.2)::(46,vb (!v35.2))::(47,vb true)::(48,.v undef)::(49,.v undef)::(50,vb true)::(51,vb true)::(52,.v undef)::(53,.v undef)::(54,.v undef)::(55,.v undef)::(56,.v undef)::(57,.v undef)::(58,vb true)::[]) [0,1,2,3,4,5] [0,1,2,4,19] [zq [3] 6 45,zq [6] 7 46,zq [7] 8 47,zq [8] 9 48,zq [8] 10 49,zq [8] 11 50,zq [11] 12 51,zq [12] 13 52,zq [12] 14 53,zq [12] 15 54,zq [15] 16 55,zq [15] 17 56,zq [12] 18 57,zq [12] 19 58] [(_,_),(_,_),(_,_),(_,_),(_,_)] rfl ⟨z1 rfl,zp rfl (op_un _ _ _ _ rfl rfl),z8 hg8_2 rfl,zf rfl,zf rfl,z3 true rfl,z1 rfl,zf rfl,zf rfl,zf rfl,zu' rfl,zu' rfl,zf rfl,z3 true rfl,zz⟩ ?_
      exact hl41 _ (Option.some.inj h).symm
     ·refine cond_some h (fun hg8_6 h => ?_) (fun hg8_6 h => ?_)
      ·refine zg hn (_::_::_::_::_::_::(45,vb v35.2)::(46,vb (!v35.2))::(47,vb false)::(48,vb v38.2)::(49,vb (!v38.2))::(50,vb (!v38.2))::(51,vb true)::(52,.v undef)::(53,.v undef)::(54,.v undef)::(55,.v undef)::(56,.v undef)::(57,.v undef)::(58,vb true)::[]) [0,1,2,3,4,5] [0,1,2,4,19] [zq [3] 6 45,zq [6] 7 46,zq [7] 8 47,zq [8,5] 9 48,zq [8,9] 10 49,zq [8,10] 11 50,zq [11] 12 51,zq [12] 13 52,zq [12] 14 53,zq [12] 15 54,zq [15] 16 55,zq [15] 17 56,zq [12] 18 57,zq [12] 19 58] [(_,_),(_,_),(_,_),(_,_),(_,_)] rfl ⟨z1 rfl,zp rfl (op_un _ _ _ _ rfl rfl),z8 hg8_2 rfl,zr' rfl (oM rfl),zr' rfl (op_un _ _ _ _ rfl rfl),z3 false rfl,z8 hg8_6 rfl,zf rfl,zf rfl,zf rfl,zu' rfl,zu' rfl,zf rfl,z3 true rfl,zz⟩ ?_
       exact hl41 _ (Option.some.inj h).symm
      ·refine cond_some h (fun hg8_9 h => ?_) (fun hg8_9 h => ?_)
       ·refine zg hn (_::_::_::_::_::_::(45,vb v35.2)::(46,vb (!v35.2))::(47,vb false)::(48,vb v38.2)::(49,vb (!v38.2))::(50,vb (!v38.2))::(51,vb false)::(52,vi kind)::(53,vb (kind == 3))::(54,vb true)::(55,.ptr 7 0)::(56,vb v35.1.Null)::(57,vb v35.1.Null)::(58,vb v35.1.Null)::[]) [0,1,2,3,4,5] [0,1,2,4,19] [zq [3] 6 45,zq [6] 7 46,zq [7] 8 47,zq [8,5] 9 48,zq [8,9] 10 49,zq [8,10] 11 50,zq [11] 12 51,zq [12,0] 13 52,zq [12,13] 14 53,zq [12,14] 15 54,zq [15,2] 16 55,zq [15,16,2] 17 56,zq [12,15,17] 18 57,zq [12,18] 19 58] [(_,_),(_,_),(_,_),(_,_),(_,_)] rfl ⟨z1 rfl,zp rfl (op_un _ _ _ _ rfl rfl),z8 hg8_2 rfl,zr' rfl (oM rfl),zr' rfl (op_un _ _ _ _ rfl rfl),z3 false rfl,z8 hg8_6 rfl,zr' rfl (oM rfl),zr' rfl (oB rfl rfl),zr' rfl (op_move _ _ _ _ (zb hg8_9) rfl),zr' rfl (oF underlying23 rfl sz4),zr' rfl (oL underlying4 rfl),zr' rfl (op_pick _ _ true _ rfl rfl),z3 false rfl,zz⟩ ?_
        exact hl41 _ (Option.some.inj h).symm
       ·refine zg hn (_::_::_::_::_::_::(45,vb v35.2)::(46,vb (!v35.2))::(47,vb false)::(48,vb v38.2)::(49,vb (!v38.2))::(50,vb (!v38.2))::(51,vb false)::(52,vi kind)::(53,vb (kind == 3))::(54,vb false)::(55,.v undef)::(56,.v undef)::(57,vb false)::(58,vb false)::[]) [0,1,2,3,4,5] [0,1,2,4,19] [zq [3] 6 45,zq [6] 7 46,zq [7] 8 47,zq [8,5] 9 48,zq [8,9] 10 49,zq [8,10] 11 50,zq [11] 12 51,zq [12,0] 13 52,zq [12,13] 14 53,zq [12,14] 15 54,zq [15] 16 55,zq [15] 17 56,zq [12,15] 18 57,zq [12,18] 19 58] [(_,_),(_,_),(_,_),(_,_),(_,_)] rfl ⟨z1 rfl,zp rfl (op_un _ _ _ _ rfl rfl),z8 hg8_2 rfl,zr' rfl (oM rfl),zr' rfl (op_un _ _ _ _ rfl rfl),z3 false rfl,z8 hg8_6 rfl,zr' rfl (oM rfl),zr' rfl (oB rfl rfl),zr' rfl (op_move _ _ _ _ (zb hg8_9) rfl),zt rfl,zt rfl,zr' rfl (op_pick _ _ false _ rfl rfl),z3 false rfl,zz⟩ ?_
        exact hl41 _ (Option.some.inj h).symm
  ·rintro u21 hl22 hr23 s14 rr26 h ho24
   refine ht_seq ?_
   refine ht_seq ?_
   refine ht_joinS h (fun (s27 : Bool) => [(0, .v (.string s)), (1, .v (.int .i64 kind)), (4, .box 26 [.v (.int .i64 0), .v (.string (⟨#[]⟩ : ByteArray)), .v (.bool false), .v (.string (⟨#[]⟩ : ByteArray)), .v (.string (⟨#[]⟩ : ByteArray)), .v (.slice none 0 0)]), (6, .v (.int .i64 s14)), (20, .v (.bool s27))]) ?_ ?_
   ·rintro s27 h
    refine pt_then ?_
    refine ht_cond _ rfl (fun hb31 => ?_) (fun hb31 => ?_)
    ·have h := cond_t hb31 h
     refine ht_skip ?_
     refine pt_then ?_
     refine ht_block ?_
     obtain ⟨v7, hv7, h⟩ := bind_some h
     refine zg hn [_,_,_,_,_,(21,vi s14),(22,vi v7),(6,vi v7)] [0,1,2,3,4] [0,1,2,7] [zq [3] 5 21,zq [5] 6 22,⟨[6],[3],[7],[(.slot 6)]⟩] [(_,_),(_,_),(_,_),(_,_)] rfl ⟨z1 rfl,zp rfl (oB rfl (ibind (f := Value.int .i64) (Option.some.inj hv7))),zp rfl (LOp.drop [_] (op_assign _ _ _ _ rfl rfl)),zz⟩ ?_
     refine pt_inb ?_
     exact pt_next _ (Option.some.inj h).symm rfl
    ·have h := cond_f hb31 h
     refine ht_exit ?_
     refine pt_x_then ?_
     refine pt_x_then ?_
     refine pt_x_in ?_
     refine pt_pick [0, 1, 2, 3] (by kernel_rfl) (es' := [(_,_),(_,_),(_,_),(_,_)]) rfl ?_
     exact hl22 _ (ho24 _ (Option.some.inj h).symm).symm
   ·intro u28 h hl29 hr30
    refine cond_some h (fun hg2_4 h => ?_) (fun hg2_4 h => ?_)
    ·obtain ⟨v1, hv1, h⟩ := bind_some h
     refine zg hn [_,_,_,_,(11,vi s14),(12,vs s),(13,vi (s.size : Int)),(14,vb (decide (s14 < (s.size : Int)))),(15,vb true),(16,vs s),(17,vi s14),(18,.v (.int .u8 v1)),(19,vb (v1 != 62)),(20,vb (v1 != 62))] [0,1,2,3] [0,1,2,3,13] [zq [3] 4 11,zq [0] 5 12,zq [5] 6 13,zq [4,6] 7 14,zq [7] 8 15,zq [8,0] 9 16,zq [8,3] 10 17,zq [8,9,10] 11 18,zq [8,11] 12 19,zq [8,12] 13 20] [(_,_),(_,_),(_,_),(_,_),(_,_)] rfl ⟨z1 rfl,z1 rfl,zp rfl (oN underlying9 rfl),z4 rfl rfl,z8 hg2_4 rfl,zr' rfl (oM rfl),zr' rfl (oM rfl),zr' rfl (op_chr _ _ _ s14 _ underlying9 rfl rfl hv1),zr' rfl (oB rfl rfl),z3 true rfl,zz⟩ ?_
     exact hl29 _ (Option.some.inj h).symm
    ·refine zg hn [_,_,_,_,(11,vi s14),(12,vs s),(13,vi (s.size : Int)),(14,vb (decide (s14 < (s.size : Int)))),(15,vb false),(16,.v undef),(17,.v undef),(18,.v undef),(19,.v undef),(20,vb false)] [0,1,2,3] [0,1,2,3,13] [zq [3] 4 11,zq [0] 5 12,zq [5] 6 13,zq [4,6] 7 14,zq [7] 8 15,zq [8] 9 16,zq [8] 10 17,zq [8] 11 18,zq [8] 12 19,zq [8] 13 20] [(_,_),(_,_),(_,_),(_,_),(_,_)] rfl ⟨z1 rfl,z1 rfl,zp rfl (oN underlying9 rfl),z4 rfl rfl,z8 hg2_4 rfl,zt rfl,zt rfl,zt rfl,zt rfl,z3 false rfl,zz⟩ ?_
     exact hl29 _ (Option.some.inj h).symm
theorem ok_wherryref11_mechanism (s : ByteArray) (r : Bool) (h : Sh.wherryref11_mechanism s = some r) : FnOK Tryz.prog 28 [.v (.string s)] (.v (.bool r)) := by
  unfold Sh.wherryref11_mechanism at h
  refine fn_ok func28 rfl (zl rfl) rfl rfl fun g0 hn hio => ?_
  refine zgg hn [_,(2,vb false)] [0] [0] [zq [] 1 2] [(_,_)] rfl ⟨z2 rfl,zz⟩ ?_
  refine ht_seq ?_
  refine zgg hn [_,(3,vi 0)] [0] [0,1] [zq [] 1 3] [(_,_),(_,_)] rfl ⟨z2 rfl,zz⟩ ?_
  refine ht_loopS h (fun (s20 : Int) => [(0, .v (.string s)), (3, .v (.int .i64 s20))]) (fun (() : Unit) => [(0, .v (.string s))]) ?_ ?_
  ·rintro ⟨⟩ h
   refine pt_then ?_
   refine zgg hn [_,(28,vs s),(29,vi (s.size : Int)),(30,vb (decide (0 < (s.size : Int)))),(2,vb (decide (0 < (s.size : Int))))] [0] [4] [zq [0] 1 28,zq [1] 2 29,zq [2] 3 30,zq [3] 4 2] [(_,_)] rfl ⟨z1 rfl,zp rfl (oN underlying9 rfl),z4 rfl rfl,z2 rfl,zz⟩ ?_
   refine ht_ret ?_
   obtain rfl := Option.some.inj h
   exact pt_ret hio rfl (.tmp _ _ .nil) rfl rfl
  ·rintro u27 hl28 hr29 s20 rr32 h ho30
   refine ht_seq ?_
   refine zgg hn [_,_,(4,vi s20),(5,vs s),(6,vi (s.size : Int)),(7,vb (decide (s20 < (s.size : Int))))] [0,1] [0,1,5] [zq [1] 2 4,zq [0] 3 5,zq [3] 4 6,zq [2,4] 5 7] [(_,_),(_,_),(_,_)] rfl ⟨z1 rfl,z1 rfl,zp rfl (oN underlying9 rfl),z4 rfl rfl,zz⟩ ?_
   refine ht_cond _ rfl (fun hb33 => ?_) (fun hb33 => ?_)
   ·have h := cond_t hb33 h
    refine ht_skip ?_
    refine pt_then (ht_seq ?_)
    refine ht_block ?_
    refine ht_seq ?_
    refine ht_joinS h (fun (s34 : Bool) => [(0, .v (.string s)), (3, .v (.int .i64 s20)), (27, .v (.bool s34))]) ?_ ?_
    ·rintro s34 h
     refine pt_then ?_
     refine ht_cond _ rfl (fun hb38 => ?_) (fun hb38 => ?_)
     ·have h := cond_t hb38 h
      refine zgg hn [_,_,_,(2,vb false)] [0,1,2] [3] [zq [] 3 2] [(_,_)] rfl ⟨z2 rfl,zz⟩ ?_
      refine ht_ret ?_
      refine pt_r_in ?_
      refine pt_r_then ?_
      refine pt_r_then ?_
      refine pt_r_in ?_
      refine pt_r_then ?_
      have h := hr29 _ (ho30 _ (Option.some.inj h).symm).symm
      obtain rfl := Option.some.inj h
      exact pt_ret hio rfl (.tmp _ _ .nil) rfl rfl
     ·have h := cond_f hb38 h
      refine ht_skip ?_
      refine pt_inb ?_
      refine pt_then ?_
      obtain ⟨v12, hv12, h⟩ := bind_some h
      refine zg hn [_,_,_,(8,vi s20),(9,vi v12),(3,vi v12)] [0,1,2] [0,5] [zq [1] 3 8,zq [3] 4 9,⟨[4],[1],[5],[(.slot 3)]⟩] [(_,_),(_,_)] rfl ⟨z1 rfl,zp rfl (oB rfl (ibind (f := Value.int .i64) (Option.some.inj hv12))),zp rfl (LOp.drop [_] (op_assign _ _ _ _ rfl rfl)),zz⟩ ?_
      exact pt_next _ (Option.some.inj h).symm rfl
    ·intro u35 h hl36 hr37
     obtain ⟨v2, hv2, h⟩ := bind_some h
     obtain ⟨v3, hv3, h⟩ := bind_some h
     refine cond_some h (fun hg4_5 h => ?_) (fun hg4_5 h => ?_)
     ·obtain ⟨v4, hv4, h⟩ := bind_some h
      obtain ⟨v5, hv5, h⟩ := bind_some h
      refine cond_some h (fun hg4_12 h => ?_) (fun hg4_12 h => ?_)
      ·obtain ⟨v6, hv6, h⟩ := bind_some h
       refine zg hn (_::_::_::(10,vs s)::(11,vi s20)::(12,.v (.int .u8 v2))::(13,vb v3)::(14,vb (!v3))::(15,vb true)::(16,vs s)::(17,vi s20)::(18,.v (.int .u8 v4))::(19,vb v5)::(20,vb (!v5))::(21,vb (!v5))::(22,vb true)::(23,vs s)::(24,vi s20)::(25,.v (.int .u8 v6))::(26,vb (v6 != 45))::(27,vb (v6 != 45))::[]) [0,1,2] [0,1,20] (zq [0] 3 10::zq [1] 4 11::zq [3,4] 5 12::zq [5] 6 13::zq [6] 7 14::zq [7] 8 15::zq [8,0] 9 16::zq [8,1] 10 17::zq [8,9,10] 11 18::zq [8,11] 12 19::zq [8,12] 13 20::zq [8,13] 14 21::zq [14] 15 22::zq [15,0] 16 23::zq [15,1] 17 24::zq [15,16,17] 18 25::zq [15,18] 19 26::zq [15,19] 20 27::[]) [(_,_),(_,_),(_,_)] rfl ⟨z1 rfl,z1 rfl,zp rfl (op_chr _ _ _ s20 _ underlying9 rfl rfl hv2),zp rfl (op_call _ _ 40 _ _ rfl call40 rfl (ok_wherryref11_letter v2 _ hv3) rfl rfl),zp rfl (op_un _ _ _ _ rfl rfl),z8 hg4_5 rfl,zr' rfl (oM rfl),zr' rfl (oM rfl),zr' rfl (op_chr _ _ _ s20 _ underlying9 rfl rfl hv4),zr' rfl (op_call _ _ 41 _ _ rfl call41 rfl (ok_wherryref11_digit v4 _ hv5) rfl rfl),zr' rfl (op_un _ _ _ _ rfl rfl),z3 true rfl,z8 hg4_12 rfl,zr' rfl (oM rfl),zr' rfl (oM rfl),zr' rfl (op_chr _ _ _ s20 _ underlying9 rfl rfl hv6),zr' rfl (oB rfl rfl),z3 true rfl,zz⟩ ?_
       exact hl36 _ (Option.some.inj h).symm
      ·refine zg hn (_::_::_::(10,vs s)::(11,vi s20)::(12,.v (.int .u8 v2))::(13,vb v3)::(14,vb (!v3))::(15,vb true)::(16,vs s)::(17,vi s20)::(18,.v (.int .u8 v4))::(19,vb v5)::(20,vb (!v5))::(21,vb (!v5))::(22,vb false)::(23,.v undef)::(24,.v undef)::(25,.v undef)::(26,.v undef)::(27,vb false)::[]) [0,1,2] [0,1,20] (zq [0] 3 10::zq [1] 4 11::zq [3,4] 5 12::zq [5] 6 13::zq [6] 7 14::zq [7] 8 15::zq [8,0] 9 16::zq [8,1] 10 17::zq [8,9,10] 11 18::zq [8,11] 12 19::zq [8,12] 13 20::zq [8,13] 14 21::zq [14] 15 22::zq [15] 16 23::zq [15] 17 24::zq [15] 18 25::zq [15] 19 26::zq [15] 20 27::[]) [(_,_),(_,_),(_,_)] rfl ⟨z1 rfl,z1 rfl,zp rfl (op_chr _ _ _ s20 _ underlying9 rfl rfl hv2),zp rfl (op_call _ _ 40 _ _ rfl call40 rfl (ok_wherryref11_letter v2 _ hv3) rfl rfl),zp rfl (op_un _ _ _ _ rfl rfl),z8 hg4_5 rfl,zr' rfl (oM rfl),zr' rfl (oM rfl),zr' rfl (op_chr _ _ _ s20 _ underlying9 rfl rfl hv4),zr' rfl (op_call _ _ 41 _ _ rfl call41 rfl (ok_wherryref11_digit v4 _ hv5) rfl rfl),zr' rfl (op_un _ _ _ _ rfl rfl),z3 true rfl,z8 hg4_12 rfl,zt rfl,zt rfl,zt rfl,zt rfl,z3 false rfl,zz⟩ ?_
       exact hl36 _ (Option.some.inj h).symm
     ·refine zg hn (_::_::_::(10,vs s)::(11,vi s20)::(12,.v (.int .u8 v2))::(13,vb v3)::(14,vb (!v3))::(15,vb false)::(16,.v undef)::(17,.v undef)::(18,.v undef)::(19,.v undef)::(20,.v undef)::(21,vb false)::(22,vb false)::(23,.v undef)::(24,.v undef)::(25,.v undef)::(26,.v undef)::(27,vb false)::[]) [0,1,2] [0,1,20] (zq [0] 3 10::zq [1] 4 11::zq [3,4] 5 12::zq [5] 6 13::zq [6] 7 14::zq [7] 8 15::zq [8] 9 16::zq [8] 10 17::zq [8] 11 18::zq [8] 12 19::zq [8] 13 20::zq [8] 14 21::zq [14] 15 22::zq [15] 16 23::zq [15] 17 24::zq [15] 18 25::zq [15] 19 26::zq [15] 20 27::[]) [(_,_),(_,_),(_,_)] rfl ⟨z1 rfl,z1 rfl,zp rfl (op_chr _ _ _ s20 _ underlying9 rfl rfl hv2),zp rfl (op_call _ _ 40 _ _ rfl call40 rfl (ok_wherryref11_letter v2 _ hv3) rfl rfl),zp rfl (op_un _ _ _ _ rfl rfl),z8 hg4_5 rfl,zt rfl,zt rfl,zt rfl,zt rfl,zt rfl,z3 false rfl,z1 rfl,zt rfl,zt rfl,zt rfl,zt rfl,z3 false rfl,zz⟩ ?_
      exact hl36 _ (Option.some.inj h).symm
   ·have h := cond_f hb33 h
    refine ht_exit ?_
    refine pt_x_then ?_
    refine pt_x_then ?_
    refine pt_x_in ?_
    refine pt_pick [0] (by kernel_rfl) (es' := [(_,_)]) rfl ?_
    exact hl28 _ (ho30 _ (Option.some.inj h).symm).symm
end Go.Proofs.YthfmdofkkkpbkaaGreatDoor
