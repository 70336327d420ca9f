/-
  The model's runs are what is told in Lean.
-/
import Derived.Test.YtccfiglffammoaaDoorProg
import Derived.KernelRfl
import Derived.Test.YtccfiglffammoaaDoorShelf
import Derived.Test.YtccfiglffammoaaDoorIdx
import Derived.Test.YtccfiglffammoaaDoorOkc1
set_option linter.unusedVariables false
set_option linter.unusedSimpArgs false
set_option maxHeartbeats 1000000
namespace Go.Proofs.YtccfiglffammoaaDoor
open Go.Abs Go.Abs.Sh Tryd
theorem ok_head_continues (s : ByteArray) (r : Bool) (h : Sh.head_continues s = some r) : FnOK Tryd.prog 31 [.v (.string s)] (.v (.bool r)) := by
  unfold Sh.head_continues at h
  refine fn_ok func31 rfl (zl rfl) rfl rfl fun g0 hn hio => ?_
  refine zgg hn [_,(2,vb false)] [0] [0] [zq [] 1 2] [(_,_)] rfl ⟨z2 rfl,zz⟩ ?_
  refine ht_seq ?_
  refine ht_joinS h (fun (s3 : Bool) => [(2, .v (.bool s3))]) ?_ ?_
  ·rintro s3 h
   refine pt_then (ht_ret ?_)
   obtain rfl := Option.some.inj h
   exact pt_ret hio rfl (.tmp _ _ .nil) rfl rfl
  ·intro u4 h hl5 hr6
   obtain ⟨v1, hv1, h⟩ := bind_some h
   refine cond_some h (fun hg1_2 h => ?_) (fun hg1_2 h => ?_)
   ·refine zg hn [_,(3,vs s),(4,vb v1),(5,vb true),(6,.v undef),(7,.v undef),(8,vb true),(2,vb true)] [0] [7] [zq [0] 1 3,zq [1] 2 4,zq [2] 3 5,zq [3] 4 6,zq [3] 5 7,zq [3] 6 8,zq [6] 7 2] [(_,_)] rfl ⟨z1 rfl,zp rfl (op_call _ _ 52 _ _ rfl call52 rfl (ok_strings_HasPrefix s (⟨#[32]⟩ : ByteArray) _ hv1) rfl rfl),z8 hg1_2 rfl,zf rfl,zf rfl,z3 true rfl,z2 rfl,zz⟩ ?_
    exact hl5 _ (Option.some.inj h).symm
   ·obtain ⟨v2, hv2, h⟩ := bind_some h
    refine zg hn [_,(3,vs s),(4,vb v1),(5,vb false),(6,vs s),(7,vb v2),(8,vb v2),(2,vb v2)] [0] [7] [zq [0] 1 3,zq [1] 2 4,zq [2] 3 5,zq [3,0] 4 6,zq [3,4] 5 7,zq [3,5] 6 8,zq [6] 7 2] [(_,_)] rfl ⟨z1 rfl,zp rfl (op_call _ _ 52 _ _ rfl call52 rfl (ok_strings_HasPrefix s (⟨#[32]⟩ : ByteArray) _ hv1) rfl rfl),z8 hg1_2 rfl,zr' rfl (oM rfl),zr' rfl (op_call _ _ 52 _ _ rfl call52 rfl (ok_strings_HasPrefix s (⟨#[9]⟩ : ByteArray) _ hv2) rfl rfl),z3 false rfl,z2 rfl,zz⟩ ?_
    exact hl5 _ (Option.some.inj h).symm
theorem ok_head_Scan (mx : Int) (b : (List Int)) (r : ((List T_Field) × Int × Int)) (h : Sh.head_Scan b = some r) : FnG Tryd.prog (GL mx) 15 [.fl .shr 1 (List.map (Value.int .u8) b)] (.tup [.fl (.own 64) 2 (List.flatten (List.map T_Field.enc r.1)), .v (.int .i64 r.2.1), .v (.int .i64 r.2.2)]) := by
  unfold Sh.head_Scan at h
  refine fn_okG func15 rfl (zl rfl) rfl rfl fun g0 hn hio => ?_
  refine zgg hn [_,_,(2,.v (.slice none 0 0)),(3,vi 0),(4,vi 0)] [0,1] [0,1] [zq [] 2 2,zq [] 3 3,zq [] 4 4] [(_,_),(_,_)] rfl ⟨z2 rfl,z2 rfl,z2 rfl,zz⟩ ?_
  refine ht_seq ?_
  refine ht_seq ?_
  obtain ⟨v1, hv1, h⟩ := bind_some h
  refine zg hn [_,_,(14,.fl .shr 1 (List.map (Value.int .u8) b)),(15,vi v1),(5,vi v1)] [0,1] [0,1,4] [zq [0] 2 14,zq [2,1] 3 15,zq [3] 4 5] [(_,_),(_,_),(_,_)] rfl ⟨z1 rfl,zp rfl (op_callG _ _ 77 16 _ _ rfl call16 rfl rfl (fun _ h => h) (ok_dots_Check mx b _ hv1) rfl rfl),z2 rfl,zz⟩ ?_
  refine pt_then ?_
  refine zgg hn [_,_,_,(16,vi v1),(17,vb (v1 != 0))] [0,1,2] [0,1,2,4] [zq [2] 3 16,zq [3] 4 17] [(_,_),(_,_),(_,_),(_,_)] rfl ⟨z1 rfl,z4 rfl rfl,zz⟩ ?_
  refine ht_cond _ rfl (fun hb2 => ?_) (fun hb2 => ?_)
  ·have h := cond_t hb2 h
   refine zgg hn [_,_,_,_,(18,vi v1),(2,.v (.slice none 0 0)),(3,vi 0),(4,vi v1)] [0,1,2,3] [1,5,6,7] [zq [2] 4 18,zq [] 5 2,zq [] 6 3,zq [4] 7 4] [(_,_),(_,_),(_,_),(_,_)] rfl ⟨z1 rfl,z2 rfl,z2 rfl,z2 rfl,zz⟩ ?_
   refine ht_ret ?_
   refine pt_pick [1, 2, 3] (by kernel_rfl) (es' := [(_,_),(_,_),(_,_)]) rfl ?_
   refine pt_sub (fs := [(2, .fl (.own 64) 2 (List.flatten (List.map T_Field.enc []))), (3, .v (.int .i64 0)), (4, .v (.int .i64 v1))]) (.sub _ (sub_nil 64 2) rfl (.same _ (.same _ .nil))) ?_
   refine pt_r_then ?_
   obtain rfl := Option.some.inj h
   exact pt_ret hio rfl (.tmp _ _ (.tmp _ _ (.tmp _ _ .nil))) rfl rfl
  ·have h := cond_f hb2 h
   refine ht_skip ?_
   refine pt_then ?_
   refine zgg hn [_,_,_,_,(6,.v (.slice none 0 0))] [0,1,2,3] [0,1,4] [zq [] 4 6] [(_,_),(_,_),(_,_)] rfl ⟨z2 rfl,zz⟩ ?_
   refine zgg hn [_,_,_,(7,vi 0)] [0,1,2] [0,1,2,3] [zq [] 3 7] [(_,_),(_,_),(_,_),(_,_)] rfl ⟨z2 rfl,zz⟩ ?_
   refine ht_seq ?_
   refine ht_seq ?_
   obtain ⟨v3, hv3, h⟩ := bind_some h
   refine zg hn [_,_,_,_,(19,.fl .shr 1 (List.map (Value.int .u8) b)),(20,.fr .ro false 1 (List.flatten (List.map Row_int_u8.ienc v3))),(21,vi (v3.length : Int)),(22,vi 0)] [0,1,2,3] [1,2,3,5,6,7] [zq [0] 4 19,zq [4,1] 5 20,zq [5] 6 21,zq [] 7 22] [(_,_),(_,_),(_,_),(_,_),(_,_),(_,_)] rfl ⟨z1 rfl,zp rfl (op_callG _ _ 77 21 _ _ rfl call21 rfl rfl (fun _ h => h) (ok_dots_Lines mx b _ hv3) rfl rfl),zp rfl (op_len_fr _ _ _ underlying44 rfl (by decide) (gflat_len Row_int_u8.ilen _)),z1 rfl,zz⟩ ?_
   refine pt_then ?_
   refine ht_sub (fs := [(77, .glob (GL mx)), (6, .fl (.own 64) 2 (List.flatten (List.map T_Field.enc []))), (7, .v (.int .i64 0)), (20, .fr .ro false 1 (List.flatten (List.map Row_int_u8.ienc v3))), (21, .v (.int .i64 (v3.length : Int))), (22, .v (.int .i64 0))]) (.same _ (.sub _ (sub_nil 64 2) rfl (.same _ (.same _ (.same _ (.same _ .nil)))))) ?_
   refine ht_loopS h (fun ((s106, s107, s108) : (List T_Field) × Int × Int) => [(77, .glob (GL mx)), (6, .fl (.own 64) 2 (List.flatten (List.map T_Field.enc s106))), (7, .v (.int .i64 s107)), (20, .fr .ro false 1 (List.flatten (List.map Row_int_u8.ienc v3))), (21, .v (.int .i64 (v3.length : Int))), (22, .v (.int .i64 s108))]) (fun ((s150, s151) : (List T_Field) × Int) => [(77, .glob (GL mx)), (6, .fl (.own 64) 2 (List.flatten (List.map T_Field.enc s150))), (7, .v (.int .i64 s151))]) ?_ ?_
   ·rintro ⟨s150, s151⟩ h
    refine pt_then ?_
    refine zgg hn [_,_,_,(75,.fl (.own 64) 2 (List.flatten (List.map T_Field.enc s150))),(76,vi s151),(2,.fl (.own 64) 2 (List.flatten (List.map T_Field.enc s150))),(3,vi s151),(4,vi 0)] [0,1,2] [0,5,6,7] [⟨[],[1],[3],[(.slot 75)]⟩,zq [2] 4 76,⟨[],[3],[5],[(.slot 2)]⟩,zq [4] 6 3,zq [] 7 4] [(_,_),(_,_),(_,_),(_,_)] rfl ⟨zp rfl (op_move_take _ _ _ _ rfl),z1 rfl,zp rfl (op_assign_take _ _ _ _ rfl),z2 rfl,z2 rfl,zz⟩ ?_
    refine ht_ret ?_
    refine pt_pick [1, 2, 3] (by kernel_rfl) (es' := [(_,_),(_,_),(_,_)]) rfl ?_
    obtain rfl := Option.some.inj h
    exact pt_ret hio rfl (.tmp _ _ (.tmp _ _ (.tmp _ _ .nil))) rfl rfl
   ·rintro u152 hl153 hr154 ⟨s106, s107, s108⟩ rr157 h ho155
    refine zgg hn [_,_,_,_,_,_,(23,vb (decide (s108 < (v3.length : Int))))] [0,1,2,3,4,5] [0,1,2,3,4,5,6] [zq [5,4] 6 23] [(_,_),(_,_),(_,_),(_,_),(_,_),(_,_),(_,_)] rfl ⟨z4 rfl rfl,zz⟩ ?_
    refine ht_seq ?_
    refine ht_cond _ rfl (fun hb158 => ?_) (fun hb158 => ?_)
    ·have h := cond_t hb158 h
     refine ht_skip ?_
     refine pt_then (ht_seq ?_)
     refine ht_block ?_
     refine ht_seq ?_
     obtain ⟨v5, hv5, h⟩ := bind_some h
     obtain ⟨v6, hv6, h⟩ := bind_some h
     refine zg hn [_,_,_,_,_,_,_,(24,.eref (.slot 20) (v5 * 1)),(25,.fl .ro 1 (List.map (Value.int .u8) v6)),(9,.fl .ro 1 (List.map (Value.int .u8) v6))] [0,1,2,3,4,5,6] [0,1,2,3,4,5,9] [zq [3,5] 7 24,zq [7,3] 8 25,zq [8] 9 9] [(_,_),(_,_),(_,_),(_,_),(_,_),(_,_),(_,_)] rfl ⟨zp rfl (op_ix_fr _ _ _ _ _ _ _ _ underlying44 sz24 (by decide) rfl rfl rfl (ix_ok hv5).1 (gflat_lt Row_int_u8.ilen (ix_ok hv5).2) rfl),zp rfl (op_load_fr _ _ _ _ _ _ _ underlying24 rfl rfl rfl (gflat_cell0 Row_int_u8.ilen hv6 rfl) (.fl _ _ rfl)),z2 rfl,zz⟩ ?_
     refine pt_then (ht_seq ?_)
     obtain ⟨v7, hv7, h⟩ := bind_some h
     refine zg hn [_,_,_,_,_,_,_,(26,.fl .ro 1 (List.map (Value.int .u8) v6)),(27,vs v7),(10,vs v7)] [0,1,2,3,4,5,6] [0,1,2,3,4,5,9] [zq [6] 7 26,zq [7] 8 27,zq [8] 9 10] [(_,_),(_,_),(_,_),(_,_),(_,_),(_,_),(_,_)] rfl ⟨z1 rfl,zp rfl ((Option.some.inj hv7) ▸ op_bytes_str _ _ _ v6 underlying24 underlying9 underlying5 rfl),z2 rfl,zz⟩ ?_
     refine pt_then (ht_seq ?_)
     refine ht_joinS h (fun (s177 : (List T_Field)) => [(77, .glob (GL mx)), (6, .fl (.own 64) 2 (List.flatten (List.map T_Field.enc s177))), (7, .v (.int .i64 s107)), (20, .fr .ro false 1 (List.flatten (List.map Row_int_u8.ienc v3))), (21, .v (.int .i64 (v3.length : Int))), (22, .v (.int .i64 s108)), (10, .v (.string v7))]) ?_ ?_
     ·rintro s177 h
      refine pt_then ?_
      obtain ⟨v53, hv53, h⟩ := bind_some h
      obtain ⟨v54, hv54, h⟩ := bind_some h
      refine zg hn [_,_,_,_,_,_,_,(69,vi s107),(70,vs v7),(71,vi (v7.size : Int)),(72,vi v53),(73,vi v54),(7,vi v54)] [0,1,2,3,4,5,6] [0,1,3,4,5,12] [zq [2] 7 69,zq [6] 8 70,zq [8] 9 71,zq [9] 10 72,zq [7,10] 11 73,⟨[11],[2],[12],[(.slot 7)]⟩] [(_,_),(_,_),(_,_),(_,_),(_,_),(_,_)] rfl ⟨z1 rfl,z1 rfl,zp rfl (oN underlying9 rfl),zp rfl (oB rfl (ibind (f := Value.int .i64) (Option.some.inj hv53))),zp rfl (oB rfl (ibind (f := Value.int .i64) (Option.some.inj hv54))),zp rfl (LOp.drop [_] (op_assign _ _ _ _ rfl rfl)),zz⟩ ?_
      refine pt_inb ?_
      refine pt_then ?_
      obtain ⟨v55, hv55, h⟩ := bind_some h
      refine zg hn [_,_,_,_,_,_,(74,vi v55),(22,vi v55)] [0,1,2,3,4,5] [0,1,2,3,5,7] [zq [4] 6 74,⟨[6],[4],[7],[(.slot 22)]⟩] [(_,_),(_,_),(_,_),(_,_),(_,_),(_,_)] rfl ⟨zp rfl (oB rfl (ibind (f := Value.int .i64) (Option.some.inj hv55))),zp rfl (LOp.drop [_] (oM rfl)),zz⟩ ?_
      refine pt_pick [0, 1, 4, 2, 3, 5] (by kernel_rfl) (es' := [(_,_),(_,_),(_,_),(_,_),(_,_),(_,_)]) rfl ?_
      exact pt_next _ (Option.some.inj h).symm rfl
     ·intro u178 h hl179 hr180
      refine ht_seq ?_
      obtain ⟨v8, hv8, h⟩ := bind_some h
      refine zg hn (_::_::_::_::_::_::_::(29,vs v7)::(30,.tup [vs v8.1,vs v8.2.1,vb v8.2.2])::(28,.tup [vs v8.1,vs v8.2.1,vb v8.2.2])::(31,vs v8.1)::(32,vs v8.2.1)::(33,vb v8.2.2)::(11,vs v8.1)::(12,vs v8.2.1)::(13,vb v8.2.2)::[]) [0,1,2,3,4,5,6] [0,1,2,3,4,5,6,13,14,15] [zq [6] 7 29,zq [7] 8 30,⟨[],[8],[9],[(.slot 28)]⟩,zq [9] 10 31,zq [9] 11 32,zq [9] 12 33,zq [10] 13 11,zq [11] 14 12,zq [12] 15 13] [(_,_),(_,_),(_,_),(_,_),(_,_),(_,_),(_,_),(_,_),(_,_),(_,_)] rfl ⟨z1 rfl,zp rfl (op_call _ _ 30 _ _ rfl call30 rfl (ok_head_first v7 _ hv8) rfl rfl),zp rfl (op_move_take _ _ _ _ rfl),zp rfl (oE rfl),zp rfl (oE rfl),zp rfl (oE rfl),z2 rfl,z2 rfl,z2 rfl,zz⟩ ?_
      refine pt_then ?_
      refine ht_joinS h (fun (s188 : (List T_Field)) => [(77, .glob (GL mx)), (6, .fl (.own 64) 2 (List.flatten (List.map T_Field.enc s188))), (7, .v (.int .i64 s107)), (20, .fr .ro false 1 (List.flatten (List.map Row_int_u8.ienc v3))), (21, .v (.int .i64 (v3.length : Int))), (22, .v (.int .i64 s108)), (10, .v (.string v7))]) ?_ ?_
      ·rintro s188 h
       exact hl179 _ (Option.some.inj h).symm
      ·intro u189 h hl190 hr191
       refine ht_block ?_
       refine ht_seq ?_
       refine ht_joinS h (fun (s192 : Bool) => [(77, .glob (GL mx)), (6, .fl (.own 64) 2 (List.flatten (List.map T_Field.enc s106))), (7, .v (.int .i64 s107)), (20, .fr .ro false 1 (List.flatten (List.map Row_int_u8.ienc v3))), (21, .v (.int .i64 (v3.length : Int))), (22, .v (.int .i64 s108)), (10, .v (.string v7)), (11, .v (.string v8.1)), (12, .v (.string v8.2.1)), (13, .v (.bool v8.2.2)), (36, .v (.bool s192))]) ?_ ?_
       ·rintro s192 h
        refine pt_then ?_
        refine ht_cond _ rfl (fun hb196 => ?_) (fun hb196 => ?_)
        ·have h := cond_t hb196 h
         obtain ⟨v15, hv15, h⟩ := bind_some h
         obtain ⟨v65, hv65, h⟩ := bind_some h
         obtain ⟨v66, hv66, h⟩ := bind_some h
         obtain ⟨v67, hv67, h⟩ := bind_some h
         obtain ⟨v68, hv68, h⟩ := bind_some h
         obtain ⟨v69, hv69, h⟩ := bind_some h
         obtain ⟨v70, hv70, h⟩ := bind_some h
         refine zg hn (_::_::_::_::_::_::_::_::_::_::_::(44,.same (.slot 6))::(45,.same (.slot 6))::(46,vi (s106.length : Int))::(47,vi v15)::(48,.eref (.slot 6) (v65 * 2))::(49,.eref (.slot 6) (v65 * 2 + 1))::(50,vs v66.Body)::(51,vs v7)::(52,vs v67)::(53,.eref (.slot 6) (v68 * 2))::(54,.eref (.slot 6) (v68 * 2 + 1))::(6,.fl (.own 64) 2 (List.flatten (List.map T_Field.enc v70)))::[]) [0,1,2,3,4,5,6,7,8,9,10] [0,22,2,3,4,5,6] [zq [1] 11 44,zq [1] 12 45,zq [12,1] 13 46,zq [13] 14 47,zq [11,1,14] 15 48,zq [15,1] 16 49,zq [16,1] 17 50,zq [6] 18 51,zq [17,18] 19 52,zq [11,1,14] 20 53,zq [20,1] 21 54,⟨[21,19],[1],[22],[]⟩] [(_,_),(_,_),(_,_),(_,_),(_,_),(_,_),(_,_)] rfl ⟨z1 rfl,z1 rfl,zp rfl (op_len_fl _ _ _ underlying39 rfl (by decide) (flat_len T_Field.len _)),zp rfl (oB rfl (ibind (f := Value.int .i64) (Option.some.inj hv15))),zp rfl (op_ix _ _ _ _ _ _ _ _ underlying39 sz64 (by decide) rfl rfl rfl (ix_ok hv65).1 (flat_lt T_Field.len (ix_ok hv65).2) rfl),zp rfl (op_fieldAddr_e _ _ _ _ _ _ _ underlying64 rfl sz9 rfl rfl rfl),zp rfl (op_load_e _ _ _ _ _ _ underlying9 rfl rfl rfl (flat_cell T_Field.len hv66 rfl)),z1 rfl,zp rfl (oB rfl (cat_ok hv67)),zp rfl (op_ix _ _ _ _ _ _ _ _ underlying39 sz64 (by decide) rfl rfl rfl (ix_ok hv68).1 (flat_lt T_Field.len (ix_ok hv68).2) rfl),zp rfl (op_fieldAddr_e _ _ _ _ _ _ _ underlying64 rfl sz9 rfl rfl rfl),zp rfl (op_store_e _ _ _ _ _ _ _ _ sz9 rfl rfl rfl (by decide) (flat_fit (q := 1) (s := 1) T_Field.len hv69 (by decide)) ((flat_setc (q := 1) (s := 1) (y := (T_Field.mk v69.Name v67)) T_Field.len hv69 rfl (by decide)).trans (congrArg (fun l => List.flatten (List.map T_Field.enc l)) (Option.some.inj hv70)))),zz⟩ ?_
         refine pt_inb ?_
         exact hl190 _ (Option.some.inj h).symm
        ·have h := cond_f hb196 h
         refine zgg hn [_,_,_,_,_,_,_,_,_,_,_,(56,vb v8.2.2),(55,vb v8.2.2)] [0,1,2,3,4,5,6,7,8,9,10] [0,1,2,3,4,5,6,7,8,12] [zq [9] 11 56,zq [11] 12 55] [(_,_),(_,_),(_,_),(_,_),(_,_),(_,_),(_,_),(_,_),(_,_),(_,_)] rfl ⟨z1 rfl,z2 rfl,zz⟩ ?_
         refine ht_cond _ rfl (fun hb197 => ?_) (fun hb197 => ?_)
         ·have h := cond_t hb197 h
          obtain ⟨v17, hv17, h⟩ := bind_some h
          refine zg hn (_::_::_::_::_::_::_::_::_::_::(57,.fl (.own 64) 2 (List.flatten (List.map T_Field.enc s106)))::(58,vs v8.1)::(59,vs v8.2.1)::(60,.agg [vs v8.1,vs v8.2.1])::(61,.fl (.own 64) 2 (List.flatten (List.map T_Field.enc [(T_Field.mk v8.1 v8.2.1)])))::(62,.fl (.own 64) 2 (List.flatten (List.map T_Field.enc v17)))::(57,.any)::(6,.fl (.own 64) 2 (List.flatten (List.map T_Field.enc v17)))::[]) [0,1,2,3,4,5,6,7,8,9] [0,2,3,4,5,6,17] [⟨[],[1],[10],[(.slot 57)]⟩,zq [7] 11 58,zq [8] 12 59,zq [11,12] 13 60,zq [13] 14 61,⟨[14],[10],[16,15],[(.slot 62)]⟩,⟨[],[15],[17],[(.slot 6)]⟩] [(_,_),(_,_),(_,_),(_,_),(_,_),(_,_),(_,_)] rfl ⟨zp rfl (op_move_take _ _ _ _ rfl),z1 rfl,z1 rfl,zp rfl (op_build _ _ _ _ [1, 1] _ _ underlying64 zr64 (fs64 _ underlying64) (.copy _ (.copy _ Src.nil)) rfl rfl rfl),zp rfl (op_buildSlice _ _ 2 (.agg #[.string ByteArray.empty, .string ByteArray.empty]) (List.flatten (List.map T_Field.enc [(T_Field.mk v8.1 v8.2.1)])) [(0, .agg #[.string v8.1, .string v8.2.1])] underlying39 sz64 zr64 (fun _ V w o a hv hes => by have e0 := agg_v (ys := [.string v8.1, .string v8.2.1]) hv hes (x := .tmp 60) rfl; simp only [List.map_toArray, List.map_cons, List.map_nil, e0]; try rfl) (litfill (by simp [Instr.fill, Value.cells]; rfl) (by simp [List.range, List.range.loop, T_Field.enc] <;> rfl)) (by simp [Value.oneCell', T_Field.enc]) rfl (by decide) (by decide) (by decide)),zp rfl (op_app _ _ _ _ _ el39 rfl rfl (flat_len T_Field.len _) (flat_len T_Field.len _) hv17 (flat_app (app_eq hv17))),zp rfl (op_assign_take _ _ _ _ rfl),zz⟩ ?_
          refine pt_inb ?_
          refine pt_pick [0, 6, 1, 2, 3, 4, 5] (by kernel_rfl) (es' := [(_,_),(_,_),(_,_),(_,_),(_,_),(_,_),(_,_)]) rfl ?_
          exact hl190 _ (Option.some.inj h).symm
         ·have h := cond_f hb197 h
          refine zgg hn [_,_,_,_,_,_,_,_,_,_,(64,vs v7),(65,vb (v7.toList == z0.toList)),(63,vb (v7.toList == z0.toList))] [0,1,2,3,4,5,6,7,8,9] [0,1,2,12] [zq [6] 10 64,zq [10] 11 65,zq [11] 12 63] [(_,_),(_,_),(_,_),(_,_)] rfl ⟨z1 rfl,z4 rfl rfl,z2 rfl,zz⟩ ?_
          refine ht_cond _ rfl (fun hb198 => ?_) (fun hb198 => ?_)
          ·have h := cond_t hb198 h
           refine ht_seq ?_
           obtain ⟨v19, hv19, h⟩ := bind_some h
           refine zg hn [_,_,_,_,(66,.fl (.own 64) 2 (List.flatten (List.map T_Field.enc s106))),(67,vi s107),(68,vi v19),(2,.fl (.own 64) 2 (List.flatten (List.map T_Field.enc s106))),(3,vi v19),(4,vi 0)] [0,1,2,3] [0,7,8,9] [⟨[],[1],[4],[(.slot 66)]⟩,zq [2] 5 67,zq [5] 6 68,⟨[],[4],[7],[(.slot 2)]⟩,zq [6] 8 3,zq [] 9 4] [(_,_),(_,_),(_,_),(_,_)] rfl ⟨zp rfl (op_move_take _ _ _ _ rfl),z1 rfl,zp rfl (oB rfl (ibind (f := Value.int .i64) (Option.some.inj hv19))),zp rfl (op_assign_take _ _ _ _ rfl),z2 rfl,z2 rfl,zz⟩ ?_
           refine pt_then (ht_ret ?_)
           refine pt_pick [1, 2, 3] (by kernel_rfl) (es' := [(_,_),(_,_),(_,_)]) rfl ?_
           refine pt_r_in ?_
           refine pt_r_then ?_
           refine pt_r_in ?_
           refine pt_r_then ?_
           refine pt_r_then ?_
           refine pt_r_in ?_
           refine pt_r_then ?_
           have h := hr191 _ (Option.some.inj h).symm
           have h := hr180 _ (Option.some.inj h).symm
           have h := hr154 _ (ho155 _ (Option.some.inj h).symm).symm
           obtain rfl := Option.some.inj h
           exact pt_ret hio rfl (.tmp _ _ (.tmp _ _ (.tmp _ _ .nil))) rfl rfl
          ·have h := cond_f hb198 h
           refine zgg hn [_,_,_,_,(34,.fl (.own 64) 2 (List.flatten (List.map T_Field.enc s106))),(35,vi s107),(2,.fl (.own 64) 2 (List.flatten (List.map T_Field.enc s106))),(3,vi s107),(4,vi 0)] [0,1,2,3] [0,6,7,8] [⟨[],[1],[4],[(.slot 34)]⟩,zq [2] 5 35,⟨[],[4],[6],[(.slot 2)]⟩,zq [5] 7 3,zq [] 8 4] [(_,_),(_,_),(_,_),(_,_)] rfl ⟨zp rfl (op_move_take _ _ _ _ rfl),z1 rfl,zp rfl (op_assign_take _ _ _ _ rfl),z2 rfl,z2 rfl,zz⟩ ?_
           refine ht_ret ?_
           refine pt_pick [1, 2, 3] (by kernel_rfl) (es' := [(_,_),(_,_),(_,_)]) rfl ?_
           refine pt_r_in ?_
           refine pt_r_then ?_
           refine pt_r_in ?_
           refine pt_r_then ?_
           refine pt_r_then ?_
           refine pt_r_in ?_
           refine pt_r_then ?_
           have h := hr191 _ (Option.some.inj h).symm
           have h := hr180 _ (Option.some.inj h).symm
           have h := hr154 _ (ho155 _ (Option.some.inj h).symm).symm
           obtain rfl := Option.some.inj h
           exact pt_ret hio rfl (.tmp _ _ (.tmp _ _ (.tmp _ _ .nil))) rfl rfl
       ·intro u193 h hl194 hr195
        obtain ⟨v9, hv9, h⟩ := bind_some h
        refine cond_some h (fun hg12_2 h => ?_) (fun hg12_2 h => ?_)
        ·refine zg hn (_::_::_::_::_::_::_::_::_::_::(37,vs v7)::(38,vb v9)::(39,vb true)::(40,.same (.slot 6))::(41,vi (s106.length : Int))::(42,vb (decide (0 < (s106.length : Int))))::(43,vb (decide (0 < (s106.length : Int))))::(36,vb (decide (0 < (s106.length : Int))))::[]) [0,1,2,3,4,5,6,7,8,9] [0,1,2,3,4,5,6,7,8,9,17] [zq [6] 10 37,zq [10] 11 38,zq [11] 12 39,zq [12,1] 13 40,zq [12,13,1] 14 41,zq [12,14] 15 42,zq [12,15] 16 43,zq [16] 17 36] [(_,_),(_,_),(_,_),(_,_),(_,_),(_,_),(_,_),(_,_),(_,_),(_,_),(_,_)] rfl ⟨z1 rfl,zp rfl (op_call _ _ 31 _ _ rfl call31 rfl (ok_head_continues v7 _ hv9) rfl rfl),z8 hg12_2 rfl,zr' rfl (oM rfl),zr' rfl (op_len_fl _ _ _ underlying39 rfl (by decide) (flat_len T_Field.len _)),zr' rfl (oB rfl rfl),z3 true rfl,z2 rfl,zz⟩ ?_
         exact hl194 _ (Option.some.inj h).symm
        ·refine zg hn (_::_::_::_::_::_::_::_::_::_::(37,vs v7)::(38,vb v9)::(39,vb false)::(40,.v undef)::(41,.v undef)::(42,.v undef)::(43,vb false)::(36,vb false)::[]) [0,1,2,3,4,5,6,7,8,9] [0,1,2,3,4,5,6,7,8,9,17] [zq [6] 10 37,zq [10] 11 38,zq [11] 12 39,zq [12] 13 40,zq [12] 14 41,zq [12] 15 42,zq [12] 16 43,zq [16] 17 36] [(_,_),(_,_),(_,_),(_,_),(_,_),(_,_),(_,_),(_,_),(_,_),(_,_),(_,_)] rfl ⟨z1 rfl,zp rfl (op_call _ _ 31 _ _ rfl call31 rfl (ok_head_continues v7 _ hv9) rfl rfl),z8 hg12_2 rfl,zt rfl,zt rfl,zt rfl,z3 false rfl,z2 rfl,zz⟩ ?_
         exact hl194 _ (Option.some.inj h).symm
    ·have h := cond_f hb158 h
     refine ht_exit ?_
     refine pt_x_then ?_
     refine pt_x_then ?_
     refine pt_x_in ?_
     refine pt_pick [0, 1, 2] (by kernel_rfl) (es' := [(_,_),(_,_),(_,_)]) rfl ?_
     exact hl153 _ (ho155 _ (Option.some.inj h).symm).symm
theorem ok_wherryref11_in (n : Int) (lo : Int) (hi : Int) (r : Bool) (h : Sh.wherryref11_in n lo hi = some r) : FnOK Tryd.prog 48 [.v (.int .i64 n), .v (.int .i64 lo), .v (.int .i64 hi)] (.v (.bool r)) := by
  unfold Sh.wherryref11_in at h
  refine fn_ok func48 rfl (zl rfl) rfl rfl fun g0 hn hio => ?_
  refine zgg hn [_,_,_,(6,vb false)] [0,1,2] [0,1,2] [zq [] 3 6] [(_,_),(_,_),(_,_)] rfl ⟨z2 rfl,zz⟩ ?_
  refine ht_seq ?_
  refine ht_joinS h (fun (s1 : Bool) => [(6, .v (.bool s1))]) ?_ ?_
  ·rintro s1 h
   refine pt_then (ht_ret ?_)
   obtain rfl := Option.some.inj h
   exact pt_ret hio rfl (.tmp _ _ .nil) rfl rfl
  ·intro u2 h hl3 hr4
   refine cond_some h (fun hg1_3 h => ?_) (fun hg1_3 h => ?_)
   ·refine zg hn [_,_,_,(7,vi n),(8,vi lo),(9,vb (decide (lo ≤ n))),(10,vb true),(11,vi n),(12,vi hi),(13,vb (decide (n ≤ hi))),(14,vb (decide (n ≤ hi))),(6,vb (decide (n ≤ hi)))] [0,1,2] [11] [zq [0] 3 7,zq [1] 4 8,zq [3,4] 5 9,zq [5] 6 10,zq [6,0] 7 11,zq [6,2] 8 12,zq [6,7,8] 9 13,zq [6,9] 10 14,zq [10] 11 6] [(_,_)] rfl ⟨z1 rfl,z1 rfl,z4 rfl rfl,z8 hg1_3 rfl,zr' rfl (oM rfl),zr' rfl (oM rfl),zr' rfl (oB rfl rfl),z3 true rfl,z2 rfl,zz⟩ ?_
    exact hl3 _ (Option.some.inj h).symm
   ·refine zg hn [_,_,_,(7,vi n),(8,vi lo),(9,vb (decide (lo ≤ n))),(10,vb false),(11,.v undef),(12,.v undef),(13,.v undef),(14,vb false),(6,vb false)] [0,1,2] [11] [zq [0] 3 7,zq [1] 4 8,zq [3,4] 5 9,zq [5] 6 10,zq [6] 7 11,zq [6] 8 12,zq [6] 9 13,zq [6] 10 14,zq [10] 11 6] [(_,_)] rfl ⟨z1 rfl,z1 rfl,z4 rfl rfl,z8 hg1_3 rfl,zt rfl,zt rfl,zt rfl,z3 false rfl,z2 rfl,zz⟩ ?_
    exact hl3 _ (Option.some.inj h).symm
theorem ok_wherryref11_letter (c : Int) (r : Bool) (h : Sh.wherryref11_letter c = some r) : FnOK Tryd.prog 49 [.v (.int .u8 c)] (.v (.bool r)) := by
  unfold Sh.wherryref11_letter at h
  refine fn_ok func49 rfl (zl rfl) rfl rfl fun g0 hn hio => ?_
  refine zgg hn [_,(2,vb false)] [0] [0] [zq [] 1 2] [(_,_)] rfl ⟨z2 rfl,zz⟩ ?_
  refine ht_seq ?_
  refine ht_joinS h (fun (s1 : Bool) => [(2, .v (.bool s1))]) ?_ ?_
  ·rintro s1 h
   refine pt_then (ht_ret ?_)
   obtain rfl := Option.some.inj h
   exact pt_ret hio rfl (.tmp _ _ .nil) rfl rfl
  ·intro u2 h hl3 hr4
   refine cond_some h (fun hg1_2 h => ?_) (fun hg1_2 h => ?_)
   ·refine cond_some h (fun hg1_6 h => ?_) (fun hg1_6 h => ?_)
    ·refine zg hn (_::(3,.v (.int .u8 c))::(4,vb (decide (97 ≤ c)))::(5,vb true)::(6,.v (.int .u8 c))::(7,vb (decide (c ≤ 122)))::(8,vb (decide (c ≤ 122)))::(9,vb true)::(10,.v undef)::(11,.v undef)::(12,.v undef)::(13,.v undef)::(14,.v undef)::(15,.v undef)::(16,vb true)::(2,vb true)::[]) [0] [15] (zq [0] 1 3::zq [1] 2 4::zq [2] 3 5::zq [3,0] 4 6::zq [3,4] 5 7::zq [3,5] 6 8::zq [6] 7 9::zq [7] 8 10::zq [7] 9 11::zq [7] 10 12::zq [10] 11 13::zq [10] 12 14::zq [7] 13 15::zq [7] 14 16::zq [14] 15 2::[]) [(_,_)] rfl ⟨z1 rfl,z4 rfl rfl,z8 hg1_2 rfl,zr' rfl (oM rfl),zr' rfl (oB rfl rfl),z3 true rfl,z8 hg1_6 rfl,zf rfl,zf rfl,zf rfl,zu' rfl,zu' rfl,zf rfl,z3 true rfl,z2 rfl,zz⟩ ?_
     exact hl3 _ (Option.some.inj h).symm
    ·refine cond_some h (fun hg1_9 h => ?_) (fun hg1_9 h => ?_)
     ·refine zg hn (_::(3,.v (.int .u8 c))::(4,vb (decide (97 ≤ c)))::(5,vb true)::(6,.v (.int .u8 c))::(7,vb (decide (c ≤ 122)))::(8,vb (decide (c ≤ 122)))::(9,vb false)::(10,.v (.int .u8 c))::(11,vb (decide (65 ≤ c)))::(12,vb true)::(13,.v (.int .u8 c))::(14,vb (decide (c ≤ 90)))::(15,vb (decide (c ≤ 90)))::(16,vb (decide (c ≤ 90)))::(2,vb (decide (c ≤ 90)))::[]) [0] [15] (zq [0] 1 3::zq [1] 2 4::zq [2] 3 5::zq [3,0] 4 6::zq [3,4] 5 7::zq [3,5] 6 8::zq [6] 7 9::zq [7,0] 8 10::zq [7,8] 9 11::zq [7,9] 10 12::zq [10,0] 11 13::zq [10,11] 12 14::zq [7,10,12] 13 15::zq [7,13] 14 16::zq [14] 15 2::[]) [(_,_)] rfl ⟨z1 rfl,z4 rfl rfl,z8 hg1_2 rfl,zr' rfl (oM rfl),zr' rfl (oB rfl rfl),z3 true rfl,z8 hg1_6 rfl,zr' rfl (oM rfl),zr' rfl (oB rfl rfl),zr' rfl (op_move _ _ _ _ (zb hg1_9) rfl),zr' rfl (oM rfl),zr' rfl (oB rfl rfl),zr' rfl (op_pick _ _ true _ rfl rfl),z3 false rfl,z2 rfl,zz⟩ ?_
      exact hl3 _ (Option.some.inj h).symm
     ·refine zg hn (_::(3,.v (.int .u8 c))::(4,vb (decide (97 ≤ c)))::(5,vb true)::(6,.v (.int .u8 c))::(7,vb (decide (c ≤ 122)))::(8,vb (decide (c ≤ 122)))::(9,vb false)::(10,.v (.int .u8 c))::(11,vb (decide (65 ≤ c)))::(12,vb false)::(13,.v undef)::(14,.v undef)::(15,vb false)::(16,vb false)::(2,vb false)::[]) [0] [15] (zq [0] 1 3::zq [1] 2 4::zq [2] 3 5::zq [3,0] 4 6::zq [3,4] 5 7::zq [3,5] 6 8::zq [6] 7 9::zq [7,0] 8 10::zq [7,8] 9 11::zq [7,9] 10 12::zq [10] 11 13::zq [10] 12 14::zq [7,10] 13 15::zq [7,13] 14 16::zq [14] 15 2::[]) [(_,_)] rfl ⟨z1 rfl,z4 rfl rfl,z8 hg1_2 rfl,zr' rfl (oM rfl),zr' rfl (oB rfl rfl),z3 true rfl,z8 hg1_6 rfl,zr' rfl (oM rfl),zr' rfl (oB rfl rfl),zr' rfl (op_move _ _ _ _ (zb hg1_9) rfl),zt rfl,zt rfl,zr' rfl (op_pick _ _ false _ rfl rfl),z3 false rfl,z2 rfl,zz⟩ ?_
      exact hl3 _ (Option.some.inj h).symm
   ·refine cond_some h (fun hg1_9 h => ?_) (fun hg1_9 h => ?_)
    ·refine zg hn (_::(3,.v (.int .u8 c))::(4,vb (decide (97 ≤ c)))::(5,vb false)::(6,.v undef)::(7,.v undef)::(8,vb false)::(9,vb false)::(10,.v (.int .u8 c))::(11,vb (decide (65 ≤ c)))::(12,vb true)::(13,.v (.int .u8 c))::(14,vb (decide (c ≤ 90)))::(15,vb (decide (c ≤ 90)))::(16,vb (decide (c ≤ 90)))::(2,vb (decide (c ≤ 90)))::[]) [0] [15] (zq [0] 1 3::zq [1] 2 4::zq [2] 3 5::zq [3] 4 6::zq [3] 5 7::zq [3] 6 8::zq [6] 7 9::zq [7,0] 8 10::zq [7,8] 9 11::zq [7,9] 10 12::zq [10,0] 11 13::zq [10,11] 12 14::zq [7,10,12] 13 15::zq [7,13] 14 16::zq [14] 15 2::[]) [(_,_)] rfl ⟨z1 rfl,z4 rfl rfl,z8 hg1_2 rfl,zt rfl,zt rfl,z3 false rfl,z1 rfl,zr' rfl (oM rfl),zr' rfl (oB rfl rfl),zr' rfl (op_move _ _ _ _ (zb hg1_9) rfl),zr' rfl (oM rfl),zr' rfl (oB rfl rfl),zr' rfl (op_pick _ _ true _ rfl rfl),z3 false rfl,z2 rfl,zz⟩ ?_
     exact hl3 _ (Option.some.inj h).symm
    ·refine zg hn (_::(3,.v (.int .u8 c))::(4,vb (decide (97 ≤ c)))::(5,vb false)::(6,.v undef)::(7,.v undef)::(8,vb false)::(9,vb false)::(10,.v (.int .u8 c))::(11,vb (decide (65 ≤ c)))::(12,vb false)::(13,.v undef)::(14,.v undef)::(15,vb false)::(16,vb false)::(2,vb false)::[]) [0] [15] (zq [0] 1 3::zq [1] 2 4::zq [2] 3 5::zq [3] 4 6::zq [3] 5 7::zq [3] 6 8::zq [6] 7 9::zq [7,0] 8 10::zq [7,8] 9 11::zq [7,9] 10 12::zq [10] 11 13::zq [10] 12 14::zq [7,10] 13 15::zq [7,13] 14 16::zq [14] 15 2::[]) [(_,_)] rfl ⟨z1 rfl,z4 rfl rfl,z8 hg1_2 rfl,zt rfl,zt rfl,z3 false rfl,z1 rfl,zr' rfl (oM rfl),zr' rfl (oB rfl rfl),zr' rfl (op_move _ _ _ _ (zb hg1_9) rfl),zt rfl,zt rfl,zr' rfl (op_pick _ _ false _ rfl rfl),z3 false rfl,z2 rfl,zz⟩ ?_
     exact hl3 _ (Option.some.inj h).symm
theorem ok_wherryref11_digit (c : Int) (r : Bool) (h : Sh.wherryref11_digit c = some r) : FnOK Tryd.prog 50 [.v (.int .u8 c)] (.v (.bool r)) := by
  unfold Sh.wherryref11_digit at h
  refine fn_ok func50 rfl (zl rfl) rfl rfl fun g0 hn hio => ?_
  refine zgg hn [_,(2,vb false)] [0] [0] [zq [] 1 2] [(_,_)] rfl ⟨z2 rfl,zz⟩ ?_
  refine ht_seq ?_
  refine ht_joinS h (fun (s1 : Bool) => [(2, .v (.bool s1))]) ?_ ?_
  ·rintro s1 h
   refine pt_then (ht_ret ?_)
   obtain rfl := Option.some.inj h
   exact pt_ret hio rfl (.tmp _ _ .nil) rfl rfl
  ·intro u2 h hl3 hr4
   refine cond_some h (fun hg1_2 h => ?_) (fun hg1_2 h => ?_)
   ·refine zg hn [_,(3,.v (.int .u8 c)),(4,vb (decide (48 ≤ c))),(5,vb true),(6,.v (.int .u8 c)),(7,vb (decide (c ≤ 57))),(8,vb (decide (c ≤ 57))),(2,vb (decide (c ≤ 57)))] [0] [7] [zq [0] 1 3,zq [1] 2 4,zq [2] 3 5,zq [3,0] 4 6,zq [3,4] 5 7,zq [3,5] 6 8,zq [6] 7 2] [(_,_)] rfl ⟨z1 rfl,z4 rfl rfl,z8 hg1_2 rfl,zr' rfl (oM rfl),zr' rfl (oB rfl rfl),z3 true rfl,z2 rfl,zz⟩ ?_
    exact hl3 _ (Option.some.inj h).symm
   ·refine zg hn [_,(3,.v (.int .u8 c)),(4,vb (decide (48 ≤ c))),(5,vb false),(6,.v undef),(7,.v undef),(8,vb false),(2,vb false)] [0] [7] [zq [0] 1 3,zq [1] 2 4,zq [2] 3 5,zq [3] 4 6,zq [3] 5 7,zq [3] 6 8,zq [6] 7 2] [(_,_)] rfl ⟨z1 rfl,z4 rfl rfl,z8 hg1_2 rfl,zt rfl,zt rfl,z3 false rfl,z2 rfl,zz⟩ ?_
    exact hl3 _ (Option.some.inj h).symm
theorem ok_wherryref11_Domain (s : ByteArray) (r : Bool) (h : Sh.wherryref11_Domain s = some r) : FnOK Tryd.prog 27 [.v (.string s)] (.v (.bool r)) := by
  unfold Sh.wherryref11_Domain at h
  refine fn_ok func27 rfl (zl rfl) rfl rfl fun g0 hn hio => ?_
  refine zgg hn [_,(2,vb false)] [0] [0] [zq [] 1 2] [(_,_)] rfl ⟨z2 rfl,zz⟩ ?_
  refine ht_seq ?_
  refine ht_seq ?_
  obtain ⟨v1, hv1, h⟩ := bind_some h
  refine zg hn [_,(5,vs s),(6,vi (s.size : Int)),(7,vb v1),(8,vb (!v1))] [0] [0,4] [zq [0] 1 5,zq [1] 2 6,zq [2] 3 7,zq [3] 4 8] [(_,_),(_,_)] rfl ⟨z1 rfl,zp rfl (oN underlying9 rfl),zp rfl (op_call _ _ 48 _ _ rfl call48 rfl (ok_wherryref11_in (s.size : Int) 1 255 _ hv1) rfl rfl),zp rfl (op_un _ _ _ _ rfl rfl),zz⟩ ?_
  refine pt_then ?_
  refine ht_cond _ rfl (fun hb2 => ?_) (fun hb2 => ?_)
  ·have h := cond_t hb2 h
   refine zgg hn [_,_,(2,vb false)] [0,1] [2] [zq [] 2 2] [(_,_)] rfl ⟨z2 rfl,zz⟩ ?_
   refine ht_ret ?_
   refine pt_r_then ?_
   obtain rfl := Option.some.inj h
   exact pt_ret hio rfl (.tmp _ _ .nil) rfl rfl
  ·have h := cond_f hb2 h
   refine ht_skip ?_
   refine pt_then ?_
   refine zgg hn [_,_,(3,vi 0)] [0,1] [0,2] [zq [] 2 3] [(_,_),(_,_)] rfl ⟨z2 rfl,zz⟩ ?_
   refine ht_seq ?_
   refine zgg hn [_,_,(4,vi 0)] [0,1] [0,1,2] [zq [] 2 4] [(_,_),(_,_),(_,_)] rfl ⟨z2 rfl,zz⟩ ?_
   refine ht_loopS h (fun ((s88, s89) : Int × Int) => [(0, .v (.string s)), (3, .v (.int .i64 s88)), (4, .v (.int .i64 s89))]) (fun (() : Unit) => []) ?_ ?_
   ·rintro ⟨⟩ h
    refine pt_then ?_
    refine zgg hn [(2,vb true)] [] [0] [zq [] 0 2] [(_,_)] rfl ⟨z2 rfl,zz⟩ ?_
    refine ht_ret ?_
    obtain rfl := Option.some.inj h
    exact pt_ret hio rfl (.tmp _ _ .nil) rfl rfl
   ·rintro u125 hl126 hr127 ⟨s88, s89⟩ rr130 h ho128
    refine ht_seq ?_
    refine zgg hn [_,_,_,(9,vi s89),(10,vs s),(11,vi (s.size : Int)),(12,vb (decide (s89 ≤ (s.size : Int))))] [0,1,2] [0,1,2,6] [zq [2] 3 9,zq [0] 4 10,zq [4] 5 11,zq [3,5] 6 12] [(_,_),(_,_),(_,_),(_,_)] rfl ⟨z1 rfl,z1 rfl,zp rfl (oN underlying9 rfl),z4 rfl rfl,zz⟩ ?_
    refine ht_cond _ rfl (fun hb131 => ?_) (fun hb131 => ?_)
    ·have h := cond_t hb131 h
     refine ht_skip ?_
     refine pt_then (ht_seq ?_)
     refine ht_joinS h (fun (s147 : Int) => [(0, .v (.string s)), (3, .v (.int .i64 s147)), (4, .v (.int .i64 s89))]) ?_ ?_
     ·rintro s147 h
      refine pt_then ?_
      obtain ⟨v50, hv50, h⟩ := bind_some h
      refine zg hn [_,_,_,(13,vi s89),(14,vi v50),(4,vi v50)] [0,1,2] [0,1,5] [zq [2] 3 13,zq [3] 4 14,⟨[4],[2],[5],[(.slot 4)]⟩] [(_,_),(_,_),(_,_)] rfl ⟨z1 rfl,zp rfl (oB rfl (ibind (f := Value.int .i64) (Option.some.inj hv50))),zp rfl (LOp.drop [_] (op_assign _ _ _ _ rfl rfl)),zz⟩ ?_
      exact pt_next _ (Option.some.inj h).symm rfl
     ·intro u148 h hl149 hr150
      refine ht_block ?_
      refine ht_seq ?_
      refine ht_seq ?_
      refine ht_joinS h (fun (s151 : Bool) => [(0, .v (.string s)), (3, .v (.int .i64 s88)), (4, .v (.int .i64 s89)), (24, .v (.bool s151))]) ?_ ?_
      ·rintro s151 h
       refine pt_then ?_
       refine ht_cond _ rfl (fun hb155 => ?_) (fun hb155 => ?_)
       ·have h := cond_t hb155 h
        refine ht_seq ?_
        refine ht_seq ?_
        refine ht_joinS h (fun (s156 : Bool) => [(0, .v (.string s)), (3, .v (.int .i64 s88)), (4, .v (.int .i64 s89)), (42, .v (.bool s156))]) ?_ ?_
        ·rintro s156 h
         refine pt_then ?_
         refine ht_cond _ rfl (fun hb160 => ?_) (fun hb160 => ?_)
         ·have h := cond_t hb160 h
          refine zgg hn [_,_,_,_,(2,vb false)] [0,1,2,3] [4] [zq [] 4 2] [(_,_)] rfl ⟨z2 rfl,zz⟩ ?_
          refine ht_ret ?_
          refine pt_r_then ?_
          refine pt_r_then ?_
          refine pt_r_in ?_
          refine pt_r_then ?_
          refine pt_r_then ?_
          refine pt_r_in ?_
          refine pt_r_then ?_
          have h := hr150 _ (Option.some.inj h).symm
          have h := hr127 _ (ho128 _ (Option.some.inj h).symm).symm
          obtain rfl := Option.some.inj h
          exact pt_ret hio rfl (.tmp _ _ .nil) rfl rfl
         ·have h := cond_f hb160 h
          refine ht_skip ?_
          refine pt_then ?_
          refine ht_exit ?_
          refine pt_x_then ?_
          refine pt_x_in ?_
          refine pt_pick [0, 1, 2] (by kernel_rfl) (es' := [(_,_),(_,_),(_,_)]) rfl ?_
          exact hl149 _ (Option.some.inj h).symm
        ·intro u157 h hl158 hr159
         obtain ⟨v10, hv10, h⟩ := bind_some h
         obtain ⟨v11, hv11, h⟩ := bind_some h
         refine cond_some h (fun hg8_5 h => ?_) (fun hg8_5 h => ?_)
         ·obtain ⟨v12, hv12, h⟩ := bind_some h
          obtain ⟨v13, hv13, h⟩ := bind_some h
          refine cond_some h (fun hg8_12 h => ?_) (fun hg8_12 h => ?_)
          ·obtain ⟨v14, hv14, h⟩ := bind_some h
           refine zg hn (_::_::_::_::(25,vs s)::(26,vi s89)::(27,.v (.int .u8 v10))::(28,vb v11)::(29,vb (!v11))::(30,vb true)::(31,vs s)::(32,vi s89)::(33,.v (.int .u8 v12))::(34,vb v13)::(35,vb (!v13))::(36,vb (!v13))::(37,vb true)::(38,vs s)::(39,vi s89)::(40,.v (.int .u8 v14))::(41,vb (v14 != 45))::(42,vb (v14 != 45))::[]) [0,1,2,3] [0,1,2,21] (zq [0] 4 25::zq [2] 5 26::zq [4,5] 6 27::zq [6] 7 28::zq [7] 8 29::zq [8] 9 30::zq [9,0] 10 31::zq [9,2] 11 32::zq [9,10,11] 12 33::zq [9,12] 13 34::zq [9,13] 14 35::zq [9,14] 15 36::zq [15] 16 37::zq [16,0] 17 38::zq [16,2] 18 39::zq [16,17,18] 19 40::zq [16,19] 20 41::zq [16,20] 21 42::[]) [(_,_),(_,_),(_,_),(_,_)] rfl ⟨z1 rfl,z1 rfl,zp rfl (op_chr _ _ _ s89 _ underlying9 rfl rfl hv10),zp rfl (op_call _ _ 49 _ _ rfl call49 rfl (ok_wherryref11_letter v10 _ hv11) rfl rfl),zp rfl (op_un _ _ _ _ rfl rfl),z8 hg8_5 rfl,zr' rfl (oM rfl),zr' rfl (oM rfl),zr' rfl (op_chr _ _ _ s89 _ underlying9 rfl rfl hv12),zr' rfl (op_call _ _ 50 _ _ rfl call50 rfl (ok_wherryref11_digit v12 _ hv13) rfl rfl),zr' rfl (op_un _ _ _ _ rfl rfl),z3 true rfl,z8 hg8_12 rfl,zr' rfl (oM rfl),zr' rfl (oM rfl),zr' rfl (op_chr _ _ _ s89 _ underlying9 rfl rfl hv14),zr' rfl (oB rfl rfl),z3 true rfl,zz⟩ ?_
           exact hl158 _ (Option.some.inj h).symm
          ·refine zg hn (_::_::_::_::(25,vs s)::(26,vi s89)::(27,.v (.int .u8 v10))::(28,vb v11)::(29,vb (!v11))::(30,vb true)::(31,vs s)::(32,vi s89)::(33,.v (.int .u8 v12))::(34,vb v13)::(35,vb (!v13))::(36,vb (!v13))::(37,vb false)::(38,.v undef)::(39,.v undef)::(40,.v undef)::(41,.v undef)::(42,vb false)::[]) [0,1,2,3] [0,1,2,21] (zq [0] 4 25::zq [2] 5 26::zq [4,5] 6 27::zq [6] 7 28::zq [7] 8 29::zq [8] 9 30::zq [9,0] 10 31::zq [9,2] 11 32::zq [9,10,11] 12 33::zq [9,12] 13 34::zq [9,13] 14 35::zq [9,14] 15 36::zq [15] 16 37::zq [16] 17 38::zq [16] 18 39::zq [16] 19 40::zq [16] 20 41::zq [16] 21 42::[]) [(_,_),(_,_),(_,_),(_,_)] rfl ⟨z1 rfl,z1 rfl,zp rfl (op_chr _ _ _ s89 _ underlying9 rfl rfl hv10),zp rfl (op_call _ _ 49 _ _ rfl call49 rfl (ok_wherryref11_letter v10 _ hv11) rfl rfl),zp rfl (op_un _ _ _ _ rfl rfl),z8 hg8_5 rfl,zr' rfl (oM rfl),zr' rfl (oM rfl),zr' rfl (op_chr _ _ _ s89 _ underlying9 rfl rfl hv12),zr' rfl (op_call _ _ 50 _ _ rfl call50 rfl (ok_wherryref11_digit v12 _ hv13) rfl rfl),zr' rfl (op_un _ _ _ _ rfl rfl),z3 true rfl,z8 hg8_12 rfl,zt rfl,zt rfl,zt rfl,zt rfl,z3 false rfl,zz⟩ ?_
           exact hl158 _ (Option.some.inj h).symm
         ·refine zg hn (_::_::_::_::(25,vs s)::(26,vi s89)::(27,.v (.int .u8 v10))::(28,vb v11)::(29,vb (!v11))::(30,vb false)::(31,.v undef)::(32,.v undef)::(33,.v undef)::(34,.v undef)::(35,.v undef)::(36,vb false)::(37,vb false)::(38,.v undef)::(39,.v undef)::(40,.v undef)::(41,.v undef)::(42,vb false)::[]) [0,1,2,3] [0,1,2,21] (zq [0] 4 25::zq [2] 5 26::zq [4,5] 6 27::zq [6] 7 28::zq [7] 8 29::zq [8] 9 30::zq [9] 10 31::zq [9] 11 32::zq [9] 12 33::zq [9] 13 34::zq [9] 14 35::zq [9] 15 36::zq [15] 16 37::zq [16] 17 38::zq [16] 18 39::zq [16] 19 40::zq [16] 20 41::zq [16] 21 42::[]) [(_,_),(_,_),(_,_),(_,_)] rfl ⟨z1 rfl,z1 rfl,zp rfl (op_chr _ _ _ s89 _ underlying9 rfl rfl hv10),zp rfl (op_call _ _ 49 _ _ rfl call49 rfl (ok_wherryref11_letter v10 _ hv11) rfl rfl),zp rfl (op_un _ _ _ _ rfl rfl),z8 hg8_5 rfl,zt rfl,zt rfl,zt rfl,zt rfl,zt rfl,z3 false rfl,z1 rfl,zt rfl,zt rfl,zt rfl,zt rfl,z3 false rfl,zz⟩ ?_
          exact hl158 _ (Option.some.inj h).symm
       ·have h := cond_f hb155 h
        refine ht_skip ?_
        refine pt_then (ht_seq ?_)
        refine ht_seq ?_
        refine ht_joinS h (fun (s161 : Bool) => [(0, .v (.string s)), (4, .v (.int .i64 s89)), (60, .v (.bool s161))]) ?_ ?_
        ·rintro s161 h
         refine pt_then ?_
         refine ht_cond _ rfl (fun hb165 => ?_) (fun hb165 => ?_)
         ·have h := cond_t hb165 h
          refine zgg hn [_,_,_,(2,vb false)] [0,1,2] [3] [zq [] 3 2] [(_,_)] rfl ⟨z2 rfl,zz⟩ ?_
          refine ht_ret ?_
          refine pt_r_then ?_
          refine pt_r_in ?_
          refine pt_r_then ?_
          refine pt_r_then ?_
          refine pt_r_in ?_
          refine pt_r_then ?_
          have h := hr150 _ (Option.some.inj h).symm
          have h := hr127 _ (ho128 _ (Option.some.inj h).symm).symm
          obtain rfl := Option.some.inj h
          exact pt_ret hio rfl (.tmp _ _ .nil) rfl rfl
         ·have h := cond_f hb165 h
          refine ht_skip ?_
          refine pt_then ?_
          obtain ⟨v30, hv30, h⟩ := bind_some h
          refine zg hn [_,_,_,(61,vi s89),(62,vi v30),(3,vi v30)] [0,1,2] [0,1,5] [zq [1] 3 61,zq [3] 4 62,zq [4] 5 3] [(_,_),(_,_),(_,_)] rfl ⟨z1 rfl,zp rfl (oB rfl (ibind (f := Value.int .i64) (Option.some.inj hv30))),z2 rfl,zz⟩ ?_
          refine pt_inb ?_
          refine pt_pick [0, 2, 1] (by kernel_rfl) (es' := [(_,_),(_,_),(_,_)]) rfl ?_
          exact hl149 _ (Option.some.inj h).symm
        ·intro u162 h hl163 hr164
         obtain ⟨v20, hv20, h⟩ := bind_some h
         obtain ⟨v21, hv21, h⟩ := bind_some h
         refine cond_some h (fun hg10_5 h => ?_) (fun hg10_5 h => ?_)
         ·refine zg hn (_::_::_::_::(43,vi s89)::(44,vi s88)::(45,vi v20)::(46,vb v21)::(47,vb (!v21))::(48,vb true)::(49,.v undef)::(50,.v undef)::(51,.v undef)::(52,.v undef)::(53,vb true)::(54,vb true)::(55,.v undef)::(56,.v undef)::(57,.v undef)::(58,.v undef)::(59,.v undef)::(60,vb true)::[]) [0,1,2,3] [0,2,21] (zq [2] 4 43::zq [1] 5 44::zq [4,5] 6 45::zq [6] 7 46::zq [7] 8 47::zq [8] 9 48::zq [9] 10 49::zq [9] 11 50::zq [9] 12 51::zq [9] 13 52::zq [9] 14 53::zq [14] 15 54::zq [15] 16 55::zq [15] 17 56::zq [15] 18 57::zq [15] 19 58::zq [15] 20 59::zq [15] 21 60::[]) [(_,_),(_,_),(_,_)] rfl ⟨z1 rfl,z1 rfl,zp rfl (oB rfl (ibind (f := Value.int .i64) (Option.some.inj hv20))),zp rfl (op_call _ _ 48 _ _ rfl call48 rfl (ok_wherryref11_in v20 1 63 _ hv21) rfl rfl),zp rfl (op_un _ _ _ _ rfl rfl),z8 hg10_5 rfl,zf rfl,zf rfl,zf rfl,zf rfl,z3 true rfl,z1 rfl,zf rfl,zf rfl,zf rfl,zf rfl,zf rfl,z3 true rfl,zz⟩ ?_
          exact hl163 _ (Option.some.inj h).symm
         ·obtain ⟨v22, hv22, h⟩ := bind_some h
          refine cond_some h (fun hg10_11 h => ?_) (fun hg10_11 h => ?_)
          ·refine zg hn (_::_::_::_::(43,vi s89)::(44,vi s88)::(45,vi v20)::(46,vb v21)::(47,vb (!v21))::(48,vb false)::(49,vs s)::(50,vi s88)::(51,.v (.int .u8 v22))::(52,vb (v22 == 45))::(53,vb (v22 == 45))::(54,vb true)::(55,.v undef)::(56,.v undef)::(57,.v undef)::(58,.v undef)::(59,.v undef)::(60,vb true)::[]) [0,1,2,3] [0,2,21] (zq [2] 4 43::zq [1] 5 44::zq [4,5] 6 45::zq [6] 7 46::zq [7] 8 47::zq [8] 9 48::zq [9,0] 10 49::zq [9,1] 11 50::zq [9,10,11] 12 51::zq [9,12] 13 52::zq [9,13] 14 53::zq [14] 15 54::zq [15] 16 55::zq [15] 17 56::zq [15] 18 57::zq [15] 19 58::zq [15] 20 59::zq [15] 21 60::[]) [(_,_),(_,_),(_,_)] rfl ⟨z1 rfl,z1 rfl,zp rfl (oB rfl (ibind (f := Value.int .i64) (Option.some.inj hv20))),zp rfl (op_call _ _ 48 _ _ rfl call48 rfl (ok_wherryref11_in v20 1 63 _ hv21) rfl rfl),zp rfl (op_un _ _ _ _ rfl rfl),z8 hg10_5 rfl,zr' rfl (oM rfl),zr' rfl (oM rfl),zr' rfl (op_chr _ _ _ s88 _ underlying9 rfl rfl hv22),zr' rfl (oB rfl rfl),z3 false rfl,z8 hg10_11 rfl,zf rfl,zf rfl,zf rfl,zf rfl,zf rfl,z3 true rfl,zz⟩ ?_
           exact hl163 _ (Option.some.inj h).symm
          ·obtain ⟨v23, hv23, h⟩ := bind_some h
           obtain ⟨v24, hv24, h⟩ := bind_some h
           refine zg hn (_::_::_::_::(43,vi s89)::(44,vi s88)::(45,vi v20)::(46,vb v21)::(47,vb (!v21))::(48,vb false)::(49,vs s)::(50,vi s88)::(51,.v (.int .u8 v22))::(52,vb (v22 == 45))::(53,vb (v22 == 45))::(54,vb false)::(55,vs s)::(56,vi s89)::(57,vi v23)::(58,.v (.int .u8 v24))::(59,vb (v24 == 45))::(60,vb (v24 == 45))::[]) [0,1,2,3] [0,2,21] (zq [2] 4 43::zq [1] 5 44::zq [4,5] 6 45::zq [6] 7 46::zq [7] 8 47::zq [8] 9 48::zq [9,0] 10 49::zq [9,1] 11 50::zq [9,10,11] 12 51::zq [9,12] 13 52::zq [9,13] 14 53::zq [14] 15 54::zq [15,0] 16 55::zq [15,2] 17 56::zq [15,17] 18 57::zq [15,16,18] 19 58::zq [15,19] 20 59::zq [15,20] 21 60::[]) [(_,_),(_,_),(_,_)] rfl ⟨z1 rfl,z1 rfl,zp rfl (oB rfl (ibind (f := Value.int .i64) (Option.some.inj hv20))),zp rfl (op_call _ _ 48 _ _ rfl call48 rfl (ok_wherryref11_in v20 1 63 _ hv21) rfl rfl),zp rfl (op_un _ _ _ _ rfl rfl),z8 hg10_5 rfl,zr' rfl (oM rfl),zr' rfl (oM rfl),zr' rfl (op_chr _ _ _ s88 _ underlying9 rfl rfl hv22),zr' rfl (oB rfl rfl),z3 false rfl,z8 hg10_11 rfl,zr' rfl (oM rfl),zr' rfl (oM rfl),zr' rfl (oB rfl (ibind (f := Value.int .i64) (Option.some.inj hv23))),zr' rfl (op_chr _ _ _ v23 _ underlying9 rfl rfl hv24),zr' rfl (oB rfl rfl),z3 false rfl,zz⟩ ?_
           exact hl163 _ (Option.some.inj h).symm
      ·intro u152 h hl153 hr154
       refine cond_some h (fun hg7_4 h => ?_) (fun hg7_4 h => ?_)
       ·obtain ⟨v4, hv4, h⟩ := bind_some h
        refine zg hn [_,_,_,_,(15,vi s89),(16,vs s),(17,vi (s.size : Int)),(18,vb (decide (s89 < (s.size : Int)))),(19,vb true),(20,vs s),(21,vi s89),(22,.v (.int .u8 v4)),(23,vb (v4 != 46)),(24,vb (v4 != 46))] [0,1,2,3] [0,1,2,13] [zq [2] 4 15,zq [0] 5 16,zq [5] 6 17,zq [4,6] 7 18,zq [7] 8 19,zq [8,0] 9 20,zq [8,2] 10 21,zq [8,9,10] 11 22,zq [8,11] 12 23,zq [8,12] 13 24] [(_,_),(_,_),(_,_),(_,_)] rfl ⟨z1 rfl,z1 rfl,zp rfl (oN underlying9 rfl),z4 rfl rfl,z8 hg7_4 rfl,zr' rfl (oM rfl),zr' rfl (oM rfl),zr' rfl (op_chr _ _ _ s89 _ underlying9 rfl rfl hv4),zr' rfl (oB rfl rfl),z3 true rfl,zz⟩ ?_
        exact hl153 _ (Option.some.inj h).symm
       ·refine zg hn [_,_,_,_,(15,vi s89),(16,vs s),(17,vi (s.size : Int)),(18,vb (decide (s89 < (s.size : Int)))),(19,vb false),(20,.v undef),(21,.v undef),(22,.v undef),(23,.v undef),(24,vb false)] [0,1,2,3] [0,1,2,13] [zq [2] 4 15,zq [0] 5 16,zq [5] 6 17,zq [4,6] 7 18,zq [7] 8 19,zq [8] 9 20,zq [8] 10 21,zq [8] 11 22,zq [8] 12 23,zq [8] 13 24] [(_,_),(_,_),(_,_),(_,_)] rfl ⟨z1 rfl,z1 rfl,zp rfl (oN underlying9 rfl),z4 rfl rfl,z8 hg7_4 rfl,zt rfl,zt rfl,zt rfl,zt rfl,z3 false rfl,zz⟩ ?_
        exact hl153 _ (Option.some.inj h).symm
    ·have h := cond_f hb131 h
     refine ht_exit ?_
     refine pt_x_then ?_
     refine pt_x_then ?_
     refine pt_x_in ?_
     refine pt_pick [] (by kernel_rfl) (es' := []) rfl ?_
     exact hl126 _ (ho128 _ (Option.some.inj h).symm).symm
theorem ok_wherryref11_sign (c : Int) (r : Bool) (h : Sh.wherryref11_sign c = some r) : FnOK Tryd.prog 67 [.v (.int .u8 c)] (.v (.bool r)) := by
  unfold Sh.wherryref11_sign at h
  refine fn_ok func67 rfl (zl rfl) rfl rfl fun g0 hn hio => ?_
  refine zgg hn [_,(2,vb false)] [0] [0] [zq [] 1 2] [(_,_)] rfl ⟨z2 rfl,zz⟩ ?_
  refine ht_seq ?_
  refine ht_seq ?_
  refine ht_joinS h (fun (s3 : Bool) => [(0, .v (.int .u8 c)), (10, .v (.bool s3))]) ?_ ?_
  ·rintro s3 h
   refine pt_then ?_
   refine ht_cond _ rfl (fun hb7 => ?_) (fun hb7 => ?_)
   ·have h := cond_t hb7 h
    refine zgg hn [_,_,(2,vb true)] [0,1] [2] [zq [] 2 2] [(_,_)] rfl ⟨z2 rfl,zz⟩ ?_
    refine ht_ret ?_
    refine pt_r_then ?_
    obtain rfl := Option.some.inj h
    exact pt_ret hio rfl (.tmp _ _ .nil) rfl rfl
   ·have h := cond_f hb7 h
    refine ht_skip ?_
    refine pt_then ?_
    refine zgg hn [_,_,(3,vs (⟨#[33,35,36,37,38,39,42,43,45,47,61,63,94,95,123,124,125,126]⟩ : ByteArray))] [0,1] [0,2] [zq [] 2 3] [(_,_),(_,_)] rfl ⟨z2 rfl,zz⟩ ?_
    refine ht_seq ?_
    refine zgg hn [_,_,(4,vi 0)] [0,1] [0,1,2] [zq [] 2 4] [(_,_),(_,_),(_,_)] rfl ⟨z2 rfl,zz⟩ ?_
    refine ht_loopS h (fun (s15 : Int) => [(0, .v (.int .u8 c)), (3, .v (.string (⟨#[33, 35, 36, 37, 38, 39, 42, 43, 45, 47, 61, 63, 94, 95, 123, 124, 125, 126]⟩ : ByteArray))), (4, .v (.int .i64 s15))]) (fun (() : Unit) => [(0, .v (.int .u8 c))]) ?_ ?_
    ·rintro ⟨⟩ h
     refine pt_then ?_
     refine zgg hn [_,(22,.v (.int .u8 c)),(23,vb (c == 96)),(2,vb (c == 96))] [0] [3] [zq [0] 1 22,zq [1] 2 23,zq [2] 3 2] [(_,_)] rfl ⟨z1 rfl,z4 rfl rfl,z2 rfl,zz⟩ ?_
     refine ht_ret ?_
     obtain rfl := Option.some.inj h
     exact pt_ret hio rfl (.tmp _ _ .nil) rfl rfl
    ·rintro u18 hl19 hr20 s15 rr23 h ho21
     refine ht_seq ?_
     refine zgg hn [_,_,_,(11,vi s15),(12,vs (⟨#[33,35,36,37,38,39,42,43,45,47,61,63,94,95,123,124,125,126]⟩ : ByteArray)),(13,vi ((⟨#[33,35,36,37,38,39,42,43,45,47,61,63,94,95,123,124,125,126]⟩ : ByteArray).size : Int)),(14,vb (decide (s15 < (((⟨#[33,35,36,37,38,39,42,43,45,47,61,63,94,95,123,124,125,126]⟩ : ByteArray).size : Int)))))] [0,1,2] [0,1,2,6] [zq [2] 3 11,zq [1] 4 12,zq [4] 5 13,zq [3,5] 6 14] [(_,_),(_,_),(_,_),(_,_)] rfl ⟨z1 rfl,z1 rfl,zp rfl (oN underlying9 rfl),z4 rfl rfl,zz⟩ ?_
     refine ht_cond _ rfl (fun hb24 => ?_) (fun hb24 => ?_)
     ·have h := cond_t hb24 h
      refine ht_skip ?_
      refine pt_then (ht_seq ?_)
      refine ht_block ?_
      refine ht_seq ?_
      obtain ⟨v9, hv9, h⟩ := bind_some h
      refine zg hn [_,_,_,_,(17,vs (⟨#[33,35,36,37,38,39,42,43,45,47,61,63,94,95,123,124,125,126]⟩ : ByteArray)),(18,vi s15),(19,.v (.int .u8 v9)),(20,.v (.int .u8 c)),(21,vb (v9 == c))] [0,1,2,3] [0,1,2,8] [zq [1] 4 17,zq [2] 5 18,zq [4,5] 6 19,zq [0] 7 20,zq [6,7] 8 21] [(_,_),(_,_),(_,_),(_,_)] rfl ⟨z1 rfl,z1 rfl,zp rfl (op_chr _ _ _ s15 _ underlying9 rfl rfl hv9),z1 rfl,z4 rfl rfl,zz⟩ ?_
      refine pt_then ?_
      refine ht_cond _ rfl (fun hb25 => ?_) (fun hb25 => ?_)
      ·have h := cond_t hb25 h
       refine zgg hn [_,_,_,_,(2,vb true)] [0,1,2,3] [4] [zq [] 4 2] [(_,_)] rfl ⟨z2 rfl,zz⟩ ?_
       refine ht_ret ?_
       refine pt_r_in ?_
       refine pt_r_then ?_
       refine pt_r_then ?_
       refine pt_r_in ?_
       refine pt_r_then ?_
       have h := hr20 _ (ho21 _ (Option.some.inj h).symm).symm
       obtain rfl := Option.some.inj h
       exact pt_ret hio rfl (.tmp _ _ .nil) rfl rfl
      ·have h := cond_f hb25 h
       refine ht_skip ?_
       refine pt_inb ?_
       refine pt_then ?_
       obtain ⟨v11, hv11, h⟩ := bind_some h
       refine zg hn [_,_,_,_,(15,vi s15),(16,vi v11),(4,vi v11)] [0,1,2,3] [0,1,6] [zq [2] 4 15,zq [4] 5 16,⟨[5],[2],[6],[(.slot 4)]⟩] [(_,_),(_,_),(_,_)] rfl ⟨z1 rfl,zp rfl (oB rfl (ibind (f := Value.int .i64) (Option.some.inj hv11))),zp rfl (LOp.drop [_] (op_assign _ _ _ _ rfl rfl)),zz⟩ ?_
       exact pt_next _ (Option.some.inj h).symm rfl
     ·have h := cond_f hb24 h
      refine ht_exit ?_
      refine pt_x_then ?_
      refine pt_x_then ?_
      refine pt_x_in ?_
      refine pt_pick [0] (by kernel_rfl) (es' := [(_,_)]) rfl ?_
      exact hl19 _ (ho21 _ (Option.some.inj h).symm).symm
  ·intro u4 h hl5 hr6
   obtain ⟨v1, hv1, h⟩ := bind_some h
   refine cond_some h (fun hg1_2 h => ?_) (fun hg1_2 h => ?_)
   ·refine zg hn [_,(5,.v (.int .u8 c)),(6,vb v1),(7,vb true),(8,.v undef),(9,.v undef),(10,vb true)] [0] [0,6] [zq [0] 1 5,zq [1] 2 6,zq [2] 3 7,zq [3] 4 8,zq [3] 5 9,zq [3] 6 10] [(_,_),(_,_)] rfl ⟨z1 rfl,zp rfl (op_call _ _ 49 _ _ rfl call49 rfl (ok_wherryref11_letter c _ hv1) rfl rfl),z8 hg1_2 rfl,zf rfl,zf rfl,z3 true rfl,zz⟩ ?_
    exact hl5 _ (Option.some.inj h).symm
   ·obtain ⟨v2, hv2, h⟩ := bind_some h
    refine zg hn [_,(5,.v (.int .u8 c)),(6,vb v1),(7,vb false),(8,.v (.int .u8 c)),(9,vb v2),(10,vb v2)] [0] [0,6] [zq [0] 1 5,zq [1] 2 6,zq [2] 3 7,zq [3,0] 4 8,zq [3,4] 5 9,zq [3,5] 6 10] [(_,_),(_,_)] rfl ⟨z1 rfl,zp rfl (op_call _ _ 49 _ _ rfl call49 rfl (ok_wherryref11_letter c _ hv1) rfl rfl),z8 hg1_2 rfl,zr' rfl (oM rfl),zr' rfl (op_call _ _ 50 _ _ rfl call50 rfl (ok_wherryref11_digit c _ hv2) rfl rfl),z3 false rfl,zz⟩ ?_
    exact hl5 _ (Option.some.inj h).symm
theorem ok_wherryref11_Local (s : ByteArray) (r : Bool) (h : Sh.wherryref11_Local s = some r) : FnOK Tryd.prog 51 [.v (.string s)] (.v (.bool r)) := by
  unfold Sh.wherryref11_Local at h
  refine fn_ok func51 rfl (zl rfl) rfl rfl fun g0 hn hio => ?_
  refine zgg hn [_,(2,vb false)] [0] [0] [zq [] 1 2] [(_,_)] rfl ⟨z2 rfl,zz⟩ ?_
  refine ht_seq ?_
  refine ht_seq ?_
  refine ht_joinS h (fun (s5 : Bool) => [(0, .v (.string s)), (20, .v (.bool s5))]) ?_ ?_
  ·rintro s5 h
   refine pt_then ?_
   refine ht_cond _ rfl (fun hb9 => ?_) (fun hb9 => ?_)
   ·have h := cond_t hb9 h
    refine zgg hn [_,_,(2,vb false)] [0,1] [2] [zq [] 2 2] [(_,_)] rfl ⟨z2 rfl,zz⟩ ?_
    refine ht_ret ?_
    refine pt_r_then ?_
    obtain rfl := Option.some.inj h
    exact pt_ret hio rfl (.tmp _ _ .nil) rfl rfl
   ·have h := cond_f hb9 h
    refine ht_skip ?_
    refine pt_then (ht_seq ?_)
    refine zgg hn [_,_,(3,vi 0)] [0,1] [0,2] [zq [] 2 3] [(_,_),(_,_)] rfl ⟨z2 rfl,zz⟩ ?_
    refine ht_loopS h (fun (s33 : Int) => [(0, .v (.string s)), (3, .v (.int .i64 s33))]) (fun (() : Unit) => []) ?_ ?_
    ·rintro ⟨⟩ h
     refine pt_then ?_
     refine zgg hn [(2,vb true)] [] [0] [zq [] 0 2] [(_,_)] rfl ⟨z2 rfl,zz⟩ ?_
     refine ht_ret ?_
     obtain rfl := Option.some.inj h
     exact pt_ret hio rfl (.tmp _ _ .nil) rfl rfl
    ·rintro u40 hl41 hr42 s33 rr45 h ho43
     refine ht_seq ?_
     refine zgg hn [_,_,(21,vi s33),(22,vs s),(23,vi (s.size : Int)),(24,vb (decide (s33 < (s.size : Int))))] [0,1] [0,1,5] [zq [1] 2 21,zq [0] 3 22,zq [3] 4 23,zq [2,4] 5 24] [(_,_),(_,_),(_,_)] rfl ⟨z1 rfl,z1 rfl,zp rfl (oN underlying9 rfl),z4 rfl rfl,zz⟩ ?_
     refine ht_cond _ rfl (fun hb46 => ?_) (fun hb46 => ?_)
     ·have h := cond_t hb46 h
      refine ht_skip ?_
      refine pt_then (ht_seq ?_)
      refine ht_block ?_
      refine ht_seq ?_
      refine ht_joinS h (fun (s47 : Bool) => [(0, .v (.string s)), (3, .v (.int .i64 s33)), (50, .v (.bool s47))]) ?_ ?_
      ·rintro s47 h
       refine pt_then ?_
       refine ht_cond _ rfl (fun hb51 => ?_) (fun hb51 => ?_)
       ·have h := cond_t hb51 h
        refine zgg hn [_,_,_,(2,vb false)] [0,1,2] [3] [zq [] 3 2] [(_,_)] rfl ⟨z2 rfl,zz⟩ ?_
        refine ht_ret ?_
        refine pt_r_in ?_
        refine pt_r_then ?_
        refine pt_r_then ?_
        refine pt_r_in ?_
        refine pt_r_then ?_
        have h := hr42 _ (ho43 _ (Option.some.inj h).symm).symm
        obtain rfl := Option.some.inj h
        exact pt_ret hio rfl (.tmp _ _ .nil) rfl rfl
       ·have h := cond_f hb51 h
        refine ht_skip ?_
        refine pt_inb ?_
        refine pt_then ?_
        obtain ⟨v25, hv25, h⟩ := bind_some h
        refine zg hn [_,_,_,(25,vi s33),(26,vi v25),(3,vi v25)] [0,1,2] [0,5] [zq [1] 3 25,zq [3] 4 26,⟨[4],[1],[5],[(.slot 3)]⟩] [(_,_),(_,_)] rfl ⟨z1 rfl,zp rfl (oB rfl (ibind (f := Value.int .i64) (Option.some.inj hv25))),zp rfl (LOp.drop [_] (op_assign _ _ _ _ rfl rfl)),zz⟩ ?_
        exact pt_next _ (Option.some.inj h).symm rfl
      ·intro u48 h hl49 hr50
       obtain ⟨v11, hv11, h⟩ := bind_some h
       refine cond_some h (fun hg6_4 h => ?_) (fun hg6_4 h => ?_)
       ·obtain ⟨v12, hv12, h⟩ := bind_some h
        obtain ⟨v13, hv13, h⟩ := bind_some h
        refine cond_some h (fun hg6_11 h => ?_) (fun hg6_11 h => ?_)
        ·refine zg hn (_::_::_::(27,vs s)::(28,vi s33)::(29,.v (.int .u8 v11))::(30,vb (v11 == 46))::(31,vb true)::(32,vs s)::(33,vi s33)::(34,vi v12)::(35,.v (.int .u8 v13))::(36,vb (v13 == 46))::(37,vb (v13 == 46))::(38,vb true)::(39,.v undef)::(40,.v undef)::(41,.v undef)::(42,.v undef)::(43,.v undef)::(44,.v undef)::(45,.v undef)::(46,.v undef)::(47,.v undef)::(48,.v undef)::(49,.v undef)::(50,vb true)::[]) [0,1,2] [0,1,26] (zq [0] 3 27::zq [1] 4 28::zq [3,4] 5 29::zq [5] 6 30::zq [6] 7 31::zq [7,0] 8 32::zq [7,1] 9 33::zq [7,9] 10 34::zq [7,8,10] 11 35::zq [7,11] 12 36::zq [7,12] 13 37::zq [13] 14 38::zq [14] 15 39::zq [14] 16 40::zq [14] 17 41::zq [14] 18 42::zq [14] 19 43::zq [19] 20 44::zq [19] 21 45::zq [19] 22 46::zq [19] 23 47::zq [19] 24 48::zq [14] 25 49::zq [14] 26 50::[]) [(_,_),(_,_),(_,_)] rfl ⟨z1 rfl,z1 rfl,zp rfl (op_chr _ _ _ s33 _ underlying9 rfl rfl hv11),z4 rfl rfl,z8 hg6_4 rfl,zr' rfl (oM rfl),zr' rfl (oM rfl),zr' rfl (oB rfl (ibind (f := Value.int .i64) (Option.some.inj hv12))),zr' rfl (op_chr _ _ _ v12 _ underlying9 rfl rfl hv13),zr' rfl (oB rfl rfl),z3 true rfl,z8 hg6_11 rfl,zf rfl,zf rfl,zf rfl,zf rfl,zf rfl,zu' rfl,zu' rfl,zu' rfl,zu' rfl,zu' rfl,zf rfl,z3 true rfl,zz⟩ ?_
         exact hl49 _ (Option.some.inj h).symm
        ·obtain ⟨v14, hv14, h⟩ := bind_some h
         refine cond_some h (fun hg6_16 h => ?_) (fun hg6_16 h => ?_)
         ·obtain ⟨v15, hv15, h⟩ := bind_some h
          obtain ⟨v16, hv16, h⟩ := bind_some h
          refine zg hn (_::_::_::(27,vs s)::(28,vi s33)::(29,.v (.int .u8 v11))::(30,vb (v11 == 46))::(31,vb true)::(32,vs s)::(33,vi s33)::(34,vi v12)::(35,.v (.int .u8 v13))::(36,vb (v13 == 46))::(37,vb (v13 == 46))::(38,vb false)::(39,vs s)::(40,vi s33)::(41,.v (.int .u8 v14))::(42,vb (v14 != 46))::(43,vb true)::(44,vs s)::(45,vi s33)::(46,.v (.int .u8 v15))::(47,vb v16)::(48,vb (!v16))::(49,vb (!v16))::(50,vb (!v16))::[]) [0,1,2] [0,1,26] (zq [0] 3 27::zq [1] 4 28::zq [3,4] 5 29::zq [5] 6 30::zq [6] 7 31::zq [7,0] 8 32::zq [7,1] 9 33::zq [7,9] 10 34::zq [7,8,10] 11 35::zq [7,11] 12 36::zq [7,12] 13 37::zq [13] 14 38::zq [14,0] 15 39::zq [14,1] 16 40::zq [14,15,16] 17 41::zq [14,17] 18 42::zq [14,18] 19 43::zq [19,0] 20 44::zq [19,1] 21 45::zq [19,20,21] 22 46::zq [19,22] 23 47::zq [19,23] 24 48::zq [14,19,24] 25 49::zq [14,25] 26 50::[]) [(_,_),(_,_),(_,_)] rfl ⟨z1 rfl,z1 rfl,zp rfl (op_chr _ _ _ s33 _ underlying9 rfl rfl hv11),z4 rfl rfl,z8 hg6_4 rfl,zr' rfl (oM rfl),zr' rfl (oM rfl),zr' rfl (oB rfl (ibind (f := Value.int .i64) (Option.some.inj hv12))),zr' rfl (op_chr _ _ _ v12 _ underlying9 rfl rfl hv13),zr' rfl (oB rfl rfl),z3 true rfl,z8 hg6_11 rfl,zr' rfl (oM rfl),zr' rfl (oM rfl),zr' rfl (op_chr _ _ _ s33 _ underlying9 rfl rfl hv14),zr' rfl (oB rfl rfl),zr' rfl (op_move _ _ _ _ (zb hg6_16) rfl),zr' rfl (oM rfl),zr' rfl (oM rfl),zr' rfl (op_chr _ _ _ s33 _ underlying9 rfl rfl hv15),zr' rfl (op_call _ _ 67 _ _ rfl call67 rfl (ok_wherryref11_sign v15 _ hv16) rfl rfl),zr' rfl (op_un _ _ _ _ rfl rfl),zr' rfl (op_pick _ _ true _ rfl rfl),z3 false rfl,zz⟩ ?_
          exact hl49 _ (Option.some.inj h).symm
         ·refine zg hn (_::_::_::(27,vs s)::(28,vi s33)::(29,.v (.int .u8 v11))::(30,vb (v11 == 46))::(31,vb true)::(32,vs s)::(33,vi s33)::(34,vi v12)::(35,.v (.int .u8 v13))::(36,vb (v13 == 46))::(37,vb (v13 == 46))::(38,vb false)::(39,vs s)::(40,vi s33)::(41,.v (.int .u8 v14))::(42,vb (v14 != 46))::(43,vb false)::(44,.v undef)::(45,.v undef)::(46,.v undef)::(47,.v undef)::(48,.v undef)::(49,vb false)::(50,vb false)::[]) [0,1,2] [0,1,26] (zq [0] 3 27::zq [1] 4 28::zq [3,4] 5 29::zq [5] 6 30::zq [6] 7 31::zq [7,0] 8 32::zq [7,1] 9 33::zq [7,9] 10 34::zq [7,8,10] 11 35::zq [7,11] 12 36::zq [7,12] 13 37::zq [13] 14 38::zq [14,0] 15 39::zq [14,1] 16 40::zq [14,15,16] 17 41::zq [14,17] 18 42::zq [14,18] 19 43::zq [19] 20 44::zq [19] 21 45::zq [19] 22 46::zq [19] 23 47::zq [19] 24 48::zq [14,19] 25 49::zq [14,25] 26 50::[]) [(_,_),(_,_),(_,_)] rfl ⟨z1 rfl,z1 rfl,zp rfl (op_chr _ _ _ s33 _ underlying9 rfl rfl hv11),z4 rfl rfl,z8 hg6_4 rfl,zr' rfl (oM rfl),zr' rfl (oM rfl),zr' rfl (oB rfl (ibind (f := Value.int .i64) (Option.some.inj hv12))),zr' rfl (op_chr _ _ _ v12 _ underlying9 rfl rfl hv13),zr' rfl (oB rfl rfl),z3 true rfl,z8 hg6_11 rfl,zr' rfl (oM rfl),zr' rfl (oM rfl),zr' rfl (op_chr _ _ _ s33 _ underlying9 rfl rfl hv14),zr' rfl (oB rfl rfl),zr' rfl (op_move _ _ _ _ (zb hg6_16) rfl),zt rfl,zt rfl,zt rfl,zt rfl,zt rfl,zr' rfl (op_pick _ _ false _ rfl rfl),z3 false rfl,zz⟩ ?_
          exact hl49 _ (Option.some.inj h).symm
       ·obtain ⟨v17, hv17, h⟩ := bind_some h
        refine cond_some h (fun hg6_16 h => ?_) (fun hg6_16 h => ?_)
        ·obtain ⟨v18, hv18, h⟩ := bind_some h
         obtain ⟨v19, hv19, h⟩ := bind_some h
         refine zg hn (_::_::_::(27,vs s)::(28,vi s33)::(29,.v (.int .u8 v11))::(30,vb (v11 == 46))::(31,vb false)::(32,.v undef)::(33,.v undef)::(34,.v undef)::(35,.v undef)::(36,.v undef)::(37,vb false)::(38,vb false)::(39,vs s)::(40,vi s33)::(41,.v (.int .u8 v17))::(42,vb (v17 != 46))::(43,vb true)::(44,vs s)::(45,vi s33)::(46,.v (.int .u8 v18))::(47,vb v19)::(48,vb (!v19))::(49,vb (!v19))::(50,vb (!v19))::[]) [0,1,2] [0,1,26] (zq [0] 3 27::zq [1] 4 28::zq [3,4] 5 29::zq [5] 6 30::zq [6] 7 31::zq [7] 8 32::zq [7] 9 33::zq [7] 10 34::zq [7] 11 35::zq [7] 12 36::zq [7] 13 37::zq [13] 14 38::zq [14,0] 15 39::zq [14,1] 16 40::zq [14,15,16] 17 41::zq [14,17] 18 42::zq [14,18] 19 43::zq [19,0] 20 44::zq [19,1] 21 45::zq [19,20,21] 22 46::zq [19,22] 23 47::zq [19,23] 24 48::zq [14,19,24] 25 49::zq [14,25] 26 50::[]) [(_,_),(_,_),(_,_)] rfl ⟨z1 rfl,z1 rfl,zp rfl (op_chr _ _ _ s33 _ underlying9 rfl rfl hv11),z4 rfl rfl,z8 hg6_4 rfl,zt rfl,zt rfl,zt rfl,zt rfl,zt rfl,z3 false rfl,z1 rfl,zr' rfl (oM rfl),zr' rfl (oM rfl),zr' rfl (op_chr _ _ _ s33 _ underlying9 rfl rfl hv17),zr' rfl (oB rfl rfl),zr' rfl (op_move _ _ _ _ (zb hg6_16) rfl),zr' rfl (oM rfl),zr' rfl (oM rfl),zr' rfl (op_chr _ _ _ s33 _ underlying9 rfl rfl hv18),zr' rfl (op_call _ _ 67 _ _ rfl call67 rfl (ok_wherryref11_sign v18 _ hv19) rfl rfl),zr' rfl (op_un _ _ _ _ rfl rfl),zr' rfl (op_pick _ _ true _ rfl rfl),z3 false rfl,zz⟩ ?_
         exact hl49 _ (Option.some.inj h).symm
        ·refine zg hn (_::_::_::(27,vs s)::(28,vi s33)::(29,.v (.int .u8 v11))::(30,vb (v11 == 46))::(31,vb false)::(32,.v undef)::(33,.v undef)::(34,.v undef)::(35,.v undef)::(36,.v undef)::(37,vb false)::(38,vb false)::(39,vs s)::(40,vi s33)::(41,.v (.int .u8 v17))::(42,vb (v17 != 46))::(43,vb false)::(44,.v undef)::(45,.v undef)::(46,.v undef)::(47,.v undef)::(48,.v undef)::(49,vb false)::(50,vb false)::[]) [0,1,2] [0,1,26] (zq [0] 3 27::zq [1] 4 28::zq [3,4] 5 29::zq [5] 6 30::zq [6] 7 31::zq [7] 8 32::zq [7] 9 33::zq [7] 10 34::zq [7] 11 35::zq [7] 12 36::zq [7] 13 37::zq [13] 14 38::zq [14,0] 15 39::zq [14,1] 16 40::zq [14,15,16] 17 41::zq [14,17] 18 42::zq [14,18] 19 43::zq [19] 20 44::zq [19] 21 45::zq [19] 22 46::zq [19] 23 47::zq [19] 24 48::zq [14,19] 25 49::zq [14,25] 26 50::[]) [(_,_),(_,_),(_,_)] rfl ⟨z1 rfl,z1 rfl,zp rfl (op_chr _ _ _ s33 _ underlying9 rfl rfl hv11),z4 rfl rfl,z8 hg6_4 rfl,zt rfl,zt rfl,zt rfl,zt rfl,zt rfl,z3 false rfl,z1 rfl,zr' rfl (oM rfl),zr' rfl (oM rfl),zr' rfl (op_chr _ _ _ s33 _ underlying9 rfl rfl hv17),zr' rfl (oB rfl rfl),zr' rfl (op_move _ _ _ _ (zb hg6_16) rfl),zt rfl,zt rfl,zt rfl,zt rfl,zt rfl,zr' rfl (op_pick _ _ false _ rfl rfl),z3 false rfl,zz⟩ ?_
         exact hl49 _ (Option.some.inj h).symm
     ·have h := cond_f hb46 h
      refine ht_exit ?_
      refine pt_x_then ?_
      refine pt_x_then ?_
      refine pt_x_in ?_
      refine pt_pick [] (by kernel_rfl) (es' := []) rfl ?_
      exact hl41 _ (ho43 _ (Option.some.inj h).symm).symm
  ·intro u6 h hl7 hr8
   obtain ⟨v1, hv1, h⟩ := bind_some h
   refine cond_some h (fun hg1_4 h => ?_) (fun hg1_4 h => ?_)
   ·refine zg hn (_::(4,vs s)::(5,vi (s.size : Int))::(6,vb v1)::(7,vb (!v1))::(8,vb true)::(9,.v undef)::(10,.v undef)::(11,.v undef)::(12,vb true)::(13,vb true)::(14,.v undef)::(15,.v undef)::(16,.v undef)::(17,.v undef)::(18,.v undef)::(19,.v undef)::(20,vb true)::[]) [0] [0,17] (zq [0] 1 4::zq [1] 2 5::zq [2] 3 6::zq [3] 4 7::zq [4] 5 8::zq [5] 6 9::zq [5] 7 10::zq [5] 8 11::zq [5] 9 12::zq [9] 10 13::zq [10] 11 14::zq [10] 12 15::zq [10] 13 16::zq [10] 14 17::zq [10] 15 18::zq [10] 16 19::zq [10] 17 20::[]) [(_,_),(_,_)] rfl ⟨z1 rfl,zp rfl (oN underlying9 rfl),zp rfl (op_call _ _ 48 _ _ rfl call48 rfl (ok_wherryref11_in (s.size : Int) 1 64 _ hv1) rfl rfl),zp rfl (op_un _ _ _ _ rfl rfl),z8 hg1_4 rfl,zf rfl,zf rfl,zf rfl,z3 true rfl,z1 rfl,zf rfl,zf rfl,zf rfl,zf rfl,zf rfl,zf rfl,z3 true rfl,zz⟩ ?_
    exact hl7 _ (Option.some.inj h).symm
   ·obtain ⟨v2, hv2, h⟩ := bind_some h
    refine cond_some h (fun hg1_9 h => ?_) (fun hg1_9 h => ?_)
    ·refine zg hn (_::(4,vs s)::(5,vi (s.size : Int))::(6,vb v1)::(7,vb (!v1))::(8,vb false)::(9,vs s)::(10,.v (.int .u8 v2))::(11,vb (v2 == 46))::(12,vb (v2 == 46))::(13,vb true)::(14,.v undef)::(15,.v undef)::(16,.v undef)::(17,.v undef)::(18,.v undef)::(19,.v undef)::(20,vb true)::[]) [0] [0,17] (zq [0] 1 4::zq [1] 2 5::zq [2] 3 6::zq [3] 4 7::zq [4] 5 8::zq [5,0] 6 9::zq [5,6] 7 10::zq [5,7] 8 11::zq [5,8] 9 12::zq [9] 10 13::zq [10] 11 14::zq [10] 12 15::zq [10] 13 16::zq [10] 14 17::zq [10] 15 18::zq [10] 16 19::zq [10] 17 20::[]) [(_,_),(_,_)] rfl ⟨z1 rfl,zp rfl (oN underlying9 rfl),zp rfl (op_call _ _ 48 _ _ rfl call48 rfl (ok_wherryref11_in (s.size : Int) 1 64 _ hv1) rfl rfl),zp rfl (op_un _ _ _ _ rfl rfl),z8 hg1_4 rfl,zr' rfl (oM rfl),zr' rfl (op_chr _ _ _ 0 _ underlying9 rfl rfl hv2),zr' rfl (oB rfl rfl),z3 false rfl,z8 hg1_9 rfl,zf rfl,zf rfl,zf rfl,zf rfl,zf rfl,zf rfl,z3 true rfl,zz⟩ ?_
     exact hl7 _ (Option.some.inj h).symm
    ·obtain ⟨v3, hv3, h⟩ := bind_some h
     obtain ⟨v4, hv4, h⟩ := bind_some h
     refine zg hn (_::(4,vs s)::(5,vi (s.size : Int))::(6,vb v1)::(7,vb (!v1))::(8,vb false)::(9,vs s)::(10,.v (.int .u8 v2))::(11,vb (v2 == 46))::(12,vb (v2 == 46))::(13,vb false)::(14,vs s)::(15,vs s)::(16,vi (s.size : Int))::(17,vi v3)::(18,.v (.int .u8 v4))::(19,vb (v4 == 46))::(20,vb (v4 == 46))::[]) [0] [0,17] (zq [0] 1 4::zq [1] 2 5::zq [2] 3 6::zq [3] 4 7::zq [4] 5 8::zq [5,0] 6 9::zq [5,6] 7 10::zq [5,7] 8 11::zq [5,8] 9 12::zq [9] 10 13::zq [10,0] 11 14::zq [10,0] 12 15::zq [10,12] 13 16::zq [10,13] 14 17::zq [10,11,14] 15 18::zq [10,15] 16 19::zq [10,16] 17 20::[]) [(_,_),(_,_)] rfl ⟨z1 rfl,zp rfl (oN underlying9 rfl),zp rfl (op_call _ _ 48 _ _ rfl call48 rfl (ok_wherryref11_in (s.size : Int) 1 64 _ hv1) rfl rfl),zp rfl (op_un _ _ _ _ rfl rfl),z8 hg1_4 rfl,zr' rfl (oM rfl),zr' rfl (op_chr _ _ _ 0 _ underlying9 rfl rfl hv2),zr' rfl (oB rfl rfl),z3 false rfl,z8 hg1_9 rfl,zr' rfl (oM rfl),zr' rfl (oM rfl),zr' rfl (oN underlying9 rfl),zr' rfl (oB rfl (ibind (f := Value.int .i64) (Option.some.inj hv3))),zr' rfl (op_chr _ _ _ v3 _ underlying9 rfl rfl hv4),zr' rfl (oB rfl rfl),z3 false rfl,zz⟩ ?_
     exact hl7 _ (Option.some.inj h).symm
theorem ok_wherryref11_Path (p : T_Path) (r : Bool) (h : Sh.wherryref11_Path p = some r) : FnOK Tryd.prog 28 [.agg [.v (.bool p.Null), .v (.string p.Local), .v (.string p.Domain)]] (.v (.bool r)) := by
  unfold Sh.wherryref11_Path at h
  refine fn_ok func28 rfl (zl rfl) rfl rfl fun g0 hn hio => ?_
  refine zgg hn [_,(1,.box 23 [vb p.Null,vs p.Local,vs p.Domain]),(2,vb false)] [0] [1] [zq [0] 1 1,zq [] 2 2] [(_,_)] rfl ⟨zp rfl (op_box _ _ _ _ rfl rfl rfl),z2 rfl,zz⟩ ?_
  refine ht_seq ?_
  refine zgg hn [_,(3,.ptr 1 0),(4,vb p.Null)] [0] [0,2] [zq [0] 1 3,zq [1,0] 2 4] [(_,_),(_,_)] rfl ⟨zp rfl (oF underlying23 rfl sz4),zp rfl (oL underlying4 rfl),zz⟩ ?_
  refine ht_cond _ rfl (fun hb1 => ?_) (fun hb1 => ?_)
  ·have h := cond_t hb1 h
   refine ht_seq ?_
   refine ht_joinS h (fun (s2 : Bool) => [(2, .v (.bool s2))]) ?_ ?_
   ·rintro s2 h
    refine pt_then (ht_ret ?_)
    refine pt_r_then ?_
    obtain rfl := Option.some.inj h
    exact pt_ret hio rfl (.tmp _ _ .nil) rfl rfl
   ·intro u3 h hl4 hr5
    refine cond_some h (fun hg2_3 h => ?_) (fun hg2_3 h => ?_)
    ·refine zg hn [_,_,(5,.ptr 1 1),(6,vs p.Local),(7,vb (p.Local.toList == z0.toList)),(8,vb true),(9,.ptr 1 2),(10,vs p.Domain),(11,vb (p.Domain.toList == z0.toList)),(12,vb (p.Domain.toList == z0.toList)),(2,vb (p.Domain.toList == z0.toList))] [0,1] [10] [zq [0] 2 5,zq [2,0] 3 6,zq [3] 4 7,zq [4] 5 8,zq [5,0] 6 9,zq [5,6,0] 7 10,zq [5,7] 8 11,zq [5,8] 9 12,zq [9] 10 2] [(_,_)] rfl ⟨zp rfl (oF underlying23 rfl sz9),zp rfl (oL underlying9 rfl),z4 rfl rfl,z8 hg2_3 rfl,zr' rfl (oF underlying23 rfl sz9),zr' rfl (oL underlying9 rfl),zr' rfl (oB rfl rfl),z3 true rfl,z2 rfl,zz⟩ ?_
     exact hl4 _ (Option.some.inj h).symm
    ·refine zg hn [_,_,(5,.ptr 1 1),(6,vs p.Local),(7,vb (p.Local.toList == z0.toList)),(8,vb false),(9,.v undef),(10,.v undef),(11,.v undef),(12,vb false),(2,vb false)] [0,1] [10] [zq [0] 2 5,zq [2,0] 3 6,zq [3] 4 7,zq [4] 5 8,zq [5] 6 9,zq [5] 7 10,zq [5] 8 11,zq [5] 9 12,zq [9] 10 2] [(_,_)] rfl ⟨zp rfl (oF underlying23 rfl sz9),zp rfl (oL underlying9 rfl),z4 rfl rfl,z8 hg2_3 rfl,zt rfl,zt rfl,zt rfl,z3 false rfl,z2 rfl,zz⟩ ?_
     exact hl4 _ (Option.some.inj h).symm
  ·have h := cond_f hb1 h
   refine ht_skip ?_
   refine pt_then (ht_seq ?_)
   refine ht_joinS h (fun (s8 : Bool) => [(2, .v (.bool s8))]) ?_ ?_
   ·rintro s8 h
    refine pt_then (ht_ret ?_)
    obtain rfl := Option.some.inj h
    exact pt_ret hio rfl (.tmp _ _ .nil) rfl rfl
   ·intro u9 h hl10 hr11
    obtain ⟨v6, hv6, h⟩ := bind_some h
    refine cond_some h (fun hg3_3 h => ?_) (fun hg3_3 h => ?_)
    ·obtain ⟨v7, hv7, h⟩ := bind_some h
     refine zg hn [_,_,(13,.ptr 1 1),(14,vs p.Local),(15,vb v6),(16,vb true),(17,.ptr 1 2),(18,vs p.Domain),(19,vb v7),(20,vb v7),(2,vb v7)] [0,1] [10] [zq [0] 2 13,zq [2,0] 3 14,zq [3] 4 15,zq [4] 5 16,zq [5,0] 6 17,zq [5,6,0] 7 18,zq [5,7] 8 19,zq [5,8] 9 20,zq [9] 10 2] [(_,_)] rfl ⟨zp rfl (oF underlying23 rfl sz9),zp rfl (oL underlying9 rfl),zp rfl (op_call _ _ 51 _ _ rfl call51 rfl (ok_wherryref11_Local p.Local _ hv6) rfl rfl),z8 hg3_3 rfl,zr' rfl (oF underlying23 rfl sz9),zr' rfl (oL underlying9 rfl),zr' rfl (op_call _ _ 27 _ _ rfl call27 rfl (ok_wherryref11_Domain p.Domain _ hv7) rfl rfl),z3 true rfl,z2 rfl,zz⟩ ?_
     exact hl10 _ (Option.some.inj h).symm
    ·refine zg hn [_,_,(13,.ptr 1 1),(14,vs p.Local),(15,vb v6),(16,vb false),(17,.v undef),(18,.v undef),(19,.v undef),(20,vb false),(2,vb false)] [0,1] [10] [zq [0] 2 13,zq [2,0] 3 14,zq [3] 4 15,zq [4] 5 16,zq [5] 6 17,zq [5] 7 18,zq [5] 8 19,zq [5] 9 20,zq [9] 10 2] [(_,_)] rfl ⟨zp rfl (oF underlying23 rfl sz9),zp rfl (oL underlying9 rfl),zp rfl (op_call _ _ 51 _ _ rfl call51 rfl (ok_wherryref11_Local p.Local _ hv6) rfl rfl),z8 hg3_3 rfl,zt rfl,zt rfl,zt rfl,z3 false rfl,z2 rfl,zz⟩ ?_
     exact hl10 _ (Option.some.inj h).symm
theorem ok_wherryref11_RightReport (site : ByteArray) (sender : T_Path) (rcpt : T_Path) (r : Bool) (h : Sh.wherryref11_RightReport site sender rcpt = some r) : FnOK Tryd.prog 10 [.v (.string site), .agg [.v (.bool sender.Null), .v (.string sender.Local), .v (.string sender.Domain)], .agg [.v (.bool rcpt.Null), .v (.string rcpt.Local), .v (.string rcpt.Domain)]] (.v (.bool r)) := by
  unfold Sh.wherryref11_RightReport at h
  refine fn_ok func10 rfl (zl rfl) rfl rfl fun g0 hn hio => ?_
  refine zgg hn [_,_,_,(4,.box 23 [vb sender.Null,vs sender.Local,vs sender.Domain]),(5,.box 23 [vb rcpt.Null,vs rcpt.Local,vs rcpt.Domain]),(6,vb false)] [0,1,2] [0,3,4] [zq [1] 3 4,zq [2] 4 5,zq [] 5 6] [(_,_),(_,_),(_,_)] rfl ⟨zp rfl (op_box _ _ _ _ rfl rfl rfl),zp rfl (op_box _ _ _ _ rfl rfl rfl),z2 rfl,zz⟩ ?_
  refine ht_seq ?_
  refine ht_joinS h (fun (s4 : Bool) => [(6, .v (.bool s4))]) ?_ ?_
  ·rintro s4 h
   refine pt_then (ht_ret ?_)
   obtain rfl := Option.some.inj h
   exact pt_ret hio rfl (.tmp _ _ .nil) rfl rfl
  ·intro u5 h hl6 hr7
   obtain ⟨v1, hv1, h⟩ := bind_some h
   refine cond_some h (fun hg1_2 h => ?_) (fun hg1_2 h => ?_)
   ·obtain ⟨v2, hv2, h⟩ := bind_some h
    refine cond_some h (fun hg1_6 h => ?_) (fun hg1_6 h => ?_)
    ·obtain ⟨v3, hv3, h⟩ := bind_some h
     refine cond_some h (fun hg1_10 h => ?_) (fun hg1_10 h => ?_)
     ·refine cond_some h (fun hg1_15 h => ?_) (fun hg1_15 h => ?_)
      ·refine zg hn (_::_::_::(7,vs site)::(8,vb v1)::(9,vb true)::(10,.agg [vb sender.Null,vs sender.Local,vs sender.Domain])::(11,vb v2)::(12,vb v2)::(13,vb true)::(14,.agg [vb rcpt.Null,vs rcpt.Local,vs rcpt.Domain])::(15,vb v3)::(16,vb v3)::(17,vb true)::(18,.ptr 4 0)::(19,vb sender.Null)::(20,vb (!sender.Null))::(21,vb (!sender.Null))::(22,vb true)::(23,.ptr 5 0)::(24,vb rcpt.Null)::(25,vb (!rcpt.Null))::(26,vb (!rcpt.Null))::(6,vb (!rcpt.Null))::[]) [0,1,2] [23] (zq [0] 3 7::zq [3] 4 8::zq [4] 5 9::zq [5,1] 6 10::zq [5,6] 7 11::zq [5,7] 8 12::zq [8] 9 13::zq [9,2] 10 14::zq [9,10] 11 15::zq [9,11] 12 16::zq [12] 13 17::zq [13,1] 14 18::zq [13,14,1] 15 19::zq [13,15] 16 20::zq [13,16] 17 21::zq [17] 18 22::zq [18,2] 19 23::zq [18,19,2] 20 24::zq [18,20] 21 25::zq [18,21] 22 26::zq [22] 23 6::[]) [(_,_)] rfl ⟨z1 rfl,zp rfl (op_call _ _ 27 _ _ rfl call27 rfl (ok_wherryref11_Domain site _ hv1) rfl rfl),z8 hg1_2 rfl,zr' rfl (op_loadA _ _ _ _ _ _ _ underlying23 rfl sz23 rfl rfl (zl rfl) rfl rfl),zr' rfl (op_call _ _ 28 _ _ rfl call28 rfl (ok_wherryref11_Path sender _ hv2) rfl rfl),z3 true rfl,z8 hg1_6 rfl,zr' rfl (op_loadA _ _ _ _ _ _ _ underlying23 rfl sz23 rfl rfl (zl rfl) rfl rfl),zr' rfl (op_call _ _ 28 _ _ rfl call28 rfl (ok_wherryref11_Path rcpt _ hv3) rfl rfl),z3 true rfl,z8 hg1_10 rfl,zr' rfl (oF underlying23 rfl sz4),zr' rfl (oL underlying4 rfl),zr' rfl (op_un _ _ _ _ rfl rfl),z3 true rfl,z8 hg1_15 rfl,zr' rfl (oF underlying23 rfl sz4),zr' rfl (oL underlying4 rfl),zr' rfl (op_un _ _ _ _ rfl rfl),z3 true rfl,z2 rfl,zz⟩ ?_
       exact hl6 _ (Option.some.inj h).symm
      ·refine zg hn (_::_::_::(7,vs site)::(8,vb v1)::(9,vb true)::(10,.agg [vb sender.Null,vs sender.Local,vs sender.Domain])::(11,vb v2)::(12,vb v2)::(13,vb true)::(14,.agg [vb rcpt.Null,vs rcpt.Local,vs rcpt.Domain])::(15,vb v3)::(16,vb v3)::(17,vb true)::(18,.ptr 4 0)::(19,vb sender.Null)::(20,vb (!sender.Null))::(21,vb (!sender.Null))::(22,vb false)::(23,.v undef)::(24,.v undef)::(25,.v undef)::(26,vb false)::(6,vb false)::[]) [0,1,2] [23] (zq [0] 3 7::zq [3] 4 8::zq [4] 5 9::zq [5,1] 6 10::zq [5,6] 7 11::zq [5,7] 8 12::zq [8] 9 13::zq [9,2] 10 14::zq [9,10] 11 15::zq [9,11] 12 16::zq [12] 13 17::zq [13,1] 14 18::zq [13,14,1] 15 19::zq [13,15] 16 20::zq [13,16] 17 21::zq [17] 18 22::zq [18] 19 23::zq [18] 20 24::zq [18] 21 25::zq [18] 22 26::zq [22] 23 6::[]) [(_,_)] rfl ⟨z1 rfl,zp rfl (op_call _ _ 27 _ _ rfl call27 rfl (ok_wherryref11_Domain site _ hv1) rfl rfl),z8 hg1_2 rfl,zr' rfl (op_loadA _ _ _ _ _ _ _ underlying23 rfl sz23 rfl rfl (zl rfl) rfl rfl),zr' rfl (op_call _ _ 28 _ _ rfl call28 rfl (ok_wherryref11_Path sender _ hv2) rfl rfl),z3 true rfl,z8 hg1_6 rfl,zr' rfl (op_loadA _ _ _ _ _ _ _ underlying23 rfl sz23 rfl rfl (zl rfl) rfl rfl),zr' rfl (op_call _ _ 28 _ _ rfl call28 rfl (ok_wherryref11_Path rcpt _ hv3) rfl rfl),z3 true rfl,z8 hg1_10 rfl,zr' rfl (oF underlying23 rfl sz4),zr' rfl (oL underlying4 rfl),zr' rfl (op_un _ _ _ _ rfl rfl),z3 true rfl,z8 hg1_15 rfl,zt rfl,zt rfl,zt rfl,z3 false rfl,z2 rfl,zz⟩ ?_
       exact hl6 _ (Option.some.inj h).symm
     ·refine zg hn (_::_::_::(7,vs site)::(8,vb v1)::(9,vb true)::(10,.agg [vb sender.Null,vs sender.Local,vs sender.Domain])::(11,vb v2)::(12,vb v2)::(13,vb true)::(14,.agg [vb rcpt.Null,vs rcpt.Local,vs rcpt.Domain])::(15,vb v3)::(16,vb v3)::(17,vb false)::(18,.v undef)::(19,.v undef)::(20,.v undef)::(21,vb false)::(22,vb false)::(23,.v undef)::(24,.v undef)::(25,.v undef)::(26,vb false)::(6,vb false)::[]) [0,1,2] [23] (zq [0] 3 7::zq [3] 4 8::zq [4] 5 9::zq [5,1] 6 10::zq [5,6] 7 11::zq [5,7] 8 12::zq [8] 9 13::zq [9,2] 10 14::zq [9,10] 11 15::zq [9,11] 12 16::zq [12] 13 17::zq [13] 14 18::zq [13] 15 19::zq [13] 16 20::zq [13] 17 21::zq [17] 18 22::zq [18] 19 23::zq [18] 20 24::zq [18] 21 25::zq [18] 22 26::zq [22] 23 6::[]) [(_,_)] rfl ⟨z1 rfl,zp rfl (op_call _ _ 27 _ _ rfl call27 rfl (ok_wherryref11_Domain site _ hv1) rfl rfl),z8 hg1_2 rfl,zr' rfl (op_loadA _ _ _ _ _ _ _ underlying23 rfl sz23 rfl rfl (zl rfl) rfl rfl),zr' rfl (op_call _ _ 28 _ _ rfl call28 rfl (ok_wherryref11_Path sender _ hv2) rfl rfl),z3 true rfl,z8 hg1_6 rfl,zr' rfl (op_loadA _ _ _ _ _ _ _ underlying23 rfl sz23 rfl rfl (zl rfl) rfl rfl),zr' rfl (op_call _ _ 28 _ _ rfl call28 rfl (ok_wherryref11_Path rcpt _ hv3) rfl rfl),z3 true rfl,z8 hg1_10 rfl,zt rfl,zt rfl,zt rfl,z3 false rfl,z1 rfl,zt rfl,zt rfl,zt rfl,z3 false rfl,z2 rfl,zz⟩ ?_
      exact hl6 _ (Option.some.inj h).symm
    ·refine zg hn (_::_::_::(7,vs site)::(8,vb v1)::(9,vb true)::(10,.agg [vb sender.Null,vs sender.Local,vs sender.Domain])::(11,vb v2)::(12,vb v2)::(13,vb false)::(14,.v undef)::(15,.v undef)::(16,vb false)::(17,vb false)::(18,.v undef)::(19,.v undef)::(20,.v undef)::(21,vb false)::(22,vb false)::(23,.v undef)::(24,.v undef)::(25,.v undef)::(26,vb false)::(6,vb false)::[]) [0,1,2] [23] (zq [0] 3 7::zq [3] 4 8::zq [4] 5 9::zq [5,1] 6 10::zq [5,6] 7 11::zq [5,7] 8 12::zq [8] 9 13::zq [9] 10 14::zq [9] 11 15::zq [9] 12 16::zq [12] 13 17::zq [13] 14 18::zq [13] 15 19::zq [13] 16 20::zq [13] 17 21::zq [17] 18 22::zq [18] 19 23::zq [18] 20 24::zq [18] 21 25::zq [18] 22 26::zq [22] 23 6::[]) [(_,_)] rfl ⟨z1 rfl,zp rfl (op_call _ _ 27 _ _ rfl call27 rfl (ok_wherryref11_Domain site _ hv1) rfl rfl),z8 hg1_2 rfl,zr' rfl (op_loadA _ _ _ _ _ _ _ underlying23 rfl sz23 rfl rfl (zl rfl) rfl rfl),zr' rfl (op_call _ _ 28 _ _ rfl call28 rfl (ok_wherryref11_Path sender _ hv2) rfl rfl),z3 true rfl,z8 hg1_6 rfl,zt rfl,zt rfl,z3 false rfl,z1 rfl,zt rfl,zt rfl,zt rfl,z3 false rfl,z1 rfl,zt rfl,zt rfl,zt rfl,z3 false rfl,z2 rfl,zz⟩ ?_
     exact hl6 _ (Option.some.inj h).symm
   ·refine zg hn (_::_::_::(7,vs site)::(8,vb v1)::(9,vb false)::(10,.v undef)::(11,.v undef)::(12,vb false)::(13,vb false)::(14,.v undef)::(15,.v undef)::(16,vb false)::(17,vb false)::(18,.v undef)::(19,.v undef)::(20,.v undef)::(21,vb false)::(22,vb false)::(23,.v undef)::(24,.v undef)::(25,.v undef)::(26,vb false)::(6,vb false)::[]) [0,1,2] [23] (zq [0] 3 7::zq [3] 4 8::zq [4] 5 9::zq [5] 6 10::zq [5] 7 11::zq [5] 8 12::zq [8] 9 13::zq [9] 10 14::zq [9] 11 15::zq [9] 12 16::zq [12] 13 17::zq [13] 14 18::zq [13] 15 19::zq [13] 16 20::zq [13] 17 21::zq [17] 18 22::zq [18] 19 23::zq [18] 20 24::zq [18] 21 25::zq [18] 22 26::zq [22] 23 6::[]) [(_,_)] rfl ⟨z1 rfl,zp rfl (op_call _ _ 27 _ _ rfl call27 rfl (ok_wherryref11_Domain site _ hv1) rfl rfl),z8 hg1_2 rfl,zt rfl,zt rfl,z3 false rfl,z1 rfl,zt rfl,zt rfl,z3 false rfl,z1 rfl,zt rfl,zt rfl,zt rfl,z3 false rfl,z1 rfl,zt rfl,zt rfl,zt rfl,z3 false rfl,z2 rfl,zz⟩ ?_
    exact hl6 _ (Option.some.inj h).symm
theorem ok_wherryref11_Text (p : T_Path) (r : ByteArray) (h : Sh.wherryref11_Text p = some r) : FnOK Tryd.prog 29 [.agg [.v (.bool p.Null), .v (.string p.Local), .v (.string p.Domain)]] (.v (.string r)) := by
  unfold Sh.wherryref11_Text at h
  refine fn_ok func29 rfl (zl rfl) rfl rfl fun g0 hn hio => ?_
  refine zgg hn [_,(1,.box 23 [vb p.Null,vs p.Local,vs p.Domain]),(2,vs z0)] [0] [1] [zq [0] 1 1,zq [] 2 2] [(_,_)] rfl ⟨zp rfl (op_box _ _ _ _ rfl rfl rfl),z2 rfl,zz⟩ ?_
  refine ht_seq ?_
  refine zgg hn [_,(3,.ptr 1 0),(4,vb p.Null)] [0] [0,2] [zq [0] 1 3,zq [1,0] 2 4] [(_,_),(_,_)] rfl ⟨zp rfl (oF underlying23 rfl sz4),zp rfl (oL underlying4 rfl),zz⟩ ?_
  refine ht_cond _ rfl (fun hb1 => ?_) (fun hb1 => ?_)
  ·have h := cond_t hb1 h
   refine zgg hn [_,_,(2,vs (⟨#[60,62]⟩ : ByteArray))] [0,1] [2] [zq [] 2 2] [(_,_)] rfl ⟨z2 rfl,zz⟩ ?_
   refine ht_ret ?_
   refine pt_r_then ?_
   obtain rfl := Option.some.inj h
   exact pt_ret hio rfl (.tmp _ _ .nil) rfl rfl
  ·have h := cond_f hb1 h
   refine ht_skip ?_
   refine pt_then (ht_seq ?_)
   obtain ⟨v2, hv2, h⟩ := bind_some h
   obtain ⟨v3, hv3, h⟩ := bind_some h
   obtain ⟨v4, hv4, h⟩ := bind_some h
   obtain ⟨v5, hv5, h⟩ := bind_some h
   refine zg hn [_,_,(5,.ptr 1 1),(6,vs p.Local),(7,vs v2),(8,vs v3),(9,.ptr 1 2),(10,vs p.Domain),(11,vs v4),(12,vs v5),(2,vs v5)] [0,1] [10] [zq [0] 2 5,zq [2,0] 3 6,zq [3] 4 7,zq [4] 5 8,zq [0] 6 9,zq [6,0] 7 10,zq [5,7] 8 11,zq [8] 9 12,zq [9] 10 2] [(_,_)] rfl ⟨zp rfl (oF underlying23 rfl sz9),zp rfl (oL underlying9 rfl),zp rfl (oB rfl (cat_ok hv2)),zp rfl (oB rfl (cat_ok hv3)),zp rfl (oF underlying23 rfl sz9),zp rfl (oL underlying9 rfl),zp rfl (oB rfl (cat_ok hv4)),zp rfl (oB rfl (cat_ok hv5)),z2 rfl,zz⟩ ?_
   refine pt_then (ht_ret ?_)
   obtain rfl := Option.some.inj h
   exact pt_ret hio rfl (.tmp _ _ .nil) rfl rfl
theorem ok_wherryref11_Report (site : ByteArray) (sender : T_Path) (rcpt : T_Path) (r : (List Int)) (h : Sh.wherryref11_Report site sender rcpt = some r) : FnOK Tryd.prog 12 [.v (.string site), .agg [.v (.bool sender.Null), .v (.string sender.Local), .v (.string sender.Domain)], .agg [.v (.bool rcpt.Null), .v (.string rcpt.Local), .v (.string rcpt.Domain)]] (.mkr 5 (List.map (Value.int .u8) r)) := by
  unfold Sh.wherryref11_Report at h
  refine fn_ok func12 rfl (zl rfl) rfl rfl fun g0 hn hio => ?_
  refine zgg hn [_,_,_,(4,.box 23 [vb sender.Null,vs sender.Local,vs sender.Domain]),(5,.box 23 [vb rcpt.Null,vs rcpt.Local,vs rcpt.Domain]),(6,.v (.slice none 0 0))] [0,1,2] [0,3,4] [zq [1] 3 4,zq [2] 4 5,zq [] 5 6] [(_,_),(_,_),(_,_)] rfl ⟨zp rfl (op_box _ _ _ _ rfl rfl rfl),zp rfl (op_box _ _ _ _ rfl rfl rfl),z2 rfl,zz⟩ ?_
  refine ht_seq ?_
  obtain ⟨v1, hv1, h⟩ := bind_some h
  obtain ⟨v2, hv2, h⟩ := bind_some h
  obtain ⟨v3, hv3, h⟩ := bind_some h
  obtain ⟨v4, hv4, h⟩ := bind_some h
  obtain ⟨v5, hv5, h⟩ := bind_some h
  obtain ⟨v6, hv6, h⟩ := bind_some h
  obtain ⟨v7, hv7, h⟩ := bind_some h
  obtain ⟨v8, hv8, h⟩ := bind_some h
  obtain ⟨v9, hv9, h⟩ := bind_some h
  obtain ⟨v10, hv10, h⟩ := bind_some h
  refine ht_anyR (by kernel_rfl) hn (El := (_ :: _ :: _ :: (10, .v (.string site)) :: (11, .v (.string v1)) :: (12, .v (.string v2)) :: (13, .agg [.v (.bool sender.Null), .v (.string sender.Local), .v (.string sender.Domain)]) :: (14, .v (.string v3)) :: (15, .v (.string v4)) :: (16, .agg [.v (.bool rcpt.Null), .v (.string rcpt.Local), .v (.string rcpt.Domain)]) :: (17, .v (.string v5)) :: (18, .v (.string v6)) :: (19, .v (.string v7)) :: (20, .v (.string site)) :: (21, .v (.string v8)) :: (22, .agg [.v (.bool rcpt.Null), .v (.string rcpt.Local), .v (.string rcpt.Domain)]) :: (23, .v (.string v9)) :: (24, .v (.string v10)) :: (25, .fl (.own 9) 1 (List.map Value.string ([v2, v4, (⟨#[83, 117, 98, 106, 101, 99, 116, 58, 32, 85, 110, 100, 101, 108, 105, 118, 101, 114, 101, 100, 32, 109, 97, 105, 108]⟩ : ByteArray), (⟨#[67, 111, 110, 116, 101, 110, 116, 45, 84, 121, 112, 101, 58, 32, 109, 117, 108, 116, 105, 112, 97, 114, 116, 47, 114, 101, 112, 111, 114, 116, 59, 32, 114, 101, 112, 111, 114, 116, 45, 116, 121, 112, 101, 61, 100, 101, 108, 105, 118, 101, 114, 121, 45, 115, 116, 97, 116, 117, 115, 59, 32, 98, 111, 117, 110, 100, 97, 114, 121, 61, 119]⟩ : ByteArray), (⟨#[]⟩ : ByteArray), (⟨#[45, 45, 119]⟩ : ByteArray), (⟨#[67, 111, 110, 116, 101, 110, 116, 45, 84, 121, 112, 101, 58, 32, 116, 101, 120, 116, 47, 112, 108, 97, 105, 110]⟩ : ByteArray), (⟨#[]⟩ : ByteArray), v7, (⟨#[45, 45, 119]⟩ : ByteArray), (⟨#[67, 111, 110, 116, 101, 110, 116, 45, 84, 121, 112, 101, 58, 32, 109, 101, 115, 115, 97, 103, 101, 47, 100, 101, 108, 105, 118, 101, 114, 121, 45, 115, 116, 97, 116, 117, 115]⟩ : ByteArray), (⟨#[]⟩ : ByteArray), v8, (⟨#[]⟩ : ByteArray), v10, (⟨#[65, 99, 116, 105, 111, 110, 58, 32, 102, 97, 105, 108, 101, 100]⟩ : ByteArray), (⟨#[83, 116, 97, 116, 117, 115, 58, 32, 52, 46, 52, 46, 55]⟩ : ByteArray), (⟨#[45, 45, 119, 45, 45]⟩ : ByteArray)]))) :: (7, .fl (.own 9) 1 (List.map Value.string ([v2, v4, (⟨#[83, 117, 98, 106, 101, 99, 116, 58, 32, 85, 110, 100, 101, 108, 105, 118, 101, 114, 101, 100, 32, 109, 97, 105, 108]⟩ : ByteArray), (⟨#[67, 111, 110, 116, 101, 110, 116, 45, 84, 121, 112, 101, 58, 32, 109, 117, 108, 116, 105, 112, 97, 114, 116, 47, 114, 101, 112, 111, 114, 116, 59, 32, 114, 101, 112, 111, 114, 116, 45, 116, 121, 112, 101, 61, 100, 101, 108, 105, 118, 101, 114, 121, 45, 115, 116, 97, 116, 117, 115, 59, 32, 98, 111, 117, 110, 100, 97, 114, 121, 61, 119]⟩ : ByteArray), (⟨#[]⟩ : ByteArray), (⟨#[45, 45, 119]⟩ : ByteArray), (⟨#[67, 111, 110, 116, 101, 110, 116, 45, 84, 121, 112, 101, 58, 32, 116, 101, 120, 116, 47, 112, 108, 97, 105, 110]⟩ : ByteArray), (⟨#[]⟩ : ByteArray), v7, (⟨#[45, 45, 119]⟩ : ByteArray), (⟨#[67, 111, 110, 116, 101, 110, 116, 45, 84, 121, 112, 101, 58, 32, 109, 101, 115, 115, 97, 103, 101, 47, 100, 101, 108, 105, 118, 101, 114, 121, 45, 115, 116, 97, 116, 117, 115]⟩ : ByteArray), (⟨#[]⟩ : ByteArray), v8, (⟨#[]⟩ : ByteArray), v10, (⟨#[65, 99, 116, 105, 111, 110, 58, 32, 102, 97, 105, 108, 101, 100]⟩ : ByteArray), (⟨#[83, 116, 97, 116, 117, 115, 58, 32, 52, 46, 52, 46, 55]⟩ : ByteArray), (⟨#[45, 45, 119, 45, 45]⟩ : ByteArray)]))) :: [])) (init := [0, 1, 2]) (fin := [19]) (sps := (zq [0] 3 10 :: zq [3] 4 11 :: zq [4] 5 12 :: zq [1] 6 13 :: zq [6] 7 14 :: zq [7] 8 15 :: zq [2] 9 16 :: zq [9] 10 17 :: zq [10] 11 18 :: zq [11] 12 19 :: zq [0] 13 20 :: zq [13] 14 21 :: zq [2] 15 22 :: zq [15] 16 23 :: zq [16] 17 24 :: zq [5,8,12,14,17] 18 25 :: ⟨[], [18], [19], [(.slot 7)]⟩ :: [])) (es' := [(7, .fl (.own 9) 1 (List.map Value.string ([v2, v4, (⟨#[83, 117, 98, 106, 101, 99, 116, 58, 32, 85, 110, 100, 101, 108, 105, 118, 101, 114, 101, 100, 32, 109, 97, 105, 108]⟩ : ByteArray), (⟨#[67, 111, 110, 116, 101, 110, 116, 45, 84, 121, 112, 101, 58, 32, 109, 117, 108, 116, 105, 112, 97, 114, 116, 47, 114, 101, 112, 111, 114, 116, 59, 32, 114, 101, 112, 111, 114, 116, 45, 116, 121, 112, 101, 61, 100, 101, 108, 105, 118, 101, 114, 121, 45, 115, 116, 97, 116, 117, 115, 59, 32, 98, 111, 117, 110, 100, 97, 114, 121, 61, 119]⟩ : ByteArray), (⟨#[]⟩ : ByteArray), (⟨#[45, 45, 119]⟩ : ByteArray), (⟨#[67, 111, 110, 116, 101, 110, 116, 45, 84, 121, 112, 101, 58, 32, 116, 101, 120, 116, 47, 112, 108, 97, 105, 110]⟩ : ByteArray), (⟨#[]⟩ : ByteArray), v7, (⟨#[45, 45, 119]⟩ : ByteArray), (⟨#[67, 111, 110, 116, 101, 110, 116, 45, 84, 121, 112, 101, 58, 32, 109, 101, 115, 115, 97, 103, 101, 47, 100, 101, 108, 105, 118, 101, 114, 121, 45, 115, 116, 97, 116, 117, 115]⟩ : ByteArray), (⟨#[]⟩ : ByteArray), v8, (⟨#[]⟩ : ByteArray), v10, (⟨#[65, 99, 116, 105, 111, 110, 58, 32, 102, 97, 105, 108, 101, 100]⟩ : ByteArray), (⟨#[83, 116, 97, 116, 117, 115, 58, 32, 52, 46, 52, 46, 55]⟩ : ByteArray), (⟨#[45, 45, 119, 45, 45]⟩ : ByteArray)])))]) (by kernel_rfl) rfl rfl ⟨z1 rfl,zp rfl (oB rfl (cat_ok hv1)),zp rfl (oB rfl (cat_ok hv2)),zp rfl (op_loadA _ _ _ _ _ _ _ underlying23 rfl sz23 rfl rfl (zl rfl) rfl rfl),zp rfl (op_call _ _ 29 _ _ rfl call29 rfl (ok_wherryref11_Text sender _ hv3) rfl rfl),zp rfl (oB rfl (cat_ok hv4)),zp rfl (op_loadA _ _ _ _ _ _ _ underlying23 rfl sz23 rfl rfl (zl rfl) rfl rfl),zp rfl (op_call _ _ 29 _ _ rfl call29 rfl (ok_wherryref11_Text rcpt _ hv5) rfl rfl),zp rfl (oB rfl (cat_ok hv6)),zp rfl (oB rfl (cat_ok hv7)),z1 rfl,zp rfl (oB rfl (cat_ok hv8)),zp rfl (op_loadA _ _ _ _ _ _ _ underlying23 rfl sz23 rfl rfl (zl rfl) rfl rfl),zp rfl (op_call _ _ 29 _ _ rfl call29 rfl (ok_wherryref11_Text rcpt _ hv9) rfl rfl),zp rfl (oB rfl (cat_ok hv10)),zp rfl (op_buildSlice _ _ 1 (.string ByteArray.empty) (List.map Value.string ([v2, v4, (⟨#[83, 117, 98, 106, 101, 99, 116, 58, 32, 85, 110, 100, 101, 108, 105, 118, 101, 114, 101, 100, 32, 109, 97, 105, 108]⟩ : ByteArray), (⟨#[67, 111, 110, 116, 101, 110, 116, 45, 84, 121, 112, 101, 58, 32, 109, 117, 108, 116, 105, 112, 97, 114, 116, 47, 114, 101, 112, 111, 114, 116, 59, 32, 114, 101, 112, 111, 114, 116, 45, 116, 121, 112, 101, 61, 100, 101, 108, 105, 118, 101, 114, 121, 45, 115, 116, 97, 116, 117, 115, 59, 32, 98, 111, 117, 110, 100, 97, 114, 121, 61, 119]⟩ : ByteArray), (⟨#[]⟩ : ByteArray), (⟨#[45, 45, 119]⟩ : ByteArray), (⟨#[67, 111, 110, 116, 101, 110, 116, 45, 84, 121, 112, 101, 58, 32, 116, 101, 120, 116, 47, 112, 108, 97, 105, 110]⟩ : ByteArray), (⟨#[]⟩ : ByteArray), v7, (⟨#[45, 45, 119]⟩ : ByteArray), (⟨#[67, 111, 110, 116, 101, 110, 116, 45, 84, 121, 112, 101, 58, 32, 109, 101, 115, 115, 97, 103, 101, 47, 100, 101, 108, 105, 118, 101, 114, 121, 45, 115, 116, 97, 116, 117, 115]⟩ : ByteArray), (⟨#[]⟩ : ByteArray), v8, (⟨#[]⟩ : ByteArray), v10, (⟨#[65, 99, 116, 105, 111, 110, 58, 32, 102, 97, 105, 108, 101, 100]⟩ : ByteArray), (⟨#[83, 116, 97, 116, 117, 115, 58, 32, 52, 46, 52, 46, 55]⟩ : ByteArray), (⟨#[45, 45, 119, 45, 45]⟩ : ByteArray)])) [(0, .string v2), (1, .string v4), (2, .string (⟨#[83, 117, 98, 106, 101, 99, 116, 58, 32, 85, 110, 100, 101, 108, 105, 118, 101, 114, 101, 100, 32, 109, 97, 105, 108]⟩ : ByteArray)), (3, .string (⟨#[67, 111, 110, 116, 101, 110, 116, 45, 84, 121, 112, 101, 58, 32, 109, 117, 108, 116, 105, 112, 97, 114, 116, 47, 114, 101, 112, 111, 114, 116, 59, 32, 114, 101, 112, 111, 114, 116, 45, 116, 121, 112, 101, 61, 100, 101, 108, 105, 118, 101, 114, 121, 45, 115, 116, 97, 116, 117, 115, 59, 32, 98, 111, 117, 110, 100, 97, 114, 121, 61, 119]⟩ : ByteArray)), (4, .string ByteArray.empty), (5, .string (⟨#[45, 45, 119]⟩ : ByteArray)), (6, .string (⟨#[67, 111, 110, 116, 101, 110, 116, 45, 84, 121, 112, 101, 58, 32, 116, 101, 120, 116, 47, 112, 108, 97, 105, 110]⟩ : ByteArray)), (7, .string ByteArray.empty), (8, .string v7), (9, .string (⟨#[45, 45, 119]⟩ : ByteArray)), (10, .string (⟨#[67, 111, 110, 116, 101, 110, 116, 45, 84, 121, 112, 101, 58, 32, 109, 101, 115, 115, 97, 103, 101, 47, 100, 101, 108, 105, 118, 101, 114, 121, 45, 115, 116, 97, 116, 117, 115]⟩ : ByteArray)), (11, .string ByteArray.empty), (12, .string v8), (13, .string ByteArray.empty), (14, .string v10), (15, .string (⟨#[65, 99, 116, 105, 111, 110, 58, 32, 102, 97, 105, 108, 101, 100]⟩ : ByteArray)), (16, .string (⟨#[83, 116, 97, 116, 117, 115, 58, 32, 52, 46, 52, 46, 55]⟩ : ByteArray)), (17, .string (⟨#[45, 45, 119, 45, 45]⟩ : ByteArray))] underlying51 sz9 zr9 (fun _ V w o a hv hes => by have e0 := rd_v hv hes (x := .tmp 12) rfl; have e1 := rd_v hv hes (x := .tmp 15) rfl; have e8 := rd_v hv hes (x := .tmp 19) rfl; have e12 := rd_v hv hes (x := .tmp 21) rfl; have e14 := rd_v hv hes (x := .tmp 24) rfl; simp only [List.map_toArray, List.map_cons, List.map_nil, e0, e1, e8, e12, e14]; try rfl) (litfill (by simp [Instr.fill, Value.cells]; rfl) (by simp [List.range, List.range.loop] <;> rfl)) (by simp [Value.oneCell']) rfl (by decide) (by decide) (by decide)),zp rfl (op_assign_take _ _ _ _ rfl),zz⟩ ?_
  refine pt_then ?_
  refine zgg hn [_,(8,vs z0)] [0] [0,1] [zq [] 1 8] [(_,_),(_,_)] rfl ⟨z2 rfl,zz⟩ ?_
  refine ht_seq ?_
  refine zgg hn [_,_,(9,vi 0)] [0,1] [0,1,2] [zq [] 2 9] [(_,_),(_,_),(_,_)] rfl ⟨z2 rfl,zz⟩ ?_
  refine ht_loopS h (fun ((s36, s37) : ByteArray × Int) => [(7, .fl (.own 9) 1 (List.map Value.string ([v2, v4, (⟨#[83, 117, 98, 106, 101, 99, 116, 58, 32, 85, 110, 100, 101, 108, 105, 118, 101, 114, 101, 100, 32, 109, 97, 105, 108]⟩ : ByteArray), (⟨#[67, 111, 110, 116, 101, 110, 116, 45, 84, 121, 112, 101, 58, 32, 109, 117, 108, 116, 105, 112, 97, 114, 116, 47, 114, 101, 112, 111, 114, 116, 59, 32, 114, 101, 112, 111, 114, 116, 45, 116, 121, 112, 101, 61, 100, 101, 108, 105, 118, 101, 114, 121, 45, 115, 116, 97, 116, 117, 115, 59, 32, 98, 111, 117, 110, 100, 97, 114, 121, 61, 119]⟩ : ByteArray), (⟨#[]⟩ : ByteArray), (⟨#[45, 45, 119]⟩ : ByteArray), (⟨#[67, 111, 110, 116, 101, 110, 116, 45, 84, 121, 112, 101, 58, 32, 116, 101, 120, 116, 47, 112, 108, 97, 105, 110]⟩ : ByteArray), (⟨#[]⟩ : ByteArray), v7, (⟨#[45, 45, 119]⟩ : ByteArray), (⟨#[67, 111, 110, 116, 101, 110, 116, 45, 84, 121, 112, 101, 58, 32, 109, 101, 115, 115, 97, 103, 101, 47, 100, 101, 108, 105, 118, 101, 114, 121, 45, 115, 116, 97, 116, 117, 115]⟩ : ByteArray), (⟨#[]⟩ : ByteArray), v8, (⟨#[]⟩ : ByteArray), v10, (⟨#[65, 99, 116, 105, 111, 110, 58, 32, 102, 97, 105, 108, 101, 100]⟩ : ByteArray), (⟨#[83, 116, 97, 116, 117, 115, 58, 32, 52, 46, 52, 46, 55]⟩ : ByteArray), (⟨#[45, 45, 119, 45, 45]⟩ : ByteArray)]))), (8, .v (.string s36)), (9, .v (.int .i64 s37))]) (fun (s39 : ByteArray) => [(8, .v (.string s39))]) ?_ ?_
  ·rintro s39 h
   refine pt_then (ht_seq ?_)
   obtain ⟨v31, hv31, h⟩ := bind_some h
   refine zg hn [_,(39,vs s39),(40,.mkr 5 (List.map (Value.int .u8) v31)),(6,.mkr 5 (List.map (Value.int .u8) v31))] [0] [3] [zq [0] 1 39,zq [1] 2 40,⟨[],[2],[3],[(.slot 6)]⟩] [(_,_)] rfl ⟨z1 rfl,zp rfl ((Option.some.inj hv31) ▸ op_str_mk _ _ _ s39 underlying9 underlying24 underlying5 rfl),zp rfl (op_assign_take _ _ _ _ rfl),zz⟩ ?_
   refine pt_then (ht_ret ?_)
   obtain rfl := Option.some.inj h
   exact pt_ret hio rfl (.tmp _ _ .nil) rfl rfl
  ·rintro u40 hl41 hr42 ⟨s36, s37⟩ rr45 h ho43
   refine ht_seq ?_
   refine zgg hn [_,_,_,(26,vi s37),(27,.same (.slot 7)),(28,vi (([v2,v4,(⟨#[83,117,98,106,101,99,116,58,32,85,110,100,101,108,105,118,101,114,101,100,32,109,97,105,108]⟩ : ByteArray),(⟨#[67,111,110,116,101,110,116,45,84,121,112,101,58,32,109,117,108,116,105,112,97,114,116,47,114,101,112,111,114,116,59,32,114,101,112,111,114,116,45,116,121,112,101,61,100,101,108,105,118,101,114,121,45,115,116,97,116,117,115,59,32,98,111,117,110,100,97,114,121,61,119]⟩ : ByteArray),z0,(⟨#[45,45,119]⟩ : ByteArray),(⟨#[67,111,110,116,101,110,116,45,84,121,112,101,58,32,116,101,120,116,47,112,108,97,105,110]⟩ : ByteArray),z0,v7,(⟨#[45,45,119]⟩ : ByteArray),(⟨#[67,111,110,116,101,110,116,45,84,121,112,101,58,32,109,101,115,115,97,103,101,47,100,101,108,105,118,101,114,121,45,115,116,97,116,117,115]⟩ : ByteArray),z0,v8,z0,v10,(⟨#[65,99,116,105,111,110,58,32,102,97,105,108,101,100]⟩ : ByteArray),(⟨#[83,116,97,116,117,115,58,32,52,46,52,46,55]⟩ : ByteArray),(⟨#[45,45,119,45,45]⟩ : ByteArray)]).length : Int)),(29,vb (decide (s37 < ((([v2,v4,(⟨#[83,117,98,106,101,99,116,58,32,85,110,100,101,108,105,118,101,114,101,100,32,109,97,105,108]⟩ : ByteArray),(⟨#[67,111,110,116,101,110,116,45,84,121,112,101,58,32,109,117,108,116,105,112,97,114,116,47,114,101,112,111,114,116,59,32,114,101,112,111,114,116,45,116,121,112,101,61,100,101,108,105,118,101,114,121,45,115,116,97,116,117,115,59,32,98,111,117,110,100,97,114,121,61,119]⟩ : ByteArray),z0,(⟨#[45,45,119]⟩ : ByteArray),(⟨#[67,111,110,116,101,110,116,45,84,121,112,101,58,32,116,101,120,116,47,112,108,97,105,110]⟩ : ByteArray),z0,v7,(⟨#[45,45,119]⟩ : ByteArray),(⟨#[67,111,110,116,101,110,116,45,84,121,112,101,58,32,109,101,115,115,97,103,101,47,100,101,108,105,118,101,114,121,45,115,116,97,116,117,115]⟩ : ByteArray),z0,v8,z0,v10,(⟨#[65,99,116,105,111,110,58,32,102,97,105,108,101,100]⟩ : ByteArray),(⟨#[83,116,97,116,117,115,58,32,52,46,52,46,55]⟩ : ByteArray),(⟨#[45,45,119,45,45]⟩ : ByteArray)]).length : Int)))))] [0,1,2] [0,1,2,6] [zq [2] 3 26,zq [0] 4 27,zq [4,0] 5 28,zq [3,5] 6 29] [(_,_),(_,_),(_,_),(_,_)] rfl ⟨z1 rfl,z1 rfl,zp rfl (op_len_fl _ _ _ underlying51 rfl (by decide) (map_len _)),z4 rfl rfl,zz⟩ ?_
   refine ht_cond _ rfl (fun hb46 => ?_) (fun hb46 => ?_)
   ·have h := cond_t hb46 h
    refine ht_skip ?_
    refine pt_then (ht_seq ?_)
    refine ht_block ?_
    obtain ⟨v12, hv12, h⟩ := bind_some h
    obtain ⟨v13, hv13, h⟩ := bind_some h
    obtain ⟨v14, hv14, h⟩ := bind_some h
    obtain ⟨v15, hv15, h⟩ := bind_some h
    refine zg hn [_,_,_,_,(32,vs s36),(33,.same (.slot 7)),(34,vi s37),(35,.eref (.slot 7) (v12 * 1)),(36,vs v13),(37,vs v14),(38,vs v15),(8,vs v15)] [0,1,2,3] [0,2,11] [zq [1] 4 32,zq [0] 5 33,zq [2] 6 34,zq [5,0,6] 7 35,zq [7,0] 8 36,zq [4,8] 9 37,zq [9] 10 38,⟨[10],[1],[11],[(.slot 8)]⟩] [(_,_),(_,_),(_,_)] rfl ⟨z1 rfl,z1 rfl,z1 rfl,zp rfl (op_ix _ _ _ _ _ _ _ _ underlying51 sz9 (by decide) rfl rfl rfl (ix_ok hv12).1 (map_lt (ix_ok hv12).2) rfl),zp rfl (op_load_e _ _ _ _ _ _ underlying9 rfl rfl rfl (map_get hv13)),zp rfl (oB rfl (cat_ok hv14)),zp rfl (oB rfl (cat_ok hv15)),zp rfl (LOp.drop [_] (op_assign _ _ _ _ rfl rfl)),zz⟩ ?_
    refine pt_inb ?_
    refine pt_then ?_
    obtain ⟨v16, hv16, h⟩ := bind_some h
    refine zg hn [_,_,_,(30,vi s37),(31,vi v16),(9,vi v16)] [0,1,2] [0,2,5] [zq [1] 3 30,zq [3] 4 31,⟨[4],[1],[5],[(.slot 9)]⟩] [(_,_),(_,_),(_,_)] rfl ⟨z1 rfl,zp rfl (oB rfl (ibind (f := Value.int .i64) (Option.some.inj hv16))),zp rfl (LOp.drop [_] (op_assign _ _ _ _ rfl rfl)),zz⟩ ?_
    exact pt_next _ (Option.some.inj h).symm rfl
   ·have h := cond_f hb46 h
    refine ht_exit ?_
    refine pt_x_then ?_
    refine pt_x_then ?_
    refine pt_x_in ?_
    refine pt_pick [1] (by kernel_rfl) (es' := [(_,_)]) rfl ?_
    exact hl41 _ (ho43 _ (Option.some.inj h).symm).symm
end Go.Proofs.YtccfiglffammoaaDoor
