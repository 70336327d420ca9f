/-
  The model's runs are what is told in Lean.
-/
import Derived.Test.YtglabbpbianmnaaGreatDoorProg
import Derived.KernelRfl
import Derived.Test.YtglabbpbianmnaaGreatDoorShelf
import Derived.Test.YtglabbpbianmnaaGreatDoorIdx
import Derived.Test.YtglabbpbianmnaaGreatDoorSh
set_option linter.unusedVariables false
set_option linter.unusedSimpArgs false
set_option maxHeartbeats 1000000
namespace Go.Proofs.YtglabbpbianmnaaGreatDoor
open Go.Abs Go.Abs.Sh Tryz
open List (map flatten)
open Value (int)
def GL (mx : Int) : List (Nat × List Value) := [(0, [.int .i64 mx]), (1, (List.map (Value.int .u64) strconv_pow10)), (6, (List.map (Value.int .u8) utf8_first)), (7, (List.map (Value.int .u8) utf8_accept))]
theorem gl_mem0 (mx : Int) : (0, ([.int .i64 mx] : List Value)) ∈ GL mx := .head _
theorem gl_mem1 (mx : Int) : (1, ((List.map (Value.int .u64) strconv_pow10) : List Value)) ∈ GL mx := .tail _ (.head _)
theorem gl_mem6 (mx : Int) : (6, ((List.map (Value.int .u8) utf8_first) : List Value)) ∈ GL mx := .tail _ (.tail _ (.head _))
theorem gl_mem7 (mx : Int) : (7, ((List.map (Value.int .u8) utf8_accept) : List Value)) ∈ GL mx := .tail _ (.tail _ (.tail _ (.head _)))
theorem sz22 : (Tryz.prog.info? 22).map (·.size) = some 1 := by kernel_rfl
theorem sz46 : (Tryz.prog.info? 46).map (·.size) = some 8 := by kernel_rfl
theorem sz25 : (Tryz.prog.info? 25).map (·.size) = some 1 := by kernel_rfl
theorem sz9 : (Tryz.prog.info? 9).map (·.size) = some 1 := by kernel_rfl
theorem sz43 : (Tryz.prog.info? 43).map (·.size) = some 3 := by kernel_rfl
theorem sz44 : (Tryz.prog.info? 44).map (·.size) = some 1 := by kernel_rfl
theorem sz24 : (Tryz.prog.info? 24).map (·.size) = some 3 := by kernel_rfl
theorem sz3 : (Tryz.prog.info? 3).map (·.size) = some 1 := by kernel_rfl
theorem zr46 : (Tryz.prog.info? 46).bind (·.zero) = some (.agg #[.bool false, .string ByteArray.empty, .string ByteArray.empty, .slice none 0 0, .slice none 0 0, .bool false, .string ByteArray.empty, .int .i64 0]) := by kernel_rfl
theorem fs43 : ∀ fs, Tryz.prog.underlying 43 = some (.struct fs) → fs.toList.map (fun f => (Tryz.prog.info? f.type).map (·.size)) = ([1, 1, 1] : List Nat).map some := by
  intro fs h
  rw [Tryz.underlying43] at h
  cases h
  kernel_rfl
theorem zr43 : (Tryz.prog.info? 43).bind (·.zero) = some (.agg #[.bool false, .string ByteArray.empty, .string ByteArray.empty]) := by kernel_rfl
theorem sz4 : (Tryz.prog.info? 4).map (·.size) = some 1 := by kernel_rfl
theorem zr4 : (Tryz.prog.info? 4).bind (·.zero) = some (.bool false) := by kernel_rfl
theorem sz5 : (Tryz.prog.info? 5).map (·.size) = some 1 := by kernel_rfl
theorem zr29 : (Tryz.prog.info? 29).bind (·.zero) = some (.int .i64 0) := by kernel_rfl
theorem zr3 : (Tryz.prog.info? 3).bind (·.zero) = some (.int .i64 0) := by kernel_rfl
theorem zr5 : (Tryz.prog.info? 5).bind (·.zero) = some (.int .u8 0) := by kernel_rfl
theorem sz29 : (Tryz.prog.info? 29).map (·.size) = some 1 := by kernel_rfl
theorem zr25 : (Tryz.prog.info? 25).bind (·.zero) = some (.slice none 0 0) := by kernel_rfl
theorem el25 : ElemT Tryz.prog 25 5 1 1 := ⟨⟨Tryz.t5, .int .u8 0, Tryz.underlying25, by kernel_rfl, by kernel_rfl, by kernel_rfl, by kernel_rfl, by decide, by kernel_rfl⟩⟩
theorem za109 : ((Tryz.prog.info? 109).bind (·.zero)).map (·.cells.toList) = some (List.map (Value.int .u32) (List.replicate 16 (0 : Int))) := by kernel_rfl
theorem sz86 : (Tryz.prog.info? 86).map (·.size) = some 1 := by kernel_rfl
theorem sz109 : (Tryz.prog.info? 109).map (·.size) = some 16 := by kernel_rfl
theorem fs46 : ∀ fs, Tryz.prog.underlying 46 = some (.struct fs) → fs.toList.map (fun f => (Tryz.prog.info? f.type).map (·.size)) = ([3, 1, 1, 1, 1, 1] : List Nat).map some := by
  intro fs h
  rw [Tryz.underlying46] at h
  cases h
  kernel_rfl
theorem fs24 : ∀ fs, Tryz.prog.underlying 24 = some (.struct fs) → fs.toList.map (fun f => (Tryz.prog.info? f.type).map (·.size)) = ([1, 1, 1] : List Nat).map some := by
  intro fs h
  rw [Tryz.underlying24] at h
  cases h
  kernel_rfl
theorem zr24 : (Tryz.prog.info? 24).bind (·.zero) = some (.agg #[.int .i64 0, .int .i64 0, .slice none 0 0]) := by kernel_rfl
theorem zr66 : (Tryz.prog.info? 66).bind (·.zero) = some (.agg #[.int .i64 0, .int .i64 0, .int .i64 0, .int .i64 0]) := by kernel_rfl
theorem el57 : ElemT Tryz.prog 57 9 1 16 := ⟨⟨Tryz.t9, .string ByteArray.empty, Tryz.underlying57, by kernel_rfl, by kernel_rfl, by kernel_rfl, by kernel_rfl, by decide, by kernel_rfl⟩⟩
theorem zr9 : (Tryz.prog.info? 9).bind (·.zero) = some (.string ByteArray.empty) := by kernel_rfl
theorem fs66 : ∀ fs, Tryz.prog.underlying 66 = some (.struct fs) → fs.toList.map (fun f => (Tryz.prog.info? f.type).map (·.size)) = ([1, 1, 1, 1] : List Nat).map some := by
  intro fs h
  rw [Tryz.underlying66] at h
  cases h
  kernel_rfl
theorem sz66 : (Tryz.prog.info? 66).map (·.size) = some 4 := by kernel_rfl
theorem za90 : ((Tryz.prog.info? 90).bind (·.zero)).map (·.cells.toList) = some (List.map (Value.int .i64) (List.replicate 5 (0 : Int))) := by kernel_rfl
theorem el44 : ElemT Tryz.prog 44 43 3 40 := ⟨⟨Tryz.t43, .agg #[.bool false, .string ByteArray.empty, .string ByteArray.empty], Tryz.underlying44, by kernel_rfl, by kernel_rfl, by kernel_rfl, by kernel_rfl, by decide, by kernel_rfl⟩⟩
theorem el22 : ElemT Tryz.prog 22 46 8 120 := ⟨⟨Tryz.t46, .agg #[.bool false, .string ByteArray.empty, .string ByteArray.empty, .slice none 0 0, .slice none 0 0, .bool false, .string ByteArray.empty, .int .i64 0], Tryz.underlying22, by kernel_rfl, by kernel_rfl, by kernel_rfl, by kernel_rfl, by decide, by kernel_rfl⟩⟩
theorem ok_wherrylaw17_Heavy (l : (List T_Mail)) (r : Bool) (h : Sh.wherrylaw17_Heavy l = some r) : FnOK Tryz.prog 10 [.fr .shr true 8 (flatten (map T_Mail.ienc l))] (.v (.bool r)) := by
  unfold Sh.wherrylaw17_Heavy at h
  refine fn_ok func10 rfl (zl rfl) rfl rfl fun g0 hn hio => ?_
  refine zgg hn [_,(2,vb false)] [0] [0] [zq [] 1 2] [(_,_)] rfl ⟨z2 rfl,zz⟩ ?_
  refine ht_seq ?_
  refine zgg hn [_,(6,.fr .shr true 8 (flatten (map T_Mail.ienc l))),(7,vi (l.length : Int)),(8,vb (decide (20 < (l.length : Int))))] [0] [0,3] [zq [0] 1 6,zq [1] 2 7,zq [2] 3 8] [(_,_),(_,_)] rfl ⟨z1 rfl,zp rfl (op_len_fr _ _ _ underlying22 rfl (by decide) (gflat_len T_Mail.ilen _)),z4 rfl rfl,zz⟩ ?_
  refine ht_cond _ rfl (fun hb1 => ?_) (fun hb1 => ?_)
  ·have h := cond_t hb1 h
   refine zgg hn [_,_,(2,vb true)] [0,1] [2] [zq [] 2 2] [(_,_)] rfl ⟨z2 rfl,zz⟩ ?_
   refine ht_ret ?_
   refine pt_r_then ?_
   obtain rfl := zi h
   exact pt_ret hio rfl (.tmp _ _ .nil) rfl rfl
  ·have h := cond_f hb1 h
   refine ht_skip ?_
   refine pt_then ?_
   refine zgg hn [_,_,(3,vi 0)] [0,1] [0,2] [zq [] 2 3] [(_,_),(_,_)] rfl ⟨z2 rfl,zz⟩ ?_
   refine ht_seq ?_
   refine zgg hn [_,_,(4,vi 0)] [0,1] [0,1,2] [zq [] 2 4] [(_,_),(_,_),(_,_)] rfl ⟨z2 rfl,zz⟩ ?_
   refine ht_loopS h (fun ((s66, s67) : Int × Int) => [(0, .fr .shr true 8 (flatten (map T_Mail.ienc l))), (3, .v (.int .i64 s66)), (4, .v (.int .i64 s67))]) (fun (s85 : Int) => [(3, .v (.int .i64 s85))]) ?_ ?_
   ·rintro s85 h
    refine pt_then ?_
    refine zgg hn [_,(86,vi s85),(87,vb (decide (20000 < s85))),(2,vb (decide (20000 < s85)))] [0] [3] [zq [0] 1 86,zq [1] 2 87,zq [2] 3 2] [(_,_)] rfl ⟨z1 rfl,z4 rfl rfl,z2 rfl,zz⟩ ?_
    refine ht_ret ?_
    obtain rfl := zi h
    exact pt_ret hio rfl (.tmp _ _ .nil) rfl rfl
   ·rintro u86 hl87 hr88 ⟨s66, s67⟩ rr91 h ho89
    refine ht_seq ?_
    refine zgg hn [_,_,_,(9,vi s67),(10,.fr .shr true 8 (flatten (map T_Mail.ienc l))),(11,vi (l.length : Int)),(12,vb (decide (s67 < (l.length : Int))))] [0,1,2] [0,1,2,6] [zq [2] 3 9,zq [0] 4 10,zq [4] 5 11,zq [3,5] 6 12] [(_,_),(_,_),(_,_),(_,_)] rfl ⟨z1 rfl,z1 rfl,zp rfl (op_len_fr _ _ _ underlying22 rfl (by decide) (gflat_len T_Mail.ilen _)),z4 rfl rfl,zz⟩ ?_
    refine ht_cond _ rfl (fun hb92 => ?_) (fun hb92 => ?_)
    ·have h := cond_t hb92 h
     refine ht_skip ?_
     refine pt_then (ht_seq ?_)
     refine ht_block ?_
     refine ht_seq ?_
     obtain ⟨v3, hv3, h⟩ := zn h
     obtain ⟨v4, hv4, h⟩ := zn h
     obtain ⟨v5, hv5, h⟩ := zn h
     obtain ⟨v6, hv6, h⟩ := zn h
     obtain ⟨v7, hv7, h⟩ := zn h
     obtain ⟨v8, hv8, h⟩ := zn h
     obtain ⟨v9, hv9, h⟩ := zn h
     obtain ⟨v10, hv10, h⟩ := zn h
     obtain ⟨v11, hv11, h⟩ := zn h
     obtain ⟨v12, hv12, h⟩ := zn h
     obtain ⟨v13, hv13, h⟩ := zn h
     obtain ⟨v14, hv14, h⟩ := zn h
     refine ht_anyR (by kernel_rfl) hn (El := (_ :: _ :: _ :: _ :: (15, .v (.int .i64 s66)) :: (16, .fr .shr true 8 (flatten (map T_Mail.ienc l))) :: (17, .v (.int .i64 s67)) :: (18, .eref (.slot 16) (v3 * 8)) :: (19, .eref (.slot 16) (v3 * 8 + 4)) :: (20, .fl .shr 1 (map (int .u8) v4.Body)) :: (21, .v (.int .i64 (v4.Body.length : Int))) :: (22, .v (.int .i64 v5)) :: (23, .fr .shr true 8 (flatten (map T_Mail.ienc l))) :: (24, .v (.int .i64 s67)) :: (25, .eref (.slot 23) (v6 * 8)) :: (26, .eref (.slot 23) (v6 * 8 + 6)) :: (27, .v (.string v7.Helo)) :: (28, .v (.int .i64 (v7.Helo.size : Int))) :: (29, .v (.int .i64 v8)) :: (30, .fr .shr true 8 (flatten (map T_Mail.ienc l))) :: (31, .v (.int .i64 s67)) :: (32, .eref (.slot 30) (v9 * 8)) :: (33, .eref (.slot 30) (v9 * 8 + 0)) :: (34, .eref (.slot 30) (v9 * 8 + 1)) :: (35, .v (.string v10.From.Local)) :: (36, .v (.int .i64 (v10.From.Local.size : Int))) :: (37, .v (.int .i64 v11)) :: (38, .fr .shr true 8 (flatten (map T_Mail.ienc l))) :: (39, .v (.int .i64 s67)) :: (40, .eref (.slot 38) (v12 * 8)) :: (41, .eref (.slot 38) (v12 * 8 + 0)) :: (42, .eref (.slot 38) (v12 * 8 + 2)) :: (43, .v (.string v13.From.Domain)) :: (44, .v (.int .i64 (v13.From.Domain.size : Int))) :: (45, .v (.int .i64 v14)) :: (3, .v (.int .i64 v14)) :: [])) (init := [0, 1, 2, 3]) (fin := [0, 2, 35]) (sps := (zq [1] 4 15 :: zq [0] 5 16 :: zq [2] 6 17 :: zq [5,6] 7 18 :: zq [7,5] 8 19 :: zq [8,5] 9 20 :: zq [9] 10 21 :: zq [4,10] 11 22 :: zq [0] 12 23 :: zq [2] 13 24 :: zq [12,13] 14 25 :: zq [14,12] 15 26 :: zq [15,12] 16 27 :: zq [16] 17 28 :: zq [11,17] 18 29 :: zq [0] 19 30 :: zq [2] 20 31 :: zq [19,20] 21 32 :: zq [21,19] 22 33 :: zq [22,19] 23 34 :: zq [23,19] 24 35 :: zq [24] 25 36 :: zq [18,25] 26 37 :: zq [0] 27 38 :: zq [2] 28 39 :: zq [27,28] 29 40 :: zq [29,27] 30 41 :: zq [30,27] 31 42 :: zq [31,27] 32 43 :: zq [32] 33 44 :: zq [26,33] 34 45 :: ⟨[34], [1], [35], [(.slot 3)]⟩ :: [])) (es' := [(_,_),(_,_),(3, .v (.int .i64 v14))]) (by kernel_rfl) rfl rfl ⟨z1 rfl,z1 rfl,z1 rfl,zp rfl (op_ix_fr _ _ _ _ _ _ _ _ underlying22 sz46 (by decide) rfl rfl rfl (ix_ok hv3).1 (gflat_lt T_Mail.ilen (ix_ok hv3).2) rfl),zp rfl (op_fieldAddr_e _ _ _ _ _ _ _ underlying46 rfl sz25 rfl rfl rfl),zp rfl (op_load_fr _ _ _ _ _ _ _ underlying25 rfl rfl rfl (gflat_cell T_Mail.ilen hv4 rfl) (.fl _ _ rfl)),zp rfl (op_len_fl _ _ _ underlying25 rfl (by decide) (map_len _)),zp rfl (oB rfl (ibind (f := int .i64) (Option.some.inj hv5))),z1 rfl,z1 rfl,zp rfl (op_ix_fr _ _ _ _ _ _ _ _ underlying22 sz46 (by decide) rfl rfl rfl (ix_ok hv6).1 (gflat_lt T_Mail.ilen (ix_ok hv6).2) rfl),zp rfl (op_fieldAddr_e _ _ _ _ _ _ _ underlying46 rfl sz9 rfl rfl rfl),zp rfl (op_load_fr _ _ _ _ _ _ _ underlying9 rfl rfl rfl (gflat_cell T_Mail.ilen hv7 rfl) (.v _)),zp rfl (oN underlying9 rfl),zp rfl (oB rfl (ibind (f := int .i64) (Option.some.inj hv8))),z1 rfl,z1 rfl,zp rfl (op_ix_fr _ _ _ _ _ _ _ _ underlying22 sz46 (by decide) rfl rfl rfl (ix_ok hv9).1 (gflat_lt T_Mail.ilen (ix_ok hv9).2) rfl),zp rfl (op_fieldAddr_e _ _ _ _ _ _ _ underlying46 rfl sz43 rfl rfl rfl),zp rfl (op_fieldAddr_e _ _ _ _ _ _ _ underlying43 rfl sz9 rfl rfl rfl),zp rfl (op_load_fr _ _ _ _ _ _ _ underlying9 rfl rfl rfl (gflat_cell T_Mail.ilen hv10 rfl) (.v _)),zp rfl (oN underlying9 rfl),zp rfl (oB rfl (ibind (f := int .i64) (Option.some.inj hv11))),z1 rfl,z1 rfl,zp rfl (op_ix_fr _ _ _ _ _ _ _ _ underlying22 sz46 (by decide) rfl rfl rfl (ix_ok hv12).1 (gflat_lt T_Mail.ilen (ix_ok hv12).2) rfl),zp rfl (op_fieldAddr_e _ _ _ _ _ _ _ underlying46 rfl sz43 rfl rfl rfl),zp rfl (op_fieldAddr_e _ _ _ _ _ _ _ underlying43 rfl sz9 rfl rfl rfl),zp rfl (op_load_fr _ _ _ _ _ _ _ underlying9 rfl rfl rfl (gflat_cell T_Mail.ilen hv13 rfl) (.v _)),zp rfl (oN underlying9 rfl),zp rfl (oB rfl (ibind (f := int .i64) (Option.some.inj hv14))),zp rfl (LOp.drop [_] (op_assign _ _ _ _ rfl rfl)),zz⟩ ?_
     refine pt_then (ht_seq ?_)
     refine ht_seq ?_
     obtain ⟨v15, hv15, h⟩ := zn h
     obtain ⟨v16, hv16, h⟩ := zn h
     refine zg hn [_,_,_,(46,.fr .shr true 8 (flatten (map T_Mail.ienc l))),(47,vi s67),(48,.eref (.slot 46) (v15 * 8)),(49,.eref (.slot 46) (v15 * 8 + 3)),(50,.fl .shr 3 (flatten (map T_Path.enc v16.To))),(51,vi (v16.To.length : Int)),(52,vb (decide (40 < (v16.To.length : Int))))] [0,1,2] [0,1,2,9] [zq [0] 3 46,zq [1] 4 47,zq [3,4] 5 48,zq [5,3] 6 49,zq [6,3] 7 50,zq [7] 8 51,zq [8] 9 52] [(_,_),(_,_),(_,_),(_,_)] rfl ⟨z1 rfl,z1 rfl,zp rfl (op_ix_fr _ _ _ _ _ _ _ _ underlying22 sz46 (by decide) rfl rfl rfl (ix_ok hv15).1 (gflat_lt T_Mail.ilen (ix_ok hv15).2) rfl),zp rfl (op_fieldAddr_e _ _ _ _ _ _ _ underlying46 rfl sz44 rfl rfl rfl),zp rfl (op_load_fr _ _ _ _ _ _ _ underlying44 rfl rfl rfl (gflat_cell T_Mail.ilen hv16 rfl) (.fl _ _ rfl)),zp rfl (op_len_fl _ _ _ underlying44 rfl (by decide) (flat_len T_Path.len _)),z4 rfl rfl,zz⟩ ?_
     refine pt_then ?_
     refine ht_cond _ rfl (fun hb93 => ?_) (fun hb93 => ?_)
     ·have h := cond_t hb93 h
      refine zgg hn [_,_,_,_,(2,vb true)] [0,1,2,3] [4] [zq [] 4 2] [(_,_)] rfl ⟨z2 rfl,zz⟩ ?_
      refine ht_ret ?_
      refine pt_r_then ?_
      refine pt_r_in ?_
      refine pt_r_then ?_
      refine pt_r_then ?_
      refine pt_r_in ?_
      refine pt_r_then ?_
      have h := hr88 _ (ho89 _ (zi h).symm).symm
      obtain rfl := zi h
      exact pt_ret hio rfl (.tmp _ _ .nil) rfl rfl
     ·have h := cond_f hb93 h
      refine ht_skip ?_
      refine pt_then ?_
      refine zgg hn [_,_,_,_,(5,vi 0)] [0,1,2,3] [0,1,2,4] [zq [] 4 5] [(_,_),(_,_),(_,_),(_,_)] rfl ⟨z2 rfl,zz⟩ ?_
      refine ht_loopS h (fun ((s98, s99) : Int × Int) => [(0, .fr .shr true 8 (flatten (map T_Mail.ienc l))), (4, .v (.int .i64 s67)), (3, .v (.int .i64 s98)), (5, .v (.int .i64 s99))]) (fun (s101 : Int) => [(0, .fr .shr true 8 (flatten (map T_Mail.ienc l))), (4, .v (.int .i64 s67)), (3, .v (.int .i64 s101))]) ?_ ?_
      ·rintro s101 h
       refine pt_inb ?_
       refine pt_then ?_
       obtain ⟨v46, hv46, h⟩ := zn h
       refine zg hn [_,_,_,(13,vi s67),(14,vi v46),(4,vi v46)] [0,1,2] [0,2,5] [zq [1] 3 13,zq [3] 4 14,⟨[4],[1],[5],[(.slot 4)]⟩] [(_,_),(_,_),(_,_)] rfl ⟨z1 rfl,zp rfl (oB rfl (ibind (f := int .i64) (Option.some.inj hv46))),zp rfl (LOp.drop [_] (op_assign _ _ _ _ rfl rfl)),zz⟩ ?_
       exact pt_next _ (zi h).symm rfl
      ·rintro u102 hl103 hr104 ⟨s98, s99⟩ rr107 h ho105
       refine ht_seq ?_
       refine ht_seq ?_
       obtain ⟨v18, hv18, h⟩ := zn h
       obtain ⟨v19, hv19, h⟩ := zn h
       refine zg hn [_,_,_,_,(53,vi s99),(54,.fr .shr true 8 (flatten (map T_Mail.ienc l))),(55,vi s67),(56,.eref (.slot 54) (v18 * 8)),(57,.eref (.slot 54) (v18 * 8 + 3)),(58,.fl .shr 3 (flatten (map T_Path.enc v19.To))),(59,vi (v19.To.length : Int)),(60,vb (decide (s99 < (v19.To.length : Int))))] [0,1,2,3] [0,1,2,3,11] [zq [3] 4 53,zq [0] 5 54,zq [1] 6 55,zq [5,6] 7 56,zq [7,5] 8 57,zq [8,5] 9 58,zq [9] 10 59,zq [4,10] 11 60] [(_,_),(_,_),(_,_),(_,_),(_,_)] rfl ⟨z1 rfl,z1 rfl,z1 rfl,zp rfl (op_ix_fr _ _ _ _ _ _ _ _ underlying22 sz46 (by decide) rfl rfl rfl (ix_ok hv18).1 (gflat_lt T_Mail.ilen (ix_ok hv18).2) rfl),zp rfl (op_fieldAddr_e _ _ _ _ _ _ _ underlying46 rfl sz44 rfl rfl rfl),zp rfl (op_load_fr _ _ _ _ _ _ _ underlying44 rfl rfl rfl (gflat_cell T_Mail.ilen hv19 rfl) (.fl _ _ rfl)),zp rfl (op_len_fl _ _ _ underlying44 rfl (by decide) (flat_len T_Path.len _)),z4 rfl rfl,zz⟩ ?_
       refine pt_then ?_
       refine ht_cond _ rfl (fun hb108 => ?_) (fun hb108 => ?_)
       ·have h := cond_t hb108 h
        refine ht_skip ?_
        refine pt_then (ht_seq ?_)
        refine ht_block ?_
        obtain ⟨v21, hv21, h⟩ := zn h
        obtain ⟨v22, hv22, h⟩ := zn h
        obtain ⟨v23, hv23, h⟩ := zn h
        obtain ⟨v24, hv24, h⟩ := zn h
        obtain ⟨v25, hv25, h⟩ := zn h
        obtain ⟨v26, hv26, h⟩ := zn h
        obtain ⟨v27, hv27, h⟩ := zn h
        obtain ⟨v28, hv28, h⟩ := zn h
        obtain ⟨v29, hv29, h⟩ := zn h
        obtain ⟨v30, hv30, h⟩ := zn h
        refine ht_anyR (by kernel_rfl) hn (El := (_ :: _ :: _ :: _ :: _ :: (63, .v (.int .i64 s98)) :: (64, .fr .shr true 8 (flatten (map T_Mail.ienc l))) :: (65, .v (.int .i64 s67)) :: (66, .eref (.slot 64) (v21 * 8)) :: (67, .eref (.slot 64) (v21 * 8 + 3)) :: (68, .fl .shr 3 (flatten (map T_Path.enc v22.To))) :: (69, .v (.int .i64 s99)) :: (70, .eref (.slot 68) (v23 * 3)) :: (71, .eref (.slot 68) (v23 * 3 + 1)) :: (72, .v (.string v24.Local)) :: (73, .v (.int .i64 (v24.Local.size : Int))) :: (74, .v (.int .i64 v25)) :: (75, .fr .shr true 8 (flatten (map T_Mail.ienc l))) :: (76, .v (.int .i64 s67)) :: (77, .eref (.slot 75) (v26 * 8)) :: (78, .eref (.slot 75) (v26 * 8 + 3)) :: (79, .fl .shr 3 (flatten (map T_Path.enc v27.To))) :: (80, .v (.int .i64 s99)) :: (81, .eref (.slot 79) (v28 * 3)) :: (82, .eref (.slot 79) (v28 * 3 + 2)) :: (83, .v (.string v29.Domain)) :: (84, .v (.int .i64 (v29.Domain.size : Int))) :: (85, .v (.int .i64 v30)) :: (3, .v (.int .i64 v30)) :: [])) (init := [0, 1, 2, 3, 4]) (fin := [0, 1, 3, 28]) (sps := (zq [2] 5 63 :: zq [0] 6 64 :: zq [1] 7 65 :: zq [6,7] 8 66 :: zq [8,6] 9 67 :: zq [9,6] 10 68 :: zq [3] 11 69 :: zq [10,11] 12 70 :: zq [12,10] 13 71 :: zq [13,10] 14 72 :: zq [14] 15 73 :: zq [5,15] 16 74 :: zq [0] 17 75 :: zq [1] 18 76 :: zq [17,18] 19 77 :: zq [19,17] 20 78 :: zq [20,17] 21 79 :: zq [3] 22 80 :: zq [21,22] 23 81 :: zq [23,21] 24 82 :: zq [24,21] 25 83 :: zq [25] 26 84 :: zq [16,26] 27 85 :: ⟨[27], [2], [28], [(.slot 3)]⟩ :: [])) (es' := [(_,_),(_,_),(_,_),(3, .v (.int .i64 v30))]) (by kernel_rfl) rfl rfl ⟨z1 rfl,z1 rfl,z1 rfl,zp rfl (op_ix_fr _ _ _ _ _ _ _ _ underlying22 sz46 (by decide) rfl rfl rfl (ix_ok hv21).1 (gflat_lt T_Mail.ilen (ix_ok hv21).2) rfl),zp rfl (op_fieldAddr_e _ _ _ _ _ _ _ underlying46 rfl sz44 rfl rfl rfl),zp rfl (op_load_fr _ _ _ _ _ _ _ underlying44 rfl rfl rfl (gflat_cell T_Mail.ilen hv22 rfl) (.fl _ _ rfl)),z1 rfl,zp rfl (op_ix _ _ _ _ _ _ _ _ underlying44 sz43 (by decide) rfl rfl rfl (ix_ok hv23).1 (flat_lt T_Path.len (ix_ok hv23).2) rfl),zp rfl (op_fieldAddr_e _ _ _ _ _ _ _ underlying43 rfl sz9 rfl rfl rfl),zp rfl (op_load_e _ _ _ _ _ _ underlying9 rfl rfl rfl (flat_cell T_Path.len hv24 rfl)),zp rfl (oN underlying9 rfl),zp rfl (oB rfl (ibind (f := int .i64) (Option.some.inj hv25))),z1 rfl,z1 rfl,zp rfl (op_ix_fr _ _ _ _ _ _ _ _ underlying22 sz46 (by decide) rfl rfl rfl (ix_ok hv26).1 (gflat_lt T_Mail.ilen (ix_ok hv26).2) rfl),zp rfl (op_fieldAddr_e _ _ _ _ _ _ _ underlying46 rfl sz44 rfl rfl rfl),zp rfl (op_load_fr _ _ _ _ _ _ _ underlying44 rfl rfl rfl (gflat_cell T_Mail.ilen hv27 rfl) (.fl _ _ rfl)),z1 rfl,zp rfl (op_ix _ _ _ _ _ _ _ _ underlying44 sz43 (by decide) rfl rfl rfl (ix_ok hv28).1 (flat_lt T_Path.len (ix_ok hv28).2) rfl),zp rfl (op_fieldAddr_e _ _ _ _ _ _ _ underlying43 rfl sz9 rfl rfl rfl),zp rfl (op_load_e _ _ _ _ _ _ underlying9 rfl rfl rfl (flat_cell T_Path.len hv29 rfl)),zp rfl (oN underlying9 rfl),zp rfl (oB rfl (ibind (f := int .i64) (Option.some.inj hv30))),zp rfl (LOp.drop [_] (op_assign _ _ _ _ rfl rfl)),zz⟩ ?_
        refine pt_inb ?_
        refine pt_then ?_
        obtain ⟨v31, hv31, h⟩ := zn h
        refine zg hn [_,_,_,_,(61,vi s99),(62,vi v31),(5,vi v31)] [0,1,2,3] [0,1,3,6] [zq [2] 4 61,zq [4] 5 62,⟨[5],[2],[6],[(.slot 5)]⟩] [(_,_),(_,_),(_,_),(_,_)] rfl ⟨z1 rfl,zp rfl (oB rfl (ibind (f := int .i64) (Option.some.inj hv31))),zp rfl (LOp.drop [_] (op_assign _ _ _ _ rfl rfl)),zz⟩ ?_
        exact pt_next _ (zi h).symm rfl
       ·have h := cond_f hb108 h
        refine ht_exit ?_
        refine pt_x_then ?_
        refine pt_x_then ?_
        refine pt_x_in ?_
        refine pt_pick [0, 1, 2] (by kernel_rfl) (es' := [(_,_),(_,_),(_,_)]) rfl ?_
        exact hl103 _ (ho105 _ (zi h).symm).symm
    ·have h := cond_f hb92 h
     refine ht_exit ?_
     refine pt_x_then ?_
     refine pt_x_then ?_
     refine pt_x_in ?_
     refine pt_pick [1] (by kernel_rfl) (es' := [(_,_)]) rfl ?_
     exact hl87 _ (ho89 _ (zi h).symm).symm
theorem ok_strings_splitSeq (s : ByteArray) (sep : ByteArray) (sepSave : Int) (r : (ByteArray × ByteArray × Int)) (h : Sh.strings_splitSeq s sep sepSave = some r) : FnOK Tryz.prog 155 [.v (.string s), .v (.string sep), .v (.int .i64 sepSave)] (.cloB 161 [.box 9 [.v (.string r.1)], .box 9 [.v (.string r.2.1)], .box 3 [.v (.int .i64 r.2.2)]]) := by
  unfold Sh.strings_splitSeq at h
  refine fn_ok func155 rfl (zl rfl) rfl rfl fun g0 hn hio => ?_
  refine zgg hn [_,_,_,(3,.box 9 [vs s]),(4,.box 9 [vs sep]),(5,.box 3 [vi sepSave]),(6,.v (.nilFunc))] [0,1,2] [3,4,5] [zq [0] 3 3,zq [1] 4 4,zq [2] 5 5,zq [] 6 6] [(_,_),(_,_),(_,_)] rfl ⟨zp rfl (op_box _ _ _ _ rfl rfl rfl),zp rfl (op_box _ _ _ _ rfl rfl rfl),zp rfl (op_box _ _ _ _ rfl rfl rfl),z2 rfl,zz⟩ ?_
  refine zgg hn [_,_,_,(7,.cloB 161 [.box 9 [vs sep],.box 9 [vs s],.box 3 [vi sepSave]]),(6,.cloB 161 [.box 9 [vs sep],.box 9 [vs s],.box 3 [vi sepSave]])] [0,1,2] [4] [⟨[],[1,0,2],[3],[(.slot 7)]⟩,⟨[],[3],[4],[(.slot 6)]⟩] [(_,_)] rfl ⟨zp rfl (op_mkclo _ _ [4, 3, 5] [.box 9 [.v (.string sep)], .box 9 [.v (.string s)], .box 3 [.v (.int .i64 sepSave)]] rfl rfl rfl),zp rfl (op_assign_take _ _ _ _ rfl),zz⟩ ?_
  refine ht_ret ?_
  obtain rfl := zi h
  exact pt_ret hio rfl (.tmp _ _ .nil) rfl rfl
theorem ok_strings_SplitSeq (s : ByteArray) (sep : ByteArray) (r : (ByteArray × ByteArray × Int)) (h : Sh.strings_SplitSeq s sep = some r) : FnOK Tryz.prog 135 [.v (.string s), .v (.string sep)] (.cloB 161 [.box 9 [.v (.string r.1)], .box 9 [.v (.string r.2.1)], .box 3 [.v (.int .i64 r.2.2)]]) := by
  unfold Sh.strings_SplitSeq at h
  refine fn_ok func135 rfl (zl rfl) rfl rfl fun g0 hn hio => ?_
  refine zgg hn [_,_,(4,.v (.nilFunc))] [0,1] [0,1] [zq [] 2 4] [(_,_),(_,_)] rfl ⟨z2 rfl,zz⟩ ?_
  refine ht_seq ?_
  obtain ⟨v1, hv1, h⟩ := zn h
  refine zg hn [_,_,(5,vs s),(6,vs sep),(7,.cloB 161 [.box 9 [vs v1.1],.box 9 [vs v1.2.1],.box 3 [vi v1.2.2]]),(4,.cloB 161 [.box 9 [vs v1.1],.box 9 [vs v1.2.1],.box 3 [vi v1.2.2]])] [0,1] [5] [zq [0] 2 5,zq [1] 3 6,zq [2,3] 4 7,⟨[],[4],[5],[(.slot 4)]⟩] [(_,_)] rfl ⟨z1 rfl,z1 rfl,zp rfl (op_callS _ _ 155 _ _ rfl call155 rfl rfl (ok_strings_splitSeq s sep 0 _ hv1) rfl),zp rfl (op_assign_take _ _ _ _ rfl),zz⟩ ?_
  refine pt_then (ht_ret ?_)
  obtain rfl := zi h
  exact pt_ret hio rfl (.tmp _ _ .nil) rfl rfl
theorem ok_unicode_utf8_decodeRuneInStringSlow (mx : Int) (s : ByteArray) (r : (Int × Int)) (h : Sh.unicode_utf8_decodeRuneInStringSlow s = some r) : FnG Tryz.prog (GL mx) 143 [.v (.string s)] (.tup [.v (.int .i32 r.1), .v (.int .i64 r.2)]) := by
  unfold Sh.unicode_utf8_decodeRuneInStringSlow at h
  refine fn_okG func143 rfl (zl rfl) rfl rfl fun g0 hn hio => ?_
  refine zgg hn [_,_,(2,.v (.int .i32 0)),(3,vi 0)] [0,1] [0,1] [zq [] 2 2,zq [] 3 3] [(_,_),(_,_)] rfl ⟨z2 rfl,z2 rfl,zz⟩ ?_
  refine zgg hn [_,_,(13,vs s),(14,vi (s.size : Int)),(4,vi (s.size : Int))] [0,1] [0,1,4] [zq [0] 2 13,zq [2] 3 14,zq [3] 4 4] [(_,_),(_,_),(_,_)] rfl ⟨z1 rfl,zp rfl (oN underlying9 rfl),z2 rfl,zz⟩ ?_
  refine ht_seq ?_
  refine zgg hn [_,_,_,(15,vi (s.size : Int)),(16,vb (decide ((s.size : Int) < 1)))] [0,1,2] [0,1,2,4] [zq [2] 3 15,zq [3] 4 16] [(_,_),(_,_),(_,_),(_,_)] rfl ⟨z1 rfl,z4 rfl rfl,zz⟩ ?_
  refine ht_cond _ rfl (fun hb1 => ?_) (fun hb1 => ?_)
  ·have h := cond_t hb1 h
   refine zgg hn [_,_,_,_,(2,.v (.int .i32 65533)),(3,vi 0)] [0,1,2,3] [1,4,5] [zq [] 4 2,zq [] 5 3] [(_,_),(_,_),(_,_)] rfl ⟨z2 rfl,z2 rfl,zz⟩ ?_
   refine ht_ret ?_
   refine pt_pick [1, 2] (by kernel_rfl) (es' := [(_,_),(_,_)]) rfl ?_
   refine pt_r_then ?_
   obtain rfl := zi h
   exact pt_ret hio rfl (.tmp _ _ (.tmp _ _ .nil)) rfl rfl
  ·have h := cond_f hb1 h
   refine ht_skip ?_
   refine pt_then (ht_seq ?_)
   obtain ⟨v2, hv2, h⟩ := zn h
   refine zg hn [_,_,_,_,(17,vs s),(18,.v (.int .u8 v2)),(5,.v (.int .u8 v2))] [0,1,2,3] [0,1,2,6] [zq [0] 4 17,zq [4] 5 18,zq [5] 6 5] [(_,_),(_,_),(_,_),(_,_)] rfl ⟨z1 rfl,zp rfl (op_chr _ _ _ 0 _ underlying9 rfl rfl hv2),z2 rfl,zz⟩ ?_
   refine pt_then (ht_seq ?_)
   obtain ⟨v3, hv3, h⟩ := zn h
   obtain ⟨v4, hv4, h⟩ := zn h
   refine zg hn [_,_,_,_,(19,.v (.int .u8 v2)),(20,.v (.pointer (some ⟨6,(0 + v3 * 1),none⟩))),(21,.v (.int .u8 v4)),(6,.v (.int .u8 v4))] [0,1,2,3] [0,1,2,3,7] [zq [3] 4 19,zq [4] 5 20,zq [5,1] 6 21,zq [6] 7 6] [(_,_),(_,_),(_,_),(_,_),(_,_)] rfl ⟨z1 rfl,zp rfl (op_ix_globz _ _ _ _ 256 6 0 _ 1 _ underlying183 sz5 rfl rfl (ix_ok hv3).1 (ix_ok hv3).2),zp rfl (op_load_glob _ _ 117 6 _ _ _ underlying5 rfl rfl rfl (gl_mem6 mx) (map_get1 hv4)),z2 rfl,zz⟩ ?_
   refine pt_then (ht_seq ?_)
   refine zgg hn [_,_,_,_,_,(22,.v (.int .u8 v4)),(23,vb (decide (240 ≤ v4)))] [0,1,2,3,4] [0,1,2,3,4,6] [zq [4] 5 22,zq [5] 6 23] [(_,_),(_,_),(_,_),(_,_),(_,_),(_,_)] rfl ⟨z1 rfl,z4 rfl rfl,zz⟩ ?_
   refine ht_cond _ rfl (fun hb5 => ?_) (fun hb5 => ?_)
   ·have h := cond_t hb5 h
    refine ht_seq ?_
    obtain ⟨v6, hv6, h⟩ := zn h
    obtain ⟨v7, hv7, h⟩ := zn h
    obtain ⟨v8, hv8, h⟩ := zn h
    refine zg hn [_,_,_,_,_,_,(24,.v (.int .u8 v4)),(25,.v (.int .i32 v6)),(26,.v (.int .i32 v7)),(27,.v (.int .i32 v8)),(7,.v (.int .i32 v8))] [0,1,2,3,4,5] [0,1,10] [zq [4] 6 24,zq [6] 7 25,zq [7] 8 26,zq [8] 9 27,zq [9] 10 7] [(_,_),(_,_),(_,_)] rfl ⟨z1 rfl,zp rfl ((Option.some.inj hv6) ▸ op_conv _ _ _ underlying5 underlying21 rfl),zp rfl (oB rfl (shl_ok hv7)),zp rfl (oB rfl (shr_ok hv8)),z2 rfl,zz⟩ ?_
    refine pt_then (ht_seq ?_)
    obtain ⟨v9, hv9, h⟩ := zn h
    obtain ⟨v10, hv10, h⟩ := zn h
    obtain ⟨v11, hv11, h⟩ := zn h
    obtain ⟨v12, hv12, h⟩ := zn h
    obtain ⟨v13, hv13, h⟩ := zn h
    refine zg hn [_,_,_,(28,vs s),(29,.v (.int .u8 v9)),(30,.v (.int .i32 v10)),(31,.v (.int .i32 v8)),(32,.v (.int .i32 v11)),(33,.v (.int .i32 v8)),(34,.v (.int .i32 v12)),(35,.v (.int .i32 v13)),(2,.v (.int .i32 v13)),(3,vi 1)] [0,1,2] [1,11,12] [zq [0] 3 28,zq [3] 4 29,zq [4] 5 30,zq [2] 6 31,zq [5,6] 7 32,zq [2] 8 33,zq [8] 9 34,zq [7,9] 10 35,zq [10] 11 2,zq [] 12 3] [(_,_),(_,_),(_,_)] rfl ⟨z1 rfl,zp rfl (op_chr _ _ _ 0 _ underlying9 rfl rfl hv9),zp rfl ((Option.some.inj hv10) ▸ op_conv _ _ _ underlying5 underlying21 rfl),z1 rfl,zp rfl (oB rfl (ibind (f := int .i32) (Option.some.inj hv11))),z1 rfl,zp rfl (oB rfl (ibind (f := int .i32) (Option.some.inj hv12))),zp rfl (oB rfl (ibind (f := int .i32) (Option.some.inj hv13))),z2 rfl,z2 rfl,zz⟩ ?_
    refine pt_then (ht_ret ?_)
    refine pt_pick [1, 2] (by kernel_rfl) (es' := [(_,_),(_,_)]) rfl ?_
    refine pt_r_then ?_
    obtain rfl := zi h
    exact pt_ret hio rfl (.tmp _ _ (.tmp _ _ .nil)) rfl rfl
   ·have h := cond_f hb5 h
    cases h
theorem ok_unicode_utf8_DecodeRuneInString (mx : Int) (s : ByteArray) (r : (Int × Int)) (h : Sh.unicode_utf8_DecodeRuneInString s = some r) : FnG Tryz.prog (GL mx) 117 [.v (.string s)] (.tup [.v (.int .i32 r.1), .v (.int .i64 r.2)]) := by
  unfold Sh.unicode_utf8_DecodeRuneInString at h
  refine fn_okG func117 rfl (zl rfl) rfl rfl fun g0 hn hio => ?_
  refine zgg hn [_,_,(2,.v (.int .i32 0)),(3,vi 0)] [0,1] [0,1] [zq [] 2 2,zq [] 3 3] [(_,_),(_,_)] rfl ⟨z2 rfl,z2 rfl,zz⟩ ?_
  refine ht_seq ?_
  refine ht_seq ?_
  refine ht_joinS h (fun (s2 : Bool) => [(0, .v (.string s)), (19, .glob (GL mx)), (10, .v (.bool s2))]) ?_ ?_
  ·rintro s2 h
   refine pt_then ?_
   refine ht_cond _ rfl (fun hb6 => ?_) (fun hb6 => ?_)
   ·have h := cond_t hb6 h
    refine ht_seq ?_
    obtain ⟨v7, hv7, h⟩ := zn h
    obtain ⟨v8, hv8, h⟩ := zn h
    refine zg hn [_,_,_,(11,vs s),(12,.v (.int .u8 v7)),(13,.v (.int .i32 v8)),(2,.v (.int .i32 v8)),(3,vi 1)] [0,1,2] [1,6,7] [zq [0] 3 11,zq [3] 4 12,zq [4] 5 13,zq [5] 6 2,zq [] 7 3] [(_,_),(_,_),(_,_)] rfl ⟨z1 rfl,zp rfl (op_chr _ _ _ 0 _ underlying9 rfl rfl hv7),zp rfl ((Option.some.inj hv8) ▸ op_conv _ _ _ underlying5 underlying21 rfl),z2 rfl,z2 rfl,zz⟩ ?_
    refine pt_then (ht_ret ?_)
    refine pt_pick [1, 2] (by kernel_rfl) (es' := [(_,_),(_,_)]) rfl ?_
    refine pt_r_then ?_
    obtain rfl := zi h
    exact pt_ret hio rfl (.tmp _ _ (.tmp _ _ .nil)) rfl rfl
   ·have h := cond_f hb6 h
    obtain ⟨v9, hv9, h⟩ := zn h
    refine zg hn [_,_,_,(15,vs s),(16,.tup [.v (.int .i32 v9.1),vi v9.2]),(14,.tup [.v (.int .i32 v9.1),vi v9.2]),(17,.v (.int .i32 v9.1)),(18,vi v9.2),(2,.v (.int .i32 v9.1)),(3,vi v9.2)] [0,1,2] [1,8,9] [zq [0] 3 15,zq [3,1] 4 16,⟨[],[4],[5],[(.slot 14)]⟩,zq [5] 6 17,zq [5] 7 18,zq [6] 8 2,zq [7] 9 3] [(_,_),(_,_),(_,_)] rfl ⟨z1 rfl,zp rfl (op_callG _ _ 19 143 _ _ rfl call143 rfl rfl (fun _ h => h) (ok_unicode_utf8_decodeRuneInStringSlow mx s _ hv9) rfl rfl),zp rfl (op_move_take _ _ _ _ rfl),zp rfl (oE rfl),zp rfl (oE rfl),z2 rfl,z2 rfl,zz⟩ ?_
    refine pt_then (ht_ret ?_)
    refine pt_pick [1, 2] (by kernel_rfl) (es' := [(_,_),(_,_)]) rfl ?_
    obtain rfl := zi h
    exact pt_ret hio rfl (.tmp _ _ (.tmp _ _ .nil)) rfl rfl
  ·intro u3 h hl4 hr5
   refine cond_some h (fun hg1_2 h => ?_) (fun hg1_2 h => ?_)
   ·obtain ⟨v1, hv1, h⟩ := zn h
    refine zg hn [_,_,(4,vs s),(5,vb (!(s.toList == z0.toList))),(6,vb true),(7,vs s),(8,.v (.int .u8 v1)),(9,vb (decide (v1 < 128))),(10,vb (decide (v1 < 128)))] [0,1] [0,1,8] [zq [0] 2 4,zq [2] 3 5,zq [3] 4 6,zq [4,0] 5 7,zq [4,5] 6 8,zq [4,6] 7 9,zq [4,7] 8 10] [(_,_),(_,_),(_,_)] rfl ⟨z1 rfl,z4 rfl rfl,z8 hg1_2 rfl,zr' rfl (oM rfl),zr' rfl (op_chr _ _ _ 0 _ underlying9 rfl rfl hv1),zr' rfl (oB rfl rfl),z3 true rfl,zz⟩ ?_
    exact hl4 _ (zi h).symm
   ·refine zg hn [_,_,(4,vs s),(5,vb (!(s.toList == z0.toList))),(6,vb false),(7,.v undef),(8,.v undef),(9,.v undef),(10,vb false)] [0,1] [0,1,8] [zq [0] 2 4,zq [2] 3 5,zq [3] 4 6,zq [4] 5 7,zq [4] 6 8,zq [4] 7 9,zq [4] 8 10] [(_,_),(_,_),(_,_)] rfl ⟨z1 rfl,z4 rfl rfl,z8 hg1_2 rfl,zt rfl,zt rfl,zt rfl,z3 false rfl,zz⟩ ?_
    exact hl4 _ (zi h).symm
theorem ok_strings_Index (s sub : ByteArray) (r : Int) (h : Sh.strings_Index s sub = some r) : FnOK Tryz.prog 98 [.v (.string s), .v (.string sub)] (.v (.int .i64 r)) := lib_strings_Index Tryz.strings_Index_one s sub r h
theorem ok_strings_splitSeq_1 (mx : Int) (l : Nat) {S : Type} (J : S → InvT) (Y : ByteArray → S → Option (S × Bool)) (hY : YieldOK Tryz.prog l (fun x => .v (.string x)) Y J) (c0 : ByteArray) (c1 : ByteArray) (c2 : Int) (st r : S) (h : Sh.strings_splitSeq_1 Y c0 c1 c2 st = some r) : FnI Tryz.prog (GL mx) 161 l [.box 9 [.v (.string c0)], .box 9 [.v (.string c1)], .box 3 [.v (.int .i64 c2)]] (J st) (J r) := by
  unfold Sh.strings_splitSeq_1 at h
  refine fn_okI func161 rfl (zl rfl) rfl fun g0 hn hio => ?_
  refine ht_seq ?_
  refine zgg hn [_,_,_,_,_,_,(9,vs c0),(10,vi (c0.size : Int)),(11,vb ((c0.size : Int) == 0))] [0,1,2,3,4,5] [0,1,2,3,4,5,8] [zq [1] 6 9,zq [6] 7 10,zq [7] 8 11] [(_,_),(_,_),(_,_),(_,_),(_,_),(_,_),(_,_)] rfl ⟨zp rfl (oL underlying9 rfl),zp rfl (oN underlying9 rfl),z4 rfl rfl,zz⟩ ?_
  refine ht_cond _ rfl (fun hb1 => ?_) (fun hb1 => ?_)
  ·have h := cond_t hb1 h
   refine ht_seq ?_
   refine ht_pick [0, 2, 4, 5] (by kernel_rfl) (es' := [(_,_),(_,_),(_,_),(_,_)]) rfl ?_
   refine ht_loopS h (fun ((s12, s13) : ByteArray × S) => [(0, .v (.func (.yield l) #[] #[])), (2, .box 9 [.v (.string s12)]), (52, .glob (GL mx)), (53, .inv (J s13))]) (fun (s16 : S) => [(52, .glob (GL mx)), (53, .inv (J s16))]) ?_ ?_
   ·rintro s16 h
    refine pt_then (ht_ret ?_)
    refine pt_pick [1] (by kernel_rfl) (es' := [(53, .inv (J s16))]) rfl ?_
    refine pt_r_then ?_
    obtain rfl := zi h
    exact pt_retI hio rfl rfl rfl
   ·rintro u17 hl18 hr19 ⟨s12, s13⟩ rr22 h ho20
    refine ht_seq ?_
    refine zgg hn [_,_,_,_,(12,vs s12),(13,vi (s12.size : Int)),(14,vb (decide (0 < (s12.size : Int))))] [0,1,2,3] [0,1,2,3,6] [zq [1] 4 12,zq [4] 5 13,zq [5] 6 14] [(_,_),(_,_),(_,_),(_,_),(_,_)] rfl ⟨zp rfl (oL underlying9 rfl),zp rfl (oN underlying9 rfl),z4 rfl rfl,zz⟩ ?_
    refine ht_cond _ rfl (fun hb23 => ?_) (fun hb23 => ?_)
    ·have h := cond_t hb23 h
     refine ht_skip ?_
     refine pt_then ?_
     refine ht_block ?_
     refine ht_seq ?_
     obtain ⟨v3, hv3, h⟩ := zn h
     refine zg hn [_,_,_,_,_,(16,vs s12),(17,.tup [.v (.int .i32 v3.1),vi v3.2]),(15,.tup [.v (.int .i32 v3.1),vi v3.2]),(18,.v (.int .i32 v3.1)),(19,vi v3.2),(5,.v (.int .i32 v3.1)),(6,vi v3.2)] [0,1,2,3,4] [0,1,2,3,11] [zq [1] 5 16,zq [5,2] 6 17,⟨[],[6],[7],[(.slot 15)]⟩,zq [7] 8 18,zq [7] 9 19,zq [8] 10 5,zq [9] 11 6] [(_,_),(_,_),(_,_),(_,_),(_,_)] rfl ⟨zp rfl (oL underlying9 rfl),zp rfl (op_callG _ _ 52 117 _ _ rfl call117 rfl rfl (fun _ h => h) (ok_unicode_utf8_DecodeRuneInString mx s12 _ hv3) rfl rfl),zp rfl (op_move_take _ _ _ _ rfl),zp rfl (oE rfl),zp rfl (oE rfl),z2 rfl,z2 rfl,zz⟩ ?_
     refine pt_then (ht_seq ?_)
     refine ht_seq ?_
     obtain ⟨v4, hv4, h⟩ := zn h
     obtain ⟨v5, hv5, h⟩ := zn h
     refine zg hn [_,_,_,_,_,(20,.v (.func (.yield l) #[] #[])),(21,vs s12),(22,vi v3.2),(23,vs v4),(24,vb v5.2),(53,.inv (J v5.1)),(25,vb (!v5.2))] [0,1,2,3,4] [0,1,2,10,4,11] [zq [0] 5 20,zq [1] 6 21,zq [4] 7 22,zq [6,7] 8 23,⟨[8,5],[3],[10,9],[(.slot 24)]⟩,zq [9] 11 25] [(_,_),(_,_),(_,_),(_,_),(_,_),(_,_)] rfl ⟨z1 rfl,zp rfl (oL underlying9 rfl),z1 rfl,zp rfl (op_substr _ _ _ 0 v3.2 _ underlying9 rfl rfl ⟨_, rfl⟩ hv4),zp rfl (op_yield _ _ 53 l v4 s13 v5 hY hv5 rfl rfl rfl),zp rfl (op_un _ _ _ _ rfl rfl),zz⟩ ?_
     refine pt_then ?_
     refine ht_cond _ rfl (fun hb24 => ?_) (fun hb24 => ?_)
     ·have h := cond_t hb24 h
      refine ht_ret ?_
      refine pt_pick [3] (by kernel_rfl) (es' := [(53, .inv (J v5.1))]) rfl ?_
      refine pt_r_then ?_
      refine pt_r_in ?_
      refine pt_r_then ?_
      refine pt_r_in ?_
      refine pt_r_then ?_
      refine pt_r_then ?_
      have h := hr19 _ (ho20 _ (zi h).symm).symm
      obtain rfl := zi h
      exact pt_retI hio rfl rfl rfl
     ·have h := cond_f hb24 h
      refine ht_skip ?_
      refine pt_then ?_
      obtain ⟨v7, hv7, h⟩ := zn h
      refine zg hn [_,_,_,_,_,_,(26,vs s12),(27,vi v3.2),(28,vs v7),(2,.box 9 [vs v7])] [0,1,2,3,4,5] [0,9,2,3] [zq [1] 6 26,zq [4] 7 27,zq [6,7] 8 28,⟨[8],[1],[9],[.cell 2 0]⟩] [(_,_),(_,_),(_,_),(_,_)] rfl ⟨zp rfl (oL underlying9 rfl),z1 rfl,zp rfl (op_substr _ _ _ v3.2 (s12.size : Int) _ underlying9 rfl ⟨_, rfl⟩ rfl hv7),zp rfl (oS sz9 rfl),zz⟩ ?_
      refine pt_inb ?_
      exact pt_next _ (zi h).symm rfl
    ·have h := cond_f hb23 h
     refine ht_exit ?_
     refine pt_x_then ?_
     refine pt_x_then ?_
     refine pt_x_in ?_
     refine pt_pick [2, 3] (by kernel_rfl) (es' := [(_,_),(_,_)]) rfl ?_
     exact hl18 _ (ho20 _ (zi h).symm).symm
  ·have h := cond_f hb1 h
   refine ht_skip ?_
   refine pt_then (ht_seq ?_)
   refine ht_pick [0, 1, 2, 3, 4, 5] (by kernel_rfl) (es' := [(_,_),(_,_),(_,_),(_,_),(_,_),(_,_)]) rfl ?_
   refine ht_loopS h (fun ((s37, s38) : ByteArray × S) => [(0, .v (.func (.yield l) #[] #[])), (1, .box 9 [.v (.string c0)]), (2, .box 9 [.v (.string s37)]), (3, .box 3 [.v (.int .i64 c2)]), (52, .glob (GL mx)), (53, .inv (J s38))]) (fun ((s41, s42) : ByteArray × S) => [(0, .v (.func (.yield l) #[] #[])), (2, .box 9 [.v (.string s41)]), (52, .glob (GL mx)), (53, .inv (J s42))]) ?_ ?_
   ·rintro ⟨s41, s42⟩ h
    refine pt_then ?_
    obtain ⟨v51, hv51, h⟩ := zn h
    refine zg hn [_,_,_,_,(49,.v (.func (.yield l) #[] #[])),(50,vs s41),(51,vb v51.2),(53,.inv (J v51.1))] [0,1,2,3] [2,7] [zq [0] 4 49,zq [1] 5 50,⟨[5,4],[3],[7,6],[(.slot 51)]⟩] [(_,_),(_,_)] rfl ⟨z1 rfl,zp rfl (oL underlying9 rfl),zp rfl (op_yield _ _ 53 l s41 s42 v51 hY hv51 rfl rfl rfl),zz⟩ ?_
    refine pt_pick [1] (by kernel_rfl) (es' := [(53, .inv (J v51.1))]) rfl ?_
    obtain rfl := zi h
    exact pt_endI hio rfl rfl rfl
   ·rintro u43 hl44 hr45 ⟨s37, s38⟩ rr48 h ho46
    refine ht_block ?_
    refine ht_seq ?_
    obtain ⟨v25, hv25, h⟩ := zn h
    refine zg hn [_,_,_,_,_,_,(29,vs s37),(30,vs c0),(31,vi v25),(7,vi v25)] [0,1,2,3,4,5] [0,1,2,3,4,5,9] [zq [2] 6 29,zq [1] 7 30,zq [6,7] 8 31,zq [8] 9 7] [(_,_),(_,_),(_,_),(_,_),(_,_),(_,_),(_,_)] rfl ⟨zp rfl (oL underlying9 rfl),zp rfl (oL underlying9 rfl),zp rfl (op_call _ _ 98 _ _ rfl call98 rfl (ok_strings_Index s37 c0 _ hv25) rfl rfl),z2 rfl,zz⟩ ?_
    refine pt_then (ht_seq ?_)
    refine zgg hn [_,_,_,_,_,_,_,(32,vi v25),(33,vb (decide (v25 < 0)))] [0,1,2,3,4,5,6] [0,1,2,3,4,5,6,8] [zq [6] 7 32,zq [7] 8 33] [(_,_),(_,_),(_,_),(_,_),(_,_),(_,_),(_,_),(_,_)] rfl ⟨z1 rfl,z4 rfl rfl,zz⟩ ?_
    refine ht_cond _ rfl (fun hb49 => ?_) (fun hb49 => ?_)
    ·have h := cond_t hb49 h
     refine ht_exit ?_
     refine pt_x_then ?_
     refine pt_x_out (by decide) ?_
     refine pt_x_then ?_
     refine pt_x_in ?_
     refine pt_pick [0, 2, 4, 5] (by kernel_rfl) (es' := [(_,_),(_,_),(_,_),(_,_)]) rfl ?_
     exact hl44 _ (ho46 _ (zi h).symm).symm
    ·have h := cond_f hb49 h
     refine ht_skip ?_
     refine pt_then (ht_seq ?_)
     obtain ⟨v27, hv27, h⟩ := zn h
     obtain ⟨v28, hv28, h⟩ := zn h
     refine zg hn [_,_,_,_,_,_,_,_,(34,vs s37),(35,vi v25),(36,vi c2),(37,vi v27),(38,vs v28),(8,vs v28)] [0,1,2,3,4,5,6,7] [0,1,2,3,4,5,6,13] [zq [2] 8 34,zq [6] 9 35,zq [3] 10 36,zq [9,10] 11 37,zq [8,11] 12 38,zq [12] 13 8] [(_,_),(_,_),(_,_),(_,_),(_,_),(_,_),(_,_),(_,_)] rfl ⟨zp rfl (oL underlying9 rfl),z1 rfl,zp rfl (oL underlying3 rfl),zp rfl (oB rfl (ibind (f := int .i64) (Option.some.inj hv27))),zp rfl (op_substr _ _ _ 0 v27 _ underlying9 rfl rfl ⟨_, rfl⟩ hv28),z2 rfl,zz⟩ ?_
     refine pt_then (ht_seq ?_)
     refine ht_seq ?_
     obtain ⟨v29, hv29, h⟩ := zn h
     refine zg hn [_,_,_,_,_,_,_,_,(39,.v (.func (.yield l) #[] #[])),(40,vs v28),(41,vb v29.2),(53,.inv (J v29.1)),(42,vb (!v29.2))] [0,1,2,3,4,5,6,7] [0,1,2,3,4,11,6,12] [zq [0] 8 39,zq [7] 9 40,⟨[9,8],[5],[11,10],[(.slot 41)]⟩,zq [10] 12 42] [(_,_),(_,_),(_,_),(_,_),(_,_),(_,_),(_,_),(_,_)] rfl ⟨z1 rfl,z1 rfl,zp rfl (op_yield _ _ 53 l v28 s38 v29 hY hv29 rfl rfl rfl),zp rfl (op_un _ _ _ _ rfl rfl),zz⟩ ?_
     refine pt_then ?_
     refine ht_cond _ rfl (fun hb50 => ?_) (fun hb50 => ?_)
     ·have h := cond_t hb50 h
      refine ht_ret ?_
      refine pt_pick [5] (by kernel_rfl) (es' := [(53, .inv (J v29.1))]) rfl ?_
      refine pt_r_then ?_
      refine pt_r_in ?_
      refine pt_r_then ?_
      refine pt_r_in ?_
      refine pt_r_then ?_
      have h := hr45 _ (ho46 _ (zi h).symm).symm
      obtain rfl := zi h
      exact pt_retI hio rfl rfl rfl
     ·have h := cond_f hb50 h
      refine ht_skip ?_
      refine pt_then ?_
      obtain ⟨v31, hv31, h⟩ := zn h
      obtain ⟨v32, hv32, h⟩ := zn h
      refine zg hn (_::_::_::_::_::_::_::_::(43,vs s37)::(44,vi v25)::(45,vs c0)::(46,vi (c0.size : Int))::(47,vi v31)::(48,vs v32)::(2,.box 9 [vs v32])::[]) [0,1,2,3,4,5,6,7] [0,1,14,3,4,5] [zq [2] 8 43,zq [6] 9 44,zq [1] 10 45,zq [10] 11 46,zq [9,11] 12 47,zq [8,12] 13 48,⟨[13],[2],[14],[.cell 2 0]⟩] [(_,_),(_,_),(_,_),(_,_),(_,_),(_,_)] rfl ⟨zp rfl (oL underlying9 rfl),z1 rfl,zp rfl (oL underlying9 rfl),zp rfl (oN underlying9 rfl),zp rfl (oB rfl (ibind (f := int .i64) (Option.some.inj hv31))),zp rfl (op_substr _ _ _ v31 (s37.size : Int) _ underlying9 rfl ⟨_, rfl⟩ rfl hv32),zp rfl (oS sz9 rfl),zz⟩ ?_
      refine pt_inb ?_
      exact pt_next _ (zi h).symm rfl
theorem ok_path_alphanumeric (c : Int) (r : Bool) (h : Sh.path_alphanumeric c = some r) : FnOK Tryz.prog 138 [.v (.int .u8 c)] (.v (.bool r)) := by
  unfold Sh.path_alphanumeric at h
  refine fn_ok func138 rfl (zl rfl) rfl rfl fun g0 hn hio => ?_
  refine zgg hn [_,(2,vb false)] [0] [0] [zq [] 1 2] [(_,_)] rfl ⟨z2 rfl,zz⟩ ?_
  refine ht_seq ?_
  refine ht_joinS h (fun (s1 : Bool) => [(2, .v (.bool s1))]) ?_ ?_
  ·rintro s1 h
   refine pt_then (ht_ret ?_)
   obtain rfl := zi h
   exact pt_ret hio rfl (.tmp _ _ .nil) rfl rfl
  ·intro u2 h hl3 hr4
   refine cond_some h (fun hg1_2 h => ?_) (fun hg1_2 h => ?_)
   ·refine cond_some h (fun hg1_6 h => ?_) (fun hg1_6 h => ?_)
    ·refine zg hn (_::(3,.v (.int .u8 c))::(4,vb (decide (48 ≤ c)))::(5,vb true)::(6,.v (.int .u8 c))::(7,vb (decide (c ≤ 57)))::(8,vb (decide (c ≤ 57)))::(9,vb true)::(10,.v undef)::(11,.v undef)::(12,.v undef)::(13,.v undef)::(14,.v undef)::(15,.v undef)::(16,vb true)::(17,vb true)::(18,.v undef)::(19,.v undef)::(20,.v undef)::(21,.v undef)::(22,.v undef)::(23,.v undef)::(24,vb true)::(2,vb true)::[]) [0] [23] (zq [0] 1 3::zq [1] 2 4::zq [2] 3 5::zq [3,0] 4 6::zq [3,4] 5 7::zq [3,5] 6 8::zq [6] 7 9::zq [7] 8 10::zq [7] 9 11::zq [7] 10 12::zq [10] 11 13::zq [10] 12 14::zq [7] 13 15::zq [7] 14 16::zq [14] 15 17::zq [15] 16 18::zq [15] 17 19::zq [15] 18 20::zq [18] 19 21::zq [18] 20 22::zq [15] 21 23::zq [15] 22 24::zq [22] 23 2::[]) [(_,_)] rfl ⟨z1 rfl,z4 rfl rfl,z8 hg1_2 rfl,zr' rfl (oM rfl),zr' rfl (oB rfl rfl),z3 true rfl,z8 hg1_6 rfl,zf rfl,zf rfl,zf rfl,zu' rfl,zu' rfl,zf rfl,z3 true rfl,z1 rfl,zf rfl,zf rfl,zf rfl,zu' rfl,zu' rfl,zf rfl,z3 true rfl,z2 rfl,zz⟩ ?_
     exact hl3 _ (zi h).symm
    ·refine cond_some h (fun hg1_9 h => ?_) (fun hg1_9 h => ?_)
     ·refine cond_some h (fun hg1_14 h => ?_) (fun hg1_14 h => ?_)
      ·refine zg hn (_::(3,.v (.int .u8 c))::(4,vb (decide (48 ≤ c)))::(5,vb true)::(6,.v (.int .u8 c))::(7,vb (decide (c ≤ 57)))::(8,vb (decide (c ≤ 57)))::(9,vb false)::(10,.v (.int .u8 c))::(11,vb (decide (65 ≤ c)))::(12,vb true)::(13,.v (.int .u8 c))::(14,vb (decide (c ≤ 90)))::(15,vb (decide (c ≤ 90)))::(16,vb (decide (c ≤ 90)))::(17,vb true)::(18,.v undef)::(19,.v undef)::(20,.v undef)::(21,.v undef)::(22,.v undef)::(23,.v undef)::(24,vb true)::(2,vb true)::[]) [0] [23] (zq [0] 1 3::zq [1] 2 4::zq [2] 3 5::zq [3,0] 4 6::zq [3,4] 5 7::zq [3,5] 6 8::zq [6] 7 9::zq [7,0] 8 10::zq [7,8] 9 11::zq [7,9] 10 12::zq [10,0] 11 13::zq [10,11] 12 14::zq [7,10,12] 13 15::zq [7,13] 14 16::zq [14] 15 17::zq [15] 16 18::zq [15] 17 19::zq [15] 18 20::zq [18] 19 21::zq [18] 20 22::zq [15] 21 23::zq [15] 22 24::zq [22] 23 2::[]) [(_,_)] rfl ⟨z1 rfl,z4 rfl rfl,z8 hg1_2 rfl,zr' rfl (oM rfl),zr' rfl (oB rfl rfl),z3 true rfl,z8 hg1_6 rfl,zr' rfl (oM rfl),zr' rfl (oB rfl rfl),zr' rfl (op_move _ _ _ _ (zb hg1_9) rfl),zr' rfl (oM rfl),zr' rfl (oB rfl rfl),zr' rfl (op_pick _ _ true _ rfl rfl),z3 false rfl,z8 hg1_14 rfl,zf rfl,zf rfl,zf rfl,zu' rfl,zu' rfl,zf rfl,z3 true rfl,z2 rfl,zz⟩ ?_
       exact hl3 _ (zi h).symm
      ·refine cond_some h (fun hg1_17 h => ?_) (fun hg1_17 h => ?_)
       ·refine zg hn (_::(3,.v (.int .u8 c))::(4,vb (decide (48 ≤ c)))::(5,vb true)::(6,.v (.int .u8 c))::(7,vb (decide (c ≤ 57)))::(8,vb (decide (c ≤ 57)))::(9,vb false)::(10,.v (.int .u8 c))::(11,vb (decide (65 ≤ c)))::(12,vb true)::(13,.v (.int .u8 c))::(14,vb (decide (c ≤ 90)))::(15,vb (decide (c ≤ 90)))::(16,vb (decide (c ≤ 90)))::(17,vb false)::(18,.v (.int .u8 c))::(19,vb (decide (97 ≤ c)))::(20,vb true)::(21,.v (.int .u8 c))::(22,vb (decide (c ≤ 122)))::(23,vb (decide (c ≤ 122)))::(24,vb (decide (c ≤ 122)))::(2,vb (decide (c ≤ 122)))::[]) [0] [23] (zq [0] 1 3::zq [1] 2 4::zq [2] 3 5::zq [3,0] 4 6::zq [3,4] 5 7::zq [3,5] 6 8::zq [6] 7 9::zq [7,0] 8 10::zq [7,8] 9 11::zq [7,9] 10 12::zq [10,0] 11 13::zq [10,11] 12 14::zq [7,10,12] 13 15::zq [7,13] 14 16::zq [14] 15 17::zq [15,0] 16 18::zq [15,16] 17 19::zq [15,17] 18 20::zq [18,0] 19 21::zq [18,19] 20 22::zq [15,18,20] 21 23::zq [15,21] 22 24::zq [22] 23 2::[]) [(_,_)] rfl ⟨z1 rfl,z4 rfl rfl,z8 hg1_2 rfl,zr' rfl (oM rfl),zr' rfl (oB rfl rfl),z3 true rfl,z8 hg1_6 rfl,zr' rfl (oM rfl),zr' rfl (oB rfl rfl),zr' rfl (op_move _ _ _ _ (zb hg1_9) rfl),zr' rfl (oM rfl),zr' rfl (oB rfl rfl),zr' rfl (op_pick _ _ true _ rfl rfl),z3 false rfl,z8 hg1_14 rfl,zr' rfl (oM rfl),zr' rfl (oB rfl rfl),zr' rfl (op_move _ _ _ _ (zb hg1_17) rfl),zr' rfl (oM rfl),zr' rfl (oB rfl rfl),zr' rfl (op_pick _ _ true _ rfl rfl),z3 false rfl,z2 rfl,zz⟩ ?_
        exact hl3 _ (zi h).symm
       ·refine zg hn (_::(3,.v (.int .u8 c))::(4,vb (decide (48 ≤ c)))::(5,vb true)::(6,.v (.int .u8 c))::(7,vb (decide (c ≤ 57)))::(8,vb (decide (c ≤ 57)))::(9,vb false)::(10,.v (.int .u8 c))::(11,vb (decide (65 ≤ c)))::(12,vb true)::(13,.v (.int .u8 c))::(14,vb (decide (c ≤ 90)))::(15,vb (decide (c ≤ 90)))::(16,vb (decide (c ≤ 90)))::(17,vb false)::(18,.v (.int .u8 c))::(19,vb (decide (97 ≤ c)))::(20,vb false)::(21,.v undef)::(22,.v undef)::(23,vb false)::(24,vb false)::(2,vb false)::[]) [0] [23] (zq [0] 1 3::zq [1] 2 4::zq [2] 3 5::zq [3,0] 4 6::zq [3,4] 5 7::zq [3,5] 6 8::zq [6] 7 9::zq [7,0] 8 10::zq [7,8] 9 11::zq [7,9] 10 12::zq [10,0] 11 13::zq [10,11] 12 14::zq [7,10,12] 13 15::zq [7,13] 14 16::zq [14] 15 17::zq [15,0] 16 18::zq [15,16] 17 19::zq [15,17] 18 20::zq [18] 19 21::zq [18] 20 22::zq [15,18] 21 23::zq [15,21] 22 24::zq [22] 23 2::[]) [(_,_)] rfl ⟨z1 rfl,z4 rfl rfl,z8 hg1_2 rfl,zr' rfl (oM rfl),zr' rfl (oB rfl rfl),z3 true rfl,z8 hg1_6 rfl,zr' rfl (oM rfl),zr' rfl (oB rfl rfl),zr' rfl (op_move _ _ _ _ (zb hg1_9) rfl),zr' rfl (oM rfl),zr' rfl (oB rfl rfl),zr' rfl (op_pick _ _ true _ rfl rfl),z3 false rfl,z8 hg1_14 rfl,zr' rfl (oM rfl),zr' rfl (oB rfl rfl),zr' rfl (op_move _ _ _ _ (zb hg1_17) rfl),zt rfl,zt rfl,zr' rfl (op_pick _ _ false _ rfl rfl),z3 false rfl,z2 rfl,zz⟩ ?_
        exact hl3 _ (zi h).symm
     ·refine cond_some h (fun hg1_17 h => ?_) (fun hg1_17 h => ?_)
      ·refine zg hn (_::(3,.v (.int .u8 c))::(4,vb (decide (48 ≤ c)))::(5,vb true)::(6,.v (.int .u8 c))::(7,vb (decide (c ≤ 57)))::(8,vb (decide (c ≤ 57)))::(9,vb false)::(10,.v (.int .u8 c))::(11,vb (decide (65 ≤ c)))::(12,vb false)::(13,.v undef)::(14,.v undef)::(15,vb false)::(16,vb false)::(17,vb false)::(18,.v (.int .u8 c))::(19,vb (decide (97 ≤ c)))::(20,vb true)::(21,.v (.int .u8 c))::(22,vb (decide (c ≤ 122)))::(23,vb (decide (c ≤ 122)))::(24,vb (decide (c ≤ 122)))::(2,vb (decide (c ≤ 122)))::[]) [0] [23] (zq [0] 1 3::zq [1] 2 4::zq [2] 3 5::zq [3,0] 4 6::zq [3,4] 5 7::zq [3,5] 6 8::zq [6] 7 9::zq [7,0] 8 10::zq [7,8] 9 11::zq [7,9] 10 12::zq [10] 11 13::zq [10] 12 14::zq [7,10] 13 15::zq [7,13] 14 16::zq [14] 15 17::zq [15,0] 16 18::zq [15,16] 17 19::zq [15,17] 18 20::zq [18,0] 19 21::zq [18,19] 20 22::zq [15,18,20] 21 23::zq [15,21] 22 24::zq [22] 23 2::[]) [(_,_)] rfl ⟨z1 rfl,z4 rfl rfl,z8 hg1_2 rfl,zr' rfl (oM rfl),zr' rfl (oB rfl rfl),z3 true rfl,z8 hg1_6 rfl,zr' rfl (oM rfl),zr' rfl (oB rfl rfl),zr' rfl (op_move _ _ _ _ (zb hg1_9) rfl),zt rfl,zt rfl,zr' rfl (op_pick _ _ false _ rfl rfl),z3 false rfl,z1 rfl,zr' rfl (oM rfl),zr' rfl (oB rfl rfl),zr' rfl (op_move _ _ _ _ (zb hg1_17) rfl),zr' rfl (oM rfl),zr' rfl (oB rfl rfl),zr' rfl (op_pick _ _ true _ rfl rfl),z3 false rfl,z2 rfl,zz⟩ ?_
       exact hl3 _ (zi h).symm
      ·refine zg hn (_::(3,.v (.int .u8 c))::(4,vb (decide (48 ≤ c)))::(5,vb true)::(6,.v (.int .u8 c))::(7,vb (decide (c ≤ 57)))::(8,vb (decide (c ≤ 57)))::(9,vb false)::(10,.v (.int .u8 c))::(11,vb (decide (65 ≤ c)))::(12,vb false)::(13,.v undef)::(14,.v undef)::(15,vb false)::(16,vb false)::(17,vb false)::(18,.v (.int .u8 c))::(19,vb (decide (97 ≤ c)))::(20,vb false)::(21,.v undef)::(22,.v undef)::(23,vb false)::(24,vb false)::(2,vb false)::[]) [0] [23] (zq [0] 1 3::zq [1] 2 4::zq [2] 3 5::zq [3,0] 4 6::zq [3,4] 5 7::zq [3,5] 6 8::zq [6] 7 9::zq [7,0] 8 10::zq [7,8] 9 11::zq [7,9] 10 12::zq [10] 11 13::zq [10] 12 14::zq [7,10] 13 15::zq [7,13] 14 16::zq [14] 15 17::zq [15,0] 16 18::zq [15,16] 17 19::zq [15,17] 18 20::zq [18] 19 21::zq [18] 20 22::zq [15,18] 21 23::zq [15,21] 22 24::zq [22] 23 2::[]) [(_,_)] rfl ⟨z1 rfl,z4 rfl rfl,z8 hg1_2 rfl,zr' rfl (oM rfl),zr' rfl (oB rfl rfl),z3 true rfl,z8 hg1_6 rfl,zr' rfl (oM rfl),zr' rfl (oB rfl rfl),zr' rfl (op_move _ _ _ _ (zb hg1_9) rfl),zt rfl,zt rfl,zr' rfl (op_pick _ _ false _ rfl rfl),z3 false rfl,z1 rfl,zr' rfl (oM rfl),zr' rfl (oB rfl rfl),zr' rfl (op_move _ _ _ _ (zb hg1_17) rfl),zt rfl,zt rfl,zr' rfl (op_pick _ _ false _ rfl rfl),z3 false rfl,z2 rfl,zz⟩ ?_
       exact hl3 _ (zi h).symm
   ·refine cond_some h (fun hg1_9 h => ?_) (fun hg1_9 h => ?_)
    ·refine cond_some h (fun hg1_14 h => ?_) (fun hg1_14 h => ?_)
     ·refine zg hn (_::(3,.v (.int .u8 c))::(4,vb (decide (48 ≤ c)))::(5,vb false)::(6,.v undef)::(7,.v undef)::(8,vb false)::(9,vb false)::(10,.v (.int .u8 c))::(11,vb (decide (65 ≤ c)))::(12,vb true)::(13,.v (.int .u8 c))::(14,vb (decide (c ≤ 90)))::(15,vb (decide (c ≤ 90)))::(16,vb (decide (c ≤ 90)))::(17,vb true)::(18,.v undef)::(19,.v undef)::(20,.v undef)::(21,.v undef)::(22,.v undef)::(23,.v undef)::(24,vb true)::(2,vb true)::[]) [0] [23] (zq [0] 1 3::zq [1] 2 4::zq [2] 3 5::zq [3] 4 6::zq [3] 5 7::zq [3] 6 8::zq [6] 7 9::zq [7,0] 8 10::zq [7,8] 9 11::zq [7,9] 10 12::zq [10,0] 11 13::zq [10,11] 12 14::zq [7,10,12] 13 15::zq [7,13] 14 16::zq [14] 15 17::zq [15] 16 18::zq [15] 17 19::zq [15] 18 20::zq [18] 19 21::zq [18] 20 22::zq [15] 21 23::zq [15] 22 24::zq [22] 23 2::[]) [(_,_)] rfl ⟨z1 rfl,z4 rfl rfl,z8 hg1_2 rfl,zt rfl,zt rfl,z3 false rfl,z1 rfl,zr' rfl (oM rfl),zr' rfl (oB rfl rfl),zr' rfl (op_move _ _ _ _ (zb hg1_9) rfl),zr' rfl (oM rfl),zr' rfl (oB rfl rfl),zr' rfl (op_pick _ _ true _ rfl rfl),z3 false rfl,z8 hg1_14 rfl,zf rfl,zf rfl,zf rfl,zu' rfl,zu' rfl,zf rfl,z3 true rfl,z2 rfl,zz⟩ ?_
      exact hl3 _ (zi h).symm
     ·refine cond_some h (fun hg1_17 h => ?_) (fun hg1_17 h => ?_)
      ·refine zg hn (_::(3,.v (.int .u8 c))::(4,vb (decide (48 ≤ c)))::(5,vb false)::(6,.v undef)::(7,.v undef)::(8,vb false)::(9,vb false)::(10,.v (.int .u8 c))::(11,vb (decide (65 ≤ c)))::(12,vb true)::(13,.v (.int .u8 c))::(14,vb (decide (c ≤ 90)))::(15,vb (decide (c ≤ 90)))::(16,vb (decide (c ≤ 90)))::(17,vb false)::(18,.v (.int .u8 c))::(19,vb (decide (97 ≤ c)))::(20,vb true)::(21,.v (.int .u8 c))::(22,vb (decide (c ≤ 122)))::(23,vb (decide (c ≤ 122)))::(24,vb (decide (c ≤ 122)))::(2,vb (decide (c ≤ 122)))::[]) [0] [23] (zq [0] 1 3::zq [1] 2 4::zq [2] 3 5::zq [3] 4 6::zq [3] 5 7::zq [3] 6 8::zq [6] 7 9::zq [7,0] 8 10::zq [7,8] 9 11::zq [7,9] 10 12::zq [10,0] 11 13::zq [10,11] 12 14::zq [7,10,12] 13 15::zq [7,13] 14 16::zq [14] 15 17::zq [15,0] 16 18::zq [15,16] 17 19::zq [15,17] 18 20::zq [18,0] 19 21::zq [18,19] 20 22::zq [15,18,20] 21 23::zq [15,21] 22 24::zq [22] 23 2::[]) [(_,_)] rfl ⟨z1 rfl,z4 rfl rfl,z8 hg1_2 rfl,zt rfl,zt rfl,z3 false rfl,z1 rfl,zr' rfl (oM rfl),zr' rfl (oB rfl rfl),zr' rfl (op_move _ _ _ _ (zb hg1_9) rfl),zr' rfl (oM rfl),zr' rfl (oB rfl rfl),zr' rfl (op_pick _ _ true _ rfl rfl),z3 false rfl,z8 hg1_14 rfl,zr' rfl (oM rfl),zr' rfl (oB rfl rfl),zr' rfl (op_move _ _ _ _ (zb hg1_17) rfl),zr' rfl (oM rfl),zr' rfl (oB rfl rfl),zr' rfl (op_pick _ _ true _ rfl rfl),z3 false rfl,z2 rfl,zz⟩ ?_
       exact hl3 _ (zi h).symm
      ·refine zg hn (_::(3,.v (.int .u8 c))::(4,vb (decide (48 ≤ c)))::(5,vb false)::(6,.v undef)::(7,.v undef)::(8,vb false)::(9,vb false)::(10,.v (.int .u8 c))::(11,vb (decide (65 ≤ c)))::(12,vb true)::(13,.v (.int .u8 c))::(14,vb (decide (c ≤ 90)))::(15,vb (decide (c ≤ 90)))::(16,vb (decide (c ≤ 90)))::(17,vb false)::(18,.v (.int .u8 c))::(19,vb (decide (97 ≤ c)))::(20,vb false)::(21,.v undef)::(22,.v undef)::(23,vb false)::(24,vb false)::(2,vb false)::[]) [0] [23] (zq [0] 1 3::zq [1] 2 4::zq [2] 3 5::zq [3] 4 6::zq [3] 5 7::zq [3] 6 8::zq [6] 7 9::zq [7,0] 8 10::zq [7,8] 9 11::zq [7,9] 10 12::zq [10,0] 11 13::zq [10,11] 12 14::zq [7,10,12] 13 15::zq [7,13] 14 16::zq [14] 15 17::zq [15,0] 16 18::zq [15,16] 17 19::zq [15,17] 18 20::zq [18] 19 21::zq [18] 20 22::zq [15,18] 21 23::zq [15,21] 22 24::zq [22] 23 2::[]) [(_,_)] rfl ⟨z1 rfl,z4 rfl rfl,z8 hg1_2 rfl,zt rfl,zt rfl,z3 false rfl,z1 rfl,zr' rfl (oM rfl),zr' rfl (oB rfl rfl),zr' rfl (op_move _ _ _ _ (zb hg1_9) rfl),zr' rfl (oM rfl),zr' rfl (oB rfl rfl),zr' rfl (op_pick _ _ true _ rfl rfl),z3 false rfl,z8 hg1_14 rfl,zr' rfl (oM rfl),zr' rfl (oB rfl rfl),zr' rfl (op_move _ _ _ _ (zb hg1_17) rfl),zt rfl,zt rfl,zr' rfl (op_pick _ _ false _ rfl rfl),z3 false rfl,z2 rfl,zz⟩ ?_
       exact hl3 _ (zi h).symm
    ·refine cond_some h (fun hg1_17 h => ?_) (fun hg1_17 h => ?_)
     ·refine zg hn (_::(3,.v (.int .u8 c))::(4,vb (decide (48 ≤ c)))::(5,vb false)::(6,.v undef)::(7,.v undef)::(8,vb false)::(9,vb false)::(10,.v (.int .u8 c))::(11,vb (decide (65 ≤ c)))::(12,vb false)::(13,.v undef)::(14,.v undef)::(15,vb false)::(16,vb false)::(17,vb false)::(18,.v (.int .u8 c))::(19,vb (decide (97 ≤ c)))::(20,vb true)::(21,.v (.int .u8 c))::(22,vb (decide (c ≤ 122)))::(23,vb (decide (c ≤ 122)))::(24,vb (decide (c ≤ 122)))::(2,vb (decide (c ≤ 122)))::[]) [0] [23] (zq [0] 1 3::zq [1] 2 4::zq [2] 3 5::zq [3] 4 6::zq [3] 5 7::zq [3] 6 8::zq [6] 7 9::zq [7,0] 8 10::zq [7,8] 9 11::zq [7,9] 10 12::zq [10] 11 13::zq [10] 12 14::zq [7,10] 13 15::zq [7,13] 14 16::zq [14] 15 17::zq [15,0] 16 18::zq [15,16] 17 19::zq [15,17] 18 20::zq [18,0] 19 21::zq [18,19] 20 22::zq [15,18,20] 21 23::zq [15,21] 22 24::zq [22] 23 2::[]) [(_,_)] rfl ⟨z1 rfl,z4 rfl rfl,z8 hg1_2 rfl,zt rfl,zt rfl,z3 false rfl,z1 rfl,zr' rfl (oM rfl),zr' rfl (oB rfl rfl),zr' rfl (op_move _ _ _ _ (zb hg1_9) rfl),zt rfl,zt rfl,zr' rfl (op_pick _ _ false _ rfl rfl),z3 false rfl,z1 rfl,zr' rfl (oM rfl),zr' rfl (oB rfl rfl),zr' rfl (op_move _ _ _ _ (zb hg1_17) rfl),zr' rfl (oM rfl),zr' rfl (oB rfl rfl),zr' rfl (op_pick _ _ true _ rfl rfl),z3 false rfl,z2 rfl,zz⟩ ?_
      exact hl3 _ (zi h).symm
     ·refine zg hn (_::(3,.v (.int .u8 c))::(4,vb (decide (48 ≤ c)))::(5,vb false)::(6,.v undef)::(7,.v undef)::(8,vb false)::(9,vb false)::(10,.v (.int .u8 c))::(11,vb (decide (65 ≤ c)))::(12,vb false)::(13,.v undef)::(14,.v undef)::(15,vb false)::(16,vb false)::(17,vb false)::(18,.v (.int .u8 c))::(19,vb (decide (97 ≤ c)))::(20,vb false)::(21,.v undef)::(22,.v undef)::(23,vb false)::(24,vb false)::(2,vb false)::[]) [0] [23] (zq [0] 1 3::zq [1] 2 4::zq [2] 3 5::zq [3] 4 6::zq [3] 5 7::zq [3] 6 8::zq [6] 7 9::zq [7,0] 8 10::zq [7,8] 9 11::zq [7,9] 10 12::zq [10] 11 13::zq [10] 12 14::zq [7,10] 13 15::zq [7,13] 14 16::zq [14] 15 17::zq [15,0] 16 18::zq [15,16] 17 19::zq [15,17] 18 20::zq [18] 19 21::zq [18] 20 22::zq [15,18] 21 23::zq [15,21] 22 24::zq [22] 23 2::[]) [(_,_)] rfl ⟨z1 rfl,z4 rfl rfl,z8 hg1_2 rfl,zt rfl,zt rfl,z3 false rfl,z1 rfl,zr' rfl (oM rfl),zr' rfl (oB rfl rfl),zr' rfl (op_move _ _ _ _ (zb hg1_9) rfl),zt rfl,zt rfl,zr' rfl (op_pick _ _ false _ rfl rfl),z3 false rfl,z1 rfl,zr' rfl (oM rfl),zr' rfl (oB rfl rfl),zr' rfl (op_move _ _ _ _ (zb hg1_17) rfl),zt rfl,zt rfl,zr' rfl (op_pick _ _ false _ rfl rfl),z3 false rfl,z2 rfl,zz⟩ ?_
      exact hl3 _ (zi h).symm
theorem ok_strings_IndexByte (s : ByteArray) (c r : Int) (h : Sh.strings_IndexByte s c = some r) : FnOK Tryz.prog 139 [.v (.string s), .v (.int .u8 c)] (.v (.int .i64 r)) := lib_strings_IndexByte Tryz.strings_IndexByte s c r h
theorem ok_path_atom_1 (c : Int) (r : Bool) (h : Sh.path_atom_1 c = some r) : FnOK Tryz.prog 137 [.v (.int .u8 c)] (.v (.bool r)) := by
  unfold Sh.path_atom_1 at h
  refine fn_ok func137 rfl (zl rfl) rfl rfl fun g0 hn hio => ?_
  refine zgg hn [_,(2,vb false)] [0] [0] [zq [] 1 2] [(_,_)] rfl ⟨z2 rfl,zz⟩ ?_
  refine ht_seq ?_
  refine ht_joinS h (fun (s3 : Bool) => [(2, .v (.bool s3))]) ?_ ?_
  ·rintro s3 h
   refine pt_then (ht_ret ?_)
   obtain rfl := zi h
   exact pt_ret hio rfl (.tmp _ _ .nil) rfl rfl
  ·intro u4 h hl5 hr6
   obtain ⟨v1, hv1, h⟩ := zn h
   refine cond_some h (fun hg1_2 h => ?_) (fun hg1_2 h => ?_)
   ·refine zg hn [_,(3,.v (.int .u8 c)),(4,vb v1),(5,vb true),(6,.v undef),(7,.v undef),(8,.v undef),(9,vb true),(2,vb true)] [0] [8] [zq [0] 1 3,zq [1] 2 4,zq [2] 3 5,zq [3] 4 6,zq [3] 5 7,zq [3] 6 8,zq [3] 7 9,zq [7] 8 2] [(_,_)] rfl ⟨z1 rfl,zp rfl (op_call _ _ 138 _ _ rfl call138 rfl (ok_path_alphanumeric c _ hv1) rfl rfl),z8 hg1_2 rfl,zf rfl,zf rfl,zf rfl,z3 true rfl,z2 rfl,zz⟩ ?_
    exact hl5 _ (zi h).symm
   ·obtain ⟨v2, hv2, h⟩ := zn h
    refine zg hn [_,(3,.v (.int .u8 c)),(4,vb v1),(5,vb false),(6,.v (.int .u8 c)),(7,vi v2),(8,vb (decide (0 ≤ v2))),(9,vb (decide (0 ≤ v2))),(2,vb (decide (0 ≤ v2)))] [0] [8] [zq [0] 1 3,zq [1] 2 4,zq [2] 3 5,zq [3,0] 4 6,zq [3,4] 5 7,zq [3,5] 6 8,zq [3,6] 7 9,zq [7] 8 2] [(_,_)] rfl ⟨z1 rfl,zp rfl (op_call _ _ 138 _ _ rfl call138 rfl (ok_path_alphanumeric c _ hv1) rfl rfl),z8 hg1_2 rfl,zr' rfl (oM rfl),zr' rfl (op_call _ _ 139 _ _ rfl call139 rfl (ok_strings_IndexByte (⟨#[33, 35, 36, 37, 38, 39, 42, 43, 45, 47, 61, 63, 94, 95, 96, 123, 124, 125, 126]⟩ : ByteArray) c _ hv2) rfl rfl),zr' rfl (oB rfl rfl),z3 false rfl,z2 rfl,zz⟩ ?_
    exact hl5 _ (zi h).symm
theorem ok_path_all_of_path_atom_1 (s : ByteArray) (r : Bool) (h : Sh.path_all_of_path_atom_1 s = some r) : FnOK Tryz.prog 136 [.v (.string s), .v (.func (.func 137) #[] #[])] (.v (.bool r)) := by
  unfold Sh.path_all_of_path_atom_1 at h
  refine fn_ok func136 rfl (zl rfl) rfl rfl fun g0 hn hio => ?_
  refine zgg hn [_,_,(4,vb false)] [0,1] [0,1] [zq [] 2 4] [(_,_),(_,_)] rfl ⟨z2 rfl,zz⟩ ?_
  refine ht_seq ?_
  refine zgg hn [_,_,(6,vs s),(7,vi (s.size : Int)),(8,vi 0)] [0,1] [0,1,3,4] [zq [0] 2 6,zq [2] 3 7,zq [] 4 8] [(_,_),(_,_),(_,_),(_,_)] rfl ⟨z1 rfl,zp rfl (oN underlying9 rfl),z1 rfl,zz⟩ ?_
  refine ht_loopS h (fun (s9 : Int) => [(0, .v (.string s)), (1, .v (.func (.func 137) #[] #[])), (7, .v (.int .i64 (s.size : Int))), (8, .v (.int .i64 s9))]) (fun (() : Unit) => []) ?_ ?_
  ·rintro ⟨⟩ h
   refine pt_then ?_
   refine zgg hn [(4,vb true)] [] [0] [zq [] 0 4] [(_,_)] rfl ⟨z2 rfl,zz⟩ ?_
   refine ht_ret ?_
   obtain rfl := zi h
   exact pt_ret hio rfl (.tmp _ _ .nil) rfl rfl
  ·rintro u12 hl13 hr14 s9 rr17 h ho15
   refine zgg hn [_,_,_,_,(9,vb (decide (s9 < (s.size : Int))))] [0,1,2,3] [0,1,2,3,4] [zq [3,2] 4 9] [(_,_),(_,_),(_,_),(_,_),(_,_)] rfl ⟨z4 rfl rfl,zz⟩ ?_
   refine ht_seq ?_
   refine ht_cond _ rfl (fun hb18 => ?_) (fun hb18 => ?_)
   ·have h := cond_t hb18 h
    refine ht_skip ?_
    refine pt_then (ht_seq ?_)
    refine ht_block ?_
    refine zgg hn [_,_,_,_,_,(10,vi s9),(5,vi s9)] [0,1,2,3,4] [0,1,2,3,6] [zq [3] 5 10,zq [5] 6 5] [(_,_),(_,_),(_,_),(_,_),(_,_)] rfl ⟨z1 rfl,z2 rfl,zz⟩ ?_
    refine ht_seq ?_
    obtain ⟨v2, hv2, h⟩ := zn h
    obtain ⟨v3, hv3, h⟩ := zn h
    refine zg hn [_,_,_,_,_,(11,.v (.func (.func 137) #[] #[])),(12,vs s),(13,vi s9),(14,.v (.int .u8 v2)),(15,vb v3),(16,vb (!v3))] [0,1,2,3,4] [0,1,2,3,10] [zq [1] 5 11,zq [0] 6 12,zq [4] 7 13,zq [6,7] 8 14,zq [8,5] 9 15,zq [9] 10 16] [(_,_),(_,_),(_,_),(_,_),(_,_)] rfl ⟨z1 rfl,z1 rfl,z1 rfl,zp rfl (op_chr _ _ _ s9 _ underlying9 rfl rfl hv2),zp rfl (op_call _ _ 137 _ _ rfl call137 rfl (ok_path_atom_1 v2 _ hv3) rfl rfl),zp rfl (op_un _ _ _ _ rfl rfl),zz⟩ ?_
    refine pt_then ?_
    refine ht_cond _ rfl (fun hb19 => ?_) (fun hb19 => ?_)
    ·have h := cond_t hb19 h
     refine zgg hn [_,_,_,_,_,(4,vb false)] [0,1,2,3,4] [5] [zq [] 5 4] [(_,_)] rfl ⟨z2 rfl,zz⟩ ?_
     refine ht_ret ?_
     refine pt_r_in ?_
     refine pt_r_then ?_
     refine pt_r_then ?_
     refine pt_r_in ?_
     refine pt_r_then ?_
     have h := hr14 _ (ho15 _ (zi h).symm).symm
     obtain rfl := zi h
     exact pt_ret hio rfl (.tmp _ _ .nil) rfl rfl
    ·have h := cond_f hb19 h
     refine ht_skip ?_
     refine pt_inb ?_
     refine pt_then ?_
     obtain ⟨v5, hv5, h⟩ := zn h
     refine zg hn [_,_,_,_,_,(17,vi v5),(8,vi v5)] [0,1,2,3,4] [0,1,2,6] [zq [3] 5 17,⟨[5],[3],[6],[(.slot 8)]⟩] [(_,_),(_,_),(_,_),(_,_)] rfl ⟨zp rfl (oB rfl (ibind (f := int .i64) (Option.some.inj hv5))),zp rfl (LOp.drop [_] (oM rfl)),zz⟩ ?_
     exact pt_next _ (zi h).symm rfl
   ·have h := cond_f hb18 h
    refine ht_exit ?_
    refine pt_x_then ?_
    refine pt_x_then ?_
    refine pt_x_in ?_
    refine pt_pick [] (by kernel_rfl) (es' := []) rfl ?_
    exact hl13 _ (ho15 _ (zi h).symm).symm
theorem ok_path_atom (s : ByteArray) (r : Bool) (h : Sh.path_atom s = some r) : FnOK Tryz.prog 109 [.v (.string s)] (.v (.bool r)) := by
  unfold Sh.path_atom at h
  refine fn_ok func109 rfl (zl rfl) rfl rfl fun g0 hn hio => ?_
  refine zgg hn [_,(2,vb false)] [0] [0] [zq [] 1 2] [(_,_)] rfl ⟨z2 rfl,zz⟩ ?_
  refine ht_seq ?_
  refine ht_joinS h (fun (s2 : Bool) => [(2, .v (.bool s2))]) ?_ ?_
  ·rintro s2 h
   refine pt_then (ht_ret ?_)
   obtain rfl := zi h
   exact pt_ret hio rfl (.tmp _ _ .nil) rfl rfl
  ·intro u3 h hl4 hr5
   refine cond_some h (fun hg1_2 h => ?_) (fun hg1_2 h => ?_)
   ·obtain ⟨v1, hv1, h⟩ := zn h
    refine zg hn [_,(3,vs s),(4,vb (!(s.toList == z0.toList))),(5,vb true),(6,vs s),(7,vb v1),(8,vb v1),(2,vb v1)] [0] [7] [zq [0] 1 3,zq [1] 2 4,zq [2] 3 5,zq [3,0] 4 6,zq [3,4] 5 7,zq [3,5] 6 8,zq [6] 7 2] [(_,_)] rfl ⟨z1 rfl,z4 rfl rfl,z8 hg1_2 rfl,zr' rfl (oM rfl),zr' rfl (op_call _ _ 136 _ _ rfl call136 rfl (ok_path_all_of_path_atom_1 s _ hv1) rfl rfl),z3 true rfl,z2 rfl,zz⟩ ?_
    exact hl4 _ (zi h).symm
   ·refine zg hn [_,(3,vs s),(4,vb (!(s.toList == z0.toList))),(5,vb false),(6,.v undef),(7,.v undef),(8,vb false),(2,vb false)] [0] [7] [zq [0] 1 3,zq [1] 2 4,zq [2] 3 5,zq [3] 4 6,zq [3] 5 7,zq [3] 6 8,zq [6] 7 2] [(_,_)] rfl ⟨z1 rfl,z4 rfl rfl,z8 hg1_2 rfl,zt rfl,zt rfl,z3 false rfl,z2 rfl,zz⟩ ?_
    exact hl4 _ (zi h).symm
theorem ok_path_dotted_of_path_atom (mx : Int) (s : ByteArray) (r : Bool) (h : Sh.path_dotted_of_path_atom s = some r) : FnG Tryz.prog (GL mx) 108 [.v (.string s), .v (.func (.func 109) #[] #[])] (.v (.bool r)) := by
  unfold Sh.path_dotted_of_path_atom at h
  refine fn_okG func108 rfl (zl rfl) rfl rfl fun g0 hn hio => ?_
  refine zgg hn [_,_,_,(3,.box 125 [.v (.func (.func 109) #[] #[])]),(4,.box 4 [vb false])] [0,1,2] [0,2,3,4] [zq [1] 3 3,zq [] 4 4] [(_,_),(_,_),(_,_),(_,_)] rfl ⟨zp rfl (op_box _ _ _ _ rfl rfl rfl),zp rfl (op_alloc _ _ zr4),zz⟩ ?_
  refine ht_seq ?_
  refine ht_seq ?_
  obtain ⟨v1, hv1, h⟩ := zn h
  refine zg hn [_,_,_,_,(6,vs s),(7,.cloB 161 [.box 9 [vs v1.1],.box 9 [vs v1.2.1],.box 3 [vi v1.2.2]])] [0,1,2,3] [1,2,3,5] [zq [0] 4 6,zq [4] 5 7] [(_,_),(_,_),(_,_),(_,_)] rfl ⟨z1 rfl,zp rfl (op_callS _ _ 135 _ _ rfl call135 rfl rfl (ok_strings_SplitSeq s (⟨#[46]⟩ : ByteArray) _ hv1) rfl),zz⟩ ?_
  refine pt_then ?_
  refine ht_block ?_
  refine ht_pick [3, 0, 1, 2] (by kernel_rfl) (es' := [(7, .cloB 161 [.box 9 [.v (.string v1.1)], .box 9 [.v (.string v1.2.1)], .box 3 [.v (.int .i64 v1.2.2)]]), (13, .glob (GL mx)), (3, .box 125 [.v (.func (.func 109) #[] #[])]), (4, .box 4 [.v (.bool false)])]) rfl ?_
  refine ht_rangeF h 161 7 8 14 _ [13, 3, 4] call161 (fun (() : Unit) => [(13, .glob (GL mx)), (3, .box 125 [.v (.func (.func 109) #[] #[])]), (4, .box 4 [.v (.bool false)])]) (fun (() : Unit) => [(13, .glob (GL mx)), (3, .box 125 [.v (.func (.func 109) #[] #[])]), (4, .box 4 [.v (.bool false)])]) (fun l J Y hY t t' h => ok_strings_splitSeq_1 mx l J Y hY v1.1 v1.2.1 v1.2.2 t t' h) hn rfl (fun _ => rfl) (fun _ => rfl) (fun _ => rfl) rfl rfl (fun _ => ⟨rfl, rfl⟩) rfl (glIn_look 13 rfl) ?_ ?_ ?_
  ·rintro kk g0 hn hio x ⟨⟩ u h
   refine ht_es (es' := [(8, .v (.string x)), (13, .glob (GL mx)), (3, .box 125 [.v (.func (.func 109) #[] #[])]), (4, .box 4 [.v (.bool false)]), (13, .v (kk.tm.getD 13 undef)), (3, .v (kk.tm.getD 3 undef)), (4, .v (kk.tm.getD 4 undef)), (14, .inv kk.ready)]) rfl ?_
   refine zg hn [_,_,_,_,_,_,_,_,(5,vs x)] [0,1,2,3,4,5,6,7] [1,2,3,4,5,6,7,8] [zq [0] 8 5] [(_,_),(_,_),(_,_),(_,_),(_,_),(_,_),(_,_),(_,_)] rfl ⟨z2 rfl,zz⟩ ?_
   refine pt_pick [0, 1, 2, 3, 4, 5, 7, 6] (by kernel_rfl) (es' := [(13, .glob (GL mx)), (3, .box 125 [.v (.func (.func 109) #[] #[])]), (4, .box 4 [.v (.bool false)]), (13, .v (kk.tm.getD 13 undef)), (3, .v (kk.tm.getD 3 undef)), (4, .v (kk.tm.getD 4 undef)), (5, .v (.string x)), (14, .inv kk.ready)]) rfl ?_
   refine pt_begin (es := [(13, .glob (GL mx)), (3, .box 125 [.v (.func (.func 109) #[] #[])]), (4, .box 4 [.v (.bool false)]), (13, .v (kk.tm.getD 13 undef)), (3, .v (kk.tm.getD 3 undef)), (4, .v (kk.tm.getD 4 undef)), (5, .v (.string x))]) 14 rfl ?_
   refine ht_block ?_
   refine ht_seq ?_
   obtain ⟨v2, hv2, h⟩ := zn h
   refine zg hn [_,_,_,_,_,_,_,_,(9,.v (.func (.func 109) #[] #[])),(10,vs x),(11,vb v2),(12,vb (!v2))] [0,1,2,3,4,5,6,7] [0,1,2,3,4,5,7,11] [zq [1] 8 9,zq [6] 9 10,zq [9,8] 10 11,zq [10] 11 12] [(_,_),(_,_),(_,_),(_,_),(_,_),(_,_),(_,_),(_,_)] rfl ⟨zp rfl (oL underlying125 rfl),z1 rfl,zp rfl (op_call _ _ 109 _ _ rfl call109 rfl (ok_path_atom x _ hv2) rfl rfl),zp rfl (op_un _ _ _ _ rfl rfl),zz⟩ ?_
   refine pt_then ?_
   refine ht_cond _ rfl (fun hb5 => ?_) (fun hb5 => ?_)
   ·have h := cond_t hb5 h
    refine zgg hn [_,_,_,_,_,_,_,_,(4,.box 4 [vb false])] [0,1,2,3,4,5,6,7] [0,1,8,3,4,5,6] [⟨[],[2],[8],[.cell 4 0]⟩] [(_,_),(_,_),(_,_),(_,_),(_,_),(_,_),(_,_)] rfl ⟨zp rfl (oS sz4 rfl),zz⟩ ?_
    refine ht_ret ?_
    refine pt_r_in ?_
    obtain rfl := zi h
    exact pt_rret 14 [13, 3, 4] _ rfl rfl (by kernel_rfl)
   ·have h := cond_f hb5 h
    refine ht_skip ?_
    refine pt_inb ?_
    refine pt_pick [0, 1, 2, 3, 4, 5, 6] (by kernel_rfl) (es' := [(_,_),(_,_),(_,_),(_,_),(_,_),(_,_),(_,_)]) rfl ?_
    obtain rfl := zi h
    exact pt_rnext 14 [13, 3, 4] _ rfl rfl (by kernel_rfl)
  ·rintro D ⟨⟩ h
   refine pt_inb ?_
   refine pt_then ?_
   refine zgg hn [_,_,_,(4,.box 4 [vb true])] [0,1,2] [0,3] [⟨[],[2],[3],[.cell 4 0]⟩] [(_,_),(_,_)] rfl ⟨zp rfl (oS sz4 rfl),zz⟩ ?_
   refine ht_ret ?_
   refine pt_pick [1] (by kernel_rfl) (es' := [(_,_)]) rfl ?_
   obtain rfl := zi h
   exact pt_ret hio rfl (.cell1 _ _ _ _ underlying4 rfl .nil) rfl rfl
  ·rintro D ⟨⟩ h
   refine pt_pick [2] (by kernel_rfl) (es' := [(_,_)]) rfl ?_
   refine pt_r_in ?_
   refine pt_r_then ?_
   obtain rfl := zi h
   exact pt_ret hio rfl (.cell1 _ _ _ _ underlying4 rfl .nil) rfl rfl
theorem ok_path_local (mx : Int) (s : ByteArray) (r : Bool) (h : Sh.path_local s = some r) : FnG Tryz.prog (GL mx) 87 [.v (.string s)] (.v (.bool r)) := by
  unfold Sh.path_local at h
  refine fn_okG func87 rfl (zl rfl) rfl rfl fun g0 hn hio => ?_
  refine zgg hn [_,_,(2,vb false)] [0,1] [0,1] [zq [] 2 2] [(_,_),(_,_)] rfl ⟨z2 rfl,zz⟩ ?_
  refine ht_seq ?_
  refine ht_joinS h (fun (s2 : Bool) => [(10, .glob (GL mx)), (2, .v (.bool s2))]) ?_ ?_
  ·rintro s2 h
   refine pt_then (ht_ret ?_)
   refine pt_pick [1] (by kernel_rfl) (es' := [(_,_)]) rfl ?_
   obtain rfl := zi h
   exact pt_ret hio rfl (.tmp _ _ .nil) rfl rfl
  ·intro u3 h hl4 hr5
   refine cond_some h (fun hg1_3 h => ?_) (fun hg1_3 h => ?_)
   ·obtain ⟨v1, hv1, h⟩ := zn h
    refine zg hn [_,_,(3,vs s),(4,vi (s.size : Int)),(5,vb (decide ((s.size : Int) ≤ 64))),(6,vb true),(7,vs s),(8,vb v1),(9,vb v1),(2,vb v1)] [0,1] [1,9] [zq [0] 2 3,zq [2] 3 4,zq [3] 4 5,zq [4] 5 6,zq [5,0] 6 7,zq [5,6,1] 7 8,zq [5,7] 8 9,zq [8] 9 2] [(_,_),(_,_)] rfl ⟨z1 rfl,zp rfl (oN underlying9 rfl),z4 rfl rfl,z8 hg1_3 rfl,zr' rfl (oM rfl),zr' rfl (op_callG _ _ 10 108 _ _ rfl call108 rfl rfl (fun _ h => h) (ok_path_dotted_of_path_atom mx s _ hv1) rfl rfl),z3 true rfl,z2 rfl,zz⟩ ?_
    exact hl4 _ (zi h).symm
   ·refine zg hn [_,_,(3,vs s),(4,vi (s.size : Int)),(5,vb (decide ((s.size : Int) ≤ 64))),(6,vb false),(7,.v undef),(8,.v undef),(9,vb false),(2,vb false)] [0,1] [1,9] [zq [0] 2 3,zq [2] 3 4,zq [3] 4 5,zq [4] 5 6,zq [5] 6 7,zq [5] 7 8,zq [5] 8 9,zq [8] 9 2] [(_,_),(_,_)] rfl ⟨z1 rfl,zp rfl (oN underlying9 rfl),z4 rfl rfl,z8 hg1_3 rfl,zt rfl,zt rfl,z3 false rfl,z2 rfl,zz⟩ ?_
    exact hl4 _ (zi h).symm
theorem ok_path_label_1 (c : Int) (r : Bool) (h : Sh.path_label_1 c = some r) : FnOK Tryz.prog 140 [.v (.int .u8 c)] (.v (.bool r)) := by
  unfold Sh.path_label_1 at h
  refine fn_ok func140 rfl (zl rfl) rfl rfl fun g0 hn hio => ?_
  refine zgg hn [_,(2,vb false)] [0] [0] [zq [] 1 2] [(_,_)] rfl ⟨z2 rfl,zz⟩ ?_
  refine ht_seq ?_
  refine ht_joinS h (fun (s2 : Bool) => [(2, .v (.bool s2))]) ?_ ?_
  ·rintro s2 h
   refine pt_then (ht_ret ?_)
   obtain rfl := zi h
   exact pt_ret hio rfl (.tmp _ _ .nil) rfl rfl
  ·intro u3 h hl4 hr5
   obtain ⟨v1, hv1, h⟩ := zn h
   refine cond_some h (fun hg1_2 h => ?_) (fun hg1_2 h => ?_)
   ·refine zg hn [_,(3,.v (.int .u8 c)),(4,vb v1),(5,vb true),(6,.v undef),(7,.v undef),(8,vb true),(2,vb true)] [0] [7] [zq [0] 1 3,zq [1] 2 4,zq [2] 3 5,zq [3] 4 6,zq [3] 5 7,zq [3] 6 8,zq [6] 7 2] [(_,_)] rfl ⟨z1 rfl,zp rfl (op_call _ _ 138 _ _ rfl call138 rfl (ok_path_alphanumeric c _ hv1) rfl rfl),z8 hg1_2 rfl,zf rfl,zf rfl,z3 true rfl,z2 rfl,zz⟩ ?_
    exact hl4 _ (zi h).symm
   ·refine zg hn [_,(3,.v (.int .u8 c)),(4,vb v1),(5,vb false),(6,.v (.int .u8 c)),(7,vb (c == 45)),(8,vb (c == 45)),(2,vb (c == 45))] [0] [7] [zq [0] 1 3,zq [1] 2 4,zq [2] 3 5,zq [3,0] 4 6,zq [3,4] 5 7,zq [3,5] 6 8,zq [6] 7 2] [(_,_)] rfl ⟨z1 rfl,zp rfl (op_call _ _ 138 _ _ rfl call138 rfl (ok_path_alphanumeric c _ hv1) rfl rfl),z8 hg1_2 rfl,zr' rfl (oM rfl),zr' rfl (oB rfl rfl),z3 false rfl,z2 rfl,zz⟩ ?_
    exact hl4 _ (zi h).symm
theorem ok_path_all_of_path_label_1 (s : ByteArray) (r : Bool) (h : Sh.path_all_of_path_label_1 s = some r) : FnOK Tryz.prog 136 [.v (.string s), .v (.func (.func 140) #[] #[])] (.v (.bool r)) := by
  unfold Sh.path_all_of_path_label_1 at h
  refine fn_ok func136 rfl (zl rfl) rfl rfl fun g0 hn hio => ?_
  refine zgg hn [_,_,(4,vb false)] [0,1] [0,1] [zq [] 2 4] [(_,_),(_,_)] rfl ⟨z2 rfl,zz⟩ ?_
  refine ht_seq ?_
  refine zgg hn [_,_,(6,vs s),(7,vi (s.size : Int)),(8,vi 0)] [0,1] [0,1,3,4] [zq [0] 2 6,zq [2] 3 7,zq [] 4 8] [(_,_),(_,_),(_,_),(_,_)] rfl ⟨z1 rfl,zp rfl (oN underlying9 rfl),z1 rfl,zz⟩ ?_
  refine ht_loopS h (fun (s9 : Int) => [(0, .v (.string s)), (1, .v (.func (.func 140) #[] #[])), (7, .v (.int .i64 (s.size : Int))), (8, .v (.int .i64 s9))]) (fun (() : Unit) => []) ?_ ?_
  ·rintro ⟨⟩ h
   refine pt_then ?_
   refine zgg hn [(4,vb true)] [] [0] [zq [] 0 4] [(_,_)] rfl ⟨z2 rfl,zz⟩ ?_
   refine ht_ret ?_
   obtain rfl := zi h
   exact pt_ret hio rfl (.tmp _ _ .nil) rfl rfl
  ·rintro u12 hl13 hr14 s9 rr17 h ho15
   refine zgg hn [_,_,_,_,(9,vb (decide (s9 < (s.size : Int))))] [0,1,2,3] [0,1,2,3,4] [zq [3,2] 4 9] [(_,_),(_,_),(_,_),(_,_),(_,_)] rfl ⟨z4 rfl rfl,zz⟩ ?_
   refine ht_seq ?_
   refine ht_cond _ rfl (fun hb18 => ?_) (fun hb18 => ?_)
   ·have h := cond_t hb18 h
    refine ht_skip ?_
    refine pt_then (ht_seq ?_)
    refine ht_block ?_
    refine zgg hn [_,_,_,_,_,(10,vi s9),(5,vi s9)] [0,1,2,3,4] [0,1,2,3,6] [zq [3] 5 10,zq [5] 6 5] [(_,_),(_,_),(_,_),(_,_),(_,_)] rfl ⟨z1 rfl,z2 rfl,zz⟩ ?_
    refine ht_seq ?_
    obtain ⟨v2, hv2, h⟩ := zn h
    obtain ⟨v3, hv3, h⟩ := zn h
    refine zg hn [_,_,_,_,_,(11,.v (.func (.func 140) #[] #[])),(12,vs s),(13,vi s9),(14,.v (.int .u8 v2)),(15,vb v3),(16,vb (!v3))] [0,1,2,3,4] [0,1,2,3,10] [zq [1] 5 11,zq [0] 6 12,zq [4] 7 13,zq [6,7] 8 14,zq [8,5] 9 15,zq [9] 10 16] [(_,_),(_,_),(_,_),(_,_),(_,_)] rfl ⟨z1 rfl,z1 rfl,z1 rfl,zp rfl (op_chr _ _ _ s9 _ underlying9 rfl rfl hv2),zp rfl (op_call _ _ 140 _ _ rfl call140 rfl (ok_path_label_1 v2 _ hv3) rfl rfl),zp rfl (op_un _ _ _ _ rfl rfl),zz⟩ ?_
    refine pt_then ?_
    refine ht_cond _ rfl (fun hb19 => ?_) (fun hb19 => ?_)
    ·have h := cond_t hb19 h
     refine zgg hn [_,_,_,_,_,(4,vb false)] [0,1,2,3,4] [5] [zq [] 5 4] [(_,_)] rfl ⟨z2 rfl,zz⟩ ?_
     refine ht_ret ?_
     refine pt_r_in ?_
     refine pt_r_then ?_
     refine pt_r_then ?_
     refine pt_r_in ?_
     refine pt_r_then ?_
     have h := hr14 _ (ho15 _ (zi h).symm).symm
     obtain rfl := zi h
     exact pt_ret hio rfl (.tmp _ _ .nil) rfl rfl
    ·have h := cond_f hb19 h
     refine ht_skip ?_
     refine pt_inb ?_
     refine pt_then ?_
     obtain ⟨v5, hv5, h⟩ := zn h
     refine zg hn [_,_,_,_,_,(17,vi v5),(8,vi v5)] [0,1,2,3,4] [0,1,2,6] [zq [3] 5 17,⟨[5],[3],[6],[(.slot 8)]⟩] [(_,_),(_,_),(_,_),(_,_)] rfl ⟨zp rfl (oB rfl (ibind (f := int .i64) (Option.some.inj hv5))),zp rfl (LOp.drop [_] (oM rfl)),zz⟩ ?_
     exact pt_next _ (zi h).symm rfl
   ·have h := cond_f hb18 h
    refine ht_exit ?_
    refine pt_x_then ?_
    refine pt_x_then ?_
    refine pt_x_in ?_
    refine pt_pick [] (by kernel_rfl) (es' := []) rfl ?_
    exact hl13 _ (ho15 _ (zi h).symm).symm
theorem ok_path_label (s : ByteArray) (r : Bool) (h : Sh.path_label s = some r) : FnOK Tryz.prog 110 [.v (.string s)] (.v (.bool r)) := by
  unfold Sh.path_label at h
  refine fn_ok func110 rfl (zl rfl) rfl rfl fun g0 hn hio => ?_
  refine zgg hn [_,(2,vb false)] [0] [0] [zq [] 1 2] [(_,_)] rfl ⟨z2 rfl,zz⟩ ?_
  refine ht_seq ?_
  refine ht_joinS h (fun (s5 : Bool) => [(2, .v (.bool s5))]) ?_ ?_
  ·rintro s5 h
   refine pt_then (ht_ret ?_)
   obtain rfl := zi h
   exact pt_ret hio rfl (.tmp _ _ .nil) rfl rfl
  ·intro u6 h hl7 hr8
   refine cond_some h (fun hg1_2 h => ?_) (fun hg1_2 h => ?_)
   ·refine cond_some h (fun hg1_7 h => ?_) (fun hg1_7 h => ?_)
    ·obtain ⟨v1, hv1, h⟩ := zn h
     refine cond_some h (fun hg1_12 h => ?_) (fun hg1_12 h => ?_)
     ·obtain ⟨v2, hv2, h⟩ := zn h
      obtain ⟨v3, hv3, h⟩ := zn h
      refine cond_some h (fun hg1_20 h => ?_) (fun hg1_20 h => ?_)
      ·obtain ⟨v4, hv4, h⟩ := zn h
       refine zg hn (_::(3,vs s)::(4,vb (!(s.toList == z0.toList)))::(5,vb true)::(6,vs s)::(7,vi (s.size : Int))::(8,vb (decide ((s.size : Int) ≤ 63)))::(9,vb (decide ((s.size : Int) ≤ 63)))::(10,vb true)::(11,vs s)::(12,.v (.int .u8 v1))::(13,vb (v1 != 45))::(14,vb (v1 != 45))::(15,vb true)::(16,vs s)::(17,vs s)::(18,vi (s.size : Int))::(19,vi v2)::(20,.v (.int .u8 v3))::(21,vb (v3 != 45))::(22,vb (v3 != 45))::(23,vb true)::(24,vs s)::(25,vb v4)::(26,vb v4)::(2,vb v4)::[]) [0] [25] (zq [0] 1 3::zq [1] 2 4::zq [2] 3 5::zq [3,0] 4 6::zq [3,4] 5 7::zq [3,5] 6 8::zq [3,6] 7 9::zq [7] 8 10::zq [8,0] 9 11::zq [8,9] 10 12::zq [8,10] 11 13::zq [8,11] 12 14::zq [12] 13 15::zq [13,0] 14 16::zq [13,0] 15 17::zq [13,15] 16 18::zq [13,16] 17 19::zq [13,14,17] 18 20::zq [13,18] 19 21::zq [13,19] 20 22::zq [20] 21 23::zq [21,0] 22 24::zq [21,22] 23 25::zq [21,23] 24 26::zq [24] 25 2::[]) [(_,_)] rfl ⟨z1 rfl,z4 rfl rfl,z8 hg1_2 rfl,zr' rfl (oM rfl),zr' rfl (oN underlying9 rfl),zr' rfl (oB rfl rfl),z3 true rfl,z8 hg1_7 rfl,zr' rfl (oM rfl),zr' rfl (op_chr _ _ _ 0 _ underlying9 rfl rfl hv1),zr' rfl (oB rfl rfl),z3 true rfl,z8 hg1_12 rfl,zr' rfl (oM rfl),zr' rfl (oM rfl),zr' rfl (oN underlying9 rfl),zr' rfl (oB rfl (ibind (f := int .i64) (Option.some.inj hv2))),zr' rfl (op_chr _ _ _ v2 _ underlying9 rfl rfl hv3),zr' rfl (oB rfl rfl),z3 true rfl,z8 hg1_20 rfl,zr' rfl (oM rfl),zr' rfl (op_call _ _ 136 _ _ rfl call136 rfl (ok_path_all_of_path_label_1 s _ hv4) rfl rfl),z3 true rfl,z2 rfl,zz⟩ ?_
       exact hl7 _ (zi h).symm
      ·refine zg hn (_::(3,vs s)::(4,vb (!(s.toList == z0.toList)))::(5,vb true)::(6,vs s)::(7,vi (s.size : Int))::(8,vb (decide ((s.size : Int) ≤ 63)))::(9,vb (decide ((s.size : Int) ≤ 63)))::(10,vb true)::(11,vs s)::(12,.v (.int .u8 v1))::(13,vb (v1 != 45))::(14,vb (v1 != 45))::(15,vb true)::(16,vs s)::(17,vs s)::(18,vi (s.size : Int))::(19,vi v2)::(20,.v (.int .u8 v3))::(21,vb (v3 != 45))::(22,vb (v3 != 45))::(23,vb false)::(24,.v undef)::(25,.v undef)::(26,vb false)::(2,vb false)::[]) [0] [25] (zq [0] 1 3::zq [1] 2 4::zq [2] 3 5::zq [3,0] 4 6::zq [3,4] 5 7::zq [3,5] 6 8::zq [3,6] 7 9::zq [7] 8 10::zq [8,0] 9 11::zq [8,9] 10 12::zq [8,10] 11 13::zq [8,11] 12 14::zq [12] 13 15::zq [13,0] 14 16::zq [13,0] 15 17::zq [13,15] 16 18::zq [13,16] 17 19::zq [13,14,17] 18 20::zq [13,18] 19 21::zq [13,19] 20 22::zq [20] 21 23::zq [21] 22 24::zq [21] 23 25::zq [21] 24 26::zq [24] 25 2::[]) [(_,_)] rfl ⟨z1 rfl,z4 rfl rfl,z8 hg1_2 rfl,zr' rfl (oM rfl),zr' rfl (oN underlying9 rfl),zr' rfl (oB rfl rfl),z3 true rfl,z8 hg1_7 rfl,zr' rfl (oM rfl),zr' rfl (op_chr _ _ _ 0 _ underlying9 rfl rfl hv1),zr' rfl (oB rfl rfl),z3 true rfl,z8 hg1_12 rfl,zr' rfl (oM rfl),zr' rfl (oM rfl),zr' rfl (oN underlying9 rfl),zr' rfl (oB rfl (ibind (f := int .i64) (Option.some.inj hv2))),zr' rfl (op_chr _ _ _ v2 _ underlying9 rfl rfl hv3),zr' rfl (oB rfl rfl),z3 true rfl,z8 hg1_20 rfl,zt rfl,zt rfl,z3 false rfl,z2 rfl,zz⟩ ?_
       exact hl7 _ (zi h).symm
     ·refine zg hn (_::(3,vs s)::(4,vb (!(s.toList == z0.toList)))::(5,vb true)::(6,vs s)::(7,vi (s.size : Int))::(8,vb (decide ((s.size : Int) ≤ 63)))::(9,vb (decide ((s.size : Int) ≤ 63)))::(10,vb true)::(11,vs s)::(12,.v (.int .u8 v1))::(13,vb (v1 != 45))::(14,vb (v1 != 45))::(15,vb false)::(16,.v undef)::(17,.v undef)::(18,.v undef)::(19,.v undef)::(20,.v undef)::(21,.v undef)::(22,vb false)::(23,vb false)::(24,.v undef)::(25,.v undef)::(26,vb false)::(2,vb false)::[]) [0] [25] (zq [0] 1 3::zq [1] 2 4::zq [2] 3 5::zq [3,0] 4 6::zq [3,4] 5 7::zq [3,5] 6 8::zq [3,6] 7 9::zq [7] 8 10::zq [8,0] 9 11::zq [8,9] 10 12::zq [8,10] 11 13::zq [8,11] 12 14::zq [12] 13 15::zq [13] 14 16::zq [13] 15 17::zq [13] 16 18::zq [13] 17 19::zq [13] 18 20::zq [13] 19 21::zq [13] 20 22::zq [20] 21 23::zq [21] 22 24::zq [21] 23 25::zq [21] 24 26::zq [24] 25 2::[]) [(_,_)] rfl ⟨z1 rfl,z4 rfl rfl,z8 hg1_2 rfl,zr' rfl (oM rfl),zr' rfl (oN underlying9 rfl),zr' rfl (oB rfl rfl),z3 true rfl,z8 hg1_7 rfl,zr' rfl (oM rfl),zr' rfl (op_chr _ _ _ 0 _ underlying9 rfl rfl hv1),zr' rfl (oB rfl rfl),z3 true rfl,z8 hg1_12 rfl,zt rfl,zt rfl,zt rfl,zt rfl,zt rfl,zt rfl,z3 false rfl,z1 rfl,zt rfl,zt rfl,z3 false rfl,z2 rfl,zz⟩ ?_
      exact hl7 _ (zi h).symm
    ·refine zg hn (_::(3,vs s)::(4,vb (!(s.toList == z0.toList)))::(5,vb true)::(6,vs s)::(7,vi (s.size : Int))::(8,vb (decide ((s.size : Int) ≤ 63)))::(9,vb (decide ((s.size : Int) ≤ 63)))::(10,vb false)::(11,.v undef)::(12,.v undef)::(13,.v undef)::(14,vb false)::(15,vb false)::(16,.v undef)::(17,.v undef)::(18,.v undef)::(19,.v undef)::(20,.v undef)::(21,.v undef)::(22,vb false)::(23,vb false)::(24,.v undef)::(25,.v undef)::(26,vb false)::(2,vb false)::[]) [0] [25] (zq [0] 1 3::zq [1] 2 4::zq [2] 3 5::zq [3,0] 4 6::zq [3,4] 5 7::zq [3,5] 6 8::zq [3,6] 7 9::zq [7] 8 10::zq [8] 9 11::zq [8] 10 12::zq [8] 11 13::zq [8] 12 14::zq [12] 13 15::zq [13] 14 16::zq [13] 15 17::zq [13] 16 18::zq [13] 17 19::zq [13] 18 20::zq [13] 19 21::zq [13] 20 22::zq [20] 21 23::zq [21] 22 24::zq [21] 23 25::zq [21] 24 26::zq [24] 25 2::[]) [(_,_)] rfl ⟨z1 rfl,z4 rfl rfl,z8 hg1_2 rfl,zr' rfl (oM rfl),zr' rfl (oN underlying9 rfl),zr' rfl (oB rfl rfl),z3 true rfl,z8 hg1_7 rfl,zt rfl,zt rfl,zt rfl,z3 false rfl,z1 rfl,zt rfl,zt rfl,zt rfl,zt rfl,zt rfl,zt rfl,z3 false rfl,z1 rfl,zt rfl,zt rfl,z3 false rfl,z2 rfl,zz⟩ ?_
     exact hl7 _ (zi h).symm
   ·refine zg hn (_::(3,vs s)::(4,vb (!(s.toList == z0.toList)))::(5,vb false)::(6,.v undef)::(7,.v undef)::(8,.v undef)::(9,vb false)::(10,vb false)::(11,.v undef)::(12,.v undef)::(13,.v undef)::(14,vb false)::(15,vb false)::(16,.v undef)::(17,.v undef)::(18,.v undef)::(19,.v undef)::(20,.v undef)::(21,.v undef)::(22,vb false)::(23,vb false)::(24,.v undef)::(25,.v undef)::(26,vb false)::(2,vb false)::[]) [0] [25] (zq [0] 1 3::zq [1] 2 4::zq [2] 3 5::zq [3] 4 6::zq [3] 5 7::zq [3] 6 8::zq [3] 7 9::zq [7] 8 10::zq [8] 9 11::zq [8] 10 12::zq [8] 11 13::zq [8] 12 14::zq [12] 13 15::zq [13] 14 16::zq [13] 15 17::zq [13] 16 18::zq [13] 17 19::zq [13] 18 20::zq [13] 19 21::zq [13] 20 22::zq [20] 21 23::zq [21] 22 24::zq [21] 23 25::zq [21] 24 26::zq [24] 25 2::[]) [(_,_)] rfl ⟨z1 rfl,z4 rfl rfl,z8 hg1_2 rfl,zt rfl,zt rfl,zt rfl,z3 false rfl,z1 rfl,zt rfl,zt rfl,zt rfl,z3 false rfl,z1 rfl,zt rfl,zt rfl,zt rfl,zt rfl,zt rfl,zt rfl,z3 false rfl,z1 rfl,zt rfl,zt rfl,z3 false rfl,z2 rfl,zz⟩ ?_
    exact hl7 _ (zi h).symm
theorem ok_path_dotted_of_path_label (mx : Int) (s : ByteArray) (r : Bool) (h : Sh.path_dotted_of_path_label s = some r) : FnG Tryz.prog (GL mx) 108 [.v (.string s), .v (.func (.func 110) #[] #[])] (.v (.bool r)) := by
  unfold Sh.path_dotted_of_path_label at h
  refine fn_okG func108 rfl (zl rfl) rfl rfl fun g0 hn hio => ?_
  refine zgg hn [_,_,_,(3,.box 125 [.v (.func (.func 110) #[] #[])]),(4,.box 4 [vb false])] [0,1,2] [0,2,3,4] [zq [1] 3 3,zq [] 4 4] [(_,_),(_,_),(_,_),(_,_)] rfl ⟨zp rfl (op_box _ _ _ _ rfl rfl rfl),zp rfl (op_alloc _ _ zr4),zz⟩ ?_
  refine ht_seq ?_
  refine ht_seq ?_
  obtain ⟨v1, hv1, h⟩ := zn h
  refine zg hn [_,_,_,_,(6,vs s),(7,.cloB 161 [.box 9 [vs v1.1],.box 9 [vs v1.2.1],.box 3 [vi v1.2.2]])] [0,1,2,3] [1,2,3,5] [zq [0] 4 6,zq [4] 5 7] [(_,_),(_,_),(_,_),(_,_)] rfl ⟨z1 rfl,zp rfl (op_callS _ _ 135 _ _ rfl call135 rfl rfl (ok_strings_SplitSeq s (⟨#[46]⟩ : ByteArray) _ hv1) rfl),zz⟩ ?_
  refine pt_then ?_
  refine ht_block ?_
  refine ht_pick [3, 0, 1, 2] (by kernel_rfl) (es' := [(7, .cloB 161 [.box 9 [.v (.string v1.1)], .box 9 [.v (.string v1.2.1)], .box 3 [.v (.int .i64 v1.2.2)]]), (13, .glob (GL mx)), (3, .box 125 [.v (.func (.func 110) #[] #[])]), (4, .box 4 [.v (.bool false)])]) rfl ?_
  refine ht_rangeF h 161 7 8 14 _ [13, 3, 4] call161 (fun (() : Unit) => [(13, .glob (GL mx)), (3, .box 125 [.v (.func (.func 110) #[] #[])]), (4, .box 4 [.v (.bool false)])]) (fun (() : Unit) => [(13, .glob (GL mx)), (3, .box 125 [.v (.func (.func 110) #[] #[])]), (4, .box 4 [.v (.bool false)])]) (fun l J Y hY t t' h => ok_strings_splitSeq_1 mx l J Y hY v1.1 v1.2.1 v1.2.2 t t' h) hn rfl (fun _ => rfl) (fun _ => rfl) (fun _ => rfl) rfl rfl (fun _ => ⟨rfl, rfl⟩) rfl (glIn_look 13 rfl) ?_ ?_ ?_
  ·rintro kk g0 hn hio x ⟨⟩ u h
   refine ht_es (es' := [(8, .v (.string x)), (13, .glob (GL mx)), (3, .box 125 [.v (.func (.func 110) #[] #[])]), (4, .box 4 [.v (.bool false)]), (13, .v (kk.tm.getD 13 undef)), (3, .v (kk.tm.getD 3 undef)), (4, .v (kk.tm.getD 4 undef)), (14, .inv kk.ready)]) rfl ?_
   refine zg hn [_,_,_,_,_,_,_,_,(5,vs x)] [0,1,2,3,4,5,6,7] [1,2,3,4,5,6,7,8] [zq [0] 8 5] [(_,_),(_,_),(_,_),(_,_),(_,_),(_,_),(_,_),(_,_)] rfl ⟨z2 rfl,zz⟩ ?_
   refine pt_pick [0, 1, 2, 3, 4, 5, 7, 6] (by kernel_rfl) (es' := [(13, .glob (GL mx)), (3, .box 125 [.v (.func (.func 110) #[] #[])]), (4, .box 4 [.v (.bool false)]), (13, .v (kk.tm.getD 13 undef)), (3, .v (kk.tm.getD 3 undef)), (4, .v (kk.tm.getD 4 undef)), (5, .v (.string x)), (14, .inv kk.ready)]) rfl ?_
   refine pt_begin (es := [(13, .glob (GL mx)), (3, .box 125 [.v (.func (.func 110) #[] #[])]), (4, .box 4 [.v (.bool false)]), (13, .v (kk.tm.getD 13 undef)), (3, .v (kk.tm.getD 3 undef)), (4, .v (kk.tm.getD 4 undef)), (5, .v (.string x))]) 14 rfl ?_
   refine ht_block ?_
   refine ht_seq ?_
   obtain ⟨v2, hv2, h⟩ := zn h
   refine zg hn [_,_,_,_,_,_,_,_,(9,.v (.func (.func 110) #[] #[])),(10,vs x),(11,vb v2),(12,vb (!v2))] [0,1,2,3,4,5,6,7] [0,1,2,3,4,5,7,11] [zq [1] 8 9,zq [6] 9 10,zq [9,8] 10 11,zq [10] 11 12] [(_,_),(_,_),(_,_),(_,_),(_,_),(_,_),(_,_),(_,_)] rfl ⟨zp rfl (oL underlying125 rfl),z1 rfl,zp rfl (op_call _ _ 110 _ _ rfl call110 rfl (ok_path_label x _ hv2) rfl rfl),zp rfl (op_un _ _ _ _ rfl rfl),zz⟩ ?_
   refine pt_then ?_
   refine ht_cond _ rfl (fun hb5 => ?_) (fun hb5 => ?_)
   ·have h := cond_t hb5 h
    refine zgg hn [_,_,_,_,_,_,_,_,(4,.box 4 [vb false])] [0,1,2,3,4,5,6,7] [0,1,8,3,4,5,6] [⟨[],[2],[8],[.cell 4 0]⟩] [(_,_),(_,_),(_,_),(_,_),(_,_),(_,_),(_,_)] rfl ⟨zp rfl (oS sz4 rfl),zz⟩ ?_
    refine ht_ret ?_
    refine pt_r_in ?_
    obtain rfl := zi h
    exact pt_rret 14 [13, 3, 4] _ rfl rfl (by kernel_rfl)
   ·have h := cond_f hb5 h
    refine ht_skip ?_
    refine pt_inb ?_
    refine pt_pick [0, 1, 2, 3, 4, 5, 6] (by kernel_rfl) (es' := [(_,_),(_,_),(_,_),(_,_),(_,_),(_,_),(_,_)]) rfl ?_
    obtain rfl := zi h
    exact pt_rnext 14 [13, 3, 4] _ rfl rfl (by kernel_rfl)
  ·rintro D ⟨⟩ h
   refine pt_inb ?_
   refine pt_then ?_
   refine zgg hn [_,_,_,(4,.box 4 [vb true])] [0,1,2] [0,3] [⟨[],[2],[3],[.cell 4 0]⟩] [(_,_),(_,_)] rfl ⟨zp rfl (oS sz4 rfl),zz⟩ ?_
   refine ht_ret ?_
   refine pt_pick [1] (by kernel_rfl) (es' := [(_,_)]) rfl ?_
   obtain rfl := zi h
   exact pt_ret hio rfl (.cell1 _ _ _ _ underlying4 rfl .nil) rfl rfl
  ·rintro D ⟨⟩ h
   refine pt_pick [2] (by kernel_rfl) (es' := [(_,_)]) rfl ?_
   refine pt_r_in ?_
   refine pt_r_then ?_
   obtain rfl := zi h
   exact pt_ret hio rfl (.cell1 _ _ _ _ underlying4 rfl .nil) rfl rfl
theorem ok_path_Domain (mx : Int) (s : ByteArray) (r : Bool) (h : Sh.path_Domain s = some r) : FnG Tryz.prog (GL mx) 88 [.v (.string s)] (.v (.bool r)) := by
  unfold Sh.path_Domain at h
  refine fn_okG func88 rfl (zl rfl) rfl rfl fun g0 hn hio => ?_
  refine zgg hn [_,_,(2,vb false)] [0,1] [0,1] [zq [] 2 2] [(_,_),(_,_)] rfl ⟨z2 rfl,zz⟩ ?_
  refine ht_seq ?_
  refine ht_joinS h (fun (s2 : Bool) => [(10, .glob (GL mx)), (2, .v (.bool s2))]) ?_ ?_
  ·rintro s2 h
   refine pt_then (ht_ret ?_)
   refine pt_pick [1] (by kernel_rfl) (es' := [(_,_)]) rfl ?_
   obtain rfl := zi h
   exact pt_ret hio rfl (.tmp _ _ .nil) rfl rfl
  ·intro u3 h hl4 hr5
   refine cond_some h (fun hg1_3 h => ?_) (fun hg1_3 h => ?_)
   ·obtain ⟨v1, hv1, h⟩ := zn h
    refine zg hn [_,_,(3,vs s),(4,vi (s.size : Int)),(5,vb (decide ((s.size : Int) ≤ 255))),(6,vb true),(7,vs s),(8,vb v1),(9,vb v1),(2,vb v1)] [0,1] [1,9] [zq [0] 2 3,zq [2] 3 4,zq [3] 4 5,zq [4] 5 6,zq [5,0] 6 7,zq [5,6,1] 7 8,zq [5,7] 8 9,zq [8] 9 2] [(_,_),(_,_)] rfl ⟨z1 rfl,zp rfl (oN underlying9 rfl),z4 rfl rfl,z8 hg1_3 rfl,zr' rfl (oM rfl),zr' rfl (op_callG _ _ 10 108 _ _ rfl call108 rfl rfl (fun _ h => h) (ok_path_dotted_of_path_label mx s _ hv1) rfl rfl),z3 true rfl,z2 rfl,zz⟩ ?_
    exact hl4 _ (zi h).symm
   ·refine zg hn [_,_,(3,vs s),(4,vi (s.size : Int)),(5,vb (decide ((s.size : Int) ≤ 255))),(6,vb false),(7,.v undef),(8,.v undef),(9,vb false),(2,vb false)] [0,1] [1,9] [zq [0] 2 3,zq [2] 3 4,zq [3] 4 5,zq [4] 5 6,zq [5] 6 7,zq [5] 7 8,zq [5] 8 9,zq [8] 9 2] [(_,_),(_,_)] rfl ⟨z1 rfl,zp rfl (oN underlying9 rfl),z4 rfl rfl,z8 hg1_3 rfl,zt rfl,zt rfl,z3 false rfl,z2 rfl,zz⟩ ?_
    exact hl4 _ (zi h).symm
theorem ok_path_Check (mx : Int) (p : T_Path) (r : Int) (h : Sh.path_Check p = some r) : FnG Tryz.prog (GL mx) 68 [.agg [.v (.bool p.Null), .v (.string p.Local), .v (.string p.Domain)]] (.v (.int .i64 r)) := by
  unfold Sh.path_Check at h
  refine fn_okG func68 rfl (zl rfl) rfl rfl fun g0 hn hio => ?_
  refine zgg hn [_,_,(1,.box 43 [vb p.Null,vs p.Local,vs p.Domain]),(2,vi 0)] [0,1] [1,2] [zq [0] 2 1,zq [] 3 2] [(_,_),(_,_)] rfl ⟨zp rfl (op_box _ _ _ _ rfl rfl rfl),z2 rfl,zz⟩ ?_
  refine zgg hn [_,_,(5,.agg [vb p.Null,vs p.Local,vs p.Domain]),(6,.agg [vb true,vs z0,vs z0]),(7,vb ((p.Null == true) && ((p.Local.toList == z0.toList) && ((p.Domain.toList == z0.toList) && true)))),(3,vb ((p.Null == true) && ((p.Local.toList == z0.toList) && ((p.Domain.toList == z0.toList) && true))))] [0,1] [0,1,5] [zq [1] 2 5,zq [] 3 6,zq [2,3] 4 7,zq [4] 5 3] [(_,_),(_,_),(_,_)] rfl ⟨zp rfl (op_loadA _ _ _ _ _ _ _ underlying43 rfl sz43 rfl rfl (zl rfl) rfl rfl),zp rfl (op_build _ _ _ _ [1, 1, 1] _ _ underlying43 zr43 (fs43 _ underlying43) (.copy _ Src.nil) rfl rfl rfl),zp rfl (op_eq_st _ _ [.bool p.Null, .string p.Local, .string p.Domain] [.bool true, .string (⟨#[]⟩ : ByteArray), .string (⟨#[]⟩ : ByteArray)] (((p.Null == true) && ((p.Local.toList == (⟨#[]⟩ : ByteArray).toList) && ((p.Domain.toList == (⟨#[]⟩ : ByteArray).toList) && true)))) _ false (by kernel_rfl) (by kernel_rfl) (by kernel_rfl) (by kernel_rfl) (by kernel_rfl) rfl rfl rfl rfl (by kernel_rfl) rfl),z2 rfl,zz⟩ ?_
  refine ht_seq ?_
  refine ht_joinS h (fun (s3 : Bool) => [(27, .glob (GL mx)), (3, .v (.bool (((p.Null == true) && ((p.Local.toList == (⟨#[]⟩ : ByteArray).toList) && ((p.Domain.toList == (⟨#[]⟩ : ByteArray).toList) && true)))))), (4, .v (.bool s3))]) ?_ ?_
  ·rintro s3 h
   refine pt_then (ht_seq ?_)
   refine ht_seq ?_
   refine ht_joinS h (fun (s7 : Bool) => [(27, .glob (GL mx)), (26, .v (.bool s7))]) ?_ ?_
   ·rintro s7 h
    refine pt_then ?_
    refine ht_cond _ rfl (fun hb11 => ?_) (fun hb11 => ?_)
    ·have h := cond_t hb11 h
     refine zgg hn [_,_,(2,vi 5)] [0,1] [0,2] [zq [] 2 2] [(_,_),(_,_)] rfl ⟨z2 rfl,zz⟩ ?_
     refine ht_ret ?_
     refine pt_pick [1] (by kernel_rfl) (es' := [(_,_)]) rfl ?_
     refine pt_r_then ?_
     obtain rfl := zi h
     exact pt_ret hio rfl (.tmp _ _ .nil) rfl rfl
    ·have h := cond_f hb11 h
     refine ht_skip ?_
     refine pt_then ?_
     refine zgg hn [_,_,(2,vi 0)] [0,1] [0,2] [zq [] 2 2] [(_,_),(_,_)] rfl ⟨z2 rfl,zz⟩ ?_
     refine ht_ret ?_
     refine pt_pick [1] (by kernel_rfl) (es' := [(_,_)]) rfl ?_
     obtain rfl := zi h
     exact pt_ret hio rfl (.tmp _ _ .nil) rfl rfl
   ·intro u8 h hl9 hr10
    refine cond_some h (fun hg3_2 h => ?_) (fun hg3_2 h => ?_)
    ·refine zg hn [_,_,_,(21,vb ((p.Null == true) && ((p.Local.toList == z0.toList) && ((p.Domain.toList == z0.toList) && true)))),(22,vb (!(((p.Null == true) && ((p.Local.toList == z0.toList) && ((p.Domain.toList == z0.toList) && true)))))),(23,vb true),(24,vb s3),(25,vb (!s3)),(26,vb (!s3))] [0,1,2] [0,8] [zq [1] 3 21,zq [3] 4 22,zq [4] 5 23,zq [5,2] 6 24,zq [5,6] 7 25,zq [5,7] 8 26] [(_,_),(_,_)] rfl ⟨z1 rfl,zp rfl (op_un _ _ _ _ rfl rfl),z8 hg3_2 rfl,zr' rfl (oM rfl),zr' rfl (op_un _ _ _ _ rfl rfl),z3 true rfl,zz⟩ ?_
     exact hl9 _ (zi h).symm
    ·refine zg hn [_,_,_,(21,vb ((p.Null == true) && ((p.Local.toList == z0.toList) && ((p.Domain.toList == z0.toList) && true)))),(22,vb (!(((p.Null == true) && ((p.Local.toList == z0.toList) && ((p.Domain.toList == z0.toList) && true)))))),(23,vb false),(24,.v undef),(25,.v undef),(26,vb false)] [0,1,2] [0,8] [zq [1] 3 21,zq [3] 4 22,zq [4] 5 23,zq [5] 6 24,zq [5] 7 25,zq [5] 8 26] [(_,_),(_,_)] rfl ⟨z1 rfl,zp rfl (op_un _ _ _ _ rfl rfl),z8 hg3_2 rfl,zt rfl,zt rfl,z3 false rfl,zz⟩ ?_
     exact hl9 _ (zi h).symm
  ·intro u4 h hl5 hr6
   refine cond_some h (fun hg2_3 h => ?_) (fun hg2_3 h => ?_)
   ·obtain ⟨v1, hv1, h⟩ := zn h
    refine cond_some h (fun hg2_8 h => ?_) (fun hg2_8 h => ?_)
    ·obtain ⟨v2, hv2, h⟩ := zn h
     refine zg hn (_::_::_::(8,.ptr 1 0)::(9,vb p.Null)::(10,vb (!p.Null))::(11,vb true)::(12,.ptr 1 1)::(13,vs p.Local)::(14,vb v1)::(15,vb v1)::(16,vb true)::(17,.ptr 1 2)::(18,vs p.Domain)::(19,vb v2)::(20,vb v2)::(4,vb v2)::[]) [0,1,2] [0,2,16] [zq [1] 3 8,zq [3,1] 4 9,zq [4] 5 10,zq [5] 6 11,zq [6,1] 7 12,zq [6,7,1] 8 13,zq [6,8,0] 9 14,zq [6,9] 10 15,zq [10] 11 16,zq [11,1] 12 17,zq [11,12,1] 13 18,zq [11,13,0] 14 19,zq [11,14] 15 20,zq [15] 16 4] [(_,_),(_,_),(_,_)] rfl ⟨zp rfl (oF underlying43 rfl sz4),zp rfl (oL underlying4 rfl),zp rfl (op_un _ _ _ _ rfl rfl),z8 hg2_3 rfl,zr' rfl (oF underlying43 rfl sz9),zr' rfl (oL underlying9 rfl),zr' rfl (op_callG _ _ 27 87 _ _ rfl call87 rfl rfl (fun _ h => h) (ok_path_local mx p.Local _ hv1) rfl rfl),z3 true rfl,z8 hg2_8 rfl,zr' rfl (oF underlying43 rfl sz9),zr' rfl (oL underlying9 rfl),zr' rfl (op_callG _ _ 27 88 _ _ rfl call88 rfl rfl (fun _ h => h) (ok_path_Domain mx p.Domain _ hv2) rfl rfl),z3 true rfl,z2 rfl,zz⟩ ?_
     exact hl5 _ (zi h).symm
    ·refine zg hn (_::_::_::(8,.ptr 1 0)::(9,vb p.Null)::(10,vb (!p.Null))::(11,vb true)::(12,.ptr 1 1)::(13,vs p.Local)::(14,vb v1)::(15,vb v1)::(16,vb false)::(17,.v undef)::(18,.v undef)::(19,.v undef)::(20,vb false)::(4,vb false)::[]) [0,1,2] [0,2,16] [zq [1] 3 8,zq [3,1] 4 9,zq [4] 5 10,zq [5] 6 11,zq [6,1] 7 12,zq [6,7,1] 8 13,zq [6,8,0] 9 14,zq [6,9] 10 15,zq [10] 11 16,zq [11] 12 17,zq [11] 13 18,zq [11] 14 19,zq [11] 15 20,zq [15] 16 4] [(_,_),(_,_),(_,_)] rfl ⟨zp rfl (oF underlying43 rfl sz4),zp rfl (oL underlying4 rfl),zp rfl (op_un _ _ _ _ rfl rfl),z8 hg2_3 rfl,zr' rfl (oF underlying43 rfl sz9),zr' rfl (oL underlying9 rfl),zr' rfl (op_callG _ _ 27 87 _ _ rfl call87 rfl rfl (fun _ h => h) (ok_path_local mx p.Local _ hv1) rfl rfl),z3 true rfl,z8 hg2_8 rfl,zt rfl,zt rfl,zt rfl,z3 false rfl,z2 rfl,zz⟩ ?_
     exact hl5 _ (zi h).symm
   ·refine zg hn (_::_::_::(8,.ptr 1 0)::(9,vb p.Null)::(10,vb (!p.Null))::(11,vb false)::(12,.v undef)::(13,.v undef)::(14,.v undef)::(15,vb false)::(16,vb false)::(17,.v undef)::(18,.v undef)::(19,.v undef)::(20,vb false)::(4,vb false)::[]) [0,1,2] [0,2,16] [zq [1] 3 8,zq [3,1] 4 9,zq [4] 5 10,zq [5] 6 11,zq [6] 7 12,zq [6] 8 13,zq [6] 9 14,zq [6] 10 15,zq [10] 11 16,zq [11] 12 17,zq [11] 13 18,zq [11] 14 19,zq [11] 15 20,zq [15] 16 4] [(_,_),(_,_),(_,_)] rfl ⟨zp rfl (oF underlying43 rfl sz4),zp rfl (oL underlying4 rfl),zp rfl (op_un _ _ _ _ rfl rfl),z8 hg2_3 rfl,zt rfl,zt rfl,zt rfl,z3 false rfl,z1 rfl,zt rfl,zt rfl,zt rfl,z3 false rfl,z2 rfl,zz⟩ ?_
    exact hl5 _ (zi h).symm
theorem ok_envelope_Valid (mx : Int) (m : T_Mail) (r : Bool) (h : Sh.envelope_Valid m = some r) : FnG Tryz.prog (GL mx) 64 [.agg [.v (.bool m.From.Null), .v (.string m.From.Local), .v (.string m.From.Domain), .fl .shr 3 (flatten (map T_Path.enc m.To)), .fl .shr 1 (map (int .u8) m.Body), .v (.bool m.Quiet), .v (.string m.Helo), .v (.int .i64 m.At)]] (.v (.bool r)) := by
  unfold Sh.envelope_Valid at h
  refine fn_okG func64 rfl (zl rfl) rfl rfl fun g0 hn hio => ?_
  refine zgg hn [_,_,(1,.box 46 [vb m.From.Null,vs m.From.Local,vs m.From.Domain,.fl .shr 3 (flatten (map T_Path.enc m.To)),.fl .shr 1 (map (int .u8) m.Body),vb m.Quiet,vs m.Helo,vi m.At]),(2,vb false)] [0,1] [1,2] [zq [0] 2 1,zq [] 3 2] [(_,_),(_,_)] rfl ⟨zp rfl (op_box _ _ _ _ rfl rfl rfl),z2 rfl,zz⟩ ?_
  refine ht_seq ?_
  refine ht_seq ?_
  refine ht_joinS h (fun (s2 : Bool) => [(36, .glob (GL mx)), (1, .box 46 [.v (.bool m.From.Null), .v (.string m.From.Local), .v (.string m.From.Domain), .fl .shr 3 (flatten (map T_Path.enc m.To)), .fl .shr 1 (map (int .u8) m.Body), .v (.bool m.Quiet), .v (.string m.Helo), .v (.int .i64 m.At)]), (20, .v (.bool s2))]) ?_ ?_
  ·rintro s2 h
   refine pt_then ?_
   refine ht_cond _ rfl (fun hb6 => ?_) (fun hb6 => ?_)
   ·have h := cond_t hb6 h
    refine zgg hn [_,_,_,(2,vb false)] [0,1,2] [0,3] [zq [] 3 2] [(_,_),(_,_)] rfl ⟨z2 rfl,zz⟩ ?_
    refine ht_ret ?_
    refine pt_pick [1] (by kernel_rfl) (es' := [(_,_)]) rfl ?_
    refine pt_r_then ?_
    obtain rfl := zi h
    exact pt_ret hio rfl (.tmp _ _ .nil) rfl rfl
   ·have h := cond_f hb6 h
    refine ht_skip ?_
    refine pt_then (ht_seq ?_)
    refine zgg hn [_,_,_,(21,.ptr 1 3),(22,.fl .shr 3 (flatten (map T_Path.enc m.To))),(23,vi (m.To.length : Int)),(24,vi 0)] [0,1,2] [0,4,5,6] [zq [1] 3 21,zq [3,1] 4 22,zq [4] 5 23,zq [] 6 24] [(_,_),(_,_),(_,_),(_,_)] rfl ⟨zp rfl (oF underlying46 rfl sz44),zp rfl (oL underlying44 rfl),zp rfl (op_len_fl _ _ _ underlying44 rfl (by decide) (flat_len T_Path.len _)),z1 rfl,zz⟩ ?_
    refine ht_loopS h (fun (s24 : Int) => [(36, .glob (GL mx)), (22, .fl .shr 3 (flatten (map T_Path.enc m.To))), (23, .v (.int .i64 (m.To.length : Int))), (24, .v (.int .i64 s24))]) (fun (() : Unit) => [(36, .glob (GL mx))]) ?_ ?_
    ·rintro ⟨⟩ h
     refine pt_then ?_
     refine zgg hn [_,(2,vb true)] [0] [0,1] [zq [] 1 2] [(_,_),(_,_)] rfl ⟨z2 rfl,zz⟩ ?_
     refine ht_ret ?_
     refine pt_pick [1] (by kernel_rfl) (es' := [(_,_)]) rfl ?_
     obtain rfl := zi h
     exact pt_ret hio rfl (.tmp _ _ .nil) rfl rfl
    ·rintro u31 hl32 hr33 s24 rr36 h ho34
     refine zgg hn [_,_,_,_,(25,vb (decide (s24 < (m.To.length : Int))))] [0,1,2,3] [0,1,2,3,4] [zq [3,2] 4 25] [(_,_),(_,_),(_,_),(_,_),(_,_)] rfl ⟨z4 rfl rfl,zz⟩ ?_
     refine ht_seq ?_
     refine ht_cond _ rfl (fun hb37 => ?_) (fun hb37 => ?_)
     ·have h := cond_t hb37 h
      refine ht_skip ?_
      refine pt_then (ht_seq ?_)
      refine ht_block ?_
      refine ht_seq ?_
      obtain ⟨v8, hv8, h⟩ := zn h
      obtain ⟨v9, hv9, h⟩ := zn h
      refine zg hn [_,_,_,_,_,(26,.eref (.slot 22) (v8 * 3)),(27,.agg [vb v9.Null,vs v9.Local,vs v9.Domain]),(4,.box 43 [vb false,vs z0,vs z0]),(4,.box 43 [vb v9.Null,vs v9.Local,vs v9.Domain])] [0,1,2,3,4] [0,1,2,3,8] [zq [1,3] 5 26,zq [5,1] 6 27,zq [] 7 4,⟨[6],[7],[8],[.cell 4 0,.cell 4 1,.cell 4 2]⟩] [(_,_),(_,_),(_,_),(_,_),(_,_)] rfl ⟨zp rfl (op_ix _ _ _ _ _ _ _ _ underlying44 sz43 (by decide) rfl rfl rfl (ix_ok hv8).1 (flat_lt T_Path.len (ix_ok hv8).2) rfl),zp rfl (op_load_eA _ _ _ _ _ _ _ underlying43 rfl sz43 rfl rfl (flat_get T_Path.len hv9) rfl (by decide)),zp rfl (op_alloc _ _ zr43),zp rfl (oS sz43 rfl),zz⟩ ?_
      refine pt_then (ht_seq ?_)
      refine ht_joinS h (fun (s38 : Bool) => [(36, .glob (GL mx)), (22, .fl .shr 3 (flatten (map T_Path.enc m.To))), (23, .v (.int .i64 (m.To.length : Int))), (24, .v (.int .i64 s24)), (34, .v (.bool s38))]) ?_ ?_
      ·rintro s38 h
       refine pt_then ?_
       refine ht_cond _ rfl (fun hb42 => ?_) (fun hb42 => ?_)
       ·have h := cond_t hb42 h
        refine zgg hn [_,_,_,_,_,(2,vb false)] [0,1,2,3,4] [0,5] [zq [] 5 2] [(_,_),(_,_)] rfl ⟨z2 rfl,zz⟩ ?_
        refine ht_ret ?_
        refine pt_pick [1] (by kernel_rfl) (es' := [(_,_)]) rfl ?_
        refine pt_r_in ?_
        refine pt_r_then ?_
        refine pt_r_then ?_
        refine pt_r_in ?_
        refine pt_r_then ?_
        have h := hr33 _ (ho34 _ (zi h).symm).symm
        obtain rfl := zi h
        exact pt_ret hio rfl (.tmp _ _ .nil) rfl rfl
       ·have h := cond_f hb42 h
        refine ht_skip ?_
        refine pt_inb ?_
        refine pt_then ?_
        obtain ⟨v16, hv16, h⟩ := zn h
        refine zg hn [_,_,_,_,_,(35,vi v16),(24,vi v16)] [0,1,2,3,4] [0,1,2,6] [zq [3] 5 35,⟨[5],[3],[6],[(.slot 24)]⟩] [(_,_),(_,_),(_,_),(_,_)] rfl ⟨zp rfl (oB rfl (ibind (f := int .i64) (Option.some.inj hv16))),zp rfl (LOp.drop [_] (oM rfl)),zz⟩ ?_
        exact pt_next _ (zi h).symm rfl
      ·intro u39 h hl40 hr41
       obtain ⟨v10, hv10, h⟩ := zn h
       refine cond_some h (fun hg6_3 h => ?_) (fun hg6_3 h => ?_)
       ·refine zg hn [_,_,_,_,_,(28,.agg [vb v9.Null,vs v9.Local,vs v9.Domain]),(29,vi v10),(30,vb (v10 != 0)),(31,vb true),(32,.v undef),(33,.v undef),(34,vb true)] [0,1,2,3,4] [0,1,2,3,11] [zq [4] 5 28,zq [5,0] 6 29,zq [6] 7 30,zq [7] 8 31,zq [8] 9 32,zq [8] 10 33,zq [8] 11 34] [(_,_),(_,_),(_,_),(_,_),(_,_)] rfl ⟨zp rfl (op_loadA _ _ _ _ _ _ _ underlying43 rfl sz43 rfl rfl (zl rfl) rfl rfl),zp rfl (op_callG _ _ 36 68 _ _ rfl call68 rfl rfl (fun _ h => h) (ok_path_Check mx v9 _ hv10) rfl rfl),z4 rfl rfl,z8 hg6_3 rfl,zf rfl,zf rfl,z3 true rfl,zz⟩ ?_
        exact hl40 _ (zi h).symm
       ·refine zg hn [_,_,_,_,_,(28,.agg [vb v9.Null,vs v9.Local,vs v9.Domain]),(29,vi v10),(30,vb (v10 != 0)),(31,vb false),(32,.ptr 4 0),(33,vb v9.Null),(34,vb v9.Null)] [0,1,2,3,4] [0,1,2,3,11] [zq [4] 5 28,zq [5,0] 6 29,zq [6] 7 30,zq [7] 8 31,zq [8,4] 9 32,zq [8,9,4] 10 33,zq [8,10] 11 34] [(_,_),(_,_),(_,_),(_,_),(_,_)] rfl ⟨zp rfl (op_loadA _ _ _ _ _ _ _ underlying43 rfl sz43 rfl rfl (zl rfl) rfl rfl),zp rfl (op_callG _ _ 36 68 _ _ rfl call68 rfl rfl (fun _ h => h) (ok_path_Check mx v9 _ hv10) rfl rfl),z4 rfl rfl,z8 hg6_3 rfl,zr' rfl (oF underlying43 rfl sz4),zr' rfl (oL underlying4 rfl),z3 false rfl,zz⟩ ?_
        exact hl40 _ (zi h).symm
     ·have h := cond_f hb37 h
      refine ht_exit ?_
      refine pt_x_then ?_
      refine pt_x_then ?_
      refine pt_x_in ?_
      refine pt_pick [0] (by kernel_rfl) (es' := [(_,_)]) rfl ?_
      exact hl32 _ (ho34 _ (zi h).symm).symm
  ·intro u3 h hl4 hr5
   obtain ⟨v1, hv1, h⟩ := zn h
   refine cond_some h (fun hg1_4 h => ?_) (fun hg1_4 h => ?_)
   ·refine zg hn (_::_::(5,.ptr 1 0)::(6,.agg [vb m.From.Null,vs m.From.Local,vs m.From.Domain])::(7,vi v1)::(8,vb (v1 != 0))::(9,vb true)::(10,.v undef)::(11,.v undef)::(12,.v undef)::(13,.v undef)::(14,vb true)::(15,vb true)::(16,.v undef)::(17,.v undef)::(18,.v undef)::(19,.v undef)::(20,vb true)::[]) [0,1] [0,1,17] (zq [1] 2 5::zq [2,1] 3 6::zq [3,0] 4 7::zq [4] 5 8::zq [5] 6 9::zq [6] 7 10::zq [6] 8 11::zq [6] 9 12::zq [6] 10 13::zq [6] 11 14::zq [11] 12 15::zq [12] 13 16::zq [12] 14 17::zq [12] 15 18::zq [12] 16 19::zq [12] 17 20::[]) [(_,_),(_,_),(_,_)] rfl ⟨zp rfl (oF underlying46 rfl sz43),zp rfl (op_loadA _ _ _ _ _ _ _ underlying43 rfl sz43 rfl rfl (zl rfl) rfl rfl),zp rfl (op_callG _ _ 36 68 _ _ rfl call68 rfl rfl (fun _ h => h) (ok_path_Check mx (T_Path.mk m.From.Null m.From.Local m.From.Domain) _ hv1) rfl rfl),z4 rfl rfl,z8 hg1_4 rfl,zf rfl,zf rfl,zf rfl,zf rfl,z3 true rfl,z1 rfl,zf rfl,zf rfl,zf rfl,zf rfl,z3 true rfl,zz⟩ ?_
    exact hl4 _ (zi h).symm
   ·refine cond_some h (fun hg1_10 h => ?_) (fun hg1_10 h => ?_)
    ·refine zg hn (_::_::(5,.ptr 1 0)::(6,.agg [vb m.From.Null,vs m.From.Local,vs m.From.Domain])::(7,vi v1)::(8,vb (v1 != 0))::(9,vb false)::(10,.ptr 1 3)::(11,.fl .shr 3 (flatten (map T_Path.enc m.To)))::(12,vi (m.To.length : Int))::(13,vb (decide ((m.To.length : Int) < 1)))::(14,vb (decide ((m.To.length : Int) < 1)))::(15,vb true)::(16,.v undef)::(17,.v undef)::(18,.v undef)::(19,.v undef)::(20,vb true)::[]) [0,1] [0,1,17] (zq [1] 2 5::zq [2,1] 3 6::zq [3,0] 4 7::zq [4] 5 8::zq [5] 6 9::zq [6,1] 7 10::zq [6,7,1] 8 11::zq [6,8] 9 12::zq [6,9] 10 13::zq [6,10] 11 14::zq [11] 12 15::zq [12] 13 16::zq [12] 14 17::zq [12] 15 18::zq [12] 16 19::zq [12] 17 20::[]) [(_,_),(_,_),(_,_)] rfl ⟨zp rfl (oF underlying46 rfl sz43),zp rfl (op_loadA _ _ _ _ _ _ _ underlying43 rfl sz43 rfl rfl (zl rfl) rfl rfl),zp rfl (op_callG _ _ 36 68 _ _ rfl call68 rfl rfl (fun _ h => h) (ok_path_Check mx (T_Path.mk m.From.Null m.From.Local m.From.Domain) _ hv1) rfl rfl),z4 rfl rfl,z8 hg1_4 rfl,zr' rfl (oF underlying46 rfl sz44),zr' rfl (oL underlying44 rfl),zr' rfl (op_len_fl _ _ _ underlying44 rfl (by decide) (flat_len T_Path.len _)),zr' rfl (oB rfl rfl),z3 false rfl,z8 hg1_10 rfl,zf rfl,zf rfl,zf rfl,zf rfl,z3 true rfl,zz⟩ ?_
     exact hl4 _ (zi h).symm
    ·refine zg hn (_::_::(5,.ptr 1 0)::(6,.agg [vb m.From.Null,vs m.From.Local,vs m.From.Domain])::(7,vi v1)::(8,vb (v1 != 0))::(9,vb false)::(10,.ptr 1 3)::(11,.fl .shr 3 (flatten (map T_Path.enc m.To)))::(12,vi (m.To.length : Int))::(13,vb (decide ((m.To.length : Int) < 1)))::(14,vb (decide ((m.To.length : Int) < 1)))::(15,vb false)::(16,.ptr 1 3)::(17,.fl .shr 3 (flatten (map T_Path.enc m.To)))::(18,vi (m.To.length : Int))::(19,vb (decide (8 < (m.To.length : Int))))::(20,vb (decide (8 < (m.To.length : Int))))::[]) [0,1] [0,1,17] (zq [1] 2 5::zq [2,1] 3 6::zq [3,0] 4 7::zq [4] 5 8::zq [5] 6 9::zq [6,1] 7 10::zq [6,7,1] 8 11::zq [6,8] 9 12::zq [6,9] 10 13::zq [6,10] 11 14::zq [11] 12 15::zq [12,1] 13 16::zq [12,13,1] 14 17::zq [12,14] 15 18::zq [12,15] 16 19::zq [12,16] 17 20::[]) [(_,_),(_,_),(_,_)] rfl ⟨zp rfl (oF underlying46 rfl sz43),zp rfl (op_loadA _ _ _ _ _ _ _ underlying43 rfl sz43 rfl rfl (zl rfl) rfl rfl),zp rfl (op_callG _ _ 36 68 _ _ rfl call68 rfl rfl (fun _ h => h) (ok_path_Check mx (T_Path.mk m.From.Null m.From.Local m.From.Domain) _ hv1) rfl rfl),z4 rfl rfl,z8 hg1_4 rfl,zr' rfl (oF underlying46 rfl sz44),zr' rfl (oL underlying44 rfl),zr' rfl (op_len_fl _ _ _ underlying44 rfl (by decide) (flat_len T_Path.len _)),zr' rfl (oB rfl rfl),z3 false rfl,z8 hg1_10 rfl,zr' rfl (oF underlying46 rfl sz44),zr' rfl (oL underlying44 rfl),zr' rfl (op_len_fl _ _ _ underlying44 rfl (by decide) (flat_len T_Path.len _)),zr' rfl (oB rfl rfl),z3 false rfl,zz⟩ ?_
     exact hl4 _ (zi h).symm
theorem ok_dots_lines (b : (List Int)) (r : (List Int)) (h : Sh.dots_lines b = some r) : FnOK Tryz.prog 69 [.fl .shr 1 (map (int .u8) b)] (.cloB 89 [.box 25 [.fl .shr 1 (map (int .u8) r)]]) := by
  unfold Sh.dots_lines at h
  refine fn_ok func69 rfl (zl rfl) rfl rfl fun g0 hn hio => ?_
  refine zgg hn [_,(1,.box 25 [.fl .shr 1 (map (int .u8) b)]),(2,.v (.nilFunc))] [0] [1] [zq [0] 1 1,zq [] 2 2] [(_,_)] rfl ⟨zp rfl (op_box _ _ _ _ rfl rfl rfl),z2 rfl,zz⟩ ?_
  refine zgg hn [_,(3,.cloB 89 [.box 25 [.fl .shr 1 (map (int .u8) b)]]),(2,.cloB 89 [.box 25 [.fl .shr 1 (map (int .u8) b)]])] [0] [2] [⟨[],[0],[1],[(.slot 3)]⟩,⟨[],[1],[2],[(.slot 2)]⟩] [(_,_)] rfl ⟨zp rfl (op_mkclo _ _ [1] [.box 25 [.fl .shr 1 (map (int .u8) b)]] rfl rfl rfl),zp rfl (op_assign_take _ _ _ _ rfl),zz⟩ ?_
  refine ht_ret ?_
  obtain rfl := zi h
  exact pt_ret hio rfl (.tmp _ _ .nil) rfl rfl
theorem ok_bytes_Index (mx : Int) (s sep : List Int) (r : Int) (h : Sh.bytes_Index s sep = some r) : FnG Tryz.prog (GL mx) 56 [.fl .shr 1 (map (int .u8) s), .fl .shr 1 (map (int .u8) sep)] (.v (.int .i64 r)) :=
  lib_bytes_Index (gl_mem0 mx) Tryz.bytes_Index_at Tryz.bytes_Index_longer s sep r h
theorem ok_bytes_Cut_sh (mx : Int) (s : (List Int)) (sep : (List Int)) (r : ((List Int) × (List Int) × Bool)) (h : Sh.bytes_Cut_sh s sep = some r) : FnG Tryz.prog (GL mx) 34 [.fl .shr 1 (map (int .u8) s), .fl .shr 1 (map (int .u8) sep)] (.tup [.fl .shr 1 (map (int .u8) r.1), .fl .shr 1 (map (int .u8) r.2.1), .v (.bool r.2.2)]) := by
  unfold Sh.bytes_Cut_sh at h
  refine fn_okG func34 rfl (zl rfl) rfl rfl fun g0 hn hio => ?_
  refine zgg hn [_,_,_,(4,.v (.slice none 0 0)),(5,.v (.slice none 0 0)),(6,vb false)] [0,1,2] [0,1,2] [zq [] 3 4,zq [] 4 5,zq [] 5 6] [(_,_),(_,_),(_,_)] rfl ⟨z2 rfl,z2 rfl,z2 rfl,zz⟩ ?_
  refine ht_seq ?_
  refine ht_seq ?_
  obtain ⟨v1, hv1, h⟩ := zn h
  refine zg hn [_,_,_,(8,.fl .shr 1 (map (int .u8) s)),(9,.fl .shr 1 (map (int .u8) sep)),(10,vi v1),(7,vi v1)] [0,1,2] [0,1,2,6] [zq [0] 3 8,zq [1] 4 9,zq [3,4,2] 5 10,zq [5] 6 7] [(_,_),(_,_),(_,_),(_,_)] rfl ⟨z1 rfl,z1 rfl,zp rfl (op_callG _ _ 23 56 _ _ rfl call56 rfl rfl (fun _ h => h) (ok_bytes_Index mx s sep _ hv1) rfl rfl),z2 rfl,zz⟩ ?_
  refine pt_then ?_
  refine zgg hn [_,_,_,_,(11,vi v1),(12,vb (decide (0 ≤ v1)))] [0,1,2,3] [0,1,2,3,5] [zq [3] 4 11,zq [4] 5 12] [(_,_),(_,_),(_,_),(_,_),(_,_)] rfl ⟨z1 rfl,z4 rfl rfl,zz⟩ ?_
  refine ht_cond _ rfl (fun hb2 => ?_) (fun hb2 => ?_)
  ·have h := cond_t hb2 h
   refine ht_seq ?_
   obtain ⟨v3, hv3, h⟩ := zn h
   obtain ⟨v4, hv4, h⟩ := zn h
   obtain ⟨v5, hv5, h⟩ := zn h
   refine ht_anyR (by kernel_rfl) hn (El := (_ :: _ :: _ :: _ :: _ :: (13, .fl .shr 1 (map (int .u8) s)) :: (14, .v (.int .i64 v1)) :: (15, .fl .shr 1 (map (int .u8) v3)) :: (16, .fl .shr 1 (map (int .u8) s)) :: (17, .v (.int .i64 v1)) :: (18, .fl .shr 1 (map (int .u8) sep)) :: (19, .v (.int .i64 (sep.length : Int))) :: (20, .v (.int .i64 v4)) :: (21, .fl .shr 1 (map (int .u8) v5)) :: (4, .fl .shr 1 (map (int .u8) v3)) :: (5, .fl .shr 1 (map (int .u8) v5)) :: (6, .v (.bool true)) :: [])) (init := [0, 1, 2, 3, 4]) (fin := [2, 14, 15, 16]) (sps := [zq [0] 5 13, zq [3] 6 14, zq [5,6] 7 15, zq [0] 8 16, zq [3] 9 17, zq [1] 10 18, zq [10] 11 19, zq [9,11] 12 20, zq [8,12] 13 21, zq [7] 14 4, zq [13] 15 5, zq [] 16 6]) (es' := [(_,_),(4, .fl .shr 1 (map (int .u8) v3)), (5, .fl .shr 1 (map (int .u8) v5)), (6, .v (.bool true))]) (by kernel_rfl) rfl rfl ⟨z1 rfl,z1 rfl,zp rfl (op_sl _ _ _ 0 v1 _ underlying25 sz5 rfl rfl rfl ⟨_, rfl⟩ hv3),z1 rfl,z1 rfl,z1 rfl,zp rfl (op_len_fl _ _ _ underlying25 rfl (by decide) (map_len _)),zp rfl (oB rfl (ibind (f := int .i64) (Option.some.inj hv4))),zp rfl (op_sl _ _ _ v4 (s.length : Int) _ underlying25 sz5 rfl rfl ⟨_, rfl⟩ rfl hv5),z2 rfl,z2 rfl,z2 rfl,zz⟩ ?_
   refine pt_then (ht_ret ?_)
   refine pt_pick [1, 2, 3] (by kernel_rfl) (es' := [(_,_),(_,_),(_,_)]) rfl ?_
   refine pt_r_then ?_
   obtain rfl := zi h
   exact pt_ret hio rfl (.tmp _ _ (.tmp _ _ (.tmp _ _ .nil))) rfl rfl
  ·have h := cond_f hb2 h
   refine ht_skip ?_
   refine pt_then ?_
   refine zgg hn [_,_,_,_,_,(22,.fl .shr 1 (map (int .u8) s)),(4,.fl .shr 1 (map (int .u8) s)),(5,.v (.slice none 0 0)),(6,vb false)] [0,1,2,3,4] [2,6,7,8] [zq [0] 5 22,zq [5] 6 4,zq [] 7 5,zq [] 8 6] [(_,_),(_,_),(_,_),(_,_)] rfl ⟨z1 rfl,z2 rfl,z2 rfl,z2 rfl,zz⟩ ?_
   refine ht_ret ?_
   refine pt_pick [1, 2, 3] (by kernel_rfl) (es' := [(_,_),(_,_),(_,_)]) rfl ?_
   refine pt_sub (fs := [(4, .fl .shr 1 (map (int .u8) s)), (5, .fl .shr 1 (map (int .u8) [])), (6, .v (.bool false))]) (.same _ (.sub _ (sub_nil_shr 1) rfl (.same _ .nil))) ?_
   obtain rfl := zi h
   exact pt_ret hio rfl (.tmp _ _ (.tmp _ _ (.tmp _ _ .nil))) rfl rfl
theorem ok_dots_lines_1 (mx : Int) (l : Nat) {S : Type} (J : S → InvT) (Y : (List Int) → S → Option (S × Bool)) (hY : YieldOK Tryz.prog l (fun x => .fl .shr 1 (map (int .u8) x)) Y J) (c0 : (List Int)) (st r : S) (h : Sh.dots_lines_1 Y c0 st = some r) : FnI Tryz.prog (GL mx) 89 l [.box 25 [.fl .shr 1 (map (int .u8) c0)]] (J st) (J r) := by
  unfold Sh.dots_lines_1 at h
  refine fn_okI func89 rfl (zl rfl) rfl fun g0 hn hio => ?_
  refine ht_loopS h (fun ((s17, s18) : (List Int) × S) => [(0, .v (.func (.yield l) #[] #[])), (1, .box 25 [.fl .shr 1 (map (int .u8) s17)]), (23, .glob (GL mx)), (24, .inv (J s18))]) (fun (() : Unit) => []) ?_ ?_
  ·rintro ⟨⟩ h
   cases h
  ·rintro u25 hl26 hr27 ⟨s17, s18⟩ rr30 h ho28
   refine ht_block ?_
   refine ht_seq ?_
   obtain ⟨v1, hv1, h⟩ := zn h
   refine zg hn (_::_::_::_::(7,.fl .shr 1 (map (int .u8) s17))::(8,.fl (.own 5) 1 (map (int .u8) [13,10]))::(9,.fl .ro 1 (map (int .u8) [13,10]))::(10,.tup [.fl .shr 1 (map (int .u8) v1.1),.fl .shr 1 (map (int .u8) v1.2.1),vb v1.2.2])::(6,.tup [.fl .shr 1 (map (int .u8) v1.1),.fl .shr 1 (map (int .u8) v1.2.1),vb v1.2.2])::(11,.fl .shr 1 (map (int .u8) v1.1))::(12,.fl .shr 1 (map (int .u8) v1.2.1))::(13,vb v1.2.2)::(3,.fl .shr 1 (map (int .u8) v1.1))::(4,.fl .shr 1 (map (int .u8) v1.2.1))::(5,vb v1.2.2)::[]) [0,1,2,3] [0,1,2,3,12,13,14] [zq [1] 4 7,zq [] 5 8,⟨[],[5],[6],[(.slot 9)]⟩,zq [4,6,2] 7 10,⟨[],[7],[8],[(.slot 6)]⟩,zq [8] 9 11,zq [8] 10 12,zq [8] 11 13,zq [9] 12 3,zq [10] 13 4,zq [11] 14 5] [(_,_),(_,_),(_,_),(_,_),(_,_),(_,_),(_,_)] rfl ⟨zp rfl (oL underlying25 rfl),zp rfl (op_buildSlice _ _ 1 (.int .u8 0) (map (int .u8) [13, 10]) [(0, .int .u8 13), (1, .int .u8 10)] underlying25 sz5 zr5 (fun _ V w o a hv hes => by simp only [List.map_toArray, List.map_cons, List.map_nil]; try rfl) (litfill (by simp [Instr.fill, Value.cells]; rfl) (by simp [List.range, List.range.loop] <;> rfl)) (by simp [Value.oneCell']) rfl (by decide) (by decide) (by decide)),zp rfl (op_conv_mark _ _ _ underlying25 underlying5 (by intro h; cases h)),zp rfl (op_callSG _ _ 23 34 _ _ rfl call34 rfl rfl rfl (fun _ h => h) (ok_bytes_Cut_sh mx s17 [13, 10] _ hv1) rfl),zp rfl (op_move_take _ _ _ _ rfl),zp rfl (oE rfl),zp rfl (oE rfl),zp rfl (oE rfl),z2 rfl,z2 rfl,z2 rfl,zz⟩ ?_
   refine pt_then (ht_seq ?_)
   refine ht_seq ?_
   refine ht_joinS h (fun ((s31, s32) : S × Bool) => [(0, .v (.func (.yield l) #[] #[])), (1, .box 25 [.fl .shr 1 (map (int .u8) s17)]), (23, .glob (GL mx)), (24, .inv (J s31)), (4, .fl .shr 1 (map (int .u8) v1.2.1)), (21, .v (.bool s32))]) ?_ ?_
   ·rintro ⟨s31, s32⟩ h
    refine pt_then ?_
    refine ht_cond _ rfl (fun hb36 => ?_) (fun hb36 => ?_)
    ·have h := cond_t hb36 h
     refine ht_ret ?_
     refine pt_pick [3] (by kernel_rfl) (es' := [(24, .inv (J s31))]) rfl ?_
     refine pt_r_then ?_
     refine pt_r_in ?_
     refine pt_r_then ?_
     refine pt_r_in ?_
     have h := hr27 _ (ho28 _ (zi h).symm).symm
     obtain rfl := zi h
     exact pt_retI hio rfl rfl rfl
    ·have h := cond_f hb36 h
     refine ht_skip ?_
     refine pt_then ?_
     refine zg hn [_,_,_,_,_,_,(22,.fl .shr 1 (map (int .u8) v1.2.1)),(1,.box 25 [.fl .shr 1 (map (int .u8) v1.2.1)])] [0,1,2,3,4,5] [0,7,2,3] [zq [4] 6 22,⟨[6],[1],[7],[.cell 1 0]⟩] [(_,_),(_,_),(_,_),(_,_)] rfl ⟨z1 rfl,zp rfl (oS sz25 rfl),zz⟩ ?_
     refine pt_inb ?_
     exact pt_next _ (zi h).symm rfl
   ·intro u33 h hl34 hr35
    refine cond_some h (fun hg1_2 h => ?_) (fun hg1_2 h => ?_)
    ·refine zg hn (_::_::_::_::_::_::_::(14,vb v1.2.2)::(15,vb (!v1.2.2))::(16,vb true)::(17,.v undef)::(18,.v undef)::(19,.v undef)::(20,.v undef)::(21,vb true)::[]) [0,1,2,3,4,5,6] [0,1,2,3,5,14] [zq [6] 7 14,zq [7] 8 15,zq [8] 9 16,zq [9] 10 17,zq [9] 11 18,zq [9] 12 19,zq [9] 13 20,zq [9] 14 21] [(_,_),(_,_),(_,_),(_,_),(_,_),(_,_)] rfl ⟨z1 rfl,zp rfl (op_un _ _ _ _ rfl rfl),z8 hg1_2 rfl,zf rfl,zf rfl,zf rfl,zf rfl,z3 true rfl,zz⟩ ?_
     exact hl34 _ (zi h).symm
    ·obtain ⟨v2, hv2, h⟩ := zn h
     refine zg hn (_::_::_::_::_::_::_::(14,vb v1.2.2)::(15,vb (!v1.2.2))::(16,vb false)::(17,.v (.func (.yield l) #[] #[]))::(18,.fl .shr 1 (map (int .u8) v1.1))::(19,vb v2.2)::(24,.inv (J v2.1))::(20,vb (!v2.2))::(21,vb (!v2.2))::[]) [0,1,2,3,4,5,6] [0,1,2,13,5,15] [zq [6] 7 14,zq [7] 8 15,zq [8] 9 16,zq [9,0] 10 17,zq [9,4] 11 18,⟨[9,11,10],[3],[13,12],[(.slot 19)]⟩,zq [9,12] 14 20,zq [9,14] 15 21] [(_,_),(_,_),(_,_),(_,_),(_,_),(_,_)] rfl ⟨z1 rfl,zp rfl (op_un _ _ _ _ rfl rfl),z8 hg1_2 rfl,zr' rfl (oM rfl),zr' rfl (oM rfl),zr' rfl (op_yield _ _ 24 l v1.1 s18 v2 hY hv2 rfl rfl rfl),zr' rfl (op_un _ _ _ _ rfl rfl),z3 false rfl,zz⟩ ?_
     exact hl34 _ (zi h).symm
theorem ok_bytes_IndexAny (mx : Int) (s : List Int) (c : ByteArray) (r : Int) (h : Sh.bytes_IndexAny s c = some r) : FnG Tryz.prog (GL mx) 105 [.fl .shr 1 (map (int .u8) s), .v (.string c)] (.v (.int .i64 r)) :=
  lib_bytes_IndexAny (gl_mem0 mx) (gl_mem6 mx) (gl_mem7 mx) (fun s b off c w hs hnc hb hm hmb k1 k2 HG hp => Tryz.idx_crlf s b off c w mx hs hnc hb hm hmb (tabs_lists utf8_first utf8_accept (by kernel_rfl) (by kernel_rfl) k1 k2) HG hp) Tryz.idx_none s c r h
theorem ok_bytes_ContainsAny (mx : Int) (b : (List Int)) (chars : ByteArray) (r : Bool) (h : Sh.bytes_ContainsAny b chars = some r) : FnG Tryz.prog (GL mx) 84 [.fl .shr 1 (map (int .u8) b), .v (.string chars)] (.v (.bool r)) := by
  unfold Sh.bytes_ContainsAny at h
  refine fn_okG func84 rfl (zl rfl) rfl rfl fun g0 hn hio => ?_
  refine zgg hn [_,_,_,(4,vb false)] [0,1,2] [0,1,2] [zq [] 3 4] [(_,_),(_,_),(_,_)] rfl ⟨z2 rfl,zz⟩ ?_
  refine ht_seq ?_
  obtain ⟨v1, hv1, h⟩ := zn h
  refine zg hn [_,_,_,(5,.fl .shr 1 (map (int .u8) b)),(6,vs chars),(7,vi v1),(8,vb (decide (0 ≤ v1))),(4,vb (decide (0 ≤ v1)))] [0,1,2] [2,7] [zq [0] 3 5,zq [1] 4 6,zq [3,4,2] 5 7,zq [5] 6 8,zq [6] 7 4] [(_,_),(_,_)] rfl ⟨z1 rfl,z1 rfl,zp rfl (op_callG _ _ 9 105 _ _ rfl call105 rfl rfl (fun _ h => h) (ok_bytes_IndexAny mx b chars _ hv1) rfl rfl),z4 rfl rfl,z2 rfl,zz⟩ ?_
  refine pt_then (ht_ret ?_)
  refine pt_pick [1] (by kernel_rfl) (es' := [(_,_)]) rfl ?_
  obtain rfl := zi h
  exact pt_ret hio rfl (.tmp _ _ .nil) rfl rfl
theorem ok_dots_Check (mx : Int) (b : (List Int)) (r : Int) (h : Sh.dots_Check b = some r) : FnG Tryz.prog (GL mx) 65 [.fl .shr 1 (map (int .u8) b)] (.v (.int .i64 r)) := by
  unfold Sh.dots_Check at h
  refine fn_okG func65 rfl (zl rfl) rfl rfl fun g0 hn hio => ?_
  refine zgg hn [_,_,(2,.box 29 [vi 0])] [0,1] [0,1,2] [zq [] 2 2] [(_,_),(_,_),(_,_)] rfl ⟨zp rfl (op_alloc _ _ zr29),zz⟩ ?_
  refine zgg hn [_,_,_,(3,.box 3 [vi 0]),(3,.box 3 [vi 0])] [0,1,2] [0,1,2,4] [zq [] 3 3,⟨[],[3],[4],[.cell 3 0]⟩] [(_,_),(_,_),(_,_),(_,_)] rfl ⟨zp rfl (op_alloc _ _ zr3),zp rfl (oS sz3 rfl),zz⟩ ?_
  refine ht_seq ?_
  refine ht_seq ?_
  obtain ⟨v1, hv1, h⟩ := zn h
  refine zg hn [_,_,_,_,(5,.fl .shr 1 (map (int .u8) b)),(6,.cloB 89 [.box 25 [.fl .shr 1 (map (int .u8) v1)]])] [0,1,2,3] [0,1,2,3,5] [zq [0] 4 5,zq [4] 5 6] [(_,_),(_,_),(_,_),(_,_),(_,_)] rfl ⟨z1 rfl,zp rfl (op_callS _ _ 69 _ _ rfl call69 rfl rfl (ok_dots_lines b _ hv1) rfl),zz⟩ ?_
  refine pt_then ?_
  refine ht_block ?_
  refine ht_pick [4, 0, 1, 2, 3] (by kernel_rfl) (es' := [(6, .cloB 89 [.box 25 [.fl .shr 1 (map (int .u8) v1)]]), (0, .fl .shr 1 (map (int .u8) b)), (19, .glob (GL mx)), (2, .box 29 [.v (.int .i64 0)]), (3, .box 3 [.v (.int .i64 0)])]) rfl ?_
  refine ht_rangeF h 89 6 7 20 _ [0, 19, 2, 3] call89 (fun (s8 : Int) => [(0, .fl .shr 1 (map (int .u8) b)), (19, .glob (GL mx)), (2, .box 29 [.v (.int .i64 0)]), (3, .box 3 [.v (.int .i64 s8)])]) (fun (s10 : Int) => [(0, .fl .shr 1 (map (int .u8) b)), (19, .glob (GL mx)), (2, .box 29 [.v (.int .i64 5)]), (3, .box 3 [.v (.int .i64 s10)])]) (fun l J Y hY t t' h => ok_dots_lines_1 mx l J Y hY v1 t t' h) hn rfl (fun _ => rfl) (fun _ => rfl) (fun _ => rfl) rfl rfl (fun _ => ⟨rfl, rfl⟩) rfl (glIn_look 19 rfl) ?_ ?_ ?_
  ·rintro kk g0 hn hio x s8 u h
   refine ht_es (es' := [(7, .fl .shr 1 (map (int .u8) x)), (0, .fl .shr 1 (map (int .u8) b)), (19, .glob (GL mx)), (2, .box 29 [.v (.int .i64 0)]), (3, .box 3 [.v (.int .i64 s8)]), (0, .v (kk.tm.getD 0 undef)), (19, .v (kk.tm.getD 19 undef)), (2, .v (kk.tm.getD 2 undef)), (3, .v (kk.tm.getD 3 undef)), (20, .inv kk.ready)]) rfl ?_
   refine zg hn [_,_,_,_,_,_,_,_,_,_,(4,.fl .shr 1 (map (int .u8) x))] [0,1,2,3,4,5,6,7,8,9] [1,2,3,4,5,6,7,8,9,10] [zq [0] 10 4] [(_,_),(_,_),(_,_),(_,_),(_,_),(_,_),(_,_),(_,_),(_,_),(_,_)] rfl ⟨z2 rfl,zz⟩ ?_
   refine pt_pick [0, 1, 2, 3, 4, 5, 6, 7, 9, 8] (by kernel_rfl) (es' := [(0, .fl .shr 1 (map (int .u8) b)), (19, .glob (GL mx)), (2, .box 29 [.v (.int .i64 0)]), (3, .box 3 [.v (.int .i64 s8)]), (0, .v (kk.tm.getD 0 undef)), (19, .v (kk.tm.getD 19 undef)), (2, .v (kk.tm.getD 2 undef)), (3, .v (kk.tm.getD 3 undef)), (4, .fl .shr 1 (map (int .u8) x)), (20, .inv kk.ready)]) rfl ?_
   refine pt_begin (es := [(0, .fl .shr 1 (map (int .u8) b)), (19, .glob (GL mx)), (2, .box 29 [.v (.int .i64 0)]), (3, .box 3 [.v (.int .i64 s8)]), (0, .v (kk.tm.getD 0 undef)), (19, .v (kk.tm.getD 19 undef)), (2, .v (kk.tm.getD 2 undef)), (3, .v (kk.tm.getD 3 undef)), (4, .fl .shr 1 (map (int .u8) x))]) 20 rfl ?_
   refine ht_block ?_
   refine ht_seq ?_
   refine ht_seq ?_
   obtain ⟨v2, hv2, h⟩ := zn h
   refine zg hn [_,_,_,_,_,_,_,_,_,_,(8,.fl .shr 1 (map (int .u8) x)),(9,vb v2)] [0,1,2,3,4,5,6,7,8,9] [0,1,2,3,4,5,6,7,8,9,11] [zq [8] 10 8,zq [10,1] 11 9] [(_,_),(_,_),(_,_),(_,_),(_,_),(_,_),(_,_),(_,_),(_,_),(_,_),(_,_)] rfl ⟨z1 rfl,zp rfl (op_callG _ _ 19 84 _ _ rfl call84 rfl rfl (fun _ h => h) (ok_bytes_ContainsAny mx x (⟨#[13, 10]⟩ : ByteArray) _ hv2) rfl rfl),zz⟩ ?_
   refine pt_then ?_
   refine ht_cond _ rfl (fun hb11 => ?_) (fun hb11 => ?_)
   ·have h := cond_t hb11 h
    refine zgg hn [_,_,_,_,_,_,_,_,_,_,_,(2,.box 29 [vi 5])] [0,1,2,3,4,5,6,7,8,9,10] [0,1,11,3,4,5,6,7,9] [⟨[],[2],[11],[.cell 2 0]⟩] [(_,_),(_,_),(_,_),(_,_),(_,_),(_,_),(_,_),(_,_),(_,_)] rfl ⟨zp rfl (oS sz29 rfl),zz⟩ ?_
    refine ht_ret ?_
    refine pt_r_then ?_
    refine pt_r_in ?_
    obtain rfl := zi h
    exact pt_rret 20 [0, 19, 2, 3] _ rfl rfl (by kernel_rfl)
   ·have h := cond_f hb11 h
    refine ht_skip ?_
    refine pt_then ?_
    obtain ⟨v4, hv4, h⟩ := zn h
    obtain ⟨v5, hv5, h⟩ := zn h
    refine zg hn (_::_::_::_::_::_::_::_::_::_::_::(10,vi s8)::(11,.fl .shr 1 (map (int .u8) x))::(12,vi (x.length : Int))::(13,vi v4)::(14,vi v5)::(3,.box 3 [vi v5])::[]) [0,1,2,3,4,5,6,7,8,9,10] [0,1,2,16,4,5,6,7,9] [zq [3] 11 10,zq [8] 12 11,zq [12] 13 12,zq [13] 14 13,zq [11,14] 15 14,⟨[15],[3],[16],[.cell 3 0]⟩] [(_,_),(_,_),(_,_),(_,_),(_,_),(_,_),(_,_),(_,_),(_,_)] rfl ⟨zp rfl (oL underlying3 rfl),z1 rfl,zp rfl (op_len_fl _ _ _ underlying25 rfl (by decide) (map_len _)),zp rfl (oB rfl (ibind (f := int .i64) (Option.some.inj hv4))),zp rfl (oB rfl (ibind (f := int .i64) (Option.some.inj hv5))),zp rfl (oS sz3 rfl),zz⟩ ?_
    refine pt_inb ?_
    obtain rfl := zi h
    exact pt_rnext 20 [0, 19, 2, 3] _ rfl rfl (by kernel_rfl)
  ·rintro D s8 h
   refine pt_inb ?_
   refine pt_then (ht_seq ?_)
   refine zgg hn [_,_,_,_,(15,vi s8),(16,.fl .shr 1 (map (int .u8) b)),(17,vi (b.length : Int)),(18,vb (s8 != (b.length : Int)))] [0,1,2,3] [1,2,7] [zq [3] 4 15,zq [0] 5 16,zq [5] 6 17,zq [4,6] 7 18] [(_,_),(_,_),(_,_)] rfl ⟨zp rfl (oL underlying3 rfl),z1 rfl,zp rfl (op_len_fl _ _ _ underlying25 rfl (by decide) (map_len _)),z4 rfl rfl,zz⟩ ?_
   refine ht_cond _ rfl (fun hb12 => ?_) (fun hb12 => ?_)
   ·have h := cond_t hb12 h
    refine zgg hn [_,_,_,(2,.box 29 [vi 5])] [0,1,2] [0,3] [⟨[],[1],[3],[.cell 2 0]⟩] [(_,_),(_,_)] rfl ⟨zp rfl (oS sz29 rfl),zz⟩ ?_
    refine ht_ret ?_
    refine pt_pick [1] (by kernel_rfl) (es' := [(_,_)]) rfl ?_
    refine pt_r_then ?_
    obtain rfl := zi h
    exact pt_ret hio rfl (.cell1 _ _ _ _ underlying29 rfl .nil) rfl rfl
   ·have h := cond_f hb12 h
    refine ht_skip ?_
    refine pt_then ?_
    refine zgg hn [_,_,_,(2,.box 29 [vi 0])] [0,1,2] [0,3] [⟨[],[1],[3],[.cell 2 0]⟩] [(_,_),(_,_)] rfl ⟨zp rfl (oS sz29 rfl),zz⟩ ?_
    refine ht_ret ?_
    refine pt_pick [1] (by kernel_rfl) (es' := [(_,_)]) rfl ?_
    obtain rfl := zi h
    exact pt_ret hio rfl (.cell1 _ _ _ _ underlying29 rfl .nil) rfl rfl
  ·rintro D s10 h
   refine pt_pick [2] (by kernel_rfl) (es' := [(_,_)]) rfl ?_
   refine pt_r_in ?_
   refine pt_r_then ?_
   obtain rfl := zi h
   exact pt_ret hio rfl (.cell1 _ _ _ _ underlying29 rfl .nil) rfl rfl
theorem ok_bundle_validMail (mx : Int) (m : T_Mail) (r : Bool) (h : Sh.bundle_validMail m = some r) : FnG Tryz.prog (GL mx) 42 [.agg [.v (.bool m.From.Null), .v (.string m.From.Local), .v (.string m.From.Domain), .fl .shr 3 (flatten (map T_Path.enc m.To)), .fl .shr 1 (map (int .u8) m.Body), .v (.bool m.Quiet), .v (.string m.Helo), .v (.int .i64 m.At)]] (.v (.bool r)) := by
  unfold Sh.bundle_validMail at h
  refine fn_okG func42 rfl (zl rfl) rfl rfl fun g0 hn hio => ?_
  refine zgg hn [_,_,(1,.box 46 [vb m.From.Null,vs m.From.Local,vs m.From.Domain,.fl .shr 3 (flatten (map T_Path.enc m.To)),.fl .shr 1 (map (int .u8) m.Body),vb m.Quiet,vs m.Helo,vi m.At]),(2,vb false)] [0,1] [1,2] [zq [0] 2 1,zq [] 3 2] [(_,_),(_,_)] rfl ⟨zp rfl (op_box _ _ _ _ rfl rfl rfl),z2 rfl,zz⟩ ?_
  refine ht_seq ?_
  refine ht_joinS h (fun (s3 : Bool) => [(17, .glob (GL mx)), (2, .v (.bool s3))]) ?_ ?_
  ·rintro s3 h
   refine pt_then (ht_ret ?_)
   refine pt_pick [1] (by kernel_rfl) (es' := [(_,_)]) rfl ?_
   obtain rfl := zi h
   exact pt_ret hio rfl (.tmp _ _ .nil) rfl rfl
  ·intro u4 h hl5 hr6
   obtain ⟨v1, hv1, h⟩ := zn h
   refine cond_some h (fun hg1_2 h => ?_) (fun hg1_2 h => ?_)
   ·refine cond_some h (fun hg1_8 h => ?_) (fun hg1_8 h => ?_)
    ·obtain ⟨v2, hv2, h⟩ := zn h
     refine zg hn (_::_::(3,.agg [vb m.From.Null,vs m.From.Local,vs m.From.Domain,.fl .shr 3 (flatten (map T_Path.enc m.To)),.fl .shr 1 (map (int .u8) m.Body),vb m.Quiet,vs m.Helo,vi m.At])::(4,vb v1)::(5,vb true)::(6,.ptr 1 4)::(7,.fl .shr 1 (map (int .u8) m.Body))::(8,vi (m.Body.length : Int))::(9,vb (decide ((m.Body.length : Int) ≤ 4096)))::(10,vb (decide ((m.Body.length : Int) ≤ 4096)))::(11,vb true)::(12,.ptr 1 4)::(13,.fl .shr 1 (map (int .u8) m.Body))::(14,vi v2)::(15,vb (v2 == 0))::(16,vb (v2 == 0))::(2,vb (v2 == 0))::[]) [0,1] [0,16] (zq [1] 2 3::zq [2,0] 3 4::zq [3] 4 5::zq [4,1] 5 6::zq [4,5,1] 6 7::zq [4,6] 7 8::zq [4,7] 8 9::zq [4,8] 9 10::zq [9] 10 11::zq [10,1] 11 12::zq [10,11,1] 12 13::zq [10,12,0] 13 14::zq [10,13] 14 15::zq [10,14] 15 16::zq [15] 16 2::[]) [(_,_),(_,_)] rfl ⟨zp rfl (op_loadA _ _ _ _ _ _ _ underlying46 rfl sz46 rfl rfl (zl rfl) rfl rfl),zp rfl (op_callG _ _ 17 64 _ _ rfl call64 rfl rfl (fun _ h => h) (ok_envelope_Valid mx ((T_Mail.mk (T_Path.mk m.From.Null m.From.Local m.From.Domain) m.To m.Body m.Quiet m.Helo m.At)) _ hv1) rfl rfl),z8 hg1_2 rfl,zr' rfl (oF underlying46 rfl sz25),zr' rfl (oL underlying25 rfl),zr' rfl (op_len_fl _ _ _ underlying25 rfl (by decide) (map_len _)),zr' rfl (oB rfl rfl),z3 true rfl,z8 hg1_8 rfl,zr' rfl (oF underlying46 rfl sz25),zr' rfl (oL underlying25 rfl),zr' rfl (op_callG _ _ 17 65 _ _ rfl call65 rfl rfl (fun _ h => h) (ok_dots_Check mx m.Body _ hv2) rfl rfl),zr' rfl (oB rfl rfl),z3 true rfl,z2 rfl,zz⟩ ?_
     exact hl5 _ (zi h).symm
    ·refine zg hn (_::_::(3,.agg [vb m.From.Null,vs m.From.Local,vs m.From.Domain,.fl .shr 3 (flatten (map T_Path.enc m.To)),.fl .shr 1 (map (int .u8) m.Body),vb m.Quiet,vs m.Helo,vi m.At])::(4,vb v1)::(5,vb true)::(6,.ptr 1 4)::(7,.fl .shr 1 (map (int .u8) m.Body))::(8,vi (m.Body.length : Int))::(9,vb (decide ((m.Body.length : Int) ≤ 4096)))::(10,vb (decide ((m.Body.length : Int) ≤ 4096)))::(11,vb false)::(12,.v undef)::(13,.v undef)::(14,.v undef)::(15,.v undef)::(16,vb false)::(2,vb false)::[]) [0,1] [0,16] (zq [1] 2 3::zq [2,0] 3 4::zq [3] 4 5::zq [4,1] 5 6::zq [4,5,1] 6 7::zq [4,6] 7 8::zq [4,7] 8 9::zq [4,8] 9 10::zq [9] 10 11::zq [10] 11 12::zq [10] 12 13::zq [10] 13 14::zq [10] 14 15::zq [10] 15 16::zq [15] 16 2::[]) [(_,_),(_,_)] rfl ⟨zp rfl (op_loadA _ _ _ _ _ _ _ underlying46 rfl sz46 rfl rfl (zl rfl) rfl rfl),zp rfl (op_callG _ _ 17 64 _ _ rfl call64 rfl rfl (fun _ h => h) (ok_envelope_Valid mx ((T_Mail.mk (T_Path.mk m.From.Null m.From.Local m.From.Domain) m.To m.Body m.Quiet m.Helo m.At)) _ hv1) rfl rfl),z8 hg1_2 rfl,zr' rfl (oF underlying46 rfl sz25),zr' rfl (oL underlying25 rfl),zr' rfl (op_len_fl _ _ _ underlying25 rfl (by decide) (map_len _)),zr' rfl (oB rfl rfl),z3 true rfl,z8 hg1_8 rfl,zt rfl,zt rfl,zt rfl,zt rfl,z3 false rfl,z2 rfl,zz⟩ ?_
     exact hl5 _ (zi h).symm
   ·refine zg hn (_::_::(3,.agg [vb m.From.Null,vs m.From.Local,vs m.From.Domain,.fl .shr 3 (flatten (map T_Path.enc m.To)),.fl .shr 1 (map (int .u8) m.Body),vb m.Quiet,vs m.Helo,vi m.At])::(4,vb v1)::(5,vb false)::(6,.v undef)::(7,.v undef)::(8,.v undef)::(9,.v undef)::(10,vb false)::(11,vb false)::(12,.v undef)::(13,.v undef)::(14,.v undef)::(15,.v undef)::(16,vb false)::(2,vb false)::[]) [0,1] [0,16] (zq [1] 2 3::zq [2,0] 3 4::zq [3] 4 5::zq [4] 5 6::zq [4] 6 7::zq [4] 7 8::zq [4] 8 9::zq [4] 9 10::zq [9] 10 11::zq [10] 11 12::zq [10] 12 13::zq [10] 13 14::zq [10] 14 15::zq [10] 15 16::zq [15] 16 2::[]) [(_,_),(_,_)] rfl ⟨zp rfl (op_loadA _ _ _ _ _ _ _ underlying46 rfl sz46 rfl rfl (zl rfl) rfl rfl),zp rfl (op_callG _ _ 17 64 _ _ rfl call64 rfl rfl (fun _ h => h) (ok_envelope_Valid mx ((T_Mail.mk (T_Path.mk m.From.Null m.From.Local m.From.Domain) m.To m.Body m.Quiet m.Helo m.At)) _ hv1) rfl rfl),z8 hg1_2 rfl,zt rfl,zt rfl,zt rfl,zt rfl,z3 false rfl,z1 rfl,zt rfl,zt rfl,zt rfl,zt rfl,z3 false rfl,z2 rfl,zz⟩ ?_
    exact hl5 _ (zi h).symm
theorem ok_bundle_Check (mx : Int) (b : T_Bundle) (r : Int) (h : Sh.bundle_Check b = some r) : FnG Tryz.prog (GL mx) 19 [.agg [.v (.int .i64 b.Origin), .v (.int .i64 b.Number), .fr .shr true 8 (flatten (map T_Mail.ienc b.Mails))]] (.v (.int .i64 r)) := by
  unfold Sh.bundle_Check at h
  refine fn_okG func19 rfl (zl rfl) rfl rfl fun g0 hn hio => ?_
  refine zgg hn [_,_,(1,.box 24 [vi b.Origin,vi b.Number,.fr .shr true 8 (flatten (map T_Mail.ienc b.Mails))]),(2,vi 0)] [0,1] [1,2] [zq [0] 2 1,zq [] 3 2] [(_,_),(_,_)] rfl ⟨zp rfl (op_box _ _ _ _ rfl rfl rfl),z2 rfl,zz⟩ ?_
  refine ht_seq ?_
  refine ht_seq ?_
  refine ht_joinS h (fun (s1 : Bool) => [(58, .glob (GL mx)), (1, .box 24 [.v (.int .i64 b.Origin), .v (.int .i64 b.Number), .fr .shr true 8 (flatten (map T_Mail.ienc b.Mails))]), (22, .v (.bool s1))]) ?_ ?_
  ·rintro s1 h
   refine pt_then ?_
   refine ht_cond _ rfl (fun hb5 => ?_) (fun hb5 => ?_)
   ·have h := cond_t hb5 h
    refine zgg hn [_,_,_,(2,vi 5)] [0,1,2] [0,3] [zq [] 3 2] [(_,_),(_,_)] rfl ⟨z2 rfl,zz⟩ ?_
    refine ht_ret ?_
    refine pt_pick [1] (by kernel_rfl) (es' := [(_,_)]) rfl ?_
    refine pt_r_then ?_
    obtain rfl := zi h
    exact pt_ret hio rfl (.tmp _ _ .nil) rfl rfl
   ·have h := cond_f hb5 h
    refine ht_skip ?_
    refine pt_then (ht_seq ?_)
    refine ht_seq ?_
    refine ht_joinS h (fun (s6 : Bool) => [(58, .glob (GL mx)), (1, .box 24 [.v (.int .i64 b.Origin), .v (.int .i64 b.Number), .fr .shr true 8 (flatten (map T_Mail.ienc b.Mails))]), (32, .v (.bool s6))]) ?_ ?_
    ·rintro s6 h
     refine pt_then ?_
     refine ht_cond _ rfl (fun hb10 => ?_) (fun hb10 => ?_)
     ·have h := cond_t hb10 h
      refine zgg hn [_,_,_,(2,vi 5)] [0,1,2] [0,3] [zq [] 3 2] [(_,_),(_,_)] rfl ⟨z2 rfl,zz⟩ ?_
      refine ht_ret ?_
      refine pt_pick [1] (by kernel_rfl) (es' := [(_,_)]) rfl ?_
      refine pt_r_then ?_
      obtain rfl := zi h
      exact pt_ret hio rfl (.tmp _ _ .nil) rfl rfl
     ·have h := cond_f hb10 h
      refine ht_skip ?_
      refine pt_then (ht_seq ?_)
      refine zgg hn [_,_,_,(33,.ptr 1 2),(34,.fr .shr true 8 (flatten (map T_Mail.ienc b.Mails))),(35,vi (b.Mails.length : Int)),(36,vi 0)] [0,1,2] [0,4,5,6] [zq [1] 3 33,zq [3,1] 4 34,zq [4] 5 35,zq [] 6 36] [(_,_),(_,_),(_,_),(_,_)] rfl ⟨zp rfl (oF underlying24 rfl sz22),zp rfl (oL underlying22 rfl),zp rfl (op_len_fr _ _ _ underlying22 rfl (by decide) (gflat_len T_Mail.ilen _)),z1 rfl,zz⟩ ?_
      refine ht_loopS h (fun (s28 : Int) => [(58, .glob (GL mx)), (34, .fr .shr true 8 (flatten (map T_Mail.ienc b.Mails))), (35, .v (.int .i64 (b.Mails.length : Int))), (36, .v (.int .i64 s28))]) (fun (() : Unit) => [(58, .glob (GL mx))]) ?_ ?_
      ·rintro ⟨⟩ h
       refine pt_then ?_
       refine zgg hn [_,(2,vi 0)] [0] [0,1] [zq [] 1 2] [(_,_),(_,_)] rfl ⟨z2 rfl,zz⟩ ?_
       refine ht_ret ?_
       refine pt_pick [1] (by kernel_rfl) (es' := [(_,_)]) rfl ?_
       obtain rfl := zi h
       exact pt_ret hio rfl (.tmp _ _ .nil) rfl rfl
      ·rintro u35 hl36 hr37 s28 rr40 h ho38
       refine zgg hn [_,_,_,_,(37,vb (decide (s28 < (b.Mails.length : Int))))] [0,1,2,3] [0,1,2,3,4] [zq [3,2] 4 37] [(_,_),(_,_),(_,_),(_,_),(_,_)] rfl ⟨z4 rfl rfl,zz⟩ ?_
       refine ht_seq ?_
       refine ht_cond _ rfl (fun hb41 => ?_) (fun hb41 => ?_)
       ·have h := cond_t hb41 h
        refine ht_skip ?_
        refine pt_then (ht_seq ?_)
        refine ht_block ?_
        refine ht_seq ?_
        obtain ⟨v12, hv12, h⟩ := zn h
        obtain ⟨v13, hv13, h⟩ := zn h
        refine zg hn [_,_,_,_,_,(38,.eref (.slot 34) (v12 * 8)),(39,.agg [vb v13.From.Null,vs v13.From.Local,vs v13.From.Domain,.fl .shr 3 (flatten (map T_Path.enc v13.To)),.fl .shr 1 (map (int .u8) v13.Body),vb v13.Quiet,vs v13.Helo,vi v13.At]),(4,.box 46 [vb false,vs z0,vs z0,.v (.slice none 0 0),.v (.slice none 0 0),vb false,vs z0,vi 0]),(4,.box 46 [vb v13.From.Null,vs v13.From.Local,vs v13.From.Domain,.fl .shr 3 (flatten (map T_Path.enc v13.To)),.fl .shr 1 (map (int .u8) v13.Body),vb v13.Quiet,vs v13.Helo,vi v13.At])] [0,1,2,3,4] [0,1,2,3,8] [zq [1,3] 5 38,zq [5,1] 6 39,zq [] 7 4,⟨[6],[7],[8],[.cell 4 0,.cell 4 1,.cell 4 2,.cell 4 3,.cell 4 4,.cell 4 5,.cell 4 6,.cell 4 7]⟩] [(_,_),(_,_),(_,_),(_,_),(_,_)] rfl ⟨zp rfl (op_ix_fr _ _ _ _ _ _ _ _ underlying22 sz46 (by decide) rfl rfl rfl (ix_ok hv12).1 (gflat_lt T_Mail.ilen (ix_ok hv12).2) rfl),zp rfl (op_loadA_fr _ _ _ _ _ _ _ _ underlying46 rfl sz46 rfl rfl (gflat_get T_Mail.ilen hv13) (.cons (.v _) (.cons (.v _) (.cons (.v _) (.cons (.fl _ _ rfl) (.cons (.fl _ _ rfl) (.cons (.v _) (.cons (.v _) (.cons (.v _) (.nil))))))))) rfl (by decide)),zp rfl (op_alloc _ _ zr46),zp rfl (oS sz46 rfl),zz⟩ ?_
        refine pt_then (ht_seq ?_)
        refine ht_joinS h (fun (s42 : Bool) => [(58, .glob (GL mx)), (34, .fr .shr true 8 (flatten (map T_Mail.ienc b.Mails))), (35, .v (.int .i64 (b.Mails.length : Int))), (36, .v (.int .i64 s28)), (56, .v (.bool s42))]) ?_ ?_
        ·rintro s42 h
         refine pt_then ?_
         refine ht_cond _ rfl (fun hb46 => ?_) (fun hb46 => ?_)
         ·have h := cond_t hb46 h
          refine zgg hn [_,_,_,_,_,(2,vi 5)] [0,1,2,3,4] [0,5] [zq [] 5 2] [(_,_),(_,_)] rfl ⟨z2 rfl,zz⟩ ?_
          refine ht_ret ?_
          refine pt_pick [1] (by kernel_rfl) (es' := [(_,_)]) rfl ?_
          refine pt_r_in ?_
          refine pt_r_then ?_
          refine pt_r_then ?_
          refine pt_r_in ?_
          refine pt_r_then ?_
          have h := hr37 _ (ho38 _ (zi h).symm).symm
          obtain rfl := zi h
          exact pt_ret hio rfl (.tmp _ _ .nil) rfl rfl
         ·have h := cond_f hb46 h
          refine ht_skip ?_
          refine pt_inb ?_
          refine pt_then ?_
          obtain ⟨v20, hv20, h⟩ := zn h
          refine zg hn [_,_,_,_,_,(57,vi v20),(36,vi v20)] [0,1,2,3,4] [0,1,2,6] [zq [3] 5 57,⟨[5],[3],[6],[(.slot 36)]⟩] [(_,_),(_,_),(_,_),(_,_)] rfl ⟨zp rfl (oB rfl (ibind (f := int .i64) (Option.some.inj hv20))),zp rfl (LOp.drop [_] (oM rfl)),zz⟩ ?_
          exact pt_next _ (zi h).symm rfl
        ·intro u43 h hl44 hr45
         obtain ⟨v14, hv14, h⟩ := zn h
         refine cond_some h (fun hg8_3 h => ?_) (fun hg8_3 h => ?_)
         ·refine zg hn (_::_::_::_::_::(40,.agg [vb v13.From.Null,vs v13.From.Local,vs v13.From.Domain,.fl .shr 3 (flatten (map T_Path.enc v13.To)),.fl .shr 1 (map (int .u8) v13.Body),vb v13.Quiet,vs v13.Helo,vi v13.At])::(41,vb v14)::(42,vb (!v14))::(43,vb true)::(44,.v undef)::(45,.v undef)::(46,vb true)::(47,vb true)::(48,.v undef)::(49,.v undef)::(50,.v undef)::(51,vb true)::(52,vb true)::(53,.v undef)::(54,.v undef)::(55,.v undef)::(56,vb true)::[]) [0,1,2,3,4] [0,1,2,3,21] (zq [4] 5 40::zq [5,0] 6 41::zq [6] 7 42::zq [7] 8 43::zq [8] 9 44::zq [8] 10 45::zq [8] 11 46::zq [11] 12 47::zq [12] 13 48::zq [12] 14 49::zq [12] 15 50::zq [12] 16 51::zq [16] 17 52::zq [17] 18 53::zq [17] 19 54::zq [17] 20 55::zq [17] 21 56::[]) [(_,_),(_,_),(_,_),(_,_),(_,_)] rfl ⟨zp rfl (op_loadA _ _ _ _ _ _ _ underlying46 rfl sz46 rfl rfl (zl rfl) rfl rfl),zp rfl (op_callG _ _ 58 42 _ _ rfl call42 rfl rfl (fun _ h => h) (ok_bundle_validMail mx ((T_Mail.mk (T_Path.mk v13.From.Null v13.From.Local v13.From.Domain) v13.To v13.Body v13.Quiet v13.Helo v13.At)) _ hv14) rfl rfl),zp rfl (op_un _ _ _ _ rfl rfl),z8 hg8_3 rfl,zf rfl,zf rfl,z3 true rfl,z1 rfl,zf rfl,zf rfl,zf rfl,z3 true rfl,z1 rfl,zf rfl,zf rfl,zf rfl,z3 true rfl,zz⟩ ?_
          exact hl44 _ (zi h).symm
         ·refine cond_some h (fun hg8_7 h => ?_) (fun hg8_7 h => ?_)
          ·refine zg hn (_::_::_::_::_::(40,.agg [vb v13.From.Null,vs v13.From.Local,vs v13.From.Domain,.fl .shr 3 (flatten (map T_Path.enc v13.To)),.fl .shr 1 (map (int .u8) v13.Body),vb v13.Quiet,vs v13.Helo,vi v13.At])::(41,vb v14)::(42,vb (!v14))::(43,vb false)::(44,.ptr 4 5)::(45,vb v13.Quiet)::(46,vb v13.Quiet)::(47,vb true)::(48,.v undef)::(49,.v undef)::(50,.v undef)::(51,vb true)::(52,vb true)::(53,.v undef)::(54,.v undef)::(55,.v undef)::(56,vb true)::[]) [0,1,2,3,4] [0,1,2,3,21] (zq [4] 5 40::zq [5,0] 6 41::zq [6] 7 42::zq [7] 8 43::zq [8,4] 9 44::zq [8,9,4] 10 45::zq [8,10] 11 46::zq [11] 12 47::zq [12] 13 48::zq [12] 14 49::zq [12] 15 50::zq [12] 16 51::zq [16] 17 52::zq [17] 18 53::zq [17] 19 54::zq [17] 20 55::zq [17] 21 56::[]) [(_,_),(_,_),(_,_),(_,_),(_,_)] rfl ⟨zp rfl (op_loadA _ _ _ _ _ _ _ underlying46 rfl sz46 rfl rfl (zl rfl) rfl rfl),zp rfl (op_callG _ _ 58 42 _ _ rfl call42 rfl rfl (fun _ h => h) (ok_bundle_validMail mx ((T_Mail.mk (T_Path.mk v13.From.Null v13.From.Local v13.From.Domain) v13.To v13.Body v13.Quiet v13.Helo v13.At)) _ hv14) rfl rfl),zp rfl (op_un _ _ _ _ rfl rfl),z8 hg8_3 rfl,zr' rfl (oF underlying46 rfl sz4),zr' rfl (oL underlying4 rfl),z3 false rfl,z8 hg8_7 rfl,zf rfl,zf rfl,zf rfl,z3 true rfl,z1 rfl,zf rfl,zf rfl,zf rfl,z3 true rfl,zz⟩ ?_
           exact hl44 _ (zi h).symm
          ·refine cond_some h (fun hg8_12 h => ?_) (fun hg8_12 h => ?_)
           ·refine zg hn (_::_::_::_::_::(40,.agg [vb v13.From.Null,vs v13.From.Local,vs v13.From.Domain,.fl .shr 3 (flatten (map T_Path.enc v13.To)),.fl .shr 1 (map (int .u8) v13.Body),vb v13.Quiet,vs v13.Helo,vi v13.At])::(41,vb v14)::(42,vb (!v14))::(43,vb false)::(44,.ptr 4 5)::(45,vb v13.Quiet)::(46,vb v13.Quiet)::(47,vb false)::(48,.ptr 4 6)::(49,vs v13.Helo)::(50,vb (!(v13.Helo.toList == z0.toList)))::(51,vb (!(v13.Helo.toList == z0.toList)))::(52,vb true)::(53,.v undef)::(54,.v undef)::(55,.v undef)::(56,vb true)::[]) [0,1,2,3,4] [0,1,2,3,21] (zq [4] 5 40::zq [5,0] 6 41::zq [6] 7 42::zq [7] 8 43::zq [8,4] 9 44::zq [8,9,4] 10 45::zq [8,10] 11 46::zq [11] 12 47::zq [12,4] 13 48::zq [12,13,4] 14 49::zq [12,14] 15 50::zq [12,15] 16 51::zq [16] 17 52::zq [17] 18 53::zq [17] 19 54::zq [17] 20 55::zq [17] 21 56::[]) [(_,_),(_,_),(_,_),(_,_),(_,_)] rfl ⟨zp rfl (op_loadA _ _ _ _ _ _ _ underlying46 rfl sz46 rfl rfl (zl rfl) rfl rfl),zp rfl (op_callG _ _ 58 42 _ _ rfl call42 rfl rfl (fun _ h => h) (ok_bundle_validMail mx ((T_Mail.mk (T_Path.mk v13.From.Null v13.From.Local v13.From.Domain) v13.To v13.Body v13.Quiet v13.Helo v13.At)) _ hv14) rfl rfl),zp rfl (op_un _ _ _ _ rfl rfl),z8 hg8_3 rfl,zr' rfl (oF underlying46 rfl sz4),zr' rfl (oL underlying4 rfl),z3 false rfl,z8 hg8_7 rfl,zr' rfl (oF underlying46 rfl sz9),zr' rfl (oL underlying9 rfl),zr' rfl (oB rfl rfl),z3 false rfl,z8 hg8_12 rfl,zf rfl,zf rfl,zf rfl,z3 true rfl,zz⟩ ?_
            exact hl44 _ (zi h).symm
           ·refine zg hn (_::_::_::_::_::(40,.agg [vb v13.From.Null,vs v13.From.Local,vs v13.From.Domain,.fl .shr 3 (flatten (map T_Path.enc v13.To)),.fl .shr 1 (map (int .u8) v13.Body),vb v13.Quiet,vs v13.Helo,vi v13.At])::(41,vb v14)::(42,vb (!v14))::(43,vb false)::(44,.ptr 4 5)::(45,vb v13.Quiet)::(46,vb v13.Quiet)::(47,vb false)::(48,.ptr 4 6)::(49,vs v13.Helo)::(50,vb (!(v13.Helo.toList == z0.toList)))::(51,vb (!(v13.Helo.toList == z0.toList)))::(52,vb false)::(53,.ptr 4 7)::(54,vi v13.At)::(55,vb (v13.At != 0))::(56,vb (v13.At != 0))::[]) [0,1,2,3,4] [0,1,2,3,21] (zq [4] 5 40::zq [5,0] 6 41::zq [6] 7 42::zq [7] 8 43::zq [8,4] 9 44::zq [8,9,4] 10 45::zq [8,10] 11 46::zq [11] 12 47::zq [12,4] 13 48::zq [12,13,4] 14 49::zq [12,14] 15 50::zq [12,15] 16 51::zq [16] 17 52::zq [17,4] 18 53::zq [17,18,4] 19 54::zq [17,19] 20 55::zq [17,20] 21 56::[]) [(_,_),(_,_),(_,_),(_,_),(_,_)] rfl ⟨zp rfl (op_loadA _ _ _ _ _ _ _ underlying46 rfl sz46 rfl rfl (zl rfl) rfl rfl),zp rfl (op_callG _ _ 58 42 _ _ rfl call42 rfl rfl (fun _ h => h) (ok_bundle_validMail mx ((T_Mail.mk (T_Path.mk v13.From.Null v13.From.Local v13.From.Domain) v13.To v13.Body v13.Quiet v13.Helo v13.At)) _ hv14) rfl rfl),zp rfl (op_un _ _ _ _ rfl rfl),z8 hg8_3 rfl,zr' rfl (oF underlying46 rfl sz4),zr' rfl (oL underlying4 rfl),z3 false rfl,z8 hg8_7 rfl,zr' rfl (oF underlying46 rfl sz9),zr' rfl (oL underlying9 rfl),zr' rfl (oB rfl rfl),z3 false rfl,z8 hg8_12 rfl,zr' rfl (oF underlying46 rfl sz3),zr' rfl (oL underlying3 rfl),zr' rfl (oB rfl rfl),z3 false rfl,zz⟩ ?_
            exact hl44 _ (zi h).symm
       ·have h := cond_f hb41 h
        refine ht_exit ?_
        refine pt_x_then ?_
        refine pt_x_then ?_
        refine pt_x_in ?_
        refine pt_pick [0] (by kernel_rfl) (es' := [(_,_)]) rfl ?_
        exact hl36 _ (ho38 _ (zi h).symm).symm
    ·intro u7 h hl8 hr9
     refine cond_some h (fun hg3_4 h => ?_) (fun hg3_4 h => ?_)
     ·refine zg hn [_,_,_,(23,.ptr 1 2),(24,.fr .shr true 8 (flatten (map T_Mail.ienc b.Mails))),(25,vi (b.Mails.length : Int)),(26,vb (decide ((b.Mails.length : Int) < 1))),(27,vb true),(28,.v undef),(29,.v undef),(30,.v undef),(31,.v undef),(32,vb true)] [0,1,2] [0,1,12] [zq [1] 3 23,zq [3,1] 4 24,zq [4] 5 25,zq [5] 6 26,zq [6] 7 27,zq [7] 8 28,zq [7] 9 29,zq [7] 10 30,zq [7] 11 31,zq [7] 12 32] [(_,_),(_,_),(_,_)] rfl ⟨zp rfl (oF underlying24 rfl sz22),zp rfl (oL underlying22 rfl),zp rfl (op_len_fr _ _ _ underlying22 rfl (by decide) (gflat_len T_Mail.ilen _)),z4 rfl rfl,z8 hg3_4 rfl,zf rfl,zf rfl,zf rfl,zf rfl,z3 true rfl,zz⟩ ?_
      exact hl8 _ (zi h).symm
     ·refine zg hn [_,_,_,(23,.ptr 1 2),(24,.fr .shr true 8 (flatten (map T_Mail.ienc b.Mails))),(25,vi (b.Mails.length : Int)),(26,vb (decide ((b.Mails.length : Int) < 1))),(27,vb false),(28,.ptr 1 2),(29,.fr .shr true 8 (flatten (map T_Mail.ienc b.Mails))),(30,vi (b.Mails.length : Int)),(31,vb (decide (4 < (b.Mails.length : Int)))),(32,vb (decide (4 < (b.Mails.length : Int))))] [0,1,2] [0,1,12] [zq [1] 3 23,zq [3,1] 4 24,zq [4] 5 25,zq [5] 6 26,zq [6] 7 27,zq [7,1] 8 28,zq [7,8,1] 9 29,zq [7,9] 10 30,zq [7,10] 11 31,zq [7,11] 12 32] [(_,_),(_,_),(_,_)] rfl ⟨zp rfl (oF underlying24 rfl sz22),zp rfl (oL underlying22 rfl),zp rfl (op_len_fr _ _ _ underlying22 rfl (by decide) (gflat_len T_Mail.ilen _)),z4 rfl rfl,z8 hg3_4 rfl,zr' rfl (oF underlying24 rfl sz22),zr' rfl (oL underlying22 rfl),zr' rfl (op_len_fr _ _ _ underlying22 rfl (by decide) (gflat_len T_Mail.ilen _)),zr' rfl (oB rfl rfl),z3 false rfl,zz⟩ ?_
      exact hl8 _ (zi h).symm
  ·intro u2 h hl3 hr4
   refine cond_some h (fun hg1_3 h => ?_) (fun hg1_3 h => ?_)
   ·refine cond_some h (fun hg1_8 h => ?_) (fun hg1_8 h => ?_)
    ·refine zg hn (_::_::(5,.ptr 1 0)::(6,vi b.Origin)::(7,vb (b.Origin != 0))::(8,vb true)::(9,.ptr 1 0)::(10,vi b.Origin)::(11,vb (b.Origin != 1))::(12,vb (b.Origin != 1))::(13,vb true)::(14,.v undef)::(15,.v undef)::(16,.v undef)::(17,vb true)::(18,vb true)::(19,.v undef)::(20,.v undef)::(21,.v undef)::(22,vb true)::[]) [0,1] [0,1,19] (zq [1] 2 5::zq [2,1] 3 6::zq [3] 4 7::zq [4] 5 8::zq [5,1] 6 9::zq [5,6,1] 7 10::zq [5,7] 8 11::zq [5,8] 9 12::zq [9] 10 13::zq [10] 11 14::zq [10] 12 15::zq [10] 13 16::zq [10] 14 17::zq [14] 15 18::zq [15] 16 19::zq [15] 17 20::zq [15] 18 21::zq [15] 19 22::[]) [(_,_),(_,_),(_,_)] rfl ⟨zp rfl (oF underlying24 rfl sz3),zp rfl (oL underlying3 rfl),z4 rfl rfl,z8 hg1_3 rfl,zr' rfl (oF underlying24 rfl sz3),zr' rfl (oL underlying3 rfl),zr' rfl (oB rfl rfl),z3 true rfl,z8 hg1_8 rfl,zf rfl,zf rfl,zf rfl,z3 true rfl,z1 rfl,zf rfl,zf rfl,zf rfl,z3 true rfl,zz⟩ ?_
     exact hl3 _ (zi h).symm
    ·refine cond_some h (fun hg1_13 h => ?_) (fun hg1_13 h => ?_)
     ·refine zg hn (_::_::(5,.ptr 1 0)::(6,vi b.Origin)::(7,vb (b.Origin != 0))::(8,vb true)::(9,.ptr 1 0)::(10,vi b.Origin)::(11,vb (b.Origin != 1))::(12,vb (b.Origin != 1))::(13,vb false)::(14,.ptr 1 1)::(15,vi b.Number)::(16,vb (decide (b.Number < 1)))::(17,vb (decide (b.Number < 1)))::(18,vb true)::(19,.v undef)::(20,.v undef)::(21,.v undef)::(22,vb true)::[]) [0,1] [0,1,19] (zq [1] 2 5::zq [2,1] 3 6::zq [3] 4 7::zq [4] 5 8::zq [5,1] 6 9::zq [5,6,1] 7 10::zq [5,7] 8 11::zq [5,8] 9 12::zq [9] 10 13::zq [10,1] 11 14::zq [10,11,1] 12 15::zq [10,12] 13 16::zq [10,13] 14 17::zq [14] 15 18::zq [15] 16 19::zq [15] 17 20::zq [15] 18 21::zq [15] 19 22::[]) [(_,_),(_,_),(_,_)] rfl ⟨zp rfl (oF underlying24 rfl sz3),zp rfl (oL underlying3 rfl),z4 rfl rfl,z8 hg1_3 rfl,zr' rfl (oF underlying24 rfl sz3),zr' rfl (oL underlying3 rfl),zr' rfl (oB rfl rfl),z3 true rfl,z8 hg1_8 rfl,zr' rfl (oF underlying24 rfl sz3),zr' rfl (oL underlying3 rfl),zr' rfl (oB rfl rfl),z3 false rfl,z8 hg1_13 rfl,zf rfl,zf rfl,zf rfl,z3 true rfl,zz⟩ ?_
      exact hl3 _ (zi h).symm
     ·refine zg hn (_::_::(5,.ptr 1 0)::(6,vi b.Origin)::(7,vb (b.Origin != 0))::(8,vb true)::(9,.ptr 1 0)::(10,vi b.Origin)::(11,vb (b.Origin != 1))::(12,vb (b.Origin != 1))::(13,vb false)::(14,.ptr 1 1)::(15,vi b.Number)::(16,vb (decide (b.Number < 1)))::(17,vb (decide (b.Number < 1)))::(18,vb false)::(19,.ptr 1 1)::(20,vi b.Number)::(21,vb (decide (65535 < b.Number)))::(22,vb (decide (65535 < b.Number)))::[]) [0,1] [0,1,19] (zq [1] 2 5::zq [2,1] 3 6::zq [3] 4 7::zq [4] 5 8::zq [5,1] 6 9::zq [5,6,1] 7 10::zq [5,7] 8 11::zq [5,8] 9 12::zq [9] 10 13::zq [10,1] 11 14::zq [10,11,1] 12 15::zq [10,12] 13 16::zq [10,13] 14 17::zq [14] 15 18::zq [15,1] 16 19::zq [15,16,1] 17 20::zq [15,17] 18 21::zq [15,18] 19 22::[]) [(_,_),(_,_),(_,_)] rfl ⟨zp rfl (oF underlying24 rfl sz3),zp rfl (oL underlying3 rfl),z4 rfl rfl,z8 hg1_3 rfl,zr' rfl (oF underlying24 rfl sz3),zr' rfl (oL underlying3 rfl),zr' rfl (oB rfl rfl),z3 true rfl,z8 hg1_8 rfl,zr' rfl (oF underlying24 rfl sz3),zr' rfl (oL underlying3 rfl),zr' rfl (oB rfl rfl),z3 false rfl,z8 hg1_13 rfl,zr' rfl (oF underlying24 rfl sz3),zr' rfl (oL underlying3 rfl),zr' rfl (oB rfl rfl),z3 false rfl,zz⟩ ?_
      exact hl3 _ (zi h).symm
   ·refine cond_some h (fun hg1_13 h => ?_) (fun hg1_13 h => ?_)
    ·refine zg hn (_::_::(5,.ptr 1 0)::(6,vi b.Origin)::(7,vb (b.Origin != 0))::(8,vb false)::(9,.v undef)::(10,.v undef)::(11,.v undef)::(12,vb false)::(13,vb false)::(14,.ptr 1 1)::(15,vi b.Number)::(16,vb (decide (b.Number < 1)))::(17,vb (decide (b.Number < 1)))::(18,vb true)::(19,.v undef)::(20,.v undef)::(21,.v undef)::(22,vb true)::[]) [0,1] [0,1,19] (zq [1] 2 5::zq [2,1] 3 6::zq [3] 4 7::zq [4] 5 8::zq [5] 6 9::zq [5] 7 10::zq [5] 8 11::zq [5] 9 12::zq [9] 10 13::zq [10,1] 11 14::zq [10,11,1] 12 15::zq [10,12] 13 16::zq [10,13] 14 17::zq [14] 15 18::zq [15] 16 19::zq [15] 17 20::zq [15] 18 21::zq [15] 19 22::[]) [(_,_),(_,_),(_,_)] rfl ⟨zp rfl (oF underlying24 rfl sz3),zp rfl (oL underlying3 rfl),z4 rfl rfl,z8 hg1_3 rfl,zt rfl,zt rfl,zt rfl,z3 false rfl,z1 rfl,zr' rfl (oF underlying24 rfl sz3),zr' rfl (oL underlying3 rfl),zr' rfl (oB rfl rfl),z3 false rfl,z8 hg1_13 rfl,zf rfl,zf rfl,zf rfl,z3 true rfl,zz⟩ ?_
     exact hl3 _ (zi h).symm
    ·refine zg hn (_::_::(5,.ptr 1 0)::(6,vi b.Origin)::(7,vb (b.Origin != 0))::(8,vb false)::(9,.v undef)::(10,.v undef)::(11,.v undef)::(12,vb false)::(13,vb false)::(14,.ptr 1 1)::(15,vi b.Number)::(16,vb (decide (b.Number < 1)))::(17,vb (decide (b.Number < 1)))::(18,vb false)::(19,.ptr 1 1)::(20,vi b.Number)::(21,vb (decide (65535 < b.Number)))::(22,vb (decide (65535 < b.Number)))::[]) [0,1] [0,1,19] (zq [1] 2 5::zq [2,1] 3 6::zq [3] 4 7::zq [4] 5 8::zq [5] 6 9::zq [5] 7 10::zq [5] 8 11::zq [5] 9 12::zq [9] 10 13::zq [10,1] 11 14::zq [10,11,1] 12 15::zq [10,12] 13 16::zq [10,13] 14 17::zq [14] 15 18::zq [15,1] 16 19::zq [15,16,1] 17 20::zq [15,17] 18 21::zq [15,18] 19 22::[]) [(_,_),(_,_),(_,_)] rfl ⟨zp rfl (oF underlying24 rfl sz3),zp rfl (oL underlying3 rfl),z4 rfl rfl,z8 hg1_3 rfl,zt rfl,zt rfl,zt rfl,z3 false rfl,z1 rfl,zr' rfl (oF underlying24 rfl sz3),zr' rfl (oL underlying3 rfl),zr' rfl (oB rfl rfl),z3 false rfl,z8 hg1_13 rfl,zr' rfl (oF underlying24 rfl sz3),zr' rfl (oL underlying3 rfl),zr' rfl (oB rfl rfl),z3 false rfl,zz⟩ ?_
     exact hl3 _ (zi h).symm
theorem ok_path_Text (mx : Int) (p : T_Path) (r : (ByteArray × Int)) (h : Sh.path_Text p = some r) : FnG Tryz.prog (GL mx) 50 [.agg [.v (.bool p.Null), .v (.string p.Local), .v (.string p.Domain)]] (.tup [.v (.string r.1), .v (.int .i64 r.2)]) := by
  unfold Sh.path_Text at h
  refine fn_okG func50 rfl (zl rfl) rfl rfl fun g0 hn hio => ?_
  refine zgg hn [_,_,(1,.box 43 [vb p.Null,vs p.Local,vs p.Domain]),(2,vs z0),(3,vi 0)] [0,1] [1,2] [zq [0] 2 1,zq [] 3 2,zq [] 4 3] [(_,_),(_,_)] rfl ⟨zp rfl (op_box _ _ _ _ rfl rfl rfl),z2 rfl,z2 rfl,zz⟩ ?_
  refine ht_seq ?_
  refine ht_seq ?_
  obtain ⟨v1, hv1, h⟩ := zn h
  refine zg hn [_,_,(5,.agg [vb p.Null,vs p.Local,vs p.Domain]),(6,vi v1),(4,vi v1)] [0,1] [0,1,4] [zq [1] 2 5,zq [2,0] 3 6,zq [3] 4 4] [(_,_),(_,_),(_,_)] rfl ⟨zp rfl (op_loadA _ _ _ _ _ _ _ underlying43 rfl sz43 rfl rfl (zl rfl) rfl rfl),zp rfl (op_callG _ _ 20 68 _ _ rfl call68 rfl rfl (fun _ h => h) (ok_path_Check mx p _ hv1) rfl rfl),z2 rfl,zz⟩ ?_
  refine pt_then ?_
  refine zgg hn [_,_,_,(7,vi v1),(8,vb (v1 != 0))] [0,1,2] [0,1,2,4] [zq [2] 3 7,zq [3] 4 8] [(_,_),(_,_),(_,_),(_,_)] rfl ⟨z1 rfl,z4 rfl rfl,zz⟩ ?_
  refine ht_cond _ rfl (fun hb2 => ?_) (fun hb2 => ?_)
  ·have h := cond_t hb2 h
   refine zgg hn [_,_,_,_,(9,vi v1),(2,vs z0),(3,vi v1)] [0,1,2,3] [0,5,6] [zq [2] 4 9,zq [] 5 2,zq [4] 6 3] [(_,_),(_,_),(_,_)] rfl ⟨z1 rfl,z2 rfl,z2 rfl,zz⟩ ?_
   refine ht_ret ?_
   refine pt_pick [1, 2] (by kernel_rfl) (es' := [(_,_),(_,_)]) rfl ?_
   refine pt_r_then ?_
   obtain rfl := zi h
   exact pt_ret hio rfl (.tmp _ _ (.tmp _ _ .nil)) rfl rfl
  ·have h := cond_f hb2 h
   refine ht_skip ?_
   refine pt_then (ht_seq ?_)
   refine zgg hn [_,_,_,_,(10,.ptr 1 0),(11,vb p.Null)] [0,1,2,3] [0,1,5] [zq [1] 4 10,zq [4,1] 5 11] [(_,_),(_,_),(_,_)] rfl ⟨zp rfl (oF underlying43 rfl sz4),zp rfl (oL underlying4 rfl),zz⟩ ?_
   refine ht_cond _ rfl (fun hb3 => ?_) (fun hb3 => ?_)
   ·have h := cond_t hb3 h
    refine zgg hn [_,_,_,(2,vs (⟨#[60,62]⟩ : ByteArray)),(3,vi 0)] [0,1,2] [0,3,4] [zq [] 3 2,zq [] 4 3] [(_,_),(_,_),(_,_)] rfl ⟨z2 rfl,z2 rfl,zz⟩ ?_
    refine ht_ret ?_
    refine pt_pick [1, 2] (by kernel_rfl) (es' := [(_,_),(_,_)]) rfl ?_
    refine pt_r_then ?_
    obtain rfl := zi h
    exact pt_ret hio rfl (.tmp _ _ (.tmp _ _ .nil)) rfl rfl
   ·have h := cond_f hb3 h
    refine ht_skip ?_
    refine pt_then (ht_seq ?_)
    obtain ⟨v4, hv4, h⟩ := zn h
    obtain ⟨v5, hv5, h⟩ := zn h
    obtain ⟨v6, hv6, h⟩ := zn h
    obtain ⟨v7, hv7, h⟩ := zn h
    refine zg hn [_,_,_,(12,.ptr 1 1),(13,vs p.Local),(14,vs v4),(15,vs v5),(16,.ptr 1 2),(17,vs p.Domain),(18,vs v6),(19,vs v7),(2,vs v7),(3,vi 0)] [0,1,2] [0,11,12] [zq [1] 3 12,zq [3,1] 4 13,zq [4] 5 14,zq [5] 6 15,zq [1] 7 16,zq [7,1] 8 17,zq [6,8] 9 18,zq [9] 10 19,zq [10] 11 2,zq [] 12 3] [(_,_),(_,_),(_,_)] rfl ⟨zp rfl (oF underlying43 rfl sz9),zp rfl (oL underlying9 rfl),zp rfl (oB rfl (cat_ok hv4)),zp rfl (oB rfl (cat_ok hv5)),zp rfl (oF underlying43 rfl sz9),zp rfl (oL underlying9 rfl),zp rfl (oB rfl (cat_ok hv6)),zp rfl (oB rfl (cat_ok hv7)),z2 rfl,z2 rfl,zz⟩ ?_
    refine pt_then (ht_ret ?_)
    refine pt_pick [1, 2] (by kernel_rfl) (es' := [(_,_),(_,_)]) rfl ?_
    obtain rfl := zi h
    exact pt_ret hio rfl (.tmp _ _ (.tmp _ _ .nil)) rfl rfl
theorem ok_bundle_commands_1_clo (mx : Int) (word : ByteArray) (p : T_Path) (cap : (List Int)) (r : (List Int)) (h : Sh.bundle_commands_1_clo word p cap = some r) : FnPG Tryz.prog (GL mx) 49 [.v (.string word), .agg [.v (.bool p.Null), .v (.string p.Local), .v (.string p.Domain)], .box 25 [.fl (.own 5) 1 (map (int .u8) cap)]] [.v (.string word), .agg [.v (.bool p.Null), .v (.string p.Local), .v (.string p.Domain)], .box 25 [.fl (.own 5) 1 (map (int .u8) r)]] (.tup []) := by
  unfold Sh.bundle_commands_1_clo at h
  refine fn_okPG func49 rfl (zl rfl) rfl (zl rfl) fun args0 hargs0 g0 hn hio => ?_
  refine zgg hn [_,_,_,_,_,_,_,(4,.box 43 [vb p.Null,vs p.Local,vs p.Domain])] [0,1,2,3,4,5,6] [0,1,2,3,4,5,6,7] [zq [1] 7 4] [(_,_),(_,_),(_,_),(_,_),(_,_),(_,_),(_,_),(_,_)] rfl ⟨zp rfl (op_box _ _ _ _ rfl rfl rfl),zz⟩ ?_
  refine ht_seq ?_
  obtain ⟨v1, hv1, h⟩ := zn h
  refine zg hn (_::_::_::_::_::_::_::_::(8,.agg [vb p.Null,vs p.Local,vs p.Domain])::(9,.tup [vs v1.1,vi v1.2])::(7,.tup [vs v1.1,vi v1.2])::(10,vs v1.1)::(11,vi v1.2)::(5,vs v1.1)::(6,vi v1.2)::[]) [0,1,2,3,4,5,6,7] [0,1,2,3,4,5,6,13] [zq [7] 8 8,zq [8,6] 9 9,⟨[],[9],[10],[(.slot 7)]⟩,zq [10] 11 10,zq [10] 12 11,zq [11] 13 5,zq [12] 14 6] [(_,_),(_,_),(_,_),(_,_),(_,_),(_,_),(_,_),(_,_)] rfl ⟨zp rfl (op_loadA _ _ _ _ _ _ _ underlying43 rfl sz43 rfl rfl (zl rfl) rfl rfl),zp rfl (op_callG _ _ 18 50 _ _ rfl call50 rfl rfl (fun _ h => h) (ok_path_Text mx p _ hv1) rfl rfl),zp rfl (op_move_take _ _ _ _ rfl),zp rfl (oE rfl),zp rfl (oE rfl),z2 rfl,z2 rfl,zz⟩ ?_
  refine pt_then ?_
  obtain ⟨v2, hv2, h⟩ := zn h
  obtain ⟨v3, hv3, h⟩ := zn h
  obtain ⟨v4, hv4, h⟩ := zn h
  refine zg hn (_::_::_::_::_::_::_::_::(12,.same (.cell 2 0))::(13,vs word)::(14,vs v1.1)::(15,vs v2)::(16,vs v3)::(17,.fl (.own 5) 1 (map (int .u8) v4))::(2,.box 25 [.any])::(2,.box 25 [.fl (.own 5) 1 (map (int .u8) v4)])::[]) [0,1,2,3,4,5,6,7] [0,1,15,3,4,5,6] [zq [2] 8 12,zq [0] 9 13,zq [7] 10 14,zq [9,10] 11 15,zq [11] 12 16,⟨[8,12],[2],[14,13],[(.slot 17)]⟩,⟨[],[8,13,14],[15],[.cell 2 0]⟩] [(_,_),(_,_),(_,_),(_,_),(_,_),(_,_),(_,_)] rfl ⟨zp rfl (oL underlying25 rfl),z1 rfl,z1 rfl,zp rfl (oB rfl (cat_ok hv2)),zp rfl (oB rfl (cat_ok hv3)),zp rfl (op_apps_cell _ _ _ _ _ _ el25 zr5 underlying9 rfl rfl (zl rfl) rfl rfl hv4 rfl (Nat.ne_of_beq_eq_false rfl) rfl rfl),zp rfl (LOp.drop [_] (op_store_take _ _ _ _ _ _ _ _ sz25 rfl rfl rfl (zl rfl) rfl rfl)),zz⟩ ?_
  refine pt_pick [0, 1, 2, 3, 4, 5] (by kernel_rfl) (es' := [(_,_),(_,_),(_,_),(_,_),(_,_),(_,_)]) rfl ?_
  obtain rfl := zi h
  exact pt_endP (es := []) (posts := [.v (.string word), .agg [.v (.bool p.Null), .v (.string p.Local), .v (.string p.Domain)], .box 25 [.fl (.own 5) 1 (map (int .u8) v4)]]) hio rfl rfl .nil rfl rfl hargs0 rfl
theorem ok_bytes_Equal (a : (List Int)) (b : (List Int)) (r : Bool) (h : Sh.bytes_Equal a b = some r) : FnOK Tryz.prog 37 [.fl .shr 1 (map (int .u8) a), .fl .shr 1 (map (int .u8) b)] (.v (.bool r)) := by
  unfold Sh.bytes_Equal at h
  refine fn_ok func37 rfl (zl rfl) rfl rfl fun g0 hn hio => ?_
  refine zgg hn [_,_,(4,vb false)] [0,1] [0,1] [zq [] 2 4] [(_,_),(_,_)] rfl ⟨z2 rfl,zz⟩ ?_
  refine ht_seq ?_
  obtain ⟨v1, hv1, h⟩ := zn h
  obtain ⟨v2, hv2, h⟩ := zn h
  refine zg hn [_,_,(5,.fl .shr 1 (map (int .u8) a)),(6,vs v1),(7,.fl .shr 1 (map (int .u8) b)),(8,vs v2),(9,vb (v1.toList == v2.toList)),(4,vb (v1.toList == v2.toList))] [0,1] [7] [zq [0] 2 5,zq [2] 3 6,zq [1] 4 7,zq [4] 5 8,zq [3,5] 6 9,zq [6] 7 4] [(_,_)] rfl ⟨z1 rfl,zp rfl ((Option.some.inj hv1) ▸ op_bytes_str _ _ _ a underlying25 underlying9 underlying5 rfl),z1 rfl,zp rfl ((Option.some.inj hv2) ▸ op_bytes_str _ _ _ b underlying25 underlying9 underlying5 rfl),z4 rfl rfl,z2 rfl,zz⟩ ?_
  refine pt_then (ht_ret ?_)
  obtain rfl := zi h
  exact pt_ret hio rfl (.tmp _ _ .nil) rfl rfl
theorem ok_bytes_HasPrefix (s : (List Int)) (prefix_ : (List Int)) (r : Bool) (h : Sh.bytes_HasPrefix s prefix_ = some r) : FnOK Tryz.prog 70 [.fl .shr 1 (map (int .u8) s), .fl .shr 1 (map (int .u8) prefix_)] (.v (.bool r)) := by
  unfold Sh.bytes_HasPrefix at h
  refine fn_ok func70 rfl (zl rfl) rfl rfl fun g0 hn hio => ?_
  refine zgg hn [_,_,(4,vb false)] [0,1] [0,1] [zq [] 2 4] [(_,_),(_,_)] rfl ⟨z2 rfl,zz⟩ ?_
  refine ht_seq ?_
  refine ht_joinS h (fun (s3 : Bool) => [(4, .v (.bool s3))]) ?_ ?_
  ·rintro s3 h
   refine pt_then (ht_ret ?_)
   obtain rfl := zi h
   exact pt_ret hio rfl (.tmp _ _ .nil) rfl rfl
  ·intro u4 h hl5 hr6
   refine cond_some h (fun hg1_5 h => ?_) (fun hg1_5 h => ?_)
   ·obtain ⟨v1, hv1, h⟩ := zn h
    obtain ⟨v2, hv2, h⟩ := zn h
    refine zg hn (_::_::(5,.fl .shr 1 (map (int .u8) s))::(6,vi (s.length : Int))::(7,.fl .shr 1 (map (int .u8) prefix_))::(8,vi (prefix_.length : Int))::(9,vb (decide ((prefix_.length : Int) ≤ (s.length : Int))))::(10,vb true)::(11,.fl .shr 1 (map (int .u8) s))::(12,.fl .shr 1 (map (int .u8) prefix_))::(13,vi (prefix_.length : Int))::(14,.fl .shr 1 (map (int .u8) v1))::(15,.fl .shr 1 (map (int .u8) prefix_))::(16,vb v2)::(17,vb v2)::(4,vb v2)::[]) [0,1] [15] [zq [0] 2 5,zq [2] 3 6,zq [1] 4 7,zq [4] 5 8,zq [3,5] 6 9,zq [6] 7 10,zq [7,0] 8 11,zq [7,1] 9 12,zq [7,9] 10 13,zq [7,8,10] 11 14,zq [7,1] 12 15,zq [7,11,12] 13 16,zq [7,13] 14 17,zq [14] 15 4] [(_,_)] rfl ⟨z1 rfl,zp rfl (op_len_fl _ _ _ underlying25 rfl (by decide) (map_len _)),z1 rfl,zp rfl (op_len_fl _ _ _ underlying25 rfl (by decide) (map_len _)),z4 rfl rfl,z8 hg1_5 rfl,zr' rfl (oM rfl),zr' rfl (oM rfl),zr' rfl (op_len_fl _ _ _ underlying25 rfl (by decide) (map_len _)),zr' rfl (op_sl _ _ _ 0 (prefix_.length : Int) _ underlying25 sz5 rfl rfl rfl ⟨_, rfl⟩ hv1),zr' rfl (oM rfl),zr' rfl (op_call _ _ 37 _ _ rfl call37 rfl (ok_bytes_Equal v1 prefix_ _ hv2) rfl rfl),z3 true rfl,z2 rfl,zz⟩ ?_
    exact hl5 _ (zi h).symm
   ·refine zg hn (_::_::(5,.fl .shr 1 (map (int .u8) s))::(6,vi (s.length : Int))::(7,.fl .shr 1 (map (int .u8) prefix_))::(8,vi (prefix_.length : Int))::(9,vb (decide ((prefix_.length : Int) ≤ (s.length : Int))))::(10,vb false)::(11,.v undef)::(12,.v undef)::(13,.v undef)::(14,.v undef)::(15,.v undef)::(16,.v undef)::(17,vb false)::(4,vb false)::[]) [0,1] [15] [zq [0] 2 5,zq [2] 3 6,zq [1] 4 7,zq [4] 5 8,zq [3,5] 6 9,zq [6] 7 10,zq [7] 8 11,zq [7] 9 12,zq [7] 10 13,zq [7] 11 14,zq [7] 12 15,zq [7] 13 16,zq [7] 14 17,zq [14] 15 4] [(_,_)] rfl ⟨z1 rfl,zp rfl (op_len_fl _ _ _ underlying25 rfl (by decide) (map_len _)),z1 rfl,zp rfl (op_len_fl _ _ _ underlying25 rfl (by decide) (map_len _)),z4 rfl rfl,z8 hg1_5 rfl,zt rfl,zt rfl,zt rfl,zt rfl,zt rfl,zt rfl,z3 false rfl,z2 rfl,zz⟩ ?_
    exact hl5 _ (zi h).symm
theorem ok_dots_Stuff (mx : Int) (b : (List Int)) (r : ((List Int) × Int)) (h : Sh.dots_Stuff b = some r) : FnG Tryz.prog (GL mx) 51 [.fl .shr 1 (map (int .u8) b)] (.tup [.fl (.own 5) 1 (map (int .u8) r.1), .v (.int .i64 r.2)]) := by
  unfold Sh.dots_Stuff at h
  refine fn_okG func51 rfl (zl rfl) rfl rfl fun g0 hn hio => ?_
  refine zgg hn [_,_,(2,.v (.slice none 0 0)),(3,vi 0)] [0,1] [0,1] [zq [] 2 2,zq [] 3 3] [(_,_),(_,_)] rfl ⟨z2 rfl,z2 rfl,zz⟩ ?_
  refine ht_seq ?_
  refine ht_seq ?_
  obtain ⟨v1, hv1, h⟩ := zn h
  refine zg hn [_,_,(7,.fl .shr 1 (map (int .u8) b)),(8,vi v1),(4,vi v1)] [0,1] [0,1,4] [zq [0] 2 7,zq [2,1] 3 8,zq [3] 4 4] [(_,_),(_,_),(_,_)] rfl ⟨z1 rfl,zp rfl (op_callG _ _ 28 65 _ _ rfl call65 rfl rfl (fun _ h => h) (ok_dots_Check mx b _ hv1) rfl rfl),z2 rfl,zz⟩ ?_
  refine pt_then ?_
  refine zgg hn [_,_,_,(9,vi v1),(10,vb (v1 != 0))] [0,1,2] [0,1,2,4] [zq [2] 3 9,zq [3] 4 10] [(_,_),(_,_),(_,_),(_,_)] rfl ⟨z1 rfl,z4 rfl rfl,zz⟩ ?_
  refine ht_cond _ rfl (fun hb2 => ?_) (fun hb2 => ?_)
  ·have h := cond_t hb2 h
   refine zgg hn [_,_,_,_,(11,vi v1),(2,.v (.slice none 0 0)),(3,vi v1)] [0,1,2,3] [1,5,6] [zq [2] 4 11,zq [] 5 2,zq [4] 6 3] [(_,_),(_,_),(_,_)] rfl ⟨z1 rfl,z2 rfl,z2 rfl,zz⟩ ?_
   refine ht_ret ?_
   refine pt_pick [1, 2] (by kernel_rfl) (es' := [(_,_),(_,_)]) rfl ?_
   refine pt_sub (fs := [(2, .fl (.own 5) 1 (map (int .u8) [])), (3, .v (.int .i64 v1))]) (.sub _ (sub_nil 5 1) rfl (.same _ .nil)) ?_
   refine pt_r_then ?_
   obtain rfl := zi h
   exact pt_ret hio rfl (.tmp _ _ (.tmp _ _ .nil)) rfl rfl
  ·have h := cond_f hb2 h
   refine ht_skip ?_
   refine pt_then ?_
   refine zgg hn [_,_,_,_,(5,.box 25 [.v (.slice none 0 0)])] [0,1,2,3] [0,1,4] [zq [] 4 5] [(_,_),(_,_),(_,_)] rfl ⟨zp rfl (op_alloc _ _ zr25),zz⟩ ?_
   refine ht_seq ?_
   refine ht_seq ?_
   obtain ⟨v3, hv3, h⟩ := zn h
   refine zg hn [_,_,_,(12,.fl .shr 1 (map (int .u8) b)),(13,.cloB 89 [.box 25 [.fl .shr 1 (map (int .u8) v3)]])] [0,1,2] [1,2,4] [zq [0] 3 12,zq [3] 4 13] [(_,_),(_,_),(_,_)] rfl ⟨z1 rfl,zp rfl (op_callS _ _ 69 _ _ rfl call69 rfl rfl (ok_dots_lines b _ hv3) rfl),zz⟩ ?_
   refine pt_then ?_
   refine ht_block ?_
   refine ht_pick [2, 0, 1] (by kernel_rfl) (es' := [(13, .cloB 89 [.box 25 [.fl .shr 1 (map (int .u8) v3)]]), (28, .glob (GL mx)), (5, .box 25 [.v (.slice none 0 0)])]) rfl ?_
   refine ht_sub (fs := [(13, .cloB 89 [.box 25 [.fl .shr 1 (map (int .u8) v3)]]), (28, .glob (GL mx)), (5, .box 25 [.fl (.own 5) 1 (map (int .u8) [])])]) (.same _ (.same _ (.box _ _ (subs_cons (sub_nil 5 1) (subs_nil)) rfl .nil))) ?_
   refine ht_rangeF h 89 13 14 29 _ [28, 5] call89 (fun (s21 : (List Int)) => [(28, .glob (GL mx)), (5, .box 25 [.fl (.own 5) 1 (map (int .u8) s21)])]) (fun (() : Unit) => []) (fun l J Y hY t t' h => ok_dots_lines_1 mx l J Y hY v3 t t' h) hn rfl (fun _ => rfl) (fun _ => rfl) (fun _ => rfl) rfl rfl (fun _ => ⟨rfl, rfl⟩) rfl (glIn_look 28 rfl) ?_ ?_ ?_
   ·rintro kk g0 hn hio x s21 u h
    refine ht_es (es' := [(14, .fl .shr 1 (map (int .u8) x)), (28, .glob (GL mx)), (5, .box 25 [.fl (.own 5) 1 (map (int .u8) s21)]), (28, .v (kk.tm.getD 28 undef)), (5, .v (kk.tm.getD 5 undef)), (29, .inv kk.ready)]) rfl ?_
    refine zg hn [_,_,_,_,_,_,(6,.fl .shr 1 (map (int .u8) x))] [0,1,2,3,4,5] [1,2,3,4,5,6] [zq [0] 6 6] [(_,_),(_,_),(_,_),(_,_),(_,_),(_,_)] rfl ⟨z2 rfl,zz⟩ ?_
    refine pt_pick [0, 1, 2, 3, 5, 4] (by kernel_rfl) (es' := [(28, .glob (GL mx)), (5, .box 25 [.fl (.own 5) 1 (map (int .u8) s21)]), (28, .v (kk.tm.getD 28 undef)), (5, .v (kk.tm.getD 5 undef)), (6, .fl .shr 1 (map (int .u8) x)), (29, .inv kk.ready)]) rfl ?_
    refine pt_begin (es := [(28, .glob (GL mx)), (5, .box 25 [.fl (.own 5) 1 (map (int .u8) s21)]), (28, .v (kk.tm.getD 28 undef)), (5, .v (kk.tm.getD 5 undef)), (6, .fl .shr 1 (map (int .u8) x))]) 29 rfl ?_
    refine ht_block ?_
    refine ht_seq ?_
    refine ht_joinS h (fun (s29 : (List Int)) => [(28, .glob (GL mx)), (5, .box 25 [.fl (.own 5) 1 (map (int .u8) s29)]), (28, .v (kk.tm.getD 28 undef)), (5, .v (kk.tm.getD 5 undef)), (6, .fl .shr 1 (map (int .u8) x)), (29, .inv kk.busy)]) ?_ ?_
    ·rintro s29 h
     refine pt_then (ht_seq ?_)
     obtain ⟨v12, hv12, h⟩ := zn h
     refine zg hn [_,_,_,_,_,_,(21,.same (.cell 5 0)),(22,.fl .shr 1 (map (int .u8) x)),(23,.fl (.own 5) 1 (map (int .u8) v12)),(5,.box 25 [.any]),(5,.box 25 [.fl (.own 5) 1 (map (int .u8) v12)])] [0,1,2,3,4,5] [0,10,2,3,5] [zq [1] 6 21,zq [4] 7 22,⟨[6,7],[1],[9,8],[(.slot 23)]⟩,⟨[],[6,8,9],[10],[.cell 5 0]⟩] [(_,_),(_,_),(_,_),(_,_),(_,_)] rfl ⟨zp rfl (oL underlying25 rfl),z1 rfl,zp rfl (op_app_cell _ _ _ _ _ _ el25 rfl rfl (zl rfl) rfl (map_len _) (map_len _) hv12 ((List.map_append).symm.trans (congrArg (map _) (app_eq hv12))) (Nat.ne_of_beq_eq_false rfl) rfl rfl),zp rfl (LOp.drop [_] (op_store_take _ _ _ _ _ _ _ _ sz25 rfl rfl rfl (zl rfl) rfl rfl)),zz⟩ ?_
     refine pt_then ?_
     obtain ⟨v13, hv13, h⟩ := zn h
     refine zg hn [_,_,_,_,_,(24,.same (.cell 5 0)),(25,.fl (.own 5) 1 (map (int .u8) v13)),(5,.box 25 [.any]),(5,.box 25 [.fl (.own 5) 1 (map (int .u8) v13)])] [0,1,2,3,4] [0,8,2,3,4] [zq [1] 5 24,⟨[5],[1],[7,6],[(.slot 25)]⟩,⟨[],[5,6,7],[8],[.cell 5 0]⟩] [(_,_),(_,_),(_,_),(_,_),(_,_)] rfl ⟨zp rfl (oL underlying25 rfl),zp rfl (op_apps_cell _ _ _ _ _ _ el25 zr5 underlying9 rfl rfl (zl rfl) rfl rfl hv13 rfl (Nat.ne_of_beq_eq_false rfl) rfl rfl),zp rfl (LOp.drop [_] (op_store_take _ _ _ _ _ _ _ _ sz25 rfl rfl rfl (zl rfl) rfl rfl)),zz⟩ ?_
     refine pt_inb ?_
     obtain rfl := zi h
     exact pt_rnext 29 [28, 5] _ rfl rfl (by kernel_rfl)
    ·intro u30 h hl31 hr32
     refine ht_seq ?_
     obtain ⟨v4, hv4, h⟩ := zn h
     refine zg hn [_,_,_,_,_,_,(15,.fl .shr 1 (map (int .u8) x)),(16,.fl (.own 5) 1 (map (int .u8) [46])),(17,.fl .ro 1 (map (int .u8) [46])),(18,vb v4)] [0,1,2,3,4,5] [0,1,2,3,4,5,9] [zq [4] 6 15,zq [] 7 16,⟨[],[7],[8],[(.slot 17)]⟩,zq [6,8] 9 18] [(_,_),(_,_),(_,_),(_,_),(_,_),(_,_),(_,_)] rfl ⟨z1 rfl,zp rfl (op_buildSlice _ _ 1 (.int .u8 0) (map (int .u8) [46]) [(0, .int .u8 46)] underlying25 sz5 zr5 (fun _ V w o a hv hes => by simp only [List.map_toArray, List.map_cons, List.map_nil]; try rfl) (litfill (by simp [Instr.fill, Value.cells]; rfl) (by simp [List.range, List.range.loop] <;> rfl)) (by simp [Value.oneCell']) rfl (by decide) (by decide) (by decide)),zp rfl (op_conv_mark _ _ _ underlying25 underlying5 (by intro h; cases h)),zp rfl (op_call _ _ 70 _ _ rfl call70 rfl (ok_bytes_HasPrefix x [46] _ hv4) rfl rfl),zz⟩ ?_
     refine pt_then ?_
     refine ht_cond _ rfl (fun hb33 => ?_) (fun hb33 => ?_)
     ·have h := cond_t hb33 h
      obtain ⟨v6, hv6, h⟩ := zn h
      refine zg hn [_,_,_,_,_,_,_,(19,.same (.cell 5 0)),(20,.fl (.own 5) 1 (map (int .u8) v6)),(5,.box 25 [.any]),(5,.box 25 [.fl (.own 5) 1 (map (int .u8) v6)])] [0,1,2,3,4,5,6] [0,10,2,3,4,5] [zq [1] 7 19,⟨[7],[1],[9,8],[(.slot 20)]⟩,⟨[],[7,8,9],[10],[.cell 5 0]⟩] [(_,_),(_,_),(_,_),(_,_),(_,_),(_,_)] rfl ⟨zp rfl (oL underlying25 rfl),zp rfl (op_apps_cell _ _ _ _ _ _ el25 zr5 underlying9 rfl rfl (zl rfl) rfl rfl hv6 rfl (Nat.ne_of_beq_eq_false rfl) rfl rfl),zp rfl (LOp.drop [_] (op_store_take _ _ _ _ _ _ _ _ sz25 rfl rfl rfl (zl rfl) rfl rfl)),zz⟩ ?_
      exact hl31 _ (zi h).symm
     ·have h := cond_f hb33 h
      refine ht_skip ?_
      refine pt_pick [0, 1, 2, 3, 4, 5] (by kernel_rfl) (es' := [(_,_),(_,_),(_,_),(_,_),(_,_),(_,_)]) rfl ?_
      exact hl31 _ (zi h).symm
   ·rintro D s21 h
    refine pt_inb ?_
    refine pt_then (ht_seq ?_)
    obtain ⟨v34, hv34, h⟩ := zn h
    refine zg hn [_,_,(26,.same (.cell 5 0)),(27,.fl (.own 5) 1 (map (int .u8) v34)),(5,.box 25 [.any]),(2,.fl (.own 5) 1 (map (int .u8) v34)),(3,vi 0)] [0,1] [0,5,6] [zq [1] 2 26,⟨[2],[1],[4,3],[(.slot 27)]⟩,⟨[],[3],[5],[(.slot 2)]⟩,zq [] 6 3] [(_,_),(_,_),(_,_)] rfl ⟨zp rfl (oL underlying25 rfl),zp rfl (op_apps_cell _ _ _ _ _ _ el25 zr5 underlying9 rfl rfl (zl rfl) rfl rfl hv34 rfl (Nat.ne_of_beq_eq_false rfl) rfl rfl),zp rfl (op_assign_take _ _ _ _ rfl),z2 rfl,zz⟩ ?_
    refine pt_then (ht_ret ?_)
    refine pt_pick [1, 2] (by kernel_rfl) (es' := [(_,_),(_,_)]) rfl ?_
    obtain rfl := zi h
    exact pt_ret hio rfl (.tmp _ _ (.tmp _ _ .nil)) rfl rfl
   ·rintro D ⟨⟩ h
    cases h
theorem ok_bundle_commands (mx : Int) (mails : (List T_Mail)) (r : (List Int)) (h : Sh.bundle_commands mails = some r) : FnG Tryz.prog (GL mx) 30 [.fr .shr true 8 (flatten (map T_Mail.ienc mails))] (.fl (.own 5) 1 (map (int .u8) r)) := by
  unfold Sh.bundle_commands at h
  refine fn_okG func30 rfl (zl rfl) rfl rfl fun g0 hn hio => ?_
  refine zgg hn [_,_,(2,.v (.slice none 0 0))] [0,1] [0,1] [zq [] 2 2] [(_,_),(_,_)] rfl ⟨z2 rfl,zz⟩ ?_
  refine zgg hn [_,_,(3,.box 25 [.v (.slice none 0 0)])] [0,1] [0,1,2] [zq [] 2 3] [(_,_),(_,_),(_,_)] rfl ⟨zp rfl (op_alloc _ _ zr25),zz⟩ ?_
  refine zgg hn [_,_,_,(11,.clo 49 [3]),(4,.clo 49 [3])] [0,1,2] [0,1,2,4] [zq [] 3 11,zq [3,2] 4 4] [(_,_),(_,_),(_,_),(_,_)] rfl ⟨zp rfl (op_makeFunc_name _ _ _ 3 (by decide)),z2 rfl,zz⟩ ?_
  refine ht_seq ?_
  refine zgg hn [_,_,_,_,(12,.fr .shr true 8 (flatten (map T_Mail.ienc mails))),(13,vi (mails.length : Int)),(14,vi 0)] [0,1,2,3] [1,2,3,4,5,6] [zq [0] 4 12,zq [4] 5 13,zq [] 6 14] [(_,_),(_,_),(_,_),(_,_),(_,_),(_,_)] rfl ⟨z1 rfl,zp rfl (op_len_fr _ _ _ underlying22 rfl (by decide) (gflat_len T_Mail.ilen _)),z1 rfl,zz⟩ ?_
  refine ht_sub (fs := [(47, .glob (GL mx)), (3, .box 25 [.fl (.own 5) 1 (map (int .u8) [])]), (4, .clo 49 [3]), (12, .fr .shr true 8 (flatten (map T_Mail.ienc mails))), (13, .v (.int .i64 (mails.length : Int))), (14, .v (.int .i64 0))]) (.same _ (.box _ _ (subs_cons (sub_nil 5 1) (subs_nil)) rfl (.same _ (.same _ (.same _ (.same _ .nil)))))) ?_
  refine ht_loopS h (fun ((s46, s47) : (List Int) × Int) => [(47, .glob (GL mx)), (3, .box 25 [.fl (.own 5) 1 (map (int .u8) s46)]), (4, .clo 49 [3]), (12, .fr .shr true 8 (flatten (map T_Mail.ienc mails))), (13, .v (.int .i64 (mails.length : Int))), (14, .v (.int .i64 s47))]) (fun (s64 : (List Int)) => [(47, .glob (GL mx)), (3, .box 25 [.fl (.own 5) 1 (map (int .u8) s64)])]) ?_ ?_
  ·rintro s64 h
   refine pt_then (ht_seq ?_)
   obtain ⟨v87, hv87, h⟩ := zn h
   refine zg hn [_,_,(45,.same (.cell 3 0)),(46,.fl (.own 5) 1 (map (int .u8) v87)),(3,.box 25 [.any]),(2,.fl (.own 5) 1 (map (int .u8) v87))] [0,1] [0,5] [zq [1] 2 45,⟨[2],[1],[4,3],[(.slot 46)]⟩,⟨[],[3],[5],[(.slot 2)]⟩] [(_,_),(_,_)] rfl ⟨zp rfl (oL underlying25 rfl),zp rfl (op_apps_cell _ _ _ _ _ _ el25 zr5 underlying9 rfl rfl (zl rfl) rfl rfl hv87 rfl (Nat.ne_of_beq_eq_false rfl) rfl rfl),zp rfl (op_assign_take _ _ _ _ rfl),zz⟩ ?_
   refine pt_then (ht_ret ?_)
   refine pt_pick [1] (by kernel_rfl) (es' := [(_,_)]) rfl ?_
   obtain rfl := zi h
   exact pt_ret hio rfl (.tmp _ _ .nil) rfl rfl
  ·rintro u65 hl66 hr67 ⟨s46, s47⟩ rr70 h ho68
   refine zgg hn [_,_,_,_,_,_,(15,vb (decide (s47 < (mails.length : Int))))] [0,1,2,3,4,5] [0,1,2,3,4,5,6] [zq [5,4] 6 15] [(_,_),(_,_),(_,_),(_,_),(_,_),(_,_),(_,_)] rfl ⟨z4 rfl rfl,zz⟩ ?_
   refine ht_seq ?_
   refine ht_cond _ rfl (fun hb71 => ?_) (fun hb71 => ?_)
   ·have h := cond_t hb71 h
    refine ht_skip ?_
    refine pt_then (ht_seq ?_)
    refine ht_block ?_
    refine ht_seq ?_
    obtain ⟨v2, hv2, h⟩ := zn h
    obtain ⟨v3, hv3, h⟩ := zn h
    refine zg hn [_,_,_,_,_,_,_,(16,.eref (.slot 12) (v2 * 8)),(17,.agg [vb v3.From.Null,vs v3.From.Local,vs v3.From.Domain,.fl .shr 3 (flatten (map T_Path.enc v3.To)),.fl .shr 1 (map (int .u8) v3.Body),vb v3.Quiet,vs v3.Helo,vi v3.At]),(6,.box 46 [vb false,vs z0,vs z0,.v (.slice none 0 0),.v (.slice none 0 0),vb false,vs z0,vi 0]),(6,.box 46 [vb v3.From.Null,vs v3.From.Local,vs v3.From.Domain,.fl .shr 3 (flatten (map T_Path.enc v3.To)),.fl .shr 1 (map (int .u8) v3.Body),vb v3.Quiet,vs v3.Helo,vi v3.At])] [0,1,2,3,4,5,6] [0,1,2,3,4,5,10] [zq [3,5] 7 16,zq [7,3] 8 17,zq [] 9 6,⟨[8],[9],[10],[.cell 6 0,.cell 6 1,.cell 6 2,.cell 6 3,.cell 6 4,.cell 6 5,.cell 6 6,.cell 6 7]⟩] [(_,_),(_,_),(_,_),(_,_),(_,_),(_,_),(_,_)] rfl ⟨zp rfl (op_ix_fr _ _ _ _ _ _ _ _ underlying22 sz46 (by decide) rfl rfl rfl (ix_ok hv2).1 (gflat_lt T_Mail.ilen (ix_ok hv2).2) rfl),zp rfl (op_loadA_fr _ _ _ _ _ _ _ _ underlying46 rfl sz46 rfl rfl (gflat_get T_Mail.ilen hv3) (.cons (.v _) (.cons (.v _) (.cons (.v _) (.cons (.fl _ _ rfl) (.cons (.fl _ _ rfl) (.cons (.v _) (.cons (.v _) (.cons (.v _) (.nil))))))))) rfl (by decide)),zp rfl (op_alloc _ _ zr46),zp rfl (oS sz46 rfl),zz⟩ ?_
    refine pt_then (ht_seq ?_)
    obtain ⟨v4, hv4, h⟩ := zn h
    refine zg hn [_,_,_,_,_,_,_,(18,.clo 49 [3]),(19,.ptr 6 0),(20,.agg [vb v3.From.Null,vs v3.From.Local,vs v3.From.Domain]),(21,.tup []),(3,.box 25 [.fl (.own 5) 1 (map (int .u8) v4)])] [0,1,2,3,4,5,6] [0,11,2,3,4,5,6] [zq [2,1] 7 18,zq [6] 8 19,zq [8,6] 9 20,⟨[7,9,0],[1],[11,10],[(.slot 21),(.cell 3 0)]⟩] [(_,_),(_,_),(_,_),(_,_),(_,_),(_,_),(_,_)] rfl ⟨z1 rfl,zp rfl (oF underlying46 rfl sz43),zp rfl (op_loadA _ _ _ _ _ _ _ underlying43 rfl sz43 rfl rfl (zl rfl) rfl rfl),zp rfl (op_callLG _ _ _ 21 18 3 47 49 [_, .tmp 20] _ _ _ _ rfl call49 rfl rfl rfl (fun _ h => h) (ok_bundle_commands_1_clo mx (⟨#[77, 65, 73, 76, 32, 70, 82, 79, 77, 58]⟩ : ByteArray) (T_Path.mk v3.From.Null v3.From.Local v3.From.Domain) s46 _ hv4) rfl rfl rfl rfl rfl rfl rfl rfl),zz⟩ ?_
    refine pt_then (ht_seq ?_)
    refine zgg hn [_,_,_,_,_,_,_,(22,.ptr 6 3),(23,.fl .shr 3 (flatten (map T_Path.enc v3.To))),(24,vi (v3.To.length : Int)),(25,vi 0)] [0,1,2,3,4,5,6] [0,1,2,3,4,5,6,8,9,10] [zq [6] 7 22,zq [7,6] 8 23,zq [8] 9 24,zq [] 10 25] [(_,_),(_,_),(_,_),(_,_),(_,_),(_,_),(_,_),(_,_),(_,_),(_,_)] rfl ⟨zp rfl (oF underlying46 rfl sz44),zp rfl (oL underlying44 rfl),zp rfl (op_len_fl _ _ _ underlying44 rfl (by decide) (flat_len T_Path.len _)),z1 rfl,zz⟩ ?_
    refine ht_loopS h (fun ((s76, s77) : (List Int) × Int) => [(47, .glob (GL mx)), (3, .box 25 [.fl (.own 5) 1 (map (int .u8) s76)]), (4, .clo 49 [3]), (12, .fr .shr true 8 (flatten (map T_Mail.ienc mails))), (13, .v (.int .i64 (mails.length : Int))), (14, .v (.int .i64 s47)), (6, .box 46 [.v (.bool v3.From.Null), .v (.string v3.From.Local), .v (.string v3.From.Domain), .fl .shr 3 (flatten (map T_Path.enc v3.To)), .fl .shr 1 (map (int .u8) v3.Body), .v (.bool v3.Quiet), .v (.string v3.Helo), .v (.int .i64 v3.At)]), (23, .fl .shr 3 (flatten (map T_Path.enc v3.To))), (24, .v (.int .i64 (v3.To.length : Int))), (25, .v (.int .i64 s77))]) (fun (s79 : (List Int)) => [(47, .glob (GL mx)), (3, .box 25 [.fl (.own 5) 1 (map (int .u8) s79)]), (4, .clo 49 [3]), (12, .fr .shr true 8 (flatten (map T_Mail.ienc mails))), (13, .v (.int .i64 (mails.length : Int))), (14, .v (.int .i64 s47)), (6, .box 46 [.v (.bool v3.From.Null), .v (.string v3.From.Local), .v (.string v3.From.Domain), .fl .shr 3 (flatten (map T_Path.enc v3.To)), .fl .shr 1 (map (int .u8) v3.Body), .v (.bool v3.Quiet), .v (.string v3.Helo), .v (.int .i64 v3.At)])]) ?_ ?_
    ·rintro s79 h
     refine pt_then (ht_seq ?_)
     obtain ⟨v24, hv24, h⟩ := zn h
     refine zg hn [_,_,_,_,_,_,_,(33,.same (.cell 3 0)),(34,.fl (.own 5) 1 (map (int .u8) v24)),(3,.box 25 [.any]),(3,.box 25 [.fl (.own 5) 1 (map (int .u8) v24)])] [0,1,2,3,4,5,6] [0,10,2,3,4,5,6] [zq [1] 7 33,⟨[7],[1],[9,8],[(.slot 34)]⟩,⟨[],[7,8,9],[10],[.cell 3 0]⟩] [(_,_),(_,_),(_,_),(_,_),(_,_),(_,_),(_,_)] rfl ⟨zp rfl (oL underlying25 rfl),zp rfl (op_apps_cell _ _ _ _ _ _ el25 zr5 underlying9 rfl rfl (zl rfl) rfl rfl hv24 rfl (Nat.ne_of_beq_eq_false rfl) rfl rfl),zp rfl (LOp.drop [_] (op_store_take _ _ _ _ _ _ _ _ sz25 rfl rfl rfl (zl rfl) rfl rfl)),zz⟩ ?_
     refine pt_then (ht_seq ?_)
     obtain ⟨v25, hv25, h⟩ := zn h
     refine zg hn (_::_::_::_::_::_::_::(36,.ptr 6 4)::(37,.fl .shr 1 (map (int .u8) v3.Body))::(38,.tup [.fl (.own 5) 1 (map (int .u8) v25.1),vi v25.2])::(35,.tup [.fl (.own 5) 1 (map (int .u8) v25.1),vi v25.2])::(39,.fl (.own 5) 1 (map (int .u8) v25.1))::(35,.tup [.any,vi v25.2])::(40,vi v25.2)::(9,.fl (.own 5) 1 (map (int .u8) v25.1))::(10,vi v25.2)::[]) [0,1,2,3,4,5,6] [0,1,2,3,4,5,14] [zq [6] 7 36,zq [7,6] 8 37,zq [8,0] 9 38,⟨[],[9],[10],[(.slot 35)]⟩,⟨[],[10],[12,11],[(.slot 39)]⟩,zq [12] 13 40,⟨[],[11],[14],[(.slot 9)]⟩,zq [13] 15 10] [(_,_),(_,_),(_,_),(_,_),(_,_),(_,_),(_,_)] rfl ⟨zp rfl (oF underlying46 rfl sz25),zp rfl (oL underlying25 rfl),zp rfl (op_callG _ _ 47 51 _ _ rfl call51 rfl rfl (fun _ h => h) (ok_dots_Stuff mx v3.Body _ hv25) rfl rfl),zp rfl (op_move_take _ _ _ _ rfl),zp rfl (op_extract_take _ _ _ _ _ rfl (zl rfl) rfl rfl (by decide) rfl),zp rfl (oE rfl),zp rfl (op_assign_take _ _ _ _ rfl),z2 rfl,zz⟩ ?_
     refine pt_then ?_
     obtain ⟨v26, hv26, h⟩ := zn h
     refine zg hn [_,_,_,_,_,_,_,(41,.same (.cell 3 0)),(42,.fl (.own 5) 1 (map (int .u8) v25.1)),(43,.fl (.own 5) 1 (map (int .u8) v26)),(3,.box 25 [.any]),(3,.box 25 [.fl (.own 5) 1 (map (int .u8) v26)])] [0,1,2,3,4,5,6] [0,11,2,3,4,5] [zq [1] 7 41,⟨[],[6],[8],[(.slot 42)]⟩,⟨[7,8],[1],[10,9],[(.slot 43)]⟩,⟨[],[7,9,10],[11],[.cell 3 0]⟩] [(_,_),(_,_),(_,_),(_,_),(_,_),(_,_)] rfl ⟨zp rfl (oL underlying25 rfl),zp rfl (op_move_take _ _ _ _ rfl),zp rfl (op_app_cell _ _ _ _ _ _ el25 rfl rfl (zl rfl) rfl (map_len _) (map_len _) hv26 ((List.map_append).symm.trans (congrArg (map _) (app_eq hv26))) (Nat.ne_of_beq_eq_false rfl) rfl rfl),zp rfl (LOp.drop [_] (op_store_take _ _ _ _ _ _ _ _ sz25 rfl rfl rfl (zl rfl) rfl rfl)),zz⟩ ?_
     refine pt_inb ?_
     refine pt_then ?_
     obtain ⟨v27, hv27, h⟩ := zn h
     refine zg hn [_,_,_,_,_,_,(44,vi v27),(14,vi v27)] [0,1,2,3,4,5] [0,1,2,3,4,7] [zq [5] 6 44,⟨[6],[5],[7],[(.slot 14)]⟩] [(_,_),(_,_),(_,_),(_,_),(_,_),(_,_)] rfl ⟨zp rfl (oB rfl (ibind (f := int .i64) (Option.some.inj hv27))),zp rfl (LOp.drop [_] (oM rfl)),zz⟩ ?_
     exact pt_next _ (zi h).symm rfl
    ·rintro u80 hl81 hr82 ⟨s76, s77⟩ rr85 h ho83
     refine zgg hn [_,_,_,_,_,_,_,_,_,_,(26,vb (decide (s77 < (v3.To.length : Int))))] [0,1,2,3,4,5,6,7,8,9] [0,1,2,3,4,5,6,7,8,9,10] [zq [9,8] 10 26] [(_,_),(_,_),(_,_),(_,_),(_,_),(_,_),(_,_),(_,_),(_,_),(_,_),(_,_)] rfl ⟨z4 rfl rfl,zz⟩ ?_
     refine ht_seq ?_
     refine ht_cond _ rfl (fun hb86 => ?_) (fun hb86 => ?_)
     ·have h := cond_t hb86 h
      refine ht_skip ?_
      refine pt_then (ht_seq ?_)
      refine ht_block ?_
      refine ht_seq ?_
      obtain ⟨v6, hv6, h⟩ := zn h
      obtain ⟨v7, hv7, h⟩ := zn h
      refine zg hn (_::_::_::_::_::_::_::_::_::_::_::(27,.eref (.slot 23) (v6 * 3))::(28,.agg [vb v7.Null,vs v7.Local,vs v7.Domain])::(8,.box 43 [vb false,vs z0,vs z0])::(8,.box 43 [vb v7.Null,vs v7.Local,vs v7.Domain])::[]) [0,1,2,3,4,5,6,7,8,9,10] [0,1,2,3,4,5,6,7,8,9,14] [zq [7,9] 11 27,zq [11,7] 12 28,zq [] 13 8,⟨[12],[13],[14],[.cell 8 0,.cell 8 1,.cell 8 2]⟩] [(_,_),(_,_),(_,_),(_,_),(_,_),(_,_),(_,_),(_,_),(_,_),(_,_),(_,_)] rfl ⟨zp rfl (op_ix _ _ _ _ _ _ _ _ underlying44 sz43 (by decide) rfl rfl rfl (ix_ok hv6).1 (flat_lt T_Path.len (ix_ok hv6).2) rfl),zp rfl (op_load_eA _ _ _ _ _ _ _ underlying43 rfl sz43 rfl rfl (flat_get T_Path.len hv7) rfl (by decide)),zp rfl (op_alloc _ _ zr43),zp rfl (oS sz43 rfl),zz⟩ ?_
      refine pt_then ?_
      obtain ⟨v8, hv8, h⟩ := zn h
      refine zg hn (_::_::_::_::_::_::_::_::_::_::_::(29,.clo 49 [3])::(30,.agg [vb v7.Null,vs v7.Local,vs v7.Domain])::(31,.tup [])::(3,.box 25 [.fl (.own 5) 1 (map (int .u8) v8)])::[]) [0,1,2,3,4,5,6,7,8,9,10] [0,14,2,3,4,5,6,7,8,9] [zq [2,1] 11 29,zq [10] 12 30,⟨[11,12,0],[1],[14,13],[(.slot 31),(.cell 3 0)]⟩] [(_,_),(_,_),(_,_),(_,_),(_,_),(_,_),(_,_),(_,_),(_,_),(_,_)] rfl ⟨z1 rfl,zp rfl (op_loadA _ _ _ _ _ _ _ underlying43 rfl sz43 rfl rfl (zl rfl) rfl rfl),zp rfl (op_callLG _ _ _ 31 29 3 47 49 [_, .tmp 30] _ _ _ _ rfl call49 rfl rfl rfl (fun _ h => h) (ok_bundle_commands_1_clo mx (⟨#[82, 67, 80, 84, 32, 84, 79, 58]⟩ : ByteArray) v7 s76 _ hv8) rfl rfl rfl rfl rfl rfl rfl rfl),zz⟩ ?_
      refine pt_inb ?_
      refine pt_then ?_
      obtain ⟨v9, hv9, h⟩ := zn h
      refine zg hn [_,_,_,_,_,_,_,_,_,_,(32,vi v9),(25,vi v9)] [0,1,2,3,4,5,6,7,8,9] [0,1,2,3,4,5,6,7,8,11] [zq [9] 10 32,⟨[10],[9],[11],[(.slot 25)]⟩] [(_,_),(_,_),(_,_),(_,_),(_,_),(_,_),(_,_),(_,_),(_,_),(_,_)] rfl ⟨zp rfl (oB rfl (ibind (f := int .i64) (Option.some.inj hv9))),zp rfl (LOp.drop [_] (oM rfl)),zz⟩ ?_
      exact pt_next _ (zi h).symm rfl
     ·have h := cond_f hb86 h
      refine ht_exit ?_
      refine pt_x_then ?_
      refine pt_x_then ?_
      refine pt_x_in ?_
      refine pt_pick [0, 1, 2, 3, 4, 5, 6] (by kernel_rfl) (es' := [(_,_),(_,_),(_,_),(_,_),(_,_),(_,_),(_,_)]) rfl ?_
      exact hl81 _ (ho83 _ (zi h).symm).symm
   ·have h := cond_f hb71 h
    refine ht_exit ?_
    refine pt_x_then ?_
    refine pt_x_then ?_
    refine pt_x_in ?_
    refine pt_pick [0, 1] (by kernel_rfl) (es' := [(_,_),(_,_)]) rfl ?_
    exact hl66 _ (ho68 _ (zi h).symm).symm
theorem ok_sums_table (divisor : Int) (r : (List Int)) (h : Sh.sums_table divisor = some r) : FnOK Tryz.prog 71 [.v (.int .u32 divisor)] (.v (.agg (map (int .u32) r).toArray)) := by
  unfold Sh.sums_table at h
  refine fn_ok func71 rfl (zl rfl) rfl rfl fun g0 hn hio => ?_
  refine zgg hn [_,(2,.arr 109 (map (int .u32) ((List.replicate 16 (0 : Int)))))] [0] [0,1] [zq [] 1 2] [(_,_),(_,_)] rfl ⟨zp rfl (op_alloc_arr _ za109),zz⟩ ?_
  refine zgg hn [_,_,(3,.arr 109 (map (int .u32) ((List.replicate 16 (0 : Int)))))] [0,1] [0,1,2] [zq [] 2 3] [(_,_),(_,_),(_,_)] rfl ⟨zp rfl (op_alloc_arr _ za109),zz⟩ ?_
  refine ht_seq ?_
  refine zgg hn [_,_,_,(7,vi 0)] [0,1,2] [0,1,2,3] [zq [] 3 7] [(_,_),(_,_),(_,_),(_,_)] rfl ⟨z1 rfl,zz⟩ ?_
  refine ht_loopS h (fun ((s91, s92) : (List Int) × Int) => [(0, .v (.int .u32 divisor)), (2, .arr 109 (map (int .u32) ((List.replicate 16 (0 : Int))))), (3, .arr 109 (map (int .u32) s91)), (7, .v (.int .i64 s92))]) (fun (s133 : (List Int)) => [(2, .arr 109 (map (int .u32) ((List.replicate 16 (0 : Int))))), (3, .arr 109 (map (int .u32) s133))]) ?_ ?_
  ·rintro s133 h
   refine pt_then (ht_seq ?_)
   obtain ⟨v180, hv180, h⟩ := zn h
   obtain ⟨v181, hv181, h⟩ := zn h
   obtain ⟨v182, hv182, h⟩ := zn h
   refine zg hn [_,_,(28,.v (.agg (map (int .u32) s133).toArray)),(2,.arr 109 (map (int .u32) s133))] [0,1] [3] [zq [1] 2 28,⟨[2],[0],[3],[]⟩] [(_,_)] rfl ⟨zp rfl (op_loadA_arr _ _ _ _ underlying109 rfl (sz109.trans (congrArg some (ln_len hv180))) rfl rfl),zp rfl (op_storeA_arr _ _ _ _ (sz109.trans (congrArg some (ln_len hv182))) rfl rfl (ln_ones (fun _ => rfl) _) ((ln_len (f := int .u32) hv181).symm.trans (ln_len (f := int .u32) hv182))),zz⟩ ?_
   refine pt_then (ht_ret ?_)
   obtain ⟨v183, hv183, h⟩ := zn h
   obtain rfl := zi h
   exact pt_ret hio rfl (.cellR _ _ _ _ underlying109 rfl (sz109.trans (congrArg some (ln_len hv183))) .nil) rfl rfl
  ·rintro u134 hl135 hr136 ⟨s91, s92⟩ rr139 h ho137
   refine zgg hn [_,_,_,_,(8,vb (decide (s92 < 16)))] [0,1,2,3] [0,1,2,3,4] [zq [3] 4 8] [(_,_),(_,_),(_,_),(_,_),(_,_)] rfl ⟨z4 rfl rfl,zz⟩ ?_
   refine ht_seq ?_
   refine ht_cond _ rfl (fun hb140 => ?_) (fun hb140 => ?_)
   ·have h := cond_t hb140 h
    refine ht_skip ?_
    refine pt_then (ht_seq ?_)
    refine ht_block ?_
    refine zgg hn [_,_,_,_,_,(9,vi s92),(4,vi s92)] [0,1,2,3,4] [0,1,2,3,6] [zq [3] 5 9,zq [5] 6 4] [(_,_),(_,_),(_,_),(_,_),(_,_)] rfl ⟨z1 rfl,z2 rfl,zz⟩ ?_
    refine ht_seq ?_
    obtain ⟨v2, hv2, h⟩ := zn h
    refine zg hn [_,_,_,_,_,(10,vi s92),(11,.v (.int .u32 v2)),(5,.v (.int .u32 v2))] [0,1,2,3,4] [0,1,2,3,4,7] [zq [4] 5 10,zq [5] 6 11,zq [6] 7 5] [(_,_),(_,_),(_,_),(_,_),(_,_),(_,_)] rfl ⟨z1 rfl,zp rfl ((Option.some.inj hv2) ▸ op_conv _ _ _ underlying3 underlying86 rfl),z2 rfl,zz⟩ ?_
    refine pt_then (ht_seq ?_)
    refine zgg hn [_,_,_,_,_,_,(12,vi 0)] [0,1,2,3,4,5] [0,1,2,3,4,5,6] [zq [] 6 12] [(_,_),(_,_),(_,_),(_,_),(_,_),(_,_),(_,_)] rfl ⟨z1 rfl,zz⟩ ?_
    refine ht_loopS h (fun ((s157, s158) : Int × Int) => [(0, .v (.int .u32 divisor)), (2, .arr 109 (map (int .u32) ((List.replicate 16 (0 : Int))))), (3, .arr 109 (map (int .u32) s91)), (7, .v (.int .i64 s92)), (4, .v (.int .i64 s92)), (5, .v (.int .u32 s157)), (12, .v (.int .i64 s158))]) (fun (s166 : Int) => [(0, .v (.int .u32 divisor)), (2, .arr 109 (map (int .u32) ((List.replicate 16 (0 : Int))))), (3, .arr 109 (map (int .u32) s91)), (7, .v (.int .i64 s92)), (4, .v (.int .i64 s92)), (5, .v (.int .u32 s166))]) ?_ ?_
    ·rintro s166 h
     refine pt_then ?_
     obtain ⟨v46, hv46, h⟩ := zn h
     obtain ⟨v47, hv47, h⟩ := zn h
     refine zg hn [_,_,_,_,_,_,(24,vi s92),(25,.v (.int .u32 s166)),(26,.ptr 3 v46),(3,.arr 109 (map (int .u32) v47))] [0,1,2,3,4,5] [0,1,9,3] [zq [4] 6 24,zq [5] 7 25,zq [2,6] 8 26,⟨[8,7],[2],[9],[]⟩] [(_,_),(_,_),(_,_),(_,_)] rfl ⟨z1 rfl,z1 rfl,zp rfl (op_ix_arr _ _ _ _ 16 3 _ underlying109 sz86 rfl rfl (ix_ok hv46).1 (ix_ok hv46).2 (by decide)),zp rfl (op_store_arr _ _ _ _ _ _ sz86 rfl rfl rfl rfl (set_lt hv47) (set_eq (f := int .u32) hv47)),zz⟩ ?_
     refine pt_inb ?_
     refine pt_then ?_
     obtain ⟨v48, hv48, h⟩ := zn h
     refine zg hn [_,_,_,_,(27,vi v48),(7,vi v48)] [0,1,2,3] [0,1,2,5] [zq [3] 4 27,⟨[4],[3],[5],[(.slot 7)]⟩] [(_,_),(_,_),(_,_),(_,_)] rfl ⟨zp rfl (oB rfl (ibind (f := int .i64) (Option.some.inj hv48))),zp rfl (LOp.drop [_] (oM rfl)),zz⟩ ?_
     exact pt_next _ (zi h).symm rfl
    ·rintro u167 hl168 hr169 ⟨s157, s158⟩ rr172 h ho170
     refine zgg hn [_,_,_,_,_,_,_,(13,vb (decide (s158 < 4)))] [0,1,2,3,4,5,6] [0,1,2,3,4,5,6,7] [zq [6] 7 13] [(_,_),(_,_),(_,_),(_,_),(_,_),(_,_),(_,_),(_,_)] rfl ⟨z4 rfl rfl,zz⟩ ?_
     refine ht_seq ?_
     refine ht_cond _ rfl (fun hb173 => ?_) (fun hb173 => ?_)
     ·have h := cond_t hb173 h
      refine ht_skip ?_
      refine pt_then (ht_seq ?_)
      refine ht_joinS h (fun (s175 : Int) => [(0, .v (.int .u32 divisor)), (2, .arr 109 (map (int .u32) ((List.replicate 16 (0 : Int))))), (3, .arr 109 (map (int .u32) s91)), (7, .v (.int .i64 s92)), (4, .v (.int .i64 s92)), (12, .v (.int .i64 s158)), (5, .v (.int .u32 s175))]) ?_ ?_
      ·rintro s175 h
       refine pt_then ?_
       obtain ⟨v13, hv13, h⟩ := zn h
       refine zg hn [_,_,_,_,_,_,_,(23,vi v13),(12,vi v13)] [0,1,2,3,4,5,6] [0,1,2,3,4,6,8] [zq [5] 7 23,⟨[7],[5],[8],[(.slot 12)]⟩] [(_,_),(_,_),(_,_),(_,_),(_,_),(_,_),(_,_)] rfl ⟨zp rfl (oB rfl (ibind (f := int .i64) (Option.some.inj hv13))),zp rfl (LOp.drop [_] (oM rfl)),zz⟩ ?_
       exact pt_next _ (zi h).symm rfl
      ·intro u176 h hl177 hr178
       refine ht_block ?_
       refine ht_seq ?_
       obtain ⟨v4, hv4, h⟩ := zn h
       refine zg hn [_,_,_,_,_,_,_,_,(14,.v (.int .u32 s157)),(15,.v (.int .u32 v4)),(6,.v (.int .u32 v4))] [0,1,2,3,4,5,6,7] [0,1,2,3,4,5,6,10] [zq [5] 8 14,zq [8] 9 15,zq [9] 10 6] [(_,_),(_,_),(_,_),(_,_),(_,_),(_,_),(_,_),(_,_)] rfl ⟨z1 rfl,zp rfl (oB rfl (ibind (f := int .u32) (Option.some.inj hv4))),z2 rfl,zz⟩ ?_
       refine pt_then (ht_seq ?_)
       obtain ⟨v5, hv5, h⟩ := zn h
       refine zg hn [_,_,_,_,_,_,_,_,(16,.v (.int .u32 s157)),(17,.v (.int .u32 v5)),(5,.v (.int .u32 v5))] [0,1,2,3,4,5,6,7] [0,1,2,3,4,6,7,10] [zq [5] 8 16,zq [8] 9 17,⟨[9],[5],[10],[(.slot 5)]⟩] [(_,_),(_,_),(_,_),(_,_),(_,_),(_,_),(_,_),(_,_)] rfl ⟨z1 rfl,zp rfl (oB rfl (shr_ok hv5)),zp rfl (LOp.drop [_] (op_assign _ _ _ _ rfl rfl)),zz⟩ ?_
       refine pt_then ?_
       refine zgg hn [_,_,_,_,_,_,_,_,(18,.v (.int .u32 v4)),(19,vb (v4 == 1))] [0,1,2,3,4,5,6,7] [0,1,2,3,4,5,7,9] [zq [6] 8 18,zq [8] 9 19] [(_,_),(_,_),(_,_),(_,_),(_,_),(_,_),(_,_),(_,_)] rfl ⟨z1 rfl,z4 rfl rfl,zz⟩ ?_
       refine ht_cond _ rfl (fun hb179 => ?_) (fun hb179 => ?_)
       ·have h := cond_t hb179 h
        obtain ⟨v7, hv7, h⟩ := zn h
        refine zg hn [_,_,_,_,_,_,_,_,(20,.v (.int .u32 v5)),(21,.v (.int .u32 divisor)),(22,.v (.int .u32 v7)),(5,.v (.int .u32 v7))] [0,1,2,3,4,5,6,7] [0,1,2,3,4,5,11] [zq [6] 8 20,zq [0] 9 21,zq [8,9] 10 22,⟨[10],[6],[11],[(.slot 5)]⟩] [(_,_),(_,_),(_,_),(_,_),(_,_),(_,_),(_,_)] rfl ⟨z1 rfl,z1 rfl,zp rfl (oB rfl (ibind (f := int .u32) (Option.some.inj hv7))),zp rfl (LOp.drop [_] (op_assign _ _ _ _ rfl rfl)),zz⟩ ?_
        refine pt_inb ?_
        exact hl177 _ (zi h).symm
       ·have h := cond_f hb179 h
        refine ht_skip ?_
        refine pt_inb ?_
        refine pt_pick [0, 1, 2, 3, 4, 5, 6] (by kernel_rfl) (es' := [(_,_),(_,_),(_,_),(_,_),(_,_),(_,_),(_,_)]) rfl ?_
        exact hl177 _ (zi h).symm
     ·have h := cond_f hb173 h
      refine ht_exit ?_
      refine pt_x_then ?_
      refine pt_x_then ?_
      refine pt_x_in ?_
      refine pt_pick [0, 1, 2, 3, 4, 5] (by kernel_rfl) (es' := [(_,_),(_,_),(_,_),(_,_),(_,_),(_,_)]) rfl ?_
      exact hl168 _ (ho170 _ (zi h).symm).symm
   ·have h := cond_f hb140 h
    refine ht_exit ?_
    refine pt_x_then ?_
    refine pt_x_then ?_
    refine pt_x_in ?_
    refine pt_pick [1, 2] (by kernel_rfl) (es' := [(_,_),(_,_)]) rfl ?_
    exact hl135 _ (ho137 _ (zi h).symm).symm
theorem ok_sums_sum (b : (List Int)) (width : Int) (divisor : Int) (r : Int) (h : Sh.sums_sum b width divisor = some r) : FnOK Tryz.prog 52 [.fl .shr 1 (map (int .u8) b), .v (.int .i64 width), .v (.int .u32 divisor)] (.v (.int .i64 r)) := by
  unfold Sh.sums_sum at h
  refine fn_ok func52 rfl (zl rfl) rfl rfl fun g0 hn hio => ?_
  refine zgg hn [_,_,_,(6,vi 0)] [0,1,2] [0,1,2] [zq [] 3 6] [(_,_),(_,_),(_,_)] rfl ⟨z2 rfl,zz⟩ ?_
  refine ht_seq ?_
  obtain ⟨v1, hv1, h⟩ := zn h
  obtain ⟨v2, hv2, h⟩ := zn h
  obtain ⟨v3, hv3, h⟩ := zn h
  refine zg hn [_,_,_,(12,.v (.int .u32 divisor)),(13,.v (.agg (map (int .u32) v1).toArray)),(7,.arr 109 (map (int .u32) ((List.replicate 16 (0 : Int))))),(7,.arr 109 (map (int .u32) v1))] [0,1,2] [0,1,6] [zq [2] 3 12,zq [3] 4 13,zq [] 5 7,⟨[4],[5],[6],[]⟩] [(_,_),(_,_),(_,_)] rfl ⟨z1 rfl,zp rfl (op_call _ _ 71 _ _ rfl call71 rfl (ok_sums_table divisor _ hv1) rfl rfl),zp rfl (op_alloc_arr _ za109),zp rfl (op_storeA_arr _ _ _ _ (sz109.trans (congrArg some (ln_len hv3))) rfl rfl (ln_ones (fun _ => rfl) _) ((ln_len (f := int .u32) hv2).symm.trans (ln_len (f := int .u32) hv3))),zz⟩ ?_
  refine pt_then (ht_seq ?_)
  obtain ⟨v4, hv4, h⟩ := zn h
  obtain ⟨v5, hv5, h⟩ := zn h
  refine zg hn [_,_,_,(14,vi width),(15,.v (.int .u32 v4)),(16,.v (.int .u32 v5)),(8,.v (.int .u32 v5))] [0,1,2] [0,2,6] [zq [1] 3 14,zq [3] 4 15,zq [4] 5 16,zq [5] 6 8] [(_,_),(_,_),(_,_)] rfl ⟨z1 rfl,zp rfl (oB rfl (shl_ok hv4)),zp rfl (oB rfl (ibind (f := int .u32) (Option.some.inj hv5))),z2 rfl,zz⟩ ?_
  refine pt_then ?_
  refine zgg hn [_,_,_,(17,.v (.int .u32 v5)),(9,.v (.int .u32 v5))] [0,1,2] [0,1,2,4] [zq [2] 3 17,zq [3] 4 9] [(_,_),(_,_),(_,_),(_,_)] rfl ⟨z1 rfl,z2 rfl,zz⟩ ?_
  refine ht_seq ?_
  refine zgg hn [_,_,_,_,(18,.fl .shr 1 (map (int .u8) b)),(19,vi (b.length : Int)),(20,vi 0)] [0,1,2,3] [1,2,3,4,5,6] [zq [0] 4 18,zq [4] 5 19,zq [] 6 20] [(_,_),(_,_),(_,_),(_,_),(_,_),(_,_)] rfl ⟨z1 rfl,zp rfl (op_len_fl _ _ _ underlying25 rfl (by decide) (map_len _)),z1 rfl,zz⟩ ?_
  refine ht_loopS h (fun ((s25, s26) : Int × Int) => [(7, .arr 109 (map (int .u32) v1)), (8, .v (.int .u32 v5)), (9, .v (.int .u32 s25)), (18, .fl .shr 1 (map (int .u8) b)), (19, .v (.int .i64 (b.length : Int))), (20, .v (.int .i64 s26))]) (fun (s28 : Int) => [(8, .v (.int .u32 v5)), (9, .v (.int .u32 s28))]) ?_ ?_
  ·rintro s28 h
   refine pt_then (ht_seq ?_)
   obtain ⟨v36, hv36, h⟩ := zn h
   obtain ⟨v37, hv37, h⟩ := zn h
   refine zg hn [_,_,(43,.v (.int .u32 s28)),(44,.v (.int .u32 v5)),(45,.v (.int .u32 v36)),(46,vi v37),(6,vi v37)] [0,1] [6] [zq [1] 2 43,zq [0] 3 44,zq [2,3] 4 45,zq [4] 5 46,zq [5] 6 6] [(_,_)] rfl ⟨z1 rfl,z1 rfl,zp rfl (oB rfl (ibind (f := int .u32) (Option.some.inj hv36))),zp rfl ((Option.some.inj hv37) ▸ op_conv _ _ _ underlying86 underlying3 rfl),z2 rfl,zz⟩ ?_
   refine pt_then (ht_ret ?_)
   obtain rfl := zi h
   exact pt_ret hio rfl (.tmp _ _ .nil) rfl rfl
  ·rintro u29 hl30 hr31 ⟨s25, s26⟩ rr34 h ho32
   refine zgg hn [_,_,_,_,_,_,(21,vb (decide (s26 < (b.length : Int))))] [0,1,2,3,4,5] [0,1,2,3,4,5,6] [zq [5,4] 6 21] [(_,_),(_,_),(_,_),(_,_),(_,_),(_,_),(_,_)] rfl ⟨z4 rfl rfl,zz⟩ ?_
   refine ht_seq ?_
   refine ht_cond _ rfl (fun hb35 => ?_) (fun hb35 => ?_)
   ·have h := cond_t hb35 h
    refine ht_skip ?_
    refine pt_then (ht_seq ?_)
    refine ht_block ?_
    refine ht_seq ?_
    obtain ⟨v7, hv7, h⟩ := zn h
    obtain ⟨v8, hv8, h⟩ := zn h
    refine zg hn [_,_,_,_,_,_,_,(22,.eref (.slot 18) (v7 * 1)),(23,.v (.int .u8 v8)),(11,.v (.int .u8 v8))] [0,1,2,3,4,5,6] [0,1,2,3,4,5,9] [zq [3,5] 7 22,zq [7,3] 8 23,zq [8] 9 11] [(_,_),(_,_),(_,_),(_,_),(_,_),(_,_),(_,_)] rfl ⟨zp rfl (op_ix _ _ _ _ _ _ _ _ underlying25 sz5 (by decide) rfl rfl rfl (ix_ok hv7).1 (map_lt (ix_ok hv7).2) rfl),zp rfl (op_load_e _ _ _ _ _ _ underlying5 rfl rfl rfl (map_get hv8)),z2 rfl,zz⟩ ?_
    refine pt_then (ht_seq ?_)
    obtain ⟨v9, hv9, h⟩ := zn h
    obtain ⟨v10, hv10, h⟩ := zn h
    refine zg hn [_,_,_,_,_,_,_,(24,.v (.int .u32 s25)),(25,.v (.int .u8 v8)),(26,.v (.int .u32 v9)),(27,.v (.int .u32 v10)),(9,.v (.int .u32 v10))] [0,1,2,3,4,5,6] [0,1,3,4,5,11] [zq [2] 7 24,zq [6] 8 25,zq [8] 9 26,zq [7,9] 10 27,⟨[10],[2],[11],[(.slot 9)]⟩] [(_,_),(_,_),(_,_),(_,_),(_,_),(_,_)] rfl ⟨z1 rfl,z1 rfl,zp rfl ((Option.some.inj hv9) ▸ op_conv _ _ _ underlying5 underlying86 rfl),zp rfl (oB rfl (ibind (f := int .u32) (Option.some.inj hv10))),zp rfl (LOp.drop [_] (op_assign _ _ _ _ rfl rfl)),zz⟩ ?_
    refine pt_then (ht_seq ?_)
    obtain ⟨v11, hv11, h⟩ := zn h
    obtain ⟨v12, hv12, h⟩ := zn h
    obtain ⟨v13, hv13, h⟩ := zn h
    obtain ⟨v14, hv14, h⟩ := zn h
    obtain ⟨v15, hv15, h⟩ := zn h
    refine zg hn [_,_,_,_,_,_,(28,.v (.int .u32 v10)),(29,.v (.int .u32 v11)),(30,.v (.int .u32 v10)),(31,.v (.int .u32 v12)),(32,.ptr 7 v13),(33,.v (.int .u32 v14)),(34,.v (.int .u32 v15)),(9,.v (.int .u32 v15))] [0,1,2,3,4,5] [0,1,2,3,4,13] [zq [5] 6 28,zq [6] 7 29,zq [5] 8 30,zq [8] 9 31,zq [0,9] 10 32,zq [10,0] 11 33,zq [7,11] 12 34,⟨[12],[5],[13],[(.slot 9)]⟩] [(_,_),(_,_),(_,_),(_,_),(_,_),(_,_)] rfl ⟨z1 rfl,zp rfl (oB rfl (shr_ok hv11)),z1 rfl,zp rfl (oB rfl (rem_ok hv12)),zp rfl (op_ix_arr _ _ _ _ 16 7 _ underlying109 sz86 rfl rfl (ix_ok hv13).1 (ix_ok hv13).2 (by decide)),zp rfl (op_load_arr _ _ _ _ _ _ underlying86 rfl rfl rfl (map_get1 hv14)),zp rfl (oB rfl (ibind (f := int .u32) (Option.some.inj hv15))),zp rfl (LOp.drop [_] (op_assign _ _ _ _ rfl rfl)),zz⟩ ?_
    refine pt_then ?_
    obtain ⟨v16, hv16, h⟩ := zn h
    obtain ⟨v17, hv17, h⟩ := zn h
    obtain ⟨v18, hv18, h⟩ := zn h
    obtain ⟨v19, hv19, h⟩ := zn h
    obtain ⟨v20, hv20, h⟩ := zn h
    refine zg hn [_,_,_,_,_,_,(35,.v (.int .u32 v15)),(36,.v (.int .u32 v16)),(37,.v (.int .u32 v15)),(38,.v (.int .u32 v17)),(39,.ptr 7 v18),(40,.v (.int .u32 v19)),(41,.v (.int .u32 v20)),(9,.v (.int .u32 v20))] [0,1,2,3,4,5] [0,1,2,3,4,13] [zq [5] 6 35,zq [6] 7 36,zq [5] 8 37,zq [8] 9 38,zq [0,9] 10 39,zq [10,0] 11 40,zq [7,11] 12 41,⟨[12],[5],[13],[(.slot 9)]⟩] [(_,_),(_,_),(_,_),(_,_),(_,_),(_,_)] rfl ⟨z1 rfl,zp rfl (oB rfl (shr_ok hv16)),z1 rfl,zp rfl (oB rfl (rem_ok hv17)),zp rfl (op_ix_arr _ _ _ _ 16 7 _ underlying109 sz86 rfl rfl (ix_ok hv18).1 (ix_ok hv18).2 (by decide)),zp rfl (op_load_arr _ _ _ _ _ _ underlying86 rfl rfl rfl (map_get1 hv19)),zp rfl (oB rfl (ibind (f := int .u32) (Option.some.inj hv20))),zp rfl (LOp.drop [_] (op_assign _ _ _ _ rfl rfl)),zz⟩ ?_
    refine pt_inb ?_
    refine pt_then ?_
    obtain ⟨v21, hv21, h⟩ := zn h
    refine zg hn [_,_,_,_,_,_,(42,vi v21),(20,vi v21)] [0,1,2,3,4,5] [0,1,2,3,5,7] [zq [4] 6 42,⟨[6],[4],[7],[(.slot 20)]⟩] [(_,_),(_,_),(_,_),(_,_),(_,_),(_,_)] rfl ⟨zp rfl (oB rfl (ibind (f := int .i64) (Option.some.inj hv21))),zp rfl (LOp.drop [_] (oM rfl)),zz⟩ ?_
    refine pt_pick [0, 1, 4, 2, 3, 5] (by kernel_rfl) (es' := [(_,_),(_,_),(_,_),(_,_),(_,_),(_,_)]) rfl ?_
    exact pt_next _ (zi h).symm rfl
   ·have h := cond_f hb35 h
    refine ht_exit ?_
    refine pt_x_then ?_
    refine pt_x_then ?_
    refine pt_x_in ?_
    refine pt_pick [1, 2] (by kernel_rfl) (es' := [(_,_),(_,_)]) rfl ?_
    exact hl30 _ (ho32 _ (zi h).symm).symm
theorem ok_sums_Long (b : (List Int)) (r : Int) (h : Sh.sums_Long b = some r) : FnOK Tryz.prog 31 [.fl .shr 1 (map (int .u8) b)] (.v (.int .i64 r)) := by
  unfold Sh.sums_Long at h
  refine fn_ok func31 rfl (zl rfl) rfl rfl fun g0 hn hio => ?_
  refine zgg hn [_,(2,vi 0)] [0] [0] [zq [] 1 2] [(_,_)] rfl ⟨z2 rfl,zz⟩ ?_
  refine ht_seq ?_
  obtain ⟨v1, hv1, h⟩ := zn h
  refine zg hn [_,(3,.fl .shr 1 (map (int .u8) b)),(4,vi v1),(2,vi v1)] [0] [3] [zq [0] 1 3,zq [1] 2 4,zq [2] 3 2] [(_,_)] rfl ⟨z1 rfl,zp rfl (op_call _ _ 52 _ _ rfl call52 rfl (ok_sums_sum b 32 3988292384 _ hv1) rfl rfl),z2 rfl,zz⟩ ?_
  refine pt_then (ht_ret ?_)
  obtain rfl := zi h
  exact pt_ret hio rfl (.tmp _ _ .nil) rfl rfl
theorem ok_strconv_Itoa (mx : Int) (n : Int) (r : ByteArray) (h : Sh.strconv_Itoa n = some r) : FnG Tryz.prog (GL mx) 32 [.v (.int .i64 n)] (.v (.string r)) := lib_strconv_Itoa (by kernel_rfl) (gl_mem1 mx) (by rfl) (fun n w h0 h1 ht => Tryz.strconv_Itoa n h0 h1 w ht) n r h
theorem ok_bundle_Bytes (mx : Int) (b : T_Bundle) (r : ((List Int) × Int)) (h : Sh.bundle_Bytes b = some r) : FnG Tryz.prog (GL mx) 13 [.agg [.v (.int .i64 b.Origin), .v (.int .i64 b.Number), .fr .shr true 8 (flatten (map T_Mail.ienc b.Mails))]] (.tup [.mkr 5 (map (int .u8) r.1), .v (.int .i64 r.2)]) := by
  unfold Sh.bundle_Bytes at h
  refine fn_okG func13 rfl (zl rfl) rfl rfl fun g0 hn hio => ?_
  refine zgg hn [_,_,(1,.box 24 [vi b.Origin,vi b.Number,.fr .shr true 8 (flatten (map T_Mail.ienc b.Mails))]),(2,.v (.slice none 0 0)),(3,vi 0)] [0,1] [1,2] [zq [0] 2 1,zq [] 3 2,zq [] 4 3] [(_,_),(_,_)] rfl ⟨zp rfl (op_box _ _ _ _ rfl rfl rfl),z2 rfl,z2 rfl,zz⟩ ?_
  refine ht_seq ?_
  refine ht_seq ?_
  obtain ⟨v1, hv1, h⟩ := zn h
  refine zg hn [_,_,(10,.agg [vi b.Origin,vi b.Number,.fr .shr true 8 (flatten (map T_Mail.ienc b.Mails))]),(11,vi v1),(4,vi v1)] [0,1] [0,1,4] [zq [1] 2 10,zq [2,0] 3 11,zq [3] 4 4] [(_,_),(_,_),(_,_)] rfl ⟨zp rfl (op_loadA _ _ _ _ _ _ _ underlying24 rfl sz24 rfl rfl (zl rfl) rfl rfl),zp rfl (op_callG _ _ 50 19 _ _ rfl call19 rfl rfl (fun _ h => h) (ok_bundle_Check mx (T_Bundle.mk b.Origin b.Number b.Mails) _ hv1) rfl rfl),z2 rfl,zz⟩ ?_
  refine pt_then ?_
  refine zgg hn [_,_,_,(12,vi v1),(13,vb (v1 != 0))] [0,1,2] [0,1,2,4] [zq [2] 3 12,zq [3] 4 13] [(_,_),(_,_),(_,_),(_,_)] rfl ⟨z1 rfl,z4 rfl rfl,zz⟩ ?_
  refine ht_cond _ rfl (fun hb46 => ?_) (fun hb46 => ?_)
  ·have h := cond_t hb46 h
   refine zgg hn [_,_,_,_,(14,vi v1),(2,.v (.slice none 0 0)),(3,vi v1)] [0,1,2,3] [0,5,6] [zq [2] 4 14,zq [] 5 2,zq [4] 6 3] [(_,_),(_,_),(_,_)] rfl ⟨z1 rfl,z2 rfl,z2 rfl,zz⟩ ?_
   refine ht_ret ?_
   refine pt_pick [1, 2] (by kernel_rfl) (es' := [(_,_),(_,_)]) rfl ?_
   refine pt_sub (fs := [(2, .mkr 5 (map (int .u8) [])), (3, .v (.int .i64 v1))]) (.sub _ (sub_nil_mk 5) rfl (.same _ .nil)) ?_
   refine pt_r_then ?_
   obtain rfl := zi h
   exact pt_ret hio rfl (.tmp _ _ (.tmp _ _ .nil)) rfl rfl
  ·have h := cond_f hb46 h
   refine ht_skip ?_
   refine pt_then (ht_seq ?_)
   obtain ⟨v3, hv3, h⟩ := zn h
   refine zg hn [_,_,_,_,(15,.ptr 1 2),(16,.fr .shr true 8 (flatten (map T_Mail.ienc b.Mails))),(17,.fl (.own 5) 1 (map (int .u8) v3)),(5,.fl (.own 5) 1 (map (int .u8) v3))] [0,1,2,3] [0,1,7] [zq [1] 4 15,zq [4,1] 5 16,zq [5,0] 6 17,⟨[],[6],[7],[(.slot 5)]⟩] [(_,_),(_,_),(_,_)] rfl ⟨zp rfl (oF underlying24 rfl sz22),zp rfl (oL underlying22 rfl),zp rfl (op_callG _ _ 50 30 _ _ rfl call30 rfl rfl (fun _ h => h) (ok_bundle_commands mx b.Mails _ hv3) rfl rfl),zp rfl (op_assign_take _ _ _ _ rfl),zz⟩ ?_
   refine pt_then ?_
   refine zgg hn [_,_,_,(6,vs (⟨#[66,85,78,68,76,69]⟩ : ByteArray))] [0,1,2] [0,1,2,3] [zq [] 3 6] [(_,_),(_,_),(_,_),(_,_)] rfl ⟨z2 rfl,zz⟩ ?_
   refine ht_seq ?_
   refine ht_seq ?_
   obtain ⟨v4, hv4, h⟩ := zn h
   refine ht_anyR (by kernel_rfl) hn (El := (_ :: _ :: _ :: _ :: (18, .ptr 1 0) :: (19, .v (.int .i64 b.Origin)) :: (20, .ptr 1 1) :: (21, .v (.int .i64 b.Number)) :: (22, .ptr 1 2) :: (23, .fr .shr true 8 (flatten (map T_Mail.ienc b.Mails))) :: (24, .v (.int .i64 (b.Mails.length : Int))) :: (25, .same (.slot 5)) :: (26, .v (.int .i64 (v3.length : Int))) :: (27, .same (.slot 5)) :: (28, .v (.int .i64 v4)) :: (29, .fl (.own 3) 1 (map (int .i64) [b.Origin, b.Number, (b.Mails.length : Int), (v3.length : Int), v4])) :: (30, .v (.int .i64 (([b.Origin, b.Number, (b.Mails.length : Int), (v3.length : Int), v4].length : Int)))) :: (31, .v (.int .i64 0)) :: [])) (init := [0, 1, 2, 3]) (fin := [0, 2, 3, 15, 16, 17]) (sps := [zq [1] 4 18, zq [4,1] 5 19, zq [1] 6 20, zq [6,1] 7 21, zq [1] 8 22, zq [8,1] 9 23, zq [9] 10 24, zq [2] 11 25, zq [11,2] 12 26, zq [2] 13 27, zq [13,2] 14 28, zq [5,7,10,12,14] 15 29, zq [15] 16 30, zq [] 17 31]) (es' := [(_,_),(_,_),(_,_),(29, .fl (.own 3) 1 (map (int .i64) [b.Origin, b.Number, (b.Mails.length : Int), (v3.length : Int), v4])), (30, .v (.int .i64 (([b.Origin, b.Number, (b.Mails.length : Int), (v3.length : Int), v4].length : Int)))), (31, .v (.int .i64 0))]) (by kernel_rfl) rfl rfl ⟨zp rfl (oF underlying24 rfl sz3),zp rfl (oL underlying3 rfl),zp rfl (oF underlying24 rfl sz3),zp rfl (oL underlying3 rfl),zp rfl (oF underlying24 rfl sz22),zp rfl (oL underlying22 rfl),zp rfl (op_len_fr _ _ _ underlying22 rfl (by decide) (gflat_len T_Mail.ilen _)),z1 rfl,zp rfl (op_len_fl _ _ _ underlying25 rfl (by decide) (map_len _)),z1 rfl,zp rfl (op_call _ _ 31 _ _ rfl call31 rfl (ok_sums_Long v3 _ hv4) rfl rfl),zp rfl (op_buildSlice _ _ 1 (.int .i64 0) (map (int .i64) [b.Origin, b.Number, (b.Mails.length : Int), (v3.length : Int), v4]) [(0, .int .i64 b.Origin), (1, .int .i64 b.Number), (2, .int .i64 (b.Mails.length : Int)), (3, .int .i64 (v3.length : Int)), (4, .int .i64 v4)] underlying61 sz3 zr3 (fun _ V w o a hv hes => by have e0 := rd_v hv hes (x := .tmp 19) rfl; have e1 := rd_v hv hes (x := .tmp 21) rfl; have e2 := rd_v hv hes (x := .tmp 24) rfl; have e3 := rd_v hv hes (x := .tmp 26) rfl; have e4 := rd_v hv hes (x := .tmp 28) rfl; simp only [List.map_toArray, List.map_cons, List.map_nil, e0, e1, e2, e3, e4]; try rfl) (litfill (by simp [Instr.fill, Value.cells]; rfl) (by simp [List.range, List.range.loop] <;> rfl)) (by simp [Value.oneCell']) rfl (by decide) (by decide) (by decide)),zp rfl (op_len_fl _ _ _ underlying61 rfl (by decide) (map_len _)),z1 rfl,zz⟩ ?_
   refine pt_then ?_
   refine ht_loopS h (fun ((s51, s52) : ByteArray × Int) => [(50, .glob (GL mx)), (5, .fl (.own 5) 1 (map (int .u8) v3)), (6, .v (.string s51)), (29, .fl (.own 3) 1 (map (int .i64) [b.Origin, b.Number, (b.Mails.length : Int), (v3.length : Int), v4])), (30, .v (.int .i64 (([b.Origin, b.Number, (b.Mails.length : Int), (v3.length : Int), v4].length : Int)))), (31, .v (.int .i64 s52))]) (fun (s54 : ByteArray) => [(50, .glob (GL mx)), (5, .fl (.own 5) 1 (map (int .u8) v3)), (6, .v (.string s54))]) ?_ ?_
   ·rintro s54 h
    refine pt_then (ht_seq ?_)
    obtain ⟨v26, hv26, h⟩ := zn h
    obtain ⟨v27, hv27, h⟩ := zn h
    obtain ⟨v44, hv44, h⟩ := zn h
    refine zg hn [_,_,_,(41,vs s54),(42,vs v26),(43,.mkr 5 (map (int .u8) v27)),(44,.fl (.own 5) 1 (map (int .u8) v3)),(45,.mkr 5 (map (int .u8) v44)),(43,.any),(9,.mkr 5 (map (int .u8) v44))] [0,1,2] [0,9] [zq [2] 3 41,zq [3] 4 42,zq [4] 5 43,⟨[],[1],[6],[(.slot 44)]⟩,⟨[6],[5],[8,7],[(.slot 45)]⟩,⟨[],[7],[9],[(.slot 9)]⟩] [(_,_),(_,_)] rfl ⟨z1 rfl,zp rfl (oB rfl (cat_ok hv26)),zp rfl ((Option.some.inj hv27) ▸ op_str_mk _ _ _ v26 underlying9 underlying25 underlying5 rfl),zp rfl (op_move_take _ _ _ _ rfl),zp rfl (op_app_mk _ _ _ _ _ el25 rfl rfl rfl rfl hv44 rfl),zp rfl (op_assign_take _ _ _ _ rfl),zz⟩ ?_
    refine pt_then (ht_seq ?_)
    refine zgg hn [_,_,(46,.same (.slot 9)),(47,vi (v44.length : Int)),(48,vb (decide (4096 < (v44.length : Int))))] [0,1] [0,1,4] [zq [1] 2 46,zq [2,1] 3 47,zq [3] 4 48] [(_,_),(_,_),(_,_)] rfl ⟨z1 rfl,zp rfl (op_len_mk _ _ _ underlying25 rfl (List.length_map _)),z4 rfl rfl,zz⟩ ?_
    refine ht_cond _ rfl (fun hb62 => ?_) (fun hb62 => ?_)
    ·have h := cond_t hb62 h
     refine zgg hn [_,_,_,(2,.v (.slice none 0 0)),(3,vi 2)] [0,1,2] [0,3,4] [zq [] 3 2,zq [] 4 3] [(_,_),(_,_),(_,_)] rfl ⟨z2 rfl,z2 rfl,zz⟩ ?_
     refine ht_ret ?_
     refine pt_pick [1, 2] (by kernel_rfl) (es' := [(_,_),(_,_)]) rfl ?_
     refine pt_sub (fs := [(2, .mkr 5 (map (int .u8) [])), (3, .v (.int .i64 2))]) (.sub _ (sub_nil_mk 5) rfl (.same _ .nil)) ?_
     refine pt_r_then ?_
     obtain rfl := zi h
     exact pt_ret hio rfl (.tmp _ _ (.tmp _ _ .nil)) rfl rfl
    ·have h := cond_f hb62 h
     refine ht_skip ?_
     refine pt_then ?_
     refine zgg hn [_,_,_,(49,.mkr 5 (map (int .u8) v44)),(2,.mkr 5 (map (int .u8) v44)),(3,vi 0)] [0,1,2] [0,4,5] [⟨[],[1],[3],[(.slot 49)]⟩,⟨[],[3],[4],[(.slot 2)]⟩,zq [] 5 3] [(_,_),(_,_),(_,_)] rfl ⟨zp rfl (op_move_take _ _ _ _ rfl),zp rfl (op_assign_take _ _ _ _ rfl),z2 rfl,zz⟩ ?_
     refine ht_ret ?_
     refine pt_pick [1, 2] (by kernel_rfl) (es' := [(_,_),(_,_)]) rfl ?_
     obtain rfl := zi h
     exact pt_ret hio rfl (.tmp _ _ (.tmp _ _ .nil)) rfl rfl
   ·rintro u55 hl56 hr57 ⟨s51, s52⟩ rr60 h ho58
    refine zgg hn [_,_,_,_,_,_,(32,vb (decide (s52 < (([b.Origin,b.Number,(b.Mails.length : Int),(v3.length : Int),v4].length : Int)))))] [0,1,2,3,4,5] [0,1,2,3,4,5,6] [zq [5,4] 6 32] [(_,_),(_,_),(_,_),(_,_),(_,_),(_,_),(_,_)] rfl ⟨z4 rfl rfl,zz⟩ ?_
    refine ht_seq ?_
    refine ht_cond _ rfl (fun hb61 => ?_) (fun hb61 => ?_)
    ·have h := cond_t hb61 h
     refine ht_skip ?_
     refine pt_then (ht_seq ?_)
     refine ht_block ?_
     refine ht_seq ?_
     obtain ⟨v6, hv6, h⟩ := zn h
     obtain ⟨v7, hv7, h⟩ := zn h
     refine zg hn [_,_,_,_,_,_,_,(33,.eref (.slot 29) (v6 * 1)),(34,vi v7),(8,vi v7)] [0,1,2,3,4,5,6] [0,1,2,3,4,5,9] [zq [3,5] 7 33,zq [7,3] 8 34,zq [8] 9 8] [(_,_),(_,_),(_,_),(_,_),(_,_),(_,_),(_,_)] rfl ⟨zp rfl (op_ix _ _ _ _ _ _ _ _ underlying61 sz3 (by decide) rfl rfl rfl (ix_ok hv6).1 (map_lt (ix_ok hv6).2) rfl),zp rfl (op_load_e _ _ _ _ _ _ underlying3 rfl rfl rfl (map_get hv7)),z2 rfl,zz⟩ ?_
     refine pt_then ?_
     obtain ⟨v8, hv8, h⟩ := zn h
     obtain ⟨v9, hv9, h⟩ := zn h
     obtain ⟨v10, hv10, h⟩ := zn h
     refine zg hn [_,_,_,_,_,_,_,(35,vs s51),(36,vi v7),(37,vs v8),(38,vs v9),(39,vs v10),(6,vs v10)] [0,1,2,3,4,5,6] [0,1,3,4,5,12] [zq [2] 7 35,zq [6] 8 36,zq [8,0] 9 37,zq [9] 10 38,zq [7,10] 11 39,⟨[11],[2],[12],[(.slot 6)]⟩] [(_,_),(_,_),(_,_),(_,_),(_,_),(_,_)] rfl ⟨z1 rfl,z1 rfl,zp rfl (op_callG _ _ 50 32 _ _ rfl call32 rfl rfl (fun _ h => h) (ok_strconv_Itoa mx v7 _ hv8) rfl rfl),zp rfl (oB rfl (cat_ok hv9)),zp rfl (oB rfl (cat_ok hv10)),zp rfl (LOp.drop [_] (op_assign _ _ _ _ rfl rfl)),zz⟩ ?_
     refine pt_inb ?_
     refine pt_then ?_
     obtain ⟨v11, hv11, h⟩ := zn h
     refine zg hn [_,_,_,_,_,_,(40,vi v11),(31,vi v11)] [0,1,2,3,4,5] [0,1,2,3,5,7] [zq [4] 6 40,⟨[6],[4],[7],[(.slot 31)]⟩] [(_,_),(_,_),(_,_),(_,_),(_,_),(_,_)] rfl ⟨zp rfl (oB rfl (ibind (f := int .i64) (Option.some.inj hv11))),zp rfl (LOp.drop [_] (oM rfl)),zz⟩ ?_
     refine pt_pick [0, 1, 4, 2, 3, 5] (by kernel_rfl) (es' := [(_,_),(_,_),(_,_),(_,_),(_,_),(_,_)]) rfl ?_
     exact pt_next _ (zi h).symm rfl
    ·have h := cond_f hb61 h
     refine ht_exit ?_
     refine pt_x_then ?_
     refine pt_x_then ?_
     refine pt_x_in ?_
     refine pt_pick [0, 1, 2] (by kernel_rfl) (es' := [(_,_),(_,_),(_,_)]) rfl ?_
     exact hl56 _ (ho58 _ (zi h).symm).symm
theorem ok_strings_Count (s sub : ByteArray) (r : Int) (h : Sh.strings_Count s sub = some r) : FnOK Tryz.prog 97 [.v (.string s), .v (.string sub)] (.v (.int .i64 r)) := lib_strings_Count Tryz.strings_Count_one s sub r h
end Go.Proofs.YtglabbpbianmnaaGreatDoor
