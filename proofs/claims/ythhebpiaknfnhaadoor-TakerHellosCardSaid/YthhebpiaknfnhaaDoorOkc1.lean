/-
  The model's runs are what is told in Lean.
-/
import Derived.Test.YthhebpiaknfnhaaDoorProg
import Derived.KernelRfl
import Derived.Test.YthhebpiaknfnhaaDoorShelf
import Derived.Test.YthhebpiaknfnhaaDoorIdx
import Derived.Test.YthhebpiaknfnhaaDoorIns
import Derived.Test.YthhebpiaknfnhaaDoorB1
import Derived.Test.YthhebpiaknfnhaaDoorSh
set_option linter.unusedVariables false
set_option linter.unusedSimpArgs false
set_option maxHeartbeats 1000000
namespace Go.Proofs.YthhebpiaknfnhaaDoor
open Go.Abs Go.Abs.Sh Tryd
def GL (mx : Int) : List (Nat × List Value) := [(0, [.int .i64 mx]), (1, (List.map (Value.int .u8) utf8_first)), (2, (List.map (Value.int .u8) utf8_accept))]
theorem gl_mem0 (mx : Int) : (0, ([.int .i64 mx] : List Value)) ∈ GL mx := .head _
theorem gl_mem1 (mx : Int) : (1, ((List.map (Value.int .u8) utf8_first) : List Value)) ∈ GL mx := .tail _ (.head _)
theorem gl_mem2 (mx : Int) : (2, ((List.map (Value.int .u8) utf8_accept) : List Value)) ∈ GL mx := .tail _ (.tail _ (.head _))
theorem sz50 : (Tryd.prog.info? 50).map (·.size) = some 15 := by kernel_rfl
theorem sz29 : (Tryd.prog.info? 29).map (·.size) = some 1 := by kernel_rfl
theorem sz28 : (Tryd.prog.info? 28).map (·.size) = some 1 := by kernel_rfl
theorem sz48 : (Tryd.prog.info? 48).map (·.size) = some 8 := by kernel_rfl
theorem zr48 : (Tryd.prog.info? 48).bind (·.zero) = some (.agg #[.bool false, .string ByteArray.empty, .string ByteArray.empty, .slice none 0 0, .slice none 0 0, .bool false, .string ByteArray.empty, .int .i64 0]) := by kernel_rfl
theorem sz9 : (Tryd.prog.info? 9).map (·.size) = some 1 := by kernel_rfl
theorem sz45 : (Tryd.prog.info? 45).map (·.size) = some 3 := by kernel_rfl
theorem sz46 : (Tryd.prog.info? 46).map (·.size) = some 1 := by kernel_rfl
theorem zr31 : (Tryd.prog.info? 31).bind (·.zero) = some (.agg #[.slice none 0 0, .int .i64 0, .slice none 0 0, .slice none 0 0, .int .i64 0, .slice none 0 0]) := by kernel_rfl
theorem fs31 : ∀ fs, Tryd.prog.underlying 31 = some (.struct fs) → fs.toList.map (fun f => (Tryd.prog.info? f.type).map (·.size)) = ([1, 1, 1, 1, 1, 1] : List Nat).map some := by
  intro fs h
  rw [Tryd.underlying31] at h
  cases h
  kernel_rfl
theorem sz31 : (Tryd.prog.info? 31).map (·.size) = some 6 := by kernel_rfl
theorem zr50 : (Tryd.prog.info? 50).bind (·.zero) = some (.agg #[.int .i64 0, .bool false, .string ByteArray.empty, .string ByteArray.empty, .slice none 0 0, .slice none 0 0, .bool false, .string ByteArray.empty, .int .i64 0, .int .i64 0, .slice none 0 0, .int .i64 0, .int .i64 0, .int .i64 0, .slice none 0 0]) := by kernel_rfl
theorem sz3 : (Tryd.prog.info? 3).map (·.size) = some 1 := by kernel_rfl
theorem fs48 : ∀ fs, Tryd.prog.underlying 48 = some (.struct fs) → fs.toList.map (fun f => (Tryd.prog.info? f.type).map (·.size)) = ([3, 1, 1, 1, 1, 1] : List Nat).map some := by
  intro fs h
  rw [Tryd.underlying48] at h
  cases h
  kernel_rfl
theorem fs45 : ∀ fs, Tryd.prog.underlying 45 = some (.struct fs) → fs.toList.map (fun f => (Tryd.prog.info? f.type).map (·.size)) = ([1, 1, 1] : List Nat).map some := by
  intro fs h
  rw [Tryd.underlying45] at h
  cases h
  kernel_rfl
theorem zr45 : (Tryd.prog.info? 45).bind (·.zero) = some (.agg #[.bool false, .string ByteArray.empty, .string ByteArray.empty]) := by kernel_rfl
theorem sz4 : (Tryd.prog.info? 4).map (·.size) = some 1 := by kernel_rfl
theorem sz27 : (Tryd.prog.info? 27).map (·.size) = some 1 := by kernel_rfl
theorem zr4 : (Tryd.prog.info? 4).bind (·.zero) = some (.bool false) := by kernel_rfl
theorem sz5 : (Tryd.prog.info? 5).map (·.size) = some 1 := by kernel_rfl
theorem zr37 : (Tryd.prog.info? 37).bind (·.zero) = some (.int .i64 0) := by kernel_rfl
theorem zr3 : (Tryd.prog.info? 3).bind (·.zero) = some (.int .i64 0) := by kernel_rfl
theorem zr5 : (Tryd.prog.info? 5).bind (·.zero) = some (.int .u8 0) := by kernel_rfl
theorem sz37 : (Tryd.prog.info? 37).map (·.size) = some 1 := by kernel_rfl
theorem sz71 : (Tryd.prog.info? 71).map (·.size) = some 11 := by kernel_rfl
theorem el46 : ElemT Tryd.prog 46 45 3 40 := ⟨⟨Tryd.t45, .agg #[.bool false, .string ByteArray.empty, .string ByteArray.empty], Tryd.underlying46, by kernel_rfl, by kernel_rfl, by kernel_rfl, by kernel_rfl, by decide, by kernel_rfl⟩⟩
theorem el29 : ElemT Tryd.prog 29 5 1 1 := ⟨⟨Tryd.t5, .int .u8 0, Tryd.underlying29, by kernel_rfl, by kernel_rfl, by kernel_rfl, by kernel_rfl, by decide, by kernel_rfl⟩⟩
theorem fs71 : ∀ fs, Tryd.prog.underlying 71 = some (.struct fs) → fs.toList.map (fun f => (Tryd.prog.info? f.type).map (·.size)) = ([1, 8, 1, 1] : List Nat).map some := by
  intro fs h
  rw [Tryd.underlying71] at h
  cases h
  kernel_rfl
theorem zr71 : (Tryd.prog.info? 71).bind (·.zero) = some (.agg #[.int .i64 0, .bool false, .string ByteArray.empty, .string ByteArray.empty, .slice none 0 0, .slice none 0 0, .bool false, .string ByteArray.empty, .int .i64 0, .int .i64 0, .int .i64 0]) := by kernel_rfl
theorem el27 : ElemT Tryd.prog 27 71 11 144 := ⟨⟨Tryd.t71, .agg #[.int .i64 0, .bool false, .string ByteArray.empty, .string ByteArray.empty, .slice none 0 0, .slice none 0 0, .bool false, .string ByteArray.empty, .int .i64 0, .int .i64 0, .int .i64 0], Tryd.underlying27, by kernel_rfl, by kernel_rfl, by kernel_rfl, by kernel_rfl, by decide, by kernel_rfl⟩⟩
theorem el28 : ElemT Tryd.prog 28 3 1 8 := ⟨⟨Tryd.t3, .int .i64 0, Tryd.underlying28, by kernel_rfl, by kernel_rfl, by kernel_rfl, by kernel_rfl, by decide, by kernel_rfl⟩⟩
theorem ins28 : InsOK Tryd.prog 28 3 := insOK_int Tryd.lays2_21
theorem fs24 : ∀ fs, Tryd.prog.underlying 24 = some (.struct fs) → fs.toList.map (fun f => (Tryd.prog.info? f.type).map (·.size)) = ([1, 1, 1] : List Nat).map some := by
  intro fs h
  rw [Tryd.underlying24] at h
  cases h
  kernel_rfl
theorem zr24 : (Tryd.prog.info? 24).bind (·.zero) = some (.agg #[.bool false, .int .i64 0, .int .i64 0]) := by kernel_rfl
theorem fs41 : ∀ fs, Tryd.prog.underlying 41 = some (.struct fs) → fs.toList.map (fun f => (Tryd.prog.info? f.type).map (·.size)) = ([1, 1, 1, 1, 1] : List Nat).map some := by
  intro fs h
  rw [Tryd.underlying41] at h
  cases h
  kernel_rfl
theorem zr41 : (Tryd.prog.info? 41).bind (·.zero) = some (.agg #[.int .i64 0, .int .i64 0, .int .i64 0, .int .i64 0, .slice none 0 0]) := by kernel_rfl
theorem sz41 : (Tryd.prog.info? 41).map (·.size) = some 5 := by kernel_rfl
theorem sz24 : (Tryd.prog.info? 24).map (·.size) = some 3 := by kernel_rfl
theorem zr60 : (Tryd.prog.info? 60).bind (·.zero) = some (.agg #[.bool false, .int .i64 0, .int .i64 0, .slice none 0 0, .slice none 0 0]) := by kernel_rfl
theorem fs60 : ∀ fs, Tryd.prog.underlying 60 = some (.struct fs) → fs.toList.map (fun f => (Tryd.prog.info? f.type).map (·.size)) = ([3, 1, 1] : List Nat).map some := by
  intro fs h
  rw [Tryd.underlying60] at h
  cases h
  kernel_rfl
theorem sz60 : (Tryd.prog.info? 60).map (·.size) = some 5 := by kernel_rfl
theorem fs50 : ∀ fs, Tryd.prog.underlying 50 = some (.struct fs) → fs.toList.map (fun f => (Tryd.prog.info? f.type).map (·.size)) = ([1, 8, 1, 1, 1, 1, 1, 1] : List Nat).map some := by
  intro fs h
  rw [Tryd.underlying50] at h
  cases h
  kernel_rfl
theorem sz22 : (Tryd.prog.info? 22).map (·.size) = some 1 := by kernel_rfl
theorem sz36 : (Tryd.prog.info? 36).map (·.size) = some 1 := by kernel_rfl
theorem ok_wherrylaw17_Heavy (l : (List T_Mail)) (r : Bool) (h : Sh.wherrylaw17_Heavy l = some r) : FnOK Tryd.prog 10 [.fr .shr true 8 (List.flatten (List.map T_Mail.ienc l))] (.v (.bool r)) := by
  unfold Sh.wherrylaw17_Heavy at h
  refine fn_ok func10 rfl (zl rfl) rfl rfl fun g0 hn hio => ?_
  refine zgg hn [_,(2,vb false)] [0] [0] [zq [] 1 2] [(_,_)] rfl ⟨z2 rfl,zz⟩ ?_
  refine ht_seq ?_
  refine zgg hn [_,(6,.fr .shr true 8 (List.flatten (List.map T_Mail.ienc l))),(7,vi (l.length : Int)),(8,vb (decide (20 < (l.length : Int))))] [0] [0,3] [zq [0] 1 6,zq [1] 2 7,zq [2] 3 8] [(_,_),(_,_)] rfl ⟨z1 rfl,zp rfl (op_len_fr _ _ _ underlying52 rfl (by decide) (gflat_len T_Mail.ilen _)),z4 rfl rfl,zz⟩ ?_
  refine ht_cond _ rfl (fun hb1 => ?_) (fun hb1 => ?_)
  ·have h := cond_t hb1 h
   refine zgg hn [_,_,(2,vb true)] [0,1] [2] [zq [] 2 2] [(_,_)] rfl ⟨z2 rfl,zz⟩ ?_
   refine ht_ret ?_
   refine pt_r_then ?_
   obtain rfl := Option.some.inj h
   exact pt_ret hio rfl (.tmp _ _ .nil) rfl rfl
  ·have h := cond_f hb1 h
   refine ht_skip ?_
   refine pt_then ?_
   refine zgg hn [_,_,(3,vi 0)] [0,1] [0,2] [zq [] 2 3] [(_,_),(_,_)] rfl ⟨z2 rfl,zz⟩ ?_
   refine ht_seq ?_
   refine zgg hn [_,_,(4,vi 0)] [0,1] [0,1,2] [zq [] 2 4] [(_,_),(_,_),(_,_)] rfl ⟨z2 rfl,zz⟩ ?_
   refine ht_loopS h (fun ((s66, s67) : Int × Int) => [(0, .fr .shr true 8 (List.flatten (List.map T_Mail.ienc l))), (3, .v (.int .i64 s66)), (4, .v (.int .i64 s67))]) (fun (s85 : Int) => [(3, .v (.int .i64 s85))]) ?_ ?_
   ·rintro s85 h
    refine pt_then ?_
    refine zgg hn [_,(86,vi s85),(87,vb (decide (20000 < s85))),(2,vb (decide (20000 < s85)))] [0] [3] [zq [0] 1 86,zq [1] 2 87,zq [2] 3 2] [(_,_)] rfl ⟨z1 rfl,z4 rfl rfl,z2 rfl,zz⟩ ?_
    refine ht_ret ?_
    obtain rfl := Option.some.inj h
    exact pt_ret hio rfl (.tmp _ _ .nil) rfl rfl
   ·rintro u86 hl87 hr88 ⟨s66, s67⟩ rr91 h ho89
    refine ht_seq ?_
    refine zgg hn [_,_,_,(9,vi s67),(10,.fr .shr true 8 (List.flatten (List.map T_Mail.ienc l))),(11,vi (l.length : Int)),(12,vb (decide (s67 < (l.length : Int))))] [0,1,2] [0,1,2,6] [zq [2] 3 9,zq [0] 4 10,zq [4] 5 11,zq [3,5] 6 12] [(_,_),(_,_),(_,_),(_,_)] rfl ⟨z1 rfl,z1 rfl,zp rfl (op_len_fr _ _ _ underlying52 rfl (by decide) (gflat_len T_Mail.ilen _)),z4 rfl rfl,zz⟩ ?_
    refine ht_cond _ rfl (fun hb92 => ?_) (fun hb92 => ?_)
    ·have h := cond_t hb92 h
     refine ht_skip ?_
     refine pt_then (ht_seq ?_)
     refine ht_block ?_
     refine ht_seq ?_
     obtain ⟨v3, hv3, h⟩ := bind_some h
     obtain ⟨v4, hv4, h⟩ := bind_some h
     obtain ⟨v5, hv5, h⟩ := bind_some h
     obtain ⟨v6, hv6, h⟩ := bind_some h
     obtain ⟨v7, hv7, h⟩ := bind_some h
     obtain ⟨v8, hv8, h⟩ := bind_some h
     obtain ⟨v9, hv9, h⟩ := bind_some h
     obtain ⟨v10, hv10, h⟩ := bind_some h
     obtain ⟨v11, hv11, h⟩ := bind_some h
     obtain ⟨v12, hv12, h⟩ := bind_some h
     obtain ⟨v13, hv13, h⟩ := bind_some h
     obtain ⟨v14, hv14, h⟩ := bind_some h
     refine ht_anyR (by kernel_rfl) hn (El := (_ :: _ :: _ :: _ :: (15, .v (.int .i64 s66)) :: (16, .fr .shr true 8 (List.flatten (List.map T_Mail.ienc l))) :: (17, .v (.int .i64 s67)) :: (18, .eref (.slot 16) (v3 * 8)) :: (19, .eref (.slot 16) (v3 * 8 + 4)) :: (20, .fl .shr 1 (List.map (Value.int .u8) v4.Body)) :: (21, .v (.int .i64 (v4.Body.length : Int))) :: (22, .v (.int .i64 v5)) :: (23, .fr .shr true 8 (List.flatten (List.map T_Mail.ienc l))) :: (24, .v (.int .i64 s67)) :: (25, .eref (.slot 23) (v6 * 8)) :: (26, .eref (.slot 23) (v6 * 8 + 6)) :: (27, .v (.string v7.Helo)) :: (28, .v (.int .i64 (v7.Helo.size : Int))) :: (29, .v (.int .i64 v8)) :: (30, .fr .shr true 8 (List.flatten (List.map T_Mail.ienc l))) :: (31, .v (.int .i64 s67)) :: (32, .eref (.slot 30) (v9 * 8)) :: (33, .eref (.slot 30) (v9 * 8 + 0)) :: (34, .eref (.slot 30) (v9 * 8 + 1)) :: (35, .v (.string v10.From.Local)) :: (36, .v (.int .i64 (v10.From.Local.size : Int))) :: (37, .v (.int .i64 v11)) :: (38, .fr .shr true 8 (List.flatten (List.map T_Mail.ienc l))) :: (39, .v (.int .i64 s67)) :: (40, .eref (.slot 38) (v12 * 8)) :: (41, .eref (.slot 38) (v12 * 8 + 0)) :: (42, .eref (.slot 38) (v12 * 8 + 2)) :: (43, .v (.string v13.From.Domain)) :: (44, .v (.int .i64 (v13.From.Domain.size : Int))) :: (45, .v (.int .i64 v14)) :: (3, .v (.int .i64 v14)) :: [])) (init := [0, 1, 2, 3]) (fin := [0, 2, 35]) (sps := (zq [1] 4 15 :: zq [0] 5 16 :: zq [2] 6 17 :: zq [5,6] 7 18 :: zq [7,5] 8 19 :: zq [8,5] 9 20 :: zq [9] 10 21 :: zq [4,10] 11 22 :: zq [0] 12 23 :: zq [2] 13 24 :: zq [12,13] 14 25 :: zq [14,12] 15 26 :: zq [15,12] 16 27 :: zq [16] 17 28 :: zq [11,17] 18 29 :: zq [0] 19 30 :: zq [2] 20 31 :: zq [19,20] 21 32 :: zq [21,19] 22 33 :: zq [22,19] 23 34 :: zq [23,19] 24 35 :: zq [24] 25 36 :: zq [18,25] 26 37 :: zq [0] 27 38 :: zq [2] 28 39 :: zq [27,28] 29 40 :: zq [29,27] 30 41 :: zq [30,27] 31 42 :: zq [31,27] 32 43 :: zq [32] 33 44 :: zq [26,33] 34 45 :: ⟨[34], [1], [35], [(.slot 3)]⟩ :: [])) (es' := [(_,_),(_,_),(3, .v (.int .i64 v14))]) (by kernel_rfl) rfl rfl ⟨z1 rfl,z1 rfl,z1 rfl,zp rfl (op_ix_fr _ _ _ _ _ _ _ _ underlying52 sz48 (by decide) rfl rfl rfl (ix_ok hv3).1 (gflat_lt T_Mail.ilen (ix_ok hv3).2) rfl),zp rfl (op_fieldAddr_e _ _ _ _ _ _ _ underlying48 rfl sz29 rfl rfl rfl),zp rfl (op_load_fr _ _ _ _ _ _ _ underlying29 rfl rfl rfl (gflat_cell T_Mail.ilen hv4 rfl) (.fl _ _ rfl)),zp rfl (op_len_fl _ _ _ underlying29 rfl (by decide) (map_len _)),zp rfl (oB rfl (ibind (f := Value.int .i64) (Option.some.inj hv5))),z1 rfl,z1 rfl,zp rfl (op_ix_fr _ _ _ _ _ _ _ _ underlying52 sz48 (by decide) rfl rfl rfl (ix_ok hv6).1 (gflat_lt T_Mail.ilen (ix_ok hv6).2) rfl),zp rfl (op_fieldAddr_e _ _ _ _ _ _ _ underlying48 rfl sz9 rfl rfl rfl),zp rfl (op_load_fr _ _ _ _ _ _ _ underlying9 rfl rfl rfl (gflat_cell T_Mail.ilen hv7 rfl) (.v _)),zp rfl (oN underlying9 rfl),zp rfl (oB rfl (ibind (f := Value.int .i64) (Option.some.inj hv8))),z1 rfl,z1 rfl,zp rfl (op_ix_fr _ _ _ _ _ _ _ _ underlying52 sz48 (by decide) rfl rfl rfl (ix_ok hv9).1 (gflat_lt T_Mail.ilen (ix_ok hv9).2) rfl),zp rfl (op_fieldAddr_e _ _ _ _ _ _ _ underlying48 rfl sz45 rfl rfl rfl),zp rfl (op_fieldAddr_e _ _ _ _ _ _ _ underlying45 rfl sz9 rfl rfl rfl),zp rfl (op_load_fr _ _ _ _ _ _ _ underlying9 rfl rfl rfl (gflat_cell T_Mail.ilen hv10 rfl) (.v _)),zp rfl (oN underlying9 rfl),zp rfl (oB rfl (ibind (f := Value.int .i64) (Option.some.inj hv11))),z1 rfl,z1 rfl,zp rfl (op_ix_fr _ _ _ _ _ _ _ _ underlying52 sz48 (by decide) rfl rfl rfl (ix_ok hv12).1 (gflat_lt T_Mail.ilen (ix_ok hv12).2) rfl),zp rfl (op_fieldAddr_e _ _ _ _ _ _ _ underlying48 rfl sz45 rfl rfl rfl),zp rfl (op_fieldAddr_e _ _ _ _ _ _ _ underlying45 rfl sz9 rfl rfl rfl),zp rfl (op_load_fr _ _ _ _ _ _ _ underlying9 rfl rfl rfl (gflat_cell T_Mail.ilen hv13 rfl) (.v _)),zp rfl (oN underlying9 rfl),zp rfl (oB rfl (ibind (f := Value.int .i64) (Option.some.inj hv14))),zp rfl (LOp.drop [_] (op_assign _ _ _ _ rfl rfl)),zz⟩ ?_
     refine pt_then (ht_seq ?_)
     refine ht_seq ?_
     obtain ⟨v15, hv15, h⟩ := bind_some h
     obtain ⟨v16, hv16, h⟩ := bind_some h
     refine zg hn [_,_,_,(46,.fr .shr true 8 (List.flatten (List.map T_Mail.ienc l))),(47,vi s67),(48,.eref (.slot 46) (v15 * 8)),(49,.eref (.slot 46) (v15 * 8 + 3)),(50,.fl .shr 3 (List.flatten (List.map T_Path.enc v16.To))),(51,vi (v16.To.length : Int)),(52,vb (decide (40 < (v16.To.length : Int))))] [0,1,2] [0,1,2,9] [zq [0] 3 46,zq [1] 4 47,zq [3,4] 5 48,zq [5,3] 6 49,zq [6,3] 7 50,zq [7] 8 51,zq [8] 9 52] [(_,_),(_,_),(_,_),(_,_)] rfl ⟨z1 rfl,z1 rfl,zp rfl (op_ix_fr _ _ _ _ _ _ _ _ underlying52 sz48 (by decide) rfl rfl rfl (ix_ok hv15).1 (gflat_lt T_Mail.ilen (ix_ok hv15).2) rfl),zp rfl (op_fieldAddr_e _ _ _ _ _ _ _ underlying48 rfl sz46 rfl rfl rfl),zp rfl (op_load_fr _ _ _ _ _ _ _ underlying46 rfl rfl rfl (gflat_cell T_Mail.ilen hv16 rfl) (.fl _ _ rfl)),zp rfl (op_len_fl _ _ _ underlying46 rfl (by decide) (flat_len T_Path.len _)),z4 rfl rfl,zz⟩ ?_
     refine pt_then ?_
     refine ht_cond _ rfl (fun hb93 => ?_) (fun hb93 => ?_)
     ·have h := cond_t hb93 h
      refine zgg hn [_,_,_,_,(2,vb true)] [0,1,2,3] [4] [zq [] 4 2] [(_,_)] rfl ⟨z2 rfl,zz⟩ ?_
      refine ht_ret ?_
      refine pt_r_then ?_
      refine pt_r_in ?_
      refine pt_r_then ?_
      refine pt_r_then ?_
      refine pt_r_in ?_
      refine pt_r_then ?_
      have h := hr88 _ (ho89 _ (Option.some.inj h).symm).symm
      obtain rfl := Option.some.inj h
      exact pt_ret hio rfl (.tmp _ _ .nil) rfl rfl
     ·have h := cond_f hb93 h
      refine ht_skip ?_
      refine pt_then ?_
      refine zgg hn [_,_,_,_,(5,vi 0)] [0,1,2,3] [0,1,2,4] [zq [] 4 5] [(_,_),(_,_),(_,_),(_,_)] rfl ⟨z2 rfl,zz⟩ ?_
      refine ht_loopS h (fun ((s98, s99) : Int × Int) => [(0, .fr .shr true 8 (List.flatten (List.map T_Mail.ienc l))), (4, .v (.int .i64 s67)), (3, .v (.int .i64 s98)), (5, .v (.int .i64 s99))]) (fun (s101 : Int) => [(0, .fr .shr true 8 (List.flatten (List.map T_Mail.ienc l))), (4, .v (.int .i64 s67)), (3, .v (.int .i64 s101))]) ?_ ?_
      ·rintro s101 h
       refine pt_inb ?_
       refine pt_then ?_
       obtain ⟨v46, hv46, h⟩ := bind_some h
       refine zg hn [_,_,_,(13,vi s67),(14,vi v46),(4,vi v46)] [0,1,2] [0,2,5] [zq [1] 3 13,zq [3] 4 14,⟨[4],[1],[5],[(.slot 4)]⟩] [(_,_),(_,_),(_,_)] rfl ⟨z1 rfl,zp rfl (oB rfl (ibind (f := Value.int .i64) (Option.some.inj hv46))),zp rfl (LOp.drop [_] (op_assign _ _ _ _ rfl rfl)),zz⟩ ?_
       exact pt_next _ (Option.some.inj h).symm rfl
      ·rintro u102 hl103 hr104 ⟨s98, s99⟩ rr107 h ho105
       refine ht_seq ?_
       refine ht_seq ?_
       obtain ⟨v18, hv18, h⟩ := bind_some h
       obtain ⟨v19, hv19, h⟩ := bind_some h
       refine zg hn [_,_,_,_,(53,vi s99),(54,.fr .shr true 8 (List.flatten (List.map T_Mail.ienc l))),(55,vi s67),(56,.eref (.slot 54) (v18 * 8)),(57,.eref (.slot 54) (v18 * 8 + 3)),(58,.fl .shr 3 (List.flatten (List.map T_Path.enc v19.To))),(59,vi (v19.To.length : Int)),(60,vb (decide (s99 < (v19.To.length : Int))))] [0,1,2,3] [0,1,2,3,11] [zq [3] 4 53,zq [0] 5 54,zq [1] 6 55,zq [5,6] 7 56,zq [7,5] 8 57,zq [8,5] 9 58,zq [9] 10 59,zq [4,10] 11 60] [(_,_),(_,_),(_,_),(_,_),(_,_)] rfl ⟨z1 rfl,z1 rfl,z1 rfl,zp rfl (op_ix_fr _ _ _ _ _ _ _ _ underlying52 sz48 (by decide) rfl rfl rfl (ix_ok hv18).1 (gflat_lt T_Mail.ilen (ix_ok hv18).2) rfl),zp rfl (op_fieldAddr_e _ _ _ _ _ _ _ underlying48 rfl sz46 rfl rfl rfl),zp rfl (op_load_fr _ _ _ _ _ _ _ underlying46 rfl rfl rfl (gflat_cell T_Mail.ilen hv19 rfl) (.fl _ _ rfl)),zp rfl (op_len_fl _ _ _ underlying46 rfl (by decide) (flat_len T_Path.len _)),z4 rfl rfl,zz⟩ ?_
       refine pt_then ?_
       refine ht_cond _ rfl (fun hb108 => ?_) (fun hb108 => ?_)
       ·have h := cond_t hb108 h
        refine ht_skip ?_
        refine pt_then (ht_seq ?_)
        refine ht_block ?_
        obtain ⟨v21, hv21, h⟩ := bind_some h
        obtain ⟨v22, hv22, h⟩ := bind_some h
        obtain ⟨v23, hv23, h⟩ := bind_some h
        obtain ⟨v24, hv24, h⟩ := bind_some h
        obtain ⟨v25, hv25, h⟩ := bind_some h
        obtain ⟨v26, hv26, h⟩ := bind_some h
        obtain ⟨v27, hv27, h⟩ := bind_some h
        obtain ⟨v28, hv28, h⟩ := bind_some h
        obtain ⟨v29, hv29, h⟩ := bind_some h
        obtain ⟨v30, hv30, h⟩ := bind_some h
        refine ht_anyR (by kernel_rfl) hn (El := (_ :: _ :: _ :: _ :: _ :: (63, .v (.int .i64 s98)) :: (64, .fr .shr true 8 (List.flatten (List.map T_Mail.ienc l))) :: (65, .v (.int .i64 s67)) :: (66, .eref (.slot 64) (v21 * 8)) :: (67, .eref (.slot 64) (v21 * 8 + 3)) :: (68, .fl .shr 3 (List.flatten (List.map T_Path.enc v22.To))) :: (69, .v (.int .i64 s99)) :: (70, .eref (.slot 68) (v23 * 3)) :: (71, .eref (.slot 68) (v23 * 3 + 1)) :: (72, .v (.string v24.Local)) :: (73, .v (.int .i64 (v24.Local.size : Int))) :: (74, .v (.int .i64 v25)) :: (75, .fr .shr true 8 (List.flatten (List.map T_Mail.ienc l))) :: (76, .v (.int .i64 s67)) :: (77, .eref (.slot 75) (v26 * 8)) :: (78, .eref (.slot 75) (v26 * 8 + 3)) :: (79, .fl .shr 3 (List.flatten (List.map T_Path.enc v27.To))) :: (80, .v (.int .i64 s99)) :: (81, .eref (.slot 79) (v28 * 3)) :: (82, .eref (.slot 79) (v28 * 3 + 2)) :: (83, .v (.string v29.Domain)) :: (84, .v (.int .i64 (v29.Domain.size : Int))) :: (85, .v (.int .i64 v30)) :: (3, .v (.int .i64 v30)) :: [])) (init := [0, 1, 2, 3, 4]) (fin := [0, 1, 3, 28]) (sps := (zq [2] 5 63 :: zq [0] 6 64 :: zq [1] 7 65 :: zq [6,7] 8 66 :: zq [8,6] 9 67 :: zq [9,6] 10 68 :: zq [3] 11 69 :: zq [10,11] 12 70 :: zq [12,10] 13 71 :: zq [13,10] 14 72 :: zq [14] 15 73 :: zq [5,15] 16 74 :: zq [0] 17 75 :: zq [1] 18 76 :: zq [17,18] 19 77 :: zq [19,17] 20 78 :: zq [20,17] 21 79 :: zq [3] 22 80 :: zq [21,22] 23 81 :: zq [23,21] 24 82 :: zq [24,21] 25 83 :: zq [25] 26 84 :: zq [16,26] 27 85 :: ⟨[27], [2], [28], [(.slot 3)]⟩ :: [])) (es' := [(_,_),(_,_),(_,_),(3, .v (.int .i64 v30))]) (by kernel_rfl) rfl rfl ⟨z1 rfl,z1 rfl,z1 rfl,zp rfl (op_ix_fr _ _ _ _ _ _ _ _ underlying52 sz48 (by decide) rfl rfl rfl (ix_ok hv21).1 (gflat_lt T_Mail.ilen (ix_ok hv21).2) rfl),zp rfl (op_fieldAddr_e _ _ _ _ _ _ _ underlying48 rfl sz46 rfl rfl rfl),zp rfl (op_load_fr _ _ _ _ _ _ _ underlying46 rfl rfl rfl (gflat_cell T_Mail.ilen hv22 rfl) (.fl _ _ rfl)),z1 rfl,zp rfl (op_ix _ _ _ _ _ _ _ _ underlying46 sz45 (by decide) rfl rfl rfl (ix_ok hv23).1 (flat_lt T_Path.len (ix_ok hv23).2) rfl),zp rfl (op_fieldAddr_e _ _ _ _ _ _ _ underlying45 rfl sz9 rfl rfl rfl),zp rfl (op_load_e _ _ _ _ _ _ underlying9 rfl rfl rfl (flat_cell T_Path.len hv24 rfl)),zp rfl (oN underlying9 rfl),zp rfl (oB rfl (ibind (f := Value.int .i64) (Option.some.inj hv25))),z1 rfl,z1 rfl,zp rfl (op_ix_fr _ _ _ _ _ _ _ _ underlying52 sz48 (by decide) rfl rfl rfl (ix_ok hv26).1 (gflat_lt T_Mail.ilen (ix_ok hv26).2) rfl),zp rfl (op_fieldAddr_e _ _ _ _ _ _ _ underlying48 rfl sz46 rfl rfl rfl),zp rfl (op_load_fr _ _ _ _ _ _ _ underlying46 rfl rfl rfl (gflat_cell T_Mail.ilen hv27 rfl) (.fl _ _ rfl)),z1 rfl,zp rfl (op_ix _ _ _ _ _ _ _ _ underlying46 sz45 (by decide) rfl rfl rfl (ix_ok hv28).1 (flat_lt T_Path.len (ix_ok hv28).2) rfl),zp rfl (op_fieldAddr_e _ _ _ _ _ _ _ underlying45 rfl sz9 rfl rfl rfl),zp rfl (op_load_e _ _ _ _ _ _ underlying9 rfl rfl rfl (flat_cell T_Path.len hv29 rfl)),zp rfl (oN underlying9 rfl),zp rfl (oB rfl (ibind (f := Value.int .i64) (Option.some.inj hv30))),zp rfl (LOp.drop [_] (op_assign _ _ _ _ rfl rfl)),zz⟩ ?_
        refine pt_inb ?_
        refine pt_then ?_
        obtain ⟨v31, hv31, h⟩ := bind_some h
        refine zg hn [_,_,_,_,(61,vi s99),(62,vi v31),(5,vi v31)] [0,1,2,3] [0,1,3,6] [zq [2] 4 61,zq [4] 5 62,⟨[5],[2],[6],[(.slot 5)]⟩] [(_,_),(_,_),(_,_),(_,_)] rfl ⟨z1 rfl,zp rfl (oB rfl (ibind (f := Value.int .i64) (Option.some.inj hv31))),zp rfl (LOp.drop [_] (op_assign _ _ _ _ rfl rfl)),zz⟩ ?_
        exact pt_next _ (Option.some.inj h).symm rfl
       ·have h := cond_f hb108 h
        refine ht_exit ?_
        refine pt_x_then ?_
        refine pt_x_then ?_
        refine pt_x_in ?_
        refine pt_pick [0, 1, 2] (by kernel_rfl) (es' := [(_,_),(_,_),(_,_)]) rfl ?_
        exact hl103 _ (ho105 _ (Option.some.inj h).symm).symm
    ·have h := cond_f hb92 h
     refine ht_exit ?_
     refine pt_x_then ?_
     refine pt_x_then ?_
     refine pt_x_in ?_
     refine pt_pick [1] (by kernel_rfl) (es' := [(_,_)]) rfl ?_
     exact hl87 _ (ho89 _ (Option.some.inj h).symm).symm
theorem ok_wherrylaw18_Heavy (l : (List T_Rec)) (r : Bool) (h : Sh.wherrylaw18_Heavy l = some r) : FnOK Tryd.prog 4 [.fr .shr true 15 (List.flatten (List.map T_Rec.ienc l))] (.v (.bool r)) := by
  unfold Sh.wherrylaw18_Heavy at h
  refine fn_ok func4 rfl (zl rfl) rfl rfl fun g0 hn hio => ?_
  refine zgg hn [_,(2,vb false)] [0] [0] [zq [] 1 2] [(_,_)] rfl ⟨z2 rfl,zz⟩ ?_
  refine ht_seq ?_
  refine zgg hn [_,(4,.fr .shr true 15 (List.flatten (List.map T_Rec.ienc l))),(5,vi (l.length : Int)),(6,vb (decide (60 < (l.length : Int))))] [0] [0,3] [zq [0] 1 4,zq [1] 2 5,zq [2] 3 6] [(_,_),(_,_)] rfl ⟨z1 rfl,zp rfl (op_len_fr _ _ _ underlying22 rfl (by decide) (gflat_len T_Rec.ilen _)),z4 rfl rfl,zz⟩ ?_
  refine ht_cond _ rfl (fun hb1 => ?_) (fun hb1 => ?_)
  ·have h := cond_t hb1 h
   refine zgg hn [_,_,(2,vb true)] [0,1] [2] [zq [] 2 2] [(_,_)] rfl ⟨z2 rfl,zz⟩ ?_
   refine ht_ret ?_
   refine pt_r_then ?_
   obtain rfl := Option.some.inj h
   exact pt_ret hio rfl (.tmp _ _ .nil) rfl rfl
  ·have h := cond_f hb1 h
   refine ht_skip ?_
   refine pt_then (ht_seq ?_)
   refine zgg hn [_,_,(3,vi 0)] [0,1] [0,2] [zq [] 2 3] [(_,_),(_,_)] rfl ⟨z2 rfl,zz⟩ ?_
   refine ht_loopS h (fun (s23 : Int) => [(0, .fr .shr true 15 (List.flatten (List.map T_Rec.ienc l))), (3, .v (.int .i64 s23))]) (fun (() : Unit) => []) ?_ ?_
   ·rintro ⟨⟩ h
    refine pt_then ?_
    refine zgg hn [(2,vb false)] [] [0] [zq [] 0 2] [(_,_)] rfl ⟨z2 rfl,zz⟩ ?_
    refine ht_ret ?_
    obtain rfl := Option.some.inj h
    exact pt_ret hio rfl (.tmp _ _ .nil) rfl rfl
   ·rintro u30 hl31 hr32 s23 rr35 h ho33
    refine ht_seq ?_
    refine zgg hn [_,_,(7,vi s23),(8,.fr .shr true 15 (List.flatten (List.map T_Rec.ienc l))),(9,vi (l.length : Int)),(10,vb (decide (s23 < (l.length : Int))))] [0,1] [0,1,5] [zq [1] 2 7,zq [0] 3 8,zq [3] 4 9,zq [2,4] 5 10] [(_,_),(_,_),(_,_)] rfl ⟨z1 rfl,z1 rfl,zp rfl (op_len_fr _ _ _ underlying22 rfl (by decide) (gflat_len T_Rec.ilen _)),z4 rfl rfl,zz⟩ ?_
    refine ht_cond _ rfl (fun hb36 => ?_) (fun hb36 => ?_)
    ·have h := cond_t hb36 h
     refine ht_skip ?_
     refine pt_then (ht_seq ?_)
     refine ht_block ?_
     refine ht_seq ?_
     refine ht_joinS h (fun (s37 : Bool) => [(0, .fr .shr true 15 (List.flatten (List.map T_Rec.ienc l))), (3, .v (.int .i64 s23)), (37, .v (.bool s37))]) ?_ ?_
     ·rintro s37 h
      refine pt_then ?_
      refine ht_cond _ rfl (fun hb41 => ?_) (fun hb41 => ?_)
      ·have h := cond_t hb41 h
       refine zgg hn [_,_,_,(2,vb true)] [0,1,2] [3] [zq [] 3 2] [(_,_)] rfl ⟨z2 rfl,zz⟩ ?_
       refine ht_ret ?_
       refine pt_r_in ?_
       refine pt_r_then ?_
       refine pt_r_then ?_
       refine pt_r_in ?_
       refine pt_r_then ?_
       have h := hr32 _ (ho33 _ (Option.some.inj h).symm).symm
       obtain rfl := Option.some.inj h
       exact pt_ret hio rfl (.tmp _ _ .nil) rfl rfl
      ·have h := cond_f hb41 h
       refine ht_skip ?_
       refine pt_inb ?_
       refine pt_then ?_
       obtain ⟨v15, hv15, h⟩ := bind_some h
       refine zg hn [_,_,_,(11,vi s23),(12,vi v15),(3,vi v15)] [0,1,2] [0,5] [zq [1] 3 11,zq [3] 4 12,⟨[4],[1],[5],[(.slot 3)]⟩] [(_,_),(_,_)] rfl ⟨z1 rfl,zp rfl (oB rfl (ibind (f := Value.int .i64) (Option.some.inj hv15))),zp rfl (LOp.drop [_] (op_assign _ _ _ _ rfl rfl)),zz⟩ ?_
       exact pt_next _ (Option.some.inj h).symm rfl
     ·intro u38 h hl39 hr40
      obtain ⟨v3, hv3, h⟩ := bind_some h
      obtain ⟨v4, hv4, h⟩ := bind_some h
      refine cond_some h (fun hg6_7 h => ?_) (fun hg6_7 h => ?_)
      ·refine zg hn (_::_::_::(13,.fr .shr true 15 (List.flatten (List.map T_Rec.ienc l)))::(14,vi s23)::(15,.eref (.slot 13) (v3 * 15))::(16,.eref (.slot 13) (v3 * 15 + 14))::(17,.fl .shr 1 (List.map (Value.int .u8) v4.Data))::(18,vi (v4.Data.length : Int))::(19,vb (decide (600 < (v4.Data.length : Int))))::(20,vb true)::(21,.v undef)::(22,.v undef)::(23,.v undef)::(24,.v undef)::(25,.v undef)::(26,.v undef)::(27,.v undef)::(28,vb true)::(29,vb true)::(30,.v undef)::(31,.v undef)::(32,.v undef)::(33,.v undef)::(34,.v undef)::(35,.v undef)::(36,.v undef)::(37,vb true)::[]) [0,1,2] [0,1,27] (zq [0] 3 13::zq [1] 4 14::zq [3,4] 5 15::zq [5,3] 6 16::zq [6,3] 7 17::zq [7] 8 18::zq [8] 9 19::zq [9] 10 20::zq [10] 11 21::zq [10] 12 22::zq [10] 13 23::zq [10] 14 24::zq [10] 15 25::zq [10] 16 26::zq [10] 17 27::zq [10] 18 28::zq [18] 19 29::zq [19] 20 30::zq [19] 21 31::zq [19] 22 32::zq [19] 23 33::zq [19] 24 34::zq [19] 25 35::zq [19] 26 36::zq [19] 27 37::[]) [(_,_),(_,_),(_,_)] rfl ⟨z1 rfl,z1 rfl,zp rfl (op_ix_fr _ _ _ _ _ _ _ _ underlying22 sz50 (by decide) rfl rfl rfl (ix_ok hv3).1 (gflat_lt T_Rec.ilen (ix_ok hv3).2) rfl),zp rfl (op_fieldAddr_e _ _ _ _ _ _ _ underlying50 rfl sz29 rfl rfl rfl),zp rfl (op_load_fr _ _ _ _ _ _ _ underlying29 rfl rfl rfl (gflat_cell T_Rec.ilen hv4 rfl) (.fl _ _ rfl)),zp rfl (op_len_fl _ _ _ underlying29 rfl (by decide) (map_len _)),z4 rfl rfl,z8 hg6_7 rfl,zf rfl,zf rfl,zf rfl,zf rfl,zf rfl,zf rfl,zf rfl,z3 true rfl,z1 rfl,zf rfl,zf rfl,zf rfl,zf rfl,zf rfl,zf rfl,zf rfl,z3 true rfl,zz⟩ ?_
       exact hl39 _ (Option.some.inj h).symm
      ·obtain ⟨v5, hv5, h⟩ := bind_some h
       obtain ⟨v6, hv6, h⟩ := bind_some h
       refine cond_some h (fun hg6_16 h => ?_) (fun hg6_16 h => ?_)
       ·refine zg hn (_::_::_::(13,.fr .shr true 15 (List.flatten (List.map T_Rec.ienc l)))::(14,vi s23)::(15,.eref (.slot 13) (v3 * 15))::(16,.eref (.slot 13) (v3 * 15 + 14))::(17,.fl .shr 1 (List.map (Value.int .u8) v4.Data))::(18,vi (v4.Data.length : Int))::(19,vb (decide (600 < (v4.Data.length : Int))))::(20,vb false)::(21,.fr .shr true 15 (List.flatten (List.map T_Rec.ienc l)))::(22,vi s23)::(23,.eref (.slot 21) (v5 * 15))::(24,.eref (.slot 21) (v5 * 15 + 10))::(25,.fl .shr 1 (List.map (Value.int .i64) v6.Ids))::(26,vi (v6.Ids.length : Int))::(27,vb (decide (60 < (v6.Ids.length : Int))))::(28,vb (decide (60 < (v6.Ids.length : Int))))::(29,vb true)::(30,.v undef)::(31,.v undef)::(32,.v undef)::(33,.v undef)::(34,.v undef)::(35,.v undef)::(36,.v undef)::(37,vb true)::[]) [0,1,2] [0,1,27] (zq [0] 3 13::zq [1] 4 14::zq [3,4] 5 15::zq [5,3] 6 16::zq [6,3] 7 17::zq [7] 8 18::zq [8] 9 19::zq [9] 10 20::zq [10,0] 11 21::zq [10,1] 12 22::zq [10,11,12] 13 23::zq [10,13,11] 14 24::zq [10,14,11] 15 25::zq [10,15] 16 26::zq [10,16] 17 27::zq [10,17] 18 28::zq [18] 19 29::zq [19] 20 30::zq [19] 21 31::zq [19] 22 32::zq [19] 23 33::zq [19] 24 34::zq [19] 25 35::zq [19] 26 36::zq [19] 27 37::[]) [(_,_),(_,_),(_,_)] rfl ⟨z1 rfl,z1 rfl,zp rfl (op_ix_fr _ _ _ _ _ _ _ _ underlying22 sz50 (by decide) rfl rfl rfl (ix_ok hv3).1 (gflat_lt T_Rec.ilen (ix_ok hv3).2) rfl),zp rfl (op_fieldAddr_e _ _ _ _ _ _ _ underlying50 rfl sz29 rfl rfl rfl),zp rfl (op_load_fr _ _ _ _ _ _ _ underlying29 rfl rfl rfl (gflat_cell T_Rec.ilen hv4 rfl) (.fl _ _ rfl)),zp rfl (op_len_fl _ _ _ underlying29 rfl (by decide) (map_len _)),z4 rfl rfl,z8 hg6_7 rfl,zr' rfl (oM rfl),zr' rfl (oM rfl),zr' rfl (op_ix_fr _ _ _ _ _ _ _ _ underlying22 sz50 (by decide) rfl rfl rfl (ix_ok hv5).1 (gflat_lt T_Rec.ilen (ix_ok hv5).2) rfl),zr' rfl (op_fieldAddr_e _ _ _ _ _ _ _ underlying50 rfl sz28 rfl rfl rfl),zr' rfl (op_load_fr _ _ _ _ _ _ _ underlying28 rfl rfl rfl (gflat_cell T_Rec.ilen hv6 rfl) (.fl _ _ rfl)),zr' rfl (op_len_fl _ _ _ underlying28 rfl (by decide) (map_len _)),zr' rfl (oB rfl rfl),z3 false rfl,z8 hg6_16 rfl,zf rfl,zf rfl,zf rfl,zf rfl,zf rfl,zf rfl,zf rfl,z3 true rfl,zz⟩ ?_
        exact hl39 _ (Option.some.inj h).symm
       ·obtain ⟨v7, hv7, h⟩ := bind_some h
        obtain ⟨v8, hv8, h⟩ := bind_some h
        obtain ⟨v9, hv9, h⟩ := bind_some h
        refine zg hn (_::_::_::(13,.fr .shr true 15 (List.flatten (List.map T_Rec.ienc l)))::(14,vi s23)::(15,.eref (.slot 13) (v3 * 15))::(16,.eref (.slot 13) (v3 * 15 + 14))::(17,.fl .shr 1 (List.map (Value.int .u8) v4.Data))::(18,vi (v4.Data.length : Int))::(19,vb (decide (600 < (v4.Data.length : Int))))::(20,vb false)::(21,.fr .shr true 15 (List.flatten (List.map T_Rec.ienc l)))::(22,vi s23)::(23,.eref (.slot 21) (v5 * 15))::(24,.eref (.slot 21) (v5 * 15 + 10))::(25,.fl .shr 1 (List.map (Value.int .i64) v6.Ids))::(26,vi (v6.Ids.length : Int))::(27,vb (decide (60 < (v6.Ids.length : Int))))::(28,vb (decide (60 < (v6.Ids.length : Int))))::(29,vb false)::(30,.fr .shr true 15 (List.flatten (List.map T_Rec.ienc l)))::(31,vi s23)::(32,.eref (.slot 30) (v7 * 15))::(33,.eref (.slot 30) (v7 * 15 + 1))::(34,.agg [vb v8.Mail.From.Null,vs v8.Mail.From.Local,vs v8.Mail.From.Domain,.fl .shr 3 (List.flatten (List.map T_Path.enc v8.Mail.To)),.fl .shr 1 (List.map (Value.int .u8) v8.Mail.Body),vb v8.Mail.Quiet,vs v8.Mail.Helo,vi v8.Mail.At])::(35,.fr (.own 48) true 8 (List.flatten (List.map T_Mail.ienc [(T_Mail.mk (T_Path.mk v8.Mail.From.Null v8.Mail.From.Local v8.Mail.From.Domain) v8.Mail.To v8.Mail.Body v8.Mail.Quiet v8.Mail.Helo v8.Mail.At)])))::(36,vb v9)::(37,vb v9)::[]) [0,1,2] [0,1,27] (zq [0] 3 13::zq [1] 4 14::zq [3,4] 5 15::zq [5,3] 6 16::zq [6,3] 7 17::zq [7] 8 18::zq [8] 9 19::zq [9] 10 20::zq [10,0] 11 21::zq [10,1] 12 22::zq [10,11,12] 13 23::zq [10,13,11] 14 24::zq [10,14,11] 15 25::zq [10,15] 16 26::zq [10,16] 17 27::zq [10,17] 18 28::zq [18] 19 29::zq [19,0] 20 30::zq [19,1] 21 31::zq [19,20,21] 22 32::zq [19,22,20] 23 33::zq [19,23,20] 24 34::zq [19,24] 25 35::zq [19,25] 26 36::zq [19,26] 27 37::[]) [(_,_),(_,_),(_,_)] rfl ⟨z1 rfl,z1 rfl,zp rfl (op_ix_fr _ _ _ _ _ _ _ _ underlying22 sz50 (by decide) rfl rfl rfl (ix_ok hv3).1 (gflat_lt T_Rec.ilen (ix_ok hv3).2) rfl),zp rfl (op_fieldAddr_e _ _ _ _ _ _ _ underlying50 rfl sz29 rfl rfl rfl),zp rfl (op_load_fr _ _ _ _ _ _ _ underlying29 rfl rfl rfl (gflat_cell T_Rec.ilen hv4 rfl) (.fl _ _ rfl)),zp rfl (op_len_fl _ _ _ underlying29 rfl (by decide) (map_len _)),z4 rfl rfl,z8 hg6_7 rfl,zr' rfl (oM rfl),zr' rfl (oM rfl),zr' rfl (op_ix_fr _ _ _ _ _ _ _ _ underlying22 sz50 (by decide) rfl rfl rfl (ix_ok hv5).1 (gflat_lt T_Rec.ilen (ix_ok hv5).2) rfl),zr' rfl (op_fieldAddr_e _ _ _ _ _ _ _ underlying50 rfl sz28 rfl rfl rfl),zr' rfl (op_load_fr _ _ _ _ _ _ _ underlying28 rfl rfl rfl (gflat_cell T_Rec.ilen hv6 rfl) (.fl _ _ rfl)),zr' rfl (op_len_fl _ _ _ underlying28 rfl (by decide) (map_len _)),zr' rfl (oB rfl rfl),z3 false rfl,z8 hg6_16 rfl,zr' rfl (oM rfl),zr' rfl (oM rfl),zr' rfl (op_ix_fr _ _ _ _ _ _ _ _ underlying22 sz50 (by decide) rfl rfl rfl (ix_ok hv7).1 (gflat_lt T_Rec.ilen (ix_ok hv7).2) rfl),zr' rfl (op_fieldAddr_e _ _ _ _ _ _ _ underlying50 rfl sz48 rfl rfl rfl),zr' rfl (op_loadA_fr _ _ _ _ _ _ _ _ underlying48 rfl sz48 rfl rfl (gflat_seg T_Rec.ilen hv8 (zl rfl) rfl) (.cons (.v _) (.cons (.v _) (.cons (.v _) (.cons (.fl _ _ rfl) (.cons (.fl _ _ rfl) (.cons (.v _) (.cons (.v _) (.cons (.v _) (.nil))))))))) rfl (by decide)),zr' rfl (op_build1_fr _ _ _ 8 (.agg #[.bool false, .string ByteArray.empty, .string ByteArray.empty, .slice none 0 0, .slice none 0 0, .bool false, .string ByteArray.empty, .int .i64 0]) true _ _ underlying52 sz48 zr48 rfl rfl (.cons (.v _) (.cons (.v _) (.cons (.v _) (.cons (.shr _ _ rfl rfl) (.cons (.shr _ _ rfl rfl) (.cons (.v _) (.cons (.v _) (.cons (.v _) (.nil))))))))) rfl (by decide) (by decide)),zr' rfl (op_call _ _ 10 _ _ rfl call10 rfl (ok_wherrylaw17_Heavy [(T_Mail.mk (T_Path.mk v8.Mail.From.Null v8.Mail.From.Local v8.Mail.From.Domain) v8.Mail.To v8.Mail.Body v8.Mail.Quiet v8.Mail.Helo v8.Mail.At)] _ hv9) rfl rfl),z3 false rfl,zz⟩ ?_
        exact hl39 _ (Option.some.inj h).symm
    ·have h := cond_f hb36 h
     refine ht_exit ?_
     refine pt_x_then ?_
     refine pt_x_then ?_
     refine pt_x_in ?_
     refine pt_pick [] (by kernel_rfl) (es' := []) rfl ?_
     exact hl31 _ (ho33 _ (Option.some.inj h).symm).symm
theorem ok_spool_New (r : T_Spool) (h : Sh.spool_New  = some r) : FnOK Tryd.prog 11 [] (.agg [.fr (.own 71) false 11 (List.flatten (List.map T_Item.ienc r.Items)), .v (.int .i64 r.Packs), .fl (.own 3) 1 (List.map (Value.int .i64) r.Sent), .fl (.own 5) 1 (List.map (Value.int .u8) r.Part), .v (.int .i64 r.Of), .fl (.own 3) 1 (List.map (Value.int .i64) r.Done)]) := by
  unfold Sh.spool_New at h
  refine fn_ok func11 rfl (zl rfl) rfl rfl fun g0 hn hio => ?_
  refine zgg hn [(0,.box 31 [.v (.slice none 0 0),vi 0,.v (.slice none 0 0),.v (.slice none 0 0),vi 0,.v (.slice none 0 0)])] [] [0] [zq [] 0 0] [(_,_)] rfl ⟨zp rfl (op_alloc _ _ zr31),zz⟩ ?_
  refine zgg hn [_,(1,.agg [.v (.slice none 0 0),vi 0,.v (.slice none 0 0),.v (.slice none 0 0),vi (-1),.v (.slice none 0 0)]),(0,.box 31 [.v (.slice none 0 0),vi 0,.v (.slice none 0 0),.v (.slice none 0 0),vi (-1),.v (.slice none 0 0)])] [0] [2] [zq [] 1 1,⟨[1],[0],[2],[.cell 0 0,.cell 0 1,.cell 0 2,.cell 0 3,.cell 0 4,.cell 0 5]⟩] [(_,_)] rfl ⟨zp rfl (op_build _ _ _ _ [1, 1, 1, 1, 1, 1] _ _ underlying31 zr31 (fs31 _ underlying31) (.copy _ Src.nil) rfl rfl rfl),zp rfl (oS sz31 rfl),zz⟩ ?_
  refine ht_ret ?_
  refine pt_sub (fs := [(0, .box 31 [.fr (.own 71) false 11 (List.flatten (List.map T_Item.ienc [])), .v (.int .i64 0), .fl (.own 3) 1 (List.map (Value.int .i64) []), .fl (.own 5) 1 (List.map (Value.int .u8) []), .v (.int .i64 (-1)), .fl (.own 3) 1 (List.map (Value.int .i64) [])])]) (.box _ _ (subs_cons (sub_nil_fr 71 false 11) (subs_cons (sub_refl _) (subs_cons (sub_nil 3 1) (subs_cons (sub_nil 5 1) (subs_cons (sub_refl _) (subs_cons (sub_nil 3 1) (subs_nil))))))) rfl .nil) ?_
  obtain rfl := Option.some.inj h
  exact pt_ret hio rfl (.cellA _ _ _ _ underlying31 rfl sz31 .nil) rfl rfl
theorem ok_spool_rest_sh (p_r : T_Rec) (r : T_Rec) (h : Sh.spool_rest_sh p_r = some r) : FnOK Tryd.prog 18 [.agg [.v (.int .i64 p_r.Kind), .v (.bool p_r.Mail.From.Null), .v (.string p_r.Mail.From.Local), .v (.string p_r.Mail.From.Domain), .fl .shr 3 (List.flatten (List.map T_Path.enc p_r.Mail.To)), .fl .shr 1 (List.map (Value.int .u8) p_r.Mail.Body), .v (.bool p_r.Mail.Quiet), .v (.string p_r.Mail.Helo), .v (.int .i64 p_r.Mail.At), .v (.int .i64 p_r.Id), .fl .shr 1 (List.map (Value.int .i64) p_r.Ids), .v (.int .i64 p_r.Origin), .v (.int .i64 p_r.Number), .v (.int .i64 p_r.Offset), .fl .shr 1 (List.map (Value.int .u8) p_r.Data)]] (.agg [.v (.int .i64 r.Kind), .v (.bool r.Mail.From.Null), .v (.string r.Mail.From.Local), .v (.string r.Mail.From.Domain), .fl .shr 3 (List.flatten (List.map T_Path.enc r.Mail.To)), .fl .shr 1 (List.map (Value.int .u8) r.Mail.Body), .v (.bool r.Mail.Quiet), .v (.string r.Mail.Helo), .v (.int .i64 r.Mail.At), .v (.int .i64 r.Id), .fl .shr 1 (List.map (Value.int .i64) r.Ids), .v (.int .i64 r.Origin), .v (.int .i64 r.Number), .v (.int .i64 r.Offset), .fl .shr 1 (List.map (Value.int .u8) r.Data)]) := by
  unfold Sh.spool_rest_sh at h
  refine fn_ok func18 rfl (zl rfl) rfl rfl fun g0 hn hio => ?_
  refine zgg hn [_,(1,.box 50 [vi p_r.Kind,vb p_r.Mail.From.Null,vs p_r.Mail.From.Local,vs p_r.Mail.From.Domain,.fl .shr 3 (List.flatten (List.map T_Path.enc p_r.Mail.To)),.fl .shr 1 (List.map (Value.int .u8) p_r.Mail.Body),vb p_r.Mail.Quiet,vs p_r.Mail.Helo,vi p_r.Mail.At,vi p_r.Id,.fl .shr 1 (List.map (Value.int .i64) p_r.Ids),vi p_r.Origin,vi p_r.Number,vi p_r.Offset,.fl .shr 1 (List.map (Value.int .u8) p_r.Data)]),(2,.box 50 [vi 0,vb false,vs z0,vs z0,.v (.slice none 0 0),.v (.slice none 0 0),vb false,vs z0,vi 0,vi 0,.v (.slice none 0 0),vi 0,vi 0,vi 0,.v (.slice none 0 0)])] [0] [1,2] [zq [0] 1 1,zq [] 2 2] [(_,_),(_,_)] rfl ⟨zp rfl (op_box _ _ _ _ rfl rfl rfl),zp rfl (op_alloc _ _ zr50),zz⟩ ?_
  refine ht_seq ?_
  refine ht_joinS h (fun ((s40, s41, s42, s43, s44, s45, s46, s47, s48, s49, s50, s51, s52, s53) : Bool × ByteArray × ByteArray × (List T_Path) × (List Int) × Bool × ByteArray × Int × Int × (List Int) × Int × Int × Int × (List Int)) => [(1, .box 50 [.v (.int .i64 p_r.Kind), .v (.bool s40), .v (.string s41), .v (.string s42), .fl .shr 3 (List.flatten (List.map T_Path.enc s43)), .fl .shr 1 (List.map (Value.int .u8) s44), .v (.bool s45), .v (.string s46), .v (.int .i64 s47), .v (.int .i64 s48), .fl .shr 1 (List.map (Value.int .i64) s49), .v (.int .i64 s50), .v (.int .i64 s51), .v (.int .i64 s52), .fl .shr 1 (List.map (Value.int .u8) s53)]), (2, .box 50 [.v (.int .i64 0), .v (.bool false), .v (.string (⟨#[]⟩ : ByteArray)), .v (.string (⟨#[]⟩ : ByteArray)), .v (.slice none 0 0), .v (.slice none 0 0), .v (.bool false), .v (.string (⟨#[]⟩ : ByteArray)), .v (.int .i64 0), .v (.int .i64 0), .v (.slice none 0 0), .v (.int .i64 0), .v (.int .i64 0), .v (.int .i64 0), .v (.slice none 0 0)])]) ?_ ?_
  ·rintro ⟨s40, s41, s42, s43, s44, s45, s46, s47, s48, s49, s50, s51, s52, s53⟩ h
   refine pt_then ?_
   refine zgg hn [_,_,(27,.ptr 1 0),(1,.box 50 [vi 0,vb s40,vs s41,vs s42,.fl .shr 3 (List.flatten (List.map T_Path.enc s43)),.fl .shr 1 (List.map (Value.int .u8) s44),vb s45,vs s46,vi s47,vi s48,.fl .shr 1 (List.map (Value.int .i64) s49),vi s50,vi s51,vi s52,.fl .shr 1 (List.map (Value.int .u8) s53)])] [0,1] [3,1] [zq [0] 2 27,⟨[2],[0],[3],[.cell 1 0]⟩] [(_,_),(_,_)] rfl ⟨zp rfl (oF underlying50 rfl sz3),zp rfl (oS sz3 rfl),zz⟩ ?_
   refine zgg hn [_,_,(28,.agg [vi 0,vb s40,vs s41,vs s42,.fl .shr 3 (List.flatten (List.map T_Path.enc s43)),.fl .shr 1 (List.map (Value.int .u8) s44),vb s45,vs s46,vi s47,vi s48,.fl .shr 1 (List.map (Value.int .i64) s49),vi s50,vi s51,vi s52,.fl .shr 1 (List.map (Value.int .u8) s53)]),(2,.box 50 [vi 0,vb s40,vs s41,vs s42,.fl .shr 3 (List.flatten (List.map T_Path.enc s43)),.fl .shr 1 (List.map (Value.int .u8) s44),vb s45,vs s46,vi s47,vi s48,.fl .shr 1 (List.map (Value.int .i64) s49),vi s50,vi s51,vi s52,.fl .shr 1 (List.map (Value.int .u8) s53)])] [0,1] [3] [zq [0] 2 28,⟨[2],[1],[3],[.cell 2 0,.cell 2 1,.cell 2 2,.cell 2 3,.cell 2 4,.cell 2 5,.cell 2 6,.cell 2 7,.cell 2 8,.cell 2 9,.cell 2 10,.cell 2 11,.cell 2 12,.cell 2 13,.cell 2 14]⟩] [(_,_)] rfl ⟨zp rfl (op_loadA _ _ _ _ _ _ _ underlying50 rfl sz50 rfl rfl (zl rfl) rfl rfl),zp rfl (oS sz50 rfl),zz⟩ ?_
   refine ht_ret ?_
   obtain rfl := Option.some.inj h
   exact pt_ret hio rfl (.cellA _ _ _ _ underlying50 rfl sz50 .nil) rfl rfl
  ·intro u54 h hl55 hr56
   refine zgg hn [_,_,(3,.ptr 1 0),(4,vi p_r.Kind)] [0,1] [0,1,3] [zq [0] 2 3,zq [2,0] 3 4] [(_,_),(_,_),(_,_)] rfl ⟨zp rfl (oF underlying50 rfl sz3),zp rfl (oL underlying3 rfl),zz⟩ ?_
   refine ht_joinS h (fun ((s68, s69, s70, s71, s72, s73, s74, s75, s76, s77, s78, s79, s80, s81) : Bool × ByteArray × ByteArray × (List T_Path) × (List Int) × Bool × ByteArray × Int × Int × (List Int) × Int × Int × Int × (List Int)) => [(1, .box 50 [.v (.int .i64 p_r.Kind), .v (.bool s68), .v (.string s69), .v (.string s70), .fl .shr 3 (List.flatten (List.map T_Path.enc s71)), .fl .shr 1 (List.map (Value.int .u8) s72), .v (.bool s73), .v (.string s74), .v (.int .i64 s75), .v (.int .i64 s76), .fl .shr 1 (List.map (Value.int .i64) s77), .v (.int .i64 s78), .v (.int .i64 s79), .v (.int .i64 s80), .fl .shr 1 (List.map (Value.int .u8) s81)]), (2, .box 50 [.v (.int .i64 0), .v (.bool false), .v (.string (⟨#[]⟩ : ByteArray)), .v (.string (⟨#[]⟩ : ByteArray)), .v (.slice none 0 0), .v (.slice none 0 0), .v (.bool false), .v (.string (⟨#[]⟩ : ByteArray)), .v (.int .i64 0), .v (.int .i64 0), .v (.slice none 0 0), .v (.int .i64 0), .v (.int .i64 0), .v (.int .i64 0), .v (.slice none 0 0)])]) ?_ ?_
   ·rintro ⟨s68, s69, s70, s71, s72, s73, s74, s75, s76, s77, s78, s79, s80, s81⟩ h
    exact hl55 _ (Option.some.inj h).symm
   ·intro u82 h hl83 hr84
    refine ht_block ?_
    refine zgg hn [_,_,_,(6,vb (p_r.Kind == 1)),(5,vb (p_r.Kind == 1))] [0,1,2] [0,1,2,4] [zq [2] 3 6,zq [3] 4 5] [(_,_),(_,_),(_,_),(_,_)] rfl ⟨z4 rfl rfl,z2 rfl,zz⟩ ?_
    refine ht_cond _ rfl (fun hb85 => ?_) (fun hb85 => ?_)
    ·have h := cond_t hb85 h
     refine zg hn [_,_,_,_,(7,.agg [vb false,vs z0,vs z0,.v (.slice none 0 0),.v (.slice none 0 0),vb false,vs z0,vi 0]),(8,.ptr 1 1),(1,.box 50 [vi p_r.Kind,vb false,vs z0,vs z0,.v (.slice none 0 0),.v (.slice none 0 0),vb false,vs z0,vi 0,vi p_r.Id,.fl .shr 1 (List.map (Value.int .i64) p_r.Ids),vi p_r.Origin,vi p_r.Number,vi p_r.Offset,.fl .shr 1 (List.map (Value.int .u8) p_r.Data)]),(9,.ptr 1 9),(1,.box 50 [vi p_r.Kind,vb false,vs z0,vs z0,.v (.slice none 0 0),.v (.slice none 0 0),vb false,vs z0,vi 0,vi 0,.fl .shr 1 (List.map (Value.int .i64) p_r.Ids),vi p_r.Origin,vi p_r.Number,vi p_r.Offset,.fl .shr 1 (List.map (Value.int .u8) p_r.Data)]),(10,.ptr 1 11),(1,.box 50 [vi p_r.Kind,vb false,vs z0,vs z0,.v (.slice none 0 0),.v (.slice none 0 0),vb false,vs z0,vi 0,vi 0,.fl .shr 1 (List.map (Value.int .i64) p_r.Ids),vi 0,vi p_r.Number,vi p_r.Offset,.fl .shr 1 (List.map (Value.int .u8) p_r.Data)])] [0,1,2,3] [10,1] [zq [] 4 7,zq [0] 5 8,⟨[5,4],[0],[6],[.cell 1 1,.cell 1 2,.cell 1 3,.cell 1 4,.cell 1 5,.cell 1 6,.cell 1 7,.cell 1 8]⟩,zq [6] 7 9,⟨[7],[6],[8],[.cell 1 9]⟩,zq [8] 9 10,⟨[9],[8],[10],[.cell 1 11]⟩] [(_,_),(_,_)] rfl ⟨zp rfl (op_build _ _ _ _ [3, 1, 1, 1, 1, 1] _ _ underlying48 zr48 (fs48 _ underlying48) Src.nil rfl rfl rfl),zp rfl (oF underlying50 rfl sz48),zp rfl (oS sz48 rfl),zp rfl (oF underlying50 rfl sz3),zp rfl (oS sz3 rfl),zp rfl (oF underlying50 rfl sz3),zp rfl (oS sz3 rfl),zz⟩ ?_
     refine pt_inb ?_
     refine pt_sub (fs := [(1, .box 50 [.v (.int .i64 p_r.Kind), .v (.bool false), .v (.string (⟨#[]⟩ : ByteArray)), .v (.string (⟨#[]⟩ : ByteArray)), .fl .shr 3 (List.flatten (List.map T_Path.enc [])), .fl .shr 1 (List.map (Value.int .u8) []), .v (.bool false), .v (.string (⟨#[]⟩ : ByteArray)), .v (.int .i64 0), .v (.int .i64 0), .fl .shr 1 (List.map (Value.int .i64) p_r.Ids), .v (.int .i64 0), .v (.int .i64 p_r.Number), .v (.int .i64 p_r.Offset), .fl .shr 1 (List.map (Value.int .u8) p_r.Data)]), (2, .box 50 [.v (.int .i64 0), .v (.bool false), .v (.string (⟨#[]⟩ : ByteArray)), .v (.string (⟨#[]⟩ : ByteArray)), .v (.slice none 0 0), .v (.slice none 0 0), .v (.bool false), .v (.string (⟨#[]⟩ : ByteArray)), .v (.int .i64 0), .v (.int .i64 0), .v (.slice none 0 0), .v (.int .i64 0), .v (.int .i64 0), .v (.int .i64 0), .v (.slice none 0 0)])]) (.box _ _ (subs_cons (sub_refl _) (subs_cons (sub_refl _) (subs_cons (sub_refl _) (subs_cons (sub_refl _) (subs_cons (sub_nil_shr 3) (subs_cons (sub_nil_shr 1) (subs_cons (sub_refl _) (subs_cons (sub_refl _) (subs_cons (sub_refl _) (subs_cons (sub_refl _) (subs_cons (sub_refl _) (subs_cons (sub_refl _) (subs_cons (sub_refl _) (subs_cons (sub_refl _) (subs_cons (sub_refl _) (subs_nil)))))))))))))))) rfl (.same _ .nil)) ?_
     exact hl83 _ (Option.some.inj h).symm
    ·have h := cond_f hb85 h
     refine zgg hn [_,_,_,_,(12,vb (p_r.Kind == 2)),(11,vb (p_r.Kind == 2))] [0,1,2,3] [0,1,2,5] [zq [2] 4 12,zq [4] 5 11] [(_,_),(_,_),(_,_),(_,_)] rfl ⟨z4 rfl rfl,z2 rfl,zz⟩ ?_
     refine ht_cond _ rfl (fun hb86 => ?_) (fun hb86 => ?_)
     ·have h := cond_t hb86 h
      refine zg hn [_,_,_,_,(13,.ptr 1 12),(1,.box 50 [vi p_r.Kind,vb p_r.Mail.From.Null,vs p_r.Mail.From.Local,vs p_r.Mail.From.Domain,.fl .shr 3 (List.flatten (List.map T_Path.enc p_r.Mail.To)),.fl .shr 1 (List.map (Value.int .u8) p_r.Mail.Body),vb p_r.Mail.Quiet,vs p_r.Mail.Helo,vi p_r.Mail.At,vi p_r.Id,.fl .shr 1 (List.map (Value.int .i64) p_r.Ids),vi p_r.Origin,vi 0,vi p_r.Offset,.fl .shr 1 (List.map (Value.int .u8) p_r.Data)]),(14,.ptr 1 10),(1,.box 50 [vi p_r.Kind,vb p_r.Mail.From.Null,vs p_r.Mail.From.Local,vs p_r.Mail.From.Domain,.fl .shr 3 (List.flatten (List.map T_Path.enc p_r.Mail.To)),.fl .shr 1 (List.map (Value.int .u8) p_r.Mail.Body),vb p_r.Mail.Quiet,vs p_r.Mail.Helo,vi p_r.Mail.At,vi p_r.Id,.v (.slice none 0 0),vi p_r.Origin,vi 0,vi p_r.Offset,.fl .shr 1 (List.map (Value.int .u8) p_r.Data)])] [0,1,2,3] [7,1] [zq [0] 4 13,⟨[4],[0],[5],[.cell 1 12]⟩,zq [5] 6 14,⟨[6],[5],[7],[.cell 1 10]⟩] [(_,_),(_,_)] rfl ⟨zp rfl (oF underlying50 rfl sz3),zp rfl (oS sz3 rfl),zp rfl (oF underlying50 rfl sz28),zp rfl (oS sz28 rfl),zz⟩ ?_
      refine pt_inb ?_
      refine pt_sub (fs := [(1, .box 50 [.v (.int .i64 p_r.Kind), .v (.bool p_r.Mail.From.Null), .v (.string p_r.Mail.From.Local), .v (.string p_r.Mail.From.Domain), .fl .shr 3 (List.flatten (List.map T_Path.enc p_r.Mail.To)), .fl .shr 1 (List.map (Value.int .u8) p_r.Mail.Body), .v (.bool p_r.Mail.Quiet), .v (.string p_r.Mail.Helo), .v (.int .i64 p_r.Mail.At), .v (.int .i64 p_r.Id), .fl .shr 1 (List.map (Value.int .i64) []), .v (.int .i64 p_r.Origin), .v (.int .i64 0), .v (.int .i64 p_r.Offset), .fl .shr 1 (List.map (Value.int .u8) p_r.Data)]), (2, .box 50 [.v (.int .i64 0), .v (.bool false), .v (.string (⟨#[]⟩ : ByteArray)), .v (.string (⟨#[]⟩ : ByteArray)), .v (.slice none 0 0), .v (.slice none 0 0), .v (.bool false), .v (.string (⟨#[]⟩ : ByteArray)), .v (.int .i64 0), .v (.int .i64 0), .v (.slice none 0 0), .v (.int .i64 0), .v (.int .i64 0), .v (.int .i64 0), .v (.slice none 0 0)])]) (.box _ _ (subs_cons (sub_refl _) (subs_cons (sub_refl _) (subs_cons (sub_refl _) (subs_cons (sub_refl _) (subs_cons (sub_refl _) (subs_cons (sub_refl _) (subs_cons (sub_refl _) (subs_cons (sub_refl _) (subs_cons (sub_refl _) (subs_cons (sub_refl _) (subs_cons (sub_nil_shr 1) (subs_cons (sub_refl _) (subs_cons (sub_refl _) (subs_cons (sub_refl _) (subs_cons (sub_refl _) (subs_nil)))))))))))))))) rfl (.same _ .nil)) ?_
      exact hl83 _ (Option.some.inj h).symm
     ·have h := cond_f hb86 h
      refine ht_seq ?_
      refine ht_joinS h (fun (s88 : Bool) => [(1, .box 50 [.v (.int .i64 p_r.Kind), .v (.bool p_r.Mail.From.Null), .v (.string p_r.Mail.From.Local), .v (.string p_r.Mail.From.Domain), .fl .shr 3 (List.flatten (List.map T_Path.enc p_r.Mail.To)), .fl .shr 1 (List.map (Value.int .u8) p_r.Mail.Body), .v (.bool p_r.Mail.Quiet), .v (.string p_r.Mail.Helo), .v (.int .i64 p_r.Mail.At), .v (.int .i64 p_r.Id), .fl .shr 1 (List.map (Value.int .i64) p_r.Ids), .v (.int .i64 p_r.Origin), .v (.int .i64 p_r.Number), .v (.int .i64 p_r.Offset), .fl .shr 1 (List.map (Value.int .u8) p_r.Data)]), (2, .box 50 [.v (.int .i64 0), .v (.bool false), .v (.string (⟨#[]⟩ : ByteArray)), .v (.string (⟨#[]⟩ : ByteArray)), .v (.slice none 0 0), .v (.slice none 0 0), .v (.bool false), .v (.string (⟨#[]⟩ : ByteArray)), .v (.int .i64 0), .v (.int .i64 0), .v (.slice none 0 0), .v (.int .i64 0), .v (.int .i64 0), .v (.int .i64 0), .v (.slice none 0 0)]), (4, .v (.int .i64 p_r.Kind)), (15, .v (.bool s88))]) ?_ ?_
      ·rintro s88 h
       refine pt_then ?_
       refine ht_cond _ rfl (fun hb93 => ?_) (fun hb93 => ?_)
       ·have h := cond_t hb93 h
        refine zg hn [_,_,_,_,(18,.ptr 1 12),(1,.box 50 [vi p_r.Kind,vb p_r.Mail.From.Null,vs p_r.Mail.From.Local,vs p_r.Mail.From.Domain,.fl .shr 3 (List.flatten (List.map T_Path.enc p_r.Mail.To)),.fl .shr 1 (List.map (Value.int .u8) p_r.Mail.Body),vb p_r.Mail.Quiet,vs p_r.Mail.Helo,vi p_r.Mail.At,vi p_r.Id,.fl .shr 1 (List.map (Value.int .i64) p_r.Ids),vi p_r.Origin,vi 0,vi p_r.Offset,.fl .shr 1 (List.map (Value.int .u8) p_r.Data)])] [0,1,2,3] [5,1] [zq [0] 4 18,⟨[4],[0],[5],[.cell 1 12]⟩] [(_,_),(_,_)] rfl ⟨zp rfl (oF underlying50 rfl sz3),zp rfl (oS sz3 rfl),zz⟩ ?_
        refine pt_inb ?_
        exact hl83 _ (Option.some.inj h).symm
       ·have h := cond_f hb93 h
        refine zgg hn [_,_,_,_,(20,vb (p_r.Kind == 4)),(19,vb (p_r.Kind == 4))] [0,1,2,3] [0,1,2,5] [zq [2] 4 20,zq [4] 5 19] [(_,_),(_,_),(_,_),(_,_)] rfl ⟨z4 rfl rfl,z2 rfl,zz⟩ ?_
        refine ht_cond _ rfl (fun hb94 => ?_) (fun hb94 => ?_)
        ·have h := cond_t hb94 h
         refine zg hn [_,_,_,_,(21,.ptr 1 9),(1,.box 50 [vi p_r.Kind,vb p_r.Mail.From.Null,vs p_r.Mail.From.Local,vs p_r.Mail.From.Domain,.fl .shr 3 (List.flatten (List.map T_Path.enc p_r.Mail.To)),.fl .shr 1 (List.map (Value.int .u8) p_r.Mail.Body),vb p_r.Mail.Quiet,vs p_r.Mail.Helo,vi p_r.Mail.At,vi 0,.fl .shr 1 (List.map (Value.int .i64) p_r.Ids),vi p_r.Origin,vi p_r.Number,vi p_r.Offset,.fl .shr 1 (List.map (Value.int .u8) p_r.Data)])] [0,1,2,3] [5,1] [zq [0] 4 21,⟨[4],[0],[5],[.cell 1 9]⟩] [(_,_),(_,_)] rfl ⟨zp rfl (oF underlying50 rfl sz3),zp rfl (oS sz3 rfl),zz⟩ ?_
         refine pt_inb ?_
         exact hl83 _ (Option.some.inj h).symm
        ·have h := cond_f hb94 h
         refine zgg hn [_,_,_,_,(23,vb (p_r.Kind == 5)),(22,vb (p_r.Kind == 5))] [0,1,2,3] [0,1,5] [zq [2] 4 23,zq [4] 5 22] [(_,_),(_,_),(_,_)] rfl ⟨z4 rfl rfl,z2 rfl,zz⟩ ?_
         refine ht_cond _ rfl (fun hb95 => ?_) (fun hb95 => ?_)
         ·have h := cond_t hb95 h
          refine zg hn [_,_,_,(24,.ptr 1 12),(1,.box 50 [vi p_r.Kind,vb p_r.Mail.From.Null,vs p_r.Mail.From.Local,vs p_r.Mail.From.Domain,.fl .shr 3 (List.flatten (List.map T_Path.enc p_r.Mail.To)),.fl .shr 1 (List.map (Value.int .u8) p_r.Mail.Body),vb p_r.Mail.Quiet,vs p_r.Mail.Helo,vi p_r.Mail.At,vi p_r.Id,.fl .shr 1 (List.map (Value.int .i64) p_r.Ids),vi p_r.Origin,vi 0,vi p_r.Offset,.fl .shr 1 (List.map (Value.int .u8) p_r.Data)]),(25,.ptr 1 13),(1,.box 50 [vi p_r.Kind,vb p_r.Mail.From.Null,vs p_r.Mail.From.Local,vs p_r.Mail.From.Domain,.fl .shr 3 (List.flatten (List.map T_Path.enc p_r.Mail.To)),.fl .shr 1 (List.map (Value.int .u8) p_r.Mail.Body),vb p_r.Mail.Quiet,vs p_r.Mail.Helo,vi p_r.Mail.At,vi p_r.Id,.fl .shr 1 (List.map (Value.int .i64) p_r.Ids),vi p_r.Origin,vi 0,vi 0,.fl .shr 1 (List.map (Value.int .u8) p_r.Data)]),(26,.ptr 1 14),(1,.box 50 [vi p_r.Kind,vb p_r.Mail.From.Null,vs p_r.Mail.From.Local,vs p_r.Mail.From.Domain,.fl .shr 3 (List.flatten (List.map T_Path.enc p_r.Mail.To)),.fl .shr 1 (List.map (Value.int .u8) p_r.Mail.Body),vb p_r.Mail.Quiet,vs p_r.Mail.Helo,vi p_r.Mail.At,vi p_r.Id,.fl .shr 1 (List.map (Value.int .i64) p_r.Ids),vi p_r.Origin,vi 0,vi 0,.v (.slice none 0 0)])] [0,1,2] [8,1] [zq [0] 3 24,⟨[3],[0],[4],[.cell 1 12]⟩,zq [4] 5 25,⟨[5],[4],[6],[.cell 1 13]⟩,zq [6] 7 26,⟨[7],[6],[8],[.cell 1 14]⟩] [(_,_),(_,_)] rfl ⟨zp rfl (oF underlying50 rfl sz3),zp rfl (oS sz3 rfl),zp rfl (oF underlying50 rfl sz3),zp rfl (oS sz3 rfl),zp rfl (oF underlying50 rfl sz29),zp rfl (oS sz29 rfl),zz⟩ ?_
          refine pt_inb ?_
          refine pt_sub (fs := [(1, .box 50 [.v (.int .i64 p_r.Kind), .v (.bool p_r.Mail.From.Null), .v (.string p_r.Mail.From.Local), .v (.string p_r.Mail.From.Domain), .fl .shr 3 (List.flatten (List.map T_Path.enc p_r.Mail.To)), .fl .shr 1 (List.map (Value.int .u8) p_r.Mail.Body), .v (.bool p_r.Mail.Quiet), .v (.string p_r.Mail.Helo), .v (.int .i64 p_r.Mail.At), .v (.int .i64 p_r.Id), .fl .shr 1 (List.map (Value.int .i64) p_r.Ids), .v (.int .i64 p_r.Origin), .v (.int .i64 0), .v (.int .i64 0), .fl .shr 1 (List.map (Value.int .u8) [])]), (2, .box 50 [.v (.int .i64 0), .v (.bool false), .v (.string (⟨#[]⟩ : ByteArray)), .v (.string (⟨#[]⟩ : ByteArray)), .v (.slice none 0 0), .v (.slice none 0 0), .v (.bool false), .v (.string (⟨#[]⟩ : ByteArray)), .v (.int .i64 0), .v (.int .i64 0), .v (.slice none 0 0), .v (.int .i64 0), .v (.int .i64 0), .v (.int .i64 0), .v (.slice none 0 0)])]) (.box _ _ (subs_cons (sub_refl _) (subs_cons (sub_refl _) (subs_cons (sub_refl _) (subs_cons (sub_refl _) (subs_cons (sub_refl _) (subs_cons (sub_refl _) (subs_cons (sub_refl _) (subs_cons (sub_refl _) (subs_cons (sub_refl _) (subs_cons (sub_refl _) (subs_cons (sub_refl _) (subs_cons (sub_refl _) (subs_cons (sub_refl _) (subs_cons (sub_refl _) (subs_cons (sub_nil_shr 1) (subs_nil)))))))))))))))) rfl (.same _ .nil)) ?_
          exact hl83 _ (Option.some.inj h).symm
         ·have h := cond_f hb95 h
          refine ht_skip ?_
          refine pt_inb ?_
          refine pt_pick [0, 1] (by kernel_rfl) (es' := [(_,_),(_,_)]) rfl ?_
          exact hl83 _ (Option.some.inj h).symm
      ·intro u89 h hl90 hr91
       refine zgg hn [_,_,_,_,(16,vb (p_r.Kind == 3)),(15,vb (p_r.Kind == 3))] [0,1,2,3] [0,1,2,5] [zq [2] 4 16,zq [4] 5 15] [(_,_),(_,_),(_,_),(_,_)] rfl ⟨z4 rfl rfl,z2 rfl,zz⟩ ?_
       refine ht_cond _ rfl (fun hb92 => ?_) (fun hb92 => ?_)
       ·have h := cond_t hb92 h
        refine ht_skip ?_
        exact hl90 _ (Option.some.inj h).symm
       ·have h := cond_f hb92 h
        refine zg hn [_,_,_,_,(17,vb (p_r.Kind == 6)),(15,vb (p_r.Kind == 6))] [0,1,2,3] [0,1,2,5] [zq [2] 4 17,⟨[4],[3],[5],[(.slot 15)]⟩] [(_,_),(_,_),(_,_),(_,_)] rfl ⟨z4 rfl rfl,zp rfl (LOp.drop [_] (op_assign _ _ _ _ rfl rfl)),zz⟩ ?_
        exact hl90 _ (Option.some.inj h).symm
theorem ok_spool_empty (p_r : T_Rec) (r : Bool) (h : Sh.spool_empty p_r = some r) : FnOK Tryd.prog 17 [.agg [.v (.int .i64 p_r.Kind), .v (.bool p_r.Mail.From.Null), .v (.string p_r.Mail.From.Local), .v (.string p_r.Mail.From.Domain), .fl .shr 3 (List.flatten (List.map T_Path.enc p_r.Mail.To)), .fl .shr 1 (List.map (Value.int .u8) p_r.Mail.Body), .v (.bool p_r.Mail.Quiet), .v (.string p_r.Mail.Helo), .v (.int .i64 p_r.Mail.At), .v (.int .i64 p_r.Id), .fl .shr 1 (List.map (Value.int .i64) p_r.Ids), .v (.int .i64 p_r.Origin), .v (.int .i64 p_r.Number), .v (.int .i64 p_r.Offset), .fl .shr 1 (List.map (Value.int .u8) p_r.Data)]] (.v (.bool r)) := by
  unfold Sh.spool_empty at h
  refine fn_ok func17 rfl (zl rfl) rfl rfl fun g0 hn hio => ?_
  refine zgg hn [_,(1,.box 50 [vi p_r.Kind,vb p_r.Mail.From.Null,vs p_r.Mail.From.Local,vs p_r.Mail.From.Domain,.fl .shr 3 (List.flatten (List.map T_Path.enc p_r.Mail.To)),.fl .shr 1 (List.map (Value.int .u8) p_r.Mail.Body),vb p_r.Mail.Quiet,vs p_r.Mail.Helo,vi p_r.Mail.At,vi p_r.Id,.fl .shr 1 (List.map (Value.int .i64) p_r.Ids),vi p_r.Origin,vi p_r.Number,vi p_r.Offset,.fl .shr 1 (List.map (Value.int .u8) p_r.Data)]),(2,vb false)] [0] [1] [zq [0] 1 1,zq [] 2 2] [(_,_)] rfl ⟨zp rfl (op_box _ _ _ _ rfl rfl rfl),z2 rfl,zz⟩ ?_
  refine zgg hn [_,(5,.ptr 1 1),(6,.agg [vb p_r.Mail.From.Null,vs p_r.Mail.From.Local,vs p_r.Mail.From.Domain,.fl .shr 3 (List.flatten (List.map T_Path.enc p_r.Mail.To)),.fl .shr 1 (List.map (Value.int .u8) p_r.Mail.Body),vb p_r.Mail.Quiet,vs p_r.Mail.Helo,vi p_r.Mail.At]),(3,.box 48 [vb false,vs z0,vs z0,.v (.slice none 0 0),.v (.slice none 0 0),vb false,vs z0,vi 0]),(3,.box 48 [vb p_r.Mail.From.Null,vs p_r.Mail.From.Local,vs p_r.Mail.From.Domain,.fl .shr 3 (List.flatten (List.map T_Path.enc p_r.Mail.To)),.fl .shr 1 (List.map (Value.int .u8) p_r.Mail.Body),vb p_r.Mail.Quiet,vs p_r.Mail.Helo,vi p_r.Mail.At])] [0] [0,4] [zq [0] 1 5,zq [1,0] 2 6,zq [] 3 3,⟨[2],[3],[4],[.cell 3 0,.cell 3 1,.cell 3 2,.cell 3 3,.cell 3 4,.cell 3 5,.cell 3 6,.cell 3 7]⟩] [(_,_),(_,_)] rfl ⟨zp rfl (oF underlying50 rfl sz48),zp rfl (op_loadA _ _ _ _ _ _ _ underlying48 rfl sz48 rfl rfl (zl rfl) rfl rfl),zp rfl (op_alloc _ _ zr48),zp rfl (oS sz48 rfl),zz⟩ ?_
  refine ht_seq ?_
  refine ht_joinS h (fun (s1 : Bool) => [(1, .box 50 [.v (.int .i64 p_r.Kind), .v (.bool p_r.Mail.From.Null), .v (.string p_r.Mail.From.Local), .v (.string p_r.Mail.From.Domain), .fl .shr 3 (List.flatten (List.map T_Path.enc p_r.Mail.To)), .fl .shr 1 (List.map (Value.int .u8) p_r.Mail.Body), .v (.bool p_r.Mail.Quiet), .v (.string p_r.Mail.Helo), .v (.int .i64 p_r.Mail.At), .v (.int .i64 p_r.Id), .fl .shr 1 (List.map (Value.int .i64) p_r.Ids), .v (.int .i64 p_r.Origin), .v (.int .i64 p_r.Number), .v (.int .i64 p_r.Offset), .fl .shr 1 (List.map (Value.int .u8) p_r.Data)]), (4, .v (.bool s1))]) ?_ ?_
  ·rintro s1 h
   refine pt_then (ht_seq ?_)
   refine ht_joinS h (fun (s5 : Bool) => [(2, .v (.bool s5))]) ?_ ?_
   ·rintro s5 h
    refine pt_then (ht_ret ?_)
    obtain rfl := Option.some.inj h
    exact pt_ret hio rfl (.tmp _ _ .nil) rfl rfl
   ·intro u6 h hl7 hr8
    refine cond_some h (fun hg3_1 h => ?_) (fun hg3_1 h => ?_)
    ·refine cond_some h (fun hg3_6 h => ?_) (fun hg3_6 h => ?_)
     ·refine cond_some h (fun hg3_11 h => ?_) (fun hg3_11 h => ?_)
      ·refine cond_some h (fun hg3_17 h => ?_) (fun hg3_17 h => ?_)
       ·refine cond_some h (fun hg3_22 h => ?_) (fun hg3_22 h => ?_)
        ·refine cond_some h (fun hg3_27 h => ?_) (fun hg3_27 h => ?_)
         ·refine cond_some h (fun hg3_32 h => ?_) (fun hg3_32 h => ?_)
          ·refine zg hn (_::_::(38,vb s1)::(39,vb true)::(40,.ptr 1 0)::(41,vi p_r.Kind)::(42,vb (p_r.Kind == 0))::(43,vb (p_r.Kind == 0))::(44,vb true)::(45,.ptr 1 9)::(46,vi p_r.Id)::(47,vb (p_r.Id == 0))::(48,vb (p_r.Id == 0))::(49,vb true)::(50,.ptr 1 10)::(51,.fl .shr 1 (List.map (Value.int .i64) p_r.Ids))::(52,vi (p_r.Ids.length : Int))::(53,vb ((p_r.Ids.length : Int) == 0))::(54,vb ((p_r.Ids.length : Int) == 0))::(55,vb true)::(56,.ptr 1 11)::(57,vi p_r.Origin)::(58,vb (p_r.Origin == 0))::(59,vb (p_r.Origin == 0))::(60,vb true)::(61,.ptr 1 12)::(62,vi p_r.Number)::(63,vb (p_r.Number == 0))::(64,vb (p_r.Number == 0))::(65,vb true)::(66,.ptr 1 13)::(67,vi p_r.Offset)::(68,vb (p_r.Offset == 0))::(69,vb (p_r.Offset == 0))::(70,vb true)::(71,.ptr 1 14)::(72,.fl .shr 1 (List.map (Value.int .u8) p_r.Data))::(73,vi (p_r.Data.length : Int))::(74,vb ((p_r.Data.length : Int) == 0))::(75,vb ((p_r.Data.length : Int) == 0))::(2,vb ((p_r.Data.length : Int) == 0))::[]) [0,1] [40] (zq [1] 2 38::zq [2] 3 39::zq [3,0] 4 40::zq [3,4,0] 5 41::zq [3,5] 6 42::zq [3,6] 7 43::zq [7] 8 44::zq [8,0] 9 45::zq [8,9,0] 10 46::zq [8,10] 11 47::zq [8,11] 12 48::zq [12] 13 49::zq [13,0] 14 50::zq [13,14,0] 15 51::zq [13,15] 16 52::zq [13,16] 17 53::zq [13,17] 18 54::zq [18] 19 55::zq [19,0] 20 56::zq [19,20,0] 21 57::zq [19,21] 22 58::zq [19,22] 23 59::zq [23] 24 60::zq [24,0] 25 61::zq [24,25,0] 26 62::zq [24,26] 27 63::zq [24,27] 28 64::zq [28] 29 65::zq [29,0] 30 66::zq [29,30,0] 31 67::zq [29,31] 32 68::zq [29,32] 33 69::zq [33] 34 70::zq [34,0] 35 71::zq [34,35,0] 36 72::zq [34,36] 37 73::zq [34,37] 38 74::zq [34,38] 39 75::zq [39] 40 2::[]) [(_,_)] rfl ⟨z1 rfl,z8 hg3_1 rfl,zr' rfl (oF underlying50 rfl sz3),zr' rfl (oL underlying3 rfl),zr' rfl (oB rfl rfl),z3 true rfl,z8 hg3_6 rfl,zr' rfl (oF underlying50 rfl sz3),zr' rfl (oL underlying3 rfl),zr' rfl (oB rfl rfl),z3 true rfl,z8 hg3_11 rfl,zr' rfl (oF underlying50 rfl sz28),zr' rfl (oL underlying28 rfl),zr' rfl (op_len_fl _ _ _ underlying28 rfl (by decide) (map_len _)),zr' rfl (oB rfl rfl),z3 true rfl,z8 hg3_17 rfl,zr' rfl (oF underlying50 rfl sz3),zr' rfl (oL underlying3 rfl),zr' rfl (oB rfl rfl),z3 true rfl,z8 hg3_22 rfl,zr' rfl (oF underlying50 rfl sz3),zr' rfl (oL underlying3 rfl),zr' rfl (oB rfl rfl),z3 true rfl,z8 hg3_27 rfl,zr' rfl (oF underlying50 rfl sz3),zr' rfl (oL underlying3 rfl),zr' rfl (oB rfl rfl),z3 true rfl,z8 hg3_32 rfl,zr' rfl (oF underlying50 rfl sz29),zr' rfl (oL underlying29 rfl),zr' rfl (op_len_fl _ _ _ underlying29 rfl (by decide) (map_len _)),zr' rfl (oB rfl rfl),z3 true rfl,z2 rfl,zz⟩ ?_
           exact hl7 _ (Option.some.inj h).symm
          ·refine zg hn (_::_::(38,vb s1)::(39,vb true)::(40,.ptr 1 0)::(41,vi p_r.Kind)::(42,vb (p_r.Kind == 0))::(43,vb (p_r.Kind == 0))::(44,vb true)::(45,.ptr 1 9)::(46,vi p_r.Id)::(47,vb (p_r.Id == 0))::(48,vb (p_r.Id == 0))::(49,vb true)::(50,.ptr 1 10)::(51,.fl .shr 1 (List.map (Value.int .i64) p_r.Ids))::(52,vi (p_r.Ids.length : Int))::(53,vb ((p_r.Ids.length : Int) == 0))::(54,vb ((p_r.Ids.length : Int) == 0))::(55,vb true)::(56,.ptr 1 11)::(57,vi p_r.Origin)::(58,vb (p_r.Origin == 0))::(59,vb (p_r.Origin == 0))::(60,vb true)::(61,.ptr 1 12)::(62,vi p_r.Number)::(63,vb (p_r.Number == 0))::(64,vb (p_r.Number == 0))::(65,vb true)::(66,.ptr 1 13)::(67,vi p_r.Offset)::(68,vb (p_r.Offset == 0))::(69,vb (p_r.Offset == 0))::(70,vb false)::(71,.v undef)::(72,.v undef)::(73,.v undef)::(74,.v undef)::(75,vb false)::(2,vb false)::[]) [0,1] [40] (zq [1] 2 38::zq [2] 3 39::zq [3,0] 4 40::zq [3,4,0] 5 41::zq [3,5] 6 42::zq [3,6] 7 43::zq [7] 8 44::zq [8,0] 9 45::zq [8,9,0] 10 46::zq [8,10] 11 47::zq [8,11] 12 48::zq [12] 13 49::zq [13,0] 14 50::zq [13,14,0] 15 51::zq [13,15] 16 52::zq [13,16] 17 53::zq [13,17] 18 54::zq [18] 19 55::zq [19,0] 20 56::zq [19,20,0] 21 57::zq [19,21] 22 58::zq [19,22] 23 59::zq [23] 24 60::zq [24,0] 25 61::zq [24,25,0] 26 62::zq [24,26] 27 63::zq [24,27] 28 64::zq [28] 29 65::zq [29,0] 30 66::zq [29,30,0] 31 67::zq [29,31] 32 68::zq [29,32] 33 69::zq [33] 34 70::zq [34] 35 71::zq [34] 36 72::zq [34] 37 73::zq [34] 38 74::zq [34] 39 75::zq [39] 40 2::[]) [(_,_)] rfl ⟨z1 rfl,z8 hg3_1 rfl,zr' rfl (oF underlying50 rfl sz3),zr' rfl (oL underlying3 rfl),zr' rfl (oB rfl rfl),z3 true rfl,z8 hg3_6 rfl,zr' rfl (oF underlying50 rfl sz3),zr' rfl (oL underlying3 rfl),zr' rfl (oB rfl rfl),z3 true rfl,z8 hg3_11 rfl,zr' rfl (oF underlying50 rfl sz28),zr' rfl (oL underlying28 rfl),zr' rfl (op_len_fl _ _ _ underlying28 rfl (by decide) (map_len _)),zr' rfl (oB rfl rfl),z3 true rfl,z8 hg3_17 rfl,zr' rfl (oF underlying50 rfl sz3),zr' rfl (oL underlying3 rfl),zr' rfl (oB rfl rfl),z3 true rfl,z8 hg3_22 rfl,zr' rfl (oF underlying50 rfl sz3),zr' rfl (oL underlying3 rfl),zr' rfl (oB rfl rfl),z3 true rfl,z8 hg3_27 rfl,zr' rfl (oF underlying50 rfl sz3),zr' rfl (oL underlying3 rfl),zr' rfl (oB rfl rfl),z3 true rfl,z8 hg3_32 rfl,zt rfl,zt rfl,zt rfl,zt rfl,z3 false rfl,z2 rfl,zz⟩ ?_
           exact hl7 _ (Option.some.inj h).symm
         ·refine zg hn (_::_::(38,vb s1)::(39,vb true)::(40,.ptr 1 0)::(41,vi p_r.Kind)::(42,vb (p_r.Kind == 0))::(43,vb (p_r.Kind == 0))::(44,vb true)::(45,.ptr 1 9)::(46,vi p_r.Id)::(47,vb (p_r.Id == 0))::(48,vb (p_r.Id == 0))::(49,vb true)::(50,.ptr 1 10)::(51,.fl .shr 1 (List.map (Value.int .i64) p_r.Ids))::(52,vi (p_r.Ids.length : Int))::(53,vb ((p_r.Ids.length : Int) == 0))::(54,vb ((p_r.Ids.length : Int) == 0))::(55,vb true)::(56,.ptr 1 11)::(57,vi p_r.Origin)::(58,vb (p_r.Origin == 0))::(59,vb (p_r.Origin == 0))::(60,vb true)::(61,.ptr 1 12)::(62,vi p_r.Number)::(63,vb (p_r.Number == 0))::(64,vb (p_r.Number == 0))::(65,vb false)::(66,.v undef)::(67,.v undef)::(68,.v undef)::(69,vb false)::(70,vb false)::(71,.v undef)::(72,.v undef)::(73,.v undef)::(74,.v undef)::(75,vb false)::(2,vb false)::[]) [0,1] [40] (zq [1] 2 38::zq [2] 3 39::zq [3,0] 4 40::zq [3,4,0] 5 41::zq [3,5] 6 42::zq [3,6] 7 43::zq [7] 8 44::zq [8,0] 9 45::zq [8,9,0] 10 46::zq [8,10] 11 47::zq [8,11] 12 48::zq [12] 13 49::zq [13,0] 14 50::zq [13,14,0] 15 51::zq [13,15] 16 52::zq [13,16] 17 53::zq [13,17] 18 54::zq [18] 19 55::zq [19,0] 20 56::zq [19,20,0] 21 57::zq [19,21] 22 58::zq [19,22] 23 59::zq [23] 24 60::zq [24,0] 25 61::zq [24,25,0] 26 62::zq [24,26] 27 63::zq [24,27] 28 64::zq [28] 29 65::zq [29] 30 66::zq [29] 31 67::zq [29] 32 68::zq [29] 33 69::zq [33] 34 70::zq [34] 35 71::zq [34] 36 72::zq [34] 37 73::zq [34] 38 74::zq [34] 39 75::zq [39] 40 2::[]) [(_,_)] rfl ⟨z1 rfl,z8 hg3_1 rfl,zr' rfl (oF underlying50 rfl sz3),zr' rfl (oL underlying3 rfl),zr' rfl (oB rfl rfl),z3 true rfl,z8 hg3_6 rfl,zr' rfl (oF underlying50 rfl sz3),zr' rfl (oL underlying3 rfl),zr' rfl (oB rfl rfl),z3 true rfl,z8 hg3_11 rfl,zr' rfl (oF underlying50 rfl sz28),zr' rfl (oL underlying28 rfl),zr' rfl (op_len_fl _ _ _ underlying28 rfl (by decide) (map_len _)),zr' rfl (oB rfl rfl),z3 true rfl,z8 hg3_17 rfl,zr' rfl (oF underlying50 rfl sz3),zr' rfl (oL underlying3 rfl),zr' rfl (oB rfl rfl),z3 true rfl,z8 hg3_22 rfl,zr' rfl (oF underlying50 rfl sz3),zr' rfl (oL underlying3 rfl),zr' rfl (oB rfl rfl),z3 true rfl,z8 hg3_27 rfl,zt rfl,zt rfl,zt rfl,z3 false rfl,z1 rfl,zt rfl,zt rfl,zt rfl,zt rfl,z3 false rfl,z2 rfl,zz⟩ ?_
          exact hl7 _ (Option.some.inj h).symm
        ·refine zg hn (_::_::(38,vb s1)::(39,vb true)::(40,.ptr 1 0)::(41,vi p_r.Kind)::(42,vb (p_r.Kind == 0))::(43,vb (p_r.Kind == 0))::(44,vb true)::(45,.ptr 1 9)::(46,vi p_r.Id)::(47,vb (p_r.Id == 0))::(48,vb (p_r.Id == 0))::(49,vb true)::(50,.ptr 1 10)::(51,.fl .shr 1 (List.map (Value.int .i64) p_r.Ids))::(52,vi (p_r.Ids.length : Int))::(53,vb ((p_r.Ids.length : Int) == 0))::(54,vb ((p_r.Ids.length : Int) == 0))::(55,vb true)::(56,.ptr 1 11)::(57,vi p_r.Origin)::(58,vb (p_r.Origin == 0))::(59,vb (p_r.Origin == 0))::(60,vb false)::(61,.v undef)::(62,.v undef)::(63,.v undef)::(64,vb false)::(65,vb false)::(66,.v undef)::(67,.v undef)::(68,.v undef)::(69,vb false)::(70,vb false)::(71,.v undef)::(72,.v undef)::(73,.v undef)::(74,.v undef)::(75,vb false)::(2,vb false)::[]) [0,1] [40] (zq [1] 2 38::zq [2] 3 39::zq [3,0] 4 40::zq [3,4,0] 5 41::zq [3,5] 6 42::zq [3,6] 7 43::zq [7] 8 44::zq [8,0] 9 45::zq [8,9,0] 10 46::zq [8,10] 11 47::zq [8,11] 12 48::zq [12] 13 49::zq [13,0] 14 50::zq [13,14,0] 15 51::zq [13,15] 16 52::zq [13,16] 17 53::zq [13,17] 18 54::zq [18] 19 55::zq [19,0] 20 56::zq [19,20,0] 21 57::zq [19,21] 22 58::zq [19,22] 23 59::zq [23] 24 60::zq [24] 25 61::zq [24] 26 62::zq [24] 27 63::zq [24] 28 64::zq [28] 29 65::zq [29] 30 66::zq [29] 31 67::zq [29] 32 68::zq [29] 33 69::zq [33] 34 70::zq [34] 35 71::zq [34] 36 72::zq [34] 37 73::zq [34] 38 74::zq [34] 39 75::zq [39] 40 2::[]) [(_,_)] rfl ⟨z1 rfl,z8 hg3_1 rfl,zr' rfl (oF underlying50 rfl sz3),zr' rfl (oL underlying3 rfl),zr' rfl (oB rfl rfl),z3 true rfl,z8 hg3_6 rfl,zr' rfl (oF underlying50 rfl sz3),zr' rfl (oL underlying3 rfl),zr' rfl (oB rfl rfl),z3 true rfl,z8 hg3_11 rfl,zr' rfl (oF underlying50 rfl sz28),zr' rfl (oL underlying28 rfl),zr' rfl (op_len_fl _ _ _ underlying28 rfl (by decide) (map_len _)),zr' rfl (oB rfl rfl),z3 true rfl,z8 hg3_17 rfl,zr' rfl (oF underlying50 rfl sz3),zr' rfl (oL underlying3 rfl),zr' rfl (oB rfl rfl),z3 true rfl,z8 hg3_22 rfl,zt rfl,zt rfl,zt rfl,z3 false rfl,z1 rfl,zt rfl,zt rfl,zt rfl,z3 false rfl,z1 rfl,zt rfl,zt rfl,zt rfl,zt rfl,z3 false rfl,z2 rfl,zz⟩ ?_
         exact hl7 _ (Option.some.inj h).symm
       ·refine zg hn (_::_::(38,vb s1)::(39,vb true)::(40,.ptr 1 0)::(41,vi p_r.Kind)::(42,vb (p_r.Kind == 0))::(43,vb (p_r.Kind == 0))::(44,vb true)::(45,.ptr 1 9)::(46,vi p_r.Id)::(47,vb (p_r.Id == 0))::(48,vb (p_r.Id == 0))::(49,vb true)::(50,.ptr 1 10)::(51,.fl .shr 1 (List.map (Value.int .i64) p_r.Ids))::(52,vi (p_r.Ids.length : Int))::(53,vb ((p_r.Ids.length : Int) == 0))::(54,vb ((p_r.Ids.length : Int) == 0))::(55,vb false)::(56,.v undef)::(57,.v undef)::(58,.v undef)::(59,vb false)::(60,vb false)::(61,.v undef)::(62,.v undef)::(63,.v undef)::(64,vb false)::(65,vb false)::(66,.v undef)::(67,.v undef)::(68,.v undef)::(69,vb false)::(70,vb false)::(71,.v undef)::(72,.v undef)::(73,.v undef)::(74,.v undef)::(75,vb false)::(2,vb false)::[]) [0,1] [40] (zq [1] 2 38::zq [2] 3 39::zq [3,0] 4 40::zq [3,4,0] 5 41::zq [3,5] 6 42::zq [3,6] 7 43::zq [7] 8 44::zq [8,0] 9 45::zq [8,9,0] 10 46::zq [8,10] 11 47::zq [8,11] 12 48::zq [12] 13 49::zq [13,0] 14 50::zq [13,14,0] 15 51::zq [13,15] 16 52::zq [13,16] 17 53::zq [13,17] 18 54::zq [18] 19 55::zq [19] 20 56::zq [19] 21 57::zq [19] 22 58::zq [19] 23 59::zq [23] 24 60::zq [24] 25 61::zq [24] 26 62::zq [24] 27 63::zq [24] 28 64::zq [28] 29 65::zq [29] 30 66::zq [29] 31 67::zq [29] 32 68::zq [29] 33 69::zq [33] 34 70::zq [34] 35 71::zq [34] 36 72::zq [34] 37 73::zq [34] 38 74::zq [34] 39 75::zq [39] 40 2::[]) [(_,_)] rfl ⟨z1 rfl,z8 hg3_1 rfl,zr' rfl (oF underlying50 rfl sz3),zr' rfl (oL underlying3 rfl),zr' rfl (oB rfl rfl),z3 true rfl,z8 hg3_6 rfl,zr' rfl (oF underlying50 rfl sz3),zr' rfl (oL underlying3 rfl),zr' rfl (oB rfl rfl),z3 true rfl,z8 hg3_11 rfl,zr' rfl (oF underlying50 rfl sz28),zr' rfl (oL underlying28 rfl),zr' rfl (op_len_fl _ _ _ underlying28 rfl (by decide) (map_len _)),zr' rfl (oB rfl rfl),z3 true rfl,z8 hg3_17 rfl,zt rfl,zt rfl,zt rfl,z3 false rfl,z1 rfl,zt rfl,zt rfl,zt rfl,z3 false rfl,z1 rfl,zt rfl,zt rfl,zt rfl,z3 false rfl,z1 rfl,zt rfl,zt rfl,zt rfl,zt rfl,z3 false rfl,z2 rfl,zz⟩ ?_
        exact hl7 _ (Option.some.inj h).symm
      ·refine zg hn (_::_::(38,vb s1)::(39,vb true)::(40,.ptr 1 0)::(41,vi p_r.Kind)::(42,vb (p_r.Kind == 0))::(43,vb (p_r.Kind == 0))::(44,vb true)::(45,.ptr 1 9)::(46,vi p_r.Id)::(47,vb (p_r.Id == 0))::(48,vb (p_r.Id == 0))::(49,vb false)::(50,.v undef)::(51,.v undef)::(52,.v undef)::(53,.v undef)::(54,vb false)::(55,vb false)::(56,.v undef)::(57,.v undef)::(58,.v undef)::(59,vb false)::(60,vb false)::(61,.v undef)::(62,.v undef)::(63,.v undef)::(64,vb false)::(65,vb false)::(66,.v undef)::(67,.v undef)::(68,.v undef)::(69,vb false)::(70,vb false)::(71,.v undef)::(72,.v undef)::(73,.v undef)::(74,.v undef)::(75,vb false)::(2,vb false)::[]) [0,1] [40] (zq [1] 2 38::zq [2] 3 39::zq [3,0] 4 40::zq [3,4,0] 5 41::zq [3,5] 6 42::zq [3,6] 7 43::zq [7] 8 44::zq [8,0] 9 45::zq [8,9,0] 10 46::zq [8,10] 11 47::zq [8,11] 12 48::zq [12] 13 49::zq [13] 14 50::zq [13] 15 51::zq [13] 16 52::zq [13] 17 53::zq [13] 18 54::zq [18] 19 55::zq [19] 20 56::zq [19] 21 57::zq [19] 22 58::zq [19] 23 59::zq [23] 24 60::zq [24] 25 61::zq [24] 26 62::zq [24] 27 63::zq [24] 28 64::zq [28] 29 65::zq [29] 30 66::zq [29] 31 67::zq [29] 32 68::zq [29] 33 69::zq [33] 34 70::zq [34] 35 71::zq [34] 36 72::zq [34] 37 73::zq [34] 38 74::zq [34] 39 75::zq [39] 40 2::[]) [(_,_)] rfl ⟨z1 rfl,z8 hg3_1 rfl,zr' rfl (oF underlying50 rfl sz3),zr' rfl (oL underlying3 rfl),zr' rfl (oB rfl rfl),z3 true rfl,z8 hg3_6 rfl,zr' rfl (oF underlying50 rfl sz3),zr' rfl (oL underlying3 rfl),zr' rfl (oB rfl rfl),z3 true rfl,z8 hg3_11 rfl,zt rfl,zt rfl,zt rfl,zt rfl,z3 false rfl,z1 rfl,zt rfl,zt rfl,zt rfl,z3 false rfl,z1 rfl,zt rfl,zt rfl,zt rfl,z3 false rfl,z1 rfl,zt rfl,zt rfl,zt rfl,z3 false rfl,z1 rfl,zt rfl,zt rfl,zt rfl,zt rfl,z3 false rfl,z2 rfl,zz⟩ ?_
       exact hl7 _ (Option.some.inj h).symm
     ·refine zg hn (_::_::(38,vb s1)::(39,vb true)::(40,.ptr 1 0)::(41,vi p_r.Kind)::(42,vb (p_r.Kind == 0))::(43,vb (p_r.Kind == 0))::(44,vb false)::(45,.v undef)::(46,.v undef)::(47,.v undef)::(48,vb false)::(49,vb false)::(50,.v undef)::(51,.v undef)::(52,.v undef)::(53,.v undef)::(54,vb false)::(55,vb false)::(56,.v undef)::(57,.v undef)::(58,.v undef)::(59,vb false)::(60,vb false)::(61,.v undef)::(62,.v undef)::(63,.v undef)::(64,vb false)::(65,vb false)::(66,.v undef)::(67,.v undef)::(68,.v undef)::(69,vb false)::(70,vb false)::(71,.v undef)::(72,.v undef)::(73,.v undef)::(74,.v undef)::(75,vb false)::(2,vb false)::[]) [0,1] [40] (zq [1] 2 38::zq [2] 3 39::zq [3,0] 4 40::zq [3,4,0] 5 41::zq [3,5] 6 42::zq [3,6] 7 43::zq [7] 8 44::zq [8] 9 45::zq [8] 10 46::zq [8] 11 47::zq [8] 12 48::zq [12] 13 49::zq [13] 14 50::zq [13] 15 51::zq [13] 16 52::zq [13] 17 53::zq [13] 18 54::zq [18] 19 55::zq [19] 20 56::zq [19] 21 57::zq [19] 22 58::zq [19] 23 59::zq [23] 24 60::zq [24] 25 61::zq [24] 26 62::zq [24] 27 63::zq [24] 28 64::zq [28] 29 65::zq [29] 30 66::zq [29] 31 67::zq [29] 32 68::zq [29] 33 69::zq [33] 34 70::zq [34] 35 71::zq [34] 36 72::zq [34] 37 73::zq [34] 38 74::zq [34] 39 75::zq [39] 40 2::[]) [(_,_)] rfl ⟨z1 rfl,z8 hg3_1 rfl,zr' rfl (oF underlying50 rfl sz3),zr' rfl (oL underlying3 rfl),zr' rfl (oB rfl rfl),z3 true rfl,z8 hg3_6 rfl,zt rfl,zt rfl,zt rfl,z3 false rfl,z1 rfl,zt rfl,zt rfl,zt rfl,zt rfl,z3 false rfl,z1 rfl,zt rfl,zt rfl,zt rfl,z3 false rfl,z1 rfl,zt rfl,zt rfl,zt rfl,z3 false rfl,z1 rfl,zt rfl,zt rfl,zt rfl,z3 false rfl,z1 rfl,zt rfl,zt rfl,zt rfl,zt rfl,z3 false rfl,z2 rfl,zz⟩ ?_
      exact hl7 _ (Option.some.inj h).symm
    ·refine zg hn (_::_::(38,vb s1)::(39,vb false)::(40,.v undef)::(41,.v undef)::(42,.v undef)::(43,vb false)::(44,vb false)::(45,.v undef)::(46,.v undef)::(47,.v undef)::(48,vb false)::(49,vb false)::(50,.v undef)::(51,.v undef)::(52,.v undef)::(53,.v undef)::(54,vb false)::(55,vb false)::(56,.v undef)::(57,.v undef)::(58,.v undef)::(59,vb false)::(60,vb false)::(61,.v undef)::(62,.v undef)::(63,.v undef)::(64,vb false)::(65,vb false)::(66,.v undef)::(67,.v undef)::(68,.v undef)::(69,vb false)::(70,vb false)::(71,.v undef)::(72,.v undef)::(73,.v undef)::(74,.v undef)::(75,vb false)::(2,vb false)::[]) [0,1] [40] (zq [1] 2 38::zq [2] 3 39::zq [3] 4 40::zq [3] 5 41::zq [3] 6 42::zq [3] 7 43::zq [7] 8 44::zq [8] 9 45::zq [8] 10 46::zq [8] 11 47::zq [8] 12 48::zq [12] 13 49::zq [13] 14 50::zq [13] 15 51::zq [13] 16 52::zq [13] 17 53::zq [13] 18 54::zq [18] 19 55::zq [19] 20 56::zq [19] 21 57::zq [19] 22 58::zq [19] 23 59::zq [23] 24 60::zq [24] 25 61::zq [24] 26 62::zq [24] 27 63::zq [24] 28 64::zq [28] 29 65::zq [29] 30 66::zq [29] 31 67::zq [29] 32 68::zq [29] 33 69::zq [33] 34 70::zq [34] 35 71::zq [34] 36 72::zq [34] 37 73::zq [34] 38 74::zq [34] 39 75::zq [39] 40 2::[]) [(_,_)] rfl ⟨z1 rfl,z8 hg3_1 rfl,zt rfl,zt rfl,zt rfl,z3 false rfl,z1 rfl,zt rfl,zt rfl,zt rfl,z3 false rfl,z1 rfl,zt rfl,zt rfl,zt rfl,zt rfl,z3 false rfl,z1 rfl,zt rfl,zt rfl,zt rfl,z3 false rfl,z1 rfl,zt rfl,zt rfl,zt rfl,z3 false rfl,z1 rfl,zt rfl,zt rfl,zt rfl,z3 false rfl,z1 rfl,zt rfl,zt rfl,zt rfl,zt rfl,z3 false rfl,z2 rfl,zz⟩ ?_
     exact hl7 _ (Option.some.inj h).symm
  ·intro u2 h hl3 hr4
   refine cond_some h (fun hg2_4 h => ?_) (fun hg2_4 h => ?_)
   ·refine cond_some h (fun hg2_10 h => ?_) (fun hg2_10 h => ?_)
    ·refine cond_some h (fun hg2_16 h => ?_) (fun hg2_16 h => ?_)
     ·refine cond_some h (fun hg2_21 h => ?_) (fun hg2_21 h => ?_)
      ·refine cond_some h (fun hg2_26 h => ?_) (fun hg2_26 h => ?_)
       ·refine zg hn (_::_::(7,.ptr 3 0)::(8,.agg [vb p_r.Mail.From.Null,vs p_r.Mail.From.Local,vs p_r.Mail.From.Domain])::(9,.agg [vb false,vs z0,vs z0])::(10,vb ((p_r.Mail.From.Null == false) && ((p_r.Mail.From.Local.toList == z0.toList) && ((p_r.Mail.From.Domain.toList == z0.toList) && true))))::(11,vb true)::(12,.ptr 3 3)::(13,.fl .shr 3 (List.flatten (List.map T_Path.enc p_r.Mail.To)))::(14,vi (p_r.Mail.To.length : Int))::(15,vb ((p_r.Mail.To.length : Int) == 0))::(16,vb ((p_r.Mail.To.length : Int) == 0))::(17,vb true)::(18,.ptr 3 4)::(19,.fl .shr 1 (List.map (Value.int .u8) p_r.Mail.Body))::(20,vi (p_r.Mail.Body.length : Int))::(21,vb ((p_r.Mail.Body.length : Int) == 0))::(22,vb ((p_r.Mail.Body.length : Int) == 0))::(23,vb true)::(24,.ptr 3 5)::(25,vb p_r.Mail.Quiet)::(26,vb (!p_r.Mail.Quiet))::(27,vb (!p_r.Mail.Quiet))::(28,vb true)::(29,.ptr 3 6)::(30,vs p_r.Mail.Helo)::(31,vb (p_r.Mail.Helo.toList == z0.toList))::(32,vb (p_r.Mail.Helo.toList == z0.toList))::(33,vb true)::(34,.ptr 3 7)::(35,vi p_r.Mail.At)::(36,vb (p_r.Mail.At == 0))::(37,vb (p_r.Mail.At == 0))::(4,vb (p_r.Mail.At == 0))::[]) [0,1] [0,33] (zq [1] 2 7::zq [2,1] 3 8::zq [] 4 9::zq [3,4] 5 10::zq [5] 6 11::zq [6,1] 7 12::zq [6,7,1] 8 13::zq [6,8] 9 14::zq [6,9] 10 15::zq [6,10] 11 16::zq [11] 12 17::zq [12,1] 13 18::zq [12,13,1] 14 19::zq [12,14] 15 20::zq [12,15] 16 21::zq [12,16] 17 22::zq [17] 18 23::zq [18,1] 19 24::zq [18,19,1] 20 25::zq [18,20] 21 26::zq [18,21] 22 27::zq [22] 23 28::zq [23,1] 24 29::zq [23,24,1] 25 30::zq [23,25] 26 31::zq [23,26] 27 32::zq [27] 28 33::zq [28,1] 29 34::zq [28,29,1] 30 35::zq [28,30] 31 36::zq [28,31] 32 37::zq [32] 33 4::[]) [(_,_),(_,_)] rfl ⟨zp rfl (oF underlying48 rfl sz45),zp rfl (op_loadA _ _ _ _ _ _ _ underlying45 rfl sz45 rfl rfl (zl rfl) rfl rfl),zp rfl (op_build _ _ _ _ [1, 1, 1] _ _ underlying45 zr45 (fs45 _ underlying45) Src.nil rfl rfl rfl),zp rfl (op_eq_st _ _ [.bool p_r.Mail.From.Null, .string p_r.Mail.From.Local, .string p_r.Mail.From.Domain] [.bool false, .string (⟨#[]⟩ : ByteArray), .string (⟨#[]⟩ : ByteArray)] (((p_r.Mail.From.Null == false) && ((p_r.Mail.From.Local.toList == (⟨#[]⟩ : ByteArray).toList) && ((p_r.Mail.From.Domain.toList == (⟨#[]⟩ : ByteArray).toList) && true)))) _ false (by kernel_rfl) (by kernel_rfl) (by kernel_rfl) (by kernel_rfl) (by kernel_rfl) rfl rfl rfl rfl (by kernel_rfl) rfl),z8 hg2_4 rfl,zr' rfl (oF underlying48 rfl sz46),zr' rfl (oL underlying46 rfl),zr' rfl (op_len_fl _ _ _ underlying46 rfl (by decide) (flat_len T_Path.len _)),zr' rfl (oB rfl rfl),z3 true rfl,z8 hg2_10 rfl,zr' rfl (oF underlying48 rfl sz29),zr' rfl (oL underlying29 rfl),zr' rfl (op_len_fl _ _ _ underlying29 rfl (by decide) (map_len _)),zr' rfl (oB rfl rfl),z3 true rfl,z8 hg2_16 rfl,zr' rfl (oF underlying48 rfl sz4),zr' rfl (oL underlying4 rfl),zr' rfl (op_un _ _ _ _ rfl rfl),z3 true rfl,z8 hg2_21 rfl,zr' rfl (oF underlying48 rfl sz9),zr' rfl (oL underlying9 rfl),zr' rfl (oB rfl rfl),z3 true rfl,z8 hg2_26 rfl,zr' rfl (oF underlying48 rfl sz3),zr' rfl (oL underlying3 rfl),zr' rfl (oB rfl rfl),z3 true rfl,z2 rfl,zz⟩ ?_
        exact hl3 _ (Option.some.inj h).symm
       ·refine zg hn (_::_::(7,.ptr 3 0)::(8,.agg [vb p_r.Mail.From.Null,vs p_r.Mail.From.Local,vs p_r.Mail.From.Domain])::(9,.agg [vb false,vs z0,vs z0])::(10,vb ((p_r.Mail.From.Null == false) && ((p_r.Mail.From.Local.toList == z0.toList) && ((p_r.Mail.From.Domain.toList == z0.toList) && true))))::(11,vb true)::(12,.ptr 3 3)::(13,.fl .shr 3 (List.flatten (List.map T_Path.enc p_r.Mail.To)))::(14,vi (p_r.Mail.To.length : Int))::(15,vb ((p_r.Mail.To.length : Int) == 0))::(16,vb ((p_r.Mail.To.length : Int) == 0))::(17,vb true)::(18,.ptr 3 4)::(19,.fl .shr 1 (List.map (Value.int .u8) p_r.Mail.Body))::(20,vi (p_r.Mail.Body.length : Int))::(21,vb ((p_r.Mail.Body.length : Int) == 0))::(22,vb ((p_r.Mail.Body.length : Int) == 0))::(23,vb true)::(24,.ptr 3 5)::(25,vb p_r.Mail.Quiet)::(26,vb (!p_r.Mail.Quiet))::(27,vb (!p_r.Mail.Quiet))::(28,vb true)::(29,.ptr 3 6)::(30,vs p_r.Mail.Helo)::(31,vb (p_r.Mail.Helo.toList == z0.toList))::(32,vb (p_r.Mail.Helo.toList == z0.toList))::(33,vb false)::(34,.v undef)::(35,.v undef)::(36,.v undef)::(37,vb false)::(4,vb false)::[]) [0,1] [0,33] (zq [1] 2 7::zq [2,1] 3 8::zq [] 4 9::zq [3,4] 5 10::zq [5] 6 11::zq [6,1] 7 12::zq [6,7,1] 8 13::zq [6,8] 9 14::zq [6,9] 10 15::zq [6,10] 11 16::zq [11] 12 17::zq [12,1] 13 18::zq [12,13,1] 14 19::zq [12,14] 15 20::zq [12,15] 16 21::zq [12,16] 17 22::zq [17] 18 23::zq [18,1] 19 24::zq [18,19,1] 20 25::zq [18,20] 21 26::zq [18,21] 22 27::zq [22] 23 28::zq [23,1] 24 29::zq [23,24,1] 25 30::zq [23,25] 26 31::zq [23,26] 27 32::zq [27] 28 33::zq [28] 29 34::zq [28] 30 35::zq [28] 31 36::zq [28] 32 37::zq [32] 33 4::[]) [(_,_),(_,_)] rfl ⟨zp rfl (oF underlying48 rfl sz45),zp rfl (op_loadA _ _ _ _ _ _ _ underlying45 rfl sz45 rfl rfl (zl rfl) rfl rfl),zp rfl (op_build _ _ _ _ [1, 1, 1] _ _ underlying45 zr45 (fs45 _ underlying45) Src.nil rfl rfl rfl),zp rfl (op_eq_st _ _ [.bool p_r.Mail.From.Null, .string p_r.Mail.From.Local, .string p_r.Mail.From.Domain] [.bool false, .string (⟨#[]⟩ : ByteArray), .string (⟨#[]⟩ : ByteArray)] (((p_r.Mail.From.Null == false) && ((p_r.Mail.From.Local.toList == (⟨#[]⟩ : ByteArray).toList) && ((p_r.Mail.From.Domain.toList == (⟨#[]⟩ : ByteArray).toList) && true)))) _ false (by kernel_rfl) (by kernel_rfl) (by kernel_rfl) (by kernel_rfl) (by kernel_rfl) rfl rfl rfl rfl (by kernel_rfl) rfl),z8 hg2_4 rfl,zr' rfl (oF underlying48 rfl sz46),zr' rfl (oL underlying46 rfl),zr' rfl (op_len_fl _ _ _ underlying46 rfl (by decide) (flat_len T_Path.len _)),zr' rfl (oB rfl rfl),z3 true rfl,z8 hg2_10 rfl,zr' rfl (oF underlying48 rfl sz29),zr' rfl (oL underlying29 rfl),zr' rfl (op_len_fl _ _ _ underlying29 rfl (by decide) (map_len _)),zr' rfl (oB rfl rfl),z3 true rfl,z8 hg2_16 rfl,zr' rfl (oF underlying48 rfl sz4),zr' rfl (oL underlying4 rfl),zr' rfl (op_un _ _ _ _ rfl rfl),z3 true rfl,z8 hg2_21 rfl,zr' rfl (oF underlying48 rfl sz9),zr' rfl (oL underlying9 rfl),zr' rfl (oB rfl rfl),z3 true rfl,z8 hg2_26 rfl,zt rfl,zt rfl,zt rfl,z3 false rfl,z2 rfl,zz⟩ ?_
        exact hl3 _ (Option.some.inj h).symm
      ·refine zg hn (_::_::(7,.ptr 3 0)::(8,.agg [vb p_r.Mail.From.Null,vs p_r.Mail.From.Local,vs p_r.Mail.From.Domain])::(9,.agg [vb false,vs z0,vs z0])::(10,vb ((p_r.Mail.From.Null == false) && ((p_r.Mail.From.Local.toList == z0.toList) && ((p_r.Mail.From.Domain.toList == z0.toList) && true))))::(11,vb true)::(12,.ptr 3 3)::(13,.fl .shr 3 (List.flatten (List.map T_Path.enc p_r.Mail.To)))::(14,vi (p_r.Mail.To.length : Int))::(15,vb ((p_r.Mail.To.length : Int) == 0))::(16,vb ((p_r.Mail.To.length : Int) == 0))::(17,vb true)::(18,.ptr 3 4)::(19,.fl .shr 1 (List.map (Value.int .u8) p_r.Mail.Body))::(20,vi (p_r.Mail.Body.length : Int))::(21,vb ((p_r.Mail.Body.length : Int) == 0))::(22,vb ((p_r.Mail.Body.length : Int) == 0))::(23,vb true)::(24,.ptr 3 5)::(25,vb p_r.Mail.Quiet)::(26,vb (!p_r.Mail.Quiet))::(27,vb (!p_r.Mail.Quiet))::(28,vb false)::(29,.v undef)::(30,.v undef)::(31,.v undef)::(32,vb false)::(33,vb false)::(34,.v undef)::(35,.v undef)::(36,.v undef)::(37,vb false)::(4,vb false)::[]) [0,1] [0,33] (zq [1] 2 7::zq [2,1] 3 8::zq [] 4 9::zq [3,4] 5 10::zq [5] 6 11::zq [6,1] 7 12::zq [6,7,1] 8 13::zq [6,8] 9 14::zq [6,9] 10 15::zq [6,10] 11 16::zq [11] 12 17::zq [12,1] 13 18::zq [12,13,1] 14 19::zq [12,14] 15 20::zq [12,15] 16 21::zq [12,16] 17 22::zq [17] 18 23::zq [18,1] 19 24::zq [18,19,1] 20 25::zq [18,20] 21 26::zq [18,21] 22 27::zq [22] 23 28::zq [23] 24 29::zq [23] 25 30::zq [23] 26 31::zq [23] 27 32::zq [27] 28 33::zq [28] 29 34::zq [28] 30 35::zq [28] 31 36::zq [28] 32 37::zq [32] 33 4::[]) [(_,_),(_,_)] rfl ⟨zp rfl (oF underlying48 rfl sz45),zp rfl (op_loadA _ _ _ _ _ _ _ underlying45 rfl sz45 rfl rfl (zl rfl) rfl rfl),zp rfl (op_build _ _ _ _ [1, 1, 1] _ _ underlying45 zr45 (fs45 _ underlying45) Src.nil rfl rfl rfl),zp rfl (op_eq_st _ _ [.bool p_r.Mail.From.Null, .string p_r.Mail.From.Local, .string p_r.Mail.From.Domain] [.bool false, .string (⟨#[]⟩ : ByteArray), .string (⟨#[]⟩ : ByteArray)] (((p_r.Mail.From.Null == false) && ((p_r.Mail.From.Local.toList == (⟨#[]⟩ : ByteArray).toList) && ((p_r.Mail.From.Domain.toList == (⟨#[]⟩ : ByteArray).toList) && true)))) _ false (by kernel_rfl) (by kernel_rfl) (by kernel_rfl) (by kernel_rfl) (by kernel_rfl) rfl rfl rfl rfl (by kernel_rfl) rfl),z8 hg2_4 rfl,zr' rfl (oF underlying48 rfl sz46),zr' rfl (oL underlying46 rfl),zr' rfl (op_len_fl _ _ _ underlying46 rfl (by decide) (flat_len T_Path.len _)),zr' rfl (oB rfl rfl),z3 true rfl,z8 hg2_10 rfl,zr' rfl (oF underlying48 rfl sz29),zr' rfl (oL underlying29 rfl),zr' rfl (op_len_fl _ _ _ underlying29 rfl (by decide) (map_len _)),zr' rfl (oB rfl rfl),z3 true rfl,z8 hg2_16 rfl,zr' rfl (oF underlying48 rfl sz4),zr' rfl (oL underlying4 rfl),zr' rfl (op_un _ _ _ _ rfl rfl),z3 true rfl,z8 hg2_21 rfl,zt rfl,zt rfl,zt rfl,z3 false rfl,z1 rfl,zt rfl,zt rfl,zt rfl,z3 false rfl,z2 rfl,zz⟩ ?_
       exact hl3 _ (Option.some.inj h).symm
     ·refine zg hn (_::_::(7,.ptr 3 0)::(8,.agg [vb p_r.Mail.From.Null,vs p_r.Mail.From.Local,vs p_r.Mail.From.Domain])::(9,.agg [vb false,vs z0,vs z0])::(10,vb ((p_r.Mail.From.Null == false) && ((p_r.Mail.From.Local.toList == z0.toList) && ((p_r.Mail.From.Domain.toList == z0.toList) && true))))::(11,vb true)::(12,.ptr 3 3)::(13,.fl .shr 3 (List.flatten (List.map T_Path.enc p_r.Mail.To)))::(14,vi (p_r.Mail.To.length : Int))::(15,vb ((p_r.Mail.To.length : Int) == 0))::(16,vb ((p_r.Mail.To.length : Int) == 0))::(17,vb true)::(18,.ptr 3 4)::(19,.fl .shr 1 (List.map (Value.int .u8) p_r.Mail.Body))::(20,vi (p_r.Mail.Body.length : Int))::(21,vb ((p_r.Mail.Body.length : Int) == 0))::(22,vb ((p_r.Mail.Body.length : Int) == 0))::(23,vb false)::(24,.v undef)::(25,.v undef)::(26,.v undef)::(27,vb false)::(28,vb false)::(29,.v undef)::(30,.v undef)::(31,.v undef)::(32,vb false)::(33,vb false)::(34,.v undef)::(35,.v undef)::(36,.v undef)::(37,vb false)::(4,vb false)::[]) [0,1] [0,33] (zq [1] 2 7::zq [2,1] 3 8::zq [] 4 9::zq [3,4] 5 10::zq [5] 6 11::zq [6,1] 7 12::zq [6,7,1] 8 13::zq [6,8] 9 14::zq [6,9] 10 15::zq [6,10] 11 16::zq [11] 12 17::zq [12,1] 13 18::zq [12,13,1] 14 19::zq [12,14] 15 20::zq [12,15] 16 21::zq [12,16] 17 22::zq [17] 18 23::zq [18] 19 24::zq [18] 20 25::zq [18] 21 26::zq [18] 22 27::zq [22] 23 28::zq [23] 24 29::zq [23] 25 30::zq [23] 26 31::zq [23] 27 32::zq [27] 28 33::zq [28] 29 34::zq [28] 30 35::zq [28] 31 36::zq [28] 32 37::zq [32] 33 4::[]) [(_,_),(_,_)] rfl ⟨zp rfl (oF underlying48 rfl sz45),zp rfl (op_loadA _ _ _ _ _ _ _ underlying45 rfl sz45 rfl rfl (zl rfl) rfl rfl),zp rfl (op_build _ _ _ _ [1, 1, 1] _ _ underlying45 zr45 (fs45 _ underlying45) Src.nil rfl rfl rfl),zp rfl (op_eq_st _ _ [.bool p_r.Mail.From.Null, .string p_r.Mail.From.Local, .string p_r.Mail.From.Domain] [.bool false, .string (⟨#[]⟩ : ByteArray), .string (⟨#[]⟩ : ByteArray)] (((p_r.Mail.From.Null == false) && ((p_r.Mail.From.Local.toList == (⟨#[]⟩ : ByteArray).toList) && ((p_r.Mail.From.Domain.toList == (⟨#[]⟩ : ByteArray).toList) && true)))) _ false (by kernel_rfl) (by kernel_rfl) (by kernel_rfl) (by kernel_rfl) (by kernel_rfl) rfl rfl rfl rfl (by kernel_rfl) rfl),z8 hg2_4 rfl,zr' rfl (oF underlying48 rfl sz46),zr' rfl (oL underlying46 rfl),zr' rfl (op_len_fl _ _ _ underlying46 rfl (by decide) (flat_len T_Path.len _)),zr' rfl (oB rfl rfl),z3 true rfl,z8 hg2_10 rfl,zr' rfl (oF underlying48 rfl sz29),zr' rfl (oL underlying29 rfl),zr' rfl (op_len_fl _ _ _ underlying29 rfl (by decide) (map_len _)),zr' rfl (oB rfl rfl),z3 true rfl,z8 hg2_16 rfl,zt rfl,zt rfl,zt rfl,z3 false rfl,z1 rfl,zt rfl,zt rfl,zt rfl,z3 false rfl,z1 rfl,zt rfl,zt rfl,zt rfl,z3 false rfl,z2 rfl,zz⟩ ?_
      exact hl3 _ (Option.some.inj h).symm
    ·refine zg hn (_::_::(7,.ptr 3 0)::(8,.agg [vb p_r.Mail.From.Null,vs p_r.Mail.From.Local,vs p_r.Mail.From.Domain])::(9,.agg [vb false,vs z0,vs z0])::(10,vb ((p_r.Mail.From.Null == false) && ((p_r.Mail.From.Local.toList == z0.toList) && ((p_r.Mail.From.Domain.toList == z0.toList) && true))))::(11,vb true)::(12,.ptr 3 3)::(13,.fl .shr 3 (List.flatten (List.map T_Path.enc p_r.Mail.To)))::(14,vi (p_r.Mail.To.length : Int))::(15,vb ((p_r.Mail.To.length : Int) == 0))::(16,vb ((p_r.Mail.To.length : Int) == 0))::(17,vb false)::(18,.v undef)::(19,.v undef)::(20,.v undef)::(21,.v undef)::(22,vb false)::(23,vb false)::(24,.v undef)::(25,.v undef)::(26,.v undef)::(27,vb false)::(28,vb false)::(29,.v undef)::(30,.v undef)::(31,.v undef)::(32,vb false)::(33,vb false)::(34,.v undef)::(35,.v undef)::(36,.v undef)::(37,vb false)::(4,vb false)::[]) [0,1] [0,33] (zq [1] 2 7::zq [2,1] 3 8::zq [] 4 9::zq [3,4] 5 10::zq [5] 6 11::zq [6,1] 7 12::zq [6,7,1] 8 13::zq [6,8] 9 14::zq [6,9] 10 15::zq [6,10] 11 16::zq [11] 12 17::zq [12] 13 18::zq [12] 14 19::zq [12] 15 20::zq [12] 16 21::zq [12] 17 22::zq [17] 18 23::zq [18] 19 24::zq [18] 20 25::zq [18] 21 26::zq [18] 22 27::zq [22] 23 28::zq [23] 24 29::zq [23] 25 30::zq [23] 26 31::zq [23] 27 32::zq [27] 28 33::zq [28] 29 34::zq [28] 30 35::zq [28] 31 36::zq [28] 32 37::zq [32] 33 4::[]) [(_,_),(_,_)] rfl ⟨zp rfl (oF underlying48 rfl sz45),zp rfl (op_loadA _ _ _ _ _ _ _ underlying45 rfl sz45 rfl rfl (zl rfl) rfl rfl),zp rfl (op_build _ _ _ _ [1, 1, 1] _ _ underlying45 zr45 (fs45 _ underlying45) Src.nil rfl rfl rfl),zp rfl (op_eq_st _ _ [.bool p_r.Mail.From.Null, .string p_r.Mail.From.Local, .string p_r.Mail.From.Domain] [.bool false, .string (⟨#[]⟩ : ByteArray), .string (⟨#[]⟩ : ByteArray)] (((p_r.Mail.From.Null == false) && ((p_r.Mail.From.Local.toList == (⟨#[]⟩ : ByteArray).toList) && ((p_r.Mail.From.Domain.toList == (⟨#[]⟩ : ByteArray).toList) && true)))) _ false (by kernel_rfl) (by kernel_rfl) (by kernel_rfl) (by kernel_rfl) (by kernel_rfl) rfl rfl rfl rfl (by kernel_rfl) rfl),z8 hg2_4 rfl,zr' rfl (oF underlying48 rfl sz46),zr' rfl (oL underlying46 rfl),zr' rfl (op_len_fl _ _ _ underlying46 rfl (by decide) (flat_len T_Path.len _)),zr' rfl (oB rfl rfl),z3 true rfl,z8 hg2_10 rfl,zt rfl,zt rfl,zt rfl,zt rfl,z3 false rfl,z1 rfl,zt rfl,zt rfl,zt rfl,z3 false rfl,z1 rfl,zt rfl,zt rfl,zt rfl,z3 false rfl,z1 rfl,zt rfl,zt rfl,zt rfl,z3 false rfl,z2 rfl,zz⟩ ?_
     exact hl3 _ (Option.some.inj h).symm
   ·refine zg hn (_::_::(7,.ptr 3 0)::(8,.agg [vb p_r.Mail.From.Null,vs p_r.Mail.From.Local,vs p_r.Mail.From.Domain])::(9,.agg [vb false,vs z0,vs z0])::(10,vb ((p_r.Mail.From.Null == false) && ((p_r.Mail.From.Local.toList == z0.toList) && ((p_r.Mail.From.Domain.toList == z0.toList) && true))))::(11,vb false)::(12,.v undef)::(13,.v undef)::(14,.v undef)::(15,.v undef)::(16,vb false)::(17,vb false)::(18,.v undef)::(19,.v undef)::(20,.v undef)::(21,.v undef)::(22,vb false)::(23,vb false)::(24,.v undef)::(25,.v undef)::(26,.v undef)::(27,vb false)::(28,vb false)::(29,.v undef)::(30,.v undef)::(31,.v undef)::(32,vb false)::(33,vb false)::(34,.v undef)::(35,.v undef)::(36,.v undef)::(37,vb false)::(4,vb false)::[]) [0,1] [0,33] (zq [1] 2 7::zq [2,1] 3 8::zq [] 4 9::zq [3,4] 5 10::zq [5] 6 11::zq [6] 7 12::zq [6] 8 13::zq [6] 9 14::zq [6] 10 15::zq [6] 11 16::zq [11] 12 17::zq [12] 13 18::zq [12] 14 19::zq [12] 15 20::zq [12] 16 21::zq [12] 17 22::zq [17] 18 23::zq [18] 19 24::zq [18] 20 25::zq [18] 21 26::zq [18] 22 27::zq [22] 23 28::zq [23] 24 29::zq [23] 25 30::zq [23] 26 31::zq [23] 27 32::zq [27] 28 33::zq [28] 29 34::zq [28] 30 35::zq [28] 31 36::zq [28] 32 37::zq [32] 33 4::[]) [(_,_),(_,_)] rfl ⟨zp rfl (oF underlying48 rfl sz45),zp rfl (op_loadA _ _ _ _ _ _ _ underlying45 rfl sz45 rfl rfl (zl rfl) rfl rfl),zp rfl (op_build _ _ _ _ [1, 1, 1] _ _ underlying45 zr45 (fs45 _ underlying45) Src.nil rfl rfl rfl),zp rfl (op_eq_st _ _ [.bool p_r.Mail.From.Null, .string p_r.Mail.From.Local, .string p_r.Mail.From.Domain] [.bool false, .string (⟨#[]⟩ : ByteArray), .string (⟨#[]⟩ : ByteArray)] (((p_r.Mail.From.Null == false) && ((p_r.Mail.From.Local.toList == (⟨#[]⟩ : ByteArray).toList) && ((p_r.Mail.From.Domain.toList == (⟨#[]⟩ : ByteArray).toList) && true)))) _ false (by kernel_rfl) (by kernel_rfl) (by kernel_rfl) (by kernel_rfl) (by kernel_rfl) rfl rfl rfl rfl (by kernel_rfl) rfl),z8 hg2_4 rfl,zt rfl,zt rfl,zt rfl,zt rfl,z3 false rfl,z1 rfl,zt rfl,zt rfl,zt rfl,zt rfl,z3 false rfl,z1 rfl,zt rfl,zt rfl,zt rfl,z3 false rfl,z1 rfl,zt rfl,zt rfl,zt rfl,z3 false rfl,z1 rfl,zt rfl,zt rfl,zt rfl,z3 false rfl,z2 rfl,zz⟩ ?_
    exact hl3 _ (Option.some.inj h).symm
theorem ok_strings_splitSeq (s : ByteArray) (sep : ByteArray) (sepSave : Int) (r : (ByteArray × ByteArray × Int)) (h : Sh.strings_splitSeq s sep sepSave = some r) : FnOK Tryd.prog 80 [.v (.string s), .v (.string sep), .v (.int .i64 sepSave)] (.cloB 85 [.box 9 [.v (.string r.1)], .box 9 [.v (.string r.2.1)], .box 3 [.v (.int .i64 r.2.2)]]) := by
  unfold Sh.strings_splitSeq at h
  refine fn_ok func80 rfl (zl rfl) rfl rfl fun g0 hn hio => ?_
  refine zgg hn [_,_,_,(3,.box 9 [vs s]),(4,.box 9 [vs sep]),(5,.box 3 [vi sepSave]),(6,.v (.nilFunc))] [0,1,2] [3,4,5] [zq [0] 3 3,zq [1] 4 4,zq [2] 5 5,zq [] 6 6] [(_,_),(_,_),(_,_)] rfl ⟨zp rfl (op_box _ _ _ _ rfl rfl rfl),zp rfl (op_box _ _ _ _ rfl rfl rfl),zp rfl (op_box _ _ _ _ rfl rfl rfl),z2 rfl,zz⟩ ?_
  refine zgg hn [_,_,_,(7,.cloB 85 [.box 9 [vs sep],.box 9 [vs s],.box 3 [vi sepSave]]),(6,.cloB 85 [.box 9 [vs sep],.box 9 [vs s],.box 3 [vi sepSave]])] [0,1,2] [4] [⟨[],[1,0,2],[3],[(.slot 7)]⟩,⟨[],[3],[4],[(.slot 6)]⟩] [(_,_)] rfl ⟨zp rfl (op_mkclo _ _ [4, 3, 5] [.box 9 [.v (.string sep)], .box 9 [.v (.string s)], .box 3 [.v (.int .i64 sepSave)]] rfl rfl rfl),zp rfl (op_assign_take _ _ _ _ rfl),zz⟩ ?_
  refine ht_ret ?_
  obtain rfl := Option.some.inj h
  exact pt_ret hio rfl (.tmp _ _ .nil) rfl rfl
theorem ok_strings_SplitSeq (s : ByteArray) (sep : ByteArray) (r : (ByteArray × ByteArray × Int)) (h : Sh.strings_SplitSeq s sep = some r) : FnOK Tryd.prog 66 [.v (.string s), .v (.string sep)] (.cloB 85 [.box 9 [.v (.string r.1)], .box 9 [.v (.string r.2.1)], .box 3 [.v (.int .i64 r.2.2)]]) := by
  unfold Sh.strings_SplitSeq at h
  refine fn_ok func66 rfl (zl rfl) rfl rfl fun g0 hn hio => ?_
  refine zgg hn [_,_,(4,.v (.nilFunc))] [0,1] [0,1] [zq [] 2 4] [(_,_),(_,_)] rfl ⟨z2 rfl,zz⟩ ?_
  refine ht_seq ?_
  obtain ⟨v1, hv1, h⟩ := bind_some h
  refine zg hn [_,_,(5,vs s),(6,vs sep),(7,.cloB 85 [.box 9 [vs v1.1],.box 9 [vs v1.2.1],.box 3 [vi v1.2.2]]),(4,.cloB 85 [.box 9 [vs v1.1],.box 9 [vs v1.2.1],.box 3 [vi v1.2.2]])] [0,1] [5] [zq [0] 2 5,zq [1] 3 6,zq [2,3] 4 7,⟨[],[4],[5],[(.slot 4)]⟩] [(_,_)] rfl ⟨z1 rfl,z1 rfl,zp rfl (op_callS _ _ 80 _ _ rfl call80 rfl rfl (ok_strings_splitSeq s sep 0 _ hv1) rfl),zp rfl (op_assign_take _ _ _ _ rfl),zz⟩ ?_
  refine pt_then (ht_ret ?_)
  obtain rfl := Option.some.inj h
  exact pt_ret hio rfl (.tmp _ _ .nil) rfl rfl
theorem ok_unicode_utf8_decodeRuneInStringSlow (mx : Int) (s : ByteArray) (r : (Int × Int)) (h : Sh.unicode_utf8_decodeRuneInStringSlow s = some r) : FnG Tryd.prog (GL mx) 88 [.v (.string s)] (.tup [.v (.int .i32 r.1), .v (.int .i64 r.2)]) := by
  unfold Sh.unicode_utf8_decodeRuneInStringSlow at h
  refine fn_okG func88 rfl (zl rfl) rfl rfl fun g0 hn hio => ?_
  refine zgg hn [_,_,(2,.v (.int .i32 0)),(3,vi 0)] [0,1] [0,1] [zq [] 2 2,zq [] 3 3] [(_,_),(_,_)] rfl ⟨z2 rfl,z2 rfl,zz⟩ ?_
  refine zgg hn [_,_,(13,vs s),(14,vi (s.size : Int)),(4,vi (s.size : Int))] [0,1] [0,1,4] [zq [0] 2 13,zq [2] 3 14,zq [3] 4 4] [(_,_),(_,_),(_,_)] rfl ⟨z1 rfl,zp rfl (oN underlying9 rfl),z2 rfl,zz⟩ ?_
  refine ht_seq ?_
  refine zgg hn [_,_,_,(15,vi (s.size : Int)),(16,vb (decide ((s.size : Int) < 1)))] [0,1,2] [0,1,2,4] [zq [2] 3 15,zq [3] 4 16] [(_,_),(_,_),(_,_),(_,_)] rfl ⟨z1 rfl,z4 rfl rfl,zz⟩ ?_
  refine ht_cond _ rfl (fun hb1 => ?_) (fun hb1 => ?_)
  ·have h := cond_t hb1 h
   refine zgg hn [_,_,_,_,(2,.v (.int .i32 65533)),(3,vi 0)] [0,1,2,3] [1,4,5] [zq [] 4 2,zq [] 5 3] [(_,_),(_,_),(_,_)] rfl ⟨z2 rfl,z2 rfl,zz⟩ ?_
   refine ht_ret ?_
   refine pt_pick [1, 2] (by kernel_rfl) (es' := [(_,_),(_,_)]) rfl ?_
   refine pt_r_then ?_
   obtain rfl := Option.some.inj h
   exact pt_ret hio rfl (.tmp _ _ (.tmp _ _ .nil)) rfl rfl
  ·have h := cond_f hb1 h
   refine ht_skip ?_
   refine pt_then (ht_seq ?_)
   obtain ⟨v2, hv2, h⟩ := bind_some h
   refine zg hn [_,_,_,_,(17,vs s),(18,.v (.int .u8 v2)),(5,.v (.int .u8 v2))] [0,1,2,3] [0,1,2,6] [zq [0] 4 17,zq [4] 5 18,zq [5] 6 5] [(_,_),(_,_),(_,_),(_,_)] rfl ⟨z1 rfl,zp rfl (op_chr _ _ _ 0 _ underlying9 rfl rfl hv2),z2 rfl,zz⟩ ?_
   refine pt_then (ht_seq ?_)
   obtain ⟨v3, hv3, h⟩ := bind_some h
   obtain ⟨v4, hv4, h⟩ := bind_some h
   refine zg hn [_,_,_,_,(19,.v (.int .u8 v2)),(20,.v (.pointer (some ⟨1,(0 + v3 * 1),none⟩))),(21,.v (.int .u8 v4)),(6,.v (.int .u8 v4))] [0,1,2,3] [0,1,2,3,7] [zq [3] 4 19,zq [4] 5 20,zq [5,1] 6 21,zq [6] 7 6] [(_,_),(_,_),(_,_),(_,_),(_,_)] rfl ⟨z1 rfl,zp rfl (op_ix_globz _ _ _ _ 256 1 0 _ 1 _ underlying126 sz5 rfl rfl (ix_ok hv3).1 (ix_ok hv3).2),zp rfl (op_load_glob _ _ 117 1 _ _ _ underlying5 rfl rfl rfl (gl_mem1 mx) (map_get1 hv4)),z2 rfl,zz⟩ ?_
   refine pt_then (ht_seq ?_)
   refine zgg hn [_,_,_,_,_,(22,.v (.int .u8 v4)),(23,vb (decide (240 ≤ v4)))] [0,1,2,3,4] [0,1,2,3,4,6] [zq [4] 5 22,zq [5] 6 23] [(_,_),(_,_),(_,_),(_,_),(_,_),(_,_)] rfl ⟨z1 rfl,z4 rfl rfl,zz⟩ ?_
   refine ht_cond _ rfl (fun hb5 => ?_) (fun hb5 => ?_)
   ·have h := cond_t hb5 h
    refine ht_seq ?_
    obtain ⟨v6, hv6, h⟩ := bind_some h
    obtain ⟨v7, hv7, h⟩ := bind_some h
    obtain ⟨v8, hv8, h⟩ := bind_some h
    refine zg hn [_,_,_,_,_,_,(24,.v (.int .u8 v4)),(25,.v (.int .i32 v6)),(26,.v (.int .i32 v7)),(27,.v (.int .i32 v8)),(7,.v (.int .i32 v8))] [0,1,2,3,4,5] [0,1,10] [zq [4] 6 24,zq [6] 7 25,zq [7] 8 26,zq [8] 9 27,zq [9] 10 7] [(_,_),(_,_),(_,_)] rfl ⟨z1 rfl,zp rfl ((Option.some.inj hv6) ▸ op_conv _ _ _ underlying5 underlying21 rfl),zp rfl (oB rfl (shl_ok hv7)),zp rfl (oB rfl (shr_ok hv8)),z2 rfl,zz⟩ ?_
    refine pt_then (ht_seq ?_)
    obtain ⟨v9, hv9, h⟩ := bind_some h
    obtain ⟨v10, hv10, h⟩ := bind_some h
    obtain ⟨v11, hv11, h⟩ := bind_some h
    obtain ⟨v12, hv12, h⟩ := bind_some h
    obtain ⟨v13, hv13, h⟩ := bind_some h
    refine zg hn [_,_,_,(28,vs s),(29,.v (.int .u8 v9)),(30,.v (.int .i32 v10)),(31,.v (.int .i32 v8)),(32,.v (.int .i32 v11)),(33,.v (.int .i32 v8)),(34,.v (.int .i32 v12)),(35,.v (.int .i32 v13)),(2,.v (.int .i32 v13)),(3,vi 1)] [0,1,2] [1,11,12] [zq [0] 3 28,zq [3] 4 29,zq [4] 5 30,zq [2] 6 31,zq [5,6] 7 32,zq [2] 8 33,zq [8] 9 34,zq [7,9] 10 35,zq [10] 11 2,zq [] 12 3] [(_,_),(_,_),(_,_)] rfl ⟨z1 rfl,zp rfl (op_chr _ _ _ 0 _ underlying9 rfl rfl hv9),zp rfl ((Option.some.inj hv10) ▸ op_conv _ _ _ underlying5 underlying21 rfl),z1 rfl,zp rfl (oB rfl (ibind (f := Value.int .i32) (Option.some.inj hv11))),z1 rfl,zp rfl (oB rfl (ibind (f := Value.int .i32) (Option.some.inj hv12))),zp rfl (oB rfl (ibind (f := Value.int .i32) (Option.some.inj hv13))),z2 rfl,z2 rfl,zz⟩ ?_
    refine pt_then (ht_ret ?_)
    refine pt_pick [1, 2] (by kernel_rfl) (es' := [(_,_),(_,_)]) rfl ?_
    refine pt_r_then ?_
    obtain rfl := Option.some.inj h
    exact pt_ret hio rfl (.tmp _ _ (.tmp _ _ .nil)) rfl rfl
   ·have h := cond_f hb5 h
    cases h
theorem ok_unicode_utf8_DecodeRuneInString (mx : Int) (s : ByteArray) (r : (Int × Int)) (h : Sh.unicode_utf8_DecodeRuneInString s = some r) : FnG Tryd.prog (GL mx) 86 [.v (.string s)] (.tup [.v (.int .i32 r.1), .v (.int .i64 r.2)]) := by
  unfold Sh.unicode_utf8_DecodeRuneInString at h
  refine fn_okG func86 rfl (zl rfl) rfl rfl fun g0 hn hio => ?_
  refine zgg hn [_,_,(2,.v (.int .i32 0)),(3,vi 0)] [0,1] [0,1] [zq [] 2 2,zq [] 3 3] [(_,_),(_,_)] rfl ⟨z2 rfl,z2 rfl,zz⟩ ?_
  refine ht_seq ?_
  refine ht_seq ?_
  refine ht_joinS h (fun (s2 : Bool) => [(0, .v (.string s)), (19, .glob (GL mx)), (10, .v (.bool s2))]) ?_ ?_
  ·rintro s2 h
   refine pt_then ?_
   refine ht_cond _ rfl (fun hb6 => ?_) (fun hb6 => ?_)
   ·have h := cond_t hb6 h
    refine ht_seq ?_
    obtain ⟨v7, hv7, h⟩ := bind_some h
    obtain ⟨v8, hv8, h⟩ := bind_some h
    refine zg hn [_,_,_,(11,vs s),(12,.v (.int .u8 v7)),(13,.v (.int .i32 v8)),(2,.v (.int .i32 v8)),(3,vi 1)] [0,1,2] [1,6,7] [zq [0] 3 11,zq [3] 4 12,zq [4] 5 13,zq [5] 6 2,zq [] 7 3] [(_,_),(_,_),(_,_)] rfl ⟨z1 rfl,zp rfl (op_chr _ _ _ 0 _ underlying9 rfl rfl hv7),zp rfl ((Option.some.inj hv8) ▸ op_conv _ _ _ underlying5 underlying21 rfl),z2 rfl,z2 rfl,zz⟩ ?_
    refine pt_then (ht_ret ?_)
    refine pt_pick [1, 2] (by kernel_rfl) (es' := [(_,_),(_,_)]) rfl ?_
    refine pt_r_then ?_
    obtain rfl := Option.some.inj h
    exact pt_ret hio rfl (.tmp _ _ (.tmp _ _ .nil)) rfl rfl
   ·have h := cond_f hb6 h
    obtain ⟨v9, hv9, h⟩ := bind_some h
    refine zg hn [_,_,_,(15,vs s),(16,.tup [.v (.int .i32 v9.1),vi v9.2]),(14,.tup [.v (.int .i32 v9.1),vi v9.2]),(17,.v (.int .i32 v9.1)),(18,vi v9.2),(2,.v (.int .i32 v9.1)),(3,vi v9.2)] [0,1,2] [1,8,9] [zq [0] 3 15,zq [3,1] 4 16,⟨[],[4],[5],[(.slot 14)]⟩,zq [5] 6 17,zq [5] 7 18,zq [6] 8 2,zq [7] 9 3] [(_,_),(_,_),(_,_)] rfl ⟨z1 rfl,zp rfl (op_callG _ _ 19 88 _ _ rfl call88 rfl rfl (fun _ h => h) (ok_unicode_utf8_decodeRuneInStringSlow mx s _ hv9) rfl rfl),zp rfl (op_move_take _ _ _ _ rfl),zp rfl (oE rfl),zp rfl (oE rfl),z2 rfl,z2 rfl,zz⟩ ?_
    refine pt_then (ht_ret ?_)
    refine pt_pick [1, 2] (by kernel_rfl) (es' := [(_,_),(_,_)]) rfl ?_
    obtain rfl := Option.some.inj h
    exact pt_ret hio rfl (.tmp _ _ (.tmp _ _ .nil)) rfl rfl
  ·intro u3 h hl4 hr5
   refine cond_some h (fun hg1_2 h => ?_) (fun hg1_2 h => ?_)
   ·obtain ⟨v1, hv1, h⟩ := bind_some h
    refine zg hn [_,_,(4,vs s),(5,vb (!(s.toList == z0.toList))),(6,vb true),(7,vs s),(8,.v (.int .u8 v1)),(9,vb (decide (v1 < 128))),(10,vb (decide (v1 < 128)))] [0,1] [0,1,8] [zq [0] 2 4,zq [2] 3 5,zq [3] 4 6,zq [4,0] 5 7,zq [4,5] 6 8,zq [4,6] 7 9,zq [4,7] 8 10] [(_,_),(_,_),(_,_)] rfl ⟨z1 rfl,z4 rfl rfl,z8 hg1_2 rfl,zr' rfl (oM rfl),zr' rfl (op_chr _ _ _ 0 _ underlying9 rfl rfl hv1),zr' rfl (oB rfl rfl),z3 true rfl,zz⟩ ?_
    exact hl4 _ (Option.some.inj h).symm
   ·refine zg hn [_,_,(4,vs s),(5,vb (!(s.toList == z0.toList))),(6,vb false),(7,.v undef),(8,.v undef),(9,.v undef),(10,vb false)] [0,1] [0,1,8] [zq [0] 2 4,zq [2] 3 5,zq [3] 4 6,zq [4] 5 7,zq [4] 6 8,zq [4] 7 9,zq [4] 8 10] [(_,_),(_,_),(_,_)] rfl ⟨z1 rfl,z4 rfl rfl,z8 hg1_2 rfl,zt rfl,zt rfl,zt rfl,z3 false rfl,zz⟩ ?_
    exact hl4 _ (Option.some.inj h).symm
theorem ok_strings_Index (s sub : ByteArray) (r : Int) (h : Sh.strings_Index s sub = some r) : FnOK Tryd.prog 87 [.v (.string s), .v (.string sub)] (.v (.int .i64 r)) := lib_strings_Index Tryd.strings_Index_one s sub r h
theorem ok_strings_splitSeq_1 (mx : Int) (l : Nat) {S : Type} (J : S → InvT) (Y : ByteArray → S → Option (S × Bool)) (hY : YieldOK Tryd.prog l (fun x => .v (.string x)) Y J) (c0 : ByteArray) (c1 : ByteArray) (c2 : Int) (st r : S) (h : Sh.strings_splitSeq_1 Y c0 c1 c2 st = some r) : FnI Tryd.prog (GL mx) 85 l [.box 9 [.v (.string c0)], .box 9 [.v (.string c1)], .box 3 [.v (.int .i64 c2)]] (J st) (J r) := by
  unfold Sh.strings_splitSeq_1 at h
  refine fn_okI func85 rfl (zl rfl) rfl fun g0 hn hio => ?_
  refine ht_seq ?_
  refine zgg hn [_,_,_,_,_,_,(9,vs c0),(10,vi (c0.size : Int)),(11,vb ((c0.size : Int) == 0))] [0,1,2,3,4,5] [0,1,2,3,4,5,8] [zq [1] 6 9,zq [6] 7 10,zq [7] 8 11] [(_,_),(_,_),(_,_),(_,_),(_,_),(_,_),(_,_)] rfl ⟨zp rfl (oL underlying9 rfl),zp rfl (oN underlying9 rfl),z4 rfl rfl,zz⟩ ?_
  refine ht_cond _ rfl (fun hb1 => ?_) (fun hb1 => ?_)
  ·have h := cond_t hb1 h
   refine ht_seq ?_
   refine ht_pick [0, 2, 4, 5] (by kernel_rfl) (es' := [(_,_),(_,_),(_,_),(_,_)]) rfl ?_
   refine ht_loopS h (fun ((s12, s13) : ByteArray × S) => [(0, .v (.func (.yield l) #[] #[])), (2, .box 9 [.v (.string s12)]), (52, .glob (GL mx)), (53, .inv (J s13))]) (fun (s16 : S) => [(52, .glob (GL mx)), (53, .inv (J s16))]) ?_ ?_
   ·rintro s16 h
    refine pt_then (ht_ret ?_)
    refine pt_pick [1] (by kernel_rfl) (es' := [(53, .inv (J s16))]) rfl ?_
    refine pt_r_then ?_
    obtain rfl := Option.some.inj h
    exact pt_retI hio rfl rfl rfl
   ·rintro u17 hl18 hr19 ⟨s12, s13⟩ rr22 h ho20
    refine ht_seq ?_
    refine zgg hn [_,_,_,_,(12,vs s12),(13,vi (s12.size : Int)),(14,vb (decide (0 < (s12.size : Int))))] [0,1,2,3] [0,1,2,3,6] [zq [1] 4 12,zq [4] 5 13,zq [5] 6 14] [(_,_),(_,_),(_,_),(_,_),(_,_)] rfl ⟨zp rfl (oL underlying9 rfl),zp rfl (oN underlying9 rfl),z4 rfl rfl,zz⟩ ?_
    refine ht_cond _ rfl (fun hb23 => ?_) (fun hb23 => ?_)
    ·have h := cond_t hb23 h
     refine ht_skip ?_
     refine pt_then ?_
     refine ht_block ?_
     refine ht_seq ?_
     obtain ⟨v3, hv3, h⟩ := bind_some h
     refine zg hn [_,_,_,_,_,(16,vs s12),(17,.tup [.v (.int .i32 v3.1),vi v3.2]),(15,.tup [.v (.int .i32 v3.1),vi v3.2]),(18,.v (.int .i32 v3.1)),(19,vi v3.2),(5,.v (.int .i32 v3.1)),(6,vi v3.2)] [0,1,2,3,4] [0,1,2,3,11] [zq [1] 5 16,zq [5,2] 6 17,⟨[],[6],[7],[(.slot 15)]⟩,zq [7] 8 18,zq [7] 9 19,zq [8] 10 5,zq [9] 11 6] [(_,_),(_,_),(_,_),(_,_),(_,_)] rfl ⟨zp rfl (oL underlying9 rfl),zp rfl (op_callG _ _ 52 86 _ _ rfl call86 rfl rfl (fun _ h => h) (ok_unicode_utf8_DecodeRuneInString mx s12 _ hv3) rfl rfl),zp rfl (op_move_take _ _ _ _ rfl),zp rfl (oE rfl),zp rfl (oE rfl),z2 rfl,z2 rfl,zz⟩ ?_
     refine pt_then (ht_seq ?_)
     refine ht_seq ?_
     obtain ⟨v4, hv4, h⟩ := bind_some h
     obtain ⟨v5, hv5, h⟩ := bind_some h
     refine zg hn [_,_,_,_,_,(20,.v (.func (.yield l) #[] #[])),(21,vs s12),(22,vi v3.2),(23,vs v4),(24,vb v5.2),(53,.inv (J v5.1)),(25,vb (!v5.2))] [0,1,2,3,4] [0,1,2,10,4,11] [zq [0] 5 20,zq [1] 6 21,zq [4] 7 22,zq [6,7] 8 23,⟨[8,5],[3],[10,9],[(.slot 24)]⟩,zq [9] 11 25] [(_,_),(_,_),(_,_),(_,_),(_,_),(_,_)] rfl ⟨z1 rfl,zp rfl (oL underlying9 rfl),z1 rfl,zp rfl (op_substr _ _ _ 0 v3.2 _ underlying9 rfl rfl ⟨_, rfl⟩ hv4),zp rfl (op_yield _ _ 53 l v4 s13 v5 hY hv5 rfl rfl rfl),zp rfl (op_un _ _ _ _ rfl rfl),zz⟩ ?_
     refine pt_then ?_
     refine ht_cond _ rfl (fun hb24 => ?_) (fun hb24 => ?_)
     ·have h := cond_t hb24 h
      refine ht_ret ?_
      refine pt_pick [3] (by kernel_rfl) (es' := [(53, .inv (J v5.1))]) rfl ?_
      refine pt_r_then ?_
      refine pt_r_in ?_
      refine pt_r_then ?_
      refine pt_r_in ?_
      refine pt_r_then ?_
      refine pt_r_then ?_
      have h := hr19 _ (ho20 _ (Option.some.inj h).symm).symm
      obtain rfl := Option.some.inj h
      exact pt_retI hio rfl rfl rfl
     ·have h := cond_f hb24 h
      refine ht_skip ?_
      refine pt_then ?_
      obtain ⟨v7, hv7, h⟩ := bind_some h
      refine zg hn [_,_,_,_,_,_,(26,vs s12),(27,vi v3.2),(28,vs v7),(2,.box 9 [vs v7])] [0,1,2,3,4,5] [0,9,2,3] [zq [1] 6 26,zq [4] 7 27,zq [6,7] 8 28,⟨[8],[1],[9],[.cell 2 0]⟩] [(_,_),(_,_),(_,_),(_,_)] rfl ⟨zp rfl (oL underlying9 rfl),z1 rfl,zp rfl (op_substr _ _ _ v3.2 (s12.size : Int) _ underlying9 rfl ⟨_, rfl⟩ rfl hv7),zp rfl (oS sz9 rfl),zz⟩ ?_
      refine pt_inb ?_
      exact pt_next _ (Option.some.inj h).symm rfl
    ·have h := cond_f hb23 h
     refine ht_exit ?_
     refine pt_x_then ?_
     refine pt_x_then ?_
     refine pt_x_in ?_
     refine pt_pick [2, 3] (by kernel_rfl) (es' := [(_,_),(_,_)]) rfl ?_
     exact hl18 _ (ho20 _ (Option.some.inj h).symm).symm
  ·have h := cond_f hb1 h
   refine ht_skip ?_
   refine pt_then (ht_seq ?_)
   refine ht_pick [0, 1, 2, 3, 4, 5] (by kernel_rfl) (es' := [(_,_),(_,_),(_,_),(_,_),(_,_),(_,_)]) rfl ?_
   refine ht_loopS h (fun ((s37, s38) : ByteArray × S) => [(0, .v (.func (.yield l) #[] #[])), (1, .box 9 [.v (.string c0)]), (2, .box 9 [.v (.string s37)]), (3, .box 3 [.v (.int .i64 c2)]), (52, .glob (GL mx)), (53, .inv (J s38))]) (fun ((s41, s42) : ByteArray × S) => [(0, .v (.func (.yield l) #[] #[])), (2, .box 9 [.v (.string s41)]), (52, .glob (GL mx)), (53, .inv (J s42))]) ?_ ?_
   ·rintro ⟨s41, s42⟩ h
    refine pt_then ?_
    obtain ⟨v51, hv51, h⟩ := bind_some h
    refine zg hn [_,_,_,_,(49,.v (.func (.yield l) #[] #[])),(50,vs s41),(51,vb v51.2),(53,.inv (J v51.1))] [0,1,2,3] [2,7] [zq [0] 4 49,zq [1] 5 50,⟨[5,4],[3],[7,6],[(.slot 51)]⟩] [(_,_),(_,_)] rfl ⟨z1 rfl,zp rfl (oL underlying9 rfl),zp rfl (op_yield _ _ 53 l s41 s42 v51 hY hv51 rfl rfl rfl),zz⟩ ?_
    refine pt_pick [1] (by kernel_rfl) (es' := [(53, .inv (J v51.1))]) rfl ?_
    obtain rfl := Option.some.inj h
    exact pt_endI hio rfl rfl rfl
   ·rintro u43 hl44 hr45 ⟨s37, s38⟩ rr48 h ho46
    refine ht_block ?_
    refine ht_seq ?_
    obtain ⟨v25, hv25, h⟩ := bind_some h
    refine zg hn [_,_,_,_,_,_,(29,vs s37),(30,vs c0),(31,vi v25),(7,vi v25)] [0,1,2,3,4,5] [0,1,2,3,4,5,9] [zq [2] 6 29,zq [1] 7 30,zq [6,7] 8 31,zq [8] 9 7] [(_,_),(_,_),(_,_),(_,_),(_,_),(_,_),(_,_)] rfl ⟨zp rfl (oL underlying9 rfl),zp rfl (oL underlying9 rfl),zp rfl (op_call _ _ 87 _ _ rfl call87 rfl (ok_strings_Index s37 c0 _ hv25) rfl rfl),z2 rfl,zz⟩ ?_
    refine pt_then (ht_seq ?_)
    refine zgg hn [_,_,_,_,_,_,_,(32,vi v25),(33,vb (decide (v25 < 0)))] [0,1,2,3,4,5,6] [0,1,2,3,4,5,6,8] [zq [6] 7 32,zq [7] 8 33] [(_,_),(_,_),(_,_),(_,_),(_,_),(_,_),(_,_),(_,_)] rfl ⟨z1 rfl,z4 rfl rfl,zz⟩ ?_
    refine ht_cond _ rfl (fun hb49 => ?_) (fun hb49 => ?_)
    ·have h := cond_t hb49 h
     refine ht_exit ?_
     refine pt_x_then ?_
     refine pt_x_out (by decide) ?_
     refine pt_x_then ?_
     refine pt_x_in ?_
     refine pt_pick [0, 2, 4, 5] (by kernel_rfl) (es' := [(_,_),(_,_),(_,_),(_,_)]) rfl ?_
     exact hl44 _ (ho46 _ (Option.some.inj h).symm).symm
    ·have h := cond_f hb49 h
     refine ht_skip ?_
     refine pt_then (ht_seq ?_)
     obtain ⟨v27, hv27, h⟩ := bind_some h
     obtain ⟨v28, hv28, h⟩ := bind_some h
     refine zg hn [_,_,_,_,_,_,_,_,(34,vs s37),(35,vi v25),(36,vi c2),(37,vi v27),(38,vs v28),(8,vs v28)] [0,1,2,3,4,5,6,7] [0,1,2,3,4,5,6,13] [zq [2] 8 34,zq [6] 9 35,zq [3] 10 36,zq [9,10] 11 37,zq [8,11] 12 38,zq [12] 13 8] [(_,_),(_,_),(_,_),(_,_),(_,_),(_,_),(_,_),(_,_)] rfl ⟨zp rfl (oL underlying9 rfl),z1 rfl,zp rfl (oL underlying3 rfl),zp rfl (oB rfl (ibind (f := Value.int .i64) (Option.some.inj hv27))),zp rfl (op_substr _ _ _ 0 v27 _ underlying9 rfl rfl ⟨_, rfl⟩ hv28),z2 rfl,zz⟩ ?_
     refine pt_then (ht_seq ?_)
     refine ht_seq ?_
     obtain ⟨v29, hv29, h⟩ := bind_some h
     refine zg hn [_,_,_,_,_,_,_,_,(39,.v (.func (.yield l) #[] #[])),(40,vs v28),(41,vb v29.2),(53,.inv (J v29.1)),(42,vb (!v29.2))] [0,1,2,3,4,5,6,7] [0,1,2,3,4,11,6,12] [zq [0] 8 39,zq [7] 9 40,⟨[9,8],[5],[11,10],[(.slot 41)]⟩,zq [10] 12 42] [(_,_),(_,_),(_,_),(_,_),(_,_),(_,_),(_,_),(_,_)] rfl ⟨z1 rfl,z1 rfl,zp rfl (op_yield _ _ 53 l v28 s38 v29 hY hv29 rfl rfl rfl),zp rfl (op_un _ _ _ _ rfl rfl),zz⟩ ?_
     refine pt_then ?_
     refine ht_cond _ rfl (fun hb50 => ?_) (fun hb50 => ?_)
     ·have h := cond_t hb50 h
      refine ht_ret ?_
      refine pt_pick [5] (by kernel_rfl) (es' := [(53, .inv (J v29.1))]) rfl ?_
      refine pt_r_then ?_
      refine pt_r_in ?_
      refine pt_r_then ?_
      refine pt_r_in ?_
      refine pt_r_then ?_
      have h := hr45 _ (ho46 _ (Option.some.inj h).symm).symm
      obtain rfl := Option.some.inj h
      exact pt_retI hio rfl rfl rfl
     ·have h := cond_f hb50 h
      refine ht_skip ?_
      refine pt_then ?_
      obtain ⟨v31, hv31, h⟩ := bind_some h
      obtain ⟨v32, hv32, h⟩ := bind_some h
      refine zg hn (_::_::_::_::_::_::_::_::(43,vs s37)::(44,vi v25)::(45,vs c0)::(46,vi (c0.size : Int))::(47,vi v31)::(48,vs v32)::(2,.box 9 [vs v32])::[]) [0,1,2,3,4,5,6,7] [0,1,14,3,4,5] [zq [2] 8 43,zq [6] 9 44,zq [1] 10 45,zq [10] 11 46,zq [9,11] 12 47,zq [8,12] 13 48,⟨[13],[2],[14],[.cell 2 0]⟩] [(_,_),(_,_),(_,_),(_,_),(_,_),(_,_)] rfl ⟨zp rfl (oL underlying9 rfl),z1 rfl,zp rfl (oL underlying9 rfl),zp rfl (oN underlying9 rfl),zp rfl (oB rfl (ibind (f := Value.int .i64) (Option.some.inj hv31))),zp rfl (op_substr _ _ _ v31 (s37.size : Int) _ underlying9 rfl ⟨_, rfl⟩ rfl hv32),zp rfl (oS sz9 rfl),zz⟩ ?_
      refine pt_inb ?_
      exact pt_next _ (Option.some.inj h).symm rfl
theorem ok_path_alphanumeric (c : Int) (r : Bool) (h : Sh.path_alphanumeric c = some r) : FnOK Tryd.prog 69 [.v (.int .u8 c)] (.v (.bool r)) := by
  unfold Sh.path_alphanumeric at h
  refine fn_ok func69 rfl (zl rfl) rfl rfl fun g0 hn hio => ?_
  refine zgg hn [_,(2,vb false)] [0] [0] [zq [] 1 2] [(_,_)] rfl ⟨z2 rfl,zz⟩ ?_
  refine ht_seq ?_
  refine ht_joinS h (fun (s1 : Bool) => [(2, .v (.bool s1))]) ?_ ?_
  ·rintro s1 h
   refine pt_then (ht_ret ?_)
   obtain rfl := Option.some.inj h
   exact pt_ret hio rfl (.tmp _ _ .nil) rfl rfl
  ·intro u2 h hl3 hr4
   refine cond_some h (fun hg1_2 h => ?_) (fun hg1_2 h => ?_)
   ·refine cond_some h (fun hg1_6 h => ?_) (fun hg1_6 h => ?_)
    ·refine zg hn (_::(3,.v (.int .u8 c))::(4,vb (decide (48 ≤ c)))::(5,vb true)::(6,.v (.int .u8 c))::(7,vb (decide (c ≤ 57)))::(8,vb (decide (c ≤ 57)))::(9,vb true)::(10,.v undef)::(11,.v undef)::(12,.v undef)::(13,.v undef)::(14,.v undef)::(15,.v undef)::(16,vb true)::(17,vb true)::(18,.v undef)::(19,.v undef)::(20,.v undef)::(21,.v undef)::(22,.v undef)::(23,.v undef)::(24,vb true)::(2,vb true)::[]) [0] [23] (zq [0] 1 3::zq [1] 2 4::zq [2] 3 5::zq [3,0] 4 6::zq [3,4] 5 7::zq [3,5] 6 8::zq [6] 7 9::zq [7] 8 10::zq [7] 9 11::zq [7] 10 12::zq [10] 11 13::zq [10] 12 14::zq [7] 13 15::zq [7] 14 16::zq [14] 15 17::zq [15] 16 18::zq [15] 17 19::zq [15] 18 20::zq [18] 19 21::zq [18] 20 22::zq [15] 21 23::zq [15] 22 24::zq [22] 23 2::[]) [(_,_)] rfl ⟨z1 rfl,z4 rfl rfl,z8 hg1_2 rfl,zr' rfl (oM rfl),zr' rfl (oB rfl rfl),z3 true rfl,z8 hg1_6 rfl,zf rfl,zf rfl,zf rfl,zu' rfl,zu' rfl,zf rfl,z3 true rfl,z1 rfl,zf rfl,zf rfl,zf rfl,zu' rfl,zu' rfl,zf rfl,z3 true rfl,z2 rfl,zz⟩ ?_
     exact hl3 _ (Option.some.inj h).symm
    ·refine cond_some h (fun hg1_9 h => ?_) (fun hg1_9 h => ?_)
     ·refine cond_some h (fun hg1_14 h => ?_) (fun hg1_14 h => ?_)
      ·refine zg hn (_::(3,.v (.int .u8 c))::(4,vb (decide (48 ≤ c)))::(5,vb true)::(6,.v (.int .u8 c))::(7,vb (decide (c ≤ 57)))::(8,vb (decide (c ≤ 57)))::(9,vb false)::(10,.v (.int .u8 c))::(11,vb (decide (65 ≤ c)))::(12,vb true)::(13,.v (.int .u8 c))::(14,vb (decide (c ≤ 90)))::(15,vb (decide (c ≤ 90)))::(16,vb (decide (c ≤ 90)))::(17,vb true)::(18,.v undef)::(19,.v undef)::(20,.v undef)::(21,.v undef)::(22,.v undef)::(23,.v undef)::(24,vb true)::(2,vb true)::[]) [0] [23] (zq [0] 1 3::zq [1] 2 4::zq [2] 3 5::zq [3,0] 4 6::zq [3,4] 5 7::zq [3,5] 6 8::zq [6] 7 9::zq [7,0] 8 10::zq [7,8] 9 11::zq [7,9] 10 12::zq [10,0] 11 13::zq [10,11] 12 14::zq [7,10,12] 13 15::zq [7,13] 14 16::zq [14] 15 17::zq [15] 16 18::zq [15] 17 19::zq [15] 18 20::zq [18] 19 21::zq [18] 20 22::zq [15] 21 23::zq [15] 22 24::zq [22] 23 2::[]) [(_,_)] rfl ⟨z1 rfl,z4 rfl rfl,z8 hg1_2 rfl,zr' rfl (oM rfl),zr' rfl (oB rfl rfl),z3 true rfl,z8 hg1_6 rfl,zr' rfl (oM rfl),zr' rfl (oB rfl rfl),zr' rfl (op_move _ _ _ _ (zb hg1_9) rfl),zr' rfl (oM rfl),zr' rfl (oB rfl rfl),zr' rfl (op_pick _ _ true _ rfl rfl),z3 false rfl,z8 hg1_14 rfl,zf rfl,zf rfl,zf rfl,zu' rfl,zu' rfl,zf rfl,z3 true rfl,z2 rfl,zz⟩ ?_
       exact hl3 _ (Option.some.inj h).symm
      ·refine cond_some h (fun hg1_17 h => ?_) (fun hg1_17 h => ?_)
       ·refine zg hn (_::(3,.v (.int .u8 c))::(4,vb (decide (48 ≤ c)))::(5,vb true)::(6,.v (.int .u8 c))::(7,vb (decide (c ≤ 57)))::(8,vb (decide (c ≤ 57)))::(9,vb false)::(10,.v (.int .u8 c))::(11,vb (decide (65 ≤ c)))::(12,vb true)::(13,.v (.int .u8 c))::(14,vb (decide (c ≤ 90)))::(15,vb (decide (c ≤ 90)))::(16,vb (decide (c ≤ 90)))::(17,vb false)::(18,.v (.int .u8 c))::(19,vb (decide (97 ≤ c)))::(20,vb true)::(21,.v (.int .u8 c))::(22,vb (decide (c ≤ 122)))::(23,vb (decide (c ≤ 122)))::(24,vb (decide (c ≤ 122)))::(2,vb (decide (c ≤ 122)))::[]) [0] [23] (zq [0] 1 3::zq [1] 2 4::zq [2] 3 5::zq [3,0] 4 6::zq [3,4] 5 7::zq [3,5] 6 8::zq [6] 7 9::zq [7,0] 8 10::zq [7,8] 9 11::zq [7,9] 10 12::zq [10,0] 11 13::zq [10,11] 12 14::zq [7,10,12] 13 15::zq [7,13] 14 16::zq [14] 15 17::zq [15,0] 16 18::zq [15,16] 17 19::zq [15,17] 18 20::zq [18,0] 19 21::zq [18,19] 20 22::zq [15,18,20] 21 23::zq [15,21] 22 24::zq [22] 23 2::[]) [(_,_)] rfl ⟨z1 rfl,z4 rfl rfl,z8 hg1_2 rfl,zr' rfl (oM rfl),zr' rfl (oB rfl rfl),z3 true rfl,z8 hg1_6 rfl,zr' rfl (oM rfl),zr' rfl (oB rfl rfl),zr' rfl (op_move _ _ _ _ (zb hg1_9) rfl),zr' rfl (oM rfl),zr' rfl (oB rfl rfl),zr' rfl (op_pick _ _ true _ rfl rfl),z3 false rfl,z8 hg1_14 rfl,zr' rfl (oM rfl),zr' rfl (oB rfl rfl),zr' rfl (op_move _ _ _ _ (zb hg1_17) rfl),zr' rfl (oM rfl),zr' rfl (oB rfl rfl),zr' rfl (op_pick _ _ true _ rfl rfl),z3 false rfl,z2 rfl,zz⟩ ?_
        exact hl3 _ (Option.some.inj h).symm
       ·refine zg hn (_::(3,.v (.int .u8 c))::(4,vb (decide (48 ≤ c)))::(5,vb true)::(6,.v (.int .u8 c))::(7,vb (decide (c ≤ 57)))::(8,vb (decide (c ≤ 57)))::(9,vb false)::(10,.v (.int .u8 c))::(11,vb (decide (65 ≤ c)))::(12,vb true)::(13,.v (.int .u8 c))::(14,vb (decide (c ≤ 90)))::(15,vb (decide (c ≤ 90)))::(16,vb (decide (c ≤ 90)))::(17,vb false)::(18,.v (.int .u8 c))::(19,vb (decide (97 ≤ c)))::(20,vb false)::(21,.v undef)::(22,.v undef)::(23,vb false)::(24,vb false)::(2,vb false)::[]) [0] [23] (zq [0] 1 3::zq [1] 2 4::zq [2] 3 5::zq [3,0] 4 6::zq [3,4] 5 7::zq [3,5] 6 8::zq [6] 7 9::zq [7,0] 8 10::zq [7,8] 9 11::zq [7,9] 10 12::zq [10,0] 11 13::zq [10,11] 12 14::zq [7,10,12] 13 15::zq [7,13] 14 16::zq [14] 15 17::zq [15,0] 16 18::zq [15,16] 17 19::zq [15,17] 18 20::zq [18] 19 21::zq [18] 20 22::zq [15,18] 21 23::zq [15,21] 22 24::zq [22] 23 2::[]) [(_,_)] rfl ⟨z1 rfl,z4 rfl rfl,z8 hg1_2 rfl,zr' rfl (oM rfl),zr' rfl (oB rfl rfl),z3 true rfl,z8 hg1_6 rfl,zr' rfl (oM rfl),zr' rfl (oB rfl rfl),zr' rfl (op_move _ _ _ _ (zb hg1_9) rfl),zr' rfl (oM rfl),zr' rfl (oB rfl rfl),zr' rfl (op_pick _ _ true _ rfl rfl),z3 false rfl,z8 hg1_14 rfl,zr' rfl (oM rfl),zr' rfl (oB rfl rfl),zr' rfl (op_move _ _ _ _ (zb hg1_17) rfl),zt rfl,zt rfl,zr' rfl (op_pick _ _ false _ rfl rfl),z3 false rfl,z2 rfl,zz⟩ ?_
        exact hl3 _ (Option.some.inj h).symm
     ·refine cond_some h (fun hg1_17 h => ?_) (fun hg1_17 h => ?_)
      ·refine zg hn (_::(3,.v (.int .u8 c))::(4,vb (decide (48 ≤ c)))::(5,vb true)::(6,.v (.int .u8 c))::(7,vb (decide (c ≤ 57)))::(8,vb (decide (c ≤ 57)))::(9,vb false)::(10,.v (.int .u8 c))::(11,vb (decide (65 ≤ c)))::(12,vb false)::(13,.v undef)::(14,.v undef)::(15,vb false)::(16,vb false)::(17,vb false)::(18,.v (.int .u8 c))::(19,vb (decide (97 ≤ c)))::(20,vb true)::(21,.v (.int .u8 c))::(22,vb (decide (c ≤ 122)))::(23,vb (decide (c ≤ 122)))::(24,vb (decide (c ≤ 122)))::(2,vb (decide (c ≤ 122)))::[]) [0] [23] (zq [0] 1 3::zq [1] 2 4::zq [2] 3 5::zq [3,0] 4 6::zq [3,4] 5 7::zq [3,5] 6 8::zq [6] 7 9::zq [7,0] 8 10::zq [7,8] 9 11::zq [7,9] 10 12::zq [10] 11 13::zq [10] 12 14::zq [7,10] 13 15::zq [7,13] 14 16::zq [14] 15 17::zq [15,0] 16 18::zq [15,16] 17 19::zq [15,17] 18 20::zq [18,0] 19 21::zq [18,19] 20 22::zq [15,18,20] 21 23::zq [15,21] 22 24::zq [22] 23 2::[]) [(_,_)] rfl ⟨z1 rfl,z4 rfl rfl,z8 hg1_2 rfl,zr' rfl (oM rfl),zr' rfl (oB rfl rfl),z3 true rfl,z8 hg1_6 rfl,zr' rfl (oM rfl),zr' rfl (oB rfl rfl),zr' rfl (op_move _ _ _ _ (zb hg1_9) rfl),zt rfl,zt rfl,zr' rfl (op_pick _ _ false _ rfl rfl),z3 false rfl,z1 rfl,zr' rfl (oM rfl),zr' rfl (oB rfl rfl),zr' rfl (op_move _ _ _ _ (zb hg1_17) rfl),zr' rfl (oM rfl),zr' rfl (oB rfl rfl),zr' rfl (op_pick _ _ true _ rfl rfl),z3 false rfl,z2 rfl,zz⟩ ?_
       exact hl3 _ (Option.some.inj h).symm
      ·refine zg hn (_::(3,.v (.int .u8 c))::(4,vb (decide (48 ≤ c)))::(5,vb true)::(6,.v (.int .u8 c))::(7,vb (decide (c ≤ 57)))::(8,vb (decide (c ≤ 57)))::(9,vb false)::(10,.v (.int .u8 c))::(11,vb (decide (65 ≤ c)))::(12,vb false)::(13,.v undef)::(14,.v undef)::(15,vb false)::(16,vb false)::(17,vb false)::(18,.v (.int .u8 c))::(19,vb (decide (97 ≤ c)))::(20,vb false)::(21,.v undef)::(22,.v undef)::(23,vb false)::(24,vb false)::(2,vb false)::[]) [0] [23] (zq [0] 1 3::zq [1] 2 4::zq [2] 3 5::zq [3,0] 4 6::zq [3,4] 5 7::zq [3,5] 6 8::zq [6] 7 9::zq [7,0] 8 10::zq [7,8] 9 11::zq [7,9] 10 12::zq [10] 11 13::zq [10] 12 14::zq [7,10] 13 15::zq [7,13] 14 16::zq [14] 15 17::zq [15,0] 16 18::zq [15,16] 17 19::zq [15,17] 18 20::zq [18] 19 21::zq [18] 20 22::zq [15,18] 21 23::zq [15,21] 22 24::zq [22] 23 2::[]) [(_,_)] rfl ⟨z1 rfl,z4 rfl rfl,z8 hg1_2 rfl,zr' rfl (oM rfl),zr' rfl (oB rfl rfl),z3 true rfl,z8 hg1_6 rfl,zr' rfl (oM rfl),zr' rfl (oB rfl rfl),zr' rfl (op_move _ _ _ _ (zb hg1_9) rfl),zt rfl,zt rfl,zr' rfl (op_pick _ _ false _ rfl rfl),z3 false rfl,z1 rfl,zr' rfl (oM rfl),zr' rfl (oB rfl rfl),zr' rfl (op_move _ _ _ _ (zb hg1_17) rfl),zt rfl,zt rfl,zr' rfl (op_pick _ _ false _ rfl rfl),z3 false rfl,z2 rfl,zz⟩ ?_
       exact hl3 _ (Option.some.inj h).symm
   ·refine cond_some h (fun hg1_9 h => ?_) (fun hg1_9 h => ?_)
    ·refine cond_some h (fun hg1_14 h => ?_) (fun hg1_14 h => ?_)
     ·refine zg hn (_::(3,.v (.int .u8 c))::(4,vb (decide (48 ≤ c)))::(5,vb false)::(6,.v undef)::(7,.v undef)::(8,vb false)::(9,vb false)::(10,.v (.int .u8 c))::(11,vb (decide (65 ≤ c)))::(12,vb true)::(13,.v (.int .u8 c))::(14,vb (decide (c ≤ 90)))::(15,vb (decide (c ≤ 90)))::(16,vb (decide (c ≤ 90)))::(17,vb true)::(18,.v undef)::(19,.v undef)::(20,.v undef)::(21,.v undef)::(22,.v undef)::(23,.v undef)::(24,vb true)::(2,vb true)::[]) [0] [23] (zq [0] 1 3::zq [1] 2 4::zq [2] 3 5::zq [3] 4 6::zq [3] 5 7::zq [3] 6 8::zq [6] 7 9::zq [7,0] 8 10::zq [7,8] 9 11::zq [7,9] 10 12::zq [10,0] 11 13::zq [10,11] 12 14::zq [7,10,12] 13 15::zq [7,13] 14 16::zq [14] 15 17::zq [15] 16 18::zq [15] 17 19::zq [15] 18 20::zq [18] 19 21::zq [18] 20 22::zq [15] 21 23::zq [15] 22 24::zq [22] 23 2::[]) [(_,_)] rfl ⟨z1 rfl,z4 rfl rfl,z8 hg1_2 rfl,zt rfl,zt rfl,z3 false rfl,z1 rfl,zr' rfl (oM rfl),zr' rfl (oB rfl rfl),zr' rfl (op_move _ _ _ _ (zb hg1_9) rfl),zr' rfl (oM rfl),zr' rfl (oB rfl rfl),zr' rfl (op_pick _ _ true _ rfl rfl),z3 false rfl,z8 hg1_14 rfl,zf rfl,zf rfl,zf rfl,zu' rfl,zu' rfl,zf rfl,z3 true rfl,z2 rfl,zz⟩ ?_
      exact hl3 _ (Option.some.inj h).symm
     ·refine cond_some h (fun hg1_17 h => ?_) (fun hg1_17 h => ?_)
      ·refine zg hn (_::(3,.v (.int .u8 c))::(4,vb (decide (48 ≤ c)))::(5,vb false)::(6,.v undef)::(7,.v undef)::(8,vb false)::(9,vb false)::(10,.v (.int .u8 c))::(11,vb (decide (65 ≤ c)))::(12,vb true)::(13,.v (.int .u8 c))::(14,vb (decide (c ≤ 90)))::(15,vb (decide (c ≤ 90)))::(16,vb (decide (c ≤ 90)))::(17,vb false)::(18,.v (.int .u8 c))::(19,vb (decide (97 ≤ c)))::(20,vb true)::(21,.v (.int .u8 c))::(22,vb (decide (c ≤ 122)))::(23,vb (decide (c ≤ 122)))::(24,vb (decide (c ≤ 122)))::(2,vb (decide (c ≤ 122)))::[]) [0] [23] (zq [0] 1 3::zq [1] 2 4::zq [2] 3 5::zq [3] 4 6::zq [3] 5 7::zq [3] 6 8::zq [6] 7 9::zq [7,0] 8 10::zq [7,8] 9 11::zq [7,9] 10 12::zq [10,0] 11 13::zq [10,11] 12 14::zq [7,10,12] 13 15::zq [7,13] 14 16::zq [14] 15 17::zq [15,0] 16 18::zq [15,16] 17 19::zq [15,17] 18 20::zq [18,0] 19 21::zq [18,19] 20 22::zq [15,18,20] 21 23::zq [15,21] 22 24::zq [22] 23 2::[]) [(_,_)] rfl ⟨z1 rfl,z4 rfl rfl,z8 hg1_2 rfl,zt rfl,zt rfl,z3 false rfl,z1 rfl,zr' rfl (oM rfl),zr' rfl (oB rfl rfl),zr' rfl (op_move _ _ _ _ (zb hg1_9) rfl),zr' rfl (oM rfl),zr' rfl (oB rfl rfl),zr' rfl (op_pick _ _ true _ rfl rfl),z3 false rfl,z8 hg1_14 rfl,zr' rfl (oM rfl),zr' rfl (oB rfl rfl),zr' rfl (op_move _ _ _ _ (zb hg1_17) rfl),zr' rfl (oM rfl),zr' rfl (oB rfl rfl),zr' rfl (op_pick _ _ true _ rfl rfl),z3 false rfl,z2 rfl,zz⟩ ?_
       exact hl3 _ (Option.some.inj h).symm
      ·refine zg hn (_::(3,.v (.int .u8 c))::(4,vb (decide (48 ≤ c)))::(5,vb false)::(6,.v undef)::(7,.v undef)::(8,vb false)::(9,vb false)::(10,.v (.int .u8 c))::(11,vb (decide (65 ≤ c)))::(12,vb true)::(13,.v (.int .u8 c))::(14,vb (decide (c ≤ 90)))::(15,vb (decide (c ≤ 90)))::(16,vb (decide (c ≤ 90)))::(17,vb false)::(18,.v (.int .u8 c))::(19,vb (decide (97 ≤ c)))::(20,vb false)::(21,.v undef)::(22,.v undef)::(23,vb false)::(24,vb false)::(2,vb false)::[]) [0] [23] (zq [0] 1 3::zq [1] 2 4::zq [2] 3 5::zq [3] 4 6::zq [3] 5 7::zq [3] 6 8::zq [6] 7 9::zq [7,0] 8 10::zq [7,8] 9 11::zq [7,9] 10 12::zq [10,0] 11 13::zq [10,11] 12 14::zq [7,10,12] 13 15::zq [7,13] 14 16::zq [14] 15 17::zq [15,0] 16 18::zq [15,16] 17 19::zq [15,17] 18 20::zq [18] 19 21::zq [18] 20 22::zq [15,18] 21 23::zq [15,21] 22 24::zq [22] 23 2::[]) [(_,_)] rfl ⟨z1 rfl,z4 rfl rfl,z8 hg1_2 rfl,zt rfl,zt rfl,z3 false rfl,z1 rfl,zr' rfl (oM rfl),zr' rfl (oB rfl rfl),zr' rfl (op_move _ _ _ _ (zb hg1_9) rfl),zr' rfl (oM rfl),zr' rfl (oB rfl rfl),zr' rfl (op_pick _ _ true _ rfl rfl),z3 false rfl,z8 hg1_14 rfl,zr' rfl (oM rfl),zr' rfl (oB rfl rfl),zr' rfl (op_move _ _ _ _ (zb hg1_17) rfl),zt rfl,zt rfl,zr' rfl (op_pick _ _ false _ rfl rfl),z3 false rfl,z2 rfl,zz⟩ ?_
       exact hl3 _ (Option.some.inj h).symm
    ·refine cond_some h (fun hg1_17 h => ?_) (fun hg1_17 h => ?_)
     ·refine zg hn (_::(3,.v (.int .u8 c))::(4,vb (decide (48 ≤ c)))::(5,vb false)::(6,.v undef)::(7,.v undef)::(8,vb false)::(9,vb false)::(10,.v (.int .u8 c))::(11,vb (decide (65 ≤ c)))::(12,vb false)::(13,.v undef)::(14,.v undef)::(15,vb false)::(16,vb false)::(17,vb false)::(18,.v (.int .u8 c))::(19,vb (decide (97 ≤ c)))::(20,vb true)::(21,.v (.int .u8 c))::(22,vb (decide (c ≤ 122)))::(23,vb (decide (c ≤ 122)))::(24,vb (decide (c ≤ 122)))::(2,vb (decide (c ≤ 122)))::[]) [0] [23] (zq [0] 1 3::zq [1] 2 4::zq [2] 3 5::zq [3] 4 6::zq [3] 5 7::zq [3] 6 8::zq [6] 7 9::zq [7,0] 8 10::zq [7,8] 9 11::zq [7,9] 10 12::zq [10] 11 13::zq [10] 12 14::zq [7,10] 13 15::zq [7,13] 14 16::zq [14] 15 17::zq [15,0] 16 18::zq [15,16] 17 19::zq [15,17] 18 20::zq [18,0] 19 21::zq [18,19] 20 22::zq [15,18,20] 21 23::zq [15,21] 22 24::zq [22] 23 2::[]) [(_,_)] rfl ⟨z1 rfl,z4 rfl rfl,z8 hg1_2 rfl,zt rfl,zt rfl,z3 false rfl,z1 rfl,zr' rfl (oM rfl),zr' rfl (oB rfl rfl),zr' rfl (op_move _ _ _ _ (zb hg1_9) rfl),zt rfl,zt rfl,zr' rfl (op_pick _ _ false _ rfl rfl),z3 false rfl,z1 rfl,zr' rfl (oM rfl),zr' rfl (oB rfl rfl),zr' rfl (op_move _ _ _ _ (zb hg1_17) rfl),zr' rfl (oM rfl),zr' rfl (oB rfl rfl),zr' rfl (op_pick _ _ true _ rfl rfl),z3 false rfl,z2 rfl,zz⟩ ?_
      exact hl3 _ (Option.some.inj h).symm
     ·refine zg hn (_::(3,.v (.int .u8 c))::(4,vb (decide (48 ≤ c)))::(5,vb false)::(6,.v undef)::(7,.v undef)::(8,vb false)::(9,vb false)::(10,.v (.int .u8 c))::(11,vb (decide (65 ≤ c)))::(12,vb false)::(13,.v undef)::(14,.v undef)::(15,vb false)::(16,vb false)::(17,vb false)::(18,.v (.int .u8 c))::(19,vb (decide (97 ≤ c)))::(20,vb false)::(21,.v undef)::(22,.v undef)::(23,vb false)::(24,vb false)::(2,vb false)::[]) [0] [23] (zq [0] 1 3::zq [1] 2 4::zq [2] 3 5::zq [3] 4 6::zq [3] 5 7::zq [3] 6 8::zq [6] 7 9::zq [7,0] 8 10::zq [7,8] 9 11::zq [7,9] 10 12::zq [10] 11 13::zq [10] 12 14::zq [7,10] 13 15::zq [7,13] 14 16::zq [14] 15 17::zq [15,0] 16 18::zq [15,16] 17 19::zq [15,17] 18 20::zq [18] 19 21::zq [18] 20 22::zq [15,18] 21 23::zq [15,21] 22 24::zq [22] 23 2::[]) [(_,_)] rfl ⟨z1 rfl,z4 rfl rfl,z8 hg1_2 rfl,zt rfl,zt rfl,z3 false rfl,z1 rfl,zr' rfl (oM rfl),zr' rfl (oB rfl rfl),zr' rfl (op_move _ _ _ _ (zb hg1_9) rfl),zt rfl,zt rfl,zr' rfl (op_pick _ _ false _ rfl rfl),z3 false rfl,z1 rfl,zr' rfl (oM rfl),zr' rfl (oB rfl rfl),zr' rfl (op_move _ _ _ _ (zb hg1_17) rfl),zt rfl,zt rfl,zr' rfl (op_pick _ _ false _ rfl rfl),z3 false rfl,z2 rfl,zz⟩ ?_
      exact hl3 _ (Option.some.inj h).symm
theorem ok_strings_IndexByte (s : ByteArray) (c r : Int) (h : Sh.strings_IndexByte s c = some r) : FnOK Tryd.prog 70 [.v (.string s), .v (.int .u8 c)] (.v (.int .i64 r)) := lib_strings_IndexByte Tryd.strings_IndexByte s c r h
theorem ok_path_atom_1 (c : Int) (r : Bool) (h : Sh.path_atom_1 c = some r) : FnOK Tryd.prog 68 [.v (.int .u8 c)] (.v (.bool r)) := by
  unfold Sh.path_atom_1 at h
  refine fn_ok func68 rfl (zl rfl) rfl rfl fun g0 hn hio => ?_
  refine zgg hn [_,(2,vb false)] [0] [0] [zq [] 1 2] [(_,_)] rfl ⟨z2 rfl,zz⟩ ?_
  refine ht_seq ?_
  refine ht_joinS h (fun (s3 : Bool) => [(2, .v (.bool s3))]) ?_ ?_
  ·rintro s3 h
   refine pt_then (ht_ret ?_)
   obtain rfl := Option.some.inj h
   exact pt_ret hio rfl (.tmp _ _ .nil) rfl rfl
  ·intro u4 h hl5 hr6
   obtain ⟨v1, hv1, h⟩ := bind_some h
   refine cond_some h (fun hg1_2 h => ?_) (fun hg1_2 h => ?_)
   ·refine zg hn [_,(3,.v (.int .u8 c)),(4,vb v1),(5,vb true),(6,.v undef),(7,.v undef),(8,.v undef),(9,vb true),(2,vb true)] [0] [8] [zq [0] 1 3,zq [1] 2 4,zq [2] 3 5,zq [3] 4 6,zq [3] 5 7,zq [3] 6 8,zq [3] 7 9,zq [7] 8 2] [(_,_)] rfl ⟨z1 rfl,zp rfl (op_call _ _ 69 _ _ rfl call69 rfl (ok_path_alphanumeric c _ hv1) rfl rfl),z8 hg1_2 rfl,zf rfl,zf rfl,zf rfl,z3 true rfl,z2 rfl,zz⟩ ?_
    exact hl5 _ (Option.some.inj h).symm
   ·obtain ⟨v2, hv2, h⟩ := bind_some h
    refine zg hn [_,(3,.v (.int .u8 c)),(4,vb v1),(5,vb false),(6,.v (.int .u8 c)),(7,vi v2),(8,vb (decide (0 ≤ v2))),(9,vb (decide (0 ≤ v2))),(2,vb (decide (0 ≤ v2)))] [0] [8] [zq [0] 1 3,zq [1] 2 4,zq [2] 3 5,zq [3,0] 4 6,zq [3,4] 5 7,zq [3,5] 6 8,zq [3,6] 7 9,zq [7] 8 2] [(_,_)] rfl ⟨z1 rfl,zp rfl (op_call _ _ 69 _ _ rfl call69 rfl (ok_path_alphanumeric c _ hv1) rfl rfl),z8 hg1_2 rfl,zr' rfl (oM rfl),zr' rfl (op_call _ _ 70 _ _ rfl call70 rfl (ok_strings_IndexByte (⟨#[33, 35, 36, 37, 38, 39, 42, 43, 45, 47, 61, 63, 94, 95, 96, 123, 124, 125, 126]⟩ : ByteArray) c _ hv2) rfl rfl),zr' rfl (oB rfl rfl),z3 false rfl,z2 rfl,zz⟩ ?_
    exact hl5 _ (Option.some.inj h).symm
theorem ok_path_all_of_path_atom_1 (s : ByteArray) (r : Bool) (h : Sh.path_all_of_path_atom_1 s = some r) : FnOK Tryd.prog 67 [.v (.string s), .v (.func (.func 68) #[] #[])] (.v (.bool r)) := by
  unfold Sh.path_all_of_path_atom_1 at h
  refine fn_ok func67 rfl (zl rfl) rfl rfl fun g0 hn hio => ?_
  refine zgg hn [_,_,(4,vb false)] [0,1] [0,1] [zq [] 2 4] [(_,_),(_,_)] rfl ⟨z2 rfl,zz⟩ ?_
  refine ht_seq ?_
  refine zgg hn [_,_,(6,vs s),(7,vi (s.size : Int)),(8,vi 0)] [0,1] [0,1,3,4] [zq [0] 2 6,zq [2] 3 7,zq [] 4 8] [(_,_),(_,_),(_,_),(_,_)] rfl ⟨z1 rfl,zp rfl (oN underlying9 rfl),z1 rfl,zz⟩ ?_
  refine ht_loopS h (fun (s9 : Int) => [(0, .v (.string s)), (1, .v (.func (.func 68) #[] #[])), (7, .v (.int .i64 (s.size : Int))), (8, .v (.int .i64 s9))]) (fun (() : Unit) => []) ?_ ?_
  ·rintro ⟨⟩ h
   refine pt_then ?_
   refine zgg hn [(4,vb true)] [] [0] [zq [] 0 4] [(_,_)] rfl ⟨z2 rfl,zz⟩ ?_
   refine ht_ret ?_
   obtain rfl := Option.some.inj h
   exact pt_ret hio rfl (.tmp _ _ .nil) rfl rfl
  ·rintro u12 hl13 hr14 s9 rr17 h ho15
   refine zgg hn [_,_,_,_,(9,vb (decide (s9 < (s.size : Int))))] [0,1,2,3] [0,1,2,3,4] [zq [3,2] 4 9] [(_,_),(_,_),(_,_),(_,_),(_,_)] rfl ⟨z4 rfl rfl,zz⟩ ?_
   refine ht_seq ?_
   refine ht_cond _ rfl (fun hb18 => ?_) (fun hb18 => ?_)
   ·have h := cond_t hb18 h
    refine ht_skip ?_
    refine pt_then (ht_seq ?_)
    refine ht_block ?_
    refine zgg hn [_,_,_,_,_,(10,vi s9),(5,vi s9)] [0,1,2,3,4] [0,1,2,3,6] [zq [3] 5 10,zq [5] 6 5] [(_,_),(_,_),(_,_),(_,_),(_,_)] rfl ⟨z1 rfl,z2 rfl,zz⟩ ?_
    refine ht_seq ?_
    obtain ⟨v2, hv2, h⟩ := bind_some h
    obtain ⟨v3, hv3, h⟩ := bind_some h
    refine zg hn [_,_,_,_,_,(11,.v (.func (.func 68) #[] #[])),(12,vs s),(13,vi s9),(14,.v (.int .u8 v2)),(15,vb v3),(16,vb (!v3))] [0,1,2,3,4] [0,1,2,3,10] [zq [1] 5 11,zq [0] 6 12,zq [4] 7 13,zq [6,7] 8 14,zq [8,5] 9 15,zq [9] 10 16] [(_,_),(_,_),(_,_),(_,_),(_,_)] rfl ⟨z1 rfl,z1 rfl,z1 rfl,zp rfl (op_chr _ _ _ s9 _ underlying9 rfl rfl hv2),zp rfl (op_call _ _ 68 _ _ rfl call68 rfl (ok_path_atom_1 v2 _ hv3) rfl rfl),zp rfl (op_un _ _ _ _ rfl rfl),zz⟩ ?_
    refine pt_then ?_
    refine ht_cond _ rfl (fun hb19 => ?_) (fun hb19 => ?_)
    ·have h := cond_t hb19 h
     refine zgg hn [_,_,_,_,_,(4,vb false)] [0,1,2,3,4] [5] [zq [] 5 4] [(_,_)] rfl ⟨z2 rfl,zz⟩ ?_
     refine ht_ret ?_
     refine pt_r_in ?_
     refine pt_r_then ?_
     refine pt_r_then ?_
     refine pt_r_in ?_
     refine pt_r_then ?_
     have h := hr14 _ (ho15 _ (Option.some.inj h).symm).symm
     obtain rfl := Option.some.inj h
     exact pt_ret hio rfl (.tmp _ _ .nil) rfl rfl
    ·have h := cond_f hb19 h
     refine ht_skip ?_
     refine pt_inb ?_
     refine pt_then ?_
     obtain ⟨v5, hv5, h⟩ := bind_some h
     refine zg hn [_,_,_,_,_,(17,vi v5),(8,vi v5)] [0,1,2,3,4] [0,1,2,6] [zq [3] 5 17,⟨[5],[3],[6],[(.slot 8)]⟩] [(_,_),(_,_),(_,_),(_,_)] rfl ⟨zp rfl (oB rfl (ibind (f := Value.int .i64) (Option.some.inj hv5))),zp rfl (LOp.drop [_] (oM rfl)),zz⟩ ?_
     exact pt_next _ (Option.some.inj h).symm rfl
   ·have h := cond_f hb18 h
    refine ht_exit ?_
    refine pt_x_then ?_
    refine pt_x_then ?_
    refine pt_x_in ?_
    refine pt_pick [] (by kernel_rfl) (es' := []) rfl ?_
    exact hl13 _ (ho15 _ (Option.some.inj h).symm).symm
theorem ok_path_atom (s : ByteArray) (r : Bool) (h : Sh.path_atom s = some r) : FnOK Tryd.prog 56 [.v (.string s)] (.v (.bool r)) := by
  unfold Sh.path_atom at h
  refine fn_ok func56 rfl (zl rfl) rfl rfl fun g0 hn hio => ?_
  refine zgg hn [_,(2,vb false)] [0] [0] [zq [] 1 2] [(_,_)] rfl ⟨z2 rfl,zz⟩ ?_
  refine ht_seq ?_
  refine ht_joinS h (fun (s2 : Bool) => [(2, .v (.bool s2))]) ?_ ?_
  ·rintro s2 h
   refine pt_then (ht_ret ?_)
   obtain rfl := Option.some.inj h
   exact pt_ret hio rfl (.tmp _ _ .nil) rfl rfl
  ·intro u3 h hl4 hr5
   refine cond_some h (fun hg1_2 h => ?_) (fun hg1_2 h => ?_)
   ·obtain ⟨v1, hv1, h⟩ := bind_some h
    refine zg hn [_,(3,vs s),(4,vb (!(s.toList == z0.toList))),(5,vb true),(6,vs s),(7,vb v1),(8,vb v1),(2,vb v1)] [0] [7] [zq [0] 1 3,zq [1] 2 4,zq [2] 3 5,zq [3,0] 4 6,zq [3,4] 5 7,zq [3,5] 6 8,zq [6] 7 2] [(_,_)] rfl ⟨z1 rfl,z4 rfl rfl,z8 hg1_2 rfl,zr' rfl (oM rfl),zr' rfl (op_call _ _ 67 _ _ rfl call67 rfl (ok_path_all_of_path_atom_1 s _ hv1) rfl rfl),z3 true rfl,z2 rfl,zz⟩ ?_
    exact hl4 _ (Option.some.inj h).symm
   ·refine zg hn [_,(3,vs s),(4,vb (!(s.toList == z0.toList))),(5,vb false),(6,.v undef),(7,.v undef),(8,vb false),(2,vb false)] [0] [7] [zq [0] 1 3,zq [1] 2 4,zq [2] 3 5,zq [3] 4 6,zq [3] 5 7,zq [3] 6 8,zq [6] 7 2] [(_,_)] rfl ⟨z1 rfl,z4 rfl rfl,z8 hg1_2 rfl,zt rfl,zt rfl,z3 false rfl,z2 rfl,zz⟩ ?_
    exact hl4 _ (Option.some.inj h).symm
theorem ok_path_dotted_of_path_atom (mx : Int) (s : ByteArray) (r : Bool) (h : Sh.path_dotted_of_path_atom s = some r) : FnG Tryd.prog (GL mx) 55 [.v (.string s), .v (.func (.func 56) #[] #[])] (.v (.bool r)) := by
  unfold Sh.path_dotted_of_path_atom at h
  refine fn_okG func55 rfl (zl rfl) rfl rfl fun g0 hn hio => ?_
  refine zgg hn [_,_,_,(3,.box 94 [.v (.func (.func 56) #[] #[])]),(4,.box 4 [vb false])] [0,1,2] [0,2,3,4] [zq [1] 3 3,zq [] 4 4] [(_,_),(_,_),(_,_),(_,_)] rfl ⟨zp rfl (op_box _ _ _ _ rfl rfl rfl),zp rfl (op_alloc _ _ zr4),zz⟩ ?_
  refine ht_seq ?_
  refine ht_seq ?_
  obtain ⟨v1, hv1, h⟩ := bind_some h
  refine zg hn [_,_,_,_,(6,vs s),(7,.cloB 85 [.box 9 [vs v1.1],.box 9 [vs v1.2.1],.box 3 [vi v1.2.2]])] [0,1,2,3] [1,2,3,5] [zq [0] 4 6,zq [4] 5 7] [(_,_),(_,_),(_,_),(_,_)] rfl ⟨z1 rfl,zp rfl (op_callS _ _ 66 _ _ rfl call66 rfl rfl (ok_strings_SplitSeq s (⟨#[46]⟩ : ByteArray) _ hv1) rfl),zz⟩ ?_
  refine pt_then ?_
  refine ht_block ?_
  refine ht_pick [3, 0, 1, 2] (by kernel_rfl) (es' := [(7, .cloB 85 [.box 9 [.v (.string v1.1)], .box 9 [.v (.string v1.2.1)], .box 3 [.v (.int .i64 v1.2.2)]]), (13, .glob (GL mx)), (3, .box 94 [.v (.func (.func 56) #[] #[])]), (4, .box 4 [.v (.bool false)])]) rfl ?_
  refine ht_rangeF h 85 7 8 14 _ [13, 3, 4] call85 (fun (() : Unit) => [(13, .glob (GL mx)), (3, .box 94 [.v (.func (.func 56) #[] #[])]), (4, .box 4 [.v (.bool false)])]) (fun (() : Unit) => [(13, .glob (GL mx)), (3, .box 94 [.v (.func (.func 56) #[] #[])]), (4, .box 4 [.v (.bool false)])]) (fun l J Y hY t t' h => ok_strings_splitSeq_1 mx l J Y hY v1.1 v1.2.1 v1.2.2 t t' h) hn rfl (fun _ => rfl) (fun _ => rfl) (fun _ => rfl) rfl rfl (fun _ => ⟨rfl, rfl⟩) rfl (glIn_look 13 rfl) ?_ ?_ ?_
  ·rintro kk g0 hn hio x ⟨⟩ u h
   refine ht_es (es' := [(8, .v (.string x)), (13, .glob (GL mx)), (3, .box 94 [.v (.func (.func 56) #[] #[])]), (4, .box 4 [.v (.bool false)]), (13, .v (kk.tm.getD 13 undef)), (3, .v (kk.tm.getD 3 undef)), (4, .v (kk.tm.getD 4 undef)), (14, .inv kk.ready)]) rfl ?_
   refine zg hn [_,_,_,_,_,_,_,_,(5,vs x)] [0,1,2,3,4,5,6,7] [1,2,3,4,5,6,7,8] [zq [0] 8 5] [(_,_),(_,_),(_,_),(_,_),(_,_),(_,_),(_,_),(_,_)] rfl ⟨z2 rfl,zz⟩ ?_
   refine pt_pick [0, 1, 2, 3, 4, 5, 7, 6] (by kernel_rfl) (es' := [(13, .glob (GL mx)), (3, .box 94 [.v (.func (.func 56) #[] #[])]), (4, .box 4 [.v (.bool false)]), (13, .v (kk.tm.getD 13 undef)), (3, .v (kk.tm.getD 3 undef)), (4, .v (kk.tm.getD 4 undef)), (5, .v (.string x)), (14, .inv kk.ready)]) rfl ?_
   refine pt_begin (es := [(13, .glob (GL mx)), (3, .box 94 [.v (.func (.func 56) #[] #[])]), (4, .box 4 [.v (.bool false)]), (13, .v (kk.tm.getD 13 undef)), (3, .v (kk.tm.getD 3 undef)), (4, .v (kk.tm.getD 4 undef)), (5, .v (.string x))]) 14 rfl ?_
   refine ht_block ?_
   refine ht_seq ?_
   obtain ⟨v2, hv2, h⟩ := bind_some h
   refine zg hn [_,_,_,_,_,_,_,_,(9,.v (.func (.func 56) #[] #[])),(10,vs x),(11,vb v2),(12,vb (!v2))] [0,1,2,3,4,5,6,7] [0,1,2,3,4,5,7,11] [zq [1] 8 9,zq [6] 9 10,zq [9,8] 10 11,zq [10] 11 12] [(_,_),(_,_),(_,_),(_,_),(_,_),(_,_),(_,_),(_,_)] rfl ⟨zp rfl (oL underlying94 rfl),z1 rfl,zp rfl (op_call _ _ 56 _ _ rfl call56 rfl (ok_path_atom x _ hv2) rfl rfl),zp rfl (op_un _ _ _ _ rfl rfl),zz⟩ ?_
   refine pt_then ?_
   refine ht_cond _ rfl (fun hb5 => ?_) (fun hb5 => ?_)
   ·have h := cond_t hb5 h
    refine zgg hn [_,_,_,_,_,_,_,_,(4,.box 4 [vb false])] [0,1,2,3,4,5,6,7] [0,1,8,3,4,5,6] [⟨[],[2],[8],[.cell 4 0]⟩] [(_,_),(_,_),(_,_),(_,_),(_,_),(_,_),(_,_)] rfl ⟨zp rfl (oS sz4 rfl),zz⟩ ?_
    refine ht_ret ?_
    refine pt_r_in ?_
    obtain rfl := Option.some.inj h
    exact pt_rret 14 [13, 3, 4] _ rfl rfl (by kernel_rfl)
   ·have h := cond_f hb5 h
    refine ht_skip ?_
    refine pt_inb ?_
    refine pt_pick [0, 1, 2, 3, 4, 5, 6] (by kernel_rfl) (es' := [(_,_),(_,_),(_,_),(_,_),(_,_),(_,_),(_,_)]) rfl ?_
    obtain rfl := Option.some.inj h
    exact pt_rnext 14 [13, 3, 4] _ rfl rfl (by kernel_rfl)
  ·rintro D ⟨⟩ h
   refine pt_inb ?_
   refine pt_then ?_
   refine zgg hn [_,_,_,(4,.box 4 [vb true])] [0,1,2] [0,3] [⟨[],[2],[3],[.cell 4 0]⟩] [(_,_),(_,_)] rfl ⟨zp rfl (oS sz4 rfl),zz⟩ ?_
   refine ht_ret ?_
   refine pt_pick [1] (by kernel_rfl) (es' := [(_,_)]) rfl ?_
   obtain rfl := Option.some.inj h
   exact pt_ret hio rfl (.cell1 _ _ _ _ underlying4 rfl .nil) rfl rfl
  ·rintro D ⟨⟩ h
   refine pt_pick [2] (by kernel_rfl) (es' := [(_,_)]) rfl ?_
   refine pt_r_in ?_
   refine pt_r_then ?_
   obtain rfl := Option.some.inj h
   exact pt_ret hio rfl (.cell1 _ _ _ _ underlying4 rfl .nil) rfl rfl
theorem ok_path_local (mx : Int) (s : ByteArray) (r : Bool) (h : Sh.path_local s = some r) : FnG Tryd.prog (GL mx) 49 [.v (.string s)] (.v (.bool r)) := by
  unfold Sh.path_local at h
  refine fn_okG func49 rfl (zl rfl) rfl rfl fun g0 hn hio => ?_
  refine zgg hn [_,_,(2,vb false)] [0,1] [0,1] [zq [] 2 2] [(_,_),(_,_)] rfl ⟨z2 rfl,zz⟩ ?_
  refine ht_seq ?_
  refine ht_joinS h (fun (s2 : Bool) => [(10, .glob (GL mx)), (2, .v (.bool s2))]) ?_ ?_
  ·rintro s2 h
   refine pt_then (ht_ret ?_)
   refine pt_pick [1] (by kernel_rfl) (es' := [(_,_)]) rfl ?_
   obtain rfl := Option.some.inj h
   exact pt_ret hio rfl (.tmp _ _ .nil) rfl rfl
  ·intro u3 h hl4 hr5
   refine cond_some h (fun hg1_3 h => ?_) (fun hg1_3 h => ?_)
   ·obtain ⟨v1, hv1, h⟩ := bind_some h
    refine zg hn [_,_,(3,vs s),(4,vi (s.size : Int)),(5,vb (decide ((s.size : Int) ≤ 64))),(6,vb true),(7,vs s),(8,vb v1),(9,vb v1),(2,vb v1)] [0,1] [1,9] [zq [0] 2 3,zq [2] 3 4,zq [3] 4 5,zq [4] 5 6,zq [5,0] 6 7,zq [5,6,1] 7 8,zq [5,7] 8 9,zq [8] 9 2] [(_,_),(_,_)] rfl ⟨z1 rfl,zp rfl (oN underlying9 rfl),z4 rfl rfl,z8 hg1_3 rfl,zr' rfl (oM rfl),zr' rfl (op_callG _ _ 10 55 _ _ rfl call55 rfl rfl (fun _ h => h) (ok_path_dotted_of_path_atom mx s _ hv1) rfl rfl),z3 true rfl,z2 rfl,zz⟩ ?_
    exact hl4 _ (Option.some.inj h).symm
   ·refine zg hn [_,_,(3,vs s),(4,vi (s.size : Int)),(5,vb (decide ((s.size : Int) ≤ 64))),(6,vb false),(7,.v undef),(8,.v undef),(9,vb false),(2,vb false)] [0,1] [1,9] [zq [0] 2 3,zq [2] 3 4,zq [3] 4 5,zq [4] 5 6,zq [5] 6 7,zq [5] 7 8,zq [5] 8 9,zq [8] 9 2] [(_,_),(_,_)] rfl ⟨z1 rfl,zp rfl (oN underlying9 rfl),z4 rfl rfl,z8 hg1_3 rfl,zt rfl,zt rfl,z3 false rfl,z2 rfl,zz⟩ ?_
    exact hl4 _ (Option.some.inj h).symm
theorem ok_path_label_1 (c : Int) (r : Bool) (h : Sh.path_label_1 c = some r) : FnOK Tryd.prog 71 [.v (.int .u8 c)] (.v (.bool r)) := by
  unfold Sh.path_label_1 at h
  refine fn_ok func71 rfl (zl rfl) rfl rfl fun g0 hn hio => ?_
  refine zgg hn [_,(2,vb false)] [0] [0] [zq [] 1 2] [(_,_)] rfl ⟨z2 rfl,zz⟩ ?_
  refine ht_seq ?_
  refine ht_joinS h (fun (s2 : Bool) => [(2, .v (.bool s2))]) ?_ ?_
  ·rintro s2 h
   refine pt_then (ht_ret ?_)
   obtain rfl := Option.some.inj h
   exact pt_ret hio rfl (.tmp _ _ .nil) rfl rfl
  ·intro u3 h hl4 hr5
   obtain ⟨v1, hv1, h⟩ := bind_some h
   refine cond_some h (fun hg1_2 h => ?_) (fun hg1_2 h => ?_)
   ·refine zg hn [_,(3,.v (.int .u8 c)),(4,vb v1),(5,vb true),(6,.v undef),(7,.v undef),(8,vb true),(2,vb true)] [0] [7] [zq [0] 1 3,zq [1] 2 4,zq [2] 3 5,zq [3] 4 6,zq [3] 5 7,zq [3] 6 8,zq [6] 7 2] [(_,_)] rfl ⟨z1 rfl,zp rfl (op_call _ _ 69 _ _ rfl call69 rfl (ok_path_alphanumeric c _ hv1) rfl rfl),z8 hg1_2 rfl,zf rfl,zf rfl,z3 true rfl,z2 rfl,zz⟩ ?_
    exact hl4 _ (Option.some.inj h).symm
   ·refine zg hn [_,(3,.v (.int .u8 c)),(4,vb v1),(5,vb false),(6,.v (.int .u8 c)),(7,vb (c == 45)),(8,vb (c == 45)),(2,vb (c == 45))] [0] [7] [zq [0] 1 3,zq [1] 2 4,zq [2] 3 5,zq [3,0] 4 6,zq [3,4] 5 7,zq [3,5] 6 8,zq [6] 7 2] [(_,_)] rfl ⟨z1 rfl,zp rfl (op_call _ _ 69 _ _ rfl call69 rfl (ok_path_alphanumeric c _ hv1) rfl rfl),z8 hg1_2 rfl,zr' rfl (oM rfl),zr' rfl (oB rfl rfl),z3 false rfl,z2 rfl,zz⟩ ?_
    exact hl4 _ (Option.some.inj h).symm
theorem ok_path_all_of_path_label_1 (s : ByteArray) (r : Bool) (h : Sh.path_all_of_path_label_1 s = some r) : FnOK Tryd.prog 67 [.v (.string s), .v (.func (.func 71) #[] #[])] (.v (.bool r)) := by
  unfold Sh.path_all_of_path_label_1 at h
  refine fn_ok func67 rfl (zl rfl) rfl rfl fun g0 hn hio => ?_
  refine zgg hn [_,_,(4,vb false)] [0,1] [0,1] [zq [] 2 4] [(_,_),(_,_)] rfl ⟨z2 rfl,zz⟩ ?_
  refine ht_seq ?_
  refine zgg hn [_,_,(6,vs s),(7,vi (s.size : Int)),(8,vi 0)] [0,1] [0,1,3,4] [zq [0] 2 6,zq [2] 3 7,zq [] 4 8] [(_,_),(_,_),(_,_),(_,_)] rfl ⟨z1 rfl,zp rfl (oN underlying9 rfl),z1 rfl,zz⟩ ?_
  refine ht_loopS h (fun (s9 : Int) => [(0, .v (.string s)), (1, .v (.func (.func 71) #[] #[])), (7, .v (.int .i64 (s.size : Int))), (8, .v (.int .i64 s9))]) (fun (() : Unit) => []) ?_ ?_
  ·rintro ⟨⟩ h
   refine pt_then ?_
   refine zgg hn [(4,vb true)] [] [0] [zq [] 0 4] [(_,_)] rfl ⟨z2 rfl,zz⟩ ?_
   refine ht_ret ?_
   obtain rfl := Option.some.inj h
   exact pt_ret hio rfl (.tmp _ _ .nil) rfl rfl
  ·rintro u12 hl13 hr14 s9 rr17 h ho15
   refine zgg hn [_,_,_,_,(9,vb (decide (s9 < (s.size : Int))))] [0,1,2,3] [0,1,2,3,4] [zq [3,2] 4 9] [(_,_),(_,_),(_,_),(_,_),(_,_)] rfl ⟨z4 rfl rfl,zz⟩ ?_
   refine ht_seq ?_
   refine ht_cond _ rfl (fun hb18 => ?_) (fun hb18 => ?_)
   ·have h := cond_t hb18 h
    refine ht_skip ?_
    refine pt_then (ht_seq ?_)
    refine ht_block ?_
    refine zgg hn [_,_,_,_,_,(10,vi s9),(5,vi s9)] [0,1,2,3,4] [0,1,2,3,6] [zq [3] 5 10,zq [5] 6 5] [(_,_),(_,_),(_,_),(_,_),(_,_)] rfl ⟨z1 rfl,z2 rfl,zz⟩ ?_
    refine ht_seq ?_
    obtain ⟨v2, hv2, h⟩ := bind_some h
    obtain ⟨v3, hv3, h⟩ := bind_some h
    refine zg hn [_,_,_,_,_,(11,.v (.func (.func 71) #[] #[])),(12,vs s),(13,vi s9),(14,.v (.int .u8 v2)),(15,vb v3),(16,vb (!v3))] [0,1,2,3,4] [0,1,2,3,10] [zq [1] 5 11,zq [0] 6 12,zq [4] 7 13,zq [6,7] 8 14,zq [8,5] 9 15,zq [9] 10 16] [(_,_),(_,_),(_,_),(_,_),(_,_)] rfl ⟨z1 rfl,z1 rfl,z1 rfl,zp rfl (op_chr _ _ _ s9 _ underlying9 rfl rfl hv2),zp rfl (op_call _ _ 71 _ _ rfl call71 rfl (ok_path_label_1 v2 _ hv3) rfl rfl),zp rfl (op_un _ _ _ _ rfl rfl),zz⟩ ?_
    refine pt_then ?_
    refine ht_cond _ rfl (fun hb19 => ?_) (fun hb19 => ?_)
    ·have h := cond_t hb19 h
     refine zgg hn [_,_,_,_,_,(4,vb false)] [0,1,2,3,4] [5] [zq [] 5 4] [(_,_)] rfl ⟨z2 rfl,zz⟩ ?_
     refine ht_ret ?_
     refine pt_r_in ?_
     refine pt_r_then ?_
     refine pt_r_then ?_
     refine pt_r_in ?_
     refine pt_r_then ?_
     have h := hr14 _ (ho15 _ (Option.some.inj h).symm).symm
     obtain rfl := Option.some.inj h
     exact pt_ret hio rfl (.tmp _ _ .nil) rfl rfl
    ·have h := cond_f hb19 h
     refine ht_skip ?_
     refine pt_inb ?_
     refine pt_then ?_
     obtain ⟨v5, hv5, h⟩ := bind_some h
     refine zg hn [_,_,_,_,_,(17,vi v5),(8,vi v5)] [0,1,2,3,4] [0,1,2,6] [zq [3] 5 17,⟨[5],[3],[6],[(.slot 8)]⟩] [(_,_),(_,_),(_,_),(_,_)] rfl ⟨zp rfl (oB rfl (ibind (f := Value.int .i64) (Option.some.inj hv5))),zp rfl (LOp.drop [_] (oM rfl)),zz⟩ ?_
     exact pt_next _ (Option.some.inj h).symm rfl
   ·have h := cond_f hb18 h
    refine ht_exit ?_
    refine pt_x_then ?_
    refine pt_x_then ?_
    refine pt_x_in ?_
    refine pt_pick [] (by kernel_rfl) (es' := []) rfl ?_
    exact hl13 _ (ho15 _ (Option.some.inj h).symm).symm
theorem ok_path_label (s : ByteArray) (r : Bool) (h : Sh.path_label s = some r) : FnOK Tryd.prog 57 [.v (.string s)] (.v (.bool r)) := by
  unfold Sh.path_label at h
  refine fn_ok func57 rfl (zl rfl) rfl rfl fun g0 hn hio => ?_
  refine zgg hn [_,(2,vb false)] [0] [0] [zq [] 1 2] [(_,_)] rfl ⟨z2 rfl,zz⟩ ?_
  refine ht_seq ?_
  refine ht_joinS h (fun (s5 : Bool) => [(2, .v (.bool s5))]) ?_ ?_
  ·rintro s5 h
   refine pt_then (ht_ret ?_)
   obtain rfl := Option.some.inj h
   exact pt_ret hio rfl (.tmp _ _ .nil) rfl rfl
  ·intro u6 h hl7 hr8
   refine cond_some h (fun hg1_2 h => ?_) (fun hg1_2 h => ?_)
   ·refine cond_some h (fun hg1_7 h => ?_) (fun hg1_7 h => ?_)
    ·obtain ⟨v1, hv1, h⟩ := bind_some h
     refine cond_some h (fun hg1_12 h => ?_) (fun hg1_12 h => ?_)
     ·obtain ⟨v2, hv2, h⟩ := bind_some h
      obtain ⟨v3, hv3, h⟩ := bind_some h
      refine cond_some h (fun hg1_20 h => ?_) (fun hg1_20 h => ?_)
      ·obtain ⟨v4, hv4, h⟩ := bind_some h
       refine zg hn (_::(3,vs s)::(4,vb (!(s.toList == z0.toList)))::(5,vb true)::(6,vs s)::(7,vi (s.size : Int))::(8,vb (decide ((s.size : Int) ≤ 63)))::(9,vb (decide ((s.size : Int) ≤ 63)))::(10,vb true)::(11,vs s)::(12,.v (.int .u8 v1))::(13,vb (v1 != 45))::(14,vb (v1 != 45))::(15,vb true)::(16,vs s)::(17,vs s)::(18,vi (s.size : Int))::(19,vi v2)::(20,.v (.int .u8 v3))::(21,vb (v3 != 45))::(22,vb (v3 != 45))::(23,vb true)::(24,vs s)::(25,vb v4)::(26,vb v4)::(2,vb v4)::[]) [0] [25] (zq [0] 1 3::zq [1] 2 4::zq [2] 3 5::zq [3,0] 4 6::zq [3,4] 5 7::zq [3,5] 6 8::zq [3,6] 7 9::zq [7] 8 10::zq [8,0] 9 11::zq [8,9] 10 12::zq [8,10] 11 13::zq [8,11] 12 14::zq [12] 13 15::zq [13,0] 14 16::zq [13,0] 15 17::zq [13,15] 16 18::zq [13,16] 17 19::zq [13,14,17] 18 20::zq [13,18] 19 21::zq [13,19] 20 22::zq [20] 21 23::zq [21,0] 22 24::zq [21,22] 23 25::zq [21,23] 24 26::zq [24] 25 2::[]) [(_,_)] rfl ⟨z1 rfl,z4 rfl rfl,z8 hg1_2 rfl,zr' rfl (oM rfl),zr' rfl (oN underlying9 rfl),zr' rfl (oB rfl rfl),z3 true rfl,z8 hg1_7 rfl,zr' rfl (oM rfl),zr' rfl (op_chr _ _ _ 0 _ underlying9 rfl rfl hv1),zr' rfl (oB rfl rfl),z3 true rfl,z8 hg1_12 rfl,zr' rfl (oM rfl),zr' rfl (oM rfl),zr' rfl (oN underlying9 rfl),zr' rfl (oB rfl (ibind (f := Value.int .i64) (Option.some.inj hv2))),zr' rfl (op_chr _ _ _ v2 _ underlying9 rfl rfl hv3),zr' rfl (oB rfl rfl),z3 true rfl,z8 hg1_20 rfl,zr' rfl (oM rfl),zr' rfl (op_call _ _ 67 _ _ rfl call67 rfl (ok_path_all_of_path_label_1 s _ hv4) rfl rfl),z3 true rfl,z2 rfl,zz⟩ ?_
       exact hl7 _ (Option.some.inj h).symm
      ·refine zg hn (_::(3,vs s)::(4,vb (!(s.toList == z0.toList)))::(5,vb true)::(6,vs s)::(7,vi (s.size : Int))::(8,vb (decide ((s.size : Int) ≤ 63)))::(9,vb (decide ((s.size : Int) ≤ 63)))::(10,vb true)::(11,vs s)::(12,.v (.int .u8 v1))::(13,vb (v1 != 45))::(14,vb (v1 != 45))::(15,vb true)::(16,vs s)::(17,vs s)::(18,vi (s.size : Int))::(19,vi v2)::(20,.v (.int .u8 v3))::(21,vb (v3 != 45))::(22,vb (v3 != 45))::(23,vb false)::(24,.v undef)::(25,.v undef)::(26,vb false)::(2,vb false)::[]) [0] [25] (zq [0] 1 3::zq [1] 2 4::zq [2] 3 5::zq [3,0] 4 6::zq [3,4] 5 7::zq [3,5] 6 8::zq [3,6] 7 9::zq [7] 8 10::zq [8,0] 9 11::zq [8,9] 10 12::zq [8,10] 11 13::zq [8,11] 12 14::zq [12] 13 15::zq [13,0] 14 16::zq [13,0] 15 17::zq [13,15] 16 18::zq [13,16] 17 19::zq [13,14,17] 18 20::zq [13,18] 19 21::zq [13,19] 20 22::zq [20] 21 23::zq [21] 22 24::zq [21] 23 25::zq [21] 24 26::zq [24] 25 2::[]) [(_,_)] rfl ⟨z1 rfl,z4 rfl rfl,z8 hg1_2 rfl,zr' rfl (oM rfl),zr' rfl (oN underlying9 rfl),zr' rfl (oB rfl rfl),z3 true rfl,z8 hg1_7 rfl,zr' rfl (oM rfl),zr' rfl (op_chr _ _ _ 0 _ underlying9 rfl rfl hv1),zr' rfl (oB rfl rfl),z3 true rfl,z8 hg1_12 rfl,zr' rfl (oM rfl),zr' rfl (oM rfl),zr' rfl (oN underlying9 rfl),zr' rfl (oB rfl (ibind (f := Value.int .i64) (Option.some.inj hv2))),zr' rfl (op_chr _ _ _ v2 _ underlying9 rfl rfl hv3),zr' rfl (oB rfl rfl),z3 true rfl,z8 hg1_20 rfl,zt rfl,zt rfl,z3 false rfl,z2 rfl,zz⟩ ?_
       exact hl7 _ (Option.some.inj h).symm
     ·refine zg hn (_::(3,vs s)::(4,vb (!(s.toList == z0.toList)))::(5,vb true)::(6,vs s)::(7,vi (s.size : Int))::(8,vb (decide ((s.size : Int) ≤ 63)))::(9,vb (decide ((s.size : Int) ≤ 63)))::(10,vb true)::(11,vs s)::(12,.v (.int .u8 v1))::(13,vb (v1 != 45))::(14,vb (v1 != 45))::(15,vb false)::(16,.v undef)::(17,.v undef)::(18,.v undef)::(19,.v undef)::(20,.v undef)::(21,.v undef)::(22,vb false)::(23,vb false)::(24,.v undef)::(25,.v undef)::(26,vb false)::(2,vb false)::[]) [0] [25] (zq [0] 1 3::zq [1] 2 4::zq [2] 3 5::zq [3,0] 4 6::zq [3,4] 5 7::zq [3,5] 6 8::zq [3,6] 7 9::zq [7] 8 10::zq [8,0] 9 11::zq [8,9] 10 12::zq [8,10] 11 13::zq [8,11] 12 14::zq [12] 13 15::zq [13] 14 16::zq [13] 15 17::zq [13] 16 18::zq [13] 17 19::zq [13] 18 20::zq [13] 19 21::zq [13] 20 22::zq [20] 21 23::zq [21] 22 24::zq [21] 23 25::zq [21] 24 26::zq [24] 25 2::[]) [(_,_)] rfl ⟨z1 rfl,z4 rfl rfl,z8 hg1_2 rfl,zr' rfl (oM rfl),zr' rfl (oN underlying9 rfl),zr' rfl (oB rfl rfl),z3 true rfl,z8 hg1_7 rfl,zr' rfl (oM rfl),zr' rfl (op_chr _ _ _ 0 _ underlying9 rfl rfl hv1),zr' rfl (oB rfl rfl),z3 true rfl,z8 hg1_12 rfl,zt rfl,zt rfl,zt rfl,zt rfl,zt rfl,zt rfl,z3 false rfl,z1 rfl,zt rfl,zt rfl,z3 false rfl,z2 rfl,zz⟩ ?_
      exact hl7 _ (Option.some.inj h).symm
    ·refine zg hn (_::(3,vs s)::(4,vb (!(s.toList == z0.toList)))::(5,vb true)::(6,vs s)::(7,vi (s.size : Int))::(8,vb (decide ((s.size : Int) ≤ 63)))::(9,vb (decide ((s.size : Int) ≤ 63)))::(10,vb false)::(11,.v undef)::(12,.v undef)::(13,.v undef)::(14,vb false)::(15,vb false)::(16,.v undef)::(17,.v undef)::(18,.v undef)::(19,.v undef)::(20,.v undef)::(21,.v undef)::(22,vb false)::(23,vb false)::(24,.v undef)::(25,.v undef)::(26,vb false)::(2,vb false)::[]) [0] [25] (zq [0] 1 3::zq [1] 2 4::zq [2] 3 5::zq [3,0] 4 6::zq [3,4] 5 7::zq [3,5] 6 8::zq [3,6] 7 9::zq [7] 8 10::zq [8] 9 11::zq [8] 10 12::zq [8] 11 13::zq [8] 12 14::zq [12] 13 15::zq [13] 14 16::zq [13] 15 17::zq [13] 16 18::zq [13] 17 19::zq [13] 18 20::zq [13] 19 21::zq [13] 20 22::zq [20] 21 23::zq [21] 22 24::zq [21] 23 25::zq [21] 24 26::zq [24] 25 2::[]) [(_,_)] rfl ⟨z1 rfl,z4 rfl rfl,z8 hg1_2 rfl,zr' rfl (oM rfl),zr' rfl (oN underlying9 rfl),zr' rfl (oB rfl rfl),z3 true rfl,z8 hg1_7 rfl,zt rfl,zt rfl,zt rfl,z3 false rfl,z1 rfl,zt rfl,zt rfl,zt rfl,zt rfl,zt rfl,zt rfl,z3 false rfl,z1 rfl,zt rfl,zt rfl,z3 false rfl,z2 rfl,zz⟩ ?_
     exact hl7 _ (Option.some.inj h).symm
   ·refine zg hn (_::(3,vs s)::(4,vb (!(s.toList == z0.toList)))::(5,vb false)::(6,.v undef)::(7,.v undef)::(8,.v undef)::(9,vb false)::(10,vb false)::(11,.v undef)::(12,.v undef)::(13,.v undef)::(14,vb false)::(15,vb false)::(16,.v undef)::(17,.v undef)::(18,.v undef)::(19,.v undef)::(20,.v undef)::(21,.v undef)::(22,vb false)::(23,vb false)::(24,.v undef)::(25,.v undef)::(26,vb false)::(2,vb false)::[]) [0] [25] (zq [0] 1 3::zq [1] 2 4::zq [2] 3 5::zq [3] 4 6::zq [3] 5 7::zq [3] 6 8::zq [3] 7 9::zq [7] 8 10::zq [8] 9 11::zq [8] 10 12::zq [8] 11 13::zq [8] 12 14::zq [12] 13 15::zq [13] 14 16::zq [13] 15 17::zq [13] 16 18::zq [13] 17 19::zq [13] 18 20::zq [13] 19 21::zq [13] 20 22::zq [20] 21 23::zq [21] 22 24::zq [21] 23 25::zq [21] 24 26::zq [24] 25 2::[]) [(_,_)] rfl ⟨z1 rfl,z4 rfl rfl,z8 hg1_2 rfl,zt rfl,zt rfl,zt rfl,z3 false rfl,z1 rfl,zt rfl,zt rfl,zt rfl,z3 false rfl,z1 rfl,zt rfl,zt rfl,zt rfl,zt rfl,zt rfl,zt rfl,z3 false rfl,z1 rfl,zt rfl,zt rfl,z3 false rfl,z2 rfl,zz⟩ ?_
    exact hl7 _ (Option.some.inj h).symm
theorem ok_path_dotted_of_path_label (mx : Int) (s : ByteArray) (r : Bool) (h : Sh.path_dotted_of_path_label s = some r) : FnG Tryd.prog (GL mx) 55 [.v (.string s), .v (.func (.func 57) #[] #[])] (.v (.bool r)) := by
  unfold Sh.path_dotted_of_path_label at h
  refine fn_okG func55 rfl (zl rfl) rfl rfl fun g0 hn hio => ?_
  refine zgg hn [_,_,_,(3,.box 94 [.v (.func (.func 57) #[] #[])]),(4,.box 4 [vb false])] [0,1,2] [0,2,3,4] [zq [1] 3 3,zq [] 4 4] [(_,_),(_,_),(_,_),(_,_)] rfl ⟨zp rfl (op_box _ _ _ _ rfl rfl rfl),zp rfl (op_alloc _ _ zr4),zz⟩ ?_
  refine ht_seq ?_
  refine ht_seq ?_
  obtain ⟨v1, hv1, h⟩ := bind_some h
  refine zg hn [_,_,_,_,(6,vs s),(7,.cloB 85 [.box 9 [vs v1.1],.box 9 [vs v1.2.1],.box 3 [vi v1.2.2]])] [0,1,2,3] [1,2,3,5] [zq [0] 4 6,zq [4] 5 7] [(_,_),(_,_),(_,_),(_,_)] rfl ⟨z1 rfl,zp rfl (op_callS _ _ 66 _ _ rfl call66 rfl rfl (ok_strings_SplitSeq s (⟨#[46]⟩ : ByteArray) _ hv1) rfl),zz⟩ ?_
  refine pt_then ?_
  refine ht_block ?_
  refine ht_pick [3, 0, 1, 2] (by kernel_rfl) (es' := [(7, .cloB 85 [.box 9 [.v (.string v1.1)], .box 9 [.v (.string v1.2.1)], .box 3 [.v (.int .i64 v1.2.2)]]), (13, .glob (GL mx)), (3, .box 94 [.v (.func (.func 57) #[] #[])]), (4, .box 4 [.v (.bool false)])]) rfl ?_
  refine ht_rangeF h 85 7 8 14 _ [13, 3, 4] call85 (fun (() : Unit) => [(13, .glob (GL mx)), (3, .box 94 [.v (.func (.func 57) #[] #[])]), (4, .box 4 [.v (.bool false)])]) (fun (() : Unit) => [(13, .glob (GL mx)), (3, .box 94 [.v (.func (.func 57) #[] #[])]), (4, .box 4 [.v (.bool false)])]) (fun l J Y hY t t' h => ok_strings_splitSeq_1 mx l J Y hY v1.1 v1.2.1 v1.2.2 t t' h) hn rfl (fun _ => rfl) (fun _ => rfl) (fun _ => rfl) rfl rfl (fun _ => ⟨rfl, rfl⟩) rfl (glIn_look 13 rfl) ?_ ?_ ?_
  ·rintro kk g0 hn hio x ⟨⟩ u h
   refine ht_es (es' := [(8, .v (.string x)), (13, .glob (GL mx)), (3, .box 94 [.v (.func (.func 57) #[] #[])]), (4, .box 4 [.v (.bool false)]), (13, .v (kk.tm.getD 13 undef)), (3, .v (kk.tm.getD 3 undef)), (4, .v (kk.tm.getD 4 undef)), (14, .inv kk.ready)]) rfl ?_
   refine zg hn [_,_,_,_,_,_,_,_,(5,vs x)] [0,1,2,3,4,5,6,7] [1,2,3,4,5,6,7,8] [zq [0] 8 5] [(_,_),(_,_),(_,_),(_,_),(_,_),(_,_),(_,_),(_,_)] rfl ⟨z2 rfl,zz⟩ ?_
   refine pt_pick [0, 1, 2, 3, 4, 5, 7, 6] (by kernel_rfl) (es' := [(13, .glob (GL mx)), (3, .box 94 [.v (.func (.func 57) #[] #[])]), (4, .box 4 [.v (.bool false)]), (13, .v (kk.tm.getD 13 undef)), (3, .v (kk.tm.getD 3 undef)), (4, .v (kk.tm.getD 4 undef)), (5, .v (.string x)), (14, .inv kk.ready)]) rfl ?_
   refine pt_begin (es := [(13, .glob (GL mx)), (3, .box 94 [.v (.func (.func 57) #[] #[])]), (4, .box 4 [.v (.bool false)]), (13, .v (kk.tm.getD 13 undef)), (3, .v (kk.tm.getD 3 undef)), (4, .v (kk.tm.getD 4 undef)), (5, .v (.string x))]) 14 rfl ?_
   refine ht_block ?_
   refine ht_seq ?_
   obtain ⟨v2, hv2, h⟩ := bind_some h
   refine zg hn [_,_,_,_,_,_,_,_,(9,.v (.func (.func 57) #[] #[])),(10,vs x),(11,vb v2),(12,vb (!v2))] [0,1,2,3,4,5,6,7] [0,1,2,3,4,5,7,11] [zq [1] 8 9,zq [6] 9 10,zq [9,8] 10 11,zq [10] 11 12] [(_,_),(_,_),(_,_),(_,_),(_,_),(_,_),(_,_),(_,_)] rfl ⟨zp rfl (oL underlying94 rfl),z1 rfl,zp rfl (op_call _ _ 57 _ _ rfl call57 rfl (ok_path_label x _ hv2) rfl rfl),zp rfl (op_un _ _ _ _ rfl rfl),zz⟩ ?_
   refine pt_then ?_
   refine ht_cond _ rfl (fun hb5 => ?_) (fun hb5 => ?_)
   ·have h := cond_t hb5 h
    refine zgg hn [_,_,_,_,_,_,_,_,(4,.box 4 [vb false])] [0,1,2,3,4,5,6,7] [0,1,8,3,4,5,6] [⟨[],[2],[8],[.cell 4 0]⟩] [(_,_),(_,_),(_,_),(_,_),(_,_),(_,_),(_,_)] rfl ⟨zp rfl (oS sz4 rfl),zz⟩ ?_
    refine ht_ret ?_
    refine pt_r_in ?_
    obtain rfl := Option.some.inj h
    exact pt_rret 14 [13, 3, 4] _ rfl rfl (by kernel_rfl)
   ·have h := cond_f hb5 h
    refine ht_skip ?_
    refine pt_inb ?_
    refine pt_pick [0, 1, 2, 3, 4, 5, 6] (by kernel_rfl) (es' := [(_,_),(_,_),(_,_),(_,_),(_,_),(_,_),(_,_)]) rfl ?_
    obtain rfl := Option.some.inj h
    exact pt_rnext 14 [13, 3, 4] _ rfl rfl (by kernel_rfl)
  ·rintro D ⟨⟩ h
   refine pt_inb ?_
   refine pt_then ?_
   refine zgg hn [_,_,_,(4,.box 4 [vb true])] [0,1,2] [0,3] [⟨[],[2],[3],[.cell 4 0]⟩] [(_,_),(_,_)] rfl ⟨zp rfl (oS sz4 rfl),zz⟩ ?_
   refine ht_ret ?_
   refine pt_pick [1] (by kernel_rfl) (es' := [(_,_)]) rfl ?_
   obtain rfl := Option.some.inj h
   exact pt_ret hio rfl (.cell1 _ _ _ _ underlying4 rfl .nil) rfl rfl
  ·rintro D ⟨⟩ h
   refine pt_pick [2] (by kernel_rfl) (es' := [(_,_)]) rfl ?_
   refine pt_r_in ?_
   refine pt_r_then ?_
   obtain rfl := Option.some.inj h
   exact pt_ret hio rfl (.cell1 _ _ _ _ underlying4 rfl .nil) rfl rfl
theorem ok_path_Domain (mx : Int) (s : ByteArray) (r : Bool) (h : Sh.path_Domain s = some r) : FnG Tryd.prog (GL mx) 50 [.v (.string s)] (.v (.bool r)) := by
  unfold Sh.path_Domain at h
  refine fn_okG func50 rfl (zl rfl) rfl rfl fun g0 hn hio => ?_
  refine zgg hn [_,_,(2,vb false)] [0,1] [0,1] [zq [] 2 2] [(_,_),(_,_)] rfl ⟨z2 rfl,zz⟩ ?_
  refine ht_seq ?_
  refine ht_joinS h (fun (s2 : Bool) => [(10, .glob (GL mx)), (2, .v (.bool s2))]) ?_ ?_
  ·rintro s2 h
   refine pt_then (ht_ret ?_)
   refine pt_pick [1] (by kernel_rfl) (es' := [(_,_)]) rfl ?_
   obtain rfl := Option.some.inj h
   exact pt_ret hio rfl (.tmp _ _ .nil) rfl rfl
  ·intro u3 h hl4 hr5
   refine cond_some h (fun hg1_3 h => ?_) (fun hg1_3 h => ?_)
   ·obtain ⟨v1, hv1, h⟩ := bind_some h
    refine zg hn [_,_,(3,vs s),(4,vi (s.size : Int)),(5,vb (decide ((s.size : Int) ≤ 255))),(6,vb true),(7,vs s),(8,vb v1),(9,vb v1),(2,vb v1)] [0,1] [1,9] [zq [0] 2 3,zq [2] 3 4,zq [3] 4 5,zq [4] 5 6,zq [5,0] 6 7,zq [5,6,1] 7 8,zq [5,7] 8 9,zq [8] 9 2] [(_,_),(_,_)] rfl ⟨z1 rfl,zp rfl (oN underlying9 rfl),z4 rfl rfl,z8 hg1_3 rfl,zr' rfl (oM rfl),zr' rfl (op_callG _ _ 10 55 _ _ rfl call55 rfl rfl (fun _ h => h) (ok_path_dotted_of_path_label mx s _ hv1) rfl rfl),z3 true rfl,z2 rfl,zz⟩ ?_
    exact hl4 _ (Option.some.inj h).symm
   ·refine zg hn [_,_,(3,vs s),(4,vi (s.size : Int)),(5,vb (decide ((s.size : Int) ≤ 255))),(6,vb false),(7,.v undef),(8,.v undef),(9,vb false),(2,vb false)] [0,1] [1,9] [zq [0] 2 3,zq [2] 3 4,zq [3] 4 5,zq [4] 5 6,zq [5] 6 7,zq [5] 7 8,zq [5] 8 9,zq [8] 9 2] [(_,_),(_,_)] rfl ⟨z1 rfl,zp rfl (oN underlying9 rfl),z4 rfl rfl,z8 hg1_3 rfl,zt rfl,zt rfl,z3 false rfl,z2 rfl,zz⟩ ?_
    exact hl4 _ (Option.some.inj h).symm
theorem ok_path_Check (mx : Int) (p : T_Path) (r : Int) (h : Sh.path_Check p = some r) : FnG Tryd.prog (GL mx) 44 [.agg [.v (.bool p.Null), .v (.string p.Local), .v (.string p.Domain)]] (.v (.int .i64 r)) := by
  unfold Sh.path_Check at h
  refine fn_okG func44 rfl (zl rfl) rfl rfl fun g0 hn hio => ?_
  refine zgg hn [_,_,(1,.box 45 [vb p.Null,vs p.Local,vs p.Domain]),(2,vi 0)] [0,1] [1,2] [zq [0] 2 1,zq [] 3 2] [(_,_),(_,_)] rfl ⟨zp rfl (op_box _ _ _ _ rfl rfl rfl),z2 rfl,zz⟩ ?_
  refine zgg hn [_,_,(5,.agg [vb p.Null,vs p.Local,vs p.Domain]),(6,.agg [vb true,vs z0,vs z0]),(7,vb ((p.Null == true) && ((p.Local.toList == z0.toList) && ((p.Domain.toList == z0.toList) && true)))),(3,vb ((p.Null == true) && ((p.Local.toList == z0.toList) && ((p.Domain.toList == z0.toList) && true))))] [0,1] [0,1,5] [zq [1] 2 5,zq [] 3 6,zq [2,3] 4 7,zq [4] 5 3] [(_,_),(_,_),(_,_)] rfl ⟨zp rfl (op_loadA _ _ _ _ _ _ _ underlying45 rfl sz45 rfl rfl (zl rfl) rfl rfl),zp rfl (op_build _ _ _ _ [1, 1, 1] _ _ underlying45 zr45 (fs45 _ underlying45) (.copy _ Src.nil) rfl rfl rfl),zp rfl (op_eq_st _ _ [.bool p.Null, .string p.Local, .string p.Domain] [.bool true, .string (⟨#[]⟩ : ByteArray), .string (⟨#[]⟩ : ByteArray)] (((p.Null == true) && ((p.Local.toList == (⟨#[]⟩ : ByteArray).toList) && ((p.Domain.toList == (⟨#[]⟩ : ByteArray).toList) && true)))) _ false (by kernel_rfl) (by kernel_rfl) (by kernel_rfl) (by kernel_rfl) (by kernel_rfl) rfl rfl rfl rfl (by kernel_rfl) rfl),z2 rfl,zz⟩ ?_
  refine ht_seq ?_
  refine ht_joinS h (fun (s3 : Bool) => [(27, .glob (GL mx)), (3, .v (.bool (((p.Null == true) && ((p.Local.toList == (⟨#[]⟩ : ByteArray).toList) && ((p.Domain.toList == (⟨#[]⟩ : ByteArray).toList) && true)))))), (4, .v (.bool s3))]) ?_ ?_
  ·rintro s3 h
   refine pt_then (ht_seq ?_)
   refine ht_seq ?_
   refine ht_joinS h (fun (s7 : Bool) => [(27, .glob (GL mx)), (26, .v (.bool s7))]) ?_ ?_
   ·rintro s7 h
    refine pt_then ?_
    refine ht_cond _ rfl (fun hb11 => ?_) (fun hb11 => ?_)
    ·have h := cond_t hb11 h
     refine zgg hn [_,_,(2,vi 5)] [0,1] [0,2] [zq [] 2 2] [(_,_),(_,_)] rfl ⟨z2 rfl,zz⟩ ?_
     refine ht_ret ?_
     refine pt_pick [1] (by kernel_rfl) (es' := [(_,_)]) rfl ?_
     refine pt_r_then ?_
     obtain rfl := Option.some.inj h
     exact pt_ret hio rfl (.tmp _ _ .nil) rfl rfl
    ·have h := cond_f hb11 h
     refine ht_skip ?_
     refine pt_then ?_
     refine zgg hn [_,_,(2,vi 0)] [0,1] [0,2] [zq [] 2 2] [(_,_),(_,_)] rfl ⟨z2 rfl,zz⟩ ?_
     refine ht_ret ?_
     refine pt_pick [1] (by kernel_rfl) (es' := [(_,_)]) rfl ?_
     obtain rfl := Option.some.inj h
     exact pt_ret hio rfl (.tmp _ _ .nil) rfl rfl
   ·intro u8 h hl9 hr10
    refine cond_some h (fun hg3_2 h => ?_) (fun hg3_2 h => ?_)
    ·refine zg hn [_,_,_,(21,vb ((p.Null == true) && ((p.Local.toList == z0.toList) && ((p.Domain.toList == z0.toList) && true)))),(22,vb (!(((p.Null == true) && ((p.Local.toList == z0.toList) && ((p.Domain.toList == z0.toList) && true)))))),(23,vb true),(24,vb s3),(25,vb (!s3)),(26,vb (!s3))] [0,1,2] [0,8] [zq [1] 3 21,zq [3] 4 22,zq [4] 5 23,zq [5,2] 6 24,zq [5,6] 7 25,zq [5,7] 8 26] [(_,_),(_,_)] rfl ⟨z1 rfl,zp rfl (op_un _ _ _ _ rfl rfl),z8 hg3_2 rfl,zr' rfl (oM rfl),zr' rfl (op_un _ _ _ _ rfl rfl),z3 true rfl,zz⟩ ?_
     exact hl9 _ (Option.some.inj h).symm
    ·refine zg hn [_,_,_,(21,vb ((p.Null == true) && ((p.Local.toList == z0.toList) && ((p.Domain.toList == z0.toList) && true)))),(22,vb (!(((p.Null == true) && ((p.Local.toList == z0.toList) && ((p.Domain.toList == z0.toList) && true)))))),(23,vb false),(24,.v undef),(25,.v undef),(26,vb false)] [0,1,2] [0,8] [zq [1] 3 21,zq [3] 4 22,zq [4] 5 23,zq [5] 6 24,zq [5] 7 25,zq [5] 8 26] [(_,_),(_,_)] rfl ⟨z1 rfl,zp rfl (op_un _ _ _ _ rfl rfl),z8 hg3_2 rfl,zt rfl,zt rfl,z3 false rfl,zz⟩ ?_
     exact hl9 _ (Option.some.inj h).symm
  ·intro u4 h hl5 hr6
   refine cond_some h (fun hg2_3 h => ?_) (fun hg2_3 h => ?_)
   ·obtain ⟨v1, hv1, h⟩ := bind_some h
    refine cond_some h (fun hg2_8 h => ?_) (fun hg2_8 h => ?_)
    ·obtain ⟨v2, hv2, h⟩ := bind_some h
     refine zg hn (_::_::_::(8,.ptr 1 0)::(9,vb p.Null)::(10,vb (!p.Null))::(11,vb true)::(12,.ptr 1 1)::(13,vs p.Local)::(14,vb v1)::(15,vb v1)::(16,vb true)::(17,.ptr 1 2)::(18,vs p.Domain)::(19,vb v2)::(20,vb v2)::(4,vb v2)::[]) [0,1,2] [0,2,16] [zq [1] 3 8,zq [3,1] 4 9,zq [4] 5 10,zq [5] 6 11,zq [6,1] 7 12,zq [6,7,1] 8 13,zq [6,8,0] 9 14,zq [6,9] 10 15,zq [10] 11 16,zq [11,1] 12 17,zq [11,12,1] 13 18,zq [11,13,0] 14 19,zq [11,14] 15 20,zq [15] 16 4] [(_,_),(_,_),(_,_)] rfl ⟨zp rfl (oF underlying45 rfl sz4),zp rfl (oL underlying4 rfl),zp rfl (op_un _ _ _ _ rfl rfl),z8 hg2_3 rfl,zr' rfl (oF underlying45 rfl sz9),zr' rfl (oL underlying9 rfl),zr' rfl (op_callG _ _ 27 49 _ _ rfl call49 rfl rfl (fun _ h => h) (ok_path_local mx p.Local _ hv1) rfl rfl),z3 true rfl,z8 hg2_8 rfl,zr' rfl (oF underlying45 rfl sz9),zr' rfl (oL underlying9 rfl),zr' rfl (op_callG _ _ 27 50 _ _ rfl call50 rfl rfl (fun _ h => h) (ok_path_Domain mx p.Domain _ hv2) rfl rfl),z3 true rfl,z2 rfl,zz⟩ ?_
     exact hl5 _ (Option.some.inj h).symm
    ·refine zg hn (_::_::_::(8,.ptr 1 0)::(9,vb p.Null)::(10,vb (!p.Null))::(11,vb true)::(12,.ptr 1 1)::(13,vs p.Local)::(14,vb v1)::(15,vb v1)::(16,vb false)::(17,.v undef)::(18,.v undef)::(19,.v undef)::(20,vb false)::(4,vb false)::[]) [0,1,2] [0,2,16] [zq [1] 3 8,zq [3,1] 4 9,zq [4] 5 10,zq [5] 6 11,zq [6,1] 7 12,zq [6,7,1] 8 13,zq [6,8,0] 9 14,zq [6,9] 10 15,zq [10] 11 16,zq [11] 12 17,zq [11] 13 18,zq [11] 14 19,zq [11] 15 20,zq [15] 16 4] [(_,_),(_,_),(_,_)] rfl ⟨zp rfl (oF underlying45 rfl sz4),zp rfl (oL underlying4 rfl),zp rfl (op_un _ _ _ _ rfl rfl),z8 hg2_3 rfl,zr' rfl (oF underlying45 rfl sz9),zr' rfl (oL underlying9 rfl),zr' rfl (op_callG _ _ 27 49 _ _ rfl call49 rfl rfl (fun _ h => h) (ok_path_local mx p.Local _ hv1) rfl rfl),z3 true rfl,z8 hg2_8 rfl,zt rfl,zt rfl,zt rfl,z3 false rfl,z2 rfl,zz⟩ ?_
     exact hl5 _ (Option.some.inj h).symm
   ·refine zg hn (_::_::_::(8,.ptr 1 0)::(9,vb p.Null)::(10,vb (!p.Null))::(11,vb false)::(12,.v undef)::(13,.v undef)::(14,.v undef)::(15,vb false)::(16,vb false)::(17,.v undef)::(18,.v undef)::(19,.v undef)::(20,vb false)::(4,vb false)::[]) [0,1,2] [0,2,16] [zq [1] 3 8,zq [3,1] 4 9,zq [4] 5 10,zq [5] 6 11,zq [6] 7 12,zq [6] 8 13,zq [6] 9 14,zq [6] 10 15,zq [10] 11 16,zq [11] 12 17,zq [11] 13 18,zq [11] 14 19,zq [11] 15 20,zq [15] 16 4] [(_,_),(_,_),(_,_)] rfl ⟨zp rfl (oF underlying45 rfl sz4),zp rfl (oL underlying4 rfl),zp rfl (op_un _ _ _ _ rfl rfl),z8 hg2_3 rfl,zt rfl,zt rfl,zt rfl,z3 false rfl,z1 rfl,zt rfl,zt rfl,zt rfl,z3 false rfl,z2 rfl,zz⟩ ?_
    exact hl5 _ (Option.some.inj h).symm
theorem ok_envelope_Valid (mx : Int) (m : T_Mail) (r : Bool) (h : Sh.envelope_Valid m = some r) : FnG Tryd.prog (GL mx) 32 [.agg [.v (.bool m.From.Null), .v (.string m.From.Local), .v (.string m.From.Domain), .fl .shr 3 (List.flatten (List.map T_Path.enc m.To)), .fl .shr 1 (List.map (Value.int .u8) m.Body), .v (.bool m.Quiet), .v (.string m.Helo), .v (.int .i64 m.At)]] (.v (.bool r)) := by
  unfold Sh.envelope_Valid at h
  refine fn_okG func32 rfl (zl rfl) rfl rfl fun g0 hn hio => ?_
  refine zgg hn [_,_,(1,.box 48 [vb m.From.Null,vs m.From.Local,vs m.From.Domain,.fl .shr 3 (List.flatten (List.map T_Path.enc m.To)),.fl .shr 1 (List.map (Value.int .u8) m.Body),vb m.Quiet,vs m.Helo,vi m.At]),(2,vb false)] [0,1] [1,2] [zq [0] 2 1,zq [] 3 2] [(_,_),(_,_)] rfl ⟨zp rfl (op_box _ _ _ _ rfl rfl rfl),z2 rfl,zz⟩ ?_
  refine ht_seq ?_
  refine ht_seq ?_
  refine ht_joinS h (fun (s2 : Bool) => [(36, .glob (GL mx)), (1, .box 48 [.v (.bool m.From.Null), .v (.string m.From.Local), .v (.string m.From.Domain), .fl .shr 3 (List.flatten (List.map T_Path.enc m.To)), .fl .shr 1 (List.map (Value.int .u8) m.Body), .v (.bool m.Quiet), .v (.string m.Helo), .v (.int .i64 m.At)]), (20, .v (.bool s2))]) ?_ ?_
  ·rintro s2 h
   refine pt_then ?_
   refine ht_cond _ rfl (fun hb6 => ?_) (fun hb6 => ?_)
   ·have h := cond_t hb6 h
    refine zgg hn [_,_,_,(2,vb false)] [0,1,2] [0,3] [zq [] 3 2] [(_,_),(_,_)] rfl ⟨z2 rfl,zz⟩ ?_
    refine ht_ret ?_
    refine pt_pick [1] (by kernel_rfl) (es' := [(_,_)]) rfl ?_
    refine pt_r_then ?_
    obtain rfl := Option.some.inj h
    exact pt_ret hio rfl (.tmp _ _ .nil) rfl rfl
   ·have h := cond_f hb6 h
    refine ht_skip ?_
    refine pt_then (ht_seq ?_)
    refine zgg hn [_,_,_,(21,.ptr 1 3),(22,.fl .shr 3 (List.flatten (List.map T_Path.enc m.To))),(23,vi (m.To.length : Int)),(24,vi 0)] [0,1,2] [0,4,5,6] [zq [1] 3 21,zq [3,1] 4 22,zq [4] 5 23,zq [] 6 24] [(_,_),(_,_),(_,_),(_,_)] rfl ⟨zp rfl (oF underlying48 rfl sz46),zp rfl (oL underlying46 rfl),zp rfl (op_len_fl _ _ _ underlying46 rfl (by decide) (flat_len T_Path.len _)),z1 rfl,zz⟩ ?_
    refine ht_loopS h (fun (s24 : Int) => [(36, .glob (GL mx)), (22, .fl .shr 3 (List.flatten (List.map T_Path.enc m.To))), (23, .v (.int .i64 (m.To.length : Int))), (24, .v (.int .i64 s24))]) (fun (() : Unit) => [(36, .glob (GL mx))]) ?_ ?_
    ·rintro ⟨⟩ h
     refine pt_then ?_
     refine zgg hn [_,(2,vb true)] [0] [0,1] [zq [] 1 2] [(_,_),(_,_)] rfl ⟨z2 rfl,zz⟩ ?_
     refine ht_ret ?_
     refine pt_pick [1] (by kernel_rfl) (es' := [(_,_)]) rfl ?_
     obtain rfl := Option.some.inj h
     exact pt_ret hio rfl (.tmp _ _ .nil) rfl rfl
    ·rintro u31 hl32 hr33 s24 rr36 h ho34
     refine zgg hn [_,_,_,_,(25,vb (decide (s24 < (m.To.length : Int))))] [0,1,2,3] [0,1,2,3,4] [zq [3,2] 4 25] [(_,_),(_,_),(_,_),(_,_),(_,_)] rfl ⟨z4 rfl rfl,zz⟩ ?_
     refine ht_seq ?_
     refine ht_cond _ rfl (fun hb37 => ?_) (fun hb37 => ?_)
     ·have h := cond_t hb37 h
      refine ht_skip ?_
      refine pt_then (ht_seq ?_)
      refine ht_block ?_
      refine ht_seq ?_
      obtain ⟨v8, hv8, h⟩ := bind_some h
      obtain ⟨v9, hv9, h⟩ := bind_some h
      refine zg hn [_,_,_,_,_,(26,.eref (.slot 22) (v8 * 3)),(27,.agg [vb v9.Null,vs v9.Local,vs v9.Domain]),(4,.box 45 [vb false,vs z0,vs z0]),(4,.box 45 [vb v9.Null,vs v9.Local,vs v9.Domain])] [0,1,2,3,4] [0,1,2,3,8] [zq [1,3] 5 26,zq [5,1] 6 27,zq [] 7 4,⟨[6],[7],[8],[.cell 4 0,.cell 4 1,.cell 4 2]⟩] [(_,_),(_,_),(_,_),(_,_),(_,_)] rfl ⟨zp rfl (op_ix _ _ _ _ _ _ _ _ underlying46 sz45 (by decide) rfl rfl rfl (ix_ok hv8).1 (flat_lt T_Path.len (ix_ok hv8).2) rfl),zp rfl (op_load_eA _ _ _ _ _ _ _ underlying45 rfl sz45 rfl rfl (flat_get T_Path.len hv9) rfl (by decide)),zp rfl (op_alloc _ _ zr45),zp rfl (oS sz45 rfl),zz⟩ ?_
      refine pt_then (ht_seq ?_)
      refine ht_joinS h (fun (s38 : Bool) => [(36, .glob (GL mx)), (22, .fl .shr 3 (List.flatten (List.map T_Path.enc m.To))), (23, .v (.int .i64 (m.To.length : Int))), (24, .v (.int .i64 s24)), (34, .v (.bool s38))]) ?_ ?_
      ·rintro s38 h
       refine pt_then ?_
       refine ht_cond _ rfl (fun hb42 => ?_) (fun hb42 => ?_)
       ·have h := cond_t hb42 h
        refine zgg hn [_,_,_,_,_,(2,vb false)] [0,1,2,3,4] [0,5] [zq [] 5 2] [(_,_),(_,_)] rfl ⟨z2 rfl,zz⟩ ?_
        refine ht_ret ?_
        refine pt_pick [1] (by kernel_rfl) (es' := [(_,_)]) rfl ?_
        refine pt_r_in ?_
        refine pt_r_then ?_
        refine pt_r_then ?_
        refine pt_r_in ?_
        refine pt_r_then ?_
        have h := hr33 _ (ho34 _ (Option.some.inj h).symm).symm
        obtain rfl := Option.some.inj h
        exact pt_ret hio rfl (.tmp _ _ .nil) rfl rfl
       ·have h := cond_f hb42 h
        refine ht_skip ?_
        refine pt_inb ?_
        refine pt_then ?_
        obtain ⟨v16, hv16, h⟩ := bind_some h
        refine zg hn [_,_,_,_,_,(35,vi v16),(24,vi v16)] [0,1,2,3,4] [0,1,2,6] [zq [3] 5 35,⟨[5],[3],[6],[(.slot 24)]⟩] [(_,_),(_,_),(_,_),(_,_)] rfl ⟨zp rfl (oB rfl (ibind (f := Value.int .i64) (Option.some.inj hv16))),zp rfl (LOp.drop [_] (oM rfl)),zz⟩ ?_
        exact pt_next _ (Option.some.inj h).symm rfl
      ·intro u39 h hl40 hr41
       obtain ⟨v10, hv10, h⟩ := bind_some h
       refine cond_some h (fun hg6_3 h => ?_) (fun hg6_3 h => ?_)
       ·refine zg hn [_,_,_,_,_,(28,.agg [vb v9.Null,vs v9.Local,vs v9.Domain]),(29,vi v10),(30,vb (v10 != 0)),(31,vb true),(32,.v undef),(33,.v undef),(34,vb true)] [0,1,2,3,4] [0,1,2,3,11] [zq [4] 5 28,zq [5,0] 6 29,zq [6] 7 30,zq [7] 8 31,zq [8] 9 32,zq [8] 10 33,zq [8] 11 34] [(_,_),(_,_),(_,_),(_,_),(_,_)] rfl ⟨zp rfl (op_loadA _ _ _ _ _ _ _ underlying45 rfl sz45 rfl rfl (zl rfl) rfl rfl),zp rfl (op_callG _ _ 36 44 _ _ rfl call44 rfl rfl (fun _ h => h) (ok_path_Check mx v9 _ hv10) rfl rfl),z4 rfl rfl,z8 hg6_3 rfl,zf rfl,zf rfl,z3 true rfl,zz⟩ ?_
        exact hl40 _ (Option.some.inj h).symm
       ·refine zg hn [_,_,_,_,_,(28,.agg [vb v9.Null,vs v9.Local,vs v9.Domain]),(29,vi v10),(30,vb (v10 != 0)),(31,vb false),(32,.ptr 4 0),(33,vb v9.Null),(34,vb v9.Null)] [0,1,2,3,4] [0,1,2,3,11] [zq [4] 5 28,zq [5,0] 6 29,zq [6] 7 30,zq [7] 8 31,zq [8,4] 9 32,zq [8,9,4] 10 33,zq [8,10] 11 34] [(_,_),(_,_),(_,_),(_,_),(_,_)] rfl ⟨zp rfl (op_loadA _ _ _ _ _ _ _ underlying45 rfl sz45 rfl rfl (zl rfl) rfl rfl),zp rfl (op_callG _ _ 36 44 _ _ rfl call44 rfl rfl (fun _ h => h) (ok_path_Check mx v9 _ hv10) rfl rfl),z4 rfl rfl,z8 hg6_3 rfl,zr' rfl (oF underlying45 rfl sz4),zr' rfl (oL underlying4 rfl),z3 false rfl,zz⟩ ?_
        exact hl40 _ (Option.some.inj h).symm
     ·have h := cond_f hb37 h
      refine ht_exit ?_
      refine pt_x_then ?_
      refine pt_x_then ?_
      refine pt_x_in ?_
      refine pt_pick [0] (by kernel_rfl) (es' := [(_,_)]) rfl ?_
      exact hl32 _ (ho34 _ (Option.some.inj h).symm).symm
  ·intro u3 h hl4 hr5
   obtain ⟨v1, hv1, h⟩ := bind_some h
   refine cond_some h (fun hg1_4 h => ?_) (fun hg1_4 h => ?_)
   ·refine zg hn (_::_::(5,.ptr 1 0)::(6,.agg [vb m.From.Null,vs m.From.Local,vs m.From.Domain])::(7,vi v1)::(8,vb (v1 != 0))::(9,vb true)::(10,.v undef)::(11,.v undef)::(12,.v undef)::(13,.v undef)::(14,vb true)::(15,vb true)::(16,.v undef)::(17,.v undef)::(18,.v undef)::(19,.v undef)::(20,vb true)::[]) [0,1] [0,1,17] (zq [1] 2 5::zq [2,1] 3 6::zq [3,0] 4 7::zq [4] 5 8::zq [5] 6 9::zq [6] 7 10::zq [6] 8 11::zq [6] 9 12::zq [6] 10 13::zq [6] 11 14::zq [11] 12 15::zq [12] 13 16::zq [12] 14 17::zq [12] 15 18::zq [12] 16 19::zq [12] 17 20::[]) [(_,_),(_,_),(_,_)] rfl ⟨zp rfl (oF underlying48 rfl sz45),zp rfl (op_loadA _ _ _ _ _ _ _ underlying45 rfl sz45 rfl rfl (zl rfl) rfl rfl),zp rfl (op_callG _ _ 36 44 _ _ rfl call44 rfl rfl (fun _ h => h) (ok_path_Check mx (T_Path.mk m.From.Null m.From.Local m.From.Domain) _ hv1) rfl rfl),z4 rfl rfl,z8 hg1_4 rfl,zf rfl,zf rfl,zf rfl,zf rfl,z3 true rfl,z1 rfl,zf rfl,zf rfl,zf rfl,zf rfl,z3 true rfl,zz⟩ ?_
    exact hl4 _ (Option.some.inj h).symm
   ·refine cond_some h (fun hg1_10 h => ?_) (fun hg1_10 h => ?_)
    ·refine zg hn (_::_::(5,.ptr 1 0)::(6,.agg [vb m.From.Null,vs m.From.Local,vs m.From.Domain])::(7,vi v1)::(8,vb (v1 != 0))::(9,vb false)::(10,.ptr 1 3)::(11,.fl .shr 3 (List.flatten (List.map T_Path.enc m.To)))::(12,vi (m.To.length : Int))::(13,vb (decide ((m.To.length : Int) < 1)))::(14,vb (decide ((m.To.length : Int) < 1)))::(15,vb true)::(16,.v undef)::(17,.v undef)::(18,.v undef)::(19,.v undef)::(20,vb true)::[]) [0,1] [0,1,17] (zq [1] 2 5::zq [2,1] 3 6::zq [3,0] 4 7::zq [4] 5 8::zq [5] 6 9::zq [6,1] 7 10::zq [6,7,1] 8 11::zq [6,8] 9 12::zq [6,9] 10 13::zq [6,10] 11 14::zq [11] 12 15::zq [12] 13 16::zq [12] 14 17::zq [12] 15 18::zq [12] 16 19::zq [12] 17 20::[]) [(_,_),(_,_),(_,_)] rfl ⟨zp rfl (oF underlying48 rfl sz45),zp rfl (op_loadA _ _ _ _ _ _ _ underlying45 rfl sz45 rfl rfl (zl rfl) rfl rfl),zp rfl (op_callG _ _ 36 44 _ _ rfl call44 rfl rfl (fun _ h => h) (ok_path_Check mx (T_Path.mk m.From.Null m.From.Local m.From.Domain) _ hv1) rfl rfl),z4 rfl rfl,z8 hg1_4 rfl,zr' rfl (oF underlying48 rfl sz46),zr' rfl (oL underlying46 rfl),zr' rfl (op_len_fl _ _ _ underlying46 rfl (by decide) (flat_len T_Path.len _)),zr' rfl (oB rfl rfl),z3 false rfl,z8 hg1_10 rfl,zf rfl,zf rfl,zf rfl,zf rfl,z3 true rfl,zz⟩ ?_
     exact hl4 _ (Option.some.inj h).symm
    ·refine zg hn (_::_::(5,.ptr 1 0)::(6,.agg [vb m.From.Null,vs m.From.Local,vs m.From.Domain])::(7,vi v1)::(8,vb (v1 != 0))::(9,vb false)::(10,.ptr 1 3)::(11,.fl .shr 3 (List.flatten (List.map T_Path.enc m.To)))::(12,vi (m.To.length : Int))::(13,vb (decide ((m.To.length : Int) < 1)))::(14,vb (decide ((m.To.length : Int) < 1)))::(15,vb false)::(16,.ptr 1 3)::(17,.fl .shr 3 (List.flatten (List.map T_Path.enc m.To)))::(18,vi (m.To.length : Int))::(19,vb (decide (8 < (m.To.length : Int))))::(20,vb (decide (8 < (m.To.length : Int))))::[]) [0,1] [0,1,17] (zq [1] 2 5::zq [2,1] 3 6::zq [3,0] 4 7::zq [4] 5 8::zq [5] 6 9::zq [6,1] 7 10::zq [6,7,1] 8 11::zq [6,8] 9 12::zq [6,9] 10 13::zq [6,10] 11 14::zq [11] 12 15::zq [12,1] 13 16::zq [12,13,1] 14 17::zq [12,14] 15 18::zq [12,15] 16 19::zq [12,16] 17 20::[]) [(_,_),(_,_),(_,_)] rfl ⟨zp rfl (oF underlying48 rfl sz45),zp rfl (op_loadA _ _ _ _ _ _ _ underlying45 rfl sz45 rfl rfl (zl rfl) rfl rfl),zp rfl (op_callG _ _ 36 44 _ _ rfl call44 rfl rfl (fun _ h => h) (ok_path_Check mx (T_Path.mk m.From.Null m.From.Local m.From.Domain) _ hv1) rfl rfl),z4 rfl rfl,z8 hg1_4 rfl,zr' rfl (oF underlying48 rfl sz46),zr' rfl (oL underlying46 rfl),zr' rfl (op_len_fl _ _ _ underlying46 rfl (by decide) (flat_len T_Path.len _)),zr' rfl (oB rfl rfl),z3 false rfl,z8 hg1_10 rfl,zr' rfl (oF underlying48 rfl sz46),zr' rfl (oL underlying46 rfl),zr' rfl (op_len_fl _ _ _ underlying46 rfl (by decide) (flat_len T_Path.len _)),zr' rfl (oB rfl rfl),z3 false rfl,zz⟩ ?_
     exact hl4 _ (Option.some.inj h).symm
theorem ok_dots_lines (b : (List Int)) (r : (List Int)) (h : Sh.dots_lines b = some r) : FnOK Tryd.prog 45 [.fl .shr 1 (List.map (Value.int .u8) b)] (.cloB 51 [.box 29 [.fl .shr 1 (List.map (Value.int .u8) r)]]) := by
  unfold Sh.dots_lines at h
  refine fn_ok func45 rfl (zl rfl) rfl rfl fun g0 hn hio => ?_
  refine zgg hn [_,(1,.box 29 [.fl .shr 1 (List.map (Value.int .u8) b)]),(2,.v (.nilFunc))] [0] [1] [zq [0] 1 1,zq [] 2 2] [(_,_)] rfl ⟨zp rfl (op_box _ _ _ _ rfl rfl rfl),z2 rfl,zz⟩ ?_
  refine zgg hn [_,(3,.cloB 51 [.box 29 [.fl .shr 1 (List.map (Value.int .u8) b)]]),(2,.cloB 51 [.box 29 [.fl .shr 1 (List.map (Value.int .u8) b)]])] [0] [2] [⟨[],[0],[1],[(.slot 3)]⟩,⟨[],[1],[2],[(.slot 2)]⟩] [(_,_)] rfl ⟨zp rfl (op_mkclo _ _ [1] [.box 29 [.fl .shr 1 (List.map (Value.int .u8) b)]] rfl rfl rfl),zp rfl (op_assign_take _ _ _ _ rfl),zz⟩ ?_
  refine ht_ret ?_
  obtain rfl := Option.some.inj h
  exact pt_ret hio rfl (.tmp _ _ .nil) rfl rfl
theorem ok_bytes_Index (mx : Int) (s sep : List Int) (r : Int) (h : Sh.bytes_Index s sep = some r) : FnG Tryd.prog (GL mx) 58 [.fl .shr 1 (List.map (Value.int .u8) s), .fl .shr 1 (List.map (Value.int .u8) sep)] (.v (.int .i64 r)) :=
  lib_bytes_Index (gl_mem0 mx) Tryd.bytes_Index_at Tryd.bytes_Index_longer s sep r h
theorem ok_bytes_Cut_sh (mx : Int) (s : (List Int)) (sep : (List Int)) (r : ((List Int) × (List Int) × Bool)) (h : Sh.bytes_Cut_sh s sep = some r) : FnG Tryd.prog (GL mx) 52 [.fl .shr 1 (List.map (Value.int .u8) s), .fl .shr 1 (List.map (Value.int .u8) sep)] (.tup [.fl .shr 1 (List.map (Value.int .u8) r.1), .fl .shr 1 (List.map (Value.int .u8) r.2.1), .v (.bool r.2.2)]) := by
  unfold Sh.bytes_Cut_sh at h
  refine fn_okG func52 rfl (zl rfl) rfl rfl fun g0 hn hio => ?_
  refine zgg hn [_,_,_,(4,.v (.slice none 0 0)),(5,.v (.slice none 0 0)),(6,vb false)] [0,1,2] [0,1,2] [zq [] 3 4,zq [] 4 5,zq [] 5 6] [(_,_),(_,_),(_,_)] rfl ⟨z2 rfl,z2 rfl,z2 rfl,zz⟩ ?_
  refine ht_seq ?_
  refine ht_seq ?_
  obtain ⟨v1, hv1, h⟩ := bind_some h
  refine zg hn [_,_,_,(8,.fl .shr 1 (List.map (Value.int .u8) s)),(9,.fl .shr 1 (List.map (Value.int .u8) sep)),(10,vi v1),(7,vi v1)] [0,1,2] [0,1,2,6] [zq [0] 3 8,zq [1] 4 9,zq [3,4,2] 5 10,zq [5] 6 7] [(_,_),(_,_),(_,_),(_,_)] rfl ⟨z1 rfl,z1 rfl,zp rfl (op_callG _ _ 23 58 _ _ rfl call58 rfl rfl (fun _ h => h) (ok_bytes_Index mx s sep _ hv1) rfl rfl),z2 rfl,zz⟩ ?_
  refine pt_then ?_
  refine zgg hn [_,_,_,_,(11,vi v1),(12,vb (decide (0 ≤ v1)))] [0,1,2,3] [0,1,2,3,5] [zq [3] 4 11,zq [4] 5 12] [(_,_),(_,_),(_,_),(_,_),(_,_)] rfl ⟨z1 rfl,z4 rfl rfl,zz⟩ ?_
  refine ht_cond _ rfl (fun hb2 => ?_) (fun hb2 => ?_)
  ·have h := cond_t hb2 h
   refine ht_seq ?_
   obtain ⟨v3, hv3, h⟩ := bind_some h
   obtain ⟨v4, hv4, h⟩ := bind_some h
   obtain ⟨v5, hv5, h⟩ := bind_some h
   refine ht_anyR (by kernel_rfl) hn (El := (_ :: _ :: _ :: _ :: _ :: (13, .fl .shr 1 (List.map (Value.int .u8) s)) :: (14, .v (.int .i64 v1)) :: (15, .fl .shr 1 (List.map (Value.int .u8) v3)) :: (16, .fl .shr 1 (List.map (Value.int .u8) s)) :: (17, .v (.int .i64 v1)) :: (18, .fl .shr 1 (List.map (Value.int .u8) sep)) :: (19, .v (.int .i64 (sep.length : Int))) :: (20, .v (.int .i64 v4)) :: (21, .fl .shr 1 (List.map (Value.int .u8) v5)) :: (4, .fl .shr 1 (List.map (Value.int .u8) v3)) :: (5, .fl .shr 1 (List.map (Value.int .u8) v5)) :: (6, .v (.bool true)) :: [])) (init := [0, 1, 2, 3, 4]) (fin := [2, 14, 15, 16]) (sps := [zq [0] 5 13, zq [3] 6 14, zq [5,6] 7 15, zq [0] 8 16, zq [3] 9 17, zq [1] 10 18, zq [10] 11 19, zq [9,11] 12 20, zq [8,12] 13 21, zq [7] 14 4, zq [13] 15 5, zq [] 16 6]) (es' := [(_,_),(4, .fl .shr 1 (List.map (Value.int .u8) v3)), (5, .fl .shr 1 (List.map (Value.int .u8) v5)), (6, .v (.bool true))]) (by kernel_rfl) rfl rfl ⟨z1 rfl,z1 rfl,zp rfl (op_sl _ _ _ 0 v1 _ underlying29 sz5 rfl rfl rfl ⟨_, rfl⟩ hv3),z1 rfl,z1 rfl,z1 rfl,zp rfl (op_len_fl _ _ _ underlying29 rfl (by decide) (map_len _)),zp rfl (oB rfl (ibind (f := Value.int .i64) (Option.some.inj hv4))),zp rfl (op_sl _ _ _ v4 (s.length : Int) _ underlying29 sz5 rfl rfl ⟨_, rfl⟩ rfl hv5),z2 rfl,z2 rfl,z2 rfl,zz⟩ ?_
   refine pt_then (ht_ret ?_)
   refine pt_pick [1, 2, 3] (by kernel_rfl) (es' := [(_,_),(_,_),(_,_)]) rfl ?_
   refine pt_r_then ?_
   obtain rfl := Option.some.inj h
   exact pt_ret hio rfl (.tmp _ _ (.tmp _ _ (.tmp _ _ .nil))) rfl rfl
  ·have h := cond_f hb2 h
   refine ht_skip ?_
   refine pt_then ?_
   refine zgg hn [_,_,_,_,_,(22,.fl .shr 1 (List.map (Value.int .u8) s)),(4,.fl .shr 1 (List.map (Value.int .u8) s)),(5,.v (.slice none 0 0)),(6,vb false)] [0,1,2,3,4] [2,6,7,8] [zq [0] 5 22,zq [5] 6 4,zq [] 7 5,zq [] 8 6] [(_,_),(_,_),(_,_),(_,_)] rfl ⟨z1 rfl,z2 rfl,z2 rfl,z2 rfl,zz⟩ ?_
   refine ht_ret ?_
   refine pt_pick [1, 2, 3] (by kernel_rfl) (es' := [(_,_),(_,_),(_,_)]) rfl ?_
   refine pt_sub (fs := [(4, .fl .shr 1 (List.map (Value.int .u8) s)), (5, .fl .shr 1 (List.map (Value.int .u8) [])), (6, .v (.bool false))]) (.same _ (.sub _ (sub_nil_shr 1) rfl (.same _ .nil))) ?_
   obtain rfl := Option.some.inj h
   exact pt_ret hio rfl (.tmp _ _ (.tmp _ _ (.tmp _ _ .nil))) rfl rfl
theorem ok_dots_lines_1 (mx : Int) (l : Nat) {S : Type} (J : S → InvT) (Y : (List Int) → S → Option (S × Bool)) (hY : YieldOK Tryd.prog l (fun x => .fl .shr 1 (List.map (Value.int .u8) x)) Y J) (c0 : (List Int)) (st r : S) (h : Sh.dots_lines_1 Y c0 st = some r) : FnI Tryd.prog (GL mx) 51 l [.box 29 [.fl .shr 1 (List.map (Value.int .u8) c0)]] (J st) (J r) := by
  unfold Sh.dots_lines_1 at h
  refine fn_okI func51 rfl (zl rfl) rfl fun g0 hn hio => ?_
  refine ht_loopS h (fun ((s17, s18) : (List Int) × S) => [(0, .v (.func (.yield l) #[] #[])), (1, .box 29 [.fl .shr 1 (List.map (Value.int .u8) s17)]), (23, .glob (GL mx)), (24, .inv (J s18))]) (fun (() : Unit) => []) ?_ ?_
  ·rintro ⟨⟩ h
   cases h
  ·rintro u25 hl26 hr27 ⟨s17, s18⟩ rr30 h ho28
   refine ht_block ?_
   refine ht_seq ?_
   obtain ⟨v1, hv1, h⟩ := bind_some h
   refine zg hn (_::_::_::_::(7,.fl .shr 1 (List.map (Value.int .u8) s17))::(8,.fl (.own 5) 1 (List.map (Value.int .u8) [13,10]))::(9,.fl .ro 1 (List.map (Value.int .u8) [13,10]))::(10,.tup [.fl .shr 1 (List.map (Value.int .u8) v1.1),.fl .shr 1 (List.map (Value.int .u8) v1.2.1),vb v1.2.2])::(6,.tup [.fl .shr 1 (List.map (Value.int .u8) v1.1),.fl .shr 1 (List.map (Value.int .u8) v1.2.1),vb v1.2.2])::(11,.fl .shr 1 (List.map (Value.int .u8) v1.1))::(12,.fl .shr 1 (List.map (Value.int .u8) v1.2.1))::(13,vb v1.2.2)::(3,.fl .shr 1 (List.map (Value.int .u8) v1.1))::(4,.fl .shr 1 (List.map (Value.int .u8) v1.2.1))::(5,vb v1.2.2)::[]) [0,1,2,3] [0,1,2,3,12,13,14] [zq [1] 4 7,zq [] 5 8,⟨[],[5],[6],[(.slot 9)]⟩,zq [4,6,2] 7 10,⟨[],[7],[8],[(.slot 6)]⟩,zq [8] 9 11,zq [8] 10 12,zq [8] 11 13,zq [9] 12 3,zq [10] 13 4,zq [11] 14 5] [(_,_),(_,_),(_,_),(_,_),(_,_),(_,_),(_,_)] rfl ⟨zp rfl (oL underlying29 rfl),zp rfl (op_buildSlice _ _ 1 (.int .u8 0) (List.map (Value.int .u8) [13, 10]) [(0, .int .u8 13), (1, .int .u8 10)] underlying29 sz5 zr5 (fun _ V w o a hv hes => by simp only [List.map_toArray, List.map_cons, List.map_nil]; try rfl) (litfill (by simp [Instr.fill, Value.cells]; rfl) (by simp [List.range, List.range.loop] <;> rfl)) (by simp [Value.oneCell']) rfl (by decide) (by decide) (by decide)),zp rfl (op_conv_mark _ _ _ underlying29 underlying5 (by intro h; cases h)),zp rfl (op_callSG _ _ 23 52 _ _ rfl call52 rfl rfl rfl (fun _ h => h) (ok_bytes_Cut_sh mx s17 [13, 10] _ hv1) rfl),zp rfl (op_move_take _ _ _ _ rfl),zp rfl (oE rfl),zp rfl (oE rfl),zp rfl (oE rfl),z2 rfl,z2 rfl,z2 rfl,zz⟩ ?_
   refine pt_then (ht_seq ?_)
   refine ht_seq ?_
   refine ht_joinS h (fun ((s31, s32) : S × Bool) => [(0, .v (.func (.yield l) #[] #[])), (1, .box 29 [.fl .shr 1 (List.map (Value.int .u8) s17)]), (23, .glob (GL mx)), (24, .inv (J s31)), (4, .fl .shr 1 (List.map (Value.int .u8) v1.2.1)), (21, .v (.bool s32))]) ?_ ?_
   ·rintro ⟨s31, s32⟩ h
    refine pt_then ?_
    refine ht_cond _ rfl (fun hb36 => ?_) (fun hb36 => ?_)
    ·have h := cond_t hb36 h
     refine ht_ret ?_
     refine pt_pick [3] (by kernel_rfl) (es' := [(24, .inv (J s31))]) rfl ?_
     refine pt_r_then ?_
     refine pt_r_in ?_
     refine pt_r_then ?_
     refine pt_r_in ?_
     have h := hr27 _ (ho28 _ (Option.some.inj h).symm).symm
     obtain rfl := Option.some.inj h
     exact pt_retI hio rfl rfl rfl
    ·have h := cond_f hb36 h
     refine ht_skip ?_
     refine pt_then ?_
     refine zg hn [_,_,_,_,_,_,(22,.fl .shr 1 (List.map (Value.int .u8) v1.2.1)),(1,.box 29 [.fl .shr 1 (List.map (Value.int .u8) v1.2.1)])] [0,1,2,3,4,5] [0,7,2,3] [zq [4] 6 22,⟨[6],[1],[7],[.cell 1 0]⟩] [(_,_),(_,_),(_,_),(_,_)] rfl ⟨z1 rfl,zp rfl (oS sz29 rfl),zz⟩ ?_
     refine pt_inb ?_
     exact pt_next _ (Option.some.inj h).symm rfl
   ·intro u33 h hl34 hr35
    refine cond_some h (fun hg1_2 h => ?_) (fun hg1_2 h => ?_)
    ·refine zg hn (_::_::_::_::_::_::_::(14,vb v1.2.2)::(15,vb (!v1.2.2))::(16,vb true)::(17,.v undef)::(18,.v undef)::(19,.v undef)::(20,.v undef)::(21,vb true)::[]) [0,1,2,3,4,5,6] [0,1,2,3,5,14] [zq [6] 7 14,zq [7] 8 15,zq [8] 9 16,zq [9] 10 17,zq [9] 11 18,zq [9] 12 19,zq [9] 13 20,zq [9] 14 21] [(_,_),(_,_),(_,_),(_,_),(_,_),(_,_)] rfl ⟨z1 rfl,zp rfl (op_un _ _ _ _ rfl rfl),z8 hg1_2 rfl,zf rfl,zf rfl,zf rfl,zf rfl,z3 true rfl,zz⟩ ?_
     exact hl34 _ (Option.some.inj h).symm
    ·obtain ⟨v2, hv2, h⟩ := bind_some h
     refine zg hn (_::_::_::_::_::_::_::(14,vb v1.2.2)::(15,vb (!v1.2.2))::(16,vb false)::(17,.v (.func (.yield l) #[] #[]))::(18,.fl .shr 1 (List.map (Value.int .u8) v1.1))::(19,vb v2.2)::(24,.inv (J v2.1))::(20,vb (!v2.2))::(21,vb (!v2.2))::[]) [0,1,2,3,4,5,6] [0,1,2,13,5,15] [zq [6] 7 14,zq [7] 8 15,zq [8] 9 16,zq [9,0] 10 17,zq [9,4] 11 18,⟨[9,11,10],[3],[13,12],[(.slot 19)]⟩,zq [9,12] 14 20,zq [9,14] 15 21] [(_,_),(_,_),(_,_),(_,_),(_,_),(_,_)] rfl ⟨z1 rfl,zp rfl (op_un _ _ _ _ rfl rfl),z8 hg1_2 rfl,zr' rfl (oM rfl),zr' rfl (oM rfl),zr' rfl (op_yield _ _ 24 l v1.1 s18 v2 hY hv2 rfl rfl rfl),zr' rfl (op_un _ _ _ _ rfl rfl),z3 false rfl,zz⟩ ?_
     exact hl34 _ (Option.some.inj h).symm
theorem ok_bytes_IndexAny (mx : Int) (s : List Int) (c : ByteArray) (r : Int) (h : Sh.bytes_IndexAny s c = some r) : FnG Tryd.prog (GL mx) 53 [.fl .shr 1 (List.map (Value.int .u8) s), .v (.string c)] (.v (.int .i64 r)) :=
  lib_bytes_IndexAny (gl_mem0 mx) (gl_mem1 mx) (gl_mem2 mx) (fun s b off c w hs hnc hb hm hmb k1 k2 HG hp => Tryd.idx_crlf s b off c w mx hs hnc hb hm hmb (tabs_lists utf8_first utf8_accept (by kernel_rfl) (by kernel_rfl) k1 k2) HG hp) Tryd.idx_none s c r h
theorem ok_bytes_ContainsAny (mx : Int) (b : (List Int)) (chars : ByteArray) (r : Bool) (h : Sh.bytes_ContainsAny b chars = some r) : FnG Tryd.prog (GL mx) 46 [.fl .shr 1 (List.map (Value.int .u8) b), .v (.string chars)] (.v (.bool r)) := by
  unfold Sh.bytes_ContainsAny at h
  refine fn_okG func46 rfl (zl rfl) rfl rfl fun g0 hn hio => ?_
  refine zgg hn [_,_,_,(4,vb false)] [0,1,2] [0,1,2] [zq [] 3 4] [(_,_),(_,_),(_,_)] rfl ⟨z2 rfl,zz⟩ ?_
  refine ht_seq ?_
  obtain ⟨v1, hv1, h⟩ := bind_some h
  refine zg hn [_,_,_,(5,.fl .shr 1 (List.map (Value.int .u8) b)),(6,vs chars),(7,vi v1),(8,vb (decide (0 ≤ v1))),(4,vb (decide (0 ≤ v1)))] [0,1,2] [2,7] [zq [0] 3 5,zq [1] 4 6,zq [3,4,2] 5 7,zq [5] 6 8,zq [6] 7 4] [(_,_),(_,_)] rfl ⟨z1 rfl,z1 rfl,zp rfl (op_callG _ _ 9 53 _ _ rfl call53 rfl rfl (fun _ h => h) (ok_bytes_IndexAny mx b chars _ hv1) rfl rfl),z4 rfl rfl,z2 rfl,zz⟩ ?_
  refine pt_then (ht_ret ?_)
  refine pt_pick [1] (by kernel_rfl) (es' := [(_,_)]) rfl ?_
  obtain rfl := Option.some.inj h
  exact pt_ret hio rfl (.tmp _ _ .nil) rfl rfl
theorem ok_dots_Check (mx : Int) (b : (List Int)) (r : Int) (h : Sh.dots_Check b = some r) : FnG Tryd.prog (GL mx) 33 [.fl .shr 1 (List.map (Value.int .u8) b)] (.v (.int .i64 r)) := by
  unfold Sh.dots_Check at h
  refine fn_okG func33 rfl (zl rfl) rfl rfl fun g0 hn hio => ?_
  refine zgg hn [_,_,(2,.box 37 [vi 0])] [0,1] [0,1,2] [zq [] 2 2] [(_,_),(_,_),(_,_)] rfl ⟨zp rfl (op_alloc _ _ zr37),zz⟩ ?_
  refine zgg hn [_,_,_,(3,.box 3 [vi 0]),(3,.box 3 [vi 0])] [0,1,2] [0,1,2,4] [zq [] 3 3,⟨[],[3],[4],[.cell 3 0]⟩] [(_,_),(_,_),(_,_),(_,_)] rfl ⟨zp rfl (op_alloc _ _ zr3),zp rfl (oS sz3 rfl),zz⟩ ?_
  refine ht_seq ?_
  refine ht_seq ?_
  obtain ⟨v1, hv1, h⟩ := bind_some h
  refine zg hn [_,_,_,_,(5,.fl .shr 1 (List.map (Value.int .u8) b)),(6,.cloB 51 [.box 29 [.fl .shr 1 (List.map (Value.int .u8) v1)]])] [0,1,2,3] [0,1,2,3,5] [zq [0] 4 5,zq [4] 5 6] [(_,_),(_,_),(_,_),(_,_),(_,_)] rfl ⟨z1 rfl,zp rfl (op_callS _ _ 45 _ _ rfl call45 rfl rfl (ok_dots_lines b _ hv1) rfl),zz⟩ ?_
  refine pt_then ?_
  refine ht_block ?_
  refine ht_pick [4, 0, 1, 2, 3] (by kernel_rfl) (es' := [(6, .cloB 51 [.box 29 [.fl .shr 1 (List.map (Value.int .u8) v1)]]), (0, .fl .shr 1 (List.map (Value.int .u8) b)), (19, .glob (GL mx)), (2, .box 37 [.v (.int .i64 0)]), (3, .box 3 [.v (.int .i64 0)])]) rfl ?_
  refine ht_rangeF h 51 6 7 20 _ [0, 19, 2, 3] call51 (fun (s8 : Int) => [(0, .fl .shr 1 (List.map (Value.int .u8) b)), (19, .glob (GL mx)), (2, .box 37 [.v (.int .i64 0)]), (3, .box 3 [.v (.int .i64 s8)])]) (fun (s10 : Int) => [(0, .fl .shr 1 (List.map (Value.int .u8) b)), (19, .glob (GL mx)), (2, .box 37 [.v (.int .i64 5)]), (3, .box 3 [.v (.int .i64 s10)])]) (fun l J Y hY t t' h => ok_dots_lines_1 mx l J Y hY v1 t t' h) hn rfl (fun _ => rfl) (fun _ => rfl) (fun _ => rfl) rfl rfl (fun _ => ⟨rfl, rfl⟩) rfl (glIn_look 19 rfl) ?_ ?_ ?_
  ·rintro kk g0 hn hio x s8 u h
   refine ht_es (es' := [(7, .fl .shr 1 (List.map (Value.int .u8) x)), (0, .fl .shr 1 (List.map (Value.int .u8) b)), (19, .glob (GL mx)), (2, .box 37 [.v (.int .i64 0)]), (3, .box 3 [.v (.int .i64 s8)]), (0, .v (kk.tm.getD 0 undef)), (19, .v (kk.tm.getD 19 undef)), (2, .v (kk.tm.getD 2 undef)), (3, .v (kk.tm.getD 3 undef)), (20, .inv kk.ready)]) rfl ?_
   refine zg hn [_,_,_,_,_,_,_,_,_,_,(4,.fl .shr 1 (List.map (Value.int .u8) x))] [0,1,2,3,4,5,6,7,8,9] [1,2,3,4,5,6,7,8,9,10] [zq [0] 10 4] [(_,_),(_,_),(_,_),(_,_),(_,_),(_,_),(_,_),(_,_),(_,_),(_,_)] rfl ⟨z2 rfl,zz⟩ ?_
   refine pt_pick [0, 1, 2, 3, 4, 5, 6, 7, 9, 8] (by kernel_rfl) (es' := [(0, .fl .shr 1 (List.map (Value.int .u8) b)), (19, .glob (GL mx)), (2, .box 37 [.v (.int .i64 0)]), (3, .box 3 [.v (.int .i64 s8)]), (0, .v (kk.tm.getD 0 undef)), (19, .v (kk.tm.getD 19 undef)), (2, .v (kk.tm.getD 2 undef)), (3, .v (kk.tm.getD 3 undef)), (4, .fl .shr 1 (List.map (Value.int .u8) x)), (20, .inv kk.ready)]) rfl ?_
   refine pt_begin (es := [(0, .fl .shr 1 (List.map (Value.int .u8) b)), (19, .glob (GL mx)), (2, .box 37 [.v (.int .i64 0)]), (3, .box 3 [.v (.int .i64 s8)]), (0, .v (kk.tm.getD 0 undef)), (19, .v (kk.tm.getD 19 undef)), (2, .v (kk.tm.getD 2 undef)), (3, .v (kk.tm.getD 3 undef)), (4, .fl .shr 1 (List.map (Value.int .u8) x))]) 20 rfl ?_
   refine ht_block ?_
   refine ht_seq ?_
   refine ht_seq ?_
   obtain ⟨v2, hv2, h⟩ := bind_some h
   refine zg hn [_,_,_,_,_,_,_,_,_,_,(8,.fl .shr 1 (List.map (Value.int .u8) x)),(9,vb v2)] [0,1,2,3,4,5,6,7,8,9] [0,1,2,3,4,5,6,7,8,9,11] [zq [8] 10 8,zq [10,1] 11 9] [(_,_),(_,_),(_,_),(_,_),(_,_),(_,_),(_,_),(_,_),(_,_),(_,_),(_,_)] rfl ⟨z1 rfl,zp rfl (op_callG _ _ 19 46 _ _ rfl call46 rfl rfl (fun _ h => h) (ok_bytes_ContainsAny mx x (⟨#[13, 10]⟩ : ByteArray) _ hv2) rfl rfl),zz⟩ ?_
   refine pt_then ?_
   refine ht_cond _ rfl (fun hb11 => ?_) (fun hb11 => ?_)
   ·have h := cond_t hb11 h
    refine zgg hn [_,_,_,_,_,_,_,_,_,_,_,(2,.box 37 [vi 5])] [0,1,2,3,4,5,6,7,8,9,10] [0,1,11,3,4,5,6,7,9] [⟨[],[2],[11],[.cell 2 0]⟩] [(_,_),(_,_),(_,_),(_,_),(_,_),(_,_),(_,_),(_,_),(_,_)] rfl ⟨zp rfl (oS sz37 rfl),zz⟩ ?_
    refine ht_ret ?_
    refine pt_r_then ?_
    refine pt_r_in ?_
    obtain rfl := Option.some.inj h
    exact pt_rret 20 [0, 19, 2, 3] _ rfl rfl (by kernel_rfl)
   ·have h := cond_f hb11 h
    refine ht_skip ?_
    refine pt_then ?_
    obtain ⟨v4, hv4, h⟩ := bind_some h
    obtain ⟨v5, hv5, h⟩ := bind_some h
    refine zg hn (_::_::_::_::_::_::_::_::_::_::_::(10,vi s8)::(11,.fl .shr 1 (List.map (Value.int .u8) x))::(12,vi (x.length : Int))::(13,vi v4)::(14,vi v5)::(3,.box 3 [vi v5])::[]) [0,1,2,3,4,5,6,7,8,9,10] [0,1,2,16,4,5,6,7,9] [zq [3] 11 10,zq [8] 12 11,zq [12] 13 12,zq [13] 14 13,zq [11,14] 15 14,⟨[15],[3],[16],[.cell 3 0]⟩] [(_,_),(_,_),(_,_),(_,_),(_,_),(_,_),(_,_),(_,_),(_,_)] rfl ⟨zp rfl (oL underlying3 rfl),z1 rfl,zp rfl (op_len_fl _ _ _ underlying29 rfl (by decide) (map_len _)),zp rfl (oB rfl (ibind (f := Value.int .i64) (Option.some.inj hv4))),zp rfl (oB rfl (ibind (f := Value.int .i64) (Option.some.inj hv5))),zp rfl (oS sz3 rfl),zz⟩ ?_
    refine pt_inb ?_
    obtain rfl := Option.some.inj h
    exact pt_rnext 20 [0, 19, 2, 3] _ rfl rfl (by kernel_rfl)
  ·rintro D s8 h
   refine pt_inb ?_
   refine pt_then (ht_seq ?_)
   refine zgg hn [_,_,_,_,(15,vi s8),(16,.fl .shr 1 (List.map (Value.int .u8) b)),(17,vi (b.length : Int)),(18,vb (s8 != (b.length : Int)))] [0,1,2,3] [1,2,7] [zq [3] 4 15,zq [0] 5 16,zq [5] 6 17,zq [4,6] 7 18] [(_,_),(_,_),(_,_)] rfl ⟨zp rfl (oL underlying3 rfl),z1 rfl,zp rfl (op_len_fl _ _ _ underlying29 rfl (by decide) (map_len _)),z4 rfl rfl,zz⟩ ?_
   refine ht_cond _ rfl (fun hb12 => ?_) (fun hb12 => ?_)
   ·have h := cond_t hb12 h
    refine zgg hn [_,_,_,(2,.box 37 [vi 5])] [0,1,2] [0,3] [⟨[],[1],[3],[.cell 2 0]⟩] [(_,_),(_,_)] rfl ⟨zp rfl (oS sz37 rfl),zz⟩ ?_
    refine ht_ret ?_
    refine pt_pick [1] (by kernel_rfl) (es' := [(_,_)]) rfl ?_
    refine pt_r_then ?_
    obtain rfl := Option.some.inj h
    exact pt_ret hio rfl (.cell1 _ _ _ _ underlying37 rfl .nil) rfl rfl
   ·have h := cond_f hb12 h
    refine ht_skip ?_
    refine pt_then ?_
    refine zgg hn [_,_,_,(2,.box 37 [vi 0])] [0,1,2] [0,3] [⟨[],[1],[3],[.cell 2 0]⟩] [(_,_),(_,_)] rfl ⟨zp rfl (oS sz37 rfl),zz⟩ ?_
    refine ht_ret ?_
    refine pt_pick [1] (by kernel_rfl) (es' := [(_,_)]) rfl ?_
    obtain rfl := Option.some.inj h
    exact pt_ret hio rfl (.cell1 _ _ _ _ underlying37 rfl .nil) rfl rfl
  ·rintro D s10 h
   refine pt_pick [2] (by kernel_rfl) (es' := [(_,_)]) rfl ?_
   refine pt_r_in ?_
   refine pt_r_then ?_
   obtain rfl := Option.some.inj h
   exact pt_ret hio rfl (.cell1 _ _ _ _ underlying37 rfl .nil) rfl rfl
theorem ok_spool_validMail (mx : Int) (m : T_Mail) (r : Bool) (h : Sh.spool_validMail m = some r) : FnG Tryd.prog (GL mx) 19 [.agg [.v (.bool m.From.Null), .v (.string m.From.Local), .v (.string m.From.Domain), .fl .shr 3 (List.flatten (List.map T_Path.enc m.To)), .fl .shr 1 (List.map (Value.int .u8) m.Body), .v (.bool m.Quiet), .v (.string m.Helo), .v (.int .i64 m.At)]] (.v (.bool r)) := by
  unfold Sh.spool_validMail at h
  refine fn_okG func19 rfl (zl rfl) rfl rfl fun g0 hn hio => ?_
  refine zgg hn [_,_,(1,.box 48 [vb m.From.Null,vs m.From.Local,vs m.From.Domain,.fl .shr 3 (List.flatten (List.map T_Path.enc m.To)),.fl .shr 1 (List.map (Value.int .u8) m.Body),vb m.Quiet,vs m.Helo,vi m.At]),(2,vb false)] [0,1] [1,2] [zq [0] 2 1,zq [] 3 2] [(_,_),(_,_)] rfl ⟨zp rfl (op_box _ _ _ _ rfl rfl rfl),z2 rfl,zz⟩ ?_
  refine ht_seq ?_
  refine ht_joinS h (fun (s3 : Bool) => [(21, .glob (GL mx)), (2, .v (.bool s3))]) ?_ ?_
  ·rintro s3 h
   refine pt_then (ht_ret ?_)
   refine pt_pick [1] (by kernel_rfl) (es' := [(_,_)]) rfl ?_
   obtain rfl := Option.some.inj h
   exact pt_ret hio rfl (.tmp _ _ .nil) rfl rfl
  ·intro u4 h hl5 hr6
   obtain ⟨v1, hv1, h⟩ := bind_some h
   refine cond_some h (fun hg1_2 h => ?_) (fun hg1_2 h => ?_)
   ·obtain ⟨v2, hv2, h⟩ := bind_some h
    refine cond_some h (fun hg1_8 h => ?_) (fun hg1_8 h => ?_)
    ·refine cond_some h (fun hg1_13 h => ?_) (fun hg1_13 h => ?_)
     ·refine zg hn (_::_::(3,.agg [vb m.From.Null,vs m.From.Local,vs m.From.Domain,.fl .shr 3 (List.flatten (List.map T_Path.enc m.To)),.fl .shr 1 (List.map (Value.int .u8) m.Body),vb m.Quiet,vs m.Helo,vi m.At])::(4,vb v1)::(5,vb true)::(6,.ptr 1 4)::(7,.fl .shr 1 (List.map (Value.int .u8) m.Body))::(8,vi v2)::(9,vb (v2 == 0))::(10,vb (v2 == 0))::(11,vb true)::(12,.ptr 1 7)::(13,vi m.At)::(14,vb (decide (0 ≤ m.At)))::(15,vb (decide (0 ≤ m.At)))::(16,vb true)::(17,.ptr 1 7)::(18,vi m.At)::(19,vb (decide (m.At ≤ 1099511627776)))::(20,vb (decide (m.At ≤ 1099511627776)))::(2,vb (decide (m.At ≤ 1099511627776)))::[]) [0,1] [0,20] (zq [1] 2 3::zq [2,0] 3 4::zq [3] 4 5::zq [4,1] 5 6::zq [4,5,1] 6 7::zq [4,6,0] 7 8::zq [4,7] 8 9::zq [4,8] 9 10::zq [9] 10 11::zq [10,1] 11 12::zq [10,11,1] 12 13::zq [10,12] 13 14::zq [10,13] 14 15::zq [14] 15 16::zq [15,1] 16 17::zq [15,16,1] 17 18::zq [15,17] 18 19::zq [15,18] 19 20::zq [19] 20 2::[]) [(_,_),(_,_)] rfl ⟨zp rfl (op_loadA _ _ _ _ _ _ _ underlying48 rfl sz48 rfl rfl (zl rfl) rfl rfl),zp rfl (op_callG _ _ 21 32 _ _ rfl call32 rfl rfl (fun _ h => h) (ok_envelope_Valid mx ((T_Mail.mk (T_Path.mk m.From.Null m.From.Local m.From.Domain) m.To m.Body m.Quiet m.Helo m.At)) _ hv1) rfl rfl),z8 hg1_2 rfl,zr' rfl (oF underlying48 rfl sz29),zr' rfl (oL underlying29 rfl),zr' rfl (op_callG _ _ 21 33 _ _ rfl call33 rfl rfl (fun _ h => h) (ok_dots_Check mx m.Body _ hv2) rfl rfl),zr' rfl (oB rfl rfl),z3 true rfl,z8 hg1_8 rfl,zr' rfl (oF underlying48 rfl sz3),zr' rfl (oL underlying3 rfl),zr' rfl (oB rfl rfl),z3 true rfl,z8 hg1_13 rfl,zr' rfl (oF underlying48 rfl sz3),zr' rfl (oL underlying3 rfl),zr' rfl (oB rfl rfl),z3 true rfl,z2 rfl,zz⟩ ?_
      exact hl5 _ (Option.some.inj h).symm
     ·refine zg hn (_::_::(3,.agg [vb m.From.Null,vs m.From.Local,vs m.From.Domain,.fl .shr 3 (List.flatten (List.map T_Path.enc m.To)),.fl .shr 1 (List.map (Value.int .u8) m.Body),vb m.Quiet,vs m.Helo,vi m.At])::(4,vb v1)::(5,vb true)::(6,.ptr 1 4)::(7,.fl .shr 1 (List.map (Value.int .u8) m.Body))::(8,vi v2)::(9,vb (v2 == 0))::(10,vb (v2 == 0))::(11,vb true)::(12,.ptr 1 7)::(13,vi m.At)::(14,vb (decide (0 ≤ m.At)))::(15,vb (decide (0 ≤ m.At)))::(16,vb false)::(17,.v undef)::(18,.v undef)::(19,.v undef)::(20,vb false)::(2,vb false)::[]) [0,1] [0,20] (zq [1] 2 3::zq [2,0] 3 4::zq [3] 4 5::zq [4,1] 5 6::zq [4,5,1] 6 7::zq [4,6,0] 7 8::zq [4,7] 8 9::zq [4,8] 9 10::zq [9] 10 11::zq [10,1] 11 12::zq [10,11,1] 12 13::zq [10,12] 13 14::zq [10,13] 14 15::zq [14] 15 16::zq [15] 16 17::zq [15] 17 18::zq [15] 18 19::zq [15] 19 20::zq [19] 20 2::[]) [(_,_),(_,_)] rfl ⟨zp rfl (op_loadA _ _ _ _ _ _ _ underlying48 rfl sz48 rfl rfl (zl rfl) rfl rfl),zp rfl (op_callG _ _ 21 32 _ _ rfl call32 rfl rfl (fun _ h => h) (ok_envelope_Valid mx ((T_Mail.mk (T_Path.mk m.From.Null m.From.Local m.From.Domain) m.To m.Body m.Quiet m.Helo m.At)) _ hv1) rfl rfl),z8 hg1_2 rfl,zr' rfl (oF underlying48 rfl sz29),zr' rfl (oL underlying29 rfl),zr' rfl (op_callG _ _ 21 33 _ _ rfl call33 rfl rfl (fun _ h => h) (ok_dots_Check mx m.Body _ hv2) rfl rfl),zr' rfl (oB rfl rfl),z3 true rfl,z8 hg1_8 rfl,zr' rfl (oF underlying48 rfl sz3),zr' rfl (oL underlying3 rfl),zr' rfl (oB rfl rfl),z3 true rfl,z8 hg1_13 rfl,zt rfl,zt rfl,zt rfl,z3 false rfl,z2 rfl,zz⟩ ?_
      exact hl5 _ (Option.some.inj h).symm
    ·refine zg hn (_::_::(3,.agg [vb m.From.Null,vs m.From.Local,vs m.From.Domain,.fl .shr 3 (List.flatten (List.map T_Path.enc m.To)),.fl .shr 1 (List.map (Value.int .u8) m.Body),vb m.Quiet,vs m.Helo,vi m.At])::(4,vb v1)::(5,vb true)::(6,.ptr 1 4)::(7,.fl .shr 1 (List.map (Value.int .u8) m.Body))::(8,vi v2)::(9,vb (v2 == 0))::(10,vb (v2 == 0))::(11,vb false)::(12,.v undef)::(13,.v undef)::(14,.v undef)::(15,vb false)::(16,vb false)::(17,.v undef)::(18,.v undef)::(19,.v undef)::(20,vb false)::(2,vb false)::[]) [0,1] [0,20] (zq [1] 2 3::zq [2,0] 3 4::zq [3] 4 5::zq [4,1] 5 6::zq [4,5,1] 6 7::zq [4,6,0] 7 8::zq [4,7] 8 9::zq [4,8] 9 10::zq [9] 10 11::zq [10] 11 12::zq [10] 12 13::zq [10] 13 14::zq [10] 14 15::zq [14] 15 16::zq [15] 16 17::zq [15] 17 18::zq [15] 18 19::zq [15] 19 20::zq [19] 20 2::[]) [(_,_),(_,_)] rfl ⟨zp rfl (op_loadA _ _ _ _ _ _ _ underlying48 rfl sz48 rfl rfl (zl rfl) rfl rfl),zp rfl (op_callG _ _ 21 32 _ _ rfl call32 rfl rfl (fun _ h => h) (ok_envelope_Valid mx ((T_Mail.mk (T_Path.mk m.From.Null m.From.Local m.From.Domain) m.To m.Body m.Quiet m.Helo m.At)) _ hv1) rfl rfl),z8 hg1_2 rfl,zr' rfl (oF underlying48 rfl sz29),zr' rfl (oL underlying29 rfl),zr' rfl (op_callG _ _ 21 33 _ _ rfl call33 rfl rfl (fun _ h => h) (ok_dots_Check mx m.Body _ hv2) rfl rfl),zr' rfl (oB rfl rfl),z3 true rfl,z8 hg1_8 rfl,zt rfl,zt rfl,zt rfl,z3 false rfl,z1 rfl,zt rfl,zt rfl,zt rfl,z3 false rfl,z2 rfl,zz⟩ ?_
     exact hl5 _ (Option.some.inj h).symm
   ·refine zg hn (_::_::(3,.agg [vb m.From.Null,vs m.From.Local,vs m.From.Domain,.fl .shr 3 (List.flatten (List.map T_Path.enc m.To)),.fl .shr 1 (List.map (Value.int .u8) m.Body),vb m.Quiet,vs m.Helo,vi m.At])::(4,vb v1)::(5,vb false)::(6,.v undef)::(7,.v undef)::(8,.v undef)::(9,.v undef)::(10,vb false)::(11,vb false)::(12,.v undef)::(13,.v undef)::(14,.v undef)::(15,vb false)::(16,vb false)::(17,.v undef)::(18,.v undef)::(19,.v undef)::(20,vb false)::(2,vb false)::[]) [0,1] [0,20] (zq [1] 2 3::zq [2,0] 3 4::zq [3] 4 5::zq [4] 5 6::zq [4] 6 7::zq [4] 7 8::zq [4] 8 9::zq [4] 9 10::zq [9] 10 11::zq [10] 11 12::zq [10] 12 13::zq [10] 13 14::zq [10] 14 15::zq [14] 15 16::zq [15] 16 17::zq [15] 17 18::zq [15] 18 19::zq [15] 19 20::zq [19] 20 2::[]) [(_,_),(_,_)] rfl ⟨zp rfl (op_loadA _ _ _ _ _ _ _ underlying48 rfl sz48 rfl rfl (zl rfl) rfl rfl),zp rfl (op_callG _ _ 21 32 _ _ rfl call32 rfl rfl (fun _ h => h) (ok_envelope_Valid mx ((T_Mail.mk (T_Path.mk m.From.Null m.From.Local m.From.Domain) m.To m.Body m.Quiet m.Helo m.At)) _ hv1) rfl rfl),z8 hg1_2 rfl,zt rfl,zt rfl,zt rfl,zt rfl,z3 false rfl,z1 rfl,zt rfl,zt rfl,zt rfl,z3 false rfl,z1 rfl,zt rfl,zt rfl,zt rfl,z3 false rfl,z2 rfl,zz⟩ ?_
    exact hl5 _ (Option.some.inj h).symm
theorem ok_spool_find_1_cap (bx : Nat) (x : T_Item) (cap : Int) (r : Bool) (h : Sh.spool_find_1_cap x cap = some r) : FnG Tryd.prog [(bx, [.int .i64 cap])] 38 [.agg [.v (.int .i64 x.Id), .v (.bool x.Mail.From.Null), .v (.string x.Mail.From.Local), .v (.string x.Mail.From.Domain), .fl .shr 3 (List.flatten (List.map T_Path.enc x.Mail.To)), .fl .shr 1 (List.map (Value.int .u8) x.Mail.Body), .v (.bool x.Mail.Quiet), .v (.string x.Mail.Helo), .v (.int .i64 x.Mail.At), .v (.int .i64 x.State), .v (.int .i64 x.Pack)], .v (.pointer (some ⟨bx, 0, none⟩))] (.v (.bool r)) := by
  unfold Sh.spool_find_1_cap at h
  refine fn_okG func38 rfl (zl rfl) rfl rfl fun g0 hn hio => ?_
  refine zgg hn [_,_,_,(2,.box 71 [vi x.Id,vb x.Mail.From.Null,vs x.Mail.From.Local,vs x.Mail.From.Domain,.fl .shr 3 (List.flatten (List.map T_Path.enc x.Mail.To)),.fl .shr 1 (List.map (Value.int .u8) x.Mail.Body),vb x.Mail.Quiet,vs x.Mail.Helo,vi x.Mail.At,vi x.State,vi x.Pack]),(3,vb false)] [0,1,2] [1,2,3] [zq [0] 3 2,zq [] 4 3] [(_,_),(_,_),(_,_)] rfl ⟨zp rfl (op_box _ _ _ _ rfl rfl rfl),z2 rfl,zz⟩ ?_
  refine zgg hn [_,_,_,(4,.ptr 2 0),(5,vi x.Id),(6,vi cap),(7,vb (x.Id == cap)),(3,vb (x.Id == cap))] [0,1,2] [1,7] [zq [2] 3 4,zq [3,2] 4 5,zq [0,1] 5 6,zq [4,5] 6 7,zq [6] 7 3] [(_,_),(_,_)] rfl ⟨zp rfl (oF underlying71 rfl sz3),zp rfl (oL underlying3 rfl),zp rfl (op_load_glob _ _ 8 bx 0 _ _ underlying3 rfl rfl rfl (.head _) rfl),z4 rfl rfl,z2 rfl,zz⟩ ?_
  refine ht_ret ?_
  refine pt_pick [1] (by kernel_rfl) (es' := [(_,_)]) rfl ?_
  obtain rfl := Option.some.inj h
  exact pt_ret hio rfl (.tmp _ _ .nil) rfl rfl
theorem ok_slices_IndexFunc_api_Item_api_Item_of_spool_find_1 (bx : Nat) (s : (List T_Item)) (cap : Int) (r : Int) (h : Sh.slices_IndexFunc_api_Item_api_Item_of_spool_find_1 s cap = some r) : FnG Tryd.prog [(bx, [.int .i64 cap])] 37 [.fr .shr true 11 (List.flatten (List.map T_Item.ienc s)), .v (.func (.func 38) #[] #[.pointer (some ⟨bx, 0, none⟩)])] (.v (.int .i64 r)) := by
  unfold Sh.slices_IndexFunc_api_Item_api_Item_of_spool_find_1 at h
  refine fn_okG func37 rfl (zl rfl) rfl rfl fun g0 hn hio => ?_
  refine zgg hn [_,_,_,(4,vi 0)] [0,1,2] [0,1,2] [zq [] 3 4] [(_,_),(_,_),(_,_)] rfl ⟨z2 rfl,zz⟩ ?_
  refine ht_seq ?_
  refine zgg hn [_,_,_,(6,.fr .shr true 11 (List.flatten (List.map T_Item.ienc s))),(7,vi (s.length : Int)),(8,vi 0)] [0,1,2] [0,1,2,4,5] [zq [0] 3 6,zq [3] 4 7,zq [] 5 8] [(_,_),(_,_),(_,_),(_,_),(_,_)] rfl ⟨z1 rfl,zp rfl (op_len_fr _ _ _ underlying27 rfl (by decide) (gflat_len T_Item.ilen _)),z1 rfl,zz⟩ ?_
  refine ht_loopS h (fun (s10 : Int) => [(0, .fr .shr true 11 (List.flatten (List.map T_Item.ienc s))), (1, .v (.func (.func 38) #[] #[.pointer (some ⟨bx, 0, none⟩)])), (19, .glob [(bx, [.int .i64 cap])]), (7, .v (.int .i64 (s.length : Int))), (8, .v (.int .i64 s10))]) (fun (() : Unit) => [(19, .glob [(bx, [.int .i64 cap])])]) ?_ ?_
  ·rintro ⟨⟩ h
   refine pt_then ?_
   refine zgg hn [_,(4,vi (-1))] [0] [0,1] [zq [] 1 4] [(_,_),(_,_)] rfl ⟨z2 rfl,zz⟩ ?_
   refine ht_ret ?_
   refine pt_pick [1] (by kernel_rfl) (es' := [(_,_)]) rfl ?_
   obtain rfl := Option.some.inj h
   exact pt_ret hio rfl (.tmp _ _ .nil) rfl rfl
  ·rintro u13 hl14 hr15 s10 rr18 h ho16
   refine zgg hn [_,_,_,_,_,(9,vb (decide (s10 < (s.length : Int))))] [0,1,2,3,4] [0,1,2,3,4,5] [zq [4,3] 5 9] [(_,_),(_,_),(_,_),(_,_),(_,_),(_,_)] rfl ⟨z4 rfl rfl,zz⟩ ?_
   refine ht_seq ?_
   refine ht_cond _ rfl (fun hb19 => ?_) (fun hb19 => ?_)
   ·have h := cond_t hb19 h
    refine ht_skip ?_
    refine pt_then (ht_seq ?_)
    refine ht_block ?_
    refine zgg hn [_,_,_,_,_,_,(10,vi s10),(5,vi s10)] [0,1,2,3,4,5] [0,1,2,3,4,7] [zq [4] 6 10,zq [6] 7 5] [(_,_),(_,_),(_,_),(_,_),(_,_),(_,_)] rfl ⟨z1 rfl,z2 rfl,zz⟩ ?_
    refine ht_seq ?_
    obtain ⟨v2, hv2, h⟩ := bind_some h
    obtain ⟨v3, hv3, h⟩ := bind_some h
    obtain ⟨v4, hv4, h⟩ := bind_some h
    refine zg hn [_,_,_,_,_,_,(11,.v (.func (.func 38) #[] #[.pointer (some ⟨bx,0,none⟩)])),(12,.fr .shr true 11 (List.flatten (List.map T_Item.ienc s))),(13,vi s10),(14,.eref (.slot 12) (v2 * 11)),(15,.agg [vi v3.Id,vb v3.Mail.From.Null,vs v3.Mail.From.Local,vs v3.Mail.From.Domain,.fl .shr 3 (List.flatten (List.map T_Path.enc v3.Mail.To)),.fl .shr 1 (List.map (Value.int .u8) v3.Mail.Body),vb v3.Mail.Quiet,vs v3.Mail.Helo,vi v3.Mail.At,vi v3.State,vi v3.Pack]),(16,vb v4)] [0,1,2,3,4,5] [0,1,2,3,4,5,11] [zq [1] 6 11,zq [0] 7 12,zq [5] 8 13,zq [7,8] 9 14,zq [9,7] 10 15,zq [10,6,2] 11 16] [(_,_),(_,_),(_,_),(_,_),(_,_),(_,_),(_,_)] rfl ⟨z1 rfl,z1 rfl,z1 rfl,zp rfl (op_ix_fr _ _ _ _ _ _ _ _ underlying27 sz71 (by decide) rfl rfl rfl (ix_ok hv2).1 (gflat_lt T_Item.ilen (ix_ok hv2).2) rfl),zp rfl (op_loadA_fr _ _ _ _ _ _ _ _ underlying71 rfl sz71 rfl rfl (gflat_get T_Item.ilen hv3) (.cons (.v _) (.cons (.v _) (.cons (.v _) (.cons (.v _) (.cons (.fl _ _ rfl) (.cons (.fl _ _ rfl) (.cons (.v _) (.cons (.v _) (.cons (.v _) (.cons (.v _) (.cons (.v _) (.nil)))))))))))) rfl (by decide)),zp rfl (op_callV _ _ 19 38 (.pointer (some ⟨bx, 0, none⟩)) _ _ rfl call38 rfl rfl (fun _ h => h) (ok_spool_find_1_cap bx ((T_Item.mk v3.Id ((T_Mail.mk (T_Path.mk v3.Mail.From.Null v3.Mail.From.Local v3.Mail.From.Domain) v3.Mail.To v3.Mail.Body v3.Mail.Quiet v3.Mail.Helo v3.Mail.At)) v3.State v3.Pack)) cap _ hv4) rfl rfl),zz⟩ ?_
    refine pt_then ?_
    refine ht_cond _ rfl (fun hb20 => ?_) (fun hb20 => ?_)
    ·have h := cond_t hb20 h
     refine zgg hn [_,_,_,_,_,_,_,(17,vi s10),(4,vi s10)] [0,1,2,3,4,5,6] [2,8] [zq [5] 7 17,zq [7] 8 4] [(_,_),(_,_)] rfl ⟨z1 rfl,z2 rfl,zz⟩ ?_
     refine ht_ret ?_
     refine pt_pick [1] (by kernel_rfl) (es' := [(_,_)]) rfl ?_
     refine pt_r_in ?_
     refine pt_r_then ?_
     refine pt_r_then ?_
     refine pt_r_in ?_
     refine pt_r_then ?_
     have h := hr15 _ (ho16 _ (Option.some.inj h).symm).symm
     obtain rfl := Option.some.inj h
     exact pt_ret hio rfl (.tmp _ _ .nil) rfl rfl
    ·have h := cond_f hb20 h
     refine ht_skip ?_
     refine pt_inb ?_
     refine pt_then ?_
     obtain ⟨v6, hv6, h⟩ := bind_some h
     refine zg hn [_,_,_,_,_,_,_,(18,vi v6),(8,vi v6)] [0,1,2,3,4,5,6] [0,1,2,3,8] [zq [4] 7 18,⟨[7],[4],[8],[(.slot 8)]⟩] [(_,_),(_,_),(_,_),(_,_),(_,_)] rfl ⟨zp rfl (oB rfl (ibind (f := Value.int .i64) (Option.some.inj hv6))),zp rfl (LOp.drop [_] (oM rfl)),zz⟩ ?_
     exact pt_next _ (Option.some.inj h).symm rfl
   ·have h := cond_f hb19 h
    refine ht_exit ?_
    refine pt_x_then ?_
    refine pt_x_then ?_
    refine pt_x_in ?_
    refine pt_pick [2] (by kernel_rfl) (es' := [(_,_)]) rfl ?_
    exact hl14 _ (ho16 _ (Option.some.inj h).symm).symm
end Go.Proofs.YthhebpiaknfnhaaDoor
