/-
  The model's runs are what is told in Lean.
-/
import Derived.Test.YtofbofdggabfiaaDoorProg
import Derived.KernelRfl
import Derived.Test.YtofbofdggabfiaaDoorShelf
import Derived.Test.YtofbofdggabfiaaDoorB3
import Derived.Test.YtofbofdggabfiaaDoorSh
set_option linter.unusedVariables false
set_option linter.unusedSimpArgs false
set_option maxHeartbeats 1000000
namespace Go.Proofs.YtofbofdggabfiaaDoor
open Go.Abs Go.Abs.Sh Tryd
open List (map flatten)
open Value (int)
def GL (mx : Int) : List (Nat × List Value) := [(0, [.int .i64 mx]), (1, (List.map (Value.int .u8) utf8_first)), (2, (List.map (Value.int .u8) utf8_accept))]
theorem gl_mem0 (mx : Int) : (0, ([.int .i64 mx] : List Value)) ∈ GL mx := .head _
theorem gl_mem1 (mx : Int) : (1, ((List.map (Value.int .u8) utf8_first) : List Value)) ∈ GL mx := .tail _ (.head _)
theorem sz39 : (Tryd.prog.info? 39).map (·.size) = some 15 := by kernel_rfl
theorem sz25 : (Tryd.prog.info? 25).map (·.size) = some 1 := by kernel_rfl
theorem sz37 : (Tryd.prog.info? 37).map (·.size) = some 1 := by kernel_rfl
theorem sz36 : (Tryd.prog.info? 36).map (·.size) = some 8 := by kernel_rfl
theorem zr36 : (Tryd.prog.info? 36).bind (·.zero) = some (.agg #[.bool false, .string ByteArray.empty, .string ByteArray.empty, .slice none 0 0, .slice none 0 0, .bool false, .string ByteArray.empty, .int .i64 0]) := by kernel_rfl
theorem sz9 : (Tryd.prog.info? 9).map (·.size) = some 1 := by kernel_rfl
theorem sz24 : (Tryd.prog.info? 24).map (·.size) = some 3 := by kernel_rfl
theorem sz34 : (Tryd.prog.info? 34).map (·.size) = some 1 := by kernel_rfl
theorem zr39 : (Tryd.prog.info? 39).bind (·.zero) = some (.agg #[.int .i64 0, .bool false, .string ByteArray.empty, .string ByteArray.empty, .slice none 0 0, .slice none 0 0, .bool false, .string ByteArray.empty, .int .i64 0, .int .i64 0, .slice none 0 0, .int .i64 0, .int .i64 0, .int .i64 0, .slice none 0 0]) := by kernel_rfl
theorem zr43 : (Tryd.prog.info? 43).bind (·.zero) = some (.agg #[.slice none 0 0, .int .i64 0, .slice none 0 0, .slice none 0 0, .int .i64 0, .slice none 0 0]) := by kernel_rfl
theorem fs43 : ∀ fs, Tryd.prog.underlying 43 = some (.struct fs) → fs.toList.map (fun f => (Tryd.prog.info? f.type).map (·.size)) = ([1, 1, 1, 1, 1, 1] : List Nat).map some := by
  intro fs h
  rw [Tryd.underlying43] at h
  cases h
  kernel_rfl
theorem sz43 : (Tryd.prog.info? 43).map (·.size) = some 6 := by kernel_rfl
theorem sz3 : (Tryd.prog.info? 3).map (·.size) = some 1 := by kernel_rfl
theorem el37 : ElemT Tryd.prog 37 3 1 8 := ⟨⟨Tryd.t3, .int .i64 0, Tryd.underlying37, by kernel_rfl, by kernel_rfl, by kernel_rfl, by kernel_rfl, by decide, by kernel_rfl⟩⟩
theorem el25 : ElemT Tryd.prog 25 5 1 1 := ⟨⟨Tryd.t5, .int .u8 0, Tryd.underlying25, by kernel_rfl, by kernel_rfl, by kernel_rfl, by kernel_rfl, by decide, by kernel_rfl⟩⟩
theorem sz41 : (Tryd.prog.info? 41).map (·.size) = some 1 := by kernel_rfl
theorem sz75 : (Tryd.prog.info? 75).map (·.size) = some 11 := by kernel_rfl
theorem zr75 : (Tryd.prog.info? 75).bind (·.zero) = some (.agg #[.int .i64 0, .bool false, .string ByteArray.empty, .string ByteArray.empty, .slice none 0 0, .slice none 0 0, .bool false, .string ByteArray.empty, .int .i64 0, .int .i64 0, .int .i64 0]) := by kernel_rfl
theorem el34 : ElemT Tryd.prog 34 24 3 40 := ⟨⟨Tryd.t24, .agg #[.bool false, .string ByteArray.empty, .string ByteArray.empty], Tryd.underlying34, by kernel_rfl, by kernel_rfl, by kernel_rfl, by kernel_rfl, by decide, by kernel_rfl⟩⟩
theorem el41 : ElemT Tryd.prog 41 75 11 144 := ⟨⟨Tryd.t75, .agg #[.int .i64 0, .bool false, .string ByteArray.empty, .string ByteArray.empty, .slice none 0 0, .slice none 0 0, .bool false, .string ByteArray.empty, .int .i64 0, .int .i64 0, .int .i64 0], Tryd.underlying41, by kernel_rfl, by kernel_rfl, by kernel_rfl, by kernel_rfl, by decide, by kernel_rfl⟩⟩
theorem fs39 : ∀ fs, Tryd.prog.underlying 39 = some (.struct fs) → fs.toList.map (fun f => (Tryd.prog.info? f.type).map (·.size)) = ([1, 8, 1, 1, 1, 1, 1, 1] : List Nat).map some := by
  intro fs h
  rw [Tryd.underlying39] at h
  cases h
  kernel_rfl
theorem sz4 : (Tryd.prog.info? 4).map (·.size) = some 1 := by kernel_rfl
theorem sz5 : (Tryd.prog.info? 5).map (·.size) = some 1 := by kernel_rfl
theorem fs75 : ∀ fs, Tryd.prog.underlying 75 = some (.struct fs) → fs.toList.map (fun f => (Tryd.prog.info? f.type).map (·.size)) = ([1, 8, 1, 1] : List Nat).map some := by
  intro fs h
  rw [Tryd.underlying75] at h
  cases h
  kernel_rfl
theorem zr3 : (Tryd.prog.info? 3).bind (·.zero) = some (.int .i64 0) := by kernel_rfl
theorem fs24 : ∀ fs, Tryd.prog.underlying 24 = some (.struct fs) → fs.toList.map (fun f => (Tryd.prog.info? f.type).map (·.size)) = ([1, 1, 1] : List Nat).map some := by
  intro fs h
  rw [Tryd.underlying24] at h
  cases h
  kernel_rfl
theorem zr24 : (Tryd.prog.info? 24).bind (·.zero) = some (.agg #[.bool false, .string ByteArray.empty, .string ByteArray.empty]) := by kernel_rfl
theorem zr5 : (Tryd.prog.info? 5).bind (·.zero) = some (.int .u8 0) := by kernel_rfl
theorem fs64 : ∀ fs, Tryd.prog.underlying 64 = some (.struct fs) → fs.toList.map (fun f => (Tryd.prog.info? f.type).map (·.size)) = ([1, 1, 3, 3, 1] : List Nat).map some := by
  intro fs h
  rw [Tryd.underlying64] at h
  cases h
  kernel_rfl
theorem zr64 : (Tryd.prog.info? 64).bind (·.zero) = some (.agg #[.int .i64 0, .int .i64 0, .bool false, .string ByteArray.empty, .string ByteArray.empty, .bool false, .string ByteArray.empty, .string ByteArray.empty, .slice none 0 0]) := by kernel_rfl
theorem sz64 : (Tryd.prog.info? 64).map (·.size) = some 9 := by kernel_rfl
theorem zr99 : (Tryd.prog.info? 99).bind (·.zero) = some (.slice none 0 0) := by kernel_rfl
theorem zr25 : (Tryd.prog.info? 25).bind (·.zero) = some (.slice none 0 0) := by kernel_rfl
theorem el99 : ElemT Tryd.prog 99 25 1 24 := ⟨⟨Tryd.t25, .slice none 0 0, Tryd.underlying99, by kernel_rfl, by kernel_rfl, by kernel_rfl, by kernel_rfl, by decide, by kernel_rfl⟩⟩
theorem sz99 : (Tryd.prog.info? 99).map (·.size) = some 1 := by kernel_rfl
theorem zr4 : (Tryd.prog.info? 4).bind (·.zero) = some (.bool false) := by kernel_rfl
theorem zr9 : (Tryd.prog.info? 9).bind (·.zero) = some (.string ByteArray.empty) := by kernel_rfl
theorem fs73 : ∀ fs, Tryd.prog.underlying 73 = some (.struct fs) → fs.toList.map (fun f => (Tryd.prog.info? f.type).map (·.size)) = ([1, 1, 3, 3, 1] : List Nat).map some := by
  intro fs h
  rw [Tryd.underlying73] at h
  cases h
  kernel_rfl
theorem zr73 : (Tryd.prog.info? 73).bind (·.zero) = some (.agg #[.int .i64 0, .int .i64 0, .bool false, .string ByteArray.empty, .string ByteArray.empty, .bool false, .string ByteArray.empty, .string ByteArray.empty, .string ByteArray.empty]) := by kernel_rfl
theorem fs71 : ∀ fs, Tryd.prog.underlying 71 = some (.struct fs) → fs.toList.map (fun f => (Tryd.prog.info? f.type).map (·.size)) = ([] : List Nat).map some := by
  intro fs h
  rw [Tryd.underlying71] at h
  cases h
  kernel_rfl
theorem zr71 : (Tryd.prog.info? 71).bind (·.zero) = some (.agg #[]) := by kernel_rfl
theorem sf70 : SetF Tryd.prog 70 73 71 [.i .i64, .i .i64, .b, .s, .s, .b, .s, .s, .s] T_tally_event.enc := setF_of (m := 5) Tryd.underlying70 Tryd.underlying73 (by kernel_rfl) (by kernel_rfl) (by kernel_rfl) (by kernel_rfl) (by kernel_rfl) (by kernel_rfl) (by kernel_rfl) (fun a b h => by obtain ⟨x1, x2, ⟨x3, x4, x5⟩, ⟨x6, x7, x8⟩, x9⟩ := a; obtain ⟨y10, y11, ⟨y12, y13, y14⟩, ⟨y15, y16, y17⟩, y18⟩ := b; simp only [T_tally_event.enc, List.cons.injEq, Value.int.injEq, Value.bool.injEq, Value.string.injEq, true_and, and_true] at h; simp only [h])
abbrev T_Rec.c (x : T_Rec) (r : List AV) : List AV := vi x.Kind :: vb x.Mail.From.Null :: vs x.Mail.From.Local :: vs x.Mail.From.Domain :: .fl .shr 3 (flatten (map T_Path.enc x.Mail.To)) :: fb x.Mail.Body :: vb x.Mail.Quiet :: vs x.Mail.Helo :: vi x.Mail.At :: vi x.Id :: fi x.Ids :: vi x.Origin :: vi x.Number :: vi x.Offset :: fb x.Data :: r
abbrev T_Item.c (x : T_Item) (r : List AV) : List AV := vi x.Id :: vb x.Mail.From.Null :: vs x.Mail.From.Local :: vs x.Mail.From.Domain :: .fl .shr 3 (flatten (map T_Path.enc x.Mail.To)) :: fb x.Mail.Body :: vb x.Mail.Quiet :: vs x.Mail.Helo :: vi x.Mail.At :: vi x.State :: vi x.Pack :: r
abbrev T_Event.c (x : T_Event) (r : List AV) : List AV := vi x.Kind :: vi x.Site :: vb x.From.Null :: vs x.From.Local :: vs x.From.Domain :: vb x.To.Null :: vs x.To.Local :: vs x.To.Domain :: fb x.Body :: r
abbrev T_Mail.c (x : T_Mail) (r : List AV) : List AV := vb x.From.Null :: vs x.From.Local :: vs x.From.Domain :: .fl .shr 3 (flatten (map T_Path.enc x.To)) :: fb x.Body :: vb x.Quiet :: vs x.Helo :: vi x.At :: r
abbrev T_Spool.c (x : T_Spool) (r : List AV) : List AV := .fr .shr true 11 (flatten (map T_Item.ienc x.Items)) :: vi x.Packs :: fi x.Sent :: fb x.Part :: vi x.Of :: fi x.Done :: r
theorem ok_wherrylaw17_Heavy (l : (List T_Mail)) (r : Bool) (h : Sh.wherrylaw17_Heavy l = some r) : FnOK Tryd.prog 19 [.fr .shr true 8 (flatten (map T_Mail.ienc l))] (.v (.bool r)) := by
  unfold Sh.wherrylaw17_Heavy at h
  refine fn_ok func19 rfl (zl rfl) rfl rfl fun g0 hn hio => ?_
  refine zgg hn [_,(2,vb false)] [0] [0] [zq [] 1 2] [(_,_)] rfl ⟨z2 rfl,zz⟩ ?_
  refine ht_seq ?_
  refine zgg hn [_,(6,.fr .shr true 8 (flatten (map T_Mail.ienc l))),(7,vi (l.length : Int)),(8,vb (decide (20 < (l.length : Int))))] [0] [0,3] [zq [0] 1 6,zq [1] 2 7,zq [2] 3 8] [(_,_),(_,_)] rfl ⟨z1 rfl,zp rfl (op_len_fr _ _ _ underlying56 rfl (by decide) (gflat_len T_Mail.ilen _)),z4 rfl rfl,zz⟩ ?_
  refine ht_cond _ rfl (fun hb1 => ?_) (fun hb1 => ?_)
  ·have h := cond_t hb1 h
   refine zgg hn [_,_,(2,vb true)] [0,1] [2] [zq [] 2 2] [(_,_)] rfl ⟨z2 rfl,zz⟩ ?_
   refine ht_ret ?_
   refine pt_r_then ?_
   obtain rfl := zi h
   exact pt_ret hio rfl (.tmp _ _ .nil) rfl rfl
  ·have h := cond_f hb1 h
   refine ht_skip ?_
   refine pt_then ?_
   refine zgg hn [_,_,(3,vi 0)] [0,1] [0,2] [zq [] 2 3] [(_,_),(_,_)] rfl ⟨z2 rfl,zz⟩ ?_
   refine ht_seq ?_
   refine zgg hn [_,_,(4,vi 0)] [0,1] [0,1,2] [zq [] 2 4] [(_,_),(_,_),(_,_)] rfl ⟨z2 rfl,zz⟩ ?_
   refine ht_loopS h (fun ((s66,s67) : Int × Int) => [(0,.fr .shr true 8 (flatten (map T_Mail.ienc l))),(3,vi s66),(4,vi s67)]) (fun (s85 : Int) => [(3,vi s85)]) ?_ ?_
   ·rintro s85 h
    refine pt_then ?_
    refine zgg hn [_,(86,vi s85),(87,vb (decide (20000 < s85))),(2,vb (decide (20000 < s85)))] [0] [3] [zq [0] 1 86,zq [1] 2 87,zq [2] 3 2] [(_,_)] rfl ⟨z1 rfl,z4 rfl rfl,z2 rfl,zz⟩ ?_
    refine ht_ret ?_
    obtain rfl := zi h
    exact pt_ret hio rfl (.tmp _ _ .nil) rfl rfl
   ·rintro u86 hl87 hr88 ⟨s66, s67⟩ rr91 h ho89
    refine ht_seq ?_
    refine zgg hn [_,_,_,(9,vi s67),(10,.fr .shr true 8 (flatten (map T_Mail.ienc l))),(11,vi (l.length : Int)),(12,vb (decide (s67 < (l.length : Int))))] [0,1,2] [0,1,2,6] [zq [2] 3 9,zq [0] 4 10,zq [4] 5 11,zq [3,5] 6 12] [(_,_),(_,_),(_,_),(_,_)] rfl ⟨z1 rfl,z1 rfl,zp rfl (op_len_fr _ _ _ underlying56 rfl (by decide) (gflat_len T_Mail.ilen _)),z4 rfl rfl,zz⟩ ?_
    refine ht_cond _ rfl (fun hb92 => ?_) (fun hb92 => ?_)
    ·have h := cond_t hb92 h
     refine ht_skip ?_
     refine pt_then (ht_seq ?_)
     refine ht_block ?_
     refine ht_seq ?_
     obtain ⟨v3, hv3, h⟩ := zn h
     obtain ⟨v4, hv4, h⟩ := zn h
     obtain ⟨v5, hv5, h⟩ := zn h
     obtain ⟨v6, hv6, h⟩ := zn h
     obtain ⟨v7, hv7, h⟩ := zn h
     obtain ⟨v8, hv8, h⟩ := zn h
     obtain ⟨v9, hv9, h⟩ := zn h
     obtain ⟨v10, hv10, h⟩ := zn h
     obtain ⟨v11, hv11, h⟩ := zn h
     obtain ⟨v12, hv12, h⟩ := zn h
     obtain ⟨v13, hv13, h⟩ := zn h
     obtain ⟨v14, hv14, h⟩ := zn h
     refine ht_anyR (by kernel_rfl) hn (El := (_ :: _ :: _ :: _ :: (15,vi s66) :: (16,.fr .shr true 8 (flatten (map T_Mail.ienc l))) :: (17,vi s67) :: (18,.eref (.slot 16) (v3 * 8)) :: (19,.eref (.slot 16) (v3 * 8 + 4)) :: (20,fb v4.Body) :: (21,vi (v4.Body.length : Int)) :: (22,vi v5) :: (23,.fr .shr true 8 (flatten (map T_Mail.ienc l))) :: (24,vi s67) :: (25,.eref (.slot 23) (v6 * 8)) :: (26,.eref (.slot 23) (v6 * 8 + 6)) :: (27,vs v7.Helo) :: (28,vi (v7.Helo.size : Int)) :: (29,vi v8) :: (30,.fr .shr true 8 (flatten (map T_Mail.ienc l))) :: (31,vi s67) :: (32,.eref (.slot 30) (v9 * 8)) :: (33,.eref (.slot 30) (v9 * 8 + 0)) :: (34,.eref (.slot 30) (v9 * 8 + 1)) :: (35,vs v10.From.Local) :: (36,vi (v10.From.Local.size : Int)) :: (37,vi v11) :: (38,.fr .shr true 8 (flatten (map T_Mail.ienc l))) :: (39,vi s67) :: (40,.eref (.slot 38) (v12 * 8)) :: (41,.eref (.slot 38) (v12 * 8 + 0)) :: (42,.eref (.slot 38) (v12 * 8 + 2)) :: (43,vs v13.From.Domain) :: (44,vi (v13.From.Domain.size : Int)) :: (45,vi v14) :: (3,vi v14) :: [])) (init := [0,1,2,3]) (fin := [0,2,35]) (sps := (zq [1] 4 15 :: zq [0] 5 16 :: zq [2] 6 17 :: zq [5,6] 7 18 :: zq [7,5] 8 19 :: zq [8,5] 9 20 :: zq [9] 10 21 :: zq [4,10] 11 22 :: zq [0] 12 23 :: zq [2] 13 24 :: zq [12,13] 14 25 :: zq [14,12] 15 26 :: zq [15,12] 16 27 :: zq [16] 17 28 :: zq [11,17] 18 29 :: zq [0] 19 30 :: zq [2] 20 31 :: zq [19,20] 21 32 :: zq [21,19] 22 33 :: zq [22,19] 23 34 :: zq [23,19] 24 35 :: zq [24] 25 36 :: zq [18,25] 26 37 :: zq [0] 27 38 :: zq [2] 28 39 :: zq [27,28] 29 40 :: zq [29,27] 30 41 :: zq [30,27] 31 42 :: zq [31,27] 32 43 :: zq [32] 33 44 :: zq [26,33] 34 45 :: ⟨[34],[1],[35],[(.slot 3)]⟩ :: [])) (es' := [(_,_),(_,_),(3,vi v14)]) (by kernel_rfl) rfl rfl ⟨z1 rfl,z1 rfl,z1 rfl,zp rfl (op_ix_fr _ _ _ _ _ _ _ _ underlying56 sz36 (by decide) rfl rfl rfl (ix_ok hv3).1 (gflat_lt T_Mail.ilen (ix_ok hv3).2) rfl),zp rfl (op_fieldAddr_e _ _ _ _ _ _ _ underlying36 rfl sz25 rfl rfl rfl),zp rfl (op_load_fr _ _ _ _ _ _ _ underlying25 rfl rfl rfl (gflat_cell T_Mail.ilen hv4 rfl) (.fl _ _ rfl)),zp rfl (op_len_fl _ _ _ underlying25 rfl (by decide) (map_len _)),zp rfl (oB rfl (ibind (f := int .i64) (Option.some.inj hv5))),z1 rfl,z1 rfl,zp rfl (op_ix_fr _ _ _ _ _ _ _ _ underlying56 sz36 (by decide) rfl rfl rfl (ix_ok hv6).1 (gflat_lt T_Mail.ilen (ix_ok hv6).2) rfl),zp rfl (op_fieldAddr_e _ _ _ _ _ _ _ underlying36 rfl sz9 rfl rfl rfl),zp rfl (op_load_fr _ _ _ _ _ _ _ underlying9 rfl rfl rfl (gflat_cell T_Mail.ilen hv7 rfl) (.v _)),zp rfl (oN underlying9 rfl),zp rfl (oB rfl (ibind (f := int .i64) (Option.some.inj hv8))),z1 rfl,z1 rfl,zp rfl (op_ix_fr _ _ _ _ _ _ _ _ underlying56 sz36 (by decide) rfl rfl rfl (ix_ok hv9).1 (gflat_lt T_Mail.ilen (ix_ok hv9).2) rfl),zp rfl (op_fieldAddr_e _ _ _ _ _ _ _ underlying36 rfl sz24 rfl rfl rfl),zp rfl (op_fieldAddr_e _ _ _ _ _ _ _ underlying24 rfl sz9 rfl rfl rfl),zp rfl (op_load_fr _ _ _ _ _ _ _ underlying9 rfl rfl rfl (gflat_cell T_Mail.ilen hv10 rfl) (.v _)),zp rfl (oN underlying9 rfl),zp rfl (oB rfl (ibind (f := int .i64) (Option.some.inj hv11))),z1 rfl,z1 rfl,zp rfl (op_ix_fr _ _ _ _ _ _ _ _ underlying56 sz36 (by decide) rfl rfl rfl (ix_ok hv12).1 (gflat_lt T_Mail.ilen (ix_ok hv12).2) rfl),zp rfl (op_fieldAddr_e _ _ _ _ _ _ _ underlying36 rfl sz24 rfl rfl rfl),zp rfl (op_fieldAddr_e _ _ _ _ _ _ _ underlying24 rfl sz9 rfl rfl rfl),zp rfl (op_load_fr _ _ _ _ _ _ _ underlying9 rfl rfl rfl (gflat_cell T_Mail.ilen hv13 rfl) (.v _)),zp rfl (oN underlying9 rfl),zp rfl (oB rfl (ibind (f := int .i64) (Option.some.inj hv14))),zp rfl (LOp.drop [_] (op_assign _ _ _ _ rfl rfl)),zz⟩ ?_
     refine pt_then (ht_seq ?_)
     refine ht_seq ?_
     obtain ⟨v15, hv15, h⟩ := zn h
     obtain ⟨v16, hv16, h⟩ := zn h
     refine zg hn [_,_,_,(46,.fr .shr true 8 (flatten (map T_Mail.ienc l))),(47,vi s67),(48,.eref (.slot 46) (v15 * 8)),(49,.eref (.slot 46) (v15 * 8 + 3)),(50,.fl .shr 3 (flatten (map T_Path.enc v16.To))),(51,vi (v16.To.length : Int)),(52,vb (decide (40 < (v16.To.length : Int))))] [0,1,2] [0,1,2,9] [zq [0] 3 46,zq [1] 4 47,zq [3,4] 5 48,zq [5,3] 6 49,zq [6,3] 7 50,zq [7] 8 51,zq [8] 9 52] [(_,_),(_,_),(_,_),(_,_)] rfl ⟨z1 rfl,z1 rfl,zp rfl (op_ix_fr _ _ _ _ _ _ _ _ underlying56 sz36 (by decide) rfl rfl rfl (ix_ok hv15).1 (gflat_lt T_Mail.ilen (ix_ok hv15).2) rfl),zp rfl (op_fieldAddr_e _ _ _ _ _ _ _ underlying36 rfl sz34 rfl rfl rfl),zp rfl (op_load_fr _ _ _ _ _ _ _ underlying34 rfl rfl rfl (gflat_cell T_Mail.ilen hv16 rfl) (.fl _ _ rfl)),zp rfl (op_len_fl _ _ _ underlying34 rfl (by decide) (flat_len T_Path.len _)),z4 rfl rfl,zz⟩ ?_
     refine pt_then ?_
     refine ht_cond _ rfl (fun hb93 => ?_) (fun hb93 => ?_)
     ·have h := cond_t hb93 h
      refine zgg hn [_,_,_,_,(2,vb true)] [0,1,2,3] [4] [zq [] 4 2] [(_,_)] rfl ⟨z2 rfl,zz⟩ ?_
      refine ht_ret ?_
      refine pt_r_then ?_
      refine pt_r_in ?_
      refine pt_r_then ?_
      refine pt_r_then ?_
      refine pt_r_in ?_
      refine pt_r_then ?_
      have h := hr88 _ (ho89 _ (zi h).symm).symm
      obtain rfl := zi h
      exact pt_ret hio rfl (.tmp _ _ .nil) rfl rfl
     ·have h := cond_f hb93 h
      refine ht_skip ?_
      refine pt_then ?_
      refine zgg hn [_,_,_,_,(5,vi 0)] [0,1,2,3] [0,1,2,4] [zq [] 4 5] [(_,_),(_,_),(_,_),(_,_)] rfl ⟨z2 rfl,zz⟩ ?_
      refine ht_loopS h (fun ((s98,s99) : Int × Int) => [(0,.fr .shr true 8 (flatten (map T_Mail.ienc l))),(4,vi s67),(3,vi s98),(5,vi s99)]) (fun (s101 : Int) => [(0,.fr .shr true 8 (flatten (map T_Mail.ienc l))),(4,vi s67),(3,vi s101)]) ?_ ?_
      ·rintro s101 h
       refine pt_inb ?_
       refine pt_then ?_
       obtain ⟨v46, hv46, h⟩ := zn h
       refine zg hn [_,_,_,(13,vi s67),(14,vi v46),(4,vi v46)] [0,1,2] [0,2,5] [zq [1] 3 13,zq [3] 4 14,⟨[4],[1],[5],[(.slot 4)]⟩] [(_,_),(_,_),(_,_)] rfl ⟨z1 rfl,zp rfl (oB rfl (ibind (f := int .i64) (Option.some.inj hv46))),zp rfl (LOp.drop [_] (op_assign _ _ _ _ rfl rfl)),zz⟩ ?_
       exact pt_next _ (zi h).symm rfl
      ·rintro u102 hl103 hr104 ⟨s98, s99⟩ rr107 h ho105
       refine ht_seq ?_
       refine ht_seq ?_
       obtain ⟨v18, hv18, h⟩ := zn h
       obtain ⟨v19, hv19, h⟩ := zn h
       refine zg hn [_,_,_,_,(53,vi s99),(54,.fr .shr true 8 (flatten (map T_Mail.ienc l))),(55,vi s67),(56,.eref (.slot 54) (v18 * 8)),(57,.eref (.slot 54) (v18 * 8 + 3)),(58,.fl .shr 3 (flatten (map T_Path.enc v19.To))),(59,vi (v19.To.length : Int)),(60,vb (decide (s99 < (v19.To.length : Int))))] [0,1,2,3] [0,1,2,3,11] [zq [3] 4 53,zq [0] 5 54,zq [1] 6 55,zq [5,6] 7 56,zq [7,5] 8 57,zq [8,5] 9 58,zq [9] 10 59,zq [4,10] 11 60] [(_,_),(_,_),(_,_),(_,_),(_,_)] rfl ⟨z1 rfl,z1 rfl,z1 rfl,zp rfl (op_ix_fr _ _ _ _ _ _ _ _ underlying56 sz36 (by decide) rfl rfl rfl (ix_ok hv18).1 (gflat_lt T_Mail.ilen (ix_ok hv18).2) rfl),zp rfl (op_fieldAddr_e _ _ _ _ _ _ _ underlying36 rfl sz34 rfl rfl rfl),zp rfl (op_load_fr _ _ _ _ _ _ _ underlying34 rfl rfl rfl (gflat_cell T_Mail.ilen hv19 rfl) (.fl _ _ rfl)),zp rfl (op_len_fl _ _ _ underlying34 rfl (by decide) (flat_len T_Path.len _)),z4 rfl rfl,zz⟩ ?_
       refine pt_then ?_
       refine ht_cond _ rfl (fun hb108 => ?_) (fun hb108 => ?_)
       ·have h := cond_t hb108 h
        refine ht_skip ?_
        refine pt_then (ht_seq ?_)
        refine ht_block ?_
        obtain ⟨v21, hv21, h⟩ := zn h
        obtain ⟨v22, hv22, h⟩ := zn h
        obtain ⟨v23, hv23, h⟩ := zn h
        obtain ⟨v24, hv24, h⟩ := zn h
        obtain ⟨v25, hv25, h⟩ := zn h
        obtain ⟨v26, hv26, h⟩ := zn h
        obtain ⟨v27, hv27, h⟩ := zn h
        obtain ⟨v28, hv28, h⟩ := zn h
        obtain ⟨v29, hv29, h⟩ := zn h
        obtain ⟨v30, hv30, h⟩ := zn h
        refine ht_anyR (by kernel_rfl) hn (El := (_ :: _ :: _ :: _ :: _ :: (63,vi s98) :: (64,.fr .shr true 8 (flatten (map T_Mail.ienc l))) :: (65,vi s67) :: (66,.eref (.slot 64) (v21 * 8)) :: (67,.eref (.slot 64) (v21 * 8 + 3)) :: (68,.fl .shr 3 (flatten (map T_Path.enc v22.To))) :: (69,vi s99) :: (70,.eref (.slot 68) (v23 * 3)) :: (71,.eref (.slot 68) (v23 * 3 + 1)) :: (72,vs v24.Local) :: (73,vi (v24.Local.size : Int)) :: (74,vi v25) :: (75,.fr .shr true 8 (flatten (map T_Mail.ienc l))) :: (76,vi s67) :: (77,.eref (.slot 75) (v26 * 8)) :: (78,.eref (.slot 75) (v26 * 8 + 3)) :: (79,.fl .shr 3 (flatten (map T_Path.enc v27.To))) :: (80,vi s99) :: (81,.eref (.slot 79) (v28 * 3)) :: (82,.eref (.slot 79) (v28 * 3 + 2)) :: (83,vs v29.Domain) :: (84,vi (v29.Domain.size : Int)) :: (85,vi v30) :: (3,vi v30) :: [])) (init := [0,1,2,3,4]) (fin := [0,1,3,28]) (sps := (zq [2] 5 63 :: zq [0] 6 64 :: zq [1] 7 65 :: zq [6,7] 8 66 :: zq [8,6] 9 67 :: zq [9,6] 10 68 :: zq [3] 11 69 :: zq [10,11] 12 70 :: zq [12,10] 13 71 :: zq [13,10] 14 72 :: zq [14] 15 73 :: zq [5,15] 16 74 :: zq [0] 17 75 :: zq [1] 18 76 :: zq [17,18] 19 77 :: zq [19,17] 20 78 :: zq [20,17] 21 79 :: zq [3] 22 80 :: zq [21,22] 23 81 :: zq [23,21] 24 82 :: zq [24,21] 25 83 :: zq [25] 26 84 :: zq [16,26] 27 85 :: ⟨[27],[2],[28],[(.slot 3)]⟩ :: [])) (es' := [(_,_),(_,_),(_,_),(3,vi v30)]) (by kernel_rfl) rfl rfl ⟨z1 rfl,z1 rfl,z1 rfl,zp rfl (op_ix_fr _ _ _ _ _ _ _ _ underlying56 sz36 (by decide) rfl rfl rfl (ix_ok hv21).1 (gflat_lt T_Mail.ilen (ix_ok hv21).2) rfl),zp rfl (op_fieldAddr_e _ _ _ _ _ _ _ underlying36 rfl sz34 rfl rfl rfl),zp rfl (op_load_fr _ _ _ _ _ _ _ underlying34 rfl rfl rfl (gflat_cell T_Mail.ilen hv22 rfl) (.fl _ _ rfl)),z1 rfl,zp rfl (op_ix _ _ _ _ _ _ _ _ underlying34 sz24 (by decide) rfl rfl rfl (ix_ok hv23).1 (flat_lt T_Path.len (ix_ok hv23).2) rfl),zp rfl (op_fieldAddr_e _ _ _ _ _ _ _ underlying24 rfl sz9 rfl rfl rfl),zp rfl (op_load_e _ _ _ _ _ _ underlying9 rfl rfl rfl (flat_cell T_Path.len hv24 rfl)),zp rfl (oN underlying9 rfl),zp rfl (oB rfl (ibind (f := int .i64) (Option.some.inj hv25))),z1 rfl,z1 rfl,zp rfl (op_ix_fr _ _ _ _ _ _ _ _ underlying56 sz36 (by decide) rfl rfl rfl (ix_ok hv26).1 (gflat_lt T_Mail.ilen (ix_ok hv26).2) rfl),zp rfl (op_fieldAddr_e _ _ _ _ _ _ _ underlying36 rfl sz34 rfl rfl rfl),zp rfl (op_load_fr _ _ _ _ _ _ _ underlying34 rfl rfl rfl (gflat_cell T_Mail.ilen hv27 rfl) (.fl _ _ rfl)),z1 rfl,zp rfl (op_ix _ _ _ _ _ _ _ _ underlying34 sz24 (by decide) rfl rfl rfl (ix_ok hv28).1 (flat_lt T_Path.len (ix_ok hv28).2) rfl),zp rfl (op_fieldAddr_e _ _ _ _ _ _ _ underlying24 rfl sz9 rfl rfl rfl),zp rfl (op_load_e _ _ _ _ _ _ underlying9 rfl rfl rfl (flat_cell T_Path.len hv29 rfl)),zp rfl (oN underlying9 rfl),zp rfl (oB rfl (ibind (f := int .i64) (Option.some.inj hv30))),zp rfl (LOp.drop [_] (op_assign _ _ _ _ rfl rfl)),zz⟩ ?_
        refine pt_inb ?_
        refine pt_then ?_
        obtain ⟨v31, hv31, h⟩ := zn h
        refine zg hn [_,_,_,_,(61,vi s99),(62,vi v31),(5,vi v31)] [0,1,2,3] [0,1,3,6] [zq [2] 4 61,zq [4] 5 62,⟨[5],[2],[6],[(.slot 5)]⟩] [(_,_),(_,_),(_,_),(_,_)] rfl ⟨z1 rfl,zp rfl (oB rfl (ibind (f := int .i64) (Option.some.inj hv31))),zp rfl (LOp.drop [_] (op_assign _ _ _ _ rfl rfl)),zz⟩ ?_
        exact pt_next _ (zi h).symm rfl
       ·have h := cond_f hb108 h
        refine ht_exit ?_
        refine pt_x_then ?_
        refine pt_x_then ?_
        refine pt_x_in ?_
        refine pt_pick [0,1,2] (by kernel_rfl) (es' := [(_,_),(_,_),(_,_)]) rfl ?_
        exact hl103 _ (ho105 _ (zi h).symm).symm
    ·have h := cond_f hb92 h
     refine ht_exit ?_
     refine pt_x_then ?_
     refine pt_x_then ?_
     refine pt_x_in ?_
     refine pt_pick [1] (by kernel_rfl) (es' := [(_,_)]) rfl ?_
     exact hl87 _ (ho89 _ (zi h).symm).symm
theorem ok_wherrylaw18_Heavy (l : (List T_Rec)) (r : Bool) (h : Sh.wherrylaw18_Heavy l = some r) : FnOK Tryd.prog 13 [.fr .shr true 15 (flatten (map T_Rec.ienc l))] (.v (.bool r)) := by
  unfold Sh.wherrylaw18_Heavy at h
  refine fn_ok func13 rfl (zl rfl) rfl rfl fun g0 hn hio => ?_
  refine zgg hn [_,(2,vb false)] [0] [0] [zq [] 1 2] [(_,_)] rfl ⟨z2 rfl,zz⟩ ?_
  refine ht_seq ?_
  refine zgg hn [_,(4,.fr .shr true 15 (flatten (map T_Rec.ienc l))),(5,vi (l.length : Int)),(6,vb (decide (60 < (l.length : Int))))] [0] [0,3] [zq [0] 1 4,zq [1] 2 5,zq [2] 3 6] [(_,_),(_,_)] rfl ⟨z1 rfl,zp rfl (op_len_fr _ _ _ underlying33 rfl (by decide) (gflat_len T_Rec.ilen _)),z4 rfl rfl,zz⟩ ?_
  refine ht_cond _ rfl (fun hb1 => ?_) (fun hb1 => ?_)
  ·have h := cond_t hb1 h
   refine zgg hn [_,_,(2,vb true)] [0,1] [2] [zq [] 2 2] [(_,_)] rfl ⟨z2 rfl,zz⟩ ?_
   refine ht_ret ?_
   refine pt_r_then ?_
   obtain rfl := zi h
   exact pt_ret hio rfl (.tmp _ _ .nil) rfl rfl
  ·have h := cond_f hb1 h
   refine ht_skip ?_
   refine pt_then (ht_seq ?_)
   refine zgg hn [_,_,(3,vi 0)] [0,1] [0,2] [zq [] 2 3] [(_,_),(_,_)] rfl ⟨z2 rfl,zz⟩ ?_
   refine ht_loopS h (fun (s23 : Int) => [(0,.fr .shr true 15 (flatten (map T_Rec.ienc l))),(3,vi s23)]) (fun (() : Unit) => []) ?_ ?_
   ·rintro ⟨⟩ h
    refine pt_then ?_
    refine zgg hn [(2,vb false)] [] [0] [zq [] 0 2] [(_,_)] rfl ⟨z2 rfl,zz⟩ ?_
    refine ht_ret ?_
    obtain rfl := zi h
    exact pt_ret hio rfl (.tmp _ _ .nil) rfl rfl
   ·rintro u30 hl31 hr32 s23 rr35 h ho33
    refine ht_seq ?_
    refine zgg hn [_,_,(7,vi s23),(8,.fr .shr true 15 (flatten (map T_Rec.ienc l))),(9,vi (l.length : Int)),(10,vb (decide (s23 < (l.length : Int))))] [0,1] [0,1,5] [zq [1] 2 7,zq [0] 3 8,zq [3] 4 9,zq [2,4] 5 10] [(_,_),(_,_),(_,_)] rfl ⟨z1 rfl,z1 rfl,zp rfl (op_len_fr _ _ _ underlying33 rfl (by decide) (gflat_len T_Rec.ilen _)),z4 rfl rfl,zz⟩ ?_
    refine ht_cond _ rfl (fun hb36 => ?_) (fun hb36 => ?_)
    ·have h := cond_t hb36 h
     refine ht_skip ?_
     refine pt_then (ht_seq ?_)
     refine ht_block ?_
     refine ht_seq ?_
     refine ht_joinS h (fun (s37 : Bool) => [(0,.fr .shr true 15 (flatten (map T_Rec.ienc l))),(3,vi s23),(37,vb s37)]) ?_ ?_
     ·rintro s37 h
      refine pt_then ?_
      refine ht_cond _ rfl (fun hb41 => ?_) (fun hb41 => ?_)
      ·have h := cond_t hb41 h
       refine zgg hn [_,_,_,(2,vb true)] [0,1,2] [3] [zq [] 3 2] [(_,_)] rfl ⟨z2 rfl,zz⟩ ?_
       refine ht_ret ?_
       refine pt_r_in ?_
       refine pt_r_then ?_
       refine pt_r_then ?_
       refine pt_r_in ?_
       refine pt_r_then ?_
       have h := hr32 _ (ho33 _ (zi h).symm).symm
       obtain rfl := zi h
       exact pt_ret hio rfl (.tmp _ _ .nil) rfl rfl
      ·have h := cond_f hb41 h
       refine ht_skip ?_
       refine pt_inb ?_
       refine pt_then ?_
       obtain ⟨v15, hv15, h⟩ := zn h
       refine zg hn [_,_,_,(11,vi s23),(12,vi v15),(3,vi v15)] [0,1,2] [0,5] [zq [1] 3 11,zq [3] 4 12,⟨[4],[1],[5],[(.slot 3)]⟩] [(_,_),(_,_)] rfl ⟨z1 rfl,zp rfl (oB rfl (ibind (f := int .i64) (Option.some.inj hv15))),zp rfl (LOp.drop [_] (op_assign _ _ _ _ rfl rfl)),zz⟩ ?_
       exact pt_next _ (zi h).symm rfl
     ·intro u38 h hl39 hr40
      obtain ⟨v3, hv3, h⟩ := zn h
      obtain ⟨v4, hv4, h⟩ := zn h
      refine cond_some h (fun hg6_7 h => ?_) (fun hg6_7 h => ?_)
      ·refine zg hn (_::_::_::(13,.fr .shr true 15 (flatten (map T_Rec.ienc l)))::(14,vi s23)::(15,.eref (.slot 13) (v3 * 15))::(16,.eref (.slot 13) (v3 * 15 + 14))::(17,fb v4.Data)::(18,vi (v4.Data.length : Int))::(19,vb (decide (600 < (v4.Data.length : Int))))::(20,vb true)::(21,.v undef)::(22,.v undef)::(23,.v undef)::(24,.v undef)::(25,.v undef)::(26,.v undef)::(27,.v undef)::(28,vb true)::(29,vb true)::(30,.v undef)::(31,.v undef)::(32,.v undef)::(33,.v undef)::(34,.v undef)::(35,.v undef)::(36,.v undef)::(37,vb true)::[]) [0,1,2] [0,1,27] (zq [0] 3 13::zq [1] 4 14::zq [3,4] 5 15::zq [5,3] 6 16::zq [6,3] 7 17::zq [7] 8 18::zq [8] 9 19::zq [9] 10 20::zq [10] 11 21::zq [10] 12 22::zq [10] 13 23::zq [10] 14 24::zq [10] 15 25::zq [10] 16 26::zq [10] 17 27::zq [10] 18 28::zq [18] 19 29::zq [19] 20 30::zq [19] 21 31::zq [19] 22 32::zq [19] 23 33::zq [19] 24 34::zq [19] 25 35::zq [19] 26 36::zq [19] 27 37::[]) [(_,_),(_,_),(_,_)] rfl ⟨z1 rfl,z1 rfl,zp rfl (op_ix_fr _ _ _ _ _ _ _ _ underlying33 sz39 (by decide) rfl rfl rfl (ix_ok hv3).1 (gflat_lt T_Rec.ilen (ix_ok hv3).2) rfl),zp rfl (op_fieldAddr_e _ _ _ _ _ _ _ underlying39 rfl sz25 rfl rfl rfl),zp rfl (op_load_fr _ _ _ _ _ _ _ underlying25 rfl rfl rfl (gflat_cell T_Rec.ilen hv4 rfl) (.fl _ _ rfl)),zp rfl (op_len_fl _ _ _ underlying25 rfl (by decide) (map_len _)),z4 rfl rfl,z8 hg6_7 rfl,zf rfl,zf rfl,zf rfl,zf rfl,zf rfl,zf rfl,zf rfl,z3 true rfl,z1 rfl,zf rfl,zf rfl,zf rfl,zf rfl,zf rfl,zf rfl,zf rfl,z3 true rfl,zz⟩ ?_
       exact hl39 _ (zi h).symm
      ·obtain ⟨v5, hv5, h⟩ := zn h
       obtain ⟨v6, hv6, h⟩ := zn h
       refine cond_some h (fun hg6_16 h => ?_) (fun hg6_16 h => ?_)
       ·refine zg hn (_::_::_::(13,.fr .shr true 15 (flatten (map T_Rec.ienc l)))::(14,vi s23)::(15,.eref (.slot 13) (v3 * 15))::(16,.eref (.slot 13) (v3 * 15 + 14))::(17,fb v4.Data)::(18,vi (v4.Data.length : Int))::(19,vb (decide (600 < (v4.Data.length : Int))))::(20,vb false)::(21,.fr .shr true 15 (flatten (map T_Rec.ienc l)))::(22,vi s23)::(23,.eref (.slot 21) (v5 * 15))::(24,.eref (.slot 21) (v5 * 15 + 10))::(25,fi v6.Ids)::(26,vi (v6.Ids.length : Int))::(27,vb (decide (60 < (v6.Ids.length : Int))))::(28,vb (decide (60 < (v6.Ids.length : Int))))::(29,vb true)::(30,.v undef)::(31,.v undef)::(32,.v undef)::(33,.v undef)::(34,.v undef)::(35,.v undef)::(36,.v undef)::(37,vb true)::[]) [0,1,2] [0,1,27] (zq [0] 3 13::zq [1] 4 14::zq [3,4] 5 15::zq [5,3] 6 16::zq [6,3] 7 17::zq [7] 8 18::zq [8] 9 19::zq [9] 10 20::zq [10,0] 11 21::zq [10,1] 12 22::zq [10,11,12] 13 23::zq [10,13,11] 14 24::zq [10,14,11] 15 25::zq [10,15] 16 26::zq [10,16] 17 27::zq [10,17] 18 28::zq [18] 19 29::zq [19] 20 30::zq [19] 21 31::zq [19] 22 32::zq [19] 23 33::zq [19] 24 34::zq [19] 25 35::zq [19] 26 36::zq [19] 27 37::[]) [(_,_),(_,_),(_,_)] rfl ⟨z1 rfl,z1 rfl,zp rfl (op_ix_fr _ _ _ _ _ _ _ _ underlying33 sz39 (by decide) rfl rfl rfl (ix_ok hv3).1 (gflat_lt T_Rec.ilen (ix_ok hv3).2) rfl),zp rfl (op_fieldAddr_e _ _ _ _ _ _ _ underlying39 rfl sz25 rfl rfl rfl),zp rfl (op_load_fr _ _ _ _ _ _ _ underlying25 rfl rfl rfl (gflat_cell T_Rec.ilen hv4 rfl) (.fl _ _ rfl)),zp rfl (op_len_fl _ _ _ underlying25 rfl (by decide) (map_len _)),z4 rfl rfl,z8 hg6_7 rfl,zr' rfl (oM rfl),zr' rfl (oM rfl),zr' rfl (op_ix_fr _ _ _ _ _ _ _ _ underlying33 sz39 (by decide) rfl rfl rfl (ix_ok hv5).1 (gflat_lt T_Rec.ilen (ix_ok hv5).2) rfl),zr' rfl (op_fieldAddr_e _ _ _ _ _ _ _ underlying39 rfl sz37 rfl rfl rfl),zr' rfl (op_load_fr _ _ _ _ _ _ _ underlying37 rfl rfl rfl (gflat_cell T_Rec.ilen hv6 rfl) (.fl _ _ rfl)),zr' rfl (op_len_fl _ _ _ underlying37 rfl (by decide) (map_len _)),zr' rfl (oB rfl rfl),z3 false rfl,z8 hg6_16 rfl,zf rfl,zf rfl,zf rfl,zf rfl,zf rfl,zf rfl,zf rfl,z3 true rfl,zz⟩ ?_
        exact hl39 _ (zi h).symm
       ·obtain ⟨v7, hv7, h⟩ := zn h
        obtain ⟨v8, hv8, h⟩ := zn h
        obtain ⟨v9, hv9, h⟩ := zn h
        refine zg hn (_::_::_::(13,.fr .shr true 15 (flatten (map T_Rec.ienc l)))::(14,vi s23)::(15,.eref (.slot 13) (v3 * 15))::(16,.eref (.slot 13) (v3 * 15 + 14))::(17,fb v4.Data)::(18,vi (v4.Data.length : Int))::(19,vb (decide (600 < (v4.Data.length : Int))))::(20,vb false)::(21,.fr .shr true 15 (flatten (map T_Rec.ienc l)))::(22,vi s23)::(23,.eref (.slot 21) (v5 * 15))::(24,.eref (.slot 21) (v5 * 15 + 10))::(25,fi v6.Ids)::(26,vi (v6.Ids.length : Int))::(27,vb (decide (60 < (v6.Ids.length : Int))))::(28,vb (decide (60 < (v6.Ids.length : Int))))::(29,vb false)::(30,.fr .shr true 15 (flatten (map T_Rec.ienc l)))::(31,vi s23)::(32,.eref (.slot 30) (v7 * 15))::(33,.eref (.slot 30) (v7 * 15 + 1))::(34,.agg (T_Mail.c v8.Mail []))::(35,.fr (.own 36) true 8 (flatten (map T_Mail.ienc [(T_Mail.mk (T_Path.mk v8.Mail.From.Null v8.Mail.From.Local v8.Mail.From.Domain) v8.Mail.To v8.Mail.Body v8.Mail.Quiet v8.Mail.Helo v8.Mail.At)])))::(36,vb v9)::(37,vb v9)::[]) [0,1,2] [0,1,27] (zq [0] 3 13::zq [1] 4 14::zq [3,4] 5 15::zq [5,3] 6 16::zq [6,3] 7 17::zq [7] 8 18::zq [8] 9 19::zq [9] 10 20::zq [10,0] 11 21::zq [10,1] 12 22::zq [10,11,12] 13 23::zq [10,13,11] 14 24::zq [10,14,11] 15 25::zq [10,15] 16 26::zq [10,16] 17 27::zq [10,17] 18 28::zq [18] 19 29::zq [19,0] 20 30::zq [19,1] 21 31::zq [19,20,21] 22 32::zq [19,22,20] 23 33::zq [19,23,20] 24 34::zq [19,24] 25 35::zq [19,25] 26 36::zq [19,26] 27 37::[]) [(_,_),(_,_),(_,_)] rfl ⟨z1 rfl,z1 rfl,zp rfl (op_ix_fr _ _ _ _ _ _ _ _ underlying33 sz39 (by decide) rfl rfl rfl (ix_ok hv3).1 (gflat_lt T_Rec.ilen (ix_ok hv3).2) rfl),zp rfl (op_fieldAddr_e _ _ _ _ _ _ _ underlying39 rfl sz25 rfl rfl rfl),zp rfl (op_load_fr _ _ _ _ _ _ _ underlying25 rfl rfl rfl (gflat_cell T_Rec.ilen hv4 rfl) (.fl _ _ rfl)),zp rfl (op_len_fl _ _ _ underlying25 rfl (by decide) (map_len _)),z4 rfl rfl,z8 hg6_7 rfl,zr' rfl (oM rfl),zr' rfl (oM rfl),zr' rfl (op_ix_fr _ _ _ _ _ _ _ _ underlying33 sz39 (by decide) rfl rfl rfl (ix_ok hv5).1 (gflat_lt T_Rec.ilen (ix_ok hv5).2) rfl),zr' rfl (op_fieldAddr_e _ _ _ _ _ _ _ underlying39 rfl sz37 rfl rfl rfl),zr' rfl (op_load_fr _ _ _ _ _ _ _ underlying37 rfl rfl rfl (gflat_cell T_Rec.ilen hv6 rfl) (.fl _ _ rfl)),zr' rfl (op_len_fl _ _ _ underlying37 rfl (by decide) (map_len _)),zr' rfl (oB rfl rfl),z3 false rfl,z8 hg6_16 rfl,zr' rfl (oM rfl),zr' rfl (oM rfl),zr' rfl (op_ix_fr _ _ _ _ _ _ _ _ underlying33 sz39 (by decide) rfl rfl rfl (ix_ok hv7).1 (gflat_lt T_Rec.ilen (ix_ok hv7).2) rfl),zr' rfl (op_fieldAddr_e _ _ _ _ _ _ _ underlying39 rfl sz36 rfl rfl rfl),zr' rfl (op_loadA_fr _ _ _ _ _ _ _ _ underlying36 rfl sz36 rfl rfl (gflat_seg T_Rec.ilen hv8 (zl rfl) rfl) (.cons (.v _) (.cons (.v _) (.cons (.v _) (.cons (.fl _ _ rfl) (.cons (.fl _ _ rfl) (.cons (.v _) (.cons (.v _) (.cons (.v _) (.nil))))))))) rfl (by decide)),zr' rfl (op_build1_fr _ _ _ 8 (.agg #[.bool false, .string ByteArray.empty, .string ByteArray.empty, .slice none 0 0, .slice none 0 0, .bool false, .string ByteArray.empty, .int .i64 0]) true _ _ underlying56 sz36 zr36 rfl rfl (.cons (.v _) (.cons (.v _) (.cons (.v _) (.cons (.shr _ _ rfl rfl) (.cons (.shr _ _ rfl rfl) (.cons (.v _) (.cons (.v _) (.cons (.v _) (.nil))))))))) rfl (by decide) (by decide)),zr' rfl (op_call _ _ 19 _ _ rfl call19 rfl (ok_wherrylaw17_Heavy [(T_Mail.mk (T_Path.mk v8.Mail.From.Null v8.Mail.From.Local v8.Mail.From.Domain) v8.Mail.To v8.Mail.Body v8.Mail.Quiet v8.Mail.Helo v8.Mail.At)] _ hv9) rfl rfl),z3 false rfl,zz⟩ ?_
        exact hl39 _ (zi h).symm
    ·have h := cond_f hb36 h
     refine ht_exit ?_
     refine pt_x_then ?_
     refine pt_x_then ?_
     refine pt_x_in ?_
     refine pt_pick [] (by kernel_rfl) (es' := []) rfl ?_
     exact hl31 _ (ho33 _ (zi h).symm).symm
theorem ok_wherryref18_Nothing (r : T_Spool) (h : Sh.wherryref18_Nothing  = some r) : FnOK Tryd.prog 28 [] (.agg [.fr (.own 75) false 11 (flatten (map T_Item.ienc r.Items)), .v (.int .i64 r.Packs), .fl (.own 3) 1 (map (int .i64) r.Sent), .fl (.own 5) 1 (map (int .u8) r.Part), .v (.int .i64 r.Of), .fl (.own 3) 1 (map (int .i64) r.Done)]) := by
  unfold Sh.wherryref18_Nothing at h
  refine fn_ok func28 rfl (zl rfl) rfl rfl fun g0 hn hio => ?_
  refine zgg hn [(0,.box 43 [vz,vi 0,vz,vz,vi 0,vz])] [] [0] [zq [] 0 0] [(_,_)] rfl ⟨zp rfl (op_alloc _ _ zr43),zz⟩ ?_
  refine zgg hn [_,(1,.agg [vz,vi 0,vz,vz,vi (-1),vz]),(0,.box 43 [vz,vi 0,vz,vz,vi (-1),vz])] [0] [2] [zq [] 1 1,⟨[1],[0],[2],[.cell 0 0,.cell 0 1,.cell 0 2,.cell 0 3,.cell 0 4,.cell 0 5]⟩] [(_,_)] rfl ⟨zp rfl (op_build _ _ _ _ [1, 1, 1, 1, 1, 1] _ _ underlying43 zr43 (fs43 _ underlying43) (.copy _ Src.nil) rfl rfl rfl),zp rfl (oS sz43 rfl),zz⟩ ?_
  refine ht_ret ?_
  refine pt_sub (fs := [(0,.box 43 [.fr (.own 75) false 11 (flatten (map T_Item.ienc [])),vi 0,.fl (.own 3) 1 (map (int .i64) []),.fl (.own 5) 1 (map (int .u8) []),vi (-1),.fl (.own 3) 1 (map (int .i64) [])])]) (.box _ _ (subs_cons (sub_nil_fr 75 false 11) (subs_cons (sub_refl _) (subs_cons (sub_nil 3 1) (subs_cons (sub_nil 5 1) (subs_cons (sub_refl _) (subs_cons (sub_nil 3 1) (subs_nil))))))) rfl .nil) ?_
  obtain rfl := zi h
  exact pt_ret hio rfl (.cellA _ _ _ _ underlying43 rfl sz43 .nil) rfl rfl
theorem ok_wherrykeep_TwinInts (l : (List Int)) (r : (List Int)) (h : Sh.wherrykeep_TwinInts l = some r) : FnOK Tryd.prog 44 [.fl .shr 1 (map (int .i64) l)] (.fl (.own 3) 1 (map (int .i64) r)) := by
  unfold Sh.wherrykeep_TwinInts at h
  refine fn_ok func44 rfl (zl rfl) rfl rfl fun g0 hn hio => ?_
  refine zgg hn [_,(2,vz)] [0] [0] [zq [] 1 2] [(_,_)] rfl ⟨z2 rfl,zz⟩ ?_
  refine zgg hn [_,(3,vz)] [0] [0,1] [zq [] 1 3] [(_,_),(_,_)] rfl ⟨z2 rfl,zz⟩ ?_
  refine ht_seq ?_
  obtain ⟨v1, hv1, h⟩ := zn h
  refine zg hn [_,_,(4,vz),(5,fi l),(6,.fl (.own 3) 1 (map (int .i64) v1)),(2,.fl (.own 3) 1 (map (int .i64) v1))] [0,1] [5] [zq [1] 2 4,zq [0] 3 5,zq [2,3] 4 6,⟨[],[4],[5],[(.slot 2)]⟩] [(_,_)] rfl ⟨z1 rfl,z1 rfl,zp rfl (op_app_nil _ _ _ _ el37 rfl rfl (map_len _) hv1 (congrArg (map _) (app_nil_eq hv1))),zp rfl (op_assign_take _ _ _ _ rfl),zz⟩ ?_
  refine pt_then (ht_ret ?_)
  obtain rfl := zi h
  exact pt_ret hio rfl (.tmp _ _ .nil) rfl rfl
theorem ok_wherrykeep_Twin (l : (List Int)) (r : (List Int)) (h : Sh.wherrykeep_Twin l = some r) : FnOK Tryd.prog 25 [.fl .shr 1 (map (int .u8) l)] (.fl (.own 5) 1 (map (int .u8) r)) := by
  unfold Sh.wherrykeep_Twin at h
  refine fn_ok func25 rfl (zl rfl) rfl rfl fun g0 hn hio => ?_
  refine zgg hn [_,(2,vz)] [0] [0] [zq [] 1 2] [(_,_)] rfl ⟨z2 rfl,zz⟩ ?_
  refine zgg hn [_,(3,vz)] [0] [0,1] [zq [] 1 3] [(_,_),(_,_)] rfl ⟨z2 rfl,zz⟩ ?_
  refine ht_seq ?_
  obtain ⟨v1, hv1, h⟩ := zn h
  refine zg hn [_,_,(4,vz),(5,fb l),(6,.fl (.own 5) 1 (map (int .u8) v1)),(2,.fl (.own 5) 1 (map (int .u8) v1))] [0,1] [5] [zq [1] 2 4,zq [0] 3 5,zq [2,3] 4 6,⟨[],[4],[5],[(.slot 2)]⟩] [(_,_)] rfl ⟨z1 rfl,z1 rfl,zp rfl (op_app_nil _ _ _ _ el25 rfl rfl (map_len _) hv1 (congrArg (map _) (app_nil_eq hv1))),zp rfl (op_assign_take _ _ _ _ rfl),zz⟩ ?_
  refine pt_then (ht_ret ?_)
  obtain rfl := zi h
  exact pt_ret hio rfl (.tmp _ _ .nil) rfl rfl
theorem ok_wherrykeep_TwinPaths (l : (List T_Path)) (r : (List T_Path)) (h : Sh.wherrykeep_TwinPaths l = some r) : FnOK Tryd.prog 46 [.fl .shr 3 (flatten (map T_Path.enc l))] (.fl (.own 24) 3 (flatten (map T_Path.enc r))) := by
  unfold Sh.wherrykeep_TwinPaths at h
  refine fn_ok func46 rfl (zl rfl) rfl rfl fun g0 hn hio => ?_
  refine zgg hn [_,(2,vz)] [0] [0] [zq [] 1 2] [(_,_)] rfl ⟨z2 rfl,zz⟩ ?_
  refine zgg hn [_,(3,vz)] [0] [0,1] [zq [] 1 3] [(_,_),(_,_)] rfl ⟨z2 rfl,zz⟩ ?_
  refine ht_seq ?_
  obtain ⟨v1, hv1, h⟩ := zn h
  refine zg hn [_,_,(4,vz),(5,.fl .shr 3 (flatten (map T_Path.enc l))),(6,.fl (.own 24) 3 (flatten (map T_Path.enc v1))),(2,.fl (.own 24) 3 (flatten (map T_Path.enc v1)))] [0,1] [5] [zq [1] 2 4,zq [0] 3 5,zq [2,3] 4 6,⟨[],[4],[5],[(.slot 2)]⟩] [(_,_)] rfl ⟨z1 rfl,z1 rfl,zp rfl (op_app_nil _ _ _ _ el34 rfl rfl (flat_len T_Path.len _) hv1 (congrArg (fun l => flatten (map _ l)) (app_nil_eq hv1))),zp rfl (op_assign_take _ _ _ _ rfl),zz⟩ ?_
  refine pt_then (ht_ret ?_)
  obtain rfl := zi h
  exact pt_ret hio rfl (.tmp _ _ .nil) rfl rfl
theorem ok_wherrykeep_TwinMail (m : T_Mail) (r : T_Mail) (h : Sh.wherrykeep_TwinMail m = some r) : FnOK Tryd.prog 32 [.agg [.v (.bool m.From.Null), .v (.string m.From.Local), .v (.string m.From.Domain), .fl .shr 3 (flatten (map T_Path.enc m.To)), .fl .shr 1 (map (int .u8) m.Body), .v (.bool m.Quiet), .v (.string m.Helo), .v (.int .i64 m.At)]] (.agg [.v (.bool r.From.Null), .v (.string r.From.Local), .v (.string r.From.Domain), .fl (.own 24) 3 (flatten (map T_Path.enc r.To)), .fl (.own 5) 1 (map (int .u8) r.Body), .v (.bool r.Quiet), .v (.string r.Helo), .v (.int .i64 r.At)]) := by
  unfold Sh.wherrykeep_TwinMail at h
  refine fn_ok func32 rfl (zl rfl) rfl rfl fun g0 hn hio => ?_
  refine zgg hn [_,(1,.box 36 (T_Mail.c m [])),(2,.box 36 [vb false,vs z0,vs z0,vz,vz,vb false,vs z0,vi 0])] [0] [1,2] [zq [0] 1 1,zq [] 2 2] [(_,_),(_,_)] rfl ⟨zp rfl (op_box _ _ _ _ rfl rfl rfl),zp rfl (op_alloc _ _ zr36),zz⟩ ?_
  refine ht_seq ?_
  obtain ⟨v1, hv1, h⟩ := zn h
  obtain ⟨v2, hv2, h⟩ := zn h
  refine ht_anyR (by kernel_rfl) hn (El := [_,_,(3,.ptr 1 3),(4,.fl .shr 3 (flatten (map T_Path.enc m.To))),(5,.fl (.own 24) 3 (flatten (map T_Path.enc v1))),(6,.ptr 1 4),(7,fb m.Body),(8,.fl (.own 5) 1 (map (int .u8) v2)),(9,.ptr 1 3),(1,.box 36 [vb m.From.Null,vs m.From.Local,vs m.From.Domain,.fl (.own 24) 3 (flatten (map T_Path.enc v1)),fb m.Body,vb m.Quiet,vs m.Helo,vi m.At]),(10,.ptr 1 4),(1,.box 36 [vb m.From.Null,vs m.From.Local,vs m.From.Domain,.fl (.own 24) 3 (flatten (map T_Path.enc v1)),.fl (.own 5) 1 (map (int .u8) v2),vb m.Quiet,vs m.Helo,vi m.At])]) (init := [0,1]) (fin := [11,1]) (sps := [zq [0] 2 3,zq [2,0] 3 4,zq [3] 4 5,zq [0] 5 6,zq [5,0] 6 7,zq [6] 7 8,zq [0] 8 9,⟨[8],[4,0],[9],[.cell 1 3]⟩,zq [9] 10 10,⟨[10],[7,9],[11],[.cell 1 4]⟩]) (es' := [(1,.box 36 [vb m.From.Null,vs m.From.Local,vs m.From.Domain,.fl (.own 24) 3 (flatten (map T_Path.enc v1)),.fl (.own 5) 1 (map (int .u8) v2),vb m.Quiet,vs m.Helo,vi m.At]),(_,_)]) (by kernel_rfl) rfl rfl ⟨zp rfl (oF underlying36 rfl sz34),zp rfl (oL underlying34 rfl),zp rfl (op_call _ _ 46 _ _ rfl call46 rfl (ok_wherrykeep_TwinPaths m.To _ hv1) rfl rfl),zp rfl (oF underlying36 rfl sz25),zp rfl (oL underlying25 rfl),zp rfl (op_call _ _ 25 _ _ rfl call25 rfl (ok_wherrykeep_Twin m.Body _ hv2) rfl rfl),zp rfl (oF underlying36 rfl sz34),zp rfl (op_store_take _ _ _ _ _ _ _ _ sz34 rfl rfl rfl (zl rfl) rfl rfl),zp rfl (oF underlying36 rfl sz25),zp rfl (op_store_take _ _ _ _ _ _ _ _ sz25 rfl rfl rfl (zl rfl) rfl rfl),zz⟩ ?_
  refine pt_then ?_
  refine zgg hn [_,_,(11,.agg [vb m.From.Null,vs m.From.Local,vs m.From.Domain,.fl (.own 24) 3 (flatten (map T_Path.enc v1)),.fl (.own 5) 1 (map (int .u8) v2),vb m.Quiet,vs m.Helo,vi m.At]),(2,.box 36 [vb m.From.Null,vs m.From.Local,vs m.From.Domain,.fl (.own 24) 3 (flatten (map T_Path.enc v1)),.fl (.own 5) 1 (map (int .u8) v2),vb m.Quiet,vs m.Helo,vi m.At])] [0,1] [3] [⟨[],[0],[2],[(.slot 11)]⟩,⟨[],[2,1],[3],[.cell 2 0,.cell 2 1,.cell 2 2,.cell 2 3,.cell 2 4,.cell 2 5,.cell 2 6,.cell 2 7]⟩] [(_,_)] rfl ⟨zp rfl (op_loadA_take _ _ _ _ underlying36 rfl sz36 rfl rfl),zp rfl (op_store_take _ _ _ _ _ _ _ _ sz36 rfl rfl rfl (zl rfl) rfl rfl),zz⟩ ?_
  refine ht_ret ?_
  obtain rfl := zi h
  exact pt_ret hio rfl (.cellA _ _ _ _ underlying36 rfl sz36 .nil) rfl rfl
theorem ok_wherrykeep_TwinSpool (s : T_Spool) (r : T_Spool) (h : Sh.wherrykeep_TwinSpool s = some r) : FnOK Tryd.prog 29 [.agg [.fr .shr true 11 (flatten (map T_Item.ienc s.Items)), .v (.int .i64 s.Packs), .fl .shr 1 (map (int .i64) s.Sent), .fl .shr 1 (map (int .u8) s.Part), .v (.int .i64 s.Of), .fl .shr 1 (map (int .i64) s.Done)]] (.agg [.fr (.own 75) false 11 (flatten (map T_Item.ienc r.Items)), .v (.int .i64 r.Packs), .fl (.own 3) 1 (map (int .i64) r.Sent), .fl (.own 5) 1 (map (int .u8) r.Part), .v (.int .i64 r.Of), .fl (.own 3) 1 (map (int .i64) r.Done)]) := by
  unfold Sh.wherrykeep_TwinSpool at h
  refine fn_ok func29 rfl (zl rfl) rfl rfl fun g0 hn hio => ?_
  refine zgg hn [_,(1,.box 43 (T_Spool.c s [])),(2,.box 43 [vz,vi 0,vz,vz,vi 0,vz])] [0] [1,2] [zq [0] 1 1,zq [] 2 2] [(_,_),(_,_)] rfl ⟨zp rfl (op_box _ _ _ _ rfl rfl rfl),zp rfl (op_alloc _ _ zr43),zz⟩ ?_
  refine ht_seq ?_
  obtain ⟨v1, hv1, h⟩ := zn h
  obtain ⟨v2, hv2, h⟩ := zn h
  obtain ⟨v3, hv3, h⟩ := zn h
  refine ht_anyR (by kernel_rfl) hn (El := (_ :: _ :: (6,.ptr 1 1) :: (7,vi s.Packs) :: (8,.ptr 1 2) :: (9,fi s.Sent) :: (10,.fl (.own 3) 1 (map (int .i64) v1)) :: (11,.ptr 1 3) :: (12,fb s.Part) :: (13,.fl (.own 5) 1 (map (int .u8) v2)) :: (14,.ptr 1 4) :: (15,vi s.Of) :: (16,.ptr 1 5) :: (17,fi s.Done) :: (18,.fl (.own 3) 1 (map (int .i64) v3)) :: (19,.agg [vz,vi s.Packs,.fl (.own 3) 1 (map (int .i64) v1),.fl (.own 5) 1 (map (int .u8) v2),vi s.Of,.fl (.own 3) 1 (map (int .i64) v3)]) :: (3,.box 43 [vz,vi 0,vz,vz,vi 0,vz]) :: (3,.box 43 [vz,vi s.Packs,.fl (.own 3) 1 (map (int .i64) v1),.fl (.own 5) 1 (map (int .u8) v2),vi s.Of,.fl (.own 3) 1 (map (int .i64) v3)]) :: [])) (init := [0,1]) (fin := [0,1,17]) (sps := (zq [0] 2 6 :: zq [2,0] 3 7 :: zq [0] 4 8 :: zq [4,0] 5 9 :: zq [5] 6 10 :: zq [0] 7 11 :: zq [7,0] 8 12 :: zq [8] 9 13 :: zq [0] 10 14 :: zq [10,0] 11 15 :: zq [0] 12 16 :: zq [12,0] 13 17 :: zq [13] 14 18 :: ⟨[3,11],[6,9,14],[15],[(.slot 19)]⟩ :: zq [] 16 3 :: ⟨[],[15,16],[17],[.cell 3 0,.cell 3 1,.cell 3 2,.cell 3 3,.cell 3 4,.cell 3 5]⟩ :: [])) (es' := [(_,_),(_,_),(3,.box 43 [vz,vi s.Packs,.fl (.own 3) 1 (map (int .i64) v1),.fl (.own 5) 1 (map (int .u8) v2),vi s.Of,.fl (.own 3) 1 (map (int .i64) v3)])]) (by kernel_rfl) rfl rfl ⟨zp rfl (oF underlying43 rfl sz3),zp rfl (oL underlying3 rfl),zp rfl (oF underlying43 rfl sz37),zp rfl (oL underlying37 rfl),zp rfl (op_call _ _ 44 _ _ rfl call44 rfl (ok_wherrykeep_TwinInts s.Sent _ hv1) rfl rfl),zp rfl (oF underlying43 rfl sz25),zp rfl (oL underlying25 rfl),zp rfl (op_call _ _ 25 _ _ rfl call25 rfl (ok_wherrykeep_Twin s.Part _ hv2) rfl rfl),zp rfl (oF underlying43 rfl sz3),zp rfl (oL underlying3 rfl),zp rfl (oF underlying43 rfl sz37),zp rfl (oL underlying37 rfl),zp rfl (op_call _ _ 44 _ _ rfl call44 rfl (ok_wherrykeep_TwinInts s.Done _ hv3) rfl rfl),zp rfl (op_build _ _ _ _ [1,1,1,1,1,1] _ _ underlying43 zr43 (fs43 _ underlying43) (.copy _ (.take _ _ (.take _ _ (.copy _ (.take _ _ Src.nil))))) rfl rfl rfl),zp rfl (op_alloc _ _ zr43),zp rfl (op_store_take _ _ _ _ _ _ _ _ sz43 rfl rfl rfl (zl rfl) rfl rfl),zz⟩ ?_
  refine pt_then (ht_seq ?_)
  refine zgg hn [_,_,_,(4,vi 0)] [0,1,2] [0,1,2,3] [zq [] 3 4] [(_,_),(_,_),(_,_),(_,_)] rfl ⟨z2 rfl,zz⟩ ?_
  refine ht_sub (fs := [(1,.box 43 (T_Spool.c s [])),(2,.box 43 [vz,vi 0,vz,vz,vi 0,vz]),(3,.box 43 [.fr (.own 75) false 11 (flatten (map T_Item.ienc [])),vi s.Packs,.fl (.own 3) 1 (map (int .i64) v1),.fl (.own 5) 1 (map (int .u8) v2),vi s.Of,.fl (.own 3) 1 (map (int .i64) v3)]),(4,vi 0)]) (.same _ (.same _ (.box _ _ (subs_cons (sub_nil_fr 75 false 11) (subs_cons (sub_refl _) (subs_cons (sub_refl _) (subs_cons (sub_refl _) (subs_cons (sub_refl _) (subs_cons (sub_refl _) (subs_nil))))))) rfl (.same _ .nil)))) ?_
  refine ht_loopS h (fun ((s13,s14) : (List T_Item) × Int) => [(1,.box 43 (T_Spool.c s [])),(2,.box 43 [vz,vi 0,vz,vz,vi 0,vz]),(3,.box 43 [.fr (.own 75) false 11 (flatten (map T_Item.ienc s13)),vi s.Packs,.fl (.own 3) 1 (map (int .i64) v1),.fl (.own 5) 1 (map (int .u8) v2),vi s.Of,.fl (.own 3) 1 (map (int .i64) v3)]),(4,vi s14)]) (fun (s16 : (List T_Item)) => [(2,.box 43 [vz,vi 0,vz,vz,vi 0,vz]),(3,.box 43 [.fr (.own 75) false 11 (flatten (map T_Item.ienc s16)),vi s.Packs,.fl (.own 3) 1 (map (int .i64) v1),.fl (.own 5) 1 (map (int .u8) v2),vi s.Of,.fl (.own 3) 1 (map (int .i64) v3)])]) ?_ ?_
  ·rintro s16 h
   refine pt_then ?_
   refine zgg hn [_,_,(42,.agg [.fr (.own 75) false 11 (flatten (map T_Item.ienc s16)),vi s.Packs,.fl (.own 3) 1 (map (int .i64) v1),.fl (.own 5) 1 (map (int .u8) v2),vi s.Of,.fl (.own 3) 1 (map (int .i64) v3)]),(2,.box 43 [.fr (.own 75) false 11 (flatten (map T_Item.ienc s16)),vi s.Packs,.fl (.own 3) 1 (map (int .i64) v1),.fl (.own 5) 1 (map (int .u8) v2),vi s.Of,.fl (.own 3) 1 (map (int .i64) v3)])] [0,1] [3] [⟨[],[1],[2],[(.slot 42)]⟩,⟨[],[2,0],[3],[.cell 2 0,.cell 2 1,.cell 2 2,.cell 2 3,.cell 2 4,.cell 2 5]⟩] [(_,_)] rfl ⟨zp rfl (op_loadA_take _ _ _ _ underlying43 rfl sz43 rfl rfl),zp rfl (op_store_take _ _ _ _ _ _ _ _ sz43 rfl rfl rfl (zl rfl) rfl rfl),zz⟩ ?_
   refine ht_ret ?_
   obtain rfl := zi h
   exact pt_ret hio rfl (.cellA _ _ _ _ underlying43 rfl sz43 .nil) rfl rfl
  ·rintro u17 hl18 hr19 ⟨s13, s14⟩ rr22 h ho20
   refine ht_seq ?_
   refine zgg hn [_,_,_,_,(20,vi s14),(21,.ptr 1 0),(22,.fr .shr true 11 (flatten (map T_Item.ienc s.Items))),(23,vi (s.Items.length : Int)),(24,vb (decide (s14 < (s.Items.length : Int))))] [0,1,2,3] [0,1,2,3,8] [zq [3] 4 20,zq [0] 5 21,zq [5,0] 6 22,zq [6] 7 23,zq [4,7] 8 24] [(_,_),(_,_),(_,_),(_,_),(_,_)] rfl ⟨z1 rfl,zp rfl (oF underlying43 rfl sz41),zp rfl (oL underlying41 rfl),zp rfl (op_len_fr _ _ _ underlying41 rfl (by decide) (gflat_len T_Item.ilen _)),z4 rfl rfl,zz⟩ ?_
   refine ht_cond _ rfl (fun hb23 => ?_) (fun hb23 => ?_)
   ·have h := cond_t hb23 h
    refine ht_skip ?_
    refine pt_then (ht_seq ?_)
    refine ht_block ?_
    refine ht_seq ?_
    obtain ⟨v5, hv5, h⟩ := zn h
    obtain ⟨v6, hv6, h⟩ := zn h
    refine zg hn [_,_,_,_,_,(27,.ptr 1 0),(28,.fr .shr true 11 (flatten (map T_Item.ienc s.Items))),(29,vi s14),(30,.eref (.slot 28) (v5 * 11)),(31,.agg (T_Item.c v6 [])),(5,.box 75 [vi 0,vb false,vs z0,vs z0,vz,vz,vb false,vs z0,vi 0,vi 0,vi 0]),(5,.box 75 (T_Item.c v6 []))] [0,1,2,3,4] [0,1,2,3,11] [zq [0] 5 27,zq [5,0] 6 28,zq [3] 7 29,zq [6,7] 8 30,zq [8,6] 9 31,zq [] 10 5,⟨[9],[10],[11],[.cell 5 0,.cell 5 1,.cell 5 2,.cell 5 3,.cell 5 4,.cell 5 5,.cell 5 6,.cell 5 7,.cell 5 8,.cell 5 9,.cell 5 10]⟩] [(_,_),(_,_),(_,_),(_,_),(_,_)] rfl ⟨zp rfl (oF underlying43 rfl sz41),zp rfl (oL underlying41 rfl),z1 rfl,zp rfl (op_ix_fr _ _ _ _ _ _ _ _ underlying41 sz75 (by decide) rfl rfl rfl (ix_ok hv5).1 (gflat_lt T_Item.ilen (ix_ok hv5).2) rfl),zp rfl (op_loadA_fr _ _ _ _ _ _ _ _ underlying75 rfl sz75 rfl rfl (gflat_get T_Item.ilen hv6) (.cons (.v _) (.cons (.v _) (.cons (.v _) (.cons (.v _) (.cons (.fl _ _ rfl) (.cons (.fl _ _ rfl) (.cons (.v _) (.cons (.v _) (.cons (.v _) (.cons (.v _) (.cons (.v _) (.nil)))))))))))) rfl (by decide)),zp rfl (op_alloc _ _ zr75),zp rfl (oS sz75 rfl),zz⟩ ?_
    refine pt_then (ht_seq ?_)
    obtain ⟨v7, hv7, h⟩ := zn h
    refine zg hn [_,_,_,_,_,(32,.ptr 5 1),(33,.agg (T_Mail.c v6.Mail [])),(34,.agg [vb v7.From.Null,vs v7.From.Local,vs v7.From.Domain,.fl (.own 24) 3 (flatten (map T_Path.enc v7.To)),.fl (.own 5) 1 (map (int .u8) v7.Body),vb v7.Quiet,vs v7.Helo,vi v7.At]),(35,.ptr 5 1),(5,.box 75 [vi v6.Id,vb v7.From.Null,vs v7.From.Local,vs v7.From.Domain,.fl (.own 24) 3 (flatten (map T_Path.enc v7.To)),.fl (.own 5) 1 (map (int .u8) v7.Body),vb v7.Quiet,vs v7.Helo,vi v7.At,vi v6.State,vi v6.Pack])] [0,1,2,3,4] [0,1,2,3,9] [zq [4] 5 32,zq [5,4] 6 33,zq [6] 7 34,zq [4] 8 35,⟨[8],[7,4],[9],[.cell 5 1,.cell 5 2,.cell 5 3,.cell 5 4,.cell 5 5,.cell 5 6,.cell 5 7,.cell 5 8]⟩] [(_,_),(_,_),(_,_),(_,_),(_,_)] rfl ⟨zp rfl (oF underlying75 rfl sz36),zp rfl (op_loadA _ _ _ _ _ _ _ underlying36 rfl sz36 rfl rfl (zl rfl) rfl rfl),zp rfl (op_call _ _ 32 _ _ rfl call32 rfl (ok_wherrykeep_TwinMail ((T_Mail.mk (T_Path.mk v6.Mail.From.Null v6.Mail.From.Local v6.Mail.From.Domain) v6.Mail.To v6.Mail.Body v6.Mail.Quiet v6.Mail.Helo v6.Mail.At)) _ hv7) rfl rfl),zp rfl (oF underlying75 rfl sz36),zp rfl (op_store_take _ _ _ _ _ _ _ _ sz36 rfl rfl rfl (zl rfl) rfl rfl),zz⟩ ?_
    refine pt_then ?_
    obtain ⟨v8, hv8, h⟩ := zn h
    refine zg hn [_,_,_,_,_,(36,.ptr 3 0),(37,.same (.cell 3 0)),(38,.agg [vi v6.Id,vb v7.From.Null,vs v7.From.Local,vs v7.From.Domain,.fl (.own 24) 3 (flatten (map T_Path.enc v7.To)),.fl (.own 5) 1 (map (int .u8) v7.Body),vb v7.Quiet,vs v7.Helo,vi v7.At,vi v6.State,vi v6.Pack]),(39,.fr (.own 75) false 11 (flatten (map T_Item.ienc [(T_Item.mk v6.Id ((T_Mail.mk (T_Path.mk v7.From.Null v7.From.Local v7.From.Domain) v7.To v7.Body v7.Quiet v7.Helo v7.At)) v6.State v6.Pack)]))),(40,.fr (.own 75) false 11 (flatten (map T_Item.ienc v8))),(3,.box 43 [.any,vi s.Packs,.fl (.own 3) 1 (map (int .i64) v1),.fl (.own 5) 1 (map (int .u8) v2),vi s.Of,.fl (.own 3) 1 (map (int .i64) v3)]),(41,.ptr 3 0),(3,.box 43 [.fr (.own 75) false 11 (flatten (map T_Item.ienc v8)),vi s.Packs,.fl (.own 3) 1 (map (int .i64) v1),.fl (.own 5) 1 (map (int .u8) v2),vi s.Of,.fl (.own 3) 1 (map (int .i64) v3)])] [0,1,2,3,4] [0,1,12,3] [zq [2] 5 36,zq [5,2] 6 37,⟨[],[4],[7],[(.slot 38)]⟩,⟨[],[7],[8],[(.slot 39)]⟩,⟨[6,8],[2],[10,9],[(.slot 40)]⟩,zq [10] 11 41,⟨[11],[6,9,10],[12],[.cell 3 0]⟩] [(_,_),(_,_),(_,_),(_,_)] rfl ⟨zp rfl (oF underlying43 rfl sz41),zp rfl (oL underlying41 rfl),zp rfl (op_loadA_take _ _ _ _ underlying75 rfl sz75 rfl rfl),zp rfl (op_build1_fr_take _ _ _ 11 (.agg #[.int .i64 0, .bool false, .string ByteArray.empty, .string ByteArray.empty, .slice none 0 0, .slice none 0 0, .bool false, .string ByteArray.empty, .int .i64 0, .int .i64 0, .int .i64 0]) false _ _ underlying41 sz75 zr75 rfl (.cons (.v _) (.cons (.v _) (.cons (.v _) (.cons (.v _) (.cons (.ro _ _ rfl) (.cons (.ro _ _ rfl) (.cons (.v _) (.cons (.v _) (.cons (.v _) (.cons (.v _) (.cons (.v _) (.nil)))))))))))) rfl (by decide) (by decide)),zp rfl (op_app_fr_cell _ 40 3 0 _ _ el41 rfl rfl (zl rfl) rfl (gflat_len T_Item.ilen _) (gflat_len T_Item.ilen _) hv8 (gflat_app (app_eq hv8)) (by decide) (by decide) (by decide) rfl rfl),zp rfl (oF underlying43 rfl sz41),zp rfl (LOp.drop [_] (op_store_take _ _ _ _ _ _ _ _ sz41 rfl rfl rfl (zl rfl) rfl rfl)),zz⟩ ?_
    refine pt_inb ?_
    refine pt_then ?_
    obtain ⟨v9, hv9, h⟩ := zn h
    refine zg hn [_,_,_,_,(25,vi s14),(26,vi v9),(4,vi v9)] [0,1,2,3] [0,1,2,6] [zq [3] 4 25,zq [4] 5 26,⟨[5],[3],[6],[(.slot 4)]⟩] [(_,_),(_,_),(_,_),(_,_)] rfl ⟨z1 rfl,zp rfl (oB rfl (ibind (f := int .i64) (Option.some.inj hv9))),zp rfl (LOp.drop [_] (op_assign _ _ _ _ rfl rfl)),zz⟩ ?_
    exact pt_next _ (zi h).symm rfl
   ·have h := cond_f hb23 h
    refine ht_exit ?_
    refine pt_x_then ?_
    refine pt_x_then ?_
    refine pt_x_in ?_
    refine pt_pick [1,2] (by kernel_rfl) (es' := [(_,_),(_,_)]) rfl ?_
    exact hl18 _ (ho20 _ (zi h).symm).symm
theorem ok_wherryref18_in (n : Int) (lo : Int) (hi : Int) (r : Bool) (h : Sh.wherryref18_in n lo hi = some r) : FnOK Tryd.prog 30 [.v (.int .i64 n), .v (.int .i64 lo), .v (.int .i64 hi)] (.v (.bool r)) := by
  unfold Sh.wherryref18_in at h
  refine fn_ok func30 rfl (zl rfl) rfl rfl fun g0 hn hio => ?_
  refine zgg hn [_,_,_,(6,vb false)] [0,1,2] [0,1,2] [zq [] 3 6] [(_,_),(_,_),(_,_)] rfl ⟨z2 rfl,zz⟩ ?_
  refine ht_seq ?_
  refine ht_joinS h (fun (s1 : Bool) => [(6,vb s1)]) ?_ ?_
  ·rintro s1 h
   refine pt_then (ht_ret ?_)
   obtain rfl := zi h
   exact pt_ret hio rfl (.tmp _ _ .nil) rfl rfl
  ·intro u2 h hl3 hr4
   refine cond_some h (fun hg1_3 h => ?_) (fun hg1_3 h => ?_)
   ·refine zg hn [_,_,_,(7,vi n),(8,vi lo),(9,vb (decide (lo ≤ n))),(10,vb true),(11,vi n),(12,vi hi),(13,vb (decide (n ≤ hi))),(14,vb (decide (n ≤ hi))),(6,vb (decide (n ≤ hi)))] [0,1,2] [11] [zq [0] 3 7,zq [1] 4 8,zq [3,4] 5 9,zq [5] 6 10,zq [6,0] 7 11,zq [6,2] 8 12,zq [6,7,8] 9 13,zq [6,9] 10 14,zq [10] 11 6] [(_,_)] rfl ⟨z1 rfl,z1 rfl,z4 rfl rfl,z8 hg1_3 rfl,zr' rfl (oM rfl),zr' rfl (oM rfl),zr' rfl (oB rfl rfl),z3 true rfl,z2 rfl,zz⟩ ?_
    exact hl3 _ (zi h).symm
   ·refine zg hn [_,_,_,(7,vi n),(8,vi lo),(9,vb (decide (lo ≤ n))),(10,vb false),(11,.v undef),(12,.v undef),(13,.v undef),(14,vb false),(6,vb false)] [0,1,2] [11] [zq [0] 3 7,zq [1] 4 8,zq [3,4] 5 9,zq [5] 6 10,zq [6] 7 11,zq [6] 8 12,zq [6] 9 13,zq [6] 10 14,zq [10] 11 6] [(_,_)] rfl ⟨z1 rfl,z1 rfl,z4 rfl rfl,z8 hg1_3 rfl,zt rfl,zt rfl,zt rfl,z3 false rfl,z2 rfl,zz⟩ ?_
    exact hl3 _ (zi h).symm
theorem ok_wherryref11_in (n : Int) (lo : Int) (hi : Int) (r : Bool) (h : Sh.wherryref11_in n lo hi = some r) : FnOK Tryd.prog 50 [.v (.int .i64 n), .v (.int .i64 lo), .v (.int .i64 hi)] (.v (.bool r)) := by
  unfold Sh.wherryref11_in at h
  refine fn_ok func50 rfl (zl rfl) rfl rfl fun g0 hn hio => ?_
  refine zgg hn [_,_,_,(6,vb false)] [0,1,2] [0,1,2] [zq [] 3 6] [(_,_),(_,_),(_,_)] rfl ⟨z2 rfl,zz⟩ ?_
  refine ht_seq ?_
  refine ht_joinS h (fun (s1 : Bool) => [(6,vb s1)]) ?_ ?_
  ·rintro s1 h
   refine pt_then (ht_ret ?_)
   obtain rfl := zi h
   exact pt_ret hio rfl (.tmp _ _ .nil) rfl rfl
  ·intro u2 h hl3 hr4
   refine cond_some h (fun hg1_3 h => ?_) (fun hg1_3 h => ?_)
   ·refine zg hn [_,_,_,(7,vi n),(8,vi lo),(9,vb (decide (lo ≤ n))),(10,vb true),(11,vi n),(12,vi hi),(13,vb (decide (n ≤ hi))),(14,vb (decide (n ≤ hi))),(6,vb (decide (n ≤ hi)))] [0,1,2] [11] [zq [0] 3 7,zq [1] 4 8,zq [3,4] 5 9,zq [5] 6 10,zq [6,0] 7 11,zq [6,2] 8 12,zq [6,7,8] 9 13,zq [6,9] 10 14,zq [10] 11 6] [(_,_)] rfl ⟨z1 rfl,z1 rfl,z4 rfl rfl,z8 hg1_3 rfl,zr' rfl (oM rfl),zr' rfl (oM rfl),zr' rfl (oB rfl rfl),z3 true rfl,z2 rfl,zz⟩ ?_
    exact hl3 _ (zi h).symm
   ·refine zg hn [_,_,_,(7,vi n),(8,vi lo),(9,vb (decide (lo ≤ n))),(10,vb false),(11,.v undef),(12,.v undef),(13,.v undef),(14,vb false),(6,vb false)] [0,1,2] [11] [zq [0] 3 7,zq [1] 4 8,zq [3,4] 5 9,zq [5] 6 10,zq [6] 7 11,zq [6] 8 12,zq [6] 9 13,zq [6] 10 14,zq [10] 11 6] [(_,_)] rfl ⟨z1 rfl,z1 rfl,z4 rfl rfl,z8 hg1_3 rfl,zt rfl,zt rfl,zt rfl,z3 false rfl,z2 rfl,zz⟩ ?_
    exact hl3 _ (zi h).symm
theorem ok_wherryref11_letter (c : Int) (r : Bool) (h : Sh.wherryref11_letter c = some r) : FnOK Tryd.prog 51 [.v (.int .u8 c)] (.v (.bool r)) := by
  unfold Sh.wherryref11_letter at h
  refine fn_ok func51 rfl (zl rfl) rfl rfl fun g0 hn hio => ?_
  refine zgg hn [_,(2,vb false)] [0] [0] [zq [] 1 2] [(_,_)] rfl ⟨z2 rfl,zz⟩ ?_
  refine ht_seq ?_
  refine ht_joinS h (fun (s1 : Bool) => [(2,vb s1)]) ?_ ?_
  ·rintro s1 h
   refine pt_then (ht_ret ?_)
   obtain rfl := zi h
   exact pt_ret hio rfl (.tmp _ _ .nil) rfl rfl
  ·intro u2 h hl3 hr4
   refine cond_some h (fun hg1_2 h => ?_) (fun hg1_2 h => ?_)
   ·refine cond_some h (fun hg1_6 h => ?_) (fun hg1_6 h => ?_)
    ·refine zg hn (_::(3,.v (.int .u8 c))::(4,vb (decide (97 ≤ c)))::(5,vb true)::(6,.v (.int .u8 c))::(7,vb (decide (c ≤ 122)))::(8,vb (decide (c ≤ 122)))::(9,vb true)::(10,.v undef)::(11,.v undef)::(12,.v undef)::(13,.v undef)::(14,.v undef)::(15,.v undef)::(16,vb true)::(2,vb true)::[]) [0] [15] (zq [0] 1 3::zq [1] 2 4::zq [2] 3 5::zq [3,0] 4 6::zq [3,4] 5 7::zq [3,5] 6 8::zq [6] 7 9::zq [7] 8 10::zq [7] 9 11::zq [7] 10 12::zq [10] 11 13::zq [10] 12 14::zq [7] 13 15::zq [7] 14 16::zq [14] 15 2::[]) [(_,_)] rfl ⟨z1 rfl,z4 rfl rfl,z8 hg1_2 rfl,zr' rfl (oM rfl),zr' rfl (oB rfl rfl),z3 true rfl,z8 hg1_6 rfl,zf rfl,zf rfl,zf rfl,zu' rfl,zu' rfl,zf rfl,z3 true rfl,z2 rfl,zz⟩ ?_
     exact hl3 _ (zi h).symm
    ·refine cond_some h (fun hg1_9 h => ?_) (fun hg1_9 h => ?_)
     ·refine zg hn (_::(3,.v (.int .u8 c))::(4,vb (decide (97 ≤ c)))::(5,vb true)::(6,.v (.int .u8 c))::(7,vb (decide (c ≤ 122)))::(8,vb (decide (c ≤ 122)))::(9,vb false)::(10,.v (.int .u8 c))::(11,vb (decide (65 ≤ c)))::(12,vb true)::(13,.v (.int .u8 c))::(14,vb (decide (c ≤ 90)))::(15,vb (decide (c ≤ 90)))::(16,vb (decide (c ≤ 90)))::(2,vb (decide (c ≤ 90)))::[]) [0] [15] (zq [0] 1 3::zq [1] 2 4::zq [2] 3 5::zq [3,0] 4 6::zq [3,4] 5 7::zq [3,5] 6 8::zq [6] 7 9::zq [7,0] 8 10::zq [7,8] 9 11::zq [7,9] 10 12::zq [10,0] 11 13::zq [10,11] 12 14::zq [7,10,12] 13 15::zq [7,13] 14 16::zq [14] 15 2::[]) [(_,_)] rfl ⟨z1 rfl,z4 rfl rfl,z8 hg1_2 rfl,zr' rfl (oM rfl),zr' rfl (oB rfl rfl),z3 true rfl,z8 hg1_6 rfl,zr' rfl (oM rfl),zr' rfl (oB rfl rfl),zr' rfl (op_move _ _ _ _ (zb hg1_9) rfl),zr' rfl (oM rfl),zr' rfl (oB rfl rfl),zr' rfl (op_pick _ _ true _ rfl rfl),z3 false rfl,z2 rfl,zz⟩ ?_
      exact hl3 _ (zi h).symm
     ·refine zg hn (_::(3,.v (.int .u8 c))::(4,vb (decide (97 ≤ c)))::(5,vb true)::(6,.v (.int .u8 c))::(7,vb (decide (c ≤ 122)))::(8,vb (decide (c ≤ 122)))::(9,vb false)::(10,.v (.int .u8 c))::(11,vb (decide (65 ≤ c)))::(12,vb false)::(13,.v undef)::(14,.v undef)::(15,vb false)::(16,vb false)::(2,vb false)::[]) [0] [15] (zq [0] 1 3::zq [1] 2 4::zq [2] 3 5::zq [3,0] 4 6::zq [3,4] 5 7::zq [3,5] 6 8::zq [6] 7 9::zq [7,0] 8 10::zq [7,8] 9 11::zq [7,9] 10 12::zq [10] 11 13::zq [10] 12 14::zq [7,10] 13 15::zq [7,13] 14 16::zq [14] 15 2::[]) [(_,_)] rfl ⟨z1 rfl,z4 rfl rfl,z8 hg1_2 rfl,zr' rfl (oM rfl),zr' rfl (oB rfl rfl),z3 true rfl,z8 hg1_6 rfl,zr' rfl (oM rfl),zr' rfl (oB rfl rfl),zr' rfl (op_move _ _ _ _ (zb hg1_9) rfl),zt rfl,zt rfl,zr' rfl (op_pick _ _ false _ rfl rfl),z3 false rfl,z2 rfl,zz⟩ ?_
      exact hl3 _ (zi h).symm
   ·refine cond_some h (fun hg1_9 h => ?_) (fun hg1_9 h => ?_)
    ·refine zg hn (_::(3,.v (.int .u8 c))::(4,vb (decide (97 ≤ c)))::(5,vb false)::(6,.v undef)::(7,.v undef)::(8,vb false)::(9,vb false)::(10,.v (.int .u8 c))::(11,vb (decide (65 ≤ c)))::(12,vb true)::(13,.v (.int .u8 c))::(14,vb (decide (c ≤ 90)))::(15,vb (decide (c ≤ 90)))::(16,vb (decide (c ≤ 90)))::(2,vb (decide (c ≤ 90)))::[]) [0] [15] (zq [0] 1 3::zq [1] 2 4::zq [2] 3 5::zq [3] 4 6::zq [3] 5 7::zq [3] 6 8::zq [6] 7 9::zq [7,0] 8 10::zq [7,8] 9 11::zq [7,9] 10 12::zq [10,0] 11 13::zq [10,11] 12 14::zq [7,10,12] 13 15::zq [7,13] 14 16::zq [14] 15 2::[]) [(_,_)] rfl ⟨z1 rfl,z4 rfl rfl,z8 hg1_2 rfl,zt rfl,zt rfl,z3 false rfl,z1 rfl,zr' rfl (oM rfl),zr' rfl (oB rfl rfl),zr' rfl (op_move _ _ _ _ (zb hg1_9) rfl),zr' rfl (oM rfl),zr' rfl (oB rfl rfl),zr' rfl (op_pick _ _ true _ rfl rfl),z3 false rfl,z2 rfl,zz⟩ ?_
     exact hl3 _ (zi h).symm
    ·refine zg hn (_::(3,.v (.int .u8 c))::(4,vb (decide (97 ≤ c)))::(5,vb false)::(6,.v undef)::(7,.v undef)::(8,vb false)::(9,vb false)::(10,.v (.int .u8 c))::(11,vb (decide (65 ≤ c)))::(12,vb false)::(13,.v undef)::(14,.v undef)::(15,vb false)::(16,vb false)::(2,vb false)::[]) [0] [15] (zq [0] 1 3::zq [1] 2 4::zq [2] 3 5::zq [3] 4 6::zq [3] 5 7::zq [3] 6 8::zq [6] 7 9::zq [7,0] 8 10::zq [7,8] 9 11::zq [7,9] 10 12::zq [10] 11 13::zq [10] 12 14::zq [7,10] 13 15::zq [7,13] 14 16::zq [14] 15 2::[]) [(_,_)] rfl ⟨z1 rfl,z4 rfl rfl,z8 hg1_2 rfl,zt rfl,zt rfl,z3 false rfl,z1 rfl,zr' rfl (oM rfl),zr' rfl (oB rfl rfl),zr' rfl (op_move _ _ _ _ (zb hg1_9) rfl),zt rfl,zt rfl,zr' rfl (op_pick _ _ false _ rfl rfl),z3 false rfl,z2 rfl,zz⟩ ?_
     exact hl3 _ (zi h).symm
theorem ok_wherryref11_digit (c : Int) (r : Bool) (h : Sh.wherryref11_digit c = some r) : FnOK Tryd.prog 52 [.v (.int .u8 c)] (.v (.bool r)) := by
  unfold Sh.wherryref11_digit at h
  refine fn_ok func52 rfl (zl rfl) rfl rfl fun g0 hn hio => ?_
  refine zgg hn [_,(2,vb false)] [0] [0] [zq [] 1 2] [(_,_)] rfl ⟨z2 rfl,zz⟩ ?_
  refine ht_seq ?_
  refine ht_joinS h (fun (s1 : Bool) => [(2,vb s1)]) ?_ ?_
  ·rintro s1 h
   refine pt_then (ht_ret ?_)
   obtain rfl := zi h
   exact pt_ret hio rfl (.tmp _ _ .nil) rfl rfl
  ·intro u2 h hl3 hr4
   refine cond_some h (fun hg1_2 h => ?_) (fun hg1_2 h => ?_)
   ·refine zg hn [_,(3,.v (.int .u8 c)),(4,vb (decide (48 ≤ c))),(5,vb true),(6,.v (.int .u8 c)),(7,vb (decide (c ≤ 57))),(8,vb (decide (c ≤ 57))),(2,vb (decide (c ≤ 57)))] [0] [7] [zq [0] 1 3,zq [1] 2 4,zq [2] 3 5,zq [3,0] 4 6,zq [3,4] 5 7,zq [3,5] 6 8,zq [6] 7 2] [(_,_)] rfl ⟨z1 rfl,z4 rfl rfl,z8 hg1_2 rfl,zr' rfl (oM rfl),zr' rfl (oB rfl rfl),z3 true rfl,z2 rfl,zz⟩ ?_
    exact hl3 _ (zi h).symm
   ·refine zg hn [_,(3,.v (.int .u8 c)),(4,vb (decide (48 ≤ c))),(5,vb false),(6,.v undef),(7,.v undef),(8,vb false),(2,vb false)] [0] [7] [zq [0] 1 3,zq [1] 2 4,zq [2] 3 5,zq [3] 4 6,zq [3] 5 7,zq [3] 6 8,zq [6] 7 2] [(_,_)] rfl ⟨z1 rfl,z4 rfl rfl,z8 hg1_2 rfl,zt rfl,zt rfl,z3 false rfl,z2 rfl,zz⟩ ?_
    exact hl3 _ (zi h).symm
theorem ok_wherryref11_sign (c : Int) (r : Bool) (h : Sh.wherryref11_sign c = some r) : FnOK Tryd.prog 63 [.v (.int .u8 c)] (.v (.bool r)) := by
  unfold Sh.wherryref11_sign at h
  refine fn_ok func63 rfl (zl rfl) rfl rfl fun g0 hn hio => ?_
  refine zgg hn [_,(2,vb false)] [0] [0] [zq [] 1 2] [(_,_)] rfl ⟨z2 rfl,zz⟩ ?_
  refine ht_seq ?_
  refine ht_seq ?_
  refine ht_joinS h (fun (s3 : Bool) => [(0,.v (.int .u8 c)),(10,vb s3)]) ?_ ?_
  ·rintro s3 h
   refine pt_then ?_
   refine ht_cond _ rfl (fun hb7 => ?_) (fun hb7 => ?_)
   ·have h := cond_t hb7 h
    refine zgg hn [_,_,(2,vb true)] [0,1] [2] [zq [] 2 2] [(_,_)] rfl ⟨z2 rfl,zz⟩ ?_
    refine ht_ret ?_
    refine pt_r_then ?_
    obtain rfl := zi h
    exact pt_ret hio rfl (.tmp _ _ .nil) rfl rfl
   ·have h := cond_f hb7 h
    refine ht_skip ?_
    refine pt_then ?_
    refine zgg hn [_,_,(3,vs (⟨#[33,35,36,37,38,39,42,43,45,47,61,63,94,95,123,124,125,126]⟩ : ByteArray))] [0,1] [0,2] [zq [] 2 3] [(_,_),(_,_)] rfl ⟨z2 rfl,zz⟩ ?_
    refine ht_seq ?_
    refine zgg hn [_,_,(4,vi 0)] [0,1] [0,1,2] [zq [] 2 4] [(_,_),(_,_),(_,_)] rfl ⟨z2 rfl,zz⟩ ?_
    refine ht_loopS h (fun (s15 : Int) => [(0,.v (.int .u8 c)),(3,vs (⟨#[33,35,36,37,38,39,42,43,45,47,61,63,94,95,123,124,125,126]⟩ : ByteArray)),(4,vi s15)]) (fun (() : Unit) => [(0,.v (.int .u8 c))]) ?_ ?_
    ·rintro ⟨⟩ h
     refine pt_then ?_
     refine zgg hn [_,(22,.v (.int .u8 c)),(23,vb (c == 96)),(2,vb (c == 96))] [0] [3] [zq [0] 1 22,zq [1] 2 23,zq [2] 3 2] [(_,_)] rfl ⟨z1 rfl,z4 rfl rfl,z2 rfl,zz⟩ ?_
     refine ht_ret ?_
     obtain rfl := zi h
     exact pt_ret hio rfl (.tmp _ _ .nil) rfl rfl
    ·rintro u18 hl19 hr20 s15 rr23 h ho21
     refine ht_seq ?_
     refine zgg hn [_,_,_,(11,vi s15),(12,vs (⟨#[33,35,36,37,38,39,42,43,45,47,61,63,94,95,123,124,125,126]⟩ : ByteArray)),(13,vi ((⟨#[33,35,36,37,38,39,42,43,45,47,61,63,94,95,123,124,125,126]⟩ : ByteArray).size : Int)),(14,vb (decide (s15 < (((⟨#[33,35,36,37,38,39,42,43,45,47,61,63,94,95,123,124,125,126]⟩ : ByteArray).size : Int)))))] [0,1,2] [0,1,2,6] [zq [2] 3 11,zq [1] 4 12,zq [4] 5 13,zq [3,5] 6 14] [(_,_),(_,_),(_,_),(_,_)] rfl ⟨z1 rfl,z1 rfl,zp rfl (oN underlying9 rfl),z4 rfl rfl,zz⟩ ?_
     refine ht_cond _ rfl (fun hb24 => ?_) (fun hb24 => ?_)
     ·have h := cond_t hb24 h
      refine ht_skip ?_
      refine pt_then (ht_seq ?_)
      refine ht_block ?_
      refine ht_seq ?_
      obtain ⟨v9, hv9, h⟩ := zn h
      refine zg hn [_,_,_,_,(17,vs (⟨#[33,35,36,37,38,39,42,43,45,47,61,63,94,95,123,124,125,126]⟩ : ByteArray)),(18,vi s15),(19,.v (.int .u8 v9)),(20,.v (.int .u8 c)),(21,vb (v9 == c))] [0,1,2,3] [0,1,2,8] [zq [1] 4 17,zq [2] 5 18,zq [4,5] 6 19,zq [0] 7 20,zq [6,7] 8 21] [(_,_),(_,_),(_,_),(_,_)] rfl ⟨z1 rfl,z1 rfl,zp rfl (op_chr _ _ _ s15 _ underlying9 rfl rfl hv9),z1 rfl,z4 rfl rfl,zz⟩ ?_
      refine pt_then ?_
      refine ht_cond _ rfl (fun hb25 => ?_) (fun hb25 => ?_)
      ·have h := cond_t hb25 h
       refine zgg hn [_,_,_,_,(2,vb true)] [0,1,2,3] [4] [zq [] 4 2] [(_,_)] rfl ⟨z2 rfl,zz⟩ ?_
       refine ht_ret ?_
       refine pt_r_in ?_
       refine pt_r_then ?_
       refine pt_r_then ?_
       refine pt_r_in ?_
       refine pt_r_then ?_
       have h := hr20 _ (ho21 _ (zi h).symm).symm
       obtain rfl := zi h
       exact pt_ret hio rfl (.tmp _ _ .nil) rfl rfl
      ·have h := cond_f hb25 h
       refine ht_skip ?_
       refine pt_inb ?_
       refine pt_then ?_
       obtain ⟨v11, hv11, h⟩ := zn h
       refine zg hn [_,_,_,_,(15,vi s15),(16,vi v11),(4,vi v11)] [0,1,2,3] [0,1,6] [zq [2] 4 15,zq [4] 5 16,⟨[5],[2],[6],[(.slot 4)]⟩] [(_,_),(_,_),(_,_)] rfl ⟨z1 rfl,zp rfl (oB rfl (ibind (f := int .i64) (Option.some.inj hv11))),zp rfl (LOp.drop [_] (op_assign _ _ _ _ rfl rfl)),zz⟩ ?_
       exact pt_next _ (zi h).symm rfl
     ·have h := cond_f hb24 h
      refine ht_exit ?_
      refine pt_x_then ?_
      refine pt_x_then ?_
      refine pt_x_in ?_
      refine pt_pick [0] (by kernel_rfl) (es' := [(_,_)]) rfl ?_
      exact hl19 _ (ho21 _ (zi h).symm).symm
  ·intro u4 h hl5 hr6
   obtain ⟨v1, hv1, h⟩ := zn h
   refine cond_some h (fun hg1_2 h => ?_) (fun hg1_2 h => ?_)
   ·refine zg hn [_,(5,.v (.int .u8 c)),(6,vb v1),(7,vb true),(8,.v undef),(9,.v undef),(10,vb true)] [0] [0,6] [zq [0] 1 5,zq [1] 2 6,zq [2] 3 7,zq [3] 4 8,zq [3] 5 9,zq [3] 6 10] [(_,_),(_,_)] rfl ⟨z1 rfl,zp rfl (op_call _ _ 51 _ _ rfl call51 rfl (ok_wherryref11_letter c _ hv1) rfl rfl),z8 hg1_2 rfl,zf rfl,zf rfl,z3 true rfl,zz⟩ ?_
    exact hl5 _ (zi h).symm
   ·obtain ⟨v2, hv2, h⟩ := zn h
    refine zg hn [_,(5,.v (.int .u8 c)),(6,vb v1),(7,vb false),(8,.v (.int .u8 c)),(9,vb v2),(10,vb v2)] [0] [0,6] [zq [0] 1 5,zq [1] 2 6,zq [2] 3 7,zq [3,0] 4 8,zq [3,4] 5 9,zq [3,5] 6 10] [(_,_),(_,_)] rfl ⟨z1 rfl,zp rfl (op_call _ _ 51 _ _ rfl call51 rfl (ok_wherryref11_letter c _ hv1) rfl rfl),z8 hg1_2 rfl,zr' rfl (oM rfl),zr' rfl (op_call _ _ 52 _ _ rfl call52 rfl (ok_wherryref11_digit c _ hv2) rfl rfl),z3 false rfl,zz⟩ ?_
    exact hl5 _ (zi h).symm
theorem ok_wherryref11_Local (s : ByteArray) (r : Bool) (h : Sh.wherryref11_Local s = some r) : FnOK Tryd.prog 54 [.v (.string s)] (.v (.bool r)) := by
  unfold Sh.wherryref11_Local at h
  refine fn_ok func54 rfl (zl rfl) rfl rfl fun g0 hn hio => ?_
  refine zgg hn [_,(2,vb false)] [0] [0] [zq [] 1 2] [(_,_)] rfl ⟨z2 rfl,zz⟩ ?_
  refine ht_seq ?_
  refine ht_seq ?_
  refine ht_joinS h (fun (s5 : Bool) => [(0,vs s),(20,vb s5)]) ?_ ?_
  ·rintro s5 h
   refine pt_then ?_
   refine ht_cond _ rfl (fun hb9 => ?_) (fun hb9 => ?_)
   ·have h := cond_t hb9 h
    refine zgg hn [_,_,(2,vb false)] [0,1] [2] [zq [] 2 2] [(_,_)] rfl ⟨z2 rfl,zz⟩ ?_
    refine ht_ret ?_
    refine pt_r_then ?_
    obtain rfl := zi h
    exact pt_ret hio rfl (.tmp _ _ .nil) rfl rfl
   ·have h := cond_f hb9 h
    refine ht_skip ?_
    refine pt_then (ht_seq ?_)
    refine zgg hn [_,_,(3,vi 0)] [0,1] [0,2] [zq [] 2 3] [(_,_),(_,_)] rfl ⟨z2 rfl,zz⟩ ?_
    refine ht_loopS h (fun (s33 : Int) => [(0,vs s),(3,vi s33)]) (fun (() : Unit) => []) ?_ ?_
    ·rintro ⟨⟩ h
     refine pt_then ?_
     refine zgg hn [(2,vb true)] [] [0] [zq [] 0 2] [(_,_)] rfl ⟨z2 rfl,zz⟩ ?_
     refine ht_ret ?_
     obtain rfl := zi h
     exact pt_ret hio rfl (.tmp _ _ .nil) rfl rfl
    ·rintro u40 hl41 hr42 s33 rr45 h ho43
     refine ht_seq ?_
     refine zgg hn [_,_,(21,vi s33),(22,vs s),(23,vi (s.size : Int)),(24,vb (decide (s33 < (s.size : Int))))] [0,1] [0,1,5] [zq [1] 2 21,zq [0] 3 22,zq [3] 4 23,zq [2,4] 5 24] [(_,_),(_,_),(_,_)] rfl ⟨z1 rfl,z1 rfl,zp rfl (oN underlying9 rfl),z4 rfl rfl,zz⟩ ?_
     refine ht_cond _ rfl (fun hb46 => ?_) (fun hb46 => ?_)
     ·have h := cond_t hb46 h
      refine ht_skip ?_
      refine pt_then (ht_seq ?_)
      refine ht_block ?_
      refine ht_seq ?_
      refine ht_joinS h (fun (s47 : Bool) => [(0,vs s),(3,vi s33),(50,vb s47)]) ?_ ?_
      ·rintro s47 h
       refine pt_then ?_
       refine ht_cond _ rfl (fun hb51 => ?_) (fun hb51 => ?_)
       ·have h := cond_t hb51 h
        refine zgg hn [_,_,_,(2,vb false)] [0,1,2] [3] [zq [] 3 2] [(_,_)] rfl ⟨z2 rfl,zz⟩ ?_
        refine ht_ret ?_
        refine pt_r_in ?_
        refine pt_r_then ?_
        refine pt_r_then ?_
        refine pt_r_in ?_
        refine pt_r_then ?_
        have h := hr42 _ (ho43 _ (zi h).symm).symm
        obtain rfl := zi h
        exact pt_ret hio rfl (.tmp _ _ .nil) rfl rfl
       ·have h := cond_f hb51 h
        refine ht_skip ?_
        refine pt_inb ?_
        refine pt_then ?_
        obtain ⟨v25, hv25, h⟩ := zn h
        refine zg hn [_,_,_,(25,vi s33),(26,vi v25),(3,vi v25)] [0,1,2] [0,5] [zq [1] 3 25,zq [3] 4 26,⟨[4],[1],[5],[(.slot 3)]⟩] [(_,_),(_,_)] rfl ⟨z1 rfl,zp rfl (oB rfl (ibind (f := int .i64) (Option.some.inj hv25))),zp rfl (LOp.drop [_] (op_assign _ _ _ _ rfl rfl)),zz⟩ ?_
        exact pt_next _ (zi h).symm rfl
      ·intro u48 h hl49 hr50
       obtain ⟨v11, hv11, h⟩ := zn h
       refine cond_some h (fun hg6_4 h => ?_) (fun hg6_4 h => ?_)
       ·obtain ⟨v12, hv12, h⟩ := zn h
        obtain ⟨v13, hv13, h⟩ := zn h
        refine cond_some h (fun hg6_11 h => ?_) (fun hg6_11 h => ?_)
        ·refine zg hn (_::_::_::(27,vs s)::(28,vi s33)::(29,.v (.int .u8 v11))::(30,vb (v11 == 46))::(31,vb true)::(32,vs s)::(33,vi s33)::(34,vi v12)::(35,.v (.int .u8 v13))::(36,vb (v13 == 46))::(37,vb (v13 == 46))::(38,vb true)::(39,.v undef)::(40,.v undef)::(41,.v undef)::(42,.v undef)::(43,.v undef)::(44,.v undef)::(45,.v undef)::(46,.v undef)::(47,.v undef)::(48,.v undef)::(49,.v undef)::(50,vb true)::[]) [0,1,2] [0,1,26] (zq [0] 3 27::zq [1] 4 28::zq [3,4] 5 29::zq [5] 6 30::zq [6] 7 31::zq [7,0] 8 32::zq [7,1] 9 33::zq [7,9] 10 34::zq [7,8,10] 11 35::zq [7,11] 12 36::zq [7,12] 13 37::zq [13] 14 38::zq [14] 15 39::zq [14] 16 40::zq [14] 17 41::zq [14] 18 42::zq [14] 19 43::zq [19] 20 44::zq [19] 21 45::zq [19] 22 46::zq [19] 23 47::zq [19] 24 48::zq [14] 25 49::zq [14] 26 50::[]) [(_,_),(_,_),(_,_)] rfl ⟨z1 rfl,z1 rfl,zp rfl (op_chr _ _ _ s33 _ underlying9 rfl rfl hv11),z4 rfl rfl,z8 hg6_4 rfl,zr' rfl (oM rfl),zr' rfl (oM rfl),zr' rfl (oB rfl (ibind (f := int .i64) (Option.some.inj hv12))),zr' rfl (op_chr _ _ _ v12 _ underlying9 rfl rfl hv13),zr' rfl (oB rfl rfl),z3 true rfl,z8 hg6_11 rfl,zf rfl,zf rfl,zf rfl,zf rfl,zf rfl,zu' rfl,zu' rfl,zu' rfl,zu' rfl,zu' rfl,zf rfl,z3 true rfl,zz⟩ ?_
         exact hl49 _ (zi h).symm
        ·obtain ⟨v14, hv14, h⟩ := zn h
         refine cond_some h (fun hg6_16 h => ?_) (fun hg6_16 h => ?_)
         ·obtain ⟨v15, hv15, h⟩ := zn h
          obtain ⟨v16, hv16, h⟩ := zn h
          refine zg hn (_::_::_::(27,vs s)::(28,vi s33)::(29,.v (.int .u8 v11))::(30,vb (v11 == 46))::(31,vb true)::(32,vs s)::(33,vi s33)::(34,vi v12)::(35,.v (.int .u8 v13))::(36,vb (v13 == 46))::(37,vb (v13 == 46))::(38,vb false)::(39,vs s)::(40,vi s33)::(41,.v (.int .u8 v14))::(42,vb (v14 != 46))::(43,vb true)::(44,vs s)::(45,vi s33)::(46,.v (.int .u8 v15))::(47,vb v16)::(48,vb (!v16))::(49,vb (!v16))::(50,vb (!v16))::[]) [0,1,2] [0,1,26] (zq [0] 3 27::zq [1] 4 28::zq [3,4] 5 29::zq [5] 6 30::zq [6] 7 31::zq [7,0] 8 32::zq [7,1] 9 33::zq [7,9] 10 34::zq [7,8,10] 11 35::zq [7,11] 12 36::zq [7,12] 13 37::zq [13] 14 38::zq [14,0] 15 39::zq [14,1] 16 40::zq [14,15,16] 17 41::zq [14,17] 18 42::zq [14,18] 19 43::zq [19,0] 20 44::zq [19,1] 21 45::zq [19,20,21] 22 46::zq [19,22] 23 47::zq [19,23] 24 48::zq [14,19,24] 25 49::zq [14,25] 26 50::[]) [(_,_),(_,_),(_,_)] rfl ⟨z1 rfl,z1 rfl,zp rfl (op_chr _ _ _ s33 _ underlying9 rfl rfl hv11),z4 rfl rfl,z8 hg6_4 rfl,zr' rfl (oM rfl),zr' rfl (oM rfl),zr' rfl (oB rfl (ibind (f := int .i64) (Option.some.inj hv12))),zr' rfl (op_chr _ _ _ v12 _ underlying9 rfl rfl hv13),zr' rfl (oB rfl rfl),z3 true rfl,z8 hg6_11 rfl,zr' rfl (oM rfl),zr' rfl (oM rfl),zr' rfl (op_chr _ _ _ s33 _ underlying9 rfl rfl hv14),zr' rfl (oB rfl rfl),zr' rfl (op_move _ _ _ _ (zb hg6_16) rfl),zr' rfl (oM rfl),zr' rfl (oM rfl),zr' rfl (op_chr _ _ _ s33 _ underlying9 rfl rfl hv15),zr' rfl (op_call _ _ 63 _ _ rfl call63 rfl (ok_wherryref11_sign v15 _ hv16) rfl rfl),zr' rfl (op_un _ _ _ _ rfl rfl),zr' rfl (op_pick _ _ true _ rfl rfl),z3 false rfl,zz⟩ ?_
          exact hl49 _ (zi h).symm
         ·refine zg hn (_::_::_::(27,vs s)::(28,vi s33)::(29,.v (.int .u8 v11))::(30,vb (v11 == 46))::(31,vb true)::(32,vs s)::(33,vi s33)::(34,vi v12)::(35,.v (.int .u8 v13))::(36,vb (v13 == 46))::(37,vb (v13 == 46))::(38,vb false)::(39,vs s)::(40,vi s33)::(41,.v (.int .u8 v14))::(42,vb (v14 != 46))::(43,vb false)::(44,.v undef)::(45,.v undef)::(46,.v undef)::(47,.v undef)::(48,.v undef)::(49,vb false)::(50,vb false)::[]) [0,1,2] [0,1,26] (zq [0] 3 27::zq [1] 4 28::zq [3,4] 5 29::zq [5] 6 30::zq [6] 7 31::zq [7,0] 8 32::zq [7,1] 9 33::zq [7,9] 10 34::zq [7,8,10] 11 35::zq [7,11] 12 36::zq [7,12] 13 37::zq [13] 14 38::zq [14,0] 15 39::zq [14,1] 16 40::zq [14,15,16] 17 41::zq [14,17] 18 42::zq [14,18] 19 43::zq [19] 20 44::zq [19] 21 45::zq [19] 22 46::zq [19] 23 47::zq [19] 24 48::zq [14,19] 25 49::zq [14,25] 26 50::[]) [(_,_),(_,_),(_,_)] rfl ⟨z1 rfl,z1 rfl,zp rfl (op_chr _ _ _ s33 _ underlying9 rfl rfl hv11),z4 rfl rfl,z8 hg6_4 rfl,zr' rfl (oM rfl),zr' rfl (oM rfl),zr' rfl (oB rfl (ibind (f := int .i64) (Option.some.inj hv12))),zr' rfl (op_chr _ _ _ v12 _ underlying9 rfl rfl hv13),zr' rfl (oB rfl rfl),z3 true rfl,z8 hg6_11 rfl,zr' rfl (oM rfl),zr' rfl (oM rfl),zr' rfl (op_chr _ _ _ s33 _ underlying9 rfl rfl hv14),zr' rfl (oB rfl rfl),zr' rfl (op_move _ _ _ _ (zb hg6_16) rfl),zt rfl,zt rfl,zt rfl,zt rfl,zt rfl,zr' rfl (op_pick _ _ false _ rfl rfl),z3 false rfl,zz⟩ ?_
          exact hl49 _ (zi h).symm
       ·obtain ⟨v17, hv17, h⟩ := zn h
        refine cond_some h (fun hg6_16 h => ?_) (fun hg6_16 h => ?_)
        ·obtain ⟨v18, hv18, h⟩ := zn h
         obtain ⟨v19, hv19, h⟩ := zn h
         refine zg hn (_::_::_::(27,vs s)::(28,vi s33)::(29,.v (.int .u8 v11))::(30,vb (v11 == 46))::(31,vb false)::(32,.v undef)::(33,.v undef)::(34,.v undef)::(35,.v undef)::(36,.v undef)::(37,vb false)::(38,vb false)::(39,vs s)::(40,vi s33)::(41,.v (.int .u8 v17))::(42,vb (v17 != 46))::(43,vb true)::(44,vs s)::(45,vi s33)::(46,.v (.int .u8 v18))::(47,vb v19)::(48,vb (!v19))::(49,vb (!v19))::(50,vb (!v19))::[]) [0,1,2] [0,1,26] (zq [0] 3 27::zq [1] 4 28::zq [3,4] 5 29::zq [5] 6 30::zq [6] 7 31::zq [7] 8 32::zq [7] 9 33::zq [7] 10 34::zq [7] 11 35::zq [7] 12 36::zq [7] 13 37::zq [13] 14 38::zq [14,0] 15 39::zq [14,1] 16 40::zq [14,15,16] 17 41::zq [14,17] 18 42::zq [14,18] 19 43::zq [19,0] 20 44::zq [19,1] 21 45::zq [19,20,21] 22 46::zq [19,22] 23 47::zq [19,23] 24 48::zq [14,19,24] 25 49::zq [14,25] 26 50::[]) [(_,_),(_,_),(_,_)] rfl ⟨z1 rfl,z1 rfl,zp rfl (op_chr _ _ _ s33 _ underlying9 rfl rfl hv11),z4 rfl rfl,z8 hg6_4 rfl,zt rfl,zt rfl,zt rfl,zt rfl,zt rfl,z3 false rfl,z1 rfl,zr' rfl (oM rfl),zr' rfl (oM rfl),zr' rfl (op_chr _ _ _ s33 _ underlying9 rfl rfl hv17),zr' rfl (oB rfl rfl),zr' rfl (op_move _ _ _ _ (zb hg6_16) rfl),zr' rfl (oM rfl),zr' rfl (oM rfl),zr' rfl (op_chr _ _ _ s33 _ underlying9 rfl rfl hv18),zr' rfl (op_call _ _ 63 _ _ rfl call63 rfl (ok_wherryref11_sign v18 _ hv19) rfl rfl),zr' rfl (op_un _ _ _ _ rfl rfl),zr' rfl (op_pick _ _ true _ rfl rfl),z3 false rfl,zz⟩ ?_
         exact hl49 _ (zi h).symm
        ·refine zg hn (_::_::_::(27,vs s)::(28,vi s33)::(29,.v (.int .u8 v11))::(30,vb (v11 == 46))::(31,vb false)::(32,.v undef)::(33,.v undef)::(34,.v undef)::(35,.v undef)::(36,.v undef)::(37,vb false)::(38,vb false)::(39,vs s)::(40,vi s33)::(41,.v (.int .u8 v17))::(42,vb (v17 != 46))::(43,vb false)::(44,.v undef)::(45,.v undef)::(46,.v undef)::(47,.v undef)::(48,.v undef)::(49,vb false)::(50,vb false)::[]) [0,1,2] [0,1,26] (zq [0] 3 27::zq [1] 4 28::zq [3,4] 5 29::zq [5] 6 30::zq [6] 7 31::zq [7] 8 32::zq [7] 9 33::zq [7] 10 34::zq [7] 11 35::zq [7] 12 36::zq [7] 13 37::zq [13] 14 38::zq [14,0] 15 39::zq [14,1] 16 40::zq [14,15,16] 17 41::zq [14,17] 18 42::zq [14,18] 19 43::zq [19] 20 44::zq [19] 21 45::zq [19] 22 46::zq [19] 23 47::zq [19] 24 48::zq [14,19] 25 49::zq [14,25] 26 50::[]) [(_,_),(_,_),(_,_)] rfl ⟨z1 rfl,z1 rfl,zp rfl (op_chr _ _ _ s33 _ underlying9 rfl rfl hv11),z4 rfl rfl,z8 hg6_4 rfl,zt rfl,zt rfl,zt rfl,zt rfl,zt rfl,z3 false rfl,z1 rfl,zr' rfl (oM rfl),zr' rfl (oM rfl),zr' rfl (op_chr _ _ _ s33 _ underlying9 rfl rfl hv17),zr' rfl (oB rfl rfl),zr' rfl (op_move _ _ _ _ (zb hg6_16) rfl),zt rfl,zt rfl,zt rfl,zt rfl,zt rfl,zr' rfl (op_pick _ _ false _ rfl rfl),z3 false rfl,zz⟩ ?_
         exact hl49 _ (zi h).symm
     ·have h := cond_f hb46 h
      refine ht_exit ?_
      refine pt_x_then ?_
      refine pt_x_then ?_
      refine pt_x_in ?_
      refine pt_pick [] (by kernel_rfl) (es' := []) rfl ?_
      exact hl41 _ (ho43 _ (zi h).symm).symm
  ·intro u6 h hl7 hr8
   obtain ⟨v1, hv1, h⟩ := zn h
   refine cond_some h (fun hg1_4 h => ?_) (fun hg1_4 h => ?_)
   ·refine zg hn (_::(4,vs s)::(5,vi (s.size : Int))::(6,vb v1)::(7,vb (!v1))::(8,vb true)::(9,.v undef)::(10,.v undef)::(11,.v undef)::(12,vb true)::(13,vb true)::(14,.v undef)::(15,.v undef)::(16,.v undef)::(17,.v undef)::(18,.v undef)::(19,.v undef)::(20,vb true)::[]) [0] [0,17] (zq [0] 1 4::zq [1] 2 5::zq [2] 3 6::zq [3] 4 7::zq [4] 5 8::zq [5] 6 9::zq [5] 7 10::zq [5] 8 11::zq [5] 9 12::zq [9] 10 13::zq [10] 11 14::zq [10] 12 15::zq [10] 13 16::zq [10] 14 17::zq [10] 15 18::zq [10] 16 19::zq [10] 17 20::[]) [(_,_),(_,_)] rfl ⟨z1 rfl,zp rfl (oN underlying9 rfl),zp rfl (op_call _ _ 50 _ _ rfl call50 rfl (ok_wherryref11_in (s.size : Int) 1 64 _ hv1) rfl rfl),zp rfl (op_un _ _ _ _ rfl rfl),z8 hg1_4 rfl,zf rfl,zf rfl,zf rfl,z3 true rfl,z1 rfl,zf rfl,zf rfl,zf rfl,zf rfl,zf rfl,zf rfl,z3 true rfl,zz⟩ ?_
    exact hl7 _ (zi h).symm
   ·obtain ⟨v2, hv2, h⟩ := zn h
    refine cond_some h (fun hg1_9 h => ?_) (fun hg1_9 h => ?_)
    ·refine zg hn (_::(4,vs s)::(5,vi (s.size : Int))::(6,vb v1)::(7,vb (!v1))::(8,vb false)::(9,vs s)::(10,.v (.int .u8 v2))::(11,vb (v2 == 46))::(12,vb (v2 == 46))::(13,vb true)::(14,.v undef)::(15,.v undef)::(16,.v undef)::(17,.v undef)::(18,.v undef)::(19,.v undef)::(20,vb true)::[]) [0] [0,17] (zq [0] 1 4::zq [1] 2 5::zq [2] 3 6::zq [3] 4 7::zq [4] 5 8::zq [5,0] 6 9::zq [5,6] 7 10::zq [5,7] 8 11::zq [5,8] 9 12::zq [9] 10 13::zq [10] 11 14::zq [10] 12 15::zq [10] 13 16::zq [10] 14 17::zq [10] 15 18::zq [10] 16 19::zq [10] 17 20::[]) [(_,_),(_,_)] rfl ⟨z1 rfl,zp rfl (oN underlying9 rfl),zp rfl (op_call _ _ 50 _ _ rfl call50 rfl (ok_wherryref11_in (s.size : Int) 1 64 _ hv1) rfl rfl),zp rfl (op_un _ _ _ _ rfl rfl),z8 hg1_4 rfl,zr' rfl (oM rfl),zr' rfl (op_chr _ _ _ 0 _ underlying9 rfl rfl hv2),zr' rfl (oB rfl rfl),z3 false rfl,z8 hg1_9 rfl,zf rfl,zf rfl,zf rfl,zf rfl,zf rfl,zf rfl,z3 true rfl,zz⟩ ?_
     exact hl7 _ (zi h).symm
    ·obtain ⟨v3, hv3, h⟩ := zn h
     obtain ⟨v4, hv4, h⟩ := zn h
     refine zg hn (_::(4,vs s)::(5,vi (s.size : Int))::(6,vb v1)::(7,vb (!v1))::(8,vb false)::(9,vs s)::(10,.v (.int .u8 v2))::(11,vb (v2 == 46))::(12,vb (v2 == 46))::(13,vb false)::(14,vs s)::(15,vs s)::(16,vi (s.size : Int))::(17,vi v3)::(18,.v (.int .u8 v4))::(19,vb (v4 == 46))::(20,vb (v4 == 46))::[]) [0] [0,17] (zq [0] 1 4::zq [1] 2 5::zq [2] 3 6::zq [3] 4 7::zq [4] 5 8::zq [5,0] 6 9::zq [5,6] 7 10::zq [5,7] 8 11::zq [5,8] 9 12::zq [9] 10 13::zq [10,0] 11 14::zq [10,0] 12 15::zq [10,12] 13 16::zq [10,13] 14 17::zq [10,11,14] 15 18::zq [10,15] 16 19::zq [10,16] 17 20::[]) [(_,_),(_,_)] rfl ⟨z1 rfl,zp rfl (oN underlying9 rfl),zp rfl (op_call _ _ 50 _ _ rfl call50 rfl (ok_wherryref11_in (s.size : Int) 1 64 _ hv1) rfl rfl),zp rfl (op_un _ _ _ _ rfl rfl),z8 hg1_4 rfl,zr' rfl (oM rfl),zr' rfl (op_chr _ _ _ 0 _ underlying9 rfl rfl hv2),zr' rfl (oB rfl rfl),z3 false rfl,z8 hg1_9 rfl,zr' rfl (oM rfl),zr' rfl (oM rfl),zr' rfl (oN underlying9 rfl),zr' rfl (oB rfl (ibind (f := int .i64) (Option.some.inj hv3))),zr' rfl (op_chr _ _ _ v3 _ underlying9 rfl rfl hv4),zr' rfl (oB rfl rfl),z3 false rfl,zz⟩ ?_
     exact hl7 _ (zi h).symm
theorem ok_wherryref11_Domain (s : ByteArray) (r : Bool) (h : Sh.wherryref11_Domain s = some r) : FnOK Tryd.prog 36 [.v (.string s)] (.v (.bool r)) := by
  unfold Sh.wherryref11_Domain at h
  refine fn_ok func36 rfl (zl rfl) rfl rfl fun g0 hn hio => ?_
  refine zgg hn [_,(2,vb false)] [0] [0] [zq [] 1 2] [(_,_)] rfl ⟨z2 rfl,zz⟩ ?_
  refine ht_seq ?_
  refine ht_seq ?_
  obtain ⟨v1, hv1, h⟩ := zn h
  refine zg hn [_,(5,vs s),(6,vi (s.size : Int)),(7,vb v1),(8,vb (!v1))] [0] [0,4] [zq [0] 1 5,zq [1] 2 6,zq [2] 3 7,zq [3] 4 8] [(_,_),(_,_)] rfl ⟨z1 rfl,zp rfl (oN underlying9 rfl),zp rfl (op_call _ _ 50 _ _ rfl call50 rfl (ok_wherryref11_in (s.size : Int) 1 255 _ hv1) rfl rfl),zp rfl (op_un _ _ _ _ rfl rfl),zz⟩ ?_
  refine pt_then ?_
  refine ht_cond _ rfl (fun hb2 => ?_) (fun hb2 => ?_)
  ·have h := cond_t hb2 h
   refine zgg hn [_,_,(2,vb false)] [0,1] [2] [zq [] 2 2] [(_,_)] rfl ⟨z2 rfl,zz⟩ ?_
   refine ht_ret ?_
   refine pt_r_then ?_
   obtain rfl := zi h
   exact pt_ret hio rfl (.tmp _ _ .nil) rfl rfl
  ·have h := cond_f hb2 h
   refine ht_skip ?_
   refine pt_then ?_
   refine zgg hn [_,_,(3,vi 0)] [0,1] [0,2] [zq [] 2 3] [(_,_),(_,_)] rfl ⟨z2 rfl,zz⟩ ?_
   refine ht_seq ?_
   refine zgg hn [_,_,(4,vi 0)] [0,1] [0,1,2] [zq [] 2 4] [(_,_),(_,_),(_,_)] rfl ⟨z2 rfl,zz⟩ ?_
   refine ht_loopS h (fun ((s88,s89) : Int × Int) => [(0,vs s),(3,vi s88),(4,vi s89)]) (fun (() : Unit) => []) ?_ ?_
   ·rintro ⟨⟩ h
    refine pt_then ?_
    refine zgg hn [(2,vb true)] [] [0] [zq [] 0 2] [(_,_)] rfl ⟨z2 rfl,zz⟩ ?_
    refine ht_ret ?_
    obtain rfl := zi h
    exact pt_ret hio rfl (.tmp _ _ .nil) rfl rfl
   ·rintro u125 hl126 hr127 ⟨s88, s89⟩ rr130 h ho128
    refine ht_seq ?_
    refine zgg hn [_,_,_,(9,vi s89),(10,vs s),(11,vi (s.size : Int)),(12,vb (decide (s89 ≤ (s.size : Int))))] [0,1,2] [0,1,2,6] [zq [2] 3 9,zq [0] 4 10,zq [4] 5 11,zq [3,5] 6 12] [(_,_),(_,_),(_,_),(_,_)] rfl ⟨z1 rfl,z1 rfl,zp rfl (oN underlying9 rfl),z4 rfl rfl,zz⟩ ?_
    refine ht_cond _ rfl (fun hb131 => ?_) (fun hb131 => ?_)
    ·have h := cond_t hb131 h
     refine ht_skip ?_
     refine pt_then (ht_seq ?_)
     refine ht_joinS h (fun (s147 : Int) => [(0,vs s),(3,vi s147),(4,vi s89)]) ?_ ?_
     ·rintro s147 h
      refine pt_then ?_
      obtain ⟨v50, hv50, h⟩ := zn h
      refine zg hn [_,_,_,(13,vi s89),(14,vi v50),(4,vi v50)] [0,1,2] [0,1,5] [zq [2] 3 13,zq [3] 4 14,⟨[4],[2],[5],[(.slot 4)]⟩] [(_,_),(_,_),(_,_)] rfl ⟨z1 rfl,zp rfl (oB rfl (ibind (f := int .i64) (Option.some.inj hv50))),zp rfl (LOp.drop [_] (op_assign _ _ _ _ rfl rfl)),zz⟩ ?_
      exact pt_next _ (zi h).symm rfl
     ·intro u148 h hl149 hr150
      refine ht_block ?_
      refine ht_seq ?_
      refine ht_seq ?_
      refine ht_joinS h (fun (s151 : Bool) => [(0,vs s),(3,vi s88),(4,vi s89),(24,vb s151)]) ?_ ?_
      ·rintro s151 h
       refine pt_then ?_
       refine ht_cond _ rfl (fun hb155 => ?_) (fun hb155 => ?_)
       ·have h := cond_t hb155 h
        refine ht_seq ?_
        refine ht_seq ?_
        refine ht_joinS h (fun (s156 : Bool) => [(0,vs s),(3,vi s88),(4,vi s89),(42,vb s156)]) ?_ ?_
        ·rintro s156 h
         refine pt_then ?_
         refine ht_cond _ rfl (fun hb160 => ?_) (fun hb160 => ?_)
         ·have h := cond_t hb160 h
          refine zgg hn [_,_,_,_,(2,vb false)] [0,1,2,3] [4] [zq [] 4 2] [(_,_)] rfl ⟨z2 rfl,zz⟩ ?_
          refine ht_ret ?_
          refine pt_r_then ?_
          refine pt_r_then ?_
          refine pt_r_in ?_
          refine pt_r_then ?_
          refine pt_r_then ?_
          refine pt_r_in ?_
          refine pt_r_then ?_
          have h := hr150 _ (zi h).symm
          have h := hr127 _ (ho128 _ (zi h).symm).symm
          obtain rfl := zi h
          exact pt_ret hio rfl (.tmp _ _ .nil) rfl rfl
         ·have h := cond_f hb160 h
          refine ht_skip ?_
          refine pt_then ?_
          refine ht_exit ?_
          refine pt_x_then ?_
          refine pt_x_in ?_
          refine pt_pick [0,1,2] (by kernel_rfl) (es' := [(_,_),(_,_),(_,_)]) rfl ?_
          exact hl149 _ (zi h).symm
        ·intro u157 h hl158 hr159
         obtain ⟨v10, hv10, h⟩ := zn h
         obtain ⟨v11, hv11, h⟩ := zn h
         refine cond_some h (fun hg8_5 h => ?_) (fun hg8_5 h => ?_)
         ·obtain ⟨v12, hv12, h⟩ := zn h
          obtain ⟨v13, hv13, h⟩ := zn h
          refine cond_some h (fun hg8_12 h => ?_) (fun hg8_12 h => ?_)
          ·obtain ⟨v14, hv14, h⟩ := zn h
           refine zg hn (_::_::_::_::(25,vs s)::(26,vi s89)::(27,.v (.int .u8 v10))::(28,vb v11)::(29,vb (!v11))::(30,vb true)::(31,vs s)::(32,vi s89)::(33,.v (.int .u8 v12))::(34,vb v13)::(35,vb (!v13))::(36,vb (!v13))::(37,vb true)::(38,vs s)::(39,vi s89)::(40,.v (.int .u8 v14))::(41,vb (v14 != 45))::(42,vb (v14 != 45))::[]) [0,1,2,3] [0,1,2,21] (zq [0] 4 25::zq [2] 5 26::zq [4,5] 6 27::zq [6] 7 28::zq [7] 8 29::zq [8] 9 30::zq [9,0] 10 31::zq [9,2] 11 32::zq [9,10,11] 12 33::zq [9,12] 13 34::zq [9,13] 14 35::zq [9,14] 15 36::zq [15] 16 37::zq [16,0] 17 38::zq [16,2] 18 39::zq [16,17,18] 19 40::zq [16,19] 20 41::zq [16,20] 21 42::[]) [(_,_),(_,_),(_,_),(_,_)] rfl ⟨z1 rfl,z1 rfl,zp rfl (op_chr _ _ _ s89 _ underlying9 rfl rfl hv10),zp rfl (op_call _ _ 51 _ _ rfl call51 rfl (ok_wherryref11_letter v10 _ hv11) rfl rfl),zp rfl (op_un _ _ _ _ rfl rfl),z8 hg8_5 rfl,zr' rfl (oM rfl),zr' rfl (oM rfl),zr' rfl (op_chr _ _ _ s89 _ underlying9 rfl rfl hv12),zr' rfl (op_call _ _ 52 _ _ rfl call52 rfl (ok_wherryref11_digit v12 _ hv13) rfl rfl),zr' rfl (op_un _ _ _ _ rfl rfl),z3 true rfl,z8 hg8_12 rfl,zr' rfl (oM rfl),zr' rfl (oM rfl),zr' rfl (op_chr _ _ _ s89 _ underlying9 rfl rfl hv14),zr' rfl (oB rfl rfl),z3 true rfl,zz⟩ ?_
           exact hl158 _ (zi h).symm
          ·refine zg hn (_::_::_::_::(25,vs s)::(26,vi s89)::(27,.v (.int .u8 v10))::(28,vb v11)::(29,vb (!v11))::(30,vb true)::(31,vs s)::(32,vi s89)::(33,.v (.int .u8 v12))::(34,vb v13)::(35,vb (!v13))::(36,vb (!v13))::(37,vb false)::(38,.v undef)::(39,.v undef)::(40,.v undef)::(41,.v undef)::(42,vb false)::[]) [0,1,2,3] [0,1,2,21] (zq [0] 4 25::zq [2] 5 26::zq [4,5] 6 27::zq [6] 7 28::zq [7] 8 29::zq [8] 9 30::zq [9,0] 10 31::zq [9,2] 11 32::zq [9,10,11] 12 33::zq [9,12] 13 34::zq [9,13] 14 35::zq [9,14] 15 36::zq [15] 16 37::zq [16] 17 38::zq [16] 18 39::zq [16] 19 40::zq [16] 20 41::zq [16] 21 42::[]) [(_,_),(_,_),(_,_),(_,_)] rfl ⟨z1 rfl,z1 rfl,zp rfl (op_chr _ _ _ s89 _ underlying9 rfl rfl hv10),zp rfl (op_call _ _ 51 _ _ rfl call51 rfl (ok_wherryref11_letter v10 _ hv11) rfl rfl),zp rfl (op_un _ _ _ _ rfl rfl),z8 hg8_5 rfl,zr' rfl (oM rfl),zr' rfl (oM rfl),zr' rfl (op_chr _ _ _ s89 _ underlying9 rfl rfl hv12),zr' rfl (op_call _ _ 52 _ _ rfl call52 rfl (ok_wherryref11_digit v12 _ hv13) rfl rfl),zr' rfl (op_un _ _ _ _ rfl rfl),z3 true rfl,z8 hg8_12 rfl,zt rfl,zt rfl,zt rfl,zt rfl,z3 false rfl,zz⟩ ?_
           exact hl158 _ (zi h).symm
         ·refine zg hn (_::_::_::_::(25,vs s)::(26,vi s89)::(27,.v (.int .u8 v10))::(28,vb v11)::(29,vb (!v11))::(30,vb false)::(31,.v undef)::(32,.v undef)::(33,.v undef)::(34,.v undef)::(35,.v undef)::(36,vb false)::(37,vb false)::(38,.v undef)::(39,.v undef)::(40,.v undef)::(41,.v undef)::(42,vb false)::[]) [0,1,2,3] [0,1,2,21] (zq [0] 4 25::zq [2] 5 26::zq [4,5] 6 27::zq [6] 7 28::zq [7] 8 29::zq [8] 9 30::zq [9] 10 31::zq [9] 11 32::zq [9] 12 33::zq [9] 13 34::zq [9] 14 35::zq [9] 15 36::zq [15] 16 37::zq [16] 17 38::zq [16] 18 39::zq [16] 19 40::zq [16] 20 41::zq [16] 21 42::[]) [(_,_),(_,_),(_,_),(_,_)] rfl ⟨z1 rfl,z1 rfl,zp rfl (op_chr _ _ _ s89 _ underlying9 rfl rfl hv10),zp rfl (op_call _ _ 51 _ _ rfl call51 rfl (ok_wherryref11_letter v10 _ hv11) rfl rfl),zp rfl (op_un _ _ _ _ rfl rfl),z8 hg8_5 rfl,zt rfl,zt rfl,zt rfl,zt rfl,zt rfl,z3 false rfl,z1 rfl,zt rfl,zt rfl,zt rfl,zt rfl,z3 false rfl,zz⟩ ?_
          exact hl158 _ (zi h).symm
       ·have h := cond_f hb155 h
        refine ht_skip ?_
        refine pt_then (ht_seq ?_)
        refine ht_seq ?_
        refine ht_joinS h (fun (s161 : Bool) => [(0,vs s),(4,vi s89),(60,vb s161)]) ?_ ?_
        ·rintro s161 h
         refine pt_then ?_
         refine ht_cond _ rfl (fun hb165 => ?_) (fun hb165 => ?_)
         ·have h := cond_t hb165 h
          refine zgg hn [_,_,_,(2,vb false)] [0,1,2] [3] [zq [] 3 2] [(_,_)] rfl ⟨z2 rfl,zz⟩ ?_
          refine ht_ret ?_
          refine pt_r_then ?_
          refine pt_r_in ?_
          refine pt_r_then ?_
          refine pt_r_then ?_
          refine pt_r_in ?_
          refine pt_r_then ?_
          have h := hr150 _ (zi h).symm
          have h := hr127 _ (ho128 _ (zi h).symm).symm
          obtain rfl := zi h
          exact pt_ret hio rfl (.tmp _ _ .nil) rfl rfl
         ·have h := cond_f hb165 h
          refine ht_skip ?_
          refine pt_then ?_
          obtain ⟨v30, hv30, h⟩ := zn h
          refine zg hn [_,_,_,(61,vi s89),(62,vi v30),(3,vi v30)] [0,1,2] [0,1,5] [zq [1] 3 61,zq [3] 4 62,zq [4] 5 3] [(_,_),(_,_),(_,_)] rfl ⟨z1 rfl,zp rfl (oB rfl (ibind (f := int .i64) (Option.some.inj hv30))),z2 rfl,zz⟩ ?_
          refine pt_inb ?_
          refine pt_pick [0,2,1] (by kernel_rfl) (es' := [(_,_),(_,_),(_,_)]) rfl ?_
          exact hl149 _ (zi h).symm
        ·intro u162 h hl163 hr164
         obtain ⟨v20, hv20, h⟩ := zn h
         obtain ⟨v21, hv21, h⟩ := zn h
         refine cond_some h (fun hg10_5 h => ?_) (fun hg10_5 h => ?_)
         ·refine zg hn (_::_::_::_::(43,vi s89)::(44,vi s88)::(45,vi v20)::(46,vb v21)::(47,vb (!v21))::(48,vb true)::(49,.v undef)::(50,.v undef)::(51,.v undef)::(52,.v undef)::(53,vb true)::(54,vb true)::(55,.v undef)::(56,.v undef)::(57,.v undef)::(58,.v undef)::(59,.v undef)::(60,vb true)::[]) [0,1,2,3] [0,2,21] (zq [2] 4 43::zq [1] 5 44::zq [4,5] 6 45::zq [6] 7 46::zq [7] 8 47::zq [8] 9 48::zq [9] 10 49::zq [9] 11 50::zq [9] 12 51::zq [9] 13 52::zq [9] 14 53::zq [14] 15 54::zq [15] 16 55::zq [15] 17 56::zq [15] 18 57::zq [15] 19 58::zq [15] 20 59::zq [15] 21 60::[]) [(_,_),(_,_),(_,_)] rfl ⟨z1 rfl,z1 rfl,zp rfl (oB rfl (ibind (f := int .i64) (Option.some.inj hv20))),zp rfl (op_call _ _ 50 _ _ rfl call50 rfl (ok_wherryref11_in v20 1 63 _ hv21) rfl rfl),zp rfl (op_un _ _ _ _ rfl rfl),z8 hg10_5 rfl,zf rfl,zf rfl,zf rfl,zf rfl,z3 true rfl,z1 rfl,zf rfl,zf rfl,zf rfl,zf rfl,zf rfl,z3 true rfl,zz⟩ ?_
          exact hl163 _ (zi h).symm
         ·obtain ⟨v22, hv22, h⟩ := zn h
          refine cond_some h (fun hg10_11 h => ?_) (fun hg10_11 h => ?_)
          ·refine zg hn (_::_::_::_::(43,vi s89)::(44,vi s88)::(45,vi v20)::(46,vb v21)::(47,vb (!v21))::(48,vb false)::(49,vs s)::(50,vi s88)::(51,.v (.int .u8 v22))::(52,vb (v22 == 45))::(53,vb (v22 == 45))::(54,vb true)::(55,.v undef)::(56,.v undef)::(57,.v undef)::(58,.v undef)::(59,.v undef)::(60,vb true)::[]) [0,1,2,3] [0,2,21] (zq [2] 4 43::zq [1] 5 44::zq [4,5] 6 45::zq [6] 7 46::zq [7] 8 47::zq [8] 9 48::zq [9,0] 10 49::zq [9,1] 11 50::zq [9,10,11] 12 51::zq [9,12] 13 52::zq [9,13] 14 53::zq [14] 15 54::zq [15] 16 55::zq [15] 17 56::zq [15] 18 57::zq [15] 19 58::zq [15] 20 59::zq [15] 21 60::[]) [(_,_),(_,_),(_,_)] rfl ⟨z1 rfl,z1 rfl,zp rfl (oB rfl (ibind (f := int .i64) (Option.some.inj hv20))),zp rfl (op_call _ _ 50 _ _ rfl call50 rfl (ok_wherryref11_in v20 1 63 _ hv21) rfl rfl),zp rfl (op_un _ _ _ _ rfl rfl),z8 hg10_5 rfl,zr' rfl (oM rfl),zr' rfl (oM rfl),zr' rfl (op_chr _ _ _ s88 _ underlying9 rfl rfl hv22),zr' rfl (oB rfl rfl),z3 false rfl,z8 hg10_11 rfl,zf rfl,zf rfl,zf rfl,zf rfl,zf rfl,z3 true rfl,zz⟩ ?_
           exact hl163 _ (zi h).symm
          ·obtain ⟨v23, hv23, h⟩ := zn h
           obtain ⟨v24, hv24, h⟩ := zn h
           refine zg hn (_::_::_::_::(43,vi s89)::(44,vi s88)::(45,vi v20)::(46,vb v21)::(47,vb (!v21))::(48,vb false)::(49,vs s)::(50,vi s88)::(51,.v (.int .u8 v22))::(52,vb (v22 == 45))::(53,vb (v22 == 45))::(54,vb false)::(55,vs s)::(56,vi s89)::(57,vi v23)::(58,.v (.int .u8 v24))::(59,vb (v24 == 45))::(60,vb (v24 == 45))::[]) [0,1,2,3] [0,2,21] (zq [2] 4 43::zq [1] 5 44::zq [4,5] 6 45::zq [6] 7 46::zq [7] 8 47::zq [8] 9 48::zq [9,0] 10 49::zq [9,1] 11 50::zq [9,10,11] 12 51::zq [9,12] 13 52::zq [9,13] 14 53::zq [14] 15 54::zq [15,0] 16 55::zq [15,2] 17 56::zq [15,17] 18 57::zq [15,16,18] 19 58::zq [15,19] 20 59::zq [15,20] 21 60::[]) [(_,_),(_,_),(_,_)] rfl ⟨z1 rfl,z1 rfl,zp rfl (oB rfl (ibind (f := int .i64) (Option.some.inj hv20))),zp rfl (op_call _ _ 50 _ _ rfl call50 rfl (ok_wherryref11_in v20 1 63 _ hv21) rfl rfl),zp rfl (op_un _ _ _ _ rfl rfl),z8 hg10_5 rfl,zr' rfl (oM rfl),zr' rfl (oM rfl),zr' rfl (op_chr _ _ _ s88 _ underlying9 rfl rfl hv22),zr' rfl (oB rfl rfl),z3 false rfl,z8 hg10_11 rfl,zr' rfl (oM rfl),zr' rfl (oM rfl),zr' rfl (oB rfl (ibind (f := int .i64) (Option.some.inj hv23))),zr' rfl (op_chr _ _ _ v23 _ underlying9 rfl rfl hv24),zr' rfl (oB rfl rfl),z3 false rfl,zz⟩ ?_
           exact hl163 _ (zi h).symm
      ·intro u152 h hl153 hr154
       refine cond_some h (fun hg7_4 h => ?_) (fun hg7_4 h => ?_)
       ·obtain ⟨v4, hv4, h⟩ := zn h
        refine zg hn [_,_,_,_,(15,vi s89),(16,vs s),(17,vi (s.size : Int)),(18,vb (decide (s89 < (s.size : Int)))),(19,vb true),(20,vs s),(21,vi s89),(22,.v (.int .u8 v4)),(23,vb (v4 != 46)),(24,vb (v4 != 46))] [0,1,2,3] [0,1,2,13] [zq [2] 4 15,zq [0] 5 16,zq [5] 6 17,zq [4,6] 7 18,zq [7] 8 19,zq [8,0] 9 20,zq [8,2] 10 21,zq [8,9,10] 11 22,zq [8,11] 12 23,zq [8,12] 13 24] [(_,_),(_,_),(_,_),(_,_)] rfl ⟨z1 rfl,z1 rfl,zp rfl (oN underlying9 rfl),z4 rfl rfl,z8 hg7_4 rfl,zr' rfl (oM rfl),zr' rfl (oM rfl),zr' rfl (op_chr _ _ _ s89 _ underlying9 rfl rfl hv4),zr' rfl (oB rfl rfl),z3 true rfl,zz⟩ ?_
        exact hl153 _ (zi h).symm
       ·refine zg hn [_,_,_,_,(15,vi s89),(16,vs s),(17,vi (s.size : Int)),(18,vb (decide (s89 < (s.size : Int)))),(19,vb false),(20,.v undef),(21,.v undef),(22,.v undef),(23,.v undef),(24,vb false)] [0,1,2,3] [0,1,2,13] [zq [2] 4 15,zq [0] 5 16,zq [5] 6 17,zq [4,6] 7 18,zq [7] 8 19,zq [8] 9 20,zq [8] 10 21,zq [8] 11 22,zq [8] 12 23,zq [8] 13 24] [(_,_),(_,_),(_,_),(_,_)] rfl ⟨z1 rfl,z1 rfl,zp rfl (oN underlying9 rfl),z4 rfl rfl,z8 hg7_4 rfl,zt rfl,zt rfl,zt rfl,zt rfl,z3 false rfl,zz⟩ ?_
        exact hl153 _ (zi h).symm
    ·have h := cond_f hb131 h
     refine ht_exit ?_
     refine pt_x_then ?_
     refine pt_x_then ?_
     refine pt_x_in ?_
     refine pt_pick [] (by kernel_rfl) (es' := []) rfl ?_
     exact hl126 _ (ho128 _ (zi h).symm).symm
theorem ok_wherryref11_Path (p : T_Path) (r : Bool) (h : Sh.wherryref11_Path p = some r) : FnOK Tryd.prog 41 [.agg [.v (.bool p.Null), .v (.string p.Local), .v (.string p.Domain)]] (.v (.bool r)) := by
  unfold Sh.wherryref11_Path at h
  refine fn_ok func41 rfl (zl rfl) rfl rfl fun g0 hn hio => ?_
  refine zgg hn [_,(1,.box 24 [vb p.Null,vs p.Local,vs p.Domain]),(2,vb false)] [0] [1] [zq [0] 1 1,zq [] 2 2] [(_,_)] rfl ⟨zp rfl (op_box _ _ _ _ rfl rfl rfl),z2 rfl,zz⟩ ?_
  refine ht_seq ?_
  refine zgg hn [_,(3,.ptr 1 0),(4,vb p.Null)] [0] [0,2] [zq [0] 1 3,zq [1,0] 2 4] [(_,_),(_,_)] rfl ⟨zp rfl (oF underlying24 rfl sz4),zp rfl (oL underlying4 rfl),zz⟩ ?_
  refine ht_cond _ rfl (fun hb1 => ?_) (fun hb1 => ?_)
  ·have h := cond_t hb1 h
   refine ht_seq ?_
   refine ht_joinS h (fun (s2 : Bool) => [(2,vb s2)]) ?_ ?_
   ·rintro s2 h
    refine pt_then (ht_ret ?_)
    refine pt_r_then ?_
    obtain rfl := zi h
    exact pt_ret hio rfl (.tmp _ _ .nil) rfl rfl
   ·intro u3 h hl4 hr5
    refine cond_some h (fun hg2_3 h => ?_) (fun hg2_3 h => ?_)
    ·refine zg hn [_,_,(5,.ptr 1 1),(6,vs p.Local),(7,vb (p.Local.toList == z0.toList)),(8,vb true),(9,.ptr 1 2),(10,vs p.Domain),(11,vb (p.Domain.toList == z0.toList)),(12,vb (p.Domain.toList == z0.toList)),(2,vb (p.Domain.toList == z0.toList))] [0,1] [10] [zq [0] 2 5,zq [2,0] 3 6,zq [3] 4 7,zq [4] 5 8,zq [5,0] 6 9,zq [5,6,0] 7 10,zq [5,7] 8 11,zq [5,8] 9 12,zq [9] 10 2] [(_,_)] rfl ⟨zp rfl (oF underlying24 rfl sz9),zp rfl (oL underlying9 rfl),z4 rfl rfl,z8 hg2_3 rfl,zr' rfl (oF underlying24 rfl sz9),zr' rfl (oL underlying9 rfl),zr' rfl (oB rfl rfl),z3 true rfl,z2 rfl,zz⟩ ?_
     exact hl4 _ (zi h).symm
    ·refine zg hn [_,_,(5,.ptr 1 1),(6,vs p.Local),(7,vb (p.Local.toList == z0.toList)),(8,vb false),(9,.v undef),(10,.v undef),(11,.v undef),(12,vb false),(2,vb false)] [0,1] [10] [zq [0] 2 5,zq [2,0] 3 6,zq [3] 4 7,zq [4] 5 8,zq [5] 6 9,zq [5] 7 10,zq [5] 8 11,zq [5] 9 12,zq [9] 10 2] [(_,_)] rfl ⟨zp rfl (oF underlying24 rfl sz9),zp rfl (oL underlying9 rfl),z4 rfl rfl,z8 hg2_3 rfl,zt rfl,zt rfl,zt rfl,z3 false rfl,z2 rfl,zz⟩ ?_
     exact hl4 _ (zi h).symm
  ·have h := cond_f hb1 h
   refine ht_skip ?_
   refine pt_then (ht_seq ?_)
   refine ht_joinS h (fun (s8 : Bool) => [(2,vb s8)]) ?_ ?_
   ·rintro s8 h
    refine pt_then (ht_ret ?_)
    obtain rfl := zi h
    exact pt_ret hio rfl (.tmp _ _ .nil) rfl rfl
   ·intro u9 h hl10 hr11
    obtain ⟨v6, hv6, h⟩ := zn h
    refine cond_some h (fun hg3_3 h => ?_) (fun hg3_3 h => ?_)
    ·obtain ⟨v7, hv7, h⟩ := zn h
     refine zg hn [_,_,(13,.ptr 1 1),(14,vs p.Local),(15,vb v6),(16,vb true),(17,.ptr 1 2),(18,vs p.Domain),(19,vb v7),(20,vb v7),(2,vb v7)] [0,1] [10] [zq [0] 2 13,zq [2,0] 3 14,zq [3] 4 15,zq [4] 5 16,zq [5,0] 6 17,zq [5,6,0] 7 18,zq [5,7] 8 19,zq [5,8] 9 20,zq [9] 10 2] [(_,_)] rfl ⟨zp rfl (oF underlying24 rfl sz9),zp rfl (oL underlying9 rfl),zp rfl (op_call _ _ 54 _ _ rfl call54 rfl (ok_wherryref11_Local p.Local _ hv6) rfl rfl),z8 hg3_3 rfl,zr' rfl (oF underlying24 rfl sz9),zr' rfl (oL underlying9 rfl),zr' rfl (op_call _ _ 36 _ _ rfl call36 rfl (ok_wherryref11_Domain p.Domain _ hv7) rfl rfl),z3 true rfl,z2 rfl,zz⟩ ?_
     exact hl10 _ (zi h).symm
    ·refine zg hn [_,_,(13,.ptr 1 1),(14,vs p.Local),(15,vb v6),(16,vb false),(17,.v undef),(18,.v undef),(19,.v undef),(20,vb false),(2,vb false)] [0,1] [10] [zq [0] 2 13,zq [2,0] 3 14,zq [3] 4 15,zq [4] 5 16,zq [5] 6 17,zq [5] 7 18,zq [5] 8 19,zq [5] 9 20,zq [9] 10 2] [(_,_)] rfl ⟨zp rfl (oF underlying24 rfl sz9),zp rfl (oL underlying9 rfl),zp rfl (op_call _ _ 54 _ _ rfl call54 rfl (ok_wherryref11_Local p.Local _ hv6) rfl rfl),z8 hg3_3 rfl,zt rfl,zt rfl,zt rfl,z3 false rfl,z2 rfl,zz⟩ ?_
     exact hl10 _ (zi h).symm
theorem ok_wherryref11_Body (b : (List Int)) (r : Bool) (h : Sh.wherryref11_Body b = some r) : FnOK Tryd.prog 45 [.fl .shr 1 (map (int .u8) b)] (.v (.bool r)) := by
  unfold Sh.wherryref11_Body at h
  refine fn_ok func45 rfl (zl rfl) rfl rfl fun g0 hn hio => ?_
  refine zgg hn [_,(2,vb false)] [0] [0] [zq [] 1 2] [(_,_)] rfl ⟨z2 rfl,zz⟩ ?_
  refine ht_seq ?_
  refine zgg hn [_,(3,vi 0)] [0] [0,1] [zq [] 1 3] [(_,_),(_,_)] rfl ⟨z2 rfl,zz⟩ ?_
  refine ht_loopS h (fun (s31 : Int) => [(0,fb b),(3,vi s31)]) (fun (() : Unit) => [(0,fb b)]) ?_ ?_
  ·rintro ⟨⟩ h
   refine pt_then (ht_seq ?_)
   refine ht_joinS h (fun (s53 : Bool) => [(2,vb s53)]) ?_ ?_
   ·rintro s53 h
    refine pt_then (ht_ret ?_)
    obtain rfl := zi h
    exact pt_ret hio rfl (.tmp _ _ .nil) rfl rfl
   ·intro u54 h hl55 hr56
    refine cond_some h (fun hg6_3 h => ?_) (fun hg6_3 h => ?_)
    ·refine zg hn [_,(49,fb b),(50,vi (b.length : Int)),(51,vb ((b.length : Int) == 0)),(52,vb true),(53,.v undef),(54,.v undef),(55,.v undef),(56,.v undef),(57,.v undef),(58,.v undef),(59,.v undef),(60,vb true),(2,vb true)] [0] [13] [zq [0] 1 49,zq [1] 2 50,zq [2] 3 51,zq [3] 4 52,zq [4] 5 53,zq [4] 6 54,zq [4] 7 55,zq [4] 8 56,zq [4] 9 57,zq [4] 10 58,zq [4] 11 59,zq [4] 12 60,zq [12] 13 2] [(_,_)] rfl ⟨z1 rfl,zp rfl (op_len_fl _ _ _ underlying25 rfl (by decide) (map_len _)),z4 rfl rfl,z8 hg6_3 rfl,zf rfl,zf rfl,zf rfl,zf rfl,zf rfl,zf rfl,zf rfl,z3 true rfl,z2 rfl,zz⟩ ?_
     exact hl55 _ (zi h).symm
    ·obtain ⟨v50, hv50, h⟩ := zn h
     obtain ⟨v51, hv51, h⟩ := zn h
     obtain ⟨v52, hv52, h⟩ := zn h
     refine zg hn [_,(49,fb b),(50,vi (b.length : Int)),(51,vb ((b.length : Int) == 0)),(52,vb false),(53,fb b),(54,fb b),(55,vi (b.length : Int)),(56,vi v50),(57,.eref (.slot 53) (v51 * 1)),(58,.v (.int .u8 v52)),(59,vb (v52 == 10)),(60,vb (v52 == 10)),(2,vb (v52 == 10))] [0] [13] [zq [0] 1 49,zq [1] 2 50,zq [2] 3 51,zq [3] 4 52,zq [4,0] 5 53,zq [4,0] 6 54,zq [4,6] 7 55,zq [4,7] 8 56,zq [4,5,8] 9 57,zq [4,9,5] 10 58,zq [4,10] 11 59,zq [4,11] 12 60,zq [12] 13 2] [(_,_)] rfl ⟨z1 rfl,zp rfl (op_len_fl _ _ _ underlying25 rfl (by decide) (map_len _)),z4 rfl rfl,z8 hg6_3 rfl,zr' rfl (oM rfl),zr' rfl (oM rfl),zr' rfl (op_len_fl _ _ _ underlying25 rfl (by decide) (map_len _)),zr' rfl (oB rfl (ibind (f := int .i64) (Option.some.inj hv50))),zr' rfl (op_ix _ _ _ _ _ _ _ _ underlying25 sz5 (by decide) rfl rfl rfl (ix_ok hv51).1 (map_lt (ix_ok hv51).2) rfl),zr' rfl (op_load_e _ _ _ _ _ _ underlying5 rfl rfl rfl (map_get hv52)),zr' rfl (oB rfl rfl),z3 false rfl,z2 rfl,zz⟩ ?_
     exact hl55 _ (zi h).symm
  ·rintro u38 hl39 hr40 s31 rr43 h ho41
   refine ht_seq ?_
   refine zgg hn [_,_,(4,vi s31),(5,fb b),(6,vi (b.length : Int)),(7,vb (decide (s31 < (b.length : Int))))] [0,1] [0,1,5] [zq [1] 2 4,zq [0] 3 5,zq [3] 4 6,zq [2,4] 5 7] [(_,_),(_,_),(_,_)] rfl ⟨z1 rfl,z1 rfl,zp rfl (op_len_fl _ _ _ underlying25 rfl (by decide) (map_len _)),z4 rfl rfl,zz⟩ ?_
   refine ht_cond _ rfl (fun hb44 => ?_) (fun hb44 => ?_)
   ·have h := cond_t hb44 h
    refine ht_skip ?_
    refine pt_then (ht_seq ?_)
    refine ht_block ?_
    refine ht_seq ?_
    refine ht_joinS h (fun (s45 : Bool) => [(0,fb b),(3,vi s31),(48,vb s45)]) ?_ ?_
    ·rintro s45 h
     refine pt_then ?_
     refine ht_cond _ rfl (fun hb49 => ?_) (fun hb49 => ?_)
     ·have h := cond_t hb49 h
      refine zgg hn [_,_,_,(2,vb false)] [0,1,2] [3] [zq [] 3 2] [(_,_)] rfl ⟨z2 rfl,zz⟩ ?_
      refine ht_ret ?_
      refine pt_r_in ?_
      refine pt_r_then ?_
      refine pt_r_then ?_
      refine pt_r_in ?_
      refine pt_r_then ?_
      have h := hr40 _ (ho41 _ (zi h).symm).symm
      obtain rfl := zi h
      exact pt_ret hio rfl (.tmp _ _ .nil) rfl rfl
     ·have h := cond_f hb49 h
      refine ht_skip ?_
      refine pt_inb ?_
      refine pt_then ?_
      obtain ⟨v23, hv23, h⟩ := zn h
      refine zg hn [_,_,_,(8,vi s31),(9,vi v23),(3,vi v23)] [0,1,2] [0,5] [zq [1] 3 8,zq [3] 4 9,⟨[4],[1],[5],[(.slot 3)]⟩] [(_,_),(_,_)] rfl ⟨z1 rfl,zp rfl (oB rfl (ibind (f := int .i64) (Option.some.inj hv23))),zp rfl (LOp.drop [_] (op_assign _ _ _ _ rfl rfl)),zz⟩ ?_
      exact pt_next _ (zi h).symm rfl
    ·intro u46 h hl47 hr48
     obtain ⟨v2, hv2, h⟩ := zn h
     obtain ⟨v3, hv3, h⟩ := zn h
     refine cond_some h (fun hg4_5 h => ?_) (fun hg4_5 h => ?_)
     ·obtain ⟨v4, hv4, h⟩ := zn h
      refine cond_some h (fun hg4_11 h => ?_) (fun hg4_11 h => ?_)
      ·refine zg hn (_::_::_::(10,fb b)::(11,vi s31)::(12,.eref (.slot 10) (v2 * 1))::(13,.v (.int .u8 v3))::(14,vb (v3 == 13))::(15,vb true)::(16,vi s31)::(17,vi v4)::(18,fb b)::(19,vi (b.length : Int))::(20,vb (decide ((b.length : Int) ≤ v4)))::(21,vb true)::(22,.v undef)::(23,.v undef)::(24,.v undef)::(25,.v undef)::(26,.v undef)::(27,.v undef)::(28,vb true)::(29,vb true)::(30,vb true)::(31,.v undef)::(32,.v undef)::(33,.v undef)::(34,.v undef)::(35,.v undef)::(36,.v undef)::(37,.v undef)::(38,.v undef)::(39,.v undef)::(40,.v undef)::(41,.v undef)::(42,.v undef)::(43,.v undef)::(44,.v undef)::(45,.v undef)::(46,.v undef)::(47,.v undef)::(48,vb true)::[]) [0,1,2] [0,1,41] (zq [0] 3 10::zq [1] 4 11::zq [3,4] 5 12::zq [5,3] 6 13::zq [6] 7 14::zq [7] 8 15::zq [8,1] 9 16::zq [8,9] 10 17::zq [8,0] 11 18::zq [8,11] 12 19::zq [8,10,12] 13 20::zq [8,13] 14 21::zq [14] 15 22::zq [14] 16 23::zq [14] 17 24::zq [14] 18 25::zq [14] 19 26::zq [14] 20 27::zq [8,14] 21 28::zq [8,21] 22 29::zq [22] 23 30::zq [23] 24 31::zq [23] 25 32::zq [23] 26 33::zq [23] 27 34::zq [23] 28 35::zq [23] 29 36::zq [29] 30 37::zq [29] 31 38::zq [29] 32 39::zq [32] 33 40::zq [32] 34 41::zq [32] 35 42::zq [32] 36 43::zq [32] 37 44::zq [32] 38 45::zq [29] 39 46::zq [23] 40 47::zq [23] 41 48::[]) [(_,_),(_,_),(_,_)] rfl ⟨z1 rfl,z1 rfl,zp rfl (op_ix _ _ _ _ _ _ _ _ underlying25 sz5 (by decide) rfl rfl rfl (ix_ok hv2).1 (map_lt (ix_ok hv2).2) rfl),zp rfl (op_load_e _ _ _ _ _ _ underlying5 rfl rfl rfl (map_get hv3)),z4 rfl rfl,z8 hg4_5 rfl,zr' rfl (oM rfl),zr' rfl (oB rfl (ibind (f := int .i64) (Option.some.inj hv4))),zr' rfl (oM rfl),zr' rfl (op_len_fl _ _ _ underlying25 rfl (by decide) (map_len _)),zr' rfl (oB rfl rfl),zr' rfl (op_move _ _ _ _ (zb hg4_11) rfl),zf rfl,zf rfl,zf rfl,zf rfl,zf rfl,zf rfl,zr' rfl (op_pick _ _ true _ rfl rfl),z3 true rfl,z1 rfl,zf rfl,zf rfl,zf rfl,zf rfl,zf rfl,zf rfl,zu' rfl,zu' rfl,zu' rfl,zu' rfl,zu' rfl,zu' rfl,zu' rfl,zu' rfl,zu' rfl,zu' rfl,zf rfl,z3 true rfl,zz⟩ ?_
       exact hl47 _ (zi h).symm
      ·obtain ⟨v5, hv5, h⟩ := zn h
       obtain ⟨v6, hv6, h⟩ := zn h
       obtain ⟨v7, hv7, h⟩ := zn h
       refine cond_some h (fun hg4_20 h => ?_) (fun hg4_20 h => ?_)
       ·refine zg hn (_::_::_::(10,fb b)::(11,vi s31)::(12,.eref (.slot 10) (v2 * 1))::(13,.v (.int .u8 v3))::(14,vb (v3 == 13))::(15,vb true)::(16,vi s31)::(17,vi v4)::(18,fb b)::(19,vi (b.length : Int))::(20,vb (decide ((b.length : Int) ≤ v4)))::(21,vb false)::(22,fb b)::(23,vi s31)::(24,vi v5)::(25,.eref (.slot 22) (v6 * 1))::(26,.v (.int .u8 v7))::(27,vb (v7 != 10))::(28,vb (v7 != 10))::(29,vb (v7 != 10))::(30,vb true)::(31,.v undef)::(32,.v undef)::(33,.v undef)::(34,.v undef)::(35,.v undef)::(36,.v undef)::(37,.v undef)::(38,.v undef)::(39,.v undef)::(40,.v undef)::(41,.v undef)::(42,.v undef)::(43,.v undef)::(44,.v undef)::(45,.v undef)::(46,.v undef)::(47,.v undef)::(48,vb true)::[]) [0,1,2] [0,1,41] (zq [0] 3 10::zq [1] 4 11::zq [3,4] 5 12::zq [5,3] 6 13::zq [6] 7 14::zq [7] 8 15::zq [8,1] 9 16::zq [8,9] 10 17::zq [8,0] 11 18::zq [8,11] 12 19::zq [8,10,12] 13 20::zq [8,13] 14 21::zq [14,0] 15 22::zq [14,1] 16 23::zq [14,16] 17 24::zq [14,15,17] 18 25::zq [14,18,15] 19 26::zq [14,19] 20 27::zq [8,14,20] 21 28::zq [8,21] 22 29::zq [22] 23 30::zq [23] 24 31::zq [23] 25 32::zq [23] 26 33::zq [23] 27 34::zq [23] 28 35::zq [23] 29 36::zq [29] 30 37::zq [29] 31 38::zq [29] 32 39::zq [32] 33 40::zq [32] 34 41::zq [32] 35 42::zq [32] 36 43::zq [32] 37 44::zq [32] 38 45::zq [29] 39 46::zq [23] 40 47::zq [23] 41 48::[]) [(_,_),(_,_),(_,_)] rfl ⟨z1 rfl,z1 rfl,zp rfl (op_ix _ _ _ _ _ _ _ _ underlying25 sz5 (by decide) rfl rfl rfl (ix_ok hv2).1 (map_lt (ix_ok hv2).2) rfl),zp rfl (op_load_e _ _ _ _ _ _ underlying5 rfl rfl rfl (map_get hv3)),z4 rfl rfl,z8 hg4_5 rfl,zr' rfl (oM rfl),zr' rfl (oB rfl (ibind (f := int .i64) (Option.some.inj hv4))),zr' rfl (oM rfl),zr' rfl (op_len_fl _ _ _ underlying25 rfl (by decide) (map_len _)),zr' rfl (oB rfl rfl),zr' rfl (op_move _ _ _ _ (zb hg4_11) rfl),zr' rfl (oM rfl),zr' rfl (oM rfl),zr' rfl (oB rfl (ibind (f := int .i64) (Option.some.inj hv5))),zr' rfl (op_ix _ _ _ _ _ _ _ _ underlying25 sz5 (by decide) rfl rfl rfl (ix_ok hv6).1 (map_lt (ix_ok hv6).2) rfl),zr' rfl (op_load_e _ _ _ _ _ _ underlying5 rfl rfl rfl (map_get hv7)),zr' rfl (oB rfl rfl),zr' rfl (op_pick _ _ false _ rfl rfl),z3 true rfl,z8 hg4_20 rfl,zf rfl,zf rfl,zf rfl,zf rfl,zf rfl,zf rfl,zu' rfl,zu' rfl,zu' rfl,zu' rfl,zu' rfl,zu' rfl,zu' rfl,zu' rfl,zu' rfl,zu' rfl,zf rfl,z3 true rfl,zz⟩ ?_
        exact hl47 _ (zi h).symm
       ·obtain ⟨v8, hv8, h⟩ := zn h
        obtain ⟨v9, hv9, h⟩ := zn h
        refine cond_some h (fun hg4_26 h => ?_) (fun hg4_26 h => ?_)
        ·refine cond_some h (fun hg4_29 h => ?_) (fun hg4_29 h => ?_)
         ·refine zg hn (_::_::_::(10,fb b)::(11,vi s31)::(12,.eref (.slot 10) (v2 * 1))::(13,.v (.int .u8 v3))::(14,vb (v3 == 13))::(15,vb true)::(16,vi s31)::(17,vi v4)::(18,fb b)::(19,vi (b.length : Int))::(20,vb (decide ((b.length : Int) ≤ v4)))::(21,vb false)::(22,fb b)::(23,vi s31)::(24,vi v5)::(25,.eref (.slot 22) (v6 * 1))::(26,.v (.int .u8 v7))::(27,vb (v7 != 10))::(28,vb (v7 != 10))::(29,vb (v7 != 10))::(30,vb false)::(31,fb b)::(32,vi s31)::(33,.eref (.slot 31) (v8 * 1))::(34,.v (.int .u8 v9))::(35,vb (v9 == 10))::(36,vb true)::(37,vi s31)::(38,vb (s31 == 0))::(39,vb true)::(40,.v undef)::(41,.v undef)::(42,.v undef)::(43,.v undef)::(44,.v undef)::(45,.v undef)::(46,vb true)::(47,vb true)::(48,vb true)::[]) [0,1,2] [0,1,41] (zq [0] 3 10::zq [1] 4 11::zq [3,4] 5 12::zq [5,3] 6 13::zq [6] 7 14::zq [7] 8 15::zq [8,1] 9 16::zq [8,9] 10 17::zq [8,0] 11 18::zq [8,11] 12 19::zq [8,10,12] 13 20::zq [8,13] 14 21::zq [14,0] 15 22::zq [14,1] 16 23::zq [14,16] 17 24::zq [14,15,17] 18 25::zq [14,18,15] 19 26::zq [14,19] 20 27::zq [8,14,20] 21 28::zq [8,21] 22 29::zq [22] 23 30::zq [23,0] 24 31::zq [23,1] 25 32::zq [23,24,25] 26 33::zq [23,26,24] 27 34::zq [23,27] 28 35::zq [23,28] 29 36::zq [29,1] 30 37::zq [29,30] 31 38::zq [29,31] 32 39::zq [32] 33 40::zq [32] 34 41::zq [32] 35 42::zq [32] 36 43::zq [32] 37 44::zq [32] 38 45::zq [29,32] 39 46::zq [23,29,39] 40 47::zq [23,40] 41 48::[]) [(_,_),(_,_),(_,_)] rfl ⟨z1 rfl,z1 rfl,zp rfl (op_ix _ _ _ _ _ _ _ _ underlying25 sz5 (by decide) rfl rfl rfl (ix_ok hv2).1 (map_lt (ix_ok hv2).2) rfl),zp rfl (op_load_e _ _ _ _ _ _ underlying5 rfl rfl rfl (map_get hv3)),z4 rfl rfl,z8 hg4_5 rfl,zr' rfl (oM rfl),zr' rfl (oB rfl (ibind (f := int .i64) (Option.some.inj hv4))),zr' rfl (oM rfl),zr' rfl (op_len_fl _ _ _ underlying25 rfl (by decide) (map_len _)),zr' rfl (oB rfl rfl),zr' rfl (op_move _ _ _ _ (zb hg4_11) rfl),zr' rfl (oM rfl),zr' rfl (oM rfl),zr' rfl (oB rfl (ibind (f := int .i64) (Option.some.inj hv5))),zr' rfl (op_ix _ _ _ _ _ _ _ _ underlying25 sz5 (by decide) rfl rfl rfl (ix_ok hv6).1 (map_lt (ix_ok hv6).2) rfl),zr' rfl (op_load_e _ _ _ _ _ _ underlying5 rfl rfl rfl (map_get hv7)),zr' rfl (oB rfl rfl),zr' rfl (op_pick _ _ false _ rfl rfl),z3 true rfl,z8 hg4_20 rfl,zr' rfl (oM rfl),zr' rfl (oM rfl),zr' rfl (op_ix _ _ _ _ _ _ _ _ underlying25 sz5 (by decide) rfl rfl rfl (ix_ok hv8).1 (map_lt (ix_ok hv8).2) rfl),zr' rfl (op_load_e _ _ _ _ _ _ underlying5 rfl rfl rfl (map_get hv9)),zr' rfl (oB rfl rfl),zr' rfl (op_move _ _ _ _ (zb hg4_26) rfl),zr' rfl (oM rfl),zr' rfl (oB rfl rfl),zr' rfl (op_move _ _ _ _ (zb hg4_29) rfl),zf rfl,zf rfl,zf rfl,zf rfl,zf rfl,zf rfl,zr' rfl (op_pick _ _ true _ rfl rfl),zr' rfl (op_pick _ _ true _ rfl rfl),z3 false rfl,zz⟩ ?_
          exact hl47 _ (zi h).symm
         ·obtain ⟨v10, hv10, h⟩ := zn h
          obtain ⟨v11, hv11, h⟩ := zn h
          obtain ⟨v12, hv12, h⟩ := zn h
          refine zg hn (_::_::_::(10,fb b)::(11,vi s31)::(12,.eref (.slot 10) (v2 * 1))::(13,.v (.int .u8 v3))::(14,vb (v3 == 13))::(15,vb true)::(16,vi s31)::(17,vi v4)::(18,fb b)::(19,vi (b.length : Int))::(20,vb (decide ((b.length : Int) ≤ v4)))::(21,vb false)::(22,fb b)::(23,vi s31)::(24,vi v5)::(25,.eref (.slot 22) (v6 * 1))::(26,.v (.int .u8 v7))::(27,vb (v7 != 10))::(28,vb (v7 != 10))::(29,vb (v7 != 10))::(30,vb false)::(31,fb b)::(32,vi s31)::(33,.eref (.slot 31) (v8 * 1))::(34,.v (.int .u8 v9))::(35,vb (v9 == 10))::(36,vb true)::(37,vi s31)::(38,vb (s31 == 0))::(39,vb false)::(40,fb b)::(41,vi s31)::(42,vi v10)::(43,.eref (.slot 40) (v11 * 1))::(44,.v (.int .u8 v12))::(45,vb (v12 != 13))::(46,vb (v12 != 13))::(47,vb (v12 != 13))::(48,vb (v12 != 13))::[]) [0,1,2] [0,1,41] (zq [0] 3 10::zq [1] 4 11::zq [3,4] 5 12::zq [5,3] 6 13::zq [6] 7 14::zq [7] 8 15::zq [8,1] 9 16::zq [8,9] 10 17::zq [8,0] 11 18::zq [8,11] 12 19::zq [8,10,12] 13 20::zq [8,13] 14 21::zq [14,0] 15 22::zq [14,1] 16 23::zq [14,16] 17 24::zq [14,15,17] 18 25::zq [14,18,15] 19 26::zq [14,19] 20 27::zq [8,14,20] 21 28::zq [8,21] 22 29::zq [22] 23 30::zq [23,0] 24 31::zq [23,1] 25 32::zq [23,24,25] 26 33::zq [23,26,24] 27 34::zq [23,27] 28 35::zq [23,28] 29 36::zq [29,1] 30 37::zq [29,30] 31 38::zq [29,31] 32 39::zq [32,0] 33 40::zq [32,1] 34 41::zq [32,34] 35 42::zq [32,33,35] 36 43::zq [32,36,33] 37 44::zq [32,37] 38 45::zq [29,32,38] 39 46::zq [23,29,39] 40 47::zq [23,40] 41 48::[]) [(_,_),(_,_),(_,_)] rfl ⟨z1 rfl,z1 rfl,zp rfl (op_ix _ _ _ _ _ _ _ _ underlying25 sz5 (by decide) rfl rfl rfl (ix_ok hv2).1 (map_lt (ix_ok hv2).2) rfl),zp rfl (op_load_e _ _ _ _ _ _ underlying5 rfl rfl rfl (map_get hv3)),z4 rfl rfl,z8 hg4_5 rfl,zr' rfl (oM rfl),zr' rfl (oB rfl (ibind (f := int .i64) (Option.some.inj hv4))),zr' rfl (oM rfl),zr' rfl (op_len_fl _ _ _ underlying25 rfl (by decide) (map_len _)),zr' rfl (oB rfl rfl),zr' rfl (op_move _ _ _ _ (zb hg4_11) rfl),zr' rfl (oM rfl),zr' rfl (oM rfl),zr' rfl (oB rfl (ibind (f := int .i64) (Option.some.inj hv5))),zr' rfl (op_ix _ _ _ _ _ _ _ _ underlying25 sz5 (by decide) rfl rfl rfl (ix_ok hv6).1 (map_lt (ix_ok hv6).2) rfl),zr' rfl (op_load_e _ _ _ _ _ _ underlying5 rfl rfl rfl (map_get hv7)),zr' rfl (oB rfl rfl),zr' rfl (op_pick _ _ false _ rfl rfl),z3 true rfl,z8 hg4_20 rfl,zr' rfl (oM rfl),zr' rfl (oM rfl),zr' rfl (op_ix _ _ _ _ _ _ _ _ underlying25 sz5 (by decide) rfl rfl rfl (ix_ok hv8).1 (map_lt (ix_ok hv8).2) rfl),zr' rfl (op_load_e _ _ _ _ _ _ underlying5 rfl rfl rfl (map_get hv9)),zr' rfl (oB rfl rfl),zr' rfl (op_move _ _ _ _ (zb hg4_26) rfl),zr' rfl (oM rfl),zr' rfl (oB rfl rfl),zr' rfl (op_move _ _ _ _ (zb hg4_29) rfl),zr' rfl (oM rfl),zr' rfl (oM rfl),zr' rfl (oB rfl (ibind (f := int .i64) (Option.some.inj hv10))),zr' rfl (op_ix _ _ _ _ _ _ _ _ underlying25 sz5 (by decide) rfl rfl rfl (ix_ok hv11).1 (map_lt (ix_ok hv11).2) rfl),zr' rfl (op_load_e _ _ _ _ _ _ underlying5 rfl rfl rfl (map_get hv12)),zr' rfl (oB rfl rfl),zr' rfl (op_pick _ _ false _ rfl rfl),zr' rfl (op_pick _ _ true _ rfl rfl),z3 false rfl,zz⟩ ?_
          exact hl47 _ (zi h).symm
        ·refine zg hn (_::_::_::(10,fb b)::(11,vi s31)::(12,.eref (.slot 10) (v2 * 1))::(13,.v (.int .u8 v3))::(14,vb (v3 == 13))::(15,vb true)::(16,vi s31)::(17,vi v4)::(18,fb b)::(19,vi (b.length : Int))::(20,vb (decide ((b.length : Int) ≤ v4)))::(21,vb false)::(22,fb b)::(23,vi s31)::(24,vi v5)::(25,.eref (.slot 22) (v6 * 1))::(26,.v (.int .u8 v7))::(27,vb (v7 != 10))::(28,vb (v7 != 10))::(29,vb (v7 != 10))::(30,vb false)::(31,fb b)::(32,vi s31)::(33,.eref (.slot 31) (v8 * 1))::(34,.v (.int .u8 v9))::(35,vb (v9 == 10))::(36,vb false)::(37,.v undef)::(38,.v undef)::(39,.v undef)::(40,.v undef)::(41,.v undef)::(42,.v undef)::(43,.v undef)::(44,.v undef)::(45,.v undef)::(46,.v undef)::(47,vb false)::(48,vb false)::[]) [0,1,2] [0,1,41] (zq [0] 3 10::zq [1] 4 11::zq [3,4] 5 12::zq [5,3] 6 13::zq [6] 7 14::zq [7] 8 15::zq [8,1] 9 16::zq [8,9] 10 17::zq [8,0] 11 18::zq [8,11] 12 19::zq [8,10,12] 13 20::zq [8,13] 14 21::zq [14,0] 15 22::zq [14,1] 16 23::zq [14,16] 17 24::zq [14,15,17] 18 25::zq [14,18,15] 19 26::zq [14,19] 20 27::zq [8,14,20] 21 28::zq [8,21] 22 29::zq [22] 23 30::zq [23,0] 24 31::zq [23,1] 25 32::zq [23,24,25] 26 33::zq [23,26,24] 27 34::zq [23,27] 28 35::zq [23,28] 29 36::zq [29] 30 37::zq [29] 31 38::zq [29] 32 39::zq [32] 33 40::zq [32] 34 41::zq [32] 35 42::zq [32] 36 43::zq [32] 37 44::zq [32] 38 45::zq [29] 39 46::zq [23,29] 40 47::zq [23,40] 41 48::[]) [(_,_),(_,_),(_,_)] rfl ⟨z1 rfl,z1 rfl,zp rfl (op_ix _ _ _ _ _ _ _ _ underlying25 sz5 (by decide) rfl rfl rfl (ix_ok hv2).1 (map_lt (ix_ok hv2).2) rfl),zp rfl (op_load_e _ _ _ _ _ _ underlying5 rfl rfl rfl (map_get hv3)),z4 rfl rfl,z8 hg4_5 rfl,zr' rfl (oM rfl),zr' rfl (oB rfl (ibind (f := int .i64) (Option.some.inj hv4))),zr' rfl (oM rfl),zr' rfl (op_len_fl _ _ _ underlying25 rfl (by decide) (map_len _)),zr' rfl (oB rfl rfl),zr' rfl (op_move _ _ _ _ (zb hg4_11) rfl),zr' rfl (oM rfl),zr' rfl (oM rfl),zr' rfl (oB rfl (ibind (f := int .i64) (Option.some.inj hv5))),zr' rfl (op_ix _ _ _ _ _ _ _ _ underlying25 sz5 (by decide) rfl rfl rfl (ix_ok hv6).1 (map_lt (ix_ok hv6).2) rfl),zr' rfl (op_load_e _ _ _ _ _ _ underlying5 rfl rfl rfl (map_get hv7)),zr' rfl (oB rfl rfl),zr' rfl (op_pick _ _ false _ rfl rfl),z3 true rfl,z8 hg4_20 rfl,zr' rfl (oM rfl),zr' rfl (oM rfl),zr' rfl (op_ix _ _ _ _ _ _ _ _ underlying25 sz5 (by decide) rfl rfl rfl (ix_ok hv8).1 (map_lt (ix_ok hv8).2) rfl),zr' rfl (op_load_e _ _ _ _ _ _ underlying5 rfl rfl rfl (map_get hv9)),zr' rfl (oB rfl rfl),zr' rfl (op_move _ _ _ _ (zb hg4_26) rfl),zt rfl,zt rfl,zt rfl,zu' rfl,zu' rfl,zu' rfl,zu' rfl,zu' rfl,zu' rfl,zt rfl,zr' rfl (op_pick _ _ false _ rfl rfl),z3 false rfl,zz⟩ ?_
         exact hl47 _ (zi h).symm
     ·obtain ⟨v13, hv13, h⟩ := zn h
      obtain ⟨v14, hv14, h⟩ := zn h
      refine cond_some h (fun hg4_26 h => ?_) (fun hg4_26 h => ?_)
      ·refine cond_some h (fun hg4_29 h => ?_) (fun hg4_29 h => ?_)
       ·refine zg hn (_::_::_::(10,fb b)::(11,vi s31)::(12,.eref (.slot 10) (v2 * 1))::(13,.v (.int .u8 v3))::(14,vb (v3 == 13))::(15,vb false)::(16,.v undef)::(17,.v undef)::(18,.v undef)::(19,.v undef)::(20,.v undef)::(21,.v undef)::(22,.v undef)::(23,.v undef)::(24,.v undef)::(25,.v undef)::(26,.v undef)::(27,.v undef)::(28,.v undef)::(29,vb false)::(30,vb false)::(31,fb b)::(32,vi s31)::(33,.eref (.slot 31) (v13 * 1))::(34,.v (.int .u8 v14))::(35,vb (v14 == 10))::(36,vb true)::(37,vi s31)::(38,vb (s31 == 0))::(39,vb true)::(40,.v undef)::(41,.v undef)::(42,.v undef)::(43,.v undef)::(44,.v undef)::(45,.v undef)::(46,vb true)::(47,vb true)::(48,vb true)::[]) [0,1,2] [0,1,41] (zq [0] 3 10::zq [1] 4 11::zq [3,4] 5 12::zq [5,3] 6 13::zq [6] 7 14::zq [7] 8 15::zq [8] 9 16::zq [8] 10 17::zq [8] 11 18::zq [8] 12 19::zq [8] 13 20::zq [8] 14 21::zq [14] 15 22::zq [14] 16 23::zq [14] 17 24::zq [14] 18 25::zq [14] 19 26::zq [14] 20 27::zq [8] 21 28::zq [8] 22 29::zq [22] 23 30::zq [23,0] 24 31::zq [23,1] 25 32::zq [23,24,25] 26 33::zq [23,26,24] 27 34::zq [23,27] 28 35::zq [23,28] 29 36::zq [29,1] 30 37::zq [29,30] 31 38::zq [29,31] 32 39::zq [32] 33 40::zq [32] 34 41::zq [32] 35 42::zq [32] 36 43::zq [32] 37 44::zq [32] 38 45::zq [29,32] 39 46::zq [23,29,39] 40 47::zq [23,40] 41 48::[]) [(_,_),(_,_),(_,_)] rfl ⟨z1 rfl,z1 rfl,zp rfl (op_ix _ _ _ _ _ _ _ _ underlying25 sz5 (by decide) rfl rfl rfl (ix_ok hv2).1 (map_lt (ix_ok hv2).2) rfl),zp rfl (op_load_e _ _ _ _ _ _ underlying5 rfl rfl rfl (map_get hv3)),z4 rfl rfl,z8 hg4_5 rfl,zt rfl,zt rfl,zt rfl,zt rfl,zt rfl,zt rfl,zu' rfl,zu' rfl,zu' rfl,zu' rfl,zu' rfl,zu' rfl,zt rfl,z3 false rfl,z1 rfl,zr' rfl (oM rfl),zr' rfl (oM rfl),zr' rfl (op_ix _ _ _ _ _ _ _ _ underlying25 sz5 (by decide) rfl rfl rfl (ix_ok hv13).1 (map_lt (ix_ok hv13).2) rfl),zr' rfl (op_load_e _ _ _ _ _ _ underlying5 rfl rfl rfl (map_get hv14)),zr' rfl (oB rfl rfl),zr' rfl (op_move _ _ _ _ (zb hg4_26) rfl),zr' rfl (oM rfl),zr' rfl (oB rfl rfl),zr' rfl (op_move _ _ _ _ (zb hg4_29) rfl),zf rfl,zf rfl,zf rfl,zf rfl,zf rfl,zf rfl,zr' rfl (op_pick _ _ true _ rfl rfl),zr' rfl (op_pick _ _ true _ rfl rfl),z3 false rfl,zz⟩ ?_
        exact hl47 _ (zi h).symm
       ·obtain ⟨v15, hv15, h⟩ := zn h
        obtain ⟨v16, hv16, h⟩ := zn h
        obtain ⟨v17, hv17, h⟩ := zn h
        refine zg hn (_::_::_::(10,fb b)::(11,vi s31)::(12,.eref (.slot 10) (v2 * 1))::(13,.v (.int .u8 v3))::(14,vb (v3 == 13))::(15,vb false)::(16,.v undef)::(17,.v undef)::(18,.v undef)::(19,.v undef)::(20,.v undef)::(21,.v undef)::(22,.v undef)::(23,.v undef)::(24,.v undef)::(25,.v undef)::(26,.v undef)::(27,.v undef)::(28,.v undef)::(29,vb false)::(30,vb false)::(31,fb b)::(32,vi s31)::(33,.eref (.slot 31) (v13 * 1))::(34,.v (.int .u8 v14))::(35,vb (v14 == 10))::(36,vb true)::(37,vi s31)::(38,vb (s31 == 0))::(39,vb false)::(40,fb b)::(41,vi s31)::(42,vi v15)::(43,.eref (.slot 40) (v16 * 1))::(44,.v (.int .u8 v17))::(45,vb (v17 != 13))::(46,vb (v17 != 13))::(47,vb (v17 != 13))::(48,vb (v17 != 13))::[]) [0,1,2] [0,1,41] (zq [0] 3 10::zq [1] 4 11::zq [3,4] 5 12::zq [5,3] 6 13::zq [6] 7 14::zq [7] 8 15::zq [8] 9 16::zq [8] 10 17::zq [8] 11 18::zq [8] 12 19::zq [8] 13 20::zq [8] 14 21::zq [14] 15 22::zq [14] 16 23::zq [14] 17 24::zq [14] 18 25::zq [14] 19 26::zq [14] 20 27::zq [8] 21 28::zq [8] 22 29::zq [22] 23 30::zq [23,0] 24 31::zq [23,1] 25 32::zq [23,24,25] 26 33::zq [23,26,24] 27 34::zq [23,27] 28 35::zq [23,28] 29 36::zq [29,1] 30 37::zq [29,30] 31 38::zq [29,31] 32 39::zq [32,0] 33 40::zq [32,1] 34 41::zq [32,34] 35 42::zq [32,33,35] 36 43::zq [32,36,33] 37 44::zq [32,37] 38 45::zq [29,32,38] 39 46::zq [23,29,39] 40 47::zq [23,40] 41 48::[]) [(_,_),(_,_),(_,_)] rfl ⟨z1 rfl,z1 rfl,zp rfl (op_ix _ _ _ _ _ _ _ _ underlying25 sz5 (by decide) rfl rfl rfl (ix_ok hv2).1 (map_lt (ix_ok hv2).2) rfl),zp rfl (op_load_e _ _ _ _ _ _ underlying5 rfl rfl rfl (map_get hv3)),z4 rfl rfl,z8 hg4_5 rfl,zt rfl,zt rfl,zt rfl,zt rfl,zt rfl,zt rfl,zu' rfl,zu' rfl,zu' rfl,zu' rfl,zu' rfl,zu' rfl,zt rfl,z3 false rfl,z1 rfl,zr' rfl (oM rfl),zr' rfl (oM rfl),zr' rfl (op_ix _ _ _ _ _ _ _ _ underlying25 sz5 (by decide) rfl rfl rfl (ix_ok hv13).1 (map_lt (ix_ok hv13).2) rfl),zr' rfl (op_load_e _ _ _ _ _ _ underlying5 rfl rfl rfl (map_get hv14)),zr' rfl (oB rfl rfl),zr' rfl (op_move _ _ _ _ (zb hg4_26) rfl),zr' rfl (oM rfl),zr' rfl (oB rfl rfl),zr' rfl (op_move _ _ _ _ (zb hg4_29) rfl),zr' rfl (oM rfl),zr' rfl (oM rfl),zr' rfl (oB rfl (ibind (f := int .i64) (Option.some.inj hv15))),zr' rfl (op_ix _ _ _ _ _ _ _ _ underlying25 sz5 (by decide) rfl rfl rfl (ix_ok hv16).1 (map_lt (ix_ok hv16).2) rfl),zr' rfl (op_load_e _ _ _ _ _ _ underlying5 rfl rfl rfl (map_get hv17)),zr' rfl (oB rfl rfl),zr' rfl (op_pick _ _ false _ rfl rfl),zr' rfl (op_pick _ _ true _ rfl rfl),z3 false rfl,zz⟩ ?_
        exact hl47 _ (zi h).symm
      ·refine zg hn (_::_::_::(10,fb b)::(11,vi s31)::(12,.eref (.slot 10) (v2 * 1))::(13,.v (.int .u8 v3))::(14,vb (v3 == 13))::(15,vb false)::(16,.v undef)::(17,.v undef)::(18,.v undef)::(19,.v undef)::(20,.v undef)::(21,.v undef)::(22,.v undef)::(23,.v undef)::(24,.v undef)::(25,.v undef)::(26,.v undef)::(27,.v undef)::(28,.v undef)::(29,vb false)::(30,vb false)::(31,fb b)::(32,vi s31)::(33,.eref (.slot 31) (v13 * 1))::(34,.v (.int .u8 v14))::(35,vb (v14 == 10))::(36,vb false)::(37,.v undef)::(38,.v undef)::(39,.v undef)::(40,.v undef)::(41,.v undef)::(42,.v undef)::(43,.v undef)::(44,.v undef)::(45,.v undef)::(46,.v undef)::(47,vb false)::(48,vb false)::[]) [0,1,2] [0,1,41] (zq [0] 3 10::zq [1] 4 11::zq [3,4] 5 12::zq [5,3] 6 13::zq [6] 7 14::zq [7] 8 15::zq [8] 9 16::zq [8] 10 17::zq [8] 11 18::zq [8] 12 19::zq [8] 13 20::zq [8] 14 21::zq [14] 15 22::zq [14] 16 23::zq [14] 17 24::zq [14] 18 25::zq [14] 19 26::zq [14] 20 27::zq [8] 21 28::zq [8] 22 29::zq [22] 23 30::zq [23,0] 24 31::zq [23,1] 25 32::zq [23,24,25] 26 33::zq [23,26,24] 27 34::zq [23,27] 28 35::zq [23,28] 29 36::zq [29] 30 37::zq [29] 31 38::zq [29] 32 39::zq [32] 33 40::zq [32] 34 41::zq [32] 35 42::zq [32] 36 43::zq [32] 37 44::zq [32] 38 45::zq [29] 39 46::zq [23,29] 40 47::zq [23,40] 41 48::[]) [(_,_),(_,_),(_,_)] rfl ⟨z1 rfl,z1 rfl,zp rfl (op_ix _ _ _ _ _ _ _ _ underlying25 sz5 (by decide) rfl rfl rfl (ix_ok hv2).1 (map_lt (ix_ok hv2).2) rfl),zp rfl (op_load_e _ _ _ _ _ _ underlying5 rfl rfl rfl (map_get hv3)),z4 rfl rfl,z8 hg4_5 rfl,zt rfl,zt rfl,zt rfl,zt rfl,zt rfl,zt rfl,zu' rfl,zu' rfl,zu' rfl,zu' rfl,zu' rfl,zu' rfl,zt rfl,z3 false rfl,z1 rfl,zr' rfl (oM rfl),zr' rfl (oM rfl),zr' rfl (op_ix _ _ _ _ _ _ _ _ underlying25 sz5 (by decide) rfl rfl rfl (ix_ok hv13).1 (map_lt (ix_ok hv13).2) rfl),zr' rfl (op_load_e _ _ _ _ _ _ underlying5 rfl rfl rfl (map_get hv14)),zr' rfl (oB rfl rfl),zr' rfl (op_move _ _ _ _ (zb hg4_26) rfl),zt rfl,zt rfl,zt rfl,zu' rfl,zu' rfl,zu' rfl,zu' rfl,zu' rfl,zu' rfl,zt rfl,zr' rfl (op_pick _ _ false _ rfl rfl),z3 false rfl,zz⟩ ?_
       exact hl47 _ (zi h).symm
   ·have h := cond_f hb44 h
    refine ht_exit ?_
    refine pt_x_then ?_
    refine pt_x_then ?_
    refine pt_x_in ?_
    refine pt_pick [0] (by kernel_rfl) (es' := [(_,_)]) rfl ?_
    exact hl39 _ (ho41 _ (zi h).symm).symm
theorem ok_wherryref18_mail (m : T_Mail) (r : Bool) (h : Sh.wherryref18_mail m = some r) : FnOK Tryd.prog 31 [.agg [.v (.bool m.From.Null), .v (.string m.From.Local), .v (.string m.From.Domain), .fl .shr 3 (flatten (map T_Path.enc m.To)), .fl .shr 1 (map (int .u8) m.Body), .v (.bool m.Quiet), .v (.string m.Helo), .v (.int .i64 m.At)]] (.v (.bool r)) := by
  unfold Sh.wherryref18_mail at h
  refine fn_ok func31 rfl (zl rfl) rfl rfl fun g0 hn hio => ?_
  refine zgg hn [_,(1,.box 36 (T_Mail.c m [])),(2,vb false)] [0] [1] [zq [0] 1 1,zq [] 2 2] [(_,_)] rfl ⟨zp rfl (op_box _ _ _ _ rfl rfl rfl),z2 rfl,zz⟩ ?_
  refine ht_seq ?_
  refine ht_seq ?_
  refine ht_joinS h (fun (s5 : Bool) => [(1,.box 36 (T_Mail.c m [])),(26,vb s5)]) ?_ ?_
  ·rintro s5 h
   refine pt_then ?_
   refine ht_cond _ rfl (fun hb9 => ?_) (fun hb9 => ?_)
   ·have h := cond_t hb9 h
    refine zgg hn [_,_,(2,vb false)] [0,1] [2] [zq [] 2 2] [(_,_)] rfl ⟨z2 rfl,zz⟩ ?_
    refine ht_ret ?_
    refine pt_r_then ?_
    obtain rfl := zi h
    exact pt_ret hio rfl (.tmp _ _ .nil) rfl rfl
   ·have h := cond_f hb9 h
    refine ht_skip ?_
    refine pt_then (ht_seq ?_)
    refine zgg hn [_,_,(3,vi 0)] [0,1] [0,2] [zq [] 2 3] [(_,_),(_,_)] rfl ⟨z2 rfl,zz⟩ ?_
    refine ht_loopS h (fun (s29 : Int) => [(1,.box 36 (T_Mail.c m [])),(3,vi s29)]) (fun (() : Unit) => []) ?_ ?_
    ·rintro ⟨⟩ h
     refine pt_then ?_
     refine zgg hn [(2,vb true)] [] [0] [zq [] 0 2] [(_,_)] rfl ⟨z2 rfl,zz⟩ ?_
     refine ht_ret ?_
     obtain rfl := zi h
     exact pt_ret hio rfl (.tmp _ _ .nil) rfl rfl
    ·rintro u36 hl37 hr38 s29 rr41 h ho39
     refine ht_seq ?_
     refine zgg hn [_,_,(27,vi s29),(28,.ptr 1 3),(29,.fl .shr 3 (flatten (map T_Path.enc m.To))),(30,vi (m.To.length : Int)),(31,vb (decide (s29 < (m.To.length : Int))))] [0,1] [0,1,6] [zq [1] 2 27,zq [0] 3 28,zq [3,0] 4 29,zq [4] 5 30,zq [2,5] 6 31] [(_,_),(_,_),(_,_)] rfl ⟨z1 rfl,zp rfl (oF underlying36 rfl sz34),zp rfl (oL underlying34 rfl),zp rfl (op_len_fl _ _ _ underlying34 rfl (by decide) (flat_len T_Path.len _)),z4 rfl rfl,zz⟩ ?_
     refine ht_cond _ rfl (fun hb42 => ?_) (fun hb42 => ?_)
     ·have h := cond_t hb42 h
      refine ht_skip ?_
      refine pt_then (ht_seq ?_)
      refine ht_block ?_
      refine ht_seq ?_
      refine ht_joinS h (fun (s43 : Bool) => [(1,.box 36 (T_Mail.c m [])),(3,vi s29),(48,vb s43)]) ?_ ?_
      ·rintro s43 h
       refine pt_then ?_
       refine ht_cond _ rfl (fun hb47 => ?_) (fun hb47 => ?_)
       ·have h := cond_t hb47 h
        refine zgg hn [_,_,_,(2,vb false)] [0,1,2] [3] [zq [] 3 2] [(_,_)] rfl ⟨z2 rfl,zz⟩ ?_
        refine ht_ret ?_
        refine pt_r_in ?_
        refine pt_r_then ?_
        refine pt_r_then ?_
        refine pt_r_in ?_
        refine pt_r_then ?_
        have h := hr38 _ (ho39 _ (zi h).symm).symm
        obtain rfl := zi h
        exact pt_ret hio rfl (.tmp _ _ .nil) rfl rfl
       ·have h := cond_f hb47 h
        refine ht_skip ?_
        refine pt_inb ?_
        refine pt_then ?_
        obtain ⟨v21, hv21, h⟩ := zn h
        refine zg hn [_,_,_,(32,vi s29),(33,vi v21),(3,vi v21)] [0,1,2] [0,5] [zq [1] 3 32,zq [3] 4 33,⟨[4],[1],[5],[(.slot 3)]⟩] [(_,_),(_,_)] rfl ⟨z1 rfl,zp rfl (oB rfl (ibind (f := int .i64) (Option.some.inj hv21))),zp rfl (LOp.drop [_] (op_assign _ _ _ _ rfl rfl)),zz⟩ ?_
        exact pt_next _ (zi h).symm rfl
      ·intro u44 h hl45 hr46
       obtain ⟨v11, hv11, h⟩ := zn h
       obtain ⟨v12, hv12, h⟩ := zn h
       obtain ⟨v13, hv13, h⟩ := zn h
       refine cond_some h (fun hg6_7 h => ?_) (fun hg6_7 h => ?_)
       ·refine zg hn (_::_::_::(34,.ptr 1 3)::(35,.fl .shr 3 (flatten (map T_Path.enc m.To)))::(36,vi s29)::(37,.eref (.slot 35) (v11 * 3))::(38,.agg [vb v12.Null,vs v12.Local,vs v12.Domain])::(39,vb v13)::(40,vb (!v13))::(41,vb true)::(42,.v undef)::(43,.v undef)::(44,.v undef)::(45,.v undef)::(46,.v undef)::(47,.v undef)::(48,vb true)::[]) [0,1,2] [0,1,17] (zq [0] 3 34::zq [3,0] 4 35::zq [1] 5 36::zq [4,5] 6 37::zq [6,4] 7 38::zq [7] 8 39::zq [8] 9 40::zq [9] 10 41::zq [10] 11 42::zq [10] 12 43::zq [10] 13 44::zq [10] 14 45::zq [10] 15 46::zq [10] 16 47::zq [10] 17 48::[]) [(_,_),(_,_),(_,_)] rfl ⟨zp rfl (oF underlying36 rfl sz34),zp rfl (oL underlying34 rfl),z1 rfl,zp rfl (op_ix _ _ _ _ _ _ _ _ underlying34 sz24 (by decide) rfl rfl rfl (ix_ok hv11).1 (flat_lt T_Path.len (ix_ok hv11).2) rfl),zp rfl (op_load_eA _ _ _ _ _ _ _ underlying24 rfl sz24 rfl rfl (flat_get T_Path.len hv12) rfl (by decide)),zp rfl (op_call _ _ 41 _ _ rfl call41 rfl (ok_wherryref11_Path v12 _ hv13) rfl rfl),zp rfl (op_un _ _ _ _ rfl rfl),z8 hg6_7 rfl,zf rfl,zf rfl,zf rfl,zf rfl,zf rfl,zf rfl,z3 true rfl,zz⟩ ?_
        exact hl45 _ (zi h).symm
       ·obtain ⟨v14, hv14, h⟩ := zn h
        obtain ⟨v15, hv15, h⟩ := zn h
        refine zg hn (_::_::_::(34,.ptr 1 3)::(35,.fl .shr 3 (flatten (map T_Path.enc m.To)))::(36,vi s29)::(37,.eref (.slot 35) (v11 * 3))::(38,.agg [vb v12.Null,vs v12.Local,vs v12.Domain])::(39,vb v13)::(40,vb (!v13))::(41,vb false)::(42,.ptr 1 3)::(43,.fl .shr 3 (flatten (map T_Path.enc m.To)))::(44,vi s29)::(45,.eref (.slot 43) (v14 * 3))::(46,.eref (.slot 43) (v14 * 3 + 0))::(47,vb v15.Null)::(48,vb v15.Null)::[]) [0,1,2] [0,1,17] (zq [0] 3 34::zq [3,0] 4 35::zq [1] 5 36::zq [4,5] 6 37::zq [6,4] 7 38::zq [7] 8 39::zq [8] 9 40::zq [9] 10 41::zq [10,0] 11 42::zq [10,11,0] 12 43::zq [10,1] 13 44::zq [10,12,13] 14 45::zq [10,14,12] 15 46::zq [10,15,12] 16 47::zq [10,16] 17 48::[]) [(_,_),(_,_),(_,_)] rfl ⟨zp rfl (oF underlying36 rfl sz34),zp rfl (oL underlying34 rfl),z1 rfl,zp rfl (op_ix _ _ _ _ _ _ _ _ underlying34 sz24 (by decide) rfl rfl rfl (ix_ok hv11).1 (flat_lt T_Path.len (ix_ok hv11).2) rfl),zp rfl (op_load_eA _ _ _ _ _ _ _ underlying24 rfl sz24 rfl rfl (flat_get T_Path.len hv12) rfl (by decide)),zp rfl (op_call _ _ 41 _ _ rfl call41 rfl (ok_wherryref11_Path v12 _ hv13) rfl rfl),zp rfl (op_un _ _ _ _ rfl rfl),z8 hg6_7 rfl,zr' rfl (oF underlying36 rfl sz34),zr' rfl (oL underlying34 rfl),zr' rfl (oM rfl),zr' rfl (op_ix _ _ _ _ _ _ _ _ underlying34 sz24 (by decide) rfl rfl rfl (ix_ok hv14).1 (flat_lt T_Path.len (ix_ok hv14).2) rfl),zr' rfl (op_fieldAddr_e _ _ _ _ _ _ _ underlying24 rfl sz4 rfl rfl rfl),zr' rfl (op_load_e _ _ _ _ _ _ underlying4 rfl rfl rfl (flat_cell T_Path.len hv15 rfl)),z3 false rfl,zz⟩ ?_
        exact hl45 _ (zi h).symm
     ·have h := cond_f hb42 h
      refine ht_exit ?_
      refine pt_x_then ?_
      refine pt_x_then ?_
      refine pt_x_in ?_
      refine pt_pick [] (by kernel_rfl) (es' := []) rfl ?_
      exact hl37 _ (ho39 _ (zi h).symm).symm
  ·intro u6 h hl7 hr8
   obtain ⟨v1, hv1, h⟩ := zn h
   refine cond_some h (fun hg1_4 h => ?_) (fun hg1_4 h => ?_)
   ·refine zg hn (_::(4,.ptr 1 0)::(5,.agg [vb m.From.Null,vs m.From.Local,vs m.From.Domain])::(6,vb v1)::(7,vb (!v1))::(8,vb true)::(9,.v undef)::(10,.v undef)::(11,.v undef)::(12,.v undef)::(13,.v undef)::(14,vb true)::(15,vb true)::(16,.v undef)::(17,.v undef)::(18,.v undef)::(19,.v undef)::(20,vb true)::(21,vb true)::(22,.v undef)::(23,.v undef)::(24,.v undef)::(25,.v undef)::(26,vb true)::[]) [0] [0,23] (zq [0] 1 4::zq [1,0] 2 5::zq [2] 3 6::zq [3] 4 7::zq [4] 5 8::zq [5] 6 9::zq [5] 7 10::zq [5] 8 11::zq [5] 9 12::zq [5] 10 13::zq [5] 11 14::zq [11] 12 15::zq [12] 13 16::zq [12] 14 17::zq [12] 15 18::zq [12] 16 19::zq [12] 17 20::zq [17] 18 21::zq [18] 19 22::zq [18] 20 23::zq [18] 21 24::zq [18] 22 25::zq [18] 23 26::[]) [(_,_),(_,_)] rfl ⟨zp rfl (oF underlying36 rfl sz24),zp rfl (op_loadA _ _ _ _ _ _ _ underlying24 rfl sz24 rfl rfl (zl rfl) rfl rfl),zp rfl (op_call _ _ 41 _ _ rfl call41 rfl (ok_wherryref11_Path (T_Path.mk m.From.Null m.From.Local m.From.Domain) _ hv1) rfl rfl),zp rfl (op_un _ _ _ _ rfl rfl),z8 hg1_4 rfl,zf rfl,zf rfl,zf rfl,zf rfl,zf rfl,z3 true rfl,z1 rfl,zf rfl,zf rfl,zf rfl,zf rfl,z3 true rfl,z1 rfl,zf rfl,zf rfl,zf rfl,zf rfl,z3 true rfl,zz⟩ ?_
    exact hl7 _ (zi h).symm
   ·obtain ⟨v2, hv2, h⟩ := zn h
    refine cond_some h (fun hg1_11 h => ?_) (fun hg1_11 h => ?_)
    ·refine zg hn (_::(4,.ptr 1 0)::(5,.agg [vb m.From.Null,vs m.From.Local,vs m.From.Domain])::(6,vb v1)::(7,vb (!v1))::(8,vb false)::(9,.ptr 1 3)::(10,.fl .shr 3 (flatten (map T_Path.enc m.To)))::(11,vi (m.To.length : Int))::(12,vb v2)::(13,vb (!v2))::(14,vb (!v2))::(15,vb true)::(16,.v undef)::(17,.v undef)::(18,.v undef)::(19,.v undef)::(20,vb true)::(21,vb true)::(22,.v undef)::(23,.v undef)::(24,.v undef)::(25,.v undef)::(26,vb true)::[]) [0] [0,23] (zq [0] 1 4::zq [1,0] 2 5::zq [2] 3 6::zq [3] 4 7::zq [4] 5 8::zq [5,0] 6 9::zq [5,6,0] 7 10::zq [5,7] 8 11::zq [5,8] 9 12::zq [5,9] 10 13::zq [5,10] 11 14::zq [11] 12 15::zq [12] 13 16::zq [12] 14 17::zq [12] 15 18::zq [12] 16 19::zq [12] 17 20::zq [17] 18 21::zq [18] 19 22::zq [18] 20 23::zq [18] 21 24::zq [18] 22 25::zq [18] 23 26::[]) [(_,_),(_,_)] rfl ⟨zp rfl (oF underlying36 rfl sz24),zp rfl (op_loadA _ _ _ _ _ _ _ underlying24 rfl sz24 rfl rfl (zl rfl) rfl rfl),zp rfl (op_call _ _ 41 _ _ rfl call41 rfl (ok_wherryref11_Path (T_Path.mk m.From.Null m.From.Local m.From.Domain) _ hv1) rfl rfl),zp rfl (op_un _ _ _ _ rfl rfl),z8 hg1_4 rfl,zr' rfl (oF underlying36 rfl sz34),zr' rfl (oL underlying34 rfl),zr' rfl (op_len_fl _ _ _ underlying34 rfl (by decide) (flat_len T_Path.len _)),zr' rfl (op_call _ _ 30 _ _ rfl call30 rfl (ok_wherryref18_in (m.To.length : Int) 1 8 _ hv2) rfl rfl),zr' rfl (op_un _ _ _ _ rfl rfl),z3 false rfl,z8 hg1_11 rfl,zf rfl,zf rfl,zf rfl,zf rfl,z3 true rfl,z1 rfl,zf rfl,zf rfl,zf rfl,zf rfl,z3 true rfl,zz⟩ ?_
     exact hl7 _ (zi h).symm
    ·obtain ⟨v3, hv3, h⟩ := zn h
     refine cond_some h (fun hg1_17 h => ?_) (fun hg1_17 h => ?_)
     ·refine zg hn (_::(4,.ptr 1 0)::(5,.agg [vb m.From.Null,vs m.From.Local,vs m.From.Domain])::(6,vb v1)::(7,vb (!v1))::(8,vb false)::(9,.ptr 1 3)::(10,.fl .shr 3 (flatten (map T_Path.enc m.To)))::(11,vi (m.To.length : Int))::(12,vb v2)::(13,vb (!v2))::(14,vb (!v2))::(15,vb false)::(16,.ptr 1 4)::(17,fb m.Body)::(18,vb v3)::(19,vb (!v3))::(20,vb (!v3))::(21,vb true)::(22,.v undef)::(23,.v undef)::(24,.v undef)::(25,.v undef)::(26,vb true)::[]) [0] [0,23] (zq [0] 1 4::zq [1,0] 2 5::zq [2] 3 6::zq [3] 4 7::zq [4] 5 8::zq [5,0] 6 9::zq [5,6,0] 7 10::zq [5,7] 8 11::zq [5,8] 9 12::zq [5,9] 10 13::zq [5,10] 11 14::zq [11] 12 15::zq [12,0] 13 16::zq [12,13,0] 14 17::zq [12,14] 15 18::zq [12,15] 16 19::zq [12,16] 17 20::zq [17] 18 21::zq [18] 19 22::zq [18] 20 23::zq [18] 21 24::zq [18] 22 25::zq [18] 23 26::[]) [(_,_),(_,_)] rfl ⟨zp rfl (oF underlying36 rfl sz24),zp rfl (op_loadA _ _ _ _ _ _ _ underlying24 rfl sz24 rfl rfl (zl rfl) rfl rfl),zp rfl (op_call _ _ 41 _ _ rfl call41 rfl (ok_wherryref11_Path (T_Path.mk m.From.Null m.From.Local m.From.Domain) _ hv1) rfl rfl),zp rfl (op_un _ _ _ _ rfl rfl),z8 hg1_4 rfl,zr' rfl (oF underlying36 rfl sz34),zr' rfl (oL underlying34 rfl),zr' rfl (op_len_fl _ _ _ underlying34 rfl (by decide) (flat_len T_Path.len _)),zr' rfl (op_call _ _ 30 _ _ rfl call30 rfl (ok_wherryref18_in (m.To.length : Int) 1 8 _ hv2) rfl rfl),zr' rfl (op_un _ _ _ _ rfl rfl),z3 false rfl,z8 hg1_11 rfl,zr' rfl (oF underlying36 rfl sz25),zr' rfl (oL underlying25 rfl),zr' rfl (op_call _ _ 45 _ _ rfl call45 rfl (ok_wherryref11_Body m.Body _ hv3) rfl rfl),zr' rfl (op_un _ _ _ _ rfl rfl),z3 false rfl,z8 hg1_17 rfl,zf rfl,zf rfl,zf rfl,zf rfl,z3 true rfl,zz⟩ ?_
      exact hl7 _ (zi h).symm
     ·obtain ⟨v4, hv4, h⟩ := zn h
      refine zg hn (_::(4,.ptr 1 0)::(5,.agg [vb m.From.Null,vs m.From.Local,vs m.From.Domain])::(6,vb v1)::(7,vb (!v1))::(8,vb false)::(9,.ptr 1 3)::(10,.fl .shr 3 (flatten (map T_Path.enc m.To)))::(11,vi (m.To.length : Int))::(12,vb v2)::(13,vb (!v2))::(14,vb (!v2))::(15,vb false)::(16,.ptr 1 4)::(17,fb m.Body)::(18,vb v3)::(19,vb (!v3))::(20,vb (!v3))::(21,vb false)::(22,.ptr 1 7)::(23,vi m.At)::(24,vb v4)::(25,vb (!v4))::(26,vb (!v4))::[]) [0] [0,23] (zq [0] 1 4::zq [1,0] 2 5::zq [2] 3 6::zq [3] 4 7::zq [4] 5 8::zq [5,0] 6 9::zq [5,6,0] 7 10::zq [5,7] 8 11::zq [5,8] 9 12::zq [5,9] 10 13::zq [5,10] 11 14::zq [11] 12 15::zq [12,0] 13 16::zq [12,13,0] 14 17::zq [12,14] 15 18::zq [12,15] 16 19::zq [12,16] 17 20::zq [17] 18 21::zq [18,0] 19 22::zq [18,19,0] 20 23::zq [18,20] 21 24::zq [18,21] 22 25::zq [18,22] 23 26::[]) [(_,_),(_,_)] rfl ⟨zp rfl (oF underlying36 rfl sz24),zp rfl (op_loadA _ _ _ _ _ _ _ underlying24 rfl sz24 rfl rfl (zl rfl) rfl rfl),zp rfl (op_call _ _ 41 _ _ rfl call41 rfl (ok_wherryref11_Path (T_Path.mk m.From.Null m.From.Local m.From.Domain) _ hv1) rfl rfl),zp rfl (op_un _ _ _ _ rfl rfl),z8 hg1_4 rfl,zr' rfl (oF underlying36 rfl sz34),zr' rfl (oL underlying34 rfl),zr' rfl (op_len_fl _ _ _ underlying34 rfl (by decide) (flat_len T_Path.len _)),zr' rfl (op_call _ _ 30 _ _ rfl call30 rfl (ok_wherryref18_in (m.To.length : Int) 1 8 _ hv2) rfl rfl),zr' rfl (op_un _ _ _ _ rfl rfl),z3 false rfl,z8 hg1_11 rfl,zr' rfl (oF underlying36 rfl sz25),zr' rfl (oL underlying25 rfl),zr' rfl (op_call _ _ 45 _ _ rfl call45 rfl (ok_wherryref11_Body m.Body _ hv3) rfl rfl),zr' rfl (op_un _ _ _ _ rfl rfl),z3 false rfl,z8 hg1_17 rfl,zr' rfl (oF underlying36 rfl sz3),zr' rfl (oL underlying3 rfl),zr' rfl (op_call _ _ 30 _ _ rfl call30 rfl (ok_wherryref18_in m.At 0 1099511627776 _ hv4) rfl rfl),zr' rfl (op_un _ _ _ _ rfl rfl),z3 false rfl,zz⟩ ?_
      exact hl7 _ (zi h).symm
theorem ok_wherryref18_has (l : (List Int)) (n : Int) (r : Bool) (h : Sh.wherryref18_has l n = some r) : FnOK Tryd.prog 33 [.fl .shr 1 (map (int .i64) l), .v (.int .i64 n)] (.v (.bool r)) := by
  unfold Sh.wherryref18_has at h
  refine fn_ok func33 rfl (zl rfl) rfl rfl fun g0 hn hio => ?_
  refine zgg hn [_,_,(4,vb false)] [0,1] [0,1] [zq [] 2 4] [(_,_),(_,_)] rfl ⟨z2 rfl,zz⟩ ?_
  refine ht_seq ?_
  refine zgg hn [_,_,(5,vi 0)] [0,1] [0,1,2] [zq [] 2 5] [(_,_),(_,_),(_,_)] rfl ⟨z2 rfl,zz⟩ ?_
  refine ht_loopS h (fun (s9 : Int) => [(0,fi l),(1,vi n),(5,vi s9)]) (fun (() : Unit) => []) ?_ ?_
  ·rintro ⟨⟩ h
   refine pt_then ?_
   refine zgg hn [(4,vb false)] [] [0] [zq [] 0 4] [(_,_)] rfl ⟨z2 rfl,zz⟩ ?_
   refine ht_ret ?_
   obtain rfl := zi h
   exact pt_ret hio rfl (.tmp _ _ .nil) rfl rfl
  ·rintro u12 hl13 hr14 s9 rr17 h ho15
   refine ht_seq ?_
   refine zgg hn [_,_,_,(6,vi s9),(7,fi l),(8,vi (l.length : Int)),(9,vb (decide (s9 < (l.length : Int))))] [0,1,2] [0,1,2,6] [zq [2] 3 6,zq [0] 4 7,zq [4] 5 8,zq [3,5] 6 9] [(_,_),(_,_),(_,_),(_,_)] rfl ⟨z1 rfl,z1 rfl,zp rfl (op_len_fl _ _ _ underlying37 rfl (by decide) (map_len _)),z4 rfl rfl,zz⟩ ?_
   refine ht_cond _ rfl (fun hb18 => ?_) (fun hb18 => ?_)
   ·have h := cond_t hb18 h
    refine ht_skip ?_
    refine pt_then (ht_seq ?_)
    refine ht_block ?_
    refine ht_seq ?_
    obtain ⟨v2, hv2, h⟩ := zn h
    obtain ⟨v3, hv3, h⟩ := zn h
    refine zg hn [_,_,_,_,(12,fi l),(13,vi s9),(14,.eref (.slot 12) (v2 * 1)),(15,vi v3),(16,vi n),(17,vb (v3 == n))] [0,1,2,3] [0,1,2,9] [zq [0] 4 12,zq [2] 5 13,zq [4,5] 6 14,zq [6,4] 7 15,zq [1] 8 16,zq [7,8] 9 17] [(_,_),(_,_),(_,_),(_,_)] rfl ⟨z1 rfl,z1 rfl,zp rfl (op_ix _ _ _ _ _ _ _ _ underlying37 sz3 (by decide) rfl rfl rfl (ix_ok hv2).1 (map_lt (ix_ok hv2).2) rfl),zp rfl (op_load_e _ _ _ _ _ _ underlying3 rfl rfl rfl (map_get hv3)),z1 rfl,z4 rfl rfl,zz⟩ ?_
    refine pt_then ?_
    refine ht_cond _ rfl (fun hb19 => ?_) (fun hb19 => ?_)
    ·have h := cond_t hb19 h
     refine zgg hn [_,_,_,_,(4,vb true)] [0,1,2,3] [4] [zq [] 4 4] [(_,_)] rfl ⟨z2 rfl,zz⟩ ?_
     refine ht_ret ?_
     refine pt_r_in ?_
     refine pt_r_then ?_
     refine pt_r_then ?_
     refine pt_r_in ?_
     refine pt_r_then ?_
     have h := hr14 _ (ho15 _ (zi h).symm).symm
     obtain rfl := zi h
     exact pt_ret hio rfl (.tmp _ _ .nil) rfl rfl
    ·have h := cond_f hb19 h
     refine ht_skip ?_
     refine pt_inb ?_
     refine pt_then ?_
     obtain ⟨v5, hv5, h⟩ := zn h
     refine zg hn [_,_,_,_,(10,vi s9),(11,vi v5),(5,vi v5)] [0,1,2,3] [0,1,6] [zq [2] 4 10,zq [4] 5 11,⟨[5],[2],[6],[(.slot 5)]⟩] [(_,_),(_,_),(_,_)] rfl ⟨z1 rfl,zp rfl (oB rfl (ibind (f := int .i64) (Option.some.inj hv5))),zp rfl (LOp.drop [_] (op_assign _ _ _ _ rfl rfl)),zz⟩ ?_
     exact pt_next _ (zi h).symm rfl
   ·have h := cond_f hb18 h
    refine ht_exit ?_
    refine pt_x_then ?_
    refine pt_x_then ?_
    refine pt_x_in ?_
    refine pt_pick [] (by kernel_rfl) (es' := []) rfl ?_
    exact hl13 _ (ho15 _ (zi h).symm).symm
theorem ok_wherrykeep_Path (a : T_Path) (b : T_Path) (r : Bool) (h : Sh.wherrykeep_Path a b = some r) : FnOK Tryd.prog 59 [.agg [.v (.bool a.Null), .v (.string a.Local), .v (.string a.Domain)], .agg [.v (.bool b.Null), .v (.string b.Local), .v (.string b.Domain)]] (.v (.bool r)) := by
  unfold Sh.wherrykeep_Path at h
  refine fn_ok func59 rfl (zl rfl) rfl rfl fun g0 hn hio => ?_
  refine zgg hn [_,_,(2,.box 24 [vb a.Null,vs a.Local,vs a.Domain]),(3,.box 24 [vb b.Null,vs b.Local,vs b.Domain]),(4,vb false)] [0,1] [2,3] [zq [0] 2 2,zq [1] 3 3,zq [] 4 4] [(_,_),(_,_)] rfl ⟨zp rfl (op_box _ _ _ _ rfl rfl rfl),zp rfl (op_box _ _ _ _ rfl rfl rfl),z2 rfl,zz⟩ ?_
  refine ht_seq ?_
  refine ht_joinS h (fun (s2 : Bool) => [(4,vb s2)]) ?_ ?_
  ·rintro s2 h
   refine pt_then (ht_ret ?_)
   obtain rfl := zi h
   exact pt_ret hio rfl (.tmp _ _ .nil) rfl rfl
  ·intro u3 h hl4 hr5
   obtain ⟨v1, hv1, h⟩ := zn h
   refine cond_some h (fun hg1_5 h => ?_) (fun hg1_5 h => ?_)
   ·refine cond_some h (fun hg1_12 h => ?_) (fun hg1_12 h => ?_)
    ·refine zg hn (_::_::(5,.ptr 2 0)::(6,vb a.Null)::(7,.ptr 3 0)::(8,vb b.Null)::(9,vb (a.Null == b.Null))::(10,vb true)::(11,.ptr 2 1)::(12,vs a.Local)::(13,.ptr 3 1)::(14,vs b.Local)::(15,vb (a.Local.toList == b.Local.toList))::(16,vb (a.Local.toList == b.Local.toList))::(17,vb true)::(18,.ptr 2 2)::(19,vs a.Domain)::(20,.ptr 3 2)::(21,vs b.Domain)::(22,vb (a.Domain.toList == b.Domain.toList))::(23,vb (a.Domain.toList == b.Domain.toList))::(4,vb (a.Domain.toList == b.Domain.toList))::[]) [0,1] [21] (zq [0] 2 5::zq [2,0] 3 6::zq [1] 4 7::zq [4,1] 5 8::zq [3,5] 6 9::zq [6] 7 10::zq [7,0] 8 11::zq [7,8,0] 9 12::zq [7,1] 10 13::zq [7,10,1] 11 14::zq [7,9,11] 12 15::zq [7,12] 13 16::zq [13] 14 17::zq [14,0] 15 18::zq [14,15,0] 16 19::zq [14,1] 17 20::zq [14,17,1] 18 21::zq [14,16,18] 19 22::zq [14,19] 20 23::zq [20] 21 4::[]) [(_,_)] rfl ⟨zp rfl (oF underlying24 rfl sz4),zp rfl (oL underlying4 rfl),zp rfl (oF underlying24 rfl sz4),zp rfl (oL underlying4 rfl),zp rfl (op_beq _ _ _ _ underlying4 rfl rfl),z8 hg1_5 rfl,zr' rfl (oF underlying24 rfl sz9),zr' rfl (oL underlying9 rfl),zr' rfl (oF underlying24 rfl sz9),zr' rfl (oL underlying9 rfl),zr' rfl (oB rfl rfl),z3 true rfl,z8 hg1_12 rfl,zr' rfl (oF underlying24 rfl sz9),zr' rfl (oL underlying9 rfl),zr' rfl (oF underlying24 rfl sz9),zr' rfl (oL underlying9 rfl),zr' rfl (oB rfl rfl),z3 true rfl,z2 rfl,zz⟩ ?_
     exact hl4 _ (zi h).symm
    ·refine zg hn (_::_::(5,.ptr 2 0)::(6,vb a.Null)::(7,.ptr 3 0)::(8,vb b.Null)::(9,vb (a.Null == b.Null))::(10,vb true)::(11,.ptr 2 1)::(12,vs a.Local)::(13,.ptr 3 1)::(14,vs b.Local)::(15,vb (a.Local.toList == b.Local.toList))::(16,vb (a.Local.toList == b.Local.toList))::(17,vb false)::(18,.v undef)::(19,.v undef)::(20,.v undef)::(21,.v undef)::(22,.v undef)::(23,vb false)::(4,vb false)::[]) [0,1] [21] (zq [0] 2 5::zq [2,0] 3 6::zq [1] 4 7::zq [4,1] 5 8::zq [3,5] 6 9::zq [6] 7 10::zq [7,0] 8 11::zq [7,8,0] 9 12::zq [7,1] 10 13::zq [7,10,1] 11 14::zq [7,9,11] 12 15::zq [7,12] 13 16::zq [13] 14 17::zq [14] 15 18::zq [14] 16 19::zq [14] 17 20::zq [14] 18 21::zq [14] 19 22::zq [14] 20 23::zq [20] 21 4::[]) [(_,_)] rfl ⟨zp rfl (oF underlying24 rfl sz4),zp rfl (oL underlying4 rfl),zp rfl (oF underlying24 rfl sz4),zp rfl (oL underlying4 rfl),zp rfl (op_beq _ _ _ _ underlying4 rfl rfl),z8 hg1_5 rfl,zr' rfl (oF underlying24 rfl sz9),zr' rfl (oL underlying9 rfl),zr' rfl (oF underlying24 rfl sz9),zr' rfl (oL underlying9 rfl),zr' rfl (oB rfl rfl),z3 true rfl,z8 hg1_12 rfl,zt rfl,zt rfl,zt rfl,zt rfl,zt rfl,z3 false rfl,z2 rfl,zz⟩ ?_
     exact hl4 _ (zi h).symm
   ·refine zg hn (_::_::(5,.ptr 2 0)::(6,vb a.Null)::(7,.ptr 3 0)::(8,vb b.Null)::(9,vb (a.Null == b.Null))::(10,vb false)::(11,.v undef)::(12,.v undef)::(13,.v undef)::(14,.v undef)::(15,.v undef)::(16,vb false)::(17,vb false)::(18,.v undef)::(19,.v undef)::(20,.v undef)::(21,.v undef)::(22,.v undef)::(23,vb false)::(4,vb false)::[]) [0,1] [21] (zq [0] 2 5::zq [2,0] 3 6::zq [1] 4 7::zq [4,1] 5 8::zq [3,5] 6 9::zq [6] 7 10::zq [7] 8 11::zq [7] 9 12::zq [7] 10 13::zq [7] 11 14::zq [7] 12 15::zq [7] 13 16::zq [13] 14 17::zq [14] 15 18::zq [14] 16 19::zq [14] 17 20::zq [14] 18 21::zq [14] 19 22::zq [14] 20 23::zq [20] 21 4::[]) [(_,_)] rfl ⟨zp rfl (oF underlying24 rfl sz4),zp rfl (oL underlying4 rfl),zp rfl (oF underlying24 rfl sz4),zp rfl (oL underlying4 rfl),zp rfl (op_beq _ _ _ _ underlying4 rfl rfl),z8 hg1_5 rfl,zt rfl,zt rfl,zt rfl,zt rfl,zt rfl,z3 false rfl,z1 rfl,zt rfl,zt rfl,zt rfl,zt rfl,zt rfl,z3 false rfl,z2 rfl,zz⟩ ?_
    exact hl4 _ (zi h).symm
theorem ok_wherrykeep_Paths (a : (List T_Path)) (b : (List T_Path)) (r : Bool) (h : Sh.wherrykeep_Paths a b = some r) : FnOK Tryd.prog 60 [.fl .shr 3 (flatten (map T_Path.enc a)), .fl .shr 3 (flatten (map T_Path.enc b))] (.v (.bool r)) := by
  unfold Sh.wherrykeep_Paths at h
  refine fn_ok func60 rfl (zl rfl) rfl rfl fun g0 hn hio => ?_
  refine zgg hn [_,_,(4,vb false)] [0,1] [0,1] [zq [] 2 4] [(_,_),(_,_)] rfl ⟨z2 rfl,zz⟩ ?_
  refine ht_seq ?_
  refine zgg hn [_,_,(6,.fl .shr 3 (flatten (map T_Path.enc a))),(7,vi (a.length : Int)),(8,.fl .shr 3 (flatten (map T_Path.enc b))),(9,vi (b.length : Int)),(10,vb ((a.length : Int) != (b.length : Int)))] [0,1] [0,1,6] [zq [0] 2 6,zq [2] 3 7,zq [1] 4 8,zq [4] 5 9,zq [3,5] 6 10] [(_,_),(_,_),(_,_)] rfl ⟨z1 rfl,zp rfl (op_len_fl _ _ _ underlying34 rfl (by decide) (flat_len T_Path.len _)),z1 rfl,zp rfl (op_len_fl _ _ _ underlying34 rfl (by decide) (flat_len T_Path.len _)),z4 rfl rfl,zz⟩ ?_
  refine ht_cond _ rfl (fun hb1 => ?_) (fun hb1 => ?_)
  ·have h := cond_t hb1 h
   refine zgg hn [_,_,_,(4,vb false)] [0,1,2] [3] [zq [] 3 4] [(_,_)] rfl ⟨z2 rfl,zz⟩ ?_
   refine ht_ret ?_
   refine pt_r_then ?_
   obtain rfl := zi h
   exact pt_ret hio rfl (.tmp _ _ .nil) rfl rfl
  ·have h := cond_f hb1 h
   refine ht_skip ?_
   refine pt_then (ht_seq ?_)
   refine zgg hn [_,_,_,(5,vi 0)] [0,1,2] [0,1,3] [zq [] 3 5] [(_,_),(_,_),(_,_)] rfl ⟨z2 rfl,zz⟩ ?_
   refine ht_loopS h (fun (s13 : Int) => [(0,.fl .shr 3 (flatten (map T_Path.enc a))),(1,.fl .shr 3 (flatten (map T_Path.enc b))),(5,vi s13)]) (fun (() : Unit) => []) ?_ ?_
   ·rintro ⟨⟩ h
    refine pt_then ?_
    refine zgg hn [(4,vb true)] [] [0] [zq [] 0 4] [(_,_)] rfl ⟨z2 rfl,zz⟩ ?_
    refine ht_ret ?_
    obtain rfl := zi h
    exact pt_ret hio rfl (.tmp _ _ .nil) rfl rfl
   ·rintro u16 hl17 hr18 s13 rr21 h ho19
    refine ht_seq ?_
    refine zgg hn [_,_,_,(11,vi s13),(12,.fl .shr 3 (flatten (map T_Path.enc a))),(13,vi (a.length : Int)),(14,vb (decide (s13 < (a.length : Int))))] [0,1,2] [0,1,2,6] [zq [2] 3 11,zq [0] 4 12,zq [4] 5 13,zq [3,5] 6 14] [(_,_),(_,_),(_,_),(_,_)] rfl ⟨z1 rfl,z1 rfl,zp rfl (op_len_fl _ _ _ underlying34 rfl (by decide) (flat_len T_Path.len _)),z4 rfl rfl,zz⟩ ?_
    refine ht_cond _ rfl (fun hb22 => ?_) (fun hb22 => ?_)
    ·have h := cond_t hb22 h
     refine ht_skip ?_
     refine pt_then (ht_seq ?_)
     refine ht_block ?_
     refine ht_seq ?_
     obtain ⟨v3, hv3, h⟩ := zn h
     obtain ⟨v4, hv4, h⟩ := zn h
     obtain ⟨v5, hv5, h⟩ := zn h
     obtain ⟨v6, hv6, h⟩ := zn h
     obtain ⟨v7, hv7, h⟩ := zn h
     refine ht_anyR (by kernel_rfl) hn (El := [_,_,_,_,(17,.fl .shr 3 (flatten (map T_Path.enc a))),(18,vi s13),(19,.eref (.slot 17) (v3 * 3)),(20,.agg [vb v4.Null,vs v4.Local,vs v4.Domain]),(21,.fl .shr 3 (flatten (map T_Path.enc b))),(22,vi s13),(23,.eref (.slot 21) (v5 * 3)),(24,.agg [vb v6.Null,vs v6.Local,vs v6.Domain]),(25,vb v7),(26,vb (!v7))]) (init := [0,1,2,3]) (fin := [0,1,2,13]) (sps := [zq [0] 4 17,zq [2] 5 18,zq [4,5] 6 19,zq [6,4] 7 20,zq [1] 8 21,zq [2] 9 22,zq [8,9] 10 23,zq [10,8] 11 24,zq [7,11] 12 25,zq [12] 13 26]) (es' := [(_,_),(_,_),(_,_),(26,vb (!v7))]) (by kernel_rfl) rfl rfl ⟨z1 rfl,z1 rfl,zp rfl (op_ix _ _ _ _ _ _ _ _ underlying34 sz24 (by decide) rfl rfl rfl (ix_ok hv3).1 (flat_lt T_Path.len (ix_ok hv3).2) rfl),zp rfl (op_load_eA _ _ _ _ _ _ _ underlying24 rfl sz24 rfl rfl (flat_get T_Path.len hv4) rfl (by decide)),z1 rfl,z1 rfl,zp rfl (op_ix _ _ _ _ _ _ _ _ underlying34 sz24 (by decide) rfl rfl rfl (ix_ok hv5).1 (flat_lt T_Path.len (ix_ok hv5).2) rfl),zp rfl (op_load_eA _ _ _ _ _ _ _ underlying24 rfl sz24 rfl rfl (flat_get T_Path.len hv6) rfl (by decide)),zp rfl (op_call _ _ 59 _ _ rfl call59 rfl (ok_wherrykeep_Path v4 v6 _ hv7) rfl rfl),zp rfl (op_un _ _ _ _ rfl rfl),zz⟩ ?_
     refine pt_then ?_
     refine ht_cond _ rfl (fun hb23 => ?_) (fun hb23 => ?_)
     ·have h := cond_t hb23 h
      refine zgg hn [_,_,_,_,(4,vb false)] [0,1,2,3] [4] [zq [] 4 4] [(_,_)] rfl ⟨z2 rfl,zz⟩ ?_
      refine ht_ret ?_
      refine pt_r_in ?_
      refine pt_r_then ?_
      refine pt_r_then ?_
      refine pt_r_in ?_
      refine pt_r_then ?_
      have h := hr18 _ (ho19 _ (zi h).symm).symm
      obtain rfl := zi h
      exact pt_ret hio rfl (.tmp _ _ .nil) rfl rfl
     ·have h := cond_f hb23 h
      refine ht_skip ?_
      refine pt_inb ?_
      refine pt_then ?_
      obtain ⟨v9, hv9, h⟩ := zn h
      refine zg hn [_,_,_,_,(15,vi s13),(16,vi v9),(5,vi v9)] [0,1,2,3] [0,1,6] [zq [2] 4 15,zq [4] 5 16,⟨[5],[2],[6],[(.slot 5)]⟩] [(_,_),(_,_),(_,_)] rfl ⟨z1 rfl,zp rfl (oB rfl (ibind (f := int .i64) (Option.some.inj hv9))),zp rfl (LOp.drop [_] (op_assign _ _ _ _ rfl rfl)),zz⟩ ?_
      exact pt_next _ (zi h).symm rfl
    ·have h := cond_f hb22 h
     refine ht_exit ?_
     refine pt_x_then ?_
     refine pt_x_then ?_
     refine pt_x_in ?_
     refine pt_pick [] (by kernel_rfl) (es' := []) rfl ?_
     exact hl17 _ (ho19 _ (zi h).symm).symm
theorem ok_wherrykeep_Bytes (a : (List Int)) (b : (List Int)) (r : Bool) (h : Sh.wherrykeep_Bytes a b = some r) : FnOK Tryd.prog 49 [.fl .shr 1 (map (int .u8) a), .fl .shr 1 (map (int .u8) b)] (.v (.bool r)) := by
  unfold Sh.wherrykeep_Bytes at h
  refine fn_ok func49 rfl (zl rfl) rfl rfl fun g0 hn hio => ?_
  refine zgg hn [_,_,(4,vb false)] [0,1] [0,1] [zq [] 2 4] [(_,_),(_,_)] rfl ⟨z2 rfl,zz⟩ ?_
  refine ht_seq ?_
  refine zgg hn [_,_,(6,fb a),(7,vi (a.length : Int)),(8,fb b),(9,vi (b.length : Int)),(10,vb ((a.length : Int) != (b.length : Int)))] [0,1] [0,1,6] [zq [0] 2 6,zq [2] 3 7,zq [1] 4 8,zq [4] 5 9,zq [3,5] 6 10] [(_,_),(_,_),(_,_)] rfl ⟨z1 rfl,zp rfl (op_len_fl _ _ _ underlying25 rfl (by decide) (map_len _)),z1 rfl,zp rfl (op_len_fl _ _ _ underlying25 rfl (by decide) (map_len _)),z4 rfl rfl,zz⟩ ?_
  refine ht_cond _ rfl (fun hb1 => ?_) (fun hb1 => ?_)
  ·have h := cond_t hb1 h
   refine zgg hn [_,_,_,(4,vb false)] [0,1,2] [3] [zq [] 3 4] [(_,_)] rfl ⟨z2 rfl,zz⟩ ?_
   refine ht_ret ?_
   refine pt_r_then ?_
   obtain rfl := zi h
   exact pt_ret hio rfl (.tmp _ _ .nil) rfl rfl
  ·have h := cond_f hb1 h
   refine ht_skip ?_
   refine pt_then (ht_seq ?_)
   refine zgg hn [_,_,_,(5,vi 0)] [0,1,2] [0,1,3] [zq [] 3 5] [(_,_),(_,_),(_,_)] rfl ⟨z2 rfl,zz⟩ ?_
   refine ht_loopS h (fun (s12 : Int) => [(0,fb a),(1,fb b),(5,vi s12)]) (fun (() : Unit) => []) ?_ ?_
   ·rintro ⟨⟩ h
    refine pt_then ?_
    refine zgg hn [(4,vb true)] [] [0] [zq [] 0 4] [(_,_)] rfl ⟨z2 rfl,zz⟩ ?_
    refine ht_ret ?_
    obtain rfl := zi h
    exact pt_ret hio rfl (.tmp _ _ .nil) rfl rfl
   ·rintro u15 hl16 hr17 s12 rr20 h ho18
    refine ht_seq ?_
    refine zgg hn [_,_,_,(11,vi s12),(12,fb a),(13,vi (a.length : Int)),(14,vb (decide (s12 < (a.length : Int))))] [0,1,2] [0,1,2,6] [zq [2] 3 11,zq [0] 4 12,zq [4] 5 13,zq [3,5] 6 14] [(_,_),(_,_),(_,_),(_,_)] rfl ⟨z1 rfl,z1 rfl,zp rfl (op_len_fl _ _ _ underlying25 rfl (by decide) (map_len _)),z4 rfl rfl,zz⟩ ?_
    refine ht_cond _ rfl (fun hb21 => ?_) (fun hb21 => ?_)
    ·have h := cond_t hb21 h
     refine ht_skip ?_
     refine pt_then (ht_seq ?_)
     refine ht_block ?_
     refine ht_seq ?_
     obtain ⟨v3, hv3, h⟩ := zn h
     obtain ⟨v4, hv4, h⟩ := zn h
     obtain ⟨v5, hv5, h⟩ := zn h
     obtain ⟨v6, hv6, h⟩ := zn h
     refine ht_anyR (by kernel_rfl) hn (El := [_,_,_,_,(17,fb a),(18,vi s12),(19,.eref (.slot 17) (v3 * 1)),(20,.v (.int .u8 v4)),(21,fb b),(22,vi s12),(23,.eref (.slot 21) (v5 * 1)),(24,.v (.int .u8 v6)),(25,vb (v4 != v6))]) (init := [0,1,2,3]) (fin := [0,1,2,12]) (sps := [zq [0] 4 17,zq [2] 5 18,zq [4,5] 6 19,zq [6,4] 7 20,zq [1] 8 21,zq [2] 9 22,zq [8,9] 10 23,zq [10,8] 11 24,zq [7,11] 12 25]) (es' := [(_,_),(_,_),(_,_),(25,vb (v4 != v6))]) (by kernel_rfl) rfl rfl ⟨z1 rfl,z1 rfl,zp rfl (op_ix _ _ _ _ _ _ _ _ underlying25 sz5 (by decide) rfl rfl rfl (ix_ok hv3).1 (map_lt (ix_ok hv3).2) rfl),zp rfl (op_load_e _ _ _ _ _ _ underlying5 rfl rfl rfl (map_get hv4)),z1 rfl,z1 rfl,zp rfl (op_ix _ _ _ _ _ _ _ _ underlying25 sz5 (by decide) rfl rfl rfl (ix_ok hv5).1 (map_lt (ix_ok hv5).2) rfl),zp rfl (op_load_e _ _ _ _ _ _ underlying5 rfl rfl rfl (map_get hv6)),z4 rfl rfl,zz⟩ ?_
     refine pt_then ?_
     refine ht_cond _ rfl (fun hb22 => ?_) (fun hb22 => ?_)
     ·have h := cond_t hb22 h
      refine zgg hn [_,_,_,_,(4,vb false)] [0,1,2,3] [4] [zq [] 4 4] [(_,_)] rfl ⟨z2 rfl,zz⟩ ?_
      refine ht_ret ?_
      refine pt_r_in ?_
      refine pt_r_then ?_
      refine pt_r_then ?_
      refine pt_r_in ?_
      refine pt_r_then ?_
      have h := hr17 _ (ho18 _ (zi h).symm).symm
      obtain rfl := zi h
      exact pt_ret hio rfl (.tmp _ _ .nil) rfl rfl
     ·have h := cond_f hb22 h
      refine ht_skip ?_
      refine pt_inb ?_
      refine pt_then ?_
      obtain ⟨v8, hv8, h⟩ := zn h
      refine zg hn [_,_,_,_,(15,vi s12),(16,vi v8),(5,vi v8)] [0,1,2,3] [0,1,6] [zq [2] 4 15,zq [4] 5 16,⟨[5],[2],[6],[(.slot 5)]⟩] [(_,_),(_,_),(_,_)] rfl ⟨z1 rfl,zp rfl (oB rfl (ibind (f := int .i64) (Option.some.inj hv8))),zp rfl (LOp.drop [_] (op_assign _ _ _ _ rfl rfl)),zz⟩ ?_
      exact pt_next _ (zi h).symm rfl
    ·have h := cond_f hb21 h
     refine ht_exit ?_
     refine pt_x_then ?_
     refine pt_x_then ?_
     refine pt_x_in ?_
     refine pt_pick [] (by kernel_rfl) (es' := []) rfl ?_
     exact hl16 _ (ho18 _ (zi h).symm).symm
theorem ok_wherrykeep_Mail (a : T_Mail) (b : T_Mail) (r : Bool) (h : Sh.wherrykeep_Mail a b = some r) : FnOK Tryd.prog 47 [.agg [.v (.bool a.From.Null), .v (.string a.From.Local), .v (.string a.From.Domain), .fl .shr 3 (flatten (map T_Path.enc a.To)), .fl .shr 1 (map (int .u8) a.Body), .v (.bool a.Quiet), .v (.string a.Helo), .v (.int .i64 a.At)], .agg [.v (.bool b.From.Null), .v (.string b.From.Local), .v (.string b.From.Domain), .fl .shr 3 (flatten (map T_Path.enc b.To)), .fl .shr 1 (map (int .u8) b.Body), .v (.bool b.Quiet), .v (.string b.Helo), .v (.int .i64 b.At)]] (.v (.bool r)) := by
  unfold Sh.wherrykeep_Mail at h
  refine fn_ok func47 rfl (zl rfl) rfl rfl fun g0 hn hio => ?_
  refine zgg hn [_,_,(2,.box 36 (T_Mail.c a [])),(3,.box 36 (T_Mail.c b [])),(4,vb false)] [0,1] [2,3] [zq [0] 2 2,zq [1] 3 3,zq [] 4 4] [(_,_),(_,_)] rfl ⟨zp rfl (op_box _ _ _ _ rfl rfl rfl),zp rfl (op_box _ _ _ _ rfl rfl rfl),z2 rfl,zz⟩ ?_
  refine ht_seq ?_
  refine ht_joinS h (fun (s5 : Bool) => [(4,vb s5)]) ?_ ?_
  ·rintro s5 h
   refine pt_then (ht_ret ?_)
   obtain rfl := zi h
   exact pt_ret hio rfl (.tmp _ _ .nil) rfl rfl
  ·intro u6 h hl7 hr8
   obtain ⟨v1, hv1, h⟩ := zn h
   refine cond_some h (fun hg1_5 h => ?_) (fun hg1_5 h => ?_)
   ·obtain ⟨v2, hv2, h⟩ := zn h
    refine cond_some h (fun hg1_12 h => ?_) (fun hg1_12 h => ?_)
    ·obtain ⟨v3, hv3, h⟩ := zn h
     refine cond_some h (fun hg1_19 h => ?_) (fun hg1_19 h => ?_)
     ·obtain ⟨v4, hv4, h⟩ := zn h
      refine cond_some h (fun hg1_26 h => ?_) (fun hg1_26 h => ?_)
      ·refine cond_some h (fun hg1_33 h => ?_) (fun hg1_33 h => ?_)
       ·refine zg hn (_::_::(5,.ptr 2 0)::(6,.agg [vb a.From.Null,vs a.From.Local,vs a.From.Domain])::(7,.ptr 3 0)::(8,.agg [vb b.From.Null,vs b.From.Local,vs b.From.Domain])::(9,vb v1)::(10,vb true)::(11,.ptr 2 3)::(12,.fl .shr 3 (flatten (map T_Path.enc a.To)))::(13,.ptr 3 3)::(14,.fl .shr 3 (flatten (map T_Path.enc b.To)))::(15,vb v2)::(16,vb v2)::(17,vb true)::(18,.ptr 2 4)::(19,fb a.Body)::(20,.ptr 3 4)::(21,fb b.Body)::(22,vb v3)::(23,vb v3)::(24,vb true)::(25,.ptr 2 5)::(26,vb a.Quiet)::(27,.ptr 3 5)::(28,vb b.Quiet)::(29,vb (a.Quiet == b.Quiet))::(30,vb (a.Quiet == b.Quiet))::(31,vb true)::(32,.ptr 2 6)::(33,vs a.Helo)::(34,.ptr 3 6)::(35,vs b.Helo)::(36,vb (a.Helo.toList == b.Helo.toList))::(37,vb (a.Helo.toList == b.Helo.toList))::(38,vb true)::(39,.ptr 2 7)::(40,vi a.At)::(41,.ptr 3 7)::(42,vi b.At)::(43,vb (a.At == b.At))::(44,vb (a.At == b.At))::(4,vb (a.At == b.At))::[]) [0,1] [42] (zq [0] 2 5::zq [2,0] 3 6::zq [1] 4 7::zq [4,1] 5 8::zq [3,5] 6 9::zq [6] 7 10::zq [7,0] 8 11::zq [7,8,0] 9 12::zq [7,1] 10 13::zq [7,10,1] 11 14::zq [7,9,11] 12 15::zq [7,12] 13 16::zq [13] 14 17::zq [14,0] 15 18::zq [14,15,0] 16 19::zq [14,1] 17 20::zq [14,17,1] 18 21::zq [14,16,18] 19 22::zq [14,19] 20 23::zq [20] 21 24::zq [21,0] 22 25::zq [21,22,0] 23 26::zq [21,1] 24 27::zq [21,24,1] 25 28::zq [21,23,25] 26 29::zq [21,26] 27 30::zq [27] 28 31::zq [28,0] 29 32::zq [28,29,0] 30 33::zq [28,1] 31 34::zq [28,31,1] 32 35::zq [28,30,32] 33 36::zq [28,33] 34 37::zq [34] 35 38::zq [35,0] 36 39::zq [35,36,0] 37 40::zq [35,1] 38 41::zq [35,38,1] 39 42::zq [35,37,39] 40 43::zq [35,40] 41 44::zq [41] 42 4::[]) [(_,_)] rfl ⟨zp rfl (oF underlying36 rfl sz24),zp rfl (op_loadA _ _ _ _ _ _ _ underlying24 rfl sz24 rfl rfl (zl rfl) rfl rfl),zp rfl (oF underlying36 rfl sz24),zp rfl (op_loadA _ _ _ _ _ _ _ underlying24 rfl sz24 rfl rfl (zl rfl) rfl rfl),zp rfl (op_call _ _ 59 _ _ rfl call59 rfl (ok_wherrykeep_Path (T_Path.mk a.From.Null a.From.Local a.From.Domain) (T_Path.mk b.From.Null b.From.Local b.From.Domain) _ hv1) rfl rfl),z8 hg1_5 rfl,zr' rfl (oF underlying36 rfl sz34),zr' rfl (oL underlying34 rfl),zr' rfl (oF underlying36 rfl sz34),zr' rfl (oL underlying34 rfl),zr' rfl (op_call _ _ 60 _ _ rfl call60 rfl (ok_wherrykeep_Paths a.To b.To _ hv2) rfl rfl),z3 true rfl,z8 hg1_12 rfl,zr' rfl (oF underlying36 rfl sz25),zr' rfl (oL underlying25 rfl),zr' rfl (oF underlying36 rfl sz25),zr' rfl (oL underlying25 rfl),zr' rfl (op_call _ _ 49 _ _ rfl call49 rfl (ok_wherrykeep_Bytes a.Body b.Body _ hv3) rfl rfl),z3 true rfl,z8 hg1_19 rfl,zr' rfl (oF underlying36 rfl sz4),zr' rfl (oL underlying4 rfl),zr' rfl (oF underlying36 rfl sz4),zr' rfl (oL underlying4 rfl),zr' rfl (op_beq _ _ _ _ underlying4 rfl rfl),z3 true rfl,z8 hg1_26 rfl,zr' rfl (oF underlying36 rfl sz9),zr' rfl (oL underlying9 rfl),zr' rfl (oF underlying36 rfl sz9),zr' rfl (oL underlying9 rfl),zr' rfl (oB rfl rfl),z3 true rfl,z8 hg1_33 rfl,zr' rfl (oF underlying36 rfl sz3),zr' rfl (oL underlying3 rfl),zr' rfl (oF underlying36 rfl sz3),zr' rfl (oL underlying3 rfl),zr' rfl (oB rfl rfl),z3 true rfl,z2 rfl,zz⟩ ?_
        exact hl7 _ (zi h).symm
       ·refine zg hn (_::_::(5,.ptr 2 0)::(6,.agg [vb a.From.Null,vs a.From.Local,vs a.From.Domain])::(7,.ptr 3 0)::(8,.agg [vb b.From.Null,vs b.From.Local,vs b.From.Domain])::(9,vb v1)::(10,vb true)::(11,.ptr 2 3)::(12,.fl .shr 3 (flatten (map T_Path.enc a.To)))::(13,.ptr 3 3)::(14,.fl .shr 3 (flatten (map T_Path.enc b.To)))::(15,vb v2)::(16,vb v2)::(17,vb true)::(18,.ptr 2 4)::(19,fb a.Body)::(20,.ptr 3 4)::(21,fb b.Body)::(22,vb v3)::(23,vb v3)::(24,vb true)::(25,.ptr 2 5)::(26,vb a.Quiet)::(27,.ptr 3 5)::(28,vb b.Quiet)::(29,vb (a.Quiet == b.Quiet))::(30,vb (a.Quiet == b.Quiet))::(31,vb true)::(32,.ptr 2 6)::(33,vs a.Helo)::(34,.ptr 3 6)::(35,vs b.Helo)::(36,vb (a.Helo.toList == b.Helo.toList))::(37,vb (a.Helo.toList == b.Helo.toList))::(38,vb false)::(39,.v undef)::(40,.v undef)::(41,.v undef)::(42,.v undef)::(43,.v undef)::(44,vb false)::(4,vb false)::[]) [0,1] [42] (zq [0] 2 5::zq [2,0] 3 6::zq [1] 4 7::zq [4,1] 5 8::zq [3,5] 6 9::zq [6] 7 10::zq [7,0] 8 11::zq [7,8,0] 9 12::zq [7,1] 10 13::zq [7,10,1] 11 14::zq [7,9,11] 12 15::zq [7,12] 13 16::zq [13] 14 17::zq [14,0] 15 18::zq [14,15,0] 16 19::zq [14,1] 17 20::zq [14,17,1] 18 21::zq [14,16,18] 19 22::zq [14,19] 20 23::zq [20] 21 24::zq [21,0] 22 25::zq [21,22,0] 23 26::zq [21,1] 24 27::zq [21,24,1] 25 28::zq [21,23,25] 26 29::zq [21,26] 27 30::zq [27] 28 31::zq [28,0] 29 32::zq [28,29,0] 30 33::zq [28,1] 31 34::zq [28,31,1] 32 35::zq [28,30,32] 33 36::zq [28,33] 34 37::zq [34] 35 38::zq [35] 36 39::zq [35] 37 40::zq [35] 38 41::zq [35] 39 42::zq [35] 40 43::zq [35] 41 44::zq [41] 42 4::[]) [(_,_)] rfl ⟨zp rfl (oF underlying36 rfl sz24),zp rfl (op_loadA _ _ _ _ _ _ _ underlying24 rfl sz24 rfl rfl (zl rfl) rfl rfl),zp rfl (oF underlying36 rfl sz24),zp rfl (op_loadA _ _ _ _ _ _ _ underlying24 rfl sz24 rfl rfl (zl rfl) rfl rfl),zp rfl (op_call _ _ 59 _ _ rfl call59 rfl (ok_wherrykeep_Path (T_Path.mk a.From.Null a.From.Local a.From.Domain) (T_Path.mk b.From.Null b.From.Local b.From.Domain) _ hv1) rfl rfl),z8 hg1_5 rfl,zr' rfl (oF underlying36 rfl sz34),zr' rfl (oL underlying34 rfl),zr' rfl (oF underlying36 rfl sz34),zr' rfl (oL underlying34 rfl),zr' rfl (op_call _ _ 60 _ _ rfl call60 rfl (ok_wherrykeep_Paths a.To b.To _ hv2) rfl rfl),z3 true rfl,z8 hg1_12 rfl,zr' rfl (oF underlying36 rfl sz25),zr' rfl (oL underlying25 rfl),zr' rfl (oF underlying36 rfl sz25),zr' rfl (oL underlying25 rfl),zr' rfl (op_call _ _ 49 _ _ rfl call49 rfl (ok_wherrykeep_Bytes a.Body b.Body _ hv3) rfl rfl),z3 true rfl,z8 hg1_19 rfl,zr' rfl (oF underlying36 rfl sz4),zr' rfl (oL underlying4 rfl),zr' rfl (oF underlying36 rfl sz4),zr' rfl (oL underlying4 rfl),zr' rfl (op_beq _ _ _ _ underlying4 rfl rfl),z3 true rfl,z8 hg1_26 rfl,zr' rfl (oF underlying36 rfl sz9),zr' rfl (oL underlying9 rfl),zr' rfl (oF underlying36 rfl sz9),zr' rfl (oL underlying9 rfl),zr' rfl (oB rfl rfl),z3 true rfl,z8 hg1_33 rfl,zt rfl,zt rfl,zt rfl,zt rfl,zt rfl,z3 false rfl,z2 rfl,zz⟩ ?_
        exact hl7 _ (zi h).symm
      ·refine zg hn (_::_::(5,.ptr 2 0)::(6,.agg [vb a.From.Null,vs a.From.Local,vs a.From.Domain])::(7,.ptr 3 0)::(8,.agg [vb b.From.Null,vs b.From.Local,vs b.From.Domain])::(9,vb v1)::(10,vb true)::(11,.ptr 2 3)::(12,.fl .shr 3 (flatten (map T_Path.enc a.To)))::(13,.ptr 3 3)::(14,.fl .shr 3 (flatten (map T_Path.enc b.To)))::(15,vb v2)::(16,vb v2)::(17,vb true)::(18,.ptr 2 4)::(19,fb a.Body)::(20,.ptr 3 4)::(21,fb b.Body)::(22,vb v3)::(23,vb v3)::(24,vb true)::(25,.ptr 2 5)::(26,vb a.Quiet)::(27,.ptr 3 5)::(28,vb b.Quiet)::(29,vb (a.Quiet == b.Quiet))::(30,vb (a.Quiet == b.Quiet))::(31,vb false)::(32,.v undef)::(33,.v undef)::(34,.v undef)::(35,.v undef)::(36,.v undef)::(37,vb false)::(38,vb false)::(39,.v undef)::(40,.v undef)::(41,.v undef)::(42,.v undef)::(43,.v undef)::(44,vb false)::(4,vb false)::[]) [0,1] [42] (zq [0] 2 5::zq [2,0] 3 6::zq [1] 4 7::zq [4,1] 5 8::zq [3,5] 6 9::zq [6] 7 10::zq [7,0] 8 11::zq [7,8,0] 9 12::zq [7,1] 10 13::zq [7,10,1] 11 14::zq [7,9,11] 12 15::zq [7,12] 13 16::zq [13] 14 17::zq [14,0] 15 18::zq [14,15,0] 16 19::zq [14,1] 17 20::zq [14,17,1] 18 21::zq [14,16,18] 19 22::zq [14,19] 20 23::zq [20] 21 24::zq [21,0] 22 25::zq [21,22,0] 23 26::zq [21,1] 24 27::zq [21,24,1] 25 28::zq [21,23,25] 26 29::zq [21,26] 27 30::zq [27] 28 31::zq [28] 29 32::zq [28] 30 33::zq [28] 31 34::zq [28] 32 35::zq [28] 33 36::zq [28] 34 37::zq [34] 35 38::zq [35] 36 39::zq [35] 37 40::zq [35] 38 41::zq [35] 39 42::zq [35] 40 43::zq [35] 41 44::zq [41] 42 4::[]) [(_,_)] rfl ⟨zp rfl (oF underlying36 rfl sz24),zp rfl (op_loadA _ _ _ _ _ _ _ underlying24 rfl sz24 rfl rfl (zl rfl) rfl rfl),zp rfl (oF underlying36 rfl sz24),zp rfl (op_loadA _ _ _ _ _ _ _ underlying24 rfl sz24 rfl rfl (zl rfl) rfl rfl),zp rfl (op_call _ _ 59 _ _ rfl call59 rfl (ok_wherrykeep_Path (T_Path.mk a.From.Null a.From.Local a.From.Domain) (T_Path.mk b.From.Null b.From.Local b.From.Domain) _ hv1) rfl rfl),z8 hg1_5 rfl,zr' rfl (oF underlying36 rfl sz34),zr' rfl (oL underlying34 rfl),zr' rfl (oF underlying36 rfl sz34),zr' rfl (oL underlying34 rfl),zr' rfl (op_call _ _ 60 _ _ rfl call60 rfl (ok_wherrykeep_Paths a.To b.To _ hv2) rfl rfl),z3 true rfl,z8 hg1_12 rfl,zr' rfl (oF underlying36 rfl sz25),zr' rfl (oL underlying25 rfl),zr' rfl (oF underlying36 rfl sz25),zr' rfl (oL underlying25 rfl),zr' rfl (op_call _ _ 49 _ _ rfl call49 rfl (ok_wherrykeep_Bytes a.Body b.Body _ hv3) rfl rfl),z3 true rfl,z8 hg1_19 rfl,zr' rfl (oF underlying36 rfl sz4),zr' rfl (oL underlying4 rfl),zr' rfl (oF underlying36 rfl sz4),zr' rfl (oL underlying4 rfl),zr' rfl (op_beq _ _ _ _ underlying4 rfl rfl),z3 true rfl,z8 hg1_26 rfl,zt rfl,zt rfl,zt rfl,zt rfl,zt rfl,z3 false rfl,z1 rfl,zt rfl,zt rfl,zt rfl,zt rfl,zt rfl,z3 false rfl,z2 rfl,zz⟩ ?_
       exact hl7 _ (zi h).symm
     ·refine zg hn (_::_::(5,.ptr 2 0)::(6,.agg [vb a.From.Null,vs a.From.Local,vs a.From.Domain])::(7,.ptr 3 0)::(8,.agg [vb b.From.Null,vs b.From.Local,vs b.From.Domain])::(9,vb v1)::(10,vb true)::(11,.ptr 2 3)::(12,.fl .shr 3 (flatten (map T_Path.enc a.To)))::(13,.ptr 3 3)::(14,.fl .shr 3 (flatten (map T_Path.enc b.To)))::(15,vb v2)::(16,vb v2)::(17,vb true)::(18,.ptr 2 4)::(19,fb a.Body)::(20,.ptr 3 4)::(21,fb b.Body)::(22,vb v3)::(23,vb v3)::(24,vb false)::(25,.v undef)::(26,.v undef)::(27,.v undef)::(28,.v undef)::(29,.v undef)::(30,vb false)::(31,vb false)::(32,.v undef)::(33,.v undef)::(34,.v undef)::(35,.v undef)::(36,.v undef)::(37,vb false)::(38,vb false)::(39,.v undef)::(40,.v undef)::(41,.v undef)::(42,.v undef)::(43,.v undef)::(44,vb false)::(4,vb false)::[]) [0,1] [42] (zq [0] 2 5::zq [2,0] 3 6::zq [1] 4 7::zq [4,1] 5 8::zq [3,5] 6 9::zq [6] 7 10::zq [7,0] 8 11::zq [7,8,0] 9 12::zq [7,1] 10 13::zq [7,10,1] 11 14::zq [7,9,11] 12 15::zq [7,12] 13 16::zq [13] 14 17::zq [14,0] 15 18::zq [14,15,0] 16 19::zq [14,1] 17 20::zq [14,17,1] 18 21::zq [14,16,18] 19 22::zq [14,19] 20 23::zq [20] 21 24::zq [21] 22 25::zq [21] 23 26::zq [21] 24 27::zq [21] 25 28::zq [21] 26 29::zq [21] 27 30::zq [27] 28 31::zq [28] 29 32::zq [28] 30 33::zq [28] 31 34::zq [28] 32 35::zq [28] 33 36::zq [28] 34 37::zq [34] 35 38::zq [35] 36 39::zq [35] 37 40::zq [35] 38 41::zq [35] 39 42::zq [35] 40 43::zq [35] 41 44::zq [41] 42 4::[]) [(_,_)] rfl ⟨zp rfl (oF underlying36 rfl sz24),zp rfl (op_loadA _ _ _ _ _ _ _ underlying24 rfl sz24 rfl rfl (zl rfl) rfl rfl),zp rfl (oF underlying36 rfl sz24),zp rfl (op_loadA _ _ _ _ _ _ _ underlying24 rfl sz24 rfl rfl (zl rfl) rfl rfl),zp rfl (op_call _ _ 59 _ _ rfl call59 rfl (ok_wherrykeep_Path (T_Path.mk a.From.Null a.From.Local a.From.Domain) (T_Path.mk b.From.Null b.From.Local b.From.Domain) _ hv1) rfl rfl),z8 hg1_5 rfl,zr' rfl (oF underlying36 rfl sz34),zr' rfl (oL underlying34 rfl),zr' rfl (oF underlying36 rfl sz34),zr' rfl (oL underlying34 rfl),zr' rfl (op_call _ _ 60 _ _ rfl call60 rfl (ok_wherrykeep_Paths a.To b.To _ hv2) rfl rfl),z3 true rfl,z8 hg1_12 rfl,zr' rfl (oF underlying36 rfl sz25),zr' rfl (oL underlying25 rfl),zr' rfl (oF underlying36 rfl sz25),zr' rfl (oL underlying25 rfl),zr' rfl (op_call _ _ 49 _ _ rfl call49 rfl (ok_wherrykeep_Bytes a.Body b.Body _ hv3) rfl rfl),z3 true rfl,z8 hg1_19 rfl,zt rfl,zt rfl,zt rfl,zt rfl,zt rfl,z3 false rfl,z1 rfl,zt rfl,zt rfl,zt rfl,zt rfl,zt rfl,z3 false rfl,z1 rfl,zt rfl,zt rfl,zt rfl,zt rfl,zt rfl,z3 false rfl,z2 rfl,zz⟩ ?_
      exact hl7 _ (zi h).symm
    ·refine zg hn (_::_::(5,.ptr 2 0)::(6,.agg [vb a.From.Null,vs a.From.Local,vs a.From.Domain])::(7,.ptr 3 0)::(8,.agg [vb b.From.Null,vs b.From.Local,vs b.From.Domain])::(9,vb v1)::(10,vb true)::(11,.ptr 2 3)::(12,.fl .shr 3 (flatten (map T_Path.enc a.To)))::(13,.ptr 3 3)::(14,.fl .shr 3 (flatten (map T_Path.enc b.To)))::(15,vb v2)::(16,vb v2)::(17,vb false)::(18,.v undef)::(19,.v undef)::(20,.v undef)::(21,.v undef)::(22,.v undef)::(23,vb false)::(24,vb false)::(25,.v undef)::(26,.v undef)::(27,.v undef)::(28,.v undef)::(29,.v undef)::(30,vb false)::(31,vb false)::(32,.v undef)::(33,.v undef)::(34,.v undef)::(35,.v undef)::(36,.v undef)::(37,vb false)::(38,vb false)::(39,.v undef)::(40,.v undef)::(41,.v undef)::(42,.v undef)::(43,.v undef)::(44,vb false)::(4,vb false)::[]) [0,1] [42] (zq [0] 2 5::zq [2,0] 3 6::zq [1] 4 7::zq [4,1] 5 8::zq [3,5] 6 9::zq [6] 7 10::zq [7,0] 8 11::zq [7,8,0] 9 12::zq [7,1] 10 13::zq [7,10,1] 11 14::zq [7,9,11] 12 15::zq [7,12] 13 16::zq [13] 14 17::zq [14] 15 18::zq [14] 16 19::zq [14] 17 20::zq [14] 18 21::zq [14] 19 22::zq [14] 20 23::zq [20] 21 24::zq [21] 22 25::zq [21] 23 26::zq [21] 24 27::zq [21] 25 28::zq [21] 26 29::zq [21] 27 30::zq [27] 28 31::zq [28] 29 32::zq [28] 30 33::zq [28] 31 34::zq [28] 32 35::zq [28] 33 36::zq [28] 34 37::zq [34] 35 38::zq [35] 36 39::zq [35] 37 40::zq [35] 38 41::zq [35] 39 42::zq [35] 40 43::zq [35] 41 44::zq [41] 42 4::[]) [(_,_)] rfl ⟨zp rfl (oF underlying36 rfl sz24),zp rfl (op_loadA _ _ _ _ _ _ _ underlying24 rfl sz24 rfl rfl (zl rfl) rfl rfl),zp rfl (oF underlying36 rfl sz24),zp rfl (op_loadA _ _ _ _ _ _ _ underlying24 rfl sz24 rfl rfl (zl rfl) rfl rfl),zp rfl (op_call _ _ 59 _ _ rfl call59 rfl (ok_wherrykeep_Path (T_Path.mk a.From.Null a.From.Local a.From.Domain) (T_Path.mk b.From.Null b.From.Local b.From.Domain) _ hv1) rfl rfl),z8 hg1_5 rfl,zr' rfl (oF underlying36 rfl sz34),zr' rfl (oL underlying34 rfl),zr' rfl (oF underlying36 rfl sz34),zr' rfl (oL underlying34 rfl),zr' rfl (op_call _ _ 60 _ _ rfl call60 rfl (ok_wherrykeep_Paths a.To b.To _ hv2) rfl rfl),z3 true rfl,z8 hg1_12 rfl,zt rfl,zt rfl,zt rfl,zt rfl,zt rfl,z3 false rfl,z1 rfl,zt rfl,zt rfl,zt rfl,zt rfl,zt rfl,z3 false rfl,z1 rfl,zt rfl,zt rfl,zt rfl,zt rfl,zt rfl,z3 false rfl,z1 rfl,zt rfl,zt rfl,zt rfl,zt rfl,zt rfl,z3 false rfl,z2 rfl,zz⟩ ?_
     exact hl7 _ (zi h).symm
   ·refine zg hn (_::_::(5,.ptr 2 0)::(6,.agg [vb a.From.Null,vs a.From.Local,vs a.From.Domain])::(7,.ptr 3 0)::(8,.agg [vb b.From.Null,vs b.From.Local,vs b.From.Domain])::(9,vb v1)::(10,vb false)::(11,.v undef)::(12,.v undef)::(13,.v undef)::(14,.v undef)::(15,.v undef)::(16,vb false)::(17,vb false)::(18,.v undef)::(19,.v undef)::(20,.v undef)::(21,.v undef)::(22,.v undef)::(23,vb false)::(24,vb false)::(25,.v undef)::(26,.v undef)::(27,.v undef)::(28,.v undef)::(29,.v undef)::(30,vb false)::(31,vb false)::(32,.v undef)::(33,.v undef)::(34,.v undef)::(35,.v undef)::(36,.v undef)::(37,vb false)::(38,vb false)::(39,.v undef)::(40,.v undef)::(41,.v undef)::(42,.v undef)::(43,.v undef)::(44,vb false)::(4,vb false)::[]) [0,1] [42] (zq [0] 2 5::zq [2,0] 3 6::zq [1] 4 7::zq [4,1] 5 8::zq [3,5] 6 9::zq [6] 7 10::zq [7] 8 11::zq [7] 9 12::zq [7] 10 13::zq [7] 11 14::zq [7] 12 15::zq [7] 13 16::zq [13] 14 17::zq [14] 15 18::zq [14] 16 19::zq [14] 17 20::zq [14] 18 21::zq [14] 19 22::zq [14] 20 23::zq [20] 21 24::zq [21] 22 25::zq [21] 23 26::zq [21] 24 27::zq [21] 25 28::zq [21] 26 29::zq [21] 27 30::zq [27] 28 31::zq [28] 29 32::zq [28] 30 33::zq [28] 31 34::zq [28] 32 35::zq [28] 33 36::zq [28] 34 37::zq [34] 35 38::zq [35] 36 39::zq [35] 37 40::zq [35] 38 41::zq [35] 39 42::zq [35] 40 43::zq [35] 41 44::zq [41] 42 4::[]) [(_,_)] rfl ⟨zp rfl (oF underlying36 rfl sz24),zp rfl (op_loadA _ _ _ _ _ _ _ underlying24 rfl sz24 rfl rfl (zl rfl) rfl rfl),zp rfl (oF underlying36 rfl sz24),zp rfl (op_loadA _ _ _ _ _ _ _ underlying24 rfl sz24 rfl rfl (zl rfl) rfl rfl),zp rfl (op_call _ _ 59 _ _ rfl call59 rfl (ok_wherrykeep_Path (T_Path.mk a.From.Null a.From.Local a.From.Domain) (T_Path.mk b.From.Null b.From.Local b.From.Domain) _ hv1) rfl rfl),z8 hg1_5 rfl,zt rfl,zt rfl,zt rfl,zt rfl,zt rfl,z3 false rfl,z1 rfl,zt rfl,zt rfl,zt rfl,zt rfl,zt rfl,z3 false rfl,z1 rfl,zt rfl,zt rfl,zt rfl,zt rfl,zt rfl,z3 false rfl,z1 rfl,zt rfl,zt rfl,zt rfl,zt rfl,zt rfl,z3 false rfl,z1 rfl,zt rfl,zt rfl,zt rfl,zt rfl,zt rfl,z3 false rfl,z2 rfl,zz⟩ ?_
    exact hl7 _ (zi h).symm
theorem ok_wherrykeep_Ints (a : (List Int)) (b : (List Int)) (r : Bool) (h : Sh.wherrykeep_Ints a b = some r) : FnOK Tryd.prog 48 [.fl .shr 1 (map (int .i64) a), .fl .shr 1 (map (int .i64) b)] (.v (.bool r)) := by
  unfold Sh.wherrykeep_Ints at h
  refine fn_ok func48 rfl (zl rfl) rfl rfl fun g0 hn hio => ?_
  refine zgg hn [_,_,(4,vb false)] [0,1] [0,1] [zq [] 2 4] [(_,_),(_,_)] rfl ⟨z2 rfl,zz⟩ ?_
  refine ht_seq ?_
  refine zgg hn [_,_,(6,fi a),(7,vi (a.length : Int)),(8,fi b),(9,vi (b.length : Int)),(10,vb ((a.length : Int) != (b.length : Int)))] [0,1] [0,1,6] [zq [0] 2 6,zq [2] 3 7,zq [1] 4 8,zq [4] 5 9,zq [3,5] 6 10] [(_,_),(_,_),(_,_)] rfl ⟨z1 rfl,zp rfl (op_len_fl _ _ _ underlying37 rfl (by decide) (map_len _)),z1 rfl,zp rfl (op_len_fl _ _ _ underlying37 rfl (by decide) (map_len _)),z4 rfl rfl,zz⟩ ?_
  refine ht_cond _ rfl (fun hb1 => ?_) (fun hb1 => ?_)
  ·have h := cond_t hb1 h
   refine zgg hn [_,_,_,(4,vb false)] [0,1,2] [3] [zq [] 3 4] [(_,_)] rfl ⟨z2 rfl,zz⟩ ?_
   refine ht_ret ?_
   refine pt_r_then ?_
   obtain rfl := zi h
   exact pt_ret hio rfl (.tmp _ _ .nil) rfl rfl
  ·have h := cond_f hb1 h
   refine ht_skip ?_
   refine pt_then (ht_seq ?_)
   refine zgg hn [_,_,_,(5,vi 0)] [0,1,2] [0,1,3] [zq [] 3 5] [(_,_),(_,_),(_,_)] rfl ⟨z2 rfl,zz⟩ ?_
   refine ht_loopS h (fun (s12 : Int) => [(0,fi a),(1,fi b),(5,vi s12)]) (fun (() : Unit) => []) ?_ ?_
   ·rintro ⟨⟩ h
    refine pt_then ?_
    refine zgg hn [(4,vb true)] [] [0] [zq [] 0 4] [(_,_)] rfl ⟨z2 rfl,zz⟩ ?_
    refine ht_ret ?_
    obtain rfl := zi h
    exact pt_ret hio rfl (.tmp _ _ .nil) rfl rfl
   ·rintro u15 hl16 hr17 s12 rr20 h ho18
    refine ht_seq ?_
    refine zgg hn [_,_,_,(11,vi s12),(12,fi a),(13,vi (a.length : Int)),(14,vb (decide (s12 < (a.length : Int))))] [0,1,2] [0,1,2,6] [zq [2] 3 11,zq [0] 4 12,zq [4] 5 13,zq [3,5] 6 14] [(_,_),(_,_),(_,_),(_,_)] rfl ⟨z1 rfl,z1 rfl,zp rfl (op_len_fl _ _ _ underlying37 rfl (by decide) (map_len _)),z4 rfl rfl,zz⟩ ?_
    refine ht_cond _ rfl (fun hb21 => ?_) (fun hb21 => ?_)
    ·have h := cond_t hb21 h
     refine ht_skip ?_
     refine pt_then (ht_seq ?_)
     refine ht_block ?_
     refine ht_seq ?_
     obtain ⟨v3, hv3, h⟩ := zn h
     obtain ⟨v4, hv4, h⟩ := zn h
     obtain ⟨v5, hv5, h⟩ := zn h
     obtain ⟨v6, hv6, h⟩ := zn h
     refine ht_anyR (by kernel_rfl) hn (El := [_,_,_,_,(17,fi a),(18,vi s12),(19,.eref (.slot 17) (v3 * 1)),(20,vi v4),(21,fi b),(22,vi s12),(23,.eref (.slot 21) (v5 * 1)),(24,vi v6),(25,vb (v4 != v6))]) (init := [0,1,2,3]) (fin := [0,1,2,12]) (sps := [zq [0] 4 17,zq [2] 5 18,zq [4,5] 6 19,zq [6,4] 7 20,zq [1] 8 21,zq [2] 9 22,zq [8,9] 10 23,zq [10,8] 11 24,zq [7,11] 12 25]) (es' := [(_,_),(_,_),(_,_),(25,vb (v4 != v6))]) (by kernel_rfl) rfl rfl ⟨z1 rfl,z1 rfl,zp rfl (op_ix _ _ _ _ _ _ _ _ underlying37 sz3 (by decide) rfl rfl rfl (ix_ok hv3).1 (map_lt (ix_ok hv3).2) rfl),zp rfl (op_load_e _ _ _ _ _ _ underlying3 rfl rfl rfl (map_get hv4)),z1 rfl,z1 rfl,zp rfl (op_ix _ _ _ _ _ _ _ _ underlying37 sz3 (by decide) rfl rfl rfl (ix_ok hv5).1 (map_lt (ix_ok hv5).2) rfl),zp rfl (op_load_e _ _ _ _ _ _ underlying3 rfl rfl rfl (map_get hv6)),z4 rfl rfl,zz⟩ ?_
     refine pt_then ?_
     refine ht_cond _ rfl (fun hb22 => ?_) (fun hb22 => ?_)
     ·have h := cond_t hb22 h
      refine zgg hn [_,_,_,_,(4,vb false)] [0,1,2,3] [4] [zq [] 4 4] [(_,_)] rfl ⟨z2 rfl,zz⟩ ?_
      refine ht_ret ?_
      refine pt_r_in ?_
      refine pt_r_then ?_
      refine pt_r_then ?_
      refine pt_r_in ?_
      refine pt_r_then ?_
      have h := hr17 _ (ho18 _ (zi h).symm).symm
      obtain rfl := zi h
      exact pt_ret hio rfl (.tmp _ _ .nil) rfl rfl
     ·have h := cond_f hb22 h
      refine ht_skip ?_
      refine pt_inb ?_
      refine pt_then ?_
      obtain ⟨v8, hv8, h⟩ := zn h
      refine zg hn [_,_,_,_,(15,vi s12),(16,vi v8),(5,vi v8)] [0,1,2,3] [0,1,6] [zq [2] 4 15,zq [4] 5 16,⟨[5],[2],[6],[(.slot 5)]⟩] [(_,_),(_,_),(_,_)] rfl ⟨z1 rfl,zp rfl (oB rfl (ibind (f := int .i64) (Option.some.inj hv8))),zp rfl (LOp.drop [_] (op_assign _ _ _ _ rfl rfl)),zz⟩ ?_
      exact pt_next _ (zi h).symm rfl
    ·have h := cond_f hb21 h
     refine ht_exit ?_
     refine pt_x_then ?_
     refine pt_x_then ?_
     refine pt_x_in ?_
     refine pt_pick [] (by kernel_rfl) (es' := []) rfl ?_
     exact hl16 _ (ho18 _ (zi h).symm).symm
theorem ok_wherrykeep_Rec (a : T_Rec) (b : T_Rec) (r : Bool) (h : Sh.wherrykeep_Rec a b = some r) : FnOK Tryd.prog 34 [.agg [.v (.int .i64 a.Kind), .v (.bool a.Mail.From.Null), .v (.string a.Mail.From.Local), .v (.string a.Mail.From.Domain), .fl .shr 3 (flatten (map T_Path.enc a.Mail.To)), .fl .shr 1 (map (int .u8) a.Mail.Body), .v (.bool a.Mail.Quiet), .v (.string a.Mail.Helo), .v (.int .i64 a.Mail.At), .v (.int .i64 a.Id), .fl .shr 1 (map (int .i64) a.Ids), .v (.int .i64 a.Origin), .v (.int .i64 a.Number), .v (.int .i64 a.Offset), .fl .shr 1 (map (int .u8) a.Data)], .agg [.v (.int .i64 b.Kind), .v (.bool b.Mail.From.Null), .v (.string b.Mail.From.Local), .v (.string b.Mail.From.Domain), .fl .shr 3 (flatten (map T_Path.enc b.Mail.To)), .fl .shr 1 (map (int .u8) b.Mail.Body), .v (.bool b.Mail.Quiet), .v (.string b.Mail.Helo), .v (.int .i64 b.Mail.At), .v (.int .i64 b.Id), .fl .shr 1 (map (int .i64) b.Ids), .v (.int .i64 b.Origin), .v (.int .i64 b.Number), .v (.int .i64 b.Offset), .fl .shr 1 (map (int .u8) b.Data)]] (.v (.bool r)) := by
  unfold Sh.wherrykeep_Rec at h
  refine fn_ok func34 rfl (zl rfl) rfl rfl fun g0 hn hio => ?_
  refine zgg hn [_,_,(2,.box 39 (T_Rec.c a [])),(3,.box 39 (T_Rec.c b [])),(4,vb false)] [0,1] [2,3] [zq [0] 2 2,zq [1] 3 3,zq [] 4 4] [(_,_),(_,_)] rfl ⟨zp rfl (op_box _ _ _ _ rfl rfl rfl),zp rfl (op_box _ _ _ _ rfl rfl rfl),z2 rfl,zz⟩ ?_
  refine ht_seq ?_
  refine ht_joinS h (fun (s4 : Bool) => [(4,vb s4)]) ?_ ?_
  ·rintro s4 h
   refine pt_then (ht_ret ?_)
   obtain rfl := zi h
   exact pt_ret hio rfl (.tmp _ _ .nil) rfl rfl
  ·intro u5 h hl6 hr7
   refine cond_some h (fun hg1_5 h => ?_) (fun hg1_5 h => ?_)
   ·obtain ⟨v1, hv1, h⟩ := zn h
    refine cond_some h (fun hg1_12 h => ?_) (fun hg1_12 h => ?_)
    ·refine cond_some h (fun hg1_19 h => ?_) (fun hg1_19 h => ?_)
     ·obtain ⟨v2, hv2, h⟩ := zn h
      refine cond_some h (fun hg1_26 h => ?_) (fun hg1_26 h => ?_)
      ·refine cond_some h (fun hg1_33 h => ?_) (fun hg1_33 h => ?_)
       ·refine cond_some h (fun hg1_40 h => ?_) (fun hg1_40 h => ?_)
        ·refine cond_some h (fun hg1_47 h => ?_) (fun hg1_47 h => ?_)
         ·obtain ⟨v3, hv3, h⟩ := zn h
          refine zg hn (_::_::(5,.ptr 2 0)::(6,vi a.Kind)::(7,.ptr 3 0)::(8,vi b.Kind)::(9,vb (a.Kind == b.Kind))::(10,vb true)::(11,.ptr 2 1)::(12,.agg (T_Mail.c a.Mail []))::(13,.ptr 3 1)::(14,.agg (T_Mail.c b.Mail []))::(15,vb v1)::(16,vb v1)::(17,vb true)::(18,.ptr 2 9)::(19,vi a.Id)::(20,.ptr 3 9)::(21,vi b.Id)::(22,vb (a.Id == b.Id))::(23,vb (a.Id == b.Id))::(24,vb true)::(25,.ptr 2 10)::(26,fi a.Ids)::(27,.ptr 3 10)::(28,fi b.Ids)::(29,vb v2)::(30,vb v2)::(31,vb true)::(32,.ptr 2 11)::(33,vi a.Origin)::(34,.ptr 3 11)::(35,vi b.Origin)::(36,vb (a.Origin == b.Origin))::(37,vb (a.Origin == b.Origin))::(38,vb true)::(39,.ptr 2 12)::(40,vi a.Number)::(41,.ptr 3 12)::(42,vi b.Number)::(43,vb (a.Number == b.Number))::(44,vb (a.Number == b.Number))::(45,vb true)::(46,.ptr 2 13)::(47,vi a.Offset)::(48,.ptr 3 13)::(49,vi b.Offset)::(50,vb (a.Offset == b.Offset))::(51,vb (a.Offset == b.Offset))::(52,vb true)::(53,.ptr 2 14)::(54,fb a.Data)::(55,.ptr 3 14)::(56,fb b.Data)::(57,vb v3)::(58,vb v3)::(4,vb v3)::[]) [0,1] [56] (zq [0] 2 5::zq [2,0] 3 6::zq [1] 4 7::zq [4,1] 5 8::zq [3,5] 6 9::zq [6] 7 10::zq [7,0] 8 11::zq [7,8,0] 9 12::zq [7,1] 10 13::zq [7,10,1] 11 14::zq [7,9,11] 12 15::zq [7,12] 13 16::zq [13] 14 17::zq [14,0] 15 18::zq [14,15,0] 16 19::zq [14,1] 17 20::zq [14,17,1] 18 21::zq [14,16,18] 19 22::zq [14,19] 20 23::zq [20] 21 24::zq [21,0] 22 25::zq [21,22,0] 23 26::zq [21,1] 24 27::zq [21,24,1] 25 28::zq [21,23,25] 26 29::zq [21,26] 27 30::zq [27] 28 31::zq [28,0] 29 32::zq [28,29,0] 30 33::zq [28,1] 31 34::zq [28,31,1] 32 35::zq [28,30,32] 33 36::zq [28,33] 34 37::zq [34] 35 38::zq [35,0] 36 39::zq [35,36,0] 37 40::zq [35,1] 38 41::zq [35,38,1] 39 42::zq [35,37,39] 40 43::zq [35,40] 41 44::zq [41] 42 45::zq [42,0] 43 46::zq [42,43,0] 44 47::zq [42,1] 45 48::zq [42,45,1] 46 49::zq [42,44,46] 47 50::zq [42,47] 48 51::zq [48] 49 52::zq [49,0] 50 53::zq [49,50,0] 51 54::zq [49,1] 52 55::zq [49,52,1] 53 56::zq [49,51,53] 54 57::zq [49,54] 55 58::zq [55] 56 4::[]) [(_,_)] rfl ⟨zp rfl (oF underlying39 rfl sz3),zp rfl (oL underlying3 rfl),zp rfl (oF underlying39 rfl sz3),zp rfl (oL underlying3 rfl),z4 rfl rfl,z8 hg1_5 rfl,zr' rfl (oF underlying39 rfl sz36),zr' rfl (op_loadA _ _ _ _ _ _ _ underlying36 rfl sz36 rfl rfl (zl rfl) rfl rfl),zr' rfl (oF underlying39 rfl sz36),zr' rfl (op_loadA _ _ _ _ _ _ _ underlying36 rfl sz36 rfl rfl (zl rfl) rfl rfl),zr' rfl (op_call _ _ 47 _ _ rfl call47 rfl (ok_wherrykeep_Mail ((T_Mail.mk (T_Path.mk a.Mail.From.Null a.Mail.From.Local a.Mail.From.Domain) a.Mail.To a.Mail.Body a.Mail.Quiet a.Mail.Helo a.Mail.At)) ((T_Mail.mk (T_Path.mk b.Mail.From.Null b.Mail.From.Local b.Mail.From.Domain) b.Mail.To b.Mail.Body b.Mail.Quiet b.Mail.Helo b.Mail.At)) _ hv1) rfl rfl),z3 true rfl,z8 hg1_12 rfl,zr' rfl (oF underlying39 rfl sz3),zr' rfl (oL underlying3 rfl),zr' rfl (oF underlying39 rfl sz3),zr' rfl (oL underlying3 rfl),zr' rfl (oB rfl rfl),z3 true rfl,z8 hg1_19 rfl,zr' rfl (oF underlying39 rfl sz37),zr' rfl (oL underlying37 rfl),zr' rfl (oF underlying39 rfl sz37),zr' rfl (oL underlying37 rfl),zr' rfl (op_call _ _ 48 _ _ rfl call48 rfl (ok_wherrykeep_Ints a.Ids b.Ids _ hv2) rfl rfl),z3 true rfl,z8 hg1_26 rfl,zr' rfl (oF underlying39 rfl sz3),zr' rfl (oL underlying3 rfl),zr' rfl (oF underlying39 rfl sz3),zr' rfl (oL underlying3 rfl),zr' rfl (oB rfl rfl),z3 true rfl,z8 hg1_33 rfl,zr' rfl (oF underlying39 rfl sz3),zr' rfl (oL underlying3 rfl),zr' rfl (oF underlying39 rfl sz3),zr' rfl (oL underlying3 rfl),zr' rfl (oB rfl rfl),z3 true rfl,z8 hg1_40 rfl,zr' rfl (oF underlying39 rfl sz3),zr' rfl (oL underlying3 rfl),zr' rfl (oF underlying39 rfl sz3),zr' rfl (oL underlying3 rfl),zr' rfl (oB rfl rfl),z3 true rfl,z8 hg1_47 rfl,zr' rfl (oF underlying39 rfl sz25),zr' rfl (oL underlying25 rfl),zr' rfl (oF underlying39 rfl sz25),zr' rfl (oL underlying25 rfl),zr' rfl (op_call _ _ 49 _ _ rfl call49 rfl (ok_wherrykeep_Bytes a.Data b.Data _ hv3) rfl rfl),z3 true rfl,z2 rfl,zz⟩ ?_
          exact hl6 _ (zi h).symm
         ·refine zg hn (_::_::(5,.ptr 2 0)::(6,vi a.Kind)::(7,.ptr 3 0)::(8,vi b.Kind)::(9,vb (a.Kind == b.Kind))::(10,vb true)::(11,.ptr 2 1)::(12,.agg (T_Mail.c a.Mail []))::(13,.ptr 3 1)::(14,.agg (T_Mail.c b.Mail []))::(15,vb v1)::(16,vb v1)::(17,vb true)::(18,.ptr 2 9)::(19,vi a.Id)::(20,.ptr 3 9)::(21,vi b.Id)::(22,vb (a.Id == b.Id))::(23,vb (a.Id == b.Id))::(24,vb true)::(25,.ptr 2 10)::(26,fi a.Ids)::(27,.ptr 3 10)::(28,fi b.Ids)::(29,vb v2)::(30,vb v2)::(31,vb true)::(32,.ptr 2 11)::(33,vi a.Origin)::(34,.ptr 3 11)::(35,vi b.Origin)::(36,vb (a.Origin == b.Origin))::(37,vb (a.Origin == b.Origin))::(38,vb true)::(39,.ptr 2 12)::(40,vi a.Number)::(41,.ptr 3 12)::(42,vi b.Number)::(43,vb (a.Number == b.Number))::(44,vb (a.Number == b.Number))::(45,vb true)::(46,.ptr 2 13)::(47,vi a.Offset)::(48,.ptr 3 13)::(49,vi b.Offset)::(50,vb (a.Offset == b.Offset))::(51,vb (a.Offset == b.Offset))::(52,vb false)::(53,.v undef)::(54,.v undef)::(55,.v undef)::(56,.v undef)::(57,.v undef)::(58,vb false)::(4,vb false)::[]) [0,1] [56] (zq [0] 2 5::zq [2,0] 3 6::zq [1] 4 7::zq [4,1] 5 8::zq [3,5] 6 9::zq [6] 7 10::zq [7,0] 8 11::zq [7,8,0] 9 12::zq [7,1] 10 13::zq [7,10,1] 11 14::zq [7,9,11] 12 15::zq [7,12] 13 16::zq [13] 14 17::zq [14,0] 15 18::zq [14,15,0] 16 19::zq [14,1] 17 20::zq [14,17,1] 18 21::zq [14,16,18] 19 22::zq [14,19] 20 23::zq [20] 21 24::zq [21,0] 22 25::zq [21,22,0] 23 26::zq [21,1] 24 27::zq [21,24,1] 25 28::zq [21,23,25] 26 29::zq [21,26] 27 30::zq [27] 28 31::zq [28,0] 29 32::zq [28,29,0] 30 33::zq [28,1] 31 34::zq [28,31,1] 32 35::zq [28,30,32] 33 36::zq [28,33] 34 37::zq [34] 35 38::zq [35,0] 36 39::zq [35,36,0] 37 40::zq [35,1] 38 41::zq [35,38,1] 39 42::zq [35,37,39] 40 43::zq [35,40] 41 44::zq [41] 42 45::zq [42,0] 43 46::zq [42,43,0] 44 47::zq [42,1] 45 48::zq [42,45,1] 46 49::zq [42,44,46] 47 50::zq [42,47] 48 51::zq [48] 49 52::zq [49] 50 53::zq [49] 51 54::zq [49] 52 55::zq [49] 53 56::zq [49] 54 57::zq [49] 55 58::zq [55] 56 4::[]) [(_,_)] rfl ⟨zp rfl (oF underlying39 rfl sz3),zp rfl (oL underlying3 rfl),zp rfl (oF underlying39 rfl sz3),zp rfl (oL underlying3 rfl),z4 rfl rfl,z8 hg1_5 rfl,zr' rfl (oF underlying39 rfl sz36),zr' rfl (op_loadA _ _ _ _ _ _ _ underlying36 rfl sz36 rfl rfl (zl rfl) rfl rfl),zr' rfl (oF underlying39 rfl sz36),zr' rfl (op_loadA _ _ _ _ _ _ _ underlying36 rfl sz36 rfl rfl (zl rfl) rfl rfl),zr' rfl (op_call _ _ 47 _ _ rfl call47 rfl (ok_wherrykeep_Mail ((T_Mail.mk (T_Path.mk a.Mail.From.Null a.Mail.From.Local a.Mail.From.Domain) a.Mail.To a.Mail.Body a.Mail.Quiet a.Mail.Helo a.Mail.At)) ((T_Mail.mk (T_Path.mk b.Mail.From.Null b.Mail.From.Local b.Mail.From.Domain) b.Mail.To b.Mail.Body b.Mail.Quiet b.Mail.Helo b.Mail.At)) _ hv1) rfl rfl),z3 true rfl,z8 hg1_12 rfl,zr' rfl (oF underlying39 rfl sz3),zr' rfl (oL underlying3 rfl),zr' rfl (oF underlying39 rfl sz3),zr' rfl (oL underlying3 rfl),zr' rfl (oB rfl rfl),z3 true rfl,z8 hg1_19 rfl,zr' rfl (oF underlying39 rfl sz37),zr' rfl (oL underlying37 rfl),zr' rfl (oF underlying39 rfl sz37),zr' rfl (oL underlying37 rfl),zr' rfl (op_call _ _ 48 _ _ rfl call48 rfl (ok_wherrykeep_Ints a.Ids b.Ids _ hv2) rfl rfl),z3 true rfl,z8 hg1_26 rfl,zr' rfl (oF underlying39 rfl sz3),zr' rfl (oL underlying3 rfl),zr' rfl (oF underlying39 rfl sz3),zr' rfl (oL underlying3 rfl),zr' rfl (oB rfl rfl),z3 true rfl,z8 hg1_33 rfl,zr' rfl (oF underlying39 rfl sz3),zr' rfl (oL underlying3 rfl),zr' rfl (oF underlying39 rfl sz3),zr' rfl (oL underlying3 rfl),zr' rfl (oB rfl rfl),z3 true rfl,z8 hg1_40 rfl,zr' rfl (oF underlying39 rfl sz3),zr' rfl (oL underlying3 rfl),zr' rfl (oF underlying39 rfl sz3),zr' rfl (oL underlying3 rfl),zr' rfl (oB rfl rfl),z3 true rfl,z8 hg1_47 rfl,zt rfl,zt rfl,zt rfl,zt rfl,zt rfl,z3 false rfl,z2 rfl,zz⟩ ?_
          exact hl6 _ (zi h).symm
        ·refine zg hn (_::_::(5,.ptr 2 0)::(6,vi a.Kind)::(7,.ptr 3 0)::(8,vi b.Kind)::(9,vb (a.Kind == b.Kind))::(10,vb true)::(11,.ptr 2 1)::(12,.agg (T_Mail.c a.Mail []))::(13,.ptr 3 1)::(14,.agg (T_Mail.c b.Mail []))::(15,vb v1)::(16,vb v1)::(17,vb true)::(18,.ptr 2 9)::(19,vi a.Id)::(20,.ptr 3 9)::(21,vi b.Id)::(22,vb (a.Id == b.Id))::(23,vb (a.Id == b.Id))::(24,vb true)::(25,.ptr 2 10)::(26,fi a.Ids)::(27,.ptr 3 10)::(28,fi b.Ids)::(29,vb v2)::(30,vb v2)::(31,vb true)::(32,.ptr 2 11)::(33,vi a.Origin)::(34,.ptr 3 11)::(35,vi b.Origin)::(36,vb (a.Origin == b.Origin))::(37,vb (a.Origin == b.Origin))::(38,vb true)::(39,.ptr 2 12)::(40,vi a.Number)::(41,.ptr 3 12)::(42,vi b.Number)::(43,vb (a.Number == b.Number))::(44,vb (a.Number == b.Number))::(45,vb false)::(46,.v undef)::(47,.v undef)::(48,.v undef)::(49,.v undef)::(50,.v undef)::(51,vb false)::(52,vb false)::(53,.v undef)::(54,.v undef)::(55,.v undef)::(56,.v undef)::(57,.v undef)::(58,vb false)::(4,vb false)::[]) [0,1] [56] (zq [0] 2 5::zq [2,0] 3 6::zq [1] 4 7::zq [4,1] 5 8::zq [3,5] 6 9::zq [6] 7 10::zq [7,0] 8 11::zq [7,8,0] 9 12::zq [7,1] 10 13::zq [7,10,1] 11 14::zq [7,9,11] 12 15::zq [7,12] 13 16::zq [13] 14 17::zq [14,0] 15 18::zq [14,15,0] 16 19::zq [14,1] 17 20::zq [14,17,1] 18 21::zq [14,16,18] 19 22::zq [14,19] 20 23::zq [20] 21 24::zq [21,0] 22 25::zq [21,22,0] 23 26::zq [21,1] 24 27::zq [21,24,1] 25 28::zq [21,23,25] 26 29::zq [21,26] 27 30::zq [27] 28 31::zq [28,0] 29 32::zq [28,29,0] 30 33::zq [28,1] 31 34::zq [28,31,1] 32 35::zq [28,30,32] 33 36::zq [28,33] 34 37::zq [34] 35 38::zq [35,0] 36 39::zq [35,36,0] 37 40::zq [35,1] 38 41::zq [35,38,1] 39 42::zq [35,37,39] 40 43::zq [35,40] 41 44::zq [41] 42 45::zq [42] 43 46::zq [42] 44 47::zq [42] 45 48::zq [42] 46 49::zq [42] 47 50::zq [42] 48 51::zq [48] 49 52::zq [49] 50 53::zq [49] 51 54::zq [49] 52 55::zq [49] 53 56::zq [49] 54 57::zq [49] 55 58::zq [55] 56 4::[]) [(_,_)] rfl ⟨zp rfl (oF underlying39 rfl sz3),zp rfl (oL underlying3 rfl),zp rfl (oF underlying39 rfl sz3),zp rfl (oL underlying3 rfl),z4 rfl rfl,z8 hg1_5 rfl,zr' rfl (oF underlying39 rfl sz36),zr' rfl (op_loadA _ _ _ _ _ _ _ underlying36 rfl sz36 rfl rfl (zl rfl) rfl rfl),zr' rfl (oF underlying39 rfl sz36),zr' rfl (op_loadA _ _ _ _ _ _ _ underlying36 rfl sz36 rfl rfl (zl rfl) rfl rfl),zr' rfl (op_call _ _ 47 _ _ rfl call47 rfl (ok_wherrykeep_Mail ((T_Mail.mk (T_Path.mk a.Mail.From.Null a.Mail.From.Local a.Mail.From.Domain) a.Mail.To a.Mail.Body a.Mail.Quiet a.Mail.Helo a.Mail.At)) ((T_Mail.mk (T_Path.mk b.Mail.From.Null b.Mail.From.Local b.Mail.From.Domain) b.Mail.To b.Mail.Body b.Mail.Quiet b.Mail.Helo b.Mail.At)) _ hv1) rfl rfl),z3 true rfl,z8 hg1_12 rfl,zr' rfl (oF underlying39 rfl sz3),zr' rfl (oL underlying3 rfl),zr' rfl (oF underlying39 rfl sz3),zr' rfl (oL underlying3 rfl),zr' rfl (oB rfl rfl),z3 true rfl,z8 hg1_19 rfl,zr' rfl (oF underlying39 rfl sz37),zr' rfl (oL underlying37 rfl),zr' rfl (oF underlying39 rfl sz37),zr' rfl (oL underlying37 rfl),zr' rfl (op_call _ _ 48 _ _ rfl call48 rfl (ok_wherrykeep_Ints a.Ids b.Ids _ hv2) rfl rfl),z3 true rfl,z8 hg1_26 rfl,zr' rfl (oF underlying39 rfl sz3),zr' rfl (oL underlying3 rfl),zr' rfl (oF underlying39 rfl sz3),zr' rfl (oL underlying3 rfl),zr' rfl (oB rfl rfl),z3 true rfl,z8 hg1_33 rfl,zr' rfl (oF underlying39 rfl sz3),zr' rfl (oL underlying3 rfl),zr' rfl (oF underlying39 rfl sz3),zr' rfl (oL underlying3 rfl),zr' rfl (oB rfl rfl),z3 true rfl,z8 hg1_40 rfl,zt rfl,zt rfl,zt rfl,zt rfl,zt rfl,z3 false rfl,z1 rfl,zt rfl,zt rfl,zt rfl,zt rfl,zt rfl,z3 false rfl,z2 rfl,zz⟩ ?_
         exact hl6 _ (zi h).symm
       ·refine zg hn (_::_::(5,.ptr 2 0)::(6,vi a.Kind)::(7,.ptr 3 0)::(8,vi b.Kind)::(9,vb (a.Kind == b.Kind))::(10,vb true)::(11,.ptr 2 1)::(12,.agg (T_Mail.c a.Mail []))::(13,.ptr 3 1)::(14,.agg (T_Mail.c b.Mail []))::(15,vb v1)::(16,vb v1)::(17,vb true)::(18,.ptr 2 9)::(19,vi a.Id)::(20,.ptr 3 9)::(21,vi b.Id)::(22,vb (a.Id == b.Id))::(23,vb (a.Id == b.Id))::(24,vb true)::(25,.ptr 2 10)::(26,fi a.Ids)::(27,.ptr 3 10)::(28,fi b.Ids)::(29,vb v2)::(30,vb v2)::(31,vb true)::(32,.ptr 2 11)::(33,vi a.Origin)::(34,.ptr 3 11)::(35,vi b.Origin)::(36,vb (a.Origin == b.Origin))::(37,vb (a.Origin == b.Origin))::(38,vb false)::(39,.v undef)::(40,.v undef)::(41,.v undef)::(42,.v undef)::(43,.v undef)::(44,vb false)::(45,vb false)::(46,.v undef)::(47,.v undef)::(48,.v undef)::(49,.v undef)::(50,.v undef)::(51,vb false)::(52,vb false)::(53,.v undef)::(54,.v undef)::(55,.v undef)::(56,.v undef)::(57,.v undef)::(58,vb false)::(4,vb false)::[]) [0,1] [56] (zq [0] 2 5::zq [2,0] 3 6::zq [1] 4 7::zq [4,1] 5 8::zq [3,5] 6 9::zq [6] 7 10::zq [7,0] 8 11::zq [7,8,0] 9 12::zq [7,1] 10 13::zq [7,10,1] 11 14::zq [7,9,11] 12 15::zq [7,12] 13 16::zq [13] 14 17::zq [14,0] 15 18::zq [14,15,0] 16 19::zq [14,1] 17 20::zq [14,17,1] 18 21::zq [14,16,18] 19 22::zq [14,19] 20 23::zq [20] 21 24::zq [21,0] 22 25::zq [21,22,0] 23 26::zq [21,1] 24 27::zq [21,24,1] 25 28::zq [21,23,25] 26 29::zq [21,26] 27 30::zq [27] 28 31::zq [28,0] 29 32::zq [28,29,0] 30 33::zq [28,1] 31 34::zq [28,31,1] 32 35::zq [28,30,32] 33 36::zq [28,33] 34 37::zq [34] 35 38::zq [35] 36 39::zq [35] 37 40::zq [35] 38 41::zq [35] 39 42::zq [35] 40 43::zq [35] 41 44::zq [41] 42 45::zq [42] 43 46::zq [42] 44 47::zq [42] 45 48::zq [42] 46 49::zq [42] 47 50::zq [42] 48 51::zq [48] 49 52::zq [49] 50 53::zq [49] 51 54::zq [49] 52 55::zq [49] 53 56::zq [49] 54 57::zq [49] 55 58::zq [55] 56 4::[]) [(_,_)] rfl ⟨zp rfl (oF underlying39 rfl sz3),zp rfl (oL underlying3 rfl),zp rfl (oF underlying39 rfl sz3),zp rfl (oL underlying3 rfl),z4 rfl rfl,z8 hg1_5 rfl,zr' rfl (oF underlying39 rfl sz36),zr' rfl (op_loadA _ _ _ _ _ _ _ underlying36 rfl sz36 rfl rfl (zl rfl) rfl rfl),zr' rfl (oF underlying39 rfl sz36),zr' rfl (op_loadA _ _ _ _ _ _ _ underlying36 rfl sz36 rfl rfl (zl rfl) rfl rfl),zr' rfl (op_call _ _ 47 _ _ rfl call47 rfl (ok_wherrykeep_Mail ((T_Mail.mk (T_Path.mk a.Mail.From.Null a.Mail.From.Local a.Mail.From.Domain) a.Mail.To a.Mail.Body a.Mail.Quiet a.Mail.Helo a.Mail.At)) ((T_Mail.mk (T_Path.mk b.Mail.From.Null b.Mail.From.Local b.Mail.From.Domain) b.Mail.To b.Mail.Body b.Mail.Quiet b.Mail.Helo b.Mail.At)) _ hv1) rfl rfl),z3 true rfl,z8 hg1_12 rfl,zr' rfl (oF underlying39 rfl sz3),zr' rfl (oL underlying3 rfl),zr' rfl (oF underlying39 rfl sz3),zr' rfl (oL underlying3 rfl),zr' rfl (oB rfl rfl),z3 true rfl,z8 hg1_19 rfl,zr' rfl (oF underlying39 rfl sz37),zr' rfl (oL underlying37 rfl),zr' rfl (oF underlying39 rfl sz37),zr' rfl (oL underlying37 rfl),zr' rfl (op_call _ _ 48 _ _ rfl call48 rfl (ok_wherrykeep_Ints a.Ids b.Ids _ hv2) rfl rfl),z3 true rfl,z8 hg1_26 rfl,zr' rfl (oF underlying39 rfl sz3),zr' rfl (oL underlying3 rfl),zr' rfl (oF underlying39 rfl sz3),zr' rfl (oL underlying3 rfl),zr' rfl (oB rfl rfl),z3 true rfl,z8 hg1_33 rfl,zt rfl,zt rfl,zt rfl,zt rfl,zt rfl,z3 false rfl,z1 rfl,zt rfl,zt rfl,zt rfl,zt rfl,zt rfl,z3 false rfl,z1 rfl,zt rfl,zt rfl,zt rfl,zt rfl,zt rfl,z3 false rfl,z2 rfl,zz⟩ ?_
        exact hl6 _ (zi h).symm
      ·refine zg hn (_::_::(5,.ptr 2 0)::(6,vi a.Kind)::(7,.ptr 3 0)::(8,vi b.Kind)::(9,vb (a.Kind == b.Kind))::(10,vb true)::(11,.ptr 2 1)::(12,.agg (T_Mail.c a.Mail []))::(13,.ptr 3 1)::(14,.agg (T_Mail.c b.Mail []))::(15,vb v1)::(16,vb v1)::(17,vb true)::(18,.ptr 2 9)::(19,vi a.Id)::(20,.ptr 3 9)::(21,vi b.Id)::(22,vb (a.Id == b.Id))::(23,vb (a.Id == b.Id))::(24,vb true)::(25,.ptr 2 10)::(26,fi a.Ids)::(27,.ptr 3 10)::(28,fi b.Ids)::(29,vb v2)::(30,vb v2)::(31,vb false)::(32,.v undef)::(33,.v undef)::(34,.v undef)::(35,.v undef)::(36,.v undef)::(37,vb false)::(38,vb false)::(39,.v undef)::(40,.v undef)::(41,.v undef)::(42,.v undef)::(43,.v undef)::(44,vb false)::(45,vb false)::(46,.v undef)::(47,.v undef)::(48,.v undef)::(49,.v undef)::(50,.v undef)::(51,vb false)::(52,vb false)::(53,.v undef)::(54,.v undef)::(55,.v undef)::(56,.v undef)::(57,.v undef)::(58,vb false)::(4,vb false)::[]) [0,1] [56] (zq [0] 2 5::zq [2,0] 3 6::zq [1] 4 7::zq [4,1] 5 8::zq [3,5] 6 9::zq [6] 7 10::zq [7,0] 8 11::zq [7,8,0] 9 12::zq [7,1] 10 13::zq [7,10,1] 11 14::zq [7,9,11] 12 15::zq [7,12] 13 16::zq [13] 14 17::zq [14,0] 15 18::zq [14,15,0] 16 19::zq [14,1] 17 20::zq [14,17,1] 18 21::zq [14,16,18] 19 22::zq [14,19] 20 23::zq [20] 21 24::zq [21,0] 22 25::zq [21,22,0] 23 26::zq [21,1] 24 27::zq [21,24,1] 25 28::zq [21,23,25] 26 29::zq [21,26] 27 30::zq [27] 28 31::zq [28] 29 32::zq [28] 30 33::zq [28] 31 34::zq [28] 32 35::zq [28] 33 36::zq [28] 34 37::zq [34] 35 38::zq [35] 36 39::zq [35] 37 40::zq [35] 38 41::zq [35] 39 42::zq [35] 40 43::zq [35] 41 44::zq [41] 42 45::zq [42] 43 46::zq [42] 44 47::zq [42] 45 48::zq [42] 46 49::zq [42] 47 50::zq [42] 48 51::zq [48] 49 52::zq [49] 50 53::zq [49] 51 54::zq [49] 52 55::zq [49] 53 56::zq [49] 54 57::zq [49] 55 58::zq [55] 56 4::[]) [(_,_)] rfl ⟨zp rfl (oF underlying39 rfl sz3),zp rfl (oL underlying3 rfl),zp rfl (oF underlying39 rfl sz3),zp rfl (oL underlying3 rfl),z4 rfl rfl,z8 hg1_5 rfl,zr' rfl (oF underlying39 rfl sz36),zr' rfl (op_loadA _ _ _ _ _ _ _ underlying36 rfl sz36 rfl rfl (zl rfl) rfl rfl),zr' rfl (oF underlying39 rfl sz36),zr' rfl (op_loadA _ _ _ _ _ _ _ underlying36 rfl sz36 rfl rfl (zl rfl) rfl rfl),zr' rfl (op_call _ _ 47 _ _ rfl call47 rfl (ok_wherrykeep_Mail ((T_Mail.mk (T_Path.mk a.Mail.From.Null a.Mail.From.Local a.Mail.From.Domain) a.Mail.To a.Mail.Body a.Mail.Quiet a.Mail.Helo a.Mail.At)) ((T_Mail.mk (T_Path.mk b.Mail.From.Null b.Mail.From.Local b.Mail.From.Domain) b.Mail.To b.Mail.Body b.Mail.Quiet b.Mail.Helo b.Mail.At)) _ hv1) rfl rfl),z3 true rfl,z8 hg1_12 rfl,zr' rfl (oF underlying39 rfl sz3),zr' rfl (oL underlying3 rfl),zr' rfl (oF underlying39 rfl sz3),zr' rfl (oL underlying3 rfl),zr' rfl (oB rfl rfl),z3 true rfl,z8 hg1_19 rfl,zr' rfl (oF underlying39 rfl sz37),zr' rfl (oL underlying37 rfl),zr' rfl (oF underlying39 rfl sz37),zr' rfl (oL underlying37 rfl),zr' rfl (op_call _ _ 48 _ _ rfl call48 rfl (ok_wherrykeep_Ints a.Ids b.Ids _ hv2) rfl rfl),z3 true rfl,z8 hg1_26 rfl,zt rfl,zt rfl,zt rfl,zt rfl,zt rfl,z3 false rfl,z1 rfl,zt rfl,zt rfl,zt rfl,zt rfl,zt rfl,z3 false rfl,z1 rfl,zt rfl,zt rfl,zt rfl,zt rfl,zt rfl,z3 false rfl,z1 rfl,zt rfl,zt rfl,zt rfl,zt rfl,zt rfl,z3 false rfl,z2 rfl,zz⟩ ?_
       exact hl6 _ (zi h).symm
     ·refine zg hn (_::_::(5,.ptr 2 0)::(6,vi a.Kind)::(7,.ptr 3 0)::(8,vi b.Kind)::(9,vb (a.Kind == b.Kind))::(10,vb true)::(11,.ptr 2 1)::(12,.agg (T_Mail.c a.Mail []))::(13,.ptr 3 1)::(14,.agg (T_Mail.c b.Mail []))::(15,vb v1)::(16,vb v1)::(17,vb true)::(18,.ptr 2 9)::(19,vi a.Id)::(20,.ptr 3 9)::(21,vi b.Id)::(22,vb (a.Id == b.Id))::(23,vb (a.Id == b.Id))::(24,vb false)::(25,.v undef)::(26,.v undef)::(27,.v undef)::(28,.v undef)::(29,.v undef)::(30,vb false)::(31,vb false)::(32,.v undef)::(33,.v undef)::(34,.v undef)::(35,.v undef)::(36,.v undef)::(37,vb false)::(38,vb false)::(39,.v undef)::(40,.v undef)::(41,.v undef)::(42,.v undef)::(43,.v undef)::(44,vb false)::(45,vb false)::(46,.v undef)::(47,.v undef)::(48,.v undef)::(49,.v undef)::(50,.v undef)::(51,vb false)::(52,vb false)::(53,.v undef)::(54,.v undef)::(55,.v undef)::(56,.v undef)::(57,.v undef)::(58,vb false)::(4,vb false)::[]) [0,1] [56] (zq [0] 2 5::zq [2,0] 3 6::zq [1] 4 7::zq [4,1] 5 8::zq [3,5] 6 9::zq [6] 7 10::zq [7,0] 8 11::zq [7,8,0] 9 12::zq [7,1] 10 13::zq [7,10,1] 11 14::zq [7,9,11] 12 15::zq [7,12] 13 16::zq [13] 14 17::zq [14,0] 15 18::zq [14,15,0] 16 19::zq [14,1] 17 20::zq [14,17,1] 18 21::zq [14,16,18] 19 22::zq [14,19] 20 23::zq [20] 21 24::zq [21] 22 25::zq [21] 23 26::zq [21] 24 27::zq [21] 25 28::zq [21] 26 29::zq [21] 27 30::zq [27] 28 31::zq [28] 29 32::zq [28] 30 33::zq [28] 31 34::zq [28] 32 35::zq [28] 33 36::zq [28] 34 37::zq [34] 35 38::zq [35] 36 39::zq [35] 37 40::zq [35] 38 41::zq [35] 39 42::zq [35] 40 43::zq [35] 41 44::zq [41] 42 45::zq [42] 43 46::zq [42] 44 47::zq [42] 45 48::zq [42] 46 49::zq [42] 47 50::zq [42] 48 51::zq [48] 49 52::zq [49] 50 53::zq [49] 51 54::zq [49] 52 55::zq [49] 53 56::zq [49] 54 57::zq [49] 55 58::zq [55] 56 4::[]) [(_,_)] rfl ⟨zp rfl (oF underlying39 rfl sz3),zp rfl (oL underlying3 rfl),zp rfl (oF underlying39 rfl sz3),zp rfl (oL underlying3 rfl),z4 rfl rfl,z8 hg1_5 rfl,zr' rfl (oF underlying39 rfl sz36),zr' rfl (op_loadA _ _ _ _ _ _ _ underlying36 rfl sz36 rfl rfl (zl rfl) rfl rfl),zr' rfl (oF underlying39 rfl sz36),zr' rfl (op_loadA _ _ _ _ _ _ _ underlying36 rfl sz36 rfl rfl (zl rfl) rfl rfl),zr' rfl (op_call _ _ 47 _ _ rfl call47 rfl (ok_wherrykeep_Mail ((T_Mail.mk (T_Path.mk a.Mail.From.Null a.Mail.From.Local a.Mail.From.Domain) a.Mail.To a.Mail.Body a.Mail.Quiet a.Mail.Helo a.Mail.At)) ((T_Mail.mk (T_Path.mk b.Mail.From.Null b.Mail.From.Local b.Mail.From.Domain) b.Mail.To b.Mail.Body b.Mail.Quiet b.Mail.Helo b.Mail.At)) _ hv1) rfl rfl),z3 true rfl,z8 hg1_12 rfl,zr' rfl (oF underlying39 rfl sz3),zr' rfl (oL underlying3 rfl),zr' rfl (oF underlying39 rfl sz3),zr' rfl (oL underlying3 rfl),zr' rfl (oB rfl rfl),z3 true rfl,z8 hg1_19 rfl,zt rfl,zt rfl,zt rfl,zt rfl,zt rfl,z3 false rfl,z1 rfl,zt rfl,zt rfl,zt rfl,zt rfl,zt rfl,z3 false rfl,z1 rfl,zt rfl,zt rfl,zt rfl,zt rfl,zt rfl,z3 false rfl,z1 rfl,zt rfl,zt rfl,zt rfl,zt rfl,zt rfl,z3 false rfl,z1 rfl,zt rfl,zt rfl,zt rfl,zt rfl,zt rfl,z3 false rfl,z2 rfl,zz⟩ ?_
      exact hl6 _ (zi h).symm
    ·refine zg hn (_::_::(5,.ptr 2 0)::(6,vi a.Kind)::(7,.ptr 3 0)::(8,vi b.Kind)::(9,vb (a.Kind == b.Kind))::(10,vb true)::(11,.ptr 2 1)::(12,.agg (T_Mail.c a.Mail []))::(13,.ptr 3 1)::(14,.agg (T_Mail.c b.Mail []))::(15,vb v1)::(16,vb v1)::(17,vb false)::(18,.v undef)::(19,.v undef)::(20,.v undef)::(21,.v undef)::(22,.v undef)::(23,vb false)::(24,vb false)::(25,.v undef)::(26,.v undef)::(27,.v undef)::(28,.v undef)::(29,.v undef)::(30,vb false)::(31,vb false)::(32,.v undef)::(33,.v undef)::(34,.v undef)::(35,.v undef)::(36,.v undef)::(37,vb false)::(38,vb false)::(39,.v undef)::(40,.v undef)::(41,.v undef)::(42,.v undef)::(43,.v undef)::(44,vb false)::(45,vb false)::(46,.v undef)::(47,.v undef)::(48,.v undef)::(49,.v undef)::(50,.v undef)::(51,vb false)::(52,vb false)::(53,.v undef)::(54,.v undef)::(55,.v undef)::(56,.v undef)::(57,.v undef)::(58,vb false)::(4,vb false)::[]) [0,1] [56] (zq [0] 2 5::zq [2,0] 3 6::zq [1] 4 7::zq [4,1] 5 8::zq [3,5] 6 9::zq [6] 7 10::zq [7,0] 8 11::zq [7,8,0] 9 12::zq [7,1] 10 13::zq [7,10,1] 11 14::zq [7,9,11] 12 15::zq [7,12] 13 16::zq [13] 14 17::zq [14] 15 18::zq [14] 16 19::zq [14] 17 20::zq [14] 18 21::zq [14] 19 22::zq [14] 20 23::zq [20] 21 24::zq [21] 22 25::zq [21] 23 26::zq [21] 24 27::zq [21] 25 28::zq [21] 26 29::zq [21] 27 30::zq [27] 28 31::zq [28] 29 32::zq [28] 30 33::zq [28] 31 34::zq [28] 32 35::zq [28] 33 36::zq [28] 34 37::zq [34] 35 38::zq [35] 36 39::zq [35] 37 40::zq [35] 38 41::zq [35] 39 42::zq [35] 40 43::zq [35] 41 44::zq [41] 42 45::zq [42] 43 46::zq [42] 44 47::zq [42] 45 48::zq [42] 46 49::zq [42] 47 50::zq [42] 48 51::zq [48] 49 52::zq [49] 50 53::zq [49] 51 54::zq [49] 52 55::zq [49] 53 56::zq [49] 54 57::zq [49] 55 58::zq [55] 56 4::[]) [(_,_)] rfl ⟨zp rfl (oF underlying39 rfl sz3),zp rfl (oL underlying3 rfl),zp rfl (oF underlying39 rfl sz3),zp rfl (oL underlying3 rfl),z4 rfl rfl,z8 hg1_5 rfl,zr' rfl (oF underlying39 rfl sz36),zr' rfl (op_loadA _ _ _ _ _ _ _ underlying36 rfl sz36 rfl rfl (zl rfl) rfl rfl),zr' rfl (oF underlying39 rfl sz36),zr' rfl (op_loadA _ _ _ _ _ _ _ underlying36 rfl sz36 rfl rfl (zl rfl) rfl rfl),zr' rfl (op_call _ _ 47 _ _ rfl call47 rfl (ok_wherrykeep_Mail ((T_Mail.mk (T_Path.mk a.Mail.From.Null a.Mail.From.Local a.Mail.From.Domain) a.Mail.To a.Mail.Body a.Mail.Quiet a.Mail.Helo a.Mail.At)) ((T_Mail.mk (T_Path.mk b.Mail.From.Null b.Mail.From.Local b.Mail.From.Domain) b.Mail.To b.Mail.Body b.Mail.Quiet b.Mail.Helo b.Mail.At)) _ hv1) rfl rfl),z3 true rfl,z8 hg1_12 rfl,zt rfl,zt rfl,zt rfl,zt rfl,zt rfl,z3 false rfl,z1 rfl,zt rfl,zt rfl,zt rfl,zt rfl,zt rfl,z3 false rfl,z1 rfl,zt rfl,zt rfl,zt rfl,zt rfl,zt rfl,z3 false rfl,z1 rfl,zt rfl,zt rfl,zt rfl,zt rfl,zt rfl,z3 false rfl,z1 rfl,zt rfl,zt rfl,zt rfl,zt rfl,zt rfl,z3 false rfl,z1 rfl,zt rfl,zt rfl,zt rfl,zt rfl,zt rfl,z3 false rfl,z2 rfl,zz⟩ ?_
     exact hl6 _ (zi h).symm
   ·refine zg hn (_::_::(5,.ptr 2 0)::(6,vi a.Kind)::(7,.ptr 3 0)::(8,vi b.Kind)::(9,vb (a.Kind == b.Kind))::(10,vb false)::(11,.v undef)::(12,.v undef)::(13,.v undef)::(14,.v undef)::(15,.v undef)::(16,vb false)::(17,vb false)::(18,.v undef)::(19,.v undef)::(20,.v undef)::(21,.v undef)::(22,.v undef)::(23,vb false)::(24,vb false)::(25,.v undef)::(26,.v undef)::(27,.v undef)::(28,.v undef)::(29,.v undef)::(30,vb false)::(31,vb false)::(32,.v undef)::(33,.v undef)::(34,.v undef)::(35,.v undef)::(36,.v undef)::(37,vb false)::(38,vb false)::(39,.v undef)::(40,.v undef)::(41,.v undef)::(42,.v undef)::(43,.v undef)::(44,vb false)::(45,vb false)::(46,.v undef)::(47,.v undef)::(48,.v undef)::(49,.v undef)::(50,.v undef)::(51,vb false)::(52,vb false)::(53,.v undef)::(54,.v undef)::(55,.v undef)::(56,.v undef)::(57,.v undef)::(58,vb false)::(4,vb false)::[]) [0,1] [56] (zq [0] 2 5::zq [2,0] 3 6::zq [1] 4 7::zq [4,1] 5 8::zq [3,5] 6 9::zq [6] 7 10::zq [7] 8 11::zq [7] 9 12::zq [7] 10 13::zq [7] 11 14::zq [7] 12 15::zq [7] 13 16::zq [13] 14 17::zq [14] 15 18::zq [14] 16 19::zq [14] 17 20::zq [14] 18 21::zq [14] 19 22::zq [14] 20 23::zq [20] 21 24::zq [21] 22 25::zq [21] 23 26::zq [21] 24 27::zq [21] 25 28::zq [21] 26 29::zq [21] 27 30::zq [27] 28 31::zq [28] 29 32::zq [28] 30 33::zq [28] 31 34::zq [28] 32 35::zq [28] 33 36::zq [28] 34 37::zq [34] 35 38::zq [35] 36 39::zq [35] 37 40::zq [35] 38 41::zq [35] 39 42::zq [35] 40 43::zq [35] 41 44::zq [41] 42 45::zq [42] 43 46::zq [42] 44 47::zq [42] 45 48::zq [42] 46 49::zq [42] 47 50::zq [42] 48 51::zq [48] 49 52::zq [49] 50 53::zq [49] 51 54::zq [49] 52 55::zq [49] 53 56::zq [49] 54 57::zq [49] 55 58::zq [55] 56 4::[]) [(_,_)] rfl ⟨zp rfl (oF underlying39 rfl sz3),zp rfl (oL underlying3 rfl),zp rfl (oF underlying39 rfl sz3),zp rfl (oL underlying3 rfl),z4 rfl rfl,z8 hg1_5 rfl,zt rfl,zt rfl,zt rfl,zt rfl,zt rfl,z3 false rfl,z1 rfl,zt rfl,zt rfl,zt rfl,zt rfl,zt rfl,z3 false rfl,z1 rfl,zt rfl,zt rfl,zt rfl,zt rfl,zt rfl,z3 false rfl,z1 rfl,zt rfl,zt rfl,zt rfl,zt rfl,zt rfl,z3 false rfl,z1 rfl,zt rfl,zt rfl,zt rfl,zt rfl,zt rfl,z3 false rfl,z1 rfl,zt rfl,zt rfl,zt rfl,zt rfl,zt rfl,z3 false rfl,z1 rfl,zt rfl,zt rfl,zt rfl,zt rfl,zt rfl,z3 false rfl,z2 rfl,zz⟩ ?_
    exact hl6 _ (zi h).symm
end Go.Proofs.YtofbofdggabfiaaDoor
