/-
  The model's runs are what is told in Lean.
-/
import Derived.Test.YtofbofdggabfiaaDoorProg
import Derived.KernelRfl
import Derived.Test.YtofbofdggabfiaaDoorShelf
import Derived.Test.YtofbofdggabfiaaDoorB3
import Derived.Test.YtofbofdggabfiaaDoorSh
set_option linter.unusedVariables false
set_option linter.unusedSimpArgs false
set_option maxHeartbeats 1000000
namespace Go.Proofs.YtofbofdggabfiaaDoor
open Go.Abs Go.Abs.Sh Tryd
open List (map flatten)
open Value (int)
def GL (mx : Int) : List (Nat × List Value) := [(0, [.int .i64 mx]), (1, (List.map (Value.int .u8) utf8_first)), (2, (List.map (Value.int .u8) utf8_accept))]
theorem gl_mem0 (mx : Int) : (0, ([.int .i64 mx] : List Value)) ∈ GL mx := .head _
theorem gl_mem1 (mx : Int) : (1, ((List.map (Value.int .u8) utf8_first) : List Value)) ∈ GL mx := .tail _ (.head _)
theorem sz53 : (Tryd.prog.info? 53).map (·.size) = some 7 := by kernel_rfl
theorem sz51 : (Tryd.prog.info? 51).map (·.size) = some 2 := by kernel_rfl
theorem sz9 : (Tryd.prog.info? 9).map (·.size) = some 1 := by kernel_rfl
theorem sz36 : (Tryd.prog.info? 36).map (·.size) = some 8 := by kernel_rfl
theorem zr36 : (Tryd.prog.info? 36).bind (·.zero) = some (.agg #[.bool false, .string ByteArray.empty, .string ByteArray.empty, .slice none 0 0, .slice none 0 0, .bool false, .string ByteArray.empty, .int .i64 0]) := by kernel_rfl
theorem sz25 : (Tryd.prog.info? 25).map (·.size) = some 1 := by kernel_rfl
theorem sz24 : (Tryd.prog.info? 24).map (·.size) = some 3 := by kernel_rfl
theorem sz34 : (Tryd.prog.info? 34).map (·.size) = some 1 := by kernel_rfl
theorem sz5 : (Tryd.prog.info? 5).map (·.size) = some 1 := by kernel_rfl
theorem zr5 : (Tryd.prog.info? 5).bind (·.zero) = some (.int .u8 0) := by kernel_rfl
theorem el25 : ElemT Tryd.prog 25 5 1 1 := ⟨⟨Tryd.t5, .int .u8 0, Tryd.underlying25, by kernel_rfl, by kernel_rfl, by kernel_rfl, by kernel_rfl, by decide, by kernel_rfl⟩⟩
theorem sz3 : (Tryd.prog.info? 3).map (·.size) = some 1 := by kernel_rfl
theorem zr24 : (Tryd.prog.info? 24).bind (·.zero) = some (.agg #[.bool false, .string ByteArray.empty, .string ByteArray.empty]) := by kernel_rfl
theorem fs24 : ∀ fs, Tryd.prog.underlying 24 = some (.struct fs) → fs.toList.map (fun f => (Tryd.prog.info? f.type).map (·.size)) = ([1, 1, 1] : List Nat).map some := by
  intro fs h
  rw [Tryd.underlying24] at h
  cases h
  kernel_rfl
theorem sz4 : (Tryd.prog.info? 4).map (·.size) = some 1 := by kernel_rfl
theorem zr4 : (Tryd.prog.info? 4).bind (·.zero) = some (.bool false) := by kernel_rfl
theorem el34 : ElemT Tryd.prog 34 24 3 40 := ⟨⟨Tryd.t24, .agg #[.bool false, .string ByteArray.empty, .string ByteArray.empty], Tryd.underlying34, by kernel_rfl, by kernel_rfl, by kernel_rfl, by kernel_rfl, by decide, by kernel_rfl⟩⟩
theorem fs64 : ∀ fs, Tryd.prog.underlying 64 = some (.struct fs) → fs.toList.map (fun f => (Tryd.prog.info? f.type).map (·.size)) = ([1, 1, 3, 3, 1] : List Nat).map some := by
  intro fs h
  rw [Tryd.underlying64] at h
  cases h
  kernel_rfl
theorem zr64 : (Tryd.prog.info? 64).bind (·.zero) = some (.agg #[.int .i64 0, .int .i64 0, .bool false, .string ByteArray.empty, .string ByteArray.empty, .bool false, .string ByteArray.empty, .string ByteArray.empty, .slice none 0 0]) := by kernel_rfl
theorem sz64 : (Tryd.prog.info? 64).map (·.size) = some 9 := by kernel_rfl
theorem zr99 : (Tryd.prog.info? 99).bind (·.zero) = some (.slice none 0 0) := by kernel_rfl
theorem zr25 : (Tryd.prog.info? 25).bind (·.zero) = some (.slice none 0 0) := by kernel_rfl
theorem el99 : ElemT Tryd.prog 99 25 1 24 := ⟨⟨Tryd.t25, .slice none 0 0, Tryd.underlying99, by kernel_rfl, by kernel_rfl, by kernel_rfl, by kernel_rfl, by decide, by kernel_rfl⟩⟩
theorem sz99 : (Tryd.prog.info? 99).map (·.size) = some 1 := by kernel_rfl
theorem zr9 : (Tryd.prog.info? 9).bind (·.zero) = some (.string ByteArray.empty) := by kernel_rfl
theorem fs73 : ∀ fs, Tryd.prog.underlying 73 = some (.struct fs) → fs.toList.map (fun f => (Tryd.prog.info? f.type).map (·.size)) = ([1, 1, 3, 3, 1] : List Nat).map some := by
  intro fs h
  rw [Tryd.underlying73] at h
  cases h
  kernel_rfl
theorem zr73 : (Tryd.prog.info? 73).bind (·.zero) = some (.agg #[.int .i64 0, .int .i64 0, .bool false, .string ByteArray.empty, .string ByteArray.empty, .bool false, .string ByteArray.empty, .string ByteArray.empty, .string ByteArray.empty]) := by kernel_rfl
theorem fs71 : ∀ fs, Tryd.prog.underlying 71 = some (.struct fs) → fs.toList.map (fun f => (Tryd.prog.info? f.type).map (·.size)) = ([] : List Nat).map some := by
  intro fs h
  rw [Tryd.underlying71] at h
  cases h
  kernel_rfl
theorem zr71 : (Tryd.prog.info? 71).bind (·.zero) = some (.agg #[]) := by kernel_rfl
theorem sf70 : SetF Tryd.prog 70 73 71 [.i .i64, .i .i64, .b, .s, .s, .b, .s, .s, .s] T_tally_event.enc := setF_of (m := 5) Tryd.underlying70 Tryd.underlying73 (by kernel_rfl) (by kernel_rfl) (by kernel_rfl) (by kernel_rfl) (by kernel_rfl) (by kernel_rfl) (by kernel_rfl) (fun a b h => by obtain ⟨x1, x2, ⟨x3, x4, x5⟩, ⟨x6, x7, x8⟩, x9⟩ := a; obtain ⟨y10, y11, ⟨y12, y13, y14⟩, ⟨y15, y16, y17⟩, y18⟩ := b; simp only [T_tally_event.enc, List.cons.injEq, Value.int.injEq, Value.bool.injEq, Value.string.injEq, true_and, and_true] at h; simp only [h])
theorem fs43 : ∀ fs, Tryd.prog.underlying 43 = some (.struct fs) → fs.toList.map (fun f => (Tryd.prog.info? f.type).map (·.size)) = ([1, 1, 1, 1, 1, 1] : List Nat).map some := by
  intro fs h
  rw [Tryd.underlying43] at h
  cases h
  kernel_rfl
theorem zr43 : (Tryd.prog.info? 43).bind (·.zero) = some (.agg #[.slice none 0 0, .int .i64 0, .slice none 0 0, .slice none 0 0, .int .i64 0, .slice none 0 0]) := by kernel_rfl
theorem sz41 : (Tryd.prog.info? 41).map (·.size) = some 1 := by kernel_rfl
theorem sz75 : (Tryd.prog.info? 75).map (·.size) = some 11 := by kernel_rfl
theorem zr75 : (Tryd.prog.info? 75).bind (·.zero) = some (.agg #[.int .i64 0, .bool false, .string ByteArray.empty, .string ByteArray.empty, .slice none 0 0, .slice none 0 0, .bool false, .string ByteArray.empty, .int .i64 0, .int .i64 0, .int .i64 0]) := by kernel_rfl
theorem fs75 : ∀ fs, Tryd.prog.underlying 75 = some (.struct fs) → fs.toList.map (fun f => (Tryd.prog.info? f.type).map (·.size)) = ([1, 8, 1, 1] : List Nat).map some := by
  intro fs h
  rw [Tryd.underlying75] at h
  cases h
  kernel_rfl
theorem ok_wherrylaw23_HeavyConfig (c : T_Config) (r : Bool) (h : Sh.wherrylaw23_HeavyConfig c = some r) : FnOK Tryd.prog 18 [.agg [.v (.string ((c.Domains.getD 0 (⟨#[]⟩ : ByteArray)))), .v (.string ((c.Domains.getD 1 (⟨#[]⟩ : ByteArray)))), .v (.int .i64 c.Expiry), .v (.string c.User), .v (.string c.Secret), .v (.int .i64 c.Log), .v (.bool c.Held)]] (.v (.bool r)) := by
  unfold Sh.wherrylaw23_HeavyConfig at h
  refine fn_ok func18 rfl (zl rfl) rfl rfl fun g0 hn hio => ?_
  refine zgg hn [_,(1,.box 53 [vs (c.Domains.getD 0 z0),vs (c.Domains.getD 1 z0),vi c.Expiry,vs c.User,vs c.Secret,vi c.Log,vb c.Held]),(2,vb false)] [0] [1] [zq [0] 1 1,zq [] 2 2] [(_,_)] rfl ⟨zp rfl (op_box _ _ _ _ rfl rfl rfl),z2 rfl,zz⟩ ?_
  refine ht_seq ?_
  obtain ⟨v1, hv1, h⟩ := zn h
  obtain ⟨v2, hv2, h⟩ := zn h
  obtain ⟨v3, hv3, h⟩ := zn h
  refine zg hn (_::(3,.ptr 1 0)::(4,.ptr 1 0)::(5,vs (c.Domains.getD 0 z0))::(6,vi (((c.Domains.getD 0 z0)).size : Int))::(7,.ptr 1 0)::(8,.ptr 1 1)::(9,vs (c.Domains.getD 1 z0))::(10,vi (((c.Domains.getD 1 z0)).size : Int))::(11,vi v1)::(12,.ptr 1 3)::(13,vs c.User)::(14,vi (c.User.size : Int))::(15,vi v2)::(16,.ptr 1 4)::(17,vs c.Secret)::(18,vi (c.Secret.size : Int))::(19,vi v3)::(20,vb (decide (2000 < v3)))::(2,vb (decide (2000 < v3)))::[]) [0] [19] (zq [0] 1 3::zq [1,0] 2 4::zq [2,0] 3 5::zq [3] 4 6::zq [0] 5 7::zq [5,0] 6 8::zq [6,0] 7 9::zq [7] 8 10::zq [4,8] 9 11::zq [0] 10 12::zq [10,0] 11 13::zq [11] 12 14::zq [9,12] 13 15::zq [0] 14 16::zq [14,0] 15 17::zq [15] 16 18::zq [13,16] 17 19::zq [17] 18 20::zq [18] 19 2::[]) [(_,_)] rfl ⟨zp rfl (oF underlying53 rfl sz51),zp rfl (op_indexAddr_a _ _ _ _ 2 1 0 0 1 underlying51 sz9 rfl rfl (by decide) (by decide)),zp rfl (oL underlying9 rfl),zp rfl (oN underlying9 rfl),zp rfl (oF underlying53 rfl sz51),zp rfl (op_indexAddr_a _ _ _ _ 2 1 0 1 1 underlying51 sz9 rfl rfl (by decide) (by decide)),zp rfl (oL underlying9 rfl),zp rfl (oN underlying9 rfl),zp rfl (oB rfl (ibind (f := int .i64) (Option.some.inj hv1))),zp rfl (oF underlying53 rfl sz9),zp rfl (oL underlying9 rfl),zp rfl (oN underlying9 rfl),zp rfl (oB rfl (ibind (f := int .i64) (Option.some.inj hv2))),zp rfl (oF underlying53 rfl sz9),zp rfl (oL underlying9 rfl),zp rfl (oN underlying9 rfl),zp rfl (oB rfl (ibind (f := int .i64) (Option.some.inj hv3))),z4 rfl rfl,z2 rfl,zz⟩ ?_
  refine pt_then (ht_ret ?_)
  obtain rfl := zi h
  exact pt_ret hio rfl (.tmp _ _ .nil) rfl rfl
theorem ok_wherrylaw17_Heavy (l : (List T_Mail)) (r : Bool) (h : Sh.wherrylaw17_Heavy l = some r) : FnOK Tryd.prog 19 [.fr .shr true 8 (flatten (map T_Mail.ienc l))] (.v (.bool r)) := by
  unfold Sh.wherrylaw17_Heavy at h
  refine fn_ok func19 rfl (zl rfl) rfl rfl fun g0 hn hio => ?_
  refine zgg hn [_,(2,vb false)] [0] [0] [zq [] 1 2] [(_,_)] rfl ⟨z2 rfl,zz⟩ ?_
  refine ht_seq ?_
  refine zgg hn [_,(6,.fr .shr true 8 (flatten (map T_Mail.ienc l))),(7,vi (l.length : Int)),(8,vb (decide (20 < (l.length : Int))))] [0] [0,3] [zq [0] 1 6,zq [1] 2 7,zq [2] 3 8] [(_,_),(_,_)] rfl ⟨z1 rfl,zp rfl (op_len_fr _ _ _ underlying56 rfl (by decide) (gflat_len T_Mail.ilen _)),z4 rfl rfl,zz⟩ ?_
  refine ht_cond _ rfl (fun hb1 => ?_) (fun hb1 => ?_)
  ·have h := cond_t hb1 h
   refine zgg hn [_,_,(2,vb true)] [0,1] [2] [zq [] 2 2] [(_,_)] rfl ⟨z2 rfl,zz⟩ ?_
   refine ht_ret ?_
   refine pt_r_then ?_
   obtain rfl := zi h
   exact pt_ret hio rfl (.tmp _ _ .nil) rfl rfl
  ·have h := cond_f hb1 h
   refine ht_skip ?_
   refine pt_then ?_
   refine zgg hn [_,_,(3,vi 0)] [0,1] [0,2] [zq [] 2 3] [(_,_),(_,_)] rfl ⟨z2 rfl,zz⟩ ?_
   refine ht_seq ?_
   refine zgg hn [_,_,(4,vi 0)] [0,1] [0,1,2] [zq [] 2 4] [(_,_),(_,_),(_,_)] rfl ⟨z2 rfl,zz⟩ ?_
   refine ht_loopS h (fun ((s66,s67) : Int × Int) => [(0,.fr .shr true 8 (flatten (map T_Mail.ienc l))),(3,vi s66),(4,vi s67)]) (fun (s85 : Int) => [(3,vi s85)]) ?_ ?_
   ·rintro s85 h
    refine pt_then ?_
    refine zgg hn [_,(86,vi s85),(87,vb (decide (20000 < s85))),(2,vb (decide (20000 < s85)))] [0] [3] [zq [0] 1 86,zq [1] 2 87,zq [2] 3 2] [(_,_)] rfl ⟨z1 rfl,z4 rfl rfl,z2 rfl,zz⟩ ?_
    refine ht_ret ?_
    obtain rfl := zi h
    exact pt_ret hio rfl (.tmp _ _ .nil) rfl rfl
   ·rintro u86 hl87 hr88 ⟨s66, s67⟩ rr91 h ho89
    refine ht_seq ?_
    refine zgg hn [_,_,_,(9,vi s67),(10,.fr .shr true 8 (flatten (map T_Mail.ienc l))),(11,vi (l.length : Int)),(12,vb (decide (s67 < (l.length : Int))))] [0,1,2] [0,1,2,6] [zq [2] 3 9,zq [0] 4 10,zq [4] 5 11,zq [3,5] 6 12] [(_,_),(_,_),(_,_),(_,_)] rfl ⟨z1 rfl,z1 rfl,zp rfl (op_len_fr _ _ _ underlying56 rfl (by decide) (gflat_len T_Mail.ilen _)),z4 rfl rfl,zz⟩ ?_
    refine ht_cond _ rfl (fun hb92 => ?_) (fun hb92 => ?_)
    ·have h := cond_t hb92 h
     refine ht_skip ?_
     refine pt_then (ht_seq ?_)
     refine ht_block ?_
     refine ht_seq ?_
     obtain ⟨v3, hv3, h⟩ := zn h
     obtain ⟨v4, hv4, h⟩ := zn h
     obtain ⟨v5, hv5, h⟩ := zn h
     obtain ⟨v6, hv6, h⟩ := zn h
     obtain ⟨v7, hv7, h⟩ := zn h
     obtain ⟨v8, hv8, h⟩ := zn h
     obtain ⟨v9, hv9, h⟩ := zn h
     obtain ⟨v10, hv10, h⟩ := zn h
     obtain ⟨v11, hv11, h⟩ := zn h
     obtain ⟨v12, hv12, h⟩ := zn h
     obtain ⟨v13, hv13, h⟩ := zn h
     obtain ⟨v14, hv14, h⟩ := zn h
     refine ht_anyR (by kernel_rfl) hn (El := (_ :: _ :: _ :: _ :: (15,vi s66) :: (16,.fr .shr true 8 (flatten (map T_Mail.ienc l))) :: (17,vi s67) :: (18,.eref (.slot 16) (v3 * 8)) :: (19,.eref (.slot 16) (v3 * 8 + 4)) :: (20,fb v4.Body) :: (21,vi (v4.Body.length : Int)) :: (22,vi v5) :: (23,.fr .shr true 8 (flatten (map T_Mail.ienc l))) :: (24,vi s67) :: (25,.eref (.slot 23) (v6 * 8)) :: (26,.eref (.slot 23) (v6 * 8 + 6)) :: (27,vs v7.Helo) :: (28,vi (v7.Helo.size : Int)) :: (29,vi v8) :: (30,.fr .shr true 8 (flatten (map T_Mail.ienc l))) :: (31,vi s67) :: (32,.eref (.slot 30) (v9 * 8)) :: (33,.eref (.slot 30) (v9 * 8 + 0)) :: (34,.eref (.slot 30) (v9 * 8 + 1)) :: (35,vs v10.From.Local) :: (36,vi (v10.From.Local.size : Int)) :: (37,vi v11) :: (38,.fr .shr true 8 (flatten (map T_Mail.ienc l))) :: (39,vi s67) :: (40,.eref (.slot 38) (v12 * 8)) :: (41,.eref (.slot 38) (v12 * 8 + 0)) :: (42,.eref (.slot 38) (v12 * 8 + 2)) :: (43,vs v13.From.Domain) :: (44,vi (v13.From.Domain.size : Int)) :: (45,vi v14) :: (3,vi v14) :: [])) (init := [0,1,2,3]) (fin := [0,2,35]) (sps := (zq [1] 4 15 :: zq [0] 5 16 :: zq [2] 6 17 :: zq [5,6] 7 18 :: zq [7,5] 8 19 :: zq [8,5] 9 20 :: zq [9] 10 21 :: zq [4,10] 11 22 :: zq [0] 12 23 :: zq [2] 13 24 :: zq [12,13] 14 25 :: zq [14,12] 15 26 :: zq [15,12] 16 27 :: zq [16] 17 28 :: zq [11,17] 18 29 :: zq [0] 19 30 :: zq [2] 20 31 :: zq [19,20] 21 32 :: zq [21,19] 22 33 :: zq [22,19] 23 34 :: zq [23,19] 24 35 :: zq [24] 25 36 :: zq [18,25] 26 37 :: zq [0] 27 38 :: zq [2] 28 39 :: zq [27,28] 29 40 :: zq [29,27] 30 41 :: zq [30,27] 31 42 :: zq [31,27] 32 43 :: zq [32] 33 44 :: zq [26,33] 34 45 :: ⟨[34],[1],[35],[(.slot 3)]⟩ :: [])) (es' := [(_,_),(_,_),(3,vi v14)]) (by kernel_rfl) rfl rfl ⟨z1 rfl,z1 rfl,z1 rfl,zp rfl (op_ix_fr _ _ _ _ _ _ _ _ underlying56 sz36 (by decide) rfl rfl rfl (ix_ok hv3).1 (gflat_lt T_Mail.ilen (ix_ok hv3).2) rfl),zp rfl (op_fieldAddr_e _ _ _ _ _ _ _ underlying36 rfl sz25 rfl rfl rfl),zp rfl (op_load_fr _ _ _ _ _ _ _ underlying25 rfl rfl rfl (gflat_cell T_Mail.ilen hv4 rfl) (.fl _ _ rfl)),zp rfl (op_len_fl _ _ _ underlying25 rfl (by decide) (map_len _)),zp rfl (oB rfl (ibind (f := int .i64) (Option.some.inj hv5))),z1 rfl,z1 rfl,zp rfl (op_ix_fr _ _ _ _ _ _ _ _ underlying56 sz36 (by decide) rfl rfl rfl (ix_ok hv6).1 (gflat_lt T_Mail.ilen (ix_ok hv6).2) rfl),zp rfl (op_fieldAddr_e _ _ _ _ _ _ _ underlying36 rfl sz9 rfl rfl rfl),zp rfl (op_load_fr _ _ _ _ _ _ _ underlying9 rfl rfl rfl (gflat_cell T_Mail.ilen hv7 rfl) (.v _)),zp rfl (oN underlying9 rfl),zp rfl (oB rfl (ibind (f := int .i64) (Option.some.inj hv8))),z1 rfl,z1 rfl,zp rfl (op_ix_fr _ _ _ _ _ _ _ _ underlying56 sz36 (by decide) rfl rfl rfl (ix_ok hv9).1 (gflat_lt T_Mail.ilen (ix_ok hv9).2) rfl),zp rfl (op_fieldAddr_e _ _ _ _ _ _ _ underlying36 rfl sz24 rfl rfl rfl),zp rfl (op_fieldAddr_e _ _ _ _ _ _ _ underlying24 rfl sz9 rfl rfl rfl),zp rfl (op_load_fr _ _ _ _ _ _ _ underlying9 rfl rfl rfl (gflat_cell T_Mail.ilen hv10 rfl) (.v _)),zp rfl (oN underlying9 rfl),zp rfl (oB rfl (ibind (f := int .i64) (Option.some.inj hv11))),z1 rfl,z1 rfl,zp rfl (op_ix_fr _ _ _ _ _ _ _ _ underlying56 sz36 (by decide) rfl rfl rfl (ix_ok hv12).1 (gflat_lt T_Mail.ilen (ix_ok hv12).2) rfl),zp rfl (op_fieldAddr_e _ _ _ _ _ _ _ underlying36 rfl sz24 rfl rfl rfl),zp rfl (op_fieldAddr_e _ _ _ _ _ _ _ underlying24 rfl sz9 rfl rfl rfl),zp rfl (op_load_fr _ _ _ _ _ _ _ underlying9 rfl rfl rfl (gflat_cell T_Mail.ilen hv13 rfl) (.v _)),zp rfl (oN underlying9 rfl),zp rfl (oB rfl (ibind (f := int .i64) (Option.some.inj hv14))),zp rfl (LOp.drop [_] (op_assign _ _ _ _ rfl rfl)),zz⟩ ?_
     refine pt_then (ht_seq ?_)
     refine ht_seq ?_
     obtain ⟨v15, hv15, h⟩ := zn h
     obtain ⟨v16, hv16, h⟩ := zn h
     refine zg hn [_,_,_,(46,.fr .shr true 8 (flatten (map T_Mail.ienc l))),(47,vi s67),(48,.eref (.slot 46) (v15 * 8)),(49,.eref (.slot 46) (v15 * 8 + 3)),(50,.fl .shr 3 (flatten (map T_Path.enc v16.To))),(51,vi (v16.To.length : Int)),(52,vb (decide (40 < (v16.To.length : Int))))] [0,1,2] [0,1,2,9] [zq [0] 3 46,zq [1] 4 47,zq [3,4] 5 48,zq [5,3] 6 49,zq [6,3] 7 50,zq [7] 8 51,zq [8] 9 52] [(_,_),(_,_),(_,_),(_,_)] rfl ⟨z1 rfl,z1 rfl,zp rfl (op_ix_fr _ _ _ _ _ _ _ _ underlying56 sz36 (by decide) rfl rfl rfl (ix_ok hv15).1 (gflat_lt T_Mail.ilen (ix_ok hv15).2) rfl),zp rfl (op_fieldAddr_e _ _ _ _ _ _ _ underlying36 rfl sz34 rfl rfl rfl),zp rfl (op_load_fr _ _ _ _ _ _ _ underlying34 rfl rfl rfl (gflat_cell T_Mail.ilen hv16 rfl) (.fl _ _ rfl)),zp rfl (op_len_fl _ _ _ underlying34 rfl (by decide) (flat_len T_Path.len _)),z4 rfl rfl,zz⟩ ?_
     refine pt_then ?_
     refine ht_cond _ rfl (fun hb93 => ?_) (fun hb93 => ?_)
     ·have h := cond_t hb93 h
      refine zgg hn [_,_,_,_,(2,vb true)] [0,1,2,3] [4] [zq [] 4 2] [(_,_)] rfl ⟨z2 rfl,zz⟩ ?_
      refine ht_ret ?_
      refine pt_r_then ?_
      refine pt_r_in ?_
      refine pt_r_then ?_
      refine pt_r_then ?_
      refine pt_r_in ?_
      refine pt_r_then ?_
      have h := hr88 _ (ho89 _ (zi h).symm).symm
      obtain rfl := zi h
      exact pt_ret hio rfl (.tmp _ _ .nil) rfl rfl
     ·have h := cond_f hb93 h
      refine ht_skip ?_
      refine pt_then ?_
      refine zgg hn [_,_,_,_,(5,vi 0)] [0,1,2,3] [0,1,2,4] [zq [] 4 5] [(_,_),(_,_),(_,_),(_,_)] rfl ⟨z2 rfl,zz⟩ ?_
      refine ht_loopS h (fun ((s98,s99) : Int × Int) => [(0,.fr .shr true 8 (flatten (map T_Mail.ienc l))),(4,vi s67),(3,vi s98),(5,vi s99)]) (fun (s101 : Int) => [(0,.fr .shr true 8 (flatten (map T_Mail.ienc l))),(4,vi s67),(3,vi s101)]) ?_ ?_
      ·rintro s101 h
       refine pt_inb ?_
       refine pt_then ?_
       obtain ⟨v46, hv46, h⟩ := zn h
       refine zg hn [_,_,_,(13,vi s67),(14,vi v46),(4,vi v46)] [0,1,2] [0,2,5] [zq [1] 3 13,zq [3] 4 14,⟨[4],[1],[5],[(.slot 4)]⟩] [(_,_),(_,_),(_,_)] rfl ⟨z1 rfl,zp rfl (oB rfl (ibind (f := int .i64) (Option.some.inj hv46))),zp rfl (LOp.drop [_] (op_assign _ _ _ _ rfl rfl)),zz⟩ ?_
       exact pt_next _ (zi h).symm rfl
      ·rintro u102 hl103 hr104 ⟨s98, s99⟩ rr107 h ho105
       refine ht_seq ?_
       refine ht_seq ?_
       obtain ⟨v18, hv18, h⟩ := zn h
       obtain ⟨v19, hv19, h⟩ := zn h
       refine zg hn [_,_,_,_,(53,vi s99),(54,.fr .shr true 8 (flatten (map T_Mail.ienc l))),(55,vi s67),(56,.eref (.slot 54) (v18 * 8)),(57,.eref (.slot 54) (v18 * 8 + 3)),(58,.fl .shr 3 (flatten (map T_Path.enc v19.To))),(59,vi (v19.To.length : Int)),(60,vb (decide (s99 < (v19.To.length : Int))))] [0,1,2,3] [0,1,2,3,11] [zq [3] 4 53,zq [0] 5 54,zq [1] 6 55,zq [5,6] 7 56,zq [7,5] 8 57,zq [8,5] 9 58,zq [9] 10 59,zq [4,10] 11 60] [(_,_),(_,_),(_,_),(_,_),(_,_)] rfl ⟨z1 rfl,z1 rfl,z1 rfl,zp rfl (op_ix_fr _ _ _ _ _ _ _ _ underlying56 sz36 (by decide) rfl rfl rfl (ix_ok hv18).1 (gflat_lt T_Mail.ilen (ix_ok hv18).2) rfl),zp rfl (op_fieldAddr_e _ _ _ _ _ _ _ underlying36 rfl sz34 rfl rfl rfl),zp rfl (op_load_fr _ _ _ _ _ _ _ underlying34 rfl rfl rfl (gflat_cell T_Mail.ilen hv19 rfl) (.fl _ _ rfl)),zp rfl (op_len_fl _ _ _ underlying34 rfl (by decide) (flat_len T_Path.len _)),z4 rfl rfl,zz⟩ ?_
       refine pt_then ?_
       refine ht_cond _ rfl (fun hb108 => ?_) (fun hb108 => ?_)
       ·have h := cond_t hb108 h
        refine ht_skip ?_
        refine pt_then (ht_seq ?_)
        refine ht_block ?_
        obtain ⟨v21, hv21, h⟩ := zn h
        obtain ⟨v22, hv22, h⟩ := zn h
        obtain ⟨v23, hv23, h⟩ := zn h
        obtain ⟨v24, hv24, h⟩ := zn h
        obtain ⟨v25, hv25, h⟩ := zn h
        obtain ⟨v26, hv26, h⟩ := zn h
        obtain ⟨v27, hv27, h⟩ := zn h
        obtain ⟨v28, hv28, h⟩ := zn h
        obtain ⟨v29, hv29, h⟩ := zn h
        obtain ⟨v30, hv30, h⟩ := zn h
        refine ht_anyR (by kernel_rfl) hn (El := (_ :: _ :: _ :: _ :: _ :: (63,vi s98) :: (64,.fr .shr true 8 (flatten (map T_Mail.ienc l))) :: (65,vi s67) :: (66,.eref (.slot 64) (v21 * 8)) :: (67,.eref (.slot 64) (v21 * 8 + 3)) :: (68,.fl .shr 3 (flatten (map T_Path.enc v22.To))) :: (69,vi s99) :: (70,.eref (.slot 68) (v23 * 3)) :: (71,.eref (.slot 68) (v23 * 3 + 1)) :: (72,vs v24.Local) :: (73,vi (v24.Local.size : Int)) :: (74,vi v25) :: (75,.fr .shr true 8 (flatten (map T_Mail.ienc l))) :: (76,vi s67) :: (77,.eref (.slot 75) (v26 * 8)) :: (78,.eref (.slot 75) (v26 * 8 + 3)) :: (79,.fl .shr 3 (flatten (map T_Path.enc v27.To))) :: (80,vi s99) :: (81,.eref (.slot 79) (v28 * 3)) :: (82,.eref (.slot 79) (v28 * 3 + 2)) :: (83,vs v29.Domain) :: (84,vi (v29.Domain.size : Int)) :: (85,vi v30) :: (3,vi v30) :: [])) (init := [0,1,2,3,4]) (fin := [0,1,3,28]) (sps := (zq [2] 5 63 :: zq [0] 6 64 :: zq [1] 7 65 :: zq [6,7] 8 66 :: zq [8,6] 9 67 :: zq [9,6] 10 68 :: zq [3] 11 69 :: zq [10,11] 12 70 :: zq [12,10] 13 71 :: zq [13,10] 14 72 :: zq [14] 15 73 :: zq [5,15] 16 74 :: zq [0] 17 75 :: zq [1] 18 76 :: zq [17,18] 19 77 :: zq [19,17] 20 78 :: zq [20,17] 21 79 :: zq [3] 22 80 :: zq [21,22] 23 81 :: zq [23,21] 24 82 :: zq [24,21] 25 83 :: zq [25] 26 84 :: zq [16,26] 27 85 :: ⟨[27],[2],[28],[(.slot 3)]⟩ :: [])) (es' := [(_,_),(_,_),(_,_),(3,vi v30)]) (by kernel_rfl) rfl rfl ⟨z1 rfl,z1 rfl,z1 rfl,zp rfl (op_ix_fr _ _ _ _ _ _ _ _ underlying56 sz36 (by decide) rfl rfl rfl (ix_ok hv21).1 (gflat_lt T_Mail.ilen (ix_ok hv21).2) rfl),zp rfl (op_fieldAddr_e _ _ _ _ _ _ _ underlying36 rfl sz34 rfl rfl rfl),zp rfl (op_load_fr _ _ _ _ _ _ _ underlying34 rfl rfl rfl (gflat_cell T_Mail.ilen hv22 rfl) (.fl _ _ rfl)),z1 rfl,zp rfl (op_ix _ _ _ _ _ _ _ _ underlying34 sz24 (by decide) rfl rfl rfl (ix_ok hv23).1 (flat_lt T_Path.len (ix_ok hv23).2) rfl),zp rfl (op_fieldAddr_e _ _ _ _ _ _ _ underlying24 rfl sz9 rfl rfl rfl),zp rfl (op_load_e _ _ _ _ _ _ underlying9 rfl rfl rfl (flat_cell T_Path.len hv24 rfl)),zp rfl (oN underlying9 rfl),zp rfl (oB rfl (ibind (f := int .i64) (Option.some.inj hv25))),z1 rfl,z1 rfl,zp rfl (op_ix_fr _ _ _ _ _ _ _ _ underlying56 sz36 (by decide) rfl rfl rfl (ix_ok hv26).1 (gflat_lt T_Mail.ilen (ix_ok hv26).2) rfl),zp rfl (op_fieldAddr_e _ _ _ _ _ _ _ underlying36 rfl sz34 rfl rfl rfl),zp rfl (op_load_fr _ _ _ _ _ _ _ underlying34 rfl rfl rfl (gflat_cell T_Mail.ilen hv27 rfl) (.fl _ _ rfl)),z1 rfl,zp rfl (op_ix _ _ _ _ _ _ _ _ underlying34 sz24 (by decide) rfl rfl rfl (ix_ok hv28).1 (flat_lt T_Path.len (ix_ok hv28).2) rfl),zp rfl (op_fieldAddr_e _ _ _ _ _ _ _ underlying24 rfl sz9 rfl rfl rfl),zp rfl (op_load_e _ _ _ _ _ _ underlying9 rfl rfl rfl (flat_cell T_Path.len hv29 rfl)),zp rfl (oN underlying9 rfl),zp rfl (oB rfl (ibind (f := int .i64) (Option.some.inj hv30))),zp rfl (LOp.drop [_] (op_assign _ _ _ _ rfl rfl)),zz⟩ ?_
        refine pt_inb ?_
        refine pt_then ?_
        obtain ⟨v31, hv31, h⟩ := zn h
        refine zg hn [_,_,_,_,(61,vi s99),(62,vi v31),(5,vi v31)] [0,1,2,3] [0,1,3,6] [zq [2] 4 61,zq [4] 5 62,⟨[5],[2],[6],[(.slot 5)]⟩] [(_,_),(_,_),(_,_),(_,_)] rfl ⟨z1 rfl,zp rfl (oB rfl (ibind (f := int .i64) (Option.some.inj hv31))),zp rfl (LOp.drop [_] (op_assign _ _ _ _ rfl rfl)),zz⟩ ?_
        exact pt_next _ (zi h).symm rfl
       ·have h := cond_f hb108 h
        refine ht_exit ?_
        refine pt_x_then ?_
        refine pt_x_then ?_
        refine pt_x_in ?_
        refine pt_pick [0,1,2] (by kernel_rfl) (es' := [(_,_),(_,_),(_,_)]) rfl ?_
        exact hl103 _ (ho105 _ (zi h).symm).symm
    ·have h := cond_f hb92 h
     refine ht_exit ?_
     refine pt_x_then ?_
     refine pt_x_then ?_
     refine pt_x_in ?_
     refine pt_pick [1] (by kernel_rfl) (es' := [(_,_)]) rfl ?_
     exact hl87 _ (ho89 _ (zi h).symm).symm
theorem ok_wherryref11_in (n : Int) (lo : Int) (hi : Int) (r : Bool) (h : Sh.wherryref11_in n lo hi = some r) : FnOK Tryd.prog 50 [.v (.int .i64 n), .v (.int .i64 lo), .v (.int .i64 hi)] (.v (.bool r)) := by
  unfold Sh.wherryref11_in at h
  refine fn_ok func50 rfl (zl rfl) rfl rfl fun g0 hn hio => ?_
  refine zgg hn [_,_,_,(6,vb false)] [0,1,2] [0,1,2] [zq [] 3 6] [(_,_),(_,_),(_,_)] rfl ⟨z2 rfl,zz⟩ ?_
  refine ht_seq ?_
  refine ht_joinS h (fun (s1 : Bool) => [(6,vb s1)]) ?_ ?_
  ·rintro s1 h
   refine pt_then (ht_ret ?_)
   obtain rfl := zi h
   exact pt_ret hio rfl (.tmp _ _ .nil) rfl rfl
  ·intro u2 h hl3 hr4
   refine cond_some h (fun hg1_3 h => ?_) (fun hg1_3 h => ?_)
   ·refine zg hn [_,_,_,(7,vi n),(8,vi lo),(9,vb (decide (lo ≤ n))),(10,vb true),(11,vi n),(12,vi hi),(13,vb (decide (n ≤ hi))),(14,vb (decide (n ≤ hi))),(6,vb (decide (n ≤ hi)))] [0,1,2] [11] [zq [0] 3 7,zq [1] 4 8,zq [3,4] 5 9,zq [5] 6 10,zq [6,0] 7 11,zq [6,2] 8 12,zq [6,7,8] 9 13,zq [6,9] 10 14,zq [10] 11 6] [(_,_)] rfl ⟨z1 rfl,z1 rfl,z4 rfl rfl,z8 hg1_3 rfl,zr' rfl (oM rfl),zr' rfl (oM rfl),zr' rfl (oB rfl rfl),z3 true rfl,z2 rfl,zz⟩ ?_
    exact hl3 _ (zi h).symm
   ·refine zg hn [_,_,_,(7,vi n),(8,vi lo),(9,vb (decide (lo ≤ n))),(10,vb false),(11,.v undef),(12,.v undef),(13,.v undef),(14,vb false),(6,vb false)] [0,1,2] [11] [zq [0] 3 7,zq [1] 4 8,zq [3,4] 5 9,zq [5] 6 10,zq [6] 7 11,zq [6] 8 12,zq [6] 9 13,zq [6] 10 14,zq [10] 11 6] [(_,_)] rfl ⟨z1 rfl,z1 rfl,z4 rfl rfl,z8 hg1_3 rfl,zt rfl,zt rfl,zt rfl,z3 false rfl,z2 rfl,zz⟩ ?_
    exact hl3 _ (zi h).symm
theorem ok_wherryref11_letter (c : Int) (r : Bool) (h : Sh.wherryref11_letter c = some r) : FnOK Tryd.prog 51 [.v (.int .u8 c)] (.v (.bool r)) := by
  unfold Sh.wherryref11_letter at h
  refine fn_ok func51 rfl (zl rfl) rfl rfl fun g0 hn hio => ?_
  refine zgg hn [_,(2,vb false)] [0] [0] [zq [] 1 2] [(_,_)] rfl ⟨z2 rfl,zz⟩ ?_
  refine ht_seq ?_
  refine ht_joinS h (fun (s1 : Bool) => [(2,vb s1)]) ?_ ?_
  ·rintro s1 h
   refine pt_then (ht_ret ?_)
   obtain rfl := zi h
   exact pt_ret hio rfl (.tmp _ _ .nil) rfl rfl
  ·intro u2 h hl3 hr4
   refine cond_some h (fun hg1_2 h => ?_) (fun hg1_2 h => ?_)
   ·refine cond_some h (fun hg1_6 h => ?_) (fun hg1_6 h => ?_)
    ·refine zg hn (_::(3,.v (.int .u8 c))::(4,vb (decide (97 ≤ c)))::(5,vb true)::(6,.v (.int .u8 c))::(7,vb (decide (c ≤ 122)))::(8,vb (decide (c ≤ 122)))::(9,vb true)::(10,.v undef)::(11,.v undef)::(12,.v undef)::(13,.v undef)::(14,.v undef)::(15,.v undef)::(16,vb true)::(2,vb true)::[]) [0] [15] (zq [0] 1 3::zq [1] 2 4::zq [2] 3 5::zq [3,0] 4 6::zq [3,4] 5 7::zq [3,5] 6 8::zq [6] 7 9::zq [7] 8 10::zq [7] 9 11::zq [7] 10 12::zq [10] 11 13::zq [10] 12 14::zq [7] 13 15::zq [7] 14 16::zq [14] 15 2::[]) [(_,_)] rfl ⟨z1 rfl,z4 rfl rfl,z8 hg1_2 rfl,zr' rfl (oM rfl),zr' rfl (oB rfl rfl),z3 true rfl,z8 hg1_6 rfl,zf rfl,zf rfl,zf rfl,zu' rfl,zu' rfl,zf rfl,z3 true rfl,z2 rfl,zz⟩ ?_
     exact hl3 _ (zi h).symm
    ·refine cond_some h (fun hg1_9 h => ?_) (fun hg1_9 h => ?_)
     ·refine zg hn (_::(3,.v (.int .u8 c))::(4,vb (decide (97 ≤ c)))::(5,vb true)::(6,.v (.int .u8 c))::(7,vb (decide (c ≤ 122)))::(8,vb (decide (c ≤ 122)))::(9,vb false)::(10,.v (.int .u8 c))::(11,vb (decide (65 ≤ c)))::(12,vb true)::(13,.v (.int .u8 c))::(14,vb (decide (c ≤ 90)))::(15,vb (decide (c ≤ 90)))::(16,vb (decide (c ≤ 90)))::(2,vb (decide (c ≤ 90)))::[]) [0] [15] (zq [0] 1 3::zq [1] 2 4::zq [2] 3 5::zq [3,0] 4 6::zq [3,4] 5 7::zq [3,5] 6 8::zq [6] 7 9::zq [7,0] 8 10::zq [7,8] 9 11::zq [7,9] 10 12::zq [10,0] 11 13::zq [10,11] 12 14::zq [7,10,12] 13 15::zq [7,13] 14 16::zq [14] 15 2::[]) [(_,_)] rfl ⟨z1 rfl,z4 rfl rfl,z8 hg1_2 rfl,zr' rfl (oM rfl),zr' rfl (oB rfl rfl),z3 true rfl,z8 hg1_6 rfl,zr' rfl (oM rfl),zr' rfl (oB rfl rfl),zr' rfl (op_move _ _ _ _ (zb hg1_9) rfl),zr' rfl (oM rfl),zr' rfl (oB rfl rfl),zr' rfl (op_pick _ _ true _ rfl rfl),z3 false rfl,z2 rfl,zz⟩ ?_
      exact hl3 _ (zi h).symm
     ·refine zg hn (_::(3,.v (.int .u8 c))::(4,vb (decide (97 ≤ c)))::(5,vb true)::(6,.v (.int .u8 c))::(7,vb (decide (c ≤ 122)))::(8,vb (decide (c ≤ 122)))::(9,vb false)::(10,.v (.int .u8 c))::(11,vb (decide (65 ≤ c)))::(12,vb false)::(13,.v undef)::(14,.v undef)::(15,vb false)::(16,vb false)::(2,vb false)::[]) [0] [15] (zq [0] 1 3::zq [1] 2 4::zq [2] 3 5::zq [3,0] 4 6::zq [3,4] 5 7::zq [3,5] 6 8::zq [6] 7 9::zq [7,0] 8 10::zq [7,8] 9 11::zq [7,9] 10 12::zq [10] 11 13::zq [10] 12 14::zq [7,10] 13 15::zq [7,13] 14 16::zq [14] 15 2::[]) [(_,_)] rfl ⟨z1 rfl,z4 rfl rfl,z8 hg1_2 rfl,zr' rfl (oM rfl),zr' rfl (oB rfl rfl),z3 true rfl,z8 hg1_6 rfl,zr' rfl (oM rfl),zr' rfl (oB rfl rfl),zr' rfl (op_move _ _ _ _ (zb hg1_9) rfl),zt rfl,zt rfl,zr' rfl (op_pick _ _ false _ rfl rfl),z3 false rfl,z2 rfl,zz⟩ ?_
      exact hl3 _ (zi h).symm
   ·refine cond_some h (fun hg1_9 h => ?_) (fun hg1_9 h => ?_)
    ·refine zg hn (_::(3,.v (.int .u8 c))::(4,vb (decide (97 ≤ c)))::(5,vb false)::(6,.v undef)::(7,.v undef)::(8,vb false)::(9,vb false)::(10,.v (.int .u8 c))::(11,vb (decide (65 ≤ c)))::(12,vb true)::(13,.v (.int .u8 c))::(14,vb (decide (c ≤ 90)))::(15,vb (decide (c ≤ 90)))::(16,vb (decide (c ≤ 90)))::(2,vb (decide (c ≤ 90)))::[]) [0] [15] (zq [0] 1 3::zq [1] 2 4::zq [2] 3 5::zq [3] 4 6::zq [3] 5 7::zq [3] 6 8::zq [6] 7 9::zq [7,0] 8 10::zq [7,8] 9 11::zq [7,9] 10 12::zq [10,0] 11 13::zq [10,11] 12 14::zq [7,10,12] 13 15::zq [7,13] 14 16::zq [14] 15 2::[]) [(_,_)] rfl ⟨z1 rfl,z4 rfl rfl,z8 hg1_2 rfl,zt rfl,zt rfl,z3 false rfl,z1 rfl,zr' rfl (oM rfl),zr' rfl (oB rfl rfl),zr' rfl (op_move _ _ _ _ (zb hg1_9) rfl),zr' rfl (oM rfl),zr' rfl (oB rfl rfl),zr' rfl (op_pick _ _ true _ rfl rfl),z3 false rfl,z2 rfl,zz⟩ ?_
     exact hl3 _ (zi h).symm
    ·refine zg hn (_::(3,.v (.int .u8 c))::(4,vb (decide (97 ≤ c)))::(5,vb false)::(6,.v undef)::(7,.v undef)::(8,vb false)::(9,vb false)::(10,.v (.int .u8 c))::(11,vb (decide (65 ≤ c)))::(12,vb false)::(13,.v undef)::(14,.v undef)::(15,vb false)::(16,vb false)::(2,vb false)::[]) [0] [15] (zq [0] 1 3::zq [1] 2 4::zq [2] 3 5::zq [3] 4 6::zq [3] 5 7::zq [3] 6 8::zq [6] 7 9::zq [7,0] 8 10::zq [7,8] 9 11::zq [7,9] 10 12::zq [10] 11 13::zq [10] 12 14::zq [7,10] 13 15::zq [7,13] 14 16::zq [14] 15 2::[]) [(_,_)] rfl ⟨z1 rfl,z4 rfl rfl,z8 hg1_2 rfl,zt rfl,zt rfl,z3 false rfl,z1 rfl,zr' rfl (oM rfl),zr' rfl (oB rfl rfl),zr' rfl (op_move _ _ _ _ (zb hg1_9) rfl),zt rfl,zt rfl,zr' rfl (op_pick _ _ false _ rfl rfl),z3 false rfl,z2 rfl,zz⟩ ?_
     exact hl3 _ (zi h).symm
theorem ok_wherryref11_digit (c : Int) (r : Bool) (h : Sh.wherryref11_digit c = some r) : FnOK Tryd.prog 52 [.v (.int .u8 c)] (.v (.bool r)) := by
  unfold Sh.wherryref11_digit at h
  refine fn_ok func52 rfl (zl rfl) rfl rfl fun g0 hn hio => ?_
  refine zgg hn [_,(2,vb false)] [0] [0] [zq [] 1 2] [(_,_)] rfl ⟨z2 rfl,zz⟩ ?_
  refine ht_seq ?_
  refine ht_joinS h (fun (s1 : Bool) => [(2,vb s1)]) ?_ ?_
  ·rintro s1 h
   refine pt_then (ht_ret ?_)
   obtain rfl := zi h
   exact pt_ret hio rfl (.tmp _ _ .nil) rfl rfl
  ·intro u2 h hl3 hr4
   refine cond_some h (fun hg1_2 h => ?_) (fun hg1_2 h => ?_)
   ·refine zg hn [_,(3,.v (.int .u8 c)),(4,vb (decide (48 ≤ c))),(5,vb true),(6,.v (.int .u8 c)),(7,vb (decide (c ≤ 57))),(8,vb (decide (c ≤ 57))),(2,vb (decide (c ≤ 57)))] [0] [7] [zq [0] 1 3,zq [1] 2 4,zq [2] 3 5,zq [3,0] 4 6,zq [3,4] 5 7,zq [3,5] 6 8,zq [6] 7 2] [(_,_)] rfl ⟨z1 rfl,z4 rfl rfl,z8 hg1_2 rfl,zr' rfl (oM rfl),zr' rfl (oB rfl rfl),z3 true rfl,z2 rfl,zz⟩ ?_
    exact hl3 _ (zi h).symm
   ·refine zg hn [_,(3,.v (.int .u8 c)),(4,vb (decide (48 ≤ c))),(5,vb false),(6,.v undef),(7,.v undef),(8,vb false),(2,vb false)] [0] [7] [zq [0] 1 3,zq [1] 2 4,zq [2] 3 5,zq [3] 4 6,zq [3] 5 7,zq [3] 6 8,zq [6] 7 2] [(_,_)] rfl ⟨z1 rfl,z4 rfl rfl,z8 hg1_2 rfl,zt rfl,zt rfl,z3 false rfl,z2 rfl,zz⟩ ?_
    exact hl3 _ (zi h).symm
theorem ok_wherryref11_Domain (s : ByteArray) (r : Bool) (h : Sh.wherryref11_Domain s = some r) : FnOK Tryd.prog 36 [.v (.string s)] (.v (.bool r)) := by
  unfold Sh.wherryref11_Domain at h
  refine fn_ok func36 rfl (zl rfl) rfl rfl fun g0 hn hio => ?_
  refine zgg hn [_,(2,vb false)] [0] [0] [zq [] 1 2] [(_,_)] rfl ⟨z2 rfl,zz⟩ ?_
  refine ht_seq ?_
  refine ht_seq ?_
  obtain ⟨v1, hv1, h⟩ := zn h
  refine zg hn [_,(5,vs s),(6,vi (s.size : Int)),(7,vb v1),(8,vb (!v1))] [0] [0,4] [zq [0] 1 5,zq [1] 2 6,zq [2] 3 7,zq [3] 4 8] [(_,_),(_,_)] rfl ⟨z1 rfl,zp rfl (oN underlying9 rfl),zp rfl (op_call _ _ 50 _ _ rfl call50 rfl (ok_wherryref11_in (s.size : Int) 1 255 _ hv1) rfl rfl),zp rfl (op_un _ _ _ _ rfl rfl),zz⟩ ?_
  refine pt_then ?_
  refine ht_cond _ rfl (fun hb2 => ?_) (fun hb2 => ?_)
  ·have h := cond_t hb2 h
   refine zgg hn [_,_,(2,vb false)] [0,1] [2] [zq [] 2 2] [(_,_)] rfl ⟨z2 rfl,zz⟩ ?_
   refine ht_ret ?_
   refine pt_r_then ?_
   obtain rfl := zi h
   exact pt_ret hio rfl (.tmp _ _ .nil) rfl rfl
  ·have h := cond_f hb2 h
   refine ht_skip ?_
   refine pt_then ?_
   refine zgg hn [_,_,(3,vi 0)] [0,1] [0,2] [zq [] 2 3] [(_,_),(_,_)] rfl ⟨z2 rfl,zz⟩ ?_
   refine ht_seq ?_
   refine zgg hn [_,_,(4,vi 0)] [0,1] [0,1,2] [zq [] 2 4] [(_,_),(_,_),(_,_)] rfl ⟨z2 rfl,zz⟩ ?_
   refine ht_loopS h (fun ((s88,s89) : Int × Int) => [(0,vs s),(3,vi s88),(4,vi s89)]) (fun (() : Unit) => []) ?_ ?_
   ·rintro ⟨⟩ h
    refine pt_then ?_
    refine zgg hn [(2,vb true)] [] [0] [zq [] 0 2] [(_,_)] rfl ⟨z2 rfl,zz⟩ ?_
    refine ht_ret ?_
    obtain rfl := zi h
    exact pt_ret hio rfl (.tmp _ _ .nil) rfl rfl
   ·rintro u125 hl126 hr127 ⟨s88, s89⟩ rr130 h ho128
    refine ht_seq ?_
    refine zgg hn [_,_,_,(9,vi s89),(10,vs s),(11,vi (s.size : Int)),(12,vb (decide (s89 ≤ (s.size : Int))))] [0,1,2] [0,1,2,6] [zq [2] 3 9,zq [0] 4 10,zq [4] 5 11,zq [3,5] 6 12] [(_,_),(_,_),(_,_),(_,_)] rfl ⟨z1 rfl,z1 rfl,zp rfl (oN underlying9 rfl),z4 rfl rfl,zz⟩ ?_
    refine ht_cond _ rfl (fun hb131 => ?_) (fun hb131 => ?_)
    ·have h := cond_t hb131 h
     refine ht_skip ?_
     refine pt_then (ht_seq ?_)
     refine ht_joinS h (fun (s147 : Int) => [(0,vs s),(3,vi s147),(4,vi s89)]) ?_ ?_
     ·rintro s147 h
      refine pt_then ?_
      obtain ⟨v50, hv50, h⟩ := zn h
      refine zg hn [_,_,_,(13,vi s89),(14,vi v50),(4,vi v50)] [0,1,2] [0,1,5] [zq [2] 3 13,zq [3] 4 14,⟨[4],[2],[5],[(.slot 4)]⟩] [(_,_),(_,_),(_,_)] rfl ⟨z1 rfl,zp rfl (oB rfl (ibind (f := int .i64) (Option.some.inj hv50))),zp rfl (LOp.drop [_] (op_assign _ _ _ _ rfl rfl)),zz⟩ ?_
      exact pt_next _ (zi h).symm rfl
     ·intro u148 h hl149 hr150
      refine ht_block ?_
      refine ht_seq ?_
      refine ht_seq ?_
      refine ht_joinS h (fun (s151 : Bool) => [(0,vs s),(3,vi s88),(4,vi s89),(24,vb s151)]) ?_ ?_
      ·rintro s151 h
       refine pt_then ?_
       refine ht_cond _ rfl (fun hb155 => ?_) (fun hb155 => ?_)
       ·have h := cond_t hb155 h
        refine ht_seq ?_
        refine ht_seq ?_
        refine ht_joinS h (fun (s156 : Bool) => [(0,vs s),(3,vi s88),(4,vi s89),(42,vb s156)]) ?_ ?_
        ·rintro s156 h
         refine pt_then ?_
         refine ht_cond _ rfl (fun hb160 => ?_) (fun hb160 => ?_)
         ·have h := cond_t hb160 h
          refine zgg hn [_,_,_,_,(2,vb false)] [0,1,2,3] [4] [zq [] 4 2] [(_,_)] rfl ⟨z2 rfl,zz⟩ ?_
          refine ht_ret ?_
          refine pt_r_then ?_
          refine pt_r_then ?_
          refine pt_r_in ?_
          refine pt_r_then ?_
          refine pt_r_then ?_
          refine pt_r_in ?_
          refine pt_r_then ?_
          have h := hr150 _ (zi h).symm
          have h := hr127 _ (ho128 _ (zi h).symm).symm
          obtain rfl := zi h
          exact pt_ret hio rfl (.tmp _ _ .nil) rfl rfl
         ·have h := cond_f hb160 h
          refine ht_skip ?_
          refine pt_then ?_
          refine ht_exit ?_
          refine pt_x_then ?_
          refine pt_x_in ?_
          refine pt_pick [0,1,2] (by kernel_rfl) (es' := [(_,_),(_,_),(_,_)]) rfl ?_
          exact hl149 _ (zi h).symm
        ·intro u157 h hl158 hr159
         obtain ⟨v10, hv10, h⟩ := zn h
         obtain ⟨v11, hv11, h⟩ := zn h
         refine cond_some h (fun hg8_5 h => ?_) (fun hg8_5 h => ?_)
         ·obtain ⟨v12, hv12, h⟩ := zn h
          obtain ⟨v13, hv13, h⟩ := zn h
          refine cond_some h (fun hg8_12 h => ?_) (fun hg8_12 h => ?_)
          ·obtain ⟨v14, hv14, h⟩ := zn h
           refine zg hn (_::_::_::_::(25,vs s)::(26,vi s89)::(27,.v (.int .u8 v10))::(28,vb v11)::(29,vb (!v11))::(30,vb true)::(31,vs s)::(32,vi s89)::(33,.v (.int .u8 v12))::(34,vb v13)::(35,vb (!v13))::(36,vb (!v13))::(37,vb true)::(38,vs s)::(39,vi s89)::(40,.v (.int .u8 v14))::(41,vb (v14 != 45))::(42,vb (v14 != 45))::[]) [0,1,2,3] [0,1,2,21] (zq [0] 4 25::zq [2] 5 26::zq [4,5] 6 27::zq [6] 7 28::zq [7] 8 29::zq [8] 9 30::zq [9,0] 10 31::zq [9,2] 11 32::zq [9,10,11] 12 33::zq [9,12] 13 34::zq [9,13] 14 35::zq [9,14] 15 36::zq [15] 16 37::zq [16,0] 17 38::zq [16,2] 18 39::zq [16,17,18] 19 40::zq [16,19] 20 41::zq [16,20] 21 42::[]) [(_,_),(_,_),(_,_),(_,_)] rfl ⟨z1 rfl,z1 rfl,zp rfl (op_chr _ _ _ s89 _ underlying9 rfl rfl hv10),zp rfl (op_call _ _ 51 _ _ rfl call51 rfl (ok_wherryref11_letter v10 _ hv11) rfl rfl),zp rfl (op_un _ _ _ _ rfl rfl),z8 hg8_5 rfl,zr' rfl (oM rfl),zr' rfl (oM rfl),zr' rfl (op_chr _ _ _ s89 _ underlying9 rfl rfl hv12),zr' rfl (op_call _ _ 52 _ _ rfl call52 rfl (ok_wherryref11_digit v12 _ hv13) rfl rfl),zr' rfl (op_un _ _ _ _ rfl rfl),z3 true rfl,z8 hg8_12 rfl,zr' rfl (oM rfl),zr' rfl (oM rfl),zr' rfl (op_chr _ _ _ s89 _ underlying9 rfl rfl hv14),zr' rfl (oB rfl rfl),z3 true rfl,zz⟩ ?_
           exact hl158 _ (zi h).symm
          ·refine zg hn (_::_::_::_::(25,vs s)::(26,vi s89)::(27,.v (.int .u8 v10))::(28,vb v11)::(29,vb (!v11))::(30,vb true)::(31,vs s)::(32,vi s89)::(33,.v (.int .u8 v12))::(34,vb v13)::(35,vb (!v13))::(36,vb (!v13))::(37,vb false)::(38,.v undef)::(39,.v undef)::(40,.v undef)::(41,.v undef)::(42,vb false)::[]) [0,1,2,3] [0,1,2,21] (zq [0] 4 25::zq [2] 5 26::zq [4,5] 6 27::zq [6] 7 28::zq [7] 8 29::zq [8] 9 30::zq [9,0] 10 31::zq [9,2] 11 32::zq [9,10,11] 12 33::zq [9,12] 13 34::zq [9,13] 14 35::zq [9,14] 15 36::zq [15] 16 37::zq [16] 17 38::zq [16] 18 39::zq [16] 19 40::zq [16] 20 41::zq [16] 21 42::[]) [(_,_),(_,_),(_,_),(_,_)] rfl ⟨z1 rfl,z1 rfl,zp rfl (op_chr _ _ _ s89 _ underlying9 rfl rfl hv10),zp rfl (op_call _ _ 51 _ _ rfl call51 rfl (ok_wherryref11_letter v10 _ hv11) rfl rfl),zp rfl (op_un _ _ _ _ rfl rfl),z8 hg8_5 rfl,zr' rfl (oM rfl),zr' rfl (oM rfl),zr' rfl (op_chr _ _ _ s89 _ underlying9 rfl rfl hv12),zr' rfl (op_call _ _ 52 _ _ rfl call52 rfl (ok_wherryref11_digit v12 _ hv13) rfl rfl),zr' rfl (op_un _ _ _ _ rfl rfl),z3 true rfl,z8 hg8_12 rfl,zt rfl,zt rfl,zt rfl,zt rfl,z3 false rfl,zz⟩ ?_
           exact hl158 _ (zi h).symm
         ·refine zg hn (_::_::_::_::(25,vs s)::(26,vi s89)::(27,.v (.int .u8 v10))::(28,vb v11)::(29,vb (!v11))::(30,vb false)::(31,.v undef)::(32,.v undef)::(33,.v undef)::(34,.v undef)::(35,.v undef)::(36,vb false)::(37,vb false)::(38,.v undef)::(39,.v undef)::(40,.v undef)::(41,.v undef)::(42,vb false)::[]) [0,1,2,3] [0,1,2,21] (zq [0] 4 25::zq [2] 5 26::zq [4,5] 6 27::zq [6] 7 28::zq [7] 8 29::zq [8] 9 30::zq [9] 10 31::zq [9] 11 32::zq [9] 12 33::zq [9] 13 34::zq [9] 14 35::zq [9] 15 36::zq [15] 16 37::zq [16] 17 38::zq [16] 18 39::zq [16] 19 40::zq [16] 20 41::zq [16] 21 42::[]) [(_,_),(_,_),(_,_),(_,_)] rfl ⟨z1 rfl,z1 rfl,zp rfl (op_chr _ _ _ s89 _ underlying9 rfl rfl hv10),zp rfl (op_call _ _ 51 _ _ rfl call51 rfl (ok_wherryref11_letter v10 _ hv11) rfl rfl),zp rfl (op_un _ _ _ _ rfl rfl),z8 hg8_5 rfl,zt rfl,zt rfl,zt rfl,zt rfl,zt rfl,z3 false rfl,z1 rfl,zt rfl,zt rfl,zt rfl,zt rfl,z3 false rfl,zz⟩ ?_
          exact hl158 _ (zi h).symm
       ·have h := cond_f hb155 h
        refine ht_skip ?_
        refine pt_then (ht_seq ?_)
        refine ht_seq ?_
        refine ht_joinS h (fun (s161 : Bool) => [(0,vs s),(4,vi s89),(60,vb s161)]) ?_ ?_
        ·rintro s161 h
         refine pt_then ?_
         refine ht_cond _ rfl (fun hb165 => ?_) (fun hb165 => ?_)
         ·have h := cond_t hb165 h
          refine zgg hn [_,_,_,(2,vb false)] [0,1,2] [3] [zq [] 3 2] [(_,_)] rfl ⟨z2 rfl,zz⟩ ?_
          refine ht_ret ?_
          refine pt_r_then ?_
          refine pt_r_in ?_
          refine pt_r_then ?_
          refine pt_r_then ?_
          refine pt_r_in ?_
          refine pt_r_then ?_
          have h := hr150 _ (zi h).symm
          have h := hr127 _ (ho128 _ (zi h).symm).symm
          obtain rfl := zi h
          exact pt_ret hio rfl (.tmp _ _ .nil) rfl rfl
         ·have h := cond_f hb165 h
          refine ht_skip ?_
          refine pt_then ?_
          obtain ⟨v30, hv30, h⟩ := zn h
          refine zg hn [_,_,_,(61,vi s89),(62,vi v30),(3,vi v30)] [0,1,2] [0,1,5] [zq [1] 3 61,zq [3] 4 62,zq [4] 5 3] [(_,_),(_,_),(_,_)] rfl ⟨z1 rfl,zp rfl (oB rfl (ibind (f := int .i64) (Option.some.inj hv30))),z2 rfl,zz⟩ ?_
          refine pt_inb ?_
          refine pt_pick [0,2,1] (by kernel_rfl) (es' := [(_,_),(_,_),(_,_)]) rfl ?_
          exact hl149 _ (zi h).symm
        ·intro u162 h hl163 hr164
         obtain ⟨v20, hv20, h⟩ := zn h
         obtain ⟨v21, hv21, h⟩ := zn h
         refine cond_some h (fun hg10_5 h => ?_) (fun hg10_5 h => ?_)
         ·refine zg hn (_::_::_::_::(43,vi s89)::(44,vi s88)::(45,vi v20)::(46,vb v21)::(47,vb (!v21))::(48,vb true)::(49,.v undef)::(50,.v undef)::(51,.v undef)::(52,.v undef)::(53,vb true)::(54,vb true)::(55,.v undef)::(56,.v undef)::(57,.v undef)::(58,.v undef)::(59,.v undef)::(60,vb true)::[]) [0,1,2,3] [0,2,21] (zq [2] 4 43::zq [1] 5 44::zq [4,5] 6 45::zq [6] 7 46::zq [7] 8 47::zq [8] 9 48::zq [9] 10 49::zq [9] 11 50::zq [9] 12 51::zq [9] 13 52::zq [9] 14 53::zq [14] 15 54::zq [15] 16 55::zq [15] 17 56::zq [15] 18 57::zq [15] 19 58::zq [15] 20 59::zq [15] 21 60::[]) [(_,_),(_,_),(_,_)] rfl ⟨z1 rfl,z1 rfl,zp rfl (oB rfl (ibind (f := int .i64) (Option.some.inj hv20))),zp rfl (op_call _ _ 50 _ _ rfl call50 rfl (ok_wherryref11_in v20 1 63 _ hv21) rfl rfl),zp rfl (op_un _ _ _ _ rfl rfl),z8 hg10_5 rfl,zf rfl,zf rfl,zf rfl,zf rfl,z3 true rfl,z1 rfl,zf rfl,zf rfl,zf rfl,zf rfl,zf rfl,z3 true rfl,zz⟩ ?_
          exact hl163 _ (zi h).symm
         ·obtain ⟨v22, hv22, h⟩ := zn h
          refine cond_some h (fun hg10_11 h => ?_) (fun hg10_11 h => ?_)
          ·refine zg hn (_::_::_::_::(43,vi s89)::(44,vi s88)::(45,vi v20)::(46,vb v21)::(47,vb (!v21))::(48,vb false)::(49,vs s)::(50,vi s88)::(51,.v (.int .u8 v22))::(52,vb (v22 == 45))::(53,vb (v22 == 45))::(54,vb true)::(55,.v undef)::(56,.v undef)::(57,.v undef)::(58,.v undef)::(59,.v undef)::(60,vb true)::[]) [0,1,2,3] [0,2,21] (zq [2] 4 43::zq [1] 5 44::zq [4,5] 6 45::zq [6] 7 46::zq [7] 8 47::zq [8] 9 48::zq [9,0] 10 49::zq [9,1] 11 50::zq [9,10,11] 12 51::zq [9,12] 13 52::zq [9,13] 14 53::zq [14] 15 54::zq [15] 16 55::zq [15] 17 56::zq [15] 18 57::zq [15] 19 58::zq [15] 20 59::zq [15] 21 60::[]) [(_,_),(_,_),(_,_)] rfl ⟨z1 rfl,z1 rfl,zp rfl (oB rfl (ibind (f := int .i64) (Option.some.inj hv20))),zp rfl (op_call _ _ 50 _ _ rfl call50 rfl (ok_wherryref11_in v20 1 63 _ hv21) rfl rfl),zp rfl (op_un _ _ _ _ rfl rfl),z8 hg10_5 rfl,zr' rfl (oM rfl),zr' rfl (oM rfl),zr' rfl (op_chr _ _ _ s88 _ underlying9 rfl rfl hv22),zr' rfl (oB rfl rfl),z3 false rfl,z8 hg10_11 rfl,zf rfl,zf rfl,zf rfl,zf rfl,zf rfl,z3 true rfl,zz⟩ ?_
           exact hl163 _ (zi h).symm
          ·obtain ⟨v23, hv23, h⟩ := zn h
           obtain ⟨v24, hv24, h⟩ := zn h
           refine zg hn (_::_::_::_::(43,vi s89)::(44,vi s88)::(45,vi v20)::(46,vb v21)::(47,vb (!v21))::(48,vb false)::(49,vs s)::(50,vi s88)::(51,.v (.int .u8 v22))::(52,vb (v22 == 45))::(53,vb (v22 == 45))::(54,vb false)::(55,vs s)::(56,vi s89)::(57,vi v23)::(58,.v (.int .u8 v24))::(59,vb (v24 == 45))::(60,vb (v24 == 45))::[]) [0,1,2,3] [0,2,21] (zq [2] 4 43::zq [1] 5 44::zq [4,5] 6 45::zq [6] 7 46::zq [7] 8 47::zq [8] 9 48::zq [9,0] 10 49::zq [9,1] 11 50::zq [9,10,11] 12 51::zq [9,12] 13 52::zq [9,13] 14 53::zq [14] 15 54::zq [15,0] 16 55::zq [15,2] 17 56::zq [15,17] 18 57::zq [15,16,18] 19 58::zq [15,19] 20 59::zq [15,20] 21 60::[]) [(_,_),(_,_),(_,_)] rfl ⟨z1 rfl,z1 rfl,zp rfl (oB rfl (ibind (f := int .i64) (Option.some.inj hv20))),zp rfl (op_call _ _ 50 _ _ rfl call50 rfl (ok_wherryref11_in v20 1 63 _ hv21) rfl rfl),zp rfl (op_un _ _ _ _ rfl rfl),z8 hg10_5 rfl,zr' rfl (oM rfl),zr' rfl (oM rfl),zr' rfl (op_chr _ _ _ s88 _ underlying9 rfl rfl hv22),zr' rfl (oB rfl rfl),z3 false rfl,z8 hg10_11 rfl,zr' rfl (oM rfl),zr' rfl (oM rfl),zr' rfl (oB rfl (ibind (f := int .i64) (Option.some.inj hv23))),zr' rfl (op_chr _ _ _ v23 _ underlying9 rfl rfl hv24),zr' rfl (oB rfl rfl),z3 false rfl,zz⟩ ?_
           exact hl163 _ (zi h).symm
      ·intro u152 h hl153 hr154
       refine cond_some h (fun hg7_4 h => ?_) (fun hg7_4 h => ?_)
       ·obtain ⟨v4, hv4, h⟩ := zn h
        refine zg hn [_,_,_,_,(15,vi s89),(16,vs s),(17,vi (s.size : Int)),(18,vb (decide (s89 < (s.size : Int)))),(19,vb true),(20,vs s),(21,vi s89),(22,.v (.int .u8 v4)),(23,vb (v4 != 46)),(24,vb (v4 != 46))] [0,1,2,3] [0,1,2,13] [zq [2] 4 15,zq [0] 5 16,zq [5] 6 17,zq [4,6] 7 18,zq [7] 8 19,zq [8,0] 9 20,zq [8,2] 10 21,zq [8,9,10] 11 22,zq [8,11] 12 23,zq [8,12] 13 24] [(_,_),(_,_),(_,_),(_,_)] rfl ⟨z1 rfl,z1 rfl,zp rfl (oN underlying9 rfl),z4 rfl rfl,z8 hg7_4 rfl,zr' rfl (oM rfl),zr' rfl (oM rfl),zr' rfl (op_chr _ _ _ s89 _ underlying9 rfl rfl hv4),zr' rfl (oB rfl rfl),z3 true rfl,zz⟩ ?_
        exact hl153 _ (zi h).symm
       ·refine zg hn [_,_,_,_,(15,vi s89),(16,vs s),(17,vi (s.size : Int)),(18,vb (decide (s89 < (s.size : Int)))),(19,vb false),(20,.v undef),(21,.v undef),(22,.v undef),(23,.v undef),(24,vb false)] [0,1,2,3] [0,1,2,13] [zq [2] 4 15,zq [0] 5 16,zq [5] 6 17,zq [4,6] 7 18,zq [7] 8 19,zq [8] 9 20,zq [8] 10 21,zq [8] 11 22,zq [8] 12 23,zq [8] 13 24] [(_,_),(_,_),(_,_),(_,_)] rfl ⟨z1 rfl,z1 rfl,zp rfl (oN underlying9 rfl),z4 rfl rfl,z8 hg7_4 rfl,zt rfl,zt rfl,zt rfl,zt rfl,z3 false rfl,zz⟩ ?_
        exact hl153 _ (zi h).symm
    ·have h := cond_f hb131 h
     refine ht_exit ?_
     refine pt_x_then ?_
     refine pt_x_then ?_
     refine pt_x_in ?_
     refine pt_pick [] (by kernel_rfl) (es' := []) rfl ?_
     exact hl126 _ (ho128 _ (zi h).symm).symm
theorem ok_wherryref11_Fold (s : ByteArray) (r : ByteArray) (h : Sh.wherryref11_Fold s = some r) : FnOK Tryd.prog 37 [.v (.string s)] (.v (.string r)) := by
  unfold Sh.wherryref11_Fold at h
  refine fn_ok func37 rfl (zl rfl) rfl rfl fun g0 hn hio => ?_
  refine zgg hn [_,(2,vs z0)] [0] [0] [zq [] 1 2] [(_,_)] rfl ⟨z2 rfl,zz⟩ ?_
  refine zgg hn [_,(3,vz)] [0] [0,1] [zq [] 1 3] [(_,_),(_,_)] rfl ⟨z2 rfl,zz⟩ ?_
  refine ht_seq ?_
  refine zgg hn [_,_,(4,vi 0)] [0,1] [0,1,2] [zq [] 2 4] [(_,_),(_,_),(_,_)] rfl ⟨z2 rfl,zz⟩ ?_
  refine ht_sub (fs := [(0,vs s),(3,.fl (.own 5) 1 (map (int .u8) [])),(4,vi 0)]) (.same _ (.sub _ (sub_nil 5 1) rfl (.same _ .nil))) ?_
  refine ht_loopS h (fun ((s37,s38) : (List Int) × Int) => [(0,vs s),(3,.fl (.own 5) 1 (map (int .u8) s37)),(4,vi s38)]) (fun (s54 : (List Int)) => [(3,.fl (.own 5) 1 (map (int .u8) s54))]) ?_ ?_
  ·rintro s54 h
   refine pt_then (ht_seq ?_)
   obtain ⟨v76, hv76, h⟩ := zn h
   refine zg hn [_,(27,.fl (.own 5) 1 (map (int .u8) s54)),(28,vs v76),(2,vs v76)] [0] [3] [⟨[],[0],[1],[(.slot 27)]⟩,zq [1] 2 28,zq [2] 3 2] [(_,_)] rfl ⟨zp rfl (op_move_take _ _ _ _ rfl),zp rfl ((Option.some.inj hv76) ▸ op_bytes_str _ _ _ s54 underlying25 underlying9 underlying5 rfl),z2 rfl,zz⟩ ?_
   refine pt_then (ht_ret ?_)
   obtain rfl := zi h
   exact pt_ret hio rfl (.tmp _ _ .nil) rfl rfl
  ·rintro u55 hl56 hr57 ⟨s37, s38⟩ rr60 h ho58
   refine ht_seq ?_
   refine zgg hn [_,_,_,(6,vi s38),(7,vs s),(8,vi (s.size : Int)),(9,vb (decide (s38 < (s.size : Int))))] [0,1,2] [0,1,2,6] [zq [2] 3 6,zq [0] 4 7,zq [4] 5 8,zq [3,5] 6 9] [(_,_),(_,_),(_,_),(_,_)] rfl ⟨z1 rfl,z1 rfl,zp rfl (oN underlying9 rfl),z4 rfl rfl,zz⟩ ?_
   refine ht_cond _ rfl (fun hb61 => ?_) (fun hb61 => ?_)
   ·have h := cond_t hb61 h
    refine ht_skip ?_
    refine pt_then (ht_seq ?_)
    refine ht_block ?_
    refine ht_seq ?_
    obtain ⟨v2, hv2, h⟩ := zn h
    refine zg hn [_,_,_,_,(12,vs s),(13,vi s38),(14,.v (.int .u8 v2)),(5,.v (.int .u8 v2))] [0,1,2,3] [0,1,2,7] [zq [0] 4 12,zq [2] 5 13,zq [4,5] 6 14,zq [6] 7 5] [(_,_),(_,_),(_,_),(_,_)] rfl ⟨z1 rfl,z1 rfl,zp rfl (op_chr _ _ _ s38 _ underlying9 rfl rfl hv2),z2 rfl,zz⟩ ?_
    refine pt_then (ht_seq ?_)
    refine ht_joinS h (fun (s67 : Int) => [(0,vs s),(3,.fl (.own 5) 1 (map (int .u8) s37)),(4,vi s38),(5,.v (.int .u8 s67))]) ?_ ?_
    ·rintro s67 h
     refine pt_then ?_
     obtain ⟨v18, hv18, h⟩ := zn h
     refine zg hn [_,_,_,_,(23,.fl (.own 5) 1 (map (int .u8) s37)),(24,.v (.int .u8 s67)),(25,.fl (.own 5) 1 (map (int .u8) [s67])),(26,.fl (.own 5) 1 (map (int .u8) v18)),(23,.any),(3,.fl (.own 5) 1 (map (int .u8) v18))] [0,1,2,3] [0,2,9] [⟨[],[1],[4],[(.slot 23)]⟩,zq [3] 5 24,zq [5] 6 25,⟨[6],[4],[8,7],[(.slot 26)]⟩,⟨[],[7],[9],[(.slot 3)]⟩] [(_,_),(_,_),(_,_)] rfl ⟨zp rfl (op_move_take _ _ _ _ rfl),z1 rfl,zp rfl (op_buildSlice _ _ 1 (.int .u8 0) (map (int .u8) [s67]) [(0, .int .u8 s67)] underlying25 sz5 zr5 (fun _ V w o a hv hes => by have e0 := rd_v hv hes (x := .tmp 24) rfl; simp only [List.map_toArray, List.map_cons, List.map_nil, e0]; try rfl) (litfill (by simp [Instr.fill, Value.cells]; rfl) (by simp [List.range, List.range.loop] <;> rfl)) (by simp [Value.oneCell']) rfl (by decide) (by decide) (by decide)),zp rfl (op_app _ _ _ _ _ el25 rfl rfl (map_len _) (map_len _) hv18 ((List.map_append).symm.trans (congrArg (map _) (app_eq hv18)))),zp rfl (op_assign_take _ _ _ _ rfl),zz⟩ ?_
     refine pt_inb ?_
     refine pt_then ?_
     obtain ⟨v19, hv19, h⟩ := zn h
     refine zg hn [_,_,_,(10,vi s38),(11,vi v19),(4,vi v19)] [0,1,2] [0,2,5] [zq [1] 3 10,zq [3] 4 11,⟨[4],[1],[5],[(.slot 4)]⟩] [(_,_),(_,_),(_,_)] rfl ⟨z1 rfl,zp rfl (oB rfl (ibind (f := int .i64) (Option.some.inj hv19))),zp rfl (LOp.drop [_] (op_assign _ _ _ _ rfl rfl)),zz⟩ ?_
     exact pt_next _ (zi h).symm rfl
    ·intro u68 h hl69 hr70
     refine ht_seq ?_
     refine ht_joinS h (fun (s71 : Bool) => [(0,vs s),(3,.fl (.own 5) 1 (map (int .u8) s37)),(4,vi s38),(5,.v (.int .u8 v2)),(20,vb s71)]) ?_ ?_
     ·rintro s71 h
      refine pt_then ?_
      refine ht_cond _ rfl (fun hb75 => ?_) (fun hb75 => ?_)
      ·have h := cond_t hb75 h
       obtain ⟨v8, hv8, h⟩ := zn h
       refine zg hn [_,_,_,_,_,(21,.v (.int .u8 v2)),(22,.v (.int .u8 v8)),(5,.v (.int .u8 v8))] [0,1,2,3,4] [0,1,2,7] [zq [3] 5 21,zq [5] 6 22,⟨[6],[3],[7],[(.slot 5)]⟩] [(_,_),(_,_),(_,_),(_,_)] rfl ⟨z1 rfl,zp rfl (oB rfl (ibind (f := int .u8) (Option.some.inj hv8))),zp rfl (LOp.drop [_] (op_assign _ _ _ _ rfl rfl)),zz⟩ ?_
       exact hl69 _ (zi h).symm
      ·have h := cond_f hb75 h
       refine ht_skip ?_
       refine pt_pick [0,1,2,3] (by kernel_rfl) (es' := [(_,_),(_,_),(_,_),(_,_)]) rfl ?_
       exact hl69 _ (zi h).symm
     ·intro u72 h hl73 hr74
      refine cond_some h (fun hg6_2 h => ?_) (fun hg6_2 h => ?_)
      ·refine zg hn [_,_,_,_,(15,.v (.int .u8 v2)),(16,vb (decide (65 ≤ v2))),(17,vb true),(18,.v (.int .u8 v2)),(19,vb (decide (v2 ≤ 90))),(20,vb (decide (v2 ≤ 90)))] [0,1,2,3] [0,1,2,3,9] [zq [3] 4 15,zq [4] 5 16,zq [5] 6 17,zq [6,3] 7 18,zq [6,7] 8 19,zq [6,8] 9 20] [(_,_),(_,_),(_,_),(_,_),(_,_)] rfl ⟨z1 rfl,z4 rfl rfl,z8 hg6_2 rfl,zr' rfl (oM rfl),zr' rfl (oB rfl rfl),z3 true rfl,zz⟩ ?_
       exact hl73 _ (zi h).symm
      ·refine zg hn [_,_,_,_,(15,.v (.int .u8 v2)),(16,vb (decide (65 ≤ v2))),(17,vb false),(18,.v undef),(19,.v undef),(20,vb false)] [0,1,2,3] [0,1,2,3,9] [zq [3] 4 15,zq [4] 5 16,zq [5] 6 17,zq [6] 7 18,zq [6] 8 19,zq [6] 9 20] [(_,_),(_,_),(_,_),(_,_),(_,_)] rfl ⟨z1 rfl,z4 rfl rfl,z8 hg6_2 rfl,zt rfl,zt rfl,z3 false rfl,zz⟩ ?_
       exact hl73 _ (zi h).symm
   ·have h := cond_f hb61 h
    refine ht_exit ?_
    refine pt_x_then ?_
    refine pt_x_then ?_
    refine pt_x_in ?_
    refine pt_pick [1] (by kernel_rfl) (es' := [(_,_)]) rfl ?_
    exact hl56 _ (ho58 _ (zi h).symm).symm
theorem ok_wherryref23_in (n : Int) (lo : Int) (hi : Int) (r : Bool) (h : Sh.wherryref23_in n lo hi = some r) : FnOK Tryd.prog 38 [.v (.int .i64 n), .v (.int .i64 lo), .v (.int .i64 hi)] (.v (.bool r)) := by
  unfold Sh.wherryref23_in at h
  refine fn_ok func38 rfl (zl rfl) rfl rfl fun g0 hn hio => ?_
  refine zgg hn [_,_,_,(6,vb false)] [0,1,2] [0,1,2] [zq [] 3 6] [(_,_),(_,_),(_,_)] rfl ⟨z2 rfl,zz⟩ ?_
  refine ht_seq ?_
  refine ht_joinS h (fun (s1 : Bool) => [(6,vb s1)]) ?_ ?_
  ·rintro s1 h
   refine pt_then (ht_ret ?_)
   obtain rfl := zi h
   exact pt_ret hio rfl (.tmp _ _ .nil) rfl rfl
  ·intro u2 h hl3 hr4
   refine cond_some h (fun hg1_3 h => ?_) (fun hg1_3 h => ?_)
   ·refine zg hn [_,_,_,(7,vi n),(8,vi lo),(9,vb (decide (lo ≤ n))),(10,vb true),(11,vi n),(12,vi hi),(13,vb (decide (n ≤ hi))),(14,vb (decide (n ≤ hi))),(6,vb (decide (n ≤ hi)))] [0,1,2] [11] [zq [0] 3 7,zq [1] 4 8,zq [3,4] 5 9,zq [5] 6 10,zq [6,0] 7 11,zq [6,2] 8 12,zq [6,7,8] 9 13,zq [6,9] 10 14,zq [10] 11 6] [(_,_)] rfl ⟨z1 rfl,z1 rfl,z4 rfl rfl,z8 hg1_3 rfl,zr' rfl (oM rfl),zr' rfl (oM rfl),zr' rfl (oB rfl rfl),z3 true rfl,z2 rfl,zz⟩ ?_
    exact hl3 _ (zi h).symm
   ·refine zg hn [_,_,_,(7,vi n),(8,vi lo),(9,vb (decide (lo ≤ n))),(10,vb false),(11,.v undef),(12,.v undef),(13,.v undef),(14,vb false),(6,vb false)] [0,1,2] [11] [zq [0] 3 7,zq [1] 4 8,zq [3,4] 5 9,zq [5] 6 10,zq [6] 7 11,zq [6] 8 12,zq [6] 9 13,zq [6] 10 14,zq [10] 11 6] [(_,_)] rfl ⟨z1 rfl,z1 rfl,z4 rfl rfl,z8 hg1_3 rfl,zt rfl,zt rfl,zt rfl,z3 false rfl,z2 rfl,zz⟩ ?_
    exact hl3 _ (zi h).symm
theorem ok_wherryref23_visible (s : ByteArray) (least : Int) (most : Int) (lo : Int) (r : Bool) (h : Sh.wherryref23_visible s least most lo = some r) : FnOK Tryd.prog 39 [.v (.string s), .v (.int .i64 least), .v (.int .i64 most), .v (.int .i64 lo)] (.v (.bool r)) := by
  unfold Sh.wherryref23_visible at h
  refine fn_ok func39 rfl (zl rfl) rfl rfl fun g0 hn hio => ?_
  refine zgg hn [_,_,_,_,(8,vb false)] [0,1,2,3] [0,1,2,3] [zq [] 4 8] [(_,_),(_,_),(_,_),(_,_)] rfl ⟨z2 rfl,zz⟩ ?_
  refine ht_seq ?_
  refine ht_seq ?_
  obtain ⟨v1, hv1, h⟩ := zn h
  refine zg hn [_,_,_,_,(10,vs s),(11,vi (s.size : Int)),(12,vi least),(13,vi most),(14,vb v1),(15,vb (!v1))] [0,1,2,3] [0,3,9] [zq [0] 4 10,zq [4] 5 11,zq [1] 6 12,zq [2] 7 13,zq [5,6,7] 8 14,zq [8] 9 15] [(_,_),(_,_),(_,_)] rfl ⟨z1 rfl,zp rfl (oN underlying9 rfl),z1 rfl,z1 rfl,zp rfl (op_call _ _ 38 _ _ rfl call38 rfl (ok_wherryref23_in (s.size : Int) least most _ hv1) rfl rfl),zp rfl (op_un _ _ _ _ rfl rfl),zz⟩ ?_
  refine pt_then ?_
  refine ht_cond _ rfl (fun hb2 => ?_) (fun hb2 => ?_)
  ·have h := cond_t hb2 h
   refine zgg hn [_,_,_,(8,vb false)] [0,1,2] [3] [zq [] 3 8] [(_,_)] rfl ⟨z2 rfl,zz⟩ ?_
   refine ht_ret ?_
   refine pt_r_then ?_
   obtain rfl := zi h
   exact pt_ret hio rfl (.tmp _ _ .nil) rfl rfl
  ·have h := cond_f hb2 h
   refine ht_skip ?_
   refine pt_then (ht_seq ?_)
   refine zgg hn [_,_,_,(9,vi 0)] [0,1,2] [0,1,3] [zq [] 3 9] [(_,_),(_,_),(_,_)] rfl ⟨z2 rfl,zz⟩ ?_
   refine ht_loopS h (fun (s12 : Int) => [(0,vs s),(3,vi lo),(9,vi s12)]) (fun (() : Unit) => []) ?_ ?_
   ·rintro ⟨⟩ h
    refine pt_then ?_
    refine zgg hn [(8,vb true)] [] [0] [zq [] 0 8] [(_,_)] rfl ⟨z2 rfl,zz⟩ ?_
    refine ht_ret ?_
    obtain rfl := zi h
    exact pt_ret hio rfl (.tmp _ _ .nil) rfl rfl
   ·rintro u15 hl16 hr17 s12 rr20 h ho18
    refine ht_seq ?_
    refine zgg hn [_,_,_,(16,vi s12),(17,vs s),(18,vi (s.size : Int)),(19,vb (decide (s12 < (s.size : Int))))] [0,1,2] [0,1,2,6] [zq [2] 3 16,zq [0] 4 17,zq [4] 5 18,zq [3,5] 6 19] [(_,_),(_,_),(_,_),(_,_)] rfl ⟨z1 rfl,z1 rfl,zp rfl (oN underlying9 rfl),z4 rfl rfl,zz⟩ ?_
    refine ht_cond _ rfl (fun hb21 => ?_) (fun hb21 => ?_)
    ·have h := cond_t hb21 h
     refine ht_skip ?_
     refine pt_then (ht_seq ?_)
     refine ht_block ?_
     refine ht_seq ?_
     obtain ⟨v4, hv4, h⟩ := zn h
     obtain ⟨v5, hv5, h⟩ := zn h
     obtain ⟨v6, hv6, h⟩ := zn h
     refine zg hn [_,_,_,_,(22,vs s),(23,vi s12),(24,.v (.int .u8 v4)),(25,vi v5),(26,vi lo),(27,vb v6),(28,vb (!v6))] [0,1,2,3] [0,1,2,10] [zq [0] 4 22,zq [2] 5 23,zq [4,5] 6 24,zq [6] 7 25,zq [1] 8 26,zq [7,8] 9 27,zq [9] 10 28] [(_,_),(_,_),(_,_),(_,_)] rfl ⟨z1 rfl,z1 rfl,zp rfl (op_chr _ _ _ s12 _ underlying9 rfl rfl hv4),zp rfl ((Option.some.inj hv5) ▸ op_conv _ _ _ underlying5 underlying3 rfl),z1 rfl,zp rfl (op_call _ _ 38 _ _ rfl call38 rfl (ok_wherryref23_in v5 lo 126 _ hv6) rfl rfl),zp rfl (op_un _ _ _ _ rfl rfl),zz⟩ ?_
     refine pt_then ?_
     refine ht_cond _ rfl (fun hb22 => ?_) (fun hb22 => ?_)
     ·have h := cond_t hb22 h
      refine zgg hn [_,_,_,_,(8,vb false)] [0,1,2,3] [4] [zq [] 4 8] [(_,_)] rfl ⟨z2 rfl,zz⟩ ?_
      refine ht_ret ?_
      refine pt_r_in ?_
      refine pt_r_then ?_
      refine pt_r_then ?_
      refine pt_r_in ?_
      refine pt_r_then ?_
      have h := hr17 _ (ho18 _ (zi h).symm).symm
      obtain rfl := zi h
      exact pt_ret hio rfl (.tmp _ _ .nil) rfl rfl
     ·have h := cond_f hb22 h
      refine ht_skip ?_
      refine pt_inb ?_
      refine pt_then ?_
      obtain ⟨v8, hv8, h⟩ := zn h
      refine zg hn [_,_,_,_,(20,vi s12),(21,vi v8),(9,vi v8)] [0,1,2,3] [0,1,6] [zq [2] 4 20,zq [4] 5 21,⟨[5],[2],[6],[(.slot 9)]⟩] [(_,_),(_,_),(_,_)] rfl ⟨z1 rfl,zp rfl (oB rfl (ibind (f := int .i64) (Option.some.inj hv8))),zp rfl (LOp.drop [_] (op_assign _ _ _ _ rfl rfl)),zz⟩ ?_
      exact pt_next _ (zi h).symm rfl
    ·have h := cond_f hb21 h
     refine ht_exit ?_
     refine pt_x_then ?_
     refine pt_x_then ?_
     refine pt_x_in ?_
     refine pt_pick [] (by kernel_rfl) (es' := []) rfl ?_
     exact hl16 _ (ho18 _ (zi h).symm).symm
theorem ok_wherryref23_Config (c : T_Config) (r : Bool) (h : Sh.wherryref23_Config c = some r) : FnOK Tryd.prog 20 [.agg [.v (.string ((c.Domains.getD 0 (⟨#[]⟩ : ByteArray)))), .v (.string ((c.Domains.getD 1 (⟨#[]⟩ : ByteArray)))), .v (.int .i64 c.Expiry), .v (.string c.User), .v (.string c.Secret), .v (.int .i64 c.Log), .v (.bool c.Held)]] (.v (.bool r)) := by
  unfold Sh.wherryref23_Config at h
  refine fn_ok func20 rfl (zl rfl) rfl rfl fun g0 hn hio => ?_
  refine zgg hn [_,(1,.box 53 [vs (c.Domains.getD 0 z0),vs (c.Domains.getD 1 z0),vi c.Expiry,vs c.User,vs c.Secret,vi c.Log,vb c.Held]),(2,vb false)] [0] [1] [zq [0] 1 1,zq [] 2 2] [(_,_)] rfl ⟨zp rfl (op_box _ _ _ _ rfl rfl rfl),z2 rfl,zz⟩ ?_
  refine ht_seq ?_
  refine ht_joinS h (fun (s9 : Bool) => [(2,vb s9)]) ?_ ?_
  ·rintro s9 h
   refine pt_then (ht_ret ?_)
   obtain rfl := zi h
   exact pt_ret hio rfl (.tmp _ _ .nil) rfl rfl
  ·intro u10 h hl11 hr12
   obtain ⟨v1, hv1, h⟩ := zn h
   refine cond_some h (fun hg1_4 h => ?_) (fun hg1_4 h => ?_)
   ·obtain ⟨v2, hv2, h⟩ := zn h
    refine cond_some h (fun hg1_10 h => ?_) (fun hg1_10 h => ?_)
    ·obtain ⟨v3, hv3, h⟩ := zn h
     obtain ⟨v4, hv4, h⟩ := zn h
     refine cond_some h (fun hg1_21 h => ?_) (fun hg1_21 h => ?_)
     ·obtain ⟨v5, hv5, h⟩ := zn h
      refine cond_some h (fun hg1_26 h => ?_) (fun hg1_26 h => ?_)
      ·obtain ⟨v6, hv6, h⟩ := zn h
       refine cond_some h (fun hg1_31 h => ?_) (fun hg1_31 h => ?_)
       ·obtain ⟨v7, hv7, h⟩ := zn h
        refine cond_some h (fun hg1_36 h => ?_) (fun hg1_36 h => ?_)
        ·obtain ⟨v8, hv8, h⟩ := zn h
         refine ht_anyR (by kernel_rfl) hn (El := (_ :: (3,.ptr 1 0) :: (4,.ptr 1 0) :: (5,vs (c.Domains.getD 0 z0)) :: (6,vb v1) :: (7,vb true) :: (8,.ptr 1 0) :: (9,.ptr 1 1) :: (10,vs (c.Domains.getD 1 z0)) :: (11,vb v2) :: (12,vb v2) :: (13,vb true) :: (14,.ptr 1 0) :: (15,.ptr 1 0) :: (16,vs (c.Domains.getD 0 z0)) :: (17,vs v3) :: (18,.ptr 1 0) :: (19,.ptr 1 1) :: (20,vs (c.Domains.getD 1 z0)) :: (21,vs v4) :: (22,vb (!(v3.toList == v4.toList))) :: (23,vb (!(v3.toList == v4.toList))) :: (24,vb true) :: (25,.ptr 1 2) :: (26,vi c.Expiry) :: (27,vb v5) :: (28,vb v5) :: (29,vb true) :: (30,.ptr 1 3) :: (31,vs c.User) :: (32,vb v6) :: (33,vb v6) :: (34,vb true) :: (35,.ptr 1 4) :: (36,vs c.Secret) :: (37,vb v7) :: (38,vb v7) :: (39,vb true) :: (40,.ptr 1 5) :: (41,vi c.Log) :: (42,vb v8) :: (43,vb v8) :: (2,vb v8) :: [])) (init := [0]) (fin := [42]) (sps := (zq [0] 1 3 :: zq [1,0] 2 4 :: zq [2,0] 3 5 :: zq [3] 4 6 :: zq [4] 5 7 :: zq [5,0] 6 8 :: zq [5,6,0] 7 9 :: zq [5,7,0] 8 10 :: zq [5,8] 9 11 :: zq [5,9] 10 12 :: zq [10] 11 13 :: zq [11,0] 12 14 :: zq [11,12,0] 13 15 :: zq [11,13,0] 14 16 :: zq [11,14] 15 17 :: zq [11,0] 16 18 :: zq [11,16,0] 17 19 :: zq [11,17,0] 18 20 :: zq [11,18] 19 21 :: zq [11,15,19] 20 22 :: zq [11,20] 21 23 :: zq [21] 22 24 :: zq [22,0] 23 25 :: zq [22,23,0] 24 26 :: zq [22,24] 25 27 :: zq [22,25] 26 28 :: zq [26] 27 29 :: zq [27,0] 28 30 :: zq [27,28,0] 29 31 :: zq [27,29] 30 32 :: zq [27,30] 31 33 :: zq [31] 32 34 :: zq [32,0] 33 35 :: zq [32,33,0] 34 36 :: zq [32,34] 35 37 :: zq [32,35] 36 38 :: zq [36] 37 39 :: zq [37,0] 38 40 :: zq [37,38,0] 39 41 :: zq [37,39] 40 42 :: zq [37,40] 41 43 :: zq [41] 42 2 :: [])) (es' := [(2,vb v8)]) (by kernel_rfl) rfl rfl ⟨zp rfl (oF underlying53 rfl sz51),zp rfl (op_indexAddr_a _ _ _ _ 2 1 0 0 1 underlying51 sz9 rfl rfl (by decide) (by decide)),zp rfl (oL underlying9 rfl),zp rfl (op_call _ _ 36 _ _ rfl call36 rfl (ok_wherryref11_Domain ((c.Domains.getD 0 z0)) _ hv1) rfl rfl),z8 hg1_4 rfl,zr' rfl (oF underlying53 rfl sz51),zr' rfl (op_indexAddr_a _ _ _ _ 2 1 0 1 1 underlying51 sz9 rfl rfl (by decide) (by decide)),zr' rfl (oL underlying9 rfl),zr' rfl (op_call _ _ 36 _ _ rfl call36 rfl (ok_wherryref11_Domain ((c.Domains.getD 1 z0)) _ hv2) rfl rfl),z3 true rfl,z8 hg1_10 rfl,zr' rfl (oF underlying53 rfl sz51),zr' rfl (op_indexAddr_a _ _ _ _ 2 1 0 0 1 underlying51 sz9 rfl rfl (by decide) (by decide)),zr' rfl (oL underlying9 rfl),zr' rfl (op_call _ _ 37 _ _ rfl call37 rfl (ok_wherryref11_Fold ((c.Domains.getD 0 z0)) _ hv3) rfl rfl),zr' rfl (oF underlying53 rfl sz51),zr' rfl (op_indexAddr_a _ _ _ _ 2 1 0 1 1 underlying51 sz9 rfl rfl (by decide) (by decide)),zr' rfl (oL underlying9 rfl),zr' rfl (op_call _ _ 37 _ _ rfl call37 rfl (ok_wherryref11_Fold ((c.Domains.getD 1 z0)) _ hv4) rfl rfl),zr' rfl (oB rfl rfl),z3 true rfl,z8 hg1_21 rfl,zr' rfl (oF underlying53 rfl sz3),zr' rfl (oL underlying3 rfl),zr' rfl (op_call _ _ 38 _ _ rfl call38 rfl (ok_wherryref23_in c.Expiry 1 1099511627776 _ hv5) rfl rfl),z3 true rfl,z8 hg1_26 rfl,zr' rfl (oF underlying53 rfl sz9),zr' rfl (oL underlying9 rfl),zr' rfl (op_call _ _ 39 _ _ rfl call39 rfl (ok_wherryref23_visible c.User 1 64 33 _ hv6) rfl rfl),z3 true rfl,z8 hg1_31 rfl,zr' rfl (oF underlying53 rfl sz9),zr' rfl (oL underlying9 rfl),zr' rfl (op_call _ _ 39 _ _ rfl call39 rfl (ok_wherryref23_visible c.Secret 1 64 33 _ hv7) rfl rfl),z3 true rfl,z8 hg1_36 rfl,zr' rfl (oF underlying53 rfl sz3),zr' rfl (oL underlying3 rfl),zr' rfl (op_call _ _ 38 _ _ rfl call38 rfl (ok_wherryref23_in c.Log 1 131072 _ hv8) rfl rfl),z3 true rfl,z2 rfl,zz⟩ ?_
         exact hl11 _ (zi h).symm
        ·refine ht_anyR (by kernel_rfl) hn (El := (_ :: (3,.ptr 1 0) :: (4,.ptr 1 0) :: (5,vs (c.Domains.getD 0 z0)) :: (6,vb v1) :: (7,vb true) :: (8,.ptr 1 0) :: (9,.ptr 1 1) :: (10,vs (c.Domains.getD 1 z0)) :: (11,vb v2) :: (12,vb v2) :: (13,vb true) :: (14,.ptr 1 0) :: (15,.ptr 1 0) :: (16,vs (c.Domains.getD 0 z0)) :: (17,vs v3) :: (18,.ptr 1 0) :: (19,.ptr 1 1) :: (20,vs (c.Domains.getD 1 z0)) :: (21,vs v4) :: (22,vb (!(v3.toList == v4.toList))) :: (23,vb (!(v3.toList == v4.toList))) :: (24,vb true) :: (25,.ptr 1 2) :: (26,vi c.Expiry) :: (27,vb v5) :: (28,vb v5) :: (29,vb true) :: (30,.ptr 1 3) :: (31,vs c.User) :: (32,vb v6) :: (33,vb v6) :: (34,vb true) :: (35,.ptr 1 4) :: (36,vs c.Secret) :: (37,vb v7) :: (38,vb v7) :: (39,vb false) :: (40,.v undef) :: (41,.v undef) :: (42,.v undef) :: (43,vb false) :: (2,vb false) :: [])) (init := [0]) (fin := [42]) (sps := (zq [0] 1 3 :: zq [1,0] 2 4 :: zq [2,0] 3 5 :: zq [3] 4 6 :: zq [4] 5 7 :: zq [5,0] 6 8 :: zq [5,6,0] 7 9 :: zq [5,7,0] 8 10 :: zq [5,8] 9 11 :: zq [5,9] 10 12 :: zq [10] 11 13 :: zq [11,0] 12 14 :: zq [11,12,0] 13 15 :: zq [11,13,0] 14 16 :: zq [11,14] 15 17 :: zq [11,0] 16 18 :: zq [11,16,0] 17 19 :: zq [11,17,0] 18 20 :: zq [11,18] 19 21 :: zq [11,15,19] 20 22 :: zq [11,20] 21 23 :: zq [21] 22 24 :: zq [22,0] 23 25 :: zq [22,23,0] 24 26 :: zq [22,24] 25 27 :: zq [22,25] 26 28 :: zq [26] 27 29 :: zq [27,0] 28 30 :: zq [27,28,0] 29 31 :: zq [27,29] 30 32 :: zq [27,30] 31 33 :: zq [31] 32 34 :: zq [32,0] 33 35 :: zq [32,33,0] 34 36 :: zq [32,34] 35 37 :: zq [32,35] 36 38 :: zq [36] 37 39 :: zq [37] 38 40 :: zq [37] 39 41 :: zq [37] 40 42 :: zq [37] 41 43 :: zq [41] 42 2 :: [])) (es' := [(2,vb false)]) (by kernel_rfl) rfl rfl ⟨zp rfl (oF underlying53 rfl sz51),zp rfl (op_indexAddr_a _ _ _ _ 2 1 0 0 1 underlying51 sz9 rfl rfl (by decide) (by decide)),zp rfl (oL underlying9 rfl),zp rfl (op_call _ _ 36 _ _ rfl call36 rfl (ok_wherryref11_Domain ((c.Domains.getD 0 z0)) _ hv1) rfl rfl),z8 hg1_4 rfl,zr' rfl (oF underlying53 rfl sz51),zr' rfl (op_indexAddr_a _ _ _ _ 2 1 0 1 1 underlying51 sz9 rfl rfl (by decide) (by decide)),zr' rfl (oL underlying9 rfl),zr' rfl (op_call _ _ 36 _ _ rfl call36 rfl (ok_wherryref11_Domain ((c.Domains.getD 1 z0)) _ hv2) rfl rfl),z3 true rfl,z8 hg1_10 rfl,zr' rfl (oF underlying53 rfl sz51),zr' rfl (op_indexAddr_a _ _ _ _ 2 1 0 0 1 underlying51 sz9 rfl rfl (by decide) (by decide)),zr' rfl (oL underlying9 rfl),zr' rfl (op_call _ _ 37 _ _ rfl call37 rfl (ok_wherryref11_Fold ((c.Domains.getD 0 z0)) _ hv3) rfl rfl),zr' rfl (oF underlying53 rfl sz51),zr' rfl (op_indexAddr_a _ _ _ _ 2 1 0 1 1 underlying51 sz9 rfl rfl (by decide) (by decide)),zr' rfl (oL underlying9 rfl),zr' rfl (op_call _ _ 37 _ _ rfl call37 rfl (ok_wherryref11_Fold ((c.Domains.getD 1 z0)) _ hv4) rfl rfl),zr' rfl (oB rfl rfl),z3 true rfl,z8 hg1_21 rfl,zr' rfl (oF underlying53 rfl sz3),zr' rfl (oL underlying3 rfl),zr' rfl (op_call _ _ 38 _ _ rfl call38 rfl (ok_wherryref23_in c.Expiry 1 1099511627776 _ hv5) rfl rfl),z3 true rfl,z8 hg1_26 rfl,zr' rfl (oF underlying53 rfl sz9),zr' rfl (oL underlying9 rfl),zr' rfl (op_call _ _ 39 _ _ rfl call39 rfl (ok_wherryref23_visible c.User 1 64 33 _ hv6) rfl rfl),z3 true rfl,z8 hg1_31 rfl,zr' rfl (oF underlying53 rfl sz9),zr' rfl (oL underlying9 rfl),zr' rfl (op_call _ _ 39 _ _ rfl call39 rfl (ok_wherryref23_visible c.Secret 1 64 33 _ hv7) rfl rfl),z3 true rfl,z8 hg1_36 rfl,zt rfl,zt rfl,zt rfl,z3 false rfl,z2 rfl,zz⟩ ?_
         exact hl11 _ (zi h).symm
       ·refine ht_anyR (by kernel_rfl) hn (El := (_ :: (3,.ptr 1 0) :: (4,.ptr 1 0) :: (5,vs (c.Domains.getD 0 z0)) :: (6,vb v1) :: (7,vb true) :: (8,.ptr 1 0) :: (9,.ptr 1 1) :: (10,vs (c.Domains.getD 1 z0)) :: (11,vb v2) :: (12,vb v2) :: (13,vb true) :: (14,.ptr 1 0) :: (15,.ptr 1 0) :: (16,vs (c.Domains.getD 0 z0)) :: (17,vs v3) :: (18,.ptr 1 0) :: (19,.ptr 1 1) :: (20,vs (c.Domains.getD 1 z0)) :: (21,vs v4) :: (22,vb (!(v3.toList == v4.toList))) :: (23,vb (!(v3.toList == v4.toList))) :: (24,vb true) :: (25,.ptr 1 2) :: (26,vi c.Expiry) :: (27,vb v5) :: (28,vb v5) :: (29,vb true) :: (30,.ptr 1 3) :: (31,vs c.User) :: (32,vb v6) :: (33,vb v6) :: (34,vb false) :: (35,.v undef) :: (36,.v undef) :: (37,.v undef) :: (38,vb false) :: (39,vb false) :: (40,.v undef) :: (41,.v undef) :: (42,.v undef) :: (43,vb false) :: (2,vb false) :: [])) (init := [0]) (fin := [42]) (sps := (zq [0] 1 3 :: zq [1,0] 2 4 :: zq [2,0] 3 5 :: zq [3] 4 6 :: zq [4] 5 7 :: zq [5,0] 6 8 :: zq [5,6,0] 7 9 :: zq [5,7,0] 8 10 :: zq [5,8] 9 11 :: zq [5,9] 10 12 :: zq [10] 11 13 :: zq [11,0] 12 14 :: zq [11,12,0] 13 15 :: zq [11,13,0] 14 16 :: zq [11,14] 15 17 :: zq [11,0] 16 18 :: zq [11,16,0] 17 19 :: zq [11,17,0] 18 20 :: zq [11,18] 19 21 :: zq [11,15,19] 20 22 :: zq [11,20] 21 23 :: zq [21] 22 24 :: zq [22,0] 23 25 :: zq [22,23,0] 24 26 :: zq [22,24] 25 27 :: zq [22,25] 26 28 :: zq [26] 27 29 :: zq [27,0] 28 30 :: zq [27,28,0] 29 31 :: zq [27,29] 30 32 :: zq [27,30] 31 33 :: zq [31] 32 34 :: zq [32] 33 35 :: zq [32] 34 36 :: zq [32] 35 37 :: zq [32] 36 38 :: zq [36] 37 39 :: zq [37] 38 40 :: zq [37] 39 41 :: zq [37] 40 42 :: zq [37] 41 43 :: zq [41] 42 2 :: [])) (es' := [(2,vb false)]) (by kernel_rfl) rfl rfl ⟨zp rfl (oF underlying53 rfl sz51),zp rfl (op_indexAddr_a _ _ _ _ 2 1 0 0 1 underlying51 sz9 rfl rfl (by decide) (by decide)),zp rfl (oL underlying9 rfl),zp rfl (op_call _ _ 36 _ _ rfl call36 rfl (ok_wherryref11_Domain ((c.Domains.getD 0 z0)) _ hv1) rfl rfl),z8 hg1_4 rfl,zr' rfl (oF underlying53 rfl sz51),zr' rfl (op_indexAddr_a _ _ _ _ 2 1 0 1 1 underlying51 sz9 rfl rfl (by decide) (by decide)),zr' rfl (oL underlying9 rfl),zr' rfl (op_call _ _ 36 _ _ rfl call36 rfl (ok_wherryref11_Domain ((c.Domains.getD 1 z0)) _ hv2) rfl rfl),z3 true rfl,z8 hg1_10 rfl,zr' rfl (oF underlying53 rfl sz51),zr' rfl (op_indexAddr_a _ _ _ _ 2 1 0 0 1 underlying51 sz9 rfl rfl (by decide) (by decide)),zr' rfl (oL underlying9 rfl),zr' rfl (op_call _ _ 37 _ _ rfl call37 rfl (ok_wherryref11_Fold ((c.Domains.getD 0 z0)) _ hv3) rfl rfl),zr' rfl (oF underlying53 rfl sz51),zr' rfl (op_indexAddr_a _ _ _ _ 2 1 0 1 1 underlying51 sz9 rfl rfl (by decide) (by decide)),zr' rfl (oL underlying9 rfl),zr' rfl (op_call _ _ 37 _ _ rfl call37 rfl (ok_wherryref11_Fold ((c.Domains.getD 1 z0)) _ hv4) rfl rfl),zr' rfl (oB rfl rfl),z3 true rfl,z8 hg1_21 rfl,zr' rfl (oF underlying53 rfl sz3),zr' rfl (oL underlying3 rfl),zr' rfl (op_call _ _ 38 _ _ rfl call38 rfl (ok_wherryref23_in c.Expiry 1 1099511627776 _ hv5) rfl rfl),z3 true rfl,z8 hg1_26 rfl,zr' rfl (oF underlying53 rfl sz9),zr' rfl (oL underlying9 rfl),zr' rfl (op_call _ _ 39 _ _ rfl call39 rfl (ok_wherryref23_visible c.User 1 64 33 _ hv6) rfl rfl),z3 true rfl,z8 hg1_31 rfl,zt rfl,zt rfl,zt rfl,z3 false rfl,z1 rfl,zt rfl,zt rfl,zt rfl,z3 false rfl,z2 rfl,zz⟩ ?_
        exact hl11 _ (zi h).symm
      ·refine ht_anyR (by kernel_rfl) hn (El := (_ :: (3,.ptr 1 0) :: (4,.ptr 1 0) :: (5,vs (c.Domains.getD 0 z0)) :: (6,vb v1) :: (7,vb true) :: (8,.ptr 1 0) :: (9,.ptr 1 1) :: (10,vs (c.Domains.getD 1 z0)) :: (11,vb v2) :: (12,vb v2) :: (13,vb true) :: (14,.ptr 1 0) :: (15,.ptr 1 0) :: (16,vs (c.Domains.getD 0 z0)) :: (17,vs v3) :: (18,.ptr 1 0) :: (19,.ptr 1 1) :: (20,vs (c.Domains.getD 1 z0)) :: (21,vs v4) :: (22,vb (!(v3.toList == v4.toList))) :: (23,vb (!(v3.toList == v4.toList))) :: (24,vb true) :: (25,.ptr 1 2) :: (26,vi c.Expiry) :: (27,vb v5) :: (28,vb v5) :: (29,vb false) :: (30,.v undef) :: (31,.v undef) :: (32,.v undef) :: (33,vb false) :: (34,vb false) :: (35,.v undef) :: (36,.v undef) :: (37,.v undef) :: (38,vb false) :: (39,vb false) :: (40,.v undef) :: (41,.v undef) :: (42,.v undef) :: (43,vb false) :: (2,vb false) :: [])) (init := [0]) (fin := [42]) (sps := (zq [0] 1 3 :: zq [1,0] 2 4 :: zq [2,0] 3 5 :: zq [3] 4 6 :: zq [4] 5 7 :: zq [5,0] 6 8 :: zq [5,6,0] 7 9 :: zq [5,7,0] 8 10 :: zq [5,8] 9 11 :: zq [5,9] 10 12 :: zq [10] 11 13 :: zq [11,0] 12 14 :: zq [11,12,0] 13 15 :: zq [11,13,0] 14 16 :: zq [11,14] 15 17 :: zq [11,0] 16 18 :: zq [11,16,0] 17 19 :: zq [11,17,0] 18 20 :: zq [11,18] 19 21 :: zq [11,15,19] 20 22 :: zq [11,20] 21 23 :: zq [21] 22 24 :: zq [22,0] 23 25 :: zq [22,23,0] 24 26 :: zq [22,24] 25 27 :: zq [22,25] 26 28 :: zq [26] 27 29 :: zq [27] 28 30 :: zq [27] 29 31 :: zq [27] 30 32 :: zq [27] 31 33 :: zq [31] 32 34 :: zq [32] 33 35 :: zq [32] 34 36 :: zq [32] 35 37 :: zq [32] 36 38 :: zq [36] 37 39 :: zq [37] 38 40 :: zq [37] 39 41 :: zq [37] 40 42 :: zq [37] 41 43 :: zq [41] 42 2 :: [])) (es' := [(2,vb false)]) (by kernel_rfl) rfl rfl ⟨zp rfl (oF underlying53 rfl sz51),zp rfl (op_indexAddr_a _ _ _ _ 2 1 0 0 1 underlying51 sz9 rfl rfl (by decide) (by decide)),zp rfl (oL underlying9 rfl),zp rfl (op_call _ _ 36 _ _ rfl call36 rfl (ok_wherryref11_Domain ((c.Domains.getD 0 z0)) _ hv1) rfl rfl),z8 hg1_4 rfl,zr' rfl (oF underlying53 rfl sz51),zr' rfl (op_indexAddr_a _ _ _ _ 2 1 0 1 1 underlying51 sz9 rfl rfl (by decide) (by decide)),zr' rfl (oL underlying9 rfl),zr' rfl (op_call _ _ 36 _ _ rfl call36 rfl (ok_wherryref11_Domain ((c.Domains.getD 1 z0)) _ hv2) rfl rfl),z3 true rfl,z8 hg1_10 rfl,zr' rfl (oF underlying53 rfl sz51),zr' rfl (op_indexAddr_a _ _ _ _ 2 1 0 0 1 underlying51 sz9 rfl rfl (by decide) (by decide)),zr' rfl (oL underlying9 rfl),zr' rfl (op_call _ _ 37 _ _ rfl call37 rfl (ok_wherryref11_Fold ((c.Domains.getD 0 z0)) _ hv3) rfl rfl),zr' rfl (oF underlying53 rfl sz51),zr' rfl (op_indexAddr_a _ _ _ _ 2 1 0 1 1 underlying51 sz9 rfl rfl (by decide) (by decide)),zr' rfl (oL underlying9 rfl),zr' rfl (op_call _ _ 37 _ _ rfl call37 rfl (ok_wherryref11_Fold ((c.Domains.getD 1 z0)) _ hv4) rfl rfl),zr' rfl (oB rfl rfl),z3 true rfl,z8 hg1_21 rfl,zr' rfl (oF underlying53 rfl sz3),zr' rfl (oL underlying3 rfl),zr' rfl (op_call _ _ 38 _ _ rfl call38 rfl (ok_wherryref23_in c.Expiry 1 1099511627776 _ hv5) rfl rfl),z3 true rfl,z8 hg1_26 rfl,zt rfl,zt rfl,zt rfl,z3 false rfl,z1 rfl,zt rfl,zt rfl,zt rfl,z3 false rfl,z1 rfl,zt rfl,zt rfl,zt rfl,z3 false rfl,z2 rfl,zz⟩ ?_
       exact hl11 _ (zi h).symm
     ·refine ht_anyR (by kernel_rfl) hn (El := (_ :: (3,.ptr 1 0) :: (4,.ptr 1 0) :: (5,vs (c.Domains.getD 0 z0)) :: (6,vb v1) :: (7,vb true) :: (8,.ptr 1 0) :: (9,.ptr 1 1) :: (10,vs (c.Domains.getD 1 z0)) :: (11,vb v2) :: (12,vb v2) :: (13,vb true) :: (14,.ptr 1 0) :: (15,.ptr 1 0) :: (16,vs (c.Domains.getD 0 z0)) :: (17,vs v3) :: (18,.ptr 1 0) :: (19,.ptr 1 1) :: (20,vs (c.Domains.getD 1 z0)) :: (21,vs v4) :: (22,vb (!(v3.toList == v4.toList))) :: (23,vb (!(v3.toList == v4.toList))) :: (24,vb false) :: (25,.v undef) :: (26,.v undef) :: (27,.v undef) :: (28,vb false) :: (29,vb false) :: (30,.v undef) :: (31,.v undef) :: (32,.v undef) :: (33,vb false) :: (34,vb false) :: (35,.v undef) :: (36,.v undef) :: (37,.v undef) :: (38,vb false) :: (39,vb false) :: (40,.v undef) :: (41,.v undef) :: (42,.v undef) :: (43,vb false) :: (2,vb false) :: [])) (init := [0]) (fin := [42]) (sps := (zq [0] 1 3 :: zq [1,0] 2 4 :: zq [2,0] 3 5 :: zq [3] 4 6 :: zq [4] 5 7 :: zq [5,0] 6 8 :: zq [5,6,0] 7 9 :: zq [5,7,0] 8 10 :: zq [5,8] 9 11 :: zq [5,9] 10 12 :: zq [10] 11 13 :: zq [11,0] 12 14 :: zq [11,12,0] 13 15 :: zq [11,13,0] 14 16 :: zq [11,14] 15 17 :: zq [11,0] 16 18 :: zq [11,16,0] 17 19 :: zq [11,17,0] 18 20 :: zq [11,18] 19 21 :: zq [11,15,19] 20 22 :: zq [11,20] 21 23 :: zq [21] 22 24 :: zq [22] 23 25 :: zq [22] 24 26 :: zq [22] 25 27 :: zq [22] 26 28 :: zq [26] 27 29 :: zq [27] 28 30 :: zq [27] 29 31 :: zq [27] 30 32 :: zq [27] 31 33 :: zq [31] 32 34 :: zq [32] 33 35 :: zq [32] 34 36 :: zq [32] 35 37 :: zq [32] 36 38 :: zq [36] 37 39 :: zq [37] 38 40 :: zq [37] 39 41 :: zq [37] 40 42 :: zq [37] 41 43 :: zq [41] 42 2 :: [])) (es' := [(2,vb false)]) (by kernel_rfl) rfl rfl ⟨zp rfl (oF underlying53 rfl sz51),zp rfl (op_indexAddr_a _ _ _ _ 2 1 0 0 1 underlying51 sz9 rfl rfl (by decide) (by decide)),zp rfl (oL underlying9 rfl),zp rfl (op_call _ _ 36 _ _ rfl call36 rfl (ok_wherryref11_Domain ((c.Domains.getD 0 z0)) _ hv1) rfl rfl),z8 hg1_4 rfl,zr' rfl (oF underlying53 rfl sz51),zr' rfl (op_indexAddr_a _ _ _ _ 2 1 0 1 1 underlying51 sz9 rfl rfl (by decide) (by decide)),zr' rfl (oL underlying9 rfl),zr' rfl (op_call _ _ 36 _ _ rfl call36 rfl (ok_wherryref11_Domain ((c.Domains.getD 1 z0)) _ hv2) rfl rfl),z3 true rfl,z8 hg1_10 rfl,zr' rfl (oF underlying53 rfl sz51),zr' rfl (op_indexAddr_a _ _ _ _ 2 1 0 0 1 underlying51 sz9 rfl rfl (by decide) (by decide)),zr' rfl (oL underlying9 rfl),zr' rfl (op_call _ _ 37 _ _ rfl call37 rfl (ok_wherryref11_Fold ((c.Domains.getD 0 z0)) _ hv3) rfl rfl),zr' rfl (oF underlying53 rfl sz51),zr' rfl (op_indexAddr_a _ _ _ _ 2 1 0 1 1 underlying51 sz9 rfl rfl (by decide) (by decide)),zr' rfl (oL underlying9 rfl),zr' rfl (op_call _ _ 37 _ _ rfl call37 rfl (ok_wherryref11_Fold ((c.Domains.getD 1 z0)) _ hv4) rfl rfl),zr' rfl (oB rfl rfl),z3 true rfl,z8 hg1_21 rfl,zt rfl,zt rfl,zt rfl,z3 false rfl,z1 rfl,zt rfl,zt rfl,zt rfl,z3 false rfl,z1 rfl,zt rfl,zt rfl,zt rfl,z3 false rfl,z1 rfl,zt rfl,zt rfl,zt rfl,z3 false rfl,z2 rfl,zz⟩ ?_
      exact hl11 _ (zi h).symm
    ·refine ht_anyR (by kernel_rfl) hn (El := (_ :: (3,.ptr 1 0) :: (4,.ptr 1 0) :: (5,vs (c.Domains.getD 0 z0)) :: (6,vb v1) :: (7,vb true) :: (8,.ptr 1 0) :: (9,.ptr 1 1) :: (10,vs (c.Domains.getD 1 z0)) :: (11,vb v2) :: (12,vb v2) :: (13,vb false) :: (14,.v undef) :: (15,.v undef) :: (16,.v undef) :: (17,.v undef) :: (18,.v undef) :: (19,.v undef) :: (20,.v undef) :: (21,.v undef) :: (22,.v undef) :: (23,vb false) :: (24,vb false) :: (25,.v undef) :: (26,.v undef) :: (27,.v undef) :: (28,vb false) :: (29,vb false) :: (30,.v undef) :: (31,.v undef) :: (32,.v undef) :: (33,vb false) :: (34,vb false) :: (35,.v undef) :: (36,.v undef) :: (37,.v undef) :: (38,vb false) :: (39,vb false) :: (40,.v undef) :: (41,.v undef) :: (42,.v undef) :: (43,vb false) :: (2,vb false) :: [])) (init := [0]) (fin := [42]) (sps := (zq [0] 1 3 :: zq [1,0] 2 4 :: zq [2,0] 3 5 :: zq [3] 4 6 :: zq [4] 5 7 :: zq [5,0] 6 8 :: zq [5,6,0] 7 9 :: zq [5,7,0] 8 10 :: zq [5,8] 9 11 :: zq [5,9] 10 12 :: zq [10] 11 13 :: zq [11] 12 14 :: zq [11] 13 15 :: zq [11] 14 16 :: zq [11] 15 17 :: zq [11] 16 18 :: zq [11] 17 19 :: zq [11] 18 20 :: zq [11] 19 21 :: zq [11] 20 22 :: zq [11] 21 23 :: zq [21] 22 24 :: zq [22] 23 25 :: zq [22] 24 26 :: zq [22] 25 27 :: zq [22] 26 28 :: zq [26] 27 29 :: zq [27] 28 30 :: zq [27] 29 31 :: zq [27] 30 32 :: zq [27] 31 33 :: zq [31] 32 34 :: zq [32] 33 35 :: zq [32] 34 36 :: zq [32] 35 37 :: zq [32] 36 38 :: zq [36] 37 39 :: zq [37] 38 40 :: zq [37] 39 41 :: zq [37] 40 42 :: zq [37] 41 43 :: zq [41] 42 2 :: [])) (es' := [(2,vb false)]) (by kernel_rfl) rfl rfl ⟨zp rfl (oF underlying53 rfl sz51),zp rfl (op_indexAddr_a _ _ _ _ 2 1 0 0 1 underlying51 sz9 rfl rfl (by decide) (by decide)),zp rfl (oL underlying9 rfl),zp rfl (op_call _ _ 36 _ _ rfl call36 rfl (ok_wherryref11_Domain ((c.Domains.getD 0 z0)) _ hv1) rfl rfl),z8 hg1_4 rfl,zr' rfl (oF underlying53 rfl sz51),zr' rfl (op_indexAddr_a _ _ _ _ 2 1 0 1 1 underlying51 sz9 rfl rfl (by decide) (by decide)),zr' rfl (oL underlying9 rfl),zr' rfl (op_call _ _ 36 _ _ rfl call36 rfl (ok_wherryref11_Domain ((c.Domains.getD 1 z0)) _ hv2) rfl rfl),z3 true rfl,z8 hg1_10 rfl,zt rfl,zt rfl,zt rfl,zt rfl,zt rfl,zt rfl,zt rfl,zt rfl,zt rfl,z3 false rfl,z1 rfl,zt rfl,zt rfl,zt rfl,z3 false rfl,z1 rfl,zt rfl,zt rfl,zt rfl,z3 false rfl,z1 rfl,zt rfl,zt rfl,zt rfl,z3 false rfl,z1 rfl,zt rfl,zt rfl,zt rfl,z3 false rfl,z2 rfl,zz⟩ ?_
     exact hl11 _ (zi h).symm
   ·refine ht_anyR (by kernel_rfl) hn (El := (_ :: (3,.ptr 1 0) :: (4,.ptr 1 0) :: (5,vs (c.Domains.getD 0 z0)) :: (6,vb v1) :: (7,vb false) :: (8,.v undef) :: (9,.v undef) :: (10,.v undef) :: (11,.v undef) :: (12,vb false) :: (13,vb false) :: (14,.v undef) :: (15,.v undef) :: (16,.v undef) :: (17,.v undef) :: (18,.v undef) :: (19,.v undef) :: (20,.v undef) :: (21,.v undef) :: (22,.v undef) :: (23,vb false) :: (24,vb false) :: (25,.v undef) :: (26,.v undef) :: (27,.v undef) :: (28,vb false) :: (29,vb false) :: (30,.v undef) :: (31,.v undef) :: (32,.v undef) :: (33,vb false) :: (34,vb false) :: (35,.v undef) :: (36,.v undef) :: (37,.v undef) :: (38,vb false) :: (39,vb false) :: (40,.v undef) :: (41,.v undef) :: (42,.v undef) :: (43,vb false) :: (2,vb false) :: [])) (init := [0]) (fin := [42]) (sps := (zq [0] 1 3 :: zq [1,0] 2 4 :: zq [2,0] 3 5 :: zq [3] 4 6 :: zq [4] 5 7 :: zq [5] 6 8 :: zq [5] 7 9 :: zq [5] 8 10 :: zq [5] 9 11 :: zq [5] 10 12 :: zq [10] 11 13 :: zq [11] 12 14 :: zq [11] 13 15 :: zq [11] 14 16 :: zq [11] 15 17 :: zq [11] 16 18 :: zq [11] 17 19 :: zq [11] 18 20 :: zq [11] 19 21 :: zq [11] 20 22 :: zq [11] 21 23 :: zq [21] 22 24 :: zq [22] 23 25 :: zq [22] 24 26 :: zq [22] 25 27 :: zq [22] 26 28 :: zq [26] 27 29 :: zq [27] 28 30 :: zq [27] 29 31 :: zq [27] 30 32 :: zq [27] 31 33 :: zq [31] 32 34 :: zq [32] 33 35 :: zq [32] 34 36 :: zq [32] 35 37 :: zq [32] 36 38 :: zq [36] 37 39 :: zq [37] 38 40 :: zq [37] 39 41 :: zq [37] 40 42 :: zq [37] 41 43 :: zq [41] 42 2 :: [])) (es' := [(2,vb false)]) (by kernel_rfl) rfl rfl ⟨zp rfl (oF underlying53 rfl sz51),zp rfl (op_indexAddr_a _ _ _ _ 2 1 0 0 1 underlying51 sz9 rfl rfl (by decide) (by decide)),zp rfl (oL underlying9 rfl),zp rfl (op_call _ _ 36 _ _ rfl call36 rfl (ok_wherryref11_Domain ((c.Domains.getD 0 z0)) _ hv1) rfl rfl),z8 hg1_4 rfl,zt rfl,zt rfl,zt rfl,zt rfl,z3 false rfl,z1 rfl,zt rfl,zt rfl,zt rfl,zt rfl,zt rfl,zt rfl,zt rfl,zt rfl,zt rfl,z3 false rfl,z1 rfl,zt rfl,zt rfl,zt rfl,z3 false rfl,z1 rfl,zt rfl,zt rfl,zt rfl,z3 false rfl,z1 rfl,zt rfl,zt rfl,zt rfl,z3 false rfl,z1 rfl,zt rfl,zt rfl,zt rfl,z3 false rfl,z2 rfl,zz⟩ ?_
    exact hl11 _ (zi h).symm
theorem ok_strings_splitSeq (s : ByteArray) (sep : ByteArray) (sepSave : Int) (r : (ByteArray × ByteArray × Int)) (h : Sh.strings_splitSeq s sep sepSave = some r) : FnOK Tryd.prog 104 [.v (.string s), .v (.string sep), .v (.int .i64 sepSave)] (.cloB 111 [.box 9 [.v (.string r.1)], .box 9 [.v (.string r.2.1)], .box 3 [.v (.int .i64 r.2.2)]]) := by
  unfold Sh.strings_splitSeq at h
  refine fn_ok func104 rfl (zl rfl) rfl rfl fun g0 hn hio => ?_
  refine zgg hn [_,_,_,(3,.box 9 [vs s]),(4,.box 9 [vs sep]),(5,.box 3 [vi sepSave]),(6,.v (.nilFunc))] [0,1,2] [3,4,5] [zq [0] 3 3,zq [1] 4 4,zq [2] 5 5,zq [] 6 6] [(_,_),(_,_),(_,_)] rfl ⟨zp rfl (op_box _ _ _ _ rfl rfl rfl),zp rfl (op_box _ _ _ _ rfl rfl rfl),zp rfl (op_box _ _ _ _ rfl rfl rfl),z2 rfl,zz⟩ ?_
  refine zgg hn [_,_,_,(7,.cloB 111 [.box 9 [vs sep],.box 9 [vs s],.box 3 [vi sepSave]]),(6,.cloB 111 [.box 9 [vs sep],.box 9 [vs s],.box 3 [vi sepSave]])] [0,1,2] [4] [⟨[],[1,0,2],[3],[(.slot 7)]⟩,⟨[],[3],[4],[(.slot 6)]⟩] [(_,_)] rfl ⟨zp rfl (op_mkclo _ _ [4, 3, 5] [.box 9 [.v (.string sep)], .box 9 [.v (.string s)], .box 3 [.v (.int .i64 sepSave)]] rfl rfl rfl),zp rfl (op_assign_take _ _ _ _ rfl),zz⟩ ?_
  refine ht_ret ?_
  obtain rfl := zi h
  exact pt_ret hio rfl (.tmp _ _ .nil) rfl rfl
theorem ok_strings_SplitSeq (s : ByteArray) (sep : ByteArray) (r : (ByteArray × ByteArray × Int)) (h : Sh.strings_SplitSeq s sep = some r) : FnOK Tryd.prog 89 [.v (.string s), .v (.string sep)] (.cloB 111 [.box 9 [.v (.string r.1)], .box 9 [.v (.string r.2.1)], .box 3 [.v (.int .i64 r.2.2)]]) := by
  unfold Sh.strings_SplitSeq at h
  refine fn_ok func89 rfl (zl rfl) rfl rfl fun g0 hn hio => ?_
  refine zgg hn [_,_,(4,.v (.nilFunc))] [0,1] [0,1] [zq [] 2 4] [(_,_),(_,_)] rfl ⟨z2 rfl,zz⟩ ?_
  refine ht_seq ?_
  obtain ⟨v1, hv1, h⟩ := zn h
  refine zg hn [_,_,(5,vs s),(6,vs sep),(7,.cloB 111 [.box 9 [vs v1.1],.box 9 [vs v1.2.1],.box 3 [vi v1.2.2]]),(4,.cloB 111 [.box 9 [vs v1.1],.box 9 [vs v1.2.1],.box 3 [vi v1.2.2]])] [0,1] [5] [zq [0] 2 5,zq [1] 3 6,zq [2,3] 4 7,⟨[],[4],[5],[(.slot 4)]⟩] [(_,_)] rfl ⟨z1 rfl,z1 rfl,zp rfl (op_callS _ _ 104 _ _ rfl call104 rfl rfl (ok_strings_splitSeq s sep 0 _ hv1) rfl),zp rfl (op_assign_take _ _ _ _ rfl),zz⟩ ?_
  refine pt_then (ht_ret ?_)
  obtain rfl := zi h
  exact pt_ret hio rfl (.tmp _ _ .nil) rfl rfl
theorem ok_unicode_utf8_decodeRuneInStringSlow (mx : Int) (s : ByteArray) (r : (Int × Int)) (h : Sh.unicode_utf8_decodeRuneInStringSlow s = some r) : FnG Tryd.prog (GL mx) 114 [.v (.string s)] (.tup [.v (.int .i32 r.1), .v (.int .i64 r.2)]) := by
  unfold Sh.unicode_utf8_decodeRuneInStringSlow at h
  refine fn_okG func114 rfl (zl rfl) rfl rfl fun g0 hn hio => ?_
  refine zgg hn [_,_,(2,.v (.int .i32 0)),(3,vi 0)] [0,1] [0,1] [zq [] 2 2,zq [] 3 3] [(_,_),(_,_)] rfl ⟨z2 rfl,z2 rfl,zz⟩ ?_
  refine zgg hn [_,_,(13,vs s),(14,vi (s.size : Int)),(4,vi (s.size : Int))] [0,1] [0,1,4] [zq [0] 2 13,zq [2] 3 14,zq [3] 4 4] [(_,_),(_,_),(_,_)] rfl ⟨z1 rfl,zp rfl (oN underlying9 rfl),z2 rfl,zz⟩ ?_
  refine ht_seq ?_
  refine zgg hn [_,_,_,(15,vi (s.size : Int)),(16,vb (decide ((s.size : Int) < 1)))] [0,1,2] [0,1,2,4] [zq [2] 3 15,zq [3] 4 16] [(_,_),(_,_),(_,_),(_,_)] rfl ⟨z1 rfl,z4 rfl rfl,zz⟩ ?_
  refine ht_cond _ rfl (fun hb1 => ?_) (fun hb1 => ?_)
  ·have h := cond_t hb1 h
   refine zgg hn [_,_,_,_,(2,.v (.int .i32 65533)),(3,vi 0)] [0,1,2,3] [1,4,5] [zq [] 4 2,zq [] 5 3] [(_,_),(_,_),(_,_)] rfl ⟨z2 rfl,z2 rfl,zz⟩ ?_
   refine ht_ret ?_
   refine pt_pick [1,2] (by kernel_rfl) (es' := [(_,_),(_,_)]) rfl ?_
   refine pt_r_then ?_
   obtain rfl := zi h
   exact pt_ret hio rfl (.tmp _ _ (.tmp _ _ .nil)) rfl rfl
  ·have h := cond_f hb1 h
   refine ht_skip ?_
   refine pt_then (ht_seq ?_)
   obtain ⟨v2, hv2, h⟩ := zn h
   refine zg hn [_,_,_,_,(17,vs s),(18,.v (.int .u8 v2)),(5,.v (.int .u8 v2))] [0,1,2,3] [0,1,2,6] [zq [0] 4 17,zq [4] 5 18,zq [5] 6 5] [(_,_),(_,_),(_,_),(_,_)] rfl ⟨z1 rfl,zp rfl (op_chr _ _ _ 0 _ underlying9 rfl rfl hv2),z2 rfl,zz⟩ ?_
   refine pt_then (ht_seq ?_)
   obtain ⟨v3, hv3, h⟩ := zn h
   obtain ⟨v4, hv4, h⟩ := zn h
   refine zg hn [_,_,_,_,(19,.v (.int .u8 v2)),(20,.v (.pointer (some ⟨1,(0 + v3 * 1),none⟩))),(21,.v (.int .u8 v4)),(6,.v (.int .u8 v4))] [0,1,2,3] [0,1,2,3,7] [zq [3] 4 19,zq [4] 5 20,zq [5,1] 6 21,zq [6] 7 6] [(_,_),(_,_),(_,_),(_,_),(_,_)] rfl ⟨z1 rfl,zp rfl (op_ix_globz _ _ _ _ 256 1 0 _ 1 _ underlying153 sz5 rfl rfl (ix_ok hv3).1 (ix_ok hv3).2),zp rfl (op_load_glob _ _ 117 1 _ _ _ underlying5 rfl rfl rfl (gl_mem1 mx) (map_get1 hv4)),z2 rfl,zz⟩ ?_
   refine pt_then (ht_seq ?_)
   refine zgg hn [_,_,_,_,_,(22,.v (.int .u8 v4)),(23,vb (decide (240 ≤ v4)))] [0,1,2,3,4] [0,1,2,3,4,6] [zq [4] 5 22,zq [5] 6 23] [(_,_),(_,_),(_,_),(_,_),(_,_),(_,_)] rfl ⟨z1 rfl,z4 rfl rfl,zz⟩ ?_
   refine ht_cond _ rfl (fun hb5 => ?_) (fun hb5 => ?_)
   ·have h := cond_t hb5 h
    refine ht_seq ?_
    obtain ⟨v6, hv6, h⟩ := zn h
    obtain ⟨v7, hv7, h⟩ := zn h
    obtain ⟨v8, hv8, h⟩ := zn h
    refine zg hn [_,_,_,_,_,_,(24,.v (.int .u8 v4)),(25,.v (.int .i32 v6)),(26,.v (.int .i32 v7)),(27,.v (.int .i32 v8)),(7,.v (.int .i32 v8))] [0,1,2,3,4,5] [0,1,10] [zq [4] 6 24,zq [6] 7 25,zq [7] 8 26,zq [8] 9 27,zq [9] 10 7] [(_,_),(_,_),(_,_)] rfl ⟨z1 rfl,zp rfl ((Option.some.inj hv6) ▸ op_conv _ _ _ underlying5 underlying21 rfl),zp rfl (oB rfl (shl_ok hv7)),zp rfl (oB rfl (shr_ok hv8)),z2 rfl,zz⟩ ?_
    refine pt_then (ht_seq ?_)
    obtain ⟨v9, hv9, h⟩ := zn h
    obtain ⟨v10, hv10, h⟩ := zn h
    obtain ⟨v11, hv11, h⟩ := zn h
    obtain ⟨v12, hv12, h⟩ := zn h
    obtain ⟨v13, hv13, h⟩ := zn h
    refine zg hn [_,_,_,(28,vs s),(29,.v (.int .u8 v9)),(30,.v (.int .i32 v10)),(31,.v (.int .i32 v8)),(32,.v (.int .i32 v11)),(33,.v (.int .i32 v8)),(34,.v (.int .i32 v12)),(35,.v (.int .i32 v13)),(2,.v (.int .i32 v13)),(3,vi 1)] [0,1,2] [1,11,12] [zq [0] 3 28,zq [3] 4 29,zq [4] 5 30,zq [2] 6 31,zq [5,6] 7 32,zq [2] 8 33,zq [8] 9 34,zq [7,9] 10 35,zq [10] 11 2,zq [] 12 3] [(_,_),(_,_),(_,_)] rfl ⟨z1 rfl,zp rfl (op_chr _ _ _ 0 _ underlying9 rfl rfl hv9),zp rfl ((Option.some.inj hv10) ▸ op_conv _ _ _ underlying5 underlying21 rfl),z1 rfl,zp rfl (oB rfl (ibind (f := int .i32) (Option.some.inj hv11))),z1 rfl,zp rfl (oB rfl (ibind (f := int .i32) (Option.some.inj hv12))),zp rfl (oB rfl (ibind (f := int .i32) (Option.some.inj hv13))),z2 rfl,z2 rfl,zz⟩ ?_
    refine pt_then (ht_ret ?_)
    refine pt_pick [1,2] (by kernel_rfl) (es' := [(_,_),(_,_)]) rfl ?_
    refine pt_r_then ?_
    obtain rfl := zi h
    exact pt_ret hio rfl (.tmp _ _ (.tmp _ _ .nil)) rfl rfl
   ·have h := cond_f hb5 h
    cases h
theorem ok_unicode_utf8_DecodeRuneInString (mx : Int) (s : ByteArray) (r : (Int × Int)) (h : Sh.unicode_utf8_DecodeRuneInString s = some r) : FnG Tryd.prog (GL mx) 112 [.v (.string s)] (.tup [.v (.int .i32 r.1), .v (.int .i64 r.2)]) := by
  unfold Sh.unicode_utf8_DecodeRuneInString at h
  refine fn_okG func112 rfl (zl rfl) rfl rfl fun g0 hn hio => ?_
  refine zgg hn [_,_,(2,.v (.int .i32 0)),(3,vi 0)] [0,1] [0,1] [zq [] 2 2,zq [] 3 3] [(_,_),(_,_)] rfl ⟨z2 rfl,z2 rfl,zz⟩ ?_
  refine ht_seq ?_
  refine ht_seq ?_
  refine ht_joinS h (fun (s2 : Bool) => [(0,vs s),(19,.glob (GL mx)),(10,vb s2)]) ?_ ?_
  ·rintro s2 h
   refine pt_then ?_
   refine ht_cond _ rfl (fun hb6 => ?_) (fun hb6 => ?_)
   ·have h := cond_t hb6 h
    refine ht_seq ?_
    obtain ⟨v7, hv7, h⟩ := zn h
    obtain ⟨v8, hv8, h⟩ := zn h
    refine zg hn [_,_,_,(11,vs s),(12,.v (.int .u8 v7)),(13,.v (.int .i32 v8)),(2,.v (.int .i32 v8)),(3,vi 1)] [0,1,2] [1,6,7] [zq [0] 3 11,zq [3] 4 12,zq [4] 5 13,zq [5] 6 2,zq [] 7 3] [(_,_),(_,_),(_,_)] rfl ⟨z1 rfl,zp rfl (op_chr _ _ _ 0 _ underlying9 rfl rfl hv7),zp rfl ((Option.some.inj hv8) ▸ op_conv _ _ _ underlying5 underlying21 rfl),z2 rfl,z2 rfl,zz⟩ ?_
    refine pt_then (ht_ret ?_)
    refine pt_pick [1,2] (by kernel_rfl) (es' := [(_,_),(_,_)]) rfl ?_
    refine pt_r_then ?_
    obtain rfl := zi h
    exact pt_ret hio rfl (.tmp _ _ (.tmp _ _ .nil)) rfl rfl
   ·have h := cond_f hb6 h
    obtain ⟨v9, hv9, h⟩ := zn h
    refine zg hn [_,_,_,(15,vs s),(16,.tup [.v (.int .i32 v9.1),vi v9.2]),(14,.tup [.v (.int .i32 v9.1),vi v9.2]),(17,.v (.int .i32 v9.1)),(18,vi v9.2),(2,.v (.int .i32 v9.1)),(3,vi v9.2)] [0,1,2] [1,8,9] [zq [0] 3 15,zq [3,1] 4 16,⟨[],[4],[5],[(.slot 14)]⟩,zq [5] 6 17,zq [5] 7 18,zq [6] 8 2,zq [7] 9 3] [(_,_),(_,_),(_,_)] rfl ⟨z1 rfl,zp rfl (op_callG _ _ 19 114 _ _ rfl call114 rfl rfl (fun _ h => h) (ok_unicode_utf8_decodeRuneInStringSlow mx s _ hv9) rfl rfl),zp rfl (op_move_take _ _ _ _ rfl),zp rfl (oE rfl),zp rfl (oE rfl),z2 rfl,z2 rfl,zz⟩ ?_
    refine pt_then (ht_ret ?_)
    refine pt_pick [1,2] (by kernel_rfl) (es' := [(_,_),(_,_)]) rfl ?_
    obtain rfl := zi h
    exact pt_ret hio rfl (.tmp _ _ (.tmp _ _ .nil)) rfl rfl
  ·intro u3 h hl4 hr5
   refine cond_some h (fun hg1_2 h => ?_) (fun hg1_2 h => ?_)
   ·obtain ⟨v1, hv1, h⟩ := zn h
    refine zg hn [_,_,(4,vs s),(5,vb (!(s.toList == z0.toList))),(6,vb true),(7,vs s),(8,.v (.int .u8 v1)),(9,vb (decide (v1 < 128))),(10,vb (decide (v1 < 128)))] [0,1] [0,1,8] [zq [0] 2 4,zq [2] 3 5,zq [3] 4 6,zq [4,0] 5 7,zq [4,5] 6 8,zq [4,6] 7 9,zq [4,7] 8 10] [(_,_),(_,_),(_,_)] rfl ⟨z1 rfl,z4 rfl rfl,z8 hg1_2 rfl,zr' rfl (oM rfl),zr' rfl (op_chr _ _ _ 0 _ underlying9 rfl rfl hv1),zr' rfl (oB rfl rfl),z3 true rfl,zz⟩ ?_
    exact hl4 _ (zi h).symm
   ·refine zg hn [_,_,(4,vs s),(5,vb (!(s.toList == z0.toList))),(6,vb false),(7,.v undef),(8,.v undef),(9,.v undef),(10,vb false)] [0,1] [0,1,8] [zq [0] 2 4,zq [2] 3 5,zq [3] 4 6,zq [4] 5 7,zq [4] 6 8,zq [4] 7 9,zq [4] 8 10] [(_,_),(_,_),(_,_)] rfl ⟨z1 rfl,z4 rfl rfl,z8 hg1_2 rfl,zt rfl,zt rfl,zt rfl,z3 false rfl,zz⟩ ?_
    exact hl4 _ (zi h).symm
theorem ok_strings_Index (s sub : ByteArray) (r : Int) (h : Sh.strings_Index s sub = some r) : FnOK Tryd.prog 113 [.v (.string s), .v (.string sub)] (.v (.int .i64 r)) := lib_strings_Index Tryd.strings_Index_one s sub r h
theorem ok_strings_splitSeq_1 (mx : Int) (l : Nat) {S : Type} (J : S → InvT) (Y : ByteArray → S → Option (S × Bool)) (hY : YieldOK Tryd.prog l (fun x => .v (.string x)) Y J) (c0 : ByteArray) (c1 : ByteArray) (c2 : Int) (st r : S) (h : Sh.strings_splitSeq_1 Y c0 c1 c2 st = some r) : FnI Tryd.prog (GL mx) 111 l [.box 9 [.v (.string c0)], .box 9 [.v (.string c1)], .box 3 [.v (.int .i64 c2)]] (J st) (J r) := by
  unfold Sh.strings_splitSeq_1 at h
  refine fn_okI func111 rfl (zl rfl) rfl fun g0 hn hio => ?_
  refine ht_seq ?_
  refine zgg hn [_,_,_,_,_,_,(9,vs c0),(10,vi (c0.size : Int)),(11,vb ((c0.size : Int) == 0))] [0,1,2,3,4,5] [0,1,2,3,4,5,8] [zq [1] 6 9,zq [6] 7 10,zq [7] 8 11] [(_,_),(_,_),(_,_),(_,_),(_,_),(_,_),(_,_)] rfl ⟨zp rfl (oL underlying9 rfl),zp rfl (oN underlying9 rfl),z4 rfl rfl,zz⟩ ?_
  refine ht_cond _ rfl (fun hb1 => ?_) (fun hb1 => ?_)
  ·have h := cond_t hb1 h
   refine ht_seq ?_
   refine ht_pick [0,2,4,5] (by kernel_rfl) (es' := [(_,_),(_,_),(_,_),(_,_)]) rfl ?_
   refine ht_loopS h (fun ((s12,s13) : ByteArray × S) => [(0,.v (.func (.yield l) #[] #[])),(2,.box 9 [vs s12]),(52,.glob (GL mx)),(53,.inv (J s13))]) (fun (s16 : S) => [(52,.glob (GL mx)),(53,.inv (J s16))]) ?_ ?_
   ·rintro s16 h
    refine pt_then (ht_ret ?_)
    refine pt_pick [1] (by kernel_rfl) (es' := [(53,.inv (J s16))]) rfl ?_
    refine pt_r_then ?_
    obtain rfl := zi h
    exact pt_retI hio rfl rfl rfl
   ·rintro u17 hl18 hr19 ⟨s12, s13⟩ rr22 h ho20
    refine ht_seq ?_
    refine zgg hn [_,_,_,_,(12,vs s12),(13,vi (s12.size : Int)),(14,vb (decide (0 < (s12.size : Int))))] [0,1,2,3] [0,1,2,3,6] [zq [1] 4 12,zq [4] 5 13,zq [5] 6 14] [(_,_),(_,_),(_,_),(_,_),(_,_)] rfl ⟨zp rfl (oL underlying9 rfl),zp rfl (oN underlying9 rfl),z4 rfl rfl,zz⟩ ?_
    refine ht_cond _ rfl (fun hb23 => ?_) (fun hb23 => ?_)
    ·have h := cond_t hb23 h
     refine ht_skip ?_
     refine pt_then ?_
     refine ht_block ?_
     refine ht_seq ?_
     obtain ⟨v3, hv3, h⟩ := zn h
     refine zg hn [_,_,_,_,_,(16,vs s12),(17,.tup [.v (.int .i32 v3.1),vi v3.2]),(15,.tup [.v (.int .i32 v3.1),vi v3.2]),(18,.v (.int .i32 v3.1)),(19,vi v3.2),(5,.v (.int .i32 v3.1)),(6,vi v3.2)] [0,1,2,3,4] [0,1,2,3,11] [zq [1] 5 16,zq [5,2] 6 17,⟨[],[6],[7],[(.slot 15)]⟩,zq [7] 8 18,zq [7] 9 19,zq [8] 10 5,zq [9] 11 6] [(_,_),(_,_),(_,_),(_,_),(_,_)] rfl ⟨zp rfl (oL underlying9 rfl),zp rfl (op_callG _ _ 52 112 _ _ rfl call112 rfl rfl (fun _ h => h) (ok_unicode_utf8_DecodeRuneInString mx s12 _ hv3) rfl rfl),zp rfl (op_move_take _ _ _ _ rfl),zp rfl (oE rfl),zp rfl (oE rfl),z2 rfl,z2 rfl,zz⟩ ?_
     refine pt_then (ht_seq ?_)
     refine ht_seq ?_
     obtain ⟨v4, hv4, h⟩ := zn h
     obtain ⟨v5, hv5, h⟩ := zn h
     refine zg hn [_,_,_,_,_,(20,.v (.func (.yield l) #[] #[])),(21,vs s12),(22,vi v3.2),(23,vs v4),(24,vb v5.2),(53,.inv (J v5.1)),(25,vb (!v5.2))] [0,1,2,3,4] [0,1,2,10,4,11] [zq [0] 5 20,zq [1] 6 21,zq [4] 7 22,zq [6,7] 8 23,⟨[8,5],[3],[10,9],[(.slot 24)]⟩,zq [9] 11 25] [(_,_),(_,_),(_,_),(_,_),(_,_),(_,_)] rfl ⟨z1 rfl,zp rfl (oL underlying9 rfl),z1 rfl,zp rfl (op_substr _ _ _ 0 v3.2 _ underlying9 rfl rfl ⟨_, rfl⟩ hv4),zp rfl (op_yield _ _ 53 l v4 s13 v5 hY hv5 rfl rfl rfl),zp rfl (op_un _ _ _ _ rfl rfl),zz⟩ ?_
     refine pt_then ?_
     refine ht_cond _ rfl (fun hb24 => ?_) (fun hb24 => ?_)
     ·have h := cond_t hb24 h
      refine ht_ret ?_
      refine pt_pick [3] (by kernel_rfl) (es' := [(53,.inv (J v5.1))]) rfl ?_
      refine pt_r_then ?_
      refine pt_r_in ?_
      refine pt_r_then ?_
      refine pt_r_in ?_
      refine pt_r_then ?_
      refine pt_r_then ?_
      have h := hr19 _ (ho20 _ (zi h).symm).symm
      obtain rfl := zi h
      exact pt_retI hio rfl rfl rfl
     ·have h := cond_f hb24 h
      refine ht_skip ?_
      refine pt_then ?_
      obtain ⟨v7, hv7, h⟩ := zn h
      refine zg hn [_,_,_,_,_,_,(26,vs s12),(27,vi v3.2),(28,vs v7),(2,.box 9 [vs v7])] [0,1,2,3,4,5] [0,9,2,3] [zq [1] 6 26,zq [4] 7 27,zq [6,7] 8 28,⟨[8],[1],[9],[.cell 2 0]⟩] [(_,_),(_,_),(_,_),(_,_)] rfl ⟨zp rfl (oL underlying9 rfl),z1 rfl,zp rfl (op_substr _ _ _ v3.2 (s12.size : Int) _ underlying9 rfl ⟨_, rfl⟩ rfl hv7),zp rfl (oS sz9 rfl),zz⟩ ?_
      refine pt_inb ?_
      exact pt_next _ (zi h).symm rfl
    ·have h := cond_f hb23 h
     refine ht_exit ?_
     refine pt_x_then ?_
     refine pt_x_then ?_
     refine pt_x_in ?_
     refine pt_pick [2,3] (by kernel_rfl) (es' := [(_,_),(_,_)]) rfl ?_
     exact hl18 _ (ho20 _ (zi h).symm).symm
  ·have h := cond_f hb1 h
   refine ht_skip ?_
   refine pt_then (ht_seq ?_)
   refine ht_pick [0,1,2,3,4,5] (by kernel_rfl) (es' := [(_,_),(_,_),(_,_),(_,_),(_,_),(_,_)]) rfl ?_
   refine ht_loopS h (fun ((s37,s38) : ByteArray × S) => [(0,.v (.func (.yield l) #[] #[])),(1,.box 9 [vs c0]),(2,.box 9 [vs s37]),(3,.box 3 [vi c2]),(52,.glob (GL mx)),(53,.inv (J s38))]) (fun ((s41,s42) : ByteArray × S) => [(0,.v (.func (.yield l) #[] #[])),(2,.box 9 [vs s41]),(52,.glob (GL mx)),(53,.inv (J s42))]) ?_ ?_
   ·rintro ⟨s41, s42⟩ h
    refine pt_then ?_
    obtain ⟨v51, hv51, h⟩ := zn h
    refine zg hn [_,_,_,_,(49,.v (.func (.yield l) #[] #[])),(50,vs s41),(51,vb v51.2),(53,.inv (J v51.1))] [0,1,2,3] [2,7] [zq [0] 4 49,zq [1] 5 50,⟨[5,4],[3],[7,6],[(.slot 51)]⟩] [(_,_),(_,_)] rfl ⟨z1 rfl,zp rfl (oL underlying9 rfl),zp rfl (op_yield _ _ 53 l s41 s42 v51 hY hv51 rfl rfl rfl),zz⟩ ?_
    refine pt_pick [1] (by kernel_rfl) (es' := [(53,.inv (J v51.1))]) rfl ?_
    obtain rfl := zi h
    exact pt_endI hio rfl rfl rfl
   ·rintro u43 hl44 hr45 ⟨s37, s38⟩ rr48 h ho46
    refine ht_block ?_
    refine ht_seq ?_
    obtain ⟨v25, hv25, h⟩ := zn h
    refine zg hn [_,_,_,_,_,_,(29,vs s37),(30,vs c0),(31,vi v25),(7,vi v25)] [0,1,2,3,4,5] [0,1,2,3,4,5,9] [zq [2] 6 29,zq [1] 7 30,zq [6,7] 8 31,zq [8] 9 7] [(_,_),(_,_),(_,_),(_,_),(_,_),(_,_),(_,_)] rfl ⟨zp rfl (oL underlying9 rfl),zp rfl (oL underlying9 rfl),zp rfl (op_call _ _ 113 _ _ rfl call113 rfl (ok_strings_Index s37 c0 _ hv25) rfl rfl),z2 rfl,zz⟩ ?_
    refine pt_then (ht_seq ?_)
    refine zgg hn [_,_,_,_,_,_,_,(32,vi v25),(33,vb (decide (v25 < 0)))] [0,1,2,3,4,5,6] [0,1,2,3,4,5,6,8] [zq [6] 7 32,zq [7] 8 33] [(_,_),(_,_),(_,_),(_,_),(_,_),(_,_),(_,_),(_,_)] rfl ⟨z1 rfl,z4 rfl rfl,zz⟩ ?_
    refine ht_cond _ rfl (fun hb49 => ?_) (fun hb49 => ?_)
    ·have h := cond_t hb49 h
     refine ht_exit ?_
     refine pt_x_then ?_
     refine pt_x_out (by decide) ?_
     refine pt_x_then ?_
     refine pt_x_in ?_
     refine pt_pick [0,2,4,5] (by kernel_rfl) (es' := [(_,_),(_,_),(_,_),(_,_)]) rfl ?_
     exact hl44 _ (ho46 _ (zi h).symm).symm
    ·have h := cond_f hb49 h
     refine ht_skip ?_
     refine pt_then (ht_seq ?_)
     obtain ⟨v27, hv27, h⟩ := zn h
     obtain ⟨v28, hv28, h⟩ := zn h
     refine zg hn [_,_,_,_,_,_,_,_,(34,vs s37),(35,vi v25),(36,vi c2),(37,vi v27),(38,vs v28),(8,vs v28)] [0,1,2,3,4,5,6,7] [0,1,2,3,4,5,6,13] [zq [2] 8 34,zq [6] 9 35,zq [3] 10 36,zq [9,10] 11 37,zq [8,11] 12 38,zq [12] 13 8] [(_,_),(_,_),(_,_),(_,_),(_,_),(_,_),(_,_),(_,_)] rfl ⟨zp rfl (oL underlying9 rfl),z1 rfl,zp rfl (oL underlying3 rfl),zp rfl (oB rfl (ibind (f := int .i64) (Option.some.inj hv27))),zp rfl (op_substr _ _ _ 0 v27 _ underlying9 rfl rfl ⟨_, rfl⟩ hv28),z2 rfl,zz⟩ ?_
     refine pt_then (ht_seq ?_)
     refine ht_seq ?_
     obtain ⟨v29, hv29, h⟩ := zn h
     refine zg hn [_,_,_,_,_,_,_,_,(39,.v (.func (.yield l) #[] #[])),(40,vs v28),(41,vb v29.2),(53,.inv (J v29.1)),(42,vb (!v29.2))] [0,1,2,3,4,5,6,7] [0,1,2,3,4,11,6,12] [zq [0] 8 39,zq [7] 9 40,⟨[9,8],[5],[11,10],[(.slot 41)]⟩,zq [10] 12 42] [(_,_),(_,_),(_,_),(_,_),(_,_),(_,_),(_,_),(_,_)] rfl ⟨z1 rfl,z1 rfl,zp rfl (op_yield _ _ 53 l v28 s38 v29 hY hv29 rfl rfl rfl),zp rfl (op_un _ _ _ _ rfl rfl),zz⟩ ?_
     refine pt_then ?_
     refine ht_cond _ rfl (fun hb50 => ?_) (fun hb50 => ?_)
     ·have h := cond_t hb50 h
      refine ht_ret ?_
      refine pt_pick [5] (by kernel_rfl) (es' := [(53,.inv (J v29.1))]) rfl ?_
      refine pt_r_then ?_
      refine pt_r_in ?_
      refine pt_r_then ?_
      refine pt_r_in ?_
      refine pt_r_then ?_
      have h := hr45 _ (ho46 _ (zi h).symm).symm
      obtain rfl := zi h
      exact pt_retI hio rfl rfl rfl
     ·have h := cond_f hb50 h
      refine ht_skip ?_
      refine pt_then ?_
      obtain ⟨v31, hv31, h⟩ := zn h
      obtain ⟨v32, hv32, h⟩ := zn h
      refine zg hn (_::_::_::_::_::_::_::_::(43,vs s37)::(44,vi v25)::(45,vs c0)::(46,vi (c0.size : Int))::(47,vi v31)::(48,vs v32)::(2,.box 9 [vs v32])::[]) [0,1,2,3,4,5,6,7] [0,1,14,3,4,5] [zq [2] 8 43,zq [6] 9 44,zq [1] 10 45,zq [10] 11 46,zq [9,11] 12 47,zq [8,12] 13 48,⟨[13],[2],[14],[.cell 2 0]⟩] [(_,_),(_,_),(_,_),(_,_),(_,_),(_,_)] rfl ⟨zp rfl (oL underlying9 rfl),z1 rfl,zp rfl (oL underlying9 rfl),zp rfl (oN underlying9 rfl),zp rfl (oB rfl (ibind (f := int .i64) (Option.some.inj hv31))),zp rfl (op_substr _ _ _ v31 (s37.size : Int) _ underlying9 rfl ⟨_, rfl⟩ rfl hv32),zp rfl (oS sz9 rfl),zz⟩ ?_
      refine pt_inb ?_
      exact pt_next _ (zi h).symm rfl
theorem ok_path_alphanumeric (c : Int) (r : Bool) (h : Sh.path_alphanumeric c = some r) : FnOK Tryd.prog 92 [.v (.int .u8 c)] (.v (.bool r)) := by
  unfold Sh.path_alphanumeric at h
  refine fn_ok func92 rfl (zl rfl) rfl rfl fun g0 hn hio => ?_
  refine zgg hn [_,(2,vb false)] [0] [0] [zq [] 1 2] [(_,_)] rfl ⟨z2 rfl,zz⟩ ?_
  refine ht_seq ?_
  refine ht_joinS h (fun (s1 : Bool) => [(2,vb s1)]) ?_ ?_
  ·rintro s1 h
   refine pt_then (ht_ret ?_)
   obtain rfl := zi h
   exact pt_ret hio rfl (.tmp _ _ .nil) rfl rfl
  ·intro u2 h hl3 hr4
   refine cond_some h (fun hg1_2 h => ?_) (fun hg1_2 h => ?_)
   ·refine cond_some h (fun hg1_6 h => ?_) (fun hg1_6 h => ?_)
    ·refine zg hn (_::(3,.v (.int .u8 c))::(4,vb (decide (48 ≤ c)))::(5,vb true)::(6,.v (.int .u8 c))::(7,vb (decide (c ≤ 57)))::(8,vb (decide (c ≤ 57)))::(9,vb true)::(10,.v undef)::(11,.v undef)::(12,.v undef)::(13,.v undef)::(14,.v undef)::(15,.v undef)::(16,vb true)::(17,vb true)::(18,.v undef)::(19,.v undef)::(20,.v undef)::(21,.v undef)::(22,.v undef)::(23,.v undef)::(24,vb true)::(2,vb true)::[]) [0] [23] (zq [0] 1 3::zq [1] 2 4::zq [2] 3 5::zq [3,0] 4 6::zq [3,4] 5 7::zq [3,5] 6 8::zq [6] 7 9::zq [7] 8 10::zq [7] 9 11::zq [7] 10 12::zq [10] 11 13::zq [10] 12 14::zq [7] 13 15::zq [7] 14 16::zq [14] 15 17::zq [15] 16 18::zq [15] 17 19::zq [15] 18 20::zq [18] 19 21::zq [18] 20 22::zq [15] 21 23::zq [15] 22 24::zq [22] 23 2::[]) [(_,_)] rfl ⟨z1 rfl,z4 rfl rfl,z8 hg1_2 rfl,zr' rfl (oM rfl),zr' rfl (oB rfl rfl),z3 true rfl,z8 hg1_6 rfl,zf rfl,zf rfl,zf rfl,zu' rfl,zu' rfl,zf rfl,z3 true rfl,z1 rfl,zf rfl,zf rfl,zf rfl,zu' rfl,zu' rfl,zf rfl,z3 true rfl,z2 rfl,zz⟩ ?_
     exact hl3 _ (zi h).symm
    ·refine cond_some h (fun hg1_9 h => ?_) (fun hg1_9 h => ?_)
     ·refine cond_some h (fun hg1_14 h => ?_) (fun hg1_14 h => ?_)
      ·refine zg hn (_::(3,.v (.int .u8 c))::(4,vb (decide (48 ≤ c)))::(5,vb true)::(6,.v (.int .u8 c))::(7,vb (decide (c ≤ 57)))::(8,vb (decide (c ≤ 57)))::(9,vb false)::(10,.v (.int .u8 c))::(11,vb (decide (65 ≤ c)))::(12,vb true)::(13,.v (.int .u8 c))::(14,vb (decide (c ≤ 90)))::(15,vb (decide (c ≤ 90)))::(16,vb (decide (c ≤ 90)))::(17,vb true)::(18,.v undef)::(19,.v undef)::(20,.v undef)::(21,.v undef)::(22,.v undef)::(23,.v undef)::(24,vb true)::(2,vb true)::[]) [0] [23] (zq [0] 1 3::zq [1] 2 4::zq [2] 3 5::zq [3,0] 4 6::zq [3,4] 5 7::zq [3,5] 6 8::zq [6] 7 9::zq [7,0] 8 10::zq [7,8] 9 11::zq [7,9] 10 12::zq [10,0] 11 13::zq [10,11] 12 14::zq [7,10,12] 13 15::zq [7,13] 14 16::zq [14] 15 17::zq [15] 16 18::zq [15] 17 19::zq [15] 18 20::zq [18] 19 21::zq [18] 20 22::zq [15] 21 23::zq [15] 22 24::zq [22] 23 2::[]) [(_,_)] rfl ⟨z1 rfl,z4 rfl rfl,z8 hg1_2 rfl,zr' rfl (oM rfl),zr' rfl (oB rfl rfl),z3 true rfl,z8 hg1_6 rfl,zr' rfl (oM rfl),zr' rfl (oB rfl rfl),zr' rfl (op_move _ _ _ _ (zb hg1_9) rfl),zr' rfl (oM rfl),zr' rfl (oB rfl rfl),zr' rfl (op_pick _ _ true _ rfl rfl),z3 false rfl,z8 hg1_14 rfl,zf rfl,zf rfl,zf rfl,zu' rfl,zu' rfl,zf rfl,z3 true rfl,z2 rfl,zz⟩ ?_
       exact hl3 _ (zi h).symm
      ·refine cond_some h (fun hg1_17 h => ?_) (fun hg1_17 h => ?_)
       ·refine zg hn (_::(3,.v (.int .u8 c))::(4,vb (decide (48 ≤ c)))::(5,vb true)::(6,.v (.int .u8 c))::(7,vb (decide (c ≤ 57)))::(8,vb (decide (c ≤ 57)))::(9,vb false)::(10,.v (.int .u8 c))::(11,vb (decide (65 ≤ c)))::(12,vb true)::(13,.v (.int .u8 c))::(14,vb (decide (c ≤ 90)))::(15,vb (decide (c ≤ 90)))::(16,vb (decide (c ≤ 90)))::(17,vb false)::(18,.v (.int .u8 c))::(19,vb (decide (97 ≤ c)))::(20,vb true)::(21,.v (.int .u8 c))::(22,vb (decide (c ≤ 122)))::(23,vb (decide (c ≤ 122)))::(24,vb (decide (c ≤ 122)))::(2,vb (decide (c ≤ 122)))::[]) [0] [23] (zq [0] 1 3::zq [1] 2 4::zq [2] 3 5::zq [3,0] 4 6::zq [3,4] 5 7::zq [3,5] 6 8::zq [6] 7 9::zq [7,0] 8 10::zq [7,8] 9 11::zq [7,9] 10 12::zq [10,0] 11 13::zq [10,11] 12 14::zq [7,10,12] 13 15::zq [7,13] 14 16::zq [14] 15 17::zq [15,0] 16 18::zq [15,16] 17 19::zq [15,17] 18 20::zq [18,0] 19 21::zq [18,19] 20 22::zq [15,18,20] 21 23::zq [15,21] 22 24::zq [22] 23 2::[]) [(_,_)] rfl ⟨z1 rfl,z4 rfl rfl,z8 hg1_2 rfl,zr' rfl (oM rfl),zr' rfl (oB rfl rfl),z3 true rfl,z8 hg1_6 rfl,zr' rfl (oM rfl),zr' rfl (oB rfl rfl),zr' rfl (op_move _ _ _ _ (zb hg1_9) rfl),zr' rfl (oM rfl),zr' rfl (oB rfl rfl),zr' rfl (op_pick _ _ true _ rfl rfl),z3 false rfl,z8 hg1_14 rfl,zr' rfl (oM rfl),zr' rfl (oB rfl rfl),zr' rfl (op_move _ _ _ _ (zb hg1_17) rfl),zr' rfl (oM rfl),zr' rfl (oB rfl rfl),zr' rfl (op_pick _ _ true _ rfl rfl),z3 false rfl,z2 rfl,zz⟩ ?_
        exact hl3 _ (zi h).symm
       ·refine zg hn (_::(3,.v (.int .u8 c))::(4,vb (decide (48 ≤ c)))::(5,vb true)::(6,.v (.int .u8 c))::(7,vb (decide (c ≤ 57)))::(8,vb (decide (c ≤ 57)))::(9,vb false)::(10,.v (.int .u8 c))::(11,vb (decide (65 ≤ c)))::(12,vb true)::(13,.v (.int .u8 c))::(14,vb (decide (c ≤ 90)))::(15,vb (decide (c ≤ 90)))::(16,vb (decide (c ≤ 90)))::(17,vb false)::(18,.v (.int .u8 c))::(19,vb (decide (97 ≤ c)))::(20,vb false)::(21,.v undef)::(22,.v undef)::(23,vb false)::(24,vb false)::(2,vb false)::[]) [0] [23] (zq [0] 1 3::zq [1] 2 4::zq [2] 3 5::zq [3,0] 4 6::zq [3,4] 5 7::zq [3,5] 6 8::zq [6] 7 9::zq [7,0] 8 10::zq [7,8] 9 11::zq [7,9] 10 12::zq [10,0] 11 13::zq [10,11] 12 14::zq [7,10,12] 13 15::zq [7,13] 14 16::zq [14] 15 17::zq [15,0] 16 18::zq [15,16] 17 19::zq [15,17] 18 20::zq [18] 19 21::zq [18] 20 22::zq [15,18] 21 23::zq [15,21] 22 24::zq [22] 23 2::[]) [(_,_)] rfl ⟨z1 rfl,z4 rfl rfl,z8 hg1_2 rfl,zr' rfl (oM rfl),zr' rfl (oB rfl rfl),z3 true rfl,z8 hg1_6 rfl,zr' rfl (oM rfl),zr' rfl (oB rfl rfl),zr' rfl (op_move _ _ _ _ (zb hg1_9) rfl),zr' rfl (oM rfl),zr' rfl (oB rfl rfl),zr' rfl (op_pick _ _ true _ rfl rfl),z3 false rfl,z8 hg1_14 rfl,zr' rfl (oM rfl),zr' rfl (oB rfl rfl),zr' rfl (op_move _ _ _ _ (zb hg1_17) rfl),zt rfl,zt rfl,zr' rfl (op_pick _ _ false _ rfl rfl),z3 false rfl,z2 rfl,zz⟩ ?_
        exact hl3 _ (zi h).symm
     ·refine cond_some h (fun hg1_17 h => ?_) (fun hg1_17 h => ?_)
      ·refine zg hn (_::(3,.v (.int .u8 c))::(4,vb (decide (48 ≤ c)))::(5,vb true)::(6,.v (.int .u8 c))::(7,vb (decide (c ≤ 57)))::(8,vb (decide (c ≤ 57)))::(9,vb false)::(10,.v (.int .u8 c))::(11,vb (decide (65 ≤ c)))::(12,vb false)::(13,.v undef)::(14,.v undef)::(15,vb false)::(16,vb false)::(17,vb false)::(18,.v (.int .u8 c))::(19,vb (decide (97 ≤ c)))::(20,vb true)::(21,.v (.int .u8 c))::(22,vb (decide (c ≤ 122)))::(23,vb (decide (c ≤ 122)))::(24,vb (decide (c ≤ 122)))::(2,vb (decide (c ≤ 122)))::[]) [0] [23] (zq [0] 1 3::zq [1] 2 4::zq [2] 3 5::zq [3,0] 4 6::zq [3,4] 5 7::zq [3,5] 6 8::zq [6] 7 9::zq [7,0] 8 10::zq [7,8] 9 11::zq [7,9] 10 12::zq [10] 11 13::zq [10] 12 14::zq [7,10] 13 15::zq [7,13] 14 16::zq [14] 15 17::zq [15,0] 16 18::zq [15,16] 17 19::zq [15,17] 18 20::zq [18,0] 19 21::zq [18,19] 20 22::zq [15,18,20] 21 23::zq [15,21] 22 24::zq [22] 23 2::[]) [(_,_)] rfl ⟨z1 rfl,z4 rfl rfl,z8 hg1_2 rfl,zr' rfl (oM rfl),zr' rfl (oB rfl rfl),z3 true rfl,z8 hg1_6 rfl,zr' rfl (oM rfl),zr' rfl (oB rfl rfl),zr' rfl (op_move _ _ _ _ (zb hg1_9) rfl),zt rfl,zt rfl,zr' rfl (op_pick _ _ false _ rfl rfl),z3 false rfl,z1 rfl,zr' rfl (oM rfl),zr' rfl (oB rfl rfl),zr' rfl (op_move _ _ _ _ (zb hg1_17) rfl),zr' rfl (oM rfl),zr' rfl (oB rfl rfl),zr' rfl (op_pick _ _ true _ rfl rfl),z3 false rfl,z2 rfl,zz⟩ ?_
       exact hl3 _ (zi h).symm
      ·refine zg hn (_::(3,.v (.int .u8 c))::(4,vb (decide (48 ≤ c)))::(5,vb true)::(6,.v (.int .u8 c))::(7,vb (decide (c ≤ 57)))::(8,vb (decide (c ≤ 57)))::(9,vb false)::(10,.v (.int .u8 c))::(11,vb (decide (65 ≤ c)))::(12,vb false)::(13,.v undef)::(14,.v undef)::(15,vb false)::(16,vb false)::(17,vb false)::(18,.v (.int .u8 c))::(19,vb (decide (97 ≤ c)))::(20,vb false)::(21,.v undef)::(22,.v undef)::(23,vb false)::(24,vb false)::(2,vb false)::[]) [0] [23] (zq [0] 1 3::zq [1] 2 4::zq [2] 3 5::zq [3,0] 4 6::zq [3,4] 5 7::zq [3,5] 6 8::zq [6] 7 9::zq [7,0] 8 10::zq [7,8] 9 11::zq [7,9] 10 12::zq [10] 11 13::zq [10] 12 14::zq [7,10] 13 15::zq [7,13] 14 16::zq [14] 15 17::zq [15,0] 16 18::zq [15,16] 17 19::zq [15,17] 18 20::zq [18] 19 21::zq [18] 20 22::zq [15,18] 21 23::zq [15,21] 22 24::zq [22] 23 2::[]) [(_,_)] rfl ⟨z1 rfl,z4 rfl rfl,z8 hg1_2 rfl,zr' rfl (oM rfl),zr' rfl (oB rfl rfl),z3 true rfl,z8 hg1_6 rfl,zr' rfl (oM rfl),zr' rfl (oB rfl rfl),zr' rfl (op_move _ _ _ _ (zb hg1_9) rfl),zt rfl,zt rfl,zr' rfl (op_pick _ _ false _ rfl rfl),z3 false rfl,z1 rfl,zr' rfl (oM rfl),zr' rfl (oB rfl rfl),zr' rfl (op_move _ _ _ _ (zb hg1_17) rfl),zt rfl,zt rfl,zr' rfl (op_pick _ _ false _ rfl rfl),z3 false rfl,z2 rfl,zz⟩ ?_
       exact hl3 _ (zi h).symm
   ·refine cond_some h (fun hg1_9 h => ?_) (fun hg1_9 h => ?_)
    ·refine cond_some h (fun hg1_14 h => ?_) (fun hg1_14 h => ?_)
     ·refine zg hn (_::(3,.v (.int .u8 c))::(4,vb (decide (48 ≤ c)))::(5,vb false)::(6,.v undef)::(7,.v undef)::(8,vb false)::(9,vb false)::(10,.v (.int .u8 c))::(11,vb (decide (65 ≤ c)))::(12,vb true)::(13,.v (.int .u8 c))::(14,vb (decide (c ≤ 90)))::(15,vb (decide (c ≤ 90)))::(16,vb (decide (c ≤ 90)))::(17,vb true)::(18,.v undef)::(19,.v undef)::(20,.v undef)::(21,.v undef)::(22,.v undef)::(23,.v undef)::(24,vb true)::(2,vb true)::[]) [0] [23] (zq [0] 1 3::zq [1] 2 4::zq [2] 3 5::zq [3] 4 6::zq [3] 5 7::zq [3] 6 8::zq [6] 7 9::zq [7,0] 8 10::zq [7,8] 9 11::zq [7,9] 10 12::zq [10,0] 11 13::zq [10,11] 12 14::zq [7,10,12] 13 15::zq [7,13] 14 16::zq [14] 15 17::zq [15] 16 18::zq [15] 17 19::zq [15] 18 20::zq [18] 19 21::zq [18] 20 22::zq [15] 21 23::zq [15] 22 24::zq [22] 23 2::[]) [(_,_)] rfl ⟨z1 rfl,z4 rfl rfl,z8 hg1_2 rfl,zt rfl,zt rfl,z3 false rfl,z1 rfl,zr' rfl (oM rfl),zr' rfl (oB rfl rfl),zr' rfl (op_move _ _ _ _ (zb hg1_9) rfl),zr' rfl (oM rfl),zr' rfl (oB rfl rfl),zr' rfl (op_pick _ _ true _ rfl rfl),z3 false rfl,z8 hg1_14 rfl,zf rfl,zf rfl,zf rfl,zu' rfl,zu' rfl,zf rfl,z3 true rfl,z2 rfl,zz⟩ ?_
      exact hl3 _ (zi h).symm
     ·refine cond_some h (fun hg1_17 h => ?_) (fun hg1_17 h => ?_)
      ·refine zg hn (_::(3,.v (.int .u8 c))::(4,vb (decide (48 ≤ c)))::(5,vb false)::(6,.v undef)::(7,.v undef)::(8,vb false)::(9,vb false)::(10,.v (.int .u8 c))::(11,vb (decide (65 ≤ c)))::(12,vb true)::(13,.v (.int .u8 c))::(14,vb (decide (c ≤ 90)))::(15,vb (decide (c ≤ 90)))::(16,vb (decide (c ≤ 90)))::(17,vb false)::(18,.v (.int .u8 c))::(19,vb (decide (97 ≤ c)))::(20,vb true)::(21,.v (.int .u8 c))::(22,vb (decide (c ≤ 122)))::(23,vb (decide (c ≤ 122)))::(24,vb (decide (c ≤ 122)))::(2,vb (decide (c ≤ 122)))::[]) [0] [23] (zq [0] 1 3::zq [1] 2 4::zq [2] 3 5::zq [3] 4 6::zq [3] 5 7::zq [3] 6 8::zq [6] 7 9::zq [7,0] 8 10::zq [7,8] 9 11::zq [7,9] 10 12::zq [10,0] 11 13::zq [10,11] 12 14::zq [7,10,12] 13 15::zq [7,13] 14 16::zq [14] 15 17::zq [15,0] 16 18::zq [15,16] 17 19::zq [15,17] 18 20::zq [18,0] 19 21::zq [18,19] 20 22::zq [15,18,20] 21 23::zq [15,21] 22 24::zq [22] 23 2::[]) [(_,_)] rfl ⟨z1 rfl,z4 rfl rfl,z8 hg1_2 rfl,zt rfl,zt rfl,z3 false rfl,z1 rfl,zr' rfl (oM rfl),zr' rfl (oB rfl rfl),zr' rfl (op_move _ _ _ _ (zb hg1_9) rfl),zr' rfl (oM rfl),zr' rfl (oB rfl rfl),zr' rfl (op_pick _ _ true _ rfl rfl),z3 false rfl,z8 hg1_14 rfl,zr' rfl (oM rfl),zr' rfl (oB rfl rfl),zr' rfl (op_move _ _ _ _ (zb hg1_17) rfl),zr' rfl (oM rfl),zr' rfl (oB rfl rfl),zr' rfl (op_pick _ _ true _ rfl rfl),z3 false rfl,z2 rfl,zz⟩ ?_
       exact hl3 _ (zi h).symm
      ·refine zg hn (_::(3,.v (.int .u8 c))::(4,vb (decide (48 ≤ c)))::(5,vb false)::(6,.v undef)::(7,.v undef)::(8,vb false)::(9,vb false)::(10,.v (.int .u8 c))::(11,vb (decide (65 ≤ c)))::(12,vb true)::(13,.v (.int .u8 c))::(14,vb (decide (c ≤ 90)))::(15,vb (decide (c ≤ 90)))::(16,vb (decide (c ≤ 90)))::(17,vb false)::(18,.v (.int .u8 c))::(19,vb (decide (97 ≤ c)))::(20,vb false)::(21,.v undef)::(22,.v undef)::(23,vb false)::(24,vb false)::(2,vb false)::[]) [0] [23] (zq [0] 1 3::zq [1] 2 4::zq [2] 3 5::zq [3] 4 6::zq [3] 5 7::zq [3] 6 8::zq [6] 7 9::zq [7,0] 8 10::zq [7,8] 9 11::zq [7,9] 10 12::zq [10,0] 11 13::zq [10,11] 12 14::zq [7,10,12] 13 15::zq [7,13] 14 16::zq [14] 15 17::zq [15,0] 16 18::zq [15,16] 17 19::zq [15,17] 18 20::zq [18] 19 21::zq [18] 20 22::zq [15,18] 21 23::zq [15,21] 22 24::zq [22] 23 2::[]) [(_,_)] rfl ⟨z1 rfl,z4 rfl rfl,z8 hg1_2 rfl,zt rfl,zt rfl,z3 false rfl,z1 rfl,zr' rfl (oM rfl),zr' rfl (oB rfl rfl),zr' rfl (op_move _ _ _ _ (zb hg1_9) rfl),zr' rfl (oM rfl),zr' rfl (oB rfl rfl),zr' rfl (op_pick _ _ true _ rfl rfl),z3 false rfl,z8 hg1_14 rfl,zr' rfl (oM rfl),zr' rfl (oB rfl rfl),zr' rfl (op_move _ _ _ _ (zb hg1_17) rfl),zt rfl,zt rfl,zr' rfl (op_pick _ _ false _ rfl rfl),z3 false rfl,z2 rfl,zz⟩ ?_
       exact hl3 _ (zi h).symm
    ·refine cond_some h (fun hg1_17 h => ?_) (fun hg1_17 h => ?_)
     ·refine zg hn (_::(3,.v (.int .u8 c))::(4,vb (decide (48 ≤ c)))::(5,vb false)::(6,.v undef)::(7,.v undef)::(8,vb false)::(9,vb false)::(10,.v (.int .u8 c))::(11,vb (decide (65 ≤ c)))::(12,vb false)::(13,.v undef)::(14,.v undef)::(15,vb false)::(16,vb false)::(17,vb false)::(18,.v (.int .u8 c))::(19,vb (decide (97 ≤ c)))::(20,vb true)::(21,.v (.int .u8 c))::(22,vb (decide (c ≤ 122)))::(23,vb (decide (c ≤ 122)))::(24,vb (decide (c ≤ 122)))::(2,vb (decide (c ≤ 122)))::[]) [0] [23] (zq [0] 1 3::zq [1] 2 4::zq [2] 3 5::zq [3] 4 6::zq [3] 5 7::zq [3] 6 8::zq [6] 7 9::zq [7,0] 8 10::zq [7,8] 9 11::zq [7,9] 10 12::zq [10] 11 13::zq [10] 12 14::zq [7,10] 13 15::zq [7,13] 14 16::zq [14] 15 17::zq [15,0] 16 18::zq [15,16] 17 19::zq [15,17] 18 20::zq [18,0] 19 21::zq [18,19] 20 22::zq [15,18,20] 21 23::zq [15,21] 22 24::zq [22] 23 2::[]) [(_,_)] rfl ⟨z1 rfl,z4 rfl rfl,z8 hg1_2 rfl,zt rfl,zt rfl,z3 false rfl,z1 rfl,zr' rfl (oM rfl),zr' rfl (oB rfl rfl),zr' rfl (op_move _ _ _ _ (zb hg1_9) rfl),zt rfl,zt rfl,zr' rfl (op_pick _ _ false _ rfl rfl),z3 false rfl,z1 rfl,zr' rfl (oM rfl),zr' rfl (oB rfl rfl),zr' rfl (op_move _ _ _ _ (zb hg1_17) rfl),zr' rfl (oM rfl),zr' rfl (oB rfl rfl),zr' rfl (op_pick _ _ true _ rfl rfl),z3 false rfl,z2 rfl,zz⟩ ?_
      exact hl3 _ (zi h).symm
     ·refine zg hn (_::(3,.v (.int .u8 c))::(4,vb (decide (48 ≤ c)))::(5,vb false)::(6,.v undef)::(7,.v undef)::(8,vb false)::(9,vb false)::(10,.v (.int .u8 c))::(11,vb (decide (65 ≤ c)))::(12,vb false)::(13,.v undef)::(14,.v undef)::(15,vb false)::(16,vb false)::(17,vb false)::(18,.v (.int .u8 c))::(19,vb (decide (97 ≤ c)))::(20,vb false)::(21,.v undef)::(22,.v undef)::(23,vb false)::(24,vb false)::(2,vb false)::[]) [0] [23] (zq [0] 1 3::zq [1] 2 4::zq [2] 3 5::zq [3] 4 6::zq [3] 5 7::zq [3] 6 8::zq [6] 7 9::zq [7,0] 8 10::zq [7,8] 9 11::zq [7,9] 10 12::zq [10] 11 13::zq [10] 12 14::zq [7,10] 13 15::zq [7,13] 14 16::zq [14] 15 17::zq [15,0] 16 18::zq [15,16] 17 19::zq [15,17] 18 20::zq [18] 19 21::zq [18] 20 22::zq [15,18] 21 23::zq [15,21] 22 24::zq [22] 23 2::[]) [(_,_)] rfl ⟨z1 rfl,z4 rfl rfl,z8 hg1_2 rfl,zt rfl,zt rfl,z3 false rfl,z1 rfl,zr' rfl (oM rfl),zr' rfl (oB rfl rfl),zr' rfl (op_move _ _ _ _ (zb hg1_9) rfl),zt rfl,zt rfl,zr' rfl (op_pick _ _ false _ rfl rfl),z3 false rfl,z1 rfl,zr' rfl (oM rfl),zr' rfl (oB rfl rfl),zr' rfl (op_move _ _ _ _ (zb hg1_17) rfl),zt rfl,zt rfl,zr' rfl (op_pick _ _ false _ rfl rfl),z3 false rfl,z2 rfl,zz⟩ ?_
      exact hl3 _ (zi h).symm
theorem ok_strings_IndexByte (s : ByteArray) (c r : Int) (h : Sh.strings_IndexByte s c = some r) : FnOK Tryd.prog 96 [.v (.string s), .v (.int .u8 c)] (.v (.int .i64 r)) := lib_strings_IndexByte Tryd.strings_IndexByte s c r h
theorem ok_path_atom_1 (c : Int) (r : Bool) (h : Sh.path_atom_1 c = some r) : FnOK Tryd.prog 95 [.v (.int .u8 c)] (.v (.bool r)) := by
  unfold Sh.path_atom_1 at h
  refine fn_ok func95 rfl (zl rfl) rfl rfl fun g0 hn hio => ?_
  refine zgg hn [_,(2,vb false)] [0] [0] [zq [] 1 2] [(_,_)] rfl ⟨z2 rfl,zz⟩ ?_
  refine ht_seq ?_
  refine ht_joinS h (fun (s3 : Bool) => [(2,vb s3)]) ?_ ?_
  ·rintro s3 h
   refine pt_then (ht_ret ?_)
   obtain rfl := zi h
   exact pt_ret hio rfl (.tmp _ _ .nil) rfl rfl
  ·intro u4 h hl5 hr6
   obtain ⟨v1, hv1, h⟩ := zn h
   refine cond_some h (fun hg1_2 h => ?_) (fun hg1_2 h => ?_)
   ·refine zg hn [_,(3,.v (.int .u8 c)),(4,vb v1),(5,vb true),(6,.v undef),(7,.v undef),(8,.v undef),(9,vb true),(2,vb true)] [0] [8] [zq [0] 1 3,zq [1] 2 4,zq [2] 3 5,zq [3] 4 6,zq [3] 5 7,zq [3] 6 8,zq [3] 7 9,zq [7] 8 2] [(_,_)] rfl ⟨z1 rfl,zp rfl (op_call _ _ 92 _ _ rfl call92 rfl (ok_path_alphanumeric c _ hv1) rfl rfl),z8 hg1_2 rfl,zf rfl,zf rfl,zf rfl,z3 true rfl,z2 rfl,zz⟩ ?_
    exact hl5 _ (zi h).symm
   ·obtain ⟨v2, hv2, h⟩ := zn h
    refine zg hn [_,(3,.v (.int .u8 c)),(4,vb v1),(5,vb false),(6,.v (.int .u8 c)),(7,vi v2),(8,vb (decide (0 ≤ v2))),(9,vb (decide (0 ≤ v2))),(2,vb (decide (0 ≤ v2)))] [0] [8] [zq [0] 1 3,zq [1] 2 4,zq [2] 3 5,zq [3,0] 4 6,zq [3,4] 5 7,zq [3,5] 6 8,zq [3,6] 7 9,zq [7] 8 2] [(_,_)] rfl ⟨z1 rfl,zp rfl (op_call _ _ 92 _ _ rfl call92 rfl (ok_path_alphanumeric c _ hv1) rfl rfl),z8 hg1_2 rfl,zr' rfl (oM rfl),zr' rfl (op_call _ _ 96 _ _ rfl call96 rfl (ok_strings_IndexByte (⟨#[33, 35, 36, 37, 38, 39, 42, 43, 45, 47, 61, 63, 94, 95, 96, 123, 124, 125, 126]⟩ : ByteArray) c _ hv2) rfl rfl),zr' rfl (oB rfl rfl),z3 false rfl,z2 rfl,zz⟩ ?_
    exact hl5 _ (zi h).symm
theorem ok_path_all_of_path_atom_1 (s : ByteArray) (r : Bool) (h : Sh.path_all_of_path_atom_1 s = some r) : FnOK Tryd.prog 90 [.v (.string s), .v (.func (.func 95) #[] #[])] (.v (.bool r)) := by
  unfold Sh.path_all_of_path_atom_1 at h
  refine fn_ok func90 rfl (zl rfl) rfl rfl fun g0 hn hio => ?_
  refine zgg hn [_,_,(4,vb false)] [0,1] [0,1] [zq [] 2 4] [(_,_),(_,_)] rfl ⟨z2 rfl,zz⟩ ?_
  refine ht_seq ?_
  refine zgg hn [_,_,(6,vs s),(7,vi (s.size : Int)),(8,vi 0)] [0,1] [0,1,3,4] [zq [0] 2 6,zq [2] 3 7,zq [] 4 8] [(_,_),(_,_),(_,_),(_,_)] rfl ⟨z1 rfl,zp rfl (oN underlying9 rfl),z1 rfl,zz⟩ ?_
  refine ht_loopS h (fun (s9 : Int) => [(0,vs s),(1,.v (.func (.func 95) #[] #[])),(7,vi (s.size : Int)),(8,vi s9)]) (fun (() : Unit) => []) ?_ ?_
  ·rintro ⟨⟩ h
   refine pt_then ?_
   refine zgg hn [(4,vb true)] [] [0] [zq [] 0 4] [(_,_)] rfl ⟨z2 rfl,zz⟩ ?_
   refine ht_ret ?_
   obtain rfl := zi h
   exact pt_ret hio rfl (.tmp _ _ .nil) rfl rfl
  ·rintro u12 hl13 hr14 s9 rr17 h ho15
   refine zgg hn [_,_,_,_,(9,vb (decide (s9 < (s.size : Int))))] [0,1,2,3] [0,1,2,3,4] [zq [3,2] 4 9] [(_,_),(_,_),(_,_),(_,_),(_,_)] rfl ⟨z4 rfl rfl,zz⟩ ?_
   refine ht_seq ?_
   refine ht_cond _ rfl (fun hb18 => ?_) (fun hb18 => ?_)
   ·have h := cond_t hb18 h
    refine ht_skip ?_
    refine pt_then (ht_seq ?_)
    refine ht_block ?_
    refine zgg hn [_,_,_,_,_,(10,vi s9),(5,vi s9)] [0,1,2,3,4] [0,1,2,3,6] [zq [3] 5 10,zq [5] 6 5] [(_,_),(_,_),(_,_),(_,_),(_,_)] rfl ⟨z1 rfl,z2 rfl,zz⟩ ?_
    refine ht_seq ?_
    obtain ⟨v2, hv2, h⟩ := zn h
    obtain ⟨v3, hv3, h⟩ := zn h
    refine zg hn [_,_,_,_,_,(11,.v (.func (.func 95) #[] #[])),(12,vs s),(13,vi s9),(14,.v (.int .u8 v2)),(15,vb v3),(16,vb (!v3))] [0,1,2,3,4] [0,1,2,3,10] [zq [1] 5 11,zq [0] 6 12,zq [4] 7 13,zq [6,7] 8 14,zq [8,5] 9 15,zq [9] 10 16] [(_,_),(_,_),(_,_),(_,_),(_,_)] rfl ⟨z1 rfl,z1 rfl,z1 rfl,zp rfl (op_chr _ _ _ s9 _ underlying9 rfl rfl hv2),zp rfl (op_call _ _ 95 _ _ rfl call95 rfl (ok_path_atom_1 v2 _ hv3) rfl rfl),zp rfl (op_un _ _ _ _ rfl rfl),zz⟩ ?_
    refine pt_then ?_
    refine ht_cond _ rfl (fun hb19 => ?_) (fun hb19 => ?_)
    ·have h := cond_t hb19 h
     refine zgg hn [_,_,_,_,_,(4,vb false)] [0,1,2,3,4] [5] [zq [] 5 4] [(_,_)] rfl ⟨z2 rfl,zz⟩ ?_
     refine ht_ret ?_
     refine pt_r_in ?_
     refine pt_r_then ?_
     refine pt_r_then ?_
     refine pt_r_in ?_
     refine pt_r_then ?_
     have h := hr14 _ (ho15 _ (zi h).symm).symm
     obtain rfl := zi h
     exact pt_ret hio rfl (.tmp _ _ .nil) rfl rfl
    ·have h := cond_f hb19 h
     refine ht_skip ?_
     refine pt_inb ?_
     refine pt_then ?_
     obtain ⟨v5, hv5, h⟩ := zn h
     refine zg hn [_,_,_,_,_,(17,vi v5),(8,vi v5)] [0,1,2,3,4] [0,1,2,6] [zq [3] 5 17,⟨[5],[3],[6],[(.slot 8)]⟩] [(_,_),(_,_),(_,_),(_,_)] rfl ⟨zp rfl (oB rfl (ibind (f := int .i64) (Option.some.inj hv5))),zp rfl (LOp.drop [_] (oM rfl)),zz⟩ ?_
     exact pt_next _ (zi h).symm rfl
   ·have h := cond_f hb18 h
    refine ht_exit ?_
    refine pt_x_then ?_
    refine pt_x_then ?_
    refine pt_x_in ?_
    refine pt_pick [] (by kernel_rfl) (es' := []) rfl ?_
    exact hl13 _ (ho15 _ (zi h).symm).symm
theorem ok_path_atom (s : ByteArray) (r : Bool) (h : Sh.path_atom s = some r) : FnOK Tryd.prog 85 [.v (.string s)] (.v (.bool r)) := by
  unfold Sh.path_atom at h
  refine fn_ok func85 rfl (zl rfl) rfl rfl fun g0 hn hio => ?_
  refine zgg hn [_,(2,vb false)] [0] [0] [zq [] 1 2] [(_,_)] rfl ⟨z2 rfl,zz⟩ ?_
  refine ht_seq ?_
  refine ht_joinS h (fun (s2 : Bool) => [(2,vb s2)]) ?_ ?_
  ·rintro s2 h
   refine pt_then (ht_ret ?_)
   obtain rfl := zi h
   exact pt_ret hio rfl (.tmp _ _ .nil) rfl rfl
  ·intro u3 h hl4 hr5
   refine cond_some h (fun hg1_2 h => ?_) (fun hg1_2 h => ?_)
   ·obtain ⟨v1, hv1, h⟩ := zn h
    refine zg hn [_,(3,vs s),(4,vb (!(s.toList == z0.toList))),(5,vb true),(6,vs s),(7,vb v1),(8,vb v1),(2,vb v1)] [0] [7] [zq [0] 1 3,zq [1] 2 4,zq [2] 3 5,zq [3,0] 4 6,zq [3,4] 5 7,zq [3,5] 6 8,zq [6] 7 2] [(_,_)] rfl ⟨z1 rfl,z4 rfl rfl,z8 hg1_2 rfl,zr' rfl (oM rfl),zr' rfl (op_call _ _ 90 _ _ rfl call90 rfl (ok_path_all_of_path_atom_1 s _ hv1) rfl rfl),z3 true rfl,z2 rfl,zz⟩ ?_
    exact hl4 _ (zi h).symm
   ·refine zg hn [_,(3,vs s),(4,vb (!(s.toList == z0.toList))),(5,vb false),(6,.v undef),(7,.v undef),(8,vb false),(2,vb false)] [0] [7] [zq [0] 1 3,zq [1] 2 4,zq [2] 3 5,zq [3] 4 6,zq [3] 5 7,zq [3] 6 8,zq [6] 7 2] [(_,_)] rfl ⟨z1 rfl,z4 rfl rfl,z8 hg1_2 rfl,zt rfl,zt rfl,z3 false rfl,z2 rfl,zz⟩ ?_
    exact hl4 _ (zi h).symm
theorem ok_path_dotted_of_path_atom (mx : Int) (s : ByteArray) (r : Bool) (h : Sh.path_dotted_of_path_atom s = some r) : FnG Tryd.prog (GL mx) 80 [.v (.string s), .v (.func (.func 85) #[] #[])] (.v (.bool r)) := by
  unfold Sh.path_dotted_of_path_atom at h
  refine fn_okG func80 rfl (zl rfl) rfl rfl fun g0 hn hio => ?_
  refine zgg hn [_,_,_,(3,.box 84 [.v (.func (.func 85) #[] #[])]),(4,.box 4 [vb false])] [0,1,2] [0,2,3,4] [zq [1] 3 3,zq [] 4 4] [(_,_),(_,_),(_,_),(_,_)] rfl ⟨zp rfl (op_box _ _ _ _ rfl rfl rfl),zp rfl (op_alloc _ _ zr4),zz⟩ ?_
  refine ht_seq ?_
  refine ht_seq ?_
  obtain ⟨v1, hv1, h⟩ := zn h
  refine zg hn [_,_,_,_,(6,vs s),(7,.cloB 111 [.box 9 [vs v1.1],.box 9 [vs v1.2.1],.box 3 [vi v1.2.2]])] [0,1,2,3] [1,2,3,5] [zq [0] 4 6,zq [4] 5 7] [(_,_),(_,_),(_,_),(_,_)] rfl ⟨z1 rfl,zp rfl (op_callS _ _ 89 _ _ rfl call89 rfl rfl (ok_strings_SplitSeq s (⟨#[46]⟩ : ByteArray) _ hv1) rfl),zz⟩ ?_
  refine pt_then ?_
  refine ht_block ?_
  refine ht_pick [3,0,1,2] (by kernel_rfl) (es' := [(7,.cloB 111 [.box 9 [vs v1.1],.box 9 [vs v1.2.1],.box 3 [vi v1.2.2]]),(13,.glob (GL mx)),(3,.box 84 [.v (.func (.func 85) #[] #[])]),(4,.box 4 [vb false])]) rfl ?_
  refine ht_rangeF h 111 7 8 14 _ [13, 3, 4] call111 (fun (() : Unit) => [(13, .glob (GL mx)), (3, .box 84 [.v (.func (.func 85) #[] #[])]), (4, .box 4 [.v (.bool false)])]) (fun (() : Unit) => [(13, .glob (GL mx)), (3, .box 84 [.v (.func (.func 85) #[] #[])]), (4, .box 4 [.v (.bool false)])]) (fun l J Y hY t t' h => ok_strings_splitSeq_1 mx l J Y hY v1.1 v1.2.1 v1.2.2 t t' h) hn rfl (fun _ => rfl) (fun _ => rfl) (fun _ => rfl) rfl rfl (fun _ => ⟨rfl, rfl⟩) rfl (glIn_look 13 rfl) ?_ ?_ ?_
  ·rintro kk g0 hn hio x ⟨⟩ u h
   refine ht_es (es' := [(8,vs x),(13,.glob (GL mx)),(3,.box 84 [.v (.func (.func 85) #[] #[])]),(4,.box 4 [vb false]),(13,.v (kk.tm.getD 13 undef)),(3,.v (kk.tm.getD 3 undef)),(4,.v (kk.tm.getD 4 undef)),(14,.inv kk.ready)]) rfl ?_
   refine zg hn [_,_,_,_,_,_,_,_,(5,vs x)] [0,1,2,3,4,5,6,7] [1,2,3,4,5,6,7,8] [zq [0] 8 5] [(_,_),(_,_),(_,_),(_,_),(_,_),(_,_),(_,_),(_,_)] rfl ⟨z2 rfl,zz⟩ ?_
   refine pt_pick [0,1,2,3,4,5,7,6] (by kernel_rfl) (es' := [(13,.glob (GL mx)),(3,.box 84 [.v (.func (.func 85) #[] #[])]),(4,.box 4 [vb false]),(13,.v (kk.tm.getD 13 undef)),(3,.v (kk.tm.getD 3 undef)),(4,.v (kk.tm.getD 4 undef)),(5,vs x),(14,.inv kk.ready)]) rfl ?_
   refine pt_begin (es := [(13,.glob (GL mx)),(3,.box 84 [.v (.func (.func 85) #[] #[])]),(4,.box 4 [vb false]),(13,.v (kk.tm.getD 13 undef)),(3,.v (kk.tm.getD 3 undef)),(4,.v (kk.tm.getD 4 undef)),(5,vs x)]) 14 rfl ?_
   refine ht_block ?_
   refine ht_seq ?_
   obtain ⟨v2, hv2, h⟩ := zn h
   refine zg hn [_,_,_,_,_,_,_,_,(9,.v (.func (.func 85) #[] #[])),(10,vs x),(11,vb v2),(12,vb (!v2))] [0,1,2,3,4,5,6,7] [0,1,2,3,4,5,7,11] [zq [1] 8 9,zq [6] 9 10,zq [9,8] 10 11,zq [10] 11 12] [(_,_),(_,_),(_,_),(_,_),(_,_),(_,_),(_,_),(_,_)] rfl ⟨zp rfl (oL underlying84 rfl),z1 rfl,zp rfl (op_call _ _ 85 _ _ rfl call85 rfl (ok_path_atom x _ hv2) rfl rfl),zp rfl (op_un _ _ _ _ rfl rfl),zz⟩ ?_
   refine pt_then ?_
   refine ht_cond _ rfl (fun hb5 => ?_) (fun hb5 => ?_)
   ·have h := cond_t hb5 h
    refine zgg hn [_,_,_,_,_,_,_,_,(4,.box 4 [vb false])] [0,1,2,3,4,5,6,7] [0,1,8,3,4,5,6] [⟨[],[2],[8],[.cell 4 0]⟩] [(_,_),(_,_),(_,_),(_,_),(_,_),(_,_),(_,_)] rfl ⟨zp rfl (oS sz4 rfl),zz⟩ ?_
    refine ht_ret ?_
    refine pt_r_in ?_
    obtain rfl := zi h
    exact pt_rret 14 [13, 3, 4] _ rfl rfl (by kernel_rfl)
   ·have h := cond_f hb5 h
    refine ht_skip ?_
    refine pt_inb ?_
    refine pt_pick [0,1,2,3,4,5,6] (by kernel_rfl) (es' := [(_,_),(_,_),(_,_),(_,_),(_,_),(_,_),(_,_)]) rfl ?_
    obtain rfl := zi h
    exact pt_rnext 14 [13, 3, 4] _ rfl rfl (by kernel_rfl)
  ·rintro D ⟨⟩ h
   refine pt_inb ?_
   refine pt_then ?_
   refine zgg hn [_,_,_,(4,.box 4 [vb true])] [0,1,2] [0,3] [⟨[],[2],[3],[.cell 4 0]⟩] [(_,_),(_,_)] rfl ⟨zp rfl (oS sz4 rfl),zz⟩ ?_
   refine ht_ret ?_
   refine pt_pick [1] (by kernel_rfl) (es' := [(_,_)]) rfl ?_
   obtain rfl := zi h
   exact pt_ret hio rfl (.cell1 _ _ _ _ underlying4 rfl .nil) rfl rfl
  ·rintro D ⟨⟩ h
   refine pt_pick [2] (by kernel_rfl) (es' := [(_,_)]) rfl ?_
   refine pt_r_in ?_
   refine pt_r_then ?_
   obtain rfl := zi h
   exact pt_ret hio rfl (.cell1 _ _ _ _ underlying4 rfl .nil) rfl rfl
theorem ok_path_local (mx : Int) (s : ByteArray) (r : Bool) (h : Sh.path_local s = some r) : FnG Tryd.prog (GL mx) 72 [.v (.string s)] (.v (.bool r)) := by
  unfold Sh.path_local at h
  refine fn_okG func72 rfl (zl rfl) rfl rfl fun g0 hn hio => ?_
  refine zgg hn [_,_,(2,vb false)] [0,1] [0,1] [zq [] 2 2] [(_,_),(_,_)] rfl ⟨z2 rfl,zz⟩ ?_
  refine ht_seq ?_
  refine ht_joinS h (fun (s2 : Bool) => [(10,.glob (GL mx)),(2,vb s2)]) ?_ ?_
  ·rintro s2 h
   refine pt_then (ht_ret ?_)
   refine pt_pick [1] (by kernel_rfl) (es' := [(_,_)]) rfl ?_
   obtain rfl := zi h
   exact pt_ret hio rfl (.tmp _ _ .nil) rfl rfl
  ·intro u3 h hl4 hr5
   refine cond_some h (fun hg1_3 h => ?_) (fun hg1_3 h => ?_)
   ·obtain ⟨v1, hv1, h⟩ := zn h
    refine zg hn [_,_,(3,vs s),(4,vi (s.size : Int)),(5,vb (decide ((s.size : Int) ≤ 64))),(6,vb true),(7,vs s),(8,vb v1),(9,vb v1),(2,vb v1)] [0,1] [1,9] [zq [0] 2 3,zq [2] 3 4,zq [3] 4 5,zq [4] 5 6,zq [5,0] 6 7,zq [5,6,1] 7 8,zq [5,7] 8 9,zq [8] 9 2] [(_,_),(_,_)] rfl ⟨z1 rfl,zp rfl (oN underlying9 rfl),z4 rfl rfl,z8 hg1_3 rfl,zr' rfl (oM rfl),zr' rfl (op_callG _ _ 10 80 _ _ rfl call80 rfl rfl (fun _ h => h) (ok_path_dotted_of_path_atom mx s _ hv1) rfl rfl),z3 true rfl,z2 rfl,zz⟩ ?_
    exact hl4 _ (zi h).symm
   ·refine zg hn [_,_,(3,vs s),(4,vi (s.size : Int)),(5,vb (decide ((s.size : Int) ≤ 64))),(6,vb false),(7,.v undef),(8,.v undef),(9,vb false),(2,vb false)] [0,1] [1,9] [zq [0] 2 3,zq [2] 3 4,zq [3] 4 5,zq [4] 5 6,zq [5] 6 7,zq [5] 7 8,zq [5] 8 9,zq [8] 9 2] [(_,_),(_,_)] rfl ⟨z1 rfl,zp rfl (oN underlying9 rfl),z4 rfl rfl,z8 hg1_3 rfl,zt rfl,zt rfl,z3 false rfl,z2 rfl,zz⟩ ?_
    exact hl4 _ (zi h).symm
theorem ok_path_label_1 (c : Int) (r : Bool) (h : Sh.path_label_1 c = some r) : FnOK Tryd.prog 91 [.v (.int .u8 c)] (.v (.bool r)) := by
  unfold Sh.path_label_1 at h
  refine fn_ok func91 rfl (zl rfl) rfl rfl fun g0 hn hio => ?_
  refine zgg hn [_,(2,vb false)] [0] [0] [zq [] 1 2] [(_,_)] rfl ⟨z2 rfl,zz⟩ ?_
  refine ht_seq ?_
  refine ht_joinS h (fun (s2 : Bool) => [(2,vb s2)]) ?_ ?_
  ·rintro s2 h
   refine pt_then (ht_ret ?_)
   obtain rfl := zi h
   exact pt_ret hio rfl (.tmp _ _ .nil) rfl rfl
  ·intro u3 h hl4 hr5
   obtain ⟨v1, hv1, h⟩ := zn h
   refine cond_some h (fun hg1_2 h => ?_) (fun hg1_2 h => ?_)
   ·refine zg hn [_,(3,.v (.int .u8 c)),(4,vb v1),(5,vb true),(6,.v undef),(7,.v undef),(8,vb true),(2,vb true)] [0] [7] [zq [0] 1 3,zq [1] 2 4,zq [2] 3 5,zq [3] 4 6,zq [3] 5 7,zq [3] 6 8,zq [6] 7 2] [(_,_)] rfl ⟨z1 rfl,zp rfl (op_call _ _ 92 _ _ rfl call92 rfl (ok_path_alphanumeric c _ hv1) rfl rfl),z8 hg1_2 rfl,zf rfl,zf rfl,z3 true rfl,z2 rfl,zz⟩ ?_
    exact hl4 _ (zi h).symm
   ·refine zg hn [_,(3,.v (.int .u8 c)),(4,vb v1),(5,vb false),(6,.v (.int .u8 c)),(7,vb (c == 45)),(8,vb (c == 45)),(2,vb (c == 45))] [0] [7] [zq [0] 1 3,zq [1] 2 4,zq [2] 3 5,zq [3,0] 4 6,zq [3,4] 5 7,zq [3,5] 6 8,zq [6] 7 2] [(_,_)] rfl ⟨z1 rfl,zp rfl (op_call _ _ 92 _ _ rfl call92 rfl (ok_path_alphanumeric c _ hv1) rfl rfl),z8 hg1_2 rfl,zr' rfl (oM rfl),zr' rfl (oB rfl rfl),z3 false rfl,z2 rfl,zz⟩ ?_
    exact hl4 _ (zi h).symm
theorem ok_path_all_of_path_label_1 (s : ByteArray) (r : Bool) (h : Sh.path_all_of_path_label_1 s = some r) : FnOK Tryd.prog 90 [.v (.string s), .v (.func (.func 91) #[] #[])] (.v (.bool r)) := by
  unfold Sh.path_all_of_path_label_1 at h
  refine fn_ok func90 rfl (zl rfl) rfl rfl fun g0 hn hio => ?_
  refine zgg hn [_,_,(4,vb false)] [0,1] [0,1] [zq [] 2 4] [(_,_),(_,_)] rfl ⟨z2 rfl,zz⟩ ?_
  refine ht_seq ?_
  refine zgg hn [_,_,(6,vs s),(7,vi (s.size : Int)),(8,vi 0)] [0,1] [0,1,3,4] [zq [0] 2 6,zq [2] 3 7,zq [] 4 8] [(_,_),(_,_),(_,_),(_,_)] rfl ⟨z1 rfl,zp rfl (oN underlying9 rfl),z1 rfl,zz⟩ ?_
  refine ht_loopS h (fun (s9 : Int) => [(0,vs s),(1,.v (.func (.func 91) #[] #[])),(7,vi (s.size : Int)),(8,vi s9)]) (fun (() : Unit) => []) ?_ ?_
  ·rintro ⟨⟩ h
   refine pt_then ?_
   refine zgg hn [(4,vb true)] [] [0] [zq [] 0 4] [(_,_)] rfl ⟨z2 rfl,zz⟩ ?_
   refine ht_ret ?_
   obtain rfl := zi h
   exact pt_ret hio rfl (.tmp _ _ .nil) rfl rfl
  ·rintro u12 hl13 hr14 s9 rr17 h ho15
   refine zgg hn [_,_,_,_,(9,vb (decide (s9 < (s.size : Int))))] [0,1,2,3] [0,1,2,3,4] [zq [3,2] 4 9] [(_,_),(_,_),(_,_),(_,_),(_,_)] rfl ⟨z4 rfl rfl,zz⟩ ?_
   refine ht_seq ?_
   refine ht_cond _ rfl (fun hb18 => ?_) (fun hb18 => ?_)
   ·have h := cond_t hb18 h
    refine ht_skip ?_
    refine pt_then (ht_seq ?_)
    refine ht_block ?_
    refine zgg hn [_,_,_,_,_,(10,vi s9),(5,vi s9)] [0,1,2,3,4] [0,1,2,3,6] [zq [3] 5 10,zq [5] 6 5] [(_,_),(_,_),(_,_),(_,_),(_,_)] rfl ⟨z1 rfl,z2 rfl,zz⟩ ?_
    refine ht_seq ?_
    obtain ⟨v2, hv2, h⟩ := zn h
    obtain ⟨v3, hv3, h⟩ := zn h
    refine zg hn [_,_,_,_,_,(11,.v (.func (.func 91) #[] #[])),(12,vs s),(13,vi s9),(14,.v (.int .u8 v2)),(15,vb v3),(16,vb (!v3))] [0,1,2,3,4] [0,1,2,3,10] [zq [1] 5 11,zq [0] 6 12,zq [4] 7 13,zq [6,7] 8 14,zq [8,5] 9 15,zq [9] 10 16] [(_,_),(_,_),(_,_),(_,_),(_,_)] rfl ⟨z1 rfl,z1 rfl,z1 rfl,zp rfl (op_chr _ _ _ s9 _ underlying9 rfl rfl hv2),zp rfl (op_call _ _ 91 _ _ rfl call91 rfl (ok_path_label_1 v2 _ hv3) rfl rfl),zp rfl (op_un _ _ _ _ rfl rfl),zz⟩ ?_
    refine pt_then ?_
    refine ht_cond _ rfl (fun hb19 => ?_) (fun hb19 => ?_)
    ·have h := cond_t hb19 h
     refine zgg hn [_,_,_,_,_,(4,vb false)] [0,1,2,3,4] [5] [zq [] 5 4] [(_,_)] rfl ⟨z2 rfl,zz⟩ ?_
     refine ht_ret ?_
     refine pt_r_in ?_
     refine pt_r_then ?_
     refine pt_r_then ?_
     refine pt_r_in ?_
     refine pt_r_then ?_
     have h := hr14 _ (ho15 _ (zi h).symm).symm
     obtain rfl := zi h
     exact pt_ret hio rfl (.tmp _ _ .nil) rfl rfl
    ·have h := cond_f hb19 h
     refine ht_skip ?_
     refine pt_inb ?_
     refine pt_then ?_
     obtain ⟨v5, hv5, h⟩ := zn h
     refine zg hn [_,_,_,_,_,(17,vi v5),(8,vi v5)] [0,1,2,3,4] [0,1,2,6] [zq [3] 5 17,⟨[5],[3],[6],[(.slot 8)]⟩] [(_,_),(_,_),(_,_),(_,_)] rfl ⟨zp rfl (oB rfl (ibind (f := int .i64) (Option.some.inj hv5))),zp rfl (LOp.drop [_] (oM rfl)),zz⟩ ?_
     exact pt_next _ (zi h).symm rfl
   ·have h := cond_f hb18 h
    refine ht_exit ?_
    refine pt_x_then ?_
    refine pt_x_then ?_
    refine pt_x_in ?_
    refine pt_pick [] (by kernel_rfl) (es' := []) rfl ?_
    exact hl13 _ (ho15 _ (zi h).symm).symm
theorem ok_path_label (s : ByteArray) (r : Bool) (h : Sh.path_label s = some r) : FnOK Tryd.prog 81 [.v (.string s)] (.v (.bool r)) := by
  unfold Sh.path_label at h
  refine fn_ok func81 rfl (zl rfl) rfl rfl fun g0 hn hio => ?_
  refine zgg hn [_,(2,vb false)] [0] [0] [zq [] 1 2] [(_,_)] rfl ⟨z2 rfl,zz⟩ ?_
  refine ht_seq ?_
  refine ht_joinS h (fun (s5 : Bool) => [(2,vb s5)]) ?_ ?_
  ·rintro s5 h
   refine pt_then (ht_ret ?_)
   obtain rfl := zi h
   exact pt_ret hio rfl (.tmp _ _ .nil) rfl rfl
  ·intro u6 h hl7 hr8
   refine cond_some h (fun hg1_2 h => ?_) (fun hg1_2 h => ?_)
   ·refine cond_some h (fun hg1_7 h => ?_) (fun hg1_7 h => ?_)
    ·obtain ⟨v1, hv1, h⟩ := zn h
     refine cond_some h (fun hg1_12 h => ?_) (fun hg1_12 h => ?_)
     ·obtain ⟨v2, hv2, h⟩ := zn h
      obtain ⟨v3, hv3, h⟩ := zn h
      refine cond_some h (fun hg1_20 h => ?_) (fun hg1_20 h => ?_)
      ·obtain ⟨v4, hv4, h⟩ := zn h
       refine zg hn (_::(3,vs s)::(4,vb (!(s.toList == z0.toList)))::(5,vb true)::(6,vs s)::(7,vi (s.size : Int))::(8,vb (decide ((s.size : Int) ≤ 63)))::(9,vb (decide ((s.size : Int) ≤ 63)))::(10,vb true)::(11,vs s)::(12,.v (.int .u8 v1))::(13,vb (v1 != 45))::(14,vb (v1 != 45))::(15,vb true)::(16,vs s)::(17,vs s)::(18,vi (s.size : Int))::(19,vi v2)::(20,.v (.int .u8 v3))::(21,vb (v3 != 45))::(22,vb (v3 != 45))::(23,vb true)::(24,vs s)::(25,vb v4)::(26,vb v4)::(2,vb v4)::[]) [0] [25] (zq [0] 1 3::zq [1] 2 4::zq [2] 3 5::zq [3,0] 4 6::zq [3,4] 5 7::zq [3,5] 6 8::zq [3,6] 7 9::zq [7] 8 10::zq [8,0] 9 11::zq [8,9] 10 12::zq [8,10] 11 13::zq [8,11] 12 14::zq [12] 13 15::zq [13,0] 14 16::zq [13,0] 15 17::zq [13,15] 16 18::zq [13,16] 17 19::zq [13,14,17] 18 20::zq [13,18] 19 21::zq [13,19] 20 22::zq [20] 21 23::zq [21,0] 22 24::zq [21,22] 23 25::zq [21,23] 24 26::zq [24] 25 2::[]) [(_,_)] rfl ⟨z1 rfl,z4 rfl rfl,z8 hg1_2 rfl,zr' rfl (oM rfl),zr' rfl (oN underlying9 rfl),zr' rfl (oB rfl rfl),z3 true rfl,z8 hg1_7 rfl,zr' rfl (oM rfl),zr' rfl (op_chr _ _ _ 0 _ underlying9 rfl rfl hv1),zr' rfl (oB rfl rfl),z3 true rfl,z8 hg1_12 rfl,zr' rfl (oM rfl),zr' rfl (oM rfl),zr' rfl (oN underlying9 rfl),zr' rfl (oB rfl (ibind (f := int .i64) (Option.some.inj hv2))),zr' rfl (op_chr _ _ _ v2 _ underlying9 rfl rfl hv3),zr' rfl (oB rfl rfl),z3 true rfl,z8 hg1_20 rfl,zr' rfl (oM rfl),zr' rfl (op_call _ _ 90 _ _ rfl call90 rfl (ok_path_all_of_path_label_1 s _ hv4) rfl rfl),z3 true rfl,z2 rfl,zz⟩ ?_
       exact hl7 _ (zi h).symm
      ·refine zg hn (_::(3,vs s)::(4,vb (!(s.toList == z0.toList)))::(5,vb true)::(6,vs s)::(7,vi (s.size : Int))::(8,vb (decide ((s.size : Int) ≤ 63)))::(9,vb (decide ((s.size : Int) ≤ 63)))::(10,vb true)::(11,vs s)::(12,.v (.int .u8 v1))::(13,vb (v1 != 45))::(14,vb (v1 != 45))::(15,vb true)::(16,vs s)::(17,vs s)::(18,vi (s.size : Int))::(19,vi v2)::(20,.v (.int .u8 v3))::(21,vb (v3 != 45))::(22,vb (v3 != 45))::(23,vb false)::(24,.v undef)::(25,.v undef)::(26,vb false)::(2,vb false)::[]) [0] [25] (zq [0] 1 3::zq [1] 2 4::zq [2] 3 5::zq [3,0] 4 6::zq [3,4] 5 7::zq [3,5] 6 8::zq [3,6] 7 9::zq [7] 8 10::zq [8,0] 9 11::zq [8,9] 10 12::zq [8,10] 11 13::zq [8,11] 12 14::zq [12] 13 15::zq [13,0] 14 16::zq [13,0] 15 17::zq [13,15] 16 18::zq [13,16] 17 19::zq [13,14,17] 18 20::zq [13,18] 19 21::zq [13,19] 20 22::zq [20] 21 23::zq [21] 22 24::zq [21] 23 25::zq [21] 24 26::zq [24] 25 2::[]) [(_,_)] rfl ⟨z1 rfl,z4 rfl rfl,z8 hg1_2 rfl,zr' rfl (oM rfl),zr' rfl (oN underlying9 rfl),zr' rfl (oB rfl rfl),z3 true rfl,z8 hg1_7 rfl,zr' rfl (oM rfl),zr' rfl (op_chr _ _ _ 0 _ underlying9 rfl rfl hv1),zr' rfl (oB rfl rfl),z3 true rfl,z8 hg1_12 rfl,zr' rfl (oM rfl),zr' rfl (oM rfl),zr' rfl (oN underlying9 rfl),zr' rfl (oB rfl (ibind (f := int .i64) (Option.some.inj hv2))),zr' rfl (op_chr _ _ _ v2 _ underlying9 rfl rfl hv3),zr' rfl (oB rfl rfl),z3 true rfl,z8 hg1_20 rfl,zt rfl,zt rfl,z3 false rfl,z2 rfl,zz⟩ ?_
       exact hl7 _ (zi h).symm
     ·refine zg hn (_::(3,vs s)::(4,vb (!(s.toList == z0.toList)))::(5,vb true)::(6,vs s)::(7,vi (s.size : Int))::(8,vb (decide ((s.size : Int) ≤ 63)))::(9,vb (decide ((s.size : Int) ≤ 63)))::(10,vb true)::(11,vs s)::(12,.v (.int .u8 v1))::(13,vb (v1 != 45))::(14,vb (v1 != 45))::(15,vb false)::(16,.v undef)::(17,.v undef)::(18,.v undef)::(19,.v undef)::(20,.v undef)::(21,.v undef)::(22,vb false)::(23,vb false)::(24,.v undef)::(25,.v undef)::(26,vb false)::(2,vb false)::[]) [0] [25] (zq [0] 1 3::zq [1] 2 4::zq [2] 3 5::zq [3,0] 4 6::zq [3,4] 5 7::zq [3,5] 6 8::zq [3,6] 7 9::zq [7] 8 10::zq [8,0] 9 11::zq [8,9] 10 12::zq [8,10] 11 13::zq [8,11] 12 14::zq [12] 13 15::zq [13] 14 16::zq [13] 15 17::zq [13] 16 18::zq [13] 17 19::zq [13] 18 20::zq [13] 19 21::zq [13] 20 22::zq [20] 21 23::zq [21] 22 24::zq [21] 23 25::zq [21] 24 26::zq [24] 25 2::[]) [(_,_)] rfl ⟨z1 rfl,z4 rfl rfl,z8 hg1_2 rfl,zr' rfl (oM rfl),zr' rfl (oN underlying9 rfl),zr' rfl (oB rfl rfl),z3 true rfl,z8 hg1_7 rfl,zr' rfl (oM rfl),zr' rfl (op_chr _ _ _ 0 _ underlying9 rfl rfl hv1),zr' rfl (oB rfl rfl),z3 true rfl,z8 hg1_12 rfl,zt rfl,zt rfl,zt rfl,zt rfl,zt rfl,zt rfl,z3 false rfl,z1 rfl,zt rfl,zt rfl,z3 false rfl,z2 rfl,zz⟩ ?_
      exact hl7 _ (zi h).symm
    ·refine zg hn (_::(3,vs s)::(4,vb (!(s.toList == z0.toList)))::(5,vb true)::(6,vs s)::(7,vi (s.size : Int))::(8,vb (decide ((s.size : Int) ≤ 63)))::(9,vb (decide ((s.size : Int) ≤ 63)))::(10,vb false)::(11,.v undef)::(12,.v undef)::(13,.v undef)::(14,vb false)::(15,vb false)::(16,.v undef)::(17,.v undef)::(18,.v undef)::(19,.v undef)::(20,.v undef)::(21,.v undef)::(22,vb false)::(23,vb false)::(24,.v undef)::(25,.v undef)::(26,vb false)::(2,vb false)::[]) [0] [25] (zq [0] 1 3::zq [1] 2 4::zq [2] 3 5::zq [3,0] 4 6::zq [3,4] 5 7::zq [3,5] 6 8::zq [3,6] 7 9::zq [7] 8 10::zq [8] 9 11::zq [8] 10 12::zq [8] 11 13::zq [8] 12 14::zq [12] 13 15::zq [13] 14 16::zq [13] 15 17::zq [13] 16 18::zq [13] 17 19::zq [13] 18 20::zq [13] 19 21::zq [13] 20 22::zq [20] 21 23::zq [21] 22 24::zq [21] 23 25::zq [21] 24 26::zq [24] 25 2::[]) [(_,_)] rfl ⟨z1 rfl,z4 rfl rfl,z8 hg1_2 rfl,zr' rfl (oM rfl),zr' rfl (oN underlying9 rfl),zr' rfl (oB rfl rfl),z3 true rfl,z8 hg1_7 rfl,zt rfl,zt rfl,zt rfl,z3 false rfl,z1 rfl,zt rfl,zt rfl,zt rfl,zt rfl,zt rfl,zt rfl,z3 false rfl,z1 rfl,zt rfl,zt rfl,z3 false rfl,z2 rfl,zz⟩ ?_
     exact hl7 _ (zi h).symm
   ·refine zg hn (_::(3,vs s)::(4,vb (!(s.toList == z0.toList)))::(5,vb false)::(6,.v undef)::(7,.v undef)::(8,.v undef)::(9,vb false)::(10,vb false)::(11,.v undef)::(12,.v undef)::(13,.v undef)::(14,vb false)::(15,vb false)::(16,.v undef)::(17,.v undef)::(18,.v undef)::(19,.v undef)::(20,.v undef)::(21,.v undef)::(22,vb false)::(23,vb false)::(24,.v undef)::(25,.v undef)::(26,vb false)::(2,vb false)::[]) [0] [25] (zq [0] 1 3::zq [1] 2 4::zq [2] 3 5::zq [3] 4 6::zq [3] 5 7::zq [3] 6 8::zq [3] 7 9::zq [7] 8 10::zq [8] 9 11::zq [8] 10 12::zq [8] 11 13::zq [8] 12 14::zq [12] 13 15::zq [13] 14 16::zq [13] 15 17::zq [13] 16 18::zq [13] 17 19::zq [13] 18 20::zq [13] 19 21::zq [13] 20 22::zq [20] 21 23::zq [21] 22 24::zq [21] 23 25::zq [21] 24 26::zq [24] 25 2::[]) [(_,_)] rfl ⟨z1 rfl,z4 rfl rfl,z8 hg1_2 rfl,zt rfl,zt rfl,zt rfl,z3 false rfl,z1 rfl,zt rfl,zt rfl,zt rfl,z3 false rfl,z1 rfl,zt rfl,zt rfl,zt rfl,zt rfl,zt rfl,zt rfl,z3 false rfl,z1 rfl,zt rfl,zt rfl,z3 false rfl,z2 rfl,zz⟩ ?_
    exact hl7 _ (zi h).symm
theorem ok_path_dotted_of_path_label (mx : Int) (s : ByteArray) (r : Bool) (h : Sh.path_dotted_of_path_label s = some r) : FnG Tryd.prog (GL mx) 80 [.v (.string s), .v (.func (.func 81) #[] #[])] (.v (.bool r)) := by
  unfold Sh.path_dotted_of_path_label at h
  refine fn_okG func80 rfl (zl rfl) rfl rfl fun g0 hn hio => ?_
  refine zgg hn [_,_,_,(3,.box 84 [.v (.func (.func 81) #[] #[])]),(4,.box 4 [vb false])] [0,1,2] [0,2,3,4] [zq [1] 3 3,zq [] 4 4] [(_,_),(_,_),(_,_),(_,_)] rfl ⟨zp rfl (op_box _ _ _ _ rfl rfl rfl),zp rfl (op_alloc _ _ zr4),zz⟩ ?_
  refine ht_seq ?_
  refine ht_seq ?_
  obtain ⟨v1, hv1, h⟩ := zn h
  refine zg hn [_,_,_,_,(6,vs s),(7,.cloB 111 [.box 9 [vs v1.1],.box 9 [vs v1.2.1],.box 3 [vi v1.2.2]])] [0,1,2,3] [1,2,3,5] [zq [0] 4 6,zq [4] 5 7] [(_,_),(_,_),(_,_),(_,_)] rfl ⟨z1 rfl,zp rfl (op_callS _ _ 89 _ _ rfl call89 rfl rfl (ok_strings_SplitSeq s (⟨#[46]⟩ : ByteArray) _ hv1) rfl),zz⟩ ?_
  refine pt_then ?_
  refine ht_block ?_
  refine ht_pick [3,0,1,2] (by kernel_rfl) (es' := [(7,.cloB 111 [.box 9 [vs v1.1],.box 9 [vs v1.2.1],.box 3 [vi v1.2.2]]),(13,.glob (GL mx)),(3,.box 84 [.v (.func (.func 81) #[] #[])]),(4,.box 4 [vb false])]) rfl ?_
  refine ht_rangeF h 111 7 8 14 _ [13, 3, 4] call111 (fun (() : Unit) => [(13, .glob (GL mx)), (3, .box 84 [.v (.func (.func 81) #[] #[])]), (4, .box 4 [.v (.bool false)])]) (fun (() : Unit) => [(13, .glob (GL mx)), (3, .box 84 [.v (.func (.func 81) #[] #[])]), (4, .box 4 [.v (.bool false)])]) (fun l J Y hY t t' h => ok_strings_splitSeq_1 mx l J Y hY v1.1 v1.2.1 v1.2.2 t t' h) hn rfl (fun _ => rfl) (fun _ => rfl) (fun _ => rfl) rfl rfl (fun _ => ⟨rfl, rfl⟩) rfl (glIn_look 13 rfl) ?_ ?_ ?_
  ·rintro kk g0 hn hio x ⟨⟩ u h
   refine ht_es (es' := [(8,vs x),(13,.glob (GL mx)),(3,.box 84 [.v (.func (.func 81) #[] #[])]),(4,.box 4 [vb false]),(13,.v (kk.tm.getD 13 undef)),(3,.v (kk.tm.getD 3 undef)),(4,.v (kk.tm.getD 4 undef)),(14,.inv kk.ready)]) rfl ?_
   refine zg hn [_,_,_,_,_,_,_,_,(5,vs x)] [0,1,2,3,4,5,6,7] [1,2,3,4,5,6,7,8] [zq [0] 8 5] [(_,_),(_,_),(_,_),(_,_),(_,_),(_,_),(_,_),(_,_)] rfl ⟨z2 rfl,zz⟩ ?_
   refine pt_pick [0,1,2,3,4,5,7,6] (by kernel_rfl) (es' := [(13,.glob (GL mx)),(3,.box 84 [.v (.func (.func 81) #[] #[])]),(4,.box 4 [vb false]),(13,.v (kk.tm.getD 13 undef)),(3,.v (kk.tm.getD 3 undef)),(4,.v (kk.tm.getD 4 undef)),(5,vs x),(14,.inv kk.ready)]) rfl ?_
   refine pt_begin (es := [(13,.glob (GL mx)),(3,.box 84 [.v (.func (.func 81) #[] #[])]),(4,.box 4 [vb false]),(13,.v (kk.tm.getD 13 undef)),(3,.v (kk.tm.getD 3 undef)),(4,.v (kk.tm.getD 4 undef)),(5,vs x)]) 14 rfl ?_
   refine ht_block ?_
   refine ht_seq ?_
   obtain ⟨v2, hv2, h⟩ := zn h
   refine zg hn [_,_,_,_,_,_,_,_,(9,.v (.func (.func 81) #[] #[])),(10,vs x),(11,vb v2),(12,vb (!v2))] [0,1,2,3,4,5,6,7] [0,1,2,3,4,5,7,11] [zq [1] 8 9,zq [6] 9 10,zq [9,8] 10 11,zq [10] 11 12] [(_,_),(_,_),(_,_),(_,_),(_,_),(_,_),(_,_),(_,_)] rfl ⟨zp rfl (oL underlying84 rfl),z1 rfl,zp rfl (op_call _ _ 81 _ _ rfl call81 rfl (ok_path_label x _ hv2) rfl rfl),zp rfl (op_un _ _ _ _ rfl rfl),zz⟩ ?_
   refine pt_then ?_
   refine ht_cond _ rfl (fun hb5 => ?_) (fun hb5 => ?_)
   ·have h := cond_t hb5 h
    refine zgg hn [_,_,_,_,_,_,_,_,(4,.box 4 [vb false])] [0,1,2,3,4,5,6,7] [0,1,8,3,4,5,6] [⟨[],[2],[8],[.cell 4 0]⟩] [(_,_),(_,_),(_,_),(_,_),(_,_),(_,_),(_,_)] rfl ⟨zp rfl (oS sz4 rfl),zz⟩ ?_
    refine ht_ret ?_
    refine pt_r_in ?_
    obtain rfl := zi h
    exact pt_rret 14 [13, 3, 4] _ rfl rfl (by kernel_rfl)
   ·have h := cond_f hb5 h
    refine ht_skip ?_
    refine pt_inb ?_
    refine pt_pick [0,1,2,3,4,5,6] (by kernel_rfl) (es' := [(_,_),(_,_),(_,_),(_,_),(_,_),(_,_),(_,_)]) rfl ?_
    obtain rfl := zi h
    exact pt_rnext 14 [13, 3, 4] _ rfl rfl (by kernel_rfl)
  ·rintro D ⟨⟩ h
   refine pt_inb ?_
   refine pt_then ?_
   refine zgg hn [_,_,_,(4,.box 4 [vb true])] [0,1,2] [0,3] [⟨[],[2],[3],[.cell 4 0]⟩] [(_,_),(_,_)] rfl ⟨zp rfl (oS sz4 rfl),zz⟩ ?_
   refine ht_ret ?_
   refine pt_pick [1] (by kernel_rfl) (es' := [(_,_)]) rfl ?_
   obtain rfl := zi h
   exact pt_ret hio rfl (.cell1 _ _ _ _ underlying4 rfl .nil) rfl rfl
  ·rintro D ⟨⟩ h
   refine pt_pick [2] (by kernel_rfl) (es' := [(_,_)]) rfl ?_
   refine pt_r_in ?_
   refine pt_r_then ?_
   obtain rfl := zi h
   exact pt_ret hio rfl (.cell1 _ _ _ _ underlying4 rfl .nil) rfl rfl
theorem ok_path_Domain (mx : Int) (s : ByteArray) (r : Bool) (h : Sh.path_Domain s = some r) : FnG Tryd.prog (GL mx) 70 [.v (.string s)] (.v (.bool r)) := by
  unfold Sh.path_Domain at h
  refine fn_okG func70 rfl (zl rfl) rfl rfl fun g0 hn hio => ?_
  refine zgg hn [_,_,(2,vb false)] [0,1] [0,1] [zq [] 2 2] [(_,_),(_,_)] rfl ⟨z2 rfl,zz⟩ ?_
  refine ht_seq ?_
  refine ht_joinS h (fun (s2 : Bool) => [(10,.glob (GL mx)),(2,vb s2)]) ?_ ?_
  ·rintro s2 h
   refine pt_then (ht_ret ?_)
   refine pt_pick [1] (by kernel_rfl) (es' := [(_,_)]) rfl ?_
   obtain rfl := zi h
   exact pt_ret hio rfl (.tmp _ _ .nil) rfl rfl
  ·intro u3 h hl4 hr5
   refine cond_some h (fun hg1_3 h => ?_) (fun hg1_3 h => ?_)
   ·obtain ⟨v1, hv1, h⟩ := zn h
    refine zg hn [_,_,(3,vs s),(4,vi (s.size : Int)),(5,vb (decide ((s.size : Int) ≤ 255))),(6,vb true),(7,vs s),(8,vb v1),(9,vb v1),(2,vb v1)] [0,1] [1,9] [zq [0] 2 3,zq [2] 3 4,zq [3] 4 5,zq [4] 5 6,zq [5,0] 6 7,zq [5,6,1] 7 8,zq [5,7] 8 9,zq [8] 9 2] [(_,_),(_,_)] rfl ⟨z1 rfl,zp rfl (oN underlying9 rfl),z4 rfl rfl,z8 hg1_3 rfl,zr' rfl (oM rfl),zr' rfl (op_callG _ _ 10 80 _ _ rfl call80 rfl rfl (fun _ h => h) (ok_path_dotted_of_path_label mx s _ hv1) rfl rfl),z3 true rfl,z2 rfl,zz⟩ ?_
    exact hl4 _ (zi h).symm
   ·refine zg hn [_,_,(3,vs s),(4,vi (s.size : Int)),(5,vb (decide ((s.size : Int) ≤ 255))),(6,vb false),(7,.v undef),(8,.v undef),(9,vb false),(2,vb false)] [0,1] [1,9] [zq [0] 2 3,zq [2] 3 4,zq [3] 4 5,zq [4] 5 6,zq [5] 6 7,zq [5] 7 8,zq [5] 8 9,zq [8] 9 2] [(_,_),(_,_)] rfl ⟨z1 rfl,zp rfl (oN underlying9 rfl),z4 rfl rfl,z8 hg1_3 rfl,zt rfl,zt rfl,z3 false rfl,z2 rfl,zz⟩ ?_
    exact hl4 _ (zi h).symm
theorem ok_path_Check (mx : Int) (p : T_Path) (r : Int) (h : Sh.path_Check p = some r) : FnG Tryd.prog (GL mx) 61 [.agg [.v (.bool p.Null), .v (.string p.Local), .v (.string p.Domain)]] (.v (.int .i64 r)) := by
  unfold Sh.path_Check at h
  refine fn_okG func61 rfl (zl rfl) rfl rfl fun g0 hn hio => ?_
  refine zgg hn [_,_,(1,.box 24 [vb p.Null,vs p.Local,vs p.Domain]),(2,vi 0)] [0,1] [1,2] [zq [0] 2 1,zq [] 3 2] [(_,_),(_,_)] rfl ⟨zp rfl (op_box _ _ _ _ rfl rfl rfl),z2 rfl,zz⟩ ?_
  refine zgg hn [_,_,(5,.agg [vb p.Null,vs p.Local,vs p.Domain]),(6,.agg [vb true,vs z0,vs z0]),(7,vb ((p.Null == true) && ((p.Local.toList == z0.toList) && ((p.Domain.toList == z0.toList) && true)))),(3,vb ((p.Null == true) && ((p.Local.toList == z0.toList) && ((p.Domain.toList == z0.toList) && true))))] [0,1] [0,1,5] [zq [1] 2 5,zq [] 3 6,zq [2,3] 4 7,zq [4] 5 3] [(_,_),(_,_),(_,_)] rfl ⟨zp rfl (op_loadA _ _ _ _ _ _ _ underlying24 rfl sz24 rfl rfl (zl rfl) rfl rfl),zp rfl (op_build _ _ _ _ [1, 1, 1] _ _ underlying24 zr24 (fs24 _ underlying24) (.copy _ Src.nil) rfl rfl rfl),zp rfl (op_eq_st _ _ [.bool p.Null, .string p.Local, .string p.Domain] [.bool true, .string (⟨#[]⟩ : ByteArray), .string (⟨#[]⟩ : ByteArray)] (((p.Null == true) && ((p.Local.toList == (⟨#[]⟩ : ByteArray).toList) && ((p.Domain.toList == (⟨#[]⟩ : ByteArray).toList) && true)))) _ false (by kernel_rfl) (by kernel_rfl) (by kernel_rfl) (by kernel_rfl) (by kernel_rfl) rfl rfl rfl rfl (by kernel_rfl) rfl),z2 rfl,zz⟩ ?_
  refine ht_seq ?_
  refine ht_joinS h (fun (s3 : Bool) => [(27,.glob (GL mx)),(3,vb ((p.Null == true) && ((p.Local.toList == z0.toList) && ((p.Domain.toList == z0.toList) && true)))),(4,vb s3)]) ?_ ?_
  ·rintro s3 h
   refine pt_then (ht_seq ?_)
   refine ht_seq ?_
   refine ht_joinS h (fun (s7 : Bool) => [(27,.glob (GL mx)),(26,vb s7)]) ?_ ?_
   ·rintro s7 h
    refine pt_then ?_
    refine ht_cond _ rfl (fun hb11 => ?_) (fun hb11 => ?_)
    ·have h := cond_t hb11 h
     refine zgg hn [_,_,(2,vi 5)] [0,1] [0,2] [zq [] 2 2] [(_,_),(_,_)] rfl ⟨z2 rfl,zz⟩ ?_
     refine ht_ret ?_
     refine pt_pick [1] (by kernel_rfl) (es' := [(_,_)]) rfl ?_
     refine pt_r_then ?_
     obtain rfl := zi h
     exact pt_ret hio rfl (.tmp _ _ .nil) rfl rfl
    ·have h := cond_f hb11 h
     refine ht_skip ?_
     refine pt_then ?_
     refine zgg hn [_,_,(2,vi 0)] [0,1] [0,2] [zq [] 2 2] [(_,_),(_,_)] rfl ⟨z2 rfl,zz⟩ ?_
     refine ht_ret ?_
     refine pt_pick [1] (by kernel_rfl) (es' := [(_,_)]) rfl ?_
     obtain rfl := zi h
     exact pt_ret hio rfl (.tmp _ _ .nil) rfl rfl
   ·intro u8 h hl9 hr10
    refine cond_some h (fun hg3_2 h => ?_) (fun hg3_2 h => ?_)
    ·refine zg hn [_,_,_,(21,vb ((p.Null == true) && ((p.Local.toList == z0.toList) && ((p.Domain.toList == z0.toList) && true)))),(22,vb (!(((p.Null == true) && ((p.Local.toList == z0.toList) && ((p.Domain.toList == z0.toList) && true)))))),(23,vb true),(24,vb s3),(25,vb (!s3)),(26,vb (!s3))] [0,1,2] [0,8] [zq [1] 3 21,zq [3] 4 22,zq [4] 5 23,zq [5,2] 6 24,zq [5,6] 7 25,zq [5,7] 8 26] [(_,_),(_,_)] rfl ⟨z1 rfl,zp rfl (op_un _ _ _ _ rfl rfl),z8 hg3_2 rfl,zr' rfl (oM rfl),zr' rfl (op_un _ _ _ _ rfl rfl),z3 true rfl,zz⟩ ?_
     exact hl9 _ (zi h).symm
    ·refine zg hn [_,_,_,(21,vb ((p.Null == true) && ((p.Local.toList == z0.toList) && ((p.Domain.toList == z0.toList) && true)))),(22,vb (!(((p.Null == true) && ((p.Local.toList == z0.toList) && ((p.Domain.toList == z0.toList) && true)))))),(23,vb false),(24,.v undef),(25,.v undef),(26,vb false)] [0,1,2] [0,8] [zq [1] 3 21,zq [3] 4 22,zq [4] 5 23,zq [5] 6 24,zq [5] 7 25,zq [5] 8 26] [(_,_),(_,_)] rfl ⟨z1 rfl,zp rfl (op_un _ _ _ _ rfl rfl),z8 hg3_2 rfl,zt rfl,zt rfl,z3 false rfl,zz⟩ ?_
     exact hl9 _ (zi h).symm
  ·intro u4 h hl5 hr6
   refine cond_some h (fun hg2_3 h => ?_) (fun hg2_3 h => ?_)
   ·obtain ⟨v1, hv1, h⟩ := zn h
    refine cond_some h (fun hg2_8 h => ?_) (fun hg2_8 h => ?_)
    ·obtain ⟨v2, hv2, h⟩ := zn h
     refine zg hn (_::_::_::(8,.ptr 1 0)::(9,vb p.Null)::(10,vb (!p.Null))::(11,vb true)::(12,.ptr 1 1)::(13,vs p.Local)::(14,vb v1)::(15,vb v1)::(16,vb true)::(17,.ptr 1 2)::(18,vs p.Domain)::(19,vb v2)::(20,vb v2)::(4,vb v2)::[]) [0,1,2] [0,2,16] [zq [1] 3 8,zq [3,1] 4 9,zq [4] 5 10,zq [5] 6 11,zq [6,1] 7 12,zq [6,7,1] 8 13,zq [6,8,0] 9 14,zq [6,9] 10 15,zq [10] 11 16,zq [11,1] 12 17,zq [11,12,1] 13 18,zq [11,13,0] 14 19,zq [11,14] 15 20,zq [15] 16 4] [(_,_),(_,_),(_,_)] rfl ⟨zp rfl (oF underlying24 rfl sz4),zp rfl (oL underlying4 rfl),zp rfl (op_un _ _ _ _ rfl rfl),z8 hg2_3 rfl,zr' rfl (oF underlying24 rfl sz9),zr' rfl (oL underlying9 rfl),zr' rfl (op_callG _ _ 27 72 _ _ rfl call72 rfl rfl (fun _ h => h) (ok_path_local mx p.Local _ hv1) rfl rfl),z3 true rfl,z8 hg2_8 rfl,zr' rfl (oF underlying24 rfl sz9),zr' rfl (oL underlying9 rfl),zr' rfl (op_callG _ _ 27 70 _ _ rfl call70 rfl rfl (fun _ h => h) (ok_path_Domain mx p.Domain _ hv2) rfl rfl),z3 true rfl,z2 rfl,zz⟩ ?_
     exact hl5 _ (zi h).symm
    ·refine zg hn (_::_::_::(8,.ptr 1 0)::(9,vb p.Null)::(10,vb (!p.Null))::(11,vb true)::(12,.ptr 1 1)::(13,vs p.Local)::(14,vb v1)::(15,vb v1)::(16,vb false)::(17,.v undef)::(18,.v undef)::(19,.v undef)::(20,vb false)::(4,vb false)::[]) [0,1,2] [0,2,16] [zq [1] 3 8,zq [3,1] 4 9,zq [4] 5 10,zq [5] 6 11,zq [6,1] 7 12,zq [6,7,1] 8 13,zq [6,8,0] 9 14,zq [6,9] 10 15,zq [10] 11 16,zq [11] 12 17,zq [11] 13 18,zq [11] 14 19,zq [11] 15 20,zq [15] 16 4] [(_,_),(_,_),(_,_)] rfl ⟨zp rfl (oF underlying24 rfl sz4),zp rfl (oL underlying4 rfl),zp rfl (op_un _ _ _ _ rfl rfl),z8 hg2_3 rfl,zr' rfl (oF underlying24 rfl sz9),zr' rfl (oL underlying9 rfl),zr' rfl (op_callG _ _ 27 72 _ _ rfl call72 rfl rfl (fun _ h => h) (ok_path_local mx p.Local _ hv1) rfl rfl),z3 true rfl,z8 hg2_8 rfl,zt rfl,zt rfl,zt rfl,z3 false rfl,z2 rfl,zz⟩ ?_
     exact hl5 _ (zi h).symm
   ·refine zg hn (_::_::_::(8,.ptr 1 0)::(9,vb p.Null)::(10,vb (!p.Null))::(11,vb false)::(12,.v undef)::(13,.v undef)::(14,.v undef)::(15,vb false)::(16,vb false)::(17,.v undef)::(18,.v undef)::(19,.v undef)::(20,vb false)::(4,vb false)::[]) [0,1,2] [0,2,16] [zq [1] 3 8,zq [3,1] 4 9,zq [4] 5 10,zq [5] 6 11,zq [6] 7 12,zq [6] 8 13,zq [6] 9 14,zq [6] 10 15,zq [10] 11 16,zq [11] 12 17,zq [11] 13 18,zq [11] 14 19,zq [11] 15 20,zq [15] 16 4] [(_,_),(_,_),(_,_)] rfl ⟨zp rfl (oF underlying24 rfl sz4),zp rfl (oL underlying4 rfl),zp rfl (op_un _ _ _ _ rfl rfl),z8 hg2_3 rfl,zt rfl,zt rfl,zt rfl,z3 false rfl,z1 rfl,zt rfl,zt rfl,zt rfl,z3 false rfl,z2 rfl,zz⟩ ?_
    exact hl5 _ (zi h).symm
theorem ok_path_Fold (s : ByteArray) (r : ByteArray) (h : Sh.path_Fold s = some r) : FnOK Tryd.prog 62 [.v (.string s)] (.v (.string r)) := by
  unfold Sh.path_Fold at h
  refine fn_ok func62 rfl (zl rfl) rfl rfl fun g0 hn hio => ?_
  refine zgg hn [_,(2,vs z0)] [0] [0] [zq [] 1 2] [(_,_)] rfl ⟨z2 rfl,zz⟩ ?_
  refine ht_seq ?_
  obtain ⟨v1, hv1, h⟩ := zn h
  refine zg hn [_,(6,vs s),(7,.mkr 5 (map (int .u8) v1)),(3,.mkr 5 (map (int .u8) v1))] [0] [3] [zq [0] 1 6,zq [1] 2 7,⟨[],[2],[3],[(.slot 3)]⟩] [(_,_)] rfl ⟨z1 rfl,zp rfl ((Option.some.inj hv1) ▸ op_str_mk _ _ _ s underlying9 underlying25 underlying5 rfl),zp rfl (op_assign_take _ _ _ _ rfl),zz⟩ ?_
  refine pt_then (ht_seq ?_)
  refine zgg hn [_,(8,.same (.slot 3)),(9,vi (v1.length : Int)),(10,vi 0)] [0] [0,1,2,3] [zq [0] 1 8,zq [1,0] 2 9,zq [] 3 10] [(_,_),(_,_),(_,_),(_,_)] rfl ⟨z1 rfl,zp rfl (op_len_mk _ _ _ underlying25 rfl (List.length_map _)),z1 rfl,zz⟩ ?_
  refine ht_loopS h (fun ((s40,s41) : (List Int) × Int) => [(3,.mkr 5 (map (int .u8) s40)),(8,.same (.slot 3)),(9,vi (v1.length : Int)),(10,vi s41)]) (fun (s57 : (List Int)) => [(3,.mkr 5 (map (int .u8) s57))]) ?_ ?_
  ·rintro s57 h
   refine pt_then (ht_seq ?_)
   obtain ⟨v79, hv79, h⟩ := zn h
   refine zg hn [_,(27,.mkr 5 (map (int .u8) s57)),(28,vs v79),(2,vs v79)] [0] [3] [⟨[],[0],[1],[(.slot 27)]⟩,zq [1] 2 28,zq [2] 3 2] [(_,_)] rfl ⟨zp rfl (op_move_take _ _ _ _ rfl),zp rfl ((Option.some.inj hv79) ▸ op_mk_str _ _ _ s57 underlying25 underlying9 underlying5 rfl),z2 rfl,zz⟩ ?_
   refine pt_then (ht_ret ?_)
   obtain rfl := zi h
   exact pt_ret hio rfl (.tmp _ _ .nil) rfl rfl
  ·rintro u58 hl59 hr60 ⟨s40, s41⟩ rr63 h ho61
   refine zgg hn [_,_,_,_,(11,vb (decide (s41 < (v1.length : Int))))] [0,1,2,3] [0,1,2,3,4] [zq [3,2] 4 11] [(_,_),(_,_),(_,_),(_,_),(_,_)] rfl ⟨z4 rfl rfl,zz⟩ ?_
   refine ht_seq ?_
   refine ht_cond _ rfl (fun hb64 => ?_) (fun hb64 => ?_)
   ·have h := cond_t hb64 h
    refine ht_skip ?_
    refine pt_then (ht_seq ?_)
    refine ht_joinS h (fun (s70 : (List Int)) => [(3,.mkr 5 (map (int .u8) s70)),(8,.same (.slot 3)),(9,vi (v1.length : Int)),(10,vi s41)]) ?_ ?_
    ·rintro s70 h
     refine pt_then ?_
     obtain ⟨v22, hv22, h⟩ := zn h
     refine zg hn [_,_,_,_,(26,vi v22),(10,vi v22)] [0,1,2,3] [0,1,2,5] [zq [3] 4 26,⟨[4],[3],[5],[(.slot 10)]⟩] [(_,_),(_,_),(_,_),(_,_)] rfl ⟨zp rfl (oB rfl (ibind (f := int .i64) (Option.some.inj hv22))),zp rfl (LOp.drop [_] (oM rfl)),zz⟩ ?_
     exact pt_next _ (zi h).symm rfl
    ·intro u71 h hl72 hr73
     refine ht_block ?_
     refine ht_seq ?_
     obtain ⟨v3, hv3, h⟩ := zn h
     obtain ⟨v4, hv4, h⟩ := zn h
     refine zg hn [_,_,_,_,_,(12,vi s41),(13,.eref (.slot 3) (v3 * 1)),(14,.v (.int .u8 v4)),(4,vi s41),(5,.v (.int .u8 v4))] [0,1,2,3,4] [0,1,2,3,8,9] [zq [3] 5 12,zq [1,0,3] 6 13,zq [6,0] 7 14,zq [5] 8 4,zq [7] 9 5] [(_,_),(_,_),(_,_),(_,_),(_,_),(_,_)] rfl ⟨z1 rfl,zp rfl (op_ix_mk _ _ _ _ _ _ _ underlying25 sz5 rfl rfl rfl (ix_ok hv3).1 (mk_lt' (ix_ok hv3).2) rfl),zp rfl (op_load_mk _ _ _ _ _ _ underlying5 rfl rfl rfl (map_get hv4)),z2 rfl,z2 rfl,zz⟩ ?_
     refine pt_then (ht_seq ?_)
     refine ht_joinS h (fun (s74 : Bool) => [(3,.mkr 5 (map (int .u8) s40)),(8,.same (.slot 3)),(9,vi (v1.length : Int)),(10,vi s41),(4,vi s41),(5,.v (.int .u8 v4)),(20,vb s74)]) ?_ ?_
     ·rintro s74 h
      refine pt_then ?_
      refine ht_cond _ rfl (fun hb78 => ?_) (fun hb78 => ?_)
      ·have h := cond_t hb78 h
       obtain ⟨v10, hv10, h⟩ := zn h
       obtain ⟨v11, hv11, h⟩ := zn h
       obtain ⟨v12, hv12, h⟩ := zn h
       refine zg hn [_,_,_,_,_,_,_,(21,.same (.slot 3)),(22,vi s41),(23,.v (.int .u8 v4)),(24,.v (.int .u8 v10)),(25,.eref (.slot 3) (v11 * 1)),(3,.mkr 5 (map (int .u8) v12))] [0,1,2,3,4,5,6] [12,1,2,3] [zq [0] 7 21,zq [4] 8 22,zq [5] 9 23,zq [9] 10 24,zq [7,0,8] 11 25,⟨[11,10],[0],[12],[]⟩] [(_,_),(_,_),(_,_),(_,_)] rfl ⟨z1 rfl,z1 rfl,z1 rfl,zp rfl (oB rfl (ibind (f := int .u8) (Option.some.inj hv10))),zp rfl (op_ix_mk _ _ _ _ _ _ _ underlying25 sz5 rfl rfl rfl (ix_ok hv11).1 (mk_lt' (ix_ok hv11).2) rfl),zp rfl (op_store_mk _ _ _ _ _ _ _ sz5 rfl rfl rfl (mk_lt (ix_ok hv11).2) (mk_set (f := int .u8) (Option.some.inj hv12))),zz⟩ ?_
       refine pt_inb ?_
       exact hl72 _ (zi h).symm
      ·have h := cond_f hb78 h
       refine ht_skip ?_
       refine pt_inb ?_
       refine pt_pick [0,1,2,3] (by kernel_rfl) (es' := [(_,_),(_,_),(_,_),(_,_)]) rfl ?_
       exact hl72 _ (zi h).symm
     ·intro u75 h hl76 hr77
      refine cond_some h (fun hg5_2 h => ?_) (fun hg5_2 h => ?_)
      ·refine zg hn [_,_,_,_,_,_,(15,.v (.int .u8 v4)),(16,vb (decide (65 ≤ v4))),(17,vb true),(18,.v (.int .u8 v4)),(19,vb (decide (v4 ≤ 90))),(20,vb (decide (v4 ≤ 90)))] [0,1,2,3,4,5] [0,1,2,3,4,5,11] [zq [5] 6 15,zq [6] 7 16,zq [7] 8 17,zq [8,5] 9 18,zq [8,9] 10 19,zq [8,10] 11 20] [(_,_),(_,_),(_,_),(_,_),(_,_),(_,_),(_,_)] rfl ⟨z1 rfl,z4 rfl rfl,z8 hg5_2 rfl,zr' rfl (oM rfl),zr' rfl (oB rfl rfl),z3 true rfl,zz⟩ ?_
       exact hl76 _ (zi h).symm
      ·refine zg hn [_,_,_,_,_,_,(15,.v (.int .u8 v4)),(16,vb (decide (65 ≤ v4))),(17,vb false),(18,.v undef),(19,.v undef),(20,vb false)] [0,1,2,3,4,5] [0,1,2,3,4,5,11] [zq [5] 6 15,zq [6] 7 16,zq [7] 8 17,zq [8] 9 18,zq [8] 10 19,zq [8] 11 20] [(_,_),(_,_),(_,_),(_,_),(_,_),(_,_),(_,_)] rfl ⟨z1 rfl,z4 rfl rfl,z8 hg5_2 rfl,zt rfl,zt rfl,z3 false rfl,zz⟩ ?_
       exact hl76 _ (zi h).symm
   ·have h := cond_f hb64 h
    refine ht_exit ?_
    refine pt_x_then ?_
    refine pt_x_then ?_
    refine pt_x_in ?_
    refine pt_pick [0] (by kernel_rfl) (es' := [(_,_)]) rfl ?_
    exact hl59 _ (ho61 _ (zi h).symm).symm
theorem ok_path_At (mx : Int) (p : T_Path) (domain : ByteArray) (r : Bool) (h : Sh.path_At p domain = some r) : FnG Tryd.prog (GL mx) 53 [.agg [.v (.bool p.Null), .v (.string p.Local), .v (.string p.Domain)], .v (.string domain)] (.v (.bool r)) := by
  unfold Sh.path_At at h
  refine fn_okG func53 rfl (zl rfl) rfl rfl fun g0 hn hio => ?_
  refine zgg hn [_,_,_,(2,.box 24 [vb p.Null,vs p.Local,vs p.Domain]),(4,vb false)] [0,1,2] [1,2,3] [zq [0] 3 2,zq [] 4 4] [(_,_),(_,_),(_,_)] rfl ⟨zp rfl (op_box _ _ _ _ rfl rfl rfl),z2 rfl,zz⟩ ?_
  refine ht_seq ?_
  refine ht_joinS h (fun (s4 : Bool) => [(21,.glob (GL mx)),(4,vb s4)]) ?_ ?_
  ·rintro s4 h
   refine pt_then (ht_ret ?_)
   refine pt_pick [1] (by kernel_rfl) (es' := [(_,_)]) rfl ?_
   obtain rfl := zi h
   exact pt_ret hio rfl (.tmp _ _ .nil) rfl rfl
  ·intro u5 h hl6 hr7
   obtain ⟨v1, hv1, h⟩ := zn h
   refine cond_some h (fun hg1_3 h => ?_) (fun hg1_3 h => ?_)
   ·refine cond_some h (fun hg1_8 h => ?_) (fun hg1_8 h => ?_)
    ·obtain ⟨v2, hv2, h⟩ := zn h
     obtain ⟨v3, hv3, h⟩ := zn h
     refine zg hn (_::_::_::(5,.agg [vb p.Null,vs p.Local,vs p.Domain])::(6,vi v1)::(7,vb (v1 == 0))::(8,vb true)::(9,.ptr 2 0)::(10,vb p.Null)::(11,vb (!p.Null))::(12,vb (!p.Null))::(13,vb true)::(14,.ptr 2 2)::(15,vs p.Domain)::(16,vs v2)::(17,vs domain)::(18,vs v3)::(19,vb (v2.toList == v3.toList))::(20,vb (v2.toList == v3.toList))::(4,vb (v2.toList == v3.toList))::[]) [0,1,2] [1,19] (zq [2] 3 5::zq [3,1] 4 6::zq [4] 5 7::zq [5] 6 8::zq [6,2] 7 9::zq [6,7,2] 8 10::zq [6,8] 9 11::zq [6,9] 10 12::zq [10] 11 13::zq [11,2] 12 14::zq [11,12,2] 13 15::zq [11,13] 14 16::zq [11,0] 15 17::zq [11,15] 16 18::zq [11,14,16] 17 19::zq [11,17] 18 20::zq [18] 19 4::[]) [(_,_),(_,_)] rfl ⟨zp rfl (op_loadA _ _ _ _ _ _ _ underlying24 rfl sz24 rfl rfl (zl rfl) rfl rfl),zp rfl (op_callG _ _ 21 61 _ _ rfl call61 rfl rfl (fun _ h => h) (ok_path_Check mx p _ hv1) rfl rfl),z4 rfl rfl,z8 hg1_3 rfl,zr' rfl (oF underlying24 rfl sz4),zr' rfl (oL underlying4 rfl),zr' rfl (op_un _ _ _ _ rfl rfl),z3 true rfl,z8 hg1_8 rfl,zr' rfl (oF underlying24 rfl sz9),zr' rfl (oL underlying9 rfl),zr' rfl (op_call _ _ 62 _ _ rfl call62 rfl (ok_path_Fold p.Domain _ hv2) rfl rfl),zr' rfl (oM rfl),zr' rfl (op_call _ _ 62 _ _ rfl call62 rfl (ok_path_Fold domain _ hv3) rfl rfl),zr' rfl (oB rfl rfl),z3 true rfl,z2 rfl,zz⟩ ?_
     exact hl6 _ (zi h).symm
    ·refine zg hn (_::_::_::(5,.agg [vb p.Null,vs p.Local,vs p.Domain])::(6,vi v1)::(7,vb (v1 == 0))::(8,vb true)::(9,.ptr 2 0)::(10,vb p.Null)::(11,vb (!p.Null))::(12,vb (!p.Null))::(13,vb false)::(14,.v undef)::(15,.v undef)::(16,.v undef)::(17,.v undef)::(18,.v undef)::(19,.v undef)::(20,vb false)::(4,vb false)::[]) [0,1,2] [1,19] (zq [2] 3 5::zq [3,1] 4 6::zq [4] 5 7::zq [5] 6 8::zq [6,2] 7 9::zq [6,7,2] 8 10::zq [6,8] 9 11::zq [6,9] 10 12::zq [10] 11 13::zq [11] 12 14::zq [11] 13 15::zq [11] 14 16::zq [11] 15 17::zq [11] 16 18::zq [11] 17 19::zq [11] 18 20::zq [18] 19 4::[]) [(_,_),(_,_)] rfl ⟨zp rfl (op_loadA _ _ _ _ _ _ _ underlying24 rfl sz24 rfl rfl (zl rfl) rfl rfl),zp rfl (op_callG _ _ 21 61 _ _ rfl call61 rfl rfl (fun _ h => h) (ok_path_Check mx p _ hv1) rfl rfl),z4 rfl rfl,z8 hg1_3 rfl,zr' rfl (oF underlying24 rfl sz4),zr' rfl (oL underlying4 rfl),zr' rfl (op_un _ _ _ _ rfl rfl),z3 true rfl,z8 hg1_8 rfl,zt rfl,zt rfl,zt rfl,zt rfl,zt rfl,zt rfl,z3 false rfl,z2 rfl,zz⟩ ?_
     exact hl6 _ (zi h).symm
   ·refine zg hn (_::_::_::(5,.agg [vb p.Null,vs p.Local,vs p.Domain])::(6,vi v1)::(7,vb (v1 == 0))::(8,vb false)::(9,.v undef)::(10,.v undef)::(11,.v undef)::(12,vb false)::(13,vb false)::(14,.v undef)::(15,.v undef)::(16,.v undef)::(17,.v undef)::(18,.v undef)::(19,.v undef)::(20,vb false)::(4,vb false)::[]) [0,1,2] [1,19] (zq [2] 3 5::zq [3,1] 4 6::zq [4] 5 7::zq [5] 6 8::zq [6] 7 9::zq [6] 8 10::zq [6] 9 11::zq [6] 10 12::zq [10] 11 13::zq [11] 12 14::zq [11] 13 15::zq [11] 14 16::zq [11] 15 17::zq [11] 16 18::zq [11] 17 19::zq [11] 18 20::zq [18] 19 4::[]) [(_,_),(_,_)] rfl ⟨zp rfl (op_loadA _ _ _ _ _ _ _ underlying24 rfl sz24 rfl rfl (zl rfl) rfl rfl),zp rfl (op_callG _ _ 21 61 _ _ rfl call61 rfl rfl (fun _ h => h) (ok_path_Check mx p _ hv1) rfl rfl),z4 rfl rfl,z8 hg1_3 rfl,zt rfl,zt rfl,zt rfl,z3 false rfl,z1 rfl,zt rfl,zt rfl,zt rfl,zt rfl,zt rfl,zt rfl,z3 false rfl,z2 rfl,zz⟩ ?_
    exact hl6 _ (zi h).symm
theorem ok_envelope_At (mx : Int) (m : T_Mail) (domain : ByteArray) (r : (List T_Path)) (h : Sh.envelope_At m domain = some r) : FnG Tryd.prog (GL mx) 40 [.agg [.v (.bool m.From.Null), .v (.string m.From.Local), .v (.string m.From.Domain), .fl .shr 3 (flatten (map T_Path.enc m.To)), .fl .shr 1 (map (int .u8) m.Body), .v (.bool m.Quiet), .v (.string m.Helo), .v (.int .i64 m.At)], .v (.string domain)] (.fl (.own 24) 3 (flatten (map T_Path.enc r))) := by
  unfold Sh.envelope_At at h
  refine fn_okG func40 rfl (zl rfl) rfl rfl fun g0 hn hio => ?_
  refine zgg hn [_,_,_,(2,.box 36 [vb m.From.Null,vs m.From.Local,vs m.From.Domain,.fl .shr 3 (flatten (map T_Path.enc m.To)),fb m.Body,vb m.Quiet,vs m.Helo,vi m.At]),(4,vz)] [0,1,2] [1,2,3] [zq [0] 3 2,zq [] 4 4] [(_,_),(_,_),(_,_)] rfl ⟨zp rfl (op_box _ _ _ _ rfl rfl rfl),z2 rfl,zz⟩ ?_
  refine zgg hn [_,_,_,(5,vz)] [0,1,2] [0,1,2,3] [zq [] 3 5] [(_,_),(_,_),(_,_),(_,_)] rfl ⟨z2 rfl,zz⟩ ?_
  refine ht_seq ?_
  refine zgg hn [_,_,_,_,(8,.ptr 2 3),(9,.fl .shr 3 (flatten (map T_Path.enc m.To))),(10,vi (m.To.length : Int)),(11,vi 0)] [0,1,2,3] [0,1,3,5,6,7] [zq [2] 4 8,zq [4,2] 5 9,zq [5] 6 10,zq [] 7 11] [(_,_),(_,_),(_,_),(_,_),(_,_),(_,_)] rfl ⟨zp rfl (oF underlying36 rfl sz34),zp rfl (oL underlying34 rfl),zp rfl (op_len_fl _ _ _ underlying34 rfl (by decide) (flat_len T_Path.len _)),z1 rfl,zz⟩ ?_
  refine ht_sub (fs := [(1,vs domain),(24,.glob (GL mx)),(5,.fl (.own 24) 3 (flatten (map T_Path.enc []))),(9,.fl .shr 3 (flatten (map T_Path.enc m.To))),(10,vi (m.To.length : Int)),(11,vi 0)]) (.same _ (.same _ (.sub _ (sub_nil 24 3) rfl (.same _ (.same _ (.same _ .nil)))))) ?_
  refine ht_loopS h (fun ((s22,s23) : (List T_Path) × Int) => [(1,vs domain),(24,.glob (GL mx)),(5,.fl (.own 24) 3 (flatten (map T_Path.enc s22))),(9,.fl .shr 3 (flatten (map T_Path.enc m.To))),(10,vi (m.To.length : Int)),(11,vi s23)]) (fun (s31 : (List T_Path)) => [(24,.glob (GL mx)),(5,.fl (.own 24) 3 (flatten (map T_Path.enc s31)))]) ?_ ?_
  ·rintro s31 h
   refine pt_then ?_
   refine zgg hn [_,_,(23,.fl (.own 24) 3 (flatten (map T_Path.enc s31))),(4,.fl (.own 24) 3 (flatten (map T_Path.enc s31)))] [0,1] [0,3] [⟨[],[1],[2],[(.slot 23)]⟩,⟨[],[2],[3],[(.slot 4)]⟩] [(_,_),(_,_)] rfl ⟨zp rfl (op_move_take _ _ _ _ rfl),zp rfl (op_assign_take _ _ _ _ rfl),zz⟩ ?_
   refine ht_ret ?_
   refine pt_pick [1] (by kernel_rfl) (es' := [(_,_)]) rfl ?_
   obtain rfl := zi h
   exact pt_ret hio rfl (.tmp _ _ .nil) rfl rfl
  ·rintro u32 hl33 hr34 ⟨s22, s23⟩ rr37 h ho35
   refine zgg hn [_,_,_,_,_,_,(12,vb (decide (s23 < (m.To.length : Int))))] [0,1,2,3,4,5] [0,1,2,3,4,5,6] [zq [5,4] 6 12] [(_,_),(_,_),(_,_),(_,_),(_,_),(_,_),(_,_)] rfl ⟨z4 rfl rfl,zz⟩ ?_
   refine ht_seq ?_
   refine ht_cond _ rfl (fun hb38 => ?_) (fun hb38 => ?_)
   ·have h := cond_t hb38 h
    refine ht_skip ?_
    refine pt_then (ht_seq ?_)
    refine ht_joinS h (fun (s40 : (List T_Path)) => [(1,vs domain),(24,.glob (GL mx)),(9,.fl .shr 3 (flatten (map T_Path.enc m.To))),(10,vi (m.To.length : Int)),(11,vi s23),(5,.fl (.own 24) 3 (flatten (map T_Path.enc s40)))]) ?_ ?_
    ·rintro s40 h
     refine pt_then ?_
     obtain ⟨v12, hv12, h⟩ := zn h
     refine zg hn [_,_,_,_,_,_,(22,vi v12),(11,vi v12)] [0,1,2,3,4,5] [0,1,2,3,5,7] [zq [4] 6 22,⟨[6],[4],[7],[(.slot 11)]⟩] [(_,_),(_,_),(_,_),(_,_),(_,_),(_,_)] rfl ⟨zp rfl (oB rfl (ibind (f := int .i64) (Option.some.inj hv12))),zp rfl (LOp.drop [_] (oM rfl)),zz⟩ ?_
     refine pt_pick [0,1,4,2,3,5] (by kernel_rfl) (es' := [(_,_),(_,_),(_,_),(_,_),(_,_),(_,_)]) rfl ?_
     exact pt_next _ (zi h).symm rfl
    ·intro u41 h hl42 hr43
     refine ht_block ?_
     refine ht_seq ?_
     obtain ⟨v2, hv2, h⟩ := zn h
     obtain ⟨v3, hv3, h⟩ := zn h
     refine zg hn [_,_,_,_,_,_,_,(13,.eref (.slot 9) (v2 * 3)),(14,.agg [vb v3.Null,vs v3.Local,vs v3.Domain]),(7,.box 24 [vb false,vs z0,vs z0]),(7,.box 24 [vb v3.Null,vs v3.Local,vs v3.Domain])] [0,1,2,3,4,5,6] [0,1,2,3,4,5,10] [zq [3,5] 7 13,zq [7,3] 8 14,zq [] 9 7,⟨[8],[9],[10],[.cell 7 0,.cell 7 1,.cell 7 2]⟩] [(_,_),(_,_),(_,_),(_,_),(_,_),(_,_),(_,_)] rfl ⟨zp rfl (op_ix _ _ _ _ _ _ _ _ underlying34 sz24 (by decide) rfl rfl rfl (ix_ok hv2).1 (flat_lt T_Path.len (ix_ok hv2).2) rfl),zp rfl (op_load_eA _ _ _ _ _ _ _ underlying24 rfl sz24 rfl rfl (flat_get T_Path.len hv3) rfl (by decide)),zp rfl (op_alloc _ _ zr24),zp rfl (oS sz24 rfl),zz⟩ ?_
     refine pt_then (ht_seq ?_)
     obtain ⟨v4, hv4, h⟩ := zn h
     refine zg hn [_,_,_,_,_,_,_,(15,.agg [vb v3.Null,vs v3.Local,vs v3.Domain]),(16,vs domain),(17,vb v4)] [0,1,2,3,4,5,6] [0,1,2,3,4,5,6,9] [zq [6] 7 15,zq [0] 8 16,zq [7,8,1] 9 17] [(_,_),(_,_),(_,_),(_,_),(_,_),(_,_),(_,_),(_,_)] rfl ⟨zp rfl (op_loadA _ _ _ _ _ _ _ underlying24 rfl sz24 rfl rfl (zl rfl) rfl rfl),z1 rfl,zp rfl (op_callG _ _ 24 53 _ _ rfl call53 rfl rfl (fun _ h => h) (ok_path_At mx v3 domain _ hv4) rfl rfl),zz⟩ ?_
     refine pt_then ?_
     refine ht_cond _ rfl (fun hb44 => ?_) (fun hb44 => ?_)
     ·have h := cond_t hb44 h
      obtain ⟨v6, hv6, h⟩ := zn h
      refine zg hn [_,_,_,_,_,_,_,_,(18,.fl (.own 24) 3 (flatten (map T_Path.enc s22))),(19,.agg [vb v3.Null,vs v3.Local,vs v3.Domain]),(20,.fl (.own 24) 3 (flatten (map T_Path.enc [v3]))),(21,.fl (.own 24) 3 (flatten (map T_Path.enc v6))),(18,.any),(5,.fl (.own 24) 3 (flatten (map T_Path.enc v6)))] [0,1,2,3,4,5,6,7] [0,1,3,4,5,13] [⟨[],[2],[8],[(.slot 18)]⟩,zq [6] 9 19,zq [9] 10 20,⟨[10],[8],[12,11],[(.slot 21)]⟩,⟨[],[11],[13],[(.slot 5)]⟩] [(_,_),(_,_),(_,_),(_,_),(_,_),(_,_)] rfl ⟨zp rfl (op_move_take _ _ _ _ rfl),zp rfl (op_loadA _ _ _ _ _ _ _ underlying24 rfl sz24 rfl rfl (zl rfl) rfl rfl),zp rfl (op_buildSlice _ _ 3 (.agg #[.bool false, .string ByteArray.empty, .string ByteArray.empty]) (flatten (map T_Path.enc [v3])) [(0, .agg #[.bool v3.Null, .string v3.Local, .string v3.Domain])] underlying34 sz24 zr24 (fun _ V w o a hv hes => by have e0 := agg_v (ys := [.bool v3.Null, .string v3.Local, .string v3.Domain]) hv hes (x := .tmp 19) rfl; simp only [List.map_toArray, List.map_cons, List.map_nil, e0]; try rfl) (litfill (by simp [Instr.fill, Value.cells]; rfl) (by simp [List.range, List.range.loop, T_Path.enc] <;> rfl)) (by simp [Value.oneCell', T_Path.enc]) rfl (by decide) (by decide) (by decide)),zp rfl (op_app _ _ _ _ _ el34 rfl rfl (flat_len T_Path.len _) (flat_len T_Path.len _) hv6 (flat_app (app_eq hv6))),zp rfl (op_assign_take _ _ _ _ rfl),zz⟩ ?_
      refine pt_inb ?_
      exact hl42 _ (zi h).symm
     ·have h := cond_f hb44 h
      refine ht_skip ?_
      refine pt_inb ?_
      refine pt_pick [0,1,3,4,5,2] (by kernel_rfl) (es' := [(_,_),(_,_),(_,_),(_,_),(_,_),(_,_)]) rfl ?_
      exact hl42 _ (zi h).symm
   ·have h := cond_f hb38 h
    refine ht_exit ?_
    refine pt_x_then ?_
    refine pt_x_then ?_
    refine pt_x_in ?_
    refine pt_pick [1,2] (by kernel_rfl) (es' := [(_,_),(_,_)]) rfl ?_
    exact hl33 _ (ho35 _ (zi h).symm).symm
theorem ok_tally_Far (mx : Int) (c : T_Config) (i : Int) (m : T_Mail) (r : (List T_Path)) (h : Sh.tally_Far c i m = some r) : FnG Tryd.prog (GL mx) 21 [.agg [.v (.string ((c.Domains.getD 0 (⟨#[]⟩ : ByteArray)))), .v (.string ((c.Domains.getD 1 (⟨#[]⟩ : ByteArray)))), .v (.int .i64 c.Expiry), .v (.string c.User), .v (.string c.Secret), .v (.int .i64 c.Log), .v (.bool c.Held)], .v (.int .i64 i), .agg [.v (.bool m.From.Null), .v (.string m.From.Local), .v (.string m.From.Domain), .fl .shr 3 (flatten (map T_Path.enc m.To)), .fl .shr 1 (map (int .u8) m.Body), .v (.bool m.Quiet), .v (.string m.Helo), .v (.int .i64 m.At)]] (.fl (.own 24) 3 (flatten (map T_Path.enc r))) := by
  unfold Sh.tally_Far at h
  refine fn_okG func21 rfl (zl rfl) rfl rfl fun g0 hn hio => ?_
  refine zgg hn [_,_,_,_,(3,.box 53 [vs (c.Domains.getD 0 z0),vs (c.Domains.getD 1 z0),vi c.Expiry,vs c.User,vs c.Secret,vi c.Log,vb c.Held]),(5,.box 36 [vb m.From.Null,vs m.From.Local,vs m.From.Domain,.fl .shr 3 (flatten (map T_Path.enc m.To)),fb m.Body,vb m.Quiet,vs m.Helo,vi m.At]),(6,vz)] [0,1,2,3] [1,3,4,5] [zq [0] 4 3,zq [2] 5 5,zq [] 6 6] [(_,_),(_,_),(_,_),(_,_)] rfl ⟨zp rfl (op_box _ _ _ _ rfl rfl rfl),zp rfl (op_box _ _ _ _ rfl rfl rfl),z2 rfl,zz⟩ ?_
  refine ht_seq ?_
  refine ht_seq ?_
  refine ht_joinS h (fun (s1 : Bool) => [(1,vi i),(20,.glob (GL mx)),(3,.box 53 [vs (c.Domains.getD 0 z0),vs (c.Domains.getD 1 z0),vi c.Expiry,vs c.User,vs c.Secret,vi c.Log,vb c.Held]),(5,.box 36 [vb m.From.Null,vs m.From.Local,vs m.From.Domain,.fl .shr 3 (flatten (map T_Path.enc m.To)),fb m.Body,vb m.Quiet,vs m.Helo,vi m.At]),(12,vb s1)]) ?_ ?_
  ·rintro s1 h
   refine pt_then ?_
   refine ht_cond _ rfl (fun hb5 => ?_) (fun hb5 => ?_)
   ·have h := cond_t hb5 h
    refine zgg hn [_,_,_,_,_,(6,vz)] [0,1,2,3,4] [1,5] [zq [] 5 6] [(_,_),(_,_)] rfl ⟨z2 rfl,zz⟩ ?_
    refine ht_ret ?_
    refine pt_pick [1] (by kernel_rfl) (es' := [(_,_)]) rfl ?_
    refine pt_sub (fs := [(6,.fl (.own 24) 3 (flatten (map T_Path.enc [])))]) (.sub _ (sub_nil 24 3) rfl .nil) ?_
    refine pt_r_then ?_
    obtain rfl := zi h
    exact pt_ret hio rfl (.tmp _ _ .nil) rfl rfl
   ·have h := cond_f hb5 h
    refine ht_skip ?_
    refine pt_then (ht_seq ?_)
    obtain ⟨v6, hv6, h⟩ := zn h
    obtain ⟨v7, hv7, h⟩ := zn h
    obtain ⟨v8, hv8, h⟩ := zn h
    obtain ⟨v9, hv9, h⟩ := zn h
    refine ht_anyR (by kernel_rfl) hn (El := [_,_,_,_,_,(13,.agg [vb m.From.Null,vs m.From.Local,vs m.From.Domain,.fl .shr 3 (flatten (map T_Path.enc m.To)),fb m.Body,vb m.Quiet,vs m.Helo,vi m.At]),(14,vi i),(15,vi v6),(16,.ptr 3 0),(17,.ptr 3 (0 + v7 * 1)),(18,vs v8),(19,.fl (.own 24) 3 (flatten (map T_Path.enc v9))),(6,.fl (.own 24) 3 (flatten (map T_Path.enc v9)))]) (init := [0,1,2,3,4]) (fin := [1,12]) (sps := [zq [3] 5 13,zq [0] 6 14,zq [6] 7 15,zq [2] 8 16,zq [8,2,7] 9 17,zq [9,2] 10 18,zq [5,10,1] 11 19,⟨[],[11],[12],[(.slot 6)]⟩]) (es' := [(_,_),(6,.fl (.own 24) 3 (flatten (map T_Path.enc v9)))]) (by kernel_rfl) rfl rfl ⟨zp rfl (op_loadA _ _ _ _ _ _ _ underlying36 rfl sz36 rfl rfl (zl rfl) rfl rfl),z1 rfl,zp rfl (oB rfl (ibind (f := int .i64) (Option.some.inj hv6))),zp rfl (oF underlying53 rfl sz51),zp rfl (op_ix_dyn _ _ _ _ 2 3 0 _ underlying51 sz9 rfl rfl (ix_ok hv7).1 (ix_ok hv7).2 (by decide)),zp rfl (op_load_dyn _ _ _ 3 0 v7 2 ([(c.Domains.getD 0 z0),(c.Domains.getD 1 z0)] : List ByteArray) _ underlying9 rfl rfl rfl rfl hv8),zp rfl (op_callG _ _ 20 40 _ _ rfl call40 rfl rfl (fun _ h => h) (ok_envelope_At mx ((T_Mail.mk (T_Path.mk m.From.Null m.From.Local m.From.Domain) m.To m.Body m.Quiet m.Helo m.At)) v8 _ hv9) rfl rfl),zp rfl (op_assign_take _ _ _ _ rfl),zz⟩ ?_
    refine pt_then (ht_ret ?_)
    refine pt_pick [1] (by kernel_rfl) (es' := [(_,_)]) rfl ?_
    obtain rfl := zi h
    exact pt_ret hio rfl (.tmp _ _ .nil) rfl rfl
  ·intro u2 h hl3 hr4
   refine cond_some h (fun hg1_2 h => ?_) (fun hg1_2 h => ?_)
   ·refine zg hn [_,_,_,_,(7,vi i),(8,vb (i != 0)),(9,vb true),(10,vi i),(11,vb (i != 1)),(12,vb (i != 1))] [0,1,2,3] [0,1,2,3,9] [zq [0] 4 7,zq [4] 5 8,zq [5] 6 9,zq [6,0] 7 10,zq [6,7] 8 11,zq [6,8] 9 12] [(_,_),(_,_),(_,_),(_,_),(_,_)] rfl ⟨z1 rfl,z4 rfl rfl,z8 hg1_2 rfl,zr' rfl (oM rfl),zr' rfl (oB rfl rfl),z3 true rfl,zz⟩ ?_
    exact hl3 _ (zi h).symm
   ·refine zg hn [_,_,_,_,(7,vi i),(8,vb (i != 0)),(9,vb false),(10,.v undef),(11,.v undef),(12,vb false)] [0,1,2,3] [0,1,2,3,9] [zq [0] 4 7,zq [4] 5 8,zq [5] 6 9,zq [6] 7 10,zq [6] 8 11,zq [6] 9 12] [(_,_),(_,_),(_,_),(_,_),(_,_)] rfl ⟨z1 rfl,z4 rfl rfl,z8 hg1_2 rfl,zt rfl,zt rfl,z3 false rfl,zz⟩ ?_
    exact hl3 _ (zi h).symm
theorem ok_wherryref11_sign (c : Int) (r : Bool) (h : Sh.wherryref11_sign c = some r) : FnOK Tryd.prog 63 [.v (.int .u8 c)] (.v (.bool r)) := by
  unfold Sh.wherryref11_sign at h
  refine fn_ok func63 rfl (zl rfl) rfl rfl fun g0 hn hio => ?_
  refine zgg hn [_,(2,vb false)] [0] [0] [zq [] 1 2] [(_,_)] rfl ⟨z2 rfl,zz⟩ ?_
  refine ht_seq ?_
  refine ht_seq ?_
  refine ht_joinS h (fun (s3 : Bool) => [(0,.v (.int .u8 c)),(10,vb s3)]) ?_ ?_
  ·rintro s3 h
   refine pt_then ?_
   refine ht_cond _ rfl (fun hb7 => ?_) (fun hb7 => ?_)
   ·have h := cond_t hb7 h
    refine zgg hn [_,_,(2,vb true)] [0,1] [2] [zq [] 2 2] [(_,_)] rfl ⟨z2 rfl,zz⟩ ?_
    refine ht_ret ?_
    refine pt_r_then ?_
    obtain rfl := zi h
    exact pt_ret hio rfl (.tmp _ _ .nil) rfl rfl
   ·have h := cond_f hb7 h
    refine ht_skip ?_
    refine pt_then ?_
    refine zgg hn [_,_,(3,vs (⟨#[33,35,36,37,38,39,42,43,45,47,61,63,94,95,123,124,125,126]⟩ : ByteArray))] [0,1] [0,2] [zq [] 2 3] [(_,_),(_,_)] rfl ⟨z2 rfl,zz⟩ ?_
    refine ht_seq ?_
    refine zgg hn [_,_,(4,vi 0)] [0,1] [0,1,2] [zq [] 2 4] [(_,_),(_,_),(_,_)] rfl ⟨z2 rfl,zz⟩ ?_
    refine ht_loopS h (fun (s15 : Int) => [(0,.v (.int .u8 c)),(3,vs (⟨#[33,35,36,37,38,39,42,43,45,47,61,63,94,95,123,124,125,126]⟩ : ByteArray)),(4,vi s15)]) (fun (() : Unit) => [(0,.v (.int .u8 c))]) ?_ ?_
    ·rintro ⟨⟩ h
     refine pt_then ?_
     refine zgg hn [_,(22,.v (.int .u8 c)),(23,vb (c == 96)),(2,vb (c == 96))] [0] [3] [zq [0] 1 22,zq [1] 2 23,zq [2] 3 2] [(_,_)] rfl ⟨z1 rfl,z4 rfl rfl,z2 rfl,zz⟩ ?_
     refine ht_ret ?_
     obtain rfl := zi h
     exact pt_ret hio rfl (.tmp _ _ .nil) rfl rfl
    ·rintro u18 hl19 hr20 s15 rr23 h ho21
     refine ht_seq ?_
     refine zgg hn [_,_,_,(11,vi s15),(12,vs (⟨#[33,35,36,37,38,39,42,43,45,47,61,63,94,95,123,124,125,126]⟩ : ByteArray)),(13,vi ((⟨#[33,35,36,37,38,39,42,43,45,47,61,63,94,95,123,124,125,126]⟩ : ByteArray).size : Int)),(14,vb (decide (s15 < (((⟨#[33,35,36,37,38,39,42,43,45,47,61,63,94,95,123,124,125,126]⟩ : ByteArray).size : Int)))))] [0,1,2] [0,1,2,6] [zq [2] 3 11,zq [1] 4 12,zq [4] 5 13,zq [3,5] 6 14] [(_,_),(_,_),(_,_),(_,_)] rfl ⟨z1 rfl,z1 rfl,zp rfl (oN underlying9 rfl),z4 rfl rfl,zz⟩ ?_
     refine ht_cond _ rfl (fun hb24 => ?_) (fun hb24 => ?_)
     ·have h := cond_t hb24 h
      refine ht_skip ?_
      refine pt_then (ht_seq ?_)
      refine ht_block ?_
      refine ht_seq ?_
      obtain ⟨v9, hv9, h⟩ := zn h
      refine zg hn [_,_,_,_,(17,vs (⟨#[33,35,36,37,38,39,42,43,45,47,61,63,94,95,123,124,125,126]⟩ : ByteArray)),(18,vi s15),(19,.v (.int .u8 v9)),(20,.v (.int .u8 c)),(21,vb (v9 == c))] [0,1,2,3] [0,1,2,8] [zq [1] 4 17,zq [2] 5 18,zq [4,5] 6 19,zq [0] 7 20,zq [6,7] 8 21] [(_,_),(_,_),(_,_),(_,_)] rfl ⟨z1 rfl,z1 rfl,zp rfl (op_chr _ _ _ s15 _ underlying9 rfl rfl hv9),z1 rfl,z4 rfl rfl,zz⟩ ?_
      refine pt_then ?_
      refine ht_cond _ rfl (fun hb25 => ?_) (fun hb25 => ?_)
      ·have h := cond_t hb25 h
       refine zgg hn [_,_,_,_,(2,vb true)] [0,1,2,3] [4] [zq [] 4 2] [(_,_)] rfl ⟨z2 rfl,zz⟩ ?_
       refine ht_ret ?_
       refine pt_r_in ?_
       refine pt_r_then ?_
       refine pt_r_then ?_
       refine pt_r_in ?_
       refine pt_r_then ?_
       have h := hr20 _ (ho21 _ (zi h).symm).symm
       obtain rfl := zi h
       exact pt_ret hio rfl (.tmp _ _ .nil) rfl rfl
      ·have h := cond_f hb25 h
       refine ht_skip ?_
       refine pt_inb ?_
       refine pt_then ?_
       obtain ⟨v11, hv11, h⟩ := zn h
       refine zg hn [_,_,_,_,(15,vi s15),(16,vi v11),(4,vi v11)] [0,1,2,3] [0,1,6] [zq [2] 4 15,zq [4] 5 16,⟨[5],[2],[6],[(.slot 4)]⟩] [(_,_),(_,_),(_,_)] rfl ⟨z1 rfl,zp rfl (oB rfl (ibind (f := int .i64) (Option.some.inj hv11))),zp rfl (LOp.drop [_] (op_assign _ _ _ _ rfl rfl)),zz⟩ ?_
       exact pt_next _ (zi h).symm rfl
     ·have h := cond_f hb24 h
      refine ht_exit ?_
      refine pt_x_then ?_
      refine pt_x_then ?_
      refine pt_x_in ?_
      refine pt_pick [0] (by kernel_rfl) (es' := [(_,_)]) rfl ?_
      exact hl19 _ (ho21 _ (zi h).symm).symm
  ·intro u4 h hl5 hr6
   obtain ⟨v1, hv1, h⟩ := zn h
   refine cond_some h (fun hg1_2 h => ?_) (fun hg1_2 h => ?_)
   ·refine zg hn [_,(5,.v (.int .u8 c)),(6,vb v1),(7,vb true),(8,.v undef),(9,.v undef),(10,vb true)] [0] [0,6] [zq [0] 1 5,zq [1] 2 6,zq [2] 3 7,zq [3] 4 8,zq [3] 5 9,zq [3] 6 10] [(_,_),(_,_)] rfl ⟨z1 rfl,zp rfl (op_call _ _ 51 _ _ rfl call51 rfl (ok_wherryref11_letter c _ hv1) rfl rfl),z8 hg1_2 rfl,zf rfl,zf rfl,z3 true rfl,zz⟩ ?_
    exact hl5 _ (zi h).symm
   ·obtain ⟨v2, hv2, h⟩ := zn h
    refine zg hn [_,(5,.v (.int .u8 c)),(6,vb v1),(7,vb false),(8,.v (.int .u8 c)),(9,vb v2),(10,vb v2)] [0] [0,6] [zq [0] 1 5,zq [1] 2 6,zq [2] 3 7,zq [3,0] 4 8,zq [3,4] 5 9,zq [3,5] 6 10] [(_,_),(_,_)] rfl ⟨z1 rfl,zp rfl (op_call _ _ 51 _ _ rfl call51 rfl (ok_wherryref11_letter c _ hv1) rfl rfl),z8 hg1_2 rfl,zr' rfl (oM rfl),zr' rfl (op_call _ _ 52 _ _ rfl call52 rfl (ok_wherryref11_digit c _ hv2) rfl rfl),z3 false rfl,zz⟩ ?_
    exact hl5 _ (zi h).symm
theorem ok_wherryref11_Local (s : ByteArray) (r : Bool) (h : Sh.wherryref11_Local s = some r) : FnOK Tryd.prog 54 [.v (.string s)] (.v (.bool r)) := by
  unfold Sh.wherryref11_Local at h
  refine fn_ok func54 rfl (zl rfl) rfl rfl fun g0 hn hio => ?_
  refine zgg hn [_,(2,vb false)] [0] [0] [zq [] 1 2] [(_,_)] rfl ⟨z2 rfl,zz⟩ ?_
  refine ht_seq ?_
  refine ht_seq ?_
  refine ht_joinS h (fun (s5 : Bool) => [(0,vs s),(20,vb s5)]) ?_ ?_
  ·rintro s5 h
   refine pt_then ?_
   refine ht_cond _ rfl (fun hb9 => ?_) (fun hb9 => ?_)
   ·have h := cond_t hb9 h
    refine zgg hn [_,_,(2,vb false)] [0,1] [2] [zq [] 2 2] [(_,_)] rfl ⟨z2 rfl,zz⟩ ?_
    refine ht_ret ?_
    refine pt_r_then ?_
    obtain rfl := zi h
    exact pt_ret hio rfl (.tmp _ _ .nil) rfl rfl
   ·have h := cond_f hb9 h
    refine ht_skip ?_
    refine pt_then (ht_seq ?_)
    refine zgg hn [_,_,(3,vi 0)] [0,1] [0,2] [zq [] 2 3] [(_,_),(_,_)] rfl ⟨z2 rfl,zz⟩ ?_
    refine ht_loopS h (fun (s33 : Int) => [(0,vs s),(3,vi s33)]) (fun (() : Unit) => []) ?_ ?_
    ·rintro ⟨⟩ h
     refine pt_then ?_
     refine zgg hn [(2,vb true)] [] [0] [zq [] 0 2] [(_,_)] rfl ⟨z2 rfl,zz⟩ ?_
     refine ht_ret ?_
     obtain rfl := zi h
     exact pt_ret hio rfl (.tmp _ _ .nil) rfl rfl
    ·rintro u40 hl41 hr42 s33 rr45 h ho43
     refine ht_seq ?_
     refine zgg hn [_,_,(21,vi s33),(22,vs s),(23,vi (s.size : Int)),(24,vb (decide (s33 < (s.size : Int))))] [0,1] [0,1,5] [zq [1] 2 21,zq [0] 3 22,zq [3] 4 23,zq [2,4] 5 24] [(_,_),(_,_),(_,_)] rfl ⟨z1 rfl,z1 rfl,zp rfl (oN underlying9 rfl),z4 rfl rfl,zz⟩ ?_
     refine ht_cond _ rfl (fun hb46 => ?_) (fun hb46 => ?_)
     ·have h := cond_t hb46 h
      refine ht_skip ?_
      refine pt_then (ht_seq ?_)
      refine ht_block ?_
      refine ht_seq ?_
      refine ht_joinS h (fun (s47 : Bool) => [(0,vs s),(3,vi s33),(50,vb s47)]) ?_ ?_
      ·rintro s47 h
       refine pt_then ?_
       refine ht_cond _ rfl (fun hb51 => ?_) (fun hb51 => ?_)
       ·have h := cond_t hb51 h
        refine zgg hn [_,_,_,(2,vb false)] [0,1,2] [3] [zq [] 3 2] [(_,_)] rfl ⟨z2 rfl,zz⟩ ?_
        refine ht_ret ?_
        refine pt_r_in ?_
        refine pt_r_then ?_
        refine pt_r_then ?_
        refine pt_r_in ?_
        refine pt_r_then ?_
        have h := hr42 _ (ho43 _ (zi h).symm).symm
        obtain rfl := zi h
        exact pt_ret hio rfl (.tmp _ _ .nil) rfl rfl
       ·have h := cond_f hb51 h
        refine ht_skip ?_
        refine pt_inb ?_
        refine pt_then ?_
        obtain ⟨v25, hv25, h⟩ := zn h
        refine zg hn [_,_,_,(25,vi s33),(26,vi v25),(3,vi v25)] [0,1,2] [0,5] [zq [1] 3 25,zq [3] 4 26,⟨[4],[1],[5],[(.slot 3)]⟩] [(_,_),(_,_)] rfl ⟨z1 rfl,zp rfl (oB rfl (ibind (f := int .i64) (Option.some.inj hv25))),zp rfl (LOp.drop [_] (op_assign _ _ _ _ rfl rfl)),zz⟩ ?_
        exact pt_next _ (zi h).symm rfl
      ·intro u48 h hl49 hr50
       obtain ⟨v11, hv11, h⟩ := zn h
       refine cond_some h (fun hg6_4 h => ?_) (fun hg6_4 h => ?_)
       ·obtain ⟨v12, hv12, h⟩ := zn h
        obtain ⟨v13, hv13, h⟩ := zn h
        refine cond_some h (fun hg6_11 h => ?_) (fun hg6_11 h => ?_)
        ·refine zg hn (_::_::_::(27,vs s)::(28,vi s33)::(29,.v (.int .u8 v11))::(30,vb (v11 == 46))::(31,vb true)::(32,vs s)::(33,vi s33)::(34,vi v12)::(35,.v (.int .u8 v13))::(36,vb (v13 == 46))::(37,vb (v13 == 46))::(38,vb true)::(39,.v undef)::(40,.v undef)::(41,.v undef)::(42,.v undef)::(43,.v undef)::(44,.v undef)::(45,.v undef)::(46,.v undef)::(47,.v undef)::(48,.v undef)::(49,.v undef)::(50,vb true)::[]) [0,1,2] [0,1,26] (zq [0] 3 27::zq [1] 4 28::zq [3,4] 5 29::zq [5] 6 30::zq [6] 7 31::zq [7,0] 8 32::zq [7,1] 9 33::zq [7,9] 10 34::zq [7,8,10] 11 35::zq [7,11] 12 36::zq [7,12] 13 37::zq [13] 14 38::zq [14] 15 39::zq [14] 16 40::zq [14] 17 41::zq [14] 18 42::zq [14] 19 43::zq [19] 20 44::zq [19] 21 45::zq [19] 22 46::zq [19] 23 47::zq [19] 24 48::zq [14] 25 49::zq [14] 26 50::[]) [(_,_),(_,_),(_,_)] rfl ⟨z1 rfl,z1 rfl,zp rfl (op_chr _ _ _ s33 _ underlying9 rfl rfl hv11),z4 rfl rfl,z8 hg6_4 rfl,zr' rfl (oM rfl),zr' rfl (oM rfl),zr' rfl (oB rfl (ibind (f := int .i64) (Option.some.inj hv12))),zr' rfl (op_chr _ _ _ v12 _ underlying9 rfl rfl hv13),zr' rfl (oB rfl rfl),z3 true rfl,z8 hg6_11 rfl,zf rfl,zf rfl,zf rfl,zf rfl,zf rfl,zu' rfl,zu' rfl,zu' rfl,zu' rfl,zu' rfl,zf rfl,z3 true rfl,zz⟩ ?_
         exact hl49 _ (zi h).symm
        ·obtain ⟨v14, hv14, h⟩ := zn h
         refine cond_some h (fun hg6_16 h => ?_) (fun hg6_16 h => ?_)
         ·obtain ⟨v15, hv15, h⟩ := zn h
          obtain ⟨v16, hv16, h⟩ := zn h
          refine zg hn (_::_::_::(27,vs s)::(28,vi s33)::(29,.v (.int .u8 v11))::(30,vb (v11 == 46))::(31,vb true)::(32,vs s)::(33,vi s33)::(34,vi v12)::(35,.v (.int .u8 v13))::(36,vb (v13 == 46))::(37,vb (v13 == 46))::(38,vb false)::(39,vs s)::(40,vi s33)::(41,.v (.int .u8 v14))::(42,vb (v14 != 46))::(43,vb true)::(44,vs s)::(45,vi s33)::(46,.v (.int .u8 v15))::(47,vb v16)::(48,vb (!v16))::(49,vb (!v16))::(50,vb (!v16))::[]) [0,1,2] [0,1,26] (zq [0] 3 27::zq [1] 4 28::zq [3,4] 5 29::zq [5] 6 30::zq [6] 7 31::zq [7,0] 8 32::zq [7,1] 9 33::zq [7,9] 10 34::zq [7,8,10] 11 35::zq [7,11] 12 36::zq [7,12] 13 37::zq [13] 14 38::zq [14,0] 15 39::zq [14,1] 16 40::zq [14,15,16] 17 41::zq [14,17] 18 42::zq [14,18] 19 43::zq [19,0] 20 44::zq [19,1] 21 45::zq [19,20,21] 22 46::zq [19,22] 23 47::zq [19,23] 24 48::zq [14,19,24] 25 49::zq [14,25] 26 50::[]) [(_,_),(_,_),(_,_)] rfl ⟨z1 rfl,z1 rfl,zp rfl (op_chr _ _ _ s33 _ underlying9 rfl rfl hv11),z4 rfl rfl,z8 hg6_4 rfl,zr' rfl (oM rfl),zr' rfl (oM rfl),zr' rfl (oB rfl (ibind (f := int .i64) (Option.some.inj hv12))),zr' rfl (op_chr _ _ _ v12 _ underlying9 rfl rfl hv13),zr' rfl (oB rfl rfl),z3 true rfl,z8 hg6_11 rfl,zr' rfl (oM rfl),zr' rfl (oM rfl),zr' rfl (op_chr _ _ _ s33 _ underlying9 rfl rfl hv14),zr' rfl (oB rfl rfl),zr' rfl (op_move _ _ _ _ (zb hg6_16) rfl),zr' rfl (oM rfl),zr' rfl (oM rfl),zr' rfl (op_chr _ _ _ s33 _ underlying9 rfl rfl hv15),zr' rfl (op_call _ _ 63 _ _ rfl call63 rfl (ok_wherryref11_sign v15 _ hv16) rfl rfl),zr' rfl (op_un _ _ _ _ rfl rfl),zr' rfl (op_pick _ _ true _ rfl rfl),z3 false rfl,zz⟩ ?_
          exact hl49 _ (zi h).symm
         ·refine zg hn (_::_::_::(27,vs s)::(28,vi s33)::(29,.v (.int .u8 v11))::(30,vb (v11 == 46))::(31,vb true)::(32,vs s)::(33,vi s33)::(34,vi v12)::(35,.v (.int .u8 v13))::(36,vb (v13 == 46))::(37,vb (v13 == 46))::(38,vb false)::(39,vs s)::(40,vi s33)::(41,.v (.int .u8 v14))::(42,vb (v14 != 46))::(43,vb false)::(44,.v undef)::(45,.v undef)::(46,.v undef)::(47,.v undef)::(48,.v undef)::(49,vb false)::(50,vb false)::[]) [0,1,2] [0,1,26] (zq [0] 3 27::zq [1] 4 28::zq [3,4] 5 29::zq [5] 6 30::zq [6] 7 31::zq [7,0] 8 32::zq [7,1] 9 33::zq [7,9] 10 34::zq [7,8,10] 11 35::zq [7,11] 12 36::zq [7,12] 13 37::zq [13] 14 38::zq [14,0] 15 39::zq [14,1] 16 40::zq [14,15,16] 17 41::zq [14,17] 18 42::zq [14,18] 19 43::zq [19] 20 44::zq [19] 21 45::zq [19] 22 46::zq [19] 23 47::zq [19] 24 48::zq [14,19] 25 49::zq [14,25] 26 50::[]) [(_,_),(_,_),(_,_)] rfl ⟨z1 rfl,z1 rfl,zp rfl (op_chr _ _ _ s33 _ underlying9 rfl rfl hv11),z4 rfl rfl,z8 hg6_4 rfl,zr' rfl (oM rfl),zr' rfl (oM rfl),zr' rfl (oB rfl (ibind (f := int .i64) (Option.some.inj hv12))),zr' rfl (op_chr _ _ _ v12 _ underlying9 rfl rfl hv13),zr' rfl (oB rfl rfl),z3 true rfl,z8 hg6_11 rfl,zr' rfl (oM rfl),zr' rfl (oM rfl),zr' rfl (op_chr _ _ _ s33 _ underlying9 rfl rfl hv14),zr' rfl (oB rfl rfl),zr' rfl (op_move _ _ _ _ (zb hg6_16) rfl),zt rfl,zt rfl,zt rfl,zt rfl,zt rfl,zr' rfl (op_pick _ _ false _ rfl rfl),z3 false rfl,zz⟩ ?_
          exact hl49 _ (zi h).symm
       ·obtain ⟨v17, hv17, h⟩ := zn h
        refine cond_some h (fun hg6_16 h => ?_) (fun hg6_16 h => ?_)
        ·obtain ⟨v18, hv18, h⟩ := zn h
         obtain ⟨v19, hv19, h⟩ := zn h
         refine zg hn (_::_::_::(27,vs s)::(28,vi s33)::(29,.v (.int .u8 v11))::(30,vb (v11 == 46))::(31,vb false)::(32,.v undef)::(33,.v undef)::(34,.v undef)::(35,.v undef)::(36,.v undef)::(37,vb false)::(38,vb false)::(39,vs s)::(40,vi s33)::(41,.v (.int .u8 v17))::(42,vb (v17 != 46))::(43,vb true)::(44,vs s)::(45,vi s33)::(46,.v (.int .u8 v18))::(47,vb v19)::(48,vb (!v19))::(49,vb (!v19))::(50,vb (!v19))::[]) [0,1,2] [0,1,26] (zq [0] 3 27::zq [1] 4 28::zq [3,4] 5 29::zq [5] 6 30::zq [6] 7 31::zq [7] 8 32::zq [7] 9 33::zq [7] 10 34::zq [7] 11 35::zq [7] 12 36::zq [7] 13 37::zq [13] 14 38::zq [14,0] 15 39::zq [14,1] 16 40::zq [14,15,16] 17 41::zq [14,17] 18 42::zq [14,18] 19 43::zq [19,0] 20 44::zq [19,1] 21 45::zq [19,20,21] 22 46::zq [19,22] 23 47::zq [19,23] 24 48::zq [14,19,24] 25 49::zq [14,25] 26 50::[]) [(_,_),(_,_),(_,_)] rfl ⟨z1 rfl,z1 rfl,zp rfl (op_chr _ _ _ s33 _ underlying9 rfl rfl hv11),z4 rfl rfl,z8 hg6_4 rfl,zt rfl,zt rfl,zt rfl,zt rfl,zt rfl,z3 false rfl,z1 rfl,zr' rfl (oM rfl),zr' rfl (oM rfl),zr' rfl (op_chr _ _ _ s33 _ underlying9 rfl rfl hv17),zr' rfl (oB rfl rfl),zr' rfl (op_move _ _ _ _ (zb hg6_16) rfl),zr' rfl (oM rfl),zr' rfl (oM rfl),zr' rfl (op_chr _ _ _ s33 _ underlying9 rfl rfl hv18),zr' rfl (op_call _ _ 63 _ _ rfl call63 rfl (ok_wherryref11_sign v18 _ hv19) rfl rfl),zr' rfl (op_un _ _ _ _ rfl rfl),zr' rfl (op_pick _ _ true _ rfl rfl),z3 false rfl,zz⟩ ?_
         exact hl49 _ (zi h).symm
        ·refine zg hn (_::_::_::(27,vs s)::(28,vi s33)::(29,.v (.int .u8 v11))::(30,vb (v11 == 46))::(31,vb false)::(32,.v undef)::(33,.v undef)::(34,.v undef)::(35,.v undef)::(36,.v undef)::(37,vb false)::(38,vb false)::(39,vs s)::(40,vi s33)::(41,.v (.int .u8 v17))::(42,vb (v17 != 46))::(43,vb false)::(44,.v undef)::(45,.v undef)::(46,.v undef)::(47,.v undef)::(48,.v undef)::(49,vb false)::(50,vb false)::[]) [0,1,2] [0,1,26] (zq [0] 3 27::zq [1] 4 28::zq [3,4] 5 29::zq [5] 6 30::zq [6] 7 31::zq [7] 8 32::zq [7] 9 33::zq [7] 10 34::zq [7] 11 35::zq [7] 12 36::zq [7] 13 37::zq [13] 14 38::zq [14,0] 15 39::zq [14,1] 16 40::zq [14,15,16] 17 41::zq [14,17] 18 42::zq [14,18] 19 43::zq [19] 20 44::zq [19] 21 45::zq [19] 22 46::zq [19] 23 47::zq [19] 24 48::zq [14,19] 25 49::zq [14,25] 26 50::[]) [(_,_),(_,_),(_,_)] rfl ⟨z1 rfl,z1 rfl,zp rfl (op_chr _ _ _ s33 _ underlying9 rfl rfl hv11),z4 rfl rfl,z8 hg6_4 rfl,zt rfl,zt rfl,zt rfl,zt rfl,zt rfl,z3 false rfl,z1 rfl,zr' rfl (oM rfl),zr' rfl (oM rfl),zr' rfl (op_chr _ _ _ s33 _ underlying9 rfl rfl hv17),zr' rfl (oB rfl rfl),zr' rfl (op_move _ _ _ _ (zb hg6_16) rfl),zt rfl,zt rfl,zt rfl,zt rfl,zt rfl,zr' rfl (op_pick _ _ false _ rfl rfl),z3 false rfl,zz⟩ ?_
         exact hl49 _ (zi h).symm
     ·have h := cond_f hb46 h
      refine ht_exit ?_
      refine pt_x_then ?_
      refine pt_x_then ?_
      refine pt_x_in ?_
      refine pt_pick [] (by kernel_rfl) (es' := []) rfl ?_
      exact hl41 _ (ho43 _ (zi h).symm).symm
  ·intro u6 h hl7 hr8
   obtain ⟨v1, hv1, h⟩ := zn h
   refine cond_some h (fun hg1_4 h => ?_) (fun hg1_4 h => ?_)
   ·refine zg hn (_::(4,vs s)::(5,vi (s.size : Int))::(6,vb v1)::(7,vb (!v1))::(8,vb true)::(9,.v undef)::(10,.v undef)::(11,.v undef)::(12,vb true)::(13,vb true)::(14,.v undef)::(15,.v undef)::(16,.v undef)::(17,.v undef)::(18,.v undef)::(19,.v undef)::(20,vb true)::[]) [0] [0,17] (zq [0] 1 4::zq [1] 2 5::zq [2] 3 6::zq [3] 4 7::zq [4] 5 8::zq [5] 6 9::zq [5] 7 10::zq [5] 8 11::zq [5] 9 12::zq [9] 10 13::zq [10] 11 14::zq [10] 12 15::zq [10] 13 16::zq [10] 14 17::zq [10] 15 18::zq [10] 16 19::zq [10] 17 20::[]) [(_,_),(_,_)] rfl ⟨z1 rfl,zp rfl (oN underlying9 rfl),zp rfl (op_call _ _ 50 _ _ rfl call50 rfl (ok_wherryref11_in (s.size : Int) 1 64 _ hv1) rfl rfl),zp rfl (op_un _ _ _ _ rfl rfl),z8 hg1_4 rfl,zf rfl,zf rfl,zf rfl,z3 true rfl,z1 rfl,zf rfl,zf rfl,zf rfl,zf rfl,zf rfl,zf rfl,z3 true rfl,zz⟩ ?_
    exact hl7 _ (zi h).symm
   ·obtain ⟨v2, hv2, h⟩ := zn h
    refine cond_some h (fun hg1_9 h => ?_) (fun hg1_9 h => ?_)
    ·refine zg hn (_::(4,vs s)::(5,vi (s.size : Int))::(6,vb v1)::(7,vb (!v1))::(8,vb false)::(9,vs s)::(10,.v (.int .u8 v2))::(11,vb (v2 == 46))::(12,vb (v2 == 46))::(13,vb true)::(14,.v undef)::(15,.v undef)::(16,.v undef)::(17,.v undef)::(18,.v undef)::(19,.v undef)::(20,vb true)::[]) [0] [0,17] (zq [0] 1 4::zq [1] 2 5::zq [2] 3 6::zq [3] 4 7::zq [4] 5 8::zq [5,0] 6 9::zq [5,6] 7 10::zq [5,7] 8 11::zq [5,8] 9 12::zq [9] 10 13::zq [10] 11 14::zq [10] 12 15::zq [10] 13 16::zq [10] 14 17::zq [10] 15 18::zq [10] 16 19::zq [10] 17 20::[]) [(_,_),(_,_)] rfl ⟨z1 rfl,zp rfl (oN underlying9 rfl),zp rfl (op_call _ _ 50 _ _ rfl call50 rfl (ok_wherryref11_in (s.size : Int) 1 64 _ hv1) rfl rfl),zp rfl (op_un _ _ _ _ rfl rfl),z8 hg1_4 rfl,zr' rfl (oM rfl),zr' rfl (op_chr _ _ _ 0 _ underlying9 rfl rfl hv2),zr' rfl (oB rfl rfl),z3 false rfl,z8 hg1_9 rfl,zf rfl,zf rfl,zf rfl,zf rfl,zf rfl,zf rfl,z3 true rfl,zz⟩ ?_
     exact hl7 _ (zi h).symm
    ·obtain ⟨v3, hv3, h⟩ := zn h
     obtain ⟨v4, hv4, h⟩ := zn h
     refine zg hn (_::(4,vs s)::(5,vi (s.size : Int))::(6,vb v1)::(7,vb (!v1))::(8,vb false)::(9,vs s)::(10,.v (.int .u8 v2))::(11,vb (v2 == 46))::(12,vb (v2 == 46))::(13,vb false)::(14,vs s)::(15,vs s)::(16,vi (s.size : Int))::(17,vi v3)::(18,.v (.int .u8 v4))::(19,vb (v4 == 46))::(20,vb (v4 == 46))::[]) [0] [0,17] (zq [0] 1 4::zq [1] 2 5::zq [2] 3 6::zq [3] 4 7::zq [4] 5 8::zq [5,0] 6 9::zq [5,6] 7 10::zq [5,7] 8 11::zq [5,8] 9 12::zq [9] 10 13::zq [10,0] 11 14::zq [10,0] 12 15::zq [10,12] 13 16::zq [10,13] 14 17::zq [10,11,14] 15 18::zq [10,15] 16 19::zq [10,16] 17 20::[]) [(_,_),(_,_)] rfl ⟨z1 rfl,zp rfl (oN underlying9 rfl),zp rfl (op_call _ _ 50 _ _ rfl call50 rfl (ok_wherryref11_in (s.size : Int) 1 64 _ hv1) rfl rfl),zp rfl (op_un _ _ _ _ rfl rfl),z8 hg1_4 rfl,zr' rfl (oM rfl),zr' rfl (op_chr _ _ _ 0 _ underlying9 rfl rfl hv2),zr' rfl (oB rfl rfl),z3 false rfl,z8 hg1_9 rfl,zr' rfl (oM rfl),zr' rfl (oM rfl),zr' rfl (oN underlying9 rfl),zr' rfl (oB rfl (ibind (f := int .i64) (Option.some.inj hv3))),zr' rfl (op_chr _ _ _ v3 _ underlying9 rfl rfl hv4),zr' rfl (oB rfl rfl),z3 false rfl,zz⟩ ?_
     exact hl7 _ (zi h).symm
theorem ok_wherryref11_Path (p : T_Path) (r : Bool) (h : Sh.wherryref11_Path p = some r) : FnOK Tryd.prog 41 [.agg [.v (.bool p.Null), .v (.string p.Local), .v (.string p.Domain)]] (.v (.bool r)) := by
  unfold Sh.wherryref11_Path at h
  refine fn_ok func41 rfl (zl rfl) rfl rfl fun g0 hn hio => ?_
  refine zgg hn [_,(1,.box 24 [vb p.Null,vs p.Local,vs p.Domain]),(2,vb false)] [0] [1] [zq [0] 1 1,zq [] 2 2] [(_,_)] rfl ⟨zp rfl (op_box _ _ _ _ rfl rfl rfl),z2 rfl,zz⟩ ?_
  refine ht_seq ?_
  refine zgg hn [_,(3,.ptr 1 0),(4,vb p.Null)] [0] [0,2] [zq [0] 1 3,zq [1,0] 2 4] [(_,_),(_,_)] rfl ⟨zp rfl (oF underlying24 rfl sz4),zp rfl (oL underlying4 rfl),zz⟩ ?_
  refine ht_cond _ rfl (fun hb1 => ?_) (fun hb1 => ?_)
  ·have h := cond_t hb1 h
   refine ht_seq ?_
   refine ht_joinS h (fun (s2 : Bool) => [(2,vb s2)]) ?_ ?_
   ·rintro s2 h
    refine pt_then (ht_ret ?_)
    refine pt_r_then ?_
    obtain rfl := zi h
    exact pt_ret hio rfl (.tmp _ _ .nil) rfl rfl
   ·intro u3 h hl4 hr5
    refine cond_some h (fun hg2_3 h => ?_) (fun hg2_3 h => ?_)
    ·refine zg hn [_,_,(5,.ptr 1 1),(6,vs p.Local),(7,vb (p.Local.toList == z0.toList)),(8,vb true),(9,.ptr 1 2),(10,vs p.Domain),(11,vb (p.Domain.toList == z0.toList)),(12,vb (p.Domain.toList == z0.toList)),(2,vb (p.Domain.toList == z0.toList))] [0,1] [10] [zq [0] 2 5,zq [2,0] 3 6,zq [3] 4 7,zq [4] 5 8,zq [5,0] 6 9,zq [5,6,0] 7 10,zq [5,7] 8 11,zq [5,8] 9 12,zq [9] 10 2] [(_,_)] rfl ⟨zp rfl (oF underlying24 rfl sz9),zp rfl (oL underlying9 rfl),z4 rfl rfl,z8 hg2_3 rfl,zr' rfl (oF underlying24 rfl sz9),zr' rfl (oL underlying9 rfl),zr' rfl (oB rfl rfl),z3 true rfl,z2 rfl,zz⟩ ?_
     exact hl4 _ (zi h).symm
    ·refine zg hn [_,_,(5,.ptr 1 1),(6,vs p.Local),(7,vb (p.Local.toList == z0.toList)),(8,vb false),(9,.v undef),(10,.v undef),(11,.v undef),(12,vb false),(2,vb false)] [0,1] [10] [zq [0] 2 5,zq [2,0] 3 6,zq [3] 4 7,zq [4] 5 8,zq [5] 6 9,zq [5] 7 10,zq [5] 8 11,zq [5] 9 12,zq [9] 10 2] [(_,_)] rfl ⟨zp rfl (oF underlying24 rfl sz9),zp rfl (oL underlying9 rfl),z4 rfl rfl,z8 hg2_3 rfl,zt rfl,zt rfl,zt rfl,z3 false rfl,z2 rfl,zz⟩ ?_
     exact hl4 _ (zi h).symm
  ·have h := cond_f hb1 h
   refine ht_skip ?_
   refine pt_then (ht_seq ?_)
   refine ht_joinS h (fun (s8 : Bool) => [(2,vb s8)]) ?_ ?_
   ·rintro s8 h
    refine pt_then (ht_ret ?_)
    obtain rfl := zi h
    exact pt_ret hio rfl (.tmp _ _ .nil) rfl rfl
   ·intro u9 h hl10 hr11
    obtain ⟨v6, hv6, h⟩ := zn h
    refine cond_some h (fun hg3_3 h => ?_) (fun hg3_3 h => ?_)
    ·obtain ⟨v7, hv7, h⟩ := zn h
     refine zg hn [_,_,(13,.ptr 1 1),(14,vs p.Local),(15,vb v6),(16,vb true),(17,.ptr 1 2),(18,vs p.Domain),(19,vb v7),(20,vb v7),(2,vb v7)] [0,1] [10] [zq [0] 2 13,zq [2,0] 3 14,zq [3] 4 15,zq [4] 5 16,zq [5,0] 6 17,zq [5,6,0] 7 18,zq [5,7] 8 19,zq [5,8] 9 20,zq [9] 10 2] [(_,_)] rfl ⟨zp rfl (oF underlying24 rfl sz9),zp rfl (oL underlying9 rfl),zp rfl (op_call _ _ 54 _ _ rfl call54 rfl (ok_wherryref11_Local p.Local _ hv6) rfl rfl),z8 hg3_3 rfl,zr' rfl (oF underlying24 rfl sz9),zr' rfl (oL underlying9 rfl),zr' rfl (op_call _ _ 36 _ _ rfl call36 rfl (ok_wherryref11_Domain p.Domain _ hv7) rfl rfl),z3 true rfl,z2 rfl,zz⟩ ?_
     exact hl10 _ (zi h).symm
    ·refine zg hn [_,_,(13,.ptr 1 1),(14,vs p.Local),(15,vb v6),(16,vb false),(17,.v undef),(18,.v undef),(19,.v undef),(20,vb false),(2,vb false)] [0,1] [10] [zq [0] 2 13,zq [2,0] 3 14,zq [3] 4 15,zq [4] 5 16,zq [5] 6 17,zq [5] 7 18,zq [5] 8 19,zq [5] 9 20,zq [9] 10 2] [(_,_)] rfl ⟨zp rfl (oF underlying24 rfl sz9),zp rfl (oL underlying9 rfl),zp rfl (op_call _ _ 54 _ _ rfl call54 rfl (ok_wherryref11_Local p.Local _ hv6) rfl rfl),z8 hg3_3 rfl,zt rfl,zt rfl,zt rfl,z3 false rfl,z2 rfl,zz⟩ ?_
     exact hl10 _ (zi h).symm
theorem ok_wherryref11_At (p : T_Path) (domain : ByteArray) (r : Bool) (h : Sh.wherryref11_At p domain = some r) : FnOK Tryd.prog 22 [.agg [.v (.bool p.Null), .v (.string p.Local), .v (.string p.Domain)], .v (.string domain)] (.v (.bool r)) := by
  unfold Sh.wherryref11_At at h
  refine fn_ok func22 rfl (zl rfl) rfl rfl fun g0 hn hio => ?_
  refine zgg hn [_,_,(2,.box 24 [vb p.Null,vs p.Local,vs p.Domain]),(4,vb false)] [0,1] [1,2] [zq [0] 2 2,zq [] 3 4] [(_,_),(_,_)] rfl ⟨zp rfl (op_box _ _ _ _ rfl rfl rfl),z2 rfl,zz⟩ ?_
  refine ht_seq ?_
  refine ht_joinS h (fun (s4 : Bool) => [(4,vb s4)]) ?_ ?_
  ·rintro s4 h
   refine pt_then (ht_ret ?_)
   obtain rfl := zi h
   exact pt_ret hio rfl (.tmp _ _ .nil) rfl rfl
  ·intro u5 h hl6 hr7
   obtain ⟨v1, hv1, h⟩ := zn h
   refine cond_some h (fun hg1_2 h => ?_) (fun hg1_2 h => ?_)
   ·refine cond_some h (fun hg1_7 h => ?_) (fun hg1_7 h => ?_)
    ·obtain ⟨v2, hv2, h⟩ := zn h
     obtain ⟨v3, hv3, h⟩ := zn h
     refine zg hn (_::_::(5,.agg [vb p.Null,vs p.Local,vs p.Domain])::(6,vb v1)::(7,vb true)::(8,.ptr 2 0)::(9,vb p.Null)::(10,vb (!p.Null))::(11,vb (!p.Null))::(12,vb true)::(13,.ptr 2 2)::(14,vs p.Domain)::(15,vs v2)::(16,vs domain)::(17,vs v3)::(18,vb (v2.toList == v3.toList))::(19,vb (v2.toList == v3.toList))::(4,vb (v2.toList == v3.toList))::[]) [0,1] [17] (zq [1] 2 5::zq [2] 3 6::zq [3] 4 7::zq [4,1] 5 8::zq [4,5,1] 6 9::zq [4,6] 7 10::zq [4,7] 8 11::zq [8] 9 12::zq [9,1] 10 13::zq [9,10,1] 11 14::zq [9,11] 12 15::zq [9,0] 13 16::zq [9,13] 14 17::zq [9,12,14] 15 18::zq [9,15] 16 19::zq [16] 17 4::[]) [(_,_)] rfl ⟨zp rfl (op_loadA _ _ _ _ _ _ _ underlying24 rfl sz24 rfl rfl (zl rfl) rfl rfl),zp rfl (op_call _ _ 41 _ _ rfl call41 rfl (ok_wherryref11_Path p _ hv1) rfl rfl),z8 hg1_2 rfl,zr' rfl (oF underlying24 rfl sz4),zr' rfl (oL underlying4 rfl),zr' rfl (op_un _ _ _ _ rfl rfl),z3 true rfl,z8 hg1_7 rfl,zr' rfl (oF underlying24 rfl sz9),zr' rfl (oL underlying9 rfl),zr' rfl (op_call _ _ 37 _ _ rfl call37 rfl (ok_wherryref11_Fold p.Domain _ hv2) rfl rfl),zr' rfl (oM rfl),zr' rfl (op_call _ _ 37 _ _ rfl call37 rfl (ok_wherryref11_Fold domain _ hv3) rfl rfl),zr' rfl (oB rfl rfl),z3 true rfl,z2 rfl,zz⟩ ?_
     exact hl6 _ (zi h).symm
    ·refine zg hn (_::_::(5,.agg [vb p.Null,vs p.Local,vs p.Domain])::(6,vb v1)::(7,vb true)::(8,.ptr 2 0)::(9,vb p.Null)::(10,vb (!p.Null))::(11,vb (!p.Null))::(12,vb false)::(13,.v undef)::(14,.v undef)::(15,.v undef)::(16,.v undef)::(17,.v undef)::(18,.v undef)::(19,vb false)::(4,vb false)::[]) [0,1] [17] (zq [1] 2 5::zq [2] 3 6::zq [3] 4 7::zq [4,1] 5 8::zq [4,5,1] 6 9::zq [4,6] 7 10::zq [4,7] 8 11::zq [8] 9 12::zq [9] 10 13::zq [9] 11 14::zq [9] 12 15::zq [9] 13 16::zq [9] 14 17::zq [9] 15 18::zq [9] 16 19::zq [16] 17 4::[]) [(_,_)] rfl ⟨zp rfl (op_loadA _ _ _ _ _ _ _ underlying24 rfl sz24 rfl rfl (zl rfl) rfl rfl),zp rfl (op_call _ _ 41 _ _ rfl call41 rfl (ok_wherryref11_Path p _ hv1) rfl rfl),z8 hg1_2 rfl,zr' rfl (oF underlying24 rfl sz4),zr' rfl (oL underlying4 rfl),zr' rfl (op_un _ _ _ _ rfl rfl),z3 true rfl,z8 hg1_7 rfl,zt rfl,zt rfl,zt rfl,zt rfl,zt rfl,zt rfl,z3 false rfl,z2 rfl,zz⟩ ?_
     exact hl6 _ (zi h).symm
   ·refine zg hn (_::_::(5,.agg [vb p.Null,vs p.Local,vs p.Domain])::(6,vb v1)::(7,vb false)::(8,.v undef)::(9,.v undef)::(10,.v undef)::(11,vb false)::(12,vb false)::(13,.v undef)::(14,.v undef)::(15,.v undef)::(16,.v undef)::(17,.v undef)::(18,.v undef)::(19,vb false)::(4,vb false)::[]) [0,1] [17] (zq [1] 2 5::zq [2] 3 6::zq [3] 4 7::zq [4] 5 8::zq [4] 6 9::zq [4] 7 10::zq [4] 8 11::zq [8] 9 12::zq [9] 10 13::zq [9] 11 14::zq [9] 12 15::zq [9] 13 16::zq [9] 14 17::zq [9] 15 18::zq [9] 16 19::zq [16] 17 4::[]) [(_,_)] rfl ⟨zp rfl (op_loadA _ _ _ _ _ _ _ underlying24 rfl sz24 rfl rfl (zl rfl) rfl rfl),zp rfl (op_call _ _ 41 _ _ rfl call41 rfl (ok_wherryref11_Path p _ hv1) rfl rfl),z8 hg1_2 rfl,zt rfl,zt rfl,zt rfl,z3 false rfl,z1 rfl,zt rfl,zt rfl,zt rfl,zt rfl,zt rfl,zt rfl,z3 false rfl,z2 rfl,zz⟩ ?_
    exact hl6 _ (zi h).symm
theorem ok_bytes_Equal (a : (List Int)) (b : (List Int)) (r : Bool) (h : Sh.bytes_Equal a b = some r) : FnOK Tryd.prog 26 [.fl .shr 1 (map (int .u8) a), .fl .shr 1 (map (int .u8) b)] (.v (.bool r)) := by
  unfold Sh.bytes_Equal at h
  refine fn_ok func26 rfl (zl rfl) rfl rfl fun g0 hn hio => ?_
  refine zgg hn [_,_,(4,vb false)] [0,1] [0,1] [zq [] 2 4] [(_,_),(_,_)] rfl ⟨z2 rfl,zz⟩ ?_
  refine ht_seq ?_
  obtain ⟨v1, hv1, h⟩ := zn h
  obtain ⟨v2, hv2, h⟩ := zn h
  refine zg hn [_,_,(5,fb a),(6,vs v1),(7,fb b),(8,vs v2),(9,vb (v1.toList == v2.toList)),(4,vb (v1.toList == v2.toList))] [0,1] [7] [zq [0] 2 5,zq [2] 3 6,zq [1] 4 7,zq [4] 5 8,zq [3,5] 6 9,zq [6] 7 4] [(_,_)] rfl ⟨z1 rfl,zp rfl ((Option.some.inj hv1) ▸ op_bytes_str _ _ _ a underlying25 underlying9 underlying5 rfl),z1 rfl,zp rfl ((Option.some.inj hv2) ▸ op_bytes_str _ _ _ b underlying25 underlying9 underlying5 rfl),z4 rfl rfl,z2 rfl,zz⟩ ?_
  refine pt_then (ht_ret ?_)
  obtain rfl := zi h
  exact pt_ret hio rfl (.tmp _ _ .nil) rfl rfl
theorem ok_dots_lines (b : (List Int)) (r : (List Int)) (h : Sh.dots_lines b = some r) : FnOK Tryd.prog 64 [.fl .shr 1 (map (int .u8) b)] (.cloB 73 [.box 25 [.fl .shr 1 (map (int .u8) r)]]) := by
  unfold Sh.dots_lines at h
  refine fn_ok func64 rfl (zl rfl) rfl rfl fun g0 hn hio => ?_
  refine zgg hn [_,(1,.box 25 [fb b]),(2,.v (.nilFunc))] [0] [1] [zq [0] 1 1,zq [] 2 2] [(_,_)] rfl ⟨zp rfl (op_box _ _ _ _ rfl rfl rfl),z2 rfl,zz⟩ ?_
  refine zgg hn [_,(3,.cloB 73 [.box 25 [fb b]]),(2,.cloB 73 [.box 25 [fb b]])] [0] [2] [⟨[],[0],[1],[(.slot 3)]⟩,⟨[],[1],[2],[(.slot 2)]⟩] [(_,_)] rfl ⟨zp rfl (op_mkclo _ _ [1] [.box 25 [fb b]] rfl rfl rfl),zp rfl (op_assign_take _ _ _ _ rfl),zz⟩ ?_
  refine ht_ret ?_
  obtain rfl := zi h
  exact pt_ret hio rfl (.tmp _ _ .nil) rfl rfl
theorem ok_bytes_Index (mx : Int) (s sep : List Int) (r : Int) (h : Sh.bytes_Index s sep = some r) : FnG Tryd.prog (GL mx) 86 [.fl .shr 1 (map (int .u8) s), .fl .shr 1 (map (int .u8) sep)] (.v (.int .i64 r)) :=
  lib_bytes_Index (gl_mem0 mx) Tryd.bytes_Index_at Tryd.bytes_Index_longer s sep r h
theorem ok_bytes_Cut_sh (mx : Int) (s : (List Int)) (sep : (List Int)) (r : ((List Int) × (List Int) × Bool)) (h : Sh.bytes_Cut_sh s sep = some r) : FnG Tryd.prog (GL mx) 74 [.fl .shr 1 (map (int .u8) s), .fl .shr 1 (map (int .u8) sep)] (.tup [.fl .shr 1 (map (int .u8) r.1), .fl .shr 1 (map (int .u8) r.2.1), .v (.bool r.2.2)]) := by
  unfold Sh.bytes_Cut_sh at h
  refine fn_okG func74 rfl (zl rfl) rfl rfl fun g0 hn hio => ?_
  refine zgg hn [_,_,_,(4,vz),(5,vz),(6,vb false)] [0,1,2] [0,1,2] [zq [] 3 4,zq [] 4 5,zq [] 5 6] [(_,_),(_,_),(_,_)] rfl ⟨z2 rfl,z2 rfl,z2 rfl,zz⟩ ?_
  refine ht_seq ?_
  refine ht_seq ?_
  obtain ⟨v1, hv1, h⟩ := zn h
  refine zg hn [_,_,_,(8,fb s),(9,fb sep),(10,vi v1),(7,vi v1)] [0,1,2] [0,1,2,6] [zq [0] 3 8,zq [1] 4 9,zq [3,4,2] 5 10,zq [5] 6 7] [(_,_),(_,_),(_,_),(_,_)] rfl ⟨z1 rfl,z1 rfl,zp rfl (op_callG _ _ 23 86 _ _ rfl call86 rfl rfl (fun _ h => h) (ok_bytes_Index mx s sep _ hv1) rfl rfl),z2 rfl,zz⟩ ?_
  refine pt_then ?_
  refine zgg hn [_,_,_,_,(11,vi v1),(12,vb (decide (0 ≤ v1)))] [0,1,2,3] [0,1,2,3,5] [zq [3] 4 11,zq [4] 5 12] [(_,_),(_,_),(_,_),(_,_),(_,_)] rfl ⟨z1 rfl,z4 rfl rfl,zz⟩ ?_
  refine ht_cond _ rfl (fun hb2 => ?_) (fun hb2 => ?_)
  ·have h := cond_t hb2 h
   refine ht_seq ?_
   obtain ⟨v3, hv3, h⟩ := zn h
   obtain ⟨v4, hv4, h⟩ := zn h
   obtain ⟨v5, hv5, h⟩ := zn h
   refine ht_anyR (by kernel_rfl) hn (El := (_ :: _ :: _ :: _ :: _ :: (13,fb s) :: (14,vi v1) :: (15,fb v3) :: (16,fb s) :: (17,vi v1) :: (18,fb sep) :: (19,vi (sep.length : Int)) :: (20,vi v4) :: (21,fb v5) :: (4,fb v3) :: (5,fb v5) :: (6,vb true) :: [])) (init := [0,1,2,3,4]) (fin := [2,14,15,16]) (sps := [zq [0] 5 13,zq [3] 6 14,zq [5,6] 7 15,zq [0] 8 16,zq [3] 9 17,zq [1] 10 18,zq [10] 11 19,zq [9,11] 12 20,zq [8,12] 13 21,zq [7] 14 4,zq [13] 15 5,zq [] 16 6]) (es' := [(_,_),(4,fb v3),(5,fb v5),(6,vb true)]) (by kernel_rfl) rfl rfl ⟨z1 rfl,z1 rfl,zp rfl (op_sl _ _ _ 0 v1 _ underlying25 sz5 rfl rfl rfl ⟨_,rfl⟩ hv3),z1 rfl,z1 rfl,z1 rfl,zp rfl (op_len_fl _ _ _ underlying25 rfl (by decide) (map_len _)),zp rfl (oB rfl (ibind (f := int .i64) (Option.some.inj hv4))),zp rfl (op_sl _ _ _ v4 (s.length : Int) _ underlying25 sz5 rfl rfl ⟨_,rfl⟩ rfl hv5),z2 rfl,z2 rfl,z2 rfl,zz⟩ ?_
   refine pt_then (ht_ret ?_)
   refine pt_pick [1,2,3] (by kernel_rfl) (es' := [(_,_),(_,_),(_,_)]) rfl ?_
   refine pt_r_then ?_
   obtain rfl := zi h
   exact pt_ret hio rfl (.tmp _ _ (.tmp _ _ (.tmp _ _ .nil))) rfl rfl
  ·have h := cond_f hb2 h
   refine ht_skip ?_
   refine pt_then ?_
   refine zgg hn [_,_,_,_,_,(22,fb s),(4,fb s),(5,vz),(6,vb false)] [0,1,2,3,4] [2,6,7,8] [zq [0] 5 22,zq [5] 6 4,zq [] 7 5,zq [] 8 6] [(_,_),(_,_),(_,_),(_,_)] rfl ⟨z1 rfl,z2 rfl,z2 rfl,z2 rfl,zz⟩ ?_
   refine ht_ret ?_
   refine pt_pick [1,2,3] (by kernel_rfl) (es' := [(_,_),(_,_),(_,_)]) rfl ?_
   refine pt_sub (fs := [(4,fb s),(5,fb []),(6,vb false)]) (.same _ (.sub _ (sub_nil_shr 1) rfl (.same _ .nil))) ?_
   obtain rfl := zi h
   exact pt_ret hio rfl (.tmp _ _ (.tmp _ _ (.tmp _ _ .nil))) rfl rfl
end Go.Proofs.YtofbofdggabfiaaDoor
