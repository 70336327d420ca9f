/-
  The model's runs are what is told in Lean.
-/
import Derived.Test.YthfmdofkkkpbkaaGreatDoorProg
import Derived.KernelRfl
import Derived.Test.YthfmdofkkkpbkaaGreatDoorShelf
import Derived.Test.YthfmdofkkkpbkaaGreatDoorSh
set_option linter.unusedVariables false
set_option linter.unusedSimpArgs false
set_option maxHeartbeats 1000000
namespace Go.Proofs.YthfmdofkkkpbkaaGreatDoor
open Go.Abs Go.Abs.Sh Tryz
def GL (mx : Int) : List (Nat × List Value) := [(1, (List.map (Value.int .u8) utf8_first)), (2, (List.map (Value.int .u8) utf8_accept))]
theorem gl_mem1 (mx : Int) : (1, ((List.map (Value.int .u8) utf8_first) : List Value)) ∈ GL mx := .head _
theorem sz26 : (Tryz.prog.info? 26).map (·.size) = some 6 := by kernel_rfl
theorem sz9 : (Tryz.prog.info? 9).map (·.size) = some 1 := by kernel_rfl
theorem sz23 : (Tryz.prog.info? 23).map (·.size) = some 3 := by kernel_rfl
theorem sz24 : (Tryz.prog.info? 24).map (·.size) = some 1 := by kernel_rfl
theorem sz47 : (Tryz.prog.info? 47).map (·.size) = some 2 := by kernel_rfl
theorem zr26 : (Tryz.prog.info? 26).bind (·.zero) = some (.agg #[.int .i64 0, .string ByteArray.empty, .bool false, .string ByteArray.empty, .string ByteArray.empty, .slice none 0 0]) := by kernel_rfl
theorem sz5 : (Tryz.prog.info? 5).map (·.size) = some 1 := by kernel_rfl
theorem fs26 : ∀ fs, Tryz.prog.underlying 26 = some (.struct fs) → fs.toList.map (fun f => (Tryz.prog.info? f.type).map (·.size)) = ([1, 1, 3, 1] : List Nat).map some := by
  intro fs h
  rw [Tryz.underlying26] at h
  cases h
  kernel_rfl
theorem zr4 : (Tryz.prog.info? 4).bind (·.zero) = some (.bool false) := by kernel_rfl
theorem sz4 : (Tryz.prog.info? 4).map (·.size) = some 1 := by kernel_rfl
theorem sz3 : (Tryz.prog.info? 3).map (·.size) = some 1 := by kernel_rfl
theorem zr23 : (Tryz.prog.info? 23).bind (·.zero) = some (.agg #[.bool false, .string ByteArray.empty, .string ByteArray.empty]) := by kernel_rfl
theorem fs23 : ∀ fs, Tryz.prog.underlying 23 = some (.struct fs) → fs.toList.map (fun f => (Tryz.prog.info? f.type).map (·.size)) = ([1, 1, 1] : List Nat).map some := by
  intro fs h
  rw [Tryz.underlying23] at h
  cases h
  kernel_rfl
theorem zr24 : (Tryz.prog.info? 24).bind (·.zero) = some (.slice none 0 0) := by kernel_rfl
theorem zr47 : (Tryz.prog.info? 47).bind (·.zero) = some (.agg #[.string ByteArray.empty, .string ByteArray.empty]) := by kernel_rfl
theorem fs47 : ∀ fs, Tryz.prog.underlying 47 = some (.struct fs) → fs.toList.map (fun f => (Tryz.prog.info? f.type).map (·.size)) = ([1, 1] : List Nat).map some := by
  intro fs h
  rw [Tryz.underlying47] at h
  cases h
  kernel_rfl
theorem zr9 : (Tryz.prog.info? 9).bind (·.zero) = some (.string ByteArray.empty) := by kernel_rfl
theorem el24 : ElemT Tryz.prog 24 47 2 32 := ⟨⟨Tryz.t47, .agg #[.string ByteArray.empty, .string ByteArray.empty], Tryz.underlying24, by kernel_rfl, by kernel_rfl, by kernel_rfl, by kernel_rfl, by decide, by kernel_rfl⟩⟩
theorem zr5 : (Tryz.prog.info? 5).bind (·.zero) = some (.int .u8 0) := by kernel_rfl
theorem el67 : ElemT Tryz.prog 67 5 1 1 := ⟨⟨Tryz.t5, .int .u8 0, Tryz.underlying67, by kernel_rfl, by kernel_rfl, by kernel_rfl, by kernel_rfl, by decide, by kernel_rfl⟩⟩
theorem zr71 : (Tryz.prog.info? 71).bind (·.zero) = some (.agg #[.pointer none, .slice none 0 0]) := by kernel_rfl
theorem sz67 : (Tryz.prog.info? 67).map (·.size) = some 1 := by kernel_rfl
theorem ok_wherrylaw12_heavy (c : T_Cmd) (r : Bool) (h : Sh.wherrylaw12_heavy c = some r) : FnOK Tryz.prog 5 [.agg [.v (.int .i64 c.Kind), .v (.string c.Text), .v (.bool c.Path.Null), .v (.string c.Path.Local), .v (.string c.Path.Domain), .fl .shr 2 (List.flatten (List.map T_Param.enc c.Params))]] (.v (.bool r)) := by
  unfold Sh.wherrylaw12_heavy at h
  refine fn_ok func5 rfl (zl rfl) rfl rfl fun g0 hn hio => ?_
  refine zgg hn [_,(1,.box 26 [vi c.Kind,vs c.Text,vb c.Path.Null,vs c.Path.Local,vs c.Path.Domain,.fl .shr 2 (List.flatten (List.map T_Param.enc c.Params))]),(2,vb false)] [0] [1] [zq [0] 1 1,zq [] 2 2] [(_,_)] rfl ⟨zp rfl (op_box _ _ _ _ rfl rfl rfl),z2 rfl,zz⟩ ?_
  refine ht_seq ?_
  obtain ⟨v1, hv1, h⟩ := bind_some h
  obtain ⟨v2, hv2, h⟩ := bind_some h
  refine zg hn (_::(5,.ptr 1 1)::(6,vs c.Text)::(7,vi (c.Text.size : Int))::(8,.ptr 1 2)::(9,.ptr 1 3)::(10,vs c.Path.Local)::(11,vi (c.Path.Local.size : Int))::(12,vi v1)::(13,.ptr 1 2)::(14,.ptr 1 4)::(15,vs c.Path.Domain)::(16,vi (c.Path.Domain.size : Int))::(17,vi v2)::(3,vi v2)::[]) [0] [0,14] [zq [0] 1 5,zq [1,0] 2 6,zq [2] 3 7,zq [0] 4 8,zq [4,0] 5 9,zq [5,0] 6 10,zq [6] 7 11,zq [3,7] 8 12,zq [0] 9 13,zq [9,0] 10 14,zq [10,0] 11 15,zq [11] 12 16,zq [8,12] 13 17,zq [13] 14 3] [(_,_),(_,_)] rfl ⟨zp rfl (oF underlying26 rfl sz9),zp rfl (oL underlying9 rfl),zp rfl (oN underlying9 rfl),zp rfl (oF underlying26 rfl sz23),zp rfl (oF underlying23 rfl sz9),zp rfl (oL underlying9 rfl),zp rfl (oN underlying9 rfl),zp rfl (oB rfl (ibind (f := Value.int .i64) (Option.some.inj hv1))),zp rfl (oF underlying26 rfl sz23),zp rfl (oF underlying23 rfl sz9),zp rfl (oL underlying9 rfl),zp rfl (oN underlying9 rfl),zp rfl (oB rfl (ibind (f := Value.int .i64) (Option.some.inj hv2))),z2 rfl,zz⟩ ?_
  refine pt_then (ht_seq ?_)
  refine zgg hn [_,_,(4,vi 0)] [0,1] [0,1,2] [zq [] 2 4] [(_,_),(_,_),(_,_)] rfl ⟨z2 rfl,zz⟩ ?_
  refine ht_loopS h (fun ((s14, s15) : Int × Int) => [(1, .box 26 [.v (.int .i64 c.Kind), .v (.string c.Text), .v (.bool c.Path.Null), .v (.string c.Path.Local), .v (.string c.Path.Domain), .fl .shr 2 (List.flatten (List.map T_Param.enc c.Params))]), (3, .v (.int .i64 s14)), (4, .v (.int .i64 s15))]) (fun (s17 : Int) => [(1, .box 26 [.v (.int .i64 c.Kind), .v (.string c.Text), .v (.bool c.Path.Null), .v (.string c.Path.Local), .v (.string c.Path.Domain), .fl .shr 2 (List.flatten (List.map T_Param.enc c.Params))]), (3, .v (.int .i64 s17))]) ?_ ?_
  ·rintro s17 h
   refine pt_then (ht_seq ?_)
   refine ht_joinS h (fun (s25 : Bool) => [(2, .v (.bool s25))]) ?_ ?_
   ·rintro s25 h
    refine pt_then (ht_ret ?_)
    obtain rfl := Option.some.inj h
    exact pt_ret hio rfl (.tmp _ _ .nil) rfl rfl
   ·intro u26 h hl27 hr28
    refine cond_some h (fun hg6_2 h => ?_) (fun hg6_2 h => ?_)
    ·refine zg hn [_,_,(42,vi s17),(43,vb (decide (3000 < s17))),(44,vb true),(45,.v undef),(46,.v undef),(47,.v undef),(48,.v undef),(49,vb true),(2,vb true)] [0,1] [10] [zq [1] 2 42,zq [2] 3 43,zq [3] 4 44,zq [4] 5 45,zq [4] 6 46,zq [4] 7 47,zq [4] 8 48,zq [4] 9 49,zq [9] 10 2] [(_,_)] rfl ⟨z1 rfl,z4 rfl rfl,z8 hg6_2 rfl,zf rfl,zf rfl,zf rfl,zf rfl,z3 true rfl,z2 rfl,zz⟩ ?_
     exact hl27 _ (Option.some.inj h).symm
    ·refine zg hn [_,_,(42,vi s17),(43,vb (decide (3000 < s17))),(44,vb false),(45,.ptr 1 5),(46,.fl .shr 2 (List.flatten (List.map T_Param.enc c.Params))),(47,vi (c.Params.length : Int)),(48,vb (decide (20 < (c.Params.length : Int)))),(49,vb (decide (20 < (c.Params.length : Int)))),(2,vb (decide (20 < (c.Params.length : Int))))] [0,1] [10] [zq [1] 2 42,zq [2] 3 43,zq [3] 4 44,zq [4,0] 5 45,zq [4,5,0] 6 46,zq [4,6] 7 47,zq [4,7] 8 48,zq [4,8] 9 49,zq [9] 10 2] [(_,_)] rfl ⟨z1 rfl,z4 rfl rfl,z8 hg6_2 rfl,zr' rfl (oF underlying26 rfl sz24),zr' rfl (oL underlying24 rfl),zr' rfl (op_len_fl _ _ _ underlying24 rfl (by decide) (flat_len T_Param.len _)),zr' rfl (oB rfl rfl),z3 false rfl,z2 rfl,zz⟩ ?_
     exact hl27 _ (Option.some.inj h).symm
  ·rintro u18 hl19 hr20 ⟨s14, s15⟩ rr23 h ho21
   refine ht_seq ?_
   refine zgg hn [_,_,_,(18,vi s15),(19,.ptr 1 5),(20,.fl .shr 2 (List.flatten (List.map T_Param.enc c.Params))),(21,vi (c.Params.length : Int)),(22,vb (decide (s15 < (c.Params.length : Int))))] [0,1,2] [0,1,2,7] [zq [2] 3 18,zq [0] 4 19,zq [4,0] 5 20,zq [5] 6 21,zq [3,6] 7 22] [(_,_),(_,_),(_,_),(_,_)] rfl ⟨z1 rfl,zp rfl (oF underlying26 rfl sz24),zp rfl (oL underlying24 rfl),zp rfl (op_len_fl _ _ _ underlying24 rfl (by decide) (flat_len T_Param.len _)),z4 rfl rfl,zz⟩ ?_
   refine ht_cond _ rfl (fun hb24 => ?_) (fun hb24 => ?_)
   ·have h := cond_t hb24 h
    refine ht_skip ?_
    refine pt_then (ht_seq ?_)
    refine ht_block ?_
    obtain ⟨v4, hv4, h⟩ := bind_some h
    obtain ⟨v5, hv5, h⟩ := bind_some h
    obtain ⟨v6, hv6, h⟩ := bind_some h
    obtain ⟨v7, hv7, h⟩ := bind_some h
    obtain ⟨v8, hv8, h⟩ := bind_some h
    obtain ⟨v9, hv9, h⟩ := bind_some h
    refine ht_anyR (by kernel_rfl) hn (El := (_ :: _ :: _ :: _ :: (25, .v (.int .i64 s14)) :: (26, .ptr 1 5) :: (27, .fl .shr 2 (List.flatten (List.map T_Param.enc c.Params))) :: (28, .v (.int .i64 s15)) :: (29, .eref (.slot 27) (v4 * 2)) :: (30, .eref (.slot 27) (v4 * 2 + 0)) :: (31, .v (.string v5.Key)) :: (32, .v (.int .i64 (v5.Key.size : Int))) :: (33, .v (.int .i64 v6)) :: (34, .ptr 1 5) :: (35, .fl .shr 2 (List.flatten (List.map T_Param.enc c.Params))) :: (36, .v (.int .i64 s15)) :: (37, .eref (.slot 35) (v7 * 2)) :: (38, .eref (.slot 35) (v7 * 2 + 1)) :: (39, .v (.string v8.Val)) :: (40, .v (.int .i64 (v8.Val.size : Int))) :: (41, .v (.int .i64 v9)) :: (3, .v (.int .i64 v9)) :: [])) (init := [0, 1, 2, 3]) (fin := [0, 2, 21]) (sps := (zq [1] 4 25 :: zq [0] 5 26 :: zq [5,0] 6 27 :: zq [2] 7 28 :: zq [6,7] 8 29 :: zq [8,6] 9 30 :: zq [9,6] 10 31 :: zq [10] 11 32 :: zq [4,11] 12 33 :: zq [0] 13 34 :: zq [13,0] 14 35 :: zq [2] 15 36 :: zq [14,15] 16 37 :: zq [16,14] 17 38 :: zq [17,14] 18 39 :: zq [18] 19 40 :: zq [12,19] 20 41 :: ⟨[20], [1], [21], [(.slot 3)]⟩ :: [])) (es' := [(_,_),(_,_),(3, .v (.int .i64 v9))]) (by kernel_rfl) rfl rfl ⟨z1 rfl,zp rfl (oF underlying26 rfl sz24),zp rfl (oL underlying24 rfl),z1 rfl,zp rfl (op_ix _ _ _ _ _ _ _ _ underlying24 sz47 (by decide) rfl rfl rfl (ix_ok hv4).1 (flat_lt T_Param.len (ix_ok hv4).2) rfl),zp rfl (op_fieldAddr_e _ _ _ _ _ _ _ underlying47 rfl sz9 rfl rfl rfl),zp rfl (op_load_e _ _ _ _ _ _ underlying9 rfl rfl rfl (flat_cell T_Param.len hv5 rfl)),zp rfl (oN underlying9 rfl),zp rfl (oB rfl (ibind (f := Value.int .i64) (Option.some.inj hv6))),zp rfl (oF underlying26 rfl sz24),zp rfl (oL underlying24 rfl),z1 rfl,zp rfl (op_ix _ _ _ _ _ _ _ _ underlying24 sz47 (by decide) rfl rfl rfl (ix_ok hv7).1 (flat_lt T_Param.len (ix_ok hv7).2) rfl),zp rfl (op_fieldAddr_e _ _ _ _ _ _ _ underlying47 rfl sz9 rfl rfl rfl),zp rfl (op_load_e _ _ _ _ _ _ underlying9 rfl rfl rfl (flat_cell T_Param.len hv8 rfl)),zp rfl (oN underlying9 rfl),zp rfl (oB rfl (ibind (f := Value.int .i64) (Option.some.inj hv9))),zp rfl (LOp.drop [_] (op_assign _ _ _ _ rfl rfl)),zz⟩ ?_
    refine pt_inb ?_
    refine pt_then ?_
    obtain ⟨v10, hv10, h⟩ := bind_some h
    refine zg hn [_,_,_,(23,vi s15),(24,vi v10),(4,vi v10)] [0,1,2] [0,2,5] [zq [1] 3 23,zq [3] 4 24,⟨[4],[1],[5],[(.slot 4)]⟩] [(_,_),(_,_),(_,_)] rfl ⟨z1 rfl,zp rfl (oB rfl (ibind (f := Value.int .i64) (Option.some.inj hv10))),zp rfl (LOp.drop [_] (op_assign _ _ _ _ rfl rfl)),zz⟩ ?_
    exact pt_next _ (Option.some.inj h).symm rfl
   ·have h := cond_f hb24 h
    refine ht_exit ?_
    refine pt_x_then ?_
    refine pt_x_then ?_
    refine pt_x_in ?_
    refine pt_pick [0, 1] (by kernel_rfl) (es' := [(_,_),(_,_)]) rfl ?_
    exact hl19 _ (ho21 _ (Option.some.inj h).symm).symm
theorem ok_verb_printable (line : ByteArray) (r : Bool) (h : Sh.verb_printable line = some r) : FnOK Tryz.prog 18 [.v (.string line)] (.v (.bool r)) := by
  unfold Sh.verb_printable at h
  refine fn_ok func18 rfl (zl rfl) rfl rfl fun g0 hn hio => ?_
  refine zgg hn [_,(2,vb false)] [0] [0] [zq [] 1 2] [(_,_)] rfl ⟨z2 rfl,zz⟩ ?_
  refine ht_seq ?_
  refine zgg hn [_,(4,vs line),(5,vi (line.size : Int)),(6,vi 0)] [0] [0,2,3] [zq [0] 1 4,zq [1] 2 5,zq [] 3 6] [(_,_),(_,_),(_,_)] rfl ⟨z1 rfl,zp rfl (oN underlying9 rfl),z1 rfl,zz⟩ ?_
  refine ht_loopS h (fun (s17 : Int) => [(0, .v (.string line)), (5, .v (.int .i64 (line.size : Int))), (6, .v (.int .i64 s17))]) (fun (() : Unit) => []) ?_ ?_
  ·rintro ⟨⟩ h
   refine pt_then ?_
   refine zgg hn [(2,vb true)] [] [0] [zq [] 0 2] [(_,_)] rfl ⟨z2 rfl,zz⟩ ?_
   refine ht_ret ?_
   obtain rfl := Option.some.inj h
   exact pt_ret hio rfl (.tmp _ _ .nil) rfl rfl
  ·rintro u24 hl25 hr26 s17 rr29 h ho27
   refine zgg hn [_,_,_,(7,vb (decide (s17 < (line.size : Int))))] [0,1,2] [0,1,2,3] [zq [2,1] 3 7] [(_,_),(_,_),(_,_),(_,_)] rfl ⟨z4 rfl rfl,zz⟩ ?_
   refine ht_seq ?_
   refine ht_cond _ rfl (fun hb30 => ?_) (fun hb30 => ?_)
   ·have h := cond_t hb30 h
    refine ht_skip ?_
    refine pt_then (ht_seq ?_)
    refine ht_block ?_
    refine zgg hn [_,_,_,_,(8,vi s17),(3,vi s17)] [0,1,2,3] [0,1,2,5] [zq [2] 4 8,zq [4] 5 3] [(_,_),(_,_),(_,_),(_,_)] rfl ⟨z1 rfl,z2 rfl,zz⟩ ?_
    refine ht_seq ?_
    refine ht_joinS h (fun (s31 : Bool) => [(0, .v (.string line)), (5, .v (.int .i64 (line.size : Int))), (6, .v (.int .i64 s17)), (18, .v (.bool s31))]) ?_ ?_
    ·rintro s31 h
     refine pt_then ?_
     refine ht_cond _ rfl (fun hb35 => ?_) (fun hb35 => ?_)
     ·have h := cond_t hb35 h
      refine zgg hn [_,_,_,_,(2,vb false)] [0,1,2,3] [4] [zq [] 4 2] [(_,_)] rfl ⟨z2 rfl,zz⟩ ?_
      refine ht_ret ?_
      refine pt_r_in ?_
      refine pt_r_then ?_
      refine pt_r_then ?_
      refine pt_r_in ?_
      refine pt_r_then ?_
      have h := hr26 _ (ho27 _ (Option.some.inj h).symm).symm
      obtain rfl := Option.some.inj h
      exact pt_ret hio rfl (.tmp _ _ .nil) rfl rfl
     ·have h := cond_f hb35 h
      refine ht_skip ?_
      refine pt_inb ?_
      refine pt_then ?_
      obtain ⟨v9, hv9, h⟩ := bind_some h
      refine zg hn [_,_,_,_,(19,vi v9),(6,vi v9)] [0,1,2,3] [0,1,5] [zq [2] 4 19,⟨[4],[2],[5],[(.slot 6)]⟩] [(_,_),(_,_),(_,_)] rfl ⟨zp rfl (oB rfl (ibind (f := Value.int .i64) (Option.some.inj hv9))),zp rfl (LOp.drop [_] (oM rfl)),zz⟩ ?_
      exact pt_next _ (Option.some.inj h).symm rfl
    ·intro u32 h hl33 hr34
     obtain ⟨v2, hv2, h⟩ := bind_some h
     refine cond_some h (fun hg4_4 h => ?_) (fun hg4_4 h => ?_)
     ·refine zg hn [_,_,_,_,(9,vs line),(10,vi s17),(11,.v (.int .u8 v2)),(12,vb (decide (v2 < 32))),(13,vb true),(14,.v undef),(15,.v undef),(16,.v undef),(17,.v undef),(18,vb true)] [0,1,2,3] [0,1,2,13] [zq [0] 4 9,zq [3] 5 10,zq [4,5] 6 11,zq [6] 7 12,zq [7] 8 13,zq [8] 9 14,zq [8] 10 15,zq [8] 11 16,zq [8] 12 17,zq [8] 13 18] [(_,_),(_,_),(_,_),(_,_)] rfl ⟨z1 rfl,z1 rfl,zp rfl (op_chr _ _ _ s17 _ underlying9 rfl rfl hv2),z4 rfl rfl,z8 hg4_4 rfl,zf rfl,zf rfl,zf rfl,zf rfl,z3 true rfl,zz⟩ ?_
      exact hl33 _ (Option.some.inj h).symm
     ·obtain ⟨v3, hv3, h⟩ := bind_some h
      refine zg hn [_,_,_,_,(9,vs line),(10,vi s17),(11,.v (.int .u8 v2)),(12,vb (decide (v2 < 32))),(13,vb false),(14,vs line),(15,vi s17),(16,.v (.int .u8 v3)),(17,vb (decide (126 < v3))),(18,vb (decide (126 < v3)))] [0,1,2,3] [0,1,2,13] [zq [0] 4 9,zq [3] 5 10,zq [4,5] 6 11,zq [6] 7 12,zq [7] 8 13,zq [8,0] 9 14,zq [8,3] 10 15,zq [8,9,10] 11 16,zq [8,11] 12 17,zq [8,12] 13 18] [(_,_),(_,_),(_,_),(_,_)] rfl ⟨z1 rfl,z1 rfl,zp rfl (op_chr _ _ _ s17 _ underlying9 rfl rfl hv2),z4 rfl rfl,z8 hg4_4 rfl,zr' rfl (oM rfl),zr' rfl (oM rfl),zr' rfl (op_chr _ _ _ s17 _ underlying9 rfl rfl hv3),zr' rfl (oB rfl rfl),z3 false rfl,zz⟩ ?_
      exact hl33 _ (Option.some.inj h).symm
   ·have h := cond_f hb30 h
    refine ht_exit ?_
    refine pt_x_then ?_
    refine pt_x_then ?_
    refine pt_x_in ?_
    refine pt_pick [] (by kernel_rfl) (es' := []) rfl ?_
    exact hl25 _ (ho27 _ (Option.some.inj h).symm).symm
theorem ok_internal_stringslite_Index (s sub : ByteArray) (r : Int) (h : Sh.strings_Index s sub = some r) : FnOK Tryz.prog 60 [.v (.string s), .v (.string sub)] (.v (.int .i64 r)) := lib_strings_Index Tryz.stringslite_Index_one s sub r h
theorem ok_internal_stringslite_Cut (s : ByteArray) (sep : ByteArray) (r : (ByteArray × ByteArray × Bool)) (h : Sh.internal_stringslite_Cut s sep = some r) : FnOK Tryz.prog 50 [.v (.string s), .v (.string sep)] (.tup [.v (.string r.1), .v (.string r.2.1), .v (.bool r.2.2)]) := by
  unfold Sh.internal_stringslite_Cut at h
  refine fn_ok func50 rfl (zl rfl) rfl rfl fun g0 hn hio => ?_
  refine zgg hn [_,_,(4,vs z0),(5,vs z0),(6,vb false)] [0,1] [0,1] [zq [] 2 4,zq [] 3 5,zq [] 4 6] [(_,_),(_,_)] rfl ⟨z2 rfl,z2 rfl,z2 rfl,zz⟩ ?_
  refine ht_seq ?_
  refine ht_seq ?_
  obtain ⟨v1, hv1, h⟩ := bind_some h
  refine zg hn [_,_,(8,vs s),(9,vs sep),(10,vi v1),(7,vi v1)] [0,1] [0,1,5] [zq [0] 2 8,zq [1] 3 9,zq [2,3] 4 10,zq [4] 5 7] [(_,_),(_,_),(_,_)] rfl ⟨z1 rfl,z1 rfl,zp rfl (op_call _ _ 60 _ _ rfl call60 rfl (ok_internal_stringslite_Index s sep _ hv1) rfl rfl),z2 rfl,zz⟩ ?_
  refine pt_then ?_
  refine zgg hn [_,_,_,(11,vi v1),(12,vb (decide (0 ≤ v1)))] [0,1,2] [0,1,2,4] [zq [2] 3 11,zq [3] 4 12] [(_,_),(_,_),(_,_),(_,_)] rfl ⟨z1 rfl,z4 rfl rfl,zz⟩ ?_
  refine ht_cond _ rfl (fun hb2 => ?_) (fun hb2 => ?_)
  ·have h := cond_t hb2 h
   refine ht_seq ?_
   obtain ⟨v3, hv3, h⟩ := bind_some h
   obtain ⟨v4, hv4, h⟩ := bind_some h
   obtain ⟨v5, hv5, h⟩ := bind_some h
   refine ht_anyR (by kernel_rfl) hn (El := (_ :: _ :: _ :: _ :: (13, .v (.string s)) :: (14, .v (.int .i64 v1)) :: (15, .v (.string v3)) :: (16, .v (.string s)) :: (17, .v (.int .i64 v1)) :: (18, .v (.string sep)) :: (19, .v (.int .i64 (sep.size : Int))) :: (20, .v (.int .i64 v4)) :: (21, .v (.string v5)) :: (4, .v (.string v3)) :: (5, .v (.string v5)) :: (6, .v (.bool true)) :: [])) (init := [0, 1, 2, 3]) (fin := [13, 14, 15]) (sps := [zq [0] 4 13, zq [2] 5 14, zq [4,5] 6 15, zq [0] 7 16, zq [2] 8 17, zq [1] 9 18, zq [9] 10 19, zq [8,10] 11 20, zq [7,11] 12 21, zq [6] 13 4, zq [12] 14 5, zq [] 15 6]) (es' := [(4, .v (.string v3)), (5, .v (.string v5)), (6, .v (.bool true))]) (by kernel_rfl) rfl rfl ⟨z1 rfl,z1 rfl,zp rfl (op_substr _ _ _ 0 v1 _ underlying9 rfl rfl ⟨_, rfl⟩ hv3),z1 rfl,z1 rfl,z1 rfl,zp rfl (oN underlying9 rfl),zp rfl (oB rfl (ibind (f := Value.int .i64) (Option.some.inj hv4))),zp rfl (op_substr _ _ _ v4 (s.size : Int) _ underlying9 rfl ⟨_, rfl⟩ rfl hv5),z2 rfl,z2 rfl,z2 rfl,zz⟩ ?_
   refine pt_then (ht_ret ?_)
   refine pt_r_then ?_
   obtain rfl := Option.some.inj h
   exact pt_ret hio rfl (.tmp _ _ (.tmp _ _ (.tmp _ _ .nil))) rfl rfl
  ·have h := cond_f hb2 h
   refine ht_skip ?_
   refine pt_then ?_
   refine zgg hn [_,_,_,_,(22,vs s),(4,vs s),(5,vs z0),(6,vb false)] [0,1,2,3] [5,6,7] [zq [0] 4 22,zq [4] 5 4,zq [] 6 5,zq [] 7 6] [(_,_),(_,_),(_,_)] rfl ⟨z1 rfl,z2 rfl,z2 rfl,z2 rfl,zz⟩ ?_
   refine ht_ret ?_
   obtain rfl := Option.some.inj h
   exact pt_ret hio rfl (.tmp _ _ (.tmp _ _ (.tmp _ _ .nil))) rfl rfl
theorem ok_strings_Cut (s : ByteArray) (sep : ByteArray) (r : (ByteArray × ByteArray × Bool)) (h : Sh.strings_Cut s sep = some r) : FnOK Tryz.prog 33 [.v (.string s), .v (.string sep)] (.tup [.v (.string r.1), .v (.string r.2.1), .v (.bool r.2.2)]) := by
  unfold Sh.strings_Cut at h
  refine fn_ok func33 rfl (zl rfl) rfl rfl fun g0 hn hio => ?_
  refine zgg hn [_,_,(4,vs z0),(5,vs z0),(6,vb false)] [0,1] [0,1] [zq [] 2 4,zq [] 3 5,zq [] 4 6] [(_,_),(_,_)] rfl ⟨z2 rfl,z2 rfl,z2 rfl,zz⟩ ?_
  refine ht_seq ?_
  obtain ⟨v1, hv1, h⟩ := bind_some h
  refine zg hn [_,_,(7,vs s),(8,vs sep),(9,.tup [vs v1.1,vs v1.2.1,vb v1.2.2]),(10,vs v1.1),(11,vs v1.2.1),(12,vb v1.2.2),(4,vs v1.1),(5,vs v1.2.1),(6,vb v1.2.2)] [0,1] [8,9,10] [zq [0] 2 7,zq [1] 3 8,zq [2,3] 4 9,zq [4] 5 10,zq [4] 6 11,zq [4] 7 12,zq [5] 8 4,zq [6] 9 5,zq [7] 10 6] [(_,_),(_,_),(_,_)] rfl ⟨z1 rfl,z1 rfl,zp rfl (op_call _ _ 50 _ _ rfl call50 rfl (ok_internal_stringslite_Cut s sep _ hv1) rfl rfl),zp rfl (oE rfl),zp rfl (oE rfl),zp rfl (oE rfl),z2 rfl,z2 rfl,z2 rfl,zz⟩ ?_
  refine pt_then (ht_ret ?_)
  obtain rfl := Option.some.inj h
  exact pt_ret hio rfl (.tmp _ _ (.tmp _ _ (.tmp _ _ .nil))) rfl rfl
theorem ok_path_Fold (s : ByteArray) (r : ByteArray) (h : Sh.path_Fold s = some r) : FnOK Tryz.prog 34 [.v (.string s)] (.v (.string r)) := by
  unfold Sh.path_Fold at h
  refine fn_ok func34 rfl (zl rfl) rfl rfl fun g0 hn hio => ?_
  refine zgg hn [_,(2,vs z0)] [0] [0] [zq [] 1 2] [(_,_)] rfl ⟨z2 rfl,zz⟩ ?_
  refine ht_seq ?_
  obtain ⟨v1, hv1, h⟩ := bind_some h
  refine zg hn [_,(6,vs s),(7,.mkr 5 (List.map (Value.int .u8) v1)),(3,.mkr 5 (List.map (Value.int .u8) v1))] [0] [3] [zq [0] 1 6,zq [1] 2 7,⟨[],[2],[3],[(.slot 3)]⟩] [(_,_)] rfl ⟨z1 rfl,zp rfl ((Option.some.inj hv1) ▸ op_str_mk _ _ _ s underlying9 underlying67 underlying5 rfl),zp rfl (op_assign_take _ _ _ _ rfl),zz⟩ ?_
  refine pt_then (ht_seq ?_)
  refine zgg hn [_,(8,.same (.slot 3)),(9,vi (v1.length : Int)),(10,vi 0)] [0] [0,1,2,3] [zq [0] 1 8,zq [1,0] 2 9,zq [] 3 10] [(_,_),(_,_),(_,_),(_,_)] rfl ⟨z1 rfl,zp rfl (op_len_mk _ _ _ underlying67 rfl (List.length_map _)),z1 rfl,zz⟩ ?_
  refine ht_loopS h (fun ((s40, s41) : (List Int) × Int) => [(3, .mkr 5 (List.map (Value.int .u8) s40)), (8, .same (.slot 3)), (9, .v (.int .i64 (v1.length : Int))), (10, .v (.int .i64 s41))]) (fun (s57 : (List Int)) => [(3, .mkr 5 (List.map (Value.int .u8) s57))]) ?_ ?_
  ·rintro s57 h
   refine pt_then (ht_seq ?_)
   obtain ⟨v79, hv79, h⟩ := bind_some h
   refine zg hn [_,(27,.mkr 5 (List.map (Value.int .u8) s57)),(28,vs v79),(2,vs v79)] [0] [3] [⟨[],[0],[1],[(.slot 27)]⟩,zq [1] 2 28,zq [2] 3 2] [(_,_)] rfl ⟨zp rfl (op_move_take _ _ _ _ rfl),zp rfl ((Option.some.inj hv79) ▸ op_mk_str _ _ _ s57 underlying67 underlying9 underlying5 rfl),z2 rfl,zz⟩ ?_
   refine pt_then (ht_ret ?_)
   obtain rfl := Option.some.inj h
   exact pt_ret hio rfl (.tmp _ _ .nil) rfl rfl
  ·rintro u58 hl59 hr60 ⟨s40, s41⟩ rr63 h ho61
   refine zgg hn [_,_,_,_,(11,vb (decide (s41 < (v1.length : Int))))] [0,1,2,3] [0,1,2,3,4] [zq [3,2] 4 11] [(_,_),(_,_),(_,_),(_,_),(_,_)] rfl ⟨z4 rfl rfl,zz⟩ ?_
   refine ht_seq ?_
   refine ht_cond _ rfl (fun hb64 => ?_) (fun hb64 => ?_)
   ·have h := cond_t hb64 h
    refine ht_skip ?_
    refine pt_then (ht_seq ?_)
    refine ht_joinS h (fun (s70 : (List Int)) => [(3, .mkr 5 (List.map (Value.int .u8) s70)), (8, .same (.slot 3)), (9, .v (.int .i64 (v1.length : Int))), (10, .v (.int .i64 s41))]) ?_ ?_
    ·rintro s70 h
     refine pt_then ?_
     obtain ⟨v22, hv22, h⟩ := bind_some h
     refine zg hn [_,_,_,_,(26,vi v22),(10,vi v22)] [0,1,2,3] [0,1,2,5] [zq [3] 4 26,⟨[4],[3],[5],[(.slot 10)]⟩] [(_,_),(_,_),(_,_),(_,_)] rfl ⟨zp rfl (oB rfl (ibind (f := Value.int .i64) (Option.some.inj hv22))),zp rfl (LOp.drop [_] (oM rfl)),zz⟩ ?_
     exact pt_next _ (Option.some.inj h).symm rfl
    ·intro u71 h hl72 hr73
     refine ht_block ?_
     refine ht_seq ?_
     obtain ⟨v3, hv3, h⟩ := bind_some h
     obtain ⟨v4, hv4, h⟩ := bind_some h
     refine zg hn [_,_,_,_,_,(12,vi s41),(13,.eref (.slot 3) (v3 * 1)),(14,.v (.int .u8 v4)),(4,vi s41),(5,.v (.int .u8 v4))] [0,1,2,3,4] [0,1,2,3,8,9] [zq [3] 5 12,zq [1,0,3] 6 13,zq [6,0] 7 14,zq [5] 8 4,zq [7] 9 5] [(_,_),(_,_),(_,_),(_,_),(_,_),(_,_)] rfl ⟨z1 rfl,zp rfl (op_ix_mk _ _ _ _ _ _ _ underlying67 sz5 rfl rfl rfl (ix_ok hv3).1 (mk_lt' (ix_ok hv3).2) rfl),zp rfl (op_load_mk _ _ _ _ _ _ underlying5 rfl rfl rfl (map_get hv4)),z2 rfl,z2 rfl,zz⟩ ?_
     refine pt_then (ht_seq ?_)
     refine ht_joinS h (fun (s74 : Bool) => [(3, .mkr 5 (List.map (Value.int .u8) s40)), (8, .same (.slot 3)), (9, .v (.int .i64 (v1.length : Int))), (10, .v (.int .i64 s41)), (4, .v (.int .i64 s41)), (5, .v (.int .u8 v4)), (20, .v (.bool s74))]) ?_ ?_
     ·rintro s74 h
      refine pt_then ?_
      refine ht_cond _ rfl (fun hb78 => ?_) (fun hb78 => ?_)
      ·have h := cond_t hb78 h
       obtain ⟨v10, hv10, h⟩ := bind_some h
       obtain ⟨v11, hv11, h⟩ := bind_some h
       obtain ⟨v12, hv12, h⟩ := bind_some h
       refine zg hn [_,_,_,_,_,_,_,(21,.same (.slot 3)),(22,vi s41),(23,.v (.int .u8 v4)),(24,.v (.int .u8 v10)),(25,.eref (.slot 3) (v11 * 1)),(3,.mkr 5 (List.map (Value.int .u8) v12))] [0,1,2,3,4,5,6] [12,1,2,3] [zq [0] 7 21,zq [4] 8 22,zq [5] 9 23,zq [9] 10 24,zq [7,0,8] 11 25,⟨[11,10],[0],[12],[]⟩] [(_,_),(_,_),(_,_),(_,_)] rfl ⟨z1 rfl,z1 rfl,z1 rfl,zp rfl (oB rfl (ibind (f := Value.int .u8) (Option.some.inj hv10))),zp rfl (op_ix_mk _ _ _ _ _ _ _ underlying67 sz5 rfl rfl rfl (ix_ok hv11).1 (mk_lt' (ix_ok hv11).2) rfl),zp rfl (op_store_mk _ _ _ _ _ _ _ sz5 rfl rfl rfl (mk_lt (ix_ok hv11).2) (mk_set (f := Value.int .u8) (Option.some.inj hv12))),zz⟩ ?_
       refine pt_inb ?_
       exact hl72 _ (Option.some.inj h).symm
      ·have h := cond_f hb78 h
       refine ht_skip ?_
       refine pt_inb ?_
       refine pt_pick [0, 1, 2, 3] (by kernel_rfl) (es' := [(_,_),(_,_),(_,_),(_,_)]) rfl ?_
       exact hl72 _ (Option.some.inj h).symm
     ·intro u75 h hl76 hr77
      refine cond_some h (fun hg5_2 h => ?_) (fun hg5_2 h => ?_)
      ·refine zg hn [_,_,_,_,_,_,(15,.v (.int .u8 v4)),(16,vb (decide (65 ≤ v4))),(17,vb true),(18,.v (.int .u8 v4)),(19,vb (decide (v4 ≤ 90))),(20,vb (decide (v4 ≤ 90)))] [0,1,2,3,4,5] [0,1,2,3,4,5,11] [zq [5] 6 15,zq [6] 7 16,zq [7] 8 17,zq [8,5] 9 18,zq [8,9] 10 19,zq [8,10] 11 20] [(_,_),(_,_),(_,_),(_,_),(_,_),(_,_),(_,_)] rfl ⟨z1 rfl,z4 rfl rfl,z8 hg5_2 rfl,zr' rfl (oM rfl),zr' rfl (oB rfl rfl),z3 true rfl,zz⟩ ?_
       exact hl76 _ (Option.some.inj h).symm
      ·refine zg hn [_,_,_,_,_,_,(15,.v (.int .u8 v4)),(16,vb (decide (65 ≤ v4))),(17,vb false),(18,.v undef),(19,.v undef),(20,vb false)] [0,1,2,3,4,5] [0,1,2,3,4,5,11] [zq [5] 6 15,zq [6] 7 16,zq [7] 8 17,zq [8] 9 18,zq [8] 10 19,zq [8] 11 20] [(_,_),(_,_),(_,_),(_,_),(_,_),(_,_),(_,_)] rfl ⟨z1 rfl,z4 rfl rfl,z8 hg5_2 rfl,zt rfl,zt rfl,z3 false rfl,zz⟩ ?_
       exact hl76 _ (Option.some.inj h).symm
   ·have h := cond_f hb64 h
    refine ht_exit ?_
    refine pt_x_then ?_
    refine pt_x_then ?_
    refine pt_x_in ?_
    refine pt_pick [0] (by kernel_rfl) (es' := [(_,_)]) rfl ?_
    exact hl59 _ (ho61 _ (Option.some.inj h).symm).symm
theorem ok_verb_kindOf (line : ByteArray) (r : Int) (h : Sh.verb_kindOf line = some r) : FnOK Tryz.prog 19 [.v (.string line)] (.v (.int .i64 r)) := by
  unfold Sh.verb_kindOf at h
  refine fn_ok func19 rfl (zl rfl) rfl rfl fun g0 hn hio => ?_
  refine zgg hn [_,(2,vi 0)] [0] [0] [zq [] 1 2] [(_,_)] rfl ⟨z2 rfl,zz⟩ ?_
  refine ht_seq ?_
  obtain ⟨v1, hv1, h⟩ := bind_some h
  refine zg hn [_,(7,vs line),(8,.tup [vs v1.1,vs v1.2.1,vb v1.2.2]),(6,.tup [vs v1.1,vs v1.2.1,vb v1.2.2]),(9,vs v1.1),(10,vs v1.2.1),(11,vb v1.2.2),(3,vs v1.1),(4,vs v1.2.1),(5,vb v1.2.2)] [0] [7] [zq [0] 1 7,zq [1] 2 8,⟨[],[2],[3],[(.slot 6)]⟩,zq [3] 4 9,zq [3] 5 10,zq [3] 6 11,zq [4] 7 3,zq [5] 8 4,zq [6] 9 5] [(_,_)] rfl ⟨z1 rfl,zp rfl (op_call _ _ 33 _ _ rfl call33 rfl (ok_strings_Cut line (⟨#[32]⟩ : ByteArray) _ hv1) rfl rfl),zp rfl (op_move_take _ _ _ _ rfl),zp rfl (oE rfl),zp rfl (oE rfl),zp rfl (oE rfl),z2 rfl,z2 rfl,z2 rfl,zz⟩ ?_
  refine pt_then (ht_seq ?_)
  refine ht_seq ?_
  obtain ⟨v2, hv2, h⟩ := bind_some h
  refine zg hn [_,(12,vs v1.1),(13,vs v2)] [0] [2] [zq [0] 1 12,zq [1] 2 13] [(_,_)] rfl ⟨z1 rfl,zp rfl (op_call _ _ 34 _ _ rfl call34 rfl (ok_path_Fold v1.1 _ hv2) rfl rfl),zz⟩ ?_
  refine pt_then ?_
  refine ht_block ?_
  refine ht_seq ?_
  refine ht_joinS h (fun (s4 : Bool) => [(13, .v (.string v2)), (14, .v (.bool s4))]) ?_ ?_
  ·rintro s4 h
   refine pt_then ?_
   refine ht_cond _ rfl (fun hb9 => ?_) (fun hb9 => ?_)
   ·have h := cond_t hb9 h
    refine zgg hn [_,_,(2,vi 1)] [0,1] [2] [zq [] 2 2] [(_,_)] rfl ⟨z2 rfl,zz⟩ ?_
    refine ht_ret ?_
    refine pt_r_in ?_
    refine pt_r_then ?_
    obtain rfl := Option.some.inj h
    exact pt_ret hio rfl (.tmp _ _ .nil) rfl rfl
   ·have h := cond_f hb9 h
    refine zgg hn [_,_,(18,vb (v2.toList == (⟨#[109,97,105,108]⟩ : ByteArray).toList)),(17,vb (v2.toList == (⟨#[109,97,105,108]⟩ : ByteArray).toList))] [0,1] [0,3] [zq [0] 2 18,zq [2] 3 17] [(_,_),(_,_)] rfl ⟨z4 rfl rfl,z2 rfl,zz⟩ ?_
    refine ht_cond _ rfl (fun hb10 => ?_) (fun hb10 => ?_)
    ·have h := cond_t hb10 h
     refine zgg hn [_,_,(2,vi 2)] [0,1] [2] [zq [] 2 2] [(_,_)] rfl ⟨z2 rfl,zz⟩ ?_
     refine ht_ret ?_
     refine pt_r_in ?_
     refine pt_r_then ?_
     obtain rfl := Option.some.inj h
     exact pt_ret hio rfl (.tmp _ _ .nil) rfl rfl
    ·have h := cond_f hb10 h
     refine zgg hn [_,_,(20,vb (v2.toList == (⟨#[114,99,112,116]⟩ : ByteArray).toList)),(19,vb (v2.toList == (⟨#[114,99,112,116]⟩ : ByteArray).toList))] [0,1] [0,3] [zq [0] 2 20,zq [2] 3 19] [(_,_),(_,_)] rfl ⟨z4 rfl rfl,z2 rfl,zz⟩ ?_
     refine ht_cond _ rfl (fun hb11 => ?_) (fun hb11 => ?_)
     ·have h := cond_t hb11 h
      refine zgg hn [_,_,(2,vi 3)] [0,1] [2] [zq [] 2 2] [(_,_)] rfl ⟨z2 rfl,zz⟩ ?_
      refine ht_ret ?_
      refine pt_r_in ?_
      refine pt_r_then ?_
      obtain rfl := Option.some.inj h
      exact pt_ret hio rfl (.tmp _ _ .nil) rfl rfl
     ·have h := cond_f hb11 h
      refine zgg hn [_,_,(22,vb (v2.toList == (⟨#[100,97,116,97]⟩ : ByteArray).toList)),(21,vb (v2.toList == (⟨#[100,97,116,97]⟩ : ByteArray).toList))] [0,1] [0,3] [zq [0] 2 22,zq [2] 3 21] [(_,_),(_,_)] rfl ⟨z4 rfl rfl,z2 rfl,zz⟩ ?_
      refine ht_cond _ rfl (fun hb12 => ?_) (fun hb12 => ?_)
      ·have h := cond_t hb12 h
       refine zgg hn [_,_,(2,vi 4)] [0,1] [2] [zq [] 2 2] [(_,_)] rfl ⟨z2 rfl,zz⟩ ?_
       refine ht_ret ?_
       refine pt_r_in ?_
       refine pt_r_then ?_
       obtain rfl := Option.some.inj h
       exact pt_ret hio rfl (.tmp _ _ .nil) rfl rfl
      ·have h := cond_f hb12 h
       refine zgg hn [_,_,(24,vb (v2.toList == (⟨#[114,115,101,116]⟩ : ByteArray).toList)),(23,vb (v2.toList == (⟨#[114,115,101,116]⟩ : ByteArray).toList))] [0,1] [0,3] [zq [0] 2 24,zq [2] 3 23] [(_,_),(_,_)] rfl ⟨z4 rfl rfl,z2 rfl,zz⟩ ?_
       refine ht_cond _ rfl (fun hb13 => ?_) (fun hb13 => ?_)
       ·have h := cond_t hb13 h
        refine zgg hn [_,_,(2,vi 5)] [0,1] [2] [zq [] 2 2] [(_,_)] rfl ⟨z2 rfl,zz⟩ ?_
        refine ht_ret ?_
        refine pt_r_in ?_
        refine pt_r_then ?_
        obtain rfl := Option.some.inj h
        exact pt_ret hio rfl (.tmp _ _ .nil) rfl rfl
       ·have h := cond_f hb13 h
        refine zgg hn [_,_,(26,vb (v2.toList == (⟨#[113,117,105,116]⟩ : ByteArray).toList)),(25,vb (v2.toList == (⟨#[113,117,105,116]⟩ : ByteArray).toList))] [0,1] [0,3] [zq [0] 2 26,zq [2] 3 25] [(_,_),(_,_)] rfl ⟨z4 rfl rfl,z2 rfl,zz⟩ ?_
        refine ht_cond _ rfl (fun hb14 => ?_) (fun hb14 => ?_)
        ·have h := cond_t hb14 h
         refine zgg hn [_,_,(2,vi 8)] [0,1] [2] [zq [] 2 2] [(_,_)] rfl ⟨z2 rfl,zz⟩ ?_
         refine ht_ret ?_
         refine pt_r_in ?_
         refine pt_r_then ?_
         obtain rfl := Option.some.inj h
         exact pt_ret hio rfl (.tmp _ _ .nil) rfl rfl
        ·have h := cond_f hb14 h
         refine zgg hn [_,_,(28,vb (v2.toList == (⟨#[110,111,111,112]⟩ : ByteArray).toList)),(27,vb (v2.toList == (⟨#[110,111,111,112]⟩ : ByteArray).toList))] [0,1] [0,3] [zq [0] 2 28,zq [2] 3 27] [(_,_),(_,_)] rfl ⟨z4 rfl rfl,z2 rfl,zz⟩ ?_
         refine ht_cond _ rfl (fun hb15 => ?_) (fun hb15 => ?_)
         ·have h := cond_t hb15 h
          refine zgg hn [_,_,(2,vi 7)] [0,1] [2] [zq [] 2 2] [(_,_)] rfl ⟨z2 rfl,zz⟩ ?_
          refine ht_ret ?_
          refine pt_r_in ?_
          refine pt_r_then ?_
          obtain rfl := Option.some.inj h
          exact pt_ret hio rfl (.tmp _ _ .nil) rfl rfl
         ·have h := cond_f hb15 h
          refine zgg hn [_,_,(30,vb (v2.toList == (⟨#[118,114,102,121]⟩ : ByteArray).toList)),(29,vb (v2.toList == (⟨#[118,114,102,121]⟩ : ByteArray).toList))] [0,1] [0,3] [zq [0] 2 30,zq [2] 3 29] [(_,_),(_,_)] rfl ⟨z4 rfl rfl,z2 rfl,zz⟩ ?_
          refine ht_cond _ rfl (fun hb16 => ?_) (fun hb16 => ?_)
          ·have h := cond_t hb16 h
           refine zgg hn [_,_,(2,vi 6)] [0,1] [2] [zq [] 2 2] [(_,_)] rfl ⟨z2 rfl,zz⟩ ?_
           refine ht_ret ?_
           refine pt_r_in ?_
           refine pt_r_then ?_
           obtain rfl := Option.some.inj h
           exact pt_ret hio rfl (.tmp _ _ .nil) rfl rfl
          ·have h := cond_f hb16 h
           refine zgg hn [_,_,(32,vb (v2.toList == (⟨#[101,116,114,110]⟩ : ByteArray).toList)),(31,vb (v2.toList == (⟨#[101,116,114,110]⟩ : ByteArray).toList))] [0,1] [0,3] [zq [0] 2 32,zq [2] 3 31] [(_,_),(_,_)] rfl ⟨z4 rfl rfl,z2 rfl,zz⟩ ?_
           refine ht_cond _ rfl (fun hb17 => ?_) (fun hb17 => ?_)
           ·have h := cond_t hb17 h
            refine zgg hn [_,_,(2,vi 9)] [0,1] [2] [zq [] 2 2] [(_,_)] rfl ⟨z2 rfl,zz⟩ ?_
            refine ht_ret ?_
            refine pt_r_in ?_
            refine pt_r_then ?_
            obtain rfl := Option.some.inj h
            exact pt_ret hio rfl (.tmp _ _ .nil) rfl rfl
           ·have h := cond_f hb17 h
            refine zgg hn [_,_,(34,vb (v2.toList == (⟨#[97,117,116,104]⟩ : ByteArray).toList)),(33,vb (v2.toList == (⟨#[97,117,116,104]⟩ : ByteArray).toList))] [0,1] [0,3] [zq [0] 2 34,zq [2] 3 33] [(_,_),(_,_)] rfl ⟨z4 rfl rfl,z2 rfl,zz⟩ ?_
            refine ht_cond _ rfl (fun hb18 => ?_) (fun hb18 => ?_)
            ·have h := cond_t hb18 h
             refine zgg hn [_,_,(2,vi 10)] [0,1] [2] [zq [] 2 2] [(_,_)] rfl ⟨z2 rfl,zz⟩ ?_
             refine ht_ret ?_
             refine pt_r_in ?_
             refine pt_r_then ?_
             obtain rfl := Option.some.inj h
             exact pt_ret hio rfl (.tmp _ _ .nil) rfl rfl
            ·have h := cond_f hb18 h
             refine zgg hn [_,_,(36,vb (v2.toList == (⟨#[97,116,114,110]⟩ : ByteArray).toList)),(35,vb (v2.toList == (⟨#[97,116,114,110]⟩ : ByteArray).toList))] [0,1] [3] [zq [0] 2 36,zq [2] 3 35] [(_,_)] rfl ⟨z4 rfl rfl,z2 rfl,zz⟩ ?_
             refine ht_cond _ rfl (fun hb19 => ?_) (fun hb19 => ?_)
             ·have h := cond_t hb19 h
              refine zgg hn [_,(2,vi 11)] [0] [1] [zq [] 1 2] [(_,_)] rfl ⟨z2 rfl,zz⟩ ?_
              refine ht_ret ?_
              refine pt_r_in ?_
              refine pt_r_then ?_
              obtain rfl := Option.some.inj h
              exact pt_ret hio rfl (.tmp _ _ .nil) rfl rfl
             ·have h := cond_f hb19 h
              refine ht_skip ?_
              refine pt_inb ?_
              refine pt_then ?_
              refine zgg hn [_,(2,vi 0)] [0] [1] [zq [] 1 2] [(_,_)] rfl ⟨z2 rfl,zz⟩ ?_
              refine ht_ret ?_
              obtain rfl := Option.some.inj h
              exact pt_ret hio rfl (.tmp _ _ .nil) rfl rfl
  ·intro u5 h hl6 hr7
   refine zgg hn [_,(15,vb (v2.toList == (⟨#[101,104,108,111]⟩ : ByteArray).toList)),(14,vb (v2.toList == (⟨#[101,104,108,111]⟩ : ByteArray).toList))] [0] [0,2] [zq [0] 1 15,zq [1] 2 14] [(_,_),(_,_)] rfl ⟨z4 rfl rfl,z2 rfl,zz⟩ ?_
   refine ht_cond _ rfl (fun hb8 => ?_) (fun hb8 => ?_)
   ·have h := cond_t hb8 h
    refine ht_skip ?_
    exact hl6 _ (Option.some.inj h).symm
   ·have h := cond_f hb8 h
    refine zg hn [_,_,(16,vb (v2.toList == (⟨#[104,101,108,111]⟩ : ByteArray).toList)),(14,vb (v2.toList == (⟨#[104,101,108,111]⟩ : ByteArray).toList))] [0,1] [0,3] [zq [0] 2 16,⟨[2],[1],[3],[(.slot 14)]⟩] [(_,_),(_,_)] rfl ⟨z4 rfl rfl,zp rfl (LOp.drop [_] (op_assign _ _ _ _ rfl rfl)),zz⟩ ?_
    exact hl6 _ (Option.some.inj h).symm
theorem ok_verb_equalFold (a : ByteArray) (b : ByteArray) (r : Bool) (h : Sh.verb_equalFold a b = some r) : FnOK Tryz.prog 36 [.v (.string a), .v (.string b)] (.v (.bool r)) := by
  unfold Sh.verb_equalFold at h
  refine fn_ok func36 rfl (zl rfl) rfl rfl fun g0 hn hio => ?_
  refine zgg hn [_,_,(4,vb false)] [0,1] [0,1] [zq [] 2 4] [(_,_),(_,_)] rfl ⟨z2 rfl,zz⟩ ?_
  refine ht_seq ?_
  obtain ⟨v1, hv1, h⟩ := bind_some h
  obtain ⟨v2, hv2, h⟩ := bind_some h
  refine zg hn [_,_,(5,vs a),(6,vs v1),(7,vs b),(8,vs v2),(9,vb (v1.toList == v2.toList)),(4,vb (v1.toList == v2.toList))] [0,1] [7] [zq [0] 2 5,zq [2] 3 6,zq [1] 4 7,zq [4] 5 8,zq [3,5] 6 9,zq [6] 7 4] [(_,_)] rfl ⟨z1 rfl,zp rfl (op_call _ _ 34 _ _ rfl call34 rfl (ok_path_Fold a _ hv1) rfl rfl),z1 rfl,zp rfl (op_call _ _ 34 _ _ rfl call34 rfl (ok_path_Fold b _ hv2) rfl rfl),z4 rfl rfl,z2 rfl,zz⟩ ?_
  refine pt_then (ht_ret ?_)
  obtain rfl := Option.some.inj h
  exact pt_ret hio rfl (.tmp _ _ .nil) rfl rfl
theorem ok_verb_cutFold (s : ByteArray) (prefix_ : ByteArray) (r : (ByteArray × Bool)) (h : Sh.verb_cutFold s prefix_ = some r) : FnOK Tryz.prog 35 [.v (.string s), .v (.string prefix_)] (.tup [.v (.string r.1), .v (.bool r.2)]) := by
  unfold Sh.verb_cutFold at h
  refine fn_ok func35 rfl (zl rfl) rfl rfl fun g0 hn hio => ?_
  refine zgg hn [_,_,(4,vs z0),(5,vb false)] [0,1] [0,1] [zq [] 2 4,zq [] 3 5] [(_,_),(_,_)] rfl ⟨z2 rfl,z2 rfl,zz⟩ ?_
  refine ht_seq ?_
  refine ht_seq ?_
  refine ht_joinS h (fun (s3 : Bool) => [(0, .v (.string s)), (1, .v (.string prefix_)), (19, .v (.bool s3))]) ?_ ?_
  ·rintro s3 h
   refine pt_then ?_
   refine ht_cond _ rfl (fun hb7 => ?_) (fun hb7 => ?_)
   ·have h := cond_t hb7 h
    refine zgg hn [_,_,_,(4,vs z0),(5,vb false)] [0,1,2] [3,4] [zq [] 3 4,zq [] 4 5] [(_,_),(_,_)] rfl ⟨z2 rfl,z2 rfl,zz⟩ ?_
    refine ht_ret ?_
    refine pt_r_then ?_
    obtain rfl := Option.some.inj h
    exact pt_ret hio rfl (.tmp _ _ (.tmp _ _ .nil)) rfl rfl
   ·have h := cond_f hb7 h
    refine ht_skip ?_
    refine pt_then (ht_seq ?_)
    obtain ⟨v8, hv8, h⟩ := bind_some h
    refine zg hn [_,_,_,(20,vs s),(21,vs prefix_),(22,vi (prefix_.size : Int)),(23,vs v8),(4,vs v8),(5,vb true)] [0,1,2] [7,8] [zq [0] 3 20,zq [1] 4 21,zq [4] 5 22,zq [3,5] 6 23,zq [6] 7 4,zq [] 8 5] [(_,_),(_,_)] rfl ⟨z1 rfl,z1 rfl,zp rfl (oN underlying9 rfl),zp rfl (op_substr _ _ _ (prefix_.size : Int) (s.size : Int) _ underlying9 rfl ⟨_, rfl⟩ rfl hv8),z2 rfl,z2 rfl,zz⟩ ?_
    refine pt_then (ht_ret ?_)
    obtain rfl := Option.some.inj h
    exact pt_ret hio rfl (.tmp _ _ (.tmp _ _ .nil)) rfl rfl
  ·intro u4 h hl5 hr6
   refine cond_some h (fun hg1_5 h => ?_) (fun hg1_5 h => ?_)
   ·refine zg hn (_::_::(6,vs s)::(7,vi (s.size : Int))::(8,vs prefix_)::(9,vi (prefix_.size : Int))::(10,vb (decide ((s.size : Int) < (prefix_.size : Int))))::(11,vb true)::(12,.v undef)::(13,.v undef)::(14,.v undef)::(15,.v undef)::(16,.v undef)::(17,.v undef)::(18,.v undef)::(19,vb true)::[]) [0,1] [0,1,15] [zq [0] 2 6,zq [2] 3 7,zq [1] 4 8,zq [4] 5 9,zq [3,5] 6 10,zq [6] 7 11,zq [7] 8 12,zq [7] 9 13,zq [7] 10 14,zq [7] 11 15,zq [7] 12 16,zq [7] 13 17,zq [7] 14 18,zq [7] 15 19] [(_,_),(_,_),(_,_)] rfl ⟨z1 rfl,zp rfl (oN underlying9 rfl),z1 rfl,zp rfl (oN underlying9 rfl),z4 rfl rfl,z8 hg1_5 rfl,zf rfl,zf rfl,zf rfl,zf rfl,zf rfl,zf rfl,zf rfl,z3 true rfl,zz⟩ ?_
    exact hl5 _ (Option.some.inj h).symm
   ·obtain ⟨v1, hv1, h⟩ := bind_some h
    obtain ⟨v2, hv2, h⟩ := bind_some h
    refine zg hn (_::_::(6,vs s)::(7,vi (s.size : Int))::(8,vs prefix_)::(9,vi (prefix_.size : Int))::(10,vb (decide ((s.size : Int) < (prefix_.size : Int))))::(11,vb false)::(12,vs s)::(13,vs prefix_)::(14,vi (prefix_.size : Int))::(15,vs v1)::(16,vs prefix_)::(17,vb v2)::(18,vb (!v2))::(19,vb (!v2))::[]) [0,1] [0,1,15] [zq [0] 2 6,zq [2] 3 7,zq [1] 4 8,zq [4] 5 9,zq [3,5] 6 10,zq [6] 7 11,zq [7,0] 8 12,zq [7,1] 9 13,zq [7,9] 10 14,zq [7,8,10] 11 15,zq [7,1] 12 16,zq [7,11,12] 13 17,zq [7,13] 14 18,zq [7,14] 15 19] [(_,_),(_,_),(_,_)] rfl ⟨z1 rfl,zp rfl (oN underlying9 rfl),z1 rfl,zp rfl (oN underlying9 rfl),z4 rfl rfl,z8 hg1_5 rfl,zr' rfl (oM rfl),zr' rfl (oM rfl),zr' rfl (oN underlying9 rfl),zr' rfl (op_substr _ _ _ 0 (prefix_.size : Int) _ underlying9 rfl rfl ⟨_, rfl⟩ hv1),zr' rfl (oM rfl),zr' rfl (op_call _ _ 36 _ _ rfl call36 rfl (ok_verb_equalFold v1 prefix_ _ hv2) rfl rfl),zr' rfl (op_un _ _ _ _ rfl rfl),z3 false rfl,zz⟩ ?_
    exact hl5 _ (Option.some.inj h).symm
theorem ok_strings_splitSeq (s : ByteArray) (sep : ByteArray) (sepSave : Int) (r : (ByteArray × ByteArray × Int)) (h : Sh.strings_splitSeq s sep sepSave = some r) : FnOK Tryz.prog 77 [.v (.string s), .v (.string sep), .v (.int .i64 sepSave)] (.cloB 86 [.box 9 [.v (.string r.1)], .box 9 [.v (.string r.2.1)], .box 3 [.v (.int .i64 r.2.2)]]) := by
  unfold Sh.strings_splitSeq at h
  refine fn_ok func77 rfl (zl rfl) rfl rfl fun g0 hn hio => ?_
  refine zgg hn [_,_,_,(3,.box 9 [vs s]),(4,.box 9 [vs sep]),(5,.box 3 [vi sepSave]),(6,.v (.nilFunc))] [0,1,2] [3,4,5] [zq [0] 3 3,zq [1] 4 4,zq [2] 5 5,zq [] 6 6] [(_,_),(_,_),(_,_)] rfl ⟨zp rfl (op_box _ _ _ _ rfl rfl rfl),zp rfl (op_box _ _ _ _ rfl rfl rfl),zp rfl (op_box _ _ _ _ rfl rfl rfl),z2 rfl,zz⟩ ?_
  refine zgg hn [_,_,_,(7,.cloB 86 [.box 9 [vs sep],.box 9 [vs s],.box 3 [vi sepSave]]),(6,.cloB 86 [.box 9 [vs sep],.box 9 [vs s],.box 3 [vi sepSave]])] [0,1,2] [4] [⟨[],[1,0,2],[3],[(.slot 7)]⟩,⟨[],[3],[4],[(.slot 6)]⟩] [(_,_)] rfl ⟨zp rfl (op_mkclo _ _ [4, 3, 5] [.box 9 [.v (.string sep)], .box 9 [.v (.string s)], .box 3 [.v (.int .i64 sepSave)]] rfl rfl rfl),zp rfl (op_assign_take _ _ _ _ rfl),zz⟩ ?_
  refine ht_ret ?_
  obtain rfl := Option.some.inj h
  exact pt_ret hio rfl (.tmp _ _ .nil) rfl rfl
theorem ok_strings_SplitSeq (s : ByteArray) (sep : ByteArray) (r : (ByteArray × ByteArray × Int)) (h : Sh.strings_SplitSeq s sep = some r) : FnOK Tryz.prog 61 [.v (.string s), .v (.string sep)] (.cloB 86 [.box 9 [.v (.string r.1)], .box 9 [.v (.string r.2.1)], .box 3 [.v (.int .i64 r.2.2)]]) := by
  unfold Sh.strings_SplitSeq at h
  refine fn_ok func61 rfl (zl rfl) rfl rfl fun g0 hn hio => ?_
  refine zgg hn [_,_,(4,.v (.nilFunc))] [0,1] [0,1] [zq [] 2 4] [(_,_),(_,_)] rfl ⟨z2 rfl,zz⟩ ?_
  refine ht_seq ?_
  obtain ⟨v1, hv1, h⟩ := bind_some h
  refine zg hn [_,_,(5,vs s),(6,vs sep),(7,.cloB 86 [.box 9 [vs v1.1],.box 9 [vs v1.2.1],.box 3 [vi v1.2.2]]),(4,.cloB 86 [.box 9 [vs v1.1],.box 9 [vs v1.2.1],.box 3 [vi v1.2.2]])] [0,1] [5] [zq [0] 2 5,zq [1] 3 6,zq [2,3] 4 7,⟨[],[4],[5],[(.slot 4)]⟩] [(_,_)] rfl ⟨z1 rfl,z1 rfl,zp rfl (op_callS _ _ 77 _ _ rfl call77 rfl rfl (ok_strings_splitSeq s sep 0 _ hv1) rfl),zp rfl (op_assign_take _ _ _ _ rfl),zz⟩ ?_
  refine pt_then (ht_ret ?_)
  obtain rfl := Option.some.inj h
  exact pt_ret hio rfl (.tmp _ _ .nil) rfl rfl
theorem ok_unicode_utf8_decodeRuneInStringSlow (mx : Int) (s : ByteArray) (r : (Int × Int)) (h : Sh.unicode_utf8_decodeRuneInStringSlow s = some r) : FnG Tryz.prog (GL mx) 93 [.v (.string s)] (.tup [.v (.int .i32 r.1), .v (.int .i64 r.2)]) := by
  unfold Sh.unicode_utf8_decodeRuneInStringSlow at h
  refine fn_okG func93 rfl (zl rfl) rfl rfl fun g0 hn hio => ?_
  refine zgg hn [_,_,(2,.v (.int .i32 0)),(3,vi 0)] [0,1] [0,1] [zq [] 2 2,zq [] 3 3] [(_,_),(_,_)] rfl ⟨z2 rfl,z2 rfl,zz⟩ ?_
  refine zgg hn [_,_,(13,vs s),(14,vi (s.size : Int)),(4,vi (s.size : Int))] [0,1] [0,1,4] [zq [0] 2 13,zq [2] 3 14,zq [3] 4 4] [(_,_),(_,_),(_,_)] rfl ⟨z1 rfl,zp rfl (oN underlying9 rfl),z2 rfl,zz⟩ ?_
  refine ht_seq ?_
  refine zgg hn [_,_,_,(15,vi (s.size : Int)),(16,vb (decide ((s.size : Int) < 1)))] [0,1,2] [0,1,2,4] [zq [2] 3 15,zq [3] 4 16] [(_,_),(_,_),(_,_),(_,_)] rfl ⟨z1 rfl,z4 rfl rfl,zz⟩ ?_
  refine ht_cond _ rfl (fun hb1 => ?_) (fun hb1 => ?_)
  ·have h := cond_t hb1 h
   refine zgg hn [_,_,_,_,(2,.v (.int .i32 65533)),(3,vi 0)] [0,1,2,3] [1,4,5] [zq [] 4 2,zq [] 5 3] [(_,_),(_,_),(_,_)] rfl ⟨z2 rfl,z2 rfl,zz⟩ ?_
   refine ht_ret ?_
   refine pt_pick [1, 2] (by kernel_rfl) (es' := [(_,_),(_,_)]) rfl ?_
   refine pt_r_then ?_
   obtain rfl := Option.some.inj h
   exact pt_ret hio rfl (.tmp _ _ (.tmp _ _ .nil)) rfl rfl
  ·have h := cond_f hb1 h
   refine ht_skip ?_
   refine pt_then (ht_seq ?_)
   obtain ⟨v2, hv2, h⟩ := bind_some h
   refine zg hn [_,_,_,_,(17,vs s),(18,.v (.int .u8 v2)),(5,.v (.int .u8 v2))] [0,1,2,3] [0,1,2,6] [zq [0] 4 17,zq [4] 5 18,zq [5] 6 5] [(_,_),(_,_),(_,_),(_,_)] rfl ⟨z1 rfl,zp rfl (op_chr _ _ _ 0 _ underlying9 rfl rfl hv2),z2 rfl,zz⟩ ?_
   refine pt_then (ht_seq ?_)
   obtain ⟨v3, hv3, h⟩ := bind_some h
   obtain ⟨v4, hv4, h⟩ := bind_some h
   refine zg hn [_,_,_,_,(19,.v (.int .u8 v2)),(20,.v (.pointer (some ⟨1,(0 + v3 * 1),none⟩))),(21,.v (.int .u8 v4)),(6,.v (.int .u8 v4))] [0,1,2,3] [0,1,2,3,7] [zq [3] 4 19,zq [4] 5 20,zq [5,1] 6 21,zq [6] 7 6] [(_,_),(_,_),(_,_),(_,_),(_,_)] rfl ⟨z1 rfl,zp rfl (op_ix_globz _ _ _ _ 256 1 0 _ 1 _ underlying111 sz5 rfl rfl (ix_ok hv3).1 (ix_ok hv3).2),zp rfl (op_load_glob _ _ 117 1 _ _ _ underlying5 rfl rfl rfl (gl_mem1 mx) (map_get1 hv4)),z2 rfl,zz⟩ ?_
   refine pt_then (ht_seq ?_)
   refine zgg hn [_,_,_,_,_,(22,.v (.int .u8 v4)),(23,vb (decide (240 ≤ v4)))] [0,1,2,3,4] [0,1,2,3,4,6] [zq [4] 5 22,zq [5] 6 23] [(_,_),(_,_),(_,_),(_,_),(_,_),(_,_)] rfl ⟨z1 rfl,z4 rfl rfl,zz⟩ ?_
   refine ht_cond _ rfl (fun hb5 => ?_) (fun hb5 => ?_)
   ·have h := cond_t hb5 h
    refine ht_seq ?_
    obtain ⟨v6, hv6, h⟩ := bind_some h
    obtain ⟨v7, hv7, h⟩ := bind_some h
    obtain ⟨v8, hv8, h⟩ := bind_some h
    refine zg hn [_,_,_,_,_,_,(24,.v (.int .u8 v4)),(25,.v (.int .i32 v6)),(26,.v (.int .i32 v7)),(27,.v (.int .i32 v8)),(7,.v (.int .i32 v8))] [0,1,2,3,4,5] [0,1,10] [zq [4] 6 24,zq [6] 7 25,zq [7] 8 26,zq [8] 9 27,zq [9] 10 7] [(_,_),(_,_),(_,_)] rfl ⟨z1 rfl,zp rfl ((Option.some.inj hv6) ▸ op_conv _ _ _ underlying5 underlying21 rfl),zp rfl (oB rfl (shl_ok hv7)),zp rfl (oB rfl (shr_ok hv8)),z2 rfl,zz⟩ ?_
    refine pt_then (ht_seq ?_)
    obtain ⟨v9, hv9, h⟩ := bind_some h
    obtain ⟨v10, hv10, h⟩ := bind_some h
    obtain ⟨v11, hv11, h⟩ := bind_some h
    obtain ⟨v12, hv12, h⟩ := bind_some h
    obtain ⟨v13, hv13, h⟩ := bind_some h
    refine zg hn [_,_,_,(28,vs s),(29,.v (.int .u8 v9)),(30,.v (.int .i32 v10)),(31,.v (.int .i32 v8)),(32,.v (.int .i32 v11)),(33,.v (.int .i32 v8)),(34,.v (.int .i32 v12)),(35,.v (.int .i32 v13)),(2,.v (.int .i32 v13)),(3,vi 1)] [0,1,2] [1,11,12] [zq [0] 3 28,zq [3] 4 29,zq [4] 5 30,zq [2] 6 31,zq [5,6] 7 32,zq [2] 8 33,zq [8] 9 34,zq [7,9] 10 35,zq [10] 11 2,zq [] 12 3] [(_,_),(_,_),(_,_)] rfl ⟨z1 rfl,zp rfl (op_chr _ _ _ 0 _ underlying9 rfl rfl hv9),zp rfl ((Option.some.inj hv10) ▸ op_conv _ _ _ underlying5 underlying21 rfl),z1 rfl,zp rfl (oB rfl (ibind (f := Value.int .i32) (Option.some.inj hv11))),z1 rfl,zp rfl (oB rfl (ibind (f := Value.int .i32) (Option.some.inj hv12))),zp rfl (oB rfl (ibind (f := Value.int .i32) (Option.some.inj hv13))),z2 rfl,z2 rfl,zz⟩ ?_
    refine pt_then (ht_ret ?_)
    refine pt_pick [1, 2] (by kernel_rfl) (es' := [(_,_),(_,_)]) rfl ?_
    refine pt_r_then ?_
    obtain rfl := Option.some.inj h
    exact pt_ret hio rfl (.tmp _ _ (.tmp _ _ .nil)) rfl rfl
   ·have h := cond_f hb5 h
    cases h
theorem ok_unicode_utf8_DecodeRuneInString (mx : Int) (s : ByteArray) (r : (Int × Int)) (h : Sh.unicode_utf8_DecodeRuneInString s = some r) : FnG Tryz.prog (GL mx) 87 [.v (.string s)] (.tup [.v (.int .i32 r.1), .v (.int .i64 r.2)]) := by
  unfold Sh.unicode_utf8_DecodeRuneInString at h
  refine fn_okG func87 rfl (zl rfl) rfl rfl fun g0 hn hio => ?_
  refine zgg hn [_,_,(2,.v (.int .i32 0)),(3,vi 0)] [0,1] [0,1] [zq [] 2 2,zq [] 3 3] [(_,_),(_,_)] rfl ⟨z2 rfl,z2 rfl,zz⟩ ?_
  refine ht_seq ?_
  refine ht_seq ?_
  refine ht_joinS h (fun (s2 : Bool) => [(0, .v (.string s)), (19, .glob (GL mx)), (10, .v (.bool s2))]) ?_ ?_
  ·rintro s2 h
   refine pt_then ?_
   refine ht_cond _ rfl (fun hb6 => ?_) (fun hb6 => ?_)
   ·have h := cond_t hb6 h
    refine ht_seq ?_
    obtain ⟨v7, hv7, h⟩ := bind_some h
    obtain ⟨v8, hv8, h⟩ := bind_some h
    refine zg hn [_,_,_,(11,vs s),(12,.v (.int .u8 v7)),(13,.v (.int .i32 v8)),(2,.v (.int .i32 v8)),(3,vi 1)] [0,1,2] [1,6,7] [zq [0] 3 11,zq [3] 4 12,zq [4] 5 13,zq [5] 6 2,zq [] 7 3] [(_,_),(_,_),(_,_)] rfl ⟨z1 rfl,zp rfl (op_chr _ _ _ 0 _ underlying9 rfl rfl hv7),zp rfl ((Option.some.inj hv8) ▸ op_conv _ _ _ underlying5 underlying21 rfl),z2 rfl,z2 rfl,zz⟩ ?_
    refine pt_then (ht_ret ?_)
    refine pt_pick [1, 2] (by kernel_rfl) (es' := [(_,_),(_,_)]) rfl ?_
    refine pt_r_then ?_
    obtain rfl := Option.some.inj h
    exact pt_ret hio rfl (.tmp _ _ (.tmp _ _ .nil)) rfl rfl
   ·have h := cond_f hb6 h
    obtain ⟨v9, hv9, h⟩ := bind_some h
    refine zg hn [_,_,_,(15,vs s),(16,.tup [.v (.int .i32 v9.1),vi v9.2]),(14,.tup [.v (.int .i32 v9.1),vi v9.2]),(17,.v (.int .i32 v9.1)),(18,vi v9.2),(2,.v (.int .i32 v9.1)),(3,vi v9.2)] [0,1,2] [1,8,9] [zq [0] 3 15,zq [3,1] 4 16,⟨[],[4],[5],[(.slot 14)]⟩,zq [5] 6 17,zq [5] 7 18,zq [6] 8 2,zq [7] 9 3] [(_,_),(_,_),(_,_)] rfl ⟨z1 rfl,zp rfl (op_callG _ _ 19 93 _ _ rfl call93 rfl rfl (fun _ h => h) (ok_unicode_utf8_decodeRuneInStringSlow mx s _ hv9) rfl rfl),zp rfl (op_move_take _ _ _ _ rfl),zp rfl (oE rfl),zp rfl (oE rfl),z2 rfl,z2 rfl,zz⟩ ?_
    refine pt_then (ht_ret ?_)
    refine pt_pick [1, 2] (by kernel_rfl) (es' := [(_,_),(_,_)]) rfl ?_
    obtain rfl := Option.some.inj h
    exact pt_ret hio rfl (.tmp _ _ (.tmp _ _ .nil)) rfl rfl
  ·intro u3 h hl4 hr5
   refine cond_some h (fun hg1_2 h => ?_) (fun hg1_2 h => ?_)
   ·obtain ⟨v1, hv1, h⟩ := bind_some h
    refine zg hn [_,_,(4,vs s),(5,vb (!(s.toList == z0.toList))),(6,vb true),(7,vs s),(8,.v (.int .u8 v1)),(9,vb (decide (v1 < 128))),(10,vb (decide (v1 < 128)))] [0,1] [0,1,8] [zq [0] 2 4,zq [2] 3 5,zq [3] 4 6,zq [4,0] 5 7,zq [4,5] 6 8,zq [4,6] 7 9,zq [4,7] 8 10] [(_,_),(_,_),(_,_)] rfl ⟨z1 rfl,z4 rfl rfl,z8 hg1_2 rfl,zr' rfl (oM rfl),zr' rfl (op_chr _ _ _ 0 _ underlying9 rfl rfl hv1),zr' rfl (oB rfl rfl),z3 true rfl,zz⟩ ?_
    exact hl4 _ (Option.some.inj h).symm
   ·refine zg hn [_,_,(4,vs s),(5,vb (!(s.toList == z0.toList))),(6,vb false),(7,.v undef),(8,.v undef),(9,.v undef),(10,vb false)] [0,1] [0,1,8] [zq [0] 2 4,zq [2] 3 5,zq [3] 4 6,zq [4] 5 7,zq [4] 6 8,zq [4] 7 9,zq [4] 8 10] [(_,_),(_,_),(_,_)] rfl ⟨z1 rfl,z4 rfl rfl,z8 hg1_2 rfl,zt rfl,zt rfl,zt rfl,z3 false rfl,zz⟩ ?_
    exact hl4 _ (Option.some.inj h).symm
theorem ok_strings_Index (s sub : ByteArray) (r : Int) (h : Sh.strings_Index s sub = some r) : FnOK Tryz.prog 53 [.v (.string s), .v (.string sub)] (.v (.int .i64 r)) := lib_strings_Index Tryz.strings_Index_one s sub r h
theorem ok_strings_splitSeq_1 (mx : Int) (l : Nat) {S : Type} (J : S → InvT) (Y : ByteArray → S → Option (S × Bool)) (hY : YieldOK Tryz.prog l (fun x => .v (.string x)) Y J) (c0 : ByteArray) (c1 : ByteArray) (c2 : Int) (st r : S) (h : Sh.strings_splitSeq_1 Y c0 c1 c2 st = some r) : FnI Tryz.prog (GL mx) 86 l [.box 9 [.v (.string c0)], .box 9 [.v (.string c1)], .box 3 [.v (.int .i64 c2)]] (J st) (J r) := by
  unfold Sh.strings_splitSeq_1 at h
  refine fn_okI func86 rfl (zl rfl) rfl fun g0 hn hio => ?_
  refine ht_seq ?_
  refine zgg hn [_,_,_,_,_,_,(9,vs c0),(10,vi (c0.size : Int)),(11,vb ((c0.size : Int) == 0))] [0,1,2,3,4,5] [0,1,2,3,4,5,8] [zq [1] 6 9,zq [6] 7 10,zq [7] 8 11] [(_,_),(_,_),(_,_),(_,_),(_,_),(_,_),(_,_)] rfl ⟨zp rfl (oL underlying9 rfl),zp rfl (oN underlying9 rfl),z4 rfl rfl,zz⟩ ?_
  refine ht_cond _ rfl (fun hb1 => ?_) (fun hb1 => ?_)
  ·have h := cond_t hb1 h
   refine ht_seq ?_
   refine ht_pick [0, 2, 4, 5] (by kernel_rfl) (es' := [(_,_),(_,_),(_,_),(_,_)]) rfl ?_
   refine ht_loopS h (fun ((s12, s13) : ByteArray × S) => [(0, .v (.func (.yield l) #[] #[])), (2, .box 9 [.v (.string s12)]), (52, .glob (GL mx)), (53, .inv (J s13))]) (fun (s16 : S) => [(52, .glob (GL mx)), (53, .inv (J s16))]) ?_ ?_
   ·rintro s16 h
    refine pt_then (ht_ret ?_)
    refine pt_pick [1] (by kernel_rfl) (es' := [(53, .inv (J s16))]) rfl ?_
    refine pt_r_then ?_
    obtain rfl := Option.some.inj h
    exact pt_retI hio rfl rfl rfl
   ·rintro u17 hl18 hr19 ⟨s12, s13⟩ rr22 h ho20
    refine ht_seq ?_
    refine zgg hn [_,_,_,_,(12,vs s12),(13,vi (s12.size : Int)),(14,vb (decide (0 < (s12.size : Int))))] [0,1,2,3] [0,1,2,3,6] [zq [1] 4 12,zq [4] 5 13,zq [5] 6 14] [(_,_),(_,_),(_,_),(_,_),(_,_)] rfl ⟨zp rfl (oL underlying9 rfl),zp rfl (oN underlying9 rfl),z4 rfl rfl,zz⟩ ?_
    refine ht_cond _ rfl (fun hb23 => ?_) (fun hb23 => ?_)
    ·have h := cond_t hb23 h
     refine ht_skip ?_
     refine pt_then ?_
     refine ht_block ?_
     refine ht_seq ?_
     obtain ⟨v3, hv3, h⟩ := bind_some h
     refine zg hn [_,_,_,_,_,(16,vs s12),(17,.tup [.v (.int .i32 v3.1),vi v3.2]),(15,.tup [.v (.int .i32 v3.1),vi v3.2]),(18,.v (.int .i32 v3.1)),(19,vi v3.2),(5,.v (.int .i32 v3.1)),(6,vi v3.2)] [0,1,2,3,4] [0,1,2,3,11] [zq [1] 5 16,zq [5,2] 6 17,⟨[],[6],[7],[(.slot 15)]⟩,zq [7] 8 18,zq [7] 9 19,zq [8] 10 5,zq [9] 11 6] [(_,_),(_,_),(_,_),(_,_),(_,_)] rfl ⟨zp rfl (oL underlying9 rfl),zp rfl (op_callG _ _ 52 87 _ _ rfl call87 rfl rfl (fun _ h => h) (ok_unicode_utf8_DecodeRuneInString mx s12 _ hv3) rfl rfl),zp rfl (op_move_take _ _ _ _ rfl),zp rfl (oE rfl),zp rfl (oE rfl),z2 rfl,z2 rfl,zz⟩ ?_
     refine pt_then (ht_seq ?_)
     refine ht_seq ?_
     obtain ⟨v4, hv4, h⟩ := bind_some h
     obtain ⟨v5, hv5, h⟩ := bind_some h
     refine zg hn [_,_,_,_,_,(20,.v (.func (.yield l) #[] #[])),(21,vs s12),(22,vi v3.2),(23,vs v4),(24,vb v5.2),(53,.inv (J v5.1)),(25,vb (!v5.2))] [0,1,2,3,4] [0,1,2,10,4,11] [zq [0] 5 20,zq [1] 6 21,zq [4] 7 22,zq [6,7] 8 23,⟨[8,5],[3],[10,9],[(.slot 24)]⟩,zq [9] 11 25] [(_,_),(_,_),(_,_),(_,_),(_,_),(_,_)] rfl ⟨z1 rfl,zp rfl (oL underlying9 rfl),z1 rfl,zp rfl (op_substr _ _ _ 0 v3.2 _ underlying9 rfl rfl ⟨_, rfl⟩ hv4),zp rfl (op_yield _ _ 53 l v4 s13 v5 hY hv5 rfl rfl rfl),zp rfl (op_un _ _ _ _ rfl rfl),zz⟩ ?_
     refine pt_then ?_
     refine ht_cond _ rfl (fun hb24 => ?_) (fun hb24 => ?_)
     ·have h := cond_t hb24 h
      refine ht_ret ?_
      refine pt_pick [3] (by kernel_rfl) (es' := [(53, .inv (J v5.1))]) rfl ?_
      refine pt_r_then ?_
      refine pt_r_in ?_
      refine pt_r_then ?_
      refine pt_r_in ?_
      refine pt_r_then ?_
      refine pt_r_then ?_
      have h := hr19 _ (ho20 _ (Option.some.inj h).symm).symm
      obtain rfl := Option.some.inj h
      exact pt_retI hio rfl rfl rfl
     ·have h := cond_f hb24 h
      refine ht_skip ?_
      refine pt_then ?_
      obtain ⟨v7, hv7, h⟩ := bind_some h
      refine zg hn [_,_,_,_,_,_,(26,vs s12),(27,vi v3.2),(28,vs v7),(2,.box 9 [vs v7])] [0,1,2,3,4,5] [0,9,2,3] [zq [1] 6 26,zq [4] 7 27,zq [6,7] 8 28,⟨[8],[1],[9],[.cell 2 0]⟩] [(_,_),(_,_),(_,_),(_,_)] rfl ⟨zp rfl (oL underlying9 rfl),z1 rfl,zp rfl (op_substr _ _ _ v3.2 (s12.size : Int) _ underlying9 rfl ⟨_, rfl⟩ rfl hv7),zp rfl (oS sz9 rfl),zz⟩ ?_
      refine pt_inb ?_
      exact pt_next _ (Option.some.inj h).symm rfl
    ·have h := cond_f hb23 h
     refine ht_exit ?_
     refine pt_x_then ?_
     refine pt_x_then ?_
     refine pt_x_in ?_
     refine pt_pick [2, 3] (by kernel_rfl) (es' := [(_,_),(_,_)]) rfl ?_
     exact hl18 _ (ho20 _ (Option.some.inj h).symm).symm
  ·have h := cond_f hb1 h
   refine ht_skip ?_
   refine pt_then (ht_seq ?_)
   refine ht_pick [0, 1, 2, 3, 4, 5] (by kernel_rfl) (es' := [(_,_),(_,_),(_,_),(_,_),(_,_),(_,_)]) rfl ?_
   refine ht_loopS h (fun ((s37, s38) : ByteArray × S) => [(0, .v (.func (.yield l) #[] #[])), (1, .box 9 [.v (.string c0)]), (2, .box 9 [.v (.string s37)]), (3, .box 3 [.v (.int .i64 c2)]), (52, .glob (GL mx)), (53, .inv (J s38))]) (fun ((s41, s42) : ByteArray × S) => [(0, .v (.func (.yield l) #[] #[])), (2, .box 9 [.v (.string s41)]), (52, .glob (GL mx)), (53, .inv (J s42))]) ?_ ?_
   ·rintro ⟨s41, s42⟩ h
    refine pt_then ?_
    obtain ⟨v51, hv51, h⟩ := bind_some h
    refine zg hn [_,_,_,_,(49,.v (.func (.yield l) #[] #[])),(50,vs s41),(51,vb v51.2),(53,.inv (J v51.1))] [0,1,2,3] [2,7] [zq [0] 4 49,zq [1] 5 50,⟨[5,4],[3],[7,6],[(.slot 51)]⟩] [(_,_),(_,_)] rfl ⟨z1 rfl,zp rfl (oL underlying9 rfl),zp rfl (op_yield _ _ 53 l s41 s42 v51 hY hv51 rfl rfl rfl),zz⟩ ?_
    refine pt_pick [1] (by kernel_rfl) (es' := [(53, .inv (J v51.1))]) rfl ?_
    obtain rfl := Option.some.inj h
    exact pt_endI hio rfl rfl rfl
   ·rintro u43 hl44 hr45 ⟨s37, s38⟩ rr48 h ho46
    refine ht_block ?_
    refine ht_seq ?_
    obtain ⟨v25, hv25, h⟩ := bind_some h
    refine zg hn [_,_,_,_,_,_,(29,vs s37),(30,vs c0),(31,vi v25),(7,vi v25)] [0,1,2,3,4,5] [0,1,2,3,4,5,9] [zq [2] 6 29,zq [1] 7 30,zq [6,7] 8 31,zq [8] 9 7] [(_,_),(_,_),(_,_),(_,_),(_,_),(_,_),(_,_)] rfl ⟨zp rfl (oL underlying9 rfl),zp rfl (oL underlying9 rfl),zp rfl (op_call _ _ 53 _ _ rfl call53 rfl (ok_strings_Index s37 c0 _ hv25) rfl rfl),z2 rfl,zz⟩ ?_
    refine pt_then (ht_seq ?_)
    refine zgg hn [_,_,_,_,_,_,_,(32,vi v25),(33,vb (decide (v25 < 0)))] [0,1,2,3,4,5,6] [0,1,2,3,4,5,6,8] [zq [6] 7 32,zq [7] 8 33] [(_,_),(_,_),(_,_),(_,_),(_,_),(_,_),(_,_),(_,_)] rfl ⟨z1 rfl,z4 rfl rfl,zz⟩ ?_
    refine ht_cond _ rfl (fun hb49 => ?_) (fun hb49 => ?_)
    ·have h := cond_t hb49 h
     refine ht_exit ?_
     refine pt_x_then ?_
     refine pt_x_out (by decide) ?_
     refine pt_x_then ?_
     refine pt_x_in ?_
     refine pt_pick [0, 2, 4, 5] (by kernel_rfl) (es' := [(_,_),(_,_),(_,_),(_,_)]) rfl ?_
     exact hl44 _ (ho46 _ (Option.some.inj h).symm).symm
    ·have h := cond_f hb49 h
     refine ht_skip ?_
     refine pt_then (ht_seq ?_)
     obtain ⟨v27, hv27, h⟩ := bind_some h
     obtain ⟨v28, hv28, h⟩ := bind_some h
     refine zg hn [_,_,_,_,_,_,_,_,(34,vs s37),(35,vi v25),(36,vi c2),(37,vi v27),(38,vs v28),(8,vs v28)] [0,1,2,3,4,5,6,7] [0,1,2,3,4,5,6,13] [zq [2] 8 34,zq [6] 9 35,zq [3] 10 36,zq [9,10] 11 37,zq [8,11] 12 38,zq [12] 13 8] [(_,_),(_,_),(_,_),(_,_),(_,_),(_,_),(_,_),(_,_)] rfl ⟨zp rfl (oL underlying9 rfl),z1 rfl,zp rfl (oL underlying3 rfl),zp rfl (oB rfl (ibind (f := Value.int .i64) (Option.some.inj hv27))),zp rfl (op_substr _ _ _ 0 v27 _ underlying9 rfl rfl ⟨_, rfl⟩ hv28),z2 rfl,zz⟩ ?_
     refine pt_then (ht_seq ?_)
     refine ht_seq ?_
     obtain ⟨v29, hv29, h⟩ := bind_some h
     refine zg hn [_,_,_,_,_,_,_,_,(39,.v (.func (.yield l) #[] #[])),(40,vs v28),(41,vb v29.2),(53,.inv (J v29.1)),(42,vb (!v29.2))] [0,1,2,3,4,5,6,7] [0,1,2,3,4,11,6,12] [zq [0] 8 39,zq [7] 9 40,⟨[9,8],[5],[11,10],[(.slot 41)]⟩,zq [10] 12 42] [(_,_),(_,_),(_,_),(_,_),(_,_),(_,_),(_,_),(_,_)] rfl ⟨z1 rfl,z1 rfl,zp rfl (op_yield _ _ 53 l v28 s38 v29 hY hv29 rfl rfl rfl),zp rfl (op_un _ _ _ _ rfl rfl),zz⟩ ?_
     refine pt_then ?_
     refine ht_cond _ rfl (fun hb50 => ?_) (fun hb50 => ?_)
     ·have h := cond_t hb50 h
      refine ht_ret ?_
      refine pt_pick [5] (by kernel_rfl) (es' := [(53, .inv (J v29.1))]) rfl ?_
      refine pt_r_then ?_
      refine pt_r_in ?_
      refine pt_r_then ?_
      refine pt_r_in ?_
      refine pt_r_then ?_
      have h := hr45 _ (ho46 _ (Option.some.inj h).symm).symm
      obtain rfl := Option.some.inj h
      exact pt_retI hio rfl rfl rfl
     ·have h := cond_f hb50 h
      refine ht_skip ?_
      refine pt_then ?_
      obtain ⟨v31, hv31, h⟩ := bind_some h
      obtain ⟨v32, hv32, h⟩ := bind_some h
      refine zg hn (_::_::_::_::_::_::_::_::(43,vs s37)::(44,vi v25)::(45,vs c0)::(46,vi (c0.size : Int))::(47,vi v31)::(48,vs v32)::(2,.box 9 [vs v32])::[]) [0,1,2,3,4,5,6,7] [0,1,14,3,4,5] [zq [2] 8 43,zq [6] 9 44,zq [1] 10 45,zq [10] 11 46,zq [9,11] 12 47,zq [8,12] 13 48,⟨[13],[2],[14],[.cell 2 0]⟩] [(_,_),(_,_),(_,_),(_,_),(_,_),(_,_)] rfl ⟨zp rfl (oL underlying9 rfl),z1 rfl,zp rfl (oL underlying9 rfl),zp rfl (oN underlying9 rfl),zp rfl (oB rfl (ibind (f := Value.int .i64) (Option.some.inj hv31))),zp rfl (op_substr _ _ _ v31 (s37.size : Int) _ underlying9 rfl ⟨_, rfl⟩ rfl hv32),zp rfl (oS sz9 rfl),zz⟩ ?_
      refine pt_inb ?_
      exact pt_next _ (Option.some.inj h).symm rfl
theorem ok_path_alphanumeric (c : Int) (r : Bool) (h : Sh.path_alphanumeric c = some r) : FnOK Tryz.prog 64 [.v (.int .u8 c)] (.v (.bool r)) := by
  unfold Sh.path_alphanumeric at h
  refine fn_ok func64 rfl (zl rfl) rfl rfl fun g0 hn hio => ?_
  refine zgg hn [_,(2,vb false)] [0] [0] [zq [] 1 2] [(_,_)] rfl ⟨z2 rfl,zz⟩ ?_
  refine ht_seq ?_
  refine ht_joinS h (fun (s1 : Bool) => [(2, .v (.bool s1))]) ?_ ?_
  ·rintro s1 h
   refine pt_then (ht_ret ?_)
   obtain rfl := Option.some.inj h
   exact pt_ret hio rfl (.tmp _ _ .nil) rfl rfl
  ·intro u2 h hl3 hr4
   refine cond_some h (fun hg1_2 h => ?_) (fun hg1_2 h => ?_)
   ·refine cond_some h (fun hg1_6 h => ?_) (fun hg1_6 h => ?_)
    ·refine zg hn (_::(3,.v (.int .u8 c))::(4,vb (decide (48 ≤ c)))::(5,vb true)::(6,.v (.int .u8 c))::(7,vb (decide (c ≤ 57)))::(8,vb (decide (c ≤ 57)))::(9,vb true)::(10,.v undef)::(11,.v undef)::(12,.v undef)::(13,.v undef)::(14,.v undef)::(15,.v undef)::(16,vb true)::(17,vb true)::(18,.v undef)::(19,.v undef)::(20,.v undef)::(21,.v undef)::(22,.v undef)::(23,.v undef)::(24,vb true)::(2,vb true)::[]) [0] [23] (zq [0] 1 3::zq [1] 2 4::zq [2] 3 5::zq [3,0] 4 6::zq [3,4] 5 7::zq [3,5] 6 8::zq [6] 7 9::zq [7] 8 10::zq [7] 9 11::zq [7] 10 12::zq [10] 11 13::zq [10] 12 14::zq [7] 13 15::zq [7] 14 16::zq [14] 15 17::zq [15] 16 18::zq [15] 17 19::zq [15] 18 20::zq [18] 19 21::zq [18] 20 22::zq [15] 21 23::zq [15] 22 24::zq [22] 23 2::[]) [(_,_)] rfl ⟨z1 rfl,z4 rfl rfl,z8 hg1_2 rfl,zr' rfl (oM rfl),zr' rfl (oB rfl rfl),z3 true rfl,z8 hg1_6 rfl,zf rfl,zf rfl,zf rfl,zu' rfl,zu' rfl,zf rfl,z3 true rfl,z1 rfl,zf rfl,zf rfl,zf rfl,zu' rfl,zu' rfl,zf rfl,z3 true rfl,z2 rfl,zz⟩ ?_
     exact hl3 _ (Option.some.inj h).symm
    ·refine cond_some h (fun hg1_9 h => ?_) (fun hg1_9 h => ?_)
     ·refine cond_some h (fun hg1_14 h => ?_) (fun hg1_14 h => ?_)
      ·refine zg hn (_::(3,.v (.int .u8 c))::(4,vb (decide (48 ≤ c)))::(5,vb true)::(6,.v (.int .u8 c))::(7,vb (decide (c ≤ 57)))::(8,vb (decide (c ≤ 57)))::(9,vb false)::(10,.v (.int .u8 c))::(11,vb (decide (65 ≤ c)))::(12,vb true)::(13,.v (.int .u8 c))::(14,vb (decide (c ≤ 90)))::(15,vb (decide (c ≤ 90)))::(16,vb (decide (c ≤ 90)))::(17,vb true)::(18,.v undef)::(19,.v undef)::(20,.v undef)::(21,.v undef)::(22,.v undef)::(23,.v undef)::(24,vb true)::(2,vb true)::[]) [0] [23] (zq [0] 1 3::zq [1] 2 4::zq [2] 3 5::zq [3,0] 4 6::zq [3,4] 5 7::zq [3,5] 6 8::zq [6] 7 9::zq [7,0] 8 10::zq [7,8] 9 11::zq [7,9] 10 12::zq [10,0] 11 13::zq [10,11] 12 14::zq [7,10,12] 13 15::zq [7,13] 14 16::zq [14] 15 17::zq [15] 16 18::zq [15] 17 19::zq [15] 18 20::zq [18] 19 21::zq [18] 20 22::zq [15] 21 23::zq [15] 22 24::zq [22] 23 2::[]) [(_,_)] rfl ⟨z1 rfl,z4 rfl rfl,z8 hg1_2 rfl,zr' rfl (oM rfl),zr' rfl (oB rfl rfl),z3 true rfl,z8 hg1_6 rfl,zr' rfl (oM rfl),zr' rfl (oB rfl rfl),zr' rfl (op_move _ _ _ _ (zb hg1_9) rfl),zr' rfl (oM rfl),zr' rfl (oB rfl rfl),zr' rfl (op_pick _ _ true _ rfl rfl),z3 false rfl,z8 hg1_14 rfl,zf rfl,zf rfl,zf rfl,zu' rfl,zu' rfl,zf rfl,z3 true rfl,z2 rfl,zz⟩ ?_
       exact hl3 _ (Option.some.inj h).symm
      ·refine cond_some h (fun hg1_17 h => ?_) (fun hg1_17 h => ?_)
       ·refine zg hn (_::(3,.v (.int .u8 c))::(4,vb (decide (48 ≤ c)))::(5,vb true)::(6,.v (.int .u8 c))::(7,vb (decide (c ≤ 57)))::(8,vb (decide (c ≤ 57)))::(9,vb false)::(10,.v (.int .u8 c))::(11,vb (decide (65 ≤ c)))::(12,vb true)::(13,.v (.int .u8 c))::(14,vb (decide (c ≤ 90)))::(15,vb (decide (c ≤ 90)))::(16,vb (decide (c ≤ 90)))::(17,vb false)::(18,.v (.int .u8 c))::(19,vb (decide (97 ≤ c)))::(20,vb true)::(21,.v (.int .u8 c))::(22,vb (decide (c ≤ 122)))::(23,vb (decide (c ≤ 122)))::(24,vb (decide (c ≤ 122)))::(2,vb (decide (c ≤ 122)))::[]) [0] [23] (zq [0] 1 3::zq [1] 2 4::zq [2] 3 5::zq [3,0] 4 6::zq [3,4] 5 7::zq [3,5] 6 8::zq [6] 7 9::zq [7,0] 8 10::zq [7,8] 9 11::zq [7,9] 10 12::zq [10,0] 11 13::zq [10,11] 12 14::zq [7,10,12] 13 15::zq [7,13] 14 16::zq [14] 15 17::zq [15,0] 16 18::zq [15,16] 17 19::zq [15,17] 18 20::zq [18,0] 19 21::zq [18,19] 20 22::zq [15,18,20] 21 23::zq [15,21] 22 24::zq [22] 23 2::[]) [(_,_)] rfl ⟨z1 rfl,z4 rfl rfl,z8 hg1_2 rfl,zr' rfl (oM rfl),zr' rfl (oB rfl rfl),z3 true rfl,z8 hg1_6 rfl,zr' rfl (oM rfl),zr' rfl (oB rfl rfl),zr' rfl (op_move _ _ _ _ (zb hg1_9) rfl),zr' rfl (oM rfl),zr' rfl (oB rfl rfl),zr' rfl (op_pick _ _ true _ rfl rfl),z3 false rfl,z8 hg1_14 rfl,zr' rfl (oM rfl),zr' rfl (oB rfl rfl),zr' rfl (op_move _ _ _ _ (zb hg1_17) rfl),zr' rfl (oM rfl),zr' rfl (oB rfl rfl),zr' rfl (op_pick _ _ true _ rfl rfl),z3 false rfl,z2 rfl,zz⟩ ?_
        exact hl3 _ (Option.some.inj h).symm
       ·refine zg hn (_::(3,.v (.int .u8 c))::(4,vb (decide (48 ≤ c)))::(5,vb true)::(6,.v (.int .u8 c))::(7,vb (decide (c ≤ 57)))::(8,vb (decide (c ≤ 57)))::(9,vb false)::(10,.v (.int .u8 c))::(11,vb (decide (65 ≤ c)))::(12,vb true)::(13,.v (.int .u8 c))::(14,vb (decide (c ≤ 90)))::(15,vb (decide (c ≤ 90)))::(16,vb (decide (c ≤ 90)))::(17,vb false)::(18,.v (.int .u8 c))::(19,vb (decide (97 ≤ c)))::(20,vb false)::(21,.v undef)::(22,.v undef)::(23,vb false)::(24,vb false)::(2,vb false)::[]) [0] [23] (zq [0] 1 3::zq [1] 2 4::zq [2] 3 5::zq [3,0] 4 6::zq [3,4] 5 7::zq [3,5] 6 8::zq [6] 7 9::zq [7,0] 8 10::zq [7,8] 9 11::zq [7,9] 10 12::zq [10,0] 11 13::zq [10,11] 12 14::zq [7,10,12] 13 15::zq [7,13] 14 16::zq [14] 15 17::zq [15,0] 16 18::zq [15,16] 17 19::zq [15,17] 18 20::zq [18] 19 21::zq [18] 20 22::zq [15,18] 21 23::zq [15,21] 22 24::zq [22] 23 2::[]) [(_,_)] rfl ⟨z1 rfl,z4 rfl rfl,z8 hg1_2 rfl,zr' rfl (oM rfl),zr' rfl (oB rfl rfl),z3 true rfl,z8 hg1_6 rfl,zr' rfl (oM rfl),zr' rfl (oB rfl rfl),zr' rfl (op_move _ _ _ _ (zb hg1_9) rfl),zr' rfl (oM rfl),zr' rfl (oB rfl rfl),zr' rfl (op_pick _ _ true _ rfl rfl),z3 false rfl,z8 hg1_14 rfl,zr' rfl (oM rfl),zr' rfl (oB rfl rfl),zr' rfl (op_move _ _ _ _ (zb hg1_17) rfl),zt rfl,zt rfl,zr' rfl (op_pick _ _ false _ rfl rfl),z3 false rfl,z2 rfl,zz⟩ ?_
        exact hl3 _ (Option.some.inj h).symm
     ·refine cond_some h (fun hg1_17 h => ?_) (fun hg1_17 h => ?_)
      ·refine zg hn (_::(3,.v (.int .u8 c))::(4,vb (decide (48 ≤ c)))::(5,vb true)::(6,.v (.int .u8 c))::(7,vb (decide (c ≤ 57)))::(8,vb (decide (c ≤ 57)))::(9,vb false)::(10,.v (.int .u8 c))::(11,vb (decide (65 ≤ c)))::(12,vb false)::(13,.v undef)::(14,.v undef)::(15,vb false)::(16,vb false)::(17,vb false)::(18,.v (.int .u8 c))::(19,vb (decide (97 ≤ c)))::(20,vb true)::(21,.v (.int .u8 c))::(22,vb (decide (c ≤ 122)))::(23,vb (decide (c ≤ 122)))::(24,vb (decide (c ≤ 122)))::(2,vb (decide (c ≤ 122)))::[]) [0] [23] (zq [0] 1 3::zq [1] 2 4::zq [2] 3 5::zq [3,0] 4 6::zq [3,4] 5 7::zq [3,5] 6 8::zq [6] 7 9::zq [7,0] 8 10::zq [7,8] 9 11::zq [7,9] 10 12::zq [10] 11 13::zq [10] 12 14::zq [7,10] 13 15::zq [7,13] 14 16::zq [14] 15 17::zq [15,0] 16 18::zq [15,16] 17 19::zq [15,17] 18 20::zq [18,0] 19 21::zq [18,19] 20 22::zq [15,18,20] 21 23::zq [15,21] 22 24::zq [22] 23 2::[]) [(_,_)] rfl ⟨z1 rfl,z4 rfl rfl,z8 hg1_2 rfl,zr' rfl (oM rfl),zr' rfl (oB rfl rfl),z3 true rfl,z8 hg1_6 rfl,zr' rfl (oM rfl),zr' rfl (oB rfl rfl),zr' rfl (op_move _ _ _ _ (zb hg1_9) rfl),zt rfl,zt rfl,zr' rfl (op_pick _ _ false _ rfl rfl),z3 false rfl,z1 rfl,zr' rfl (oM rfl),zr' rfl (oB rfl rfl),zr' rfl (op_move _ _ _ _ (zb hg1_17) rfl),zr' rfl (oM rfl),zr' rfl (oB rfl rfl),zr' rfl (op_pick _ _ true _ rfl rfl),z3 false rfl,z2 rfl,zz⟩ ?_
       exact hl3 _ (Option.some.inj h).symm
      ·refine zg hn (_::(3,.v (.int .u8 c))::(4,vb (decide (48 ≤ c)))::(5,vb true)::(6,.v (.int .u8 c))::(7,vb (decide (c ≤ 57)))::(8,vb (decide (c ≤ 57)))::(9,vb false)::(10,.v (.int .u8 c))::(11,vb (decide (65 ≤ c)))::(12,vb false)::(13,.v undef)::(14,.v undef)::(15,vb false)::(16,vb false)::(17,vb false)::(18,.v (.int .u8 c))::(19,vb (decide (97 ≤ c)))::(20,vb false)::(21,.v undef)::(22,.v undef)::(23,vb false)::(24,vb false)::(2,vb false)::[]) [0] [23] (zq [0] 1 3::zq [1] 2 4::zq [2] 3 5::zq [3,0] 4 6::zq [3,4] 5 7::zq [3,5] 6 8::zq [6] 7 9::zq [7,0] 8 10::zq [7,8] 9 11::zq [7,9] 10 12::zq [10] 11 13::zq [10] 12 14::zq [7,10] 13 15::zq [7,13] 14 16::zq [14] 15 17::zq [15,0] 16 18::zq [15,16] 17 19::zq [15,17] 18 20::zq [18] 19 21::zq [18] 20 22::zq [15,18] 21 23::zq [15,21] 22 24::zq [22] 23 2::[]) [(_,_)] rfl ⟨z1 rfl,z4 rfl rfl,z8 hg1_2 rfl,zr' rfl (oM rfl),zr' rfl (oB rfl rfl),z3 true rfl,z8 hg1_6 rfl,zr' rfl (oM rfl),zr' rfl (oB rfl rfl),zr' rfl (op_move _ _ _ _ (zb hg1_9) rfl),zt rfl,zt rfl,zr' rfl (op_pick _ _ false _ rfl rfl),z3 false rfl,z1 rfl,zr' rfl (oM rfl),zr' rfl (oB rfl rfl),zr' rfl (op_move _ _ _ _ (zb hg1_17) rfl),zt rfl,zt rfl,zr' rfl (op_pick _ _ false _ rfl rfl),z3 false rfl,z2 rfl,zz⟩ ?_
       exact hl3 _ (Option.some.inj h).symm
   ·refine cond_some h (fun hg1_9 h => ?_) (fun hg1_9 h => ?_)
    ·refine cond_some h (fun hg1_14 h => ?_) (fun hg1_14 h => ?_)
     ·refine zg hn (_::(3,.v (.int .u8 c))::(4,vb (decide (48 ≤ c)))::(5,vb false)::(6,.v undef)::(7,.v undef)::(8,vb false)::(9,vb false)::(10,.v (.int .u8 c))::(11,vb (decide (65 ≤ c)))::(12,vb true)::(13,.v (.int .u8 c))::(14,vb (decide (c ≤ 90)))::(15,vb (decide (c ≤ 90)))::(16,vb (decide (c ≤ 90)))::(17,vb true)::(18,.v undef)::(19,.v undef)::(20,.v undef)::(21,.v undef)::(22,.v undef)::(23,.v undef)::(24,vb true)::(2,vb true)::[]) [0] [23] (zq [0] 1 3::zq [1] 2 4::zq [2] 3 5::zq [3] 4 6::zq [3] 5 7::zq [3] 6 8::zq [6] 7 9::zq [7,0] 8 10::zq [7,8] 9 11::zq [7,9] 10 12::zq [10,0] 11 13::zq [10,11] 12 14::zq [7,10,12] 13 15::zq [7,13] 14 16::zq [14] 15 17::zq [15] 16 18::zq [15] 17 19::zq [15] 18 20::zq [18] 19 21::zq [18] 20 22::zq [15] 21 23::zq [15] 22 24::zq [22] 23 2::[]) [(_,_)] rfl ⟨z1 rfl,z4 rfl rfl,z8 hg1_2 rfl,zt rfl,zt rfl,z3 false rfl,z1 rfl,zr' rfl (oM rfl),zr' rfl (oB rfl rfl),zr' rfl (op_move _ _ _ _ (zb hg1_9) rfl),zr' rfl (oM rfl),zr' rfl (oB rfl rfl),zr' rfl (op_pick _ _ true _ rfl rfl),z3 false rfl,z8 hg1_14 rfl,zf rfl,zf rfl,zf rfl,zu' rfl,zu' rfl,zf rfl,z3 true rfl,z2 rfl,zz⟩ ?_
      exact hl3 _ (Option.some.inj h).symm
     ·refine cond_some h (fun hg1_17 h => ?_) (fun hg1_17 h => ?_)
      ·refine zg hn (_::(3,.v (.int .u8 c))::(4,vb (decide (48 ≤ c)))::(5,vb false)::(6,.v undef)::(7,.v undef)::(8,vb false)::(9,vb false)::(10,.v (.int .u8 c))::(11,vb (decide (65 ≤ c)))::(12,vb true)::(13,.v (.int .u8 c))::(14,vb (decide (c ≤ 90)))::(15,vb (decide (c ≤ 90)))::(16,vb (decide (c ≤ 90)))::(17,vb false)::(18,.v (.int .u8 c))::(19,vb (decide (97 ≤ c)))::(20,vb true)::(21,.v (.int .u8 c))::(22,vb (decide (c ≤ 122)))::(23,vb (decide (c ≤ 122)))::(24,vb (decide (c ≤ 122)))::(2,vb (decide (c ≤ 122)))::[]) [0] [23] (zq [0] 1 3::zq [1] 2 4::zq [2] 3 5::zq [3] 4 6::zq [3] 5 7::zq [3] 6 8::zq [6] 7 9::zq [7,0] 8 10::zq [7,8] 9 11::zq [7,9] 10 12::zq [10,0] 11 13::zq [10,11] 12 14::zq [7,10,12] 13 15::zq [7,13] 14 16::zq [14] 15 17::zq [15,0] 16 18::zq [15,16] 17 19::zq [15,17] 18 20::zq [18,0] 19 21::zq [18,19] 20 22::zq [15,18,20] 21 23::zq [15,21] 22 24::zq [22] 23 2::[]) [(_,_)] rfl ⟨z1 rfl,z4 rfl rfl,z8 hg1_2 rfl,zt rfl,zt rfl,z3 false rfl,z1 rfl,zr' rfl (oM rfl),zr' rfl (oB rfl rfl),zr' rfl (op_move _ _ _ _ (zb hg1_9) rfl),zr' rfl (oM rfl),zr' rfl (oB rfl rfl),zr' rfl (op_pick _ _ true _ rfl rfl),z3 false rfl,z8 hg1_14 rfl,zr' rfl (oM rfl),zr' rfl (oB rfl rfl),zr' rfl (op_move _ _ _ _ (zb hg1_17) rfl),zr' rfl (oM rfl),zr' rfl (oB rfl rfl),zr' rfl (op_pick _ _ true _ rfl rfl),z3 false rfl,z2 rfl,zz⟩ ?_
       exact hl3 _ (Option.some.inj h).symm
      ·refine zg hn (_::(3,.v (.int .u8 c))::(4,vb (decide (48 ≤ c)))::(5,vb false)::(6,.v undef)::(7,.v undef)::(8,vb false)::(9,vb false)::(10,.v (.int .u8 c))::(11,vb (decide (65 ≤ c)))::(12,vb true)::(13,.v (.int .u8 c))::(14,vb (decide (c ≤ 90)))::(15,vb (decide (c ≤ 90)))::(16,vb (decide (c ≤ 90)))::(17,vb false)::(18,.v (.int .u8 c))::(19,vb (decide (97 ≤ c)))::(20,vb false)::(21,.v undef)::(22,.v undef)::(23,vb false)::(24,vb false)::(2,vb false)::[]) [0] [23] (zq [0] 1 3::zq [1] 2 4::zq [2] 3 5::zq [3] 4 6::zq [3] 5 7::zq [3] 6 8::zq [6] 7 9::zq [7,0] 8 10::zq [7,8] 9 11::zq [7,9] 10 12::zq [10,0] 11 13::zq [10,11] 12 14::zq [7,10,12] 13 15::zq [7,13] 14 16::zq [14] 15 17::zq [15,0] 16 18::zq [15,16] 17 19::zq [15,17] 18 20::zq [18] 19 21::zq [18] 20 22::zq [15,18] 21 23::zq [15,21] 22 24::zq [22] 23 2::[]) [(_,_)] rfl ⟨z1 rfl,z4 rfl rfl,z8 hg1_2 rfl,zt rfl,zt rfl,z3 false rfl,z1 rfl,zr' rfl (oM rfl),zr' rfl (oB rfl rfl),zr' rfl (op_move _ _ _ _ (zb hg1_9) rfl),zr' rfl (oM rfl),zr' rfl (oB rfl rfl),zr' rfl (op_pick _ _ true _ rfl rfl),z3 false rfl,z8 hg1_14 rfl,zr' rfl (oM rfl),zr' rfl (oB rfl rfl),zr' rfl (op_move _ _ _ _ (zb hg1_17) rfl),zt rfl,zt rfl,zr' rfl (op_pick _ _ false _ rfl rfl),z3 false rfl,z2 rfl,zz⟩ ?_
       exact hl3 _ (Option.some.inj h).symm
    ·refine cond_some h (fun hg1_17 h => ?_) (fun hg1_17 h => ?_)
     ·refine zg hn (_::(3,.v (.int .u8 c))::(4,vb (decide (48 ≤ c)))::(5,vb false)::(6,.v undef)::(7,.v undef)::(8,vb false)::(9,vb false)::(10,.v (.int .u8 c))::(11,vb (decide (65 ≤ c)))::(12,vb false)::(13,.v undef)::(14,.v undef)::(15,vb false)::(16,vb false)::(17,vb false)::(18,.v (.int .u8 c))::(19,vb (decide (97 ≤ c)))::(20,vb true)::(21,.v (.int .u8 c))::(22,vb (decide (c ≤ 122)))::(23,vb (decide (c ≤ 122)))::(24,vb (decide (c ≤ 122)))::(2,vb (decide (c ≤ 122)))::[]) [0] [23] (zq [0] 1 3::zq [1] 2 4::zq [2] 3 5::zq [3] 4 6::zq [3] 5 7::zq [3] 6 8::zq [6] 7 9::zq [7,0] 8 10::zq [7,8] 9 11::zq [7,9] 10 12::zq [10] 11 13::zq [10] 12 14::zq [7,10] 13 15::zq [7,13] 14 16::zq [14] 15 17::zq [15,0] 16 18::zq [15,16] 17 19::zq [15,17] 18 20::zq [18,0] 19 21::zq [18,19] 20 22::zq [15,18,20] 21 23::zq [15,21] 22 24::zq [22] 23 2::[]) [(_,_)] rfl ⟨z1 rfl,z4 rfl rfl,z8 hg1_2 rfl,zt rfl,zt rfl,z3 false rfl,z1 rfl,zr' rfl (oM rfl),zr' rfl (oB rfl rfl),zr' rfl (op_move _ _ _ _ (zb hg1_9) rfl),zt rfl,zt rfl,zr' rfl (op_pick _ _ false _ rfl rfl),z3 false rfl,z1 rfl,zr' rfl (oM rfl),zr' rfl (oB rfl rfl),zr' rfl (op_move _ _ _ _ (zb hg1_17) rfl),zr' rfl (oM rfl),zr' rfl (oB rfl rfl),zr' rfl (op_pick _ _ true _ rfl rfl),z3 false rfl,z2 rfl,zz⟩ ?_
      exact hl3 _ (Option.some.inj h).symm
     ·refine zg hn (_::(3,.v (.int .u8 c))::(4,vb (decide (48 ≤ c)))::(5,vb false)::(6,.v undef)::(7,.v undef)::(8,vb false)::(9,vb false)::(10,.v (.int .u8 c))::(11,vb (decide (65 ≤ c)))::(12,vb false)::(13,.v undef)::(14,.v undef)::(15,vb false)::(16,vb false)::(17,vb false)::(18,.v (.int .u8 c))::(19,vb (decide (97 ≤ c)))::(20,vb false)::(21,.v undef)::(22,.v undef)::(23,vb false)::(24,vb false)::(2,vb false)::[]) [0] [23] (zq [0] 1 3::zq [1] 2 4::zq [2] 3 5::zq [3] 4 6::zq [3] 5 7::zq [3] 6 8::zq [6] 7 9::zq [7,0] 8 10::zq [7,8] 9 11::zq [7,9] 10 12::zq [10] 11 13::zq [10] 12 14::zq [7,10] 13 15::zq [7,13] 14 16::zq [14] 15 17::zq [15,0] 16 18::zq [15,16] 17 19::zq [15,17] 18 20::zq [18] 19 21::zq [18] 20 22::zq [15,18] 21 23::zq [15,21] 22 24::zq [22] 23 2::[]) [(_,_)] rfl ⟨z1 rfl,z4 rfl rfl,z8 hg1_2 rfl,zt rfl,zt rfl,z3 false rfl,z1 rfl,zr' rfl (oM rfl),zr' rfl (oB rfl rfl),zr' rfl (op_move _ _ _ _ (zb hg1_9) rfl),zt rfl,zt rfl,zr' rfl (op_pick _ _ false _ rfl rfl),z3 false rfl,z1 rfl,zr' rfl (oM rfl),zr' rfl (oB rfl rfl),zr' rfl (op_move _ _ _ _ (zb hg1_17) rfl),zt rfl,zt rfl,zr' rfl (op_pick _ _ false _ rfl rfl),z3 false rfl,z2 rfl,zz⟩ ?_
      exact hl3 _ (Option.some.inj h).symm
theorem ok_path_label_1 (c : Int) (r : Bool) (h : Sh.path_label_1 c = some r) : FnOK Tryz.prog 63 [.v (.int .u8 c)] (.v (.bool r)) := by
  unfold Sh.path_label_1 at h
  refine fn_ok func63 rfl (zl rfl) rfl rfl fun g0 hn hio => ?_
  refine zgg hn [_,(2,vb false)] [0] [0] [zq [] 1 2] [(_,_)] rfl ⟨z2 rfl,zz⟩ ?_
  refine ht_seq ?_
  refine ht_joinS h (fun (s2 : Bool) => [(2, .v (.bool s2))]) ?_ ?_
  ·rintro s2 h
   refine pt_then (ht_ret ?_)
   obtain rfl := Option.some.inj h
   exact pt_ret hio rfl (.tmp _ _ .nil) rfl rfl
  ·intro u3 h hl4 hr5
   obtain ⟨v1, hv1, h⟩ := bind_some h
   refine cond_some h (fun hg1_2 h => ?_) (fun hg1_2 h => ?_)
   ·refine zg hn [_,(3,.v (.int .u8 c)),(4,vb v1),(5,vb true),(6,.v undef),(7,.v undef),(8,vb true),(2,vb true)] [0] [7] [zq [0] 1 3,zq [1] 2 4,zq [2] 3 5,zq [3] 4 6,zq [3] 5 7,zq [3] 6 8,zq [6] 7 2] [(_,_)] rfl ⟨z1 rfl,zp rfl (op_call _ _ 64 _ _ rfl call64 rfl (ok_path_alphanumeric c _ hv1) rfl rfl),z8 hg1_2 rfl,zf rfl,zf rfl,z3 true rfl,z2 rfl,zz⟩ ?_
    exact hl4 _ (Option.some.inj h).symm
   ·refine zg hn [_,(3,.v (.int .u8 c)),(4,vb v1),(5,vb false),(6,.v (.int .u8 c)),(7,vb (c == 45)),(8,vb (c == 45)),(2,vb (c == 45))] [0] [7] [zq [0] 1 3,zq [1] 2 4,zq [2] 3 5,zq [3,0] 4 6,zq [3,4] 5 7,zq [3,5] 6 8,zq [6] 7 2] [(_,_)] rfl ⟨z1 rfl,zp rfl (op_call _ _ 64 _ _ rfl call64 rfl (ok_path_alphanumeric c _ hv1) rfl rfl),z8 hg1_2 rfl,zr' rfl (oM rfl),zr' rfl (oB rfl rfl),z3 false rfl,z2 rfl,zz⟩ ?_
    exact hl4 _ (Option.some.inj h).symm
theorem ok_path_all_of_path_label_1 (s : ByteArray) (r : Bool) (h : Sh.path_all_of_path_label_1 s = some r) : FnOK Tryz.prog 62 [.v (.string s), .v (.func (.func 63) #[] #[])] (.v (.bool r)) := by
  unfold Sh.path_all_of_path_label_1 at h
  refine fn_ok func62 rfl (zl rfl) rfl rfl fun g0 hn hio => ?_
  refine zgg hn [_,_,(4,vb false)] [0,1] [0,1] [zq [] 2 4] [(_,_),(_,_)] rfl ⟨z2 rfl,zz⟩ ?_
  refine ht_seq ?_
  refine zgg hn [_,_,(6,vs s),(7,vi (s.size : Int)),(8,vi 0)] [0,1] [0,1,3,4] [zq [0] 2 6,zq [2] 3 7,zq [] 4 8] [(_,_),(_,_),(_,_),(_,_)] rfl ⟨z1 rfl,zp rfl (oN underlying9 rfl),z1 rfl,zz⟩ ?_
  refine ht_loopS h (fun (s9 : Int) => [(0, .v (.string s)), (1, .v (.func (.func 63) #[] #[])), (7, .v (.int .i64 (s.size : Int))), (8, .v (.int .i64 s9))]) (fun (() : Unit) => []) ?_ ?_
  ·rintro ⟨⟩ h
   refine pt_then ?_
   refine zgg hn [(4,vb true)] [] [0] [zq [] 0 4] [(_,_)] rfl ⟨z2 rfl,zz⟩ ?_
   refine ht_ret ?_
   obtain rfl := Option.some.inj h
   exact pt_ret hio rfl (.tmp _ _ .nil) rfl rfl
  ·rintro u12 hl13 hr14 s9 rr17 h ho15
   refine zgg hn [_,_,_,_,(9,vb (decide (s9 < (s.size : Int))))] [0,1,2,3] [0,1,2,3,4] [zq [3,2] 4 9] [(_,_),(_,_),(_,_),(_,_),(_,_)] rfl ⟨z4 rfl rfl,zz⟩ ?_
   refine ht_seq ?_
   refine ht_cond _ rfl (fun hb18 => ?_) (fun hb18 => ?_)
   ·have h := cond_t hb18 h
    refine ht_skip ?_
    refine pt_then (ht_seq ?_)
    refine ht_block ?_
    refine zgg hn [_,_,_,_,_,(10,vi s9),(5,vi s9)] [0,1,2,3,4] [0,1,2,3,6] [zq [3] 5 10,zq [5] 6 5] [(_,_),(_,_),(_,_),(_,_),(_,_)] rfl ⟨z1 rfl,z2 rfl,zz⟩ ?_
    refine ht_seq ?_
    obtain ⟨v2, hv2, h⟩ := bind_some h
    obtain ⟨v3, hv3, h⟩ := bind_some h
    refine zg hn [_,_,_,_,_,(11,.v (.func (.func 63) #[] #[])),(12,vs s),(13,vi s9),(14,.v (.int .u8 v2)),(15,vb v3),(16,vb (!v3))] [0,1,2,3,4] [0,1,2,3,10] [zq [1] 5 11,zq [0] 6 12,zq [4] 7 13,zq [6,7] 8 14,zq [8,5] 9 15,zq [9] 10 16] [(_,_),(_,_),(_,_),(_,_),(_,_)] rfl ⟨z1 rfl,z1 rfl,z1 rfl,zp rfl (op_chr _ _ _ s9 _ underlying9 rfl rfl hv2),zp rfl (op_call _ _ 63 _ _ rfl call63 rfl (ok_path_label_1 v2 _ hv3) rfl rfl),zp rfl (op_un _ _ _ _ rfl rfl),zz⟩ ?_
    refine pt_then ?_
    refine ht_cond _ rfl (fun hb19 => ?_) (fun hb19 => ?_)
    ·have h := cond_t hb19 h
     refine zgg hn [_,_,_,_,_,(4,vb false)] [0,1,2,3,4] [5] [zq [] 5 4] [(_,_)] rfl ⟨z2 rfl,zz⟩ ?_
     refine ht_ret ?_
     refine pt_r_in ?_
     refine pt_r_then ?_
     refine pt_r_then ?_
     refine pt_r_in ?_
     refine pt_r_then ?_
     have h := hr14 _ (ho15 _ (Option.some.inj h).symm).symm
     obtain rfl := Option.some.inj h
     exact pt_ret hio rfl (.tmp _ _ .nil) rfl rfl
    ·have h := cond_f hb19 h
     refine ht_skip ?_
     refine pt_inb ?_
     refine pt_then ?_
     obtain ⟨v5, hv5, h⟩ := bind_some h
     refine zg hn [_,_,_,_,_,(17,vi v5),(8,vi v5)] [0,1,2,3,4] [0,1,2,6] [zq [3] 5 17,⟨[5],[3],[6],[(.slot 8)]⟩] [(_,_),(_,_),(_,_),(_,_)] rfl ⟨zp rfl (oB rfl (ibind (f := Value.int .i64) (Option.some.inj hv5))),zp rfl (LOp.drop [_] (oM rfl)),zz⟩ ?_
     exact pt_next _ (Option.some.inj h).symm rfl
   ·have h := cond_f hb18 h
    refine ht_exit ?_
    refine pt_x_then ?_
    refine pt_x_then ?_
    refine pt_x_in ?_
    refine pt_pick [] (by kernel_rfl) (es' := []) rfl ?_
    exact hl13 _ (ho15 _ (Option.some.inj h).symm).symm
theorem ok_path_label (s : ByteArray) (r : Bool) (h : Sh.path_label s = some r) : FnOK Tryz.prog 52 [.v (.string s)] (.v (.bool r)) := by
  unfold Sh.path_label at h
  refine fn_ok func52 rfl (zl rfl) rfl rfl fun g0 hn hio => ?_
  refine zgg hn [_,(2,vb false)] [0] [0] [zq [] 1 2] [(_,_)] rfl ⟨z2 rfl,zz⟩ ?_
  refine ht_seq ?_
  refine ht_joinS h (fun (s5 : Bool) => [(2, .v (.bool s5))]) ?_ ?_
  ·rintro s5 h
   refine pt_then (ht_ret ?_)
   obtain rfl := Option.some.inj h
   exact pt_ret hio rfl (.tmp _ _ .nil) rfl rfl
  ·intro u6 h hl7 hr8
   refine cond_some h (fun hg1_2 h => ?_) (fun hg1_2 h => ?_)
   ·refine cond_some h (fun hg1_7 h => ?_) (fun hg1_7 h => ?_)
    ·obtain ⟨v1, hv1, h⟩ := bind_some h
     refine cond_some h (fun hg1_12 h => ?_) (fun hg1_12 h => ?_)
     ·obtain ⟨v2, hv2, h⟩ := bind_some h
      obtain ⟨v3, hv3, h⟩ := bind_some h
      refine cond_some h (fun hg1_20 h => ?_) (fun hg1_20 h => ?_)
      ·obtain ⟨v4, hv4, h⟩ := bind_some h
       refine zg hn (_::(3,vs s)::(4,vb (!(s.toList == z0.toList)))::(5,vb true)::(6,vs s)::(7,vi (s.size : Int))::(8,vb (decide ((s.size : Int) ≤ 63)))::(9,vb (decide ((s.size : Int) ≤ 63)))::(10,vb true)::(11,vs s)::(12,.v (.int .u8 v1))::(13,vb (v1 != 45))::(14,vb (v1 != 45))::(15,vb true)::(16,vs s)::(17,vs s)::(18,vi (s.size : Int))::(19,vi v2)::(20,.v (.int .u8 v3))::(21,vb (v3 != 45))::(22,vb (v3 != 45))::(23,vb true)::(24,vs s)::(25,vb v4)::(26,vb v4)::(2,vb v4)::[]) [0] [25] (zq [0] 1 3::zq [1] 2 4::zq [2] 3 5::zq [3,0] 4 6::zq [3,4] 5 7::zq [3,5] 6 8::zq [3,6] 7 9::zq [7] 8 10::zq [8,0] 9 11::zq [8,9] 10 12::zq [8,10] 11 13::zq [8,11] 12 14::zq [12] 13 15::zq [13,0] 14 16::zq [13,0] 15 17::zq [13,15] 16 18::zq [13,16] 17 19::zq [13,14,17] 18 20::zq [13,18] 19 21::zq [13,19] 20 22::zq [20] 21 23::zq [21,0] 22 24::zq [21,22] 23 25::zq [21,23] 24 26::zq [24] 25 2::[]) [(_,_)] rfl ⟨z1 rfl,z4 rfl rfl,z8 hg1_2 rfl,zr' rfl (oM rfl),zr' rfl (oN underlying9 rfl),zr' rfl (oB rfl rfl),z3 true rfl,z8 hg1_7 rfl,zr' rfl (oM rfl),zr' rfl (op_chr _ _ _ 0 _ underlying9 rfl rfl hv1),zr' rfl (oB rfl rfl),z3 true rfl,z8 hg1_12 rfl,zr' rfl (oM rfl),zr' rfl (oM rfl),zr' rfl (oN underlying9 rfl),zr' rfl (oB rfl (ibind (f := Value.int .i64) (Option.some.inj hv2))),zr' rfl (op_chr _ _ _ v2 _ underlying9 rfl rfl hv3),zr' rfl (oB rfl rfl),z3 true rfl,z8 hg1_20 rfl,zr' rfl (oM rfl),zr' rfl (op_call _ _ 62 _ _ rfl call62 rfl (ok_path_all_of_path_label_1 s _ hv4) rfl rfl),z3 true rfl,z2 rfl,zz⟩ ?_
       exact hl7 _ (Option.some.inj h).symm
      ·refine zg hn (_::(3,vs s)::(4,vb (!(s.toList == z0.toList)))::(5,vb true)::(6,vs s)::(7,vi (s.size : Int))::(8,vb (decide ((s.size : Int) ≤ 63)))::(9,vb (decide ((s.size : Int) ≤ 63)))::(10,vb true)::(11,vs s)::(12,.v (.int .u8 v1))::(13,vb (v1 != 45))::(14,vb (v1 != 45))::(15,vb true)::(16,vs s)::(17,vs s)::(18,vi (s.size : Int))::(19,vi v2)::(20,.v (.int .u8 v3))::(21,vb (v3 != 45))::(22,vb (v3 != 45))::(23,vb false)::(24,.v undef)::(25,.v undef)::(26,vb false)::(2,vb false)::[]) [0] [25] (zq [0] 1 3::zq [1] 2 4::zq [2] 3 5::zq [3,0] 4 6::zq [3,4] 5 7::zq [3,5] 6 8::zq [3,6] 7 9::zq [7] 8 10::zq [8,0] 9 11::zq [8,9] 10 12::zq [8,10] 11 13::zq [8,11] 12 14::zq [12] 13 15::zq [13,0] 14 16::zq [13,0] 15 17::zq [13,15] 16 18::zq [13,16] 17 19::zq [13,14,17] 18 20::zq [13,18] 19 21::zq [13,19] 20 22::zq [20] 21 23::zq [21] 22 24::zq [21] 23 25::zq [21] 24 26::zq [24] 25 2::[]) [(_,_)] rfl ⟨z1 rfl,z4 rfl rfl,z8 hg1_2 rfl,zr' rfl (oM rfl),zr' rfl (oN underlying9 rfl),zr' rfl (oB rfl rfl),z3 true rfl,z8 hg1_7 rfl,zr' rfl (oM rfl),zr' rfl (op_chr _ _ _ 0 _ underlying9 rfl rfl hv1),zr' rfl (oB rfl rfl),z3 true rfl,z8 hg1_12 rfl,zr' rfl (oM rfl),zr' rfl (oM rfl),zr' rfl (oN underlying9 rfl),zr' rfl (oB rfl (ibind (f := Value.int .i64) (Option.some.inj hv2))),zr' rfl (op_chr _ _ _ v2 _ underlying9 rfl rfl hv3),zr' rfl (oB rfl rfl),z3 true rfl,z8 hg1_20 rfl,zt rfl,zt rfl,z3 false rfl,z2 rfl,zz⟩ ?_
       exact hl7 _ (Option.some.inj h).symm
     ·refine zg hn (_::(3,vs s)::(4,vb (!(s.toList == z0.toList)))::(5,vb true)::(6,vs s)::(7,vi (s.size : Int))::(8,vb (decide ((s.size : Int) ≤ 63)))::(9,vb (decide ((s.size : Int) ≤ 63)))::(10,vb true)::(11,vs s)::(12,.v (.int .u8 v1))::(13,vb (v1 != 45))::(14,vb (v1 != 45))::(15,vb false)::(16,.v undef)::(17,.v undef)::(18,.v undef)::(19,.v undef)::(20,.v undef)::(21,.v undef)::(22,vb false)::(23,vb false)::(24,.v undef)::(25,.v undef)::(26,vb false)::(2,vb false)::[]) [0] [25] (zq [0] 1 3::zq [1] 2 4::zq [2] 3 5::zq [3,0] 4 6::zq [3,4] 5 7::zq [3,5] 6 8::zq [3,6] 7 9::zq [7] 8 10::zq [8,0] 9 11::zq [8,9] 10 12::zq [8,10] 11 13::zq [8,11] 12 14::zq [12] 13 15::zq [13] 14 16::zq [13] 15 17::zq [13] 16 18::zq [13] 17 19::zq [13] 18 20::zq [13] 19 21::zq [13] 20 22::zq [20] 21 23::zq [21] 22 24::zq [21] 23 25::zq [21] 24 26::zq [24] 25 2::[]) [(_,_)] rfl ⟨z1 rfl,z4 rfl rfl,z8 hg1_2 rfl,zr' rfl (oM rfl),zr' rfl (oN underlying9 rfl),zr' rfl (oB rfl rfl),z3 true rfl,z8 hg1_7 rfl,zr' rfl (oM rfl),zr' rfl (op_chr _ _ _ 0 _ underlying9 rfl rfl hv1),zr' rfl (oB rfl rfl),z3 true rfl,z8 hg1_12 rfl,zt rfl,zt rfl,zt rfl,zt rfl,zt rfl,zt rfl,z3 false rfl,z1 rfl,zt rfl,zt rfl,z3 false rfl,z2 rfl,zz⟩ ?_
      exact hl7 _ (Option.some.inj h).symm
    ·refine zg hn (_::(3,vs s)::(4,vb (!(s.toList == z0.toList)))::(5,vb true)::(6,vs s)::(7,vi (s.size : Int))::(8,vb (decide ((s.size : Int) ≤ 63)))::(9,vb (decide ((s.size : Int) ≤ 63)))::(10,vb false)::(11,.v undef)::(12,.v undef)::(13,.v undef)::(14,vb false)::(15,vb false)::(16,.v undef)::(17,.v undef)::(18,.v undef)::(19,.v undef)::(20,.v undef)::(21,.v undef)::(22,vb false)::(23,vb false)::(24,.v undef)::(25,.v undef)::(26,vb false)::(2,vb false)::[]) [0] [25] (zq [0] 1 3::zq [1] 2 4::zq [2] 3 5::zq [3,0] 4 6::zq [3,4] 5 7::zq [3,5] 6 8::zq [3,6] 7 9::zq [7] 8 10::zq [8] 9 11::zq [8] 10 12::zq [8] 11 13::zq [8] 12 14::zq [12] 13 15::zq [13] 14 16::zq [13] 15 17::zq [13] 16 18::zq [13] 17 19::zq [13] 18 20::zq [13] 19 21::zq [13] 20 22::zq [20] 21 23::zq [21] 22 24::zq [21] 23 25::zq [21] 24 26::zq [24] 25 2::[]) [(_,_)] rfl ⟨z1 rfl,z4 rfl rfl,z8 hg1_2 rfl,zr' rfl (oM rfl),zr' rfl (oN underlying9 rfl),zr' rfl (oB rfl rfl),z3 true rfl,z8 hg1_7 rfl,zt rfl,zt rfl,zt rfl,z3 false rfl,z1 rfl,zt rfl,zt rfl,zt rfl,zt rfl,zt rfl,zt rfl,z3 false rfl,z1 rfl,zt rfl,zt rfl,z3 false rfl,z2 rfl,zz⟩ ?_
     exact hl7 _ (Option.some.inj h).symm
   ·refine zg hn (_::(3,vs s)::(4,vb (!(s.toList == z0.toList)))::(5,vb false)::(6,.v undef)::(7,.v undef)::(8,.v undef)::(9,vb false)::(10,vb false)::(11,.v undef)::(12,.v undef)::(13,.v undef)::(14,vb false)::(15,vb false)::(16,.v undef)::(17,.v undef)::(18,.v undef)::(19,.v undef)::(20,.v undef)::(21,.v undef)::(22,vb false)::(23,vb false)::(24,.v undef)::(25,.v undef)::(26,vb false)::(2,vb false)::[]) [0] [25] (zq [0] 1 3::zq [1] 2 4::zq [2] 3 5::zq [3] 4 6::zq [3] 5 7::zq [3] 6 8::zq [3] 7 9::zq [7] 8 10::zq [8] 9 11::zq [8] 10 12::zq [8] 11 13::zq [8] 12 14::zq [12] 13 15::zq [13] 14 16::zq [13] 15 17::zq [13] 16 18::zq [13] 17 19::zq [13] 18 20::zq [13] 19 21::zq [13] 20 22::zq [20] 21 23::zq [21] 22 24::zq [21] 23 25::zq [21] 24 26::zq [24] 25 2::[]) [(_,_)] rfl ⟨z1 rfl,z4 rfl rfl,z8 hg1_2 rfl,zt rfl,zt rfl,zt rfl,z3 false rfl,z1 rfl,zt rfl,zt rfl,zt rfl,z3 false rfl,z1 rfl,zt rfl,zt rfl,zt rfl,zt rfl,zt rfl,zt rfl,z3 false rfl,z1 rfl,zt rfl,zt rfl,z3 false rfl,z2 rfl,zz⟩ ?_
    exact hl7 _ (Option.some.inj h).symm
theorem ok_path_dotted_of_path_label (mx : Int) (s : ByteArray) (r : Bool) (h : Sh.path_dotted_of_path_label s = some r) : FnG Tryz.prog (GL mx) 51 [.v (.string s), .v (.func (.func 52) #[] #[])] (.v (.bool r)) := by
  unfold Sh.path_dotted_of_path_label at h
  refine fn_okG func51 rfl (zl rfl) rfl rfl fun g0 hn hio => ?_
  refine zgg hn [_,_,_,(3,.box 48 [.v (.func (.func 52) #[] #[])]),(4,.box 4 [vb false])] [0,1,2] [0,2,3,4] [zq [1] 3 3,zq [] 4 4] [(_,_),(_,_),(_,_),(_,_)] rfl ⟨zp rfl (op_box _ _ _ _ rfl rfl rfl),zp rfl (op_alloc _ _ zr4),zz⟩ ?_
  refine ht_seq ?_
  refine ht_seq ?_
  obtain ⟨v1, hv1, h⟩ := bind_some h
  refine zg hn [_,_,_,_,(6,vs s),(7,.cloB 86 [.box 9 [vs v1.1],.box 9 [vs v1.2.1],.box 3 [vi v1.2.2]])] [0,1,2,3] [1,2,3,5] [zq [0] 4 6,zq [4] 5 7] [(_,_),(_,_),(_,_),(_,_)] rfl ⟨z1 rfl,zp rfl (op_callS _ _ 61 _ _ rfl call61 rfl rfl (ok_strings_SplitSeq s (⟨#[46]⟩ : ByteArray) _ hv1) rfl),zz⟩ ?_
  refine pt_then ?_
  refine ht_block ?_
  refine ht_pick [3, 0, 1, 2] (by kernel_rfl) (es' := [(7, .cloB 86 [.box 9 [.v (.string v1.1)], .box 9 [.v (.string v1.2.1)], .box 3 [.v (.int .i64 v1.2.2)]]), (13, .glob (GL mx)), (3, .box 48 [.v (.func (.func 52) #[] #[])]), (4, .box 4 [.v (.bool false)])]) rfl ?_
  refine ht_rangeF h 86 7 8 14 _ [13, 3, 4] call86 (fun (() : Unit) => [(13, .glob (GL mx)), (3, .box 48 [.v (.func (.func 52) #[] #[])]), (4, .box 4 [.v (.bool false)])]) (fun (() : Unit) => [(13, .glob (GL mx)), (3, .box 48 [.v (.func (.func 52) #[] #[])]), (4, .box 4 [.v (.bool false)])]) (fun l J Y hY t t' h => ok_strings_splitSeq_1 mx l J Y hY v1.1 v1.2.1 v1.2.2 t t' h) hn rfl (fun _ => rfl) (fun _ => rfl) (fun _ => rfl) rfl rfl (fun _ => ⟨rfl, rfl⟩) rfl (glIn_look 13 rfl) ?_ ?_ ?_
  ·rintro kk g0 hn hio x ⟨⟩ u h
   refine ht_es (es' := [(8, .v (.string x)), (13, .glob (GL mx)), (3, .box 48 [.v (.func (.func 52) #[] #[])]), (4, .box 4 [.v (.bool false)]), (13, .v (kk.tm.getD 13 undef)), (3, .v (kk.tm.getD 3 undef)), (4, .v (kk.tm.getD 4 undef)), (14, .inv kk.ready)]) rfl ?_
   refine zg hn [_,_,_,_,_,_,_,_,(5,vs x)] [0,1,2,3,4,5,6,7] [1,2,3,4,5,6,7,8] [zq [0] 8 5] [(_,_),(_,_),(_,_),(_,_),(_,_),(_,_),(_,_),(_,_)] rfl ⟨z2 rfl,zz⟩ ?_
   refine pt_pick [0, 1, 2, 3, 4, 5, 7, 6] (by kernel_rfl) (es' := [(13, .glob (GL mx)), (3, .box 48 [.v (.func (.func 52) #[] #[])]), (4, .box 4 [.v (.bool false)]), (13, .v (kk.tm.getD 13 undef)), (3, .v (kk.tm.getD 3 undef)), (4, .v (kk.tm.getD 4 undef)), (5, .v (.string x)), (14, .inv kk.ready)]) rfl ?_
   refine pt_begin (es := [(13, .glob (GL mx)), (3, .box 48 [.v (.func (.func 52) #[] #[])]), (4, .box 4 [.v (.bool false)]), (13, .v (kk.tm.getD 13 undef)), (3, .v (kk.tm.getD 3 undef)), (4, .v (kk.tm.getD 4 undef)), (5, .v (.string x))]) 14 rfl ?_
   refine ht_block ?_
   refine ht_seq ?_
   obtain ⟨v2, hv2, h⟩ := bind_some h
   refine zg hn [_,_,_,_,_,_,_,_,(9,.v (.func (.func 52) #[] #[])),(10,vs x),(11,vb v2),(12,vb (!v2))] [0,1,2,3,4,5,6,7] [0,1,2,3,4,5,7,11] [zq [1] 8 9,zq [6] 9 10,zq [9,8] 10 11,zq [10] 11 12] [(_,_),(_,_),(_,_),(_,_),(_,_),(_,_),(_,_),(_,_)] rfl ⟨zp rfl (oL underlying48 rfl),z1 rfl,zp rfl (op_call _ _ 52 _ _ rfl call52 rfl (ok_path_label x _ hv2) rfl rfl),zp rfl (op_un _ _ _ _ rfl rfl),zz⟩ ?_
   refine pt_then ?_
   refine ht_cond _ rfl (fun hb5 => ?_) (fun hb5 => ?_)
   ·have h := cond_t hb5 h
    refine zgg hn [_,_,_,_,_,_,_,_,(4,.box 4 [vb false])] [0,1,2,3,4,5,6,7] [0,1,8,3,4,5,6] [⟨[],[2],[8],[.cell 4 0]⟩] [(_,_),(_,_),(_,_),(_,_),(_,_),(_,_),(_,_)] rfl ⟨zp rfl (oS sz4 rfl),zz⟩ ?_
    refine ht_ret ?_
    refine pt_r_in ?_
    obtain rfl := Option.some.inj h
    exact pt_rret 14 [13, 3, 4] _ rfl rfl (by kernel_rfl)
   ·have h := cond_f hb5 h
    refine ht_skip ?_
    refine pt_inb ?_
    refine pt_pick [0, 1, 2, 3, 4, 5, 6] (by kernel_rfl) (es' := [(_,_),(_,_),(_,_),(_,_),(_,_),(_,_),(_,_)]) rfl ?_
    obtain rfl := Option.some.inj h
    exact pt_rnext 14 [13, 3, 4] _ rfl rfl (by kernel_rfl)
  ·rintro D ⟨⟩ h
   refine pt_inb ?_
   refine pt_then ?_
   refine zgg hn [_,_,_,(4,.box 4 [vb true])] [0,1,2] [0,3] [⟨[],[2],[3],[.cell 4 0]⟩] [(_,_),(_,_)] rfl ⟨zp rfl (oS sz4 rfl),zz⟩ ?_
   refine ht_ret ?_
   refine pt_pick [1] (by kernel_rfl) (es' := [(_,_)]) rfl ?_
   obtain rfl := Option.some.inj h
   exact pt_ret hio rfl (.cell1 _ _ _ _ underlying4 rfl .nil) rfl rfl
  ·rintro D ⟨⟩ h
   refine pt_pick [2] (by kernel_rfl) (es' := [(_,_)]) rfl ?_
   refine pt_r_in ?_
   refine pt_r_then ?_
   obtain rfl := Option.some.inj h
   exact pt_ret hio rfl (.cell1 _ _ _ _ underlying4 rfl .nil) rfl rfl
theorem ok_path_Domain (mx : Int) (s : ByteArray) (r : Bool) (h : Sh.path_Domain s = some r) : FnG Tryz.prog (GL mx) 37 [.v (.string s)] (.v (.bool r)) := by
  unfold Sh.path_Domain at h
  refine fn_okG func37 rfl (zl rfl) rfl rfl fun g0 hn hio => ?_
  refine zgg hn [_,_,(2,vb false)] [0,1] [0,1] [zq [] 2 2] [(_,_),(_,_)] rfl ⟨z2 rfl,zz⟩ ?_
  refine ht_seq ?_
  refine ht_joinS h (fun (s2 : Bool) => [(10, .glob (GL mx)), (2, .v (.bool s2))]) ?_ ?_
  ·rintro s2 h
   refine pt_then (ht_ret ?_)
   refine pt_pick [1] (by kernel_rfl) (es' := [(_,_)]) rfl ?_
   obtain rfl := Option.some.inj h
   exact pt_ret hio rfl (.tmp _ _ .nil) rfl rfl
  ·intro u3 h hl4 hr5
   refine cond_some h (fun hg1_3 h => ?_) (fun hg1_3 h => ?_)
   ·obtain ⟨v1, hv1, h⟩ := bind_some h
    refine zg hn [_,_,(3,vs s),(4,vi (s.size : Int)),(5,vb (decide ((s.size : Int) ≤ 255))),(6,vb true),(7,vs s),(8,vb v1),(9,vb v1),(2,vb v1)] [0,1] [1,9] [zq [0] 2 3,zq [2] 3 4,zq [3] 4 5,zq [4] 5 6,zq [5,0] 6 7,zq [5,6,1] 7 8,zq [5,7] 8 9,zq [8] 9 2] [(_,_),(_,_)] rfl ⟨z1 rfl,zp rfl (oN underlying9 rfl),z4 rfl rfl,z8 hg1_3 rfl,zr' rfl (oM rfl),zr' rfl (op_callG _ _ 10 51 _ _ rfl call51 rfl rfl (fun _ h => h) (ok_path_dotted_of_path_label mx s _ hv1) rfl rfl),z3 true rfl,z2 rfl,zz⟩ ?_
    exact hl4 _ (Option.some.inj h).symm
   ·refine zg hn [_,_,(3,vs s),(4,vi (s.size : Int)),(5,vb (decide ((s.size : Int) ≤ 255))),(6,vb false),(7,.v undef),(8,.v undef),(9,vb false),(2,vb false)] [0,1] [1,9] [zq [0] 2 3,zq [2] 3 4,zq [3] 4 5,zq [4] 5 6,zq [5] 6 7,zq [5] 7 8,zq [5] 8 9,zq [8] 9 2] [(_,_),(_,_)] rfl ⟨z1 rfl,zp rfl (oN underlying9 rfl),z4 rfl rfl,z8 hg1_3 rfl,zt rfl,zt rfl,z3 false rfl,z2 rfl,zz⟩ ?_
    exact hl4 _ (Option.some.inj h).symm
theorem ok_verb_otherMechanism (mx : Int) (line : ByteArray) (r : Bool) (h : Sh.verb_otherMechanism line = some r) : FnG Tryz.prog (GL mx) 20 [.v (.string line)] (.v (.bool r)) := by
  unfold Sh.verb_otherMechanism at h
  refine fn_okG func20 rfl (zl rfl) rfl rfl fun g0 hn hio => ?_
  refine zgg hn [_,_,(2,vb false)] [0,1] [0,1] [zq [] 2 2] [(_,_),(_,_)] rfl ⟨z2 rfl,zz⟩ ?_
  refine ht_seq ?_
  obtain ⟨v1, hv1, h⟩ := bind_some h
  refine zg hn [_,_,(7,vs line),(8,.tup [vs v1.1,vb v1.2]),(6,.tup [vs v1.1,vb v1.2]),(9,vs v1.1),(10,vb v1.2),(3,vs v1.1),(4,vb v1.2)] [0,1] [1,7,8] [zq [0] 2 7,zq [2] 3 8,⟨[],[3],[4],[(.slot 6)]⟩,zq [4] 5 9,zq [4] 6 10,zq [5] 7 3,zq [6] 8 4] [(_,_),(_,_),(_,_)] rfl ⟨z1 rfl,zp rfl (op_call _ _ 35 _ _ rfl call35 rfl (ok_verb_cutFold line (⟨#[65, 85, 84, 72, 32]⟩ : ByteArray) _ hv1) rfl rfl),zp rfl (op_move_take _ _ _ _ rfl),zp rfl (oE rfl),zp rfl (oE rfl),z2 rfl,z2 rfl,zz⟩ ?_
  refine pt_then (ht_seq ?_)
  refine ht_seq ?_
  refine ht_joinS h (fun (s3 : Bool) => [(40, .glob (GL mx)), (3, .v (.string v1.1)), (20, .v (.bool s3))]) ?_ ?_
  ·rintro s3 h
   refine pt_then ?_
   refine ht_cond _ rfl (fun hb7 => ?_) (fun hb7 => ?_)
   ·have h := cond_t hb7 h
    refine zgg hn [_,_,_,(2,vb false)] [0,1,2] [0,3] [zq [] 3 2] [(_,_),(_,_)] rfl ⟨z2 rfl,zz⟩ ?_
    refine ht_ret ?_
    refine pt_pick [1] (by kernel_rfl) (es' := [(_,_)]) rfl ?_
    refine pt_r_then ?_
    obtain rfl := Option.some.inj h
    exact pt_ret hio rfl (.tmp _ _ .nil) rfl rfl
   ·have h := cond_f hb7 h
    refine ht_skip ?_
    refine pt_then (ht_seq ?_)
    refine zgg hn [_,_,_,(21,vs v1.1),(22,vi (v1.1.size : Int)),(23,vi 0)] [0,1,2] [0,1,4,5] [zq [1] 3 21,zq [3] 4 22,zq [] 5 23] [(_,_),(_,_),(_,_),(_,_)] rfl ⟨z1 rfl,zp rfl (oN underlying9 rfl),z1 rfl,zz⟩ ?_
    refine ht_loopS h (fun (s26 : Int) => [(40, .glob (GL mx)), (3, .v (.string v1.1)), (22, .v (.int .i64 (v1.1.size : Int))), (23, .v (.int .i64 s26))]) (fun (() : Unit) => [(40, .glob (GL mx))]) ?_ ?_
    ·rintro ⟨⟩ h
     refine pt_then ?_
     refine zgg hn [_,(2,vb true)] [0] [0,1] [zq [] 1 2] [(_,_),(_,_)] rfl ⟨z2 rfl,zz⟩ ?_
     refine ht_ret ?_
     refine pt_pick [1] (by kernel_rfl) (es' := [(_,_)]) rfl ?_
     obtain rfl := Option.some.inj h
     exact pt_ret hio rfl (.tmp _ _ .nil) rfl rfl
    ·rintro u33 hl34 hr35 s26 rr38 h ho36
     refine zgg hn [_,_,_,_,(24,vb (decide (s26 < (v1.1.size : Int))))] [0,1,2,3] [0,1,2,3,4] [zq [3,2] 4 24] [(_,_),(_,_),(_,_),(_,_),(_,_)] rfl ⟨z4 rfl rfl,zz⟩ ?_
     refine ht_seq ?_
     refine ht_cond _ rfl (fun hb39 => ?_) (fun hb39 => ?_)
     ·have h := cond_t hb39 h
      refine ht_skip ?_
      refine pt_then (ht_seq ?_)
      refine ht_block ?_
      refine zgg hn [_,_,_,_,_,(25,vi s26),(5,vi s26)] [0,1,2,3,4] [0,1,2,3,6] [zq [3] 5 25,zq [5] 6 5] [(_,_),(_,_),(_,_),(_,_),(_,_)] rfl ⟨z1 rfl,z2 rfl,zz⟩ ?_
      refine ht_seq ?_
      refine ht_joinS h (fun (s40 : Bool) => [(40, .glob (GL mx)), (3, .v (.string v1.1)), (22, .v (.int .i64 (v1.1.size : Int))), (23, .v (.int .i64 s26)), (38, .v (.bool s40))]) ?_ ?_
      ·rintro s40 h
       refine pt_then ?_
       refine ht_cond _ rfl (fun hb44 => ?_) (fun hb44 => ?_)
       ·have h := cond_t hb44 h
        refine zgg hn [_,_,_,_,_,(2,vb false)] [0,1,2,3,4] [0,5] [zq [] 5 2] [(_,_),(_,_)] rfl ⟨z2 rfl,zz⟩ ?_
        refine ht_ret ?_
        refine pt_pick [1] (by kernel_rfl) (es' := [(_,_)]) rfl ?_
        refine pt_r_in ?_
        refine pt_r_then ?_
        refine pt_r_then ?_
        refine pt_r_in ?_
        refine pt_r_then ?_
        have h := hr35 _ (ho36 _ (Option.some.inj h).symm).symm
        obtain rfl := Option.some.inj h
        exact pt_ret hio rfl (.tmp _ _ .nil) rfl rfl
       ·have h := cond_f hb44 h
        refine ht_skip ?_
        refine pt_inb ?_
        refine pt_then ?_
        obtain ⟨v18, hv18, h⟩ := bind_some h
        refine zg hn [_,_,_,_,_,(39,vi v18),(23,vi v18)] [0,1,2,3,4] [0,1,2,6] [zq [3] 5 39,⟨[5],[3],[6],[(.slot 23)]⟩] [(_,_),(_,_),(_,_),(_,_)] rfl ⟨zp rfl (oB rfl (ibind (f := Value.int .i64) (Option.some.inj hv18))),zp rfl (LOp.drop [_] (oM rfl)),zz⟩ ?_
        exact pt_next _ (Option.some.inj h).symm rfl
      ·intro u41 h hl42 hr43
       obtain ⟨v9, hv9, h⟩ := bind_some h
       refine cond_some h (fun hg7_4 h => ?_) (fun hg7_4 h => ?_)
       ·obtain ⟨v10, hv10, h⟩ := bind_some h
        obtain ⟨v11, hv11, h⟩ := bind_some h
        obtain ⟨v12, hv12, h⟩ := bind_some h
        refine zg hn (_::_::_::_::_::(26,vs v1.1)::(27,vi s26)::(28,.v (.int .u8 v9))::(29,vb (v9 != 45))::(30,vb true)::(31,vs v1.1)::(32,vi s26)::(33,vi s26)::(34,vi v10)::(35,vs v11)::(36,vb v12)::(37,vb (!v12))::(38,vb (!v12))::[]) [0,1,2,3,4] [0,1,2,3,17] [zq [1] 5 26,zq [4] 6 27,zq [5,6] 7 28,zq [7] 8 29,zq [8] 9 30,zq [9,1] 10 31,zq [9,4] 11 32,zq [9,4] 12 33,zq [9,12] 13 34,zq [9,10,11,13] 14 35,zq [9,14,0] 15 36,zq [9,15] 16 37,zq [9,16] 17 38] [(_,_),(_,_),(_,_),(_,_),(_,_)] rfl ⟨z1 rfl,z1 rfl,zp rfl (op_chr _ _ _ s26 _ underlying9 rfl rfl hv9),z4 rfl rfl,z8 hg7_4 rfl,zr' rfl (oM rfl),zr' rfl (oM rfl),zr' rfl (oM rfl),zr' rfl (oB rfl (ibind (f := Value.int .i64) (Option.some.inj hv10))),zr' rfl (op_substr _ _ _ s26 v10 _ underlying9 rfl ⟨_, rfl⟩ ⟨_, rfl⟩ hv11),zr' rfl (op_callG _ _ 40 37 _ _ rfl call37 rfl rfl (fun _ h => h) (ok_path_Domain mx v11 _ hv12) rfl rfl),zr' rfl (op_un _ _ _ _ rfl rfl),z3 true rfl,zz⟩ ?_
        exact hl42 _ (Option.some.inj h).symm
       ·refine zg hn (_::_::_::_::_::(26,vs v1.1)::(27,vi s26)::(28,.v (.int .u8 v9))::(29,vb (v9 != 45))::(30,vb false)::(31,.v undef)::(32,.v undef)::(33,.v undef)::(34,.v undef)::(35,.v undef)::(36,.v undef)::(37,.v undef)::(38,vb false)::[]) [0,1,2,3,4] [0,1,2,3,17] [zq [1] 5 26,zq [4] 6 27,zq [5,6] 7 28,zq [7] 8 29,zq [8] 9 30,zq [9] 10 31,zq [9] 11 32,zq [9] 12 33,zq [9] 13 34,zq [9] 14 35,zq [9] 15 36,zq [9] 16 37,zq [9] 17 38] [(_,_),(_,_),(_,_),(_,_),(_,_)] rfl ⟨z1 rfl,z1 rfl,zp rfl (op_chr _ _ _ s26 _ underlying9 rfl rfl hv9),z4 rfl rfl,z8 hg7_4 rfl,zt rfl,zt rfl,zt rfl,zt rfl,zt rfl,zt rfl,zt rfl,z3 false rfl,zz⟩ ?_
        exact hl42 _ (Option.some.inj h).symm
     ·have h := cond_f hb39 h
      refine ht_exit ?_
      refine pt_x_then ?_
      refine pt_x_then ?_
      refine pt_x_in ?_
      refine pt_pick [0] (by kernel_rfl) (es' := [(_,_)]) rfl ?_
      exact hl34 _ (ho36 _ (Option.some.inj h).symm).symm
  ·intro u4 h hl5 hr6
   refine cond_some h (fun hg2_2 h => ?_) (fun hg2_2 h => ?_)
   ·refine zg hn [_,_,_,(11,vb v1.2),(12,vb (!v1.2)),(13,vb true),(14,.v undef),(15,.v undef),(16,vb true),(17,vb true),(18,.v undef),(19,.v undef),(20,vb true)] [0,1,2] [0,1,12] [zq [2] 3 11,zq [3] 4 12,zq [4] 5 13,zq [5] 6 14,zq [5] 7 15,zq [5] 8 16,zq [8] 9 17,zq [9] 10 18,zq [9] 11 19,zq [9] 12 20] [(_,_),(_,_),(_,_)] rfl ⟨z1 rfl,zp rfl (op_un _ _ _ _ rfl rfl),z8 hg2_2 rfl,zf rfl,zf rfl,z3 true rfl,z1 rfl,zf rfl,zf rfl,z3 true rfl,zz⟩ ?_
    exact hl5 _ (Option.some.inj h).symm
   ·refine cond_some h (fun hg2_6 h => ?_) (fun hg2_6 h => ?_)
    ·refine zg hn [_,_,_,(11,vb v1.2),(12,vb (!v1.2)),(13,vb false),(14,vs v1.1),(15,vb (v1.1.toList == z0.toList)),(16,vb (v1.1.toList == z0.toList)),(17,vb true),(18,.v undef),(19,.v undef),(20,vb true)] [0,1,2] [0,1,12] [zq [2] 3 11,zq [3] 4 12,zq [4] 5 13,zq [5,1] 6 14,zq [5,6] 7 15,zq [5,7] 8 16,zq [8] 9 17,zq [9] 10 18,zq [9] 11 19,zq [9] 12 20] [(_,_),(_,_),(_,_)] rfl ⟨z1 rfl,zp rfl (op_un _ _ _ _ rfl rfl),z8 hg2_2 rfl,zr' rfl (oM rfl),zr' rfl (oB rfl rfl),z3 false rfl,z8 hg2_6 rfl,zf rfl,zf rfl,z3 true rfl,zz⟩ ?_
     exact hl5 _ (Option.some.inj h).symm
    ·obtain ⟨v2, hv2, h⟩ := bind_some h
     refine zg hn [_,_,_,(11,vb v1.2),(12,vb (!v1.2)),(13,vb false),(14,vs v1.1),(15,vb (v1.1.toList == z0.toList)),(16,vb (v1.1.toList == z0.toList)),(17,vb false),(18,vs v1.1),(19,vb v2),(20,vb v2)] [0,1,2] [0,1,12] [zq [2] 3 11,zq [3] 4 12,zq [4] 5 13,zq [5,1] 6 14,zq [5,6] 7 15,zq [5,7] 8 16,zq [8] 9 17,zq [9,1] 10 18,zq [9,10] 11 19,zq [9,11] 12 20] [(_,_),(_,_),(_,_)] rfl ⟨z1 rfl,zp rfl (op_un _ _ _ _ rfl rfl),z8 hg2_2 rfl,zr' rfl (oM rfl),zr' rfl (oB rfl rfl),z3 false rfl,z8 hg2_6 rfl,zr' rfl (oM rfl),zr' rfl (op_call _ _ 36 _ _ rfl call36 rfl (ok_verb_equalFold v1.1 (⟨#[67, 82, 65, 77, 45, 77, 68, 53]⟩ : ByteArray) _ hv2) rfl rfl),z3 false rfl,zz⟩ ?_
     exact hl5 _ (Option.some.inj h).symm
theorem ok_verb_opening (kind : Int) (r : ByteArray) (h : Sh.verb_opening kind = some r) : FnOK Tryz.prog 46 [.v (.int .i64 kind)] (.v (.string r)) := by
  unfold Sh.verb_opening at h
  refine fn_ok func46 rfl (zl rfl) rfl rfl fun g0 hn hio => ?_
  refine zgg hn [_,(2,vs z0)] [0] [0] [zq [] 1 2] [(_,_)] rfl ⟨z2 rfl,zz⟩ ?_
  refine ht_seq ?_
  refine zgg hn [_,(3,vi kind),(4,vb (kind == 2))] [0] [2] [zq [0] 1 3,zq [1] 2 4] [(_,_)] rfl ⟨z1 rfl,z4 rfl rfl,zz⟩ ?_
  refine ht_cond _ rfl (fun hb1 => ?_) (fun hb1 => ?_)
  ·have h := cond_t hb1 h
   refine zgg hn [_,(2,vs (⟨#[77,65,73,76,32,70,82,79,77,58]⟩ : ByteArray))] [0] [1] [zq [] 1 2] [(_,_)] rfl ⟨z2 rfl,zz⟩ ?_
   refine ht_ret ?_
   refine pt_r_then ?_
   obtain rfl := Option.some.inj h
   exact pt_ret hio rfl (.tmp _ _ .nil) rfl rfl
  ·have h := cond_f hb1 h
   refine ht_skip ?_
   refine pt_then ?_
   refine zgg hn [_,(2,vs (⟨#[82,67,80,84,32,84,79,58]⟩ : ByteArray))] [0] [1] [zq [] 1 2] [(_,_)] rfl ⟨z2 rfl,zz⟩ ?_
   refine ht_ret ?_
   obtain rfl := Option.some.inj h
   exact pt_ret hio rfl (.tmp _ _ .nil) rfl rfl
theorem ok_internal_stringslite_HasPrefix (s : ByteArray) (prefix_ : ByteArray) (r : Bool) (h : Sh.internal_stringslite_HasPrefix s prefix_ = some r) : FnOK Tryz.prog 88 [.v (.string s), .v (.string prefix_)] (.v (.bool r)) := by
  unfold Sh.internal_stringslite_HasPrefix at h
  refine fn_ok func88 rfl (zl rfl) rfl rfl fun g0 hn hio => ?_
  refine zgg hn [_,_,(4,vb false)] [0,1] [0,1] [zq [] 2 4] [(_,_),(_,_)] rfl ⟨z2 rfl,zz⟩ ?_
  refine ht_seq ?_
  refine ht_joinS h (fun (s2 : Bool) => [(4, .v (.bool s2))]) ?_ ?_
  ·rintro s2 h
   refine pt_then (ht_ret ?_)
   obtain rfl := Option.some.inj h
   exact pt_ret hio rfl (.tmp _ _ .nil) rfl rfl
  ·intro u3 h hl4 hr5
   refine cond_some h (fun hg1_5 h => ?_) (fun hg1_5 h => ?_)
   ·obtain ⟨v1, hv1, h⟩ := bind_some h
    refine zg hn (_::_::(5,vs s)::(6,vi (s.size : Int))::(7,vs prefix_)::(8,vi (prefix_.size : Int))::(9,vb (decide ((prefix_.size : Int) ≤ (s.size : Int))))::(10,vb true)::(11,vs s)::(12,vs prefix_)::(13,vi (prefix_.size : Int))::(14,vs v1)::(15,vs prefix_)::(16,vb (v1.toList == prefix_.toList))::(17,vb (v1.toList == prefix_.toList))::(4,vb (v1.toList == prefix_.toList))::[]) [0,1] [15] [zq [0] 2 5,zq [2] 3 6,zq [1] 4 7,zq [4] 5 8,zq [3,5] 6 9,zq [6] 7 10,zq [7,0] 8 11,zq [7,1] 9 12,zq [7,9] 10 13,zq [7,8,10] 11 14,zq [7,1] 12 15,zq [7,11,12] 13 16,zq [7,13] 14 17,zq [14] 15 4] [(_,_)] rfl ⟨z1 rfl,zp rfl (oN underlying9 rfl),z1 rfl,zp rfl (oN underlying9 rfl),z4 rfl rfl,z8 hg1_5 rfl,zr' rfl (oM rfl),zr' rfl (oM rfl),zr' rfl (oN underlying9 rfl),zr' rfl (op_substr _ _ _ 0 (prefix_.size : Int) _ underlying9 rfl rfl ⟨_, rfl⟩ hv1),zr' rfl (oM rfl),zr' rfl (oB rfl rfl),z3 true rfl,z2 rfl,zz⟩ ?_
    exact hl4 _ (Option.some.inj h).symm
   ·refine zg hn (_::_::(5,vs s)::(6,vi (s.size : Int))::(7,vs prefix_)::(8,vi (prefix_.size : Int))::(9,vb (decide ((prefix_.size : Int) ≤ (s.size : Int))))::(10,vb false)::(11,.v undef)::(12,.v undef)::(13,.v undef)::(14,.v undef)::(15,.v undef)::(16,.v undef)::(17,vb false)::(4,vb false)::[]) [0,1] [15] [zq [0] 2 5,zq [2] 3 6,zq [1] 4 7,zq [4] 5 8,zq [3,5] 6 9,zq [6] 7 10,zq [7] 8 11,zq [7] 9 12,zq [7] 10 13,zq [7] 11 14,zq [7] 12 15,zq [7] 13 16,zq [7] 14 17,zq [14] 15 4] [(_,_)] rfl ⟨z1 rfl,zp rfl (oN underlying9 rfl),z1 rfl,zp rfl (oN underlying9 rfl),z4 rfl rfl,z8 hg1_5 rfl,zt rfl,zt rfl,zt rfl,zt rfl,zt rfl,zt rfl,z3 false rfl,z2 rfl,zz⟩ ?_
    exact hl4 _ (Option.some.inj h).symm
theorem ok_internal_stringslite_CutPrefix (s : ByteArray) (prefix_ : ByteArray) (r : (ByteArray × Bool)) (h : Sh.internal_stringslite_CutPrefix s prefix_ = some r) : FnOK Tryz.prog 78 [.v (.string s), .v (.string prefix_)] (.tup [.v (.string r.1), .v (.bool r.2)]) := by
  unfold Sh.internal_stringslite_CutPrefix at h
  refine fn_ok func78 rfl (zl rfl) rfl rfl fun g0 hn hio => ?_
  refine zgg hn [_,_,(4,vs z0),(5,vb false)] [0,1] [0,1] [zq [] 2 4,zq [] 3 5] [(_,_),(_,_)] rfl ⟨z2 rfl,z2 rfl,zz⟩ ?_
  refine ht_seq ?_
  refine ht_seq ?_
  obtain ⟨v1, hv1, h⟩ := bind_some h
  refine zg hn [_,_,(6,vs s),(7,vs prefix_),(8,vb v1),(9,vb (!v1))] [0,1] [0,1,5] [zq [0] 2 6,zq [1] 3 7,zq [2,3] 4 8,zq [4] 5 9] [(_,_),(_,_),(_,_)] rfl ⟨z1 rfl,z1 rfl,zp rfl (op_call _ _ 88 _ _ rfl call88 rfl (ok_internal_stringslite_HasPrefix s prefix_ _ hv1) rfl rfl),zp rfl (op_un _ _ _ _ rfl rfl),zz⟩ ?_
  refine pt_then ?_
  refine ht_cond _ rfl (fun hb2 => ?_) (fun hb2 => ?_)
  ·have h := cond_t hb2 h
   refine zgg hn [_,_,_,(10,vs s),(4,vs s),(5,vb false)] [0,1,2] [4,5] [zq [0] 3 10,zq [3] 4 4,zq [] 5 5] [(_,_),(_,_)] rfl ⟨z1 rfl,z2 rfl,z2 rfl,zz⟩ ?_
   refine ht_ret ?_
   refine pt_r_then ?_
   obtain rfl := Option.some.inj h
   exact pt_ret hio rfl (.tmp _ _ (.tmp _ _ .nil)) rfl rfl
  ·have h := cond_f hb2 h
   refine ht_skip ?_
   refine pt_then (ht_seq ?_)
   obtain ⟨v3, hv3, h⟩ := bind_some h
   refine zg hn [_,_,_,(11,vs s),(12,vs prefix_),(13,vi (prefix_.size : Int)),(14,vs v3),(4,vs v3),(5,vb true)] [0,1,2] [7,8] [zq [0] 3 11,zq [1] 4 12,zq [4] 5 13,zq [3,5] 6 14,zq [6] 7 4,zq [] 8 5] [(_,_),(_,_)] rfl ⟨z1 rfl,z1 rfl,zp rfl (oN underlying9 rfl),zp rfl (op_substr _ _ _ (prefix_.size : Int) (s.size : Int) _ underlying9 rfl ⟨_, rfl⟩ rfl hv3),z2 rfl,z2 rfl,zz⟩ ?_
   refine pt_then (ht_ret ?_)
   obtain rfl := Option.some.inj h
   exact pt_ret hio rfl (.tmp _ _ (.tmp _ _ .nil)) rfl rfl
theorem ok_strings_CutPrefix (s : ByteArray) (prefix_ : ByteArray) (r : (ByteArray × Bool)) (h : Sh.strings_CutPrefix s prefix_ = some r) : FnOK Tryz.prog 65 [.v (.string s), .v (.string prefix_)] (.tup [.v (.string r.1), .v (.bool r.2)]) := by
  unfold Sh.strings_CutPrefix at h
  refine fn_ok func65 rfl (zl rfl) rfl rfl fun g0 hn hio => ?_
  refine zgg hn [_,_,(4,vs z0),(5,vb false)] [0,1] [0,1] [zq [] 2 4,zq [] 3 5] [(_,_),(_,_)] rfl ⟨z2 rfl,z2 rfl,zz⟩ ?_
  refine ht_seq ?_
  obtain ⟨v1, hv1, h⟩ := bind_some h
  refine zg hn [_,_,(6,vs s),(7,vs prefix_),(8,.tup [vs v1.1,vb v1.2]),(9,vs v1.1),(10,vb v1.2),(4,vs v1.1),(5,vb v1.2)] [0,1] [7,8] [zq [0] 2 6,zq [1] 3 7,zq [2,3] 4 8,zq [4] 5 9,zq [4] 6 10,zq [5] 7 4,zq [6] 8 5] [(_,_),(_,_)] rfl ⟨z1 rfl,z1 rfl,zp rfl (op_call _ _ 78 _ _ rfl call78 rfl (ok_internal_stringslite_CutPrefix s prefix_ _ hv1) rfl rfl),zp rfl (oE rfl),zp rfl (oE rfl),z2 rfl,z2 rfl,zz⟩ ?_
  refine pt_then (ht_ret ?_)
  obtain rfl := Option.some.inj h
  exact pt_ret hio rfl (.tmp _ _ (.tmp _ _ .nil)) rfl rfl
theorem ok_internal_stringslite_HasSuffix (s : ByteArray) (suffix : ByteArray) (r : Bool) (h : Sh.internal_stringslite_HasSuffix s suffix = some r) : FnOK Tryz.prog 89 [.v (.string s), .v (.string suffix)] (.v (.bool r)) := by
  unfold Sh.internal_stringslite_HasSuffix at h
  refine fn_ok func89 rfl (zl rfl) rfl rfl fun g0 hn hio => ?_
  refine zgg hn [_,_,(4,vb false)] [0,1] [0,1] [zq [] 2 4] [(_,_),(_,_)] rfl ⟨z2 rfl,zz⟩ ?_
  refine ht_seq ?_
  refine ht_joinS h (fun (s3 : Bool) => [(4, .v (.bool s3))]) ?_ ?_
  ·rintro s3 h
   refine pt_then (ht_ret ?_)
   obtain rfl := Option.some.inj h
   exact pt_ret hio rfl (.tmp _ _ .nil) rfl rfl
  ·intro u4 h hl5 hr6
   refine cond_some h (fun hg1_5 h => ?_) (fun hg1_5 h => ?_)
   ·obtain ⟨v1, hv1, h⟩ := bind_some h
    obtain ⟨v2, hv2, h⟩ := bind_some h
    refine zg hn (_::_::(5,vs s)::(6,vi (s.size : Int))::(7,vs suffix)::(8,vi (suffix.size : Int))::(9,vb (decide ((suffix.size : Int) ≤ (s.size : Int))))::(10,vb true)::(11,vs s)::(12,vs s)::(13,vi (s.size : Int))::(14,vs suffix)::(15,vi (suffix.size : Int))::(16,vi v1)::(17,vs v2)::(18,vs suffix)::(19,vb (v2.toList == suffix.toList))::(20,vb (v2.toList == suffix.toList))::(4,vb (v2.toList == suffix.toList))::[]) [0,1] [18] (zq [0] 2 5::zq [2] 3 6::zq [1] 4 7::zq [4] 5 8::zq [3,5] 6 9::zq [6] 7 10::zq [7,0] 8 11::zq [7,0] 9 12::zq [7,9] 10 13::zq [7,1] 11 14::zq [7,11] 12 15::zq [7,10,12] 13 16::zq [7,8,13] 14 17::zq [7,1] 15 18::zq [7,14,15] 16 19::zq [7,16] 17 20::zq [17] 18 4::[]) [(_,_)] rfl ⟨z1 rfl,zp rfl (oN underlying9 rfl),z1 rfl,zp rfl (oN underlying9 rfl),z4 rfl rfl,z8 hg1_5 rfl,zr' rfl (oM rfl),zr' rfl (oM rfl),zr' rfl (oN underlying9 rfl),zr' rfl (oM rfl),zr' rfl (oN underlying9 rfl),zr' rfl (oB rfl (ibind (f := Value.int .i64) (Option.some.inj hv1))),zr' rfl (op_substr _ _ _ v1 (s.size : Int) _ underlying9 rfl ⟨_, rfl⟩ rfl hv2),zr' rfl (oM rfl),zr' rfl (oB rfl rfl),z3 true rfl,z2 rfl,zz⟩ ?_
    exact hl5 _ (Option.some.inj h).symm
   ·refine zg hn (_::_::(5,vs s)::(6,vi (s.size : Int))::(7,vs suffix)::(8,vi (suffix.size : Int))::(9,vb (decide ((suffix.size : Int) ≤ (s.size : Int))))::(10,vb false)::(11,.v undef)::(12,.v undef)::(13,.v undef)::(14,.v undef)::(15,.v undef)::(16,.v undef)::(17,.v undef)::(18,.v undef)::(19,.v undef)::(20,vb false)::(4,vb false)::[]) [0,1] [18] (zq [0] 2 5::zq [2] 3 6::zq [1] 4 7::zq [4] 5 8::zq [3,5] 6 9::zq [6] 7 10::zq [7] 8 11::zq [7] 9 12::zq [7] 10 13::zq [7] 11 14::zq [7] 12 15::zq [7] 13 16::zq [7] 14 17::zq [7] 15 18::zq [7] 16 19::zq [7] 17 20::zq [17] 18 4::[]) [(_,_)] rfl ⟨z1 rfl,zp rfl (oN underlying9 rfl),z1 rfl,zp rfl (oN underlying9 rfl),z4 rfl rfl,z8 hg1_5 rfl,zt rfl,zt rfl,zt rfl,zt rfl,zt rfl,zt rfl,zt rfl,zt rfl,zt rfl,z3 false rfl,z2 rfl,zz⟩ ?_
    exact hl5 _ (Option.some.inj h).symm
theorem ok_internal_stringslite_CutSuffix (s : ByteArray) (suffix : ByteArray) (r : (ByteArray × Bool)) (h : Sh.internal_stringslite_CutSuffix s suffix = some r) : FnOK Tryz.prog 79 [.v (.string s), .v (.string suffix)] (.tup [.v (.string r.1), .v (.bool r.2)]) := by
  unfold Sh.internal_stringslite_CutSuffix at h
  refine fn_ok func79 rfl (zl rfl) rfl rfl fun g0 hn hio => ?_
  refine zgg hn [_,_,(4,vs z0),(5,vb false)] [0,1] [0,1] [zq [] 2 4,zq [] 3 5] [(_,_),(_,_)] rfl ⟨z2 rfl,z2 rfl,zz⟩ ?_
  refine ht_seq ?_
  refine ht_seq ?_
  obtain ⟨v1, hv1, h⟩ := bind_some h
  refine zg hn [_,_,(6,vs s),(7,vs suffix),(8,vb v1),(9,vb (!v1))] [0,1] [0,1,5] [zq [0] 2 6,zq [1] 3 7,zq [2,3] 4 8,zq [4] 5 9] [(_,_),(_,_),(_,_)] rfl ⟨z1 rfl,z1 rfl,zp rfl (op_call _ _ 89 _ _ rfl call89 rfl (ok_internal_stringslite_HasSuffix s suffix _ hv1) rfl rfl),zp rfl (op_un _ _ _ _ rfl rfl),zz⟩ ?_
  refine pt_then ?_
  refine ht_cond _ rfl (fun hb2 => ?_) (fun hb2 => ?_)
  ·have h := cond_t hb2 h
   refine zgg hn [_,_,_,(10,vs s),(4,vs s),(5,vb false)] [0,1,2] [4,5] [zq [0] 3 10,zq [3] 4 4,zq [] 5 5] [(_,_),(_,_)] rfl ⟨z1 rfl,z2 rfl,z2 rfl,zz⟩ ?_
   refine ht_ret ?_
   refine pt_r_then ?_
   obtain rfl := Option.some.inj h
   exact pt_ret hio rfl (.tmp _ _ (.tmp _ _ .nil)) rfl rfl
  ·have h := cond_f hb2 h
   refine ht_skip ?_
   refine pt_then (ht_seq ?_)
   obtain ⟨v3, hv3, h⟩ := bind_some h
   obtain ⟨v4, hv4, h⟩ := bind_some h
   refine zg hn [_,_,_,(11,vs s),(12,vs s),(13,vi (s.size : Int)),(14,vs suffix),(15,vi (suffix.size : Int)),(16,vi v3),(17,vs v4),(4,vs v4),(5,vb true)] [0,1,2] [10,11] [zq [0] 3 11,zq [0] 4 12,zq [4] 5 13,zq [1] 6 14,zq [6] 7 15,zq [5,7] 8 16,zq [3,8] 9 17,zq [9] 10 4,zq [] 11 5] [(_,_),(_,_)] rfl ⟨z1 rfl,z1 rfl,zp rfl (oN underlying9 rfl),z1 rfl,zp rfl (oN underlying9 rfl),zp rfl (oB rfl (ibind (f := Value.int .i64) (Option.some.inj hv3))),zp rfl (op_substr _ _ _ 0 v3 _ underlying9 rfl rfl ⟨_, rfl⟩ hv4),z2 rfl,z2 rfl,zz⟩ ?_
   refine pt_then (ht_ret ?_)
   obtain rfl := Option.some.inj h
   exact pt_ret hio rfl (.tmp _ _ (.tmp _ _ .nil)) rfl rfl
theorem ok_strings_CutSuffix (s : ByteArray) (suffix : ByteArray) (r : (ByteArray × Bool)) (h : Sh.strings_CutSuffix s suffix = some r) : FnOK Tryz.prog 66 [.v (.string s), .v (.string suffix)] (.tup [.v (.string r.1), .v (.bool r.2)]) := by
  unfold Sh.strings_CutSuffix at h
  refine fn_ok func66 rfl (zl rfl) rfl rfl fun g0 hn hio => ?_
  refine zgg hn [_,_,(4,vs z0),(5,vb false)] [0,1] [0,1] [zq [] 2 4,zq [] 3 5] [(_,_),(_,_)] rfl ⟨z2 rfl,z2 rfl,zz⟩ ?_
  refine ht_seq ?_
  obtain ⟨v1, hv1, h⟩ := bind_some h
  refine zg hn [_,_,(6,vs s),(7,vs suffix),(8,.tup [vs v1.1,vb v1.2]),(9,vs v1.1),(10,vb v1.2),(4,vs v1.1),(5,vb v1.2)] [0,1] [7,8] [zq [0] 2 6,zq [1] 3 7,zq [2,3] 4 8,zq [4] 5 9,zq [4] 6 10,zq [5] 7 4,zq [6] 8 5] [(_,_),(_,_)] rfl ⟨z1 rfl,z1 rfl,zp rfl (op_call _ _ 79 _ _ rfl call79 rfl (ok_internal_stringslite_CutSuffix s suffix _ hv1) rfl rfl),zp rfl (oE rfl),zp rfl (oE rfl),z2 rfl,z2 rfl,zz⟩ ?_
  refine pt_then (ht_ret ?_)
  obtain rfl := Option.some.inj h
  exact pt_ret hio rfl (.tmp _ _ (.tmp _ _ .nil)) rfl rfl
theorem ok_strings_IndexByte (s : ByteArray) (c r : Int) (h : Sh.strings_IndexByte s c = some r) : FnOK Tryz.prog 92 [.v (.string s), .v (.int .u8 c)] (.v (.int .i64 r)) := lib_strings_IndexByte Tryz.strings_IndexByte s c r h
theorem ok_path_atom_1 (c : Int) (r : Bool) (h : Sh.path_atom_1 c = some r) : FnOK Tryz.prog 91 [.v (.int .u8 c)] (.v (.bool r)) := by
  unfold Sh.path_atom_1 at h
  refine fn_ok func91 rfl (zl rfl) rfl rfl fun g0 hn hio => ?_
  refine zgg hn [_,(2,vb false)] [0] [0] [zq [] 1 2] [(_,_)] rfl ⟨z2 rfl,zz⟩ ?_
  refine ht_seq ?_
  refine ht_joinS h (fun (s3 : Bool) => [(2, .v (.bool s3))]) ?_ ?_
  ·rintro s3 h
   refine pt_then (ht_ret ?_)
   obtain rfl := Option.some.inj h
   exact pt_ret hio rfl (.tmp _ _ .nil) rfl rfl
  ·intro u4 h hl5 hr6
   obtain ⟨v1, hv1, h⟩ := bind_some h
   refine cond_some h (fun hg1_2 h => ?_) (fun hg1_2 h => ?_)
   ·refine zg hn [_,(3,.v (.int .u8 c)),(4,vb v1),(5,vb true),(6,.v undef),(7,.v undef),(8,.v undef),(9,vb true),(2,vb true)] [0] [8] [zq [0] 1 3,zq [1] 2 4,zq [2] 3 5,zq [3] 4 6,zq [3] 5 7,zq [3] 6 8,zq [3] 7 9,zq [7] 8 2] [(_,_)] rfl ⟨z1 rfl,zp rfl (op_call _ _ 64 _ _ rfl call64 rfl (ok_path_alphanumeric c _ hv1) rfl rfl),z8 hg1_2 rfl,zf rfl,zf rfl,zf rfl,z3 true rfl,z2 rfl,zz⟩ ?_
    exact hl5 _ (Option.some.inj h).symm
   ·obtain ⟨v2, hv2, h⟩ := bind_some h
    refine zg hn [_,(3,.v (.int .u8 c)),(4,vb v1),(5,vb false),(6,.v (.int .u8 c)),(7,vi v2),(8,vb (decide (0 ≤ v2))),(9,vb (decide (0 ≤ v2))),(2,vb (decide (0 ≤ v2)))] [0] [8] [zq [0] 1 3,zq [1] 2 4,zq [2] 3 5,zq [3,0] 4 6,zq [3,4] 5 7,zq [3,5] 6 8,zq [3,6] 7 9,zq [7] 8 2] [(_,_)] rfl ⟨z1 rfl,zp rfl (op_call _ _ 64 _ _ rfl call64 rfl (ok_path_alphanumeric c _ hv1) rfl rfl),z8 hg1_2 rfl,zr' rfl (oM rfl),zr' rfl (op_call _ _ 92 _ _ rfl call92 rfl (ok_strings_IndexByte (⟨#[33, 35, 36, 37, 38, 39, 42, 43, 45, 47, 61, 63, 94, 95, 96, 123, 124, 125, 126]⟩ : ByteArray) c _ hv2) rfl rfl),zr' rfl (oB rfl rfl),z3 false rfl,z2 rfl,zz⟩ ?_
    exact hl5 _ (Option.some.inj h).symm
theorem ok_path_all_of_path_atom_1 (s : ByteArray) (r : Bool) (h : Sh.path_all_of_path_atom_1 s = some r) : FnOK Tryz.prog 62 [.v (.string s), .v (.func (.func 91) #[] #[])] (.v (.bool r)) := by
  unfold Sh.path_all_of_path_atom_1 at h
  refine fn_ok func62 rfl (zl rfl) rfl rfl fun g0 hn hio => ?_
  refine zgg hn [_,_,(4,vb false)] [0,1] [0,1] [zq [] 2 4] [(_,_),(_,_)] rfl ⟨z2 rfl,zz⟩ ?_
  refine ht_seq ?_
  refine zgg hn [_,_,(6,vs s),(7,vi (s.size : Int)),(8,vi 0)] [0,1] [0,1,3,4] [zq [0] 2 6,zq [2] 3 7,zq [] 4 8] [(_,_),(_,_),(_,_),(_,_)] rfl ⟨z1 rfl,zp rfl (oN underlying9 rfl),z1 rfl,zz⟩ ?_
  refine ht_loopS h (fun (s9 : Int) => [(0, .v (.string s)), (1, .v (.func (.func 91) #[] #[])), (7, .v (.int .i64 (s.size : Int))), (8, .v (.int .i64 s9))]) (fun (() : Unit) => []) ?_ ?_
  ·rintro ⟨⟩ h
   refine pt_then ?_
   refine zgg hn [(4,vb true)] [] [0] [zq [] 0 4] [(_,_)] rfl ⟨z2 rfl,zz⟩ ?_
   refine ht_ret ?_
   obtain rfl := Option.some.inj h
   exact pt_ret hio rfl (.tmp _ _ .nil) rfl rfl
  ·rintro u12 hl13 hr14 s9 rr17 h ho15
   refine zgg hn [_,_,_,_,(9,vb (decide (s9 < (s.size : Int))))] [0,1,2,3] [0,1,2,3,4] [zq [3,2] 4 9] [(_,_),(_,_),(_,_),(_,_),(_,_)] rfl ⟨z4 rfl rfl,zz⟩ ?_
   refine ht_seq ?_
   refine ht_cond _ rfl (fun hb18 => ?_) (fun hb18 => ?_)
   ·have h := cond_t hb18 h
    refine ht_skip ?_
    refine pt_then (ht_seq ?_)
    refine ht_block ?_
    refine zgg hn [_,_,_,_,_,(10,vi s9),(5,vi s9)] [0,1,2,3,4] [0,1,2,3,6] [zq [3] 5 10,zq [5] 6 5] [(_,_),(_,_),(_,_),(_,_),(_,_)] rfl ⟨z1 rfl,z2 rfl,zz⟩ ?_
    refine ht_seq ?_
    obtain ⟨v2, hv2, h⟩ := bind_some h
    obtain ⟨v3, hv3, h⟩ := bind_some h
    refine zg hn [_,_,_,_,_,(11,.v (.func (.func 91) #[] #[])),(12,vs s),(13,vi s9),(14,.v (.int .u8 v2)),(15,vb v3),(16,vb (!v3))] [0,1,2,3,4] [0,1,2,3,10] [zq [1] 5 11,zq [0] 6 12,zq [4] 7 13,zq [6,7] 8 14,zq [8,5] 9 15,zq [9] 10 16] [(_,_),(_,_),(_,_),(_,_),(_,_)] rfl ⟨z1 rfl,z1 rfl,z1 rfl,zp rfl (op_chr _ _ _ s9 _ underlying9 rfl rfl hv2),zp rfl (op_call _ _ 91 _ _ rfl call91 rfl (ok_path_atom_1 v2 _ hv3) rfl rfl),zp rfl (op_un _ _ _ _ rfl rfl),zz⟩ ?_
    refine pt_then ?_
    refine ht_cond _ rfl (fun hb19 => ?_) (fun hb19 => ?_)
    ·have h := cond_t hb19 h
     refine zgg hn [_,_,_,_,_,(4,vb false)] [0,1,2,3,4] [5] [zq [] 5 4] [(_,_)] rfl ⟨z2 rfl,zz⟩ ?_
     refine ht_ret ?_
     refine pt_r_in ?_
     refine pt_r_then ?_
     refine pt_r_then ?_
     refine pt_r_in ?_
     refine pt_r_then ?_
     have h := hr14 _ (ho15 _ (Option.some.inj h).symm).symm
     obtain rfl := Option.some.inj h
     exact pt_ret hio rfl (.tmp _ _ .nil) rfl rfl
    ·have h := cond_f hb19 h
     refine ht_skip ?_
     refine pt_inb ?_
     refine pt_then ?_
     obtain ⟨v5, hv5, h⟩ := bind_some h
     refine zg hn [_,_,_,_,_,(17,vi v5),(8,vi v5)] [0,1,2,3,4] [0,1,2,6] [zq [3] 5 17,⟨[5],[3],[6],[(.slot 8)]⟩] [(_,_),(_,_),(_,_),(_,_)] rfl ⟨zp rfl (oB rfl (ibind (f := Value.int .i64) (Option.some.inj hv5))),zp rfl (LOp.drop [_] (oM rfl)),zz⟩ ?_
     exact pt_next _ (Option.some.inj h).symm rfl
   ·have h := cond_f hb18 h
    refine ht_exit ?_
    refine pt_x_then ?_
    refine pt_x_then ?_
    refine pt_x_in ?_
    refine pt_pick [] (by kernel_rfl) (es' := []) rfl ?_
    exact hl13 _ (ho15 _ (Option.some.inj h).symm).symm
theorem ok_path_atom (s : ByteArray) (r : Bool) (h : Sh.path_atom s = some r) : FnOK Tryz.prog 83 [.v (.string s)] (.v (.bool r)) := by
  unfold Sh.path_atom at h
  refine fn_ok func83 rfl (zl rfl) rfl rfl fun g0 hn hio => ?_
  refine zgg hn [_,(2,vb false)] [0] [0] [zq [] 1 2] [(_,_)] rfl ⟨z2 rfl,zz⟩ ?_
  refine ht_seq ?_
  refine ht_joinS h (fun (s2 : Bool) => [(2, .v (.bool s2))]) ?_ ?_
  ·rintro s2 h
   refine pt_then (ht_ret ?_)
   obtain rfl := Option.some.inj h
   exact pt_ret hio rfl (.tmp _ _ .nil) rfl rfl
  ·intro u3 h hl4 hr5
   refine cond_some h (fun hg1_2 h => ?_) (fun hg1_2 h => ?_)
   ·obtain ⟨v1, hv1, h⟩ := bind_some h
    refine zg hn [_,(3,vs s),(4,vb (!(s.toList == z0.toList))),(5,vb true),(6,vs s),(7,vb v1),(8,vb v1),(2,vb v1)] [0] [7] [zq [0] 1 3,zq [1] 2 4,zq [2] 3 5,zq [3,0] 4 6,zq [3,4] 5 7,zq [3,5] 6 8,zq [6] 7 2] [(_,_)] rfl ⟨z1 rfl,z4 rfl rfl,z8 hg1_2 rfl,zr' rfl (oM rfl),zr' rfl (op_call _ _ 62 _ _ rfl call62 rfl (ok_path_all_of_path_atom_1 s _ hv1) rfl rfl),z3 true rfl,z2 rfl,zz⟩ ?_
    exact hl4 _ (Option.some.inj h).symm
   ·refine zg hn [_,(3,vs s),(4,vb (!(s.toList == z0.toList))),(5,vb false),(6,.v undef),(7,.v undef),(8,vb false),(2,vb false)] [0] [7] [zq [0] 1 3,zq [1] 2 4,zq [2] 3 5,zq [3] 4 6,zq [3] 5 7,zq [3] 6 8,zq [6] 7 2] [(_,_)] rfl ⟨z1 rfl,z4 rfl rfl,z8 hg1_2 rfl,zt rfl,zt rfl,z3 false rfl,z2 rfl,zz⟩ ?_
    exact hl4 _ (Option.some.inj h).symm
theorem ok_path_dotted_of_path_atom (mx : Int) (s : ByteArray) (r : Bool) (h : Sh.path_dotted_of_path_atom s = some r) : FnG Tryz.prog (GL mx) 51 [.v (.string s), .v (.func (.func 83) #[] #[])] (.v (.bool r)) := by
  unfold Sh.path_dotted_of_path_atom at h
  refine fn_okG func51 rfl (zl rfl) rfl rfl fun g0 hn hio => ?_
  refine zgg hn [_,_,_,(3,.box 48 [.v (.func (.func 83) #[] #[])]),(4,.box 4 [vb false])] [0,1,2] [0,2,3,4] [zq [1] 3 3,zq [] 4 4] [(_,_),(_,_),(_,_),(_,_)] rfl ⟨zp rfl (op_box _ _ _ _ rfl rfl rfl),zp rfl (op_alloc _ _ zr4),zz⟩ ?_
  refine ht_seq ?_
  refine ht_seq ?_
  obtain ⟨v1, hv1, h⟩ := bind_some h
  refine zg hn [_,_,_,_,(6,vs s),(7,.cloB 86 [.box 9 [vs v1.1],.box 9 [vs v1.2.1],.box 3 [vi v1.2.2]])] [0,1,2,3] [1,2,3,5] [zq [0] 4 6,zq [4] 5 7] [(_,_),(_,_),(_,_),(_,_)] rfl ⟨z1 rfl,zp rfl (op_callS _ _ 61 _ _ rfl call61 rfl rfl (ok_strings_SplitSeq s (⟨#[46]⟩ : ByteArray) _ hv1) rfl),zz⟩ ?_
  refine pt_then ?_
  refine ht_block ?_
  refine ht_pick [3, 0, 1, 2] (by kernel_rfl) (es' := [(7, .cloB 86 [.box 9 [.v (.string v1.1)], .box 9 [.v (.string v1.2.1)], .box 3 [.v (.int .i64 v1.2.2)]]), (13, .glob (GL mx)), (3, .box 48 [.v (.func (.func 83) #[] #[])]), (4, .box 4 [.v (.bool false)])]) rfl ?_
  refine ht_rangeF h 86 7 8 14 _ [13, 3, 4] call86 (fun (() : Unit) => [(13, .glob (GL mx)), (3, .box 48 [.v (.func (.func 83) #[] #[])]), (4, .box 4 [.v (.bool false)])]) (fun (() : Unit) => [(13, .glob (GL mx)), (3, .box 48 [.v (.func (.func 83) #[] #[])]), (4, .box 4 [.v (.bool false)])]) (fun l J Y hY t t' h => ok_strings_splitSeq_1 mx l J Y hY v1.1 v1.2.1 v1.2.2 t t' h) hn rfl (fun _ => rfl) (fun _ => rfl) (fun _ => rfl) rfl rfl (fun _ => ⟨rfl, rfl⟩) rfl (glIn_look 13 rfl) ?_ ?_ ?_
  ·rintro kk g0 hn hio x ⟨⟩ u h
   refine ht_es (es' := [(8, .v (.string x)), (13, .glob (GL mx)), (3, .box 48 [.v (.func (.func 83) #[] #[])]), (4, .box 4 [.v (.bool false)]), (13, .v (kk.tm.getD 13 undef)), (3, .v (kk.tm.getD 3 undef)), (4, .v (kk.tm.getD 4 undef)), (14, .inv kk.ready)]) rfl ?_
   refine zg hn [_,_,_,_,_,_,_,_,(5,vs x)] [0,1,2,3,4,5,6,7] [1,2,3,4,5,6,7,8] [zq [0] 8 5] [(_,_),(_,_),(_,_),(_,_),(_,_),(_,_),(_,_),(_,_)] rfl ⟨z2 rfl,zz⟩ ?_
   refine pt_pick [0, 1, 2, 3, 4, 5, 7, 6] (by kernel_rfl) (es' := [(13, .glob (GL mx)), (3, .box 48 [.v (.func (.func 83) #[] #[])]), (4, .box 4 [.v (.bool false)]), (13, .v (kk.tm.getD 13 undef)), (3, .v (kk.tm.getD 3 undef)), (4, .v (kk.tm.getD 4 undef)), (5, .v (.string x)), (14, .inv kk.ready)]) rfl ?_
   refine pt_begin (es := [(13, .glob (GL mx)), (3, .box 48 [.v (.func (.func 83) #[] #[])]), (4, .box 4 [.v (.bool false)]), (13, .v (kk.tm.getD 13 undef)), (3, .v (kk.tm.getD 3 undef)), (4, .v (kk.tm.getD 4 undef)), (5, .v (.string x))]) 14 rfl ?_
   refine ht_block ?_
   refine ht_seq ?_
   obtain ⟨v2, hv2, h⟩ := bind_some h
   refine zg hn [_,_,_,_,_,_,_,_,(9,.v (.func (.func 83) #[] #[])),(10,vs x),(11,vb v2),(12,vb (!v2))] [0,1,2,3,4,5,6,7] [0,1,2,3,4,5,7,11] [zq [1] 8 9,zq [6] 9 10,zq [9,8] 10 11,zq [10] 11 12] [(_,_),(_,_),(_,_),(_,_),(_,_),(_,_),(_,_),(_,_)] rfl ⟨zp rfl (oL underlying48 rfl),z1 rfl,zp rfl (op_call _ _ 83 _ _ rfl call83 rfl (ok_path_atom x _ hv2) rfl rfl),zp rfl (op_un _ _ _ _ rfl rfl),zz⟩ ?_
   refine pt_then ?_
   refine ht_cond _ rfl (fun hb5 => ?_) (fun hb5 => ?_)
   ·have h := cond_t hb5 h
    refine zgg hn [_,_,_,_,_,_,_,_,(4,.box 4 [vb false])] [0,1,2,3,4,5,6,7] [0,1,8,3,4,5,6] [⟨[],[2],[8],[.cell 4 0]⟩] [(_,_),(_,_),(_,_),(_,_),(_,_),(_,_),(_,_)] rfl ⟨zp rfl (oS sz4 rfl),zz⟩ ?_
    refine ht_ret ?_
    refine pt_r_in ?_
    obtain rfl := Option.some.inj h
    exact pt_rret 14 [13, 3, 4] _ rfl rfl (by kernel_rfl)
   ·have h := cond_f hb5 h
    refine ht_skip ?_
    refine pt_inb ?_
    refine pt_pick [0, 1, 2, 3, 4, 5, 6] (by kernel_rfl) (es' := [(_,_),(_,_),(_,_),(_,_),(_,_),(_,_),(_,_)]) rfl ?_
    obtain rfl := Option.some.inj h
    exact pt_rnext 14 [13, 3, 4] _ rfl rfl (by kernel_rfl)
  ·rintro D ⟨⟩ h
   refine pt_inb ?_
   refine pt_then ?_
   refine zgg hn [_,_,_,(4,.box 4 [vb true])] [0,1,2] [0,3] [⟨[],[2],[3],[.cell 4 0]⟩] [(_,_),(_,_)] rfl ⟨zp rfl (oS sz4 rfl),zz⟩ ?_
   refine ht_ret ?_
   refine pt_pick [1] (by kernel_rfl) (es' := [(_,_)]) rfl ?_
   obtain rfl := Option.some.inj h
   exact pt_ret hio rfl (.cell1 _ _ _ _ underlying4 rfl .nil) rfl rfl
  ·rintro D ⟨⟩ h
   refine pt_pick [2] (by kernel_rfl) (es' := [(_,_)]) rfl ?_
   refine pt_r_in ?_
   refine pt_r_then ?_
   obtain rfl := Option.some.inj h
   exact pt_ret hio rfl (.cell1 _ _ _ _ underlying4 rfl .nil) rfl rfl
theorem ok_path_local (mx : Int) (s : ByteArray) (r : Bool) (h : Sh.path_local s = some r) : FnG Tryz.prog (GL mx) 71 [.v (.string s)] (.v (.bool r)) := by
  unfold Sh.path_local at h
  refine fn_okG func71 rfl (zl rfl) rfl rfl fun g0 hn hio => ?_
  refine zgg hn [_,_,(2,vb false)] [0,1] [0,1] [zq [] 2 2] [(_,_),(_,_)] rfl ⟨z2 rfl,zz⟩ ?_
  refine ht_seq ?_
  refine ht_joinS h (fun (s2 : Bool) => [(10, .glob (GL mx)), (2, .v (.bool s2))]) ?_ ?_
  ·rintro s2 h
   refine pt_then (ht_ret ?_)
   refine pt_pick [1] (by kernel_rfl) (es' := [(_,_)]) rfl ?_
   obtain rfl := Option.some.inj h
   exact pt_ret hio rfl (.tmp _ _ .nil) rfl rfl
  ·intro u3 h hl4 hr5
   refine cond_some h (fun hg1_3 h => ?_) (fun hg1_3 h => ?_)
   ·obtain ⟨v1, hv1, h⟩ := bind_some h
    refine zg hn [_,_,(3,vs s),(4,vi (s.size : Int)),(5,vb (decide ((s.size : Int) ≤ 64))),(6,vb true),(7,vs s),(8,vb v1),(9,vb v1),(2,vb v1)] [0,1] [1,9] [zq [0] 2 3,zq [2] 3 4,zq [3] 4 5,zq [4] 5 6,zq [5,0] 6 7,zq [5,6,1] 7 8,zq [5,7] 8 9,zq [8] 9 2] [(_,_),(_,_)] rfl ⟨z1 rfl,zp rfl (oN underlying9 rfl),z4 rfl rfl,z8 hg1_3 rfl,zr' rfl (oM rfl),zr' rfl (op_callG _ _ 10 51 _ _ rfl call51 rfl rfl (fun _ h => h) (ok_path_dotted_of_path_atom mx s _ hv1) rfl rfl),z3 true rfl,z2 rfl,zz⟩ ?_
    exact hl4 _ (Option.some.inj h).symm
   ·refine zg hn [_,_,(3,vs s),(4,vi (s.size : Int)),(5,vb (decide ((s.size : Int) ≤ 64))),(6,vb false),(7,.v undef),(8,.v undef),(9,vb false),(2,vb false)] [0,1] [1,9] [zq [0] 2 3,zq [2] 3 4,zq [3] 4 5,zq [4] 5 6,zq [5] 6 7,zq [5] 7 8,zq [5] 8 9,zq [8] 9 2] [(_,_),(_,_)] rfl ⟨z1 rfl,zp rfl (oN underlying9 rfl),z4 rfl rfl,z8 hg1_3 rfl,zt rfl,zt rfl,z3 false rfl,z2 rfl,zz⟩ ?_
    exact hl4 _ (Option.some.inj h).symm
theorem ok_path_Check (mx : Int) (p : T_Path) (r : Int) (h : Sh.path_Check p = some r) : FnG Tryz.prog (GL mx) 58 [.agg [.v (.bool p.Null), .v (.string p.Local), .v (.string p.Domain)]] (.v (.int .i64 r)) := by
  unfold Sh.path_Check at h
  refine fn_okG func58 rfl (zl rfl) rfl rfl fun g0 hn hio => ?_
  refine zgg hn [_,_,(1,.box 23 [vb p.Null,vs p.Local,vs p.Domain]),(2,vi 0)] [0,1] [1,2] [zq [0] 2 1,zq [] 3 2] [(_,_),(_,_)] rfl ⟨zp rfl (op_box _ _ _ _ rfl rfl rfl),z2 rfl,zz⟩ ?_
  refine zgg hn [_,_,(5,.agg [vb p.Null,vs p.Local,vs p.Domain]),(6,.agg [vb true,vs z0,vs z0]),(7,vb ((p.Null == true) && ((p.Local.toList == z0.toList) && ((p.Domain.toList == z0.toList) && true)))),(3,vb ((p.Null == true) && ((p.Local.toList == z0.toList) && ((p.Domain.toList == z0.toList) && true))))] [0,1] [0,1,5] [zq [1] 2 5,zq [] 3 6,zq [2,3] 4 7,zq [4] 5 3] [(_,_),(_,_),(_,_)] rfl ⟨zp rfl (op_loadA _ _ _ _ _ _ _ underlying23 rfl sz23 rfl rfl (zl rfl) rfl rfl),zp rfl (op_build _ _ _ _ [1, 1, 1] _ _ underlying23 zr23 (fs23 _ underlying23) (.copy _ Src.nil) rfl rfl rfl),zp rfl (op_eq_st _ _ [.bool p.Null, .string p.Local, .string p.Domain] [.bool true, .string (⟨#[]⟩ : ByteArray), .string (⟨#[]⟩ : ByteArray)] (((p.Null == true) && ((p.Local.toList == (⟨#[]⟩ : ByteArray).toList) && ((p.Domain.toList == (⟨#[]⟩ : ByteArray).toList) && true)))) _ false (by kernel_rfl) (by kernel_rfl) (by kernel_rfl) (by kernel_rfl) (by kernel_rfl) rfl rfl rfl rfl (by kernel_rfl) rfl),z2 rfl,zz⟩ ?_
  refine ht_seq ?_
  refine ht_joinS h (fun (s3 : Bool) => [(27, .glob (GL mx)), (3, .v (.bool (((p.Null == true) && ((p.Local.toList == (⟨#[]⟩ : ByteArray).toList) && ((p.Domain.toList == (⟨#[]⟩ : ByteArray).toList) && true)))))), (4, .v (.bool s3))]) ?_ ?_
  ·rintro s3 h
   refine pt_then (ht_seq ?_)
   refine ht_seq ?_
   refine ht_joinS h (fun (s7 : Bool) => [(27, .glob (GL mx)), (26, .v (.bool s7))]) ?_ ?_
   ·rintro s7 h
    refine pt_then ?_
    refine ht_cond _ rfl (fun hb11 => ?_) (fun hb11 => ?_)
    ·have h := cond_t hb11 h
     refine zgg hn [_,_,(2,vi 5)] [0,1] [0,2] [zq [] 2 2] [(_,_),(_,_)] rfl ⟨z2 rfl,zz⟩ ?_
     refine ht_ret ?_
     refine pt_pick [1] (by kernel_rfl) (es' := [(_,_)]) rfl ?_
     refine pt_r_then ?_
     obtain rfl := Option.some.inj h
     exact pt_ret hio rfl (.tmp _ _ .nil) rfl rfl
    ·have h := cond_f hb11 h
     refine ht_skip ?_
     refine pt_then ?_
     refine zgg hn [_,_,(2,vi 0)] [0,1] [0,2] [zq [] 2 2] [(_,_),(_,_)] rfl ⟨z2 rfl,zz⟩ ?_
     refine ht_ret ?_
     refine pt_pick [1] (by kernel_rfl) (es' := [(_,_)]) rfl ?_
     obtain rfl := Option.some.inj h
     exact pt_ret hio rfl (.tmp _ _ .nil) rfl rfl
   ·intro u8 h hl9 hr10
    refine cond_some h (fun hg3_2 h => ?_) (fun hg3_2 h => ?_)
    ·refine zg hn [_,_,_,(21,vb ((p.Null == true) && ((p.Local.toList == z0.toList) && ((p.Domain.toList == z0.toList) && true)))),(22,vb (!(((p.Null == true) && ((p.Local.toList == z0.toList) && ((p.Domain.toList == z0.toList) && true)))))),(23,vb true),(24,vb s3),(25,vb (!s3)),(26,vb (!s3))] [0,1,2] [0,8] [zq [1] 3 21,zq [3] 4 22,zq [4] 5 23,zq [5,2] 6 24,zq [5,6] 7 25,zq [5,7] 8 26] [(_,_),(_,_)] rfl ⟨z1 rfl,zp rfl (op_un _ _ _ _ rfl rfl),z8 hg3_2 rfl,zr' rfl (oM rfl),zr' rfl (op_un _ _ _ _ rfl rfl),z3 true rfl,zz⟩ ?_
     exact hl9 _ (Option.some.inj h).symm
    ·refine zg hn [_,_,_,(21,vb ((p.Null == true) && ((p.Local.toList == z0.toList) && ((p.Domain.toList == z0.toList) && true)))),(22,vb (!(((p.Null == true) && ((p.Local.toList == z0.toList) && ((p.Domain.toList == z0.toList) && true)))))),(23,vb false),(24,.v undef),(25,.v undef),(26,vb false)] [0,1,2] [0,8] [zq [1] 3 21,zq [3] 4 22,zq [4] 5 23,zq [5] 6 24,zq [5] 7 25,zq [5] 8 26] [(_,_),(_,_)] rfl ⟨z1 rfl,zp rfl (op_un _ _ _ _ rfl rfl),z8 hg3_2 rfl,zt rfl,zt rfl,z3 false rfl,zz⟩ ?_
     exact hl9 _ (Option.some.inj h).symm
  ·intro u4 h hl5 hr6
   refine cond_some h (fun hg2_3 h => ?_) (fun hg2_3 h => ?_)
   ·obtain ⟨v1, hv1, h⟩ := bind_some h
    refine cond_some h (fun hg2_8 h => ?_) (fun hg2_8 h => ?_)
    ·obtain ⟨v2, hv2, h⟩ := bind_some h
     refine zg hn (_::_::_::(8,.ptr 1 0)::(9,vb p.Null)::(10,vb (!p.Null))::(11,vb true)::(12,.ptr 1 1)::(13,vs p.Local)::(14,vb v1)::(15,vb v1)::(16,vb true)::(17,.ptr 1 2)::(18,vs p.Domain)::(19,vb v2)::(20,vb v2)::(4,vb v2)::[]) [0,1,2] [0,2,16] [zq [1] 3 8,zq [3,1] 4 9,zq [4] 5 10,zq [5] 6 11,zq [6,1] 7 12,zq [6,7,1] 8 13,zq [6,8,0] 9 14,zq [6,9] 10 15,zq [10] 11 16,zq [11,1] 12 17,zq [11,12,1] 13 18,zq [11,13,0] 14 19,zq [11,14] 15 20,zq [15] 16 4] [(_,_),(_,_),(_,_)] rfl ⟨zp rfl (oF underlying23 rfl sz4),zp rfl (oL underlying4 rfl),zp rfl (op_un _ _ _ _ rfl rfl),z8 hg2_3 rfl,zr' rfl (oF underlying23 rfl sz9),zr' rfl (oL underlying9 rfl),zr' rfl (op_callG _ _ 27 71 _ _ rfl call71 rfl rfl (fun _ h => h) (ok_path_local mx p.Local _ hv1) rfl rfl),z3 true rfl,z8 hg2_8 rfl,zr' rfl (oF underlying23 rfl sz9),zr' rfl (oL underlying9 rfl),zr' rfl (op_callG _ _ 27 37 _ _ rfl call37 rfl rfl (fun _ h => h) (ok_path_Domain mx p.Domain _ hv2) rfl rfl),z3 true rfl,z2 rfl,zz⟩ ?_
     exact hl5 _ (Option.some.inj h).symm
    ·refine zg hn (_::_::_::(8,.ptr 1 0)::(9,vb p.Null)::(10,vb (!p.Null))::(11,vb true)::(12,.ptr 1 1)::(13,vs p.Local)::(14,vb v1)::(15,vb v1)::(16,vb false)::(17,.v undef)::(18,.v undef)::(19,.v undef)::(20,vb false)::(4,vb false)::[]) [0,1,2] [0,2,16] [zq [1] 3 8,zq [3,1] 4 9,zq [4] 5 10,zq [5] 6 11,zq [6,1] 7 12,zq [6,7,1] 8 13,zq [6,8,0] 9 14,zq [6,9] 10 15,zq [10] 11 16,zq [11] 12 17,zq [11] 13 18,zq [11] 14 19,zq [11] 15 20,zq [15] 16 4] [(_,_),(_,_),(_,_)] rfl ⟨zp rfl (oF underlying23 rfl sz4),zp rfl (oL underlying4 rfl),zp rfl (op_un _ _ _ _ rfl rfl),z8 hg2_3 rfl,zr' rfl (oF underlying23 rfl sz9),zr' rfl (oL underlying9 rfl),zr' rfl (op_callG _ _ 27 71 _ _ rfl call71 rfl rfl (fun _ h => h) (ok_path_local mx p.Local _ hv1) rfl rfl),z3 true rfl,z8 hg2_8 rfl,zt rfl,zt rfl,zt rfl,z3 false rfl,z2 rfl,zz⟩ ?_
     exact hl5 _ (Option.some.inj h).symm
   ·refine zg hn (_::_::_::(8,.ptr 1 0)::(9,vb p.Null)::(10,vb (!p.Null))::(11,vb false)::(12,.v undef)::(13,.v undef)::(14,.v undef)::(15,vb false)::(16,vb false)::(17,.v undef)::(18,.v undef)::(19,.v undef)::(20,vb false)::(4,vb false)::[]) [0,1,2] [0,2,16] [zq [1] 3 8,zq [3,1] 4 9,zq [4] 5 10,zq [5] 6 11,zq [6] 7 12,zq [6] 8 13,zq [6] 9 14,zq [6] 10 15,zq [10] 11 16,zq [11] 12 17,zq [11] 13 18,zq [11] 14 19,zq [11] 15 20,zq [15] 16 4] [(_,_),(_,_),(_,_)] rfl ⟨zp rfl (oF underlying23 rfl sz4),zp rfl (oL underlying4 rfl),zp rfl (op_un _ _ _ _ rfl rfl),z8 hg2_3 rfl,zt rfl,zt rfl,zt rfl,z3 false rfl,z1 rfl,zt rfl,zt rfl,zt rfl,z3 false rfl,z2 rfl,zz⟩ ?_
    exact hl5 _ (Option.some.inj h).symm
theorem ok_path_Parse (mx : Int) (s : ByteArray) (r : (T_Path × Int)) (h : Sh.path_Parse s = some r) : FnG Tryz.prog (GL mx) 54 [.v (.string s)] (.tup [.agg [.v (.bool r.1.Null), .v (.string r.1.Local), .v (.string r.1.Domain)], .v (.int .i64 r.2)]) := by
  unfold Sh.path_Parse at h
  refine fn_okG func54 rfl (zl rfl) rfl rfl fun g0 hn hio => ?_
  refine zgg hn [_,_,(2,.box 23 [vb false,vs z0,vs z0]),(3,vi 0)] [0,1] [0,1,2] [zq [] 2 2,zq [] 3 3] [(_,_),(_,_),(_,_)] rfl ⟨zp rfl (op_alloc _ _ zr23),z2 rfl,zz⟩ ?_
  refine ht_seq ?_
  refine zgg hn [_,_,_,(11,vs s),(12,vb (s.toList == (⟨#[60,62]⟩ : ByteArray).toList))] [0,1,2] [0,1,2,4] [zq [0] 3 11,zq [3] 4 12] [(_,_),(_,_),(_,_),(_,_)] rfl ⟨z1 rfl,z4 rfl rfl,zz⟩ ?_
  refine ht_cond _ rfl (fun hb1 => ?_) (fun hb1 => ?_)
  ·have h := cond_t hb1 h
   refine zgg hn [_,_,_,_,(13,.agg [vb true,vs z0,vs z0]),(2,.box 23 [vb true,vs z0,vs z0]),(3,vi 0)] [0,1,2,3] [1,5,6] [zq [] 4 13,⟨[4],[2],[5],[.cell 2 0,.cell 2 1,.cell 2 2]⟩,zq [] 6 3] [(_,_),(_,_),(_,_)] rfl ⟨zp rfl (op_build _ _ _ _ [1, 1, 1] _ _ underlying23 zr23 (fs23 _ underlying23) (.copy _ Src.nil) rfl rfl rfl),zp rfl (oS sz23 rfl),z2 rfl,zz⟩ ?_
   refine ht_ret ?_
   refine pt_pick [1, 2] (by kernel_rfl) (es' := [(_,_),(_,_)]) rfl ?_
   refine pt_r_then ?_
   obtain rfl := Option.some.inj h
   exact pt_ret hio rfl (.cellA _ _ _ _ underlying23 rfl sz23 (.tmp _ _ .nil)) rfl rfl
  ·have h := cond_f hb1 h
   refine ht_skip ?_
   refine pt_then (ht_seq ?_)
   obtain ⟨v2, hv2, h⟩ := bind_some h
   refine zg hn [_,_,_,_,(15,vs s),(16,.tup [vs v2.1,vb v2.2]),(14,.tup [vs v2.1,vb v2.2]),(17,vs v2.1),(18,vb v2.2),(4,vs v2.1),(5,vb v2.2)] [0,1,2,3] [1,2,9,10] [zq [0] 4 15,zq [4] 5 16,⟨[],[5],[6],[(.slot 14)]⟩,zq [6] 7 17,zq [6] 8 18,zq [7] 9 4,zq [8] 10 5] [(_,_),(_,_),(_,_),(_,_)] rfl ⟨z1 rfl,zp rfl (op_call _ _ 65 _ _ rfl call65 rfl (ok_strings_CutPrefix s (⟨#[60]⟩ : ByteArray) _ hv2) rfl rfl),zp rfl (op_move_take _ _ _ _ rfl),zp rfl (oE rfl),zp rfl (oE rfl),z2 rfl,z2 rfl,zz⟩ ?_
   refine pt_then (ht_seq ?_)
   obtain ⟨v3, hv3, h⟩ := bind_some h
   refine zg hn [_,_,_,_,(20,vs v2.1),(21,.tup [vs v3.1,vb v3.2]),(19,.tup [vs v3.1,vb v3.2]),(22,vs v3.1),(23,vb v3.2),(4,vs v3.1),(6,vb v3.2)] [0,1,2,3] [0,1,3,9,10] [zq [2] 4 20,zq [4] 5 21,⟨[],[5],[6],[(.slot 19)]⟩,zq [6] 7 22,zq [6] 8 23,⟨[7],[2],[9],[(.slot 4)]⟩,zq [8] 10 6] [(_,_),(_,_),(_,_),(_,_),(_,_)] rfl ⟨z1 rfl,zp rfl (op_call _ _ 66 _ _ rfl call66 rfl (ok_strings_CutSuffix v2.1 (⟨#[62]⟩ : ByteArray) _ hv3) rfl rfl),zp rfl (op_move_take _ _ _ _ rfl),zp rfl (oE rfl),zp rfl (oE rfl),zp rfl (LOp.drop [_] (op_assign _ _ _ _ rfl rfl)),z2 rfl,zz⟩ ?_
   refine pt_then (ht_seq ?_)
   obtain ⟨v4, hv4, h⟩ := bind_some h
   refine zg hn [_,_,_,_,_,(25,vs v3.1),(26,.tup [vs v4.1,vs v4.2.1,vb v4.2.2]),(24,.tup [vs v4.1,vs v4.2.1,vb v4.2.2]),(27,vs v4.1),(28,vs v4.2.1),(29,vb v4.2.2),(7,vs v4.1),(8,vs v4.2.1),(9,vb v4.2.2)] [0,1,2,3,4] [0,1,2,4,11,12,13] [zq [3] 5 25,zq [5] 6 26,⟨[],[6],[7],[(.slot 24)]⟩,zq [7] 8 27,zq [7] 9 28,zq [7] 10 29,zq [8] 11 7,zq [9] 12 8,zq [10] 13 9] [(_,_),(_,_),(_,_),(_,_),(_,_),(_,_),(_,_)] rfl ⟨z1 rfl,zp rfl (op_call _ _ 33 _ _ rfl call33 rfl (ok_strings_Cut v3.1 (⟨#[64]⟩ : ByteArray) _ hv4) rfl rfl),zp rfl (op_move_take _ _ _ _ rfl),zp rfl (oE rfl),zp rfl (oE rfl),zp rfl (oE rfl),z2 rfl,z2 rfl,z2 rfl,zz⟩ ?_
   refine pt_then ?_
   refine zgg hn [_,_,_,_,_,_,_,(30,vs v4.1),(31,vs v4.2.1),(32,.agg [vb false,vs v4.1,vs v4.2.1]),(10,.box 23 [vb false,vs z0,vs z0]),(10,.box 23 [vb false,vs v4.1,vs v4.2.1])] [0,1,2,3,4,5,6] [0,1,2,3,6,11] [zq [4] 7 30,zq [5] 8 31,zq [7,8] 9 32,zq [] 10 10,⟨[9],[10],[11],[.cell 10 0,.cell 10 1,.cell 10 2]⟩] [(_,_),(_,_),(_,_),(_,_),(_,_),(_,_)] rfl ⟨z1 rfl,z1 rfl,zp rfl (op_build _ _ _ _ [1, 1, 1] _ _ underlying23 zr23 (fs23 _ underlying23) (.copy _ (.copy _ Src.nil)) rfl rfl rfl),zp rfl (op_alloc _ _ zr23),zp rfl (oS sz23 rfl),zz⟩ ?_
   refine ht_seq ?_
   refine ht_seq ?_
   refine ht_joinS h (fun (s6 : Bool) => [(50, .glob (GL mx)), (2, .box 23 [.v (.bool false), .v (.string (⟨#[]⟩ : ByteArray)), .v (.string (⟨#[]⟩ : ByteArray))]), (10, .box 23 [.v (.bool false), .v (.string v4.1), .v (.string v4.2.1)]), (47, .v (.bool s6))]) ?_ ?_
   ·rintro s6 h
    refine pt_then ?_
    refine ht_cond _ rfl (fun hb10 => ?_) (fun hb10 => ?_)
    ·have h := cond_t hb10 h
     refine zgg hn [_,_,_,_,(48,.agg [vb false,vs z0,vs z0]),(2,.box 23 [vb false,vs z0,vs z0]),(3,vi 5)] [0,1,2,3] [0,5,6] [zq [] 4 48,⟨[],[4,1],[5],[.cell 2 0,.cell 2 1,.cell 2 2]⟩,zq [] 6 3] [(_,_),(_,_),(_,_)] rfl ⟨zp rfl (op_build _ _ _ _ [1, 1, 1] _ _ underlying23 zr23 (fs23 _ underlying23) Src.nil rfl rfl rfl),zp rfl (op_store_self _ _ _ 48 2 3 sz23 rfl rfl rfl rfl rfl (.eq _ (.eq _ (.eq _ (.nil _)))) rfl),z2 rfl,zz⟩ ?_
     refine ht_ret ?_
     refine pt_pick [1, 2] (by kernel_rfl) (es' := [(_,_),(_,_)]) rfl ?_
     refine pt_r_then ?_
     obtain rfl := Option.some.inj h
     exact pt_ret hio rfl (.cellA _ _ _ _ underlying23 rfl sz23 (.tmp _ _ .nil)) rfl rfl
    ·have h := cond_f hb10 h
     refine ht_skip ?_
     refine pt_then ?_
     refine zgg hn [_,_,_,_,(49,.agg [vb false,vs v4.1,vs v4.2.1]),(2,.box 23 [vb false,vs v4.1,vs v4.2.1]),(3,vi 0)] [0,1,2,3] [0,5,6] [zq [2] 4 49,⟨[4],[1],[5],[.cell 2 0,.cell 2 1,.cell 2 2]⟩,zq [] 6 3] [(_,_),(_,_),(_,_)] rfl ⟨zp rfl (op_loadA _ _ _ _ _ _ _ underlying23 rfl sz23 rfl rfl (zl rfl) rfl rfl),zp rfl (oS sz23 rfl),z2 rfl,zz⟩ ?_
     refine ht_ret ?_
     refine pt_pick [1, 2] (by kernel_rfl) (es' := [(_,_),(_,_)]) rfl ?_
     obtain rfl := Option.some.inj h
     exact pt_ret hio rfl (.cellA _ _ _ _ underlying23 rfl sz23 (.tmp _ _ .nil)) rfl rfl
   ·intro u7 h hl8 hr9
    refine cond_some h (fun hg7_2 h => ?_) (fun hg7_2 h => ?_)
    ·refine zg hn (_::_::_::_::_::_::(33,vb v2.2)::(34,vb (!v2.2))::(35,vb true)::(36,.v undef)::(37,.v undef)::(38,vb true)::(39,vb true)::(40,.v undef)::(41,.v undef)::(42,vb true)::(43,vb true)::(44,.v undef)::(45,.v undef)::(46,.v undef)::(47,vb true)::[]) [0,1,2,3,4,5] [0,1,5,20] (zq [2] 6 33::zq [6] 7 34::zq [7] 8 35::zq [8] 9 36::zq [8] 10 37::zq [8] 11 38::zq [11] 12 39::zq [12] 13 40::zq [12] 14 41::zq [12] 15 42::zq [15] 16 43::zq [16] 17 44::zq [16] 18 45::zq [16] 19 46::zq [16] 20 47::[]) [(_,_),(_,_),(_,_),(_,_)] rfl ⟨z1 rfl,zp rfl (op_un _ _ _ _ rfl rfl),z8 hg7_2 rfl,zf rfl,zf rfl,z3 true rfl,z1 rfl,zf rfl,zf rfl,z3 true rfl,z1 rfl,zf rfl,zf rfl,zf rfl,z3 true rfl,zz⟩ ?_
     exact hl8 _ (Option.some.inj h).symm
    ·refine cond_some h (fun hg7_6 h => ?_) (fun hg7_6 h => ?_)
     ·refine zg hn (_::_::_::_::_::_::(33,vb v2.2)::(34,vb (!v2.2))::(35,vb false)::(36,vb v3.2)::(37,vb (!v3.2))::(38,vb (!v3.2))::(39,vb true)::(40,.v undef)::(41,.v undef)::(42,vb true)::(43,vb true)::(44,.v undef)::(45,.v undef)::(46,.v undef)::(47,vb true)::[]) [0,1,2,3,4,5] [0,1,5,20] (zq [2] 6 33::zq [6] 7 34::zq [7] 8 35::zq [8,3] 9 36::zq [8,9] 10 37::zq [8,10] 11 38::zq [11] 12 39::zq [12] 13 40::zq [12] 14 41::zq [12] 15 42::zq [15] 16 43::zq [16] 17 44::zq [16] 18 45::zq [16] 19 46::zq [16] 20 47::[]) [(_,_),(_,_),(_,_),(_,_)] rfl ⟨z1 rfl,zp rfl (op_un _ _ _ _ rfl rfl),z8 hg7_2 rfl,zr' rfl (oM rfl),zr' rfl (op_un _ _ _ _ rfl rfl),z3 false rfl,z8 hg7_6 rfl,zf rfl,zf rfl,z3 true rfl,z1 rfl,zf rfl,zf rfl,zf rfl,z3 true rfl,zz⟩ ?_
      exact hl8 _ (Option.some.inj h).symm
     ·refine cond_some h (fun hg7_10 h => ?_) (fun hg7_10 h => ?_)
      ·refine zg hn (_::_::_::_::_::_::(33,vb v2.2)::(34,vb (!v2.2))::(35,vb false)::(36,vb v3.2)::(37,vb (!v3.2))::(38,vb (!v3.2))::(39,vb false)::(40,vb v4.2.2)::(41,vb (!v4.2.2))::(42,vb (!v4.2.2))::(43,vb true)::(44,.v undef)::(45,.v undef)::(46,.v undef)::(47,vb true)::[]) [0,1,2,3,4,5] [0,1,5,20] (zq [2] 6 33::zq [6] 7 34::zq [7] 8 35::zq [8,3] 9 36::zq [8,9] 10 37::zq [8,10] 11 38::zq [11] 12 39::zq [12,4] 13 40::zq [12,13] 14 41::zq [12,14] 15 42::zq [15] 16 43::zq [16] 17 44::zq [16] 18 45::zq [16] 19 46::zq [16] 20 47::[]) [(_,_),(_,_),(_,_),(_,_)] rfl ⟨z1 rfl,zp rfl (op_un _ _ _ _ rfl rfl),z8 hg7_2 rfl,zr' rfl (oM rfl),zr' rfl (op_un _ _ _ _ rfl rfl),z3 false rfl,z8 hg7_6 rfl,zr' rfl (oM rfl),zr' rfl (op_un _ _ _ _ rfl rfl),z3 false rfl,z8 hg7_10 rfl,zf rfl,zf rfl,zf rfl,z3 true rfl,zz⟩ ?_
       exact hl8 _ (Option.some.inj h).symm
      ·obtain ⟨v5, hv5, h⟩ := bind_some h
       refine zg hn (_::_::_::_::_::_::(33,vb v2.2)::(34,vb (!v2.2))::(35,vb false)::(36,vb v3.2)::(37,vb (!v3.2))::(38,vb (!v3.2))::(39,vb false)::(40,vb v4.2.2)::(41,vb (!v4.2.2))::(42,vb (!v4.2.2))::(43,vb false)::(44,.agg [vb false,vs v4.1,vs v4.2.1])::(45,vi v5)::(46,vb (v5 != 0))::(47,vb (v5 != 0))::[]) [0,1,2,3,4,5] [0,1,5,20] (zq [2] 6 33::zq [6] 7 34::zq [7] 8 35::zq [8,3] 9 36::zq [8,9] 10 37::zq [8,10] 11 38::zq [11] 12 39::zq [12,4] 13 40::zq [12,13] 14 41::zq [12,14] 15 42::zq [15] 16 43::zq [16,5] 17 44::zq [16,17,0] 18 45::zq [16,18] 19 46::zq [16,19] 20 47::[]) [(_,_),(_,_),(_,_),(_,_)] rfl ⟨z1 rfl,zp rfl (op_un _ _ _ _ rfl rfl),z8 hg7_2 rfl,zr' rfl (oM rfl),zr' rfl (op_un _ _ _ _ rfl rfl),z3 false rfl,z8 hg7_6 rfl,zr' rfl (oM rfl),zr' rfl (op_un _ _ _ _ rfl rfl),z3 false rfl,z8 hg7_10 rfl,zr' rfl (op_loadA _ _ _ _ _ _ _ underlying23 rfl sz23 rfl rfl (zl rfl) rfl rfl),zr' rfl (op_callG _ _ 50 58 _ _ rfl call58 rfl rfl (fun _ h => h) (ok_path_Check mx (T_Path.mk false v4.1 v4.2.1) _ hv5) rfl rfl),zr' rfl (oB rfl rfl),z3 false rfl,zz⟩ ?_
       exact hl8 _ (Option.some.inj h).symm
theorem ok_strconv_Atoi (s : ByteArray) (r : Int × Unit) (h : Sh.strconv_Atoi s = some r) : FnOK Tryz.prog 90 [.v (.string s)] (.tup [.v (.int .i64 r.1), .v .nilIface]) := lib_strconv_Atoi (fun s n w h1 h2 => Tryz.strconv_Atoi s n h1 h2 w) s r h
theorem ok_number_Parse (s : ByteArray) (digits : Int) (r : (Int × Bool)) (h : Sh.number_Parse s digits = some r) : FnOK Tryz.prog 80 [.v (.string s), .v (.int .i64 digits)] (.tup [.v (.int .i64 r.1), .v (.bool r.2)]) := by
  unfold Sh.number_Parse at h
  refine fn_ok func80 rfl (zl rfl) rfl rfl fun g0 hn hio => ?_
  refine zgg hn [_,_,(4,vi 0),(5,vb false)] [0,1] [0,1] [zq [] 2 4,zq [] 3 5] [(_,_),(_,_)] rfl ⟨z2 rfl,z2 rfl,zz⟩ ?_
  refine ht_seq ?_
  refine ht_seq ?_
  refine ht_joinS h (fun (s3 : Bool) => [(0, .v (.string s)), (26, .v (.bool s3))]) ?_ ?_
  ·rintro s3 h
   refine pt_then ?_
   refine ht_cond _ rfl (fun hb7 => ?_) (fun hb7 => ?_)
   ·have h := cond_t hb7 h
    refine zgg hn [_,_,(4,vi 0),(5,vb false)] [0,1] [2,3] [zq [] 2 4,zq [] 3 5] [(_,_),(_,_)] rfl ⟨z2 rfl,z2 rfl,zz⟩ ?_
    refine ht_ret ?_
    refine pt_r_then ?_
    obtain rfl := Option.some.inj h
    exact pt_ret hio rfl (.tmp _ _ (.tmp _ _ .nil)) rfl rfl
   ·have h := cond_f hb7 h
    refine ht_skip ?_
    refine pt_then (ht_seq ?_)
    refine zgg hn [_,_,(27,vs s),(28,vi (s.size : Int)),(29,vi 0)] [0,1] [0,3,4] [zq [0] 2 27,zq [2] 3 28,zq [] 4 29] [(_,_),(_,_),(_,_)] rfl ⟨z1 rfl,zp rfl (oN underlying9 rfl),z1 rfl,zz⟩ ?_
    refine ht_loopS h (fun (s24 : Int) => [(0, .v (.string s)), (28, .v (.int .i64 (s.size : Int))), (29, .v (.int .i64 s24))]) (fun (() : Unit) => [(0, .v (.string s))]) ?_ ?_
    ·rintro ⟨⟩ h
     refine pt_then (ht_seq ?_)
     obtain ⟨v43, hv43, h⟩ := bind_some h
     refine zg hn [_,(44,vs s),(45,.tup [vi v43.1,.v (.nilIface)]),(43,.tup [vi v43.1,.v (.nilIface)]),(46,vi v43.1),(47,.v (.nilIface)),(7,vi v43.1),(8,.v (.nilIface))] [0] [6,7] [zq [0] 1 44,zq [1] 2 45,⟨[],[2],[3],[(.slot 43)]⟩,zq [3] 4 46,zq [3] 5 47,zq [4] 6 7,zq [5] 7 8] [(_,_),(_,_)] rfl ⟨z1 rfl,zp rfl (op_call _ _ 90 _ _ rfl call90 rfl (ok_strconv_Atoi s _ hv43) rfl rfl),zp rfl (op_move_take _ _ _ _ rfl),zp rfl (oE rfl),zp rfl (oE rfl),z2 rfl,z2 rfl,zz⟩ ?_
     refine pt_then (ht_seq ?_)
     refine ht_anyR (by kernel_rfl) hn (El := [_, _, (48, .v (.int .i64 v43.1)), (49, .v (.nilIface)), (50, .v (.bool true)), (4, .v (.int .i64 v43.1)), (5, .v (.bool true))]) (init := [0, 1]) (fin := [5, 6]) (sps := [zq [0] 2 48, zq [1] 3 49, zq [3] 4 50, zq [2] 5 4, zq [4] 6 5]) (es' := [(4, .v (.int .i64 v43.1)), (5, .v (.bool true))]) (by kernel_rfl) rfl rfl ⟨z1 rfl,z1 rfl,zp rfl (op_ifnil _ _ false underlying73 rfl),z2 rfl,z2 rfl,zz⟩ ?_
     refine pt_then (ht_ret ?_)
     obtain rfl := Option.some.inj h
     exact pt_ret hio rfl (.tmp _ _ (.tmp _ _ .nil)) rfl rfl
    ·rintro u31 hl32 hr33 s24 rr36 h ho34
     refine zgg hn [_,_,_,(30,vb (decide (s24 < (s.size : Int))))] [0,1,2] [0,1,2,3] [zq [2,1] 3 30] [(_,_),(_,_),(_,_),(_,_)] rfl ⟨z4 rfl rfl,zz⟩ ?_
     refine ht_seq ?_
     refine ht_cond _ rfl (fun hb37 => ?_) (fun hb37 => ?_)
     ·have h := cond_t hb37 h
      refine ht_skip ?_
      refine pt_then (ht_seq ?_)
      refine ht_block ?_
      refine zgg hn [_,_,_,_,(31,vi s24),(6,vi s24)] [0,1,2,3] [0,1,2,5] [zq [2] 4 31,zq [4] 5 6] [(_,_),(_,_),(_,_),(_,_)] rfl ⟨z1 rfl,z2 rfl,zz⟩ ?_
      refine ht_seq ?_
      refine ht_joinS h (fun (s38 : Bool) => [(0, .v (.string s)), (28, .v (.int .i64 (s.size : Int))), (29, .v (.int .i64 s24)), (41, .v (.bool s38))]) ?_ ?_
      ·rintro s38 h
       refine pt_then ?_
       refine ht_cond _ rfl (fun hb42 => ?_) (fun hb42 => ?_)
       ·have h := cond_t hb42 h
        refine zgg hn [_,_,_,_,(4,vi 0),(5,vb false)] [0,1,2,3] [4,5] [zq [] 4 4,zq [] 5 5] [(_,_),(_,_)] rfl ⟨z2 rfl,z2 rfl,zz⟩ ?_
        refine ht_ret ?_
        refine pt_r_in ?_
        refine pt_r_then ?_
        refine pt_r_then ?_
        refine pt_r_in ?_
        refine pt_r_then ?_
        have h := hr33 _ (ho34 _ (Option.some.inj h).symm).symm
        obtain rfl := Option.some.inj h
        exact pt_ret hio rfl (.tmp _ _ (.tmp _ _ .nil)) rfl rfl
       ·have h := cond_f hb42 h
        refine ht_skip ?_
        refine pt_inb ?_
        refine pt_then ?_
        obtain ⟨v16, hv16, h⟩ := bind_some h
        refine zg hn [_,_,_,_,(42,vi v16),(29,vi v16)] [0,1,2,3] [0,1,5] [zq [2] 4 42,⟨[4],[2],[5],[(.slot 29)]⟩] [(_,_),(_,_),(_,_)] rfl ⟨zp rfl (oB rfl (ibind (f := Value.int .i64) (Option.some.inj hv16))),zp rfl (LOp.drop [_] (oM rfl)),zz⟩ ?_
        exact pt_next _ (Option.some.inj h).symm rfl
      ·intro u39 h hl40 hr41
       obtain ⟨v9, hv9, h⟩ := bind_some h
       refine cond_some h (fun hg6_4 h => ?_) (fun hg6_4 h => ?_)
       ·refine zg hn [_,_,_,_,(32,vs s),(33,vi s24),(34,.v (.int .u8 v9)),(35,vb (decide (v9 < 48))),(36,vb true),(37,.v undef),(38,.v undef),(39,.v undef),(40,.v undef),(41,vb true)] [0,1,2,3] [0,1,2,13] [zq [0] 4 32,zq [3] 5 33,zq [4,5] 6 34,zq [6] 7 35,zq [7] 8 36,zq [8] 9 37,zq [8] 10 38,zq [8] 11 39,zq [8] 12 40,zq [8] 13 41] [(_,_),(_,_),(_,_),(_,_)] rfl ⟨z1 rfl,z1 rfl,zp rfl (op_chr _ _ _ s24 _ underlying9 rfl rfl hv9),z4 rfl rfl,z8 hg6_4 rfl,zf rfl,zf rfl,zf rfl,zf rfl,z3 true rfl,zz⟩ ?_
        exact hl40 _ (Option.some.inj h).symm
       ·obtain ⟨v10, hv10, h⟩ := bind_some h
        refine zg hn [_,_,_,_,(32,vs s),(33,vi s24),(34,.v (.int .u8 v9)),(35,vb (decide (v9 < 48))),(36,vb false),(37,vs s),(38,vi s24),(39,.v (.int .u8 v10)),(40,vb (decide (57 < v10))),(41,vb (decide (57 < v10)))] [0,1,2,3] [0,1,2,13] [zq [0] 4 32,zq [3] 5 33,zq [4,5] 6 34,zq [6] 7 35,zq [7] 8 36,zq [8,0] 9 37,zq [8,3] 10 38,zq [8,9,10] 11 39,zq [8,11] 12 40,zq [8,12] 13 41] [(_,_),(_,_),(_,_),(_,_)] rfl ⟨z1 rfl,z1 rfl,zp rfl (op_chr _ _ _ s24 _ underlying9 rfl rfl hv9),z4 rfl rfl,z8 hg6_4 rfl,zr' rfl (oM rfl),zr' rfl (oM rfl),zr' rfl (op_chr _ _ _ s24 _ underlying9 rfl rfl hv10),zr' rfl (oB rfl rfl),z3 false rfl,zz⟩ ?_
        exact hl40 _ (Option.some.inj h).symm
     ·have h := cond_f hb37 h
      refine ht_exit ?_
      refine pt_x_then ?_
      refine pt_x_then ?_
      refine pt_x_in ?_
      refine pt_pick [0] (by kernel_rfl) (es' := [(_,_)]) rfl ?_
      exact hl32 _ (ho34 _ (Option.some.inj h).symm).symm
  ·intro u4 h hl5 hr6
   refine cond_some h (fun hg1_2 h => ?_) (fun hg1_2 h => ?_)
   ·refine zg hn (_::_::(9,vs s)::(10,vb (s.toList == z0.toList))::(11,vb true)::(12,.v undef)::(13,.v undef)::(14,.v undef)::(15,.v undef)::(16,.v undef)::(17,vb true)::(18,vb true)::(19,.v undef)::(20,.v undef)::(21,.v undef)::(22,.v undef)::(23,.v undef)::(24,.v undef)::(25,.v undef)::(26,vb true)::[]) [0,1] [0,19] (zq [0] 2 9::zq [2] 3 10::zq [3] 4 11::zq [4] 5 12::zq [4] 6 13::zq [4] 7 14::zq [4] 8 15::zq [4] 9 16::zq [4] 10 17::zq [10] 11 18::zq [11] 12 19::zq [11] 13 20::zq [11] 14 21::zq [11] 15 22::zq [15] 16 23::zq [15] 17 24::zq [11] 18 25::zq [11] 19 26::[]) [(_,_),(_,_)] rfl ⟨z1 rfl,z4 rfl rfl,z8 hg1_2 rfl,zf rfl,zf rfl,zf rfl,zf rfl,zf rfl,z3 true rfl,z1 rfl,zf rfl,zf rfl,zf rfl,zf rfl,zu' rfl,zu' rfl,zf rfl,z3 true rfl,zz⟩ ?_
    exact hl5 _ (Option.some.inj h).symm
   ·obtain ⟨v1, hv1, h⟩ := bind_some h
    refine cond_some h (fun hg1_9 h => ?_) (fun hg1_9 h => ?_)
    ·refine zg hn (_::_::(9,vs s)::(10,vb (s.toList == z0.toList))::(11,vb false)::(12,vs s)::(13,vi (s.size : Int))::(14,vi digits)::(15,vi v1)::(16,vb (decide (v1 < (s.size : Int))))::(17,vb (decide (v1 < (s.size : Int))))::(18,vb true)::(19,.v undef)::(20,.v undef)::(21,.v undef)::(22,.v undef)::(23,.v undef)::(24,.v undef)::(25,.v undef)::(26,vb true)::[]) [0,1] [0,19] (zq [0] 2 9::zq [2] 3 10::zq [3] 4 11::zq [4,0] 5 12::zq [4,5] 6 13::zq [4,1] 7 14::zq [4,7] 8 15::zq [4,6,8] 9 16::zq [4,9] 10 17::zq [10] 11 18::zq [11] 12 19::zq [11] 13 20::zq [11] 14 21::zq [11] 15 22::zq [15] 16 23::zq [15] 17 24::zq [11] 18 25::zq [11] 19 26::[]) [(_,_),(_,_)] rfl ⟨z1 rfl,z4 rfl rfl,z8 hg1_2 rfl,zr' rfl (oM rfl),zr' rfl (oN underlying9 rfl),zr' rfl (oM rfl),zr' rfl ((Option.some.inj hv1) ▸ op_min _ _ _ _ rfl rfl),zr' rfl (oB rfl rfl),z3 false rfl,z8 hg1_9 rfl,zf rfl,zf rfl,zf rfl,zf rfl,zu' rfl,zu' rfl,zf rfl,z3 true rfl,zz⟩ ?_
     exact hl5 _ (Option.some.inj h).symm
    ·obtain ⟨v2, hv2, h⟩ := bind_some h
     refine cond_some h (fun hg1_13 h => ?_) (fun hg1_13 h => ?_)
     ·refine zg hn (_::_::(9,vs s)::(10,vb (s.toList == z0.toList))::(11,vb false)::(12,vs s)::(13,vi (s.size : Int))::(14,vi digits)::(15,vi v1)::(16,vb (decide (v1 < (s.size : Int))))::(17,vb (decide (v1 < (s.size : Int))))::(18,vb false)::(19,vs s)::(20,.v (.int .u8 v2))::(21,vb (v2 == 48))::(22,vb true)::(23,vs s)::(24,vb (!(s.toList == (⟨#[48]⟩ : ByteArray).toList)))::(25,vb (!(s.toList == (⟨#[48]⟩ : ByteArray).toList)))::(26,vb (!(s.toList == (⟨#[48]⟩ : ByteArray).toList)))::[]) [0,1] [0,19] (zq [0] 2 9::zq [2] 3 10::zq [3] 4 11::zq [4,0] 5 12::zq [4,5] 6 13::zq [4,1] 7 14::zq [4,7] 8 15::zq [4,6,8] 9 16::zq [4,9] 10 17::zq [10] 11 18::zq [11,0] 12 19::zq [11,12] 13 20::zq [11,13] 14 21::zq [11,14] 15 22::zq [15,0] 16 23::zq [15,16] 17 24::zq [11,15,17] 18 25::zq [11,18] 19 26::[]) [(_,_),(_,_)] rfl ⟨z1 rfl,z4 rfl rfl,z8 hg1_2 rfl,zr' rfl (oM rfl),zr' rfl (oN underlying9 rfl),zr' rfl (oM rfl),zr' rfl ((Option.some.inj hv1) ▸ op_min _ _ _ _ rfl rfl),zr' rfl (oB rfl rfl),z3 false rfl,z8 hg1_9 rfl,zr' rfl (oM rfl),zr' rfl (op_chr _ _ _ 0 _ underlying9 rfl rfl hv2),zr' rfl (oB rfl rfl),zr' rfl (op_move _ _ _ _ (zb hg1_13) rfl),zr' rfl (oM rfl),zr' rfl (oB rfl rfl),zr' rfl (op_pick _ _ true _ rfl rfl),z3 false rfl,zz⟩ ?_
      exact hl5 _ (Option.some.inj h).symm
     ·refine zg hn (_::_::(9,vs s)::(10,vb (s.toList == z0.toList))::(11,vb false)::(12,vs s)::(13,vi (s.size : Int))::(14,vi digits)::(15,vi v1)::(16,vb (decide (v1 < (s.size : Int))))::(17,vb (decide (v1 < (s.size : Int))))::(18,vb false)::(19,vs s)::(20,.v (.int .u8 v2))::(21,vb (v2 == 48))::(22,vb false)::(23,.v undef)::(24,.v undef)::(25,vb false)::(26,vb false)::[]) [0,1] [0,19] (zq [0] 2 9::zq [2] 3 10::zq [3] 4 11::zq [4,0] 5 12::zq [4,5] 6 13::zq [4,1] 7 14::zq [4,7] 8 15::zq [4,6,8] 9 16::zq [4,9] 10 17::zq [10] 11 18::zq [11,0] 12 19::zq [11,12] 13 20::zq [11,13] 14 21::zq [11,14] 15 22::zq [15] 16 23::zq [15] 17 24::zq [11,15] 18 25::zq [11,18] 19 26::[]) [(_,_),(_,_)] rfl ⟨z1 rfl,z4 rfl rfl,z8 hg1_2 rfl,zr' rfl (oM rfl),zr' rfl (oN underlying9 rfl),zr' rfl (oM rfl),zr' rfl ((Option.some.inj hv1) ▸ op_min _ _ _ _ rfl rfl),zr' rfl (oB rfl rfl),z3 false rfl,z8 hg1_9 rfl,zr' rfl (oM rfl),zr' rfl (op_chr _ _ _ 0 _ underlying9 rfl rfl hv2),zr' rfl (oB rfl rfl),zr' rfl (op_move _ _ _ _ (zb hg1_13) rfl),zt rfl,zt rfl,zr' rfl (op_pick _ _ false _ rfl rfl),z3 false rfl,zz⟩ ?_
      exact hl5 _ (Option.some.inj h).symm
theorem ok_verb_oneOf (s : ByteArray) (words : (List ByteArray)) (r : (ByteArray × Bool)) (h : Sh.verb_oneOf s words = some r) : FnOK Tryz.prog 81 [.v (.string s), .fl .shr 1 (List.map Value.string words)] (.tup [.v (.string r.1), .v (.bool r.2)]) := by
  unfold Sh.verb_oneOf at h
  refine fn_ok func81 rfl (zl rfl) rfl rfl fun g0 hn hio => ?_
  refine zgg hn [_,_,(4,vs z0),(5,vb false)] [0,1] [0,1] [zq [] 2 4,zq [] 3 5] [(_,_),(_,_)] rfl ⟨z2 rfl,z2 rfl,zz⟩ ?_
  refine ht_seq ?_
  refine zgg hn [_,_,(8,.fl .shr 1 (List.map Value.string words)),(9,vi (words.length : Int)),(10,vi 0)] [0,1] [0,2,3,4] [zq [1] 2 8,zq [2] 3 9,zq [] 4 10] [(_,_),(_,_),(_,_),(_,_)] rfl ⟨z1 rfl,zp rfl (op_len_fl _ _ _ underlying43 rfl (by decide) (map_len _)),z1 rfl,zz⟩ ?_
  refine ht_loopS h (fun (s10 : Int) => [(0, .v (.string s)), (8, .fl .shr 1 (List.map Value.string words)), (9, .v (.int .i64 (words.length : Int))), (10, .v (.int .i64 s10))]) (fun (() : Unit) => []) ?_ ?_
  ·rintro ⟨⟩ h
   refine pt_then ?_
   refine zgg hn [(4,vs z0),(5,vb false)] [] [0,1] [zq [] 0 4,zq [] 1 5] [(_,_),(_,_)] rfl ⟨z2 rfl,z2 rfl,zz⟩ ?_
   refine ht_ret ?_
   obtain rfl := Option.some.inj h
   exact pt_ret hio rfl (.tmp _ _ (.tmp _ _ .nil)) rfl rfl
  ·rintro u13 hl14 hr15 s10 rr18 h ho16
   refine zgg hn [_,_,_,_,(11,vb (decide (s10 < (words.length : Int))))] [0,1,2,3] [0,1,2,3,4] [zq [3,2] 4 11] [(_,_),(_,_),(_,_),(_,_),(_,_)] rfl ⟨z4 rfl rfl,zz⟩ ?_
   refine ht_seq ?_
   refine ht_cond _ rfl (fun hb19 => ?_) (fun hb19 => ?_)
   ·have h := cond_t hb19 h
    refine ht_skip ?_
    refine pt_then (ht_seq ?_)
    refine ht_block ?_
    refine ht_seq ?_
    obtain ⟨v2, hv2, h⟩ := bind_some h
    obtain ⟨v3, hv3, h⟩ := bind_some h
    refine zg hn [_,_,_,_,_,(12,.eref (.slot 8) (v2 * 1)),(13,vs v3),(7,vs v3)] [0,1,2,3,4] [0,1,2,3,7] [zq [1,3] 5 12,zq [5,1] 6 13,zq [6] 7 7] [(_,_),(_,_),(_,_),(_,_),(_,_)] rfl ⟨zp rfl (op_ix _ _ _ _ _ _ _ _ underlying43 sz9 (by decide) rfl rfl rfl (ix_ok hv2).1 (map_lt (ix_ok hv2).2) rfl),zp rfl (op_load_e _ _ _ _ _ _ underlying9 rfl rfl rfl (map_get hv3)),z2 rfl,zz⟩ ?_
    refine pt_then (ht_seq ?_)
    obtain ⟨v4, hv4, h⟩ := bind_some h
    refine zg hn [_,_,_,_,_,(14,vs s),(15,vs v3),(16,vb v4)] [0,1,2,3,4] [0,1,2,3,4,7] [zq [0] 5 14,zq [4] 6 15,zq [5,6] 7 16] [(_,_),(_,_),(_,_),(_,_),(_,_),(_,_)] rfl ⟨z1 rfl,z1 rfl,zp rfl (op_call _ _ 36 _ _ rfl call36 rfl (ok_verb_equalFold s v3 _ hv4) rfl rfl),zz⟩ ?_
    refine pt_then ?_
    refine ht_cond _ rfl (fun hb20 => ?_) (fun hb20 => ?_)
    ·have h := cond_t hb20 h
     refine zgg hn [_,_,_,_,_,_,(17,vs v3),(4,vs v3),(5,vb true)] [0,1,2,3,4,5] [7,8] [zq [4] 6 17,zq [6] 7 4,zq [] 8 5] [(_,_),(_,_)] rfl ⟨z1 rfl,z2 rfl,z2 rfl,zz⟩ ?_
     refine ht_ret ?_
     refine pt_r_in ?_
     refine pt_r_then ?_
     refine pt_r_then ?_
     refine pt_r_in ?_
     refine pt_r_then ?_
     have h := hr15 _ (ho16 _ (Option.some.inj h).symm).symm
     obtain rfl := Option.some.inj h
     exact pt_ret hio rfl (.tmp _ _ (.tmp _ _ .nil)) rfl rfl
    ·have h := cond_f hb20 h
     refine ht_skip ?_
     refine pt_inb ?_
     refine pt_then ?_
     obtain ⟨v6, hv6, h⟩ := bind_some h
     refine zg hn [_,_,_,_,_,_,(18,vi v6),(10,vi v6)] [0,1,2,3,4,5] [0,1,2,7] [zq [3] 6 18,⟨[6],[3],[7],[(.slot 10)]⟩] [(_,_),(_,_),(_,_),(_,_)] rfl ⟨zp rfl (oB rfl (ibind (f := Value.int .i64) (Option.some.inj hv6))),zp rfl (LOp.drop [_] (oM rfl)),zz⟩ ?_
     exact pt_next _ (Option.some.inj h).symm rfl
   ·have h := cond_f hb19 h
    refine ht_exit ?_
    refine pt_x_then ?_
    refine pt_x_then ?_
    refine pt_x_in ?_
    refine pt_pick [] (by kernel_rfl) (es' := []) rfl ?_
    exact hl14 _ (ho16 _ (Option.some.inj h).symm).symm
theorem ok_verb_parameter (kind : Int) (key : ByteArray) (val : ByteArray) (r : (T_Param × Bool)) (h : Sh.verb_parameter kind key val = some r) : FnOK Tryz.prog 67 [.v (.int .i64 kind), .v (.string key), .v (.string val)] (.tup [.agg [.v (.string r.1.Key), .v (.string r.1.Val)], .v (.bool r.2)]) := by
  unfold Sh.verb_parameter at h
  refine fn_ok func67 rfl (zl rfl) rfl rfl fun g0 hn hio => ?_
  refine zgg hn [_,_,_,(6,.box 47 [vs z0,vs z0]),(7,vb false)] [0,1,2] [0,1,2,3] [zq [] 3 6,zq [] 4 7] [(_,_),(_,_),(_,_),(_,_)] rfl ⟨zp rfl (op_alloc _ _ zr47),z2 rfl,zz⟩ ?_
  refine ht_seq ?_
  refine ht_block ?_
  refine ht_seq ?_
  refine ht_joinS h (fun (s1 : Bool) => [(0, .v (.int .i64 kind)), (1, .v (.string key)), (2, .v (.string val)), (6, .box 47 [.v (.string (⟨#[]⟩ : ByteArray)), .v (.string (⟨#[]⟩ : ByteArray))]), (14, .v (.bool s1))]) ?_ ?_
  ·rintro s1 h
   refine pt_then ?_
   refine ht_cond _ rfl (fun hb5 => ?_) (fun hb5 => ?_)
   ·have h := cond_t hb5 h
    refine ht_seq ?_
    obtain ⟨v6, hv6, h⟩ := bind_some h
    refine zg hn [_,_,_,_,_,(22,vs val),(23,.tup [vi v6.1,vb v6.2]),(21,.tup [vi v6.1,vb v6.2]),(24,vi v6.1),(25,vb v6.2),(8,vi v6.1),(9,vb v6.2)] [0,1,2,3,4] [2,3,11] [zq [2] 5 22,zq [5] 6 23,⟨[],[6],[7],[(.slot 21)]⟩,zq [7] 8 24,zq [7] 9 25,zq [8] 10 8,zq [9] 11 9] [(_,_),(_,_),(_,_)] rfl ⟨z1 rfl,zp rfl (op_call _ _ 80 _ _ rfl call80 rfl (ok_number_Parse val 9 _ hv6) rfl rfl),zp rfl (op_move_take _ _ _ _ rfl),zp rfl (oE rfl),zp rfl (oE rfl),z2 rfl,z2 rfl,zz⟩ ?_
    refine pt_then ?_
    refine zgg hn [_,_,_,(26,vs val),(27,.agg [vs (⟨#[83,73,90,69]⟩ : ByteArray),vs val]),(28,vb v6.2),(6,.box 47 [vs (⟨#[83,73,90,69]⟩ : ByteArray),vs val]),(7,vb v6.2)] [0,1,2] [6,7] [zq [0] 3 26,zq [3] 4 27,zq [2] 5 28,⟨[4],[1],[6],[.cell 6 0,.cell 6 1]⟩,zq [5] 7 7] [(_,_),(_,_)] rfl ⟨z1 rfl,zp rfl (op_build _ _ _ _ [1, 1] _ _ underlying47 zr47 (fs47 _ underlying47) (.copy _ (.copy _ Src.nil)) rfl rfl rfl),z1 rfl,zp rfl (oS sz47 rfl),z2 rfl,zz⟩ ?_
    refine ht_ret ?_
    refine pt_r_in ?_
    refine pt_r_then ?_
    obtain rfl := Option.some.inj h
    exact pt_ret hio rfl (.cellA _ _ _ _ underlying47 rfl sz47 (.tmp _ _ .nil)) rfl rfl
   ·have h := cond_f hb5 h
    refine ht_seq ?_
    refine ht_joinS h (fun (s7 : Bool) => [(0, .v (.int .i64 kind)), (1, .v (.string key)), (2, .v (.string val)), (6, .box 47 [.v (.string (⟨#[]⟩ : ByteArray)), .v (.string (⟨#[]⟩ : ByteArray))]), (29, .v (.bool s7))]) ?_ ?_
    ·rintro s7 h
     refine pt_then ?_
     refine ht_cond _ rfl (fun hb11 => ?_) (fun hb11 => ?_)
     ·have h := cond_t hb11 h
      refine ht_seq ?_
      obtain ⟨v12, hv12, h⟩ := bind_some h
      refine zg hn [_,_,_,_,_,(37,vs val),(38,.fl (.own 9) 1 (List.map Value.string ([(⟨#[70,85,76,76]⟩ : ByteArray),(⟨#[72,68,82,83]⟩ : ByteArray)]))),(39,.tup [vs v12.1,vb v12.2]),(36,.tup [vs v12.1,vb v12.2]),(40,vs v12.1),(41,vb v12.2),(10,vs v12.1),(11,vb v12.2)] [0,1,2,3,4] [3,11,12] [zq [2] 5 37,zq [] 6 38,zq [5,6] 7 39,⟨[],[7],[8],[(.slot 36)]⟩,zq [8] 9 40,zq [8] 10 41,zq [9] 11 10,zq [10] 12 11] [(_,_),(_,_),(_,_)] rfl ⟨z1 rfl,zp rfl (op_buildSlice _ _ 1 (.string ByteArray.empty) (List.map Value.string ([(⟨#[70, 85, 76, 76]⟩ : ByteArray), (⟨#[72, 68, 82, 83]⟩ : ByteArray)])) [(0, .string (⟨#[70, 85, 76, 76]⟩ : ByteArray)), (1, .string (⟨#[72, 68, 82, 83]⟩ : ByteArray))] underlying43 sz9 zr9 (fun _ V w o a hv hes => by simp only [List.map_toArray, List.map_cons, List.map_nil]; try rfl) (litfill (by simp [Instr.fill, Value.cells]; rfl) (by simp [List.range, List.range.loop] <;> rfl)) (by simp [Value.oneCell']) rfl (by decide) (by decide) (by decide)),zp rfl (op_call _ _ 81 _ _ rfl call81 rfl (ok_verb_oneOf val ([(⟨#[70, 85, 76, 76]⟩ : ByteArray), (⟨#[72, 68, 82, 83]⟩ : ByteArray)]) _ hv12) rfl rfl),zp rfl (op_move_take _ _ _ _ rfl),zp rfl (oE rfl),zp rfl (oE rfl),z2 rfl,z2 rfl,zz⟩ ?_
      refine pt_then ?_
      refine zgg hn [_,_,_,(42,vs v12.1),(43,.agg [vs (⟨#[82,69,84]⟩ : ByteArray),vs v12.1]),(44,vb v12.2),(6,.box 47 [vs (⟨#[82,69,84]⟩ : ByteArray),vs v12.1]),(7,vb v12.2)] [0,1,2] [6,7] [zq [1] 3 42,zq [3] 4 43,zq [2] 5 44,⟨[4],[0],[6],[.cell 6 0,.cell 6 1]⟩,zq [5] 7 7] [(_,_),(_,_)] rfl ⟨z1 rfl,zp rfl (op_build _ _ _ _ [1, 1] _ _ underlying47 zr47 (fs47 _ underlying47) (.copy _ (.copy _ Src.nil)) rfl rfl rfl),z1 rfl,zp rfl (oS sz47 rfl),z2 rfl,zz⟩ ?_
      refine ht_ret ?_
      refine pt_r_in ?_
      refine pt_r_then ?_
      obtain rfl := Option.some.inj h
      exact pt_ret hio rfl (.cellA _ _ _ _ underlying47 rfl sz47 (.tmp _ _ .nil)) rfl rfl
     ·have h := cond_f hb11 h
      refine ht_seq ?_
      refine ht_joinS h (fun (s13 : Bool) => [(2, .v (.string val)), (6, .box 47 [.v (.string (⟨#[]⟩ : ByteArray)), .v (.string (⟨#[]⟩ : ByteArray))]), (45, .v (.bool s13))]) ?_ ?_
      ·rintro s13 h
       refine pt_then ?_
       refine ht_cond _ rfl (fun hb17 => ?_) (fun hb17 => ?_)
       ·have h := cond_t hb17 h
        refine ht_seq ?_
        obtain ⟨v18, hv18, h⟩ := bind_some h
        refine zg hn [_,_,_,(53,vs val),(54,.fl (.own 9) 1 (List.map Value.string ([(⟨#[78,69,86,69,82]⟩ : ByteArray),(⟨#[70,65,73,76,85,82,69]⟩ : ByteArray)]))),(55,.tup [vs v18.1,vb v18.2]),(52,.tup [vs v18.1,vb v18.2]),(56,vs v18.1),(57,vb v18.2),(12,vs v18.1),(13,vb v18.2)] [0,1,2] [1,9,10] [zq [0] 3 53,zq [] 4 54,zq [3,4] 5 55,⟨[],[5],[6],[(.slot 52)]⟩,zq [6] 7 56,zq [6] 8 57,zq [7] 9 12,zq [8] 10 13] [(_,_),(_,_),(_,_)] rfl ⟨z1 rfl,zp rfl (op_buildSlice _ _ 1 (.string ByteArray.empty) (List.map Value.string ([(⟨#[78, 69, 86, 69, 82]⟩ : ByteArray), (⟨#[70, 65, 73, 76, 85, 82, 69]⟩ : ByteArray)])) [(0, .string (⟨#[78, 69, 86, 69, 82]⟩ : ByteArray)), (1, .string (⟨#[70, 65, 73, 76, 85, 82, 69]⟩ : ByteArray))] underlying43 sz9 zr9 (fun _ V w o a hv hes => by simp only [List.map_toArray, List.map_cons, List.map_nil]; try rfl) (litfill (by simp [Instr.fill, Value.cells]; rfl) (by simp [List.range, List.range.loop] <;> rfl)) (by simp [Value.oneCell']) rfl (by decide) (by decide) (by decide)),zp rfl (op_call _ _ 81 _ _ rfl call81 rfl (ok_verb_oneOf val ([(⟨#[78, 69, 86, 69, 82]⟩ : ByteArray), (⟨#[70, 65, 73, 76, 85, 82, 69]⟩ : ByteArray)]) _ hv18) rfl rfl),zp rfl (op_move_take _ _ _ _ rfl),zp rfl (oE rfl),zp rfl (oE rfl),z2 rfl,z2 rfl,zz⟩ ?_
        refine pt_then ?_
        refine zgg hn [_,_,_,(58,vs v18.1),(59,.agg [vs (⟨#[78,79,84,73,70,89]⟩ : ByteArray),vs v18.1]),(60,vb v18.2),(6,.box 47 [vs (⟨#[78,79,84,73,70,89]⟩ : ByteArray),vs v18.1]),(7,vb v18.2)] [0,1,2] [6,7] [zq [1] 3 58,zq [3] 4 59,zq [2] 5 60,⟨[4],[0],[6],[.cell 6 0,.cell 6 1]⟩,zq [5] 7 7] [(_,_),(_,_)] rfl ⟨z1 rfl,zp rfl (op_build _ _ _ _ [1, 1] _ _ underlying47 zr47 (fs47 _ underlying47) (.copy _ (.copy _ Src.nil)) rfl rfl rfl),z1 rfl,zp rfl (oS sz47 rfl),z2 rfl,zz⟩ ?_
        refine ht_ret ?_
        refine pt_r_in ?_
        refine pt_r_then ?_
        obtain rfl := Option.some.inj h
        exact pt_ret hio rfl (.cellA _ _ _ _ underlying47 rfl sz47 (.tmp _ _ .nil)) rfl rfl
       ·have h := cond_f hb17 h
        refine ht_skip ?_
        refine pt_inb ?_
        refine pt_then ?_
        refine zgg hn [_,_,_,(61,.agg [vs z0,vs z0]),(6,.box 47 [vs z0,vs z0]),(7,vb false)] [0,1,2] [4,5] [zq [] 3 61,⟨[],[3,1],[4],[.cell 6 0,.cell 6 1]⟩,zq [] 5 7] [(_,_),(_,_)] rfl ⟨zp rfl (op_build _ _ _ _ [1, 1] _ _ underlying47 zr47 (fs47 _ underlying47) Src.nil rfl rfl rfl),zp rfl (op_store_self _ _ _ 61 6 2 sz47 rfl rfl rfl rfl rfl (.eq _ (.eq _ (.nil _))) rfl),z2 rfl,zz⟩ ?_
        refine ht_ret ?_
        obtain rfl := Option.some.inj h
        exact pt_ret hio rfl (.cellA _ _ _ _ underlying47 rfl sz47 (.tmp _ _ .nil)) rfl rfl
      ·intro u14 h hl15 hr16
       refine cond_some h (fun hg7_2 h => ?_) (fun hg7_2 h => ?_)
       ·refine zg hn [_,_,_,_,_,(46,vi kind),(47,vb (kind == 3)),(48,vb true),(49,vs key),(50,vb (key.toList == (⟨#[110,111,116,105,102,121]⟩ : ByteArray).toList)),(51,vb (key.toList == (⟨#[110,111,116,105,102,121]⟩ : ByteArray).toList)),(45,vb (key.toList == (⟨#[110,111,116,105,102,121]⟩ : ByteArray).toList))] [0,1,2,3,4] [2,3,11] [zq [0] 5 46,zq [5] 6 47,zq [6] 7 48,zq [7,1] 8 49,zq [7,8] 9 50,zq [7,9] 10 51,zq [10] 11 45] [(_,_),(_,_),(_,_)] rfl ⟨z1 rfl,z4 rfl rfl,z8 hg7_2 rfl,zr' rfl (oM rfl),zr' rfl (oB rfl rfl),z3 true rfl,z2 rfl,zz⟩ ?_
        exact hl15 _ (Option.some.inj h).symm
       ·refine zg hn [_,_,_,_,_,(46,vi kind),(47,vb (kind == 3)),(48,vb false),(49,.v undef),(50,.v undef),(51,vb false),(45,vb false)] [0,1,2,3,4] [2,3,11] [zq [0] 5 46,zq [5] 6 47,zq [6] 7 48,zq [7] 8 49,zq [7] 9 50,zq [7] 10 51,zq [10] 11 45] [(_,_),(_,_),(_,_)] rfl ⟨z1 rfl,z4 rfl rfl,z8 hg7_2 rfl,zt rfl,zt rfl,z3 false rfl,z2 rfl,zz⟩ ?_
        exact hl15 _ (Option.some.inj h).symm
    ·intro u8 h hl9 hr10
     refine cond_some h (fun hg4_2 h => ?_) (fun hg4_2 h => ?_)
     ·refine zg hn [_,_,_,_,_,(30,vi kind),(31,vb (kind == 2)),(32,vb true),(33,vs key),(34,vb (key.toList == (⟨#[114,101,116]⟩ : ByteArray).toList)),(35,vb (key.toList == (⟨#[114,101,116]⟩ : ByteArray).toList)),(29,vb (key.toList == (⟨#[114,101,116]⟩ : ByteArray).toList))] [0,1,2,3,4] [0,1,2,3,11] [zq [0] 5 30,zq [5] 6 31,zq [6] 7 32,zq [7,1] 8 33,zq [7,8] 9 34,zq [7,9] 10 35,zq [10] 11 29] [(_,_),(_,_),(_,_),(_,_),(_,_)] rfl ⟨z1 rfl,z4 rfl rfl,z8 hg4_2 rfl,zr' rfl (oM rfl),zr' rfl (oB rfl rfl),z3 true rfl,z2 rfl,zz⟩ ?_
      exact hl9 _ (Option.some.inj h).symm
     ·refine zg hn [_,_,_,_,_,(30,vi kind),(31,vb (kind == 2)),(32,vb false),(33,.v undef),(34,.v undef),(35,vb false),(29,vb false)] [0,1,2,3,4] [0,1,2,3,11] [zq [0] 5 30,zq [5] 6 31,zq [6] 7 32,zq [7] 8 33,zq [7] 9 34,zq [7] 10 35,zq [10] 11 29] [(_,_),(_,_),(_,_),(_,_),(_,_)] rfl ⟨z1 rfl,z4 rfl rfl,z8 hg4_2 rfl,zt rfl,zt rfl,z3 false rfl,z2 rfl,zz⟩ ?_
      exact hl9 _ (Option.some.inj h).symm
  ·intro u2 h hl3 hr4
   refine cond_some h (fun hg1_2 h => ?_) (fun hg1_2 h => ?_)
   ·refine zg hn [_,_,_,_,(15,vi kind),(16,vb (kind == 2)),(17,vb true),(18,vs key),(19,vb (key.toList == (⟨#[115,105,122,101]⟩ : ByteArray).toList)),(20,vb (key.toList == (⟨#[115,105,122,101]⟩ : ByteArray).toList)),(14,vb (key.toList == (⟨#[115,105,122,101]⟩ : ByteArray).toList))] [0,1,2,3] [0,1,2,3,10] [zq [0] 4 15,zq [4] 5 16,zq [5] 6 17,zq [6,1] 7 18,zq [6,7] 8 19,zq [6,8] 9 20,zq [9] 10 14] [(_,_),(_,_),(_,_),(_,_),(_,_)] rfl ⟨z1 rfl,z4 rfl rfl,z8 hg1_2 rfl,zr' rfl (oM rfl),zr' rfl (oB rfl rfl),z3 true rfl,z2 rfl,zz⟩ ?_
    exact hl3 _ (Option.some.inj h).symm
   ·refine zg hn [_,_,_,_,(15,vi kind),(16,vb (kind == 2)),(17,vb false),(18,.v undef),(19,.v undef),(20,vb false),(14,vb false)] [0,1,2,3] [0,1,2,3,10] [zq [0] 4 15,zq [4] 5 16,zq [5] 6 17,zq [6] 7 18,zq [6] 8 19,zq [6] 9 20,zq [9] 10 14] [(_,_),(_,_),(_,_),(_,_),(_,_)] rfl ⟨z1 rfl,z4 rfl rfl,z8 hg1_2 rfl,zt rfl,zt rfl,z3 false rfl,z2 rfl,zz⟩ ?_
    exact hl3 _ (Option.some.inj h).symm
theorem ok_verb_parameters_1_cap (bx : Nat) (q : T_Param) (cap : T_Param) (r : Bool) (h : Sh.verb_parameters_1_cap q cap = some r) : FnG Tryz.prog [(bx, [.string cap.Key, .string cap.Val])] 69 [.agg [.v (.string q.Key), .v (.string q.Val)], .v (.pointer (some ⟨bx, 0, none⟩))] (.v (.bool r)) := by
  unfold Sh.verb_parameters_1_cap at h
  refine fn_okG func69 rfl (zl rfl) rfl rfl fun g0 hn hio => ?_
  refine zgg hn [_,_,_,(2,.box 47 [vs q.Key,vs q.Val]),(3,vb false)] [0,1,2] [1,2,3] [zq [0] 3 2,zq [] 4 3] [(_,_),(_,_),(_,_)] rfl ⟨zp rfl (op_box _ _ _ _ rfl rfl rfl),z2 rfl,zz⟩ ?_
  refine zgg hn [_,_,_,(4,.ptr 2 0),(5,vs q.Key),(6,.v (.pointer (some ⟨bx,0,none⟩))),(7,vs cap.Key),(8,vb (q.Key.toList == cap.Key.toList)),(3,vb (q.Key.toList == cap.Key.toList))] [0,1,2] [1,8] [zq [2] 3 4,zq [3,2] 4 5,zq [0] 5 6,zq [5,1] 6 7,zq [4,6] 7 8,zq [7] 8 3] [(_,_),(_,_)] rfl ⟨zp rfl (oF underlying47 rfl sz9),zp rfl (oL underlying9 rfl),zp rfl (op_fieldAddr_v _ _ _ _ bx 0 _ underlying47 rfl sz9 rfl rfl),zp rfl (op_load_glob _ _ 9 bx 0 _ _ underlying9 rfl rfl rfl (.head _) rfl),z4 rfl rfl,z2 rfl,zz⟩ ?_
  refine ht_ret ?_
  refine pt_pick [1] (by kernel_rfl) (es' := [(_,_)]) rfl ?_
  obtain rfl := Option.some.inj h
  exact pt_ret hio rfl (.tmp _ _ .nil) rfl rfl
theorem ok_slices_IndexFunc_api_Param_api_Param_of_verb_parameters_1 (bx : Nat) (s : (List T_Param)) (cap : T_Param) (r : Int) (h : Sh.slices_IndexFunc_api_Param_api_Param_of_verb_parameters_1 s cap = some r) : FnG Tryz.prog [(bx, [.string cap.Key, .string cap.Val])] 82 [.fl .shr 2 (List.flatten (List.map T_Param.enc s)), .v (.func (.func 69) #[] #[.pointer (some ⟨bx, 0, none⟩)])] (.v (.int .i64 r)) := by
  unfold Sh.slices_IndexFunc_api_Param_api_Param_of_verb_parameters_1 at h
  refine fn_okG func82 rfl (zl rfl) rfl rfl fun g0 hn hio => ?_
  refine zgg hn [_,_,_,(4,vi 0)] [0,1,2] [0,1,2] [zq [] 3 4] [(_,_),(_,_),(_,_)] rfl ⟨z2 rfl,zz⟩ ?_
  refine ht_seq ?_
  refine zgg hn [_,_,_,(6,.fl .shr 2 (List.flatten (List.map T_Param.enc s))),(7,vi (s.length : Int)),(8,vi 0)] [0,1,2] [0,1,2,4,5] [zq [0] 3 6,zq [3] 4 7,zq [] 5 8] [(_,_),(_,_),(_,_),(_,_),(_,_)] rfl ⟨z1 rfl,zp rfl (op_len_fl _ _ _ underlying24 rfl (by decide) (flat_len T_Param.len _)),z1 rfl,zz⟩ ?_
  refine ht_loopS h (fun (s10 : Int) => [(0, .fl .shr 2 (List.flatten (List.map T_Param.enc s))), (1, .v (.func (.func 69) #[] #[.pointer (some ⟨bx, 0, none⟩)])), (19, .glob [(bx, [.string cap.Key, .string cap.Val])]), (7, .v (.int .i64 (s.length : Int))), (8, .v (.int .i64 s10))]) (fun (() : Unit) => [(19, .glob [(bx, [.string cap.Key, .string cap.Val])])]) ?_ ?_
  ·rintro ⟨⟩ h
   refine pt_then ?_
   refine zgg hn [_,(4,vi (-1))] [0] [0,1] [zq [] 1 4] [(_,_),(_,_)] rfl ⟨z2 rfl,zz⟩ ?_
   refine ht_ret ?_
   refine pt_pick [1] (by kernel_rfl) (es' := [(_,_)]) rfl ?_
   obtain rfl := Option.some.inj h
   exact pt_ret hio rfl (.tmp _ _ .nil) rfl rfl
  ·rintro u13 hl14 hr15 s10 rr18 h ho16
   refine zgg hn [_,_,_,_,_,(9,vb (decide (s10 < (s.length : Int))))] [0,1,2,3,4] [0,1,2,3,4,5] [zq [4,3] 5 9] [(_,_),(_,_),(_,_),(_,_),(_,_),(_,_)] rfl ⟨z4 rfl rfl,zz⟩ ?_
   refine ht_seq ?_
   refine ht_cond _ rfl (fun hb19 => ?_) (fun hb19 => ?_)
   ·have h := cond_t hb19 h
    refine ht_skip ?_
    refine pt_then (ht_seq ?_)
    refine ht_block ?_
    refine zgg hn [_,_,_,_,_,_,(10,vi s10),(5,vi s10)] [0,1,2,3,4,5] [0,1,2,3,4,7] [zq [4] 6 10,zq [6] 7 5] [(_,_),(_,_),(_,_),(_,_),(_,_),(_,_)] rfl ⟨z1 rfl,z2 rfl,zz⟩ ?_
    refine ht_seq ?_
    obtain ⟨v2, hv2, h⟩ := bind_some h
    obtain ⟨v3, hv3, h⟩ := bind_some h
    obtain ⟨v4, hv4, h⟩ := bind_some h
    refine zg hn [_,_,_,_,_,_,(11,.v (.func (.func 69) #[] #[.pointer (some ⟨bx,0,none⟩)])),(12,.fl .shr 2 (List.flatten (List.map T_Param.enc s))),(13,vi s10),(14,.eref (.slot 12) (v2 * 2)),(15,.agg [vs v3.Key,vs v3.Val]),(16,vb v4)] [0,1,2,3,4,5] [0,1,2,3,4,5,11] [zq [1] 6 11,zq [0] 7 12,zq [5] 8 13,zq [7,8] 9 14,zq [9,7] 10 15,zq [10,6,2] 11 16] [(_,_),(_,_),(_,_),(_,_),(_,_),(_,_),(_,_)] rfl ⟨z1 rfl,z1 rfl,z1 rfl,zp rfl (op_ix _ _ _ _ _ _ _ _ underlying24 sz47 (by decide) rfl rfl rfl (ix_ok hv2).1 (flat_lt T_Param.len (ix_ok hv2).2) rfl),zp rfl (op_load_eA _ _ _ _ _ _ _ underlying47 rfl sz47 rfl rfl (flat_get T_Param.len hv3) rfl (by decide)),zp rfl (op_callV _ _ 19 69 (.pointer (some ⟨bx, 0, none⟩)) _ _ rfl call69 rfl rfl (fun _ h => h) (ok_verb_parameters_1_cap bx v3 cap _ hv4) rfl rfl),zz⟩ ?_
    refine pt_then ?_
    refine ht_cond _ rfl (fun hb20 => ?_) (fun hb20 => ?_)
    ·have h := cond_t hb20 h
     refine zgg hn [_,_,_,_,_,_,_,(17,vi s10),(4,vi s10)] [0,1,2,3,4,5,6] [2,8] [zq [5] 7 17,zq [7] 8 4] [(_,_),(_,_)] rfl ⟨z1 rfl,z2 rfl,zz⟩ ?_
     refine ht_ret ?_
     refine pt_pick [1] (by kernel_rfl) (es' := [(_,_)]) rfl ?_
     refine pt_r_in ?_
     refine pt_r_then ?_
     refine pt_r_then ?_
     refine pt_r_in ?_
     refine pt_r_then ?_
     have h := hr15 _ (ho16 _ (Option.some.inj h).symm).symm
     obtain rfl := Option.some.inj h
     exact pt_ret hio rfl (.tmp _ _ .nil) rfl rfl
    ·have h := cond_f hb20 h
     refine ht_skip ?_
     refine pt_inb ?_
     refine pt_then ?_
     obtain ⟨v6, hv6, h⟩ := bind_some h
     refine zg hn [_,_,_,_,_,_,_,(18,vi v6),(8,vi v6)] [0,1,2,3,4,5,6] [0,1,2,3,8] [zq [4] 7 18,⟨[7],[4],[8],[(.slot 8)]⟩] [(_,_),(_,_),(_,_),(_,_),(_,_)] rfl ⟨zp rfl (oB rfl (ibind (f := Value.int .i64) (Option.some.inj hv6))),zp rfl (LOp.drop [_] (oM rfl)),zz⟩ ?_
     exact pt_next _ (Option.some.inj h).symm rfl
   ·have h := cond_f hb19 h
    refine ht_exit ?_
    refine pt_x_then ?_
    refine pt_x_then ?_
    refine pt_x_in ?_
    refine pt_pick [2] (by kernel_rfl) (es' := [(_,_)]) rfl ?_
    exact hl14 _ (ho16 _ (Option.some.inj h).symm).symm
theorem ok_slices_ContainsFunc_api_Param_api_Param_of_verb_parameters_1 (bx : Nat) (s : (List T_Param)) (cap : T_Param) (r : Bool) (h : Sh.slices_ContainsFunc_api_Param_api_Param_of_verb_parameters_1 s cap = some r) : FnG Tryz.prog [(bx, [.string cap.Key, .string cap.Val])] 68 [.fl .shr 2 (List.flatten (List.map T_Param.enc s)), .v (.func (.func 69) #[] #[.pointer (some ⟨bx, 0, none⟩)])] (.v (.bool r)) := by
  unfold Sh.slices_ContainsFunc_api_Param_api_Param_of_verb_parameters_1 at h
  refine fn_okG func68 rfl (zl rfl) rfl rfl fun g0 hn hio => ?_
  refine zgg hn [_,_,_,(4,vb false)] [0,1,2] [0,1,2] [zq [] 3 4] [(_,_),(_,_),(_,_)] rfl ⟨z2 rfl,zz⟩ ?_
  refine ht_seq ?_
  obtain ⟨v1, hv1, h⟩ := bind_some h
  refine zg hn [_,_,_,(5,.fl .shr 2 (List.flatten (List.map T_Param.enc s))),(6,.v (.func (.func 69) #[] #[.pointer (some ⟨bx,0,none⟩)])),(7,vi v1),(8,vb (decide (0 ≤ v1))),(4,vb (decide (0 ≤ v1)))] [0,1,2] [2,7] [zq [0] 3 5,zq [1] 4 6,zq [3,4,2] 5 7,zq [5] 6 8,zq [6] 7 4] [(_,_),(_,_)] rfl ⟨z1 rfl,z1 rfl,zp rfl (op_callG _ _ 9 82 _ _ rfl call82 rfl rfl (fun _ h => h) (ok_slices_IndexFunc_api_Param_api_Param_of_verb_parameters_1 bx s cap _ hv1) rfl rfl),z4 rfl rfl,z2 rfl,zz⟩ ?_
  refine pt_then (ht_ret ?_)
  refine pt_pick [1] (by kernel_rfl) (es' := [(_,_)]) rfl ?_
  obtain rfl := Option.some.inj h
  exact pt_ret hio rfl (.tmp _ _ .nil) rfl rfl
theorem ok_verb_parameters (mx : Int) (kind : Int) (s : ByteArray) (r : ((List T_Param) × Bool)) (h : Sh.verb_parameters kind s = some r) : FnG Tryz.prog (GL mx) 55 [.v (.int .i64 kind), .v (.string s)] (.tup [.fl .ro 2 (List.flatten (List.map T_Param.enc r.1)), .v (.bool r.2)]) := by
  unfold Sh.verb_parameters at h
  refine fn_okG func55 rfl (zl rfl) rfl rfl fun g0 hn hio => ?_
  refine zgg hn [_,_,_,(2,.box 3 [vi kind]),(4,.box 24 [.v (.slice none 0 0)]),(5,.box 4 [vb false])] [0,1,2] [1,2,3,4,5] [zq [0] 3 2,zq [] 4 4,zq [] 5 5] [(_,_),(_,_),(_,_),(_,_),(_,_)] rfl ⟨zp rfl (op_box _ _ _ _ rfl rfl rfl),zp rfl (op_alloc _ _ zr24),zp rfl (op_alloc _ _ zr4),zz⟩ ?_
  refine zgg hn [_,_,_,_,_,(6,.box 24 [.v (.slice none 0 0)])] [0,1,2,3,4] [0,1,2,3,4,5] [zq [] 5 6] [(_,_),(_,_),(_,_),(_,_),(_,_),(_,_)] rfl ⟨zp rfl (op_alloc _ _ zr24),zz⟩ ?_
  refine ht_seq ?_
  refine zgg hn [_,_,_,_,_,_,(14,vs s),(15,vb (s.toList == z0.toList))] [0,1,2,3,4,5] [0,1,2,3,4,5,7] [zq [0] 6 14,zq [6] 7 15] [(_,_),(_,_),(_,_),(_,_),(_,_),(_,_),(_,_)] rfl ⟨z1 rfl,z4 rfl rfl,zz⟩ ?_
  refine ht_cond _ rfl (fun hb33 => ?_) (fun hb33 => ?_)
  ·have h := cond_t hb33 h
   refine zgg hn [_,_,_,_,_,_,_,(16,.v (.slice none 0 0)),(4,.box 24 [.v (.slice none 0 0)]),(5,.box 4 [vb true])] [0,1,2,3,4,5,6] [1,8,9] [zq [5] 7 16,⟨[7],[3],[8],[.cell 4 0]⟩,⟨[],[4],[9],[.cell 5 0]⟩] [(_,_),(_,_),(_,_)] rfl ⟨zp rfl (oL underlying24 rfl),zp rfl (oS sz24 rfl),zp rfl (oS sz4 rfl),zz⟩ ?_
   refine ht_ret ?_
   refine pt_pick [1, 2] (by kernel_rfl) (es' := [(_,_),(_,_)]) rfl ?_
   refine pt_sub (fs := [(4, .box 24 [.fl (.own 47) 2 (List.flatten (List.map T_Param.enc []))]), (5, .box 4 [.v (.bool true)])]) (.box _ _ (subs_cons (sub_nil 47 2) (subs_nil)) rfl (.same _ .nil)) ?_
   refine pt_frz 0 hio (es' := [(4, .box 24 [.fl .ro 2 (List.flatten (List.map T_Param.enc []))]), (5, .box 4 [.v (.bool true)])]) rfl ?_
   refine pt_r_then ?_
   obtain rfl := Option.some.inj h
   exact pt_ret hio rfl (.cell1 _ _ _ _ underlying24 rfl (.cell1 _ _ _ _ underlying4 rfl .nil)) rfl rfl
  ·have h := cond_f hb33 h
   refine ht_skip ?_
   refine pt_then (ht_seq ?_)
   obtain ⟨v2, hv2, h⟩ := bind_some h
   refine zg hn [_,_,_,_,_,_,_,(18,vs s),(19,.tup [vs v2.1,vb v2.2]),(17,.tup [vs v2.1,vb v2.2]),(20,vs v2.1),(21,vb v2.2),(1,vs v2.1),(7,vb v2.2)] [0,1,2,3,4,5,6] [1,2,3,4,5,12,13] [zq [0] 7 18,zq [7] 8 19,⟨[],[8],[9],[(.slot 17)]⟩,zq [9] 10 20,zq [9] 11 21,⟨[10],[0],[12],[(.slot 1)]⟩,zq [11] 13 7] [(_,_),(_,_),(_,_),(_,_),(_,_),(_,_),(_,_)] rfl ⟨z1 rfl,zp rfl (op_call _ _ 65 _ _ rfl call65 rfl (ok_strings_CutPrefix s (⟨#[32]⟩ : ByteArray) _ hv2) rfl rfl),zp rfl (op_move_take _ _ _ _ rfl),zp rfl (oE rfl),zp rfl (oE rfl),zp rfl (LOp.drop [_] (op_assign _ _ _ _ rfl rfl)),z2 rfl,zz⟩ ?_
   refine pt_then (ht_seq ?_)
   refine zgg hn [_,_,_,_,_,_,_,(22,vb v2.2),(23,vb (!v2.2))] [0,1,2,3,4,5,6] [0,1,2,3,4,5,8] [zq [6] 7 22,zq [7] 8 23] [(_,_),(_,_),(_,_),(_,_),(_,_),(_,_),(_,_)] rfl ⟨z1 rfl,zp rfl (op_un _ _ _ _ rfl rfl),zz⟩ ?_
   refine ht_cond _ rfl (fun hb34 => ?_) (fun hb34 => ?_)
   ·have h := cond_t hb34 h
    refine zgg hn [_,_,_,_,_,_,_,(4,.box 24 [.v (.slice none 0 0)]),(5,.box 4 [vb false])] [0,1,2,3,4,5,6] [0,7,8] [⟨[],[2],[7],[.cell 4 0]⟩,⟨[],[3],[8],[.cell 5 0]⟩] [(_,_),(_,_),(_,_)] rfl ⟨zp rfl (oS sz24 rfl),zp rfl (oS sz4 rfl),zz⟩ ?_
    refine ht_ret ?_
    refine pt_pick [1, 2] (by kernel_rfl) (es' := [(_,_),(_,_)]) rfl ?_
    refine pt_sub (fs := [(4, .box 24 [.fl (.own 47) 2 (List.flatten (List.map T_Param.enc []))]), (5, .box 4 [.v (.bool false)])]) (.box _ _ (subs_cons (sub_nil 47 2) (subs_nil)) rfl (.same _ .nil)) ?_
    refine pt_frz 0 hio (es' := [(4, .box 24 [.fl .ro 2 (List.flatten (List.map T_Param.enc []))]), (5, .box 4 [.v (.bool false)])]) rfl ?_
    refine pt_r_then ?_
    obtain rfl := Option.some.inj h
    exact pt_ret hio rfl (.cell1 _ _ _ _ underlying24 rfl (.cell1 _ _ _ _ underlying4 rfl .nil)) rfl rfl
   ·have h := cond_f hb34 h
    refine ht_skip ?_
    refine pt_then (ht_seq ?_)
    refine ht_seq ?_
    obtain ⟨v4, hv4, h⟩ := bind_some h
    refine zg hn [_,_,_,_,_,_,_,(24,vs v2.1),(25,.cloB 86 [.box 9 [vs v4.1],.box 9 [vs v4.2.1],.box 3 [vi v4.2.2]])] [0,1,2,3,4,5,6] [0,1,2,3,4,8] [zq [5] 7 24,zq [7] 8 25] [(_,_),(_,_),(_,_),(_,_),(_,_),(_,_)] rfl ⟨z1 rfl,zp rfl (op_callS _ _ 61 _ _ rfl call61 rfl rfl (ok_strings_SplitSeq v2.1 (⟨#[32]⟩ : ByteArray) _ hv4) rfl),zz⟩ ?_
    refine pt_then ?_
    refine ht_block ?_
    refine ht_pick [5, 0, 1, 2, 3, 4] (by kernel_rfl) (es' := [(25, .cloB 86 [.box 9 [.v (.string v4.1)], .box 9 [.v (.string v4.2.1)], .box 3 [.v (.int .i64 v4.2.2)]]), (53, .glob (GL mx)), (2, .box 3 [.v (.int .i64 kind)]), (4, .box 24 [.v (.slice none 0 0)]), (5, .box 4 [.v (.bool false)]), (6, .box 24 [.v (.slice none 0 0)])]) rfl ?_
    refine ht_sub (fs := [(25, .cloB 86 [.box 9 [.v (.string v4.1)], .box 9 [.v (.string v4.2.1)], .box 3 [.v (.int .i64 v4.2.2)]]), (53, .glob (GL mx)), (2, .box 3 [.v (.int .i64 kind)]), (4, .box 24 [.v (.slice none 0 0)]), (5, .box 4 [.v (.bool false)]), (6, .box 24 [.fl (.own 47) 2 (List.flatten (List.map T_Param.enc []))])]) (.same _ (.same _ (.same _ (.same _ (.same _ (.box _ _ (subs_cons (sub_nil 47 2) (subs_nil)) rfl .nil)))))) ?_
    refine ht_rangeF h 86 25 26 54 _ [53, 2, 4, 5, 6] call86 (fun (s46 : (List T_Param)) => [(53, .glob (GL mx)), (2, .box 3 [.v (.int .i64 kind)]), (4, .box 24 [.v (.slice none 0 0)]), (5, .box 4 [.v (.bool false)]), (6, .box 24 [.fl (.own 47) 2 (List.flatten (List.map T_Param.enc s46))])]) (fun (s52 : (List T_Param)) => [(53, .glob (GL mx)), (2, .box 3 [.v (.int .i64 kind)]), (4, .box 24 [.v (.slice none 0 0)]), (5, .box 4 [.v (.bool false)]), (6, .box 24 [.fl (.own 47) 2 (List.flatten (List.map T_Param.enc s52))])]) (fun l J Y hY t t' h => ok_strings_splitSeq_1 mx l J Y hY v4.1 v4.2.1 v4.2.2 t t' h) hn rfl (fun _ => rfl) (fun _ => rfl) (fun _ => rfl) rfl rfl (fun _ => ⟨rfl, rfl⟩) rfl (glIn_look 53 rfl) ?_ ?_ ?_
    ·rintro kk g0 hn hio x s46 u h
     refine ht_es (es' := [(26, .v (.string x)), (53, .glob (GL mx)), (2, .box 3 [.v (.int .i64 kind)]), (4, .box 24 [.v (.slice none 0 0)]), (5, .box 4 [.v (.bool false)]), (6, .box 24 [.fl (.own 47) 2 (List.flatten (List.map T_Param.enc s46))]), (53, .v (kk.tm.getD 53 undef)), (2, .v (kk.tm.getD 2 undef)), (4, .v (kk.tm.getD 4 undef)), (5, .v (kk.tm.getD 5 undef)), (6, .v (kk.tm.getD 6 undef)), (54, .inv kk.ready)]) rfl ?_
     refine zg hn [_,_,_,_,_,_,_,_,_,_,_,_,(8,vs x)] [0,1,2,3,4,5,6,7,8,9,10,11] [1,2,3,4,5,6,7,8,9,10,11,12] [zq [0] 12 8] [(_,_),(_,_),(_,_),(_,_),(_,_),(_,_),(_,_),(_,_),(_,_),(_,_),(_,_),(_,_)] rfl ⟨z2 rfl,zz⟩ ?_
     refine pt_pick [0, 1, 2, 3, 4, 5, 6, 7, 8, 9, 11, 10] (by kernel_rfl) (es' := [(53, .glob (GL mx)), (2, .box 3 [.v (.int .i64 kind)]), (4, .box 24 [.v (.slice none 0 0)]), (5, .box 4 [.v (.bool false)]), (6, .box 24 [.fl (.own 47) 2 (List.flatten (List.map T_Param.enc s46))]), (53, .v (kk.tm.getD 53 undef)), (2, .v (kk.tm.getD 2 undef)), (4, .v (kk.tm.getD 4 undef)), (5, .v (kk.tm.getD 5 undef)), (6, .v (kk.tm.getD 6 undef)), (8, .v (.string x)), (54, .inv kk.ready)]) rfl ?_
     refine pt_begin (es := [(53, .glob (GL mx)), (2, .box 3 [.v (.int .i64 kind)]), (4, .box 24 [.v (.slice none 0 0)]), (5, .box 4 [.v (.bool false)]), (6, .box 24 [.fl (.own 47) 2 (List.flatten (List.map T_Param.enc s46))]), (53, .v (kk.tm.getD 53 undef)), (2, .v (kk.tm.getD 2 undef)), (4, .v (kk.tm.getD 4 undef)), (5, .v (kk.tm.getD 5 undef)), (6, .v (kk.tm.getD 6 undef)), (8, .v (.string x))]) 54 rfl ?_
     refine ht_block ?_
     refine ht_seq ?_
     obtain ⟨v5, hv5, h⟩ := bind_some h
     refine zg hn (_::_::_::_::_::_::_::_::_::_::_::_::(28,vs x)::(29,.tup [vs v5.1,vs v5.2.1,vb v5.2.2])::(27,.tup [vs v5.1,vs v5.2.1,vb v5.2.2])::(30,vs v5.1)::(31,vs v5.2.1)::(32,vb v5.2.2)::(9,vs v5.1)::(10,vs v5.2.1)::(11,vb v5.2.2)::[]) [0,1,2,3,4,5,6,7,8,9,10,11] [0,1,2,3,4,5,6,7,8,9,11,18,19] [zq [10] 12 28,zq [12] 13 29,⟨[],[13],[14],[(.slot 27)]⟩,zq [14] 15 30,zq [14] 16 31,zq [14] 17 32,zq [15] 18 9,zq [16] 19 10,zq [17] 20 11] [(_,_),(_,_),(_,_),(_,_),(_,_),(_,_),(_,_),(_,_),(_,_),(_,_),(_,_),(_,_),(_,_)] rfl ⟨z1 rfl,zp rfl (op_call _ _ 33 _ _ rfl call33 rfl (ok_strings_Cut x (⟨#[61]⟩ : ByteArray) _ hv5) rfl rfl),zp rfl (op_move_take _ _ _ _ rfl),zp rfl (oE rfl),zp rfl (oE rfl),zp rfl (oE rfl),z2 rfl,z2 rfl,z2 rfl,zz⟩ ?_
     refine pt_then (ht_seq ?_)
     obtain ⟨v6, hv6, h⟩ := bind_some h
     obtain ⟨v7, hv7, h⟩ := bind_some h
     refine ht_anyR (by kernel_rfl) hn (El := (_ :: _ :: _ :: _ :: _ :: _ :: _ :: _ :: _ :: _ :: _ :: _ :: _ :: (34, .v (.int .i64 kind)) :: (35, .v (.string v5.1)) :: (36, .v (.string v6)) :: (37, .v (.string v5.2.1)) :: (38, .tup [.agg [.v (.string v7.1.Key), .v (.string v7.1.Val)], .v (.bool v7.2)]) :: (33, .tup [.agg [.v (.string v7.1.Key), .v (.string v7.1.Val)], .any]) :: (33, .tup [.any, .v (.bool v7.2)]) :: (39, .agg [.v (.string v7.1.Key), .v (.string v7.1.Val)]) :: (33, .tup [.any, .any]) :: (40, .v (.bool v7.2)) :: (12, .box 47 [.v (.string (⟨#[]⟩ : ByteArray)), .v (.string (⟨#[]⟩ : ByteArray))]) :: (12, .box 47 [.v (.string v7.1.Key), .v (.string v7.1.Val)]) :: (13, .v (.bool v7.2)) :: [])) (init := [0, 1, 2, 3, 4, 5, 6, 7, 8, 9, 10, 11, 12]) (fin := [0, 1, 2, 3, 4, 5, 6, 7, 8, 9, 10, 24, 25]) (sps := [zq [1] 13 34, zq [11] 14 35, zq [14] 15 36, zq [12] 16 37, zq [13,15,16] 17 38, ⟨[], [17], [18, 19], [(.slot 33)]⟩, ⟨[], [18], [21, 20], [(.slot 39)]⟩, zq [19] 22 40, zq [] 23 12, ⟨[20], [23], [24], [.cell 12 0, .cell 12 1]⟩, zq [22] 25 13]) (es' := [(_,_),(_,_),(_,_),(_,_),(_,_),(_,_),(_,_),(_,_),(_,_),(_,_),(_,_),(12, .box 47 [.v (.string v7.1.Key), .v (.string v7.1.Val)]), (13, .v (.bool v7.2))]) (by kernel_rfl) rfl rfl ⟨zp rfl (oL underlying3 rfl),z1 rfl,zp rfl (op_call _ _ 34 _ _ rfl call34 rfl (ok_path_Fold v5.1 _ hv6) rfl rfl),z1 rfl,zp rfl (op_call _ _ 67 _ _ rfl call67 rfl (ok_verb_parameter kind v6 v5.2.1 _ hv7) rfl rfl),zp rfl (LOp.split (A := []) 33 0 _ _ _ (op_move_take _ _ _ _ rfl) (zl rfl) rfl rfl),zp rfl (op_extract_take _ _ _ _ _ rfl (zl rfl) rfl rfl (by decide) rfl),zp rfl (oE rfl),zp rfl (op_alloc _ _ zr47),zp rfl (oS sz47 rfl),z2 rfl,zz⟩ ?_
     refine pt_then (ht_seq ?_)
     refine ht_seq ?_
     refine ht_joinS h (fun (s53 : Bool) => [(53, .glob (GL mx)), (2, .box 3 [.v (.int .i64 kind)]), (4, .box 24 [.v (.slice none 0 0)]), (5, .box 4 [.v (.bool false)]), (6, .box 24 [.fl (.own 47) 2 (List.flatten (List.map T_Param.enc s46))]), (53, .v (kk.tm.getD 53 undef)), (2, .v (kk.tm.getD 2 undef)), (4, .v (kk.tm.getD 4 undef)), (5, .v (kk.tm.getD 5 undef)), (6, .v (kk.tm.getD 6 undef)), (54, .inv kk.busy), (12, .box 47 [.v (.string v7.1.Key), .v (.string v7.1.Val)]), (47, .v (.bool s53))]) ?_ ?_
     ·rintro s53 h
      refine pt_then ?_
      refine ht_cond _ rfl (fun hb57 => ?_) (fun hb57 => ?_)
      ·have h := cond_t hb57 h
       refine zgg hn (_::_::_::_::_::_::_::_::_::_::_::_::_::(4,.box 24 [.v (.slice none 0 0)])::(5,.box 4 [vb false])::[]) [0,1,2,3,4,5,6,7,8,9,10,11,12] [0,1,13,14,4,5,6,7,8,9,10] [⟨[],[2],[13],[.cell 4 0]⟩,⟨[],[3],[14],[.cell 5 0]⟩] [(_,_),(_,_),(_,_),(_,_),(_,_),(_,_),(_,_),(_,_),(_,_),(_,_),(_,_)] rfl ⟨zp rfl (oS sz24 rfl),zp rfl (oS sz4 rfl),zz⟩ ?_
       refine ht_ret ?_
       refine pt_r_then ?_
       refine pt_r_in ?_
       obtain rfl := Option.some.inj h
       exact pt_rret 54 [53, 2, 4, 5, 6] _ rfl rfl (by kernel_rfl)
      ·have h := cond_f hb57 h
       refine ht_skip ?_
       refine pt_then ?_
       obtain ⟨v14, hv14, h⟩ := bind_some h
       refine zg hn (_::_::_::_::_::_::_::_::_::_::_::_::_::(48,.same (.cell 6 0))::(49,.agg [vs v7.1.Key,vs v7.1.Val])::(50,.fl (.own 47) 2 (List.flatten (List.map T_Param.enc [v7.1])))::(51,.fl (.own 47) 2 (List.flatten (List.map T_Param.enc v14)))::(6,.box 24 [.any])::(6,.box 24 [.fl (.own 47) 2 (List.flatten (List.map T_Param.enc v14))])::[]) [0,1,2,3,4,5,6,7,8,9,10,11,12] [0,1,2,3,18,5,6,7,8,9,10] [zq [4] 13 48,zq [11] 14 49,zq [14] 15 50,⟨[13,15],[4],[17,16],[(.slot 51)]⟩,⟨[],[13,16,17],[18],[.cell 6 0]⟩] [(_,_),(_,_),(_,_),(_,_),(_,_),(_,_),(_,_),(_,_),(_,_),(_,_),(_,_)] rfl ⟨zp rfl (oL underlying24 rfl),zp rfl (op_loadA _ _ _ _ _ _ _ underlying47 rfl sz47 rfl rfl (zl rfl) rfl rfl),zp rfl (op_buildSlice _ _ 2 (.agg #[.string ByteArray.empty, .string ByteArray.empty]) (List.flatten (List.map T_Param.enc [v7.1])) [(0, .agg #[.string v7.1.Key, .string v7.1.Val])] underlying24 sz47 zr47 (fun _ V w o a hv hes => by have e0 := agg_v (ys := [.string v7.1.Key, .string v7.1.Val]) hv hes (x := .tmp 49) rfl; simp only [List.map_toArray, List.map_cons, List.map_nil, e0]; try rfl) (litfill (by simp [Instr.fill, Value.cells]; rfl) (by simp [List.range, List.range.loop, T_Param.enc] <;> rfl)) (by simp [Value.oneCell', T_Param.enc]) rfl (by decide) (by decide) (by decide)),zp rfl (op_app_cell _ _ _ _ _ _ el24 rfl rfl (zl rfl) rfl (flat_len T_Param.len _) (flat_len T_Param.len _) hv14 (flat_app (app_eq hv14)) (Nat.ne_of_beq_eq_false rfl) rfl rfl),zp rfl (LOp.drop [_] (op_store_take _ _ _ _ _ _ _ _ sz24 rfl rfl rfl (zl rfl) rfl rfl)),zz⟩ ?_
       refine pt_inb ?_
       obtain rfl := Option.some.inj h
       exact pt_rnext 54 [53, 2, 4, 5, 6] _ rfl rfl (by kernel_rfl)
     ·intro u54 h hl55 hr56
      refine cond_some h (fun hg11_2 h => ?_) (fun hg11_2 h => ?_)
      ·refine zg hn (_::_::_::_::_::_::_::_::_::_::_::_::_::(41,vb v7.2)::(42,vb (!v7.2))::(43,vb true)::(44,.v undef)::(45,.v undef)::(46,.v undef)::(47,vb true)::[]) [0,1,2,3,4,5,6,7,8,9,10,11,12] [0,1,2,3,4,5,6,7,8,9,10,11,19] [zq [12] 13 41,zq [13] 14 42,zq [14] 15 43,zq [15] 16 44,zq [15] 17 45,zq [15] 18 46,zq [15] 19 47] [(_,_),(_,_),(_,_),(_,_),(_,_),(_,_),(_,_),(_,_),(_,_),(_,_),(_,_),(_,_),(_,_)] rfl ⟨z1 rfl,zp rfl (op_un _ _ _ _ rfl rfl),z8 hg11_2 rfl,zf rfl,zf rfl,zf rfl,z3 true rfl,zz⟩ ?_
       exact hl55 _ (Option.some.inj h).symm
      ·obtain ⟨v8, hv8, h⟩ := bind_some h
       refine zg hn (_::_::_::_::_::_::_::_::_::_::_::_::_::(41,vb v7.2)::(42,vb (!v7.2))::(43,vb false)::(44,.same (.cell 6 0))::(45,.clo 69 [12])::(46,vb v8)::(47,vb v8)::[]) [0,1,2,3,4,5,6,7,8,9,10,11,12] [0,1,2,3,4,5,6,7,8,9,10,11,19] [zq [12] 13 41,zq [13] 14 42,zq [14] 15 43,zq [15,4] 16 44,zq [15] 17 45,zq [15,16,4,17,11] 18 46,zq [15,18] 19 47] [(_,_),(_,_),(_,_),(_,_),(_,_),(_,_),(_,_),(_,_),(_,_),(_,_),(_,_),(_,_),(_,_)] rfl ⟨z1 rfl,zp rfl (op_un _ _ _ _ rfl rfl),z8 hg11_2 rfl,zr' rfl (oL underlying24 rfl),zr' rfl (op_makeFunc_name _ _ _ 12 (by decide)),zr' rfl (op_callC _ 46 12 45 68 69 [.string v7.1.Key, .string v7.1.Val] [.tmp 44] _ _ rfl call68 rfl rfl rfl rfl (fun bx => ok_slices_ContainsFunc_api_Param_api_Param_of_verb_parameters_1 bx s46 v7.1 _ hv8) rfl rfl),z3 false rfl,zz⟩ ?_
       exact hl55 _ (Option.some.inj h).symm
    ·rintro D s46 h
     refine pt_inb ?_
     refine pt_then (ht_seq ?_)
     refine ht_frz 4 hio (es' := [(53, .glob (GL mx)), (2, .box 3 [.v (.int .i64 kind)]), (4, .box 24 [.v (.slice none 0 0)]), (5, .box 4 [.v (.bool false)]), (6, .box 24 [.fl .ro 2 (List.flatten (List.map T_Param.enc s46))])]) rfl ?_
     refine zg hn [_,_,_,_,_,(52,.fl .ro 2 (List.flatten (List.map T_Param.enc s46))),(4,.box 24 [.fl .ro 2 (List.flatten (List.map T_Param.enc s46))]),(5,.box 4 [vb true])] [0,1,2,3,4] [0,6,7] [zq [4] 5 52,⟨[5],[2],[6],[.cell 4 0]⟩,⟨[],[3],[7],[.cell 5 0]⟩] [(_,_),(_,_),(_,_)] rfl ⟨zp rfl (oL underlying24 rfl),zp rfl (oS sz24 rfl),zp rfl (oS sz4 rfl),zz⟩ ?_
     refine pt_then (ht_ret ?_)
     refine pt_pick [1, 2] (by kernel_rfl) (es' := [(_,_),(_,_)]) rfl ?_
     obtain rfl := Option.some.inj h
     exact pt_ret hio rfl (.cell1 _ _ _ _ underlying24 rfl (.cell1 _ _ _ _ underlying4 rfl .nil)) rfl rfl
    ·rintro D s52 h
     refine pt_pick [2, 3] (by kernel_rfl) (es' := [(_,_),(_,_)]) rfl ?_
     refine pt_sub (fs := [(4, .box 24 [.fl (.own 47) 2 (List.flatten (List.map T_Param.enc []))]), (5, .box 4 [.v (.bool false)])]) (.box _ _ (subs_cons (sub_nil 47 2) (subs_nil)) rfl (.same _ .nil)) ?_
     refine pt_frz 0 hio (es' := [(4, .box 24 [.fl .ro 2 (List.flatten (List.map T_Param.enc []))]), (5, .box 4 [.v (.bool false)])]) rfl ?_
     refine pt_r_in ?_
     refine pt_r_then ?_
     obtain rfl := Option.some.inj h
     exact pt_ret hio rfl (.cell1 _ _ _ _ underlying24 rfl (.cell1 _ _ _ _ underlying4 rfl .nil)) rfl rfl
theorem ok_verb_pathCommand (mx : Int) (kind : Int) (line : ByteArray) (r : (T_Cmd × Bool)) (h : Sh.verb_pathCommand kind line = some r) : FnG Tryz.prog (GL mx) 38 [.v (.int .i64 kind), .v (.string line)] (.tup [.agg [.v (.int .i64 r.1.Kind), .v (.string r.1.Text), .v (.bool r.1.Path.Null), .v (.string r.1.Path.Local), .v (.string r.1.Path.Domain), .fl .ro 2 (List.flatten (List.map T_Param.enc r.1.Params))], .v (.bool r.2)]) := by
  unfold Sh.verb_pathCommand at h
  refine fn_okG func38 rfl (zl rfl) rfl rfl fun g0 hn hio => ?_
  refine zgg hn [_,_,_,(4,.box 26 [vi 0,vs z0,vb false,vs z0,vs z0,.v (.slice none 0 0)]),(5,vb false)] [0,1,2] [0,1,2,3] [zq [] 3 4,zq [] 4 5] [(_,_),(_,_),(_,_),(_,_)] rfl ⟨zp rfl (op_alloc _ _ zr26),z2 rfl,zz⟩ ?_
  refine ht_seq ?_
  obtain ⟨v1, hv1, h⟩ := bind_some h
  obtain ⟨v2, hv2, h⟩ := bind_some h
  refine zg hn [_,_,_,_,(13,vs line),(14,vi kind),(15,vs v1),(16,.tup [vs v2.1,vb v2.2]),(12,.tup [vs v2.1,vb v2.2]),(17,vs v2.1),(18,vb v2.2),(6,vs v2.1),(7,vb v2.2)] [0,1,2,3] [0,2,3,11,12] [zq [1] 4 13,zq [0] 5 14,zq [5] 6 15,zq [4,6] 7 16,⟨[],[7],[8],[(.slot 12)]⟩,zq [8] 9 17,zq [8] 10 18,zq [9] 11 6,zq [10] 12 7] [(_,_),(_,_),(_,_),(_,_),(_,_)] rfl ⟨z1 rfl,z1 rfl,zp rfl (op_call _ _ 46 _ _ rfl call46 rfl (ok_verb_opening kind _ hv1) rfl rfl),zp rfl (op_call _ _ 35 _ _ rfl call35 rfl (ok_verb_cutFold line v1 _ hv2) rfl rfl),zp rfl (op_move_take _ _ _ _ rfl),zp rfl (oE rfl),zp rfl (oE rfl),z2 rfl,z2 rfl,zz⟩ ?_
  refine pt_then (ht_seq ?_)
  refine zgg hn [_,_,_,_,_,(19,vb v2.2),(20,vb (!v2.2))] [0,1,2,3,4] [0,1,2,3,6] [zq [4] 5 19,zq [5] 6 20] [(_,_),(_,_),(_,_),(_,_),(_,_)] rfl ⟨z1 rfl,zp rfl (op_un _ _ _ _ rfl rfl),zz⟩ ?_
  refine ht_cond _ rfl (fun hb15 => ?_) (fun hb15 => ?_)
  ·have h := cond_t hb15 h
   refine zgg hn [_,_,_,_,_,(21,.agg [vi 0,vs z0,vb false,vs z0,vs z0,.v (.slice none 0 0)]),(4,.box 26 [vi 0,vs z0,vb false,vs z0,vs z0,.v (.slice none 0 0)]),(5,vb false)] [0,1,2,3,4] [1,6,7] [zq [] 5 21,⟨[],[5,2],[6],[.cell 4 0,.cell 4 1,.cell 4 2,.cell 4 3,.cell 4 4,.cell 4 5]⟩,zq [] 7 5] [(_,_),(_,_),(_,_)] rfl ⟨zp rfl (op_build _ _ _ _ [1, 1, 3, 1] _ _ underlying26 zr26 (fs26 _ underlying26) Src.nil rfl rfl rfl),zp rfl (op_store_self _ _ _ 21 4 6 sz26 rfl rfl rfl rfl rfl (.eq _ (.eq _ (.eq _ (.eq _ (.eq _ (.eq _ (.nil _))))))) rfl),z2 rfl,zz⟩ ?_
   refine ht_ret ?_
   refine pt_pick [1, 2] (by kernel_rfl) (es' := [(_,_),(_,_)]) rfl ?_
   refine pt_sub (fs := [(4, .box 26 [.v (.int .i64 0), .v (.string (⟨#[]⟩ : ByteArray)), .v (.bool false), .v (.string (⟨#[]⟩ : ByteArray)), .v (.string (⟨#[]⟩ : ByteArray)), .fl (.own 47) 2 (List.flatten (List.map T_Param.enc []))]), (5, .v (.bool false))]) (.box _ _ (subs_cons (sub_refl _) (subs_cons (sub_refl _) (subs_cons (sub_refl _) (subs_cons (sub_refl _) (subs_cons (sub_refl _) (subs_cons (sub_nil 47 2) (subs_nil))))))) rfl (.same _ .nil)) ?_
   refine pt_frz 0 hio (es' := [(4, .box 26 [.v (.int .i64 0), .v (.string (⟨#[]⟩ : ByteArray)), .v (.bool false), .v (.string (⟨#[]⟩ : ByteArray)), .v (.string (⟨#[]⟩ : ByteArray)), .fl .ro 2 (List.flatten (List.map T_Param.enc []))]), (5, .v (.bool false))]) rfl ?_
   refine pt_r_then ?_
   obtain rfl := Option.some.inj h
   exact pt_ret hio rfl (.cellA _ _ _ _ underlying26 rfl sz26 (.tmp _ _ .nil)) rfl rfl
  ·have h := cond_f hb15 h
   refine ht_skip ?_
   refine pt_then (ht_seq ?_)
   obtain ⟨v4, hv4, h⟩ := bind_some h
   obtain ⟨v5, hv5, h⟩ := bind_some h
   refine zg hn [_,_,_,_,_,(22,vs v2.1),(23,vi v4),(24,vi v5),(8,vi v5)] [0,1,2,3,4] [0,1,2,3,8] [zq [3] 5 22,zq [5] 6 23,zq [6] 7 24,zq [7] 8 8] [(_,_),(_,_),(_,_),(_,_),(_,_)] rfl ⟨z1 rfl,zp rfl (op_call _ _ 53 _ _ rfl call53 rfl (ok_strings_Index v2.1 (⟨#[62]⟩ : ByteArray) _ hv4) rfl rfl),zp rfl (oB rfl (ibind (f := Value.int .i64) (Option.some.inj hv5))),z2 rfl,zz⟩ ?_
   refine pt_then (ht_seq ?_)
   obtain ⟨v6, hv6, h⟩ := bind_some h
   obtain ⟨v7, hv7, h⟩ := bind_some h
   refine zg hn (_::_::_::_::_::(26,vs v2.1)::(27,vi v5)::(28,vs v6)::(29,.tup [.agg [vb v7.1.Null,vs v7.1.Local,vs v7.1.Domain],vi v7.2])::(25,.tup [.agg [vb v7.1.Null,vs v7.1.Local,vs v7.1.Domain],vi v7.2])::(30,.agg [vb v7.1.Null,vs v7.1.Local,vs v7.1.Domain])::(31,vi v7.2)::(9,.box 23 [vb false,vs z0,vs z0])::(9,.box 23 [vb v7.1.Null,vs v7.1.Local,vs v7.1.Domain])::(10,vi v7.2)::[]) [0,1,2,3,4] [0,1,2,3,4,13,14] [zq [3] 5 26,zq [4] 6 27,zq [5,6] 7 28,zq [7,1] 8 29,⟨[],[8],[9],[(.slot 25)]⟩,zq [9] 10 30,zq [9] 11 31,zq [] 12 9,⟨[10],[12],[13],[.cell 9 0,.cell 9 1,.cell 9 2]⟩,zq [11] 14 10] [(_,_),(_,_),(_,_),(_,_),(_,_),(_,_),(_,_)] rfl ⟨z1 rfl,z1 rfl,zp rfl (op_substr _ _ _ 0 v5 _ underlying9 rfl rfl ⟨_, rfl⟩ hv6),zp rfl (op_callG _ _ 56 54 _ _ rfl call54 rfl rfl (fun _ h => h) (ok_path_Parse mx v6 _ hv7) rfl rfl),zp rfl (op_move_take _ _ _ _ rfl),zp rfl (op_extract_no _ _ _ _ _ _ rfl rfl (zl rfl) rfl rfl),zp rfl (oE rfl),zp rfl (op_alloc _ _ zr23),zp rfl (oS sz23 rfl),z2 rfl,zz⟩ ?_
   refine pt_then (ht_seq ?_)
   refine ht_seq ?_
   refine ht_joinS h (fun (s16 : Bool) => [(0, .v (.int .i64 kind)), (56, .glob (GL mx)), (4, .box 26 [.v (.int .i64 0), .v (.string (⟨#[]⟩ : ByteArray)), .v (.bool false), .v (.string (⟨#[]⟩ : ByteArray)), .v (.string (⟨#[]⟩ : ByteArray)), .v (.slice none 0 0)]), (6, .v (.string v2.1)), (8, .v (.int .i64 v5)), (9, .box 23 [.v (.bool v7.1.Null), .v (.string v7.1.Local), .v (.string v7.1.Domain)]), (41, .v (.bool s16))]) ?_ ?_
   ·rintro s16 h
    refine pt_then ?_
    refine ht_cond _ rfl (fun hb20 => ?_) (fun hb20 => ?_)
    ·have h := cond_t hb20 h
     refine zgg hn [_,_,_,_,_,_,_,(42,.agg [vi 0,vs z0,vb false,vs z0,vs z0,.v (.slice none 0 0)]),(4,.box 26 [vi 0,vs z0,vb false,vs z0,vs z0,.v (.slice none 0 0)]),(5,vb false)] [0,1,2,3,4,5,6] [1,8,9] [zq [] 7 42,⟨[],[7,2],[8],[.cell 4 0,.cell 4 1,.cell 4 2,.cell 4 3,.cell 4 4,.cell 4 5]⟩,zq [] 9 5] [(_,_),(_,_),(_,_)] rfl ⟨zp rfl (op_build _ _ _ _ [1, 1, 3, 1] _ _ underlying26 zr26 (fs26 _ underlying26) Src.nil rfl rfl rfl),zp rfl (op_store_self _ _ _ 42 4 6 sz26 rfl rfl rfl rfl rfl (.eq _ (.eq _ (.eq _ (.eq _ (.eq _ (.eq _ (.nil _))))))) rfl),z2 rfl,zz⟩ ?_
     refine ht_ret ?_
     refine pt_pick [1, 2] (by kernel_rfl) (es' := [(_,_),(_,_)]) rfl ?_
     refine pt_sub (fs := [(4, .box 26 [.v (.int .i64 0), .v (.string (⟨#[]⟩ : ByteArray)), .v (.bool false), .v (.string (⟨#[]⟩ : ByteArray)), .v (.string (⟨#[]⟩ : ByteArray)), .fl (.own 47) 2 (List.flatten (List.map T_Param.enc []))]), (5, .v (.bool false))]) (.box _ _ (subs_cons (sub_refl _) (subs_cons (sub_refl _) (subs_cons (sub_refl _) (subs_cons (sub_refl _) (subs_cons (sub_refl _) (subs_cons (sub_nil 47 2) (subs_nil))))))) rfl (.same _ .nil)) ?_
     refine pt_frz 0 hio (es' := [(4, .box 26 [.v (.int .i64 0), .v (.string (⟨#[]⟩ : ByteArray)), .v (.bool false), .v (.string (⟨#[]⟩ : ByteArray)), .v (.string (⟨#[]⟩ : ByteArray)), .fl .ro 2 (List.flatten (List.map T_Param.enc []))]), (5, .v (.bool false))]) rfl ?_
     refine pt_r_then ?_
     obtain rfl := Option.some.inj h
     exact pt_ret hio rfl (.cellA _ _ _ _ underlying26 rfl sz26 (.tmp _ _ .nil)) rfl rfl
    ·have h := cond_f hb20 h
     refine ht_skip ?_
     refine pt_then (ht_seq ?_)
     obtain ⟨v13, hv13, h⟩ := bind_some h
     obtain ⟨v14, hv14, h⟩ := bind_some h
     refine zg hn (_::_::_::_::_::_::_::(44,vi kind)::(45,vs v2.1)::(46,vi v5)::(47,vs v13)::(48,.tup [.fl .ro 2 (List.flatten (List.map T_Param.enc v14.1)),vb v14.2])::(43,.tup [.fl .ro 2 (List.flatten (List.map T_Param.enc v14.1)),vb v14.2])::(49,.fl .ro 2 (List.flatten (List.map T_Param.enc v14.1)))::(50,vb v14.2)::(11,.fl .ro 2 (List.flatten (List.map T_Param.enc v14.1)))::(7,vb v14.2)::[]) [0,1,2,3,4,5,6] [0,1,2,5,15,16] [zq [0] 7 44,zq [3] 8 45,zq [4] 9 46,zq [8,9] 10 47,zq [7,10,1] 11 48,⟨[],[11],[12],[(.slot 43)]⟩,zq [12] 13 49,zq [12] 14 50,zq [13] 15 11,zq [14] 16 7] [(_,_),(_,_),(_,_),(_,_),(_,_),(_,_)] rfl ⟨z1 rfl,z1 rfl,z1 rfl,zp rfl (op_substr _ _ _ v5 (v2.1.size : Int) _ underlying9 rfl ⟨_, rfl⟩ rfl hv13),zp rfl (op_callG _ _ 56 55 _ _ rfl call55 rfl rfl (fun _ h => h) (ok_verb_parameters mx kind v13 _ hv14) rfl rfl),zp rfl (op_move_take _ _ _ _ rfl),zp rfl (oE rfl),zp rfl (oE rfl),z2 rfl,z2 rfl,zz⟩ ?_
     refine pt_then ?_
     refine zgg hn [_,_,_,_,_,_,(51,vi kind),(52,.agg [vb v7.1.Null,vs v7.1.Local,vs v7.1.Domain]),(53,.fl .ro 2 (List.flatten (List.map T_Param.enc v14.1))),(54,.agg [vi kind,vs z0,vb v7.1.Null,vs v7.1.Local,vs v7.1.Domain,.fl .ro 2 (List.flatten (List.map T_Param.enc v14.1))]),(55,vb v14.2),(4,.box 26 [vi kind,vs z0,vb v7.1.Null,vs v7.1.Local,vs v7.1.Domain,.fl .ro 2 (List.flatten (List.map T_Param.enc v14.1))]),(5,vb v14.2)] [0,1,2,3,4,5] [1,11,12] [zq [0] 6 51,zq [3] 7 52,zq [4] 8 53,zq [6,7,8] 9 54,zq [5] 10 55,⟨[9],[2],[11],[.cell 4 0,.cell 4 1,.cell 4 2,.cell 4 3,.cell 4 4,.cell 4 5]⟩,zq [10] 12 5] [(_,_),(_,_),(_,_)] rfl ⟨z1 rfl,zp rfl (op_loadA _ _ _ _ _ _ _ underlying23 rfl sz23 rfl rfl (zl rfl) rfl rfl),z1 rfl,zp rfl (op_build _ _ _ _ [1, 1, 3, 1] _ _ underlying26 zr26 (fs26 _ underlying26) (.copy _ (.copy _ (.copy _ Src.nil))) rfl rfl rfl),z1 rfl,zp rfl (oS sz26 rfl),z2 rfl,zz⟩ ?_
     refine ht_ret ?_
     refine pt_pick [1, 2] (by kernel_rfl) (es' := [(_,_),(_,_)]) rfl ?_
     obtain rfl := Option.some.inj h
     exact pt_ret hio rfl (.cellA _ _ _ _ underlying26 rfl sz26 (.tmp _ _ .nil)) rfl rfl
   ·intro u17 h hl18 hr19
    refine cond_some h (fun hg6_2 h => ?_) (fun hg6_2 h => ?_)
    ·refine zg hn (_::_::_::_::_::_::_::(32,vi v7.2)::(33,vb (v7.2 != 0))::(34,vb true)::(35,.v undef)::(36,.v undef)::(37,.v undef)::(38,.v undef)::(39,.v undef)::(40,.v undef)::(41,vb true)::[]) [0,1,2,3,4,5,6] [0,1,2,3,4,5,16] [zq [6] 7 32,zq [7] 8 33,zq [8] 9 34,zq [9] 10 35,zq [9] 11 36,zq [9] 12 37,zq [12] 13 38,zq [12] 14 39,zq [9] 15 40,zq [9] 16 41] [(_,_),(_,_),(_,_),(_,_),(_,_),(_,_),(_,_)] rfl ⟨z1 rfl,z4 rfl rfl,z8 hg6_2 rfl,zf rfl,zf rfl,zf rfl,zu' rfl,zu' rfl,zf rfl,z3 true rfl,zz⟩ ?_
     exact hl18 _ (Option.some.inj h).symm
    ·refine cond_some h (fun hg6_5 h => ?_) (fun hg6_5 h => ?_)
     ·refine zg hn (_::_::_::_::_::_::_::(32,vi v7.2)::(33,vb (v7.2 != 0))::(34,vb false)::(35,vi kind)::(36,vb (kind == 3))::(37,vb true)::(38,.ptr 9 0)::(39,vb v7.1.Null)::(40,vb v7.1.Null)::(41,vb v7.1.Null)::[]) [0,1,2,3,4,5,6] [0,1,2,3,4,5,16] [zq [6] 7 32,zq [7] 8 33,zq [8] 9 34,zq [9,0] 10 35,zq [9,10] 11 36,zq [9,11] 12 37,zq [12,5] 13 38,zq [12,13,5] 14 39,zq [9,12,14] 15 40,zq [9,15] 16 41] [(_,_),(_,_),(_,_),(_,_),(_,_),(_,_),(_,_)] rfl ⟨z1 rfl,z4 rfl rfl,z8 hg6_2 rfl,zr' rfl (oM rfl),zr' rfl (oB rfl rfl),zr' rfl (op_move _ _ _ _ (zb hg6_5) rfl),zr' rfl (oF underlying23 rfl sz4),zr' rfl (oL underlying4 rfl),zr' rfl (op_pick _ _ true _ rfl rfl),z3 false rfl,zz⟩ ?_
      exact hl18 _ (Option.some.inj h).symm
     ·refine zg hn (_::_::_::_::_::_::_::(32,vi v7.2)::(33,vb (v7.2 != 0))::(34,vb false)::(35,vi kind)::(36,vb (kind == 3))::(37,vb false)::(38,.v undef)::(39,.v undef)::(40,vb false)::(41,vb false)::[]) [0,1,2,3,4,5,6] [0,1,2,3,4,5,16] [zq [6] 7 32,zq [7] 8 33,zq [8] 9 34,zq [9,0] 10 35,zq [9,10] 11 36,zq [9,11] 12 37,zq [12] 13 38,zq [12] 14 39,zq [9,12] 15 40,zq [9,15] 16 41] [(_,_),(_,_),(_,_),(_,_),(_,_),(_,_),(_,_)] rfl ⟨z1 rfl,z4 rfl rfl,z8 hg6_2 rfl,zr' rfl (oM rfl),zr' rfl (oB rfl rfl),zr' rfl (op_move _ _ _ _ (zb hg6_5) rfl),zt rfl,zt rfl,zr' rfl (op_pick _ _ false _ rfl rfl),z3 false rfl,zz⟩ ?_
      exact hl18 _ (Option.some.inj h).symm
end Go.Proofs.YthfmdofkkkpbkaaGreatDoor
