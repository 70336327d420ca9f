/-
  The model's runs are what is told in Lean.
-/
import Derived.Test.YthceldoojddpiaaDoorProg
import Derived.KernelRfl
import Derived.Test.YthceldoojddpiaaDoorB3
import Derived.Test.YthceldoojddpiaaDoorSh
set_option linter.unusedVariables false
set_option linter.unusedSimpArgs false
set_option maxHeartbeats 1000000
namespace Go.Proofs.YthceldoojddpiaaDoor
open Go.Abs Go.Abs.Sh Tryd
open List (map flatten)
open Value (int)
def GL (mx : Int) : List (Nat × List Value) := [(1, (List.map (Value.int .i64) grow_rowOrder))]
theorem gl_mem1 (mx : Int) : (1, ((List.map (Value.int .i64) grow_rowOrder) : List Value)) ∈ GL mx := .head _
theorem zr36 : (Tryd.prog.info? 36).bind (·.zero) = some (.agg #[.slice none 0 0, .int .i64 0]) := by kernel_rfl
theorem sz3 : (Tryd.prog.info? 3).map (·.size) = some 1 := by kernel_rfl
theorem zr37 : (Tryd.prog.info? 37).bind (·.zero) = some (.agg #[.int .i64 0, .int .i64 0]) := by kernel_rfl
theorem sz37 : (Tryd.prog.info? 37).map (·.size) = some 2 := by kernel_rfl
theorem sz5 : (Tryd.prog.info? 5).map (·.size) = some 1 := by kernel_rfl
theorem zr5 : (Tryd.prog.info? 5).bind (·.zero) = some (.int .u8 0) := by kernel_rfl
theorem el38 : ElemT Tryd.prog 38 37 2 16 := ⟨⟨Tryd.t37, .agg #[.int .i64 0, .int .i64 0], Tryd.underlying38, by kernel_rfl, by kernel_rfl, by kernel_rfl, by kernel_rfl, by decide, by kernel_rfl⟩⟩
theorem sz36 : (Tryd.prog.info? 36).map (·.size) = some 2 := by kernel_rfl
theorem sz22 : (Tryd.prog.info? 22).map (·.size) = some 1 := by kernel_rfl
theorem fs36 : ∀ fs, Tryd.prog.underlying 36 = some (.struct fs) → fs.toList.map (fun f => (Tryd.prog.info? f.type).map (·.size)) = ([1, 1] : List Nat).map some := by
  intro fs h
  rw [Tryd.underlying36] at h
  cases h
  kernel_rfl
theorem el22 : ElemT Tryd.prog 22 5 1 1 := ⟨⟨Tryd.t5, .int .u8 0, Tryd.underlying22, by kernel_rfl, by kernel_rfl, by kernel_rfl, by kernel_rfl, by decide, by kernel_rfl⟩⟩
theorem fs59 : ∀ fs, Tryd.prog.underlying 59 = some (.struct fs) → fs.toList.map (fun f => (Tryd.prog.info? f.type).map (·.size)) = ([1, 1, 1, 1, 1] : List Nat).map some := by
  intro fs h
  rw [Tryd.underlying59] at h
  cases h
  kernel_rfl
theorem zr59 : (Tryd.prog.info? 59).bind (·.zero) = some (.agg #[.slice none 0 0, .int .i64 0, .slice none 0 0, .int .i64 0, .int .i64 0]) := by kernel_rfl
theorem zr3 : (Tryd.prog.info? 3).bind (·.zero) = some (.int .i64 0) := by kernel_rfl
theorem el73 : ElemT Tryd.prog 73 3 1 8 := ⟨⟨Tryd.t3, .int .i64 0, Tryd.underlying73, by kernel_rfl, by kernel_rfl, by kernel_rfl, by kernel_rfl, by decide, by kernel_rfl⟩⟩
theorem za118 : ((Tryd.prog.info? 118).bind (·.zero)).map (·.cells.toList) = some (List.map (Value.int .i64) (List.replicate 16 (0 : Int))) := by kernel_rfl
theorem sz118 : (Tryd.prog.info? 118).map (·.size) = some 16 := by kernel_rfl
theorem zr118 : (Tryd.prog.info? 118).bind (·.zero) = some (.agg #[.int .i64 0, .int .i64 0, .int .i64 0, .int .i64 0, .int .i64 0, .int .i64 0, .int .i64 0, .int .i64 0, .int .i64 0, .int .i64 0, .int .i64 0, .int .i64 0, .int .i64 0, .int .i64 0, .int .i64 0, .int .i64 0]) := by kernel_rfl
theorem zr113 : (Tryd.prog.info? 113).bind (·.zero) = some (.agg #[.int .i64 0, .int .i64 0, .int .i64 0]) := by kernel_rfl
theorem fs113 : ∀ fs, Tryd.prog.underlying 113 = some (.struct fs) → fs.toList.map (fun f => (Tryd.prog.info? f.type).map (·.size)) = ([1, 1, 1] : List Nat).map some := by
  intro fs h
  rw [Tryd.underlying113] at h
  cases h
  kernel_rfl
theorem sz113 : (Tryd.prog.info? 113).map (·.size) = some 3 := by kernel_rfl
theorem ok_bits_fits (v : Int) (n : Int) (r : Bool) (h : Sh.bits_fits v n = some r) : FnOK Tryd.prog 25 [.v (.int .i64 v), .v (.int .i64 n)] (.v (.bool r)) := by
  unfold Sh.bits_fits at h
  refine fn_ok func25 rfl (zl rfl) rfl rfl fun g0 hn hio => ?_
  refine zgg hn [_,_,(4,vb false)] [0,1] [0,1] [zq [] 2 4] [(_,_),(_,_)] rfl ⟨z2 rfl,zz⟩ ?_
  refine ht_seq ?_
  refine ht_joinS h (fun (s2 : Bool) => [(4,vb s2)]) ?_ ?_
  ·rintro s2 h
   refine pt_then (ht_ret ?_)
   obtain rfl := zi h
   exact pt_ret hio rfl (.tmp _ _ .nil) rfl rfl
  ·intro u3 h hl4 hr5
   refine cond_some h (fun hg1_2 h => ?_) (fun hg1_2 h => ?_)
   ·refine cond_some h (fun hg1_6 h => ?_) (fun hg1_6 h => ?_)
    ·refine cond_some h (fun hg1_10 h => ?_) (fun hg1_10 h => ?_)
     ·obtain ⟨v1, hv1, h⟩ := zn h
      refine zg hn (_::_::(5,vi n)::(6,vb (decide (0 ≤ n)))::(7,vb true)::(8,vi n)::(9,vb (decide (n ≤ 24)))::(10,vb (decide (n ≤ 24)))::(11,vb true)::(12,vi v)::(13,vb (decide (0 ≤ v)))::(14,vb (decide (0 ≤ v)))::(15,vb true)::(16,vi v)::(17,vi n)::(18,vi v1)::(19,vb (decide (v < v1)))::(20,vb (decide (v < v1)))::(4,vb (decide (v < v1)))::[]) [0,1] [18] (zq [1] 2 5::zq [2] 3 6::zq [3] 4 7::zq [4,1] 5 8::zq [4,5] 6 9::zq [4,6] 7 10::zq [7] 8 11::zq [8,0] 9 12::zq [8,9] 10 13::zq [8,10] 11 14::zq [11] 12 15::zq [12,0] 13 16::zq [12,1] 14 17::zq [12,14] 15 18::zq [12,13,15] 16 19::zq [12,16] 17 20::zq [17] 18 4::[]) [(_,_)] rfl ⟨z1 rfl,z4 rfl rfl,z8 hg1_2 rfl,zr' rfl (oM rfl),zr' rfl (oB rfl rfl),z3 true rfl,z8 hg1_6 rfl,zr' rfl (oM rfl),zr' rfl (oB rfl rfl),z3 true rfl,z8 hg1_10 rfl,zr' rfl (oM rfl),zr' rfl (oM rfl),zr' rfl (oB rfl (shl_ok hv1)),zr' rfl (oB rfl rfl),z3 true rfl,z2 rfl,zz⟩ ?_
      exact hl4 _ (zi h).symm
     ·refine zg hn (_::_::(5,vi n)::(6,vb (decide (0 ≤ n)))::(7,vb true)::(8,vi n)::(9,vb (decide (n ≤ 24)))::(10,vb (decide (n ≤ 24)))::(11,vb true)::(12,vi v)::(13,vb (decide (0 ≤ v)))::(14,vb (decide (0 ≤ v)))::(15,vb false)::(16,.v undef)::(17,.v undef)::(18,.v undef)::(19,.v undef)::(20,vb false)::(4,vb false)::[]) [0,1] [18] (zq [1] 2 5::zq [2] 3 6::zq [3] 4 7::zq [4,1] 5 8::zq [4,5] 6 9::zq [4,6] 7 10::zq [7] 8 11::zq [8,0] 9 12::zq [8,9] 10 13::zq [8,10] 11 14::zq [11] 12 15::zq [12] 13 16::zq [12] 14 17::zq [12] 15 18::zq [12] 16 19::zq [12] 17 20::zq [17] 18 4::[]) [(_,_)] rfl ⟨z1 rfl,z4 rfl rfl,z8 hg1_2 rfl,zr' rfl (oM rfl),zr' rfl (oB rfl rfl),z3 true rfl,z8 hg1_6 rfl,zr' rfl (oM rfl),zr' rfl (oB rfl rfl),z3 true rfl,z8 hg1_10 rfl,zt rfl,zt rfl,zt rfl,zt rfl,z3 false rfl,z2 rfl,zz⟩ ?_
      exact hl4 _ (zi h).symm
    ·refine zg hn (_::_::(5,vi n)::(6,vb (decide (0 ≤ n)))::(7,vb true)::(8,vi n)::(9,vb (decide (n ≤ 24)))::(10,vb (decide (n ≤ 24)))::(11,vb false)::(12,.v undef)::(13,.v undef)::(14,vb false)::(15,vb false)::(16,.v undef)::(17,.v undef)::(18,.v undef)::(19,.v undef)::(20,vb false)::(4,vb false)::[]) [0,1] [18] (zq [1] 2 5::zq [2] 3 6::zq [3] 4 7::zq [4,1] 5 8::zq [4,5] 6 9::zq [4,6] 7 10::zq [7] 8 11::zq [8] 9 12::zq [8] 10 13::zq [8] 11 14::zq [11] 12 15::zq [12] 13 16::zq [12] 14 17::zq [12] 15 18::zq [12] 16 19::zq [12] 17 20::zq [17] 18 4::[]) [(_,_)] rfl ⟨z1 rfl,z4 rfl rfl,z8 hg1_2 rfl,zr' rfl (oM rfl),zr' rfl (oB rfl rfl),z3 true rfl,z8 hg1_6 rfl,zt rfl,zt rfl,z3 false rfl,z1 rfl,zt rfl,zt rfl,zt rfl,zt rfl,z3 false rfl,z2 rfl,zz⟩ ?_
     exact hl4 _ (zi h).symm
   ·refine zg hn (_::_::(5,vi n)::(6,vb (decide (0 ≤ n)))::(7,vb false)::(8,.v undef)::(9,.v undef)::(10,vb false)::(11,vb false)::(12,.v undef)::(13,.v undef)::(14,vb false)::(15,vb false)::(16,.v undef)::(17,.v undef)::(18,.v undef)::(19,.v undef)::(20,vb false)::(4,vb false)::[]) [0,1] [18] (zq [1] 2 5::zq [2] 3 6::zq [3] 4 7::zq [4] 5 8::zq [4] 6 9::zq [4] 7 10::zq [7] 8 11::zq [8] 9 12::zq [8] 10 13::zq [8] 11 14::zq [11] 12 15::zq [12] 13 16::zq [12] 14 17::zq [12] 15 18::zq [12] 16 19::zq [12] 17 20::zq [17] 18 4::[]) [(_,_)] rfl ⟨z1 rfl,z4 rfl rfl,z8 hg1_2 rfl,zt rfl,zt rfl,z3 false rfl,z1 rfl,zt rfl,zt rfl,z3 false rfl,z1 rfl,zt rfl,zt rfl,zt rfl,zt rfl,z3 false rfl,z2 rfl,zz⟩ ?_
    exact hl4 _ (zi h).symm
theorem ok_bits_Turn (v : Int) (n : Int) (r : (Int × Int)) (h : Sh.bits_Turn v n = some r) : FnOK Tryd.prog 18 [.v (.int .i64 v), .v (.int .i64 n)] (.tup [.v (.int .i64 r.1), .v (.int .i64 r.2)]) := by
  unfold Sh.bits_Turn at h
  refine fn_ok func18 rfl (zl rfl) rfl rfl fun g0 hn hio => ?_
  refine zgg hn [_,_,(4,vi 0),(5,vi 0)] [0,1] [0,1] [zq [] 2 4,zq [] 3 5] [(_,_),(_,_)] rfl ⟨z2 rfl,z2 rfl,zz⟩ ?_
  refine ht_seq ?_
  refine ht_seq ?_
  obtain ⟨v1, hv1, h⟩ := zn h
  refine zg hn [_,_,(8,vi v),(9,vi n),(10,vb v1),(11,vb (!v1))] [0,1] [0,1,5] [zq [0] 2 8,zq [1] 3 9,zq [2,3] 4 10,zq [4] 5 11] [(_,_),(_,_),(_,_)] rfl ⟨z1 rfl,z1 rfl,zp rfl (op_call _ _ 25 _ _ rfl call25 rfl (ok_bits_fits v n _ hv1) rfl rfl),zp rfl (op_un _ _ _ _ rfl rfl),zz⟩ ?_
  refine pt_then ?_
  refine ht_cond _ rfl (fun hb2 => ?_) (fun hb2 => ?_)
  ·have h := cond_t hb2 h
   refine zgg hn [_,_,_,(4,vi 0),(5,vi 1)] [0,1,2] [3,4] [zq [] 3 4,zq [] 4 5] [(_,_),(_,_)] rfl ⟨z2 rfl,z2 rfl,zz⟩ ?_
   refine ht_ret ?_
   refine pt_r_then ?_
   obtain rfl := zi h
   exact pt_ret hio rfl (.tmp _ _ (.tmp _ _ .nil)) rfl rfl
  ·have h := cond_f hb2 h
   refine ht_skip ?_
   refine pt_then ?_
   refine zgg hn [_,_,_,(6,.v (.int .u32 0))] [0,1,2] [0,1,3] [zq [] 3 6] [(_,_),(_,_),(_,_)] rfl ⟨z2 rfl,zz⟩ ?_
   refine ht_seq ?_
   refine ht_seq ?_
   obtain ⟨v3, hv3, h⟩ := zn h
   refine zg hn [_,_,_,(12,vi v),(13,.v (.int .u32 v3)),(7,.v (.int .u32 v3))] [0,1,2] [1,2,5] [zq [0] 3 12,zq [3] 4 13,zq [4] 5 7] [(_,_),(_,_),(_,_)] rfl ⟨z1 rfl,zp rfl ((Option.some.inj hv3) ▸ op_conv _ _ _ underlying3 underlying61 rfl),z2 rfl,zz⟩ ?_
   refine pt_then ?_
   refine ht_loopS h (fun ((s14,s15,s16) : Int × Int × Int) => [(1,vi s14),(6,.v (.int .u32 s15)),(7,.v (.int .u32 s16))]) (fun (s18 : Int) => [(6,.v (.int .u32 s18))]) ?_ ?_
   ·rintro s18 h
    refine pt_then (ht_seq ?_)
    obtain ⟨v26, hv26, h⟩ := zn h
    refine zg hn [_,(25,.v (.int .u32 s18)),(26,vi v26),(4,vi v26),(5,vi 0)] [0] [3,4] [zq [0] 1 25,zq [1] 2 26,zq [2] 3 4,zq [] 4 5] [(_,_),(_,_)] rfl ⟨z1 rfl,zp rfl ((Option.some.inj hv26) ▸ op_conv _ _ _ underlying61 underlying3 rfl),z2 rfl,z2 rfl,zz⟩ ?_
    refine pt_then (ht_ret ?_)
    obtain rfl := zi h
    exact pt_ret hio rfl (.tmp _ _ (.tmp _ _ .nil)) rfl rfl
   ·rintro u19 hl20 hr21 ⟨s14, s15, s16⟩ rr24 h ho22
    refine ht_seq ?_
    refine zgg hn [_,_,_,(14,vi s14),(15,vb (decide (0 < s14)))] [0,1,2] [0,1,2,4] [zq [0] 3 14,zq [3] 4 15] [(_,_),(_,_),(_,_),(_,_)] rfl ⟨z1 rfl,z4 rfl rfl,zz⟩ ?_
    refine ht_cond _ rfl (fun hb25 => ?_) (fun hb25 => ?_)
    ·have h := cond_t hb25 h
     refine ht_skip ?_
     refine pt_then (ht_seq ?_)
     refine ht_block ?_
     refine ht_seq ?_
     obtain ⟨v5, hv5, h⟩ := zn h
     obtain ⟨v6, hv6, h⟩ := zn h
     obtain ⟨v7, hv7, h⟩ := zn h
     refine zg hn [_,_,_,_,(18,.v (.int .u32 s15)),(19,.v (.int .u32 v5)),(20,.v (.int .u32 s16)),(21,.v (.int .u32 v6)),(22,.v (.int .u32 v7)),(6,.v (.int .u32 v7))] [0,1,2,3] [0,2,9] [zq [1] 4 18,zq [4] 5 19,zq [2] 6 20,zq [6] 7 21,zq [5,7] 8 22,⟨[8],[1],[9],[(.slot 6)]⟩] [(_,_),(_,_),(_,_)] rfl ⟨z1 rfl,zp rfl (oB rfl (shl_ok hv5)),z1 rfl,zp rfl (oB rfl (ibind (f := int .u32) (Option.some.inj hv6))),zp rfl (oB rfl (ibind (f := int .u32) (Option.some.inj hv7))),zp rfl (LOp.drop [_] (op_assign _ _ _ _ rfl rfl)),zz⟩ ?_
     refine pt_then ?_
     obtain ⟨v8, hv8, h⟩ := zn h
     refine zg hn [_,_,_,(23,.v (.int .u32 s16)),(24,.v (.int .u32 v8)),(7,.v (.int .u32 v8))] [0,1,2] [0,2,5] [zq [1] 3 23,zq [3] 4 24,⟨[4],[1],[5],[(.slot 7)]⟩] [(_,_),(_,_),(_,_)] rfl ⟨z1 rfl,zp rfl (oB rfl (shr_ok hv8)),zp rfl (LOp.drop [_] (op_assign _ _ _ _ rfl rfl)),zz⟩ ?_
     refine pt_inb ?_
     refine pt_then ?_
     obtain ⟨v9, hv9, h⟩ := zn h
     refine zg hn [_,_,_,(16,vi s14),(17,vi v9),(1,vi v9)] [0,1,2] [1,2,5] [zq [0] 3 16,zq [3] 4 17,⟨[4],[0],[5],[(.slot 1)]⟩] [(_,_),(_,_),(_,_)] rfl ⟨z1 rfl,zp rfl (oB rfl (ibind (f := int .i64) (Option.some.inj hv9))),zp rfl (LOp.drop [_] (op_assign _ _ _ _ rfl rfl)),zz⟩ ?_
     refine pt_pick [2,0,1] (by kernel_rfl) (es' := [(_,_),(_,_),(_,_)]) rfl ?_
     exact pt_next _ (zi h).symm rfl
    ·have h := cond_f hb25 h
     refine ht_exit ?_
     refine pt_x_then ?_
     refine pt_x_then ?_
     refine pt_x_in ?_
     refine pt_pick [1] (by kernel_rfl) (es' := [(_,_)]) rfl ?_
     exact hl20 _ (ho22 _ (zi h).symm).symm
theorem ok_bits_bytesFor (n : Int) (r : Int) (h : Sh.bits_bytesFor n = some r) : FnOK Tryd.prog 27 [.v (.int .i64 n)] (.v (.int .i64 r)) := by
  unfold Sh.bits_bytesFor at h
  refine fn_ok func27 rfl (zl rfl) rfl rfl fun g0 hn hio => ?_
  refine zgg hn [_,(2,vi 0)] [0] [0] [zq [] 1 2] [(_,_)] rfl ⟨z2 rfl,zz⟩ ?_
  refine ht_seq ?_
  obtain ⟨v1, hv1, h⟩ := zn h
  obtain ⟨v2, hv2, h⟩ := zn h
  refine zg hn [_,(3,vi n),(4,vi v1),(5,vi v2),(2,vi v2)] [0] [4] [zq [0] 1 3,zq [1] 2 4,zq [2] 3 5,zq [3] 4 2] [(_,_)] rfl ⟨z1 rfl,zp rfl (oB rfl (ibind (f := int .i64) (Option.some.inj hv1))),zp rfl (oB rfl (quo_ok hv2)),z2 rfl,zz⟩ ?_
  refine pt_then (ht_ret ?_)
  obtain rfl := zi h
  exact pt_ret hio rfl (.tmp _ _ .nil) rfl rfl
theorem ok_bits_Check (s : T_Bits) (r : Int) (h : Sh.bits_Check s = some r) : FnOK Tryd.prog 26 [.agg [.fl .shr 1 (map (int .u8) s.B), .v (.int .i64 s.N)]] (.v (.int .i64 r)) := by
  unfold Sh.bits_Check at h
  refine fn_ok func26 rfl (zl rfl) rfl rfl fun g0 hn hio => ?_
  refine zgg hn [_,(1,.box 36 [fb s.B,vi s.N]),(2,vi 0)] [0] [1] [zq [0] 1 1,zq [] 2 2] [(_,_)] rfl ⟨zp rfl (op_box _ _ _ _ rfl rfl rfl),z2 rfl,zz⟩ ?_
  refine ht_seq ?_
  refine ht_seq ?_
  refine ht_joinS h (fun (s2 : Bool) => [(1,.box 36 [fb s.B,vi s.N]),(20,vb s2)]) ?_ ?_
  ·rintro s2 h
   refine pt_then ?_
   refine ht_cond _ rfl (fun hb6 => ?_) (fun hb6 => ?_)
   ·have h := cond_t hb6 h
    refine zgg hn [_,_,(2,vi 1)] [0,1] [2] [zq [] 2 2] [(_,_)] rfl ⟨z2 rfl,zz⟩ ?_
    refine ht_ret ?_
    refine pt_r_then ?_
    obtain rfl := zi h
    exact pt_ret hio rfl (.tmp _ _ .nil) rfl rfl
   ·have h := cond_f hb6 h
    refine ht_skip ?_
    refine pt_then (ht_seq ?_)
    refine ht_seq ?_
    obtain ⟨v7, hv7, h⟩ := zn h
    refine zg hn [_,_,(21,.ptr 1 1),(22,vi s.N),(23,vi v7),(3,vi v7)] [0,1] [0,5] [zq [0] 2 21,zq [2,0] 3 22,zq [3] 4 23,zq [4] 5 3] [(_,_),(_,_)] rfl ⟨zp rfl (oF underlying36 rfl sz3),zp rfl (oL underlying3 rfl),zp rfl (oB rfl (rem_ok hv7)),z2 rfl,zz⟩ ?_
    refine pt_then (ht_seq ?_)
    refine ht_joinS h (fun (s12 : Bool) => [(38,vb s12)]) ?_ ?_
    ·rintro s12 h
     refine pt_then ?_
     refine ht_cond _ rfl (fun hb16 => ?_) (fun hb16 => ?_)
     ·have h := cond_t hb16 h
      refine zgg hn [_,(2,vi 1)] [0] [1] [zq [] 1 2] [(_,_)] rfl ⟨z2 rfl,zz⟩ ?_
      refine ht_ret ?_
      refine pt_r_then ?_
      obtain rfl := zi h
      exact pt_ret hio rfl (.tmp _ _ .nil) rfl rfl
     ·have h := cond_f hb16 h
      refine ht_skip ?_
      refine pt_then ?_
      refine zgg hn [_,(2,vi 0)] [0] [1] [zq [] 1 2] [(_,_)] rfl ⟨z2 rfl,zz⟩ ?_
      refine ht_ret ?_
      obtain rfl := zi h
      exact pt_ret hio rfl (.tmp _ _ .nil) rfl rfl
    ·intro u13 h hl14 hr15
     refine cond_some h (fun hg4_2 h => ?_) (fun hg4_2 h => ?_)
     ·obtain ⟨v8, hv8, h⟩ := zn h
      obtain ⟨v9, hv9, h⟩ := zn h
      obtain ⟨v10, hv10, h⟩ := zn h
      obtain ⟨v11, hv11, h⟩ := zn h
      refine zg hn (_::_::(24,vi v7)::(25,vb (v7 != 0))::(26,vb true)::(27,.ptr 1 0)::(28,fb s.B)::(29,.ptr 1 0)::(30,fb s.B)::(31,vi (s.B.length : Int))::(32,vi v8)::(33,.eref (.slot 28) (v9 * 1))::(34,.v (.int .u8 v10))::(35,vi v7)::(36,.v (.int .u8 v11))::(37,vb (v11 != 0))::(38,vb (v11 != 0))::[]) [0,1] [16] (zq [1] 2 24::zq [2] 3 25::zq [3] 4 26::zq [4,0] 5 27::zq [4,5,0] 6 28::zq [4,0] 7 29::zq [4,7,0] 8 30::zq [4,8] 9 31::zq [4,9] 10 32::zq [4,6,10] 11 33::zq [4,11,6] 12 34::zq [4,1] 13 35::zq [4,12,13] 14 36::zq [4,14] 15 37::zq [4,15] 16 38::[]) [(_,_)] rfl ⟨z1 rfl,z4 rfl rfl,z8 hg4_2 rfl,zr' rfl (oF underlying36 rfl sz22),zr' rfl (oL underlying22 rfl),zr' rfl (oF underlying36 rfl sz22),zr' rfl (oL underlying22 rfl),zr' rfl (op_len_fl _ _ _ underlying22 rfl (by decide) (map_len _)),zr' rfl (oB rfl (ibind (f := int .i64) (Option.some.inj hv8))),zr' rfl (op_ix _ _ _ _ _ _ _ _ underlying22 sz5 (by decide) rfl rfl rfl (ix_ok hv9).1 (map_lt (ix_ok hv9).2) rfl),zr' rfl (op_load_e _ _ _ _ _ _ underlying5 rfl rfl rfl (map_get hv10)),zr' rfl (oM rfl),zr' rfl (oB rfl (shr_ok hv11)),zr' rfl (oB rfl rfl),z3 true rfl,zz⟩ ?_
      exact hl14 _ (zi h).symm
     ·refine zg hn (_::_::(24,vi v7)::(25,vb (v7 != 0))::(26,vb false)::(27,.v undef)::(28,.v undef)::(29,.v undef)::(30,.v undef)::(31,.v undef)::(32,.v undef)::(33,.v undef)::(34,.v undef)::(35,.v undef)::(36,.v undef)::(37,.v undef)::(38,vb false)::[]) [0,1] [16] (zq [1] 2 24::zq [2] 3 25::zq [3] 4 26::zq [4] 5 27::zq [4] 6 28::zq [4] 7 29::zq [4] 8 30::zq [4] 9 31::zq [4] 10 32::zq [4] 11 33::zq [4] 12 34::zq [4] 13 35::zq [4] 14 36::zq [4] 15 37::zq [4] 16 38::[]) [(_,_)] rfl ⟨z1 rfl,z4 rfl rfl,z8 hg4_2 rfl,zt rfl,zt rfl,zt rfl,zt rfl,zt rfl,zt rfl,zt rfl,zt rfl,zt rfl,zt rfl,zt rfl,z3 false rfl,zz⟩ ?_
      exact hl14 _ (zi h).symm
  ·intro u3 h hl4 hr5
   refine cond_some h (fun hg1_3 h => ?_) (fun hg1_3 h => ?_)
   ·refine ht_anyR (by kernel_rfl) hn (El := (_ :: (4,.ptr 1 1) :: (5,vi s.N) :: (6,vb (decide (s.N < 0))) :: (7,vb true) :: (8,.v undef) :: (9,.v undef) :: (10,.v undef) :: (11,vb true) :: (12,vb true) :: (13,.v undef) :: (14,.v undef) :: (15,.v undef) :: (16,.v undef) :: (17,.v undef) :: (18,.v undef) :: (19,.v undef) :: (20,vb true) :: [])) (init := [0]) (fin := [0,17]) (sps := (zq [0] 1 4 :: zq [1,0] 2 5 :: zq [2] 3 6 :: zq [3] 4 7 :: zq [4] 5 8 :: zq [4] 6 9 :: zq [4] 7 10 :: zq [4] 8 11 :: zq [8] 9 12 :: zq [9] 10 13 :: zq [9] 11 14 :: zq [9] 12 15 :: zq [9] 13 16 :: zq [9] 14 17 :: zq [9] 15 18 :: zq [9] 16 19 :: zq [9] 17 20 :: [])) (es' := [(_,_),(20,vb true)]) (by kernel_rfl) rfl rfl ⟨zp rfl (oF underlying36 rfl sz3),zp rfl (oL underlying3 rfl),z4 rfl rfl,z8 hg1_3 rfl,zf rfl,zf rfl,zf rfl,z3 true rfl,z1 rfl,zf rfl,zf rfl,zf rfl,zf rfl,zf rfl,zf rfl,zf rfl,z3 true rfl,zz⟩ ?_
    exact hl4 _ (zi h).symm
   ·refine cond_some h (fun hg1_8 h => ?_) (fun hg1_8 h => ?_)
    ·refine ht_anyR (by kernel_rfl) hn (El := (_ :: (4,.ptr 1 1) :: (5,vi s.N) :: (6,vb (decide (s.N < 0))) :: (7,vb false) :: (8,.ptr 1 1) :: (9,vi s.N) :: (10,vb (decide (40000 < s.N))) :: (11,vb (decide (40000 < s.N))) :: (12,vb true) :: (13,.v undef) :: (14,.v undef) :: (15,.v undef) :: (16,.v undef) :: (17,.v undef) :: (18,.v undef) :: (19,.v undef) :: (20,vb true) :: [])) (init := [0]) (fin := [0,17]) (sps := (zq [0] 1 4 :: zq [1,0] 2 5 :: zq [2] 3 6 :: zq [3] 4 7 :: zq [4,0] 5 8 :: zq [4,5,0] 6 9 :: zq [4,6] 7 10 :: zq [4,7] 8 11 :: zq [8] 9 12 :: zq [9] 10 13 :: zq [9] 11 14 :: zq [9] 12 15 :: zq [9] 13 16 :: zq [9] 14 17 :: zq [9] 15 18 :: zq [9] 16 19 :: zq [9] 17 20 :: [])) (es' := [(_,_),(20,vb true)]) (by kernel_rfl) rfl rfl ⟨zp rfl (oF underlying36 rfl sz3),zp rfl (oL underlying3 rfl),z4 rfl rfl,z8 hg1_3 rfl,zr' rfl (oF underlying36 rfl sz3),zr' rfl (oL underlying3 rfl),zr' rfl (oB rfl rfl),z3 false rfl,z8 hg1_8 rfl,zf rfl,zf rfl,zf rfl,zf rfl,zf rfl,zf rfl,zf rfl,z3 true rfl,zz⟩ ?_
     exact hl4 _ (zi h).symm
    ·obtain ⟨v1, hv1, h⟩ := zn h
     refine ht_anyR (by kernel_rfl) hn (El := (_ :: (4,.ptr 1 1) :: (5,vi s.N) :: (6,vb (decide (s.N < 0))) :: (7,vb false) :: (8,.ptr 1 1) :: (9,vi s.N) :: (10,vb (decide (40000 < s.N))) :: (11,vb (decide (40000 < s.N))) :: (12,vb false) :: (13,.ptr 1 0) :: (14,fb s.B) :: (15,vi (s.B.length : Int)) :: (16,.ptr 1 1) :: (17,vi s.N) :: (18,vi v1) :: (19,vb ((s.B.length : Int) != v1)) :: (20,vb ((s.B.length : Int) != v1)) :: [])) (init := [0]) (fin := [0,17]) (sps := (zq [0] 1 4 :: zq [1,0] 2 5 :: zq [2] 3 6 :: zq [3] 4 7 :: zq [4,0] 5 8 :: zq [4,5,0] 6 9 :: zq [4,6] 7 10 :: zq [4,7] 8 11 :: zq [8] 9 12 :: zq [9,0] 10 13 :: zq [9,10,0] 11 14 :: zq [9,11] 12 15 :: zq [9,0] 13 16 :: zq [9,13,0] 14 17 :: zq [9,14] 15 18 :: zq [9,12,15] 16 19 :: zq [9,16] 17 20 :: [])) (es' := [(_,_),(20,vb ((s.B.length : Int) != v1))]) (by kernel_rfl) rfl rfl ⟨zp rfl (oF underlying36 rfl sz3),zp rfl (oL underlying3 rfl),z4 rfl rfl,z8 hg1_3 rfl,zr' rfl (oF underlying36 rfl sz3),zr' rfl (oL underlying3 rfl),zr' rfl (oB rfl rfl),z3 false rfl,z8 hg1_8 rfl,zr' rfl (oF underlying36 rfl sz22),zr' rfl (oL underlying22 rfl),zr' rfl (op_len_fl _ _ _ underlying22 rfl (by decide) (map_len _)),zr' rfl (oF underlying36 rfl sz3),zr' rfl (oL underlying3 rfl),zr' rfl (op_call _ _ 27 _ _ rfl call27 rfl (ok_bits_bytesFor s.N _ hv1) rfl rfl),zr' rfl (oB rfl rfl),z3 false rfl,zz⟩ ?_
     exact hl4 _ (zi h).symm
theorem ok_bits_Put (s : T_Bits) (v : Int) (n : Int) (r : (T_Bits × Int)) (h : Sh.bits_Put s v n = some r) : FnOK Tryd.prog 19 [.agg [.fl .shr 1 (map (int .u8) s.B), .v (.int .i64 s.N)], .v (.int .i64 v), .v (.int .i64 n)] (.tup [.agg [.fl (.own 5) 1 (map (int .u8) r.1.B), .v (.int .i64 r.1.N)], .v (.int .i64 r.2)]) := by
  unfold Sh.bits_Put at h
  refine fn_ok func19 rfl (zl rfl) rfl rfl fun g0 hn hio => ?_
  refine zgg hn [_,_,_,(3,.box 36 [fb s.B,vi s.N]),(6,.box 36 [vz,vi 0]),(7,vi 0)] [0,1,2] [1,2,3,4] [zq [0] 3 3,zq [] 4 6,zq [] 5 7] [(_,_),(_,_),(_,_),(_,_)] rfl ⟨zp rfl (op_box _ _ _ _ rfl rfl rfl),zp rfl (op_alloc _ _ zr36),z2 rfl,zz⟩ ?_
  refine ht_seq ?_
  refine ht_seq ?_
  obtain ⟨v1, hv1, h⟩ := zn h
  refine zg hn [_,_,_,_,(12,.agg [fb s.B,vi s.N]),(13,vi v1),(8,vi v1)] [0,1,2,3] [0,1,2,3,6] [zq [2] 4 12,zq [4] 5 13,zq [5] 6 8] [(_,_),(_,_),(_,_),(_,_),(_,_)] rfl ⟨zp rfl (op_loadA _ _ _ _ _ _ _ underlying36 rfl sz36 rfl rfl (zl rfl) rfl rfl),zp rfl (op_call _ _ 26 _ _ rfl call26 rfl (ok_bits_Check s _ hv1) rfl rfl),z2 rfl,zz⟩ ?_
  refine pt_then ?_
  refine zgg hn [_,_,_,_,_,(14,vi v1),(15,vb (v1 != 0))] [0,1,2,3,4] [0,1,2,3,4,6] [zq [4] 5 14,zq [5] 6 15] [(_,_),(_,_),(_,_),(_,_),(_,_),(_,_)] rfl ⟨z1 rfl,z4 rfl rfl,zz⟩ ?_
  refine ht_cond _ rfl (fun hb2 => ?_) (fun hb2 => ?_)
  ·have h := cond_t hb2 h
   refine zgg hn [_,_,_,_,_,_,(16,.agg [vz,vi 0]),(17,vi v1),(6,.box 36 [vz,vi 0]),(7,vi v1)] [0,1,2,3,4,5] [8,9] [zq [] 6 16,zq [4] 7 17,⟨[],[6,3],[8],[.cell 6 0,.cell 6 1]⟩,zq [7] 9 7] [(_,_),(_,_)] rfl ⟨zp rfl (op_build _ _ _ _ [1, 1] _ _ underlying36 zr36 (fs36 _ underlying36) Src.nil rfl rfl rfl),z1 rfl,zp rfl (op_store_self _ _ _ 16 6 2 sz36 rfl rfl rfl rfl rfl (.eq _ (.eq _ (.nil _))) rfl),z2 rfl,zz⟩ ?_
   refine ht_ret ?_
   refine pt_sub (fs := [(6,.box 36 [.fl (.own 5) 1 (map (int .u8) []),vi 0]),(7,vi v1)]) (.box _ _ (subs_cons (sub_nil 5 1) (subs_cons (sub_refl _) (subs_nil))) rfl (.same _ .nil)) ?_
   refine pt_r_then ?_
   obtain rfl := zi h
   exact pt_ret hio rfl (.cellA _ _ _ _ underlying36 rfl sz36 (.tmp _ _ .nil)) rfl rfl
  ·have h := cond_f hb2 h
   refine ht_skip ?_
   refine pt_then (ht_seq ?_)
   refine ht_seq ?_
   obtain ⟨v3, hv3, h⟩ := zn h
   refine zg hn [_,_,_,_,_,_,(18,vi v),(19,vi n),(20,vb v3),(21,vb (!v3))] [0,1,2,3,4,5] [0,1,2,3,9] [zq [0] 6 18,zq [1] 7 19,zq [6,7] 8 20,zq [8] 9 21] [(_,_),(_,_),(_,_),(_,_),(_,_)] rfl ⟨z1 rfl,z1 rfl,zp rfl (op_call _ _ 25 _ _ rfl call25 rfl (ok_bits_fits v n _ hv3) rfl rfl),zp rfl (op_un _ _ _ _ rfl rfl),zz⟩ ?_
   refine pt_then ?_
   refine ht_cond _ rfl (fun hb4 => ?_) (fun hb4 => ?_)
   ·have h := cond_t hb4 h
    refine zgg hn [_,_,_,_,_,(22,.agg [vz,vi 0]),(6,.box 36 [vz,vi 0]),(7,vi 1)] [0,1,2,3,4] [6,7] [zq [] 5 22,⟨[],[5,3],[6],[.cell 6 0,.cell 6 1]⟩,zq [] 7 7] [(_,_),(_,_)] rfl ⟨zp rfl (op_build _ _ _ _ [1, 1] _ _ underlying36 zr36 (fs36 _ underlying36) Src.nil rfl rfl rfl),zp rfl (op_store_self _ _ _ 22 6 2 sz36 rfl rfl rfl rfl rfl (.eq _ (.eq _ (.nil _))) rfl),z2 rfl,zz⟩ ?_
    refine ht_ret ?_
    refine pt_sub (fs := [(6,.box 36 [.fl (.own 5) 1 (map (int .u8) []),vi 0]),(7,vi 1)]) (.box _ _ (subs_cons (sub_nil 5 1) (subs_cons (sub_refl _) (subs_nil))) rfl (.same _ .nil)) ?_
    refine pt_r_then ?_
    obtain rfl := zi h
    exact pt_ret hio rfl (.cellA _ _ _ _ underlying36 rfl sz36 (.tmp _ _ .nil)) rfl rfl
   ·have h := cond_f hb4 h
    refine ht_skip ?_
    refine pt_then (ht_seq ?_)
    refine ht_seq ?_
    obtain ⟨v5, hv5, h⟩ := zn h
    refine zg hn [_,_,_,_,_,(23,.ptr 3 1),(24,vi s.N),(25,vi n),(26,vi v5),(27,vb (decide (40000 < v5)))] [0,1,2,3,4] [0,1,2,3,9] [zq [2] 5 23,zq [5,2] 6 24,zq [1] 7 25,zq [6,7] 8 26,zq [8] 9 27] [(_,_),(_,_),(_,_),(_,_),(_,_)] rfl ⟨zp rfl (oF underlying36 rfl sz3),zp rfl (oL underlying3 rfl),z1 rfl,zp rfl (oB rfl (ibind (f := int .i64) (Option.some.inj hv5))),z4 rfl rfl,zz⟩ ?_
    refine pt_then ?_
    refine ht_cond _ rfl (fun hb6 => ?_) (fun hb6 => ?_)
    ·have h := cond_t hb6 h
     refine zgg hn [_,_,_,_,_,(28,.agg [vz,vi 0]),(6,.box 36 [vz,vi 0]),(7,vi 2)] [0,1,2,3,4] [6,7] [zq [] 5 28,⟨[],[5,3],[6],[.cell 6 0,.cell 6 1]⟩,zq [] 7 7] [(_,_),(_,_)] rfl ⟨zp rfl (op_build _ _ _ _ [1, 1] _ _ underlying36 zr36 (fs36 _ underlying36) Src.nil rfl rfl rfl),zp rfl (op_store_self _ _ _ 28 6 2 sz36 rfl rfl rfl rfl rfl (.eq _ (.eq _ (.nil _))) rfl),z2 rfl,zz⟩ ?_
     refine ht_ret ?_
     refine pt_sub (fs := [(6,.box 36 [.fl (.own 5) 1 (map (int .u8) []),vi 0]),(7,vi 2)]) (.box _ _ (subs_cons (sub_nil 5 1) (subs_cons (sub_refl _) (subs_nil))) rfl (.same _ .nil)) ?_
     refine pt_r_then ?_
     obtain rfl := zi h
     exact pt_ret hio rfl (.cellA _ _ _ _ underlying36 rfl sz36 (.tmp _ _ .nil)) rfl rfl
    ·have h := cond_f hb6 h
     refine ht_skip ?_
     refine pt_then (ht_seq ?_)
     obtain ⟨v7, hv7, h⟩ := zn h
     obtain ⟨v8, hv8, h⟩ := zn h
     obtain ⟨v9, hv9, h⟩ := zn h
     refine zg hn [_,_,_,_,_,(29,.ptr 3 1),(30,vi s.N),(31,vi n),(32,vi v7),(33,vi v8),(34,.fl (.own 5) 1 (map (int .u8) v9)),(9,.fl (.own 5) 1 (map (int .u8) v9))] [0,1,2,3,4] [0,1,2,3,11] [zq [2] 5 29,zq [5,2] 6 30,zq [1] 7 31,zq [6,7] 8 32,zq [8] 9 33,zq [9] 10 34,⟨[],[10],[11],[(.slot 9)]⟩] [(_,_),(_,_),(_,_),(_,_),(_,_)] rfl ⟨zp rfl (oF underlying36 rfl sz3),zp rfl (oL underlying3 rfl),z1 rfl,zp rfl (oB rfl (ibind (f := int .i64) (Option.some.inj hv7))),zp rfl (op_call _ _ 27 _ _ rfl call27 rfl (ok_bits_bytesFor v7 _ hv8) rfl rfl),zp rfl (op_mk (f := int .u8) _ _ _ _ el22 (by decide) zr5 rfl rfl rfl hv9),zp rfl (op_assign_take _ _ _ _ rfl),zz⟩ ?_
     refine pt_then (ht_seq ?_)
     obtain ⟨v10, hv10, h⟩ := zn h
     refine zg hn [_,_,_,_,_,(35,.same (.slot 9)),(36,.ptr 3 0),(37,fb s.B),(38,vi (copyN v9 s.B)),(9,.fl (.own 5) 1 (map (int .u8) v10))] [0,1,2,3,4] [0,1,2,3,9] [zq [4] 5 35,zq [2] 6 36,zq [6,2] 7 37,⟨[5,7],[4],[9,8],[(.slot 38)]⟩] [(_,_),(_,_),(_,_),(_,_),(_,_)] rfl ⟨z1 rfl,zp rfl (oF underlying36 rfl sz22),zp rfl (oL underlying22 rfl),zp rfl ((Option.some.inj hv10) ▸ op_cp _ _ _ _ _ _ _ underlying22 sz5 rfl rfl (by decide)),zz⟩ ?_
     refine pt_then (ht_seq ?_)
     obtain ⟨v11, hv11, h⟩ := zn h
     obtain ⟨v12, hv12, h⟩ := zn h
     obtain ⟨v13, hv13, h⟩ := zn h
     refine zg hn [_,_,_,_,_,(39,vi v),(40,.v (.int .u32 v11)),(41,.ptr 3 1),(42,vi s.N),(43,vi v12),(44,.v (.int .u32 v13)),(10,.v (.int .u32 v13))] [0,1,2,3,4] [1,2,3,4,11] [zq [0] 5 39,zq [5] 6 40,zq [2] 7 41,zq [7,2] 8 42,zq [8] 9 43,zq [6,9] 10 44,zq [10] 11 10] [(_,_),(_,_),(_,_),(_,_),(_,_)] rfl ⟨z1 rfl,zp rfl ((Option.some.inj hv11) ▸ op_conv _ _ _ underlying3 underlying61 rfl),zp rfl (oF underlying36 rfl sz3),zp rfl (oL underlying3 rfl),zp rfl (oB rfl (rem_ok hv12)),zp rfl (oB rfl (shl_ok hv13)),z2 rfl,zz⟩ ?_
     refine pt_then (ht_seq ?_)
     refine ht_seq ?_
     obtain ⟨v14, hv14, h⟩ := zn h
     refine zg hn [_,_,_,_,_,(45,.ptr 3 1),(46,vi s.N),(47,vi v14),(11,vi v14)] [0,1,2,3,4] [0,1,2,3,4,8] [zq [1] 5 45,zq [5,1] 6 46,zq [6] 7 47,zq [7] 8 11] [(_,_),(_,_),(_,_),(_,_),(_,_),(_,_)] rfl ⟨zp rfl (oF underlying36 rfl sz3),zp rfl (oL underlying3 rfl),zp rfl (oB rfl (quo_ok hv14)),z2 rfl,zz⟩ ?_
     refine pt_then ?_
     refine ht_loopS h (fun ((s28,s29,s30) : (List Int) × Int × Int) => [(2,vi n),(3,.box 36 [fb s.B,vi s.N]),(6,.box 36 [vz,vi 0]),(9,.fl (.own 5) 1 (map (int .u8) s28)),(10,.v (.int .u32 s29)),(11,vi s30)]) (fun (s32 : (List Int)) => [(2,vi n),(3,.box 36 [fb s.B,vi s.N]),(6,.box 36 [vz,vi 0]),(9,.fl (.own 5) 1 (map (int .u8) s32))]) ?_ ?_
     ·rintro s32 h
      refine pt_then (ht_seq ?_)
      obtain ⟨v40, hv40, h⟩ := zn h
      refine zg hn [_,_,_,_,(64,.fl (.own 5) 1 (map (int .u8) s32)),(65,.ptr 3 1),(66,vi s.N),(67,vi n),(68,vi v40),(69,.agg [.fl (.own 5) 1 (map (int .u8) s32),vi v40]),(6,.box 36 [.fl (.own 5) 1 (map (int .u8) s32),vi v40]),(7,vi 0)] [0,1,2,3] [10,11] [⟨[],[3],[4],[(.slot 64)]⟩,zq [1] 5 65,zq [5,1] 6 66,zq [0] 7 67,zq [6,7] 8 68,⟨[8],[4],[9],[(.slot 69)]⟩,⟨[],[9,2],[10],[.cell 6 0,.cell 6 1]⟩,zq [] 11 7] [(_,_),(_,_)] rfl ⟨zp rfl (op_move_take _ _ _ _ rfl),zp rfl (oF underlying36 rfl sz3),zp rfl (oL underlying3 rfl),z1 rfl,zp rfl (oB rfl (ibind (f := int .i64) (Option.some.inj hv40))),zp rfl (op_build _ _ _ _ [1, 1] _ _ underlying36 zr36 (fs36 _ underlying36) (.take _ _ (.copy _ Src.nil)) rfl rfl rfl),zp rfl (op_store_take _ _ _ _ _ _ _ _ sz36 rfl rfl rfl (zl rfl) rfl rfl),z2 rfl,zz⟩ ?_
      refine pt_then (ht_ret ?_)
      obtain rfl := zi h
      exact pt_ret hio rfl (.cellA _ _ _ _ underlying36 rfl sz36 (.tmp _ _ .nil)) rfl rfl
     ·rintro u33 hl34 hr35 ⟨s28, s29, s30⟩ rr38 h ho36
      refine ht_seq ?_
      refine zgg hn [_,_,_,_,_,_,(48,vi s30),(49,.same (.slot 9)),(50,vi (s28.length : Int)),(51,vb (decide (s30 < (s28.length : Int))))] [0,1,2,3,4,5] [0,1,2,3,4,5,9] [zq [5] 6 48,zq [3] 7 49,zq [7,3] 8 50,zq [6,8] 9 51] [(_,_),(_,_),(_,_),(_,_),(_,_),(_,_),(_,_)] rfl ⟨z1 rfl,z1 rfl,zp rfl (op_len_fl _ _ _ underlying22 rfl (by decide) (map_len _)),z4 rfl rfl,zz⟩ ?_
      refine ht_cond _ rfl (fun hb39 => ?_) (fun hb39 => ?_)
      ·have h := cond_t hb39 h
       refine ht_skip ?_
       refine pt_then (ht_seq ?_)
       refine ht_block ?_
       refine ht_seq ?_
       obtain ⟨v16, hv16, h⟩ := zn h
       obtain ⟨v17, hv17, h⟩ := zn h
       obtain ⟨v18, hv18, h⟩ := zn h
       obtain ⟨v19, hv19, h⟩ := zn h
       obtain ⟨v20, hv20, h⟩ := zn h
       obtain ⟨v21, hv21, h⟩ := zn h
       refine zg hn (_::_::_::_::_::_::_::(54,.same (.slot 9))::(55,vi s30)::(56,.eref (.slot 9) (v16 * 1))::(57,.v (.int .u8 v17))::(58,.v (.int .u32 s29))::(59,.v (.int .u8 v18))::(60,.v (.int .u8 v19))::(61,.eref (.slot 9) (v20 * 1))::(9,.fl (.own 5) 1 (map (int .u8) v21))::[]) [0,1,2,3,4,5,6] [0,1,2,15,4,5] [zq [3] 7 54,zq [5] 8 55,zq [7,3,8] 9 56,zq [9,3] 10 57,zq [4] 11 58,zq [11] 12 59,zq [10,12] 13 60,zq [7,3,8] 14 61,⟨[14,13],[3],[15],[]⟩] [(_,_),(_,_),(_,_),(_,_),(_,_),(_,_)] rfl ⟨z1 rfl,z1 rfl,zp rfl (op_ix _ _ _ _ _ _ _ _ underlying22 sz5 (by decide) rfl rfl rfl (ix_ok hv16).1 (map_lt (ix_ok hv16).2) rfl),zp rfl (op_load_e _ _ _ _ _ _ underlying5 rfl rfl rfl (map_get hv17)),z1 rfl,zp rfl ((Option.some.inj hv18) ▸ op_conv _ _ _ underlying61 underlying5 rfl),zp rfl (oB rfl (ibind (f := int .u8) (Option.some.inj hv19))),zp rfl (op_ix _ _ _ _ _ _ _ _ underlying22 sz5 (by decide) rfl rfl rfl (ix_ok hv20).1 (map_lt (ix_ok hv20).2) rfl),zp rfl (op_store_e _ _ _ _ _ _ _ _ sz5 rfl rfl rfl (by decide) (map_lt (ix_ok hv20).2) ((map_set (f := int .u8) _ (ix_ok hv20).2).trans (congrArg (map _) (Option.some.inj hv21)))),zz⟩ ?_
       refine pt_then ?_
       obtain ⟨v22, hv22, h⟩ := zn h
       refine zg hn [_,_,_,_,_,_,(62,.v (.int .u32 s29)),(63,.v (.int .u32 v22)),(10,.v (.int .u32 v22))] [0,1,2,3,4,5] [0,1,2,3,5,8] [zq [4] 6 62,zq [6] 7 63,⟨[7],[4],[8],[(.slot 10)]⟩] [(_,_),(_,_),(_,_),(_,_),(_,_),(_,_)] rfl ⟨z1 rfl,zp rfl (oB rfl (shr_ok hv22)),zp rfl (LOp.drop [_] (op_assign _ _ _ _ rfl rfl)),zz⟩ ?_
       refine pt_inb ?_
       refine pt_then ?_
       obtain ⟨v23, hv23, h⟩ := zn h
       refine zg hn [_,_,_,_,_,_,(52,vi s30),(53,vi v23),(11,vi v23)] [0,1,2,3,4,5] [0,1,2,3,5,8] [zq [4] 6 52,zq [6] 7 53,⟨[7],[4],[8],[(.slot 11)]⟩] [(_,_),(_,_),(_,_),(_,_),(_,_),(_,_)] rfl ⟨z1 rfl,zp rfl (oB rfl (ibind (f := int .i64) (Option.some.inj hv23))),zp rfl (LOp.drop [_] (op_assign _ _ _ _ rfl rfl)),zz⟩ ?_
       exact pt_next _ (zi h).symm rfl
      ·have h := cond_f hb39 h
       refine ht_exit ?_
       refine pt_x_then ?_
       refine pt_x_then ?_
       refine pt_x_in ?_
       refine pt_pick [0,1,2,3] (by kernel_rfl) (es' := [(_,_),(_,_),(_,_),(_,_)]) rfl ?_
       exact hl34 _ (ho36 _ (zi h).symm).symm
theorem ok_bits_Get (b : (List Int)) (at_ : Int) (n : Int) (r : (Int × Int × Int)) (h : Sh.bits_Get b at_ n = some r) : FnOK Tryd.prog 76 [.fl .shr 1 (map (int .u8) b), .v (.int .i64 at_), .v (.int .i64 n)] (.tup [.v (.int .i64 r.1), .v (.int .i64 r.2.1), .v (.int .i64 r.2.2)]) := by
  unfold Sh.bits_Get at h
  refine fn_ok func76 rfl (zl rfl) rfl rfl fun g0 hn hio => ?_
  refine zgg hn [_,_,_,(6,vi 0),(7,vi 0),(8,vi 0)] [0,1,2] [0,1,2] [zq [] 3 6,zq [] 4 7,zq [] 5 8] [(_,_),(_,_),(_,_)] rfl ⟨z2 rfl,z2 rfl,z2 rfl,zz⟩ ?_
  refine ht_seq ?_
  refine ht_seq ?_
  refine ht_joinS h (fun (s2 : Bool) => [(0,fb b),(1,vi at_),(2,vi n),(29,vb s2)]) ?_ ?_
  ·rintro s2 h
   refine pt_then ?_
   refine ht_cond _ rfl (fun hb6 => ?_) (fun hb6 => ?_)
   ·have h := cond_t hb6 h
    refine zgg hn [_,_,_,_,(6,vi 0),(7,vi 0),(8,vi 1)] [0,1,2,3] [4,5,6] [zq [] 4 6,zq [] 5 7,zq [] 6 8] [(_,_),(_,_),(_,_)] rfl ⟨z2 rfl,z2 rfl,z2 rfl,zz⟩ ?_
    refine ht_ret ?_
    refine pt_r_then ?_
    obtain rfl := zi h
    exact pt_ret hio rfl (.tmp _ _ (.tmp _ _ (.tmp _ _ .nil))) rfl rfl
   ·have h := cond_f hb6 h
    refine ht_skip ?_
    refine pt_then (ht_seq ?_)
    refine ht_seq ?_
    obtain ⟨v7, hv7, h⟩ := zn h
    obtain ⟨v8, hv8, h⟩ := zn h
    refine zg hn [_,_,_,_,(30,vi at_),(31,vi n),(32,vi v7),(33,fb b),(34,vi (b.length : Int)),(35,vi v8),(36,vb (decide (v8 < v7)))] [0,1,2,3] [0,1,2,10] [zq [1] 4 30,zq [2] 5 31,zq [4,5] 6 32,zq [0] 7 33,zq [7] 8 34,zq [8] 9 35,zq [6,9] 10 36] [(_,_),(_,_),(_,_),(_,_)] rfl ⟨z1 rfl,z1 rfl,zp rfl (oB rfl (ibind (f := int .i64) (Option.some.inj hv7))),z1 rfl,zp rfl (op_len_fl _ _ _ underlying22 rfl (by decide) (map_len _)),zp rfl (oB rfl (ibind (f := int .i64) (Option.some.inj hv8))),z4 rfl rfl,zz⟩ ?_
    refine pt_then ?_
    refine ht_cond _ rfl (fun hb9 => ?_) (fun hb9 => ?_)
    ·have h := cond_t hb9 h
     refine zgg hn [_,_,_,_,(6,vi 0),(7,vi 0),(8,vi 3)] [0,1,2,3] [4,5,6] [zq [] 4 6,zq [] 5 7,zq [] 6 8] [(_,_),(_,_),(_,_)] rfl ⟨z2 rfl,z2 rfl,z2 rfl,zz⟩ ?_
     refine ht_ret ?_
     refine pt_r_then ?_
     obtain rfl := zi h
     exact pt_ret hio rfl (.tmp _ _ (.tmp _ _ (.tmp _ _ .nil))) rfl rfl
    ·have h := cond_f hb9 h
     refine ht_skip ?_
     refine pt_then ?_
     refine zgg hn [_,_,_,_,(9,.v (.int .u32 0))] [0,1,2,3] [0,1,2,4] [zq [] 4 9] [(_,_),(_,_),(_,_),(_,_)] rfl ⟨z2 rfl,zz⟩ ?_
     refine ht_seq ?_
     obtain ⟨v10, hv10, h⟩ := zn h
     refine zg hn [_,_,_,_,(37,vi at_),(38,vi v10),(10,vi v10)] [0,1,2,3] [0,1,2,3,6] [zq [1] 4 37,zq [4] 5 38,zq [5] 6 10] [(_,_),(_,_),(_,_),(_,_),(_,_)] rfl ⟨z1 rfl,zp rfl (oB rfl (quo_ok hv10)),z2 rfl,zz⟩ ?_
     refine pt_then (ht_seq ?_)
     refine zgg hn [_,_,_,_,_,(39,vi v10),(11,vi v10)] [0,1,2,3,4] [0,1,2,3,4,6] [zq [4] 5 39,zq [5] 6 11] [(_,_),(_,_),(_,_),(_,_),(_,_),(_,_)] rfl ⟨z1 rfl,z2 rfl,zz⟩ ?_
     refine ht_loopS h (fun ((s25,s26) : Int × Int) => [(0,fb b),(1,vi at_),(2,vi n),(9,.v (.int .u32 s25)),(10,vi v10),(11,vi s26)]) (fun (s28 : Int) => [(1,vi at_),(2,vi n),(9,.v (.int .u32 s28))]) ?_ ?_
     ·rintro s28 h
      refine pt_then (ht_seq ?_)
      obtain ⟨v36, hv36, h⟩ := zn h
      obtain ⟨v37, hv37, h⟩ := zn h
      refine zg hn [_,_,_,(60,vi n),(61,.v (.int .u32 v36)),(62,.v (.int .u32 v37)),(12,.v (.int .u32 v37))] [0,1,2] [0,1,2,6] [zq [1] 3 60,zq [3] 4 61,zq [4] 5 62,zq [5] 6 12] [(_,_),(_,_),(_,_),(_,_)] rfl ⟨z1 rfl,zp rfl (oB rfl (shl_ok hv36)),zp rfl (oB rfl (ibind (f := int .u32) (Option.some.inj hv37))),z2 rfl,zz⟩ ?_
      refine pt_then (ht_seq ?_)
      obtain ⟨v38, hv38, h⟩ := zn h
      obtain ⟨v39, hv39, h⟩ := zn h
      obtain ⟨v40, hv40, h⟩ := zn h
      obtain ⟨v41, hv41, h⟩ := zn h
      obtain ⟨v42, hv42, h⟩ := zn h
      refine zg hn (_::_::_::_::(63,.v (.int .u32 s28))::(64,vi at_)::(65,vi v38)::(66,.v (.int .u32 v39))::(67,.v (.int .u32 v37))::(68,.v (.int .u32 v40))::(69,vi v41)::(70,vi at_)::(71,vi n)::(72,vi v42)::(6,vi v41)::(7,vi v42)::(8,vi 0)::[]) [0,1,2,3] [14,15,16] [zq [2] 4 63,zq [0] 5 64,zq [5] 6 65,zq [4,6] 7 66,zq [3] 8 67,zq [7,8] 9 68,zq [9] 10 69,zq [0] 11 70,zq [1] 12 71,zq [11,12] 13 72,zq [10] 14 6,zq [13] 15 7,zq [] 16 8] [(_,_),(_,_),(_,_)] rfl ⟨z1 rfl,z1 rfl,zp rfl (oB rfl (rem_ok hv38)),zp rfl (oB rfl (shr_ok hv39)),z1 rfl,zp rfl (oB rfl (ibind (f := int .u32) (Option.some.inj hv40))),zp rfl ((Option.some.inj hv41) ▸ op_conv _ _ _ underlying61 underlying3 rfl),z1 rfl,z1 rfl,zp rfl (oB rfl (ibind (f := int .i64) (Option.some.inj hv42))),z2 rfl,z2 rfl,z2 rfl,zz⟩ ?_
      refine pt_then (ht_ret ?_)
      obtain rfl := zi h
      exact pt_ret hio rfl (.tmp _ _ (.tmp _ _ (.tmp _ _ .nil))) rfl rfl
     ·rintro u29 hl30 hr31 ⟨s25, s26⟩ rr34 h ho32
      refine ht_seq ?_
      refine ht_seq ?_
      obtain ⟨v11, hv11, h⟩ := zn h
      obtain ⟨v12, hv12, h⟩ := zn h
      refine zg hn [_,_,_,_,_,_,(40,vi s26),(41,vi at_),(42,vi n),(43,vi v11),(44,vi v12),(45,vb (decide (s26 < v12)))] [0,1,2,3,4,5] [0,1,2,3,4,5,11] [zq [5] 6 40,zq [1] 7 41,zq [2] 8 42,zq [7,8] 9 43,zq [9] 10 44,zq [6,10] 11 45] [(_,_),(_,_),(_,_),(_,_),(_,_),(_,_),(_,_)] rfl ⟨z1 rfl,z1 rfl,z1 rfl,zp rfl (oB rfl (ibind (f := int .i64) (Option.some.inj hv11))),zp rfl (op_call _ _ 27 _ _ rfl call27 rfl (ok_bits_bytesFor v11 _ hv12) rfl rfl),z4 rfl rfl,zz⟩ ?_
      refine pt_then ?_
      refine ht_cond _ rfl (fun hb35 => ?_) (fun hb35 => ?_)
      ·have h := cond_t hb35 h
       refine ht_skip ?_
       refine pt_then (ht_seq ?_)
       refine ht_block ?_
       obtain ⟨v14, hv14, h⟩ := zn h
       obtain ⟨v15, hv15, h⟩ := zn h
       obtain ⟨v16, hv16, h⟩ := zn h
       obtain ⟨v17, hv17, h⟩ := zn h
       obtain ⟨v18, hv18, h⟩ := zn h
       obtain ⟨v19, hv19, h⟩ := zn h
       obtain ⟨v20, hv20, h⟩ := zn h
       refine zg hn (_::_::_::_::_::_::_::(48,.v (.int .u32 s25))::(49,fb b)::(50,vi s26)::(51,.eref (.slot 49) (v14 * 1))::(52,.v (.int .u8 v15))::(53,.v (.int .u32 v16))::(54,vi s26)::(55,vi v10)::(56,vi v17)::(57,vi v18)::(58,.v (.int .u32 v19))::(59,.v (.int .u32 v20))::(9,.v (.int .u32 v20))::[]) [0,1,2,3,4,5,6] [0,1,2,4,5,19] [zq [3] 7 48,zq [0] 8 49,zq [5] 9 50,zq [8,9] 10 51,zq [10,8] 11 52,zq [11] 12 53,zq [5] 13 54,zq [4] 14 55,zq [13,14] 15 56,zq [15] 16 57,zq [12,16] 17 58,zq [7,17] 18 59,⟨[18],[3],[19],[(.slot 9)]⟩] [(_,_),(_,_),(_,_),(_,_),(_,_),(_,_)] rfl ⟨z1 rfl,z1 rfl,z1 rfl,zp rfl (op_ix _ _ _ _ _ _ _ _ underlying22 sz5 (by decide) rfl rfl rfl (ix_ok hv14).1 (map_lt (ix_ok hv14).2) rfl),zp rfl (op_load_e _ _ _ _ _ _ underlying5 rfl rfl rfl (map_get hv15)),zp rfl ((Option.some.inj hv16) ▸ op_conv _ _ _ underlying5 underlying61 rfl),z1 rfl,z1 rfl,zp rfl (oB rfl (ibind (f := int .i64) (Option.some.inj hv17))),zp rfl (oB rfl (ibind (f := int .i64) (Option.some.inj hv18))),zp rfl (oB rfl (shl_ok hv19)),zp rfl (oB rfl (ibind (f := int .u32) (Option.some.inj hv20))),zp rfl (LOp.drop [_] (op_assign _ _ _ _ rfl rfl)),zz⟩ ?_
       refine pt_inb ?_
       refine pt_then ?_
       obtain ⟨v21, hv21, h⟩ := zn h
       refine zg hn [_,_,_,_,_,_,(46,vi s26),(47,vi v21),(11,vi v21)] [0,1,2,3,4,5] [0,1,2,3,5,8] [zq [4] 6 46,zq [6] 7 47,⟨[7],[4],[8],[(.slot 11)]⟩] [(_,_),(_,_),(_,_),(_,_),(_,_),(_,_)] rfl ⟨z1 rfl,zp rfl (oB rfl (ibind (f := int .i64) (Option.some.inj hv21))),zp rfl (LOp.drop [_] (op_assign _ _ _ _ rfl rfl)),zz⟩ ?_
       refine pt_pick [0,1,2,4,3,5] (by kernel_rfl) (es' := [(_,_),(_,_),(_,_),(_,_),(_,_),(_,_)]) rfl ?_
       exact pt_next _ (zi h).symm rfl
      ·have h := cond_f hb35 h
       refine ht_exit ?_
       refine pt_x_then ?_
       refine pt_x_then ?_
       refine pt_x_in ?_
       refine pt_pick [1,2,3] (by kernel_rfl) (es' := [(_,_),(_,_),(_,_)]) rfl ?_
       exact hl30 _ (ho32 _ (zi h).symm).symm
  ·intro u3 h hl4 hr5
   refine cond_some h (fun hg1_2 h => ?_) (fun hg1_2 h => ?_)
   ·refine zg hn (_::_::_::(13,vi n)::(14,vb (decide (n < 0)))::(15,vb true)::(16,.v undef)::(17,.v undef)::(18,vb true)::(19,vb true)::(20,.v undef)::(21,.v undef)::(22,vb true)::(23,vb true)::(24,.v undef)::(25,.v undef)::(26,.v undef)::(27,.v undef)::(28,.v undef)::(29,vb true)::[]) [0,1,2] [0,1,2,19] (zq [2] 3 13::zq [3] 4 14::zq [4] 5 15::zq [5] 6 16::zq [5] 7 17::zq [5] 8 18::zq [8] 9 19::zq [9] 10 20::zq [9] 11 21::zq [9] 12 22::zq [12] 13 23::zq [13] 14 24::zq [13] 15 25::zq [13] 16 26::zq [13] 17 27::zq [13] 18 28::zq [13] 19 29::[]) [(_,_),(_,_),(_,_),(_,_)] rfl ⟨z1 rfl,z4 rfl rfl,z8 hg1_2 rfl,zf rfl,zf rfl,z3 true rfl,z1 rfl,zf rfl,zf rfl,z3 true rfl,z1 rfl,zf rfl,zf rfl,zf rfl,zf rfl,zf rfl,z3 true rfl,zz⟩ ?_
    exact hl4 _ (zi h).symm
   ·refine cond_some h (fun hg1_6 h => ?_) (fun hg1_6 h => ?_)
    ·refine zg hn (_::_::_::(13,vi n)::(14,vb (decide (n < 0)))::(15,vb false)::(16,vi n)::(17,vb (decide (24 < n)))::(18,vb (decide (24 < n)))::(19,vb true)::(20,.v undef)::(21,.v undef)::(22,vb true)::(23,vb true)::(24,.v undef)::(25,.v undef)::(26,.v undef)::(27,.v undef)::(28,.v undef)::(29,vb true)::[]) [0,1,2] [0,1,2,19] (zq [2] 3 13::zq [3] 4 14::zq [4] 5 15::zq [5,2] 6 16::zq [5,6] 7 17::zq [5,7] 8 18::zq [8] 9 19::zq [9] 10 20::zq [9] 11 21::zq [9] 12 22::zq [12] 13 23::zq [13] 14 24::zq [13] 15 25::zq [13] 16 26::zq [13] 17 27::zq [13] 18 28::zq [13] 19 29::[]) [(_,_),(_,_),(_,_),(_,_)] rfl ⟨z1 rfl,z4 rfl rfl,z8 hg1_2 rfl,zr' rfl (oM rfl),zr' rfl (oB rfl rfl),z3 false rfl,z8 hg1_6 rfl,zf rfl,zf rfl,z3 true rfl,z1 rfl,zf rfl,zf rfl,zf rfl,zf rfl,zf rfl,z3 true rfl,zz⟩ ?_
     exact hl4 _ (zi h).symm
    ·refine cond_some h (fun hg1_10 h => ?_) (fun hg1_10 h => ?_)
     ·refine zg hn (_::_::_::(13,vi n)::(14,vb (decide (n < 0)))::(15,vb false)::(16,vi n)::(17,vb (decide (24 < n)))::(18,vb (decide (24 < n)))::(19,vb false)::(20,vi at_)::(21,vb (decide (at_ < 0)))::(22,vb (decide (at_ < 0)))::(23,vb true)::(24,.v undef)::(25,.v undef)::(26,.v undef)::(27,.v undef)::(28,.v undef)::(29,vb true)::[]) [0,1,2] [0,1,2,19] (zq [2] 3 13::zq [3] 4 14::zq [4] 5 15::zq [5,2] 6 16::zq [5,6] 7 17::zq [5,7] 8 18::zq [8] 9 19::zq [9,1] 10 20::zq [9,10] 11 21::zq [9,11] 12 22::zq [12] 13 23::zq [13] 14 24::zq [13] 15 25::zq [13] 16 26::zq [13] 17 27::zq [13] 18 28::zq [13] 19 29::[]) [(_,_),(_,_),(_,_),(_,_)] rfl ⟨z1 rfl,z4 rfl rfl,z8 hg1_2 rfl,zr' rfl (oM rfl),zr' rfl (oB rfl rfl),z3 false rfl,z8 hg1_6 rfl,zr' rfl (oM rfl),zr' rfl (oB rfl rfl),z3 false rfl,z8 hg1_10 rfl,zf rfl,zf rfl,zf rfl,zf rfl,zf rfl,z3 true rfl,zz⟩ ?_
      exact hl4 _ (zi h).symm
     ·obtain ⟨v1, hv1, h⟩ := zn h
      refine zg hn (_::_::_::(13,vi n)::(14,vb (decide (n < 0)))::(15,vb false)::(16,vi n)::(17,vb (decide (24 < n)))::(18,vb (decide (24 < n)))::(19,vb false)::(20,vi at_)::(21,vb (decide (at_ < 0)))::(22,vb (decide (at_ < 0)))::(23,vb false)::(24,vi at_)::(25,fb b)::(26,vi (b.length : Int))::(27,vi v1)::(28,vb (decide (v1 < at_)))::(29,vb (decide (v1 < at_)))::[]) [0,1,2] [0,1,2,19] (zq [2] 3 13::zq [3] 4 14::zq [4] 5 15::zq [5,2] 6 16::zq [5,6] 7 17::zq [5,7] 8 18::zq [8] 9 19::zq [9,1] 10 20::zq [9,10] 11 21::zq [9,11] 12 22::zq [12] 13 23::zq [13,1] 14 24::zq [13,0] 15 25::zq [13,15] 16 26::zq [13,16] 17 27::zq [13,14,17] 18 28::zq [13,18] 19 29::[]) [(_,_),(_,_),(_,_),(_,_)] rfl ⟨z1 rfl,z4 rfl rfl,z8 hg1_2 rfl,zr' rfl (oM rfl),zr' rfl (oB rfl rfl),z3 false rfl,z8 hg1_6 rfl,zr' rfl (oM rfl),zr' rfl (oB rfl rfl),z3 false rfl,z8 hg1_10 rfl,zr' rfl (oM rfl),zr' rfl (oM rfl),zr' rfl (op_len_fl _ _ _ underlying22 rfl (by decide) (map_len _)),zr' rfl (oB rfl (ibind (f := int .i64) (Option.some.inj hv1))),zr' rfl (oB rfl rfl),z3 false rfl,zz⟩ ?_
      exact hl4 _ (zi h).symm
theorem ok_grow_stream_number (s : T_grow_stream) (n : Int) (r : (Int × Int × T_grow_stream)) (h : Sh.grow_stream_number s n = some r) : FnP Tryd.prog 58 [.box 59 [.fl .shr 1 (map (int .u8) s.b), .v (.int .i64 s.at_), .fl (.own 5) 1 (map (int .u8) s.out), .v (.int .i64 s.most), .v (.int .i64 s.blocks)], .v (.int .i64 n)] [.box 59 [.fl .shr 1 (map (int .u8) r.2.2.b), .v (.int .i64 r.2.2.at_), .fl (.own 5) 1 (map (int .u8) r.2.2.out), .v (.int .i64 r.2.2.most), .v (.int .i64 r.2.2.blocks)]] (.tup [.v (.int .i64 r.1), .v (.int .i64 r.2.1)]) := by
  unfold Sh.grow_stream_number at h
  refine fn_okP func58 rfl (zl rfl) rfl (zl rfl) fun args0 hargs0 g0 hn hio => ?_
  refine zgg hn [_,_,_,(4,vi 0),(5,vi 0)] [0,1,2] [0,1,2] [zq [] 3 4,zq [] 4 5] [(_,_),(_,_),(_,_)] rfl ⟨z2 rfl,z2 rfl,zz⟩ ?_
  refine ht_seq ?_
  obtain ⟨v1, hv1, h⟩ := zn h
  refine ht_anyR (by kernel_rfl) hn (El := (_ :: _ :: _ :: (10,.same (.slot 0)) :: (11,.ptr 0 0) :: (12,.ptr 0 0) :: (13,fb s.b) :: (14,.same (.slot 0)) :: (15,.ptr 0 0) :: (16,.ptr 0 1) :: (17,vi s.at_) :: (18,vi n) :: (19,.tup [vi v1.1,vi v1.2.1,vi v1.2.2]) :: (9,.tup [vi v1.1,vi v1.2.1,vi v1.2.2]) :: (20,vi v1.1) :: (21,vi v1.2.1) :: (22,vi v1.2.2) :: (6,vi v1.1) :: (7,vi v1.2.1) :: (8,vi v1.2.2) :: [])) (init := [0,1,2]) (fin := [0,2,17,18,19]) (sps := (zq [] 3 10 :: zq [3,0] 4 11 :: zq [4,0] 5 12 :: zq [5,0] 6 13 :: zq [] 7 14 :: zq [7,0] 8 15 :: zq [8,0] 9 16 :: zq [9,0] 10 17 :: zq [1] 11 18 :: zq [6,10,11] 12 19 :: ⟨[],[12],[13],[(.slot 9)]⟩ :: zq [13] 14 20 :: zq [13] 15 21 :: zq [13] 16 22 :: zq [14] 17 6 :: zq [15] 18 7 :: zq [16] 19 8 :: [])) (es' := [(_,_),(_,_),(6,vi v1.1),(7,vi v1.2.1),(8,vi v1.2.2)]) (by kernel_rfl) rfl rfl ⟨zp rfl (op_move_name _ _ _ rfl),zp rfl (op_nilCheck_name _ _ _ 0 rfl rfl (by decide)),zp rfl (oF underlying59 rfl sz22),zp rfl (oL underlying22 rfl),zp rfl (op_move_name _ _ _ rfl),zp rfl (op_nilCheck_name _ _ _ 0 rfl rfl (by decide)),zp rfl (oF underlying59 rfl sz3),zp rfl (oL underlying3 rfl),z1 rfl,zp rfl (op_call _ _ 76 _ _ rfl call76 rfl (ok_bits_Get s.b s.at_ n _ hv1) rfl rfl),zp rfl (op_move_take _ _ _ _ rfl),zp rfl (oE rfl),zp rfl (oE rfl),zp rfl (oE rfl),z2 rfl,z2 rfl,z2 rfl,zz⟩ ?_
  refine pt_then (ht_seq ?_)
  refine zgg hn [_,_,_,_,_,(23,vi v1.2.2),(24,vb (v1.2.2 != 0))] [0,1,2,3,4] [0,1,2,3,4,6] [zq [4] 5 23,zq [5] 6 24] [(_,_),(_,_),(_,_),(_,_),(_,_),(_,_)] rfl ⟨z1 rfl,z4 rfl rfl,zz⟩ ?_
  refine ht_cond _ rfl (fun hb2 => ?_) (fun hb2 => ?_)
  ·have h := cond_t hb2 h
   refine zgg hn [_,_,_,_,_,_,(25,vi v1.2.2),(4,vi 0),(5,vi v1.2.2)] [0,1,2,3,4,5] [0,1,7,8] [zq [4] 6 25,zq [] 7 4,zq [6] 8 5] [(_,_),(_,_),(_,_),(_,_)] rfl ⟨z1 rfl,z2 rfl,z2 rfl,zz⟩ ?_
   refine ht_ret ?_
   refine pt_pick [2,3,0,1] (by kernel_rfl) (es' := [(_,_),(_,_),(_,_),(_,_)]) rfl ?_
   refine pt_r_then ?_
   obtain rfl := zi h
   exact pt_retP (es := [(4, .v (.int .i64 0)), (5, .v (.int .i64 v1.2.2))]) (posts := [.box 59 [fb s.b, .v (.int .i64 s.at_), .fl (.own 5) 1 (map (int .u8) s.out), .v (.int .i64 s.most), .v (.int .i64 s.blocks)]]) hio rfl rfl (.tmp _ _ (.tmp _ _ .nil)) rfl rfl hargs0 rfl
  ·have h := cond_f hb2 h
   refine ht_skip ?_
   refine pt_then ?_
   refine zgg hn [_,_,_,_,_,_,(26,.ptr 0 0),(27,vi v1.2.1),(28,.ptr 0 0),(29,.ptr 0 1),(0,.box 59 [fb s.b,vi v1.2.1,.fl (.own 5) 1 (map (int .u8) s.out),vi s.most,vi s.blocks])] [0,1,2,3,4,5] [10,1,2] [zq [0] 6 26,zq [3] 7 27,zq [6,0] 8 28,zq [8,0] 9 29,⟨[9,7],[0],[10],[.cell 0 1]⟩] [(_,_),(_,_),(_,_)] rfl ⟨z1 rfl,z1 rfl,zp rfl (op_nilCheck _ _ _ 0 0 rfl (by decide)),zp rfl (oF underlying59 rfl sz3),zp rfl (oS sz3 rfl),zz⟩ ?_
   refine zgg hn [_,_,_,(30,vi v1.1),(4,vi v1.1),(5,vi 0)] [0,1,2] [0,1,4,5] [zq [2] 3 30,zq [3] 4 4,zq [] 5 5] [(_,_),(_,_),(_,_),(_,_)] rfl ⟨z1 rfl,z2 rfl,z2 rfl,zz⟩ ?_
   refine ht_ret ?_
   refine pt_pick [2,3,0,1] (by kernel_rfl) (es' := [(_,_),(_,_),(_,_),(_,_)]) rfl ?_
   obtain rfl := zi h
   exact pt_retP (es := [(4, .v (.int .i64 v1.1)), (5, .v (.int .i64 0))]) (posts := [.box 59 [fb s.b, .v (.int .i64 v1.2.1), .fl (.own 5) 1 (map (int .u8) s.out), .v (.int .i64 s.most), .v (.int .i64 s.blocks)]]) hio rfl rfl (.tmp _ _ (.tmp _ _ .nil)) rfl rfl hargs0 rfl
theorem ok_grow_stream_pad (s : T_grow_stream) (r : (Int × T_grow_stream)) (h : Sh.grow_stream_pad s = some r) : FnP Tryd.prog 62 [.box 59 [.fl .shr 1 (map (int .u8) s.b), .v (.int .i64 s.at_), .fl (.own 5) 1 (map (int .u8) s.out), .v (.int .i64 s.most), .v (.int .i64 s.blocks)]] [.box 59 [.fl .shr 1 (map (int .u8) r.2.b), .v (.int .i64 r.2.at_), .fl (.own 5) 1 (map (int .u8) r.2.out), .v (.int .i64 r.2.most), .v (.int .i64 r.2.blocks)]] (.v (.int .i64 r.1)) := by
  unfold Sh.grow_stream_pad at h
  refine fn_okP func62 rfl (zl rfl) rfl (zl rfl) fun args0 hargs0 g0 hn hio => ?_
  refine zgg hn [_,_,(2,vi 0)] [0,1] [0,1] [zq [] 2 2] [(_,_),(_,_)] rfl ⟨z2 rfl,zz⟩ ?_
  refine ht_seq ?_
  obtain ⟨v1, hv1, h⟩ := zn h
  obtain ⟨v2, hv2, h⟩ := zn h
  obtain ⟨v3, hv3, h⟩ := zn h
  obtain ⟨v4, hv4, h⟩ := zn h
  refine zg hn (_::_::(6,.ptr 0 0)::(7,.ptr 0 0)::(8,.ptr 0 0)::(9,.ptr 0 1)::(10,vi s.at_)::(11,vi v1)::(12,vi v2)::(13,vi v3)::(14,.tup [vi v4.1,vi v4.2.1])::(0,.box 59 [fb v4.2.2.b,vi v4.2.2.at_,.fl (.own 5) 1 (map (int .u8) v4.2.2.out),vi v4.2.2.most,vi v4.2.2.blocks])::(5,.tup [vi v4.1,vi v4.2.1])::(15,vi v4.1)::(16,vi v4.2.1)::(3,vi v4.1)::(4,vi v4.2.1)::[]) [0,1] [11,1,15,16] [zq [0] 2 6,zq [0] 3 7,zq [3,0] 4 8,zq [4,0] 5 9,zq [5,0] 6 10,zq [6] 7 11,zq [7] 8 12,zq [8] 9 13,⟨[2,9],[0],[11,10],[(.slot 14),(.cell 0 0),(.cell 0 1),(.cell 0 2),(.cell 0 3),(.cell 0 4)]⟩,⟨[],[10],[12],[(.slot 5)]⟩,zq [12] 13 15,zq [12] 14 16,zq [13] 15 3,zq [14] 16 4] [(_,_),(_,_),(_,_),(_,_)] rfl ⟨z1 rfl,z1 rfl,zp rfl (op_nilCheck _ _ _ 0 0 rfl (by decide)),zp rfl (oF underlying59 rfl sz3),zp rfl (oL underlying3 rfl),zp rfl (oB rfl (rem_ok hv1)),zp rfl (oB rfl (ibind (f := int .i64) (Option.some.inj hv2))),zp rfl (oB rfl (rem_ok hv3)),zp rfl (op_callPS _ _ _ _ 14 58 [.tmp 6] [.tmp 13] _ _ _ rfl call58 rfl rfl rfl (ok_grow_stream_number s v3 _ hv4) (zl rfl) rfl rfl rfl rfl rfl rfl rfl),zp rfl (op_move_take _ _ _ _ rfl),zp rfl (oE rfl),zp rfl (oE rfl),z2 rfl,z2 rfl,zz⟩ ?_
  refine pt_then (ht_seq ?_)
  refine zgg hn [_,_,_,_,(17,vi v4.2.1),(18,vb (v4.2.1 != 0))] [0,1,2,3] [0,1,2,3,5] [zq [3] 4 17,zq [4] 5 18] [(_,_),(_,_),(_,_),(_,_),(_,_)] rfl ⟨z1 rfl,z4 rfl rfl,zz⟩ ?_
  refine ht_cond _ rfl (fun hb5 => ?_) (fun hb5 => ?_)
  ·have h := cond_t hb5 h
   refine zgg hn [_,_,_,_,_,(19,vi v4.2.1),(2,vi v4.2.1)] [0,1,2,3,4] [0,1,6] [zq [3] 5 19,zq [5] 6 2] [(_,_),(_,_),(_,_)] rfl ⟨z1 rfl,z2 rfl,zz⟩ ?_
   refine ht_ret ?_
   refine pt_pick [2,0,1] (by kernel_rfl) (es' := [(_,_),(_,_),(_,_)]) rfl ?_
   refine pt_r_then ?_
   obtain rfl := zi h
   exact pt_retP (es := [(2, .v (.int .i64 v4.2.1))]) (posts := [.box 59 [fb v4.2.2.b, .v (.int .i64 v4.2.2.at_), .fl (.own 5) 1 (map (int .u8) v4.2.2.out), .v (.int .i64 v4.2.2.most), .v (.int .i64 v4.2.2.blocks)]]) hio rfl rfl (.tmp _ _ .nil) rfl rfl hargs0 rfl
  ·have h := cond_f hb5 h
   refine ht_skip ?_
   refine pt_then (ht_seq ?_)
   refine zgg hn [_,_,_,_,_,(20,vi v4.1),(21,vb (v4.1 != 0))] [0,1,2,3,4] [0,1,6] [zq [2] 5 20,zq [5] 6 21] [(_,_),(_,_),(_,_)] rfl ⟨z1 rfl,z4 rfl rfl,zz⟩ ?_
   refine ht_cond _ rfl (fun hb6 => ?_) (fun hb6 => ?_)
   ·have h := cond_t hb6 h
    refine zgg hn [_,_,_,(2,vi 3)] [0,1,2] [0,1,3] [zq [] 3 2] [(_,_),(_,_),(_,_)] rfl ⟨z2 rfl,zz⟩ ?_
    refine ht_ret ?_
    refine pt_pick [2,0,1] (by kernel_rfl) (es' := [(_,_),(_,_),(_,_)]) rfl ?_
    refine pt_r_then ?_
    obtain rfl := zi h
    exact pt_retP (es := [(2, .v (.int .i64 3))]) (posts := [.box 59 [fb v4.2.2.b, .v (.int .i64 v4.2.2.at_), .fl (.own 5) 1 (map (int .u8) v4.2.2.out), .v (.int .i64 v4.2.2.most), .v (.int .i64 v4.2.2.blocks)]]) hio rfl rfl (.tmp _ _ .nil) rfl rfl hargs0 rfl
   ·have h := cond_f hb6 h
    refine ht_skip ?_
    refine pt_then ?_
    refine zgg hn [_,_,_,(2,vi 0)] [0,1,2] [0,1,3] [zq [] 3 2] [(_,_),(_,_),(_,_)] rfl ⟨z2 rfl,zz⟩ ?_
    refine ht_ret ?_
    refine pt_pick [2,0,1] (by kernel_rfl) (es' := [(_,_),(_,_),(_,_)]) rfl ?_
    obtain rfl := zi h
    exact pt_retP (es := [(2, .v (.int .i64 0))]) (posts := [.box 59 [fb v4.2.2.b, .v (.int .i64 v4.2.2.at_), .fl (.own 5) 1 (map (int .u8) v4.2.2.out), .v (.int .i64 v4.2.2.most), .v (.int .i64 v4.2.2.blocks)]]) hio rfl rfl (.tmp _ _ .nil) rfl rfl hargs0 rfl
theorem ok_grow_stream_literal (s : T_grow_stream) (x : Int) (r : (Int × T_grow_stream)) (h : Sh.grow_stream_literal s x = some r) : FnP Tryd.prog 77 [.box 59 [.fl .shr 1 (map (int .u8) s.b), .v (.int .i64 s.at_), .fl (.own 5) 1 (map (int .u8) s.out), .v (.int .i64 s.most), .v (.int .i64 s.blocks)], .v (.int .i64 x)] [.box 59 [.fl .shr 1 (map (int .u8) r.2.b), .v (.int .i64 r.2.at_), .fl (.own 5) 1 (map (int .u8) r.2.out), .v (.int .i64 r.2.most), .v (.int .i64 r.2.blocks)]] (.v (.int .i64 r.1)) := by
  unfold Sh.grow_stream_literal at h
  refine fn_okP func77 rfl (zl rfl) rfl (zl rfl) fun args0 hargs0 g0 hn hio => ?_
  refine zgg hn [_,_,_,(4,vi 0)] [0,1,2] [0,1,2] [zq [] 3 4] [(_,_),(_,_),(_,_)] rfl ⟨z2 rfl,zz⟩ ?_
  refine ht_seq ?_
  refine ht_seq ?_
  obtain ⟨v1, hv1, h⟩ := zn h
  refine ht_anyR (by kernel_rfl) hn (El := [_,_,_,(5,.same (.slot 0)),(6,.ptr 0 0),(7,.ptr 0 2),(8,.same (.cell 0 2)),(9,vi (s.out.length : Int)),(10,vi v1),(11,.same (.slot 0)),(12,.ptr 0 0),(13,.ptr 0 3),(14,vi s.most),(15,vb (decide (s.most < v1)))]) (init := [0,1,2]) (fin := [0,1,2,13]) (sps := [zq [] 3 5,zq [3,0] 4 6,zq [4,0] 5 7,zq [5,0] 6 8,zq [6,0] 7 9,zq [7] 8 10,zq [] 9 11,zq [9,0] 10 12,zq [10,0] 11 13,zq [11,0] 12 14,zq [8,12] 13 15]) (es' := [(_,_),(_,_),(_,_),(15,vb (decide (s.most < v1)))]) (by kernel_rfl) rfl rfl ⟨zp rfl (op_move_name _ _ _ rfl),zp rfl (op_nilCheck_name _ _ _ 0 rfl rfl (by decide)),zp rfl (oF underlying59 rfl sz22),zp rfl (oL underlying22 rfl),zp rfl (op_len_fl _ _ _ underlying22 rfl (by decide) (map_len _)),zp rfl (oB rfl (ibind (f := int .i64) (Option.some.inj hv1))),zp rfl (op_move_name _ _ _ rfl),zp rfl (op_nilCheck_name _ _ _ 0 rfl rfl (by decide)),zp rfl (oF underlying59 rfl sz3),zp rfl (oL underlying3 rfl),z4 rfl rfl,zz⟩ ?_
  refine pt_then ?_
  refine ht_cond _ rfl (fun hb2 => ?_) (fun hb2 => ?_)
  ·have h := cond_t hb2 h
   refine zgg hn [_,_,_,_,(4,vi 2)] [0,1,2,3] [0,2,4] [zq [] 4 4] [(_,_),(_,_),(_,_)] rfl ⟨z2 rfl,zz⟩ ?_
   refine ht_ret ?_
   refine pt_pick [2,0,1] (by kernel_rfl) (es' := [(_,_),(_,_),(_,_)]) rfl ?_
   refine pt_r_then ?_
   obtain rfl := zi h
   exact pt_retP (es := [(4, .v (.int .i64 2))]) (posts := [.box 59 [fb s.b, .v (.int .i64 s.at_), .fl (.own 5) 1 (map (int .u8) s.out), .v (.int .i64 s.most), .v (.int .i64 s.blocks)]]) hio rfl rfl (.tmp _ _ .nil) rfl rfl hargs0 rfl
  ·have h := cond_f hb2 h
   refine ht_skip ?_
   refine pt_then (ht_seq ?_)
   obtain ⟨v3, hv3, h⟩ := zn h
   obtain ⟨v4, hv4, h⟩ := zn h
   refine zg hn (_::_::_::_::(16,.ptr 0 0)::(17,.ptr 0 0)::(18,.ptr 0 0)::(19,.ptr 0 2)::(20,.same (.cell 0 2))::(21,vi x)::(22,.v (.int .u8 v3))::(23,.fl (.own 5) 1 (map (int .u8) [v3]))::(24,.fl (.own 5) 1 (map (int .u8) v4))::(0,.box 59 [fb s.b,vi s.at_,.any,vi s.most,vi s.blocks])::(25,.ptr 0 0)::(26,.ptr 0 2)::(0,.box 59 [fb s.b,vi s.at_,.fl (.own 5) 1 (map (int .u8) v4),vi s.most,vi s.blocks])::[]) [0,1,2,3] [16,2] [zq [0] 4 16,zq [0] 5 17,zq [5,0] 6 18,zq [6,0] 7 19,zq [7,0] 8 20,zq [1] 9 21,zq [9] 10 22,zq [10] 11 23,⟨[8,11],[0],[13,12],[(.slot 24)]⟩,zq [4,13] 14 25,zq [14,13] 15 26,⟨[15],[8,12,13],[16],[.cell 0 2]⟩] [(_,_),(_,_)] rfl ⟨z1 rfl,z1 rfl,zp rfl (op_nilCheck _ _ _ 0 0 rfl (by decide)),zp rfl (oF underlying59 rfl sz22),zp rfl (oL underlying22 rfl),z1 rfl,zp rfl ((Option.some.inj hv3) ▸ op_conv _ _ _ underlying3 underlying5 rfl),zp rfl (op_buildSlice _ _ 1 (.int .u8 0) (map (int .u8) [v3]) [(0, .int .u8 v3)] underlying22 sz5 zr5 (fun _ V w o a hv hes => by have e0 := rd_v hv hes (x := .tmp 22) rfl; simp only [List.map_toArray, List.map_cons, List.map_nil, e0]; try rfl) (litfill (by simp [Instr.fill, Value.cells]; rfl) (by simp [List.range, List.range.loop] <;> rfl)) (by simp [Value.oneCell']) rfl (by decide) (by decide) (by decide)),zp rfl (op_app_cell _ _ _ _ _ _ el22 rfl rfl (zl rfl) rfl (map_len _) (map_len _) hv4 ((List.map_append).symm.trans (congrArg (map _) (app_eq hv4))) (Nat.ne_of_beq_eq_false rfl) rfl rfl),zp rfl (op_nilCheck _ _ _ 0 0 rfl (by decide)),zp rfl (oF underlying59 rfl sz22),zp rfl (LOp.drop [_] (op_store_take _ _ _ _ _ _ _ _ sz22 rfl rfl rfl (zl rfl) rfl rfl)),zz⟩ ?_
   refine pt_then ?_
   refine zgg hn [_,_,(4,vi 0)] [0,1] [0,1,2] [zq [] 2 4] [(_,_),(_,_),(_,_)] rfl ⟨z2 rfl,zz⟩ ?_
   refine ht_ret ?_
   refine pt_pick [2,0,1] (by kernel_rfl) (es' := [(_,_),(_,_),(_,_)]) rfl ?_
   obtain rfl := zi h
   exact pt_retP (es := [(4, .v (.int .i64 0))]) (posts := [.box 59 [fb s.b, .v (.int .i64 s.at_), .fl (.own 5) 1 (map (int .u8) v4), .v (.int .i64 s.most), .v (.int .i64 s.blocks)]]) hio rfl rfl (.tmp _ _ .nil) rfl rfl hargs0 rfl
theorem ok_grow_stream_stored (s : T_grow_stream) (r : (Int × T_grow_stream)) (h : Sh.grow_stream_stored s = some r) : FnP Tryd.prog 59 [.box 59 [.fl .shr 1 (map (int .u8) s.b), .v (.int .i64 s.at_), .fl (.own 5) 1 (map (int .u8) s.out), .v (.int .i64 s.most), .v (.int .i64 s.blocks)]] [.box 59 [.fl .shr 1 (map (int .u8) r.2.b), .v (.int .i64 r.2.at_), .fl (.own 5) 1 (map (int .u8) r.2.out), .v (.int .i64 r.2.most), .v (.int .i64 r.2.blocks)]] (.v (.int .i64 r.1)) := by
  unfold Sh.grow_stream_stored at h
  refine fn_okP func59 rfl (zl rfl) rfl (zl rfl) fun args0 hargs0 g0 hn hio => ?_
  refine zgg hn [_,_,(2,vi 0)] [0,1] [0,1] [zq [] 2 2] [(_,_),(_,_)] rfl ⟨z2 rfl,zz⟩ ?_
  refine ht_seq ?_
  refine ht_seq ?_
  obtain ⟨v1, hv1, h⟩ := zn h
  refine zg hn [_,_,(10,.ptr 0 0),(11,vi v1.1),(0,.box 59 [fb v1.2.b,vi v1.2.at_,.fl (.own 5) 1 (map (int .u8) v1.2.out),vi v1.2.most,vi v1.2.blocks]),(3,vi v1.1)] [0,1] [4,1,5] [zq [0] 2 10,⟨[2],[0],[4,3],[(.slot 11),(.cell 0 0),(.cell 0 1),(.cell 0 2),(.cell 0 3),(.cell 0 4)]⟩,zq [3] 5 3] [(_,_),(_,_),(_,_)] rfl ⟨z1 rfl,zp rfl (op_callPS _ _ _ _ 11 62 [.tmp 10] [] _ _ _ rfl call62 rfl rfl rfl (ok_grow_stream_pad s _ hv1) (zl rfl) rfl rfl rfl rfl rfl rfl rfl),z2 rfl,zz⟩ ?_
  refine pt_then ?_
  refine zgg hn [_,_,_,(12,vi v1.1),(13,vb (v1.1 != 0))] [0,1,2] [0,1,2,4] [zq [2] 3 12,zq [3] 4 13] [(_,_),(_,_),(_,_),(_,_)] rfl ⟨z1 rfl,z4 rfl rfl,zz⟩ ?_
  refine ht_cond _ rfl (fun hb2 => ?_) (fun hb2 => ?_)
  ·have h := cond_t hb2 h
   refine zgg hn [_,_,_,_,(14,vi v1.1),(2,vi v1.1)] [0,1,2,3] [0,1,5] [zq [2] 4 14,zq [4] 5 2] [(_,_),(_,_),(_,_)] rfl ⟨z1 rfl,z2 rfl,zz⟩ ?_
   refine ht_ret ?_
   refine pt_pick [2,0,1] (by kernel_rfl) (es' := [(_,_),(_,_),(_,_)]) rfl ?_
   refine pt_r_then ?_
   obtain rfl := zi h
   exact pt_retP (es := [(2, .v (.int .i64 v1.1))]) (posts := [.box 59 [fb v1.2.b, .v (.int .i64 v1.2.at_), .fl (.own 5) 1 (map (int .u8) v1.2.out), .v (.int .i64 v1.2.most), .v (.int .i64 v1.2.blocks)]]) hio rfl rfl (.tmp _ _ .nil) rfl rfl hargs0 rfl
  ·have h := cond_f hb2 h
   refine ht_skip ?_
   refine pt_then (ht_seq ?_)
   obtain ⟨v3, hv3, h⟩ := zn h
   refine zg hn [_,_,_,_,(16,.ptr 0 0),(17,.tup [vi v3.1,vi v3.2.1]),(0,.box 59 [fb v3.2.2.b,vi v3.2.2.at_,.fl (.own 5) 1 (map (int .u8) v3.2.2.out),vi v3.2.2.most,vi v3.2.2.blocks]),(15,.tup [vi v3.1,vi v3.2.1]),(18,vi v3.1),(19,vi v3.2.1),(4,vi v3.1),(5,vi v3.2.1)] [0,1,2,3] [6,1,10,11] [zq [0] 4 16,⟨[4],[0],[6,5],[(.slot 17),(.cell 0 0),(.cell 0 1),(.cell 0 2),(.cell 0 3),(.cell 0 4)]⟩,⟨[],[5],[7],[(.slot 15)]⟩,zq [7] 8 18,zq [7] 9 19,zq [8] 10 4,zq [9] 11 5] [(_,_),(_,_),(_,_),(_,_)] rfl ⟨z1 rfl,zp rfl (op_callPS _ _ _ _ 17 58 [.tmp 16] [_] _ _ _ rfl call58 rfl rfl rfl (ok_grow_stream_number v1.2 16 _ hv3) (zl rfl) rfl rfl rfl rfl rfl rfl rfl),zp rfl (op_move_take _ _ _ _ rfl),zp rfl (oE rfl),zp rfl (oE rfl),z2 rfl,z2 rfl,zz⟩ ?_
   refine pt_then (ht_seq ?_)
   refine zgg hn [_,_,_,_,(20,vi v3.2.1),(21,vb (v3.2.1 != 0))] [0,1,2,3] [0,1,2,3,5] [zq [3] 4 20,zq [4] 5 21] [(_,_),(_,_),(_,_),(_,_),(_,_)] rfl ⟨z1 rfl,z4 rfl rfl,zz⟩ ?_
   refine ht_cond _ rfl (fun hb4 => ?_) (fun hb4 => ?_)
   ·have h := cond_t hb4 h
    refine zgg hn [_,_,_,_,_,(22,vi v3.2.1),(2,vi v3.2.1)] [0,1,2,3,4] [0,1,6] [zq [3] 5 22,zq [5] 6 2] [(_,_),(_,_),(_,_)] rfl ⟨z1 rfl,z2 rfl,zz⟩ ?_
    refine ht_ret ?_
    refine pt_pick [2,0,1] (by kernel_rfl) (es' := [(_,_),(_,_),(_,_)]) rfl ?_
    refine pt_r_then ?_
    obtain rfl := zi h
    exact pt_retP (es := [(2, .v (.int .i64 v3.2.1))]) (posts := [.box 59 [fb v3.2.2.b, .v (.int .i64 v3.2.2.at_), .fl (.own 5) 1 (map (int .u8) v3.2.2.out), .v (.int .i64 v3.2.2.most), .v (.int .i64 v3.2.2.blocks)]]) hio rfl rfl (.tmp _ _ .nil) rfl rfl hargs0 rfl
   ·have h := cond_f hb4 h
    refine ht_skip ?_
    refine pt_then (ht_seq ?_)
    obtain ⟨v5, hv5, h⟩ := zn h
    refine zg hn [_,_,_,_,_,(24,.ptr 0 0),(25,.tup [vi v5.1,vi v5.2.1]),(0,.box 59 [fb v5.2.2.b,vi v5.2.2.at_,.fl (.own 5) 1 (map (int .u8) v5.2.2.out),vi v5.2.2.most,vi v5.2.2.blocks]),(23,.tup [vi v5.1,vi v5.2.1]),(26,vi v5.1),(27,vi v5.2.1),(6,vi v5.1),(5,vi v5.2.1)] [0,1,2,3,4] [7,1,2,11,12] [zq [0] 5 24,⟨[5],[0],[7,6],[(.slot 25),(.cell 0 0),(.cell 0 1),(.cell 0 2),(.cell 0 3),(.cell 0 4)]⟩,⟨[],[6],[8],[(.slot 23)]⟩,zq [8] 9 26,zq [8] 10 27,zq [9] 11 6,⟨[10],[3],[12],[(.slot 5)]⟩] [(_,_),(_,_),(_,_),(_,_),(_,_)] rfl ⟨z1 rfl,zp rfl (op_callPS _ _ _ _ 25 58 [.tmp 24] [_] _ _ _ rfl call58 rfl rfl rfl (ok_grow_stream_number v3.2.2 16 _ hv5) (zl rfl) rfl rfl rfl rfl rfl rfl rfl),zp rfl (op_move_take _ _ _ _ rfl),zp rfl (oE rfl),zp rfl (oE rfl),z2 rfl,zp rfl (LOp.drop [_] (op_assign _ _ _ _ rfl rfl)),zz⟩ ?_
    refine pt_then (ht_seq ?_)
    refine zgg hn [_,_,_,_,_,(28,vi v5.2.1),(29,vb (v5.2.1 != 0))] [0,1,2,3,4] [0,1,2,3,4,6] [zq [4] 5 28,zq [5] 6 29] [(_,_),(_,_),(_,_),(_,_),(_,_),(_,_)] rfl ⟨z1 rfl,z4 rfl rfl,zz⟩ ?_
    refine ht_cond _ rfl (fun hb6 => ?_) (fun hb6 => ?_)
    ·have h := cond_t hb6 h
     refine zgg hn [_,_,_,_,_,_,(30,vi v5.2.1),(2,vi v5.2.1)] [0,1,2,3,4,5] [0,1,7] [zq [4] 6 30,zq [6] 7 2] [(_,_),(_,_),(_,_)] rfl ⟨z1 rfl,z2 rfl,zz⟩ ?_
     refine ht_ret ?_
     refine pt_pick [2,0,1] (by kernel_rfl) (es' := [(_,_),(_,_),(_,_)]) rfl ?_
     refine pt_r_then ?_
     obtain rfl := zi h
     exact pt_retP (es := [(2, .v (.int .i64 v5.2.1))]) (posts := [.box 59 [fb v5.2.2.b, .v (.int .i64 v5.2.2.at_), .fl (.own 5) 1 (map (int .u8) v5.2.2.out), .v (.int .i64 v5.2.2.most), .v (.int .i64 v5.2.2.blocks)]]) hio rfl rfl (.tmp _ _ .nil) rfl rfl hargs0 rfl
    ·have h := cond_f hb6 h
     refine ht_skip ?_
     refine pt_then (ht_seq ?_)
     refine ht_seq ?_
     obtain ⟨v7, hv7, h⟩ := zn h
     refine zg hn [_,_,_,_,_,_,(31,vi v3.1),(32,vi v5.1),(33,vi v7),(34,vb (v7 != 65535))] [0,1,2,3,4,5] [0,1,2,9] [zq [2] 6 31,zq [3] 7 32,zq [6,7] 8 33,zq [8] 9 34] [(_,_),(_,_),(_,_),(_,_)] rfl ⟨z1 rfl,z1 rfl,zp rfl (oB rfl (ibind (f := int .i64) (Option.some.inj hv7))),z4 rfl rfl,zz⟩ ?_
     refine pt_then ?_
     refine ht_cond _ rfl (fun hb8 => ?_) (fun hb8 => ?_)
     ·have h := cond_t hb8 h
      refine zgg hn [_,_,_,_,(2,vi 3)] [0,1,2,3] [0,1,4] [zq [] 4 2] [(_,_),(_,_),(_,_)] rfl ⟨z2 rfl,zz⟩ ?_
      refine ht_ret ?_
      refine pt_pick [2,0,1] (by kernel_rfl) (es' := [(_,_),(_,_),(_,_)]) rfl ?_
      refine pt_r_then ?_
      obtain rfl := zi h
      exact pt_retP (es := [(2, .v (.int .i64 3))]) (posts := [.box 59 [fb v5.2.2.b, .v (.int .i64 v5.2.2.at_), .fl (.own 5) 1 (map (int .u8) v5.2.2.out), .v (.int .i64 v5.2.2.most), .v (.int .i64 v5.2.2.blocks)]]) hio rfl rfl (.tmp _ _ .nil) rfl rfl hargs0 rfl
     ·have h := cond_f hb8 h
      refine ht_skip ?_
      refine pt_then (ht_seq ?_)
      refine zgg hn [_,_,_,_,(35,vi v3.1),(36,vi 0)] [0,1,2,3] [0,1,4,5] [zq [2] 4 35,zq [] 5 36] [(_,_),(_,_),(_,_),(_,_)] rfl ⟨z1 rfl,z1 rfl,zz⟩ ?_
      refine ht_loopS h (fun ((s24,s25,s26,s27,s28,s29) : (List Int) × Int × (List Int) × Int × Int × Int) => [(0,.box 59 [fb s24,vi s25,.fl (.own 5) 1 (map (int .u8) s26),vi s27,vi s28]),(0,.v (List.getD args0 0 undef)),(35,vi v3.1),(36,vi s29)]) (fun ((s33,s34,s35,s36,s37) : (List Int) × Int × (List Int) × Int × Int) => [(0,.box 59 [fb s33,vi s34,.fl (.own 5) 1 (map (int .u8) s35),vi s36,vi s37]),(0,.v (List.getD args0 0 undef))]) ?_ ?_
      ·rintro ⟨s33, s34, s35, s36, s37⟩ h
       refine pt_then ?_
       refine zgg hn [_,_,(2,vi 0)] [0,1] [0,1,2] [zq [] 2 2] [(_,_),(_,_),(_,_)] rfl ⟨z2 rfl,zz⟩ ?_
       refine ht_ret ?_
       refine pt_pick [2,0,1] (by kernel_rfl) (es' := [(_,_),(_,_),(_,_)]) rfl ?_
       obtain rfl := zi h
       exact pt_retP (es := [(2, .v (.int .i64 0))]) (posts := [.box 59 [fb s33, .v (.int .i64 s34), .fl (.own 5) 1 (map (int .u8) s35), .v (.int .i64 s36), .v (.int .i64 s37)]]) hio rfl rfl (.tmp _ _ .nil) rfl rfl hargs0 rfl
      ·rintro u38 hl39 hr40 ⟨s24, s25, s26, s27, s28, s29⟩ rr43 h ho41
       refine zgg hn [_,_,_,_,(37,vb (decide (s29 < v3.1)))] [0,1,2,3] [0,1,2,3,4] [zq [3,2] 4 37] [(_,_),(_,_),(_,_),(_,_),(_,_)] rfl ⟨z4 rfl rfl,zz⟩ ?_
       refine ht_seq ?_
       refine ht_cond _ rfl (fun hb44 => ?_) (fun hb44 => ?_)
       ·have h := cond_t hb44 h
        refine ht_skip ?_
        refine pt_then (ht_seq ?_)
        refine ht_block ?_
        refine ht_seq ?_
        obtain ⟨v10, hv10, h⟩ := zn h
        refine zg hn [_,_,_,_,_,(39,.ptr 0 0),(40,.tup [vi v10.1,vi v10.2.1]),(0,.box 59 [fb v10.2.2.b,vi v10.2.2.at_,.fl (.own 5) 1 (map (int .u8) v10.2.2.out),vi v10.2.2.most,vi v10.2.2.blocks]),(38,.tup [vi v10.1,vi v10.2.1]),(41,vi v10.1),(42,vi v10.2.1),(7,vi v10.1),(8,vi v10.2.1)] [0,1,2,3,4] [7,1,2,3,11,12] [zq [0] 5 39,⟨[5],[0],[7,6],[(.slot 40),(.cell 0 0),(.cell 0 1),(.cell 0 2),(.cell 0 3),(.cell 0 4)]⟩,⟨[],[6],[8],[(.slot 38)]⟩,zq [8] 9 41,zq [8] 10 42,zq [9] 11 7,zq [10] 12 8] [(_,_),(_,_),(_,_),(_,_),(_,_),(_,_)] rfl ⟨z1 rfl,zp rfl (op_callPS _ _ _ _ 40 58 [.tmp 39] [_] _ _ _ rfl call58 rfl rfl rfl (ok_grow_stream_number (T_grow_stream.mk s24 s25 s26 s27 s28) 8 _ hv10) (zl rfl) rfl rfl rfl rfl rfl rfl rfl),zp rfl (op_move_take _ _ _ _ rfl),zp rfl (oE rfl),zp rfl (oE rfl),z2 rfl,z2 rfl,zz⟩ ?_
        refine pt_then (ht_seq ?_)
        refine zgg hn [_,_,_,_,_,_,(43,vi v10.2.1),(44,vb (v10.2.1 != 0))] [0,1,2,3,4,5] [0,1,2,3,4,5,7] [zq [5] 6 43,zq [6] 7 44] [(_,_),(_,_),(_,_),(_,_),(_,_),(_,_),(_,_)] rfl ⟨z1 rfl,z4 rfl rfl,zz⟩ ?_
        refine ht_cond _ rfl (fun hb45 => ?_) (fun hb45 => ?_)
        ·have h := cond_t hb45 h
         refine zgg hn [_,_,_,_,_,_,_,(45,vi v10.2.1),(2,vi v10.2.1)] [0,1,2,3,4,5,6] [0,1,8] [zq [5] 7 45,zq [7] 8 2] [(_,_),(_,_),(_,_)] rfl ⟨z1 rfl,z2 rfl,zz⟩ ?_
         refine ht_ret ?_
         refine pt_pick [2,0,1] (by kernel_rfl) (es' := [(_,_),(_,_),(_,_)]) rfl ?_
         refine pt_r_then ?_
         refine pt_r_in ?_
         refine pt_r_then ?_
         refine pt_r_then ?_
         refine pt_r_in ?_
         refine pt_r_then ?_
         have h := hr40 _ (ho41 _ (zi h).symm).symm
         obtain rfl := zi h
         exact pt_retP (es := [(2, .v (.int .i64 v10.2.1))]) (posts := [.box 59 [fb v10.2.2.b, .v (.int .i64 v10.2.2.at_), .fl (.own 5) 1 (map (int .u8) v10.2.2.out), .v (.int .i64 v10.2.2.most), .v (.int .i64 v10.2.2.blocks)]]) hio rfl rfl (.tmp _ _ .nil) rfl rfl hargs0 rfl
        ·have h := cond_f hb45 h
         refine ht_skip ?_
         refine pt_then (ht_seq ?_)
         obtain ⟨v12, hv12, h⟩ := zn h
         refine zg hn [_,_,_,_,_,_,_,(46,.ptr 0 0),(47,vi v10.1),(48,vi v12.1),(0,.box 59 [fb v12.2.b,vi v12.2.at_,.fl (.own 5) 1 (map (int .u8) v12.2.out),vi v12.2.most,vi v12.2.blocks]),(9,vi v12.1)] [0,1,2,3,4,5,6] [10,1,2,3,11] [zq [0] 7 46,zq [4] 8 47,⟨[7,8],[0],[10,9],[(.slot 48),(.cell 0 0),(.cell 0 1),(.cell 0 2),(.cell 0 3),(.cell 0 4)]⟩,zq [9] 11 9] [(_,_),(_,_),(_,_),(_,_),(_,_)] rfl ⟨z1 rfl,z1 rfl,zp rfl (op_callPS _ _ _ _ 48 77 [.tmp 46] [.tmp 47] _ _ _ rfl call77 rfl rfl rfl (ok_grow_stream_literal v10.2.2 v10.1 _ hv12) (zl rfl) rfl rfl rfl rfl rfl rfl rfl),z2 rfl,zz⟩ ?_
         refine pt_then ?_
         refine zgg hn [_,_,_,_,_,(49,vi v12.1),(50,vb (v12.1 != 0))] [0,1,2,3,4] [0,1,2,3,4,6] [zq [4] 5 49,zq [5] 6 50] [(_,_),(_,_),(_,_),(_,_),(_,_),(_,_)] rfl ⟨z1 rfl,z4 rfl rfl,zz⟩ ?_
         refine ht_cond _ rfl (fun hb46 => ?_) (fun hb46 => ?_)
         ·have h := cond_t hb46 h
          refine zgg hn [_,_,_,_,_,_,(51,vi v12.1),(2,vi v12.1)] [0,1,2,3,4,5] [0,1,7] [zq [4] 6 51,zq [6] 7 2] [(_,_),(_,_),(_,_)] rfl ⟨z1 rfl,z2 rfl,zz⟩ ?_
          refine ht_ret ?_
          refine pt_pick [2,0,1] (by kernel_rfl) (es' := [(_,_),(_,_),(_,_)]) rfl ?_
          refine pt_r_in ?_
          refine pt_r_then ?_
          refine pt_r_then ?_
          refine pt_r_in ?_
          refine pt_r_then ?_
          have h := hr40 _ (ho41 _ (zi h).symm).symm
          obtain rfl := zi h
          exact pt_retP (es := [(2, .v (.int .i64 v12.1))]) (posts := [.box 59 [fb v12.2.b, .v (.int .i64 v12.2.at_), .fl (.own 5) 1 (map (int .u8) v12.2.out), .v (.int .i64 v12.2.most), .v (.int .i64 v12.2.blocks)]]) hio rfl rfl (.tmp _ _ .nil) rfl rfl hargs0 rfl
         ·have h := cond_f hb46 h
          refine ht_skip ?_
          refine pt_inb ?_
          refine pt_then ?_
          obtain ⟨v14, hv14, h⟩ := zn h
          refine zg hn [_,_,_,_,_,_,(52,vi v14),(36,vi v14)] [0,1,2,3,4,5] [0,1,2,7] [zq [3] 6 52,⟨[6],[3],[7],[(.slot 36)]⟩] [(_,_),(_,_),(_,_),(_,_)] rfl ⟨zp rfl (oB rfl (ibind (f := int .i64) (Option.some.inj hv14))),zp rfl (LOp.drop [_] (oM rfl)),zz⟩ ?_
          exact pt_next _ (zi h).symm rfl
       ·have h := cond_f hb44 h
        refine ht_exit ?_
        refine pt_x_then ?_
        refine pt_x_then ?_
        refine pt_x_in ?_
        refine pt_pick [0,1] (by kernel_rfl) (es' := [(_,_),(_,_)]) rfl ?_
        exact hl39 _ (ho41 _ (zi h).symm).symm
theorem ok_sym_fixedLen (s : Int) (r : Int) (h : Sh.sym_fixedLen s = some r) : FnOK Tryd.prog 44 [.v (.int .i64 s)] (.v (.int .i64 r)) := by
  unfold Sh.sym_fixedLen at h
  refine fn_ok func44 rfl (zl rfl) rfl rfl fun g0 hn hio => ?_
  refine zgg hn [_,(2,vi 0)] [0] [0] [zq [] 1 2] [(_,_)] rfl ⟨z2 rfl,zz⟩ ?_
  refine ht_seq ?_
  refine ht_block ?_
  refine zgg hn [_,(4,vi s),(5,vb (decide (s < 144))),(3,vb (decide (s < 144)))] [0] [0,3] [zq [0] 1 4,zq [1] 2 5,zq [2] 3 3] [(_,_),(_,_)] rfl ⟨z1 rfl,z4 rfl rfl,z2 rfl,zz⟩ ?_
  refine ht_cond _ rfl (fun hb1 => ?_) (fun hb1 => ?_)
  ·have h := cond_t hb1 h
   refine zgg hn [_,_,(2,vi 8)] [0,1] [2] [zq [] 2 2] [(_,_)] rfl ⟨z2 rfl,zz⟩ ?_
   refine ht_ret ?_
   refine pt_r_in ?_
   refine pt_r_then ?_
   obtain rfl := zi h
   exact pt_ret hio rfl (.tmp _ _ .nil) rfl rfl
  ·have h := cond_f hb1 h
   refine zgg hn [_,_,(7,vi s),(8,vb (decide (s < 256))),(6,vb (decide (s < 256)))] [0,1] [0,4] [zq [0] 2 7,zq [2] 3 8,zq [3] 4 6] [(_,_),(_,_)] rfl ⟨z1 rfl,z4 rfl rfl,z2 rfl,zz⟩ ?_
   refine ht_cond _ rfl (fun hb2 => ?_) (fun hb2 => ?_)
   ·have h := cond_t hb2 h
    refine zgg hn [_,_,(2,vi 9)] [0,1] [2] [zq [] 2 2] [(_,_)] rfl ⟨z2 rfl,zz⟩ ?_
    refine ht_ret ?_
    refine pt_r_in ?_
    refine pt_r_then ?_
    obtain rfl := zi h
    exact pt_ret hio rfl (.tmp _ _ .nil) rfl rfl
   ·have h := cond_f hb2 h
    refine zgg hn [_,_,(10,vi s),(11,vb (decide (s < 280))),(9,vb (decide (s < 280)))] [0,1] [4] [zq [0] 2 10,zq [2] 3 11,zq [3] 4 9] [(_,_)] rfl ⟨z1 rfl,z4 rfl rfl,z2 rfl,zz⟩ ?_
    refine ht_cond _ rfl (fun hb3 => ?_) (fun hb3 => ?_)
    ·have h := cond_t hb3 h
     refine zgg hn [_,(2,vi 7)] [0] [1] [zq [] 1 2] [(_,_)] rfl ⟨z2 rfl,zz⟩ ?_
     refine ht_ret ?_
     refine pt_r_in ?_
     refine pt_r_then ?_
     obtain rfl := zi h
     exact pt_ret hio rfl (.tmp _ _ .nil) rfl rfl
    ·have h := cond_f hb3 h
     refine ht_skip ?_
     refine pt_inb ?_
     refine pt_then ?_
     refine zgg hn [_,(2,vi 8)] [0] [1] [zq [] 1 2] [(_,_)] rfl ⟨z2 rfl,zz⟩ ?_
     refine ht_ret ?_
     obtain rfl := zi h
     exact pt_ret hio rfl (.tmp _ _ .nil) rfl rfl
theorem ok_sym_Fixed (r : ((List Int) × (List Int))) (h : Sh.sym_Fixed  = some r) : FnOK Tryd.prog 33 [] (.tup [.fl (.own 3) 1 (map (int .i64) r.1), .fl (.own 3) 1 (map (int .i64) r.2)]) := by
  unfold Sh.sym_Fixed at h
  refine fn_ok func33 rfl (zl rfl) rfl rfl fun g0 hn hio => ?_
  refine zgg hn [(0,vz),(1,vz)] [] [0,1] [zq [] 0 0,zq [] 1 1] [(_,_),(_,_)] rfl ⟨z2 rfl,z2 rfl,zz⟩ ?_
  refine ht_seq ?_
  refine zgg hn [_,_,(3,vi 0)] [0,1] [0,1,2] [zq [] 2 3] [(_,_),(_,_),(_,_)] rfl ⟨z1 rfl,zz⟩ ?_
  refine ht_sub (fs := [(0,.fl (.own 3) 1 (map (int .i64) [])),(1,vz),(3,vi 0)]) (.sub _ (sub_nil 3 1) rfl (.same _ (.same _ .nil))) ?_
  refine ht_loopS h (fun ((s8,s9) : (List Int) × Int) => [(0,.fl (.own 3) 1 (map (int .i64) s8)),(1,vz),(3,vi s9)]) (fun (s11 : (List Int)) => [(0,.fl (.own 3) 1 (map (int .i64) s11)),(1,vz)]) ?_ ?_
  ·rintro s11 h
   refine pt_then (ht_seq ?_)
   refine zgg hn [_,_,(12,vi 0)] [0,1] [0,1,2] [zq [] 2 12] [(_,_),(_,_),(_,_)] rfl ⟨z1 rfl,zz⟩ ?_
   refine ht_sub (fs := [(0,.fl (.own 3) 1 (map (int .i64) s11)),(1,.fl (.own 3) 1 (map (int .i64) [])),(12,vi 0)]) (.same _ (.sub _ (sub_nil 3 1) rfl (.same _ .nil))) ?_
   refine ht_loopS h (fun ((s25,s26) : (List Int) × Int) => [(0,.fl (.own 3) 1 (map (int .i64) s11)),(1,.fl (.own 3) 1 (map (int .i64) s25)),(12,vi s26)]) (fun (s28 : (List Int)) => [(0,.fl (.own 3) 1 (map (int .i64) s11)),(1,.fl (.own 3) 1 (map (int .i64) s28))]) ?_ ?_
   ·rintro s28 h
    refine pt_then ?_
    refine zgg hn [_,_,(18,.fl (.own 3) 1 (map (int .i64) s11)),(19,.fl (.own 3) 1 (map (int .i64) s28)),(0,.fl (.own 3) 1 (map (int .i64) s11)),(1,.fl (.own 3) 1 (map (int .i64) s28))] [0,1] [4,5] [⟨[],[0],[2],[(.slot 18)]⟩,⟨[],[1],[3],[(.slot 19)]⟩,⟨[],[2],[4],[(.slot 0)]⟩,⟨[],[3],[5],[(.slot 1)]⟩] [(_,_),(_,_)] rfl ⟨zp rfl (op_move_take _ _ _ _ rfl),zp rfl (op_move_take _ _ _ _ rfl),zp rfl (op_assign_take _ _ _ _ rfl),zp rfl (op_assign_take _ _ _ _ rfl),zz⟩ ?_
    refine ht_ret ?_
    obtain rfl := zi h
    exact pt_ret hio rfl (.tmp _ _ (.tmp _ _ .nil)) rfl rfl
   ·rintro u29 hl30 hr31 ⟨s25, s26⟩ rr34 h ho32
    refine zgg hn [_,_,_,(13,vb (decide (s26 < 32)))] [0,1,2] [0,1,2,3] [zq [2] 3 13] [(_,_),(_,_),(_,_),(_,_)] rfl ⟨z4 rfl rfl,zz⟩ ?_
    refine ht_seq ?_
    refine ht_cond _ rfl (fun hb35 => ?_) (fun hb35 => ?_)
    ·have h := cond_t hb35 h
     refine ht_skip ?_
     refine pt_then (ht_seq ?_)
     refine ht_block ?_
     obtain ⟨v20, hv20, h⟩ := zn h
     refine zg hn [_,_,_,_,(14,.fl (.own 3) 1 (map (int .i64) s25)),(15,.fl (.own 3) 1 (map (int .i64) [5])),(16,.fl (.own 3) 1 (map (int .i64) v20)),(14,.any),(1,.fl (.own 3) 1 (map (int .i64) v20))] [0,1,2,3] [0,2,8] [⟨[],[1],[4],[(.slot 14)]⟩,zq [] 5 15,⟨[5],[4],[7,6],[(.slot 16)]⟩,⟨[],[6],[8],[(.slot 1)]⟩] [(_,_),(_,_),(_,_)] rfl ⟨zp rfl (op_move_take _ _ _ _ rfl),zp rfl (op_buildSlice _ _ 1 (.int .i64 0) (map (int .i64) [5]) [(0, .int .i64 5)] underlying73 sz3 zr3 (fun _ V w o a hv hes => by simp only [List.map_toArray, List.map_cons, List.map_nil]; try rfl) (litfill (by simp [Instr.fill, Value.cells]; rfl) (by simp [List.range, List.range.loop] <;> rfl)) (by simp [Value.oneCell']) rfl (by decide) (by decide) (by decide)),zp rfl (op_app _ _ _ _ _ el73 rfl rfl (map_len _) (map_len _) hv20 ((List.map_append).symm.trans (congrArg (map _) (app_eq hv20)))),zp rfl (op_assign_take _ _ _ _ rfl),zz⟩ ?_
     refine pt_inb ?_
     refine pt_then ?_
     obtain ⟨v21, hv21, h⟩ := zn h
     refine zg hn [_,_,_,(17,vi v21),(12,vi v21)] [0,1,2] [0,2,4] [zq [1] 3 17,⟨[3],[1],[4],[(.slot 12)]⟩] [(_,_),(_,_),(_,_)] rfl ⟨zp rfl (oB rfl (ibind (f := int .i64) (Option.some.inj hv21))),zp rfl (LOp.drop [_] (oM rfl)),zz⟩ ?_
     exact pt_next _ (zi h).symm rfl
    ·have h := cond_f hb35 h
     refine ht_exit ?_
     refine pt_x_then ?_
     refine pt_x_then ?_
     refine pt_x_in ?_
     refine pt_pick [0,1] (by kernel_rfl) (es' := [(_,_),(_,_)]) rfl ?_
     exact hl30 _ (ho32 _ (zi h).symm).symm
  ·rintro u12 hl13 hr14 ⟨s8, s9⟩ rr17 h ho15
   refine zgg hn [_,_,_,(4,vb (decide (s9 < 288)))] [0,1,2] [0,1,2,3] [zq [2] 3 4] [(_,_),(_,_),(_,_),(_,_)] rfl ⟨z4 rfl rfl,zz⟩ ?_
   refine ht_seq ?_
   refine ht_cond _ rfl (fun hb18 => ?_) (fun hb18 => ?_)
   ·have h := cond_t hb18 h
    refine ht_skip ?_
    refine pt_then (ht_seq ?_)
    refine ht_block ?_
    refine zgg hn [_,_,_,_,(5,vi s9),(2,vi s9)] [0,1,2,3] [0,1,2,5] [zq [2] 4 5,zq [4] 5 2] [(_,_),(_,_),(_,_),(_,_)] rfl ⟨z1 rfl,z2 rfl,zz⟩ ?_
    obtain ⟨v2, hv2, h⟩ := zn h
    obtain ⟨v3, hv3, h⟩ := zn h
    refine zg hn [_,_,_,_,(6,.fl (.own 3) 1 (map (int .i64) s8)),(7,vi s9),(8,vi v2),(9,.fl (.own 3) 1 (map (int .i64) [v2])),(10,.fl (.own 3) 1 (map (int .i64) v3)),(6,.any),(0,.fl (.own 3) 1 (map (int .i64) v3))] [0,1,2,3] [1,2,10] [⟨[],[0],[4],[(.slot 6)]⟩,zq [3] 5 7,zq [5] 6 8,zq [6] 7 9,⟨[7],[4],[9,8],[(.slot 10)]⟩,⟨[],[8],[10],[(.slot 0)]⟩] [(_,_),(_,_),(_,_)] rfl ⟨zp rfl (op_move_take _ _ _ _ rfl),z1 rfl,zp rfl (op_call _ _ 44 _ _ rfl call44 rfl (ok_sym_fixedLen s9 _ hv2) rfl rfl),zp rfl (op_buildSlice _ _ 1 (.int .i64 0) (map (int .i64) [v2]) [(0, .int .i64 v2)] underlying73 sz3 zr3 (fun _ V w o a hv hes => by have e0 := rd_v hv hes (x := .tmp 8) rfl; simp only [List.map_toArray, List.map_cons, List.map_nil, e0]; try rfl) (litfill (by simp [Instr.fill, Value.cells]; rfl) (by simp [List.range, List.range.loop] <;> rfl)) (by simp [Value.oneCell']) rfl (by decide) (by decide) (by decide)),zp rfl (op_app _ _ _ _ _ el73 rfl rfl (map_len _) (map_len _) hv3 ((List.map_append).symm.trans (congrArg (map _) (app_eq hv3)))),zp rfl (op_assign_take _ _ _ _ rfl),zz⟩ ?_
    refine pt_inb ?_
    refine pt_then ?_
    obtain ⟨v4, hv4, h⟩ := zn h
    refine zg hn [_,_,_,(11,vi v4),(3,vi v4)] [0,1,2] [0,2,4] [zq [1] 3 11,⟨[3],[1],[4],[(.slot 3)]⟩] [(_,_),(_,_),(_,_)] rfl ⟨zp rfl (oB rfl (ibind (f := int .i64) (Option.some.inj hv4))),zp rfl (LOp.drop [_] (oM rfl)),zz⟩ ?_
    refine pt_pick [1,0,2] (by kernel_rfl) (es' := [(_,_),(_,_),(_,_)]) rfl ?_
    exact pt_next _ (zi h).symm rfl
   ·have h := cond_f hb18 h
    refine ht_exit ?_
    refine pt_x_then ?_
    refine pt_x_then ?_
    refine pt_x_in ?_
    refine pt_pick [0,1] (by kernel_rfl) (es' := [(_,_),(_,_)]) rfl ?_
    exact hl13 _ (ho15 _ (zi h).symm).symm
theorem ok_canon_valid (lengths : (List Int)) (r : Bool) (h : Sh.canon_valid lengths = some r) : FnOK Tryd.prog 83 [.fl .shr 1 (map (int .i64) lengths)] (.v (.bool r)) := by
  unfold Sh.canon_valid at h
  refine fn_ok func83 rfl (zl rfl) rfl rfl fun g0 hn hio => ?_
  refine zgg hn [_,(2,vb false)] [0] [0] [zq [] 1 2] [(_,_)] rfl ⟨z2 rfl,zz⟩ ?_
  refine ht_seq ?_
  refine zgg hn [_,(5,fi lengths),(6,vi (lengths.length : Int)),(7,vb (decide (300 < (lengths.length : Int))))] [0] [0,3] [zq [0] 1 5,zq [1] 2 6,zq [2] 3 7] [(_,_),(_,_)] rfl ⟨z1 rfl,zp rfl (op_len_fl _ _ _ underlying73 rfl (by decide) (map_len _)),z4 rfl rfl,zz⟩ ?_
  refine ht_cond _ rfl (fun hb1 => ?_) (fun hb1 => ?_)
  ·have h := cond_t hb1 h
   refine zgg hn [_,_,(2,vb false)] [0,1] [2] [zq [] 2 2] [(_,_)] rfl ⟨z2 rfl,zz⟩ ?_
   refine ht_ret ?_
   refine pt_r_then ?_
   obtain rfl := zi h
   exact pt_ret hio rfl (.tmp _ _ .nil) rfl rfl
  ·have h := cond_f hb1 h
   refine ht_skip ?_
   refine pt_then (ht_seq ?_)
   refine zgg hn [_,_,(8,fi lengths),(9,vi (lengths.length : Int)),(10,vi 0)] [0,1] [2,3,4] [zq [0] 2 8,zq [2] 3 9,zq [] 4 10] [(_,_),(_,_),(_,_)] rfl ⟨z1 rfl,zp rfl (op_len_fl _ _ _ underlying73 rfl (by decide) (map_len _)),z1 rfl,zz⟩ ?_
   refine ht_loopS h (fun (s18 : Int) => [(8,fi lengths),(9,vi (lengths.length : Int)),(10,vi s18)]) (fun (() : Unit) => []) ?_ ?_
   ·rintro ⟨⟩ h
    refine pt_then ?_
    refine zgg hn [(2,vb true)] [] [0] [zq [] 0 2] [(_,_)] rfl ⟨z2 rfl,zz⟩ ?_
    refine ht_ret ?_
    obtain rfl := zi h
    exact pt_ret hio rfl (.tmp _ _ .nil) rfl rfl
   ·rintro u25 hl26 hr27 s18 rr30 h ho28
    refine zgg hn [_,_,_,(11,vb (decide (s18 < (lengths.length : Int))))] [0,1,2] [0,1,2,3] [zq [2,1] 3 11] [(_,_),(_,_),(_,_),(_,_)] rfl ⟨z4 rfl rfl,zz⟩ ?_
    refine ht_seq ?_
    refine ht_cond _ rfl (fun hb31 => ?_) (fun hb31 => ?_)
    ·have h := cond_t hb31 h
     refine ht_skip ?_
     refine pt_then (ht_seq ?_)
     refine ht_block ?_
     refine ht_seq ?_
     obtain ⟨v3, hv3, h⟩ := zn h
     obtain ⟨v4, hv4, h⟩ := zn h
     refine zg hn [_,_,_,_,(12,.eref (.slot 8) (v3 * 1)),(13,vi v4),(4,vi v4)] [0,1,2,3] [0,1,2,6] [zq [0,2] 4 12,zq [4,0] 5 13,zq [5] 6 4] [(_,_),(_,_),(_,_),(_,_)] rfl ⟨zp rfl (op_ix _ _ _ _ _ _ _ _ underlying73 sz3 (by decide) rfl rfl rfl (ix_ok hv3).1 (map_lt (ix_ok hv3).2) rfl),zp rfl (op_load_e _ _ _ _ _ _ underlying3 rfl rfl rfl (map_get hv4)),z2 rfl,zz⟩ ?_
     refine pt_then (ht_seq ?_)
     refine ht_joinS h (fun (s32 : Bool) => [(8,fi lengths),(9,vi (lengths.length : Int)),(10,vi s18),(19,vb s32)]) ?_ ?_
     ·rintro s32 h
      refine pt_then ?_
      refine ht_cond _ rfl (fun hb36 => ?_) (fun hb36 => ?_)
      ·have h := cond_t hb36 h
       refine zgg hn [_,_,_,_,(2,vb false)] [0,1,2,3] [4] [zq [] 4 2] [(_,_)] rfl ⟨z2 rfl,zz⟩ ?_
       refine ht_ret ?_
       refine pt_r_in ?_
       refine pt_r_then ?_
       refine pt_r_then ?_
       refine pt_r_in ?_
       refine pt_r_then ?_
       have h := hr27 _ (ho28 _ (zi h).symm).symm
       obtain rfl := zi h
       exact pt_ret hio rfl (.tmp _ _ .nil) rfl rfl
      ·have h := cond_f hb36 h
       refine ht_skip ?_
       refine pt_inb ?_
       refine pt_then ?_
       obtain ⟨v10, hv10, h⟩ := zn h
       refine zg hn [_,_,_,_,(20,vi v10),(10,vi v10)] [0,1,2,3] [0,1,5] [zq [2] 4 20,⟨[4],[2],[5],[(.slot 10)]⟩] [(_,_),(_,_),(_,_)] rfl ⟨zp rfl (oB rfl (ibind (f := int .i64) (Option.some.inj hv10))),zp rfl (LOp.drop [_] (oM rfl)),zz⟩ ?_
       exact pt_next _ (zi h).symm rfl
     ·intro u33 h hl34 hr35
      refine cond_some h (fun hg6_2 h => ?_) (fun hg6_2 h => ?_)
      ·refine zg hn [_,_,_,_,(14,vi v4),(15,vb (decide (v4 < 0))),(16,vb true),(17,.v undef),(18,.v undef),(19,vb true)] [0,1,2,3] [0,1,2,9] [zq [3] 4 14,zq [4] 5 15,zq [5] 6 16,zq [6] 7 17,zq [6] 8 18,zq [6] 9 19] [(_,_),(_,_),(_,_),(_,_)] rfl ⟨z1 rfl,z4 rfl rfl,z8 hg6_2 rfl,zf rfl,zf rfl,z3 true rfl,zz⟩ ?_
       exact hl34 _ (zi h).symm
      ·refine zg hn [_,_,_,_,(14,vi v4),(15,vb (decide (v4 < 0))),(16,vb false),(17,vi v4),(18,vb (decide (15 < v4))),(19,vb (decide (15 < v4)))] [0,1,2,3] [0,1,2,9] [zq [3] 4 14,zq [4] 5 15,zq [5] 6 16,zq [6,3] 7 17,zq [6,7] 8 18,zq [6,8] 9 19] [(_,_),(_,_),(_,_),(_,_)] rfl ⟨z1 rfl,z4 rfl rfl,z8 hg6_2 rfl,zr' rfl (oM rfl),zr' rfl (oB rfl rfl),z3 false rfl,zz⟩ ?_
       exact hl34 _ (zi h).symm
    ·have h := cond_f hb31 h
     refine ht_exit ?_
     refine pt_x_then ?_
     refine pt_x_then ?_
     refine pt_x_in ?_
     refine pt_pick [] (by kernel_rfl) (es' := []) rfl ?_
     exact hl26 _ (ho28 _ (zi h).symm).symm
theorem ok_canon_count (lengths : (List Int)) (r : (List Int)) (h : Sh.canon_count lengths = some r) : FnOK Tryd.prog 68 [.fl .shr 1 (map (int .i64) lengths)] (.v (.agg (map (int .i64) r).toArray)) := by
  unfold Sh.canon_count at h
  refine fn_ok func68 rfl (zl rfl) rfl rfl fun g0 hn hio => ?_
  refine zgg hn [_,(2,.arr 118 (map (int .i64) ((List.replicate 16 (0 : Int)))))] [0] [0,1] [zq [] 1 2] [(_,_),(_,_)] rfl ⟨zp rfl (op_alloc_arr _ za118),zz⟩ ?_
  refine zgg hn [_,_,(3,.arr 118 (map (int .i64) ((List.replicate 16 (0 : Int)))))] [0,1] [0,1,2] [zq [] 2 3] [(_,_),(_,_),(_,_)] rfl ⟨zp rfl (op_alloc_arr _ za118),zz⟩ ?_
  refine ht_seq ?_
  refine zgg hn [_,_,_,(6,fi lengths),(7,vi (lengths.length : Int)),(8,vi 0)] [0,1,2] [1,2,3,4,5] [zq [0] 3 6,zq [3] 4 7,zq [] 5 8] [(_,_),(_,_),(_,_),(_,_),(_,_)] rfl ⟨z1 rfl,zp rfl (op_len_fl _ _ _ underlying73 rfl (by decide) (map_len _)),z1 rfl,zz⟩ ?_
  refine ht_loopS h (fun ((s25,s26) : (List Int) × Int) => [(2,.arr 118 (map (int .i64) ((List.replicate 16 (0 : Int))))),(3,.arr 118 (map (int .i64) s25)),(6,fi lengths),(7,vi (lengths.length : Int)),(8,vi s26)]) (fun (s34 : (List Int)) => [(2,.arr 118 (map (int .i64) ((List.replicate 16 (0 : Int))))),(3,.arr 118 (map (int .i64) s34))]) ?_ ?_
  ·rintro s34 h
   refine pt_then (ht_seq ?_)
   obtain ⟨v48, hv48, h⟩ := zn h
   obtain ⟨v49, hv49, h⟩ := zn h
   obtain ⟨v50, hv50, h⟩ := zn h
   refine zg hn [_,_,(20,.v (.agg (map (int .i64) s34).toArray)),(2,.arr 118 (map (int .i64) s34))] [0,1] [3] [zq [1] 2 20,⟨[2],[0],[3],[]⟩] [(_,_)] rfl ⟨zp rfl (op_loadA_arr _ _ _ _ underlying118 rfl (sz118.trans (congrArg some (ln_len hv48))) rfl rfl),zp rfl (op_storeA_arr _ _ _ _ (sz118.trans (congrArg some (ln_len hv50))) rfl rfl (ln_ones (fun _ => rfl) _) ((ln_len (f := int .i64) hv49).symm.trans (ln_len (f := int .i64) hv50))),zz⟩ ?_
   refine pt_then (ht_ret ?_)
   obtain ⟨v51, hv51, h⟩ := zn h
   obtain rfl := zi h
   exact pt_ret hio rfl (.cellR _ _ _ _ underlying118 rfl (sz118.trans (congrArg some (ln_len hv51))) .nil) rfl rfl
  ·rintro u35 hl36 hr37 ⟨s25, s26⟩ rr40 h ho38
   refine zgg hn [_,_,_,_,_,(9,vb (decide (s26 < (lengths.length : Int))))] [0,1,2,3,4] [0,1,2,3,4,5] [zq [4,3] 5 9] [(_,_),(_,_),(_,_),(_,_),(_,_),(_,_)] rfl ⟨z4 rfl rfl,zz⟩ ?_
   refine ht_seq ?_
   refine ht_cond _ rfl (fun hb41 => ?_) (fun hb41 => ?_)
   ·have h := cond_t hb41 h
    refine ht_skip ?_
    refine pt_then (ht_seq ?_)
    refine ht_joinS h (fun (s43 : (List Int)) => [(2,.arr 118 (map (int .i64) ((List.replicate 16 (0 : Int))))),(3,.arr 118 (map (int .i64) s43)),(6,fi lengths),(7,vi (lengths.length : Int)),(8,vi s26)]) ?_ ?_
    ·rintro s43 h
     refine pt_then ?_
     obtain ⟨v15, hv15, h⟩ := zn h
     refine zg hn [_,_,_,_,_,(19,vi v15),(8,vi v15)] [0,1,2,3,4] [0,1,2,3,6] [zq [4] 5 19,⟨[5],[4],[6],[(.slot 8)]⟩] [(_,_),(_,_),(_,_),(_,_),(_,_)] rfl ⟨zp rfl (oB rfl (ibind (f := int .i64) (Option.some.inj hv15))),zp rfl (LOp.drop [_] (oM rfl)),zz⟩ ?_
     exact pt_next _ (zi h).symm rfl
    ·intro u44 h hl45 hr46
     refine ht_block ?_
     refine ht_seq ?_
     obtain ⟨v2, hv2, h⟩ := zn h
     obtain ⟨v3, hv3, h⟩ := zn h
     refine zg hn [_,_,_,_,_,_,(10,.eref (.slot 6) (v2 * 1)),(11,vi v3),(5,vi v3)] [0,1,2,3,4,5] [0,1,2,3,4,8] [zq [2,4] 6 10,zq [6,2] 7 11,zq [7] 8 5] [(_,_),(_,_),(_,_),(_,_),(_,_),(_,_)] rfl ⟨zp rfl (op_ix _ _ _ _ _ _ _ _ underlying73 sz3 (by decide) rfl rfl rfl (ix_ok hv2).1 (map_lt (ix_ok hv2).2) rfl),zp rfl (op_load_e _ _ _ _ _ _ underlying3 rfl rfl rfl (map_get hv3)),z2 rfl,zz⟩ ?_
     refine pt_then ?_
     refine zgg hn [_,_,_,_,_,_,(12,vi v3),(13,vb (decide (0 < v3)))] [0,1,2,3,4,5] [0,1,2,3,4,5,7] [zq [5] 6 12,zq [6] 7 13] [(_,_),(_,_),(_,_),(_,_),(_,_),(_,_),(_,_)] rfl ⟨z1 rfl,z4 rfl rfl,zz⟩ ?_
     refine ht_cond _ rfl (fun hb47 => ?_) (fun hb47 => ?_)
     ·have h := cond_t hb47 h
      obtain ⟨v5, hv5, h⟩ := zn h
      obtain ⟨v6, hv6, h⟩ := zn h
      obtain ⟨v7, hv7, h⟩ := zn h
      obtain ⟨v8, hv8, h⟩ := zn h
      obtain ⟨v9, hv9, h⟩ := zn h
      refine zg hn [_,_,_,_,_,_,_,(14,vi v3),(15,.ptr 3 v5),(16,vi v6),(17,vi v7),(18,.ptr 3 v8),(3,.arr 118 (map (int .i64) v9))] [0,1,2,3,4,5,6] [0,12,2,3,4] [zq [5] 7 14,zq [1,7] 8 15,zq [8,1] 9 16,zq [9] 10 17,zq [1,7] 11 18,⟨[11,10],[1],[12],[]⟩] [(_,_),(_,_),(_,_),(_,_),(_,_)] rfl ⟨z1 rfl,zp rfl (op_ix_arr _ _ _ _ 16 3 _ underlying118 sz3 rfl rfl (ix_ok hv5).1 (ix_ok hv5).2 (by decide)),zp rfl (op_load_arr _ _ _ _ _ _ underlying3 rfl rfl rfl (map_get1 hv6)),zp rfl (oB rfl (ibind (f := int .i64) (Option.some.inj hv7))),zp rfl (op_ix_arr _ _ _ _ 16 3 _ underlying118 sz3 rfl rfl (ix_ok hv8).1 (ix_ok hv8).2 (by decide)),zp rfl (op_store_arr _ _ _ _ _ _ sz3 rfl rfl rfl rfl (set_lt hv9) (set_eq (f := int .i64) hv9)),zz⟩ ?_
      refine pt_inb ?_
      exact hl45 _ (zi h).symm
     ·have h := cond_f hb47 h
      refine ht_skip ?_
      refine pt_inb ?_
      refine pt_pick [0,1,2,3,4] (by kernel_rfl) (es' := [(_,_),(_,_),(_,_),(_,_),(_,_)]) rfl ?_
      exact hl45 _ (zi h).symm
   ·have h := cond_f hb41 h
    refine ht_exit ?_
    refine pt_x_then ?_
    refine pt_x_then ?_
    refine pt_x_in ?_
    refine pt_pick [0,1] (by kernel_rfl) (es' := [(_,_),(_,_)]) rfl ?_
    exact hl36 _ (ho38 _ (zi h).symm).symm
theorem ok_canon_tally_weight (c : (List Int)) (r : Int) (h : Sh.canon_tally_weight c = some r) : FnOK Tryd.prog 91 [.v (.agg (map (int .i64) c).toArray)] (.v (.int .i64 r)) := by
  unfold Sh.canon_tally_weight at h
  refine fn_ok func91 rfl (zl rfl) rfl rfl fun g0 hn hio => ?_
  refine zgg hn [_,(1,.arr 118 (map (int .i64) c)),(2,vi 0)] [0] [1] [zq [0] 1 1,zq [] 2 2] [(_,_)] rfl ⟨zp rfl (op_box_arr _ _ _ rfl),z2 rfl,zz⟩ ?_
  refine zgg hn [_,(3,vi 0)] [0] [0,1] [zq [] 1 3] [(_,_),(_,_)] rfl ⟨z2 rfl,zz⟩ ?_
  refine ht_seq ?_
  refine ht_seq ?_
  obtain ⟨v1, hv1, h⟩ := zn h
  refine zg hn [_,_,(6,.v (.agg (map (int .i64) c).toArray)),(7,vi 0)] [0,1] [1,2,3] [zq [0] 2 6,zq [] 3 7] [(_,_),(_,_),(_,_)] rfl ⟨zp rfl (op_loadA_arr _ _ _ _ underlying118 rfl (sz118.trans (congrArg some (ln_len hv1))) rfl rfl),z1 rfl,zz⟩ ?_
  refine pt_then ?_
  refine ht_loopS h (fun ((s12,s13) : Int × Int) => [(3,vi s12),(6,.v (.agg (map (int .i64) c).toArray)),(7,vi s13)]) (fun (s15 : Int) => [(3,vi s15)]) ?_ ?_
  ·rintro s15 h
   refine pt_then ?_
   refine zgg hn [_,(18,vi s15),(2,vi s15)] [0] [2] [zq [0] 1 18,zq [1] 2 2] [(_,_)] rfl ⟨z1 rfl,z2 rfl,zz⟩ ?_
   refine ht_ret ?_
   obtain rfl := zi h
   exact pt_ret hio rfl (.tmp _ _ .nil) rfl rfl
  ·rintro u16 hl17 hr18 ⟨s12, s13⟩ rr21 h ho19
   refine zgg hn [_,_,_,(8,vb (decide (s13 < 16)))] [0,1,2] [0,1,2,3] [zq [2] 3 8] [(_,_),(_,_),(_,_),(_,_)] rfl ⟨z4 rfl rfl,zz⟩ ?_
   refine ht_seq ?_
   refine ht_cond _ rfl (fun hb22 => ?_) (fun hb22 => ?_)
   ·have h := cond_t hb22 h
    refine ht_skip ?_
    refine pt_then (ht_seq ?_)
    refine ht_block ?_
    refine ht_seq ?_
    obtain ⟨v3, hv3, h⟩ := zn h
    obtain ⟨v4, hv4, h⟩ := zn h
    refine zg hn [_,_,_,_,(9,vi s13),(10,vi v4),(4,vi s13),(5,vi v4)] [0,1,2,3] [0,1,2,6,7] [zq [2] 4 9,zq [1,2] 5 10,zq [4] 6 4,zq [5] 7 5] [(_,_),(_,_),(_,_),(_,_),(_,_)] rfl ⟨z1 rfl,zp rfl (op_index_arr _ _ _ _ 16 v3 underlying118 sz3 rfl (congrArg (fun j => AV.v (int .i64 j)) (ix_ok hv3).1) (ix_ok hv3).2 (map_get1 hv4) ⟨_, underlying3, rfl⟩),z2 rfl,z2 rfl,zz⟩ ?_
    refine pt_then ?_
    obtain ⟨v5, hv5, h⟩ := zn h
    obtain ⟨v6, hv6, h⟩ := zn h
    obtain ⟨v7, hv7, h⟩ := zn h
    refine zg hn [_,_,_,_,_,(11,vi s12),(12,vi v4),(13,vi s13),(14,vi v5),(15,vi v6),(16,vi v7),(3,vi v7)] [0,1,2,3,4] [1,2,11] [zq [0] 5 11,zq [4] 6 12,zq [3] 7 13,zq [7] 8 14,zq [6,8] 9 15,zq [5,9] 10 16,⟨[10],[0],[11],[(.slot 3)]⟩] [(_,_),(_,_),(_,_)] rfl ⟨z1 rfl,z1 rfl,z1 rfl,zp rfl (oB rfl (ibind (f := int .i64) (Option.some.inj hv5))),zp rfl (oB rfl (shl_ok hv6)),zp rfl (oB rfl (ibind (f := int .i64) (Option.some.inj hv7))),zp rfl (LOp.drop [_] (op_assign _ _ _ _ rfl rfl)),zz⟩ ?_
    refine pt_inb ?_
    refine pt_then ?_
    obtain ⟨v8, hv8, h⟩ := zn h
    refine zg hn [_,_,_,(17,vi v8),(7,vi v8)] [0,1,2] [0,2,4] [zq [1] 3 17,⟨[3],[1],[4],[(.slot 7)]⟩] [(_,_),(_,_),(_,_)] rfl ⟨zp rfl (oB rfl (ibind (f := int .i64) (Option.some.inj hv8))),zp rfl (LOp.drop [_] (oM rfl)),zz⟩ ?_
    refine pt_pick [1,0,2] (by kernel_rfl) (es' := [(_,_),(_,_),(_,_)]) rfl ?_
    exact pt_next _ (zi h).symm rfl
   ·have h := cond_f hb22 h
    refine ht_exit ?_
    refine pt_x_then ?_
    refine pt_x_then ?_
    refine pt_x_in ?_
    refine pt_pick [0] (by kernel_rfl) (es' := [(_,_)]) rfl ?_
    exact hl17 _ (ho19 _ (zi h).symm).symm
theorem ok_canon_forms (c : (List Int)) (r : Bool) (h : Sh.canon_forms c = some r) : FnOK Tryd.prog 84 [.v (.agg (map (int .i64) c).toArray)] (.v (.bool r)) := by
  unfold Sh.canon_forms at h
  refine fn_ok func84 rfl (zl rfl) rfl rfl fun g0 hn hio => ?_
  refine zgg hn [_,(1,.arr 118 (map (int .i64) c)),(2,vb false)] [0] [1] [zq [0] 1 1,zq [] 2 2] [(_,_)] rfl ⟨zp rfl (op_box_arr _ _ _ rfl),z2 rfl,zz⟩ ?_
  refine ht_seq ?_
  obtain ⟨v1, hv1, h⟩ := zn h
  obtain ⟨v2, hv2, h⟩ := zn h
  refine zg hn [_,(4,.v (.agg (map (int .i64) (([(0 : Int),1,(0 : Int),(0 : Int),(0 : Int),(0 : Int),(0 : Int),(0 : Int),(0 : Int),(0 : Int),(0 : Int),(0 : Int),(0 : Int),(0 : Int),(0 : Int),(0 : Int)] : List Int))).toArray)),(3,.arr 118 (map (int .i64) ((List.replicate 16 (0 : Int))))),(3,.arr 118 (map (int .i64) (([(0 : Int),1,(0 : Int),(0 : Int),(0 : Int),(0 : Int),(0 : Int),(0 : Int),(0 : Int),(0 : Int),(0 : Int),(0 : Int),(0 : Int),(0 : Int),(0 : Int),(0 : Int)] : List Int))))] [0] [0,3] [zq [] 1 4,zq [] 2 3,⟨[1],[2],[3],[]⟩] [(_,_),(_,_)] rfl ⟨zp rfl (op_build_arr _ _ (.agg #[.int .i64 0, .int .i64 0, .int .i64 0, .int .i64 0, .int .i64 0, .int .i64 0, .int .i64 0, .int .i64 0, .int .i64 0, .int .i64 0, .int .i64 0, .int .i64 0, .int .i64 0, .int .i64 0, .int .i64 0, .int .i64 0]) (map (int .i64) (([(0 : Int), 1, (0 : Int), (0 : Int), (0 : Int), (0 : Int), (0 : Int), (0 : Int), (0 : Int), (0 : Int), (0 : Int), (0 : Int), (0 : Int), (0 : Int), (0 : Int), (0 : Int)] : List Int))) [(1, .int .i64 1)] underlying118 sz3 zr118 (fun _ V w o a hv hes => by simp only [List.map_toArray, List.map_cons, List.map_nil]; try rfl) (litfill (by simp [Instr.fill, Value.cells]; rfl) (by simp))),zp rfl (op_alloc_arr _ za118),zp rfl (op_storeA_arr _ _ _ _ (sz118.trans (congrArg some (ln_len hv2))) rfl rfl (ln_ones (fun _ => rfl) _) ((ln_len (f := int .i64) hv1).symm.trans (ln_len (f := int .i64) hv2))),zz⟩ ?_
  refine pt_then (ht_seq ?_)
  refine ht_joinS h (fun (s12 : Bool) => [(2,vb s12)]) ?_ ?_
  ·rintro s12 h
   refine pt_then (ht_ret ?_)
   obtain rfl := zi h
   exact pt_ret hio rfl (.tmp _ _ .nil) rfl rfl
  ·intro u13 h hl14 hr15
   obtain ⟨v3, hv3, h⟩ := zn h
   obtain ⟨v4, hv4, h⟩ := zn h
   obtain ⟨v5, hv5, h⟩ := zn h
   refine cond_some h (fun hg2_3 h => ?_) (fun hg2_3 h => ?_)
   ·refine zg hn (_::_::(5,.v (.agg (map (int .i64) c).toArray))::(6,.v (.agg (map (int .i64) (([(0 : Int),(0 : Int),(0 : Int),(0 : Int),(0 : Int),(0 : Int),(0 : Int),(0 : Int),(0 : Int),(0 : Int),(0 : Int),(0 : Int),(0 : Int),(0 : Int),(0 : Int),(0 : Int)] : List Int))).toArray))::(7,vb (c == (([(0 : Int),(0 : Int),(0 : Int),(0 : Int),(0 : Int),(0 : Int),(0 : Int),(0 : Int),(0 : Int),(0 : Int),(0 : Int),(0 : Int),(0 : Int),(0 : Int),(0 : Int),(0 : Int)] : List Int))))::(8,vb true)::(9,.v undef)::(10,.v undef)::(11,.v undef)::(12,vb true)::(13,vb true)::(14,.v undef)::(15,.v undef)::(16,.v undef)::(17,vb true)::(2,vb true)::[]) [0,1] [15] [zq [0] 2 5,zq [] 3 6,zq [2,3] 4 7,zq [4] 5 8,zq [5] 6 9,zq [5] 7 10,zq [5] 8 11,zq [5] 9 12,zq [9] 10 13,zq [10] 11 14,zq [10] 12 15,zq [10] 13 16,zq [10] 14 17,zq [14] 15 2] [(_,_)] rfl ⟨zp rfl (op_loadA_arr _ _ _ _ underlying118 rfl (sz118.trans (congrArg some (ln_len hv3))) rfl rfl),zp rfl (op_build_arr _ _ (.agg #[.int .i64 0, .int .i64 0, .int .i64 0, .int .i64 0, .int .i64 0, .int .i64 0, .int .i64 0, .int .i64 0, .int .i64 0, .int .i64 0, .int .i64 0, .int .i64 0, .int .i64 0, .int .i64 0, .int .i64 0, .int .i64 0]) (map (int .i64) (([(0 : Int), (0 : Int), (0 : Int), (0 : Int), (0 : Int), (0 : Int), (0 : Int), (0 : Int), (0 : Int), (0 : Int), (0 : Int), (0 : Int), (0 : Int), (0 : Int), (0 : Int), (0 : Int)] : List Int))) [] underlying118 sz3 zr118 (fun _ V w o a hv hes => by simp only [List.map_toArray, List.map_cons, List.map_nil]; try rfl) (litfill (by simp [Instr.fill, Value.cells]; rfl) (by simp))),zp rfl (op_eq_arr _ _ _ underlying118 underlying3 (i := Tryd.t3) (by kernel_rfl) (by kernel_rfl) (by kernel_rfl) rfl rfl (ln_n hv4) (ln_n hv5) rfl),z8 hg2_3 rfl,zf rfl,zf rfl,zf rfl,z3 true rfl,z1 rfl,zf rfl,zf rfl,zf rfl,z3 true rfl,z2 rfl,zz⟩ ?_
    exact hl14 _ (zi h).symm
   ·obtain ⟨v6, hv6, h⟩ := zn h
    obtain ⟨v7, hv7, h⟩ := zn h
    obtain ⟨v8, hv8, h⟩ := zn h
    obtain ⟨v9, hv9, h⟩ := zn h
    refine cond_some h (fun hg2_8 h => ?_) (fun hg2_8 h => ?_)
    ·refine zg hn (_::_::(5,.v (.agg (map (int .i64) c).toArray))::(6,.v (.agg (map (int .i64) (([(0 : Int),(0 : Int),(0 : Int),(0 : Int),(0 : Int),(0 : Int),(0 : Int),(0 : Int),(0 : Int),(0 : Int),(0 : Int),(0 : Int),(0 : Int),(0 : Int),(0 : Int),(0 : Int)] : List Int))).toArray))::(7,vb (c == (([(0 : Int),(0 : Int),(0 : Int),(0 : Int),(0 : Int),(0 : Int),(0 : Int),(0 : Int),(0 : Int),(0 : Int),(0 : Int),(0 : Int),(0 : Int),(0 : Int),(0 : Int),(0 : Int)] : List Int))))::(8,vb false)::(9,.v (.agg (map (int .i64) c).toArray))::(10,.v (.agg (map (int .i64) (([(0 : Int),1,(0 : Int),(0 : Int),(0 : Int),(0 : Int),(0 : Int),(0 : Int),(0 : Int),(0 : Int),(0 : Int),(0 : Int),(0 : Int),(0 : Int),(0 : Int),(0 : Int)] : List Int))).toArray))::(11,vb (c == (([(0 : Int),1,(0 : Int),(0 : Int),(0 : Int),(0 : Int),(0 : Int),(0 : Int),(0 : Int),(0 : Int),(0 : Int),(0 : Int),(0 : Int),(0 : Int),(0 : Int),(0 : Int)] : List Int))))::(12,vb (c == (([(0 : Int),1,(0 : Int),(0 : Int),(0 : Int),(0 : Int),(0 : Int),(0 : Int),(0 : Int),(0 : Int),(0 : Int),(0 : Int),(0 : Int),(0 : Int),(0 : Int),(0 : Int)] : List Int))))::(13,vb true)::(14,.v undef)::(15,.v undef)::(16,.v undef)::(17,vb true)::(2,vb true)::[]) [0,1] [15] [zq [0] 2 5,zq [] 3 6,zq [2,3] 4 7,zq [4] 5 8,zq [5,0] 6 9,zq [5,1] 7 10,zq [5,6,7] 8 11,zq [5,8] 9 12,zq [9] 10 13,zq [10] 11 14,zq [10] 12 15,zq [10] 13 16,zq [10] 14 17,zq [14] 15 2] [(_,_)] rfl ⟨zp rfl (op_loadA_arr _ _ _ _ underlying118 rfl (sz118.trans (congrArg some (ln_len hv3))) rfl rfl),zp rfl (op_build_arr _ _ (.agg #[.int .i64 0, .int .i64 0, .int .i64 0, .int .i64 0, .int .i64 0, .int .i64 0, .int .i64 0, .int .i64 0, .int .i64 0, .int .i64 0, .int .i64 0, .int .i64 0, .int .i64 0, .int .i64 0, .int .i64 0, .int .i64 0]) (map (int .i64) (([(0 : Int), (0 : Int), (0 : Int), (0 : Int), (0 : Int), (0 : Int), (0 : Int), (0 : Int), (0 : Int), (0 : Int), (0 : Int), (0 : Int), (0 : Int), (0 : Int), (0 : Int), (0 : Int)] : List Int))) [] underlying118 sz3 zr118 (fun _ V w o a hv hes => by simp only [List.map_toArray, List.map_cons, List.map_nil]; try rfl) (litfill (by simp [Instr.fill, Value.cells]; rfl) (by simp))),zp rfl (op_eq_arr _ _ _ underlying118 underlying3 (i := Tryd.t3) (by kernel_rfl) (by kernel_rfl) (by kernel_rfl) rfl rfl (ln_n hv4) (ln_n hv5) rfl),z8 hg2_3 rfl,zr' rfl (op_loadA_arr _ _ _ _ underlying118 rfl (sz118.trans (congrArg some (ln_len hv6))) rfl rfl),zr' rfl (op_loadA_arr _ _ _ _ underlying118 rfl (sz118.trans (congrArg some (ln_len hv7))) rfl rfl),zr' rfl (op_eq_arr _ _ _ underlying118 underlying3 (i := Tryd.t3) (by kernel_rfl) (by kernel_rfl) (by kernel_rfl) rfl rfl (ln_n hv8) (ln_n hv9) rfl),z3 false rfl,z8 hg2_8 rfl,zf rfl,zf rfl,zf rfl,z3 true rfl,z2 rfl,zz⟩ ?_
     exact hl14 _ (zi h).symm
    ·obtain ⟨v10, hv10, h⟩ := zn h
     obtain ⟨v11, hv11, h⟩ := zn h
     refine zg hn (_::_::(5,.v (.agg (map (int .i64) c).toArray))::(6,.v (.agg (map (int .i64) (([(0 : Int),(0 : Int),(0 : Int),(0 : Int),(0 : Int),(0 : Int),(0 : Int),(0 : Int),(0 : Int),(0 : Int),(0 : Int),(0 : Int),(0 : Int),(0 : Int),(0 : Int),(0 : Int)] : List Int))).toArray))::(7,vb (c == (([(0 : Int),(0 : Int),(0 : Int),(0 : Int),(0 : Int),(0 : Int),(0 : Int),(0 : Int),(0 : Int),(0 : Int),(0 : Int),(0 : Int),(0 : Int),(0 : Int),(0 : Int),(0 : Int)] : List Int))))::(8,vb false)::(9,.v (.agg (map (int .i64) c).toArray))::(10,.v (.agg (map (int .i64) (([(0 : Int),1,(0 : Int),(0 : Int),(0 : Int),(0 : Int),(0 : Int),(0 : Int),(0 : Int),(0 : Int),(0 : Int),(0 : Int),(0 : Int),(0 : Int),(0 : Int),(0 : Int)] : List Int))).toArray))::(11,vb (c == (([(0 : Int),1,(0 : Int),(0 : Int),(0 : Int),(0 : Int),(0 : Int),(0 : Int),(0 : Int),(0 : Int),(0 : Int),(0 : Int),(0 : Int),(0 : Int),(0 : Int),(0 : Int)] : List Int))))::(12,vb (c == (([(0 : Int),1,(0 : Int),(0 : Int),(0 : Int),(0 : Int),(0 : Int),(0 : Int),(0 : Int),(0 : Int),(0 : Int),(0 : Int),(0 : Int),(0 : Int),(0 : Int),(0 : Int)] : List Int))))::(13,vb false)::(14,.v (.agg (map (int .i64) c).toArray))::(15,vi v11)::(16,vb (v11 == 32768))::(17,vb (v11 == 32768))::(2,vb (v11 == 32768))::[]) [0,1] [15] [zq [0] 2 5,zq [] 3 6,zq [2,3] 4 7,zq [4] 5 8,zq [5,0] 6 9,zq [5,1] 7 10,zq [5,6,7] 8 11,zq [5,8] 9 12,zq [9] 10 13,zq [10,0] 11 14,zq [10,11] 12 15,zq [10,12] 13 16,zq [10,13] 14 17,zq [14] 15 2] [(_,_)] rfl ⟨zp rfl (op_loadA_arr _ _ _ _ underlying118 rfl (sz118.trans (congrArg some (ln_len hv3))) rfl rfl),zp rfl (op_build_arr _ _ (.agg #[.int .i64 0, .int .i64 0, .int .i64 0, .int .i64 0, .int .i64 0, .int .i64 0, .int .i64 0, .int .i64 0, .int .i64 0, .int .i64 0, .int .i64 0, .int .i64 0, .int .i64 0, .int .i64 0, .int .i64 0, .int .i64 0]) (map (int .i64) (([(0 : Int), (0 : Int), (0 : Int), (0 : Int), (0 : Int), (0 : Int), (0 : Int), (0 : Int), (0 : Int), (0 : Int), (0 : Int), (0 : Int), (0 : Int), (0 : Int), (0 : Int), (0 : Int)] : List Int))) [] underlying118 sz3 zr118 (fun _ V w o a hv hes => by simp only [List.map_toArray, List.map_cons, List.map_nil]; try rfl) (litfill (by simp [Instr.fill, Value.cells]; rfl) (by simp))),zp rfl (op_eq_arr _ _ _ underlying118 underlying3 (i := Tryd.t3) (by kernel_rfl) (by kernel_rfl) (by kernel_rfl) rfl rfl (ln_n hv4) (ln_n hv5) rfl),z8 hg2_3 rfl,zr' rfl (op_loadA_arr _ _ _ _ underlying118 rfl (sz118.trans (congrArg some (ln_len hv6))) rfl rfl),zr' rfl (op_loadA_arr _ _ _ _ underlying118 rfl (sz118.trans (congrArg some (ln_len hv7))) rfl rfl),zr' rfl (op_eq_arr _ _ _ underlying118 underlying3 (i := Tryd.t3) (by kernel_rfl) (by kernel_rfl) (by kernel_rfl) rfl rfl (ln_n hv8) (ln_n hv9) rfl),z3 false rfl,z8 hg2_8 rfl,zr' rfl (op_loadA_arr _ _ _ _ underlying118 rfl (sz118.trans (congrArg some (ln_len hv10))) rfl rfl),zr' rfl (op_call _ _ 91 _ _ rfl call91 rfl (ok_canon_tally_weight c _ hv11) rfl rfl),zr' rfl (oB rfl rfl),z3 false rfl,z2 rfl,zz⟩ ?_
     exact hl14 _ (zi h).symm
theorem ok_canon_Check (lengths : (List Int)) (r : Int) (h : Sh.canon_Check lengths = some r) : FnOK Tryd.prog 66 [.fl .shr 1 (map (int .i64) lengths)] (.v (.int .i64 r)) := by
  unfold Sh.canon_Check at h
  refine fn_ok func66 rfl (zl rfl) rfl rfl fun g0 hn hio => ?_
  refine zgg hn [_,(2,vi 0)] [0] [0] [zq [] 1 2] [(_,_)] rfl ⟨z2 rfl,zz⟩ ?_
  refine ht_seq ?_
  refine ht_seq ?_
  obtain ⟨v1, hv1, h⟩ := zn h
  refine zg hn [_,(3,fi lengths),(4,vb v1),(5,vb (!v1))] [0] [0,3] [zq [0] 1 3,zq [1] 2 4,zq [2] 3 5] [(_,_),(_,_)] rfl ⟨z1 rfl,zp rfl (op_call _ _ 83 _ _ rfl call83 rfl (ok_canon_valid lengths _ hv1) rfl rfl),zp rfl (op_un _ _ _ _ rfl rfl),zz⟩ ?_
  refine pt_then ?_
  refine ht_cond _ rfl (fun hb2 => ?_) (fun hb2 => ?_)
  ·have h := cond_t hb2 h
   refine zgg hn [_,_,(2,vi 1)] [0,1] [2] [zq [] 2 2] [(_,_)] rfl ⟨z2 rfl,zz⟩ ?_
   refine ht_ret ?_
   refine pt_r_then ?_
   obtain rfl := zi h
   exact pt_ret hio rfl (.tmp _ _ .nil) rfl rfl
  ·have h := cond_f hb2 h
   refine ht_skip ?_
   refine pt_then (ht_seq ?_)
   refine ht_seq ?_
   obtain ⟨v3, hv3, h⟩ := zn h
   obtain ⟨v4, hv4, h⟩ := zn h
   refine zg hn [_,_,(6,fi lengths),(7,.v (.agg (map (int .i64) v3).toArray)),(8,vb v4),(9,vb (!v4))] [0,1] [5] [zq [0] 2 6,zq [2] 3 7,zq [3] 4 8,zq [4] 5 9] [(_,_)] rfl ⟨z1 rfl,zp rfl (op_call _ _ 68 _ _ rfl call68 rfl (ok_canon_count lengths _ hv3) rfl rfl),zp rfl (op_call _ _ 84 _ _ rfl call84 rfl (ok_canon_forms v3 _ hv4) rfl rfl),zp rfl (op_un _ _ _ _ rfl rfl),zz⟩ ?_
   refine pt_then ?_
   refine ht_cond _ rfl (fun hb5 => ?_) (fun hb5 => ?_)
   ·have h := cond_t hb5 h
    refine zgg hn [_,(2,vi 4)] [0] [1] [zq [] 1 2] [(_,_)] rfl ⟨z2 rfl,zz⟩ ?_
    refine ht_ret ?_
    refine pt_r_then ?_
    obtain rfl := zi h
    exact pt_ret hio rfl (.tmp _ _ .nil) rfl rfl
   ·have h := cond_f hb5 h
    refine ht_skip ?_
    refine pt_then ?_
    refine zgg hn [_,(2,vi 0)] [0] [1] [zq [] 1 2] [(_,_)] rfl ⟨z2 rfl,zz⟩ ?_
    refine ht_ret ?_
    obtain rfl := zi h
    exact pt_ret hio rfl (.tmp _ _ .nil) rfl rfl
theorem ok_canon_firsts (c : (List Int)) (r : (List Int)) (h : Sh.canon_firsts c = some r) : FnOK Tryd.prog 67 [.v (.agg (map (int .i64) c).toArray)] (.v (.agg (map (int .i64) r).toArray)) := by
  unfold Sh.canon_firsts at h
  refine fn_ok func67 rfl (zl rfl) rfl rfl fun g0 hn hio => ?_
  refine zgg hn [_,(1,.arr 118 (map (int .i64) c)),(2,.arr 118 (map (int .i64) ((List.replicate 16 (0 : Int)))))] [0] [1,2] [zq [0] 1 1,zq [] 2 2] [(_,_),(_,_)] rfl ⟨zp rfl (op_box_arr _ _ _ rfl),zp rfl (op_alloc_arr _ za118),zz⟩ ?_
  refine zgg hn [_,_,(3,.arr 118 (map (int .i64) ((List.replicate 16 (0 : Int)))))] [0,1] [0,1,2] [zq [] 2 3] [(_,_),(_,_),(_,_)] rfl ⟨zp rfl (op_alloc_arr _ za118),zz⟩ ?_
  refine ht_seq ?_
  refine zgg hn [_,_,_,(4,vi 2)] [0,1,2] [0,1,2,3] [zq [] 3 4] [(_,_),(_,_),(_,_),(_,_)] rfl ⟨z2 rfl,zz⟩ ?_
  refine ht_loopS h (fun ((s16,s17) : (List Int) × Int) => [(1,.arr 118 (map (int .i64) c)),(2,.arr 118 (map (int .i64) ((List.replicate 16 (0 : Int))))),(3,.arr 118 (map (int .i64) s16)),(4,vi s17)]) (fun (s19 : (List Int)) => [(2,.arr 118 (map (int .i64) ((List.replicate 16 (0 : Int))))),(3,.arr 118 (map (int .i64) s19))]) ?_ ?_
  ·rintro s19 h
   refine pt_then (ht_seq ?_)
   obtain ⟨v27, hv27, h⟩ := zn h
   obtain ⟨v28, hv28, h⟩ := zn h
   obtain ⟨v29, hv29, h⟩ := zn h
   refine zg hn [_,_,(21,.v (.agg (map (int .i64) s19).toArray)),(2,.arr 118 (map (int .i64) s19))] [0,1] [3] [zq [1] 2 21,⟨[2],[0],[3],[]⟩] [(_,_)] rfl ⟨zp rfl (op_loadA_arr _ _ _ _ underlying118 rfl (sz118.trans (congrArg some (ln_len hv27))) rfl rfl),zp rfl (op_storeA_arr _ _ _ _ (sz118.trans (congrArg some (ln_len hv29))) rfl rfl (ln_ones (fun _ => rfl) _) ((ln_len (f := int .i64) hv28).symm.trans (ln_len (f := int .i64) hv29))),zz⟩ ?_
   refine pt_then (ht_ret ?_)
   obtain ⟨v30, hv30, h⟩ := zn h
   obtain rfl := zi h
   exact pt_ret hio rfl (.cellR _ _ _ _ underlying118 rfl (sz118.trans (congrArg some (ln_len hv30))) .nil) rfl rfl
  ·rintro u20 hl21 hr22 ⟨s16, s17⟩ rr25 h ho23
   refine ht_seq ?_
   refine zgg hn [_,_,_,_,(5,vi s17),(6,vb (decide (s17 ≤ 15)))] [0,1,2,3] [0,1,2,3,5] [zq [3] 4 5,zq [4] 5 6] [(_,_),(_,_),(_,_),(_,_),(_,_)] rfl ⟨z1 rfl,z4 rfl rfl,zz⟩ ?_
   refine ht_cond _ rfl (fun hb26 => ?_) (fun hb26 => ?_)
   ·have h := cond_t hb26 h
    refine ht_skip ?_
    refine pt_then (ht_seq ?_)
    refine ht_block ?_
    obtain ⟨v2, hv2, h⟩ := zn h
    obtain ⟨v3, hv3, h⟩ := zn h
    obtain ⟨v4, hv4, h⟩ := zn h
    obtain ⟨v5, hv5, h⟩ := zn h
    obtain ⟨v6, hv6, h⟩ := zn h
    obtain ⟨v7, hv7, h⟩ := zn h
    obtain ⟨v8, hv8, h⟩ := zn h
    obtain ⟨v9, hv9, h⟩ := zn h
    obtain ⟨v10, hv10, h⟩ := zn h
    obtain ⟨v11, hv11, h⟩ := zn h
    refine ht_anyR (by kernel_rfl) hn (El := (_ :: _ :: _ :: _ :: _ :: (9,vi s17) :: (10,vi s17) :: (11,vi v2) :: (12,.ptr 3 v3) :: (13,vi v4) :: (14,vi s17) :: (15,vi v5) :: (16,.ptr 1 v6) :: (17,vi v7) :: (18,vi v8) :: (19,vi v9) :: (20,.ptr 3 v10) :: (3,.arr 118 (map (int .i64) v11)) :: [])) (init := [0,1,2,3,4]) (fin := [0,1,17,3]) (sps := [zq [3] 5 9,zq [3] 6 10,zq [6] 7 11,zq [2,7] 8 12,zq [8,2] 9 13,zq [3] 10 14,zq [10] 11 15,zq [0,11] 12 16,zq [12,0] 13 17,zq [9,13] 14 18,zq [14] 15 19,zq [2,5] 16 20,⟨[16,15],[2],[17],[]⟩]) (es' := [(_,_),(_,_),(3,.arr 118 (map (int .i64) v11)),(_,_)]) (by kernel_rfl) rfl rfl ⟨z1 rfl,z1 rfl,zp rfl (oB rfl (ibind (f := int .i64) (Option.some.inj hv2))),zp rfl (op_ix_arr _ _ _ _ 16 3 _ underlying118 sz3 rfl rfl (ix_ok hv3).1 (ix_ok hv3).2 (by decide)),zp rfl (op_load_arr _ _ _ _ _ _ underlying3 rfl rfl rfl (map_get1 hv4)),z1 rfl,zp rfl (oB rfl (ibind (f := int .i64) (Option.some.inj hv5))),zp rfl (op_ix_arr _ _ _ _ 16 1 _ underlying118 sz3 rfl rfl (ix_ok hv6).1 (ix_ok hv6).2 (by decide)),zp rfl (op_load_arr _ _ _ _ _ _ underlying3 rfl rfl rfl (map_get1 hv7)),zp rfl (oB rfl (ibind (f := int .i64) (Option.some.inj hv8))),zp rfl (oB rfl (ibind (f := int .i64) (Option.some.inj hv9))),zp rfl (op_ix_arr _ _ _ _ 16 3 _ underlying118 sz3 rfl rfl (ix_ok hv10).1 (ix_ok hv10).2 (by decide)),zp rfl (op_store_arr _ _ _ _ _ _ sz3 rfl rfl rfl rfl (set_lt hv11) (set_eq (f := int .i64) hv11)),zz⟩ ?_
    refine pt_inb ?_
    refine pt_then ?_
    obtain ⟨v12, hv12, h⟩ := zn h
    refine zg hn [_,_,_,_,(7,vi s17),(8,vi v12),(4,vi v12)] [0,1,2,3] [0,1,2,6] [zq [3] 4 7,zq [4] 5 8,⟨[5],[3],[6],[(.slot 4)]⟩] [(_,_),(_,_),(_,_),(_,_)] rfl ⟨z1 rfl,zp rfl (oB rfl (ibind (f := int .i64) (Option.some.inj hv12))),zp rfl (LOp.drop [_] (op_assign _ _ _ _ rfl rfl)),zz⟩ ?_
    exact pt_next _ (zi h).symm rfl
   ·have h := cond_f hb26 h
    refine ht_exit ?_
    refine pt_x_then ?_
    refine pt_x_then ?_
    refine pt_x_in ?_
    refine pt_pick [1,2] (by kernel_rfl) (es' := [(_,_),(_,_)]) rfl ?_
    exact hl21 _ (ho23 _ (zi h).symm).symm
theorem ok_canon_nth (lengths : (List Int)) (n : Int) (k : Int) (r : Int) (h : Sh.canon_nth lengths n k = some r) : FnOK Tryd.prog 94 [.fl .shr 1 (map (int .i64) lengths), .v (.int .i64 n), .v (.int .i64 k)] (.v (.int .i64 r)) := by
  unfold Sh.canon_nth at h
  refine fn_ok func94 rfl (zl rfl) rfl rfl fun g0 hn hio => ?_
  refine zgg hn [_,_,_,(6,vi 0)] [0,1,2] [0,1,2] [zq [] 3 6] [(_,_),(_,_),(_,_)] rfl ⟨z2 rfl,zz⟩ ?_
  refine ht_seq ?_
  refine zgg hn [_,_,_,(9,fi lengths),(10,vi (lengths.length : Int)),(11,vi 0)] [0,1,2] [1,2,3,4,5] [zq [0] 3 9,zq [3] 4 10,zq [] 5 11] [(_,_),(_,_),(_,_),(_,_),(_,_)] rfl ⟨z1 rfl,zp rfl (op_len_fl _ _ _ underlying73 rfl (by decide) (map_len _)),z1 rfl,zz⟩ ?_
  refine ht_loopS h (fun ((s25,s26) : Int × Int) => [(1,vi n),(2,vi s25),(9,fi lengths),(10,vi (lengths.length : Int)),(11,vi s26)]) (fun (() : Unit) => []) ?_ ?_
  ·rintro ⟨⟩ h
   refine pt_then ?_
   refine zgg hn [(6,vi 0)] [] [0] [zq [] 0 6] [(_,_)] rfl ⟨z2 rfl,zz⟩ ?_
   refine ht_ret ?_
   obtain rfl := zi h
   exact pt_ret hio rfl (.tmp _ _ .nil) rfl rfl
  ·rintro u36 hl37 hr38 ⟨s25, s26⟩ rr41 h ho39
   refine zgg hn [_,_,_,_,_,(12,vb (decide (s26 < (lengths.length : Int))))] [0,1,2,3,4] [0,1,2,3,4,5] [zq [4,3] 5 12] [(_,_),(_,_),(_,_),(_,_),(_,_),(_,_)] rfl ⟨z4 rfl rfl,zz⟩ ?_
   refine ht_seq ?_
   refine ht_cond _ rfl (fun hb42 => ?_) (fun hb42 => ?_)
   ·have h := cond_t hb42 h
    refine ht_skip ?_
    refine pt_then (ht_seq ?_)
    refine ht_joinS h (fun (s45 : Int) => [(1,vi n),(2,vi s45),(9,fi lengths),(10,vi (lengths.length : Int)),(11,vi s26)]) ?_ ?_
    ·rintro s45 h
     refine pt_then ?_
     obtain ⟨v13, hv13, h⟩ := zn h
     refine zg hn [_,_,_,_,_,(24,vi v13),(11,vi v13)] [0,1,2,3,4] [0,1,2,3,6] [zq [4] 5 24,⟨[5],[4],[6],[(.slot 11)]⟩] [(_,_),(_,_),(_,_),(_,_),(_,_)] rfl ⟨zp rfl (oB rfl (ibind (f := int .i64) (Option.some.inj hv13))),zp rfl (LOp.drop [_] (oM rfl)),zz⟩ ?_
     exact pt_next _ (zi h).symm rfl
    ·intro u46 h hl47 hr48
     refine ht_block ?_
     refine ht_seq ?_
     obtain ⟨v2, hv2, h⟩ := zn h
     obtain ⟨v3, hv3, h⟩ := zn h
     refine zg hn [_,_,_,_,_,_,(13,vi s26),(14,.eref (.slot 9) (v2 * 1)),(15,vi v3),(7,vi s26),(8,vi v3)] [0,1,2,3,4,5] [0,1,2,3,4,9,10] [zq [4] 6 13,zq [2,4] 7 14,zq [7,2] 8 15,zq [6] 9 7,zq [8] 10 8] [(_,_),(_,_),(_,_),(_,_),(_,_),(_,_),(_,_)] rfl ⟨z1 rfl,zp rfl (op_ix _ _ _ _ _ _ _ _ underlying73 sz3 (by decide) rfl rfl rfl (ix_ok hv2).1 (map_lt (ix_ok hv2).2) rfl),zp rfl (op_load_e _ _ _ _ _ _ underlying3 rfl rfl rfl (map_get hv3)),z2 rfl,z2 rfl,zz⟩ ?_
     refine pt_then (ht_seq ?_)
     refine zgg hn [_,_,_,_,_,_,_,(16,vi v3),(17,vi n),(18,vb (v3 != n))] [0,1,2,3,4,5,6] [0,1,2,3,4,5,9] [zq [6] 7 16,zq [0] 8 17,zq [7,8] 9 18] [(_,_),(_,_),(_,_),(_,_),(_,_),(_,_),(_,_)] rfl ⟨z1 rfl,z1 rfl,z4 rfl rfl,zz⟩ ?_
     refine ht_cond _ rfl (fun hb49 => ?_) (fun hb49 => ?_)
     ·have h := cond_t hb49 h
      refine ht_exit ?_
      refine pt_x_then ?_
      refine pt_x_in ?_
      refine pt_pick [0,1,2,3,4] (by kernel_rfl) (es' := [(_,_),(_,_),(_,_),(_,_),(_,_)]) rfl ?_
      exact hl47 _ (zi h).symm
     ·have h := cond_f hb49 h
      refine ht_skip ?_
      refine pt_then (ht_seq ?_)
      refine zgg hn [_,_,_,_,_,_,_,(19,vi s25),(20,vb (s25 == 0))] [0,1,2,3,4,5,6] [0,1,2,3,4,5,8] [zq [1] 7 19,zq [7] 8 20] [(_,_),(_,_),(_,_),(_,_),(_,_),(_,_),(_,_)] rfl ⟨z1 rfl,z4 rfl rfl,zz⟩ ?_
      refine ht_cond _ rfl (fun hb50 => ?_) (fun hb50 => ?_)
      ·have h := cond_t hb50 h
       refine zgg hn [_,_,_,_,_,_,_,(21,vi s26),(6,vi s26)] [0,1,2,3,4,5,6] [8] [zq [5] 7 21,zq [7] 8 6] [(_,_)] rfl ⟨z1 rfl,z2 rfl,zz⟩ ?_
       refine ht_ret ?_
       refine pt_r_then ?_
       refine pt_r_in ?_
       refine pt_r_then ?_
       refine pt_r_then ?_
       refine pt_r_in ?_
       refine pt_r_then ?_
       have h := hr48 _ (zi h).symm
       have h := hr38 _ (ho39 _ (zi h).symm).symm
       obtain rfl := zi h
       exact pt_ret hio rfl (.tmp _ _ .nil) rfl rfl
      ·have h := cond_f hb50 h
       refine ht_skip ?_
       refine pt_then ?_
       obtain ⟨v6, hv6, h⟩ := zn h
       refine zg hn [_,_,_,_,_,_,_,(22,vi s25),(23,vi v6),(2,vi v6)] [0,1,2,3,4,5,6] [0,2,3,4,9] [zq [1] 7 22,zq [7] 8 23,⟨[8],[1],[9],[(.slot 2)]⟩] [(_,_),(_,_),(_,_),(_,_),(_,_)] rfl ⟨z1 rfl,zp rfl (oB rfl (ibind (f := int .i64) (Option.some.inj hv6))),zp rfl (LOp.drop [_] (op_assign _ _ _ _ rfl rfl)),zz⟩ ?_
       refine pt_inb ?_
       refine pt_pick [0,4,1,2,3] (by kernel_rfl) (es' := [(_,_),(_,_),(_,_),(_,_),(_,_)]) rfl ?_
       exact hl47 _ (zi h).symm
   ·have h := cond_f hb42 h
    refine ht_exit ?_
    refine pt_x_then ?_
    refine pt_x_then ?_
    refine pt_x_in ?_
    refine pt_pick [] (by kernel_rfl) (es' := []) rfl ?_
    exact hl37 _ (ho39 _ (zi h).symm).symm
theorem ok_canon_Read (lengths : (List Int)) (b : (List Int)) (at_ : Int) (r : (Int × Int × Int)) (h : Sh.canon_Read lengths b at_ = some r) : FnOK Tryd.prog 87 [.fl .shr 1 (map (int .i64) lengths), .fl .shr 1 (map (int .u8) b), .v (.int .i64 at_)] (.tup [.v (.int .i64 r.1), .v (.int .i64 r.2.1), .v (.int .i64 r.2.2)]) := by
  unfold Sh.canon_Read at h
  refine fn_ok func87 rfl (zl rfl) rfl rfl fun g0 hn hio => ?_
  refine zgg hn [_,_,_,(6,vi 0),(7,vi 0),(8,vi 0)] [0,1,2] [0,1,2] [zq [] 3 6,zq [] 4 7,zq [] 5 8] [(_,_),(_,_),(_,_)] rfl ⟨z2 rfl,z2 rfl,z2 rfl,zz⟩ ?_
  refine ht_seq ?_
  refine ht_seq ?_
  obtain ⟨v1, hv1, h⟩ := zn h
  refine zg hn [_,_,_,(14,fi lengths),(15,vi v1),(9,vi v1)] [0,1,2] [0,1,2,5] [zq [0] 3 14,zq [3] 4 15,zq [4] 5 9] [(_,_),(_,_),(_,_),(_,_)] rfl ⟨z1 rfl,zp rfl (op_call _ _ 66 _ _ rfl call66 rfl (ok_canon_Check lengths _ hv1) rfl rfl),z2 rfl,zz⟩ ?_
  refine pt_then ?_
  refine zgg hn [_,_,_,_,(16,vi v1),(17,vb (v1 != 0))] [0,1,2,3] [0,1,2,3,5] [zq [3] 4 16,zq [4] 5 17] [(_,_),(_,_),(_,_),(_,_),(_,_)] rfl ⟨z1 rfl,z4 rfl rfl,zz⟩ ?_
  refine ht_cond _ rfl (fun hb2 => ?_) (fun hb2 => ?_)
  ·have h := cond_t hb2 h
   refine zgg hn [_,_,_,_,_,(18,vi v1),(6,vi 0),(7,vi 0),(8,vi v1)] [0,1,2,3,4] [6,7,8] [zq [3] 5 18,zq [] 6 6,zq [] 7 7,zq [5] 8 8] [(_,_),(_,_),(_,_)] rfl ⟨z1 rfl,z2 rfl,z2 rfl,z2 rfl,zz⟩ ?_
   refine ht_ret ?_
   refine pt_r_then ?_
   obtain rfl := zi h
   exact pt_ret hio rfl (.tmp _ _ (.tmp _ _ (.tmp _ _ .nil))) rfl rfl
  ·have h := cond_f hb2 h
   refine ht_skip ?_
   refine pt_then (ht_seq ?_)
   refine ht_seq ?_
   refine ht_joinS h (fun (s4 : Bool) => [(0,fi lengths),(1,fb b),(2,vi at_),(27,vb s4)]) ?_ ?_
   ·rintro s4 h
    refine pt_then ?_
    refine ht_cond _ rfl (fun hb8 => ?_) (fun hb8 => ?_)
    ·have h := cond_t hb8 h
     refine zgg hn [_,_,_,_,(6,vi 0),(7,vi 0),(8,vi 1)] [0,1,2,3] [4,5,6] [zq [] 4 6,zq [] 5 7,zq [] 6 8] [(_,_),(_,_),(_,_)] rfl ⟨z2 rfl,z2 rfl,z2 rfl,zz⟩ ?_
     refine ht_ret ?_
     refine pt_r_then ?_
     obtain rfl := zi h
     exact pt_ret hio rfl (.tmp _ _ (.tmp _ _ (.tmp _ _ .nil))) rfl rfl
    ·have h := cond_f hb8 h
     refine ht_skip ?_
     refine pt_then (ht_seq ?_)
     obtain ⟨v9, hv9, h⟩ := zn h
     obtain ⟨v10, hv10, h⟩ := zn h
     obtain ⟨v11, hv11, h⟩ := zn h
     refine zg hn [_,_,_,_,(28,fi lengths),(29,.v (.agg (map (int .i64) v9).toArray)),(10,.arr 118 (map (int .i64) ((List.replicate 16 (0 : Int))))),(10,.arr 118 (map (int .i64) v9))] [0,1,2,3] [0,1,2,7] [zq [0] 4 28,zq [4] 5 29,zq [] 6 10,⟨[5],[6],[7],[]⟩] [(_,_),(_,_),(_,_),(_,_)] rfl ⟨z1 rfl,zp rfl (op_call _ _ 68 _ _ rfl call68 rfl (ok_canon_count lengths _ hv9) rfl rfl),zp rfl (op_alloc_arr _ za118),zp rfl (op_storeA_arr _ _ _ _ (sz118.trans (congrArg some (ln_len hv11))) rfl rfl (ln_ones (fun _ => rfl) _) ((ln_len (f := int .i64) hv10).symm.trans (ln_len (f := int .i64) hv11))),zz⟩ ?_
     refine pt_then (ht_seq ?_)
     obtain ⟨v12, hv12, h⟩ := zn h
     obtain ⟨v13, hv13, h⟩ := zn h
     obtain ⟨v14, hv14, h⟩ := zn h
     obtain ⟨v15, hv15, h⟩ := zn h
     refine zg hn [_,_,_,_,(30,.v (.agg (map (int .i64) v9).toArray)),(31,.v (.agg (map (int .i64) v13).toArray)),(11,.arr 118 (map (int .i64) ((List.replicate 16 (0 : Int))))),(11,.arr 118 (map (int .i64) v13))] [0,1,2,3] [0,1,2,3,7] [zq [3] 4 30,zq [4] 5 31,zq [] 6 11,⟨[5],[6],[7],[]⟩] [(_,_),(_,_),(_,_),(_,_),(_,_)] rfl ⟨zp rfl (op_loadA_arr _ _ _ _ underlying118 rfl (sz118.trans (congrArg some (ln_len hv12))) rfl rfl),zp rfl (op_call _ _ 67 _ _ rfl call67 rfl (ok_canon_firsts v9 _ hv13) rfl rfl),zp rfl (op_alloc_arr _ za118),zp rfl (op_storeA_arr _ _ _ _ (sz118.trans (congrArg some (ln_len hv15))) rfl rfl (ln_ones (fun _ => rfl) _) ((ln_len (f := int .i64) hv14).symm.trans (ln_len (f := int .i64) hv15))),zz⟩ ?_
     refine pt_then ?_
     refine zgg hn [_,_,_,_,_,(12,vi 0)] [0,1,2,3,4] [0,1,2,3,4,5] [zq [] 5 12] [(_,_),(_,_),(_,_),(_,_),(_,_),(_,_)] rfl ⟨z2 rfl,zz⟩ ?_
     refine ht_seq ?_
     refine zgg hn [_,_,_,_,_,_,(13,vi 1)] [0,1,2,3,4,5] [0,1,2,3,4,5,6] [zq [] 6 13] [(_,_),(_,_),(_,_),(_,_),(_,_),(_,_),(_,_)] rfl ⟨z2 rfl,zz⟩ ?_
     refine ht_loopS h (fun ((s52,s53,s54) : Int × Int × Int) => [(0,fi lengths),(1,fb b),(2,vi s52),(10,.arr 118 (map (int .i64) v9)),(11,.arr 118 (map (int .i64) v13)),(12,vi s53),(13,vi s54)]) (fun (() : Unit) => []) ?_ ?_
     ·rintro ⟨⟩ h
      refine pt_then ?_
      refine zgg hn [(6,vi 0),(7,vi 0),(8,vi 3)] [] [0,1,2] [zq [] 0 6,zq [] 1 7,zq [] 2 8] [(_,_),(_,_),(_,_)] rfl ⟨z2 rfl,z2 rfl,z2 rfl,zz⟩ ?_
      refine ht_ret ?_
      obtain rfl := zi h
      exact pt_ret hio rfl (.tmp _ _ (.tmp _ _ (.tmp _ _ .nil))) rfl rfl
     ·rintro u61 hl62 hr63 ⟨s52, s53, s54⟩ rr66 h ho64
      refine ht_seq ?_
      refine ht_seq ?_
      refine ht_joinS h (fun (s67 : Bool) => [(0,fi lengths),(1,fb b),(2,vi s52),(10,.arr 118 (map (int .i64) v9)),(11,.arr 118 (map (int .i64) v13)),(12,vi s53),(13,vi s54),(40,vb s67)]) ?_ ?_
      ·rintro s67 h
       refine pt_then ?_
       refine ht_cond _ rfl (fun hb71 => ?_) (fun hb71 => ?_)
       ·have h := cond_t hb71 h
        refine ht_skip ?_
        refine pt_then (ht_seq ?_)
        refine ht_block ?_
        refine ht_seq ?_
        obtain ⟨v22, hv22, h⟩ := zn h
        obtain ⟨v23, hv23, h⟩ := zn h
        obtain ⟨v24, hv24, h⟩ := zn h
        obtain ⟨v25, hv25, h⟩ := zn h
        obtain ⟨v26, hv26, h⟩ := zn h
        obtain ⟨v27, hv27, h⟩ := zn h
        obtain ⟨v28, hv28, h⟩ := zn h
        obtain ⟨v29, hv29, h⟩ := zn h
        obtain ⟨v30, hv30, h⟩ := zn h
        refine zg hn (_::_::_::_::_::_::_::_::(43,vi s53)::(44,vi v22)::(45,fb b)::(46,vi s52)::(47,vi v23)::(48,.eref (.slot 45) (v24 * 1))::(49,.v (.int .u8 v25))::(50,vi s52)::(51,vi v26)::(52,.v (.int .u8 v27))::(53,.v (.int .u8 v28))::(54,vi v29)::(55,vi v30)::(12,vi v30)::[]) [0,1,2,3,4,5,6,7] [0,1,2,3,4,6,21] [zq [5] 8 43,zq [8] 9 44,zq [1] 10 45,zq [2] 11 46,zq [11] 12 47,zq [10,12] 13 48,zq [13,10] 14 49,zq [2] 15 50,zq [15] 16 51,zq [14,16] 17 52,zq [17] 18 53,zq [18] 19 54,zq [9,19] 20 55,⟨[20],[5],[21],[(.slot 12)]⟩] [(_,_),(_,_),(_,_),(_,_),(_,_),(_,_),(_,_)] rfl ⟨z1 rfl,zp rfl (oB rfl (shl_ok hv22)),z1 rfl,z1 rfl,zp rfl (oB rfl (quo_ok hv23)),zp rfl (op_ix _ _ _ _ _ _ _ _ underlying22 sz5 (by decide) rfl rfl rfl (ix_ok hv24).1 (map_lt (ix_ok hv24).2) rfl),zp rfl (op_load_e _ _ _ _ _ _ underlying5 rfl rfl rfl (map_get hv25)),z1 rfl,zp rfl (oB rfl (rem_ok hv26)),zp rfl (oB rfl (shr_ok hv27)),zp rfl (oB rfl (ibind (f := int .u8) (Option.some.inj hv28))),zp rfl ((Option.some.inj hv29) ▸ op_conv _ _ _ underlying5 underlying3 rfl),zp rfl (oB rfl (ibind (f := int .i64) (Option.some.inj hv30))),zp rfl (LOp.drop [_] (op_assign _ _ _ _ rfl rfl)),zz⟩ ?_
        refine pt_then (ht_seq ?_)
        obtain ⟨v31, hv31, h⟩ := zn h
        refine zg hn [_,_,_,_,_,_,_,(56,vi s52),(57,vi v31),(2,vi v31)] [0,1,2,3,4,5,6] [0,1,3,4,5,6,9] [zq [2] 7 56,zq [7] 8 57,⟨[8],[2],[9],[(.slot 2)]⟩] [(_,_),(_,_),(_,_),(_,_),(_,_),(_,_),(_,_)] rfl ⟨z1 rfl,zp rfl (oB rfl (ibind (f := int .i64) (Option.some.inj hv31))),zp rfl (LOp.drop [_] (op_assign _ _ _ _ rfl rfl)),zz⟩ ?_
        refine pt_then (ht_seq ?_)
        obtain ⟨v32, hv32, h⟩ := zn h
        obtain ⟨v33, hv33, h⟩ := zn h
        obtain ⟨v34, hv34, h⟩ := zn h
        obtain ⟨v35, hv35, h⟩ := zn h
        obtain ⟨v36, hv36, h⟩ := zn h
        refine ht_anyR (by kernel_rfl) hn (El := (_ :: _ :: _ :: _ :: _ :: _ :: _ :: (58,vi v30) :: (59,vi s54) :: (60,.ptr 11 v32) :: (61,vi v33) :: (62,vi s54) :: (63,.ptr 10 v34) :: (64,vi v35) :: (65,vi v36) :: (66,vb (decide (v30 < v36))) :: [])) (init := [0,1,2,3,4,5,6]) (fin := [0,1,2,3,4,5,6,15]) (sps := [zq [5] 7 58,zq [4] 8 59,zq [3,8] 9 60,zq [9,3] 10 61,zq [4] 11 62,zq [2,11] 12 63,zq [12,2] 13 64,zq [10,13] 14 65,zq [7,14] 15 66]) (es' := [(_,_),(_,_),(_,_),(_,_),(_,_),(_,_),(_,_),(66,vb (decide (v30 < v36)))]) (by kernel_rfl) rfl rfl ⟨z1 rfl,z1 rfl,zp rfl (op_ix_arr _ _ _ _ 16 11 _ underlying118 sz3 rfl rfl (ix_ok hv32).1 (ix_ok hv32).2 (by decide)),zp rfl (op_load_arr _ _ _ _ _ _ underlying3 rfl rfl rfl (map_get1 hv33)),z1 rfl,zp rfl (op_ix_arr _ _ _ _ 16 10 _ underlying118 sz3 rfl rfl (ix_ok hv34).1 (ix_ok hv34).2 (by decide)),zp rfl (op_load_arr _ _ _ _ _ _ underlying3 rfl rfl rfl (map_get1 hv35)),zp rfl (oB rfl (ibind (f := int .i64) (Option.some.inj hv36))),z4 rfl rfl,zz⟩ ?_
        refine pt_then ?_
        refine ht_cond _ rfl (fun hb72 => ?_) (fun hb72 => ?_)
        ·have h := cond_t hb72 h
         refine ht_seq ?_
         obtain ⟨v38, hv38, h⟩ := zn h
         obtain ⟨v39, hv39, h⟩ := zn h
         obtain ⟨v40, hv40, h⟩ := zn h
         obtain ⟨v41, hv41, h⟩ := zn h
         refine zg hn (_::_::_::_::_::_::_::_::(67,fi lengths)::(68,vi s54)::(69,vi v30)::(70,vi s54)::(71,.ptr 11 v38)::(72,vi v39)::(73,vi v40)::(74,vi v41)::(75,vi v31)::(6,vi v41)::(7,vi v31)::(8,vi 0)::[]) [0,1,2,3,4,5,6,7] [17,18,19] [zq [0] 8 67,zq [4] 9 68,zq [5] 10 69,zq [4] 11 70,zq [3,11] 12 71,zq [12,3] 13 72,zq [10,13] 14 73,zq [8,9,14] 15 74,zq [6] 16 75,zq [15] 17 6,zq [16] 18 7,zq [] 19 8] [(_,_),(_,_),(_,_)] rfl ⟨z1 rfl,z1 rfl,z1 rfl,z1 rfl,zp rfl (op_ix_arr _ _ _ _ 16 11 _ underlying118 sz3 rfl rfl (ix_ok hv38).1 (ix_ok hv38).2 (by decide)),zp rfl (op_load_arr _ _ _ _ _ _ underlying3 rfl rfl rfl (map_get1 hv39)),zp rfl (oB rfl (ibind (f := int .i64) (Option.some.inj hv40))),zp rfl (op_call _ _ 94 _ _ rfl call94 rfl (ok_canon_nth lengths s54 v40 _ hv41) rfl rfl),z1 rfl,z2 rfl,z2 rfl,z2 rfl,zz⟩ ?_
         refine pt_then (ht_ret ?_)
         refine pt_r_in ?_
         refine pt_r_then ?_
         refine pt_r_then ?_
         refine pt_r_in ?_
         refine pt_r_then ?_
         have h := hr63 _ (ho64 _ (zi h).symm).symm
         obtain rfl := zi h
         exact pt_ret hio rfl (.tmp _ _ (.tmp _ _ (.tmp _ _ .nil))) rfl rfl
        ·have h := cond_f hb72 h
         refine ht_skip ?_
         refine pt_inb ?_
         refine pt_then ?_
         obtain ⟨v42, hv42, h⟩ := zn h
         refine zg hn [_,_,_,_,_,_,_,_,(41,vi s54),(42,vi v42),(13,vi v42)] [0,1,2,3,4,5,6,7] [0,1,2,3,5,6,10] [zq [4] 8 41,zq [8] 9 42,⟨[9],[4],[10],[(.slot 13)]⟩] [(_,_),(_,_),(_,_),(_,_),(_,_),(_,_),(_,_)] rfl ⟨z1 rfl,zp rfl (oB rfl (ibind (f := int .i64) (Option.some.inj hv42))),zp rfl (LOp.drop [_] (op_assign _ _ _ _ rfl rfl)),zz⟩ ?_
         refine pt_pick [0,1,5,2,3,4,6] (by kernel_rfl) (es' := [(_,_),(_,_),(_,_),(_,_),(_,_),(_,_),(_,_)]) rfl ?_
         exact pt_next _ (zi h).symm rfl
       ·have h := cond_f hb71 h
        refine ht_exit ?_
        refine pt_x_then ?_
        refine pt_x_then ?_
        refine pt_x_in ?_
        refine pt_pick [] (by kernel_rfl) (es' := []) rfl ?_
        exact hl62 _ (ho64 _ (zi h).symm).symm
      ·intro u68 h hl69 hr70
       refine cond_some h (fun hg10_2 h => ?_) (fun hg10_2 h => ?_)
       ·obtain ⟨v16, hv16, h⟩ := zn h
        refine zg hn (_::_::_::_::_::_::_::(32,vi s54)::(33,vb (decide (s54 ≤ 15)))::(34,vb true)::(35,vi s52)::(36,fb b)::(37,vi (b.length : Int))::(38,vi v16)::(39,vb (decide (s52 < v16)))::(40,vb (decide (s52 < v16)))::[]) [0,1,2,3,4,5,6] [0,1,2,3,4,5,6,15] [zq [6] 7 32,zq [7] 8 33,zq [8] 9 34,zq [9,2] 10 35,zq [9,1] 11 36,zq [9,11] 12 37,zq [9,12] 13 38,zq [9,10,13] 14 39,zq [9,14] 15 40] [(_,_),(_,_),(_,_),(_,_),(_,_),(_,_),(_,_),(_,_)] rfl ⟨z1 rfl,z4 rfl rfl,z8 hg10_2 rfl,zr' rfl (oM rfl),zr' rfl (oM rfl),zr' rfl (op_len_fl _ _ _ underlying22 rfl (by decide) (map_len _)),zr' rfl (oB rfl (ibind (f := int .i64) (Option.some.inj hv16))),zr' rfl (oB rfl rfl),z3 true rfl,zz⟩ ?_
        exact hl69 _ (zi h).symm
       ·refine zg hn (_::_::_::_::_::_::_::(32,vi s54)::(33,vb (decide (s54 ≤ 15)))::(34,vb false)::(35,.v undef)::(36,.v undef)::(37,.v undef)::(38,.v undef)::(39,.v undef)::(40,vb false)::[]) [0,1,2,3,4,5,6] [0,1,2,3,4,5,6,15] [zq [6] 7 32,zq [7] 8 33,zq [8] 9 34,zq [9] 10 35,zq [9] 11 36,zq [9] 12 37,zq [9] 13 38,zq [9] 14 39,zq [9] 15 40] [(_,_),(_,_),(_,_),(_,_),(_,_),(_,_),(_,_),(_,_)] rfl ⟨z1 rfl,z4 rfl rfl,z8 hg10_2 rfl,zt rfl,zt rfl,zt rfl,zt rfl,zt rfl,z3 false rfl,zz⟩ ?_
        exact hl69 _ (zi h).symm
   ·intro u5 h hl6 hr7
    refine cond_some h (fun hg4_2 h => ?_) (fun hg4_2 h => ?_)
    ·refine zg hn [_,_,_,_,_,(19,vi at_),(20,vb (decide (at_ < 0))),(21,vb true),(22,.v undef),(23,.v undef),(24,.v undef),(25,.v undef),(26,.v undef),(27,vb true)] [0,1,2,3,4] [0,1,2,13] [zq [2] 5 19,zq [5] 6 20,zq [6] 7 21,zq [7] 8 22,zq [7] 9 23,zq [7] 10 24,zq [7] 11 25,zq [7] 12 26,zq [7] 13 27] [(_,_),(_,_),(_,_),(_,_)] rfl ⟨z1 rfl,z4 rfl rfl,z8 hg4_2 rfl,zf rfl,zf rfl,zf rfl,zf rfl,zf rfl,z3 true rfl,zz⟩ ?_
     exact hl6 _ (zi h).symm
    ·obtain ⟨v3, hv3, h⟩ := zn h
     refine zg hn [_,_,_,_,_,(19,vi at_),(20,vb (decide (at_ < 0))),(21,vb false),(22,vi at_),(23,fb b),(24,vi (b.length : Int)),(25,vi v3),(26,vb (decide (v3 < at_))),(27,vb (decide (v3 < at_)))] [0,1,2,3,4] [0,1,2,13] [zq [2] 5 19,zq [5] 6 20,zq [6] 7 21,zq [7,2] 8 22,zq [7,1] 9 23,zq [7,9] 10 24,zq [7,10] 11 25,zq [7,8,11] 12 26,zq [7,12] 13 27] [(_,_),(_,_),(_,_),(_,_)] rfl ⟨z1 rfl,z4 rfl rfl,z8 hg4_2 rfl,zr' rfl (oM rfl),zr' rfl (oM rfl),zr' rfl (op_len_fl _ _ _ underlying22 rfl (by decide) (map_len _)),zr' rfl (oB rfl (ibind (f := int .i64) (Option.some.inj hv3))),zr' rfl (oB rfl rfl),z3 false rfl,zz⟩ ?_
     exact hl6 _ (zi h).symm
theorem ok_grow_stream_symbol (s : T_grow_stream) (lengths : (List Int)) (r : (Int × Int × T_grow_stream)) (h : Sh.grow_stream_symbol s lengths = some r) : FnP Tryd.prog 78 [.box 59 [.fl .shr 1 (map (int .u8) s.b), .v (.int .i64 s.at_), .fl (.own 5) 1 (map (int .u8) s.out), .v (.int .i64 s.most), .v (.int .i64 s.blocks)], .fl .shr 1 (map (int .i64) lengths)] [.box 59 [.fl .shr 1 (map (int .u8) r.2.2.b), .v (.int .i64 r.2.2.at_), .fl (.own 5) 1 (map (int .u8) r.2.2.out), .v (.int .i64 r.2.2.most), .v (.int .i64 r.2.2.blocks)]] (.tup [.v (.int .i64 r.1), .v (.int .i64 r.2.1)]) := by
  unfold Sh.grow_stream_symbol at h
  refine fn_okP func78 rfl (zl rfl) rfl (zl rfl) fun args0 hargs0 g0 hn hio => ?_
  refine zgg hn [_,_,_,(4,vi 0),(5,vi 0)] [0,1,2] [0,1,2] [zq [] 3 4,zq [] 4 5] [(_,_),(_,_),(_,_)] rfl ⟨z2 rfl,z2 rfl,zz⟩ ?_
  refine ht_seq ?_
  obtain ⟨v1, hv1, h⟩ := zn h
  refine ht_anyR (by kernel_rfl) hn (El := (_ :: _ :: _ :: (10,fi lengths) :: (11,.same (.slot 0)) :: (12,.ptr 0 0) :: (13,.ptr 0 0) :: (14,fb s.b) :: (15,.same (.slot 0)) :: (16,.ptr 0 0) :: (17,.ptr 0 1) :: (18,vi s.at_) :: (19,.tup [vi v1.1,vi v1.2.1,vi v1.2.2]) :: (9,.tup [vi v1.1,vi v1.2.1,vi v1.2.2]) :: (20,vi v1.1) :: (21,vi v1.2.1) :: (22,vi v1.2.2) :: (6,vi v1.1) :: (7,vi v1.2.1) :: (8,vi v1.2.2) :: [])) (init := [0,1,2]) (fin := [0,2,17,18,19]) (sps := (zq [1] 3 10 :: zq [] 4 11 :: zq [4,0] 5 12 :: zq [5,0] 6 13 :: zq [6,0] 7 14 :: zq [] 8 15 :: zq [8,0] 9 16 :: zq [9,0] 10 17 :: zq [10,0] 11 18 :: zq [3,7,11] 12 19 :: ⟨[],[12],[13],[(.slot 9)]⟩ :: zq [13] 14 20 :: zq [13] 15 21 :: zq [13] 16 22 :: zq [14] 17 6 :: zq [15] 18 7 :: zq [16] 19 8 :: [])) (es' := [(_,_),(_,_),(6,vi v1.1),(7,vi v1.2.1),(8,vi v1.2.2)]) (by kernel_rfl) rfl rfl ⟨z1 rfl,zp rfl (op_move_name _ _ _ rfl),zp rfl (op_nilCheck_name _ _ _ 0 rfl rfl (by decide)),zp rfl (oF underlying59 rfl sz22),zp rfl (oL underlying22 rfl),zp rfl (op_move_name _ _ _ rfl),zp rfl (op_nilCheck_name _ _ _ 0 rfl rfl (by decide)),zp rfl (oF underlying59 rfl sz3),zp rfl (oL underlying3 rfl),zp rfl (op_call _ _ 87 _ _ rfl call87 rfl (ok_canon_Read lengths s.b s.at_ _ hv1) rfl rfl),zp rfl (op_move_take _ _ _ _ rfl),zp rfl (oE rfl),zp rfl (oE rfl),zp rfl (oE rfl),z2 rfl,z2 rfl,z2 rfl,zz⟩ ?_
  refine pt_then (ht_seq ?_)
  refine zgg hn [_,_,_,_,_,(23,vi v1.2.2),(24,vb (v1.2.2 != 0))] [0,1,2,3,4] [0,1,2,3,4,6] [zq [4] 5 23,zq [5] 6 24] [(_,_),(_,_),(_,_),(_,_),(_,_),(_,_)] rfl ⟨z1 rfl,z4 rfl rfl,zz⟩ ?_
  refine ht_cond _ rfl (fun hb2 => ?_) (fun hb2 => ?_)
  ·have h := cond_t hb2 h
   refine zgg hn [_,_,_,_,_,_,(25,vi v1.2.2),(4,vi 0),(5,vi v1.2.2)] [0,1,2,3,4,5] [0,1,7,8] [zq [4] 6 25,zq [] 7 4,zq [6] 8 5] [(_,_),(_,_),(_,_),(_,_)] rfl ⟨z1 rfl,z2 rfl,z2 rfl,zz⟩ ?_
   refine ht_ret ?_
   refine pt_pick [2,3,0,1] (by kernel_rfl) (es' := [(_,_),(_,_),(_,_),(_,_)]) rfl ?_
   refine pt_r_then ?_
   obtain rfl := zi h
   exact pt_retP (es := [(4, .v (.int .i64 0)), (5, .v (.int .i64 v1.2.2))]) (posts := [.box 59 [fb s.b, .v (.int .i64 s.at_), .fl (.own 5) 1 (map (int .u8) s.out), .v (.int .i64 s.most), .v (.int .i64 s.blocks)]]) hio rfl rfl (.tmp _ _ (.tmp _ _ .nil)) rfl rfl hargs0 rfl
  ·have h := cond_f hb2 h
   refine ht_skip ?_
   refine pt_then ?_
   refine zgg hn [_,_,_,_,_,_,(26,.ptr 0 0),(27,vi v1.2.1),(28,.ptr 0 0),(29,.ptr 0 1),(0,.box 59 [fb s.b,vi v1.2.1,.fl (.own 5) 1 (map (int .u8) s.out),vi s.most,vi s.blocks])] [0,1,2,3,4,5] [10,1,2] [zq [0] 6 26,zq [3] 7 27,zq [6,0] 8 28,zq [8,0] 9 29,⟨[9,7],[0],[10],[.cell 0 1]⟩] [(_,_),(_,_),(_,_)] rfl ⟨z1 rfl,z1 rfl,zp rfl (op_nilCheck _ _ _ 0 0 rfl (by decide)),zp rfl (oF underlying59 rfl sz3),zp rfl (oS sz3 rfl),zz⟩ ?_
   refine zgg hn [_,_,_,(30,vi v1.1),(4,vi v1.1),(5,vi 0)] [0,1,2] [0,1,4,5] [zq [2] 3 30,zq [3] 4 4,zq [] 5 5] [(_,_),(_,_),(_,_),(_,_)] rfl ⟨z1 rfl,z2 rfl,z2 rfl,zz⟩ ?_
   refine ht_ret ?_
   refine pt_pick [2,3,0,1] (by kernel_rfl) (es' := [(_,_),(_,_),(_,_),(_,_)]) rfl ?_
   obtain rfl := zi h
   exact pt_retP (es := [(4, .v (.int .i64 v1.1)), (5, .v (.int .i64 0))]) (posts := [.box 59 [fb s.b, .v (.int .i64 v1.2.1), .fl (.own 5) 1 (map (int .u8) s.out), .v (.int .i64 s.most), .v (.int .i64 s.blocks)]]) hio rfl rfl (.tmp _ _ (.tmp _ _ .nil)) rfl rfl hargs0 rfl
theorem ok_sym_lens (r : T_sym_scale) (h : Sh.sym_lens  = some r) : FnOK Tryd.prog 63 [] (.agg [.v (.int .i64 r.least), .v (.int .i64 r.singles), .v (.int .i64 r.group)]) := by
  unfold Sh.sym_lens at h
  refine fn_ok func63 rfl (zl rfl) rfl rfl fun g0 hn hio => ?_
  refine zgg hn [(0,.box 113 [vi 0,vi 0,vi 0])] [] [0] [zq [] 0 0] [(_,_)] rfl ⟨zp rfl (op_alloc _ _ zr113),zz⟩ ?_
  refine zgg hn [_,(1,.agg [vi 3,vi 8,vi 4]),(0,.box 113 [vi 3,vi 8,vi 4])] [0] [2] [zq [] 1 1,⟨[1],[0],[2],[.cell 0 0,.cell 0 1,.cell 0 2]⟩] [(_,_)] rfl ⟨zp rfl (op_build _ _ _ _ [1, 1, 1] _ _ underlying113 zr113 (fs113 _ underlying113) (.copy _ (.copy _ (.copy _ Src.nil))) rfl rfl rfl),zp rfl (oS sz113 rfl),zz⟩ ?_
  refine ht_ret ?_
  obtain rfl := zi h
  exact pt_ret hio rfl (.cellA _ _ _ _ underlying113 rfl sz113 .nil) rfl rfl
theorem ok_sym_scale_symbol (s : T_sym_scale) (sym : Int) (r : (Int × Int)) (h : Sh.sym_scale_symbol s sym = some r) : FnOK Tryd.prog 82 [.agg [.v (.int .i64 s.least), .v (.int .i64 s.singles), .v (.int .i64 s.group)], .v (.int .i64 sym)] (.tup [.v (.int .i64 r.1), .v (.int .i64 r.2)]) := by
  unfold Sh.sym_scale_symbol at h
  refine fn_ok func82 rfl (zl rfl) rfl rfl fun g0 hn hio => ?_
  refine zgg hn [_,_,(2,.box 113 [vi s.least,vi s.singles,vi s.group]),(4,vi 0),(5,vi 0)] [0,1] [1,2] [zq [0] 2 2,zq [] 3 4,zq [] 4 5] [(_,_),(_,_)] rfl ⟨zp rfl (op_box _ _ _ _ rfl rfl rfl),z2 rfl,z2 rfl,zz⟩ ?_
  refine ht_seq ?_
  refine zgg hn [_,_,(7,vi sym),(8,.ptr 2 1),(9,vi s.singles),(10,vb (decide (sym < s.singles)))] [0,1] [0,1,5] [zq [0] 2 7,zq [1] 3 8,zq [3,1] 4 9,zq [2,4] 5 10] [(_,_),(_,_),(_,_)] rfl ⟨z1 rfl,zp rfl (oF underlying113 rfl sz3),zp rfl (oL underlying3 rfl),z4 rfl rfl,zz⟩ ?_
  refine ht_cond _ rfl (fun hb1 => ?_) (fun hb1 => ?_)
  ·have h := cond_t hb1 h
   refine ht_seq ?_
   obtain ⟨v2, hv2, h⟩ := zn h
   refine zg hn [_,_,_,(11,.ptr 2 0),(12,vi s.least),(13,vi sym),(14,vi v2),(4,vi v2),(5,vi 0)] [0,1,2] [7,8] [zq [1] 3 11,zq [3,1] 4 12,zq [0] 5 13,zq [4,5] 6 14,zq [6] 7 4,zq [] 8 5] [(_,_),(_,_)] rfl ⟨zp rfl (oF underlying113 rfl sz3),zp rfl (oL underlying3 rfl),z1 rfl,zp rfl (oB rfl (ibind (f := int .i64) (Option.some.inj hv2))),z2 rfl,z2 rfl,zz⟩ ?_
   refine pt_then (ht_ret ?_)
   refine pt_r_then ?_
   obtain rfl := zi h
   exact pt_ret hio rfl (.tmp _ _ (.tmp _ _ .nil)) rfl rfl
  ·have h := cond_f hb1 h
   refine ht_skip ?_
   refine pt_then (ht_seq ?_)
   obtain ⟨v3, hv3, h⟩ := zn h
   refine zg hn [_,_,_,(15,.ptr 2 0),(16,vi s.least),(17,.ptr 2 1),(18,vi s.singles),(19,vi v3),(4,vi v3)] [0,1,2] [0,1,8] [zq [1] 3 15,zq [3,1] 4 16,zq [1] 5 17,zq [5,1] 6 18,zq [4,6] 7 19,zq [7] 8 4] [(_,_),(_,_),(_,_)] rfl ⟨zp rfl (oF underlying113 rfl sz3),zp rfl (oL underlying3 rfl),zp rfl (oF underlying113 rfl sz3),zp rfl (oL underlying3 rfl),zp rfl (oB rfl (ibind (f := int .i64) (Option.some.inj hv3))),z2 rfl,zz⟩ ?_
   refine pt_then ?_
   refine zgg hn [_,_,_,(6,vi 1)] [0,1,2] [0,1,2,3] [zq [] 3 6] [(_,_),(_,_),(_,_),(_,_)] rfl ⟨z2 rfl,zz⟩ ?_
   refine ht_seq ?_
   refine ht_seq ?_
   obtain ⟨v4, hv4, h⟩ := zn h
   refine zg hn [_,_,_,_,(20,vi sym),(21,.ptr 2 1),(22,vi s.singles),(23,vi v4),(1,vi v4)] [0,1,2,3] [1,2,3,8] [zq [0] 4 20,zq [1] 5 21,zq [5,1] 6 22,zq [4,6] 7 23,⟨[7],[0],[8],[(.slot 1)]⟩] [(_,_),(_,_),(_,_),(_,_)] rfl ⟨z1 rfl,zp rfl (oF underlying113 rfl sz3),zp rfl (oL underlying3 rfl),zp rfl (oB rfl (ibind (f := int .i64) (Option.some.inj hv4))),zp rfl (LOp.drop [_] (op_assign _ _ _ _ rfl rfl)),zz⟩ ?_
   refine pt_then ?_
   refine ht_loopS h (fun ((s14,s15,s16) : Int × Int × Int) => [(2,.box 113 [vi s.least,vi s.singles,vi s.group]),(4,vi s14),(6,vi s15),(1,vi s16)]) (fun ((s18,s19,s20) : Int × Int × Int) => [(4,vi s18),(6,vi s19),(1,vi s20)]) ?_ ?_
   ·rintro ⟨s18, s19, s20⟩ h
    refine pt_then (ht_seq ?_)
    obtain ⟨v28, hv28, h⟩ := zn h
    obtain ⟨v29, hv29, h⟩ := zn h
    refine zg hn [_,_,_,(40,vi s18),(41,vi s20),(42,vi s19),(43,vi v28),(44,vi v29),(45,vi s19),(4,vi v29),(5,vi s19)] [0,1,2] [9,10] [zq [0] 3 40,zq [2] 4 41,zq [1] 5 42,zq [4,5] 6 43,zq [3,6] 7 44,zq [1] 8 45,⟨[7],[0],[9],[(.slot 4)]⟩,zq [8] 10 5] [(_,_),(_,_)] rfl ⟨z1 rfl,z1 rfl,z1 rfl,zp rfl (oB rfl (shl_ok hv28)),zp rfl (oB rfl (ibind (f := int .i64) (Option.some.inj hv29))),z1 rfl,zp rfl (LOp.drop [_] (op_assign _ _ _ _ rfl rfl)),z2 rfl,zz⟩ ?_
    refine pt_then (ht_ret ?_)
    obtain rfl := zi h
    exact pt_ret hio rfl (.tmp _ _ (.tmp _ _ .nil)) rfl rfl
   ·rintro u21 hl22 hr23 ⟨s14, s15, s16⟩ rr26 h ho24
    refine ht_seq ?_
    refine zgg hn [_,_,_,_,(24,vi s16),(25,.ptr 2 2),(26,vi s.group),(27,vb (decide (s.group ≤ s16)))] [0,1,2,3] [0,1,2,3,7] [zq [3] 4 24,zq [0] 5 25,zq [5,0] 6 26,zq [4,6] 7 27] [(_,_),(_,_),(_,_),(_,_),(_,_)] rfl ⟨z1 rfl,zp rfl (oF underlying113 rfl sz3),zp rfl (oL underlying3 rfl),z4 rfl rfl,zz⟩ ?_
    refine ht_cond _ rfl (fun hb27 => ?_) (fun hb27 => ?_)
    ·have h := cond_t hb27 h
     refine ht_skip ?_
     refine pt_then (ht_seq ?_)
     refine ht_block ?_
     refine ht_seq ?_
     obtain ⟨v6, hv6, h⟩ := zn h
     obtain ⟨v7, hv7, h⟩ := zn h
     refine zg hn [_,_,_,_,_,(32,vi s14),(33,.ptr 2 2),(34,vi s.group),(35,vi s15),(36,vi v6),(37,vi v7),(4,vi v7)] [0,1,2,3,4] [0,2,3,11] [zq [1] 5 32,zq [0] 6 33,zq [6,0] 7 34,zq [2] 8 35,zq [7,8] 9 36,zq [5,9] 10 37,⟨[10],[1],[11],[(.slot 4)]⟩] [(_,_),(_,_),(_,_),(_,_)] rfl ⟨z1 rfl,zp rfl (oF underlying113 rfl sz3),zp rfl (oL underlying3 rfl),z1 rfl,zp rfl (oB rfl (shl_ok hv6)),zp rfl (oB rfl (ibind (f := int .i64) (Option.some.inj hv7))),zp rfl (LOp.drop [_] (op_assign _ _ _ _ rfl rfl)),zz⟩ ?_
     refine pt_then ?_
     obtain ⟨v8, hv8, h⟩ := zn h
     refine zg hn [_,_,_,_,(38,vi s15),(39,vi v8),(6,vi v8)] [0,1,2,3] [0,2,3,6] [zq [1] 4 38,zq [4] 5 39,⟨[5],[1],[6],[(.slot 6)]⟩] [(_,_),(_,_),(_,_),(_,_)] rfl ⟨z1 rfl,zp rfl (oB rfl (ibind (f := int .i64) (Option.some.inj hv8))),zp rfl (LOp.drop [_] (op_assign _ _ _ _ rfl rfl)),zz⟩ ?_
     refine pt_inb ?_
     refine pt_then ?_
     obtain ⟨v9, hv9, h⟩ := zn h
     refine zg hn [_,_,_,_,(28,vi s16),(29,.ptr 2 2),(30,vi s.group),(31,vi v9),(1,vi v9)] [0,1,2,3] [0,2,3,8] [zq [1] 4 28,zq [0] 5 29,zq [5,0] 6 30,zq [4,6] 7 31,⟨[7],[1],[8],[(.slot 1)]⟩] [(_,_),(_,_),(_,_),(_,_)] rfl ⟨z1 rfl,zp rfl (oF underlying113 rfl sz3),zp rfl (oL underlying3 rfl),zp rfl (oB rfl (ibind (f := int .i64) (Option.some.inj hv9))),zp rfl (LOp.drop [_] (op_assign _ _ _ _ rfl rfl)),zz⟩ ?_
     exact pt_next _ (zi h).symm rfl
    ·have h := cond_f hb27 h
     refine ht_exit ?_
     refine pt_x_then ?_
     refine pt_x_then ?_
     refine pt_x_in ?_
     refine pt_pick [1,2,3] (by kernel_rfl) (es' := [(_,_),(_,_),(_,_)]) rfl ?_
     exact hl22 _ (ho24 _ (zi h).symm).symm
theorem ok_sym_LenOf (sym : Int) (r : (Int × Int × Int)) (h : Sh.sym_LenOf sym = some r) : FnOK Tryd.prog 88 [.v (.int .i64 sym)] (.tup [.v (.int .i64 r.1), .v (.int .i64 r.2.1), .v (.int .i64 r.2.2)]) := by
  unfold Sh.sym_LenOf at h
  refine fn_ok func88 rfl (zl rfl) rfl rfl fun g0 hn hio => ?_
  refine zgg hn [_,(2,vi 0),(3,vi 0),(4,vi 0)] [0] [0] [zq [] 1 2,zq [] 2 3,zq [] 3 4] [(_,_)] rfl ⟨z2 rfl,z2 rfl,z2 rfl,zz⟩ ?_
  refine ht_seq ?_
  refine ht_seq ?_
  refine ht_joinS h (fun (s1 : Bool) => [(0,vi sym),(10,vb s1)]) ?_ ?_
  ·rintro s1 h
   refine pt_then ?_
   refine ht_cond _ rfl (fun hb5 => ?_) (fun hb5 => ?_)
   ·have h := cond_t hb5 h
    refine zgg hn [_,_,(2,vi 0),(3,vi 0),(4,vi 1)] [0,1] [2,3,4] [zq [] 2 2,zq [] 3 3,zq [] 4 4] [(_,_),(_,_),(_,_)] rfl ⟨z2 rfl,z2 rfl,z2 rfl,zz⟩ ?_
    refine ht_ret ?_
    refine pt_r_then ?_
    obtain rfl := zi h
    exact pt_ret hio rfl (.tmp _ _ (.tmp _ _ (.tmp _ _ .nil))) rfl rfl
   ·have h := cond_f hb5 h
    refine ht_skip ?_
    refine pt_then (ht_seq ?_)
    refine zgg hn [_,_,(11,vi sym),(12,vb (sym == 285))] [0,1] [0,3] [zq [0] 2 11,zq [2] 3 12] [(_,_),(_,_)] rfl ⟨z1 rfl,z4 rfl rfl,zz⟩ ?_
    refine ht_cond _ rfl (fun hb6 => ?_) (fun hb6 => ?_)
    ·have h := cond_t hb6 h
     refine zgg hn [_,_,(2,vi 258),(3,vi 0),(4,vi 0)] [0,1] [2,3,4] [zq [] 2 2,zq [] 3 3,zq [] 4 4] [(_,_),(_,_),(_,_)] rfl ⟨z2 rfl,z2 rfl,z2 rfl,zz⟩ ?_
     refine ht_ret ?_
     refine pt_r_then ?_
     obtain rfl := zi h
     exact pt_ret hio rfl (.tmp _ _ (.tmp _ _ (.tmp _ _ .nil))) rfl rfl
    ·have h := cond_f hb6 h
     refine ht_skip ?_
     refine pt_then (ht_seq ?_)
     obtain ⟨v7, hv7, h⟩ := zn h
     obtain ⟨v8, hv8, h⟩ := zn h
     obtain ⟨v9, hv9, h⟩ := zn h
     refine zg hn [_,_,(14,.agg [vi v7.least,vi v7.singles,vi v7.group]),(15,vi sym),(16,vi v8),(17,.tup [vi v9.1,vi v9.2]),(13,.tup [vi v9.1,vi v9.2]),(18,vi v9.1),(19,vi v9.2),(2,vi v9.1),(3,vi v9.2)] [0,1] [9,10] [zq [] 2 14,zq [0] 3 15,zq [3] 4 16,zq [2,4] 5 17,⟨[],[5],[6],[(.slot 13)]⟩,zq [6] 7 18,zq [6] 8 19,zq [7] 9 2,zq [8] 10 3] [(_,_),(_,_)] rfl ⟨zp rfl (op_call _ _ 63 _ _ rfl call63 rfl (ok_sym_lens  _ hv7) rfl rfl),z1 rfl,zp rfl (oB rfl (ibind (f := int .i64) (Option.some.inj hv8))),zp rfl (op_call _ _ 82 _ _ rfl call82 rfl (ok_sym_scale_symbol v7 v8 _ hv9) rfl rfl),zp rfl (op_move_take _ _ _ _ rfl),zp rfl (oE rfl),zp rfl (oE rfl),z2 rfl,z2 rfl,zz⟩ ?_
     refine pt_then ?_
     refine zgg hn [_,_,(20,vi v9.1),(21,vi v9.2),(2,vi v9.1),(3,vi v9.2),(4,vi 0)] [0,1] [4,5,6] [zq [0] 2 20,zq [1] 3 21,⟨[2],[0],[4],[(.slot 2)]⟩,⟨[3],[1],[5],[(.slot 3)]⟩,zq [] 6 4] [(_,_),(_,_),(_,_)] rfl ⟨z1 rfl,z1 rfl,zp rfl (LOp.drop [_] (op_assign _ _ _ _ rfl rfl)),zp rfl (LOp.drop [_] (op_assign _ _ _ _ rfl rfl)),z2 rfl,zz⟩ ?_
     refine ht_ret ?_
     obtain rfl := zi h
     exact pt_ret hio rfl (.tmp _ _ (.tmp _ _ (.tmp _ _ .nil))) rfl rfl
  ·intro u2 h hl3 hr4
   refine cond_some h (fun hg1_2 h => ?_) (fun hg1_2 h => ?_)
   ·refine zg hn [_,(5,vi sym),(6,vb (decide (sym < 257))),(7,vb true),(8,.v undef),(9,.v undef),(10,vb true)] [0] [0,6] [zq [0] 1 5,zq [1] 2 6,zq [2] 3 7,zq [3] 4 8,zq [3] 5 9,zq [3] 6 10] [(_,_),(_,_)] rfl ⟨z1 rfl,z4 rfl rfl,z8 hg1_2 rfl,zf rfl,zf rfl,z3 true rfl,zz⟩ ?_
    exact hl3 _ (zi h).symm
   ·refine zg hn [_,(5,vi sym),(6,vb (decide (sym < 257))),(7,vb false),(8,vi sym),(9,vb (decide (285 < sym))),(10,vb (decide (285 < sym)))] [0] [0,6] [zq [0] 1 5,zq [1] 2 6,zq [2] 3 7,zq [3,0] 4 8,zq [3,4] 5 9,zq [3,5] 6 10] [(_,_),(_,_)] rfl ⟨z1 rfl,z4 rfl rfl,z8 hg1_2 rfl,zr' rfl (oM rfl),zr' rfl (oB rfl rfl),z3 false rfl,zz⟩ ?_
    exact hl3 _ (zi h).symm
theorem ok_sym_dists (r : T_sym_scale) (h : Sh.sym_dists  = some r) : FnOK Tryd.prog 65 [] (.agg [.v (.int .i64 r.least), .v (.int .i64 r.singles), .v (.int .i64 r.group)]) := by
  unfold Sh.sym_dists at h
  refine fn_ok func65 rfl (zl rfl) rfl rfl fun g0 hn hio => ?_
  refine zgg hn [(0,.box 113 [vi 0,vi 0,vi 0])] [] [0] [zq [] 0 0] [(_,_)] rfl ⟨zp rfl (op_alloc _ _ zr113),zz⟩ ?_
  refine zgg hn [_,(1,.agg [vi 1,vi 4,vi 2]),(0,.box 113 [vi 1,vi 4,vi 2])] [0] [2] [zq [] 1 1,⟨[1],[0],[2],[.cell 0 0,.cell 0 1,.cell 0 2]⟩] [(_,_)] rfl ⟨zp rfl (op_build _ _ _ _ [1, 1, 1] _ _ underlying113 zr113 (fs113 _ underlying113) (.copy _ (.copy _ (.copy _ Src.nil))) rfl rfl rfl),zp rfl (oS sz113 rfl),zz⟩ ?_
  refine ht_ret ?_
  obtain rfl := zi h
  exact pt_ret hio rfl (.cellA _ _ _ _ underlying113 rfl sz113 .nil) rfl rfl
theorem ok_sym_DistOf (sym : Int) (r : (Int × Int × Int)) (h : Sh.sym_DistOf sym = some r) : FnOK Tryd.prog 89 [.v (.int .i64 sym)] (.tup [.v (.int .i64 r.1), .v (.int .i64 r.2.1), .v (.int .i64 r.2.2)]) := by
  unfold Sh.sym_DistOf at h
  refine fn_ok func89 rfl (zl rfl) rfl rfl fun g0 hn hio => ?_
  refine zgg hn [_,(2,vi 0),(3,vi 0),(4,vi 0)] [0] [0] [zq [] 1 2,zq [] 2 3,zq [] 3 4] [(_,_)] rfl ⟨z2 rfl,z2 rfl,z2 rfl,zz⟩ ?_
  refine ht_seq ?_
  refine ht_seq ?_
  refine ht_joinS h (fun (s1 : Bool) => [(0,vi sym),(10,vb s1)]) ?_ ?_
  ·rintro s1 h
   refine pt_then ?_
   refine ht_cond _ rfl (fun hb5 => ?_) (fun hb5 => ?_)
   ·have h := cond_t hb5 h
    refine zgg hn [_,_,(2,vi 0),(3,vi 0),(4,vi 1)] [0,1] [2,3,4] [zq [] 2 2,zq [] 3 3,zq [] 4 4] [(_,_),(_,_),(_,_)] rfl ⟨z2 rfl,z2 rfl,z2 rfl,zz⟩ ?_
    refine ht_ret ?_
    refine pt_r_then ?_
    obtain rfl := zi h
    exact pt_ret hio rfl (.tmp _ _ (.tmp _ _ (.tmp _ _ .nil))) rfl rfl
   ·have h := cond_f hb5 h
    refine ht_skip ?_
    refine pt_then (ht_seq ?_)
    obtain ⟨v6, hv6, h⟩ := zn h
    obtain ⟨v7, hv7, h⟩ := zn h
    refine zg hn [_,_,(12,.agg [vi v6.least,vi v6.singles,vi v6.group]),(13,vi sym),(14,.tup [vi v7.1,vi v7.2]),(11,.tup [vi v7.1,vi v7.2]),(15,vi v7.1),(16,vi v7.2),(2,vi v7.1),(3,vi v7.2)] [0,1] [8,9] [zq [] 2 12,zq [0] 3 13,zq [2,3] 4 14,⟨[],[4],[5],[(.slot 11)]⟩,zq [5] 6 15,zq [5] 7 16,zq [6] 8 2,zq [7] 9 3] [(_,_),(_,_)] rfl ⟨zp rfl (op_call _ _ 65 _ _ rfl call65 rfl (ok_sym_dists  _ hv6) rfl rfl),z1 rfl,zp rfl (op_call _ _ 82 _ _ rfl call82 rfl (ok_sym_scale_symbol v6 sym _ hv7) rfl rfl),zp rfl (op_move_take _ _ _ _ rfl),zp rfl (oE rfl),zp rfl (oE rfl),z2 rfl,z2 rfl,zz⟩ ?_
    refine pt_then ?_
    refine zgg hn [_,_,(17,vi v7.1),(18,vi v7.2),(2,vi v7.1),(3,vi v7.2),(4,vi 0)] [0,1] [4,5,6] [zq [0] 2 17,zq [1] 3 18,⟨[2],[0],[4],[(.slot 2)]⟩,⟨[3],[1],[5],[(.slot 3)]⟩,zq [] 6 4] [(_,_),(_,_),(_,_)] rfl ⟨z1 rfl,z1 rfl,zp rfl (LOp.drop [_] (op_assign _ _ _ _ rfl rfl)),zp rfl (LOp.drop [_] (op_assign _ _ _ _ rfl rfl)),z2 rfl,zz⟩ ?_
    refine ht_ret ?_
    obtain rfl := zi h
    exact pt_ret hio rfl (.tmp _ _ (.tmp _ _ (.tmp _ _ .nil))) rfl rfl
  ·intro u2 h hl3 hr4
   refine cond_some h (fun hg1_2 h => ?_) (fun hg1_2 h => ?_)
   ·refine zg hn [_,(5,vi sym),(6,vb (decide (sym < 0))),(7,vb true),(8,.v undef),(9,.v undef),(10,vb true)] [0] [0,6] [zq [0] 1 5,zq [1] 2 6,zq [2] 3 7,zq [3] 4 8,zq [3] 5 9,zq [3] 6 10] [(_,_),(_,_)] rfl ⟨z1 rfl,z4 rfl rfl,z8 hg1_2 rfl,zf rfl,zf rfl,z3 true rfl,zz⟩ ?_
    exact hl3 _ (zi h).symm
   ·refine zg hn [_,(5,vi sym),(6,vb (decide (sym < 0))),(7,vb false),(8,vi sym),(9,vb (decide (30 ≤ sym))),(10,vb (decide (30 ≤ sym)))] [0] [0,6] [zq [0] 1 5,zq [1] 2 6,zq [2] 3 7,zq [3,0] 4 8,zq [3,4] 5 9,zq [3,5] 6 10] [(_,_),(_,_)] rfl ⟨z1 rfl,z4 rfl rfl,z8 hg1_2 rfl,zr' rfl (oM rfl),zr' rfl (oB rfl rfl),z3 false rfl,zz⟩ ?_
    exact hl3 _ (zi h).symm
theorem ok_grow_stream_repeat (s : T_grow_stream) (n : Int) (dist : Int) (r : (Int × T_grow_stream)) (h : Sh.grow_stream_repeat s n dist = some r) : FnP Tryd.prog 90 [.box 59 [.fl .shr 1 (map (int .u8) s.b), .v (.int .i64 s.at_), .fl (.own 5) 1 (map (int .u8) s.out), .v (.int .i64 s.most), .v (.int .i64 s.blocks)], .v (.int .i64 n), .v (.int .i64 dist)] [.box 59 [.fl .shr 1 (map (int .u8) r.2.b), .v (.int .i64 r.2.at_), .fl (.own 5) 1 (map (int .u8) r.2.out), .v (.int .i64 r.2.most), .v (.int .i64 r.2.blocks)]] (.v (.int .i64 r.1)) := by
  unfold Sh.grow_stream_repeat at h
  refine fn_okP func90 rfl (zl rfl) rfl (zl rfl) fun args0 hargs0 g0 hn hio => ?_
  refine zgg hn [_,_,_,_,(6,vi 0)] [0,1,2,3] [0,1,2,3] [zq [] 4 6] [(_,_),(_,_),(_,_),(_,_)] rfl ⟨z2 rfl,zz⟩ ?_
  refine ht_seq ?_
  refine zgg hn [_,_,_,_,(7,vi dist),(8,.ptr 0 0),(9,.ptr 0 0),(10,.ptr 0 2),(11,.same (.cell 0 2)),(12,vi (s.out.length : Int)),(13,vb (decide ((s.out.length : Int) < dist)))] [0,1,2,3] [0,1,2,3,10] [zq [2] 4 7,zq [0] 5 8,zq [5,0] 6 9,zq [6,0] 7 10,zq [7,0] 8 11,zq [8,0] 9 12,zq [4,9] 10 13] [(_,_),(_,_),(_,_),(_,_),(_,_)] rfl ⟨z1 rfl,z1 rfl,zp rfl (op_nilCheck _ _ _ 0 0 rfl (by decide)),zp rfl (oF underlying59 rfl sz22),zp rfl (oL underlying22 rfl),zp rfl (op_len_fl _ _ _ underlying22 rfl (by decide) (map_len _)),z4 rfl rfl,zz⟩ ?_
  refine ht_cond _ rfl (fun hb1 => ?_) (fun hb1 => ?_)
  ·have h := cond_t hb1 h
   refine zgg hn [_,_,_,_,_,(6,vi 3)] [0,1,2,3,4] [0,3,5] [zq [] 5 6] [(_,_),(_,_),(_,_)] rfl ⟨z2 rfl,zz⟩ ?_
   refine ht_ret ?_
   refine pt_pick [2,0,1] (by kernel_rfl) (es' := [(_,_),(_,_),(_,_)]) rfl ?_
   refine pt_r_then ?_
   obtain rfl := zi h
   exact pt_retP (es := [(6, .v (.int .i64 3))]) (posts := [.box 59 [fb s.b, .v (.int .i64 s.at_), .fl (.own 5) 1 (map (int .u8) s.out), .v (.int .i64 s.most), .v (.int .i64 s.blocks)]]) hio rfl rfl (.tmp _ _ .nil) rfl rfl hargs0 rfl
  ·have h := cond_f hb1 h
   refine ht_skip ?_
   refine pt_then (ht_seq ?_)
   refine ht_seq ?_
   obtain ⟨v2, hv2, h⟩ := zn h
   refine ht_anyR (by kernel_rfl) hn (El := (_ :: _ :: _ :: _ :: _ :: (14,.same (.slot 0)) :: (15,.ptr 0 0) :: (16,.ptr 0 2) :: (17,.same (.cell 0 2)) :: (18,vi (s.out.length : Int)) :: (19,vi n) :: (20,vi v2) :: (21,.same (.slot 0)) :: (22,.ptr 0 0) :: (23,.ptr 0 3) :: (24,vi s.most) :: (25,vb (decide (s.most < v2))) :: [])) (init := [0,1,2,3,4]) (fin := [0,1,2,3,16]) (sps := [zq [] 5 14,zq [5,0] 6 15,zq [6,0] 7 16,zq [7,0] 8 17,zq [8,0] 9 18,zq [1] 10 19,zq [9,10] 11 20,zq [] 12 21,zq [12,0] 13 22,zq [13,0] 14 23,zq [14,0] 15 24,zq [11,15] 16 25]) (es' := [(_,_),(_,_),(_,_),(_,_),(25,vb (decide (s.most < v2)))]) (by kernel_rfl) rfl rfl ⟨zp rfl (op_move_name _ _ _ rfl),zp rfl (op_nilCheck_name _ _ _ 0 rfl rfl (by decide)),zp rfl (oF underlying59 rfl sz22),zp rfl (oL underlying22 rfl),zp rfl (op_len_fl _ _ _ underlying22 rfl (by decide) (map_len _)),z1 rfl,zp rfl (oB rfl (ibind (f := int .i64) (Option.some.inj hv2))),zp rfl (op_move_name _ _ _ rfl),zp rfl (op_nilCheck_name _ _ _ 0 rfl rfl (by decide)),zp rfl (oF underlying59 rfl sz3),zp rfl (oL underlying3 rfl),z4 rfl rfl,zz⟩ ?_
   refine pt_then ?_
   refine ht_cond _ rfl (fun hb3 => ?_) (fun hb3 => ?_)
   ·have h := cond_t hb3 h
    refine zgg hn [_,_,_,_,_,(6,vi 2)] [0,1,2,3,4] [0,3,5] [zq [] 5 6] [(_,_),(_,_),(_,_)] rfl ⟨z2 rfl,zz⟩ ?_
    refine ht_ret ?_
    refine pt_pick [2,0,1] (by kernel_rfl) (es' := [(_,_),(_,_),(_,_)]) rfl ?_
    refine pt_r_then ?_
    obtain rfl := zi h
    exact pt_retP (es := [(6, .v (.int .i64 2))]) (posts := [.box 59 [fb s.b, .v (.int .i64 s.at_), .fl (.own 5) 1 (map (int .u8) s.out), .v (.int .i64 s.most), .v (.int .i64 s.blocks)]]) hio rfl rfl (.tmp _ _ .nil) rfl rfl hargs0 rfl
   ·have h := cond_f hb3 h
    refine ht_skip ?_
    refine pt_then (ht_seq ?_)
    refine zgg hn [_,_,_,_,_,(26,vi n),(27,vi 0)] [0,1,2,3,4] [0,2,3,5,6] [zq [1] 5 26,zq [] 6 27] [(_,_),(_,_),(_,_),(_,_),(_,_)] rfl ⟨z1 rfl,z1 rfl,zz⟩ ?_
    refine ht_loopS h (fun ((s13,s14) : (List Int) × Int) => [(0,.box 59 [fb s.b,vi s.at_,.fl (.own 5) 1 (map (int .u8) s13),vi s.most,vi s.blocks]),(2,vi dist),(0,.v (List.getD args0 0 undef)),(26,vi n),(27,vi s14)]) (fun (s16 : (List Int)) => [(0,.box 59 [fb s.b,vi s.at_,.fl (.own 5) 1 (map (int .u8) s16),vi s.most,vi s.blocks]),(0,.v (List.getD args0 0 undef))]) ?_ ?_
    ·rintro s16 h
     refine pt_then ?_
     refine zgg hn [_,_,(6,vi 0)] [0,1] [0,1,2] [zq [] 2 6] [(_,_),(_,_),(_,_)] rfl ⟨z2 rfl,zz⟩ ?_
     refine ht_ret ?_
     refine pt_pick [2,0,1] (by kernel_rfl) (es' := [(_,_),(_,_),(_,_)]) rfl ?_
     obtain rfl := zi h
     exact pt_retP (es := [(6, .v (.int .i64 0))]) (posts := [.box 59 [fb s.b, .v (.int .i64 s.at_), .fl (.own 5) 1 (map (int .u8) s16), .v (.int .i64 s.most), .v (.int .i64 s.blocks)]]) hio rfl rfl (.tmp _ _ .nil) rfl rfl hargs0 rfl
    ·rintro u17 hl18 hr19 ⟨s13, s14⟩ rr22 h ho20
     refine zgg hn [_,_,_,_,_,(28,vb (decide (s14 < n)))] [0,1,2,3,4] [0,1,2,3,4,5] [zq [4,3] 5 28] [(_,_),(_,_),(_,_),(_,_),(_,_),(_,_)] rfl ⟨z4 rfl rfl,zz⟩ ?_
     refine ht_seq ?_
     refine ht_cond _ rfl (fun hb23 => ?_) (fun hb23 => ?_)
     ·have h := cond_t hb23 h
      refine ht_skip ?_
      refine pt_then (ht_seq ?_)
      refine ht_block ?_
      obtain ⟨v5, hv5, h⟩ := zn h
      obtain ⟨v6, hv6, h⟩ := zn h
      obtain ⟨v7, hv7, h⟩ := zn h
      obtain ⟨v8, hv8, h⟩ := zn h
      refine ht_anyR (by kernel_rfl) hn (El := (_ :: _ :: _ :: _ :: _ :: _ :: (29,.same (.slot 0)) :: (30,.same (.slot 0)) :: (31,.ptr 0 0) :: (32,.ptr 0 2) :: (33,.same (.cell 0 2)) :: (34,.same (.slot 0)) :: (35,.ptr 0 0) :: (36,.ptr 0 2) :: (37,.same (.cell 0 2)) :: (38,.same (.slot 0)) :: (39,.ptr 0 0) :: (40,.ptr 0 2) :: (41,.same (.cell 0 2)) :: (42,vi (s13.length : Int)) :: (43,vi dist) :: (44,vi v5) :: (45,.eref (.cell 0 2) (v6 * 1)) :: (46,.v (.int .u8 v7)) :: (47,.fl (.own 5) 1 (map (int .u8) [v7])) :: (48,.fl (.own 5) 1 (map (int .u8) v8)) :: (0,.box 59 [fb s.b,vi s.at_,.any,vi s.most,vi s.blocks]) :: (49,.ptr 0 0) :: (50,.ptr 0 2) :: (0,.box 59 [fb s.b,vi s.at_,.fl (.own 5) 1 (map (int .u8) v8),vi s.most,vi s.blocks]) :: [])) (init := [0,1,2,3,4,5]) (fin := [29,1,2,3,4]) (sps := (zq [] 6 29 :: zq [] 7 30 :: zq [7,0] 8 31 :: zq [8,0] 9 32 :: zq [9,0] 10 33 :: zq [] 11 34 :: zq [11,0] 12 35 :: zq [12,0] 13 36 :: zq [13,0] 14 37 :: zq [] 15 38 :: zq [15,0] 16 39 :: zq [16,0] 17 40 :: zq [17,0] 18 41 :: zq [18,0] 19 42 :: zq [1] 20 43 :: zq [19,20] 21 44 :: zq [14,0,21] 22 45 :: zq [22,0] 23 46 :: zq [23] 24 47 :: ⟨[10,24],[0],[26,25],[(.slot 48)]⟩ :: zq [6,26] 27 49 :: zq [27,26] 28 50 :: ⟨[28],[10,14,18,22,25,26],[29],[.cell 0 2]⟩ :: [])) (es' := [(0,.box 59 [fb s.b,vi s.at_,.fl (.own 5) 1 (map (int .u8) v8),vi s.most,vi s.blocks]),(_,_),(_,_),(_,_),(_,_)]) (by kernel_rfl) rfl rfl ⟨zp rfl (op_move_name _ _ _ rfl),zp rfl (op_move_name _ _ _ rfl),zp rfl (op_nilCheck_name _ _ _ 0 rfl rfl (by decide)),zp rfl (oF underlying59 rfl sz22),zp rfl (oL underlying22 rfl),zp rfl (op_move_name _ _ _ rfl),zp rfl (op_nilCheck_name _ _ _ 0 rfl rfl (by decide)),zp rfl (oF underlying59 rfl sz22),zp rfl (oL underlying22 rfl),zp rfl (op_move_name _ _ _ rfl),zp rfl (op_nilCheck_name _ _ _ 0 rfl rfl (by decide)),zp rfl (oF underlying59 rfl sz22),zp rfl (oL underlying22 rfl),zp rfl (op_len_fl _ _ _ underlying22 rfl (by decide) (map_len _)),z1 rfl,zp rfl (oB rfl (ibind (f := int .i64) (Option.some.inj hv5))),zp rfl (op_ix _ _ _ _ _ _ _ _ underlying22 sz5 (by decide) rfl rfl rfl (ix_ok hv6).1 (map_lt (ix_ok hv6).2) rfl),zp rfl (op_load_e _ _ _ _ _ _ underlying5 rfl rfl rfl (map_get hv7)),zp rfl (op_buildSlice _ _ 1 (.int .u8 0) (map (int .u8) [v7]) [(0,.int .u8 v7)] underlying22 sz5 zr5 (fun _ V w o a hv hes => by have e0 := rd_v hv hes (x := .tmp 46) rfl; simp only [List.map_toArray,List.map_cons,List.map_nil,e0]; try rfl) (litfill (by simp [Instr.fill,Value.cells]; rfl) (by simp [List.range,List.range.loop] <;> rfl)) (by simp [Value.oneCell']) rfl (by decide) (by decide) (by decide)),zp rfl (op_app_cell _ _ _ _ _ _ el22 rfl rfl (zl rfl) rfl (map_len _) (map_len _) hv8 ((List.map_append).symm.trans (congrArg (map _) (app_eq hv8))) (Nat.ne_of_beq_eq_false rfl) rfl rfl),zp rfl (op_nilCheck_name _ _ _ 0 rfl rfl (by decide)),zp rfl (oF underlying59 rfl sz22),zp rfl (LOp.drop [_] (LOp.drop [_] (LOp.drop [_] (LOp.drop [_] (op_store_take _ _ _ _ _ _ _ _ sz22 rfl rfl rfl (zl rfl) rfl rfl))))),zz⟩ ?_
      refine pt_inb ?_
      refine pt_then ?_
      obtain ⟨v9, hv9, h⟩ := zn h
      refine zg hn [_,_,_,_,_,(51,vi v9),(27,vi v9)] [0,1,2,3,4] [0,1,2,3,6] [zq [4] 5 51,⟨[5],[4],[6],[(.slot 27)]⟩] [(_,_),(_,_),(_,_),(_,_),(_,_)] rfl ⟨zp rfl (oB rfl (ibind (f := int .i64) (Option.some.inj hv9))),zp rfl (LOp.drop [_] (oM rfl)),zz⟩ ?_
      exact pt_next _ (zi h).symm rfl
     ·have h := cond_f hb23 h
      refine ht_exit ?_
      refine pt_x_then ?_
      refine pt_x_then ?_
      refine pt_x_in ?_
      refine pt_pick [0,2] (by kernel_rfl) (es' := [(_,_),(_,_)]) rfl ?_
      exact hl18 _ (ho20 _ (zi h).symm).symm
theorem ok_grow_stream_match (s : T_grow_stream) (x : Int) (dists : (List Int)) (r : (Int × T_grow_stream)) (h : Sh.grow_stream_match s x dists = some r) : FnP Tryd.prog 79 [.box 59 [.fl .shr 1 (map (int .u8) s.b), .v (.int .i64 s.at_), .fl (.own 5) 1 (map (int .u8) s.out), .v (.int .i64 s.most), .v (.int .i64 s.blocks)], .v (.int .i64 x), .fl .shr 1 (map (int .i64) dists)] [.box 59 [.fl .shr 1 (map (int .u8) r.2.b), .v (.int .i64 r.2.at_), .fl (.own 5) 1 (map (int .u8) r.2.out), .v (.int .i64 r.2.most), .v (.int .i64 r.2.blocks)]] (.v (.int .i64 r.1)) := by
  unfold Sh.grow_stream_match at h
  refine fn_okP func79 rfl (zl rfl) rfl (zl rfl) fun args0 hargs0 g0 hn hio => ?_
  refine zgg hn [_,_,_,_,(6,vi 0)] [0,1,2,3] [0,1,2,3] [zq [] 4 6] [(_,_),(_,_),(_,_),(_,_)] rfl ⟨z2 rfl,zz⟩ ?_
  refine ht_seq ?_
  refine zgg hn [_,_,_,_,(13,vi x),(14,vb (decide (285 < x)))] [0,1,2,3] [0,1,2,3,5] [zq [1] 4 13,zq [4] 5 14] [(_,_),(_,_),(_,_),(_,_),(_,_)] rfl ⟨z1 rfl,z4 rfl rfl,zz⟩ ?_
  refine ht_cond _ rfl (fun hb1 => ?_) (fun hb1 => ?_)
  ·have h := cond_t hb1 h
   refine zgg hn [_,_,_,_,_,(6,vi 3)] [0,1,2,3,4] [0,3,5] [zq [] 5 6] [(_,_),(_,_),(_,_)] rfl ⟨z2 rfl,zz⟩ ?_
   refine ht_ret ?_
   refine pt_pick [2,0,1] (by kernel_rfl) (es' := [(_,_),(_,_),(_,_)]) rfl ?_
   refine pt_r_then ?_
   obtain rfl := zi h
   exact pt_retP (es := [(6, .v (.int .i64 3))]) (posts := [.box 59 [fb s.b, .v (.int .i64 s.at_), .fl (.own 5) 1 (map (int .u8) s.out), .v (.int .i64 s.most), .v (.int .i64 s.blocks)]]) hio rfl rfl (.tmp _ _ .nil) rfl rfl hargs0 rfl
  ·have h := cond_f hb1 h
   refine ht_skip ?_
   refine pt_then (ht_seq ?_)
   obtain ⟨v2, hv2, h⟩ := zn h
   refine zg hn [_,_,_,_,_,(16,vi x),(17,.tup [vi v2.1,vi v2.2.1,vi v2.2.2]),(15,.tup [vi v2.1,vi v2.2.1,vi v2.2.2]),(18,vi v2.1),(19,vi v2.2.1),(20,vi v2.2.2),(7,vi v2.1),(8,vi v2.2.1),(9,vi v2.2.2)] [0,1,2,3,4] [0,2,3,11,12] [zq [1] 5 16,zq [5] 6 17,⟨[],[6],[7],[(.slot 15)]⟩,zq [7] 8 18,zq [7] 9 19,zq [7] 10 20,zq [8] 11 7,zq [9] 12 8,zq [10] 13 9] [(_,_),(_,_),(_,_),(_,_),(_,_)] rfl ⟨z1 rfl,zp rfl (op_call _ _ 88 _ _ rfl call88 rfl (ok_sym_LenOf x _ hv2) rfl rfl),zp rfl (op_move_take _ _ _ _ rfl),zp rfl (oE rfl),zp rfl (oE rfl),zp rfl (oE rfl),z2 rfl,z2 rfl,z2 rfl,zz⟩ ?_
   refine pt_then (ht_seq ?_)
   obtain ⟨v3, hv3, h⟩ := zn h
   refine zg hn [_,_,_,_,_,(22,.ptr 0 0),(23,vi v2.2.1),(24,.tup [vi v3.1,vi v3.2.1]),(0,.box 59 [fb v3.2.2.b,vi v3.2.2.at_,.fl (.own 5) 1 (map (int .u8) v3.2.2.out),vi v3.2.2.most,vi v3.2.2.blocks]),(21,.tup [vi v3.1,vi v3.2.1]),(25,vi v3.1),(26,vi v3.2.1),(10,vi v3.1),(11,vi v3.2.1)] [0,1,2,3,4] [8,1,2,3,12,13] [zq [0] 5 22,zq [4] 6 23,⟨[5,6],[0],[8,7],[(.slot 24),(.cell 0 0),(.cell 0 1),(.cell 0 2),(.cell 0 3),(.cell 0 4)]⟩,⟨[],[7],[9],[(.slot 21)]⟩,zq [9] 10 25,zq [9] 11 26,zq [10] 12 10,zq [11] 13 11] [(_,_),(_,_),(_,_),(_,_),(_,_),(_,_)] rfl ⟨z1 rfl,z1 rfl,zp rfl (op_callPS _ _ _ _ 24 58 [.tmp 22] [.tmp 23] _ _ _ rfl call58 rfl rfl rfl (ok_grow_stream_number s v2.2.1 _ hv3) (zl rfl) rfl rfl rfl rfl rfl rfl rfl),zp rfl (op_move_take _ _ _ _ rfl),zp rfl (oE rfl),zp rfl (oE rfl),z2 rfl,z2 rfl,zz⟩ ?_
   refine pt_then (ht_seq ?_)
   refine zgg hn [_,_,_,_,_,_,(27,vi v3.2.1),(28,vb (v3.2.1 != 0))] [0,1,2,3,4,5] [0,1,2,3,4,5,7] [zq [5] 6 27,zq [6] 7 28] [(_,_),(_,_),(_,_),(_,_),(_,_),(_,_),(_,_)] rfl ⟨z1 rfl,z4 rfl rfl,zz⟩ ?_
   refine ht_cond _ rfl (fun hb4 => ?_) (fun hb4 => ?_)
   ·have h := cond_t hb4 h
    refine zgg hn [_,_,_,_,_,_,_,(29,vi v3.2.1),(6,vi v3.2.1)] [0,1,2,3,4,5,6] [0,2,8] [zq [5] 7 29,zq [7] 8 6] [(_,_),(_,_),(_,_)] rfl ⟨z1 rfl,z2 rfl,zz⟩ ?_
    refine ht_ret ?_
    refine pt_pick [2,0,1] (by kernel_rfl) (es' := [(_,_),(_,_),(_,_)]) rfl ?_
    refine pt_r_then ?_
    obtain rfl := zi h
    exact pt_retP (es := [(6, .v (.int .i64 v3.2.1))]) (posts := [.box 59 [fb v3.2.2.b, .v (.int .i64 v3.2.2.at_), .fl (.own 5) 1 (map (int .u8) v3.2.2.out), .v (.int .i64 v3.2.2.most), .v (.int .i64 v3.2.2.blocks)]]) hio rfl rfl (.tmp _ _ .nil) rfl rfl hargs0 rfl
   ·have h := cond_f hb4 h
    refine ht_skip ?_
    refine pt_then (ht_seq ?_)
    obtain ⟨v5, hv5, h⟩ := zn h
    refine zg hn [_,_,_,_,_,_,_,(30,vi v2.1),(31,vi v3.1),(32,vi v5),(12,vi v5)] [0,1,2,3,4,5,6] [0,1,2,10] [zq [3] 7 30,zq [4] 8 31,zq [7,8] 9 32,zq [9] 10 12] [(_,_),(_,_),(_,_),(_,_)] rfl ⟨z1 rfl,z1 rfl,zp rfl (oB rfl (ibind (f := int .i64) (Option.some.inj hv5))),z2 rfl,zz⟩ ?_
    refine pt_then (ht_seq ?_)
    refine ht_seq ?_
    obtain ⟨v6, hv6, h⟩ := zn h
    refine zg hn [_,_,_,_,(34,.ptr 0 0),(35,fi dists),(36,.tup [vi v6.1,vi v6.2.1]),(0,.box 59 [fb v6.2.2.b,vi v6.2.2.at_,.fl (.own 5) 1 (map (int .u8) v6.2.2.out),vi v6.2.2.most,vi v6.2.2.blocks]),(33,.tup [vi v6.1,vi v6.2.1]),(37,vi v6.1),(38,vi v6.2.1),(1,vi v6.1),(11,vi v6.2.1)] [0,1,2,3] [7,2,3,11,12] [zq [0] 4 34,zq [1] 5 35,⟨[4,5],[0],[7,6],[(.slot 36),(.cell 0 0),(.cell 0 1),(.cell 0 2),(.cell 0 3),(.cell 0 4)]⟩,⟨[],[6],[8],[(.slot 33)]⟩,zq [8] 9 37,zq [8] 10 38,zq [9] 11 1,zq [10] 12 11] [(_,_),(_,_),(_,_),(_,_),(_,_)] rfl ⟨z1 rfl,z1 rfl,zp rfl (op_callPS _ _ _ _ 36 78 [.tmp 34] [.tmp 35] _ _ _ rfl call78 rfl rfl rfl (ok_grow_stream_symbol v3.2.2 dists _ hv6) (zl rfl) rfl rfl rfl rfl rfl rfl rfl),zp rfl (op_move_take _ _ _ _ rfl),zp rfl (oE rfl),zp rfl (oE rfl),z2 rfl,z2 rfl,zz⟩ ?_
    refine pt_then ?_
    refine zgg hn [_,_,_,_,_,(39,vi v6.2.1),(40,vb (v6.2.1 != 0))] [0,1,2,3,4] [0,1,2,3,4,6] [zq [4] 5 39,zq [5] 6 40] [(_,_),(_,_),(_,_),(_,_),(_,_),(_,_)] rfl ⟨z1 rfl,z4 rfl rfl,zz⟩ ?_
    refine ht_cond _ rfl (fun hb7 => ?_) (fun hb7 => ?_)
    ·have h := cond_t hb7 h
     refine zgg hn [_,_,_,_,_,_,(41,vi v6.2.1),(6,vi v6.2.1)] [0,1,2,3,4,5] [0,1,7] [zq [4] 6 41,zq [6] 7 6] [(_,_),(_,_),(_,_)] rfl ⟨z1 rfl,z2 rfl,zz⟩ ?_
     refine ht_ret ?_
     refine pt_pick [2,0,1] (by kernel_rfl) (es' := [(_,_),(_,_),(_,_)]) rfl ?_
     refine pt_r_then ?_
     obtain rfl := zi h
     exact pt_retP (es := [(6, .v (.int .i64 v6.2.1))]) (posts := [.box 59 [fb v6.2.2.b, .v (.int .i64 v6.2.2.at_), .fl (.own 5) 1 (map (int .u8) v6.2.2.out), .v (.int .i64 v6.2.2.most), .v (.int .i64 v6.2.2.blocks)]]) hio rfl rfl (.tmp _ _ .nil) rfl rfl hargs0 rfl
    ·have h := cond_f hb7 h
     refine ht_skip ?_
     refine pt_then (ht_seq ?_)
     obtain ⟨v8, hv8, h⟩ := zn h
     refine zg hn (_::_::_::_::_::_::(43,vi v6.1)::(44,.tup [vi v8.1,vi v8.2.1,vi v8.2.2])::(42,.tup [vi v8.1,vi v8.2.1,vi v8.2.2])::(45,vi v8.1)::(46,vi v8.2.1)::(47,vi v8.2.2)::(7,vi v8.1)::(8,vi v8.2.1)::(11,vi v8.2.2)::[]) [0,1,2,3,4,5] [0,1,2,12,13,14] [zq [3] 6 43,zq [6] 7 44,⟨[],[7],[8],[(.slot 42)]⟩,zq [8] 9 45,zq [8] 10 46,zq [8] 11 47,zq [9] 12 7,zq [10] 13 8,⟨[11],[4],[14],[(.slot 11)]⟩] [(_,_),(_,_),(_,_),(_,_),(_,_),(_,_)] rfl ⟨z1 rfl,zp rfl (op_call _ _ 89 _ _ rfl call89 rfl (ok_sym_DistOf v6.1 _ hv8) rfl rfl),zp rfl (op_move_take _ _ _ _ rfl),zp rfl (oE rfl),zp rfl (oE rfl),zp rfl (oE rfl),z2 rfl,z2 rfl,zp rfl (LOp.drop [_] (op_assign _ _ _ _ rfl rfl)),zz⟩ ?_
     refine pt_then (ht_seq ?_)
     refine zgg hn [_,_,_,_,_,_,(48,vi v8.2.2),(49,vb (v8.2.2 != 0))] [0,1,2,3,4,5] [0,1,2,3,4,7] [zq [5] 6 48,zq [6] 7 49] [(_,_),(_,_),(_,_),(_,_),(_,_),(_,_)] rfl ⟨z1 rfl,z4 rfl rfl,zz⟩ ?_
     refine ht_cond _ rfl (fun hb9 => ?_) (fun hb9 => ?_)
     ·have h := cond_t hb9 h
      refine zgg hn [_,_,_,_,_,_,(6,vi 3)] [0,1,2,3,4,5] [0,1,6] [zq [] 6 6] [(_,_),(_,_),(_,_)] rfl ⟨z2 rfl,zz⟩ ?_
      refine ht_ret ?_
      refine pt_pick [2,0,1] (by kernel_rfl) (es' := [(_,_),(_,_),(_,_)]) rfl ?_
      refine pt_r_then ?_
      obtain rfl := zi h
      exact pt_retP (es := [(6, .v (.int .i64 3))]) (posts := [.box 59 [fb v6.2.2.b, .v (.int .i64 v6.2.2.at_), .fl (.own 5) 1 (map (int .u8) v6.2.2.out), .v (.int .i64 v6.2.2.most), .v (.int .i64 v6.2.2.blocks)]]) hio rfl rfl (.tmp _ _ .nil) rfl rfl hargs0 rfl
     ·have h := cond_f hb9 h
      refine ht_skip ?_
      refine pt_then (ht_seq ?_)
      refine ht_seq ?_
      obtain ⟨v10, hv10, h⟩ := zn h
      refine zg hn (_::_::_::_::_::_::(51,.ptr 0 0)::(52,vi v8.2.1)::(53,.tup [vi v10.1,vi v10.2.1])::(0,.box 59 [fb v10.2.2.b,vi v10.2.2.at_,.fl (.own 5) 1 (map (int .u8) v10.2.2.out),vi v10.2.2.most,vi v10.2.2.blocks])::(50,.tup [vi v10.1,vi v10.2.1])::(54,vi v10.1)::(55,vi v10.2.1)::(10,vi v10.1)::(11,vi v10.2.1)::[]) [0,1,2,3,4,5] [9,1,2,3,13,14] [zq [0] 6 51,zq [4] 7 52,⟨[6,7],[0],[9,8],[(.slot 53),(.cell 0 0),(.cell 0 1),(.cell 0 2),(.cell 0 3),(.cell 0 4)]⟩,⟨[],[8],[10],[(.slot 50)]⟩,zq [10] 11 54,zq [10] 12 55,zq [11] 13 10,zq [12] 14 11] [(_,_),(_,_),(_,_),(_,_),(_,_),(_,_)] rfl ⟨z1 rfl,z1 rfl,zp rfl (op_callPS _ _ _ _ 53 58 [.tmp 51] [.tmp 52] _ _ _ rfl call58 rfl rfl rfl (ok_grow_stream_number v6.2.2 v8.2.1 _ hv10) (zl rfl) rfl rfl rfl rfl rfl rfl rfl),zp rfl (op_move_take _ _ _ _ rfl),zp rfl (oE rfl),zp rfl (oE rfl),z2 rfl,z2 rfl,zz⟩ ?_
      refine pt_then ?_
      refine zgg hn [_,_,_,_,_,_,(56,vi v10.2.1),(57,vb (v10.2.1 != 0))] [0,1,2,3,4,5] [0,1,2,3,4,5,7] [zq [5] 6 56,zq [6] 7 57] [(_,_),(_,_),(_,_),(_,_),(_,_),(_,_),(_,_)] rfl ⟨z1 rfl,z4 rfl rfl,zz⟩ ?_
      refine ht_cond _ rfl (fun hb11 => ?_) (fun hb11 => ?_)
      ·have h := cond_t hb11 h
       refine zgg hn [_,_,_,_,_,_,_,(58,vi v10.2.1),(6,vi v10.2.1)] [0,1,2,3,4,5,6] [0,1,8] [zq [5] 7 58,zq [7] 8 6] [(_,_),(_,_),(_,_)] rfl ⟨z1 rfl,z2 rfl,zz⟩ ?_
       refine ht_ret ?_
       refine pt_pick [2,0,1] (by kernel_rfl) (es' := [(_,_),(_,_),(_,_)]) rfl ?_
       refine pt_r_then ?_
       obtain rfl := zi h
       exact pt_retP (es := [(6, .v (.int .i64 v10.2.1))]) (posts := [.box 59 [fb v10.2.2.b, .v (.int .i64 v10.2.2.at_), .fl (.own 5) 1 (map (int .u8) v10.2.2.out), .v (.int .i64 v10.2.2.most), .v (.int .i64 v10.2.2.blocks)]]) hio rfl rfl (.tmp _ _ .nil) rfl rfl hargs0 rfl
      ·have h := cond_f hb11 h
       refine ht_skip ?_
       refine pt_then (ht_seq ?_)
       obtain ⟨v12, hv12, h⟩ := zn h
       obtain ⟨v13, hv13, h⟩ := zn h
       refine zg hn (_::_::_::_::_::_::_::(59,.ptr 0 0)::(60,vi v5)::(61,vi v8.1)::(62,vi v10.1)::(63,vi v12)::(64,vi v13.1)::(0,.box 59 [fb v13.2.b,vi v13.2.at_,.fl (.own 5) 1 (map (int .u8) v13.2.out),vi v13.2.most,vi v13.2.blocks])::(6,vi v13.1)::[]) [0,1,2,3,4,5,6] [13,1,14] [zq [0] 7 59,zq [2] 8 60,zq [3] 9 61,zq [4] 10 62,zq [9,10] 11 63,⟨[7,8,11],[0],[13,12],[(.slot 64),(.cell 0 0),(.cell 0 1),(.cell 0 2),(.cell 0 3),(.cell 0 4)]⟩,zq [12] 14 6] [(_,_),(_,_),(_,_)] rfl ⟨z1 rfl,z1 rfl,z1 rfl,z1 rfl,zp rfl (oB rfl (ibind (f := int .i64) (Option.some.inj hv12))),zp rfl (op_callPS _ _ _ _ 64 90 [.tmp 59] [.tmp 60, .tmp 63] _ _ _ rfl call90 rfl rfl rfl (ok_grow_stream_repeat v10.2.2 v5 v12 _ hv13) (zl rfl) rfl rfl rfl rfl rfl rfl rfl),z2 rfl,zz⟩ ?_
       refine pt_then (ht_ret ?_)
       refine pt_pick [2,0,1] (by kernel_rfl) (es' := [(_,_),(_,_),(_,_)]) rfl ?_
       obtain rfl := zi h
       exact pt_retP (es := [(6, .v (.int .i64 v13.1))]) (posts := [.box 59 [fb v13.2.b, .v (.int .i64 v13.2.at_), .fl (.own 5) 1 (map (int .u8) v13.2.out), .v (.int .i64 v13.2.most), .v (.int .i64 v13.2.blocks)]]) hio rfl rfl (.tmp _ _ .nil) rfl rfl hargs0 rfl
theorem ok_grow_stream_tokens (s : T_grow_stream) (lits : (List Int)) (dists : (List Int)) (r : (Int × T_grow_stream)) (h : Sh.grow_stream_tokens s lits dists = some r) : FnP Tryd.prog 60 [.box 59 [.fl .shr 1 (map (int .u8) s.b), .v (.int .i64 s.at_), .fl (.own 5) 1 (map (int .u8) s.out), .v (.int .i64 s.most), .v (.int .i64 s.blocks)], .fl .shr 1 (map (int .i64) lits), .fl .shr 1 (map (int .i64) dists)] [.box 59 [.fl .shr 1 (map (int .u8) r.2.b), .v (.int .i64 r.2.at_), .fl (.own 5) 1 (map (int .u8) r.2.out), .v (.int .i64 r.2.most), .v (.int .i64 r.2.blocks)]] (.v (.int .i64 r.1)) := by
  unfold Sh.grow_stream_tokens at h
  refine fn_okP func60 rfl (zl rfl) rfl (zl rfl) fun args0 hargs0 g0 hn hio => ?_
  refine zgg hn [_,_,_,_,(6,vi 0)] [0,1,2,3] [0,1,2,3] [zq [] 4 6] [(_,_),(_,_),(_,_),(_,_)] rfl ⟨z2 rfl,zz⟩ ?_
  refine ht_loopS h (fun ((s39,s40,s41,s42,s43) : (List Int) × Int × (List Int) × Int × Int) => [(0,.box 59 [fb s39,vi s40,.fl (.own 5) 1 (map (int .u8) s41),vi s42,vi s43]),(1,fi lits),(2,fi dists),(0,.v (List.getD args0 0 undef))]) (fun (() : Unit) => []) ?_ ?_
  ·rintro ⟨⟩ h
   cases h
  ·rintro u59 hl60 hr61 ⟨s39, s40, s41, s42, s43⟩ rr64 h ho62
   refine ht_block ?_
   refine ht_seq ?_
   obtain ⟨v1, hv1, h⟩ := zn h
   refine zg hn [_,_,_,_,(10,.ptr 0 0),(11,fi lits),(12,.tup [vi v1.1,vi v1.2.1]),(0,.box 59 [fb v1.2.2.b,vi v1.2.2.at_,.fl (.own 5) 1 (map (int .u8) v1.2.2.out),vi v1.2.2.most,vi v1.2.2.blocks]),(9,.tup [vi v1.1,vi v1.2.1]),(13,vi v1.1),(14,vi v1.2.1),(7,vi v1.1),(8,vi v1.2.1)] [0,1,2,3] [7,1,2,3,11,12] [zq [0] 4 10,zq [1] 5 11,⟨[4,5],[0],[7,6],[(.slot 12),(.cell 0 0),(.cell 0 1),(.cell 0 2),(.cell 0 3),(.cell 0 4)]⟩,⟨[],[6],[8],[(.slot 9)]⟩,zq [8] 9 13,zq [8] 10 14,zq [9] 11 7,zq [10] 12 8] [(_,_),(_,_),(_,_),(_,_),(_,_),(_,_)] rfl ⟨z1 rfl,z1 rfl,zp rfl (op_callPS _ _ _ _ 12 78 [.tmp 10] [.tmp 11] _ _ _ rfl call78 rfl rfl rfl (ok_grow_stream_symbol (T_grow_stream.mk s39 s40 s41 s42 s43) lits _ hv1) (zl rfl) rfl rfl rfl rfl rfl rfl rfl),zp rfl (op_move_take _ _ _ _ rfl),zp rfl (oE rfl),zp rfl (oE rfl),z2 rfl,z2 rfl,zz⟩ ?_
   refine pt_then (ht_seq ?_)
   refine zgg hn [_,_,_,_,_,_,(15,vi v1.2.1),(16,vb (v1.2.1 != 0))] [0,1,2,3,4,5] [0,1,2,3,4,5,7] [zq [5] 6 15,zq [6] 7 16] [(_,_),(_,_),(_,_),(_,_),(_,_),(_,_),(_,_)] rfl ⟨z1 rfl,z4 rfl rfl,zz⟩ ?_
   refine ht_cond _ rfl (fun hb65 => ?_) (fun hb65 => ?_)
   ·have h := cond_t hb65 h
    refine zgg hn [_,_,_,_,_,_,_,(17,vi v1.2.1),(6,vi v1.2.1)] [0,1,2,3,4,5,6] [0,3,8] [zq [5] 7 17,zq [7] 8 6] [(_,_),(_,_),(_,_)] rfl ⟨z1 rfl,z2 rfl,zz⟩ ?_
    refine ht_ret ?_
    refine pt_pick [2,0,1] (by kernel_rfl) (es' := [(_,_),(_,_),(_,_)]) rfl ?_
    refine pt_r_then ?_
    refine pt_r_in ?_
    refine pt_r_then ?_
    refine pt_r_in ?_
    have h := hr61 _ (ho62 _ (zi h).symm).symm
    obtain rfl := zi h
    exact pt_retP (es := [(6, .v (.int .i64 v1.2.1))]) (posts := [.box 59 [fb v1.2.2.b, .v (.int .i64 v1.2.2.at_), .fl (.own 5) 1 (map (int .u8) v1.2.2.out), .v (.int .i64 v1.2.2.most), .v (.int .i64 v1.2.2.blocks)]]) hio rfl rfl (.tmp _ _ .nil) rfl rfl hargs0 rfl
   ·have h := cond_f hb65 h
    refine ht_skip ?_
    refine pt_then (ht_seq ?_)
    refine ht_joinS h (fun ((s68,s69,s70,s71,s72,s73) : (List Int) × Int × (List Int) × Int × Int × Int) => [(0,.box 59 [fb s68,vi s69,.fl (.own 5) 1 (map (int .u8) s70),vi s71,vi s72]),(1,fi lits),(2,fi dists),(0,.v (List.getD args0 0 undef)),(8,vi s73)]) ?_ ?_
    ·rintro ⟨s68, s69, s70, s71, s72, s73⟩ h
     refine pt_then ?_
     refine zgg hn [_,_,_,_,_,(31,vi s73),(32,vb (s73 != 0))] [0,1,2,3,4] [0,1,2,3,4,6] [zq [4] 5 31,zq [5] 6 32] [(_,_),(_,_),(_,_),(_,_),(_,_),(_,_)] rfl ⟨z1 rfl,z4 rfl rfl,zz⟩ ?_
     refine ht_cond _ rfl (fun hb79 => ?_) (fun hb79 => ?_)
     ·have h := cond_t hb79 h
      refine zgg hn [_,_,_,_,_,_,(33,vi s73),(6,vi s73)] [0,1,2,3,4,5] [0,3,7] [zq [4] 6 33,zq [6] 7 6] [(_,_),(_,_),(_,_)] rfl ⟨z1 rfl,z2 rfl,zz⟩ ?_
      refine ht_ret ?_
      refine pt_pick [2,0,1] (by kernel_rfl) (es' := [(_,_),(_,_),(_,_)]) rfl ?_
      refine pt_r_in ?_
      refine pt_r_then ?_
      refine pt_r_in ?_
      have h := hr61 _ (ho62 _ (zi h).symm).symm
      obtain rfl := zi h
      exact pt_retP (es := [(6, .v (.int .i64 s73))]) (posts := [.box 59 [fb s68, .v (.int .i64 s69), .fl (.own 5) 1 (map (int .u8) s70), .v (.int .i64 s71), .v (.int .i64 s72)]]) hio rfl rfl (.tmp _ _ .nil) rfl rfl hargs0 rfl
     ·have h := cond_f hb79 h
      refine ht_skip ?_
      refine pt_inb ?_
      refine pt_pick [0,1,2,3] (by kernel_rfl) (es' := [(_,_),(_,_),(_,_),(_,_)]) rfl ?_
      exact pt_next _ (zi h).symm rfl
    ·intro u74 h hl75 hr76
     refine ht_block ?_
     refine zgg hn [_,_,_,_,_,_,_,(23,vi v1.1),(24,vb (v1.1 == 256)),(22,vb (v1.1 == 256))] [0,1,2,3,4,5,6] [0,1,2,3,4,9] [zq [4] 7 23,zq [7] 8 24,zq [8] 9 22] [(_,_),(_,_),(_,_),(_,_),(_,_),(_,_)] rfl ⟨z1 rfl,z4 rfl rfl,z2 rfl,zz⟩ ?_
     refine ht_cond _ rfl (fun hb77 => ?_) (fun hb77 => ?_)
     ·have h := cond_t hb77 h
      refine zgg hn [_,_,_,_,_,_,(6,vi 0)] [0,1,2,3,4,5] [0,3,6] [zq [] 6 6] [(_,_),(_,_),(_,_)] rfl ⟨z2 rfl,zz⟩ ?_
      refine ht_ret ?_
      refine pt_pick [2,0,1] (by kernel_rfl) (es' := [(_,_),(_,_),(_,_)]) rfl ?_
      refine pt_r_in ?_
      refine pt_r_then ?_
      refine pt_r_in ?_
      refine pt_r_then ?_
      refine pt_r_in ?_
      have h := hr76 _ (zi h).symm
      have h := hr61 _ (ho62 _ (zi h).symm).symm
      obtain rfl := zi h
      exact pt_retP (es := [(6, .v (.int .i64 0))]) (posts := [.box 59 [fb v1.2.2.b, .v (.int .i64 v1.2.2.at_), .fl (.own 5) 1 (map (int .u8) v1.2.2.out), .v (.int .i64 v1.2.2.most), .v (.int .i64 v1.2.2.blocks)]]) hio rfl rfl (.tmp _ _ .nil) rfl rfl hargs0 rfl
     ·have h := cond_f hb77 h
      refine zgg hn [_,_,_,_,_,_,(26,vi v1.1),(27,vb (decide (v1.1 < 256))),(25,vb (decide (v1.1 < 256)))] [0,1,2,3,4,5] [0,1,2,3,4,8] [zq [4] 6 26,zq [6] 7 27,zq [7] 8 25] [(_,_),(_,_),(_,_),(_,_),(_,_),(_,_)] rfl ⟨z1 rfl,z4 rfl rfl,z2 rfl,zz⟩ ?_
      refine ht_cond _ rfl (fun hb78 => ?_) (fun hb78 => ?_)
      ·have h := cond_t hb78 h
       obtain ⟨v5, hv5, h⟩ := zn h
       refine zg hn [_,_,_,_,_,_,(28,.ptr 0 0),(29,vi v1.1),(30,vi v5.1),(0,.box 59 [fb v5.2.b,vi v5.2.at_,.fl (.own 5) 1 (map (int .u8) v5.2.out),vi v5.2.most,vi v5.2.blocks]),(8,vi v5.1)] [0,1,2,3,4,5] [9,1,2,3,10] [zq [0] 6 28,zq [4] 7 29,⟨[6,7],[0],[9,8],[(.slot 30),(.cell 0 0),(.cell 0 1),(.cell 0 2),(.cell 0 3),(.cell 0 4)]⟩,zq [8] 10 8] [(_,_),(_,_),(_,_),(_,_),(_,_)] rfl ⟨z1 rfl,z1 rfl,zp rfl (op_callPS _ _ _ _ 30 77 [.tmp 28] [.tmp 29] _ _ _ rfl call77 rfl rfl rfl (ok_grow_stream_literal v1.2.2 v1.1 _ hv5) (zl rfl) rfl rfl rfl rfl rfl rfl rfl),z2 rfl,zz⟩ ?_
       refine pt_inb ?_
       exact hl75 _ (zi h).symm
      ·have h := cond_f hb78 h
       obtain ⟨v6, hv6, h⟩ := zn h
       refine zg hn [_,_,_,_,_,_,(18,.ptr 0 0),(19,vi v1.1),(20,fi dists),(21,vi v6.1),(0,.box 59 [fb v6.2.b,vi v6.2.at_,.fl (.own 5) 1 (map (int .u8) v6.2.out),vi v6.2.most,vi v6.2.blocks]),(8,vi v6.1)] [0,1,2,3,4,5] [10,1,2,3,11] [zq [0] 6 18,zq [4] 7 19,zq [2] 8 20,⟨[6,7,8],[0],[10,9],[(.slot 21),(.cell 0 0),(.cell 0 1),(.cell 0 2),(.cell 0 3),(.cell 0 4)]⟩,zq [9] 11 8] [(_,_),(_,_),(_,_),(_,_),(_,_)] rfl ⟨z1 rfl,z1 rfl,z1 rfl,zp rfl (op_callPS _ _ _ _ 21 79 [.tmp 18] [.tmp 19, .tmp 20] _ _ _ rfl call79 rfl rfl rfl (ok_grow_stream_match v1.2.2 v1.1 dists _ hv6) (zl rfl) rfl rfl rfl rfl rfl rfl rfl),z2 rfl,zz⟩ ?_
       refine pt_inb ?_
       exact hl75 _ (zi h).symm
theorem ok_grow_stream_rowLengths (mx : Int) (s : T_grow_stream) (r : ((List Int) × Int × T_grow_stream)) (h : Sh.grow_stream_rowLengths s = some r) : FnPG Tryd.prog (GL mx) 80 [.box 59 [.fl .shr 1 (map (int .u8) s.b), .v (.int .i64 s.at_), .fl (.own 5) 1 (map (int .u8) s.out), .v (.int .i64 s.most), .v (.int .i64 s.blocks)]] [.box 59 [.fl .shr 1 (map (int .u8) r.2.2.b), .v (.int .i64 r.2.2.at_), .fl (.own 5) 1 (map (int .u8) r.2.2.out), .v (.int .i64 r.2.2.most), .v (.int .i64 r.2.2.blocks)]] (.tup [.fl (.own 3) 1 (map (int .i64) r.1), .v (.int .i64 r.2.1)]) := by
  unfold Sh.grow_stream_rowLengths at h
  refine fn_okPG func80 rfl (zl rfl) rfl (zl rfl) fun args0 hargs0 g0 hn hio => ?_
  refine zgg hn [_,_,_,(2,vz),(3,vi 0)] [0,1,2] [0,1,2] [zq [] 3 2,zq [] 4 3] [(_,_),(_,_),(_,_)] rfl ⟨z2 rfl,z2 rfl,zz⟩ ?_
  refine ht_seq ?_
  obtain ⟨v1, hv1, h⟩ := zn h
  refine zg hn [_,_,_,(9,.ptr 0 0),(10,.tup [vi v1.1,vi v1.2.1]),(0,.box 59 [fb v1.2.2.b,vi v1.2.2.at_,.fl (.own 5) 1 (map (int .u8) v1.2.2.out),vi v1.2.2.most,vi v1.2.2.blocks]),(8,.tup [vi v1.1,vi v1.2.1]),(11,vi v1.1),(12,vi v1.2.1),(4,vi v1.1),(5,vi v1.2.1)] [0,1,2] [5,1,2,9,10] [zq [0] 3 9,⟨[3],[0],[5,4],[(.slot 10),(.cell 0 0),(.cell 0 1),(.cell 0 2),(.cell 0 3),(.cell 0 4)]⟩,⟨[],[4],[6],[(.slot 8)]⟩,zq [6] 7 11,zq [6] 8 12,zq [7] 9 4,zq [8] 10 5] [(_,_),(_,_),(_,_),(_,_),(_,_)] rfl ⟨z1 rfl,zp rfl (op_callPS _ _ _ _ 10 58 [.tmp 9] [_] _ _ _ rfl call58 rfl rfl rfl (ok_grow_stream_number s 4 _ hv1) (zl rfl) rfl rfl rfl rfl rfl rfl rfl),zp rfl (op_move_take _ _ _ _ rfl),zp rfl (oE rfl),zp rfl (oE rfl),z2 rfl,z2 rfl,zz⟩ ?_
  refine pt_then (ht_seq ?_)
  refine zgg hn [_,_,_,_,_,(13,vi v1.2.1),(14,vb (v1.2.1 != 0))] [0,1,2,3,4] [0,1,2,3,4,6] [zq [4] 5 13,zq [5] 6 14] [(_,_),(_,_),(_,_),(_,_),(_,_),(_,_)] rfl ⟨z1 rfl,z4 rfl rfl,zz⟩ ?_
  refine ht_cond _ rfl (fun hb2 => ?_) (fun hb2 => ?_)
  ·have h := cond_t hb2 h
   refine zgg hn [_,_,_,_,_,_,(15,vi v1.2.1),(2,vz),(3,vi v1.2.1)] [0,1,2,3,4,5] [0,1,2,7,8] [zq [4] 6 15,zq [] 7 2,zq [6] 8 3] [(_,_),(_,_),(_,_),(_,_),(_,_)] rfl ⟨z1 rfl,z2 rfl,z2 rfl,zz⟩ ?_
   refine ht_ret ?_
   refine pt_pick [3,4,0,1] (by kernel_rfl) (es' := [(_,_),(_,_),(_,_),(_,_)]) rfl ?_
   refine pt_sub (fs := [(2,.fl (.own 3) 1 (map (int .i64) [])),(3,vi v1.2.1),(0,.box 59 [fb v1.2.2.b,vi v1.2.2.at_,.fl (.own 5) 1 (map (int .u8) v1.2.2.out),vi v1.2.2.most,vi v1.2.2.blocks]),(0,.v (List.getD args0 0 undef))]) (.sub _ (sub_nil 3 1) rfl (.same _ (.same _ (.same _ .nil)))) ?_
   refine pt_r_then ?_
   obtain rfl := zi h
   exact pt_retP (es := [(2, .fl (.own 3) 1 (map (int .i64) [])), (3, .v (.int .i64 v1.2.1))]) (posts := [.box 59 [fb v1.2.2.b, .v (.int .i64 v1.2.2.at_), .fl (.own 5) 1 (map (int .u8) v1.2.2.out), .v (.int .i64 v1.2.2.most), .v (.int .i64 v1.2.2.blocks)]]) hio rfl rfl (.tmp _ _ (.tmp _ _ .nil)) rfl rfl hargs0 rfl
  ·have h := cond_f hb2 h
   refine ht_skip ?_
   refine pt_then (ht_seq ?_)
   obtain ⟨v3, hv3, h⟩ := zn h
   refine zg hn [_,_,_,_,_,_,(16,.fl (.own 3) 1 (map (int .i64) v3)),(6,.fl (.own 3) 1 (map (int .i64) v3))] [0,1,2,3,4,5] [0,1,2,3,7] [zq [] 6 16,⟨[],[6],[7],[(.slot 6)]⟩] [(_,_),(_,_),(_,_),(_,_),(_,_)] rfl ⟨zp rfl (op_mk (f := int .i64) _ _ _ _ el73 (by decide) zr3 rfl rfl rfl hv3),zp rfl (op_assign_take _ _ _ _ rfl),zz⟩ ?_
   refine pt_then (ht_seq ?_)
   refine ht_seq ?_
   obtain ⟨v4, hv4, h⟩ := zn h
   refine zg hn [_,_,_,_,_,(17,vi v1.1),(18,vi v4),(19,vi 0)] [0,1,2,3,4] [0,1,2,4,6,7] [zq [3] 5 17,zq [5] 6 18,zq [] 7 19] [(_,_),(_,_),(_,_),(_,_),(_,_),(_,_)] rfl ⟨z1 rfl,zp rfl (oB rfl (ibind (f := int .i64) (Option.some.inj hv4))),z1 rfl,zz⟩ ?_
   refine pt_then ?_
   refine ht_loopS h (fun ((s22,s23,s24,s25,s26,s27,s28) : (List Int) × Int × (List Int) × Int × Int × (List Int) × Int) => [(0,.box 59 [fb s22,vi s23,.fl (.own 5) 1 (map (int .u8) s24),vi s25,vi s26]),(0,.v (List.getD args0 0 undef)),(40,.glob (GL mx)),(6,.fl (.own 3) 1 (map (int .i64) s27)),(18,vi v4),(19,vi s28)]) (fun ((s31,s32,s33,s34,s35,s36) : (List Int) × Int × (List Int) × Int × Int × (List Int)) => [(0,.box 59 [fb s31,vi s32,.fl (.own 5) 1 (map (int .u8) s33),vi s34,vi s35]),(0,.v (List.getD args0 0 undef)),(40,.glob (GL mx)),(6,.fl (.own 3) 1 (map (int .i64) s36))]) ?_ ?_
   ·rintro ⟨s31, s32, s33, s34, s35, s36⟩ h
    refine pt_then (ht_seq ?_)
    refine ht_seq ?_
    obtain ⟨v45, hv45, h⟩ := zn h
    refine zg hn [_,_,_,_,(36,.same (.slot 6)),(37,vi v45),(38,vb (v45 != 0))] [0,1,2,3] [0,1,2,3,6] [zq [3] 4 36,zq [4,3] 5 37,zq [5] 6 38] [(_,_),(_,_),(_,_),(_,_),(_,_)] rfl ⟨z1 rfl,zp rfl (op_call _ _ 66 _ _ rfl call66 rfl (ok_canon_Check s36 _ hv45) rfl rfl),z4 rfl rfl,zz⟩ ?_
    refine pt_then ?_
    refine ht_cond _ rfl (fun hb46 => ?_) (fun hb46 => ?_)
    ·have h := cond_t hb46 h
     refine zgg hn [_,_,_,_,_,(2,vz),(3,vi 3)] [0,1,2,3,4] [0,1,2,5,6] [zq [] 5 2,zq [] 6 3] [(_,_),(_,_),(_,_),(_,_),(_,_)] rfl ⟨z2 rfl,z2 rfl,zz⟩ ?_
     refine ht_ret ?_
     refine pt_pick [3,4,0,1] (by kernel_rfl) (es' := [(_,_),(_,_),(_,_),(_,_)]) rfl ?_
     refine pt_sub (fs := [(2,.fl (.own 3) 1 (map (int .i64) [])),(3,vi 3),(0,.box 59 [fb s31,vi s32,.fl (.own 5) 1 (map (int .u8) s33),vi s34,vi s35]),(0,.v (List.getD args0 0 undef))]) (.sub _ (sub_nil 3 1) rfl (.same _ (.same _ (.same _ .nil)))) ?_
     refine pt_r_then ?_
     obtain rfl := zi h
     exact pt_retP (es := [(2, .fl (.own 3) 1 (map (int .i64) [])), (3, .v (.int .i64 3))]) (posts := [.box 59 [fb s31, .v (.int .i64 s32), .fl (.own 5) 1 (map (int .u8) s33), .v (.int .i64 s34), .v (.int .i64 s35)]]) hio rfl rfl (.tmp _ _ (.tmp _ _ .nil)) rfl rfl hargs0 rfl
    ·have h := cond_f hb46 h
     refine ht_skip ?_
     refine pt_then ?_
     refine zgg hn [_,_,_,_,_,(39,.fl (.own 3) 1 (map (int .i64) s36)),(2,.fl (.own 3) 1 (map (int .i64) s36)),(3,vi 0)] [0,1,2,3,4] [0,1,2,6,7] [⟨[],[3],[5],[(.slot 39)]⟩,⟨[],[5],[6],[(.slot 2)]⟩,zq [] 7 3] [(_,_),(_,_),(_,_),(_,_),(_,_)] rfl ⟨zp rfl (op_move_take _ _ _ _ rfl),zp rfl (op_assign_take _ _ _ _ rfl),z2 rfl,zz⟩ ?_
     refine ht_ret ?_
     refine pt_pick [3,4,0,1] (by kernel_rfl) (es' := [(_,_),(_,_),(_,_),(_,_)]) rfl ?_
     obtain rfl := zi h
     exact pt_retP (es := [(2, .fl (.own 3) 1 (map (int .i64) s36)), (3, .v (.int .i64 0))]) (posts := [.box 59 [fb s31, .v (.int .i64 s32), .fl (.own 5) 1 (map (int .u8) s33), .v (.int .i64 s34), .v (.int .i64 s35)]]) hio rfl rfl (.tmp _ _ (.tmp _ _ .nil)) rfl rfl hargs0 rfl
   ·rintro u37 hl38 hr39 ⟨s22, s23, s24, s25, s26, s27, s28⟩ rr42 h ho40
    refine zgg hn [_,_,_,_,_,_,(20,vb (decide (s28 < v4)))] [0,1,2,3,4,5] [0,1,2,3,4,5,6] [zq [5,4] 6 20] [(_,_),(_,_),(_,_),(_,_),(_,_),(_,_),(_,_)] rfl ⟨z4 rfl rfl,zz⟩ ?_
    refine ht_seq ?_
    refine ht_cond _ rfl (fun hb43 => ?_) (fun hb43 => ?_)
    ·have h := cond_t hb43 h
     refine ht_skip ?_
     refine pt_then (ht_seq ?_)
     refine ht_block ?_
     refine zgg hn [_,_,_,_,_,_,_,(21,vi s28),(7,vi s28)] [0,1,2,3,4,5,6] [0,1,2,3,4,5,8] [zq [5] 7 21,zq [7] 8 7] [(_,_),(_,_),(_,_),(_,_),(_,_),(_,_),(_,_)] rfl ⟨z1 rfl,z2 rfl,zz⟩ ?_
     refine ht_seq ?_
     obtain ⟨v6, hv6, h⟩ := zn h
     obtain ⟨v7, hv7, h⟩ := zn h
     obtain ⟨v8, hv8, h⟩ := zn h
     obtain ⟨v9, hv9, h⟩ := zn h
     obtain ⟨v10, hv10, h⟩ := zn h
     refine ht_anyR (by kernel_rfl) hn (El := (_ :: _ :: _ :: _ :: _ :: _ :: _ :: (23,.same (.slot 6)) :: (24,vi s28) :: (25,.v (.pointer (some ⟨1,(0 + v6 * 1),none⟩))) :: (26,vi v7) :: (27,.ptr 0 0) :: (28,.tup [vi v8.1,vi v8.2.1]) :: (0,.box 59 [fb v8.2.2.b,vi v8.2.2.at_,.fl (.own 5) 1 (map (int .u8) v8.2.2.out),vi v8.2.2.most,vi v8.2.2.blocks]) :: (22,.tup [vi v8.1,vi v8.2.1]) :: (29,vi v8.1) :: (30,vi v8.2.1) :: (31,.eref (.slot 6) (v9 * 1)) :: (6,.fl (.own 3) 1 (map (int .i64) v10)) :: (5,vi v8.2.1) :: [])) (init := [0,1,2,3,4,5,6]) (fin := [13,1,2,18,4,5,19]) (sps := [zq [3] 7 23,zq [6] 8 24,zq [8] 9 25,zq [9,2] 10 26,zq [0] 11 27,⟨[11],[0],[13,12],[(.slot 28),(.cell 0 0),(.cell 0 1),(.cell 0 2),(.cell 0 3),(.cell 0 4)]⟩,⟨[],[12],[14],[(.slot 22)]⟩,zq [14] 15 29,zq [14] 16 30,zq [7,3,10] 17 31,⟨[17,15],[3],[18],[]⟩,zq [16] 19 5]) (es' := [(0,.box 59 [fb v8.2.2.b,vi v8.2.2.at_,.fl (.own 5) 1 (map (int .u8) v8.2.2.out),vi v8.2.2.most,vi v8.2.2.blocks]),(_,_),(_,_),(6,.fl (.own 3) 1 (map (int .i64) v10)),(_,_),(_,_),(5,vi v8.2.1)]) (by kernel_rfl) rfl rfl ⟨z1 rfl,z1 rfl,zp rfl (op_ix_globz _ _ _ _ 19 1 0 _ 1 _ underlying108 sz3 rfl rfl (ix_ok hv6).1 (ix_ok hv6).2),zp rfl (op_load_glob _ _ 40 1 _ _ _ underlying3 rfl rfl rfl (gl_mem1 mx) (map_get1 hv7)),z1 rfl,zp rfl (op_callPS _ _ _ _ 28 58 [.tmp 27] [_] _ _ _ rfl call58 rfl rfl rfl (ok_grow_stream_number (T_grow_stream.mk s22 s23 s24 s25 s26) 3 _ hv8) (zl rfl) rfl rfl rfl rfl rfl rfl rfl),zp rfl (op_move_take _ _ _ _ rfl),zp rfl (oE rfl),zp rfl (oE rfl),zp rfl (op_ix _ _ _ _ _ _ _ _ underlying73 sz3 (by decide) rfl rfl rfl (ix_ok hv9).1 (map_lt (ix_ok hv9).2) rfl),zp rfl (op_store_e _ _ _ _ _ _ _ _ sz3 rfl rfl rfl (by decide) (map_lt (ix_ok hv9).2) ((map_set (f := int .i64) _ (ix_ok hv9).2).trans (congrArg (map _) (Option.some.inj hv10)))),z2 rfl,zz⟩ ?_
     refine pt_then ?_
     refine zgg hn [_,_,_,_,_,_,_,(32,vi v8.2.1),(33,vb (v8.2.1 != 0))] [0,1,2,3,4,5,6] [0,1,2,3,4,5,6,8] [zq [6] 7 32,zq [7] 8 33] [(_,_),(_,_),(_,_),(_,_),(_,_),(_,_),(_,_),(_,_)] rfl ⟨z1 rfl,z4 rfl rfl,zz⟩ ?_
     refine ht_cond _ rfl (fun hb44 => ?_) (fun hb44 => ?_)
     ·have h := cond_t hb44 h
      refine zgg hn [_,_,_,_,_,_,_,_,(34,vi v8.2.1),(2,vz),(3,vi v8.2.1)] [0,1,2,3,4,5,6,7] [0,1,2,9,10] [zq [6] 8 34,zq [] 9 2,zq [8] 10 3] [(_,_),(_,_),(_,_),(_,_),(_,_)] rfl ⟨z1 rfl,z2 rfl,z2 rfl,zz⟩ ?_
      refine ht_ret ?_
      refine pt_pick [3,4,0,1] (by kernel_rfl) (es' := [(_,_),(_,_),(_,_),(_,_)]) rfl ?_
      refine pt_sub (fs := [(2,.fl (.own 3) 1 (map (int .i64) [])),(3,vi v8.2.1),(0,.box 59 [fb v8.2.2.b,vi v8.2.2.at_,.fl (.own 5) 1 (map (int .u8) v8.2.2.out),vi v8.2.2.most,vi v8.2.2.blocks]),(0,.v (List.getD args0 0 undef))]) (.sub _ (sub_nil 3 1) rfl (.same _ (.same _ (.same _ .nil)))) ?_
      refine pt_r_in ?_
      refine pt_r_then ?_
      refine pt_r_then ?_
      refine pt_r_in ?_
      refine pt_r_then ?_
      have h := hr39 _ (ho40 _ (zi h).symm).symm
      obtain rfl := zi h
      exact pt_retP (es := [(2, .fl (.own 3) 1 (map (int .i64) [])), (3, .v (.int .i64 v8.2.1))]) (posts := [.box 59 [fb v8.2.2.b, .v (.int .i64 v8.2.2.at_), .fl (.own 5) 1 (map (int .u8) v8.2.2.out), .v (.int .i64 v8.2.2.most), .v (.int .i64 v8.2.2.blocks)]]) hio rfl rfl (.tmp _ _ (.tmp _ _ .nil)) rfl rfl hargs0 rfl
     ·have h := cond_f hb44 h
      refine ht_skip ?_
      refine pt_inb ?_
      refine pt_then ?_
      obtain ⟨v12, hv12, h⟩ := zn h
      refine zg hn [_,_,_,_,_,_,_,_,(35,vi v12),(19,vi v12)] [0,1,2,3,4,5,6,7] [0,1,2,3,4,9] [zq [5] 8 35,⟨[8],[5],[9],[(.slot 19)]⟩] [(_,_),(_,_),(_,_),(_,_),(_,_),(_,_)] rfl ⟨zp rfl (oB rfl (ibind (f := int .i64) (Option.some.inj hv12))),zp rfl (LOp.drop [_] (oM rfl)),zz⟩ ?_
      exact pt_next _ (zi h).symm rfl
    ·have h := cond_f hb43 h
     refine ht_exit ?_
     refine pt_x_then ?_
     refine pt_x_then ?_
     refine pt_x_in ?_
     refine pt_pick [0,1,2,3] (by kernel_rfl) (es' := [(_,_),(_,_),(_,_),(_,_)]) rfl ?_
     exact hl38 _ (ho40 _ (zi h).symm).symm
theorem ok_grow_stream_row (s : T_grow_stream) (code : (List Int)) (n : Int) (r : ((List Int) × Int × T_grow_stream)) (h : Sh.grow_stream_row s code n = some r) : FnP Tryd.prog 81 [.box 59 [.fl .shr 1 (map (int .u8) s.b), .v (.int .i64 s.at_), .fl (.own 5) 1 (map (int .u8) s.out), .v (.int .i64 s.most), .v (.int .i64 s.blocks)], .fl .shr 1 (map (int .i64) code), .v (.int .i64 n)] [.box 59 [.fl .shr 1 (map (int .u8) r.2.2.b), .v (.int .i64 r.2.2.at_), .fl (.own 5) 1 (map (int .u8) r.2.2.out), .v (.int .i64 r.2.2.most), .v (.int .i64 r.2.2.blocks)]] (.tup [.fl (.own 3) 1 (map (int .i64) r.1), .v (.int .i64 r.2.1)]) := by
  unfold Sh.grow_stream_row at h
  refine fn_okP func81 rfl (zl rfl) rfl (zl rfl) fun args0 hargs0 g0 hn hio => ?_
  refine zgg hn [_,_,_,_,(6,vz),(7,vi 0)] [0,1,2,3] [0,1,2,3] [zq [] 4 6,zq [] 5 7] [(_,_),(_,_),(_,_),(_,_)] rfl ⟨z2 rfl,z2 rfl,zz⟩ ?_
  refine zgg hn [_,_,_,_,(8,vz)] [0,1,2,3] [0,1,2,3,4] [zq [] 4 8] [(_,_),(_,_),(_,_),(_,_),(_,_)] rfl ⟨z2 rfl,zz⟩ ?_
  refine ht_seq ?_
  refine ht_sub (fs := [(0,.box 59 [fb s.b,vi s.at_,.fl (.own 5) 1 (map (int .u8) s.out),vi s.most,vi s.blocks]),(1,fi code),(2,vi n),(0,.v (List.getD args0 0 undef)),(8,.fl (.own 3) 1 (map (int .i64) []))]) (.same _ (.same _ (.same _ (.same _ (.sub _ (sub_nil 3 1) rfl .nil))))) ?_
  refine ht_loopS h (fun ((s123,s124,s125,s126,s127,s128) : (List Int) × Int × (List Int) × Int × Int × (List Int)) => [(0,.box 59 [fb s123,vi s124,.fl (.own 5) 1 (map (int .u8) s125),vi s126,vi s127]),(1,fi code),(2,vi n),(0,.v (List.getD args0 0 undef)),(8,.fl (.own 3) 1 (map (int .i64) s128))]) (fun ((s182,s183,s184,s185,s186,s187) : (List Int) × Int × (List Int) × Int × Int × (List Int)) => [(0,.box 59 [fb s182,vi s183,.fl (.own 5) 1 (map (int .u8) s184),vi s185,vi s186]),(0,.v (List.getD args0 0 undef)),(8,.fl (.own 3) 1 (map (int .i64) s187))]) ?_ ?_
  ·rintro ⟨s182, s183, s184, s185, s186, s187⟩ h
   refine pt_then ?_
   refine zgg hn [_,_,_,(72,.fl (.own 3) 1 (map (int .i64) s187)),(6,.fl (.own 3) 1 (map (int .i64) s187)),(7,vi 0)] [0,1,2] [0,1,4,5] [⟨[],[2],[3],[(.slot 72)]⟩,⟨[],[3],[4],[(.slot 6)]⟩,zq [] 5 7] [(_,_),(_,_),(_,_),(_,_)] rfl ⟨zp rfl (op_move_take _ _ _ _ rfl),zp rfl (op_assign_take _ _ _ _ rfl),z2 rfl,zz⟩ ?_
   refine ht_ret ?_
   refine pt_pick [2,3,0,1] (by kernel_rfl) (es' := [(_,_),(_,_),(_,_),(_,_)]) rfl ?_
   obtain rfl := zi h
   exact pt_retP (es := [(6, .fl (.own 3) 1 (map (int .i64) s187)), (7, .v (.int .i64 0))]) (posts := [.box 59 [fb s182, .v (.int .i64 s183), .fl (.own 5) 1 (map (int .u8) s184), .v (.int .i64 s185), .v (.int .i64 s186)]]) hio rfl rfl (.tmp _ _ (.tmp _ _ .nil)) rfl rfl hargs0 rfl
  ·rintro u188 hl189 hr190 ⟨s123, s124, s125, s126, s127, s128⟩ rr193 h ho191
   refine ht_seq ?_
   refine zgg hn [_,_,_,_,_,(15,.same (.slot 8)),(16,vi (s128.length : Int)),(17,vi n),(18,vb (decide ((s128.length : Int) < n)))] [0,1,2,3,4] [0,1,2,3,4,8] [zq [4] 5 15,zq [5,4] 6 16,zq [2] 7 17,zq [6,7] 8 18] [(_,_),(_,_),(_,_),(_,_),(_,_),(_,_)] rfl ⟨z1 rfl,zp rfl (op_len_fl _ _ _ underlying73 rfl (by decide) (map_len _)),z1 rfl,z4 rfl rfl,zz⟩ ?_
   refine ht_cond _ rfl (fun hb194 => ?_) (fun hb194 => ?_)
   ·have h := cond_t hb194 h
    refine ht_skip ?_
    refine pt_then ?_
    refine ht_block ?_
    refine ht_seq ?_
    obtain ⟨v2, hv2, h⟩ := zn h
    refine zg hn (_::_::_::_::_::_::(20,.ptr 0 0)::(21,fi code)::(22,.tup [vi v2.1,vi v2.2.1])::(0,.box 59 [fb v2.2.2.b,vi v2.2.2.at_,.fl (.own 5) 1 (map (int .u8) v2.2.2.out),vi v2.2.2.most,vi v2.2.2.blocks])::(19,.tup [vi v2.1,vi v2.2.1])::(23,vi v2.1)::(24,vi v2.2.1)::(9,vi v2.1)::(10,vi v2.2.1)::[]) [0,1,2,3,4,5] [9,1,2,3,4,13,14] [zq [0] 6 20,zq [1] 7 21,⟨[6,7],[0],[9,8],[(.slot 22),(.cell 0 0),(.cell 0 1),(.cell 0 2),(.cell 0 3),(.cell 0 4)]⟩,⟨[],[8],[10],[(.slot 19)]⟩,zq [10] 11 23,zq [10] 12 24,zq [11] 13 9,zq [12] 14 10] [(_,_),(_,_),(_,_),(_,_),(_,_),(_,_),(_,_)] rfl ⟨z1 rfl,z1 rfl,zp rfl (op_callPS _ _ _ _ 22 78 [.tmp 20] [.tmp 21] _ _ _ rfl call78 rfl rfl rfl (ok_grow_stream_symbol (T_grow_stream.mk s123 s124 s125 s126 s127) code _ hv2) (zl rfl) rfl rfl rfl rfl rfl rfl rfl),zp rfl (op_move_take _ _ _ _ rfl),zp rfl (oE rfl),zp rfl (oE rfl),z2 rfl,z2 rfl,zz⟩ ?_
    refine pt_then (ht_seq ?_)
    refine zgg hn [_,_,_,_,_,_,_,(25,vi v2.2.1),(26,vb (v2.2.1 != 0))] [0,1,2,3,4,5,6] [0,1,2,3,4,5,6,8] [zq [6] 7 25,zq [7] 8 26] [(_,_),(_,_),(_,_),(_,_),(_,_),(_,_),(_,_),(_,_)] rfl ⟨z1 rfl,z4 rfl rfl,zz⟩ ?_
    refine ht_cond _ rfl (fun hb195 => ?_) (fun hb195 => ?_)
    ·have h := cond_t hb195 h
     refine zgg hn [_,_,_,_,_,_,_,_,(27,vi v2.2.1),(6,vz),(7,vi v2.2.1)] [0,1,2,3,4,5,6,7] [0,3,9,10] [zq [6] 8 27,zq [] 9 6,zq [8] 10 7] [(_,_),(_,_),(_,_),(_,_)] rfl ⟨z1 rfl,z2 rfl,z2 rfl,zz⟩ ?_
     refine ht_ret ?_
     refine pt_pick [2,3,0,1] (by kernel_rfl) (es' := [(_,_),(_,_),(_,_),(_,_)]) rfl ?_
     refine pt_sub (fs := [(6,.fl (.own 3) 1 (map (int .i64) [])),(7,vi v2.2.1),(0,.box 59 [fb v2.2.2.b,vi v2.2.2.at_,.fl (.own 5) 1 (map (int .u8) v2.2.2.out),vi v2.2.2.most,vi v2.2.2.blocks]),(0,.v (List.getD args0 0 undef))]) (.sub _ (sub_nil 3 1) rfl (.same _ (.same _ (.same _ .nil)))) ?_
     refine pt_r_then ?_
     refine pt_r_in ?_
     refine pt_r_then ?_
     refine pt_r_in ?_
     refine pt_r_then ?_
     have h := hr190 _ (ho191 _ (zi h).symm).symm
     obtain rfl := zi h
     exact pt_retP (es := [(6, .fl (.own 3) 1 (map (int .i64) [])), (7, .v (.int .i64 v2.2.1))]) (posts := [.box 59 [fb v2.2.2.b, .v (.int .i64 v2.2.2.at_), .fl (.own 5) 1 (map (int .u8) v2.2.2.out), .v (.int .i64 v2.2.2.most), .v (.int .i64 v2.2.2.blocks)]]) hio rfl rfl (.tmp _ _ (.tmp _ _ .nil)) rfl rfl hargs0 rfl
    ·have h := cond_f hb195 h
     refine ht_skip ?_
     refine pt_then ?_
     refine zgg hn [_,_,_,_,_,_,_,_,(28,vi v2.1),(11,vi v2.1),(12,vi 1),(13,vi 0)] [0,1,2,3,4,5,6,7] [0,1,2,3,4,5,9,10,11] [zq [5] 8 28,zq [8] 9 11,zq [] 10 12,zq [] 11 13] [(_,_),(_,_),(_,_),(_,_),(_,_),(_,_),(_,_),(_,_),(_,_)] rfl ⟨z1 rfl,z2 rfl,z2 rfl,z2 rfl,zz⟩ ?_
     refine ht_seq ?_
     refine ht_joinS h (fun ((s210,s211,s212) : Int × Int × Int) => [(0,.box 59 [fb v2.2.2.b,vi v2.2.2.at_,.fl (.own 5) 1 (map (int .u8) v2.2.2.out),vi v2.2.2.most,vi v2.2.2.blocks]),(1,fi code),(2,vi n),(0,.v (List.getD args0 0 undef)),(8,.fl (.own 3) 1 (map (int .i64) s128)),(11,vi s210),(12,vi s211),(13,vi s212)]) ?_ ?_
     ·rintro ⟨s210, s211, s212⟩ h
      refine pt_then (ht_seq ?_)
      obtain ⟨v39, hv39, h⟩ := zn h
      refine zg hn (_::_::_::_::_::_::_::_::(46,.ptr 0 0)::(47,vi s212)::(48,.tup [vi v39.1,vi v39.2.1])::(0,.box 59 [fb v39.2.2.b,vi v39.2.2.at_,.fl (.own 5) 1 (map (int .u8) v39.2.2.out),vi v39.2.2.most,vi v39.2.2.blocks])::(45,.tup [vi v39.1,vi v39.2.1])::(49,vi v39.1)::(50,vi v39.2.1)::(14,vi v39.1)::(10,vi v39.2.1)::[]) [0,1,2,3,4,5,6,7] [11,1,2,3,4,5,6,15,16] [zq [0] 8 46,zq [7] 9 47,⟨[8,9],[0],[11,10],[(.slot 48),(.cell 0 0),(.cell 0 1),(.cell 0 2),(.cell 0 3),(.cell 0 4)]⟩,⟨[],[10],[12],[(.slot 45)]⟩,zq [12] 13 49,zq [12] 14 50,zq [13] 15 14,zq [14] 16 10] [(_,_),(_,_),(_,_),(_,_),(_,_),(_,_),(_,_),(_,_),(_,_)] rfl ⟨z1 rfl,z1 rfl,zp rfl (op_callPS _ _ _ _ 48 58 [.tmp 46] [.tmp 47] _ _ _ rfl call58 rfl rfl rfl (ok_grow_stream_number v2.2.2 s212 _ hv39) (zl rfl) rfl rfl rfl rfl rfl rfl rfl),zp rfl (op_move_take _ _ _ _ rfl),zp rfl (oE rfl),zp rfl (oE rfl),z2 rfl,z2 rfl,zz⟩ ?_
      refine pt_then (ht_seq ?_)
      refine zgg hn [_,_,_,_,_,_,_,_,_,(51,vi v39.2.1),(52,vb (v39.2.1 != 0))] [0,1,2,3,4,5,6,7,8] [0,1,2,3,4,5,6,7,8,10] [zq [8] 9 51,zq [9] 10 52] [(_,_),(_,_),(_,_),(_,_),(_,_),(_,_),(_,_),(_,_),(_,_),(_,_)] rfl ⟨z1 rfl,z4 rfl rfl,zz⟩ ?_
      refine ht_cond _ rfl (fun hb230 => ?_) (fun hb230 => ?_)
      ·have h := cond_t hb230 h
       refine zgg hn [_,_,_,_,_,_,_,_,_,_,(53,vi v39.2.1),(6,vz),(7,vi v39.2.1)] [0,1,2,3,4,5,6,7,8,9] [0,3,11,12] [zq [8] 10 53,zq [] 11 6,zq [10] 12 7] [(_,_),(_,_),(_,_),(_,_)] rfl ⟨z1 rfl,z2 rfl,z2 rfl,zz⟩ ?_
       refine ht_ret ?_
       refine pt_pick [2,3,0,1] (by kernel_rfl) (es' := [(_,_),(_,_),(_,_),(_,_)]) rfl ?_
       refine pt_sub (fs := [(6,.fl (.own 3) 1 (map (int .i64) [])),(7,vi v39.2.1),(0,.box 59 [fb v39.2.2.b,vi v39.2.2.at_,.fl (.own 5) 1 (map (int .u8) v39.2.2.out),vi v39.2.2.most,vi v39.2.2.blocks]),(0,.v (List.getD args0 0 undef))]) (.sub _ (sub_nil 3 1) rfl (.same _ (.same _ (.same _ .nil)))) ?_
       refine pt_r_then ?_
       refine pt_r_in ?_
       refine pt_r_then ?_
       refine pt_r_in ?_
       refine pt_r_then ?_
       have h := hr190 _ (ho191 _ (zi h).symm).symm
       obtain rfl := zi h
       exact pt_retP (es := [(6, .fl (.own 3) 1 (map (int .i64) [])), (7, .v (.int .i64 v39.2.1))]) (posts := [.box 59 [fb v39.2.2.b, .v (.int .i64 v39.2.2.at_), .fl (.own 5) 1 (map (int .u8) v39.2.2.out), .v (.int .i64 v39.2.2.most), .v (.int .i64 v39.2.2.blocks)]]) hio rfl rfl (.tmp _ _ (.tmp _ _ .nil)) rfl rfl hargs0 rfl
      ·have h := cond_f hb230 h
       refine ht_skip ?_
       refine pt_then (ht_seq ?_)
       refine ht_seq ?_
       obtain ⟨v41, hv41, h⟩ := zn h
       obtain ⟨v42, hv42, h⟩ := zn h
       refine zg hn (_::_::_::_::_::_::_::_::_::_::(54,vi s211)::(55,vi v39.1)::(56,vi v41)::(57,vi n)::(58,.same (.slot 8))::(59,vi (s128.length : Int))::(60,vi v42)::(61,vb (decide (v42 < v41)))::[]) [0,1,2,3,4,5,6,7,8,9] [0,1,2,3,4,5,6,7,17] [zq [6] 10 54,zq [7] 11 55,zq [10,11] 12 56,zq [2] 13 57,zq [4] 14 58,zq [14,4] 15 59,zq [13,15] 16 60,zq [12,16] 17 61] [(_,_),(_,_),(_,_),(_,_),(_,_),(_,_),(_,_),(_,_),(_,_)] rfl ⟨z1 rfl,z1 rfl,zp rfl (oB rfl (ibind (f := int .i64) (Option.some.inj hv41))),z1 rfl,z1 rfl,zp rfl (op_len_fl _ _ _ underlying73 rfl (by decide) (map_len _)),zp rfl (oB rfl (ibind (f := int .i64) (Option.some.inj hv42))),z4 rfl rfl,zz⟩ ?_
       refine pt_then ?_
       refine ht_cond _ rfl (fun hb231 => ?_) (fun hb231 => ?_)
       ·have h := cond_t hb231 h
        refine zgg hn [_,_,_,_,_,_,_,_,_,(6,vz),(7,vi 3)] [0,1,2,3,4,5,6,7,8] [0,3,9,10] [zq [] 9 6,zq [] 10 7] [(_,_),(_,_),(_,_),(_,_)] rfl ⟨z2 rfl,z2 rfl,zz⟩ ?_
        refine ht_ret ?_
        refine pt_pick [2,3,0,1] (by kernel_rfl) (es' := [(_,_),(_,_),(_,_),(_,_)]) rfl ?_
        refine pt_sub (fs := [(6,.fl (.own 3) 1 (map (int .i64) [])),(7,vi 3),(0,.box 59 [fb v39.2.2.b,vi v39.2.2.at_,.fl (.own 5) 1 (map (int .u8) v39.2.2.out),vi v39.2.2.most,vi v39.2.2.blocks]),(0,.v (List.getD args0 0 undef))]) (.sub _ (sub_nil 3 1) rfl (.same _ (.same _ (.same _ .nil)))) ?_
        refine pt_r_then ?_
        refine pt_r_in ?_
        refine pt_r_then ?_
        refine pt_r_in ?_
        refine pt_r_then ?_
        have h := hr190 _ (ho191 _ (zi h).symm).symm
        obtain rfl := zi h
        exact pt_retP (es := [(6, .fl (.own 3) 1 (map (int .i64) [])), (7, .v (.int .i64 3))]) (posts := [.box 59 [fb v39.2.2.b, .v (.int .i64 v39.2.2.at_), .fl (.own 5) 1 (map (int .u8) v39.2.2.out), .v (.int .i64 v39.2.2.most), .v (.int .i64 v39.2.2.blocks)]]) hio rfl rfl (.tmp _ _ (.tmp _ _ .nil)) rfl rfl hargs0 rfl
       ·have h := cond_f hb231 h
        refine ht_skip ?_
        refine pt_then (ht_seq ?_)
        obtain ⟨v44, hv44, h⟩ := zn h
        refine zg hn [_,_,_,_,_,_,_,_,_,(62,vi s211),(63,vi v39.1),(64,vi v44),(65,vi 0)] [0,1,2,3,4,5,6,7,8] [0,1,2,3,4,5,11,12] [zq [6] 9 62,zq [7] 10 63,zq [9,10] 11 64,zq [] 12 65] [(_,_),(_,_),(_,_),(_,_),(_,_),(_,_),(_,_),(_,_)] rfl ⟨z1 rfl,z1 rfl,zp rfl (oB rfl (ibind (f := int .i64) (Option.some.inj hv44))),z1 rfl,zz⟩ ?_
        refine pt_then ?_
        refine ht_loopS h (fun ((s236,s237) : (List Int) × Int) => [(0,.box 59 [fb v39.2.2.b,vi v39.2.2.at_,.fl (.own 5) 1 (map (int .u8) v39.2.2.out),vi v39.2.2.most,vi v39.2.2.blocks]),(1,fi code),(2,vi n),(0,.v (List.getD args0 0 undef)),(8,.fl (.own 3) 1 (map (int .i64) s236)),(11,vi s210),(64,vi v44),(65,vi s237)]) (fun (s239 : (List Int)) => [(0,.box 59 [fb v39.2.2.b,vi v39.2.2.at_,.fl (.own 5) 1 (map (int .u8) v39.2.2.out),vi v39.2.2.most,vi v39.2.2.blocks]),(1,fi code),(2,vi n),(0,.v (List.getD args0 0 undef)),(8,.fl (.own 3) 1 (map (int .i64) s239))]) ?_ ?_
        ·rintro s239 h
         refine pt_inb ?_
         exact pt_next _ (zi h).symm rfl
        ·rintro u240 hl241 hr242 ⟨s236, s237⟩ rr245 h ho243
         refine zgg hn [_,_,_,_,_,_,_,_,(66,vb (decide (s237 < v44)))] [0,1,2,3,4,5,6,7] [0,1,2,3,4,5,6,7,8] [zq [7,6] 8 66] [(_,_),(_,_),(_,_),(_,_),(_,_),(_,_),(_,_),(_,_),(_,_)] rfl ⟨z4 rfl rfl,zz⟩ ?_
         refine ht_seq ?_
         refine ht_cond _ rfl (fun hb246 => ?_) (fun hb246 => ?_)
         ·have h := cond_t hb246 h
          refine ht_skip ?_
          refine pt_then (ht_seq ?_)
          refine ht_block ?_
          obtain ⟨v46, hv46, h⟩ := zn h
          refine zg hn (_::_::_::_::_::_::_::_::_::(67,.fl (.own 3) 1 (map (int .i64) s236))::(68,vi s210)::(69,.fl (.own 3) 1 (map (int .i64) [s210]))::(70,.fl (.own 3) 1 (map (int .i64) v46))::(67,.any)::(8,.fl (.own 3) 1 (map (int .i64) v46))::[]) [0,1,2,3,4,5,6,7,8] [0,1,2,3,5,6,7,14] [⟨[],[4],[9],[(.slot 67)]⟩,zq [5] 10 68,zq [10] 11 69,⟨[11],[9],[13,12],[(.slot 70)]⟩,⟨[],[12],[14],[(.slot 8)]⟩] [(_,_),(_,_),(_,_),(_,_),(_,_),(_,_),(_,_),(_,_)] rfl ⟨zp rfl (op_move_take _ _ _ _ rfl),z1 rfl,zp rfl (op_buildSlice _ _ 1 (.int .i64 0) (map (int .i64) [s210]) [(0, .int .i64 s210)] underlying73 sz3 zr3 (fun _ V w o a hv hes => by have e0 := rd_v hv hes (x := .tmp 68) rfl; simp only [List.map_toArray, List.map_cons, List.map_nil, e0]; try rfl) (litfill (by simp [Instr.fill, Value.cells]; rfl) (by simp [List.range, List.range.loop] <;> rfl)) (by simp [Value.oneCell']) rfl (by decide) (by decide) (by decide)),zp rfl (op_app _ _ _ _ _ el73 rfl rfl (map_len _) (map_len _) hv46 ((List.map_append).symm.trans (congrArg (map _) (app_eq hv46)))),zp rfl (op_assign_take _ _ _ _ rfl),zz⟩ ?_
          refine pt_inb ?_
          refine pt_then ?_
          obtain ⟨v47, hv47, h⟩ := zn h
          refine zg hn [_,_,_,_,_,_,_,_,(71,vi v47),(65,vi v47)] [0,1,2,3,4,5,6,7] [0,1,2,3,4,5,7,9] [zq [6] 8 71,⟨[8],[6],[9],[(.slot 65)]⟩] [(_,_),(_,_),(_,_),(_,_),(_,_),(_,_),(_,_),(_,_)] rfl ⟨zp rfl (oB rfl (ibind (f := int .i64) (Option.some.inj hv47))),zp rfl (LOp.drop [_] (oM rfl)),zz⟩ ?_
          refine pt_pick [0,1,2,3,6,4,5,7] (by kernel_rfl) (es' := [(_,_),(_,_),(_,_),(_,_),(_,_),(_,_),(_,_),(_,_)]) rfl ?_
          exact pt_next _ (zi h).symm rfl
         ·have h := cond_f hb246 h
          refine ht_exit ?_
          refine pt_x_then ?_
          refine pt_x_then ?_
          refine pt_x_in ?_
          refine pt_pick [0,1,2,3,4] (by kernel_rfl) (es' := [(_,_),(_,_),(_,_),(_,_),(_,_)]) rfl ?_
          exact hl241 _ (ho243 _ (zi h).symm).symm
     ·intro u213 h hl214 hr215
      refine zgg hn [_,_,_,_,_,_,_,_,_,(29,vi v2.1)] [0,1,2,3,4,5,6,7,8] [0,1,2,3,4,6,7,8,9] [zq [5] 9 29] [(_,_),(_,_),(_,_),(_,_),(_,_),(_,_),(_,_),(_,_),(_,_)] rfl ⟨z1 rfl,zz⟩ ?_
      refine ht_joinS h (fun ((s220,s221,s222) : Int × Int × Int) => [(0,.box 59 [fb v2.2.2.b,vi v2.2.2.at_,.fl (.own 5) 1 (map (int .u8) v2.2.2.out),vi v2.2.2.most,vi v2.2.2.blocks]),(1,fi code),(2,vi n),(0,.v (List.getD args0 0 undef)),(8,.fl (.own 3) 1 (map (int .i64) s128)),(11,vi s220),(12,vi s221),(13,vi s222)]) ?_ ?_
      ·rintro ⟨s220, s221, s222⟩ h
       exact hl214 _ (zi h).symm
      ·intro u223 h hl224 hr225
       refine ht_block ?_
       refine zgg hn [_,_,_,_,_,_,_,_,_,(31,vb (v2.1 == 16)),(30,vb (v2.1 == 16))] [0,1,2,3,4,5,6,7,8] [0,1,2,3,4,5,6,7,8,10] [zq [8] 9 31,zq [9] 10 30] [(_,_),(_,_),(_,_),(_,_),(_,_),(_,_),(_,_),(_,_),(_,_),(_,_)] rfl ⟨z4 rfl rfl,z2 rfl,zz⟩ ?_
       refine ht_cond _ rfl (fun hb226 => ?_) (fun hb226 => ?_)
       ·have h := cond_t hb226 h
        refine ht_seq ?_
        refine zgg hn [_,_,_,_,_,_,_,_,_,_,(32,.same (.slot 8)),(33,vi (s128.length : Int)),(34,vb ((s128.length : Int) == 0))] [0,1,2,3,4,5,6,7,8,9] [0,1,2,3,4,12] [zq [4] 10 32,zq [10,4] 11 33,zq [11] 12 34] [(_,_),(_,_),(_,_),(_,_),(_,_),(_,_)] rfl ⟨z1 rfl,zp rfl (op_len_fl _ _ _ underlying73 rfl (by decide) (map_len _)),z4 rfl rfl,zz⟩ ?_
        refine ht_cond _ rfl (fun hb227 => ?_) (fun hb227 => ?_)
        ·have h := cond_t hb227 h
         refine zgg hn [_,_,_,_,_,_,(6,vz),(7,vi 3)] [0,1,2,3,4,5] [0,3,6,7] [zq [] 6 6,zq [] 7 7] [(_,_),(_,_),(_,_),(_,_)] rfl ⟨z2 rfl,z2 rfl,zz⟩ ?_
         refine ht_ret ?_
         refine pt_pick [2,3,0,1] (by kernel_rfl) (es' := [(_,_),(_,_),(_,_),(_,_)]) rfl ?_
         refine pt_sub (fs := [(6,.fl (.own 3) 1 (map (int .i64) [])),(7,vi 3),(0,.box 59 [fb v2.2.2.b,vi v2.2.2.at_,.fl (.own 5) 1 (map (int .u8) v2.2.2.out),vi v2.2.2.most,vi v2.2.2.blocks]),(0,.v (List.getD args0 0 undef))]) (.sub _ (sub_nil 3 1) rfl (.same _ (.same _ (.same _ .nil)))) ?_
         refine pt_r_then ?_
         refine pt_r_in ?_
         refine pt_r_then ?_
         refine pt_r_in ?_
         refine pt_r_then ?_
         refine pt_r_in ?_
         refine pt_r_then ?_
         have h := hr225 _ (zi h).symm
         have h := hr215 _ (zi h).symm
         have h := hr190 _ (ho191 _ (zi h).symm).symm
         obtain rfl := zi h
         exact pt_retP (es := [(6, .fl (.own 3) 1 (map (int .i64) [])), (7, .v (.int .i64 3))]) (posts := [.box 59 [fb v2.2.2.b, .v (.int .i64 v2.2.2.at_), .fl (.own 5) 1 (map (int .u8) v2.2.2.out), .v (.int .i64 v2.2.2.most), .v (.int .i64 v2.2.2.blocks)]]) hio rfl rfl (.tmp _ _ (.tmp _ _ .nil)) rfl rfl hargs0 rfl
        ·have h := cond_f hb227 h
         refine ht_skip ?_
         refine pt_then ?_
         obtain ⟨v6, hv6, h⟩ := zn h
         obtain ⟨v72, hv72, h⟩ := zn h
         obtain ⟨v73, hv73, h⟩ := zn h
         refine zg hn (_::_::_::_::_::_::(35,.same (.slot 8))::(36,.same (.slot 8))::(37,vi (s128.length : Int))::(38,vi v6)::(39,.eref (.slot 8) (v72 * 1))::(40,vi v73)::(11,vi v73)::(12,vi 3)::(13,vi 2)::[]) [0,1,2,3,4,5] [0,1,2,3,4,12,13,14] [zq [4] 6 35,zq [4] 7 36,zq [7,4] 8 37,zq [8] 9 38,zq [6,4,9] 10 39,zq [10,4] 11 40,zq [11] 12 11,zq [] 13 12,zq [] 14 13] [(_,_),(_,_),(_,_),(_,_),(_,_),(_,_),(_,_),(_,_)] rfl ⟨z1 rfl,z1 rfl,zp rfl (op_len_fl _ _ _ underlying73 rfl (by decide) (map_len _)),zp rfl (oB rfl (ibind (f := int .i64) (Option.some.inj hv6))),zp rfl (op_ix _ _ _ _ _ _ _ _ underlying73 sz3 (by decide) rfl rfl rfl (ix_ok hv72).1 (map_lt (ix_ok hv72).2) rfl),zp rfl (op_load_e _ _ _ _ _ _ underlying3 rfl rfl rfl (map_get hv73)),z2 rfl,z2 rfl,z2 rfl,zz⟩ ?_
         refine pt_inb ?_
         exact hl224 _ (zi h).symm
       ·have h := cond_f hb226 h
        refine zgg hn [_,_,_,_,_,_,_,_,_,_,(42,vb (v2.1 == 17)),(41,vb (v2.1 == 17))] [0,1,2,3,4,5,6,7,8,9] [0,1,2,3,4,5,6,7,8,11] [zq [8] 10 42,zq [10] 11 41] [(_,_),(_,_),(_,_),(_,_),(_,_),(_,_),(_,_),(_,_),(_,_),(_,_)] rfl ⟨z4 rfl rfl,z2 rfl,zz⟩ ?_
        refine ht_cond _ rfl (fun hb228 => ?_) (fun hb228 => ?_)
        ·have h := cond_t hb228 h
         refine zg hn [_,_,_,_,_,_,_,_,_,_,(11,vi 0),(12,vi 3),(13,vi 3)] [0,1,2,3,4,5,6,7,8,9] [0,1,2,3,4,10,11,12] [⟨[],[5],[10],[(.slot 11)]⟩,⟨[],[6],[11],[(.slot 12)]⟩,⟨[],[7],[12],[(.slot 13)]⟩] [(_,_),(_,_),(_,_),(_,_),(_,_),(_,_),(_,_),(_,_)] rfl ⟨zp rfl (LOp.drop [_] (op_assign _ _ _ _ rfl rfl)),zp rfl (LOp.drop [_] (op_assign _ _ _ _ rfl rfl)),zp rfl (LOp.drop [_] (op_assign _ _ _ _ rfl rfl)),zz⟩ ?_
         refine pt_inb ?_
         exact hl224 _ (zi h).symm
        ·have h := cond_f hb228 h
         refine zgg hn [_,_,_,_,_,_,_,_,_,_,(44,vb (v2.1 == 18)),(43,vb (v2.1 == 18))] [0,1,2,3,4,5,6,7,8,9] [0,1,2,3,4,5,6,7,11] [zq [8] 10 44,zq [10] 11 43] [(_,_),(_,_),(_,_),(_,_),(_,_),(_,_),(_,_),(_,_),(_,_)] rfl ⟨z4 rfl rfl,z2 rfl,zz⟩ ?_
         refine ht_cond _ rfl (fun hb229 => ?_) (fun hb229 => ?_)
         ·have h := cond_t hb229 h
          refine zg hn [_,_,_,_,_,_,_,_,_,(11,vi 0),(12,vi 11),(13,vi 7)] [0,1,2,3,4,5,6,7,8] [0,1,2,3,4,9,10,11] [⟨[],[5],[9],[(.slot 11)]⟩,⟨[],[6],[10],[(.slot 12)]⟩,⟨[],[7],[11],[(.slot 13)]⟩] [(_,_),(_,_),(_,_),(_,_),(_,_),(_,_),(_,_),(_,_)] rfl ⟨zp rfl (LOp.drop [_] (op_assign _ _ _ _ rfl rfl)),zp rfl (LOp.drop [_] (op_assign _ _ _ _ rfl rfl)),zp rfl (LOp.drop [_] (op_assign _ _ _ _ rfl rfl)),zz⟩ ?_
          refine pt_inb ?_
          exact hl224 _ (zi h).symm
         ·have h := cond_f hb229 h
          refine ht_skip ?_
          refine pt_inb ?_
          refine pt_pick [0,1,2,3,4,5,6,7] (by kernel_rfl) (es' := [(_,_),(_,_),(_,_),(_,_),(_,_),(_,_),(_,_),(_,_)]) rfl ?_
          exact hl224 _ (zi h).symm
   ·have h := cond_f hb194 h
    refine ht_exit ?_
    refine pt_x_then ?_
    refine pt_x_then ?_
    refine pt_x_in ?_
    refine pt_pick [0,3,4] (by kernel_rfl) (es' := [(_,_),(_,_),(_,_)]) rfl ?_
    exact hl189 _ (ho191 _ (zi h).symm).symm
end Go.Proofs.YthceldoojddpiaaDoor
