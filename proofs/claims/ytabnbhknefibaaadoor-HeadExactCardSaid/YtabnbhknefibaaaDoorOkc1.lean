/-
  The model's runs are what is told in Lean.
-/
import Derived.Test.YtabnbhknefibaaaDoorProg
import Derived.KernelRfl
import Derived.Test.YtabnbhknefibaaaDoorShelf
import Derived.Test.YtabnbhknefibaaaDoorIdx
import Derived.Test.YtabnbhknefibaaaDoorSh
set_option linter.unusedVariables false
set_option linter.unusedSimpArgs false
set_option maxHeartbeats 1000000
namespace Go.Proofs.YtabnbhknefibaaaDoor
open Go.Abs Go.Abs.Sh Tryd
def GL (mx : Int) : List (Nat × List Value) := [(0, [.int .i64 mx]), (1, (List.map (Value.int .u64) strconv_pow10)), (2, (List.map (Value.int .u8) utf8_first)), (3, (List.map (Value.int .u8) utf8_accept))]
theorem gl_mem0 (mx : Int) : (0, ([.int .i64 mx] : List Value)) ∈ GL mx := .head _
theorem gl_mem1 (mx : Int) : (1, ((List.map (Value.int .u64) strconv_pow10) : List Value)) ∈ GL mx := .tail _ (.head _)
theorem gl_mem2 (mx : Int) : (2, ((List.map (Value.int .u8) utf8_first) : List Value)) ∈ GL mx := .tail _ (.tail _ (.head _))
theorem gl_mem3 (mx : Int) : (3, ((List.map (Value.int .u8) utf8_accept) : List Value)) ∈ GL mx := .tail _ (.tail _ (.tail _ (.head _)))
theorem el22 : ElemT Tryd.prog 22 5 1 1 := ⟨⟨Tryd.t5, .int .u8 0, Tryd.underlying22, by kernel_rfl, by kernel_rfl, by kernel_rfl, by kernel_rfl, by decide, by kernel_rfl⟩⟩
theorem zr25 : (Tryd.prog.info? 25).bind (·.zero) = some (.int .i64 0) := by kernel_rfl
theorem zr3 : (Tryd.prog.info? 3).bind (·.zero) = some (.int .i64 0) := by kernel_rfl
theorem sz3 : (Tryd.prog.info? 3).map (·.size) = some 1 := by kernel_rfl
theorem sz5 : (Tryd.prog.info? 5).map (·.size) = some 1 := by kernel_rfl
theorem zr5 : (Tryd.prog.info? 5).bind (·.zero) = some (.int .u8 0) := by kernel_rfl
theorem sz22 : (Tryd.prog.info? 22).map (·.size) = some 1 := by kernel_rfl
theorem sz25 : (Tryd.prog.info? 25).map (·.size) = some 1 := by kernel_rfl
theorem zr52 : (Tryd.prog.info? 52).bind (·.zero) = some (.slice none 0 0) := by kernel_rfl
theorem zr22 : (Tryd.prog.info? 22).bind (·.zero) = some (.slice none 0 0) := by kernel_rfl
theorem el52 : ElemT Tryd.prog 52 22 1 24 := ⟨⟨Tryd.t22, .slice none 0 0, Tryd.underlying52, by kernel_rfl, by kernel_rfl, by kernel_rfl, by kernel_rfl, by decide, by kernel_rfl⟩⟩
theorem sz52 : (Tryd.prog.info? 52).map (·.size) = some 1 := by kernel_rfl
theorem fs44 : ∀ fs, Tryd.prog.underlying 44 = some (.struct fs) → fs.toList.map (fun f => (Tryd.prog.info? f.type).map (·.size)) = ([1, 1] : List Nat).map some := by
  intro fs h
  rw [Tryd.underlying44] at h
  cases h
  kernel_rfl
theorem zr44 : (Tryd.prog.info? 44).bind (·.zero) = some (.agg #[.string ByteArray.empty, .string ByteArray.empty]) := by kernel_rfl
theorem sz44 : (Tryd.prog.info? 44).map (·.size) = some 2 := by kernel_rfl
theorem el24 : ElemT Tryd.prog 24 44 2 32 := ⟨⟨Tryd.t44, .agg #[.string ByteArray.empty, .string ByteArray.empty], Tryd.underlying24, by kernel_rfl, by kernel_rfl, by kernel_rfl, by kernel_rfl, by decide, by kernel_rfl⟩⟩
theorem sz9 : (Tryd.prog.info? 9).map (·.size) = some 1 := by kernel_rfl
theorem zr4 : (Tryd.prog.info? 4).bind (·.zero) = some (.bool false) := by kernel_rfl
theorem sz4 : (Tryd.prog.info? 4).map (·.size) = some 1 := by kernel_rfl
theorem ok_wherrykeep_Twin (l : (List Int)) (r : (List Int)) (h : Sh.wherrykeep_Twin l = some r) : FnOK Tryd.prog 9 [.fl .shr 1 (List.map (Value.int .u8) l)] (.fl (.own 5) 1 (List.map (Value.int .u8) r)) := by
  unfold Sh.wherrykeep_Twin at h
  refine fn_ok func9 rfl (zl rfl) rfl rfl fun g0 hn hio => ?_
  refine zgg hn [_,(2,.v (.slice none 0 0))] [0] [0] [zq [] 1 2] [(_,_)] rfl ⟨z2 rfl,zz⟩ ?_
  refine zgg hn [_,(3,.v (.slice none 0 0))] [0] [0,1] [zq [] 1 3] [(_,_),(_,_)] rfl ⟨z2 rfl,zz⟩ ?_
  refine ht_seq ?_
  obtain ⟨v1, hv1, h⟩ := bind_some h
  refine zg hn [_,_,(4,.v (.slice none 0 0)),(5,.fl .shr 1 (List.map (Value.int .u8) l)),(6,.fl (.own 5) 1 (List.map (Value.int .u8) v1)),(2,.fl (.own 5) 1 (List.map (Value.int .u8) v1))] [0,1] [5] [zq [1] 2 4,zq [0] 3 5,zq [2,3] 4 6,⟨[],[4],[5],[(.slot 2)]⟩] [(_,_)] rfl ⟨z1 rfl,z1 rfl,zp rfl (op_app_nil _ _ _ _ el22 rfl rfl (map_len _) hv1 (congrArg (List.map _) (app_nil_eq hv1))),zp rfl (op_assign_take _ _ _ _ rfl),zz⟩ ?_
  refine pt_then (ht_ret ?_)
  obtain rfl := Option.some.inj h
  exact pt_ret hio rfl (.tmp _ _ .nil) rfl rfl
theorem ok_dots_lines (b : (List Int)) (r : (List Int)) (h : Sh.dots_lines b = some r) : FnOK Tryd.prog 38 [.fl .shr 1 (List.map (Value.int .u8) b)] (.cloB 45 [.box 22 [.fl .shr 1 (List.map (Value.int .u8) r)]]) := by
  unfold Sh.dots_lines at h
  refine fn_ok func38 rfl (zl rfl) rfl rfl fun g0 hn hio => ?_
  refine zgg hn [_,(1,.box 22 [.fl .shr 1 (List.map (Value.int .u8) b)]),(2,.v (.nilFunc))] [0] [1] [zq [0] 1 1,zq [] 2 2] [(_,_)] rfl ⟨zp rfl (op_box _ _ _ _ rfl rfl rfl),z2 rfl,zz⟩ ?_
  refine zgg hn [_,(3,.cloB 45 [.box 22 [.fl .shr 1 (List.map (Value.int .u8) b)]]),(2,.cloB 45 [.box 22 [.fl .shr 1 (List.map (Value.int .u8) b)]])] [0] [2] [⟨[],[0],[1],[(.slot 3)]⟩,⟨[],[1],[2],[(.slot 2)]⟩] [(_,_)] rfl ⟨zp rfl (op_mkclo _ _ [1] [.box 22 [.fl .shr 1 (List.map (Value.int .u8) b)]] rfl rfl rfl),zp rfl (op_assign_take _ _ _ _ rfl),zz⟩ ?_
  refine ht_ret ?_
  obtain rfl := Option.some.inj h
  exact pt_ret hio rfl (.tmp _ _ .nil) rfl rfl
theorem ok_bytes_Index (mx : Int) (s sep : List Int) (r : Int) (h : Sh.bytes_Index s sep = some r) : FnG Tryd.prog (GL mx) 55 [.fl .shr 1 (List.map (Value.int .u8) s), .fl .shr 1 (List.map (Value.int .u8) sep)] (.v (.int .i64 r)) :=
  lib_bytes_Index (gl_mem0 mx) Tryd.bytes_Index_at Tryd.bytes_Index_longer s sep r h
theorem ok_bytes_Cut_sh (mx : Int) (s : (List Int)) (sep : (List Int)) (r : ((List Int) × (List Int) × Bool)) (h : Sh.bytes_Cut_sh s sep = some r) : FnG Tryd.prog (GL mx) 46 [.fl .shr 1 (List.map (Value.int .u8) s), .fl .shr 1 (List.map (Value.int .u8) sep)] (.tup [.fl .shr 1 (List.map (Value.int .u8) r.1), .fl .shr 1 (List.map (Value.int .u8) r.2.1), .v (.bool r.2.2)]) := by
  unfold Sh.bytes_Cut_sh at h
  refine fn_okG func46 rfl (zl rfl) rfl rfl fun g0 hn hio => ?_
  refine zgg hn [_,_,_,(4,.v (.slice none 0 0)),(5,.v (.slice none 0 0)),(6,vb false)] [0,1,2] [0,1,2] [zq [] 3 4,zq [] 4 5,zq [] 5 6] [(_,_),(_,_),(_,_)] rfl ⟨z2 rfl,z2 rfl,z2 rfl,zz⟩ ?_
  refine ht_seq ?_
  refine ht_seq ?_
  obtain ⟨v1, hv1, h⟩ := bind_some h
  refine zg hn [_,_,_,(8,.fl .shr 1 (List.map (Value.int .u8) s)),(9,.fl .shr 1 (List.map (Value.int .u8) sep)),(10,vi v1),(7,vi v1)] [0,1,2] [0,1,2,6] [zq [0] 3 8,zq [1] 4 9,zq [3,4,2] 5 10,zq [5] 6 7] [(_,_),(_,_),(_,_),(_,_)] rfl ⟨z1 rfl,z1 rfl,zp rfl (op_callG _ _ 23 55 _ _ rfl call55 rfl rfl (fun _ h => h) (ok_bytes_Index mx s sep _ hv1) rfl rfl),z2 rfl,zz⟩ ?_
  refine pt_then ?_
  refine zgg hn [_,_,_,_,(11,vi v1),(12,vb (decide (0 ≤ v1)))] [0,1,2,3] [0,1,2,3,5] [zq [3] 4 11,zq [4] 5 12] [(_,_),(_,_),(_,_),(_,_),(_,_)] rfl ⟨z1 rfl,z4 rfl rfl,zz⟩ ?_
  refine ht_cond _ rfl (fun hb2 => ?_) (fun hb2 => ?_)
  ·have h := cond_t hb2 h
   refine ht_seq ?_
   obtain ⟨v3, hv3, h⟩ := bind_some h
   obtain ⟨v4, hv4, h⟩ := bind_some h
   obtain ⟨v5, hv5, h⟩ := bind_some h
   refine ht_anyR (by kernel_rfl) hn (El := (_ :: _ :: _ :: _ :: _ :: (13, .fl .shr 1 (List.map (Value.int .u8) s)) :: (14, .v (.int .i64 v1)) :: (15, .fl .shr 1 (List.map (Value.int .u8) v3)) :: (16, .fl .shr 1 (List.map (Value.int .u8) s)) :: (17, .v (.int .i64 v1)) :: (18, .fl .shr 1 (List.map (Value.int .u8) sep)) :: (19, .v (.int .i64 (sep.length : Int))) :: (20, .v (.int .i64 v4)) :: (21, .fl .shr 1 (List.map (Value.int .u8) v5)) :: (4, .fl .shr 1 (List.map (Value.int .u8) v3)) :: (5, .fl .shr 1 (List.map (Value.int .u8) v5)) :: (6, .v (.bool true)) :: [])) (init := [0, 1, 2, 3, 4]) (fin := [2, 14, 15, 16]) (sps := [zq [0] 5 13, zq [3] 6 14, zq [5,6] 7 15, zq [0] 8 16, zq [3] 9 17, zq [1] 10 18, zq [10] 11 19, zq [9,11] 12 20, zq [8,12] 13 21, zq [7] 14 4, zq [13] 15 5, zq [] 16 6]) (es' := [(_,_),(4, .fl .shr 1 (List.map (Value.int .u8) v3)), (5, .fl .shr 1 (List.map (Value.int .u8) v5)), (6, .v (.bool true))]) (by kernel_rfl) rfl rfl ⟨z1 rfl,z1 rfl,zp rfl (op_sl _ _ _ 0 v1 _ underlying22 sz5 rfl rfl rfl ⟨_, rfl⟩ hv3),z1 rfl,z1 rfl,z1 rfl,zp rfl (op_len_fl _ _ _ underlying22 rfl (by decide) (map_len _)),zp rfl (oB rfl (ibind (f := Value.int .i64) (Option.some.inj hv4))),zp rfl (op_sl _ _ _ v4 (s.length : Int) _ underlying22 sz5 rfl rfl ⟨_, rfl⟩ rfl hv5),z2 rfl,z2 rfl,z2 rfl,zz⟩ ?_
   refine pt_then (ht_ret ?_)
   refine pt_pick [1, 2, 3] (by kernel_rfl) (es' := [(_,_),(_,_),(_,_)]) rfl ?_
   refine pt_r_then ?_
   obtain rfl := Option.some.inj h
   exact pt_ret hio rfl (.tmp _ _ (.tmp _ _ (.tmp _ _ .nil))) rfl rfl
  ·have h := cond_f hb2 h
   refine ht_skip ?_
   refine pt_then ?_
   refine zgg hn [_,_,_,_,_,(22,.fl .shr 1 (List.map (Value.int .u8) s)),(4,.fl .shr 1 (List.map (Value.int .u8) s)),(5,.v (.slice none 0 0)),(6,vb false)] [0,1,2,3,4] [2,6,7,8] [zq [0] 5 22,zq [5] 6 4,zq [] 7 5,zq [] 8 6] [(_,_),(_,_),(_,_),(_,_)] rfl ⟨z1 rfl,z2 rfl,z2 rfl,z2 rfl,zz⟩ ?_
   refine ht_ret ?_
   refine pt_pick [1, 2, 3] (by kernel_rfl) (es' := [(_,_),(_,_),(_,_)]) rfl ?_
   refine pt_sub (fs := [(4, .fl .shr 1 (List.map (Value.int .u8) s)), (5, .fl .shr 1 (List.map (Value.int .u8) [])), (6, .v (.bool false))]) (.same _ (.sub _ (sub_nil_shr 1) rfl (.same _ .nil))) ?_
   obtain rfl := Option.some.inj h
   exact pt_ret hio rfl (.tmp _ _ (.tmp _ _ (.tmp _ _ .nil))) rfl rfl
theorem ok_dots_lines_1 (mx : Int) (l : Nat) {S : Type} (J : S → InvT) (Y : (List Int) → S → Option (S × Bool)) (hY : YieldOK Tryd.prog l (fun x => .fl .shr 1 (List.map (Value.int .u8) x)) Y J) (c0 : (List Int)) (st r : S) (h : Sh.dots_lines_1 Y c0 st = some r) : FnI Tryd.prog (GL mx) 45 l [.box 22 [.fl .shr 1 (List.map (Value.int .u8) c0)]] (J st) (J r) := by
  unfold Sh.dots_lines_1 at h
  refine fn_okI func45 rfl (zl rfl) rfl fun g0 hn hio => ?_
  refine ht_loopS h (fun ((s17, s18) : (List Int) × S) => [(0, .v (.func (.yield l) #[] #[])), (1, .box 22 [.fl .shr 1 (List.map (Value.int .u8) s17)]), (23, .glob (GL mx)), (24, .inv (J s18))]) (fun (() : Unit) => []) ?_ ?_
  ·rintro ⟨⟩ h
   cases h
  ·rintro u25 hl26 hr27 ⟨s17, s18⟩ rr30 h ho28
   refine ht_block ?_
   refine ht_seq ?_
   obtain ⟨v1, hv1, h⟩ := bind_some h
   refine zg hn (_::_::_::_::(7,.fl .shr 1 (List.map (Value.int .u8) s17))::(8,.fl (.own 5) 1 (List.map (Value.int .u8) [13,10]))::(9,.fl .ro 1 (List.map (Value.int .u8) [13,10]))::(10,.tup [.fl .shr 1 (List.map (Value.int .u8) v1.1),.fl .shr 1 (List.map (Value.int .u8) v1.2.1),vb v1.2.2])::(6,.tup [.fl .shr 1 (List.map (Value.int .u8) v1.1),.fl .shr 1 (List.map (Value.int .u8) v1.2.1),vb v1.2.2])::(11,.fl .shr 1 (List.map (Value.int .u8) v1.1))::(12,.fl .shr 1 (List.map (Value.int .u8) v1.2.1))::(13,vb v1.2.2)::(3,.fl .shr 1 (List.map (Value.int .u8) v1.1))::(4,.fl .shr 1 (List.map (Value.int .u8) v1.2.1))::(5,vb v1.2.2)::[]) [0,1,2,3] [0,1,2,3,12,13,14] [zq [1] 4 7,zq [] 5 8,⟨[],[5],[6],[(.slot 9)]⟩,zq [4,6,2] 7 10,⟨[],[7],[8],[(.slot 6)]⟩,zq [8] 9 11,zq [8] 10 12,zq [8] 11 13,zq [9] 12 3,zq [10] 13 4,zq [11] 14 5] [(_,_),(_,_),(_,_),(_,_),(_,_),(_,_),(_,_)] rfl ⟨zp rfl (oL underlying22 rfl),zp rfl (op_buildSlice _ _ 1 (.int .u8 0) (List.map (Value.int .u8) [13, 10]) [(0, .int .u8 13), (1, .int .u8 10)] underlying22 sz5 zr5 (fun _ V w o a hv hes => by simp only [List.map_toArray, List.map_cons, List.map_nil]; try rfl) (litfill (by simp [Instr.fill, Value.cells]; rfl) (by simp [List.range, List.range.loop] <;> rfl)) (by simp [Value.oneCell']) rfl (by decide) (by decide) (by decide)),zp rfl (op_conv_mark _ _ _ underlying22 underlying5 (by intro h; cases h)),zp rfl (op_callSG _ _ 23 46 _ _ rfl call46 rfl rfl rfl (fun _ h => h) (ok_bytes_Cut_sh mx s17 [13, 10] _ hv1) rfl),zp rfl (op_move_take _ _ _ _ rfl),zp rfl (oE rfl),zp rfl (oE rfl),zp rfl (oE rfl),z2 rfl,z2 rfl,z2 rfl,zz⟩ ?_
   refine pt_then (ht_seq ?_)
   refine ht_seq ?_
   refine ht_joinS h (fun ((s31, s32) : S × Bool) => [(0, .v (.func (.yield l) #[] #[])), (1, .box 22 [.fl .shr 1 (List.map (Value.int .u8) s17)]), (23, .glob (GL mx)), (24, .inv (J s31)), (4, .fl .shr 1 (List.map (Value.int .u8) v1.2.1)), (21, .v (.bool s32))]) ?_ ?_
   ·rintro ⟨s31, s32⟩ h
    refine pt_then ?_
    refine ht_cond _ rfl (fun hb36 => ?_) (fun hb36 => ?_)
    ·have h := cond_t hb36 h
     refine ht_ret ?_
     refine pt_pick [3] (by kernel_rfl) (es' := [(24, .inv (J s31))]) rfl ?_
     refine pt_r_then ?_
     refine pt_r_in ?_
     refine pt_r_then ?_
     refine pt_r_in ?_
     have h := hr27 _ (ho28 _ (Option.some.inj h).symm).symm
     obtain rfl := Option.some.inj h
     exact pt_retI hio rfl rfl rfl
    ·have h := cond_f hb36 h
     refine ht_skip ?_
     refine pt_then ?_
     refine zg hn [_,_,_,_,_,_,(22,.fl .shr 1 (List.map (Value.int .u8) v1.2.1)),(1,.box 22 [.fl .shr 1 (List.map (Value.int .u8) v1.2.1)])] [0,1,2,3,4,5] [0,7,2,3] [zq [4] 6 22,⟨[6],[1],[7],[.cell 1 0]⟩] [(_,_),(_,_),(_,_),(_,_)] rfl ⟨z1 rfl,zp rfl (oS sz22 rfl),zz⟩ ?_
     refine pt_inb ?_
     exact pt_next _ (Option.some.inj h).symm rfl
   ·intro u33 h hl34 hr35
    refine cond_some h (fun hg1_2 h => ?_) (fun hg1_2 h => ?_)
    ·refine zg hn (_::_::_::_::_::_::_::(14,vb v1.2.2)::(15,vb (!v1.2.2))::(16,vb true)::(17,.v undef)::(18,.v undef)::(19,.v undef)::(20,.v undef)::(21,vb true)::[]) [0,1,2,3,4,5,6] [0,1,2,3,5,14] [zq [6] 7 14,zq [7] 8 15,zq [8] 9 16,zq [9] 10 17,zq [9] 11 18,zq [9] 12 19,zq [9] 13 20,zq [9] 14 21] [(_,_),(_,_),(_,_),(_,_),(_,_),(_,_)] rfl ⟨z1 rfl,zp rfl (op_un _ _ _ _ rfl rfl),z8 hg1_2 rfl,zf rfl,zf rfl,zf rfl,zf rfl,z3 true rfl,zz⟩ ?_
     exact hl34 _ (Option.some.inj h).symm
    ·obtain ⟨v2, hv2, h⟩ := bind_some h
     refine zg hn (_::_::_::_::_::_::_::(14,vb v1.2.2)::(15,vb (!v1.2.2))::(16,vb false)::(17,.v (.func (.yield l) #[] #[]))::(18,.fl .shr 1 (List.map (Value.int .u8) v1.1))::(19,vb v2.2)::(24,.inv (J v2.1))::(20,vb (!v2.2))::(21,vb (!v2.2))::[]) [0,1,2,3,4,5,6] [0,1,2,13,5,15] [zq [6] 7 14,zq [7] 8 15,zq [8] 9 16,zq [9,0] 10 17,zq [9,4] 11 18,⟨[9,11,10],[3],[13,12],[(.slot 19)]⟩,zq [9,12] 14 20,zq [9,14] 15 21] [(_,_),(_,_),(_,_),(_,_),(_,_),(_,_)] rfl ⟨z1 rfl,zp rfl (op_un _ _ _ _ rfl rfl),z8 hg1_2 rfl,zr' rfl (oM rfl),zr' rfl (oM rfl),zr' rfl (op_yield _ _ 24 l v1.1 s18 v2 hY hv2 rfl rfl rfl),zr' rfl (op_un _ _ _ _ rfl rfl),z3 false rfl,zz⟩ ?_
     exact hl34 _ (Option.some.inj h).symm
theorem ok_bytes_IndexAny (mx : Int) (s : List Int) (c : ByteArray) (r : Int) (h : Sh.bytes_IndexAny s c = some r) : FnG Tryd.prog (GL mx) 47 [.fl .shr 1 (List.map (Value.int .u8) s), .v (.string c)] (.v (.int .i64 r)) :=
  lib_bytes_IndexAny (gl_mem0 mx) (gl_mem2 mx) (gl_mem3 mx) (fun s b off c w hs hnc hb hm hmb k1 k2 HG hp => Tryd.idx_crlf s b off c w mx hs hnc hb hm hmb (tabs_lists utf8_first utf8_accept (by kernel_rfl) (by kernel_rfl) k1 k2) HG hp) Tryd.idx_none s c r h
theorem ok_bytes_ContainsAny (mx : Int) (b : (List Int)) (chars : ByteArray) (r : Bool) (h : Sh.bytes_ContainsAny b chars = some r) : FnG Tryd.prog (GL mx) 39 [.fl .shr 1 (List.map (Value.int .u8) b), .v (.string chars)] (.v (.bool r)) := by
  unfold Sh.bytes_ContainsAny at h
  refine fn_okG func39 rfl (zl rfl) rfl rfl fun g0 hn hio => ?_
  refine zgg hn [_,_,_,(4,vb false)] [0,1,2] [0,1,2] [zq [] 3 4] [(_,_),(_,_),(_,_)] rfl ⟨z2 rfl,zz⟩ ?_
  refine ht_seq ?_
  obtain ⟨v1, hv1, h⟩ := bind_some h
  refine zg hn [_,_,_,(5,.fl .shr 1 (List.map (Value.int .u8) b)),(6,vs chars),(7,vi v1),(8,vb (decide (0 ≤ v1))),(4,vb (decide (0 ≤ v1)))] [0,1,2] [2,7] [zq [0] 3 5,zq [1] 4 6,zq [3,4,2] 5 7,zq [5] 6 8,zq [6] 7 4] [(_,_),(_,_)] rfl ⟨z1 rfl,z1 rfl,zp rfl (op_callG _ _ 9 47 _ _ rfl call47 rfl rfl (fun _ h => h) (ok_bytes_IndexAny mx b chars _ hv1) rfl rfl),z4 rfl rfl,z2 rfl,zz⟩ ?_
  refine pt_then (ht_ret ?_)
  refine pt_pick [1] (by kernel_rfl) (es' := [(_,_)]) rfl ?_
  obtain rfl := Option.some.inj h
  exact pt_ret hio rfl (.tmp _ _ .nil) rfl rfl
theorem ok_dots_Check (mx : Int) (b : (List Int)) (r : Int) (h : Sh.dots_Check b = some r) : FnG Tryd.prog (GL mx) 24 [.fl .shr 1 (List.map (Value.int .u8) b)] (.v (.int .i64 r)) := by
  unfold Sh.dots_Check at h
  refine fn_okG func24 rfl (zl rfl) rfl rfl fun g0 hn hio => ?_
  refine zgg hn [_,_,(2,.box 25 [vi 0])] [0,1] [0,1,2] [zq [] 2 2] [(_,_),(_,_),(_,_)] rfl ⟨zp rfl (op_alloc _ _ zr25),zz⟩ ?_
  refine zgg hn [_,_,_,(3,.box 3 [vi 0]),(3,.box 3 [vi 0])] [0,1,2] [0,1,2,4] [zq [] 3 3,⟨[],[3],[4],[.cell 3 0]⟩] [(_,_),(_,_),(_,_),(_,_)] rfl ⟨zp rfl (op_alloc _ _ zr3),zp rfl (oS sz3 rfl),zz⟩ ?_
  refine ht_seq ?_
  refine ht_seq ?_
  obtain ⟨v1, hv1, h⟩ := bind_some h
  refine zg hn [_,_,_,_,(5,.fl .shr 1 (List.map (Value.int .u8) b)),(6,.cloB 45 [.box 22 [.fl .shr 1 (List.map (Value.int .u8) v1)]])] [0,1,2,3] [0,1,2,3,5] [zq [0] 4 5,zq [4] 5 6] [(_,_),(_,_),(_,_),(_,_),(_,_)] rfl ⟨z1 rfl,zp rfl (op_callS _ _ 38 _ _ rfl call38 rfl rfl (ok_dots_lines b _ hv1) rfl),zz⟩ ?_
  refine pt_then ?_
  refine ht_block ?_
  refine ht_pick [4, 0, 1, 2, 3] (by kernel_rfl) (es' := [(6, .cloB 45 [.box 22 [.fl .shr 1 (List.map (Value.int .u8) v1)]]), (0, .fl .shr 1 (List.map (Value.int .u8) b)), (19, .glob (GL mx)), (2, .box 25 [.v (.int .i64 0)]), (3, .box 3 [.v (.int .i64 0)])]) rfl ?_
  refine ht_rangeF h 45 6 7 20 _ [0, 19, 2, 3] call45 (fun (s8 : Int) => [(0, .fl .shr 1 (List.map (Value.int .u8) b)), (19, .glob (GL mx)), (2, .box 25 [.v (.int .i64 0)]), (3, .box 3 [.v (.int .i64 s8)])]) (fun (s10 : Int) => [(0, .fl .shr 1 (List.map (Value.int .u8) b)), (19, .glob (GL mx)), (2, .box 25 [.v (.int .i64 5)]), (3, .box 3 [.v (.int .i64 s10)])]) (fun l J Y hY t t' h => ok_dots_lines_1 mx l J Y hY v1 t t' h) hn rfl (fun _ => rfl) (fun _ => rfl) (fun _ => rfl) rfl rfl (fun _ => ⟨rfl, rfl⟩) rfl (glIn_look 19 rfl) ?_ ?_ ?_
  ·rintro kk g0 hn hio x s8 u h
   refine ht_es (es' := [(7, .fl .shr 1 (List.map (Value.int .u8) x)), (0, .fl .shr 1 (List.map (Value.int .u8) b)), (19, .glob (GL mx)), (2, .box 25 [.v (.int .i64 0)]), (3, .box 3 [.v (.int .i64 s8)]), (0, .v (kk.tm.getD 0 undef)), (19, .v (kk.tm.getD 19 undef)), (2, .v (kk.tm.getD 2 undef)), (3, .v (kk.tm.getD 3 undef)), (20, .inv kk.ready)]) rfl ?_
   refine zg hn [_,_,_,_,_,_,_,_,_,_,(4,.fl .shr 1 (List.map (Value.int .u8) x))] [0,1,2,3,4,5,6,7,8,9] [1,2,3,4,5,6,7,8,9,10] [zq [0] 10 4] [(_,_),(_,_),(_,_),(_,_),(_,_),(_,_),(_,_),(_,_),(_,_),(_,_)] rfl ⟨z2 rfl,zz⟩ ?_
   refine pt_pick [0, 1, 2, 3, 4, 5, 6, 7, 9, 8] (by kernel_rfl) (es' := [(0, .fl .shr 1 (List.map (Value.int .u8) b)), (19, .glob (GL mx)), (2, .box 25 [.v (.int .i64 0)]), (3, .box 3 [.v (.int .i64 s8)]), (0, .v (kk.tm.getD 0 undef)), (19, .v (kk.tm.getD 19 undef)), (2, .v (kk.tm.getD 2 undef)), (3, .v (kk.tm.getD 3 undef)), (4, .fl .shr 1 (List.map (Value.int .u8) x)), (20, .inv kk.ready)]) rfl ?_
   refine pt_begin (es := [(0, .fl .shr 1 (List.map (Value.int .u8) b)), (19, .glob (GL mx)), (2, .box 25 [.v (.int .i64 0)]), (3, .box 3 [.v (.int .i64 s8)]), (0, .v (kk.tm.getD 0 undef)), (19, .v (kk.tm.getD 19 undef)), (2, .v (kk.tm.getD 2 undef)), (3, .v (kk.tm.getD 3 undef)), (4, .fl .shr 1 (List.map (Value.int .u8) x))]) 20 rfl ?_
   refine ht_block ?_
   refine ht_seq ?_
   refine ht_seq ?_
   obtain ⟨v2, hv2, h⟩ := bind_some h
   refine zg hn [_,_,_,_,_,_,_,_,_,_,(8,.fl .shr 1 (List.map (Value.int .u8) x)),(9,vb v2)] [0,1,2,3,4,5,6,7,8,9] [0,1,2,3,4,5,6,7,8,9,11] [zq [8] 10 8,zq [10,1] 11 9] [(_,_),(_,_),(_,_),(_,_),(_,_),(_,_),(_,_),(_,_),(_,_),(_,_),(_,_)] rfl ⟨z1 rfl,zp rfl (op_callG _ _ 19 39 _ _ rfl call39 rfl rfl (fun _ h => h) (ok_bytes_ContainsAny mx x (⟨#[13, 10]⟩ : ByteArray) _ hv2) rfl rfl),zz⟩ ?_
   refine pt_then ?_
   refine ht_cond _ rfl (fun hb11 => ?_) (fun hb11 => ?_)
   ·have h := cond_t hb11 h
    refine zgg hn [_,_,_,_,_,_,_,_,_,_,_,(2,.box 25 [vi 5])] [0,1,2,3,4,5,6,7,8,9,10] [0,1,11,3,4,5,6,7,9] [⟨[],[2],[11],[.cell 2 0]⟩] [(_,_),(_,_),(_,_),(_,_),(_,_),(_,_),(_,_),(_,_),(_,_)] rfl ⟨zp rfl (oS sz25 rfl),zz⟩ ?_
    refine ht_ret ?_
    refine pt_r_then ?_
    refine pt_r_in ?_
    obtain rfl := Option.some.inj h
    exact pt_rret 20 [0, 19, 2, 3] _ rfl rfl (by kernel_rfl)
   ·have h := cond_f hb11 h
    refine ht_skip ?_
    refine pt_then ?_
    obtain ⟨v4, hv4, h⟩ := bind_some h
    obtain ⟨v5, hv5, h⟩ := bind_some h
    refine zg hn (_::_::_::_::_::_::_::_::_::_::_::(10,vi s8)::(11,.fl .shr 1 (List.map (Value.int .u8) x))::(12,vi (x.length : Int))::(13,vi v4)::(14,vi v5)::(3,.box 3 [vi v5])::[]) [0,1,2,3,4,5,6,7,8,9,10] [0,1,2,16,4,5,6,7,9] [zq [3] 11 10,zq [8] 12 11,zq [12] 13 12,zq [13] 14 13,zq [11,14] 15 14,⟨[15],[3],[16],[.cell 3 0]⟩] [(_,_),(_,_),(_,_),(_,_),(_,_),(_,_),(_,_),(_,_),(_,_)] rfl ⟨zp rfl (oL underlying3 rfl),z1 rfl,zp rfl (op_len_fl _ _ _ underlying22 rfl (by decide) (map_len _)),zp rfl (oB rfl (ibind (f := Value.int .i64) (Option.some.inj hv4))),zp rfl (oB rfl (ibind (f := Value.int .i64) (Option.some.inj hv5))),zp rfl (oS sz3 rfl),zz⟩ ?_
    refine pt_inb ?_
    obtain rfl := Option.some.inj h
    exact pt_rnext 20 [0, 19, 2, 3] _ rfl rfl (by kernel_rfl)
  ·rintro D s8 h
   refine pt_inb ?_
   refine pt_then (ht_seq ?_)
   refine zgg hn [_,_,_,_,(15,vi s8),(16,.fl .shr 1 (List.map (Value.int .u8) b)),(17,vi (b.length : Int)),(18,vb (s8 != (b.length : Int)))] [0,1,2,3] [1,2,7] [zq [3] 4 15,zq [0] 5 16,zq [5] 6 17,zq [4,6] 7 18] [(_,_),(_,_),(_,_)] rfl ⟨zp rfl (oL underlying3 rfl),z1 rfl,zp rfl (op_len_fl _ _ _ underlying22 rfl (by decide) (map_len _)),z4 rfl rfl,zz⟩ ?_
   refine ht_cond _ rfl (fun hb12 => ?_) (fun hb12 => ?_)
   ·have h := cond_t hb12 h
    refine zgg hn [_,_,_,(2,.box 25 [vi 5])] [0,1,2] [0,3] [⟨[],[1],[3],[.cell 2 0]⟩] [(_,_),(_,_)] rfl ⟨zp rfl (oS sz25 rfl),zz⟩ ?_
    refine ht_ret ?_
    refine pt_pick [1] (by kernel_rfl) (es' := [(_,_)]) rfl ?_
    refine pt_r_then ?_
    obtain rfl := Option.some.inj h
    exact pt_ret hio rfl (.cell1 _ _ _ _ underlying25 rfl .nil) rfl rfl
   ·have h := cond_f hb12 h
    refine ht_skip ?_
    refine pt_then ?_
    refine zgg hn [_,_,_,(2,.box 25 [vi 0])] [0,1,2] [0,3] [⟨[],[1],[3],[.cell 2 0]⟩] [(_,_),(_,_)] rfl ⟨zp rfl (oS sz25 rfl),zz⟩ ?_
    refine ht_ret ?_
    refine pt_pick [1] (by kernel_rfl) (es' := [(_,_)]) rfl ?_
    obtain rfl := Option.some.inj h
    exact pt_ret hio rfl (.cell1 _ _ _ _ underlying25 rfl .nil) rfl rfl
  ·rintro D s10 h
   refine pt_pick [2] (by kernel_rfl) (es' := [(_,_)]) rfl ?_
   refine pt_r_in ?_
   refine pt_r_then ?_
   obtain rfl := Option.some.inj h
   exact pt_ret hio rfl (.cell1 _ _ _ _ underlying25 rfl .nil) rfl rfl
theorem ok_dots_Lines (mx : Int) (b : (List Int)) (r : (List (List Int))) (h : Sh.dots_Lines b = some r) : FnG Tryd.prog (GL mx) 25 [.fl .shr 1 (List.map (Value.int .u8) b)] (.fr .ro false 1 (List.flatten (List.map Row_int_u8.ienc r))) := by
  unfold Sh.dots_Lines at h
  refine fn_okG func25 rfl (zl rfl) rfl rfl fun g0 hn hio => ?_
  refine zgg hn [_,_,(2,.v (.slice none 0 0))] [0,1] [0,1] [zq [] 2 2] [(_,_),(_,_)] rfl ⟨z2 rfl,zz⟩ ?_
  refine zgg hn [_,_,(3,.box 52 [.v (.slice none 0 0)])] [0,1] [0,1,2] [zq [] 2 3] [(_,_),(_,_),(_,_)] rfl ⟨zp rfl (op_alloc _ _ zr52),zz⟩ ?_
  refine ht_seq ?_
  refine ht_seq ?_
  obtain ⟨v1, hv1, h⟩ := bind_some h
  refine zg hn [_,_,_,(5,.fl .shr 1 (List.map (Value.int .u8) b)),(6,.cloB 45 [.box 22 [.fl .shr 1 (List.map (Value.int .u8) v1)]])] [0,1,2] [1,2,4] [zq [0] 3 5,zq [3] 4 6] [(_,_),(_,_),(_,_)] rfl ⟨z1 rfl,zp rfl (op_callS _ _ 38 _ _ rfl call38 rfl rfl (ok_dots_lines b _ hv1) rfl),zz⟩ ?_
  refine pt_then ?_
  refine ht_block ?_
  refine ht_pick [2, 0, 1] (by kernel_rfl) (es' := [(6, .cloB 45 [.box 22 [.fl .shr 1 (List.map (Value.int .u8) v1)]]), (14, .glob (GL mx)), (3, .box 52 [.v (.slice none 0 0)])]) rfl ?_
  refine ht_sub (fs := [(6, .cloB 45 [.box 22 [.fl .shr 1 (List.map (Value.int .u8) v1)]]), (14, .glob (GL mx)), (3, .box 52 [.fr (.own 22) false 1 (List.flatten (List.map Row_int_u8.ienc []))])]) (.same _ (.same _ (.box _ _ (subs_cons (sub_nil_fr 22 false 1) (subs_nil)) rfl .nil))) ?_
  refine ht_rangeF h 45 6 7 15 _ [14, 3] call45 (fun (s7 : (List (List Int))) => [(14, .glob (GL mx)), (3, .box 52 [.fr (.own 22) false 1 (List.flatten (List.map Row_int_u8.ienc s7))])]) (fun (() : Unit) => []) (fun l J Y hY t t' h => ok_dots_lines_1 mx l J Y hY v1 t t' h) hn rfl (fun _ => rfl) (fun _ => rfl) (fun _ => rfl) rfl rfl (fun _ => ⟨rfl, rfl⟩) rfl (glIn_look 14 rfl) ?_ ?_ ?_
  ·rintro kk g0 hn hio x s7 u h
   refine ht_es (es' := [(7, .fl .shr 1 (List.map (Value.int .u8) x)), (14, .glob (GL mx)), (3, .box 52 [.fr (.own 22) false 1 (List.flatten (List.map Row_int_u8.ienc s7))]), (14, .v (kk.tm.getD 14 undef)), (3, .v (kk.tm.getD 3 undef)), (15, .inv kk.ready)]) rfl ?_
   refine zg hn [_,_,_,_,_,_,(4,.fl .shr 1 (List.map (Value.int .u8) x))] [0,1,2,3,4,5] [1,2,3,4,5,6] [zq [0] 6 4] [(_,_),(_,_),(_,_),(_,_),(_,_),(_,_)] rfl ⟨z2 rfl,zz⟩ ?_
   refine pt_pick [0, 1, 2, 3, 5, 4] (by kernel_rfl) (es' := [(14, .glob (GL mx)), (3, .box 52 [.fr (.own 22) false 1 (List.flatten (List.map Row_int_u8.ienc s7))]), (14, .v (kk.tm.getD 14 undef)), (3, .v (kk.tm.getD 3 undef)), (4, .fl .shr 1 (List.map (Value.int .u8) x)), (15, .inv kk.ready)]) rfl ?_
   refine pt_begin (es := [(14, .glob (GL mx)), (3, .box 52 [.fr (.own 22) false 1 (List.flatten (List.map Row_int_u8.ienc s7))]), (14, .v (kk.tm.getD 14 undef)), (3, .v (kk.tm.getD 3 undef)), (4, .fl .shr 1 (List.map (Value.int .u8) x))]) 15 rfl ?_
   refine ht_block ?_
   obtain ⟨v2, hv2, h⟩ := bind_some h
   obtain ⟨v3, hv3, h⟩ := bind_some h
   refine ht_anyR (by kernel_rfl) hn (El := [_, _, _, _, _, _, (8, .same (.cell 3 0)), (9, .fl .shr 1 (List.map (Value.int .u8) x)), (10, .fl .ro 1 (List.map (Value.int .u8) v2)), (11, .fr (.own 22) false 1 (List.flatten (List.map Row_int_u8.ienc [v2]))), (12, .fr (.own 22) false 1 (List.flatten (List.map Row_int_u8.ienc v3))), (3, .box 52 [.any]), (3, .box 52 [.fr (.own 22) false 1 (List.flatten (List.map Row_int_u8.ienc v3))])]) (init := [0, 1, 2, 3, 4, 5]) (fin := [0, 12, 2, 3, 5]) (sps := [zq [1] 6 8, zq [4] 7 9, zq [7] 8 10, zq [8] 9 11, ⟨[6, 9], [1], [11, 10], [(.slot 12)]⟩, ⟨[], [6, 10, 11], [12], [.cell 3 0]⟩]) (es' := [(_,_),(3, .box 52 [.fr (.own 22) false 1 (List.flatten (List.map Row_int_u8.ienc v3))]), (_,_),(_,_),(_,_)]) (by kernel_rfl) rfl rfl ⟨zp rfl (oL underlying52 rfl),z1 rfl,zp rfl (LOp.frzG 0 (op_app_nil _ _ _ _ el22 rfl rfl (map_len _) hv2 (congrArg (List.map _) (app_nil_eq hv2))) (zl rfl) rfl),zp rfl (op_build1_fr _ _ _ 1 (.slice none 0 0) false _ _ underlying52 sz22 zr22 rfl rfl (.cons (.ro _ _ rfl) (.nil)) rfl (by decide) (by decide)),zp rfl (op_app_fr_cell _ 12 3 0 _ _ el52 rfl rfl (zl rfl) rfl (gflat_len Row_int_u8.ilen _) (gflat_len Row_int_u8.ilen _) hv3 (gflat_app (app_eq hv3)) (by decide) (by decide) (by decide) rfl rfl),zp rfl (LOp.drop [_] (op_store_take _ _ _ _ _ _ _ _ sz52 rfl rfl rfl (zl rfl) rfl rfl)),zz⟩ ?_
   refine pt_inb ?_
   obtain rfl := Option.some.inj h
   exact pt_rnext 15 [14, 3] _ rfl rfl (by kernel_rfl)
  ·rintro D s7 h
   refine pt_inb ?_
   refine pt_then (ht_seq ?_)
   refine ht_frz 1 hio (es' := [(14, .glob (GL mx)), (3, .box 52 [.fr .ro false 1 (List.flatten (List.map Row_int_u8.ienc s7))])]) rfl ?_
   refine zg hn [_,_,(13,.fr .ro false 1 (List.flatten (List.map Row_int_u8.ienc s7))),(2,.fr .ro false 1 (List.flatten (List.map Row_int_u8.ienc s7)))] [0,1] [0,3] [zq [1] 2 13,zq [2] 3 2] [(_,_),(_,_)] rfl ⟨zp rfl (oL underlying52 rfl),z2 rfl,zz⟩ ?_
   refine pt_then (ht_ret ?_)
   refine pt_pick [1] (by kernel_rfl) (es' := [(_,_)]) rfl ?_
   obtain rfl := Option.some.inj h
   exact pt_ret hio rfl (.tmp _ _ .nil) rfl rfl
  ·rintro D ⟨⟩ h
   cases h
theorem ok_internal_stringslite_Index (s sub : ByteArray) (r : Int) (h : Sh.strings_Index s sub = some r) : FnOK Tryd.prog 63 [.v (.string s), .v (.string sub)] (.v (.int .i64 r)) := lib_strings_Index Tryd.stringslite_Index_one s sub r h
theorem ok_internal_stringslite_Cut (s : ByteArray) (sep : ByteArray) (r : (ByteArray × ByteArray × Bool)) (h : Sh.internal_stringslite_Cut s sep = some r) : FnOK Tryd.prog 48 [.v (.string s), .v (.string sep)] (.tup [.v (.string r.1), .v (.string r.2.1), .v (.bool r.2.2)]) := by
  unfold Sh.internal_stringslite_Cut at h
  refine fn_ok func48 rfl (zl rfl) rfl rfl fun g0 hn hio => ?_
  refine zgg hn [_,_,(4,vs z0),(5,vs z0),(6,vb false)] [0,1] [0,1] [zq [] 2 4,zq [] 3 5,zq [] 4 6] [(_,_),(_,_)] rfl ⟨z2 rfl,z2 rfl,z2 rfl,zz⟩ ?_
  refine ht_seq ?_
  refine ht_seq ?_
  obtain ⟨v1, hv1, h⟩ := bind_some h
  refine zg hn [_,_,(8,vs s),(9,vs sep),(10,vi v1),(7,vi v1)] [0,1] [0,1,5] [zq [0] 2 8,zq [1] 3 9,zq [2,3] 4 10,zq [4] 5 7] [(_,_),(_,_),(_,_)] rfl ⟨z1 rfl,z1 rfl,zp rfl (op_call _ _ 63 _ _ rfl call63 rfl (ok_internal_stringslite_Index s sep _ hv1) rfl rfl),z2 rfl,zz⟩ ?_
  refine pt_then ?_
  refine zgg hn [_,_,_,(11,vi v1),(12,vb (decide (0 ≤ v1)))] [0,1,2] [0,1,2,4] [zq [2] 3 11,zq [3] 4 12] [(_,_),(_,_),(_,_),(_,_)] rfl ⟨z1 rfl,z4 rfl rfl,zz⟩ ?_
  refine ht_cond _ rfl (fun hb2 => ?_) (fun hb2 => ?_)
  ·have h := cond_t hb2 h
   refine ht_seq ?_
   obtain ⟨v3, hv3, h⟩ := bind_some h
   obtain ⟨v4, hv4, h⟩ := bind_some h
   obtain ⟨v5, hv5, h⟩ := bind_some h
   refine ht_anyR (by kernel_rfl) hn (El := (_ :: _ :: _ :: _ :: (13, .v (.string s)) :: (14, .v (.int .i64 v1)) :: (15, .v (.string v3)) :: (16, .v (.string s)) :: (17, .v (.int .i64 v1)) :: (18, .v (.string sep)) :: (19, .v (.int .i64 (sep.size : Int))) :: (20, .v (.int .i64 v4)) :: (21, .v (.string v5)) :: (4, .v (.string v3)) :: (5, .v (.string v5)) :: (6, .v (.bool true)) :: [])) (init := [0, 1, 2, 3]) (fin := [13, 14, 15]) (sps := [zq [0] 4 13, zq [2] 5 14, zq [4,5] 6 15, zq [0] 7 16, zq [2] 8 17, zq [1] 9 18, zq [9] 10 19, zq [8,10] 11 20, zq [7,11] 12 21, zq [6] 13 4, zq [12] 14 5, zq [] 15 6]) (es' := [(4, .v (.string v3)), (5, .v (.string v5)), (6, .v (.bool true))]) (by kernel_rfl) rfl rfl ⟨z1 rfl,z1 rfl,zp rfl (op_substr _ _ _ 0 v1 _ underlying9 rfl rfl ⟨_, rfl⟩ hv3),z1 rfl,z1 rfl,z1 rfl,zp rfl (oN underlying9 rfl),zp rfl (oB rfl (ibind (f := Value.int .i64) (Option.some.inj hv4))),zp rfl (op_substr _ _ _ v4 (s.size : Int) _ underlying9 rfl ⟨_, rfl⟩ rfl hv5),z2 rfl,z2 rfl,z2 rfl,zz⟩ ?_
   refine pt_then (ht_ret ?_)
   refine pt_r_then ?_
   obtain rfl := Option.some.inj h
   exact pt_ret hio rfl (.tmp _ _ (.tmp _ _ (.tmp _ _ .nil))) rfl rfl
  ·have h := cond_f hb2 h
   refine ht_skip ?_
   refine pt_then ?_
   refine zgg hn [_,_,_,_,(22,vs s),(4,vs s),(5,vs z0),(6,vb false)] [0,1,2,3] [5,6,7] [zq [0] 4 22,zq [4] 5 4,zq [] 6 5,zq [] 7 6] [(_,_),(_,_),(_,_)] rfl ⟨z1 rfl,z2 rfl,z2 rfl,z2 rfl,zz⟩ ?_
   refine ht_ret ?_
   obtain rfl := Option.some.inj h
   exact pt_ret hio rfl (.tmp _ _ (.tmp _ _ (.tmp _ _ .nil))) rfl rfl
theorem ok_strings_Cut (s : ByteArray) (sep : ByteArray) (r : (ByteArray × ByteArray × Bool)) (h : Sh.strings_Cut s sep = some r) : FnOK Tryd.prog 40 [.v (.string s), .v (.string sep)] (.tup [.v (.string r.1), .v (.string r.2.1), .v (.bool r.2.2)]) := by
  unfold Sh.strings_Cut at h
  refine fn_ok func40 rfl (zl rfl) rfl rfl fun g0 hn hio => ?_
  refine zgg hn [_,_,(4,vs z0),(5,vs z0),(6,vb false)] [0,1] [0,1] [zq [] 2 4,zq [] 3 5,zq [] 4 6] [(_,_),(_,_)] rfl ⟨z2 rfl,z2 rfl,z2 rfl,zz⟩ ?_
  refine ht_seq ?_
  obtain ⟨v1, hv1, h⟩ := bind_some h
  refine zg hn [_,_,(7,vs s),(8,vs sep),(9,.tup [vs v1.1,vs v1.2.1,vb v1.2.2]),(10,vs v1.1),(11,vs v1.2.1),(12,vb v1.2.2),(4,vs v1.1),(5,vs v1.2.1),(6,vb v1.2.2)] [0,1] [8,9,10] [zq [0] 2 7,zq [1] 3 8,zq [2,3] 4 9,zq [4] 5 10,zq [4] 6 11,zq [4] 7 12,zq [5] 8 4,zq [6] 9 5,zq [7] 10 6] [(_,_),(_,_),(_,_)] rfl ⟨z1 rfl,z1 rfl,zp rfl (op_call _ _ 48 _ _ rfl call48 rfl (ok_internal_stringslite_Cut s sep _ hv1) rfl rfl),zp rfl (oE rfl),zp rfl (oE rfl),zp rfl (oE rfl),z2 rfl,z2 rfl,z2 rfl,zz⟩ ?_
  refine pt_then (ht_ret ?_)
  obtain rfl := Option.some.inj h
  exact pt_ret hio rfl (.tmp _ _ (.tmp _ _ (.tmp _ _ .nil))) rfl rfl
theorem ok_head_first (s : ByteArray) (r : (ByteArray × ByteArray × Bool)) (h : Sh.head_first s = some r) : FnOK Tryd.prog 26 [.v (.string s)] (.tup [.v (.string r.1), .v (.string r.2.1), .v (.bool r.2.2)]) := by
  unfold Sh.head_first at h
  refine fn_ok func26 rfl (zl rfl) rfl rfl fun g0 hn hio => ?_
  refine zgg hn [_,(2,vs z0),(3,vs z0),(4,vb false)] [0] [0] [zq [] 1 2,zq [] 2 3,zq [] 3 4] [(_,_)] rfl ⟨z2 rfl,z2 rfl,z2 rfl,zz⟩ ?_
  refine ht_seq ?_
  obtain ⟨v1, hv1, h⟩ := bind_some h
  refine zg hn [_,(7,vs s),(8,.tup [vs v1.1,vs v1.2.1,vb v1.2.2]),(6,.tup [vs v1.1,vs v1.2.1,vb v1.2.2]),(9,vs v1.1),(10,vs v1.2.1),(11,vb v1.2.2),(2,vs v1.1),(3,vs v1.2.1),(4,vb v1.2.2)] [0] [7,8,9] [zq [0] 1 7,zq [1] 2 8,⟨[],[2],[3],[(.slot 6)]⟩,zq [3] 4 9,zq [3] 5 10,zq [3] 6 11,zq [4] 7 2,zq [5] 8 3,zq [6] 9 4] [(_,_),(_,_),(_,_)] rfl ⟨z1 rfl,zp rfl (op_call _ _ 40 _ _ rfl call40 rfl (ok_strings_Cut s (⟨#[58]⟩ : ByteArray) _ hv1) rfl rfl),zp rfl (op_move_take _ _ _ _ rfl),zp rfl (oE rfl),zp rfl (oE rfl),zp rfl (oE rfl),z2 rfl,z2 rfl,z2 rfl,zz⟩ ?_
  refine pt_then (ht_seq ?_)
  refine ht_seq ?_
  refine ht_joinS h (fun (s2 : Bool) => [(2, .v (.string v1.1)), (3, .v (.string v1.2.1)), (17, .v (.bool s2))]) ?_ ?_
  ·rintro s2 h
   refine pt_then ?_
   refine ht_cond _ rfl (fun hb6 => ?_) (fun hb6 => ?_)
   ·have h := cond_t hb6 h
    refine zgg hn [_,_,_,(2,vs z0),(3,vs z0),(4,vb false)] [0,1,2] [3,4,5] [⟨[],[0],[3],[(.slot 2)]⟩,⟨[],[1],[4],[(.slot 3)]⟩,zq [] 5 4] [(_,_),(_,_),(_,_)] rfl ⟨zp rfl (LOp.drop [_] (op_assign _ _ _ _ rfl rfl)),zp rfl (LOp.drop [_] (op_assign _ _ _ _ rfl rfl)),z2 rfl,zz⟩ ?_
    refine ht_ret ?_
    refine pt_r_then ?_
    obtain rfl := Option.some.inj h
    exact pt_ret hio rfl (.tmp _ _ (.tmp _ _ (.tmp _ _ .nil))) rfl rfl
   ·have h := cond_f hb6 h
    refine ht_skip ?_
    refine pt_then (ht_seq ?_)
    refine zgg hn [_,_,_,(18,vs v1.1),(19,vi (v1.1.size : Int)),(20,vi 0)] [0,1,2] [0,1,4,5] [zq [0] 3 18,zq [3] 4 19,zq [] 5 20] [(_,_),(_,_),(_,_),(_,_)] rfl ⟨z1 rfl,zp rfl (oN underlying9 rfl),z1 rfl,zz⟩ ?_
    refine ht_loopS h (fun (s23 : Int) => [(2, .v (.string v1.1)), (3, .v (.string v1.2.1)), (19, .v (.int .i64 (v1.1.size : Int))), (20, .v (.int .i64 s23))]) (fun (() : Unit) => [(2, .v (.string v1.1)), (3, .v (.string v1.2.1))]) ?_ ?_
    ·rintro ⟨⟩ h
     refine pt_then ?_
     refine zgg hn [_,_,(34,vs v1.1),(35,vs v1.2.1),(2,vs v1.1),(3,vs v1.2.1),(4,vb true)] [0,1] [4,5,6] [zq [0] 2 34,zq [1] 3 35,⟨[2],[0],[4],[(.slot 2)]⟩,⟨[3],[1],[5],[(.slot 3)]⟩,zq [] 6 4] [(_,_),(_,_),(_,_)] rfl ⟨z1 rfl,z1 rfl,zp rfl (LOp.drop [_] (op_assign _ _ _ _ rfl rfl)),zp rfl (LOp.drop [_] (op_assign _ _ _ _ rfl rfl)),z2 rfl,zz⟩ ?_
     refine ht_ret ?_
     obtain rfl := Option.some.inj h
     exact pt_ret hio rfl (.tmp _ _ (.tmp _ _ (.tmp _ _ .nil))) rfl rfl
    ·rintro u30 hl31 hr32 s23 rr35 h ho33
     refine zgg hn [_,_,_,_,(21,vb (decide (s23 < (v1.1.size : Int))))] [0,1,2,3] [0,1,2,3,4] [zq [3,2] 4 21] [(_,_),(_,_),(_,_),(_,_),(_,_)] rfl ⟨z4 rfl rfl,zz⟩ ?_
     refine ht_seq ?_
     refine ht_cond _ rfl (fun hb36 => ?_) (fun hb36 => ?_)
     ·have h := cond_t hb36 h
      refine ht_skip ?_
      refine pt_then (ht_seq ?_)
      refine ht_block ?_
      refine zgg hn [_,_,_,_,_,(22,vi s23),(5,vi s23)] [0,1,2,3,4] [0,1,2,3,6] [zq [3] 5 22,zq [5] 6 5] [(_,_),(_,_),(_,_),(_,_),(_,_)] rfl ⟨z1 rfl,z2 rfl,zz⟩ ?_
      refine ht_seq ?_
      refine ht_joinS h (fun (s37 : Bool) => [(2, .v (.string v1.1)), (3, .v (.string v1.2.1)), (19, .v (.int .i64 (v1.1.size : Int))), (20, .v (.int .i64 s23)), (32, .v (.bool s37))]) ?_ ?_
      ·rintro s37 h
       refine pt_then ?_
       refine ht_cond _ rfl (fun hb41 => ?_) (fun hb41 => ?_)
       ·have h := cond_t hb41 h
        refine zgg hn [_,_,_,_,_,(2,vs z0),(3,vs z0),(4,vb false)] [0,1,2,3,4] [5,6,7] [⟨[],[0],[5],[(.slot 2)]⟩,⟨[],[1],[6],[(.slot 3)]⟩,zq [] 7 4] [(_,_),(_,_),(_,_)] rfl ⟨zp rfl (LOp.drop [_] (op_assign _ _ _ _ rfl rfl)),zp rfl (LOp.drop [_] (op_assign _ _ _ _ rfl rfl)),z2 rfl,zz⟩ ?_
        refine ht_ret ?_
        refine pt_r_in ?_
        refine pt_r_then ?_
        refine pt_r_then ?_
        refine pt_r_in ?_
        refine pt_r_then ?_
        have h := hr32 _ (ho33 _ (Option.some.inj h).symm).symm
        obtain rfl := Option.some.inj h
        exact pt_ret hio rfl (.tmp _ _ (.tmp _ _ (.tmp _ _ .nil))) rfl rfl
       ·have h := cond_f hb41 h
        refine ht_skip ?_
        refine pt_inb ?_
        refine pt_then ?_
        obtain ⟨v15, hv15, h⟩ := bind_some h
        refine zg hn [_,_,_,_,_,(33,vi v15),(20,vi v15)] [0,1,2,3,4] [0,1,2,6] [zq [3] 5 33,⟨[5],[3],[6],[(.slot 20)]⟩] [(_,_),(_,_),(_,_),(_,_)] rfl ⟨zp rfl (oB rfl (ibind (f := Value.int .i64) (Option.some.inj hv15))),zp rfl (LOp.drop [_] (oM rfl)),zz⟩ ?_
        exact pt_next _ (Option.some.inj h).symm rfl
      ·intro u38 h hl39 hr40
       obtain ⟨v8, hv8, h⟩ := bind_some h
       refine cond_some h (fun hg7_4 h => ?_) (fun hg7_4 h => ?_)
       ·refine zg hn (_::_::_::_::_::(23,vs v1.1)::(24,vi s23)::(25,.v (.int .u8 v8))::(26,vb (decide (v8 < 33)))::(27,vb true)::(28,.v undef)::(29,.v undef)::(30,.v undef)::(31,.v undef)::(32,vb true)::[]) [0,1,2,3,4] [0,1,2,3,14] [zq [0] 5 23,zq [4] 6 24,zq [5,6] 7 25,zq [7] 8 26,zq [8] 9 27,zq [9] 10 28,zq [9] 11 29,zq [9] 12 30,zq [9] 13 31,zq [9] 14 32] [(_,_),(_,_),(_,_),(_,_),(_,_)] rfl ⟨z1 rfl,z1 rfl,zp rfl (op_chr _ _ _ s23 _ underlying9 rfl rfl hv8),z4 rfl rfl,z8 hg7_4 rfl,zf rfl,zf rfl,zf rfl,zf rfl,z3 true rfl,zz⟩ ?_
        exact hl39 _ (Option.some.inj h).symm
       ·obtain ⟨v9, hv9, h⟩ := bind_some h
        refine zg hn (_::_::_::_::_::(23,vs v1.1)::(24,vi s23)::(25,.v (.int .u8 v8))::(26,vb (decide (v8 < 33)))::(27,vb false)::(28,vs v1.1)::(29,vi s23)::(30,.v (.int .u8 v9))::(31,vb (decide (126 < v9)))::(32,vb (decide (126 < v9)))::[]) [0,1,2,3,4] [0,1,2,3,14] [zq [0] 5 23,zq [4] 6 24,zq [5,6] 7 25,zq [7] 8 26,zq [8] 9 27,zq [9,0] 10 28,zq [9,4] 11 29,zq [9,10,11] 12 30,zq [9,12] 13 31,zq [9,13] 14 32] [(_,_),(_,_),(_,_),(_,_),(_,_)] rfl ⟨z1 rfl,z1 rfl,zp rfl (op_chr _ _ _ s23 _ underlying9 rfl rfl hv8),z4 rfl rfl,z8 hg7_4 rfl,zr' rfl (oM rfl),zr' rfl (oM rfl),zr' rfl (op_chr _ _ _ s23 _ underlying9 rfl rfl hv9),zr' rfl (oB rfl rfl),z3 false rfl,zz⟩ ?_
        exact hl39 _ (Option.some.inj h).symm
     ·have h := cond_f hb36 h
      refine ht_exit ?_
      refine pt_x_then ?_
      refine pt_x_then ?_
      refine pt_x_in ?_
      refine pt_pick [0, 1] (by kernel_rfl) (es' := [(_,_),(_,_)]) rfl ?_
      exact hl31 _ (ho33 _ (Option.some.inj h).symm).symm
  ·intro u3 h hl4 hr5
   refine cond_some h (fun hg2_2 h => ?_) (fun hg2_2 h => ?_)
   ·refine zg hn [_,_,_,(12,vb v1.2.2),(13,vb (!v1.2.2)),(14,vb true),(15,.v undef),(16,.v undef),(17,vb true)] [0,1,2] [0,1,8] [zq [2] 3 12,zq [3] 4 13,zq [4] 5 14,zq [5] 6 15,zq [5] 7 16,zq [5] 8 17] [(_,_),(_,_),(_,_)] rfl ⟨z1 rfl,zp rfl (op_un _ _ _ _ rfl rfl),z8 hg2_2 rfl,zf rfl,zf rfl,z3 true rfl,zz⟩ ?_
    exact hl4 _ (Option.some.inj h).symm
   ·refine zg hn [_,_,_,(12,vb v1.2.2),(13,vb (!v1.2.2)),(14,vb false),(15,vs v1.1),(16,vb (v1.1.toList == z0.toList)),(17,vb (v1.1.toList == z0.toList))] [0,1,2] [0,1,8] [zq [2] 3 12,zq [3] 4 13,zq [4] 5 14,zq [5,0] 6 15,zq [5,6] 7 16,zq [5,7] 8 17] [(_,_),(_,_),(_,_)] rfl ⟨z1 rfl,zp rfl (op_un _ _ _ _ rfl rfl),z8 hg2_2 rfl,zr' rfl (oM rfl),zr' rfl (oB rfl rfl),z3 false rfl,zz⟩ ?_
    exact hl4 _ (Option.some.inj h).symm
theorem ok_internal_stringslite_HasPrefix (s : ByteArray) (prefix_ : ByteArray) (r : Bool) (h : Sh.internal_stringslite_HasPrefix s prefix_ = some r) : FnOK Tryd.prog 49 [.v (.string s), .v (.string prefix_)] (.v (.bool r)) := by
  unfold Sh.internal_stringslite_HasPrefix at h
  refine fn_ok func49 rfl (zl rfl) rfl rfl fun g0 hn hio => ?_
  refine zgg hn [_,_,(4,vb false)] [0,1] [0,1] [zq [] 2 4] [(_,_),(_,_)] rfl ⟨z2 rfl,zz⟩ ?_
  refine ht_seq ?_
  refine ht_joinS h (fun (s2 : Bool) => [(4, .v (.bool s2))]) ?_ ?_
  ·rintro s2 h
   refine pt_then (ht_ret ?_)
   obtain rfl := Option.some.inj h
   exact pt_ret hio rfl (.tmp _ _ .nil) rfl rfl
  ·intro u3 h hl4 hr5
   refine cond_some h (fun hg1_5 h => ?_) (fun hg1_5 h => ?_)
   ·obtain ⟨v1, hv1, h⟩ := bind_some h
    refine zg hn (_::_::(5,vs s)::(6,vi (s.size : Int))::(7,vs prefix_)::(8,vi (prefix_.size : Int))::(9,vb (decide ((prefix_.size : Int) ≤ (s.size : Int))))::(10,vb true)::(11,vs s)::(12,vs prefix_)::(13,vi (prefix_.size : Int))::(14,vs v1)::(15,vs prefix_)::(16,vb (v1.toList == prefix_.toList))::(17,vb (v1.toList == prefix_.toList))::(4,vb (v1.toList == prefix_.toList))::[]) [0,1] [15] [zq [0] 2 5,zq [2] 3 6,zq [1] 4 7,zq [4] 5 8,zq [3,5] 6 9,zq [6] 7 10,zq [7,0] 8 11,zq [7,1] 9 12,zq [7,9] 10 13,zq [7,8,10] 11 14,zq [7,1] 12 15,zq [7,11,12] 13 16,zq [7,13] 14 17,zq [14] 15 4] [(_,_)] rfl ⟨z1 rfl,zp rfl (oN underlying9 rfl),z1 rfl,zp rfl (oN underlying9 rfl),z4 rfl rfl,z8 hg1_5 rfl,zr' rfl (oM rfl),zr' rfl (oM rfl),zr' rfl (oN underlying9 rfl),zr' rfl (op_substr _ _ _ 0 (prefix_.size : Int) _ underlying9 rfl rfl ⟨_, rfl⟩ hv1),zr' rfl (oM rfl),zr' rfl (oB rfl rfl),z3 true rfl,z2 rfl,zz⟩ ?_
    exact hl4 _ (Option.some.inj h).symm
   ·refine zg hn (_::_::(5,vs s)::(6,vi (s.size : Int))::(7,vs prefix_)::(8,vi (prefix_.size : Int))::(9,vb (decide ((prefix_.size : Int) ≤ (s.size : Int))))::(10,vb false)::(11,.v undef)::(12,.v undef)::(13,.v undef)::(14,.v undef)::(15,.v undef)::(16,.v undef)::(17,vb false)::(4,vb false)::[]) [0,1] [15] [zq [0] 2 5,zq [2] 3 6,zq [1] 4 7,zq [4] 5 8,zq [3,5] 6 9,zq [6] 7 10,zq [7] 8 11,zq [7] 9 12,zq [7] 10 13,zq [7] 11 14,zq [7] 12 15,zq [7] 13 16,zq [7] 14 17,zq [14] 15 4] [(_,_)] rfl ⟨z1 rfl,zp rfl (oN underlying9 rfl),z1 rfl,zp rfl (oN underlying9 rfl),z4 rfl rfl,z8 hg1_5 rfl,zt rfl,zt rfl,zt rfl,zt rfl,zt rfl,zt rfl,z3 false rfl,z2 rfl,zz⟩ ?_
    exact hl4 _ (Option.some.inj h).symm
theorem ok_strings_HasPrefix (s : ByteArray) (prefix_ : ByteArray) (r : Bool) (h : Sh.strings_HasPrefix s prefix_ = some r) : FnOK Tryd.prog 41 [.v (.string s), .v (.string prefix_)] (.v (.bool r)) := by
  unfold Sh.strings_HasPrefix at h
  refine fn_ok func41 rfl (zl rfl) rfl rfl fun g0 hn hio => ?_
  refine zgg hn [_,_,(4,vb false)] [0,1] [0,1] [zq [] 2 4] [(_,_),(_,_)] rfl ⟨z2 rfl,zz⟩ ?_
  refine ht_seq ?_
  obtain ⟨v1, hv1, h⟩ := bind_some h
  refine zg hn [_,_,(5,vs s),(6,vs prefix_),(7,vb v1),(4,vb v1)] [0,1] [5] [zq [0] 2 5,zq [1] 3 6,zq [2,3] 4 7,zq [4] 5 4] [(_,_)] rfl ⟨z1 rfl,z1 rfl,zp rfl (op_call _ _ 49 _ _ rfl call49 rfl (ok_internal_stringslite_HasPrefix s prefix_ _ hv1) rfl rfl),z2 rfl,zz⟩ ?_
  refine pt_then (ht_ret ?_)
  obtain rfl := Option.some.inj h
  exact pt_ret hio rfl (.tmp _ _ .nil) rfl rfl
theorem ok_head_continues (s : ByteArray) (r : Bool) (h : Sh.head_continues s = some r) : FnOK Tryd.prog 27 [.v (.string s)] (.v (.bool r)) := by
  unfold Sh.head_continues at h
  refine fn_ok func27 rfl (zl rfl) rfl rfl fun g0 hn hio => ?_
  refine zgg hn [_,(2,vb false)] [0] [0] [zq [] 1 2] [(_,_)] rfl ⟨z2 rfl,zz⟩ ?_
  refine ht_seq ?_
  refine ht_joinS h (fun (s3 : Bool) => [(2, .v (.bool s3))]) ?_ ?_
  ·rintro s3 h
   refine pt_then (ht_ret ?_)
   obtain rfl := Option.some.inj h
   exact pt_ret hio rfl (.tmp _ _ .nil) rfl rfl
  ·intro u4 h hl5 hr6
   obtain ⟨v1, hv1, h⟩ := bind_some h
   refine cond_some h (fun hg1_2 h => ?_) (fun hg1_2 h => ?_)
   ·refine zg hn [_,(3,vs s),(4,vb v1),(5,vb true),(6,.v undef),(7,.v undef),(8,vb true),(2,vb true)] [0] [7] [zq [0] 1 3,zq [1] 2 4,zq [2] 3 5,zq [3] 4 6,zq [3] 5 7,zq [3] 6 8,zq [6] 7 2] [(_,_)] rfl ⟨z1 rfl,zp rfl (op_call _ _ 41 _ _ rfl call41 rfl (ok_strings_HasPrefix s (⟨#[32]⟩ : ByteArray) _ hv1) rfl rfl),z8 hg1_2 rfl,zf rfl,zf rfl,z3 true rfl,z2 rfl,zz⟩ ?_
    exact hl5 _ (Option.some.inj h).symm
   ·obtain ⟨v2, hv2, h⟩ := bind_some h
    refine zg hn [_,(3,vs s),(4,vb v1),(5,vb false),(6,vs s),(7,vb v2),(8,vb v2),(2,vb v2)] [0] [7] [zq [0] 1 3,zq [1] 2 4,zq [2] 3 5,zq [3,0] 4 6,zq [3,4] 5 7,zq [3,5] 6 8,zq [6] 7 2] [(_,_)] rfl ⟨z1 rfl,zp rfl (op_call _ _ 41 _ _ rfl call41 rfl (ok_strings_HasPrefix s (⟨#[32]⟩ : ByteArray) _ hv1) rfl rfl),z8 hg1_2 rfl,zr' rfl (oM rfl),zr' rfl (op_call _ _ 41 _ _ rfl call41 rfl (ok_strings_HasPrefix s (⟨#[9]⟩ : ByteArray) _ hv2) rfl rfl),z3 false rfl,z2 rfl,zz⟩ ?_
    exact hl5 _ (Option.some.inj h).symm
theorem ok_head_Scan (mx : Int) (b : (List Int)) (r : ((List T_Field) × Int × Int)) (h : Sh.head_Scan b = some r) : FnG Tryd.prog (GL mx) 10 [.fl .shr 1 (List.map (Value.int .u8) b)] (.tup [.fl (.own 44) 2 (List.flatten (List.map T_Field.enc r.1)), .v (.int .i64 r.2.1), .v (.int .i64 r.2.2)]) := by
  unfold Sh.head_Scan at h
  refine fn_okG func10 rfl (zl rfl) rfl rfl fun g0 hn hio => ?_
  refine zgg hn [_,_,(2,.v (.slice none 0 0)),(3,vi 0),(4,vi 0)] [0,1] [0,1] [zq [] 2 2,zq [] 3 3,zq [] 4 4] [(_,_),(_,_)] rfl ⟨z2 rfl,z2 rfl,z2 rfl,zz⟩ ?_
  refine ht_seq ?_
  refine ht_seq ?_
  obtain ⟨v1, hv1, h⟩ := bind_some h
  refine zg hn [_,_,(14,.fl .shr 1 (List.map (Value.int .u8) b)),(15,vi v1),(5,vi v1)] [0,1] [0,1,4] [zq [0] 2 14,zq [2,1] 3 15,zq [3] 4 5] [(_,_),(_,_),(_,_)] rfl ⟨z1 rfl,zp rfl (op_callG _ _ 77 24 _ _ rfl call24 rfl rfl (fun _ h => h) (ok_dots_Check mx b _ hv1) rfl rfl),z2 rfl,zz⟩ ?_
  refine pt_then ?_
  refine zgg hn [_,_,_,(16,vi v1),(17,vb (v1 != 0))] [0,1,2] [0,1,2,4] [zq [2] 3 16,zq [3] 4 17] [(_,_),(_,_),(_,_),(_,_)] rfl ⟨z1 rfl,z4 rfl rfl,zz⟩ ?_
  refine ht_cond _ rfl (fun hb2 => ?_) (fun hb2 => ?_)
  ·have h := cond_t hb2 h
   refine zgg hn [_,_,_,_,(18,vi v1),(2,.v (.slice none 0 0)),(3,vi 0),(4,vi v1)] [0,1,2,3] [1,5,6,7] [zq [2] 4 18,zq [] 5 2,zq [] 6 3,zq [4] 7 4] [(_,_),(_,_),(_,_),(_,_)] rfl ⟨z1 rfl,z2 rfl,z2 rfl,z2 rfl,zz⟩ ?_
   refine ht_ret ?_
   refine pt_pick [1, 2, 3] (by kernel_rfl) (es' := [(_,_),(_,_),(_,_)]) rfl ?_
   refine pt_sub (fs := [(2, .fl (.own 44) 2 (List.flatten (List.map T_Field.enc []))), (3, .v (.int .i64 0)), (4, .v (.int .i64 v1))]) (.sub _ (sub_nil 44 2) rfl (.same _ (.same _ .nil))) ?_
   refine pt_r_then ?_
   obtain rfl := Option.some.inj h
   exact pt_ret hio rfl (.tmp _ _ (.tmp _ _ (.tmp _ _ .nil))) rfl rfl
  ·have h := cond_f hb2 h
   refine ht_skip ?_
   refine pt_then ?_
   refine zgg hn [_,_,_,_,(6,.v (.slice none 0 0))] [0,1,2,3] [0,1,4] [zq [] 4 6] [(_,_),(_,_),(_,_)] rfl ⟨z2 rfl,zz⟩ ?_
   refine zgg hn [_,_,_,(7,vi 0)] [0,1,2] [0,1,2,3] [zq [] 3 7] [(_,_),(_,_),(_,_),(_,_)] rfl ⟨z2 rfl,zz⟩ ?_
   refine ht_seq ?_
   refine ht_seq ?_
   obtain ⟨v3, hv3, h⟩ := bind_some h
   refine zg hn [_,_,_,_,(19,.fl .shr 1 (List.map (Value.int .u8) b)),(20,.fr .ro false 1 (List.flatten (List.map Row_int_u8.ienc v3))),(21,vi (v3.length : Int)),(22,vi 0)] [0,1,2,3] [1,2,3,5,6,7] [zq [0] 4 19,zq [4,1] 5 20,zq [5] 6 21,zq [] 7 22] [(_,_),(_,_),(_,_),(_,_),(_,_),(_,_)] rfl ⟨z1 rfl,zp rfl (op_callG _ _ 77 25 _ _ rfl call25 rfl rfl (fun _ h => h) (ok_dots_Lines mx b _ hv3) rfl rfl),zp rfl (op_len_fr _ _ _ underlying52 rfl (by decide) (gflat_len Row_int_u8.ilen _)),z1 rfl,zz⟩ ?_
   refine pt_then ?_
   refine ht_sub (fs := [(77, .glob (GL mx)), (6, .fl (.own 44) 2 (List.flatten (List.map T_Field.enc []))), (7, .v (.int .i64 0)), (20, .fr .ro false 1 (List.flatten (List.map Row_int_u8.ienc v3))), (21, .v (.int .i64 (v3.length : Int))), (22, .v (.int .i64 0))]) (.same _ (.sub _ (sub_nil 44 2) rfl (.same _ (.same _ (.same _ (.same _ .nil)))))) ?_
   refine ht_loopS h (fun ((s106, s107, s108) : (List T_Field) × Int × Int) => [(77, .glob (GL mx)), (6, .fl (.own 44) 2 (List.flatten (List.map T_Field.enc s106))), (7, .v (.int .i64 s107)), (20, .fr .ro false 1 (List.flatten (List.map Row_int_u8.ienc v3))), (21, .v (.int .i64 (v3.length : Int))), (22, .v (.int .i64 s108))]) (fun ((s150, s151) : (List T_Field) × Int) => [(77, .glob (GL mx)), (6, .fl (.own 44) 2 (List.flatten (List.map T_Field.enc s150))), (7, .v (.int .i64 s151))]) ?_ ?_
   ·rintro ⟨s150, s151⟩ h
    refine pt_then ?_
    refine zgg hn [_,_,_,(75,.fl (.own 44) 2 (List.flatten (List.map T_Field.enc s150))),(76,vi s151),(2,.fl (.own 44) 2 (List.flatten (List.map T_Field.enc s150))),(3,vi s151),(4,vi 0)] [0,1,2] [0,5,6,7] [⟨[],[1],[3],[(.slot 75)]⟩,zq [2] 4 76,⟨[],[3],[5],[(.slot 2)]⟩,zq [4] 6 3,zq [] 7 4] [(_,_),(_,_),(_,_),(_,_)] rfl ⟨zp rfl (op_move_take _ _ _ _ rfl),z1 rfl,zp rfl (op_assign_take _ _ _ _ rfl),z2 rfl,z2 rfl,zz⟩ ?_
    refine ht_ret ?_
    refine pt_pick [1, 2, 3] (by kernel_rfl) (es' := [(_,_),(_,_),(_,_)]) rfl ?_
    obtain rfl := Option.some.inj h
    exact pt_ret hio rfl (.tmp _ _ (.tmp _ _ (.tmp _ _ .nil))) rfl rfl
   ·rintro u152 hl153 hr154 ⟨s106, s107, s108⟩ rr157 h ho155
    refine zgg hn [_,_,_,_,_,_,(23,vb (decide (s108 < (v3.length : Int))))] [0,1,2,3,4,5] [0,1,2,3,4,5,6] [zq [5,4] 6 23] [(_,_),(_,_),(_,_),(_,_),(_,_),(_,_),(_,_)] rfl ⟨z4 rfl rfl,zz⟩ ?_
    refine ht_seq ?_
    refine ht_cond _ rfl (fun hb158 => ?_) (fun hb158 => ?_)
    ·have h := cond_t hb158 h
     refine ht_skip ?_
     refine pt_then (ht_seq ?_)
     refine ht_block ?_
     refine ht_seq ?_
     obtain ⟨v5, hv5, h⟩ := bind_some h
     obtain ⟨v6, hv6, h⟩ := bind_some h
     refine zg hn [_,_,_,_,_,_,_,(24,.eref (.slot 20) (v5 * 1)),(25,.fl .ro 1 (List.map (Value.int .u8) v6)),(9,.fl .ro 1 (List.map (Value.int .u8) v6))] [0,1,2,3,4,5,6] [0,1,2,3,4,5,9] [zq [3,5] 7 24,zq [7,3] 8 25,zq [8] 9 9] [(_,_),(_,_),(_,_),(_,_),(_,_),(_,_),(_,_)] rfl ⟨zp rfl (op_ix_fr _ _ _ _ _ _ _ _ underlying52 sz22 (by decide) rfl rfl rfl (ix_ok hv5).1 (gflat_lt Row_int_u8.ilen (ix_ok hv5).2) rfl),zp rfl (op_load_fr _ _ _ _ _ _ _ underlying22 rfl rfl rfl (gflat_cell0 Row_int_u8.ilen hv6 rfl) (.fl _ _ rfl)),z2 rfl,zz⟩ ?_
     refine pt_then (ht_seq ?_)
     obtain ⟨v7, hv7, h⟩ := bind_some h
     refine zg hn [_,_,_,_,_,_,_,(26,.fl .ro 1 (List.map (Value.int .u8) v6)),(27,vs v7),(10,vs v7)] [0,1,2,3,4,5,6] [0,1,2,3,4,5,9] [zq [6] 7 26,zq [7] 8 27,zq [8] 9 10] [(_,_),(_,_),(_,_),(_,_),(_,_),(_,_),(_,_)] rfl ⟨z1 rfl,zp rfl ((Option.some.inj hv7) ▸ op_bytes_str _ _ _ v6 underlying22 underlying9 underlying5 rfl),z2 rfl,zz⟩ ?_
     refine pt_then (ht_seq ?_)
     refine ht_joinS h (fun (s177 : (List T_Field)) => [(77, .glob (GL mx)), (6, .fl (.own 44) 2 (List.flatten (List.map T_Field.enc s177))), (7, .v (.int .i64 s107)), (20, .fr .ro false 1 (List.flatten (List.map Row_int_u8.ienc v3))), (21, .v (.int .i64 (v3.length : Int))), (22, .v (.int .i64 s108)), (10, .v (.string v7))]) ?_ ?_
     ·rintro s177 h
      refine pt_then ?_
      obtain ⟨v53, hv53, h⟩ := bind_some h
      obtain ⟨v54, hv54, h⟩ := bind_some h
      refine zg hn [_,_,_,_,_,_,_,(69,vi s107),(70,vs v7),(71,vi (v7.size : Int)),(72,vi v53),(73,vi v54),(7,vi v54)] [0,1,2,3,4,5,6] [0,1,3,4,5,12] [zq [2] 7 69,zq [6] 8 70,zq [8] 9 71,zq [9] 10 72,zq [7,10] 11 73,⟨[11],[2],[12],[(.slot 7)]⟩] [(_,_),(_,_),(_,_),(_,_),(_,_),(_,_)] rfl ⟨z1 rfl,z1 rfl,zp rfl (oN underlying9 rfl),zp rfl (oB rfl (ibind (f := Value.int .i64) (Option.some.inj hv53))),zp rfl (oB rfl (ibind (f := Value.int .i64) (Option.some.inj hv54))),zp rfl (LOp.drop [_] (op_assign _ _ _ _ rfl rfl)),zz⟩ ?_
      refine pt_inb ?_
      refine pt_then ?_
      obtain ⟨v55, hv55, h⟩ := bind_some h
      refine zg hn [_,_,_,_,_,_,(74,vi v55),(22,vi v55)] [0,1,2,3,4,5] [0,1,2,3,5,7] [zq [4] 6 74,⟨[6],[4],[7],[(.slot 22)]⟩] [(_,_),(_,_),(_,_),(_,_),(_,_),(_,_)] rfl ⟨zp rfl (oB rfl (ibind (f := Value.int .i64) (Option.some.inj hv55))),zp rfl (LOp.drop [_] (oM rfl)),zz⟩ ?_
      refine pt_pick [0, 1, 4, 2, 3, 5] (by kernel_rfl) (es' := [(_,_),(_,_),(_,_),(_,_),(_,_),(_,_)]) rfl ?_
      exact pt_next _ (Option.some.inj h).symm rfl
     ·intro u178 h hl179 hr180
      refine ht_seq ?_
      obtain ⟨v8, hv8, h⟩ := bind_some h
      refine zg hn (_::_::_::_::_::_::_::(29,vs v7)::(30,.tup [vs v8.1,vs v8.2.1,vb v8.2.2])::(28,.tup [vs v8.1,vs v8.2.1,vb v8.2.2])::(31,vs v8.1)::(32,vs v8.2.1)::(33,vb v8.2.2)::(11,vs v8.1)::(12,vs v8.2.1)::(13,vb v8.2.2)::[]) [0,1,2,3,4,5,6] [0,1,2,3,4,5,6,13,14,15] [zq [6] 7 29,zq [7] 8 30,⟨[],[8],[9],[(.slot 28)]⟩,zq [9] 10 31,zq [9] 11 32,zq [9] 12 33,zq [10] 13 11,zq [11] 14 12,zq [12] 15 13] [(_,_),(_,_),(_,_),(_,_),(_,_),(_,_),(_,_),(_,_),(_,_),(_,_)] rfl ⟨z1 rfl,zp rfl (op_call _ _ 26 _ _ rfl call26 rfl (ok_head_first v7 _ hv8) rfl rfl),zp rfl (op_move_take _ _ _ _ rfl),zp rfl (oE rfl),zp rfl (oE rfl),zp rfl (oE rfl),z2 rfl,z2 rfl,z2 rfl,zz⟩ ?_
      refine pt_then ?_
      refine ht_joinS h (fun (s188 : (List T_Field)) => [(77, .glob (GL mx)), (6, .fl (.own 44) 2 (List.flatten (List.map T_Field.enc s188))), (7, .v (.int .i64 s107)), (20, .fr .ro false 1 (List.flatten (List.map Row_int_u8.ienc v3))), (21, .v (.int .i64 (v3.length : Int))), (22, .v (.int .i64 s108)), (10, .v (.string v7))]) ?_ ?_
      ·rintro s188 h
       exact hl179 _ (Option.some.inj h).symm
      ·intro u189 h hl190 hr191
       refine ht_block ?_
       refine ht_seq ?_
       refine ht_joinS h (fun (s192 : Bool) => [(77, .glob (GL mx)), (6, .fl (.own 44) 2 (List.flatten (List.map T_Field.enc s106))), (7, .v (.int .i64 s107)), (20, .fr .ro false 1 (List.flatten (List.map Row_int_u8.ienc v3))), (21, .v (.int .i64 (v3.length : Int))), (22, .v (.int .i64 s108)), (10, .v (.string v7)), (11, .v (.string v8.1)), (12, .v (.string v8.2.1)), (13, .v (.bool v8.2.2)), (36, .v (.bool s192))]) ?_ ?_
       ·rintro s192 h
        refine pt_then ?_
        refine ht_cond _ rfl (fun hb196 => ?_) (fun hb196 => ?_)
        ·have h := cond_t hb196 h
         obtain ⟨v15, hv15, h⟩ := bind_some h
         obtain ⟨v65, hv65, h⟩ := bind_some h
         obtain ⟨v66, hv66, h⟩ := bind_some h
         obtain ⟨v67, hv67, h⟩ := bind_some h
         obtain ⟨v68, hv68, h⟩ := bind_some h
         obtain ⟨v69, hv69, h⟩ := bind_some h
         obtain ⟨v70, hv70, h⟩ := bind_some h
         refine zg hn (_::_::_::_::_::_::_::_::_::_::_::(44,.same (.slot 6))::(45,.same (.slot 6))::(46,vi (s106.length : Int))::(47,vi v15)::(48,.eref (.slot 6) (v65 * 2))::(49,.eref (.slot 6) (v65 * 2 + 1))::(50,vs v66.Body)::(51,vs v7)::(52,vs v67)::(53,.eref (.slot 6) (v68 * 2))::(54,.eref (.slot 6) (v68 * 2 + 1))::(6,.fl (.own 44) 2 (List.flatten (List.map T_Field.enc v70)))::[]) [0,1,2,3,4,5,6,7,8,9,10] [0,22,2,3,4,5,6] [zq [1] 11 44,zq [1] 12 45,zq [12,1] 13 46,zq [13] 14 47,zq [11,1,14] 15 48,zq [15,1] 16 49,zq [16,1] 17 50,zq [6] 18 51,zq [17,18] 19 52,zq [11,1,14] 20 53,zq [20,1] 21 54,⟨[21,19],[1],[22],[]⟩] [(_,_),(_,_),(_,_),(_,_),(_,_),(_,_),(_,_)] rfl ⟨z1 rfl,z1 rfl,zp rfl (op_len_fl _ _ _ underlying24 rfl (by decide) (flat_len T_Field.len _)),zp rfl (oB rfl (ibind (f := Value.int .i64) (Option.some.inj hv15))),zp rfl (op_ix _ _ _ _ _ _ _ _ underlying24 sz44 (by decide) rfl rfl rfl (ix_ok hv65).1 (flat_lt T_Field.len (ix_ok hv65).2) rfl),zp rfl (op_fieldAddr_e _ _ _ _ _ _ _ underlying44 rfl sz9 rfl rfl rfl),zp rfl (op_load_e _ _ _ _ _ _ underlying9 rfl rfl rfl (flat_cell T_Field.len hv66 rfl)),z1 rfl,zp rfl (oB rfl (cat_ok hv67)),zp rfl (op_ix _ _ _ _ _ _ _ _ underlying24 sz44 (by decide) rfl rfl rfl (ix_ok hv68).1 (flat_lt T_Field.len (ix_ok hv68).2) rfl),zp rfl (op_fieldAddr_e _ _ _ _ _ _ _ underlying44 rfl sz9 rfl rfl rfl),zp rfl (op_store_e _ _ _ _ _ _ _ _ sz9 rfl rfl rfl (by decide) (flat_fit (q := 1) (s := 1) T_Field.len hv69 (by decide)) ((flat_setc (q := 1) (s := 1) (y := (T_Field.mk v69.Name v67)) T_Field.len hv69 rfl (by decide)).trans (congrArg (fun l => List.flatten (List.map T_Field.enc l)) (Option.some.inj hv70)))),zz⟩ ?_
         refine pt_inb ?_
         exact hl190 _ (Option.some.inj h).symm
        ·have h := cond_f hb196 h
         refine zgg hn [_,_,_,_,_,_,_,_,_,_,_,(56,vb v8.2.2),(55,vb v8.2.2)] [0,1,2,3,4,5,6,7,8,9,10] [0,1,2,3,4,5,6,7,8,12] [zq [9] 11 56,zq [11] 12 55] [(_,_),(_,_),(_,_),(_,_),(_,_),(_,_),(_,_),(_,_),(_,_),(_,_)] rfl ⟨z1 rfl,z2 rfl,zz⟩ ?_
         refine ht_cond _ rfl (fun hb197 => ?_) (fun hb197 => ?_)
         ·have h := cond_t hb197 h
          obtain ⟨v17, hv17, h⟩ := bind_some h
          refine zg hn (_::_::_::_::_::_::_::_::_::_::(57,.fl (.own 44) 2 (List.flatten (List.map T_Field.enc s106)))::(58,vs v8.1)::(59,vs v8.2.1)::(60,.agg [vs v8.1,vs v8.2.1])::(61,.fl (.own 44) 2 (List.flatten (List.map T_Field.enc [(T_Field.mk v8.1 v8.2.1)])))::(62,.fl (.own 44) 2 (List.flatten (List.map T_Field.enc v17)))::(57,.any)::(6,.fl (.own 44) 2 (List.flatten (List.map T_Field.enc v17)))::[]) [0,1,2,3,4,5,6,7,8,9] [0,2,3,4,5,6,17] [⟨[],[1],[10],[(.slot 57)]⟩,zq [7] 11 58,zq [8] 12 59,zq [11,12] 13 60,zq [13] 14 61,⟨[14],[10],[16,15],[(.slot 62)]⟩,⟨[],[15],[17],[(.slot 6)]⟩] [(_,_),(_,_),(_,_),(_,_),(_,_),(_,_),(_,_)] rfl ⟨zp rfl (op_move_take _ _ _ _ rfl),z1 rfl,z1 rfl,zp rfl (op_build _ _ _ _ [1, 1] _ _ underlying44 zr44 (fs44 _ underlying44) (.copy _ (.copy _ Src.nil)) rfl rfl rfl),zp rfl (op_buildSlice _ _ 2 (.agg #[.string ByteArray.empty, .string ByteArray.empty]) (List.flatten (List.map T_Field.enc [(T_Field.mk v8.1 v8.2.1)])) [(0, .agg #[.string v8.1, .string v8.2.1])] underlying24 sz44 zr44 (fun _ V w o a hv hes => by have e0 := agg_v (ys := [.string v8.1, .string v8.2.1]) hv hes (x := .tmp 60) rfl; simp only [List.map_toArray, List.map_cons, List.map_nil, e0]; try rfl) (litfill (by simp [Instr.fill, Value.cells]; rfl) (by simp [List.range, List.range.loop, T_Field.enc] <;> rfl)) (by simp [Value.oneCell', T_Field.enc]) rfl (by decide) (by decide) (by decide)),zp rfl (op_app _ _ _ _ _ el24 rfl rfl (flat_len T_Field.len _) (flat_len T_Field.len _) hv17 (flat_app (app_eq hv17))),zp rfl (op_assign_take _ _ _ _ rfl),zz⟩ ?_
          refine pt_inb ?_
          refine pt_pick [0, 6, 1, 2, 3, 4, 5] (by kernel_rfl) (es' := [(_,_),(_,_),(_,_),(_,_),(_,_),(_,_),(_,_)]) rfl ?_
          exact hl190 _ (Option.some.inj h).symm
         ·have h := cond_f hb197 h
          refine zgg hn [_,_,_,_,_,_,_,_,_,_,(64,vs v7),(65,vb (v7.toList == z0.toList)),(63,vb (v7.toList == z0.toList))] [0,1,2,3,4,5,6,7,8,9] [0,1,2,12] [zq [6] 10 64,zq [10] 11 65,zq [11] 12 63] [(_,_),(_,_),(_,_),(_,_)] rfl ⟨z1 rfl,z4 rfl rfl,z2 rfl,zz⟩ ?_
          refine ht_cond _ rfl (fun hb198 => ?_) (fun hb198 => ?_)
          ·have h := cond_t hb198 h
           refine ht_seq ?_
           obtain ⟨v19, hv19, h⟩ := bind_some h
           refine zg hn [_,_,_,_,(66,.fl (.own 44) 2 (List.flatten (List.map T_Field.enc s106))),(67,vi s107),(68,vi v19),(2,.fl (.own 44) 2 (List.flatten (List.map T_Field.enc s106))),(3,vi v19),(4,vi 0)] [0,1,2,3] [0,7,8,9] [⟨[],[1],[4],[(.slot 66)]⟩,zq [2] 5 67,zq [5] 6 68,⟨[],[4],[7],[(.slot 2)]⟩,zq [6] 8 3,zq [] 9 4] [(_,_),(_,_),(_,_),(_,_)] rfl ⟨zp rfl (op_move_take _ _ _ _ rfl),z1 rfl,zp rfl (oB rfl (ibind (f := Value.int .i64) (Option.some.inj hv19))),zp rfl (op_assign_take _ _ _ _ rfl),z2 rfl,z2 rfl,zz⟩ ?_
           refine pt_then (ht_ret ?_)
           refine pt_pick [1, 2, 3] (by kernel_rfl) (es' := [(_,_),(_,_),(_,_)]) rfl ?_
           refine pt_r_in ?_
           refine pt_r_then ?_
           refine pt_r_in ?_
           refine pt_r_then ?_
           refine pt_r_then ?_
           refine pt_r_in ?_
           refine pt_r_then ?_
           have h := hr191 _ (Option.some.inj h).symm
           have h := hr180 _ (Option.some.inj h).symm
           have h := hr154 _ (ho155 _ (Option.some.inj h).symm).symm
           obtain rfl := Option.some.inj h
           exact pt_ret hio rfl (.tmp _ _ (.tmp _ _ (.tmp _ _ .nil))) rfl rfl
          ·have h := cond_f hb198 h
           refine zgg hn [_,_,_,_,(34,.fl (.own 44) 2 (List.flatten (List.map T_Field.enc s106))),(35,vi s107),(2,.fl (.own 44) 2 (List.flatten (List.map T_Field.enc s106))),(3,vi s107),(4,vi 0)] [0,1,2,3] [0,6,7,8] [⟨[],[1],[4],[(.slot 34)]⟩,zq [2] 5 35,⟨[],[4],[6],[(.slot 2)]⟩,zq [5] 7 3,zq [] 8 4] [(_,_),(_,_),(_,_),(_,_)] rfl ⟨zp rfl (op_move_take _ _ _ _ rfl),z1 rfl,zp rfl (op_assign_take _ _ _ _ rfl),z2 rfl,z2 rfl,zz⟩ ?_
           refine ht_ret ?_
           refine pt_pick [1, 2, 3] (by kernel_rfl) (es' := [(_,_),(_,_),(_,_)]) rfl ?_
           refine pt_r_in ?_
           refine pt_r_then ?_
           refine pt_r_in ?_
           refine pt_r_then ?_
           refine pt_r_then ?_
           refine pt_r_in ?_
           refine pt_r_then ?_
           have h := hr191 _ (Option.some.inj h).symm
           have h := hr180 _ (Option.some.inj h).symm
           have h := hr154 _ (ho155 _ (Option.some.inj h).symm).symm
           obtain rfl := Option.some.inj h
           exact pt_ret hio rfl (.tmp _ _ (.tmp _ _ (.tmp _ _ .nil))) rfl rfl
       ·intro u193 h hl194 hr195
        obtain ⟨v9, hv9, h⟩ := bind_some h
        refine cond_some h (fun hg12_2 h => ?_) (fun hg12_2 h => ?_)
        ·refine zg hn (_::_::_::_::_::_::_::_::_::_::(37,vs v7)::(38,vb v9)::(39,vb true)::(40,.same (.slot 6))::(41,vi (s106.length : Int))::(42,vb (decide (0 < (s106.length : Int))))::(43,vb (decide (0 < (s106.length : Int))))::(36,vb (decide (0 < (s106.length : Int))))::[]) [0,1,2,3,4,5,6,7,8,9] [0,1,2,3,4,5,6,7,8,9,17] [zq [6] 10 37,zq [10] 11 38,zq [11] 12 39,zq [12,1] 13 40,zq [12,13,1] 14 41,zq [12,14] 15 42,zq [12,15] 16 43,zq [16] 17 36] [(_,_),(_,_),(_,_),(_,_),(_,_),(_,_),(_,_),(_,_),(_,_),(_,_),(_,_)] rfl ⟨z1 rfl,zp rfl (op_call _ _ 27 _ _ rfl call27 rfl (ok_head_continues v7 _ hv9) rfl rfl),z8 hg12_2 rfl,zr' rfl (oM rfl),zr' rfl (op_len_fl _ _ _ underlying24 rfl (by decide) (flat_len T_Field.len _)),zr' rfl (oB rfl rfl),z3 true rfl,z2 rfl,zz⟩ ?_
         exact hl194 _ (Option.some.inj h).symm
        ·refine zg hn (_::_::_::_::_::_::_::_::_::_::(37,vs v7)::(38,vb v9)::(39,vb false)::(40,.v undef)::(41,.v undef)::(42,.v undef)::(43,vb false)::(36,vb false)::[]) [0,1,2,3,4,5,6,7,8,9] [0,1,2,3,4,5,6,7,8,9,17] [zq [6] 10 37,zq [10] 11 38,zq [11] 12 39,zq [12] 13 40,zq [12] 14 41,zq [12] 15 42,zq [12] 16 43,zq [16] 17 36] [(_,_),(_,_),(_,_),(_,_),(_,_),(_,_),(_,_),(_,_),(_,_),(_,_),(_,_)] rfl ⟨z1 rfl,zp rfl (op_call _ _ 27 _ _ rfl call27 rfl (ok_head_continues v7 _ hv9) rfl rfl),z8 hg12_2 rfl,zt rfl,zt rfl,zt rfl,z3 false rfl,z2 rfl,zz⟩ ?_
         exact hl194 _ (Option.some.inj h).symm
    ·have h := cond_f hb158 h
     refine ht_exit ?_
     refine pt_x_then ?_
     refine pt_x_then ?_
     refine pt_x_in ?_
     refine pt_pick [0, 1, 2] (by kernel_rfl) (es' := [(_,_),(_,_),(_,_)]) rfl ?_
     exact hl153 _ (ho155 _ (Option.some.inj h).symm).symm
theorem ok_path_Fold (s : ByteArray) (r : ByteArray) (h : Sh.path_Fold s = some r) : FnOK Tryd.prog 28 [.v (.string s)] (.v (.string r)) := by
  unfold Sh.path_Fold at h
  refine fn_ok func28 rfl (zl rfl) rfl rfl fun g0 hn hio => ?_
  refine zgg hn [_,(2,vs z0)] [0] [0] [zq [] 1 2] [(_,_)] rfl ⟨z2 rfl,zz⟩ ?_
  refine ht_seq ?_
  obtain ⟨v1, hv1, h⟩ := bind_some h
  refine zg hn [_,(6,vs s),(7,.mkr 5 (List.map (Value.int .u8) v1)),(3,.mkr 5 (List.map (Value.int .u8) v1))] [0] [3] [zq [0] 1 6,zq [1] 2 7,⟨[],[2],[3],[(.slot 3)]⟩] [(_,_)] rfl ⟨z1 rfl,zp rfl ((Option.some.inj hv1) ▸ op_str_mk _ _ _ s underlying9 underlying22 underlying5 rfl),zp rfl (op_assign_take _ _ _ _ rfl),zz⟩ ?_
  refine pt_then (ht_seq ?_)
  refine zgg hn [_,(8,.same (.slot 3)),(9,vi (v1.length : Int)),(10,vi 0)] [0] [0,1,2,3] [zq [0] 1 8,zq [1,0] 2 9,zq [] 3 10] [(_,_),(_,_),(_,_),(_,_)] rfl ⟨z1 rfl,zp rfl (op_len_mk _ _ _ underlying22 rfl (List.length_map _)),z1 rfl,zz⟩ ?_
  refine ht_loopS h (fun ((s40, s41) : (List Int) × Int) => [(3, .mkr 5 (List.map (Value.int .u8) s40)), (8, .same (.slot 3)), (9, .v (.int .i64 (v1.length : Int))), (10, .v (.int .i64 s41))]) (fun (s57 : (List Int)) => [(3, .mkr 5 (List.map (Value.int .u8) s57))]) ?_ ?_
  ·rintro s57 h
   refine pt_then (ht_seq ?_)
   obtain ⟨v79, hv79, h⟩ := bind_some h
   refine zg hn [_,(27,.mkr 5 (List.map (Value.int .u8) s57)),(28,vs v79),(2,vs v79)] [0] [3] [⟨[],[0],[1],[(.slot 27)]⟩,zq [1] 2 28,zq [2] 3 2] [(_,_)] rfl ⟨zp rfl (op_move_take _ _ _ _ rfl),zp rfl ((Option.some.inj hv79) ▸ op_mk_str _ _ _ s57 underlying22 underlying9 underlying5 rfl),z2 rfl,zz⟩ ?_
   refine pt_then (ht_ret ?_)
   obtain rfl := Option.some.inj h
   exact pt_ret hio rfl (.tmp _ _ .nil) rfl rfl
  ·rintro u58 hl59 hr60 ⟨s40, s41⟩ rr63 h ho61
   refine zgg hn [_,_,_,_,(11,vb (decide (s41 < (v1.length : Int))))] [0,1,2,3] [0,1,2,3,4] [zq [3,2] 4 11] [(_,_),(_,_),(_,_),(_,_),(_,_)] rfl ⟨z4 rfl rfl,zz⟩ ?_
   refine ht_seq ?_
   refine ht_cond _ rfl (fun hb64 => ?_) (fun hb64 => ?_)
   ·have h := cond_t hb64 h
    refine ht_skip ?_
    refine pt_then (ht_seq ?_)
    refine ht_joinS h (fun (s70 : (List Int)) => [(3, .mkr 5 (List.map (Value.int .u8) s70)), (8, .same (.slot 3)), (9, .v (.int .i64 (v1.length : Int))), (10, .v (.int .i64 s41))]) ?_ ?_
    ·rintro s70 h
     refine pt_then ?_
     obtain ⟨v22, hv22, h⟩ := bind_some h
     refine zg hn [_,_,_,_,(26,vi v22),(10,vi v22)] [0,1,2,3] [0,1,2,5] [zq [3] 4 26,⟨[4],[3],[5],[(.slot 10)]⟩] [(_,_),(_,_),(_,_),(_,_)] rfl ⟨zp rfl (oB rfl (ibind (f := Value.int .i64) (Option.some.inj hv22))),zp rfl (LOp.drop [_] (oM rfl)),zz⟩ ?_
     exact pt_next _ (Option.some.inj h).symm rfl
    ·intro u71 h hl72 hr73
     refine ht_block ?_
     refine ht_seq ?_
     obtain ⟨v3, hv3, h⟩ := bind_some h
     obtain ⟨v4, hv4, h⟩ := bind_some h
     refine zg hn [_,_,_,_,_,(12,vi s41),(13,.eref (.slot 3) (v3 * 1)),(14,.v (.int .u8 v4)),(4,vi s41),(5,.v (.int .u8 v4))] [0,1,2,3,4] [0,1,2,3,8,9] [zq [3] 5 12,zq [1,0,3] 6 13,zq [6,0] 7 14,zq [5] 8 4,zq [7] 9 5] [(_,_),(_,_),(_,_),(_,_),(_,_),(_,_)] rfl ⟨z1 rfl,zp rfl (op_ix_mk _ _ _ _ _ _ _ underlying22 sz5 rfl rfl rfl (ix_ok hv3).1 (mk_lt' (ix_ok hv3).2) rfl),zp rfl (op_load_mk _ _ _ _ _ _ underlying5 rfl rfl rfl (map_get hv4)),z2 rfl,z2 rfl,zz⟩ ?_
     refine pt_then (ht_seq ?_)
     refine ht_joinS h (fun (s74 : Bool) => [(3, .mkr 5 (List.map (Value.int .u8) s40)), (8, .same (.slot 3)), (9, .v (.int .i64 (v1.length : Int))), (10, .v (.int .i64 s41)), (4, .v (.int .i64 s41)), (5, .v (.int .u8 v4)), (20, .v (.bool s74))]) ?_ ?_
     ·rintro s74 h
      refine pt_then ?_
      refine ht_cond _ rfl (fun hb78 => ?_) (fun hb78 => ?_)
      ·have h := cond_t hb78 h
       obtain ⟨v10, hv10, h⟩ := bind_some h
       obtain ⟨v11, hv11, h⟩ := bind_some h
       obtain ⟨v12, hv12, h⟩ := bind_some h
       refine zg hn [_,_,_,_,_,_,_,(21,.same (.slot 3)),(22,vi s41),(23,.v (.int .u8 v4)),(24,.v (.int .u8 v10)),(25,.eref (.slot 3) (v11 * 1)),(3,.mkr 5 (List.map (Value.int .u8) v12))] [0,1,2,3,4,5,6] [12,1,2,3] [zq [0] 7 21,zq [4] 8 22,zq [5] 9 23,zq [9] 10 24,zq [7,0,8] 11 25,⟨[11,10],[0],[12],[]⟩] [(_,_),(_,_),(_,_),(_,_)] rfl ⟨z1 rfl,z1 rfl,z1 rfl,zp rfl (oB rfl (ibind (f := Value.int .u8) (Option.some.inj hv10))),zp rfl (op_ix_mk _ _ _ _ _ _ _ underlying22 sz5 rfl rfl rfl (ix_ok hv11).1 (mk_lt' (ix_ok hv11).2) rfl),zp rfl (op_store_mk _ _ _ _ _ _ _ sz5 rfl rfl rfl (mk_lt (ix_ok hv11).2) (mk_set (f := Value.int .u8) (Option.some.inj hv12))),zz⟩ ?_
       refine pt_inb ?_
       exact hl72 _ (Option.some.inj h).symm
      ·have h := cond_f hb78 h
       refine ht_skip ?_
       refine pt_inb ?_
       refine pt_pick [0, 1, 2, 3] (by kernel_rfl) (es' := [(_,_),(_,_),(_,_),(_,_)]) rfl ?_
       exact hl72 _ (Option.some.inj h).symm
     ·intro u75 h hl76 hr77
      refine cond_some h (fun hg5_2 h => ?_) (fun hg5_2 h => ?_)
      ·refine zg hn [_,_,_,_,_,_,(15,.v (.int .u8 v4)),(16,vb (decide (65 ≤ v4))),(17,vb true),(18,.v (.int .u8 v4)),(19,vb (decide (v4 ≤ 90))),(20,vb (decide (v4 ≤ 90)))] [0,1,2,3,4,5] [0,1,2,3,4,5,11] [zq [5] 6 15,zq [6] 7 16,zq [7] 8 17,zq [8,5] 9 18,zq [8,9] 10 19,zq [8,10] 11 20] [(_,_),(_,_),(_,_),(_,_),(_,_),(_,_),(_,_)] rfl ⟨z1 rfl,z4 rfl rfl,z8 hg5_2 rfl,zr' rfl (oM rfl),zr' rfl (oB rfl rfl),z3 true rfl,zz⟩ ?_
       exact hl76 _ (Option.some.inj h).symm
      ·refine zg hn [_,_,_,_,_,_,(15,.v (.int .u8 v4)),(16,vb (decide (65 ≤ v4))),(17,vb false),(18,.v undef),(19,.v undef),(20,vb false)] [0,1,2,3,4,5] [0,1,2,3,4,5,11] [zq [5] 6 15,zq [6] 7 16,zq [7] 8 17,zq [8] 9 18,zq [8] 10 19,zq [8] 11 20] [(_,_),(_,_),(_,_),(_,_),(_,_),(_,_),(_,_)] rfl ⟨z1 rfl,z4 rfl rfl,z8 hg5_2 rfl,zt rfl,zt rfl,z3 false rfl,zz⟩ ?_
       exact hl76 _ (Option.some.inj h).symm
   ·have h := cond_f hb64 h
    refine ht_exit ?_
    refine pt_x_then ?_
    refine pt_x_then ?_
    refine pt_x_in ?_
    refine pt_pick [0] (by kernel_rfl) (es' := [(_,_)]) rfl ?_
    exact hl59 _ (ho61 _ (Option.some.inj h).symm).symm
theorem ok_head_Hops (mx : Int) (b : (List Int)) (r : (Int × Int)) (h : Sh.head_Hops b = some r) : FnG Tryd.prog (GL mx) 11 [.fl .shr 1 (List.map (Value.int .u8) b)] (.tup [.v (.int .i64 r.1), .v (.int .i64 r.2)]) := by
  unfold Sh.head_Hops at h
  refine fn_okG func11 rfl (zl rfl) rfl rfl fun g0 hn hio => ?_
  refine zgg hn [_,_,(2,vi 0),(3,vi 0)] [0,1] [0,1] [zq [] 2 2,zq [] 3 3] [(_,_),(_,_)] rfl ⟨z2 rfl,z2 rfl,zz⟩ ?_
  refine ht_seq ?_
  obtain ⟨v1, hv1, h⟩ := bind_some h
  refine zg hn [_,_,(11,.fl .shr 1 (List.map (Value.int .u8) b)),(12,.tup [.fl (.own 44) 2 (List.flatten (List.map T_Field.enc v1.1)),vi v1.2.1,vi v1.2.2]),(10,.tup [.fl (.own 44) 2 (List.flatten (List.map T_Field.enc v1.1)),vi v1.2.1,vi v1.2.2]),(13,.fl (.own 44) 2 (List.flatten (List.map T_Field.enc v1.1))),(10,.tup [.any,vi v1.2.1,vi v1.2.2]),(14,vi v1.2.1),(15,vi v1.2.2),(4,.fl (.own 44) 2 (List.flatten (List.map T_Field.enc v1.1))),(5,vi v1.2.1),(6,vi v1.2.2)] [0,1] [1,9,11] [zq [0] 2 11,zq [2,1] 3 12,⟨[],[3],[4],[(.slot 10)]⟩,⟨[],[4],[6,5],[(.slot 13)]⟩,zq [6] 7 14,zq [6] 8 15,⟨[],[5],[9],[(.slot 4)]⟩,zq [7] 10 5,zq [8] 11 6] [(_,_),(_,_),(_,_)] rfl ⟨z1 rfl,zp rfl (op_callG _ _ 33 10 _ _ rfl call10 rfl rfl (fun _ h => h) (ok_head_Scan mx b _ hv1) rfl rfl),zp rfl (op_move_take _ _ _ _ rfl),zp rfl (op_extract_take _ _ _ _ _ rfl (zl rfl) rfl rfl (by decide) rfl),zp rfl (oE rfl),zp rfl (oE rfl),zp rfl (op_assign_take _ _ _ _ rfl),z2 rfl,z2 rfl,zz⟩ ?_
  refine pt_then (ht_seq ?_)
  refine zgg hn [_,_,_,(16,vi v1.2.2),(17,vb (v1.2.2 != 0))] [0,1,2] [0,1,2,4] [zq [2] 3 16,zq [3] 4 17] [(_,_),(_,_),(_,_),(_,_)] rfl ⟨z1 rfl,z4 rfl rfl,zz⟩ ?_
  refine ht_cond _ rfl (fun hb2 => ?_) (fun hb2 => ?_)
  ·have h := cond_t hb2 h
   refine zgg hn [_,_,_,_,(18,vi v1.2.2),(2,vi 0),(3,vi v1.2.2)] [0,1,2,3] [0,5,6] [zq [2] 4 18,zq [] 5 2,zq [4] 6 3] [(_,_),(_,_),(_,_)] rfl ⟨z1 rfl,z2 rfl,z2 rfl,zz⟩ ?_
   refine ht_ret ?_
   refine pt_pick [1, 2] (by kernel_rfl) (es' := [(_,_),(_,_)]) rfl ?_
   refine pt_r_then ?_
   obtain rfl := Option.some.inj h
   exact pt_ret hio rfl (.tmp _ _ (.tmp _ _ .nil)) rfl rfl
  ·have h := cond_f hb2 h
   refine ht_skip ?_
   refine pt_then ?_
   refine zgg hn [_,_,_,_,(7,vi 0)] [0,1,2,3] [0,1,4] [zq [] 4 7] [(_,_),(_,_),(_,_)] rfl ⟨z2 rfl,zz⟩ ?_
   refine ht_seq ?_
   refine zgg hn [_,_,_,(19,.fl (.own 44) 2 (List.flatten (List.map T_Field.enc v1.1))),(20,vi (v1.1.length : Int)),(21,vi 0)] [0,1,2] [0,2,3,4,5] [⟨[],[1],[3],[(.slot 19)]⟩,zq [3] 4 20,zq [] 5 21] [(_,_),(_,_),(_,_),(_,_),(_,_)] rfl ⟨zp rfl (op_move_take _ _ _ _ rfl),zp rfl (op_len_fl _ _ _ underlying24 rfl (by decide) (flat_len T_Field.len _)),z1 rfl,zz⟩ ?_
   refine ht_loopS h (fun ((s24, s25) : Int × Int) => [(33, .glob (GL mx)), (7, .v (.int .i64 s24)), (19, .fl (.own 44) 2 (List.flatten (List.map T_Field.enc v1.1))), (20, .v (.int .i64 (v1.1.length : Int))), (21, .v (.int .i64 s25))]) (fun (s33 : Int) => [(33, .glob (GL mx)), (7, .v (.int .i64 s33))]) ?_ ?_
   ·rintro s33 h
    refine pt_then ?_
    refine zgg hn [_,_,(32,vi s33),(2,vi s33),(3,vi 0)] [0,1] [0,3,4] [zq [1] 2 32,zq [2] 3 2,zq [] 4 3] [(_,_),(_,_),(_,_)] rfl ⟨z1 rfl,z2 rfl,z2 rfl,zz⟩ ?_
    refine ht_ret ?_
    refine pt_pick [1, 2] (by kernel_rfl) (es' := [(_,_),(_,_)]) rfl ?_
    obtain rfl := Option.some.inj h
    exact pt_ret hio rfl (.tmp _ _ (.tmp _ _ .nil)) rfl rfl
   ·rintro u34 hl35 hr36 ⟨s24, s25⟩ rr39 h ho37
    refine zgg hn [_,_,_,_,_,(22,vb (decide (s25 < (v1.1.length : Int))))] [0,1,2,3,4] [0,1,2,3,4,5] [zq [4,3] 5 22] [(_,_),(_,_),(_,_),(_,_),(_,_),(_,_)] rfl ⟨z4 rfl rfl,zz⟩ ?_
    refine ht_seq ?_
    refine ht_cond _ rfl (fun hb40 => ?_) (fun hb40 => ?_)
    ·have h := cond_t hb40 h
     refine ht_skip ?_
     refine pt_then (ht_seq ?_)
     refine ht_joinS h (fun (s42 : Int) => [(33, .glob (GL mx)), (19, .fl (.own 44) 2 (List.flatten (List.map T_Field.enc v1.1))), (20, .v (.int .i64 (v1.1.length : Int))), (21, .v (.int .i64 s25)), (7, .v (.int .i64 s42))]) ?_ ?_
     ·rintro s42 h
      refine pt_then ?_
      obtain ⟨v14, hv14, h⟩ := bind_some h
      refine zg hn [_,_,_,_,_,(31,vi v14),(21,vi v14)] [0,1,2,3,4] [0,1,2,4,6] [zq [3] 5 31,⟨[5],[3],[6],[(.slot 21)]⟩] [(_,_),(_,_),(_,_),(_,_),(_,_)] rfl ⟨zp rfl (oB rfl (ibind (f := Value.int .i64) (Option.some.inj hv14))),zp rfl (LOp.drop [_] (oM rfl)),zz⟩ ?_
      refine pt_pick [0, 3, 1, 2, 4] (by kernel_rfl) (es' := [(_,_),(_,_),(_,_),(_,_),(_,_)]) rfl ?_
      exact pt_next _ (Option.some.inj h).symm rfl
     ·intro u43 h hl44 hr45
      refine ht_block ?_
      refine ht_seq ?_
      obtain ⟨v4, hv4, h⟩ := bind_some h
      obtain ⟨v5, hv5, h⟩ := bind_some h
      refine zg hn [_,_,_,_,_,_,(23,.eref (.slot 19) (v4 * 2)),(24,.agg [vs v5.Name,vs v5.Body]),(9,.box 44 [vs z0,vs z0]),(9,.box 44 [vs v5.Name,vs v5.Body])] [0,1,2,3,4,5] [0,1,2,3,4,9] [zq [2,4] 6 23,zq [6,2] 7 24,zq [] 8 9,⟨[7],[8],[9],[.cell 9 0,.cell 9 1]⟩] [(_,_),(_,_),(_,_),(_,_),(_,_),(_,_)] rfl ⟨zp rfl (op_ix _ _ _ _ _ _ _ _ underlying24 sz44 (by decide) rfl rfl rfl (ix_ok hv4).1 (flat_lt T_Field.len (ix_ok hv4).2) rfl),zp rfl (op_load_eA _ _ _ _ _ _ _ underlying44 rfl sz44 rfl rfl (flat_get T_Field.len hv5) rfl (by decide)),zp rfl (op_alloc _ _ zr44),zp rfl (oS sz44 rfl),zz⟩ ?_
      refine pt_then (ht_seq ?_)
      obtain ⟨v6, hv6, h⟩ := bind_some h
      refine zg hn [_,_,_,_,_,_,(25,.ptr 9 0),(26,vs v5.Name),(27,vs v6),(28,vb (v6.toList == (⟨#[114,101,99,101,105,118,101,100]⟩ : ByteArray).toList))] [0,1,2,3,4,5] [0,1,2,3,4,9] [zq [5] 6 25,zq [6,5] 7 26,zq [7] 8 27,zq [8] 9 28] [(_,_),(_,_),(_,_),(_,_),(_,_),(_,_)] rfl ⟨zp rfl (oF underlying44 rfl sz9),zp rfl (oL underlying9 rfl),zp rfl (op_call _ _ 28 _ _ rfl call28 rfl (ok_path_Fold v5.Name _ hv6) rfl rfl),z4 rfl rfl,zz⟩ ?_
      refine pt_then ?_
      refine ht_cond _ rfl (fun hb46 => ?_) (fun hb46 => ?_)
      ·have h := cond_t hb46 h
       obtain ⟨v8, hv8, h⟩ := bind_some h
       refine zg hn [_,_,_,_,_,_,(29,vi s24),(30,vi v8),(7,vi v8)] [0,1,2,3,4,5] [0,2,3,4,8] [zq [1] 6 29,zq [6] 7 30,⟨[7],[1],[8],[(.slot 7)]⟩] [(_,_),(_,_),(_,_),(_,_),(_,_)] rfl ⟨z1 rfl,zp rfl (oB rfl (ibind (f := Value.int .i64) (Option.some.inj hv8))),zp rfl (LOp.drop [_] (op_assign _ _ _ _ rfl rfl)),zz⟩ ?_
       refine pt_inb ?_
       exact hl44 _ (Option.some.inj h).symm
      ·have h := cond_f hb46 h
       refine ht_skip ?_
       refine pt_inb ?_
       refine pt_pick [0, 2, 3, 4, 1] (by kernel_rfl) (es' := [(_,_),(_,_),(_,_),(_,_),(_,_)]) rfl ?_
       exact hl44 _ (Option.some.inj h).symm
    ·have h := cond_f hb40 h
     refine ht_exit ?_
     refine pt_x_then ?_
     refine pt_x_then ?_
     refine pt_x_in ?_
     refine pt_pick [0, 1] (by kernel_rfl) (es' := [(_,_),(_,_)]) rfl ?_
     exact hl35 _ (ho37 _ (Option.some.inj h).symm).symm
theorem ok_strings_splitSeq (s : ByteArray) (sep : ByteArray) (sepSave : Int) (r : (ByteArray × ByteArray × Int)) (h : Sh.strings_splitSeq s sep sepSave = some r) : FnOK Tryd.prog 64 [.v (.string s), .v (.string sep), .v (.int .i64 sepSave)] (.cloB 79 [.box 9 [.v (.string r.1)], .box 9 [.v (.string r.2.1)], .box 3 [.v (.int .i64 r.2.2)]]) := by
  unfold Sh.strings_splitSeq at h
  refine fn_ok func64 rfl (zl rfl) rfl rfl fun g0 hn hio => ?_
  refine zgg hn [_,_,_,(3,.box 9 [vs s]),(4,.box 9 [vs sep]),(5,.box 3 [vi sepSave]),(6,.v (.nilFunc))] [0,1,2] [3,4,5] [zq [0] 3 3,zq [1] 4 4,zq [2] 5 5,zq [] 6 6] [(_,_),(_,_),(_,_)] rfl ⟨zp rfl (op_box _ _ _ _ rfl rfl rfl),zp rfl (op_box _ _ _ _ rfl rfl rfl),zp rfl (op_box _ _ _ _ rfl rfl rfl),z2 rfl,zz⟩ ?_
  refine zgg hn [_,_,_,(7,.cloB 79 [.box 9 [vs sep],.box 9 [vs s],.box 3 [vi sepSave]]),(6,.cloB 79 [.box 9 [vs sep],.box 9 [vs s],.box 3 [vi sepSave]])] [0,1,2] [4] [⟨[],[1,0,2],[3],[(.slot 7)]⟩,⟨[],[3],[4],[(.slot 6)]⟩] [(_,_)] rfl ⟨zp rfl (op_mkclo _ _ [4, 3, 5] [.box 9 [.v (.string sep)], .box 9 [.v (.string s)], .box 3 [.v (.int .i64 sepSave)]] rfl rfl rfl),zp rfl (op_assign_take _ _ _ _ rfl),zz⟩ ?_
  refine ht_ret ?_
  obtain rfl := Option.some.inj h
  exact pt_ret hio rfl (.tmp _ _ .nil) rfl rfl
theorem ok_strings_SplitSeq (s : ByteArray) (sep : ByteArray) (r : (ByteArray × ByteArray × Int)) (h : Sh.strings_SplitSeq s sep = some r) : FnOK Tryd.prog 50 [.v (.string s), .v (.string sep)] (.cloB 79 [.box 9 [.v (.string r.1)], .box 9 [.v (.string r.2.1)], .box 3 [.v (.int .i64 r.2.2)]]) := by
  unfold Sh.strings_SplitSeq at h
  refine fn_ok func50 rfl (zl rfl) rfl rfl fun g0 hn hio => ?_
  refine zgg hn [_,_,(4,.v (.nilFunc))] [0,1] [0,1] [zq [] 2 4] [(_,_),(_,_)] rfl ⟨z2 rfl,zz⟩ ?_
  refine ht_seq ?_
  obtain ⟨v1, hv1, h⟩ := bind_some h
  refine zg hn [_,_,(5,vs s),(6,vs sep),(7,.cloB 79 [.box 9 [vs v1.1],.box 9 [vs v1.2.1],.box 3 [vi v1.2.2]]),(4,.cloB 79 [.box 9 [vs v1.1],.box 9 [vs v1.2.1],.box 3 [vi v1.2.2]])] [0,1] [5] [zq [0] 2 5,zq [1] 3 6,zq [2,3] 4 7,⟨[],[4],[5],[(.slot 4)]⟩] [(_,_)] rfl ⟨z1 rfl,z1 rfl,zp rfl (op_callS _ _ 64 _ _ rfl call64 rfl rfl (ok_strings_splitSeq s sep 0 _ hv1) rfl),zp rfl (op_assign_take _ _ _ _ rfl),zz⟩ ?_
  refine pt_then (ht_ret ?_)
  obtain rfl := Option.some.inj h
  exact pt_ret hio rfl (.tmp _ _ .nil) rfl rfl
theorem ok_unicode_utf8_decodeRuneInStringSlow (mx : Int) (s : ByteArray) (r : (Int × Int)) (h : Sh.unicode_utf8_decodeRuneInStringSlow s = some r) : FnG Tryd.prog (GL mx) 91 [.v (.string s)] (.tup [.v (.int .i32 r.1), .v (.int .i64 r.2)]) := by
  unfold Sh.unicode_utf8_decodeRuneInStringSlow at h
  refine fn_okG func91 rfl (zl rfl) rfl rfl fun g0 hn hio => ?_
  refine zgg hn [_,_,(2,.v (.int .i32 0)),(3,vi 0)] [0,1] [0,1] [zq [] 2 2,zq [] 3 3] [(_,_),(_,_)] rfl ⟨z2 rfl,z2 rfl,zz⟩ ?_
  refine zgg hn [_,_,(13,vs s),(14,vi (s.size : Int)),(4,vi (s.size : Int))] [0,1] [0,1,4] [zq [0] 2 13,zq [2] 3 14,zq [3] 4 4] [(_,_),(_,_),(_,_)] rfl ⟨z1 rfl,zp rfl (oN underlying9 rfl),z2 rfl,zz⟩ ?_
  refine ht_seq ?_
  refine zgg hn [_,_,_,(15,vi (s.size : Int)),(16,vb (decide ((s.size : Int) < 1)))] [0,1,2] [0,1,2,4] [zq [2] 3 15,zq [3] 4 16] [(_,_),(_,_),(_,_),(_,_)] rfl ⟨z1 rfl,z4 rfl rfl,zz⟩ ?_
  refine ht_cond _ rfl (fun hb1 => ?_) (fun hb1 => ?_)
  ·have h := cond_t hb1 h
   refine zgg hn [_,_,_,_,(2,.v (.int .i32 65533)),(3,vi 0)] [0,1,2,3] [1,4,5] [zq [] 4 2,zq [] 5 3] [(_,_),(_,_),(_,_)] rfl ⟨z2 rfl,z2 rfl,zz⟩ ?_
   refine ht_ret ?_
   refine pt_pick [1, 2] (by kernel_rfl) (es' := [(_,_),(_,_)]) rfl ?_
   refine pt_r_then ?_
   obtain rfl := Option.some.inj h
   exact pt_ret hio rfl (.tmp _ _ (.tmp _ _ .nil)) rfl rfl
  ·have h := cond_f hb1 h
   refine ht_skip ?_
   refine pt_then (ht_seq ?_)
   obtain ⟨v2, hv2, h⟩ := bind_some h
   refine zg hn [_,_,_,_,(17,vs s),(18,.v (.int .u8 v2)),(5,.v (.int .u8 v2))] [0,1,2,3] [0,1,2,6] [zq [0] 4 17,zq [4] 5 18,zq [5] 6 5] [(_,_),(_,_),(_,_),(_,_)] rfl ⟨z1 rfl,zp rfl (op_chr _ _ _ 0 _ underlying9 rfl rfl hv2),z2 rfl,zz⟩ ?_
   refine pt_then (ht_seq ?_)
   obtain ⟨v3, hv3, h⟩ := bind_some h
   obtain ⟨v4, hv4, h⟩ := bind_some h
   refine zg hn [_,_,_,_,(19,.v (.int .u8 v2)),(20,.v (.pointer (some ⟨2,(0 + v3 * 1),none⟩))),(21,.v (.int .u8 v4)),(6,.v (.int .u8 v4))] [0,1,2,3] [0,1,2,3,7] [zq [3] 4 19,zq [4] 5 20,zq [5,1] 6 21,zq [6] 7 6] [(_,_),(_,_),(_,_),(_,_),(_,_)] rfl ⟨z1 rfl,zp rfl (op_ix_globz _ _ _ _ 256 2 0 _ 1 _ underlying108 sz5 rfl rfl (ix_ok hv3).1 (ix_ok hv3).2),zp rfl (op_load_glob _ _ 117 2 _ _ _ underlying5 rfl rfl rfl (gl_mem2 mx) (map_get1 hv4)),z2 rfl,zz⟩ ?_
   refine pt_then (ht_seq ?_)
   refine zgg hn [_,_,_,_,_,(22,.v (.int .u8 v4)),(23,vb (decide (240 ≤ v4)))] [0,1,2,3,4] [0,1,2,3,4,6] [zq [4] 5 22,zq [5] 6 23] [(_,_),(_,_),(_,_),(_,_),(_,_),(_,_)] rfl ⟨z1 rfl,z4 rfl rfl,zz⟩ ?_
   refine ht_cond _ rfl (fun hb5 => ?_) (fun hb5 => ?_)
   ·have h := cond_t hb5 h
    refine ht_seq ?_
    obtain ⟨v6, hv6, h⟩ := bind_some h
    obtain ⟨v7, hv7, h⟩ := bind_some h
    obtain ⟨v8, hv8, h⟩ := bind_some h
    refine zg hn [_,_,_,_,_,_,(24,.v (.int .u8 v4)),(25,.v (.int .i32 v6)),(26,.v (.int .i32 v7)),(27,.v (.int .i32 v8)),(7,.v (.int .i32 v8))] [0,1,2,3,4,5] [0,1,10] [zq [4] 6 24,zq [6] 7 25,zq [7] 8 26,zq [8] 9 27,zq [9] 10 7] [(_,_),(_,_),(_,_)] rfl ⟨z1 rfl,zp rfl ((Option.some.inj hv6) ▸ op_conv _ _ _ underlying5 underlying21 rfl),zp rfl (oB rfl (shl_ok hv7)),zp rfl (oB rfl (shr_ok hv8)),z2 rfl,zz⟩ ?_
    refine pt_then (ht_seq ?_)
    obtain ⟨v9, hv9, h⟩ := bind_some h
    obtain ⟨v10, hv10, h⟩ := bind_some h
    obtain ⟨v11, hv11, h⟩ := bind_some h
    obtain ⟨v12, hv12, h⟩ := bind_some h
    obtain ⟨v13, hv13, h⟩ := bind_some h
    refine zg hn [_,_,_,(28,vs s),(29,.v (.int .u8 v9)),(30,.v (.int .i32 v10)),(31,.v (.int .i32 v8)),(32,.v (.int .i32 v11)),(33,.v (.int .i32 v8)),(34,.v (.int .i32 v12)),(35,.v (.int .i32 v13)),(2,.v (.int .i32 v13)),(3,vi 1)] [0,1,2] [1,11,12] [zq [0] 3 28,zq [3] 4 29,zq [4] 5 30,zq [2] 6 31,zq [5,6] 7 32,zq [2] 8 33,zq [8] 9 34,zq [7,9] 10 35,zq [10] 11 2,zq [] 12 3] [(_,_),(_,_),(_,_)] rfl ⟨z1 rfl,zp rfl (op_chr _ _ _ 0 _ underlying9 rfl rfl hv9),zp rfl ((Option.some.inj hv10) ▸ op_conv _ _ _ underlying5 underlying21 rfl),z1 rfl,zp rfl (oB rfl (ibind (f := Value.int .i32) (Option.some.inj hv11))),z1 rfl,zp rfl (oB rfl (ibind (f := Value.int .i32) (Option.some.inj hv12))),zp rfl (oB rfl (ibind (f := Value.int .i32) (Option.some.inj hv13))),z2 rfl,z2 rfl,zz⟩ ?_
    refine pt_then (ht_ret ?_)
    refine pt_pick [1, 2] (by kernel_rfl) (es' := [(_,_),(_,_)]) rfl ?_
    refine pt_r_then ?_
    obtain rfl := Option.some.inj h
    exact pt_ret hio rfl (.tmp _ _ (.tmp _ _ .nil)) rfl rfl
   ·have h := cond_f hb5 h
    cases h
theorem ok_unicode_utf8_DecodeRuneInString (mx : Int) (s : ByteArray) (r : (Int × Int)) (h : Sh.unicode_utf8_DecodeRuneInString s = some r) : FnG Tryd.prog (GL mx) 80 [.v (.string s)] (.tup [.v (.int .i32 r.1), .v (.int .i64 r.2)]) := by
  unfold Sh.unicode_utf8_DecodeRuneInString at h
  refine fn_okG func80 rfl (zl rfl) rfl rfl fun g0 hn hio => ?_
  refine zgg hn [_,_,(2,.v (.int .i32 0)),(3,vi 0)] [0,1] [0,1] [zq [] 2 2,zq [] 3 3] [(_,_),(_,_)] rfl ⟨z2 rfl,z2 rfl,zz⟩ ?_
  refine ht_seq ?_
  refine ht_seq ?_
  refine ht_joinS h (fun (s2 : Bool) => [(0, .v (.string s)), (19, .glob (GL mx)), (10, .v (.bool s2))]) ?_ ?_
  ·rintro s2 h
   refine pt_then ?_
   refine ht_cond _ rfl (fun hb6 => ?_) (fun hb6 => ?_)
   ·have h := cond_t hb6 h
    refine ht_seq ?_
    obtain ⟨v7, hv7, h⟩ := bind_some h
    obtain ⟨v8, hv8, h⟩ := bind_some h
    refine zg hn [_,_,_,(11,vs s),(12,.v (.int .u8 v7)),(13,.v (.int .i32 v8)),(2,.v (.int .i32 v8)),(3,vi 1)] [0,1,2] [1,6,7] [zq [0] 3 11,zq [3] 4 12,zq [4] 5 13,zq [5] 6 2,zq [] 7 3] [(_,_),(_,_),(_,_)] rfl ⟨z1 rfl,zp rfl (op_chr _ _ _ 0 _ underlying9 rfl rfl hv7),zp rfl ((Option.some.inj hv8) ▸ op_conv _ _ _ underlying5 underlying21 rfl),z2 rfl,z2 rfl,zz⟩ ?_
    refine pt_then (ht_ret ?_)
    refine pt_pick [1, 2] (by kernel_rfl) (es' := [(_,_),(_,_)]) rfl ?_
    refine pt_r_then ?_
    obtain rfl := Option.some.inj h
    exact pt_ret hio rfl (.tmp _ _ (.tmp _ _ .nil)) rfl rfl
   ·have h := cond_f hb6 h
    obtain ⟨v9, hv9, h⟩ := bind_some h
    refine zg hn [_,_,_,(15,vs s),(16,.tup [.v (.int .i32 v9.1),vi v9.2]),(14,.tup [.v (.int .i32 v9.1),vi v9.2]),(17,.v (.int .i32 v9.1)),(18,vi v9.2),(2,.v (.int .i32 v9.1)),(3,vi v9.2)] [0,1,2] [1,8,9] [zq [0] 3 15,zq [3,1] 4 16,⟨[],[4],[5],[(.slot 14)]⟩,zq [5] 6 17,zq [5] 7 18,zq [6] 8 2,zq [7] 9 3] [(_,_),(_,_),(_,_)] rfl ⟨z1 rfl,zp rfl (op_callG _ _ 19 91 _ _ rfl call91 rfl rfl (fun _ h => h) (ok_unicode_utf8_decodeRuneInStringSlow mx s _ hv9) rfl rfl),zp rfl (op_move_take _ _ _ _ rfl),zp rfl (oE rfl),zp rfl (oE rfl),z2 rfl,z2 rfl,zz⟩ ?_
    refine pt_then (ht_ret ?_)
    refine pt_pick [1, 2] (by kernel_rfl) (es' := [(_,_),(_,_)]) rfl ?_
    obtain rfl := Option.some.inj h
    exact pt_ret hio rfl (.tmp _ _ (.tmp _ _ .nil)) rfl rfl
  ·intro u3 h hl4 hr5
   refine cond_some h (fun hg1_2 h => ?_) (fun hg1_2 h => ?_)
   ·obtain ⟨v1, hv1, h⟩ := bind_some h
    refine zg hn [_,_,(4,vs s),(5,vb (!(s.toList == z0.toList))),(6,vb true),(7,vs s),(8,.v (.int .u8 v1)),(9,vb (decide (v1 < 128))),(10,vb (decide (v1 < 128)))] [0,1] [0,1,8] [zq [0] 2 4,zq [2] 3 5,zq [3] 4 6,zq [4,0] 5 7,zq [4,5] 6 8,zq [4,6] 7 9,zq [4,7] 8 10] [(_,_),(_,_),(_,_)] rfl ⟨z1 rfl,z4 rfl rfl,z8 hg1_2 rfl,zr' rfl (oM rfl),zr' rfl (op_chr _ _ _ 0 _ underlying9 rfl rfl hv1),zr' rfl (oB rfl rfl),z3 true rfl,zz⟩ ?_
    exact hl4 _ (Option.some.inj h).symm
   ·refine zg hn [_,_,(4,vs s),(5,vb (!(s.toList == z0.toList))),(6,vb false),(7,.v undef),(8,.v undef),(9,.v undef),(10,vb false)] [0,1] [0,1,8] [zq [0] 2 4,zq [2] 3 5,zq [3] 4 6,zq [4] 5 7,zq [4] 6 8,zq [4] 7 9,zq [4] 8 10] [(_,_),(_,_),(_,_)] rfl ⟨z1 rfl,z4 rfl rfl,z8 hg1_2 rfl,zt rfl,zt rfl,zt rfl,z3 false rfl,zz⟩ ?_
    exact hl4 _ (Option.some.inj h).symm
theorem ok_strings_Index (s sub : ByteArray) (r : Int) (h : Sh.strings_Index s sub = some r) : FnOK Tryd.prog 81 [.v (.string s), .v (.string sub)] (.v (.int .i64 r)) := lib_strings_Index Tryd.strings_Index_one s sub r h
theorem ok_strings_splitSeq_1 (mx : Int) (l : Nat) {S : Type} (J : S → InvT) (Y : ByteArray → S → Option (S × Bool)) (hY : YieldOK Tryd.prog l (fun x => .v (.string x)) Y J) (c0 : ByteArray) (c1 : ByteArray) (c2 : Int) (st r : S) (h : Sh.strings_splitSeq_1 Y c0 c1 c2 st = some r) : FnI Tryd.prog (GL mx) 79 l [.box 9 [.v (.string c0)], .box 9 [.v (.string c1)], .box 3 [.v (.int .i64 c2)]] (J st) (J r) := by
  unfold Sh.strings_splitSeq_1 at h
  refine fn_okI func79 rfl (zl rfl) rfl fun g0 hn hio => ?_
  refine ht_seq ?_
  refine zgg hn [_,_,_,_,_,_,(9,vs c0),(10,vi (c0.size : Int)),(11,vb ((c0.size : Int) == 0))] [0,1,2,3,4,5] [0,1,2,3,4,5,8] [zq [1] 6 9,zq [6] 7 10,zq [7] 8 11] [(_,_),(_,_),(_,_),(_,_),(_,_),(_,_),(_,_)] rfl ⟨zp rfl (oL underlying9 rfl),zp rfl (oN underlying9 rfl),z4 rfl rfl,zz⟩ ?_
  refine ht_cond _ rfl (fun hb1 => ?_) (fun hb1 => ?_)
  ·have h := cond_t hb1 h
   refine ht_seq ?_
   refine ht_pick [0, 2, 4, 5] (by kernel_rfl) (es' := [(_,_),(_,_),(_,_),(_,_)]) rfl ?_
   refine ht_loopS h (fun ((s12, s13) : ByteArray × S) => [(0, .v (.func (.yield l) #[] #[])), (2, .box 9 [.v (.string s12)]), (52, .glob (GL mx)), (53, .inv (J s13))]) (fun (s16 : S) => [(52, .glob (GL mx)), (53, .inv (J s16))]) ?_ ?_
   ·rintro s16 h
    refine pt_then (ht_ret ?_)
    refine pt_pick [1] (by kernel_rfl) (es' := [(53, .inv (J s16))]) rfl ?_
    refine pt_r_then ?_
    obtain rfl := Option.some.inj h
    exact pt_retI hio rfl rfl rfl
   ·rintro u17 hl18 hr19 ⟨s12, s13⟩ rr22 h ho20
    refine ht_seq ?_
    refine zgg hn [_,_,_,_,(12,vs s12),(13,vi (s12.size : Int)),(14,vb (decide (0 < (s12.size : Int))))] [0,1,2,3] [0,1,2,3,6] [zq [1] 4 12,zq [4] 5 13,zq [5] 6 14] [(_,_),(_,_),(_,_),(_,_),(_,_)] rfl ⟨zp rfl (oL underlying9 rfl),zp rfl (oN underlying9 rfl),z4 rfl rfl,zz⟩ ?_
    refine ht_cond _ rfl (fun hb23 => ?_) (fun hb23 => ?_)
    ·have h := cond_t hb23 h
     refine ht_skip ?_
     refine pt_then ?_
     refine ht_block ?_
     refine ht_seq ?_
     obtain ⟨v3, hv3, h⟩ := bind_some h
     refine zg hn [_,_,_,_,_,(16,vs s12),(17,.tup [.v (.int .i32 v3.1),vi v3.2]),(15,.tup [.v (.int .i32 v3.1),vi v3.2]),(18,.v (.int .i32 v3.1)),(19,vi v3.2),(5,.v (.int .i32 v3.1)),(6,vi v3.2)] [0,1,2,3,4] [0,1,2,3,11] [zq [1] 5 16,zq [5,2] 6 17,⟨[],[6],[7],[(.slot 15)]⟩,zq [7] 8 18,zq [7] 9 19,zq [8] 10 5,zq [9] 11 6] [(_,_),(_,_),(_,_),(_,_),(_,_)] rfl ⟨zp rfl (oL underlying9 rfl),zp rfl (op_callG _ _ 52 80 _ _ rfl call80 rfl rfl (fun _ h => h) (ok_unicode_utf8_DecodeRuneInString mx s12 _ hv3) rfl rfl),zp rfl (op_move_take _ _ _ _ rfl),zp rfl (oE rfl),zp rfl (oE rfl),z2 rfl,z2 rfl,zz⟩ ?_
     refine pt_then (ht_seq ?_)
     refine ht_seq ?_
     obtain ⟨v4, hv4, h⟩ := bind_some h
     obtain ⟨v5, hv5, h⟩ := bind_some h
     refine zg hn [_,_,_,_,_,(20,.v (.func (.yield l) #[] #[])),(21,vs s12),(22,vi v3.2),(23,vs v4),(24,vb v5.2),(53,.inv (J v5.1)),(25,vb (!v5.2))] [0,1,2,3,4] [0,1,2,10,4,11] [zq [0] 5 20,zq [1] 6 21,zq [4] 7 22,zq [6,7] 8 23,⟨[8,5],[3],[10,9],[(.slot 24)]⟩,zq [9] 11 25] [(_,_),(_,_),(_,_),(_,_),(_,_),(_,_)] rfl ⟨z1 rfl,zp rfl (oL underlying9 rfl),z1 rfl,zp rfl (op_substr _ _ _ 0 v3.2 _ underlying9 rfl rfl ⟨_, rfl⟩ hv4),zp rfl (op_yield _ _ 53 l v4 s13 v5 hY hv5 rfl rfl rfl),zp rfl (op_un _ _ _ _ rfl rfl),zz⟩ ?_
     refine pt_then ?_
     refine ht_cond _ rfl (fun hb24 => ?_) (fun hb24 => ?_)
     ·have h := cond_t hb24 h
      refine ht_ret ?_
      refine pt_pick [3] (by kernel_rfl) (es' := [(53, .inv (J v5.1))]) rfl ?_
      refine pt_r_then ?_
      refine pt_r_in ?_
      refine pt_r_then ?_
      refine pt_r_in ?_
      refine pt_r_then ?_
      refine pt_r_then ?_
      have h := hr19 _ (ho20 _ (Option.some.inj h).symm).symm
      obtain rfl := Option.some.inj h
      exact pt_retI hio rfl rfl rfl
     ·have h := cond_f hb24 h
      refine ht_skip ?_
      refine pt_then ?_
      obtain ⟨v7, hv7, h⟩ := bind_some h
      refine zg hn [_,_,_,_,_,_,(26,vs s12),(27,vi v3.2),(28,vs v7),(2,.box 9 [vs v7])] [0,1,2,3,4,5] [0,9,2,3] [zq [1] 6 26,zq [4] 7 27,zq [6,7] 8 28,⟨[8],[1],[9],[.cell 2 0]⟩] [(_,_),(_,_),(_,_),(_,_)] rfl ⟨zp rfl (oL underlying9 rfl),z1 rfl,zp rfl (op_substr _ _ _ v3.2 (s12.size : Int) _ underlying9 rfl ⟨_, rfl⟩ rfl hv7),zp rfl (oS sz9 rfl),zz⟩ ?_
      refine pt_inb ?_
      exact pt_next _ (Option.some.inj h).symm rfl
    ·have h := cond_f hb23 h
     refine ht_exit ?_
     refine pt_x_then ?_
     refine pt_x_then ?_
     refine pt_x_in ?_
     refine pt_pick [2, 3] (by kernel_rfl) (es' := [(_,_),(_,_)]) rfl ?_
     exact hl18 _ (ho20 _ (Option.some.inj h).symm).symm
  ·have h := cond_f hb1 h
   refine ht_skip ?_
   refine pt_then (ht_seq ?_)
   refine ht_pick [0, 1, 2, 3, 4, 5] (by kernel_rfl) (es' := [(_,_),(_,_),(_,_),(_,_),(_,_),(_,_)]) rfl ?_
   refine ht_loopS h (fun ((s37, s38) : ByteArray × S) => [(0, .v (.func (.yield l) #[] #[])), (1, .box 9 [.v (.string c0)]), (2, .box 9 [.v (.string s37)]), (3, .box 3 [.v (.int .i64 c2)]), (52, .glob (GL mx)), (53, .inv (J s38))]) (fun ((s41, s42) : ByteArray × S) => [(0, .v (.func (.yield l) #[] #[])), (2, .box 9 [.v (.string s41)]), (52, .glob (GL mx)), (53, .inv (J s42))]) ?_ ?_
   ·rintro ⟨s41, s42⟩ h
    refine pt_then ?_
    obtain ⟨v51, hv51, h⟩ := bind_some h
    refine zg hn [_,_,_,_,(49,.v (.func (.yield l) #[] #[])),(50,vs s41),(51,vb v51.2),(53,.inv (J v51.1))] [0,1,2,3] [2,7] [zq [0] 4 49,zq [1] 5 50,⟨[5,4],[3],[7,6],[(.slot 51)]⟩] [(_,_),(_,_)] rfl ⟨z1 rfl,zp rfl (oL underlying9 rfl),zp rfl (op_yield _ _ 53 l s41 s42 v51 hY hv51 rfl rfl rfl),zz⟩ ?_
    refine pt_pick [1] (by kernel_rfl) (es' := [(53, .inv (J v51.1))]) rfl ?_
    obtain rfl := Option.some.inj h
    exact pt_endI hio rfl rfl rfl
   ·rintro u43 hl44 hr45 ⟨s37, s38⟩ rr48 h ho46
    refine ht_block ?_
    refine ht_seq ?_
    obtain ⟨v25, hv25, h⟩ := bind_some h
    refine zg hn [_,_,_,_,_,_,(29,vs s37),(30,vs c0),(31,vi v25),(7,vi v25)] [0,1,2,3,4,5] [0,1,2,3,4,5,9] [zq [2] 6 29,zq [1] 7 30,zq [6,7] 8 31,zq [8] 9 7] [(_,_),(_,_),(_,_),(_,_),(_,_),(_,_),(_,_)] rfl ⟨zp rfl (oL underlying9 rfl),zp rfl (oL underlying9 rfl),zp rfl (op_call _ _ 81 _ _ rfl call81 rfl (ok_strings_Index s37 c0 _ hv25) rfl rfl),z2 rfl,zz⟩ ?_
    refine pt_then (ht_seq ?_)
    refine zgg hn [_,_,_,_,_,_,_,(32,vi v25),(33,vb (decide (v25 < 0)))] [0,1,2,3,4,5,6] [0,1,2,3,4,5,6,8] [zq [6] 7 32,zq [7] 8 33] [(_,_),(_,_),(_,_),(_,_),(_,_),(_,_),(_,_),(_,_)] rfl ⟨z1 rfl,z4 rfl rfl,zz⟩ ?_
    refine ht_cond _ rfl (fun hb49 => ?_) (fun hb49 => ?_)
    ·have h := cond_t hb49 h
     refine ht_exit ?_
     refine pt_x_then ?_
     refine pt_x_out (by decide) ?_
     refine pt_x_then ?_
     refine pt_x_in ?_
     refine pt_pick [0, 2, 4, 5] (by kernel_rfl) (es' := [(_,_),(_,_),(_,_),(_,_)]) rfl ?_
     exact hl44 _ (ho46 _ (Option.some.inj h).symm).symm
    ·have h := cond_f hb49 h
     refine ht_skip ?_
     refine pt_then (ht_seq ?_)
     obtain ⟨v27, hv27, h⟩ := bind_some h
     obtain ⟨v28, hv28, h⟩ := bind_some h
     refine zg hn [_,_,_,_,_,_,_,_,(34,vs s37),(35,vi v25),(36,vi c2),(37,vi v27),(38,vs v28),(8,vs v28)] [0,1,2,3,4,5,6,7] [0,1,2,3,4,5,6,13] [zq [2] 8 34,zq [6] 9 35,zq [3] 10 36,zq [9,10] 11 37,zq [8,11] 12 38,zq [12] 13 8] [(_,_),(_,_),(_,_),(_,_),(_,_),(_,_),(_,_),(_,_)] rfl ⟨zp rfl (oL underlying9 rfl),z1 rfl,zp rfl (oL underlying3 rfl),zp rfl (oB rfl (ibind (f := Value.int .i64) (Option.some.inj hv27))),zp rfl (op_substr _ _ _ 0 v27 _ underlying9 rfl rfl ⟨_, rfl⟩ hv28),z2 rfl,zz⟩ ?_
     refine pt_then (ht_seq ?_)
     refine ht_seq ?_
     obtain ⟨v29, hv29, h⟩ := bind_some h
     refine zg hn [_,_,_,_,_,_,_,_,(39,.v (.func (.yield l) #[] #[])),(40,vs v28),(41,vb v29.2),(53,.inv (J v29.1)),(42,vb (!v29.2))] [0,1,2,3,4,5,6,7] [0,1,2,3,4,11,6,12] [zq [0] 8 39,zq [7] 9 40,⟨[9,8],[5],[11,10],[(.slot 41)]⟩,zq [10] 12 42] [(_,_),(_,_),(_,_),(_,_),(_,_),(_,_),(_,_),(_,_)] rfl ⟨z1 rfl,z1 rfl,zp rfl (op_yield _ _ 53 l v28 s38 v29 hY hv29 rfl rfl rfl),zp rfl (op_un _ _ _ _ rfl rfl),zz⟩ ?_
     refine pt_then ?_
     refine ht_cond _ rfl (fun hb50 => ?_) (fun hb50 => ?_)
     ·have h := cond_t hb50 h
      refine ht_ret ?_
      refine pt_pick [5] (by kernel_rfl) (es' := [(53, .inv (J v29.1))]) rfl ?_
      refine pt_r_then ?_
      refine pt_r_in ?_
      refine pt_r_then ?_
      refine pt_r_in ?_
      refine pt_r_then ?_
      have h := hr45 _ (ho46 _ (Option.some.inj h).symm).symm
      obtain rfl := Option.some.inj h
      exact pt_retI hio rfl rfl rfl
     ·have h := cond_f hb50 h
      refine ht_skip ?_
      refine pt_then ?_
      obtain ⟨v31, hv31, h⟩ := bind_some h
      obtain ⟨v32, hv32, h⟩ := bind_some h
      refine zg hn (_::_::_::_::_::_::_::_::(43,vs s37)::(44,vi v25)::(45,vs c0)::(46,vi (c0.size : Int))::(47,vi v31)::(48,vs v32)::(2,.box 9 [vs v32])::[]) [0,1,2,3,4,5,6,7] [0,1,14,3,4,5] [zq [2] 8 43,zq [6] 9 44,zq [1] 10 45,zq [10] 11 46,zq [9,11] 12 47,zq [8,12] 13 48,⟨[13],[2],[14],[.cell 2 0]⟩] [(_,_),(_,_),(_,_),(_,_),(_,_),(_,_)] rfl ⟨zp rfl (oL underlying9 rfl),z1 rfl,zp rfl (oL underlying9 rfl),zp rfl (oN underlying9 rfl),zp rfl (oB rfl (ibind (f := Value.int .i64) (Option.some.inj hv31))),zp rfl (op_substr _ _ _ v31 (s37.size : Int) _ underlying9 rfl ⟨_, rfl⟩ rfl hv32),zp rfl (oS sz9 rfl),zz⟩ ?_
      refine pt_inb ?_
      exact pt_next _ (Option.some.inj h).symm rfl
theorem ok_path_alphanumeric (c : Int) (r : Bool) (h : Sh.path_alphanumeric c = some r) : FnOK Tryd.prog 53 [.v (.int .u8 c)] (.v (.bool r)) := by
  unfold Sh.path_alphanumeric at h
  refine fn_ok func53 rfl (zl rfl) rfl rfl fun g0 hn hio => ?_
  refine zgg hn [_,(2,vb false)] [0] [0] [zq [] 1 2] [(_,_)] rfl ⟨z2 rfl,zz⟩ ?_
  refine ht_seq ?_
  refine ht_joinS h (fun (s1 : Bool) => [(2, .v (.bool s1))]) ?_ ?_
  ·rintro s1 h
   refine pt_then (ht_ret ?_)
   obtain rfl := Option.some.inj h
   exact pt_ret hio rfl (.tmp _ _ .nil) rfl rfl
  ·intro u2 h hl3 hr4
   refine cond_some h (fun hg1_2 h => ?_) (fun hg1_2 h => ?_)
   ·refine cond_some h (fun hg1_6 h => ?_) (fun hg1_6 h => ?_)
    ·refine zg hn (_::(3,.v (.int .u8 c))::(4,vb (decide (48 ≤ c)))::(5,vb true)::(6,.v (.int .u8 c))::(7,vb (decide (c ≤ 57)))::(8,vb (decide (c ≤ 57)))::(9,vb true)::(10,.v undef)::(11,.v undef)::(12,.v undef)::(13,.v undef)::(14,.v undef)::(15,.v undef)::(16,vb true)::(17,vb true)::(18,.v undef)::(19,.v undef)::(20,.v undef)::(21,.v undef)::(22,.v undef)::(23,.v undef)::(24,vb true)::(2,vb true)::[]) [0] [23] (zq [0] 1 3::zq [1] 2 4::zq [2] 3 5::zq [3,0] 4 6::zq [3,4] 5 7::zq [3,5] 6 8::zq [6] 7 9::zq [7] 8 10::zq [7] 9 11::zq [7] 10 12::zq [10] 11 13::zq [10] 12 14::zq [7] 13 15::zq [7] 14 16::zq [14] 15 17::zq [15] 16 18::zq [15] 17 19::zq [15] 18 20::zq [18] 19 21::zq [18] 20 22::zq [15] 21 23::zq [15] 22 24::zq [22] 23 2::[]) [(_,_)] rfl ⟨z1 rfl,z4 rfl rfl,z8 hg1_2 rfl,zr' rfl (oM rfl),zr' rfl (oB rfl rfl),z3 true rfl,z8 hg1_6 rfl,zf rfl,zf rfl,zf rfl,zu' rfl,zu' rfl,zf rfl,z3 true rfl,z1 rfl,zf rfl,zf rfl,zf rfl,zu' rfl,zu' rfl,zf rfl,z3 true rfl,z2 rfl,zz⟩ ?_
     exact hl3 _ (Option.some.inj h).symm
    ·refine cond_some h (fun hg1_9 h => ?_) (fun hg1_9 h => ?_)
     ·refine cond_some h (fun hg1_14 h => ?_) (fun hg1_14 h => ?_)
      ·refine zg hn (_::(3,.v (.int .u8 c))::(4,vb (decide (48 ≤ c)))::(5,vb true)::(6,.v (.int .u8 c))::(7,vb (decide (c ≤ 57)))::(8,vb (decide (c ≤ 57)))::(9,vb false)::(10,.v (.int .u8 c))::(11,vb (decide (65 ≤ c)))::(12,vb true)::(13,.v (.int .u8 c))::(14,vb (decide (c ≤ 90)))::(15,vb (decide (c ≤ 90)))::(16,vb (decide (c ≤ 90)))::(17,vb true)::(18,.v undef)::(19,.v undef)::(20,.v undef)::(21,.v undef)::(22,.v undef)::(23,.v undef)::(24,vb true)::(2,vb true)::[]) [0] [23] (zq [0] 1 3::zq [1] 2 4::zq [2] 3 5::zq [3,0] 4 6::zq [3,4] 5 7::zq [3,5] 6 8::zq [6] 7 9::zq [7,0] 8 10::zq [7,8] 9 11::zq [7,9] 10 12::zq [10,0] 11 13::zq [10,11] 12 14::zq [7,10,12] 13 15::zq [7,13] 14 16::zq [14] 15 17::zq [15] 16 18::zq [15] 17 19::zq [15] 18 20::zq [18] 19 21::zq [18] 20 22::zq [15] 21 23::zq [15] 22 24::zq [22] 23 2::[]) [(_,_)] rfl ⟨z1 rfl,z4 rfl rfl,z8 hg1_2 rfl,zr' rfl (oM rfl),zr' rfl (oB rfl rfl),z3 true rfl,z8 hg1_6 rfl,zr' rfl (oM rfl),zr' rfl (oB rfl rfl),zr' rfl (op_move _ _ _ _ (zb hg1_9) rfl),zr' rfl (oM rfl),zr' rfl (oB rfl rfl),zr' rfl (op_pick _ _ true _ rfl rfl),z3 false rfl,z8 hg1_14 rfl,zf rfl,zf rfl,zf rfl,zu' rfl,zu' rfl,zf rfl,z3 true rfl,z2 rfl,zz⟩ ?_
       exact hl3 _ (Option.some.inj h).symm
      ·refine cond_some h (fun hg1_17 h => ?_) (fun hg1_17 h => ?_)
       ·refine zg hn (_::(3,.v (.int .u8 c))::(4,vb (decide (48 ≤ c)))::(5,vb true)::(6,.v (.int .u8 c))::(7,vb (decide (c ≤ 57)))::(8,vb (decide (c ≤ 57)))::(9,vb false)::(10,.v (.int .u8 c))::(11,vb (decide (65 ≤ c)))::(12,vb true)::(13,.v (.int .u8 c))::(14,vb (decide (c ≤ 90)))::(15,vb (decide (c ≤ 90)))::(16,vb (decide (c ≤ 90)))::(17,vb false)::(18,.v (.int .u8 c))::(19,vb (decide (97 ≤ c)))::(20,vb true)::(21,.v (.int .u8 c))::(22,vb (decide (c ≤ 122)))::(23,vb (decide (c ≤ 122)))::(24,vb (decide (c ≤ 122)))::(2,vb (decide (c ≤ 122)))::[]) [0] [23] (zq [0] 1 3::zq [1] 2 4::zq [2] 3 5::zq [3,0] 4 6::zq [3,4] 5 7::zq [3,5] 6 8::zq [6] 7 9::zq [7,0] 8 10::zq [7,8] 9 11::zq [7,9] 10 12::zq [10,0] 11 13::zq [10,11] 12 14::zq [7,10,12] 13 15::zq [7,13] 14 16::zq [14] 15 17::zq [15,0] 16 18::zq [15,16] 17 19::zq [15,17] 18 20::zq [18,0] 19 21::zq [18,19] 20 22::zq [15,18,20] 21 23::zq [15,21] 22 24::zq [22] 23 2::[]) [(_,_)] rfl ⟨z1 rfl,z4 rfl rfl,z8 hg1_2 rfl,zr' rfl (oM rfl),zr' rfl (oB rfl rfl),z3 true rfl,z8 hg1_6 rfl,zr' rfl (oM rfl),zr' rfl (oB rfl rfl),zr' rfl (op_move _ _ _ _ (zb hg1_9) rfl),zr' rfl (oM rfl),zr' rfl (oB rfl rfl),zr' rfl (op_pick _ _ true _ rfl rfl),z3 false rfl,z8 hg1_14 rfl,zr' rfl (oM rfl),zr' rfl (oB rfl rfl),zr' rfl (op_move _ _ _ _ (zb hg1_17) rfl),zr' rfl (oM rfl),zr' rfl (oB rfl rfl),zr' rfl (op_pick _ _ true _ rfl rfl),z3 false rfl,z2 rfl,zz⟩ ?_
        exact hl3 _ (Option.some.inj h).symm
       ·refine zg hn (_::(3,.v (.int .u8 c))::(4,vb (decide (48 ≤ c)))::(5,vb true)::(6,.v (.int .u8 c))::(7,vb (decide (c ≤ 57)))::(8,vb (decide (c ≤ 57)))::(9,vb false)::(10,.v (.int .u8 c))::(11,vb (decide (65 ≤ c)))::(12,vb true)::(13,.v (.int .u8 c))::(14,vb (decide (c ≤ 90)))::(15,vb (decide (c ≤ 90)))::(16,vb (decide (c ≤ 90)))::(17,vb false)::(18,.v (.int .u8 c))::(19,vb (decide (97 ≤ c)))::(20,vb false)::(21,.v undef)::(22,.v undef)::(23,vb false)::(24,vb false)::(2,vb false)::[]) [0] [23] (zq [0] 1 3::zq [1] 2 4::zq [2] 3 5::zq [3,0] 4 6::zq [3,4] 5 7::zq [3,5] 6 8::zq [6] 7 9::zq [7,0] 8 10::zq [7,8] 9 11::zq [7,9] 10 12::zq [10,0] 11 13::zq [10,11] 12 14::zq [7,10,12] 13 15::zq [7,13] 14 16::zq [14] 15 17::zq [15,0] 16 18::zq [15,16] 17 19::zq [15,17] 18 20::zq [18] 19 21::zq [18] 20 22::zq [15,18] 21 23::zq [15,21] 22 24::zq [22] 23 2::[]) [(_,_)] rfl ⟨z1 rfl,z4 rfl rfl,z8 hg1_2 rfl,zr' rfl (oM rfl),zr' rfl (oB rfl rfl),z3 true rfl,z8 hg1_6 rfl,zr' rfl (oM rfl),zr' rfl (oB rfl rfl),zr' rfl (op_move _ _ _ _ (zb hg1_9) rfl),zr' rfl (oM rfl),zr' rfl (oB rfl rfl),zr' rfl (op_pick _ _ true _ rfl rfl),z3 false rfl,z8 hg1_14 rfl,zr' rfl (oM rfl),zr' rfl (oB rfl rfl),zr' rfl (op_move _ _ _ _ (zb hg1_17) rfl),zt rfl,zt rfl,zr' rfl (op_pick _ _ false _ rfl rfl),z3 false rfl,z2 rfl,zz⟩ ?_
        exact hl3 _ (Option.some.inj h).symm
     ·refine cond_some h (fun hg1_17 h => ?_) (fun hg1_17 h => ?_)
      ·refine zg hn (_::(3,.v (.int .u8 c))::(4,vb (decide (48 ≤ c)))::(5,vb true)::(6,.v (.int .u8 c))::(7,vb (decide (c ≤ 57)))::(8,vb (decide (c ≤ 57)))::(9,vb false)::(10,.v (.int .u8 c))::(11,vb (decide (65 ≤ c)))::(12,vb false)::(13,.v undef)::(14,.v undef)::(15,vb false)::(16,vb false)::(17,vb false)::(18,.v (.int .u8 c))::(19,vb (decide (97 ≤ c)))::(20,vb true)::(21,.v (.int .u8 c))::(22,vb (decide (c ≤ 122)))::(23,vb (decide (c ≤ 122)))::(24,vb (decide (c ≤ 122)))::(2,vb (decide (c ≤ 122)))::[]) [0] [23] (zq [0] 1 3::zq [1] 2 4::zq [2] 3 5::zq [3,0] 4 6::zq [3,4] 5 7::zq [3,5] 6 8::zq [6] 7 9::zq [7,0] 8 10::zq [7,8] 9 11::zq [7,9] 10 12::zq [10] 11 13::zq [10] 12 14::zq [7,10] 13 15::zq [7,13] 14 16::zq [14] 15 17::zq [15,0] 16 18::zq [15,16] 17 19::zq [15,17] 18 20::zq [18,0] 19 21::zq [18,19] 20 22::zq [15,18,20] 21 23::zq [15,21] 22 24::zq [22] 23 2::[]) [(_,_)] rfl ⟨z1 rfl,z4 rfl rfl,z8 hg1_2 rfl,zr' rfl (oM rfl),zr' rfl (oB rfl rfl),z3 true rfl,z8 hg1_6 rfl,zr' rfl (oM rfl),zr' rfl (oB rfl rfl),zr' rfl (op_move _ _ _ _ (zb hg1_9) rfl),zt rfl,zt rfl,zr' rfl (op_pick _ _ false _ rfl rfl),z3 false rfl,z1 rfl,zr' rfl (oM rfl),zr' rfl (oB rfl rfl),zr' rfl (op_move _ _ _ _ (zb hg1_17) rfl),zr' rfl (oM rfl),zr' rfl (oB rfl rfl),zr' rfl (op_pick _ _ true _ rfl rfl),z3 false rfl,z2 rfl,zz⟩ ?_
       exact hl3 _ (Option.some.inj h).symm
      ·refine zg hn (_::(3,.v (.int .u8 c))::(4,vb (decide (48 ≤ c)))::(5,vb true)::(6,.v (.int .u8 c))::(7,vb (decide (c ≤ 57)))::(8,vb (decide (c ≤ 57)))::(9,vb false)::(10,.v (.int .u8 c))::(11,vb (decide (65 ≤ c)))::(12,vb false)::(13,.v undef)::(14,.v undef)::(15,vb false)::(16,vb false)::(17,vb false)::(18,.v (.int .u8 c))::(19,vb (decide (97 ≤ c)))::(20,vb false)::(21,.v undef)::(22,.v undef)::(23,vb false)::(24,vb false)::(2,vb false)::[]) [0] [23] (zq [0] 1 3::zq [1] 2 4::zq [2] 3 5::zq [3,0] 4 6::zq [3,4] 5 7::zq [3,5] 6 8::zq [6] 7 9::zq [7,0] 8 10::zq [7,8] 9 11::zq [7,9] 10 12::zq [10] 11 13::zq [10] 12 14::zq [7,10] 13 15::zq [7,13] 14 16::zq [14] 15 17::zq [15,0] 16 18::zq [15,16] 17 19::zq [15,17] 18 20::zq [18] 19 21::zq [18] 20 22::zq [15,18] 21 23::zq [15,21] 22 24::zq [22] 23 2::[]) [(_,_)] rfl ⟨z1 rfl,z4 rfl rfl,z8 hg1_2 rfl,zr' rfl (oM rfl),zr' rfl (oB rfl rfl),z3 true rfl,z8 hg1_6 rfl,zr' rfl (oM rfl),zr' rfl (oB rfl rfl),zr' rfl (op_move _ _ _ _ (zb hg1_9) rfl),zt rfl,zt rfl,zr' rfl (op_pick _ _ false _ rfl rfl),z3 false rfl,z1 rfl,zr' rfl (oM rfl),zr' rfl (oB rfl rfl),zr' rfl (op_move _ _ _ _ (zb hg1_17) rfl),zt rfl,zt rfl,zr' rfl (op_pick _ _ false _ rfl rfl),z3 false rfl,z2 rfl,zz⟩ ?_
       exact hl3 _ (Option.some.inj h).symm
   ·refine cond_some h (fun hg1_9 h => ?_) (fun hg1_9 h => ?_)
    ·refine cond_some h (fun hg1_14 h => ?_) (fun hg1_14 h => ?_)
     ·refine zg hn (_::(3,.v (.int .u8 c))::(4,vb (decide (48 ≤ c)))::(5,vb false)::(6,.v undef)::(7,.v undef)::(8,vb false)::(9,vb false)::(10,.v (.int .u8 c))::(11,vb (decide (65 ≤ c)))::(12,vb true)::(13,.v (.int .u8 c))::(14,vb (decide (c ≤ 90)))::(15,vb (decide (c ≤ 90)))::(16,vb (decide (c ≤ 90)))::(17,vb true)::(18,.v undef)::(19,.v undef)::(20,.v undef)::(21,.v undef)::(22,.v undef)::(23,.v undef)::(24,vb true)::(2,vb true)::[]) [0] [23] (zq [0] 1 3::zq [1] 2 4::zq [2] 3 5::zq [3] 4 6::zq [3] 5 7::zq [3] 6 8::zq [6] 7 9::zq [7,0] 8 10::zq [7,8] 9 11::zq [7,9] 10 12::zq [10,0] 11 13::zq [10,11] 12 14::zq [7,10,12] 13 15::zq [7,13] 14 16::zq [14] 15 17::zq [15] 16 18::zq [15] 17 19::zq [15] 18 20::zq [18] 19 21::zq [18] 20 22::zq [15] 21 23::zq [15] 22 24::zq [22] 23 2::[]) [(_,_)] rfl ⟨z1 rfl,z4 rfl rfl,z8 hg1_2 rfl,zt rfl,zt rfl,z3 false rfl,z1 rfl,zr' rfl (oM rfl),zr' rfl (oB rfl rfl),zr' rfl (op_move _ _ _ _ (zb hg1_9) rfl),zr' rfl (oM rfl),zr' rfl (oB rfl rfl),zr' rfl (op_pick _ _ true _ rfl rfl),z3 false rfl,z8 hg1_14 rfl,zf rfl,zf rfl,zf rfl,zu' rfl,zu' rfl,zf rfl,z3 true rfl,z2 rfl,zz⟩ ?_
      exact hl3 _ (Option.some.inj h).symm
     ·refine cond_some h (fun hg1_17 h => ?_) (fun hg1_17 h => ?_)
      ·refine zg hn (_::(3,.v (.int .u8 c))::(4,vb (decide (48 ≤ c)))::(5,vb false)::(6,.v undef)::(7,.v undef)::(8,vb false)::(9,vb false)::(10,.v (.int .u8 c))::(11,vb (decide (65 ≤ c)))::(12,vb true)::(13,.v (.int .u8 c))::(14,vb (decide (c ≤ 90)))::(15,vb (decide (c ≤ 90)))::(16,vb (decide (c ≤ 90)))::(17,vb false)::(18,.v (.int .u8 c))::(19,vb (decide (97 ≤ c)))::(20,vb true)::(21,.v (.int .u8 c))::(22,vb (decide (c ≤ 122)))::(23,vb (decide (c ≤ 122)))::(24,vb (decide (c ≤ 122)))::(2,vb (decide (c ≤ 122)))::[]) [0] [23] (zq [0] 1 3::zq [1] 2 4::zq [2] 3 5::zq [3] 4 6::zq [3] 5 7::zq [3] 6 8::zq [6] 7 9::zq [7,0] 8 10::zq [7,8] 9 11::zq [7,9] 10 12::zq [10,0] 11 13::zq [10,11] 12 14::zq [7,10,12] 13 15::zq [7,13] 14 16::zq [14] 15 17::zq [15,0] 16 18::zq [15,16] 17 19::zq [15,17] 18 20::zq [18,0] 19 21::zq [18,19] 20 22::zq [15,18,20] 21 23::zq [15,21] 22 24::zq [22] 23 2::[]) [(_,_)] rfl ⟨z1 rfl,z4 rfl rfl,z8 hg1_2 rfl,zt rfl,zt rfl,z3 false rfl,z1 rfl,zr' rfl (oM rfl),zr' rfl (oB rfl rfl),zr' rfl (op_move _ _ _ _ (zb hg1_9) rfl),zr' rfl (oM rfl),zr' rfl (oB rfl rfl),zr' rfl (op_pick _ _ true _ rfl rfl),z3 false rfl,z8 hg1_14 rfl,zr' rfl (oM rfl),zr' rfl (oB rfl rfl),zr' rfl (op_move _ _ _ _ (zb hg1_17) rfl),zr' rfl (oM rfl),zr' rfl (oB rfl rfl),zr' rfl (op_pick _ _ true _ rfl rfl),z3 false rfl,z2 rfl,zz⟩ ?_
       exact hl3 _ (Option.some.inj h).symm
      ·refine zg hn (_::(3,.v (.int .u8 c))::(4,vb (decide (48 ≤ c)))::(5,vb false)::(6,.v undef)::(7,.v undef)::(8,vb false)::(9,vb false)::(10,.v (.int .u8 c))::(11,vb (decide (65 ≤ c)))::(12,vb true)::(13,.v (.int .u8 c))::(14,vb (decide (c ≤ 90)))::(15,vb (decide (c ≤ 90)))::(16,vb (decide (c ≤ 90)))::(17,vb false)::(18,.v (.int .u8 c))::(19,vb (decide (97 ≤ c)))::(20,vb false)::(21,.v undef)::(22,.v undef)::(23,vb false)::(24,vb false)::(2,vb false)::[]) [0] [23] (zq [0] 1 3::zq [1] 2 4::zq [2] 3 5::zq [3] 4 6::zq [3] 5 7::zq [3] 6 8::zq [6] 7 9::zq [7,0] 8 10::zq [7,8] 9 11::zq [7,9] 10 12::zq [10,0] 11 13::zq [10,11] 12 14::zq [7,10,12] 13 15::zq [7,13] 14 16::zq [14] 15 17::zq [15,0] 16 18::zq [15,16] 17 19::zq [15,17] 18 20::zq [18] 19 21::zq [18] 20 22::zq [15,18] 21 23::zq [15,21] 22 24::zq [22] 23 2::[]) [(_,_)] rfl ⟨z1 rfl,z4 rfl rfl,z8 hg1_2 rfl,zt rfl,zt rfl,z3 false rfl,z1 rfl,zr' rfl (oM rfl),zr' rfl (oB rfl rfl),zr' rfl (op_move _ _ _ _ (zb hg1_9) rfl),zr' rfl (oM rfl),zr' rfl (oB rfl rfl),zr' rfl (op_pick _ _ true _ rfl rfl),z3 false rfl,z8 hg1_14 rfl,zr' rfl (oM rfl),zr' rfl (oB rfl rfl),zr' rfl (op_move _ _ _ _ (zb hg1_17) rfl),zt rfl,zt rfl,zr' rfl (op_pick _ _ false _ rfl rfl),z3 false rfl,z2 rfl,zz⟩ ?_
       exact hl3 _ (Option.some.inj h).symm
    ·refine cond_some h (fun hg1_17 h => ?_) (fun hg1_17 h => ?_)
     ·refine zg hn (_::(3,.v (.int .u8 c))::(4,vb (decide (48 ≤ c)))::(5,vb false)::(6,.v undef)::(7,.v undef)::(8,vb false)::(9,vb false)::(10,.v (.int .u8 c))::(11,vb (decide (65 ≤ c)))::(12,vb false)::(13,.v undef)::(14,.v undef)::(15,vb false)::(16,vb false)::(17,vb false)::(18,.v (.int .u8 c))::(19,vb (decide (97 ≤ c)))::(20,vb true)::(21,.v (.int .u8 c))::(22,vb (decide (c ≤ 122)))::(23,vb (decide (c ≤ 122)))::(24,vb (decide (c ≤ 122)))::(2,vb (decide (c ≤ 122)))::[]) [0] [23] (zq [0] 1 3::zq [1] 2 4::zq [2] 3 5::zq [3] 4 6::zq [3] 5 7::zq [3] 6 8::zq [6] 7 9::zq [7,0] 8 10::zq [7,8] 9 11::zq [7,9] 10 12::zq [10] 11 13::zq [10] 12 14::zq [7,10] 13 15::zq [7,13] 14 16::zq [14] 15 17::zq [15,0] 16 18::zq [15,16] 17 19::zq [15,17] 18 20::zq [18,0] 19 21::zq [18,19] 20 22::zq [15,18,20] 21 23::zq [15,21] 22 24::zq [22] 23 2::[]) [(_,_)] rfl ⟨z1 rfl,z4 rfl rfl,z8 hg1_2 rfl,zt rfl,zt rfl,z3 false rfl,z1 rfl,zr' rfl (oM rfl),zr' rfl (oB rfl rfl),zr' rfl (op_move _ _ _ _ (zb hg1_9) rfl),zt rfl,zt rfl,zr' rfl (op_pick _ _ false _ rfl rfl),z3 false rfl,z1 rfl,zr' rfl (oM rfl),zr' rfl (oB rfl rfl),zr' rfl (op_move _ _ _ _ (zb hg1_17) rfl),zr' rfl (oM rfl),zr' rfl (oB rfl rfl),zr' rfl (op_pick _ _ true _ rfl rfl),z3 false rfl,z2 rfl,zz⟩ ?_
      exact hl3 _ (Option.some.inj h).symm
     ·refine zg hn (_::(3,.v (.int .u8 c))::(4,vb (decide (48 ≤ c)))::(5,vb false)::(6,.v undef)::(7,.v undef)::(8,vb false)::(9,vb false)::(10,.v (.int .u8 c))::(11,vb (decide (65 ≤ c)))::(12,vb false)::(13,.v undef)::(14,.v undef)::(15,vb false)::(16,vb false)::(17,vb false)::(18,.v (.int .u8 c))::(19,vb (decide (97 ≤ c)))::(20,vb false)::(21,.v undef)::(22,.v undef)::(23,vb false)::(24,vb false)::(2,vb false)::[]) [0] [23] (zq [0] 1 3::zq [1] 2 4::zq [2] 3 5::zq [3] 4 6::zq [3] 5 7::zq [3] 6 8::zq [6] 7 9::zq [7,0] 8 10::zq [7,8] 9 11::zq [7,9] 10 12::zq [10] 11 13::zq [10] 12 14::zq [7,10] 13 15::zq [7,13] 14 16::zq [14] 15 17::zq [15,0] 16 18::zq [15,16] 17 19::zq [15,17] 18 20::zq [18] 19 21::zq [18] 20 22::zq [15,18] 21 23::zq [15,21] 22 24::zq [22] 23 2::[]) [(_,_)] rfl ⟨z1 rfl,z4 rfl rfl,z8 hg1_2 rfl,zt rfl,zt rfl,z3 false rfl,z1 rfl,zr' rfl (oM rfl),zr' rfl (oB rfl rfl),zr' rfl (op_move _ _ _ _ (zb hg1_9) rfl),zt rfl,zt rfl,zr' rfl (op_pick _ _ false _ rfl rfl),z3 false rfl,z1 rfl,zr' rfl (oM rfl),zr' rfl (oB rfl rfl),zr' rfl (op_move _ _ _ _ (zb hg1_17) rfl),zt rfl,zt rfl,zr' rfl (op_pick _ _ false _ rfl rfl),z3 false rfl,z2 rfl,zz⟩ ?_
      exact hl3 _ (Option.some.inj h).symm
theorem ok_path_label_1 (c : Int) (r : Bool) (h : Sh.path_label_1 c = some r) : FnOK Tryd.prog 52 [.v (.int .u8 c)] (.v (.bool r)) := by
  unfold Sh.path_label_1 at h
  refine fn_ok func52 rfl (zl rfl) rfl rfl fun g0 hn hio => ?_
  refine zgg hn [_,(2,vb false)] [0] [0] [zq [] 1 2] [(_,_)] rfl ⟨z2 rfl,zz⟩ ?_
  refine ht_seq ?_
  refine ht_joinS h (fun (s2 : Bool) => [(2, .v (.bool s2))]) ?_ ?_
  ·rintro s2 h
   refine pt_then (ht_ret ?_)
   obtain rfl := Option.some.inj h
   exact pt_ret hio rfl (.tmp _ _ .nil) rfl rfl
  ·intro u3 h hl4 hr5
   obtain ⟨v1, hv1, h⟩ := bind_some h
   refine cond_some h (fun hg1_2 h => ?_) (fun hg1_2 h => ?_)
   ·refine zg hn [_,(3,.v (.int .u8 c)),(4,vb v1),(5,vb true),(6,.v undef),(7,.v undef),(8,vb true),(2,vb true)] [0] [7] [zq [0] 1 3,zq [1] 2 4,zq [2] 3 5,zq [3] 4 6,zq [3] 5 7,zq [3] 6 8,zq [6] 7 2] [(_,_)] rfl ⟨z1 rfl,zp rfl (op_call _ _ 53 _ _ rfl call53 rfl (ok_path_alphanumeric c _ hv1) rfl rfl),z8 hg1_2 rfl,zf rfl,zf rfl,z3 true rfl,z2 rfl,zz⟩ ?_
    exact hl4 _ (Option.some.inj h).symm
   ·refine zg hn [_,(3,.v (.int .u8 c)),(4,vb v1),(5,vb false),(6,.v (.int .u8 c)),(7,vb (c == 45)),(8,vb (c == 45)),(2,vb (c == 45))] [0] [7] [zq [0] 1 3,zq [1] 2 4,zq [2] 3 5,zq [3,0] 4 6,zq [3,4] 5 7,zq [3,5] 6 8,zq [6] 7 2] [(_,_)] rfl ⟨z1 rfl,zp rfl (op_call _ _ 53 _ _ rfl call53 rfl (ok_path_alphanumeric c _ hv1) rfl rfl),z8 hg1_2 rfl,zr' rfl (oM rfl),zr' rfl (oB rfl rfl),z3 false rfl,z2 rfl,zz⟩ ?_
    exact hl4 _ (Option.some.inj h).symm
theorem ok_path_all_of_path_label_1 (s : ByteArray) (r : Bool) (h : Sh.path_all_of_path_label_1 s = some r) : FnOK Tryd.prog 51 [.v (.string s), .v (.func (.func 52) #[] #[])] (.v (.bool r)) := by
  unfold Sh.path_all_of_path_label_1 at h
  refine fn_ok func51 rfl (zl rfl) rfl rfl fun g0 hn hio => ?_
  refine zgg hn [_,_,(4,vb false)] [0,1] [0,1] [zq [] 2 4] [(_,_),(_,_)] rfl ⟨z2 rfl,zz⟩ ?_
  refine ht_seq ?_
  refine zgg hn [_,_,(6,vs s),(7,vi (s.size : Int)),(8,vi 0)] [0,1] [0,1,3,4] [zq [0] 2 6,zq [2] 3 7,zq [] 4 8] [(_,_),(_,_),(_,_),(_,_)] rfl ⟨z1 rfl,zp rfl (oN underlying9 rfl),z1 rfl,zz⟩ ?_
  refine ht_loopS h (fun (s9 : Int) => [(0, .v (.string s)), (1, .v (.func (.func 52) #[] #[])), (7, .v (.int .i64 (s.size : Int))), (8, .v (.int .i64 s9))]) (fun (() : Unit) => []) ?_ ?_
  ·rintro ⟨⟩ h
   refine pt_then ?_
   refine zgg hn [(4,vb true)] [] [0] [zq [] 0 4] [(_,_)] rfl ⟨z2 rfl,zz⟩ ?_
   refine ht_ret ?_
   obtain rfl := Option.some.inj h
   exact pt_ret hio rfl (.tmp _ _ .nil) rfl rfl
  ·rintro u12 hl13 hr14 s9 rr17 h ho15
   refine zgg hn [_,_,_,_,(9,vb (decide (s9 < (s.size : Int))))] [0,1,2,3] [0,1,2,3,4] [zq [3,2] 4 9] [(_,_),(_,_),(_,_),(_,_),(_,_)] rfl ⟨z4 rfl rfl,zz⟩ ?_
   refine ht_seq ?_
   refine ht_cond _ rfl (fun hb18 => ?_) (fun hb18 => ?_)
   ·have h := cond_t hb18 h
    refine ht_skip ?_
    refine pt_then (ht_seq ?_)
    refine ht_block ?_
    refine zgg hn [_,_,_,_,_,(10,vi s9),(5,vi s9)] [0,1,2,3,4] [0,1,2,3,6] [zq [3] 5 10,zq [5] 6 5] [(_,_),(_,_),(_,_),(_,_),(_,_)] rfl ⟨z1 rfl,z2 rfl,zz⟩ ?_
    refine ht_seq ?_
    obtain ⟨v2, hv2, h⟩ := bind_some h
    obtain ⟨v3, hv3, h⟩ := bind_some h
    refine zg hn [_,_,_,_,_,(11,.v (.func (.func 52) #[] #[])),(12,vs s),(13,vi s9),(14,.v (.int .u8 v2)),(15,vb v3),(16,vb (!v3))] [0,1,2,3,4] [0,1,2,3,10] [zq [1] 5 11,zq [0] 6 12,zq [4] 7 13,zq [6,7] 8 14,zq [8,5] 9 15,zq [9] 10 16] [(_,_),(_,_),(_,_),(_,_),(_,_)] rfl ⟨z1 rfl,z1 rfl,z1 rfl,zp rfl (op_chr _ _ _ s9 _ underlying9 rfl rfl hv2),zp rfl (op_call _ _ 52 _ _ rfl call52 rfl (ok_path_label_1 v2 _ hv3) rfl rfl),zp rfl (op_un _ _ _ _ rfl rfl),zz⟩ ?_
    refine pt_then ?_
    refine ht_cond _ rfl (fun hb19 => ?_) (fun hb19 => ?_)
    ·have h := cond_t hb19 h
     refine zgg hn [_,_,_,_,_,(4,vb false)] [0,1,2,3,4] [5] [zq [] 5 4] [(_,_)] rfl ⟨z2 rfl,zz⟩ ?_
     refine ht_ret ?_
     refine pt_r_in ?_
     refine pt_r_then ?_
     refine pt_r_then ?_
     refine pt_r_in ?_
     refine pt_r_then ?_
     have h := hr14 _ (ho15 _ (Option.some.inj h).symm).symm
     obtain rfl := Option.some.inj h
     exact pt_ret hio rfl (.tmp _ _ .nil) rfl rfl
    ·have h := cond_f hb19 h
     refine ht_skip ?_
     refine pt_inb ?_
     refine pt_then ?_
     obtain ⟨v5, hv5, h⟩ := bind_some h
     refine zg hn [_,_,_,_,_,(17,vi v5),(8,vi v5)] [0,1,2,3,4] [0,1,2,6] [zq [3] 5 17,⟨[5],[3],[6],[(.slot 8)]⟩] [(_,_),(_,_),(_,_),(_,_)] rfl ⟨zp rfl (oB rfl (ibind (f := Value.int .i64) (Option.some.inj hv5))),zp rfl (LOp.drop [_] (oM rfl)),zz⟩ ?_
     exact pt_next _ (Option.some.inj h).symm rfl
   ·have h := cond_f hb18 h
    refine ht_exit ?_
    refine pt_x_then ?_
    refine pt_x_then ?_
    refine pt_x_in ?_
    refine pt_pick [] (by kernel_rfl) (es' := []) rfl ?_
    exact hl13 _ (ho15 _ (Option.some.inj h).symm).symm
theorem ok_path_label (s : ByteArray) (r : Bool) (h : Sh.path_label s = some r) : FnOK Tryd.prog 43 [.v (.string s)] (.v (.bool r)) := by
  unfold Sh.path_label at h
  refine fn_ok func43 rfl (zl rfl) rfl rfl fun g0 hn hio => ?_
  refine zgg hn [_,(2,vb false)] [0] [0] [zq [] 1 2] [(_,_)] rfl ⟨z2 rfl,zz⟩ ?_
  refine ht_seq ?_
  refine ht_joinS h (fun (s5 : Bool) => [(2, .v (.bool s5))]) ?_ ?_
  ·rintro s5 h
   refine pt_then (ht_ret ?_)
   obtain rfl := Option.some.inj h
   exact pt_ret hio rfl (.tmp _ _ .nil) rfl rfl
  ·intro u6 h hl7 hr8
   refine cond_some h (fun hg1_2 h => ?_) (fun hg1_2 h => ?_)
   ·refine cond_some h (fun hg1_7 h => ?_) (fun hg1_7 h => ?_)
    ·obtain ⟨v1, hv1, h⟩ := bind_some h
     refine cond_some h (fun hg1_12 h => ?_) (fun hg1_12 h => ?_)
     ·obtain ⟨v2, hv2, h⟩ := bind_some h
      obtain ⟨v3, hv3, h⟩ := bind_some h
      refine cond_some h (fun hg1_20 h => ?_) (fun hg1_20 h => ?_)
      ·obtain ⟨v4, hv4, h⟩ := bind_some h
       refine zg hn (_::(3,vs s)::(4,vb (!(s.toList == z0.toList)))::(5,vb true)::(6,vs s)::(7,vi (s.size : Int))::(8,vb (decide ((s.size : Int) ≤ 63)))::(9,vb (decide ((s.size : Int) ≤ 63)))::(10,vb true)::(11,vs s)::(12,.v (.int .u8 v1))::(13,vb (v1 != 45))::(14,vb (v1 != 45))::(15,vb true)::(16,vs s)::(17,vs s)::(18,vi (s.size : Int))::(19,vi v2)::(20,.v (.int .u8 v3))::(21,vb (v3 != 45))::(22,vb (v3 != 45))::(23,vb true)::(24,vs s)::(25,vb v4)::(26,vb v4)::(2,vb v4)::[]) [0] [25] (zq [0] 1 3::zq [1] 2 4::zq [2] 3 5::zq [3,0] 4 6::zq [3,4] 5 7::zq [3,5] 6 8::zq [3,6] 7 9::zq [7] 8 10::zq [8,0] 9 11::zq [8,9] 10 12::zq [8,10] 11 13::zq [8,11] 12 14::zq [12] 13 15::zq [13,0] 14 16::zq [13,0] 15 17::zq [13,15] 16 18::zq [13,16] 17 19::zq [13,14,17] 18 20::zq [13,18] 19 21::zq [13,19] 20 22::zq [20] 21 23::zq [21,0] 22 24::zq [21,22] 23 25::zq [21,23] 24 26::zq [24] 25 2::[]) [(_,_)] rfl ⟨z1 rfl,z4 rfl rfl,z8 hg1_2 rfl,zr' rfl (oM rfl),zr' rfl (oN underlying9 rfl),zr' rfl (oB rfl rfl),z3 true rfl,z8 hg1_7 rfl,zr' rfl (oM rfl),zr' rfl (op_chr _ _ _ 0 _ underlying9 rfl rfl hv1),zr' rfl (oB rfl rfl),z3 true rfl,z8 hg1_12 rfl,zr' rfl (oM rfl),zr' rfl (oM rfl),zr' rfl (oN underlying9 rfl),zr' rfl (oB rfl (ibind (f := Value.int .i64) (Option.some.inj hv2))),zr' rfl (op_chr _ _ _ v2 _ underlying9 rfl rfl hv3),zr' rfl (oB rfl rfl),z3 true rfl,z8 hg1_20 rfl,zr' rfl (oM rfl),zr' rfl (op_call _ _ 51 _ _ rfl call51 rfl (ok_path_all_of_path_label_1 s _ hv4) rfl rfl),z3 true rfl,z2 rfl,zz⟩ ?_
       exact hl7 _ (Option.some.inj h).symm
      ·refine zg hn (_::(3,vs s)::(4,vb (!(s.toList == z0.toList)))::(5,vb true)::(6,vs s)::(7,vi (s.size : Int))::(8,vb (decide ((s.size : Int) ≤ 63)))::(9,vb (decide ((s.size : Int) ≤ 63)))::(10,vb true)::(11,vs s)::(12,.v (.int .u8 v1))::(13,vb (v1 != 45))::(14,vb (v1 != 45))::(15,vb true)::(16,vs s)::(17,vs s)::(18,vi (s.size : Int))::(19,vi v2)::(20,.v (.int .u8 v3))::(21,vb (v3 != 45))::(22,vb (v3 != 45))::(23,vb false)::(24,.v undef)::(25,.v undef)::(26,vb false)::(2,vb false)::[]) [0] [25] (zq [0] 1 3::zq [1] 2 4::zq [2] 3 5::zq [3,0] 4 6::zq [3,4] 5 7::zq [3,5] 6 8::zq [3,6] 7 9::zq [7] 8 10::zq [8,0] 9 11::zq [8,9] 10 12::zq [8,10] 11 13::zq [8,11] 12 14::zq [12] 13 15::zq [13,0] 14 16::zq [13,0] 15 17::zq [13,15] 16 18::zq [13,16] 17 19::zq [13,14,17] 18 20::zq [13,18] 19 21::zq [13,19] 20 22::zq [20] 21 23::zq [21] 22 24::zq [21] 23 25::zq [21] 24 26::zq [24] 25 2::[]) [(_,_)] rfl ⟨z1 rfl,z4 rfl rfl,z8 hg1_2 rfl,zr' rfl (oM rfl),zr' rfl (oN underlying9 rfl),zr' rfl (oB rfl rfl),z3 true rfl,z8 hg1_7 rfl,zr' rfl (oM rfl),zr' rfl (op_chr _ _ _ 0 _ underlying9 rfl rfl hv1),zr' rfl (oB rfl rfl),z3 true rfl,z8 hg1_12 rfl,zr' rfl (oM rfl),zr' rfl (oM rfl),zr' rfl (oN underlying9 rfl),zr' rfl (oB rfl (ibind (f := Value.int .i64) (Option.some.inj hv2))),zr' rfl (op_chr _ _ _ v2 _ underlying9 rfl rfl hv3),zr' rfl (oB rfl rfl),z3 true rfl,z8 hg1_20 rfl,zt rfl,zt rfl,z3 false rfl,z2 rfl,zz⟩ ?_
       exact hl7 _ (Option.some.inj h).symm
     ·refine zg hn (_::(3,vs s)::(4,vb (!(s.toList == z0.toList)))::(5,vb true)::(6,vs s)::(7,vi (s.size : Int))::(8,vb (decide ((s.size : Int) ≤ 63)))::(9,vb (decide ((s.size : Int) ≤ 63)))::(10,vb true)::(11,vs s)::(12,.v (.int .u8 v1))::(13,vb (v1 != 45))::(14,vb (v1 != 45))::(15,vb false)::(16,.v undef)::(17,.v undef)::(18,.v undef)::(19,.v undef)::(20,.v undef)::(21,.v undef)::(22,vb false)::(23,vb false)::(24,.v undef)::(25,.v undef)::(26,vb false)::(2,vb false)::[]) [0] [25] (zq [0] 1 3::zq [1] 2 4::zq [2] 3 5::zq [3,0] 4 6::zq [3,4] 5 7::zq [3,5] 6 8::zq [3,6] 7 9::zq [7] 8 10::zq [8,0] 9 11::zq [8,9] 10 12::zq [8,10] 11 13::zq [8,11] 12 14::zq [12] 13 15::zq [13] 14 16::zq [13] 15 17::zq [13] 16 18::zq [13] 17 19::zq [13] 18 20::zq [13] 19 21::zq [13] 20 22::zq [20] 21 23::zq [21] 22 24::zq [21] 23 25::zq [21] 24 26::zq [24] 25 2::[]) [(_,_)] rfl ⟨z1 rfl,z4 rfl rfl,z8 hg1_2 rfl,zr' rfl (oM rfl),zr' rfl (oN underlying9 rfl),zr' rfl (oB rfl rfl),z3 true rfl,z8 hg1_7 rfl,zr' rfl (oM rfl),zr' rfl (op_chr _ _ _ 0 _ underlying9 rfl rfl hv1),zr' rfl (oB rfl rfl),z3 true rfl,z8 hg1_12 rfl,zt rfl,zt rfl,zt rfl,zt rfl,zt rfl,zt rfl,z3 false rfl,z1 rfl,zt rfl,zt rfl,z3 false rfl,z2 rfl,zz⟩ ?_
      exact hl7 _ (Option.some.inj h).symm
    ·refine zg hn (_::(3,vs s)::(4,vb (!(s.toList == z0.toList)))::(5,vb true)::(6,vs s)::(7,vi (s.size : Int))::(8,vb (decide ((s.size : Int) ≤ 63)))::(9,vb (decide ((s.size : Int) ≤ 63)))::(10,vb false)::(11,.v undef)::(12,.v undef)::(13,.v undef)::(14,vb false)::(15,vb false)::(16,.v undef)::(17,.v undef)::(18,.v undef)::(19,.v undef)::(20,.v undef)::(21,.v undef)::(22,vb false)::(23,vb false)::(24,.v undef)::(25,.v undef)::(26,vb false)::(2,vb false)::[]) [0] [25] (zq [0] 1 3::zq [1] 2 4::zq [2] 3 5::zq [3,0] 4 6::zq [3,4] 5 7::zq [3,5] 6 8::zq [3,6] 7 9::zq [7] 8 10::zq [8] 9 11::zq [8] 10 12::zq [8] 11 13::zq [8] 12 14::zq [12] 13 15::zq [13] 14 16::zq [13] 15 17::zq [13] 16 18::zq [13] 17 19::zq [13] 18 20::zq [13] 19 21::zq [13] 20 22::zq [20] 21 23::zq [21] 22 24::zq [21] 23 25::zq [21] 24 26::zq [24] 25 2::[]) [(_,_)] rfl ⟨z1 rfl,z4 rfl rfl,z8 hg1_2 rfl,zr' rfl (oM rfl),zr' rfl (oN underlying9 rfl),zr' rfl (oB rfl rfl),z3 true rfl,z8 hg1_7 rfl,zt rfl,zt rfl,zt rfl,z3 false rfl,z1 rfl,zt rfl,zt rfl,zt rfl,zt rfl,zt rfl,zt rfl,z3 false rfl,z1 rfl,zt rfl,zt rfl,z3 false rfl,z2 rfl,zz⟩ ?_
     exact hl7 _ (Option.some.inj h).symm
   ·refine zg hn (_::(3,vs s)::(4,vb (!(s.toList == z0.toList)))::(5,vb false)::(6,.v undef)::(7,.v undef)::(8,.v undef)::(9,vb false)::(10,vb false)::(11,.v undef)::(12,.v undef)::(13,.v undef)::(14,vb false)::(15,vb false)::(16,.v undef)::(17,.v undef)::(18,.v undef)::(19,.v undef)::(20,.v undef)::(21,.v undef)::(22,vb false)::(23,vb false)::(24,.v undef)::(25,.v undef)::(26,vb false)::(2,vb false)::[]) [0] [25] (zq [0] 1 3::zq [1] 2 4::zq [2] 3 5::zq [3] 4 6::zq [3] 5 7::zq [3] 6 8::zq [3] 7 9::zq [7] 8 10::zq [8] 9 11::zq [8] 10 12::zq [8] 11 13::zq [8] 12 14::zq [12] 13 15::zq [13] 14 16::zq [13] 15 17::zq [13] 16 18::zq [13] 17 19::zq [13] 18 20::zq [13] 19 21::zq [13] 20 22::zq [20] 21 23::zq [21] 22 24::zq [21] 23 25::zq [21] 24 26::zq [24] 25 2::[]) [(_,_)] rfl ⟨z1 rfl,z4 rfl rfl,z8 hg1_2 rfl,zt rfl,zt rfl,zt rfl,z3 false rfl,z1 rfl,zt rfl,zt rfl,zt rfl,z3 false rfl,z1 rfl,zt rfl,zt rfl,zt rfl,zt rfl,zt rfl,zt rfl,z3 false rfl,z1 rfl,zt rfl,zt rfl,z3 false rfl,z2 rfl,zz⟩ ?_
    exact hl7 _ (Option.some.inj h).symm
theorem ok_path_dotted_of_path_label (mx : Int) (s : ByteArray) (r : Bool) (h : Sh.path_dotted_of_path_label s = some r) : FnG Tryd.prog (GL mx) 42 [.v (.string s), .v (.func (.func 43) #[] #[])] (.v (.bool r)) := by
  unfold Sh.path_dotted_of_path_label at h
  refine fn_okG func42 rfl (zl rfl) rfl rfl fun g0 hn hio => ?_
  refine zgg hn [_,_,_,(3,.box 33 [.v (.func (.func 43) #[] #[])]),(4,.box 4 [vb false])] [0,1,2] [0,2,3,4] [zq [1] 3 3,zq [] 4 4] [(_,_),(_,_),(_,_),(_,_)] rfl ⟨zp rfl (op_box _ _ _ _ rfl rfl rfl),zp rfl (op_alloc _ _ zr4),zz⟩ ?_
  refine ht_seq ?_
  refine ht_seq ?_
  obtain ⟨v1, hv1, h⟩ := bind_some h
  refine zg hn [_,_,_,_,(6,vs s),(7,.cloB 79 [.box 9 [vs v1.1],.box 9 [vs v1.2.1],.box 3 [vi v1.2.2]])] [0,1,2,3] [1,2,3,5] [zq [0] 4 6,zq [4] 5 7] [(_,_),(_,_),(_,_),(_,_)] rfl ⟨z1 rfl,zp rfl (op_callS _ _ 50 _ _ rfl call50 rfl rfl (ok_strings_SplitSeq s (⟨#[46]⟩ : ByteArray) _ hv1) rfl),zz⟩ ?_
  refine pt_then ?_
  refine ht_block ?_
  refine ht_pick [3, 0, 1, 2] (by kernel_rfl) (es' := [(7, .cloB 79 [.box 9 [.v (.string v1.1)], .box 9 [.v (.string v1.2.1)], .box 3 [.v (.int .i64 v1.2.2)]]), (13, .glob (GL mx)), (3, .box 33 [.v (.func (.func 43) #[] #[])]), (4, .box 4 [.v (.bool false)])]) rfl ?_
  refine ht_rangeF h 79 7 8 14 _ [13, 3, 4] call79 (fun (() : Unit) => [(13, .glob (GL mx)), (3, .box 33 [.v (.func (.func 43) #[] #[])]), (4, .box 4 [.v (.bool false)])]) (fun (() : Unit) => [(13, .glob (GL mx)), (3, .box 33 [.v (.func (.func 43) #[] #[])]), (4, .box 4 [.v (.bool false)])]) (fun l J Y hY t t' h => ok_strings_splitSeq_1 mx l J Y hY v1.1 v1.2.1 v1.2.2 t t' h) hn rfl (fun _ => rfl) (fun _ => rfl) (fun _ => rfl) rfl rfl (fun _ => ⟨rfl, rfl⟩) rfl (glIn_look 13 rfl) ?_ ?_ ?_
  ·rintro kk g0 hn hio x ⟨⟩ u h
   refine ht_es (es' := [(8, .v (.string x)), (13, .glob (GL mx)), (3, .box 33 [.v (.func (.func 43) #[] #[])]), (4, .box 4 [.v (.bool false)]), (13, .v (kk.tm.getD 13 undef)), (3, .v (kk.tm.getD 3 undef)), (4, .v (kk.tm.getD 4 undef)), (14, .inv kk.ready)]) rfl ?_
   refine zg hn [_,_,_,_,_,_,_,_,(5,vs x)] [0,1,2,3,4,5,6,7] [1,2,3,4,5,6,7,8] [zq [0] 8 5] [(_,_),(_,_),(_,_),(_,_),(_,_),(_,_),(_,_),(_,_)] rfl ⟨z2 rfl,zz⟩ ?_
   refine pt_pick [0, 1, 2, 3, 4, 5, 7, 6] (by kernel_rfl) (es' := [(13, .glob (GL mx)), (3, .box 33 [.v (.func (.func 43) #[] #[])]), (4, .box 4 [.v (.bool false)]), (13, .v (kk.tm.getD 13 undef)), (3, .v (kk.tm.getD 3 undef)), (4, .v (kk.tm.getD 4 undef)), (5, .v (.string x)), (14, .inv kk.ready)]) rfl ?_
   refine pt_begin (es := [(13, .glob (GL mx)), (3, .box 33 [.v (.func (.func 43) #[] #[])]), (4, .box 4 [.v (.bool false)]), (13, .v (kk.tm.getD 13 undef)), (3, .v (kk.tm.getD 3 undef)), (4, .v (kk.tm.getD 4 undef)), (5, .v (.string x))]) 14 rfl ?_
   refine ht_block ?_
   refine ht_seq ?_
   obtain ⟨v2, hv2, h⟩ := bind_some h
   refine zg hn [_,_,_,_,_,_,_,_,(9,.v (.func (.func 43) #[] #[])),(10,vs x),(11,vb v2),(12,vb (!v2))] [0,1,2,3,4,5,6,7] [0,1,2,3,4,5,7,11] [zq [1] 8 9,zq [6] 9 10,zq [9,8] 10 11,zq [10] 11 12] [(_,_),(_,_),(_,_),(_,_),(_,_),(_,_),(_,_),(_,_)] rfl ⟨zp rfl (oL underlying33 rfl),z1 rfl,zp rfl (op_call _ _ 43 _ _ rfl call43 rfl (ok_path_label x _ hv2) rfl rfl),zp rfl (op_un _ _ _ _ rfl rfl),zz⟩ ?_
   refine pt_then ?_
   refine ht_cond _ rfl (fun hb5 => ?_) (fun hb5 => ?_)
   ·have h := cond_t hb5 h
    refine zgg hn [_,_,_,_,_,_,_,_,(4,.box 4 [vb false])] [0,1,2,3,4,5,6,7] [0,1,8,3,4,5,6] [⟨[],[2],[8],[.cell 4 0]⟩] [(_,_),(_,_),(_,_),(_,_),(_,_),(_,_),(_,_)] rfl ⟨zp rfl (oS sz4 rfl),zz⟩ ?_
    refine ht_ret ?_
    refine pt_r_in ?_
    obtain rfl := Option.some.inj h
    exact pt_rret 14 [13, 3, 4] _ rfl rfl (by kernel_rfl)
   ·have h := cond_f hb5 h
    refine ht_skip ?_
    refine pt_inb ?_
    refine pt_pick [0, 1, 2, 3, 4, 5, 6] (by kernel_rfl) (es' := [(_,_),(_,_),(_,_),(_,_),(_,_),(_,_),(_,_)]) rfl ?_
    obtain rfl := Option.some.inj h
    exact pt_rnext 14 [13, 3, 4] _ rfl rfl (by kernel_rfl)
  ·rintro D ⟨⟩ h
   refine pt_inb ?_
   refine pt_then ?_
   refine zgg hn [_,_,_,(4,.box 4 [vb true])] [0,1,2] [0,3] [⟨[],[2],[3],[.cell 4 0]⟩] [(_,_),(_,_)] rfl ⟨zp rfl (oS sz4 rfl),zz⟩ ?_
   refine ht_ret ?_
   refine pt_pick [1] (by kernel_rfl) (es' := [(_,_)]) rfl ?_
   obtain rfl := Option.some.inj h
   exact pt_ret hio rfl (.cell1 _ _ _ _ underlying4 rfl .nil) rfl rfl
  ·rintro D ⟨⟩ h
   refine pt_pick [2] (by kernel_rfl) (es' := [(_,_)]) rfl ?_
   refine pt_r_in ?_
   refine pt_r_then ?_
   obtain rfl := Option.some.inj h
   exact pt_ret hio rfl (.cell1 _ _ _ _ underlying4 rfl .nil) rfl rfl
theorem ok_path_Domain (mx : Int) (s : ByteArray) (r : Bool) (h : Sh.path_Domain s = some r) : FnG Tryd.prog (GL mx) 29 [.v (.string s)] (.v (.bool r)) := by
  unfold Sh.path_Domain at h
  refine fn_okG func29 rfl (zl rfl) rfl rfl fun g0 hn hio => ?_
  refine zgg hn [_,_,(2,vb false)] [0,1] [0,1] [zq [] 2 2] [(_,_),(_,_)] rfl ⟨z2 rfl,zz⟩ ?_
  refine ht_seq ?_
  refine ht_joinS h (fun (s2 : Bool) => [(10, .glob (GL mx)), (2, .v (.bool s2))]) ?_ ?_
  ·rintro s2 h
   refine pt_then (ht_ret ?_)
   refine pt_pick [1] (by kernel_rfl) (es' := [(_,_)]) rfl ?_
   obtain rfl := Option.some.inj h
   exact pt_ret hio rfl (.tmp _ _ .nil) rfl rfl
  ·intro u3 h hl4 hr5
   refine cond_some h (fun hg1_3 h => ?_) (fun hg1_3 h => ?_)
   ·obtain ⟨v1, hv1, h⟩ := bind_some h
    refine zg hn [_,_,(3,vs s),(4,vi (s.size : Int)),(5,vb (decide ((s.size : Int) ≤ 255))),(6,vb true),(7,vs s),(8,vb v1),(9,vb v1),(2,vb v1)] [0,1] [1,9] [zq [0] 2 3,zq [2] 3 4,zq [3] 4 5,zq [4] 5 6,zq [5,0] 6 7,zq [5,6,1] 7 8,zq [5,7] 8 9,zq [8] 9 2] [(_,_),(_,_)] rfl ⟨z1 rfl,zp rfl (oN underlying9 rfl),z4 rfl rfl,z8 hg1_3 rfl,zr' rfl (oM rfl),zr' rfl (op_callG _ _ 10 42 _ _ rfl call42 rfl rfl (fun _ h => h) (ok_path_dotted_of_path_label mx s _ hv1) rfl rfl),z3 true rfl,z2 rfl,zz⟩ ?_
    exact hl4 _ (Option.some.inj h).symm
   ·refine zg hn [_,_,(3,vs s),(4,vi (s.size : Int)),(5,vb (decide ((s.size : Int) ≤ 255))),(6,vb false),(7,.v undef),(8,.v undef),(9,vb false),(2,vb false)] [0,1] [1,9] [zq [0] 2 3,zq [2] 3 4,zq [3] 4 5,zq [4] 5 6,zq [5] 6 7,zq [5] 7 8,zq [5] 8 9,zq [8] 9 2] [(_,_),(_,_)] rfl ⟨z1 rfl,zp rfl (oN underlying9 rfl),z4 rfl rfl,z8 hg1_3 rfl,zt rfl,zt rfl,z3 false rfl,z2 rfl,zz⟩ ?_
    exact hl4 _ (Option.some.inj h).symm
theorem ok_strconv_Itoa (mx : Int) (n : Int) (r : ByteArray) (h : Sh.strconv_Itoa n = some r) : FnG Tryd.prog (GL mx) 30 [.v (.int .i64 n)] (.v (.string r)) := lib_strconv_Itoa (by kernel_rfl) (gl_mem1 mx) (by rfl) (fun n w h0 h1 ht => Tryd.strconv_Itoa n h0 h1 w ht) n r h
theorem ok_head_Stamp (mx : Int) (helo : ByteArray) (site : ByteArray) (at_ : Int) (r : ((List Int) × Int)) (h : Sh.head_Stamp helo site at_ = some r) : FnG Tryd.prog (GL mx) 12 [.v (.string helo), .v (.string site), .v (.int .i64 at_)] (.tup [.mkr 5 (List.map (Value.int .u8) r.1), .v (.int .i64 r.2)]) := by
  unfold Sh.head_Stamp at h
  refine fn_okG func12 rfl (zl rfl) rfl rfl fun g0 hn hio => ?_
  refine zgg hn [_,_,_,_,(6,.v (.slice none 0 0)),(7,vi 0)] [0,1,2,3] [0,1,2,3] [zq [] 4 6,zq [] 5 7] [(_,_),(_,_),(_,_),(_,_)] rfl ⟨z2 rfl,z2 rfl,zz⟩ ?_
  refine ht_seq ?_
  refine ht_seq ?_
  refine ht_joinS h (fun (s21 : Bool) => [(0, .v (.string helo)), (1, .v (.string site)), (2, .v (.int .i64 at_)), (33, .glob (GL mx)), (15, .v (.bool s21))]) ?_ ?_
  ·rintro s21 h
   refine pt_then ?_
   refine ht_cond _ rfl (fun hb25 => ?_) (fun hb25 => ?_)
   ·have h := cond_t hb25 h
    refine zgg hn [_,_,_,_,_,(6,.v (.slice none 0 0)),(7,vi 5)] [0,1,2,3,4] [3,5,6] [zq [] 5 6,zq [] 6 7] [(_,_),(_,_),(_,_)] rfl ⟨z2 rfl,z2 rfl,zz⟩ ?_
    refine ht_ret ?_
    refine pt_pick [1, 2] (by kernel_rfl) (es' := [(_,_),(_,_)]) rfl ?_
    refine pt_sub (fs := [(6, .mkr 5 (List.map (Value.int .u8) [])), (7, .v (.int .i64 5))]) (.sub _ (sub_nil_mk 5) rfl (.same _ .nil)) ?_
    refine pt_r_then ?_
    obtain rfl := Option.some.inj h
    exact pt_ret hio rfl (.tmp _ _ (.tmp _ _ .nil)) rfl rfl
   ·have h := cond_f hb25 h
    refine ht_skip ?_
    refine pt_then (ht_seq ?_)
    refine ht_seq ?_
    refine ht_joinS h (fun (s26 : Bool) => [(0, .v (.string helo)), (1, .v (.string site)), (2, .v (.int .i64 at_)), (33, .glob (GL mx)), (21, .v (.bool s26))]) ?_ ?_
    ·rintro s26 h
     refine pt_then ?_
     refine ht_cond _ rfl (fun hb30 => ?_) (fun hb30 => ?_)
     ·have h := cond_t hb30 h
      refine zgg hn [_,_,_,_,_,(6,.v (.slice none 0 0)),(7,vi 1)] [0,1,2,3,4] [3,5,6] [zq [] 5 6,zq [] 6 7] [(_,_),(_,_),(_,_)] rfl ⟨z2 rfl,z2 rfl,zz⟩ ?_
      refine ht_ret ?_
      refine pt_pick [1, 2] (by kernel_rfl) (es' := [(_,_),(_,_)]) rfl ?_
      refine pt_sub (fs := [(6, .mkr 5 (List.map (Value.int .u8) [])), (7, .v (.int .i64 1))]) (.sub _ (sub_nil_mk 5) rfl (.same _ .nil)) ?_
      refine pt_r_then ?_
      obtain rfl := Option.some.inj h
      exact pt_ret hio rfl (.tmp _ _ (.tmp _ _ .nil)) rfl rfl
     ·have h := cond_f hb30 h
      refine ht_skip ?_
      refine pt_then (ht_seq ?_)
      obtain ⟨v13, hv13, h⟩ := bind_some h
      obtain ⟨v14, hv14, h⟩ := bind_some h
      obtain ⟨v15, hv15, h⟩ := bind_some h
      obtain ⟨v16, hv16, h⟩ := bind_some h
      obtain ⟨v17, hv17, h⟩ := bind_some h
      obtain ⟨v18, hv18, h⟩ := bind_some h
      obtain ⟨v19, hv19, h⟩ := bind_some h
      obtain ⟨v20, hv20, h⟩ := bind_some h
      refine zg hn (_::_::_::_::_::(22,vs helo)::(23,vs v13)::(24,vs v14)::(25,vs site)::(26,vs v15)::(27,vs v16)::(28,vi at_)::(29,vs v17)::(30,vs v18)::(31,vs v19)::(32,.mkr 5 (List.map (Value.int .u8) v20))::(6,.mkr 5 (List.map (Value.int .u8) v20))::(7,vi 0)::[]) [0,1,2,3,4] [3,16,17] [zq [0] 5 22,zq [5] 6 23,zq [6] 7 24,zq [1] 8 25,zq [7,8] 9 26,zq [9] 10 27,zq [2] 11 28,zq [11,3] 12 29,zq [10,12] 13 30,zq [13] 14 31,zq [14] 15 32,⟨[],[15],[16],[(.slot 6)]⟩,zq [] 17 7] [(_,_),(_,_),(_,_)] rfl ⟨z1 rfl,zp rfl (oB rfl (cat_ok hv13)),zp rfl (oB rfl (cat_ok hv14)),z1 rfl,zp rfl (oB rfl (cat_ok hv15)),zp rfl (oB rfl (cat_ok hv16)),z1 rfl,zp rfl (op_callG _ _ 33 30 _ _ rfl call30 rfl rfl (fun _ h => h) (ok_strconv_Itoa mx at_ _ hv17) rfl rfl),zp rfl (oB rfl (cat_ok hv18)),zp rfl (oB rfl (cat_ok hv19)),zp rfl ((Option.some.inj hv20) ▸ op_str_mk _ _ _ v19 underlying9 underlying22 underlying5 rfl),zp rfl (op_assign_take _ _ _ _ rfl),z2 rfl,zz⟩ ?_
      refine pt_then (ht_ret ?_)
      refine pt_pick [1, 2] (by kernel_rfl) (es' := [(_,_),(_,_)]) rfl ?_
      obtain rfl := Option.some.inj h
      exact pt_ret hio rfl (.tmp _ _ (.tmp _ _ .nil)) rfl rfl
    ·intro u27 h hl28 hr29
     refine cond_some h (fun hg3_2 h => ?_) (fun hg3_2 h => ?_)
     ·refine zg hn [_,_,_,_,_,(16,vi at_),(17,vb (decide (at_ < 0))),(18,vb true),(19,.v undef),(20,.v undef),(21,vb true)] [0,1,2,3,4] [0,1,2,3,10] [zq [2] 5 16,zq [5] 6 17,zq [6] 7 18,zq [7] 8 19,zq [7] 9 20,zq [7] 10 21] [(_,_),(_,_),(_,_),(_,_),(_,_)] rfl ⟨z1 rfl,z4 rfl rfl,z8 hg3_2 rfl,zf rfl,zf rfl,z3 true rfl,zz⟩ ?_
      exact hl28 _ (Option.some.inj h).symm
     ·refine zg hn [_,_,_,_,_,(16,vi at_),(17,vb (decide (at_ < 0))),(18,vb false),(19,vi at_),(20,vb (decide (1099511627776 < at_))),(21,vb (decide (1099511627776 < at_)))] [0,1,2,3,4] [0,1,2,3,10] [zq [2] 5 16,zq [5] 6 17,zq [6] 7 18,zq [7,2] 8 19,zq [7,8] 9 20,zq [7,9] 10 21] [(_,_),(_,_),(_,_),(_,_),(_,_)] rfl ⟨z1 rfl,z4 rfl rfl,z8 hg3_2 rfl,zr' rfl (oM rfl),zr' rfl (oB rfl rfl),z3 false rfl,zz⟩ ?_
      exact hl28 _ (Option.some.inj h).symm
  ·intro u22 h hl23 hr24
   obtain ⟨v1, hv1, h⟩ := bind_some h
   refine cond_some h (fun hg1_3 h => ?_) (fun hg1_3 h => ?_)
   ·refine zg hn [_,_,_,_,(8,vs helo),(9,vb v1),(10,vb (!v1)),(11,vb true),(12,.v undef),(13,.v undef),(14,.v undef),(15,vb true)] [0,1,2,3] [0,1,2,3,11] [zq [0] 4 8,zq [4,3] 5 9,zq [5] 6 10,zq [6] 7 11,zq [7] 8 12,zq [7] 9 13,zq [7] 10 14,zq [7] 11 15] [(_,_),(_,_),(_,_),(_,_),(_,_)] rfl ⟨z1 rfl,zp rfl (op_callG _ _ 33 29 _ _ rfl call29 rfl rfl (fun _ h => h) (ok_path_Domain mx helo _ hv1) rfl rfl),zp rfl (op_un _ _ _ _ rfl rfl),z8 hg1_3 rfl,zf rfl,zf rfl,zf rfl,z3 true rfl,zz⟩ ?_
    exact hl23 _ (Option.some.inj h).symm
   ·obtain ⟨v2, hv2, h⟩ := bind_some h
    refine zg hn [_,_,_,_,(8,vs helo),(9,vb v1),(10,vb (!v1)),(11,vb false),(12,vs site),(13,vb v2),(14,vb (!v2)),(15,vb (!v2))] [0,1,2,3] [0,1,2,3,11] [zq [0] 4 8,zq [4,3] 5 9,zq [5] 6 10,zq [6] 7 11,zq [7,1] 8 12,zq [7,8,3] 9 13,zq [7,9] 10 14,zq [7,10] 11 15] [(_,_),(_,_),(_,_),(_,_),(_,_)] rfl ⟨z1 rfl,zp rfl (op_callG _ _ 33 29 _ _ rfl call29 rfl rfl (fun _ h => h) (ok_path_Domain mx helo _ hv1) rfl rfl),zp rfl (op_un _ _ _ _ rfl rfl),z8 hg1_3 rfl,zr' rfl (oM rfl),zr' rfl (op_callG _ _ 33 29 _ _ rfl call29 rfl rfl (fun _ h => h) (ok_path_Domain mx site _ hv2) rfl rfl),zr' rfl (op_un _ _ _ _ rfl rfl),z3 false rfl,zz⟩ ?_
    exact hl23 _ (Option.some.inj h).symm
theorem ok_head_Put (mx : Int) (b : (List Int)) (helo : ByteArray) (site : ByteArray) (at_ : Int) (r : ((List Int) × Int)) (h : Sh.head_Put b helo site at_ = some r) : FnG Tryd.prog (GL mx) 13 [.fl .shr 1 (List.map (Value.int .u8) b), .v (.string helo), .v (.string site), .v (.int .i64 at_)] (.tup [.mkr 5 (List.map (Value.int .u8) r.1), .v (.int .i64 r.2)]) := by
  unfold Sh.head_Put at h
  refine fn_okG func13 rfl (zl rfl) rfl rfl fun g0 hn hio => ?_
  refine zgg hn [_,_,_,_,_,(8,.v (.slice none 0 0)),(9,vi 0)] [0,1,2,3,4] [0,1,2,3,4] [zq [] 5 8,zq [] 6 9] [(_,_),(_,_),(_,_),(_,_),(_,_)] rfl ⟨z2 rfl,z2 rfl,zz⟩ ?_
  refine ht_seq ?_
  refine ht_seq ?_
  obtain ⟨v1, hv1, h⟩ := bind_some h
  refine zg hn [_,_,_,_,_,(13,.fl .shr 1 (List.map (Value.int .u8) b)),(14,vi v1),(10,vi v1)] [0,1,2,3,4] [0,1,2,3,4,7] [zq [0] 5 13,zq [5,4] 6 14,zq [6] 7 10] [(_,_),(_,_),(_,_),(_,_),(_,_),(_,_)] rfl ⟨z1 rfl,zp rfl (op_callG _ _ 31 24 _ _ rfl call24 rfl rfl (fun _ h => h) (ok_dots_Check mx b _ hv1) rfl rfl),z2 rfl,zz⟩ ?_
  refine pt_then ?_
  refine zgg hn [_,_,_,_,_,_,(15,vi v1),(16,vb (v1 != 0))] [0,1,2,3,4,5] [0,1,2,3,4,5,7] [zq [5] 6 15,zq [6] 7 16] [(_,_),(_,_),(_,_),(_,_),(_,_),(_,_),(_,_)] rfl ⟨z1 rfl,z4 rfl rfl,zz⟩ ?_
  refine ht_cond _ rfl (fun hb6 => ?_) (fun hb6 => ?_)
  ·have h := cond_t hb6 h
   refine zgg hn [_,_,_,_,_,_,_,(17,vi v1),(8,.v (.slice none 0 0)),(9,vi v1)] [0,1,2,3,4,5,6] [4,8,9] [zq [5] 7 17,zq [] 8 8,zq [7] 9 9] [(_,_),(_,_),(_,_)] rfl ⟨z1 rfl,z2 rfl,z2 rfl,zz⟩ ?_
   refine ht_ret ?_
   refine pt_pick [1, 2] (by kernel_rfl) (es' := [(_,_),(_,_)]) rfl ?_
   refine pt_sub (fs := [(8, .mkr 5 (List.map (Value.int .u8) [])), (9, .v (.int .i64 v1))]) (.sub _ (sub_nil_mk 5) rfl (.same _ .nil)) ?_
   refine pt_r_then ?_
   obtain rfl := Option.some.inj h
   exact pt_ret hio rfl (.tmp _ _ (.tmp _ _ .nil)) rfl rfl
  ·have h := cond_f hb6 h
   refine ht_skip ?_
   refine pt_then (ht_seq ?_)
   obtain ⟨v3, hv3, h⟩ := bind_some h
   refine zg hn (_::_::_::_::_::_::_::(19,vs helo)::(20,vs site)::(21,vi at_)::(22,.tup [.mkr 5 (List.map (Value.int .u8) v3.1),vi v3.2])::(18,.tup [.mkr 5 (List.map (Value.int .u8) v3.1),vi v3.2])::(23,.mkr 5 (List.map (Value.int .u8) v3.1))::(18,.tup [.any,vi v3.2])::(24,vi v3.2)::(11,.mkr 5 (List.map (Value.int .u8) v3.1))::(12,vi v3.2)::[]) [0,1,2,3,4,5,6] [0,4,15,16] [zq [1] 7 19,zq [2] 8 20,zq [3] 9 21,zq [7,8,9,4] 10 22,⟨[],[10],[11],[(.slot 18)]⟩,⟨[],[11],[13,12],[(.slot 23)]⟩,zq [13] 14 24,⟨[],[12],[15],[(.slot 11)]⟩,zq [14] 16 12] [(_,_),(_,_),(_,_),(_,_)] rfl ⟨z1 rfl,z1 rfl,z1 rfl,zp rfl (op_callG _ _ 31 12 _ _ rfl call12 rfl rfl (fun _ h => h) (ok_head_Stamp mx helo site at_ _ hv3) rfl rfl),zp rfl (op_move_take _ _ _ _ rfl),zp rfl (op_extract_take _ _ _ _ _ rfl (zl rfl) rfl rfl (by decide) rfl),zp rfl (oE rfl),zp rfl (op_assign_take _ _ _ _ rfl),z2 rfl,zz⟩ ?_
   refine pt_then (ht_seq ?_)
   refine zgg hn [_,_,_,_,(25,vi v3.2),(26,vb (v3.2 != 0))] [0,1,2,3] [0,1,2,3,5] [zq [3] 4 25,zq [4] 5 26] [(_,_),(_,_),(_,_),(_,_),(_,_)] rfl ⟨z1 rfl,z4 rfl rfl,zz⟩ ?_
   refine ht_cond _ rfl (fun hb7 => ?_) (fun hb7 => ?_)
   ·have h := cond_t hb7 h
    refine zgg hn [_,_,_,_,_,(27,vi v3.2),(8,.v (.slice none 0 0)),(9,vi v3.2)] [0,1,2,3,4] [1,6,7] [zq [3] 5 27,zq [] 6 8,zq [5] 7 9] [(_,_),(_,_),(_,_)] rfl ⟨z1 rfl,z2 rfl,z2 rfl,zz⟩ ?_
    refine ht_ret ?_
    refine pt_pick [1, 2] (by kernel_rfl) (es' := [(_,_),(_,_)]) rfl ?_
    refine pt_sub (fs := [(8, .mkr 5 (List.map (Value.int .u8) [])), (9, .v (.int .i64 v3.2))]) (.sub _ (sub_nil_mk 5) rfl (.same _ .nil)) ?_
    refine pt_r_then ?_
    obtain rfl := Option.some.inj h
    exact pt_ret hio rfl (.tmp _ _ (.tmp _ _ .nil)) rfl rfl
   ·have h := cond_f hb7 h
    refine ht_skip ?_
    refine pt_then (ht_seq ?_)
    obtain ⟨v5, hv5, h⟩ := bind_some h
    refine zg hn [_,_,_,_,_,(28,.mkr 5 (List.map (Value.int .u8) v3.1)),(29,.fl .shr 1 (List.map (Value.int .u8) b)),(30,.mkr 5 (List.map (Value.int .u8) v5)),(28,.any),(8,.mkr 5 (List.map (Value.int .u8) v5)),(9,vi 0)] [0,1,2,3,4] [1,9,10] [⟨[],[2],[5],[(.slot 28)]⟩,zq [0] 6 29,⟨[6],[5],[8,7],[(.slot 30)]⟩,⟨[],[7],[9],[(.slot 8)]⟩,zq [] 10 9] [(_,_),(_,_),(_,_)] rfl ⟨zp rfl (op_move_take _ _ _ _ rfl),z1 rfl,zp rfl (op_app_mk _ _ _ _ _ el22 rfl rfl rfl rfl hv5 rfl),zp rfl (op_assign_take _ _ _ _ rfl),z2 rfl,zz⟩ ?_
    refine pt_then (ht_ret ?_)
    refine pt_pick [1, 2] (by kernel_rfl) (es' := [(_,_),(_,_)]) rfl ?_
    obtain rfl := Option.some.inj h
    exact pt_ret hio rfl (.tmp _ _ (.tmp _ _ .nil)) rfl rfl
theorem ok_wherryref11_in (n : Int) (lo : Int) (hi : Int) (r : Bool) (h : Sh.wherryref11_in n lo hi = some r) : FnOK Tryd.prog 31 [.v (.int .i64 n), .v (.int .i64 lo), .v (.int .i64 hi)] (.v (.bool r)) := by
  unfold Sh.wherryref11_in at h
  refine fn_ok func31 rfl (zl rfl) rfl rfl fun g0 hn hio => ?_
  refine zgg hn [_,_,_,(6,vb false)] [0,1,2] [0,1,2] [zq [] 3 6] [(_,_),(_,_),(_,_)] rfl ⟨z2 rfl,zz⟩ ?_
  refine ht_seq ?_
  refine ht_joinS h (fun (s1 : Bool) => [(6, .v (.bool s1))]) ?_ ?_
  ·rintro s1 h
   refine pt_then (ht_ret ?_)
   obtain rfl := Option.some.inj h
   exact pt_ret hio rfl (.tmp _ _ .nil) rfl rfl
  ·intro u2 h hl3 hr4
   refine cond_some h (fun hg1_3 h => ?_) (fun hg1_3 h => ?_)
   ·refine zg hn [_,_,_,(7,vi n),(8,vi lo),(9,vb (decide (lo ≤ n))),(10,vb true),(11,vi n),(12,vi hi),(13,vb (decide (n ≤ hi))),(14,vb (decide (n ≤ hi))),(6,vb (decide (n ≤ hi)))] [0,1,2] [11] [zq [0] 3 7,zq [1] 4 8,zq [3,4] 5 9,zq [5] 6 10,zq [6,0] 7 11,zq [6,2] 8 12,zq [6,7,8] 9 13,zq [6,9] 10 14,zq [10] 11 6] [(_,_)] rfl ⟨z1 rfl,z1 rfl,z4 rfl rfl,z8 hg1_3 rfl,zr' rfl (oM rfl),zr' rfl (oM rfl),zr' rfl (oB rfl rfl),z3 true rfl,z2 rfl,zz⟩ ?_
    exact hl3 _ (Option.some.inj h).symm
   ·refine zg hn [_,_,_,(7,vi n),(8,vi lo),(9,vb (decide (lo ≤ n))),(10,vb false),(11,.v undef),(12,.v undef),(13,.v undef),(14,vb false),(6,vb false)] [0,1,2] [11] [zq [0] 3 7,zq [1] 4 8,zq [3,4] 5 9,zq [5] 6 10,zq [6] 7 11,zq [6] 8 12,zq [6] 9 13,zq [6] 10 14,zq [10] 11 6] [(_,_)] rfl ⟨z1 rfl,z1 rfl,z4 rfl rfl,z8 hg1_3 rfl,zt rfl,zt rfl,zt rfl,z3 false rfl,z2 rfl,zz⟩ ?_
    exact hl3 _ (Option.some.inj h).symm
theorem ok_wherryref11_letter (c : Int) (r : Bool) (h : Sh.wherryref11_letter c = some r) : FnOK Tryd.prog 32 [.v (.int .u8 c)] (.v (.bool r)) := by
  unfold Sh.wherryref11_letter at h
  refine fn_ok func32 rfl (zl rfl) rfl rfl fun g0 hn hio => ?_
  refine zgg hn [_,(2,vb false)] [0] [0] [zq [] 1 2] [(_,_)] rfl ⟨z2 rfl,zz⟩ ?_
  refine ht_seq ?_
  refine ht_joinS h (fun (s1 : Bool) => [(2, .v (.bool s1))]) ?_ ?_
  ·rintro s1 h
   refine pt_then (ht_ret ?_)
   obtain rfl := Option.some.inj h
   exact pt_ret hio rfl (.tmp _ _ .nil) rfl rfl
  ·intro u2 h hl3 hr4
   refine cond_some h (fun hg1_2 h => ?_) (fun hg1_2 h => ?_)
   ·refine cond_some h (fun hg1_6 h => ?_) (fun hg1_6 h => ?_)
    ·refine zg hn (_::(3,.v (.int .u8 c))::(4,vb (decide (97 ≤ c)))::(5,vb true)::(6,.v (.int .u8 c))::(7,vb (decide (c ≤ 122)))::(8,vb (decide (c ≤ 122)))::(9,vb true)::(10,.v undef)::(11,.v undef)::(12,.v undef)::(13,.v undef)::(14,.v undef)::(15,.v undef)::(16,vb true)::(2,vb true)::[]) [0] [15] (zq [0] 1 3::zq [1] 2 4::zq [2] 3 5::zq [3,0] 4 6::zq [3,4] 5 7::zq [3,5] 6 8::zq [6] 7 9::zq [7] 8 10::zq [7] 9 11::zq [7] 10 12::zq [10] 11 13::zq [10] 12 14::zq [7] 13 15::zq [7] 14 16::zq [14] 15 2::[]) [(_,_)] rfl ⟨z1 rfl,z4 rfl rfl,z8 hg1_2 rfl,zr' rfl (oM rfl),zr' rfl (oB rfl rfl),z3 true rfl,z8 hg1_6 rfl,zf rfl,zf rfl,zf rfl,zu' rfl,zu' rfl,zf rfl,z3 true rfl,z2 rfl,zz⟩ ?_
     exact hl3 _ (Option.some.inj h).symm
    ·refine cond_some h (fun hg1_9 h => ?_) (fun hg1_9 h => ?_)
     ·refine zg hn (_::(3,.v (.int .u8 c))::(4,vb (decide (97 ≤ c)))::(5,vb true)::(6,.v (.int .u8 c))::(7,vb (decide (c ≤ 122)))::(8,vb (decide (c ≤ 122)))::(9,vb false)::(10,.v (.int .u8 c))::(11,vb (decide (65 ≤ c)))::(12,vb true)::(13,.v (.int .u8 c))::(14,vb (decide (c ≤ 90)))::(15,vb (decide (c ≤ 90)))::(16,vb (decide (c ≤ 90)))::(2,vb (decide (c ≤ 90)))::[]) [0] [15] (zq [0] 1 3::zq [1] 2 4::zq [2] 3 5::zq [3,0] 4 6::zq [3,4] 5 7::zq [3,5] 6 8::zq [6] 7 9::zq [7,0] 8 10::zq [7,8] 9 11::zq [7,9] 10 12::zq [10,0] 11 13::zq [10,11] 12 14::zq [7,10,12] 13 15::zq [7,13] 14 16::zq [14] 15 2::[]) [(_,_)] rfl ⟨z1 rfl,z4 rfl rfl,z8 hg1_2 rfl,zr' rfl (oM rfl),zr' rfl (oB rfl rfl),z3 true rfl,z8 hg1_6 rfl,zr' rfl (oM rfl),zr' rfl (oB rfl rfl),zr' rfl (op_move _ _ _ _ (zb hg1_9) rfl),zr' rfl (oM rfl),zr' rfl (oB rfl rfl),zr' rfl (op_pick _ _ true _ rfl rfl),z3 false rfl,z2 rfl,zz⟩ ?_
      exact hl3 _ (Option.some.inj h).symm
     ·refine zg hn (_::(3,.v (.int .u8 c))::(4,vb (decide (97 ≤ c)))::(5,vb true)::(6,.v (.int .u8 c))::(7,vb (decide (c ≤ 122)))::(8,vb (decide (c ≤ 122)))::(9,vb false)::(10,.v (.int .u8 c))::(11,vb (decide (65 ≤ c)))::(12,vb false)::(13,.v undef)::(14,.v undef)::(15,vb false)::(16,vb false)::(2,vb false)::[]) [0] [15] (zq [0] 1 3::zq [1] 2 4::zq [2] 3 5::zq [3,0] 4 6::zq [3,4] 5 7::zq [3,5] 6 8::zq [6] 7 9::zq [7,0] 8 10::zq [7,8] 9 11::zq [7,9] 10 12::zq [10] 11 13::zq [10] 12 14::zq [7,10] 13 15::zq [7,13] 14 16::zq [14] 15 2::[]) [(_,_)] rfl ⟨z1 rfl,z4 rfl rfl,z8 hg1_2 rfl,zr' rfl (oM rfl),zr' rfl (oB rfl rfl),z3 true rfl,z8 hg1_6 rfl,zr' rfl (oM rfl),zr' rfl (oB rfl rfl),zr' rfl (op_move _ _ _ _ (zb hg1_9) rfl),zt rfl,zt rfl,zr' rfl (op_pick _ _ false _ rfl rfl),z3 false rfl,z2 rfl,zz⟩ ?_
      exact hl3 _ (Option.some.inj h).symm
   ·refine cond_some h (fun hg1_9 h => ?_) (fun hg1_9 h => ?_)
    ·refine zg hn (_::(3,.v (.int .u8 c))::(4,vb (decide (97 ≤ c)))::(5,vb false)::(6,.v undef)::(7,.v undef)::(8,vb false)::(9,vb false)::(10,.v (.int .u8 c))::(11,vb (decide (65 ≤ c)))::(12,vb true)::(13,.v (.int .u8 c))::(14,vb (decide (c ≤ 90)))::(15,vb (decide (c ≤ 90)))::(16,vb (decide (c ≤ 90)))::(2,vb (decide (c ≤ 90)))::[]) [0] [15] (zq [0] 1 3::zq [1] 2 4::zq [2] 3 5::zq [3] 4 6::zq [3] 5 7::zq [3] 6 8::zq [6] 7 9::zq [7,0] 8 10::zq [7,8] 9 11::zq [7,9] 10 12::zq [10,0] 11 13::zq [10,11] 12 14::zq [7,10,12] 13 15::zq [7,13] 14 16::zq [14] 15 2::[]) [(_,_)] rfl ⟨z1 rfl,z4 rfl rfl,z8 hg1_2 rfl,zt rfl,zt rfl,z3 false rfl,z1 rfl,zr' rfl (oM rfl),zr' rfl (oB rfl rfl),zr' rfl (op_move _ _ _ _ (zb hg1_9) rfl),zr' rfl (oM rfl),zr' rfl (oB rfl rfl),zr' rfl (op_pick _ _ true _ rfl rfl),z3 false rfl,z2 rfl,zz⟩ ?_
     exact hl3 _ (Option.some.inj h).symm
    ·refine zg hn (_::(3,.v (.int .u8 c))::(4,vb (decide (97 ≤ c)))::(5,vb false)::(6,.v undef)::(7,.v undef)::(8,vb false)::(9,vb false)::(10,.v (.int .u8 c))::(11,vb (decide (65 ≤ c)))::(12,vb false)::(13,.v undef)::(14,.v undef)::(15,vb false)::(16,vb false)::(2,vb false)::[]) [0] [15] (zq [0] 1 3::zq [1] 2 4::zq [2] 3 5::zq [3] 4 6::zq [3] 5 7::zq [3] 6 8::zq [6] 7 9::zq [7,0] 8 10::zq [7,8] 9 11::zq [7,9] 10 12::zq [10] 11 13::zq [10] 12 14::zq [7,10] 13 15::zq [7,13] 14 16::zq [14] 15 2::[]) [(_,_)] rfl ⟨z1 rfl,z4 rfl rfl,z8 hg1_2 rfl,zt rfl,zt rfl,z3 false rfl,z1 rfl,zr' rfl (oM rfl),zr' rfl (oB rfl rfl),zr' rfl (op_move _ _ _ _ (zb hg1_9) rfl),zt rfl,zt rfl,zr' rfl (op_pick _ _ false _ rfl rfl),z3 false rfl,z2 rfl,zz⟩ ?_
     exact hl3 _ (Option.some.inj h).symm
theorem ok_wherryref11_digit (c : Int) (r : Bool) (h : Sh.wherryref11_digit c = some r) : FnOK Tryd.prog 33 [.v (.int .u8 c)] (.v (.bool r)) := by
  unfold Sh.wherryref11_digit at h
  refine fn_ok func33 rfl (zl rfl) rfl rfl fun g0 hn hio => ?_
  refine zgg hn [_,(2,vb false)] [0] [0] [zq [] 1 2] [(_,_)] rfl ⟨z2 rfl,zz⟩ ?_
  refine ht_seq ?_
  refine ht_joinS h (fun (s1 : Bool) => [(2, .v (.bool s1))]) ?_ ?_
  ·rintro s1 h
   refine pt_then (ht_ret ?_)
   obtain rfl := Option.some.inj h
   exact pt_ret hio rfl (.tmp _ _ .nil) rfl rfl
  ·intro u2 h hl3 hr4
   refine cond_some h (fun hg1_2 h => ?_) (fun hg1_2 h => ?_)
   ·refine zg hn [_,(3,.v (.int .u8 c)),(4,vb (decide (48 ≤ c))),(5,vb true),(6,.v (.int .u8 c)),(7,vb (decide (c ≤ 57))),(8,vb (decide (c ≤ 57))),(2,vb (decide (c ≤ 57)))] [0] [7] [zq [0] 1 3,zq [1] 2 4,zq [2] 3 5,zq [3,0] 4 6,zq [3,4] 5 7,zq [3,5] 6 8,zq [6] 7 2] [(_,_)] rfl ⟨z1 rfl,z4 rfl rfl,z8 hg1_2 rfl,zr' rfl (oM rfl),zr' rfl (oB rfl rfl),z3 true rfl,z2 rfl,zz⟩ ?_
    exact hl3 _ (Option.some.inj h).symm
   ·refine zg hn [_,(3,.v (.int .u8 c)),(4,vb (decide (48 ≤ c))),(5,vb false),(6,.v undef),(7,.v undef),(8,vb false),(2,vb false)] [0] [7] [zq [0] 1 3,zq [1] 2 4,zq [2] 3 5,zq [3] 4 6,zq [3] 5 7,zq [3] 6 8,zq [6] 7 2] [(_,_)] rfl ⟨z1 rfl,z4 rfl rfl,z8 hg1_2 rfl,zt rfl,zt rfl,z3 false rfl,z2 rfl,zz⟩ ?_
    exact hl3 _ (Option.some.inj h).symm
theorem ok_wherryref11_Domain (s : ByteArray) (r : Bool) (h : Sh.wherryref11_Domain s = some r) : FnOK Tryd.prog 14 [.v (.string s)] (.v (.bool r)) := by
  unfold Sh.wherryref11_Domain at h
  refine fn_ok func14 rfl (zl rfl) rfl rfl fun g0 hn hio => ?_
  refine zgg hn [_,(2,vb false)] [0] [0] [zq [] 1 2] [(_,_)] rfl ⟨z2 rfl,zz⟩ ?_
  refine ht_seq ?_
  refine ht_seq ?_
  obtain ⟨v1, hv1, h⟩ := bind_some h
  refine zg hn [_,(5,vs s),(6,vi (s.size : Int)),(7,vb v1),(8,vb (!v1))] [0] [0,4] [zq [0] 1 5,zq [1] 2 6,zq [2] 3 7,zq [3] 4 8] [(_,_),(_,_)] rfl ⟨z1 rfl,zp rfl (oN underlying9 rfl),zp rfl (op_call _ _ 31 _ _ rfl call31 rfl (ok_wherryref11_in (s.size : Int) 1 255 _ hv1) rfl rfl),zp rfl (op_un _ _ _ _ rfl rfl),zz⟩ ?_
  refine pt_then ?_
  refine ht_cond _ rfl (fun hb2 => ?_) (fun hb2 => ?_)
  ·have h := cond_t hb2 h
   refine zgg hn [_,_,(2,vb false)] [0,1] [2] [zq [] 2 2] [(_,_)] rfl ⟨z2 rfl,zz⟩ ?_
   refine ht_ret ?_
   refine pt_r_then ?_
   obtain rfl := Option.some.inj h
   exact pt_ret hio rfl (.tmp _ _ .nil) rfl rfl
  ·have h := cond_f hb2 h
   refine ht_skip ?_
   refine pt_then ?_
   refine zgg hn [_,_,(3,vi 0)] [0,1] [0,2] [zq [] 2 3] [(_,_),(_,_)] rfl ⟨z2 rfl,zz⟩ ?_
   refine ht_seq ?_
   refine zgg hn [_,_,(4,vi 0)] [0,1] [0,1,2] [zq [] 2 4] [(_,_),(_,_),(_,_)] rfl ⟨z2 rfl,zz⟩ ?_
   refine ht_loopS h (fun ((s88, s89) : Int × Int) => [(0, .v (.string s)), (3, .v (.int .i64 s88)), (4, .v (.int .i64 s89))]) (fun (() : Unit) => []) ?_ ?_
   ·rintro ⟨⟩ h
    refine pt_then ?_
    refine zgg hn [(2,vb true)] [] [0] [zq [] 0 2] [(_,_)] rfl ⟨z2 rfl,zz⟩ ?_
    refine ht_ret ?_
    obtain rfl := Option.some.inj h
    exact pt_ret hio rfl (.tmp _ _ .nil) rfl rfl
   ·rintro u125 hl126 hr127 ⟨s88, s89⟩ rr130 h ho128
    refine ht_seq ?_
    refine zgg hn [_,_,_,(9,vi s89),(10,vs s),(11,vi (s.size : Int)),(12,vb (decide (s89 ≤ (s.size : Int))))] [0,1,2] [0,1,2,6] [zq [2] 3 9,zq [0] 4 10,zq [4] 5 11,zq [3,5] 6 12] [(_,_),(_,_),(_,_),(_,_)] rfl ⟨z1 rfl,z1 rfl,zp rfl (oN underlying9 rfl),z4 rfl rfl,zz⟩ ?_
    refine ht_cond _ rfl (fun hb131 => ?_) (fun hb131 => ?_)
    ·have h := cond_t hb131 h
     refine ht_skip ?_
     refine pt_then (ht_seq ?_)
     refine ht_joinS h (fun (s147 : Int) => [(0, .v (.string s)), (3, .v (.int .i64 s147)), (4, .v (.int .i64 s89))]) ?_ ?_
     ·rintro s147 h
      refine pt_then ?_
      obtain ⟨v50, hv50, h⟩ := bind_some h
      refine zg hn [_,_,_,(13,vi s89),(14,vi v50),(4,vi v50)] [0,1,2] [0,1,5] [zq [2] 3 13,zq [3] 4 14,⟨[4],[2],[5],[(.slot 4)]⟩] [(_,_),(_,_),(_,_)] rfl ⟨z1 rfl,zp rfl (oB rfl (ibind (f := Value.int .i64) (Option.some.inj hv50))),zp rfl (LOp.drop [_] (op_assign _ _ _ _ rfl rfl)),zz⟩ ?_
      exact pt_next _ (Option.some.inj h).symm rfl
     ·intro u148 h hl149 hr150
      refine ht_block ?_
      refine ht_seq ?_
      refine ht_seq ?_
      refine ht_joinS h (fun (s151 : Bool) => [(0, .v (.string s)), (3, .v (.int .i64 s88)), (4, .v (.int .i64 s89)), (24, .v (.bool s151))]) ?_ ?_
      ·rintro s151 h
       refine pt_then ?_
       refine ht_cond _ rfl (fun hb155 => ?_) (fun hb155 => ?_)
       ·have h := cond_t hb155 h
        refine ht_seq ?_
        refine ht_seq ?_
        refine ht_joinS h (fun (s156 : Bool) => [(0, .v (.string s)), (3, .v (.int .i64 s88)), (4, .v (.int .i64 s89)), (42, .v (.bool s156))]) ?_ ?_
        ·rintro s156 h
         refine pt_then ?_
         refine ht_cond _ rfl (fun hb160 => ?_) (fun hb160 => ?_)
         ·have h := cond_t hb160 h
          refine zgg hn [_,_,_,_,(2,vb false)] [0,1,2,3] [4] [zq [] 4 2] [(_,_)] rfl ⟨z2 rfl,zz⟩ ?_
          refine ht_ret ?_
          refine pt_r_then ?_
          refine pt_r_then ?_
          refine pt_r_in ?_
          refine pt_r_then ?_
          refine pt_r_then ?_
          refine pt_r_in ?_
          refine pt_r_then ?_
          have h := hr150 _ (Option.some.inj h).symm
          have h := hr127 _ (ho128 _ (Option.some.inj h).symm).symm
          obtain rfl := Option.some.inj h
          exact pt_ret hio rfl (.tmp _ _ .nil) rfl rfl
         ·have h := cond_f hb160 h
          refine ht_skip ?_
          refine pt_then ?_
          refine ht_exit ?_
          refine pt_x_then ?_
          refine pt_x_in ?_
          refine pt_pick [0, 1, 2] (by kernel_rfl) (es' := [(_,_),(_,_),(_,_)]) rfl ?_
          exact hl149 _ (Option.some.inj h).symm
        ·intro u157 h hl158 hr159
         obtain ⟨v10, hv10, h⟩ := bind_some h
         obtain ⟨v11, hv11, h⟩ := bind_some h
         refine cond_some h (fun hg8_5 h => ?_) (fun hg8_5 h => ?_)
         ·obtain ⟨v12, hv12, h⟩ := bind_some h
          obtain ⟨v13, hv13, h⟩ := bind_some h
          refine cond_some h (fun hg8_12 h => ?_) (fun hg8_12 h => ?_)
          ·obtain ⟨v14, hv14, h⟩ := bind_some h
           refine zg hn (_::_::_::_::(25,vs s)::(26,vi s89)::(27,.v (.int .u8 v10))::(28,vb v11)::(29,vb (!v11))::(30,vb true)::(31,vs s)::(32,vi s89)::(33,.v (.int .u8 v12))::(34,vb v13)::(35,vb (!v13))::(36,vb (!v13))::(37,vb true)::(38,vs s)::(39,vi s89)::(40,.v (.int .u8 v14))::(41,vb (v14 != 45))::(42,vb (v14 != 45))::[]) [0,1,2,3] [0,1,2,21] (zq [0] 4 25::zq [2] 5 26::zq [4,5] 6 27::zq [6] 7 28::zq [7] 8 29::zq [8] 9 30::zq [9,0] 10 31::zq [9,2] 11 32::zq [9,10,11] 12 33::zq [9,12] 13 34::zq [9,13] 14 35::zq [9,14] 15 36::zq [15] 16 37::zq [16,0] 17 38::zq [16,2] 18 39::zq [16,17,18] 19 40::zq [16,19] 20 41::zq [16,20] 21 42::[]) [(_,_),(_,_),(_,_),(_,_)] rfl ⟨z1 rfl,z1 rfl,zp rfl (op_chr _ _ _ s89 _ underlying9 rfl rfl hv10),zp rfl (op_call _ _ 32 _ _ rfl call32 rfl (ok_wherryref11_letter v10 _ hv11) rfl rfl),zp rfl (op_un _ _ _ _ rfl rfl),z8 hg8_5 rfl,zr' rfl (oM rfl),zr' rfl (oM rfl),zr' rfl (op_chr _ _ _ s89 _ underlying9 rfl rfl hv12),zr' rfl (op_call _ _ 33 _ _ rfl call33 rfl (ok_wherryref11_digit v12 _ hv13) rfl rfl),zr' rfl (op_un _ _ _ _ rfl rfl),z3 true rfl,z8 hg8_12 rfl,zr' rfl (oM rfl),zr' rfl (oM rfl),zr' rfl (op_chr _ _ _ s89 _ underlying9 rfl rfl hv14),zr' rfl (oB rfl rfl),z3 true rfl,zz⟩ ?_
           exact hl158 _ (Option.some.inj h).symm
          ·refine zg hn (_::_::_::_::(25,vs s)::(26,vi s89)::(27,.v (.int .u8 v10))::(28,vb v11)::(29,vb (!v11))::(30,vb true)::(31,vs s)::(32,vi s89)::(33,.v (.int .u8 v12))::(34,vb v13)::(35,vb (!v13))::(36,vb (!v13))::(37,vb false)::(38,.v undef)::(39,.v undef)::(40,.v undef)::(41,.v undef)::(42,vb false)::[]) [0,1,2,3] [0,1,2,21] (zq [0] 4 25::zq [2] 5 26::zq [4,5] 6 27::zq [6] 7 28::zq [7] 8 29::zq [8] 9 30::zq [9,0] 10 31::zq [9,2] 11 32::zq [9,10,11] 12 33::zq [9,12] 13 34::zq [9,13] 14 35::zq [9,14] 15 36::zq [15] 16 37::zq [16] 17 38::zq [16] 18 39::zq [16] 19 40::zq [16] 20 41::zq [16] 21 42::[]) [(_,_),(_,_),(_,_),(_,_)] rfl ⟨z1 rfl,z1 rfl,zp rfl (op_chr _ _ _ s89 _ underlying9 rfl rfl hv10),zp rfl (op_call _ _ 32 _ _ rfl call32 rfl (ok_wherryref11_letter v10 _ hv11) rfl rfl),zp rfl (op_un _ _ _ _ rfl rfl),z8 hg8_5 rfl,zr' rfl (oM rfl),zr' rfl (oM rfl),zr' rfl (op_chr _ _ _ s89 _ underlying9 rfl rfl hv12),zr' rfl (op_call _ _ 33 _ _ rfl call33 rfl (ok_wherryref11_digit v12 _ hv13) rfl rfl),zr' rfl (op_un _ _ _ _ rfl rfl),z3 true rfl,z8 hg8_12 rfl,zt rfl,zt rfl,zt rfl,zt rfl,z3 false rfl,zz⟩ ?_
           exact hl158 _ (Option.some.inj h).symm
         ·refine zg hn (_::_::_::_::(25,vs s)::(26,vi s89)::(27,.v (.int .u8 v10))::(28,vb v11)::(29,vb (!v11))::(30,vb false)::(31,.v undef)::(32,.v undef)::(33,.v undef)::(34,.v undef)::(35,.v undef)::(36,vb false)::(37,vb false)::(38,.v undef)::(39,.v undef)::(40,.v undef)::(41,.v undef)::(42,vb false)::[]) [0,1,2,3] [0,1,2,21] (zq [0] 4 25::zq [2] 5 26::zq [4,5] 6 27::zq [6] 7 28::zq [7] 8 29::zq [8] 9 30::zq [9] 10 31::zq [9] 11 32::zq [9] 12 33::zq [9] 13 34::zq [9] 14 35::zq [9] 15 36::zq [15] 16 37::zq [16] 17 38::zq [16] 18 39::zq [16] 19 40::zq [16] 20 41::zq [16] 21 42::[]) [(_,_),(_,_),(_,_),(_,_)] rfl ⟨z1 rfl,z1 rfl,zp rfl (op_chr _ _ _ s89 _ underlying9 rfl rfl hv10),zp rfl (op_call _ _ 32 _ _ rfl call32 rfl (ok_wherryref11_letter v10 _ hv11) rfl rfl),zp rfl (op_un _ _ _ _ rfl rfl),z8 hg8_5 rfl,zt rfl,zt rfl,zt rfl,zt rfl,zt rfl,z3 false rfl,z1 rfl,zt rfl,zt rfl,zt rfl,zt rfl,z3 false rfl,zz⟩ ?_
          exact hl158 _ (Option.some.inj h).symm
       ·have h := cond_f hb155 h
        refine ht_skip ?_
        refine pt_then (ht_seq ?_)
        refine ht_seq ?_
        refine ht_joinS h (fun (s161 : Bool) => [(0, .v (.string s)), (4, .v (.int .i64 s89)), (60, .v (.bool s161))]) ?_ ?_
        ·rintro s161 h
         refine pt_then ?_
         refine ht_cond _ rfl (fun hb165 => ?_) (fun hb165 => ?_)
         ·have h := cond_t hb165 h
          refine zgg hn [_,_,_,(2,vb false)] [0,1,2] [3] [zq [] 3 2] [(_,_)] rfl ⟨z2 rfl,zz⟩ ?_
          refine ht_ret ?_
          refine pt_r_then ?_
          refine pt_r_in ?_
          refine pt_r_then ?_
          refine pt_r_then ?_
          refine pt_r_in ?_
          refine pt_r_then ?_
          have h := hr150 _ (Option.some.inj h).symm
          have h := hr127 _ (ho128 _ (Option.some.inj h).symm).symm
          obtain rfl := Option.some.inj h
          exact pt_ret hio rfl (.tmp _ _ .nil) rfl rfl
         ·have h := cond_f hb165 h
          refine ht_skip ?_
          refine pt_then ?_
          obtain ⟨v30, hv30, h⟩ := bind_some h
          refine zg hn [_,_,_,(61,vi s89),(62,vi v30),(3,vi v30)] [0,1,2] [0,1,5] [zq [1] 3 61,zq [3] 4 62,zq [4] 5 3] [(_,_),(_,_),(_,_)] rfl ⟨z1 rfl,zp rfl (oB rfl (ibind (f := Value.int .i64) (Option.some.inj hv30))),z2 rfl,zz⟩ ?_
          refine pt_inb ?_
          refine pt_pick [0, 2, 1] (by kernel_rfl) (es' := [(_,_),(_,_),(_,_)]) rfl ?_
          exact hl149 _ (Option.some.inj h).symm
        ·intro u162 h hl163 hr164
         obtain ⟨v20, hv20, h⟩ := bind_some h
         obtain ⟨v21, hv21, h⟩ := bind_some h
         refine cond_some h (fun hg10_5 h => ?_) (fun hg10_5 h => ?_)
         ·refine zg hn (_::_::_::_::(43,vi s89)::(44,vi s88)::(45,vi v20)::(46,vb v21)::(47,vb (!v21))::(48,vb true)::(49,.v undef)::(50,.v undef)::(51,.v undef)::(52,.v undef)::(53,vb true)::(54,vb true)::(55,.v undef)::(56,.v undef)::(57,.v undef)::(58,.v undef)::(59,.v undef)::(60,vb true)::[]) [0,1,2,3] [0,2,21] (zq [2] 4 43::zq [1] 5 44::zq [4,5] 6 45::zq [6] 7 46::zq [7] 8 47::zq [8] 9 48::zq [9] 10 49::zq [9] 11 50::zq [9] 12 51::zq [9] 13 52::zq [9] 14 53::zq [14] 15 54::zq [15] 16 55::zq [15] 17 56::zq [15] 18 57::zq [15] 19 58::zq [15] 20 59::zq [15] 21 60::[]) [(_,_),(_,_),(_,_)] rfl ⟨z1 rfl,z1 rfl,zp rfl (oB rfl (ibind (f := Value.int .i64) (Option.some.inj hv20))),zp rfl (op_call _ _ 31 _ _ rfl call31 rfl (ok_wherryref11_in v20 1 63 _ hv21) rfl rfl),zp rfl (op_un _ _ _ _ rfl rfl),z8 hg10_5 rfl,zf rfl,zf rfl,zf rfl,zf rfl,z3 true rfl,z1 rfl,zf rfl,zf rfl,zf rfl,zf rfl,zf rfl,z3 true rfl,zz⟩ ?_
          exact hl163 _ (Option.some.inj h).symm
         ·obtain ⟨v22, hv22, h⟩ := bind_some h
          refine cond_some h (fun hg10_11 h => ?_) (fun hg10_11 h => ?_)
          ·refine zg hn (_::_::_::_::(43,vi s89)::(44,vi s88)::(45,vi v20)::(46,vb v21)::(47,vb (!v21))::(48,vb false)::(49,vs s)::(50,vi s88)::(51,.v (.int .u8 v22))::(52,vb (v22 == 45))::(53,vb (v22 == 45))::(54,vb true)::(55,.v undef)::(56,.v undef)::(57,.v undef)::(58,.v undef)::(59,.v undef)::(60,vb true)::[]) [0,1,2,3] [0,2,21] (zq [2] 4 43::zq [1] 5 44::zq [4,5] 6 45::zq [6] 7 46::zq [7] 8 47::zq [8] 9 48::zq [9,0] 10 49::zq [9,1] 11 50::zq [9,10,11] 12 51::zq [9,12] 13 52::zq [9,13] 14 53::zq [14] 15 54::zq [15] 16 55::zq [15] 17 56::zq [15] 18 57::zq [15] 19 58::zq [15] 20 59::zq [15] 21 60::[]) [(_,_),(_,_),(_,_)] rfl ⟨z1 rfl,z1 rfl,zp rfl (oB rfl (ibind (f := Value.int .i64) (Option.some.inj hv20))),zp rfl (op_call _ _ 31 _ _ rfl call31 rfl (ok_wherryref11_in v20 1 63 _ hv21) rfl rfl),zp rfl (op_un _ _ _ _ rfl rfl),z8 hg10_5 rfl,zr' rfl (oM rfl),zr' rfl (oM rfl),zr' rfl (op_chr _ _ _ s88 _ underlying9 rfl rfl hv22),zr' rfl (oB rfl rfl),z3 false rfl,z8 hg10_11 rfl,zf rfl,zf rfl,zf rfl,zf rfl,zf rfl,z3 true rfl,zz⟩ ?_
           exact hl163 _ (Option.some.inj h).symm
          ·obtain ⟨v23, hv23, h⟩ := bind_some h
           obtain ⟨v24, hv24, h⟩ := bind_some h
           refine zg hn (_::_::_::_::(43,vi s89)::(44,vi s88)::(45,vi v20)::(46,vb v21)::(47,vb (!v21))::(48,vb false)::(49,vs s)::(50,vi s88)::(51,.v (.int .u8 v22))::(52,vb (v22 == 45))::(53,vb (v22 == 45))::(54,vb false)::(55,vs s)::(56,vi s89)::(57,vi v23)::(58,.v (.int .u8 v24))::(59,vb (v24 == 45))::(60,vb (v24 == 45))::[]) [0,1,2,3] [0,2,21] (zq [2] 4 43::zq [1] 5 44::zq [4,5] 6 45::zq [6] 7 46::zq [7] 8 47::zq [8] 9 48::zq [9,0] 10 49::zq [9,1] 11 50::zq [9,10,11] 12 51::zq [9,12] 13 52::zq [9,13] 14 53::zq [14] 15 54::zq [15,0] 16 55::zq [15,2] 17 56::zq [15,17] 18 57::zq [15,16,18] 19 58::zq [15,19] 20 59::zq [15,20] 21 60::[]) [(_,_),(_,_),(_,_)] rfl ⟨z1 rfl,z1 rfl,zp rfl (oB rfl (ibind (f := Value.int .i64) (Option.some.inj hv20))),zp rfl (op_call _ _ 31 _ _ rfl call31 rfl (ok_wherryref11_in v20 1 63 _ hv21) rfl rfl),zp rfl (op_un _ _ _ _ rfl rfl),z8 hg10_5 rfl,zr' rfl (oM rfl),zr' rfl (oM rfl),zr' rfl (op_chr _ _ _ s88 _ underlying9 rfl rfl hv22),zr' rfl (oB rfl rfl),z3 false rfl,z8 hg10_11 rfl,zr' rfl (oM rfl),zr' rfl (oM rfl),zr' rfl (oB rfl (ibind (f := Value.int .i64) (Option.some.inj hv23))),zr' rfl (op_chr _ _ _ v23 _ underlying9 rfl rfl hv24),zr' rfl (oB rfl rfl),z3 false rfl,zz⟩ ?_
           exact hl163 _ (Option.some.inj h).symm
      ·intro u152 h hl153 hr154
       refine cond_some h (fun hg7_4 h => ?_) (fun hg7_4 h => ?_)
       ·obtain ⟨v4, hv4, h⟩ := bind_some h
        refine zg hn [_,_,_,_,(15,vi s89),(16,vs s),(17,vi (s.size : Int)),(18,vb (decide (s89 < (s.size : Int)))),(19,vb true),(20,vs s),(21,vi s89),(22,.v (.int .u8 v4)),(23,vb (v4 != 46)),(24,vb (v4 != 46))] [0,1,2,3] [0,1,2,13] [zq [2] 4 15,zq [0] 5 16,zq [5] 6 17,zq [4,6] 7 18,zq [7] 8 19,zq [8,0] 9 20,zq [8,2] 10 21,zq [8,9,10] 11 22,zq [8,11] 12 23,zq [8,12] 13 24] [(_,_),(_,_),(_,_),(_,_)] rfl ⟨z1 rfl,z1 rfl,zp rfl (oN underlying9 rfl),z4 rfl rfl,z8 hg7_4 rfl,zr' rfl (oM rfl),zr' rfl (oM rfl),zr' rfl (op_chr _ _ _ s89 _ underlying9 rfl rfl hv4),zr' rfl (oB rfl rfl),z3 true rfl,zz⟩ ?_
        exact hl153 _ (Option.some.inj h).symm
       ·refine zg hn [_,_,_,_,(15,vi s89),(16,vs s),(17,vi (s.size : Int)),(18,vb (decide (s89 < (s.size : Int)))),(19,vb false),(20,.v undef),(21,.v undef),(22,.v undef),(23,.v undef),(24,vb false)] [0,1,2,3] [0,1,2,13] [zq [2] 4 15,zq [0] 5 16,zq [5] 6 17,zq [4,6] 7 18,zq [7] 8 19,zq [8] 9 20,zq [8] 10 21,zq [8] 11 22,zq [8] 12 23,zq [8] 13 24] [(_,_),(_,_),(_,_),(_,_)] rfl ⟨z1 rfl,z1 rfl,zp rfl (oN underlying9 rfl),z4 rfl rfl,z8 hg7_4 rfl,zt rfl,zt rfl,zt rfl,zt rfl,z3 false rfl,zz⟩ ?_
        exact hl153 _ (Option.some.inj h).symm
    ·have h := cond_f hb131 h
     refine ht_exit ?_
     refine pt_x_then ?_
     refine pt_x_then ?_
     refine pt_x_in ?_
     refine pt_pick [] (by kernel_rfl) (es' := []) rfl ?_
     exact hl126 _ (ho128 _ (Option.some.inj h).symm).symm
theorem ok_wherryref11_Digits (n : Int) (r : ByteArray) (h : Sh.wherryref11_Digits n = some r) : FnOK Tryd.prog 34 [.v (.int .i64 n)] (.v (.string r)) := by
  unfold Sh.wherryref11_Digits at h
  refine fn_ok func34 rfl (zl rfl) rfl rfl fun g0 hn hio => ?_
  refine zgg hn [_,(2,vs z0)] [0] [0] [zq [] 1 2] [(_,_)] rfl ⟨z2 rfl,zz⟩ ?_
  refine zgg hn [_,(3,vs z0)] [0] [0,1] [zq [] 1 3] [(_,_),(_,_)] rfl ⟨z2 rfl,zz⟩ ?_
  refine ht_seq ?_
  refine ht_loopS h (fun ((s11, s12) : Int × ByteArray) => [(0, .v (.int .i64 s11)), (3, .v (.string s12))]) (fun ((s14, s15) : Int × ByteArray) => [(0, .v (.int .i64 s14)), (3, .v (.string s15))]) ?_ ?_
  ·rintro ⟨s14, s15⟩ h
   refine pt_then (ht_seq ?_)
   obtain ⟨v23, hv23, h⟩ := bind_some h
   obtain ⟨v24, hv24, h⟩ := bind_some h
   obtain ⟨v25, hv25, h⟩ := bind_some h
   refine zg hn [_,_,(16,vi s14),(17,vi s14),(18,vi v23),(19,vs v24),(20,vs s15),(21,vs v25),(2,vs v25)] [0,1] [8] [zq [0] 2 16,zq [0] 3 17,zq [3] 4 18,zq [2,4] 5 19,zq [1] 6 20,zq [5,6] 7 21,zq [7] 8 2] [(_,_)] rfl ⟨z1 rfl,z1 rfl,zp rfl (oB rfl (ibind (f := Value.int .i64) (Option.some.inj hv23))),zp rfl (op_substr _ _ _ s14 v23 _ underlying9 rfl ⟨_, rfl⟩ ⟨_, rfl⟩ hv24),z1 rfl,zp rfl (oB rfl (cat_ok hv25)),z2 rfl,zz⟩ ?_
   refine pt_then (ht_ret ?_)
   obtain rfl := Option.some.inj h
   exact pt_ret hio rfl (.tmp _ _ .nil) rfl rfl
  ·rintro u16 hl17 hr18 ⟨s11, s12⟩ rr21 h ho19
   refine ht_seq ?_
   refine zgg hn [_,_,(4,vi s11),(5,vb (decide (9 < s11)))] [0,1] [0,1,3] [zq [0] 2 4,zq [2] 3 5] [(_,_),(_,_),(_,_)] rfl ⟨z1 rfl,z4 rfl rfl,zz⟩ ?_
   refine ht_cond _ rfl (fun hb22 => ?_) (fun hb22 => ?_)
   ·have h := cond_t hb22 h
    refine ht_skip ?_
    refine pt_then ?_
    refine ht_block ?_
    refine ht_seq ?_
    obtain ⟨v2, hv2, h⟩ := bind_some h
    obtain ⟨v3, hv3, h⟩ := bind_some h
    obtain ⟨v4, hv4, h⟩ := bind_some h
    obtain ⟨v5, hv5, h⟩ := bind_some h
    obtain ⟨v6, hv6, h⟩ := bind_some h
    refine zg hn [_,_,_,(6,vi s11),(7,vi v2),(8,vi s11),(9,vi v3),(10,vi v4),(11,vs v5),(12,vs s12),(13,vs v6),(3,vs v6)] [0,1,2] [0,11] [zq [0] 3 6,zq [3] 4 7,zq [0] 5 8,zq [5] 6 9,zq [6] 7 10,zq [4,7] 8 11,zq [1] 9 12,zq [8,9] 10 13,⟨[10],[1],[11],[(.slot 3)]⟩] [(_,_),(_,_)] rfl ⟨z1 rfl,zp rfl (oB rfl (rem_ok hv2)),z1 rfl,zp rfl (oB rfl (rem_ok hv3)),zp rfl (oB rfl (ibind (f := Value.int .i64) (Option.some.inj hv4))),zp rfl (op_substr _ _ _ v2 v4 _ underlying9 rfl ⟨_, rfl⟩ ⟨_, rfl⟩ hv5),z1 rfl,zp rfl (oB rfl (cat_ok hv6)),zp rfl (LOp.drop [_] (op_assign _ _ _ _ rfl rfl)),zz⟩ ?_
    refine pt_then ?_
    obtain ⟨v7, hv7, h⟩ := bind_some h
    refine zg hn [_,_,(14,vi s11),(15,vi v7),(0,vi v7)] [0,1] [1,4] [zq [0] 2 14,zq [2] 3 15,⟨[3],[0],[4],[(.slot 0)]⟩] [(_,_),(_,_)] rfl ⟨z1 rfl,zp rfl (oB rfl (quo_ok hv7)),zp rfl (LOp.drop [_] (op_assign _ _ _ _ rfl rfl)),zz⟩ ?_
    refine pt_inb ?_
    refine pt_pick [1, 0] (by kernel_rfl) (es' := [(_,_),(_,_)]) rfl ?_
    exact pt_next _ (Option.some.inj h).symm rfl
   ·have h := cond_f hb22 h
    refine ht_exit ?_
    refine pt_x_then ?_
    refine pt_x_then ?_
    refine pt_x_in ?_
    refine pt_pick [0, 1] (by kernel_rfl) (es' := [(_,_),(_,_)]) rfl ?_
    exact hl17 _ (ho19 _ (Option.some.inj h).symm).symm
theorem ok_wherryref11_Stamp (helo : ByteArray) (site : ByteArray) (at_ : Int) (r : (List Int)) (h : Sh.wherryref11_Stamp helo site at_ = some r) : FnOK Tryd.prog 16 [.v (.string helo), .v (.string site), .v (.int .i64 at_)] (.mkr 5 (List.map (Value.int .u8) r)) := by
  unfold Sh.wherryref11_Stamp at h
  refine fn_ok func16 rfl (zl rfl) rfl rfl fun g0 hn hio => ?_
  refine zgg hn [_,_,_,(6,.v (.slice none 0 0))] [0,1,2] [0,1,2] [zq [] 3 6] [(_,_),(_,_),(_,_)] rfl ⟨z2 rfl,zz⟩ ?_
  refine ht_seq ?_
  obtain ⟨v1, hv1, h⟩ := bind_some h
  obtain ⟨v2, hv2, h⟩ := bind_some h
  obtain ⟨v3, hv3, h⟩ := bind_some h
  obtain ⟨v4, hv4, h⟩ := bind_some h
  obtain ⟨v5, hv5, h⟩ := bind_some h
  obtain ⟨v6, hv6, h⟩ := bind_some h
  obtain ⟨v7, hv7, h⟩ := bind_some h
  obtain ⟨v8, hv8, h⟩ := bind_some h
  refine zg hn (_::_::_::(7,vs helo)::(8,vs v1)::(9,vs v2)::(10,vs site)::(11,vs v3)::(12,vs v4)::(13,vi at_)::(14,vs v5)::(15,vs v6)::(16,vs v7)::(17,.mkr 5 (List.map (Value.int .u8) v8))::(6,.mkr 5 (List.map (Value.int .u8) v8))::[]) [0,1,2] [14] [zq [0] 3 7,zq [3] 4 8,zq [4] 5 9,zq [1] 6 10,zq [5,6] 7 11,zq [7] 8 12,zq [2] 9 13,zq [9] 10 14,zq [8,10] 11 15,zq [11] 12 16,zq [12] 13 17,⟨[],[13],[14],[(.slot 6)]⟩] [(_,_)] rfl ⟨z1 rfl,zp rfl (oB rfl (cat_ok hv1)),zp rfl (oB rfl (cat_ok hv2)),z1 rfl,zp rfl (oB rfl (cat_ok hv3)),zp rfl (oB rfl (cat_ok hv4)),z1 rfl,zp rfl (op_call _ _ 34 _ _ rfl call34 rfl (ok_wherryref11_Digits at_ _ hv5) rfl rfl),zp rfl (oB rfl (cat_ok hv6)),zp rfl (oB rfl (cat_ok hv7)),zp rfl ((Option.some.inj hv8) ▸ op_str_mk _ _ _ v7 underlying9 underlying22 underlying5 rfl),zp rfl (op_assign_take _ _ _ _ rfl),zz⟩ ?_
  refine pt_then (ht_ret ?_)
  obtain rfl := Option.some.inj h
  exact pt_ret hio rfl (.tmp _ _ .nil) rfl rfl
theorem ok_wherrykeep_Bytes (a : (List Int)) (b : (List Int)) (r : Bool) (h : Sh.wherrykeep_Bytes a b = some r) : FnOK Tryd.prog 15 [.fl .shr 1 (List.map (Value.int .u8) a), .fl .shr 1 (List.map (Value.int .u8) b)] (.v (.bool r)) := by
  unfold Sh.wherrykeep_Bytes at h
  refine fn_ok func15 rfl (zl rfl) rfl rfl fun g0 hn hio => ?_
  refine zgg hn [_,_,(4,vb false)] [0,1] [0,1] [zq [] 2 4] [(_,_),(_,_)] rfl ⟨z2 rfl,zz⟩ ?_
  refine ht_seq ?_
  refine zgg hn [_,_,(6,.fl .shr 1 (List.map (Value.int .u8) a)),(7,vi (a.length : Int)),(8,.fl .shr 1 (List.map (Value.int .u8) b)),(9,vi (b.length : Int)),(10,vb ((a.length : Int) != (b.length : Int)))] [0,1] [0,1,6] [zq [0] 2 6,zq [2] 3 7,zq [1] 4 8,zq [4] 5 9,zq [3,5] 6 10] [(_,_),(_,_),(_,_)] rfl ⟨z1 rfl,zp rfl (op_len_fl _ _ _ underlying22 rfl (by decide) (map_len _)),z1 rfl,zp rfl (op_len_fl _ _ _ underlying22 rfl (by decide) (map_len _)),z4 rfl rfl,zz⟩ ?_
  refine ht_cond _ rfl (fun hb1 => ?_) (fun hb1 => ?_)
  ·have h := cond_t hb1 h
   refine zgg hn [_,_,_,(4,vb false)] [0,1,2] [3] [zq [] 3 4] [(_,_)] rfl ⟨z2 rfl,zz⟩ ?_
   refine ht_ret ?_
   refine pt_r_then ?_
   obtain rfl := Option.some.inj h
   exact pt_ret hio rfl (.tmp _ _ .nil) rfl rfl
  ·have h := cond_f hb1 h
   refine ht_skip ?_
   refine pt_then (ht_seq ?_)
   refine zgg hn [_,_,_,(5,vi 0)] [0,1,2] [0,1,3] [zq [] 3 5] [(_,_),(_,_),(_,_)] rfl ⟨z2 rfl,zz⟩ ?_
   refine ht_loopS h (fun (s12 : Int) => [(0, .fl .shr 1 (List.map (Value.int .u8) a)), (1, .fl .shr 1 (List.map (Value.int .u8) b)), (5, .v (.int .i64 s12))]) (fun (() : Unit) => []) ?_ ?_
   ·rintro ⟨⟩ h
    refine pt_then ?_
    refine zgg hn [(4,vb true)] [] [0] [zq [] 0 4] [(_,_)] rfl ⟨z2 rfl,zz⟩ ?_
    refine ht_ret ?_
    obtain rfl := Option.some.inj h
    exact pt_ret hio rfl (.tmp _ _ .nil) rfl rfl
   ·rintro u15 hl16 hr17 s12 rr20 h ho18
    refine ht_seq ?_
    refine zgg hn [_,_,_,(11,vi s12),(12,.fl .shr 1 (List.map (Value.int .u8) a)),(13,vi (a.length : Int)),(14,vb (decide (s12 < (a.length : Int))))] [0,1,2] [0,1,2,6] [zq [2] 3 11,zq [0] 4 12,zq [4] 5 13,zq [3,5] 6 14] [(_,_),(_,_),(_,_),(_,_)] rfl ⟨z1 rfl,z1 rfl,zp rfl (op_len_fl _ _ _ underlying22 rfl (by decide) (map_len _)),z4 rfl rfl,zz⟩ ?_
    refine ht_cond _ rfl (fun hb21 => ?_) (fun hb21 => ?_)
    ·have h := cond_t hb21 h
     refine ht_skip ?_
     refine pt_then (ht_seq ?_)
     refine ht_block ?_
     refine ht_seq ?_
     obtain ⟨v3, hv3, h⟩ := bind_some h
     obtain ⟨v4, hv4, h⟩ := bind_some h
     obtain ⟨v5, hv5, h⟩ := bind_some h
     obtain ⟨v6, hv6, h⟩ := bind_some h
     refine ht_anyR (by kernel_rfl) hn (El := [_, _, _, _, (17, .fl .shr 1 (List.map (Value.int .u8) a)), (18, .v (.int .i64 s12)), (19, .eref (.slot 17) (v3 * 1)), (20, .v (.int .u8 v4)), (21, .fl .shr 1 (List.map (Value.int .u8) b)), (22, .v (.int .i64 s12)), (23, .eref (.slot 21) (v5 * 1)), (24, .v (.int .u8 v6)), (25, .v (.bool (v4 != v6)))]) (init := [0, 1, 2, 3]) (fin := [0, 1, 2, 12]) (sps := [zq [0] 4 17, zq [2] 5 18, zq [4,5] 6 19, zq [6,4] 7 20, zq [1] 8 21, zq [2] 9 22, zq [8,9] 10 23, zq [10,8] 11 24, zq [7,11] 12 25]) (es' := [(_,_),(_,_),(_,_),(25, .v (.bool (v4 != v6)))]) (by kernel_rfl) rfl rfl ⟨z1 rfl,z1 rfl,zp rfl (op_ix _ _ _ _ _ _ _ _ underlying22 sz5 (by decide) rfl rfl rfl (ix_ok hv3).1 (map_lt (ix_ok hv3).2) rfl),zp rfl (op_load_e _ _ _ _ _ _ underlying5 rfl rfl rfl (map_get hv4)),z1 rfl,z1 rfl,zp rfl (op_ix _ _ _ _ _ _ _ _ underlying22 sz5 (by decide) rfl rfl rfl (ix_ok hv5).1 (map_lt (ix_ok hv5).2) rfl),zp rfl (op_load_e _ _ _ _ _ _ underlying5 rfl rfl rfl (map_get hv6)),z4 rfl rfl,zz⟩ ?_
     refine pt_then ?_
     refine ht_cond _ rfl (fun hb22 => ?_) (fun hb22 => ?_)
     ·have h := cond_t hb22 h
      refine zgg hn [_,_,_,_,(4,vb false)] [0,1,2,3] [4] [zq [] 4 4] [(_,_)] rfl ⟨z2 rfl,zz⟩ ?_
      refine ht_ret ?_
      refine pt_r_in ?_
      refine pt_r_then ?_
      refine pt_r_then ?_
      refine pt_r_in ?_
      refine pt_r_then ?_
      have h := hr17 _ (ho18 _ (Option.some.inj h).symm).symm
      obtain rfl := Option.some.inj h
      exact pt_ret hio rfl (.tmp _ _ .nil) rfl rfl
     ·have h := cond_f hb22 h
      refine ht_skip ?_
      refine pt_inb ?_
      refine pt_then ?_
      obtain ⟨v8, hv8, h⟩ := bind_some h
      refine zg hn [_,_,_,_,(15,vi s12),(16,vi v8),(5,vi v8)] [0,1,2,3] [0,1,6] [zq [2] 4 15,zq [4] 5 16,⟨[5],[2],[6],[(.slot 5)]⟩] [(_,_),(_,_),(_,_)] rfl ⟨z1 rfl,zp rfl (oB rfl (ibind (f := Value.int .i64) (Option.some.inj hv8))),zp rfl (LOp.drop [_] (op_assign _ _ _ _ rfl rfl)),zz⟩ ?_
      exact pt_next _ (Option.some.inj h).symm rfl
    ·have h := cond_f hb21 h
     refine ht_exit ?_
     refine pt_x_then ?_
     refine pt_x_then ?_
     refine pt_x_in ?_
     refine pt_pick [] (by kernel_rfl) (es' := []) rfl ?_
     exact hl16 _ (ho18 _ (Option.some.inj h).symm).symm
theorem ok_wherryref11_Body (b : (List Int)) (r : Bool) (h : Sh.wherryref11_Body b = some r) : FnOK Tryd.prog 17 [.fl .shr 1 (List.map (Value.int .u8) b)] (.v (.bool r)) := by
  unfold Sh.wherryref11_Body at h
  refine fn_ok func17 rfl (zl rfl) rfl rfl fun g0 hn hio => ?_
  refine zgg hn [_,(2,vb false)] [0] [0] [zq [] 1 2] [(_,_)] rfl ⟨z2 rfl,zz⟩ ?_
  refine ht_seq ?_
  refine zgg hn [_,(3,vi 0)] [0] [0,1] [zq [] 1 3] [(_,_),(_,_)] rfl ⟨z2 rfl,zz⟩ ?_
  refine ht_loopS h (fun (s31 : Int) => [(0, .fl .shr 1 (List.map (Value.int .u8) b)), (3, .v (.int .i64 s31))]) (fun (() : Unit) => [(0, .fl .shr 1 (List.map (Value.int .u8) b))]) ?_ ?_
  ·rintro ⟨⟩ h
   refine pt_then (ht_seq ?_)
   refine ht_joinS h (fun (s53 : Bool) => [(2, .v (.bool s53))]) ?_ ?_
   ·rintro s53 h
    refine pt_then (ht_ret ?_)
    obtain rfl := Option.some.inj h
    exact pt_ret hio rfl (.tmp _ _ .nil) rfl rfl
   ·intro u54 h hl55 hr56
    refine cond_some h (fun hg6_3 h => ?_) (fun hg6_3 h => ?_)
    ·refine zg hn [_,(49,.fl .shr 1 (List.map (Value.int .u8) b)),(50,vi (b.length : Int)),(51,vb ((b.length : Int) == 0)),(52,vb true),(53,.v undef),(54,.v undef),(55,.v undef),(56,.v undef),(57,.v undef),(58,.v undef),(59,.v undef),(60,vb true),(2,vb true)] [0] [13] [zq [0] 1 49,zq [1] 2 50,zq [2] 3 51,zq [3] 4 52,zq [4] 5 53,zq [4] 6 54,zq [4] 7 55,zq [4] 8 56,zq [4] 9 57,zq [4] 10 58,zq [4] 11 59,zq [4] 12 60,zq [12] 13 2] [(_,_)] rfl ⟨z1 rfl,zp rfl (op_len_fl _ _ _ underlying22 rfl (by decide) (map_len _)),z4 rfl rfl,z8 hg6_3 rfl,zf rfl,zf rfl,zf rfl,zf rfl,zf rfl,zf rfl,zf rfl,z3 true rfl,z2 rfl,zz⟩ ?_
     exact hl55 _ (Option.some.inj h).symm
    ·obtain ⟨v50, hv50, h⟩ := bind_some h
     obtain ⟨v51, hv51, h⟩ := bind_some h
     obtain ⟨v52, hv52, h⟩ := bind_some h
     refine zg hn [_,(49,.fl .shr 1 (List.map (Value.int .u8) b)),(50,vi (b.length : Int)),(51,vb ((b.length : Int) == 0)),(52,vb false),(53,.fl .shr 1 (List.map (Value.int .u8) b)),(54,.fl .shr 1 (List.map (Value.int .u8) b)),(55,vi (b.length : Int)),(56,vi v50),(57,.eref (.slot 53) (v51 * 1)),(58,.v (.int .u8 v52)),(59,vb (v52 == 10)),(60,vb (v52 == 10)),(2,vb (v52 == 10))] [0] [13] [zq [0] 1 49,zq [1] 2 50,zq [2] 3 51,zq [3] 4 52,zq [4,0] 5 53,zq [4,0] 6 54,zq [4,6] 7 55,zq [4,7] 8 56,zq [4,5,8] 9 57,zq [4,9,5] 10 58,zq [4,10] 11 59,zq [4,11] 12 60,zq [12] 13 2] [(_,_)] rfl ⟨z1 rfl,zp rfl (op_len_fl _ _ _ underlying22 rfl (by decide) (map_len _)),z4 rfl rfl,z8 hg6_3 rfl,zr' rfl (oM rfl),zr' rfl (oM rfl),zr' rfl (op_len_fl _ _ _ underlying22 rfl (by decide) (map_len _)),zr' rfl (oB rfl (ibind (f := Value.int .i64) (Option.some.inj hv50))),zr' rfl (op_ix _ _ _ _ _ _ _ _ underlying22 sz5 (by decide) rfl rfl rfl (ix_ok hv51).1 (map_lt (ix_ok hv51).2) rfl),zr' rfl (op_load_e _ _ _ _ _ _ underlying5 rfl rfl rfl (map_get hv52)),zr' rfl (oB rfl rfl),z3 false rfl,z2 rfl,zz⟩ ?_
     exact hl55 _ (Option.some.inj h).symm
  ·rintro u38 hl39 hr40 s31 rr43 h ho41
   refine ht_seq ?_
   refine zgg hn [_,_,(4,vi s31),(5,.fl .shr 1 (List.map (Value.int .u8) b)),(6,vi (b.length : Int)),(7,vb (decide (s31 < (b.length : Int))))] [0,1] [0,1,5] [zq [1] 2 4,zq [0] 3 5,zq [3] 4 6,zq [2,4] 5 7] [(_,_),(_,_),(_,_)] rfl ⟨z1 rfl,z1 rfl,zp rfl (op_len_fl _ _ _ underlying22 rfl (by decide) (map_len _)),z4 rfl rfl,zz⟩ ?_
   refine ht_cond _ rfl (fun hb44 => ?_) (fun hb44 => ?_)
   ·have h := cond_t hb44 h
    refine ht_skip ?_
    refine pt_then (ht_seq ?_)
    refine ht_block ?_
    refine ht_seq ?_
    refine ht_joinS h (fun (s45 : Bool) => [(0, .fl .shr 1 (List.map (Value.int .u8) b)), (3, .v (.int .i64 s31)), (48, .v (.bool s45))]) ?_ ?_
    ·rintro s45 h
     refine pt_then ?_
     refine ht_cond _ rfl (fun hb49 => ?_) (fun hb49 => ?_)
     ·have h := cond_t hb49 h
      refine zgg hn [_,_,_,(2,vb false)] [0,1,2] [3] [zq [] 3 2] [(_,_)] rfl ⟨z2 rfl,zz⟩ ?_
      refine ht_ret ?_
      refine pt_r_in ?_
      refine pt_r_then ?_
      refine pt_r_then ?_
      refine pt_r_in ?_
      refine pt_r_then ?_
      have h := hr40 _ (ho41 _ (Option.some.inj h).symm).symm
      obtain rfl := Option.some.inj h
      exact pt_ret hio rfl (.tmp _ _ .nil) rfl rfl
     ·have h := cond_f hb49 h
      refine ht_skip ?_
      refine pt_inb ?_
      refine pt_then ?_
      obtain ⟨v23, hv23, h⟩ := bind_some h
      refine zg hn [_,_,_,(8,vi s31),(9,vi v23),(3,vi v23)] [0,1,2] [0,5] [zq [1] 3 8,zq [3] 4 9,⟨[4],[1],[5],[(.slot 3)]⟩] [(_,_),(_,_)] rfl ⟨z1 rfl,zp rfl (oB rfl (ibind (f := Value.int .i64) (Option.some.inj hv23))),zp rfl (LOp.drop [_] (op_assign _ _ _ _ rfl rfl)),zz⟩ ?_
      exact pt_next _ (Option.some.inj h).symm rfl
    ·intro u46 h hl47 hr48
     obtain ⟨v2, hv2, h⟩ := bind_some h
     obtain ⟨v3, hv3, h⟩ := bind_some h
     refine cond_some h (fun hg4_5 h => ?_) (fun hg4_5 h => ?_)
     ·obtain ⟨v4, hv4, h⟩ := bind_some h
      refine cond_some h (fun hg4_11 h => ?_) (fun hg4_11 h => ?_)
      ·refine zg hn (_::_::_::(10,.fl .shr 1 (List.map (Value.int .u8) b))::(11,vi s31)::(12,.eref (.slot 10) (v2 * 1))::(13,.v (.int .u8 v3))::(14,vb (v3 == 13))::(15,vb true)::(16,vi s31)::(17,vi v4)::(18,.fl .shr 1 (List.map (Value.int .u8) b))::(19,vi (b.length : Int))::(20,vb (decide ((b.length : Int) ≤ v4)))::(21,vb true)::(22,.v undef)::(23,.v undef)::(24,.v undef)::(25,.v undef)::(26,.v undef)::(27,.v undef)::(28,vb true)::(29,vb true)::(30,vb true)::(31,.v undef)::(32,.v undef)::(33,.v undef)::(34,.v undef)::(35,.v undef)::(36,.v undef)::(37,.v undef)::(38,.v undef)::(39,.v undef)::(40,.v undef)::(41,.v undef)::(42,.v undef)::(43,.v undef)::(44,.v undef)::(45,.v undef)::(46,.v undef)::(47,.v undef)::(48,vb true)::[]) [0,1,2] [0,1,41] (zq [0] 3 10::zq [1] 4 11::zq [3,4] 5 12::zq [5,3] 6 13::zq [6] 7 14::zq [7] 8 15::zq [8,1] 9 16::zq [8,9] 10 17::zq [8,0] 11 18::zq [8,11] 12 19::zq [8,10,12] 13 20::zq [8,13] 14 21::zq [14] 15 22::zq [14] 16 23::zq [14] 17 24::zq [14] 18 25::zq [14] 19 26::zq [14] 20 27::zq [8,14] 21 28::zq [8,21] 22 29::zq [22] 23 30::zq [23] 24 31::zq [23] 25 32::zq [23] 26 33::zq [23] 27 34::zq [23] 28 35::zq [23] 29 36::zq [29] 30 37::zq [29] 31 38::zq [29] 32 39::zq [32] 33 40::zq [32] 34 41::zq [32] 35 42::zq [32] 36 43::zq [32] 37 44::zq [32] 38 45::zq [29] 39 46::zq [23] 40 47::zq [23] 41 48::[]) [(_,_),(_,_),(_,_)] rfl ⟨z1 rfl,z1 rfl,zp rfl (op_ix _ _ _ _ _ _ _ _ underlying22 sz5 (by decide) rfl rfl rfl (ix_ok hv2).1 (map_lt (ix_ok hv2).2) rfl),zp rfl (op_load_e _ _ _ _ _ _ underlying5 rfl rfl rfl (map_get hv3)),z4 rfl rfl,z8 hg4_5 rfl,zr' rfl (oM rfl),zr' rfl (oB rfl (ibind (f := Value.int .i64) (Option.some.inj hv4))),zr' rfl (oM rfl),zr' rfl (op_len_fl _ _ _ underlying22 rfl (by decide) (map_len _)),zr' rfl (oB rfl rfl),zr' rfl (op_move _ _ _ _ (zb hg4_11) rfl),zf rfl,zf rfl,zf rfl,zf rfl,zf rfl,zf rfl,zr' rfl (op_pick _ _ true _ rfl rfl),z3 true rfl,z1 rfl,zf rfl,zf rfl,zf rfl,zf rfl,zf rfl,zf rfl,zu' rfl,zu' rfl,zu' rfl,zu' rfl,zu' rfl,zu' rfl,zu' rfl,zu' rfl,zu' rfl,zu' rfl,zf rfl,z3 true rfl,zz⟩ ?_
       exact hl47 _ (Option.some.inj h).symm
      ·obtain ⟨v5, hv5, h⟩ := bind_some h
       obtain ⟨v6, hv6, h⟩ := bind_some h
       obtain ⟨v7, hv7, h⟩ := bind_some h
       refine cond_some h (fun hg4_20 h => ?_) (fun hg4_20 h => ?_)
       ·refine zg hn (_::_::_::(10,.fl .shr 1 (List.map (Value.int .u8) b))::(11,vi s31)::(12,.eref (.slot 10) (v2 * 1))::(13,.v (.int .u8 v3))::(14,vb (v3 == 13))::(15,vb true)::(16,vi s31)::(17,vi v4)::(18,.fl .shr 1 (List.map (Value.int .u8) b))::(19,vi (b.length : Int))::(20,vb (decide ((b.length : Int) ≤ v4)))::(21,vb false)::(22,.fl .shr 1 (List.map (Value.int .u8) b))::(23,vi s31)::(24,vi v5)::(25,.eref (.slot 22) (v6 * 1))::(26,.v (.int .u8 v7))::(27,vb (v7 != 10))::(28,vb (v7 != 10))::(29,vb (v7 != 10))::(30,vb true)::(31,.v undef)::(32,.v undef)::(33,.v undef)::(34,.v undef)::(35,.v undef)::(36,.v undef)::(37,.v undef)::(38,.v undef)::(39,.v undef)::(40,.v undef)::(41,.v undef)::(42,.v undef)::(43,.v undef)::(44,.v undef)::(45,.v undef)::(46,.v undef)::(47,.v undef)::(48,vb true)::[]) [0,1,2] [0,1,41] (zq [0] 3 10::zq [1] 4 11::zq [3,4] 5 12::zq [5,3] 6 13::zq [6] 7 14::zq [7] 8 15::zq [8,1] 9 16::zq [8,9] 10 17::zq [8,0] 11 18::zq [8,11] 12 19::zq [8,10,12] 13 20::zq [8,13] 14 21::zq [14,0] 15 22::zq [14,1] 16 23::zq [14,16] 17 24::zq [14,15,17] 18 25::zq [14,18,15] 19 26::zq [14,19] 20 27::zq [8,14,20] 21 28::zq [8,21] 22 29::zq [22] 23 30::zq [23] 24 31::zq [23] 25 32::zq [23] 26 33::zq [23] 27 34::zq [23] 28 35::zq [23] 29 36::zq [29] 30 37::zq [29] 31 38::zq [29] 32 39::zq [32] 33 40::zq [32] 34 41::zq [32] 35 42::zq [32] 36 43::zq [32] 37 44::zq [32] 38 45::zq [29] 39 46::zq [23] 40 47::zq [23] 41 48::[]) [(_,_),(_,_),(_,_)] rfl ⟨z1 rfl,z1 rfl,zp rfl (op_ix _ _ _ _ _ _ _ _ underlying22 sz5 (by decide) rfl rfl rfl (ix_ok hv2).1 (map_lt (ix_ok hv2).2) rfl),zp rfl (op_load_e _ _ _ _ _ _ underlying5 rfl rfl rfl (map_get hv3)),z4 rfl rfl,z8 hg4_5 rfl,zr' rfl (oM rfl),zr' rfl (oB rfl (ibind (f := Value.int .i64) (Option.some.inj hv4))),zr' rfl (oM rfl),zr' rfl (op_len_fl _ _ _ underlying22 rfl (by decide) (map_len _)),zr' rfl (oB rfl rfl),zr' rfl (op_move _ _ _ _ (zb hg4_11) rfl),zr' rfl (oM rfl),zr' rfl (oM rfl),zr' rfl (oB rfl (ibind (f := Value.int .i64) (Option.some.inj hv5))),zr' rfl (op_ix _ _ _ _ _ _ _ _ underlying22 sz5 (by decide) rfl rfl rfl (ix_ok hv6).1 (map_lt (ix_ok hv6).2) rfl),zr' rfl (op_load_e _ _ _ _ _ _ underlying5 rfl rfl rfl (map_get hv7)),zr' rfl (oB rfl rfl),zr' rfl (op_pick _ _ false _ rfl rfl),z3 true rfl,z8 hg4_20 rfl,zf rfl,zf rfl,zf rfl,zf rfl,zf rfl,zf rfl,zu' rfl,zu' rfl,zu' rfl,zu' rfl,zu' rfl,zu' rfl,zu' rfl,zu' rfl,zu' rfl,zu' rfl,zf rfl,z3 true rfl,zz⟩ ?_
        exact hl47 _ (Option.some.inj h).symm
       ·obtain ⟨v8, hv8, h⟩ := bind_some h
        obtain ⟨v9, hv9, h⟩ := bind_some h
        refine cond_some h (fun hg4_26 h => ?_) (fun hg4_26 h => ?_)
        ·refine cond_some h (fun hg4_29 h => ?_) (fun hg4_29 h => ?_)
         ·refine zg hn (_::_::_::(10,.fl .shr 1 (List.map (Value.int .u8) b))::(11,vi s31)::(12,.eref (.slot 10) (v2 * 1))::(13,.v (.int .u8 v3))::(14,vb (v3 == 13))::(15,vb true)::(16,vi s31)::(17,vi v4)::(18,.fl .shr 1 (List.map (Value.int .u8) b))::(19,vi (b.length : Int))::(20,vb (decide ((b.length : Int) ≤ v4)))::(21,vb false)::(22,.fl .shr 1 (List.map (Value.int .u8) b))::(23,vi s31)::(24,vi v5)::(25,.eref (.slot 22) (v6 * 1))::(26,.v (.int .u8 v7))::(27,vb (v7 != 10))::(28,vb (v7 != 10))::(29,vb (v7 != 10))::(30,vb false)::(31,.fl .shr 1 (List.map (Value.int .u8) b))::(32,vi s31)::(33,.eref (.slot 31) (v8 * 1))::(34,.v (.int .u8 v9))::(35,vb (v9 == 10))::(36,vb true)::(37,vi s31)::(38,vb (s31 == 0))::(39,vb true)::(40,.v undef)::(41,.v undef)::(42,.v undef)::(43,.v undef)::(44,.v undef)::(45,.v undef)::(46,vb true)::(47,vb true)::(48,vb true)::[]) [0,1,2] [0,1,41] (zq [0] 3 10::zq [1] 4 11::zq [3,4] 5 12::zq [5,3] 6 13::zq [6] 7 14::zq [7] 8 15::zq [8,1] 9 16::zq [8,9] 10 17::zq [8,0] 11 18::zq [8,11] 12 19::zq [8,10,12] 13 20::zq [8,13] 14 21::zq [14,0] 15 22::zq [14,1] 16 23::zq [14,16] 17 24::zq [14,15,17] 18 25::zq [14,18,15] 19 26::zq [14,19] 20 27::zq [8,14,20] 21 28::zq [8,21] 22 29::zq [22] 23 30::zq [23,0] 24 31::zq [23,1] 25 32::zq [23,24,25] 26 33::zq [23,26,24] 27 34::zq [23,27] 28 35::zq [23,28] 29 36::zq [29,1] 30 37::zq [29,30] 31 38::zq [29,31] 32 39::zq [32] 33 40::zq [32] 34 41::zq [32] 35 42::zq [32] 36 43::zq [32] 37 44::zq [32] 38 45::zq [29,32] 39 46::zq [23,29,39] 40 47::zq [23,40] 41 48::[]) [(_,_),(_,_),(_,_)] rfl ⟨z1 rfl,z1 rfl,zp rfl (op_ix _ _ _ _ _ _ _ _ underlying22 sz5 (by decide) rfl rfl rfl (ix_ok hv2).1 (map_lt (ix_ok hv2).2) rfl),zp rfl (op_load_e _ _ _ _ _ _ underlying5 rfl rfl rfl (map_get hv3)),z4 rfl rfl,z8 hg4_5 rfl,zr' rfl (oM rfl),zr' rfl (oB rfl (ibind (f := Value.int .i64) (Option.some.inj hv4))),zr' rfl (oM rfl),zr' rfl (op_len_fl _ _ _ underlying22 rfl (by decide) (map_len _)),zr' rfl (oB rfl rfl),zr' rfl (op_move _ _ _ _ (zb hg4_11) rfl),zr' rfl (oM rfl),zr' rfl (oM rfl),zr' rfl (oB rfl (ibind (f := Value.int .i64) (Option.some.inj hv5))),zr' rfl (op_ix _ _ _ _ _ _ _ _ underlying22 sz5 (by decide) rfl rfl rfl (ix_ok hv6).1 (map_lt (ix_ok hv6).2) rfl),zr' rfl (op_load_e _ _ _ _ _ _ underlying5 rfl rfl rfl (map_get hv7)),zr' rfl (oB rfl rfl),zr' rfl (op_pick _ _ false _ rfl rfl),z3 true rfl,z8 hg4_20 rfl,zr' rfl (oM rfl),zr' rfl (oM rfl),zr' rfl (op_ix _ _ _ _ _ _ _ _ underlying22 sz5 (by decide) rfl rfl rfl (ix_ok hv8).1 (map_lt (ix_ok hv8).2) rfl),zr' rfl (op_load_e _ _ _ _ _ _ underlying5 rfl rfl rfl (map_get hv9)),zr' rfl (oB rfl rfl),zr' rfl (op_move _ _ _ _ (zb hg4_26) rfl),zr' rfl (oM rfl),zr' rfl (oB rfl rfl),zr' rfl (op_move _ _ _ _ (zb hg4_29) rfl),zf rfl,zf rfl,zf rfl,zf rfl,zf rfl,zf rfl,zr' rfl (op_pick _ _ true _ rfl rfl),zr' rfl (op_pick _ _ true _ rfl rfl),z3 false rfl,zz⟩ ?_
          exact hl47 _ (Option.some.inj h).symm
         ·obtain ⟨v10, hv10, h⟩ := bind_some h
          obtain ⟨v11, hv11, h⟩ := bind_some h
          obtain ⟨v12, hv12, h⟩ := bind_some h
          refine zg hn (_::_::_::(10,.fl .shr 1 (List.map (Value.int .u8) b))::(11,vi s31)::(12,.eref (.slot 10) (v2 * 1))::(13,.v (.int .u8 v3))::(14,vb (v3 == 13))::(15,vb true)::(16,vi s31)::(17,vi v4)::(18,.fl .shr 1 (List.map (Value.int .u8) b))::(19,vi (b.length : Int))::(20,vb (decide ((b.length : Int) ≤ v4)))::(21,vb false)::(22,.fl .shr 1 (List.map (Value.int .u8) b))::(23,vi s31)::(24,vi v5)::(25,.eref (.slot 22) (v6 * 1))::(26,.v (.int .u8 v7))::(27,vb (v7 != 10))::(28,vb (v7 != 10))::(29,vb (v7 != 10))::(30,vb false)::(31,.fl .shr 1 (List.map (Value.int .u8) b))::(32,vi s31)::(33,.eref (.slot 31) (v8 * 1))::(34,.v (.int .u8 v9))::(35,vb (v9 == 10))::(36,vb true)::(37,vi s31)::(38,vb (s31 == 0))::(39,vb false)::(40,.fl .shr 1 (List.map (Value.int .u8) b))::(41,vi s31)::(42,vi v10)::(43,.eref (.slot 40) (v11 * 1))::(44,.v (.int .u8 v12))::(45,vb (v12 != 13))::(46,vb (v12 != 13))::(47,vb (v12 != 13))::(48,vb (v12 != 13))::[]) [0,1,2] [0,1,41] (zq [0] 3 10::zq [1] 4 11::zq [3,4] 5 12::zq [5,3] 6 13::zq [6] 7 14::zq [7] 8 15::zq [8,1] 9 16::zq [8,9] 10 17::zq [8,0] 11 18::zq [8,11] 12 19::zq [8,10,12] 13 20::zq [8,13] 14 21::zq [14,0] 15 22::zq [14,1] 16 23::zq [14,16] 17 24::zq [14,15,17] 18 25::zq [14,18,15] 19 26::zq [14,19] 20 27::zq [8,14,20] 21 28::zq [8,21] 22 29::zq [22] 23 30::zq [23,0] 24 31::zq [23,1] 25 32::zq [23,24,25] 26 33::zq [23,26,24] 27 34::zq [23,27] 28 35::zq [23,28] 29 36::zq [29,1] 30 37::zq [29,30] 31 38::zq [29,31] 32 39::zq [32,0] 33 40::zq [32,1] 34 41::zq [32,34] 35 42::zq [32,33,35] 36 43::zq [32,36,33] 37 44::zq [32,37] 38 45::zq [29,32,38] 39 46::zq [23,29,39] 40 47::zq [23,40] 41 48::[]) [(_,_),(_,_),(_,_)] rfl ⟨z1 rfl,z1 rfl,zp rfl (op_ix _ _ _ _ _ _ _ _ underlying22 sz5 (by decide) rfl rfl rfl (ix_ok hv2).1 (map_lt (ix_ok hv2).2) rfl),zp rfl (op_load_e _ _ _ _ _ _ underlying5 rfl rfl rfl (map_get hv3)),z4 rfl rfl,z8 hg4_5 rfl,zr' rfl (oM rfl),zr' rfl (oB rfl (ibind (f := Value.int .i64) (Option.some.inj hv4))),zr' rfl (oM rfl),zr' rfl (op_len_fl _ _ _ underlying22 rfl (by decide) (map_len _)),zr' rfl (oB rfl rfl),zr' rfl (op_move _ _ _ _ (zb hg4_11) rfl),zr' rfl (oM rfl),zr' rfl (oM rfl),zr' rfl (oB rfl (ibind (f := Value.int .i64) (Option.some.inj hv5))),zr' rfl (op_ix _ _ _ _ _ _ _ _ underlying22 sz5 (by decide) rfl rfl rfl (ix_ok hv6).1 (map_lt (ix_ok hv6).2) rfl),zr' rfl (op_load_e _ _ _ _ _ _ underlying5 rfl rfl rfl (map_get hv7)),zr' rfl (oB rfl rfl),zr' rfl (op_pick _ _ false _ rfl rfl),z3 true rfl,z8 hg4_20 rfl,zr' rfl (oM rfl),zr' rfl (oM rfl),zr' rfl (op_ix _ _ _ _ _ _ _ _ underlying22 sz5 (by decide) rfl rfl rfl (ix_ok hv8).1 (map_lt (ix_ok hv8).2) rfl),zr' rfl (op_load_e _ _ _ _ _ _ underlying5 rfl rfl rfl (map_get hv9)),zr' rfl (oB rfl rfl),zr' rfl (op_move _ _ _ _ (zb hg4_26) rfl),zr' rfl (oM rfl),zr' rfl (oB rfl rfl),zr' rfl (op_move _ _ _ _ (zb hg4_29) rfl),zr' rfl (oM rfl),zr' rfl (oM rfl),zr' rfl (oB rfl (ibind (f := Value.int .i64) (Option.some.inj hv10))),zr' rfl (op_ix _ _ _ _ _ _ _ _ underlying22 sz5 (by decide) rfl rfl rfl (ix_ok hv11).1 (map_lt (ix_ok hv11).2) rfl),zr' rfl (op_load_e _ _ _ _ _ _ underlying5 rfl rfl rfl (map_get hv12)),zr' rfl (oB rfl rfl),zr' rfl (op_pick _ _ false _ rfl rfl),zr' rfl (op_pick _ _ true _ rfl rfl),z3 false rfl,zz⟩ ?_
          exact hl47 _ (Option.some.inj h).symm
        ·refine zg hn (_::_::_::(10,.fl .shr 1 (List.map (Value.int .u8) b))::(11,vi s31)::(12,.eref (.slot 10) (v2 * 1))::(13,.v (.int .u8 v3))::(14,vb (v3 == 13))::(15,vb true)::(16,vi s31)::(17,vi v4)::(18,.fl .shr 1 (List.map (Value.int .u8) b))::(19,vi (b.length : Int))::(20,vb (decide ((b.length : Int) ≤ v4)))::(21,vb false)::(22,.fl .shr 1 (List.map (Value.int .u8) b))::(23,vi s31)::(24,vi v5)::(25,.eref (.slot 22) (v6 * 1))::(26,.v (.int .u8 v7))::(27,vb (v7 != 10))::(28,vb (v7 != 10))::(29,vb (v7 != 10))::(30,vb false)::(31,.fl .shr 1 (List.map (Value.int .u8) b))::(32,vi s31)::(33,.eref (.slot 31) (v8 * 1))::(34,.v (.int .u8 v9))::(35,vb (v9 == 10))::(36,vb false)::(37,.v undef)::(38,.v undef)::(39,.v undef)::(40,.v undef)::(41,.v undef)::(42,.v undef)::(43,.v undef)::(44,.v undef)::(45,.v undef)::(46,.v undef)::(47,vb false)::(48,vb false)::[]) [0,1,2] [0,1,41] (zq [0] 3 10::zq [1] 4 11::zq [3,4] 5 12::zq [5,3] 6 13::zq [6] 7 14::zq [7] 8 15::zq [8,1] 9 16::zq [8,9] 10 17::zq [8,0] 11 18::zq [8,11] 12 19::zq [8,10,12] 13 20::zq [8,13] 14 21::zq [14,0] 15 22::zq [14,1] 16 23::zq [14,16] 17 24::zq [14,15,17] 18 25::zq [14,18,15] 19 26::zq [14,19] 20 27::zq [8,14,20] 21 28::zq [8,21] 22 29::zq [22] 23 30::zq [23,0] 24 31::zq [23,1] 25 32::zq [23,24,25] 26 33::zq [23,26,24] 27 34::zq [23,27] 28 35::zq [23,28] 29 36::zq [29] 30 37::zq [29] 31 38::zq [29] 32 39::zq [32] 33 40::zq [32] 34 41::zq [32] 35 42::zq [32] 36 43::zq [32] 37 44::zq [32] 38 45::zq [29] 39 46::zq [23,29] 40 47::zq [23,40] 41 48::[]) [(_,_),(_,_),(_,_)] rfl ⟨z1 rfl,z1 rfl,zp rfl (op_ix _ _ _ _ _ _ _ _ underlying22 sz5 (by decide) rfl rfl rfl (ix_ok hv2).1 (map_lt (ix_ok hv2).2) rfl),zp rfl (op_load_e _ _ _ _ _ _ underlying5 rfl rfl rfl (map_get hv3)),z4 rfl rfl,z8 hg4_5 rfl,zr' rfl (oM rfl),zr' rfl (oB rfl (ibind (f := Value.int .i64) (Option.some.inj hv4))),zr' rfl (oM rfl),zr' rfl (op_len_fl _ _ _ underlying22 rfl (by decide) (map_len _)),zr' rfl (oB rfl rfl),zr' rfl (op_move _ _ _ _ (zb hg4_11) rfl),zr' rfl (oM rfl),zr' rfl (oM rfl),zr' rfl (oB rfl (ibind (f := Value.int .i64) (Option.some.inj hv5))),zr' rfl (op_ix _ _ _ _ _ _ _ _ underlying22 sz5 (by decide) rfl rfl rfl (ix_ok hv6).1 (map_lt (ix_ok hv6).2) rfl),zr' rfl (op_load_e _ _ _ _ _ _ underlying5 rfl rfl rfl (map_get hv7)),zr' rfl (oB rfl rfl),zr' rfl (op_pick _ _ false _ rfl rfl),z3 true rfl,z8 hg4_20 rfl,zr' rfl (oM rfl),zr' rfl (oM rfl),zr' rfl (op_ix _ _ _ _ _ _ _ _ underlying22 sz5 (by decide) rfl rfl rfl (ix_ok hv8).1 (map_lt (ix_ok hv8).2) rfl),zr' rfl (op_load_e _ _ _ _ _ _ underlying5 rfl rfl rfl (map_get hv9)),zr' rfl (oB rfl rfl),zr' rfl (op_move _ _ _ _ (zb hg4_26) rfl),zt rfl,zt rfl,zt rfl,zu' rfl,zu' rfl,zu' rfl,zu' rfl,zu' rfl,zu' rfl,zt rfl,zr' rfl (op_pick _ _ false _ rfl rfl),z3 false rfl,zz⟩ ?_
         exact hl47 _ (Option.some.inj h).symm
     ·obtain ⟨v13, hv13, h⟩ := bind_some h
      obtain ⟨v14, hv14, h⟩ := bind_some h
      refine cond_some h (fun hg4_26 h => ?_) (fun hg4_26 h => ?_)
      ·refine cond_some h (fun hg4_29 h => ?_) (fun hg4_29 h => ?_)
       ·refine zg hn (_::_::_::(10,.fl .shr 1 (List.map (Value.int .u8) b))::(11,vi s31)::(12,.eref (.slot 10) (v2 * 1))::(13,.v (.int .u8 v3))::(14,vb (v3 == 13))::(15,vb false)::(16,.v undef)::(17,.v undef)::(18,.v undef)::(19,.v undef)::(20,.v undef)::(21,.v undef)::(22,.v undef)::(23,.v undef)::(24,.v undef)::(25,.v undef)::(26,.v undef)::(27,.v undef)::(28,.v undef)::(29,vb false)::(30,vb false)::(31,.fl .shr 1 (List.map (Value.int .u8) b))::(32,vi s31)::(33,.eref (.slot 31) (v13 * 1))::(34,.v (.int .u8 v14))::(35,vb (v14 == 10))::(36,vb true)::(37,vi s31)::(38,vb (s31 == 0))::(39,vb true)::(40,.v undef)::(41,.v undef)::(42,.v undef)::(43,.v undef)::(44,.v undef)::(45,.v undef)::(46,vb true)::(47,vb true)::(48,vb true)::[]) [0,1,2] [0,1,41] (zq [0] 3 10::zq [1] 4 11::zq [3,4] 5 12::zq [5,3] 6 13::zq [6] 7 14::zq [7] 8 15::zq [8] 9 16::zq [8] 10 17::zq [8] 11 18::zq [8] 12 19::zq [8] 13 20::zq [8] 14 21::zq [14] 15 22::zq [14] 16 23::zq [14] 17 24::zq [14] 18 25::zq [14] 19 26::zq [14] 20 27::zq [8] 21 28::zq [8] 22 29::zq [22] 23 30::zq [23,0] 24 31::zq [23,1] 25 32::zq [23,24,25] 26 33::zq [23,26,24] 27 34::zq [23,27] 28 35::zq [23,28] 29 36::zq [29,1] 30 37::zq [29,30] 31 38::zq [29,31] 32 39::zq [32] 33 40::zq [32] 34 41::zq [32] 35 42::zq [32] 36 43::zq [32] 37 44::zq [32] 38 45::zq [29,32] 39 46::zq [23,29,39] 40 47::zq [23,40] 41 48::[]) [(_,_),(_,_),(_,_)] rfl ⟨z1 rfl,z1 rfl,zp rfl (op_ix _ _ _ _ _ _ _ _ underlying22 sz5 (by decide) rfl rfl rfl (ix_ok hv2).1 (map_lt (ix_ok hv2).2) rfl),zp rfl (op_load_e _ _ _ _ _ _ underlying5 rfl rfl rfl (map_get hv3)),z4 rfl rfl,z8 hg4_5 rfl,zt rfl,zt rfl,zt rfl,zt rfl,zt rfl,zt rfl,zu' rfl,zu' rfl,zu' rfl,zu' rfl,zu' rfl,zu' rfl,zt rfl,z3 false rfl,z1 rfl,zr' rfl (oM rfl),zr' rfl (oM rfl),zr' rfl (op_ix _ _ _ _ _ _ _ _ underlying22 sz5 (by decide) rfl rfl rfl (ix_ok hv13).1 (map_lt (ix_ok hv13).2) rfl),zr' rfl (op_load_e _ _ _ _ _ _ underlying5 rfl rfl rfl (map_get hv14)),zr' rfl (oB rfl rfl),zr' rfl (op_move _ _ _ _ (zb hg4_26) rfl),zr' rfl (oM rfl),zr' rfl (oB rfl rfl),zr' rfl (op_move _ _ _ _ (zb hg4_29) rfl),zf rfl,zf rfl,zf rfl,zf rfl,zf rfl,zf rfl,zr' rfl (op_pick _ _ true _ rfl rfl),zr' rfl (op_pick _ _ true _ rfl rfl),z3 false rfl,zz⟩ ?_
        exact hl47 _ (Option.some.inj h).symm
       ·obtain ⟨v15, hv15, h⟩ := bind_some h
        obtain ⟨v16, hv16, h⟩ := bind_some h
        obtain ⟨v17, hv17, h⟩ := bind_some h
        refine zg hn (_::_::_::(10,.fl .shr 1 (List.map (Value.int .u8) b))::(11,vi s31)::(12,.eref (.slot 10) (v2 * 1))::(13,.v (.int .u8 v3))::(14,vb (v3 == 13))::(15,vb false)::(16,.v undef)::(17,.v undef)::(18,.v undef)::(19,.v undef)::(20,.v undef)::(21,.v undef)::(22,.v undef)::(23,.v undef)::(24,.v undef)::(25,.v undef)::(26,.v undef)::(27,.v undef)::(28,.v undef)::(29,vb false)::(30,vb false)::(31,.fl .shr 1 (List.map (Value.int .u8) b))::(32,vi s31)::(33,.eref (.slot 31) (v13 * 1))::(34,.v (.int .u8 v14))::(35,vb (v14 == 10))::(36,vb true)::(37,vi s31)::(38,vb (s31 == 0))::(39,vb false)::(40,.fl .shr 1 (List.map (Value.int .u8) b))::(41,vi s31)::(42,vi v15)::(43,.eref (.slot 40) (v16 * 1))::(44,.v (.int .u8 v17))::(45,vb (v17 != 13))::(46,vb (v17 != 13))::(47,vb (v17 != 13))::(48,vb (v17 != 13))::[]) [0,1,2] [0,1,41] (zq [0] 3 10::zq [1] 4 11::zq [3,4] 5 12::zq [5,3] 6 13::zq [6] 7 14::zq [7] 8 15::zq [8] 9 16::zq [8] 10 17::zq [8] 11 18::zq [8] 12 19::zq [8] 13 20::zq [8] 14 21::zq [14] 15 22::zq [14] 16 23::zq [14] 17 24::zq [14] 18 25::zq [14] 19 26::zq [14] 20 27::zq [8] 21 28::zq [8] 22 29::zq [22] 23 30::zq [23,0] 24 31::zq [23,1] 25 32::zq [23,24,25] 26 33::zq [23,26,24] 27 34::zq [23,27] 28 35::zq [23,28] 29 36::zq [29,1] 30 37::zq [29,30] 31 38::zq [29,31] 32 39::zq [32,0] 33 40::zq [32,1] 34 41::zq [32,34] 35 42::zq [32,33,35] 36 43::zq [32,36,33] 37 44::zq [32,37] 38 45::zq [29,32,38] 39 46::zq [23,29,39] 40 47::zq [23,40] 41 48::[]) [(_,_),(_,_),(_,_)] rfl ⟨z1 rfl,z1 rfl,zp rfl (op_ix _ _ _ _ _ _ _ _ underlying22 sz5 (by decide) rfl rfl rfl (ix_ok hv2).1 (map_lt (ix_ok hv2).2) rfl),zp rfl (op_load_e _ _ _ _ _ _ underlying5 rfl rfl rfl (map_get hv3)),z4 rfl rfl,z8 hg4_5 rfl,zt rfl,zt rfl,zt rfl,zt rfl,zt rfl,zt rfl,zu' rfl,zu' rfl,zu' rfl,zu' rfl,zu' rfl,zu' rfl,zt rfl,z3 false rfl,z1 rfl,zr' rfl (oM rfl),zr' rfl (oM rfl),zr' rfl (op_ix _ _ _ _ _ _ _ _ underlying22 sz5 (by decide) rfl rfl rfl (ix_ok hv13).1 (map_lt (ix_ok hv13).2) rfl),zr' rfl (op_load_e _ _ _ _ _ _ underlying5 rfl rfl rfl (map_get hv14)),zr' rfl (oB rfl rfl),zr' rfl (op_move _ _ _ _ (zb hg4_26) rfl),zr' rfl (oM rfl),zr' rfl (oB rfl rfl),zr' rfl (op_move _ _ _ _ (zb hg4_29) rfl),zr' rfl (oM rfl),zr' rfl (oM rfl),zr' rfl (oB rfl (ibind (f := Value.int .i64) (Option.some.inj hv15))),zr' rfl (op_ix _ _ _ _ _ _ _ _ underlying22 sz5 (by decide) rfl rfl rfl (ix_ok hv16).1 (map_lt (ix_ok hv16).2) rfl),zr' rfl (op_load_e _ _ _ _ _ _ underlying5 rfl rfl rfl (map_get hv17)),zr' rfl (oB rfl rfl),zr' rfl (op_pick _ _ false _ rfl rfl),zr' rfl (op_pick _ _ true _ rfl rfl),z3 false rfl,zz⟩ ?_
        exact hl47 _ (Option.some.inj h).symm
      ·refine zg hn (_::_::_::(10,.fl .shr 1 (List.map (Value.int .u8) b))::(11,vi s31)::(12,.eref (.slot 10) (v2 * 1))::(13,.v (.int .u8 v3))::(14,vb (v3 == 13))::(15,vb false)::(16,.v undef)::(17,.v undef)::(18,.v undef)::(19,.v undef)::(20,.v undef)::(21,.v undef)::(22,.v undef)::(23,.v undef)::(24,.v undef)::(25,.v undef)::(26,.v undef)::(27,.v undef)::(28,.v undef)::(29,vb false)::(30,vb false)::(31,.fl .shr 1 (List.map (Value.int .u8) b))::(32,vi s31)::(33,.eref (.slot 31) (v13 * 1))::(34,.v (.int .u8 v14))::(35,vb (v14 == 10))::(36,vb false)::(37,.v undef)::(38,.v undef)::(39,.v undef)::(40,.v undef)::(41,.v undef)::(42,.v undef)::(43,.v undef)::(44,.v undef)::(45,.v undef)::(46,.v undef)::(47,vb false)::(48,vb false)::[]) [0,1,2] [0,1,41] (zq [0] 3 10::zq [1] 4 11::zq [3,4] 5 12::zq [5,3] 6 13::zq [6] 7 14::zq [7] 8 15::zq [8] 9 16::zq [8] 10 17::zq [8] 11 18::zq [8] 12 19::zq [8] 13 20::zq [8] 14 21::zq [14] 15 22::zq [14] 16 23::zq [14] 17 24::zq [14] 18 25::zq [14] 19 26::zq [14] 20 27::zq [8] 21 28::zq [8] 22 29::zq [22] 23 30::zq [23,0] 24 31::zq [23,1] 25 32::zq [23,24,25] 26 33::zq [23,26,24] 27 34::zq [23,27] 28 35::zq [23,28] 29 36::zq [29] 30 37::zq [29] 31 38::zq [29] 32 39::zq [32] 33 40::zq [32] 34 41::zq [32] 35 42::zq [32] 36 43::zq [32] 37 44::zq [32] 38 45::zq [29] 39 46::zq [23,29] 40 47::zq [23,40] 41 48::[]) [(_,_),(_,_),(_,_)] rfl ⟨z1 rfl,z1 rfl,zp rfl (op_ix _ _ _ _ _ _ _ _ underlying22 sz5 (by decide) rfl rfl rfl (ix_ok hv2).1 (map_lt (ix_ok hv2).2) rfl),zp rfl (op_load_e _ _ _ _ _ _ underlying5 rfl rfl rfl (map_get hv3)),z4 rfl rfl,z8 hg4_5 rfl,zt rfl,zt rfl,zt rfl,zt rfl,zt rfl,zt rfl,zu' rfl,zu' rfl,zu' rfl,zu' rfl,zu' rfl,zu' rfl,zt rfl,z3 false rfl,z1 rfl,zr' rfl (oM rfl),zr' rfl (oM rfl),zr' rfl (op_ix _ _ _ _ _ _ _ _ underlying22 sz5 (by decide) rfl rfl rfl (ix_ok hv13).1 (map_lt (ix_ok hv13).2) rfl),zr' rfl (op_load_e _ _ _ _ _ _ underlying5 rfl rfl rfl (map_get hv14)),zr' rfl (oB rfl rfl),zr' rfl (op_move _ _ _ _ (zb hg4_26) rfl),zt rfl,zt rfl,zt rfl,zu' rfl,zu' rfl,zu' rfl,zu' rfl,zu' rfl,zu' rfl,zt rfl,zr' rfl (op_pick _ _ false _ rfl rfl),z3 false rfl,zz⟩ ?_
       exact hl47 _ (Option.some.inj h).symm
   ·have h := cond_f hb44 h
    refine ht_exit ?_
    refine pt_x_then ?_
    refine pt_x_then ?_
    refine pt_x_in ?_
    refine pt_pick [0] (by kernel_rfl) (es' := [(_,_)]) rfl ?_
    exact hl39 _ (ho41 _ (Option.some.inj h).symm).symm
end Go.Proofs.YtabnbhknefibaaaDoor
