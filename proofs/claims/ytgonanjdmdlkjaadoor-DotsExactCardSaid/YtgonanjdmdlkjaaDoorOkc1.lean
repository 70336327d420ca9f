/-
  The model's runs are what is told in Lean.
-/
import Derived.Test.YtgonanjdmdlkjaaDoorProg
import Derived.KernelRfl
import Derived.Test.YtgonanjdmdlkjaaDoorShelf
import Derived.Test.YtgonanjdmdlkjaaDoorIdx
import Derived.Test.YtgonanjdmdlkjaaDoorBD
import Derived.Test.YtgonanjdmdlkjaaDoorC1
import Derived.Test.YtgonanjdmdlkjaaDoorSh
set_option linter.unusedVariables false
set_option linter.unusedSimpArgs false
set_option maxHeartbeats 1000000
namespace Go.Proofs.YtgonanjdmdlkjaaDoor
open Go.Abs Go.Abs.Sh Tryd
def GL (mx : Int) : List (Nat × List Value) := [(0, [.int .i64 mx]), (1, (List.map (Value.int .u8) utf8_first)), (2, (List.map (Value.int .u8) utf8_accept))]
theorem gl_mem0 (mx : Int) : (0, ([.int .i64 mx] : List Value)) ∈ GL mx := .head _
theorem gl_mem1 (mx : Int) : (1, ((List.map (Value.int .u8) utf8_first) : List Value)) ∈ GL mx := .tail _ (.head _)
theorem gl_mem2 (mx : Int) : (2, ((List.map (Value.int .u8) utf8_accept) : List Value)) ∈ GL mx := .tail _ (.tail _ (.head _))
instance iUD22 : UD Tryd.prog 22 (.slice 5) := ⟨Tryd.underlying22⟩
theorem el22 : ElemT Tryd.prog 22 5 1 1 := ⟨⟨Tryd.t5, .int .u8 0, Tryd.underlying22, by kernel_rfl, by kernel_rfl, by kernel_rfl, by kernel_rfl, by decide, by kernel_rfl⟩⟩
theorem zr24 : (Tryd.prog.info? 24).bind (·.zero) = some (.int .i64 0) := by kernel_rfl
theorem zr3 : (Tryd.prog.info? 3).bind (·.zero) = some (.int .i64 0) := by kernel_rfl
instance iAG3 : AS Tryd.prog 3 := ⟨by kernel_rfl⟩
theorem sz5 : (Tryd.prog.info? 5).map (·.size) = some 1 := by kernel_rfl
theorem zr5 : (Tryd.prog.info? 5).bind (·.zero) = some (.int .u8 0) := by kernel_rfl
instance iAG22 : AS Tryd.prog 22 := ⟨by kernel_rfl⟩
theorem sz22 : (Tryd.prog.info? 22).map (·.size) = some 1 := by kernel_rfl
instance iAG24 : AS Tryd.prog 24 := ⟨by kernel_rfl⟩
theorem zr22 : (Tryd.prog.info? 22).bind (·.zero) = some (.slice none 0 0) := by kernel_rfl
instance iUD9 : UD Tryd.prog 9 .string := ⟨Tryd.underlying9⟩
instance iUD5 : UD Tryd.prog 5 (.int .u8) := ⟨Tryd.underlying5⟩
theorem zr4 : (Tryd.prog.info? 4).bind (·.zero) = some (.bool false) := by kernel_rfl
instance iAG4 : AS Tryd.prog 4 := ⟨by kernel_rfl⟩
instance iSZ5 : SZ Tryd.prog 5 1 := ⟨by kernel_rfl⟩
instance iAG5 : AS Tryd.prog 5 := ⟨by kernel_rfl⟩
theorem zr29 : (Tryd.prog.info? 29).bind (·.zero) = some (.slice none 0 0) := by kernel_rfl
theorem sz29 : (Tryd.prog.info? 29).map (·.size) = some 1 := by kernel_rfl
instance iAG29 : AS Tryd.prog 29 := ⟨by kernel_rfl⟩
theorem el29 : ElemT Tryd.prog 29 22 1 24 := ⟨⟨Tryd.t22, .slice none 0 0, Tryd.underlying29, by kernel_rfl, by kernel_rfl, by kernel_rfl, by kernel_rfl, by decide, by kernel_rfl⟩⟩
instance iUD29 : UD Tryd.prog 29 (.slice 22) := ⟨Tryd.underlying29⟩
instance iLiRow_int_u8 : LenI Row_int_u8.ienc 1 := ⟨Row_int_u8.ilen⟩
instance iSZ22 : SZ Tryd.prog 22 1 := ⟨by kernel_rfl⟩
theorem ok_wherrykeep_Twin (l : (List Int)) (r : (List Int)) (h : Sh.wherrykeep_Twin l = some r) : FnOK Tryd.prog 10 [.fl .shr 1 (List.map (Value.int .u8) l)] (.fl (.own 5) 1 (List.map (Value.int .u8) r)) := by
  unfold Sh.wherrykeep_Twin at h
  refine yO 7 func10 fun g0 hn hio => ?_
  refine yyy hn 1 [0] ?_
  refine yyy hn 1 [0,3] ?_
  refine ht_seq ?_
  obtain ⟨v1, hv1, h⟩ := bind_some h
  refine yx hn 2 ?_
  refine yS (.fl (.own 5) 1 (List.map (Value.int .u8) v1)) 0 ⟨op_app_nil _ _ _ _ el22 rfl rfl (map_len _) hv1 (congrArg (List.map _) (app_nil_eq hv1))⟩ ?_
  refine ya 0 ?_
  refine yee [2] ?_
  refine ht_ret ?_
  obtain rfl := Option.some.inj h
  exact pt_ret hio rfl (.tmp _ _ .nil) rfl rfl
theorem ok_dots_lines (b : (List Int)) (r : (List Int)) (h : Sh.dots_lines b = some r) : FnOK Tryd.prog 22 [.fl .shr 1 (List.map (Value.int .u8) b)] (.cloB 29 [.box 22 [.fl .shr 1 (List.map (Value.int .u8) r)]]) := by
  unfold Sh.dots_lines at h
  refine yO 4 func22 fun g0 hn hio => ?_
  refine yyy hn 2 [1] ?_
  refine yxx hn 0 ?_
  refine yk [1] [] ?_
  refine yt (3, .cloB 29 [.box 22 [.fl .shr 1 (List.map (Value.int .u8) b)]]) 0 ⟨op_mkclo _ _ [1] [.box 22 [.fl .shr 1 (List.map (Value.int .u8) b)]] rfl rfl rfl⟩ ?_
  refine ya 0 ?_
  refine yee [2] ?_
  refine ht_ret ?_
  obtain rfl := Option.some.inj h
  exact pt_ret hio rfl (.tmp _ _ .nil) rfl rfl
theorem ok_bytes_Index (mx : Int) (s sep : List Int) (r : Int) (h : Sh.bytes_Index s sep = some r) : FnG Tryd.prog (GL mx) 33 [.fl .shr 1 (List.map (Value.int .u8) s), .fl .shr 1 (List.map (Value.int .u8) sep)] (.v (.int .i64 r)) :=
  lib_bytes_Index (gl_mem0 mx) Tryd.bytes_Index_at Tryd.bytes_Index_longer s sep r h
theorem ok_bytes_Cut_sh (mx : Int) (s : (List Int)) (sep : (List Int)) (r : ((List Int) × (List Int) × Bool)) (h : Sh.bytes_Cut_sh s sep = some r) : FnG Tryd.prog (GL mx) 30 [.fl .shr 1 (List.map (Value.int .u8) s), .fl .shr 1 (List.map (Value.int .u8) sep)] (.tup [.fl .shr 1 (List.map (Value.int .u8) r.1), .fl .shr 1 (List.map (Value.int .u8) r.2.1), .v (.bool r.2.2)]) := by
  unfold Sh.bytes_Cut_sh at h
  refine yG 23 func30 fun g0 hn hio => ?_
  refine yyy hn 3 [0,1,23] ?_
  refine ht_seq ?_
  refine ht_seq ?_
  obtain ⟨v1, hv1, h⟩ := bind_some h
  refine yx hn 2 ?_
  refine ys 1 ⟨lg call33 (ok_bytes_Index _ _ _ _ hv1) 23⟩ ?_
  refine yee [0,1,23,7] ?_
  refine yyy hn 2 [0,1,23,7,12] ?_
  refine ht_cond _ rfl (fun hb2 => ?_) (fun hb2 => ?_)
  ·have h := cond_t hb2 h
   refine ht_seq ?_
   obtain ⟨v3, hv3, h⟩ := bind_some h
   obtain ⟨v4, hv4, h⟩ := bind_some h
   obtain ⟨v5, hv5, h⟩ := bind_some h
   refine wb [[0],[7]] ?_
   refine wN [13,14] ?_
   refine wS (.fl .shr 1 (List.map (Value.int .u8) v3)) [[0],[7],[1],[18]] ⟨op_sl _ _ _ 0 v1 _ underlying22 sz5 rfl rfl rfl ⟨_, rfl⟩ hv3⟩ ?_
   refine wN [17,19] ?_
   refine wo [] ⟨lb hv4⟩ ?_
   refine wN [16,20] ?_
   refine wS (.fl .shr 1 (List.map (Value.int .u8) v5)) [[15],[21],[]] ⟨op_sl _ _ _ v4 (s.length : Int) _ underlying22 sz5 rfl rfl ⟨_, rfl⟩ rfl hv5⟩ ?_
   refine wee hn [23,4,5,6] ?_
   refine ht_ret ?_
   refine pt_pick [1, 2, 3] (by kernel_rfl) (es' := [(_,_),(_,_),(_,_)]) rfl ?_
   refine pt_r_then ?_
   obtain rfl := Option.some.inj h
   exact pt_ret hio rfl (.tmp _ _ (.tmp _ _ (.tmp _ _ .nil))) rfl rfl
  ·have h := cond_f hb2 h
   refine ht_skip ?_
   refine pt_then ?_
   refine yyy hn 4 [23,4,5,6] ?_
   refine ht_ret ?_
   refine pt_pick [1, 2, 3] (by kernel_rfl) (es' := [(_,_),(_,_),(_,_)]) rfl ?_
   refine pt_sub (fs := [(4, .fl .shr 1 (List.map (Value.int .u8) s)), (5, .fl .shr 1 (List.map (Value.int .u8) [])), (6, .v (.bool false))]) (.same _ (.sub _ (sub_nil_shr 1) rfl (.same _ .nil))) ?_
   obtain rfl := Option.some.inj h
   exact pt_ret hio rfl (.tmp _ _ (.tmp _ _ (.tmp _ _ .nil))) rfl rfl
theorem ok_dots_lines_1 (mx : Int) (l : Nat) {S : Type} (J : S → InvT) (Y : (List Int) → S → Option (S × Bool)) (hY : YieldOK Tryd.prog l (fun x => .fl .shr 1 (List.map (Value.int .u8) x)) Y J) (c0 : (List Int)) (st r : S) (h : Sh.dots_lines_1 Y c0 st = some r) : FnI Tryd.prog (GL mx) 29 l [.box 22 [.fl .shr 1 (List.map (Value.int .u8) c0)]] (J st) (J r) := by
  unfold Sh.dots_lines_1 at h
  refine yI 23 func29 fun g0 hn hio => ?_
  refine ht_loopS h (fun ((s17, s18) : (List Int) × S) => [(0, .v (.func (.yield l) #[] #[])), (1, .box 22 [.fl .shr 1 (List.map (Value.int .u8) s17)]), (23, .glob (GL mx)), (24, .inv (J s18))]) (fun (() : Unit) => []) ?_ ?_
  ·rintro ⟨⟩ h
   cases h
  ·rintro u25 hl26 hr27 ⟨s17, s18⟩ rr30 h ho28
   refine ht_block ?_
   refine ht_seq ?_
   obtain ⟨v1, hv1, h⟩ := bind_some h
   refine yx hn 1 ?_
   refine yS (.fl (.own 5) 1 (List.map (Value.int .u8) [13, 10])) 0 ⟨op_buildSlice _ _ 1 (.int .u8 0) (List.map (Value.int .u8) [13, 10]) [(0, .int .u8 13), (1, .int .u8 10)] underlying22 sz5 zr5 (fun _ V w o a hv hes => by simp only [List.map_toArray, List.map_cons, List.map_nil]; try rfl) (litfill (by simp [Instr.fill, Value.cells]; rfl) (by simp [List.range, List.range.loop] <;> rfl)) (by simp [Value.oneCell']) rfl (by decide) (by decide) (by decide)⟩ ?_
   refine yk [8] [] ?_
   refine yt (9, .fl .ro 1 (List.map (Value.int .u8) [13, 10])) 0 ⟨op_conv_mark _ _ _ underlying22 underlying5 (by intro h; cases h)⟩ ?_
   refine yk [] [7,9,23] ?_
   refine yt (10, .tup [.fl .shr 1 (List.map (Value.int .u8) v1.1), .fl .shr 1 (List.map (Value.int .u8) v1.2.1), .v (.bool v1.2.2)]) 0 ⟨op_callSG _ _ 23 30 _ _ rfl call30 rfl rfl rfl (fun _ h => h) (ok_bytes_Cut_sh mx s17 [13, 10] _ hv1) rfl⟩ ?_
   refine ym 6 ?_
   refine yee [0,1,23,24,3,4,5] ?_
   refine ht_seq ?_
   refine ht_seq ?_
   refine ht_joinS h (fun ((s31, s32) : S × Bool) => [(0, .v (.func (.yield l) #[] #[])), (1, .box 22 [.fl .shr 1 (List.map (Value.int .u8) s17)]), (23, .glob (GL mx)), (24, .inv (J s31)), (4, .fl .shr 1 (List.map (Value.int .u8) v1.2.1)), (21, .v (.bool s32))]) ?_ ?_
   ·rintro ⟨s31, s32⟩ h
    refine pt_then ?_
    refine ht_cond _ rfl (fun hb36 => ?_) (fun hb36 => ?_)
    ·have h := cond_t hb36 h
     refine ht_ret ?_
     refine pt_pick [3] (by kernel_rfl) (es' := [(24, .inv (J s31))]) rfl ?_
     refine pt_r_then ?_
     refine pt_r_in ?_
     refine pt_r_then ?_
     refine pt_r_in ?_
     have h := hr27 _ (ho28 _ (Option.some.inj h).symm).symm
     obtain rfl := Option.some.inj h
     exact pt_retI hio rfl rfl rfl
    ·have h := cond_f hb36 h
     refine ht_skip ?_
     refine pt_then ?_
     refine yy hn 2 [0,1,23,24] ?_
     refine pt_inb ?_
     exact pt_next _ (Option.some.inj h).symm rfl
   ·intro u33 h hl34 hr35
    refine cond_some h (fun hg1_2 h => ?_) (fun hg1_2 h => ?_)
    ·refine yx hn 3 ?_
     refine yd hg1_2 5 ?_
     refine ye [0,1,23,24,4,21] ?_
     exact hl34 _ (Option.some.inj h).symm
    ·obtain ⟨v2, hv2, h⟩ := bind_some h
     refine yx hn 3 ?_
     refine yd hg1_2 2 ?_
     refine yk [24] [18,17] ?_
     refine ytt (24, .inv (J v2.1)) (19, .v (.bool v2.2)) 2 ⟨op_yield _ _ 24 l v1.1 s18 v2 hY hv2 rfl rfl rfl⟩ ?_
     refine ye [0,1,23,24,4,21] ?_
     exact hl34 _ (Option.some.inj h).symm
theorem ok_bytes_IndexAny (mx : Int) (s : List Int) (c : ByteArray) (r : Int) (h : Sh.bytes_IndexAny s c = some r) : FnG Tryd.prog (GL mx) 32 [.fl .shr 1 (List.map (Value.int .u8) s), .v (.string c)] (.v (.int .i64 r)) :=
  lib_bytes_IndexAny (gl_mem0 mx) (gl_mem1 mx) (gl_mem2 mx) (fun s b off c w hs hnc hb hm hmb k1 k2 HG hp => Tryd.idx_crlf s b off c w mx hs hnc hb hm hmb (tabs_lists utf8_first utf8_accept (by kernel_rfl) (by kernel_rfl) k1 k2) HG hp) Tryd.idx_none s c r h
theorem ok_bytes_ContainsAny (mx : Int) (b : (List Int)) (chars : ByteArray) (r : Bool) (h : Sh.bytes_ContainsAny b chars = some r) : FnG Tryd.prog (GL mx) 28 [.fl .shr 1 (List.map (Value.int .u8) b), .v (.string chars)] (.v (.bool r)) := by
  unfold Sh.bytes_ContainsAny at h
  refine yG 9 func28 fun g0 hn hio => ?_
  refine yyy hn 1 [0,1,9] ?_
  refine ht_seq ?_
  obtain ⟨v1, hv1, h⟩ := bind_some h
  refine yx hn 2 ?_
  refine ys 2 ⟨lg call32 (ok_bytes_IndexAny _ _ _ _ hv1) 9⟩ ?_
  refine yee [9,4] ?_
  refine ht_ret ?_
  refine pt_pick [1] (by kernel_rfl) (es' := [(_,_)]) rfl ?_
  obtain rfl := Option.some.inj h
  exact pt_ret hio rfl (.tmp _ _ .nil) rfl rfl
theorem ok_dots_Check (mx : Int) (b : (List Int)) (r : Int) (h : Sh.dots_Check b = some r) : FnG Tryd.prog (GL mx) 17 [.fl .shr 1 (List.map (Value.int .u8) b)] (.v (.int .i64 r)) := by
  unfold Sh.dots_Check at h
  refine yG 19 func17 fun g0 hn hio => ?_
  refine yxx hn 0 ?_
  refine yS (.box 24 [.v (.int .i64 0)]) 0 ⟨oA (op_alloc _ _ zr24)⟩ ?_
  refine yee [0,19,2] ?_
  refine yxx hn 0 ?_
  refine yS (.box 3 [.v (.int .i64 0)]) 1 ⟨oA (op_alloc _ _ zr3)⟩ ?_
  refine yee [0,19,2,3] ?_
  refine ht_seq ?_
  refine ht_seq ?_
  obtain ⟨v1, hv1, h⟩ := bind_some h
  refine yx hn 1 ?_
  refine yk [] [5] ?_
  refine yt (6, .cloB 29 [.box 22 [.fl .shr 1 (List.map (Value.int .u8) v1)]]) 0 ⟨op_callS _ _ 22 _ _ rfl call22 rfl rfl (ok_dots_lines b _ hv1) rfl⟩ ?_
  refine yee [0,19,2,3,6] ?_
  refine ht_block ?_
  refine ht_pick [4, 0, 1, 2, 3] (by kernel_rfl) (es' := [(6, .cloB 29 [.box 22 [.fl .shr 1 (List.map (Value.int .u8) v1)]]), (0, .fl .shr 1 (List.map (Value.int .u8) b)), (19, .glob (GL mx)), (2, .box 24 [.v (.int .i64 0)]), (3, .box 3 [.v (.int .i64 0)])]) rfl ?_
  refine ht_rangeF h 29 6 7 20 _ [0, 19, 2, 3] call29 (fun (s8 : Int) => [(0, .fl .shr 1 (List.map (Value.int .u8) b)), (19, .glob (GL mx)), (2, .box 24 [.v (.int .i64 0)]), (3, .box 3 [.v (.int .i64 s8)])]) (fun (s10 : Int) => [(0, .fl .shr 1 (List.map (Value.int .u8) b)), (19, .glob (GL mx)), (2, .box 24 [.v (.int .i64 5)]), (3, .box 3 [.v (.int .i64 s10)])]) (fun l J Y hY t t' h => ok_dots_lines_1 mx l J Y hY v1 t t' h) hn rfl (fun _ => rfl) (fun _ => rfl) (fun _ => rfl) rfl rfl (fun _ => ⟨rfl, rfl⟩) rfl (glIn_look 19 rfl) ?_ ?_ ?_
  ·rintro kk g0 hn hio x s8 u h
   refine ht_es (es' := [(7, .fl .shr 1 (List.map (Value.int .u8) x)), (0, .fl .shr 1 (List.map (Value.int .u8) b)), (19, .glob (GL mx)), (2, .box 24 [.v (.int .i64 0)]), (3, .box 3 [.v (.int .i64 s8)]), (0, .v (kk.tm.getD 0 undef)), (19, .v (kk.tm.getD 19 undef)), (2, .v (kk.tm.getD 2 undef)), (3, .v (kk.tm.getD 3 undef)), (20, .inv kk.ready)]) rfl ?_
   refine yy hn 1 [0,19,2,3,20,4,0,19,2,3] ?_
   refine pt_pick [0, 1, 2, 3, 5, 6, 7, 8, 9, 4] (by kernel_rfl) (es' := [(0, .fl .shr 1 (List.map (Value.int .u8) b)), (19, .glob (GL mx)), (2, .box 24 [.v (.int .i64 0)]), (3, .box 3 [.v (.int .i64 s8)]), (4, .fl .shr 1 (List.map (Value.int .u8) x)), (0, .v (kk.tm.getD 0 undef)), (19, .v (kk.tm.getD 19 undef)), (2, .v (kk.tm.getD 2 undef)), (3, .v (kk.tm.getD 3 undef)), (20, .inv kk.ready)]) rfl ?_
   refine pt_begin (es := [(0, .fl .shr 1 (List.map (Value.int .u8) b)), (19, .glob (GL mx)), (2, .box 24 [.v (.int .i64 0)]), (3, .box 3 [.v (.int .i64 s8)]), (4, .fl .shr 1 (List.map (Value.int .u8) x)), (0, .v (kk.tm.getD 0 undef)), (19, .v (kk.tm.getD 19 undef)), (2, .v (kk.tm.getD 2 undef)), (3, .v (kk.tm.getD 3 undef))]) 20 rfl ?_
   refine ht_block ?_
   refine ht_seq ?_
   refine ht_seq ?_
   obtain ⟨v2, hv2, h⟩ := bind_some h
   refine yx hn 1 ?_
   refine ys 0 ⟨lg call28 (ok_bytes_ContainsAny _ _ _ _ hv2) 19⟩ ?_
   refine yee [0,19,2,3,4,20,9,0,19,2,3] ?_
   refine ht_cond _ rfl (fun hb11 => ?_) (fun hb11 => ?_)
   ·have h := cond_t hb11 h
    refine yyy hn 1 [0,19,2,3,20,0,19,2,3] ?_
    refine ht_ret ?_
    refine pt_r_then ?_
    refine pt_r_in ?_
    refine pt_pick [0, 1, 2, 3, 5, 6, 7, 8, 4] (by kernel_rfl) (es' := [(_,_),(_,_),(_,_),(_,_),(_,_),(_,_),(_,_),(_,_),(_,_)]) rfl ?_
    obtain rfl := Option.some.inj h
    exact pt_rret 20 [0, 19, 2, 3] _ rfl rfl (by kernel_rfl)
   ·have h := cond_f hb11 h
    refine ht_skip ?_
    refine pt_then ?_
    obtain ⟨v4, hv4, h⟩ := bind_some h
    obtain ⟨v5, hv5, h⟩ := bind_some h
    refine yx hn 3 ?_
    refine ys 0 ⟨lb hv4⟩ ?_
    refine ys 1 ⟨lb hv5⟩ ?_
    refine ye [0,19,2,3,20,0,19,2,3] ?_
    refine pt_inb ?_
    refine pt_pick [0, 1, 2, 3, 5, 6, 7, 8, 4] (by kernel_rfl) (es' := [(_,_),(_,_),(_,_),(_,_),(_,_),(_,_),(_,_),(_,_),(_,_)]) rfl ?_
    obtain rfl := Option.some.inj h
    exact pt_rnext 20 [0, 19, 2, 3] _ rfl rfl (by kernel_rfl)
  ·rintro D s8 h
   refine pt_inb ?_
   refine pt_then (ht_seq ?_)
   refine yyy hn 4 [19,2,18] ?_
   refine ht_cond _ rfl (fun hb12 => ?_) (fun hb12 => ?_)
   ·have h := cond_t hb12 h
    refine yyy hn 1 [19,2] ?_
    refine ht_ret ?_
    refine pt_pick [1] (by kernel_rfl) (es' := [(_,_)]) rfl ?_
    refine pt_r_then ?_
    obtain rfl := Option.some.inj h
    exact pt_ret hio rfl (.cell1 _ _ _ _ underlying24 rfl .nil) rfl rfl
   ·have h := cond_f hb12 h
    refine ht_skip ?_
    refine pt_then ?_
    refine yyy hn 1 [19,2] ?_
    refine ht_ret ?_
    refine pt_pick [1] (by kernel_rfl) (es' := [(_,_)]) rfl ?_
    obtain rfl := Option.some.inj h
    exact pt_ret hio rfl (.cell1 _ _ _ _ underlying24 rfl .nil) rfl rfl
  ·rintro D s10 h
   refine pt_pick [2] (by kernel_rfl) (es' := [(_,_)]) rfl ?_
   refine pt_r_in ?_
   refine pt_r_then ?_
   obtain rfl := Option.some.inj h
   exact pt_ret hio rfl (.cell1 _ _ _ _ underlying24 rfl .nil) rfl rfl
theorem ok_bytes_Equal (a : (List Int)) (b : (List Int)) (r : Bool) (h : Sh.bytes_Equal a b = some r) : FnOK Tryd.prog 31 [.fl .shr 1 (List.map (Value.int .u8) a), .fl .shr 1 (List.map (Value.int .u8) b)] (.v (.bool r)) := by
  unfold Sh.bytes_Equal at h
  refine yO 10 func31 fun g0 hn hio => ?_
  refine yyy hn 1 [0,1] ?_
  refine ht_seq ?_
  obtain ⟨v1, hv1, h⟩ := bind_some h
  obtain ⟨v2, hv2, h⟩ := bind_some h
  refine yx hn 1 ?_
  refine ys 1 ⟨lS hv1⟩ ?_
  refine ys 2 ⟨lS hv2⟩ ?_
  refine yee [4] ?_
  refine ht_ret ?_
  obtain rfl := Option.some.inj h
  exact pt_ret hio rfl (.tmp _ _ .nil) rfl rfl
theorem ok_bytes_HasPrefix (s : (List Int)) (prefix_ : (List Int)) (r : Bool) (h : Sh.bytes_HasPrefix s prefix_ = some r) : FnOK Tryd.prog 23 [.fl .shr 1 (List.map (Value.int .u8) s), .fl .shr 1 (List.map (Value.int .u8) prefix_)] (.v (.bool r)) := by
  unfold Sh.bytes_HasPrefix at h
  refine yO 18 func23 fun g0 hn hio => ?_
  refine yyy hn 1 [0,1] ?_
  refine ht_seq ?_
  refine ht_joinS h (fun (s3 : Bool) => [(4, .v (.bool s3))]) ?_ ?_
  ·rintro s3 h
   refine pt_then (ht_ret ?_)
   obtain rfl := Option.some.inj h
   exact pt_ret hio rfl (.tmp _ _ .nil) rfl rfl
  ·intro u4 h hl5 hr6
   refine cond_some h (fun hg1_5 h => ?_) (fun hg1_5 h => ?_)
   ·obtain ⟨v1, hv1, h⟩ := bind_some h
    obtain ⟨v2, hv2, h⟩ := bind_some h
    refine yx hn 6 ?_
    refine yd hg1_5 3 ?_
    refine yS (.fl .shr 1 (List.map (Value.int .u8) v1)) 1 ⟨op_sl _ _ _ 0 (prefix_.length : Int) _ underlying22 sz5 rfl rfl rfl ⟨_, rfl⟩ hv1⟩ ?_
    refine ys 2 ⟨lk call31 (ok_bytes_Equal _ _ _ hv2)⟩ ?_
    refine ye [4] ?_
    exact hl5 _ (Option.some.inj h).symm
   ·refine yx hn 6 ?_
    refine yd hg1_5 8 ?_
    refine ye [4] ?_
    exact hl5 _ (Option.some.inj h).symm
theorem ok_dots_Stuff (mx : Int) (b : (List Int)) (r : ((List Int) × Int)) (h : Sh.dots_Stuff b = some r) : FnG Tryd.prog (GL mx) 11 [.fl .shr 1 (List.map (Value.int .u8) b)] (.tup [.fl (.own 5) 1 (List.map (Value.int .u8) r.1), .v (.int .i64 r.2)]) := by
  unfold Sh.dots_Stuff at h
  refine yG 28 func11 fun g0 hn hio => ?_
  refine yyy hn 2 [0,28] ?_
  refine ht_seq ?_
  refine ht_seq ?_
  obtain ⟨v1, hv1, h⟩ := bind_some h
  refine yx hn 1 ?_
  refine ys 1 ⟨lg call17 (ok_dots_Check _ _ _ hv1) 28⟩ ?_
  refine yee [0,28,4] ?_
  refine yyy hn 2 [0,28,4,10] ?_
  refine ht_cond _ rfl (fun hb2 => ?_) (fun hb2 => ?_)
  ·have h := cond_t hb2 h
   refine yyy hn 3 [28,2,3] ?_
   refine ht_ret ?_
   refine pt_pick [1, 2] (by kernel_rfl) (es' := [(_,_),(_,_)]) rfl ?_
   refine pt_sub (fs := [(2, .fl (.own 5) 1 (List.map (Value.int .u8) [])), (3, .v (.int .i64 v1))]) (.sub _ (sub_nil 5 1) rfl (.same _ .nil)) ?_
   refine pt_r_then ?_
   obtain rfl := Option.some.inj h
   exact pt_ret hio rfl (.tmp _ _ (.tmp _ _ .nil)) rfl rfl
  ·have h := cond_f hb2 h
   refine ht_skip ?_
   refine pt_then ?_
   refine yxx hn 0 ?_
   refine yS (.box 22 [.v (.slice none 0 0)]) 0 ⟨oA (op_alloc _ _ zr22)⟩ ?_
   refine yee [0,28,5] ?_
   refine ht_seq ?_
   refine ht_seq ?_
   obtain ⟨v3, hv3, h⟩ := bind_some h
   refine yx hn 1 ?_
   refine yk [] [12] ?_
   refine yt (13, .cloB 29 [.box 22 [.fl .shr 1 (List.map (Value.int .u8) v3)]]) 0 ⟨op_callS _ _ 22 _ _ rfl call22 rfl rfl (ok_dots_lines b _ hv3) rfl⟩ ?_
   refine yee [28,5,13] ?_
   refine ht_block ?_
   refine ht_pick [2, 0, 1] (by kernel_rfl) (es' := [(13, .cloB 29 [.box 22 [.fl .shr 1 (List.map (Value.int .u8) v3)]]), (28, .glob (GL mx)), (5, .box 22 [.v (.slice none 0 0)])]) rfl ?_
   refine ht_sub (fs := [(13, .cloB 29 [.box 22 [.fl .shr 1 (List.map (Value.int .u8) v3)]]), (28, .glob (GL mx)), (5, .box 22 [.fl (.own 5) 1 (List.map (Value.int .u8) [])])]) (.same _ (.same _ (.box _ _ (subs_cons (sub_nil 5 1) (subs_nil)) rfl .nil))) ?_
   refine ht_rangeF h 29 13 14 29 _ [28, 5] call29 (fun (s21 : (List Int)) => [(28, .glob (GL mx)), (5, .box 22 [.fl (.own 5) 1 (List.map (Value.int .u8) s21)])]) (fun (() : Unit) => []) (fun l J Y hY t t' h => ok_dots_lines_1 mx l J Y hY v3 t t' h) hn rfl (fun _ => rfl) (fun _ => rfl) (fun _ => rfl) rfl rfl (fun _ => ⟨rfl, rfl⟩) rfl (glIn_look 28 rfl) ?_ ?_ ?_
   ·rintro kk g0 hn hio x s21 u h
    refine ht_es (es' := [(14, .fl .shr 1 (List.map (Value.int .u8) x)), (28, .glob (GL mx)), (5, .box 22 [.fl (.own 5) 1 (List.map (Value.int .u8) s21)]), (28, .v (kk.tm.getD 28 undef)), (5, .v (kk.tm.getD 5 undef)), (29, .inv kk.ready)]) rfl ?_
    refine yy hn 1 [28,5,29,6,28,5] ?_
    refine pt_pick [0, 1, 3, 4, 5, 2] (by kernel_rfl) (es' := [(28, .glob (GL mx)), (5, .box 22 [.fl (.own 5) 1 (List.map (Value.int .u8) s21)]), (6, .fl .shr 1 (List.map (Value.int .u8) x)), (28, .v (kk.tm.getD 28 undef)), (5, .v (kk.tm.getD 5 undef)), (29, .inv kk.ready)]) rfl ?_
    refine pt_begin (es := [(28, .glob (GL mx)), (5, .box 22 [.fl (.own 5) 1 (List.map (Value.int .u8) s21)]), (6, .fl .shr 1 (List.map (Value.int .u8) x)), (28, .v (kk.tm.getD 28 undef)), (5, .v (kk.tm.getD 5 undef))]) 29 rfl ?_
    refine ht_block ?_
    refine ht_seq ?_
    refine ht_joinS h (fun (s29 : (List Int)) => [(28, .glob (GL mx)), (5, .box 22 [.fl (.own 5) 1 (List.map (Value.int .u8) s29)]), (6, .fl .shr 1 (List.map (Value.int .u8) x)), (29, .inv kk.busy), (28, .v (kk.tm.getD 28 undef)), (5, .v (kk.tm.getD 5 undef))]) ?_ ?_
    ·rintro s29 h
     refine pt_then (ht_seq ?_)
     obtain ⟨v12, hv12, h⟩ := bind_some h
     refine yx hn 2 ?_
     refine yk [5] [21,22] ?_
     refine ytt (5, .box 22 [.any]) (23, .fl (.own 5) 1 (List.map (Value.int .u8) v12)) 0 ⟨op_app_cell _ _ _ _ _ _ el22 rfl rfl (zl rfl) rfl (map_len _) (map_len _) hv12 ((List.map_append).symm.trans (congrArg (List.map _) (app_eq hv12))) (Nat.ne_of_beq_eq_false rfl) rfl rfl⟩ ?_
     refine yw [21] 0 ?_
     refine yk [23,5] [] ?_
     refine yt (5, .box 22 [.fl (.own 5) 1 (List.map (Value.int .u8) v12)]) 0 ⟨op_store_take _ _ _ _ _ _ _ _ sz22 rfl rfl rfl (zl rfl) rfl rfl⟩ ?_
     refine yee [28,5,29,28,5] ?_
     obtain ⟨v13, hv13, h⟩ := bind_some h
     refine yx hn 1 ?_
     refine yk [5] [24] ?_
     refine ytt (5, .box 22 [.any]) (25, .fl (.own 5) 1 (List.map (Value.int .u8) v13)) 0 ⟨op_apps_cell _ _ _ _ _ _ el22 zr5 underlying9 rfl rfl (zl rfl) rfl rfl hv13 rfl (Nat.ne_of_beq_eq_false rfl) rfl rfl⟩ ?_
     refine yw [24] 0 ?_
     refine yk [25,5] [] ?_
     refine yt (5, .box 22 [.fl (.own 5) 1 (List.map (Value.int .u8) v13)]) 0 ⟨op_store_take _ _ _ _ _ _ _ _ sz22 rfl rfl rfl (zl rfl) rfl rfl⟩ ?_
     refine ye [28,5,29,28,5] ?_
     refine pt_inb ?_
     refine pt_pick [0, 1, 3, 4, 2] (by kernel_rfl) (es' := [(_,_),(_,_),(_,_),(_,_),(_,_)]) rfl ?_
     obtain rfl := Option.some.inj h
     exact pt_rnext 29 [28, 5] _ rfl rfl (by kernel_rfl)
    ·intro u30 h hl31 hr32
     refine ht_seq ?_
     obtain ⟨v4, hv4, h⟩ := bind_some h
     refine yx hn 1 ?_
     refine yS (.fl (.own 5) 1 (List.map (Value.int .u8) [46])) 0 ⟨op_buildSlice _ _ 1 (.int .u8 0) (List.map (Value.int .u8) [46]) [(0, .int .u8 46)] underlying22 sz5 zr5 (fun _ V w o a hv hes => by simp only [List.map_toArray, List.map_cons, List.map_nil]; try rfl) (litfill (by simp [Instr.fill, Value.cells]; rfl) (by simp [List.range, List.range.loop] <;> rfl)) (by simp [Value.oneCell']) rfl (by decide) (by decide) (by decide)⟩ ?_
     refine yk [16] [] ?_
     refine yt (17, .fl .ro 1 (List.map (Value.int .u8) [46])) 0 ⟨op_conv_mark _ _ _ underlying22 underlying5 (by intro h; cases h)⟩ ?_
     refine ys 0 ⟨lk call23 (ok_bytes_HasPrefix _ _ _ hv4)⟩ ?_
     refine yee [28,5,6,29,18,28,5] ?_
     refine ht_cond _ rfl (fun hb33 => ?_) (fun hb33 => ?_)
     ·have h := cond_t hb33 h
      obtain ⟨v6, hv6, h⟩ := bind_some h
      refine yx hn 1 ?_
      refine yk [5] [19] ?_
      refine ytt (5, .box 22 [.any]) (20, .fl (.own 5) 1 (List.map (Value.int .u8) v6)) 0 ⟨op_apps_cell _ _ _ _ _ _ el22 zr5 underlying9 rfl rfl (zl rfl) rfl rfl hv6 rfl (Nat.ne_of_beq_eq_false rfl) rfl rfl⟩ ?_
      refine yw [19] 0 ?_
      refine yk [20,5] [] ?_
      refine yt (5, .box 22 [.fl (.own 5) 1 (List.map (Value.int .u8) v6)]) 0 ⟨op_store_take _ _ _ _ _ _ _ _ sz22 rfl rfl rfl (zl rfl) rfl rfl⟩ ?_
      refine ye [28,5,6,29,28,5] ?_
      exact hl31 _ (Option.some.inj h).symm
     ·have h := cond_f hb33 h
      refine ht_skip ?_
      refine pt_pick [0, 1, 2, 3, 5, 6] (by kernel_rfl) (es' := [(_,_),(_,_),(_,_),(_,_),(_,_),(_,_)]) rfl ?_
      exact hl31 _ (Option.some.inj h).symm
   ·rintro D s21 h
    refine pt_inb ?_
    refine pt_then (ht_seq ?_)
    obtain ⟨v34, hv34, h⟩ := bind_some h
    refine yx hn 1 ?_
    refine yk [5] [26] ?_
    refine ytt (5, .box 22 [.any]) (27, .fl (.own 5) 1 (List.map (Value.int .u8) v34)) 0 ⟨op_apps_cell _ _ _ _ _ _ el22 zr5 underlying9 rfl rfl (zl rfl) rfl rfl hv34 rfl (Nat.ne_of_beq_eq_false rfl) rfl rfl⟩ ?_
    refine ya 1 ?_
    refine yee [28,2,3] ?_
    refine ht_ret ?_
    refine pt_pick [1, 2] (by kernel_rfl) (es' := [(_,_),(_,_)]) rfl ?_
    obtain rfl := Option.some.inj h
    exact pt_ret hio rfl (.tmp _ _ (.tmp _ _ .nil)) rfl rfl
   ·rintro D ⟨⟩ h
    cases h
theorem ok_dots_lastLine (mx : Int) (b : (List Int)) (r : (Int × Bool)) (h : Sh.dots_lastLine b = some r) : FnG Tryd.prog (GL mx) 24 [.fl .shr 1 (List.map (Value.int .u8) b)] (.tup [.v (.int .i64 r.1), .v (.bool r.2)]) := by
  unfold Sh.dots_lastLine at h
  refine yG 17 func24 fun g0 hn hio => ?_
  refine yxx hn 0 ?_
  refine yS (.box 3 [.v (.int .i64 0)]) 0 ⟨oA (op_alloc _ _ zr3)⟩ ?_
  refine yS (.box 4 [.v (.bool false)]) 0 ⟨oA (op_alloc _ _ zr4)⟩ ?_
  refine yee [0,17,2,3] ?_
  refine ht_seq ?_
  refine ht_seq ?_
  obtain ⟨v1, hv1, h⟩ := bind_some h
  refine yx hn 1 ?_
  refine yk [] [5] ?_
  refine yt (6, .cloB 29 [.box 22 [.fl .shr 1 (List.map (Value.int .u8) v1)]]) 0 ⟨op_callS _ _ 22 _ _ rfl call22 rfl rfl (ok_dots_lines b _ hv1) rfl⟩ ?_
  refine yee [17,2,3,6] ?_
  refine ht_block ?_
  refine ht_pick [3, 0, 1, 2] (by kernel_rfl) (es' := [(6, .cloB 29 [.box 22 [.fl .shr 1 (List.map (Value.int .u8) v1)]]), (17, .glob (GL mx)), (2, .box 3 [.v (.int .i64 0)]), (3, .box 4 [.v (.bool false)])]) rfl ?_
  refine ht_rangeF h 29 6 7 18 _ [17, 2, 3] call29 (fun (s8 : Int) => [(17, .glob (GL mx)), (2, .box 3 [.v (.int .i64 s8)]), (3, .box 4 [.v (.bool false)])]) (fun (s10 : Int) => [(17, .glob (GL mx)), (2, .box 3 [.v (.int .i64 s10)]), (3, .box 4 [.v (.bool true)])]) (fun l J Y hY t t' h => ok_dots_lines_1 mx l J Y hY v1 t t' h) hn rfl (fun _ => rfl) (fun _ => rfl) (fun _ => rfl) rfl rfl (fun _ => ⟨rfl, rfl⟩) rfl (glIn_look 17 rfl) ?_ ?_ ?_
  ·rintro kk g0 hn hio x s8 u h
   refine ht_es (es' := [(7, .fl .shr 1 (List.map (Value.int .u8) x)), (17, .glob (GL mx)), (2, .box 3 [.v (.int .i64 s8)]), (3, .box 4 [.v (.bool false)]), (17, .v (kk.tm.getD 17 undef)), (2, .v (kk.tm.getD 2 undef)), (3, .v (kk.tm.getD 3 undef)), (18, .inv kk.ready)]) rfl ?_
   refine yy hn 1 [17,2,3,18,4,17,2,3] ?_
   refine pt_pick [0, 1, 2, 4, 5, 6, 7, 3] (by kernel_rfl) (es' := [(17, .glob (GL mx)), (2, .box 3 [.v (.int .i64 s8)]), (3, .box 4 [.v (.bool false)]), (4, .fl .shr 1 (List.map (Value.int .u8) x)), (17, .v (kk.tm.getD 17 undef)), (2, .v (kk.tm.getD 2 undef)), (3, .v (kk.tm.getD 3 undef)), (18, .inv kk.ready)]) rfl ?_
   refine pt_begin (es := [(17, .glob (GL mx)), (2, .box 3 [.v (.int .i64 s8)]), (3, .box 4 [.v (.bool false)]), (4, .fl .shr 1 (List.map (Value.int .u8) x)), (17, .v (kk.tm.getD 17 undef)), (2, .v (kk.tm.getD 2 undef)), (3, .v (kk.tm.getD 3 undef))]) 18 rfl ?_
   refine ht_block ?_
   refine ht_seq ?_
   refine ht_seq ?_
   obtain ⟨v2, hv2, h⟩ := bind_some h
   refine yx hn 1 ?_
   refine ys 1 ⟨lS hv2⟩ ?_
   refine yee [17,2,3,4,18,10,17,2,3] ?_
   refine ht_cond _ rfl (fun hb11 => ?_) (fun hb11 => ?_)
   ·have h := cond_t hb11 h
    refine yyy hn 3 [17,2,3,18,17,2,3] ?_
    refine ht_ret ?_
    refine pt_r_then ?_
    refine pt_r_in ?_
    refine pt_pick [0, 1, 2, 4, 5, 6, 3] (by kernel_rfl) (es' := [(_,_),(_,_),(_,_),(_,_),(_,_),(_,_),(_,_)]) rfl ?_
    obtain rfl := Option.some.inj h
    exact pt_rret 18 [17, 2, 3] _ rfl rfl (by kernel_rfl)
   ·have h := cond_f hb11 h
    refine ht_skip ?_
    refine pt_then ?_
    obtain ⟨v4, hv4, h⟩ := bind_some h
    obtain ⟨v5, hv5, h⟩ := bind_some h
    refine yx hn 3 ?_
    refine ys 0 ⟨lb hv4⟩ ?_
    refine ys 1 ⟨lb hv5⟩ ?_
    refine ye [17,2,3,18,17,2,3] ?_
    refine pt_inb ?_
    refine pt_pick [0, 1, 2, 4, 5, 6, 3] (by kernel_rfl) (es' := [(_,_),(_,_),(_,_),(_,_),(_,_),(_,_),(_,_)]) rfl ?_
    obtain rfl := Option.some.inj h
    exact pt_rnext 18 [17, 2, 3] _ rfl rfl (by kernel_rfl)
  ·rintro D s8 h
   refine pt_inb ?_
   refine pt_then ?_
   refine yyy hn 2 [17,2,3] ?_
   refine ht_ret ?_
   refine pt_pick [1, 2] (by kernel_rfl) (es' := [(_,_),(_,_)]) rfl ?_
   obtain rfl := Option.some.inj h
   exact pt_ret hio rfl (.cell1 _ _ _ _ underlying3 rfl (.cell1 _ _ _ _ underlying4 rfl .nil)) rfl rfl
  ·rintro D s10 h
   refine pt_pick [1, 2] (by kernel_rfl) (es' := [(_,_),(_,_)]) rfl ?_
   refine pt_r_in ?_
   refine pt_r_then ?_
   obtain rfl := Option.some.inj h
   exact pt_ret hio rfl (.cell1 _ _ _ _ underlying3 rfl (.cell1 _ _ _ _ underlying4 rfl .nil)) rfl rfl
theorem ok_bytes_TrimPrefix_sh (s : (List Int)) (prefix_ : (List Int)) (r : (List Int)) (h : Sh.bytes_TrimPrefix_sh s prefix_ = some r) : FnOK Tryd.prog 25 [.fl .shr 1 (List.map (Value.int .u8) s), .fl .shr 1 (List.map (Value.int .u8) prefix_)] (.fl .shr 1 (List.map (Value.int .u8) r)) := by
  unfold Sh.bytes_TrimPrefix_sh at h
  refine yO 13 func25 fun g0 hn hio => ?_
  refine yyy hn 1 [0,1] ?_
  refine ht_seq ?_
  refine ht_seq ?_
  obtain ⟨v1, hv1, h⟩ := bind_some h
  refine yx hn 2 ?_
  refine ys 0 ⟨lk call23 (ok_bytes_HasPrefix _ _ _ hv1)⟩ ?_
  refine yee [0,1,7] ?_
  refine ht_cond _ rfl (fun hb2 => ?_) (fun hb2 => ?_)
  ·have h := cond_t hb2 h
   refine ht_seq ?_
   obtain ⟨v3, hv3, h⟩ := bind_some h
   refine yx hn 3 ?_
   refine yS (.fl .shr 1 (List.map (Value.int .u8) v3)) 1 ⟨op_sl _ _ _ (prefix_.length : Int) (s.length : Int) _ underlying22 sz5 rfl rfl ⟨_, rfl⟩ rfl hv3⟩ ?_
   refine yee [4] ?_
   refine ht_ret ?_
   refine pt_r_then ?_
   obtain rfl := Option.some.inj h
   exact pt_ret hio rfl (.tmp _ _ .nil) rfl rfl
  ·have h := cond_f hb2 h
   refine ht_skip ?_
   refine pt_then ?_
   refine yyy hn 2 [4] ?_
   refine ht_ret ?_
   obtain rfl := Option.some.inj h
   exact pt_ret hio rfl (.tmp _ _ .nil) rfl rfl
theorem ok_dots_Strip (mx : Int) (b : (List Int)) (r : ((List Int) × Int × Int)) (h : Sh.dots_Strip b = some r) : FnG Tryd.prog (GL mx) 12 [.fl .shr 1 (List.map (Value.int .u8) b)] (.tup [.fl (.own 5) 1 (List.map (Value.int .u8) r.1), .v (.int .i64 r.2.1), .v (.int .i64 r.2.2)]) := by
  unfold Sh.dots_Strip at h
  refine yG 39 func12 fun g0 hn hio => ?_
  refine yxx hn 0 ?_
  refine yS (.box 22 [.v (.slice none 0 0)]) 2 ⟨oA (op_alloc _ _ zr22)⟩ ?_
  refine yee [0,39,2] ?_
  refine ht_seq ?_
  obtain ⟨v1, hv1, h⟩ := bind_some h
  refine yx hn 1 ?_
  refine ys 0 ⟨lg call24 (ok_dots_lastLine _ _ _ hv1) 39⟩ ?_
  refine ym 4 ?_
  refine yee [0,39,2,5,6] ?_
  refine ht_seq ?_
  refine yyy hn 2 [0,39,2,5,15] ?_
  refine ht_cond _ rfl (fun hb2 => ?_) (fun hb2 => ?_)
  ·have h := cond_t hb2 h
   refine yyy hn 3 [39,2,3,4] ?_
   refine ht_ret ?_
   refine pt_pick [1, 2, 3] (by kernel_rfl) (es' := [(_,_),(_,_),(_,_)]) rfl ?_
   refine pt_sub (fs := [(2, .box 22 [.fl (.own 5) 1 (List.map (Value.int .u8) [])]), (3, .v (.int .i64 0)), (4, .v (.int .i64 9))]) (.box _ _ (subs_cons (sub_nil 5 1) (subs_nil)) rfl (.same _ (.same _ .nil))) ?_
   refine pt_r_then ?_
   obtain rfl := Option.some.inj h
   exact pt_ret hio rfl (.cell1 _ _ _ _ underlying22 rfl (.tmp _ _ (.tmp _ _ .nil))) rfl rfl
  ·have h := cond_f hb2 h
   refine ht_skip ?_
   refine pt_then (ht_seq ?_)
   refine ht_seq ?_
   obtain ⟨v3, hv3, h⟩ := bind_some h
   obtain ⟨v4, hv4, h⟩ := bind_some h
   refine yx hn 2 ?_
   refine yS (.fl .shr 1 (List.map (Value.int .u8) v3)) 0 ⟨op_sl _ _ _ 0 v1.1 _ underlying22 sz5 rfl rfl rfl ⟨_, rfl⟩ hv3⟩ ?_
   refine ys 1 ⟨lg call17 (ok_dots_Check _ _ _ hv4) 39⟩ ?_
   refine yee [0,39,2,5,7] ?_
   refine yyy hn 2 [0,39,2,5,7,21] ?_
   refine ht_cond _ rfl (fun hb5 => ?_) (fun hb5 => ?_)
   ·have h := cond_t hb5 h
    refine yyy hn 4 [39,2,3,4] ?_
    refine ht_ret ?_
    refine pt_pick [1, 2, 3] (by kernel_rfl) (es' := [(_,_),(_,_),(_,_)]) rfl ?_
    refine pt_sub (fs := [(2, .box 22 [.fl (.own 5) 1 (List.map (Value.int .u8) [])]), (3, .v (.int .i64 0)), (4, .v (.int .i64 v4))]) (.box _ _ (subs_cons (sub_nil 5 1) (subs_nil)) rfl (.same _ (.same _ .nil))) ?_
    refine pt_r_then ?_
    obtain rfl := Option.some.inj h
    exact pt_ret hio rfl (.cell1 _ _ _ _ underlying22 rfl (.tmp _ _ (.tmp _ _ .nil))) rfl rfl
   ·have h := cond_f hb5 h
    refine ht_skip ?_
    refine pt_then (ht_seq ?_)
    refine ht_seq ?_
    obtain ⟨v6, hv6, h⟩ := bind_some h
    obtain ⟨v7, hv7, h⟩ := bind_some h
    refine yx hn 2 ?_
    refine yS (.fl .shr 1 (List.map (Value.int .u8) v6)) 0 ⟨op_sl _ _ _ 0 v1.1 _ underlying22 sz5 rfl rfl rfl ⟨_, rfl⟩ hv6⟩ ?_
    refine yk [] [25] ?_
    refine yt (26, .cloB 29 [.box 22 [.fl .shr 1 (List.map (Value.int .u8) v7)]]) 0 ⟨op_callS _ _ 22 _ _ rfl call22 rfl rfl (ok_dots_lines v6 _ hv7) rfl⟩ ?_
    refine yee [39,2,5,26] ?_
    refine ht_block ?_
    refine ht_pick [3, 0, 1, 2] (by kernel_rfl) (es' := [(26, .cloB 29 [.box 22 [.fl .shr 1 (List.map (Value.int .u8) v7)]]), (39, .glob (GL mx)), (2, .box 22 [.v (.slice none 0 0)]), (5, .v (.int .i64 v1.1))]) rfl ?_
    refine ht_sub (fs := [(26, .cloB 29 [.box 22 [.fl .shr 1 (List.map (Value.int .u8) v7)]]), (39, .glob (GL mx)), (2, .box 22 [.fl (.own 5) 1 (List.map (Value.int .u8) [])]), (5, .v (.int .i64 v1.1))]) (.same _ (.same _ (.box _ _ (subs_cons (sub_nil 5 1) (subs_nil)) rfl (.same _ .nil)))) ?_
    refine ht_rangeF h 29 26 27 40 _ [39, 2, 5] call29 (fun (s12 : (List Int)) => [(39, .glob (GL mx)), (2, .box 22 [.fl (.own 5) 1 (List.map (Value.int .u8) s12)]), (5, .v (.int .i64 v1.1))]) (fun (() : Unit) => []) (fun l J Y hY t t' h => ok_dots_lines_1 mx l J Y hY v7 t t' h) hn rfl (fun _ => rfl) (fun _ => rfl) (fun _ => rfl) rfl rfl (fun _ => ⟨rfl, rfl⟩) rfl (glIn_look 39 rfl) ?_ ?_ ?_
    ·rintro kk g0 hn hio x s12 u h
     refine ht_es (es' := [(27, .fl .shr 1 (List.map (Value.int .u8) x)), (39, .glob (GL mx)), (2, .box 22 [.fl (.own 5) 1 (List.map (Value.int .u8) s12)]), (5, .v (.int .i64 v1.1)), (39, .v (kk.tm.getD 39 undef)), (2, .v (kk.tm.getD 2 undef)), (5, .v (kk.tm.getD 5 undef)), (40, .inv kk.ready)]) rfl ?_
     refine yy hn 1 [39,2,5,40,8,39,2,5] ?_
     refine pt_pick [0, 1, 2, 4, 5, 6, 7, 3] (by kernel_rfl) (es' := [(39, .glob (GL mx)), (2, .box 22 [.fl (.own 5) 1 (List.map (Value.int .u8) s12)]), (5, .v (.int .i64 v1.1)), (8, .fl .shr 1 (List.map (Value.int .u8) x)), (39, .v (kk.tm.getD 39 undef)), (2, .v (kk.tm.getD 2 undef)), (5, .v (kk.tm.getD 5 undef)), (40, .inv kk.ready)]) rfl ?_
     refine pt_begin (es := [(39, .glob (GL mx)), (2, .box 22 [.fl (.own 5) 1 (List.map (Value.int .u8) s12)]), (5, .v (.int .i64 v1.1)), (8, .fl .shr 1 (List.map (Value.int .u8) x)), (39, .v (kk.tm.getD 39 undef)), (2, .v (kk.tm.getD 2 undef)), (5, .v (kk.tm.getD 5 undef))]) 40 rfl ?_
     refine ht_block ?_
     refine ht_seq ?_
     obtain ⟨v8, hv8, h⟩ := bind_some h
     obtain ⟨v9, hv9, h⟩ := bind_some h
     refine wb [[2],[8]] ?_
     refine wN [] ?_
     refine wS (.fl (.own 5) 1 (List.map (Value.int .u8) [46])) [] ⟨op_buildSlice _ _ 1 (.int .u8 0) (List.map (Value.int .u8) [46]) [(0, .int .u8 46)] underlying22 sz5 zr5 (fun _ V w o a hv hes => by simp only [List.map_toArray, List.map_cons, List.map_nil]; try rfl) (litfill (by simp [Instr.fill, Value.cells]; rfl) (by simp [List.range, List.range.loop] <;> rfl)) (by simp [Value.oneCell']) rfl (by decide) (by decide) (by decide)⟩ ?_
     refine wK [30] [] ?_
     refine wt [(31, .fl .ro 1 (List.map (Value.int .u8) [46]))] [] ⟨op_conv_mark _ _ _ underlying22 underlying5 (by intro h; cases h)⟩ ?_
     refine wN [29,31] ?_
     refine wS (.fl .shr 1 (List.map (Value.int .u8) v8)) [] ⟨op_callS _ _ 25 _ _ rfl call25 rfl rfl (ok_bytes_TrimPrefix_sh x [46] _ hv8) rfl⟩ ?_
     refine wK [2] [28,32] ?_
     refine wt [(2, .box 22 [.any]), (33, .fl (.own 5) 1 (List.map (Value.int .u8) v9))] [] ⟨op_app_cell _ _ _ _ _ _ el22 rfl rfl (zl rfl) rfl (map_len _) (map_len _) hv9 ((List.map_append).symm.trans (congrArg (List.map _) (app_eq hv9))) (Nat.ne_of_beq_eq_false rfl) rfl rfl⟩ ?_
     refine wK [28,33,2] [] ?_
     refine wt [(2, .box 22 [.fl (.own 5) 1 (List.map (Value.int .u8) v9)])] [] ⟨LOp.drop [_] (op_store_take _ _ _ _ _ _ _ _ sz22 rfl rfl rfl (zl rfl) rfl rfl)⟩ ?_
     refine wee hn [39,2,5,40,39,2,5] ?_
     obtain ⟨v10, hv10, h⟩ := bind_some h
     refine yx hn 1 ?_
     refine yk [2] [34] ?_
     refine ytt (2, .box 22 [.any]) (35, .fl (.own 5) 1 (List.map (Value.int .u8) v10)) 0 ⟨op_apps_cell _ _ _ _ _ _ el22 zr5 underlying9 rfl rfl (zl rfl) rfl rfl hv10 rfl (Nat.ne_of_beq_eq_false rfl) rfl rfl⟩ ?_
     refine yw [34] 0 ?_
     refine yk [35,2] [] ?_
     refine yt (2, .box 22 [.fl (.own 5) 1 (List.map (Value.int .u8) v10)]) 0 ⟨op_store_take _ _ _ _ _ _ _ _ sz22 rfl rfl rfl (zl rfl) rfl rfl⟩ ?_
     refine ye [39,2,5,40,39,2,5] ?_
     refine pt_inb ?_
     refine pt_pick [0, 1, 2, 4, 5, 6, 3] (by kernel_rfl) (es' := [(_,_),(_,_),(_,_),(_,_),(_,_),(_,_),(_,_)]) rfl ?_
     obtain rfl := Option.some.inj h
     exact pt_rnext 40 [39, 2, 5] _ rfl rfl (by kernel_rfl)
    ·rintro D s12 h
     refine pt_inb ?_
     refine pt_then (ht_seq ?_)
     obtain ⟨v13, hv13, h⟩ := bind_some h
     refine yx hn 2 ?_
     refine ys 0 ⟨lb hv13⟩ ?_
     refine yk [2] [36] ?_
     refine yt (2, .box 22 [.fl (.own 5) 1 (List.map (Value.int .u8) s12)]) 2 ⟨op_store_self1 _ _ _ 2 0 sz22 rfl rfl rfl (zl rfl)⟩ ?_
     refine yee [39,2,3,4] ?_
     refine ht_ret ?_
     refine pt_pick [1, 2, 3] (by kernel_rfl) (es' := [(_,_),(_,_),(_,_)]) rfl ?_
     obtain rfl := Option.some.inj h
     exact pt_ret hio rfl (.cell1 _ _ _ _ underlying22 rfl (.tmp _ _ (.tmp _ _ .nil))) rfl rfl
    ·rintro D ⟨⟩ h
     cases h
theorem ok_wherryref11_dot (b : (List Int)) (r : Int) (h : Sh.wherryref11_dot b = some r) : FnOK Tryd.prog 26 [.fl .shr 1 (List.map (Value.int .u8) b)] (.v (.int .i64 r)) := by
  unfold Sh.wherryref11_dot at h
  refine yO 57 func26 fun g0 hn hio => ?_
  refine yyy hn 1 [0] ?_
  refine ht_seq ?_
  refine yyy hn 1 [0,3] ?_
  refine ht_loopS h (fun (s30 : Int) => [(0, .fl .shr 1 (List.map (Value.int .u8) b)), (3, .v (.int .i64 s30))]) (fun (() : Unit) => []) ?_ ?_
  ·rintro ⟨⟩ h
   refine pt_then ?_
   refine yyy hn 1 [2] ?_
   refine ht_ret ?_
   obtain rfl := Option.some.inj h
   exact pt_ret hio rfl (.tmp _ _ .nil) rfl rfl
  ·rintro u37 hl38 hr39 s30 rr42 h ho40
   refine ht_seq ?_
   refine ht_seq ?_
   obtain ⟨v1, hv1, h⟩ := bind_some h
   refine yx hn 1 ?_
   refine ys 3 ⟨lb hv1⟩ ?_
   refine yee [0,3,8] ?_
   refine ht_cond _ rfl (fun hb43 => ?_) (fun hb43 => ?_)
   ·have h := cond_t hb43 h
    refine ht_skip ?_
    refine pt_then (ht_seq ?_)
    refine ht_block ?_
    refine ht_seq ?_
    refine ht_joinS h (fun (s44 : Bool) => [(0, .fl .shr 1 (List.map (Value.int .u8) b)), (3, .v (.int .i64 s30)), (55, .v (.bool s44))]) ?_ ?_
    ·rintro s44 h
     refine pt_then ?_
     refine ht_cond _ rfl (fun hb48 => ?_) (fun hb48 => ?_)
     ·have h := cond_t hb48 h
      refine yyy hn 2 [2] ?_
      refine ht_ret ?_
      refine pt_r_in ?_
      refine pt_r_then ?_
      refine pt_r_then ?_
      refine pt_r_in ?_
      refine pt_r_then ?_
      have h := hr39 _ (ho40 _ (Option.some.inj h).symm).symm
      obtain rfl := Option.some.inj h
      exact pt_ret hio rfl (.tmp _ _ .nil) rfl rfl
     ·have h := cond_f hb48 h
      refine ht_skip ?_
      refine pt_inb ?_
      refine pt_then ?_
      obtain ⟨v22, hv22, h⟩ := bind_some h
      refine yx hn 1 ?_
      refine ys 0 ⟨lb hv22⟩ ?_
      refine yw [3] 1 ?_
      refine ye [0,3] ?_
      exact pt_next _ (Option.some.inj h).symm rfl
    ·intro u45 h hl46 hr47
     obtain ⟨v3, hv3, h⟩ := bind_some h
     obtain ⟨v4, hv4, h⟩ := bind_some h
     refine cond_some h (fun hg4_5 h => ?_) (fun hg4_5 h => ?_)
     ·obtain ⟨v5, hv5, h⟩ := bind_some h
      obtain ⟨v6, hv6, h⟩ := bind_some h
      obtain ⟨v7, hv7, h⟩ := bind_some h
      refine cond_some h (fun hg4_13 h => ?_) (fun hg4_13 h => ?_)
      ·obtain ⟨v8, hv8, h⟩ := bind_some h
       obtain ⟨v9, hv9, h⟩ := bind_some h
       obtain ⟨v10, hv10, h⟩ := bind_some h
       refine cond_some h (fun hg4_21 h => ?_) (fun hg4_21 h => ?_)
       ·refine cond_some h (fun hg4_24 h => ?_) (fun hg4_24 h => ?_)
        ·refine yx hn 2 ?_
         refine ys 0 ⟨li hv3⟩ ?_
         refine ys 2 ⟨ll hv4⟩ ?_
         refine yd hg4_5 2 ?_
         refine ys 0 ⟨lb hv5⟩ ?_
         refine ys 0 ⟨li hv6⟩ ?_
         refine ys 3 ⟨ll hv7⟩ ?_
         refine yd hg4_13 2 ?_
         refine ys 0 ⟨lb hv8⟩ ?_
         refine ys 0 ⟨li hv9⟩ ?_
         refine ys 3 ⟨ll hv10⟩ ?_
         refine yd hg4_21 3 ?_
         refine yd hg4_24 20 ?_
         refine ye [0,3,55] ?_
         exact hl46 _ (Option.some.inj h).symm
        ·refine cond_some h (fun hg4_27 h => ?_) (fun hg4_27 h => ?_)
         ·obtain ⟨v11, hv11, h⟩ := bind_some h
          obtain ⟨v12, hv12, h⟩ := bind_some h
          obtain ⟨v13, hv13, h⟩ := bind_some h
          refine cond_some h (fun hg4_35 h => ?_) (fun hg4_35 h => ?_)
          ·obtain ⟨v14, hv14, h⟩ := bind_some h
           obtain ⟨v15, hv15, h⟩ := bind_some h
           obtain ⟨v16, hv16, h⟩ := bind_some h
           refine yx hn 2 ?_
           refine ys 0 ⟨li hv3⟩ ?_
           refine ys 2 ⟨ll hv4⟩ ?_
           refine yd hg4_5 2 ?_
           refine ys 0 ⟨lb hv5⟩ ?_
           refine ys 0 ⟨li hv6⟩ ?_
           refine ys 3 ⟨ll hv7⟩ ?_
           refine yd hg4_13 2 ?_
           refine ys 0 ⟨lb hv8⟩ ?_
           refine ys 0 ⟨li hv9⟩ ?_
           refine ys 3 ⟨ll hv10⟩ ?_
           refine yd hg4_21 3 ?_
           refine yd hg4_24 3 ?_
           refine yd hg4_27 2 ?_
           refine ys 0 ⟨lb hv11⟩ ?_
           refine ys 0 ⟨li hv12⟩ ?_
           refine ys 3 ⟨ll hv13⟩ ?_
           refine yd hg4_35 2 ?_
           refine ys 0 ⟨lb hv14⟩ ?_
           refine ys 0 ⟨li hv15⟩ ?_
           refine ys 4 ⟨ll hv16⟩ ?_
           refine ye [0,3,55] ?_
           exact hl46 _ (Option.some.inj h).symm
          ·refine yx hn 2 ?_
           refine ys 0 ⟨li hv3⟩ ?_
           refine ys 2 ⟨ll hv4⟩ ?_
           refine yd hg4_5 2 ?_
           refine ys 0 ⟨lb hv5⟩ ?_
           refine ys 0 ⟨li hv6⟩ ?_
           refine ys 3 ⟨ll hv7⟩ ?_
           refine yd hg4_13 2 ?_
           refine ys 0 ⟨lb hv8⟩ ?_
           refine ys 0 ⟨li hv9⟩ ?_
           refine ys 3 ⟨ll hv10⟩ ?_
           refine yd hg4_21 3 ?_
           refine yd hg4_24 3 ?_
           refine yd hg4_27 2 ?_
           refine ys 0 ⟨lb hv11⟩ ?_
           refine ys 0 ⟨li hv12⟩ ?_
           refine ys 3 ⟨ll hv13⟩ ?_
           refine yd hg4_35 9 ?_
           refine ye [0,3,55] ?_
           exact hl46 _ (Option.some.inj h).symm
         ·refine yx hn 2 ?_
          refine ys 0 ⟨li hv3⟩ ?_
          refine ys 2 ⟨ll hv4⟩ ?_
          refine yd hg4_5 2 ?_
          refine ys 0 ⟨lb hv5⟩ ?_
          refine ys 0 ⟨li hv6⟩ ?_
          refine ys 3 ⟨ll hv7⟩ ?_
          refine yd hg4_13 2 ?_
          refine ys 0 ⟨lb hv8⟩ ?_
          refine ys 0 ⟨li hv9⟩ ?_
          refine ys 3 ⟨ll hv10⟩ ?_
          refine yd hg4_21 3 ?_
          refine yd hg4_24 3 ?_
          refine yd hg4_27 17 ?_
          refine ye [0,3,55] ?_
          exact hl46 _ (Option.some.inj h).symm
       ·refine yx hn 2 ?_
        refine ys 0 ⟨li hv3⟩ ?_
        refine ys 2 ⟨ll hv4⟩ ?_
        refine yd hg4_5 2 ?_
        refine ys 0 ⟨lb hv5⟩ ?_
        refine ys 0 ⟨li hv6⟩ ?_
        refine ys 3 ⟨ll hv7⟩ ?_
        refine yd hg4_13 2 ?_
        refine ys 0 ⟨lb hv8⟩ ?_
        refine ys 0 ⟨li hv9⟩ ?_
        refine ys 3 ⟨ll hv10⟩ ?_
        refine yd hg4_21 23 ?_
        refine ye [0,3,55] ?_
        exact hl46 _ (Option.some.inj h).symm
      ·refine yx hn 2 ?_
       refine ys 0 ⟨li hv3⟩ ?_
       refine ys 2 ⟨ll hv4⟩ ?_
       refine yd hg4_5 2 ?_
       refine ys 0 ⟨lb hv5⟩ ?_
       refine ys 0 ⟨li hv6⟩ ?_
       refine ys 3 ⟨ll hv7⟩ ?_
       refine yd hg4_13 31 ?_
       refine ye [0,3,55] ?_
       exact hl46 _ (Option.some.inj h).symm
     ·refine yx hn 2 ?_
      refine ys 0 ⟨li hv3⟩ ?_
      refine ys 2 ⟨ll hv4⟩ ?_
      refine yd hg4_5 39 ?_
      refine ye [0,3,55] ?_
      exact hl46 _ (Option.some.inj h).symm
   ·have h := cond_f hb43 h
    refine ht_exit ?_
    refine pt_x_then ?_
    refine pt_x_then ?_
    refine pt_x_in ?_
    refine pt_pick [] (by kernel_rfl) (es' := []) rfl ?_
    exact hl38 _ (ho40 _ (Option.some.inj h).symm).symm
theorem ok_wherryref11_Body (b : (List Int)) (r : Bool) (h : Sh.wherryref11_Body b = some r) : FnOK Tryd.prog 16 [.fl .shr 1 (List.map (Value.int .u8) b)] (.v (.bool r)) := by
  unfold Sh.wherryref11_Body at h
  refine yO 61 func16 fun g0 hn hio => ?_
  refine yyy hn 1 [0] ?_
  refine ht_seq ?_
  refine yyy hn 1 [0,3] ?_
  refine ht_loopS h (fun (s31 : Int) => [(0, .fl .shr 1 (List.map (Value.int .u8) b)), (3, .v (.int .i64 s31))]) (fun (() : Unit) => [(0, .fl .shr 1 (List.map (Value.int .u8) b))]) ?_ ?_
  ·rintro ⟨⟩ h
   refine pt_then (ht_seq ?_)
   refine ht_joinS h (fun (s53 : Bool) => [(2, .v (.bool s53))]) ?_ ?_
   ·rintro s53 h
    refine pt_then (ht_ret ?_)
    obtain rfl := Option.some.inj h
    exact pt_ret hio rfl (.tmp _ _ .nil) rfl rfl
   ·intro u54 h hl55 hr56
    refine cond_some h (fun hg6_3 h => ?_) (fun hg6_3 h => ?_)
    ·refine yx hn 4 ?_
     refine yd hg6_3 9 ?_
     refine ye [2] ?_
     exact hl55 _ (Option.some.inj h).symm
    ·obtain ⟨v50, hv50, h⟩ := bind_some h
     obtain ⟨v51, hv51, h⟩ := bind_some h
     obtain ⟨v52, hv52, h⟩ := bind_some h
     refine yx hn 4 ?_
     refine yd hg6_3 3 ?_
     refine ys 0 ⟨lb hv50⟩ ?_
     refine ys 0 ⟨li hv51⟩ ?_
     refine ys 3 ⟨ll hv52⟩ ?_
     refine ye [2] ?_
     exact hl55 _ (Option.some.inj h).symm
  ·rintro u38 hl39 hr40 s31 rr43 h ho41
   refine ht_seq ?_
   refine yyy hn 4 [0,3,7] ?_
   refine ht_cond _ rfl (fun hb44 => ?_) (fun hb44 => ?_)
   ·have h := cond_t hb44 h
    refine ht_skip ?_
    refine pt_then (ht_seq ?_)
    refine ht_block ?_
    refine ht_seq ?_
    refine ht_joinS h (fun (s45 : Bool) => [(0, .fl .shr 1 (List.map (Value.int .u8) b)), (3, .v (.int .i64 s31)), (48, .v (.bool s45))]) ?_ ?_
    ·rintro s45 h
     refine pt_then ?_
     refine ht_cond _ rfl (fun hb49 => ?_) (fun hb49 => ?_)
     ·have h := cond_t hb49 h
      refine yyy hn 1 [2] ?_
      refine ht_ret ?_
      refine pt_r_in ?_
      refine pt_r_then ?_
      refine pt_r_then ?_
      refine pt_r_in ?_
      refine pt_r_then ?_
      have h := hr40 _ (ho41 _ (Option.some.inj h).symm).symm
      obtain rfl := Option.some.inj h
      exact pt_ret hio rfl (.tmp _ _ .nil) rfl rfl
     ·have h := cond_f hb49 h
      refine ht_skip ?_
      refine pt_inb ?_
      refine pt_then ?_
      obtain ⟨v23, hv23, h⟩ := bind_some h
      refine yx hn 1 ?_
      refine ys 0 ⟨lb hv23⟩ ?_
      refine yw [3] 1 ?_
      refine ye [0,3] ?_
      exact pt_next _ (Option.some.inj h).symm rfl
    ·intro u46 h hl47 hr48
     obtain ⟨v2, hv2, h⟩ := bind_some h
     obtain ⟨v3, hv3, h⟩ := bind_some h
     refine cond_some h (fun hg4_5 h => ?_) (fun hg4_5 h => ?_)
     ·obtain ⟨v4, hv4, h⟩ := bind_some h
      refine cond_some h (fun hg4_11 h => ?_) (fun hg4_11 h => ?_)
      ·refine yx hn 2 ?_
       refine ys 0 ⟨li hv2⟩ ?_
       refine ys 2 ⟨ll hv3⟩ ?_
       refine yd hg4_5 1 ?_
       refine ys 4 ⟨lb hv4⟩ ?_
       refine yd hg4_11 27 ?_
       refine ye [0,3,48] ?_
       exact hl47 _ (Option.some.inj h).symm
      ·obtain ⟨v5, hv5, h⟩ := bind_some h
       obtain ⟨v6, hv6, h⟩ := bind_some h
       obtain ⟨v7, hv7, h⟩ := bind_some h
       refine cond_some h (fun hg4_20 h => ?_) (fun hg4_20 h => ?_)
       ·refine yx hn 2 ?_
        refine ys 0 ⟨li hv2⟩ ?_
        refine ys 2 ⟨ll hv3⟩ ?_
        refine yd hg4_5 1 ?_
        refine ys 4 ⟨lb hv4⟩ ?_
        refine yd hg4_11 2 ?_
        refine ys 0 ⟨lb hv5⟩ ?_
        refine ys 0 ⟨li hv6⟩ ?_
        refine ys 4 ⟨ll hv7⟩ ?_
        refine yd hg4_20 18 ?_
        refine ye [0,3,48] ?_
        exact hl47 _ (Option.some.inj h).symm
       ·obtain ⟨v8, hv8, h⟩ := bind_some h
        obtain ⟨v9, hv9, h⟩ := bind_some h
        refine cond_some h (fun hg4_26 h => ?_) (fun hg4_26 h => ?_)
        ·refine cond_some h (fun hg4_29 h => ?_) (fun hg4_29 h => ?_)
         ·refine yx hn 2 ?_
          refine ys 0 ⟨li hv2⟩ ?_
          refine ys 2 ⟨ll hv3⟩ ?_
          refine yd hg4_5 1 ?_
          refine ys 4 ⟨lb hv4⟩ ?_
          refine yd hg4_11 2 ?_
          refine ys 0 ⟨lb hv5⟩ ?_
          refine ys 0 ⟨li hv6⟩ ?_
          refine ys 4 ⟨ll hv7⟩ ?_
          refine yd hg4_20 2 ?_
          refine ys 0 ⟨li hv8⟩ ?_
          refine ys 2 ⟨ll hv9⟩ ?_
          refine yd hg4_26 3 ?_
          refine yd hg4_29 9 ?_
          refine ye [0,3,48] ?_
          exact hl47 _ (Option.some.inj h).symm
         ·obtain ⟨v10, hv10, h⟩ := bind_some h
          obtain ⟨v11, hv11, h⟩ := bind_some h
          obtain ⟨v12, hv12, h⟩ := bind_some h
          refine yx hn 2 ?_
          refine ys 0 ⟨li hv2⟩ ?_
          refine ys 2 ⟨ll hv3⟩ ?_
          refine yd hg4_5 1 ?_
          refine ys 4 ⟨lb hv4⟩ ?_
          refine yd hg4_11 2 ?_
          refine ys 0 ⟨lb hv5⟩ ?_
          refine ys 0 ⟨li hv6⟩ ?_
          refine ys 4 ⟨ll hv7⟩ ?_
          refine yd hg4_20 2 ?_
          refine ys 0 ⟨li hv8⟩ ?_
          refine ys 2 ⟨ll hv9⟩ ?_
          refine yd hg4_26 3 ?_
          refine yd hg4_29 2 ?_
          refine ys 0 ⟨lb hv10⟩ ?_
          refine ys 0 ⟨li hv11⟩ ?_
          refine ys 4 ⟨ll hv12⟩ ?_
          refine ye [0,3,48] ?_
          exact hl47 _ (Option.some.inj h).symm
        ·refine yx hn 2 ?_
         refine ys 0 ⟨li hv2⟩ ?_
         refine ys 2 ⟨ll hv3⟩ ?_
         refine yd hg4_5 1 ?_
         refine ys 4 ⟨lb hv4⟩ ?_
         refine yd hg4_11 2 ?_
         refine ys 0 ⟨lb hv5⟩ ?_
         refine ys 0 ⟨li hv6⟩ ?_
         refine ys 4 ⟨ll hv7⟩ ?_
         refine yd hg4_20 2 ?_
         refine ys 0 ⟨li hv8⟩ ?_
         refine ys 2 ⟨ll hv9⟩ ?_
         refine yd hg4_26 12 ?_
         refine ye [0,3,48] ?_
         exact hl47 _ (Option.some.inj h).symm
     ·obtain ⟨v13, hv13, h⟩ := bind_some h
      obtain ⟨v14, hv14, h⟩ := bind_some h
      refine cond_some h (fun hg4_26 h => ?_) (fun hg4_26 h => ?_)
      ·refine cond_some h (fun hg4_29 h => ?_) (fun hg4_29 h => ?_)
       ·refine yx hn 2 ?_
        refine ys 0 ⟨li hv2⟩ ?_
        refine ys 2 ⟨ll hv3⟩ ?_
        refine yd hg4_5 17 ?_
        refine ys 0 ⟨li hv13⟩ ?_
        refine ys 2 ⟨ll hv14⟩ ?_
        refine yd hg4_26 3 ?_
        refine yd hg4_29 9 ?_
        refine ye [0,3,48] ?_
        exact hl47 _ (Option.some.inj h).symm
       ·obtain ⟨v15, hv15, h⟩ := bind_some h
        obtain ⟨v16, hv16, h⟩ := bind_some h
        obtain ⟨v17, hv17, h⟩ := bind_some h
        refine yx hn 2 ?_
        refine ys 0 ⟨li hv2⟩ ?_
        refine ys 2 ⟨ll hv3⟩ ?_
        refine yd hg4_5 17 ?_
        refine ys 0 ⟨li hv13⟩ ?_
        refine ys 2 ⟨ll hv14⟩ ?_
        refine yd hg4_26 3 ?_
        refine yd hg4_29 2 ?_
        refine ys 0 ⟨lb hv15⟩ ?_
        refine ys 0 ⟨li hv16⟩ ?_
        refine ys 4 ⟨ll hv17⟩ ?_
        refine ye [0,3,48] ?_
        exact hl47 _ (Option.some.inj h).symm
      ·refine yx hn 2 ?_
       refine ys 0 ⟨li hv2⟩ ?_
       refine ys 2 ⟨ll hv3⟩ ?_
       refine yd hg4_5 17 ?_
       refine ys 0 ⟨li hv13⟩ ?_
       refine ys 2 ⟨ll hv14⟩ ?_
       refine yd hg4_26 12 ?_
       refine ye [0,3,48] ?_
       exact hl47 _ (Option.some.inj h).symm
   ·have h := cond_f hb44 h
    refine ht_exit ?_
    refine pt_x_then ?_
    refine pt_x_then ?_
    refine pt_x_in ?_
    refine pt_pick [0] (by kernel_rfl) (es' := [(_,_)]) rfl ?_
    exact hl39 _ (ho41 _ (Option.some.inj h).symm).symm
end Go.Proofs.YtgonanjdmdlkjaaDoor
