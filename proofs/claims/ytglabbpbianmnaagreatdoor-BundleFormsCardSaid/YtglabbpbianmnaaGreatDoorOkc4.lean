/-
  The model's runs are what is told in Lean.
-/
import Derived.Test.YtglabbpbianmnaaGreatDoorProg
import Derived.KernelRfl
import Derived.Test.YtglabbpbianmnaaGreatDoorShelf
import Derived.Test.YtglabbpbianmnaaGreatDoorIdx
import Derived.Test.YtglabbpbianmnaaGreatDoorC1
import Derived.Test.YtglabbpbianmnaaGreatDoorOkc3
set_option linter.unusedVariables false
set_option linter.unusedSimpArgs false
set_option maxHeartbeats 1000000
namespace Go.Proofs.YtglabbpbianmnaaGreatDoor
open Go.Abs Go.Abs.Sh Tryz
open List (map flatten)
open Value (int)
theorem ok_dots_lastLine (mx:Int) (b:(List Int)) (r:(Int×Bool)) (h:Sh.dots_lastLine b=some r):FnG Tryz.prog (GL mx) 103 [.fl .shr 1 (map (int .u8) b)] (.tup [.v (.int .i64 r.1), .v (.bool r.2)]):=by
  unfold Sh.dots_lastLine at h
  refine yG 17 func103 fun g0 hn hio => ?_
  refine yxx hn 0 ?_
  refine yS (.box 3 [vi 0]) 0 ⟨oA (op_alloc _ _ zr3)⟩ ?_
  refine yS (.box 4 [vb false]) 0 ⟨oA (op_alloc _ _ zr4)⟩ ?_
  refine yee [0,17,2,3] ?_
  refine ht_seq ?_
  refine ht_seq ?_
  obtain ⟨v1, hv1, h⟩:=zn h
  refine yx hn 1 ?_
  refine yk [] [5] ?_
  refine yt (6,.cloB 89 [.box 25 [fb v1]]) 0 ⟨op_callS _ _ 69 _ _ rfl call69 rfl rfl (ok_dots_lines b _ hv1) rfl⟩ ?_
  refine yee [17,2,3,6] ?_
  refine ht_block ?_
  refine ht_pick [3,0,1,2] (by kernel_rfl) (es':=[(6,.cloB 89 [.box 25 [fb v1]]),(17,.glob (GL mx)),(2,.box 3 [vi 0]),(3,.box 4 [vb false])]) rfl ?_
  refine ht_rangeF h 89 6 7 18 _ [17, 2, 3] call89 (fun (s8:Int)=>[(17, .glob (GL mx)), (2, .box 3 [.v (.int .i64 s8)]), (3, .box 4 [.v (.bool false)])]) (fun (s10:Int)=>[(17, .glob (GL mx)), (2, .box 3 [.v (.int .i64 s10)]), (3, .box 4 [.v (.bool true)])]) (fun l J Y hY t t' h=>ok_dots_lines_1 mx l J Y hY v1 t t' h) hn rfl (fun _=>rfl) (fun _=>rfl) (fun _=>rfl) rfl rfl (fun _=>⟨rfl, rfl⟩) rfl (glIn_look 17 rfl) ?_ ?_ ?_
  ·rintro kk g0 hn hio x s8 u h
   refine ht_es (es':=[(7,fb x),(17,.glob (GL mx)),(2,.box 3 [vi s8]),(3,.box 4 [vb false]),(17,.v (kk.tm.getD 17 undef)),(2,.v (kk.tm.getD 2 undef)),(3,.v (kk.tm.getD 3 undef)),(18,.inv kk.ready)]) rfl ?_
   refine yy hn 1 [17,2,3,18,4,17,2,3] ?_
   refine pt_pick [0,1,2,4,5,6,7,3] (by kernel_rfl) (es':=[(17,.glob (GL mx)),(2,.box 3 [vi s8]),(3,.box 4 [vb false]),(4,fb x),(17,.v (kk.tm.getD 17 undef)),(2,.v (kk.tm.getD 2 undef)),(3,.v (kk.tm.getD 3 undef)),(18,.inv kk.ready)]) rfl ?_
   refine pt_begin (es:=[(17,.glob (GL mx)),(2,.box 3 [vi s8]),(3,.box 4 [vb false]),(4,fb x),(17,.v (kk.tm.getD 17 undef)),(2,.v (kk.tm.getD 2 undef)),(3,.v (kk.tm.getD 3 undef))]) 18 rfl ?_
   refine ht_block ?_
   refine ht_seq ?_
   refine ht_seq ?_
   obtain ⟨v2, hv2, h⟩:=zn h
   refine yx hn 1 ?_
   refine ys 1 ⟨lS hv2⟩ ?_
   refine yee [17,2,3,4,18,10,17,2,3] ?_
   refine ht_cond _ rfl (fun hb11 => ?_) (fun hb11 => ?_)
   ·have h:=cond_t hb11 h
    refine yyy hn 3 [17,2,3,18,17,2,3] ?_
    refine ht_ret ?_
    refine pt_r_then ?_
    refine pt_r_in ?_
    refine pt_pick [0,1,2,4,5,6,3] (by kernel_rfl) (es':=[(_,_),(_,_),(_,_),(_,_),(_,_),(_,_),(_,_)]) rfl ?_
    obtain rfl:=zi h
    exact pt_rret 18 [17, 2, 3] _ rfl rfl (by kernel_rfl)
   ·have h:=cond_f hb11 h
    refine ht_skip ?_
    refine pt_then ?_
    obtain ⟨v4, hv4, h⟩:=zn h
    obtain ⟨v5, hv5, h⟩:=zn h
    refine yx hn 3 ?_
    refine ys 0 ⟨lb hv4⟩ ?_
    refine ys 1 ⟨lb hv5⟩ ?_
    refine ye [17,2,3,18,17,2,3] ?_
    refine pt_inb ?_
    refine pt_pick [0,1,2,4,5,6,3] (by kernel_rfl) (es':=[(_,_),(_,_),(_,_),(_,_),(_,_),(_,_),(_,_)]) rfl ?_
    obtain rfl:=zi h
    exact pt_rnext 18 [17, 2, 3] _ rfl rfl (by kernel_rfl)
  ·rintro D s8 h
   refine pt_inb ?_
   refine pt_then ?_
   refine yyy hn 2 [17,2,3] ?_
   refine ht_ret ?_
   refine pt_pick [1,2] (by kernel_rfl) (es':=[(_,_),(_,_)]) rfl ?_
   obtain rfl:=zi h
   exact pt_ret hio rfl (.cell1 _ _ _ _ underlying3 rfl (.cell1 _ _ _ _ underlying4 rfl .nil)) rfl rfl
  ·rintro D s10 h
   refine pt_pick [1,2] (by kernel_rfl) (es':=[(_,_),(_,_)]) rfl ?_
   refine pt_r_in ?_
   refine pt_r_then ?_
   obtain rfl:=zi h
   exact pt_ret hio rfl (.cell1 _ _ _ _ underlying3 rfl (.cell1 _ _ _ _ underlying4 rfl .nil)) rfl rfl
theorem ok_bytes_IndexAny (mx:Int) (s:List Int) (c:ByteArray) (r:Int) (h:Sh.bytes_IndexAny s c=some r):FnG Tryz.prog (GL mx) 105 [.fl .shr 1 (map (int .u8) s), .v (.string c)] (.v (.int .i64 r)) :=
  lib_bytes_IndexAny (gl_mem0 mx) (gl_mem6 mx) (gl_mem7 mx) (fun s b off c w hs hnc hb hm hmb k1 k2 HG hp=>Tryz.idx_crlf s b off c w mx hs hnc hb hm hmb (tabs_lists utf8_first utf8_accept (by kernel_rfl) (by kernel_rfl) k1 k2) HG hp) Tryz.idx_none s c r h
theorem ok_bytes_ContainsAny (mx:Int) (b:(List Int)) (chars:ByteArray) (r:Bool) (h:Sh.bytes_ContainsAny b chars=some r):FnG Tryz.prog (GL mx) 84 [.fl .shr 1 (map (int .u8) b), .v (.string chars)] (.v (.bool r)):=by
  unfold Sh.bytes_ContainsAny at h
  refine yG 9 func84 fun g0 hn hio => ?_
  refine yyy hn 1 [0,1,9] ?_
  refine ht_seq ?_
  obtain ⟨v1, hv1, h⟩:=zn h
  refine yx hn 2 ?_
  refine ys 2 ⟨lg call105 (ok_bytes_IndexAny _ _ _ _ hv1) 9⟩ ?_
  refine yee [9,4] ?_
  refine ht_ret ?_
  refine pt_pick [1] (by kernel_rfl) (es':=[(_,_)]) rfl ?_
  obtain rfl:=zi h
  exact pt_ret hio rfl (.tmp _ _ .nil) rfl rfl
theorem ok_dots_Check (mx:Int) (b:(List Int)) (r:Int) (h:Sh.dots_Check b=some r):FnG Tryz.prog (GL mx) 65 [.fl .shr 1 (map (int .u8) b)] (.v (.int .i64 r)):=by
  unfold Sh.dots_Check at h
  refine yG 19 func65 fun g0 hn hio => ?_
  refine yxx hn 0 ?_
  refine yS (.box 29 [vi 0]) 0 ⟨oA (op_alloc _ _ zr29)⟩ ?_
  refine yee [0,19,2] ?_
  refine yxx hn 0 ?_
  refine yS (.box 3 [vi 0]) 1 ⟨oA (op_alloc _ _ zr3)⟩ ?_
  refine yee [0,19,2,3] ?_
  refine ht_seq ?_
  refine ht_seq ?_
  obtain ⟨v1, hv1, h⟩:=zn h
  refine yx hn 1 ?_
  refine yk [] [5] ?_
  refine yt (6,.cloB 89 [.box 25 [fb v1]]) 0 ⟨op_callS _ _ 69 _ _ rfl call69 rfl rfl (ok_dots_lines b _ hv1) rfl⟩ ?_
  refine yee [0,19,2,3,6] ?_
  refine ht_block ?_
  refine ht_pick [4,0,1,2,3] (by kernel_rfl) (es':=[(6,.cloB 89 [.box 25 [fb v1]]),(0,fb b),(19,.glob (GL mx)),(2,.box 29 [vi 0]),(3,.box 3 [vi 0])]) rfl ?_
  refine ht_rangeF h 89 6 7 20 _ [0, 19, 2, 3] call89 (fun (s8:Int)=>[(0, fb b), (19, .glob (GL mx)), (2, .box 29 [.v (.int .i64 0)]), (3, .box 3 [.v (.int .i64 s8)])]) (fun (s10:Int)=>[(0, fb b), (19, .glob (GL mx)), (2, .box 29 [.v (.int .i64 5)]), (3, .box 3 [.v (.int .i64 s10)])]) (fun l J Y hY t t' h=>ok_dots_lines_1 mx l J Y hY v1 t t' h) hn rfl (fun _=>rfl) (fun _=>rfl) (fun _=>rfl) rfl rfl (fun _=>⟨rfl, rfl⟩) rfl (glIn_look 19 rfl) ?_ ?_ ?_
  ·rintro kk g0 hn hio x s8 u h
   refine ht_es (es':=[(7,fb x),(0,fb b),(19,.glob (GL mx)),(2,.box 29 [vi 0]),(3,.box 3 [vi s8]),(0,.v (kk.tm.getD 0 undef)),(19,.v (kk.tm.getD 19 undef)),(2,.v (kk.tm.getD 2 undef)),(3,.v (kk.tm.getD 3 undef)),(20,.inv kk.ready)]) rfl ?_
   refine yy hn 1 [0,19,2,3,20,4,0,19,2,3] ?_
   refine pt_pick [0,1,2,3,5,6,7,8,9,4] (by kernel_rfl) (es':=[(0,fb b),(19,.glob (GL mx)),(2,.box 29 [vi 0]),(3,.box 3 [vi s8]),(4,fb x),(0,.v (kk.tm.getD 0 undef)),(19,.v (kk.tm.getD 19 undef)),(2,.v (kk.tm.getD 2 undef)),(3,.v (kk.tm.getD 3 undef)),(20,.inv kk.ready)]) rfl ?_
   refine pt_begin (es:=[(0,fb b),(19,.glob (GL mx)),(2,.box 29 [vi 0]),(3,.box 3 [vi s8]),(4,fb x),(0,.v (kk.tm.getD 0 undef)),(19,.v (kk.tm.getD 19 undef)),(2,.v (kk.tm.getD 2 undef)),(3,.v (kk.tm.getD 3 undef))]) 20 rfl ?_
   refine ht_block ?_
   refine ht_seq ?_
   refine ht_seq ?_
   obtain ⟨v2, hv2, h⟩:=zn h
   refine yx hn 1 ?_
   refine ys 0 ⟨lg call84 (ok_bytes_ContainsAny _ _ _ _ hv2) 19⟩ ?_
   refine yee [0,19,2,3,4,20,9,0,19,2,3] ?_
   refine ht_cond _ rfl (fun hb11 => ?_) (fun hb11 => ?_)
   ·have h:=cond_t hb11 h
    refine yyy hn 1 [0,19,2,3,20,0,19,2,3] ?_
    refine ht_ret ?_
    refine pt_r_then ?_
    refine pt_r_in ?_
    refine pt_pick [0,1,2,3,5,6,7,8,4] (by kernel_rfl) (es':=[(_,_),(_,_),(_,_),(_,_),(_,_),(_,_),(_,_),(_,_),(_,_)]) rfl ?_
    obtain rfl:=zi h
    exact pt_rret 20 [0, 19, 2, 3] _ rfl rfl (by kernel_rfl)
   ·have h:=cond_f hb11 h
    refine ht_skip ?_
    refine pt_then ?_
    obtain ⟨v4, hv4, h⟩:=zn h
    obtain ⟨v5, hv5, h⟩:=zn h
    refine yx hn 3 ?_
    refine ys 0 ⟨lb hv4⟩ ?_
    refine ys 1 ⟨lb hv5⟩ ?_
    refine ye [0,19,2,3,20,0,19,2,3] ?_
    refine pt_inb ?_
    refine pt_pick [0,1,2,3,5,6,7,8,4] (by kernel_rfl) (es':=[(_,_),(_,_),(_,_),(_,_),(_,_),(_,_),(_,_),(_,_),(_,_)]) rfl ?_
    obtain rfl:=zi h
    exact pt_rnext 20 [0, 19, 2, 3] _ rfl rfl (by kernel_rfl)
  ·rintro D s8 h
   refine pt_inb ?_
   refine pt_then (ht_seq ?_)
   refine yyy hn 4 [19,2,18] ?_
   refine ht_cond _ rfl (fun hb12 => ?_) (fun hb12 => ?_)
   ·have h:=cond_t hb12 h
    refine yyy hn 1 [19,2] ?_
    refine ht_ret ?_
    refine pt_pick [1] (by kernel_rfl) (es':=[(_,_)]) rfl ?_
    refine pt_r_then ?_
    obtain rfl:=zi h
    exact pt_ret hio rfl (.cell1 _ _ _ _ underlying29 rfl .nil) rfl rfl
   ·have h:=cond_f hb12 h
    refine ht_skip ?_
    refine pt_then ?_
    refine yyy hn 1 [19,2] ?_
    refine ht_ret ?_
    refine pt_pick [1] (by kernel_rfl) (es':=[(_,_)]) rfl ?_
    obtain rfl:=zi h
    exact pt_ret hio rfl (.cell1 _ _ _ _ underlying29 rfl .nil) rfl rfl
  ·rintro D s10 h
   refine pt_pick [2] (by kernel_rfl) (es':=[(_,_)]) rfl ?_
   refine pt_r_in ?_
   refine pt_r_then ?_
   obtain rfl:=zi h
   exact pt_ret hio rfl (.cell1 _ _ _ _ underlying29 rfl .nil) rfl rfl
theorem ok_bytes_TrimPrefix_sh (s:(List Int)) (prefix_:(List Int)) (r:(List Int)) (h:Sh.bytes_TrimPrefix_sh s prefix_=some r):FnOK Tryz.prog 104 [.fl .shr 1 (map (int .u8) s), .fl .shr 1 (map (int .u8) prefix_)] (.fl .shr 1 (map (int .u8) r)):=by
  unfold Sh.bytes_TrimPrefix_sh at h
  refine yO 13 func104 fun g0 hn hio => ?_
  refine yyy hn 1 [0,1] ?_
  refine ht_seq ?_
  refine ht_seq ?_
  obtain ⟨v1, hv1, h⟩:=zn h
  refine yx hn 2 ?_
  refine ys 0 ⟨lk call70 (ok_bytes_HasPrefix _ _ _ hv1)⟩ ?_
  refine yee [0,1,7] ?_
  refine ht_cond _ rfl (fun hb2 => ?_) (fun hb2 => ?_)
  ·have h:=cond_t hb2 h
   refine ht_seq ?_
   obtain ⟨v3, hv3, h⟩:=zn h
   refine yx hn 3 ?_
   refine yS (fb v3) 1 ⟨op_sl _ _ _ (prefix_.length:Int) (s.length:Int) _ underlying25 sz5 rfl rfl ⟨_,rfl⟩ rfl hv3⟩ ?_
   refine yee [4] ?_
   refine ht_ret ?_
   refine pt_r_then ?_
   obtain rfl:=zi h
   exact pt_ret hio rfl (.tmp _ _ .nil) rfl rfl
  ·have h:=cond_f hb2 h
   refine ht_skip ?_
   refine pt_then ?_
   refine yyy hn 2 [4] ?_
   refine ht_ret ?_
   obtain rfl:=zi h
   exact pt_ret hio rfl (.tmp _ _ .nil) rfl rfl
theorem ok_dots_Strip (mx:Int) (b:(List Int)) (r:((List Int)×Int×Int)) (h:Sh.dots_Strip b=some r):FnG Tryz.prog (GL mx) 81 [.fl .shr 1 (map (int .u8) b)] (.tup [.fl (.own 5) 1 (map (int .u8) r.1), .v (.int .i64 r.2.1), .v (.int .i64 r.2.2)]):=by
  unfold Sh.dots_Strip at h
  refine yG 39 func81 fun g0 hn hio => ?_
  refine yxx hn 0 ?_
  refine yS (.box 25 [vz]) 2 ⟨oA (op_alloc _ _ zr25)⟩ ?_
  refine yee [0,39,2] ?_
  refine ht_seq ?_
  obtain ⟨v1, hv1, h⟩:=zn h
  refine yx hn 1 ?_
  refine ys 0 ⟨lg call103 (ok_dots_lastLine _ _ _ hv1) 39⟩ ?_
  refine ym 4 ?_
  refine yee [0,39,2,5,6] ?_
  refine ht_seq ?_
  refine yyy hn 2 [0,39,2,5,15] ?_
  refine ht_cond _ rfl (fun hb2 => ?_) (fun hb2 => ?_)
  ·have h:=cond_t hb2 h
   refine yyy hn 3 [39,2,3,4] ?_
   refine ht_ret ?_
   refine pt_pick [1,2,3] (by kernel_rfl) (es':=[(_,_),(_,_),(_,_)]) rfl ?_
   refine pt_sub (fs:=[(2,.box 25 [.fl (.own 5) 1 (map (int .u8) [])]),(3,vi 0),(4,vi 9)]) (.box _ _ (subs_cons (sub_nil 5 1) (subs_nil)) rfl (.same _ (.same _ .nil))) ?_
   refine pt_r_then ?_
   obtain rfl:=zi h
   exact pt_ret hio rfl (.cell1 _ _ _ _ underlying25 rfl (.tmp _ _ (.tmp _ _ .nil))) rfl rfl
  ·have h:=cond_f hb2 h
   refine ht_skip ?_
   refine pt_then (ht_seq ?_)
   refine ht_seq ?_
   obtain ⟨v3, hv3, h⟩:=zn h
   obtain ⟨v4, hv4, h⟩:=zn h
   refine yx hn 2 ?_
   refine yS (fb v3) 0 ⟨op_sl _ _ _ 0 v1.1 _ underlying25 sz5 rfl rfl rfl ⟨_,rfl⟩ hv3⟩ ?_
   refine ys 1 ⟨lg call65 (ok_dots_Check _ _ _ hv4) 39⟩ ?_
   refine yee [0,39,2,5,7] ?_
   refine yyy hn 2 [0,39,2,5,7,21] ?_
   refine ht_cond _ rfl (fun hb5 => ?_) (fun hb5 => ?_)
   ·have h:=cond_t hb5 h
    refine yyy hn 4 [39,2,3,4] ?_
    refine ht_ret ?_
    refine pt_pick [1,2,3] (by kernel_rfl) (es':=[(_,_),(_,_),(_,_)]) rfl ?_
    refine pt_sub (fs:=[(2,.box 25 [.fl (.own 5) 1 (map (int .u8) [])]),(3,vi 0),(4,vi v4)]) (.box _ _ (subs_cons (sub_nil 5 1) (subs_nil)) rfl (.same _ (.same _ .nil))) ?_
    refine pt_r_then ?_
    obtain rfl:=zi h
    exact pt_ret hio rfl (.cell1 _ _ _ _ underlying25 rfl (.tmp _ _ (.tmp _ _ .nil))) rfl rfl
   ·have h:=cond_f hb5 h
    refine ht_skip ?_
    refine pt_then (ht_seq ?_)
    refine ht_seq ?_
    obtain ⟨v6, hv6, h⟩:=zn h
    obtain ⟨v7, hv7, h⟩:=zn h
    refine yx hn 2 ?_
    refine yS (fb v6) 0 ⟨op_sl _ _ _ 0 v1.1 _ underlying25 sz5 rfl rfl rfl ⟨_,rfl⟩ hv6⟩ ?_
    refine yk [] [25] ?_
    refine yt (26,.cloB 89 [.box 25 [fb v7]]) 0 ⟨op_callS _ _ 69 _ _ rfl call69 rfl rfl (ok_dots_lines v6 _ hv7) rfl⟩ ?_
    refine yee [39,2,5,26] ?_
    refine ht_block ?_
    refine ht_pick [3,0,1,2] (by kernel_rfl) (es':=[(26,.cloB 89 [.box 25 [fb v7]]),(39,.glob (GL mx)),(2,.box 25 [vz]),(5,vi v1.1)]) rfl ?_
    refine ht_sub (fs:=[(26,.cloB 89 [.box 25 [fb v7]]),(39,.glob (GL mx)),(2,.box 25 [.fl (.own 5) 1 (map (int .u8) [])]),(5,vi v1.1)]) (.same _ (.same _ (.box _ _ (subs_cons (sub_nil 5 1) (subs_nil)) rfl (.same _ .nil)))) ?_
    refine ht_rangeF h 89 26 27 40 _ [39, 2, 5] call89 (fun (s12:(List Int))=>[(39, .glob (GL mx)), (2, .box 25 [.fl (.own 5) 1 (map (int .u8) s12)]), (5, .v (.int .i64 v1.1))]) (fun (():Unit)=>[]) (fun l J Y hY t t' h=>ok_dots_lines_1 mx l J Y hY v7 t t' h) hn rfl (fun _=>rfl) (fun _=>rfl) (fun _=>rfl) rfl rfl (fun _=>⟨rfl, rfl⟩) rfl (glIn_look 39 rfl) ?_ ?_ ?_
    ·rintro kk g0 hn hio x s12 u h
     refine ht_es (es':=[(27,fb x),(39,.glob (GL mx)),(2,.box 25 [.fl (.own 5) 1 (map (int .u8) s12)]),(5,vi v1.1),(39,.v (kk.tm.getD 39 undef)),(2,.v (kk.tm.getD 2 undef)),(5,.v (kk.tm.getD 5 undef)),(40,.inv kk.ready)]) rfl ?_
     refine yy hn 1 [39,2,5,40,8,39,2,5] ?_
     refine pt_pick [0,1,2,4,5,6,7,3] (by kernel_rfl) (es':=[(39,.glob (GL mx)),(2,.box 25 [.fl (.own 5) 1 (map (int .u8) s12)]),(5,vi v1.1),(8,fb x),(39,.v (kk.tm.getD 39 undef)),(2,.v (kk.tm.getD 2 undef)),(5,.v (kk.tm.getD 5 undef)),(40,.inv kk.ready)]) rfl ?_
     refine pt_begin (es:=[(39,.glob (GL mx)),(2,.box 25 [.fl (.own 5) 1 (map (int .u8) s12)]),(5,vi v1.1),(8,fb x),(39,.v (kk.tm.getD 39 undef)),(2,.v (kk.tm.getD 2 undef)),(5,.v (kk.tm.getD 5 undef))]) 40 rfl ?_
     refine ht_block ?_
     refine ht_seq ?_
     obtain ⟨v8, hv8, h⟩:=zn h
     obtain ⟨v9, hv9, h⟩:=zn h
     refine wb [[2],[8]] ?_
     refine wN [] ?_
     refine wS (.fl (.own 5) 1 (map (int .u8) [46])) [] ⟨op_buildSlice _ _ 1 (.int .u8 0) (map (int .u8) [46]) [(0,.int .u8 46)] underlying25 sz5 zr5 (fun _ V w o a hv hes=>by simp only [List.map_toArray,List.map_cons,List.map_nil]; try rfl) (litfill (by simp [Instr.fill,Value.cells]; rfl) (by simp [List.range,List.range.loop] <;> rfl)) (by simp [Value.oneCell']) rfl (by decide) (by decide) (by decide)⟩ ?_
     refine wK [30] [] ?_
     refine wt [(31,.fl .ro 1 (map (int .u8) [46]))] [] ⟨op_conv_mark _ _ _ underlying25 underlying5 (by intro h; cases h)⟩ ?_
     refine wN [29,31] ?_
     refine wS (fb v8) [] ⟨op_callS _ _ 104 _ _ rfl call104 rfl rfl (ok_bytes_TrimPrefix_sh x [46] _ hv8) rfl⟩ ?_
     refine wK [2] [28,32] ?_
     refine wt [(2,.box 25 [.any]),(33,.fl (.own 5) 1 (map (int .u8) v9))] [] ⟨op_app_cell _ _ _ _ _ _ el25 rfl rfl (zl rfl) rfl (map_len _) (map_len _) hv9 ((List.map_append).symm.trans (congrArg (map _) (app_eq hv9))) (Nat.ne_of_beq_eq_false rfl) rfl rfl⟩ ?_
     refine wK [28,33,2] [] ?_
     refine wt [(2,.box 25 [.fl (.own 5) 1 (map (int .u8) v9)])] [] ⟨LOp.drop [_] (op_store_take _ _ _ _ _ _ _ _ sz25 rfl rfl rfl (zl rfl) rfl rfl)⟩ ?_
     refine wee hn [39,2,5,40,39,2,5] ?_
     obtain ⟨v10, hv10, h⟩:=zn h
     refine yx hn 1 ?_
     refine yk [2] [34] ?_
     refine ytt (2,.box 25 [.any]) (35,.fl (.own 5) 1 (map (int .u8) v10)) 0 ⟨op_apps_cell _ _ _ _ _ _ el25 zr5 underlying9 rfl rfl (zl rfl) rfl rfl hv10 rfl (Nat.ne_of_beq_eq_false rfl) rfl rfl⟩ ?_
     refine yw [34] 0 ?_
     refine yk [35,2] [] ?_
     refine yt (2,.box 25 [.fl (.own 5) 1 (map (int .u8) v10)]) 0 ⟨op_store_take _ _ _ _ _ _ _ _ sz25 rfl rfl rfl (zl rfl) rfl rfl⟩ ?_
     refine ye [39,2,5,40,39,2,5] ?_
     refine pt_inb ?_
     refine pt_pick [0,1,2,4,5,6,3] (by kernel_rfl) (es':=[(_,_),(_,_),(_,_),(_,_),(_,_),(_,_),(_,_)]) rfl ?_
     obtain rfl:=zi h
     exact pt_rnext 40 [39, 2, 5] _ rfl rfl (by kernel_rfl)
    ·rintro D s12 h
     refine pt_inb ?_
     refine pt_then (ht_seq ?_)
     obtain ⟨v13, hv13, h⟩:=zn h
     refine yx hn 2 ?_
     refine ys 0 ⟨lb hv13⟩ ?_
     refine yk [2] [36] ?_
     refine yt (2,.box 25 [.fl (.own 5) 1 (map (int .u8) s12)]) 2 ⟨op_store_self1 _ _ _ 2 0 sz25 rfl rfl rfl (zl rfl)⟩ ?_
     refine yee [39,2,3,4] ?_
     refine ht_ret ?_
     refine pt_pick [1,2,3] (by kernel_rfl) (es':=[(_,_),(_,_),(_,_)]) rfl ?_
     obtain rfl:=zi h
     exact pt_ret hio rfl (.cell1 _ _ _ _ underlying25 rfl (.tmp _ _ (.tmp _ _ .nil))) rfl rfl
    ·rintro D ⟨⟩ h
     cases h
theorem ok_envelope_Valid (mx:Int) (m:T_Mail) (r:Bool) (h:Sh.envelope_Valid m=some r):FnG Tryz.prog (GL mx) 64 [.agg [.v (.bool m.From.Null), .v (.string m.From.Local), .v (.string m.From.Domain), .fl .shr 3 (flatten (map T_Path.enc m.To)), .fl .shr 1 (map (int .u8) m.Body), .v (.bool m.Quiet), .v (.string m.Helo), .v (.int .i64 m.At)]] (.v (.bool r)):=by
  unfold Sh.envelope_Valid at h
  refine yG 36 func64 fun g0 hn hio => ?_
  refine yyy hn 2 [36,1] ?_
  refine ht_seq ?_
  refine ht_seq ?_
  refine ht_joinS h (fun (s2:Bool)=>[(36,.glob (GL mx)),(1,.box 46 (T_Mail.c m [])),(20,vb s2)]) ?_ ?_
  ·rintro s2 h
   refine pt_then ?_
   refine ht_cond _ rfl (fun hb6 => ?_) (fun hb6 => ?_)
   ·have h:=cond_t hb6 h
    refine yyy hn 1 [36,2] ?_
    refine ht_ret ?_
    refine pt_pick [1] (by kernel_rfl) (es':=[(_,_)]) rfl ?_
    refine pt_r_then ?_
    obtain rfl:=zi h
    exact pt_ret hio rfl (.tmp _ _ .nil) rfl rfl
   ·have h:=cond_f hb6 h
    refine ht_skip ?_
    refine pt_then (ht_seq ?_)
    refine yyy hn 4 [36,22,23,24] ?_
    refine ht_loopS h (fun (s24:Int)=>[(36,.glob (GL mx)),(22,.fl .shr 3 (flatten (map T_Path.enc m.To))),(23,vi (m.To.length:Int)),(24,vi s24)]) (fun (():Unit)=>[(36,.glob (GL mx))]) ?_ ?_
    ·rintro ⟨⟩ h
     refine pt_then ?_
     refine yyy hn 1 [36,2] ?_
     refine ht_ret ?_
     refine pt_pick [1] (by kernel_rfl) (es':=[(_,_)]) rfl ?_
     obtain rfl:=zi h
     exact pt_ret hio rfl (.tmp _ _ .nil) rfl rfl
    ·rintro u31 hl32 hr33 s24 rr36 h ho34
     refine yyy hn 1 [36,22,23,24,25] ?_
     refine ht_seq ?_
     refine ht_cond _ rfl (fun hb37 => ?_) (fun hb37 => ?_)
     ·have h:=cond_t hb37 h
      refine ht_skip ?_
      refine pt_then (ht_seq ?_)
      refine ht_block ?_
      refine ht_seq ?_
      obtain ⟨v8, hv8, h⟩:=zn h
      obtain ⟨v9, hv9, h⟩:=zn h
      refine yx hn 0 ?_
      refine ys 0 ⟨lj hv8⟩ ?_
      refine yS (.agg [vb v9.Null,vs v9.Local,vs v9.Domain]) 0 ⟨op_load_eA _ _ _ _ _ _ _ underlying43 rfl sz43 rfl rfl (flat_get T_Path.len hv9) rfl (by decide)⟩ ?_
      refine yS (.box 43 [vb false,vs z0,vs z0]) 1 ⟨oA (op_alloc _ _ zr43)⟩ ?_
      refine yee [36,22,23,24,4] ?_
      refine ht_seq ?_
      refine ht_joinS h (fun (s38:Bool)=>[(36,.glob (GL mx)),(22,.fl .shr 3 (flatten (map T_Path.enc m.To))),(23,vi (m.To.length:Int)),(24,vi s24),(34,vb s38)]) ?_ ?_
      ·rintro s38 h
       refine pt_then ?_
       refine ht_cond _ rfl (fun hb42 => ?_) (fun hb42 => ?_)
       ·have h:=cond_t hb42 h
        refine yyy hn 1 [36,2] ?_
        refine ht_ret ?_
        refine pt_pick [1] (by kernel_rfl) (es':=[(_,_)]) rfl ?_
        refine pt_r_in ?_
        refine pt_r_then ?_
        refine pt_r_then ?_
        refine pt_r_in ?_
        refine pt_r_then ?_
        have h:=hr33 _ (ho34 _ (zi h).symm).symm
        obtain rfl:=zi h
        exact pt_ret hio rfl (.tmp _ _ .nil) rfl rfl
       ·have h:=cond_f hb42 h
        refine ht_skip ?_
        refine pt_inb ?_
        refine pt_then ?_
        obtain ⟨v16, hv16, h⟩:=zn h
        refine yx hn 0 ?_
        refine ys 0 ⟨lb hv16⟩ ?_
        refine yw [24] 1 ?_
        refine ye [36,22,23,24] ?_
        exact pt_next _ (zi h).symm rfl
      ·intro u39 h hl40 hr41
       obtain ⟨v10, hv10, h⟩:=zn h
       refine cond_some h (fun hg6_3 h => ?_) (fun hg6_3 h => ?_)
       ·refine yx hn 1 ?_
        refine ys 2 ⟨lg call68 (ok_path_Check _ _ _ hv10) 36⟩ ?_
        refine yd hg6_3 3 ?_
        refine ye [36,22,23,24,34] ?_
        exact hl40 _ (zi h).symm
       ·refine yx hn 1 ?_
        refine ys 2 ⟨lg call68 (ok_path_Check _ _ _ hv10) 36⟩ ?_
        refine yd hg6_3 3 ?_
        refine ye [36,22,23,24,34] ?_
        exact hl40 _ (zi h).symm
     ·have h:=cond_f hb37 h
      refine ht_exit ?_
      refine pt_x_then ?_
      refine pt_x_then ?_
      refine pt_x_in ?_
      refine pt_pick [0] (by kernel_rfl) (es':=[(_,_)]) rfl ?_
      exact hl32 _ (ho34 _ (zi h).symm).symm
  ·intro u3 h hl4 hr5
   obtain ⟨v1, hv1, h⟩:=zn h
   refine cond_some h (fun hg1_4 h => ?_) (fun hg1_4 h => ?_)
   ·refine yx hn 2 ?_
    refine ys 2 ⟨lg call68 (ok_path_Check _ _ _ hv1) 36⟩ ?_
    refine yd hg1_4 11 ?_
    refine ye [36,1,20] ?_
    exact hl4 _ (zi h).symm
   ·refine cond_some h (fun hg1_10 h => ?_) (fun hg1_10 h => ?_)
    ·refine yx hn 2 ?_
     refine ys 2 ⟨lg call68 (ok_path_Check _ _ _ hv1) 36⟩ ?_
     refine yd hg1_4 6 ?_
     refine yd hg1_10 5 ?_
     refine ye [36,1,20] ?_
     exact hl4 _ (zi h).symm
    ·refine yx hn 2 ?_
     refine ys 2 ⟨lg call68 (ok_path_Check _ _ _ hv1) 36⟩ ?_
     refine yd hg1_4 6 ?_
     refine yd hg1_10 5 ?_
     refine ye [36,1,20] ?_
     exact hl4 _ (zi h).symm
theorem ok_bundle_validMail (mx:Int) (m:T_Mail) (r:Bool) (h:Sh.bundle_validMail m=some r):FnG Tryz.prog (GL mx) 42 [.agg [.v (.bool m.From.Null), .v (.string m.From.Local), .v (.string m.From.Domain), .fl .shr 3 (flatten (map T_Path.enc m.To)), .fl .shr 1 (map (int .u8) m.Body), .v (.bool m.Quiet), .v (.string m.Helo), .v (.int .i64 m.At)]] (.v (.bool r)):=by
  unfold Sh.bundle_validMail at h
  refine yG 17 func42 fun g0 hn hio => ?_
  refine yyy hn 2 [17,1] ?_
  refine ht_seq ?_
  refine ht_joinS h (fun (s3:Bool)=>[(17,.glob (GL mx)),(2,vb s3)]) ?_ ?_
  ·rintro s3 h
   refine pt_then (ht_ret ?_)
   refine pt_pick [1] (by kernel_rfl) (es':=[(_,_)]) rfl ?_
   obtain rfl:=zi h
   exact pt_ret hio rfl (.tmp _ _ .nil) rfl rfl
  ·intro u4 h hl5 hr6
   obtain ⟨v1, hv1, h⟩:=zn h
   refine cond_some h (fun hg1_2 h => ?_) (fun hg1_2 h => ?_)
   ·refine cond_some h (fun hg1_8 h => ?_) (fun hg1_8 h => ?_)
    ·obtain ⟨v2, hv2, h⟩:=zn h
     refine yx hn 1 ?_
     refine ys 1 ⟨lg call64 (ok_envelope_Valid _ _ _ hv1) 17⟩ ?_
     refine yd hg1_2 6 ?_
     refine yd hg1_8 2 ?_
     refine ys 3 ⟨lg call65 (ok_dots_Check _ _ _ hv2) 17⟩ ?_
     refine ye [17,2] ?_
     exact hl5 _ (zi h).symm
    ·refine yx hn 1 ?_
     refine ys 1 ⟨lg call64 (ok_envelope_Valid _ _ _ hv1) 17⟩ ?_
     refine yd hg1_2 6 ?_
     refine yd hg1_8 6 ?_
     refine ye [17,2] ?_
     exact hl5 _ (zi h).symm
   ·refine yx hn 1 ?_
    refine ys 1 ⟨lg call64 (ok_envelope_Valid _ _ _ hv1) 17⟩ ?_
    refine yd hg1_2 12 ?_
    refine ye [17,2] ?_
    exact hl5 _ (zi h).symm
theorem ok_bundle_Check (mx:Int) (b:T_Bundle) (r:Int) (h:Sh.bundle_Check b=some r):FnG Tryz.prog (GL mx) 19 [.agg [.v (.int .i64 b.Origin), .v (.int .i64 b.Number), .fr .shr true 8 (flatten (map T_Mail.ienc b.Mails))]] (.v (.int .i64 r)):=by
  unfold Sh.bundle_Check at h
  refine yG 58 func19 fun g0 hn hio => ?_
  refine yyy hn 2 [58,1] ?_
  refine ht_seq ?_
  refine ht_seq ?_
  refine ht_joinS h (fun (s1:Bool)=>[(58,.glob (GL mx)),(1,.box 24 [vi b.Origin,vi b.Number,.fr .shr true 8 (flatten (map T_Mail.ienc b.Mails))]),(22,vb s1)]) ?_ ?_
  ·rintro s1 h
   refine pt_then ?_
   refine ht_cond _ rfl (fun hb5 => ?_) (fun hb5 => ?_)
   ·have h:=cond_t hb5 h
    refine yyy hn 1 [58,2] ?_
    refine ht_ret ?_
    refine pt_pick [1] (by kernel_rfl) (es':=[(_,_)]) rfl ?_
    refine pt_r_then ?_
    obtain rfl:=zi h
    exact pt_ret hio rfl (.tmp _ _ .nil) rfl rfl
   ·have h:=cond_f hb5 h
    refine ht_skip ?_
    refine pt_then (ht_seq ?_)
    refine ht_seq ?_
    refine ht_joinS h (fun (s6:Bool)=>[(58,.glob (GL mx)),(1,.box 24 [vi b.Origin,vi b.Number,.fr .shr true 8 (flatten (map T_Mail.ienc b.Mails))]),(32,vb s6)]) ?_ ?_
    ·rintro s6 h
     refine pt_then ?_
     refine ht_cond _ rfl (fun hb10 => ?_) (fun hb10 => ?_)
     ·have h:=cond_t hb10 h
      refine yyy hn 1 [58,2] ?_
      refine ht_ret ?_
      refine pt_pick [1] (by kernel_rfl) (es':=[(_,_)]) rfl ?_
      refine pt_r_then ?_
      obtain rfl:=zi h
      exact pt_ret hio rfl (.tmp _ _ .nil) rfl rfl
     ·have h:=cond_f hb10 h
      refine ht_skip ?_
      refine pt_then (ht_seq ?_)
      refine yyy hn 4 [58,34,35,36] ?_
      refine ht_loopS h (fun (s28:Int)=>[(58,.glob (GL mx)),(34,.fr .shr true 8 (flatten (map T_Mail.ienc b.Mails))),(35,vi (b.Mails.length:Int)),(36,vi s28)]) (fun (():Unit)=>[(58,.glob (GL mx))]) ?_ ?_
      ·rintro ⟨⟩ h
       refine pt_then ?_
       refine yyy hn 1 [58,2] ?_
       refine ht_ret ?_
       refine pt_pick [1] (by kernel_rfl) (es':=[(_,_)]) rfl ?_
       obtain rfl:=zi h
       exact pt_ret hio rfl (.tmp _ _ .nil) rfl rfl
      ·rintro u35 hl36 hr37 s28 rr40 h ho38
       refine yyy hn 1 [58,34,35,36,37] ?_
       refine ht_seq ?_
       refine ht_cond _ rfl (fun hb41 => ?_) (fun hb41 => ?_)
       ·have h:=cond_t hb41 h
        refine ht_skip ?_
        refine pt_then (ht_seq ?_)
        refine ht_block ?_
        refine ht_seq ?_
        obtain ⟨v12, hv12, h⟩:=zn h
        obtain ⟨v13, hv13, h⟩:=zn h
        refine yx hn 0 ?_
        refine ys 0 ⟨lI hv12⟩ ?_
        refine yS (.agg (T_Mail.c v13 [])) 0 ⟨op_loadA_fr _ _ _ _ _ _ _ _ underlying46 rfl sz46 rfl rfl (gflat_get T_Mail.ilen hv13) (.cons (.v _) (.cons (.v _) (.cons (.v _) (.cons (.fl _ _ rfl) (.cons (.fl _ _ rfl) (.cons (.v _) (.cons (.v _) (.cons (.v _) (.nil))))))))) rfl (by decide)⟩ ?_
        refine yS (.box 46 [vb false,vs z0,vs z0,vz,vz,vb false,vs z0,vi 0]) 1 ⟨oA (op_alloc _ _ zr46)⟩ ?_
        refine yee [58,34,35,36,4] ?_
        refine ht_seq ?_
        refine ht_joinS h (fun (s42:Bool)=>[(58,.glob (GL mx)),(34,.fr .shr true 8 (flatten (map T_Mail.ienc b.Mails))),(35,vi (b.Mails.length:Int)),(36,vi s28),(56,vb s42)]) ?_ ?_
        ·rintro s42 h
         refine pt_then ?_
         refine ht_cond _ rfl (fun hb46 => ?_) (fun hb46 => ?_)
         ·have h:=cond_t hb46 h
          refine yyy hn 1 [58,2] ?_
          refine ht_ret ?_
          refine pt_pick [1] (by kernel_rfl) (es':=[(_,_)]) rfl ?_
          refine pt_r_in ?_
          refine pt_r_then ?_
          refine pt_r_then ?_
          refine pt_r_in ?_
          refine pt_r_then ?_
          have h:=hr37 _ (ho38 _ (zi h).symm).symm
          obtain rfl:=zi h
          exact pt_ret hio rfl (.tmp _ _ .nil) rfl rfl
         ·have h:=cond_f hb46 h
          refine ht_skip ?_
          refine pt_inb ?_
          refine pt_then ?_
          obtain ⟨v20, hv20, h⟩:=zn h
          refine yx hn 0 ?_
          refine ys 0 ⟨lb hv20⟩ ?_
          refine yw [36] 1 ?_
          refine ye [58,34,35,36] ?_
          exact pt_next _ (zi h).symm rfl
        ·intro u43 h hl44 hr45
         obtain ⟨v14, hv14, h⟩:=zn h
         refine cond_some h (fun hg8_3 h => ?_) (fun hg8_3 h => ?_)
         ·refine yx hn 1 ?_
          refine ys 2 ⟨lg call42 (ok_bundle_validMail _ _ _ hv14) 58⟩ ?_
          refine yd hg8_3 13 ?_
          refine ye [58,34,35,36,56] ?_
          exact hl44 _ (zi h).symm
         ·refine cond_some h (fun hg8_7 h => ?_) (fun hg8_7 h => ?_)
          ·refine yx hn 1 ?_
           refine ys 2 ⟨lg call42 (ok_bundle_validMail _ _ _ hv14) 58⟩ ?_
           refine yd hg8_3 4 ?_
           refine yd hg8_7 9 ?_
           refine ye [58,34,35,36,56] ?_
           exact hl44 _ (zi h).symm
          ·refine cond_some h (fun hg8_12 h => ?_) (fun hg8_12 h => ?_)
           ·refine yx hn 1 ?_
            refine ys 2 ⟨lg call42 (ok_bundle_validMail _ _ _ hv14) 58⟩ ?_
            refine yd hg8_3 4 ?_
            refine yd hg8_7 5 ?_
            refine yd hg8_12 4 ?_
            refine ye [58,34,35,36,56] ?_
            exact hl44 _ (zi h).symm
           ·refine yx hn 1 ?_
            refine ys 2 ⟨lg call42 (ok_bundle_validMail _ _ _ hv14) 58⟩ ?_
            refine yd hg8_3 4 ?_
            refine yd hg8_7 5 ?_
            refine yd hg8_12 4 ?_
            refine ye [58,34,35,36,56] ?_
            exact hl44 _ (zi h).symm
       ·have h:=cond_f hb41 h
        refine ht_exit ?_
        refine pt_x_then ?_
        refine pt_x_then ?_
        refine pt_x_in ?_
        refine pt_pick [0] (by kernel_rfl) (es':=[(_,_)]) rfl ?_
        exact hl36 _ (ho38 _ (zi h).symm).symm
    ·intro u7 h hl8 hr9
     refine cond_some h (fun hg3_4 h => ?_) (fun hg3_4 h => ?_)
     ·refine yx hn 5 ?_
      refine yd hg3_4 5 ?_
      refine ye [58,1,32] ?_
      exact hl8 _ (zi h).symm
     ·refine yx hn 5 ?_
      refine yd hg3_4 5 ?_
      refine ye [58,1,32] ?_
      exact hl8 _ (zi h).symm
  ·intro u2 h hl3 hr4
   refine cond_some h (fun hg1_3 h => ?_) (fun hg1_3 h => ?_)
   ·refine cond_some h (fun hg1_8 h => ?_) (fun hg1_8 h => ?_)
    ·refine yx hn 4 ?_
     refine yd hg1_3 5 ?_
     refine yd hg1_8 9 ?_
     refine ye [58,1,22] ?_
     exact hl3 _ (zi h).symm
    ·refine cond_some h (fun hg1_13 h => ?_) (fun hg1_13 h => ?_)
     ·refine yx hn 4 ?_
      refine yd hg1_3 5 ?_
      refine yd hg1_8 5 ?_
      refine yd hg1_13 4 ?_
      refine ye [58,1,22] ?_
      exact hl3 _ (zi h).symm
     ·refine yx hn 4 ?_
      refine yd hg1_3 5 ?_
      refine yd hg1_8 5 ?_
      refine yd hg1_13 4 ?_
      refine ye [58,1,22] ?_
      exact hl3 _ (zi h).symm
   ·refine cond_some h (fun hg1_13 h => ?_) (fun hg1_13 h => ?_)
    ·refine yx hn 4 ?_
     refine yd hg1_3 10 ?_
     refine yd hg1_13 4 ?_
     refine ye [58,1,22] ?_
     exact hl3 _ (zi h).symm
    ·refine yx hn 4 ?_
     refine yd hg1_3 10 ?_
     refine yd hg1_13 4 ?_
     refine ye [58,1,22] ?_
     exact hl3 _ (zi h).symm
theorem ok_path_Text (mx:Int) (p:T_Path) (r:(ByteArray×Int)) (h:Sh.path_Text p=some r):FnG Tryz.prog (GL mx) 50 [.agg [.v (.bool p.Null), .v (.string p.Local), .v (.string p.Domain)]] (.tup [.v (.string r.1), .v (.int .i64 r.2)]):=by
  unfold Sh.path_Text at h
  refine yG 20 func50 fun g0 hn hio => ?_
  refine yyy hn 3 [20,1] ?_
  refine ht_seq ?_
  refine ht_seq ?_
  obtain ⟨v1, hv1, h⟩:=zn h
  refine yx hn 1 ?_
  refine ys 1 ⟨lg call68 (ok_path_Check _ _ _ hv1) 20⟩ ?_
  refine yee [20,1,4] ?_
  refine yyy hn 2 [20,1,4,8] ?_
  refine ht_cond _ rfl (fun hb2 => ?_) (fun hb2 => ?_)
  ·have h:=cond_t hb2 h
   refine yyy hn 3 [20,2,3] ?_
   refine ht_ret ?_
   refine pt_pick [1,2] (by kernel_rfl) (es':=[(_,_),(_,_)]) rfl ?_
   refine pt_r_then ?_
   obtain rfl:=zi h
   exact pt_ret hio rfl (.tmp _ _ (.tmp _ _ .nil)) rfl rfl
  ·have h:=cond_f hb2 h
   refine ht_skip ?_
   refine pt_then (ht_seq ?_)
   refine yyy hn 2 [20,1,11] ?_
   refine ht_cond _ rfl (fun hb3 => ?_) (fun hb3 => ?_)
   ·have h:=cond_t hb3 h
    refine yyy hn 2 [20,2,3] ?_
    refine ht_ret ?_
    refine pt_pick [1,2] (by kernel_rfl) (es':=[(_,_),(_,_)]) rfl ?_
    refine pt_r_then ?_
    obtain rfl:=zi h
    exact pt_ret hio rfl (.tmp _ _ (.tmp _ _ .nil)) rfl rfl
   ·have h:=cond_f hb3 h
    refine ht_skip ?_
    refine pt_then (ht_seq ?_)
    obtain ⟨v4, hv4, h⟩:=zn h
    obtain ⟨v5, hv5, h⟩:=zn h
    obtain ⟨v6, hv6, h⟩:=zn h
    obtain ⟨v7, hv7, h⟩:=zn h
    refine yx hn 2 ?_
    refine ys 0 ⟨lB (cat_ok hv4)⟩ ?_
    refine ys 2 ⟨lB (cat_ok hv5)⟩ ?_
    refine ys 0 ⟨lB (cat_ok hv6)⟩ ?_
    refine ys 2 ⟨lB (cat_ok hv7)⟩ ?_
    refine yee [20,2,3] ?_
    refine ht_ret ?_
    refine pt_pick [1,2] (by kernel_rfl) (es':=[(_,_),(_,_)]) rfl ?_
    obtain rfl:=zi h
    exact pt_ret hio rfl (.tmp _ _ (.tmp _ _ .nil)) rfl rfl
theorem ok_bundle_commands_1_clo (mx:Int) (word:ByteArray) (p:T_Path) (cap:(List Int)) (r:(List Int)) (h:Sh.bundle_commands_1_clo word p cap=some r):FnPG Tryz.prog (GL mx) 49 [.v (.string word), .agg [.v (.bool p.Null), .v (.string p.Local), .v (.string p.Domain)], .box 25 [.fl (.own 5) 1 (map (int .u8) cap)]] [.v (.string word), .agg [.v (.bool p.Null), .v (.string p.Local), .v (.string p.Domain)], .box 25 [.fl (.own 5) 1 (map (int .u8) r)]] (.tup []):=by
  unfold Sh.bundle_commands_1_clo at h
  refine yPG 18 func49 fun args0 hargs0 g0 hn hio => ?_
  refine yyy hn 1 [0,1,2,18,4,0,1,2] ?_
  refine ht_seq ?_
  obtain ⟨v1, hv1, h⟩:=zn h
  refine yx hn 1 ?_
  refine ys 0 ⟨lg call50 (ok_path_Text _ _ _ hv1) 18⟩ ?_
  refine ym 4 ?_
  refine yee [0,1,2,18,5,0,1,2] ?_
  obtain ⟨v2, hv2, h⟩:=zn h
  obtain ⟨v3, hv3, h⟩:=zn h
  obtain ⟨v4, hv4, h⟩:=zn h
  refine yx hn 3 ?_
  refine ys 0 ⟨lB (cat_ok hv2)⟩ ?_
  refine ys 0 ⟨lB (cat_ok hv3)⟩ ?_
  refine yk [2] [12,16] ?_
  refine ytt (2,.box 25 [.any]) (17,.fl (.own 5) 1 (map (int .u8) v4)) 0 ⟨op_apps_cell _ _ _ _ _ _ el25 zr5 underlying9 rfl rfl (zl rfl) rfl rfl hv4 rfl (Nat.ne_of_beq_eq_false rfl) rfl rfl⟩ ?_
  refine yw [12] 0 ?_
  refine yk [17,2] [] ?_
  refine yt (2,.box 25 [.fl (.own 5) 1 (map (int .u8) v4)]) 0 ⟨op_store_take _ _ _ _ _ _ _ _ sz25 rfl rfl rfl (zl rfl) rfl rfl⟩ ?_
  refine ye [0,1,2,18,0,1,2] ?_
  refine pt_pick [0,1,2,4,5,6] (by kernel_rfl) (es':=[(_,_),(_,_),(_,_),(_,_),(_,_),(_,_)]) rfl ?_
  obtain rfl:=zi h
  exact pt_endP (es:=[]) (posts:=[.v (.string word), .agg [.v (.bool p.Null),.v (.string p.Local),.v (.string p.Domain)], .box 25 [.fl (.own 5) 1 (map (int .u8) v4)]]) hio rfl rfl .nil rfl rfl hargs0 rfl
end Go.Proofs.YtglabbpbianmnaaGreatDoor
