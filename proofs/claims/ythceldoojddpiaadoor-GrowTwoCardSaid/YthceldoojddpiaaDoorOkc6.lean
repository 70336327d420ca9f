/-
  The model's runs are what is told in Lean.
-/
import Derived.Test.YthceldoojddpiaaDoorProg
import Derived.KernelRfl
import Derived.Test.YthceldoojddpiaaDoorShelf
import Derived.Test.YthceldoojddpiaaDoorB2
import Derived.Test.YthceldoojddpiaaDoorB4
import Derived.Test.YthceldoojddpiaaDoorB5
import Derived.Test.YthceldoojddpiaaDoorB8
import Derived.Test.YthceldoojddpiaaDoorSrt
import Derived.Test.YthceldoojddpiaaDoorB9
import Derived.Test.YthceldoojddpiaaDoorShr
import Derived.Test.YthceldoojddpiaaDoorC1
import Derived.Test.YthceldoojddpiaaDoorBA
import Derived.Test.YthceldoojddpiaaDoorOkc5
set_option linter.unusedVariables false
set_option linter.unusedSimpArgs false
set_option maxHeartbeats 1000000
namespace Go.Proofs.YthceldoojddpiaaDoor
open Go.Abs Go.Abs.Sh Tryd
open List (map flatten)
open Value (int)
theorem ok_grow_stream_row (s:T_grow_stream) (code:(List Int)) (n:Int) (r:((List Int)×Int×T_grow_stream)) (h:Sh.grow_stream_row s code n=some r):FnP Tryd.prog 81 [.box 59 [.fl .shr 1 (map (int .u8) s.b), .v (.int .i64 s.at_), .fl (.own 5) 1 (map (int .u8) s.out), .v (.int .i64 s.most), .v (.int .i64 s.blocks)], .fl .shr 1 (map (int .i64) code), .v (.int .i64 n)] [.box 59 [.fl .shr 1 (map (int .u8) r.2.2.b), .v (.int .i64 r.2.2.at_), .fl (.own 5) 1 (map (int .u8) r.2.2.out), .v (.int .i64 r.2.2.most), .v (.int .i64 r.2.2.blocks)]] (.tup [.fl (.own 3) 1 (map (int .i64) r.1), .v (.int .i64 r.2.1)]):=by
  unfold Sh.grow_stream_row at h
  refine yP 73 func81 fun args0 hargs0 g0 hn hio => ?_
  refine yyy hn 2 [0,1,2,0] ?_
  refine yyy hn 1 [0,1,2,8,0] ?_
  refine ht_seq ?_
  refine ht_sub (fs:=[(0,.box 59 [fb s.b,vi s.at_,.fl (.own 5) 1 (map (int .u8) s.out),vi s.most,vi s.blocks]),(1,fi code),(2,vi n),(8,.fl (.own 3) 1 (map (int .i64) [])),(0,.v (List.getD args0 0 undef))]) (.same _ (.same _ (.same _ (.sub _ (sub_nil 3 1) rfl (.same _ .nil))))) ?_
  refine ht_loopS h (fun ((s123,s124,s125,s126,s127,s128):(List Int)×Int×(List Int)×Int×Int×(List Int))=>[(0,.box 59 [fb s123,vi s124,.fl (.own 5) 1 (map (int .u8) s125),vi s126,vi s127]),(1,fi code),(2,vi n),(8,.fl (.own 3) 1 (map (int .i64) s128)),(0,.v (List.getD args0 0 undef))]) (fun ((s182,s183,s184,s185,s186,s187):(List Int)×Int×(List Int)×Int×Int×(List Int))=>[(0,.box 59 [fb s182,vi s183,.fl (.own 5) 1 (map (int .u8) s184),vi s185,vi s186]),(8,.fl (.own 3) 1 (map (int .i64) s187)),(0,.v (List.getD args0 0 undef))]) ?_ ?_
  ·rintro ⟨s182, s183, s184, s185, s186, s187⟩ h
   refine pt_then ?_
   refine yxx hn 0 ?_
   refine ym 0 ?_
   refine ya 1 ?_
   refine yee [0,6,7,0] ?_
   refine ht_ret ?_
   refine pt_pick [1,2,0,3] (by kernel_rfl) (es':=[(_,_),(_,_),(_,_),(_,_)]) rfl ?_
   obtain rfl:=zi h
   exact pt_retP (es:=[(6, .fl (.own 3) 1 (map (int .i64) s187)), (7, .v (.int .i64 0))]) (posts:=[.box 59 [fb s182,.v (.int .i64 s183),.fl (.own 5) 1 (map (int .u8) s184),.v (.int .i64 s185),.v (.int .i64 s186)]]) hio rfl rfl (.tmp _ _ (.tmp _ _ .nil)) rfl rfl hargs0 rfl
  ·rintro u188 hl189 hr190 ⟨s123, s124, s125, s126, s127, s128⟩ rr193 h ho191
   refine ht_seq ?_
   refine yyy hn 4 [0,1,2,8,18,0] ?_
   refine ht_cond _ rfl (fun hb194 => ?_) (fun hb194 => ?_)
   ·have h:=cond_t hb194 h
    refine ht_skip ?_
    refine pt_then ?_
    refine ht_block ?_
    refine ht_seq ?_
    obtain ⟨v2, hv2, h⟩:=zn h
    refine yx hn 2 ?_
    refine yq call78 (ok_grow_stream_symbol _ _ _ hv2) 0 [20,21] 0 ?_
    refine ym 4 ?_
    refine yee [0,1,2,8,9,10,0] ?_
    refine ht_seq ?_
    refine yyy hn 2 [0,1,2,8,9,10,26,0] ?_
    refine ht_cond _ rfl (fun hb195 => ?_) (fun hb195 => ?_)
    ·have h:=cond_t hb195 h
     refine yyy hn 3 [0,6,7,0] ?_
     refine ht_ret ?_
     refine pt_pick [1,2,0,3] (by kernel_rfl) (es':=[(_,_),(_,_),(_,_),(_,_)]) rfl ?_
     refine pt_sub (fs:=[(6,.fl (.own 3) 1 (map (int .i64) [])),(7,vi v2.2.1),(0,.box 59 [fb v2.2.2.b,vi v2.2.2.at_,.fl (.own 5) 1 (map (int .u8) v2.2.2.out),vi v2.2.2.most,vi v2.2.2.blocks]),(0,.v (List.getD args0 0 undef))]) (.sub _ (sub_nil 3 1) rfl (.same _ (.same _ (.same _ .nil)))) ?_
     refine pt_r_then ?_
     refine pt_r_in ?_
     refine pt_r_then ?_
     refine pt_r_in ?_
     refine pt_r_then ?_
     have h:=hr190 _ (ho191 _ (zi h).symm).symm
     obtain rfl:=zi h
     exact pt_retP (es:=[(6, .fl (.own 3) 1 (map (int .i64) [])), (7, .v (.int .i64 v2.2.1))]) (posts:=[.box 59 [fb v2.2.2.b,.v (.int .i64 v2.2.2.at_),.fl (.own 5) 1 (map (int .u8) v2.2.2.out),.v (.int .i64 v2.2.2.most),.v (.int .i64 v2.2.2.blocks)]]) hio rfl rfl (.tmp _ _ (.tmp _ _ .nil)) rfl rfl hargs0 rfl
    ·have h:=cond_f hb195 h
     refine ht_skip ?_
     refine pt_then ?_
     refine yyy hn 4 [0,1,2,8,9,11,12,13,0] ?_
     refine ht_seq ?_
     refine ht_joinS h (fun ((s210,s211,s212):Int×Int×Int)=>[(0,.box 59 [fb v2.2.2.b,vi v2.2.2.at_,.fl (.own 5) 1 (map (int .u8) v2.2.2.out),vi v2.2.2.most,vi v2.2.2.blocks]),(1,fi code),(2,vi n),(8,.fl (.own 3) 1 (map (int .i64) s128)),(11,vi s210),(12,vi s211),(13,vi s212),(0,.v (List.getD args0 0 undef))]) ?_ ?_
     ·rintro ⟨s210, s211, s212⟩ h
      refine pt_then (ht_seq ?_)
      obtain ⟨v39, hv39, h⟩:=zn h
      refine yx hn 2 ?_
      refine yq call58 (ok_grow_stream_number _ _ _ hv39) 0 [46,47] 0 ?_
      refine ym 4 ?_
      refine yee [0,1,2,8,11,12,14,10,0] ?_
      refine ht_seq ?_
      refine yyy hn 2 [0,1,2,8,11,12,14,10,52,0] ?_
      refine ht_cond _ rfl (fun hb230 => ?_) (fun hb230 => ?_)
      ·have h:=cond_t hb230 h
       refine yyy hn 3 [0,6,7,0] ?_
       refine ht_ret ?_
       refine pt_pick [1,2,0,3] (by kernel_rfl) (es':=[(_,_),(_,_),(_,_),(_,_)]) rfl ?_
       refine pt_sub (fs:=[(6,.fl (.own 3) 1 (map (int .i64) [])),(7,vi v39.2.1),(0,.box 59 [fb v39.2.2.b,vi v39.2.2.at_,.fl (.own 5) 1 (map (int .u8) v39.2.2.out),vi v39.2.2.most,vi v39.2.2.blocks]),(0,.v (List.getD args0 0 undef))]) (.sub _ (sub_nil 3 1) rfl (.same _ (.same _ (.same _ .nil)))) ?_
       refine pt_r_then ?_
       refine pt_r_in ?_
       refine pt_r_then ?_
       refine pt_r_in ?_
       refine pt_r_then ?_
       have h:=hr190 _ (ho191 _ (zi h).symm).symm
       obtain rfl:=zi h
       exact pt_retP (es:=[(6, .fl (.own 3) 1 (map (int .i64) [])), (7, .v (.int .i64 v39.2.1))]) (posts:=[.box 59 [fb v39.2.2.b,.v (.int .i64 v39.2.2.at_),.fl (.own 5) 1 (map (int .u8) v39.2.2.out),.v (.int .i64 v39.2.2.most),.v (.int .i64 v39.2.2.blocks)]]) hio rfl rfl (.tmp _ _ (.tmp _ _ .nil)) rfl rfl hargs0 rfl
      ·have h:=cond_f hb230 h
       refine ht_skip ?_
       refine pt_then (ht_seq ?_)
       refine ht_seq ?_
       obtain ⟨v41, hv41, h⟩:=zn h
       obtain ⟨v42, hv42, h⟩:=zn h
       refine yx hn 2 ?_
       refine ys 3 ⟨lb hv41⟩ ?_
       refine ys 1 ⟨lb hv42⟩ ?_
       refine yee [0,1,2,8,11,12,14,61,0] ?_
       refine ht_cond _ rfl (fun hb231 => ?_) (fun hb231 => ?_)
       ·have h:=cond_t hb231 h
        refine yyy hn 2 [0,6,7,0] ?_
        refine ht_ret ?_
        refine pt_pick [1,2,0,3] (by kernel_rfl) (es':=[(_,_),(_,_),(_,_),(_,_)]) rfl ?_
        refine pt_sub (fs:=[(6,.fl (.own 3) 1 (map (int .i64) [])),(7,vi 3),(0,.box 59 [fb v39.2.2.b,vi v39.2.2.at_,.fl (.own 5) 1 (map (int .u8) v39.2.2.out),vi v39.2.2.most,vi v39.2.2.blocks]),(0,.v (List.getD args0 0 undef))]) (.sub _ (sub_nil 3 1) rfl (.same _ (.same _ (.same _ .nil)))) ?_
        refine pt_r_then ?_
        refine pt_r_in ?_
        refine pt_r_then ?_
        refine pt_r_in ?_
        refine pt_r_then ?_
        have h:=hr190 _ (ho191 _ (zi h).symm).symm
        obtain rfl:=zi h
        exact pt_retP (es:=[(6, .fl (.own 3) 1 (map (int .i64) [])), (7, .v (.int .i64 3))]) (posts:=[.box 59 [fb v39.2.2.b,.v (.int .i64 v39.2.2.at_),.fl (.own 5) 1 (map (int .u8) v39.2.2.out),.v (.int .i64 v39.2.2.most),.v (.int .i64 v39.2.2.blocks)]]) hio rfl rfl (.tmp _ _ (.tmp _ _ .nil)) rfl rfl hargs0 rfl
       ·have h:=cond_f hb231 h
        refine ht_skip ?_
        refine pt_then (ht_seq ?_)
        obtain ⟨v44, hv44, h⟩:=zn h
        refine yx hn 2 ?_
        refine ys 1 ⟨lb hv44⟩ ?_
        refine yee [0,1,2,8,11,64,65,0] ?_
        refine ht_loopS h (fun ((s236,s237):(List Int)×Int)=>[(0,.box 59 [fb v39.2.2.b,vi v39.2.2.at_,.fl (.own 5) 1 (map (int .u8) v39.2.2.out),vi v39.2.2.most,vi v39.2.2.blocks]),(1,fi code),(2,vi n),(8,.fl (.own 3) 1 (map (int .i64) s236)),(11,vi s210),(64,vi v44),(65,vi s237),(0,.v (List.getD args0 0 undef))]) (fun (s239:(List Int))=>[(0,.box 59 [fb v39.2.2.b,vi v39.2.2.at_,.fl (.own 5) 1 (map (int .u8) v39.2.2.out),vi v39.2.2.most,vi v39.2.2.blocks]),(1,fi code),(2,vi n),(8,.fl (.own 3) 1 (map (int .i64) s239)),(0,.v (List.getD args0 0 undef))]) ?_ ?_
        ·rintro s239 h
         refine pt_inb ?_
         exact pt_next _ (zi h).symm rfl
        ·rintro u240 hl241 hr242 ⟨s236, s237⟩ rr245 h ho243
         refine yyy hn 1 [0,1,2,8,11,64,65,66,0] ?_
         refine ht_seq ?_
         refine ht_cond _ rfl (fun hb246 => ?_) (fun hb246 => ?_)
         ·have h:=cond_t hb246 h
          refine ht_skip ?_
          refine pt_then (ht_seq ?_)
          refine ht_block ?_
          obtain ⟨v46, hv46, h⟩:=zn h
          refine yx hn 0 ?_
          refine ym 1 ?_
          refine yS (.fl (.own 3) 1 (map (int .i64) [s210])) 0 ⟨op_buildSlice _ _ 1 (.int .i64 0) (map (int .i64) [s210]) [(0,.int .i64 s210)] underlying73 sz3 zr3 (fun _ V w o a hv hes=>by have e0:=rd_v hv hes (x := .tmp 68) rfl; simp only [List.map_toArray,List.map_cons,List.map_nil,e0]; try rfl) (litfill (by simp [Instr.fill,Value.cells]; rfl) (by simp [List.range,List.range.loop] <;> rfl)) (by simp [Value.oneCell']) rfl (by decide) (by decide) (by decide)⟩ ?_
          refine yp el73 hv46 0 ?_
          refine ya 0 ?_
          refine ye [0,1,2,11,64,65,8,0] ?_
          refine pt_inb ?_
          refine pt_then ?_
          obtain ⟨v47, hv47, h⟩:=zn h
          refine yx hn 0 ?_
          refine ys 0 ⟨lb hv47⟩ ?_
          refine yw [65] 1 ?_
          refine ye [0,1,2,11,64,8,65,0] ?_
          refine pt_pick [0,1,2,5,3,4,6,7] (by kernel_rfl) (es':=[(_,_),(_,_),(_,_),(_,_),(_,_),(_,_),(_,_),(_,_)]) rfl ?_
          exact pt_next _ (zi h).symm rfl
         ·have h:=cond_f hb246 h
          refine ht_exit ?_
          refine pt_x_then ?_
          refine pt_x_then ?_
          refine pt_x_in ?_
          refine pt_pick [0,1,2,3,8] (by kernel_rfl) (es':=[(_,_),(_,_),(_,_),(_,_),(_,_)]) rfl ?_
          exact hl241 _ (ho243 _ (zi h).symm).symm
     ·intro u213 h hl214 hr215
      refine yyy hn 1 [0,1,2,8,11,12,13,29,0] ?_
      refine ht_joinS h (fun ((s220,s221,s222):Int×Int×Int)=>[(0,.box 59 [fb v2.2.2.b,vi v2.2.2.at_,.fl (.own 5) 1 (map (int .u8) v2.2.2.out),vi v2.2.2.most,vi v2.2.2.blocks]),(1,fi code),(2,vi n),(8,.fl (.own 3) 1 (map (int .i64) s128)),(11,vi s220),(12,vi s221),(13,vi s222),(0,.v (List.getD args0 0 undef))]) ?_ ?_
      ·rintro ⟨s220, s221, s222⟩ h
       exact hl214 _ (zi h).symm
      ·intro u223 h hl224 hr225
       refine ht_block ?_
       refine yyy hn 2 [0,1,2,8,11,12,13,29,30,0] ?_
       refine ht_cond _ rfl (fun hb226 => ?_) (fun hb226 => ?_)
       ·have h:=cond_t hb226 h
        refine ht_seq ?_
        refine yyy hn 3 [0,1,2,8,34,0] ?_
        refine ht_cond _ rfl (fun hb227 => ?_) (fun hb227 => ?_)
        ·have h:=cond_t hb227 h
         refine yyy hn 2 [0,6,7,0] ?_
         refine ht_ret ?_
         refine pt_pick [1,2,0,3] (by kernel_rfl) (es':=[(_,_),(_,_),(_,_),(_,_)]) rfl ?_
         refine pt_sub (fs:=[(6,.fl (.own 3) 1 (map (int .i64) [])),(7,vi 3),(0,.box 59 [fb v2.2.2.b,vi v2.2.2.at_,.fl (.own 5) 1 (map (int .u8) v2.2.2.out),vi v2.2.2.most,vi v2.2.2.blocks]),(0,.v (List.getD args0 0 undef))]) (.sub _ (sub_nil 3 1) rfl (.same _ (.same _ (.same _ .nil)))) ?_
         refine pt_r_then ?_
         refine pt_r_in ?_
         refine pt_r_then ?_
         refine pt_r_in ?_
         refine pt_r_then ?_
         refine pt_r_in ?_
         refine pt_r_then ?_
         have h:=hr225 _ (zi h).symm
         have h:=hr215 _ (zi h).symm
         have h:=hr190 _ (ho191 _ (zi h).symm).symm
         obtain rfl:=zi h
         exact pt_retP (es:=[(6, .fl (.own 3) 1 (map (int .i64) [])), (7, .v (.int .i64 3))]) (posts:=[.box 59 [fb v2.2.2.b,.v (.int .i64 v2.2.2.at_),.fl (.own 5) 1 (map (int .u8) v2.2.2.out),.v (.int .i64 v2.2.2.most),.v (.int .i64 v2.2.2.blocks)]]) hio rfl rfl (.tmp _ _ (.tmp _ _ .nil)) rfl rfl hargs0 rfl
        ·have h:=cond_f hb227 h
         refine ht_skip ?_
         refine pt_then ?_
         obtain ⟨v6, hv6, h⟩:=zn h
         obtain ⟨v72, hv72, h⟩:=zn h
         obtain ⟨v73, hv73, h⟩:=zn h
         refine yx hn 3 ?_
         refine ys 0 ⟨lb hv6⟩ ?_
         refine ys 0 ⟨li hv72⟩ ?_
         refine ys 3 ⟨ll hv73⟩ ?_
         refine ye [0,1,2,8,11,12,13,0] ?_
         refine pt_inb ?_
         exact hl224 _ (zi h).symm
       ·have h:=cond_f hb226 h
        refine yyy hn 2 [0,1,2,8,11,12,13,29,41,0] ?_
        refine ht_cond _ rfl (fun hb228 => ?_) (fun hb228 => ?_)
        ·have h:=cond_t hb228 h
         refine yx hn 0 ?_
         refine yw [11] 1 ?_
         refine yw [12] 1 ?_
         refine yw [13] 1 ?_
         refine ye [0,1,2,8,11,12,13,0] ?_
         refine pt_inb ?_
         exact hl224 _ (zi h).symm
        ·have h:=cond_f hb228 h
         refine yyy hn 2 [0,1,2,8,11,12,13,43,0] ?_
         refine ht_cond _ rfl (fun hb229 => ?_) (fun hb229 => ?_)
         ·have h:=cond_t hb229 h
          refine yx hn 0 ?_
          refine yw [11] 1 ?_
          refine yw [12] 1 ?_
          refine yw [13] 1 ?_
          refine ye [0,1,2,8,11,12,13,0] ?_
          refine pt_inb ?_
          exact hl224 _ (zi h).symm
         ·have h:=cond_f hb229 h
          refine ht_skip ?_
          refine pt_inb ?_
          refine pt_pick [0,1,2,3,4,5,6,8] (by kernel_rfl) (es':=[(_,_),(_,_),(_,_),(_,_),(_,_),(_,_),(_,_),(_,_)]) rfl ?_
          exact hl224 _ (zi h).symm
   ·have h:=cond_f hb194 h
    refine ht_exit ?_
    refine pt_x_then ?_
    refine pt_x_then ?_
    refine pt_x_in ?_
    refine pt_pick [0,3,5] (by kernel_rfl) (es':=[(_,_),(_,_),(_,_)]) rfl ?_
    exact hl189 _ (ho191 _ (zi h).symm).symm
theorem ok_grow_stream_dynamic (mx:Int) (s:T_grow_stream) (r:(Int×T_grow_stream)) (h:Sh.grow_stream_dynamic s=some r):FnPG Tryd.prog (GL mx) 61 [.box 59 [.fl .shr 1 (map (int .u8) s.b), .v (.int .i64 s.at_), .fl (.own 5) 1 (map (int .u8) s.out), .v (.int .i64 s.most), .v (.int .i64 s.blocks)]] [.box 59 [.fl .shr 1 (map (int .u8) r.2.b), .v (.int .i64 r.2.at_), .fl (.own 5) 1 (map (int .u8) r.2.out), .v (.int .i64 r.2.most), .v (.int .i64 r.2.blocks)]] (.v (.int .i64 r.1)):=by
  unfold Sh.grow_stream_dynamic at h
  refine yPG 80 func61 fun args0 hargs0 g0 hn hio => ?_
  refine yyy hn 1 [0,80,0] ?_
  refine ht_seq ?_
  obtain ⟨v1, hv1, h⟩:=zn h
  refine yx hn 1 ?_
  refine yq call58 (ok_grow_stream_number _ _ _ hv1) 0 [9] 0 ?_
  refine ym 4 ?_
  refine yee [0,80,3,4,0] ?_
  refine ht_seq ?_
  refine yyy hn 2 [0,80,3,4,14,0] ?_
  refine ht_cond _ rfl (fun hb2 => ?_) (fun hb2 => ?_)
  ·have h:=cond_t hb2 h
   refine yyy hn 2 [0,80,2,0] ?_
   refine ht_ret ?_
   refine pt_pick [2,0,3] (by kernel_rfl) (es':=[(_,_),(_,_),(_,_)]) rfl ?_
   refine pt_r_then ?_
   obtain rfl:=zi h
   exact pt_retP (es:=[(2, .v (.int .i64 v1.2.1))]) (posts:=[.box 59 [fb v1.2.2.b,.v (.int .i64 v1.2.2.at_),.fl (.own 5) 1 (map (int .u8) v1.2.2.out),.v (.int .i64 v1.2.2.most),.v (.int .i64 v1.2.2.blocks)]]) hio rfl rfl (.tmp _ _ .nil) rfl rfl hargs0 rfl
  ·have h:=cond_f hb2 h
   refine ht_skip ?_
   refine pt_then (ht_seq ?_)
   obtain ⟨v3, hv3, h⟩:=zn h
   refine yx hn 1 ?_
   refine yq call58 (ok_grow_stream_number _ _ _ hv3) 0 [17] 0 ?_
   refine ym 3 ?_
   refine yw [4] 1 ?_
   refine yee [0,80,3,5,4,0] ?_
   refine ht_seq ?_
   refine yyy hn 2 [0,80,3,5,4,22,0] ?_
   refine ht_cond _ rfl (fun hb4 => ?_) (fun hb4 => ?_)
   ·have h:=cond_t hb4 h
    refine yyy hn 2 [0,80,2,0] ?_
    refine ht_ret ?_
    refine pt_pick [2,0,3] (by kernel_rfl) (es':=[(_,_),(_,_),(_,_)]) rfl ?_
    refine pt_r_then ?_
    obtain rfl:=zi h
    exact pt_retP (es:=[(2, .v (.int .i64 v3.2.1))]) (posts:=[.box 59 [fb v3.2.2.b,.v (.int .i64 v3.2.2.at_),.fl (.own 5) 1 (map (int .u8) v3.2.2.out),.v (.int .i64 v3.2.2.most),.v (.int .i64 v3.2.2.blocks)]]) hio rfl rfl (.tmp _ _ .nil) rfl rfl hargs0 rfl
   ·have h:=cond_f hb4 h
    refine ht_skip ?_
    refine pt_then (ht_seq ?_)
    obtain ⟨v5, hv5, h⟩:=zn h
    obtain ⟨v6, hv6, h⟩:=zn h
    refine yx hn 1 ?_
    refine ys 1 ⟨lb hv5⟩ ?_
    refine ys 0 ⟨lb hv6⟩ ?_
    refine yw [3] 1 ?_
    refine yw [5] 1 ?_
    refine yee [0,80,3,5,0] ?_
    refine ht_seq ?_
    refine ht_seq ?_
    refine ht_joinS h (fun (s7:Bool)=>[(0,.box 59 [fb v3.2.2.b,vi v3.2.2.at_,.fl (.own 5) 1 (map (int .u8) v3.2.2.out),vi v3.2.2.most,vi v3.2.2.blocks]),(80,.glob (GL mx)),(3,vi v5),(5,vi v6),(33,vb s7),(0,.v (List.getD args0 0 undef))]) ?_ ?_
    ·rintro s7 h
     refine pt_then ?_
     refine ht_cond _ rfl (fun hb11 => ?_) (fun hb11 => ?_)
     ·have h:=cond_t hb11 h
      refine yyy hn 1 [0,80,2,0] ?_
      refine ht_ret ?_
      refine pt_pick [2,0,3] (by kernel_rfl) (es':=[(_,_),(_,_),(_,_)]) rfl ?_
      refine pt_r_then ?_
      obtain rfl:=zi h
      exact pt_retP (es:=[(2, .v (.int .i64 3))]) (posts:=[.box 59 [fb v3.2.2.b,.v (.int .i64 v3.2.2.at_),.fl (.own 5) 1 (map (int .u8) v3.2.2.out),.v (.int .i64 v3.2.2.most),.v (.int .i64 v3.2.2.blocks)]]) hio rfl rfl (.tmp _ _ .nil) rfl rfl hargs0 rfl
     ·have h:=cond_f hb11 h
      refine ht_skip ?_
      refine pt_then (ht_seq ?_)
      obtain ⟨v12, hv12, h⟩:=zn h
      refine yx hn 1 ?_
      refine yk [0] [35,80] ?_
      refine ytt (0,.box 59 [fb v12.2.2.b,vi v12.2.2.at_,.fl (.own 5) 1 (map (int .u8) v12.2.2.out),vi v12.2.2.most,vi v12.2.2.blocks]) (36,.tup [.fl (.own 3) 1 (map (int .i64) v12.1),vi v12.2.1]) 0 ⟨op_callPSG _ _ _ _ 36 80 80 [.tmp 35] [] _ _ _ rfl call80 rfl rfl rfl rfl (fun _ h=>h) (ok_grow_stream_rowLengths mx v3.2.2 _ hv12) (zl rfl) rfl rfl rfl rfl rfl rfl rfl⟩ ?_
      refine ym 0 ?_
      refine yx_ 1 ?_
      refine ya 1 ?_
      refine yee [0,80,3,5,6,4,0] ?_
      refine ht_seq ?_
      refine yyy hn 2 [0,80,3,5,6,4,40,0] ?_
      refine ht_cond _ rfl (fun hb13 => ?_) (fun hb13 => ?_)
      ·have h:=cond_t hb13 h
       refine yyy hn 2 [0,80,2,0] ?_
       refine ht_ret ?_
       refine pt_pick [2,0,3] (by kernel_rfl) (es':=[(_,_),(_,_),(_,_)]) rfl ?_
       refine pt_r_then ?_
       obtain rfl:=zi h
       exact pt_retP (es:=[(2, .v (.int .i64 v12.2.1))]) (posts:=[.box 59 [fb v12.2.2.b,.v (.int .i64 v12.2.2.at_),.fl (.own 5) 1 (map (int .u8) v12.2.2.out),.v (.int .i64 v12.2.2.most),.v (.int .i64 v12.2.2.blocks)]]) hio rfl rfl (.tmp _ _ .nil) rfl rfl hargs0 rfl
      ·have h:=cond_f hb13 h
       refine ht_skip ?_
       refine pt_then (ht_seq ?_)
       refine ht_frzE 4 hio (es':=[(0, .box 59 [fb v12.2.2.b,.v (.int .i64 v12.2.2.at_),.fl (.own 5) 1 (map (int .u8) v12.2.2.out),.v (.int .i64 v12.2.2.most),.v (.int .i64 v12.2.2.blocks)]), (80, .glob (GL mx)), (3, .v (.int .i64 v5)), (5, .v (.int .i64 v6)), (6, .fl .ro 1 (map (int .i64) v12.1)), (4, .v (.int .i64 v12.2.1)), (40, .v (.bool (v12.2.1 != 0))), (0, .v (List.getD args0 0 undef))]) rfl ?_
       obtain ⟨v14, hv14, h⟩:=zn h
       obtain ⟨v15, hv15, h⟩:=zn h
       refine yx hn 4 ?_
       refine ys 0 ⟨lb hv14⟩ ?_
       refine yq call81 (ok_grow_stream_row _ _ _ _ hv15) 0 [43,44,47] 0 ?_
       refine ym 0 ?_
       refine yx_ 1 ?_
       refine ya 0 ?_
       refine yw [4] 1 ?_
       refine yee [0,80,3,7,4,0] ?_
       refine ht_seq ?_
       refine yyy hn 2 [0,80,3,7,4,52,0] ?_
       refine ht_cond _ rfl (fun hb16 => ?_) (fun hb16 => ?_)
       ·have h:=cond_t hb16 h
        refine yyy hn 2 [0,80,2,0] ?_
        refine ht_ret ?_
        refine pt_pick [2,0,3] (by kernel_rfl) (es':=[(_,_),(_,_),(_,_)]) rfl ?_
        refine pt_r_then ?_
        obtain rfl:=zi h
        exact pt_retP (es:=[(2, .v (.int .i64 v15.2.1))]) (posts:=[.box 59 [fb v15.2.2.b,.v (.int .i64 v15.2.2.at_),.fl (.own 5) 1 (map (int .u8) v15.2.2.out),.v (.int .i64 v15.2.2.most),.v (.int .i64 v15.2.2.blocks)]]) hio rfl rfl (.tmp _ _ .nil) rfl rfl hargs0 rfl
       ·have h:=cond_f hb16 h
        refine ht_skip ?_
        refine pt_then (ht_seq ?_)
        refine ht_seq ?_
        refine ht_frzE 3 hio (es':=[(0, .box 59 [fb v15.2.2.b,.v (.int .i64 v15.2.2.at_),.fl (.own 5) 1 (map (int .u8) v15.2.2.out),.v (.int .i64 v15.2.2.most),.v (.int .i64 v15.2.2.blocks)]), (80, .glob (GL mx)), (3, .v (.int .i64 v5)), (7, .fl .ro 1 (map (int .i64) v15.1)), (4, .v (.int .i64 v15.2.1)), (52, .v (.bool (v15.2.1 != 0))), (0, .v (List.getD args0 0 undef))]) rfl ?_
        refine ht_joinS h (fun (s23:Bool)=>[(0,.box 59 [fb v15.2.2.b,vi v15.2.2.at_,.fl (.own 5) 1 (map (int .u8) v15.2.2.out),vi v15.2.2.most,vi v15.2.2.blocks]),(80,.glob (GL mx)),(3,vi v5),(7,.fl .ro 1 (map (int .i64) v15.1)),(71,vb s23),(0,.v (List.getD args0 0 undef))]) ?_ ?_
        ·rintro s23 h
         refine pt_then ?_
         refine ht_cond _ rfl (fun hb27 => ?_) (fun hb27 => ?_)
         ·have h:=cond_t hb27 h
          refine yyy hn 1 [0,80,2,0] ?_
          refine ht_ret ?_
          refine pt_pick [2,0,3] (by kernel_rfl) (es':=[(_,_),(_,_),(_,_)]) rfl ?_
          refine pt_r_then ?_
          obtain rfl:=zi h
          exact pt_retP (es:=[(2, .v (.int .i64 3))]) (posts:=[.box 59 [fb v15.2.2.b,.v (.int .i64 v15.2.2.at_),.fl (.own 5) 1 (map (int .u8) v15.2.2.out),.v (.int .i64 v15.2.2.most),.v (.int .i64 v15.2.2.blocks)]]) hio rfl rfl (.tmp _ _ .nil) rfl rfl hargs0 rfl
         ·have h:=cond_f hb27 h
          refine ht_skip ?_
          refine pt_then (ht_seq ?_)
          obtain ⟨v28, hv28, h⟩:=zn h
          obtain ⟨v29, hv29, h⟩:=zn h
          obtain ⟨v30, hv30, h⟩:=zn h
          refine wb [[0],[7],[3]] ?_
          refine wN [73,74] ?_
          refine wS (.fl .ro 1 (map (int .i64) v28)) [[7],[3]] ⟨op_sl _ _ _ 0 v5 _ underlying73 sz3 rfl rfl rfl ⟨_,rfl⟩ hv28⟩ ?_
          refine wN [76,77] ?_
          refine wS (.fl .ro 1 (map (int .i64) v29)) [] ⟨op_sl _ _ _ v5 (v15.1.length:Int) _ underlying73 sz3 rfl rfl ⟨_,rfl⟩ rfl hv29⟩ ?_
          refine wK [0] [72,75,78] ?_
          refine wt [(0,.box 59 [fb v30.2.b,vi v30.2.at_,.fl (.own 5) 1 (map (int .u8) v30.2.out),vi v30.2.most,vi v30.2.blocks]),(79,vi v30.1)] [[79]] ⟨op_callPS _ _ _ _ 79 60 [.tmp 72] [.tmp 75,.tmp 78] _ _ _ rfl call60 rfl rfl rfl (ok_grow_stream_tokens v15.2.2 v28 v29 _ hv30) (zl rfl) rfl rfl rfl rfl rfl rfl rfl⟩ ?_
          refine wee hn [0,80,2,0] ?_
          refine ht_ret ?_
          refine pt_pick [2,0,3] (by kernel_rfl) (es':=[(_,_),(_,_),(_,_)]) rfl ?_
          obtain rfl:=zi h
          exact pt_retP (es:=[(2, .v (.int .i64 v30.1))]) (posts:=[.box 59 [fb v30.2.b,.v (.int .i64 v30.2.at_),.fl (.own 5) 1 (map (int .u8) v30.2.out),.v (.int .i64 v30.2.most),.v (.int .i64 v30.2.blocks)]]) hio rfl rfl (.tmp _ _ .nil) rfl rfl hargs0 rfl
        ·intro u24 h hl25 hr26
         obtain ⟨v17, hv17, h⟩:=zn h
         obtain ⟨v18, hv18, h⟩:=zn h
         refine cond_some h (fun hg16_5 h => ?_) (fun hg16_5 h => ?_)
         ·refine yx hn 2 ?_
          refine yS (.fl .ro 1 (map (int .i64) v17)) 0 ⟨op_sl _ _ _ 0 v5 _ underlying73 sz3 rfl rfl rfl ⟨_,rfl⟩ hv17⟩ ?_
          refine ys 2 ⟨lk call66 (ok_canon_Check _ _ hv18)⟩ ?_
          refine yd hg16_5 12 ?_
          refine ye [0,80,3,7,71,0] ?_
          exact hl25 _ (zi h).symm
         ·obtain ⟨v19, hv19, h⟩:=zn h
          obtain ⟨v20, hv20, h⟩:=zn h
          refine cond_some h (fun hg16_12 h => ?_) (fun hg16_12 h => ?_)
          ·refine yx hn 2 ?_
           refine yS (.fl .ro 1 (map (int .i64) v17)) 0 ⟨op_sl _ _ _ 0 v5 _ underlying73 sz3 rfl rfl rfl ⟨_,rfl⟩ hv17⟩ ?_
           refine ys 2 ⟨lk call66 (ok_canon_Check _ _ hv18)⟩ ?_
           refine yd hg16_5 2 ?_
           refine yS (.fl .ro 1 (map (int .i64) v19)) 0 ⟨op_sl _ _ _ v5 (v15.1.length:Int) _ underlying73 sz3 rfl rfl ⟨_,rfl⟩ rfl hv19⟩ ?_
           refine ys 3 ⟨lk call66 (ok_canon_Check _ _ hv20)⟩ ?_
           refine yd hg16_12 5 ?_
           refine ye [0,80,3,7,71,0] ?_
           exact hl25 _ (zi h).symm
          ·obtain ⟨v21, hv21, h⟩:=zn h
           obtain ⟨v22, hv22, h⟩:=zn h
           refine yx hn 2 ?_
           refine yS (.fl .ro 1 (map (int .i64) v17)) 0 ⟨op_sl _ _ _ 0 v5 _ underlying73 sz3 rfl rfl rfl ⟨_,rfl⟩ hv17⟩ ?_
           refine ys 2 ⟨lk call66 (ok_canon_Check _ _ hv18)⟩ ?_
           refine yd hg16_5 2 ?_
           refine yS (.fl .ro 1 (map (int .i64) v19)) 0 ⟨op_sl _ _ _ v5 (v15.1.length:Int) _ underlying73 sz3 rfl rfl ⟨_,rfl⟩ rfl hv19⟩ ?_
           refine ys 3 ⟨lk call66 (ok_canon_Check _ _ hv20)⟩ ?_
           refine yd hg16_12 1 ?_
           refine ys 0 ⟨li hv21⟩ ?_
           refine ys 2 ⟨ll hv22⟩ ?_
           refine ye [0,80,3,7,71,0] ?_
           exact hl25 _ (zi h).symm
    ·intro u8 h hl9 hr10
     refine cond_some h (fun hg8_2 h => ?_) (fun hg8_2 h => ?_)
     ·refine yx hn 3 ?_
      refine yd hg8_2 3 ?_
      refine ye [0,80,3,5,33,0] ?_
      exact hl9 _ (zi h).symm
     ·refine yx hn 3 ?_
      refine yd hg8_2 3 ?_
      refine ye [0,80,3,5,33,0] ?_
      exact hl9 _ (zi h).symm
theorem ok_grow_stream_block (mx:Int) (s:T_grow_stream) (r:(Bool×Int×T_grow_stream)) (h:Sh.grow_stream_block s=some r):FnPG Tryd.prog (GL mx) 40 [.box 59 [.fl .shr 1 (map (int .u8) s.b), .v (.int .i64 s.at_), .fl (.own 5) 1 (map (int .u8) s.out), .v (.int .i64 s.most), .v (.int .i64 s.blocks)]] [.box 59 [.fl .shr 1 (map (int .u8) r.2.2.b), .v (.int .i64 r.2.2.at_), .fl (.own 5) 1 (map (int .u8) r.2.2.out), .v (.int .i64 r.2.2.most), .v (.int .i64 r.2.2.blocks)]] (.tup [.v (.bool r.1), .v (.int .i64 r.2.1)]):=by
  unfold Sh.grow_stream_block at h
  refine yPG 41 func40 fun args0 hargs0 g0 hn hio => ?_
  refine yyy hn 2 [0,41,0] ?_
  refine ht_seq ?_
  obtain ⟨v1, hv1, h⟩:=zn h
  refine yx hn 1 ?_
  refine yq call58 (ok_grow_stream_number _ _ _ hv1) 0 [7] 0 ?_
  refine ym 4 ?_
  refine yee [0,41,4,3,0] ?_
  refine ht_seq ?_
  refine yyy hn 2 [0,41,4,3,12,0] ?_
  refine ht_cond _ rfl (fun hb14 => ?_) (fun hb14 => ?_)
  ·have h:=cond_t hb14 h
   refine yxx hn 2 ?_
   refine yw [3] 1 ?_
   refine yee [0,41,2,3,0] ?_
   refine ht_ret ?_
   refine pt_pick [2,3,0,4] (by kernel_rfl) (es':=[(_,_),(_,_),(_,_),(_,_)]) rfl ?_
   refine pt_r_then ?_
   obtain rfl:=zi h
   exact pt_retP (es:=[(2, .v (.bool false)), (3, .v (.int .i64 v1.2.1))]) (posts:=[.box 59 [fb v1.2.2.b,.v (.int .i64 v1.2.2.at_),.fl (.own 5) 1 (map (int .u8) v1.2.2.out),.v (.int .i64 v1.2.2.most),.v (.int .i64 v1.2.2.blocks)]]) hio rfl rfl (.tmp _ _ (.tmp _ _ .nil)) rfl rfl hargs0 rfl
  ·have h:=cond_f hb14 h
   refine ht_skip ?_
   refine pt_then (ht_seq ?_)
   obtain ⟨v3, hv3, h⟩:=zn h
   refine yx hn 1 ?_
   refine yq call58 (ok_grow_stream_number _ _ _ hv3) 0 [15] 0 ?_
   refine ym 3 ?_
   refine yw [3] 1 ?_
   refine yee [0,41,4,5,3,0] ?_
   refine ht_seq ?_
   refine yyy hn 2 [0,41,4,5,3,20,0] ?_
   refine ht_cond _ rfl (fun hb15 => ?_) (fun hb15 => ?_)
   ·have h:=cond_t hb15 h
    refine yxx hn 2 ?_
    refine yw [3] 1 ?_
    refine yee [0,41,2,3,0] ?_
    refine ht_ret ?_
    refine pt_pick [2,3,0,4] (by kernel_rfl) (es':=[(_,_),(_,_),(_,_),(_,_)]) rfl ?_
    refine pt_r_then ?_
    obtain rfl:=zi h
    exact pt_retP (es:=[(2, .v (.bool false)), (3, .v (.int .i64 v3.2.1))]) (posts:=[.box 59 [fb v3.2.2.b,.v (.int .i64 v3.2.2.at_),.fl (.own 5) 1 (map (int .u8) v3.2.2.out),.v (.int .i64 v3.2.2.most),.v (.int .i64 v3.2.2.blocks)]]) hio rfl rfl (.tmp _ _ (.tmp _ _ .nil)) rfl rfl hargs0 rfl
   ·have h:=cond_f hb15 h
    refine ht_skip ?_
    refine pt_then (ht_seq ?_)
    refine ht_joinS h (fun ((s32,s33,s34,s35,s36,s37):(List Int)×Int×(List Int)×Int×Int×Int)=>[(0,.box 59 [fb s32,vi s33,.fl (.own 5) 1 (map (int .u8) s34),vi s35,vi s36]),(41,.glob (GL mx)),(4,vi v1.1),(3,vi s37),(0,.v (List.getD args0 0 undef))]) ?_ ?_
    ·rintro ⟨s32, s33, s34, s35, s36, s37⟩ h
     refine pt_then ?_
     refine yxx hn 4 ?_
     refine yw [3] 1 ?_
     refine yee [0,41,2,3,0] ?_
     refine ht_ret ?_
     refine pt_pick [2,3,0,4] (by kernel_rfl) (es':=[(_,_),(_,_),(_,_),(_,_)]) rfl ?_
     obtain rfl:=zi h
     exact pt_retP (es:=[(2, .v (.bool (v1.1==1))), (3, .v (.int .i64 s37))]) (posts:=[.box 59 [fb s32,.v (.int .i64 s33),.fl (.own 5) 1 (map (int .u8) s34),.v (.int .i64 s35),.v (.int .i64 s36)]]) hio rfl rfl (.tmp _ _ (.tmp _ _ .nil)) rfl rfl hargs0 rfl
    ·intro u38 h hl39 hr40
     refine yyy hn 1 [0,41,4,22,0] ?_
     refine ht_joinS h (fun ((s44,s45,s46,s47,s48,s49):(List Int)×Int×(List Int)×Int×Int×Int)=>[(0,.box 59 [fb s44,vi s45,.fl (.own 5) 1 (map (int .u8) s46),vi s47,vi s48]),(41,.glob (GL mx)),(4,vi v1.1),(3,vi s49),(0,.v (List.getD args0 0 undef))]) ?_ ?_
     ·rintro ⟨s44, s45, s46, s47, s48, s49⟩ h
      exact hl39 _ (zi h).symm
     ·intro u50 h hl51 hr52
      refine ht_block ?_
      refine yyy hn 2 [0,41,4,22,23,0] ?_
      refine ht_cond _ rfl (fun hb53 => ?_) (fun hb53 => ?_)
      ·have h:=cond_t hb53 h
       obtain ⟨v6, hv6, h⟩:=zn h
       refine yx hn 1 ?_
       refine yq call59 (ok_grow_stream_stored _ _ hv6) 0 [25] 1 ?_
       refine ye [0,41,4,3,0] ?_
       refine pt_inb ?_
       exact hl51 _ (zi h).symm
      ·have h:=cond_f hb53 h
       refine yyy hn 2 [0,41,4,22,27,0] ?_
       refine ht_cond _ rfl (fun hb54 => ?_) (fun hb54 => ?_)
       ·have h:=cond_t hb54 h
        obtain ⟨v8, hv8, h⟩:=zn h
        obtain ⟨v9, hv9, h⟩:=zn h
        refine yx hn 1 ?_
        refine ys 0 ⟨lk call33 (ok_sym_Fixed _ hv8)⟩ ?_
        refine yk [30] [] ?_
        refine ytt (30,.tup [.any,.fl (.own 3) 1 (map (int .i64) v8.2)]) (31,.fl .ro 1 (map (int .i64) v8.1)) 0 ⟨LOp.frzG 1 (op_extract_take _ _ _ _ _ rfl (zl rfl) rfl rfl (by decide) rfl) (zl rfl) rfl⟩ ?_
        refine yk [30] [] ?_
        refine ytt (30,.tup [.any,.any]) (32,.fl .ro 1 (map (int .i64) v8.2)) 0 ⟨LOp.frzG 1 (op_extract_take _ _ _ _ _ rfl (zl rfl) rfl rfl (by decide) rfl) (zl rfl) rfl⟩ ?_
        refine yq call60 (ok_grow_stream_tokens _ _ _ _ hv9) 0 [29,31,32] 1 ?_
        refine ye [0,41,4,3,0] ?_
        refine pt_inb ?_
        exact hl51 _ (zi h).symm
       ·have h:=cond_f hb54 h
        refine yyy hn 2 [0,41,4,34,0] ?_
        refine ht_cond _ rfl (fun hb55 => ?_) (fun hb55 => ?_)
        ·have h:=cond_t hb55 h
         obtain ⟨v19, hv19, h⟩:=zn h
         refine yx hn 1 ?_
         refine yk [0] [36,41] ?_
         refine ytt (0,.box 59 [fb v19.2.b,vi v19.2.at_,.fl (.own 5) 1 (map (int .u8) v19.2.out),vi v19.2.most,vi v19.2.blocks]) (37,vi v19.1) 1 ⟨op_callPSG _ _ _ _ 37 41 61 [.tmp 36] [] _ _ _ rfl call61 rfl rfl rfl rfl (fun _ h=>h) (ok_grow_stream_dynamic mx v3.2.2 _ hv19) (zl rfl) rfl rfl rfl rfl rfl rfl rfl⟩ ?_
         refine ye [0,41,4,3,0] ?_
         refine pt_inb ?_
         exact hl51 _ (zi h).symm
        ·have h:=cond_f hb55 h
         refine yy hn 1 [0,41,4,3,0] ?_
         refine pt_inb ?_
         exact hl51 _ (zi h).symm
theorem ok_grow_stream_end (s:T_grow_stream) (r:(Int×T_grow_stream)) (h:Sh.grow_stream_end s=some r):FnP Tryd.prog 41 [.box 59 [.fl .shr 1 (map (int .u8) s.b), .v (.int .i64 s.at_), .fl (.own 5) 1 (map (int .u8) s.out), .v (.int .i64 s.most), .v (.int .i64 s.blocks)]] [.box 59 [.fl .shr 1 (map (int .u8) r.2.b), .v (.int .i64 r.2.at_), .fl (.own 5) 1 (map (int .u8) r.2.out), .v (.int .i64 r.2.most), .v (.int .i64 r.2.blocks)]] (.v (.int .i64 r.1)):=by
  unfold Sh.grow_stream_end at h
  refine yP 17 func41 fun args0 hargs0 g0 hn hio => ?_
  refine yyy hn 1 [0,0] ?_
  refine ht_seq ?_
  refine ht_seq ?_
  obtain ⟨v1, hv1, h⟩:=zn h
  obtain ⟨v2, hv2, h⟩:=zn h
  refine wb [[],[3,0],[4,0],[5,0],[6]] ?_
  refine wN [7] ?_
  refine wo [[],[9,0],[10,0],[11,0]] ⟨lb hv1⟩ ?_
  refine wN [8,12] ?_
  refine wo [[13]] ⟨lb hv2⟩ ?_
  refine wee hn [0,14,0] ?_
  refine ht_cond _ rfl (fun hb3 => ?_) (fun hb3 => ?_)
  ·have h:=cond_t hb3 h
   refine yyy hn 1 [0,2,0] ?_
   refine ht_ret ?_
   refine pt_pick [1,0,2] (by kernel_rfl) (es':=[(_,_),(_,_),(_,_)]) rfl ?_
   refine pt_r_then ?_
   obtain rfl:=zi h
   exact pt_retP (es:=[(2, .v (.int .i64 3))]) (posts:=[.box 59 [fb s.b,.v (.int .i64 s.at_),.fl (.own 5) 1 (map (int .u8) s.out),.v (.int .i64 s.most),.v (.int .i64 s.blocks)]]) hio rfl rfl (.tmp _ _ .nil) rfl rfl hargs0 rfl
  ·have h:=cond_f hb3 h
   refine ht_skip ?_
   refine pt_then (ht_seq ?_)
   obtain ⟨v4, hv4, h⟩:=zn h
   refine yx hn 1 ?_
   refine yq call62 (ok_grow_stream_pad _ _ hv4) 0 [15] 1 ?_
   refine yee [0,2,0] ?_
   refine ht_ret ?_
   refine pt_pick [1,0,2] (by kernel_rfl) (es':=[(_,_),(_,_),(_,_)]) rfl ?_
   obtain rfl:=zi h
   exact pt_retP (es:=[(2, .v (.int .i64 v4.1))]) (posts:=[.box 59 [fb v4.2.b,.v (.int .i64 v4.2.at_),.fl (.own 5) 1 (map (int .u8) v4.2.out),.v (.int .i64 v4.2.most),.v (.int .i64 v4.2.blocks)]]) hio rfl rfl (.tmp _ _ .nil) rfl rfl hargs0 rfl
theorem ok_grow_read_sh (mx:Int) (b:(List Int)) (most:Int) (r:((Option T_grow_stream)×Int)) (h:Sh.grow_read_sh b most=some r):FnG Tryd.prog (GL mx) 24 [.fl .shr 1 (map (int .u8) b), .v (.int .i64 most)] (.tup [.obox (Option.isSome r.1) 59 [.fl .shr 1 (map (int .u8) (((Option.getD r.1 (default:T_grow_stream))).b)), .v (.int .i64 (((Option.getD r.1 (default:T_grow_stream))).at_)), .fl (.own 5) 1 (map (int .u8) (((Option.getD r.1 (default:T_grow_stream))).out)), .v (.int .i64 (((Option.getD r.1 (default:T_grow_stream))).most)), .v (.int .i64 (((Option.getD r.1 (default:T_grow_stream))).blocks))], .v (.int .i64 r.2)]):=by
  unfold Sh.grow_read_sh at h
  refine yG 42 func24 fun g0 hn hio => ?_
  refine yyy hn 2 [0,1,42] ?_
  refine ht_seq ?_
  refine ht_seq ?_
  refine ht_joinS h (fun (s1:Bool)=>[(0,fb b),(1,vi most),(42,.glob (GL mx)),(14,vb s1)]) ?_ ?_
  ·rintro s1 h
   refine pt_then ?_
   refine ht_cond _ rfl (fun hb5 => ?_) (fun hb5 => ?_)
   ·have h:=cond_t hb5 h
    refine yyy hn 2 [42,4,5] ?_
    refine ht_ret ?_
    refine pt_pick [1,2] (by kernel_rfl) (es':=[(_,_),(_,_)]) rfl ?_
    refine pt_sub (fs:=[(4,.obox false 59 [fb ((default:T_grow_stream).b),vi ((default:T_grow_stream).at_),.fl (.own 5) 1 (map (int .u8) ((default:T_grow_stream).out)),vi ((default:T_grow_stream).most),vi ((default:T_grow_stream).blocks)]),(5,vi 1)]) (.sub _ (sub_ob_nil 59 [fb ((default:T_grow_stream).b),vi ((default:T_grow_stream).at_),.fl (.own 5) 1 (map (int .u8) ((default:T_grow_stream).out)),vi ((default:T_grow_stream).most),vi ((default:T_grow_stream).blocks)]) rfl (.same _ .nil)) ?_
    refine pt_r_then ?_
    obtain rfl:=zi h
    exact pt_ret hio rfl (.tmp _ _ (.tmp _ _ .nil)) rfl rfl
   ·have h:=cond_f hb5 h
    refine ht_skip ?_
    refine pt_then (ht_seq ?_)
    refine yyy hn 3 [0,1,42,17] ?_
    refine ht_cond _ rfl (fun hb6 => ?_) (fun hb6 => ?_)
    ·have h:=cond_t hb6 h
     refine yyy hn 2 [42,4,5] ?_
     refine ht_ret ?_
     refine pt_pick [1,2] (by kernel_rfl) (es':=[(_,_),(_,_)]) rfl ?_
     refine pt_sub (fs:=[(4,.obox false 59 [fb ((default:T_grow_stream).b),vi ((default:T_grow_stream).at_),.fl (.own 5) 1 (map (int .u8) ((default:T_grow_stream).out)),vi ((default:T_grow_stream).most),vi ((default:T_grow_stream).blocks)]),(5,vi 2)]) (.sub _ (sub_ob_nil 59 [fb ((default:T_grow_stream).b),vi ((default:T_grow_stream).at_),.fl (.own 5) 1 (map (int .u8) ((default:T_grow_stream).out)),vi ((default:T_grow_stream).most),vi ((default:T_grow_stream).blocks)]) rfl (.same _ .nil)) ?_
     refine pt_r_then ?_
     obtain rfl:=zi h
     exact pt_ret hio rfl (.tmp _ _ (.tmp _ _ .nil)) rfl rfl
    ·have h:=cond_f hb6 h
     refine ht_skip ?_
     refine pt_then ?_
     refine yxx hn 2 ?_
     refine yS (.agg [fb b,vi 0,vz,vi most,vi 0]) 1 ⟨op_build _ _ _ _ [1,1,1,1,1] _ _ underlying59 zr59 (fs59 _ underlying59) (.copy _ (.copy _ Src.nil)) rfl rfl rfl⟩ ?_
     refine ya 0 ?_
     refine yee [42,6] ?_
     refine ht_seq ?_
     refine yyy hn 1 [42,6,7] ?_
     refine ht_sub (fs:=[(42,.glob (GL mx)),(6,.box 59 [fb b,vi 0,.fl (.own 5) 1 (map (int .u8) []),vi most,vi 0]),(7,vb false)]) (.same _ (.box _ _ (subs_cons (sub_refl _) (subs_cons (sub_refl _) (subs_cons (sub_nil 5 1) (subs_cons (sub_refl _) (subs_cons (sub_refl _) (subs_nil)))))) rfl (.same _ .nil))) ?_
     refine ht_loopS h (fun ((s18,s19,s20,s21,s22,s23):(List Int)×Int×(List Int)×Int×Int×Bool)=>[(42,.glob (GL mx)),(6,.box 59 [fb s18,vi s19,.fl (.own 5) 1 (map (int .u8) s20),vi s21,vi s22]),(7,vb s23)]) (fun ((s26,s27,s28,s29,s30):(List Int)×Int×(List Int)×Int×Int)=>[(42,.glob (GL mx)),(6,.box 59 [fb s26,vi s27,.fl (.own 5) 1 (map (int .u8) s28),vi s29,vi s30])]) ?_ ?_
     ·rintro ⟨s26, s27, s28, s29, s30⟩ h
      refine pt_then (ht_seq ?_)
      obtain ⟨v39, hv39, h⟩:=zn h
      refine yx hn 2 ?_
      refine yq call41 (ok_grow_stream_end _ _ hv39) 6 [40] 0 ?_
      refine yw [40] 0 ?_
      refine yk [6] [39] ?_
      refine yt (4,.box 59 [fb v39.2.b,vi v39.2.at_,.fl (.own 5) 1 (map (int .u8) v39.2.out),vi v39.2.most,vi v39.2.blocks]) 1 ⟨op_assign_takeP _ _ 6 _ rfl rfl⟩ ?_
      refine yee [42,4,5] ?_
      refine ht_ret ?_
      refine pt_pick [1,2] (by kernel_rfl) (es':=[(_,_),(_,_)]) rfl ?_
      refine pt_sub (fs:=[(4,.obox true 59 [fb v39.2.b,vi v39.2.at_,.fl (.own 5) 1 (map (int .u8) v39.2.out),vi v39.2.most,vi v39.2.blocks]),(5,vi v39.1)]) (.sub _ (sub_ob_box 59 (subs_refl _)) rfl (.same _ .nil)) ?_
      obtain rfl:=zi h
      exact pt_ret hio rfl (.tmp _ _ (.tmp _ _ .nil)) rfl rfl
     ·rintro u31 hl32 hr33 ⟨s18, s19, s20, s21, s22, s23⟩ rr36 h ho34
      refine ht_seq ?_
      refine yyy hn 2 [42,6,23] ?_
      refine ht_cond _ rfl (fun hb37 => ?_) (fun hb37 => ?_)
      ·have h:=cond_t hb37 h
       refine ht_skip ?_
       refine pt_then ?_
       refine ht_block ?_
       refine yyy hn 1 [42,6] ?_
       refine ht_seq ?_
       refine ht_seq ?_
       obtain ⟨v7, hv7, h⟩:=zn h
       refine yx hn 1 ?_
       refine yk [6] [25,42] ?_
       refine ytt (6,.box 59 [fb v7.2.2.b,vi v7.2.2.at_,.fl (.own 5) 1 (map (int .u8) v7.2.2.out),vi v7.2.2.most,vi v7.2.2.blocks]) (26,.tup [vb v7.1,vi v7.2.1]) 0 ⟨op_callPSG _ _ _ _ 26 42 40 [.tmp 25] [] _ _ _ rfl call40 rfl rfl rfl rfl (fun _ h=>h) (ok_grow_stream_block mx (T_grow_stream.mk s18 s19 s20 s21 s22) _ hv7) (zl rfl) rfl rfl rfl rfl rfl rfl rfl⟩ ?_
       refine ym 4 ?_
       refine yee [42,6,7,8] ?_
       refine yyy hn 2 [42,6,7,8,30] ?_
       refine ht_cond _ rfl (fun hb38 => ?_) (fun hb38 => ?_)
       ·have h:=cond_t hb38 h
        refine yyy hn 3 [42,4,5] ?_
        refine ht_ret ?_
        refine pt_pick [1,2] (by kernel_rfl) (es':=[(_,_),(_,_)]) rfl ?_
        refine pt_sub (fs:=[(4,.obox false 59 [fb ((default:T_grow_stream).b),vi ((default:T_grow_stream).at_),.fl (.own 5) 1 (map (int .u8) ((default:T_grow_stream).out)),vi ((default:T_grow_stream).most),vi ((default:T_grow_stream).blocks)]),(5,vi v7.2.1)]) (.sub _ (sub_ob_nil 59 [fb ((default:T_grow_stream).b),vi ((default:T_grow_stream).at_),.fl (.own 5) 1 (map (int .u8) ((default:T_grow_stream).out)),vi ((default:T_grow_stream).most),vi ((default:T_grow_stream).blocks)]) rfl (.same _ .nil)) ?_
        refine pt_r_then ?_
        refine pt_r_in ?_
        refine pt_r_then ?_
        refine pt_r_in ?_
        refine pt_r_then ?_
        have h:=hr33 _ (ho34 _ (zi h).symm).symm
        obtain rfl:=zi h
        exact pt_ret hio rfl (.tmp _ _ (.tmp _ _ .nil)) rfl rfl
       ·have h:=cond_f hb38 h
        refine ht_skip ?_
        refine pt_then ?_
        obtain ⟨v9, hv9, h⟩:=zn h
        refine yx hn 4 ?_
        refine ys 3 ⟨lb hv9⟩ ?_
        refine ye [42,6,7] ?_
        refine pt_inb ?_
        exact pt_next _ (zi h).symm rfl
      ·have h:=cond_f hb37 h
       refine ht_exit ?_
       refine pt_x_then ?_
       refine pt_x_then ?_
       refine pt_x_in ?_
       refine pt_pick [0,1] (by kernel_rfl) (es':=[(_,_),(_,_)]) rfl ?_
       exact hl32 _ (ho34 _ (zi h).symm).symm
  ·intro u2 h hl3 hr4
   refine cond_some h (fun hg1_2 h => ?_) (fun hg1_2 h => ?_)
   ·refine yx hn 3 ?_
    refine yd hg1_2 3 ?_
    refine ye [0,1,42,14] ?_
    exact hl3 _ (zi h).symm
   ·refine yx hn 3 ?_
    refine yd hg1_2 3 ?_
    refine ye [0,1,42,14] ?_
    exact hl3 _ (zi h).symm
theorem ok_grow_Grow (mx:Int) (b:(List Int)) (most:Int) (r:((List Int)×Int)) (h:Sh.grow_Grow b most=some r):FnG Tryd.prog (GL mx) 11 [.fl .shr 1 (map (int .u8) b), .v (.int .i64 most)] (.tup [.fl (.own 5) 1 (map (int .u8) r.1), .v (.int .i64 r.2)]):=by
  unfold Sh.grow_Grow at h
  refine yG 21 func11 fun g0 hn hio => ?_
  refine yyy hn 2 [0,1,21] ?_
  refine ht_seq ?_
  obtain ⟨v1, hv1, h⟩:=zn h
  refine yx hn 2 ?_
  refine yk [] [9,10,21] ?_
  refine yt (11,.tup [.obox (Option.isSome v1.1) 59 [fb (((Option.getD v1.1 (default:T_grow_stream))).b),vi (((Option.getD v1.1 (default:T_grow_stream))).at_),.fl (.own 5) 1 (map (int .u8) (((Option.getD v1.1 (default:T_grow_stream))).out)),vi (((Option.getD v1.1 (default:T_grow_stream))).most),vi (((Option.getD v1.1 (default:T_grow_stream))).blocks)],vi v1.2]) 0 ⟨op_callSG _ _ 21 24 _ _ rfl call24 rfl rfl rfl (fun _ h=>h) (ok_grow_read_sh mx b most _ hv1) rfl⟩ ?_
  refine ym 0 ?_
  refine yx_ 1 ?_
  refine ya 1 ?_
  refine ye [21,6,7] ?_
  refine pt_ob (d:=default) (f:=fun (v2:T_grow_stream)=>[fb v2.b, .v (.int .i64 v2.at_), .fl (.own 5) 1 (map (int .u8) v2.out), .v (.int .i64 v2.most), .v (.int .i64 v2.blocks)]) 1 5 6 59 h (es1:=fun v2=>[(21, .glob (GL mx)), (6, .box 59 [fb v2.b,.v (.int .i64 v2.at_),.fl (.own 5) 1 (map (int .u8) v2.out),.v (.int .i64 v2.most),.v (.int .i64 v2.blocks)]), (7, .v (.int .i64 v1.2))]) (es0:=[(21, .glob (GL mx)), (6, .v (.pointer none)), (7, .v (.int .i64 v1.2))]) rfl (fun _=>rfl) (by kernel_rfl) (fun _=>rfl) (fun _=>rfl) rfl (fun v2 hv3 h => ?_) (fun hv3 h => ?_)
  ·refine pt_then (ht_seq ?_)
   refine yyy hn 2 [21,6,7,15] ?_
   refine ht_cond _ rfl (fun hb4 => ?_) (fun hb4 => ?_)
   ·have h:=cond_t hb4 h
    refine yyy hn 3 [21,4,5] ?_
    refine ht_ret ?_
    refine pt_pick [1,2] (by kernel_rfl) (es':=[(_,_),(_,_)]) rfl ?_
    refine pt_sub (fs:=[(4,.fl (.own 5) 1 (map (int .u8) [])),(5,vi v1.2)]) (.sub _ (sub_nil 5 1) rfl (.same _ .nil)) ?_
    refine pt_r_then ?_
    obtain rfl:=zi h
    exact pt_ret hio rfl (.tmp _ _ (.tmp _ _ .nil)) rfl rfl
   ·have h:=cond_f hb4 h
    refine ht_skip ?_
    refine pt_then ?_
    refine yxx hn 0 ?_
    refine ym 3 ?_
    refine yk [17] [20] ?_
    refine ytt (17,.box 59 [fb v2.b,vi v2.at_,.any,vi v2.most,vi v2.blocks]) (4,.fl (.own 5) 1 (map (int .u8) v2.out)) 1 ⟨op_assign_cell _ 4 17 2 rfl rfl (zl rfl) rfl (by decide) rfl⟩ ?_
    refine yee [21,4,5] ?_
    refine ht_ret ?_
    refine pt_pick [1,2] (by kernel_rfl) (es':=[(_,_),(_,_)]) rfl ?_
    obtain rfl:=zi h
    exact pt_ret hio rfl (.tmp _ _ (.tmp _ _ .nil)) rfl rfl
  ·refine pt_then (ht_seq ?_)
   refine yyy hn 2 [21,6,7,15] ?_
   refine ht_cond _ rfl (fun hb5 => ?_) (fun hb5 => ?_)
   ·have h:=cond_t hb5 h
    refine yyy hn 3 [21,4,5] ?_
    refine ht_ret ?_
    refine pt_pick [1,2] (by kernel_rfl) (es':=[(_,_),(_,_)]) rfl ?_
    refine pt_sub (fs:=[(4,.fl (.own 5) 1 (map (int .u8) [])),(5,vi v1.2)]) (.sub _ (sub_nil 5 1) rfl (.same _ .nil)) ?_
    refine pt_r_then ?_
    obtain rfl:=zi h
    exact pt_ret hio rfl (.tmp _ _ (.tmp _ _ .nil)) rfl rfl
   ·have h:=cond_f hb5 h
    cases h
theorem ok_grow_Blocks (mx:Int) (b:(List Int)) (r:(Int×Int)) (h:Sh.grow_Blocks b=some r):FnG Tryd.prog (GL mx) 12 [.fl .shr 1 (map (int .u8) b)] (.tup [.v (.int .i64 r.1), .v (.int .i64 r.2)]):=by
  unfold Sh.grow_Blocks at h
  refine yG 18 func12 fun g0 hn hio => ?_
  refine yyy hn 2 [0,18] ?_
  refine ht_seq ?_
  obtain ⟨v1, hv1, h⟩:=zn h
  refine yx hn 1 ?_
  refine yk [] [7,18] ?_
  refine yt (8,.tup [.obox (Option.isSome v1.1) 59 [fb (((Option.getD v1.1 (default:T_grow_stream))).b),vi (((Option.getD v1.1 (default:T_grow_stream))).at_),.fl (.own 5) 1 (map (int .u8) (((Option.getD v1.1 (default:T_grow_stream))).out)),vi (((Option.getD v1.1 (default:T_grow_stream))).most),vi (((Option.getD v1.1 (default:T_grow_stream))).blocks)],vi v1.2]) 0 ⟨op_callSG _ _ 18 24 _ _ rfl call24 rfl rfl rfl (fun _ h=>h) (ok_grow_read_sh mx b 4096 _ hv1) rfl⟩ ?_
  refine ym 0 ?_
  refine yx_ 1 ?_
  refine ya 1 ?_
  refine ye [18,4,5] ?_
  refine pt_ob (d:=default) (f:=fun (v2:T_grow_stream)=>[fb v2.b, .v (.int .i64 v2.at_), .fl (.own 5) 1 (map (int .u8) v2.out), .v (.int .i64 v2.most), .v (.int .i64 v2.blocks)]) 1 5 4 59 h (es1:=fun v2=>[(18, .glob (GL mx)), (4, .box 59 [fb v2.b,.v (.int .i64 v2.at_),.fl (.own 5) 1 (map (int .u8) v2.out),.v (.int .i64 v2.most),.v (.int .i64 v2.blocks)]), (5, .v (.int .i64 v1.2))]) (es0:=[(18, .glob (GL mx)), (4, .v (.pointer none)), (5, .v (.int .i64 v1.2))]) rfl (fun _=>rfl) (by kernel_rfl) (fun _=>rfl) (fun _=>rfl) rfl (fun v2 hv3 h => ?_) (fun hv3 h => ?_)
  ·refine pt_then (ht_seq ?_)
   refine yyy hn 2 [18,4,5,12] ?_
   refine ht_cond _ rfl (fun hb4 => ?_) (fun hb4 => ?_)
   ·have h:=cond_t hb4 h
    refine yyy hn 3 [18,2,3] ?_
    refine ht_ret ?_
    refine pt_pick [1,2] (by kernel_rfl) (es':=[(_,_),(_,_)]) rfl ?_
    refine pt_r_then ?_
    obtain rfl:=zi h
    exact pt_ret hio rfl (.tmp _ _ (.tmp _ _ .nil)) rfl rfl
   ·have h:=cond_f hb4 h
    refine ht_skip ?_
    refine pt_then ?_
    refine yxx hn 0 ?_
    refine ym 5 ?_
    refine yee [18,2,3] ?_
    refine ht_ret ?_
    refine pt_pick [1,2] (by kernel_rfl) (es':=[(_,_),(_,_)]) rfl ?_
    obtain rfl:=zi h
    exact pt_ret hio rfl (.tmp _ _ (.tmp _ _ .nil)) rfl rfl
  ·refine pt_then (ht_seq ?_)
   refine yyy hn 2 [18,4,5,12] ?_
   refine ht_cond _ rfl (fun hb5 => ?_) (fun hb5 => ?_)
   ·have h:=cond_t hb5 h
    refine yyy hn 3 [18,2,3] ?_
    refine ht_ret ?_
    refine pt_pick [1,2] (by kernel_rfl) (es':=[(_,_),(_,_)]) rfl ?_
    refine pt_r_then ?_
    obtain rfl:=zi h
    exact pt_ret hio rfl (.tmp _ _ (.tmp _ _ .nil)) rfl rfl
   ·have h:=cond_f hb5 h
    cases h
theorem ok_wherrykeep_Twin (l:(List Int)) (r:(List Int)) (h:Sh.wherrykeep_Twin l=some r):FnOK Tryd.prog 16 [.fl .shr 1 (map (int .u8) l)] (.fl (.own 5) 1 (map (int .u8) r)):=by
  unfold Sh.wherrykeep_Twin at h
  refine yO 7 func16 fun g0 hn hio => ?_
  refine yyy hn 1 [0] ?_
  refine yyy hn 1 [0,3] ?_
  refine ht_seq ?_
  obtain ⟨v1, hv1, h⟩:=zn h
  refine yx hn 2 ?_
  refine yS (.fl (.own 5) 1 (map (int .u8) v1)) 0 ⟨op_app_nil _ _ _ _ el22 rfl rfl (map_len _) hv1 (congrArg (map _) (app_nil_eq hv1))⟩ ?_
  refine ya 0 ?_
  refine yee [2] ?_
  refine ht_ret ?_
  obtain rfl:=zi h
  exact pt_ret hio rfl (.tmp _ _ .nil) rfl rfl
theorem ok_wherrykeep_Bytes (a:(List Int)) (b:(List Int)) (r:Bool) (h:Sh.wherrykeep_Bytes a b=some r):FnOK Tryd.prog 13 [.fl .shr 1 (map (int .u8) a), .fl .shr 1 (map (int .u8) b)] (.v (.bool r)):=by
  unfold Sh.wherrykeep_Bytes at h
  refine yO 26 func13 fun g0 hn hio => ?_
  refine yyy hn 1 [0,1] ?_
  refine ht_seq ?_
  refine yyy hn 5 [0,1,10] ?_
  refine ht_cond _ rfl (fun hb1 => ?_) (fun hb1 => ?_)
  ·have h:=cond_t hb1 h
   refine yyy hn 1 [4] ?_
   refine ht_ret ?_
   refine pt_r_then ?_
   obtain rfl:=zi h
   exact pt_ret hio rfl (.tmp _ _ .nil) rfl rfl
  ·have h:=cond_f hb1 h
   refine ht_skip ?_
   refine pt_then (ht_seq ?_)
   refine yyy hn 1 [0,1,5] ?_
   refine ht_loopS h (fun (s12:Int)=>[(0,fb a),(1,fb b),(5,vi s12)]) (fun (():Unit)=>[]) ?_ ?_
   ·rintro ⟨⟩ h
    refine pt_then ?_
    refine yyy hn 1 [4] ?_
    refine ht_ret ?_
    obtain rfl:=zi h
    exact pt_ret hio rfl (.tmp _ _ .nil) rfl rfl
   ·rintro u15 hl16 hr17 s12 rr20 h ho18
    refine ht_seq ?_
    refine yyy hn 4 [0,1,5,14] ?_
    refine ht_cond _ rfl (fun hb21 => ?_) (fun hb21 => ?_)
    ·have h:=cond_t hb21 h
     refine ht_skip ?_
     refine pt_then (ht_seq ?_)
     refine ht_block ?_
     refine ht_seq ?_
     obtain ⟨v3, hv3, h⟩:=zn h
     obtain ⟨v4, hv4, h⟩:=zn h
     obtain ⟨v5, hv5, h⟩:=zn h
     obtain ⟨v6, hv6, h⟩:=zn h
     refine wb [[0],[5]] ?_
     refine wN [17,18] ?_
     refine wo [] ⟨li hv3⟩ ?_
     refine wN [19,17] ?_
     refine wo [[1],[5]] ⟨ll hv4⟩ ?_
     refine wN [21,22] ?_
     refine wo [] ⟨li hv5⟩ ?_
     refine wN [23,21] ?_
     refine wo [[20,24]] ⟨ll hv6⟩ ?_
     refine wee hn [0,1,5,25] ?_
     refine ht_cond _ rfl (fun hb22 => ?_) (fun hb22 => ?_)
     ·have h:=cond_t hb22 h
      refine yyy hn 1 [4] ?_
      refine ht_ret ?_
      refine pt_r_in ?_
      refine pt_r_then ?_
      refine pt_r_then ?_
      refine pt_r_in ?_
      refine pt_r_then ?_
      have h:=hr17 _ (ho18 _ (zi h).symm).symm
      obtain rfl:=zi h
      exact pt_ret hio rfl (.tmp _ _ .nil) rfl rfl
     ·have h:=cond_f hb22 h
      refine ht_skip ?_
      refine pt_inb ?_
      refine pt_then ?_
      obtain ⟨v8, hv8, h⟩:=zn h
      refine yx hn 1 ?_
      refine ys 0 ⟨lb hv8⟩ ?_
      refine yw [5] 1 ?_
      refine ye [0,1,5] ?_
      exact pt_next _ (zi h).symm rfl
    ·have h:=cond_f hb21 h
     refine ht_exit ?_
     refine pt_x_then ?_
     refine pt_x_then ?_
     refine pt_x_in ?_
     refine pt_pick [] (by kernel_rfl) (es':=[]) rfl ?_
     exact hl16 _ (ho18 _ (zi h).symm).symm
theorem ok_wherrylaw07_wakes (mx:Int) (r:Bool) (h:Sh.wherrylaw07_wakes  = some r):FnG Tryd.prog (GL mx) 14 [] (.v (.bool r)):=by
  unfold Sh.wherrylaw07_wakes at h
  refine yG 57 func14 fun g0 hn hio => ?_
  refine yyy hn 1 [57] ?_
  refine ht_seq ?_
  obtain ⟨v1, hv1, h⟩:=zn h
  refine yx hn 0 ?_
  refine yS (.fl (.own 5) 1 (map (int .u8) [3,0])) 0 ⟨op_buildSlice _ _ 1 (.int .u8 0) (map (int .u8) [3,0]) [(0,.int .u8 3),(1,.int .u8 0)] underlying22 sz5 zr5 (fun _ V w o a hv hes=>by simp only [List.map_toArray,List.map_cons,List.map_nil]; try rfl) (litfill (by simp [Instr.fill,Value.cells]; rfl) (by simp [List.range,List.range.loop] <;> rfl)) (by simp [Value.oneCell']) rfl (by decide) (by decide) (by decide)⟩ ?_
  refine ys 0 ⟨lg call11 (ok_grow_Grow _ _ _ _ hv1) 57⟩ ?_
  refine ym 0 ?_
  refine yx_ 1 ?_
  refine ya 1 ?_
  refine yee [57,1,2] ?_
  refine ht_seq ?_
  obtain ⟨v2, hv2, h⟩:=zn h
  refine yx hn 0 ?_
  refine yS (.fl (.own 5) 1 (map (int .u8) [1,1,0,254,255,7])) 0 ⟨op_buildSlice _ _ 1 (.int .u8 0) (map (int .u8) [1,1,0,254,255,7]) [(0,.int .u8 1),(1,.int .u8 1),(2,.int .u8 0),(3,.int .u8 254),(4,.int .u8 255),(5,.int .u8 7)] underlying22 sz5 zr5 (fun _ V w o a hv hes=>by simp only [List.map_toArray,List.map_cons,List.map_nil]; try rfl) (litfill (by simp [Instr.fill,Value.cells]; rfl) (by simp [List.range,List.range.loop] <;> rfl)) (by simp [Value.oneCell']) rfl (by decide) (by decide) (by decide)⟩ ?_
  refine ys 0 ⟨lg call11 (ok_grow_Grow _ _ _ _ hv2) 57⟩ ?_
  refine ym 0 ?_
  refine yx_ 1 ?_
  refine ya 1 ?_
  refine yee [57,1,2,3,4] ?_
  refine ht_seq ?_
  obtain ⟨v3, hv3, h⟩:=zn h
  refine yx hn 0 ?_
  refine yS (.fl (.own 5) 1 (map (int .u8) [3,0])) 0 ⟨op_buildSlice _ _ 1 (.int .u8 0) (map (int .u8) [3,0]) [(0,.int .u8 3),(1,.int .u8 0)] underlying22 sz5 zr5 (fun _ V w o a hv hes=>by simp only [List.map_toArray,List.map_cons,List.map_nil]; try rfl) (litfill (by simp [Instr.fill,Value.cells]; rfl) (by simp [List.range,List.range.loop] <;> rfl)) (by simp [Value.oneCell']) rfl (by decide) (by decide) (by decide)⟩ ?_
  refine ys 0 ⟨lg call12 (ok_grow_Blocks _ _ _ hv3) 57⟩ ?_
  refine ym 4 ?_
  refine yee [57,1,2,3,4,5,6] ?_
  refine ht_seq ?_
  obtain ⟨v4, hv4, h⟩:=zn h
  refine yx hn 0 ?_
  refine yS (.fl (.own 5) 1 (map (int .u8) [7])) 0 ⟨op_buildSlice _ _ 1 (.int .u8 0) (map (int .u8) [7]) [(0,.int .u8 7)] underlying22 sz5 zr5 (fun _ V w o a hv hes=>by simp only [List.map_toArray,List.map_cons,List.map_nil]; try rfl) (litfill (by simp [Instr.fill,Value.cells]; rfl) (by simp [List.range,List.range.loop] <;> rfl)) (by simp [Value.oneCell']) rfl (by decide) (by decide) (by decide)⟩ ?_
  refine ys 0 ⟨lg call11 (ok_grow_Grow _ _ _ _ hv4) 57⟩ ?_
  refine ym 0 ?_
  refine yx_ 1 ?_
  refine ya 1 ?_
  refine yee [57,1,2,3,4,5,6,8] ?_
  refine ht_seq ?_
  refine ht_joinS h (fun (s6:Bool)=>[(57,.glob (GL mx)),(0,vb s6)]) ?_ ?_
  ·rintro s6 h
   refine pt_then (ht_ret ?_)
   refine pt_pick [1] (by kernel_rfl) (es':=[(_,_)]) rfl ?_
   obtain rfl:=zi h
   exact pt_ret hio rfl (.tmp _ _ .nil) rfl rfl
  ·intro u7 h hl8 hr9
   refine cond_some h (fun hg5_2 h => ?_) (fun hg5_2 h => ?_)
   ·refine cond_some h (fun hg5_6 h => ?_) (fun hg5_6 h => ?_)
    ·refine cond_some h (fun hg5_10 h => ?_) (fun hg5_10 h => ?_)
     ·refine cond_some h (fun hg5_14 h => ?_) (fun hg5_14 h => ?_)
      ·refine cond_some h (fun hg5_19 h => ?_) (fun hg5_19 h => ?_)
       ·obtain ⟨v5, hv5, h⟩:=zn h
        refine cond_some h (fun hg5_24 h => ?_) (fun hg5_24 h => ?_)
        ·refine yx hn 3 ?_
         refine yd hg5_2 4 ?_
         refine yd hg5_6 4 ?_
         refine yd hg5_10 4 ?_
         refine yd hg5_14 0 ?_
         refine ym 4 ?_
         refine yd hg5_19 0 ?_
         refine ym 0 ?_
         refine yS (.fl (.own 5) 1 (map (int .u8) [7])) 0 ⟨op_buildSlice _ _ 1 (.int .u8 0) (map (int .u8) [7]) [(0,.int .u8 7)] underlying22 sz5 zr5 (fun _ V w o a hv hes=>by simp only [List.map_toArray,List.map_cons,List.map_nil]; try rfl) (litfill (by simp [Instr.fill,Value.cells]; rfl) (by simp [List.range,List.range.loop] <;> rfl)) (by simp [Value.oneCell']) rfl (by decide) (by decide) (by decide)⟩ ?_
         refine ys 2 ⟨lk call13 (ok_wherrykeep_Bytes _ _ _ hv5)⟩ ?_
         refine yd hg5_24 4 ?_
         refine ye [57,0] ?_
         exact hl8 _ (zi h).symm
        ·refine yx hn 3 ?_
         refine yd hg5_2 4 ?_
         refine yd hg5_6 4 ?_
         refine yd hg5_10 4 ?_
         refine yd hg5_14 0 ?_
         refine ym 4 ?_
         refine yd hg5_19 0 ?_
         refine ym 0 ?_
         refine yS (.fl (.own 5) 1 (map (int .u8) [7])) 0 ⟨op_buildSlice _ _ 1 (.int .u8 0) (map (int .u8) [7]) [(0,.int .u8 7)] underlying22 sz5 zr5 (fun _ V w o a hv hes=>by simp only [List.map_toArray,List.map_cons,List.map_nil]; try rfl) (litfill (by simp [Instr.fill,Value.cells]; rfl) (by simp [List.range,List.range.loop] <;> rfl)) (by simp [Value.oneCell']) rfl (by decide) (by decide) (by decide)⟩ ?_
         refine ys 2 ⟨lk call13 (ok_wherrykeep_Bytes _ _ _ hv5)⟩ ?_
         refine yd hg5_24 4 ?_
         refine ye [57,0] ?_
         exact hl8 _ (zi h).symm
       ·refine yx hn 3 ?_
        refine yd hg5_2 4 ?_
        refine yd hg5_6 4 ?_
        refine yd hg5_10 4 ?_
        refine yd hg5_14 0 ?_
        refine ym 4 ?_
        refine yd hg5_19 9 ?_
        refine ye [57,0] ?_
        exact hl8 _ (zi h).symm
      ·refine yx hn 3 ?_
       refine yd hg5_2 4 ?_
       refine yd hg5_6 4 ?_
       refine yd hg5_10 4 ?_
       refine yd hg5_14 14 ?_
       refine ye [57,0] ?_
       exact hl8 _ (zi h).symm
     ·refine yx hn 3 ?_
      refine yd hg5_2 4 ?_
      refine yd hg5_6 4 ?_
      refine yd hg5_10 18 ?_
      refine ye [57,0] ?_
      exact hl8 _ (zi h).symm
    ·refine yx hn 3 ?_
     refine yd hg5_2 4 ?_
     refine yd hg5_6 22 ?_
     refine ye [57,0] ?_
     exact hl8 _ (zi h).symm
   ·refine yx hn 3 ?_
    refine yd hg5_2 26 ?_
    refine ye [57,0] ?_
    exact hl8 _ (zi h).symm
end Go.Proofs.YthceldoojddpiaaDoor
