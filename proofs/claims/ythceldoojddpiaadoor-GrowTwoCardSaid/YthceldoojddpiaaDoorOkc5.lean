/-
  The model's runs are what is told in Lean.
-/
import Derived.Test.YthceldoojddpiaaDoorProg
import Derived.KernelRfl
import Derived.Test.YthceldoojddpiaaDoorShelf
import Derived.Test.YthceldoojddpiaaDoorB2
import Derived.Test.YthceldoojddpiaaDoorB4
import Derived.Test.YthceldoojddpiaaDoorB5
import Derived.Test.YthceldoojddpiaaDoorB8
import Derived.Test.YthceldoojddpiaaDoorSrt
import Derived.Test.YthceldoojddpiaaDoorB9
import Derived.Test.YthceldoojddpiaaDoorShr
import Derived.Test.YthceldoojddpiaaDoorC1
import Derived.Test.YthceldoojddpiaaDoorBA
import Derived.Test.YthceldoojddpiaaDoorOkc4
set_option linter.unusedVariables false
set_option linter.unusedSimpArgs false
set_option maxHeartbeats 1000000
namespace Go.Proofs.YthceldoojddpiaaDoor
open Go.Abs Go.Abs.Sh Tryd
open List (map flatten)
open Value (int)
theorem ok_grow_stream_stored (s:T_grow_stream) (r:(Int×T_grow_stream)) (h:Sh.grow_stream_stored s=some r):FnP Tryd.prog 59 [.box 59 [.fl .shr 1 (map (int .u8) s.b), .v (.int .i64 s.at_), .fl (.own 5) 1 (map (int .u8) s.out), .v (.int .i64 s.most), .v (.int .i64 s.blocks)]] [.box 59 [.fl .shr 1 (map (int .u8) r.2.b), .v (.int .i64 r.2.at_), .fl (.own 5) 1 (map (int .u8) r.2.out), .v (.int .i64 r.2.most), .v (.int .i64 r.2.blocks)]] (.v (.int .i64 r.1)):=by
  unfold Sh.grow_stream_stored at h
  refine yP 53 func59 fun args0 hargs0 g0 hn hio => ?_
  refine yyy hn 1 [0,0] ?_
  refine ht_seq ?_
  refine ht_seq ?_
  obtain ⟨v1, hv1, h⟩:=zn h
  refine yx hn 1 ?_
  refine yq call62 (ok_grow_stream_pad _ _ hv1) 0 [10] 1 ?_
  refine yee [0,3,0] ?_
  refine yyy hn 2 [0,3,13,0] ?_
  refine ht_cond _ rfl (fun hb2 => ?_) (fun hb2 => ?_)
  ·have h:=cond_t hb2 h
   refine yyy hn 2 [0,2,0] ?_
   refine ht_ret ?_
   refine pt_pick [1,0,2] (by kernel_rfl) (es':=[(_,_),(_,_),(_,_)]) rfl ?_
   refine pt_r_then ?_
   obtain rfl:=zi h
   exact pt_retP (es:=[(2, .v (.int .i64 v1.1))]) (posts:=[.box 59 [fb v1.2.b,.v (.int .i64 v1.2.at_),.fl (.own 5) 1 (map (int .u8) v1.2.out),.v (.int .i64 v1.2.most),.v (.int .i64 v1.2.blocks)]]) hio rfl rfl (.tmp _ _ .nil) rfl rfl hargs0 rfl
  ·have h:=cond_f hb2 h
   refine ht_skip ?_
   refine pt_then (ht_seq ?_)
   obtain ⟨v3, hv3, h⟩:=zn h
   refine yx hn 1 ?_
   refine yq call58 (ok_grow_stream_number _ _ _ hv3) 0 [16] 0 ?_
   refine ym 4 ?_
   refine yee [0,4,5,0] ?_
   refine ht_seq ?_
   refine yyy hn 2 [0,4,5,21,0] ?_
   refine ht_cond _ rfl (fun hb4 => ?_) (fun hb4 => ?_)
   ·have h:=cond_t hb4 h
    refine yyy hn 2 [0,2,0] ?_
    refine ht_ret ?_
    refine pt_pick [1,0,2] (by kernel_rfl) (es':=[(_,_),(_,_),(_,_)]) rfl ?_
    refine pt_r_then ?_
    obtain rfl:=zi h
    exact pt_retP (es:=[(2, .v (.int .i64 v3.2.1))]) (posts:=[.box 59 [fb v3.2.2.b,.v (.int .i64 v3.2.2.at_),.fl (.own 5) 1 (map (int .u8) v3.2.2.out),.v (.int .i64 v3.2.2.most),.v (.int .i64 v3.2.2.blocks)]]) hio rfl rfl (.tmp _ _ .nil) rfl rfl hargs0 rfl
   ·have h:=cond_f hb4 h
    refine ht_skip ?_
    refine pt_then (ht_seq ?_)
    obtain ⟨v5, hv5, h⟩:=zn h
    refine yx hn 1 ?_
    refine yq call58 (ok_grow_stream_number _ _ _ hv5) 0 [24] 0 ?_
    refine ym 3 ?_
    refine yw [5] 1 ?_
    refine yee [0,4,6,5,0] ?_
    refine ht_seq ?_
    refine yyy hn 2 [0,4,6,5,29,0] ?_
    refine ht_cond _ rfl (fun hb6 => ?_) (fun hb6 => ?_)
    ·have h:=cond_t hb6 h
     refine yyy hn 2 [0,2,0] ?_
     refine ht_ret ?_
     refine pt_pick [1,0,2] (by kernel_rfl) (es':=[(_,_),(_,_),(_,_)]) rfl ?_
     refine pt_r_then ?_
     obtain rfl:=zi h
     exact pt_retP (es:=[(2, .v (.int .i64 v5.2.1))]) (posts:=[.box 59 [fb v5.2.2.b,.v (.int .i64 v5.2.2.at_),.fl (.own 5) 1 (map (int .u8) v5.2.2.out),.v (.int .i64 v5.2.2.most),.v (.int .i64 v5.2.2.blocks)]]) hio rfl rfl (.tmp _ _ .nil) rfl rfl hargs0 rfl
    ·have h:=cond_f hb6 h
     refine ht_skip ?_
     refine pt_then (ht_seq ?_)
     refine ht_seq ?_
     obtain ⟨v7, hv7, h⟩:=zn h
     refine yx hn 2 ?_
     refine ys 1 ⟨lb hv7⟩ ?_
     refine yee [0,4,34,0] ?_
     refine ht_cond _ rfl (fun hb8 => ?_) (fun hb8 => ?_)
     ·have h:=cond_t hb8 h
      refine yyy hn 1 [0,2,0] ?_
      refine ht_ret ?_
      refine pt_pick [1,0,2] (by kernel_rfl) (es':=[(_,_),(_,_),(_,_)]) rfl ?_
      refine pt_r_then ?_
      obtain rfl:=zi h
      exact pt_retP (es:=[(2, .v (.int .i64 3))]) (posts:=[.box 59 [fb v5.2.2.b,.v (.int .i64 v5.2.2.at_),.fl (.own 5) 1 (map (int .u8) v5.2.2.out),.v (.int .i64 v5.2.2.most),.v (.int .i64 v5.2.2.blocks)]]) hio rfl rfl (.tmp _ _ .nil) rfl rfl hargs0 rfl
     ·have h:=cond_f hb8 h
      refine ht_skip ?_
      refine pt_then (ht_seq ?_)
      refine yyy hn 2 [0,35,36,0] ?_
      refine ht_loopS h (fun ((s24,s25,s26,s27,s28,s29):(List Int)×Int×(List Int)×Int×Int×Int)=>[(0,.box 59 [fb s24,vi s25,.fl (.own 5) 1 (map (int .u8) s26),vi s27,vi s28]),(35,vi v3.1),(36,vi s29),(0,.v (List.getD args0 0 undef))]) (fun ((s33,s34,s35,s36,s37):(List Int)×Int×(List Int)×Int×Int)=>[(0,.box 59 [fb s33,vi s34,.fl (.own 5) 1 (map (int .u8) s35),vi s36,vi s37]),(0,.v (List.getD args0 0 undef))]) ?_ ?_
      ·rintro ⟨s33, s34, s35, s36, s37⟩ h
       refine pt_then ?_
       refine yyy hn 1 [0,2,0] ?_
       refine ht_ret ?_
       refine pt_pick [1,0,2] (by kernel_rfl) (es':=[(_,_),(_,_),(_,_)]) rfl ?_
       obtain rfl:=zi h
       exact pt_retP (es:=[(2, .v (.int .i64 0))]) (posts:=[.box 59 [fb s33,.v (.int .i64 s34),.fl (.own 5) 1 (map (int .u8) s35),.v (.int .i64 s36),.v (.int .i64 s37)]]) hio rfl rfl (.tmp _ _ .nil) rfl rfl hargs0 rfl
      ·rintro u38 hl39 hr40 ⟨s24, s25, s26, s27, s28, s29⟩ rr43 h ho41
       refine yyy hn 1 [0,35,36,37,0] ?_
       refine ht_seq ?_
       refine ht_cond _ rfl (fun hb44 => ?_) (fun hb44 => ?_)
       ·have h:=cond_t hb44 h
        refine ht_skip ?_
        refine pt_then (ht_seq ?_)
        refine ht_block ?_
        refine ht_seq ?_
        obtain ⟨v10, hv10, h⟩:=zn h
        refine yx hn 1 ?_
        refine yq call58 (ok_grow_stream_number _ _ _ hv10) 0 [39] 0 ?_
        refine ym 4 ?_
        refine yee [0,35,36,7,8,0] ?_
        refine ht_seq ?_
        refine yyy hn 2 [0,35,36,7,8,44,0] ?_
        refine ht_cond _ rfl (fun hb45 => ?_) (fun hb45 => ?_)
        ·have h:=cond_t hb45 h
         refine yyy hn 2 [0,2,0] ?_
         refine ht_ret ?_
         refine pt_pick [1,0,2] (by kernel_rfl) (es':=[(_,_),(_,_),(_,_)]) rfl ?_
         refine pt_r_then ?_
         refine pt_r_in ?_
         refine pt_r_then ?_
         refine pt_r_then ?_
         refine pt_r_in ?_
         refine pt_r_then ?_
         have h:=hr40 _ (ho41 _ (zi h).symm).symm
         obtain rfl:=zi h
         exact pt_retP (es:=[(2, .v (.int .i64 v10.2.1))]) (posts:=[.box 59 [fb v10.2.2.b,.v (.int .i64 v10.2.2.at_),.fl (.own 5) 1 (map (int .u8) v10.2.2.out),.v (.int .i64 v10.2.2.most),.v (.int .i64 v10.2.2.blocks)]]) hio rfl rfl (.tmp _ _ .nil) rfl rfl hargs0 rfl
        ·have h:=cond_f hb45 h
         refine ht_skip ?_
         refine pt_then (ht_seq ?_)
         obtain ⟨v12, hv12, h⟩:=zn h
         refine yx hn 2 ?_
         refine yq call77 (ok_grow_stream_literal _ _ _ hv12) 0 [46,47] 1 ?_
         refine yee [0,35,36,9,0] ?_
         refine yyy hn 2 [0,35,36,9,50,0] ?_
         refine ht_cond _ rfl (fun hb46 => ?_) (fun hb46 => ?_)
         ·have h:=cond_t hb46 h
          refine yyy hn 2 [0,2,0] ?_
          refine ht_ret ?_
          refine pt_pick [1,0,2] (by kernel_rfl) (es':=[(_,_),(_,_),(_,_)]) rfl ?_
          refine pt_r_in ?_
          refine pt_r_then ?_
          refine pt_r_then ?_
          refine pt_r_in ?_
          refine pt_r_then ?_
          have h:=hr40 _ (ho41 _ (zi h).symm).symm
          obtain rfl:=zi h
          exact pt_retP (es:=[(2, .v (.int .i64 v12.1))]) (posts:=[.box 59 [fb v12.2.b,.v (.int .i64 v12.2.at_),.fl (.own 5) 1 (map (int .u8) v12.2.out),.v (.int .i64 v12.2.most),.v (.int .i64 v12.2.blocks)]]) hio rfl rfl (.tmp _ _ .nil) rfl rfl hargs0 rfl
         ·have h:=cond_f hb46 h
          refine ht_skip ?_
          refine pt_inb ?_
          refine pt_then ?_
          obtain ⟨v14, hv14, h⟩:=zn h
          refine yx hn 0 ?_
          refine ys 0 ⟨lb hv14⟩ ?_
          refine yw [36] 1 ?_
          refine ye [0,35,36,0] ?_
          exact pt_next _ (zi h).symm rfl
       ·have h:=cond_f hb44 h
        refine ht_exit ?_
        refine pt_x_then ?_
        refine pt_x_then ?_
        refine pt_x_in ?_
        refine pt_pick [0,4] (by kernel_rfl) (es':=[(_,_),(_,_)]) rfl ?_
        exact hl39 _ (ho41 _ (zi h).symm).symm
theorem ok_canon_nth (lengths:(List Int)) (n:Int) (k:Int) (r:Int) (h:Sh.canon_nth lengths n k=some r):FnOK Tryd.prog 94 [.fl .shr 1 (map (int .i64) lengths), .v (.int .i64 n), .v (.int .i64 k)] (.v (.int .i64 r)):=by
  unfold Sh.canon_nth at h
  refine yO 25 func94 fun g0 hn hio => ?_
  refine yyy hn 1 [0,1,2] ?_
  refine ht_seq ?_
  refine yyy hn 3 [1,2,9,10,11] ?_
  refine ht_loopS h (fun ((s25,s26):Int×Int)=>[(1,vi n),(2,vi s25),(9,fi lengths),(10,vi (lengths.length:Int)),(11,vi s26)]) (fun (():Unit)=>[]) ?_ ?_
  ·rintro ⟨⟩ h
   refine pt_then ?_
   refine yyy hn 1 [6] ?_
   refine ht_ret ?_
   obtain rfl:=zi h
   exact pt_ret hio rfl (.tmp _ _ .nil) rfl rfl
  ·rintro u36 hl37 hr38 ⟨s25, s26⟩ rr41 h ho39
   refine yyy hn 1 [1,2,9,10,11,12] ?_
   refine ht_seq ?_
   refine ht_cond _ rfl (fun hb42 => ?_) (fun hb42 => ?_)
   ·have h:=cond_t hb42 h
    refine ht_skip ?_
    refine pt_then (ht_seq ?_)
    refine ht_joinS h (fun (s45:Int)=>[(1,vi n),(2,vi s45),(9,fi lengths),(10,vi (lengths.length:Int)),(11,vi s26)]) ?_ ?_
    ·rintro s45 h
     refine pt_then ?_
     obtain ⟨v13, hv13, h⟩:=zn h
     refine yx hn 0 ?_
     refine ys 0 ⟨lb hv13⟩ ?_
     refine yw [11] 1 ?_
     refine ye [1,2,9,10,11] ?_
     exact pt_next _ (zi h).symm rfl
    ·intro u46 h hl47 hr48
     refine ht_block ?_
     refine ht_seq ?_
     obtain ⟨v2, hv2, h⟩:=zn h
     obtain ⟨v3, hv3, h⟩:=zn h
     refine yx hn 1 ?_
     refine ys 0 ⟨li hv2⟩ ?_
     refine ys 2 ⟨ll hv3⟩ ?_
     refine yee [1,2,9,10,11,7,8] ?_
     refine ht_seq ?_
     refine yyy hn 3 [1,2,9,10,11,7,18] ?_
     refine ht_cond _ rfl (fun hb49 => ?_) (fun hb49 => ?_)
     ·have h:=cond_t hb49 h
      refine ht_exit ?_
      refine pt_x_then ?_
      refine pt_x_in ?_
      refine pt_pick [0,1,2,3,4] (by kernel_rfl) (es':=[(_,_),(_,_),(_,_),(_,_),(_,_)]) rfl ?_
      exact hl47 _ (zi h).symm
     ·have h:=cond_f hb49 h
      refine ht_skip ?_
      refine pt_then (ht_seq ?_)
      refine yyy hn 2 [1,2,9,10,11,7,20] ?_
      refine ht_cond _ rfl (fun hb50 => ?_) (fun hb50 => ?_)
      ·have h:=cond_t hb50 h
       refine yyy hn 2 [6] ?_
       refine ht_ret ?_
       refine pt_r_then ?_
       refine pt_r_in ?_
       refine pt_r_then ?_
       refine pt_r_then ?_
       refine pt_r_in ?_
       refine pt_r_then ?_
       have h:=hr48 _ (zi h).symm
       have h:=hr38 _ (ho39 _ (zi h).symm).symm
       obtain rfl:=zi h
       exact pt_ret hio rfl (.tmp _ _ .nil) rfl rfl
      ·have h:=cond_f hb50 h
       refine ht_skip ?_
       refine pt_then ?_
       obtain ⟨v6, hv6, h⟩:=zn h
       refine yx hn 1 ?_
       refine ys 0 ⟨lb hv6⟩ ?_
       refine yw [2] 1 ?_
       refine ye [1,9,10,11,2] ?_
       refine pt_inb ?_
       refine pt_pick [0,4,1,2,3] (by kernel_rfl) (es':=[(_,_),(_,_),(_,_),(_,_),(_,_)]) rfl ?_
       exact hl47 _ (zi h).symm
   ·have h:=cond_f hb42 h
    refine ht_exit ?_
    refine pt_x_then ?_
    refine pt_x_then ?_
    refine pt_x_in ?_
    refine pt_pick [] (by kernel_rfl) (es':=[]) rfl ?_
    exact hl37 _ (ho39 _ (zi h).symm).symm
theorem ok_canon_Read (lengths:(List Int)) (b:(List Int)) (at_:Int) (r:(Int×Int×Int)) (h:Sh.canon_Read lengths b at_=some r):FnOK Tryd.prog 87 [.fl .shr 1 (map (int .i64) lengths), .fl .shr 1 (map (int .u8) b), .v (.int .i64 at_)] (.tup [.v (.int .i64 r.1), .v (.int .i64 r.2.1), .v (.int .i64 r.2.2)]):=by
  unfold Sh.canon_Read at h
  refine yO 76 func87 fun g0 hn hio => ?_
  refine yyy hn 3 [0,1,2] ?_
  refine ht_seq ?_
  refine ht_seq ?_
  obtain ⟨v1, hv1, h⟩:=zn h
  refine yx hn 1 ?_
  refine ys 1 ⟨lk call66 (ok_canon_Check _ _ hv1)⟩ ?_
  refine yee [0,1,2,9] ?_
  refine yyy hn 2 [0,1,2,9,17] ?_
  refine ht_cond _ rfl (fun hb2 => ?_) (fun hb2 => ?_)
  ·have h:=cond_t hb2 h
   refine yyy hn 4 [6,7,8] ?_
   refine ht_ret ?_
   refine pt_r_then ?_
   obtain rfl:=zi h
   exact pt_ret hio rfl (.tmp _ _ (.tmp _ _ (.tmp _ _ .nil))) rfl rfl
  ·have h:=cond_f hb2 h
   refine ht_skip ?_
   refine pt_then (ht_seq ?_)
   refine ht_seq ?_
   refine ht_joinS h (fun (s4:Bool)=>[(0,fi lengths),(1,fb b),(2,vi at_),(27,vb s4)]) ?_ ?_
   ·rintro s4 h
    refine pt_then ?_
    refine ht_cond _ rfl (fun hb8 => ?_) (fun hb8 => ?_)
    ·have h:=cond_t hb8 h
     refine yyy hn 3 [6,7,8] ?_
     refine ht_ret ?_
     refine pt_r_then ?_
     obtain rfl:=zi h
     exact pt_ret hio rfl (.tmp _ _ (.tmp _ _ (.tmp _ _ .nil))) rfl rfl
    ·have h:=cond_f hb8 h
     refine ht_skip ?_
     refine pt_then (ht_seq ?_)
     obtain ⟨v9, hv9, h⟩:=zn h
     obtain ⟨v10, hv10, h⟩:=zn h
     obtain ⟨v11, hv11, h⟩:=zn h
     refine yx hn 1 ?_
     refine ys 0 ⟨lk call68 (ok_canon_count _ _ hv9)⟩ ?_
     refine yS (.arr 118 (map (int .i64) ((List.replicate 16 (0:Int))))) 0 ⟨oA (op_alloc_arr _ za118)⟩ ?_
     refine yk [10] [29] ?_
     refine yt (10,.arr 118 (map (int .i64) v9)) 0 ⟨op_storeA_arr _ _ _ _ (sz118.trans (congrArg some (ln_len hv11))) rfl rfl (ln_ones (fun _=>rfl) _) ((ln_len (f:=int .i64) hv10).symm.trans (ln_len (f:=int .i64) hv11))⟩ ?_
     refine yee [0,1,2,10] ?_
     refine ht_seq ?_
     obtain ⟨v12, hv12, h⟩:=zn h
     obtain ⟨v13, hv13, h⟩:=zn h
     obtain ⟨v14, hv14, h⟩:=zn h
     obtain ⟨v15, hv15, h⟩:=zn h
     refine yx hn 0 ?_
     refine yS (.v (.agg (map (int .i64) v9).toArray)) 0 ⟨op_loadA_arr _ _ _ _ underlying118 rfl (sz118.trans (congrArg some (ln_len hv12))) rfl rfl⟩ ?_
     refine ys 0 ⟨lk call67 (ok_canon_firsts _ _ hv13)⟩ ?_
     refine yS (.arr 118 (map (int .i64) ((List.replicate 16 (0:Int))))) 0 ⟨oA (op_alloc_arr _ za118)⟩ ?_
     refine yk [11] [31] ?_
     refine yt (11,.arr 118 (map (int .i64) v13)) 0 ⟨op_storeA_arr _ _ _ _ (sz118.trans (congrArg some (ln_len hv15))) rfl rfl (ln_ones (fun _=>rfl) _) ((ln_len (f:=int .i64) hv14).symm.trans (ln_len (f:=int .i64) hv15))⟩ ?_
     refine yee [0,1,2,10,11] ?_
     refine yyy hn 1 [0,1,2,10,11,12] ?_
     refine ht_seq ?_
     refine yyy hn 1 [0,1,2,10,11,12,13] ?_
     refine ht_loopS h (fun ((s52,s53,s54):Int×Int×Int)=>[(0,fi lengths),(1,fb b),(2,vi s52),(10,.arr 118 (map (int .i64) v9)),(11,.arr 118 (map (int .i64) v13)),(12,vi s53),(13,vi s54)]) (fun (():Unit)=>[]) ?_ ?_
     ·rintro ⟨⟩ h
      refine pt_then ?_
      refine yyy hn 3 [6,7,8] ?_
      refine ht_ret ?_
      obtain rfl:=zi h
      exact pt_ret hio rfl (.tmp _ _ (.tmp _ _ (.tmp _ _ .nil))) rfl rfl
     ·rintro u61 hl62 hr63 ⟨s52, s53, s54⟩ rr66 h ho64
      refine ht_seq ?_
      refine ht_seq ?_
      refine ht_joinS h (fun (s67:Bool)=>[(0,fi lengths),(1,fb b),(2,vi s52),(10,.arr 118 (map (int .i64) v9)),(11,.arr 118 (map (int .i64) v13)),(12,vi s53),(13,vi s54),(40,vb s67)]) ?_ ?_
      ·rintro s67 h
       refine pt_then ?_
       refine ht_cond _ rfl (fun hb71 => ?_) (fun hb71 => ?_)
       ·have h:=cond_t hb71 h
        refine ht_skip ?_
        refine pt_then (ht_seq ?_)
        refine ht_block ?_
        refine ht_seq ?_
        obtain ⟨v22, hv22, h⟩:=zn h
        obtain ⟨v23, hv23, h⟩:=zn h
        obtain ⟨v24, hv24, h⟩:=zn h
        obtain ⟨v25, hv25, h⟩:=zn h
        obtain ⟨v26, hv26, h⟩:=zn h
        obtain ⟨v27, hv27, h⟩:=zn h
        obtain ⟨v28, hv28, h⟩:=zn h
        obtain ⟨v29, hv29, h⟩:=zn h
        obtain ⟨v30, hv30, h⟩:=zn h
        refine yx hn 1 ?_
        refine ys 2 ⟨lB (shl_ok hv22)⟩ ?_
        refine ys 0 ⟨lB (quo_ok hv23)⟩ ?_
        refine ys 0 ⟨li hv24⟩ ?_
        refine ys 1 ⟨ll hv25⟩ ?_
        refine ys 0 ⟨lB (rem_ok hv26)⟩ ?_
        refine ys 0 ⟨lB (shr_ok hv27)⟩ ?_
        refine ys 0 ⟨lb hv28⟩ ?_
        refine ys 0 ⟨lv hv29⟩ ?_
        refine ys 0 ⟨lb hv30⟩ ?_
        refine yw [12] 1 ?_
        refine yee [0,1,2,10,11,13,12] ?_
        refine ht_seq ?_
        obtain ⟨v31, hv31, h⟩:=zn h
        refine yx hn 1 ?_
        refine ys 0 ⟨lb hv31⟩ ?_
        refine yw [2] 1 ?_
        refine yee [0,1,10,11,13,12,2] ?_
        refine ht_seq ?_
        obtain ⟨v32, hv32, h⟩:=zn h
        obtain ⟨v33, hv33, h⟩:=zn h
        obtain ⟨v34, hv34, h⟩:=zn h
        obtain ⟨v35, hv35, h⟩:=zn h
        obtain ⟨v36, hv36, h⟩:=zn h
        refine wb [[12],[13]] ?_
        refine wN [11,59] ?_
        refine wS (.ptr 11 v32) [] ⟨op_ix_arr _ _ _ _ 16 11 _ underlying118 sz3 rfl rfl (ix_ok hv32).1 (ix_ok hv32).2 (by decide)⟩ ?_
        refine wN [60,11] ?_
        refine wS (vi v33) [[13]] ⟨op_load_arr _ _ _ _ _ _ underlying3 rfl rfl rfl (map_get1 hv33)⟩ ?_
        refine wN [10,62] ?_
        refine wS (.ptr 10 v34) [] ⟨op_ix_arr _ _ _ _ 16 10 _ underlying118 sz3 rfl rfl (ix_ok hv34).1 (ix_ok hv34).2 (by decide)⟩ ?_
        refine wN [63,10] ?_
        refine wS (vi v35) [] ⟨op_load_arr _ _ _ _ _ _ underlying3 rfl rfl rfl (map_get1 hv35)⟩ ?_
        refine wN [61,64] ?_
        refine wo [[58,65]] ⟨lb hv36⟩ ?_
        refine wee hn [0,1,10,11,13,12,2,66] ?_
        refine ht_cond _ rfl (fun hb72 => ?_) (fun hb72 => ?_)
        ·have h:=cond_t hb72 h
         refine ht_seq ?_
         obtain ⟨v38, hv38, h⟩:=zn h
         obtain ⟨v39, hv39, h⟩:=zn h
         obtain ⟨v40, hv40, h⟩:=zn h
         obtain ⟨v41, hv41, h⟩:=zn h
         refine yx hn 4 ?_
         refine yS (.ptr 11 v38) 0 ⟨op_ix_arr _ _ _ _ 16 11 _ underlying118 sz3 rfl rfl (ix_ok hv38).1 (ix_ok hv38).2 (by decide)⟩ ?_
         refine yS (vi v39) 0 ⟨op_load_arr _ _ _ _ _ _ underlying3 rfl rfl rfl (map_get1 hv39)⟩ ?_
         refine ys 0 ⟨lb hv40⟩ ?_
         refine ys 4 ⟨lk call94 (ok_canon_nth _ _ _ _ hv41)⟩ ?_
         refine yee [6,7,8] ?_
         refine ht_ret ?_
         refine pt_r_in ?_
         refine pt_r_then ?_
         refine pt_r_then ?_
         refine pt_r_in ?_
         refine pt_r_then ?_
         have h:=hr63 _ (ho64 _ (zi h).symm).symm
         obtain rfl:=zi h
         exact pt_ret hio rfl (.tmp _ _ (.tmp _ _ (.tmp _ _ .nil))) rfl rfl
        ·have h:=cond_f hb72 h
         refine ht_skip ?_
         refine pt_inb ?_
         refine pt_then ?_
         obtain ⟨v42, hv42, h⟩:=zn h
         refine yx hn 1 ?_
         refine ys 0 ⟨lb hv42⟩ ?_
         refine yw [13] 1 ?_
         refine ye [0,1,10,11,12,2,13] ?_
         refine pt_pick [0,1,5,2,3,4,6] (by kernel_rfl) (es':=[(_,_),(_,_),(_,_),(_,_),(_,_),(_,_),(_,_)]) rfl ?_
         exact pt_next _ (zi h).symm rfl
       ·have h:=cond_f hb71 h
        refine ht_exit ?_
        refine pt_x_then ?_
        refine pt_x_then ?_
        refine pt_x_in ?_
        refine pt_pick [] (by kernel_rfl) (es':=[]) rfl ?_
        exact hl62 _ (ho64 _ (zi h).symm).symm
      ·intro u68 h hl69 hr70
       refine cond_some h (fun hg10_2 h => ?_) (fun hg10_2 h => ?_)
       ·obtain ⟨v16, hv16, h⟩:=zn h
        refine yx hn 3 ?_
        refine yd hg10_2 3 ?_
        refine ys 2 ⟨lb hv16⟩ ?_
        refine ye [0,1,2,10,11,12,13,40] ?_
        exact hl69 _ (zi h).symm
       ·refine yx hn 3 ?_
        refine yd hg10_2 6 ?_
        refine ye [0,1,2,10,11,12,13,40] ?_
        exact hl69 _ (zi h).symm
   ·intro u5 h hl6 hr7
    refine cond_some h (fun hg4_2 h => ?_) (fun hg4_2 h => ?_)
    ·refine yx hn 3 ?_
     refine yd hg4_2 6 ?_
     refine ye [0,1,2,27] ?_
     exact hl6 _ (zi h).symm
    ·obtain ⟨v3, hv3, h⟩:=zn h
     refine yx hn 3 ?_
     refine yd hg4_2 3 ?_
     refine ys 2 ⟨lb hv3⟩ ?_
     refine ye [0,1,2,27] ?_
     exact hl6 _ (zi h).symm
theorem ok_grow_stream_symbol (s:T_grow_stream) (lengths:(List Int)) (r:(Int×Int×T_grow_stream)) (h:Sh.grow_stream_symbol s lengths=some r):FnP Tryd.prog 78 [.box 59 [.fl .shr 1 (map (int .u8) s.b), .v (.int .i64 s.at_), .fl (.own 5) 1 (map (int .u8) s.out), .v (.int .i64 s.most), .v (.int .i64 s.blocks)], .fl .shr 1 (map (int .i64) lengths)] [.box 59 [.fl .shr 1 (map (int .u8) r.2.2.b), .v (.int .i64 r.2.2.at_), .fl (.own 5) 1 (map (int .u8) r.2.2.out), .v (.int .i64 r.2.2.most), .v (.int .i64 r.2.2.blocks)]] (.tup [.v (.int .i64 r.1), .v (.int .i64 r.2.1)]):=by
  unfold Sh.grow_stream_symbol at h
  refine yP 31 func78 fun args0 hargs0 g0 hn hio => ?_
  refine yyy hn 2 [0,1,0] ?_
  refine ht_seq ?_
  obtain ⟨v1, hv1, h⟩:=zn h
  refine wb [[1],[],[11,0],[12,0],[13,0],[],[15,0],[16,0],[17,0]] ?_
  refine wN [10,14,18] ?_
  refine wo [] ⟨lk call87 (ok_canon_Read _ _ _ _ hv1)⟩ ?_
  refine wK [19] [] ?_
  refine wt [(9,.tup [vi v1.1,vi v1.2.1,vi v1.2.2])] [[9],[9],[9],[20],[21],[22]] ⟨op_move_take _ _ _ _ rfl⟩ ?_
  refine wee hn [0,6,7,8,0] ?_
  refine ht_seq ?_
  refine yyy hn 2 [0,6,7,8,24,0] ?_
  refine ht_cond _ rfl (fun hb2 => ?_) (fun hb2 => ?_)
  ·have h:=cond_t hb2 h
   refine yyy hn 3 [0,4,5,0] ?_
   refine ht_ret ?_
   refine pt_pick [1,2,0,3] (by kernel_rfl) (es':=[(_,_),(_,_),(_,_),(_,_)]) rfl ?_
   refine pt_r_then ?_
   obtain rfl:=zi h
   exact pt_retP (es:=[(4, .v (.int .i64 0)), (5, .v (.int .i64 v1.2.2))]) (posts:=[.box 59 [fb s.b,.v (.int .i64 s.at_),.fl (.own 5) 1 (map (int .u8) s.out),.v (.int .i64 s.most),.v (.int .i64 s.blocks)]]) hio rfl rfl (.tmp _ _ (.tmp _ _ .nil)) rfl rfl hargs0 rfl
  ·have h:=cond_f hb2 h
   refine ht_skip ?_
   refine pt_then ?_
   refine yyy hn 5 [0,6,0] ?_
   refine yyy hn 3 [0,4,5,0] ?_
   refine ht_ret ?_
   refine pt_pick [1,2,0,3] (by kernel_rfl) (es':=[(_,_),(_,_),(_,_),(_,_)]) rfl ?_
   obtain rfl:=zi h
   exact pt_retP (es:=[(4, .v (.int .i64 v1.1)), (5, .v (.int .i64 0))]) (posts:=[.box 59 [fb s.b,.v (.int .i64 v1.2.1),.fl (.own 5) 1 (map (int .u8) s.out),.v (.int .i64 s.most),.v (.int .i64 s.blocks)]]) hio rfl rfl (.tmp _ _ (.tmp _ _ .nil)) rfl rfl hargs0 rfl
theorem ok_sym_LenOf (sym:Int) (r:(Int×Int×Int)) (h:Sh.sym_LenOf sym=some r):FnOK Tryd.prog 88 [.v (.int .i64 sym)] (.tup [.v (.int .i64 r.1), .v (.int .i64 r.2.1), .v (.int .i64 r.2.2)]):=by
  unfold Sh.sym_LenOf at h
  refine yO 22 func88 fun g0 hn hio => ?_
  refine yyy hn 3 [0] ?_
  refine ht_seq ?_
  refine ht_seq ?_
  refine ht_joinS h (fun (s1:Bool)=>[(0,vi sym),(10,vb s1)]) ?_ ?_
  ·rintro s1 h
   refine pt_then ?_
   refine ht_cond _ rfl (fun hb5 => ?_) (fun hb5 => ?_)
   ·have h:=cond_t hb5 h
    refine yyy hn 3 [2,3,4] ?_
    refine ht_ret ?_
    refine pt_r_then ?_
    obtain rfl:=zi h
    exact pt_ret hio rfl (.tmp _ _ (.tmp _ _ (.tmp _ _ .nil))) rfl rfl
   ·have h:=cond_f hb5 h
    refine ht_skip ?_
    refine pt_then (ht_seq ?_)
    refine yyy hn 2 [0,12] ?_
    refine ht_cond _ rfl (fun hb6 => ?_) (fun hb6 => ?_)
    ·have h:=cond_t hb6 h
     refine yyy hn 3 [2,3,4] ?_
     refine ht_ret ?_
     refine pt_r_then ?_
     obtain rfl:=zi h
     exact pt_ret hio rfl (.tmp _ _ (.tmp _ _ (.tmp _ _ .nil))) rfl rfl
    ·have h:=cond_f hb6 h
     refine ht_skip ?_
     refine pt_then (ht_seq ?_)
     obtain ⟨v7, hv7, h⟩:=zn h
     obtain ⟨v8, hv8, h⟩:=zn h
     obtain ⟨v9, hv9, h⟩:=zn h
     refine yx hn 0 ?_
     refine ys 1 ⟨lk call63 (ok_sym_lens _ hv7)⟩ ?_
     refine ys 0 ⟨lb hv8⟩ ?_
     refine ys 0 ⟨lk call82 (ok_sym_scale_symbol _ _ _ hv9)⟩ ?_
     refine ym 4 ?_
     refine yee [2,3] ?_
     refine yxx hn 2 ?_
     refine yw [2] 1 ?_
     refine yw [3] 2 ?_
     refine yee [2,3,4] ?_
     refine ht_ret ?_
     obtain rfl:=zi h
     exact pt_ret hio rfl (.tmp _ _ (.tmp _ _ (.tmp _ _ .nil))) rfl rfl
  ·intro u2 h hl3 hr4
   refine cond_some h (fun hg1_2 h => ?_) (fun hg1_2 h => ?_)
   ·refine yx hn 3 ?_
    refine yd hg1_2 3 ?_
    refine ye [0,10] ?_
    exact hl3 _ (zi h).symm
   ·refine yx hn 3 ?_
    refine yd hg1_2 3 ?_
    refine ye [0,10] ?_
    exact hl3 _ (zi h).symm
theorem ok_sym_DistOf (sym:Int) (r:(Int×Int×Int)) (h:Sh.sym_DistOf sym=some r):FnOK Tryd.prog 89 [.v (.int .i64 sym)] (.tup [.v (.int .i64 r.1), .v (.int .i64 r.2.1), .v (.int .i64 r.2.2)]):=by
  unfold Sh.sym_DistOf at h
  refine yO 19 func89 fun g0 hn hio => ?_
  refine yyy hn 3 [0] ?_
  refine ht_seq ?_
  refine ht_seq ?_
  refine ht_joinS h (fun (s1:Bool)=>[(0,vi sym),(10,vb s1)]) ?_ ?_
  ·rintro s1 h
   refine pt_then ?_
   refine ht_cond _ rfl (fun hb5 => ?_) (fun hb5 => ?_)
   ·have h:=cond_t hb5 h
    refine yyy hn 3 [2,3,4] ?_
    refine ht_ret ?_
    refine pt_r_then ?_
    obtain rfl:=zi h
    exact pt_ret hio rfl (.tmp _ _ (.tmp _ _ (.tmp _ _ .nil))) rfl rfl
   ·have h:=cond_f hb5 h
    refine ht_skip ?_
    refine pt_then (ht_seq ?_)
    obtain ⟨v6, hv6, h⟩:=zn h
    obtain ⟨v7, hv7, h⟩:=zn h
    refine yx hn 0 ?_
    refine ys 1 ⟨lk call65 (ok_sym_dists _ hv6)⟩ ?_
    refine ys 0 ⟨lk call82 (ok_sym_scale_symbol _ _ _ hv7)⟩ ?_
    refine ym 4 ?_
    refine yee [2,3] ?_
    refine yxx hn 2 ?_
    refine yw [2] 1 ?_
    refine yw [3] 2 ?_
    refine yee [2,3,4] ?_
    refine ht_ret ?_
    obtain rfl:=zi h
    exact pt_ret hio rfl (.tmp _ _ (.tmp _ _ (.tmp _ _ .nil))) rfl rfl
  ·intro u2 h hl3 hr4
   refine cond_some h (fun hg1_2 h => ?_) (fun hg1_2 h => ?_)
   ·refine yx hn 3 ?_
    refine yd hg1_2 3 ?_
    refine ye [0,10] ?_
    exact hl3 _ (zi h).symm
   ·refine yx hn 3 ?_
    refine yd hg1_2 3 ?_
    refine ye [0,10] ?_
    exact hl3 _ (zi h).symm
theorem ok_grow_stream_repeat (s:T_grow_stream) (n:Int) (dist:Int) (r:(Int×T_grow_stream)) (h:Sh.grow_stream_repeat s n dist=some r):FnP Tryd.prog 90 [.box 59 [.fl .shr 1 (map (int .u8) s.b), .v (.int .i64 s.at_), .fl (.own 5) 1 (map (int .u8) s.out), .v (.int .i64 s.most), .v (.int .i64 s.blocks)], .v (.int .i64 n), .v (.int .i64 dist)] [.box 59 [.fl .shr 1 (map (int .u8) r.2.b), .v (.int .i64 r.2.at_), .fl (.own 5) 1 (map (int .u8) r.2.out), .v (.int .i64 r.2.most), .v (.int .i64 r.2.blocks)]] (.v (.int .i64 r.1)):=by
  unfold Sh.grow_stream_repeat at h
  refine yP 52 func90 fun args0 hargs0 g0 hn hio => ?_
  refine yyy hn 1 [0,1,2,0] ?_
  refine ht_seq ?_
  refine yyy hn 7 [0,1,2,13,0] ?_
  refine ht_cond _ rfl (fun hb1 => ?_) (fun hb1 => ?_)
  ·have h:=cond_t hb1 h
   refine yyy hn 1 [0,6,0] ?_
   refine ht_ret ?_
   refine pt_pick [1,0,2] (by kernel_rfl) (es':=[(_,_),(_,_),(_,_)]) rfl ?_
   refine pt_r_then ?_
   obtain rfl:=zi h
   exact pt_retP (es:=[(6, .v (.int .i64 3))]) (posts:=[.box 59 [fb s.b,.v (.int .i64 s.at_),.fl (.own 5) 1 (map (int .u8) s.out),.v (.int .i64 s.most),.v (.int .i64 s.blocks)]]) hio rfl rfl (.tmp _ _ .nil) rfl rfl hargs0 rfl
  ·have h:=cond_f hb1 h
   refine ht_skip ?_
   refine pt_then (ht_seq ?_)
   refine ht_seq ?_
   obtain ⟨v2, hv2, h⟩:=zn h
   refine wb [[],[14,0],[15,0],[16,0],[17,0],[1]] ?_
   refine wN [18,19] ?_
   refine wo [[],[21,0],[22,0],[23,0],[20,24]] ⟨lb hv2⟩ ?_
   refine wee hn [0,1,2,25,0] ?_
   refine ht_cond _ rfl (fun hb3 => ?_) (fun hb3 => ?_)
   ·have h:=cond_t hb3 h
    refine yyy hn 1 [0,6,0] ?_
    refine ht_ret ?_
    refine pt_pick [1,0,2] (by kernel_rfl) (es':=[(_,_),(_,_),(_,_)]) rfl ?_
    refine pt_r_then ?_
    obtain rfl:=zi h
    exact pt_retP (es:=[(6, .v (.int .i64 2))]) (posts:=[.box 59 [fb s.b,.v (.int .i64 s.at_),.fl (.own 5) 1 (map (int .u8) s.out),.v (.int .i64 s.most),.v (.int .i64 s.blocks)]]) hio rfl rfl (.tmp _ _ .nil) rfl rfl hargs0 rfl
   ·have h:=cond_f hb3 h
    refine ht_skip ?_
    refine pt_then (ht_seq ?_)
    refine yyy hn 2 [0,2,26,27,0] ?_
    refine ht_loopS h (fun ((s13,s14):(List Int)×Int)=>[(0,.box 59 [fb s.b,vi s.at_,.fl (.own 5) 1 (map (int .u8) s13),vi s.most,vi s.blocks]),(2,vi dist),(26,vi n),(27,vi s14),(0,.v (List.getD args0 0 undef))]) (fun (s16:(List Int))=>[(0,.box 59 [fb s.b,vi s.at_,.fl (.own 5) 1 (map (int .u8) s16),vi s.most,vi s.blocks]),(0,.v (List.getD args0 0 undef))]) ?_ ?_
    ·rintro s16 h
     refine pt_then ?_
     refine yyy hn 1 [0,6,0] ?_
     refine ht_ret ?_
     refine pt_pick [1,0,2] (by kernel_rfl) (es':=[(_,_),(_,_),(_,_)]) rfl ?_
     obtain rfl:=zi h
     exact pt_retP (es:=[(6, .v (.int .i64 0))]) (posts:=[.box 59 [fb s.b,.v (.int .i64 s.at_),.fl (.own 5) 1 (map (int .u8) s16),.v (.int .i64 s.most),.v (.int .i64 s.blocks)]]) hio rfl rfl (.tmp _ _ .nil) rfl rfl hargs0 rfl
    ·rintro u17 hl18 hr19 ⟨s13, s14⟩ rr22 h ho20
     refine yyy hn 1 [0,2,26,27,28,0] ?_
     refine ht_seq ?_
     refine ht_cond _ rfl (fun hb23 => ?_) (fun hb23 => ?_)
     ·have h:=cond_t hb23 h
      refine ht_skip ?_
      refine pt_then (ht_seq ?_)
      refine ht_block ?_
      obtain ⟨v5, hv5, h⟩:=zn h
      obtain ⟨v6, hv6, h⟩:=zn h
      obtain ⟨v7, hv7, h⟩:=zn h
      obtain ⟨v8, hv8, h⟩:=zn h
      refine wb [[],[],[30,0],[31,0],[32,0],[],[34,0],[35,0],[36,0],[],[38,0],[39,0],[40,0],[41,0],[2]] ?_
      refine wN [42,43] ?_
      refine wo [] ⟨lb hv5⟩ ?_
      refine wN [37,0,44] ?_
      refine wo [] ⟨li hv6⟩ ?_
      refine wN [45,0] ?_
      refine wo [] ⟨ll hv7⟩ ?_
      refine wN [46] ?_
      refine wS (.fl (.own 5) 1 (map (int .u8) [v7])) [] ⟨op_buildSlice _ _ 1 (.int .u8 0) (map (int .u8) [v7]) [(0,.int .u8 v7)] underlying22 sz5 zr5 (fun _ V w o a hv hes=>by have e0:=rd_v hv hes (x := .tmp 46) rfl; simp only [List.map_toArray,List.map_cons,List.map_nil,e0]; try rfl) (litfill (by simp [Instr.fill,Value.cells]; rfl) (by simp [List.range,List.range.loop] <;> rfl)) (by simp [Value.oneCell']) rfl (by decide) (by decide) (by decide)⟩ ?_
      refine wK [0] [33,47] ?_
      refine wt [(0,.box 59 [fb s.b,vi s.at_,.any,vi s.most,vi s.blocks]),(48,.fl (.own 5) 1 (map (int .u8) v8))] [[29,0],[49,0]] ⟨op_app_cell _ _ _ _ _ _ el22 rfl rfl (zl rfl) rfl (map_len _) (map_len _) hv8 ((List.map_append).symm.trans (congrArg (map _) (app_eq hv8))) (Nat.ne_of_beq_eq_false rfl) rfl rfl⟩ ?_
      refine wK [33,37,41,45,48,0] [50] ?_
      refine wt [(0,.box 59 [fb s.b,vi s.at_,.fl (.own 5) 1 (map (int .u8) v8),vi s.most,vi s.blocks])] [] ⟨LOp.drop [_] (LOp.drop [_] (LOp.drop [_] (LOp.drop [_] (op_store_take _ _ _ _ _ _ _ _ sz22 rfl rfl rfl (zl rfl) rfl rfl))))⟩ ?_
      refine we hn [0,2,26,27,0] ?_
      refine pt_inb ?_
      refine pt_then ?_
      obtain ⟨v9, hv9, h⟩:=zn h
      refine yx hn 0 ?_
      refine ys 0 ⟨lb hv9⟩ ?_
      refine yw [27] 1 ?_
      refine ye [0,2,26,27,0] ?_
      exact pt_next _ (zi h).symm rfl
     ·have h:=cond_f hb23 h
      refine ht_exit ?_
      refine pt_x_then ?_
      refine pt_x_then ?_
      refine pt_x_in ?_
      refine pt_pick [0,5] (by kernel_rfl) (es':=[(_,_),(_,_)]) rfl ?_
      exact hl18 _ (ho20 _ (zi h).symm).symm
theorem ok_grow_stream_match (s:T_grow_stream) (x:Int) (dists:(List Int)) (r:(Int×T_grow_stream)) (h:Sh.grow_stream_match s x dists=some r):FnP Tryd.prog 79 [.box 59 [.fl .shr 1 (map (int .u8) s.b), .v (.int .i64 s.at_), .fl (.own 5) 1 (map (int .u8) s.out), .v (.int .i64 s.most), .v (.int .i64 s.blocks)], .v (.int .i64 x), .fl .shr 1 (map (int .i64) dists)] [.box 59 [.fl .shr 1 (map (int .u8) r.2.b), .v (.int .i64 r.2.at_), .fl (.own 5) 1 (map (int .u8) r.2.out), .v (.int .i64 r.2.most), .v (.int .i64 r.2.blocks)]] (.v (.int .i64 r.1)):=by
  unfold Sh.grow_stream_match at h
  refine yP 65 func79 fun args0 hargs0 g0 hn hio => ?_
  refine yyy hn 1 [0,1,2,0] ?_
  refine ht_seq ?_
  refine yyy hn 2 [0,1,2,14,0] ?_
  refine ht_cond _ rfl (fun hb1 => ?_) (fun hb1 => ?_)
  ·have h:=cond_t hb1 h
   refine yyy hn 1 [0,6,0] ?_
   refine ht_ret ?_
   refine pt_pick [1,0,2] (by kernel_rfl) (es':=[(_,_),(_,_),(_,_)]) rfl ?_
   refine pt_r_then ?_
   obtain rfl:=zi h
   exact pt_retP (es:=[(6, .v (.int .i64 3))]) (posts:=[.box 59 [fb s.b,.v (.int .i64 s.at_),.fl (.own 5) 1 (map (int .u8) s.out),.v (.int .i64 s.most),.v (.int .i64 s.blocks)]]) hio rfl rfl (.tmp _ _ .nil) rfl rfl hargs0 rfl
  ·have h:=cond_f hb1 h
   refine ht_skip ?_
   refine pt_then (ht_seq ?_)
   obtain ⟨v2, hv2, h⟩:=zn h
   refine yx hn 1 ?_
   refine ys 0 ⟨lk call88 (ok_sym_LenOf _ _ hv2)⟩ ?_
   refine ym 6 ?_
   refine yee [0,2,7,8,0] ?_
   refine ht_seq ?_
   obtain ⟨v3, hv3, h⟩:=zn h
   refine yx hn 2 ?_
   refine yq call58 (ok_grow_stream_number _ _ _ hv3) 0 [22,23] 0 ?_
   refine ym 4 ?_
   refine yee [0,2,7,10,11,0] ?_
   refine ht_seq ?_
   refine yyy hn 2 [0,2,7,10,11,28,0] ?_
   refine ht_cond _ rfl (fun hb4 => ?_) (fun hb4 => ?_)
   ·have h:=cond_t hb4 h
    refine yyy hn 2 [0,6,0] ?_
    refine ht_ret ?_
    refine pt_pick [1,0,2] (by kernel_rfl) (es':=[(_,_),(_,_),(_,_)]) rfl ?_
    refine pt_r_then ?_
    obtain rfl:=zi h
    exact pt_retP (es:=[(6, .v (.int .i64 v3.2.1))]) (posts:=[.box 59 [fb v3.2.2.b,.v (.int .i64 v3.2.2.at_),.fl (.own 5) 1 (map (int .u8) v3.2.2.out),.v (.int .i64 v3.2.2.most),.v (.int .i64 v3.2.2.blocks)]]) hio rfl rfl (.tmp _ _ .nil) rfl rfl hargs0 rfl
   ·have h:=cond_f hb4 h
    refine ht_skip ?_
    refine pt_then (ht_seq ?_)
    obtain ⟨v5, hv5, h⟩:=zn h
    refine yx hn 2 ?_
    refine ys 1 ⟨lb hv5⟩ ?_
    refine yee [0,2,12,0] ?_
    refine ht_seq ?_
    refine ht_seq ?_
    obtain ⟨v6, hv6, h⟩:=zn h
    refine yx hn 2 ?_
    refine yq call78 (ok_grow_stream_symbol _ _ _ hv6) 0 [34,35] 0 ?_
    refine ym 4 ?_
    refine yee [0,12,1,11,0] ?_
    refine yyy hn 2 [0,12,1,11,40,0] ?_
    refine ht_cond _ rfl (fun hb7 => ?_) (fun hb7 => ?_)
    ·have h:=cond_t hb7 h
     refine yyy hn 2 [0,6,0] ?_
     refine ht_ret ?_
     refine pt_pick [1,0,2] (by kernel_rfl) (es':=[(_,_),(_,_),(_,_)]) rfl ?_
     refine pt_r_then ?_
     obtain rfl:=zi h
     exact pt_retP (es:=[(6, .v (.int .i64 v6.2.1))]) (posts:=[.box 59 [fb v6.2.2.b,.v (.int .i64 v6.2.2.at_),.fl (.own 5) 1 (map (int .u8) v6.2.2.out),.v (.int .i64 v6.2.2.most),.v (.int .i64 v6.2.2.blocks)]]) hio rfl rfl (.tmp _ _ .nil) rfl rfl hargs0 rfl
    ·have h:=cond_f hb7 h
     refine ht_skip ?_
     refine pt_then (ht_seq ?_)
     obtain ⟨v8, hv8, h⟩:=zn h
     refine yx hn 1 ?_
     refine ys 0 ⟨lk call89 (ok_sym_DistOf _ _ hv8)⟩ ?_
     refine ym 5 ?_
     refine yw [11] 1 ?_
     refine yee [0,12,7,8,11,0] ?_
     refine ht_seq ?_
     refine yyy hn 2 [0,12,7,8,49,0] ?_
     refine ht_cond _ rfl (fun hb9 => ?_) (fun hb9 => ?_)
     ·have h:=cond_t hb9 h
      refine yyy hn 1 [0,6,0] ?_
      refine ht_ret ?_
      refine pt_pick [1,0,2] (by kernel_rfl) (es':=[(_,_),(_,_),(_,_)]) rfl ?_
      refine pt_r_then ?_
      obtain rfl:=zi h
      exact pt_retP (es:=[(6, .v (.int .i64 3))]) (posts:=[.box 59 [fb v6.2.2.b,.v (.int .i64 v6.2.2.at_),.fl (.own 5) 1 (map (int .u8) v6.2.2.out),.v (.int .i64 v6.2.2.most),.v (.int .i64 v6.2.2.blocks)]]) hio rfl rfl (.tmp _ _ .nil) rfl rfl hargs0 rfl
     ·have h:=cond_f hb9 h
      refine ht_skip ?_
      refine pt_then (ht_seq ?_)
      refine ht_seq ?_
      obtain ⟨v10, hv10, h⟩:=zn h
      refine yx hn 2 ?_
      refine yq call58 (ok_grow_stream_number _ _ _ hv10) 0 [51,52] 0 ?_
      refine ym 4 ?_
      refine yee [0,12,7,10,11,0] ?_
      refine yyy hn 2 [0,12,7,10,11,57,0] ?_
      refine ht_cond _ rfl (fun hb11 => ?_) (fun hb11 => ?_)
      ·have h:=cond_t hb11 h
       refine yyy hn 2 [0,6,0] ?_
       refine ht_ret ?_
       refine pt_pick [1,0,2] (by kernel_rfl) (es':=[(_,_),(_,_),(_,_)]) rfl ?_
       refine pt_r_then ?_
       obtain rfl:=zi h
       exact pt_retP (es:=[(6, .v (.int .i64 v10.2.1))]) (posts:=[.box 59 [fb v10.2.2.b,.v (.int .i64 v10.2.2.at_),.fl (.own 5) 1 (map (int .u8) v10.2.2.out),.v (.int .i64 v10.2.2.most),.v (.int .i64 v10.2.2.blocks)]]) hio rfl rfl (.tmp _ _ .nil) rfl rfl hargs0 rfl
      ·have h:=cond_f hb11 h
       refine ht_skip ?_
       refine pt_then (ht_seq ?_)
       obtain ⟨v12, hv12, h⟩:=zn h
       obtain ⟨v13, hv13, h⟩:=zn h
       refine yx hn 4 ?_
       refine ys 0 ⟨lb hv12⟩ ?_
       refine yq call90 (ok_grow_stream_repeat _ _ _ _ hv13) 0 [59,60,63] 1 ?_
       refine yee [0,6,0] ?_
       refine ht_ret ?_
       refine pt_pick [1,0,2] (by kernel_rfl) (es':=[(_,_),(_,_),(_,_)]) rfl ?_
       obtain rfl:=zi h
       exact pt_retP (es:=[(6, .v (.int .i64 v13.1))]) (posts:=[.box 59 [fb v13.2.b,.v (.int .i64 v13.2.at_),.fl (.own 5) 1 (map (int .u8) v13.2.out),.v (.int .i64 v13.2.most),.v (.int .i64 v13.2.blocks)]]) hio rfl rfl (.tmp _ _ .nil) rfl rfl hargs0 rfl
theorem ok_grow_stream_tokens (s:T_grow_stream) (lits:(List Int)) (dists:(List Int)) (r:(Int×T_grow_stream)) (h:Sh.grow_stream_tokens s lits dists=some r):FnP Tryd.prog 60 [.box 59 [.fl .shr 1 (map (int .u8) s.b), .v (.int .i64 s.at_), .fl (.own 5) 1 (map (int .u8) s.out), .v (.int .i64 s.most), .v (.int .i64 s.blocks)], .fl .shr 1 (map (int .i64) lits), .fl .shr 1 (map (int .i64) dists)] [.box 59 [.fl .shr 1 (map (int .u8) r.2.b), .v (.int .i64 r.2.at_), .fl (.own 5) 1 (map (int .u8) r.2.out), .v (.int .i64 r.2.most), .v (.int .i64 r.2.blocks)]] (.v (.int .i64 r.1)):=by
  unfold Sh.grow_stream_tokens at h
  refine yP 34 func60 fun args0 hargs0 g0 hn hio => ?_
  refine yyy hn 1 [0,1,2,0] ?_
  refine ht_loopS h (fun ((s39,s40,s41,s42,s43):(List Int)×Int×(List Int)×Int×Int)=>[(0,.box 59 [fb s39,vi s40,.fl (.own 5) 1 (map (int .u8) s41),vi s42,vi s43]),(1,fi lits),(2,fi dists),(0,.v (List.getD args0 0 undef))]) (fun (():Unit)=>[]) ?_ ?_
  ·rintro ⟨⟩ h
   cases h
  ·rintro u59 hl60 hr61 ⟨s39, s40, s41, s42, s43⟩ rr64 h ho62
   refine ht_block ?_
   refine ht_seq ?_
   obtain ⟨v1, hv1, h⟩:=zn h
   refine yx hn 2 ?_
   refine yq call78 (ok_grow_stream_symbol _ _ _ hv1) 0 [10,11] 0 ?_
   refine ym 4 ?_
   refine yee [0,1,2,7,8,0] ?_
   refine ht_seq ?_
   refine yyy hn 2 [0,1,2,7,8,16,0] ?_
   refine ht_cond _ rfl (fun hb65 => ?_) (fun hb65 => ?_)
   ·have h:=cond_t hb65 h
    refine yyy hn 2 [0,6,0] ?_
    refine ht_ret ?_
    refine pt_pick [1,0,2] (by kernel_rfl) (es':=[(_,_),(_,_),(_,_)]) rfl ?_
    refine pt_r_then ?_
    refine pt_r_in ?_
    refine pt_r_then ?_
    refine pt_r_in ?_
    have h:=hr61 _ (ho62 _ (zi h).symm).symm
    obtain rfl:=zi h
    exact pt_retP (es:=[(6, .v (.int .i64 v1.2.1))]) (posts:=[.box 59 [fb v1.2.2.b,.v (.int .i64 v1.2.2.at_),.fl (.own 5) 1 (map (int .u8) v1.2.2.out),.v (.int .i64 v1.2.2.most),.v (.int .i64 v1.2.2.blocks)]]) hio rfl rfl (.tmp _ _ .nil) rfl rfl hargs0 rfl
   ·have h:=cond_f hb65 h
    refine ht_skip ?_
    refine pt_then (ht_seq ?_)
    refine ht_joinS h (fun ((s68,s69,s70,s71,s72,s73):(List Int)×Int×(List Int)×Int×Int×Int)=>[(0,.box 59 [fb s68,vi s69,.fl (.own 5) 1 (map (int .u8) s70),vi s71,vi s72]),(1,fi lits),(2,fi dists),(8,vi s73),(0,.v (List.getD args0 0 undef))]) ?_ ?_
    ·rintro ⟨s68, s69, s70, s71, s72, s73⟩ h
     refine pt_then ?_
     refine yyy hn 2 [0,1,2,8,32,0] ?_
     refine ht_cond _ rfl (fun hb79 => ?_) (fun hb79 => ?_)
     ·have h:=cond_t hb79 h
      refine yyy hn 2 [0,6,0] ?_
      refine ht_ret ?_
      refine pt_pick [1,0,2] (by kernel_rfl) (es':=[(_,_),(_,_),(_,_)]) rfl ?_
      refine pt_r_in ?_
      refine pt_r_then ?_
      refine pt_r_in ?_
      have h:=hr61 _ (ho62 _ (zi h).symm).symm
      obtain rfl:=zi h
      exact pt_retP (es:=[(6, .v (.int .i64 s73))]) (posts:=[.box 59 [fb s68,.v (.int .i64 s69),.fl (.own 5) 1 (map (int .u8) s70),.v (.int .i64 s71),.v (.int .i64 s72)]]) hio rfl rfl (.tmp _ _ .nil) rfl rfl hargs0 rfl
     ·have h:=cond_f hb79 h
      refine ht_skip ?_
      refine pt_inb ?_
      refine pt_pick [0,1,2,5] (by kernel_rfl) (es':=[(_,_),(_,_),(_,_),(_,_)]) rfl ?_
      exact pt_next _ (zi h).symm rfl
    ·intro u74 h hl75 hr76
     refine ht_block ?_
     refine yyy hn 3 [0,1,2,7,22,0] ?_
     refine ht_cond _ rfl (fun hb77 => ?_) (fun hb77 => ?_)
     ·have h:=cond_t hb77 h
      refine yyy hn 1 [0,6,0] ?_
      refine ht_ret ?_
      refine pt_pick [1,0,2] (by kernel_rfl) (es':=[(_,_),(_,_),(_,_)]) rfl ?_
      refine pt_r_in ?_
      refine pt_r_then ?_
      refine pt_r_in ?_
      refine pt_r_then ?_
      refine pt_r_in ?_
      have h:=hr76 _ (zi h).symm
      have h:=hr61 _ (ho62 _ (zi h).symm).symm
      obtain rfl:=zi h
      exact pt_retP (es:=[(6, .v (.int .i64 0))]) (posts:=[.box 59 [fb v1.2.2.b,.v (.int .i64 v1.2.2.at_),.fl (.own 5) 1 (map (int .u8) v1.2.2.out),.v (.int .i64 v1.2.2.most),.v (.int .i64 v1.2.2.blocks)]]) hio rfl rfl (.tmp _ _ .nil) rfl rfl hargs0 rfl
     ·have h:=cond_f hb77 h
      refine yyy hn 3 [0,1,2,7,25,0] ?_
      refine ht_cond _ rfl (fun hb78 => ?_) (fun hb78 => ?_)
      ·have h:=cond_t hb78 h
       obtain ⟨v5, hv5, h⟩:=zn h
       refine yx hn 2 ?_
       refine yq call77 (ok_grow_stream_literal _ _ _ hv5) 0 [28,29] 1 ?_
       refine ye [0,1,2,8,0] ?_
       refine pt_inb ?_
       exact hl75 _ (zi h).symm
      ·have h:=cond_f hb78 h
       obtain ⟨v6, hv6, h⟩:=zn h
       refine yx hn 3 ?_
       refine yq call79 (ok_grow_stream_match _ _ _ _ hv6) 0 [18,19,20] 1 ?_
       refine ye [0,1,2,8,0] ?_
       refine pt_inb ?_
       exact hl75 _ (zi h).symm
theorem ok_grow_stream_rowLengths (mx:Int) (s:T_grow_stream) (r:((List Int)×Int×T_grow_stream)) (h:Sh.grow_stream_rowLengths s=some r):FnPG Tryd.prog (GL mx) 80 [.box 59 [.fl .shr 1 (map (int .u8) s.b), .v (.int .i64 s.at_), .fl (.own 5) 1 (map (int .u8) s.out), .v (.int .i64 s.most), .v (.int .i64 s.blocks)]] [.box 59 [.fl .shr 1 (map (int .u8) r.2.2.b), .v (.int .i64 r.2.2.at_), .fl (.own 5) 1 (map (int .u8) r.2.2.out), .v (.int .i64 r.2.2.most), .v (.int .i64 r.2.2.blocks)]] (.tup [.fl (.own 3) 1 (map (int .i64) r.1), .v (.int .i64 r.2.1)]):=by
  unfold Sh.grow_stream_rowLengths at h
  refine yPG 40 func80 fun args0 hargs0 g0 hn hio => ?_
  refine yyy hn 2 [0,40,0] ?_
  refine ht_seq ?_
  obtain ⟨v1, hv1, h⟩:=zn h
  refine yx hn 1 ?_
  refine yq call58 (ok_grow_stream_number _ _ _ hv1) 0 [9] 0 ?_
  refine ym 4 ?_
  refine yee [0,40,4,5,0] ?_
  refine ht_seq ?_
  refine yyy hn 2 [0,40,4,5,14,0] ?_
  refine ht_cond _ rfl (fun hb2 => ?_) (fun hb2 => ?_)
  ·have h:=cond_t hb2 h
   refine yyy hn 3 [0,40,2,3,0] ?_
   refine ht_ret ?_
   refine pt_pick [2,3,0,4] (by kernel_rfl) (es':=[(_,_),(_,_),(_,_),(_,_)]) rfl ?_
   refine pt_sub (fs:=[(2,.fl (.own 3) 1 (map (int .i64) [])),(3,vi v1.2.1),(0,.box 59 [fb v1.2.2.b,vi v1.2.2.at_,.fl (.own 5) 1 (map (int .u8) v1.2.2.out),vi v1.2.2.most,vi v1.2.2.blocks]),(0,.v (List.getD args0 0 undef))]) (.sub _ (sub_nil 3 1) rfl (.same _ (.same _ (.same _ .nil)))) ?_
   refine pt_r_then ?_
   obtain rfl:=zi h
   exact pt_retP (es:=[(2, .fl (.own 3) 1 (map (int .i64) [])), (3, .v (.int .i64 v1.2.1))]) (posts:=[.box 59 [fb v1.2.2.b,.v (.int .i64 v1.2.2.at_),.fl (.own 5) 1 (map (int .u8) v1.2.2.out),.v (.int .i64 v1.2.2.most),.v (.int .i64 v1.2.2.blocks)]]) hio rfl rfl (.tmp _ _ (.tmp _ _ .nil)) rfl rfl hargs0 rfl
  ·have h:=cond_f hb2 h
   refine ht_skip ?_
   refine pt_then (ht_seq ?_)
   obtain ⟨v3, hv3, h⟩:=zn h
   refine yx hn 0 ?_
   refine yS (.fl (.own 3) 1 (map (int .i64) v3)) 0 ⟨op_mk (f:=int .i64) _ _ _ _ el73 (by decide) zr3 rfl rfl rfl hv3⟩ ?_
   refine ya 0 ?_
   refine yee [0,40,4,6,0] ?_
   refine ht_seq ?_
   refine ht_seq ?_
   obtain ⟨v4, hv4, h⟩:=zn h
   refine yx hn 1 ?_
   refine ys 1 ⟨lb hv4⟩ ?_
   refine yee [0,40,6,18,19,0] ?_
   refine ht_loopS h (fun ((s22,s23,s24,s25,s26,s27,s28):(List Int)×Int×(List Int)×Int×Int×(List Int)×Int)=>[(0,.box 59 [fb s22,vi s23,.fl (.own 5) 1 (map (int .u8) s24),vi s25,vi s26]),(40,.glob (GL mx)),(6,.fl (.own 3) 1 (map (int .i64) s27)),(18,vi v4),(19,vi s28),(0,.v (List.getD args0 0 undef))]) (fun ((s31,s32,s33,s34,s35,s36):(List Int)×Int×(List Int)×Int×Int×(List Int))=>[(0,.box 59 [fb s31,vi s32,.fl (.own 5) 1 (map (int .u8) s33),vi s34,vi s35]),(40,.glob (GL mx)),(6,.fl (.own 3) 1 (map (int .i64) s36)),(0,.v (List.getD args0 0 undef))]) ?_ ?_
   ·rintro ⟨s31, s32, s33, s34, s35, s36⟩ h
    refine pt_then (ht_seq ?_)
    refine ht_seq ?_
    obtain ⟨v45, hv45, h⟩:=zn h
    refine yx hn 1 ?_
    refine ys 1 ⟨lk call66 (ok_canon_Check _ _ hv45)⟩ ?_
    refine yee [0,40,6,38,0] ?_
    refine ht_cond _ rfl (fun hb46 => ?_) (fun hb46 => ?_)
    ·have h:=cond_t hb46 h
     refine yyy hn 2 [0,40,2,3,0] ?_
     refine ht_ret ?_
     refine pt_pick [2,3,0,4] (by kernel_rfl) (es':=[(_,_),(_,_),(_,_),(_,_)]) rfl ?_
     refine pt_sub (fs:=[(2,.fl (.own 3) 1 (map (int .i64) [])),(3,vi 3),(0,.box 59 [fb s31,vi s32,.fl (.own 5) 1 (map (int .u8) s33),vi s34,vi s35]),(0,.v (List.getD args0 0 undef))]) (.sub _ (sub_nil 3 1) rfl (.same _ (.same _ (.same _ .nil)))) ?_
     refine pt_r_then ?_
     obtain rfl:=zi h
     exact pt_retP (es:=[(2, .fl (.own 3) 1 (map (int .i64) [])), (3, .v (.int .i64 3))]) (posts:=[.box 59 [fb s31,.v (.int .i64 s32),.fl (.own 5) 1 (map (int .u8) s33),.v (.int .i64 s34),.v (.int .i64 s35)]]) hio rfl rfl (.tmp _ _ (.tmp _ _ .nil)) rfl rfl hargs0 rfl
    ·have h:=cond_f hb46 h
     refine ht_skip ?_
     refine pt_then ?_
     refine yxx hn 0 ?_
     refine ym 0 ?_
     refine ya 1 ?_
     refine yee [0,40,2,3,0] ?_
     refine ht_ret ?_
     refine pt_pick [2,3,0,4] (by kernel_rfl) (es':=[(_,_),(_,_),(_,_),(_,_)]) rfl ?_
     obtain rfl:=zi h
     exact pt_retP (es:=[(2, .fl (.own 3) 1 (map (int .i64) s36)), (3, .v (.int .i64 0))]) (posts:=[.box 59 [fb s31,.v (.int .i64 s32),.fl (.own 5) 1 (map (int .u8) s33),.v (.int .i64 s34),.v (.int .i64 s35)]]) hio rfl rfl (.tmp _ _ (.tmp _ _ .nil)) rfl rfl hargs0 rfl
   ·rintro u37 hl38 hr39 ⟨s22, s23, s24, s25, s26, s27, s28⟩ rr42 h ho40
    refine yyy hn 1 [0,40,6,18,19,20,0] ?_
    refine ht_seq ?_
    refine ht_cond _ rfl (fun hb43 => ?_) (fun hb43 => ?_)
    ·have h:=cond_t hb43 h
     refine ht_skip ?_
     refine pt_then (ht_seq ?_)
     refine ht_block ?_
     refine yyy hn 2 [0,40,6,18,19,7,0] ?_
     refine ht_seq ?_
     obtain ⟨v6, hv6, h⟩:=zn h
     obtain ⟨v7, hv7, h⟩:=zn h
     obtain ⟨v8, hv8, h⟩:=zn h
     obtain ⟨v9, hv9, h⟩:=zn h
     obtain ⟨v10, hv10, h⟩:=zn h
     refine wb [[6],[7]] ?_
     refine wN [24] ?_
     refine wS (.v (.pointer (some ⟨1,(0+v6 * 1),none⟩))) [] ⟨op_ix_globz _ _ _ _ 19 1 0 _ 1 _ underlying108 sz3 rfl rfl (ix_ok hv6).1 (ix_ok hv6).2⟩ ?_
     refine wN [25,40] ?_
     refine wS (vi v7) [[0]] ⟨op_load_glob _ _ 40 1 _ _ _ underlying3 rfl rfl rfl (gl_mem1 mx) (map_get1 hv7)⟩ ?_
     refine wK [0] [27] ?_
     refine wt [(0,.box 59 [fb v8.2.2.b,vi v8.2.2.at_,.fl (.own 5) 1 (map (int .u8) v8.2.2.out),vi v8.2.2.most,vi v8.2.2.blocks]),(28,.tup [vi v8.1,vi v8.2.1])] [] ⟨op_callPS _ _ _ _ 28 58 [.tmp 27] [_] _ _ _ rfl call58 rfl rfl rfl (ok_grow_stream_number (T_grow_stream.mk s22 s23 s24 s25 s26) 3 _ hv8) (zl rfl) rfl rfl rfl rfl rfl rfl rfl⟩ ?_
     refine wK [28] [] ?_
     refine wt [(22,.tup [vi v8.1,vi v8.2.1])] [[22],[22]] ⟨op_move_take _ _ _ _ rfl⟩ ?_
     refine wN [23,6,26] ?_
     refine wo [] ⟨li hv9⟩ ?_
     refine wK [6] [31,29] ?_
     refine wt [(6,.fl (.own 3) 1 (map (int .i64) v10))] [[30]] ⟨op_store_e _ _ _ _ _ _ _ _ sz3 rfl rfl rfl (by decide) (map_lt (ix_ok hv9).2) ((map_set (f:=int .i64) _ (ix_ok hv9).2).trans (congrArg (map _) (Option.some.inj hv10)))⟩ ?_
     refine wee hn [0,40,6,18,19,5,0] ?_
     refine yyy hn 2 [0,40,6,18,19,5,33,0] ?_
     refine ht_cond _ rfl (fun hb44 => ?_) (fun hb44 => ?_)
     ·have h:=cond_t hb44 h
      refine yyy hn 3 [0,40,2,3,0] ?_
      refine ht_ret ?_
      refine pt_pick [2,3,0,4] (by kernel_rfl) (es':=[(_,_),(_,_),(_,_),(_,_)]) rfl ?_
      refine pt_sub (fs:=[(2,.fl (.own 3) 1 (map (int .i64) [])),(3,vi v8.2.1),(0,.box 59 [fb v8.2.2.b,vi v8.2.2.at_,.fl (.own 5) 1 (map (int .u8) v8.2.2.out),vi v8.2.2.most,vi v8.2.2.blocks]),(0,.v (List.getD args0 0 undef))]) (.sub _ (sub_nil 3 1) rfl (.same _ (.same _ (.same _ .nil)))) ?_
      refine pt_r_in ?_
      refine pt_r_then ?_
      refine pt_r_then ?_
      refine pt_r_in ?_
      refine pt_r_then ?_
      have h:=hr39 _ (ho40 _ (zi h).symm).symm
      obtain rfl:=zi h
      exact pt_retP (es:=[(2, .fl (.own 3) 1 (map (int .i64) [])), (3, .v (.int .i64 v8.2.1))]) (posts:=[.box 59 [fb v8.2.2.b,.v (.int .i64 v8.2.2.at_),.fl (.own 5) 1 (map (int .u8) v8.2.2.out),.v (.int .i64 v8.2.2.most),.v (.int .i64 v8.2.2.blocks)]]) hio rfl rfl (.tmp _ _ (.tmp _ _ .nil)) rfl rfl hargs0 rfl
     ·have h:=cond_f hb44 h
      refine ht_skip ?_
      refine pt_inb ?_
      refine pt_then ?_
      obtain ⟨v12, hv12, h⟩:=zn h
      refine yx hn 0 ?_
      refine ys 0 ⟨lb hv12⟩ ?_
      refine yw [19] 1 ?_
      refine ye [0,40,6,18,19,0] ?_
      exact pt_next _ (zi h).symm rfl
    ·have h:=cond_f hb43 h
     refine ht_exit ?_
     refine pt_x_then ?_
     refine pt_x_then ?_
     refine pt_x_in ?_
     refine pt_pick [0,1,2,6] (by kernel_rfl) (es':=[(_,_),(_,_),(_,_),(_,_)]) rfl ?_
     exact hl38 _ (ho40 _ (zi h).symm).symm
end Go.Proofs.YthceldoojddpiaaDoor
