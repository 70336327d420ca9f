/-
  The model's runs are what is told in Lean.
-/
import Derived.Test.YthceldoojddpiaaDoorProg
import Derived.KernelRfl
import Derived.Test.YthceldoojddpiaaDoorShelf
import Derived.Test.YthceldoojddpiaaDoorB2
import Derived.Test.YthceldoojddpiaaDoorB4
import Derived.Test.YthceldoojddpiaaDoorB5
import Derived.Test.YthceldoojddpiaaDoorB8
import Derived.Test.YthceldoojddpiaaDoorSrt
import Derived.Test.YthceldoojddpiaaDoorB9
import Derived.Test.YthceldoojddpiaaDoorShr
import Derived.Test.YthceldoojddpiaaDoorC1
import Derived.Test.YthceldoojddpiaaDoorBA
import Derived.Test.YthceldoojddpiaaDoorOkc1
set_option linter.unusedVariables false
set_option linter.unusedSimpArgs false
set_option maxHeartbeats 1000000
namespace Go.Proofs.YthceldoojddpiaaDoor
open Go.Abs Go.Abs.Sh Tryd
open List (map flatten)
open Value (int)
theorem ok_canon_tally_weight (c:(List Int)) (r:Int) (h:Sh.canon_tally_weight c=some r):FnOK Tryd.prog 91 [.v (.agg (map (int .i64) c).toArray)] (.v (.int .i64 r)):=by
  unfold Sh.canon_tally_weight at h
  refine yO 19 func91 fun g0 hn hio => ?_
  refine yxx hn 0 ?_
  refine yS (.arr 118 (map (int .i64) c)) 1 ⟨op_box_arr _ _ _ rfl⟩ ?_
  refine yee [1] ?_
  refine yyy hn 1 [1,3] ?_
  refine ht_seq ?_
  refine ht_seq ?_
  obtain ⟨v1, hv1, h⟩:=zn h
  refine yx hn 0 ?_
  refine yS (.v (.agg (map (int .i64) c).toArray)) 1 ⟨op_loadA_arr _ _ _ _ underlying118 rfl (sz118.trans (congrArg some (ln_len hv1))) rfl rfl⟩ ?_
  refine yee [3,6,7] ?_
  refine ht_loopS h (fun ((s12,s13):Int×Int)=>[(3,vi s12),(6,.v (.agg (map (int .i64) c).toArray)),(7,vi s13)]) (fun (s15:Int)=>[(3,vi s15)]) ?_ ?_
  ·rintro s15 h
   refine pt_then ?_
   refine yyy hn 2 [2] ?_
   refine ht_ret ?_
   obtain rfl:=zi h
   exact pt_ret hio rfl (.tmp _ _ .nil) rfl rfl
  ·rintro u16 hl17 hr18 ⟨s12, s13⟩ rr21 h ho19
   refine yyy hn 1 [3,6,7,8] ?_
   refine ht_seq ?_
   refine ht_cond _ rfl (fun hb22 => ?_) (fun hb22 => ?_)
   ·have h:=cond_t hb22 h
    refine ht_skip ?_
    refine pt_then (ht_seq ?_)
    refine ht_block ?_
    refine ht_seq ?_
    obtain ⟨v3, hv3, h⟩:=zn h
    obtain ⟨v4, hv4, h⟩:=zn h
    refine yx hn 1 ?_
    refine yS (vi v4) 2 ⟨op_index_arr _ _ _ _ 16 v3 underlying118 sz3 rfl (congrArg (fun j=>AV.v (int .i64 j)) (ix_ok hv3).1) (ix_ok hv3).2 (map_get1 hv4) ⟨_,underlying3,rfl⟩⟩ ?_
    refine yee [3,6,7,4,5] ?_
    obtain ⟨v5, hv5, h⟩:=zn h
    obtain ⟨v6, hv6, h⟩:=zn h
    obtain ⟨v7, hv7, h⟩:=zn h
    refine yx hn 3 ?_
    refine ys 0 ⟨lb hv5⟩ ?_
    refine ys 0 ⟨lB (shl_ok hv6)⟩ ?_
    refine ys 0 ⟨lb hv7⟩ ?_
    refine yw [3] 1 ?_
    refine ye [6,7,3] ?_
    refine pt_inb ?_
    refine pt_then ?_
    obtain ⟨v8, hv8, h⟩:=zn h
    refine yx hn 0 ?_
    refine ys 0 ⟨lb hv8⟩ ?_
    refine yw [7] 1 ?_
    refine ye [6,3,7] ?_
    refine pt_pick [1,0,2] (by kernel_rfl) (es':=[(_,_),(_,_),(_,_)]) rfl ?_
    exact pt_next _ (zi h).symm rfl
   ·have h:=cond_f hb22 h
    refine ht_exit ?_
    refine pt_x_then ?_
    refine pt_x_then ?_
    refine pt_x_in ?_
    refine pt_pick [0] (by kernel_rfl) (es':=[(_,_)]) rfl ?_
    exact hl17 _ (ho19 _ (zi h).symm).symm
theorem ok_canon_forms (c:(List Int)) (r:Bool) (h:Sh.canon_forms c=some r):FnOK Tryd.prog 84 [.v (.agg (map (int .i64) c).toArray)] (.v (.bool r)):=by
  unfold Sh.canon_forms at h
  refine yO 18 func84 fun g0 hn hio => ?_
  refine yxx hn 0 ?_
  refine yS (.arr 118 (map (int .i64) c)) 1 ⟨op_box_arr _ _ _ rfl⟩ ?_
  refine yee [1] ?_
  refine ht_seq ?_
  obtain ⟨v1, hv1, h⟩:=zn h
  obtain ⟨v2, hv2, h⟩:=zn h
  refine yx hn 0 ?_
  refine yS (.v (.agg (map (int .i64) (([(0:Int),1,(0:Int),(0:Int),(0:Int),(0:Int),(0:Int),(0:Int),(0:Int),(0:Int),(0:Int),(0:Int),(0:Int),(0:Int),(0:Int),(0:Int)]:List Int))).toArray)) 0 ⟨op_build_arr _ _ (.agg #[.int .i64 0,.int .i64 0,.int .i64 0,.int .i64 0,.int .i64 0,.int .i64 0,.int .i64 0,.int .i64 0,.int .i64 0,.int .i64 0,.int .i64 0,.int .i64 0,.int .i64 0,.int .i64 0,.int .i64 0,.int .i64 0]) (map (int .i64) (([(0:Int),1,(0:Int),(0:Int),(0:Int),(0:Int),(0:Int),(0:Int),(0:Int),(0:Int),(0:Int),(0:Int),(0:Int),(0:Int),(0:Int),(0:Int)]:List Int))) [(1,.int .i64 1)] underlying118 sz3 zr118 (fun _ V w o a hv hes=>by simp only [List.map_toArray,List.map_cons,List.map_nil]; try rfl) (litfill (by simp [Instr.fill,Value.cells]; rfl) (by simp))⟩ ?_
  refine yS (.arr 118 (map (int .i64) ((List.replicate 16 (0:Int))))) 0 ⟨oA (op_alloc_arr _ za118)⟩ ?_
  refine yk [3] [4] ?_
  refine yt (3,.arr 118 (map (int .i64) (([(0:Int),1,(0:Int),(0:Int),(0:Int),(0:Int),(0:Int),(0:Int),(0:Int),(0:Int),(0:Int),(0:Int),(0:Int),(0:Int),(0:Int),(0:Int)]:List Int)))) 0 ⟨op_storeA_arr _ _ _ _ (sz118.trans (congrArg some (ln_len hv2))) rfl rfl (ln_ones (fun _=>rfl) _) ((ln_len (f:=int .i64) hv1).symm.trans (ln_len (f:=int .i64) hv2))⟩ ?_
  refine yee [1,3] ?_
  refine ht_seq ?_
  refine ht_joinS h (fun (s12:Bool)=>[(2,vb s12)]) ?_ ?_
  ·rintro s12 h
   refine pt_then (ht_ret ?_)
   obtain rfl:=zi h
   exact pt_ret hio rfl (.tmp _ _ .nil) rfl rfl
  ·intro u13 h hl14 hr15
   obtain ⟨v3, hv3, h⟩:=zn h
   obtain ⟨v4, hv4, h⟩:=zn h
   obtain ⟨v5, hv5, h⟩:=zn h
   refine cond_some h (fun hg2_3 h => ?_) (fun hg2_3 h => ?_)
   ·refine yx hn 0 ?_
    refine yS (.v (.agg (map (int .i64) c).toArray)) 0 ⟨op_loadA_arr _ _ _ _ underlying118 rfl (sz118.trans (congrArg some (ln_len hv3))) rfl rfl⟩ ?_
    refine yS (.v (.agg (map (int .i64) (([(0:Int),(0:Int),(0:Int),(0:Int),(0:Int),(0:Int),(0:Int),(0:Int),(0:Int),(0:Int),(0:Int),(0:Int),(0:Int),(0:Int),(0:Int),(0:Int)]:List Int))).toArray)) 0 ⟨op_build_arr _ _ (.agg #[.int .i64 0,.int .i64 0,.int .i64 0,.int .i64 0,.int .i64 0,.int .i64 0,.int .i64 0,.int .i64 0,.int .i64 0,.int .i64 0,.int .i64 0,.int .i64 0,.int .i64 0,.int .i64 0,.int .i64 0,.int .i64 0]) (map (int .i64) (([(0:Int),(0:Int),(0:Int),(0:Int),(0:Int),(0:Int),(0:Int),(0:Int),(0:Int),(0:Int),(0:Int),(0:Int),(0:Int),(0:Int),(0:Int),(0:Int)]:List Int))) [] underlying118 sz3 zr118 (fun _ V w o a hv hes=>by simp only [List.map_toArray,List.map_cons,List.map_nil]; try rfl) (litfill (by simp [Instr.fill,Value.cells]; rfl) (by simp))⟩ ?_
    refine yS (vb (c==(([(0:Int),(0:Int),(0:Int),(0:Int),(0:Int),(0:Int),(0:Int),(0:Int),(0:Int),(0:Int),(0:Int),(0:Int),(0:Int),(0:Int),(0:Int),(0:Int)]:List Int)))) 1 ⟨op_eq_arr _ _ _ underlying118 underlying3 (i:=Tryd.t3) (by kernel_rfl) (by kernel_rfl) (by kernel_rfl) rfl rfl (ln_n hv4) (ln_n hv5) rfl⟩ ?_
    refine yd hg2_3 10 ?_
    refine ye [2] ?_
    exact hl14 _ (zi h).symm
   ·obtain ⟨v6, hv6, h⟩:=zn h
    obtain ⟨v7, hv7, h⟩:=zn h
    obtain ⟨v8, hv8, h⟩:=zn h
    obtain ⟨v9, hv9, h⟩:=zn h
    refine cond_some h (fun hg2_8 h => ?_) (fun hg2_8 h => ?_)
    ·refine yx hn 0 ?_
     refine yS (.v (.agg (map (int .i64) c).toArray)) 0 ⟨op_loadA_arr _ _ _ _ underlying118 rfl (sz118.trans (congrArg some (ln_len hv3))) rfl rfl⟩ ?_
     refine yS (.v (.agg (map (int .i64) (([(0:Int),(0:Int),(0:Int),(0:Int),(0:Int),(0:Int),(0:Int),(0:Int),(0:Int),(0:Int),(0:Int),(0:Int),(0:Int),(0:Int),(0:Int),(0:Int)]:List Int))).toArray)) 0 ⟨op_build_arr _ _ (.agg #[.int .i64 0,.int .i64 0,.int .i64 0,.int .i64 0,.int .i64 0,.int .i64 0,.int .i64 0,.int .i64 0,.int .i64 0,.int .i64 0,.int .i64 0,.int .i64 0,.int .i64 0,.int .i64 0,.int .i64 0,.int .i64 0]) (map (int .i64) (([(0:Int),(0:Int),(0:Int),(0:Int),(0:Int),(0:Int),(0:Int),(0:Int),(0:Int),(0:Int),(0:Int),(0:Int),(0:Int),(0:Int),(0:Int),(0:Int)]:List Int))) [] underlying118 sz3 zr118 (fun _ V w o a hv hes=>by simp only [List.map_toArray,List.map_cons,List.map_nil]; try rfl) (litfill (by simp [Instr.fill,Value.cells]; rfl) (by simp))⟩ ?_
     refine yS (vb (c==(([(0:Int),(0:Int),(0:Int),(0:Int),(0:Int),(0:Int),(0:Int),(0:Int),(0:Int),(0:Int),(0:Int),(0:Int),(0:Int),(0:Int),(0:Int),(0:Int)]:List Int)))) 1 ⟨op_eq_arr _ _ _ underlying118 underlying3 (i:=Tryd.t3) (by kernel_rfl) (by kernel_rfl) (by kernel_rfl) rfl rfl (ln_n hv4) (ln_n hv5) rfl⟩ ?_
     refine yd hg2_3 0 ?_
     refine yS (.v (.agg (map (int .i64) c).toArray)) 0 ⟨op_loadA_arr _ _ _ _ underlying118 rfl (sz118.trans (congrArg some (ln_len hv6))) rfl rfl⟩ ?_
     refine yS (.v (.agg (map (int .i64) (([(0:Int),1,(0:Int),(0:Int),(0:Int),(0:Int),(0:Int),(0:Int),(0:Int),(0:Int),(0:Int),(0:Int),(0:Int),(0:Int),(0:Int),(0:Int)]:List Int))).toArray)) 0 ⟨op_loadA_arr _ _ _ _ underlying118 rfl (sz118.trans (congrArg some (ln_len hv7))) rfl rfl⟩ ?_
     refine yS (vb (c==(([(0:Int),1,(0:Int),(0:Int),(0:Int),(0:Int),(0:Int),(0:Int),(0:Int),(0:Int),(0:Int),(0:Int),(0:Int),(0:Int),(0:Int),(0:Int)]:List Int)))) 2 ⟨op_eq_arr _ _ _ underlying118 underlying3 (i:=Tryd.t3) (by kernel_rfl) (by kernel_rfl) (by kernel_rfl) rfl rfl (ln_n hv8) (ln_n hv9) rfl⟩ ?_
     refine yd hg2_8 5 ?_
     refine ye [2] ?_
     exact hl14 _ (zi h).symm
    ·obtain ⟨v10, hv10, h⟩:=zn h
     obtain ⟨v11, hv11, h⟩:=zn h
     refine yx hn 0 ?_
     refine yS (.v (.agg (map (int .i64) c).toArray)) 0 ⟨op_loadA_arr _ _ _ _ underlying118 rfl (sz118.trans (congrArg some (ln_len hv3))) rfl rfl⟩ ?_
     refine yS (.v (.agg (map (int .i64) (([(0:Int),(0:Int),(0:Int),(0:Int),(0:Int),(0:Int),(0:Int),(0:Int),(0:Int),(0:Int),(0:Int),(0:Int),(0:Int),(0:Int),(0:Int),(0:Int)]:List Int))).toArray)) 0 ⟨op_build_arr _ _ (.agg #[.int .i64 0,.int .i64 0,.int .i64 0,.int .i64 0,.int .i64 0,.int .i64 0,.int .i64 0,.int .i64 0,.int .i64 0,.int .i64 0,.int .i64 0,.int .i64 0,.int .i64 0,.int .i64 0,.int .i64 0,.int .i64 0]) (map (int .i64) (([(0:Int),(0:Int),(0:Int),(0:Int),(0:Int),(0:Int),(0:Int),(0:Int),(0:Int),(0:Int),(0:Int),(0:Int),(0:Int),(0:Int),(0:Int),(0:Int)]:List Int))) [] underlying118 sz3 zr118 (fun _ V w o a hv hes=>by simp only [List.map_toArray,List.map_cons,List.map_nil]; try rfl) (litfill (by simp [Instr.fill,Value.cells]; rfl) (by simp))⟩ ?_
     refine yS (vb (c==(([(0:Int),(0:Int),(0:Int),(0:Int),(0:Int),(0:Int),(0:Int),(0:Int),(0:Int),(0:Int),(0:Int),(0:Int),(0:Int),(0:Int),(0:Int),(0:Int)]:List Int)))) 1 ⟨op_eq_arr _ _ _ underlying118 underlying3 (i:=Tryd.t3) (by kernel_rfl) (by kernel_rfl) (by kernel_rfl) rfl rfl (ln_n hv4) (ln_n hv5) rfl⟩ ?_
     refine yd hg2_3 0 ?_
     refine yS (.v (.agg (map (int .i64) c).toArray)) 0 ⟨op_loadA_arr _ _ _ _ underlying118 rfl (sz118.trans (congrArg some (ln_len hv6))) rfl rfl⟩ ?_
     refine yS (.v (.agg (map (int .i64) (([(0:Int),1,(0:Int),(0:Int),(0:Int),(0:Int),(0:Int),(0:Int),(0:Int),(0:Int),(0:Int),(0:Int),(0:Int),(0:Int),(0:Int),(0:Int)]:List Int))).toArray)) 0 ⟨op_loadA_arr _ _ _ _ underlying118 rfl (sz118.trans (congrArg some (ln_len hv7))) rfl rfl⟩ ?_
     refine yS (vb (c==(([(0:Int),1,(0:Int),(0:Int),(0:Int),(0:Int),(0:Int),(0:Int),(0:Int),(0:Int),(0:Int),(0:Int),(0:Int),(0:Int),(0:Int),(0:Int)]:List Int)))) 2 ⟨op_eq_arr _ _ _ underlying118 underlying3 (i:=Tryd.t3) (by kernel_rfl) (by kernel_rfl) (by kernel_rfl) rfl rfl (ln_n hv8) (ln_n hv9) rfl⟩ ?_
     refine yd hg2_8 0 ?_
     refine yS (.v (.agg (map (int .i64) c).toArray)) 0 ⟨op_loadA_arr _ _ _ _ underlying118 rfl (sz118.trans (congrArg some (ln_len hv10))) rfl rfl⟩ ?_
     refine ys 3 ⟨lk call91 (ok_canon_tally_weight _ _ hv11)⟩ ?_
     refine ye [2] ?_
     exact hl14 _ (zi h).symm
theorem ok_canon_Check (lengths:(List Int)) (r:Int) (h:Sh.canon_Check lengths=some r):FnOK Tryd.prog 66 [.fl .shr 1 (map (int .i64) lengths)] (.v (.int .i64 r)):=by
  unfold Sh.canon_Check at h
  refine yO 10 func66 fun g0 hn hio => ?_
  refine yyy hn 1 [0] ?_
  refine ht_seq ?_
  refine ht_seq ?_
  obtain ⟨v1, hv1, h⟩:=zn h
  refine yx hn 1 ?_
  refine ys 1 ⟨lk call83 (ok_canon_valid _ _ hv1)⟩ ?_
  refine yee [0,5] ?_
  refine ht_cond _ rfl (fun hb2 => ?_) (fun hb2 => ?_)
  ·have h:=cond_t hb2 h
   refine yyy hn 1 [2] ?_
   refine ht_ret ?_
   refine pt_r_then ?_
   obtain rfl:=zi h
   exact pt_ret hio rfl (.tmp _ _ .nil) rfl rfl
  ·have h:=cond_f hb2 h
   refine ht_skip ?_
   refine pt_then (ht_seq ?_)
   refine ht_seq ?_
   obtain ⟨v3, hv3, h⟩:=zn h
   obtain ⟨v4, hv4, h⟩:=zn h
   refine yx hn 1 ?_
   refine ys 0 ⟨lk call68 (ok_canon_count _ _ hv3)⟩ ?_
   refine ys 1 ⟨lk call84 (ok_canon_forms _ _ hv4)⟩ ?_
   refine yee [9] ?_
   refine ht_cond _ rfl (fun hb5 => ?_) (fun hb5 => ?_)
   ·have h:=cond_t hb5 h
    refine yyy hn 1 [2] ?_
    refine ht_ret ?_
    refine pt_r_then ?_
    obtain rfl:=zi h
    exact pt_ret hio rfl (.tmp _ _ .nil) rfl rfl
   ·have h:=cond_f hb5 h
    refine ht_skip ?_
    refine pt_then ?_
    refine yyy hn 1 [2] ?_
    refine ht_ret ?_
    obtain rfl:=zi h
    exact pt_ret hio rfl (.tmp _ _ .nil) rfl rfl
theorem ok_canon_firsts (c:(List Int)) (r:(List Int)) (h:Sh.canon_firsts c=some r):FnOK Tryd.prog 67 [.v (.agg (map (int .i64) c).toArray)] (.v (.agg (map (int .i64) r).toArray)):=by
  unfold Sh.canon_firsts at h
  refine yO 22 func67 fun g0 hn hio => ?_
  refine yxx hn 0 ?_
  refine yS (.arr 118 (map (int .i64) c)) 0 ⟨op_box_arr _ _ _ rfl⟩ ?_
  refine yS (.arr 118 (map (int .i64) ((List.replicate 16 (0:Int))))) 0 ⟨oA (op_alloc_arr _ za118)⟩ ?_
  refine yee [1,2] ?_
  refine yxx hn 0 ?_
  refine yS (.arr 118 (map (int .i64) ((List.replicate 16 (0:Int))))) 0 ⟨oA (op_alloc_arr _ za118)⟩ ?_
  refine yee [1,2,3] ?_
  refine ht_seq ?_
  refine yyy hn 1 [1,2,3,4] ?_
  refine ht_loopS h (fun ((s16,s17):(List Int)×Int)=>[(1,.arr 118 (map (int .i64) c)),(2,.arr 118 (map (int .i64) ((List.replicate 16 (0:Int))))),(3,.arr 118 (map (int .i64) s16)),(4,vi s17)]) (fun (s19:(List Int))=>[(2,.arr 118 (map (int .i64) ((List.replicate 16 (0:Int))))),(3,.arr 118 (map (int .i64) s19))]) ?_ ?_
  ·rintro s19 h
   refine pt_then (ht_seq ?_)
   obtain ⟨v27, hv27, h⟩:=zn h
   obtain ⟨v28, hv28, h⟩:=zn h
   obtain ⟨v29, hv29, h⟩:=zn h
   refine yx hn 0 ?_
   refine yS (.v (.agg (map (int .i64) s19).toArray)) 0 ⟨op_loadA_arr _ _ _ _ underlying118 rfl (sz118.trans (congrArg some (ln_len hv27))) rfl rfl⟩ ?_
   refine yk [2] [21] ?_
   refine yt (2,.arr 118 (map (int .i64) s19)) 0 ⟨op_storeA_arr _ _ _ _ (sz118.trans (congrArg some (ln_len hv29))) rfl rfl (ln_ones (fun _=>rfl) _) ((ln_len (f:=int .i64) hv28).symm.trans (ln_len (f:=int .i64) hv29))⟩ ?_
   refine yee [2] ?_
   refine ht_ret ?_
   obtain ⟨v30, hv30, h⟩:=zn h
   obtain rfl:=zi h
   exact pt_ret hio rfl (.cellR _ _ _ _ underlying118 rfl (sz118.trans (congrArg some (ln_len hv30))) .nil) rfl rfl
  ·rintro u20 hl21 hr22 ⟨s16, s17⟩ rr25 h ho23
   refine ht_seq ?_
   refine yyy hn 2 [1,2,3,4,6] ?_
   refine ht_cond _ rfl (fun hb26 => ?_) (fun hb26 => ?_)
   ·have h:=cond_t hb26 h
    refine ht_skip ?_
    refine pt_then (ht_seq ?_)
    refine ht_block ?_
    obtain ⟨v2, hv2, h⟩:=zn h
    obtain ⟨v3, hv3, h⟩:=zn h
    obtain ⟨v4, hv4, h⟩:=zn h
    obtain ⟨v5, hv5, h⟩:=zn h
    obtain ⟨v6, hv6, h⟩:=zn h
    obtain ⟨v7, hv7, h⟩:=zn h
    obtain ⟨v8, hv8, h⟩:=zn h
    obtain ⟨v9, hv9, h⟩:=zn h
    obtain ⟨v10, hv10, h⟩:=zn h
    obtain ⟨v11, hv11, h⟩:=zn h
    refine wb [[4],[4]] ?_
    refine wN [10] ?_
    refine wo [] ⟨lb hv2⟩ ?_
    refine wN [3,11] ?_
    refine wS (.ptr 3 v3) [] ⟨op_ix_arr _ _ _ _ 16 3 _ underlying118 sz3 rfl rfl (ix_ok hv3).1 (ix_ok hv3).2 (by decide)⟩ ?_
    refine wN [12,3] ?_
    refine wS (vi v4) [[4]] ⟨op_load_arr _ _ _ _ _ _ underlying3 rfl rfl rfl (map_get1 hv4)⟩ ?_
    refine wN [14] ?_
    refine wo [] ⟨lb hv5⟩ ?_
    refine wN [1,15] ?_
    refine wS (.ptr 1 v6) [] ⟨op_ix_arr _ _ _ _ 16 1 _ underlying118 sz3 rfl rfl (ix_ok hv6).1 (ix_ok hv6).2 (by decide)⟩ ?_
    refine wN [16,1] ?_
    refine wS (vi v7) [] ⟨op_load_arr _ _ _ _ _ _ underlying3 rfl rfl rfl (map_get1 hv7)⟩ ?_
    refine wN [13,17] ?_
    refine wo [] ⟨lb hv8⟩ ?_
    refine wN [18] ?_
    refine wo [] ⟨lb hv9⟩ ?_
    refine wN [3,9] ?_
    refine wS (.ptr 3 v10) [] ⟨op_ix_arr _ _ _ _ 16 3 _ underlying118 sz3 rfl rfl (ix_ok hv10).1 (ix_ok hv10).2 (by decide)⟩ ?_
    refine wK [3] [20,19] ?_
    refine wt [(3,.arr 118 (map (int .i64) v11))] [] ⟨op_store_arr _ _ _ _ _ _ sz3 rfl rfl rfl rfl (set_lt hv11) (set_eq (f:=int .i64) hv11)⟩ ?_
    refine we hn [1,2,3,4] ?_
    refine pt_inb ?_
    refine pt_then ?_
    obtain ⟨v12, hv12, h⟩:=zn h
    refine yx hn 1 ?_
    refine ys 0 ⟨lb hv12⟩ ?_
    refine yw [4] 1 ?_
    refine ye [1,2,3,4] ?_
    exact pt_next _ (zi h).symm rfl
   ·have h:=cond_f hb26 h
    refine ht_exit ?_
    refine pt_x_then ?_
    refine pt_x_then ?_
    refine pt_x_in ?_
    refine pt_pick [1,2] (by kernel_rfl) (es':=[(_,_),(_,_)]) rfl ?_
    exact hl21 _ (ho23 _ (zi h).symm).symm
theorem ok_canon_Codes (lengths:(List Int)) (r:((List Int)×Int)) (h:Sh.canon_Codes lengths=some r):FnOK Tryd.prog 48 [.fl .shr 1 (map (int .i64) lengths)] (.tup [.fl (.own 3) 1 (map (int .i64) r.1), .v (.int .i64 r.2)]):=by
  unfold Sh.canon_Codes at h
  refine yO 42 func48 fun g0 hn hio => ?_
  refine yyy hn 2 [0] ?_
  refine ht_seq ?_
  refine ht_seq ?_
  obtain ⟨v1, hv1, h⟩:=zn h
  refine yx hn 1 ?_
  refine ys 1 ⟨lk call66 (ok_canon_Check _ _ hv1)⟩ ?_
  refine yee [0,4] ?_
  refine yyy hn 2 [0,4,12] ?_
  refine ht_cond _ rfl (fun hb2 => ?_) (fun hb2 => ?_)
  ·have h:=cond_t hb2 h
   refine yyy hn 3 [2,3] ?_
   refine ht_ret ?_
   refine pt_sub (fs:=[(2,.fl (.own 3) 1 (map (int .i64) [])),(3,vi v1)]) (.sub _ (sub_nil 3 1) rfl (.same _ .nil)) ?_
   refine pt_r_then ?_
   obtain rfl:=zi h
   exact pt_ret hio rfl (.tmp _ _ (.tmp _ _ .nil)) rfl rfl
  ·have h:=cond_f hb2 h
   refine ht_skip ?_
   refine pt_then (ht_seq ?_)
   obtain ⟨v3, hv3, h⟩:=zn h
   obtain ⟨v4, hv4, h⟩:=zn h
   obtain ⟨v5, hv5, h⟩:=zn h
   obtain ⟨v6, hv6, h⟩:=zn h
   refine yx hn 1 ?_
   refine ys 0 ⟨lk call68 (ok_canon_count _ _ hv3)⟩ ?_
   refine ys 0 ⟨lk call67 (ok_canon_firsts _ _ hv4)⟩ ?_
   refine yS (.arr 118 (map (int .i64) ((List.replicate 16 (0:Int))))) 0 ⟨oA (op_alloc_arr _ za118)⟩ ?_
   refine yk [5] [16] ?_
   refine yt (5,.arr 118 (map (int .i64) v4)) 0 ⟨op_storeA_arr _ _ _ _ (sz118.trans (congrArg some (ln_len hv6))) rfl rfl (ln_ones (fun _=>rfl) _) ((ln_len (f:=int .i64) hv5).symm.trans (ln_len (f:=int .i64) hv6))⟩ ?_
   refine yee [0,5] ?_
   refine ht_seq ?_
   obtain ⟨v7, hv7, h⟩:=zn h
   refine yx hn 2 ?_
   refine yS (.fl (.own 3) 1 (map (int .i64) v7)) 0 ⟨op_mk (f:=int .i64) _ _ _ _ el73 (by decide) zr3 rfl rfl rfl hv7⟩ ?_
   refine ya 0 ?_
   refine yee [0,5,6] ?_
   refine ht_seq ?_
   refine yyy hn 3 [5,6,20,21,22] ?_
   refine ht_loopS h (fun ((s39,s40,s41):(List Int)×(List Int)×Int)=>[(5,.arr 118 (map (int .i64) s39)),(6,.fl (.own 3) 1 (map (int .i64) s40)),(20,fi lengths),(21,vi (lengths.length:Int)),(22,vi s41)]) (fun (s50:(List Int))=>[(6,.fl (.own 3) 1 (map (int .i64) s50))]) ?_ ?_
   ·rintro s50 h
    refine pt_then ?_
    refine yxx hn 0 ?_
    refine ym 0 ?_
    refine ya 1 ?_
    refine yee [2,3] ?_
    refine ht_ret ?_
    obtain rfl:=zi h
    exact pt_ret hio rfl (.tmp _ _ (.tmp _ _ .nil)) rfl rfl
   ·rintro u51 hl52 hr53 ⟨s39, s40, s41⟩ rr56 h ho54
    refine yyy hn 1 [5,6,20,21,22,23] ?_
    refine ht_seq ?_
    refine ht_cond _ rfl (fun hb57 => ?_) (fun hb57 => ?_)
    ·have h:=cond_t hb57 h
     refine ht_skip ?_
     refine pt_then (ht_seq ?_)
     refine ht_joinS h (fun ((s59,s60):(List Int)×(List Int))=>[(5,.arr 118 (map (int .i64) s59)),(6,.fl (.own 3) 1 (map (int .i64) s60)),(20,fi lengths),(21,vi (lengths.length:Int)),(22,vi s41)]) ?_ ?_
     ·rintro ⟨s59, s60⟩ h
      refine pt_then ?_
      obtain ⟨v27, hv27, h⟩:=zn h
      refine yx hn 0 ?_
      refine ys 0 ⟨lb hv27⟩ ?_
      refine yw [22] 1 ?_
      refine ye [5,6,20,21,22] ?_
      exact pt_next _ (zi h).symm rfl
     ·intro u61 h hl62 hr63
      refine ht_block ?_
      refine ht_seq ?_
      obtain ⟨v9, hv9, h⟩:=zn h
      obtain ⟨v10, hv10, h⟩:=zn h
      refine yx hn 1 ?_
      refine ys 0 ⟨li hv9⟩ ?_
      refine ys 2 ⟨ll hv10⟩ ?_
      refine yee [5,6,20,21,22,7,8] ?_
      refine yyy hn 2 [5,6,20,21,22,7,8,28] ?_
      refine ht_cond _ rfl (fun hb64 => ?_) (fun hb64 => ?_)
      ·have h:=cond_t hb64 h
       refine ht_seq ?_
       obtain ⟨v12, hv12, h⟩:=zn h
       obtain ⟨v13, hv13, h⟩:=zn h
       obtain ⟨v14, hv14, h⟩:=zn h
       obtain ⟨v15, hv15, h⟩:=zn h
       refine yx hn 3 ?_
       refine yS (.ptr 5 v12) 0 ⟨op_ix_arr _ _ _ _ 16 5 _ underlying118 sz3 rfl rfl (ix_ok hv12).1 (ix_ok hv12).2 (by decide)⟩ ?_
       refine yS (vi v13) 0 ⟨op_load_arr _ _ _ _ _ _ underlying3 rfl rfl rfl (map_get1 hv13)⟩ ?_
       refine ys 0 ⟨li hv14⟩ ?_
       refine yk [6] [34,33] ?_
       refine yt (6,.fl (.own 3) 1 (map (int .i64) v15)) 0 ⟨op_store_e _ _ _ _ _ _ _ _ sz3 rfl rfl rfl (by decide) (map_lt (ix_ok hv14).2) ((map_set (f:=int .i64) _ (ix_ok hv14).2).trans (congrArg (map _) (Option.some.inj hv15)))⟩ ?_
       refine yee [5,6,20,21,22,8] ?_
       obtain ⟨v16, hv16, h⟩:=zn h
       obtain ⟨v17, hv17, h⟩:=zn h
       obtain ⟨v18, hv18, h⟩:=zn h
       obtain ⟨v19, hv19, h⟩:=zn h
       obtain ⟨v20, hv20, h⟩:=zn h
       refine yx hn 1 ?_
       refine yS (.ptr 5 v16) 0 ⟨op_ix_arr _ _ _ _ 16 5 _ underlying118 sz3 rfl rfl (ix_ok hv16).1 (ix_ok hv16).2 (by decide)⟩ ?_
       refine yS (vi v17) 0 ⟨op_load_arr _ _ _ _ _ _ underlying3 rfl rfl rfl (map_get1 hv17)⟩ ?_
       refine ys 0 ⟨lb hv18⟩ ?_
       refine yS (.ptr 5 v19) 0 ⟨op_ix_arr _ _ _ _ 16 5 _ underlying118 sz3 rfl rfl (ix_ok hv19).1 (ix_ok hv19).2 (by decide)⟩ ?_
       refine yk [5] [39,38] ?_
       refine yt (5,.arr 118 (map (int .i64) v20)) 0 ⟨op_store_arr _ _ _ _ _ _ sz3 rfl rfl rfl rfl (set_lt hv20) (set_eq (f:=int .i64) hv20)⟩ ?_
       refine ye [5,6,20,21,22] ?_
       refine pt_inb ?_
       exact hl62 _ (zi h).symm
      ·have h:=cond_f hb64 h
       refine ht_skip ?_
       refine pt_inb ?_
       refine pt_pick [0,1,2,3,4] (by kernel_rfl) (es':=[(_,_),(_,_),(_,_),(_,_),(_,_)]) rfl ?_
       exact hl62 _ (zi h).symm
    ·have h:=cond_f hb57 h
     refine ht_exit ?_
     refine pt_x_then ?_
     refine pt_x_then ?_
     refine pt_x_in ?_
     refine pt_pick [1] (by kernel_rfl) (es':=[(_,_)]) rfl ?_
     exact hl52 _ (ho54 _ (zi h).symm).symm
theorem ok_shrink_newCode_ro (lengths:(List Int)) (r:T_shrink_code) (h:Sh.shrink_newCode_ro lengths=some r):FnOK Tryd.prog 35 [.fl .ro 1 (map (int .i64) lengths)] (.agg [.fl .ro 1 (map (int .i64) r.lengths), .fl .ro 1 (map (int .i64) r.codes)]):=by
  unfold Sh.shrink_newCode_ro at h
  refine yO 13 func35 fun g0 hn hio => ?_
  refine yxx hn 0 ?_
  refine yS (.box 78 [vz,vz]) 0 ⟨oA (op_alloc _ _ zr78)⟩ ?_
  refine yee [0,2] ?_
  refine ht_seq ?_
  obtain ⟨v1, hv1, h⟩:=zn h
  refine yx hn 1 ?_
  refine ys 0 ⟨lk call48 (ok_canon_Codes _ _ hv1)⟩ ?_
  refine ym 0 ?_
  refine yx_ 1 ?_
  refine ya 1 ?_
  refine yee [0,2,3] ?_
  refine yxx hn 1 ?_
  refine ym 0 ?_
  refine yk [11] [10] ?_
  refine yt (12,.agg [.fl .ro 1 (map (int .i64) lengths),.fl (.own 3) 1 (map (int .i64) v1.1)]) 0 ⟨op_build _ _ _ _ [1,1] _ _ underlying78 zr78 (fs78 _ underlying78) (.copy _ (.take _ _ Src.nil)) rfl rfl rfl⟩ ?_
  refine yk [12,2] [] ?_
  refine yt (2,.box 78 [.fl .ro 1 (map (int .i64) lengths),.fl (.own 3) 1 (map (int .i64) v1.1)]) 0 ⟨op_store_take _ _ _ _ _ _ _ _ sz78 rfl rfl rfl (zl rfl) rfl rfl⟩ ?_
  refine yee [2] ?_
  refine ht_ret ?_
  refine pt_frz 0 hio (es':=[(2, .box 78 [.fl .ro 1 (map (int .i64) lengths),.fl .ro 1 (map (int .i64) v1.1)])]) rfl ?_
  obtain rfl:=zi h
  exact pt_ret hio rfl (.cellA _ _ _ _ underlying78 rfl sz78 .nil) rfl rfl
theorem ok_bits_fits (v:Int) (n:Int) (r:Bool) (h:Sh.bits_fits v n=some r):FnOK Tryd.prog 25 [.v (.int .i64 v), .v (.int .i64 n)] (.v (.bool r)):=by
  unfold Sh.bits_fits at h
  refine yO 21 func25 fun g0 hn hio => ?_
  refine yyy hn 1 [0,1] ?_
  refine ht_seq ?_
  refine ht_joinS h (fun (s2:Bool)=>[(4,vb s2)]) ?_ ?_
  ·rintro s2 h
   refine pt_then (ht_ret ?_)
   obtain rfl:=zi h
   exact pt_ret hio rfl (.tmp _ _ .nil) rfl rfl
  ·intro u3 h hl4 hr5
   refine cond_some h (fun hg1_2 h => ?_) (fun hg1_2 h => ?_)
   ·refine cond_some h (fun hg1_6 h => ?_) (fun hg1_6 h => ?_)
    ·refine cond_some h (fun hg1_10 h => ?_) (fun hg1_10 h => ?_)
     ·obtain ⟨v1, hv1, h⟩:=zn h
      refine yx hn 3 ?_
      refine yd hg1_2 4 ?_
      refine yd hg1_6 4 ?_
      refine yd hg1_10 2 ?_
      refine ys 3 ⟨lB (shl_ok hv1)⟩ ?_
      refine ye [4] ?_
      exact hl4 _ (zi h).symm
     ·refine yx hn 3 ?_
      refine yd hg1_2 4 ?_
      refine yd hg1_6 4 ?_
      refine yd hg1_10 6 ?_
      refine ye [4] ?_
      exact hl4 _ (zi h).symm
    ·refine yx hn 3 ?_
     refine yd hg1_2 4 ?_
     refine yd hg1_6 10 ?_
     refine ye [4] ?_
     exact hl4 _ (zi h).symm
   ·refine yx hn 3 ?_
    refine yd hg1_2 14 ?_
    refine ye [4] ?_
    exact hl4 _ (zi h).symm
theorem ok_bits_Turn (v:Int) (n:Int) (r:(Int×Int)) (h:Sh.bits_Turn v n=some r):FnOK Tryd.prog 18 [.v (.int .i64 v), .v (.int .i64 n)] (.tup [.v (.int .i64 r.1), .v (.int .i64 r.2)]):=by
  unfold Sh.bits_Turn at h
  refine yO 27 func18 fun g0 hn hio => ?_
  refine yyy hn 2 [0,1] ?_
  refine ht_seq ?_
  refine ht_seq ?_
  obtain ⟨v1, hv1, h⟩:=zn h
  refine yx hn 2 ?_
  refine ys 1 ⟨lk call25 (ok_bits_fits _ _ _ hv1)⟩ ?_
  refine yee [0,1,11] ?_
  refine ht_cond _ rfl (fun hb2 => ?_) (fun hb2 => ?_)
  ·have h:=cond_t hb2 h
   refine yyy hn 2 [4,5] ?_
   refine ht_ret ?_
   refine pt_r_then ?_
   obtain rfl:=zi h
   exact pt_ret hio rfl (.tmp _ _ (.tmp _ _ .nil)) rfl rfl
  ·have h:=cond_f hb2 h
   refine ht_skip ?_
   refine pt_then ?_
   refine yyy hn 1 [0,1,6] ?_
   refine ht_seq ?_
   refine ht_seq ?_
   obtain ⟨v3, hv3, h⟩:=zn h
   refine yx hn 1 ?_
   refine ys 1 ⟨lv hv3⟩ ?_
   refine yee [1,6,7] ?_
   refine ht_loopS h (fun ((s14,s15,s16):Int×Int×Int)=>[(1,vi s14),(6,.v (.int .u32 s15)),(7,.v (.int .u32 s16))]) (fun (s18:Int)=>[(6,.v (.int .u32 s18))]) ?_ ?_
   ·rintro s18 h
    refine pt_then (ht_seq ?_)
    obtain ⟨v26, hv26, h⟩:=zn h
    refine yx hn 1 ?_
    refine ys 2 ⟨lv hv26⟩ ?_
    refine yee [4,5] ?_
    refine ht_ret ?_
    obtain rfl:=zi h
    exact pt_ret hio rfl (.tmp _ _ (.tmp _ _ .nil)) rfl rfl
   ·rintro u19 hl20 hr21 ⟨s14, s15, s16⟩ rr24 h ho22
    refine ht_seq ?_
    refine yyy hn 2 [1,6,7,15] ?_
    refine ht_cond _ rfl (fun hb25 => ?_) (fun hb25 => ?_)
    ·have h:=cond_t hb25 h
     refine ht_skip ?_
     refine pt_then (ht_seq ?_)
     refine ht_block ?_
     refine ht_seq ?_
     obtain ⟨v5, hv5, h⟩:=zn h
     obtain ⟨v6, hv6, h⟩:=zn h
     obtain ⟨v7, hv7, h⟩:=zn h
     refine yx hn 1 ?_
     refine ys 1 ⟨lB (shl_ok hv5)⟩ ?_
     refine ys 0 ⟨lb hv6⟩ ?_
     refine ys 0 ⟨lb hv7⟩ ?_
     refine yw [6] 1 ?_
     refine yee [1,7,6] ?_
     obtain ⟨v8, hv8, h⟩:=zn h
     refine yx hn 1 ?_
     refine ys 0 ⟨lB (shr_ok hv8)⟩ ?_
     refine yw [7] 1 ?_
     refine ye [1,6,7] ?_
     refine pt_inb ?_
     refine pt_then ?_
     obtain ⟨v9, hv9, h⟩:=zn h
     refine yx hn 1 ?_
     refine ys 0 ⟨lb hv9⟩ ?_
     refine yw [1] 1 ?_
     refine ye [6,7,1] ?_
     refine pt_pick [2,0,1] (by kernel_rfl) (es':=[(_,_),(_,_),(_,_)]) rfl ?_
     exact pt_next _ (zi h).symm rfl
    ·have h:=cond_f hb25 h
     refine ht_exit ?_
     refine pt_x_then ?_
     refine pt_x_then ?_
     refine pt_x_in ?_
     refine pt_pick [1] (by kernel_rfl) (es':=[(_,_)]) rfl ?_
     exact hl20 _ (ho22 _ (zi h).symm).symm
theorem ok_shrink_writer_putSym (w:T_shrink_writer) (c:T_shrink_code) (s:Int) (r:T_shrink_writer) (h:Sh.shrink_writer_putSym w c s=some r):FnP Tryd.prog 45 [.box 54 [.fl (.own 5) 1 (map (int .u8) w.b), .v (.int .i64 w.n)], .agg [.fl .shr 1 (map (int .i64) c.lengths), .fl .shr 1 (map (int .i64) c.codes)], .v (.int .i64 s)] [.box 54 [.fl (.own 5) 1 (map (int .u8) r.b), .v (.int .i64 r.n)]] (.tup []):=by
  unfold Sh.shrink_writer_putSym at h
  refine yP 30 func45 fun args0 hargs0 g0 hn hio => ?_
  refine yyy hn 1 [0,2,4,0] ?_
  refine ht_seq ?_
  obtain ⟨v1, hv1, h⟩:=zn h
  obtain ⟨v2, hv2, h⟩:=zn h
  obtain ⟨v3, hv3, h⟩:=zn h
  obtain ⟨v4, hv4, h⟩:=zn h
  obtain ⟨v5, hv5, h⟩:=zn h
  refine wb [[4],[9,4],[2]] ?_
  refine wN [10,11] ?_
  refine wo [] ⟨li hv1⟩ ?_
  refine wN [12,10] ?_
  refine wo [[4],[14,4],[2]] ⟨ll hv2⟩ ?_
  refine wN [15,16] ?_
  refine wo [] ⟨li hv3⟩ ?_
  refine wN [17,15] ?_
  refine wo [] ⟨ll hv4⟩ ?_
  refine wN [13,18] ?_
  refine wo [] ⟨lk call18 (ok_bits_Turn _ _ _ hv5)⟩ ?_
  refine wK [19] [] ?_
  refine wt [(8,.tup [vi v5.1,vi v5.2])] [[8],[8],[20],[21]] ⟨op_move_take _ _ _ _ rfl⟩ ?_
  refine wee hn [0,2,4,6,0] ?_
  obtain ⟨v6, hv6, h⟩:=zn h
  obtain ⟨v7, hv7, h⟩:=zn h
  obtain ⟨v8, hv8, h⟩:=zn h
  refine yx hn 5 ?_
  refine ys 0 ⟨li hv6⟩ ?_
  refine ys 0 ⟨ll hv7⟩ ?_
  refine yQ call32 (ok_shrink_writer_put _ _ _ _ hv8) 0 [22,23,28] 0 ?_
  refine ye [0,0] ?_
  obtain rfl:=zi h
  exact pt_endP (es:=[]) (posts:=[.box 54 [.fl (.own 5) 1 (map (int .u8) v8.b), .v (.int .i64 v8.n)]]) hio rfl rfl .nil rfl rfl hargs0 rfl
theorem ok_sym_lens (r:T_sym_scale) (h:Sh.sym_lens  = some r):FnOK Tryd.prog 63 [] (.agg [.v (.int .i64 r.least), .v (.int .i64 r.singles), .v (.int .i64 r.group)]):=by
  unfold Sh.sym_lens at h
  refine yO 2 func63 fun g0 hn hio => ?_
  refine yxx hn 0 ?_
  refine yS (.box 113 [vi 0,vi 0,vi 0]) 0 ⟨oA (op_alloc _ _ zr113)⟩ ?_
  refine yee [0] ?_
  refine yxx hn 0 ?_
  refine yS (.agg [vi 3,vi 8,vi 4]) 1 ⟨op_build _ _ _ _ [1,1,1] _ _ underlying113 zr113 (fs113 _ underlying113) (.copy _ (.copy _ (.copy _ Src.nil))) rfl rfl rfl⟩ ?_
  refine yee [0] ?_
  refine ht_ret ?_
  obtain rfl:=zi h
  exact pt_ret hio rfl (.cellA _ _ _ _ underlying113 rfl sz113 .nil) rfl rfl
theorem ok_sym_scale_symbol (s:T_sym_scale) (sym:Int) (r:(Int×Int)) (h:Sh.sym_scale_symbol s sym=some r):FnOK Tryd.prog 82 [.agg [.v (.int .i64 s.least), .v (.int .i64 s.singles), .v (.int .i64 s.group)], .v (.int .i64 sym)] (.tup [.v (.int .i64 r.1), .v (.int .i64 r.2)]):=by
  unfold Sh.sym_scale_symbol at h
  refine yO 46 func82 fun g0 hn hio => ?_
  refine yyy hn 3 [1,2] ?_
  refine ht_seq ?_
  refine yyy hn 4 [1,2,10] ?_
  refine ht_cond _ rfl (fun hb1 => ?_) (fun hb1 => ?_)
  ·have h:=cond_t hb1 h
   refine ht_seq ?_
   obtain ⟨v2, hv2, h⟩:=zn h
   refine yx hn 3 ?_
   refine ys 2 ⟨lb hv2⟩ ?_
   refine yee [4,5] ?_
   refine ht_ret ?_
   refine pt_r_then ?_
   obtain rfl:=zi h
   exact pt_ret hio rfl (.tmp _ _ (.tmp _ _ .nil)) rfl rfl
  ·have h:=cond_f hb1 h
   refine ht_skip ?_
   refine pt_then (ht_seq ?_)
   obtain ⟨v3, hv3, h⟩:=zn h
   refine yx hn 4 ?_
   refine ys 1 ⟨lb hv3⟩ ?_
   refine yee [1,2,4] ?_
   refine yyy hn 1 [1,2,4,6] ?_
   refine ht_seq ?_
   refine ht_seq ?_
   obtain ⟨v4, hv4, h⟩:=zn h
   refine yx hn 3 ?_
   refine ys 0 ⟨lb hv4⟩ ?_
   refine yw [1] 1 ?_
   refine yee [2,4,6,1] ?_
   refine ht_loopS h (fun ((s14,s15,s16):Int×Int×Int)=>[(2,.box 113 [vi s.least,vi s.singles,vi s.group]),(4,vi s14),(6,vi s15),(1,vi s16)]) (fun ((s18,s19,s20):Int×Int×Int)=>[(4,vi s18),(6,vi s19),(1,vi s20)]) ?_ ?_
   ·rintro ⟨s18, s19, s20⟩ h
    refine pt_then (ht_seq ?_)
    obtain ⟨v28, hv28, h⟩:=zn h
    obtain ⟨v29, hv29, h⟩:=zn h
    refine yx hn 3 ?_
    refine ys 0 ⟨lB (shl_ok hv28)⟩ ?_
    refine ys 1 ⟨lb hv29⟩ ?_
    refine yw [4] 2 ?_
    refine yee [4,5] ?_
    refine ht_ret ?_
    obtain rfl:=zi h
    exact pt_ret hio rfl (.tmp _ _ (.tmp _ _ .nil)) rfl rfl
   ·rintro u21 hl22 hr23 ⟨s14, s15, s16⟩ rr26 h ho24
    refine ht_seq ?_
    refine yyy hn 4 [2,4,6,1,27] ?_
    refine ht_cond _ rfl (fun hb27 => ?_) (fun hb27 => ?_)
    ·have h:=cond_t hb27 h
     refine ht_skip ?_
     refine pt_then (ht_seq ?_)
     refine ht_block ?_
     refine ht_seq ?_
     obtain ⟨v6, hv6, h⟩:=zn h
     obtain ⟨v7, hv7, h⟩:=zn h
     refine yx hn 4 ?_
     refine ys 0 ⟨lB (shl_ok hv6)⟩ ?_
     refine ys 0 ⟨lb hv7⟩ ?_
     refine yw [4] 1 ?_
     refine yee [2,6,1,4] ?_
     obtain ⟨v8, hv8, h⟩:=zn h
     refine yx hn 1 ?_
     refine ys 0 ⟨lb hv8⟩ ?_
     refine yw [6] 1 ?_
     refine ye [2,1,4,6] ?_
     refine pt_inb ?_
     refine pt_then ?_
     obtain ⟨v9, hv9, h⟩:=zn h
     refine yx hn 3 ?_
     refine ys 0 ⟨lb hv9⟩ ?_
     refine yw [1] 1 ?_
     refine ye [2,4,6,1] ?_
     exact pt_next _ (zi h).symm rfl
    ·have h:=cond_f hb27 h
     refine ht_exit ?_
     refine pt_x_then ?_
     refine pt_x_then ?_
     refine pt_x_in ?_
     refine pt_pick [1,2,3] (by kernel_rfl) (es':=[(_,_),(_,_),(_,_)]) rfl ?_
     exact hl22 _ (ho24 _ (zi h).symm).symm
theorem ok_sym_scale_find (s:T_sym_scale) (n:Int) (r:(Int×Int×Int)) (h:Sh.sym_scale_find s n=some r):FnOK Tryd.prog 64 [.agg [.v (.int .i64 s.least), .v (.int .i64 s.singles), .v (.int .i64 s.group)], .v (.int .i64 n)] (.tup [.v (.int .i64 r.1), .v (.int .i64 r.2.1), .v (.int .i64 r.2.2)]):=by
  unfold Sh.sym_scale_find at h
  refine yO 28 func64 fun g0 hn hio => ?_
  refine yyy hn 4 [1,2,4] ?_
  refine ht_loopS h (fun (s9:Int)=>[(1,vi n),(2,.box 113 [vi s.least,vi s.singles,vi s.group]),(4,vi s9)]) (fun (():Unit)=>[]) ?_ ?_
  ·rintro ⟨⟩ h
   cases h
  ·rintro u11 hl12 hr13 s9 rr16 h ho14
   refine ht_block ?_
   refine ht_seq ?_
   obtain ⟨v1, hv1, h⟩:=zn h
   refine yx hn 2 ?_
   refine ys 0 ⟨lk call82 (ok_sym_scale_symbol _ _ _ hv1)⟩ ?_
   refine ym 4 ?_
   refine yee [1,2,4,7,8] ?_
   refine ht_seq ?_
   refine ht_seq ?_
   obtain ⟨v2, hv2, h⟩:=zn h
   obtain ⟨v3, hv3, h⟩:=zn h
   refine yx hn 2 ?_
   refine ys 1 ⟨lb hv2⟩ ?_
   refine ys 1 ⟨lB (shl_ok hv3)⟩ ?_
   refine yee [1,2,4,7,8,20] ?_
   refine ht_cond _ rfl (fun hb17 => ?_) (fun hb17 => ?_)
   ·have h:=cond_t hb17 h
    refine ht_seq ?_
    obtain ⟨v5, hv5, h⟩:=zn h
    refine yx hn 4 ?_
    refine ys 0 ⟨lb hv5⟩ ?_
    refine yw [4] 3 ?_
    refine yee [4,5,6] ?_
    refine ht_ret ?_
    refine pt_r_then ?_
    refine pt_r_in ?_
    refine pt_r_then ?_
    refine pt_r_in ?_
    have h:=hr13 _ (ho14 _ (zi h).symm).symm
    obtain rfl:=zi h
    exact pt_ret hio rfl (.tmp _ _ (.tmp _ _ (.tmp _ _ .nil))) rfl rfl
   ·have h:=cond_f hb17 h
    refine ht_skip ?_
    refine pt_then ?_
    obtain ⟨v6, hv6, h⟩:=zn h
    refine yx hn 1 ?_
    refine ys 0 ⟨lb hv6⟩ ?_
    refine yw [4] 1 ?_
    refine ye [1,2,4] ?_
    refine pt_inb ?_
    exact pt_next _ (zi h).symm rfl
theorem ok_sym_Len (n:Int) (r:(Int×Int×Int×Int)) (h:Sh.sym_Len n=some r):FnOK Tryd.prog 46 [.v (.int .i64 n)] (.tup [.v (.int .i64 r.1), .v (.int .i64 r.2.1), .v (.int .i64 r.2.2.1), .v (.int .i64 r.2.2.2)]):=by
  unfold Sh.sym_Len at h
  refine yO 25 func46 fun g0 hn hio => ?_
  refine yyy hn 4 [0] ?_
  refine ht_seq ?_
  refine ht_seq ?_
  refine ht_joinS h (fun (s1:Bool)=>[(0,vi n),(11,vb s1)]) ?_ ?_
  ·rintro s1 h
   refine pt_then ?_
   refine ht_cond _ rfl (fun hb5 => ?_) (fun hb5 => ?_)
   ·have h:=cond_t hb5 h
    refine yyy hn 4 [2,3,4,5] ?_
    refine ht_ret ?_
    refine pt_r_then ?_
    obtain rfl:=zi h
    exact pt_ret hio rfl (.tmp _ _ (.tmp _ _ (.tmp _ _ (.tmp _ _ .nil)))) rfl rfl
   ·have h:=cond_f hb5 h
    refine ht_skip ?_
    refine pt_then (ht_seq ?_)
    refine yyy hn 2 [0,13] ?_
    refine ht_cond _ rfl (fun hb6 => ?_) (fun hb6 => ?_)
    ·have h:=cond_t hb6 h
     refine yyy hn 4 [2,3,4,5] ?_
     refine ht_ret ?_
     refine pt_r_then ?_
     obtain rfl:=zi h
     exact pt_ret hio rfl (.tmp _ _ (.tmp _ _ (.tmp _ _ (.tmp _ _ .nil)))) rfl rfl
    ·have h:=cond_f hb6 h
     refine ht_skip ?_
     refine pt_then (ht_seq ?_)
     obtain ⟨v7, hv7, h⟩:=zn h
     obtain ⟨v8, hv8, h⟩:=zn h
     refine yx hn 0 ?_
     refine ys 1 ⟨lk call63 (ok_sym_lens _ hv7)⟩ ?_
     refine ys 0 ⟨lk call64 (ok_sym_scale_find _ _ _ hv8)⟩ ?_
     refine ym 6 ?_
     refine yee [2,3,4] ?_
     refine ht_seq ?_
     obtain ⟨v9, hv9, h⟩:=zn h
     refine yx hn 1 ?_
     refine ys 2 ⟨lb hv9⟩ ?_
     refine yw [2] 1 ?_
     refine yw [3] 1 ?_
     refine yw [4] 2 ?_
     refine yee [2,3,4,5] ?_
     refine ht_ret ?_
     obtain rfl:=zi h
     exact pt_ret hio rfl (.tmp _ _ (.tmp _ _ (.tmp _ _ (.tmp _ _ .nil)))) rfl rfl
  ·intro u2 h hl3 hr4
   refine cond_some h (fun hg1_2 h => ?_) (fun hg1_2 h => ?_)
   ·refine yx hn 3 ?_
    refine yd hg1_2 3 ?_
    refine ye [0,11] ?_
    exact hl3 _ (zi h).symm
   ·refine yx hn 3 ?_
    refine yd hg1_2 3 ?_
    refine ye [0,11] ?_
    exact hl3 _ (zi h).symm
theorem ok_sym_dists (r:T_sym_scale) (h:Sh.sym_dists  = some r):FnOK Tryd.prog 65 [] (.agg [.v (.int .i64 r.least), .v (.int .i64 r.singles), .v (.int .i64 r.group)]):=by
  unfold Sh.sym_dists at h
  refine yO 2 func65 fun g0 hn hio => ?_
  refine yxx hn 0 ?_
  refine yS (.box 113 [vi 0,vi 0,vi 0]) 0 ⟨oA (op_alloc _ _ zr113)⟩ ?_
  refine yee [0] ?_
  refine yxx hn 0 ?_
  refine yS (.agg [vi 1,vi 4,vi 2]) 1 ⟨op_build _ _ _ _ [1,1,1] _ _ underlying113 zr113 (fs113 _ underlying113) (.copy _ (.copy _ (.copy _ Src.nil))) rfl rfl rfl⟩ ?_
  refine yee [0] ?_
  refine ht_ret ?_
  obtain rfl:=zi h
  exact pt_ret hio rfl (.cellA _ _ _ _ underlying113 rfl sz113 .nil) rfl rfl
theorem ok_sym_Dist (n:Int) (r:(Int×Int×Int×Int)) (h:Sh.sym_Dist n=some r):FnOK Tryd.prog 47 [.v (.int .i64 n)] (.tup [.v (.int .i64 r.1), .v (.int .i64 r.2.1), .v (.int .i64 r.2.2.1), .v (.int .i64 r.2.2.2)]):=by
  unfold Sh.sym_Dist at h
  refine yO 22 func47 fun g0 hn hio => ?_
  refine yyy hn 4 [0] ?_
  refine ht_seq ?_
  refine ht_seq ?_
  refine ht_joinS h (fun (s1:Bool)=>[(0,vi n),(11,vb s1)]) ?_ ?_
  ·rintro s1 h
   refine pt_then ?_
   refine ht_cond _ rfl (fun hb5 => ?_) (fun hb5 => ?_)
   ·have h:=cond_t hb5 h
    refine yyy hn 4 [2,3,4,5] ?_
    refine ht_ret ?_
    refine pt_r_then ?_
    obtain rfl:=zi h
    exact pt_ret hio rfl (.tmp _ _ (.tmp _ _ (.tmp _ _ (.tmp _ _ .nil)))) rfl rfl
   ·have h:=cond_f hb5 h
    refine ht_skip ?_
    refine pt_then (ht_seq ?_)
    obtain ⟨v6, hv6, h⟩:=zn h
    obtain ⟨v7, hv7, h⟩:=zn h
    refine yx hn 0 ?_
    refine ys 1 ⟨lk call65 (ok_sym_dists _ hv6)⟩ ?_
    refine ys 0 ⟨lk call64 (ok_sym_scale_find _ _ _ hv7)⟩ ?_
    refine ym 6 ?_
    refine yee [2,3,4] ?_
    refine yxx hn 3 ?_
    refine yw [2] 1 ?_
    refine yw [3] 1 ?_
    refine yw [4] 2 ?_
    refine yee [2,3,4,5] ?_
    refine ht_ret ?_
    obtain rfl:=zi h
    exact pt_ret hio rfl (.tmp _ _ (.tmp _ _ (.tmp _ _ (.tmp _ _ .nil)))) rfl rfl
  ·intro u2 h hl3 hr4
   refine cond_some h (fun hg1_2 h => ?_) (fun hg1_2 h => ?_)
   ·refine yx hn 3 ?_
    refine yd hg1_2 3 ?_
    refine ye [0,11] ?_
    exact hl3 _ (zi h).symm
   ·refine yx hn 3 ?_
    refine yd hg1_2 3 ?_
    refine ye [0,11] ?_
    exact hl3 _ (zi h).symm
theorem ok_shrink_writer_putTokens (w:T_shrink_writer) (l:(List T_Tok)) (lits:T_shrink_code) (dists:T_shrink_code) (r:T_shrink_writer) (h:Sh.shrink_writer_putTokens w l lits dists=some r):FnP Tryd.prog 34 [.box 54 [.fl (.own 5) 1 (map (int .u8) w.b), .v (.int .i64 w.n)], .fl .shr 3 (flatten (map T_Tok.enc l)), .agg [.fl .shr 1 (map (int .i64) lits.lengths), .fl .shr 1 (map (int .i64) lits.codes)], .agg [.fl .shr 1 (map (int .i64) dists.lengths), .fl .shr 1 (map (int .i64) dists.codes)]] [.box 54 [.fl (.own 5) 1 (map (int .u8) r.b), .v (.int .i64 r.n)]] (.tup []):=by
  unfold Sh.shrink_writer_putTokens at h
  refine yP 65 func34 fun args0 hargs0 g0 hn hio => ?_
  refine yyy hn 2 [0,1,6,7,0] ?_
  refine ht_seq ?_
  refine yyy hn 3 [0,6,7,14,15,16,0] ?_
  refine ht_loopS h (fun ((s31,s32,s33):(List Int)×Int×Int)=>[(0,.box 54 [.fl (.own 5) 1 (map (int .u8) s31),vi s32]),(6,.box 78 [fi lits.lengths,fi lits.codes]),(7,.box 78 [fi dists.lengths,fi dists.codes]),(14,.fl .shr 3 (flatten (map T_Tok.enc l))),(15,vi (l.length:Int)),(16,vi s33),(0,.v (List.getD args0 0 undef))]) (fun ((s42,s43):(List Int)×Int)=>[(0,.box 54 [.fl (.own 5) 1 (map (int .u8) s42),vi s43]),(6,.box 78 [fi lits.lengths,fi lits.codes]),(0,.v (List.getD args0 0 undef))]) ?_ ?_
  ·rintro ⟨s42, s43⟩ h
   refine pt_then ?_
   obtain ⟨v58, hv58, h⟩:=zn h
   refine yx hn 2 ?_
   refine yQ call45 (ok_shrink_writer_putSym _ _ _ _ hv58) 0 [62,63] 0 ?_
   refine ye [0,0] ?_
   obtain rfl:=zi h
   exact pt_endP (es:=[]) (posts:=[.box 54 [.fl (.own 5) 1 (map (int .u8) v58.b), .v (.int .i64 v58.n)]]) hio rfl rfl .nil rfl rfl hargs0 rfl
  ·rintro u44 hl45 hr46 ⟨s31, s32, s33⟩ rr49 h ho47
   refine yyy hn 1 [0,6,7,14,15,16,17,0] ?_
   refine ht_seq ?_
   refine ht_cond _ rfl (fun hb50 => ?_) (fun hb50 => ?_)
   ·have h:=cond_t hb50 h
    refine ht_skip ?_
    refine pt_then (ht_seq ?_)
    refine ht_joinS h (fun ((s52,s53):(List Int)×Int)=>[(0,.box 54 [.fl (.own 5) 1 (map (int .u8) s52),vi s53]),(6,.box 78 [fi lits.lengths,fi lits.codes]),(7,.box 78 [fi dists.lengths,fi dists.codes]),(14,.fl .shr 3 (flatten (map T_Tok.enc l))),(15,vi (l.length:Int)),(16,vi s33),(0,.v (List.getD args0 0 undef))]) ?_ ?_
    ·rintro ⟨s52, s53⟩ h
     refine pt_then ?_
     obtain ⟨v19, hv19, h⟩:=zn h
     refine yx hn 0 ?_
     refine ys 0 ⟨lb hv19⟩ ?_
     refine yw [16] 1 ?_
     refine ye [0,6,7,14,15,16,0] ?_
     exact pt_next _ (zi h).symm rfl
    ·intro u54 h hl55 hr56
     refine ht_block ?_
     refine ht_seq ?_
     obtain ⟨v2, hv2, h⟩:=zn h
     obtain ⟨v3, hv3, h⟩:=zn h
     refine yx hn 0 ?_
     refine ys 0 ⟨lj hv2⟩ ?_
     refine yS (.agg [.v (.int .u8 v3.Byte),vi v3.Len,vi v3.Dist]) 0 ⟨op_load_eA _ _ _ _ _ _ _ underlying69 rfl sz69 rfl rfl (flat_get T_Tok.len hv3) rfl (by decide)⟩ ?_
     refine yS (.box 69 [.v (.int .u8 0),vi 0,vi 0]) 1 ⟨oA (op_alloc _ _ zr69)⟩ ?_
     refine yee [0,6,7,14,15,16,9,0] ?_
     refine ht_seq ?_
     refine yyy hn 3 [0,6,7,14,15,16,9,22,0] ?_
     refine ht_cond _ rfl (fun hb57 => ?_) (fun hb57 => ?_)
     ·have h:=cond_t hb57 h
      refine ht_seq ?_
      obtain ⟨v5, hv5, h⟩:=zn h
      obtain ⟨v6, hv6, h⟩:=zn h
      refine yx hn 4 ?_
      refine ys 0 ⟨lv hv5⟩ ?_
      refine yQ call45 (ok_shrink_writer_putSym _ _ _ _ hv6) 0 [23,24,27] 0 ?_
      refine yee [0,6,7,14,15,16,0] ?_
      refine ht_exit ?_
      refine pt_x_then ?_
      refine pt_x_in ?_
      exact hl55 _ (zi h).symm
     ·have h:=cond_f hb57 h
      refine ht_skip ?_
      refine pt_then (ht_seq ?_)
      obtain ⟨v7, hv7, h⟩:=zn h
      refine yx hn 2 ?_
      refine ys 0 ⟨lk call46 (ok_sym_Len _ _ hv7)⟩ ?_
      refine ym 8 ?_
      refine yee [0,6,7,14,15,16,9,10,11,12,0] ?_
      refine ht_seq ?_
      obtain ⟨v8, hv8, h⟩:=zn h
      refine yx hn 3 ?_
      refine yQ call45 (ok_shrink_writer_putSym _ _ _ _ hv8) 0 [37,38,39] 0 ?_
      refine yee [0,6,7,14,15,16,9,11,12,0] ?_
      refine ht_seq ?_
      obtain ⟨v9, hv9, h⟩:=zn h
      refine yx hn 3 ?_
      refine yQ call32 (ok_shrink_writer_put _ _ _ _ hv9) 0 [41,42,43] 0 ?_
      refine yee [0,6,7,14,15,16,9,0] ?_
      refine ht_seq ?_
      obtain ⟨v10, hv10, h⟩:=zn h
      refine yx hn 2 ?_
      refine ys 0 ⟨lk call47 (ok_sym_Dist _ _ hv10)⟩ ?_
      refine ym 7 ?_
      refine yee [0,6,7,14,15,16,10,11,12,0] ?_
      refine ht_seq ?_
      obtain ⟨v11, hv11, h⟩:=zn h
      refine yx hn 3 ?_
      refine yQ call45 (ok_shrink_writer_putSym _ _ _ _ hv11) 0 [53,54,55] 0 ?_
      refine yee [0,6,7,14,15,16,11,12,0] ?_
      obtain ⟨v12, hv12, h⟩:=zn h
      refine yx hn 3 ?_
      refine yQ call32 (ok_shrink_writer_put _ _ _ _ hv12) 0 [57,58,59] 0 ?_
      refine ye [0,6,7,14,15,16,0] ?_
      refine pt_inb ?_
      exact hl55 _ (zi h).symm
   ·have h:=cond_f hb50 h
    refine ht_exit ?_
    refine pt_x_then ?_
    refine pt_x_then ?_
    refine pt_x_in ?_
    refine pt_pick [0,1,7] (by kernel_rfl) (es':=[(_,_),(_,_),(_,_)]) rfl ?_
    exact hl45 _ (ho47 _ (zi h).symm).symm
theorem ok_shrink_fixedBlock (l:(List T_Tok)) (r:(Option T_shrink_writer)) (h:Sh.shrink_fixedBlock l=some r):FnOK Tryd.prog 22 [.fl .shr 3 (flatten (map T_Tok.enc l))] (.obox (Option.isSome r) 54 [.fl (.own 5) 1 (map (int .u8) (((Option.getD r (default:T_shrink_writer))).b)), .v (.int .i64 (((Option.getD r (default:T_shrink_writer))).n))]):=by
  unfold Sh.shrink_fixedBlock at h
  refine yO 19 func22 fun g0 hn hio => ?_
  refine yyy hn 1 [0] ?_
  refine ht_seq ?_
  obtain ⟨v1, hv1, h⟩:=zn h
  refine yx hn 0 ?_
  refine ys 0 ⟨lk call31 (ok_shrink_newBlock _ _ hv1)⟩ ?_
  refine ya 0 ?_
  refine ye [0,3] ?_
  refine pt_ob (d:=default) (f:=fun (v2:T_shrink_writer)=>[.fl (.own 5) 1 (map (int .u8) v2.b), .v (.int .i64 v2.n)]) 1 2 3 54 h (es1:=fun v2=>[(0, .fl .shr 3 (flatten (map T_Tok.enc l))), (3, .box 54 [.fl (.own 5) 1 (map (int .u8) v2.b), .v (.int .i64 v2.n)])]) (es0:=[(0, .fl .shr 3 (flatten (map T_Tok.enc l))), (3, .v (.pointer none))]) rfl (fun _=>rfl) (by kernel_rfl) (fun _=>rfl) (fun _=>rfl) rfl (fun v2 hv3 h => ?_) (fun hv3 h => ?_)
  ·refine pt_then (ht_seq ?_)
   obtain ⟨v4, hv4, h⟩:=zn h
   refine yx hn 0 ?_
   refine ys 0 ⟨lk call33 (ok_sym_Fixed _ hv4)⟩ ?_
   refine ym 0 ?_
   refine yx_ 0 ?_
   refine yx_ 0 ?_
   refine ya 0 ?_
   refine ya 0 ?_
   refine yee [0,3,4,5] ?_
   refine ht_seq ?_
   refine ht_frz 2 hio (es':=[(0, .fl .shr 3 (flatten (map T_Tok.enc l))), (3, .box 54 [.fl (.own 5) 1 (map (int .u8) v2.b), .v (.int .i64 v2.n)]), (4, .fl .ro 1 (map (int .i64) v4.1)), (5, .fl (.own 3) 1 (map (int .i64) v4.2))]) rfl ?_
   refine ht_frz 3 hio (es':=[(0, .fl .shr 3 (flatten (map T_Tok.enc l))), (3, .box 54 [.fl (.own 5) 1 (map (int .u8) v2.b), .v (.int .i64 v2.n)]), (4, .fl .ro 1 (map (int .i64) v4.1)), (5, .fl .ro 1 (map (int .i64) v4.2))]) rfl ?_
   obtain ⟨v5, hv5, h⟩:=zn h
   obtain ⟨v6, hv6, h⟩:=zn h
   obtain ⟨v7, hv7, h⟩:=zn h
   refine yx hn 3 ?_
   refine ys 1 ⟨lr call35 (ok_shrink_newCode_ro _ _ hv5)⟩ ?_
   refine ys 0 ⟨lr call35 (ok_shrink_newCode_ro _ _ hv6)⟩ ?_
   refine yQ call34 (ok_shrink_writer_putTokens _ _ _ _ _ hv7) 3 [11,12,14,16] 0 ?_
   refine yee [3] ?_
   refine yxx hn 0 ?_
   refine ym 0 ?_
   refine ya 0 ?_
   refine yee [2] ?_
   refine ht_ret ?_
   refine pt_sub (fs:=[(2,.obox true 54 [.fl (.own 5) 1 (map (int .u8) v7.b),vi v7.n])]) (.sub _ (sub_ob_box 54 (subs_refl _)) rfl .nil) ?_
   obtain rfl:=zi h
   exact pt_ret hio rfl (.tmp _ _ .nil) rfl rfl
  ·cases h
theorem ok_match_validMatch (t:T_Tok) (r:Bool) (h:Sh.match_validMatch t=some r):FnOK Tryd.prog 69 [.agg [.v (.int .u8 t.Byte), .v (.int .i64 t.Len), .v (.int .i64 t.Dist)]] (.v (.bool r)):=by
  unfold Sh.match_validMatch at h
  refine yO 26 func69 fun g0 hn hio => ?_
  refine yyy hn 2 [1] ?_
  refine ht_seq ?_
  refine ht_joinS h (fun (s1:Bool)=>[(2,vb s1)]) ?_ ?_
  ·rintro s1 h
   refine pt_then (ht_ret ?_)
   obtain rfl:=zi h
   exact pt_ret hio rfl (.tmp _ _ .nil) rfl rfl
  ·intro u2 h hl3 hr4
   refine cond_some h (fun hg1_3 h => ?_) (fun hg1_3 h => ?_)
   ·refine cond_some h (fun hg1_8 h => ?_) (fun hg1_8 h => ?_)
    ·refine cond_some h (fun hg1_13 h => ?_) (fun hg1_13 h => ?_)
     ·refine cond_some h (fun hg1_18 h => ?_) (fun hg1_18 h => ?_)
      ·refine yx hn 4 ?_
       refine yd hg1_3 5 ?_
       refine yd hg1_8 5 ?_
       refine yd hg1_13 5 ?_
       refine yd hg1_18 5 ?_
       refine ye [2] ?_
       exact hl3 _ (zi h).symm
      ·refine yx hn 4 ?_
       refine yd hg1_3 5 ?_
       refine yd hg1_8 5 ?_
       refine yd hg1_13 5 ?_
       refine yd hg1_18 5 ?_
       refine ye [2] ?_
       exact hl3 _ (zi h).symm
     ·refine yx hn 4 ?_
      refine yd hg1_3 5 ?_
      refine yd hg1_8 5 ?_
      refine yd hg1_13 10 ?_
      refine ye [2] ?_
      exact hl3 _ (zi h).symm
    ·refine yx hn 4 ?_
     refine yd hg1_3 5 ?_
     refine yd hg1_8 15 ?_
     refine ye [2] ?_
     exact hl3 _ (zi h).symm
   ·refine yx hn 4 ?_
    refine yd hg1_3 20 ?_
    refine ye [2] ?_
    exact hl3 _ (zi h).symm
theorem ok_match_Check (l:(List T_Tok)) (r:Int) (h:Sh.match_Check l=some r):FnOK Tryd.prog 49 [.fl .shr 3 (flatten (map T_Tok.enc l))] (.v (.int .i64 r)):=by
  unfold Sh.match_Check at h
  refine yO 39 func49 fun g0 hn hio => ?_
  refine yyy hn 1 [0] ?_
  refine yyy hn 1 [0,3] ?_
  refine ht_seq ?_
  refine yyy hn 3 [3,6,7,8] ?_
  refine ht_loopS h (fun ((s115,s116):Int×Int)=>[(3,vi s115),(6,.fl .shr 3 (flatten (map T_Tok.enc l))),(7,vi (l.length:Int)),(8,vi s116)]) (fun (s170:Int)=>[(3,vi s170)]) ?_ ?_
  ·rintro s170 h
   refine pt_then (ht_seq ?_)
   refine yyy hn 2 [38] ?_
   refine ht_cond _ rfl (fun hb230 => ?_) (fun hb230 => ?_)
   ·have h:=cond_t hb230 h
    refine yyy hn 1 [2] ?_
    refine ht_ret ?_
    refine pt_r_then ?_
    obtain rfl:=zi h
    exact pt_ret hio rfl (.tmp _ _ .nil) rfl rfl
   ·have h:=cond_f hb230 h
    refine ht_skip ?_
    refine pt_then ?_
    refine yyy hn 1 [2] ?_
    refine ht_ret ?_
    obtain rfl:=zi h
    exact pt_ret hio rfl (.tmp _ _ .nil) rfl rfl
  ·rintro u171 hl172 hr173 ⟨s115, s116⟩ rr176 h ho174
   refine yyy hn 1 [3,6,7,8,9] ?_
   refine ht_seq ?_
   refine ht_cond _ rfl (fun hb177 => ?_) (fun hb177 => ?_)
   ·have h:=cond_t hb177 h
    refine ht_skip ?_
    refine pt_then (ht_seq ?_)
    refine ht_joinS h (fun (s202:Int)=>[(6,.fl .shr 3 (flatten (map T_Tok.enc l))),(7,vi (l.length:Int)),(8,vi s116),(3,vi s202)]) ?_ ?_
    ·rintro s202 h
     refine pt_then ?_
     obtain ⟨v59, hv59, h⟩:=zn h
     refine yx hn 0 ?_
     refine ys 0 ⟨lb hv59⟩ ?_
     refine yw [8] 1 ?_
     refine ye [6,7,3,8] ?_
     refine pt_pick [2,0,1,3] (by kernel_rfl) (es':=[(_,_),(_,_),(_,_),(_,_)]) rfl ?_
     exact pt_next _ (zi h).symm rfl
    ·intro u203 h hl204 hr205
     refine ht_block ?_
     refine ht_seq ?_
     obtain ⟨v2, hv2, h⟩:=zn h
     obtain ⟨v3, hv3, h⟩:=zn h
     refine yx hn 0 ?_
     refine ys 0 ⟨lj hv2⟩ ?_
     refine yS (.agg [.v (.int .u8 v3.Byte),vi v3.Len,vi v3.Dist]) 0 ⟨op_load_eA _ _ _ _ _ _ _ underlying69 rfl sz69 rfl rfl (flat_get T_Tok.len hv3) rfl (by decide)⟩ ?_
     refine yS (.box 69 [.v (.int .u8 0),vi 0,vi 0]) 1 ⟨oA (op_alloc _ _ zr69)⟩ ?_
     refine yee [3,6,7,8,5] ?_
     refine ht_joinS h (fun (s216:Int)=>[(6,.fl .shr 3 (flatten (map T_Tok.enc l))),(7,vi (l.length:Int)),(8,vi s116),(3,vi s216)]) ?_ ?_
     ·rintro s216 h
      refine pt_inb ?_
      exact hl204 _ (zi h).symm
     ·intro u217 h hl218 hr219
      refine ht_block ?_
      refine ht_seq ?_
      refine ht_joinS h (fun (s220:Bool)=>[(3,vi s115),(6,.fl .shr 3 (flatten (map T_Tok.enc l))),(7,vi (l.length:Int)),(8,vi s116),(5,.box 69 [.v (.int .u8 v3.Byte),vi v3.Len,vi v3.Dist]),(12,vb s220)]) ?_ ?_
      ·rintro s220 h
       refine pt_then ?_
       refine ht_cond _ rfl (fun hb224 => ?_) (fun hb224 => ?_)
       ·have h:=cond_t hb224 h
        obtain ⟨v9, hv9, h⟩:=zn h
        refine yx hn 1 ?_
        refine ys 0 ⟨lb hv9⟩ ?_
        refine yw [3] 1 ?_
        refine ye [6,7,8,3] ?_
        refine pt_inb ?_
        exact hl218 _ (zi h).symm
       ·have h:=cond_f hb224 h
        refine ht_seq ?_
        refine ht_joinS h (fun (s225:Bool)=>[(3,vi s115),(6,.fl .shr 3 (flatten (map T_Tok.enc l))),(7,vi (l.length:Int)),(8,vi s116),(5,.box 69 [.v (.int .u8 v3.Byte),vi v3.Len,vi v3.Dist]),(23,vb s225)]) ?_ ?_
        ·rintro s225 h
         refine pt_then ?_
         refine ht_cond _ rfl (fun hb229 => ?_) (fun hb229 => ?_)
         ·have h:=cond_t hb229 h
          obtain ⟨v16, hv16, h⟩:=zn h
          refine yx hn 3 ?_
          refine ys 0 ⟨lb hv16⟩ ?_
          refine yw [3] 1 ?_
          refine ye [6,7,8,3] ?_
          refine pt_inb ?_
          exact hl218 _ (zi h).symm
         ·have h:=cond_f hb229 h
          refine yyy hn 1 [2] ?_
          refine ht_ret ?_
          refine pt_r_in ?_
          refine pt_r_in ?_
          refine pt_r_then ?_
          refine pt_r_then ?_
          refine pt_r_in ?_
          refine pt_r_then ?_
          have h:=hr219 _ (zi h).symm
          have h:=hr205 _ (zi h).symm
          have h:=hr173 _ (ho174 _ (zi h).symm).symm
          obtain rfl:=zi h
          exact pt_ret hio rfl (.tmp _ _ .nil) rfl rfl
        ·intro u226 h hl227 hr228
         obtain ⟨v10, hv10, h⟩:=zn h
         refine cond_some h (fun hg8_2 h => ?_) (fun hg8_2 h => ?_)
         ·refine yx hn 1 ?_
          refine ys 1 ⟨lk call69 (ok_match_validMatch _ _ hv10)⟩ ?_
          refine yd hg8_2 6 ?_
          refine ye [3,6,7,8,5,23] ?_
          exact hl227 _ (zi h).symm
         ·refine yx hn 1 ?_
          refine ys 1 ⟨lk call69 (ok_match_validMatch _ _ hv10)⟩ ?_
          refine yd hg8_2 6 ?_
          refine ye [3,6,7,8,5,23] ?_
          exact hl227 _ (zi h).symm
      ·intro u221 h hl222 hr223
       refine cond_some h (fun hg6_3 h => ?_) (fun hg6_3 h => ?_)
       ·refine yx hn 4 ?_
        refine yd hg6_3 5 ?_
        refine ye [3,6,7,8,5,12] ?_
        exact hl222 _ (zi h).symm
       ·refine yx hn 4 ?_
        refine yd hg6_3 5 ?_
        refine ye [3,6,7,8,5,12] ?_
        exact hl222 _ (zi h).symm
   ·have h:=cond_f hb177 h
    refine ht_exit ?_
    refine pt_x_then ?_
    refine pt_x_then ?_
    refine pt_x_in ?_
    refine pt_pick [0] (by kernel_rfl) (es':=[(_,_)]) rfl ?_
    exact hl172 _ (ho174 _ (zi h).symm).symm
end Go.Proofs.YthceldoojddpiaaDoor
