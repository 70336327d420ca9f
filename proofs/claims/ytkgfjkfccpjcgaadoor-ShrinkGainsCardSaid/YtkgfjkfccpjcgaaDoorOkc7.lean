/-
  The model's runs are what is told in Lean.
-/
import Derived.Test.YtkgfjkfccpjcgaaDoorProg
import Derived.KernelRfl
import Derived.Test.YtkgfjkfccpjcgaaDoorShelf
import Derived.Test.YtkgfjkfccpjcgaaDoorB2
import Derived.Test.YtkgfjkfccpjcgaaDoorB4
import Derived.Test.YtkgfjkfccpjcgaaDoorB5
import Derived.Test.YtkgfjkfccpjcgaaDoorB8
import Derived.Test.YtkgfjkfccpjcgaaDoorSrt
import Derived.Test.YtkgfjkfccpjcgaaDoorB9
import Derived.Test.YtkgfjkfccpjcgaaDoorShr
import Derived.Test.YtkgfjkfccpjcgaaDoorC1
import Derived.Test.YtkgfjkfccpjcgaaDoorOkc6
set_option linter.unusedVariables false
set_option linter.unusedSimpArgs false
set_option maxHeartbeats 1000000
namespace Go.Proofs.YtkgfjkfccpjcgaaDoor
open Go.Abs Go.Abs.Sh Tryd
open List (map flatten)
open Value (int)
theorem ok_wherrylaw06_wakes (mx:Int) (r:Bool) (h:Sh.wherrylaw06_wakes  = some r):FnG Tryd.prog (GL mx) 21 [] (.v (.bool r)):=by
  unfold Sh.wherrylaw06_wakes at h
  refine yG 53 func21 fun g0 hn hio => ?_
  refine yyy hn 1 [53] ?_
  refine ht_seq ?_
  obtain ⟨v1, hv1, h⟩:=zn h
  refine yx hn 0 ?_
  refine yS (.tup [.fl (.own 5) 1 (map (int .u8) v1.1),vi v1.2]) 0 ⟨op_callG _ _ 53 16 _ _ rfl call16 rfl rfl (fun _ h=>h) ((ok_shrink_Shrink mx [] _ hv1).args (subs_cons (sub_nil_shr 1) (subs_nil))) rfl rfl⟩ ?_
  refine ym 0 ?_
  refine yx_ 1 ?_
  refine ya 1 ?_
  refine yee [53,1,2] ?_
  refine ht_seq ?_
  obtain ⟨v2, hv2, h⟩:=zn h
  refine yx hn 0 ?_
  refine yS (.fl (.own 5) 1 (map (int .u8) [7])) 0 ⟨op_buildSlice _ _ 1 (.int .u8 0) (map (int .u8) [7]) [(0,.int .u8 7)] underlying22 sz5 zr5 (fun _ V w o a hv hes=>by simp only [List.map_toArray,List.map_cons,List.map_nil]; try rfl) (litfill (by simp [Instr.fill,Value.cells]; rfl) (by simp [List.range,List.range.loop] <;> rfl)) (by simp [Value.oneCell']) rfl (by decide) (by decide) (by decide)⟩ ?_
  refine ys 0 ⟨lk call13 (ok_shrink_Stored _ _ hv2)⟩ ?_
  refine ym 0 ?_
  refine yx_ 1 ?_
  refine ya 1 ?_
  refine yee [53,1,2,3,4] ?_
  refine ht_seq ?_
  obtain ⟨v3, hv3, h⟩:=zn h
  refine yx hn 0 ?_
  refine yS (.fl (.own 3) 1 (map (int .i64) [0,0,0,4])) 0 ⟨op_buildSlice _ _ 1 (.int .i64 0) (map (int .i64) [0,0,0,4]) [(0,.int .i64 0),(1,.int .i64 0),(2,.int .i64 0),(3,.int .i64 4)] underlying37 sz3 zr3 (fun _ V w o a hv hes=>by simp only [List.map_toArray,List.map_cons,List.map_nil]; try rfl) (litfill (by simp [Instr.fill,Value.cells]; rfl) (by simp [List.range,List.range.loop] <;> rfl)) (by simp [Value.oneCell']) rfl (by decide) (by decide) (by decide)⟩ ?_
  refine ys 0 ⟨lk call24 (ok_shrink_Row _ _ hv3)⟩ ?_
  refine ym 0 ?_
  refine yx_ 0 ?_
  refine yx_ 1 ?_
  refine ya 0 ?_
  refine ya 1 ?_
  refine yee [53,1,2,3,4,5,6,7] ?_
  refine ht_seq ?_
  refine ht_joinS h (fun (s8:Bool)=>[(53,.glob (GL mx)),(0,vb s8)]) ?_ ?_
  ·rintro s8 h
   refine pt_then (ht_ret ?_)
   refine pt_pick [1] (by kernel_rfl) (es':=[(_,_)]) rfl ?_
   obtain rfl:=zi h
   exact pt_ret hio rfl (.tmp _ _ .nil) rfl rfl
  ·intro u9 h hl10 hr11
   refine cond_some h (fun hg4_2 h => ?_) (fun hg4_2 h => ?_)
   ·refine cond_some h (fun hg4_6 h => ?_) (fun hg4_6 h => ?_)
    ·refine cond_some h (fun hg4_10 h => ?_) (fun hg4_10 h => ?_)
     ·obtain ⟨v4, hv4, h⟩:=zn h
      refine cond_some h (fun hg4_15 h => ?_) (fun hg4_15 h => ?_)
      ·obtain ⟨v5, hv5, h⟩:=zn h
       refine cond_some h (fun hg4_20 h => ?_) (fun hg4_20 h => ?_)
       ·obtain ⟨v6, hv6, h⟩:=zn h
        refine cond_some h (fun hg4_25 h => ?_) (fun hg4_25 h => ?_)
        ·obtain ⟨v7, hv7, h⟩:=zn h
         refine yx hn 3 ?_
         refine yd hg4_2 4 ?_
         refine yd hg4_6 4 ?_
         refine yd hg4_10 0 ?_
         refine ym 0 ?_
         refine yS (.fl (.own 5) 1 (map (int .u8) [3,0])) 0 ⟨op_buildSlice _ _ 1 (.int .u8 0) (map (int .u8) [3,0]) [(0,.int .u8 3),(1,.int .u8 0)] underlying22 sz5 zr5 (fun _ V w o a hv hes=>by simp only [List.map_toArray,List.map_cons,List.map_nil]; try rfl) (litfill (by simp [Instr.fill,Value.cells]; rfl) (by simp [List.range,List.range.loop] <;> rfl)) (by simp [Value.oneCell']) rfl (by decide) (by decide) (by decide)⟩ ?_
         refine ys 2 ⟨lk call17 (ok_wherrykeep_Bytes _ _ _ hv4)⟩ ?_
         refine yd hg4_15 0 ?_
         refine ym 0 ?_
         refine yS (.fl (.own 5) 1 (map (int .u8) [1,1,0,254,255,7])) 0 ⟨op_buildSlice _ _ 1 (.int .u8 0) (map (int .u8) [1,1,0,254,255,7]) [(0,.int .u8 1),(1,.int .u8 1),(2,.int .u8 0),(3,.int .u8 254),(4,.int .u8 255),(5,.int .u8 7)] underlying22 sz5 zr5 (fun _ V w o a hv hes=>by simp only [List.map_toArray,List.map_cons,List.map_nil]; try rfl) (litfill (by simp [Instr.fill,Value.cells]; rfl) (by simp [List.range,List.range.loop] <;> rfl)) (by simp [Value.oneCell']) rfl (by decide) (by decide) (by decide)⟩ ?_
         refine ys 2 ⟨lk call17 (ok_wherrykeep_Bytes _ _ _ hv5)⟩ ?_
         refine yd hg4_20 0 ?_
         refine ym 0 ?_
         refine yS (.fl (.own 3) 1 (map (int .i64) [17,4])) 0 ⟨op_buildSlice _ _ 1 (.int .i64 0) (map (int .i64) [17,4]) [(0,.int .i64 17),(1,.int .i64 4)] underlying37 sz3 zr3 (fun _ V w o a hv hes=>by simp only [List.map_toArray,List.map_cons,List.map_nil]; try rfl) (litfill (by simp [Instr.fill,Value.cells]; rfl) (by simp [List.range,List.range.loop] <;> rfl)) (by simp [Value.oneCell']) rfl (by decide) (by decide) (by decide)⟩ ?_
         refine ys 2 ⟨lk call26 (ok_wherrykeep_Ints _ _ _ hv6)⟩ ?_
         refine yd hg4_25 0 ?_
         refine ym 0 ?_
         refine yS (.fl (.own 3) 1 (map (int .i64) [0,0])) 0 ⟨op_buildSlice _ _ 1 (.int .i64 0) (map (int .i64) [0,0]) [(0,.int .i64 0),(1,.int .i64 0)] underlying37 sz3 zr3 (fun _ V w o a hv hes=>by simp only [List.map_toArray,List.map_cons,List.map_nil]; try rfl) (litfill (by simp [Instr.fill,Value.cells]; rfl) (by simp [List.range,List.range.loop] <;> rfl)) (by simp [Value.oneCell']) rfl (by decide) (by decide) (by decide)⟩ ?_
         refine ys 2 ⟨lk call26 (ok_wherrykeep_Ints _ _ _ hv7)⟩ ?_
         refine ye [53,0] ?_
         exact hl10 _ (zi h).symm
        ·refine yx hn 3 ?_
         refine yd hg4_2 4 ?_
         refine yd hg4_6 4 ?_
         refine yd hg4_10 0 ?_
         refine ym 0 ?_
         refine yS (.fl (.own 5) 1 (map (int .u8) [3,0])) 0 ⟨op_buildSlice _ _ 1 (.int .u8 0) (map (int .u8) [3,0]) [(0,.int .u8 3),(1,.int .u8 0)] underlying22 sz5 zr5 (fun _ V w o a hv hes=>by simp only [List.map_toArray,List.map_cons,List.map_nil]; try rfl) (litfill (by simp [Instr.fill,Value.cells]; rfl) (by simp [List.range,List.range.loop] <;> rfl)) (by simp [Value.oneCell']) rfl (by decide) (by decide) (by decide)⟩ ?_
         refine ys 2 ⟨lk call17 (ok_wherrykeep_Bytes _ _ _ hv4)⟩ ?_
         refine yd hg4_15 0 ?_
         refine ym 0 ?_
         refine yS (.fl (.own 5) 1 (map (int .u8) [1,1,0,254,255,7])) 0 ⟨op_buildSlice _ _ 1 (.int .u8 0) (map (int .u8) [1,1,0,254,255,7]) [(0,.int .u8 1),(1,.int .u8 1),(2,.int .u8 0),(3,.int .u8 254),(4,.int .u8 255),(5,.int .u8 7)] underlying22 sz5 zr5 (fun _ V w o a hv hes=>by simp only [List.map_toArray,List.map_cons,List.map_nil]; try rfl) (litfill (by simp [Instr.fill,Value.cells]; rfl) (by simp [List.range,List.range.loop] <;> rfl)) (by simp [Value.oneCell']) rfl (by decide) (by decide) (by decide)⟩ ?_
         refine ys 2 ⟨lk call17 (ok_wherrykeep_Bytes _ _ _ hv5)⟩ ?_
         refine yd hg4_20 0 ?_
         refine ym 0 ?_
         refine yS (.fl (.own 3) 1 (map (int .i64) [17,4])) 0 ⟨op_buildSlice _ _ 1 (.int .i64 0) (map (int .i64) [17,4]) [(0,.int .i64 17),(1,.int .i64 4)] underlying37 sz3 zr3 (fun _ V w o a hv hes=>by simp only [List.map_toArray,List.map_cons,List.map_nil]; try rfl) (litfill (by simp [Instr.fill,Value.cells]; rfl) (by simp [List.range,List.range.loop] <;> rfl)) (by simp [Value.oneCell']) rfl (by decide) (by decide) (by decide)⟩ ?_
         refine ys 2 ⟨lk call26 (ok_wherrykeep_Ints _ _ _ hv6)⟩ ?_
         refine yd hg4_25 5 ?_
         refine ye [53,0] ?_
         exact hl10 _ (zi h).symm
       ·refine yx hn 3 ?_
        refine yd hg4_2 4 ?_
        refine yd hg4_6 4 ?_
        refine yd hg4_10 0 ?_
        refine ym 0 ?_
        refine yS (.fl (.own 5) 1 (map (int .u8) [3,0])) 0 ⟨op_buildSlice _ _ 1 (.int .u8 0) (map (int .u8) [3,0]) [(0,.int .u8 3),(1,.int .u8 0)] underlying22 sz5 zr5 (fun _ V w o a hv hes=>by simp only [List.map_toArray,List.map_cons,List.map_nil]; try rfl) (litfill (by simp [Instr.fill,Value.cells]; rfl) (by simp [List.range,List.range.loop] <;> rfl)) (by simp [Value.oneCell']) rfl (by decide) (by decide) (by decide)⟩ ?_
        refine ys 2 ⟨lk call17 (ok_wherrykeep_Bytes _ _ _ hv4)⟩ ?_
        refine yd hg4_15 0 ?_
        refine ym 0 ?_
        refine yS (.fl (.own 5) 1 (map (int .u8) [1,1,0,254,255,7])) 0 ⟨op_buildSlice _ _ 1 (.int .u8 0) (map (int .u8) [1,1,0,254,255,7]) [(0,.int .u8 1),(1,.int .u8 1),(2,.int .u8 0),(3,.int .u8 254),(4,.int .u8 255),(5,.int .u8 7)] underlying22 sz5 zr5 (fun _ V w o a hv hes=>by simp only [List.map_toArray,List.map_cons,List.map_nil]; try rfl) (litfill (by simp [Instr.fill,Value.cells]; rfl) (by simp [List.range,List.range.loop] <;> rfl)) (by simp [Value.oneCell']) rfl (by decide) (by decide) (by decide)⟩ ?_
        refine ys 2 ⟨lk call17 (ok_wherrykeep_Bytes _ _ _ hv5)⟩ ?_
        refine yd hg4_20 10 ?_
        refine ye [53,0] ?_
        exact hl10 _ (zi h).symm
      ·refine yx hn 3 ?_
       refine yd hg4_2 4 ?_
       refine yd hg4_6 4 ?_
       refine yd hg4_10 0 ?_
       refine ym 0 ?_
       refine yS (.fl (.own 5) 1 (map (int .u8) [3,0])) 0 ⟨op_buildSlice _ _ 1 (.int .u8 0) (map (int .u8) [3,0]) [(0,.int .u8 3),(1,.int .u8 0)] underlying22 sz5 zr5 (fun _ V w o a hv hes=>by simp only [List.map_toArray,List.map_cons,List.map_nil]; try rfl) (litfill (by simp [Instr.fill,Value.cells]; rfl) (by simp [List.range,List.range.loop] <;> rfl)) (by simp [Value.oneCell']) rfl (by decide) (by decide) (by decide)⟩ ?_
       refine ys 2 ⟨lk call17 (ok_wherrykeep_Bytes _ _ _ hv4)⟩ ?_
       refine yd hg4_15 15 ?_
       refine ye [53,0] ?_
       exact hl10 _ (zi h).symm
     ·refine yx hn 3 ?_
      refine yd hg4_2 4 ?_
      refine yd hg4_6 4 ?_
      refine yd hg4_10 20 ?_
      refine ye [53,0] ?_
      exact hl10 _ (zi h).symm
    ·refine yx hn 3 ?_
     refine yd hg4_2 4 ?_
     refine yd hg4_6 24 ?_
     refine ye [53,0] ?_
     exact hl10 _ (zi h).symm
   ·refine yx hn 3 ?_
    refine yd hg4_2 28 ?_
    refine ye [53,0] ?_
    exact hl10 _ (zi h).symm
end Go.Proofs.YtkgfjkfccpjcgaaDoor
