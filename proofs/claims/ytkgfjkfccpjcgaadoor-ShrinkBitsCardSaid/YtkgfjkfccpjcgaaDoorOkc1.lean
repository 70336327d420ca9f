/-
  The model's runs are what is told in Lean.
-/
import Derived.Test.YtkgfjkfccpjcgaaDoorProg
import Derived.KernelRfl
import Derived.Test.YtkgfjkfccpjcgaaDoorShelf
import Derived.Test.YtkgfjkfccpjcgaaDoorB2
import Derived.Test.YtkgfjkfccpjcgaaDoorB4
import Derived.Test.YtkgfjkfccpjcgaaDoorB5
import Derived.Test.YtkgfjkfccpjcgaaDoorB8
import Derived.Test.YtkgfjkfccpjcgaaDoorSrt
import Derived.Test.YtkgfjkfccpjcgaaDoorB9
import Derived.Test.YtkgfjkfccpjcgaaDoorShr
import Derived.Test.YtkgfjkfccpjcgaaDoorC1
import Derived.Test.YtkgfjkfccpjcgaaDoorSh
set_option linter.unusedVariables false
set_option linter.unusedSimpArgs false
set_option maxHeartbeats 1000000
namespace Go.Proofs.YtkgfjkfccpjcgaaDoor
open Go.Abs Go.Abs.Sh Tryd
open List (map flatten)
open Value (int)
def GL (mx : Int) : List (Nat × List Value) := [(0, (List.map (Value.int .i64) shrink_rowOrder))]
theorem gl_mem0 (mx : Int) : (0, ((List.map (Value.int .i64) shrink_rowOrder) : List Value)) ∈ GL mx := .head _
instance iUD22 : UD Tryd.prog 22 (.slice 5) := ⟨Tryd.underlying22⟩
theorem sz5 : (Tryd.prog.info? 5).map (·.size) = some 1 := by kernel_rfl
instance iSZ5 : SZ Tryd.prog 5 1 := ⟨by kernel_rfl⟩
instance iAG5 : AS Tryd.prog 5 := ⟨by kernel_rfl⟩
theorem fs53 : ∀ fs, Tryd.prog.underlying 53 = some (.struct fs) → fs.toList.map (fun f => (Tryd.prog.info? f.type).map (·.size)) = ([1, 1, 1] : List Nat).map some := by
  intro fs h
  rw [Tryd.underlying53] at h
  cases h
  kernel_rfl
theorem zr53 : (Tryd.prog.info? 53).bind (·.zero) = some (.agg #[.int .u8 0, .int .i64 0, .int .i64 0]) := by kernel_rfl
theorem sz53 : (Tryd.prog.info? 53).map (·.size) = some 3 := by kernel_rfl
theorem el45 : ElemT Tryd.prog 45 53 3 24 := ⟨⟨Tryd.t53, .agg #[.int .u8 0, .int .i64 0, .int .i64 0], Tryd.underlying45, by kernel_rfl, by kernel_rfl, by kernel_rfl, by kernel_rfl, by decide, by kernel_rfl⟩⟩
instance iLT_Tok : LenE T_Tok.enc 3 := ⟨T_Tok.len⟩
instance iUD45 : UD Tryd.prog 45 (.slice 53) := ⟨Tryd.underlying45⟩
theorem sz3 : (Tryd.prog.info? 3).map (·.size) = some 1 := by kernel_rfl
instance iSZ53 : SZ Tryd.prog 53 3 := ⟨by kernel_rfl⟩
instance iFO53_1 : FO Tryd.prog 53 1 1 := ⟨by kernel_rfl⟩
instance iAG3 : AS Tryd.prog 3 := ⟨by kernel_rfl⟩
instance iFO53_2 : FO Tryd.prog 53 2 2 := ⟨by kernel_rfl⟩
instance iFO53_0 : FO Tryd.prog 53 0 0 := ⟨by kernel_rfl⟩
theorem el37 : ElemT Tryd.prog 37 3 1 8 := ⟨⟨Tryd.t3, .int .i64 0, Tryd.underlying37, by kernel_rfl, by kernel_rfl, by kernel_rfl, by kernel_rfl, by decide, by kernel_rfl⟩⟩
theorem zr3 : (Tryd.prog.info? 3).bind (·.zero) = some (.int .i64 0) := by kernel_rfl
instance iUD37 : UD Tryd.prog 37 (.slice 3) := ⟨Tryd.underlying37⟩
instance iSZ3 : SZ Tryd.prog 3 1 := ⟨by kernel_rfl⟩
instance iUD5 : UD Tryd.prog 5 (.int .u8) := ⟨Tryd.underlying5⟩
instance iUD3 : UD Tryd.prog 3 (.int .i64) := ⟨Tryd.underlying3⟩
instance iUD34 : UD Tryd.prog 34 (.int .u64) := ⟨Tryd.underlying34⟩
theorem fs103 : ∀ fs, Tryd.prog.underlying 103 = some (.struct fs) → fs.toList.map (fun f => (Tryd.prog.info? f.type).map (·.size)) = ([1, 1, 1, 1] : List Nat).map some := by
  intro fs h
  rw [Tryd.underlying103] at h
  cases h
  kernel_rfl
theorem zr103 : (Tryd.prog.info? 103).bind (·.zero) = some (.agg #[.slice none 0 0, .map none, .slice none 0 0, .int .i64 0]) := by kernel_rfl
theorem za105 : ((Tryd.prog.info? 105).bind (·.zero)).map (·.cells.toList) = some (List.map (Value.int .u8) (List.replicate 3 (0 : Int))) := by kernel_rfl
theorem sz22 : (Tryd.prog.info? 22).map (·.size) = some 1 := by kernel_rfl
instance iFO103_0 : FO Tryd.prog 103 0 0 := ⟨by kernel_rfl⟩
instance iAG22 : AS Tryd.prog 22 := ⟨by kernel_rfl⟩
theorem zr105 : (Tryd.prog.info? 105).bind (·.zero) = some (.agg #[.int .u8 0, .int .u8 0, .int .u8 0]) := by kernel_rfl
theorem sz105 : (Tryd.prog.info? 105).map (·.size) = some 3 := by kernel_rfl
theorem mf101 : MapF Tryd.prog 101 105 3 3 := mapF_of Tryd.underlying101 Tryd.underlying3 zr3 Tryd.underlying105 Tryd.underlying5 (by kernel_rfl) (by kernel_rfl) (by kernel_rfl) (by kernel_rfl)
instance iFO103_1 : FO Tryd.prog 103 1 1 := ⟨by kernel_rfl⟩
instance iAG101 : AS Tryd.prog 101 := ⟨by kernel_rfl⟩
instance iFO103_3 : FO Tryd.prog 103 3 3 := ⟨by kernel_rfl⟩
theorem sz37 : (Tryd.prog.info? 37).map (·.size) = some 1 := by kernel_rfl
instance iFO103_2 : FO Tryd.prog 103 2 2 := ⟨by kernel_rfl⟩
instance iAG37 : AS Tryd.prog 37 := ⟨by kernel_rfl⟩
instance iAG53 : AA Tryd.prog 53 3 := ⟨by kernel_rfl⟩
theorem fs57 : ∀ fs, Tryd.prog.underlying 57 = some (.struct fs) → fs.toList.map (fun f => (Tryd.prog.info? f.type).map (·.size)) = ([1, 1] : List Nat).map some := by
  intro fs h
  rw [Tryd.underlying57] at h
  cases h
  kernel_rfl
theorem zr57 : (Tryd.prog.info? 57).bind (·.zero) = some (.agg #[.slice none 0 0, .int .i64 0]) := by kernel_rfl
instance iUD100 : UD Tryd.prog 100 (.int .u32) := ⟨Tryd.underlying100⟩
instance iFO57_1 : FO Tryd.prog 57 1 1 := ⟨by kernel_rfl⟩
theorem zr5 : (Tryd.prog.info? 5).bind (·.zero) = some (.int .u8 0) := by kernel_rfl
theorem el22 : ElemT Tryd.prog 22 5 1 1 := ⟨⟨Tryd.t5, .int .u8 0, Tryd.underlying22, by kernel_rfl, by kernel_rfl, by kernel_rfl, by kernel_rfl, by decide, by kernel_rfl⟩⟩
instance iFO57_0 : FO Tryd.prog 57 0 0 := ⟨by kernel_rfl⟩
theorem zr87 : (Tryd.prog.info? 87).bind (·.zero) = some (.agg #[.slice none 0 0, .slice none 0 0]) := by kernel_rfl
theorem za124 : ((Tryd.prog.info? 124).bind (·.zero)).map (·.cells.toList) = some (List.map (Value.int .i64) (List.replicate 16 (0 : Int))) := by kernel_rfl
theorem sz124 : (Tryd.prog.info? 124).map (·.size) = some 16 := by kernel_rfl
theorem zr124 : (Tryd.prog.info? 124).bind (·.zero) = some (.agg #[.int .i64 0, .int .i64 0, .int .i64 0, .int .i64 0, .int .i64 0, .int .i64 0, .int .i64 0, .int .i64 0, .int .i64 0, .int .i64 0, .int .i64 0, .int .i64 0, .int .i64 0, .int .i64 0, .int .i64 0, .int .i64 0]) := by kernel_rfl
theorem fs87 : ∀ fs, Tryd.prog.underlying 87 = some (.struct fs) → fs.toList.map (fun f => (Tryd.prog.info? f.type).map (·.size)) = ([1, 1] : List Nat).map some := by
  intro fs h
  rw [Tryd.underlying87] at h
  cases h
  kernel_rfl
theorem sz87 : (Tryd.prog.info? 87).map (·.size) = some 2 := by kernel_rfl
instance iFO87_1 : FO Tryd.prog 87 1 1 := ⟨by kernel_rfl⟩
instance iFO87_0 : FO Tryd.prog 87 0 0 := ⟨by kernel_rfl⟩
instance iAG87 : AA Tryd.prog 87 2 := ⟨by kernel_rfl⟩
theorem zr119 : (Tryd.prog.info? 119).bind (·.zero) = some (.agg #[.int .i64 0, .int .i64 0, .int .i64 0]) := by kernel_rfl
theorem fs119 : ∀ fs, Tryd.prog.underlying 119 = some (.struct fs) → fs.toList.map (fun f => (Tryd.prog.info? f.type).map (·.size)) = ([1, 1, 1] : List Nat).map some := by
  intro fs h
  rw [Tryd.underlying119] at h
  cases h
  kernel_rfl
theorem sz119 : (Tryd.prog.info? 119).map (·.size) = some 3 := by kernel_rfl
instance iAG119 : AA Tryd.prog 119 3 := ⟨by kernel_rfl⟩
instance iFO119_1 : FO Tryd.prog 119 1 1 := ⟨by kernel_rfl⟩
instance iFO119_0 : FO Tryd.prog 119 0 0 := ⟨by kernel_rfl⟩
instance iFO119_2 : FO Tryd.prog 119 2 2 := ⟨by kernel_rfl⟩
theorem el129 : ElemT Tryd.prog 129 131 2 16 := ⟨⟨Tryd.t131, .agg #[.int .i64 0, .int .i64 0], Tryd.underlying129, by kernel_rfl, by kernel_rfl, by kernel_rfl, by kernel_rfl, by decide, by kernel_rfl⟩⟩
theorem fs131 : ∀ fs, Tryd.prog.underlying 131 = some (.struct fs) → fs.toList.map (fun f => (Tryd.prog.info? f.type).map (·.size)) = ([1, 1] : List Nat).map some := by
  intro fs h
  rw [Tryd.underlying131] at h
  cases h
  kernel_rfl
theorem zr131 : (Tryd.prog.info? 131).bind (·.zero) = some (.agg #[.int .i64 0, .int .i64 0]) := by kernel_rfl
theorem sz131 : (Tryd.prog.info? 131).map (·.size) = some 2 := by kernel_rfl
instance iAG129 : AS Tryd.prog 129 := ⟨by kernel_rfl⟩
instance iUD129 : UD Tryd.prog 129 (.slice 131) := ⟨Tryd.underlying129⟩
instance iLiT_tree_node : LenI T_tree_node.ienc 2 := ⟨T_tree_node.ilen⟩
instance iSZ131 : SZ Tryd.prog 131 2 := ⟨by kernel_rfl⟩
instance iFO131_0 : FO Tryd.prog 131 0 0 := ⟨by kernel_rfl⟩
theorem sz129 : (Tryd.prog.info? 129).map (·.size) = some 1 := by kernel_rfl
instance iFO131_1 : FO Tryd.prog 131 1 1 := ⟨by kernel_rfl⟩
theorem sz113 : (Tryd.prog.info? 113).map (·.size) = some 19 := by kernel_rfl
theorem ok_wherryref01_in (n : Int) (lo : Int) (hi : Int) (r : Bool) (h : Sh.wherryref01_in n lo hi = some r) : FnOK Tryd.prog 50 [.v (.int .i64 n), .v (.int .i64 lo), .v (.int .i64 hi)] (.v (.bool r)) := by
  unfold Sh.wherryref01_in at h
  refine yO 15 func50 fun g0 hn hio => ?_
  refine yyy hn 1 [0,1,2] ?_
  refine ht_seq ?_
  refine ht_joinS h (fun (s1 : Bool) => [(6,vb s1)]) ?_ ?_
  ·rintro s1 h
   refine pt_then (ht_ret ?_)
   obtain rfl := zi h
   exact pt_ret hio rfl (.tmp _ _ .nil) rfl rfl
  ·intro u2 h hl3 hr4
   refine cond_some h (fun hg1_3 h => ?_) (fun hg1_3 h => ?_)
   ·refine yx hn 4 ?_
    refine yd hg1_3 5 ?_
    refine ye [6] ?_
    exact hl3 _ (zi h).symm
   ·refine yx hn 4 ?_
    refine yd hg1_3 5 ?_
    refine ye [6] ?_
    exact hl3 _ (zi h).symm
theorem ok_wherryref01_Best (b : (List Int)) (at_ : Int) (r : (Int × Int)) (h : Sh.wherryref01_Best b at_ = some r) : FnOK Tryd.prog 78 [.fl .shr 1 (map (int .u8) b), .v (.int .i64 at_)] (.tup [.v (.int .i64 r.1), .v (.int .i64 r.2)]) := by
  unfold Sh.wherryref01_Best at h
  refine yO 68 func78 fun g0 hn hio => ?_
  refine yyy hn 2 [0,1] ?_
  refine ht_seq ?_
  refine ht_seq ?_
  refine ht_joinS h (fun (s3 : Bool) => [(0,fb b),(1,vi at_),(20,vb s3)]) ?_ ?_
  ·rintro s3 h
   refine pt_then ?_
   refine ht_cond _ rfl (fun hb7 => ?_) (fun hb7 => ?_)
   ·have h := cond_t hb7 h
    refine yyy hn 2 [4,5] ?_
    refine ht_ret ?_
    refine pt_r_then ?_
    obtain rfl := zi h
    exact pt_ret hio rfl (.tmp _ _ (.tmp _ _ .nil)) rfl rfl
   ·have h := cond_f hb7 h
    refine ht_skip ?_
    refine pt_then ?_
    refine yyy hn 2 [0,1,6,7] ?_
    refine ht_seq ?_
    refine yyy hn 1 [0,1,6,7,8] ?_
    refine ht_loopS h (fun ((s161,s162,s163) : Int × Int × Int) => [(0,fb b),(1,vi at_),(6,vi s161),(7,vi s162),(8,vi s163)]) (fun ((s234,s235) : Int × Int) => [(6,vi s234),(7,vi s235)]) ?_ ?_
    ·rintro ⟨s234, s235⟩ h
     refine pt_then (ht_seq ?_)
     refine yyy hn 2 [6,7,65] ?_
     refine ht_cond _ rfl (fun hb312 => ?_) (fun hb312 => ?_)
     ·have h := cond_t hb312 h
      refine yyy hn 2 [4,5] ?_
      refine ht_ret ?_
      refine pt_r_then ?_
      obtain rfl := zi h
      exact pt_ret hio rfl (.tmp _ _ (.tmp _ _ .nil)) rfl rfl
     ·have h := cond_f hb312 h
      refine ht_skip ?_
      refine pt_then ?_
      refine yyy hn 4 [4,5] ?_
      refine ht_ret ?_
      obtain rfl := zi h
      exact pt_ret hio rfl (.tmp _ _ (.tmp _ _ .nil)) rfl rfl
    ·rintro u236 hl237 hr238 ⟨s161, s162, s163⟩ rr241 h ho239
     refine ht_seq ?_
     refine ht_seq ?_
     refine ht_joinS h (fun (s242 : Bool) => [(0,fb b),(1,vi at_),(6,vi s161),(7,vi s162),(8,vi s163),(27,vb s242)]) ?_ ?_
     ·rintro s242 h
      refine pt_then ?_
      refine ht_cond _ rfl (fun hb246 => ?_) (fun hb246 => ?_)
      ·have h := cond_t hb246 h
       refine ht_skip ?_
       refine pt_then (ht_seq ?_)
       refine ht_joinS h (fun ((s277,s278) : Int × Int) => [(0,fb b),(1,vi at_),(8,vi s163),(6,vi s277),(7,vi s278)]) ?_ ?_
       ·rintro ⟨s277, s278⟩ h
        refine pt_then ?_
        obtain ⟨v87, hv87, h⟩ := zn h
        refine yx hn 1 ?_
        refine ys 0 ⟨lb hv87⟩ ?_
        refine yw [8] 1 ?_
        refine ye [0,1,6,7,8] ?_
        exact pt_next _ (zi h).symm rfl
       ·intro u279 h hl280 hr281
        refine ht_block ?_
        refine yyy hn 1 [0,1,6,7,8,9] ?_
        refine ht_seq ?_
        refine ht_loopS h (fun (s293 : Int) => [(0,fb b),(1,vi at_),(6,vi s161),(7,vi s162),(8,vi s163),(9,vi s293)]) (fun (s299 : Int) => [(0,fb b),(1,vi at_),(6,vi s161),(7,vi s162),(8,vi s163),(9,vi s299)]) ?_ ?_
        ·rintro s299 h
         refine pt_then ?_
         refine yyy hn 3 [0,1,6,7,8,9,61] ?_
         refine ht_cond _ rfl (fun hb311 => ?_) (fun hb311 => ?_)
         ·have h := cond_t hb311 h
          refine yx hn 2 ?_
          refine yw [6] 1 ?_
          refine yw [7] 1 ?_
          refine ye [0,1,8,6,7] ?_
          refine pt_inb ?_
          exact hl280 _ (zi h).symm
         ·have h := cond_f hb311 h
          refine ht_skip ?_
          refine pt_inb ?_
          refine pt_pick [0,1,4,2,3] (by kernel_rfl) (es' := [(_,_),(_,_),(_,_),(_,_),(_,_)]) rfl ?_
          exact hl280 _ (zi h).symm
        ·rintro u300 hl301 hr302 s293 rr305 h ho303
         refine ht_seq ?_
         refine ht_seq ?_
         refine ht_joinS h (fun (s306 : Bool) => [(0,fb b),(1,vi at_),(6,vi s161),(7,vi s162),(8,vi s163),(9,vi s293),(56,vb s306)]) ?_ ?_
         ·rintro s306 h
          refine pt_then ?_
          refine ht_cond _ rfl (fun hb310 => ?_) (fun hb310 => ?_)
          ·have h := cond_t hb310 h
           refine ht_skip ?_
           refine pt_then ?_
           refine ht_block ?_
           obtain ⟨v26, hv26, h⟩ := zn h
           refine yx hn 1 ?_
           refine ys 0 ⟨lb hv26⟩ ?_
           refine yw [9] 1 ?_
           refine ye [0,1,6,7,8,9] ?_
           refine pt_inb ?_
           exact pt_next _ (zi h).symm rfl
          ·have h := cond_f hb310 h
           refine ht_exit ?_
           refine pt_x_then ?_
           refine pt_x_then ?_
           refine pt_x_in ?_
           refine pt_pick [0,1,2,3,4,5] (by kernel_rfl) (es' := [(_,_),(_,_),(_,_),(_,_),(_,_),(_,_)]) rfl ?_
           exact hl301 _ (ho303 _ (zi h).symm).symm
         ·intro u307 h hl308 hr309
          refine cond_some h (fun hg8_2 h => ?_) (fun hg8_2 h => ?_)
          ·obtain ⟨v13, hv13, h⟩ := zn h
           refine cond_some h (fun hg8_10 h => ?_) (fun hg8_10 h => ?_)
           ·obtain ⟨v14, hv14, h⟩ := zn h
            obtain ⟨v15, hv15, h⟩ := zn h
            obtain ⟨v16, hv16, h⟩ := zn h
            obtain ⟨v17, hv17, h⟩ := zn h
            obtain ⟨v18, hv18, h⟩ := zn h
            obtain ⟨v19, hv19, h⟩ := zn h
            obtain ⟨v20, hv20, h⟩ := zn h
            refine wb [[9],[30],[31]] ?_
            refine wd hg8_2 [[32,1],[32,9]] ?_
            refine wN [32,33,34] ?_
            refine wo [[32,0],[32,36],[32,35,37],[32,38],[39]] ⟨lb hv13⟩ ?_
            refine wd hg8_10 [[40,0],[40,1],[40,9]] ?_
            refine wN [40,42,43] ?_
            refine wo [] ⟨lb hv14⟩ ?_
            refine wN [40,41,44] ?_
            refine wo [] ⟨li hv15⟩ ?_
            refine wN [40,45,41] ?_
            refine wo [[40,0],[40,1],[40,9]] ⟨ll hv16⟩ ?_
            refine wN [40,48,49] ?_
            refine wo [[40,8]] ⟨lb hv17⟩ ?_
            refine wN [40,50,51] ?_
            refine wo [] ⟨lb hv18⟩ ?_
            refine wN [40,47,52] ?_
            refine wo [] ⟨li hv19⟩ ?_
            refine wN [40,53,47] ?_
            refine wo [[40,46,54],[40,55]] ⟨ll hv20⟩ ?_
            refine we hn [0,1,6,7,8,9,56] ?_
            exact hl308 _ (zi h).symm
           ·refine wb [[9],[30],[31]] ?_
            refine wd hg8_2 [[32,1],[32,9]] ?_
            refine wN [32,33,34] ?_
            refine wo [[32,0],[32,36],[32,35,37],[32,38],[39]] ⟨lb hv13⟩ ?_
            refine wd hg8_10 [[40],[40],[40],[40],[40],[40],[40],[40],[40],[40],[40],[40],[40],[40],[40],[40]] ?_
            refine we hn [0,1,6,7,8,9,56] ?_
            exact hl308 _ (zi h).symm
          ·refine wb [[9],[30],[31]] ?_
           refine wd hg8_2 [[32],[32],[32],[32],[32],[32],[32],[39],[40],[40],[40],[40],[40],[40],[40],[40],[40],[40],[40],[40],[40],[40],[40],[40]] ?_
           refine we hn [0,1,6,7,8,9,56] ?_
           exact hl308 _ (zi h).symm
      ·have h := cond_f hb246 h
       refine ht_exit ?_
       refine pt_x_then ?_
       refine pt_x_then ?_
       refine pt_x_in ?_
       refine pt_pick [2,3] (by kernel_rfl) (es' := [(_,_),(_,_)]) rfl ?_
       exact hl237 _ (ho239 _ (zi h).symm).symm
     ·intro u243 h hl244 hr245
      refine cond_some h (fun hg5_3 h => ?_) (fun hg5_3 h => ?_)
      ·refine yx hn 4 ?_
       refine yd hg5_3 3 ?_
       refine ye [0,1,6,7,8,27] ?_
       exact hl244 _ (zi h).symm
      ·refine yx hn 4 ?_
       refine yd hg5_3 3 ?_
       refine ye [0,1,6,7,8,27] ?_
       exact hl244 _ (zi h).symm
  ·intro u4 h hl5 hr6
   refine cond_some h (fun hg1_3 h => ?_) (fun hg1_3 h => ?_)
   ·refine yx hn 4 ?_
    refine yd hg1_3 7 ?_
    refine ye [0,1,20] ?_
    exact hl5 _ (zi h).symm
   ·obtain ⟨v1, hv1, h⟩ := zn h
    obtain ⟨v2, hv2, h⟩ := zn h
    refine yx hn 4 ?_
    refine yd hg1_3 3 ?_
    refine ys 0 ⟨lb hv1⟩ ?_
    refine ys 2 ⟨lk call50 (ok_wherryref01_in _ _ _ _ hv2)⟩ ?_
    refine ye [0,1,20] ?_
    exact hl5 _ (zi h).symm
theorem ok_wherryref01_tokens (b : (List Int)) (r : (List T_Tok)) (h : Sh.wherryref01_tokens b = some r) : FnOK Tryd.prog 46 [.fl .shr 1 (map (int .u8) b)] (.fl (.own 53) 3 (flatten (map T_Tok.enc r))) := by
  unfold Sh.wherryref01_tokens at h
  refine yO 39 func46 fun g0 hn hio => ?_
  refine yyy hn 1 [0] ?_
  refine yyy hn 1 [0,3] ?_
  refine ht_seq ?_
  refine yyy hn 1 [0,3,4] ?_
  refine ht_sub (fs := [(0,fb b),(3,.fl (.own 53) 3 (flatten (map T_Tok.enc []))),(4,vi 0)]) (.same _ (.sub _ (sub_nil 53 3) rfl (.same _ .nil))) ?_
  refine ht_loopS h (fun ((s26,s27) : (List T_Tok) × Int) => [(0,fb b),(3,.fl (.own 53) 3 (flatten (map T_Tok.enc s26))),(4,vi s27)]) (fun (s36 : (List T_Tok)) => [(3,.fl (.own 53) 3 (flatten (map T_Tok.enc s36)))]) ?_ ?_
  ·rintro s36 h
   refine pt_then ?_
   refine yxx hn 0 ?_
   refine ym 0 ?_
   refine ya 0 ?_
   refine yee [2] ?_
   refine ht_ret ?_
   obtain rfl := zi h
   exact pt_ret hio rfl (.tmp _ _ .nil) rfl rfl
  ·rintro u37 hl38 hr39 ⟨s26, s27⟩ rr42 h ho40
   refine ht_seq ?_
   refine yyy hn 4 [0,3,4,10] ?_
   refine ht_cond _ rfl (fun hb43 => ?_) (fun hb43 => ?_)
   ·have h := cond_t hb43 h
    refine ht_skip ?_
    refine pt_then ?_
    refine ht_joinS h (fun ((s45,s46) : (List T_Tok) × Int) => [(0,fb b),(3,.fl (.own 53) 3 (flatten (map T_Tok.enc s45))),(4,vi s46)]) ?_ ?_
    ·rintro ⟨s45, s46⟩ h
     exact pt_next _ (zi h).symm rfl
    ·intro u47 h hl48 hr49
     refine ht_block ?_
     refine ht_seq ?_
     obtain ⟨v2, hv2, h⟩ := zn h
     refine yx hn 2 ?_
     refine ys 0 ⟨lk call78 (ok_wherryref01_Best _ _ _ hv2)⟩ ?_
     refine ym 4 ?_
     refine yee [0,3,4,5,6] ?_
     refine yyy hn 2 [0,3,4,5,6,18] ?_
     refine ht_cond _ rfl (fun hb50 => ?_) (fun hb50 => ?_)
     ·have h := cond_t hb50 h
      refine ht_seq ?_
      obtain ⟨v4, hv4, h⟩ := zn h
      obtain ⟨v5, hv5, h⟩ := zn h
      obtain ⟨v6, hv6, h⟩ := zn h
      refine yx hn 0 ?_
      refine ym 2 ?_
      refine ys 0 ⟨li hv4⟩ ?_
      refine ys 0 ⟨ll hv5⟩ ?_
      refine yS (.agg [.v (.int .u8 v5),vi 0,vi 0]) 0 ⟨op_build _ _ _ _ [1,1,1] _ _ underlying53 zr53 (fs53 _ underlying53) (.copy _ Src.nil) rfl rfl rfl⟩ ?_
      refine yS (.fl (.own 53) 3 (flatten (map T_Tok.enc [(T_Tok.mk v5 0 0)]))) 0 ⟨op_buildSlice _ _ 3 (.agg #[.int .u8 0,.int .i64 0,.int .i64 0]) (flatten (map T_Tok.enc [(T_Tok.mk v5 0 0)])) [(0,.agg #[.int .u8 v5,.int .i64 0,.int .i64 0])] underlying45 sz53 zr53 (fun _ V w o a hv hes => by have e0 := agg_v (ys := [.int .u8 v5,.int .i64 0,.int .i64 0]) hv hes (x := .tmp 24) rfl; simp only [List.map_toArray,List.map_cons,List.map_nil,e0]; try rfl) (litfill (by simp [Instr.fill,Value.cells]; rfl) (by simp [List.range,List.range.loop,T_Tok.enc] <;> rfl)) (by simp [Value.oneCell',T_Tok.enc]) rfl (by decide) (by decide) (by decide)⟩ ?_
      refine yP' el45 hv6 0 ?_
      refine ya 0 ?_
      refine yee [0,4,3] ?_
      obtain ⟨v7, hv7, h⟩ := zn h
      refine yx hn 1 ?_
      refine ys 0 ⟨lb hv7⟩ ?_
      refine yw [4] 1 ?_
      refine ye [0,3,4] ?_
      refine pt_inb ?_
      exact hl48 _ (zi h).symm
     ·have h := cond_f hb50 h
      refine ht_seq ?_
      obtain ⟨v8, hv8, h⟩ := zn h
      refine yx hn 0 ?_
      refine ym 2 ?_
      refine yS (.agg [.v (.int .u8 0),vi v2.1,vi v2.2]) 0 ⟨op_build _ _ _ _ [1,1,1] _ _ underlying53 zr53 (fs53 _ underlying53) (.copy _ (.copy _ Src.nil)) rfl rfl rfl⟩ ?_
      refine yS (.fl (.own 53) 3 (flatten (map T_Tok.enc [(T_Tok.mk 0 v2.1 v2.2)]))) 0 ⟨op_buildSlice _ _ 3 (.agg #[.int .u8 0,.int .i64 0,.int .i64 0]) (flatten (map T_Tok.enc [(T_Tok.mk 0 v2.1 v2.2)])) [(0,.agg #[.int .u8 0,.int .i64 v2.1,.int .i64 v2.2])] underlying45 sz53 zr53 (fun _ V w o a hv hes => by have e0 := agg_v (ys := [.int .u8 0,.int .i64 v2.1,.int .i64 v2.2]) hv hes (x := .tmp 32) rfl; simp only [List.map_toArray,List.map_cons,List.map_nil,e0]; try rfl) (litfill (by simp [Instr.fill,Value.cells]; rfl) (by simp [List.range,List.range.loop,T_Tok.enc] <;> rfl)) (by simp [Value.oneCell',T_Tok.enc]) rfl (by decide) (by decide) (by decide)⟩ ?_
      refine yP' el45 hv8 0 ?_
      refine ya 0 ?_
      refine yee [0,4,5,3] ?_
      obtain ⟨v9, hv9, h⟩ := zn h
      refine yx hn 2 ?_
      refine ys 0 ⟨lb hv9⟩ ?_
      refine yw [4] 1 ?_
      refine ye [0,3,4] ?_
      refine pt_inb ?_
      exact hl48 _ (zi h).symm
   ·have h := cond_f hb43 h
    refine ht_exit ?_
    refine pt_x_then ?_
    refine pt_x_then ?_
    refine pt_x_in ?_
    refine pt_pick [1] (by kernel_rfl) (es' := [(_,_)]) rfl ?_
    exact hl38 _ (ho40 _ (zi h).symm).symm
theorem ok_wherryref01_Tokens (b : (List Int)) (r : ((List T_Tok) × Int)) (h : Sh.wherryref01_Tokens b = some r) : FnOK Tryd.prog 27 [.fl .shr 1 (map (int .u8) b)] (.tup [.fl (.own 53) 3 (flatten (map T_Tok.enc r.1)), .v (.int .i64 r.2)]) := by
  unfold Sh.wherryref01_Tokens at h
  refine yO 9 func27 fun g0 hn hio => ?_
  refine yyy hn 2 [0] ?_
  refine ht_seq ?_
  refine yyy hn 3 [0,6] ?_
  refine ht_cond _ rfl (fun hb1 => ?_) (fun hb1 => ?_)
  ·have h := cond_t hb1 h
   refine yyy hn 2 [2,3] ?_
   refine ht_ret ?_
   refine pt_sub (fs := [(2,.fl (.own 53) 3 (flatten (map T_Tok.enc []))),(3,vi 2)]) (.sub _ (sub_nil 53 3) rfl (.same _ .nil)) ?_
   refine pt_r_then ?_
   obtain rfl := zi h
   exact pt_ret hio rfl (.tmp _ _ (.tmp _ _ .nil)) rfl rfl
  ·have h := cond_f hb1 h
   refine ht_skip ?_
   refine pt_then (ht_seq ?_)
   obtain ⟨v2, hv2, h⟩ := zn h
   refine yx hn 1 ?_
   refine ys 0 ⟨lk call46 (ok_wherryref01_tokens _ _ hv2)⟩ ?_
   refine ya 1 ?_
   refine yee [2,3] ?_
   refine ht_ret ?_
   obtain rfl := zi h
   exact pt_ret hio rfl (.tmp _ _ (.tmp _ _ .nil)) rfl rfl
theorem ok_wherryref01_CheckToks (l : (List T_Tok)) (r : Int) (h : Sh.wherryref01_CheckToks l = some r) : FnOK Tryd.prog 47 [.fl .shr 3 (flatten (map T_Tok.enc l))] (.v (.int .i64 r)) := by
  unfold Sh.wherryref01_CheckToks at h
  refine yO 76 func47 fun g0 hn hio => ?_
  refine yyy hn 1 [0] ?_
  refine yyy hn 1 [0,3] ?_
  refine yyy hn 1 [0,3,4] ?_
  refine ht_seq ?_
  refine yyy hn 1 [0,3,4,5] ?_
  refine ht_loopS h (fun ((s78,s79,s80) : Int × Bool × Int) => [(0,.fl .shr 3 (flatten (map T_Tok.enc l))),(3,vi s78),(4,vb s79),(5,vi s80)]) (fun (s110 : Bool) => [(4,vb s110)]) ?_ ?_
  ·rintro s110 h
   refine pt_then (ht_seq ?_)
   refine yyy hn 1 [75] ?_
   refine ht_cond _ rfl (fun hb146 => ?_) (fun hb146 => ?_)
   ·have h := cond_t hb146 h
    refine yyy hn 1 [2] ?_
    refine ht_ret ?_
    refine pt_r_then ?_
    obtain rfl := zi h
    exact pt_ret hio rfl (.tmp _ _ .nil) rfl rfl
   ·have h := cond_f hb146 h
    refine ht_skip ?_
    refine pt_then ?_
    refine yyy hn 1 [2] ?_
    refine ht_ret ?_
    obtain rfl := zi h
    exact pt_ret hio rfl (.tmp _ _ .nil) rfl rfl
  ·rintro u111 hl112 hr113 ⟨s78, s79, s80⟩ rr116 h ho114
   refine ht_seq ?_
   refine yyy hn 4 [0,3,4,5,9] ?_
   refine ht_cond _ rfl (fun hb117 => ?_) (fun hb117 => ?_)
   ·have h := cond_t hb117 h
    refine ht_skip ?_
    refine pt_then (ht_seq ?_)
    refine ht_block ?_
    refine ht_seq ?_
    refine ht_joinS h (fun (s128 : Int) => [(0,.fl .shr 3 (flatten (map T_Tok.enc l))),(4,vb s79),(5,vi s80),(3,vi s128)]) ?_ ?_
    ·rintro s128 h
     refine pt_then (ht_seq ?_)
     refine ht_joinS h (fun (s142 : Bool) => [(0,.fl .shr 3 (flatten (map T_Tok.enc l))),(5,vi s80),(3,vi s128),(4,vb s142)]) ?_ ?_
     ·rintro s142 h
      refine pt_then ?_
      obtain ⟨v44, hv44, h⟩ := zn h
      refine yx hn 1 ?_
      refine yS (vi v44) 0 ⟨(Option.some.inj hv44) ▸ op_min _ _ _ _ rfl rfl⟩ ?_
      refine yw [3] 1 ?_
      refine ye [0,5,4,3] ?_
      refine pt_inb ?_
      refine pt_then ?_
      obtain ⟨v45, hv45, h⟩ := zn h
      refine yx hn 1 ?_
      refine ys 0 ⟨lb hv45⟩ ?_
      refine yw [5] 1 ?_
      refine ye [0,4,3,5] ?_
      refine pt_pick [0,2,1,3] (by kernel_rfl) (es' := [(_,_),(_,_),(_,_),(_,_)]) rfl ?_
      exact pt_next _ (zi h).symm rfl
     ·intro u143 h hl144 hr145
      refine cond_some h (fun hg11_1 h => ?_) (fun hg11_1 h => ?_)
      ·refine yx hn 2 ?_
       refine yd hg11_1 3 ?_
       refine yw [4] 1 ?_
       refine ye [0,5,3,4] ?_
       exact hl144 _ (zi h).symm
      ·refine yx hn 2 ?_
       refine yd hg11_1 3 ?_
       refine yw [4] 1 ?_
       refine ye [0,5,3,4] ?_
       exact hl144 _ (zi h).symm
    ·intro u129 h hl130 hr131
     refine ht_seq ?_
     refine ht_joinS h (fun (s132 : Bool) => [(0,.fl .shr 3 (flatten (map T_Tok.enc l))),(3,vi s78),(4,vb s79),(5,vi s80),(25,vb s132)]) ?_ ?_
     ·rintro s132 h
      refine pt_then ?_
      refine ht_cond _ rfl (fun hb136 => ?_) (fun hb136 => ?_)
      ·have h := cond_t hb136 h
       obtain ⟨v11, hv11, h⟩ := zn h
       refine yx hn 1 ?_
       refine ys 0 ⟨lb hv11⟩ ?_
       refine yw [3] 1 ?_
       refine ye [0,4,5,3] ?_
       exact hl130 _ (zi h).symm
      ·have h := cond_f hb136 h
       refine ht_seq ?_
       refine ht_seq ?_
       refine ht_joinS h (fun (s137 : Bool) => [(0,.fl .shr 3 (flatten (map T_Tok.enc l))),(3,vi s78),(4,vb s79),(5,vi s80),(60,vb s137)]) ?_ ?_
       ·rintro s137 h
        refine pt_then ?_
        refine ht_cond _ rfl (fun hb141 => ?_) (fun hb141 => ?_)
        ·have h := cond_t hb141 h
         refine yyy hn 1 [2] ?_
         refine ht_ret ?_
         refine pt_r_then ?_
         refine pt_r_then ?_
         refine pt_r_in ?_
         refine pt_r_then ?_
         refine pt_r_then ?_
         refine pt_r_in ?_
         refine pt_r_then ?_
         have h := hr131 _ (zi h).symm
         have h := hr113 _ (ho114 _ (zi h).symm).symm
         obtain rfl := zi h
         exact pt_ret hio rfl (.tmp _ _ .nil) rfl rfl
        ·have h := cond_f hb141 h
         refine ht_skip ?_
         refine pt_then ?_
         obtain ⟨v27, hv27, h⟩ := zn h
         obtain ⟨v28, hv28, h⟩ := zn h
         obtain ⟨v29, hv29, h⟩ := zn h
         refine yx hn 3 ?_
         refine ys 1 ⟨lj hv27⟩ ?_
         refine ys 0 ⟨lL hv28⟩ ?_
         refine ys 0 ⟨lb hv29⟩ ?_
         refine yw [3] 1 ?_
         refine ye [0,4,5,3] ?_
         exact hl130 _ (zi h).symm
       ·intro u138 h hl139 hr140
        obtain ⟨v12, hv12, h⟩ := zn h
        obtain ⟨v13, hv13, h⟩ := zn h
        refine cond_some h (fun hg8_6 h => ?_) (fun hg8_6 h => ?_)
        ·refine yx hn 2 ?_
         refine ys 1 ⟨lj hv12⟩ ?_
         refine ys 2 ⟨lL hv13⟩ ?_
         refine yd hg8_6 26 ?_
         refine ye [0,3,4,5,60] ?_
         exact hl139 _ (zi h).symm
        ·obtain ⟨v14, hv14, h⟩ := zn h
         obtain ⟨v15, hv15, h⟩ := zn h
         obtain ⟨v16, hv16, h⟩ := zn h
         refine cond_some h (fun hg8_15 h => ?_) (fun hg8_15 h => ?_)
         ·refine yx hn 2 ?_
          refine ys 1 ⟨lj hv12⟩ ?_
          refine ys 2 ⟨lL hv13⟩ ?_
          refine yd hg8_6 2 ?_
          refine ys 1 ⟨lj hv14⟩ ?_
          refine ys 0 ⟨lL hv15⟩ ?_
          refine ys 3 ⟨lk call50 (ok_wherryref01_in _ _ _ _ hv16)⟩ ?_
          refine yd hg8_15 17 ?_
          refine ye [0,3,4,5,60] ?_
          exact hl139 _ (zi h).symm
         ·obtain ⟨v17, hv17, h⟩ := zn h
          obtain ⟨v18, hv18, h⟩ := zn h
          obtain ⟨v19, hv19, h⟩ := zn h
          refine cond_some h (fun hg8_24 h => ?_) (fun hg8_24 h => ?_)
          ·refine yx hn 2 ?_
           refine ys 1 ⟨lj hv12⟩ ?_
           refine ys 2 ⟨lL hv13⟩ ?_
           refine yd hg8_6 2 ?_
           refine ys 1 ⟨lj hv14⟩ ?_
           refine ys 0 ⟨lL hv15⟩ ?_
           refine ys 3 ⟨lk call50 (ok_wherryref01_in _ _ _ _ hv16)⟩ ?_
           refine yd hg8_15 2 ?_
           refine ys 1 ⟨lj hv17⟩ ?_
           refine ys 0 ⟨lL hv18⟩ ?_
           refine ys 3 ⟨lk call50 (ok_wherryref01_in _ _ _ _ hv19)⟩ ?_
           refine yd hg8_24 8 ?_
           refine ye [0,3,4,5,60] ?_
           exact hl139 _ (zi h).symm
          ·obtain ⟨v20, hv20, h⟩ := zn h
           obtain ⟨v21, hv21, h⟩ := zn h
           refine yx hn 2 ?_
           refine ys 1 ⟨lj hv12⟩ ?_
           refine ys 2 ⟨lL hv13⟩ ?_
           refine yd hg8_6 2 ?_
           refine ys 1 ⟨lj hv14⟩ ?_
           refine ys 0 ⟨lL hv15⟩ ?_
           refine ys 3 ⟨lk call50 (ok_wherryref01_in _ _ _ _ hv16)⟩ ?_
           refine yd hg8_15 2 ?_
           refine ys 1 ⟨lj hv17⟩ ?_
           refine ys 0 ⟨lL hv18⟩ ?_
           refine ys 3 ⟨lk call50 (ok_wherryref01_in _ _ _ _ hv19)⟩ ?_
           refine yd hg8_24 2 ?_
           refine ys 1 ⟨lj hv20⟩ ?_
           refine ys 3 ⟨lL hv21⟩ ?_
           refine ye [0,3,4,5,60] ?_
           exact hl139 _ (zi h).symm
     ·intro u133 h hl134 hr135
      obtain ⟨v2, hv2, h⟩ := zn h
      obtain ⟨v3, hv3, h⟩ := zn h
      refine cond_some h (fun hg6_6 h => ?_) (fun hg6_6 h => ?_)
      ·obtain ⟨v4, hv4, h⟩ := zn h
       obtain ⟨v5, hv5, h⟩ := zn h
       refine yx hn 2 ?_
       refine ys 1 ⟨lj hv2⟩ ?_
       refine ys 2 ⟨lL hv3⟩ ?_
       refine yd hg6_6 2 ?_
       refine ys 1 ⟨lj hv4⟩ ?_
       refine ys 2 ⟨lL hv5⟩ ?_
       refine ye [0,3,4,5,25] ?_
       exact hl134 _ (zi h).symm
      ·refine yx hn 2 ?_
       refine ys 1 ⟨lj hv2⟩ ?_
       refine ys 2 ⟨lL hv3⟩ ?_
       refine yd hg6_6 7 ?_
       refine ye [0,3,4,5,25] ?_
       exact hl134 _ (zi h).symm
   ·have h := cond_f hb117 h
    refine ht_exit ?_
    refine pt_x_then ?_
    refine pt_x_then ?_
    refine pt_x_in ?_
    refine pt_pick [2] (by kernel_rfl) (es' := [(_,_)]) rfl ?_
    exact hl112 _ (ho114 _ (zi h).symm).symm
theorem ok_wherryref01_LenOf (sym : Int) (r : (Int × Int × Int)) (h : Sh.wherryref01_LenOf sym = some r) : FnOK Tryd.prog 52 [.v (.int .i64 sym)] (.tup [.v (.int .i64 r.1), .v (.int .i64 r.2.1), .v (.int .i64 r.2.2)]) := by
  unfold Sh.wherryref01_LenOf at h
  refine yO 27 func52 fun g0 hn hio => ?_
  refine yyy hn 3 [0] ?_
  refine ht_seq ?_
  refine ht_seq ?_
  obtain ⟨v1, hv1, h⟩ := zn h
  refine yx hn 1 ?_
  refine ys 1 ⟨lk call50 (ok_wherryref01_in _ _ _ _ hv1)⟩ ?_
  refine yee [0,8] ?_
  refine ht_cond _ rfl (fun hb2 => ?_) (fun hb2 => ?_)
  ·have h := cond_t hb2 h
   refine yyy hn 3 [2,3,4] ?_
   refine ht_ret ?_
   refine pt_r_then ?_
   obtain rfl := zi h
   exact pt_ret hio rfl (.tmp _ _ (.tmp _ _ (.tmp _ _ .nil))) rfl rfl
  ·have h := cond_f hb2 h
   refine ht_skip ?_
   refine pt_then (ht_seq ?_)
   refine yyy hn 2 [0,10] ?_
   refine ht_cond _ rfl (fun hb3 => ?_) (fun hb3 => ?_)
   ·have h := cond_t hb3 h
    refine ht_seq ?_
    obtain ⟨v4, hv4, h⟩ := zn h
    refine yx hn 1 ?_
    refine ys 3 ⟨lb hv4⟩ ?_
    refine yee [2,3,4] ?_
    refine ht_ret ?_
    refine pt_r_then ?_
    obtain rfl := zi h
    exact pt_ret hio rfl (.tmp _ _ (.tmp _ _ (.tmp _ _ .nil))) rfl rfl
   ·have h := cond_f hb3 h
    refine ht_skip ?_
    refine pt_then (ht_seq ?_)
    refine yyy hn 2 [0,14] ?_
    refine ht_cond _ rfl (fun hb5 => ?_) (fun hb5 => ?_)
    ·have h := cond_t hb5 h
     refine yyy hn 3 [2,3,4] ?_
     refine ht_ret ?_
     refine pt_r_then ?_
     obtain rfl := zi h
     exact pt_ret hio rfl (.tmp _ _ (.tmp _ _ (.tmp _ _ .nil))) rfl rfl
    ·have h := cond_f hb5 h
     refine ht_skip ?_
     refine pt_then (ht_seq ?_)
     obtain ⟨v6, hv6, h⟩ := zn h
     obtain ⟨v7, hv7, h⟩ := zn h
     refine yx hn 1 ?_
     refine ys 0 ⟨lb hv6⟩ ?_
     refine ys 1 ⟨lB (quo_ok hv7)⟩ ?_
     refine yee [0,5] ?_
     refine ht_seq ?_
     obtain ⟨v8, hv8, h⟩ := zn h
     obtain ⟨v9, hv9, h⟩ := zn h
     obtain ⟨v10, hv10, h⟩ := zn h
     obtain ⟨v11, hv11, h⟩ := zn h
     obtain ⟨v12, hv12, h⟩ := zn h
     obtain ⟨v13, hv13, h⟩ := zn h
     refine yx hn 1 ?_
     refine ys 0 ⟨lb hv8⟩ ?_
     refine ys 0 ⟨lB (rem_ok hv9)⟩ ?_
     refine ys 1 ⟨lb hv10⟩ ?_
     refine ys 0 ⟨lv hv11⟩ ?_
     refine ys 0 ⟨lB (shl_ok hv12)⟩ ?_
     refine ys 4 ⟨lb hv13⟩ ?_
     refine yee [2,3,4] ?_
     refine ht_ret ?_
     obtain rfl := zi h
     exact pt_ret hio rfl (.tmp _ _ (.tmp _ _ (.tmp _ _ .nil))) rfl rfl
theorem ok_wherryref01_leastLen (sym : Int) (r : Int) (h : Sh.wherryref01_leastLen sym = some r) : FnOK Tryd.prog 51 [.v (.int .i64 sym)] (.v (.int .i64 r)) := by
  unfold Sh.wherryref01_leastLen at h
  refine yO 13 func51 fun g0 hn hio => ?_
  refine yyy hn 1 [0] ?_
  refine ht_seq ?_
  obtain ⟨v1, hv1, h⟩ := zn h
  refine yx hn 1 ?_
  refine ys 0 ⟨lk call52 (ok_wherryref01_LenOf _ _ hv1)⟩ ?_
  refine ym 6 ?_
  refine yee [3] ?_
  refine yyy hn 2 [2] ?_
  refine ht_ret ?_
  obtain rfl := zi h
  exact pt_ret hio rfl (.tmp _ _ .nil) rfl rfl
theorem ok_wherryref01_Len (n : Int) (r : (Int × Int × Int × Int)) (h : Sh.wherryref01_Len n = some r) : FnOK Tryd.prog 31 [.v (.int .i64 n)] (.tup [.v (.int .i64 r.1), .v (.int .i64 r.2.1), .v (.int .i64 r.2.2.1), .v (.int .i64 r.2.2.2)]) := by
  unfold Sh.wherryref01_Len at h
  refine yO 42 func31 fun g0 hn hio => ?_
  refine yyy hn 4 [0] ?_
  refine ht_seq ?_
  refine ht_seq ?_
  obtain ⟨v1, hv1, h⟩ := zn h
  refine yx hn 1 ?_
  refine ys 1 ⟨lk call50 (ok_wherryref01_in _ _ _ _ hv1)⟩ ?_
  refine yee [0,12] ?_
  refine ht_cond _ rfl (fun hb2 => ?_) (fun hb2 => ?_)
  ·have h := cond_t hb2 h
   refine yyy hn 4 [2,3,4,5] ?_
   refine ht_ret ?_
   refine pt_r_then ?_
   obtain rfl := zi h
   exact pt_ret hio rfl (.tmp _ _ (.tmp _ _ (.tmp _ _ (.tmp _ _ .nil)))) rfl rfl
  ·have h := cond_f hb2 h
   refine ht_skip ?_
   refine pt_then ?_
   refine yyy hn 1 [0,6] ?_
   refine ht_seq ?_
   refine ht_loopS h (fun (s17 : Int) => [(0,vi n),(6,vi s17)]) (fun (s23 : Int) => [(0,vi n),(6,vi s23)]) ?_ ?_
   ·rintro s23 h
    refine pt_then (ht_seq ?_)
    obtain ⟨v35, hv35, h⟩ := zn h
    refine yx hn 1 ?_
    refine ys 0 ⟨lk call52 (ok_wherryref01_LenOf _ _ hv35)⟩ ?_
    refine ym 6 ?_
    refine yee [0,6,7,8] ?_
    refine ht_seq ?_
    obtain ⟨v36, hv36, h⟩ := zn h
    refine yx hn 4 ?_
    refine ys 4 ⟨lb hv36⟩ ?_
    refine yee [2,3,4,5] ?_
    refine ht_ret ?_
    obtain rfl := zi h
    exact pt_ret hio rfl (.tmp _ _ (.tmp _ _ (.tmp _ _ (.tmp _ _ .nil)))) rfl rfl
   ·rintro u24 hl25 hr26 s17 rr29 h ho27
    refine ht_seq ?_
    refine ht_seq ?_
    refine ht_joinS h (fun (s30 : Bool) => [(0,vi n),(6,vi s17),(28,vb s30)]) ?_ ?_
    ·rintro s30 h
     refine pt_then ?_
     refine ht_cond _ rfl (fun hb34 => ?_) (fun hb34 => ?_)
     ·have h := cond_t hb34 h
      refine ht_skip ?_
      refine pt_then ?_
      refine ht_block ?_
      obtain ⟨v10, hv10, h⟩ := zn h
      refine yx hn 1 ?_
      refine ys 0 ⟨lb hv10⟩ ?_
      refine yw [6] 1 ?_
      refine ye [0,6] ?_
      refine pt_inb ?_
      exact pt_next _ (zi h).symm rfl
     ·have h := cond_f hb34 h
      refine ht_exit ?_
      refine pt_x_then ?_
      refine pt_x_then ?_
      refine pt_x_in ?_
      refine pt_pick [0,1] (by kernel_rfl) (es' := [(_,_),(_,_)]) rfl ?_
      exact hl25 _ (ho27 _ (zi h).symm).symm
    ·intro u31 h hl32 hr33
     refine cond_some h (fun hg4_2 h => ?_) (fun hg4_2 h => ?_)
     ·refine cond_some h (fun hg4_6 h => ?_) (fun hg4_6 h => ?_)
      ·refine yx hn 3 ?_
       refine yd hg4_2 4 ?_
       refine yd hg4_6 9 ?_
       refine ye [0,6,28] ?_
       exact hl32 _ (zi h).symm
      ·refine cond_some h (fun hg4_9 h => ?_) (fun hg4_9 h => ?_)
       ·obtain ⟨v3, hv3, h⟩ := zn h
        refine yx hn 3 ?_
        refine yd hg4_2 4 ?_
        refine yd hg4_6 3 ?_
        refine yd hg4_9 1 ?_
        refine ys 4 ⟨lk call51 (ok_wherryref01_leastLen _ _ hv3)⟩ ?_
        refine ye [0,6,28] ?_
        exact hl32 _ (zi h).symm
       ·refine yx hn 3 ?_
        refine yd hg4_2 4 ?_
        refine yd hg4_6 3 ?_
        refine yd hg4_9 6 ?_
        refine ye [0,6,28] ?_
        exact hl32 _ (zi h).symm
     ·refine cond_some h (fun hg4_9 h => ?_) (fun hg4_9 h => ?_)
      ·obtain ⟨v4, hv4, h⟩ := zn h
       refine yx hn 3 ?_
       refine yd hg4_2 7 ?_
       refine yd hg4_9 1 ?_
       refine ys 4 ⟨lk call51 (ok_wherryref01_leastLen _ _ hv4)⟩ ?_
       refine ye [0,6,28] ?_
       exact hl32 _ (zi h).symm
      ·refine yx hn 3 ?_
       refine yd hg4_2 7 ?_
       refine yd hg4_9 6 ?_
       refine ye [0,6,28] ?_
       exact hl32 _ (zi h).symm
theorem ok_wherryref01_DistOf (sym : Int) (r : (Int × Int × Int)) (h : Sh.wherryref01_DistOf sym = some r) : FnOK Tryd.prog 53 [.v (.int .i64 sym)] (.tup [.v (.int .i64 r.1), .v (.int .i64 r.2.1), .v (.int .i64 r.2.2)]) := by
  unfold Sh.wherryref01_DistOf at h
  refine yO 24 func53 fun g0 hn hio => ?_
  refine yyy hn 3 [0] ?_
  refine ht_seq ?_
  refine ht_seq ?_
  obtain ⟨v1, hv1, h⟩ := zn h
  refine yx hn 1 ?_
  refine ys 1 ⟨lk call50 (ok_wherryref01_in _ _ _ _ hv1)⟩ ?_
  refine yee [0,8] ?_
  refine ht_cond _ rfl (fun hb2 => ?_) (fun hb2 => ?_)
  ·have h := cond_t hb2 h
   refine yyy hn 3 [2,3,4] ?_
   refine ht_ret ?_
   refine pt_r_then ?_
   obtain rfl := zi h
   exact pt_ret hio rfl (.tmp _ _ (.tmp _ _ (.tmp _ _ .nil))) rfl rfl
  ·have h := cond_f hb2 h
   refine ht_skip ?_
   refine pt_then (ht_seq ?_)
   refine yyy hn 2 [0,10] ?_
   refine ht_cond _ rfl (fun hb3 => ?_) (fun hb3 => ?_)
   ·have h := cond_t hb3 h
    refine ht_seq ?_
    obtain ⟨v4, hv4, h⟩ := zn h
    refine yx hn 1 ?_
    refine ys 3 ⟨lb hv4⟩ ?_
    refine yee [2,3,4] ?_
    refine ht_ret ?_
    refine pt_r_then ?_
    obtain rfl := zi h
    exact pt_ret hio rfl (.tmp _ _ (.tmp _ _ (.tmp _ _ .nil))) rfl rfl
   ·have h := cond_f hb3 h
    refine ht_skip ?_
    refine pt_then (ht_seq ?_)
    obtain ⟨v5, hv5, h⟩ := zn h
    obtain ⟨v6, hv6, h⟩ := zn h
    refine yx hn 1 ?_
    refine ys 0 ⟨lb hv5⟩ ?_
    refine ys 1 ⟨lB (quo_ok hv6)⟩ ?_
    refine yee [0,5] ?_
    refine ht_seq ?_
    obtain ⟨v7, hv7, h⟩ := zn h
    obtain ⟨v8, hv8, h⟩ := zn h
    obtain ⟨v9, hv9, h⟩ := zn h
    obtain ⟨v10, hv10, h⟩ := zn h
    obtain ⟨v11, hv11, h⟩ := zn h
    refine yx hn 1 ?_
    refine ys 0 ⟨lB (rem_ok hv7)⟩ ?_
    refine ys 1 ⟨lb hv8⟩ ?_
    refine ys 0 ⟨lv hv9⟩ ?_
    refine ys 0 ⟨lB (shl_ok hv10)⟩ ?_
    refine ys 4 ⟨lb hv11⟩ ?_
    refine yee [2,3,4] ?_
    refine ht_ret ?_
    obtain rfl := zi h
    exact pt_ret hio rfl (.tmp _ _ (.tmp _ _ (.tmp _ _ .nil))) rfl rfl
theorem ok_wherryref01_Dist (n : Int) (r : (Int × Int × Int × Int)) (h : Sh.wherryref01_Dist n = some r) : FnOK Tryd.prog 32 [.v (.int .i64 n)] (.tup [.v (.int .i64 r.1), .v (.int .i64 r.2.1), .v (.int .i64 r.2.2.1), .v (.int .i64 r.2.2.2)]) := by
  unfold Sh.wherryref01_Dist at h
  refine yO 31 func32 fun g0 hn hio => ?_
  refine yyy hn 4 [0] ?_
  refine ht_seq ?_
  refine ht_seq ?_
  obtain ⟨v1, hv1, h⟩ := zn h
  refine yx hn 1 ?_
  refine ys 1 ⟨lk call50 (ok_wherryref01_in _ _ _ _ hv1)⟩ ?_
  refine yee [0,12] ?_
  refine ht_cond _ rfl (fun hb2 => ?_) (fun hb2 => ?_)
  ·have h := cond_t hb2 h
   refine yyy hn 4 [2,3,4,5] ?_
   refine ht_ret ?_
   refine pt_r_then ?_
   obtain rfl := zi h
   exact pt_ret hio rfl (.tmp _ _ (.tmp _ _ (.tmp _ _ (.tmp _ _ .nil)))) rfl rfl
  ·have h := cond_f hb2 h
   refine ht_skip ?_
   refine pt_then (ht_seq ?_)
   refine yyy hn 1 [0,6] ?_
   refine ht_loopS h (fun (s11 : Int) => [(0,vi n),(6,vi s11)]) (fun (() : Unit) => []) ?_ ?_
   ·rintro ⟨⟩ h
    refine pt_then ?_
    refine yyy hn 4 [2,3,4,5] ?_
    refine ht_ret ?_
    obtain rfl := zi h
    exact pt_ret hio rfl (.tmp _ _ (.tmp _ _ (.tmp _ _ (.tmp _ _ .nil)))) rfl rfl
   ·rintro u14 hl15 hr16 s11 rr19 h ho17
    refine ht_seq ?_
    refine yyy hn 2 [0,6,14] ?_
    refine ht_cond _ rfl (fun hb20 => ?_) (fun hb20 => ?_)
    ·have h := cond_t hb20 h
     refine ht_skip ?_
     refine pt_then (ht_seq ?_)
     refine ht_block ?_
     refine ht_seq ?_
     obtain ⟨v4, hv4, h⟩ := zn h
     refine yx hn 1 ?_
     refine ys 0 ⟨lk call53 (ok_wherryref01_DistOf _ _ hv4)⟩ ?_
     refine ym 6 ?_
     refine yee [0,6,7,8] ?_
     refine yyy hn 3 [0,6,7,8,25] ?_
     refine ht_cond _ rfl (fun hb21 => ?_) (fun hb21 => ?_)
     ·have h := cond_t hb21 h
      refine ht_seq ?_
      obtain ⟨v6, hv6, h⟩ := zn h
      refine yx hn 4 ?_
      refine ys 4 ⟨lb hv6⟩ ?_
      refine yee [2,3,4,5] ?_
      refine ht_ret ?_
      refine pt_r_in ?_
      refine pt_r_then ?_
      refine pt_r_then ?_
      refine pt_r_in ?_
      refine pt_r_then ?_
      have h := hr16 _ (ho17 _ (zi h).symm).symm
      obtain rfl := zi h
      exact pt_ret hio rfl (.tmp _ _ (.tmp _ _ (.tmp _ _ (.tmp _ _ .nil)))) rfl rfl
     ·have h := cond_f hb21 h
      refine ht_skip ?_
      refine pt_inb ?_
      refine pt_then ?_
      obtain ⟨v7, hv7, h⟩ := zn h
      refine yx hn 1 ?_
      refine ys 0 ⟨lb hv7⟩ ?_
      refine yw [6] 1 ?_
      refine ye [0,6] ?_
      exact pt_next _ (zi h).symm rfl
    ·have h := cond_f hb20 h
     refine ht_exit ?_
     refine pt_x_then ?_
     refine pt_x_then ?_
     refine pt_x_in ?_
     refine pt_pick [] (by kernel_rfl) (es' := []) rfl ?_
     exact hl15 _ (ho17 _ (zi h).symm).symm
theorem ok_wherryref01_weights (l : (List T_Tok)) (r : ((List Int) × (List Int))) (h : Sh.wherryref01_weights l = some r) : FnOK Tryd.prog 48 [.fl .shr 3 (flatten (map T_Tok.enc l))] (.tup [.fl (.own 3) 1 (map (int .i64) r.1), .fl (.own 3) 1 (map (int .i64) r.2)]) := by
  unfold Sh.wherryref01_weights at h
  refine yO 78 func48 fun g0 hn hio => ?_
  refine yyy hn 2 [0] ?_
  refine ht_seq ?_
  obtain ⟨v1, hv1, h⟩ := zn h
  obtain ⟨v2, hv2, h⟩ := zn h
  refine wb [] ?_
  refine wN [] ?_
  refine wS (.fl (.own 3) 1 (map (int .i64) v1)) [] ⟨op_mk (f := int .i64) _ _ _ _ el37 (by decide) zr3 rfl rfl rfl hv1⟩ ?_
  refine wN [] ?_
  refine wS (.fl (.own 3) 1 (map (int .i64) v2)) [] ⟨op_mk (f := int .i64) _ _ _ _ el37 (by decide) zr3 rfl rfl rfl hv2⟩ ?_
  refine wK [15] [] ?_
  refine wt [(4,.fl (.own 3) 1 (map (int .i64) v1))] [] ⟨op_assign_take _ _ _ _ rfl⟩ ?_
  refine wK [16] [] ?_
  refine wt [(5,.fl (.own 3) 1 (map (int .i64) v2))] [] ⟨op_assign_take _ _ _ _ rfl⟩ ?_
  refine wee hn [0,4,5] ?_
  refine ht_seq ?_
  obtain ⟨v3, hv3, h⟩ := zn h
  obtain ⟨v4, hv4, h⟩ := zn h
  refine yx hn 1 ?_
  refine ys 0 ⟨li hv3⟩ ?_
  refine yk [4] [18] ?_
  refine yt (4,.fl (.own 3) 1 (map (int .i64) v4)) 0 ⟨op_store_e _ _ _ _ _ _ _ _ sz3 rfl rfl rfl (by decide) (map_lt (ix_ok hv3).2) ((map_set (f := int .i64) _ (ix_ok hv3).2).trans (congrArg (map _) (Option.some.inj hv4)))⟩ ?_
  refine yee [0,4,5] ?_
  refine ht_seq ?_
  refine yyy hn 1 [0,4,5,6] ?_
  refine ht_loopS h (fun ((s51,s52,s53) : (List Int) × (List Int) × Int) => [(0,.fl .shr 3 (flatten (map T_Tok.enc l))),(4,.fl (.own 3) 1 (map (int .i64) s51)),(5,.fl (.own 3) 1 (map (int .i64) s52)),(6,vi s53)]) (fun ((s62,s63) : (List Int) × (List Int)) => [(4,.fl (.own 3) 1 (map (int .i64) s62)),(5,.fl (.own 3) 1 (map (int .i64) s63))]) ?_ ?_
  ·rintro ⟨s62, s63⟩ h
   refine pt_then ?_
   refine yxx hn 0 ?_
   refine ym 0 ?_
   refine ym 0 ?_
   refine ya 0 ?_
   refine ya 0 ?_
   refine yee [2,3] ?_
   refine ht_ret ?_
   obtain rfl := zi h
   exact pt_ret hio rfl (.tmp _ _ (.tmp _ _ .nil)) rfl rfl
  ·rintro u64 hl65 hr66 ⟨s51, s52, s53⟩ rr69 h ho67
   refine ht_seq ?_
   refine yyy hn 4 [0,4,5,6,22] ?_
   refine ht_cond _ rfl (fun hb70 => ?_) (fun hb70 => ?_)
   ·have h := cond_t hb70 h
    refine ht_skip ?_
    refine pt_then (ht_seq ?_)
    refine ht_joinS h (fun ((s72,s73) : (List Int) × (List Int)) => [(0,.fl .shr 3 (flatten (map T_Tok.enc l))),(4,.fl (.own 3) 1 (map (int .i64) s72)),(5,.fl (.own 3) 1 (map (int .i64) s73)),(6,vi s53)]) ?_ ?_
    ·rintro ⟨s72, s73⟩ h
     refine pt_then ?_
     obtain ⟨v39, hv39, h⟩ := zn h
     refine yx hn 1 ?_
     refine ys 0 ⟨lb hv39⟩ ?_
     refine yw [6] 1 ?_
     refine ye [0,4,5,6] ?_
     exact pt_next _ (zi h).symm rfl
    ·intro u74 h hl75 hr76
     refine ht_block ?_
     refine ht_seq ?_
     refine ht_seq ?_
     obtain ⟨v6, hv6, h⟩ := zn h
     obtain ⟨v7, hv7, h⟩ := zn h
     refine yx hn 2 ?_
     refine ys 1 ⟨lj hv6⟩ ?_
     refine ys 1 ⟨lL hv7⟩ ?_
     refine yee [0,4,5,6,30] ?_
     refine ht_cond _ rfl (fun hb77 => ?_) (fun hb77 => ?_)
     ·have h := cond_t hb77 h
      refine ht_seq ?_
      obtain ⟨v9, hv9, h⟩ := zn h
      obtain ⟨v10, hv10, h⟩ := zn h
      obtain ⟨v11, hv11, h⟩ := zn h
      obtain ⟨v12, hv12, h⟩ := zn h
      obtain ⟨v13, hv13, h⟩ := zn h
      obtain ⟨v14, hv14, h⟩ := zn h
      obtain ⟨v15, hv15, h⟩ := zn h
      obtain ⟨v16, hv16, h⟩ := zn h
      refine yx hn 3 ?_
      refine ys 1 ⟨lj hv9⟩ ?_
      refine ys 0 ⟨lL hv10⟩ ?_
      refine ys 0 ⟨lv hv11⟩ ?_
      refine ys 0 ⟨li hv12⟩ ?_
      refine ys 0 ⟨ll hv13⟩ ?_
      refine ys 0 ⟨lb hv14⟩ ?_
      refine ys 0 ⟨li hv15⟩ ?_
      refine yk [4] [41,40] ?_
      refine yt (4,.fl (.own 3) 1 (map (int .i64) v16)) 0 ⟨op_store_e _ _ _ _ _ _ _ _ sz3 rfl rfl rfl (by decide) (map_lt (ix_ok hv15).2) ((map_set (f := int .i64) _ (ix_ok hv15).2).trans (congrArg (map _) (Option.some.inj hv16)))⟩ ?_
      refine yee [0,4,5,6] ?_
      refine ht_exit ?_
      refine pt_x_then ?_
      refine pt_x_in ?_
      exact hl75 _ (zi h).symm
     ·have h := cond_f hb77 h
      refine ht_skip ?_
      refine pt_then (ht_seq ?_)
      obtain ⟨v17, hv17, h⟩ := zn h
      obtain ⟨v18, hv18, h⟩ := zn h
      obtain ⟨v19, hv19, h⟩ := zn h
      refine yx hn 2 ?_
      refine ys 1 ⟨lj hv17⟩ ?_
      refine ys 0 ⟨lL hv18⟩ ?_
      refine ys 0 ⟨lk call31 (ok_wherryref01_Len _ _ hv19)⟩ ?_
      refine ym 8 ?_
      refine yee [0,4,5,6,7] ?_
      refine ht_seq ?_
      obtain ⟨v20, hv20, h⟩ := zn h
      obtain ⟨v21, hv21, h⟩ := zn h
      obtain ⟨v22, hv22, h⟩ := zn h
      refine yx hn 2 ?_
      refine ys 1 ⟨lj hv20⟩ ?_
      refine ys 0 ⟨lL hv21⟩ ?_
      refine ys 0 ⟨lk call32 (ok_wherryref01_Dist _ _ hv22)⟩ ?_
      refine ym 8 ?_
      refine yee [0,4,5,6,7,11] ?_
      refine ht_seq ?_
      obtain ⟨v23, hv23, h⟩ := zn h
      obtain ⟨v24, hv24, h⟩ := zn h
      obtain ⟨v25, hv25, h⟩ := zn h
      obtain ⟨v26, hv26, h⟩ := zn h
      obtain ⟨v27, hv27, h⟩ := zn h
      refine yx hn 2 ?_
      refine ys 0 ⟨li hv23⟩ ?_
      refine ys 0 ⟨ll hv24⟩ ?_
      refine ys 0 ⟨lb hv25⟩ ?_
      refine ys 0 ⟨li hv26⟩ ?_
      refine yk [4] [69,68] ?_
      refine yt (4,.fl (.own 3) 1 (map (int .i64) v27)) 0 ⟨op_store_e _ _ _ _ _ _ _ _ sz3 rfl rfl rfl (by decide) (map_lt (ix_ok hv26).2) ((map_set (f := int .i64) _ (ix_ok hv26).2).trans (congrArg (map _) (Option.some.inj hv27)))⟩ ?_
      refine yee [0,4,5,6,11] ?_
      obtain ⟨v28, hv28, h⟩ := zn h
      obtain ⟨v29, hv29, h⟩ := zn h
      obtain ⟨v30, hv30, h⟩ := zn h
      obtain ⟨v31, hv31, h⟩ := zn h
      obtain ⟨v32, hv32, h⟩ := zn h
      refine yx hn 2 ?_
      refine ys 0 ⟨li hv28⟩ ?_
      refine ys 0 ⟨ll hv29⟩ ?_
      refine ys 0 ⟨lb hv30⟩ ?_
      refine ys 0 ⟨li hv31⟩ ?_
      refine yk [5] [75,74] ?_
      refine yt (5,.fl (.own 3) 1 (map (int .i64) v32)) 0 ⟨op_store_e _ _ _ _ _ _ _ _ sz3 rfl rfl rfl (by decide) (map_lt (ix_ok hv31).2) ((map_set (f := int .i64) _ (ix_ok hv31).2).trans (congrArg (map _) (Option.some.inj hv32)))⟩ ?_
      refine ye [0,4,5,6] ?_
      refine pt_inb ?_
      exact hl75 _ (zi h).symm
   ·have h := cond_f hb70 h
    refine ht_exit ?_
    refine pt_x_then ?_
    refine pt_x_then ?_
    refine pt_x_in ?_
    refine pt_pick [1,2] (by kernel_rfl) (es' := [(_,_),(_,_)]) rfl ?_
    exact hl65 _ (ho67 _ (zi h).symm).symm
theorem ok_wherryref01_Weights (l : (List T_Tok)) (r : ((List Int) × (List Int) × Int)) (h : Sh.wherryref01_Weights l = some r) : FnOK Tryd.prog 28 [.fl .shr 3 (flatten (map T_Tok.enc l))] (.tup [.fl (.own 3) 1 (map (int .i64) r.1), .fl (.own 3) 1 (map (int .i64) r.2.1), .v (.int .i64 r.2.2)]) := by
  unfold Sh.wherryref01_Weights at h
  refine yO 20 func28 fun g0 hn hio => ?_
  refine yyy hn 3 [0] ?_
  refine ht_seq ?_
  refine ht_seq ?_
  obtain ⟨v1, hv1, h⟩ := zn h
  refine yx hn 1 ?_
  refine ys 1 ⟨lk call47 (ok_wherryref01_CheckToks _ _ hv1)⟩ ?_
  refine yee [0,5] ?_
  refine yyy hn 2 [0,5,11] ?_
  refine ht_cond _ rfl (fun hb2 => ?_) (fun hb2 => ?_)
  ·have h := cond_t hb2 h
   refine yyy hn 4 [2,3,4] ?_
   refine ht_ret ?_
   refine pt_sub (fs := [(2,.fl (.own 3) 1 (map (int .i64) [])),(3,.fl (.own 3) 1 (map (int .i64) [])),(4,vi v1)]) (.sub _ (sub_nil 3 1) rfl (.sub _ (sub_nil 3 1) rfl (.same _ .nil))) ?_
   refine pt_r_then ?_
   obtain rfl := zi h
   exact pt_ret hio rfl (.tmp _ _ (.tmp _ _ (.tmp _ _ .nil))) rfl rfl
  ·have h := cond_f hb2 h
   refine ht_skip ?_
   refine pt_then (ht_seq ?_)
   obtain ⟨v3, hv3, h⟩ := zn h
   refine yx hn 1 ?_
   refine ys 0 ⟨lk call48 (ok_wherryref01_weights _ _ hv3)⟩ ?_
   refine ym 0 ?_
   refine yx_ 0 ?_
   refine yx_ 0 ?_
   refine ya 0 ?_
   refine ya 0 ?_
   refine yee [6,7] ?_
   refine yxx hn 0 ?_
   refine ym 0 ?_
   refine ym 0 ?_
   refine ya 0 ?_
   refine ya 1 ?_
   refine yee [2,3,4] ?_
   refine ht_ret ?_
   obtain rfl := zi h
   exact pt_ret hio rfl (.tmp _ _ (.tmp _ _ (.tmp _ _ .nil))) rfl rfl
theorem ok_wherryref01_Fixed (r : ((List Int) × (List Int))) (h : Sh.wherryref01_Fixed  = some r) : FnOK Tryd.prog 29 [] (.tup [.fl (.own 3) 1 (map (int .i64) r.1), .fl (.own 3) 1 (map (int .i64) r.2)]) := by
  unfold Sh.wherryref01_Fixed at h
  refine yO 40 func29 fun g0 hn hio => ?_
  refine yyy hn 2 [] ?_
  refine yyy hn 2 [2,3] ?_
  refine ht_seq ?_
  refine yyy hn 1 [2,3,4] ?_
  refine ht_sub (fs := [(2,.fl (.own 3) 1 (map (int .i64) [])),(3,vz),(4,vi 0)]) (.sub _ (sub_nil 3 1) rfl (.same _ (.same _ .nil))) ?_
  refine ht_loopS h (fun ((s58,s59) : (List Int) × Int) => [(2,.fl (.own 3) 1 (map (int .i64) s58)),(3,vz),(4,vi s59)]) (fun (s85 : (List Int)) => [(2,.fl (.own 3) 1 (map (int .i64) s85)),(3,vz)]) ?_ ?_
  ·rintro s85 h
   refine pt_then (ht_seq ?_)
   refine yyy hn 1 [2,3,5] ?_
   refine ht_sub (fs := [(2,.fl (.own 3) 1 (map (int .i64) s85)),(3,.fl (.own 3) 1 (map (int .i64) [])),(5,vi 0)]) (.same _ (.sub _ (sub_nil 3 1) rfl (.same _ .nil))) ?_
   refine ht_loopS h (fun ((s123,s124) : (List Int) × Int) => [(2,.fl (.own 3) 1 (map (int .i64) s85)),(3,.fl (.own 3) 1 (map (int .i64) s123)),(5,vi s124)]) (fun (s126 : (List Int)) => [(2,.fl (.own 3) 1 (map (int .i64) s85)),(3,.fl (.own 3) 1 (map (int .i64) s126))]) ?_ ?_
   ·rintro s126 h
    refine pt_then ?_
    refine yxx hn 0 ?_
    refine ym 0 ?_
    refine ym 0 ?_
    refine ya 0 ?_
    refine ya 0 ?_
    refine yee [0,1] ?_
    refine ht_ret ?_
    obtain rfl := zi h
    exact pt_ret hio rfl (.tmp _ _ (.tmp _ _ .nil)) rfl rfl
   ·rintro u127 hl128 hr129 ⟨s123, s124⟩ rr132 h ho130
    refine ht_seq ?_
    refine yyy hn 2 [2,3,5,32] ?_
    refine ht_cond _ rfl (fun hb133 => ?_) (fun hb133 => ?_)
    ·have h := cond_t hb133 h
     refine ht_skip ?_
     refine pt_then (ht_seq ?_)
     refine ht_block ?_
     obtain ⟨v118, hv118, h⟩ := zn h
     refine yx hn 0 ?_
     refine ym 0 ?_
     refine yS (.fl (.own 3) 1 (map (int .i64) [5])) 0 ⟨op_buildSlice _ _ 1 (.int .i64 0) (map (int .i64) [5]) [(0,.int .i64 5)] underlying37 sz3 zr3 (fun _ V w o a hv hes => by simp only [List.map_toArray,List.map_cons,List.map_nil]; try rfl) (litfill (by simp [Instr.fill,Value.cells]; rfl) (by simp [List.range,List.range.loop] <;> rfl)) (by simp [Value.oneCell']) rfl (by decide) (by decide) (by decide)⟩ ?_
     refine yp el37 hv118 0 ?_
     refine ya 0 ?_
     refine ye [2,5,3] ?_
     refine pt_inb ?_
     refine pt_then ?_
     obtain ⟨v119, hv119, h⟩ := zn h
     refine yx hn 1 ?_
     refine ys 0 ⟨lb hv119⟩ ?_
     refine yw [5] 1 ?_
     refine ye [2,3,5] ?_
     exact pt_next _ (zi h).symm rfl
    ·have h := cond_f hb133 h
     refine ht_exit ?_
     refine pt_x_then ?_
     refine pt_x_then ?_
     refine pt_x_in ?_
     refine pt_pick [0,1] (by kernel_rfl) (es' := [(_,_),(_,_)]) rfl ?_
     exact hl128 _ (ho130 _ (zi h).symm).symm
  ·rintro u86 hl87 hr88 ⟨s58, s59⟩ rr91 h ho89
   refine ht_seq ?_
   refine yyy hn 2 [2,3,4,7] ?_
   refine ht_cond _ rfl (fun hb92 => ?_) (fun hb92 => ?_)
   ·have h := cond_t hb92 h
    refine ht_skip ?_
    refine pt_then (ht_seq ?_)
    refine ht_joinS h (fun (s103 : (List Int)) => [(3,vz),(4,vi s59),(2,.fl (.own 3) 1 (map (int .i64) s103))]) ?_ ?_
    ·rintro s103 h
     refine pt_then ?_
     obtain ⟨v30, hv30, h⟩ := zn h
     refine yx hn 1 ?_
     refine ys 0 ⟨lb hv30⟩ ?_
     refine yw [4] 1 ?_
     refine ye [3,2,4] ?_
     refine pt_pick [1,0,2] (by kernel_rfl) (es' := [(_,_),(_,_),(_,_)]) rfl ?_
     exact pt_next _ (zi h).symm rfl
    ·intro u104 h hl105 hr106
     refine ht_block ?_
     refine ht_joinS h (fun (s110 : (List Int)) => [(3,vz),(4,vi s59),(2,.fl (.own 3) 1 (map (int .i64) s110))]) ?_ ?_
     ·rintro s110 h
      refine pt_inb ?_
      exact hl105 _ (zi h).symm
     ·intro u111 h hl112 hr113
      refine ht_block ?_
      refine yyy hn 3 [2,3,4,13] ?_
      refine ht_cond _ rfl (fun hb114 => ?_) (fun hb114 => ?_)
      ·have h := cond_t hb114 h
       obtain ⟨v3, hv3, h⟩ := zn h
       refine yx hn 0 ?_
       refine ym 0 ?_
       refine yS (.fl (.own 3) 1 (map (int .i64) [8])) 0 ⟨op_buildSlice _ _ 1 (.int .i64 0) (map (int .i64) [8]) [(0,.int .i64 8)] underlying37 sz3 zr3 (fun _ V w o a hv hes => by simp only [List.map_toArray,List.map_cons,List.map_nil]; try rfl) (litfill (by simp [Instr.fill,Value.cells]; rfl) (by simp [List.range,List.range.loop] <;> rfl)) (by simp [Value.oneCell']) rfl (by decide) (by decide) (by decide)⟩ ?_
       refine yp el37 hv3 0 ?_
       refine ya 0 ?_
       refine ye [3,4,2] ?_
       refine pt_inb ?_
       exact hl112 _ (zi h).symm
      ·have h := cond_f hb114 h
       refine yyy hn 3 [2,3,4,19] ?_
       refine ht_cond _ rfl (fun hb115 => ?_) (fun hb115 => ?_)
       ·have h := cond_t hb115 h
        obtain ⟨v5, hv5, h⟩ := zn h
        refine yx hn 0 ?_
        refine ym 0 ?_
        refine yS (.fl (.own 3) 1 (map (int .i64) [9])) 0 ⟨op_buildSlice _ _ 1 (.int .i64 0) (map (int .i64) [9]) [(0,.int .i64 9)] underlying37 sz3 zr3 (fun _ V w o a hv hes => by simp only [List.map_toArray,List.map_cons,List.map_nil]; try rfl) (litfill (by simp [Instr.fill,Value.cells]; rfl) (by simp [List.range,List.range.loop] <;> rfl)) (by simp [Value.oneCell']) rfl (by decide) (by decide) (by decide)⟩ ?_
        refine yp el37 hv5 0 ?_
        refine ya 0 ?_
        refine ye [3,4,2] ?_
        refine pt_inb ?_
        exact hl112 _ (zi h).symm
       ·have h := cond_f hb115 h
        refine yyy hn 3 [2,3,4,25] ?_
        refine ht_cond _ rfl (fun hb116 => ?_) (fun hb116 => ?_)
        ·have h := cond_t hb116 h
         obtain ⟨v7, hv7, h⟩ := zn h
         refine yx hn 0 ?_
         refine ym 0 ?_
         refine yS (.fl (.own 3) 1 (map (int .i64) [7])) 0 ⟨op_buildSlice _ _ 1 (.int .i64 0) (map (int .i64) [7]) [(0,.int .i64 7)] underlying37 sz3 zr3 (fun _ V w o a hv hes => by simp only [List.map_toArray,List.map_cons,List.map_nil]; try rfl) (litfill (by simp [Instr.fill,Value.cells]; rfl) (by simp [List.range,List.range.loop] <;> rfl)) (by simp [Value.oneCell']) rfl (by decide) (by decide) (by decide)⟩ ?_
         refine yp el37 hv7 0 ?_
         refine ya 0 ?_
         refine ye [3,4,2] ?_
         refine pt_inb ?_
         exact hl112 _ (zi h).symm
        ·have h := cond_f hb116 h
         obtain ⟨v8, hv8, h⟩ := zn h
         refine yx hn 0 ?_
         refine ym 0 ?_
         refine yS (.fl (.own 3) 1 (map (int .i64) [8])) 0 ⟨op_buildSlice _ _ 1 (.int .i64 0) (map (int .i64) [8]) [(0,.int .i64 8)] underlying37 sz3 zr3 (fun _ V w o a hv hes => by simp only [List.map_toArray,List.map_cons,List.map_nil]; try rfl) (litfill (by simp [Instr.fill,Value.cells]; rfl) (by simp [List.range,List.range.loop] <;> rfl)) (by simp [Value.oneCell']) rfl (by decide) (by decide) (by decide)⟩ ?_
         refine yp el37 hv8 0 ?_
         refine ya 0 ?_
         refine ye [3,4,2] ?_
         refine pt_inb ?_
         exact hl112 _ (zi h).symm
   ·have h := cond_f hb92 h
    refine ht_exit ?_
    refine pt_x_then ?_
    refine pt_x_then ?_
    refine pt_x_in ?_
    refine pt_pick [0,1] (by kernel_rfl) (es' := [(_,_),(_,_)]) rfl ?_
    exact hl87 _ (ho89 _ (zi h).symm).symm
theorem ok_tree_validWeights (weights : (List Int)) (r : Bool) (h : Sh.tree_validWeights weights = some r) : FnOK Tryd.prog 49 [.fl .shr 1 (map (int .i64) weights)] (.v (.bool r)) := by
  unfold Sh.tree_validWeights at h
  refine yO 21 func49 fun g0 hn hio => ?_
  refine yyy hn 1 [0] ?_
  refine ht_seq ?_
  refine yyy hn 3 [0,7] ?_
  refine ht_cond _ rfl (fun hb1 => ?_) (fun hb1 => ?_)
  ·have h := cond_t hb1 h
   refine yyy hn 1 [2] ?_
   refine ht_ret ?_
   refine pt_r_then ?_
   obtain rfl := zi h
   exact pt_ret hio rfl (.tmp _ _ .nil) rfl rfl
  ·have h := cond_f hb1 h
   refine ht_skip ?_
   refine pt_then (ht_seq ?_)
   refine yyy hn 3 [8,9,10] ?_
   refine ht_loopS h (fun (s18 : Int) => [(8,fi weights),(9,vi (weights.length : Int)),(10,vi s18)]) (fun (() : Unit) => []) ?_ ?_
   ·rintro ⟨⟩ h
    refine pt_then ?_
    refine yyy hn 1 [2] ?_
    refine ht_ret ?_
    obtain rfl := zi h
    exact pt_ret hio rfl (.tmp _ _ .nil) rfl rfl
   ·rintro u25 hl26 hr27 s18 rr30 h ho28
    refine yyy hn 1 [8,9,10,11] ?_
    refine ht_seq ?_
    refine ht_cond _ rfl (fun hb31 => ?_) (fun hb31 => ?_)
    ·have h := cond_t hb31 h
     refine ht_skip ?_
     refine pt_then (ht_seq ?_)
     refine ht_block ?_
     refine ht_seq ?_
     obtain ⟨v3, hv3, h⟩ := zn h
     obtain ⟨v4, hv4, h⟩ := zn h
     refine yx hn 0 ?_
     refine ys 0 ⟨li hv3⟩ ?_
     refine ys 1 ⟨ll hv4⟩ ?_
     refine yee [8,9,10,4] ?_
     refine ht_seq ?_
     refine ht_joinS h (fun (s32 : Bool) => [(8,fi weights),(9,vi (weights.length : Int)),(10,vi s18),(19,vb s32)]) ?_ ?_
     ·rintro s32 h
      refine pt_then ?_
      refine ht_cond _ rfl (fun hb36 => ?_) (fun hb36 => ?_)
      ·have h := cond_t hb36 h
       refine yyy hn 1 [2] ?_
       refine ht_ret ?_
       refine pt_r_in ?_
       refine pt_r_then ?_
       refine pt_r_then ?_
       refine pt_r_in ?_
       refine pt_r_then ?_
       have h := hr27 _ (ho28 _ (zi h).symm).symm
       obtain rfl := zi h
       exact pt_ret hio rfl (.tmp _ _ .nil) rfl rfl
      ·have h := cond_f hb36 h
       refine ht_skip ?_
       refine pt_inb ?_
       refine pt_then ?_
       obtain ⟨v10, hv10, h⟩ := zn h
       refine yx hn 0 ?_
       refine ys 0 ⟨lb hv10⟩ ?_
       refine yw [10] 1 ?_
       refine ye [8,9,10] ?_
       exact pt_next _ (zi h).symm rfl
     ·intro u33 h hl34 hr35
      refine cond_some h (fun hg6_2 h => ?_) (fun hg6_2 h => ?_)
      ·refine yx hn 3 ?_
       refine yd hg6_2 3 ?_
       refine ye [8,9,10,19] ?_
       exact hl34 _ (zi h).symm
      ·refine yx hn 3 ?_
       refine yd hg6_2 3 ?_
       refine ye [8,9,10,19] ?_
       exact hl34 _ (zi h).symm
    ·have h := cond_f hb31 h
     refine ht_exit ?_
     refine pt_x_then ?_
     refine pt_x_then ?_
     refine pt_x_in ?_
     refine pt_pick [] (by kernel_rfl) (es' := []) rfl ?_
     exact hl26 _ (ho28 _ (zi h).symm).symm
end Go.Proofs.YtkgfjkfccpjcgaaDoor
