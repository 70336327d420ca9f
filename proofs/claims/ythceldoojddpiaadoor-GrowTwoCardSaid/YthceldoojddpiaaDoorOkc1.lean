/-
  The model's runs are what is told in Lean.
-/
import Derived.Test.YthceldoojddpiaaDoorProg
import Derived.KernelRfl
import Derived.Test.YthceldoojddpiaaDoorShelf
import Derived.Test.YthceldoojddpiaaDoorB2
import Derived.Test.YthceldoojddpiaaDoorB4
import Derived.Test.YthceldoojddpiaaDoorB5
import Derived.Test.YthceldoojddpiaaDoorB8
import Derived.Test.YthceldoojddpiaaDoorSrt
import Derived.Test.YthceldoojddpiaaDoorB9
import Derived.Test.YthceldoojddpiaaDoorShr
import Derived.Test.YthceldoojddpiaaDoorC1
import Derived.Test.YthceldoojddpiaaDoorBA
import Derived.Test.YthceldoojddpiaaDoorSh
set_option linter.unusedVariables false
set_option linter.unusedSimpArgs false
set_option maxHeartbeats 1000000
namespace Go.Proofs.YthceldoojddpiaaDoor
open Go.Abs Go.Abs.Sh Tryd
open List (map flatten)
open Value (int)
def GL (mx:Int):List (Nat×List Value):=[(0, (List.map (Value.int .i64) shrink_rowOrder)), (1, (List.map (Value.int .i64) grow_rowOrder))]
theorem gl_mem0 (mx:Int):(0, ((List.map (Value.int .i64) shrink_rowOrder):List Value))∈GL mx := .head _
theorem gl_mem1 (mx:Int):(1, ((List.map (Value.int .i64) grow_rowOrder):List Value))∈GL mx := .tail _ (.head _)
instance iUD22:UD Tryd.prog 22 (.slice 5):=⟨Tryd.underlying22⟩
theorem fs54:∀ fs, Tryd.prog.underlying 54=some (.struct fs)→fs.toList.map (fun f=>(Tryd.prog.info? f.type).map (·.size))=([1, 1]:List Nat).map some:=by
  intro fs h
  rw [Tryd.underlying54] at h
  cases h
  kernel_rfl
theorem zr54:(Tryd.prog.info? 54).bind (·.zero)=some (.agg #[.slice none 0 0, .int .i64 0]):=by kernel_rfl
instance iUD3:UD Tryd.prog 3 (.int .i64):=⟨Tryd.underlying3⟩
instance iUD61:UD Tryd.prog 61 (.int .u32):=⟨Tryd.underlying61⟩
theorem sz3:(Tryd.prog.info? 3).map (·.size)=some 1:=by kernel_rfl
instance iFO54_1:FO Tryd.prog 54 1 1:=⟨by kernel_rfl⟩
instance iAG3:AS Tryd.prog 3:=⟨by kernel_rfl⟩
theorem sz22:(Tryd.prog.info? 22).map (·.size)=some 1:=by kernel_rfl
theorem sz5:(Tryd.prog.info? 5).map (·.size)=some 1:=by kernel_rfl
theorem zr5:(Tryd.prog.info? 5).bind (·.zero)=some (.int .u8 0):=by kernel_rfl
theorem el22:ElemT Tryd.prog 22 5 1 1:=⟨⟨Tryd.t5, .int .u8 0, Tryd.underlying22, by kernel_rfl, by kernel_rfl, by kernel_rfl, by kernel_rfl, by decide, by kernel_rfl⟩⟩
instance iFO54_0:FO Tryd.prog 54 0 0:=⟨by kernel_rfl⟩
instance iAG22:AS Tryd.prog 22:=⟨by kernel_rfl⟩
instance iSZ5:SZ Tryd.prog 5 1:=⟨by kernel_rfl⟩
instance iAG5:AS Tryd.prog 5:=⟨by kernel_rfl⟩
instance iUD5:UD Tryd.prog 5 (.int .u8):=⟨Tryd.underlying5⟩
theorem fs91:∀ fs, Tryd.prog.underlying 91=some (.struct fs)→fs.toList.map (fun f=>(Tryd.prog.info? f.type).map (·.size))=([1, 1, 1, 1]:List Nat).map some:=by
  intro fs h
  rw [Tryd.underlying91] at h
  cases h
  kernel_rfl
theorem zr91:(Tryd.prog.info? 91).bind (·.zero)=some (.agg #[.slice none 0 0, .map none, .slice none 0 0, .int .i64 0]):=by kernel_rfl
theorem za93:((Tryd.prog.info? 93).bind (·.zero)).map (·.cells.toList)=some (List.map (Value.int .u8) (List.replicate 3 (0:Int))):=by kernel_rfl
instance iFO91_0:FO Tryd.prog 91 0 0:=⟨by kernel_rfl⟩
theorem zr93:(Tryd.prog.info? 93).bind (·.zero)=some (.agg #[.int .u8 0, .int .u8 0, .int .u8 0]):=by kernel_rfl
theorem sz93:(Tryd.prog.info? 93).map (·.size)=some 3:=by kernel_rfl
theorem zr3:(Tryd.prog.info? 3).bind (·.zero)=some (.int .i64 0):=by kernel_rfl
theorem mf89:MapF Tryd.prog 89 93 3 3:=mapF_of Tryd.underlying89 Tryd.underlying3 zr3 Tryd.underlying93 Tryd.underlying5 (by kernel_rfl) (by kernel_rfl) (by kernel_rfl) (by kernel_rfl)
instance iFO91_1:FO Tryd.prog 91 1 1:=⟨by kernel_rfl⟩
instance iAG89:AS Tryd.prog 89:=⟨by kernel_rfl⟩
instance iFO91_3:FO Tryd.prog 91 3 3:=⟨by kernel_rfl⟩
theorem sz73:(Tryd.prog.info? 73).map (·.size)=some 1:=by kernel_rfl
instance iFO91_2:FO Tryd.prog 91 2 2:=⟨by kernel_rfl⟩
instance iAG73:AS Tryd.prog 73:=⟨by kernel_rfl⟩
instance iUD73:UD Tryd.prog 73 (.slice 3):=⟨Tryd.underlying73⟩
instance iSZ3:SZ Tryd.prog 3 1:=⟨by kernel_rfl⟩
theorem fs69:∀ fs, Tryd.prog.underlying 69=some (.struct fs)→fs.toList.map (fun f=>(Tryd.prog.info? f.type).map (·.size))=([1, 1, 1]:List Nat).map some:=by
  intro fs h
  rw [Tryd.underlying69] at h
  cases h
  kernel_rfl
theorem zr69:(Tryd.prog.info? 69).bind (·.zero)=some (.agg #[.int .u8 0, .int .i64 0, .int .i64 0]):=by kernel_rfl
theorem sz69:(Tryd.prog.info? 69).map (·.size)=some 3:=by kernel_rfl
instance iAG69:AA Tryd.prog 69 3:=⟨by kernel_rfl⟩
instance iFO69_0:FO Tryd.prog 69 0 0:=⟨by kernel_rfl⟩
theorem el46:ElemT Tryd.prog 46 69 3 24:=⟨⟨Tryd.t69, .agg #[.int .u8 0, .int .i64 0, .int .i64 0], Tryd.underlying46, by kernel_rfl, by kernel_rfl, by kernel_rfl, by kernel_rfl, by decide, by kernel_rfl⟩⟩
theorem el73:ElemT Tryd.prog 73 3 1 8:=⟨⟨Tryd.t3, .int .i64 0, Tryd.underlying73, by kernel_rfl, by kernel_rfl, by kernel_rfl, by kernel_rfl, by decide, by kernel_rfl⟩⟩
instance iLT_Tok:LenE T_Tok.enc 3:=⟨T_Tok.len⟩
theorem zr78:(Tryd.prog.info? 78).bind (·.zero)=some (.agg #[.slice none 0 0, .slice none 0 0]):=by kernel_rfl
theorem za118:((Tryd.prog.info? 118).bind (·.zero)).map (·.cells.toList)=some (List.map (Value.int .i64) (List.replicate 16 (0:Int))):=by kernel_rfl
theorem sz118:(Tryd.prog.info? 118).map (·.size)=some 16:=by kernel_rfl
theorem zr118:(Tryd.prog.info? 118).bind (·.zero)=some (.agg #[.int .i64 0, .int .i64 0, .int .i64 0, .int .i64 0, .int .i64 0, .int .i64 0, .int .i64 0, .int .i64 0, .int .i64 0, .int .i64 0, .int .i64 0, .int .i64 0, .int .i64 0, .int .i64 0, .int .i64 0, .int .i64 0]):=by kernel_rfl
theorem fs78:∀ fs, Tryd.prog.underlying 78=some (.struct fs)→fs.toList.map (fun f=>(Tryd.prog.info? f.type).map (·.size))=([1, 1]:List Nat).map some:=by
  intro fs h
  rw [Tryd.underlying78] at h
  cases h
  kernel_rfl
theorem sz78:(Tryd.prog.info? 78).map (·.size)=some 2:=by kernel_rfl
instance iUD46:UD Tryd.prog 46 (.slice 69):=⟨Tryd.underlying46⟩
instance iSZ69:SZ Tryd.prog 69 3:=⟨by kernel_rfl⟩
instance iFO69_1:FO Tryd.prog 69 1 1:=⟨by kernel_rfl⟩
instance iFO78_1:FO Tryd.prog 78 1 1:=⟨by kernel_rfl⟩
instance iFO78_0:FO Tryd.prog 78 0 0:=⟨by kernel_rfl⟩
instance iAG78:AA Tryd.prog 78 2:=⟨by kernel_rfl⟩
theorem zr113:(Tryd.prog.info? 113).bind (·.zero)=some (.agg #[.int .i64 0, .int .i64 0, .int .i64 0]):=by kernel_rfl
theorem fs113:∀ fs, Tryd.prog.underlying 113=some (.struct fs)→fs.toList.map (fun f=>(Tryd.prog.info? f.type).map (·.size))=([1, 1, 1]:List Nat).map some:=by
  intro fs h
  rw [Tryd.underlying113] at h
  cases h
  kernel_rfl
theorem sz113:(Tryd.prog.info? 113).map (·.size)=some 3:=by kernel_rfl
instance iAG113:AA Tryd.prog 113 3:=⟨by kernel_rfl⟩
instance iFO113_1:FO Tryd.prog 113 1 1:=⟨by kernel_rfl⟩
instance iFO113_0:FO Tryd.prog 113 0 0:=⟨by kernel_rfl⟩
instance iFO113_2:FO Tryd.prog 113 2 2:=⟨by kernel_rfl⟩
instance iFO69_2:FO Tryd.prog 69 2 2:=⟨by kernel_rfl⟩
theorem el123:ElemT Tryd.prog 123 125 2 16:=⟨⟨Tryd.t125, .agg #[.int .i64 0, .int .i64 0], Tryd.underlying123, by kernel_rfl, by kernel_rfl, by kernel_rfl, by kernel_rfl, by decide, by kernel_rfl⟩⟩
theorem fs125:∀ fs, Tryd.prog.underlying 125=some (.struct fs)→fs.toList.map (fun f=>(Tryd.prog.info? f.type).map (·.size))=([1, 1]:List Nat).map some:=by
  intro fs h
  rw [Tryd.underlying125] at h
  cases h
  kernel_rfl
theorem zr125:(Tryd.prog.info? 125).bind (·.zero)=some (.agg #[.int .i64 0, .int .i64 0]):=by kernel_rfl
theorem sz125:(Tryd.prog.info? 125).map (·.size)=some 2:=by kernel_rfl
instance iAG123:AS Tryd.prog 123:=⟨by kernel_rfl⟩
instance iUD123:UD Tryd.prog 123 (.slice 125):=⟨Tryd.underlying123⟩
instance iLiT_tree_node:LenI T_tree_node.ienc 2:=⟨T_tree_node.ilen⟩
instance iSZ125:SZ Tryd.prog 125 2:=⟨by kernel_rfl⟩
instance iFO125_0:FO Tryd.prog 125 0 0:=⟨by kernel_rfl⟩
theorem sz123:(Tryd.prog.info? 123).map (·.size)=some 1:=by kernel_rfl
instance iFO125_1:FO Tryd.prog 125 1 1:=⟨by kernel_rfl⟩
theorem sz108:(Tryd.prog.info? 108).map (·.size)=some 19:=by kernel_rfl
theorem fs59:∀ fs, Tryd.prog.underlying 59=some (.struct fs)→fs.toList.map (fun f=>(Tryd.prog.info? f.type).map (·.size))=([1, 1, 1, 1, 1]:List Nat).map some:=by
  intro fs h
  rw [Tryd.underlying59] at h
  cases h
  kernel_rfl
theorem zr59:(Tryd.prog.info? 59).bind (·.zero)=some (.agg #[.slice none 0 0, .int .i64 0, .slice none 0 0, .int .i64 0, .int .i64 0]):=by kernel_rfl
instance iFO59_0:FO Tryd.prog 59 0 0:=⟨by kernel_rfl⟩
instance iFO59_1:FO Tryd.prog 59 1 1:=⟨by kernel_rfl⟩
instance iFO59_2:FO Tryd.prog 59 2 2:=⟨by kernel_rfl⟩
instance iFO59_3:FO Tryd.prog 59 3 3:=⟨by kernel_rfl⟩
instance iFO59_4:FO Tryd.prog 59 4 4:=⟨by kernel_rfl⟩
instance iUD32:UD Tryd.prog 32 (.int .u64):=⟨Tryd.underlying32⟩
theorem ok_shrink_writer_put (w:T_shrink_writer) (v:Int) (n:Int) (r:T_shrink_writer) (h:Sh.shrink_writer_put w v n=some r):FnP Tryd.prog 32 [.box 54 [.fl (.own 5) 1 (map (int .u8) w.b), .v (.int .i64 w.n)], .v (.int .i64 v), .v (.int .i64 n)] [.box 54 [.fl (.own 5) 1 (map (int .u8) r.b), .v (.int .i64 r.n)]] (.tup []):=by
  unfold Sh.shrink_writer_put at h
  refine yP 65 func32 fun args0 hargs0 g0 hn hio => ?_
  refine ht_seq ?_
  obtain ⟨v1, hv1, h⟩:=zn h
  refine yx hn 1 ?_
  refine ys 1 ⟨lv hv1⟩ ?_
  refine yee [0,2,6,0] ?_
  refine ht_loopS h (fun ((s35,s36,s37,s38):(List Int)×Int×Int×Int)=>[(0,.box 54 [.fl (.own 5) 1 (map (int .u8) s35),vi s36]),(2,vi s37),(6,.v (.int .u32 s38)),(0,.v (List.getD args0 0 undef))]) (fun ((s46,s47):(List Int)×Int)=>[(0,.box 54 [.fl (.own 5) 1 (map (int .u8) s46),vi s47]),(0,.v (List.getD args0 0 undef))]) ?_ ?_
  ·rintro ⟨s46, s47⟩ h
   obtain rfl:=zi h
   exact pt_endP (es:=[]) (posts:=[.box 54 [.fl (.own 5) 1 (map (int .u8) s46), .v (.int .i64 s47)]]) hio rfl rfl .nil rfl rfl hargs0 rfl
  ·rintro u48 hl49 hr50 ⟨s35, s36, s37, s38⟩ rr53 h ho51
   refine ht_seq ?_
   refine yyy hn 2 [0,2,6,12,0] ?_
   refine ht_cond _ rfl (fun hb54 => ?_) (fun hb54 => ?_)
   ·have h:=cond_t hb54 h
    refine ht_skip ?_
    refine pt_then ?_
    refine ht_block ?_
    refine ht_seq ?_
    obtain ⟨v3, hv3, h⟩:=zn h
    refine yx hn 4 ?_
    refine ys 1 ⟨lB (rem_ok hv3)⟩ ?_
    refine yee [0,2,6,7,0] ?_
    refine ht_seq ?_
    refine ht_joinS h (fun (s56:(List Int))=>[(0,.box 54 [.fl (.own 5) 1 (map (int .u8) s56),vi s36]),(2,vi s37),(6,.v (.int .u32 s38)),(7,vi v3),(0,.v (List.getD args0 0 undef))]) ?_ ?_
    ·rintro s56 h
     refine pt_then (ht_seq ?_)
     obtain ⟨v11, hv11, h⟩:=zn h
     obtain ⟨v12, hv12, h⟩:=zn h
     refine yx hn 1 ?_
     refine ys 1 ⟨lb hv11⟩ ?_
     refine yS (vi v12) 1 ⟨(Option.some.inj hv12) ▸ op_min _ _ _ _ rfl rfl⟩ ?_
     refine yee [0,2,6,7,8,0] ?_
     refine ht_seq ?_
     obtain ⟨v13, hv13, h⟩:=zn h
     obtain ⟨v14, hv14, h⟩:=zn h
     obtain ⟨v15, hv15, h⟩:=zn h
     obtain ⟨v16, hv16, h⟩:=zn h
     obtain ⟨v17, hv17, h⟩:=zn h
     obtain ⟨v18, hv18, h⟩:=zn h
     obtain ⟨v19, hv19, h⟩:=zn h
     obtain ⟨v20, hv20, h⟩:=zn h
     refine wb [[],[33,0],[34,0],[35,0],[],[37,0],[38,0],[39,0],[40,0]] ?_
     refine wN [41] ?_
     refine wo [] ⟨lb hv13⟩ ?_
     refine wN [36,0,42] ?_
     refine wo [] ⟨li hv14⟩ ?_
     refine wN [43,0] ?_
     refine wo [[6],[7]] ⟨ll hv15⟩ ?_
     refine wN [45,46] ?_
     refine wo [] ⟨lB (shl_ok hv16)⟩ ?_
     refine wN [47] ?_
     refine wo [] ⟨lv hv17⟩ ?_
     refine wN [44,48] ?_
     refine wo [] ⟨lb hv18⟩ ?_
     refine wN [36,0,42] ?_
     refine wo [] ⟨li hv19⟩ ?_
     refine wK [0] [50,49] ?_
     refine wt [(0,.box 54 [.fl (.own 5) 1 (map (int .u8) v20),vi s36])] [] ⟨op_store_e_cell _ _ _ 0 0 _ _ _ _ sz5 rfl rfl (zl rfl) rfl rfl (by decide) (map_lt (ix_ok hv19).2) ((map_set (f:=int .u8) _ (ix_ok hv19).2).trans (congrArg (map _) (Option.some.inj hv20))) rfl⟩ ?_
     refine wee hn [0,2,6,8,0] ?_
     refine ht_seq ?_
     obtain ⟨v21, hv21, h⟩:=zn h
     refine yx hn 2 ?_
     refine ys 0 ⟨lB (shr_ok hv21)⟩ ?_
     refine yw [6] 1 ?_
     refine yee [0,2,8,6,0] ?_
     refine ht_seq ?_
     obtain ⟨v22, hv22, h⟩:=zn h
     refine yx hn 5 ?_
     refine ys 3 ⟨lb hv22⟩ ?_
     refine yee [0,2,8,6,0] ?_
     obtain ⟨v23, hv23, h⟩:=zn h
     refine yx hn 2 ?_
     refine ys 0 ⟨lb hv23⟩ ?_
     refine yw [2] 1 ?_
     refine ye [0,6,2,0] ?_
     refine pt_inb ?_
     refine pt_pick [0,2,1,3] (by kernel_rfl) (es':=[(_,_),(_,_),(_,_),(_,_)]) rfl ?_
     exact pt_next _ (zi h).symm rfl
    ·intro u57 h hl58 hr59
     refine yyy hn 2 [0,2,6,7,19,0] ?_
     refine ht_cond _ rfl (fun hb60 => ?_) (fun hb60 => ?_)
     ·have h:=cond_t hb60 h
      obtain ⟨v5, hv5, h⟩:=zn h
      refine yx hn 5 ?_
      refine yS (.fl (.own 5) 1 (map (int .u8) [0])) 0 ⟨op_buildSlice _ _ 1 (.int .u8 0) (map (int .u8) [0]) [(0,.int .u8 0)] underlying22 sz5 zr5 (fun _ V w o a hv hes=>by simp only [List.map_toArray,List.map_cons,List.map_nil]; try rfl) (litfill (by simp [Instr.fill,Value.cells]; rfl) (by simp [List.range,List.range.loop] <;> rfl)) (by simp [Value.oneCell']) rfl (by decide) (by decide) (by decide)⟩ ?_
      refine yk [0] [24,25] ?_
      refine ytt (0,.box 54 [.any,vi s36]) (26,.fl (.own 5) 1 (map (int .u8) v5)) 2 ⟨op_app_cell _ _ _ _ _ _ el22 rfl rfl (zl rfl) rfl (map_len _) (map_len _) hv5 ((List.map_append).symm.trans (congrArg (map _) (app_eq hv5))) (Nat.ne_of_beq_eq_false rfl) rfl rfl⟩ ?_
      refine yw [24] 0 ?_
      refine yk [26,0] [28] ?_
      refine yt (0,.box 54 [.fl (.own 5) 1 (map (int .u8) v5),vi s36]) 0 ⟨op_store_take _ _ _ _ _ _ _ _ sz22 rfl rfl rfl (zl rfl) rfl rfl⟩ ?_
      refine ye [0,2,6,7,0] ?_
      exact hl58 _ (zi h).symm
     ·have h:=cond_f hb60 h
      refine ht_skip ?_
      refine pt_pick [0,1,2,3,5] (by kernel_rfl) (es':=[(_,_),(_,_),(_,_),(_,_),(_,_)]) rfl ?_
      exact hl58 _ (zi h).symm
   ·have h:=cond_f hb54 h
    refine ht_exit ?_
    refine pt_x_then ?_
    refine pt_x_then ?_
    refine pt_x_in ?_
    refine pt_pick [0,4] (by kernel_rfl) (es':=[(_,_),(_,_)]) rfl ?_
    exact hl49 _ (ho51 _ (zi h).symm).symm
theorem ok_shrink_newBlock (kind:Int) (r:(Option T_shrink_writer)) (h:Sh.shrink_newBlock kind=some r):FnOK Tryd.prog 31 [.v (.int .i64 kind)] (.obox (Option.isSome r) 54 [.fl (.own 5) 1 (map (int .u8) (((Option.getD r (default:T_shrink_writer))).b)), .v (.int .i64 (((Option.getD r (default:T_shrink_writer))).n))]):=by
  unfold Sh.shrink_newBlock at h
  refine yO 12 func31 fun g0 hn hio => ?_
  refine yyy hn 1 [0] ?_
  refine yxx hn 0 ?_
  refine yS (.agg [vz,vi 0]) 1 ⟨op_build _ _ _ _ [1,1] _ _ underlying54 zr54 (fs54 _ underlying54) Src.nil rfl rfl rfl⟩ ?_
  refine ya 0 ?_
  refine yee [0,3] ?_
  refine ht_seq ?_
  obtain ⟨v1, hv1, h⟩:=zn h
  refine yx hn 1 ?_
  refine yk [3] [6] ?_
  refine ytt (3,.box 54 [.fl (.own 5) 1 (map (int .u8) v1.b),vi v1.n]) (7,.tup []) 0 ⟨op_callP _ _ _ _ 7 32 [.tmp 6] [_,_] _ _ _ rfl call32 rfl rfl rfl ((ok_shrink_writer_put (T_shrink_writer.mk [] 0) 1 1 _ hv1).args (subs_cons (sub_box (subs_cons (sub_nil 5 1) (subs_cons (sub_refl _) (subs_nil)))) (subs_cons (sub_refl _) (subs_cons (sub_refl _) (subs_nil))))) (zl rfl) rfl rfl rfl rfl rfl rfl rfl rfl⟩ ?_
  refine yee [0,3] ?_
  refine ht_seq ?_
  obtain ⟨v2, hv2, h⟩:=zn h
  refine yx hn 2 ?_
  refine yQ call32 (ok_shrink_writer_put _ _ _ _ hv2) 3 [8,9] 0 ?_
  refine yee [3] ?_
  refine yxx hn 0 ?_
  refine ym 0 ?_
  refine ya 0 ?_
  refine yee [2] ?_
  refine ht_ret ?_
  refine pt_sub (fs:=[(2,.obox true 54 [.fl (.own 5) 1 (map (int .u8) v2.b),vi v2.n])]) (.sub _ (sub_ob_box 54 (subs_refl _)) rfl .nil) ?_
  obtain rfl:=zi h
  exact pt_ret hio rfl (.tmp _ _ .nil) rfl rfl
theorem ok_shrink_storedBlock (b:(List Int)) (r:(Option T_shrink_writer)) (h:Sh.shrink_storedBlock b=some r):FnOK Tryd.prog 21 [.fl .shr 1 (map (int .u8) b)] (.obox (Option.isSome r) 54 [.fl (.own 5) 1 (map (int .u8) (((Option.getD r (default:T_shrink_writer))).b)), .v (.int .i64 (((Option.getD r (default:T_shrink_writer))).n))]):=by
  unfold Sh.shrink_storedBlock at h
  refine yO 37 func21 fun g0 hn hio => ?_
  refine yyy hn 1 [0] ?_
  refine ht_seq ?_
  obtain ⟨v1, hv1, h⟩:=zn h
  refine yx hn 0 ?_
  refine ys 0 ⟨lk call31 (ok_shrink_newBlock _ _ hv1)⟩ ?_
  refine ya 0 ?_
  refine ye [0,3] ?_
  refine pt_ob (d:=default) (f:=fun (v2:T_shrink_writer)=>[.fl (.own 5) 1 (map (int .u8) v2.b), .v (.int .i64 v2.n)]) 1 2 3 54 h (es1:=fun v2=>[(0, fb b), (3, .box 54 [.fl (.own 5) 1 (map (int .u8) v2.b), .v (.int .i64 v2.n)])]) (es0:=[(0, fb b), (3, .v (.pointer none))]) rfl (fun _=>rfl) (by kernel_rfl) (fun _=>rfl) (fun _=>rfl) rfl (fun v2 hv3 h => ?_) (fun hv3 h => ?_)
  ·refine pt_then (ht_seq ?_)
   obtain ⟨v4, hv4, h⟩:=zn h
   refine yx hn 6 ?_
   refine ys 3 ⟨lb hv4⟩ ?_
   refine yee [0,3] ?_
   refine ht_seq ?_
   obtain ⟨v5, hv5, h⟩:=zn h
   refine yx hn 3 ?_
   refine yQ call32 (ok_shrink_writer_put _ _ _ _ hv5) 3 [16,18] 0 ?_
   refine yee [0,3] ?_
   refine ht_seq ?_
   obtain ⟨v6, hv6, h⟩:=zn h
   obtain ⟨v7, hv7, h⟩:=zn h
   refine yx hn 3 ?_
   refine ys 0 ⟨lb hv6⟩ ?_
   refine yQ call32 (ok_shrink_writer_put _ _ _ _ hv7) 3 [20,23] 0 ?_
   refine yee [0,3] ?_
   refine ht_seq ?_
   refine yyy hn 3 [3,25,26,27] ?_
   refine ht_loopS h (fun ((s18,s19,s20):(List Int)×Int×Int)=>[(3,.box 54 [.fl (.own 5) 1 (map (int .u8) s18),vi s19]),(25,fb b),(26,vi (b.length:Int)),(27,vi s20)]) (fun ((s22,s23):(List Int)×Int)=>[(3,.box 54 [.fl (.own 5) 1 (map (int .u8) s22),vi s23])]) ?_ ?_
   ·rintro ⟨s22, s23⟩ h
    refine pt_then ?_
    refine yxx hn 0 ?_
    refine ym 0 ?_
    refine ya 0 ?_
    refine yee [2] ?_
    refine ht_ret ?_
    refine pt_sub (fs:=[(2,.obox true 54 [.fl (.own 5) 1 (map (int .u8) s22),vi s23])]) (.sub _ (sub_ob_box 54 (subs_refl _)) rfl .nil) ?_
    obtain rfl:=zi h
    exact pt_ret hio rfl (.tmp _ _ .nil) rfl rfl
   ·rintro u24 hl25 hr26 ⟨s18, s19, s20⟩ rr29 h ho27
    refine yyy hn 1 [3,25,26,27,28] ?_
    refine ht_seq ?_
    refine ht_cond _ rfl (fun hb30 => ?_) (fun hb30 => ?_)
    ·have h:=cond_t hb30 h
     refine ht_skip ?_
     refine pt_then (ht_seq ?_)
     refine ht_block ?_
     refine ht_seq ?_
     obtain ⟨v9, hv9, h⟩:=zn h
     obtain ⟨v10, hv10, h⟩:=zn h
     refine yx hn 0 ?_
     refine ys 0 ⟨li hv9⟩ ?_
     refine ys 1 ⟨ll hv10⟩ ?_
     refine yee [3,25,26,27,5] ?_
     obtain ⟨v11, hv11, h⟩:=zn h
     obtain ⟨v12, hv12, h⟩:=zn h
     refine yx hn 2 ?_
     refine ys 0 ⟨lv hv11⟩ ?_
     refine yQ call32 (ok_shrink_writer_put _ _ _ _ hv12) 3 [31,33] 0 ?_
     refine ye [3,25,26,27] ?_
     refine pt_inb ?_
     refine pt_then ?_
     obtain ⟨v13, hv13, h⟩:=zn h
     refine yx hn 0 ?_
     refine ys 0 ⟨lb hv13⟩ ?_
     refine yw [27] 1 ?_
     refine ye [3,25,26,27] ?_
     exact pt_next _ (zi h).symm rfl
    ·have h:=cond_f hb30 h
     refine ht_exit ?_
     refine pt_x_then ?_
     refine pt_x_then ?_
     refine pt_x_in ?_
     refine pt_pick [0] (by kernel_rfl) (es':=[(_,_)]) rfl ?_
     exact hl25 _ (ho27 _ (zi h).symm).symm
  ·cases h
theorem ok_shrink_Stored (b:(List Int)) (r:((List Int)×Int)) (h:Sh.shrink_Stored b=some r):FnOK Tryd.prog 17 [.fl .shr 1 (map (int .u8) b)] (.tup [.fl (.own 5) 1 (map (int .u8) r.1), .v (.int .i64 r.2)]):=by
  unfold Sh.shrink_Stored at h
  refine yO 12 func17 fun g0 hn hio => ?_
  refine yyy hn 2 [0] ?_
  refine ht_seq ?_
  refine yyy hn 3 [0,6] ?_
  refine ht_cond _ rfl (fun hb1 => ?_) (fun hb1 => ?_)
  ·have h:=cond_t hb1 h
   refine yyy hn 2 [2,3] ?_
   refine ht_ret ?_
   refine pt_sub (fs:=[(2,.fl (.own 5) 1 (map (int .u8) [])),(3,vi 2)]) (.sub _ (sub_nil 5 1) rfl (.same _ .nil)) ?_
   refine pt_r_then ?_
   obtain rfl:=zi h
   exact pt_ret hio rfl (.tmp _ _ (.tmp _ _ .nil)) rfl rfl
  ·have h:=cond_f hb1 h
   refine ht_skip ?_
   refine pt_then (ht_seq ?_)
   obtain ⟨v2, hv2, h⟩:=zn h
   obtain ⟨v3, hv3, h⟩:=zn h
   refine yx hn 1 ?_
   refine ys 0 ⟨lk call21 (ok_shrink_storedBlock _ _ hv2)⟩ ?_
   refine yk [8] [] ?_
   refine ytt (8,.box 54 [.fl (.own 5) 1 (map (int .u8) v3.b),vi v3.n]) (9,.ptr 8 0) 2 ⟨op_nilCheck_ob _ 9 8 2 (by rw [hv3]; rfl) (by rw [hv3]; rfl) rfl (by decide) rfl rfl⟩ ?_
   refine yk [8] [11] ?_
   refine ytt (8,.box 54 [.any,vi v3.n]) (2,.fl (.own 5) 1 (map (int .u8) v3.b)) 1 ⟨op_assign_cell _ 2 8 0 rfl rfl (zl rfl) rfl (by decide) rfl⟩ ?_
   refine yee [2,3] ?_
   refine ht_ret ?_
   obtain rfl:=zi h
   exact pt_ret hio rfl (.tmp _ _ (.tmp _ _ .nil)) rfl rfl
theorem ok_match_newIndex_sh (b:(List Int)) (from_:Int) (r:(Option T_match_index)) (h:Sh.match_newIndex_sh b from_=some r):FnOK Tryd.prog 28 [.fl .shr 1 (map (int .u8) b), .v (.int .i64 from_)] (.obox (Option.isSome r) 91 [.fl .shr 1 (map (int .u8) (((Option.getD r (default:T_match_index))).b)), .hid (mapT Tryd.prog 93 3 (((Option.getD r (default:T_match_index))).last)), .fl (.own 3) 1 (map (int .i64) (((Option.getD r (default:T_match_index))).back)), .v (.int .i64 (((Option.getD r (default:T_match_index))).from_))]):=by
  unfold Sh.match_newIndex_sh at h
  refine yO 10 func28 fun g0 hn hio => ?_
  refine yyy hn 1 [0,1] ?_
  refine yxx hn 1 ?_
  refine yS (.hid (mapT Tryd.prog 93 3 [])) 1 ⟨op_makeMap _ _⟩ ?_
  refine yk [6] [5,7] ?_
  refine yt (8,.agg [fb b,.hid (mapT Tryd.prog 93 3 []),vz,vi from_]) 0 ⟨op_build _ _ _ _ [1,1,1,1] _ _ underlying91 zr91 (fs91 _ underlying91) (.copy _ (.take _ _ (.copy _ Src.nil))) rfl rfl rfl⟩ ?_
  refine yk [8] [] ?_
  refine yt (9,.box 91 [fb b,.hid (mapT Tryd.prog 93 3 []),vz,vi from_]) 0 ⟨op_box_take _ _ _ _ _ rfl rfl rfl⟩ ?_
  refine ya 0 ?_
  refine yee [4] ?_
  refine ht_ret ?_
  refine pt_sub (fs:=[(4,.obox true 91 [fb b,.hid (mapT Tryd.prog 93 3 []),.fl (.own 3) 1 (map (int .i64) []),vi from_])]) (.sub _ (sub_ob_box 91 (subs_cons (sub_refl _) (subs_cons (sub_refl _) (subs_cons (sub_nil 3 1) (subs_cons (sub_refl _) (subs_nil)))))) rfl .nil) ?_
  obtain rfl:=zi h
  exact pt_ret hio rfl (.tmp _ _ .nil) rfl rfl
theorem ok_match_index_startAt (x:T_match_index) (at_:Int) (r:((List Int)×Bool×T_match_index)) (h:Sh.match_index_startAt x at_=some r):FnP Tryd.prog 42 [.box 91 [.fl .shr 1 (map (int .u8) x.b), .hid (mapT Tryd.prog 93 3 x.last), .fl (.own 3) 1 (map (int .i64) x.back), .v (.int .i64 x.from_)], .v (.int .i64 at_)] [.box 91 [.fl .shr 1 (map (int .u8) r.2.2.b), .hid (mapT Tryd.prog 93 3 r.2.2.last), .fl (.own 3) 1 (map (int .i64) r.2.2.back), .v (.int .i64 r.2.2.from_)]] (.tup [.v (.agg (map (int .u8) r.1).toArray), .v (.bool r.2.1)]):=by
  unfold Sh.match_index_startAt at h
  refine yP 25 func42 fun args0 hargs0 g0 hn hio => ?_
  refine yxx hn 0 ?_
  refine yS (.arr 93 (map (int .u8) ((List.replicate 3 (0:Int))))) 1 ⟨oA (op_alloc_arr _ za93)⟩ ?_
  refine yee [0,1,4,0] ?_
  refine ht_seq ?_
  refine ht_seq ?_
  obtain ⟨v1, hv1, h⟩:=zn h
  refine yx hn 1 ?_
  refine ys 6 ⟨lb hv1⟩ ?_
  refine yee [0,1,4,13,0] ?_
  refine ht_cond _ rfl (fun hb2 => ?_) (fun hb2 => ?_)
  ·have h:=cond_t hb2 h
   refine ht_seq ?_
   obtain ⟨v3, hv3, h⟩:=zn h
   obtain ⟨v4, hv4, h⟩:=zn h
   refine yx hn 0 ?_
   refine yS (.v (.agg (map (int .u8) (([(0:Int),(0:Int),(0:Int)]:List Int))).toArray)) 0 ⟨op_build_arr _ _ (.agg #[.int .u8 0,.int .u8 0,.int .u8 0]) (map (int .u8) (([(0:Int),(0:Int),(0:Int)]:List Int))) [] underlying93 sz5 zr93 (fun _ V w o a hv hes=>by simp only [List.map_toArray,List.map_cons,List.map_nil]; try rfl) (litfill (by simp [Instr.fill,Value.cells]; rfl) (by simp))⟩ ?_
   refine yk [4] [14] ?_
   refine yt (4,.arr 93 (map (int .u8) (([(0:Int),(0:Int),(0:Int)]:List Int)))) 1 ⟨op_storeA_arr _ _ _ _ (sz93.trans (congrArg some (ln_len hv4))) rfl rfl (ln_ones (fun _=>rfl) _) ((ln_len (f:=int .u8) hv3).symm.trans (ln_len (f:=int .u8) hv4))⟩ ?_
   refine yee [0,4,5,0] ?_
   refine ht_ret ?_
   obtain ⟨v5, hv5, h⟩:=zn h
   refine pt_pick [1,2,0,3] (by kernel_rfl) (es':=[(_,_),(_,_),(_,_),(_,_)]) rfl ?_
   refine pt_r_then ?_
   obtain rfl:=zi h
   exact pt_retP (es:=[(4, .arr 93 (map (int .u8) (([(0:Int), (0:Int), (0:Int)]:List Int)))), (5, .v (.bool false))]) (posts:=[.box 91 [fb x.b,.hid (mapT Tryd.prog 93 3 x.last),.fl (.own 3) 1 (map (int .i64) x.back),.v (.int .i64 x.from_)]]) hio rfl rfl (.cellR _ _ _ _ underlying93 rfl (sz93.trans (congrArg some (ln_len hv5))) (.tmp _ _ .nil)) rfl rfl hargs0 rfl
  ·have h:=cond_f hb2 h
   refine ht_skip ?_
   refine pt_then (ht_seq ?_)
   obtain ⟨v6, hv6, h⟩:=zn h
   obtain ⟨v7, hv7, h⟩:=zn h
   obtain ⟨v8, hv8, h⟩:=zn h
   obtain ⟨v9, hv9, h⟩:=zn h
   obtain ⟨v10, hv10, h⟩:=zn h
   refine yx hn 6 ?_
   refine ys 0 ⟨lb hv6⟩ ?_
   refine yS (fb v7) 0 ⟨op_sl _ _ _ at_ v6 _ underlying22 sz5 rfl rfl ⟨_,rfl⟩ ⟨_,rfl⟩ hv7⟩ ?_
   refine yS (.eref (.slot 22) 0) 0 ⟨op_arrayAt _ _ 22 3 underlying93 rfl (arr_map (f:=int .u8) hv8).2.2 (by decide) rfl⟩ ?_
   refine yS (.v (.agg (map (int .u8) v8).toArray)) 0 ⟨op_load_eV _ _ _ (.slot 22) 0 3 _ underlying93 rfl sz93 rfl rfl (arr_map (f:=int .u8) hv8).1 (arr_map (f:=int .u8) hv8).2.1 (by decide)⟩ ?_
   refine yk [4] [24] ?_
   refine yt (4,.arr 93 (map (int .u8) v8)) 1 ⟨op_storeA_arr _ _ _ _ (sz93.trans (congrArg some (ln_len hv10))) rfl rfl (ln_ones (fun _=>rfl) _) ((ln_len (f:=int .u8) hv9).symm.trans (ln_len (f:=int .u8) hv10))⟩ ?_
   refine yee [0,4,5,0] ?_
   refine ht_ret ?_
   obtain ⟨v11, hv11, h⟩:=zn h
   refine pt_pick [1,2,0,3] (by kernel_rfl) (es':=[(_,_),(_,_),(_,_),(_,_)]) rfl ?_
   obtain rfl:=zi h
   exact pt_retP (es:=[(4, .arr 93 (map (int .u8) v8)), (5, .v (.bool true))]) (posts:=[.box 91 [fb x.b,.hid (mapT Tryd.prog 93 3 x.last),.fl (.own 3) 1 (map (int .i64) x.back),.v (.int .i64 x.from_)]]) hio rfl rfl (.cellR _ _ _ _ underlying93 rfl (sz93.trans (congrArg some (ln_len hv11))) (.tmp _ _ .nil)) rfl rfl hargs0 rfl
theorem ok_match_index_common (x:T_match_index) (p:Int) (at_:Int) (r:(Int×T_match_index)) (h:Sh.match_index_common x p at_=some r):FnP Tryd.prog 43 [.box 91 [.fl .shr 1 (map (int .u8) x.b), .hid (mapT Tryd.prog 93 3 x.last), .fl (.own 3) 1 (map (int .i64) x.back), .v (.int .i64 x.from_)], .v (.int .i64 p), .v (.int .i64 at_)] [.box 91 [.fl .shr 1 (map (int .u8) r.2.b), .hid (mapT Tryd.prog 93 3 r.2.last), .fl (.own 3) 1 (map (int .i64) r.2.back), .v (.int .i64 r.2.from_)]] (.v (.int .i64 r.1)):=by
  unfold Sh.match_index_common at h
  refine yP 44 func43 fun args0 hargs0 g0 hn hio => ?_
  refine yyy hn 1 [0,1,2,0] ?_
  refine ht_seq ?_
  obtain ⟨v1, hv1, h⟩:=zn h
  obtain ⟨v2, hv2, h⟩:=zn h
  refine yx hn 6 ?_
  refine ys 0 ⟨lb hv1⟩ ?_
  refine yS (vi v2) 1 ⟨(Option.some.inj hv2) ▸ op_min _ _ _ _ rfl rfl⟩ ?_
  refine yee [0,1,2,7,0] ?_
  refine yyy hn 1 [0,1,2,7,8,0] ?_
  refine ht_seq ?_
  refine ht_loopS h (fun (s21:Int)=>[(0,.box 91 [fb x.b,.hid (mapT Tryd.prog 93 3 x.last),.fl (.own 3) 1 (map (int .i64) x.back),vi x.from_]),(1,vi p),(2,vi at_),(7,vi v2),(8,vi s21),(0,.v (List.getD args0 0 undef))]) (fun (s27:Int)=>[(0,.box 91 [fb x.b,.hid (mapT Tryd.prog 93 3 x.last),.fl (.own 3) 1 (map (int .i64) x.back),vi x.from_]),(8,vi s27),(0,.v (List.getD args0 0 undef))]) ?_ ?_
  ·rintro s27 h
   refine pt_then ?_
   refine yyy hn 2 [0,6,0] ?_
   refine ht_ret ?_
   refine pt_pick [1,0,2] (by kernel_rfl) (es':=[(_,_),(_,_),(_,_)]) rfl ?_
   obtain rfl:=zi h
   exact pt_retP (es:=[(6, .v (.int .i64 s27))]) (posts:=[.box 91 [fb x.b,.hid (mapT Tryd.prog 93 3 x.last),.fl (.own 3) 1 (map (int .i64) x.back),.v (.int .i64 x.from_)]]) hio rfl rfl (.tmp _ _ .nil) rfl rfl hargs0 rfl
  ·rintro u28 hl29 hr30 s21 rr33 h ho31
   refine ht_seq ?_
   refine ht_seq ?_
   refine ht_joinS h (fun (s34:Bool)=>[(0,.box 91 [fb x.b,.hid (mapT Tryd.prog 93 3 x.last),.fl (.own 3) 1 (map (int .i64) x.back),vi x.from_]),(1,vi p),(2,vi at_),(7,vi v2),(8,vi s21),(40,vb s34),(0,.v (List.getD args0 0 undef))]) ?_ ?_
   ·rintro s34 h
    refine pt_then ?_
    refine ht_cond _ rfl (fun hb38 => ?_) (fun hb38 => ?_)
    ·have h:=cond_t hb38 h
     refine ht_skip ?_
     refine pt_then ?_
     refine ht_block ?_
     obtain ⟨v14, hv14, h⟩:=zn h
     refine yx hn 1 ?_
     refine ys 0 ⟨lb hv14⟩ ?_
     refine yw [8] 1 ?_
     refine ye [0,1,2,7,8,0] ?_
     refine pt_inb ?_
     exact pt_next _ (zi h).symm rfl
    ·have h:=cond_f hb38 h
     refine ht_exit ?_
     refine pt_x_then ?_
     refine pt_x_then ?_
     refine pt_x_in ?_
     refine pt_pick [0,4,6] (by kernel_rfl) (es':=[(_,_),(_,_),(_,_)]) rfl ?_
     exact hl29 _ (ho31 _ (zi h).symm).symm
   ·intro u35 h hl36 hr37
    refine cond_some h (fun hg3_3 h => ?_) (fun hg3_3 h => ?_)
    ·obtain ⟨v3, hv3, h⟩:=zn h
     obtain ⟨v4, hv4, h⟩:=zn h
     obtain ⟨v5, hv5, h⟩:=zn h
     obtain ⟨v6, hv6, h⟩:=zn h
     obtain ⟨v7, hv7, h⟩:=zn h
     obtain ⟨v8, hv8, h⟩:=zn h
     refine wb [[8],[7],[17,18],[19]] ?_
     refine wd hg3_3 [[20],[20,21,0],[20,22,0],[20,23,0],[20,1],[20,8]] ?_
     refine wN [20,25,26] ?_
     refine wo [] ⟨lb hv3⟩ ?_
     refine wN [20,24,27] ?_
     refine wo [] ⟨li hv4⟩ ?_
     refine wN [20,28,24] ?_
     refine wo [[20],[20,30,0],[20,31,0],[20,32,0],[20,2],[20,8]] ⟨ll hv5⟩ ?_
     refine wN [20,34,35] ?_
     refine wo [] ⟨lb hv6⟩ ?_
     refine wN [20,33,36] ?_
     refine wo [] ⟨li hv7⟩ ?_
     refine wN [20,37,33] ?_
     refine wo [[20,29,38],[20,39]] ⟨ll hv8⟩ ?_
     refine we hn [0,1,2,7,8,40,0] ?_
     exact hl36 _ (zi h).symm
    ·refine wb [[8],[7],[17,18],[19]] ?_
     refine wd hg3_3 [[20],[20],[20],[20],[20],[20],[20],[20],[20],[20],[20],[20],[20],[20],[20],[20],[20],[20],[20],[20]] ?_
     refine we hn [0,1,2,7,8,40,0] ?_
     exact hl36 _ (zi h).symm
theorem ok_match_index_best (x:T_match_index) (at_:Int) (r:(Int×Int×T_match_index)) (h:Sh.match_index_best x at_=some r):FnP Tryd.prog 29 [.box 91 [.fl .shr 1 (map (int .u8) x.b), .hid (mapT Tryd.prog 93 3 x.last), .fl (.own 3) 1 (map (int .i64) x.back), .v (.int .i64 x.from_)], .v (.int .i64 at_)] [.box 91 [.fl .shr 1 (map (int .u8) r.2.2.b), .hid (mapT Tryd.prog 93 3 r.2.2.last), .fl (.own 3) 1 (map (int .i64) r.2.2.back), .v (.int .i64 r.2.2.from_)]] (.tup [.v (.int .i64 r.1), .v (.int .i64 r.2.1)]):=by
  unfold Sh.match_index_best at h
  refine yP 65 func29 fun args0 hargs0 g0 hn hio => ?_
  refine yyy hn 2 [0,1,4,5,0] ?_
  refine ht_seq ?_
  obtain ⟨v1, hv1, h⟩:=zn h
  obtain ⟨v2, hv2, h⟩:=zn h
  obtain ⟨v3, hv3, h⟩:=zn h
  refine yx hn 2 ?_
  refine yq call42 (ok_match_index_startAt _ _ _ hv1) 0 [11,12] 0 ?_
  refine ym 2 ?_
  refine yS (.arr 93 (map (int .u8) ((List.replicate 3 (0:Int))))) 0 ⟨oA (op_alloc_arr _ za93)⟩ ?_
  refine yk [6] [14] ?_
  refine yt (6,.arr 93 (map (int .u8) v1.1)) 1 ⟨op_storeA_arr _ _ _ _ (sz93.trans (congrArg some (ln_len hv3))) rfl rfl (ln_ones (fun _=>rfl) _) ((ln_len (f:=int .u8) hv2).symm.trans (ln_len (f:=int .u8) hv3))⟩ ?_
  refine yee [0,1,4,5,6,7,0] ?_
  refine ht_seq ?_
  refine yyy hn 2 [0,1,4,5,6,17,0] ?_
  refine ht_cond _ rfl (fun hb4 => ?_) (fun hb4 => ?_)
  ·have h:=cond_t hb4 h
   refine yxx hn 0 ?_
   refine yw [4] 1 ?_
   refine yw [5] 1 ?_
   refine yee [0,4,5,0] ?_
   refine ht_ret ?_
   refine pt_pick [1,2,0,3] (by kernel_rfl) (es':=[(_,_),(_,_),(_,_),(_,_)]) rfl ?_
   refine pt_r_then ?_
   obtain rfl:=zi h
   exact pt_retP (es:=[(4, .v (.int .i64 0)), (5, .v (.int .i64 0))]) (posts:=[.box 91 [fb v1.2.2.b,.hid (mapT Tryd.prog 93 3 v1.2.2.last),.fl (.own 3) 1 (map (int .i64) v1.2.2.back),.v (.int .i64 v1.2.2.from_)]]) hio rfl rfl (.tmp _ _ (.tmp _ _ .nil)) rfl rfl hargs0 rfl
  ·have h:=cond_f hb4 h
   refine ht_skip ?_
   refine pt_then (ht_seq ?_)
   refine ht_joinS h (fun ((s109,s110,s111,s112,s113,s114):(List Int)×(List ((List Int)×Int))×(List Int)×Int×Int×Int)=>[(0,.box 91 [fb s109,.hid (mapT Tryd.prog 93 3 s110),.fl (.own 3) 1 (map (int .i64) s111),vi s112]),(4,vi s113),(5,vi s114),(0,.v (List.getD args0 0 undef))]) ?_ ?_
   ·rintro ⟨s109, s110, s111, s112, s113, s114⟩ h
    refine pt_then ?_
    refine yxx hn 2 ?_
    refine yw [4] 1 ?_
    refine yw [5] 1 ?_
    refine yee [0,4,5,0] ?_
    refine ht_ret ?_
    refine pt_pick [1,2,0,3] (by kernel_rfl) (es':=[(_,_),(_,_),(_,_),(_,_)]) rfl ?_
    obtain rfl:=zi h
    exact pt_retP (es:=[(4, .v (.int .i64 s113)), (5, .v (.int .i64 s114))]) (posts:=[.box 91 [fb s109,.hid (mapT Tryd.prog 93 3 s110),.fl (.own 3) 1 (map (int .i64) s111),.v (.int .i64 s112)]]) hio rfl rfl (.tmp _ _ (.tmp _ _ .nil)) rfl rfl hargs0 rfl
   ·intro u115 h hl116 hr117
    refine ht_seq ?_
    obtain ⟨v5, hv5, h⟩:=zn h
    obtain ⟨v6, hv6, h⟩:=zn h
    obtain ⟨v7, hv7, h⟩:=zn h
    refine wb [[],[18,0],[19,0],[20,0]] ?_
    refine wN [6] ?_
    refine wS (.v (.agg (map (int .u8) v1.1).toArray)) [] ⟨op_loadA_arr _ _ _ _ underlying93 rfl (sz93.trans (congrArg some (ln_len hv5))) rfl rfl⟩ ?_
    refine wN [21,0,22] ?_
    refine wS (vi v6) [] ⟨op_lookup _ _ _ _ 0 1 _ _ mf89 rfl rfl (zl rfl) rfl rfl hv6⟩ ?_
    refine wN [23] ?_
    refine wo [[24]] ⟨lb hv7⟩ ?_
    refine wee hn [0,1,4,5,8,0] ?_
    refine ht_loopS h (fun ((s159,s160,s161,s162,s163,s164,s165):(List Int)×(List ((List Int)×Int))×(List Int)×Int×Int×Int×Int)=>[(0,.box 91 [fb s159,.hid (mapT Tryd.prog 93 3 s160),.fl (.own 3) 1 (map (int .i64) s161),vi s162]),(1,vi at_),(4,vi s163),(5,vi s164),(8,vi s165),(0,.v (List.getD args0 0 undef))]) (fun ((s183,s184,s185,s186,s187,s188):(List Int)×(List ((List Int)×Int))×(List Int)×Int×Int×Int)=>[(0,.box 91 [fb s183,.hid (mapT Tryd.prog 93 3 s184),.fl (.own 3) 1 (map (int .i64) s185),vi s186]),(4,vi s187),(5,vi s188),(0,.v (List.getD args0 0 undef))]) ?_ ?_
    ·rintro ⟨s183, s184, s185, s186, s187, s188⟩ h
     exact hl116 _ (zi h).symm
    ·rintro u189 hl190 hr191 ⟨s159, s160, s161, s162, s163, s164, s165⟩ rr194 h ho192
     refine ht_seq ?_
     refine ht_seq ?_
     refine ht_joinS h (fun (s195:Bool)=>[(0,.box 91 [fb s159,.hid (mapT Tryd.prog 93 3 s160),.fl (.own 3) 1 (map (int .i64) s161),vi s162]),(1,vi at_),(4,vi s163),(5,vi s164),(8,vi s165),(36,vb s195),(0,.v (List.getD args0 0 undef))]) ?_ ?_
     ·rintro s195 h
      refine pt_then ?_
      refine ht_cond _ rfl (fun hb199 => ?_) (fun hb199 => ?_)
      ·have h:=cond_t hb199 h
       refine ht_skip ?_
       refine pt_then (ht_seq ?_)
       refine ht_block ?_
       refine ht_seq ?_
       refine ht_joinS h (fun ((s201,s202,s203,s204,s205,s206):Int×Int×(List Int)×(List ((List Int)×Int))×(List Int)×Int)=>[(0,.box 91 [fb s203,.hid (mapT Tryd.prog 93 3 s204),.fl (.own 3) 1 (map (int .i64) s205),vi s206]),(1,vi at_),(8,vi s165),(4,vi s201),(5,vi s202),(0,.v (List.getD args0 0 undef))]) ?_ ?_
       ·rintro ⟨s201, s202, s203, s204, s205, s206⟩ h
        refine pt_then ?_
        refine yyy hn 2 [0,1,8,4,5,62,0] ?_
        refine ht_cond _ rfl (fun hb211 => ?_) (fun hb211 => ?_)
        ·have h:=cond_t hb211 h
         refine ht_exit ?_
         refine pt_x_out (by decide) ?_
         refine pt_x_then ?_
         refine pt_x_then ?_
         refine pt_x_in ?_
         refine pt_pick [0,3,4,6] (by kernel_rfl) (es':=[(_,_),(_,_),(_,_),(_,_)]) rfl ?_
         exact hl190 _ (ho192 _ (zi h).symm).symm
        ·have h:=cond_f hb211 h
         refine ht_skip ?_
         refine pt_inb ?_
         refine pt_then ?_
         obtain ⟨v28, hv28, h⟩:=zn h
         obtain ⟨v29, hv29, h⟩:=zn h
         obtain ⟨v30, hv30, h⟩:=zn h
         obtain ⟨v31, hv31, h⟩:=zn h
         refine wb [[],[37,0],[38,0],[39,0],[8],[],[42,0],[43,0],[44,0]] ?_
         refine wN [41,45] ?_
         refine wo [] ⟨lb hv28⟩ ?_
         refine wN [40,0,46] ?_
         refine wo [] ⟨li hv29⟩ ?_
         refine wN [47,0] ?_
         refine wo [] ⟨ll hv30⟩ ?_
         refine wN [48] ?_
         refine wo [] ⟨lb hv31⟩ ?_
         refine wK [8] [49] ?_
         refine wt [(8,vi v31)] [] ⟨LOp.drop [_] (op_assign _ _ _ _ rfl rfl)⟩ ?_
         refine we hn [0,1,4,5,8,0] ?_
         exact pt_next _ (zi h).symm rfl
       ·intro u207 h hl208 hr209
        refine ht_seq ?_
        obtain ⟨v14, hv14, h⟩:=zn h
        refine yx hn 3 ?_
        refine yq call43 (ok_match_index_common _ _ _ _ hv14) 0 [50,51,52] 1 ?_
        refine yee [0,1,4,5,8,9,0] ?_
        refine yyy hn 3 [0,1,4,5,8,9,56,0] ?_
        refine ht_cond _ rfl (fun hb210 => ?_) (fun hb210 => ?_)
        ·have h:=cond_t hb210 h
         obtain ⟨v16, hv16, h⟩:=zn h
         refine yx hn 3 ?_
         refine ys 0 ⟨lb hv16⟩ ?_
         refine yw [4] 1 ?_
         refine yw [5] 1 ?_
         refine ye [0,1,8,4,5,0] ?_
         exact hl208 _ (zi h).symm
        ·have h:=cond_f hb210 h
         refine ht_skip ?_
         refine pt_pick [0,1,4,2,3,7] (by kernel_rfl) (es':=[(_,_),(_,_),(_,_),(_,_),(_,_),(_,_)]) rfl ?_
         exact hl208 _ (zi h).symm
      ·have h:=cond_f hb199 h
       refine ht_exit ?_
       refine pt_x_then ?_
       refine pt_x_then ?_
       refine pt_x_in ?_
       refine pt_pick [0,2,3,6] (by kernel_rfl) (es':=[(_,_),(_,_),(_,_),(_,_)]) rfl ?_
       exact hl190 _ (ho192 _ (zi h).symm).symm
     ·intro u196 h hl197 hr198
      refine cond_some h (fun hg5_6 h => ?_) (fun hg5_6 h => ?_)
      ·obtain ⟨v8, hv8, h⟩:=zn h
       refine yx hn 7 ?_
       refine yd hg5_6 2 ?_
       refine ys 2 ⟨lb hv8⟩ ?_
       refine ye [0,1,4,5,8,36,0] ?_
       exact hl197 _ (zi h).symm
      ·refine yx hn 7 ?_
       refine yd hg5_6 5 ?_
       refine ye [0,1,4,5,8,36,0] ?_
       exact hl197 _ (zi h).symm
theorem ok_match_index_add (x:T_match_index) (at_:Int) (r:T_match_index) (h:Sh.match_index_add x at_=some r):FnP Tryd.prog 30 [.box 91 [.fl .shr 1 (map (int .u8) x.b), .hid (mapT Tryd.prog 93 3 x.last), .fl (.own 3) 1 (map (int .i64) x.back), .v (.int .i64 x.from_)], .v (.int .i64 at_)] [.box 91 [.fl .shr 1 (map (int .u8) r.b), .hid (mapT Tryd.prog 93 3 r.last), .fl (.own 3) 1 (map (int .i64) r.back), .v (.int .i64 r.from_)]] (.tup []):=by
  unfold Sh.match_index_add at h
  refine yP 36 func30 fun args0 hargs0 g0 hn hio => ?_
  refine ht_seq ?_
  obtain ⟨v1, hv1, h⟩:=zn h
  obtain ⟨v2, hv2, h⟩:=zn h
  obtain ⟨v3, hv3, h⟩:=zn h
  refine yx hn 2 ?_
  refine yq call42 (ok_match_index_startAt _ _ _ hv1) 0 [7,8] 0 ?_
  refine ym 2 ?_
  refine yS (.arr 93 (map (int .u8) ((List.replicate 3 (0:Int))))) 0 ⟨oA (op_alloc_arr _ za93)⟩ ?_
  refine yk [4] [10] ?_
  refine yt (4,.arr 93 (map (int .u8) v1.1)) 1 ⟨op_storeA_arr _ _ _ _ (sz93.trans (congrArg some (ln_len hv3))) rfl rfl (ln_ones (fun _=>rfl) _) ((ln_len (f:=int .u8) hv2).symm.trans (ln_len (f:=int .u8) hv3))⟩ ?_
  refine yee [0,1,4,5,0] ?_
  refine ht_seq ?_
  refine yyy hn 2 [0,1,4,13,0] ?_
  refine ht_cond _ rfl (fun hb4 => ?_) (fun hb4 => ?_)
  ·have h:=cond_t hb4 h
   refine ht_ret ?_
   refine pt_pick [0,4] (by kernel_rfl) (es':=[(_,_),(_,_)]) rfl ?_
   refine pt_r_then ?_
   obtain rfl:=zi h
   exact pt_retP (es:=[]) (posts:=[.box 91 [fb v1.2.2.b,.hid (mapT Tryd.prog 93 3 v1.2.2.last),.fl (.own 3) 1 (map (int .i64) v1.2.2.back),.v (.int .i64 v1.2.2.from_)]]) hio rfl rfl .nil rfl rfl hargs0 rfl
  ·have h:=cond_f hb4 h
   refine ht_skip ?_
   refine pt_then (ht_seq ?_)
   obtain ⟨v5, hv5, h⟩:=zn h
   obtain ⟨v6, hv6, h⟩:=zn h
   obtain ⟨v7, hv7, h⟩:=zn h
   refine wb [[],[],[15,0],[16,0],[17,0],[],[19,0],[20,0],[21,0]] ?_
   refine wN [4] ?_
   refine wS (.v (.agg (map (int .u8) v1.1).toArray)) [] ⟨op_loadA_arr _ _ _ _ underlying93 rfl (sz93.trans (congrArg some (ln_len hv5))) rfl rfl⟩ ?_
   refine wN [22,0,23] ?_
   refine wS (vi v6) [] ⟨op_lookup _ _ _ _ 0 1 _ _ mf89 rfl rfl (zl rfl) rfl rfl hv6⟩ ?_
   refine wN [24] ?_
   refine wS (.fl (.own 3) 1 (map (int .i64) [v6])) [] ⟨op_buildSlice _ _ 1 (.int .i64 0) (map (int .i64) [v6]) [(0,.int .i64 v6)] underlying73 sz3 zr3 (fun _ V w o a hv hes=>by have e0:=rd_v hv hes (x := .tmp 24) rfl; simp only [List.map_toArray,List.map_cons,List.map_nil,e0]; try rfl) (litfill (by simp [Instr.fill,Value.cells]; rfl) (by simp [List.range,List.range.loop] <;> rfl)) (by simp [Value.oneCell']) rfl (by decide) (by decide) (by decide)⟩ ?_
   refine wK [0] [18,25] ?_
   refine wt [(0,.box 91 [fb v1.2.2.b,.hid (mapT Tryd.prog 93 3 v1.2.2.last),.any,vi v1.2.2.from_]),(26,.fl (.own 3) 1 (map (int .i64) v7))] [[14,0],[27,0]] ⟨op_app_cell _ _ _ _ _ _ el73 rfl rfl (zl rfl) rfl (map_len _) (map_len _) hv7 ((List.map_append).symm.trans (congrArg (map _) (app_eq hv7))) (Nat.ne_of_beq_eq_false rfl) rfl rfl⟩ ?_
   refine wK [18,26,0] [28] ?_
   refine wt [(0,.box 91 [fb v1.2.2.b,.hid (mapT Tryd.prog 93 3 v1.2.2.last),.fl (.own 3) 1 (map (int .i64) v7),vi v1.2.2.from_])] [] ⟨LOp.drop [_] (op_store_take _ _ _ _ _ _ _ _ sz73 rfl rfl rfl (zl rfl) rfl rfl)⟩ ?_
   refine wee hn [0,1,4,0] ?_
   obtain ⟨v8, hv8, h⟩:=zn h
   obtain ⟨v9, hv9, h⟩:=zn h
   obtain ⟨v10, hv10, h⟩:=zn h
   refine wb [[],[29,0],[30,0],[31,0]] ?_
   refine wN [4] ?_
   refine wS (.v (.agg (map (int .u8) v1.1).toArray)) [[1]] ⟨op_loadA_arr _ _ _ _ underlying93 rfl (sz93.trans (congrArg some (ln_len hv8))) rfl rfl⟩ ?_
   refine wN [34] ?_
   refine wo [] ⟨lb hv9⟩ ?_
   refine wK [0] [32,33,35] ?_
   refine wt [(0,.box 91 [fb v1.2.2.b,.hid (mapT Tryd.prog 93 3 v10),.fl (.own 3) 1 (map (int .i64) v7),vi v1.2.2.from_])] [] ⟨op_mapUpdate _ _ _ _ 0 1 _ _ mf89 rfl (zl rfl) rfl rfl rfl hv10 rfl⟩ ?_
   refine we hn [0,0] ?_
   obtain rfl:=zi h
   exact pt_endP (es:=[]) (posts:=[.box 91 [fb v1.2.2.b,.hid (mapT Tryd.prog 93 3 v10),.fl (.own 3) 1 (map (int .i64) v7),.v (.int .i64 v1.2.2.from_)]]) hio rfl rfl .nil rfl rfl hargs0 rfl
theorem ok_match_Tokens (b:(List Int)) (r:((List T_Tok)×Int)) (h:Sh.match_Tokens b=some r):FnOK Tryd.prog 20 [.fl .shr 1 (map (int .u8) b)] (.tup [.fl (.own 69) 3 (flatten (map T_Tok.enc r.1)), .v (.int .i64 r.2)]):=by
  unfold Sh.match_Tokens at h
  refine yO 49 func20 fun g0 hn hio => ?_
  refine yyy hn 2 [0] ?_
  refine ht_seq ?_
  refine yyy hn 3 [0,12] ?_
  refine ht_cond _ rfl (fun hb1 => ?_) (fun hb1 => ?_)
  ·have h:=cond_t hb1 h
   refine yyy hn 2 [2,3] ?_
   refine ht_ret ?_
   refine pt_sub (fs:=[(2,.fl (.own 69) 3 (flatten (map T_Tok.enc []))),(3,vi 2)]) (.sub _ (sub_nil 69 3) rfl (.same _ .nil)) ?_
   refine pt_r_then ?_
   obtain rfl:=zi h
   exact pt_ret hio rfl (.tmp _ _ (.tmp _ _ .nil)) rfl rfl
  ·have h:=cond_f hb1 h
   refine ht_skip ?_
   refine pt_then ?_
   refine yyy hn 1 [0,4] ?_
   refine ht_seq ?_
   obtain ⟨v2, hv2, h⟩:=zn h
   refine yx hn 1 ?_
   refine yk [] [13] ?_
   refine yt (14,.obox (Option.isSome v2) 91 [fb (((Option.getD v2 (default:T_match_index))).b),.hid (mapT Tryd.prog 93 3 (((Option.getD v2 (default:T_match_index))).last)),.fl (.own 3) 1 (map (int .i64) (((Option.getD v2 (default:T_match_index))).back)),vi (((Option.getD v2 (default:T_match_index))).from_)]) 0 ⟨op_callS _ _ 28 _ _ rfl call28 rfl rfl (ok_match_newIndex_sh b 0 _ hv2) rfl⟩ ?_
   refine ya 0 ?_
   refine ye [0,4,5] ?_
   refine pt_ob (d:=default) (f:=fun (v3:T_match_index)=>[fb v3.b, .hid (mapT Tryd.prog 93 3 v3.last), .fl (.own 3) 1 (map (int .i64) v3.back), .v (.int .i64 v3.from_)]) 2 4 5 91 h (es1:=fun v3=>[(0, fb b), (4, vz), (5, .box 91 [fb v3.b,.hid (mapT Tryd.prog 93 3 v3.last),.fl (.own 3) 1 (map (int .i64) v3.back),.v (.int .i64 v3.from_)])]) (es0:=[(0, fb b), (4, vz), (5, .v (.pointer none))]) rfl (fun _=>rfl) (by kernel_rfl) (fun _=>rfl) (fun _=>rfl) rfl (fun v3 hv4 h => ?_) (fun hv4 h => ?_)
   ·refine pt_then (ht_seq ?_)
    refine yyy hn 1 [0,4,5,6] ?_
    refine ht_sub (fs:=[(0,fb b),(4,.fl (.own 69) 3 (flatten (map T_Tok.enc []))),(5,.box 91 [fb v3.b,.hid (mapT Tryd.prog 93 3 v3.last),.fl (.own 3) 1 (map (int .i64) v3.back),vi v3.from_]),(6,vi 0)]) (.same _ (.sub _ (sub_nil 69 3) rfl (.same _ (.same _ .nil)))) ?_
    refine ht_loopS h (fun ((s88,s89,s90,s91,s92,s93):(List T_Tok)×(List Int)×(List ((List Int)×Int))×(List Int)×Int×Int)=>[(0,fb b),(4,.fl (.own 69) 3 (flatten (map T_Tok.enc s88))),(5,.box 91 [fb s89,.hid (mapT Tryd.prog 93 3 s90),.fl (.own 3) 1 (map (int .i64) s91),vi s92]),(6,vi s93)]) (fun (s129:(List T_Tok))=>[(4,.fl (.own 69) 3 (flatten (map T_Tok.enc s129)))]) ?_ ?_
    ·rintro s129 h
     refine pt_then ?_
     refine yxx hn 0 ?_
     refine ym 0 ?_
     refine ya 1 ?_
     refine yee [2,3] ?_
     refine ht_ret ?_
     obtain rfl:=zi h
     exact pt_ret hio rfl (.tmp _ _ (.tmp _ _ .nil)) rfl rfl
    ·rintro u130 hl131 hr132 ⟨s88, s89, s90, s91, s92, s93⟩ rr135 h ho133
     refine ht_seq ?_
     refine yyy hn 4 [0,4,5,6,18] ?_
     refine ht_cond _ rfl (fun hb136 => ?_) (fun hb136 => ?_)
     ·have h:=cond_t hb136 h
      refine ht_skip ?_
      refine pt_then ?_
      refine ht_block ?_
      refine ht_seq ?_
      obtain ⟨v6, hv6, h⟩:=zn h
      refine yx hn 2 ?_
      refine yq call29 (ok_match_index_best _ _ _ hv6) 5 [20,21] 0 ?_
      refine ym 4 ?_
      refine yee [0,4,5,6,7,8] ?_
      refine yxx hn 2 ?_
      refine yS (.agg [.v (.int .u8 0),vi v6.1,vi v6.2.1]) 0 ⟨op_build _ _ _ _ [1,1,1] _ _ underlying69 zr69 (fs69 _ underlying69) (.copy _ (.copy _ Src.nil)) rfl rfl rfl⟩ ?_
      refine yS (.box 69 [.v (.int .u8 0),vi 0,vi 0]) 1 ⟨oA (op_alloc _ _ zr69)⟩ ?_
      refine yee [0,4,5,6,7,9] ?_
      refine ht_seq ?_
      refine ht_joinS h (fun ((s138,s139):Int×Int)=>[(0,fb b),(4,.fl (.own 69) 3 (flatten (map T_Tok.enc s88))),(5,.box 91 [fb v6.2.2.b,.hid (mapT Tryd.prog 93 3 v6.2.2.last),.fl (.own 3) 1 (map (int .i64) v6.2.2.back),vi v6.2.2.from_]),(6,vi s93),(9,.box 69 [.v (.int .u8 s138),vi v6.1,vi v6.2.1]),(7,vi s139)]) ?_ ?_
      ·rintro ⟨s138, s139⟩ h
       refine pt_then (ht_seq ?_)
       obtain ⟨v16, hv16, h⟩:=zn h
       refine yx hn 0 ?_
       refine ym 1 ?_
       refine yS (.fl (.own 69) 3 (flatten (map T_Tok.enc [(T_Tok.mk s138 v6.1 v6.2.1)]))) 0 ⟨op_buildSlice _ _ 3 (.agg #[.int .u8 0,.int .i64 0,.int .i64 0]) (flatten (map T_Tok.enc [(T_Tok.mk s138 v6.1 v6.2.1)])) [(0,.agg #[.int .u8 s138,.int .i64 v6.1,.int .i64 v6.2.1])] underlying46 sz69 zr69 (fun _ V w o a hv hes=>by have e0:=agg_v (ys:=[.int .u8 s138,.int .i64 v6.1,.int .i64 v6.2.1]) hv hes (x := .tmp 36) rfl; simp only [List.map_toArray,List.map_cons,List.map_nil,e0]; try rfl) (litfill (by simp [Instr.fill,Value.cells]; rfl) (by simp [List.range,List.range.loop,T_Tok.enc] <;> rfl)) (by simp [Value.oneCell',T_Tok.enc]) rfl (by decide) (by decide) (by decide)⟩ ?_
       refine yP' el46 hv16 0 ?_
       refine ya 0 ?_
       refine yee [0,5,6,7,4] ?_
       refine ht_loopS h (fun ((s152,s153,s154,s155,s156,s157):(List Int)×(List ((List Int)×Int))×(List Int)×Int×Int×Int)=>[(0,fb b),(5,.box 91 [fb s152,.hid (mapT Tryd.prog 93 3 s153),.fl (.own 3) 1 (map (int .i64) s154),vi s155]),(6,vi s156),(7,vi s157),(4,.fl (.own 69) 3 (flatten (map T_Tok.enc v16)))]) (fun ((s159,s160,s161,s162,s163):(List Int)×(List ((List Int)×Int))×(List Int)×Int×Int)=>[(0,fb b),(5,.box 91 [fb s159,.hid (mapT Tryd.prog 93 3 s160),.fl (.own 3) 1 (map (int .i64) s161),vi s162]),(6,vi s163),(4,.fl (.own 69) 3 (flatten (map T_Tok.enc v16)))]) ?_ ?_
       ·rintro ⟨s159, s160, s161, s162, s163⟩ h
        refine pt_inb ?_
        refine pt_pick [0,3,1,2] (by kernel_rfl) (es':=[(_,_),(_,_),(_,_),(_,_)]) rfl ?_
        exact pt_next _ (zi h).symm rfl
       ·rintro u164 hl165 hr166 ⟨s152, s153, s154, s155, s156, s157⟩ rr169 h ho167
        refine ht_seq ?_
        refine yyy hn 2 [0,5,6,7,4,40] ?_
        refine ht_cond _ rfl (fun hb170 => ?_) (fun hb170 => ?_)
        ·have h:=cond_t hb170 h
         refine ht_skip ?_
         refine pt_then (ht_seq ?_)
         refine ht_block ?_
         refine ht_seq ?_
         obtain ⟨v18, hv18, h⟩:=zn h
         refine yx hn 2 ?_
         refine yq call30 (ok_match_index_add _ _ _ hv18) 5 [43,44] 0 ?_
         refine yee [0,5,6,7,4] ?_
         obtain ⟨v19, hv19, h⟩:=zn h
         refine yx hn 1 ?_
         refine ys 0 ⟨lb hv19⟩ ?_
         refine yw [6] 1 ?_
         refine ye [0,5,7,4,6] ?_
         refine pt_inb ?_
         refine pt_then ?_
         obtain ⟨v20, hv20, h⟩:=zn h
         refine yx hn 1 ?_
         refine ys 0 ⟨lb hv20⟩ ?_
         refine yw [7] 1 ?_
         refine ye [0,5,4,6,7] ?_
         refine pt_pick [0,1,3,4,2] (by kernel_rfl) (es':=[(_,_),(_,_),(_,_),(_,_),(_,_)]) rfl ?_
         exact pt_next _ (zi h).symm rfl
        ·have h:=cond_f hb170 h
         refine ht_exit ?_
         refine pt_x_then ?_
         refine pt_x_then ?_
         refine pt_x_in ?_
         refine pt_pick [0,1,2,4] (by kernel_rfl) (es':=[(_,_),(_,_),(_,_),(_,_)]) rfl ?_
         exact hl165 _ (ho167 _ (zi h).symm).symm
      ·intro u140 h hl141 hr142
       refine yyy hn 2 [0,4,5,6,7,9,29] ?_
       refine ht_cond _ rfl (fun hb143 => ?_) (fun hb143 => ?_)
       ·have h:=cond_t hb143 h
        refine ht_seq ?_
        obtain ⟨v8, hv8, h⟩:=zn h
        obtain ⟨v9, hv9, h⟩:=zn h
        refine yx hn 2 ?_
        refine ys 0 ⟨li hv8⟩ ?_
        refine ys 2 ⟨ll hv9⟩ ?_
        refine yee [0,4,5,6,9] ?_
        refine yy hn 1 [0,4,5,6,9,7] ?_
        exact hl141 _ (zi h).symm
       ·have h:=cond_f hb143 h
        refine ht_skip ?_
        refine pt_pick [0,1,2,3,5,4] (by kernel_rfl) (es':=[(_,_),(_,_),(_,_),(_,_),(_,_),(_,_)]) rfl ?_
        exact hl141 _ (zi h).symm
     ·have h:=cond_f hb136 h
      refine ht_exit ?_
      refine pt_x_then ?_
      refine pt_x_then ?_
      refine pt_x_in ?_
      refine pt_pick [1] (by kernel_rfl) (es':=[(_,_)]) rfl ?_
      exact hl131 _ (ho133 _ (zi h).symm).symm
   ·refine pt_then (ht_seq ?_)
    refine yyy hn 1 [0,4,5,6] ?_
    refine ht_loopS h (fun (():Unit)=>[(0,fb b),(4,vz),(5,.v (.pointer none)),(6,vi 0)]) (fun (():Unit)=>[(4,vz)]) ?_ ?_
    ·rintro ⟨⟩ h
     refine pt_then ?_
     refine yyy hn 3 [2,3] ?_
     refine ht_ret ?_
     refine pt_sub (fs:=[(2,.fl (.own 69) 3 (flatten (map T_Tok.enc []))),(3,vi 0)]) (.sub _ (sub_nil 69 3) rfl (.same _ .nil)) ?_
     obtain rfl:=zi h
     exact pt_ret hio rfl (.tmp _ _ (.tmp _ _ .nil)) rfl rfl
    ·rintro u173 hl174 hr175 ⟨⟩ rr178 h ho176
     refine ht_seq ?_
     refine yyy hn 4 [0,4,5,6,18] ?_
     refine ht_cond _ rfl (fun hb179 => ?_) (fun hb179 => ?_)
     ·have h:=cond_t hb179 h
      cases h
     ·have h:=cond_f hb179 h
      refine ht_exit ?_
      refine pt_x_then ?_
      refine pt_x_then ?_
      refine pt_x_in ?_
      refine pt_pick [1] (by kernel_rfl) (es':=[(_,_)]) rfl ?_
      exact hl174 _ (ho176 _ (zi h).symm).symm
theorem ok_sym_fixedLen (s:Int) (r:Int) (h:Sh.sym_fixedLen s=some r):FnOK Tryd.prog 44 [.v (.int .i64 s)] (.v (.int .i64 r)):=by
  unfold Sh.sym_fixedLen at h
  refine yO 12 func44 fun g0 hn hio => ?_
  refine yyy hn 1 [0] ?_
  refine ht_seq ?_
  refine ht_block ?_
  refine yyy hn 3 [0,3] ?_
  refine ht_cond _ rfl (fun hb1 => ?_) (fun hb1 => ?_)
  ·have h:=cond_t hb1 h
   refine yyy hn 1 [2] ?_
   refine ht_ret ?_
   refine pt_r_in ?_
   refine pt_r_then ?_
   obtain rfl:=zi h
   exact pt_ret hio rfl (.tmp _ _ .nil) rfl rfl
  ·have h:=cond_f hb1 h
   refine yyy hn 3 [0,6] ?_
   refine ht_cond _ rfl (fun hb2 => ?_) (fun hb2 => ?_)
   ·have h:=cond_t hb2 h
    refine yyy hn 1 [2] ?_
    refine ht_ret ?_
    refine pt_r_in ?_
    refine pt_r_then ?_
    obtain rfl:=zi h
    exact pt_ret hio rfl (.tmp _ _ .nil) rfl rfl
   ·have h:=cond_f hb2 h
    refine yyy hn 3 [9] ?_
    refine ht_cond _ rfl (fun hb3 => ?_) (fun hb3 => ?_)
    ·have h:=cond_t hb3 h
     refine yyy hn 1 [2] ?_
     refine ht_ret ?_
     refine pt_r_in ?_
     refine pt_r_then ?_
     obtain rfl:=zi h
     exact pt_ret hio rfl (.tmp _ _ .nil) rfl rfl
    ·have h:=cond_f hb3 h
     refine ht_skip ?_
     refine pt_inb ?_
     refine pt_then ?_
     refine yyy hn 1 [2] ?_
     refine ht_ret ?_
     obtain rfl:=zi h
     exact pt_ret hio rfl (.tmp _ _ .nil) rfl rfl
theorem ok_sym_Fixed (r:((List Int)×(List Int))) (h:Sh.sym_Fixed  = some r):FnOK Tryd.prog 33 [] (.tup [.fl (.own 3) 1 (map (int .i64) r.1), .fl (.own 3) 1 (map (int .i64) r.2)]):=by
  unfold Sh.sym_Fixed at h
  refine yO 20 func33 fun g0 hn hio => ?_
  refine yyy hn 2 [0,1] ?_
  refine ht_seq ?_
  refine yyy hn 1 [0,1,3] ?_
  refine ht_sub (fs:=[(0,.fl (.own 3) 1 (map (int .i64) [])),(1,vz),(3,vi 0)]) (.sub _ (sub_nil 3 1) rfl (.same _ (.same _ .nil))) ?_
  refine ht_loopS h (fun ((s8,s9):(List Int)×Int)=>[(0,.fl (.own 3) 1 (map (int .i64) s8)),(1,vz),(3,vi s9)]) (fun (s11:(List Int))=>[(0,.fl (.own 3) 1 (map (int .i64) s11)),(1,vz)]) ?_ ?_
  ·rintro s11 h
   refine pt_then (ht_seq ?_)
   refine yyy hn 1 [0,1,12] ?_
   refine ht_sub (fs:=[(0,.fl (.own 3) 1 (map (int .i64) s11)),(1,.fl (.own 3) 1 (map (int .i64) [])),(12,vi 0)]) (.same _ (.sub _ (sub_nil 3 1) rfl (.same _ .nil))) ?_
   refine ht_loopS h (fun ((s25,s26):(List Int)×Int)=>[(0,.fl (.own 3) 1 (map (int .i64) s11)),(1,.fl (.own 3) 1 (map (int .i64) s25)),(12,vi s26)]) (fun (s28:(List Int))=>[(0,.fl (.own 3) 1 (map (int .i64) s11)),(1,.fl (.own 3) 1 (map (int .i64) s28))]) ?_ ?_
   ·rintro s28 h
    refine pt_then ?_
    refine yxx hn 0 ?_
    refine ym 0 ?_
    refine ym 0 ?_
    refine ya 0 ?_
    refine ya 0 ?_
    refine yee [0,1] ?_
    refine ht_ret ?_
    obtain rfl:=zi h
    exact pt_ret hio rfl (.tmp _ _ (.tmp _ _ .nil)) rfl rfl
   ·rintro u29 hl30 hr31 ⟨s25, s26⟩ rr34 h ho32
    refine yyy hn 1 [0,1,12,13] ?_
    refine ht_seq ?_
    refine ht_cond _ rfl (fun hb35 => ?_) (fun hb35 => ?_)
    ·have h:=cond_t hb35 h
     refine ht_skip ?_
     refine pt_then (ht_seq ?_)
     refine ht_block ?_
     obtain ⟨v20, hv20, h⟩:=zn h
     refine yx hn 0 ?_
     refine ym 0 ?_
     refine yS (.fl (.own 3) 1 (map (int .i64) [5])) 0 ⟨op_buildSlice _ _ 1 (.int .i64 0) (map (int .i64) [5]) [(0,.int .i64 5)] underlying73 sz3 zr3 (fun _ V w o a hv hes=>by simp only [List.map_toArray,List.map_cons,List.map_nil]; try rfl) (litfill (by simp [Instr.fill,Value.cells]; rfl) (by simp [List.range,List.range.loop] <;> rfl)) (by simp [Value.oneCell']) rfl (by decide) (by decide) (by decide)⟩ ?_
     refine yp el73 hv20 0 ?_
     refine ya 0 ?_
     refine ye [0,12,1] ?_
     refine pt_inb ?_
     refine pt_then ?_
     obtain ⟨v21, hv21, h⟩:=zn h
     refine yx hn 0 ?_
     refine ys 0 ⟨lb hv21⟩ ?_
     refine yw [12] 1 ?_
     refine ye [0,1,12] ?_
     exact pt_next _ (zi h).symm rfl
    ·have h:=cond_f hb35 h
     refine ht_exit ?_
     refine pt_x_then ?_
     refine pt_x_then ?_
     refine pt_x_in ?_
     refine pt_pick [0,1] (by kernel_rfl) (es':=[(_,_),(_,_)]) rfl ?_
     exact hl30 _ (ho32 _ (zi h).symm).symm
  ·rintro u12 hl13 hr14 ⟨s8, s9⟩ rr17 h ho15
   refine yyy hn 1 [0,1,3,4] ?_
   refine ht_seq ?_
   refine ht_cond _ rfl (fun hb18 => ?_) (fun hb18 => ?_)
   ·have h:=cond_t hb18 h
    refine ht_skip ?_
    refine pt_then (ht_seq ?_)
    refine ht_block ?_
    refine yyy hn 2 [0,1,3,2] ?_
    obtain ⟨v2, hv2, h⟩:=zn h
    obtain ⟨v3, hv3, h⟩:=zn h
    refine yx hn 0 ?_
    refine ym 1 ?_
    refine ys 0 ⟨lk call44 (ok_sym_fixedLen _ _ hv2)⟩ ?_
    refine yS (.fl (.own 3) 1 (map (int .i64) [v2])) 0 ⟨op_buildSlice _ _ 1 (.int .i64 0) (map (int .i64) [v2]) [(0,.int .i64 v2)] underlying73 sz3 zr3 (fun _ V w o a hv hes=>by have e0:=rd_v hv hes (x := .tmp 8) rfl; simp only [List.map_toArray,List.map_cons,List.map_nil,e0]; try rfl) (litfill (by simp [Instr.fill,Value.cells]; rfl) (by simp [List.range,List.range.loop] <;> rfl)) (by simp [Value.oneCell']) rfl (by decide) (by decide) (by decide)⟩ ?_
    refine yp el73 hv3 0 ?_
    refine ya 0 ?_
    refine ye [1,3,0] ?_
    refine pt_inb ?_
    refine pt_then ?_
    obtain ⟨v4, hv4, h⟩:=zn h
    refine yx hn 0 ?_
    refine ys 0 ⟨lb hv4⟩ ?_
    refine yw [3] 1 ?_
    refine ye [1,0,3] ?_
    refine pt_pick [1,0,2] (by kernel_rfl) (es':=[(_,_),(_,_),(_,_)]) rfl ?_
    exact pt_next _ (zi h).symm rfl
   ·have h:=cond_f hb18 h
    refine ht_exit ?_
    refine pt_x_then ?_
    refine pt_x_then ?_
    refine pt_x_in ?_
    refine pt_pick [0,1] (by kernel_rfl) (es':=[(_,_),(_,_)]) rfl ?_
    exact hl13 _ (ho15 _ (zi h).symm).symm
theorem ok_canon_valid (lengths:(List Int)) (r:Bool) (h:Sh.canon_valid lengths=some r):FnOK Tryd.prog 83 [.fl .shr 1 (map (int .i64) lengths)] (.v (.bool r)):=by
  unfold Sh.canon_valid at h
  refine yO 21 func83 fun g0 hn hio => ?_
  refine yyy hn 1 [0] ?_
  refine ht_seq ?_
  refine yyy hn 3 [0,7] ?_
  refine ht_cond _ rfl (fun hb1 => ?_) (fun hb1 => ?_)
  ·have h:=cond_t hb1 h
   refine yyy hn 1 [2] ?_
   refine ht_ret ?_
   refine pt_r_then ?_
   obtain rfl:=zi h
   exact pt_ret hio rfl (.tmp _ _ .nil) rfl rfl
  ·have h:=cond_f hb1 h
   refine ht_skip ?_
   refine pt_then (ht_seq ?_)
   refine yyy hn 3 [8,9,10] ?_
   refine ht_loopS h (fun (s18:Int)=>[(8,fi lengths),(9,vi (lengths.length:Int)),(10,vi s18)]) (fun (():Unit)=>[]) ?_ ?_
   ·rintro ⟨⟩ h
    refine pt_then ?_
    refine yyy hn 1 [2] ?_
    refine ht_ret ?_
    obtain rfl:=zi h
    exact pt_ret hio rfl (.tmp _ _ .nil) rfl rfl
   ·rintro u25 hl26 hr27 s18 rr30 h ho28
    refine yyy hn 1 [8,9,10,11] ?_
    refine ht_seq ?_
    refine ht_cond _ rfl (fun hb31 => ?_) (fun hb31 => ?_)
    ·have h:=cond_t hb31 h
     refine ht_skip ?_
     refine pt_then (ht_seq ?_)
     refine ht_block ?_
     refine ht_seq ?_
     obtain ⟨v3, hv3, h⟩:=zn h
     obtain ⟨v4, hv4, h⟩:=zn h
     refine yx hn 0 ?_
     refine ys 0 ⟨li hv3⟩ ?_
     refine ys 1 ⟨ll hv4⟩ ?_
     refine yee [8,9,10,4] ?_
     refine ht_seq ?_
     refine ht_joinS h (fun (s32:Bool)=>[(8,fi lengths),(9,vi (lengths.length:Int)),(10,vi s18),(19,vb s32)]) ?_ ?_
     ·rintro s32 h
      refine pt_then ?_
      refine ht_cond _ rfl (fun hb36 => ?_) (fun hb36 => ?_)
      ·have h:=cond_t hb36 h
       refine yyy hn 1 [2] ?_
       refine ht_ret ?_
       refine pt_r_in ?_
       refine pt_r_then ?_
       refine pt_r_then ?_
       refine pt_r_in ?_
       refine pt_r_then ?_
       have h:=hr27 _ (ho28 _ (zi h).symm).symm
       obtain rfl:=zi h
       exact pt_ret hio rfl (.tmp _ _ .nil) rfl rfl
      ·have h:=cond_f hb36 h
       refine ht_skip ?_
       refine pt_inb ?_
       refine pt_then ?_
       obtain ⟨v10, hv10, h⟩:=zn h
       refine yx hn 0 ?_
       refine ys 0 ⟨lb hv10⟩ ?_
       refine yw [10] 1 ?_
       refine ye [8,9,10] ?_
       exact pt_next _ (zi h).symm rfl
     ·intro u33 h hl34 hr35
      refine cond_some h (fun hg6_2 h => ?_) (fun hg6_2 h => ?_)
      ·refine yx hn 3 ?_
       refine yd hg6_2 3 ?_
       refine ye [8,9,10,19] ?_
       exact hl34 _ (zi h).symm
      ·refine yx hn 3 ?_
       refine yd hg6_2 3 ?_
       refine ye [8,9,10,19] ?_
       exact hl34 _ (zi h).symm
    ·have h:=cond_f hb31 h
     refine ht_exit ?_
     refine pt_x_then ?_
     refine pt_x_then ?_
     refine pt_x_in ?_
     refine pt_pick [] (by kernel_rfl) (es':=[]) rfl ?_
     exact hl26 _ (ho28 _ (zi h).symm).symm
theorem ok_canon_count (lengths:(List Int)) (r:(List Int)) (h:Sh.canon_count lengths=some r):FnOK Tryd.prog 68 [.fl .shr 1 (map (int .i64) lengths)] (.v (.agg (map (int .i64) r).toArray)):=by
  unfold Sh.canon_count at h
  refine yO 21 func68 fun g0 hn hio => ?_
  refine yxx hn 0 ?_
  refine yS (.arr 118 (map (int .i64) ((List.replicate 16 (0:Int))))) 0 ⟨oA (op_alloc_arr _ za118)⟩ ?_
  refine yee [0,2] ?_
  refine yxx hn 0 ?_
  refine yS (.arr 118 (map (int .i64) ((List.replicate 16 (0:Int))))) 0 ⟨oA (op_alloc_arr _ za118)⟩ ?_
  refine yee [0,2,3] ?_
  refine ht_seq ?_
  refine yyy hn 3 [2,3,6,7,8] ?_
  refine ht_loopS h (fun ((s25,s26):(List Int)×Int)=>[(2,.arr 118 (map (int .i64) ((List.replicate 16 (0:Int))))),(3,.arr 118 (map (int .i64) s25)),(6,fi lengths),(7,vi (lengths.length:Int)),(8,vi s26)]) (fun (s34:(List Int))=>[(2,.arr 118 (map (int .i64) ((List.replicate 16 (0:Int))))),(3,.arr 118 (map (int .i64) s34))]) ?_ ?_
  ·rintro s34 h
   refine pt_then (ht_seq ?_)
   obtain ⟨v48, hv48, h⟩:=zn h
   obtain ⟨v49, hv49, h⟩:=zn h
   obtain ⟨v50, hv50, h⟩:=zn h
   refine yx hn 0 ?_
   refine yS (.v (.agg (map (int .i64) s34).toArray)) 0 ⟨op_loadA_arr _ _ _ _ underlying118 rfl (sz118.trans (congrArg some (ln_len hv48))) rfl rfl⟩ ?_
   refine yk [2] [20] ?_
   refine yt (2,.arr 118 (map (int .i64) s34)) 0 ⟨op_storeA_arr _ _ _ _ (sz118.trans (congrArg some (ln_len hv50))) rfl rfl (ln_ones (fun _=>rfl) _) ((ln_len (f:=int .i64) hv49).symm.trans (ln_len (f:=int .i64) hv50))⟩ ?_
   refine yee [2] ?_
   refine ht_ret ?_
   obtain ⟨v51, hv51, h⟩:=zn h
   obtain rfl:=zi h
   exact pt_ret hio rfl (.cellR _ _ _ _ underlying118 rfl (sz118.trans (congrArg some (ln_len hv51))) .nil) rfl rfl
  ·rintro u35 hl36 hr37 ⟨s25, s26⟩ rr40 h ho38
   refine yyy hn 1 [2,3,6,7,8,9] ?_
   refine ht_seq ?_
   refine ht_cond _ rfl (fun hb41 => ?_) (fun hb41 => ?_)
   ·have h:=cond_t hb41 h
    refine ht_skip ?_
    refine pt_then (ht_seq ?_)
    refine ht_joinS h (fun (s43:(List Int))=>[(2,.arr 118 (map (int .i64) ((List.replicate 16 (0:Int))))),(3,.arr 118 (map (int .i64) s43)),(6,fi lengths),(7,vi (lengths.length:Int)),(8,vi s26)]) ?_ ?_
    ·rintro s43 h
     refine pt_then ?_
     obtain ⟨v15, hv15, h⟩:=zn h
     refine yx hn 0 ?_
     refine ys 0 ⟨lb hv15⟩ ?_
     refine yw [8] 1 ?_
     refine ye [2,3,6,7,8] ?_
     exact pt_next _ (zi h).symm rfl
    ·intro u44 h hl45 hr46
     refine ht_block ?_
     refine ht_seq ?_
     obtain ⟨v2, hv2, h⟩:=zn h
     obtain ⟨v3, hv3, h⟩:=zn h
     refine yx hn 0 ?_
     refine ys 0 ⟨li hv2⟩ ?_
     refine ys 1 ⟨ll hv3⟩ ?_
     refine yee [2,3,6,7,8,5] ?_
     refine yyy hn 2 [2,3,6,7,8,5,13] ?_
     refine ht_cond _ rfl (fun hb47 => ?_) (fun hb47 => ?_)
     ·have h:=cond_t hb47 h
      obtain ⟨v5, hv5, h⟩:=zn h
      obtain ⟨v6, hv6, h⟩:=zn h
      obtain ⟨v7, hv7, h⟩:=zn h
      obtain ⟨v8, hv8, h⟩:=zn h
      obtain ⟨v9, hv9, h⟩:=zn h
      refine yx hn 1 ?_
      refine yS (.ptr 3 v5) 0 ⟨op_ix_arr _ _ _ _ 16 3 _ underlying118 sz3 rfl rfl (ix_ok hv5).1 (ix_ok hv5).2 (by decide)⟩ ?_
      refine yS (vi v6) 0 ⟨op_load_arr _ _ _ _ _ _ underlying3 rfl rfl rfl (map_get1 hv6)⟩ ?_
      refine ys 0 ⟨lb hv7⟩ ?_
      refine yS (.ptr 3 v8) 0 ⟨op_ix_arr _ _ _ _ 16 3 _ underlying118 sz3 rfl rfl (ix_ok hv8).1 (ix_ok hv8).2 (by decide)⟩ ?_
      refine yk [3] [18,17] ?_
      refine yt (3,.arr 118 (map (int .i64) v9)) 0 ⟨op_store_arr _ _ _ _ _ _ sz3 rfl rfl rfl rfl (set_lt hv9) (set_eq (f:=int .i64) hv9)⟩ ?_
      refine ye [2,3,6,7,8] ?_
      refine pt_inb ?_
      exact hl45 _ (zi h).symm
     ·have h:=cond_f hb47 h
      refine ht_skip ?_
      refine pt_inb ?_
      refine pt_pick [0,1,2,3,4] (by kernel_rfl) (es':=[(_,_),(_,_),(_,_),(_,_),(_,_)]) rfl ?_
      exact hl45 _ (zi h).symm
   ·have h:=cond_f hb41 h
    refine ht_exit ?_
    refine pt_x_then ?_
    refine pt_x_then ?_
    refine pt_x_in ?_
    refine pt_pick [0,1] (by kernel_rfl) (es':=[(_,_),(_,_)]) rfl ?_
    exact hl36 _ (ho38 _ (zi h).symm).symm
end Go.Proofs.YthceldoojddpiaaDoor
