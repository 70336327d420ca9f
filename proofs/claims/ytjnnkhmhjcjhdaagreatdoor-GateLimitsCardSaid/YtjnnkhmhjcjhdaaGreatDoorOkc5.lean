/-
  The model's runs are what is told in Lean.
-/
import Derived.Test.YtjnnkhmhjcjhdaaGreatDoorProg
import Derived.KernelRfl
import Derived.Test.YtjnnkhmhjcjhdaaGreatDoorShelf
import Derived.Test.YtjnnkhmhjcjhdaaGreatDoorIdx
import Derived.Test.YtjnnkhmhjcjhdaaGreatDoorB3
import Derived.Test.YtjnnkhmhjcjhdaaGreatDoorC1
import Derived.Test.YtjnnkhmhjcjhdaaGreatDoorBC
import Derived.Test.YtjnnkhmhjcjhdaaGreatDoorOkc4
set_option linter.unusedVariables false
set_option linter.unusedSimpArgs false
set_option maxHeartbeats 1000000
namespace Go.Proofs.YtjnnkhmhjcjhdaaGreatDoor
open Go.Abs Go.Abs.Sh Tryz
open List (map flatten)
open Value (int)
theorem ng (mx:Int×Nat×Value) (s:(List Int)) (b:(List Int)) (r:(List Int)) (h:Sh.jt s b=some r):lX Tryz.prog (GL mx) 203 [.v (.agg (map (int .u32) s).toArray), .fl .shr 1 (map (int .u8) b)] (.v (.agg (map (int .u32) r).toArray)):=by
  unfold Sh.jt at h
  refine yG 105 func203 fun g0 hn hio => ?_
  refine lp hn 0 ?_
  refine yS (.arr 225 (map (int .u32) s)) 0 ⟨Fi _ _ _ rfl⟩ ?_
  refine yS (.arr 225 (map (int .u32) ((List.replicate 4 (0:Int))))) 0 ⟨oA (eN _ Lu)⟩ ?_
  refine dv [1,105,2,4] ?_
  refine lp hn 0 ?_
  refine yS (.arr 222 (map (int .u32) ((List.replicate 16 (0:Int))))) 0 ⟨oA (eN _ Gl)⟩ ?_
  refine dv [1,105,2,4,5] ?_
  refine aM ?_
  refine cF hn 3 [105,2,4,5,17,18,19] ?_
  refine dx h (fun ((s18,s19):(List Int)×Int)=>[(105,.glob (GL mx)),(2,.arr 225 (map (int .u32) s)),(4,.arr 225 (map (int .u32) ((List.replicate 4 (0:Int))))),(5,.arr 222 (map (int .u32) s18)),(17,fb b),(18,vi (b.length:Int)),(19,vi s19)]) (fun (s21:(List Int))=>[(105,.glob (GL mx)),(2,.arr 225 (map (int .u32) s)),(4,.arr 225 (map (int .u32) ((List.replicate 4 (0:Int))))),(5,.arr 222 (map (int .u32) s21))]) ?_ ?_
  ·rintro s21 h
   refine bb (aM ?_)
   obtain ⟨v29, hv29, h⟩:=zn h
   obtain ⟨v30, hv30, h⟩:=zn h
   obtain ⟨v31, hv31, h⟩:=zn h
   obtain ⟨v32, hv32, h⟩:=zn h
   obtain ⟨v33, hv33, h⟩:=zn h
   obtain ⟨v34, hv34, h⟩:=zn h
   obtain ⟨v35, hv35, h⟩:=zn h
   obtain ⟨v36, hv36, h⟩:=zn h
   refine wb [] ?_
   refine wN [2] ?_
   refine wS (.ptr 2 v29) [] ⟨fK _ _ _ _ 4 2 _ underlying225 mc rfl rfl (dR hv29).1 (dR hv29).2 (by decide)⟩ ?_
   refine wN [37,2] ?_
   refine wS (.v (.int .u32 v30)) [] ⟨fk _ _ _ _ _ _ underlying106 rfl rfl rfl (gr hv30)⟩ ?_
   refine wN [2] ?_
   refine wS (.ptr 2 v31) [] ⟨fK _ _ _ _ 4 2 _ underlying225 mc rfl rfl (dR hv31).1 (dR hv31).2 (by decide)⟩ ?_
   refine wN [39,2] ?_
   refine wS (.v (.int .u32 v32)) [] ⟨fk _ _ _ _ _ _ underlying106 rfl rfl rfl (gr hv32)⟩ ?_
   refine wN [2] ?_
   refine wS (.ptr 2 v33) [] ⟨fK _ _ _ _ 4 2 _ underlying225 mc rfl rfl (dR hv33).1 (dR hv33).2 (by decide)⟩ ?_
   refine wN [41,2] ?_
   refine wS (.v (.int .u32 v34)) [] ⟨fk _ _ _ _ _ _ underlying106 rfl rfl rfl (gr hv34)⟩ ?_
   refine wN [2] ?_
   refine wS (.ptr 2 v35) [] ⟨fK _ _ _ _ 4 2 _ underlying225 mc rfl rfl (dR hv35).1 (dR hv35).2 (by decide)⟩ ?_
   refine wN [43,2] ?_
   refine wS (.v (.int .u32 v36)) [[38],[40],[42],[44]] ⟨fk _ _ _ _ _ _ underlying106 rfl rfl rfl (gr hv36)⟩ ?_
   refine Af hn [105,2,4,5,8,9,10,11] ?_
   refine aM ?_
   refine lp hn 0 ?_
   refine yS (.v (.agg (map (int .u32) gW).toArray)) 1 ⟨Az _ _ 105 5 (map (int .u32) gW) underlying241 rfl Ni rfl rfl (JW mx)⟩ ?_
   refine dv [105,2,4,5,8,9,10,11,45,46] ?_
   refine dx h (fun ((s63,s64,s65,s66,s67):Int×Int×Int×Int×Int)=>[(105,.glob (GL mx)),(2,.arr 225 (map (int .u32) s)),(4,.arr 225 (map (int .u32) ((List.replicate 4 (0:Int))))),(5,.arr 222 (map (int .u32) s21)),(8,.v (.int .u32 s63)),(9,.v (.int .u32 s64)),(10,.v (.int .u32 s65)),(11,.v (.int .u32 s66)),(45,.v (.agg (map (int .u32) gW).toArray)),(46,vi s67)]) (fun ((s69,s70,s71,s72):Int×Int×Int×Int)=>[(105,.glob (GL mx)),(2,.arr 225 (map (int .u32) s)),(4,.arr 225 (map (int .u32) ((List.replicate 4 (0:Int))))),(8,.v (.int .u32 s69)),(9,.v (.int .u32 s70)),(10,.v (.int .u32 s71)),(11,.v (.int .u32 s72))]) ?_ ?_
   ·rintro ⟨s69, s70, s71, s72⟩ h
    refine bb (aM ?_)
    obtain ⟨v80, hv80, h⟩:=zn h
    obtain ⟨v81, hv81, h⟩:=zn h
    obtain ⟨v82, hv82, h⟩:=zn h
    obtain ⟨v83, hv83, h⟩:=zn h
    obtain ⟨v84, hv84, h⟩:=zn h
    obtain ⟨v85, hv85, h⟩:=zn h
    obtain ⟨v86, hv86, h⟩:=zn h
    obtain ⟨v87, hv87, h⟩:=zn h
    obtain ⟨v88, hv88, h⟩:=zn h
    obtain ⟨v89, hv89, h⟩:=zn h
    obtain ⟨v90, hv90, h⟩:=zn h
    obtain ⟨v91, hv91, h⟩:=zn h
    obtain ⟨v92, hv92, h⟩:=zn h
    obtain ⟨v93, hv93, h⟩:=zn h
    refine yx hn 0 ?_
    refine yS (.ptr 2 v80) 0 ⟨fK _ _ _ _ 4 2 _ underlying225 mc rfl rfl (dR hv80).1 (dR hv80).2 (by decide)⟩ ?_
    refine yS (.v (.int .u32 v81)) 1 ⟨fk _ _ _ _ _ _ underlying106 rfl rfl rfl (gr hv81)⟩ ?_
    refine ys 0 ⟨lb hv82⟩ ?_
    refine yS (.ptr 2 v83) 0 ⟨fK _ _ _ _ 4 2 _ underlying225 mc rfl rfl (dR hv83).1 (dR hv83).2 (by decide)⟩ ?_
    refine yS (.v (.int .u32 v84)) 1 ⟨fk _ _ _ _ _ _ underlying106 rfl rfl rfl (gr hv84)⟩ ?_
    refine ys 0 ⟨lb hv85⟩ ?_
    refine yS (.ptr 2 v86) 0 ⟨fK _ _ _ _ 4 2 _ underlying225 mc rfl rfl (dR hv86).1 (dR hv86).2 (by decide)⟩ ?_
    refine yS (.v (.int .u32 v87)) 1 ⟨fk _ _ _ _ _ _ underlying106 rfl rfl rfl (gr hv87)⟩ ?_
    refine ys 0 ⟨lb hv88⟩ ?_
    refine yS (.ptr 2 v89) 0 ⟨fK _ _ _ _ 4 2 _ underlying225 mc rfl rfl (dR hv89).1 (dR hv89).2 (by decide)⟩ ?_
    refine yS (.v (.int .u32 v90)) 1 ⟨fk _ _ _ _ _ _ underlying106 rfl rfl rfl (gr hv90)⟩ ?_
    refine ys 0 ⟨lb hv91⟩ ?_
    refine yS (.v (.agg (map (int .u32) ([v82,v85,v88,v91]:List Int)).toArray)) 0 ⟨uy _ _ (.agg #[.int .u32 0,.int .u32 0,.int .u32 0,.int .u32 0]) (map (int .u32) ([v82,v85,v88,v91]:List Int)) [(0,.int .u32 v82),(1,.int .u32 v85),(2,.int .u32 v88),(3,.int .u32 v91)] underlying225 mc Ly (fun _ V w o a hv hes=>by have e0:=eA hv hes (x := .tmp 91) rfl; have e1:=eA hv hes (x := .tmp 95) rfl; have e2:=eA hv hes (x := .tmp 99) rfl; have e3:=eA hv hes (x := .tmp 103) rfl; simp only [List.map_toArray,List.map_cons,List.map_nil,e0,e1,e2,e3]; try rfl) (fT (by simp [Instr.fill,Value.cells]; rfl) (by simp))⟩ ?_
    refine yk [4] [104] ?_
    refine yt (4,.arr 225 (map (int .u32) ([v82,v85,v88,v91]:List Int))) 0 ⟨eU _ _ _ _ (zL.trans (congrArg some (dV hv93))) rfl rfl (jT (fun _=>rfl) _) ((dV (f:=int .u32) hv92).symm.trans (dV (f:=int .u32) hv93))⟩ ?_
    refine dv [105,4] ?_
    refine bO ?_
    obtain ⟨v94, hv94, h⟩:=zn h
    refine bG [1] (by kernel_rfl) (es':=[(_,_)]) rfl ?_
    obtain rfl:=zi h
    exact bP hio rfl (.cellR _ _ _ _ underlying225 rfl (zL.trans (congrArg some (dV hv94))) .nil) rfl rfl
   ·rintro u73 hl74 hr75 ⟨s63, s64, s65, s66, s67⟩ rr78 h ho76
    refine cF hn 1 [105,2,4,5,8,9,10,11,45,46,47] ?_
    refine aM ?_
    refine bL _ rfl (fun hb79 => ?_) (fun hb79 => ?_)
    ·have h:=bT hb79 h
     refine bU ?_
     refine bb (aM ?_)
     refine cA ?_
     refine aM ?_
     obtain ⟨v38, hv38, h⟩:=zn h
     obtain ⟨v39, hv39, h⟩:=zn h
     refine yx hn 1 ?_
     refine yS (.v (.int .u32 v39)) 2 ⟨uS _ _ _ _ 64 v38 underlying241 mc rfl (congrArg (fun j=>AV.v (int .i64 j)) (dR hv38).1) (dR hv38).2 (gr hv39) ⟨_,underlying106,rfl⟩⟩ ?_
     refine dv [105,2,4,5,8,9,10,11,45,46,12,13] ?_
     refine aM ?_
     obtain ⟨v40, hv40, h⟩:=zn h
     refine yx hn 4 ?_
     refine ys 0 ⟨lk call219 (zK _ _ _ _ _ hv40)⟩ ?_
     refine ym 4 ?_
     refine dv [105,2,4,5,8,9,10,11,45,46,12,13,14,15] ?_
     refine aM ?_
     obtain ⟨v41, hv41, h⟩:=zn h
     obtain ⟨v42, hv42, h⟩:=zn h
     obtain ⟨v43, hv43, h⟩:=zn h
     obtain ⟨v44, hv44, h⟩:=zn h
     obtain ⟨v45, hv45, h⟩:=zn h
     refine yx hn 3 ?_
     refine ys 1 ⟨lb hv41⟩ ?_
     refine yS (.ptr 5 v42) 0 ⟨fK _ _ _ _ 16 5 _ underlying222 mc rfl rfl (dR hv42).1 (dR hv42).2 (by decide)⟩ ?_
     refine yS (.v (.int .u32 v43)) 0 ⟨fk _ _ _ _ _ _ underlying106 rfl rfl rfl (gr hv43)⟩ ?_
     refine ys 0 ⟨lb hv44⟩ ?_
     refine ys 0 ⟨lb hv45⟩ ?_
     refine yw [14] 1 ?_
     refine dv [105,2,4,5,9,10,11,45,46,12,14] ?_
     refine aM ?_
     obtain ⟨v46, hv46, h⟩:=zn h
     obtain ⟨v47, hv47, h⟩:=zn h
     obtain ⟨v48, hv48, h⟩:=zn h
     obtain ⟨v49, hv49, h⟩:=zn h
     obtain ⟨v50, hv50, h⟩:=zn h
     refine yx hn 1 ?_
     refine ys 1 ⟨lB (vJ hv46)⟩ ?_
     refine ys 0 ⟨lB (oH hv47)⟩ ?_
     refine yS (.v (.pointer (some ⟨6,(0+v48 * 4),none⟩))) 0 ⟨sM _ _ _ _ 4 6 0 _ 4 _ underlying245 Nh rfl rfl (dR hv48).1 (dR hv48).2⟩ ?_
     refine yS (.v (.pointer (some ⟨6,((0+v48 * 4)+v49 * 1),none⟩))) 0 ⟨sM _ _ _ _ 4 6 (0+v48 * 4) _ 1 _ underlying244 MC rfl rfl (dR hv49).1 (dR hv49).2⟩ ?_
     refine yS (vi v50) 1 ⟨qS _ _ 105 6 _ _ _ underlying3 rfl rfl rfl (Lk mx) (gr hv50)⟩ ?_
     refine dv [105,2,4,5,9,10,11,45,46,14,16] ?_
     obtain ⟨v51, hv51, h⟩:=zn h
     obtain ⟨v52, hv52, h⟩:=zn h
     obtain ⟨v53, hv53, h⟩:=zn h
     obtain ⟨v54, hv54, h⟩:=zn h
     obtain ⟨v55, hv55, h⟩:=zn h
     refine wb [[11],[9],[14],[16]] ?_
     refine wN [76,77] ?_
     refine wo [[14],[16]] ⟨lB (wg hv51)⟩ ?_
     refine wN [80] ?_
     refine wo [] ⟨lb hv52⟩ ?_
     refine wN [79,81] ?_
     refine wo [] ⟨lB (rk hv53)⟩ ?_
     refine wN [78,82] ?_
     refine wo [] ⟨lb hv54⟩ ?_
     refine wN [75,83] ?_
     refine wo [[9],[10],[74]] ⟨lb hv55⟩ ?_
     refine wK [9] [84] ?_
     refine wt [(9,.v (.int .u32 v55))] [] ⟨cM.drop [_] (qJ _ _ _ _ rfl rfl)⟩ ?_
     refine wK [10] [85] ?_
     refine wt [(10,.v (.int .u32 s64))] [] ⟨cM.drop [_] (qJ _ _ _ _ rfl rfl)⟩ ?_
     refine wK [11] [86] ?_
     refine wt [(11,.v (.int .u32 s65))] [] ⟨cM.drop [_] (qJ _ _ _ _ rfl rfl)⟩ ?_
     refine we hn [105,2,4,5,45,46,8,9,10,11] ?_
     refine cG ?_
     refine bb ?_
     obtain ⟨v56, hv56, h⟩:=zn h
     refine yx hn 0 ?_
     refine ys 0 ⟨lb hv56⟩ ?_
     refine yw [46] 1 ?_
     refine ye [105,2,4,5,45,8,9,10,11,46] ?_
     refine bG [0,1,2,3,5,6,7,8,4,9] (by kernel_rfl) (es':=[(_,_),(_,_),(_,_),(_,_),(_,_),(_,_),(_,_),(_,_),(_,_),(_,_)]) rfl ?_
     exact dM _ (zi h).symm rfl
    ·have h:=bQ hb79 h
     refine dK ?_
     refine cd ?_
     refine cd ?_
     refine dL ?_
     refine bG [0,1,2,4,5,6,7] (by kernel_rfl) (es':=[(_,_),(_,_),(_,_),(_,_),(_,_),(_,_),(_,_)]) rfl ?_
     exact hl74 _ (ho76 _ (zi h).symm).symm
  ·rintro u22 hl23 hr24 ⟨s18, s19⟩ rr27 h ho25
   refine cF hn 1 [105,2,4,5,17,18,19,20] ?_
   refine aM ?_
   refine bL _ rfl (fun hb28 => ?_) (fun hb28 => ?_)
   ·have h:=bT hb28 h
    refine bU ?_
    refine bb (aM ?_)
    refine cA ?_
    refine aM ?_
    obtain ⟨v2, hv2, h⟩:=zn h
    obtain ⟨v3, hv3, h⟩:=zn h
    refine yx hn 1 ?_
    refine ys 0 ⟨li hv2⟩ ?_
    refine ys 2 ⟨ll hv3⟩ ?_
    refine dv [105,2,4,5,17,18,19,6,7] ?_
    obtain ⟨v4, hv4, h⟩:=zn h
    obtain ⟨v5, hv5, h⟩:=zn h
    obtain ⟨v6, hv6, h⟩:=zn h
    obtain ⟨v7, hv7, h⟩:=zn h
    obtain ⟨v8, hv8, h⟩:=zn h
    obtain ⟨v9, hv9, h⟩:=zn h
    obtain ⟨v10, hv10, h⟩:=zn h
    obtain ⟨v11, hv11, h⟩:=zn h
    obtain ⟨v12, hv12, h⟩:=zn h
    obtain ⟨v13, hv13, h⟩:=zn h
    refine wb [[6]] ?_
    refine wN [24] ?_
    refine wo [] ⟨lB (vJ hv4)⟩ ?_
    refine wN [5,25] ?_
    refine wS (.ptr 5 v5) [] ⟨fK _ _ _ _ 16 5 _ underlying222 mc rfl rfl (dR hv5).1 (dR hv5).2 (by decide)⟩ ?_
    refine wN [26,5] ?_
    refine wS (.v (.int .u32 v6)) [[7]] ⟨fk _ _ _ _ _ _ underlying106 rfl rfl rfl (gr hv6)⟩ ?_
    refine wN [28] ?_
    refine wo [[6]] ⟨lv hv7⟩ ?_
    refine wN [30] ?_
    refine wo [] ⟨lB (oH hv8)⟩ ?_
    refine wN [31] ?_
    refine wo [] ⟨lb hv9⟩ ?_
    refine wN [29,32] ?_
    refine wo [] ⟨lB (wg hv10)⟩ ?_
    refine wN [27,33] ?_
    refine wo [] ⟨lb hv11⟩ ?_
    refine wN [5,25] ?_
    refine wS (.ptr 5 v12) [] ⟨fK _ _ _ _ 16 5 _ underlying222 mc rfl rfl (dR hv12).1 (dR hv12).2 (by decide)⟩ ?_
    refine wK [5] [35,34] ?_
    refine wt [(5,.arr 222 (map (int .u32) v13))] [] ⟨ri _ _ _ _ _ _ mc rfl rfl rfl rfl (EV hv13) (FL (f:=int .u32) hv13)⟩ ?_
    refine we hn [105,2,4,5,17,18,19] ?_
    refine cG ?_
    refine bb ?_
    obtain ⟨v14, hv14, h⟩:=zn h
    refine yx hn 0 ?_
    refine ys 0 ⟨lb hv14⟩ ?_
    refine yw [19] 1 ?_
    refine ye [105,2,4,5,17,18,19] ?_
    exact dM _ (zi h).symm rfl
   ·have h:=bQ hb28 h
    refine dK ?_
    refine cd ?_
    refine cd ?_
    refine dL ?_
    refine bG [0,1,2,3] (by kernel_rfl) (es':=[(_,_),(_,_),(_,_),(_,_)]) rfl ?_
    exact hl23 _ (ho25 _ (zi h).symm).symm
theorem wm (rest:(List Int)) (n:Int) (r:(List Int)) (h:Sh.qa rest n=some r):eD Tryz.prog 204 [.fl .shr 1 (map (int .u8) rest), .v (.int .i64 n)] (.fl (.own 5) 1 (map (int .u8) r)):=by
  unfold Sh.qa at h
  refine yO 42 func204 fun g0 hn hio => ?_
  refine cF hn 1 [0,1] ?_
  refine cF hn 1 [0,1,5] ?_
  refine aM ?_
  refine ce h (fun (s4:Int)=>[(0,fb rest),(1,vi n),(5,vi s4)]) ?_ ?_
  ·rintro s4 h
   refine bb (aM ?_)
   obtain ⟨v9, hv9, h⟩:=zn h
   refine yx hn 1 ?_
   refine yS (.fl (.own 5) 1 (map (int .u8) v9)) 0 ⟨Nd (f:=int .u8) _ _ _ _ oz (by decide) zS rfl rfl rfl hv9⟩ ?_
   refine ya 0 ?_
   refine dv [0,1,5,6] ?_
   refine aM ?_
   obtain ⟨v10, hv10, h⟩:=zn h
   refine yx hn 2 ?_
   refine yk [6] [16,17] ?_
   refine tg (6,.fl (.own 5) 1 (map (int .u8) v10)) (18,vi (xX v9 rest)) 0 ⟨(Option.some.inj hv10) ▸ NR _ _ _ _ _ _ _ underlying28 qp rfl rfl (by decide)⟩ ?_
   refine dv [0,1,5,6] ?_
   refine aM ?_
   obtain ⟨v11, hv11, h⟩:=zn h
   obtain ⟨v12, hv12, h⟩:=zn h
   refine yx hn 3 ?_
   refine ys 0 ⟨li hv11⟩ ?_
   refine yk [6] [22] ?_
   refine yt (6,.fl (.own 5) 1 (map (int .u8) v12)) 0 ⟨xI _ _ _ _ _ _ _ _ qp rfl rfl rfl (by decide) (FQ (dR hv11).2) ((map_set (f:=int .u8) _ (dR hv11).2).trans (congrArg (map _) (Option.some.inj hv12)))⟩ ?_
   refine dv [1,5,6] ?_
   refine aM ?_
   obtain ⟨v13, hv13, h⟩:=zn h
   obtain ⟨v14, hv14, h⟩:=zn h
   refine yx hn 1 ?_
   refine ys 0 ⟨lv hv13⟩ ?_
   refine ys 1 ⟨lB (wg hv14)⟩ ?_
   refine dv [5,6,7] ?_
   refine aM ?_
   refine cF hn 1 [5,6,7,26] ?_
   refine dx h (fun ((s27,s28):(List Int)×Int)=>[(5,vi s4),(6,.fl (.own 5) 1 (map (int .u8) s27)),(7,.v (.int .u64 v14)),(26,vi s28)]) (fun (s30:(List Int))=>[(6,.fl (.own 5) 1 (map (int .u8) s30))]) ?_ ?_
   ·rintro s30 h
    refine bb ?_
    refine lp hn 0 ?_
    refine ym 0 ?_
    refine ya 0 ?_
    refine dv [4] ?_
    refine bO ?_
    obtain rfl:=zi h
    exact bP hio rfl (.tmp _ _ .nil) rfl rfl
   ·rintro u31 hl32 hr33 ⟨s27, s28⟩ rr36 h ho34
    refine cF hn 1 [5,6,7,26,27] ?_
    refine aM ?_
    refine bL _ rfl (fun hb37 => ?_) (fun hb37 => ?_)
    ·have h:=bT hb37 h
     refine bU ?_
     refine bb (aM ?_)
     refine cA ?_
     refine cF hn 2 [5,6,7,26,8] ?_
     obtain ⟨v16, hv16, h⟩:=zn h
     obtain ⟨v17, hv17, h⟩:=zn h
     obtain ⟨v18, hv18, h⟩:=zn h
     obtain ⟨v19, hv19, h⟩:=zn h
     obtain ⟨v20, hv20, h⟩:=zn h
     obtain ⟨v21, hv21, h⟩:=zn h
     obtain ⟨v22, hv22, h⟩:=zn h
     refine yx hn 2 ?_
     refine ys 1 ⟨lb hv16⟩ ?_
     refine ys 2 ⟨lb hv17⟩ ?_
     refine ys 0 ⟨lb hv18⟩ ?_
     refine ys 0 ⟨lB (rk hv19)⟩ ?_
     refine ys 0 ⟨lv hv20⟩ ?_
     refine ys 0 ⟨li hv21⟩ ?_
     refine yk [6] [39,38] ?_
     refine yt (6,.fl (.own 5) 1 (map (int .u8) v22)) 0 ⟨xI _ _ _ _ _ _ _ _ qp rfl rfl rfl (by decide) (FQ (dR hv21).2) ((map_set (f:=int .u8) _ (dR hv21).2).trans (congrArg (map _) (Option.some.inj hv22)))⟩ ?_
     refine ye [5,6,7,26] ?_
     refine cG ?_
     refine bb ?_
     obtain ⟨v23, hv23, h⟩:=zn h
     refine yx hn 0 ?_
     refine ys 0 ⟨lb hv23⟩ ?_
     refine yw [26] 1 ?_
     refine ye [5,6,7,26] ?_
     exact dM _ (zi h).symm rfl
    ·have h:=bQ hb37 h
     refine dK ?_
     refine cd ?_
     refine cd ?_
     refine dL ?_
     refine bG [1] (by kernel_rfl) (es':=[(_,_)]) rfl ?_
     exact hl32 _ (ho34 _ (zi h).symm).symm
  ·intro u5 h hl6 hr7
   refine aM ?_
   obtain ⟨v1, hv1, h⟩:=zn h
   obtain ⟨v2, hv2, h⟩:=zn h
   refine yx hn 2 ?_
   refine ys 0 ⟨lb hv1⟩ ?_
   refine ys 1 ⟨lb hv2⟩ ?_
   refine dv [0,1,5,13] ?_
   refine bL _ rfl (fun hb8 => ?_) (fun hb8 => ?_)
   ·have h:=bT hb8 h
    refine yx hn 0 ?_
    refine yw [5] 1 ?_
    refine ye [0,1,5] ?_
    exact hl6 _ (zi h).symm
   ·have h:=bQ hb8 h
    refine bU ?_
    refine bG [0,1,2] (by kernel_rfl) (es':=[(_,_),(_,_),(_,_)]) rfl ?_
    exact hl6 _ (zi h).symm
theorem ql (mx:Int×Nat×Value) (b:(List Int)) (r:(List Int)) (h:Sh.pG b=some r):lX Tryz.prog (GL mx) 183 [.fl .shr 1 (map (int .u8) b)] (.v (.agg (map (int .u8) r).toArray)):=by
  unfold Sh.pG at h
  refine yG 62 func183 fun g0 hn hio => ?_
  refine lp hn 0 ?_
  refine yS (.arr 91 (map (int .u8) ((List.replicate 16 (0:Int))))) 0 ⟨oA (eN _ Hf)⟩ ?_
  refine dv [0,62,2] ?_
  refine aM ?_
  obtain ⟨v1, hv1, h⟩:=zn h
  obtain ⟨v2, hv2, h⟩:=zn h
  refine yx hn 0 ?_
  refine yS (.v (.agg (map (int .u32) ([1732584193,4023233417,2562383102,271733878]:List Int)).toArray)) 0 ⟨uy _ _ (.agg #[.int .u32 0,.int .u32 0,.int .u32 0,.int .u32 0]) (map (int .u32) ([1732584193,4023233417,2562383102,271733878]:List Int)) [(0,.int .u32 1732584193),(1,.int .u32 4023233417),(2,.int .u32 2562383102),(3,.int .u32 271733878)] underlying225 mc Ly (fun _ V w o a hv hes=>by simp only [List.map_toArray,List.map_cons,List.map_nil]; try rfl) (fT (by simp [Instr.fill,Value.cells]; rfl) (by simp))⟩ ?_
  refine yS (.arr 225 (map (int .u32) ((List.replicate 4 (0:Int))))) 0 ⟨oA (eN _ Lu)⟩ ?_
  refine yk [3] [10] ?_
  refine yt (3,.arr 225 (map (int .u32) ([1732584193,4023233417,2562383102,271733878]:List Int))) 0 ⟨eU _ _ _ _ (zL.trans (congrArg some (dV hv2))) rfl rfl (jT (fun _=>rfl) _) ((dV (f:=int .u32) hv1).symm.trans (dV (f:=int .u32) hv2))⟩ ?_
  refine dv [0,62,2,3] ?_
  refine aM ?_
  obtain ⟨v3, hv3, h⟩:=zn h
  obtain ⟨v4, hv4, h⟩:=zn h
  refine yx hn 2 ?_
  refine ys 0 ⟨lB (vJ hv3)⟩ ?_
  refine ys 1 ⟨lb hv4⟩ ?_
  refine dv [0,62,2,3,4] ?_
  refine aM ?_
  refine cF hn 1 [0,62,2,3,4,5] ?_
  refine dx h (fun ((s16,s17):(List Int)×Int)=>[(0,fb b),(62,.glob (GL mx)),(2,.arr 91 (map (int .u8) ((List.replicate 16 (0:Int))))),(3,.arr 225 (map (int .u32) s16)),(4,vi v4),(5,vi s17)]) (fun (s19:(List Int))=>[(0,fb b),(62,.glob (GL mx)),(2,.arr 91 (map (int .u8) ((List.replicate 16 (0:Int))))),(3,.arr 225 (map (int .u32) s19)),(4,vi v4)]) ?_ ?_
  ·rintro s19 h
   refine bb (aM ?_)
   obtain ⟨v27, hv27, h⟩:=zn h
   obtain ⟨v28, hv28, h⟩:=zn h
   refine yx hn 2 ?_
   refine yS (fb v27) 2 ⟨rV _ _ _ v4 (b.length:Int) _ underlying28 qp rfl rfl ⟨_,rfl⟩ rfl hv27⟩ ?_
   refine ys 0 ⟨lk call204 (wm _ _ _ hv28)⟩ ?_
   refine ya 0 ?_
   refine dv [62,2,3,6] ?_
   refine aM ?_
   refine cF hn 1 [62,2,3,6,7] ?_
   refine Dd 3 hio (es':=[(62, .glob (GL mx)), (2, .arr 91 (map (int .u8) ((List.replicate 16 (0:Int))))), (3, .arr 225 (map (int .u32) s19)), (6, .fl .ro 1 (map (int .u8) v28)), (7, .v (.int .i64 0))]) rfl ?_
   refine dx h (fun ((s41,s42,s43):(List Int)×(List Int)×Int)=>[(62,.glob (GL mx)),(2,.arr 91 (map (int .u8) ((List.replicate 16 (0:Int))))),(3,.arr 225 (map (int .u32) s41)),(6,.fl .ro 1 (map (int .u8) s42)),(7,vi s43)]) (fun (s45:(List Int))=>[(62,.glob (GL mx)),(2,.arr 91 (map (int .u8) ((List.replicate 16 (0:Int))))),(3,.arr 225 (map (int .u32) s45))]) ?_ ?_
   ·rintro s45 h
    refine bb ?_
    refine lp hn 0 ?_
    refine yS (.arr 91 (map (int .u8) ((List.replicate 16 (0:Int))))) 0 ⟨oA (eN _ Hf)⟩ ?_
    refine dv [62,2,3,8] ?_
    refine aM ?_
    refine cF hn 1 [62,2,3,8,46] ?_
    refine dx h (fun ((s67,s68):(List Int)×Int)=>[(62,.glob (GL mx)),(2,.arr 91 (map (int .u8) ((List.replicate 16 (0:Int))))),(3,.arr 225 (map (int .u32) s45)),(8,.arr 91 (map (int .u8) s67)),(46,vi s68)]) (fun (s70:(List Int))=>[(62,.glob (GL mx)),(2,.arr 91 (map (int .u8) ((List.replicate 16 (0:Int))))),(8,.arr 91 (map (int .u8) s70))]) ?_ ?_
    ·rintro s70 h
     refine bb (aM ?_)
     obtain ⟨v78, hv78, h⟩:=zn h
     obtain ⟨v79, hv79, h⟩:=zn h
     obtain ⟨v80, hv80, h⟩:=zn h
     refine yx hn 0 ?_
     refine yS (.v (.agg (map (int .u8) s70).toArray)) 0 ⟨mP _ _ _ _ underlying91 rfl (Dv.trans (congrArg some (dV hv78))) rfl rfl⟩ ?_
     refine yk [2] [61] ?_
     refine yt (2,.arr 91 (map (int .u8) s70)) 0 ⟨eU _ _ _ _ (Dv.trans (congrArg some (dV hv80))) rfl rfl (jT (fun _=>rfl) _) ((dV (f:=int .u8) hv79).symm.trans (dV (f:=int .u8) hv80))⟩ ?_
     refine dv [62,2] ?_
     refine bO ?_
     obtain ⟨v81, hv81, h⟩:=zn h
     refine bG [1] (by kernel_rfl) (es':=[(_,_)]) rfl ?_
     obtain rfl:=zi h
     exact bP hio rfl (.cellR _ _ _ _ underlying91 rfl (Dv.trans (congrArg some (dV hv81))) .nil) rfl rfl
    ·rintro u71 hl72 hr73 ⟨s67, s68⟩ rr76 h ho74
     refine cF hn 1 [62,2,3,8,46,47] ?_
     refine aM ?_
     refine bL _ rfl (fun hb77 => ?_) (fun hb77 => ?_)
     ·have h:=bT hb77 h
      refine bU ?_
      refine bb (aM ?_)
      refine cA ?_
      refine cF hn 2 [62,2,3,8,46,9] ?_
      obtain ⟨v54, hv54, h⟩:=zn h
      obtain ⟨v55, hv55, h⟩:=zn h
      obtain ⟨v56, hv56, h⟩:=zn h
      obtain ⟨v57, hv57, h⟩:=zn h
      obtain ⟨v58, hv58, h⟩:=zn h
      obtain ⟨v59, hv59, h⟩:=zn h
      obtain ⟨v60, hv60, h⟩:=zn h
      obtain ⟨v61, hv61, h⟩:=zn h
      obtain ⟨v62, hv62, h⟩:=zn h
      refine yx hn 2 ?_
      refine ys 0 ⟨lB (vJ hv54)⟩ ?_
      refine yS (.ptr 3 v55) 0 ⟨fK _ _ _ _ 4 3 _ underlying225 mc rfl rfl (dR hv55).1 (dR hv55).2 (by decide)⟩ ?_
      refine yS (.v (.int .u32 v56)) 1 ⟨fk _ _ _ _ _ _ underlying106 rfl rfl rfl (gr hv56)⟩ ?_
      refine ys 0 ⟨lB (oH hv57)⟩ ?_
      refine ys 0 ⟨lb hv58⟩ ?_
      refine ys 0 ⟨lB (rk hv59)⟩ ?_
      refine ys 0 ⟨lv hv60⟩ ?_
      refine yS (.ptr 8 v61) 0 ⟨fK _ _ _ _ 16 8 _ underlying91 qp rfl rfl (dR hv61).1 (dR hv61).2 (by decide)⟩ ?_
      refine yk [8] [59,58] ?_
      refine yt (8,.arr 91 (map (int .u8) v62)) 0 ⟨ri _ _ _ _ _ _ qp rfl rfl rfl rfl (EV hv62) (FL (f:=int .u8) hv62)⟩ ?_
      refine ye [62,2,3,8,46] ?_
      refine cG ?_
      refine bb ?_
      obtain ⟨v63, hv63, h⟩:=zn h
      refine yx hn 0 ?_
      refine ys 0 ⟨lb hv63⟩ ?_
      refine yw [46] 1 ?_
      refine ye [62,2,3,8,46] ?_
      exact dM _ (zi h).symm rfl
     ·have h:=bQ hb77 h
      refine dK ?_
      refine cd ?_
      refine cd ?_
      refine dL ?_
      refine bG [0,1,3] (by kernel_rfl) (es':=[(_,_),(_,_),(_,_)]) rfl ?_
      exact hl72 _ (ho74 _ (zi h).symm).symm
   ·rintro u46 hl47 hr48 ⟨s41, s42, s43⟩ rr51 h ho49
    refine aM ?_
    refine cF hn 4 [62,2,3,6,7,36] ?_
    refine bL _ rfl (fun hb52 => ?_) (fun hb52 => ?_)
    ·have h:=bT hb52 h
     refine bU ?_
     refine bb (aM ?_)
     refine cA ?_
     obtain ⟨v30, hv30, h⟩:=zn h
     obtain ⟨v31, hv31, h⟩:=zn h
     obtain ⟨v32, hv32, h⟩:=zn h
     obtain ⟨v33, hv33, h⟩:=zn h
     obtain ⟨v34, hv34, h⟩:=zn h
     obtain ⟨v35, hv35, h⟩:=zn h
     refine wb [] ?_
     refine wN [3] ?_
     refine wS (.v (.agg (map (int .u32) s41).toArray)) [[6],[7],[7]] ⟨mP _ _ _ _ underlying225 rfl (zL.trans (congrArg some (dV hv30))) rfl rfl⟩ ?_
     refine wN [42] ?_
     refine wo [] ⟨lb hv31⟩ ?_
     refine wN [40,41,43] ?_
     refine wS (.fl .ro 1 (map (int .u8) v32)) [] ⟨rV _ _ _ s43 v31 _ underlying28 qp rfl rfl ⟨_,rfl⟩ ⟨_,rfl⟩ hv32⟩ ?_
     refine wN [39,44,62] ?_
     refine wo [] ⟨lg call203 (ng _ _ _ _ hv33) 62⟩ ?_
     refine wK [3] [45] ?_
     refine wt [(3,.arr 225 (map (int .u32) v33))] [] ⟨eU _ _ _ _ (zL.trans (congrArg some (dV hv35))) rfl rfl (jT (fun _=>rfl) _) ((dV (f:=int .u32) hv34).symm.trans (dV (f:=int .u32) hv35))⟩ ?_
     refine we hn [62,2,3,6,7] ?_
     refine cG ?_
     refine bb ?_
     obtain ⟨v36, hv36, h⟩:=zn h
     refine yx hn 1 ?_
     refine ys 0 ⟨lb hv36⟩ ?_
     refine yw [7] 1 ?_
     refine ye [62,2,3,6,7] ?_
     exact dM _ (zi h).symm rfl
    ·have h:=bQ hb52 h
     refine dK ?_
     refine cd ?_
     refine cd ?_
     refine dL ?_
     refine bG [0,1,2] (by kernel_rfl) (es':=[(_,_),(_,_),(_,_)]) rfl ?_
     exact hl47 _ (ho49 _ (zi h).symm).symm
  ·rintro u20 hl21 hr22 ⟨s16, s17⟩ rr25 h ho23
   refine aM ?_
   refine cF hn 3 [0,62,2,3,4,5,17] ?_
   refine bL _ rfl (fun hb26 => ?_) (fun hb26 => ?_)
   ·have h:=bT hb26 h
    refine bU ?_
    refine bb (aM ?_)
    refine cA ?_
    obtain ⟨v6, hv6, h⟩:=zn h
    obtain ⟨v7, hv7, h⟩:=zn h
    obtain ⟨v8, hv8, h⟩:=zn h
    obtain ⟨v9, hv9, h⟩:=zn h
    obtain ⟨v10, hv10, h⟩:=zn h
    obtain ⟨v11, hv11, h⟩:=zn h
    refine wb [] ?_
    refine wN [3] ?_
    refine wS (.v (.agg (map (int .u32) s16).toArray)) [[0],[5],[5]] ⟨mP _ _ _ _ underlying225 rfl (zL.trans (congrArg some (dV hv6))) rfl rfl⟩ ?_
    refine wN [23] ?_
    refine wo [] ⟨lb hv7⟩ ?_
    refine wN [21,22,24] ?_
    refine wS (fb v8) [] ⟨rV _ _ _ s17 v7 _ underlying28 qp rfl rfl ⟨_,rfl⟩ ⟨_,rfl⟩ hv8⟩ ?_
    refine wN [20,25,62] ?_
    refine wo [] ⟨lg call203 (ng _ _ _ _ hv9) 62⟩ ?_
    refine wK [3] [26] ?_
    refine wt [(3,.arr 225 (map (int .u32) v9))] [] ⟨eU _ _ _ _ (zL.trans (congrArg some (dV hv11))) rfl rfl (jT (fun _=>rfl) _) ((dV (f:=int .u32) hv10).symm.trans (dV (f:=int .u32) hv11))⟩ ?_
    refine we hn [0,62,2,3,4,5] ?_
    refine cG ?_
    refine bb ?_
    obtain ⟨v12, hv12, h⟩:=zn h
    refine yx hn 1 ?_
    refine ys 0 ⟨lb hv12⟩ ?_
    refine yw [5] 1 ?_
    refine ye [0,62,2,3,4,5] ?_
    exact dM _ (zi h).symm rfl
   ·have h:=bQ hb26 h
    refine dK ?_
    refine cd ?_
    refine cd ?_
    refine dL ?_
    refine bG [0,1,2,3,4] (by kernel_rfl) (es':=[(_,_),(_,_),(_,_),(_,_),(_,_)]) rfl ?_
    exact hl21 _ (ho23 _ (zi h).symm).symm
theorem xq (mx:Int×Nat×Value) (key:(List Int)) (text:(List Int)) (r:(List Int)) (h:Sh.rh key text=some r):lX Tryz.prog (GL mx) 154 [.fl .shr 1 (map (int .u8) key), .fl .shr 1 (map (int .u8) text)] (.v (.agg (map (int .u8) r).toArray)):=by
  unfold Sh.rh at h
  refine yG 51 func154 fun g0 hn hio => ?_
  refine lp hn 0 ?_
  refine yS (.arr 91 (map (int .u8) ((List.replicate 16 (0:Int))))) 0 ⟨oA (eN _ Hf)⟩ ?_
  refine dv [0,1,51,4] ?_
  refine lp hn 0 ?_
  refine yS (.arr 205 (map (int .u8) ((List.replicate 64 (0:Int))))) 0 ⟨oA (eN _ ND)⟩ ?_
  refine dv [0,1,51,4,5] ?_
  refine aM ?_
  refine ce h (fun (s8:(List Int))=>[(1,fb text),(51,.glob (GL mx)),(4,.arr 91 (map (int .u8) ((List.replicate 16 (0:Int))))),(5,.arr 205 (map (int .u8) s8))]) ?_ ?_
  ·rintro s8 h
   refine bb (aM ?_)
   obtain ⟨v13, hv13, h⟩:=zn h
   obtain ⟨v14, hv14, h⟩:=zn h
   refine yx hn 2 ?_
   refine ys 0 ⟨lb hv13⟩ ?_
   refine yS (.fl (.own 5) 1 (map (int .u8) ([]:List Int))) 0 ⟨JJ _ _ _ _ oz (by decide) rfl rfl hv14⟩ ?_
   refine ya 0 ?_
   refine dv [1,51,4,5,7] ?_
   refine aM ?_
   obtain ⟨v15, hv15, h⟩:=zn h
   refine yx hn 0 ?_
   refine yS (.fl (.own 5) 1 (map (int .u8) ([]:List Int))) 0 ⟨JJ _ _ _ _ oz (by decide) rfl rfl hv15⟩ ?_
   refine ya 0 ?_
   refine dv [1,51,4,5,7,8] ?_
   refine aM ?_
   refine aM ?_
   obtain ⟨v16, hv16, h⟩:=zn h
   refine yx hn 0 ?_
   refine yS (.v (.agg (map (int .u8) s8).toArray)) 1 ⟨mP _ _ _ _ underlying205 rfl (Nq.trans (congrArg some (dV hv16))) rfl rfl⟩ ?_
   refine dv [1,51,4,7,8,28,29] ?_
   refine dx h (fun ((s29,s30,s31):(List Int)×(List Int)×Int)=>[(1,fb text),(51,.glob (GL mx)),(4,.arr 91 (map (int .u8) ((List.replicate 16 (0:Int))))),(7,.fl (.own 5) 1 (map (int .u8) s29)),(8,.fl (.own 5) 1 (map (int .u8) s30)),(28,.v (.agg (map (int .u8) s8).toArray)),(29,vi s31)]) (fun ((s33,s34):(List Int)×(List Int))=>[(1,fb text),(51,.glob (GL mx)),(4,.arr 91 (map (int .u8) ((List.replicate 16 (0:Int))))),(7,.fl (.own 5) 1 (map (int .u8) s33)),(8,.fl (.own 5) 1 (map (int .u8) s34))]) ?_ ?_
   ·rintro ⟨s33, s34⟩ h
    refine bb (aM ?_)
    obtain ⟨v42, hv42, h⟩:=zn h
    obtain ⟨v43, hv43, h⟩:=zn h
    obtain ⟨v44, hv44, h⟩:=zn h
    obtain ⟨v45, hv45, h⟩:=zn h
    refine yx hn 0 ?_
    refine ym 1 ?_
    refine yp oz hv42 0 ?_
    refine ys 0 ⟨lg call183 (ql _ _ _ hv43) 51⟩ ?_
    refine yS (.arr 91 (map (int .u8) ((List.replicate 16 (0:Int))))) 0 ⟨oA (eN _ Hf)⟩ ?_
    refine yk [11] [46] ?_
    refine yt (11,.arr 91 (map (int .u8) v43)) 0 ⟨eU _ _ _ _ (Dv.trans (congrArg some (dV hv45))) rfl rfl (jT (fun _=>rfl) _) ((dV (f:=int .u8) hv44).symm.trans (dV (f:=int .u8) hv45))⟩ ?_
    refine dv [51,4,8,11] ?_
    refine aM ?_
    obtain ⟨v46, hv46, h⟩:=zn h
    obtain ⟨v47, hv47, h⟩:=zn h
    obtain ⟨v48, hv48, h⟩:=zn h
    obtain ⟨v49, hv49, h⟩:=zn h
    obtain ⟨v50, hv50, h⟩:=zn h
    refine yx hn 0 ?_
    refine ym 0 ?_
    refine yk [11] [] ?_
    refine tg (11,.any) (48,.fl .ro 1 (map (int .u8) v43)) 0 ⟨rj _ _ 11 16 _ underlying91 qp rfl (dV hv46).symm (jT (fun _=>rfl) _)⟩ ?_
    refine yp oz hv47 0 ?_
    refine ys 0 ⟨lg call183 (ql _ _ _ hv48) 51⟩ ?_
    refine yk [4] [50] ?_
    refine yt (4,.arr 91 (map (int .u8) v48)) 0 ⟨eU _ _ _ _ (Dv.trans (congrArg some (dV hv50))) rfl rfl (jT (fun _=>rfl) _) ((dV (f:=int .u8) hv49).symm.trans (dV (f:=int .u8) hv50))⟩ ?_
    refine dv [51,4] ?_
    refine bO ?_
    obtain ⟨v51, hv51, h⟩:=zn h
    refine bG [1] (by kernel_rfl) (es':=[(_,_)]) rfl ?_
    obtain rfl:=zi h
    exact bP hio rfl (.cellR _ _ _ _ underlying91 rfl (Dv.trans (congrArg some (dV hv51))) .nil) rfl rfl
   ·rintro u35 hl36 hr37 ⟨s29, s30, s31⟩ rr40 h ho38
    refine cF hn 1 [1,51,4,7,8,28,29,30] ?_
    refine aM ?_
    refine bL _ rfl (fun hb41 => ?_) (fun hb41 => ?_)
    ·have h:=bT hb41 h
     refine bU ?_
     refine bb (aM ?_)
     refine cA ?_
     refine aM ?_
     obtain ⟨v18, hv18, h⟩:=zn h
     obtain ⟨v19, hv19, h⟩:=zn h
     refine yx hn 0 ?_
     refine yS (.v (.int .u8 v19)) 1 ⟨uS _ _ _ _ 64 v18 underlying205 qp rfl (congrArg (fun j=>AV.v (int .i64 j)) (dR hv18).1) (dR hv18).2 (gr hv19) ⟨_,underlying5,rfl⟩⟩ ?_
     refine dv [1,51,4,7,8,28,29,10] ?_
     refine aM ?_
     obtain ⟨v20, hv20, h⟩:=zn h
     obtain ⟨v21, hv21, h⟩:=zn h
     refine yx hn 0 ?_
     refine ym 1 ?_
     refine ys 0 ⟨lb hv20⟩ ?_
     refine yS (.fl (.own 5) 1 (map (int .u8) [v20])) 0 ⟨dJ _ _ 1 (.int .u8 0) (map (int .u8) [v20]) [(0,.int .u8 v20)] underlying28 qp zS (fun _ V w o a hv hes=>by have e0:=eA hv hes (x := .tmp 34) rfl; simp only [List.map_toArray,List.map_cons,List.map_nil,e0]; try rfl) (fT (by simp [Instr.fill,Value.cells]; rfl) (by simp [List.range,List.range.loop] <;> rfl)) (by simp [Value.oneCell']) rfl (by decide) (by decide) (by decide)⟩ ?_
     refine yp oz hv21 0 ?_
     refine ya 0 ?_
     refine dv [1,51,4,8,28,29,10,7] ?_
     obtain ⟨v22, hv22, h⟩:=zn h
     obtain ⟨v23, hv23, h⟩:=zn h
     refine yx hn 0 ?_
     refine ym 1 ?_
     refine ys 0 ⟨lb hv22⟩ ?_
     refine yS (.fl (.own 5) 1 (map (int .u8) [v22])) 0 ⟨dJ _ _ 1 (.int .u8 0) (map (int .u8) [v22]) [(0,.int .u8 v22)] underlying28 qp zS (fun _ V w o a hv hes=>by have e0:=eA hv hes (x := .tmp 39) rfl; simp only [List.map_toArray,List.map_cons,List.map_nil,e0]; try rfl) (fT (by simp [Instr.fill,Value.cells]; rfl) (by simp [List.range,List.range.loop] <;> rfl)) (by simp [Value.oneCell']) rfl (by decide) (by decide) (by decide)⟩ ?_
     refine yp oz hv23 0 ?_
     refine ya 0 ?_
     refine ye [1,51,4,28,29,7,8] ?_
     refine cG ?_
     refine bb ?_
     obtain ⟨v24, hv24, h⟩:=zn h
     refine yx hn 0 ?_
     refine ys 0 ⟨lb hv24⟩ ?_
     refine yw [29] 1 ?_
     refine ye [1,51,4,28,7,8,29] ?_
     refine bG [0,1,2,4,5,3,6] (by kernel_rfl) (es':=[(_,_),(_,_),(_,_),(_,_),(_,_),(_,_),(_,_)]) rfl ?_
     exact dM _ (zi h).symm rfl
    ·have h:=bQ hb41 h
     refine dK ?_
     refine cd ?_
     refine cd ?_
     refine dL ?_
     refine bG [0,1,2,3,4] (by kernel_rfl) (es':=[(_,_),(_,_),(_,_),(_,_),(_,_)]) rfl ?_
     exact hl36 _ (ho38 _ (zi h).symm).symm
  ·intro u9 h hl10 hr11
   refine cF hn 3 [0,1,51,4,5,14] ?_
   refine bL _ rfl (fun hb12 => ?_) (fun hb12 => ?_)
   ·have h:=bT hb12 h
    refine aM ?_
    obtain ⟨v2, hv2, h⟩:=zn h
    obtain ⟨v3, hv3, h⟩:=zn h
    obtain ⟨v4, hv4, h⟩:=zn h
    refine yx hn 1 ?_
    refine ys 0 ⟨lg call183 (ql _ _ _ hv2) 51⟩ ?_
    refine yS (.arr 91 (map (int .u8) ((List.replicate 16 (0:Int))))) 0 ⟨oA (eN _ Hf)⟩ ?_
    refine yk [6] [16] ?_
    refine yt (6,.arr 91 (map (int .u8) v2)) 0 ⟨eU _ _ _ _ (Dv.trans (congrArg some (dV hv4))) rfl rfl (jT (fun _=>rfl) _) ((dV (f:=int .u8) hv3).symm.trans (dV (f:=int .u8) hv4))⟩ ?_
    refine dv [1,51,4,5,6] ?_
    obtain ⟨v5, hv5, h⟩:=zn h
    obtain ⟨v6, hv6, h⟩:=zn h
    refine wb [] ?_
    refine wN [5] ?_
    refine wS (.asl 5 64) [] ⟨uL _ _ 5 64 _ underlying205 qp rfl (by decide)⟩ ?_
    refine wK [6] [] ?_
    refine wt [(6,.any),(18,.fl .ro 1 (map (int .u8) v2))] [] ⟨rj _ _ 6 16 _ underlying91 qp rfl (dV hv5).symm (jT (fun _=>rfl) _)⟩ ?_
    refine wK [5] [17,18] ?_
    refine wt [(5,.arr 205 (map (int .u8) (uB ((List.replicate 64 (0:Int))) v2))),(19,vi (xX ((List.replicate 64 (0:Int))) v2))] [] ⟨Bh _ _ _ _ _ _ _ _ underlying28 qp rfl (Nl hv6) rfl (by decide)⟩ ?_
    refine we hn [1,51,4,5] ?_
    exact hl10 _ (zi h).symm
   ·have h:=bQ hb12 h
    obtain ⟨v7, hv7, h⟩:=zn h
    refine yx hn 0 ?_
    refine yS (.asl 5 64) 1 ⟨uL _ _ 5 64 _ underlying205 qp rfl (by decide)⟩ ?_
    refine yk [5] [20,21] ?_
    refine tg (5,.arr 205 (map (int .u8) (uB ((List.replicate 64 (0:Int))) key))) (22,vi (xX ((List.replicate 64 (0:Int))) key)) 0 ⟨Bh _ _ _ _ _ _ _ _ underlying28 qp rfl (Nl hv7) rfl (by decide)⟩ ?_
    refine ye [1,51,4,5] ?_
    exact hl10 _ (zi h).symm
theorem DM (b:(List Int)) (r:ByteArray) (h:Sh.yc b=some r):eD Tryz.prog 155 [.fl .shr 1 (map (int .u8) b)] (.v (.string r)):=by
  unfold Sh.yc at h
  refine yO 22 func155 fun g0 hn hio => ?_
  refine cF hn 1 [0] ?_
  refine lp hn 0 ?_
  refine yS (.hid (lF 153 5 false (map (int .u8) ([]:List Int)))) 0 ⟨oA (cM.bld0 (dh _ _ LH))⟩ ?_
  refine dv [0,3] ?_
  refine aM ?_
  refine cF hn 3 [3,6,7,8] ?_
  refine dx h (fun ((s14,s15):(List Int)×Int)=>[(3,.hid (lF 153 5 false (map (int .u8) s14))),(6,fb b),(7,vi (b.length:Int)),(8,vi s15)]) (fun (s17:(List Int))=>[(3,.hid (lF 153 5 false (map (int .u8) s17)))]) ?_ ?_
  ·rintro s17 h
   refine bb (aM ?_)
   obtain ⟨v25, hv25, h⟩:=zn h
   refine yx hn 0 ?_
   refine yk [3] [] ?_
   refine yt (21,vs v25) 1 ⟨qA _ _ _ _ 21 128 [.tmp 3] [] _ _ _ rfl call128 rfl rfl rfl (kL s17 _ hv25) (zl rfl) rfl rfl rfl rfl rfl rfl rfl⟩ ?_
   refine dv [2] ?_
   refine bO ?_
   obtain rfl:=zi h
   exact bP hio rfl (.tmp _ _ .nil) rfl rfl
  ·rintro u18 hl19 hr20 ⟨s14, s15⟩ rr23 h ho21
   refine cF hn 1 [3,6,7,8,9] ?_
   refine aM ?_
   refine bL _ rfl (fun hb24 => ?_) (fun hb24 => ?_)
   ·have h:=bT hb24 h
    refine bU ?_
    refine bb (aM ?_)
    refine cA ?_
    refine aM ?_
    obtain ⟨v2, hv2, h⟩:=zn h
    obtain ⟨v3, hv3, h⟩:=zn h
    refine yx hn 0 ?_
    refine ys 0 ⟨li hv2⟩ ?_
    refine ys 1 ⟨ll hv3⟩ ?_
    refine dv [3,6,7,8,5] ?_
    refine aM ?_
    obtain ⟨v4, hv4, h⟩:=zn h
    obtain ⟨v5, hv5, h⟩:=zn h
    obtain ⟨v6, hv6, h⟩:=zn h
    refine yx hn 1 ?_
    refine ys 0 ⟨lB (rk hv4)⟩ ?_
    refine ys 0 ⟨lh hv5⟩ ?_
    refine yq call125 (gF _ _ _ hv6) 3 [14] 0 ?_
    refine dv [3,6,7,8,5] ?_
    obtain ⟨v7, hv7, h⟩:=zn h
    obtain ⟨v8, hv8, h⟩:=zn h
    obtain ⟨v9, hv9, h⟩:=zn h
    refine yx hn 1 ?_
    refine ys 0 ⟨lb hv7⟩ ?_
    refine ys 0 ⟨lh hv8⟩ ?_
    refine yq call125 (gF _ _ _ hv9) 3 [18] 0 ?_
    refine ye [3,6,7,8] ?_
    refine cG ?_
    refine bb ?_
    obtain ⟨v10, hv10, h⟩:=zn h
    refine yx hn 0 ?_
    refine ys 0 ⟨lb hv10⟩ ?_
    refine yw [8] 1 ?_
    refine ye [3,6,7,8] ?_
    exact dM _ (zi h).symm rfl
   ·have h:=bQ hb24 h
    refine dK ?_
    refine cd ?_
    refine cd ?_
    refine dL ?_
    refine bG [0] (by kernel_rfl) (es':=[(_,_)]) rfl ?_
    exact hl19 _ (ho21 _ (zi h).symm).symm
theorem xV (mx:Int×Nat×Value) (user:ByteArray) (secret:ByteArray) (challenge:ByteArray) (r:ByteArray) (h:Sh.sr user secret challenge=some r):lX Tryz.prog (GL mx) 133 [.v (.string user), .v (.string secret), .v (.string challenge)] (.v (.string r)):=by
  unfold Sh.sr at h
  refine yG 20 func133 fun g0 hn hio => ?_
  refine cF hn 1 [0,1,2,20] ?_
  refine aM ?_
  obtain ⟨v1, hv1, h⟩:=zn h
  obtain ⟨v2, hv2, h⟩:=zn h
  obtain ⟨v3, hv3, h⟩:=zn h
  obtain ⟨v4, hv4, h⟩:=zn h
  obtain ⟨v5, hv5, h⟩:=zn h
  refine yx hn 1 ?_
  refine ys 1 ⟨lT hv1⟩ ?_
  refine ys 0 ⟨lT hv2⟩ ?_
  refine ys 0 ⟨lg call154 (xq _ _ _ _ hv3) 20⟩ ?_
  refine yS (.arr 91 (map (int .u8) ((List.replicate 16 (0:Int))))) 0 ⟨oA (eN _ Hf)⟩ ?_
  refine yk [7] [12] ?_
  refine yt (7,.arr 91 (map (int .u8) v3)) 0 ⟨eU _ _ _ _ (Dv.trans (congrArg some (dV hv5))) rfl rfl (jT (fun _=>rfl) _) ((dV (f:=int .u8) hv4).symm.trans (dV (f:=int .u8) hv5))⟩ ?_
  refine dv [0,20,7] ?_
  refine aM ?_
  obtain ⟨v6, hv6, h⟩:=zn h
  obtain ⟨v7, hv7, h⟩:=zn h
  obtain ⟨v8, hv8, h⟩:=zn h
  obtain ⟨v9, hv9, h⟩:=zn h
  obtain ⟨v10, hv10, h⟩:=zn h
  obtain ⟨v11, hv11, h⟩:=zn h
  refine yx hn 1 ?_
  refine ys 0 ⟨lB (ie hv6)⟩ ?_
  refine yk [7] [] ?_
  refine tg (7,.any) (15,.fl .ro 1 (map (int .u8) v3)) 0 ⟨rj _ _ 7 16 _ underlying91 qp rfl (dV hv7).symm (jT (fun _=>rfl) _)⟩ ?_
  refine ys 0 ⟨lk call155 (DM _ _ hv8)⟩ ?_
  refine ys 0 ⟨lB (ie hv9)⟩ ?_
  refine ys 0 ⟨lT hv10⟩ ?_
  refine ys 1 ⟨lk call98 (oZ _ _ hv11)⟩ ?_
  refine dv [20,6] ?_
  refine bO ?_
  refine bG [1] (by kernel_rfl) (es':=[(_,_)]) rfl ?_
  obtain rfl:=zi h
  exact bP hio rfl (.tmp _ _ .nil) rfl rfl
theorem yF (mx:Int×Nat×Value) (user:ByteArray) (secret:ByteArray) (challenge:ByteArray) (line:ByteArray) (r:Bool) (h:Sh.sO user secret challenge line=some r):lX Tryz.prog (GL mx) 107 [.v (.string user), .v (.string secret), .v (.string challenge), .v (.string line)] (.v (.bool r)):=by
  unfold Sh.sO at h
  refine yG 15 func107 fun g0 hn hio => ?_
  refine cF hn 1 [0,1,2,3,15] ?_
  refine aM ?_
  obtain ⟨v1, hv1, h⟩:=zn h
  refine yx hn 4 ?_
  refine ys 2 ⟨lg call133 (xV _ _ _ _ _ hv1) 15⟩ ?_
  refine dv [15,8] ?_
  refine bO ?_
  refine bG [1] (by kernel_rfl) (es':=[(_,_)]) rfl ?_
  obtain rfl:=zi h
  exact bP hio rfl (.tmp _ _ .nil) rfl rfl
theorem ki (u:Nat→Value) (s:aa) (code:Int) (r:fw) (h:Sh.fm s code=some r):un Tryz.prog 85 [.box 80 [.v (.int .i64 s.Gate.Phase), .v (.string s.Gate.Helo), .v (.bool s.Gate.From.Null), .v (.string s.Gate.From.Local), .v (.string s.Gate.From.Domain), .v (u 5), .v (.bool s.Gate.Quiet), .v (u 7), .v (.string s.Gate.Challenge), .v (.bool s.Gate.Proved), .v (.string ((s.config.Domains.getD 0 (⟨#[]⟩:ByteArray)))), .v (.string ((s.config.Domains.getD 1 (⟨#[]⟩:ByteArray)))), .v (.int .i64 s.config.Expiry), .v (.string s.config.User), .v (.string s.config.Secret), .v (.int .i64 s.config.Log), .v (.bool s.config.Held), .v (.int .i64 s.site), .v (.int .i64 s.at_), .v (u 19)], .v (.int .i64 code)] [.box 80 [.v (.int .i64 s.Gate.Phase), .v (.string s.Gate.Helo), .v (.bool s.Gate.From.Null), .v (.string s.Gate.From.Local), .v (.string s.Gate.From.Domain), .v (u 5), .v (.bool s.Gate.Quiet), .v (u 7), .v (.string s.Gate.Challenge), .v (.bool s.Gate.Proved), .v (.string ((s.config.Domains.getD 0 (⟨#[]⟩:ByteArray)))), .v (.string ((s.config.Domains.getD 1 (⟨#[]⟩:ByteArray)))), .v (.int .i64 s.config.Expiry), .v (.string s.config.User), .v (.string s.config.Secret), .v (.int .i64 s.config.Log), .v (.bool s.config.Held), .v (.int .i64 s.site), .v (.int .i64 s.at_), .v (u 19)]] (.agg [.v (.int .i64 r.Code), .fl (.own 9) 1 (map Value.string r.Lines)]):=by
  unfold Sh.fm at h
  refine yP 24 func85 fun args0 hargs0 g0 hn hio => ?_
  refine lp hn 0 ?_
  refine yS (.box 51 [vi 0,vz]) 0 ⟨oA (dh _ _ Ke)⟩ ?_
  refine dv [0,1,4,0] ?_
  refine cF hn 1 [0,1,4,5,0] ?_
  refine aM ?_
  refine ce h (fun (s6:ByteArray)=>[(0,.box 80 (vi s.Gate.Phase::vs s.Gate.Helo::vb s.Gate.From.Null::vs s.Gate.From.Local::vs s.Gate.From.Domain::.v (u 5)::vb s.Gate.Quiet::.v (u 7)::vs s.Gate.Challenge::vb s.Gate.Proved::co.c s.config [vi s.site,vi s.at_,.v (u 19)])),(1,vi code),(4,.box 51 [vi 0,vz]),(5,vs s6),(0,.v (List.getD args0 0 undef))]) ?_ ?_
  ·rintro s6 h
   refine bb ?_
   refine lp hn 2 ?_
   refine yS (.fl (.own 9) 1 (map Value.string [s6])) 0 ⟨dJ _ _ 1 (.string ByteArray.empty) (map Value.string [s6]) [(0,.string s6)] underlying49 Am Oj (fun _ V w o a hv hes=>by have e0:=eA hv hes (x := .tmp 21) rfl; simp only [List.map_toArray,List.map_cons,List.map_nil,e0]; try rfl) (fT (by simp [Instr.fill,Value.cells]; rfl) (by simp [List.range,List.range.loop] <;> rfl)) (by simp [Value.oneCell']) rfl (by decide) (by decide) (by decide)⟩ ?_
   refine yk [22] [20] ?_
   refine yt (23,.agg [vi code,.fl (.own 9) 1 (map Value.string [s6])]) 0 ⟨dQ _ _ _ _ [1,1] _ _ underlying51 Ke (Ny _ underlying51) (.copy _ (.take _ _ rE.nil)) rfl rfl rfl⟩ ?_
   refine yk [23,4] [] ?_
   refine yt (4,.box 51 [vi code,.fl (.own 9) 1 (map Value.string [s6])]) 0 ⟨cO _ _ _ _ _ _ _ _ Kx rfl rfl rfl (zl rfl) rfl rfl⟩ ?_
   refine dv [0,4,0] ?_
   refine bO ?_
   refine bG [1,0,2] (by kernel_rfl) (es':=[(_,_),(_,_),(_,_)]) rfl ?_
   obtain rfl:=zi h
   exact dS (es:=[(4, .box 51 [.v (.int .i64 code),.fl (.own 9) 1 (map Value.string [s6])])]) (posts:=[.box 80 [.v (.int .i64 s.Gate.Phase),.v (.string s.Gate.Helo),.v (.bool s.Gate.From.Null),.v (.string s.Gate.From.Local),.v (.string s.Gate.From.Domain),.v (u 5),.v (.bool s.Gate.Quiet),.v (u 7),.v (.string s.Gate.Challenge),.v (.bool s.Gate.Proved),.v (.string ((s.config.Domains.getD 0 (⟨#[]⟩:ByteArray)))),.v (.string ((s.config.Domains.getD 1 (⟨#[]⟩:ByteArray)))),.v (.int .i64 s.config.Expiry),.v (.string s.config.User),.v (.string s.config.Secret),.v (.int .i64 s.config.Log),.v (.bool s.config.Held),.v (.int .i64 s.site),.v (.int .i64 s.at_),.v (u 19)]]) hio rfl rfl (.cellA _ _ _ _ underlying51 rfl Kx .nil) rfl rfl hargs0 rfl
  ·intro u7 h hl8 hr9
   refine cA ?_
   refine cF hn 3 [0,1,4,5,6,0] ?_
   refine bL _ rfl (fun hb10 => ?_) (fun hb10 => ?_)
   ·have h:=bT hb10 h
    obtain ⟨v2, hv2, h⟩:=zn h
    obtain ⟨v3, hv3, h⟩:=zn h
    refine yx hn 5 ?_
    refine ys 0 ⟨lT hv2⟩ ?_
    refine ys 0 ⟨lk call98 (oZ _ _ hv3)⟩ ?_
    refine yw [5] 1 ?_
    refine ye [0,1,4,5,0] ?_
    refine cG ?_
    exact hl8 _ (zi h).symm
   ·have h:=bQ hb10 h
    refine aM ?_
    obtain ⟨v4, hv4, h⟩:=zn h
    refine yx hn 1 ?_
    refine ys 2 ⟨lk call99 (sD _ _ hv4)⟩ ?_
    refine dv [0,1,4,5,16,0] ?_
    refine bL _ rfl (fun hb11 => ?_) (fun hb11 => ?_)
    ·have h:=bT hb11 h
     refine yx hn 0 ?_
     refine yw [5] 1 ?_
     refine ye [0,1,4,5,0] ?_
     refine cG ?_
     exact hl8 _ (zi h).symm
    ·have h:=bQ hb11 h
     refine bU ?_
     refine cG ?_
     refine bG [0,1,2,3,5] (by kernel_rfl) (es':=[(_,_),(_,_),(_,_),(_,_),(_,_)]) rfl ?_
     exact hl8 _ (zi h).symm
theorem dn (s:aa) (code:Int) (r:aa) (h:Sh.cY s code=some r):un Tryz.prog 76 [.box 80 (aa.b s), .v (.int .i64 code)] [.box 80 (aa.b r)] (.tup []):=by
  unfold Sh.cY at h
  refine yP 17 func76 fun args0 hargs0 g0 hn hio => ?_
  obtain ⟨v1, hv1, h⟩:=zn h
  obtain ⟨v2, hv2, h⟩:=zn h
  refine wb [[],[],[5,0],[6,0],[7,0],[0],[1]] ?_
  refine wN [9,0,10] ?_
  refine wS (.agg [vi v1.Code,.fl (.own 9) 1 (map Value.string v1.Lines)]) [] ⟨ES _ 11 0 85 [.int .i64 code] _ rfl call85 rfl rfl rfl rfl (fun u=>ki u ((aa.r s)) code _ hv1) rfl rfl rfl⟩ ?_
  refine wK [11] [] ?_
  refine wt [(12,.agg [vi v1.Code,.fl (.own 9) 1 (map Value.string v1.Lines),vb false,vb false,vs z0,vs z0,vz,vz,vb false,vs z0,vi 0,vb false])] [] ⟨dQ _ _ _ _ [2,1,8,1] _ _ underlying55 Au (IB _ underlying55) (.take _ _ rE.nil) rfl rfl rfl⟩ ?_
  refine wK [12] [] ?_
  refine wt [(13,.fr (.own 55) false 12 (flatten (map cc.ienc ([(cc.mk v1 false ((dw.mk ((bu.mk false z0 z0)) [] [] false z0 0)) false)]))))] [] ⟨pO _ _ _ 12 (.agg #[.int .i64 0,.slice none 0 0,.bool false,.bool false,.string ByteArray.empty,.string ByteArray.empty,.slice none 0 0,.slice none 0 0,.bool false,.string ByteArray.empty,.int .i64 0,.bool false]) false _ _ underlying34 Ei Au rfl (.cons (.v _) (.cons (.ro _ _ rfl) (.cons (.v _) (.cons (.v _) (.cons (.v _) (.cons (.v _) (.cons (.nil 3) (.cons (.nil 1) (.cons (.v _) (.cons (.v _) (.cons (.v _) (.cons (.v _) (.nil))))))))))))) rfl (by decide) (by decide)⟩ ?_
  refine wK [0] [8,13] ?_
  refine wt [(0,.box 80 (vi s.Gate.Phase::vs s.Gate.Helo::vb s.Gate.From.Null::vs s.Gate.From.Local::vs s.Gate.From.Domain::.fl (.own 26) 3 (flatten (map bu.enc s.Gate.To))::vb s.Gate.Quiet::.mkr 5 (map (int .u8) s.Gate.Buf)::vs s.Gate.Challenge::vb s.Gate.Proved::co.c s.config [vi s.site,vi s.at_,.any])),(14,.fr (.own 55) false 12 (flatten (map cc.ienc v2)))] [[4,0],[15,0]] ⟨mv _ 14 0 19 _ _ Mi rfl rfl (zl rfl) rfl (jL cc.ilen _) (jL cc.ilen _) hv2 (tb (oo hv2)) (by decide) (by decide) (by decide) rfl rfl⟩ ?_
  refine wK [8,14,0] [16] ?_
  refine wt [(0,.box 80 (vi s.Gate.Phase::vs s.Gate.Helo::vb s.Gate.From.Null::vs s.Gate.From.Local::vs s.Gate.From.Domain::.fl (.own 26) 3 (flatten (map bu.enc s.Gate.To))::vb s.Gate.Quiet::.mkr 5 (map (int .u8) s.Gate.Buf)::vs s.Gate.Challenge::vb s.Gate.Proved::co.c s.config [vi s.site,vi s.at_,.fr (.own 55) false 12 (flatten (map cc.ienc v2))]))] [] ⟨cM.drop [_] (cO _ _ _ _ _ _ _ _ LU rfl rfl rfl (zl rfl) rfl rfl)⟩ ?_
  refine we hn [0,0] ?_
  obtain rfl:=zi h
  exact pQ (es:=[]) (posts:=[.box 80 [.v (.int .i64 s.Gate.Phase),.v (.string s.Gate.Helo),.v (.bool s.Gate.From.Null),.v (.string s.Gate.From.Local),.v (.string s.Gate.From.Domain),.fl (.own 26) 3 (flatten (map bu.enc s.Gate.To)),.v (.bool s.Gate.Quiet),.mkr 5 (map (int .u8) s.Gate.Buf),.v (.string s.Gate.Challenge),.v (.bool s.Gate.Proved),.v (.string ((s.config.Domains.getD 0 (⟨#[]⟩:ByteArray)))),.v (.string ((s.config.Domains.getD 1 (⟨#[]⟩:ByteArray)))),.v (.int .i64 s.config.Expiry),.v (.string s.config.User),.v (.string s.config.Secret),.v (.int .i64 s.config.Log),.v (.bool s.config.Held),.v (.int .i64 s.site),.v (.int .i64 s.at_),.fr (.own 55) false 12 (flatten (map cc.ienc v2))]]) hio rfl rfl .nil rfl rfl hargs0 rfl
theorem rG (mx:Int×Nat×Value) (s:aa) (line:ByteArray) (r:aa) (h:Sh.lL s line=some r):rW Tryz.prog (GL mx) 90 [.box 80 (aa.b s), .v (.string line)] [.box 80 (aa.b r)] (.tup []):=by
  unfold Sh.lL at h
  refine JO 34 func90 fun args0 hargs0 g0 hn hio => ?_
  refine cF hn 5 [0,1,34,0] ?_
  refine aM ?_
  refine aM ?_
  obtain ⟨v1, hv1, h⟩:=zn h
  refine wb [[],[8,0],[9,0],[10,0],[11,0],[],[13,0],[14,0],[15,0],[16,0],[],[18,0],[19,0],[20,0],[21,0],[1]] ?_
  refine wN [12,17,22,23,34] ?_
  refine wo [[24]] ⟨lg call107 (yF _ _ _ _ _ _ hv1) 34⟩ ?_
  refine Af hn [0,34,25,0] ?_
  refine bL _ rfl (fun hb2 => ?_) (fun hb2 => ?_)
  ·have h:=bT hb2 h
   refine aM ?_
   obtain ⟨v3, hv3, h⟩:=zn h
   refine yx hn 1 ?_
   refine yQ call76 (dn _ _ _ hv3) 0 [26] 0 ?_
   refine dv [0,34,0] ?_
   refine bO ?_
   refine bG [0,2] (by kernel_rfl) (es':=[(_,_),(_,_)]) rfl ?_
   refine bw ?_
   obtain rfl:=zi h
   exact dS (es:=[]) (posts:=[.box 80 (aa.b v3)]) hio rfl rfl .nil rfl rfl hargs0 rfl
  ·have h:=bQ hb2 h
   refine bU ?_
   refine bb ?_
   refine cF hn 5 [0,34,0] ?_
   obtain ⟨v4, hv4, h⟩:=zn h
   refine yx hn 1 ?_
   refine yQ call76 (dn _ _ _ hv4) 0 [32] 0 ?_
   refine ye [0,34,0] ?_
   refine bG [0,2] (by kernel_rfl) (es':=[(_,_),(_,_)]) rfl ?_
   obtain rfl:=zi h
   exact pQ (es:=[]) (posts:=[.box 80 (aa.b v4)]) hio rfl rfl .nil rfl rfl hargs0 rfl
theorem pV (line:ByteArray) (r:Bool) (h:Sh.ka line=some r):eD Tryz.prog 108 [.v (.string line)] (.v (.bool r)):=by
  unfold Sh.ka at h
  refine yO 20 func108 fun g0 hn hio => ?_
  refine cF hn 1 [0] ?_
  refine aM ?_
  refine cF hn 3 [0,5,6] ?_
  refine dx h (fun (s17:Int)=>[(0,vs line),(5,vi (line.size:Int)),(6,vi s17)]) (fun (():Unit)=>[]) ?_ ?_
  ·rintro ⟨⟩ h
   refine bb ?_
   refine cF hn 1 [2] ?_
   refine bO ?_
   obtain rfl:=zi h
   exact bP hio rfl (.tmp _ _ .nil) rfl rfl
  ·rintro u24 hl25 hr26 s17 rr29 h ho27
   refine cF hn 1 [0,5,6,7] ?_
   refine aM ?_
   refine bL _ rfl (fun hb30 => ?_) (fun hb30 => ?_)
   ·have h:=bT hb30 h
    refine bU ?_
    refine bb (aM ?_)
    refine cA ?_
    refine cF hn 2 [0,5,6,3] ?_
    refine aM ?_
    refine ce h (fun (s31:Bool)=>[(0,vs line),(5,vi (line.size:Int)),(6,vi s17),(18,vb s31)]) ?_ ?_
    ·rintro s31 h
     refine bb ?_
     refine bL _ rfl (fun hb35 => ?_) (fun hb35 => ?_)
     ·have h:=bT hb35 h
      refine cF hn 1 [2] ?_
      refine bO ?_
      refine cC ?_
      refine bw ?_
      refine bw ?_
      refine cC ?_
      refine bw ?_
      have h:=hr26 _ (ho27 _ (zi h).symm).symm
      obtain rfl:=zi h
      exact bP hio rfl (.tmp _ _ .nil) rfl rfl
     ·have h:=bQ hb35 h
      refine bU ?_
      refine cG ?_
      refine bb ?_
      obtain ⟨v9, hv9, h⟩:=zn h
      refine yx hn 0 ?_
      refine ys 0 ⟨lb hv9⟩ ?_
      refine yw [6] 1 ?_
      refine ye [0,5,6] ?_
      exact dM _ (zi h).symm rfl
    ·intro u32 h hl33 hr34
     obtain ⟨v2, hv2, h⟩:=zn h
     refine bJ h (fun hg4_4 h => ?_) (fun hg4_4 h => ?_)
     ·refine yx hn 2 ?_
      refine ys 2 ⟨lh hv2⟩ ?_
      refine yd hg4_4 5 ?_
      refine ye [0,5,6,18] ?_
      exact hl33 _ (zi h).symm
     ·obtain ⟨v3, hv3, h⟩:=zn h
      refine yx hn 2 ?_
      refine ys 2 ⟨lh hv2⟩ ?_
      refine yd hg4_4 2 ?_
      refine ys 2 ⟨lh hv3⟩ ?_
      refine ye [0,5,6,18] ?_
      exact hl33 _ (zi h).symm
   ·have h:=bQ hb30 h
    refine dK ?_
    refine cd ?_
    refine cd ?_
    refine dL ?_
    refine bG [] (by kernel_rfl) (es':=[]) rfl ?_
    exact hl25 _ (ho27 _ (zi h).symm).symm
theorem nL (s sub:ByteArray) (r:Int) (h:Sh.ft s sub=some r):eD Tryz.prog 143 [.v (.string s), .v (.string sub)] (.v (.int .i64 r)):=pN Tryz.stringslite_Index_one s sub r h
theorem oM (s:ByteArray) (sep:ByteArray) (r:(ByteArray×ByteArray×Bool)) (h:Sh.gn s sep=some r):eD Tryz.prog 156 [.v (.string s), .v (.string sep)] (.tup [.v (.string r.1), .v (.string r.2.1), .v (.bool r.2.2)]):=by
  unfold Sh.gn at h
  refine yO 23 func156 fun g0 hn hio => ?_
  refine cF hn 3 [0,1] ?_
  refine aM ?_
  refine aM ?_
  obtain ⟨v1, hv1, h⟩:=zn h
  refine yx hn 2 ?_
  refine ys 1 ⟨lk call143 (nL _ _ _ hv1)⟩ ?_
  refine dv [0,1,7] ?_
  refine cF hn 2 [0,1,7,12] ?_
  refine bL _ rfl (fun hb2 => ?_) (fun hb2 => ?_)
  ·have h:=bT hb2 h
   refine aM ?_
   obtain ⟨v3, hv3, h⟩:=zn h
   obtain ⟨v4, hv4, h⟩:=zn h
   obtain ⟨v5, hv5, h⟩:=zn h
   refine wb [[0],[7]] ?_
   refine wN [13,14] ?_
   refine wS (vs v3) [[0],[7],[1],[18]] ⟨fj _ _ _ 0 v1 _ underlying9 rfl rfl ⟨_,rfl⟩ hv3⟩ ?_
   refine wN [17,19] ?_
   refine wo [] ⟨lb hv4⟩ ?_
   refine wN [16,20] ?_
   refine wS (vs v5) [[15],[21],[]] ⟨fj _ _ _ v4 (s.size:Int) _ underlying9 rfl ⟨_,rfl⟩ rfl hv5⟩ ?_
   refine Af hn [4,5,6] ?_
   refine bO ?_
   refine bw ?_
   obtain rfl:=zi h
   exact bP hio rfl (.tmp _ _ (.tmp _ _ (.tmp _ _ .nil))) rfl rfl
  ·have h:=bQ hb2 h
   refine bU ?_
   refine bb ?_
   refine cF hn 4 [4,5,6] ?_
   refine bO ?_
   obtain rfl:=zi h
   exact bP hio rfl (.tmp _ _ (.tmp _ _ (.tmp _ _ .nil))) rfl rfl
end Go.Proofs.YtjnnkhmhjcjhdaaGreatDoor
