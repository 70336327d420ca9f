/-
  The model's runs are what is told in Lean.
-/
import Derived.Test.YtjnnkhmhjcjhdaaGreatDoorProg
import Derived.KernelRfl
import Derived.Test.YtjnnkhmhjcjhdaaGreatDoorShelf
import Derived.Test.YtjnnkhmhjcjhdaaGreatDoorIdx
import Derived.Test.YtjnnkhmhjcjhdaaGreatDoorB3
import Derived.Test.YtjnnkhmhjcjhdaaGreatDoorC1
import Derived.Test.YtjnnkhmhjcjhdaaGreatDoorBC
import Derived.Test.YtjnnkhmhjcjhdaaGreatDoorOkc3
set_option linter.unusedVariables false
set_option linter.unusedSimpArgs false
set_option maxHeartbeats 1000000
namespace Go.Proofs.YtjnnkhmhjcjhdaaGreatDoor
open Go.Abs Go.Abs.Sh Tryz
open List (map flatten)
open Value (int)
theorem uu (divisor:Int) (r:(List Int)) (h:Sh.pT divisor=some r):cU Tryz.prog 202 [.v (.int .u32 divisor)] (.v (.agg (map (int .u32) r).toArray)):=by
  unfold Sh.pT at h
  refine yO 29 func202 fun g0 hn hio => ?_
  refine gP hn 0 ?_
  refine yS (.arr 222 (map (int .u32) ((List.replicate 16 (0:Int))))) 0 ⟨oA (cY _ zX)⟩ ?_
  refine bS [0,2] ?_
  refine gP hn 0 ?_
  refine yS (.arr 222 (map (int .u32) ((List.replicate 16 (0:Int))))) 0 ⟨oA (cY _ zX)⟩ ?_
  refine bS [0,2,3] ?_
  refine af ?_
  refine bE hn 1 [0,2,3,7] ?_
  refine bV h (fun ((s91,s92):(List Int)×Int)=>[(0,.v (.int .u32 divisor)),(2,.arr 222 (map (int .u32) ((List.replicate 16 (0:Int))))),(3,.arr 222 (map (int .u32) s91)),(7,vi s92)]) (fun (s133:(List Int))=>[(2,.arr 222 (map (int .u32) ((List.replicate 16 (0:Int))))),(3,.arr 222 (map (int .u32) s133))]) ?_ ?_
  ·rintro s133 h
   refine aB (af ?_)
   obtain ⟨v180, hv180, h⟩:=zn h
   obtain ⟨v181, hv181, h⟩:=zn h
   obtain ⟨v182, hv182, h⟩:=zn h
   refine yx hn 0 ?_
   refine yS (.v (.agg (map (int .u32) s133).toArray)) 0 ⟨jo _ _ _ _ underlying222 rfl (Ai.trans (congrArg some (cv hv180))) rfl rfl⟩ ?_
   refine yk [2] [28] ?_
   refine yt (2,.arr 222 (map (int .u32) s133)) 0 ⟨dj _ _ _ _ (Ai.trans (congrArg some (cv hv182))) rfl rfl (fW (fun _=>rfl) _) ((cv (f:=int .u32) hv181).symm.trans (cv (f:=int .u32) hv182))⟩ ?_
   refine bS [2] ?_
   refine aS ?_
   obtain ⟨v183, hv183, h⟩:=zn h
   obtain rfl:=zi h
   exact aW hio rfl (.cellR _ _ _ _ underlying222 rfl (Ai.trans (congrArg some (cv hv183))) .nil) rfl rfl
  ·rintro u134 hl135 hr136 ⟨s91, s92⟩ rr139 h ho137
   refine bE hn 1 [0,2,3,7,8] ?_
   refine af ?_
   refine aP _ rfl (fun hb140 => ?_) (fun hb140 => ?_)
   ·have h:=aT hb140 h
    refine ba ?_
    refine aB (af ?_)
    refine bz ?_
    refine bE hn 2 [0,2,3,7,4] ?_
    refine af ?_
    obtain ⟨v2, hv2, h⟩:=zn h
    refine yx hn 1 ?_
    refine ys 1 ⟨lv hv2⟩ ?_
    refine bS [0,2,3,7,4,5] ?_
    refine af ?_
    refine bE hn 1 [0,2,3,7,4,5,12] ?_
    refine bV h (fun ((s157,s158):Int×Int)=>[(0,.v (.int .u32 divisor)),(2,.arr 222 (map (int .u32) ((List.replicate 16 (0:Int))))),(3,.arr 222 (map (int .u32) s91)),(7,vi s92),(4,vi s92),(5,.v (.int .u32 s157)),(12,vi s158)]) (fun (s166:Int)=>[(0,.v (.int .u32 divisor)),(2,.arr 222 (map (int .u32) ((List.replicate 16 (0:Int))))),(3,.arr 222 (map (int .u32) s91)),(7,vi s92),(4,vi s92),(5,.v (.int .u32 s166))]) ?_ ?_
    ·rintro s166 h
     refine aB ?_
     obtain ⟨v46, hv46, h⟩:=zn h
     obtain ⟨v47, hv47, h⟩:=zn h
     refine yx hn 2 ?_
     refine yS (.ptr 3 v46) 0 ⟨dE _ _ _ _ 16 3 _ underlying222 iy rfl rfl (co hv46).1 (co hv46).2 (by decide)⟩ ?_
     refine yk [3] [26,25] ?_
     refine yt (3,.arr 222 (map (int .u32) v47)) 0 ⟨mv _ _ _ _ _ _ iy rfl rfl rfl rfl (yF hv47) (yr (f:=int .u32) hv47)⟩ ?_
     refine ye [0,2,3,7] ?_
     refine bF ?_
     refine aB ?_
     obtain ⟨v48, hv48, h⟩:=zn h
     refine yx hn 0 ?_
     refine ys 0 ⟨lb hv48⟩ ?_
     refine yw [7] 1 ?_
     refine ye [0,2,3,7] ?_
     exact ci _ (zi h).symm rfl
    ·rintro u167 hl168 hr169 ⟨s157, s158⟩ rr172 h ho170
     refine bE hn 1 [0,2,3,7,4,5,12,13] ?_
     refine af ?_
     refine aP _ rfl (fun hb173 => ?_) (fun hb173 => ?_)
     ·have h:=aT hb173 h
      refine ba ?_
      refine aB (af ?_)
      refine bk h (fun (s175:Int)=>[(0,.v (.int .u32 divisor)),(2,.arr 222 (map (int .u32) ((List.replicate 16 (0:Int))))),(3,.arr 222 (map (int .u32) s91)),(7,vi s92),(4,vi s92),(12,vi s158),(5,.v (.int .u32 s175))]) ?_ ?_
      ·rintro s175 h
       refine aB ?_
       obtain ⟨v13, hv13, h⟩:=zn h
       refine yx hn 0 ?_
       refine ys 0 ⟨lb hv13⟩ ?_
       refine yw [12] 1 ?_
       refine ye [0,2,3,7,4,5,12] ?_
       exact ci _ (zi h).symm rfl
      ·intro u176 h hl177 hr178
       refine bz ?_
       refine af ?_
       obtain ⟨v4, hv4, h⟩:=zn h
       refine yx hn 1 ?_
       refine ys 1 ⟨lb hv4⟩ ?_
       refine bS [0,2,3,7,4,5,12,6] ?_
       refine af ?_
       obtain ⟨v5, hv5, h⟩:=zn h
       refine yx hn 1 ?_
       refine ys 0 ⟨lB (mw hv5)⟩ ?_
       refine yw [5] 1 ?_
       refine bS [0,2,3,7,4,12,6,5] ?_
       refine bE hn 2 [0,2,3,7,4,12,5,19] ?_
       refine aP _ rfl (fun hb179 => ?_) (fun hb179 => ?_)
       ·have h:=aT hb179 h
        obtain ⟨v7, hv7, h⟩:=zn h
        refine yx hn 2 ?_
        refine ys 0 ⟨lb hv7⟩ ?_
        refine yw [5] 1 ?_
        refine ye [0,2,3,7,4,12,5] ?_
        refine bF ?_
        exact hl177 _ (zi h).symm
       ·have h:=aV hb179 h
        refine ba ?_
        refine bF ?_
        refine aD [0,1,2,3,4,5,6] (by kernel_rfl) (es':=[(_,_),(_,_),(_,_),(_,_),(_,_),(_,_),(_,_)]) rfl ?_
        exact hl177 _ (zi h).symm
     ·have h:=aV hb173 h
      refine ck ?_
      refine bh ?_
      refine bh ?_
      refine cj ?_
      refine aD [0,1,2,3,4,5] (by kernel_rfl) (es':=[(_,_),(_,_),(_,_),(_,_),(_,_),(_,_)]) rfl ?_
      exact hl168 _ (ho170 _ (zi h).symm).symm
   ·have h:=aV hb140 h
    refine ck ?_
    refine bh ?_
    refine bh ?_
    refine cj ?_
    refine aD [1,2] (by kernel_rfl) (es':=[(_,_),(_,_)]) rfl ?_
    exact hl135 _ (ho137 _ (zi h).symm).symm
theorem xH (b:(List Int)) (width:Int) (divisor:Int) (r:Int) (h:Sh.tO b width divisor=some r):cU Tryz.prog 182 [.fl .shr 1 (map (int .u8) b), .v (.int .i64 width), .v (.int .u32 divisor)] (.v (.int .i64 r)):=by
  unfold Sh.tO at h
  refine yO 47 func182 fun g0 hn hio => ?_
  refine bE hn 1 [0,1,2] ?_
  refine af ?_
  obtain ⟨v1, hv1, h⟩:=zn h
  obtain ⟨v2, hv2, h⟩:=zn h
  obtain ⟨v3, hv3, h⟩:=zn h
  refine yx hn 1 ?_
  refine ys 0 ⟨lk call202 (uu _ _ hv1)⟩ ?_
  refine yS (.arr 222 (map (int .u32) ((List.replicate 16 (0:Int))))) 0 ⟨oA (cY _ zX)⟩ ?_
  refine yk [7] [13] ?_
  refine yt (7,.arr 222 (map (int .u32) v1)) 0 ⟨dj _ _ _ _ (Ai.trans (congrArg some (cv hv3))) rfl rfl (fW (fun _=>rfl) _) ((cv (f:=int .u32) hv2).symm.trans (cv (f:=int .u32) hv3))⟩ ?_
  refine bS [0,1,7] ?_
  refine af ?_
  obtain ⟨v4, hv4, h⟩:=zn h
  obtain ⟨v5, hv5, h⟩:=zn h
  refine yx hn 1 ?_
  refine ys 0 ⟨lB (qZ hv4)⟩ ?_
  refine ys 1 ⟨lb hv5⟩ ?_
  refine bS [0,7,8] ?_
  refine bE hn 2 [0,7,8,9] ?_
  refine af ?_
  refine bE hn 3 [7,8,9,18,19,20] ?_
  refine bV h (fun ((s25,s26):Int×Int)=>[(7,.arr 222 (map (int .u32) v1)),(8,.v (.int .u32 v5)),(9,.v (.int .u32 s25)),(18,fb b),(19,vi (b.length:Int)),(20,vi s26)]) (fun (s28:Int)=>[(8,.v (.int .u32 v5)),(9,.v (.int .u32 s28))]) ?_ ?_
  ·rintro s28 h
   refine aB (af ?_)
   obtain ⟨v36, hv36, h⟩:=zn h
   obtain ⟨v37, hv37, h⟩:=zn h
   refine yx hn 2 ?_
   refine ys 0 ⟨lb hv36⟩ ?_
   refine ys 1 ⟨lv hv37⟩ ?_
   refine bS [6] ?_
   refine aS ?_
   obtain rfl:=zi h
   exact aW hio rfl (.tmp _ _ .nil) rfl rfl
  ·rintro u29 hl30 hr31 ⟨s25, s26⟩ rr34 h ho32
   refine bE hn 1 [7,8,9,18,19,20,21] ?_
   refine af ?_
   refine aP _ rfl (fun hb35 => ?_) (fun hb35 => ?_)
   ·have h:=aT hb35 h
    refine ba ?_
    refine aB (af ?_)
    refine bz ?_
    refine af ?_
    obtain ⟨v7, hv7, h⟩:=zn h
    obtain ⟨v8, hv8, h⟩:=zn h
    refine yx hn 0 ?_
    refine ys 0 ⟨li hv7⟩ ?_
    refine ys 1 ⟨ll hv8⟩ ?_
    refine bS [7,8,9,18,19,20,11] ?_
    refine af ?_
    obtain ⟨v9, hv9, h⟩:=zn h
    obtain ⟨v10, hv10, h⟩:=zn h
    refine yx hn 2 ?_
    refine ys 0 ⟨lv hv9⟩ ?_
    refine ys 0 ⟨lb hv10⟩ ?_
    refine yw [9] 1 ?_
    refine bS [7,8,18,19,20,9] ?_
    refine af ?_
    obtain ⟨v11, hv11, h⟩:=zn h
    obtain ⟨v12, hv12, h⟩:=zn h
    obtain ⟨v13, hv13, h⟩:=zn h
    obtain ⟨v14, hv14, h⟩:=zn h
    obtain ⟨v15, hv15, h⟩:=zn h
    refine yx hn 1 ?_
    refine ys 1 ⟨lB (mw hv11)⟩ ?_
    refine ys 0 ⟨lB (mX hv12)⟩ ?_
    refine yS (.ptr 7 v13) 0 ⟨dE _ _ _ _ 16 7 _ underlying222 iy rfl rfl (co hv13).1 (co hv13).2 (by decide)⟩ ?_
    refine yS (.v (.int .u32 v14)) 0 ⟨dp _ _ _ _ _ _ underlying106 rfl rfl rfl (ef hv14)⟩ ?_
    refine ys 0 ⟨lb hv15⟩ ?_
    refine yw [9] 1 ?_
    refine bS [7,8,18,19,20,9] ?_
    obtain ⟨v16, hv16, h⟩:=zn h
    obtain ⟨v17, hv17, h⟩:=zn h
    obtain ⟨v18, hv18, h⟩:=zn h
    obtain ⟨v19, hv19, h⟩:=zn h
    obtain ⟨v20, hv20, h⟩:=zn h
    refine yx hn 1 ?_
    refine ys 1 ⟨lB (mw hv16)⟩ ?_
    refine ys 0 ⟨lB (mX hv17)⟩ ?_
    refine yS (.ptr 7 v18) 0 ⟨dE _ _ _ _ 16 7 _ underlying222 iy rfl rfl (co hv18).1 (co hv18).2 (by decide)⟩ ?_
    refine yS (.v (.int .u32 v19)) 0 ⟨dp _ _ _ _ _ _ underlying106 rfl rfl rfl (ef hv19)⟩ ?_
    refine ys 0 ⟨lb hv20⟩ ?_
    refine yw [9] 1 ?_
    refine ye [7,8,18,19,20,9] ?_
    refine bF ?_
    refine aB ?_
    obtain ⟨v21, hv21, h⟩:=zn h
    refine yx hn 0 ?_
    refine ys 0 ⟨lb hv21⟩ ?_
    refine yw [20] 1 ?_
    refine ye [7,8,18,19,9,20] ?_
    refine aD [0,1,4,2,3,5] (by kernel_rfl) (es':=[(_,_),(_,_),(_,_),(_,_),(_,_),(_,_)]) rfl ?_
    exact ci _ (zi h).symm rfl
   ·have h:=aV hb35 h
    refine ck ?_
    refine bh ?_
    refine bh ?_
    refine cj ?_
    refine aD [1,2] (by kernel_rfl) (es':=[(_,_),(_,_)]) rfl ?_
    exact hl30 _ (ho32 _ (zi h).symm).symm
theorem vI (b:(List Int)) (r:Int) (h:Sh.rj b=some r):cU Tryz.prog 153 [.fl .shr 1 (map (int .u8) b)] (.v (.int .i64 r)):=by
  unfold Sh.rj at h
  refine yO 5 func153 fun g0 hn hio => ?_
  refine bE hn 1 [0] ?_
  refine af ?_
  obtain ⟨v1, hv1, h⟩:=zn h
  refine yx hn 1 ?_
  refine ys 1 ⟨lk call182 (xH _ _ _ _ hv1)⟩ ?_
  refine bS [2] ?_
  refine aS ?_
  obtain rfl:=zi h
  exact aW hio rfl (.tmp _ _ .nil) rfl rfl
theorem si (mx:Int×Nat×Value) (b:eB) (r:((List Int)×Int)) (h:Sh.mE b=some r):iO Tryz.prog (GL mx) 130 [.agg [.v (.int .i64 b.Origin), .v (.int .i64 b.Number), .fr .shr true 8 (flatten (map bT.ienc b.Mails))]] (.tup [.mkr 5 (map (int .u8) r.1), .v (.int .i64 r.2)]):=by
  unfold Sh.mE at h
  refine yG 50 func130 fun g0 hn hio => ?_
  refine bE hn 3 [50,1] ?_
  refine af ?_
  refine af ?_
  obtain ⟨v1, hv1, h⟩:=zn h
  refine yx hn 1 ?_
  refine ys 1 ⟨lg call151 (sB _ _ _ hv1) 50⟩ ?_
  refine bS [50,1,4] ?_
  refine bE hn 2 [50,1,4,13] ?_
  refine aP _ rfl (fun hb46 => ?_) (fun hb46 => ?_)
  ·have h:=aT hb46 h
   refine bE hn 3 [50,2,3] ?_
   refine aS ?_
   refine aD [1,2] (by kernel_rfl) (es':=[(_,_),(_,_)]) rfl ?_
   refine dm (fs:=[(2,.mkr 5 (map (int .u8) [])),(3,vi v1)]) (.sub _ (gu 5) rfl (.same _ .nil)) ?_
   refine aO ?_
   obtain rfl:=zi h
   exact aW hio rfl (.tmp _ _ (.tmp _ _ .nil)) rfl rfl
  ·have h:=aV hb46 h
   refine ba ?_
   refine aB (af ?_)
   obtain ⟨v3, hv3, h⟩:=zn h
   refine yx hn 2 ?_
   refine ys 0 ⟨lg call152 (pX _ _ _ hv3) 50⟩ ?_
   refine ya 0 ?_
   refine bS [50,1,5] ?_
   refine bE hn 1 [50,1,5,6] ?_
   refine af ?_
   refine af ?_
   obtain ⟨v4, hv4, h⟩:=zn h
   refine wb [[1],[18,1],[1],[20,1],[1],[22,1],[23],[5],[25,5],[5]] ?_
   refine wN [27,5] ?_
   refine wo [] ⟨lk call153 (vI _ _ hv4)⟩ ?_
   refine wN [19,21,24,26,28] ?_
   refine wS (.fl (.own 3) 1 (map (int .i64) [b.Origin,b.Number,(b.Mails.length:Int),(v3.length:Int),v4])) [[29],[]] ⟨bM _ _ 1 (.int .i64 0) (map (int .i64) [b.Origin,b.Number,(b.Mails.length:Int),(v3.length:Int),v4]) [(0,.int .i64 b.Origin),(1,.int .i64 b.Number),(2,.int .i64 (b.Mails.length:Int)),(3,.int .i64 (v3.length:Int)),(4,.int .i64 v4)] underlying31 FL Hn (fun _ V w o a hv hes=>by have e0:=cN hv hes (x := .tmp 19) rfl; have e1:=cN hv hes (x := .tmp 21) rfl; have e2:=cN hv hes (x := .tmp 24) rfl; have e3:=cN hv hes (x := .tmp 26) rfl; have e4:=cN hv hes (x := .tmp 28) rfl; simp only [List.map_toArray,List.map_cons,List.map_nil,e0,e1,e2,e3,e4]; try rfl) (cR (by simp [Instr.fill,Value.cells]; rfl) (by simp [List.range,List.range.loop] <;> rfl)) (by simp [Value.oneCell']) rfl (by decide) (by decide) (by decide)⟩ ?_
   refine vJ hn [50,5,6,29,30,31] ?_
   refine bV h (fun ((s51,s52):ByteArray×Int)=>[(50,.glob (GL mx)),(5,.fl (.own 5) 1 (map (int .u8) v3)),(6,vs s51),(29,.fl (.own 3) 1 (map (int .i64) [b.Origin,b.Number,(b.Mails.length:Int),(v3.length:Int),v4])),(30,vi ([b.Origin,b.Number,(b.Mails.length:Int),(v3.length:Int),v4].length:Int)),(31,vi s52)]) (fun (s54:ByteArray)=>[(50,.glob (GL mx)),(5,.fl (.own 5) 1 (map (int .u8) v3)),(6,vs s54)]) ?_ ?_
   ·rintro s54 h
    refine aB (af ?_)
    obtain ⟨v26, hv26, h⟩:=zn h
    obtain ⟨v27, hv27, h⟩:=zn h
    obtain ⟨v44, hv44, h⟩:=zn h
    refine yx hn 1 ?_
    refine ys 0 ⟨lB (gn hv26)⟩ ?_
    refine ys 0 ⟨lU hv27⟩ ?_
    refine ym 0 ?_
    refine yk [43] [44] ?_
    refine np (43,.any) (45,.mkr 5 (map (int .u8) v44)) 0 ⟨pk _ _ _ _ _ fV rfl rfl rfl rfl hv44 rfl⟩ ?_
    refine ya 0 ?_
    refine bS [50,9] ?_
    refine af ?_
    refine gP hn 1 ?_
    refine yS (vi (v44.length:Int)) 1 ⟨pn _ _ _ underlying28 rfl (List.length_map _)⟩ ?_
    refine bS [50,9,48] ?_
    refine aP _ rfl (fun hb62 => ?_) (fun hb62 => ?_)
    ·have h:=aT hb62 h
     refine bE hn 2 [50,2,3] ?_
     refine aS ?_
     refine aD [1,2] (by kernel_rfl) (es':=[(_,_),(_,_)]) rfl ?_
     refine dm (fs:=[(2,.mkr 5 (map (int .u8) [])),(3,vi 2)]) (.sub _ (gu 5) rfl (.same _ .nil)) ?_
     refine aO ?_
     obtain rfl:=zi h
     exact aW hio rfl (.tmp _ _ (.tmp _ _ .nil)) rfl rfl
    ·have h:=aV hb62 h
     refine ba ?_
     refine aB ?_
     refine gP hn 0 ?_
     refine ym 0 ?_
     refine ya 1 ?_
     refine bS [50,2,3] ?_
     refine aS ?_
     refine aD [1,2] (by kernel_rfl) (es':=[(_,_),(_,_)]) rfl ?_
     obtain rfl:=zi h
     exact aW hio rfl (.tmp _ _ (.tmp _ _ .nil)) rfl rfl
   ·rintro u55 hl56 hr57 ⟨s51, s52⟩ rr60 h ho58
    refine bE hn 1 [50,5,6,29,30,31,32] ?_
    refine af ?_
    refine aP _ rfl (fun hb61 => ?_) (fun hb61 => ?_)
    ·have h:=aT hb61 h
     refine ba ?_
     refine aB (af ?_)
     refine bz ?_
     refine af ?_
     obtain ⟨v6, hv6, h⟩:=zn h
     obtain ⟨v7, hv7, h⟩:=zn h
     refine yx hn 0 ?_
     refine ys 0 ⟨li hv6⟩ ?_
     refine ys 1 ⟨ll hv7⟩ ?_
     refine bS [50,5,6,29,30,31,8] ?_
     obtain ⟨v8, hv8, h⟩:=zn h
     obtain ⟨v9, hv9, h⟩:=zn h
     obtain ⟨v10, hv10, h⟩:=zn h
     refine yx hn 2 ?_
     refine ys 0 ⟨lg call150 (nb _ _ _ hv8) 50⟩ ?_
     refine ys 0 ⟨lB (gn hv9)⟩ ?_
     refine ys 0 ⟨lB (gn hv10)⟩ ?_
     refine yw [6] 1 ?_
     refine ye [50,5,29,30,31,6] ?_
     refine bF ?_
     refine aB ?_
     obtain ⟨v11, hv11, h⟩:=zn h
     refine yx hn 0 ?_
     refine ys 0 ⟨lb hv11⟩ ?_
     refine yw [31] 1 ?_
     refine ye [50,5,29,30,6,31] ?_
     refine aD [0,1,4,2,3,5] (by kernel_rfl) (es':=[(_,_),(_,_),(_,_),(_,_),(_,_),(_,_)]) rfl ?_
     exact ci _ (zi h).symm rfl
    ·have h:=aV hb61 h
     refine ck ?_
     refine bh ?_
     refine bh ?_
     refine cj ?_
     refine aD [0,1,2] (by kernel_rfl) (es':=[(_,_),(_,_),(_,_)]) rfl ?_
     exact hl56 _ (ho58 _ (zi h).symm).symm
theorem vT (mx:Int×Nat×Value) (m:bT) (r:Bool) (h:Sh.rb m=some r):iO Tryz.prog (GL mx) 101 [.agg [.v (.bool m.From.Null), .v (.string m.From.Local), .v (.string m.From.Domain), .fl .shr 3 (flatten (map aF.enc m.To)), .fl .shr 1 (map (int .u8) m.Body), .v (.bool m.Quiet), .v (.string m.Helo), .v (.int .i64 m.At)]] (.v (.bool r)):=by
  unfold Sh.rb at h
  refine yG 14 func101 fun g0 hn hio => ?_
  refine bE hn 2 [14,1] ?_
  refine af ?_
  obtain ⟨v1, hv1, h⟩:=zn h
  refine yx hn 1 ?_
  refine yS (.fr (.own 53) true 8 (flatten (map bT.ienc [(bT.mk (aF.mk m.From.Null m.From.Local m.From.Domain) m.To m.Body m.Quiet m.Helo m.At)]))) 0 ⟨mI _ _ _ 8 (.agg #[.bool false,.string ByteArray.empty,.string ByteArray.empty,.slice none 0 0,.slice none 0 0,.bool false,.string ByteArray.empty,.int .i64 0]) true _ _ underlying60 CD CX rfl rfl (.cons (.v _) (.cons (.v _) (.cons (.v _) (.cons (.shr _ _ rfl rfl) (.cons (.shr _ _ rfl rfl) (.cons (.v _) (.cons (.v _) (.cons (.v _) (.nil))))))))) rfl (by decide) (by decide)⟩ ?_
  refine yk [7] [] ?_
  refine yt (8,.agg [vi 0,vi 65535,.fr (.own 53) true 8 (flatten (map bT.ienc [(bT.mk (aF.mk m.From.Null m.From.Local m.From.Domain) m.To m.Body m.Quiet m.Helo m.At)]))]) 0 ⟨cp _ _ _ _ [1,1,1] _ _ underlying62 HZ (Ik _ underlying62) (.copy _ (.take _ _ ni.nil)) rfl rfl rfl⟩ ?_
  refine ys 0 ⟨lg call130 (si _ _ _ hv1) 14⟩ ?_
  refine ym 0 ?_
  refine GV 1 ?_
  refine ya 1 ?_
  refine bS [14,4] ?_
  refine bE hn 3 [14,2] ?_
  refine aS ?_
  refine aD [1] (by kernel_rfl) (es':=[(_,_)]) rfl ?_
  obtain rfl:=zi h
  exact aW hio rfl (.tmp _ _ .nil) rfl rfl
theorem na (mx:Int×Nat×Value) (s:aa) (body:(List Int)) (r:(bi×aa)) (h:Sh.gJ s body=some r):oi Tryz.prog (GL mx) 86 [.box 80 (aa.b s), .fl .shr 1 (map (int .u8) body)] [.box 80 (aa.b r.2)] (.agg [.v (.int .i64 r.1.Reply.Code), .fl .ro 1 (map Value.string r.1.Reply.Lines), .v (.bool r.1.Has), .v (.bool r.1.Mail.From.Null), .v (.string r.1.Mail.From.Local), .v (.string r.1.Mail.From.Domain), .fl .ro 3 (flatten (map aF.enc r.1.Mail.To)), .fl .ro 1 (map (int .u8) r.1.Mail.Body), .v (.bool r.1.Mail.Quiet), .v (.string r.1.Mail.Helo), .v (.int .i64 r.1.Mail.At), .v (.bool r.1.Ask)]):=by
  unfold Sh.gJ at h
  refine Dh 81 func86 fun args0 hargs0 g0 hn hio => ?_
  refine gP hn 0 ?_
  refine yS (.box 55 [vi 0,vz,vb false,vb false,vs z0,vs z0,vz,vz,vb false,vs z0,vi 0,vb false]) 0 ⟨oA (bR _ _ ul)⟩ ?_
  refine bS [0,1,81,4,0] ?_
  refine af ?_
  obtain ⟨v1, hv1, h⟩:=zn h
  obtain ⟨v2, hv2, h⟩:=zn h
  obtain ⟨v3, hv3, h⟩:=zn h
  refine sK (by kernel_rfl) hn (El:=(_::_::_::_::_::(9,fb body)::(10,.same (.slot 0))::(11,.ptr 0 0)::(12,.ptr 0 0)::(13,.ptr 0 1)::(14,vs s.Gate.Helo)::(15,.same (.slot 0))::(16,.same (.slot 0))::(17,.ptr 0 0)::(18,.ptr 0 17)::(19,vi s.site)::(20,.ptr 0 0)::(21,.ptr 0 10)::(22,.ptr 0 10)::(23,.ptr 0 (10+v1 * 1))::(24,vs v2)::(25,.same (.slot 0))::(26,.ptr 0 0)::(27,.ptr 0 18)::(28,vi s.at_)::(29,.tup [.mkr 5 (map (int .u8) v3.1),vi v3.2])::(8,.tup [.mkr 5 (map (int .u8) v3.1),.any])::(8,.tup [.any,vi v3.2])::(30,.mkr 5 (map (int .u8) v3.1))::(8,.tup [.any,.any])::(31,vi v3.2)::(5,.mkr 5 (map (int .u8) v3.1))::(6,vi v3.2)::[])) (init:=[0,1,2,3,4]) (fin:=[0,1,2,3,31,32,4]) (sps:=(zq [1] 5 9::zq [] 6 10::zq [6,0] 7 11::zq [7,0] 8 12::zq [8,0] 9 13::zq [9,0] 10 14::zq [] 11 15::zq [] 12 16::zq [12,0] 13 17::zq [13,0] 14 18::zq [14,0] 15 19::zq [11,0] 16 20::zq [16,0] 17 21::zq [17,0] 18 22::zq [18,0,15] 19 23::zq [19,0] 20 24::zq [] 21 25::zq [21,0] 22 26::zq [22,0] 23 27::zq [23,0] 24 28::zq [5,10,20,24,2] 25 29::⟨[],[25],[26,27],[(.slot 8)]⟩::⟨[],[26],[29,28],[(.slot 30)]⟩::zq [27] 30 31::⟨[],[28],[31],[(.slot 5)]⟩::zq [30] 32 6::[])) (es':=[(_,_),(_,_),(_,_),(_,_),(5,.mkr 5 (map (int .u8) v3.1)),(6,vi v3.2),(_,_)]) (by kernel_rfl) rfl rfl ⟨z1 rfl,zp rfl (eb _ _ _ rfl),zp rfl (ft _ _ _ 0 rfl rfl (by decide)),zp rfl (oF underlying80 rfl tN),zp rfl (oF underlying30 rfl up),zp rfl (oL underlying9 rfl),zp rfl (eb _ _ _ rfl),zp rfl (eb _ _ _ rfl),zp rfl (ft _ _ _ 0 rfl rfl (by decide)),zp rfl (oF underlying80 rfl FL),zp rfl (oL underlying3 rfl),zp rfl (ft _ _ _ 0 rfl rfl (by decide)),zp rfl (oF underlying80 rfl GN),zp rfl (oF underlying24 rfl HX),zp rfl (ve _ _ _ _ 2 0 10 _ underlying22 up rfl rfl (co hv1).1 (co hv1).2 (by decide)),zp rfl (sa _ _ _ 0 10 v1 2 ([(s.config.Domains.getD 0 z0),(s.config.Domains.getD 1 z0)]:List ByteArray) _ underlying9 rfl rfl rfl rfl hv2),zp rfl (eb _ _ _ rfl),zp rfl (ft _ _ _ 0 rfl rfl (by decide)),zp rfl (oF underlying80 rfl FL),zp rfl (oL underlying3 rfl),zp rfl (xN _ _ 81 100 _ _ rfl call100 rfl rfl (fun _ h=>h) (wj mx body s.Gate.Helo v2 s.at_ _ hv3) rfl rfl),zp rfl (bG.split (A:=[]) 8 0 _ _ _ (mY _ _ _ _ rfl) (zl rfl) rfl rfl),zp rfl (kr _ _ _ _ _ rfl (zl rfl) rfl rfl (by decide) rfl),zp rfl (oE rfl),zp rfl (kM _ _ _ _ rfl),z2 rfl,zz⟩ ?_
  refine aB (af ?_)
  refine zK 4 hio (es':=[(0, .box 80 (aa.b s)), (1, fb body), (81, .glob (GL mx)), (4, .box 55 [.v (.int .i64 0),vz,.v (.bool false),.v (.bool false),.v (.string (⟨#[]⟩:ByteArray)),.v (.string (⟨#[]⟩:ByteArray)),vz,vz,.v (.bool false),.v (.string (⟨#[]⟩:ByteArray)),.v (.int .i64 0),.v (.bool false)]), (5, .fl .ro 1 (map (int .u8) v3.1)), (6, .v (.int .i64 v3.2)), (0, .v (List.getD args0 0 undef))]) rfl ?_
  obtain ⟨v4, hv4, h⟩:=zn h
  refine wb [[],[32,0],[33,0],[34,0],[35,0],[],[37,0],[38,0],[39,0],[40,0]] ?_
  refine wN [41,0] ?_
  refine wo [[5]] ⟨lk call59 (jf _ _ hv4)⟩ ?_
  refine wK [42] [36,43] ?_
  refine wt [(44,.agg [vb s.Gate.From.Null,vs s.Gate.From.Local,vs s.Gate.From.Domain,.fl (.own 26) 3 (flatten (map aF.enc v4)),.fl .ro 1 (map (int .u8) v3.1),vb false,vs z0,vi 0])] [] ⟨cp _ _ _ _ [3,1,1,1,1,1] _ _ underlying53 CX (Hp _ underlying53) (.copy _ (.take _ _ (.copy _ ni.nil))) rfl rfl rfl⟩ ?_
  refine wN [] ?_
  refine wS (.box 53 [vb false,vs z0,vs z0,vz,vz,vb false,vs z0,vi 0]) [] ⟨oA (bR _ _ CX)⟩ ?_
  refine wK [44,7] [] ?_
  refine wt [(7,.box 53 [vb s.Gate.From.Null,vs s.Gate.From.Local,vs s.Gate.From.Domain,.fl (.own 26) 3 (flatten (map aF.enc v4)),.fl .ro 1 (map (int .u8) v3.1),vb false,vs z0,vi 0])] [] ⟨bI _ _ _ _ _ _ _ _ CD rfl rfl rfl (zl rfl) rfl rfl⟩ ?_
  refine vJ hn [0,1,81,4,6,7,0] ?_
  refine af ?_
  refine af ?_
  refine bk h (fun (s13:Bool)=>[(0,.box 80 (aa.b s)),(81,.glob (GL mx)),(4,.box 55 [vi 0,vz,vb false,vb false,vs z0,vs z0,vz,vz,vb false,vs z0,vi 0,vb false]),(7,.box 53 [vb s.Gate.From.Null,vs s.Gate.From.Local,vs s.Gate.From.Domain,.fl (.own 26) 3 (flatten (map aF.enc v4)),.fl .ro 1 (map (int .u8) v3.1),vb false,vs z0,vi 0]),(56,vb s13),(0,.v (List.getD args0 0 undef))]) ?_ ?_
  ·rintro s13 h
   refine aB ?_
   refine aP _ rfl (fun hb17 => ?_) (fun hb17 => ?_)
   ·have h:=aT hb17 h
    refine af ?_
    obtain ⟨v11, hv11, h⟩:=zn h
    refine yx hn 1 ?_
    refine yQ call85 (fC _ _ _ hv11) 0 [57] 0 ?_
    refine yk [58] [] ?_
    refine yt (59,.agg [vi v11.1.Code,.fl (.own 9) 1 (map Value.string v11.1.Lines),vb false,vb false,vs z0,vs z0,vz,vz,vb false,vs z0,vi 0,vb false]) 0 ⟨cp _ _ _ _ [2,1,8,1] _ _ underlying55 ul (CF _ underlying55) (.take _ _ ni.nil) rfl rfl rfl⟩ ?_
    refine yk [59,4] [] ?_
    refine yt (4,.box 55 [vi v11.1.Code,.fl (.own 9) 1 (map Value.string v11.1.Lines),vb false,vb false,vs z0,vs z0,vz,vz,vb false,vs z0,vi 0,vb false]) 0 ⟨bI _ _ _ _ _ _ _ _ xu rfl rfl rfl (zl rfl) rfl rfl⟩ ?_
    refine bS [0,81,4,0] ?_
    refine aS ?_
    refine aD [2,0,3] (by kernel_rfl) (es':=[(_,_),(_,_),(_,_)]) rfl ?_
    refine dm (fs:=[(4,.box 55 [vi v11.1.Code,.fl (.own 9) 1 (map Value.string v11.1.Lines),vb false,vb false,vs z0,vs z0,.fl (.own 26) 3 (flatten (map aF.enc [])),.fl (.own 5) 1 (map (int .u8) []),vb false,vs z0,vi 0,vb false]),(0,.box 80 (aa.b v11.2)),(0,.v (List.getD args0 0 undef))]) (.box _ _ (ai (aM _) (ai (aM _) (ai (aM _) (ai (aM _) (ai (aM _) (ai (aM _) (ai (cy 26 3) (ai (cy 5 1) (ai (aM _) (ai (aM _) (ai (aM _) (ai (aM _) (cl))))))))))))) rfl (.same _ (.same _ .nil))) ?_
    refine sJ 0 hio (es':=[(4, .box 55 [.v (.int .i64 v11.1.Code),.fl .ro 1 (map Value.string v11.1.Lines),.v (.bool false),.v (.bool false),.v (.string (⟨#[]⟩:ByteArray)),.v (.string (⟨#[]⟩:ByteArray)),.fl .ro 3 (flatten (map aF.enc [])),.fl .ro 1 (map (int .u8) []),.v (.bool false),.v (.string (⟨#[]⟩:ByteArray)),.v (.int .i64 0),.v (.bool false)]), (0, .box 80 (aa.b v11.2)), (0, .v (List.getD args0 0 undef))]) rfl ?_
    refine aO ?_
    obtain rfl:=zi h
    exact cq (es:=[(4, .box 55 [.v (.int .i64 v11.1.Code),.fl .ro 1 (map Value.string v11.1.Lines),.v (.bool false),.v (.bool false),.v (.string (⟨#[]⟩:ByteArray)),.v (.string (⟨#[]⟩:ByteArray)),.fl .ro 3 (flatten (map aF.enc [])),.fl .ro 1 (map (int .u8) []),.v (.bool false),.v (.string (⟨#[]⟩:ByteArray)),.v (.int .i64 0),.v (.bool false)])]) (posts:=[.box 80 (aa.b v11.2)]) hio rfl rfl (.cellA _ _ _ _ underlying55 rfl xu .nil) rfl rfl hargs0 rfl
   ·have h:=aV hb17 h
    refine ba ?_
    refine aB (af ?_)
    refine wb [[],[60,0],[61,0],[62,0],[63,0],[],[65,0],[66,0],[67,0],[68,0],[],[70,0],[71,0],[72,0],[7]] ?_
    refine wK [7] [74,64] ?_
    refine wt [(7,.box 53 [vb s.Gate.From.Null,vs s.Gate.From.Local,vs s.Gate.From.Domain,.fl (.own 26) 3 (flatten (map aF.enc v4)),.fl .ro 1 (map (int .u8) v3.1),vb s.Gate.Quiet,vs z0,vi 0])] [[7]] ⟨eH _ _ _ _ _ _ _ _ IU rfl rfl rfl rfl (zl rfl) rfl rfl⟩ ?_
    refine wK [7] [75,69] ?_
    refine wt [(7,.box 53 [vb s.Gate.From.Null,vs s.Gate.From.Local,vs s.Gate.From.Domain,.fl (.own 26) 3 (flatten (map aF.enc v4)),.fl .ro 1 (map (int .u8) v3.1),vb s.Gate.Quiet,vs s.Gate.Helo,vi 0])] [[7]] ⟨eH _ _ _ _ _ _ _ _ up rfl rfl rfl rfl (zl rfl) rfl rfl⟩ ?_
    refine wK [7] [76,73] ?_
    refine wt [(7,.box 53 [vb s.Gate.From.Null,vs s.Gate.From.Local,vs s.Gate.From.Domain,.fl (.own 26) 3 (flatten (map aF.enc v4)),.fl .ro 1 (map (int .u8) v3.1),vb s.Gate.Quiet,vs s.Gate.Helo,vi s.at_])] [] ⟨eH _ _ _ _ _ _ _ _ FL rfl rfl rfl rfl (zl rfl) rfl rfl⟩ ?_
    refine vJ hn [0,81,4,7,0] ?_
    refine af ?_
    obtain ⟨v12, hv12, h⟩:=zn h
    refine wb [[0]] ?_
    refine wK [0] [77] ?_
    refine wt [(0,.box 80 (aa.b v12.2)),(78,.agg [vi v12.1.Code,.fl (.own 9) 1 (map Value.string v12.1.Lines)])] [] ⟨tF _ _ _ _ 78 85 [.tmp 77] [_] _ _ _ rfl call85 rfl rfl rfl (fC ((aa.r s)) 250 _ hv12) (zl rfl) rfl rfl rfl rfl rfl rfl rfl rfl⟩ ?_
    refine wK [7] [] ?_
    refine wt [(79,.agg [vb s.Gate.From.Null,vs s.Gate.From.Local,vs s.Gate.From.Domain,.fl (.own 26) 3 (flatten (map aF.enc v4)),.fl .ro 1 (map (int .u8) v3.1),vb s.Gate.Quiet,vs s.Gate.Helo,vi s.at_])] [] ⟨pG _ _ _ _ underlying53 rfl CD rfl rfl⟩ ?_
    refine wK [78,79] [] ?_
    refine wt [(80,.agg [vi v12.1.Code,.fl (.own 9) 1 (map Value.string v12.1.Lines),vb true,vb s.Gate.From.Null,vs s.Gate.From.Local,vs s.Gate.From.Domain,.fl (.own 26) 3 (flatten (map aF.enc v4)),.fl .ro 1 (map (int .u8) v3.1),vb s.Gate.Quiet,vs s.Gate.Helo,vi s.at_,vb false])] [] ⟨cp _ _ _ _ [2,1,8,1] _ _ underlying55 ul (CF _ underlying55) (.take _ _ (.copy _ (.take _ _ ni.nil))) rfl rfl rfl⟩ ?_
    refine wK [80,4] [] ?_
    refine wt [(4,.box 55 [vi v12.1.Code,.fl (.own 9) 1 (map Value.string v12.1.Lines),vb true,vb s.Gate.From.Null,vs s.Gate.From.Local,vs s.Gate.From.Domain,.fl (.own 26) 3 (flatten (map aF.enc v4)),.fl .ro 1 (map (int .u8) v3.1),vb s.Gate.Quiet,vs s.Gate.Helo,vi s.at_,vb false])] [] ⟨bI _ _ _ _ _ _ _ _ xu rfl rfl rfl (zl rfl) rfl rfl⟩ ?_
    refine vJ hn [0,81,4,0] ?_
    refine aS ?_
    refine aD [2,0,3] (by kernel_rfl) (es':=[(_,_),(_,_),(_,_)]) rfl ?_
    refine sJ 0 hio (es':=[(4, .box 55 [.v (.int .i64 v12.1.Code),.fl .ro 1 (map Value.string v12.1.Lines),.v (.bool true),.v (.bool s.Gate.From.Null),.v (.string s.Gate.From.Local),.v (.string s.Gate.From.Domain),.fl .ro 3 (flatten (map aF.enc v4)),.fl .ro 1 (map (int .u8) v3.1),.v (.bool s.Gate.Quiet),.v (.string s.Gate.Helo),.v (.int .i64 s.at_),.v (.bool false)]), (0, .box 80 (aa.b v12.2)), (0, .v (List.getD args0 0 undef))]) rfl ?_
    obtain rfl:=zi h
    exact cq (es:=[(4, .box 55 [.v (.int .i64 v12.1.Code),.fl .ro 1 (map Value.string v12.1.Lines),.v (.bool true),.v (.bool s.Gate.From.Null),.v (.string s.Gate.From.Local),.v (.string s.Gate.From.Domain),.fl .ro 3 (flatten (map aF.enc v4)),.fl .ro 1 (map (int .u8) v3.1),.v (.bool s.Gate.Quiet),.v (.string s.Gate.Helo),.v (.int .i64 s.at_),.v (.bool false)])]) (posts:=[.box 80 (aa.b v12.2)]) hio rfl rfl (.cellA _ _ _ _ underlying55 rfl xu .nil) rfl rfl hargs0 rfl
  ·intro u14 h hl15 hr16
   refine aR h (fun hg3_3 h => ?_) (fun hg3_3 h => ?_)
   ·refine yx hn 4 ?_
    refine yd hg3_3 8 ?_
    refine ye [0,81,4,7,56,0] ?_
    exact hl15 _ (zi h).symm
   ·refine aR h (fun hg3_7 h => ?_) (fun hg3_7 h => ?_)
    ·refine yx hn 4 ?_
     refine yd hg3_3 4 ?_
     refine yd hg3_7 4 ?_
     refine ye [0,81,4,7,56,0] ?_
     exact hl15 _ (zi h).symm
    ·obtain ⟨v5, hv5, h⟩:=zn h
     refine yx hn 4 ?_
     refine yd hg3_3 4 ?_
     refine yd hg3_7 1 ?_
     refine ys 2 ⟨lg call101 (vT _ _ _ hv5) 81⟩ ?_
     refine ye [0,81,4,7,56,0] ?_
     exact hl15 _ (zi h).symm
theorem ur (mx:Int×Nat×Value) (b:(List Int)) (r:(List (List Int))) (h:Sh.kZ b=some r):iO Tryz.prog (GL mx) 102 [.fl .shr 1 (map (int .u8) b)] (.fr .ro false 1 (flatten (map Row_int_u8.ienc r))):=by
  unfold Sh.kZ at h
  refine yG 14 func102 fun g0 hn hio => ?_
  refine bE hn 1 [0,14] ?_
  refine gP hn 0 ?_
  refine yS (.box 137 [vz]) 0 ⟨oA (bR _ _ GG)⟩ ?_
  refine bS [0,14,3] ?_
  refine af ?_
  refine af ?_
  obtain ⟨v1, hv1, h⟩:=zn h
  refine yx hn 1 ?_
  refine yk [] [5] ?_
  refine yt (6,.cloB 123 [.box 28 [fb v1]]) 0 ⟨gU _ _ 96 _ _ rfl call96 rfl rfl (gW b _ hv1) rfl⟩ ?_
  refine bS [14,3,6] ?_
  refine bz ?_
  refine jO [2,0,1] (by kernel_rfl) (es':=[(6,.cloB 123 [.box 28 [fb v1]]),(14,.glob (GL mx)),(3,.box 137 [vz])]) rfl ?_
  refine nY (fs:=[(6,.cloB 123 [.box 28 [fb v1]]),(14,.glob (GL mx)),(3,.box 137 [.fr (.own 28) false 1 (flatten (map Row_int_u8.ienc []))])]) (.same _ (.same _ (.box _ _ (ai (mL 28 false 1) (cl)) rfl .nil))) ?_
  refine iE h 123 6 7 15 _ [14, 3] call123 (fun (s7:(List (List Int)))=>[(14, .glob (GL mx)), (3, .box 137 [.fr (.own 28) false 1 (flatten (map Row_int_u8.ienc s7))])]) (fun (():Unit)=>[]) (fun l J Y hY t t' h=>fL mx l J Y hY v1 t t' h) hn rfl (fun _=>rfl) (fun _=>rfl) (fun _=>rfl) rfl rfl (fun _=>⟨rfl, rfl⟩) rfl (iB 14 rfl) ?_ ?_ ?_
  ·rintro kk g0 hn hio x s7 u h
   refine rX (es':=[(7,fb x),(14,.glob (GL mx)),(3,.box 137 [.fr (.own 28) false 1 (flatten (map Row_int_u8.ienc s7))]),(14,.v (kk.tm.getD 14 undef)),(3,.v (kk.tm.getD 3 undef)),(15,.inv kk.ready)]) rfl ?_
   refine yy hn 1 [14,3,15,4,14,3] ?_
   refine aD [0,1,3,4,5,2] (by kernel_rfl) (es':=[(14,.glob (GL mx)),(3,.box 137 [.fr (.own 28) false 1 (flatten (map Row_int_u8.ienc s7))]),(4,fb x),(14,.v (kk.tm.getD 14 undef)),(3,.v (kk.tm.getD 3 undef)),(15,.inv kk.ready)]) rfl ?_
   refine jT (es:=[(14,.glob (GL mx)),(3,.box 137 [.fr (.own 28) false 1 (flatten (map Row_int_u8.ienc s7))]),(4,fb x),(14,.v (kk.tm.getD 14 undef)),(3,.v (kk.tm.getD 3 undef))]) 15 rfl ?_
   refine bz ?_
   obtain ⟨v2, hv2, h⟩:=zn h
   obtain ⟨v3, hv3, h⟩:=zn h
   refine wb [[3],[4]] ?_
   refine wN [9] ?_
   refine wS (.fl .ro 1 (map (int .u8) v2)) [] ⟨bG.frzG 0 (mA _ _ _ _ fV rfl rfl (fY _) hv2 (congrArg (map _) (mK hv2))) (zl rfl) rfl⟩ ?_
   refine wN [10] ?_
   refine wS (.fr (.own 28) false 1 (flatten (map Row_int_u8.ienc [v2]))) [] ⟨mI _ _ _ 1 (.slice none 0 0) false _ _ underlying137 lQ DY rfl rfl (.cons (.ro _ _ rfl) (.nil)) rfl (by decide) (by decide)⟩ ?_
   refine wK [3] [8,11] ?_
   refine wt [(3,.box 137 [.any]),(12,.fr (.own 28) false 1 (flatten (map Row_int_u8.ienc v3)))] [] ⟨jx _ 12 3 0 _ _ Gn rfl rfl (zl rfl) rfl (fO Row_int_u8.ilen _) (fO Row_int_u8.ilen _) hv3 (pc (kv hv3)) (by decide) (by decide) (by decide) rfl rfl⟩ ?_
   refine wK [8,12,3] [] ?_
   refine wt [(3,.box 137 [.fr (.own 28) false 1 (flatten (map Row_int_u8.ienc v3))])] [] ⟨bG.drop [_] (bI _ _ _ _ _ _ _ _ GP rfl rfl rfl (zl rfl) rfl rfl)⟩ ?_
   refine we hn [14,3,15,14,3] ?_
   refine bF ?_
   refine aD [0,1,3,4,2] (by kernel_rfl) (es':=[(_,_),(_,_),(_,_),(_,_),(_,_)]) rfl ?_
   obtain rfl:=zi h
   exact jY 15 [14, 3] _ rfl rfl (by kernel_rfl)
  ·rintro D s7 h
   refine bF ?_
   refine aB (af ?_)
   refine vY 1 hio (es':=[(14, .glob (GL mx)), (3, .box 137 [.fr .ro false 1 (flatten (map Row_int_u8.ienc s7))])]) rfl ?_
   refine yy hn 2 [14,2] ?_
   refine aB (aS ?_)
   refine aD [1] (by kernel_rfl) (es':=[(_,_)]) rfl ?_
   obtain rfl:=zi h
   exact aW hio rfl (.tmp _ _ .nil) rfl rfl
  ·rintro D ⟨⟩ h
   cases h
theorem rv (mx:Int×Nat×Value) (b:(List Int)) (r:Int) (h:Sh.gV b=some r):iO Tryz.prog (GL mx) 87 [.fl .shr 1 (map (int .u8) b)] (.v (.int .i64 r)):=by
  unfold Sh.gV at h
  refine yG 23 func87 fun g0 hn hio => ?_
  refine bE hn 1 [0,23] ?_
  refine bE hn 1 [0,23,3] ?_
  refine af ?_
  refine bk h (fun (s27:Int)=>[(23,.glob (GL mx)),(3,vi s27)]) ?_ ?_
  ·rintro s27 h
   refine aB ?_
   refine bE hn 2 [23,2] ?_
   refine aS ?_
   refine aD [1] (by kernel_rfl) (es':=[(_,_)]) rfl ?_
   obtain rfl:=zi h
   exact aW hio rfl (.tmp _ _ .nil) rfl rfl
  ·intro u28 h hl29 hr30
   refine af ?_
   obtain ⟨v1, hv1, h⟩:=zn h
   refine yx hn 1 ?_
   refine ys 2 ⟨lg call102 (ur _ _ _ hv1) 23⟩ ?_
   refine bS [23,3,7,8,9] ?_
   refine bV h (fun ((s37,s38):Int×Int)=>[(23,.glob (GL mx)),(3,vi s37),(7,.fr .ro false 1 (flatten (map Row_int_u8.ienc v1))),(8,vi (v1.length:Int)),(9,vi s38)]) (fun (s41:Int)=>[(23,.glob (GL mx)),(3,vi s41)]) ?_ ?_
   ·rintro s41 h
    exact hl29 _ (zi h).symm
   ·rintro u42 hl43 hr44 ⟨s37, s38⟩ rr47 h ho45
    refine bE hn 1 [23,3,7,8,9,10] ?_
    refine af ?_
    refine aP _ rfl (fun hb48 => ?_) (fun hb48 => ?_)
    ·have h:=aT hb48 h
     refine ba ?_
     refine aB (af ?_)
     refine bz ?_
     refine af ?_
     obtain ⟨v3, hv3, h⟩:=zn h
     obtain ⟨v4, hv4, h⟩:=zn h
     refine yx hn 0 ?_
     refine ys 0 ⟨lI hv3⟩ ?_
     refine yS (.fl .ro 1 (map (int .u8) v4)) 1 ⟨cg _ _ _ _ _ _ _ underlying28 rfl rfl rfl (xf Row_int_u8.ilen hv4 rfl) (.fl _ _ rfl)⟩ ?_
     refine bS [23,3,7,8,9,5] ?_
     refine af ?_
     obtain ⟨v5, hv5, h⟩:=zn h
     obtain ⟨v6, hv6, h⟩:=zn h
     refine yx hn 3 ?_
     refine ys 0 ⟨lb hv5⟩ ?_
     refine ys 0 ⟨lb hv6⟩ ?_
     refine yw [3] 1 ?_
     refine bS [23,7,8,9,5,3] ?_
     refine af ?_
     obtain ⟨v7, hv7, h⟩:=zn h
     refine yx hn 1 ?_
     refine ys 1 ⟨lS hv7⟩ ?_
     refine bS [23,7,8,9,3,20] ?_
     refine aP _ rfl (fun hb49 => ?_) (fun hb49 => ?_)
     ·have h:=aT hb49 h
      refine ck ?_
      refine wu (by decide) ?_
      refine bh ?_
      refine bh ?_
      refine cj ?_
      refine aD [0,4] (by kernel_rfl) (es':=[(_,_),(_,_)]) rfl ?_
      exact hl43 _ (ho45 _ (zi h).symm).symm
     ·have h:=aV hb49 h
      refine ba ?_
      refine bF ?_
      refine aB ?_
      obtain ⟨v9, hv9, h⟩:=zn h
      refine yx hn 0 ?_
      refine ys 0 ⟨lb hv9⟩ ?_
      refine yw [9] 1 ?_
      refine ye [23,7,8,3,9] ?_
      refine aD [0,3,1,2,4] (by kernel_rfl) (es':=[(_,_),(_,_),(_,_),(_,_),(_,_)]) rfl ?_
      exact ci _ (zi h).symm rfl
    ·have h:=aV hb48 h
     refine ck ?_
     refine bh ?_
     refine bh ?_
     refine cj ?_
     refine aD [0,1] (by kernel_rfl) (es':=[(_,_),(_,_)]) rfl ?_
     exact hl43 _ (ho45 _ (zi h).symm).symm
theorem fT (s:aa) (r:aa) (h:Sh.eC s=some r):pM Tryz.prog 88 [.box 80 (aa.b s)] [.box 80 (aa.b r)] (.tup []):=by
  unfold Sh.eC at h
  refine yP 15 func88 fun args0 hargs0 g0 hn hio => ?_
  refine yx hn 3 ?_
  refine yS (.agg [vb false,vs z0,vs z0]) 12 ⟨cp _ _ _ _ [1,1,1] _ _ underlying26 tP (Ct _ underlying26) ni.nil rfl rfl rfl⟩ ?_
  refine ye [0,0] ?_
  refine dm (fs:=[(0,.box 80 (vi s.Gate.Phase::vs s.Gate.Helo::vb false::vs z0::vs z0::.fl (.own 26) 3 (flatten (map aF.enc []))::vb false::.mkr 5 (map (int .u8) s.Gate.Buf)::vs s.Gate.Challenge::vb s.Gate.Proved::bq.c s.config [vi s.site,vi s.at_,.fr (.own 55) false 12 (flatten (map bi.ienc s.out))])),(0,.v (List.getD args0 0 undef))]) (.box _ _ (ai (aM _) (ai (aM _) (ai (aM _) (ai (aM _) (ai (aM _) (ai (cy 26 3) (ai (aM _) (ai (aM _) (ai (aM _) (ai (aM _) (ai (aM _) (ai (aM _) (ai (aM _) (ai (aM _) (ai (aM _) (ai (aM _) (ai (aM _) (ai (aM _) (ai (aM _) (ai (aM _) (cl))))))))))))))))))))) rfl (.same _ .nil)) ?_
  obtain rfl:=zi h
  exact lw (es:=[]) (posts:=[.box 80 [.v (.int .i64 s.Gate.Phase),.v (.string s.Gate.Helo),.v (.bool false),.v (.string (⟨#[]⟩:ByteArray)),.v (.string (⟨#[]⟩:ByteArray)),.fl (.own 26) 3 (flatten (map aF.enc [])),.v (.bool false),.mkr 5 (map (int .u8) s.Gate.Buf),.v (.string s.Gate.Challenge),.v (.bool s.Gate.Proved),.v (.string ((s.config.Domains.getD 0 (⟨#[]⟩:ByteArray)))),.v (.string ((s.config.Domains.getD 1 (⟨#[]⟩:ByteArray)))),.v (.int .i64 s.config.Expiry),.v (.string s.config.User),.v (.string s.config.Secret),.v (.int .i64 s.config.Log),.v (.bool s.config.Held),.v (.int .i64 s.site),.v (.int .i64 s.at_),.fr (.own 55) false 12 (flatten (map bi.ienc s.out))]]) hio rfl rfl .nil rfl rfl hargs0 rfl
theorem nW (mx:Int×Nat×Value) (s:aa) (r:(Bool×aa)) (h:Sh.el s=some r):oi Tryz.prog (GL mx) 73 [.box 80 (aa.b s)] [.box 80 (aa.b r.2)] (.v (.bool r.1)):=by
  unfold Sh.el at h
  refine Dh 60 func73 fun args0 hargs0 g0 hn hio => ?_
  refine bE hn 1 [0,60,0] ?_
  refine af ?_
  obtain ⟨v1, hv1, h⟩:=zn h
  refine yx hn 5 ?_
  refine ys 0 ⟨lg call84 (uv _ _ _ hv1) 60⟩ ?_
  refine ym 0 ?_
  refine GV 2 ?_
  refine ya 2 ?_
  refine bS [0,60,3,4,5,0] ?_
  refine af ?_
  refine bE hn 2 [0,60,3,4,5,18,0] ?_
  refine aP _ rfl (fun hb2 => ?_) (fun hb2 => ?_)
  ·have h:=aT hb2 h
   refine bE hn 1 [0,60,2,0] ?_
   refine aS ?_
   refine aD [2,0,3] (by kernel_rfl) (es':=[(_,_),(_,_),(_,_)]) rfl ?_
   refine aO ?_
   obtain rfl:=zi h
   exact cq (es:=[(2, .v (.bool false))]) (posts:=[.box 80 (aa.b s)]) hio rfl rfl (.tmp _ _ .nil) rfl rfl hargs0 rfl
  ·have h:=aV hb2 h
   refine ba ?_
   refine aB (af ?_)
   obtain ⟨v3, hv3, h⟩:=zn h
   refine yx hn 1 ?_
   refine yQ call85 (fC _ _ _ hv3) 0 [19] 0 ?_
   refine yk [20] [] ?_
   refine yt (21,.agg [vi v3.1.Code,.fl (.own 9) 1 (map Value.string v3.1.Lines),vb false,vb false,vs z0,vs z0,vz,vz,vb false,vs z0,vi 0,vb false]) 0 ⟨cp _ _ _ _ [2,1,8,1] _ _ underlying55 ul (CF _ underlying55) (.take _ _ ni.nil) rfl rfl rfl⟩ ?_
   refine yS (.box 55 [vi 0,vz,vb false,vb false,vs z0,vs z0,vz,vz,vb false,vs z0,vi 0,vb false]) 0 ⟨oA (bR _ _ ul)⟩ ?_
   refine yk [21,6] [] ?_
   refine yt (6,.box 55 [vi v3.1.Code,.fl (.own 9) 1 (map Value.string v3.1.Lines),vb false,vb false,vs z0,vs z0,vz,vz,vb false,vs z0,vi 0,vb false]) 0 ⟨bI _ _ _ _ _ _ _ _ xu rfl rfl rfl (zl rfl) rfl rfl⟩ ?_
   refine bS [0,60,3,4,5,6,0] ?_
   refine af ?_
   refine bk h (fun ((s7,s8,s9,s10,s11,s12,s13,s14,s15,s16,s17,s18,s19,s20,s21,s22,s23,s24,s25,s26,s27,s28,s29,s30,s31,s32,s33,s34,s35,s36,s37,s38,s39):Int×ByteArray×Bool×ByteArray×ByteArray×(List aF)×Bool×(List Int)×ByteArray×Bool×ByteArray×ByteArray×Int×ByteArray×ByteArray×Int×Bool×Int×Int×(List bi)×Int×Int×(List ByteArray)×Bool×Bool×ByteArray×ByteArray×(List aF)×(List Int)×Bool×ByteArray×Int×Bool)=>[(0,.box 80 [vi s7,vs s8,vb s9,vs s10,vs s11,.fl (.own 26) 3 (flatten (map aF.enc s12)),vb s13,.mkr 5 (map (int .u8) s14),vs s15,vb s16,vs s17,vs s18,vi s19,vs s20,vs s21,vi s22,vb s23,vi s24,vi s25,.fr (.own 55) false 12 (flatten (map bi.ienc s26))]),(60,.glob (GL mx)),(4,vi s27),(6,.box 55 [vi s28,.fl .ro 1 (map Value.string s29),vb s30,vb s31,vs s32,vs s33,.fl .ro 3 (flatten (map aF.enc s34)),.fl .ro 1 (map (int .u8) s35),vb s36,vs s37,vi s38,vb s39]),(0,.v (List.getD args0 0 undef))]) ?_ ?_
   ·rintro ⟨s7, s8, s9, s10, s11, s12, s13, s14, s15, s16, s17, s18, s19, s20, s21, s22, s23, s24, s25, s26, s27, s28, s29, s30, s31, s32, s33, s34, s35, s36, s37, s38, s39⟩ h
    refine aB (af ?_)
    obtain ⟨v44, hv44, h⟩:=zn h
    refine wb [[],[],[34,0],[35,0],[36,0],[6]] ?_
    refine wN [38] ?_
    refine wS (.fr (.own 55) false 12 (flatten (map bi.ienc [(bi.mk (dB.mk s28 s29) s30 ((bT.mk (aF.mk s31 s32 s33) s34 s35 s36 s37 s38)) s39)]))) [] ⟨mI _ _ _ 12 (.agg #[.int .i64 0,.slice none 0 0,.bool false,.bool false,.string ByteArray.empty,.string ByteArray.empty,.slice none 0 0,.slice none 0 0,.bool false,.string ByteArray.empty,.int .i64 0,.bool false]) false _ _ underlying34 xu ul rfl rfl (.cons (.v _) (.cons (.ro _ _ rfl) (.cons (.v _) (.cons (.v _) (.cons (.v _) (.cons (.v _) (.cons (.ro _ _ rfl) (.cons (.ro _ _ rfl) (.cons (.v _) (.cons (.v _) (.cons (.v _) (.cons (.v _) (.nil))))))))))))) rfl (by decide) (by decide)⟩ ?_
    refine wK [0] [37,39] ?_
    refine wt [(0,.box 80 [vi s7,vs s8,vb s9,vs s10,vs s11,.fl (.own 26) 3 (flatten (map aF.enc s12)),vb s13,.mkr 5 (map (int .u8) s14),vs s15,vb s16,vs s17,vs s18,vi s19,vs s20,vs s21,vi s22,vb s23,vi s24,vi s25,.any]),(40,.fr (.own 55) false 12 (flatten (map bi.ienc v44)))] [[33,0],[41,0]] ⟨jx _ 40 0 19 _ _ Fo rfl rfl (zl rfl) rfl (fO bi.ilen _) (fO bi.ilen _) hv44 (pc (kv hv44)) (by decide) (by decide) (by decide) rfl rfl⟩ ?_
    refine wK [37,40,0] [42] ?_
    refine wt [(0,.box 80 [vi s7,vs s8,vb s9,vs s10,vs s11,.fl (.own 26) 3 (flatten (map aF.enc s12)),vb s13,.mkr 5 (map (int .u8) s14),vs s15,vb s16,vs s17,vs s18,vi s19,vs s20,vs s21,vi s22,vb s23,vi s24,vi s25,.fr (.own 55) false 12 (flatten (map bi.ienc v44))])] [] ⟨bG.drop [_] (bI _ _ _ _ _ _ _ _ FT rfl rfl rfl (zl rfl) rfl rfl)⟩ ?_
    refine vJ hn [0,60,4,0] ?_
    refine af ?_
    obtain ⟨v45, hv45, h⟩:=zn h
    refine yx hn 7 ?_
    refine yk [0] [48,49] ?_
    refine np (0,.box 80 [vi s7,vs s8,vb s9,vs s10,vs s11,.fl (.own 26) 3 (flatten (map aF.enc s12)),vb s13,.any,vs s15,vb s16,vs s17,vs s18,vi s19,vs s20,vs s21,vi s22,vb s23,vi s24,vi s25,.fr (.own 55) false 12 (flatten (map bi.ienc v44))]) (50,.mkr 5 (map (int .u8) v45)) 3 ⟨uj _ 50 0 7 _ _ underlying28 kI rfl rfl (zl rfl) rfl rfl hv45 rfl (Nat.ne_of_beq_eq_false rfl) rfl rfl⟩ ?_
    refine yw [48] 0 ?_
    refine yk [50,0] [53] ?_
    refine yt (0,.box 80 [vi s7,vs s8,vb s9,vs s10,vs s11,.fl (.own 26) 3 (flatten (map aF.enc s12)),vb s13,.mkr 5 (map (int .u8) v45),vs s15,vb s16,vs s17,vs s18,vi s19,vs s20,vs s21,vi s22,vb s23,vi s24,vi s25,.fr (.own 55) false 12 (flatten (map bi.ienc v44))]) 0 ⟨bI _ _ _ _ _ _ _ _ lQ rfl rfl rfl (zl rfl) rfl rfl⟩ ?_
    refine bS [0,60,0] ?_
    refine bE hn 5 [0,60,0] ?_
    refine af ?_
    obtain ⟨v46, hv46, h⟩:=zn h
    refine yx hn 1 ?_
    refine yQ call88 (fT _ _ hv46) 0 [58] 0 ?_
    refine bS [0,60,0] ?_
    refine bE hn 1 [0,60,2,0] ?_
    refine aS ?_
    refine aD [2,0,3] (by kernel_rfl) (es':=[(_,_),(_,_),(_,_)]) rfl ?_
    obtain rfl:=zi h
    exact cq (es:=[(2, .v (.bool true))]) (posts:=[.box 80 (aa.b v46)]) hio rfl rfl (.tmp _ _ .nil) rfl rfl hargs0 rfl
   ·intro u40 h hl41 hr42
    refine bE hn 2 [0,60,3,4,6,23,0] ?_
    refine aP _ rfl (fun hb43 => ?_) (fun hb43 => ?_)
    ·have h:=aT hb43 h
     refine zK 2 hio (es':=[(0, .box 80 (aa.b v3.2)), (60, .glob (GL mx)), (3, .fl .ro 1 (map (int .u8) v1.1)), (4, .v (.int .i64 v1.2.1)), (6, .box 55 [.v (.int .i64 v3.1.Code),.fl (.own 9) 1 (map Value.string v3.1.Lines),.v (.bool false),.v (.bool false),.v (.string (⟨#[]⟩:ByteArray)),.v (.string (⟨#[]⟩:ByteArray)),vz,vz,.v (.bool false),.v (.string (⟨#[]⟩:ByteArray)),.v (.int .i64 0),.v (.bool false)]), (23, .v (.bool (v1.2.2==0))), (0, .v (List.getD args0 0 undef))]) rfl ?_
     obtain ⟨v5, hv5, h⟩:=zn h
     refine yx hn 2 ?_
     refine yk [0] [24,25,60] ?_
     refine np (0,.box 80 (aa.b v5.2)) (26,.agg [vi v5.1.Reply.Code,.fl .ro 1 (map Value.string v5.1.Reply.Lines),vb v5.1.Has,vb v5.1.Mail.From.Null,vs v5.1.Mail.From.Local,vs v5.1.Mail.From.Domain,.fl .ro 3 (flatten (map aF.enc v5.1.Mail.To)),.fl .ro 1 (map (int .u8) v5.1.Mail.Body),vb v5.1.Mail.Quiet,vs v5.1.Mail.Helo,vi v5.1.Mail.At,vb v5.1.Ask]) 1 ⟨fE _ _ _ _ 26 60 86 [.tmp 24] [.tmp 25] _ _ _ rfl call86 rfl rfl rfl rfl (fun _ h=>h) (na mx ((aa.r v3.2)) v1.1 _ hv5) (zl rfl) rfl rfl rfl rfl rfl rfl rfl⟩ ?_
     refine ye [0,60,4,6,0] ?_
     exact hl41 _ (zi h).symm
    ·have h:=aV hb43 h
     obtain ⟨v6, hv6, h⟩:=zn h
     refine yx hn 5 ?_
     refine ys 0 ⟨lg call87 (rv _ _ _ hv6) 60⟩ ?_
     refine yw [4] 1 ?_
     refine ye [0,60,6,4,0] ?_
     refine aD [0,1,3,2,4] (by kernel_rfl) (es':=[(_,_),(_,_),(_,_),(_,_),(_,_)]) rfl ?_
     refine sJ 3 hio (es':=[(0, .box 80 (aa.b v3.2)), (60, .glob (GL mx)), (4, .v (.int .i64 v6)), (6, .box 55 [.v (.int .i64 v3.1.Code),.fl .ro 1 (map Value.string v3.1.Lines),.v (.bool false),.v (.bool false),.v (.string (⟨#[]⟩:ByteArray)),.v (.string (⟨#[]⟩:ByteArray)),vz,vz,.v (.bool false),.v (.string (⟨#[]⟩:ByteArray)),.v (.int .i64 0),.v (.bool false)]), (0, .v (List.getD args0 0 undef))]) rfl ?_
     refine dm (fs:=[(0,.box 80 (aa.b v3.2)),(60,.glob (GL mx)),(4,vi v6),(6,.box 55 [vi v3.1.Code,.fl .ro 1 (map Value.string v3.1.Lines),vb false,vb false,vs z0,vs z0,.fl .ro 3 (flatten (map aF.enc [])),.fl .ro 1 (map (int .u8) []),vb false,vs z0,vi 0,vb false]),(0,.v (List.getD args0 0 undef))]) (.same _ (.same _ (.same _ (.box _ _ (ai (aM _) (ai (aM _) (ai (aM _) (ai (aM _) (ai (aM _) (ai (aM _) (ai (tX 3) (ai (tX 1) (ai (aM _) (ai (aM _) (ai (aM _) (ai (aM _) (cl))))))))))))) rfl (.same _ .nil))))) ?_
     exact hl41 _ (zi h).symm
theorem tR (i:Int) (q:Int) (p_r:Int) (t:Int) (r:(Int×Int)) (h:Sh.om i q p_r t=some r):cU Tryz.prog 219 [.v (.int .i64 i), .v (.int .u32 q), .v (.int .u32 p_r), .v (.int .u32 t)] (.tup [.v (.int .u32 r.1), .v (.int .i64 r.2)]):=by
  unfold Sh.om at h
  refine yO 56 func219 fun g0 hn hio => ?_
  refine bE hn 2 [0,1,2,3] ?_
  refine af ?_
  refine af ?_
  obtain ⟨v1, hv1, h⟩:=zn h
  refine yx hn 1 ?_
  refine ys 0 ⟨lB (sV hv1)⟩ ?_
  refine bS [0,1,2,3,11] ?_
  refine bz ?_
  refine bE hn 2 [0,1,2,3,11,12] ?_
  refine aP _ rfl (fun hb2 => ?_) (fun hb2 => ?_)
  ·have h:=aT hb2 h
   refine af ?_
   obtain ⟨v3, hv3, h⟩:=zn h
   obtain ⟨v4, hv4, h⟩:=zn h
   obtain ⟨v5, hv5, h⟩:=zn h
   obtain ⟨v6, hv6, h⟩:=zn h
   refine yx hn 2 ?_
   refine ys 1 ⟨lb hv3⟩ ?_
   refine yS (.v (.int .u32 v4)) 1 ⟨Cw _ _ _ _ rfl (EQ (f:=int .u32) (Option.some.inj hv4))⟩ ?_
   refine ys 0 ⟨lb hv5⟩ ?_
   refine ys 3 ⟨lb hv6⟩ ?_
   refine bS [8,9] ?_
   refine aS ?_
   refine bA ?_
   refine aO ?_
   obtain rfl:=zi h
   exact aW hio rfl (.tmp _ _ (.tmp _ _ .nil)) rfl rfl
  ·have h:=aV hb2 h
   refine bE hn 2 [0,1,2,3,11,23] ?_
   refine aP _ rfl (fun hb7 => ?_) (fun hb7 => ?_)
   ·have h:=aT hb7 h
    refine af ?_
    obtain ⟨v8, hv8, h⟩:=zn h
    obtain ⟨v9, hv9, h⟩:=zn h
    obtain ⟨v10, hv10, h⟩:=zn h
    obtain ⟨v11, hv11, h⟩:=zn h
    obtain ⟨v12, hv12, h⟩:=zn h
    obtain ⟨v13, hv13, h⟩:=zn h
    refine yx hn 2 ?_
    refine ys 2 ⟨lb hv8⟩ ?_
    refine ys 0 ⟨lb hv9⟩ ?_
    refine ys 1 ⟨lb hv10⟩ ?_
    refine ys 0 ⟨lb hv11⟩ ?_
    refine ys 0 ⟨lb hv12⟩ ?_
    refine ys 2 ⟨lB (mX hv13)⟩ ?_
    refine bS [8,9] ?_
    refine aS ?_
    refine bA ?_
    refine aO ?_
    obtain rfl:=zi h
    exact aW hio rfl (.tmp _ _ (.tmp _ _ .nil)) rfl rfl
   ·have h:=aV hb7 h
    refine bE hn 2 [0,1,2,3,36] ?_
    refine aP _ rfl (fun hb14 => ?_) (fun hb14 => ?_)
    ·have h:=aT hb14 h
     refine af ?_
     obtain ⟨v15, hv15, h⟩:=zn h
     obtain ⟨v16, hv16, h⟩:=zn h
     obtain ⟨v17, hv17, h⟩:=zn h
     obtain ⟨v18, hv18, h⟩:=zn h
     obtain ⟨v19, hv19, h⟩:=zn h
     refine yx hn 2 ?_
     refine ys 1 ⟨lb hv15⟩ ?_
     refine ys 1 ⟨lb hv16⟩ ?_
     refine ys 0 ⟨lb hv17⟩ ?_
     refine ys 0 ⟨lb hv18⟩ ?_
     refine ys 2 ⟨lB (mX hv19)⟩ ?_
     refine bS [8,9] ?_
     refine aS ?_
     refine bA ?_
     refine aO ?_
     obtain rfl:=zi h
     exact aW hio rfl (.tmp _ _ (.tmp _ _ .nil)) rfl rfl
    ·have h:=aV hb14 h
     refine ba ?_
     refine bF ?_
     refine aB (af ?_)
     obtain ⟨v20, hv20, h⟩:=zn h
     obtain ⟨v21, hv21, h⟩:=zn h
     obtain ⟨v22, hv22, h⟩:=zn h
     obtain ⟨v23, hv23, h⟩:=zn h
     obtain ⟨v24, hv24, h⟩:=zn h
     refine yx hn 3 ?_
     refine yS (.v (.int .u32 v20)) 0 ⟨Cw _ _ _ _ rfl (EQ (f:=int .u32) (Option.some.inj hv20))⟩ ?_
     refine ys 0 ⟨lb hv21⟩ ?_
     refine ys 1 ⟨lb hv22⟩ ?_
     refine ys 0 ⟨lb hv23⟩ ?_
     refine ys 2 ⟨lB (mX hv24)⟩ ?_
     refine bS [8,9] ?_
     refine aS ?_
     obtain rfl:=zi h
     exact aW hio rfl (.tmp _ _ (.tmp _ _ .nil)) rfl rfl
end Go.Proofs.YtjnnkhmhjcjhdaaGreatDoor
