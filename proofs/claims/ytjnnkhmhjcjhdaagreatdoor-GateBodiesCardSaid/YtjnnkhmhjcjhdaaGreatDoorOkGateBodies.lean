/-
  The model's runs are what is told in Lean.
-/
import Derived.Test.YtjnnkhmhjcjhdaaGreatDoorProg
import Derived.KernelRfl
import Derived.Test.YtjnnkhmhjcjhdaaGreatDoorShelf
import Derived.Test.YtjnnkhmhjcjhdaaGreatDoorIdx
import Derived.Test.YtjnnkhmhjcjhdaaGreatDoorB3
import Derived.Test.YtjnnkhmhjcjhdaaGreatDoorC1
import Derived.Test.YtjnnkhmhjcjhdaaGreatDoorBC
import Derived.Test.YtjnnkhmhjcjhdaaGreatDoorOkc9
set_option linter.unusedVariables false
set_option linter.unusedSimpArgs false
set_option maxHeartbeats 1000000
namespace Go.Proofs.YtjnnkhmhjcjhdaaGreatDoor
open Go.Abs Go.Abs.Sh Tryz
open List (map flatten)
open Value (int)

theorem lu (mx:Int×Nat×Value) (a:(List Int)) (b:(List Int)) (bare:Int) (r:Bool) (h:Sh.ez a b bare=some r):iO Tryz.prog (GL mx) 10 [.fl .shr 1 (map (int .u8) a), .fl .shr 1 (map (int .u8) b), .v (.int .u8 bare)] (.v (.bool r)):=by
  unfold Sh.ez at h
  refine yG 125 func10 fun g0 hn hio => ?_
  refine bE hn 1 [0,1,2,125] ?_
  refine af ?_
  refine af ?_
  refine bk h (fun (s58:Bool)=>[(0,fb a),(1,fb b),(2,.v (.int .u8 bare)),(125,.glob (GL mx)),(28,vb s58)]) ?_ ?_
  ·rintro s58 h
   refine aB ?_
   refine aP _ rfl (fun hb62 => ?_) (fun hb62 => ?_)
   ·have h:=aT hb62 h
    refine bE hn 1 [125,6] ?_
    refine aS ?_
    refine aD [1] (by kernel_rfl) (es':=[(_,_)]) rfl ?_
    refine aO ?_
    obtain rfl:=zi h
    exact aW hio rfl (.tmp _ _ .nil) rfl rfl
   ·have h:=aV hb62 h
    refine ba ?_
    refine aB (af ?_)
    refine bE hn 1 [0,1,2,125,7] ?_
    refine bV h (fun (s76:Int)=>[(0,fb a),(1,fb b),(2,.v (.int .u8 bare)),(125,.glob (GL mx)),(7,vi s76)]) (fun (():Unit)=>[(0,fb a),(1,fb b),(2,.v (.int .u8 bare)),(125,.glob (GL mx))]) ?_ ?_
    ·rintro ⟨⟩ h
     refine aB ?_
     refine bE hn 1 [0,1,2,125,8] ?_
     refine af ?_
     refine bk h (fun (s96:Int)=>[(0,fb a),(1,fb b),(125,.glob (GL mx)),(8,.v (.int .u8 s96))]) ?_ ?_
     ·rintro s96 h
      refine aB ?_
      refine gP hn 0 ?_
      refine yS (.fl (.own 5) 1 (map (int .u8) [69,72,76,79,32,104,13,10,77,65,73,76,32,70,82,79,77,58,60,62,13,10,82,67,80,84,32,84,79,58,60,114,64,98,62,13,10,68,65,84,65,13,10])) 0 ⟨bM _ _ 1 (.int .u8 0) (map (int .u8) [69,72,76,79,32,104,13,10,77,65,73,76,32,70,82,79,77,58,60,62,13,10,82,67,80,84,32,84,79,58,60,114,64,98,62,13,10,68,65,84,65,13,10]) [(0,.int .u8 69),(1,.int .u8 72),(2,.int .u8 76),(3,.int .u8 79),(4,.int .u8 32),(5,.int .u8 104),(6,.int .u8 13),(7,.int .u8 10),(8,.int .u8 77),(9,.int .u8 65),(10,.int .u8 73),(11,.int .u8 76),(12,.int .u8 32),(13,.int .u8 70),(14,.int .u8 82),(15,.int .u8 79),(16,.int .u8 77),(17,.int .u8 58),(18,.int .u8 60),(19,.int .u8 62),(20,.int .u8 13),(21,.int .u8 10),(22,.int .u8 82),(23,.int .u8 67),(24,.int .u8 80),(25,.int .u8 84),(26,.int .u8 32),(27,.int .u8 84),(28,.int .u8 79),(29,.int .u8 58),(30,.int .u8 60),(31,.int .u8 114),(32,.int .u8 64),(33,.int .u8 98),(34,.int .u8 62),(35,.int .u8 13),(36,.int .u8 10),(37,.int .u8 68),(38,.int .u8 65),(39,.int .u8 84),(40,.int .u8 65),(41,.int .u8 13),(42,.int .u8 10)] underlying28 kI qV (fun _ V w o a hv hes=>by simp only [List.map_toArray,List.map_cons,List.map_nil]; try rfl) (cR (by simp [Instr.fill,Value.cells]; rfl) (by simp [List.range,List.range.loop] <;> rfl)) (by simp [Value.oneCell']) rfl (by decide) (by decide) (by decide)⟩ ?_
      refine yk [50] [] ?_
      refine yt (51,.mkr 5 (map (int .u8) [69,72,76,79,32,104,13,10,77,65,73,76,32,70,82,79,77,58,60,62,13,10,82,67,80,84,32,84,79,58,60,114,64,98,62,13,10,68,65,84,65,13,10])) 0 ⟨yM _ _ _ underlying28 underlying5 (by intro h; cases h)⟩ ?_
      refine ya 0 ?_
      refine bS [0,1,125,8,9] ?_
      refine af ?_
      obtain ⟨v51, hv51, h⟩:=zn h
      obtain ⟨v52, hv52, h⟩:=zn h
      refine yx hn 1 ?_
      refine ys 1 ⟨lk call33 (pK _ _ hv51)⟩ ?_
      refine yS (.fl (.own 5) 1 (map (int .u8) [120,s96])) 0 ⟨bM _ _ 1 (.int .u8 0) (map (int .u8) [120,s96]) [(0,.int .u8 120),(1,.int .u8 s96)] underlying28 kI qV (fun _ V w o a hv hes=>by have e1:=cN hv hes (x := .tmp 54) rfl; simp only [List.map_toArray,List.map_cons,List.map_nil,e1]; try rfl) (cR (by simp [Instr.fill,Value.cells]; rfl) (by simp [List.range,List.range.loop] <;> rfl)) (by simp [Value.oneCell']) rfl (by decide) (by decide) (by decide)⟩ ?_
      refine yp fV hv52 0 ?_
      refine ya 0 ?_
      refine bS [1,125,9,10] ?_
      refine af ?_
      obtain ⟨v53, hv53, h⟩:=zn h
      obtain ⟨v54, hv54, h⟩:=zn h
      refine yx hn 0 ?_
      refine ym 0 ?_
      refine yS (.fl (.own 5) 1 (map (int .u8) [121])) 0 ⟨bM _ _ 1 (.int .u8 0) (map (int .u8) [121]) [(0,.int .u8 121)] underlying28 kI qV (fun _ V w o a hv hes=>by simp only [List.map_toArray,List.map_cons,List.map_nil]; try rfl) (cR (by simp [Instr.fill,Value.cells]; rfl) (by simp [List.range,List.range.loop] <;> rfl)) (by simp [Value.oneCell']) rfl (by decide) (by decide) (by decide)⟩ ?_
      refine yp fV hv53 1 ?_
      refine yp fV hv54 0 ?_
      refine ya 0 ?_
      refine bS [125,9,10] ?_
      refine af ?_
      obtain ⟨v55, hv55, h⟩:=zn h
      refine yx hn 0 ?_
      refine ym 0 ?_
      refine yS (.fl (.own 5) 1 (map (int .u8) [13,10])) 0 ⟨bM _ _ 1 (.int .u8 0) (map (int .u8) [13,10]) [(0,.int .u8 13),(1,.int .u8 10)] underlying28 kI qV (fun _ V w o a hv hes=>by simp only [List.map_toArray,List.map_cons,List.map_nil]; try rfl) (cR (by simp [Instr.fill,Value.cells]; rfl) (by simp [List.range,List.range.loop] <;> rfl)) (by simp [Value.oneCell']) rfl (by decide) (by decide) (by decide)⟩ ?_
      refine yp fV hv55 0 ?_
      refine ya 0 ?_
      refine bS [125,9,10] ?_
      refine af ?_
      obtain ⟨v56, hv56, h⟩:=zn h
      refine yx hn 0 ?_
      refine yS (.fl (.own 5) 1 (map (int .u8) v56)) 0 ⟨sE _ _ 21 _ _ rfl call21 rfl ((oD [] _ hv56).args (ai (rZ 1) (cl))) rfl rfl⟩ ?_
      refine ya 0 ?_
      refine bS [125,9,10,11] ?_
      refine af ?_
      obtain ⟨v57, hv57, h⟩:=zn h
      obtain ⟨v101, hv101, h⟩:=zn h
      obtain ⟨v102, hv102, h⟩:=zn h
      refine yx hn 0 ?_
      refine ym 0 ?_
      refine ym 0 ?_
      refine ys 0 ⟨lk call34 (mV _ _ hv57)⟩ ?_
      refine yk [66] [68] ?_
      refine np (66,.any) (69,.mkr 5 (map (int .u8) v101)) 0 ⟨pk _ _ _ _ _ fV rfl rfl rfl rfl hv101 rfl⟩ ?_
      refine ym 0 ?_
      refine yk [69] [70] ?_
      refine np (69,.any) (71,.mkr 5 (map (int .u8) v102)) 0 ⟨pk _ _ _ _ _ fV rfl rfl rfl rfl hv102 rfl⟩ ?_
      refine ya 0 ?_
      refine bS [125,12] ?_
      refine af ?_
      obtain ⟨v103, hv103, h⟩:=zn h
      obtain ⟨v104, hv104, h⟩:=zn h
      obtain ⟨v105, hv105, h⟩:=zn h
      obtain ⟨v106, hv106, h⟩:=zn h
      refine yx hn 0 ?_
      refine ys 0 ⟨lk call20 (gO _ hv103)⟩ ?_
      refine ys 0 ⟨lk call22 (rN _ _ hv104)⟩ ?_
      refine ym 0 ?_
      refine yk [75] [] ?_
      refine np (75,.any) (76,.mkr 5 (map (int .u8) v105)) 0 ⟨xQ _ _ _ _ _ fV underlying9 rfl rfl rfl hv105 rfl⟩ ?_
      refine ys 0 ⟨lg call13 (qK _ _ _ _ _ _ _ hv106) 125⟩ ?_
      refine ym 0 ?_
      refine yS (.agg [vi v106.1.Phase,vs v106.1.Helo,vb v106.1.From.Null,vs v106.1.From.Local,vs v106.1.From.Domain,.fl .ro 3 (flatten (map aF.enc v106.1.To)),vb v106.1.Quiet,.fl .ro 1 (map (int .u8) v106.1.Buf),vs v106.1.Challenge,vb v106.1.Proved]) 2 ⟨fP _ _ _ _ _ _ rfl rfl (zl rfl) rfl rfl⟩ ?_
      refine yS (.box 30 [vi 0,vs z0,vb false,vs z0,vs z0,vz,vb false,vz,vs z0,vb false]) 3 ⟨oA (bR _ _ xh)⟩ ?_
      refine bS [125,13,14,15] ?_
      refine af ?_
      refine bk h (fun (s114:Bool)=>[(125,.glob (GL mx)),(6,vb s114)]) ?_ ?_
      ·rintro s114 h
       refine aB (aS ?_)
       refine aD [1] (by kernel_rfl) (es':=[(_,_)]) rfl ?_
       obtain rfl:=zi h
       exact aW hio rfl (.tmp _ _ .nil) rfl rfl
      ·intro u115 h hl116 hr117
       refine aR h (fun hg18_2 h => ?_) (fun hg18_2 h => ?_)
       ·refine aR h (fun hg18_7 h => ?_) (fun hg18_7 h => ?_)
        ·obtain ⟨v107, hv107, h⟩:=zn h
         obtain ⟨v108, hv108, h⟩:=zn h
         refine aR h (fun hg18_15 h => ?_) (fun hg18_15 h => ?_)
         ·obtain ⟨v109, hv109, h⟩:=zn h
          obtain ⟨v110, hv110, h⟩:=zn h
          refine aR h (fun hg18_22 h => ?_) (fun hg18_22 h => ?_)
          ·obtain ⟨v111, hv111, h⟩:=zn h
           obtain ⟨v112, hv112, h⟩:=zn h
           refine aR h (fun hg18_30 h => ?_) (fun hg18_30 h => ?_)
           ·refine aR h (fun hg18_35 h => ?_) (fun hg18_35 h => ?_)
            ·refine aR h (fun hg18_41 h => ?_) (fun hg18_41 h => ?_)
             ·obtain ⟨v113, hv113, h⟩:=zn h
              refine yx hn 3 ?_
              refine yd hg18_2 5 ?_
              refine yd hg18_7 1 ?_
              refine ys 2 ⟨lI hv107⟩ ?_
              refine yS (vi v108.Reply.Code) 3 ⟨cg _ _ _ _ _ _ _ underlying3 rfl rfl rfl (cf (j:=0) bi.ilen hv108 rfl) (.v _)⟩ ?_
              refine yd hg18_15 1 ?_
              refine ys 1 ⟨lI hv109⟩ ?_
              refine yS (vb v110.Has) 3 ⟨cg _ _ _ _ _ _ _ underlying4 rfl rfl rfl (cf bi.ilen hv110 rfl) (.v _)⟩ ?_
              refine yd hg18_22 1 ?_
              refine ys 2 ⟨lI hv111⟩ ?_
              refine yS (vi v112.Reply.Code) 3 ⟨cg _ _ _ _ _ _ _ underlying3 rfl rfl rfl (cf (j:=0) bi.ilen hv112 rfl) (.v _)⟩ ?_
              refine yd hg18_30 5 ?_
              refine yd hg18_35 6 ?_
              refine yd hg18_41 0 ?_
              refine ys 2 ⟨lg call14 (ov _ _ hv113) 125⟩ ?_
              refine ye [125,6] ?_
              exact hl116 _ (zi h).symm
             ·refine yx hn 3 ?_
              refine yd hg18_2 5 ?_
              refine yd hg18_7 1 ?_
              refine ys 2 ⟨lI hv107⟩ ?_
              refine yS (vi v108.Reply.Code) 3 ⟨cg _ _ _ _ _ _ _ underlying3 rfl rfl rfl (cf (j:=0) bi.ilen hv108 rfl) (.v _)⟩ ?_
              refine yd hg18_15 1 ?_
              refine ys 1 ⟨lI hv109⟩ ?_
              refine yS (vb v110.Has) 3 ⟨cg _ _ _ _ _ _ _ underlying4 rfl rfl rfl (cf bi.ilen hv110 rfl) (.v _)⟩ ?_
              refine yd hg18_22 1 ?_
              refine ys 2 ⟨lI hv111⟩ ?_
              refine yS (vi v112.Reply.Code) 3 ⟨cg _ _ _ _ _ _ _ underlying3 rfl rfl rfl (cf (j:=0) bi.ilen hv112 rfl) (.v _)⟩ ?_
              refine yd hg18_30 5 ?_
              refine yd hg18_35 6 ?_
              refine yd hg18_41 3 ?_
              refine ye [125,6] ?_
              exact hl116 _ (zi h).symm
            ·refine yx hn 3 ?_
             refine yd hg18_2 5 ?_
             refine yd hg18_7 1 ?_
             refine ys 2 ⟨lI hv107⟩ ?_
             refine yS (vi v108.Reply.Code) 3 ⟨cg _ _ _ _ _ _ _ underlying3 rfl rfl rfl (cf (j:=0) bi.ilen hv108 rfl) (.v _)⟩ ?_
             refine yd hg18_15 1 ?_
             refine ys 1 ⟨lI hv109⟩ ?_
             refine yS (vb v110.Has) 3 ⟨cg _ _ _ _ _ _ _ underlying4 rfl rfl rfl (cf bi.ilen hv110 rfl) (.v _)⟩ ?_
             refine yd hg18_22 1 ?_
             refine ys 2 ⟨lI hv111⟩ ?_
             refine yS (vi v112.Reply.Code) 3 ⟨cg _ _ _ _ _ _ _ underlying3 rfl rfl rfl (cf (j:=0) bi.ilen hv112 rfl) (.v _)⟩ ?_
             refine yd hg18_30 5 ?_
             refine yd hg18_35 9 ?_
             refine ye [125,6] ?_
             exact hl116 _ (zi h).symm
           ·refine yx hn 3 ?_
            refine yd hg18_2 5 ?_
            refine yd hg18_7 1 ?_
            refine ys 2 ⟨lI hv107⟩ ?_
            refine yS (vi v108.Reply.Code) 3 ⟨cg _ _ _ _ _ _ _ underlying3 rfl rfl rfl (cf (j:=0) bi.ilen hv108 rfl) (.v _)⟩ ?_
            refine yd hg18_15 1 ?_
            refine ys 1 ⟨lI hv109⟩ ?_
            refine yS (vb v110.Has) 3 ⟨cg _ _ _ _ _ _ _ underlying4 rfl rfl rfl (cf bi.ilen hv110 rfl) (.v _)⟩ ?_
            refine yd hg18_22 1 ?_
            refine ys 2 ⟨lI hv111⟩ ?_
            refine yS (vi v112.Reply.Code) 3 ⟨cg _ _ _ _ _ _ _ underlying3 rfl rfl rfl (cf (j:=0) bi.ilen hv112 rfl) (.v _)⟩ ?_
            refine yd hg18_30 14 ?_
            refine ye [125,6] ?_
            exact hl116 _ (zi h).symm
          ·refine yx hn 3 ?_
           refine yd hg18_2 5 ?_
           refine yd hg18_7 1 ?_
           refine ys 2 ⟨lI hv107⟩ ?_
           refine yS (vi v108.Reply.Code) 3 ⟨cg _ _ _ _ _ _ _ underlying3 rfl rfl rfl (cf (j:=0) bi.ilen hv108 rfl) (.v _)⟩ ?_
           refine yd hg18_15 1 ?_
           refine ys 1 ⟨lI hv109⟩ ?_
           refine yS (vb v110.Has) 3 ⟨cg _ _ _ _ _ _ _ underlying4 rfl rfl rfl (cf bi.ilen hv110 rfl) (.v _)⟩ ?_
           refine yd hg18_22 22 ?_
           refine ye [125,6] ?_
           exact hl116 _ (zi h).symm
         ·refine yx hn 3 ?_
          refine yd hg18_2 5 ?_
          refine yd hg18_7 1 ?_
          refine ys 2 ⟨lI hv107⟩ ?_
          refine yS (vi v108.Reply.Code) 3 ⟨cg _ _ _ _ _ _ _ underlying3 rfl rfl rfl (cf (j:=0) bi.ilen hv108 rfl) (.v _)⟩ ?_
          refine yd hg18_15 29 ?_
          refine ye [125,6] ?_
          exact hl116 _ (zi h).symm
        ·refine yx hn 3 ?_
         refine yd hg18_2 5 ?_
         refine yd hg18_7 37 ?_
         refine ye [125,6] ?_
         exact hl116 _ (zi h).symm
       ·refine yx hn 3 ?_
        refine yd hg18_2 42 ?_
        refine ye [125,6] ?_
        exact hl116 _ (zi h).symm
     ·intro u97 h hl98 hr99
      refine af ?_
      obtain ⟨v44, hv44, h⟩:=zn h
      refine yx hn 1 ?_
      refine ys 1 ⟨lB (mX hv44)⟩ ?_
      refine bS [0,1,125,8,49] ?_
      refine aP _ rfl (fun hb100 => ?_) (fun hb100 => ?_)
      ·have h:=aT hb100 h
       refine yx hn 0 ?_
       refine yw [8] 1 ?_
       refine ye [0,1,125,8] ?_
       exact hl98 _ (zi h).symm
      ·have h:=aV hb100 h
       refine ba ?_
       refine aD [0,1,2,3] (by kernel_rfl) (es':=[(_,_),(_,_),(_,_),(_,_)]) rfl ?_
       exact hl98 _ (zi h).symm
    ·rintro u83 hl84 hr85 s76 rr88 h ho86
     refine af ?_
     refine bE hn 4 [0,1,2,125,7,32] ?_
     refine aP _ rfl (fun hb89 => ?_) (fun hb89 => ?_)
     ·have h:=aT hb89 h
      refine ba ?_
      refine aB (af ?_)
      refine bz ?_
      refine af ?_
      refine bk h (fun (s90:Bool)=>[(0,fb a),(1,fb b),(2,.v (.int .u8 bare)),(125,.glob (GL mx)),(7,vi s76),(46,vb s90)]) ?_ ?_
      ·rintro s90 h
       refine aB ?_
       refine aP _ rfl (fun hb94 => ?_) (fun hb94 => ?_)
       ·have h:=aT hb94 h
        refine bE hn 1 [125,6] ?_
        refine aS ?_
        refine aD [1] (by kernel_rfl) (es':=[(_,_)]) rfl ?_
        refine bA ?_
        refine aO ?_
        refine aO ?_
        refine bA ?_
        refine aO ?_
        have h:=hr85 _ (ho86 _ (zi h).symm).symm
        obtain rfl:=zi h
        exact aW hio rfl (.tmp _ _ .nil) rfl rfl
       ·have h:=aV hb94 h
        refine ba ?_
        refine bF ?_
        refine aB ?_
        obtain ⟨v17, hv17, h⟩:=zn h
        refine yx hn 1 ?_
        refine ys 0 ⟨lb hv17⟩ ?_
        refine yw [7] 1 ?_
        refine ye [0,1,2,125,7] ?_
        exact ci _ (zi h).symm rfl
      ·intro u91 h hl92 hr93
       obtain ⟨v8, hv8, h⟩:=zn h
       obtain ⟨v9, hv9, h⟩:=zn h
       refine aR h (fun hg6_5 h => ?_) (fun hg6_5 h => ?_)
       ·refine yx hn 2 ?_
        refine ys 0 ⟨li hv8⟩ ?_
        refine ys 2 ⟨ll hv9⟩ ?_
        refine yd hg6_5 6 ?_
        refine ye [0,1,2,125,7,46] ?_
        exact hl92 _ (zi h).symm
       ·obtain ⟨v10, hv10, h⟩:=zn h
        obtain ⟨v11, hv11, h⟩:=zn h
        refine yx hn 2 ?_
        refine ys 0 ⟨li hv8⟩ ?_
        refine ys 2 ⟨ll hv9⟩ ?_
        refine yd hg6_5 2 ?_
        refine ys 0 ⟨li hv10⟩ ?_
        refine ys 2 ⟨ll hv11⟩ ?_
        refine ye [0,1,2,125,7,46] ?_
        exact hl92 _ (zi h).symm
     ·have h:=aV hb89 h
      refine ck ?_
      refine bh ?_
      refine bh ?_
      refine cj ?_
      refine aD [0,1,2,3] (by kernel_rfl) (es':=[(_,_),(_,_),(_,_),(_,_)]) rfl ?_
      exact hl84 _ (ho86 _ (zi h).symm).symm
  ·intro u59 h hl60 hr61
   refine aR h (fun hg1_3 h => ?_) (fun hg1_3 h => ?_)
   ·refine yx hn 4 ?_
    refine yd hg1_3 9 ?_
    refine ye [0,1,2,125,28] ?_
    exact hl60 _ (zi h).symm
   ·refine aR h (fun hg1_8 h => ?_) (fun hg1_8 h => ?_)
    ·refine yx hn 4 ?_
     refine yd hg1_3 5 ?_
     refine yd hg1_8 4 ?_
     refine ye [0,1,2,125,28] ?_
     exact hl60 _ (zi h).symm
    ·obtain ⟨v1, hv1, h⟩:=zn h
     refine yx hn 4 ?_
     refine yd hg1_3 5 ?_
     refine yd hg1_8 1 ?_
     refine ys 2 ⟨lk call18 (pq _ _ hv1)⟩ ?_
     refine ye [0,1,2,125,28] ?_
     exact hl60 _ (zi h).symm

end Go.Proofs.YtjnnkhmhjcjhdaaGreatDoor
