/-
  The model's runs are what is told in Lean.
-/
import Derived.Test.YtjnnkhmhjcjhdaaGreatDoorProg
import Derived.KernelRfl
import Derived.Test.YtjnnkhmhjcjhdaaGreatDoorShelf
import Derived.Test.YtjnnkhmhjcjhdaaGreatDoorIdx
import Derived.Test.YtjnnkhmhjcjhdaaGreatDoorB3
import Derived.Test.YtjnnkhmhjcjhdaaGreatDoorC1
import Derived.Test.YtjnnkhmhjcjhdaaGreatDoorBC
import Derived.Test.YtjnnkhmhjcjhdaaGreatDoorOkc9
set_option linter.unusedVariables false
set_option linter.unusedSimpArgs false
set_option maxHeartbeats 1000000
namespace Go.Proofs.YtjnnkhmhjcjhdaaGreatDoor
open Go.Abs Go.Abs.Sh Tryz
open List (map flatten)
open Value (int)

theorem uk (mx:Int×Nat×Value) (how:Int) (challenge:ByteArray) (r:Bool) (h:Sh.kO how challenge=some r):qT Tryz.prog (GL mx) 9 [.v (.int .i64 how), .v (.string challenge)] (.v (.bool r)):=by
  unfold Sh.kO at h
  refine yG 142 func9 fun g0 hn hio => ?_
  refine eo hn 1 [0,1,142] ?_
  refine bq ?_
  refine eo hn 3 [0,1,142,14] ?_
  refine cU _ rfl (fun hb1 => ?_) (fun hb1 => ?_)
  ·have h:=dn hb1 h
   refine eo hn 1 [142,4] ?_
   refine cY ?_
   refine cw [1] (by kernel_rfl) (es':=[(_,_)]) rfl ?_
   refine cT ?_
   obtain rfl:=zi h
   exact dq hio rfl (.tmp _ _ .nil) rfl rfl
  ·have h:=dj hb1 h
   refine dw ?_
   refine cr (bq ?_)
   obtain ⟨v2, hv2, h⟩:=zn h
   obtain ⟨v3, hv3, h⟩:=zn h
   obtain ⟨v4, hv4, h⟩:=zn h
   obtain ⟨v5, hv5, h⟩:=zn h
   obtain ⟨v6, hv6, h⟩:=zn h
   obtain ⟨v7, hv7, h⟩:=zn h
   obtain ⟨v8, hv8, h⟩:=zn h
   refine yx hn 0 ?_
   refine ys 1 ⟨lk call20 (mB _ hv2)⟩ ?_
   refine ys 1 ⟨lk call22 (Eh _ _ hv3)⟩ ?_
   refine ys 0 ⟨lk call29 (wM _ _ _ _ hv4)⟩ ?_
   refine ys 0 ⟨lB (kF hv5)⟩ ?_
   refine ys 0 ⟨lB (kF hv6)⟩ ?_
   refine ys 0 ⟨lT hv7⟩ ?_
   refine ys 0 ⟨lg call13 (wm _ _ _ _ _ _ _ hv8) 142⟩ ?_
   refine ym 0 ?_
   refine yS (.agg [vi v8.1.Phase,vs v8.1.Helo,vb v8.1.From.Null,vs v8.1.From.Local,vs v8.1.From.Domain,.fl .ro 3 (flatten (map cz.enc v8.1.To)),vb v8.1.Quiet,.fl .ro 1 (map (int .u8) v8.1.Buf),vs v8.1.Challenge,vb v8.1.Proved]) 2 ⟨nL _ _ _ _ _ _ rfl rfl (zl rfl) rfl rfl⟩ ?_
   refine yS (.box 30 [vi 0,vs z0,vb false,vs z0,vs z0,vz,vb false,vz,vs z0,vb false]) 3 ⟨oA (fj _ _ Kw)⟩ ?_
   refine eS [0,1,142,5,7] ?_
   refine bq ?_
   refine eo hn 2 [0,1,142,5,7,29] ?_
   refine cU _ rfl (fun hb9 => ?_) (fun hb9 => ?_)
   ·have h:=dn hb9 h
    refine bq ?_
    refine dO h (fun (s11:Bool)=>[(142,.glob (GL mx)),(4,vb s11)]) ?_ ?_
    ·rintro s11 h
     refine cr (cY ?_)
     refine cw [1] (by kernel_rfl) (es':=[(_,_)]) rfl ?_
     refine cT ?_
     obtain rfl:=zi h
     exact dq hio rfl (.tmp _ _ .nil) rfl rfl
    ·intro u12 h hl13 hr14
     refine cZ h (fun hg5_2 h => ?_) (fun hg5_2 h => ?_)
     ·obtain ⟨v10, hv10, h⟩:=zn h
      refine yx hn 3 ?_
      refine yd hg5_2 0 ?_
      refine ys 2 ⟨lg call14 (sH _ _ hv10) 142⟩ ?_
      refine ye [142,4] ?_
      exact hl13 _ (zi h).symm
     ·refine yx hn 3 ?_
      refine yd hg5_2 3 ?_
      refine ye [142,4] ?_
      exact hl13 _ (zi h).symm
   ·have h:=dj hb9 h
    refine dw ?_
    refine cr (bq ?_)
    refine bq ?_
    refine dO h (fun (s15:Bool)=>[(0,vi how),(1,vs challenge),(142,.glob (GL mx)),(5,.box 30 [vi v8.1.Phase,vs v8.1.Helo,vb v8.1.From.Null,vs v8.1.From.Local,vs v8.1.From.Domain,.fl .ro 3 (flatten (map cz.enc v8.1.To)),vb v8.1.Quiet,.fl .ro 1 (map (int .u8) v8.1.Buf),vs v8.1.Challenge,vb v8.1.Proved]),(53,vb s15)]) ?_ ?_
    ·rintro s15 h
     refine cr ?_
     refine cU _ rfl (fun hb19 => ?_) (fun hb19 => ?_)
     ·have h:=dn hb19 h
      refine eo hn 1 [142,4] ?_
      refine cY ?_
      refine cw [1] (by kernel_rfl) (es':=[(_,_)]) rfl ?_
      refine cT ?_
      obtain rfl:=zi h
      exact dq hio rfl (.tmp _ _ .nil) rfl rfl
     ·have h:=dj hb19 h
      refine dw ?_
      refine cr ?_
      refine oh hn 0 ?_
      refine yS (.fl (.own 9) 1 (map Value.string ([(⟨#[82,83,69,84,13,10]⟩:ByteArray),(⟨#[69,72,76,79,32,107,13,10]⟩:ByteArray),(⟨#[68,65,84,65,13,10,46,13,10]⟩:ByteArray)]))) 0 ⟨eN _ _ 1 (.string ByteArray.empty) (map Value.string ([(⟨#[82,83,69,84,13,10]⟩:ByteArray),(⟨#[69,72,76,79,32,107,13,10]⟩:ByteArray),(⟨#[68,65,84,65,13,10,46,13,10]⟩:ByteArray)])) [(0,.string (⟨#[82,83,69,84,13,10]⟩:ByteArray)),(1,.string (⟨#[69,72,76,79,32,107,13,10]⟩:ByteArray)),(2,.string (⟨#[68,65,84,65,13,10,46,13,10]⟩:ByteArray))] underlying49 FZ Vg (fun _ V w o a hv hes=>by simp only [List.map_toArray,List.map_cons,List.map_nil]; try rfl) (iw (by simp [Instr.fill,Value.cells]; rfl) (by simp [List.range,List.range.loop] <;> rfl)) (by simp [Value.oneCell']) rfl (by decide) (by decide) (by decide)⟩ ?_
      refine ya 0 ?_
      refine eS [0,1,142,5,8] ?_
      refine bq ?_
      obtain ⟨v20, hv20, h⟩:=zn h
      obtain ⟨v21, hv21, h⟩:=zn h
      obtain ⟨v22, hv22, h⟩:=zn h
      refine yx hn 1 ?_
      refine ys 0 ⟨lv hv20⟩ ?_
      refine ys 0 ⟨lB (qh hv21)⟩ ?_
      refine ys 0 ⟨lv hv22⟩ ?_
      refine yw [0] 1 ?_
      refine eS [1,142,5,8,0] ?_
      refine bq ?_
      obtain ⟨v23, hv23, h⟩:=zn h
      obtain ⟨v24, hv24, h⟩:=zn h
      obtain ⟨v25, hv25, h⟩:=zn h
      obtain ⟨v26, hv26, h⟩:=zn h
      obtain ⟨v27, hv27, h⟩:=zn h
      refine Cf (by kernel_rfl) hn (El:=(_::_::_::_::_::(60,.agg (dQ.c v23 []))::(61,.agg [vi v8.1.Phase,vs v8.1.Helo,vb v8.1.From.Null,vs v8.1.From.Local,vs v8.1.From.Domain,.fl .ro 3 (flatten (map cz.enc v8.1.To)),vb v8.1.Quiet,.fl .ro 1 (map (int .u8) v8.1.Buf),vs v8.1.Challenge,vb v8.1.Proved])::(62,.fl (.own 9) 1 (map Value.string ([(⟨#[82,83,69,84,13,10]⟩:ByteArray),(⟨#[69,72,76,79,32,107,13,10]⟩:ByteArray),(⟨#[68,65,84,65,13,10,46,13,10]⟩:ByteArray)])))::(63,vi v22)::(64,.eref (.slot 62) (v24 * 1))::(65,vs v25)::(66,.fl .ro 1 (map (int .u8) v26))::(67,.tup [.agg [vi v27.1.Phase,vs v27.1.Helo,vb v27.1.From.Null,vs v27.1.From.Local,vs v27.1.From.Domain,.fl .ro 3 (flatten (map cz.enc v27.1.To)),vb v27.1.Quiet,.fl .ro 1 (map (int .u8) v27.1.Buf),vs v27.1.Challenge,vb v27.1.Proved],.fr .ro false 12 (flatten (map dG.ienc v27.2.1)),vi v27.2.2])::(59,.tup [.agg [vi v27.1.Phase,vs v27.1.Helo,vb v27.1.From.Null,vs v27.1.From.Local,vs v27.1.From.Domain,.fl .ro 3 (flatten (map cz.enc v27.1.To)),vb v27.1.Quiet,.fl .ro 1 (map (int .u8) v27.1.Buf),vs v27.1.Challenge,vb v27.1.Proved],.any,.any])::(59,.tup [.any,.fr .ro false 12 (flatten (map dG.ienc v27.2.1)),vi v27.2.2])::(68,.agg [vi v27.1.Phase,vs v27.1.Helo,vb v27.1.From.Null,vs v27.1.From.Local,vs v27.1.From.Domain,.fl .ro 3 (flatten (map cz.enc v27.1.To)),vb v27.1.Quiet,.fl .ro 1 (map (int .u8) v27.1.Buf),vs v27.1.Challenge,vb v27.1.Proved])::(59,.tup [.any,.any,.any])::(69,.fr .ro false 12 (flatten (map dG.ienc v27.2.1)))::(70,vi v27.2.2)::(9,.box 30 [vi 0,vs z0,vb false,vs z0,vs z0,vz,vb false,vz,vs z0,vb false])::(9,.box 30 [vi v27.1.Phase,vs v27.1.Helo,vb v27.1.From.Null,vs v27.1.From.Local,vs v27.1.From.Domain,.fl .ro 3 (flatten (map cz.enc v27.1.To)),vb v27.1.Quiet,.fl .ro 1 (map (int .u8) v27.1.Buf),vs v27.1.Challenge,vb v27.1.Proved])::(10,.fr .ro false 12 (flatten (map dG.ienc v27.2.1)))::(7,vi v27.2.2)::[])) (init:=[0,1,2,3,4]) (fin:=[0,1,4,20,21,22]) (sps:=(zq [] 5 60::zq [2] 6 61::⟨[],[3],[7],[(.slot 62)]⟩::zq [4] 8 63::zq [7,8] 9 64::zq [9,7] 10 65::zq [10] 11 66::zq [5,6,11,1] 12 67::⟨[],[12],[13,14],[(.slot 59)]⟩::⟨[],[13],[16,15],[(.slot 68)]⟩::zq [14] 17 69::zq [14] 18 70::zq [] 19 9::⟨[15],[19],[20],[.cell 9 0,.cell 9 1,.cell 9 2,.cell 9 3,.cell 9 4,.cell 9 5,.cell 9 6,.cell 9 7,.cell 9 8,.cell 9 9]⟩::zq [17] 21 10::zq [18] 22 7::[])) (es':=[(_,_),(_,_),(_,_),(9,.box 30 [vi v27.1.Phase,vs v27.1.Helo,vb v27.1.From.Null,vs v27.1.From.Local,vs v27.1.From.Domain,.fl .ro 3 (flatten (map cz.enc v27.1.To)),vb v27.1.Quiet,.fl .ro 1 (map (int .u8) v27.1.Buf),vs v27.1.Challenge,vb v27.1.Proved]),(10,.fr .ro false 12 (flatten (map dG.ienc v27.2.1))),(7,vi v27.2.2)]) (by kernel_rfl) rfl rfl ⟨zp rfl (Fa _ _ 20 _ _ rfl call20 rfl (mB  _ hv23) rfl rfl),zp rfl (Mq _ _ _ _ _ _ _ underlying30 rfl Du rfl rfl (zl rfl) rfl rfl),zp rfl (ni _ _ _ _ rfl),z1 rfl,zp rfl (QH _ _ _ _ _ _ _ _ underlying49 FZ (by decide) rfl rfl rfl (fH hv24).1 (xe (fH hv24).2) rfl),zp rfl (Ir _ _ _ _ _ _ underlying9 rfl rfl rfl (Kg hv25)),zp rfl ((Option.some.inj hv26) ▸ BH _ _ _ v25 underlying9 underlying28 underlying5 rfl),zp rfl (Gs _ _ 142 13 _ _ rfl call13 rfl rfl (fun _ h=>h) (wm mx ((dQ.r v23)) 0 1 ((dE.mk v8.1.Phase v8.1.Helo (cz.mk v8.1.From.Null v8.1.From.Local v8.1.From.Domain) v8.1.To v8.1.Quiet v8.1.Buf v8.1.Challenge v8.1.Proved)) v26 _ hv27) rfl rfl),zp rfl (eC.split (A:=[]) 59 0 _ _ _ (ni _ _ _ _ rfl) (zl rfl) rfl rfl),zp rfl (pU _ _ _ _ _ rfl (zl rfl) rfl rfl (by decide) rfl),zp rfl (oE rfl),zp rfl (oE rfl),zp rfl (fj _ _ Kw),zp rfl (oS Du rfl),z2 rfl,z2 rfl,zz⟩ ?_
      refine cr (bq ?_)
      refine bq ?_
      refine dO h (fun (s35:Bool)=>[(1,vs challenge),(142,.glob (GL mx)),(0,vi v22),(9,.box 30 [vi v27.1.Phase,vs v27.1.Helo,vb v27.1.From.Null,vs v27.1.From.Local,vs v27.1.From.Domain,.fl .ro 3 (flatten (map cz.enc v27.1.To)),vb v27.1.Quiet,.fl .ro 1 (map (int .u8) v27.1.Buf),vs v27.1.Challenge,vb v27.1.Proved]),(100,vb s35)]) ?_ ?_
      ·rintro s35 h
       refine cr ?_
       refine cU _ rfl (fun hb39 => ?_) (fun hb39 => ?_)
       ·have h:=dn hb39 h
        refine eo hn 1 [142,4] ?_
        refine cY ?_
        refine cw [1] (by kernel_rfl) (es':=[(_,_)]) rfl ?_
        refine cT ?_
        obtain rfl:=zi h
        exact dq hio rfl (.tmp _ _ .nil) rfl rfl
       ·have h:=dj hb39 h
        refine dw ?_
        refine cr ?_
        refine eo hn 1 [1,142,0,9,11] ?_
        refine bq ?_
        refine dO h (fun (s41:ByteArray)=>[(1,vs challenge),(142,.glob (GL mx)),(9,.box 30 [vi v27.1.Phase,vs v27.1.Helo,vb v27.1.From.Null,vs v27.1.From.Local,vs v27.1.From.Domain,.fl .ro 3 (flatten (map cz.enc v27.1.To)),vb v27.1.Quiet,.fl .ro 1 (map (int .u8) v27.1.Buf),vs v27.1.Challenge,vb v27.1.Proved]),(11,vs s41)]) ?_ ?_
        ·rintro s41 h
         refine cr (bq ?_)
         refine dO h (fun (s48:Bool)=>[(142,.glob (GL mx)),(4,vb s48)]) ?_ ?_
         ·rintro s48 h
          refine cr (cY ?_)
          refine cw [1] (by kernel_rfl) (es':=[(_,_)]) rfl ?_
          obtain rfl:=zi h
          exact dq hio rfl (.tmp _ _ .nil) rfl rfl
         ·intro u49 h hl50 hr51
          refine cZ h (fun hg16_2 h => ?_) (fun hg16_2 h => ?_)
          ·refine cZ h (fun hg16_7 h => ?_) (fun hg16_7 h => ?_)
           ·refine cZ h (fun hg16_12 h => ?_) (fun hg16_12 h => ?_)
            ·refine cZ h (fun hg16_18 h => ?_) (fun hg16_18 h => ?_)
             ·obtain ⟨v46, hv46, h⟩:=zn h
              refine cZ h (fun hg16_24 h => ?_) (fun hg16_24 h => ?_)
              ·refine cZ h (fun hg16_30 h => ?_) (fun hg16_30 h => ?_)
               ·refine cZ h (fun hg16_36 h => ?_) (fun hg16_36 h => ?_)
                ·obtain ⟨v47, hv47, h⟩:=zn h
                 refine yx hn 3 ?_
                 refine yd hg16_2 5 ?_
                 refine yd hg16_7 5 ?_
                 refine yd hg16_12 6 ?_
                 refine yd hg16_18 2 ?_
                 refine yS (.agg [vb false,vs z0,vs z0]) 0 ⟨fJ _ _ _ _ [1,1,1] _ _ underlying26 Ab (JD _ underlying26) uY.nil rfl rfl rfl⟩ ?_
                 refine ys 2 ⟨lk call32 (nh _ _ _ hv46)⟩ ?_
                 refine yd hg16_24 6 ?_
                 refine yd hg16_30 6 ?_
                 refine yd hg16_36 0 ?_
                 refine ys 2 ⟨lg call14 (sH _ _ hv47) 142⟩ ?_
                 refine ye [142,4] ?_
                 exact hl50 _ (zi h).symm
                ·refine yx hn 3 ?_
                 refine yd hg16_2 5 ?_
                 refine yd hg16_7 5 ?_
                 refine yd hg16_12 6 ?_
                 refine yd hg16_18 2 ?_
                 refine yS (.agg [vb false,vs z0,vs z0]) 0 ⟨fJ _ _ _ _ [1,1,1] _ _ underlying26 Ab (JD _ underlying26) uY.nil rfl rfl rfl⟩ ?_
                 refine ys 2 ⟨lk call32 (nh _ _ _ hv46)⟩ ?_
                 refine yd hg16_24 6 ?_
                 refine yd hg16_30 6 ?_
                 refine yd hg16_36 3 ?_
                 refine ye [142,4] ?_
                 exact hl50 _ (zi h).symm
               ·refine yx hn 3 ?_
                refine yd hg16_2 5 ?_
                refine yd hg16_7 5 ?_
                refine yd hg16_12 6 ?_
                refine yd hg16_18 2 ?_
                refine yS (.agg [vb false,vs z0,vs z0]) 0 ⟨fJ _ _ _ _ [1,1,1] _ _ underlying26 Ab (JD _ underlying26) uY.nil rfl rfl rfl⟩ ?_
                refine ys 2 ⟨lk call32 (nh _ _ _ hv46)⟩ ?_
                refine yd hg16_24 6 ?_
                refine yd hg16_30 9 ?_
                refine ye [142,4] ?_
                exact hl50 _ (zi h).symm
              ·refine yx hn 3 ?_
               refine yd hg16_2 5 ?_
               refine yd hg16_7 5 ?_
               refine yd hg16_12 6 ?_
               refine yd hg16_18 2 ?_
               refine yS (.agg [vb false,vs z0,vs z0]) 0 ⟨fJ _ _ _ _ [1,1,1] _ _ underlying26 Ab (JD _ underlying26) uY.nil rfl rfl rfl⟩ ?_
               refine ys 2 ⟨lk call32 (nh _ _ _ hv46)⟩ ?_
               refine yd hg16_24 15 ?_
               refine ye [142,4] ?_
               exact hl50 _ (zi h).symm
             ·refine yx hn 3 ?_
              refine yd hg16_2 5 ?_
              refine yd hg16_7 5 ?_
              refine yd hg16_12 6 ?_
              refine yd hg16_18 21 ?_
              refine ye [142,4] ?_
              exact hl50 _ (zi h).symm
            ·refine yx hn 3 ?_
             refine yd hg16_2 5 ?_
             refine yd hg16_7 5 ?_
             refine yd hg16_12 27 ?_
             refine ye [142,4] ?_
             exact hl50 _ (zi h).symm
           ·refine yx hn 3 ?_
            refine yd hg16_2 5 ?_
            refine yd hg16_7 32 ?_
            refine ye [142,4] ?_
            exact hl50 _ (zi h).symm
          ·refine yx hn 3 ?_
           refine yd hg16_2 37 ?_
           refine ye [142,4] ?_
           exact hl50 _ (zi h).symm
        ·intro u42 h hl43 hr44
         refine eo hn 2 [1,142,9,11,102] ?_
         refine cU _ rfl (fun hb45 => ?_) (fun hb45 => ?_)
         ·have h:=dn hb45 h
          refine yx hn 0 ?_
          refine yw [11] 1 ?_
          refine ye [1,142,9,11] ?_
          exact hl43 _ (zi h).symm
         ·have h:=dj hb45 h
          refine dw ?_
          refine cw [0,1,2,3] (by kernel_rfl) (es':=[(_,_),(_,_),(_,_),(_,_)]) rfl ?_
          exact hl43 _ (zi h).symm
      ·intro u36 h hl37 hr38
       refine cZ h (fun hg11_2 h => ?_) (fun hg11_2 h => ?_)
       ·refine yx hn 3 ?_
        refine yd hg11_2 27 ?_
        refine ye [1,142,0,9,100] ?_
        exact hl37 _ (zi h).symm
       ·refine cZ h (fun hg11_7 h => ?_) (fun hg11_7 h => ?_)
        ·refine yx hn 3 ?_
         refine yd hg11_2 5 ?_
         refine yd hg11_7 22 ?_
         refine ye [1,142,0,9,100] ?_
         exact hl37 _ (zi h).symm
        ·obtain ⟨v28, hv28, h⟩:=zn h
         obtain ⟨v29, hv29, h⟩:=zn h
         obtain ⟨v30, hv30, h⟩:=zn h
         refine cZ h (fun hg11_18 h => ?_) (fun hg11_18 h => ?_)
         ·refine yx hn 3 ?_
          refine yd hg11_2 5 ?_
          refine yd hg11_7 3 ?_
          refine ys 0 ⟨lb hv28⟩ ?_
          refine ys 2 ⟨lI hv29⟩ ?_
          refine yS (vi v30.Reply.Code) 3 ⟨jQ _ _ _ _ _ _ _ underlying3 rfl rfl rfl (jR (j:=0) dG.ilen hv30 rfl) (.v _)⟩ ?_
          refine yd hg11_18 11 ?_
          refine ye [1,142,0,9,100] ?_
          exact hl37 _ (zi h).symm
         ·obtain ⟨v31, hv31, h⟩:=zn h
          obtain ⟨v32, hv32, h⟩:=zn h
          obtain ⟨v33, hv33, h⟩:=zn h
          obtain ⟨v34, hv34, h⟩:=zn h
          refine yx hn 3 ?_
          refine yd hg11_2 5 ?_
          refine yd hg11_7 3 ?_
          refine ys 0 ⟨lb hv28⟩ ?_
          refine ys 2 ⟨lI hv29⟩ ?_
          refine yS (vi v30.Reply.Code) 3 ⟨jQ _ _ _ _ _ _ _ underlying3 rfl rfl rfl (jR (j:=0) dG.ilen hv30 rfl) (.v _)⟩ ?_
          refine yd hg11_18 3 ?_
          refine ys 0 ⟨lb hv31⟩ ?_
          refine ys 1 ⟨lI hv32⟩ ?_
          refine yS (vb v33.Has) 2 ⟨jQ _ _ _ _ _ _ _ underlying4 rfl rfl rfl (jR dG.ilen hv33 rfl) (.v _)⟩ ?_
          refine yS (vb (!(v33.Has==(v22==2)))) 1 ⟨Uz _ _ _ _ underlying4 rfl rfl⟩ ?_
          refine ye [1,142,0,9,100] ?_
          exact hl37 _ (zi h).symm
    ·intro u16 h hl17 hr18
     refine cZ h (fun hg6_3 h => ?_) (fun hg6_3 h => ?_)
     ·refine yx hn 4 ?_
      refine yd hg6_3 15 ?_
      refine ye [0,1,142,5,53] ?_
      exact hl17 _ (zi h).symm
     ·refine cZ h (fun hg6_8 h => ?_) (fun hg6_8 h => ?_)
      ·refine yx hn 4 ?_
       refine yd hg6_3 5 ?_
       refine yd hg6_8 10 ?_
       refine ye [0,1,142,5,53] ?_
       exact hl17 _ (zi h).symm
      ·refine cZ h (fun hg6_13 h => ?_) (fun hg6_13 h => ?_)
       ·refine yx hn 4 ?_
        refine yd hg6_3 5 ?_
        refine yd hg6_8 5 ?_
        refine yd hg6_13 5 ?_
        refine ye [0,1,142,5,53] ?_
        exact hl17 _ (zi h).symm
       ·refine yx hn 4 ?_
        refine yd hg6_3 5 ?_
        refine yd hg6_8 5 ?_
        refine yd hg6_13 5 ?_
        refine ye [0,1,142,5,53] ?_
        exact hl17 _ (zi h).symm

end Go.Proofs.YtjnnkhmhjcjhdaaGreatDoor
