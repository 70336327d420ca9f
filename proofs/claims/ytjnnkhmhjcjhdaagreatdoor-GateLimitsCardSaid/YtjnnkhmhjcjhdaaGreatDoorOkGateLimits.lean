/-
  The model's runs are what is told in Lean.
-/
import Derived.Test.YtjnnkhmhjcjhdaaGreatDoorProg
import Derived.KernelRfl
import Derived.Test.YtjnnkhmhjcjhdaaGreatDoorShelf
import Derived.Test.YtjnnkhmhjcjhdaaGreatDoorIdx
import Derived.Test.YtjnnkhmhjcjhdaaGreatDoorB3
import Derived.Test.YtjnnkhmhjcjhdaaGreatDoorC1
import Derived.Test.YtjnnkhmhjcjhdaaGreatDoorBC
import Derived.Test.YtjnnkhmhjcjhdaaGreatDoorOkc9
set_option linter.unusedVariables false
set_option linter.unusedSimpArgs false
set_option maxHeartbeats 1000000
namespace Go.Proofs.YtjnnkhmhjcjhdaaGreatDoor
open Go.Abs Go.Abs.Sh Tryz
open List (map flatten)
open Value (int)

theorem pJ (mx:Int×Nat×Value) (n:Int) (size:Int) (domain:ByteArray) (r:Bool) (h:Sh.gU n size domain=some r):lX Tryz.prog (GL mx) 7 [.v (.int .i64 n), .v (.int .i64 size), .v (.string domain)] (.v (.bool r)):=by
  unfold Sh.gU at h
  refine yG 192 func7 fun g0 hn hio => ?_
  refine cF hn 1 [0,1,2,192] ?_
  refine aM ?_
  obtain ⟨v1, hv1, h⟩:=zn h
  obtain ⟨v2, hv2, h⟩:=zn h
  obtain ⟨v3, hv3, h⟩:=zn h
  obtain ⟨v4, hv4, h⟩:=zn h
  obtain ⟨v5, hv5, h⟩:=zn h
  obtain ⟨v6, hv6, h⟩:=zn h
  refine yx hn 1 ?_
  refine ys 0 ⟨lv hv1⟩ ?_
  refine ys 0 ⟨lB (oH hv2)⟩ ?_
  refine ys 1 ⟨lv hv3⟩ ?_
  refine ys 0 ⟨lv hv4⟩ ?_
  refine ys 0 ⟨lB (oH hv5)⟩ ?_
  refine ys 0 ⟨lv hv6⟩ ?_
  refine yw [0] 1 ?_
  refine yw [1] 1 ?_
  refine dv [2,192,0,1] ?_
  refine aM ?_
  refine aM ?_
  refine ce h (fun (s8:Bool)=>[(2,vs domain),(192,.glob (GL mx)),(0,vi v3),(1,vi v6),(32,vb s8)]) ?_ ?_
  ·rintro s8 h
   refine bb ?_
   refine bL _ rfl (fun hb12 => ?_) (fun hb12 => ?_)
   ·have h:=bT hb12 h
    refine cF hn 1 [192,6] ?_
    refine bO ?_
    refine bG [1] (by kernel_rfl) (es':=[(_,_)]) rfl ?_
    refine bw ?_
    obtain rfl:=zi h
    exact bP hio rfl (.tmp _ _ .nil) rfl rfl
   ·have h:=bQ hb12 h
    refine bU ?_
    refine bb (aM ?_)
    obtain ⟨v13, hv13, h⟩:=zn h
    obtain ⟨v14, hv14, h⟩:=zn h
    obtain ⟨v15, hv15, h⟩:=zn h
    obtain ⟨v16, hv16, h⟩:=zn h
    obtain ⟨v17, hv17, h⟩:=zn h
    obtain ⟨v18, hv18, h⟩:=zn h
    obtain ⟨v19, hv19, h⟩:=zn h
    refine yx hn 0 ?_
    refine ys 0 ⟨lk call20 (gG _ hv13)⟩ ?_
    refine ys 1 ⟨lk call22 (wC _ _ hv14)⟩ ?_
    refine ys 0 ⟨lk call31 (rF _ _ hv15)⟩ ?_
    refine ys 0 ⟨lB (ie hv16)⟩ ?_
    refine ys 0 ⟨lB (ie hv17)⟩ ?_
    refine ys 0 ⟨lT hv18⟩ ?_
    refine ys 0 ⟨lg call13 (oW _ _ _ _ _ _ _ hv19) 192⟩ ?_
    refine ym 0 ?_
    refine yS (.agg [vi v19.1.Phase,vs v19.1.Helo,vb v19.1.From.Null,vs v19.1.From.Local,vs v19.1.From.Domain,.fl .ro 3 (flatten (map bu.enc v19.1.To)),vb v19.1.Quiet,.fl .ro 1 (map (int .u8) v19.1.Buf),vs v19.1.Challenge,vb v19.1.Proved]) 2 ⟨jM _ _ _ _ _ _ rfl rfl (zl rfl) rfl rfl⟩ ?_
    refine yS (.box 30 [vi 0,vs z0,vb false,vs z0,vs z0,vz,vb false,vz,vs z0,vb false]) 3 ⟨oA (dh _ _ Ao)⟩ ?_
    refine dv [2,192,0,1,7,8,9] ?_
    refine aM ?_
    refine aM ?_
    refine ce h (fun (s20:Bool)=>[(2,vs domain),(192,.glob (GL mx)),(0,vi v3),(1,vi v6),(7,.box 30 [vi v19.1.Phase,vs v19.1.Helo,vb v19.1.From.Null,vs v19.1.From.Local,vs v19.1.From.Domain,.fl .ro 3 (flatten (map bu.enc v19.1.To)),vb v19.1.Quiet,.fl .ro 1 (map (int .u8) v19.1.Buf),vs v19.1.Challenge,vb v19.1.Proved]),(8,.fr .ro false 12 (flatten (map cc.ienc v19.2.1))),(51,vb s20)]) ?_ ?_
    ·rintro s20 h
     refine bb ?_
     refine bL _ rfl (fun hb24 => ?_) (fun hb24 => ?_)
     ·have h:=bT hb24 h
      refine cF hn 1 [192,6] ?_
      refine bO ?_
      refine bG [1] (by kernel_rfl) (es':=[(_,_)]) rfl ?_
      refine bw ?_
      obtain rfl:=zi h
      exact bP hio rfl (.tmp _ _ .nil) rfl rfl
     ·have h:=bQ hb24 h
      refine bU ?_
      refine bb (aM ?_)
      refine cF hn 2 [2,192,0,7,8,53] ?_
      refine bL _ rfl (fun hb25 => ?_) (fun hb25 => ?_)
      ·have h:=bT hb25 h
       refine aM ?_
       refine ce h (fun (s29:Bool)=>[(192,.glob (GL mx)),(6,vb s29)]) ?_ ?_
       ·rintro s29 h
        refine bb (bO ?_)
        refine bG [1] (by kernel_rfl) (es':=[(_,_)]) rfl ?_
        refine bw ?_
        obtain rfl:=zi h
        exact bP hio rfl (.tmp _ _ .nil) rfl rfl
       ·intro u30 h hl31 hr32
        obtain ⟨v26, hv26, h⟩:=zn h
        obtain ⟨v27, hv27, h⟩:=zn h
        refine bJ h (fun hg8_6 h => ?_) (fun hg8_6 h => ?_)
        ·refine bJ h (fun hg8_11 h => ?_) (fun hg8_11 h => ?_)
         ·obtain ⟨v28, hv28, h⟩:=zn h
          refine yx hn 1 ?_
          refine ys 2 ⟨lI hv26⟩ ?_
          refine yS (vi v27.Reply.Code) 2 ⟨dp _ _ _ _ _ _ _ underlying3 rfl rfl rfl (dt (j:=0) cc.ilen hv27 rfl) (.v _)⟩ ?_
          refine yd hg8_6 5 ?_
          refine yd hg8_11 0 ?_
          refine ys 2 ⟨lg call14 (iB _ _ hv28) 192⟩ ?_
          refine ye [192,6] ?_
          exact hl31 _ (zi h).symm
         ·refine yx hn 1 ?_
          refine ys 2 ⟨lI hv26⟩ ?_
          refine yS (vi v27.Reply.Code) 2 ⟨dp _ _ _ _ _ _ _ underlying3 rfl rfl rfl (dt (j:=0) cc.ilen hv27 rfl) (.v _)⟩ ?_
          refine yd hg8_6 5 ?_
          refine yd hg8_11 3 ?_
          refine ye [192,6] ?_
          exact hl31 _ (zi h).symm
        ·refine yx hn 1 ?_
         refine ys 2 ⟨lI hv26⟩ ?_
         refine yS (vi v27.Reply.Code) 2 ⟨dp _ _ _ _ _ _ _ underlying3 rfl rfl rfl (dt (j:=0) cc.ilen hv27 rfl) (.v _)⟩ ?_
         refine yd hg8_6 8 ?_
         refine ye [192,6] ?_
         exact hl31 _ (zi h).symm
      ·have h:=bQ hb25 h
       refine bU ?_
       refine bb (aM ?_)
       refine aM ?_
       obtain ⟨v33, hv33, h⟩:=zn h
       obtain ⟨v34, hv34, h⟩:=zn h
       refine yx hn 1 ?_
       refine ys 2 ⟨lI hv33⟩ ?_
       refine yS (vi v34.Reply.Code) 1 ⟨dp _ _ _ _ _ _ _ underlying3 rfl rfl rfl (dt (j:=0) cc.ilen hv34 rfl) (.v _)⟩ ?_
       refine dv [2,192,0,7,73] ?_
       refine bL _ rfl (fun hb35 => ?_) (fun hb35 => ?_)
       ·have h:=bT hb35 h
        refine cF hn 1 [192,6] ?_
        refine bO ?_
        refine bG [1] (by kernel_rfl) (es':=[(_,_)]) rfl ?_
        refine bw ?_
        obtain rfl:=zi h
        exact bP hio rfl (.tmp _ _ .nil) rfl rfl
       ·have h:=bQ hb35 h
        refine bU ?_
        refine bb (aM ?_)
        refine cF hn 1 [2,192,0,7,10] ?_
        refine dx h (fun ((s81,s82,s83,s84,s85,s86,s87,s88,s89,s90,s91):Int×ByteArray×Bool×ByteArray×ByteArray×(List bu)×Bool×(List Int)×ByteArray×Bool×Int)=>[(2,vs domain),(192,.glob (GL mx)),(0,vi v3),(7,.box 30 [vi s81,vs s82,vb s83,vs s84,vs s85,.fl .ro 3 (flatten (map bu.enc s86)),vb s87,.fl .ro 1 (map (int .u8) s88),vs s89,vb s90]),(10,vi s91)]) (fun ((s103,s104,s105,s106,s107,s108,s109,s110,s111,s112):Int×ByteArray×Bool×ByteArray×ByteArray×(List bu)×Bool×(List Int)×ByteArray×Bool)=>[(2,vs domain),(192,.glob (GL mx)),(0,vi v3),(7,.box 30 [vi s103,vs s104,vb s105,vs s106,vs s107,.fl .ro 3 (flatten (map bu.enc s108)),vb s109,.fl .ro 1 (map (int .u8) s110),vs s111,vb s112])]) ?_ ?_
        ·rintro ⟨s103, s104, s105, s106, s107, s108, s109, s110, s111, s112⟩ h
         refine bb (aM ?_)
         refine cF hn 2 [2,192,7,133] ?_
         refine bL _ rfl (fun hb130 => ?_) (fun hb130 => ?_)
         ·have h:=bT hb130 h
          refine aM ?_
          obtain ⟨v131, hv131, h⟩:=zn h
          refine yx hn 0 ?_
          refine ys 1 ⟨lg call14 (iB _ _ hv131) 192⟩ ?_
          refine dv [192,6] ?_
          refine bO ?_
          refine bG [1] (by kernel_rfl) (es':=[(_,_)]) rfl ?_
          refine bw ?_
          obtain rfl:=zi h
          exact bP hio rfl (.tmp _ _ .nil) rfl rfl
         ·have h:=bQ hb130 h
          refine bU ?_
          refine bb (aM ?_)
          obtain ⟨v132, hv132, h⟩:=zn h
          obtain ⟨v133, hv133, h⟩:=zn h
          obtain ⟨v134, hv134, h⟩:=zn h
          obtain ⟨v135, hv135, h⟩:=zn h
          obtain ⟨v136, hv136, h⟩:=zn h
          refine sY (by kernel_rfl) hn (El:=(_::_::_::_::(136,.agg (co.c v132 []))::(137,.agg [vi s103,vs s104,vb s105,vs s106,vs s107,.fl .ro 3 (flatten (map bu.enc s108)),vb s109,.fl .ro 1 (map (int .u8) s110),vs s111,vb s112])::(138,vs domain)::(139,vs v133)::(140,vs v134)::(141,.fl .ro 1 (map (int .u8) v135))::(142,.tup [.agg [vi v136.1.Phase,vs v136.1.Helo,vb v136.1.From.Null,vs v136.1.From.Local,vs v136.1.From.Domain,.fl .ro 3 (flatten (map bu.enc v136.1.To)),vb v136.1.Quiet,.fl .ro 1 (map (int .u8) v136.1.Buf),vs v136.1.Challenge,vb v136.1.Proved],.fr .ro false 12 (flatten (map cc.ienc v136.2.1)),vi v136.2.2])::(135,.tup [.agg [vi v136.1.Phase,vs v136.1.Helo,vb v136.1.From.Null,vs v136.1.From.Local,vs v136.1.From.Domain,.fl .ro 3 (flatten (map bu.enc v136.1.To)),vb v136.1.Quiet,.fl .ro 1 (map (int .u8) v136.1.Buf),vs v136.1.Challenge,vb v136.1.Proved],.any,.any])::(135,.tup [.any,.fr .ro false 12 (flatten (map cc.ienc v136.2.1)),vi v136.2.2])::(143,.agg [vi v136.1.Phase,vs v136.1.Helo,vb v136.1.From.Null,vs v136.1.From.Local,vs v136.1.From.Domain,.fl .ro 3 (flatten (map bu.enc v136.1.To)),vb v136.1.Quiet,.fl .ro 1 (map (int .u8) v136.1.Buf),vs v136.1.Challenge,vb v136.1.Proved])::(135,.tup [.any,.any,.any])::(144,.fr .ro false 12 (flatten (map cc.ienc v136.2.1)))::(145,vi v136.2.2)::(14,.box 30 [vi 0,vs z0,vb false,vs z0,vs z0,vz,vb false,vz,vs z0,vb false])::(14,.box 30 [vi v136.1.Phase,vs v136.1.Helo,vb v136.1.From.Null,vs v136.1.From.Local,vs v136.1.From.Domain,.fl .ro 3 (flatten (map bu.enc v136.1.To)),vb v136.1.Quiet,.fl .ro 1 (map (int .u8) v136.1.Buf),vs v136.1.Challenge,vb v136.1.Proved])::(15,.fr .ro false 12 (flatten (map cc.ienc v136.2.1)))::(9,vi v136.2.2)::[])) (init:=[0,1,2,3]) (fin:=[0,1,2,18,19,20]) (sps:=(zq [] 4 136::zq [2] 5 137::zq [0] 6 138::zq [6] 7 139::zq [7] 8 140::zq [8] 9 141::zq [4,5,9,1] 10 142::⟨[],[10],[11,12],[(.slot 135)]⟩::⟨[],[11],[14,13],[(.slot 143)]⟩::zq [12] 15 144::zq [12] 16 145::zq [] 17 14::⟨[13],[17],[18],[.cell 14 0,.cell 14 1,.cell 14 2,.cell 14 3,.cell 14 4,.cell 14 5,.cell 14 6,.cell 14 7,.cell 14 8,.cell 14 9]⟩::zq [15] 19 15::zq [16] 20 9::[])) (es':=[(_,_),(_,_),(_,_),(14,.box 30 [vi v136.1.Phase,vs v136.1.Helo,vb v136.1.From.Null,vs v136.1.From.Local,vs v136.1.From.Domain,.fl .ro 3 (flatten (map bu.enc v136.1.To)),vb v136.1.Quiet,.fl .ro 1 (map (int .u8) v136.1.Buf),vs v136.1.Challenge,vb v136.1.Proved]),(15,.fr .ro false 12 (flatten (map cc.ienc v136.2.1))),(9,vi v136.2.2)]) (by kernel_rfl) rfl rfl ⟨zp rfl (uX _ _ 20 _ _ rfl call20 rfl (gG  _ hv132) rfl rfl),zp rfl (yY _ _ _ _ _ _ _ underlying30 rfl uu rfl rfl (zl rfl) rfl rfl),z1 rfl,zp rfl (oB rfl (ie hv133)),zp rfl (oB rfl (ie hv134)),zp rfl ((Option.some.inj hv135) ▸ uZ _ _ _ v134 underlying9 underlying28 underlying5 rfl),zp rfl (uW _ _ 192 13 _ _ rfl call13 rfl rfl (fun _ h=>h) (oW mx ((co.r v132)) 0 1 ((cq.mk s103 s104 (bu.mk s105 s106 s107) s108 s109 s110 s111 s112)) v135 _ hv136) rfl rfl),zp rfl (cM.split (A:=[]) 135 0 _ _ _ (mS _ _ _ _ rfl) (zl rfl) rfl rfl),zp rfl (jD _ _ _ _ _ rfl (zl rfl) rfl rfl (by decide) rfl),zp rfl (oE rfl),zp rfl (oE rfl),zp rfl (dh _ _ Ao),zp rfl (oS uu rfl),z2 rfl,z2 rfl,zz⟩ ?_
          refine bb (aM ?_)
          obtain ⟨v137, hv137, h⟩:=zn h
          refine yx hn 1 ?_
          refine ys 1 ⟨lk call30 (tr _ _ hv137)⟩ ?_
          refine dv [192,7,14,15,9,16] ?_
          refine aM ?_
          refine aM ?_
          refine ce h (fun (s142:Bool)=>[(192,.glob (GL mx)),(7,.box 30 [vi s103,vs s104,vb s105,vs s106,vs s107,.fl .ro 3 (flatten (map bu.enc s108)),vb s109,.fl .ro 1 (map (int .u8) s110),vs s111,vb s112]),(14,.box 30 [vi v136.1.Phase,vs v136.1.Helo,vb v136.1.From.Null,vs v136.1.From.Local,vs v136.1.From.Domain,.fl .ro 3 (flatten (map bu.enc v136.1.To)),vb v136.1.Quiet,.fl .ro 1 (map (int .u8) v136.1.Buf),vs v136.1.Challenge,vb v136.1.Proved]),(15,.fr .ro false 12 (flatten (map cc.ienc v136.2.1))),(169,vb s142)]) ?_ ?_
          ·rintro s142 h
           refine bb ?_
           refine bL _ rfl (fun hb146 => ?_) (fun hb146 => ?_)
           ·have h:=bT hb146 h
            refine cF hn 1 [192,6] ?_
            refine bO ?_
            refine bG [1] (by kernel_rfl) (es':=[(_,_)]) rfl ?_
            refine bw ?_
            obtain rfl:=zi h
            exact bP hio rfl (.tmp _ _ .nil) rfl rfl
           ·have h:=bQ hb146 h
            refine bU ?_
            refine bb (aM ?_)
            refine ce h (fun (s154:Bool)=>[(192,.glob (GL mx)),(6,vb s154)]) ?_ ?_
            ·rintro s154 h
             refine bb (bO ?_)
             refine bG [1] (by kernel_rfl) (es':=[(_,_)]) rfl ?_
             obtain rfl:=zi h
             exact bP hio rfl (.tmp _ _ .nil) rfl rfl
            ·intro u155 h hl156 hr157
             obtain ⟨v147, hv147, h⟩:=zn h
             obtain ⟨v148, hv148, h⟩:=zn h
             refine bJ h (fun hg26_6 h => ?_) (fun hg26_6 h => ?_)
             ·obtain ⟨v149, hv149, h⟩:=zn h
              refine yx hn 1 ?_
              refine ys 2 ⟨lI hv147⟩ ?_
              refine yS (vi v148.Reply.Code) 2 ⟨dp _ _ _ _ _ _ _ underlying3 rfl rfl rfl (dt (j:=0) cc.ilen hv148 rfl) (.v _)⟩ ?_
              refine yd hg26_6 13 ?_
              refine ys 2 ⟨lg call14 (iB _ _ hv149) 192⟩ ?_
              refine ye [192,6] ?_
              exact hl156 _ (zi h).symm
             ·obtain ⟨v150, hv150, h⟩:=zn h
              obtain ⟨v151, hv151, h⟩:=zn h
              refine bJ h (fun hg26_13 h => ?_) (fun hg26_13 h => ?_)
              ·obtain ⟨v152, hv152, h⟩:=zn h
               refine bJ h (fun hg26_19 h => ?_) (fun hg26_19 h => ?_)
               ·obtain ⟨v153, hv153, h⟩:=zn h
                refine yx hn 1 ?_
                refine ys 2 ⟨lI hv147⟩ ?_
                refine yS (vi v148.Reply.Code) 2 ⟨dp _ _ _ _ _ _ _ underlying3 rfl rfl rfl (dt (j:=0) cc.ilen hv148 rfl) (.v _)⟩ ?_
                refine yd hg26_6 1 ?_
                refine ys 2 ⟨lI hv150⟩ ?_
                refine yS (vi v151.Reply.Code) 2 ⟨dp _ _ _ _ _ _ _ underlying3 rfl rfl rfl (dt (j:=0) cc.ilen hv151 rfl) (.v _)⟩ ?_
                refine yd hg26_13 2 ?_
                refine ys 3 ⟨lk call15 (gj _ _ _ hv152)⟩ ?_
                refine yd hg26_19 0 ?_
                refine ys 2 ⟨lg call14 (iB _ _ hv153) 192⟩ ?_
                refine ye [192,6] ?_
                exact hl156 _ (zi h).symm
               ·refine yx hn 1 ?_
                refine ys 2 ⟨lI hv147⟩ ?_
                refine yS (vi v148.Reply.Code) 2 ⟨dp _ _ _ _ _ _ _ underlying3 rfl rfl rfl (dt (j:=0) cc.ilen hv148 rfl) (.v _)⟩ ?_
                refine yd hg26_6 1 ?_
                refine ys 2 ⟨lI hv150⟩ ?_
                refine yS (vi v151.Reply.Code) 2 ⟨dp _ _ _ _ _ _ _ underlying3 rfl rfl rfl (dt (j:=0) cc.ilen hv151 rfl) (.v _)⟩ ?_
                refine yd hg26_13 2 ?_
                refine ys 3 ⟨lk call15 (gj _ _ _ hv152)⟩ ?_
                refine yd hg26_19 3 ?_
                refine ye [192,6] ?_
                exact hl156 _ (zi h).symm
              ·refine yx hn 1 ?_
               refine ys 2 ⟨lI hv147⟩ ?_
               refine yS (vi v148.Reply.Code) 2 ⟨dp _ _ _ _ _ _ _ underlying3 rfl rfl rfl (dt (j:=0) cc.ilen hv148 rfl) (.v _)⟩ ?_
               refine yd hg26_6 1 ?_
               refine ys 2 ⟨lI hv150⟩ ?_
               refine yS (vi v151.Reply.Code) 2 ⟨dp _ _ _ _ _ _ _ underlying3 rfl rfl rfl (dt (j:=0) cc.ilen hv151 rfl) (.v _)⟩ ?_
               refine yd hg26_13 9 ?_
               refine ye [192,6] ?_
               exact hl156 _ (zi h).symm
          ·intro u143 h hl144 hr145
           refine bJ h (fun hg24_2 h => ?_) (fun hg24_2 h => ?_)
           ·refine yx hn 3 ?_
            refine yd hg24_2 19 ?_
            refine ye [192,7,14,15,169] ?_
            exact hl144 _ (zi h).symm
           ·refine bJ h (fun hg24_7 h => ?_) (fun hg24_7 h => ?_)
            ·refine yx hn 3 ?_
             refine yd hg24_2 5 ?_
             refine yd hg24_7 14 ?_
             refine ye [192,7,14,15,169] ?_
             exact hl144 _ (zi h).symm
            ·obtain ⟨v138, hv138, h⟩:=zn h
             obtain ⟨v139, hv139, h⟩:=zn h
             refine bJ h (fun hg24_16 h => ?_) (fun hg24_16 h => ?_)
             ·obtain ⟨v140, hv140, h⟩:=zn h
              refine yx hn 3 ?_
              refine yd hg24_2 5 ?_
              refine yd hg24_7 1 ?_
              refine ys 2 ⟨lI hv138⟩ ?_
              refine yS (vi v139.Reply.Code) 4 ⟨dp _ _ _ _ _ _ _ underlying3 rfl rfl rfl (dt (j:=0) cc.ilen hv139 rfl) (.v _)⟩ ?_
              refine yd hg24_16 3 ?_
              refine yS (vb (!((v139.Reply.Code==250)==true))) 1 ⟨IM _ _ _ _ underlying4 rfl rfl⟩ ?_
              refine ye [192,7,14,15,169] ?_
              exact hl144 _ (zi h).symm
             ·obtain ⟨v141, hv141, h⟩:=zn h
              refine yx hn 3 ?_
              refine yd hg24_2 5 ?_
              refine yd hg24_7 1 ?_
              refine ys 2 ⟨lI hv138⟩ ?_
              refine yS (vi v139.Reply.Code) 4 ⟨dp _ _ _ _ _ _ _ underlying3 rfl rfl rfl (dt (j:=0) cc.ilen hv139 rfl) (.v _)⟩ ?_
              refine yd hg24_16 3 ?_
              refine yS (vb (!((v139.Reply.Code==250)==((v137.toList==(⟨#[98]⟩:ByteArray).toList))))) 1 ⟨IM _ _ _ _ underlying4 rfl rfl⟩ ?_
              refine ye [192,7,14,15,169] ?_
              exact hl144 _ (zi h).symm
        ·rintro u113 hl114 hr115 ⟨s81, s82, s83, s84, s85, s86, s87, s88, s89, s90, s91⟩ rr118 h ho116
         refine aM ?_
         refine cF hn 3 [2,192,0,7,10,76] ?_
         refine bL _ rfl (fun hb119 => ?_) (fun hb119 => ?_)
         ·have h:=bT hb119 h
          refine bU ?_
          refine bb (aM ?_)
          refine cA ?_
          refine aM ?_
          obtain ⟨v37, hv37, h⟩:=zn h
          obtain ⟨v38, hv38, h⟩:=zn h
          refine sY (by kernel_rfl) hn (El:=(_::_::_::_::_::_::(80,.agg (co.c v37 []))::(81,.agg [vi s81,vs s82,vb s83,vs s84,vs s85,.fl .ro 3 (flatten (map bu.enc s86)),vb s87,.fl .ro 1 (map (int .u8) s88),vs s89,vb s90])::(82,.fl (.own 5) 1 (map (int .u8) [82,67,80,84,32,84,79,58,60,114,64,98,62,13,10]))::(83,.fl .ro 1 (map (int .u8) [82,67,80,84,32,84,79,58,60,114,64,98,62,13,10]))::(84,.tup [.agg [vi v38.1.Phase,vs v38.1.Helo,vb v38.1.From.Null,vs v38.1.From.Local,vs v38.1.From.Domain,.fl .ro 3 (flatten (map bu.enc v38.1.To)),vb v38.1.Quiet,.fl .ro 1 (map (int .u8) v38.1.Buf),vs v38.1.Challenge,vb v38.1.Proved],.fr .ro false 12 (flatten (map cc.ienc v38.2.1)),vi v38.2.2])::(79,.tup [.agg [vi v38.1.Phase,vs v38.1.Helo,vb v38.1.From.Null,vs v38.1.From.Local,vs v38.1.From.Domain,.fl .ro 3 (flatten (map bu.enc v38.1.To)),vb v38.1.Quiet,.fl .ro 1 (map (int .u8) v38.1.Buf),vs v38.1.Challenge,vb v38.1.Proved],.any,.any])::(79,.tup [.any,.fr .ro false 12 (flatten (map cc.ienc v38.2.1)),vi v38.2.2])::(85,.agg [vi v38.1.Phase,vs v38.1.Helo,vb v38.1.From.Null,vs v38.1.From.Local,vs v38.1.From.Domain,.fl .ro 3 (flatten (map bu.enc v38.1.To)),vb v38.1.Quiet,.fl .ro 1 (map (int .u8) v38.1.Buf),vs v38.1.Challenge,vb v38.1.Proved])::(79,.tup [.any,.any,.any])::(86,.fr .ro false 12 (flatten (map cc.ienc v38.2.1)))::(87,vi v38.2.2)::(11,.box 30 [vi 0,vs z0,vb false,vs z0,vs z0,vz,vb false,vz,vs z0,vb false])::(11,.box 30 [vi v38.1.Phase,vs v38.1.Helo,vb v38.1.From.Null,vs v38.1.From.Local,vs v38.1.From.Domain,.fl .ro 3 (flatten (map bu.enc v38.1.To)),vb v38.1.Quiet,.fl .ro 1 (map (int .u8) v38.1.Buf),vs v38.1.Challenge,vb v38.1.Proved])::(12,.fr .ro false 12 (flatten (map cc.ienc v38.2.1)))::(13,vi v38.2.2)::[])) (init:=[0,1,2,3,4,5]) (fin:=[0,1,2,3,4,18,19,20]) (sps:=[zq [] 6 80,zq [3] 7 81,zq [] 8 82,⟨[],[8],[9],[(.slot 83)]⟩,zq [6,7,9,1] 10 84,⟨[],[10],[11,12],[(.slot 79)]⟩,⟨[],[11],[14,13],[(.slot 85)]⟩,zq [12] 15 86,zq [12] 16 87,zq [] 17 11,⟨[13],[17],[18],[.cell 11 0,.cell 11 1,.cell 11 2,.cell 11 3,.cell 11 4,.cell 11 5,.cell 11 6,.cell 11 7,.cell 11 8,.cell 11 9]⟩,zq [15] 19 12,zq [16] 20 13]) (es':=[(_,_),(_,_),(_,_),(_,_),(_,_),(11,.box 30 [vi v38.1.Phase,vs v38.1.Helo,vb v38.1.From.Null,vs v38.1.From.Local,vs v38.1.From.Domain,.fl .ro 3 (flatten (map bu.enc v38.1.To)),vb v38.1.Quiet,.fl .ro 1 (map (int .u8) v38.1.Buf),vs v38.1.Challenge,vb v38.1.Proved]),(12,.fr .ro false 12 (flatten (map cc.ienc v38.2.1))),(13,vi v38.2.2)]) (by kernel_rfl) rfl rfl ⟨zp rfl (uX _ _ 20 _ _ rfl call20 rfl (gG  _ hv37) rfl rfl),zp rfl (yY _ _ _ _ _ _ _ underlying30 rfl uu rfl rfl (zl rfl) rfl rfl),zp rfl (dJ _ _ 1 (.int .u8 0) (map (int .u8) [82,67,80,84,32,84,79,58,60,114,64,98,62,13,10]) [(0,.int .u8 82),(1,.int .u8 67),(2,.int .u8 80),(3,.int .u8 84),(4,.int .u8 32),(5,.int .u8 84),(6,.int .u8 79),(7,.int .u8 58),(8,.int .u8 60),(9,.int .u8 114),(10,.int .u8 64),(11,.int .u8 98),(12,.int .u8 62),(13,.int .u8 13),(14,.int .u8 10)] underlying28 qp zS (fun _ V w o a hv hes=>by simp only [List.map_toArray,List.map_cons,List.map_nil]; try rfl) (fT (by simp [Instr.fill,Value.cells]; rfl) (by simp [List.range,List.range.loop] <;> rfl)) (by simp [Value.oneCell']) rfl (by decide) (by decide) (by decide)),zp rfl (jq _ _ _ underlying28 underlying5 (by intro h; cases h)),zp rfl (uW _ _ 192 13 _ _ rfl call13 rfl rfl (fun _ h=>h) (oW mx ((co.r v37)) 0 1 ((cq.mk s81 s82 (bu.mk s83 s84 s85) s86 s87 s88 s89 s90)) [82,67,80,84,32,84,79,58,60,114,64,98,62,13,10] _ hv38) rfl rfl),zp rfl (cM.split (A:=[]) 79 0 _ _ _ (mS _ _ _ _ rfl) (zl rfl) rfl rfl),zp rfl (jD _ _ _ _ _ rfl (zl rfl) rfl rfl (by decide) rfl),zp rfl (oE rfl),zp rfl (oE rfl),zp rfl (dh _ _ Ao),zp rfl (oS uu rfl),z2 rfl,z2 rfl,zz⟩ ?_
          refine bb (aM ?_)
          refine aM ?_
          refine ce h (fun (s120:Bool)=>[(2,vs domain),(192,.glob (GL mx)),(0,vi v3),(7,.box 30 [vi s81,vs s82,vb s83,vs s84,vs s85,.fl .ro 3 (flatten (map bu.enc s86)),vb s87,.fl .ro 1 (map (int .u8) s88),vs s89,vb s90]),(10,vi s91),(11,.box 30 [vi v38.1.Phase,vs v38.1.Helo,vb v38.1.From.Null,vs v38.1.From.Local,vs v38.1.From.Domain,.fl .ro 3 (flatten (map bu.enc v38.1.To)),vb v38.1.Quiet,.fl .ro 1 (map (int .u8) v38.1.Buf),vs v38.1.Challenge,vb v38.1.Proved]),(12,.fr .ro false 12 (flatten (map cc.ienc v38.2.1))),(94,vb s120)]) ?_ ?_
          ·rintro s120 h
           refine bb ?_
           refine bL _ rfl (fun hb124 => ?_) (fun hb124 => ?_)
           ·have h:=bT hb124 h
            refine cF hn 1 [192,6] ?_
            refine bO ?_
            refine bG [1] (by kernel_rfl) (es':=[(_,_)]) rfl ?_
            refine bw ?_
            refine cC ?_
            refine bw ?_
            refine bw ?_
            refine cC ?_
            refine bw ?_
            have h:=hr115 _ (ho116 _ (zi h).symm).symm
            obtain rfl:=zi h
            exact bP hio rfl (.tmp _ _ .nil) rfl rfl
           ·have h:=bQ hb124 h
            refine bU ?_
            refine bb (aM ?_)
            refine aM ?_
            refine ce h (fun (s125:Bool)=>[(2,vs domain),(192,.glob (GL mx)),(0,vi v3),(7,.box 30 [vi s81,vs s82,vb s83,vs s84,vs s85,.fl .ro 3 (flatten (map bu.enc s86)),vb s87,.fl .ro 1 (map (int .u8) s88),vs s89,vb s90]),(10,vi s91),(11,.box 30 [vi v38.1.Phase,vs v38.1.Helo,vb v38.1.From.Null,vs v38.1.From.Local,vs v38.1.From.Domain,.fl .ro 3 (flatten (map bu.enc v38.1.To)),vb v38.1.Quiet,.fl .ro 1 (map (int .u8) v38.1.Buf),vs v38.1.Challenge,vb v38.1.Proved]),(130,vb s125)]) ?_ ?_
            ·rintro s125 h
             refine bb ?_
             refine bL _ rfl (fun hb129 => ?_) (fun hb129 => ?_)
             ·have h:=bT hb129 h
              refine cF hn 1 [192,6] ?_
              refine bO ?_
              refine bG [1] (by kernel_rfl) (es':=[(_,_)]) rfl ?_
              refine bw ?_
              refine cC ?_
              refine bw ?_
              refine bw ?_
              refine cC ?_
              refine bw ?_
              have h:=hr115 _ (ho116 _ (zi h).symm).symm
              obtain rfl:=zi h
              exact bP hio rfl (.tmp _ _ .nil) rfl rfl
             ·have h:=bQ hb129 h
              refine bU ?_
              refine bb ?_
              refine yy hn 2 [2,192,0,7,10] ?_
              refine cG ?_
              refine bb ?_
              obtain ⟨v58, hv58, h⟩:=zn h
              refine yx hn 1 ?_
              refine ys 0 ⟨lb hv58⟩ ?_
              refine yw [10] 1 ?_
              refine ye [2,192,0,7,10] ?_
              exact dM _ (zi h).symm rfl
            ·intro u126 h hl127 hr128
             refine bJ h (fun hg17_2 h => ?_) (fun hg17_2 h => ?_)
             ·obtain ⟨v44, hv44, h⟩:=zn h
              obtain ⟨v45, hv45, h⟩:=zn h
              refine bJ h (fun hg17_9 h => ?_) (fun hg17_9 h => ?_)
              ·refine yx hn 3 ?_
               refine yd hg17_2 1 ?_
               refine ys 2 ⟨lI hv44⟩ ?_
               refine yS (vi v45.Reply.Code) 2 ⟨dp _ _ _ _ _ _ _ underlying3 rfl rfl rfl (dt (j:=0) cc.ilen hv45 rfl) (.v _)⟩ ?_
               refine yd hg17_9 26 ?_
               refine ye [2,192,0,7,10,11,130] ?_
               exact hl127 _ (zi h).symm
              ·obtain ⟨v46, hv46, h⟩:=zn h
               refine bJ h (fun hg17_16 h => ?_) (fun hg17_16 h => ?_)
               ·refine yx hn 3 ?_
                refine yd hg17_2 1 ?_
                refine ys 2 ⟨lI hv44⟩ ?_
                refine yS (vi v45.Reply.Code) 2 ⟨dp _ _ _ _ _ _ _ underlying3 rfl rfl rfl (dt (j:=0) cc.ilen hv45 rfl) (.v _)⟩ ?_
                refine yd hg17_9 2 ?_
                refine ys 4 ⟨lk call15 (gj _ _ _ hv46)⟩ ?_
                refine yd hg17_16 19 ?_
                refine ye [2,192,0,7,10,11,130] ?_
                exact hl127 _ (zi h).symm
               ·refine bJ h (fun hg17_19 h => ?_) (fun hg17_19 h => ?_)
                ·obtain ⟨v47, hv47, h⟩:=zn h
                 obtain ⟨v48, hv48, h⟩:=zn h
                 refine bJ h (fun hg17_26 h => ?_) (fun hg17_26 h => ?_)
                 ·refine yx hn 3 ?_
                  refine yd hg17_2 1 ?_
                  refine ys 2 ⟨lI hv44⟩ ?_
                  refine yS (vi v45.Reply.Code) 2 ⟨dp _ _ _ _ _ _ _ underlying3 rfl rfl rfl (dt (j:=0) cc.ilen hv45 rfl) (.v _)⟩ ?_
                  refine yd hg17_9 2 ?_
                  refine ys 4 ⟨lk call15 (gj _ _ _ hv46)⟩ ?_
                  refine yd hg17_16 3 ?_
                  refine yd hg17_19 1 ?_
                  refine ys 2 ⟨lI hv47⟩ ?_
                  refine yS (vi v48.Reply.Code) 2 ⟨dp _ _ _ _ _ _ _ underlying3 rfl rfl rfl (dt (j:=0) cc.ilen hv48 rfl) (.v _)⟩ ?_
                  refine yd hg17_26 9 ?_
                  refine ye [2,192,0,7,10,11,130] ?_
                  exact hl127 _ (zi h).symm
                 ·obtain ⟨v49, hv49, h⟩:=zn h
                  refine yx hn 3 ?_
                  refine yd hg17_2 1 ?_
                  refine ys 2 ⟨lI hv44⟩ ?_
                  refine yS (vi v45.Reply.Code) 2 ⟨dp _ _ _ _ _ _ _ underlying3 rfl rfl rfl (dt (j:=0) cc.ilen hv45 rfl) (.v _)⟩ ?_
                  refine yd hg17_9 2 ?_
                  refine ys 4 ⟨lk call15 (gj _ _ _ hv46)⟩ ?_
                  refine yd hg17_16 3 ?_
                  refine yd hg17_19 1 ?_
                  refine ys 2 ⟨lI hv47⟩ ?_
                  refine yS (vi v48.Reply.Code) 2 ⟨dp _ _ _ _ _ _ _ underlying3 rfl rfl rfl (dt (j:=0) cc.ilen hv48 rfl) (.v _)⟩ ?_
                  refine yd hg17_26 4 ?_
                  refine ys 4 ⟨lb hv49⟩ ?_
                  refine ye [2,192,0,7,10,11,130] ?_
                  exact hl127 _ (zi h).symm
                ·refine yx hn 3 ?_
                 refine yd hg17_2 1 ?_
                 refine ys 2 ⟨lI hv44⟩ ?_
                 refine yS (vi v45.Reply.Code) 2 ⟨dp _ _ _ _ _ _ _ underlying3 rfl rfl rfl (dt (j:=0) cc.ilen hv45 rfl) (.v _)⟩ ?_
                 refine yd hg17_9 2 ?_
                 refine ys 4 ⟨lk call15 (gj _ _ _ hv46)⟩ ?_
                 refine yd hg17_16 3 ?_
                 refine yd hg17_19 16 ?_
                 refine ye [2,192,0,7,10,11,130] ?_
                 exact hl127 _ (zi h).symm
             ·refine bJ h (fun hg17_19 h => ?_) (fun hg17_19 h => ?_)
              ·obtain ⟨v50, hv50, h⟩:=zn h
               obtain ⟨v51, hv51, h⟩:=zn h
               refine bJ h (fun hg17_26 h => ?_) (fun hg17_26 h => ?_)
               ·refine yx hn 3 ?_
                refine yd hg17_2 17 ?_
                refine yd hg17_19 1 ?_
                refine ys 2 ⟨lI hv50⟩ ?_
                refine yS (vi v51.Reply.Code) 2 ⟨dp _ _ _ _ _ _ _ underlying3 rfl rfl rfl (dt (j:=0) cc.ilen hv51 rfl) (.v _)⟩ ?_
                refine yd hg17_26 9 ?_
                refine ye [2,192,0,7,10,11,130] ?_
                exact hl127 _ (zi h).symm
               ·obtain ⟨v52, hv52, h⟩:=zn h
                refine yx hn 3 ?_
                refine yd hg17_2 17 ?_
                refine yd hg17_19 1 ?_
                refine ys 2 ⟨lI hv50⟩ ?_
                refine yS (vi v51.Reply.Code) 2 ⟨dp _ _ _ _ _ _ _ underlying3 rfl rfl rfl (dt (j:=0) cc.ilen hv51 rfl) (.v _)⟩ ?_
                refine yd hg17_26 4 ?_
                refine ys 4 ⟨lb hv52⟩ ?_
                refine ye [2,192,0,7,10,11,130] ?_
                exact hl127 _ (zi h).symm
              ·refine yx hn 3 ?_
               refine yd hg17_2 17 ?_
               refine yd hg17_19 16 ?_
               refine ye [2,192,0,7,10,11,130] ?_
               exact hl127 _ (zi h).symm
          ·intro u121 h hl122 hr123
           refine bJ h (fun hg15_2 h => ?_) (fun hg15_2 h => ?_)
           ·refine yx hn 3 ?_
            refine yd hg15_2 4 ?_
            refine ye [2,192,0,7,10,11,12,94] ?_
            exact hl122 _ (zi h).symm
           ·refine yx hn 3 ?_
            refine yd hg15_2 4 ?_
            refine ye [2,192,0,7,10,11,12,94] ?_
            exact hl122 _ (zi h).symm
         ·have h:=bQ hb119 h
          refine dK ?_
          refine cd ?_
          refine cd ?_
          refine dL ?_
          refine bG [0,1,2,3] (by kernel_rfl) (es':=[(_,_),(_,_),(_,_),(_,_)]) rfl ?_
          exact hl114 _ (ho116 _ (zi h).symm).symm
    ·intro u21 h hl22 hr23
     refine bJ h (fun hg5_2 h => ?_) (fun hg5_2 h => ?_)
     ·refine yx hn 3 ?_
      refine yd hg5_2 4 ?_
      refine ye [2,192,0,1,7,8,51] ?_
      exact hl22 _ (zi h).symm
     ·refine yx hn 3 ?_
      refine yd hg5_2 4 ?_
      refine ye [2,192,0,1,7,8,51] ?_
      exact hl22 _ (zi h).symm
  ·intro u9 h hl10 hr11
   refine bJ h (fun hg2_3 h => ?_) (fun hg2_3 h => ?_)
   ·refine yx hn 4 ?_
    refine yd hg2_3 4 ?_
    refine ye [2,192,0,1,32] ?_
    exact hl10 _ (zi h).symm
   ·obtain ⟨v7, hv7, h⟩:=zn h
    refine yx hn 4 ?_
    refine yd hg2_3 1 ?_
    refine ys 2 ⟨lk call28 (rH _ _ hv7)⟩ ?_
    refine ye [2,192,0,1,32] ?_
    exact hl10 _ (zi h).symm

end Go.Proofs.YtjnnkhmhjcjhdaaGreatDoor
