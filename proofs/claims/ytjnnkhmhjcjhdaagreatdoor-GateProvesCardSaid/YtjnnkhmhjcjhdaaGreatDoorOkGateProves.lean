import Derived.Test.YtjnnkhmhjcjhdaaGreatDoorOkc10
set_option linter.unusedVariables false
set_option linter.unusedSimpArgs false
set_option maxHeartbeats 1000000
namespace Go.Proofs.YtjnnkhmhjcjhdaaGreatDoor
open Go.Abs Go.Abs.Sh Tryz
open List (map flatten)
open Value (int)

theorem kf (mx:Int×Nat×Value) (i:Int) (challenge:JH) (answer:JH) (domain:JH) (r:Bool) (h:Sh.dB i challenge answer domain=some r):gW Tryz.prog (GL mx) 5 [.v (.int .i64 i),.v (.string challenge),.v (.string answer),.v (.string domain)] (.v (.bool r)):=by
 unfold Sh.dB at h
 refine yG 198 func5 fun g0 hn hio => ?_
 refine aL hn 1 [0,1,2,3,198] ?_
 refine ab (ab ?_)
 refine aC h (fun (s3:Bool)=>[(0,vi i),(1,vs challenge),(2,vs answer),(3,vs domain),(198,.glob (GL mx)),(45,vb s3)]) ?_ ?_
 ·rintro s3 h
  refine ae ?_
  refine al _ rfl (fun hb7 => ?_) (fun hb7 => ?_)
  ·have h:=ar hb7 h
   refine aL hn 1 [198,8] ?_
   refine ao ?_
   refine ag [1] (by kernel_rfl) (es':=[(_,_)]) rfl ?_
   refine ai ?_
   obtain rfl:=zi h
   exact ay hio rfl (.tmp _ _ .nil) rfl rfl
  ·have h:=aq hb7 h
   refine au ?_
   refine ae (ab ?_)
   refine aL hn 1 [0,1,2,3,198,9] ?_
   refine aZ h (fun (s24:Int)=>[(0,vi i),(1,vs challenge),(2,vs answer),(3,vs domain),(198,.glob (GL mx)),(9,vi s24)]) (fun (():Unit)=>[(0,vi i),(1,vs challenge),(2,vs answer),(3,vs domain),(198,.glob (GL mx))]) ?_ ?_
   ·rintro ⟨⟩ h
    refine ae (ab ?_)
    obtain ⟨v43,hv43,h⟩:=zn h
    obtain ⟨v44,hv44,h⟩:=zn h
    obtain ⟨v45,hv45,h⟩:=zn h
    refine yx hn 1 ?_
    refine ys 0 ⟨lv hv43⟩ ?_
    refine ys 0 ⟨lB (gC hv44)⟩ ?_
    refine ys 0 ⟨lv hv45⟩ ?_
    refine yw [0] 1 ?_
    refine ba [1,2,3,198,0] ?_
    refine ab ?_
    obtain ⟨v46,hv46,h⟩:=zn h
    refine yx hn 1 ?_
    refine ys 1 ⟨lk call29 (mh _ _ _ _ hv46)⟩ ?_
    refine ba [1,2,3,198,0,10] ?_
    refine ab ?_
    obtain ⟨v47,hv47,h⟩:=zn h
    obtain ⟨v48,hv48,h⟩:=zn h
    obtain ⟨v49,hv49,h⟩:=zn h
    obtain ⟨v50,hv50,h⟩:=zn h
    refine yx hn 0 ?_
    refine ys 0 ⟨lk call20 (dv _ hv47)⟩ ?_
    refine yS (.v (.agg (map Value.string (([(v47.Jg.getD 0 z0),(v47.Jg.getD 1 z0)]:List JH))).toArray)) 1 ⟨Au _ 69 68 0 (map Value.string ([(v47.Jg.getD 0 z0),(v47.Jg.getD 1 z0)]:List JH)) underlying24 rfl underlying22 rfl Gp rfl rfl⟩ ?_
    refine ys 0 ⟨lb hv48⟩ ?_
    refine yS (vs v50) 1 ⟨lG _ _ _ _ 2 v49 underlying22 tb rfl (congrArg (fun j=>AV.v (int .i64 j)) (bz hv49).1) (bz hv49).2 (cY hv50) ⟨_,underlying9,rfl⟩⟩ ?_
    refine ba [1,2,3,198,0,10,11] ?_
    refine ab ?_
    obtain ⟨v51,hv51,h⟩:=zn h
    obtain ⟨v52,hv52,h⟩:=zn h
    obtain ⟨v53,hv53,h⟩:=zn h
    obtain ⟨v54,hv54,h⟩:=zn h
    obtain ⟨v55,hv55,h⟩:=zn h
    obtain ⟨v56,hv56,h⟩:=zn h
    obtain ⟨v57,hv57,h⟩:=zn h
    obtain ⟨v58,hv58,h⟩:=zn h
    refine yx hn 0 ?_
    refine ys 2 ⟨lk call20 (dv _ hv51)⟩ ?_
    refine ys 1 ⟨lk call22 (mz _ _ hv52)⟩ ?_
    refine ys 0 ⟨lB (cK hv53)⟩ ?_
    refine ys 1 ⟨lB (cK hv54)⟩ ?_
    refine ys 0 ⟨lB (cK hv55)⟩ ?_
    refine ys 0 ⟨lB (cK hv56)⟩ ?_
    refine ys 0 ⟨lT hv57⟩ ?_
    refine ys 0 ⟨lg call13 (lF _ _ _ _ _ _ _ hv58) 198⟩ ?_
    refine ym 0 ?_
    refine yS (.agg [vi v58.1.Jz,vs v58.1.Jm,vb v58.1.Ji.Ju,vs v58.1.Ji.Jq,vs v58.1.Ji.Jf,.fl .ro 3 (flatten (map ah.enc v58.1.To)),vb v58.1.JB,.fl .ro 1 (map (int .u8) v58.1.Jc),vs v58.1.Jd,vb v58.1.JA]) 2 ⟨et _ _ _ _ _ _ rfl rfl (zl rfl) rfl rfl⟩ ?_
    refine yS (.box 30 [vi 0,vs z0,vb false,vs z0,vs z0,vz,vb false,vz,vs z0,vb false]) 3 ⟨oA (bj _ _ uK)⟩ ?_
    refine ba [1,2,3,198,0,10,11,13,14] ?_
    refine ab ?_
    obtain ⟨v59,hv59,h⟩:=zn h
    obtain ⟨v60,hv60,h⟩:=zn h
    obtain ⟨v61,hv61,h⟩:=zn h
    obtain ⟨v62,hv62,h⟩:=zn h
    obtain ⟨v63,hv63,h⟩:=zn h
    obtain ⟨v64,hv64,h⟩:=zn h
    refine yx hn 0 ?_
    refine ys 2 ⟨lk call20 (dv _ hv59)⟩ ?_
    refine ys 1 ⟨lk call22 (mz _ _ hv60)⟩ ?_
    refine ys 0 ⟨lB (cK hv61)⟩ ?_
    refine ys 0 ⟨lB (cK hv62)⟩ ?_
    refine ys 0 ⟨lT hv63⟩ ?_
    refine ys 0 ⟨lg call13 (lF _ _ _ _ _ _ _ hv64) 198⟩ ?_
    refine ym 0 ?_
    refine yS (.agg [vi v64.1.Jz,vs v64.1.Jm,vb v64.1.Ji.Ju,vs v64.1.Ji.Jq,vs v64.1.Ji.Jf,.fl .ro 3 (flatten (map ah.enc v64.1.To)),vb v64.1.JB,.fl .ro 1 (map (int .u8) v64.1.Jc),vs v64.1.Jd,vb v64.1.JA]) 2 ⟨et _ _ _ _ _ _ rfl rfl (zl rfl) rfl rfl⟩ ?_
    refine yS (.box 30 [vi 0,vs z0,vb false,vs z0,vs z0,vz,vb false,vz,vs z0,vb false]) 3 ⟨oA (bj _ _ uK)⟩ ?_
    refine ba [2,3,198,10,11,13,14,16,17] ?_
    refine ab (ab ?_)
    refine aC h (fun (s71:Bool)=>[(2,vs answer),(3,vs domain),(198,.glob (GL mx)),(10,vs v46),(11,vs v50),(13,.fr .ro false 12 (flatten (map aA.ienc v58.2.1))),(16,.fr .ro false 12 (flatten (map aA.ienc v64.2.1))),(139,vb s71)]) ?_ ?_
    ·rintro s71 h
     refine ae ?_
     refine al _ rfl (fun hb75 => ?_) (fun hb75 => ?_)
     ·have h:=ar hb75 h
      refine aL hn 1 [198,8] ?_
      refine ao ?_
      refine ag [1] (by kernel_rfl) (es':=[(_,_)]) rfl ?_
      refine ai ?_
      obtain rfl:=zi h
      exact ay hio rfl (.tmp _ _ .nil) rfl rfl
     ·have h:=aq hb75 h
      refine au ?_
      refine ae (ab ?_)
      obtain ⟨v76,hv76,h⟩:=zn h
      obtain ⟨v77,hv77,h⟩:=zn h
      refine yx hn 1 ?_
      refine ys 1 ⟨lk call30 (jB _ _ hv76)⟩ ?_
      refine ys 2 ⟨lk call30 (jB _ _ hv77)⟩ ?_
      refine ba [2,198,10,13,16,18] ?_
      refine aL hn 4 [198,13,16,18,19] ?_
      refine aL hn 2 [198,13,16,18,19,20,21] ?_
      refine ab ?_
      refine aC h (fun ((s80,s81):Int×Int)=>[(198,.glob (GL mx)),(13,.fr .ro false 12 (flatten (map aA.ienc v58.2.1))),(16,.fr .ro false 12 (flatten (map aA.ienc v64.2.1))),(18,vb (v76.toList==v77.toList)),(19,vb (answer.toList==v46.toList)),(21,vi s80),(20,vi s81)]) ?_ ?_
      ·rintro ⟨s80,s81⟩ h
       refine ae ?_
       refine aL hn 1 [198,13,16,18,19,21,20,22] ?_
       refine ab ?_
       refine aC h (fun (s88:Int)=>[(198,.glob (GL mx)),(13,.fr .ro false 12 (flatten (map aA.ienc v58.2.1))),(16,.fr .ro false 12 (flatten (map aA.ienc v64.2.1))),(18,vb (v76.toList==v77.toList)),(19,vb (answer.toList==v46.toList)),(21,vi s80),(20,vi s81),(22,vi s88)]) ?_ ?_
       ·rintro s88 h
        refine ae (ab ?_)
        refine aC h (fun (s113:Bool)=>[(198,.glob (GL mx)),(8,vb s113)]) ?_ ?_
        ·rintro s113 h
         refine ae (ao ?_)
         refine ag [1] (by kernel_rfl) (es':=[(_,_)]) rfl ?_
         obtain rfl:=zi h
         exact ay hio rfl (.tmp _ _ .nil) rfl rfl
        ·intro u114 h hl115 hr116
         obtain ⟨v93,hv93,h⟩:=zn h
         obtain ⟨v94,hv94,h⟩:=zn h
         refine am h (fun hg26_7 h => ?_) (fun hg26_7 h => ?_)
         ·obtain ⟨v95,hv95,h⟩:=zn h
          obtain ⟨v96,hv96,h⟩:=zn h
          refine am h (fun hg26_16 h => ?_) (fun hg26_16 h => ?_)
          ·obtain ⟨v97,hv97,h⟩:=zn h
           obtain ⟨v98,hv98,h⟩:=zn h
           refine am h (fun hg26_22 h => ?_) (fun hg26_22 h => ?_)
           ·obtain ⟨v99,hv99,h⟩:=zn h
            refine am h (fun hg26_27 h => ?_) (fun hg26_27 h => ?_)
            ·obtain ⟨v100,hv100,h⟩:=zn h
             obtain ⟨v101,hv101,h⟩:=zn h
             refine am h (fun hg26_36 h => ?_) (fun hg26_36 h => ?_)
             ·obtain ⟨v102,hv102,h⟩:=zn h
              obtain ⟨v103,hv103,h⟩:=zn h
              obtain ⟨v104,hv104,h⟩:=zn h
              refine am h (fun hg26_44 h => ?_) (fun hg26_44 h => ?_)
              ·obtain ⟨v105,hv105,h⟩:=zn h
               refine yx hn 1 ?_
               refine ys 2 ⟨lI hv93⟩ ?_
               refine yS (vi v94.JC.Je) 3 ⟨aN _ _ _ _ _ _ _ underlying3 rfl rfl rfl (aM (j:=0) aA.ilen hv94 rfl) (.v _)⟩ ?_
               refine yd hg26_7 1 ?_
               refine ys 2 ⟨lI hv95⟩ ?_
               refine yS (vi v96.JC.Je) 4 ⟨aN _ _ _ _ _ _ _ underlying3 rfl rfl rfl (aM (j:=0) aA.ilen hv96 rfl) (.v _)⟩ ?_
               refine yd hg26_16 1 ?_
               refine ys 1 ⟨lI hv97⟩ ?_
               refine yS (vb v98.Ja) 2 ⟨aN _ _ _ _ _ _ _ underlying4 rfl rfl rfl (aM aA.ilen hv98 rfl) (.v _)⟩ ?_
               refine yd hg26_22 2 ?_
               refine yS (vb (v98.Ja==(v76.toList==v77.toList))) 2 ⟨jA _ _ _ _ underlying4 rfl rfl⟩ ?_
               refine yd hg26_27 1 ?_
               refine ys 2 ⟨lI hv100⟩ ?_
               refine yS (vi v101.JC.Je) 4 ⟨aN _ _ _ _ _ _ _ underlying3 rfl rfl rfl (aM (j:=0) aA.ilen hv101 rfl) (.v _)⟩ ?_
               refine yd hg26_36 1 ?_
               refine ys 1 ⟨lI hv102⟩ ?_
               refine yS (vb v103.Ja) 1 ⟨aN _ _ _ _ _ _ _ underlying4 rfl rfl rfl (aM aA.ilen hv103 rfl) (.v _)⟩ ?_
               refine yS (vb (v103.Ja==(v76.toList==v77.toList))) 2 ⟨jA _ _ _ _ underlying4 rfl rfl⟩ ?_
               refine yd hg26_44 0 ?_
               refine ys 2 ⟨lg call14 (jg _ _ hv105) 198⟩ ?_
               refine ye [198,8] ?_
               exact hl115 _ (zi h).symm
              ·refine yx hn 1 ?_
               refine ys 2 ⟨lI hv93⟩ ?_
               refine yS (vi v94.JC.Je) 3 ⟨aN _ _ _ _ _ _ _ underlying3 rfl rfl rfl (aM (j:=0) aA.ilen hv94 rfl) (.v _)⟩ ?_
               refine yd hg26_7 1 ?_
               refine ys 2 ⟨lI hv95⟩ ?_
               refine yS (vi v96.JC.Je) 4 ⟨aN _ _ _ _ _ _ _ underlying3 rfl rfl rfl (aM (j:=0) aA.ilen hv96 rfl) (.v _)⟩ ?_
               refine yd hg26_16 1 ?_
               refine ys 1 ⟨lI hv97⟩ ?_
               refine yS (vb v98.Ja) 2 ⟨aN _ _ _ _ _ _ _ underlying4 rfl rfl rfl (aM aA.ilen hv98 rfl) (.v _)⟩ ?_
               refine yd hg26_22 2 ?_
               refine yS (vb (v98.Ja==(v76.toList==v77.toList))) 2 ⟨jA _ _ _ _ underlying4 rfl rfl⟩ ?_
               refine yd hg26_27 1 ?_
               refine ys 2 ⟨lI hv100⟩ ?_
               refine yS (vi v101.JC.Je) 4 ⟨aN _ _ _ _ _ _ _ underlying3 rfl rfl rfl (aM (j:=0) aA.ilen hv101 rfl) (.v _)⟩ ?_
               refine yd hg26_36 1 ?_
               refine ys 1 ⟨lI hv102⟩ ?_
               refine yS (vb v103.Ja) 1 ⟨aN _ _ _ _ _ _ _ underlying4 rfl rfl rfl (aM aA.ilen hv103 rfl) (.v _)⟩ ?_
               refine yS (vb (v103.Ja==(v76.toList==v77.toList))) 2 ⟨jA _ _ _ _ underlying4 rfl rfl⟩ ?_
               refine yd hg26_44 3 ?_
               refine ye [198,8] ?_
               exact hl115 _ (zi h).symm
             ·refine yx hn 1 ?_
              refine ys 2 ⟨lI hv93⟩ ?_
              refine yS (vi v94.JC.Je) 3 ⟨aN _ _ _ _ _ _ _ underlying3 rfl rfl rfl (aM (j:=0) aA.ilen hv94 rfl) (.v _)⟩ ?_
              refine yd hg26_7 1 ?_
              refine ys 2 ⟨lI hv95⟩ ?_
              refine yS (vi v96.JC.Je) 4 ⟨aN _ _ _ _ _ _ _ underlying3 rfl rfl rfl (aM (j:=0) aA.ilen hv96 rfl) (.v _)⟩ ?_
              refine yd hg26_16 1 ?_
              refine ys 1 ⟨lI hv97⟩ ?_
              refine yS (vb v98.Ja) 2 ⟨aN _ _ _ _ _ _ _ underlying4 rfl rfl rfl (aM aA.ilen hv98 rfl) (.v _)⟩ ?_
              refine yd hg26_22 2 ?_
              refine yS (vb (v98.Ja==(v76.toList==v77.toList))) 2 ⟨jA _ _ _ _ underlying4 rfl rfl⟩ ?_
              refine yd hg26_27 1 ?_
              refine ys 2 ⟨lI hv100⟩ ?_
              refine yS (vi v101.JC.Je) 4 ⟨aN _ _ _ _ _ _ _ underlying3 rfl rfl rfl (aM (j:=0) aA.ilen hv101 rfl) (.v _)⟩ ?_
              refine yd hg26_36 11 ?_
              refine ye [198,8] ?_
              exact hl115 _ (zi h).symm
            ·refine yx hn 1 ?_
             refine ys 2 ⟨lI hv93⟩ ?_
             refine yS (vi v94.JC.Je) 3 ⟨aN _ _ _ _ _ _ _ underlying3 rfl rfl rfl (aM (j:=0) aA.ilen hv94 rfl) (.v _)⟩ ?_
             refine yd hg26_7 1 ?_
             refine ys 2 ⟨lI hv95⟩ ?_
             refine yS (vi v96.JC.Je) 4 ⟨aN _ _ _ _ _ _ _ underlying3 rfl rfl rfl (aM (j:=0) aA.ilen hv96 rfl) (.v _)⟩ ?_
             refine yd hg26_16 1 ?_
             refine ys 1 ⟨lI hv97⟩ ?_
             refine yS (vb v98.Ja) 2 ⟨aN _ _ _ _ _ _ _ underlying4 rfl rfl rfl (aM aA.ilen hv98 rfl) (.v _)⟩ ?_
             refine yd hg26_22 2 ?_
             refine yS (vb (v98.Ja==(v76.toList==v77.toList))) 2 ⟨jA _ _ _ _ underlying4 rfl rfl⟩ ?_
             refine yd hg26_27 20 ?_
             refine ye [198,8] ?_
             exact hl115 _ (zi h).symm
           ·obtain ⟨v106,hv106,h⟩:=zn h
            refine am h (fun hg26_27 h => ?_) (fun hg26_27 h => ?_)
            ·obtain ⟨v107,hv107,h⟩:=zn h
             obtain ⟨v108,hv108,h⟩:=zn h
             refine am h (fun hg26_36 h => ?_) (fun hg26_36 h => ?_)
             ·obtain ⟨v109,hv109,h⟩:=zn h
              obtain ⟨v110,hv110,h⟩:=zn h
              obtain ⟨v111,hv111,h⟩:=zn h
              refine am h (fun hg26_44 h => ?_) (fun hg26_44 h => ?_)
              ·obtain ⟨v112,hv112,h⟩:=zn h
               refine yx hn 1 ?_
               refine ys 2 ⟨lI hv93⟩ ?_
               refine yS (vi v94.JC.Je) 3 ⟨aN _ _ _ _ _ _ _ underlying3 rfl rfl rfl (aM (j:=0) aA.ilen hv94 rfl) (.v _)⟩ ?_
               refine yd hg26_7 1 ?_
               refine ys 2 ⟨lI hv95⟩ ?_
               refine yS (vi v96.JC.Je) 4 ⟨aN _ _ _ _ _ _ _ underlying3 rfl rfl rfl (aM (j:=0) aA.ilen hv96 rfl) (.v _)⟩ ?_
               refine yd hg26_16 1 ?_
               refine ys 1 ⟨lI hv97⟩ ?_
               refine yS (vb v98.Ja) 2 ⟨aN _ _ _ _ _ _ _ underlying4 rfl rfl rfl (aM aA.ilen hv98 rfl) (.v _)⟩ ?_
               refine yd hg26_22 2 ?_
               refine yS (vb (v98.Ja==false)) 2 ⟨jA _ _ _ _ underlying4 rfl rfl⟩ ?_
               refine yd hg26_27 1 ?_
               refine ys 2 ⟨lI hv107⟩ ?_
               refine yS (vi v108.JC.Je) 4 ⟨aN _ _ _ _ _ _ _ underlying3 rfl rfl rfl (aM (j:=0) aA.ilen hv108 rfl) (.v _)⟩ ?_
               refine yd hg26_36 1 ?_
               refine ys 1 ⟨lI hv109⟩ ?_
               refine yS (vb v110.Ja) 1 ⟨aN _ _ _ _ _ _ _ underlying4 rfl rfl rfl (aM aA.ilen hv110 rfl) (.v _)⟩ ?_
               refine yS (vb (v110.Ja==(v76.toList==v77.toList))) 2 ⟨jA _ _ _ _ underlying4 rfl rfl⟩ ?_
               refine yd hg26_44 0 ?_
               refine ys 2 ⟨lg call14 (jg _ _ hv112) 198⟩ ?_
               refine ye [198,8] ?_
               exact hl115 _ (zi h).symm
              ·refine yx hn 1 ?_
               refine ys 2 ⟨lI hv93⟩ ?_
               refine yS (vi v94.JC.Je) 3 ⟨aN _ _ _ _ _ _ _ underlying3 rfl rfl rfl (aM (j:=0) aA.ilen hv94 rfl) (.v _)⟩ ?_
               refine yd hg26_7 1 ?_
               refine ys 2 ⟨lI hv95⟩ ?_
               refine yS (vi v96.JC.Je) 4 ⟨aN _ _ _ _ _ _ _ underlying3 rfl rfl rfl (aM (j:=0) aA.ilen hv96 rfl) (.v _)⟩ ?_
               refine yd hg26_16 1 ?_
               refine ys 1 ⟨lI hv97⟩ ?_
               refine yS (vb v98.Ja) 2 ⟨aN _ _ _ _ _ _ _ underlying4 rfl rfl rfl (aM aA.ilen hv98 rfl) (.v _)⟩ ?_
               refine yd hg26_22 2 ?_
               refine yS (vb (v98.Ja==false)) 2 ⟨jA _ _ _ _ underlying4 rfl rfl⟩ ?_
               refine yd hg26_27 1 ?_
               refine ys 2 ⟨lI hv107⟩ ?_
               refine yS (vi v108.JC.Je) 4 ⟨aN _ _ _ _ _ _ _ underlying3 rfl rfl rfl (aM (j:=0) aA.ilen hv108 rfl) (.v _)⟩ ?_
               refine yd hg26_36 1 ?_
               refine ys 1 ⟨lI hv109⟩ ?_
               refine yS (vb v110.Ja) 1 ⟨aN _ _ _ _ _ _ _ underlying4 rfl rfl rfl (aM aA.ilen hv110 rfl) (.v _)⟩ ?_
               refine yS (vb (v110.Ja==(v76.toList==v77.toList))) 2 ⟨jA _ _ _ _ underlying4 rfl rfl⟩ ?_
               refine yd hg26_44 3 ?_
               refine ye [198,8] ?_
               exact hl115 _ (zi h).symm
             ·refine yx hn 1 ?_
              refine ys 2 ⟨lI hv93⟩ ?_
              refine yS (vi v94.JC.Je) 3 ⟨aN _ _ _ _ _ _ _ underlying3 rfl rfl rfl (aM (j:=0) aA.ilen hv94 rfl) (.v _)⟩ ?_
              refine yd hg26_7 1 ?_
              refine ys 2 ⟨lI hv95⟩ ?_
              refine yS (vi v96.JC.Je) 4 ⟨aN _ _ _ _ _ _ _ underlying3 rfl rfl rfl (aM (j:=0) aA.ilen hv96 rfl) (.v _)⟩ ?_
              refine yd hg26_16 1 ?_
              refine ys 1 ⟨lI hv97⟩ ?_
              refine yS (vb v98.Ja) 2 ⟨aN _ _ _ _ _ _ _ underlying4 rfl rfl rfl (aM aA.ilen hv98 rfl) (.v _)⟩ ?_
              refine yd hg26_22 2 ?_
              refine yS (vb (v98.Ja==false)) 2 ⟨jA _ _ _ _ underlying4 rfl rfl⟩ ?_
              refine yd hg26_27 1 ?_
              refine ys 2 ⟨lI hv107⟩ ?_
              refine yS (vi v108.JC.Je) 4 ⟨aN _ _ _ _ _ _ _ underlying3 rfl rfl rfl (aM (j:=0) aA.ilen hv108 rfl) (.v _)⟩ ?_
              refine yd hg26_36 11 ?_
              refine ye [198,8] ?_
              exact hl115 _ (zi h).symm
            ·refine yx hn 1 ?_
             refine ys 2 ⟨lI hv93⟩ ?_
             refine yS (vi v94.JC.Je) 3 ⟨aN _ _ _ _ _ _ _ underlying3 rfl rfl rfl (aM (j:=0) aA.ilen hv94 rfl) (.v _)⟩ ?_
             refine yd hg26_7 1 ?_
             refine ys 2 ⟨lI hv95⟩ ?_
             refine yS (vi v96.JC.Je) 4 ⟨aN _ _ _ _ _ _ _ underlying3 rfl rfl rfl (aM (j:=0) aA.ilen hv96 rfl) (.v _)⟩ ?_
             refine yd hg26_16 1 ?_
             refine ys 1 ⟨lI hv97⟩ ?_
             refine yS (vb v98.Ja) 2 ⟨aN _ _ _ _ _ _ _ underlying4 rfl rfl rfl (aM aA.ilen hv98 rfl) (.v _)⟩ ?_
             refine yd hg26_22 2 ?_
             refine yS (vb (v98.Ja==false)) 2 ⟨jA _ _ _ _ underlying4 rfl rfl⟩ ?_
             refine yd hg26_27 20 ?_
             refine ye [198,8] ?_
             exact hl115 _ (zi h).symm
          ·refine yx hn 1 ?_
           refine ys 2 ⟨lI hv93⟩ ?_
           refine yS (vi v94.JC.Je) 3 ⟨aN _ _ _ _ _ _ _ underlying3 rfl rfl rfl (aM (j:=0) aA.ilen hv94 rfl) (.v _)⟩ ?_
           refine yd hg26_7 1 ?_
           refine ys 2 ⟨lI hv95⟩ ?_
           refine yS (vi v96.JC.Je) 4 ⟨aN _ _ _ _ _ _ _ underlying3 rfl rfl rfl (aM (j:=0) aA.ilen hv96 rfl) (.v _)⟩ ?_
           refine yd hg26_16 31 ?_
           refine ye [198,8] ?_
           exact hl115 _ (zi h).symm
         ·refine yx hn 1 ?_
          refine ys 2 ⟨lI hv93⟩ ?_
          refine yS (vi v94.JC.Je) 3 ⟨aN _ _ _ _ _ _ _ underlying3 rfl rfl rfl (aM (j:=0) aA.ilen hv94 rfl) (.v _)⟩ ?_
          refine yd hg26_7 40 ?_
          refine ye [198,8] ?_
          exact hl115 _ (zi h).symm
       ·intro u89 h hl90 hr91
        refine aL hn 1 [198,13,16,18,19,21,20,22,150] ?_
        refine al _ rfl (fun hb92 => ?_) (fun hb92 => ?_)
        ·have h:=ar hb92 h
         refine yx hn 0 ?_
         refine yw [22] 1 ?_
         refine ye [198,13,16,18,19,21,20,22] ?_
         exact hl90 _ (zi h).symm
        ·have h:=aq hb92 h
         refine au ?_
         refine ag [0,1,2,3,4,5,6,7] (by kernel_rfl) (es':=[(_,_),(_,_),(_,_),(_,_),(_,_),(_,_),(_,_),(_,_)]) rfl ?_
         exact hl90 _ (zi h).symm
      ·intro u82 h hl83 hr84
       refine aL hn 1 [198,13,16,18,19,20,21,148] ?_
       refine al _ rfl (fun hb85 => ?_) (fun hb85 => ?_)
       ·have h:=ar hb85 h
        refine fu hn 0 ?_
        refine yw [21] 1 ?_
        refine ba [198,13,16,18,19,21] ?_
        refine aL hn 1 [198,13,16,18,19,21,20] ?_
        refine aL hn 1 [198,13,16,18,19,21,20,149] ?_
        refine al _ rfl (fun hb86 => ?_) (fun hb86 => ?_)
        ·have h:=ar hb86 h
         refine yx hn 0 ?_
         refine yw [20] 1 ?_
         refine ye [198,13,16,18,19,21,20] ?_
         exact hl83 _ (zi h).symm
        ·have h:=aq hb86 h
         refine au ?_
         refine ag [0,1,2,3,4,5,6] (by kernel_rfl) (es':=[(_,_),(_,_),(_,_),(_,_),(_,_),(_,_),(_,_)]) rfl ?_
         exact hl83 _ (zi h).symm
       ·have h:=aq hb85 h
        refine au ?_
        refine ag [0,1,2,3,4,6,5] (by kernel_rfl) (es':=[(_,_),(_,_),(_,_),(_,_),(_,_),(_,_),(_,_)]) rfl ?_
        exact hl83 _ (zi h).symm
    ·intro u72 h hl73 hr74
     refine am h (fun hg13_2 h => ?_) (fun hg13_2 h => ?_)
     ·refine yx hn 3 ?_
      refine yd hg13_2 35 ?_
      refine ye [2,3,198,10,11,13,16,139] ?_
      exact hl73 _ (zi h).symm
     ·refine am h (fun hg13_6 h => ?_) (fun hg13_6 h => ?_)
      ·refine yx hn 3 ?_
       refine yd hg13_2 4 ?_
       refine yd hg13_6 31 ?_
       refine ye [2,3,198,10,11,13,16,139] ?_
       exact hl73 _ (zi h).symm
      ·refine am h (fun hg13_11 h => ?_) (fun hg13_11 h => ?_)
       ·refine yx hn 3 ?_
        refine yd hg13_2 4 ?_
        refine yd hg13_6 5 ?_
        refine yd hg13_11 26 ?_
        refine ye [2,3,198,10,11,13,16,139] ?_
        exact hl73 _ (zi h).symm
       ·refine am h (fun hg13_16 h => ?_) (fun hg13_16 h => ?_)
        ·refine yx hn 3 ?_
         refine yd hg13_2 4 ?_
         refine yd hg13_6 5 ?_
         refine yd hg13_11 5 ?_
         refine yd hg13_16 21 ?_
         refine ye [2,3,198,10,11,13,16,139] ?_
         exact hl73 _ (zi h).symm
        ·obtain ⟨v65,hv65,h⟩:=zn h
         obtain ⟨v66,hv66,h⟩:=zn h
         refine am h (fun hg13_24 h => ?_) (fun hg13_24 h => ?_)
         ·refine yx hn 3 ?_
          refine yd hg13_2 4 ?_
          refine yd hg13_6 5 ?_
          refine yd hg13_11 5 ?_
          refine yd hg13_16 1 ?_
          refine ys 2 ⟨lI hv65⟩ ?_
          refine yS (vi v66.JC.Je) 3 ⟨aN _ _ _ _ _ _ _ underlying3 rfl rfl rfl (aM (j:=0) aA.ilen hv66 rfl) (.v _)⟩ ?_
          refine yd hg13_24 13 ?_
          refine ye [2,3,198,10,11,13,16,139] ?_
          exact hl73 _ (zi h).symm
         ·obtain ⟨v67,hv67,h⟩:=zn h
          obtain ⟨v68,hv68,h⟩:=zn h
          refine am h (fun hg13_30 h => ?_) (fun hg13_30 h => ?_)
          ·refine yx hn 3 ?_
           refine yd hg13_2 4 ?_
           refine yd hg13_6 5 ?_
           refine yd hg13_11 5 ?_
           refine yd hg13_16 1 ?_
           refine ys 2 ⟨lI hv65⟩ ?_
           refine yS (vi v66.JC.Je) 3 ⟨aN _ _ _ _ _ _ _ underlying3 rfl rfl rfl (aM (j:=0) aA.ilen hv66 rfl) (.v _)⟩ ?_
           refine yd hg13_24 1 ?_
           refine ys 1 ⟨lI hv67⟩ ?_
           refine yS (vb v68.Ja) 2 ⟨aN _ _ _ _ _ _ _ underlying4 rfl rfl rfl (aM aA.ilen hv68 rfl) (.v _)⟩ ?_
           refine yd hg13_30 7 ?_
           refine ye [2,3,198,10,11,13,16,139] ?_
           exact hl73 _ (zi h).symm
          ·obtain ⟨v69,hv69,h⟩:=zn h
           obtain ⟨v70,hv70,h⟩:=zn h
           refine yx hn 3 ?_
           refine yd hg13_2 4 ?_
           refine yd hg13_6 5 ?_
           refine yd hg13_11 5 ?_
           refine yd hg13_16 1 ?_
           refine ys 2 ⟨lI hv65⟩ ?_
           refine yS (vi v66.JC.Je) 3 ⟨aN _ _ _ _ _ _ _ underlying3 rfl rfl rfl (aM (j:=0) aA.ilen hv66 rfl) (.v _)⟩ ?_
           refine yd hg13_24 1 ?_
           refine ys 1 ⟨lI hv67⟩ ?_
           refine yS (vb v68.Ja) 2 ⟨aN _ _ _ _ _ _ _ underlying4 rfl rfl rfl (aM aA.ilen hv68 rfl) (.v _)⟩ ?_
           refine yd hg13_30 1 ?_
           refine ys 2 ⟨lI hv69⟩ ?_
           refine yS (vi v70.JC.Je) 2 ⟨aN _ _ _ _ _ _ _ underlying3 rfl rfl rfl (aM (j:=0) aA.ilen hv70 rfl) (.v _)⟩ ?_
           refine ye [2,3,198,10,11,13,16,139] ?_
           exact hl73 _ (zi h).symm
   ·rintro u31 hl32 hr33 s24 rr36 h ho34
    refine ab ?_
    refine aL hn 4 [0,1,2,3,198,9,49] ?_
    refine al _ rfl (fun hb37 => ?_) (fun hb37 => ?_)
    ·have h:=ar hb37 h
     refine au ?_
     refine ae (ab ?_)
     refine aJ (ab ?_)
     refine aC h (fun (s38:Bool)=>[(0,vi i),(1,vs challenge),(2,vs answer),(3,vs domain),(198,.glob (GL mx)),(9,vi s24),(61,vb s38)]) ?_ ?_
     ·rintro s38 h
      refine ae ?_
      refine al _ rfl (fun hb42 => ?_) (fun hb42 => ?_)
      ·have h:=ar hb42 h
       refine aL hn 1 [198,8] ?_
       refine ao ?_
       refine ag [1] (by kernel_rfl) (es':=[(_,_)]) rfl ?_
       refine aR (ai (ai (aR (ai ?_))))
       have h:=hr33 _ (ho34 _ (zi h).symm).symm
       obtain rfl:=zi h
       exact ay hio rfl (.tmp _ _ .nil) rfl rfl
      ·have h:=aq hb42 h
       refine au (aP (ae ?_))
       obtain ⟨v16,hv16,h⟩:=zn h
       refine yx hn 1 ?_
       refine ys 0 ⟨lb hv16⟩ ?_
       refine yw [9] 1 ?_
       refine ye [0,1,2,3,198,9] ?_
       exact bn _ (zi h).symm rfl
     ·intro u39 h hl40 hr41
      obtain ⟨v9,hv9,h⟩:=zn h
      refine am h (fun hg6_4 h => ?_) (fun hg6_4 h => ?_)
      ·refine yx hn 2 ?_
       refine ys 2 ⟨lh hv9⟩ ?_
       refine yd hg6_4 5 ?_
       refine ye [0,1,2,3,198,9,61] ?_
       exact hl40 _ (zi h).symm
      ·obtain ⟨v10,hv10,h⟩:=zn h
       refine yx hn 2 ?_
       refine ys 2 ⟨lh hv9⟩ ?_
       refine yd hg6_4 2 ?_
       refine ys 2 ⟨lh hv10⟩ ?_
       refine ye [0,1,2,3,198,9,61] ?_
       exact hl40 _ (zi h).symm
    ·have h:=aq hb37 h
     refine bl (az (az (bm ?_)))
     refine ag [0,1,2,3,4] (by kernel_rfl) (es':=[(_,_),(_,_),(_,_),(_,_),(_,_)]) rfl ?_
     exact hl32 _ (ho34 _ (zi h).symm).symm
 ·intro u4 h hl5 hr6
  refine am h (fun hg1_3 h => ?_) (fun hg1_3 h => ?_)
  ·refine yx hn 4 ?_
   refine yd hg1_3 19 ?_
   refine ye [0,1,2,3,198,45] ?_
   exact hl5 _ (zi h).symm
  ·refine am h (fun hg1_8 h => ?_) (fun hg1_8 h => ?_)
   ·refine yx hn 4 ?_
    refine yd hg1_3 5 ?_
    refine yd hg1_8 14 ?_
    refine ye [0,1,2,3,198,45] ?_
    exact hl5 _ (zi h).symm
   ·refine am h (fun hg1_13 h => ?_) (fun hg1_13 h => ?_)
    ·refine yx hn 4 ?_
     refine yd hg1_3 5 ?_
     refine yd hg1_8 5 ?_
     refine yd hg1_13 9 ?_
     refine ye [0,1,2,3,198,45] ?_
     exact hl5 _ (zi h).symm
    ·obtain ⟨v1,hv1,h⟩:=zn h
     refine am h (fun hg1_18 h => ?_) (fun hg1_18 h => ?_)
     ·refine yx hn 4 ?_
      refine yd hg1_3 5 ?_
      refine yd hg1_8 5 ?_
      refine yd hg1_13 1 ?_
      refine ys 3 ⟨lk call27 (fY _ _ hv1)⟩ ?_
      refine yd hg1_18 4 ?_
      refine ye [0,1,2,3,198,45] ?_
      exact hl5 _ (zi h).symm
     ·obtain ⟨v2,hv2,h⟩:=zn h
      refine yx hn 4 ?_
      refine yd hg1_3 5 ?_
      refine yd hg1_8 5 ?_
      refine yd hg1_13 1 ?_
      refine ys 3 ⟨lk call27 (fY _ _ hv1)⟩ ?_
      refine yd hg1_18 1 ?_
      refine ys 2 ⟨lk call28 (mj _ _ hv2)⟩ ?_
      refine ye [0,1,2,3,198,45] ?_
      exact hl5 _ (zi h).symm

end Go.Proofs.YtjnnkhmhjcjhdaaGreatDoor
