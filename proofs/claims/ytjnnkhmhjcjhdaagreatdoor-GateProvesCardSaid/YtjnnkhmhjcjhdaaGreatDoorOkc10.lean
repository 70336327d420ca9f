import Derived.Test.YtjnnkhmhjcjhdaaGreatDoorOkc9
set_option linter.unusedVariables false
set_option linter.unusedSimpArgs false
set_option maxHeartbeats 1000000
namespace Go.Proofs.YtjnnkhmhjcjhdaaGreatDoor
open Go.Abs Go.Abs.Sh Tryz
open List (map flatten)
open Value (int)
theorem jg (mx:Int×Nat×Value) (r:Bool) (h:Sh.ei  = some r):gW Tryz.prog (GL mx) 14 [] (.v (.bool r)):=by
 unfold Sh.ei at h
 refine yG 51 func14 fun g0 hn hio => ?_
 refine aL hn 1 [51] ?_
 refine ab ?_
 obtain ⟨v1,hv1,h⟩:=zn h
 obtain ⟨v2,hv2,h⟩:=zn h
 obtain ⟨v3,hv3,h⟩:=zn h
 refine yx hn 0 ?_
 refine ys 0 ⟨lk call20 (dv _ hv1)⟩ ?_
 refine ys 0 ⟨lk call22 (mz _ _ hv2)⟩ ?_
 refine yS (.fl (.own 5) 1 (map (int .u8) [77,65,73,76,32,70,82,79,77,58,60,62,13,10,69,72,76,79,32,104,13,10])) 0 ⟨aY _ _ 1 (.int .u8 0) (map (int .u8) [77,65,73,76,32,70,82,79,77,58,60,62,13,10,69,72,76,79,32,104,13,10]) [(0,.int .u8 77),(1,.int .u8 65),(2,.int .u8 73),(3,.int .u8 76),(4,.int .u8 32),(5,.int .u8 70),(6,.int .u8 82),(7,.int .u8 79),(8,.int .u8 77),(9,.int .u8 58),(10,.int .u8 60),(11,.int .u8 62),(12,.int .u8 13),(13,.int .u8 10),(14,.int .u8 69),(15,.int .u8 72),(16,.int .u8 76),(17,.int .u8 79),(18,.int .u8 32),(19,.int .u8 104),(20,.int .u8 13),(21,.int .u8 10)] underlying28 jx qD (fun _ V w o a hv hes=>by simp only [List.map_toArray,List.map_cons,List.map_nil]; try rfl) (cd (by simp [Instr.fill,Value.cells]; rfl) (by simp [List.range,List.range.loop] <;> rfl)) (by simp [Value.oneCell']) rfl (by decide) (by decide) (by decide)⟩ ?_
 refine yk [7] [] ?_
 refine yt (8,.fl .ro 1 (map (int .u8) [77,65,73,76,32,70,82,79,77,58,60,62,13,10,69,72,76,79,32,104,13,10])) 0 ⟨fP _ _ _ underlying28 underlying5 (by intro h; cases h)⟩ ?_
 refine ys 0 ⟨lg call13 (lF _ _ _ _ _ _ _ hv3) 51⟩ ?_
 refine ym 0 ?_
 refine yS (.agg [vi v3.1.Jz,vs v3.1.Jm,vb v3.1.Ji.Ju,vs v3.1.Ji.Jq,vs v3.1.Ji.Jf,.fl .ro 3 (flatten (map ah.enc v3.1.To)),vb v3.1.JB,.fl .ro 1 (map (int .u8) v3.1.Jc),vs v3.1.Jd,vb v3.1.JA]) 2 ⟨et _ _ _ _ _ _ rfl rfl (zl rfl) rfl rfl⟩ ?_
 refine yS (.box 30 [vi 0,vs z0,vb false,vs z0,vs z0,vz,vb false,vz,vs z0,vb false]) 3 ⟨oA (bj _ _ uK)⟩ ?_
 refine ba [51,1,2,3] ?_
 refine ab ?_
 refine aC h (fun (s10:Bool)=>[(51,.glob (GL mx)),(0,vb s10)]) ?_ ?_
 ·rintro s10 h
  refine ae (ao ?_)
  refine ag [1] (by kernel_rfl) (es':=[(_,_)]) rfl ?_
  obtain rfl:=zi h
  exact ay hio rfl (.tmp _ _ .nil) rfl rfl
 ·intro u11 h hl12 hr13
  refine am h (fun hg2_2 h => ?_) (fun hg2_2 h => ?_)
  ·refine am h (fun hg2_7 h => ?_) (fun hg2_7 h => ?_)
   ·obtain ⟨v4,hv4,h⟩:=zn h
    obtain ⟨v5,hv5,h⟩:=zn h
    refine am h (fun hg2_15 h => ?_) (fun hg2_15 h => ?_)
    ·obtain ⟨v6,hv6,h⟩:=zn h
     obtain ⟨v7,hv7,h⟩:=zn h
     refine am h (fun hg2_23 h => ?_) (fun hg2_23 h => ?_)
     ·refine am h (fun hg2_28 h => ?_) (fun hg2_28 h => ?_)
      ·refine am h (fun hg2_33 h => ?_) (fun hg2_33 h => ?_)
       ·obtain ⟨v8,hv8,h⟩:=zn h
        obtain ⟨v9,hv9,h⟩:=zn h
        refine yx hn 3 ?_
        refine yd hg2_2 5 ?_
        refine yd hg2_7 1 ?_
        refine ys 2 ⟨lI hv4⟩ ?_
        refine yS (vi v5.JC.Je) 3 ⟨aN _ _ _ _ _ _ _ underlying3 rfl rfl rfl (aM (j:=0) aA.ilen hv5 rfl) (.v _)⟩ ?_
        refine yd hg2_15 1 ?_
        refine ys 2 ⟨lI hv6⟩ ?_
        refine yS (vi v7.JC.Je) 3 ⟨aN _ _ _ _ _ _ _ underlying3 rfl rfl rfl (aM (j:=0) aA.ilen hv7 rfl) (.v _)⟩ ?_
        refine yd hg2_23 5 ?_
        refine yd hg2_28 5 ?_
        refine yd hg2_33 0 ?_
        refine ys 0 ⟨lk call20 (dv _ hv8)⟩ ?_
        refine ys 3 ⟨lg call35 (ng _ _ _ hv9) 51⟩ ?_
        refine ye [51,0] ?_
        exact hl12 _ (zi h).symm
       ·refine yx hn 3 ?_
        refine yd hg2_2 5 ?_
        refine yd hg2_7 1 ?_
        refine ys 2 ⟨lI hv4⟩ ?_
        refine yS (vi v5.JC.Je) 3 ⟨aN _ _ _ _ _ _ _ underlying3 rfl rfl rfl (aM (j:=0) aA.ilen hv5 rfl) (.v _)⟩ ?_
        refine yd hg2_15 1 ?_
        refine ys 2 ⟨lI hv6⟩ ?_
        refine yS (vi v7.JC.Je) 3 ⟨aN _ _ _ _ _ _ _ underlying3 rfl rfl rfl (aM (j:=0) aA.ilen hv7 rfl) (.v _)⟩ ?_
        refine yd hg2_23 5 ?_
        refine yd hg2_28 5 ?_
        refine yd hg2_33 5 ?_
        refine ye [51,0] ?_
        exact hl12 _ (zi h).symm
      ·refine yx hn 3 ?_
       refine yd hg2_2 5 ?_
       refine yd hg2_7 1 ?_
       refine ys 2 ⟨lI hv4⟩ ?_
       refine yS (vi v5.JC.Je) 3 ⟨aN _ _ _ _ _ _ _ underlying3 rfl rfl rfl (aM (j:=0) aA.ilen hv5 rfl) (.v _)⟩ ?_
       refine yd hg2_15 1 ?_
       refine ys 2 ⟨lI hv6⟩ ?_
       refine yS (vi v7.JC.Je) 3 ⟨aN _ _ _ _ _ _ _ underlying3 rfl rfl rfl (aM (j:=0) aA.ilen hv7 rfl) (.v _)⟩ ?_
       refine yd hg2_23 5 ?_
       refine yd hg2_28 10 ?_
       refine ye [51,0] ?_
       exact hl12 _ (zi h).symm
     ·refine yx hn 3 ?_
      refine yd hg2_2 5 ?_
      refine yd hg2_7 1 ?_
      refine ys 2 ⟨lI hv4⟩ ?_
      refine yS (vi v5.JC.Je) 3 ⟨aN _ _ _ _ _ _ _ underlying3 rfl rfl rfl (aM (j:=0) aA.ilen hv5 rfl) (.v _)⟩ ?_
      refine yd hg2_15 1 ?_
      refine ys 2 ⟨lI hv6⟩ ?_
      refine yS (vi v7.JC.Je) 3 ⟨aN _ _ _ _ _ _ _ underlying3 rfl rfl rfl (aM (j:=0) aA.ilen hv7 rfl) (.v _)⟩ ?_
      refine yd hg2_23 15 ?_
      refine ye [51,0] ?_
      exact hl12 _ (zi h).symm
    ·refine yx hn 3 ?_
     refine yd hg2_2 5 ?_
     refine yd hg2_7 1 ?_
     refine ys 2 ⟨lI hv4⟩ ?_
     refine yS (vi v5.JC.Je) 3 ⟨aN _ _ _ _ _ _ _ underlying3 rfl rfl rfl (aM (j:=0) aA.ilen hv5 rfl) (.v _)⟩ ?_
     refine yd hg2_15 23 ?_
     refine ye [51,0] ?_
     exact hl12 _ (zi h).symm
   ·refine yx hn 3 ?_
    refine yd hg2_2 5 ?_
    refine yd hg2_7 31 ?_
    refine ye [51,0] ?_
    exact hl12 _ (zi h).symm
  ·refine yx hn 3 ?_
   refine yd hg2_2 36 ?_
   refine ye [51,0] ?_
   exact hl12 _ (zi h).symm
end Go.Proofs.YtjnnkhmhjcjhdaaGreatDoor
