import Derived.Test.YtglabbpbianmnaaGreatDoorOkc5
set_option linter.unusedVariables false
set_option linter.unusedSimpArgs false
set_option maxHeartbeats 1000000
namespace Go.Proofs.YtglabbpbianmnaaGreatDoor
open Go.Abs Go.Abs.Sh Tryz
open List (map flatten)
open Value (int)
theorem mR (s:Li) (r:(List Li)) (h:Sh.eu s=some r):co Tryz.prog 39 [.v (.string s)] (.fl (.own 9) 1 (map Value.string r)):=by
 unfold Sh.eu at h
 refine yO 32 func39 fun g0 hn hio => ?_
 refine bi hn 1 [0] ?_
 refine bi hn 1 [0,3] ?_
 refine bi hn 1 [0,3,4] ?_
 refine ag ?_
 refine bi hn 1 [0,3,4,5] ?_
 refine gV (fs:=[(0,vs s),(3,.fl (.own 9) 1 (map Value.string [])),(4,vi 0),(5,vi 0)]) (.same _ (.sub _ (cg 9 1) rfl (.same _ (.same _ .nil)))) ?_
 refine bj h (fun ((s41,s42,s43):(List Li)×Int×Int)=>[(0,vs s),(3,.fl (.own 9) 1 (map Value.string s41)),(4,vi s42),(5,vi s43)]) (fun (s60:(List Li))=>[(3,.fl (.own 9) 1 (map Value.string s60))]) ?_ ?_
 ·rintro s60 h
  refine ai ?_
  refine gv hn 0 ?_
  refine ym 0 ?_
  refine ya 0 ?_
  refine bK [2] ?_
  refine aD ?_
  obtain rfl:=zi h
  exact aF hio rfl (.tmp _ _ .nil) rfl rfl
 ·rintro u61 hl62 hr63 ⟨s41,s42,s43⟩ rr66 h ho64
  refine ag ?_
  refine bi hn 4 [0,3,4,5,9] ?_
  refine aA _ rfl (fun hb67 => ?_) (fun hb67 => ?_)
  ·have h:=aH hb67 h
   refine aB ?_
   refine ai (ag ?_)
   refine aP h (fun ((s73,s74):(List Li)×Int)=>[(0,vs s),(5,vi s43),(3,.fl (.own 9) 1 (map Value.string s73)),(4,vi s74)]) ?_ ?_
   ·rintro ⟨s73,s74⟩ h
    refine ai ?_
    obtain ⟨v21,hv21,h⟩:=zn h
    refine yx hn 1 ?_
    refine ys 0 ⟨lb hv21⟩ ?_
    refine yw [5] 1 ?_
    refine ye [0,3,4,5] ?_
    exact bF _ (zi h).symm rfl
   ·intro u75 h hl76 hr77
    refine aS (ag ?_)
    refine aP h (fun (s78:Bool)=>[(0,vs s),(3,.fl (.own 9) 1 (map Value.string s41)),(4,vi s42),(5,vi s43),(21,vb s78)]) ?_ ?_
    ·rintro s78 h
     refine ai ?_
     refine aA _ rfl (fun hb82 => ?_) (fun hb82 => ?_)
     ·have h:=aH hb82 h
      refine ag ?_
      obtain ⟨v8,hv8,h⟩:=zn h
      obtain ⟨v9,hv9,h⟩:=zn h
      refine yx hn 0 ?_
      refine ym 3 ?_
      refine yS (vs v8) 0 ⟨cL _ _ _ s42 s43 _ underlying9 rfl ⟨_,rfl⟩ ⟨_,rfl⟩ hv8⟩ ?_
      refine yS (.fl (.own 9) 1 (map Value.string [v8])) 0 ⟨ce _ _ 1 (.string ByteArray.empty) (map Value.string [v8]) [(0,.string v8)] underlying57 HV Kj (fun _ V w o a hv hes=>by have e0:=dN hv hes (x := .tmp 26) rfl; simp only [List.map_toArray,List.map_cons,List.map_nil,e0]; try rfl) (fy (by simp [Instr.fill,Value.cells]; rfl) (by simp [List.range,List.range.loop] <;> rfl)) (by simp [Value.oneCell']) rfl (by decide) (by decide) (by decide)⟩ ?_
      refine yp HH hv9 0 ?_
      refine ya 0 ?_
      refine bK [0,5,3] ?_
      obtain ⟨v10,hv10,h⟩:=zn h
      refine yx hn 1 ?_
      refine ys 1 ⟨lb hv10⟩ ?_
      refine ye [0,5,3,4] ?_
      refine bA ?_
      exact hl76 _ (zi h).symm
     ·have h:=aG hb82 h
      refine aB (bA ?_)
      refine aC [0,3,1,2] (by kernel_rfl) (es':=[(_,_),(_,_),(_,_),(_,_)]) rfl ?_
      exact hl76 _ (zi h).symm
    ·intro u79 h hl80 hr81
     refine au h (fun hg6_4 h => ?_) (fun hg6_4 h => ?_)
     ·refine yx hn 5 ?_
      refine yd hg6_4 5 ?_
      refine ye [0,3,4,5,21] ?_
      exact hl80 _ (zi h).symm
     ·obtain ⟨v2,hv2,h⟩:=zn h
      refine yx hn 5 ?_
      refine yd hg6_4 2 ?_
      refine ys 2 ⟨lh hv2⟩ ?_
      refine ye [0,3,4,5,21] ?_
      exact hl80 _ (zi h).symm
  ·have h:=aG hb67 h
   refine bx (aE (aE (bu ?_)))
   refine aC [1] (by kernel_rfl) (es':=[(_,_)]) rfl ?_
   exact hl62 _ (ho64 _ (zi h).symm).symm
theorem lX (s:Li) (most:Int) (r:Int) (h:Sh.dT s most=some r):co Tryz.prog 40 [.v (.string s),.v (.int .i64 most)] (.v (.int .i64 r)):=by
 unfold Sh.dT at h
 refine yO 42 func40 fun g0 hn hio => ?_
 refine bi hn 1 [0,1] ?_
 refine ag (ag ?_)
 refine aP h (fun (s3:Bool)=>[(0,vs s),(21,vb s3)]) ?_ ?_
 ·rintro s3 h
  refine ai ?_
  refine aA _ rfl (fun hb7 => ?_) (fun hb7 => ?_)
  ·have h:=aH hb7 h
   refine bi hn 1 [4] ?_
   refine aD (am ?_)
   obtain rfl:=zi h
   exact aF hio rfl (.tmp _ _ .nil) rfl rfl
  ·have h:=aG hb7 h
   refine aB (ai ?_)
   refine bi hn 1 [0,5] ?_
   refine ag ?_
   refine bi hn 1 [0,5,6] ?_
   refine bj h (fun ((s22,s23):Int×Int)=>[(0,vs s),(5,vi s22),(6,vi s23)]) (fun (s26:Int)=>[(5,vi s26)]) ?_ ?_
   ·rintro s26 h
    refine ai ?_
    refine bi hn 2 [4] ?_
    refine aD ?_
    obtain rfl:=zi h
    exact aF hio rfl (.tmp _ _ .nil) rfl rfl
   ·rintro u27 hl28 hr29 ⟨s22,s23⟩ rr32 h ho30
    refine ag ?_
    refine bi hn 4 [0,5,6,25] ?_
    refine aA _ rfl (fun hb33 => ?_) (fun hb33 => ?_)
    ·have h:=aH hb33 h
     refine aB ?_
     refine ai (ag ?_)
     refine aS (ag (ag ?_))
     obtain ⟨v9,hv9,h⟩:=zn h
     obtain ⟨v10,hv10,h⟩:=zn h
     refine yx hn 2 ?_
     refine ys 0 ⟨lh hv9⟩ ?_
     refine ys 1 ⟨lk call60 (fg _ _ hv10)⟩ ?_
     refine bK [0,5,6,32] ?_
     refine aA _ rfl (fun hb34 => ?_) (fun hb34 => ?_)
     ·have h:=aH hb34 h
      refine bi hn 1 [4] ?_
      refine aD (am (aY (am (am (aY (am ?_))))))
      have h:=hr29 _ (ho30 _ (zi h).symm).symm
      obtain rfl:=zi h
      exact aF hio rfl (.tmp _ _ .nil) rfl rfl
     ·have h:=aG hb34 h
      refine aB (ai ?_)
      obtain ⟨v12,hv12,h⟩:=zn h
      obtain ⟨v13,hv13,h⟩:=zn h
      obtain ⟨v14,hv14,h⟩:=zn h
      obtain ⟨v15,hv15,h⟩:=zn h
      obtain ⟨v16,hv16,h⟩:=zn h
      refine yx hn 1 ?_
      refine ys 2 ⟨lb hv12⟩ ?_
      refine ys 0 ⟨lh hv13⟩ ?_
      refine ys 0 ⟨lb hv14⟩ ?_
      refine ys 0 ⟨lv hv15⟩ ?_
      refine ys 0 ⟨lb hv16⟩ ?_
      refine yw [5] 1 ?_
      refine ye [0,6,5] ?_
      refine bA (ai ?_)
      obtain ⟨v17,hv17,h⟩:=zn h
      refine yx hn 1 ?_
      refine ys 0 ⟨lb hv17⟩ ?_
      refine yw [6] 1 ?_
      refine ye [0,5,6] ?_
      exact bF _ (zi h).symm rfl
    ·have h:=aG hb33 h
     refine bx (aE (aE (bu ?_)))
     refine aC [1] (by kernel_rfl) (es':=[(_,_)]) rfl ?_
     exact hl28 _ (ho30 _ (zi h).symm).symm
 ·intro u4 h hl5 hr6
  obtain ⟨v1,hv1,h⟩:=zn h
  refine au h (fun hg1_5 h => ?_) (fun hg1_5 h => ?_)
  ·refine yx hn 3 ?_
   refine ys 2 ⟨lk call43 (bm _ _ _ _ hv1)⟩ ?_
   refine yd hg1_5 9 ?_
   refine ye [0,21] ?_
   exact hl5 _ (zi h).symm
  ·refine au h (fun hg1_9 h => ?_) (fun hg1_9 h => ?_)
   ·obtain ⟨v2,hv2,h⟩:=zn h
    refine yx hn 3 ?_
    refine ys 2 ⟨lk call43 (bm _ _ _ _ hv1)⟩ ?_
    refine yd hg1_5 4 ?_
    refine yd hg1_9 1 ?_
    refine ys 3 ⟨lh hv2⟩ ?_
    refine ye [0,21] ?_
    exact hl5 _ (zi h).symm
   ·refine yx hn 3 ?_
    refine ys 2 ⟨lk call43 (bm _ _ _ _ hv1)⟩ ?_
    refine yd hg1_5 4 ?_
    refine yd hg1_9 5 ?_
    refine ye [0,21] ?_
    exact hl5 _ (zi h).symm
theorem iu (s:Li) (with_:Li) (r:(Li×Bool)) (h:Sh.bZ s with_=some r):co Tryz.prog 61 [.v (.string s),.v (.string with_)] (.tup [.v (.string r.1),.v (.bool r.2)]):=by
 unfold Sh.bZ at h
 refine yO 23 func61 fun g0 hn hio => ?_
 refine bi hn 2 [0,1] ?_
 refine ag (ag ?_)
 refine aP h (fun (s2:Bool)=>[(0,vs s),(1,vs with_),(18,vb s2)]) ?_ ?_
 ·rintro s2 h
  refine ai ?_
  refine aA _ rfl (fun hb6 => ?_) (fun hb6 => ?_)
  ·have h:=aH hb6 h
   refine bi hn 2 [4,5] ?_
   refine aD (am ?_)
   obtain rfl:=zi h
   exact aF hio rfl (.tmp _ _ (.tmp _ _ .nil)) rfl rfl
  ·have h:=aG hb6 h
   refine aB ?_
   refine ai (ag ?_)
   obtain ⟨v7,hv7,h⟩:=zn h
   refine yx hn 3 ?_
   refine yS (vs v7) 2 ⟨cL _ _ _ (with_.size:Int) (s.size:Int) _ underlying9 rfl ⟨_,rfl⟩ rfl hv7⟩ ?_
   refine bK [4,5] ?_
   refine aD ?_
   obtain rfl:=zi h
   exact aF hio rfl (.tmp _ _ (.tmp _ _ .nil)) rfl rfl
 ·intro u3 h hl4 hr5
  refine au h (fun hg1_5 h => ?_) (fun hg1_5 h => ?_)
  ·refine yx hn 6 ?_
   refine yd hg1_5 7 ?_
   refine ye [0,1,18] ?_
   exact hl4 _ (zi h).symm
  ·obtain ⟨v1,hv1,h⟩:=zn h
   refine yx hn 6 ?_
   refine yd hg1_5 3 ?_
   refine yS (vs v1) 3 ⟨cL _ _ _ 0 (with_.size:Int) _ underlying9 rfl rfl ⟨_,rfl⟩ hv1⟩ ?_
   refine ye [0,1,18] ?_
   exact hl4 _ (zi h).symm
theorem nB (p:aj) (ok:Bool) (r:(aj×Bool)) (h:Sh.gz p ok=some r):co Tryz.prog 82 [.agg [.v (.bool p.Le),.v (.string p.Lc),.v (.string p.KZ)],.v (.bool ok)] (.tup [.agg [.v (.bool r.1.Le),.v (.string r.1.Lc),.v (.string r.1.KZ)],.v (.bool r.2)]):=by
 unfold Sh.gz at h
 refine yO 10 func82 fun g0 hn hio => ?_
 refine gv hn 1 ?_
 refine yS (.box 43 [vb false,vs z0,vs z0]) 1 ⟨oA (bz _ _ jr)⟩ ?_
 refine bK [1,2,4] ?_
 refine ag ?_
 refine bi hn 2 [2,4,7] ?_
 refine aA _ rfl (fun hb1 => ?_) (fun hb1 => ?_)
 ·have h:=aH hb1 h
  refine gv hn 0 ?_
  refine yS (.agg [vb false,vs z0,vs z0]) 0 ⟨bT _ _ _ _ [1,1,1] _ _ underlying43 jr (qW _ underlying43) kR.nil rfl rfl rfl⟩ ?_
  refine yk [8,4] [] ?_
  refine yt (4,.box 43 [vb false,vs z0,vs z0]) 1 ⟨bO _ _ _ 8 4 3 iJ rfl rfl rfl rfl rfl (.eq _ (.eq _ (.eq _ (.nil _)))) rfl⟩ ?_
  refine bK [4,5] ?_
  refine aD (am ?_)
  obtain rfl:=zi h
  exact aF hio rfl (.cellA _ _ _ _ underlying43 rfl iJ (.tmp _ _ .nil)) rfl rfl
 ·have h:=aG hb1 h
  refine aB (ai ?_)
  refine bi hn 3 [4,5] ?_
  refine aD ?_
  obtain rfl:=zi h
  exact aF hio rfl (.cellA _ _ _ _ underlying43 rfl iJ (.tmp _ _ .nil)) rfl rfl
theorem jB (s:Li) (r:(aj×Bool)) (h:Sh.cK s=some r):co Tryz.prog 62 [.v (.string s)] (.tup [.agg [.v (.bool r.1.Le),.v (.string r.1.Lc),.v (.string r.1.KZ)],.v (.bool r.2)]):=by
 unfold Sh.cK at h
 refine yO 56 func62 fun g0 hn hio => ?_
 refine gv hn 0 ?_
 refine yS (.box 43 [vb false,vs z0,vs z0]) 1 ⟨oA (bz _ _ jr)⟩ ?_
 refine bK [0,2] ?_
 refine ag ?_
 refine bi hn 2 [0,2,7] ?_
 refine aA _ rfl (fun hb1 => ?_) (fun hb1 => ?_)
 ·have h:=aH hb1 h
  refine gv hn 0 ?_
  refine yS (.agg [vb true,vs z0,vs z0]) 2 ⟨bT _ _ _ _ [1,1,1] _ _ underlying43 jr (qW _ underlying43) (.copy _ kR.nil) rfl rfl rfl⟩ ?_
  refine bK [2,3] ?_
  refine aD (am ?_)
  obtain rfl:=zi h
  exact aF hio rfl (.cellA _ _ _ _ underlying43 rfl iJ (.tmp _ _ .nil)) rfl rfl
 ·have h:=aG hb1 h
  refine aB ?_
  refine ai (ag ?_)
  refine ag ?_
  refine aP h (fun (s5:Bool)=>[(0,vs s),(2,.box 43 [vb false,vs z0,vs z0]),(24,vb s5)]) ?_ ?_
  ·rintro s5 h
   refine ai ?_
   refine aA _ rfl (fun hb9 => ?_) (fun hb9 => ?_)
   ·have h:=aH hb9 h
    refine gv hn 0 ?_
    refine yS (.agg [vb false,vs z0,vs z0]) 0 ⟨bT _ _ _ _ [1,1,1] _ _ underlying43 jr (qW _ underlying43) kR.nil rfl rfl rfl⟩ ?_
    refine yk [25,2] [] ?_
    refine yt (2,.box 43 [vb false,vs z0,vs z0]) 1 ⟨bO _ _ _ 25 2 3 iJ rfl rfl rfl rfl rfl (.eq _ (.eq _ (.eq _ (.nil _)))) rfl⟩ ?_
    refine bK [2,3] ?_
    refine aD (am ?_)
    obtain rfl:=zi h
    exact aF hio rfl (.cellA _ _ _ _ underlying43 rfl iJ (.tmp _ _ .nil)) rfl rfl
   ·have h:=aG hb9 h
    refine aB ?_
    refine ai (ag ?_)
    obtain ⟨v10,hv10,h⟩:=zn h
    obtain ⟨v11,hv11,h⟩:=zn h
    refine yx hn 3 ?_
    refine ys 0 ⟨lb hv10⟩ ?_
    refine yS (vs v11) 0 ⟨cL _ _ _ 1 v10 _ underlying9 rfl ⟨_,rfl⟩ ⟨_,rfl⟩ hv11⟩ ?_
    refine yw [0] 1 ?_
    refine bK [2,0] ?_
    refine ag ?_
    refine bi hn 1 [2,0,4] ?_
    refine bj h (fun (s24:Int)=>[(2,.box 43 [vb false,vs z0,vs z0]),(0,vs v11),(4,vi s24)]) (fun (():Unit)=>[(2,.box 43 [vb false,vs z0,vs z0])]) ?_ ?_
    ·rintro ⟨⟩ h
     refine ai ?_
     refine gv hn 0 ?_
     refine yS (.agg [vb false,vs z0,vs z0]) 0 ⟨bT _ _ _ _ [1,1,1] _ _ underlying43 jr (qW _ underlying43) kR.nil rfl rfl rfl⟩ ?_
     refine yk [55,2] [] ?_
     refine yt (2,.box 43 [vb false,vs z0,vs z0]) 1 ⟨bO _ _ _ 55 2 3 iJ rfl rfl rfl rfl rfl (.eq _ (.eq _ (.eq _ (.nil _)))) rfl⟩ ?_
     refine bK [2,3] ?_
     refine aD ?_
     obtain rfl:=zi h
     exact aF hio rfl (.cellA _ _ _ _ underlying43 rfl iJ (.tmp _ _ .nil)) rfl rfl
    ·rintro u27 hl28 hr29 s24 rr32 h ho30
     refine ag ?_
     refine bi hn 4 [2,0,4,34] ?_
     refine aA _ rfl (fun hb33 => ?_) (fun hb33 => ?_)
     ·have h:=aH hb33 h
      refine aB ?_
      refine ai (ag ?_)
      refine aS (ag ?_)
      obtain ⟨v13,hv13,h⟩:=zn h
      refine yx hn 2 ?_
      refine ys 1 ⟨lh hv13⟩ ?_
      refine bK [2,0,4,40] ?_
      refine aA _ rfl (fun hb34 => ?_) (fun hb34 => ?_)
      ·have h:=aH hb34 h
       refine ag ?_
       obtain ⟨v15,hv15,h⟩:=zn h
       obtain ⟨v16,hv16,h⟩:=zn h
       obtain ⟨v17,hv17,h⟩:=zn h
       refine wb [[0],[4]] ?_
       refine wN [41,42] ?_
       refine wS (vs v15) [[0],[4]] ⟨cL _ _ _ 0 s24 _ underlying9 rfl rfl ⟨_,rfl⟩ hv15⟩ ?_
       refine wN [45] ?_
       refine wo [] ⟨lb hv16⟩ ?_
       refine wN [44,46] ?_
       refine wS (vs v17) [] ⟨cL _ _ _ v16 (v11.size:Int) _ underlying9 rfl ⟨_,rfl⟩ rfl hv17⟩ ?_
       refine wN [43,47] ?_
       refine wS (.agg [vb false,vs v15,vs v17]) [] ⟨bT _ _ _ _ [1,1,1] _ _ underlying43 jr (qW _ underlying43) (.copy _ (.copy _ kR.nil)) rfl rfl rfl⟩ ?_
       refine wN [] ?_
       refine wS (.box 43 [vb false,vs z0,vs z0]) [] ⟨oA (bz _ _ jr)⟩ ?_
       refine wK [5] [48] ?_
       refine wt [(5,.box 43 [vb false,vs v15,vs v17])] [] ⟨lz _ _ _ _ _ _ _ _ iJ rfl rfl rfl rfl (zl rfl) rfl rfl⟩ ?_
       refine rz hn [2,5] ?_
       refine ag ?_
       obtain ⟨v18,hv18,h⟩:=zn h
       obtain ⟨v19,hv19,h⟩:=zn h
       refine wb [[5],[5]] ?_
       refine wN [50] ?_
       refine wo [] ⟨lk call66 (dc _ _ hv18)⟩ ?_
       refine wN [49,51] ?_
       refine wo [] ⟨lk call82 (nB _ _ _ hv19)⟩ ?_
       refine wN [52] ?_
       refine wS (.agg [vb v19.1.Le,vs v19.1.Lc,vs v19.1.KZ]) [[52]] ⟨eM _ _ _ _ _ _ rfl rfl (zl rfl) rfl rfl⟩ ?_
       refine wK [2] [53] ?_
       refine wt [(2,.box 43 [vb v19.1.Le,vs v19.1.Lc,vs v19.1.KZ])] [[54]] ⟨lz _ _ _ _ _ _ _ _ iJ rfl rfl rfl rfl (zl rfl) rfl rfl⟩ ?_
       refine rz hn [2,3] ?_
       refine aD (aY (am (am (aY (am ?_)))))
       have h:=hr29 _ (ho30 _ (zi h).symm).symm
       obtain rfl:=zi h
       exact aF hio rfl (.cellA _ _ _ _ underlying43 rfl iJ (.tmp _ _ .nil)) rfl rfl
      ·have h:=aG hb34 h
       refine aB (bA (ai ?_))
       obtain ⟨v20,hv20,h⟩:=zn h
       refine yx hn 1 ?_
       refine ys 0 ⟨lb hv20⟩ ?_
       refine yw [4] 1 ?_
       refine ye [2,0,4] ?_
       exact bF _ (zi h).symm rfl
     ·have h:=aG hb33 h
      refine bx (aE (aE (bu ?_)))
      refine aC [0] (by kernel_rfl) (es':=[(_,_)]) rfl ?_
      exact hl28 _ (ho30 _ (zi h).symm).symm
  ·intro u6 h hl7 hr8
   refine au h (fun hg3_3 h => ?_) (fun hg3_3 h => ?_)
   ·refine yx hn 4 ?_
    refine yd hg3_3 12 ?_
    refine ye [0,2,24] ?_
    exact hl7 _ (zi h).symm
   ·obtain ⟨v2,hv2,h⟩:=zn h
    refine au h (fun hg3_8 h => ?_) (fun hg3_8 h => ?_)
    ·refine yx hn 4 ?_
     refine yd hg3_3 1 ?_
     refine ys 3 ⟨lh hv2⟩ ?_
     refine yd hg3_8 7 ?_
     refine ye [0,2,24] ?_
     exact hl7 _ (zi h).symm
    ·obtain ⟨v3,hv3,h⟩:=zn h
     obtain ⟨v4,hv4,h⟩:=zn h
     refine yx hn 4 ?_
     refine yd hg3_3 1 ?_
     refine ys 3 ⟨lh hv2⟩ ?_
     refine yd hg3_8 3 ?_
     refine ys 0 ⟨lb hv3⟩ ?_
     refine ys 2 ⟨lh hv4⟩ ?_
     refine ye [0,2,24] ?_
     exact hl7 _ (zi h).symm
theorem oL (b:(List Int)) (r:Int) (h:Sh.eA b=some r):co Tryz.prog 83 [.fl .shr 1 (map (int .u8) b)] (.v (.int .i64 r)):=by
 unfold Sh.eA at h
 refine yO 57 func83 fun g0 hn hio => ?_
 refine bi hn 1 [0] ?_
 refine ag ?_
 refine bi hn 1 [0,3] ?_
 refine bj h (fun (s30:Int)=>[(0,fb b),(3,vi s30)]) (fun (():Unit)=>[]) ?_ ?_
 ·rintro ⟨⟩ h
  refine ai ?_
  refine bi hn 1 [2] ?_
  refine aD ?_
  obtain rfl:=zi h
  exact aF hio rfl (.tmp _ _ .nil) rfl rfl
 ·rintro u37 hl38 hr39 s30 rr42 h ho40
  refine ag (ag ?_)
  obtain ⟨v1,hv1,h⟩:=zn h
  refine yx hn 1 ?_
  refine ys 3 ⟨lb hv1⟩ ?_
  refine bK [0,3,8] ?_
  refine aA _ rfl (fun hb43 => ?_) (fun hb43 => ?_)
  ·have h:=aH hb43 h
   refine aB ?_
   refine ai (ag ?_)
   refine aS (ag ?_)
   refine aP h (fun (s44:Bool)=>[(0,fb b),(3,vi s30),(55,vb s44)]) ?_ ?_
   ·rintro s44 h
    refine ai ?_
    refine aA _ rfl (fun hb48 => ?_) (fun hb48 => ?_)
    ·have h:=aH hb48 h
     refine bi hn 2 [2] ?_
     refine aD (aY (am (am (aY (am ?_)))))
     have h:=hr39 _ (ho40 _ (zi h).symm).symm
     obtain rfl:=zi h
     exact aF hio rfl (.tmp _ _ .nil) rfl rfl
    ·have h:=aG hb48 h
     refine aB (bA (ai ?_))
     obtain ⟨v22,hv22,h⟩:=zn h
     refine yx hn 1 ?_
     refine ys 0 ⟨lb hv22⟩ ?_
     refine yw [3] 1 ?_
     refine ye [0,3] ?_
     exact bF _ (zi h).symm rfl
   ·intro u45 h hl46 hr47
    obtain ⟨v3,hv3,h⟩:=zn h
    obtain ⟨v4,hv4,h⟩:=zn h
    refine au h (fun hg4_5 h => ?_) (fun hg4_5 h => ?_)
    ·obtain ⟨v5,hv5,h⟩:=zn h
     obtain ⟨v6,hv6,h⟩:=zn h
     obtain ⟨v7,hv7,h⟩:=zn h
     refine au h (fun hg4_13 h => ?_) (fun hg4_13 h => ?_)
     ·obtain ⟨v8,hv8,h⟩:=zn h
      obtain ⟨v9,hv9,h⟩:=zn h
      obtain ⟨v10,hv10,h⟩:=zn h
      refine au h (fun hg4_21 h => ?_) (fun hg4_21 h => ?_)
      ·refine au h (fun hg4_24 h => ?_) (fun hg4_24 h => ?_)
       ·refine yx hn 2 ?_
        refine ys 0 ⟨li hv3⟩ ?_
        refine ys 2 ⟨ll hv4⟩ ?_
        refine yd hg4_5 2 ?_
        refine ys 0 ⟨lb hv5⟩ ?_
        refine ys 0 ⟨li hv6⟩ ?_
        refine ys 3 ⟨ll hv7⟩ ?_
        refine yd hg4_13 2 ?_
        refine ys 0 ⟨lb hv8⟩ ?_
        refine ys 0 ⟨li hv9⟩ ?_
        refine ys 3 ⟨ll hv10⟩ ?_
        refine yd hg4_21 3 ?_
        refine yd hg4_24 20 ?_
        refine ye [0,3,55] ?_
        exact hl46 _ (zi h).symm
       ·refine au h (fun hg4_27 h => ?_) (fun hg4_27 h => ?_)
        ·obtain ⟨v11,hv11,h⟩:=zn h
         obtain ⟨v12,hv12,h⟩:=zn h
         obtain ⟨v13,hv13,h⟩:=zn h
         refine au h (fun hg4_35 h => ?_) (fun hg4_35 h => ?_)
         ·obtain ⟨v14,hv14,h⟩:=zn h
          obtain ⟨v15,hv15,h⟩:=zn h
          obtain ⟨v16,hv16,h⟩:=zn h
          refine yx hn 2 ?_
          refine ys 0 ⟨li hv3⟩ ?_
          refine ys 2 ⟨ll hv4⟩ ?_
          refine yd hg4_5 2 ?_
          refine ys 0 ⟨lb hv5⟩ ?_
          refine ys 0 ⟨li hv6⟩ ?_
          refine ys 3 ⟨ll hv7⟩ ?_
          refine yd hg4_13 2 ?_
          refine ys 0 ⟨lb hv8⟩ ?_
          refine ys 0 ⟨li hv9⟩ ?_
          refine ys 3 ⟨ll hv10⟩ ?_
          refine yd hg4_21 3 ?_
          refine yd hg4_24 3 ?_
          refine yd hg4_27 2 ?_
          refine ys 0 ⟨lb hv11⟩ ?_
          refine ys 0 ⟨li hv12⟩ ?_
          refine ys 3 ⟨ll hv13⟩ ?_
          refine yd hg4_35 2 ?_
          refine ys 0 ⟨lb hv14⟩ ?_
          refine ys 0 ⟨li hv15⟩ ?_
          refine ys 4 ⟨ll hv16⟩ ?_
          refine ye [0,3,55] ?_
          exact hl46 _ (zi h).symm
         ·refine yx hn 2 ?_
          refine ys 0 ⟨li hv3⟩ ?_
          refine ys 2 ⟨ll hv4⟩ ?_
          refine yd hg4_5 2 ?_
          refine ys 0 ⟨lb hv5⟩ ?_
          refine ys 0 ⟨li hv6⟩ ?_
          refine ys 3 ⟨ll hv7⟩ ?_
          refine yd hg4_13 2 ?_
          refine ys 0 ⟨lb hv8⟩ ?_
          refine ys 0 ⟨li hv9⟩ ?_
          refine ys 3 ⟨ll hv10⟩ ?_
          refine yd hg4_21 3 ?_
          refine yd hg4_24 3 ?_
          refine yd hg4_27 2 ?_
          refine ys 0 ⟨lb hv11⟩ ?_
          refine ys 0 ⟨li hv12⟩ ?_
          refine ys 3 ⟨ll hv13⟩ ?_
          refine yd hg4_35 9 ?_
          refine ye [0,3,55] ?_
          exact hl46 _ (zi h).symm
        ·refine yx hn 2 ?_
         refine ys 0 ⟨li hv3⟩ ?_
         refine ys 2 ⟨ll hv4⟩ ?_
         refine yd hg4_5 2 ?_
         refine ys 0 ⟨lb hv5⟩ ?_
         refine ys 0 ⟨li hv6⟩ ?_
         refine ys 3 ⟨ll hv7⟩ ?_
         refine yd hg4_13 2 ?_
         refine ys 0 ⟨lb hv8⟩ ?_
         refine ys 0 ⟨li hv9⟩ ?_
         refine ys 3 ⟨ll hv10⟩ ?_
         refine yd hg4_21 3 ?_
         refine yd hg4_24 3 ?_
         refine yd hg4_27 17 ?_
         refine ye [0,3,55] ?_
         exact hl46 _ (zi h).symm
      ·refine yx hn 2 ?_
       refine ys 0 ⟨li hv3⟩ ?_
       refine ys 2 ⟨ll hv4⟩ ?_
       refine yd hg4_5 2 ?_
       refine ys 0 ⟨lb hv5⟩ ?_
       refine ys 0 ⟨li hv6⟩ ?_
       refine ys 3 ⟨ll hv7⟩ ?_
       refine yd hg4_13 2 ?_
       refine ys 0 ⟨lb hv8⟩ ?_
       refine ys 0 ⟨li hv9⟩ ?_
       refine ys 3 ⟨ll hv10⟩ ?_
       refine yd hg4_21 23 ?_
       refine ye [0,3,55] ?_
       exact hl46 _ (zi h).symm
     ·refine yx hn 2 ?_
      refine ys 0 ⟨li hv3⟩ ?_
      refine ys 2 ⟨ll hv4⟩ ?_
      refine yd hg4_5 2 ?_
      refine ys 0 ⟨lb hv5⟩ ?_
      refine ys 0 ⟨li hv6⟩ ?_
      refine ys 3 ⟨ll hv7⟩ ?_
      refine yd hg4_13 31 ?_
      refine ye [0,3,55] ?_
      exact hl46 _ (zi h).symm
    ·refine yx hn 2 ?_
     refine ys 0 ⟨li hv3⟩ ?_
     refine ys 2 ⟨ll hv4⟩ ?_
     refine yd hg4_5 39 ?_
     refine ye [0,3,55] ?_
     exact hl46 _ (zi h).symm
  ·have h:=aG hb43 h
   refine bx (aE (aE (bu ?_)))
   refine aC [] (by kernel_rfl) (es':=[]) rfl ?_
   exact hl38 _ (ho40 _ (zi h).symm).symm
theorem mi (b:(List Int)) (r:((List Int)×Int×Int)) (h:Sh.de b=some r):co Tryz.prog 63 [.fl .shr 1 (map (int .u8) b)] (.tup [.fl (.own 5) 1 (map (int .u8) r.1),.v (.int .i64 r.2.1),.v (.int .i64 r.2.2)]):=by
 unfold Sh.de at h
 refine yO 49 func63 fun g0 hn hio => ?_
 refine bi hn 3 [0] ?_
 refine ag ?_
 obtain ⟨v1,hv1,h⟩:=zn h
 refine yx hn 1 ?_
 refine ys 1 ⟨lk call83 (oL _ _ hv1)⟩ ?_
 refine bK [0,5] ?_
 refine ag ?_
 refine bi hn 2 [0,5,11] ?_
 refine aA _ rfl (fun hb2 => ?_) (fun hb2 => ?_)
 ·have h:=aH hb2 h
  refine bi hn 3 [2,3,4] ?_
  refine aD ?_
  refine dl (fs:=[(2,.fl (.own 5) 1 (map (int .u8) [])),(3,vi 0),(4,vi 9)]) (.sub _ (cg 5 1) rfl (.same _ (.same _ .nil))) ?_
  refine am ?_
  obtain rfl:=zi h
  exact aF hio rfl (.tmp _ _ (.tmp _ _ (.tmp _ _ .nil))) rfl rfl
 ·have h:=aG hb2 h
  refine aB ?_
  refine ai (ag ?_)
  refine ag ?_
  obtain ⟨v3,hv3,h⟩:=zn h
  obtain ⟨v4,hv4,h⟩:=zn h
  refine yx hn 2 ?_
  refine yS (fb v3) 0 ⟨ik _ _ _ 0 v1 _ underlying25 nV rfl rfl rfl ⟨_,rfl⟩ hv3⟩ ?_
  refine ys 1 ⟨lk call67 (gG _ _ hv4)⟩ ?_
  refine bK [0,5,16] ?_
  refine aA _ rfl (fun hb5 => ?_) (fun hb5 => ?_)
  ·have h:=aH hb5 h
   refine bi hn 3 [2,3,4] ?_
   refine aD ?_
   refine dl (fs:=[(2,.fl (.own 5) 1 (map (int .u8) [])),(3,vi 0),(4,vi 5)]) (.sub _ (cg 5 1) rfl (.same _ (.same _ .nil))) ?_
   refine am ?_
   obtain rfl:=zi h
   exact aF hio rfl (.tmp _ _ (.tmp _ _ (.tmp _ _ .nil))) rfl rfl
  ·have h:=aG hb5 h
   refine aB (ai ?_)
   refine bi hn 1 [0,5,6] ?_
   refine ag ?_
   refine bi hn 1 [0,5,6,7] ?_
   refine gV (fs:=[(0,fb b),(5,vi v1),(6,.fl (.own 5) 1 (map (int .u8) [])),(7,vi 0)]) (.same _ (.same _ (.sub _ (cg 5 1) rfl (.same _ .nil)))) ?_
   refine bj h (fun ((s47,s48):(List Int)×Int)=>[(0,fb b),(5,vi v1),(6,.fl (.own 5) 1 (map (int .u8) s47)),(7,vi s48)]) (fun (s64:(List Int))=>[(5,vi v1),(6,.fl (.own 5) 1 (map (int .u8) s64))]) ?_ ?_
   ·rintro s64 h
    refine ai (ag ?_)
    obtain ⟨v86,hv86,h⟩:=zn h
    refine yx hn 0 ?_
    refine ym 1 ?_
    refine ys 0 ⟨lb hv86⟩ ?_
    refine ya 2 ?_
    refine bK [2,3,4] ?_
    refine aD ?_
    obtain rfl:=zi h
    exact aF hio rfl (.tmp _ _ (.tmp _ _ (.tmp _ _ .nil))) rfl rfl
   ·rintro u65 hl66 hr67 ⟨s47,s48⟩ rr70 h ho68
    refine ag ?_
    refine bi hn 3 [0,5,6,7,19] ?_
    refine aA _ rfl (fun hb71 => ?_) (fun hb71 => ?_)
    ·have h:=aH hb71 h
     refine aB ?_
     refine ai (ag ?_)
     refine aP h (fun (s77:(List Int))=>[(0,fb b),(5,vi v1),(7,vi s48),(6,.fl (.own 5) 1 (map (int .u8) s77))]) ?_ ?_
     ·rintro s77 h
      refine ai ?_
      obtain ⟨v29,hv29,h⟩:=zn h
      refine yx hn 1 ?_
      refine ys 0 ⟨lb hv29⟩ ?_
      refine yw [7] 1 ?_
      refine ye [0,5,6,7] ?_
      exact bF _ (zi h).symm rfl
     ·intro u78 h hl79 hr80
      refine aS (ag ?_)
      refine aP h (fun (s81:Bool)=>[(0,fb b),(5,vi v1),(6,.fl (.own 5) 1 (map (int .u8) s47)),(7,vi s48),(38,vb s81)]) ?_ ?_
      ·rintro s81 h
       refine ai ?_
       refine aA _ rfl (fun hb85 => ?_) (fun hb85 => ?_)
       ·have h:=aH hb85 h
        obtain ⟨v17,hv17,h⟩:=zn h
        obtain ⟨v18,hv18,h⟩:=zn h
        obtain ⟨v19,hv19,h⟩:=zn h
        refine yx hn 0 ?_
        refine ym 2 ?_
        refine ys 0 ⟨li hv17⟩ ?_
        refine ys 0 ⟨ll hv18⟩ ?_
        refine yS (.fl (.own 5) 1 (map (int .u8) [v18])) 0 ⟨ce _ _ 1 (.int .u8 0) (map (int .u8) [v18]) [(0,.int .u8 v18)] underlying25 nV tq (fun _ V w o a hv hes=>by have e0:=dN hv hes (x := .tmp 43) rfl; simp only [List.map_toArray,List.map_cons,List.map_nil,e0]; try rfl) (fy (by simp [Instr.fill,Value.cells]; rfl) (by simp [List.range,List.range.loop] <;> rfl)) (by simp [Value.oneCell']) rfl (by decide) (by decide) (by decide)⟩ ?_
        refine yp kE hv19 0 ?_
        refine ya 0 ?_
        refine ye [0,5,7,6] ?_
        refine bA ?_
        exact hl79 _ (zi h).symm
       ·have h:=aG hb85 h
        refine aB (bA ?_)
        refine aC [0,1,3,2] (by kernel_rfl) (es':=[(_,_),(_,_),(_,_),(_,_)]) rfl ?_
        exact hl79 _ (zi h).symm
      ·intro u82 h hl83 hr84
       obtain ⟨v7,hv7,h⟩:=zn h
       obtain ⟨v8,hv8,h⟩:=zn h
       refine au h (fun hg10_5 h => ?_) (fun hg10_5 h => ?_)
       ·refine yx hn 2 ?_
        refine ys 0 ⟨li hv7⟩ ?_
        refine ys 2 ⟨ll hv8⟩ ?_
        refine yd hg10_5 11 ?_
        refine ye [0,5,6,7,38] ?_
        exact hl83 _ (zi h).symm
       ·refine au h (fun hg10_8 h => ?_) (fun hg10_8 h => ?_)
        ·obtain ⟨v9,hv9,h⟩:=zn h
         obtain ⟨v10,hv10,h⟩:=zn h
         obtain ⟨v11,hv11,h⟩:=zn h
         refine yx hn 2 ?_
         refine ys 0 ⟨li hv7⟩ ?_
         refine ys 2 ⟨ll hv8⟩ ?_
         refine yd hg10_5 3 ?_
         refine yd hg10_8 2 ?_
         refine ys 0 ⟨lb hv9⟩ ?_
         refine ys 0 ⟨li hv10⟩ ?_
         refine ys 3 ⟨ll hv11⟩ ?_
         refine ye [0,5,6,7,38] ?_
         exact hl83 _ (zi h).symm
        ·refine yx hn 2 ?_
         refine ys 0 ⟨li hv7⟩ ?_
         refine ys 2 ⟨ll hv8⟩ ?_
         refine yd hg10_5 3 ?_
         refine yd hg10_8 8 ?_
         refine ye [0,5,6,7,38] ?_
         exact hl83 _ (zi h).symm
    ·have h:=aG hb71 h
     refine bx (aE (aE (bu ?_)))
     refine aC [1,2] (by kernel_rfl) (es':=[(_,_),(_,_)]) rfl ?_
     exact hl66 _ (ho68 _ (zi h).symm).symm
theorem nG (c:(List Int)) (at_:Int) (r:(ae×Int×Bool)) (h:Sh.cH c at_=some r):co Tryz.prog 41 [.fl .shr 1 (map (int .u8) c),.v (.int .i64 at_)] (.tup [.agg [.v (.bool r.1.La.Le),.v (.string r.1.La.Lc),.v (.string r.1.La.KZ),.fl (.own 43) 3 (flatten (map aj.enc r.1.To)),.fl (.own 5) 1 (map (int .u8) r.1.KY),.v (.bool r.1.Lh),.v (.string r.1.Lb),.v (.int .i64 r.1.At)],.v (.int .i64 r.2.1),.v (.bool r.2.2)]):=by
 unfold Sh.cH at h
 refine yO 116 func41 fun g0 hn hio => ?_
 refine gv hn 0 ?_
 refine yS (.box 46 [vb false,vs z0,vs z0,vz,vz,vb false,vs z0,vi 0]) 2 ⟨oA (bz _ _ kh)⟩ ?_
 refine bK [0,1,4] ?_
 refine gv hn 0 ?_
 refine yS (.box 46 [vb false,vs z0,vs z0,vz,vz,vb false,vs z0,vi 0]) 0 ⟨oA (bz _ _ kh)⟩ ?_
 refine bK [0,1,4,7] ?_
 refine ag ?_
 obtain ⟨v1,hv1,h⟩:=zn h
 refine yx hn 2 ?_
 refine ys 1 ⟨lk call38 (gY _ _ _ hv1)⟩ ?_
 refine bK [0,1,4,7,8] ?_
 refine ag ?_
 refine bi hn 2 [0,1,4,7,8,24] ?_
 refine aA _ rfl (fun hb2 => ?_) (fun hb2 => ?_)
 ·have h:=aH hb2 h
  refine gv hn 1 ?_
  refine yk [25,4] [] ?_
  refine yt (4,.box 46 [vb false,vs z0,vs z0,vz,vz,vb false,vs z0,vi 0]) 2 ⟨bO _ _ _ 25 4 8 eD rfl rfl rfl rfl rfl (.eq _ (.eq _ (.eq _ (.eq _ (.eq _ (.eq _ (.eq _ (.eq _ (.nil _))))))))) rfl⟩ ?_
  refine bK [4,5,6] ?_
  refine aD ?_
  refine dl (fs:=[(4,.box 46 [vb false,vs z0,vs z0,.fl (.own 43) 3 (flatten (map aj.enc [])),.fl (.own 5) 1 (map (int .u8) []),vb false,vs z0,vi 0]),(5,vi 0),(6,vb false)]) (.box _ _ (ay (aM _) (ay (aM _) (ay (aM _) (ay (cg 43 3) (ay (cg 5 1) (ay (aM _) (ay (aM _) (ay (aM _) (cu))))))))) rfl (.same _ (.same _ .nil))) ?_
  refine am ?_
  obtain rfl:=zi h
  exact aF hio rfl (.cellA _ _ _ _ underlying46 rfl eD (.tmp _ _ (.tmp _ _ .nil))) rfl rfl
 ·have h:=aG hb2 h
  refine aB ?_
  refine ai (ag ?_)
  obtain ⟨v3,hv3,h⟩:=zn h
  obtain ⟨v4,hv4,h⟩:=zn h
  obtain ⟨v5,hv5,h⟩:=zn h
  refine yx hn 3 ?_
  refine yS (fb v3) 0 ⟨ik _ _ _ at_ v1 _ underlying25 nV rfl rfl ⟨_,rfl⟩ ⟨_,rfl⟩ hv3⟩ ?_
  refine ys 0 ⟨lS hv4⟩ ?_
  refine ys 0 ⟨lk call61 (iu _ _ _ hv5)⟩ ?_
  refine ym 4 ?_
  refine bK [0,4,7,8,9,10] ?_
  refine ag ?_
  obtain ⟨v6,hv6,h⟩:=zn h
  refine yx hn 1 ?_
  refine ys 0 ⟨lk call62 (jB _ _ hv6)⟩ ?_
  refine ym 0 ?_
  refine yS (.agg [vb v6.1.Le,vs v6.1.Lc,vs v6.1.KZ]) 1 ⟨eM _ _ _ _ _ _ rfl rfl (zl rfl) rfl rfl⟩ ?_
  refine yS (.box 43 [vb false,vs z0,vs z0]) 2 ⟨oA (bz _ _ jr)⟩ ?_
  refine bK [0,4,7,8,10,11,12] ?_
  refine ag (ag ?_)
  refine aP h (fun (s7:Bool)=>[(0,fb c),(4,.box 46 [vb false,vs z0,vs z0,vz,vz,vb false,vs z0,vi 0]),(7,.box 46 [vb false,vs z0,vs z0,vz,vz,vb false,vs z0,vi 0]),(8,vi v1),(11,.box 43 [vb v6.1.Le,vs v6.1.Lc,vs v6.1.KZ]),(45,vb s7)]) ?_ ?_
  ·rintro s7 h
   refine ai ?_
   refine aA _ rfl (fun hb11 => ?_) (fun hb11 => ?_)
   ·have h:=aH hb11 h
    refine gv hn 1 ?_
    refine yk [46,4] [] ?_
    refine yt (4,.box 46 [vb false,vs z0,vs z0,vz,vz,vb false,vs z0,vi 0]) 2 ⟨bO _ _ _ 46 4 8 eD rfl rfl rfl rfl rfl (.eq _ (.eq _ (.eq _ (.eq _ (.eq _ (.eq _ (.eq _ (.eq _ (.nil _))))))))) rfl⟩ ?_
    refine bK [4,5,6] ?_
    refine aD ?_
    refine dl (fs:=[(4,.box 46 [vb false,vs z0,vs z0,.fl (.own 43) 3 (flatten (map aj.enc [])),.fl (.own 5) 1 (map (int .u8) []),vb false,vs z0,vi 0]),(5,vi 0),(6,vb false)]) (.box _ _ (ay (aM _) (ay (aM _) (ay (aM _) (ay (cg 43 3) (ay (cg 5 1) (ay (aM _) (ay (aM _) (ay (aM _) (cu))))))))) rfl (.same _ (.same _ .nil))) ?_
    refine am ?_
    obtain rfl:=zi h
    exact aF hio rfl (.cellA _ _ _ _ underlying46 rfl eD (.tmp _ _ (.tmp _ _ .nil))) rfl rfl
   ·have h:=aG hb11 h
    refine aB (ai ?_)
    refine bi hn 3 [0,4,7,8] ?_
    refine ag ?_
    obtain ⟨v12,hv12,h⟩:=zn h
    refine yx hn 1 ?_
    refine ys 1 ⟨lb hv12⟩ ?_
    refine bK [0,4,7,1] ?_
    refine ag ?_
    refine gV (fs:=[(0,fb c),(4,.box 46 [vb false,vs z0,vs z0,vz,vz,vb false,vs z0,vi 0]),(7,.box 46 [vb v6.1.Le,vs v6.1.Lc,vs v6.1.KZ,.fl (.own 43) 3 (flatten (map aj.enc [])),vz,vb false,vs z0,vi 0]),(1,vi v12)]) (.same _ (.same _ (.box _ _ (ay (aM _) (ay (aM _) (ay (aM _) (ay (cg 43 3) (ay (aM _) (ay (aM _) (ay (aM _) (ay (aM _) (cu))))))))) rfl (.same _ .nil)))) ?_
    refine bj h (fun ((s36,s37):(List aj)×Int)=>[(0,fb c),(4,.box 46 [vb false,vs z0,vs z0,vz,vz,vb false,vs z0,vi 0]),(7,.box 46 [vb v6.1.Le,vs v6.1.Lc,vs v6.1.KZ,.fl (.own 43) 3 (flatten (map aj.enc s36)),vz,vb false,vs z0,vi 0]),(1,vi s37)]) (fun ((s45,s46,s47):(List aj)×Int×Int)=>[(0,fb c),(4,.box 46 [vb false,vs z0,vs z0,vz,vz,vb false,vs z0,vi 0]),(7,.box 46 [vb v6.1.Le,vs v6.1.Lc,vs v6.1.KZ,.fl (.own 43) 3 (flatten (map aj.enc s45)),vz,vb false,vs z0,vi 0]),(1,vi s46),(8,vi s47)]) ?_ ?_
    ·rintro ⟨s45,s46,s47⟩ h
     refine ai (ag ?_)
     refine ag ?_
     obtain ⟨v61,hv61,h⟩:=zn h
     obtain ⟨v62,hv62,h⟩:=zn h
     refine yx hn 3 ?_
     refine yS (fb v61) 0 ⟨ik _ _ _ s46 s47 _ underlying25 nV rfl rfl ⟨_,rfl⟩ ⟨_,rfl⟩ hv61⟩ ?_
     refine ys 1 ⟨lS hv62⟩ ?_
     refine bK [0,4,7,8,95] ?_
     refine aA _ rfl (fun hb63 => ?_) (fun hb63 => ?_)
     ·have h:=aH hb63 h
      refine gv hn 0 ?_
      refine yk [7] [] ?_
      refine yt (96,.agg [vb v6.1.Le,vs v6.1.Lc,vs v6.1.KZ,.fl (.own 43) 3 (flatten (map aj.enc s45)),vz,vb false,vs z0,vi 0]) 0 ⟨aW _ _ _ _ underlying46 rfl eD rfl rfl⟩ ?_
      refine yk [96,4] [] ?_
      refine yt (4,.box 46 [vb v6.1.Le,vs v6.1.Lc,vs v6.1.KZ,.fl (.own 43) 3 (flatten (map aj.enc s45)),vz,vb false,vs z0,vi 0]) 2 ⟨aU _ _ _ _ _ _ _ _ eD rfl rfl rfl (zl rfl) rfl rfl⟩ ?_
      refine bK [4,5,6] ?_
      refine aD ?_
      refine dl (fs:=[(4,.box 46 [vb v6.1.Le,vs v6.1.Lc,vs v6.1.KZ,.fl (.own 43) 3 (flatten (map aj.enc s45)),.fl (.own 5) 1 (map (int .u8) []),vb false,vs z0,vi 0]),(5,vi 0),(6,vb false)]) (.box _ _ (ay (aM _) (ay (aM _) (ay (aM _) (ay (aM _) (ay (cg 5 1) (ay (aM _) (ay (aM _) (ay (aM _) (cu))))))))) rfl (.same _ (.same _ .nil))) ?_
      refine am ?_
      obtain rfl:=zi h
      exact aF hio rfl (.cellA _ _ _ _ underlying46 rfl eD (.tmp _ _ (.tmp _ _ .nil))) rfl rfl
     ·have h:=aG hb63 h
      refine aB ?_
      refine ai (ag ?_)
      obtain ⟨v64,hv64,h⟩:=zn h
      obtain ⟨v65,hv65,h⟩:=zn h
      obtain ⟨v66,hv66,h⟩:=zn h
      refine yx hn 2 ?_
      refine ys 0 ⟨lb hv64⟩ ?_
      refine yS (fb v65) 0 ⟨ik _ _ _ v64 (c.length:Int) _ underlying25 nV rfl rfl ⟨_,rfl⟩ rfl hv65⟩ ?_
      refine ys 0 ⟨lk call63 (mi _ _ hv66)⟩ ?_
      refine ym 0 ?_
      refine yV 2 ?_
      refine ya 2 ?_
      refine bK [4,7,8,17,18,19] ?_
      refine ag ?_
      refine bi hn 2 [4,7,8,17,18,107] ?_
      refine aA _ rfl (fun hb67 => ?_) (fun hb67 => ?_)
      ·have h:=aH hb67 h
       refine gv hn 0 ?_
       refine yk [7] [] ?_
       refine yt (108,.agg [vb v6.1.Le,vs v6.1.Lc,vs v6.1.KZ,.fl (.own 43) 3 (flatten (map aj.enc s45)),vz,vb false,vs z0,vi 0]) 0 ⟨aW _ _ _ _ underlying46 rfl eD rfl rfl⟩ ?_
       refine yk [108,4] [] ?_
       refine yt (4,.box 46 [vb v6.1.Le,vs v6.1.Lc,vs v6.1.KZ,.fl (.own 43) 3 (flatten (map aj.enc s45)),vz,vb false,vs z0,vi 0]) 2 ⟨aU _ _ _ _ _ _ _ _ eD rfl rfl rfl (zl rfl) rfl rfl⟩ ?_
       refine bK [4,5,6] ?_
       refine aD ?_
       refine dl (fs:=[(4,.box 46 [vb v6.1.Le,vs v6.1.Lc,vs v6.1.KZ,.fl (.own 43) 3 (flatten (map aj.enc s45)),.fl (.own 5) 1 (map (int .u8) []),vb false,vs z0,vi 0]),(5,vi 0),(6,vb false)]) (.box _ _ (ay (aM _) (ay (aM _) (ay (aM _) (ay (aM _) (ay (cg 5 1) (ay (aM _) (ay (aM _) (ay (aM _) (cu))))))))) rfl (.same _ (.same _ .nil))) ?_
       refine am ?_
       obtain rfl:=zi h
       exact aF hio rfl (.cellA _ _ _ _ underlying46 rfl eD (.tmp _ _ (.tmp _ _ .nil))) rfl rfl
      ·have h:=aG hb67 h
       refine aB (ai ?_)
       refine gv hn 0 ?_
       refine ym 1 ?_
       refine yk [109,7] [110] ?_
       refine yt (7,.box 46 [vb v6.1.Le,vs v6.1.Lc,vs v6.1.KZ,.fl (.own 43) 3 (flatten (map aj.enc s45)),.fl (.own 5) 1 (map (int .u8) v66.1),vb false,vs z0,vi 0]) 0 ⟨aU _ _ _ _ _ _ _ _ qP rfl rfl rfl (zl rfl) rfl rfl⟩ ?_
       refine bK [4,7,8,18] ?_
       refine ag ?_
       obtain ⟨v68,hv68,h⟩:=zn h
       obtain ⟨v69,hv69,h⟩:=zn h
       refine yx hn 0 ?_
       refine yk [7] [] ?_
       refine yt (111,.agg [vb v6.1.Le,vs v6.1.Lc,vs v6.1.KZ,.fl (.own 43) 3 (flatten (map aj.enc s45)),.fl (.own 5) 1 (map (int .u8) v66.1),vb false,vs z0,vi 0]) 1 ⟨aW _ _ _ _ underlying46 rfl eD rfl rfl⟩ ?_
       refine ys 1 ⟨lb hv68⟩ ?_
       refine ys 0 ⟨lb hv69⟩ ?_
       refine yk [111,4] [] ?_
       refine yt (4,.box 46 [vb v6.1.Le,vs v6.1.Lc,vs v6.1.KZ,.fl (.own 43) 3 (flatten (map aj.enc s45)),.fl (.own 5) 1 (map (int .u8) v66.1),vb false,vs z0,vi 0]) 2 ⟨aU _ _ _ _ _ _ _ _ eD rfl rfl rfl (zl rfl) rfl rfl⟩ ?_
       refine bK [4,5,6] ?_
       refine aD ?_
       obtain rfl:=zi h
       exact aF hio rfl (.cellA _ _ _ _ underlying46 rfl eD (.tmp _ _ (.tmp _ _ .nil))) rfl rfl
    ·rintro u48 hl49 hr50 ⟨s36,s37⟩ rr53 h ho51
     refine aS (ag ?_)
     obtain ⟨v13,hv13,h⟩:=zn h
     refine yx hn 2 ?_
     refine ys 1 ⟨lk call38 (gY _ _ _ hv13)⟩ ?_
     refine bK [0,4,7,1,8] ?_
     refine ag ?_
     refine bi hn 2 [0,4,7,1,8,55] ?_
     refine aA _ rfl (fun hb54 => ?_) (fun hb54 => ?_)
     ·have h:=aH hb54 h
      refine gv hn 0 ?_
      refine yk [7] [] ?_
      refine yt (56,.agg [vb v6.1.Le,vs v6.1.Lc,vs v6.1.KZ,.fl (.own 43) 3 (flatten (map aj.enc s36)),vz,vb false,vs z0,vi 0]) 0 ⟨aW _ _ _ _ underlying46 rfl eD rfl rfl⟩ ?_
      refine yk [56,4] [] ?_
      refine yt (4,.box 46 [vb v6.1.Le,vs v6.1.Lc,vs v6.1.KZ,.fl (.own 43) 3 (flatten (map aj.enc s36)),vz,vb false,vs z0,vi 0]) 2 ⟨aU _ _ _ _ _ _ _ _ eD rfl rfl rfl (zl rfl) rfl rfl⟩ ?_
      refine bK [4,5,6] ?_
      refine aD ?_
      refine dl (fs:=[(4,.box 46 [vb v6.1.Le,vs v6.1.Lc,vs v6.1.KZ,.fl (.own 43) 3 (flatten (map aj.enc s36)),.fl (.own 5) 1 (map (int .u8) []),vb false,vs z0,vi 0]),(5,vi 0),(6,vb false)]) (.box _ _ (ay (aM _) (ay (aM _) (ay (aM _) (ay (aM _) (ay (cg 5 1) (ay (aM _) (ay (aM _) (ay (aM _) (cu))))))))) rfl (.same _ (.same _ .nil))) ?_
      refine am (aY (am (aY (am ?_))))
      have h:=hr50 _ (ho51 _ (zi h).symm).symm
      obtain rfl:=zi h
      exact aF hio rfl (.cellA _ _ _ _ underlying46 rfl eD (.tmp _ _ (.tmp _ _ .nil))) rfl rfl
     ·have h:=aG hb54 h
      refine aB ?_
      refine ai (ag ?_)
      obtain ⟨v15,hv15,h⟩:=zn h
      obtain ⟨v16,hv16,h⟩:=zn h
      obtain ⟨v17,hv17,h⟩:=zn h
      refine yx hn 3 ?_
      refine yS (fb v15) 0 ⟨ik _ _ _ s37 v13 _ underlying25 nV rfl rfl ⟨_,rfl⟩ ⟨_,rfl⟩ hv15⟩ ?_
      refine ys 0 ⟨lS hv16⟩ ?_
      refine ys 0 ⟨lk call61 (iu _ _ _ hv17)⟩ ?_
      refine ym 4 ?_
      refine bK [0,4,7,1,8,13,14] ?_
      refine ag ?_
      refine bi hn 2 [0,4,7,1,8,13,67] ?_
      refine aA _ rfl (fun hb55 => ?_) (fun hb55 => ?_)
      ·have h:=aH hb55 h
       refine bx (aE ?_)
       refine lA (by decide) ?_
       refine aE (bu ?_)
       refine aC [0,1,2,3,4] (by kernel_rfl) (es':=[(_,_),(_,_),(_,_),(_,_),(_,_)]) rfl ?_
       exact hl49 _ (ho51 _ (zi h).symm).symm
      ·have h:=aG hb55 h
       refine aB ?_
       refine ai (ag ?_)
       obtain ⟨v19,hv19,h⟩:=zn h
       refine yx hn 1 ?_
       refine ys 0 ⟨lk call62 (jB _ _ hv19)⟩ ?_
       refine ym 0 ?_
       refine yS (.agg [vb v19.1.Le,vs v19.1.Lc,vs v19.1.KZ]) 1 ⟨eM _ _ _ _ _ _ rfl rfl (zl rfl) rfl rfl⟩ ?_
       refine yS (.box 43 [vb false,vs z0,vs z0]) 2 ⟨oA (bz _ _ jr)⟩ ?_
       refine bK [0,4,7,8,15,16] ?_
       refine ag (ag ?_)
       refine aP h (fun (s56:Bool)=>[(0,fb c),(4,.box 46 [vb false,vs z0,vs z0,vz,vz,vb false,vs z0,vi 0]),(7,.box 46 [vb v6.1.Le,vs v6.1.Lc,vs v6.1.KZ,.fl (.own 43) 3 (flatten (map aj.enc s36)),vz,vb false,vs z0,vi 0]),(8,vi v13),(15,.box 43 [vb v19.1.Le,vs v19.1.Lc,vs v19.1.KZ]),(80,vb s56)]) ?_ ?_
       ·rintro s56 h
        refine ai ?_
        refine aA _ rfl (fun hb60 => ?_) (fun hb60 => ?_)
        ·have h:=aH hb60 h
         refine gv hn 0 ?_
         refine yk [7] [] ?_
         refine yt (81,.agg [vb v6.1.Le,vs v6.1.Lc,vs v6.1.KZ,.fl (.own 43) 3 (flatten (map aj.enc s36)),vz,vb false,vs z0,vi 0]) 0 ⟨aW _ _ _ _ underlying46 rfl eD rfl rfl⟩ ?_
         refine yk [81,4] [] ?_
         refine yt (4,.box 46 [vb v6.1.Le,vs v6.1.Lc,vs v6.1.KZ,.fl (.own 43) 3 (flatten (map aj.enc s36)),vz,vb false,vs z0,vi 0]) 2 ⟨aU _ _ _ _ _ _ _ _ eD rfl rfl rfl (zl rfl) rfl rfl⟩ ?_
         refine bK [4,5,6] ?_
         refine aD ?_
         refine dl (fs:=[(4,.box 46 [vb v6.1.Le,vs v6.1.Lc,vs v6.1.KZ,.fl (.own 43) 3 (flatten (map aj.enc s36)),.fl (.own 5) 1 (map (int .u8) []),vb false,vs z0,vi 0]),(5,vi 0),(6,vb false)]) (.box _ _ (ay (aM _) (ay (aM _) (ay (aM _) (ay (aM _) (ay (cg 5 1) (ay (aM _) (ay (aM _) (ay (aM _) (cu))))))))) rfl (.same _ (.same _ .nil))) ?_
         refine am (aY (am (aY (am ?_))))
         have h:=hr50 _ (ho51 _ (zi h).symm).symm
         obtain rfl:=zi h
         exact aF hio rfl (.cellA _ _ _ _ underlying46 rfl eD (.tmp _ _ (.tmp _ _ .nil))) rfl rfl
        ·have h:=aG hb60 h
         refine aB ?_
         refine ai (ag ?_)
         obtain ⟨v25,hv25,h⟩:=zn h
         refine yx hn 3 ?_
         refine yS (.fl (.own 43) 3 (flatten (map aj.enc [v19.1]))) 0 ⟨ce _ _ 3 (.agg #[.bool false,.string ByteArray.empty,.string ByteArray.empty]) (flatten (map aj.enc [v19.1])) [(0,.agg #[.bool v19.1.Le,.string v19.1.Lc,.string v19.1.KZ])] underlying44 iJ jr (fun _ V w o a hv hes=>by have e0:=Bu (ys:=[.bool v19.1.Le,.string v19.1.Lc,.string v19.1.KZ]) hv hes (x := .tmp 84) rfl; simp only [List.map_toArray,List.map_cons,List.map_nil,e0]; try rfl) (fy (by simp [Instr.fill,Value.cells]; rfl) (by simp [List.range,List.range.loop,aj.enc] <;> rfl)) (by simp [Value.oneCell',aj.enc]) rfl (by decide) (by decide) (by decide)⟩ ?_
         refine yk [7] [83,85] ?_
         refine qk (7,.box 46 [vb v6.1.Le,vs v6.1.Lc,vs v6.1.KZ,.any,vz,vb false,vs z0,vi 0]) (86,.fl (.own 43) 3 (flatten (map aj.enc v25))) 1 ⟨jt _ _ _ _ _ _ Gs rfl rfl (zl rfl) rfl (ky aj.len _) (ky aj.len _) hv25 (vJ (jh hv25)) (Nat.ne_of_beq_eq_false rfl) rfl rfl⟩ ?_
         refine yw [83] 0 ?_
         refine yk [86,7] [87] ?_
         refine yt (7,.box 46 [vb v6.1.Le,vs v6.1.Lc,vs v6.1.KZ,.fl (.own 43) 3 (flatten (map aj.enc v25)),vz,vb false,vs z0,vi 0]) 0 ⟨aU _ _ _ _ _ _ _ _ Gx rfl rfl rfl (zl rfl) rfl rfl⟩ ?_
         refine bK [0,4,7,8] ?_
         obtain ⟨v26,hv26,h⟩:=zn h
         refine yx hn 1 ?_
         refine ys 1 ⟨lb hv26⟩ ?_
         refine ye [0,4,7,1] ?_
         refine bA ?_
         exact bF _ (zi h).symm rfl
       ·intro u57 h hl58 hr59
        refine au h (fun hg17_2 h => ?_) (fun hg17_2 h => ?_)
        ·refine yx hn 3 ?_
         refine yd hg17_2 5 ?_
         refine ye [0,4,7,8,15,80] ?_
         exact hl58 _ (zi h).symm
        ·refine yx hn 3 ?_
         refine yd hg17_2 5 ?_
         refine ye [0,4,7,8,15,80] ?_
         exact hl58 _ (zi h).symm
  ·intro u8 h hl9 hr10
   refine au h (fun hg7_2 h => ?_) (fun hg7_2 h => ?_)
   ·refine yx hn 3 ?_
    refine yd hg7_2 3 ?_
    refine ye [0,4,7,8,11,45] ?_
    exact hl9 _ (zi h).symm
   ·refine yx hn 3 ?_
    refine yd hg7_2 3 ?_
    refine ye [0,4,7,8,11,45] ?_
    exact hl9 _ (zi h).symm
theorem bH (a:(List Int)) (b:(List Int)) (r:Bool) (h:Sh.cT a b=some r):co Tryz.prog 21 [.fl .shr 1 (map (int .u8) a),.fl .shr 1 (map (int .u8) b)] (.v (.bool r)):=by
 unfold Sh.cT at h
 refine yO 26 func21 fun g0 hn hio => ?_
 refine bi hn 1 [0,1] ?_
 refine ag ?_
 refine bi hn 5 [0,1,10] ?_
 refine aA _ rfl (fun hb1 => ?_) (fun hb1 => ?_)
 ·have h:=aH hb1 h
  refine bi hn 1 [4] ?_
  refine aD (am ?_)
  obtain rfl:=zi h
  exact aF hio rfl (.tmp _ _ .nil) rfl rfl
 ·have h:=aG hb1 h
  refine aB ?_
  refine ai (ag ?_)
  refine bi hn 1 [0,1,5] ?_
  refine bj h (fun (s12:Int)=>[(0,fb a),(1,fb b),(5,vi s12)]) (fun (():Unit)=>[]) ?_ ?_
  ·rintro ⟨⟩ h
   refine ai ?_
   refine bi hn 1 [4] ?_
   refine aD ?_
   obtain rfl:=zi h
   exact aF hio rfl (.tmp _ _ .nil) rfl rfl
  ·rintro u15 hl16 hr17 s12 rr20 h ho18
   refine ag ?_
   refine bi hn 4 [0,1,5,14] ?_
   refine aA _ rfl (fun hb21 => ?_) (fun hb21 => ?_)
   ·have h:=aH hb21 h
    refine aB ?_
    refine ai (ag ?_)
    refine aS (ag ?_)
    obtain ⟨v3,hv3,h⟩:=zn h
    obtain ⟨v4,hv4,h⟩:=zn h
    obtain ⟨v5,hv5,h⟩:=zn h
    obtain ⟨v6,hv6,h⟩:=zn h
    refine wb [[0],[5]] ?_
    refine wN [17,18] ?_
    refine wo [] ⟨li hv3⟩ ?_
    refine wN [19,17] ?_
    refine wo [[1],[5]] ⟨ll hv4⟩ ?_
    refine wN [21,22] ?_
    refine wo [] ⟨li hv5⟩ ?_
    refine wN [23,21] ?_
    refine wo [[20,24]] ⟨ll hv6⟩ ?_
    refine rz hn [0,1,5,25] ?_
    refine aA _ rfl (fun hb22 => ?_) (fun hb22 => ?_)
    ·have h:=aH hb22 h
     refine bi hn 1 [4] ?_
     refine aD (aY (am (am (aY (am ?_)))))
     have h:=hr17 _ (ho18 _ (zi h).symm).symm
     obtain rfl:=zi h
     exact aF hio rfl (.tmp _ _ .nil) rfl rfl
    ·have h:=aG hb22 h
     refine aB (bA (ai ?_))
     obtain ⟨v8,hv8,h⟩:=zn h
     refine yx hn 1 ?_
     refine ys 0 ⟨lb hv8⟩ ?_
     refine yw [5] 1 ?_
     refine ye [0,1,5] ?_
     exact bF _ (zi h).symm rfl
   ·have h:=aG hb21 h
    refine bx (aE (aE (bu ?_)))
    refine aC [] (by kernel_rfl) (es':=[]) rfl ?_
    exact hl16 _ (ho18 _ (zi h).symm).symm
end Go.Proofs.YtglabbpbianmnaaGreatDoor
