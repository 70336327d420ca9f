import Derived.Test.YtglabbpbianmnaaGreatDoorOkc6
set_option linter.unusedVariables false
set_option linter.unusedSimpArgs false
set_option maxHeartbeats 1000000
namespace Go.Proofs.YtglabbpbianmnaaGreatDoor
open Go.Abs Go.Abs.Sh Tryz
open List (map flatten)
open Value (int)
theorem kD (t:(List Int)) (r:(az×Int)) (h:Sh.bE t=some r):co Tryz.prog 16 [.fl .shr 1 (map (int .u8) t)] (.tup [.agg [.v (.int .i64 r.1.Lg),.v (.int .i64 r.1.Lf),.fr (.own 46) false 8 (flatten (map ae.ienc r.1.Ld))],.v (.int .i64 r.2)]):=by
 unfold Sh.bE at h
 refine yO 119 func16 fun g0 hn hio => ?_
 refine gv hn 0 ?_
 refine yS (.box 24 [vi 0,vi 0,vz]) 1 ⟨oA (bz _ _ jH)⟩ ?_
 refine bK [0,2] ?_
 refine ag ?_
 obtain ⟨v1,hv1,h⟩:=zn h
 refine yx hn 1 ?_
 refine ys 1 ⟨lk call38 (gY _ _ _ hv1)⟩ ?_
 refine bK [0,2,4] ?_
 refine ag ?_
 refine bi hn 2 [0,2,4,20] ?_
 refine aA _ rfl (fun hb2 => ?_) (fun hb2 => ?_)
 ·have h:=aH hb2 h
  refine gv hn 0 ?_
  refine yS (.agg [vi 0,vi 0,vz]) 0 ⟨bT _ _ _ _ [1,1,1] _ _ underlying24 jH (oJ _ underlying24) kR.nil rfl rfl rfl⟩ ?_
  refine yk [21,2] [] ?_
  refine yt (2,.box 24 [vi 0,vi 0,vz]) 1 ⟨bO _ _ _ 21 2 3 ec rfl rfl rfl rfl rfl (.eq _ (.eq _ (.eq _ (.nil _)))) rfl⟩ ?_
  refine bK [2,3] ?_
  refine aD ?_
  refine dl (fs:=[(2,.box 24 [vi 0,vi 0,.fr (.own 46) false 8 (flatten (map ae.ienc []))]),(3,vi 5)]) (.box _ _ (ay (aM _) (ay (aM _) (ay (dA 46 false 8) (cu)))) rfl (.same _ .nil)) ?_
  refine am ?_
  obtain rfl:=zi h
  exact aF hio rfl (.cellA _ _ _ _ underlying24 rfl ec (.tmp _ _ .nil)) rfl rfl
 ·have h:=aG hb2 h
  refine aB ?_
  refine ai (ag ?_)
  obtain ⟨v3,hv3,h⟩:=zn h
  obtain ⟨v4,hv4,h⟩:=zn h
  obtain ⟨v5,hv5,h⟩:=zn h
  refine yx hn 2 ?_
  refine yS (fb v3) 0 ⟨ik _ _ _ 0 v1 _ underlying25 nV rfl rfl rfl ⟨_,rfl⟩ hv3⟩ ?_
  refine ys 0 ⟨lS hv4⟩ ?_
  refine ys 0 ⟨lk call39 (mR _ _ hv5)⟩ ?_
  refine ya 0 ?_
  refine bK [0,2,4,5] ?_
  refine ag (ag ?_)
  refine aP h (fun (s8:Bool)=>[(0,fb t),(2,.box 24 [vi 0,vi 0,vz]),(4,vi v1),(5,.fl (.own 9) 1 (map Value.string v5)),(35,vb s8)]) ?_ ?_
  ·rintro s8 h
   refine ai ?_
   refine aA _ rfl (fun hb12 => ?_) (fun hb12 => ?_)
   ·have h:=aH hb12 h
    refine gv hn 0 ?_
    refine yS (.agg [vi 0,vi 0,vz]) 0 ⟨bT _ _ _ _ [1,1,1] _ _ underlying24 jH (oJ _ underlying24) kR.nil rfl rfl rfl⟩ ?_
    refine yk [36,2] [] ?_
    refine yt (2,.box 24 [vi 0,vi 0,vz]) 1 ⟨bO _ _ _ 36 2 3 ec rfl rfl rfl rfl rfl (.eq _ (.eq _ (.eq _ (.nil _)))) rfl⟩ ?_
    refine bK [2,3] ?_
    refine aD ?_
    refine dl (fs:=[(2,.box 24 [vi 0,vi 0,.fr (.own 46) false 8 (flatten (map ae.ienc []))]),(3,vi 5)]) (.box _ _ (ay (aM _) (ay (aM _) (ay (dA 46 false 8) (cu)))) rfl (.same _ .nil)) ?_
    refine am ?_
    obtain rfl:=zi h
    exact aF hio rfl (.cellA _ _ _ _ underlying24 rfl ec (.tmp _ _ .nil)) rfl rfl
   ·have h:=aG hb12 h
    refine aB (ai ?_)
    refine bi hn 1 [0,2,4,5,6] ?_
    refine ag ?_
    refine bi hn 1 [0,2,4,5,6,7] ?_
    refine gV (fs:=[(0,fb t),(2,.box 24 [vi 0,vi 0,vz]),(4,vi v1),(5,.fl (.own 9) 1 (map Value.string v5)),(6,.fl (.own 3) 1 (map (int .i64) [])),(7,vi 1)]) (.same _ (.same _ (.same _ (.same _ (.sub _ (cg 3 1) rfl (.same _ .nil)))))) ?_
    refine bj h (fun ((s24,s25):(List Int)×Int)=>[(0,fb t),(2,.box 24 [vi 0,vi 0,vz]),(4,vi v1),(5,.fl (.own 9) 1 (map Value.string v5)),(6,.fl (.own 3) 1 (map (int .i64) s24)),(7,vi s25)]) (fun (s28:(List Int))=>[(0,fb t),(2,.box 24 [vi 0,vi 0,vz]),(4,vi v1),(6,.fl (.own 3) 1 (map (int .i64) s28))]) ?_ ?_
    ·rintro s28 h
     refine ai (ag ?_)
     obtain ⟨v37,hv37,h⟩:=zn h
     obtain ⟨v38,hv38,h⟩:=zn h
     refine yx hn 2 ?_
     refine ys 0 ⟨lb hv37⟩ ?_
     refine yS (fb v38) 1 ⟨ik _ _ _ v37 (t.length:Int) _ underlying25 nV rfl rfl ⟨_,rfl⟩ rfl hv38⟩ ?_
     refine bK [0,2,6,9] ?_
     refine ag (ag ?_)
     refine aP h (fun (s43:Bool)=>[(0,fb t),(2,.box 24 [vi 0,vi 0,vz]),(6,.fl (.own 3) 1 (map (int .i64) s28)),(9,fb v38),(68,vb s43)]) ?_ ?_
     ·rintro s43 h
      refine ai ?_
      refine aA _ rfl (fun hb47 => ?_) (fun hb47 => ?_)
      ·have h:=aH hb47 h
       refine gv hn 0 ?_
       refine yS (.agg [vi 0,vi 0,vz]) 0 ⟨bT _ _ _ _ [1,1,1] _ _ underlying24 jH (oJ _ underlying24) kR.nil rfl rfl rfl⟩ ?_
       refine yk [69,2] [] ?_
       refine yt (2,.box 24 [vi 0,vi 0,vz]) 1 ⟨bO _ _ _ 69 2 3 ec rfl rfl rfl rfl rfl (.eq _ (.eq _ (.eq _ (.nil _)))) rfl⟩ ?_
       refine bK [2,3] ?_
       refine aD ?_
       refine dl (fs:=[(2,.box 24 [vi 0,vi 0,.fr (.own 46) false 8 (flatten (map ae.ienc []))]),(3,vi 5)]) (.box _ _ (ay (aM _) (ay (aM _) (ay (dA 46 false 8) (cu)))) rfl (.same _ .nil)) ?_
       refine am ?_
       obtain rfl:=zi h
       exact aF hio rfl (.cellA _ _ _ _ underlying24 rfl ec (.tmp _ _ .nil)) rfl rfl
      ·have h:=aG hb47 h
       refine aB ?_
       refine ai (ag ?_)
       refine ag ?_
       obtain ⟨v48,hv48,h⟩:=zn h
       obtain ⟨v49,hv49,h⟩:=zn h
       obtain ⟨v50,hv50,h⟩:=zn h
       refine wb [[6]] ?_
       refine wN [70,6] ?_
       refine wo [] ⟨li hv48⟩ ?_
       refine wN [71,6] ?_
       refine wo [[9]] ⟨ll hv49⟩ ?_
       refine wN [73] ?_
       refine wo [[72,74]] ⟨lk call28 (jO _ _ hv50)⟩ ?_
       refine rz hn [0,2,6,9,75] ?_
       refine aA _ rfl (fun hb51 => ?_) (fun hb51 => ?_)
       ·have h:=aH hb51 h
        refine gv hn 0 ?_
        refine yS (.agg [vi 0,vi 0,vz]) 0 ⟨bT _ _ _ _ [1,1,1] _ _ underlying24 jH (oJ _ underlying24) kR.nil rfl rfl rfl⟩ ?_
        refine yk [76,2] [] ?_
        refine yt (2,.box 24 [vi 0,vi 0,vz]) 1 ⟨bO _ _ _ 76 2 3 ec rfl rfl rfl rfl rfl (.eq _ (.eq _ (.eq _ (.nil _)))) rfl⟩ ?_
        refine bK [2,3] ?_
        refine aD ?_
        refine dl (fs:=[(2,.box 24 [vi 0,vi 0,.fr (.own 46) false 8 (flatten (map ae.ienc []))]),(3,vi 6)]) (.box _ _ (ay (aM _) (ay (aM _) (ay (dA 46 false 8) (cu)))) rfl (.same _ .nil)) ?_
        refine am ?_
        obtain rfl:=zi h
        exact aF hio rfl (.cellA _ _ _ _ underlying24 rfl ec (.tmp _ _ .nil)) rfl rfl
       ·have h:=aG hb51 h
        refine aB ?_
        refine ai (ag ?_)
        obtain ⟨v52,hv52,h⟩:=zn h
        obtain ⟨v53,hv53,h⟩:=zn h
        obtain ⟨v54,hv54,h⟩:=zn h
        obtain ⟨v55,hv55,h⟩:=zn h
        refine wb [[6]] ?_
        refine wN [77,6] ?_
        refine wo [] ⟨li hv52⟩ ?_
        refine wN [78,6] ?_
        refine wo [[6]] ⟨ll hv53⟩ ?_
        refine wN [80,6] ?_
        refine wo [] ⟨li hv54⟩ ?_
        refine wN [81,6] ?_
        refine wo [] ⟨ll hv55⟩ ?_
        refine wN [79,82] ?_
        refine wS (.agg [vi v53,vi v55,vz]) [] ⟨bT _ _ _ _ [1,1,1] _ _ underlying24 jH (oJ _ underlying24) (.copy _ (.copy _ kR.nil)) rfl rfl rfl⟩ ?_
        refine wN [] ?_
        refine wS (.box 24 [vi 0,vi 0,vz]) [] ⟨oA (bz _ _ jH)⟩ ?_
        refine wK [10] [83] ?_
        refine wt [(10,.box 24 [vi v53,vi v55,vz])] [] ⟨lz _ _ _ _ _ _ _ _ ec rfl rfl rfl rfl (zl rfl) rfl rfl⟩ ?_
        refine rz hn [0,2,9,10] ?_
        refine bi hn 1 [0,2,9,10,11] ?_
        refine ag ?_
        refine gV (fs:=[(0,fb t),(2,.box 24 [vi 0,vi 0,vz]),(9,fb v38),(10,.box 24 [vi v53,vi v55,.fr (.own 46) false 8 (flatten (map ae.ienc []))]),(11,vi 0)]) (.same _ (.same _ (.same _ (.box _ _ (ay (aM _) (ay (aM _) (ay (dA 46 false 8) (cu)))) rfl (.same _ .nil))))) ?_
        refine bj h (fun ((s64,s65):(List ae)×Int)=>[(0,fb t),(2,.box 24 [vi 0,vi 0,vz]),(9,fb v38),(10,.box 24 [vi v53,vi v55,.fr (.own 46) false 8 (flatten (map ae.ienc s64))]),(11,vi s65)]) (fun (s68:(List ae))=>[(0,fb t),(2,.box 24 [vi 0,vi 0,vz]),(10,.box 24 [vi v53,vi v55,.fr (.own 46) false 8 (flatten (map ae.ienc s68))])]) ?_ ?_
        ·rintro s68 h
         refine ai (ag ?_)
         obtain ⟨v77,hv77,h⟩:=zn h
         refine yx hn 1 ?_
         refine ys 0 ⟨lk call14 (eS _ _ hv77)⟩ ?_
         refine ym 0 ?_
         refine yV 1 ?_
         refine ya 1 ?_
         refine bK [0,2,10,15,16] ?_
         refine ag (ag ?_)
         refine aP h (fun (s79:Bool)=>[(2,.box 24 [vi 0,vi 0,vz]),(10,.box 24 [vi v53,vi v55,.fr (.own 46) false 8 (flatten (map ae.ienc s68))]),(116,vb s79)]) ?_ ?_
         ·rintro s79 h
          refine ai ?_
          refine aA _ rfl (fun hb83 => ?_) (fun hb83 => ?_)
          ·have h:=aH hb83 h
           refine gv hn 0 ?_
           refine yS (.agg [vi 0,vi 0,vz]) 0 ⟨bT _ _ _ _ [1,1,1] _ _ underlying24 jH (oJ _ underlying24) kR.nil rfl rfl rfl⟩ ?_
           refine yk [117,2] [] ?_
           refine yt (2,.box 24 [vi 0,vi 0,vz]) 1 ⟨bO _ _ _ 117 2 3 ec rfl rfl rfl rfl rfl (.eq _ (.eq _ (.eq _ (.nil _)))) rfl⟩ ?_
           refine bK [2,3] ?_
           refine aD ?_
           refine dl (fs:=[(2,.box 24 [vi 0,vi 0,.fr (.own 46) false 8 (flatten (map ae.ienc []))]),(3,vi 5)]) (.box _ _ (ay (aM _) (ay (aM _) (ay (dA 46 false 8) (cu)))) rfl (.same _ .nil)) ?_
           refine am ?_
           obtain rfl:=zi h
           exact aF hio rfl (.cellA _ _ _ _ underlying24 rfl ec (.tmp _ _ .nil)) rfl rfl
          ·have h:=aG hb83 h
           refine aB (ai ?_)
           refine gv hn 0 ?_
           refine yk [10] [] ?_
           refine yt (118,.agg [vi v53,vi v55,.fr (.own 46) false 8 (flatten (map ae.ienc s68))]) 0 ⟨aW _ _ _ _ underlying24 rfl ec rfl rfl⟩ ?_
           refine yk [118,2] [] ?_
           refine yt (2,.box 24 [vi v53,vi v55,.fr (.own 46) false 8 (flatten (map ae.ienc s68))]) 1 ⟨aU _ _ _ _ _ _ _ _ ec rfl rfl rfl (zl rfl) rfl rfl⟩ ?_
           refine bK [2,3] ?_
           refine aD ?_
           obtain rfl:=zi h
           exact aF hio rfl (.cellA _ _ _ _ underlying24 rfl ec (.tmp _ _ .nil)) rfl rfl
         ·intro u80 h hl81 hr82
          refine au h (fun hg28_2 h => ?_) (fun hg28_2 h => ?_)
          ·refine yx hn 3 ?_
           refine yd hg28_2 5 ?_
           refine ye [2,10,116] ?_
           exact hl81 _ (zi h).symm
          ·obtain ⟨v78,hv78,h⟩:=zn h
           refine yx hn 3 ?_
           refine yd hg28_2 0 ?_
           refine ym 1 ?_
           refine ys 2 ⟨lk call21 (bH _ _ _ hv78)⟩ ?_
           refine ye [2,10,116] ?_
           exact hl81 _ (zi h).symm
        ·rintro u69 hl70 hr71 ⟨s64,s65⟩ rr74 h ho72
         refine ag ?_
         refine bi hn 4 [0,2,9,10,11,87] ?_
         refine aA _ rfl (fun hb75 => ?_) (fun hb75 => ?_)
         ·have h:=aH hb75 h
          refine aB (ai (aS (ag ?_)))
          obtain ⟨v57,hv57,h⟩:=zn h
          refine yx hn 2 ?_
          refine ys 0 ⟨lk call41 (nG _ _ _ hv57)⟩ ?_
          refine ym 0 ?_
          refine yV 2 ?_
          refine yS (.box 46 [vb false,vs z0,vs z0,vz,vz,vb false,vs z0,vi 0]) 0 ⟨oA (bz _ _ kh)⟩ ?_
          refine yk [92,12] [] ?_
          refine yt (12,.box 46 [vb v57.1.La.Le,vs v57.1.La.Lc,vs v57.1.La.KZ,.fl (.own 43) 3 (flatten (map aj.enc v57.1.To)),.fl (.own 5) 1 (map (int .u8) v57.1.KY),vb v57.1.Lh,vs v57.1.Lb,vi v57.1.At]) 2 ⟨aU _ _ _ _ _ _ _ _ eD rfl rfl rfl (zl rfl) rfl rfl⟩ ?_
          refine bK [0,2,9,10,12,13,14] ?_
          refine ag ?_
          refine bi hn 2 [0,2,9,10,12,13,96] ?_
          refine aA _ rfl (fun hb76 => ?_) (fun hb76 => ?_)
          ·have h:=aH hb76 h
           refine bx (aE ?_)
           refine lA (by decide) ?_
           refine aE (bu ?_)
           refine aC [0,1,3] (by kernel_rfl) (es':=[(_,_),(_,_),(_,_)]) rfl ?_
           exact hl70 _ (ho72 _ (zi h).symm).symm
          ·have h:=aG hb76 h
           refine aB ?_
           refine ai (ag ?_)
           obtain ⟨v59,hv59,h⟩:=zn h
           refine yx hn 2 ?_
           refine yk [12] [] ?_
           refine yt (99,.agg [vb v57.1.La.Le,vs v57.1.La.Lc,vs v57.1.La.KZ,.fl (.own 43) 3 (flatten (map aj.enc v57.1.To)),.fl (.own 5) 1 (map (int .u8) v57.1.KY),vb v57.1.Lh,vs v57.1.Lb,vi v57.1.At]) 0 ⟨aW _ _ _ _ underlying46 rfl eD rfl rfl⟩ ?_
           refine yk [99] [] ?_
           refine yt (100,.fr (.own 46) false 8 (flatten (map ae.ienc [(ae.mk (aj.mk v57.1.La.Le v57.1.La.Lc v57.1.La.KZ) v57.1.To v57.1.KY v57.1.Lh v57.1.Lb v57.1.At)]))) 0 ⟨gf _ _ _ 8 (.agg #[.bool false,.string ByteArray.empty,.string ByteArray.empty,.slice none 0 0,.slice none 0 0,.bool false,.string ByteArray.empty,.int .i64 0]) false _ _ underlying22 eD kh rfl (.cons (.v _) (.cons (.v _) (.cons (.v _) (.cons (.ro _ _ rfl) (.cons (.ro _ _ rfl) (.cons (.v _) (.cons (.v _) (.cons (.v _) (.nil))))))))) rfl (by decide) (by decide)⟩ ?_
           refine yk [10] [98,100] ?_
           refine qk (10,.box 24 [vi v53,vi v55,.any]) (101,.fr (.own 46) false 8 (flatten (map ae.ienc v59))) 1 ⟨mN _ 101 10 2 _ _ Cf rfl rfl (zl rfl) rfl (eo ae.ilen _) (eo ae.ilen _) hv59 (lC (jh hv59)) (by decide) (by decide) (by decide) rfl rfl⟩ ?_
           refine yw [98] 0 ?_
           refine yk [101,10] [102] ?_
           refine yt (10,.box 24 [vi v53,vi v55,.fr (.own 46) false 8 (flatten (map ae.ienc v59))]) 0 ⟨aU _ _ _ _ _ _ _ _ Iw rfl rfl rfl (zl rfl) rfl rfl⟩ ?_
           refine bK [0,2,9,10,13] ?_
           refine yy hn 2 [0,2,9,10,11] ?_
           refine bA ?_
           exact bF _ (zi h).symm rfl
         ·have h:=aG hb75 h
          refine bx (aE (aE (bu ?_)))
          refine aC [0,1,3] (by kernel_rfl) (es':=[(_,_),(_,_),(_,_)]) rfl ?_
          exact hl70 _ (ho72 _ (zi h).symm).symm
     ·intro u44 h hl45 hr46
      obtain ⟨v39,hv39,h⟩:=zn h
      obtain ⟨v40,hv40,h⟩:=zn h
      refine au h (fun hg16_4 h => ?_) (fun hg16_4 h => ?_)
      ·refine yx hn 1 ?_
       refine ys 0 ⟨li hv39⟩ ?_
       refine ys 2 ⟨ll hv40⟩ ?_
       refine yd hg16_4 7 ?_
       refine ye [0,2,6,9,68] ?_
       exact hl45 _ (zi h).symm
      ·obtain ⟨v41,hv41,h⟩:=zn h
       obtain ⟨v42,hv42,h⟩:=zn h
       refine yx hn 1 ?_
       refine ys 0 ⟨li hv39⟩ ?_
       refine ys 2 ⟨ll hv40⟩ ?_
       refine yd hg16_4 1 ?_
       refine ys 0 ⟨li hv41⟩ ?_
       refine ys 4 ⟨ll hv42⟩ ?_
       refine ye [0,2,6,9,68] ?_
       exact hl45 _ (zi h).symm
    ·rintro u29 hl30 hr31 ⟨s24,s25⟩ rr34 h ho32
     refine ag ?_
     refine bi hn 2 [0,2,4,5,6,7,38] ?_
     refine aA _ rfl (fun hb35 => ?_) (fun hb35 => ?_)
     ·have h:=aH hb35 h
      refine aB ?_
      refine ai (ag ?_)
      refine aS (ag ?_)
      obtain ⟨v14,hv14,h⟩:=zn h
      obtain ⟨v15,hv15,h⟩:=zn h
      obtain ⟨v16,hv16,h⟩:=zn h
      refine yx hn 2 ?_
      refine ys 0 ⟨li hv14⟩ ?_
      refine ys 0 ⟨ll hv15⟩ ?_
      refine ys 1 ⟨lk call40 (lX _ _ _ hv16)⟩ ?_
      refine bK [0,2,4,5,6,7,8] ?_
      refine ag ?_
      refine bi hn 2 [0,2,4,5,6,7,8,47] ?_
      refine aA _ rfl (fun hb36 => ?_) (fun hb36 => ?_)
      ·have h:=aH hb36 h
       refine gv hn 0 ?_
       refine yS (.agg [vi 0,vi 0,vz]) 0 ⟨bT _ _ _ _ [1,1,1] _ _ underlying24 jH (oJ _ underlying24) kR.nil rfl rfl rfl⟩ ?_
       refine yk [48,2] [] ?_
       refine yt (2,.box 24 [vi 0,vi 0,vz]) 1 ⟨bO _ _ _ 48 2 3 ec rfl rfl rfl rfl rfl (.eq _ (.eq _ (.eq _ (.nil _)))) rfl⟩ ?_
       refine bK [2,3] ?_
       refine aD ?_
       refine dl (fs:=[(2,.box 24 [vi 0,vi 0,.fr (.own 46) false 8 (flatten (map ae.ienc []))]),(3,vi 5)]) (.box _ _ (ay (aM _) (ay (aM _) (ay (dA 46 false 8) (cu)))) rfl (.same _ .nil)) ?_
       refine am (aY (am (am (aY (am ?_)))))
       have h:=hr31 _ (ho32 _ (zi h).symm).symm
       obtain rfl:=zi h
       exact aF hio rfl (.cellA _ _ _ _ underlying24 rfl ec (.tmp _ _ .nil)) rfl rfl
      ·have h:=aG hb36 h
       refine aB (ai ?_)
       obtain ⟨v18,hv18,h⟩:=zn h
       refine yx hn 0 ?_
       refine ym 1 ?_
       refine yS (.fl (.own 3) 1 (map (int .i64) [v16])) 0 ⟨ce _ _ 1 (.int .i64 0) (map (int .i64) [v16]) [(0,.int .i64 v16)] underlying61 FL IW (fun _ V w o a hv hes=>by have e0:=dN hv hes (x := .tmp 50) rfl; simp only [List.map_toArray,List.map_cons,List.map_nil,e0]; try rfl) (fy (by simp [Instr.fill,Value.cells]; rfl) (by simp [List.range,List.range.loop] <;> rfl)) (by simp [Value.oneCell']) rfl (by decide) (by decide) (by decide)⟩ ?_
       refine yp Jg hv18 0 ?_
       refine ya 0 ?_
       refine ye [0,2,4,5,7,6] ?_
       refine bA (ai ?_)
       obtain ⟨v19,hv19,h⟩:=zn h
       refine yx hn 1 ?_
       refine ys 0 ⟨lb hv19⟩ ?_
       refine yw [7] 1 ?_
       refine ye [0,2,4,5,6,7] ?_
       exact bF _ (zi h).symm rfl
     ·have h:=aG hb35 h
      refine bx (aE (aE (bu ?_)))
      refine aC [0,1,2,4] (by kernel_rfl) (es':=[(_,_),(_,_),(_,_),(_,_)]) rfl ?_
      exact hl30 _ (ho32 _ (zi h).symm).symm
  ·intro u9 h hl10 hr11
   refine au h (fun hg5_3 h => ?_) (fun hg5_3 h => ?_)
   ·refine yx hn 4 ?_
    refine yd hg5_3 5 ?_
    refine ye [0,2,4,5,35] ?_
    exact hl10 _ (zi h).symm
   ·obtain ⟨v6,hv6,h⟩:=zn h
    obtain ⟨v7,hv7,h⟩:=zn h
    refine yx hn 4 ?_
    refine yd hg5_3 1 ?_
    refine ys 0 ⟨li hv6⟩ ?_
    refine ys 2 ⟨ll hv7⟩ ?_
    refine ye [0,2,4,5,35] ?_
    exact hl10 _ (zi h).symm
theorem mV (mx:Int) (l:(List ae)) (origin:Int) (number:Int) (r:(Int×Int)) (h:Sh.ij l origin number=some r):kF Tryz.prog (GL mx) 17 [.fr .shr true 8 (flatten (map ae.ienc l)),.v (.int .i64 origin),.v (.int .i64 number)] (.tup [.v (.int .i64 r.1),.v (.int .i64 r.2)]):=by
 unfold Sh.ij at h
 refine yG 51 func17 fun g0 hn hio => ?_
 refine bi hn 2 [0,1,2,51] ?_
 refine bi hn 1 [0,1,2,51,8] ?_
 refine ag (ag ?_)
 obtain ⟨v1,hv1,h⟩:=zn h
 obtain ⟨v2,hv2,h⟩:=zn h
 refine yx hn 3 ?_
 refine yS (vi v1) 0 ⟨(Option.some.inj hv1) ▸ rE _ _ _ _ rfl rfl⟩ ?_
 refine yS (.fr .shr true 8 (flatten (map ae.ienc v2))) 2 ⟨qD _ _ (Int.toNat 0) (Int.toNat v1) _ underlying22 eD (by decide) rfl rfl rfl ⟨_,congrArg (fun j=>AV.v (int .i64 j)) (qa hv2).2.1⟩ (qa hv2).2.2.1 (by rw [eo ae.ilen]; exact Nat.mul_le_mul_right _ (qa hv2).2.2.2) (tU ae.ilen hv2)⟩ ?_
 refine bK [1,2,51,8,18,19,20] ?_
 refine gV (fs:=[(1,vi origin),(2,vi number),(51,.glob (GL mx)),(8,.fr (.own 46) true 8 (flatten (map ae.ienc []))),(18,.fr .shr true 8 (flatten (map ae.ienc v2))),(19,vi (v2.length:Int)),(20,vi 0)]) (.same _ (.same _ (.same _ (.sub _ (dA 46 true 8) rfl (.same _ (.same _ (.same _ .nil))))))) ?_
 refine bj h (fun ((s11,s12):(List ae)×Int)=>[(1,vi origin),(2,vi number),(51,.glob (GL mx)),(8,.fr (.own 46) true 8 (flatten (map ae.ienc s11))),(18,.fr .shr true 8 (flatten (map ae.ienc v2))),(19,vi (v2.length:Int)),(20,vi s12)]) (fun (s14:(List ae))=>[(1,vi origin),(2,vi number),(51,.glob (GL mx)),(8,.fr (.own 46) true 8 (flatten (map ae.ienc s14)))]) ?_ ?_
 ·rintro s14 h
  refine ai (ag ?_)
  refine bi hn 3 [1,2,51,8,11] ?_
  refine vy 3 hio (es':=[(1,.v (.int .i64 origin)),(2,.v (.int .i64 number)),(51,.glob (GL mx)),(8,.fr .ro true 8 (flatten (map ae.ienc s14))),(11,.v (.int .i64 (s14.length:Int)))]) rfl ?_
  refine bj h (fun ((s31,s32):(List ae)×Int)=>[(1,vi origin),(2,vi number),(51,.glob (GL mx)),(8,.fr .ro true 8 (flatten (map ae.ienc s31))),(11,vi s32)]) (fun (():Unit)=>[(51,.glob (GL mx))]) ?_ ?_
  ·rintro ⟨⟩ h
   refine ai ?_
   refine bi hn 2 [51,6,7] ?_
   refine aD ?_
   refine aC [1,2] (by kernel_rfl) (es':=[(_,_),(_,_)]) rfl ?_
   obtain rfl:=zi h
   exact aF hio rfl (.tmp _ _ (.tmp _ _ .nil)) rfl rfl
  ·rintro u35 hl36 hr37 ⟨s31,s32⟩ rr40 h ho38
   refine ag ?_
   refine bi hn 2 [1,2,51,8,11,35] ?_
   refine aA _ rfl (fun hb41 => ?_) (fun hb41 => ?_)
   ·have h:=aH hb41 h
    refine aB ?_
    refine ai (ag ?_)
    refine aS (ag ?_)
    obtain ⟨v23,hv23,h⟩:=zn h
    obtain ⟨v24,hv24,h⟩:=zn h
    refine yx hn 4 ?_
    refine yS (.fr .ro true 8 (flatten (map ae.ienc v23))) 0 ⟨qD _ _ (Int.toNat 0) (Int.toNat s32) _ underlying22 eD (by decide) rfl rfl rfl ⟨_,congrArg (fun j=>AV.v (int .i64 j)) (qa hv23).2.1⟩ (qa hv23).2.2.1 (by rw [eo ae.ilen]; exact Nat.mul_le_mul_right _ (qa hv23).2.2.2) (tU ae.ilen hv23)⟩ ?_
    refine yS (.agg [vi origin,vi number,.fr .ro true 8 (flatten (map ae.ienc v23))]) 0 ⟨bT _ _ _ _ [1,1,1] _ _ underlying24 jH (oJ _ underlying24) (.copy _ (.copy _ (.copy _ kR.nil))) rfl rfl rfl⟩ ?_
    refine ys 0 ⟨lg call13 (gP _ _ _ hv24) 51⟩ ?_
    refine ym 0 ?_
    refine yV 1 ?_
    refine ya 1 ?_
    refine bK [1,2,51,8,11,13] ?_
    refine bi hn 2 [1,2,51,8,11,49] ?_
    refine aA _ rfl (fun hb42 => ?_) (fun hb42 => ?_)
    ·have h:=aH hb42 h
     refine bi hn 3 [51,6,7] ?_
     refine aD ?_
     refine aC [1,2] (by kernel_rfl) (es':=[(_,_),(_,_)]) rfl ?_
     refine aY (am (am (aY (am ?_))))
     have h:=hr37 _ (ho38 _ (zi h).symm).symm
     obtain rfl:=zi h
     exact aF hio rfl (.tmp _ _ (.tmp _ _ .nil)) rfl rfl
    ·have h:=aG hb42 h
     refine aB (bA (ai ?_))
     obtain ⟨v26,hv26,h⟩:=zn h
     refine yx hn 1 ?_
     refine ys 0 ⟨lb hv26⟩ ?_
     refine yw [11] 1 ?_
     refine ye [1,2,51,8,11] ?_
     exact bF _ (zi h).symm rfl
   ·have h:=aG hb41 h
    refine bx (aE (aE (bu ?_)))
    refine aC [2] (by kernel_rfl) (es':=[(_,_)]) rfl ?_
    exact hl36 _ (ho38 _ (zi h).symm).symm
 ·rintro u15 hl16 hr17 ⟨s11,s12⟩ rr20 h ho18
  refine bi hn 1 [1,2,51,8,18,19,20,21] ?_
  refine ag ?_
  refine aA _ rfl (fun hb21 => ?_) (fun hb21 => ?_)
  ·have h:=aH hb21 h
   refine aB ?_
   refine ai (ag ?_)
   refine aS (ag ?_)
   obtain ⟨v4,hv4,h⟩:=zn h
   obtain ⟨v5,hv5,h⟩:=zn h
   refine yx hn 0 ?_
   refine ys 0 ⟨lI hv4⟩ ?_
   refine yS (.agg (ae.c v5 [])) 0 ⟨eg _ _ _ _ _ _ _ _ underlying46 rfl eD rfl rfl (fc ae.ilen hv5) (.cons (.v _) (.cons (.v _) (.cons (.v _) (.cons (.fl _ _ rfl) (.cons (.fl _ _ rfl) (.cons (.v _) (.cons (.v _) (.cons (.v _) (.nil))))))))) rfl (by decide)⟩ ?_
   refine yS (.box 46 [vb false,vs z0,vs z0,vz,vz,vb false,vs z0,vi 0]) 1 ⟨oA (bz _ _ kh)⟩ ?_
   refine bK [1,2,51,8,18,19,20,10] ?_
   refine bi hn 6 [1,2,51,8,18,19,20,10] ?_
   obtain ⟨v6,hv6,h⟩:=zn h
   refine yx hn 0 ?_
   refine ym 1 ?_
   refine yS (.fr (.own 46) true 8 (flatten (map ae.ienc ([(ae.mk (aj.mk v5.La.Le v5.La.Lc v5.La.KZ) v5.To v5.KY false z0 0)])))) 0 ⟨pH _ _ _ 8 (.agg #[.bool false,.string ByteArray.empty,.string ByteArray.empty,.slice none 0 0,.slice none 0 0,.bool false,.string ByteArray.empty,.int .i64 0]) true _ _ underlying22 eD kh rfl rfl (.cons (.v _) (.cons (.v _) (.cons (.v _) (.cons (.shr _ _ rfl rfl) (.cons (.shr _ _ rfl rfl) (.cons (.v _) (.cons (.v _) (.cons (.v _) (.nil))))))))) rfl (by decide) (by decide)⟩ ?_
   refine yk [27] [29] ?_
   refine qk (27,.any) (30,.fr (.own 46) true 8 (flatten (map ae.ienc v6))) 0 ⟨qe _ _ _ _ _ Cf rfl rfl (eo ae.ilen _) (eo ae.ilen _) hv6 (lC (jh hv6)) (by decide) (by decide)⟩ ?_
   refine ya 0 ?_
   refine ye [1,2,51,18,19,20,8] ?_
   refine bA (ai ?_)
   obtain ⟨v7,hv7,h⟩:=zn h
   refine yx hn 0 ?_
   refine ys 0 ⟨lb hv7⟩ ?_
   refine yw [20] 1 ?_
   refine ye [1,2,51,18,19,8,20] ?_
   refine aC [0,1,2,5,3,4,6] (by kernel_rfl) (es':=[(_,_),(_,_),(_,_),(_,_),(_,_),(_,_),(_,_)]) rfl ?_
   exact bF _ (zi h).symm rfl
  ·have h:=aG hb21 h
   refine bx (aE (aE (bu ?_)))
   refine aC [0,1,2,3] (by kernel_rfl) (es':=[(_,_),(_,_),(_,_),(_,_)]) rfl ?_
   exact hl16 _ (ho18 _ (zi h).symm).symm
theorem mF (m:ae) (r:ae) (h:Sh.dC m=some r):co Tryz.prog 26 [.agg [.v (.bool m.La.Le),.v (.string m.La.Lc),.v (.string m.La.KZ),.fl .shr 3 (flatten (map aj.enc m.To)),.fl .shr 1 (map (int .u8) m.KY),.v (.bool m.Lh),.v (.string m.Lb),.v (.int .i64 m.At)]] (.agg [.v (.bool r.La.Le),.v (.string r.La.Lc),.v (.string r.La.KZ),.fl (.own 43) 3 (flatten (map aj.enc r.To)),.fl (.own 5) 1 (map (int .u8) r.KY),.v (.bool r.Lh),.v (.string r.Lb),.v (.int .i64 r.At)]):=by
 unfold Sh.dC at h
 refine yO 12 func26 fun g0 hn hio => ?_
 refine gv hn 1 ?_
 refine yS (.box 46 [vb false,vs z0,vs z0,vz,vz,vb false,vs z0,vi 0]) 0 ⟨oA (bz _ _ kh)⟩ ?_
 refine bK [1,2] ?_
 refine ag ?_
 obtain ⟨v1,hv1,h⟩:=zn h
 obtain ⟨v2,hv2,h⟩:=zn h
 refine wb [[1],[3,1],[1],[5,1]] ?_
 refine wN [6] ?_
 refine wo [[1],[8,1]] ⟨lk call47 (ig _ _ hv1)⟩ ?_
 refine wN [9] ?_
 refine wo [] ⟨lk call12 (gX _ _ hv2)⟩ ?_
 refine wK [7,10] [4] ?_
 refine wt [(11,.agg [vb m.La.Le,vs m.La.Lc,vs m.La.KZ,.fl (.own 43) 3 (flatten (map aj.enc v1)),.fl (.own 5) 1 (map (int .u8) v2),vb false,vs z0,vi 0])] [] ⟨bT _ _ _ _ [3,1,1,1,1,1] _ _ underlying46 kh (Cl _ underlying46) (.copy _ (.take _ _ (.take _ _ kR.nil))) rfl rfl rfl⟩ ?_
 refine wK [11,2] [] ?_
 refine wt [(2,.box 46 [vb m.La.Le,vs m.La.Lc,vs m.La.KZ,.fl (.own 43) 3 (flatten (map aj.enc v1)),.fl (.own 5) 1 (map (int .u8) v2),vb false,vs z0,vi 0])] [] ⟨aU _ _ _ _ _ _ _ _ eD rfl rfl rfl (zl rfl) rfl rfl⟩ ?_
 refine rz hn [2] ?_
 refine aD ?_
 obtain rfl:=zi h
 exact aF hio rfl (.cellA _ _ _ _ underlying46 rfl eD .nil) rfl rfl
theorem nM (l:(List ae)) (origin:Int) (number:Int) (r:Int) (h:Sh.fF l origin number=some r):co Tryz.prog 18 [.fr .shr true 8 (flatten (map ae.ienc l)),.v (.int .i64 origin),.v (.int .i64 number)] (.v (.int .i64 r)):=by
 unfold Sh.fF at h
 refine yO 50 func18 fun g0 hn hio => ?_
 refine bi hn 1 [0,1,2] ?_
 refine bi hn 1 [0,1,2,7] ?_
 refine ag ?_
 refine bi hn 1 [0,1,2,7,8] ?_
 refine bj h (fun ((s92,s93):Int×Int)=>[(0,.fr .shr true 8 (flatten (map ae.ienc l))),(1,vi origin),(2,vi number),(7,vi s92),(8,vi s93)]) (fun (s135:Int)=>[(7,vi s135)]) ?_ ?_
 ·rintro s135 h
  refine ai ?_
  refine bi hn 2 [6] ?_
  refine aD ?_
  obtain rfl:=zi h
  exact aF hio rfl (.tmp _ _ .nil) rfl rfl
 ·rintro u136 hl137 hr138 ⟨s92,s93⟩ rr141 h ho139
  refine ag (ag ?_)
  refine aP h (fun (s142:Bool)=>[(0,.fr .shr true 8 (flatten (map ae.ienc l))),(1,vi origin),(2,vi number),(7,vi s92),(8,vi s93),(20,vb s142)]) ?_ ?_
  ·rintro s142 h
   refine ai ?_
   refine aA _ rfl (fun hb146 => ?_) (fun hb146 => ?_)
   ·have h:=aH hb146 h
    refine aB ?_
    refine ai (ag ?_)
    refine aP h (fun (s163:Int)=>[(0,.fr .shr true 8 (flatten (map ae.ienc l))),(1,vi origin),(2,vi number),(8,vi s93),(7,vi s163)]) ?_ ?_
    ·rintro s163 h
     refine ai ?_
     obtain ⟨v48,hv48,h⟩:=zn h
     refine yx hn 1 ?_
     refine ys 0 ⟨lb hv48⟩ ?_
     refine yw [8] 1 ?_
     refine ye [0,1,2,7,8] ?_
     exact bF _ (zi h).symm rfl
    ·intro u164 h hl165 hr166
     refine aS ?_
     refine gv hn 2 ?_
     refine yS (.agg [vi origin,vi number,vz]) 0 ⟨bT _ _ _ _ [1,1,1] _ _ underlying24 jH (oJ _ underlying24) (.copy _ (.copy _ kR.nil)) rfl rfl rfl⟩ ?_
     refine yS (.box 24 [vi 0,vi 0,vz]) 1 ⟨oA (bz _ _ jH)⟩ ?_
     refine bK [0,1,2,7,8,9] ?_
     refine ag ?_
     refine bi hn 1 [0,1,2,7,8,9,10] ?_
     refine gV (fs:=[(0,.fr .shr true 8 (flatten (map ae.ienc l))),(1,vi origin),(2,vi number),(7,vi s92),(8,vi s93),(9,.box 24 [vi origin,vi number,.fr (.own 46) false 8 (flatten (map ae.ienc []))]),(10,vi 0)]) (.same _ (.same _ (.same _ (.same _ (.same _ (.box _ _ (ay (aM _) (ay (aM _) (ay (dA 46 false 8) (cu)))) rfl (.same _ .nil))))))) ?_
     refine bj h (fun ((s171,s172):(List ae)×Int)=>[(0,.fr .shr true 8 (flatten (map ae.ienc l))),(1,vi origin),(2,vi number),(7,vi s92),(8,vi s93),(9,.box 24 [vi origin,vi number,.fr (.own 46) false 8 (flatten (map ae.ienc s171))]),(10,vi s172)]) (fun (s174:(List ae))=>[(0,.fr .shr true 8 (flatten (map ae.ienc l))),(1,vi origin),(2,vi number),(7,vi s92),(8,vi s93),(9,.box 24 [vi origin,vi number,.fr (.own 46) false 8 (flatten (map ae.ienc s174))])]) ?_ ?_
     ·rintro s174 h
      refine ai (ag ?_)
      obtain ⟨v26,hv26,h⟩:=zn h
      refine yx hn 0 ?_
      refine yk [9] [] ?_
      refine yt (42,.agg [vi origin,vi number,.fr (.own 46) false 8 (flatten (map ae.ienc s174))]) 0 ⟨aW _ _ _ _ underlying24 rfl ec rfl rfl⟩ ?_
      refine ys 0 ⟨lk call14 (eS _ _ hv26)⟩ ?_
      refine ym 0 ?_
      refine yV 1 ?_
      refine ya 1 ?_
      refine bK [0,1,2,7,8,12] ?_
      refine bi hn 2 [0,1,2,7,8,47] ?_
      refine aA _ rfl (fun hb182 => ?_) (fun hb182 => ?_)
      ·have h:=aH hb182 h
       refine yx hn 1 ?_
       refine yw [7] 1 ?_
       refine ye [0,1,2,8,7] ?_
       refine bA ?_
       exact hl165 _ (zi h).symm
      ·have h:=aG hb182 h
       refine aB (bA ?_)
       refine aC [0,1,2,4,3] (by kernel_rfl) (es':=[(_,_),(_,_),(_,_),(_,_),(_,_)]) rfl ?_
       exact hl165 _ (zi h).symm
     ·rintro u175 hl176 hr177 ⟨s171,s172⟩ rr180 h ho178
      refine ag ?_
      refine bi hn 3 [0,1,2,7,8,9,10,28] ?_
      refine aA _ rfl (fun hb181 => ?_) (fun hb181 => ?_)
      ·have h:=aH hb181 h
       refine aB ?_
       refine ai (ag ?_)
       refine aS ?_
       obtain ⟨v7,hv7,h⟩:=zn h
       obtain ⟨v8,hv8,h⟩:=zn h
       obtain ⟨v9,hv9,h⟩:=zn h
       obtain ⟨v10,hv10,h⟩:=zn h
       refine wb [[9],[31,9],[0],[10]] ?_
       refine wN [33,34] ?_
       refine wo [] ⟨lI hv7⟩ ?_
       refine wN [35,33] ?_
       refine wS (.agg (ae.c v8 [])) [] ⟨eg _ _ _ _ _ _ _ _ underlying46 rfl eD rfl rfl (fc ae.ilen hv8) (.cons (.v _) (.cons (.v _) (.cons (.v _) (.cons (.fl _ _ rfl) (.cons (.fl _ _ rfl) (.cons (.v _) (.cons (.v _) (.cons (.v _) (.nil))))))))) rfl (by decide)⟩ ?_
       refine wN [36] ?_
       refine wo [] ⟨lk call26 (mF _ _ hv9)⟩ ?_
       refine wK [37] [] ?_
       refine wt [(38,.fr (.own 46) false 8 (flatten (map ae.ienc [(ae.mk (aj.mk v9.La.Le v9.La.Lc v9.La.KZ) v9.To v9.KY v9.Lh v9.Lb v9.At)])))] [] ⟨gf _ _ _ 8 (.agg #[.bool false,.string ByteArray.empty,.string ByteArray.empty,.slice none 0 0,.slice none 0 0,.bool false,.string ByteArray.empty,.int .i64 0]) false _ _ underlying22 eD kh rfl (.cons (.v _) (.cons (.v _) (.cons (.v _) (.cons (.ro _ _ rfl) (.cons (.ro _ _ rfl) (.cons (.v _) (.cons (.v _) (.cons (.v _) (.nil))))))))) rfl (by decide) (by decide)⟩ ?_
       refine wK [9] [32,38] ?_
       refine wt [(9,.box 24 [vi origin,vi number,.any]),(39,.fr (.own 46) false 8 (flatten (map ae.ienc v10)))] [[9]] ⟨mN _ 39 9 2 _ _ Cf rfl rfl (zl rfl) rfl (eo ae.ilen _) (eo ae.ilen _) hv10 (lC (jh hv10)) (by decide) (by decide) (by decide) rfl rfl⟩ ?_
       refine wK [32,39,9] [40] ?_
       refine wt [(9,.box 24 [vi origin,vi number,.fr (.own 46) false 8 (flatten (map ae.ienc v10))])] [] ⟨bG.drop [_] (aU _ _ _ _ _ _ _ _ Iw rfl rfl rfl (zl rfl) rfl rfl)⟩ ?_
       refine we hn [0,1,2,7,8,9,10] ?_
       refine bA (ai ?_)
       obtain ⟨v11,hv11,h⟩:=zn h
       refine yx hn 1 ?_
       refine ys 0 ⟨lb hv11⟩ ?_
       refine yw [10] 1 ?_
       refine ye [0,1,2,7,8,9,10] ?_
       exact bF _ (zi h).symm rfl
      ·have h:=aG hb181 h
       refine bx (aE (aE (bu ?_)))
       refine aC [0,1,2,3,4,5] (by kernel_rfl) (es':=[(_,_),(_,_),(_,_),(_,_),(_,_),(_,_)]) rfl ?_
       exact hl176 _ (ho178 _ (zi h).symm).symm
   ·have h:=aG hb146 h
    refine bx (aE (aE (bu ?_)))
    refine aC [3] (by kernel_rfl) (es':=[(_,_)]) rfl ?_
    exact hl137 _ (ho139 _ (zi h).symm).symm
  ·intro u143 h hl144 hr145
   refine au h (fun hg3_4 h => ?_) (fun hg3_4 h => ?_)
   ·refine yx hn 5 ?_
    refine yd hg3_4 3 ?_
    refine ye [0,1,2,7,8,20] ?_
    exact hl144 _ (zi h).symm
   ·refine yx hn 5 ?_
    refine yd hg3_4 3 ?_
    refine ye [0,1,2,7,8,20] ?_
    exact hl144 _ (zi h).symm
theorem dn (a:aj) (b:aj) (r:Bool) (h:Sh.eB a b=some r):co Tryz.prog 45 [.agg [.v (.bool a.Le),.v (.string a.Lc),.v (.string a.KZ)],.agg [.v (.bool b.Le),.v (.string b.Lc),.v (.string b.KZ)]] (.v (.bool r)):=by
 unfold Sh.eB at h
 refine yO 24 func45 fun g0 hn hio => ?_
 refine bi hn 3 [2,3] ?_
 refine ag ?_
 refine aP h (fun (s2:Bool)=>[(4,vb s2)]) ?_ ?_
 ·rintro s2 h
  refine ai (aD ?_)
  obtain rfl:=zi h
  exact aF hio rfl (.tmp _ _ .nil) rfl rfl
 ·intro u3 h hl4 hr5
  obtain ⟨v1,hv1,h⟩:=zn h
  refine au h (fun hg1_5 h => ?_) (fun hg1_5 h => ?_)
  ·refine au h (fun hg1_12 h => ?_) (fun hg1_12 h => ?_)
   ·refine yx hn 4 ?_
    refine yS (vb (a.Le==b.Le)) 1 ⟨qm _ _ _ _ underlying4 rfl rfl⟩ ?_
    refine yd hg1_5 7 ?_
    refine yd hg1_12 7 ?_
    refine ye [4] ?_
    exact hl4 _ (zi h).symm
   ·refine yx hn 4 ?_
    refine yS (vb (a.Le==b.Le)) 1 ⟨qm _ _ _ _ underlying4 rfl rfl⟩ ?_
    refine yd hg1_5 7 ?_
    refine yd hg1_12 7 ?_
    refine ye [4] ?_
    exact hl4 _ (zi h).symm
  ·refine yx hn 4 ?_
   refine yS (vb (a.Le==b.Le)) 1 ⟨qm _ _ _ _ underlying4 rfl rfl⟩ ?_
   refine yd hg1_5 14 ?_
   refine ye [4] ?_
   exact hl4 _ (zi h).symm
theorem eG (a:(List aj)) (b:(List aj)) (r:Bool) (h:Sh.fC a b=some r):co Tryz.prog 46 [.fl .shr 3 (flatten (map aj.enc a)),.fl .shr 3 (flatten (map aj.enc b))] (.v (.bool r)):=by
 unfold Sh.fC at h
 refine yO 27 func46 fun g0 hn hio => ?_
 refine bi hn 1 [0,1] ?_
 refine ag ?_
 refine bi hn 5 [0,1,10] ?_
 refine aA _ rfl (fun hb1 => ?_) (fun hb1 => ?_)
 ·have h:=aH hb1 h
  refine bi hn 1 [4] ?_
  refine aD (am ?_)
  obtain rfl:=zi h
  exact aF hio rfl (.tmp _ _ .nil) rfl rfl
 ·have h:=aG hb1 h
  refine aB ?_
  refine ai (ag ?_)
  refine bi hn 1 [0,1,5] ?_
  refine bj h (fun (s13:Int)=>[(0,.fl .shr 3 (flatten (map aj.enc a))),(1,.fl .shr 3 (flatten (map aj.enc b))),(5,vi s13)]) (fun (():Unit)=>[]) ?_ ?_
  ·rintro ⟨⟩ h
   refine ai ?_
   refine bi hn 1 [4] ?_
   refine aD ?_
   obtain rfl:=zi h
   exact aF hio rfl (.tmp _ _ .nil) rfl rfl
  ·rintro u16 hl17 hr18 s13 rr21 h ho19
   refine ag ?_
   refine bi hn 4 [0,1,5,14] ?_
   refine aA _ rfl (fun hb22 => ?_) (fun hb22 => ?_)
   ·have h:=aH hb22 h
    refine aB ?_
    refine ai (ag ?_)
    refine aS (ag ?_)
    obtain ⟨v3,hv3,h⟩:=zn h
    obtain ⟨v4,hv4,h⟩:=zn h
    obtain ⟨v5,hv5,h⟩:=zn h
    obtain ⟨v6,hv6,h⟩:=zn h
    obtain ⟨v7,hv7,h⟩:=zn h
    refine wb [[0],[5]] ?_
    refine wN [17,18] ?_
    refine wo [] ⟨lj hv3⟩ ?_
    refine wN [19,17] ?_
    refine wS (.agg [vb v4.Le,vs v4.Lc,vs v4.KZ]) [[1],[5]] ⟨gU _ _ _ _ _ _ _ underlying43 rfl iJ rfl rfl (jE aj.len hv4) rfl (by decide)⟩ ?_
    refine wN [21,22] ?_
    refine wo [] ⟨lj hv5⟩ ?_
    refine wN [23,21] ?_
    refine wS (.agg [vb v6.Le,vs v6.Lc,vs v6.KZ]) [] ⟨gU _ _ _ _ _ _ _ underlying43 rfl iJ rfl rfl (jE aj.len hv6) rfl (by decide)⟩ ?_
    refine wN [20,24] ?_
    refine wo [[25]] ⟨lk call45 (dn _ _ _ hv7)⟩ ?_
    refine rz hn [0,1,5,26] ?_
    refine aA _ rfl (fun hb23 => ?_) (fun hb23 => ?_)
    ·have h:=aH hb23 h
     refine bi hn 1 [4] ?_
     refine aD (aY (am (am (aY (am ?_)))))
     have h:=hr18 _ (ho19 _ (zi h).symm).symm
     obtain rfl:=zi h
     exact aF hio rfl (.tmp _ _ .nil) rfl rfl
    ·have h:=aG hb23 h
     refine aB (bA (ai ?_))
     obtain ⟨v9,hv9,h⟩:=zn h
     refine yx hn 1 ?_
     refine ys 0 ⟨lb hv9⟩ ?_
     refine yw [5] 1 ?_
     refine ye [0,1,5] ?_
     exact bF _ (zi h).symm rfl
   ·have h:=aG hb22 h
    refine bx (aE (aE (bu ?_)))
    refine aC [] (by kernel_rfl) (es':=[]) rfl ?_
    exact hl17 _ (ho19 _ (zi h).symm).symm
theorem kv (a:ae) (b:ae) (r:Bool) (h:Sh.ez a b=some r):co Tryz.prog 23 [.agg [.v (.bool a.La.Le),.v (.string a.La.Lc),.v (.string a.La.KZ),.fl .shr 3 (flatten (map aj.enc a.To)),.fl .shr 1 (map (int .u8) a.KY),.v (.bool a.Lh),.v (.string a.Lb),.v (.int .i64 a.At)],.agg [.v (.bool b.La.Le),.v (.string b.La.Lc),.v (.string b.La.KZ),.fl .shr 3 (flatten (map aj.enc b.To)),.fl .shr 1 (map (int .u8) b.KY),.v (.bool b.Lh),.v (.string b.Lb),.v (.int .i64 b.At)]] (.v (.bool r)):=by
 unfold Sh.ez at h
 refine yO 45 func23 fun g0 hn hio => ?_
 refine bi hn 3 [2,3] ?_
 refine ag ?_
 refine aP h (fun (s5:Bool)=>[(4,vb s5)]) ?_ ?_
 ·rintro s5 h
  refine ai (aD ?_)
  obtain rfl:=zi h
  exact aF hio rfl (.tmp _ _ .nil) rfl rfl
 ·intro u6 h hl7 hr8
  obtain ⟨v1,hv1,h⟩:=zn h
  refine au h (fun hg1_5 h => ?_) (fun hg1_5 h => ?_)
  ·obtain ⟨v2,hv2,h⟩:=zn h
   refine au h (fun hg1_12 h => ?_) (fun hg1_12 h => ?_)
   ·obtain ⟨v3,hv3,h⟩:=zn h
    refine au h (fun hg1_19 h => ?_) (fun hg1_19 h => ?_)
    ·obtain ⟨v4,hv4,h⟩:=zn h
     refine au h (fun hg1_26 h => ?_) (fun hg1_26 h => ?_)
     ·refine au h (fun hg1_33 h => ?_) (fun hg1_33 h => ?_)
      ·refine yx hn 4 ?_
       refine ys 1 ⟨lk call45 (dn _ _ _ hv1)⟩ ?_
       refine yd hg1_5 4 ?_
       refine ys 2 ⟨lk call46 (eG _ _ _ hv2)⟩ ?_
       refine yd hg1_12 4 ?_
       refine ys 2 ⟨lk call21 (bH _ _ _ hv3)⟩ ?_
       refine yd hg1_19 4 ?_
       refine yS (vb (a.Lh==b.Lh)) 2 ⟨qm _ _ _ _ underlying4 rfl rfl⟩ ?_
       refine yd hg1_26 7 ?_
       refine yd hg1_33 7 ?_
       refine ye [4] ?_
       exact hl7 _ (zi h).symm
      ·refine yx hn 4 ?_
       refine ys 1 ⟨lk call45 (dn _ _ _ hv1)⟩ ?_
       refine yd hg1_5 4 ?_
       refine ys 2 ⟨lk call46 (eG _ _ _ hv2)⟩ ?_
       refine yd hg1_12 4 ?_
       refine ys 2 ⟨lk call21 (bH _ _ _ hv3)⟩ ?_
       refine yd hg1_19 4 ?_
       refine yS (vb (a.Lh==b.Lh)) 2 ⟨qm _ _ _ _ underlying4 rfl rfl⟩ ?_
       refine yd hg1_26 7 ?_
       refine yd hg1_33 7 ?_
       refine ye [4] ?_
       exact hl7 _ (zi h).symm
     ·refine yx hn 4 ?_
      refine ys 1 ⟨lk call45 (dn _ _ _ hv1)⟩ ?_
      refine yd hg1_5 4 ?_
      refine ys 2 ⟨lk call46 (eG _ _ _ hv2)⟩ ?_
      refine yd hg1_12 4 ?_
      refine ys 2 ⟨lk call21 (bH _ _ _ hv3)⟩ ?_
      refine yd hg1_19 4 ?_
      refine yS (vb (a.Lh==b.Lh)) 2 ⟨qm _ _ _ _ underlying4 rfl rfl⟩ ?_
      refine yd hg1_26 14 ?_
      refine ye [4] ?_
      exact hl7 _ (zi h).symm
    ·refine yx hn 4 ?_
     refine ys 1 ⟨lk call45 (dn _ _ _ hv1)⟩ ?_
     refine yd hg1_5 4 ?_
     refine ys 2 ⟨lk call46 (eG _ _ _ hv2)⟩ ?_
     refine yd hg1_12 4 ?_
     refine ys 2 ⟨lk call21 (bH _ _ _ hv3)⟩ ?_
     refine yd hg1_19 21 ?_
     refine ye [4] ?_
     exact hl7 _ (zi h).symm
   ·refine yx hn 4 ?_
    refine ys 1 ⟨lk call45 (dn _ _ _ hv1)⟩ ?_
    refine yd hg1_5 4 ?_
    refine ys 2 ⟨lk call46 (eG _ _ _ hv2)⟩ ?_
    refine yd hg1_12 28 ?_
    refine ye [4] ?_
    exact hl7 _ (zi h).symm
  ·refine yx hn 4 ?_
   refine ys 1 ⟨lk call45 (dn _ _ _ hv1)⟩ ?_
   refine yd hg1_5 35 ?_
   refine ye [4] ?_
   exact hl7 _ (zi h).symm
theorem bN (a:az) (b:az) (r:Bool) (h:Sh.bU a b=some r):co Tryz.prog 22 [.agg [.v (.int .i64 a.Lg),.v (.int .i64 a.Lf),.fr .shr true 8 (flatten (map ae.ienc a.Ld))],.agg [.v (.int .i64 b.Lg),.v (.int .i64 b.Lf),.fr .shr true 8 (flatten (map ae.ienc b.Ld))]] (.v (.bool r)):=by
 unfold Sh.bU at h
 refine yO 46 func22 fun g0 hn hio => ?_
 refine bi hn 3 [2,3] ?_
 refine ag (ag ?_)
 refine aP h (fun (s1:Bool)=>[(2,.box 24 [vi a.Lg,vi a.Lf,.fr .shr true 8 (flatten (map ae.ienc a.Ld))]),(3,.box 24 [vi b.Lg,vi b.Lf,.fr .shr true 8 (flatten (map ae.ienc b.Ld))]),(26,vb s1)]) ?_ ?_
 ·rintro s1 h
  refine ai ?_
  refine aA _ rfl (fun hb5 => ?_) (fun hb5 => ?_)
  ·have h:=aH hb5 h
   refine bi hn 1 [4] ?_
   refine aD (am ?_)
   obtain rfl:=zi h
   exact aF hio rfl (.tmp _ _ .nil) rfl rfl
  ·have h:=aG hb5 h
   refine aB ?_
   refine ai (ag ?_)
   refine bi hn 1 [2,3,5] ?_
   refine bj h (fun (s17:Int)=>[(2,.box 24 [vi a.Lg,vi a.Lf,.fr .shr true 8 (flatten (map ae.ienc a.Ld))]),(3,.box 24 [vi b.Lg,vi b.Lf,.fr .shr true 8 (flatten (map ae.ienc b.Ld))]),(5,vi s17)]) (fun (():Unit)=>[]) ?_ ?_
   ·rintro ⟨⟩ h
    refine ai ?_
    refine bi hn 1 [4] ?_
    refine aD ?_
    obtain rfl:=zi h
    exact aF hio rfl (.tmp _ _ .nil) rfl rfl
   ·rintro u20 hl21 hr22 s17 rr25 h ho23
    refine ag ?_
    refine bi hn 5 [2,3,5,31] ?_
    refine aA _ rfl (fun hb26 => ?_) (fun hb26 => ?_)
    ·have h:=aH hb26 h
     refine aB ?_
     refine ai (ag ?_)
     refine aS (ag ?_)
     obtain ⟨v7,hv7,h⟩:=zn h
     obtain ⟨v8,hv8,h⟩:=zn h
     obtain ⟨v9,hv9,h⟩:=zn h
     obtain ⟨v10,hv10,h⟩:=zn h
     obtain ⟨v11,hv11,h⟩:=zn h
     refine wb [[2],[34,2],[5]] ?_
     refine wN [35,36] ?_
     refine wo [] ⟨lI hv7⟩ ?_
     refine wN [37,35] ?_
     refine wS (.agg (ae.c v8 [])) [[3],[39,3],[5]] ⟨eg _ _ _ _ _ _ _ _ underlying46 rfl eD rfl rfl (fc ae.ilen hv8) (.cons (.v _) (.cons (.v _) (.cons (.v _) (.cons (.fl _ _ rfl) (.cons (.fl _ _ rfl) (.cons (.v _) (.cons (.v _) (.cons (.v _) (.nil))))))))) rfl (by decide)⟩ ?_
     refine wN [40,41] ?_
     refine wo [] ⟨lI hv9⟩ ?_
     refine wN [42,40] ?_
     refine wS (.agg (ae.c v10 [])) [] ⟨eg _ _ _ _ _ _ _ _ underlying46 rfl eD rfl rfl (fc ae.ilen hv10) (.cons (.v _) (.cons (.v _) (.cons (.v _) (.cons (.fl _ _ rfl) (.cons (.fl _ _ rfl) (.cons (.v _) (.cons (.v _) (.cons (.v _) (.nil))))))))) rfl (by decide)⟩ ?_
     refine wN [38,43] ?_
     refine wo [[44]] ⟨lk call23 (kv _ _ _ hv11)⟩ ?_
     refine rz hn [2,3,5,45] ?_
     refine aA _ rfl (fun hb27 => ?_) (fun hb27 => ?_)
     ·have h:=aH hb27 h
      refine bi hn 1 [4] ?_
      refine aD (aY (am (am (aY (am ?_)))))
      have h:=hr22 _ (ho23 _ (zi h).symm).symm
      obtain rfl:=zi h
      exact aF hio rfl (.tmp _ _ .nil) rfl rfl
     ·have h:=aG hb27 h
      refine aB (bA (ai ?_))
      obtain ⟨v13,hv13,h⟩:=zn h
      refine yx hn 1 ?_
      refine ys 0 ⟨lb hv13⟩ ?_
      refine yw [5] 1 ?_
      refine ye [2,3,5] ?_
      exact bF _ (zi h).symm rfl
    ·have h:=aG hb26 h
     refine bx (aE (aE (bu ?_)))
     refine aC [] (by kernel_rfl) (es':=[]) rfl ?_
     exact hl21 _ (ho23 _ (zi h).symm).symm
 ·intro u2 h hl3 hr4
  refine au h (fun hg1_5 h => ?_) (fun hg1_5 h => ?_)
  ·refine yx hn 6 ?_
   refine yd hg1_5 15 ?_
   refine ye [2,3,26] ?_
   exact hl3 _ (zi h).symm
  ·refine au h (fun hg1_12 h => ?_) (fun hg1_12 h => ?_)
   ·refine yx hn 6 ?_
    refine yd hg1_5 7 ?_
    refine yd hg1_12 8 ?_
    refine ye [2,3,26] ?_
    exact hl3 _ (zi h).symm
   ·refine yx hn 6 ?_
    refine yd hg1_5 7 ?_
    refine yd hg1_12 8 ?_
    refine ye [2,3,26] ?_
    exact hl3 _ (zi h).symm
theorem lZ (b:(List Int)) (r:Unit) (h:Sh.eW b=some r):Gp Tryz.prog 24 [.mkr 5 (map (int .u8) b)] (.tup []):=by
 unfold Sh.eW at h
 refine yE 17 func24 fun g0 hn hio => ?_
 refine bi hn 1 [0,2] ?_
 refine bj h (fun ((s11,s12):(List Int)×Int)=>[(0,.mkr 5 (map (int .u8) s11)),(2,vi s12)]) (fun (():Unit)=>[]) ?_ ?_
 ·rintro ⟨⟩ h
  obtain rfl:=zi h
  exact DK hio rfl .nil rfl rfl
 ·rintro u14 hl15 hr16 ⟨s11,s12⟩ rr19 h ho17
  refine ag ?_
  refine gv hn 2 ?_
  refine yS (vi (s11.length:Int)) 1 ⟨qo _ _ _ underlying25 rfl (List.length_map _)⟩ ?_
  refine bK [0,2,6] ?_
  refine aA _ rfl (fun hb20 => ?_) (fun hb20 => ?_)
  ·have h:=aH hb20 h
   refine aB ?_
   refine ai (ag ?_)
   refine aS ?_
   obtain ⟨v2,hv2,h⟩:=zn h
   obtain ⟨v3,hv3,h⟩:=zn h
   obtain ⟨v4,hv4,h⟩:=zn h
   obtain ⟨v5,hv5,h⟩:=zn h
   obtain ⟨v6,hv6,h⟩:=zn h
   refine yx hn 4 ?_
   refine yS (.eref (.slot 0) (v2 * 1)) 0 ⟨vX _ _ _ _ _ _ _ underlying25 nV rfl rfl rfl (eE hv2).1 (Cp (eE hv2).2) rfl⟩ ?_
   refine yS (.v (.int .u8 v3)) 0 ⟨xM _ _ _ _ _ _ underlying5 rfl rfl rfl (yD hv3)⟩ ?_
   refine ys 0 ⟨lb hv4⟩ ?_
   refine yS (.eref (.slot 0) (v5 * 1)) 0 ⟨vX _ _ _ _ _ _ _ underlying25 nV rfl rfl rfl (eE hv5).1 (Cp (eE hv5).2) rfl⟩ ?_
   refine yk [0] [16,15] ?_
   refine yt (0,.mkr 5 (map (int .u8) v6)) 0 ⟨vU _ _ _ _ _ _ _ nV rfl rfl rfl (If (eE hv5).2) (Gt (f:=int .u8) (Option.some.inj hv6))⟩ ?_
   refine ye [0,2] ?_
   refine bA (ai ?_)
   obtain ⟨v7,hv7,h⟩:=zn h
   refine yx hn 1 ?_
   refine ys 0 ⟨lb hv7⟩ ?_
   refine yw [2] 1 ?_
   refine ye [0,2] ?_
   exact bF _ (zi h).symm rfl
  ·have h:=aG hb20 h
   refine bx (aE (aE (bu ?_)))
   refine aC [] (by kernel_rfl) (es':=[]) rfl ?_
   exact hl15 _ (ho17 _ (zi h).symm).symm
end Go.Proofs.YtglabbpbianmnaaGreatDoor
