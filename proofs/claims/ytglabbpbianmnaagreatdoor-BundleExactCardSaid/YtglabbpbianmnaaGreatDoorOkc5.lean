import Derived.Test.YtglabbpbianmnaaGreatDoorOkc4
set_option linter.unusedVariables false
set_option linter.unusedSimpArgs false
set_option maxHeartbeats 1000000
namespace Go.Proofs.YtglabbpbianmnaaGreatDoor
open Go.Abs Go.Abs.Sh Tryz
open List (map flatten)
open Value (int)
theorem lR (mx:Int) (s:(List Int)) (sep:(List Int)) (r:((List Int)×(List Int)×Bool)) (h:Sh.eH s sep=some r):kF Tryz.prog (GL mx) 34 [.fl .ro 1 (map (int .u8) s),.fl .ro 1 (map (int .u8) sep)] (.tup [.fl .ro 1 (map (int .u8) r.1),.fl .ro 1 (map (int .u8) r.2.1),.v (.bool r.2.2)]):=by
 unfold Sh.eH at h
 refine yG 23 func34 fun g0 hn hio => ?_
 refine bi hn 3 [0,1,23] ?_
 refine ag (ag ?_)
 obtain ⟨v1,hv1,h⟩:=zn h
 refine yx hn 2 ?_
 refine ys 1 ⟨lg call56 (mw _ _ _ _ hv1) 23⟩ ?_
 refine bK [0,1,23,7] ?_
 refine bi hn 2 [0,1,23,7,12] ?_
 refine aA _ rfl (fun hb6 => ?_) (fun hb6 => ?_)
 ·have h:=aH hb6 h
  refine ag ?_
  obtain ⟨v3,hv3,h⟩:=zn h
  obtain ⟨v4,hv4,h⟩:=zn h
  obtain ⟨v5,hv5,h⟩:=zn h
  refine wb [[0],[7]] ?_
  refine wN [13,14] ?_
  refine wS (.fl .ro 1 (map (int .u8) v3)) [[0],[7],[1],[18]] ⟨ik _ _ _ 0 v1 _ underlying25 nV rfl rfl rfl ⟨_,rfl⟩ hv3⟩ ?_
  refine wN [17,19] ?_
  refine wo [] ⟨lb hv4⟩ ?_
  refine wN [16,20] ?_
  refine wS (.fl .ro 1 (map (int .u8) v5)) [[15],[21],[]] ⟨ik _ _ _ v4 (s.length:Int) _ underlying25 nV rfl rfl ⟨_,rfl⟩ rfl hv5⟩ ?_
  refine rz hn [23,4,5,6] ?_
  refine aD ?_
  refine aC [1,2,3] (by kernel_rfl) (es':=[(_,_),(_,_),(_,_)]) rfl ?_
  refine am ?_
  obtain rfl:=zi h
  exact aF hio rfl (.tmp _ _ (.tmp _ _ (.tmp _ _ .nil))) rfl rfl
 ·have h:=aG hb6 h
  refine aB (ai ?_)
  refine bi hn 4 [23,4,5,6] ?_
  refine aD ?_
  refine aC [1,2,3] (by kernel_rfl) (es':=[(_,_),(_,_),(_,_)]) rfl ?_
  refine dl (fs:=[(4,.fl .ro 1 (map (int .u8) s)),(5,.fl (.own 5) 1 (map (int .u8) [])),(6,vb false)]) (.same _ (.sub _ (cg 5 1) rfl (.same _ .nil))) ?_
  refine kP 1 hio (es':=[(4,.fl .ro 1 (map (int .u8) s)),(5,.fl .ro 1 (map (int .u8) [])),(6,.v (.bool false))]) rfl ?_
  obtain rfl:=zi h
  exact aF hio rfl (.tmp _ _ (.tmp _ _ (.tmp _ _ .nil))) rfl rfl
theorem iL (mx:Int) (c:(List Int)) (word:Li) (r:(aj×(List Int)×Bool)) (h:Sh.bY c word=some r):kF Tryz.prog (GL mx) 79 [.fl .ro 1 (map (int .u8) c),.v (.string word)] (.tup [.agg [.v (.bool r.1.Le),.v (.string r.1.Lc),.v (.string r.1.KZ)],.fl .ro 1 (map (int .u8) r.2.1),.v (.bool r.2.2)]):=by
 unfold Sh.bY at h
 refine yG 43 func79 fun g0 hn hio => ?_
 refine gv hn 0 ?_
 refine yS (.box 43 [vb false,vs z0,vs z0]) 2 ⟨oA (bz _ _ jr)⟩ ?_
 refine bK [0,1,43,4] ?_
 refine ag ?_
 obtain ⟨v1,hv1,h⟩:=zn h
 refine yx hn 1 ?_
 refine yS (.fl (.own 5) 1 (map (int .u8) [13,10])) 0 ⟨ce _ _ 1 (.int .u8 0) (map (int .u8) [13,10]) [(0,.int .u8 13),(1,.int .u8 10)] underlying25 nV tq (fun _ V w o a hv hes=>by simp only [List.map_toArray,List.map_cons,List.map_nil]; try rfl) (fy (by simp [Instr.fill,Value.cells]; rfl) (by simp [List.range,List.range.loop] <;> rfl)) (by simp [Value.oneCell']) rfl (by decide) (by decide) (by decide)⟩ ?_
 refine yk [14] [] ?_
 refine yt (15,.fl .ro 1 (map (int .u8) [13,10])) 0 ⟨gB _ _ _ underlying25 underlying5 (by intro h; cases h)⟩ ?_
 refine yS (.tup [.fl .ro 1 (map (int .u8) v1.1),.fl .ro 1 (map (int .u8) v1.2.1),vb v1.2.2]) 0 ⟨ib _ _ 43 34 _ _ rfl call34 rfl rfl (fun _ h=>h) (lR mx c [13,10] _ hv1) rfl rfl⟩ ?_
 refine ym 6 ?_
 refine bK [1,43,4,7,5,8] ?_
 refine ag ?_
 obtain ⟨v2,hv2,h⟩:=zn h
 obtain ⟨v3,hv3,h⟩:=zn h
 refine yx hn 1 ?_
 refine ys 1 ⟨lS hv2⟩ ?_
 refine ys 0 ⟨lk call101 (jD _ _ _ hv3)⟩ ?_
 refine ym 4 ?_
 refine bK [43,4,5,8,9,10] ?_
 refine ag (ag ?_)
 refine aP h (fun (s10:Bool)=>[(43,.glob (GL mx)),(4,.box 43 [vb false,vs z0,vs z0]),(5,.fl .ro 1 (map (int .u8) v1.2.1)),(9,vs v3.1),(32,vb s10)]) ?_ ?_
 ·rintro s10 h
  refine ai ?_
  refine aA _ rfl (fun hb14 => ?_) (fun hb14 => ?_)
  ·have h:=aH hb14 h
   refine gv hn 0 ?_
   refine yS (.agg [vb false,vs z0,vs z0]) 0 ⟨bT _ _ _ _ [1,1,1] _ _ underlying43 jr (qW _ underlying43) kR.nil rfl rfl rfl⟩ ?_
   refine yk [33,4] [] ?_
   refine yt (4,.box 43 [vb false,vs z0,vs z0]) 0 ⟨bO _ _ _ 33 4 3 iJ rfl rfl rfl rfl rfl (.eq _ (.eq _ (.eq _ (.nil _)))) rfl⟩ ?_
   refine yw [5] 2 ?_
   refine bK [43,4,5,6] ?_
   refine aD ?_
   refine aC [1,2,3] (by kernel_rfl) (es':=[(_,_),(_,_),(_,_)]) rfl ?_
   refine dl (fs:=[(4,.box 43 [vb false,vs z0,vs z0]),(5,.fl (.own 5) 1 (map (int .u8) [])),(6,vb false)]) (.same _ (.sub _ (cg 5 1) rfl (.same _ .nil))) ?_
   refine kP 1 hio (es':=[(4,.box 43 [.v (.bool false),.v (.string (⟨#[]⟩:Li)),.v (.string (⟨#[]⟩:Li))]),(5,.fl .ro 1 (map (int .u8) [])),(6,.v (.bool false))]) rfl ?_
   refine am ?_
   obtain rfl:=zi h
   exact aF hio rfl (.cellA _ _ _ _ underlying43 rfl iJ (.tmp _ _ (.tmp _ _ .nil))) rfl rfl
  ·have h:=aG hb14 h
   refine aB ?_
   refine ai (ag ?_)
   obtain ⟨v9,hv9,h⟩:=zn h
   refine yx hn 1 ?_
   refine ys 0 ⟨lg call102 (sZ _ _ _ hv9) 43⟩ ?_
   refine ym 0 ?_
   refine yS (.agg [vb v9.1.Le,vs v9.1.Lc,vs v9.1.KZ]) 3 ⟨eM _ _ _ _ _ _ rfl rfl (zl rfl) rfl rfl⟩ ?_
   refine bK [43,4,5,11] ?_
   refine gv hn 4 ?_
   refine yk [39,4] [] ?_
   refine yt (4,.box 43 [vb v9.1.Le,vs v9.1.Lc,vs v9.1.KZ]) 0 ⟨bO _ _ _ 39 4 3 iJ rfl rfl rfl rfl rfl (.eq _ (.eq _ (.eq _ (.nil _)))) rfl⟩ ?_
   refine yw [5] 2 ?_
   refine bK [43,4,5,6] ?_
   refine aD ?_
   refine aC [1,2,3] (by kernel_rfl) (es':=[(_,_),(_,_),(_,_)]) rfl ?_
   obtain rfl:=zi h
   exact aF hio rfl (.cellA _ _ _ _ underlying43 rfl iJ (.tmp _ _ (.tmp _ _ .nil))) rfl rfl
 ·intro u11 h hl12 hr13
  refine au h (fun hg3_2 h => ?_) (fun hg3_2 h => ?_)
  ·refine yx hn 3 ?_
   refine yd hg3_2 3 ?_
   refine ye [43,4,5,9,32] ?_
   exact hl12 _ (zi h).symm
  ·refine yx hn 3 ?_
   refine yd hg3_2 3 ?_
   refine ye [43,4,5,9,32] ?_
   exact hl12 _ (zi h).symm
theorem mh (s:(List Int)) (prefix_:(List Int)) (r:((List Int)×Bool)) (h:Sh.dm s prefix_=some r):co Tryz.prog 80 [.fl .ro 1 (map (int .u8) s),.fl .ro 1 (map (int .u8) prefix_)] (.tup [.fl .ro 1 (map (int .u8) r.1),.v (.bool r.2)]):=by
 unfold Sh.dm at h
 refine yO 15 func80 fun g0 hn hio => ?_
 refine bi hn 2 [0,1] ?_
 refine ag (ag ?_)
 obtain ⟨v1,hv1,h⟩:=zn h
 refine yx hn 2 ?_
 refine ys 1 ⟨lk call70 (gZ _ _ _ hv1)⟩ ?_
 refine bK [0,1,9] ?_
 refine aA _ rfl (fun hb4 => ?_) (fun hb4 => ?_)
 ·have h:=aH hb4 h
  refine bi hn 3 [4,5] ?_
  refine aD (am ?_)
  obtain rfl:=zi h
  exact aF hio rfl (.tmp _ _ (.tmp _ _ .nil)) rfl rfl
 ·have h:=aG hb4 h
  refine aB ?_
  refine ai (ag ?_)
  obtain ⟨v3,hv3,h⟩:=zn h
  refine yx hn 3 ?_
  refine yS (.fl .ro 1 (map (int .u8) v3)) 2 ⟨ik _ _ _ (prefix_.length:Int) (s.length:Int) _ underlying25 nV rfl rfl ⟨_,rfl⟩ rfl hv3⟩ ?_
  refine bK [4,5] ?_
  refine aD ?_
  obtain rfl:=zi h
  exact aF hio rfl (.tmp _ _ (.tmp _ _ .nil)) rfl rfl
theorem lO (mx:Int) (c:(List Int)) (r:(ae×(List Int)×Bool)) (h:Sh.cf c=some r):kF Tryz.prog (GL mx) 59 [.fl .ro 1 (map (int .u8) c)] (.tup [.agg [.v (.bool r.1.La.Le),.v (.string r.1.La.Lc),.v (.string r.1.La.KZ),.fl .ro 3 (flatten (map aj.enc r.1.To)),.fl .ro 1 (map (int .u8) r.1.KY),.v (.bool r.1.Lh),.v (.string r.1.Lb),.v (.int .i64 r.1.At)],.fl .ro 1 (map (int .u8) r.2.1),.v (.bool r.2.2)]):=by
 unfold Sh.cf at h
 refine yG 65 func59 fun g0 hn hio => ?_
 refine gv hn 0 ?_
 refine yS (.box 46 [vb false,vs z0,vs z0,vz,vz,vb false,vs z0,vi 0]) 2 ⟨oA (bz _ _ kh)⟩ ?_
 refine bK [0,65,2] ?_
 refine ag ?_
 obtain ⟨v1,hv1,h⟩:=zn h
 refine yx hn 1 ?_
 refine yS (.tup [.agg [vb v1.1.Le,vs v1.1.Lc,vs v1.1.KZ],.fl .ro 1 (map (int .u8) v1.2.1),vb v1.2.2]) 0 ⟨ib _ _ 65 79 _ _ rfl call79 rfl rfl (fun _ h=>h) (iL mx c (⟨#[77,65,73,76,32,70,82,79,77,58]⟩:Li) _ hv1) rfl rfl⟩ ?_
 refine ym 0 ?_
 refine yS (.agg [vb v1.1.Le,vs v1.1.Lc,vs v1.1.KZ]) 4 ⟨eM _ _ _ _ _ _ rfl rfl (zl rfl) rfl rfl⟩ ?_
 refine yw [0] 2 ?_
 refine bK [65,2,0,4] ?_
 refine ag ?_
 refine bi hn 2 [65,2,0,19] ?_
 refine aA _ rfl (fun hb30 => ?_) (fun hb30 => ?_)
 ·have h:=aH hb30 h
  refine gv hn 0 ?_
  refine yS (.agg [vb false,vs z0,vs z0,vz,vz,vb false,vs z0,vi 0]) 3 ⟨bT _ _ _ _ [3,1,1,1,1,1] _ _ underlying46 kh (Cl _ underlying46) kR.nil rfl rfl rfl⟩ ?_
  refine bK [65,2,3,4] ?_
  refine aD ?_
  refine aC [1,2,3] (by kernel_rfl) (es':=[(_,_),(_,_),(_,_)]) rfl ?_
  refine dl (fs:=[(2,.box 46 [vb false,vs z0,vs z0,.fl (.own 43) 3 (flatten (map aj.enc [])),.fl (.own 5) 1 (map (int .u8) []),vb false,vs z0,vi 0]),(3,.fl (.own 5) 1 (map (int .u8) [])),(4,vb false)]) (.box _ _ (ay (aM _) (ay (aM _) (ay (aM _) (ay (cg 43 3) (ay (cg 5 1) (ay (aM _) (ay (aM _) (ay (aM _) (cu))))))))) rfl (.sub _ (cg 5 1) rfl (.same _ .nil))) ?_
  refine kP 0 hio (es':=[(2,.box 46 [.v (.bool false),.v (.string (⟨#[]⟩:Li)),.v (.string (⟨#[]⟩:Li)),.fl .ro 3 (flatten (map aj.enc [])),.fl .ro 1 (map (int .u8) []),.v (.bool false),.v (.string (⟨#[]⟩:Li)),.v (.int .i64 0)]),(3,.fl (.own 5) 1 (map (int .u8) [])),(4,.v (.bool false))]) rfl ?_
  refine kP 1 hio (es':=[(2,.box 46 [.v (.bool false),.v (.string (⟨#[]⟩:Li)),.v (.string (⟨#[]⟩:Li)),.fl .ro 3 (flatten (map aj.enc [])),.fl .ro 1 (map (int .u8) []),.v (.bool false),.v (.string (⟨#[]⟩:Li)),.v (.int .i64 0)]),(3,.fl .ro 1 (map (int .u8) [])),(4,.v (.bool false))]) rfl ?_
  refine am ?_
  obtain rfl:=zi h
  exact aF hio rfl (.cellA _ _ _ _ underlying46 rfl eD (.tmp _ _ (.tmp _ _ .nil))) rfl rfl
 ·have h:=aG hb30 h
  refine aB ?_
  refine ai (ag ?_)
  refine jY [0,1,2] (by kernel_rfl) (es':=[(_,_),(_,_),(_,_)]) rfl ?_
  refine gV (fs:=[(65,.glob (GL mx)),(2,.box 46 [vb v1.1.Le,vs v1.1.Lc,vs v1.1.KZ,.fl (.own 43) 3 (flatten (map aj.enc [])),vz,vb false,vs z0,vi 0]),(0,.fl .ro 1 (map (int .u8) v1.2.1))]) (.same _ (.box _ _ (ay (aM _) (ay (aM _) (ay (aM _) (ay (cg 43 3) (ay (aM _) (ay (aM _) (ay (aM _) (ay (aM _) (cu))))))))) rfl (.same _ .nil))) ?_
  refine bj h (fun ((s37,s38):(List aj)×(List Int))=>[(65,.glob (GL mx)),(2,.box 46 [vb v1.1.Le,vs v1.1.Lc,vs v1.1.KZ,.fl (.own 43) 3 (flatten (map aj.enc s37)),vz,vb false,vs z0,vi 0]),(0,.fl .ro 1 (map (int .u8) s38))]) (fun ((s41,s42):(List aj)×(List Int))=>[(65,.glob (GL mx)),(2,.box 46 [vb v1.1.Le,vs v1.1.Lc,vs v1.1.KZ,.fl (.own 43) 3 (flatten (map aj.enc s41)),vz,vb false,vs z0,vi 0]),(0,.fl .ro 1 (map (int .u8) s42))]) ?_ ?_
  ·rintro ⟨s41,s42⟩ h
   refine ai (ag ?_)
   obtain ⟨v25,hv25,h⟩:=zn h
   refine yx hn 1 ?_
   refine yS (.fl (.own 5) 1 (map (int .u8) [68,65,84,65,13,10])) 0 ⟨ce _ _ 1 (.int .u8 0) (map (int .u8) [68,65,84,65,13,10]) [(0,.int .u8 68),(1,.int .u8 65),(2,.int .u8 84),(3,.int .u8 65),(4,.int .u8 13),(5,.int .u8 10)] underlying25 nV tq (fun _ V w o a hv hes=>by simp only [List.map_toArray,List.map_cons,List.map_nil]; try rfl) (fy (by simp [Instr.fill,Value.cells]; rfl) (by simp [List.range,List.range.loop] <;> rfl)) (by simp [Value.oneCell']) rfl (by decide) (by decide) (by decide)⟩ ?_
   refine yk [42] [] ?_
   refine yt (43,.fl .ro 1 (map (int .u8) [68,65,84,65,13,10])) 0 ⟨gB _ _ _ underlying25 underlying5 (by intro h; cases h)⟩ ?_
   refine ys 0 ⟨lr call80 (mh _ _ _ hv25)⟩ ?_
   refine ym 2 ?_
   refine yw [0] 2 ?_
   refine bK [65,2,0,4] ?_
   refine ag ?_
   refine bi hn 2 [65,2,0,48] ?_
   refine aA _ rfl (fun hb51 => ?_) (fun hb51 => ?_)
   ·have h:=aH hb51 h
    refine gv hn 0 ?_
    refine yS (.agg [vb false,vs z0,vs z0,vz,vz,vb false,vs z0,vi 0]) 3 ⟨bT _ _ _ _ [3,1,1,1,1,1] _ _ underlying46 kh (Cl _ underlying46) kR.nil rfl rfl rfl⟩ ?_
    refine bK [65,2,3,4] ?_
    refine aD ?_
    refine aC [1,2,3] (by kernel_rfl) (es':=[(_,_),(_,_),(_,_)]) rfl ?_
    refine dl (fs:=[(2,.box 46 [vb false,vs z0,vs z0,.fl (.own 43) 3 (flatten (map aj.enc [])),.fl (.own 5) 1 (map (int .u8) []),vb false,vs z0,vi 0]),(3,.fl (.own 5) 1 (map (int .u8) [])),(4,vb false)]) (.box _ _ (ay (aM _) (ay (aM _) (ay (aM _) (ay (cg 43 3) (ay (cg 5 1) (ay (aM _) (ay (aM _) (ay (aM _) (cu))))))))) rfl (.sub _ (cg 5 1) rfl (.same _ .nil))) ?_
    refine kP 0 hio (es':=[(2,.box 46 [.v (.bool false),.v (.string (⟨#[]⟩:Li)),.v (.string (⟨#[]⟩:Li)),.fl .ro 3 (flatten (map aj.enc [])),.fl .ro 1 (map (int .u8) []),.v (.bool false),.v (.string (⟨#[]⟩:Li)),.v (.int .i64 0)]),(3,.fl (.own 5) 1 (map (int .u8) [])),(4,.v (.bool false))]) rfl ?_
    refine kP 1 hio (es':=[(2,.box 46 [.v (.bool false),.v (.string (⟨#[]⟩:Li)),.v (.string (⟨#[]⟩:Li)),.fl .ro 3 (flatten (map aj.enc [])),.fl .ro 1 (map (int .u8) []),.v (.bool false),.v (.string (⟨#[]⟩:Li)),.v (.int .i64 0)]),(3,.fl .ro 1 (map (int .u8) [])),(4,.v (.bool false))]) rfl ?_
    refine am ?_
    obtain rfl:=zi h
    exact aF hio rfl (.cellA _ _ _ _ underlying46 rfl eD (.tmp _ _ (.tmp _ _ .nil))) rfl rfl
   ·have h:=aG hb51 h
    refine aB ?_
    refine ai (ag ?_)
    obtain ⟨v27,hv27,h⟩:=zn h
    refine yx hn 1 ?_
    refine ys 0 ⟨lg call81 (sW _ _ _ hv27) 65⟩ ?_
    refine ym 0 ?_
    refine yV 2 ?_
    refine ya 2 ?_
    refine bK [65,2,0,8,9,10] ?_
    refine ag ?_
    refine bi hn 2 [65,2,0,8,9,57] ?_
    refine aA _ rfl (fun hb52 => ?_) (fun hb52 => ?_)
    ·have h:=aH hb52 h
     refine gv hn 0 ?_
     refine yS (.agg [vb false,vs z0,vs z0,vz,vz,vb false,vs z0,vi 0]) 3 ⟨bT _ _ _ _ [3,1,1,1,1,1] _ _ underlying46 kh (Cl _ underlying46) kR.nil rfl rfl rfl⟩ ?_
     refine bK [65,2,3,4] ?_
     refine aD ?_
     refine aC [1,2,3] (by kernel_rfl) (es':=[(_,_),(_,_),(_,_)]) rfl ?_
     refine dl (fs:=[(2,.box 46 [vb false,vs z0,vs z0,.fl (.own 43) 3 (flatten (map aj.enc [])),.fl (.own 5) 1 (map (int .u8) []),vb false,vs z0,vi 0]),(3,.fl (.own 5) 1 (map (int .u8) [])),(4,vb false)]) (.box _ _ (ay (aM _) (ay (aM _) (ay (aM _) (ay (cg 43 3) (ay (cg 5 1) (ay (aM _) (ay (aM _) (ay (aM _) (cu))))))))) rfl (.sub _ (cg 5 1) rfl (.same _ .nil))) ?_
     refine kP 0 hio (es':=[(2,.box 46 [.v (.bool false),.v (.string (⟨#[]⟩:Li)),.v (.string (⟨#[]⟩:Li)),.fl .ro 3 (flatten (map aj.enc [])),.fl .ro 1 (map (int .u8) []),.v (.bool false),.v (.string (⟨#[]⟩:Li)),.v (.int .i64 0)]),(3,.fl (.own 5) 1 (map (int .u8) [])),(4,.v (.bool false))]) rfl ?_
     refine kP 1 hio (es':=[(2,.box 46 [.v (.bool false),.v (.string (⟨#[]⟩:Li)),.v (.string (⟨#[]⟩:Li)),.fl .ro 3 (flatten (map aj.enc [])),.fl .ro 1 (map (int .u8) []),.v (.bool false),.v (.string (⟨#[]⟩:Li)),.v (.int .i64 0)]),(3,.fl .ro 1 (map (int .u8) [])),(4,.v (.bool false))]) rfl ?_
     refine am ?_
     obtain rfl:=zi h
     exact aF hio rfl (.cellA _ _ _ _ underlying46 rfl eD (.tmp _ _ (.tmp _ _ .nil))) rfl rfl
    ·have h:=aG hb52 h
     refine aB (ai ?_)
     refine gv hn 0 ?_
     refine ym 1 ?_
     refine yk [59,2] [60] ?_
     refine yt (2,.box 46 [vb v1.1.Le,vs v1.1.Lc,vs v1.1.KZ,.fl (.own 43) 3 (flatten (map aj.enc s41)),.fl (.own 5) 1 (map (int .u8) v27.1),vb false,vs z0,vi 0]) 0 ⟨aU _ _ _ _ _ _ _ _ qP rfl rfl rfl (zl rfl) rfl rfl⟩ ?_
     refine bK [65,2,0,9] ?_
     refine ag ?_
     obtain ⟨v29,hv29,h⟩:=zn h
     refine wb [[2],[0],[9]] ?_
     refine wN [62,63] ?_
     refine wS (.fl .ro 1 (map (int .u8) v29)) [] ⟨ik _ _ _ v27.2.1 (v25.1.length:Int) _ underlying25 nV rfl rfl ⟨_,rfl⟩ rfl hv29⟩ ?_
     refine wK [61,2] [] ?_
     refine wt [(2,.box 46 [vb v1.1.Le,vs v1.1.Lc,vs v1.1.KZ,.fl (.own 43) 3 (flatten (map aj.enc s41)),.fl (.own 5) 1 (map (int .u8) v27.1),vb false,vs z0,vi 0])] [[64],[]] ⟨bO _ _ _ 61 2 8 eD rfl rfl rfl rfl rfl (.eq _ (.eq _ (.eq _ (.same _ (.same _ (.eq _ (.eq _ (.eq _ (.nil _))))))))) rfl⟩ ?_
     refine rz hn [65,2,3,4] ?_
     refine aD ?_
     refine aC [1,2,3] (by kernel_rfl) (es':=[(_,_),(_,_),(_,_)]) rfl ?_
     refine kP 0 hio (es':=[(2,.box 46 [.v (.bool v1.1.Le),.v (.string v1.1.Lc),.v (.string v1.1.KZ),.fl .ro 3 (flatten (map aj.enc s41)),.fl .ro 1 (map (int .u8) v27.1),.v (.bool false),.v (.string (⟨#[]⟩:Li)),.v (.int .i64 0)]),(3,.fl .ro 1 (map (int .u8) v29)),(4,.v (.bool true))]) rfl ?_
     obtain rfl:=zi h
     exact aF hio rfl (.cellA _ _ _ _ underlying46 rfl eD (.tmp _ _ (.tmp _ _ .nil))) rfl rfl
  ·rintro u43 hl44 hr45 ⟨s37,s38⟩ rr48 h ho46
   refine ag ?_
   refine bi hn 4 [65,2,0,24] ?_
   refine aA _ rfl (fun hb49 => ?_) (fun hb49 => ?_)
   ·have h:=aH hb49 h
    refine aB (ai (aS (ag ?_)))
    obtain ⟨v4,hv4,h⟩:=zn h
    refine yx hn 1 ?_
    refine yS (.tup [.agg [vb v4.1.Le,vs v4.1.Lc,vs v4.1.KZ],.fl .ro 1 (map (int .u8) v4.2.1),vb v4.2.2]) 0 ⟨ib _ _ 65 79 _ _ rfl call79 rfl rfl (fun _ h=>h) (iL mx s38 (⟨#[82,67,80,84,32,84,79,58]⟩:Li) _ hv4) rfl rfl⟩ ?_
    refine ym 0 ?_
    refine yS (.agg [vb v4.1.Le,vs v4.1.Lc,vs v4.1.KZ]) 2 ⟨eM _ _ _ _ _ _ rfl rfl (zl rfl) rfl rfl⟩ ?_
    refine yS (.box 43 [vb false,vs z0,vs z0]) 3 ⟨oA (bz _ _ jr)⟩ ?_
    refine bK [65,2,0,5,6,7] ?_
    refine ag ?_
    refine bi hn 2 [65,2,0,5,6,32] ?_
    refine aA _ rfl (fun hb50 => ?_) (fun hb50 => ?_)
    ·have h:=aH hb50 h
     refine bx (aE ?_)
     refine lA (by decide) ?_
     refine aE (bu ?_)
     refine aC [0,1,2] (by kernel_rfl) (es':=[(_,_),(_,_),(_,_)]) rfl ?_
     exact hl44 _ (ho46 _ (zi h).symm).symm
    ·have h:=aG hb50 h
     refine aB ?_
     refine ai (ag ?_)
     obtain ⟨v6,hv6,h⟩:=zn h
     refine yx hn 3 ?_
     refine yS (.fl (.own 43) 3 (flatten (map aj.enc [v4.1]))) 0 ⟨ce _ _ 3 (.agg #[.bool false,.string ByteArray.empty,.string ByteArray.empty]) (flatten (map aj.enc [v4.1])) [(0,.agg #[.bool v4.1.Le,.string v4.1.Lc,.string v4.1.KZ])] underlying44 iJ jr (fun _ V w o a hv hes=>by have e0:=Bu (ys:=[.bool v4.1.Le,.string v4.1.Lc,.string v4.1.KZ]) hv hes (x := .tmp 35) rfl; simp only [List.map_toArray,List.map_cons,List.map_nil,e0]; try rfl) (fy (by simp [Instr.fill,Value.cells]; rfl) (by simp [List.range,List.range.loop,aj.enc] <;> rfl)) (by simp [Value.oneCell',aj.enc]) rfl (by decide) (by decide) (by decide)⟩ ?_
     refine yk [2] [34,36] ?_
     refine qk (2,.box 46 [vb v1.1.Le,vs v1.1.Lc,vs v1.1.KZ,.any,vz,vb false,vs z0,vi 0]) (37,.fl (.own 43) 3 (flatten (map aj.enc v6))) 1 ⟨jt _ _ _ _ _ _ Gs rfl rfl (zl rfl) rfl (ky aj.len _) (ky aj.len _) hv6 (vJ (jh hv6)) (Nat.ne_of_beq_eq_false rfl) rfl rfl⟩ ?_
     refine yw [34] 0 ?_
     refine yk [37,2] [38] ?_
     refine yt (2,.box 46 [vb v1.1.Le,vs v1.1.Lc,vs v1.1.KZ,.fl (.own 43) 3 (flatten (map aj.enc v6)),vz,vb false,vs z0,vi 0]) 0 ⟨aU _ _ _ _ _ _ _ _ Gx rfl rfl rfl (zl rfl) rfl rfl⟩ ?_
     refine bK [65,2,6] ?_
     refine yy hn 2 [65,2,0] ?_
     refine bA ?_
     exact bF _ (zi h).symm rfl
   ·have h:=aG hb49 h
    refine bx (aE (aE (bu ?_)))
    refine aC [0,1,2] (by kernel_rfl) (es':=[(_,_),(_,_),(_,_)]) rfl ?_
    exact hl44 _ (ho46 _ (zi h).symm).symm
theorem kZ (mx:Int) (c:(List Int)) (r:(List ae)) (h:Sh.cm c=some r):kF Tryz.prog (GL mx) 36 [.fl .ro 1 (map (int .u8) c)] (.fr (.own 46) false 8 (flatten (map ae.ienc r))):=by
 unfold Sh.cm at h
 refine yG 24 func36 fun g0 hn hio => ?_
 refine bi hn 1 [0,24] ?_
 refine bi hn 1 [0,24,3] ?_
 refine ag ?_
 refine gV (fs:=[(0,.fl .ro 1 (map (int .u8) c)),(24,.glob (GL mx)),(3,.fr (.own 46) false 8 (flatten (map ae.ienc [])))]) (.same _ (.same _ (.sub _ (dA 46 false 8) rfl .nil))) ?_
 refine bj h (fun ((s9,s10):(List Int)×(List ae))=>[(0,.fl .ro 1 (map (int .u8) s9)),(24,.glob (GL mx)),(3,.fr (.own 46) false 8 (flatten (map ae.ienc s10)))]) (fun (s13:(List ae))=>[(24,.glob (GL mx)),(3,.fr (.own 46) false 8 (flatten (map ae.ienc s13)))]) ?_ ?_
 ·rintro s13 h
  refine ai ?_
  refine gv hn 0 ?_
  refine ym 0 ?_
  refine ya 0 ?_
  refine bK [24,2] ?_
  refine aD ?_
  refine aC [1] (by kernel_rfl) (es':=[(_,_)]) rfl ?_
  obtain rfl:=zi h
  exact aF hio rfl (.tmp _ _ .nil) rfl rfl
 ·rintro u14 hl15 hr16 ⟨s9,s10⟩ rr19 h ho17
  refine ag ?_
  refine bi hn 3 [0,24,3,9] ?_
  refine aA _ rfl (fun hb20 => ?_) (fun hb20 => ?_)
  ·have h:=aH hb20 h
   refine aB (ai (aS (ag ?_)))
   obtain ⟨v2,hv2,h⟩:=zn h
   refine yx hn 1 ?_
   refine yS (.tup [.agg [vb v2.1.La.Le,vs v2.1.La.Lc,vs v2.1.La.KZ,.fl .ro 3 (flatten (map aj.enc v2.1.To)),.fl .ro 1 (map (int .u8) v2.1.KY),vb v2.1.Lh,vs v2.1.Lb,vi v2.1.At],.fl .ro 1 (map (int .u8) v2.2.1),vb v2.2.2]) 0 ⟨ib _ _ 24 59 _ _ rfl call59 rfl rfl (fun _ h=>h) (lO mx s9 _ hv2) rfl rfl⟩ ?_
   refine ym 0 ?_
   refine yS (.agg [vb v2.1.La.Le,vs v2.1.La.Lc,vs v2.1.La.KZ,.fl .ro 3 (flatten (map aj.enc v2.1.To)),.fl .ro 1 (map (int .u8) v2.1.KY),vb v2.1.Lh,vs v2.1.Lb,vi v2.1.At]) 2 ⟨eM _ _ _ _ _ _ rfl rfl (zl rfl) rfl rfl⟩ ?_
   refine yS (.box 46 [vb false,vs z0,vs z0,vz,vz,vb false,vs z0,vi 0]) 3 ⟨oA (bz _ _ kh)⟩ ?_
   refine bK [24,3,4,5,6] ?_
   refine ag ?_
   refine bi hn 2 [24,3,4,5,17] ?_
   refine aA _ rfl (fun hb21 => ?_) (fun hb21 => ?_)
   ·have h:=aH hb21 h
    refine bx (aE ?_)
    refine lA (by decide) ?_
    refine aE (bu ?_)
    refine aC [0,1] (by kernel_rfl) (es':=[(_,_),(_,_)]) rfl ?_
    exact hl15 _ (ho17 _ (zi h).symm).symm
   ·have h:=aG hb21 h
    refine aB ?_
    refine ai (ag ?_)
    obtain ⟨v4,hv4,h⟩:=zn h
    refine yx hn 0 ?_
    refine ym 1 ?_
    refine yS (.fr (.own 46) false 8 (flatten (map ae.ienc [(ae.mk (aj.mk v2.1.La.Le v2.1.La.Lc v2.1.La.KZ) v2.1.To v2.1.KY v2.1.Lh v2.1.Lb v2.1.At)]))) 0 ⟨pH _ _ _ 8 (.agg #[.bool false,.string ByteArray.empty,.string ByteArray.empty,.slice none 0 0,.slice none 0 0,.bool false,.string ByteArray.empty,.int .i64 0]) false _ _ underlying22 eD kh rfl rfl (.cons (.v _) (.cons (.v _) (.cons (.v _) (.cons (.ro _ _ rfl) (.cons (.ro _ _ rfl) (.cons (.v _) (.cons (.v _) (.cons (.v _) (.nil))))))))) rfl (by decide) (by decide)⟩ ?_
    refine yk [18] [20] ?_
    refine qk (18,.any) (21,.fr (.own 46) false 8 (flatten (map ae.ienc v4))) 0 ⟨qe _ _ _ _ _ Cf rfl rfl (eo ae.ilen _) (eo ae.ilen _) hv4 (lC (jh hv4)) (by decide) (by decide)⟩ ?_
    refine ya 0 ?_
    refine bK [24,5,3] ?_
    refine yy hn 2 [24,3,0] ?_
    refine bA ?_
    refine aC [2,0,1] (by kernel_rfl) (es':=[(_,_),(_,_),(_,_)]) rfl ?_
    exact bF _ (zi h).symm rfl
  ·have h:=aG hb20 h
   refine bx (aE (aE (bu ?_)))
   refine aC [1,2] (by kernel_rfl) (es':=[(_,_),(_,_)]) rfl ?_
   exact hl15 _ (ho17 _ (zi h).symm).symm
theorem kI (mx:Int) (t:(List Int)) (r:(az×Int)) (h:Sh.bR t=some r):kF Tryz.prog (GL mx) 15 [.fl .ro 1 (map (int .u8) t)] (.tup [.agg [.v (.int .i64 r.1.Lg),.v (.int .i64 r.1.Lf),.fr (.own 46) false 8 (flatten (map ae.ienc r.1.Ld))],.v (.int .i64 r.2)]):=by
 unfold Sh.bR at h
 refine yG 68 func15 fun g0 hn hio => ?_
 refine gv hn 0 ?_
 refine yS (.box 24 [vi 0,vi 0,vz]) 1 ⟨oA (bz _ _ jH)⟩ ?_
 refine bK [0,68,2] ?_
 refine ag ?_
 obtain ⟨v1,hv1,h⟩:=zn h
 refine yx hn 1 ?_
 refine yS (.fl (.own 5) 1 (map (int .u8) [13,10])) 0 ⟨ce _ _ 1 (.int .u8 0) (map (int .u8) [13,10]) [(0,.int .u8 13),(1,.int .u8 10)] underlying25 nV tq (fun _ V w o a hv hes=>by simp only [List.map_toArray,List.map_cons,List.map_nil]; try rfl) (fy (by simp [Instr.fill,Value.cells]; rfl) (by simp [List.range,List.range.loop] <;> rfl)) (by simp [Value.oneCell']) rfl (by decide) (by decide) (by decide)⟩ ?_
 refine yk [14] [] ?_
 refine yt (15,.fl .ro 1 (map (int .u8) [13,10])) 0 ⟨gB _ _ _ underlying25 underlying5 (by intro h; cases h)⟩ ?_
 refine yS (.tup [.fl .ro 1 (map (int .u8) v1.1),.fl .ro 1 (map (int .u8) v1.2.1),vb v1.2.2]) 0 ⟨ib _ _ 68 34 _ _ rfl call34 rfl rfl (fun _ h=>h) (lR mx t [13,10] _ hv1) rfl rfl⟩ ?_
 refine ym 6 ?_
 refine bK [0,68,2,4,5,6] ?_
 refine ag ?_
 obtain ⟨v2,hv2,h⟩:=zn h
 obtain ⟨v3,hv3,h⟩:=zn h
 refine yx hn 1 ?_
 refine ys 0 ⟨lS hv2⟩ ?_
 refine ys 0 ⟨lk call35 (lV _ _ hv3)⟩ ?_
 refine ym 0 ?_
 refine yS (.agg [vi v3.1.origin,vi v3.1.number,vi v3.1.size,vi v3.1.sum]) 1 ⟨eM _ _ _ _ _ _ rfl rfl (zl rfl) rfl rfl⟩ ?_
 refine yS (.box 66 [vi 0,vi 0,vi 0,vi 0]) 2 ⟨oA (bz _ _ zU)⟩ ?_
 refine bK [0,68,2,5,6,7,8] ?_
 refine ag (ag ?_)
 refine aP h (fun (s4:Bool)=>[(0,.fl .ro 1 (map (int .u8) t)),(68,.glob (GL mx)),(2,.box 24 [vi 0,vi 0,vz]),(5,.fl .ro 1 (map (int .u8) v1.2.1)),(7,.box 66 [vi v3.1.origin,vi v3.1.number,vi v3.1.size,vi v3.1.sum]),(38,vb s4)]) ?_ ?_
 ·rintro s4 h
  refine ai ?_
  refine aA _ rfl (fun hb8 => ?_) (fun hb8 => ?_)
  ·have h:=aH hb8 h
   refine gv hn 0 ?_
   refine yS (.agg [vi 0,vi 0,vz]) 0 ⟨bT _ _ _ _ [1,1,1] _ _ underlying24 jH (oJ _ underlying24) kR.nil rfl rfl rfl⟩ ?_
   refine yk [39,2] [] ?_
   refine yt (2,.box 24 [vi 0,vi 0,vz]) 1 ⟨bO _ _ _ 39 2 3 ec rfl rfl rfl rfl rfl (.eq _ (.eq _ (.eq _ (.nil _)))) rfl⟩ ?_
   refine bK [68,2,3] ?_
   refine aD ?_
   refine aC [1,2] (by kernel_rfl) (es':=[(_,_),(_,_)]) rfl ?_
   refine dl (fs:=[(2,.box 24 [vi 0,vi 0,.fr (.own 46) false 8 (flatten (map ae.ienc []))]),(3,vi 5)]) (.box _ _ (ay (aM _) (ay (aM _) (ay (dA 46 false 8) (cu)))) rfl (.same _ .nil)) ?_
   refine am ?_
   obtain rfl:=zi h
   exact aF hio rfl (.cellA _ _ _ _ underlying24 rfl ec (.tmp _ _ .nil)) rfl rfl
  ·have h:=aG hb8 h
   refine aB ?_
   refine ai (ag ?_)
   refine ag ?_
   obtain ⟨v9,hv9,h⟩:=zn h
   refine wb [[5]] ?_
   refine wN [40] ?_
   refine wo [[7],[42,7],[41,43]] ⟨lk call31 (pz _ _ hv9)⟩ ?_
   refine rz hn [0,68,2,5,7,44] ?_
   refine aA _ rfl (fun hb10 => ?_) (fun hb10 => ?_)
   ·have h:=aH hb10 h
    refine gv hn 0 ?_
    refine yS (.agg [vi 0,vi 0,vz]) 0 ⟨bT _ _ _ _ [1,1,1] _ _ underlying24 jH (oJ _ underlying24) kR.nil rfl rfl rfl⟩ ?_
    refine yk [45,2] [] ?_
    refine yt (2,.box 24 [vi 0,vi 0,vz]) 1 ⟨bO _ _ _ 45 2 3 ec rfl rfl rfl rfl rfl (.eq _ (.eq _ (.eq _ (.nil _)))) rfl⟩ ?_
    refine bK [68,2,3] ?_
    refine aD ?_
    refine aC [1,2] (by kernel_rfl) (es':=[(_,_),(_,_)]) rfl ?_
    refine dl (fs:=[(2,.box 24 [vi 0,vi 0,.fr (.own 46) false 8 (flatten (map ae.ienc []))]),(3,vi 6)]) (.box _ _ (ay (aM _) (ay (aM _) (ay (dA 46 false 8) (cu)))) rfl (.same _ .nil)) ?_
    refine am ?_
    obtain rfl:=zi h
    exact aF hio rfl (.cellA _ _ _ _ underlying24 rfl ec (.tmp _ _ .nil)) rfl rfl
   ·have h:=aG hb10 h
    refine aB ?_
    refine ai (ag ?_)
    obtain ⟨v11,hv11,h⟩:=zn h
    refine wb [[7],[46,7],[7],[48,7],[5]] ?_
    refine wN [50,68] ?_
    refine wS (.fr (.own 46) false 8 (flatten (map ae.ienc v11))) [] ⟨ib _ _ 68 36 _ _ rfl call36 rfl rfl (fun _ h=>h) (kZ mx v1.2.1 _ hv11) rfl rfl⟩ ?_
    refine wK [51] [47,49] ?_
    refine wt [(52,.agg [vi v3.1.origin,vi v3.1.number,.fr (.own 46) false 8 (flatten (map ae.ienc v11))])] [] ⟨bT _ _ _ _ [1,1,1] _ _ underlying24 jH (oJ _ underlying24) (.copy _ (.copy _ (.take _ _ kR.nil))) rfl rfl rfl⟩ ?_
    refine wN [] ?_
    refine wS (.box 24 [vi 0,vi 0,vz]) [] ⟨oA (bz _ _ jH)⟩ ?_
    refine wK [52,9] [] ?_
    refine wt [(9,.box 24 [vi v3.1.origin,vi v3.1.number,.fr (.own 46) false 8 (flatten (map ae.ienc v11))])] [] ⟨aU _ _ _ _ _ _ _ _ ec rfl rfl rfl (zl rfl) rfl rfl⟩ ?_
    refine rz hn [0,68,2,9] ?_
    refine ag ?_
    obtain ⟨v12,hv12,h⟩:=zn h
    refine yx hn 1 ?_
    refine ys 0 ⟨lg call13 (gP _ _ _ hv12) 68⟩ ?_
    refine ym 0 ?_
    refine yV 1 ?_
    refine ya 1 ?_
    refine bK [0,68,2,9,10,11] ?_
    refine ag (ag ?_)
    refine aP h (fun (s14:Bool)=>[(68,.glob (GL mx)),(2,.box 24 [vi 0,vi 0,vz]),(9,.box 24 [vi v3.1.origin,vi v3.1.number,.fr (.own 46) false 8 (flatten (map ae.ienc v11))]),(65,vb s14)]) ?_ ?_
    ·rintro s14 h
     refine ai ?_
     refine aA _ rfl (fun hb18 => ?_) (fun hb18 => ?_)
     ·have h:=aH hb18 h
      refine gv hn 0 ?_
      refine yS (.agg [vi 0,vi 0,vz]) 0 ⟨bT _ _ _ _ [1,1,1] _ _ underlying24 jH (oJ _ underlying24) kR.nil rfl rfl rfl⟩ ?_
      refine yk [66,2] [] ?_
      refine yt (2,.box 24 [vi 0,vi 0,vz]) 1 ⟨bO _ _ _ 66 2 3 ec rfl rfl rfl rfl rfl (.eq _ (.eq _ (.eq _ (.nil _)))) rfl⟩ ?_
      refine bK [68,2,3] ?_
      refine aD ?_
      refine aC [1,2] (by kernel_rfl) (es':=[(_,_),(_,_)]) rfl ?_
      refine dl (fs:=[(2,.box 24 [vi 0,vi 0,.fr (.own 46) false 8 (flatten (map ae.ienc []))]),(3,vi 5)]) (.box _ _ (ay (aM _) (ay (aM _) (ay (dA 46 false 8) (cu)))) rfl (.same _ .nil)) ?_
      refine am ?_
      obtain rfl:=zi h
      exact aF hio rfl (.cellA _ _ _ _ underlying24 rfl ec (.tmp _ _ .nil)) rfl rfl
     ·have h:=aG hb18 h
      refine aB (ai ?_)
      refine gv hn 0 ?_
      refine yk [9] [] ?_
      refine yt (67,.agg [vi v3.1.origin,vi v3.1.number,.fr (.own 46) false 8 (flatten (map ae.ienc v11))]) 0 ⟨aW _ _ _ _ underlying24 rfl ec rfl rfl⟩ ?_
      refine yk [67,2] [] ?_
      refine yt (2,.box 24 [vi v3.1.origin,vi v3.1.number,.fr (.own 46) false 8 (flatten (map ae.ienc v11))]) 1 ⟨aU _ _ _ _ _ _ _ _ ec rfl rfl rfl (zl rfl) rfl rfl⟩ ?_
      refine bK [68,2,3] ?_
      refine aD ?_
      refine aC [1,2] (by kernel_rfl) (es':=[(_,_),(_,_)]) rfl ?_
      obtain rfl:=zi h
      exact aF hio rfl (.cellA _ _ _ _ underlying24 rfl ec (.tmp _ _ .nil)) rfl rfl
    ·intro u15 h hl16 hr17
     refine au h (fun hg9_2 h => ?_) (fun hg9_2 h => ?_)
     ·refine yx hn 3 ?_
      refine yd hg9_2 5 ?_
      refine ye [68,2,9,65] ?_
      exact hl16 _ (zi h).symm
     ·obtain ⟨v13,hv13,h⟩:=zn h
      refine yx hn 3 ?_
      refine yd hg9_2 0 ?_
      refine ym 1 ?_
      refine ys 2 ⟨lk call37 (mj _ _ _ hv13)⟩ ?_
      refine ye [68,2,9,65] ?_
      exact hl16 _ (zi h).symm
 ·intro u5 h hl6 hr7
  refine au h (fun hg3_2 h => ?_) (fun hg3_2 h => ?_)
  ·refine yx hn 3 ?_
   refine yd hg3_2 10 ?_
   refine ye [0,68,2,5,7,38] ?_
   exact hl6 _ (zi h).symm
  ·refine au h (fun hg3_6 h => ?_) (fun hg3_6 h => ?_)
   ·refine yx hn 3 ?_
    refine yd hg3_2 4 ?_
    refine yd hg3_6 6 ?_
    refine ye [0,68,2,5,7,38] ?_
    exact hl6 _ (zi h).symm
   ·refine yx hn 3 ?_
    refine yd hg3_2 4 ?_
    refine yd hg3_6 6 ?_
    refine ye [0,68,2,5,7,38] ?_
    exact hl6 _ (zi h).symm
theorem gY (b:(List Int)) (at_:Int) (r:Int) (h:Sh.ck b at_=some r):co Tryz.prog 38 [.fl .shr 1 (map (int .u8) b),.v (.int .i64 at_)] (.v (.int .i64 r)):=by
 unfold Sh.ck at h
 refine yO 28 func38 fun g0 hn hio => ?_
 refine bi hn 1 [0,1] ?_
 refine ag ?_
 refine bi hn 2 [0,5] ?_
 refine bj h (fun (s21:Int)=>[(0,fb b),(5,vi s21)]) (fun (():Unit)=>[]) ?_ ?_
 ·rintro ⟨⟩ h
  refine ai ?_
  refine bi hn 1 [4] ?_
  refine aD ?_
  obtain rfl:=zi h
  exact aF hio rfl (.tmp _ _ .nil) rfl rfl
 ·rintro u28 hl29 hr30 s21 rr33 h ho31
  refine ag (ag ?_)
  obtain ⟨v1,hv1,h⟩:=zn h
  refine yx hn 1 ?_
  refine ys 3 ⟨lb hv1⟩ ?_
  refine bK [0,5,11] ?_
  refine aA _ rfl (fun hb34 => ?_) (fun hb34 => ?_)
  ·have h:=aH hb34 h
   refine aB ?_
   refine ai (ag ?_)
   refine aS (ag ?_)
   refine aP h (fun (s35:Bool)=>[(0,fb b),(5,vi s21),(26,vb s35)]) ?_ ?_
   ·rintro s35 h
    refine ai ?_
    refine aA _ rfl (fun hb39 => ?_) (fun hb39 => ?_)
    ·have h:=aH hb39 h
     refine bi hn 2 [4] ?_
     refine aD (aY (am (am (aY (am ?_)))))
     have h:=hr30 _ (ho31 _ (zi h).symm).symm
     obtain rfl:=zi h
     exact aF hio rfl (.tmp _ _ .nil) rfl rfl
    ·have h:=aG hb39 h
     refine aB (bA (ai ?_))
     obtain ⟨v13,hv13,h⟩:=zn h
     refine yx hn 1 ?_
     refine ys 0 ⟨lb hv13⟩ ?_
     refine yw [5] 1 ?_
     refine ye [0,5] ?_
     exact bF _ (zi h).symm rfl
   ·intro u36 h hl37 hr38
    obtain ⟨v3,hv3,h⟩:=zn h
    obtain ⟨v4,hv4,h⟩:=zn h
    refine au h (fun hg4_5 h => ?_) (fun hg4_5 h => ?_)
    ·obtain ⟨v5,hv5,h⟩:=zn h
     obtain ⟨v6,hv6,h⟩:=zn h
     obtain ⟨v7,hv7,h⟩:=zn h
     refine yx hn 2 ?_
     refine ys 0 ⟨li hv3⟩ ?_
     refine ys 2 ⟨ll hv4⟩ ?_
     refine yd hg4_5 2 ?_
     refine ys 0 ⟨lb hv5⟩ ?_
     refine ys 0 ⟨li hv6⟩ ?_
     refine ys 2 ⟨ll hv7⟩ ?_
     refine ye [0,5,26] ?_
     exact hl37 _ (zi h).symm
    ·refine yx hn 2 ?_
     refine ys 0 ⟨li hv3⟩ ?_
     refine ys 2 ⟨ll hv4⟩ ?_
     refine yd hg4_5 7 ?_
     refine ye [0,5,26] ?_
     exact hl37 _ (zi h).symm
  ·have h:=aG hb34 h
   refine bx (aE (aE (bu ?_)))
   refine aC [] (by kernel_rfl) (es':=[]) rfl ?_
   exact hl29 _ (ho31 _ (zi h).symm).symm
end Go.Proofs.YtglabbpbianmnaaGreatDoor
