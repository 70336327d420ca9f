import Derived.Test.YtjnnkhmhjcjhdaaGreatDoorOkc3
set_option linter.unusedVariables false
set_option linter.unusedSimpArgs false
set_option maxHeartbeats 1000000
namespace Go.Proofs.YtjnnkhmhjcjhdaaGreatDoor
open Go.Abs Go.Abs.Sh Tryz
open List (map flatten)
open Value (int)
theorem mV (s:JH) (c r:Int) (h:Sh.strings_IndexByte s c=some r):bQ Tryz.prog 224 [.v (.string s),.v (.int .u8 c)] (.v (.int .i64 r)):=ml Tryz.strings_IndexByte s c r h
theorem sZ (c:Int) (r:Bool) (h:Sh.mT c=some r):bQ Tryz.prog 223 [.v (.int .u8 c)] (.v (.bool r)):=by
 unfold Sh.mT at h
 refine yO 10 func223 fun g0 hn hio => ?_
 refine aL hn 1 [0] ?_
 refine ab ?_
 refine aC h (fun (s3:Bool)=>[(2,vb s3)]) ?_ ?_
 ·rintro s3 h
  refine ae (ao ?_)
  obtain rfl:=zi h
  exact ay hio rfl (.tmp _ _ .nil) rfl rfl
 ·intro u4 h hl5 hr6
  obtain ⟨v1,hv1,h⟩:=zn h
  refine am h (fun hg1_2 h => ?_) (fun hg1_2 h => ?_)
  ·refine yx hn 1 ?_
   refine ys 1 ⟨lk call83 (dW _ _ hv1)⟩ ?_
   refine yd hg1_2 5 ?_
   refine ye [2] ?_
   exact hl5 _ (zi h).symm
  ·obtain ⟨v2,hv2,h⟩:=zn h
   refine yx hn 1 ?_
   refine ys 1 ⟨lk call83 (dW _ _ hv1)⟩ ?_
   refine yd hg1_2 1 ?_
   refine ys 3 ⟨lk call224 (mV _ _ _ hv2)⟩ ?_
   refine ye [2] ?_
   exact hl5 _ (zi h).symm
theorem jL (s:JH) (r:Bool) (h:Sh.eG s=some r):bQ Tryz.prog 81 [.v (.string s),.v (.func (.func 223) #[] #[])] (.v (.bool r)):=by
 unfold Sh.eG at h
 refine yO 18 func81 fun g0 hn hio => ?_
 refine aL hn 1 [0,1] ?_
 refine ab ?_
 refine aL hn 3 [0,1,7,8] ?_
 refine aZ h (fun (s9:Int)=>[(0,vs s),(1,.v (.func (.func 223) #[] #[])),(7,vi (s.size:Int)),(8,vi s9)]) (fun (():Unit)=>[]) ?_ ?_
 ·rintro ⟨⟩ h
  refine ae ?_
  refine aL hn 1 [4] ?_
  refine ao ?_
  obtain rfl:=zi h
  exact ay hio rfl (.tmp _ _ .nil) rfl rfl
 ·rintro u12 hl13 hr14 s9 rr17 h ho15
  refine aL hn 1 [0,1,7,8,9] ?_
  refine ab ?_
  refine al _ rfl (fun hb18 => ?_) (fun hb18 => ?_)
  ·have h:=ar hb18 h
   refine au ?_
   refine ae (ab ?_)
   refine aJ ?_
   refine aL hn 2 [0,1,7,8,5] ?_
   refine ab ?_
   obtain ⟨v2,hv2,h⟩:=zn h
   obtain ⟨v3,hv3,h⟩:=zn h
   refine yx hn 3 ?_
   refine ys 0 ⟨lh hv2⟩ ?_
   refine ys 1 ⟨lk call223 (sZ _ _ hv3)⟩ ?_
   refine ba [0,1,7,8,16] ?_
   refine al _ rfl (fun hb19 => ?_) (fun hb19 => ?_)
   ·have h:=ar hb19 h
    refine aL hn 1 [4] ?_
    refine ao (aR (ai (ai (aR (ai ?_)))))
    have h:=hr14 _ (ho15 _ (zi h).symm).symm
    obtain rfl:=zi h
    exact ay hio rfl (.tmp _ _ .nil) rfl rfl
   ·have h:=aq hb19 h
    refine au (aP (ae ?_))
    obtain ⟨v5,hv5,h⟩:=zn h
    refine yx hn 0 ?_
    refine ys 0 ⟨lb hv5⟩ ?_
    refine yw [8] 1 ?_
    refine ye [0,1,7,8] ?_
    exact bn _ (zi h).symm rfl
  ·have h:=aq hb18 h
   refine bl (az (az (bm ?_)))
   refine ag [] (by kernel_rfl) (es':=[]) rfl ?_
   exact hl13 _ (ho15 _ (zi h).symm).symm
theorem vf (s:JH) (r:Bool) (h:Sh.qz s=some r):bQ Tryz.prog 213 [.v (.string s)] (.v (.bool r)):=by
 unfold Sh.qz at h
 refine yO 9 func213 fun g0 hn hio => ?_
 refine aL hn 1 [0] ?_
 refine ab ?_
 refine aC h (fun (s2:Bool)=>[(2,vb s2)]) ?_ ?_
 ·rintro s2 h
  refine ae (ao ?_)
  obtain rfl:=zi h
  exact ay hio rfl (.tmp _ _ .nil) rfl rfl
 ·intro u3 h hl4 hr5
  refine am h (fun hg1_2 h => ?_) (fun hg1_2 h => ?_)
  ·obtain ⟨v1,hv1,h⟩:=zn h
   refine yx hn 3 ?_
   refine yd hg1_2 1 ?_
   refine ys 2 ⟨lk call81 (jL _ _ hv1)⟩ ?_
   refine ye [2] ?_
   exact hl4 _ (zi h).symm
  ·refine yx hn 3 ?_
   refine yd hg1_2 4 ?_
   refine ye [2] ?_
   exact hl4 _ (zi h).symm
theorem jF (mx:Int×Nat×Value) (s:JH) (r:Bool) (h:Sh.eo s=some r):gW Tryz.prog (GL mx) 69 [.v (.string s),.v (.func (.func 213) #[] #[])] (.v (.bool r)):=by
 unfold Sh.eo at h
 refine yG 13 func69 fun g0 hn hio => ?_
 refine fu hn 1 ?_
 refine yS (.box 4 [vb false]) 0 ⟨oA (bj _ _ GW)⟩ ?_
 refine ba [0,13,3,4] ?_
 refine ab (ab ?_)
 obtain ⟨v1,hv1,h⟩:=zn h
 refine yx hn 1 ?_
 refine yk [] [6] ?_
 refine yt (7,.cloB 119 [.box 9 [vs v1.1],.box 9 [vs v1.2.1],.box 3 [vi v1.2.2]]) 0 ⟨gh _ _ 80 _ _ rfl call80 rfl rfl (fU s (⟨#[46]⟩:JH) _ hv1) rfl⟩ ?_
 refine ba [13,3,4,7] ?_
 refine aJ ?_
 refine iW [3,0,1,2] (by kernel_rfl) (es':=[(7,.cloB 119 [.box 9 [vs v1.1],.box 9 [vs v1.2.1],.box 3 [vi v1.2.2]]),(13,.glob (GL mx)),(3,.box 65 [.v (.func (.func 213) #[] #[])]),(4,.box 4 [vb false])]) rfl ?_
 refine gU h 119 7 8 14 _ [13,3,4] call119 (fun (():Unit)=>[(13,.glob (GL mx)),(3,.box 65 [.v (.func (.func 213) #[] #[])]),(4,.box 4 [.v (.bool false)])]) (fun (():Unit)=>[(13,.glob (GL mx)),(3,.box 65 [.v (.func (.func 213) #[] #[])]),(4,.box 4 [.v (.bool false)])]) (fun l J Y hY t t' h=>fa mx l J Y hY v1.1 v1.2.1 v1.2.2 t t' h) hn rfl (fun _=>rfl) (fun _=>rfl) (fun _=>rfl) rfl rfl (fun _=>⟨rfl,rfl⟩) rfl (gO 13 rfl) ?_ ?_ ?_
 ·rintro kk g0 hn hio x ⟨⟩ u h
  refine qI (es':=[(8,vs x),(13,.glob (GL mx)),(3,.box 65 [.v (.func (.func 213) #[] #[])]),(4,.box 4 [vb false]),(13,.v (kk.tm.getD 13 undef)),(3,.v (kk.tm.getD 3 undef)),(4,.v (kk.tm.getD 4 undef)),(14,.inv kk.ready)]) rfl ?_
  refine yy hn 1 [13,3,4,14,5,13,3,4] ?_
  refine ag [0,1,2,4,5,6,7,3] (by kernel_rfl) (es':=[(13,.glob (GL mx)),(3,.box 65 [.v (.func (.func 213) #[] #[])]),(4,.box 4 [vb false]),(5,vs x),(13,.v (kk.tm.getD 13 undef)),(3,.v (kk.tm.getD 3 undef)),(4,.v (kk.tm.getD 4 undef)),(14,.inv kk.ready)]) rfl ?_
  refine jo (es:=[(13,.glob (GL mx)),(3,.box 65 [.v (.func (.func 213) #[] #[])]),(4,.box 4 [vb false]),(5,vs x),(13,.v (kk.tm.getD 13 undef)),(3,.v (kk.tm.getD 3 undef)),(4,.v (kk.tm.getD 4 undef))]) 14 rfl ?_
  refine aJ (ab ?_)
  obtain ⟨v2,hv2,h⟩:=zn h
  refine yx hn 2 ?_
  refine ys 1 ⟨lk call213 (vf _ _ hv2)⟩ ?_
  refine ba [13,3,4,14,12,13,3,4] ?_
  refine al _ rfl (fun hb5 => ?_) (fun hb5 => ?_)
  ·have h:=ar hb5 h
   refine aL hn 1 [13,3,4,14,13,3,4] ?_
   refine ao (aR ?_)
   refine ag [0,1,2,4,5,6,3] (by kernel_rfl) (es':=[(_,_),(_,_),(_,_),(_,_),(_,_),(_,_),(_,_)]) rfl ?_
   obtain rfl:=zi h
   exact pG 14 [13,3,4] _ rfl rfl (by kernel_rfl)
  ·have h:=aq hb5 h
   refine au (aP ?_)
   refine ag [0,1,2,5,6,7,3] (by kernel_rfl) (es':=[(_,_),(_,_),(_,_),(_,_),(_,_),(_,_),(_,_)]) rfl ?_
   obtain rfl:=zi h
   exact jj 14 [13,3,4] _ rfl rfl (by kernel_rfl)
 ·rintro D ⟨⟩ h
  refine aP (ae ?_)
  refine aL hn 1 [13,4] ?_
  refine ao ?_
  refine ag [1] (by kernel_rfl) (es':=[(_,_)]) rfl ?_
  obtain rfl:=zi h
  exact ay hio rfl (.cell1 _ _ _ _ underlying4 rfl .nil) rfl rfl
 ·rintro D ⟨⟩ h
  refine ag [2] (by kernel_rfl) (es':=[(_,_)]) rfl ?_
  refine aR (ai ?_)
  obtain rfl:=zi h
  exact ay hio rfl (.cell1 _ _ _ _ underlying4 rfl .nil) rfl rfl
theorem nM (mx:Int×Nat×Value) (s:JH) (r:Bool) (h:Sh.oy s=some r):gW Tryz.prog (GL mx) 194 [.v (.string s)] (.v (.bool r)):=by
 unfold Sh.oy at h
 refine yG 10 func194 fun g0 hn hio => ?_
 refine aL hn 1 [0,10] ?_
 refine ab ?_
 refine aC h (fun (s2:Bool)=>[(10,.glob (GL mx)),(2,vb s2)]) ?_ ?_
 ·rintro s2 h
  refine ae (ao ?_)
  refine ag [1] (by kernel_rfl) (es':=[(_,_)]) rfl ?_
  obtain rfl:=zi h
  exact ay hio rfl (.tmp _ _ .nil) rfl rfl
 ·intro u3 h hl4 hr5
  refine am h (fun hg1_3 h => ?_) (fun hg1_3 h => ?_)
  ·obtain ⟨v1,hv1,h⟩:=zn h
   refine yx hn 4 ?_
   refine yd hg1_3 1 ?_
   refine ys 2 ⟨lg call69 (jF _ _ _ hv1) 10⟩ ?_
   refine ye [10,2] ?_
   exact hl4 _ (zi h).symm
  ·refine yx hn 4 ?_
   refine yd hg1_3 4 ?_
   refine ye [10,2] ?_
   exact hl4 _ (zi h).symm
theorem cH (mx:Int×Nat×Value) (p:ah) (r:Int) (h:Sh.gJ p=some r):gW Tryz.prog (GL mx) 162 [.agg [.v (.bool p.Ju),.v (.string p.Jq),.v (.string p.Jf)]] (.v (.int .i64 r)):=by
 unfold Sh.gJ at h
 refine yG 27 func162 fun g0 hn hio => ?_
 refine aL hn 2 [27,1] ?_
 refine fu hn 1 ?_
 refine yS (.agg [vb true,vs z0,vs z0]) 0 ⟨bI _ _ _ _ [1,1,1] _ _ underlying26 rF (BA _ underlying26) (.copy _ mn.nil) rfl rfl rfl⟩ ?_
 refine yS (vb ((p.Ju==true)&&((p.Jq.toList==z0.toList)&&((p.Jf.toList==z0.toList)&&true)))) 1 ⟨BY _ _ [.bool p.Ju,.string p.Jq,.string p.Jf] [.bool true,.string z0,.string z0] (((p.Ju==true)&&((p.Jq.toList==z0.toList)&&((p.Jf.toList==z0.toList)&&true)))) _ false (by kernel_rfl) (by kernel_rfl) (by kernel_rfl) (by kernel_rfl) (by kernel_rfl) rfl rfl rfl rfl (by kernel_rfl) rfl⟩ ?_
 refine ba [27,1,3] ?_
 refine ab ?_
 refine aC h (fun (s3:Bool)=>[(27,.glob (GL mx)),(3,vb ((p.Ju==true)&&((p.Jq.toList==z0.toList)&&((p.Jf.toList==z0.toList)&&true)))),(4,vb s3)]) ?_ ?_
 ·rintro s3 h
  refine ae (ab ?_)
  refine ab ?_
  refine aC h (fun (s7:Bool)=>[(27,.glob (GL mx)),(26,vb s7)]) ?_ ?_
  ·rintro s7 h
   refine ae ?_
   refine al _ rfl (fun hb11 => ?_) (fun hb11 => ?_)
   ·have h:=ar hb11 h
    refine aL hn 1 [27,2] ?_
    refine ao ?_
    refine ag [1] (by kernel_rfl) (es':=[(_,_)]) rfl ?_
    refine ai ?_
    obtain rfl:=zi h
    exact ay hio rfl (.tmp _ _ .nil) rfl rfl
   ·have h:=aq hb11 h
    refine au (ae ?_)
    refine aL hn 1 [27,2] ?_
    refine ao ?_
    refine ag [1] (by kernel_rfl) (es':=[(_,_)]) rfl ?_
    obtain rfl:=zi h
    exact ay hio rfl (.tmp _ _ .nil) rfl rfl
  ·intro u8 h hl9 hr10
   refine am h (fun hg3_2 h => ?_) (fun hg3_2 h => ?_)
   ·refine yx hn 3 ?_
    refine yd hg3_2 3 ?_
    refine ye [27,26] ?_
    exact hl9 _ (zi h).symm
   ·refine yx hn 3 ?_
    refine yd hg3_2 3 ?_
    refine ye [27,26] ?_
    exact hl9 _ (zi h).symm
 ·intro u4 h hl5 hr6
  refine am h (fun hg2_3 h => ?_) (fun hg2_3 h => ?_)
  ·obtain ⟨v1,hv1,h⟩:=zn h
   refine am h (fun hg2_8 h => ?_) (fun hg2_8 h => ?_)
   ·obtain ⟨v2,hv2,h⟩:=zn h
    refine yx hn 4 ?_
    refine yd hg2_3 2 ?_
    refine ys 2 ⟨lg call194 (nM _ _ _ hv1) 27⟩ ?_
    refine yd hg2_8 2 ?_
    refine ys 2 ⟨lg call55 (bX _ _ _ hv2) 27⟩ ?_
    refine ye [27,3,4] ?_
    exact hl5 _ (zi h).symm
   ·refine yx hn 4 ?_
    refine yd hg2_3 2 ?_
    refine ys 2 ⟨lg call194 (nM _ _ _ hv1) 27⟩ ?_
    refine yd hg2_8 5 ?_
    refine ye [27,3,4] ?_
    exact hl5 _ (zi h).symm
  ·refine yx hn 4 ?_
   refine yd hg2_3 10 ?_
   refine ye [27,3,4] ?_
   exact hl5 _ (zi h).symm
theorem ig (mx:Int×Nat×Value) (m:bf) (r:Bool) (h:Sh.jI m=some r):gW Tryz.prog (GL mx) 201 [.agg [.v (.bool m.Ji.Ju),.v (.string m.Ji.Jq),.v (.string m.Ji.Jf),.fl .shr 3 (flatten (map ah.enc m.To)),.fl .shr 1 (map (int .u8) m.Jb),.v (.bool m.JB),.v (.string m.Jm),.v (.int .i64 m.At)]] (.v (.bool r)):=by
 unfold Sh.jI at h
 refine yG 36 func201 fun g0 hn hio => ?_
 refine aL hn 2 [36,1] ?_
 refine ab (ab ?_)
 refine aC h (fun (s2:Bool)=>[(36,.glob (GL mx)),(1,.box 53 (bf.c m [])),(20,vb s2)]) ?_ ?_
 ·rintro s2 h
  refine ae ?_
  refine al _ rfl (fun hb6 => ?_) (fun hb6 => ?_)
  ·have h:=ar hb6 h
   refine aL hn 1 [36,2] ?_
   refine ao ?_
   refine ag [1] (by kernel_rfl) (es':=[(_,_)]) rfl ?_
   refine ai ?_
   obtain rfl:=zi h
   exact ay hio rfl (.tmp _ _ .nil) rfl rfl
  ·have h:=aq hb6 h
   refine au ?_
   refine ae (ab ?_)
   refine aL hn 4 [36,22,23,24] ?_
   refine aZ h (fun (s24:Int)=>[(36,.glob (GL mx)),(22,.fl .shr 3 (flatten (map ah.enc m.To))),(23,vi (m.To.length:Int)),(24,vi s24)]) (fun (():Unit)=>[(36,.glob (GL mx))]) ?_ ?_
   ·rintro ⟨⟩ h
    refine ae ?_
    refine aL hn 1 [36,2] ?_
    refine ao ?_
    refine ag [1] (by kernel_rfl) (es':=[(_,_)]) rfl ?_
    obtain rfl:=zi h
    exact ay hio rfl (.tmp _ _ .nil) rfl rfl
   ·rintro u31 hl32 hr33 s24 rr36 h ho34
    refine aL hn 1 [36,22,23,24,25] ?_
    refine ab ?_
    refine al _ rfl (fun hb37 => ?_) (fun hb37 => ?_)
    ·have h:=ar hb37 h
     refine au ?_
     refine ae (ab ?_)
     refine aJ (ab ?_)
     obtain ⟨v8,hv8,h⟩:=zn h
     obtain ⟨v9,hv9,h⟩:=zn h
     refine yx hn 0 ?_
     refine ys 0 ⟨lj hv8⟩ ?_
     refine yS (.agg [vb v9.Ju,vs v9.Jq,vs v9.Jf]) 0 ⟨kY _ _ _ _ _ _ _ underlying26 rfl vE rfl rfl (pM ah.len hv9) rfl (by decide)⟩ ?_
     refine yS (.box 26 [vb false,vs z0,vs z0]) 1 ⟨oA (bj _ _ rF)⟩ ?_
     refine ba [36,22,23,24,4] ?_
     refine ab ?_
     refine aC h (fun (s38:Bool)=>[(36,.glob (GL mx)),(22,.fl .shr 3 (flatten (map ah.enc m.To))),(23,vi (m.To.length:Int)),(24,vi s24),(34,vb s38)]) ?_ ?_
     ·rintro s38 h
      refine ae ?_
      refine al _ rfl (fun hb42 => ?_) (fun hb42 => ?_)
      ·have h:=ar hb42 h
       refine aL hn 1 [36,2] ?_
       refine ao ?_
       refine ag [1] (by kernel_rfl) (es':=[(_,_)]) rfl ?_
       refine aR (ai (ai (aR (ai ?_))))
       have h:=hr33 _ (ho34 _ (zi h).symm).symm
       obtain rfl:=zi h
       exact ay hio rfl (.tmp _ _ .nil) rfl rfl
      ·have h:=aq hb42 h
       refine au (aP (ae ?_))
       obtain ⟨v16,hv16,h⟩:=zn h
       refine yx hn 0 ?_
       refine ys 0 ⟨lb hv16⟩ ?_
       refine yw [24] 1 ?_
       refine ye [36,22,23,24] ?_
       exact bn _ (zi h).symm rfl
     ·intro u39 h hl40 hr41
      obtain ⟨v10,hv10,h⟩:=zn h
      refine am h (fun hg6_3 h => ?_) (fun hg6_3 h => ?_)
      ·refine yx hn 1 ?_
       refine ys 2 ⟨lg call162 (cH _ _ _ hv10) 36⟩ ?_
       refine yd hg6_3 3 ?_
       refine ye [36,22,23,24,34] ?_
       exact hl40 _ (zi h).symm
      ·refine yx hn 1 ?_
       refine ys 2 ⟨lg call162 (cH _ _ _ hv10) 36⟩ ?_
       refine yd hg6_3 3 ?_
       refine ye [36,22,23,24,34] ?_
       exact hl40 _ (zi h).symm
    ·have h:=aq hb37 h
     refine bl (az (az (bm ?_)))
     refine ag [0] (by kernel_rfl) (es':=[(_,_)]) rfl ?_
     exact hl32 _ (ho34 _ (zi h).symm).symm
 ·intro u3 h hl4 hr5
  obtain ⟨v1,hv1,h⟩:=zn h
  refine am h (fun hg1_4 h => ?_) (fun hg1_4 h => ?_)
  ·refine yx hn 2 ?_
   refine ys 2 ⟨lg call162 (cH _ _ _ hv1) 36⟩ ?_
   refine yd hg1_4 11 ?_
   refine ye [36,1,20] ?_
   exact hl4 _ (zi h).symm
  ·refine am h (fun hg1_10 h => ?_) (fun hg1_10 h => ?_)
   ·refine yx hn 2 ?_
    refine ys 2 ⟨lg call162 (cH _ _ _ hv1) 36⟩ ?_
    refine yd hg1_4 6 ?_
    refine yd hg1_10 5 ?_
    refine ye [36,1,20] ?_
    exact hl4 _ (zi h).symm
   ·refine yx hn 2 ?_
    refine ys 2 ⟨lg call162 (cH _ _ _ hv1) 36⟩ ?_
    refine yd hg1_4 6 ?_
    refine yd hg1_10 5 ?_
    refine ye [36,1,20] ?_
    exact hl4 _ (zi h).symm
theorem ew (mx:Int×Nat×Value) (m:bf) (r:Bool) (h:Sh.iI m=some r):gW Tryz.prog (GL mx) 178 [.agg [.v (.bool m.Ji.Ju),.v (.string m.Ji.Jq),.v (.string m.Ji.Jf),.fl .shr 3 (flatten (map ah.enc m.To)),.fl .shr 1 (map (int .u8) m.Jb),.v (.bool m.JB),.v (.string m.Jm),.v (.int .i64 m.At)]] (.v (.bool r)):=by
 unfold Sh.iI at h
 refine yG 17 func178 fun g0 hn hio => ?_
 refine aL hn 2 [17,1] ?_
 refine ab ?_
 refine aC h (fun (s3:Bool)=>[(17,.glob (GL mx)),(2,vb s3)]) ?_ ?_
 ·rintro s3 h
  refine ae (ao ?_)
  refine ag [1] (by kernel_rfl) (es':=[(_,_)]) rfl ?_
  obtain rfl:=zi h
  exact ay hio rfl (.tmp _ _ .nil) rfl rfl
 ·intro u4 h hl5 hr6
  obtain ⟨v1,hv1,h⟩:=zn h
  refine am h (fun hg1_2 h => ?_) (fun hg1_2 h => ?_)
  ·refine am h (fun hg1_8 h => ?_) (fun hg1_8 h => ?_)
   ·obtain ⟨v2,hv2,h⟩:=zn h
    refine yx hn 1 ?_
    refine ys 1 ⟨lg call201 (ig _ _ _ hv1) 17⟩ ?_
    refine yd hg1_2 6 ?_
    refine yd hg1_8 2 ?_
    refine ys 3 ⟨lg call95 (iY _ _ _ hv2) 17⟩ ?_
    refine ye [17,2] ?_
    exact hl5 _ (zi h).symm
   ·refine yx hn 1 ?_
    refine ys 1 ⟨lg call201 (ig _ _ _ hv1) 17⟩ ?_
    refine yd hg1_2 6 ?_
    refine yd hg1_8 6 ?_
    refine ye [17,2] ?_
    exact hl5 _ (zi h).symm
  ·refine yx hn 1 ?_
   refine ys 1 ⟨lg call201 (ig _ _ _ hv1) 17⟩ ?_
   refine yd hg1_2 12 ?_
   refine ye [17,2] ?_
   exact hl5 _ (zi h).symm
theorem qV (mx:Int×Nat×Value) (b:dN) (r:Int) (h:Sh.lQ b=some r):gW Tryz.prog (GL mx) 151 [.agg [.v (.int .i64 b.Jw),.v (.int .i64 b.Jv),.fr .shr true 8 (flatten (map bf.ienc b.Jt))]] (.v (.int .i64 r)):=by
 unfold Sh.lQ at h
 refine yG 58 func151 fun g0 hn hio => ?_
 refine aL hn 2 [58,1] ?_
 refine ab (ab ?_)
 refine aC h (fun (s1:Bool)=>[(58,.glob (GL mx)),(1,.box 62 [vi b.Jw,vi b.Jv,.fr .shr true 8 (flatten (map bf.ienc b.Jt))]),(22,vb s1)]) ?_ ?_
 ·rintro s1 h
  refine ae ?_
  refine al _ rfl (fun hb5 => ?_) (fun hb5 => ?_)
  ·have h:=ar hb5 h
   refine aL hn 1 [58,2] ?_
   refine ao ?_
   refine ag [1] (by kernel_rfl) (es':=[(_,_)]) rfl ?_
   refine ai ?_
   obtain rfl:=zi h
   exact ay hio rfl (.tmp _ _ .nil) rfl rfl
  ·have h:=aq hb5 h
   refine au ?_
   refine ae (ab ?_)
   refine ab ?_
   refine aC h (fun (s6:Bool)=>[(58,.glob (GL mx)),(1,.box 62 [vi b.Jw,vi b.Jv,.fr .shr true 8 (flatten (map bf.ienc b.Jt))]),(32,vb s6)]) ?_ ?_
   ·rintro s6 h
    refine ae ?_
    refine al _ rfl (fun hb10 => ?_) (fun hb10 => ?_)
    ·have h:=ar hb10 h
     refine aL hn 1 [58,2] ?_
     refine ao ?_
     refine ag [1] (by kernel_rfl) (es':=[(_,_)]) rfl ?_
     refine ai ?_
     obtain rfl:=zi h
     exact ay hio rfl (.tmp _ _ .nil) rfl rfl
    ·have h:=aq hb10 h
     refine au ?_
     refine ae (ab ?_)
     refine aL hn 4 [58,34,35,36] ?_
     refine aZ h (fun (s28:Int)=>[(58,.glob (GL mx)),(34,.fr .shr true 8 (flatten (map bf.ienc b.Jt))),(35,vi (b.Jt.length:Int)),(36,vi s28)]) (fun (():Unit)=>[(58,.glob (GL mx))]) ?_ ?_
     ·rintro ⟨⟩ h
      refine ae ?_
      refine aL hn 1 [58,2] ?_
      refine ao ?_
      refine ag [1] (by kernel_rfl) (es':=[(_,_)]) rfl ?_
      obtain rfl:=zi h
      exact ay hio rfl (.tmp _ _ .nil) rfl rfl
     ·rintro u35 hl36 hr37 s28 rr40 h ho38
      refine aL hn 1 [58,34,35,36,37] ?_
      refine ab ?_
      refine al _ rfl (fun hb41 => ?_) (fun hb41 => ?_)
      ·have h:=ar hb41 h
       refine au ?_
       refine ae (ab ?_)
       refine aJ (ab ?_)
       obtain ⟨v12,hv12,h⟩:=zn h
       obtain ⟨v13,hv13,h⟩:=zn h
       refine yx hn 0 ?_
       refine ys 0 ⟨lI hv12⟩ ?_
       refine yS (.agg (bf.c v13 [])) 0 ⟨qF _ _ _ _ _ _ _ _ underlying53 rfl Bq rfl rfl (qj bf.ilen hv13) (.cons (.v _) (.cons (.v _) (.cons (.v _) (.cons (.fl _ _ rfl) (.cons (.fl _ _ rfl) (.cons (.v _) (.cons (.v _) (.cons (.v _) (.nil))))))))) rfl (by decide)⟩ ?_
       refine yS (.box 53 [vb false,vs z0,vs z0,vz,vz,vb false,vs z0,vi 0]) 1 ⟨oA (bj _ _ BF)⟩ ?_
       refine ba [58,34,35,36,4] ?_
       refine ab ?_
       refine aC h (fun (s42:Bool)=>[(58,.glob (GL mx)),(34,.fr .shr true 8 (flatten (map bf.ienc b.Jt))),(35,vi (b.Jt.length:Int)),(36,vi s28),(56,vb s42)]) ?_ ?_
       ·rintro s42 h
        refine ae ?_
        refine al _ rfl (fun hb46 => ?_) (fun hb46 => ?_)
        ·have h:=ar hb46 h
         refine aL hn 1 [58,2] ?_
         refine ao ?_
         refine ag [1] (by kernel_rfl) (es':=[(_,_)]) rfl ?_
         refine aR (ai (ai (aR (ai ?_))))
         have h:=hr37 _ (ho38 _ (zi h).symm).symm
         obtain rfl:=zi h
         exact ay hio rfl (.tmp _ _ .nil) rfl rfl
        ·have h:=aq hb46 h
         refine au (aP (ae ?_))
         obtain ⟨v20,hv20,h⟩:=zn h
         refine yx hn 0 ?_
         refine ys 0 ⟨lb hv20⟩ ?_
         refine yw [36] 1 ?_
         refine ye [58,34,35,36] ?_
         exact bn _ (zi h).symm rfl
       ·intro u43 h hl44 hr45
        obtain ⟨v14,hv14,h⟩:=zn h
        refine am h (fun hg8_3 h => ?_) (fun hg8_3 h => ?_)
        ·refine yx hn 1 ?_
         refine ys 2 ⟨lg call178 (ew _ _ _ hv14) 58⟩ ?_
         refine yd hg8_3 13 ?_
         refine ye [58,34,35,36,56] ?_
         exact hl44 _ (zi h).symm
        ·refine am h (fun hg8_7 h => ?_) (fun hg8_7 h => ?_)
         ·refine yx hn 1 ?_
          refine ys 2 ⟨lg call178 (ew _ _ _ hv14) 58⟩ ?_
          refine yd hg8_3 4 ?_
          refine yd hg8_7 9 ?_
          refine ye [58,34,35,36,56] ?_
          exact hl44 _ (zi h).symm
         ·refine am h (fun hg8_12 h => ?_) (fun hg8_12 h => ?_)
          ·refine yx hn 1 ?_
           refine ys 2 ⟨lg call178 (ew _ _ _ hv14) 58⟩ ?_
           refine yd hg8_3 4 ?_
           refine yd hg8_7 5 ?_
           refine yd hg8_12 4 ?_
           refine ye [58,34,35,36,56] ?_
           exact hl44 _ (zi h).symm
          ·refine yx hn 1 ?_
           refine ys 2 ⟨lg call178 (ew _ _ _ hv14) 58⟩ ?_
           refine yd hg8_3 4 ?_
           refine yd hg8_7 5 ?_
           refine yd hg8_12 4 ?_
           refine ye [58,34,35,36,56] ?_
           exact hl44 _ (zi h).symm
      ·have h:=aq hb41 h
       refine bl (az (az (bm ?_)))
       refine ag [0] (by kernel_rfl) (es':=[(_,_)]) rfl ?_
       exact hl36 _ (ho38 _ (zi h).symm).symm
   ·intro u7 h hl8 hr9
    refine am h (fun hg3_4 h => ?_) (fun hg3_4 h => ?_)
    ·refine yx hn 5 ?_
     refine yd hg3_4 5 ?_
     refine ye [58,1,32] ?_
     exact hl8 _ (zi h).symm
    ·refine yx hn 5 ?_
     refine yd hg3_4 5 ?_
     refine ye [58,1,32] ?_
     exact hl8 _ (zi h).symm
 ·intro u2 h hl3 hr4
  refine am h (fun hg1_3 h => ?_) (fun hg1_3 h => ?_)
  ·refine am h (fun hg1_8 h => ?_) (fun hg1_8 h => ?_)
   ·refine yx hn 4 ?_
    refine yd hg1_3 5 ?_
    refine yd hg1_8 9 ?_
    refine ye [58,1,22] ?_
    exact hl3 _ (zi h).symm
   ·refine am h (fun hg1_13 h => ?_) (fun hg1_13 h => ?_)
    ·refine yx hn 4 ?_
     refine yd hg1_3 5 ?_
     refine yd hg1_8 5 ?_
     refine yd hg1_13 4 ?_
     refine ye [58,1,22] ?_
     exact hl3 _ (zi h).symm
    ·refine yx hn 4 ?_
     refine yd hg1_3 5 ?_
     refine yd hg1_8 5 ?_
     refine yd hg1_13 4 ?_
     refine ye [58,1,22] ?_
     exact hl3 _ (zi h).symm
  ·refine am h (fun hg1_13 h => ?_) (fun hg1_13 h => ?_)
   ·refine yx hn 4 ?_
    refine yd hg1_3 10 ?_
    refine yd hg1_13 4 ?_
    refine ye [58,1,22] ?_
    exact hl3 _ (zi h).symm
   ·refine yx hn 4 ?_
    refine yd hg1_3 10 ?_
    refine yd hg1_13 4 ?_
    refine ye [58,1,22] ?_
    exact hl3 _ (zi h).symm
theorem uB (mx:Int×Nat×Value) (p:ah) (r:(JH×Int)) (h:Sh.qp p=some r):gW Tryz.prog (GL mx) 180 [.agg [.v (.bool p.Ju),.v (.string p.Jq),.v (.string p.Jf)]] (.tup [.v (.string r.1),.v (.int .i64 r.2)]):=by
 unfold Sh.qp at h
 refine yG 20 func180 fun g0 hn hio => ?_
 refine aL hn 3 [20,1] ?_
 refine ab (ab ?_)
 obtain ⟨v1,hv1,h⟩:=zn h
 refine yx hn 1 ?_
 refine ys 1 ⟨lg call162 (cH _ _ _ hv1) 20⟩ ?_
 refine ba [20,1,4] ?_
 refine aL hn 2 [20,1,4,8] ?_
 refine al _ rfl (fun hb2 => ?_) (fun hb2 => ?_)
 ·have h:=ar hb2 h
  refine aL hn 3 [20,2,3] ?_
  refine ao ?_
  refine ag [1,2] (by kernel_rfl) (es':=[(_,_),(_,_)]) rfl ?_
  refine ai ?_
  obtain rfl:=zi h
  exact ay hio rfl (.tmp _ _ (.tmp _ _ .nil)) rfl rfl
 ·have h:=aq hb2 h
  refine au ?_
  refine ae (ab ?_)
  refine aL hn 2 [20,1,11] ?_
  refine al _ rfl (fun hb3 => ?_) (fun hb3 => ?_)
  ·have h:=ar hb3 h
   refine aL hn 2 [20,2,3] ?_
   refine ao ?_
   refine ag [1,2] (by kernel_rfl) (es':=[(_,_),(_,_)]) rfl ?_
   refine ai ?_
   obtain rfl:=zi h
   exact ay hio rfl (.tmp _ _ (.tmp _ _ .nil)) rfl rfl
  ·have h:=aq hb3 h
   refine au ?_
   refine ae (ab ?_)
   obtain ⟨v4,hv4,h⟩:=zn h
   obtain ⟨v5,hv5,h⟩:=zn h
   obtain ⟨v6,hv6,h⟩:=zn h
   obtain ⟨v7,hv7,h⟩:=zn h
   refine yx hn 2 ?_
   refine ys 0 ⟨lB (cK hv4)⟩ ?_
   refine ys 2 ⟨lB (cK hv5)⟩ ?_
   refine ys 0 ⟨lB (cK hv6)⟩ ?_
   refine ys 2 ⟨lB (cK hv7)⟩ ?_
   refine ba [20,2,3] ?_
   refine ao ?_
   refine ag [1,2] (by kernel_rfl) (es':=[(_,_),(_,_)]) rfl ?_
   obtain rfl:=zi h
   exact ay hio rfl (.tmp _ _ (.tmp _ _ .nil)) rfl rfl
theorem fW (mx:Int×Nat×Value) (word:JH) (p:ah) (cap:(List Int)) (r:(List Int)) (h:Sh.dR word p cap=some r):mE Tryz.prog (GL mx) 179 [.v (.string word),.agg [.v (.bool p.Ju),.v (.string p.Jq),.v (.string p.Jf)],.box 28 [.fl (.own 5) 1 (map (int .u8) cap)]] [.v (.string word),.agg [.v (.bool p.Ju),.v (.string p.Jq),.v (.string p.Jf)],.box 28 [.fl (.own 5) 1 (map (int .u8) r)]] (.tup []):=by
 unfold Sh.dR at h
 refine CD 18 func179 fun args0 hargs0 g0 hn hio => ?_
 refine aL hn 1 [0,1,2,18,4,0,1,2] ?_
 refine ab ?_
 obtain ⟨v1,hv1,h⟩:=zn h
 refine yx hn 1 ?_
 refine ys 0 ⟨lg call180 (uB _ _ _ hv1) 18⟩ ?_
 refine ym 4 ?_
 refine ba [0,1,2,18,5,0,1,2] ?_
 obtain ⟨v2,hv2,h⟩:=zn h
 obtain ⟨v3,hv3,h⟩:=zn h
 obtain ⟨v4,hv4,h⟩:=zn h
 refine yx hn 3 ?_
 refine ys 0 ⟨lB (cK hv2)⟩ ?_
 refine ys 0 ⟨lB (cK hv3)⟩ ?_
 refine yk [2] [12,16] ?_
 refine mo (2,.box 28 [.any]) (17,.fl (.own 5) 1 (map (int .u8) v4)) 0 ⟨eh _ _ _ _ _ _ fQ qD underlying9 rfl rfl (zl rfl) rfl rfl hv4 rfl (Nat.ne_of_beq_eq_false rfl) rfl rfl⟩ ?_
 refine yw [12] 0 ?_
 refine yk [17,2] [] ?_
 refine yt (2,.box 28 [.fl (.own 5) 1 (map (int .u8) v4)]) 0 ⟨aV _ _ _ _ _ _ _ _ kG rfl rfl rfl (zl rfl) rfl rfl⟩ ?_
 refine ye [0,1,2,18,0,1,2] ?_
 refine ag [0,1,2,4,5,6] (by kernel_rfl) (es':=[(_,_),(_,_),(_,_),(_,_),(_,_),(_,_)]) rfl ?_
 obtain rfl:=zi h
 exact ki (es:=[]) (posts:=[.v (.string word),.agg [.v (.bool p.Ju),.v (.string p.Jq),.v (.string p.Jf)],.box 28 [.fl (.own 5) 1 (map (int .u8) v4)]]) hio rfl rfl .nil rfl rfl hargs0 rfl
theorem tI (mx:Int×Nat×Value) (b:(List Int)) (r:((List Int)×Int)) (h:Sh.nY b=some r):gW Tryz.prog (GL mx) 181 [.fl .shr 1 (map (int .u8) b)] (.tup [.fl (.own 5) 1 (map (int .u8) r.1),.v (.int .i64 r.2)]):=by
 unfold Sh.nY at h
 refine yG 28 func181 fun g0 hn hio => ?_
 refine aL hn 2 [0,28] ?_
 refine ab (ab ?_)
 obtain ⟨v1,hv1,h⟩:=zn h
 refine yx hn 1 ?_
 refine ys 1 ⟨lg call95 (iY _ _ _ hv1) 28⟩ ?_
 refine ba [0,28,4] ?_
 refine aL hn 2 [0,28,4,10] ?_
 refine al _ rfl (fun hb2 => ?_) (fun hb2 => ?_)
 ·have h:=ar hb2 h
  refine aL hn 3 [28,2,3] ?_
  refine ao ?_
  refine ag [1,2] (by kernel_rfl) (es':=[(_,_),(_,_)]) rfl ?_
  refine cu (fs:=[(2,.fl (.own 5) 1 (map (int .u8) [])),(3,vi v1)]) (.sub _ (bO 5 1) rfl (.same _ .nil)) ?_
  refine ai ?_
  obtain rfl:=zi h
  exact ay hio rfl (.tmp _ _ (.tmp _ _ .nil)) rfl rfl
 ·have h:=aq hb2 h
  refine au (ae ?_)
  refine fu hn 0 ?_
  refine yS (.box 28 [vz]) 0 ⟨oA (bj _ _ DR)⟩ ?_
  refine ba [0,28,5] ?_
  refine ab (ab ?_)
  obtain ⟨v3,hv3,h⟩:=zn h
  refine yx hn 1 ?_
  refine yk [] [12] ?_
  refine yt (13,.cloB 123 [.box 28 [fb v3]]) 0 ⟨gh _ _ 96 _ _ rfl call96 rfl rfl (gg b _ hv3) rfl⟩ ?_
  refine ba [28,5,13] ?_
  refine aJ ?_
  refine iW [2,0,1] (by kernel_rfl) (es':=[(13,.cloB 123 [.box 28 [fb v3]]),(28,.glob (GL mx)),(5,.box 28 [vz])]) rfl ?_
  refine nb (fs:=[(13,.cloB 123 [.box 28 [fb v3]]),(28,.glob (GL mx)),(5,.box 28 [.fl (.own 5) 1 (map (int .u8) [])])]) (.same _ (.same _ (.box _ _ (af (bO 5 1) (bG)) rfl .nil))) ?_
  refine gU h 123 13 14 29 _ [28,5] call123 (fun (s21:(List Int))=>[(28,.glob (GL mx)),(5,.box 28 [.fl (.own 5) 1 (map (int .u8) s21)])]) (fun (():Unit)=>[]) (fun l J Y hY t t' h=>eW mx l J Y hY v3 t t' h) hn rfl (fun _=>rfl) (fun _=>rfl) (fun _=>rfl) rfl rfl (fun _=>⟨rfl,rfl⟩) rfl (gO 28 rfl) ?_ ?_ ?_
  ·rintro kk g0 hn hio x s21 u h
   refine qI (es':=[(14,fb x),(28,.glob (GL mx)),(5,.box 28 [.fl (.own 5) 1 (map (int .u8) s21)]),(28,.v (kk.tm.getD 28 undef)),(5,.v (kk.tm.getD 5 undef)),(29,.inv kk.ready)]) rfl ?_
   refine yy hn 1 [28,5,29,6,28,5] ?_
   refine ag [0,1,3,4,5,2] (by kernel_rfl) (es':=[(28,.glob (GL mx)),(5,.box 28 [.fl (.own 5) 1 (map (int .u8) s21)]),(6,fb x),(28,.v (kk.tm.getD 28 undef)),(5,.v (kk.tm.getD 5 undef)),(29,.inv kk.ready)]) rfl ?_
   refine jo (es:=[(28,.glob (GL mx)),(5,.box 28 [.fl (.own 5) 1 (map (int .u8) s21)]),(6,fb x),(28,.v (kk.tm.getD 28 undef)),(5,.v (kk.tm.getD 5 undef))]) 29 rfl ?_
   refine aJ (ab ?_)
   refine aC h (fun (s29:(List Int))=>[(28,.glob (GL mx)),(5,.box 28 [.fl (.own 5) 1 (map (int .u8) s29)]),(6,fb x),(29,.inv kk.busy),(28,.v (kk.tm.getD 28 undef)),(5,.v (kk.tm.getD 5 undef))]) ?_ ?_
   ·rintro s29 h
    refine ae (ab ?_)
    obtain ⟨v12,hv12,h⟩:=zn h
    refine yx hn 2 ?_
    refine yk [5] [21,22] ?_
    refine mo (5,.box 28 [.any]) (23,.fl (.own 5) 1 (map (int .u8) v12)) 0 ⟨gR _ _ _ _ _ _ fQ rfl rfl (zl rfl) rfl (dQ _) (dQ _) hv12 ((List.map_append).symm.trans (congrArg (map _) (ib hv12))) (Nat.ne_of_beq_eq_false rfl) rfl rfl⟩ ?_
    refine yw [21] 0 ?_
    refine yk [23,5] [] ?_
    refine yt (5,.box 28 [.fl (.own 5) 1 (map (int .u8) v12)]) 0 ⟨aV _ _ _ _ _ _ _ _ kG rfl rfl rfl (zl rfl) rfl rfl⟩ ?_
    refine ba [28,5,29,28,5] ?_
    obtain ⟨v13,hv13,h⟩:=zn h
    refine yx hn 1 ?_
    refine yk [5] [24] ?_
    refine mo (5,.box 28 [.any]) (25,.fl (.own 5) 1 (map (int .u8) v13)) 0 ⟨eh _ _ _ _ _ _ fQ qD underlying9 rfl rfl (zl rfl) rfl rfl hv13 rfl (Nat.ne_of_beq_eq_false rfl) rfl rfl⟩ ?_
    refine yw [24] 0 ?_
    refine yk [25,5] [] ?_
    refine yt (5,.box 28 [.fl (.own 5) 1 (map (int .u8) v13)]) 0 ⟨aV _ _ _ _ _ _ _ _ kG rfl rfl rfl (zl rfl) rfl rfl⟩ ?_
    refine ye [28,5,29,28,5] ?_
    refine aP ?_
    refine ag [0,1,3,4,2] (by kernel_rfl) (es':=[(_,_),(_,_),(_,_),(_,_),(_,_)]) rfl ?_
    obtain rfl:=zi h
    exact jj 29 [28,5] _ rfl rfl (by kernel_rfl)
   ·intro u30 h hl31 hr32
    refine ab ?_
    obtain ⟨v4,hv4,h⟩:=zn h
    refine yx hn 1 ?_
    refine yS (.fl (.own 5) 1 (map (int .u8) [46])) 0 ⟨aY _ _ 1 (.int .u8 0) (map (int .u8) [46]) [(0,.int .u8 46)] underlying28 jx qD (fun _ V w o a hv hes=>by simp only [List.map_toArray,List.map_cons,List.map_nil]; try rfl) (cd (by simp [Instr.fill,Value.cells]; rfl) (by simp [List.range,List.range.loop] <;> rfl)) (by simp [Value.oneCell']) rfl (by decide) (by decide) (by decide)⟩ ?_
    refine yk [16] [] ?_
    refine yt (17,.fl .ro 1 (map (int .u8) [46])) 0 ⟨fP _ _ _ underlying28 underlying5 (by intro h; cases h)⟩ ?_
    refine ys 0 ⟨lk call124 (jV _ _ _ hv4)⟩ ?_
    refine ba [28,5,6,29,18,28,5] ?_
    refine al _ rfl (fun hb33 => ?_) (fun hb33 => ?_)
    ·have h:=ar hb33 h
     obtain ⟨v6,hv6,h⟩:=zn h
     refine yx hn 1 ?_
     refine yk [5] [19] ?_
     refine mo (5,.box 28 [.any]) (20,.fl (.own 5) 1 (map (int .u8) v6)) 0 ⟨eh _ _ _ _ _ _ fQ qD underlying9 rfl rfl (zl rfl) rfl rfl hv6 rfl (Nat.ne_of_beq_eq_false rfl) rfl rfl⟩ ?_
     refine yw [19] 0 ?_
     refine yk [20,5] [] ?_
     refine yt (5,.box 28 [.fl (.own 5) 1 (map (int .u8) v6)]) 0 ⟨aV _ _ _ _ _ _ _ _ kG rfl rfl rfl (zl rfl) rfl rfl⟩ ?_
     refine ye [28,5,6,29,28,5] ?_
     exact hl31 _ (zi h).symm
    ·have h:=aq hb33 h
     refine au ?_
     refine ag [0,1,2,3,5,6] (by kernel_rfl) (es':=[(_,_),(_,_),(_,_),(_,_),(_,_),(_,_)]) rfl ?_
     exact hl31 _ (zi h).symm
  ·rintro D s21 h
   refine aP ?_
   refine ae (ab ?_)
   obtain ⟨v34,hv34,h⟩:=zn h
   refine yx hn 1 ?_
   refine yk [5] [26] ?_
   refine mo (5,.box 28 [.any]) (27,.fl (.own 5) 1 (map (int .u8) v34)) 0 ⟨eh _ _ _ _ _ _ fQ qD underlying9 rfl rfl (zl rfl) rfl rfl hv34 rfl (Nat.ne_of_beq_eq_false rfl) rfl rfl⟩ ?_
   refine ya 1 ?_
   refine ba [28,2,3] ?_
   refine ao ?_
   refine ag [1,2] (by kernel_rfl) (es':=[(_,_),(_,_)]) rfl ?_
   obtain rfl:=zi h
   exact ay hio rfl (.tmp _ _ (.tmp _ _ .nil)) rfl rfl
  ·rintro D ⟨⟩ h
   cases h
theorem om (mx:Int×Nat×Value) (mails:(List bf)) (r:(List Int)) (h:Sh.jt mails=some r):gW Tryz.prog (GL mx) 152 [.fr .shr true 8 (flatten (map bf.ienc mails))] (.fl (.own 5) 1 (map (int .u8) r)):=by
 unfold Sh.jt at h
 refine yG 47 func152 fun g0 hn hio => ?_
 refine aL hn 1 [0,47] ?_
 refine fu hn 0 ?_
 refine yS (.box 28 [vz]) 0 ⟨oA (bj _ _ DR)⟩ ?_
 refine ba [0,47,3] ?_
 refine fu hn 0 ?_
 refine yS (.clo 179 [3]) 1 ⟨kP _ _ _ 3 (by decide)⟩ ?_
 refine ba [0,47,3,4] ?_
 refine ab ?_
 refine aL hn 3 [47,3,4,12,13,14] ?_
 refine nb (fs:=[(47,.glob (GL mx)),(3,.box 28 [.fl (.own 5) 1 (map (int .u8) [])]),(4,.clo 179 [3]),(12,.fr .shr true 8 (flatten (map bf.ienc mails))),(13,vi (mails.length:Int)),(14,vi 0)]) (.same _ (.box _ _ (af (bO 5 1) (bG)) rfl (.same _ (.same _ (.same _ (.same _ .nil)))))) ?_
 refine aZ h (fun ((s46,s47):(List Int)×Int)=>[(47,.glob (GL mx)),(3,.box 28 [.fl (.own 5) 1 (map (int .u8) s46)]),(4,.clo 179 [3]),(12,.fr .shr true 8 (flatten (map bf.ienc mails))),(13,vi (mails.length:Int)),(14,vi s47)]) (fun (s64:(List Int))=>[(47,.glob (GL mx)),(3,.box 28 [.fl (.own 5) 1 (map (int .u8) s64)])]) ?_ ?_
 ·rintro s64 h
  refine ae (ab ?_)
  obtain ⟨v87,hv87,h⟩:=zn h
  refine yx hn 1 ?_
  refine yk [3] [45] ?_
  refine mo (3,.box 28 [.any]) (46,.fl (.own 5) 1 (map (int .u8) v87)) 0 ⟨eh _ _ _ _ _ _ fQ qD underlying9 rfl rfl (zl rfl) rfl rfl hv87 rfl (Nat.ne_of_beq_eq_false rfl) rfl rfl⟩ ?_
  refine ya 0 ?_
  refine ba [47,2] ?_
  refine ao ?_
  refine ag [1] (by kernel_rfl) (es':=[(_,_)]) rfl ?_
  obtain rfl:=zi h
  exact ay hio rfl (.tmp _ _ .nil) rfl rfl
 ·rintro u65 hl66 hr67 ⟨s46,s47⟩ rr70 h ho68
  refine aL hn 1 [47,3,4,12,13,14,15] ?_
  refine ab ?_
  refine al _ rfl (fun hb71 => ?_) (fun hb71 => ?_)
  ·have h:=ar hb71 h
   refine au ?_
   refine ae (ab ?_)
   refine aJ (ab ?_)
   obtain ⟨v2,hv2,h⟩:=zn h
   obtain ⟨v3,hv3,h⟩:=zn h
   refine yx hn 0 ?_
   refine ys 0 ⟨lI hv2⟩ ?_
   refine yS (.agg (bf.c v3 [])) 0 ⟨qF _ _ _ _ _ _ _ _ underlying53 rfl Bq rfl rfl (qj bf.ilen hv3) (.cons (.v _) (.cons (.v _) (.cons (.v _) (.cons (.fl _ _ rfl) (.cons (.fl _ _ rfl) (.cons (.v _) (.cons (.v _) (.cons (.v _) (.nil))))))))) rfl (by decide)⟩ ?_
   refine yS (.box 53 [vb false,vs z0,vs z0,vz,vz,vb false,vs z0,vi 0]) 1 ⟨oA (bj _ _ BF)⟩ ?_
   refine ba [47,3,4,12,13,14,6] ?_
   refine ab ?_
   obtain ⟨v4,hv4,h⟩:=zn h
   refine yx hn 3 ?_
   refine yk [3] [18,20,47] ?_
   refine mo (3,.box 28 [.fl (.own 5) 1 (map (int .u8) v4)]) (21,.tup []) 0 ⟨uf _ _ _ 21 18 3 47 179 [_,.tmp 20] _ _ _ _ rfl call179 rfl rfl rfl (fun _ h=>h) (fW mx (⟨#[77,65,73,76,32,70,82,79,77,58]⟩:JH) (ah.mk v3.Ji.Ju v3.Ji.Jq v3.Ji.Jf) s46 _ hv4) rfl rfl rfl rfl rfl rfl rfl rfl⟩ ?_
   refine ba [47,3,4,12,13,14,6] ?_
   refine ab ?_
   refine aL hn 4 [47,3,4,12,13,14,6,23,24,25] ?_
   refine aZ h (fun ((s76,s77):(List Int)×Int)=>[(47,.glob (GL mx)),(3,.box 28 [.fl (.own 5) 1 (map (int .u8) s76)]),(4,.clo 179 [3]),(12,.fr .shr true 8 (flatten (map bf.ienc mails))),(13,vi (mails.length:Int)),(14,vi s47),(6,.box 53 (bf.c v3 [])),(23,.fl .shr 3 (flatten (map ah.enc v3.To))),(24,vi (v3.To.length:Int)),(25,vi s77)]) (fun (s79:(List Int))=>[(47,.glob (GL mx)),(3,.box 28 [.fl (.own 5) 1 (map (int .u8) s79)]),(4,.clo 179 [3]),(12,.fr .shr true 8 (flatten (map bf.ienc mails))),(13,vi (mails.length:Int)),(14,vi s47),(6,.box 53 (bf.c v3 []))]) ?_ ?_
   ·rintro s79 h
    refine ae (ab ?_)
    obtain ⟨v24,hv24,h⟩:=zn h
    refine yx hn 1 ?_
    refine yk [3] [33] ?_
    refine mo (3,.box 28 [.any]) (34,.fl (.own 5) 1 (map (int .u8) v24)) 0 ⟨eh _ _ _ _ _ _ fQ qD underlying9 rfl rfl (zl rfl) rfl rfl hv24 rfl (Nat.ne_of_beq_eq_false rfl) rfl rfl⟩ ?_
    refine yw [33] 0 ?_
    refine yk [34,3] [] ?_
    refine yt (3,.box 28 [.fl (.own 5) 1 (map (int .u8) v24)]) 0 ⟨aV _ _ _ _ _ _ _ _ kG rfl rfl rfl (zl rfl) rfl rfl⟩ ?_
    refine ba [47,3,4,12,13,14,6] ?_
    refine ab ?_
    obtain ⟨v25,hv25,h⟩:=zn h
    refine yx hn 2 ?_
    refine ys 0 ⟨lg call181 (tI _ _ _ hv25) 47⟩ ?_
    refine ym 0 ?_
    refine Ha 1 ?_
    refine ya 1 ?_
    refine ba [47,3,4,12,13,14,9] ?_
    obtain ⟨v26,hv26,h⟩:=zn h
    refine yx hn 1 ?_
    refine ym 0 ?_
    refine yk [3] [41,42] ?_
    refine mo (3,.box 28 [.any]) (43,.fl (.own 5) 1 (map (int .u8) v26)) 0 ⟨gR _ _ _ _ _ _ fQ rfl rfl (zl rfl) rfl (dQ _) (dQ _) hv26 ((List.map_append).symm.trans (congrArg (map _) (ib hv26))) (Nat.ne_of_beq_eq_false rfl) rfl rfl⟩ ?_
    refine yw [41] 0 ?_
    refine yk [43,3] [] ?_
    refine yt (3,.box 28 [.fl (.own 5) 1 (map (int .u8) v26)]) 0 ⟨aV _ _ _ _ _ _ _ _ kG rfl rfl rfl (zl rfl) rfl rfl⟩ ?_
    refine ye [47,3,4,12,13,14] ?_
    refine aP (ae ?_)
    obtain ⟨v27,hv27,h⟩:=zn h
    refine yx hn 0 ?_
    refine ys 0 ⟨lb hv27⟩ ?_
    refine yw [14] 1 ?_
    refine ye [47,3,4,12,13,14] ?_
    exact bn _ (zi h).symm rfl
   ·rintro u80 hl81 hr82 ⟨s76,s77⟩ rr85 h ho83
    refine aL hn 1 [47,3,4,12,13,14,6,23,24,25,26] ?_
    refine ab ?_
    refine al _ rfl (fun hb86 => ?_) (fun hb86 => ?_)
    ·have h:=ar hb86 h
     refine au ?_
     refine ae (ab ?_)
     refine aJ (ab ?_)
     obtain ⟨v6,hv6,h⟩:=zn h
     obtain ⟨v7,hv7,h⟩:=zn h
     refine yx hn 0 ?_
     refine ys 0 ⟨lj hv6⟩ ?_
     refine yS (.agg [vb v7.Ju,vs v7.Jq,vs v7.Jf]) 0 ⟨kY _ _ _ _ _ _ _ underlying26 rfl vE rfl rfl (pM ah.len hv7) rfl (by decide)⟩ ?_
     refine yS (.box 26 [vb false,vs z0,vs z0]) 1 ⟨oA (bj _ _ rF)⟩ ?_
     refine ba [47,3,4,12,13,14,6,23,24,25,8] ?_
     obtain ⟨v8,hv8,h⟩:=zn h
     refine yx hn 2 ?_
     refine yk [3] [29,30,47] ?_
     refine mo (3,.box 28 [.fl (.own 5) 1 (map (int .u8) v8)]) (31,.tup []) 0 ⟨uf _ _ _ 31 29 3 47 179 [_,.tmp 30] _ _ _ _ rfl call179 rfl rfl rfl (fun _ h=>h) (fW mx (⟨#[82,67,80,84,32,84,79,58]⟩:JH) v7 s76 _ hv8) rfl rfl rfl rfl rfl rfl rfl rfl⟩ ?_
     refine ye [47,3,4,12,13,14,6,23,24,25] ?_
     refine aP (ae ?_)
     obtain ⟨v9,hv9,h⟩:=zn h
     refine yx hn 0 ?_
     refine ys 0 ⟨lb hv9⟩ ?_
     refine yw [25] 1 ?_
     refine ye [47,3,4,12,13,14,6,23,24,25] ?_
     exact bn _ (zi h).symm rfl
    ·have h:=aq hb86 h
     refine bl (az (az (bm ?_)))
     refine ag [0,1,2,3,4,5,6] (by kernel_rfl) (es':=[(_,_),(_,_),(_,_),(_,_),(_,_),(_,_),(_,_)]) rfl ?_
     exact hl81 _ (ho83 _ (zi h).symm).symm
  ·have h:=aq hb71 h
   refine bl (az (az (bm ?_)))
   refine ag [0,1] (by kernel_rfl) (es':=[(_,_),(_,_)]) rfl ?_
   exact hl66 _ (ho68 _ (zi h).symm).symm
theorem tB (divisor:Int) (r:(List Int)) (h:Sh.oD divisor=some r):bQ Tryz.prog 202 [.v (.int .u32 divisor)] (.v (.agg (map (int .u32) r).toArray)):=by
 unfold Sh.oD at h
 refine yO 29 func202 fun g0 hn hio => ?_
 refine fu hn 0 ?_
 refine yS (.arr 222 (map (int .u32) ((List.replicate 16 (0:Int))))) 0 ⟨oA (bE _ zw)⟩ ?_
 refine ba [0,2] ?_
 refine fu hn 0 ?_
 refine yS (.arr 222 (map (int .u32) ((List.replicate 16 (0:Int))))) 0 ⟨oA (bE _ zw)⟩ ?_
 refine ba [0,2,3] ?_
 refine ab ?_
 refine aL hn 1 [0,2,3,7] ?_
 refine aZ h (fun ((s91,s92):(List Int)×Int)=>[(0,.v (.int .u32 divisor)),(2,.arr 222 (map (int .u32) ((List.replicate 16 (0:Int))))),(3,.arr 222 (map (int .u32) s91)),(7,vi s92)]) (fun (s133:(List Int))=>[(2,.arr 222 (map (int .u32) ((List.replicate 16 (0:Int))))),(3,.arr 222 (map (int .u32) s133))]) ?_ ?_
 ·rintro s133 h
  refine ae (ab ?_)
  obtain ⟨v180,hv180,h⟩:=zn h
  obtain ⟨v181,hv181,h⟩:=zn h
  obtain ⟨v182,hv182,h⟩:=zn h
  refine yx hn 0 ?_
  refine yS (.v (.agg (map (int .u32) s133).toArray)) 0 ⟨fN _ _ _ _ underlying222 rfl (yo.trans (congrArg some (bh hv180))) rfl rfl⟩ ?_
  refine yk [2] [28] ?_
  refine yt (2,.arr 222 (map (int .u32) s133)) 0 ⟨bH _ _ _ _ (yo.trans (congrArg some (bh hv182))) rfl rfl (cX (fun _=>rfl) _) ((bh (f:=int .u32) hv181).symm.trans (bh (f:=int .u32) hv182))⟩ ?_
  refine ba [2] ?_
  refine ao ?_
  obtain ⟨v183,hv183,h⟩:=zn h
  obtain rfl:=zi h
  exact ay hio rfl (.cellR _ _ _ _ underlying222 rfl (yo.trans (congrArg some (bh hv183))) .nil) rfl rfl
 ·rintro u134 hl135 hr136 ⟨s91,s92⟩ rr139 h ho137
  refine aL hn 1 [0,2,3,7,8] ?_
  refine ab ?_
  refine al _ rfl (fun hb140 => ?_) (fun hb140 => ?_)
  ·have h:=ar hb140 h
   refine au ?_
   refine ae (ab ?_)
   refine aJ ?_
   refine aL hn 2 [0,2,3,7,4] ?_
   refine ab ?_
   obtain ⟨v2,hv2,h⟩:=zn h
   refine yx hn 1 ?_
   refine ys 1 ⟨lv hv2⟩ ?_
   refine ba [0,2,3,7,4,5] ?_
   refine ab ?_
   refine aL hn 1 [0,2,3,7,4,5,12] ?_
   refine aZ h (fun ((s157,s158):Int×Int)=>[(0,.v (.int .u32 divisor)),(2,.arr 222 (map (int .u32) ((List.replicate 16 (0:Int))))),(3,.arr 222 (map (int .u32) s91)),(7,vi s92),(4,vi s92),(5,.v (.int .u32 s157)),(12,vi s158)]) (fun (s166:Int)=>[(0,.v (.int .u32 divisor)),(2,.arr 222 (map (int .u32) ((List.replicate 16 (0:Int))))),(3,.arr 222 (map (int .u32) s91)),(7,vi s92),(4,vi s92),(5,.v (.int .u32 s166))]) ?_ ?_
   ·rintro s166 h
    refine ae ?_
    obtain ⟨v46,hv46,h⟩:=zn h
    obtain ⟨v47,hv47,h⟩:=zn h
    refine yx hn 2 ?_
    refine yS (.ptr 3 v46) 0 ⟨cz _ _ _ _ 16 3 _ underlying222 eH rfl rfl (bz hv46).1 (bz hv46).2 (by decide)⟩ ?_
    refine yk [3] [26,25] ?_
    refine yt (3,.arr 222 (map (int .u32) v47)) 0 ⟨jC _ _ _ _ _ _ eH rfl rfl rfl rfl (uT hv47) (uN (f:=int .u32) hv47)⟩ ?_
    refine ye [0,2,3,7] ?_
    refine aP (ae ?_)
    obtain ⟨v48,hv48,h⟩:=zn h
    refine yx hn 0 ?_
    refine ys 0 ⟨lb hv48⟩ ?_
    refine yw [7] 1 ?_
    refine ye [0,2,3,7] ?_
    exact bn _ (zi h).symm rfl
   ·rintro u167 hl168 hr169 ⟨s157,s158⟩ rr172 h ho170
    refine aL hn 1 [0,2,3,7,4,5,12,13] ?_
    refine ab ?_
    refine al _ rfl (fun hb173 => ?_) (fun hb173 => ?_)
    ·have h:=ar hb173 h
     refine au ?_
     refine ae (ab ?_)
     refine aC h (fun (s175:Int)=>[(0,.v (.int .u32 divisor)),(2,.arr 222 (map (int .u32) ((List.replicate 16 (0:Int))))),(3,.arr 222 (map (int .u32) s91)),(7,vi s92),(4,vi s92),(12,vi s158),(5,.v (.int .u32 s175))]) ?_ ?_
     ·rintro s175 h
      refine ae ?_
      obtain ⟨v13,hv13,h⟩:=zn h
      refine yx hn 0 ?_
      refine ys 0 ⟨lb hv13⟩ ?_
      refine yw [12] 1 ?_
      refine ye [0,2,3,7,4,5,12] ?_
      exact bn _ (zi h).symm rfl
     ·intro u176 h hl177 hr178
      refine aJ (ab ?_)
      obtain ⟨v4,hv4,h⟩:=zn h
      refine yx hn 1 ?_
      refine ys 1 ⟨lb hv4⟩ ?_
      refine ba [0,2,3,7,4,5,12,6] ?_
      refine ab ?_
      obtain ⟨v5,hv5,h⟩:=zn h
      refine yx hn 1 ?_
      refine ys 0 ⟨lB (gF hv5)⟩ ?_
      refine yw [5] 1 ?_
      refine ba [0,2,3,7,4,12,6,5] ?_
      refine aL hn 2 [0,2,3,7,4,12,5,19] ?_
      refine al _ rfl (fun hb179 => ?_) (fun hb179 => ?_)
      ·have h:=ar hb179 h
       obtain ⟨v7,hv7,h⟩:=zn h
       refine yx hn 2 ?_
       refine ys 0 ⟨lb hv7⟩ ?_
       refine yw [5] 1 ?_
       refine ye [0,2,3,7,4,12,5] ?_
       refine aP ?_
       exact hl177 _ (zi h).symm
      ·have h:=aq hb179 h
       refine au (aP ?_)
       refine ag [0,1,2,3,4,5,6] (by kernel_rfl) (es':=[(_,_),(_,_),(_,_),(_,_),(_,_),(_,_),(_,_)]) rfl ?_
       exact hl177 _ (zi h).symm
    ·have h:=aq hb173 h
     refine bl (az (az (bm ?_)))
     refine ag [0,1,2,3,4,5] (by kernel_rfl) (es':=[(_,_),(_,_),(_,_),(_,_),(_,_),(_,_)]) rfl ?_
     exact hl168 _ (ho170 _ (zi h).symm).symm
  ·have h:=aq hb140 h
   refine bl (az (az (bm ?_)))
   refine ag [1,2] (by kernel_rfl) (es':=[(_,_),(_,_)]) rfl ?_
   exact hl135 _ (ho137 _ (zi h).symm).symm
theorem wB (b:(List Int)) (width:Int) (divisor:Int) (r:Int) (h:Sh.rK b width divisor=some r):bQ Tryz.prog 182 [.fl .shr 1 (map (int .u8) b),.v (.int .i64 width),.v (.int .u32 divisor)] (.v (.int .i64 r)):=by
 unfold Sh.rK at h
 refine yO 47 func182 fun g0 hn hio => ?_
 refine aL hn 1 [0,1,2] ?_
 refine ab ?_
 obtain ⟨v1,hv1,h⟩:=zn h
 obtain ⟨v2,hv2,h⟩:=zn h
 obtain ⟨v3,hv3,h⟩:=zn h
 refine yx hn 1 ?_
 refine ys 0 ⟨lk call202 (tB _ _ hv1)⟩ ?_
 refine yS (.arr 222 (map (int .u32) ((List.replicate 16 (0:Int))))) 0 ⟨oA (bE _ zw)⟩ ?_
 refine yk [7] [13] ?_
 refine yt (7,.arr 222 (map (int .u32) v1)) 0 ⟨bH _ _ _ _ (yo.trans (congrArg some (bh hv3))) rfl rfl (cX (fun _=>rfl) _) ((bh (f:=int .u32) hv2).symm.trans (bh (f:=int .u32) hv3))⟩ ?_
 refine ba [0,1,7] ?_
 refine ab ?_
 obtain ⟨v4,hv4,h⟩:=zn h
 obtain ⟨v5,hv5,h⟩:=zn h
 refine yx hn 1 ?_
 refine ys 0 ⟨lB (jK hv4)⟩ ?_
 refine ys 1 ⟨lb hv5⟩ ?_
 refine ba [0,7,8] ?_
 refine aL hn 2 [0,7,8,9] ?_
 refine ab ?_
 refine aL hn 3 [7,8,9,18,19,20] ?_
 refine aZ h (fun ((s25,s26):Int×Int)=>[(7,.arr 222 (map (int .u32) v1)),(8,.v (.int .u32 v5)),(9,.v (.int .u32 s25)),(18,fb b),(19,vi (b.length:Int)),(20,vi s26)]) (fun (s28:Int)=>[(8,.v (.int .u32 v5)),(9,.v (.int .u32 s28))]) ?_ ?_
 ·rintro s28 h
  refine ae (ab ?_)
  obtain ⟨v36,hv36,h⟩:=zn h
  obtain ⟨v37,hv37,h⟩:=zn h
  refine yx hn 2 ?_
  refine ys 0 ⟨lb hv36⟩ ?_
  refine ys 1 ⟨lv hv37⟩ ?_
  refine ba [6] ?_
  refine ao ?_
  obtain rfl:=zi h
  exact ay hio rfl (.tmp _ _ .nil) rfl rfl
 ·rintro u29 hl30 hr31 ⟨s25,s26⟩ rr34 h ho32
  refine aL hn 1 [7,8,9,18,19,20,21] ?_
  refine ab ?_
  refine al _ rfl (fun hb35 => ?_) (fun hb35 => ?_)
  ·have h:=ar hb35 h
   refine au ?_
   refine ae (ab ?_)
   refine aJ (ab ?_)
   obtain ⟨v7,hv7,h⟩:=zn h
   obtain ⟨v8,hv8,h⟩:=zn h
   refine yx hn 0 ?_
   refine ys 0 ⟨li hv7⟩ ?_
   refine ys 1 ⟨ll hv8⟩ ?_
   refine ba [7,8,9,18,19,20,11] ?_
   refine ab ?_
   obtain ⟨v9,hv9,h⟩:=zn h
   obtain ⟨v10,hv10,h⟩:=zn h
   refine yx hn 2 ?_
   refine ys 0 ⟨lv hv9⟩ ?_
   refine ys 0 ⟨lb hv10⟩ ?_
   refine yw [9] 1 ?_
   refine ba [7,8,18,19,20,9] ?_
   refine ab ?_
   obtain ⟨v11,hv11,h⟩:=zn h
   obtain ⟨v12,hv12,h⟩:=zn h
   obtain ⟨v13,hv13,h⟩:=zn h
   obtain ⟨v14,hv14,h⟩:=zn h
   obtain ⟨v15,hv15,h⟩:=zn h
   refine yx hn 1 ?_
   refine ys 1 ⟨lB (gF hv11)⟩ ?_
   refine ys 0 ⟨lB (gC hv12)⟩ ?_
   refine yS (.ptr 7 v13) 0 ⟨cz _ _ _ _ 16 7 _ underlying222 eH rfl rfl (bz hv13).1 (bz hv13).2 (by decide)⟩ ?_
   refine yS (.v (.int .u32 v14)) 0 ⟨cx _ _ _ _ _ _ underlying106 rfl rfl rfl (cY hv14)⟩ ?_
   refine ys 0 ⟨lb hv15⟩ ?_
   refine yw [9] 1 ?_
   refine ba [7,8,18,19,20,9] ?_
   obtain ⟨v16,hv16,h⟩:=zn h
   obtain ⟨v17,hv17,h⟩:=zn h
   obtain ⟨v18,hv18,h⟩:=zn h
   obtain ⟨v19,hv19,h⟩:=zn h
   obtain ⟨v20,hv20,h⟩:=zn h
   refine yx hn 1 ?_
   refine ys 1 ⟨lB (gF hv16)⟩ ?_
   refine ys 0 ⟨lB (gC hv17)⟩ ?_
   refine yS (.ptr 7 v18) 0 ⟨cz _ _ _ _ 16 7 _ underlying222 eH rfl rfl (bz hv18).1 (bz hv18).2 (by decide)⟩ ?_
   refine yS (.v (.int .u32 v19)) 0 ⟨cx _ _ _ _ _ _ underlying106 rfl rfl rfl (cY hv19)⟩ ?_
   refine ys 0 ⟨lb hv20⟩ ?_
   refine yw [9] 1 ?_
   refine ye [7,8,18,19,20,9] ?_
   refine aP (ae ?_)
   obtain ⟨v21,hv21,h⟩:=zn h
   refine yx hn 0 ?_
   refine ys 0 ⟨lb hv21⟩ ?_
   refine yw [20] 1 ?_
   refine ye [7,8,18,19,9,20] ?_
   refine ag [0,1,4,2,3,5] (by kernel_rfl) (es':=[(_,_),(_,_),(_,_),(_,_),(_,_),(_,_)]) rfl ?_
   exact bn _ (zi h).symm rfl
  ·have h:=aq hb35 h
   refine bl (az (az (bm ?_)))
   refine ag [1,2] (by kernel_rfl) (es':=[(_,_),(_,_)]) rfl ?_
   exact hl30 _ (ho32 _ (zi h).symm).symm
theorem vh (b:(List Int)) (r:Int) (h:Sh.pT b=some r):bQ Tryz.prog 153 [.fl .shr 1 (map (int .u8) b)] (.v (.int .i64 r)):=by
 unfold Sh.pT at h
 refine yO 5 func153 fun g0 hn hio => ?_
 refine aL hn 1 [0] ?_
 refine ab ?_
 obtain ⟨v1,hv1,h⟩:=zn h
 refine yx hn 1 ?_
 refine ys 1 ⟨lk call182 (wB _ _ _ _ hv1)⟩ ?_
 refine ba [2] ?_
 refine ao ?_
 obtain rfl:=zi h
 exact ay hio rfl (.tmp _ _ .nil) rfl rfl
end Go.Proofs.YtjnnkhmhjcjhdaaGreatDoor
