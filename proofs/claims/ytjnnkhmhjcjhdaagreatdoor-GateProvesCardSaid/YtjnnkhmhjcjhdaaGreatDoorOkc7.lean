import Derived.Test.YtjnnkhmhjcjhdaaGreatDoorOkc6
set_option linter.unusedVariables false
set_option linter.unusedSimpArgs false
set_option maxHeartbeats 1000000
namespace Go.Proofs.YtjnnkhmhjcjhdaaGreatDoor
open Go.Abs Go.Abs.Sh Tryz
open List (map flatten)
open Value (int)
theorem gY (s:JH) (prefix_:JH) (r:Bool) (h:Sh.db s prefix_=some r):bQ Tryz.prog 175 [.v (.string s),.v (.string prefix_)] (.v (.bool r)):=by
 unfold Sh.db at h
 refine yO 18 func175 fun g0 hn hio => ?_
 refine aL hn 1 [0,1] ?_
 refine ab ?_
 refine aC h (fun (s2:Bool)=>[(4,vb s2)]) ?_ ?_
 ·rintro s2 h
  refine ae (ao ?_)
  obtain rfl:=zi h
  exact ay hio rfl (.tmp _ _ .nil) rfl rfl
 ·intro u3 h hl4 hr5
  refine am h (fun hg1_5 h => ?_) (fun hg1_5 h => ?_)
  ·obtain ⟨v1,hv1,h⟩:=zn h
   refine yx hn 6 ?_
   refine yd hg1_5 3 ?_
   refine yS (vs v1) 4 ⟨co _ _ _ 0 (prefix_.size:Int) _ underlying9 rfl rfl ⟨_,rfl⟩ hv1⟩ ?_
   refine ye [4] ?_
   exact hl4 _ (zi h).symm
  ·refine yx hn 6 ?_
   refine yd hg1_5 8 ?_
   refine ye [4] ?_
   exact hl4 _ (zi h).symm
theorem hH (s:JH) (prefix_:JH) (r:(JH×Bool)) (h:Sh.cZ s prefix_=some r):bQ Tryz.prog 205 [.v (.string s),.v (.string prefix_)] (.tup [.v (.string r.1),.v (.bool r.2)]):=by
 unfold Sh.cZ at h
 refine yO 15 func205 fun g0 hn hio => ?_
 refine aL hn 2 [0,1] ?_
 refine ab (ab ?_)
 obtain ⟨v1,hv1,h⟩:=zn h
 refine yx hn 2 ?_
 refine ys 1 ⟨lk call175 (gY _ _ _ hv1)⟩ ?_
 refine ba [0,1,9] ?_
 refine al _ rfl (fun hb2 => ?_) (fun hb2 => ?_)
 ·have h:=ar hb2 h
  refine aL hn 3 [4,5] ?_
  refine ao (ai ?_)
  obtain rfl:=zi h
  exact ay hio rfl (.tmp _ _ (.tmp _ _ .nil)) rfl rfl
 ·have h:=aq hb2 h
  refine au ?_
  refine ae (ab ?_)
  obtain ⟨v3,hv3,h⟩:=zn h
  refine yx hn 3 ?_
  refine yS (vs v3) 2 ⟨co _ _ _ (prefix_.size:Int) (s.size:Int) _ underlying9 rfl ⟨_,rfl⟩ rfl hv3⟩ ?_
  refine ba [4,5] ?_
  refine ao ?_
  obtain rfl:=zi h
  exact ay hio rfl (.tmp _ _ (.tmp _ _ .nil)) rfl rfl
theorem jn (s:JH) (prefix_:JH) (r:(JH×Bool)) (h:Sh.fm s prefix_=some r):bQ Tryz.prog 184 [.v (.string s),.v (.string prefix_)] (.tup [.v (.string r.1),.v (.bool r.2)]):=by
 unfold Sh.fm at h
 refine yO 11 func184 fun g0 hn hio => ?_
 refine aL hn 2 [0,1] ?_
 refine ab ?_
 obtain ⟨v1,hv1,h⟩:=zn h
 refine yx hn 2 ?_
 refine ys 4 ⟨lk call205 (hH _ _ _ hv1)⟩ ?_
 refine ba [4,5] ?_
 refine ao ?_
 obtain rfl:=zi h
 exact ay hio rfl (.tmp _ _ (.tmp _ _ .nil)) rfl rfl
theorem gX (s:JH) (suffix:JH) (r:Bool) (h:Sh.dh s suffix=some r):bQ Tryz.prog 220 [.v (.string s),.v (.string suffix)] (.v (.bool r)):=by
 unfold Sh.dh at h
 refine yO 21 func220 fun g0 hn hio => ?_
 refine aL hn 1 [0,1] ?_
 refine ab ?_
 refine aC h (fun (s3:Bool)=>[(4,vb s3)]) ?_ ?_
 ·rintro s3 h
  refine ae (ao ?_)
  obtain rfl:=zi h
  exact ay hio rfl (.tmp _ _ .nil) rfl rfl
 ·intro u4 h hl5 hr6
  refine am h (fun hg1_5 h => ?_) (fun hg1_5 h => ?_)
  ·obtain ⟨v1,hv1,h⟩:=zn h
   obtain ⟨v2,hv2,h⟩:=zn h
   refine yx hn 6 ?_
   refine yd hg1_5 5 ?_
   refine ys 0 ⟨lb hv1⟩ ?_
   refine yS (vs v2) 4 ⟨co _ _ _ v1 (s.size:Int) _ underlying9 rfl ⟨_,rfl⟩ rfl hv2⟩ ?_
   refine ye [4] ?_
   exact hl5 _ (zi h).symm
  ·refine yx hn 6 ?_
   refine yd hg1_5 11 ?_
   refine ye [4] ?_
   exact hl5 _ (zi h).symm
theorem gZ (s:JH) (suffix:JH) (r:(JH×Bool)) (h:Sh.de s suffix=some r):bQ Tryz.prog 206 [.v (.string s),.v (.string suffix)] (.tup [.v (.string r.1),.v (.bool r.2)]):=by
 unfold Sh.de at h
 refine yO 18 func206 fun g0 hn hio => ?_
 refine aL hn 2 [0,1] ?_
 refine ab (ab ?_)
 obtain ⟨v1,hv1,h⟩:=zn h
 refine yx hn 2 ?_
 refine ys 1 ⟨lk call220 (gX _ _ _ hv1)⟩ ?_
 refine ba [0,1,9] ?_
 refine al _ rfl (fun hb2 => ?_) (fun hb2 => ?_)
 ·have h:=ar hb2 h
  refine aL hn 3 [4,5] ?_
  refine ao (ai ?_)
  obtain rfl:=zi h
  exact ay hio rfl (.tmp _ _ (.tmp _ _ .nil)) rfl rfl
 ·have h:=aq hb2 h
  refine au ?_
  refine ae (ab ?_)
  obtain ⟨v3,hv3,h⟩:=zn h
  obtain ⟨v4,hv4,h⟩:=zn h
  refine yx hn 5 ?_
  refine ys 0 ⟨lb hv3⟩ ?_
  refine yS (vs v4) 2 ⟨co _ _ _ 0 v3 _ underlying9 rfl rfl ⟨_,rfl⟩ hv4⟩ ?_
  refine ba [4,5] ?_
  refine ao ?_
  obtain rfl:=zi h
  exact ay hio rfl (.tmp _ _ (.tmp _ _ .nil)) rfl rfl
theorem mA (s:JH) (suffix:JH) (r:(JH×Bool)) (h:Sh.iw s suffix=some r):bQ Tryz.prog 185 [.v (.string s),.v (.string suffix)] (.tup [.v (.string r.1),.v (.bool r.2)]):=by
 unfold Sh.iw at h
 refine yO 11 func185 fun g0 hn hio => ?_
 refine aL hn 2 [0,1] ?_
 refine ab ?_
 obtain ⟨v1,hv1,h⟩:=zn h
 refine yx hn 2 ?_
 refine ys 4 ⟨lk call206 (gZ _ _ _ hv1)⟩ ?_
 refine ba [4,5] ?_
 refine ao ?_
 obtain rfl:=zi h
 exact ay hio rfl (.tmp _ _ (.tmp _ _ .nil)) rfl rfl
theorem tq (mx:Int×Nat×Value) (s:JH) (r:(ah×Int)) (h:Sh.pd s=some r):gW Tryz.prog (GL mx) 158 [.v (.string s)] (.tup [.agg [.v (.bool r.1.Ju),.v (.string r.1.Jq),.v (.string r.1.Jf)],.v (.int .i64 r.2)]):=by
 unfold Sh.pd at h
 refine yG 50 func158 fun g0 hn hio => ?_
 refine fu hn 0 ?_
 refine yS (.box 26 [vb false,vs z0,vs z0]) 1 ⟨oA (bj _ _ rF)⟩ ?_
 refine ba [0,50,2] ?_
 refine ab ?_
 refine aL hn 2 [0,50,2,12] ?_
 refine al _ rfl (fun hb1 => ?_) (fun hb1 => ?_)
 ·have h:=ar hb1 h
  refine fu hn 0 ?_
  refine yS (.agg [vb true,vs z0,vs z0]) 2 ⟨bI _ _ _ _ [1,1,1] _ _ underlying26 rF (BA _ underlying26) (.copy _ mn.nil) rfl rfl rfl⟩ ?_
  refine ba [50,2,3] ?_
  refine ao ?_
  refine ag [1,2] (by kernel_rfl) (es':=[(_,_),(_,_)]) rfl ?_
  refine ai ?_
  obtain rfl:=zi h
  exact ay hio rfl (.cellA _ _ _ _ underlying26 rfl vE (.tmp _ _ .nil)) rfl rfl
 ·have h:=aq hb1 h
  refine au ?_
  refine ae (ab ?_)
  obtain ⟨v2,hv2,h⟩:=zn h
  refine yx hn 1 ?_
  refine ys 0 ⟨lk call184 (jn _ _ _ hv2)⟩ ?_
  refine ym 4 ?_
  refine ba [50,2,4,5] ?_
  refine ab ?_
  obtain ⟨v3,hv3,h⟩:=zn h
  refine yx hn 1 ?_
  refine ys 0 ⟨lk call185 (mA _ _ _ hv3)⟩ ?_
  refine ym 2 ?_
  refine yw [4] 2 ?_
  refine ba [50,2,5,4,6] ?_
  refine ab ?_
  obtain ⟨v4,hv4,h⟩:=zn h
  refine yx hn 1 ?_
  refine ys 0 ⟨lk call134 (iE _ _ _ hv4)⟩ ?_
  refine ym 6 ?_
  refine ba [50,2,5,6,7,8,9] ?_
  refine fu hn 2 ?_
  refine yS (.agg [vb false,vs v4.1,vs v4.2.1]) 0 ⟨bI _ _ _ _ [1,1,1] _ _ underlying26 rF (BA _ underlying26) (.copy _ (.copy _ mn.nil)) rfl rfl rfl⟩ ?_
  refine yS (.box 26 [vb false,vs z0,vs z0]) 1 ⟨oA (bj _ _ rF)⟩ ?_
  refine ba [50,2,5,6,9,10] ?_
  refine ab (ab ?_)
  refine aC h (fun (s6:Bool)=>[(50,.glob (GL mx)),(2,.box 26 [vb false,vs z0,vs z0]),(10,.box 26 [vb false,vs v4.1,vs v4.2.1]),(47,vb s6)]) ?_ ?_
  ·rintro s6 h
   refine ae ?_
   refine al _ rfl (fun hb10 => ?_) (fun hb10 => ?_)
   ·have h:=ar hb10 h
    refine fu hn 0 ?_
    refine yS (.agg [vb false,vs z0,vs z0]) 0 ⟨bI _ _ _ _ [1,1,1] _ _ underlying26 rF (BA _ underlying26) mn.nil rfl rfl rfl⟩ ?_
    refine yk [48,2] [] ?_
    refine yt (2,.box 26 [vb false,vs z0,vs z0]) 1 ⟨dk _ _ _ 48 2 3 vE rfl rfl rfl rfl rfl (.eq _ (.eq _ (.eq _ (.nil _)))) rfl⟩ ?_
    refine ba [50,2,3] ?_
    refine ao ?_
    refine ag [1,2] (by kernel_rfl) (es':=[(_,_),(_,_)]) rfl ?_
    refine ai ?_
    obtain rfl:=zi h
    exact ay hio rfl (.cellA _ _ _ _ underlying26 rfl vE (.tmp _ _ .nil)) rfl rfl
   ·have h:=aq hb10 h
    refine au (ae ?_)
    refine aL hn 3 [50,2,3] ?_
    refine ao ?_
    refine ag [1,2] (by kernel_rfl) (es':=[(_,_),(_,_)]) rfl ?_
    obtain rfl:=zi h
    exact ay hio rfl (.cellA _ _ _ _ underlying26 rfl vE (.tmp _ _ .nil)) rfl rfl
  ·intro u7 h hl8 hr9
   refine am h (fun hg7_2 h => ?_) (fun hg7_2 h => ?_)
   ·refine yx hn 3 ?_
    refine yd hg7_2 12 ?_
    refine ye [50,2,10,47] ?_
    exact hl8 _ (zi h).symm
   ·refine am h (fun hg7_6 h => ?_) (fun hg7_6 h => ?_)
    ·refine yx hn 3 ?_
     refine yd hg7_2 4 ?_
     refine yd hg7_6 8 ?_
     refine ye [50,2,10,47] ?_
     exact hl8 _ (zi h).symm
    ·refine am h (fun hg7_10 h => ?_) (fun hg7_10 h => ?_)
     ·refine yx hn 3 ?_
      refine yd hg7_2 4 ?_
      refine yd hg7_6 4 ?_
      refine yd hg7_10 4 ?_
      refine ye [50,2,10,47] ?_
      exact hl8 _ (zi h).symm
     ·obtain ⟨v5,hv5,h⟩:=zn h
      refine yx hn 3 ?_
      refine yd hg7_2 4 ?_
      refine yd hg7_6 4 ?_
      refine yd hg7_10 1 ?_
      refine ys 2 ⟨lg call162 (cH _ _ _ hv5) 50⟩ ?_
      refine ye [50,2,10,47] ?_
      exact hl8 _ (zi h).symm
theorem rb (s:JH) (r:Int×Unit) (h:Sh.strconv_Atoi s=some r):bQ Tryz.prog 139 [.v (.string s)] (.tup [.v (.int .i64 r.1),.v .nilIface]):=pV (fun s n w h1 h2=>Tryz.strconv_Atoi s n h1 h2 w) s r h
theorem qP (s:JH) (digits:Int) (r:(Int×Bool)) (h:Sh.lR s digits=some r):bQ Tryz.prog 207 [.v (.string s),.v (.int .i64 digits)] (.tup [.v (.int .i64 r.1),.v (.bool r.2)]):=by
 unfold Sh.lR at h
 refine yO 51 func207 fun g0 hn hio => ?_
 refine aL hn 2 [0,1] ?_
 refine ab (ab ?_)
 refine aC h (fun (s3:Bool)=>[(0,vs s),(26,vb s3)]) ?_ ?_
 ·rintro s3 h
  refine ae ?_
  refine al _ rfl (fun hb7 => ?_) (fun hb7 => ?_)
  ·have h:=ar hb7 h
   refine aL hn 2 [4,5] ?_
   refine ao (ai ?_)
   obtain rfl:=zi h
   exact ay hio rfl (.tmp _ _ (.tmp _ _ .nil)) rfl rfl
  ·have h:=aq hb7 h
   refine au ?_
   refine ae (ab ?_)
   refine aL hn 3 [0,28,29] ?_
   refine aZ h (fun (s24:Int)=>[(0,vs s),(28,vi (s.size:Int)),(29,vi s24)]) (fun (():Unit)=>[(0,vs s)]) ?_ ?_
   ·rintro ⟨⟩ h
    refine ae (ab ?_)
    obtain ⟨v43,hv43,h⟩:=zn h
    refine yx hn 1 ?_
    refine ys 0 ⟨lk call139 (rb _ _ hv43)⟩ ?_
    refine ym 4 ?_
    refine ba [7,8] ?_
    refine ab ?_
    refine wb [[7],[8]] ?_
    refine wN [49] ?_
    refine wS (vb true) [[48],[50]] ⟨Cp _ _ false underlying155 rfl⟩ ?_
    refine tg hn [4,5] ?_
    refine ao ?_
    obtain rfl:=zi h
    exact ay hio rfl (.tmp _ _ (.tmp _ _ .nil)) rfl rfl
   ·rintro u31 hl32 hr33 s24 rr36 h ho34
    refine aL hn 1 [0,28,29,30] ?_
    refine ab ?_
    refine al _ rfl (fun hb37 => ?_) (fun hb37 => ?_)
    ·have h:=ar hb37 h
     refine au ?_
     refine ae (ab ?_)
     refine aJ ?_
     refine aL hn 2 [0,28,29,6] ?_
     refine ab ?_
     refine aC h (fun (s38:Bool)=>[(0,vs s),(28,vi (s.size:Int)),(29,vi s24),(41,vb s38)]) ?_ ?_
     ·rintro s38 h
      refine ae ?_
      refine al _ rfl (fun hb42 => ?_) (fun hb42 => ?_)
      ·have h:=ar hb42 h
       refine aL hn 2 [4,5] ?_
       refine ao (aR (ai (ai (aR (ai ?_)))))
       have h:=hr33 _ (ho34 _ (zi h).symm).symm
       obtain rfl:=zi h
       exact ay hio rfl (.tmp _ _ (.tmp _ _ .nil)) rfl rfl
      ·have h:=aq hb42 h
       refine au (aP (ae ?_))
       obtain ⟨v16,hv16,h⟩:=zn h
       refine yx hn 0 ?_
       refine ys 0 ⟨lb hv16⟩ ?_
       refine yw [29] 1 ?_
       refine ye [0,28,29] ?_
       exact bn _ (zi h).symm rfl
     ·intro u39 h hl40 hr41
      obtain ⟨v9,hv9,h⟩:=zn h
      refine am h (fun hg6_4 h => ?_) (fun hg6_4 h => ?_)
      ·refine yx hn 2 ?_
       refine ys 2 ⟨lh hv9⟩ ?_
       refine yd hg6_4 5 ?_
       refine ye [0,28,29,41] ?_
       exact hl40 _ (zi h).symm
      ·obtain ⟨v10,hv10,h⟩:=zn h
       refine yx hn 2 ?_
       refine ys 2 ⟨lh hv9⟩ ?_
       refine yd hg6_4 2 ?_
       refine ys 2 ⟨lh hv10⟩ ?_
       refine ye [0,28,29,41] ?_
       exact hl40 _ (zi h).symm
    ·have h:=aq hb37 h
     refine bl (az (az (bm ?_)))
     refine ag [0] (by kernel_rfl) (es':=[(_,_)]) rfl ?_
     exact hl32 _ (ho34 _ (zi h).symm).symm
 ·intro u4 h hl5 hr6
  refine am h (fun hg1_2 h => ?_) (fun hg1_2 h => ?_)
  ·refine yx hn 3 ?_
   refine yd hg1_2 15 ?_
   refine ye [0,26] ?_
   exact hl5 _ (zi h).symm
  ·obtain ⟨v1,hv1,h⟩:=zn h
   refine am h (fun hg1_9 h => ?_) (fun hg1_9 h => ?_)
   ·refine yx hn 3 ?_
    refine yd hg1_2 3 ?_
    refine yS (vi v1) 3 ⟨(Option.some.inj hv1) ▸ sj _ _ _ _ rfl rfl⟩ ?_
    refine yd hg1_9 8 ?_
    refine ye [0,26] ?_
    exact hl5 _ (zi h).symm
   ·obtain ⟨v2,hv2,h⟩:=zn h
    refine am h (fun hg1_13 h => ?_) (fun hg1_13 h => ?_)
    ·refine yx hn 3 ?_
     refine yd hg1_2 3 ?_
     refine yS (vi v1) 3 ⟨(Option.some.inj hv1) ▸ sj _ _ _ _ rfl rfl⟩ ?_
     refine yd hg1_9 1 ?_
     refine ys 2 ⟨lh hv2⟩ ?_
     refine yd hg1_13 4 ?_
     refine ye [0,26] ?_
     exact hl5 _ (zi h).symm
    ·refine yx hn 3 ?_
     refine yd hg1_2 3 ?_
     refine yS (vi v1) 3 ⟨(Option.some.inj hv1) ▸ sj _ _ _ _ rfl rfl⟩ ?_
     refine yd hg1_9 1 ?_
     refine ys 2 ⟨lh hv2⟩ ?_
     refine yd hg1_13 4 ?_
     refine ye [0,26] ?_
     exact hl5 _ (zi h).symm
theorem nU (s:JH) (words:(List JH)) (r:(JH×Bool)) (h:Sh.lN s words=some r):bQ Tryz.prog 208 [.v (.string s),.fl .shr 1 (map Value.string words)] (.tup [.v (.string r.1),.v (.bool r.2)]):=by
 unfold Sh.lN at h
 refine yO 19 func208 fun g0 hn hio => ?_
 refine aL hn 2 [0,1] ?_
 refine ab ?_
 refine aL hn 3 [0,8,9,10] ?_
 refine aZ h (fun (s10:Int)=>[(0,vs s),(8,.fl .shr 1 (map Value.string words)),(9,vi (words.length:Int)),(10,vi s10)]) (fun (():Unit)=>[]) ?_ ?_
 ·rintro ⟨⟩ h
  refine ae ?_
  refine aL hn 2 [4,5] ?_
  refine ao ?_
  obtain rfl:=zi h
  exact ay hio rfl (.tmp _ _ (.tmp _ _ .nil)) rfl rfl
 ·rintro u13 hl14 hr15 s10 rr18 h ho16
  refine aL hn 1 [0,8,9,10,11] ?_
  refine ab ?_
  refine al _ rfl (fun hb19 => ?_) (fun hb19 => ?_)
  ·have h:=ar hb19 h
   refine au ?_
   refine ae (ab ?_)
   refine aJ (ab ?_)
   obtain ⟨v2,hv2,h⟩:=zn h
   obtain ⟨v3,hv3,h⟩:=zn h
   refine yx hn 0 ?_
   refine ys 0 ⟨li hv2⟩ ?_
   refine ys 1 ⟨ll hv3⟩ ?_
   refine ba [0,8,9,10,7] ?_
   refine ab ?_
   obtain ⟨v4,hv4,h⟩:=zn h
   refine yx hn 2 ?_
   refine ys 0 ⟨lk call136 (fk _ _ _ hv4)⟩ ?_
   refine ba [0,8,9,10,7,16] ?_
   refine al _ rfl (fun hb20 => ?_) (fun hb20 => ?_)
   ·have h:=ar hb20 h
    refine aL hn 3 [4,5] ?_
    refine ao (aR (ai (ai (aR (ai ?_)))))
    have h:=hr15 _ (ho16 _ (zi h).symm).symm
    obtain rfl:=zi h
    exact ay hio rfl (.tmp _ _ (.tmp _ _ .nil)) rfl rfl
   ·have h:=aq hb20 h
    refine au (aP (ae ?_))
    obtain ⟨v6,hv6,h⟩:=zn h
    refine yx hn 0 ?_
    refine ys 0 ⟨lb hv6⟩ ?_
    refine yw [10] 1 ?_
    refine ye [0,8,9,10] ?_
    exact bn _ (zi h).symm rfl
  ·have h:=aq hb19 h
   refine bl (az (az (bm ?_)))
   refine ag [] (by kernel_rfl) (es':=[]) rfl ?_
   exact hl14 _ (ho16 _ (zi h).symm).symm
theorem pN (kind:Int) (key:JH) (val:JH) (r:(aD×Bool)) (h:Sh.jJ kind key val=some r):bQ Tryz.prog 186 [.v (.int .i64 kind),.v (.string key),.v (.string val)] (.tup [.agg [.v (.string r.1.Jn),.v (.string r.1.JG)],.v (.bool r.2)]):=by
 unfold Sh.jJ at h
 refine yO 62 func186 fun g0 hn hio => ?_
 refine fu hn 0 ?_
 refine yS (.box 181 [vs z0,vs z0]) 1 ⟨oA (bj _ _ qA)⟩ ?_
 refine ba [0,1,2,6] ?_
 refine ab (aJ (ab ?_))
 refine aC h (fun (s1:Bool)=>[(0,vi kind),(1,vs key),(2,vs val),(6,.box 181 [vs z0,vs z0]),(14,vb s1)]) ?_ ?_
 ·rintro s1 h
  refine ae ?_
  refine al _ rfl (fun hb5 => ?_) (fun hb5 => ?_)
  ·have h:=ar hb5 h
   refine ab ?_
   obtain ⟨v6,hv6,h⟩:=zn h
   refine yx hn 1 ?_
   refine ys 0 ⟨lk call207 (qP _ _ _ hv6)⟩ ?_
   refine ym 4 ?_
   refine ba [2,6,9] ?_
   refine fu hn 1 ?_
   refine yS (.agg [vs (⟨#[83,73,90,69]⟩:JH),vs val]) 3 ⟨bI _ _ _ _ [1,1] _ _ underlying181 qA (yf _ underlying181) (.copy _ (.copy _ mn.nil)) rfl rfl rfl⟩ ?_
   refine ba [6,7] ?_
   refine ao (aR (ai ?_))
   obtain rfl:=zi h
   exact ay hio rfl (.cellA _ _ _ _ underlying181 rfl pS (.tmp _ _ .nil)) rfl rfl
  ·have h:=aq hb5 h
   refine ab ?_
   refine aC h (fun (s7:Bool)=>[(0,vi kind),(1,vs key),(2,vs val),(6,.box 181 [vs z0,vs z0]),(29,vb s7)]) ?_ ?_
   ·rintro s7 h
    refine ae ?_
    refine al _ rfl (fun hb11 => ?_) (fun hb11 => ?_)
    ·have h:=ar hb11 h
     refine ab ?_
     obtain ⟨v12,hv12,h⟩:=zn h
     refine yx hn 1 ?_
     refine yS (.fl (.own 9) 1 (map Value.string ([(⟨#[70,85,76,76]⟩:JH),(⟨#[72,68,82,83]⟩:JH)]))) 0 ⟨aY _ _ 1 (.string ByteArray.empty) (map Value.string ([(⟨#[70,85,76,76]⟩:JH),(⟨#[72,68,82,83]⟩:JH)])) [(0,.string (⟨#[70,85,76,76]⟩:JH)),(1,.string (⟨#[72,68,82,83]⟩:JH))] underlying49 tb GT (fun _ V w o a hv hes=>by simp only [List.map_toArray,List.map_cons,List.map_nil]; try rfl) (cd (by simp [Instr.fill,Value.cells]; rfl) (by simp [List.range,List.range.loop] <;> rfl)) (by simp [Value.oneCell']) rfl (by decide) (by decide) (by decide)⟩ ?_
     refine ys 0 ⟨lk call208 (nU _ _ _ hv12)⟩ ?_
     refine ym 4 ?_
     refine ba [6,10,11] ?_
     refine fu hn 1 ?_
     refine yS (.agg [vs (⟨#[82,69,84]⟩:JH),vs v12.1]) 3 ⟨bI _ _ _ _ [1,1] _ _ underlying181 qA (yf _ underlying181) (.copy _ (.copy _ mn.nil)) rfl rfl rfl⟩ ?_
     refine ba [6,7] ?_
     refine ao (aR (ai ?_))
     obtain rfl:=zi h
     exact ay hio rfl (.cellA _ _ _ _ underlying181 rfl pS (.tmp _ _ .nil)) rfl rfl
    ·have h:=aq hb11 h
     refine ab ?_
     refine aC h (fun (s13:Bool)=>[(2,vs val),(6,.box 181 [vs z0,vs z0]),(45,vb s13)]) ?_ ?_
     ·rintro s13 h
      refine ae ?_
      refine al _ rfl (fun hb17 => ?_) (fun hb17 => ?_)
      ·have h:=ar hb17 h
       refine ab ?_
       obtain ⟨v18,hv18,h⟩:=zn h
       refine yx hn 1 ?_
       refine yS (.fl (.own 9) 1 (map Value.string ([(⟨#[78,69,86,69,82]⟩:JH),(⟨#[70,65,73,76,85,82,69]⟩:JH)]))) 0 ⟨aY _ _ 1 (.string ByteArray.empty) (map Value.string ([(⟨#[78,69,86,69,82]⟩:JH),(⟨#[70,65,73,76,85,82,69]⟩:JH)])) [(0,.string (⟨#[78,69,86,69,82]⟩:JH)),(1,.string (⟨#[70,65,73,76,85,82,69]⟩:JH))] underlying49 tb GT (fun _ V w o a hv hes=>by simp only [List.map_toArray,List.map_cons,List.map_nil]; try rfl) (cd (by simp [Instr.fill,Value.cells]; rfl) (by simp [List.range,List.range.loop] <;> rfl)) (by simp [Value.oneCell']) rfl (by decide) (by decide) (by decide)⟩ ?_
       refine ys 0 ⟨lk call208 (nU _ _ _ hv18)⟩ ?_
       refine ym 4 ?_
       refine ba [6,12,13] ?_
       refine fu hn 1 ?_
       refine yS (.agg [vs (⟨#[78,79,84,73,70,89]⟩:JH),vs v18.1]) 3 ⟨bI _ _ _ _ [1,1] _ _ underlying181 qA (yf _ underlying181) (.copy _ (.copy _ mn.nil)) rfl rfl rfl⟩ ?_
       refine ba [6,7] ?_
       refine ao (aR (ai ?_))
       obtain rfl:=zi h
       exact ay hio rfl (.cellA _ _ _ _ underlying181 rfl pS (.tmp _ _ .nil)) rfl rfl
      ·have h:=aq hb17 h
       refine au (aP (ae ?_))
       refine fu hn 0 ?_
       refine yS (.agg [vs z0,vs z0]) 0 ⟨bI _ _ _ _ [1,1] _ _ underlying181 qA (yf _ underlying181) mn.nil rfl rfl rfl⟩ ?_
       refine yk [61,6] [] ?_
       refine yt (6,.box 181 [vs z0,vs z0]) 1 ⟨dk _ _ _ 61 6 2 pS rfl rfl rfl rfl rfl (.eq _ (.eq _ (.nil _))) rfl⟩ ?_
       refine ba [6,7] ?_
       refine ao ?_
       obtain rfl:=zi h
       exact ay hio rfl (.cellA _ _ _ _ underlying181 rfl pS (.tmp _ _ .nil)) rfl rfl
     ·intro u14 h hl15 hr16
      refine am h (fun hg7_2 h => ?_) (fun hg7_2 h => ?_)
      ·refine yx hn 3 ?_
       refine yd hg7_2 4 ?_
       refine ye [2,6,45] ?_
       exact hl15 _ (zi h).symm
      ·refine yx hn 3 ?_
       refine yd hg7_2 4 ?_
       refine ye [2,6,45] ?_
       exact hl15 _ (zi h).symm
   ·intro u8 h hl9 hr10
    refine am h (fun hg4_2 h => ?_) (fun hg4_2 h => ?_)
    ·refine yx hn 3 ?_
     refine yd hg4_2 4 ?_
     refine ye [0,1,2,6,29] ?_
     exact hl9 _ (zi h).symm
    ·refine yx hn 3 ?_
     refine yd hg4_2 4 ?_
     refine ye [0,1,2,6,29] ?_
     exact hl9 _ (zi h).symm
 ·intro u2 h hl3 hr4
  refine am h (fun hg1_2 h => ?_) (fun hg1_2 h => ?_)
  ·refine yx hn 3 ?_
   refine yd hg1_2 4 ?_
   refine ye [0,1,2,6,14] ?_
   exact hl3 _ (zi h).symm
  ·refine yx hn 3 ?_
   refine yd hg1_2 4 ?_
   refine ye [0,1,2,6,14] ?_
   exact hl3 _ (zi h).symm
theorem kE (bx:Nat) (q:aD) (cap:aD) (r:Bool) (h:Sh.fe q cap=some r):gW Tryz.prog [(bx,[.string cap.Jn,.string cap.JG])] 188 [.agg [.v (.string q.Jn),.v (.string q.JG)],.v (.pointer (some ⟨bx,0,none⟩))] (.v (.bool r)):=by
 unfold Sh.fe at h
 refine yG 9 func188 fun g0 hn hio => ?_
 refine aL hn 2 [1,9,2] ?_
 refine fu hn 2 ?_
 refine yS (.v (.pointer (some ⟨bx,0,none⟩))) 0 ⟨sG _ _ _ _ bx 0 _ underlying181 rfl tb rfl rfl⟩ ?_
 refine yS (vs cap.Jn) 2 ⟨kZ _ _ 9 bx 0 _ _ underlying9 rfl rfl rfl (.head _) rfl⟩ ?_
 refine ba [9,3] ?_
 refine ao ?_
 refine ag [1] (by kernel_rfl) (es':=[(_,_)]) rfl ?_
 obtain rfl:=zi h
 exact ay hio rfl (.tmp _ _ .nil) rfl rfl
theorem cS (bx:Nat) (s:(List aD)) (cap:aD) (r:Int) (h:Sh.bA s cap=some r):gW Tryz.prog [(bx,[.string cap.Jn,.string cap.JG])] 209 [.fl .shr 2 (flatten (map aD.enc s)),.v (.func (.func 188) #[] #[.pointer (some ⟨bx,0,none⟩)])] (.v (.int .i64 r)):=by
 unfold Sh.bA at h
 refine yG 19 func209 fun g0 hn hio => ?_
 refine aL hn 1 [0,1,19] ?_
 refine ab ?_
 refine aL hn 3 [0,1,19,7,8] ?_
 refine aZ h (fun (s10:Int)=>[(0,.fl .shr 2 (flatten (map aD.enc s))),(1,.v (.func (.func 188) #[] #[.pointer (some ⟨bx,0,none⟩)])),(19,.glob [(bx,[.string cap.Jn,.string cap.JG])]),(7,vi (s.length:Int)),(8,vi s10)]) (fun (():Unit)=>[(19,.glob [(bx,[.string cap.Jn,.string cap.JG])])]) ?_ ?_
 ·rintro ⟨⟩ h
  refine ae ?_
  refine aL hn 1 [19,4] ?_
  refine ao ?_
  refine ag [1] (by kernel_rfl) (es':=[(_,_)]) rfl ?_
  obtain rfl:=zi h
  exact ay hio rfl (.tmp _ _ .nil) rfl rfl
 ·rintro u13 hl14 hr15 s10 rr18 h ho16
  refine aL hn 1 [0,1,19,7,8,9] ?_
  refine ab ?_
  refine al _ rfl (fun hb19 => ?_) (fun hb19 => ?_)
  ·have h:=ar hb19 h
   refine au ?_
   refine ae (ab ?_)
   refine aJ ?_
   refine aL hn 2 [0,1,19,7,8,5] ?_
   refine ab ?_
   obtain ⟨v2,hv2,h⟩:=zn h
   obtain ⟨v3,hv3,h⟩:=zn h
   obtain ⟨v4,hv4,h⟩:=zn h
   refine yx hn 3 ?_
   refine ys 0 ⟨lj hv2⟩ ?_
   refine yS (.agg [vs v3.Jn,vs v3.JG]) 0 ⟨kY _ _ _ _ _ _ _ underlying181 rfl pS rfl rfl (pM aD.len hv3) rfl (by decide)⟩ ?_
   refine yS (vb v4) 0 ⟨BM _ _ 19 188 (.pointer (some ⟨bx,0,none⟩)) _ _ rfl call188 rfl rfl (fun _ h=>h) (kE bx v3 cap _ hv4) rfl rfl⟩ ?_
   refine ba [0,1,19,7,8,5,16] ?_
   refine al _ rfl (fun hb20 => ?_) (fun hb20 => ?_)
   ·have h:=ar hb20 h
    refine aL hn 2 [19,4] ?_
    refine ao ?_
    refine ag [1] (by kernel_rfl) (es':=[(_,_)]) rfl ?_
    refine aR (ai (ai (aR (ai ?_))))
    have h:=hr15 _ (ho16 _ (zi h).symm).symm
    obtain rfl:=zi h
    exact ay hio rfl (.tmp _ _ .nil) rfl rfl
   ·have h:=aq hb20 h
    refine au (aP (ae ?_))
    obtain ⟨v6,hv6,h⟩:=zn h
    refine yx hn 0 ?_
    refine ys 0 ⟨lb hv6⟩ ?_
    refine yw [8] 1 ?_
    refine ye [0,1,19,7,8] ?_
    exact bn _ (zi h).symm rfl
  ·have h:=aq hb19 h
   refine bl (az (az (bm ?_)))
   refine ag [2] (by kernel_rfl) (es':=[(_,_)]) rfl ?_
   exact hl14 _ (ho16 _ (zi h).symm).symm
theorem cF (bx:Nat) (s:(List aD)) (cap:aD) (r:Bool) (h:Sh.bq s cap=some r):gW Tryz.prog [(bx,[.string cap.Jn,.string cap.JG])] 187 [.fl .shr 2 (flatten (map aD.enc s)),.v (.func (.func 188) #[] #[.pointer (some ⟨bx,0,none⟩)])] (.v (.bool r)):=by
 unfold Sh.bq at h
 refine yG 9 func187 fun g0 hn hio => ?_
 refine aL hn 1 [0,1,9] ?_
 refine ab ?_
 obtain ⟨v1,hv1,h⟩:=zn h
 refine yx hn 2 ?_
 refine ys 2 ⟨lg call209 (cS _ _ _ _ hv1) 9⟩ ?_
 refine ba [9,4] ?_
 refine ao ?_
 refine ag [1] (by kernel_rfl) (es':=[(_,_)]) rfl ?_
 obtain rfl:=zi h
 exact ay hio rfl (.tmp _ _ .nil) rfl rfl
theorem pb (mx:Int×Nat×Value) (kind:Int) (s:JH) (r:((List aD)×Bool)) (h:Sh.ju kind s=some r):gW Tryz.prog (GL mx) 159 [.v (.int .i64 kind),.v (.string s)] (.tup [.fl .ro 2 (flatten (map aD.enc r.1)),.v (.bool r.2)]):=by
 unfold Sh.ju at h
 refine yG 53 func159 fun g0 hn hio => ?_
 refine fu hn 1 ?_
 refine yS (.box 120 [vz]) 0 ⟨oA (bj _ _ Eh)⟩ ?_
 refine yS (.box 4 [vb false]) 0 ⟨oA (bj _ _ GW)⟩ ?_
 refine ba [1,53,2,4,5] ?_
 refine fu hn 0 ?_
 refine yS (.box 120 [vz]) 0 ⟨oA (bj _ _ Eh)⟩ ?_
 refine ba [1,53,2,4,5,6] ?_
 refine ab ?_
 refine aL hn 2 [1,53,2,4,5,6,15] ?_
 refine al _ rfl (fun hb33 => ?_) (fun hb33 => ?_)
 ·have h:=ar hb33 h
  refine aL hn 3 [53,4,5] ?_
  refine ao ?_
  refine ag [1,2] (by kernel_rfl) (es':=[(_,_),(_,_)]) rfl ?_
  refine cu (fs:=[(4,.box 120 [.fl (.own 181) 2 (flatten (map aD.enc []))]),(5,.box 4 [vb true])]) (.box _ _ (af (bO 181 2) (bG)) rfl (.same _ .nil)) ?_
  refine eL 0 hio (es':=[(4,.box 120 [.fl .ro 2 (flatten (map aD.enc []))]),(5,.box 4 [.v (.bool true)])]) rfl ?_
  refine ai ?_
  obtain rfl:=zi h
  exact ay hio rfl (.cell1 _ _ _ _ underlying120 rfl (.cell1 _ _ _ _ underlying4 rfl .nil)) rfl rfl
 ·have h:=aq hb33 h
  refine au ?_
  refine ae (ab ?_)
  obtain ⟨v2,hv2,h⟩:=zn h
  refine yx hn 1 ?_
  refine ys 0 ⟨lk call184 (jn _ _ _ hv2)⟩ ?_
  refine ym 2 ?_
  refine yw [1] 2 ?_
  refine ba [53,2,4,5,6,1,7] ?_
  refine ab ?_
  refine aL hn 2 [53,2,4,5,6,1,23] ?_
  refine al _ rfl (fun hb34 => ?_) (fun hb34 => ?_)
  ·have h:=ar hb34 h
   refine aL hn 2 [53,4,5] ?_
   refine ao ?_
   refine ag [1,2] (by kernel_rfl) (es':=[(_,_),(_,_)]) rfl ?_
   refine cu (fs:=[(4,.box 120 [.fl (.own 181) 2 (flatten (map aD.enc []))]),(5,.box 4 [vb false])]) (.box _ _ (af (bO 181 2) (bG)) rfl (.same _ .nil)) ?_
   refine eL 0 hio (es':=[(4,.box 120 [.fl .ro 2 (flatten (map aD.enc []))]),(5,.box 4 [.v (.bool false)])]) rfl ?_
   refine ai ?_
   obtain rfl:=zi h
   exact ay hio rfl (.cell1 _ _ _ _ underlying120 rfl (.cell1 _ _ _ _ underlying4 rfl .nil)) rfl rfl
  ·have h:=aq hb34 h
   refine au ?_
   refine ae (ab ?_)
   refine ab ?_
   obtain ⟨v4,hv4,h⟩:=zn h
   refine yx hn 1 ?_
   refine yk [] [24] ?_
   refine yt (25,.cloB 119 [.box 9 [vs v4.1],.box 9 [vs v4.2.1],.box 3 [vi v4.2.2]]) 0 ⟨gh _ _ 80 _ _ rfl call80 rfl rfl (fU v2.1 (⟨#[32]⟩:JH) _ hv4) rfl⟩ ?_
   refine ba [53,2,4,5,6,25] ?_
   refine aJ ?_
   refine iW [5,0,1,2,3,4] (by kernel_rfl) (es':=[(25,.cloB 119 [.box 9 [vs v4.1],.box 9 [vs v4.2.1],.box 3 [vi v4.2.2]]),(53,.glob (GL mx)),(2,.box 3 [vi kind]),(4,.box 120 [vz]),(5,.box 4 [vb false]),(6,.box 120 [vz])]) rfl ?_
   refine nb (fs:=[(25,.cloB 119 [.box 9 [vs v4.1],.box 9 [vs v4.2.1],.box 3 [vi v4.2.2]]),(53,.glob (GL mx)),(2,.box 3 [vi kind]),(4,.box 120 [vz]),(5,.box 4 [vb false]),(6,.box 120 [.fl (.own 181) 2 (flatten (map aD.enc []))])]) (.same _ (.same _ (.same _ (.same _ (.same _ (.box _ _ (af (bO 181 2) (bG)) rfl .nil)))))) ?_
   refine gU h 119 25 26 54 _ [53,2,4,5,6] call119 (fun (s46:(List aD))=>[(53,.glob (GL mx)),(2,.box 3 [.v (.int .i64 kind)]),(4,.box 120 [vz]),(5,.box 4 [.v (.bool false)]),(6,.box 120 [.fl (.own 181) 2 (flatten (map aD.enc s46))])]) (fun (s52:(List aD))=>[(53,.glob (GL mx)),(2,.box 3 [.v (.int .i64 kind)]),(4,.box 120 [vz]),(5,.box 4 [.v (.bool false)]),(6,.box 120 [.fl (.own 181) 2 (flatten (map aD.enc s52))])]) (fun l J Y hY t t' h=>fa mx l J Y hY v4.1 v4.2.1 v4.2.2 t t' h) hn rfl (fun _=>rfl) (fun _=>rfl) (fun _=>rfl) rfl rfl (fun _=>⟨rfl,rfl⟩) rfl (gO 53 rfl) ?_ ?_ ?_
   ·rintro kk g0 hn hio x s46 u h
    refine qI (es':=[(26,vs x),(53,.glob (GL mx)),(2,.box 3 [vi kind]),(4,.box 120 [vz]),(5,.box 4 [vb false]),(6,.box 120 [.fl (.own 181) 2 (flatten (map aD.enc s46))]),(53,.v (kk.tm.getD 53 undef)),(2,.v (kk.tm.getD 2 undef)),(4,.v (kk.tm.getD 4 undef)),(5,.v (kk.tm.getD 5 undef)),(6,.v (kk.tm.getD 6 undef)),(54,.inv kk.ready)]) rfl ?_
    refine yy hn 1 [53,2,4,5,6,54,8,53,2,4,5,6] ?_
    refine ag [0,1,2,3,4,6,7,8,9,10,11,5] (by kernel_rfl) (es':=[(53,.glob (GL mx)),(2,.box 3 [vi kind]),(4,.box 120 [vz]),(5,.box 4 [vb false]),(6,.box 120 [.fl (.own 181) 2 (flatten (map aD.enc s46))]),(8,vs x),(53,.v (kk.tm.getD 53 undef)),(2,.v (kk.tm.getD 2 undef)),(4,.v (kk.tm.getD 4 undef)),(5,.v (kk.tm.getD 5 undef)),(6,.v (kk.tm.getD 6 undef)),(54,.inv kk.ready)]) rfl ?_
    refine jo (es:=[(53,.glob (GL mx)),(2,.box 3 [vi kind]),(4,.box 120 [vz]),(5,.box 4 [vb false]),(6,.box 120 [.fl (.own 181) 2 (flatten (map aD.enc s46))]),(8,vs x),(53,.v (kk.tm.getD 53 undef)),(2,.v (kk.tm.getD 2 undef)),(4,.v (kk.tm.getD 4 undef)),(5,.v (kk.tm.getD 5 undef)),(6,.v (kk.tm.getD 6 undef))]) 54 rfl ?_
    refine aJ (ab ?_)
    obtain ⟨v5,hv5,h⟩:=zn h
    refine yx hn 1 ?_
    refine ys 0 ⟨lk call134 (iE _ _ _ hv5)⟩ ?_
    refine ym 6 ?_
    refine ba [53,2,4,5,6,54,9,10,53,2,4,5,6] ?_
    refine ab ?_
    obtain ⟨v6,hv6,h⟩:=zn h
    obtain ⟨v7,hv7,h⟩:=zn h
    refine rv (by kernel_rfl) hn (El:=(_::_::_::_::_::_::_::_::_::_::_::_::_::(34,vi kind)::(35,vs v5.1)::(36,vs v6)::(37,vs v5.2.1)::(38,.tup [.agg [vs v7.1.Jn,vs v7.1.JG],vb v7.2])::(33,.tup [.agg [vs v7.1.Jn,vs v7.1.JG],.any])::(33,.tup [.any,vb v7.2])::(39,.agg [vs v7.1.Jn,vs v7.1.JG])::(33,.tup [.any,.any])::(40,vb v7.2)::(12,.box 181 [vs z0,vs z0])::(12,.box 181 [vs v7.1.Jn,vs v7.1.JG])::(13,vb v7.2)::[])) (init:=[0,1,2,3,4,5,6,7,8,9,10,11,12]) (fin:=[0,1,2,3,4,5,24,25,8,9,10,11,12]) (sps:=[zq [1] 13 34,zq [6] 14 35,zq [14] 15 36,zq [7] 16 37,zq [13,15,16] 17 38,⟨[],[17],[18,19],[(.slot 33)]⟩,⟨[],[18],[21,20],[(.slot 39)]⟩,zq [19] 22 40,zq [] 23 12,⟨[20],[23],[24],[.cell 12 0,.cell 12 1]⟩,zq [22] 25 13]) (es':=[(_,_),(_,_),(_,_),(_,_),(_,_),(_,_),(12,.box 181 [vs v7.1.Jn,vs v7.1.JG]),(13,vb v7.2),(_,_),(_,_),(_,_),(_,_),(_,_)]) (by kernel_rfl) rfl rfl ⟨zp rfl (oL underlying3 rfl),z1 rfl,zp rfl (uV _ _ 71 _ _ rfl call71 rfl (ed v5.1 _ hv6) rfl rfl),z1 rfl,zp rfl (uV _ _ 186 _ _ rfl call186 rfl (pN kind v6 v5.2.1 _ hv7) rfl rfl),zp rfl (aU.split (A:=[]) 33 0 _ _ _ (iF _ _ _ _ rfl) (zl rfl) rfl rfl),zp rfl (jv _ _ _ _ _ rfl (zl rfl) rfl rfl (by decide) rfl),zp rfl (oE rfl),zp rfl (bj _ _ qA),zp rfl (oS pS rfl),z2 rfl,zz⟩ ?_
    refine ae (ab ?_)
    refine ab ?_
    refine aC h (fun (s53:Bool)=>[(53,.glob (GL mx)),(2,.box 3 [vi kind]),(4,.box 120 [vz]),(5,.box 4 [vb false]),(6,.box 120 [.fl (.own 181) 2 (flatten (map aD.enc s46))]),(54,.inv kk.busy),(12,.box 181 [vs v7.1.Jn,vs v7.1.JG]),(47,vb s53),(53,.v (kk.tm.getD 53 undef)),(2,.v (kk.tm.getD 2 undef)),(4,.v (kk.tm.getD 4 undef)),(5,.v (kk.tm.getD 5 undef)),(6,.v (kk.tm.getD 6 undef))]) ?_ ?_
    ·rintro s53 h
     refine ae ?_
     refine al _ rfl (fun hb57 => ?_) (fun hb57 => ?_)
     ·have h:=ar hb57 h
      refine aL hn 2 [53,2,4,5,6,54,53,2,4,5,6] ?_
      refine ao (ai (aR ?_))
      refine ag [0,1,2,3,4,6,7,8,9,10,5] (by kernel_rfl) (es':=[(_,_),(_,_),(_,_),(_,_),(_,_),(_,_),(_,_),(_,_),(_,_),(_,_),(_,_)]) rfl ?_
      obtain rfl:=zi h
      exact pG 54 [53,2,4,5,6] _ rfl rfl (by kernel_rfl)
     ·have h:=aq hb57 h
      refine au (ae ?_)
      obtain ⟨v14,hv14,h⟩:=zn h
      refine yx hn 2 ?_
      refine yS (.fl (.own 181) 2 (flatten (map aD.enc [v7.1]))) 0 ⟨aY _ _ 2 (.agg #[.string ByteArray.empty,.string ByteArray.empty]) (flatten (map aD.enc [v7.1])) [(0,.agg #[.string v7.1.Jn,.string v7.1.JG])] underlying120 pS qA (fun _ V w o a hv hes=>by have e0:=Ej (ys:=[.string v7.1.Jn,.string v7.1.JG]) hv hes (x := .tmp 49) rfl; simp only [List.map_toArray,List.map_cons,List.map_nil,e0]; try rfl) (cd (by simp [Instr.fill,Value.cells]; rfl) (by simp [List.range,List.range.loop,aD.enc] <;> rfl)) (by simp [Value.oneCell',aD.enc]) rfl (by decide) (by decide) (by decide)⟩ ?_
      refine yk [6] [48,50] ?_
      refine mo (6,.box 120 [.any]) (51,.fl (.own 181) 2 (flatten (map aD.enc v14))) 0 ⟨gR _ _ _ _ _ _ GA rfl rfl (zl rfl) rfl (jH aD.len _) (jH aD.len _) hv14 (wq (ib hv14)) (Nat.ne_of_beq_eq_false rfl) rfl rfl⟩ ?_
      refine yw [48] 0 ?_
      refine yk [51,6] [] ?_
      refine yt (6,.box 120 [.fl (.own 181) 2 (flatten (map aD.enc v14))]) 0 ⟨aV _ _ _ _ _ _ _ _ Gn rfl rfl rfl (zl rfl) rfl rfl⟩ ?_
      refine ye [53,2,4,5,6,54,53,2,4,5,6] ?_
      refine aP ?_
      refine ag [0,1,2,3,4,6,7,8,9,10,5] (by kernel_rfl) (es':=[(_,_),(_,_),(_,_),(_,_),(_,_),(_,_),(_,_),(_,_),(_,_),(_,_),(_,_)]) rfl ?_
      obtain rfl:=zi h
      exact jj 54 [53,2,4,5,6] _ rfl rfl (by kernel_rfl)
    ·intro u54 h hl55 hr56
     refine am h (fun hg11_2 h => ?_) (fun hg11_2 h => ?_)
     ·refine yx hn 3 ?_
      refine yd hg11_2 4 ?_
      refine ye [53,2,4,5,6,54,12,47,53,2,4,5,6] ?_
      exact hl55 _ (zi h).symm
     ·obtain ⟨v8,hv8,h⟩:=zn h
      refine yx hn 3 ?_
      refine yd hg11_2 1 ?_
      refine yS (.clo 188 [12]) 0 ⟨kP _ _ _ 12 (by decide)⟩ ?_
      refine yS (vb v8) 1 ⟨BR _ 46 12 45 187 188 [.string v7.1.Jn,.string v7.1.JG] [.tmp 44] _ _ rfl call187 rfl rfl rfl rfl (fun bx=>cF bx s46 v7.1 _ hv8) rfl rfl⟩ ?_
      refine ye [53,2,4,5,6,54,12,47,53,2,4,5,6] ?_
      exact hl55 _ (zi h).symm
   ·rintro D s46 h
    refine aP ?_
    refine ae (ab ?_)
    refine uL 4 hio (es':=[(53,.glob (GL mx)),(2,.box 3 [.v (.int .i64 kind)]),(4,.box 120 [vz]),(5,.box 4 [.v (.bool false)]),(6,.box 120 [.fl .ro 2 (flatten (map aD.enc s46))])]) rfl ?_
    refine yy hn 3 [53,4,5] ?_
    refine ae (ao ?_)
    refine ag [1,2] (by kernel_rfl) (es':=[(_,_),(_,_)]) rfl ?_
    obtain rfl:=zi h
    exact ay hio rfl (.cell1 _ _ _ _ underlying120 rfl (.cell1 _ _ _ _ underlying4 rfl .nil)) rfl rfl
   ·rintro D s52 h
    refine ag [2,3] (by kernel_rfl) (es':=[(_,_),(_,_)]) rfl ?_
    refine cu (fs:=[(4,.box 120 [.fl (.own 181) 2 (flatten (map aD.enc []))]),(5,.box 4 [vb false])]) (.box _ _ (af (bO 181 2) (bG)) rfl (.same _ .nil)) ?_
    refine eL 0 hio (es':=[(4,.box 120 [.fl .ro 2 (flatten (map aD.enc []))]),(5,.box 4 [.v (.bool false)])]) rfl ?_
    refine aR (ai ?_)
    obtain rfl:=zi h
    exact ay hio rfl (.cell1 _ _ _ _ underlying120 rfl (.cell1 _ _ _ _ underlying4 rfl .nil)) rfl rfl
theorem nL (mx:Int×Nat×Value) (kind:Int) (line:JH) (r:(br×Bool)) (h:Sh.iM kind line=some r):gW Tryz.prog (GL mx) 137 [.v (.int .i64 kind),.v (.string line)] (.tup [.agg [.v (.int .i64 r.1.Jo),.v (.string r.1.JE),.v (.bool r.1.Jy.Ju),.v (.string r.1.Jy.Jq),.v (.string r.1.Jy.Jf),.fl .ro 2 (flatten (map aD.enc r.1.Jx))],.v (.bool r.2)]):=by
 unfold Sh.iM at h
 refine yG 56 func137 fun g0 hn hio => ?_
 refine fu hn 0 ?_
 refine yS (.box 122 [vi 0,vs z0,vb false,vs z0,vs z0,vz]) 1 ⟨oA (bj _ _ kO)⟩ ?_
 refine ba [0,1,56,4] ?_
 refine ab ?_
 obtain ⟨v1,hv1,h⟩:=zn h
 obtain ⟨v2,hv2,h⟩:=zn h
 refine yx hn 2 ?_
 refine ys 0 ⟨lk call157 (qY _ _ hv1)⟩ ?_
 refine ys 0 ⟨lk call135 (mc _ _ _ hv2)⟩ ?_
 refine ym 4 ?_
 refine ba [0,56,4,6,7] ?_
 refine ab ?_
 refine aL hn 2 [0,56,4,6,20] ?_
 refine al _ rfl (fun hb15 => ?_) (fun hb15 => ?_)
 ·have h:=ar hb15 h
  refine fu hn 0 ?_
  refine yS (.agg [vi 0,vs z0,vb false,vs z0,vs z0,vz]) 0 ⟨bI _ _ _ _ [1,1,3,1] _ _ underlying122 kO (sE _ underlying122) mn.nil rfl rfl rfl⟩ ?_
  refine yk [21,4] [] ?_
  refine yt (4,.box 122 [vi 0,vs z0,vb false,vs z0,vs z0,vz]) 1 ⟨dk _ _ _ 21 4 6 fH rfl rfl rfl rfl rfl (.eq _ (.eq _ (.eq _ (.eq _ (.eq _ (.eq _ (.nil _))))))) rfl⟩ ?_
  refine ba [56,4,5] ?_
  refine ao ?_
  refine ag [1,2] (by kernel_rfl) (es':=[(_,_),(_,_)]) rfl ?_
  refine cu (fs:=[(4,.box 122 [vi 0,vs z0,vb false,vs z0,vs z0,.fl (.own 181) 2 (flatten (map aD.enc []))]),(5,vb false)]) (.box _ _ (af (aj _) (af (aj _) (af (aj _) (af (aj _) (af (aj _) (af (bO 181 2) (bG))))))) rfl (.same _ .nil)) ?_
  refine eL 0 hio (es':=[(4,.box 122 [.v (.int .i64 0),.v (.string (⟨#[]⟩:JH)),.v (.bool false),.v (.string (⟨#[]⟩:JH)),.v (.string (⟨#[]⟩:JH)),.fl .ro 2 (flatten (map aD.enc []))]),(5,.v (.bool false))]) rfl ?_
  refine ai ?_
  obtain rfl:=zi h
  exact ay hio rfl (.cellA _ _ _ _ underlying122 rfl fH (.tmp _ _ .nil)) rfl rfl
 ·have h:=aq hb15 h
  refine au ?_
  refine ae (ab ?_)
  obtain ⟨v4,hv4,h⟩:=zn h
  obtain ⟨v5,hv5,h⟩:=zn h
  refine yx hn 1 ?_
  refine ys 0 ⟨lk call121 (kT _ _ _ hv4)⟩ ?_
  refine ys 1 ⟨lb hv5⟩ ?_
  refine ba [0,56,4,6,8] ?_
  refine ab ?_
  obtain ⟨v6,hv6,h⟩:=zn h
  obtain ⟨v7,hv7,h⟩:=zn h
  refine yx hn 2 ?_
  refine yS (vs v6) 0 ⟨co _ _ _ 0 v5 _ underlying9 rfl rfl ⟨_,rfl⟩ hv6⟩ ?_
  refine ys 0 ⟨lg call158 (tq _ _ _ hv7) 56⟩ ?_
  refine ym 0 ?_
  refine yS (.agg [vb v7.1.Ju,vs v7.1.Jq,vs v7.1.Jf]) 1 ⟨et _ _ _ _ _ _ rfl rfl (zl rfl) rfl rfl⟩ ?_
  refine yS (.box 26 [vb false,vs z0,vs z0]) 2 ⟨oA (bj _ _ rF)⟩ ?_
  refine ba [0,56,4,6,8,9,10] ?_
  refine ab (ab ?_)
  refine aC h (fun (s16:Bool)=>[(0,vi kind),(56,.glob (GL mx)),(4,.box 122 [vi 0,vs z0,vb false,vs z0,vs z0,vz]),(6,vs v2.1),(8,vi v5),(9,.box 26 [vb v7.1.Ju,vs v7.1.Jq,vs v7.1.Jf]),(41,vb s16)]) ?_ ?_
  ·rintro s16 h
   refine ae ?_
   refine al _ rfl (fun hb20 => ?_) (fun hb20 => ?_)
   ·have h:=ar hb20 h
    refine fu hn 0 ?_
    refine yS (.agg [vi 0,vs z0,vb false,vs z0,vs z0,vz]) 0 ⟨bI _ _ _ _ [1,1,3,1] _ _ underlying122 kO (sE _ underlying122) mn.nil rfl rfl rfl⟩ ?_
    refine yk [42,4] [] ?_
    refine yt (4,.box 122 [vi 0,vs z0,vb false,vs z0,vs z0,vz]) 1 ⟨dk _ _ _ 42 4 6 fH rfl rfl rfl rfl rfl (.eq _ (.eq _ (.eq _ (.eq _ (.eq _ (.eq _ (.nil _))))))) rfl⟩ ?_
    refine ba [56,4,5] ?_
    refine ao ?_
    refine ag [1,2] (by kernel_rfl) (es':=[(_,_),(_,_)]) rfl ?_
    refine cu (fs:=[(4,.box 122 [vi 0,vs z0,vb false,vs z0,vs z0,.fl (.own 181) 2 (flatten (map aD.enc []))]),(5,vb false)]) (.box _ _ (af (aj _) (af (aj _) (af (aj _) (af (aj _) (af (aj _) (af (bO 181 2) (bG))))))) rfl (.same _ .nil)) ?_
    refine eL 0 hio (es':=[(4,.box 122 [.v (.int .i64 0),.v (.string (⟨#[]⟩:JH)),.v (.bool false),.v (.string (⟨#[]⟩:JH)),.v (.string (⟨#[]⟩:JH)),.fl .ro 2 (flatten (map aD.enc []))]),(5,.v (.bool false))]) rfl ?_
    refine ai ?_
    obtain rfl:=zi h
    exact ay hio rfl (.cellA _ _ _ _ underlying122 rfl fH (.tmp _ _ .nil)) rfl rfl
   ·have h:=aq hb20 h
    refine au ?_
    refine ae (ab ?_)
    obtain ⟨v13,hv13,h⟩:=zn h
    obtain ⟨v14,hv14,h⟩:=zn h
    refine yx hn 3 ?_
    refine yS (vs v13) 0 ⟨co _ _ _ v5 (v2.1.size:Int) _ underlying9 rfl ⟨_,rfl⟩ rfl hv13⟩ ?_
    refine ys 0 ⟨lg call159 (pb _ _ _ _ hv14) 56⟩ ?_
    refine ym 4 ?_
    refine ba [0,56,4,9,11,7] ?_
    refine fu hn 3 ?_
    refine yS (.agg [vi kind,vs z0,vb v7.1.Ju,vs v7.1.Jq,vs v7.1.Jf,.fl .ro 2 (flatten (map aD.enc v14.1))]) 3 ⟨bI _ _ _ _ [1,1,3,1] _ _ underlying122 kO (sE _ underlying122) (.copy _ (.copy _ (.copy _ mn.nil))) rfl rfl rfl⟩ ?_
    refine ba [56,4,5] ?_
    refine ao ?_
    refine ag [1,2] (by kernel_rfl) (es':=[(_,_),(_,_)]) rfl ?_
    obtain rfl:=zi h
    exact ay hio rfl (.cellA _ _ _ _ underlying122 rfl fH (.tmp _ _ .nil)) rfl rfl
  ·intro u17 h hl18 hr19
   refine am h (fun hg6_2 h => ?_) (fun hg6_2 h => ?_)
   ·refine yx hn 3 ?_
    refine yd hg6_2 7 ?_
    refine ye [0,56,4,6,8,9,41] ?_
    exact hl18 _ (zi h).symm
   ·refine am h (fun hg6_5 h => ?_) (fun hg6_5 h => ?_)
    ·refine yx hn 3 ?_
     refine yd hg6_2 3 ?_
     refine yd hg6_5 4 ?_
     refine ye [0,56,4,6,8,9,41] ?_
     exact hl18 _ (zi h).symm
    ·refine yx hn 3 ?_
     refine yd hg6_2 3 ?_
     refine yd hg6_5 4 ?_
     refine ye [0,56,4,6,8,9,41] ?_
     exact hl18 _ (zi h).symm
end Go.Proofs.YtjnnkhmhjcjhdaaGreatDoor
