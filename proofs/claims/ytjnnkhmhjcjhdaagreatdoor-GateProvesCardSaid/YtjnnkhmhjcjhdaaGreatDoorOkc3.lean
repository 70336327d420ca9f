import Derived.Test.YtjnnkhmhjcjhdaaGreatDoorOkc2
set_option linter.unusedVariables false
set_option linter.unusedSimpArgs false
set_option maxHeartbeats 1000000
namespace Go.Proofs.YtjnnkhmhjcjhdaaGreatDoor
open Go.Abs Go.Abs.Sh Tryz
open List (map flatten)
open Value (int)
theorem oX (l:(List Int)) (r:(List Int)) (h:Sh.gq l=some r):bQ Tryz.prog 60 [.fl .shr 1 (map (int .u8) l)] (.fl (.own 5) 1 (map (int .u8) r)):=by
 unfold Sh.gq at h
 refine yO 5 func60 fun g0 hn hio => ?_
 refine aL hn 1 [0] ?_
 refine ab ?_
 obtain ⟨v1,hv1,h⟩:=zn h
 refine yx hn 1 ?_
 refine yS (.fl (.own 5) 1 (map (int .u8) v1)) 0 ⟨lY _ _ _ _ fQ rfl rfl (dQ _) hv1 (congrArg (map _) (lV hv1))⟩ ?_
 refine ya 0 ?_
 refine ba [2] ?_
 refine ao ?_
 obtain rfl:=zi h
 exact ay hio rfl (.tmp _ _ .nil) rfl rfl
theorem nP (g:aI) (r:aI) (h:Sh.iT g=some r):bQ Tryz.prog 37 [.agg [.v (.int .i64 g.Jz),.v (.string g.Jm),.v (.bool g.Ji.Ju),.v (.string g.Ji.Jq),.v (.string g.Ji.Jf),.fl .shr 3 (flatten (map ah.enc g.To)),.v (.bool g.JB),.fl .shr 1 (map (int .u8) g.Jc),.v (.string g.Jd),.v (.bool g.JA)]] (.agg [.v (.int .i64 r.Jz),.v (.string r.Jm),.v (.bool r.Ji.Ju),.v (.string r.Ji.Jq),.v (.string r.Ji.Jf),.fl (.own 26) 3 (flatten (map ah.enc r.To)),.v (.bool r.JB),.fl (.own 5) 1 (map (int .u8) r.Jc),.v (.string r.Jd),.v (.bool r.JA)]):=by
 unfold Sh.iT at h
 refine yO 12 func37 fun g0 hn hio => ?_
 refine fu hn 1 ?_
 refine yS (.box 30 [vi 0,vs z0,vb false,vs z0,vs z0,vz,vb false,vz,vs z0,vb false]) 0 ⟨oA (bj _ _ uK)⟩ ?_
 refine ba [1,2] ?_
 refine ab ?_
 obtain ⟨v1,hv1,h⟩:=zn h
 refine yx hn 2 ?_
 refine ys 1 ⟨lk call59 (ir _ _ hv1)⟩ ?_
 refine yk [5,1] [6] ?_
 refine yt (1,.box 30 [vi g.Jz,vs g.Jm,vb g.Ji.Ju,vs g.Ji.Jq,vs g.Ji.Jf,.fl (.own 26) 3 (flatten (map ah.enc v1)),vb g.JB,fb g.Jc,vs g.Jd,vb g.JA]) 0 ⟨aV _ _ _ _ _ _ _ _ Gt rfl rfl rfl (zl rfl) rfl rfl⟩ ?_
 refine ba [1,2] ?_
 refine ab ?_
 obtain ⟨v2,hv2,h⟩:=zn h
 refine yx hn 2 ?_
 refine ys 1 ⟨lk call60 (oX _ _ hv2)⟩ ?_
 refine yk [9,1] [10] ?_
 refine yt (1,.box 30 [vi g.Jz,vs g.Jm,vb g.Ji.Ju,vs g.Ji.Jq,vs g.Ji.Jf,.fl (.own 26) 3 (flatten (map ah.enc v1)),vb g.JB,.fl (.own 5) 1 (map (int .u8) v2),vs g.Jd,vb g.JA]) 0 ⟨aV _ _ _ _ _ _ _ _ kG rfl rfl rfl (zl rfl) rfl rfl⟩ ?_
 refine ba [1,2] ?_
 refine fu hn 0 ?_
 refine yk [1] [] ?_
 refine yt (11,.agg [vi g.Jz,vs g.Jm,vb g.Ji.Ju,vs g.Ji.Jq,vs g.Ji.Jf,.fl (.own 26) 3 (flatten (map ah.enc v1)),vb g.JB,.fl (.own 5) 1 (map (int .u8) v2),vs g.Jd,vb g.JA]) 0 ⟨nQ _ _ _ _ underlying30 rfl rV rfl rfl⟩ ?_
 refine yk [11,2] [] ?_
 refine yt (2,.box 30 [vi g.Jz,vs g.Jm,vb g.Ji.Ju,vs g.Ji.Jq,vs g.Ji.Jf,.fl (.own 26) 3 (flatten (map ah.enc v1)),vb g.JB,.fl (.own 5) 1 (map (int .u8) v2),vs g.Jd,vb g.JA]) 0 ⟨aV _ _ _ _ _ _ _ _ rV rfl rfl rfl (zl rfl) rfl rfl⟩ ?_
 refine ba [2] ?_
 refine ao ?_
 obtain rfl:=zi h
 exact ay hio rfl (.cellA _ _ _ _ underlying30 rfl rV .nil) rfl rfl
theorem nc (a:(List Int)) (b:(List Int)) (r:Bool) (h:Sh.ku a b=some r):bQ Tryz.prog 72 [.fl .shr 1 (map (int .u8) a),.fl .shr 1 (map (int .u8) b)] (.v (.bool r)):=by
 unfold Sh.ku at h
 refine yO 10 func72 fun g0 hn hio => ?_
 refine aL hn 1 [0,1] ?_
 refine ab ?_
 obtain ⟨v1,hv1,h⟩:=zn h
 obtain ⟨v2,hv2,h⟩:=zn h
 refine yx hn 1 ?_
 refine ys 1 ⟨lS hv1⟩ ?_
 refine ys 2 ⟨lS hv2⟩ ?_
 refine ba [4] ?_
 refine ao ?_
 obtain rfl:=zi h
 exact ay hio rfl (.tmp _ _ .nil) rfl rfl
theorem oz (s:(List Int)) (suffix:(List Int)) (r:Bool) (h:Sh.jz s suffix=some r):bQ Tryz.prog 61 [.fl .shr 1 (map (int .u8) s),.fl .shr 1 (map (int .u8) suffix)] (.v (.bool r)):=by
 unfold Sh.jz at h
 refine yO 21 func61 fun g0 hn hio => ?_
 refine aL hn 1 [0,1] ?_
 refine ab ?_
 refine aC h (fun (s4:Bool)=>[(4,vb s4)]) ?_ ?_
 ·rintro s4 h
  refine ae (ao ?_)
  obtain rfl:=zi h
  exact ay hio rfl (.tmp _ _ .nil) rfl rfl
 ·intro u5 h hl6 hr7
  refine am h (fun hg1_5 h => ?_) (fun hg1_5 h => ?_)
  ·obtain ⟨v1,hv1,h⟩:=zn h
   obtain ⟨v2,hv2,h⟩:=zn h
   obtain ⟨v3,hv3,h⟩:=zn h
   refine yx hn 6 ?_
   refine yd hg1_5 5 ?_
   refine ys 0 ⟨lb hv1⟩ ?_
   refine yS (fb v2) 1 ⟨nq _ _ _ v1 (s.length:Int) _ underlying28 jx rfl rfl ⟨_,rfl⟩ rfl hv2⟩ ?_
   refine ys 2 ⟨lk call72 (nc _ _ _ hv3)⟩ ?_
   refine ye [4] ?_
   exact hl6 _ (zi h).symm
  ·refine yx hn 6 ?_
   refine yd hg1_5 11 ?_
   refine ye [4] ?_
   exact hl6 _ (zi h).symm
theorem kx (s:aa) (x:Int) (r:(Bool×aa)) (h:Sh.cn s x=some r):oa Tryz.prog 38 [.box 80 (aa.b s),.v (.int .u8 x)] [.box 80 (aa.b r.2)] (.v (.bool r.1)):=by
 unfold Sh.cn at h
 refine yP 39 func38 fun args0 hargs0 g0 hn hio => ?_
 refine aL hn 1 [0,1,0] ?_
 refine ab ?_
 refine aL hn 6 [0,1,10,0] ?_
 refine al _ rfl (fun hb1 => ?_) (fun hb1 => ?_)
 ·have h:=ar hb1 h
  refine ab ?_
  refine aC h (fun (s4:Bool)=>[(0,.box 80 (aa.b s)),(4,vb s4),(0,.v (List.getD args0 0 undef))]) ?_ ?_
  ·rintro s4 h
   refine ae (ao ?_)
   refine ag [1,0,2] (by kernel_rfl) (es':=[(_,_),(_,_),(_,_)]) rfl ?_
   refine ai ?_
   obtain rfl:=zi h
   exact bJ (es:=[(4,.v (.bool s4))]) (posts:=[.box 80 (aa.b s)]) hio rfl rfl (.tmp _ _ .nil) rfl rfl hargs0 rfl
  ·intro u5 h hl6 hr7
   obtain ⟨v2,hv2,h⟩:=zn h
   refine am h (fun hg2_7 h => ?_) (fun hg2_7 h => ?_)
   ·refine yx hn 5 ?_
    refine ys 2 ⟨lM hv2⟩ ?_
    refine yd hg2_7 10 ?_
    refine ye [0,4,0] ?_
    exact hl6 _ (zi h).symm
   ·obtain ⟨v3,hv3,h⟩:=zn h
    refine yx hn 5 ?_
    refine ys 2 ⟨lM hv2⟩ ?_
    refine yd hg2_7 5 ?_
    refine yS (.fl (.own 5) 1 (map (int .u8) [13,10,46,13,10])) 0 ⟨aY _ _ 1 (.int .u8 0) (map (int .u8) [13,10,46,13,10]) [(0,.int .u8 13),(1,.int .u8 10),(2,.int .u8 46),(3,.int .u8 13),(4,.int .u8 10)] underlying28 jx qD (fun _ V w o a hv hes=>by simp only [List.map_toArray,List.map_cons,List.map_nil]; try rfl) (cd (by simp [Instr.fill,Value.cells]; rfl) (by simp [List.range,List.range.loop] <;> rfl)) (by simp [Value.oneCell']) rfl (by decide) (by decide) (by decide)⟩ ?_
    refine yk [24] [] ?_
    refine yt (25,.fl .ro 1 (map (int .u8) [13,10,46,13,10])) 0 ⟨fP _ _ _ underlying28 underlying5 (by intro h; cases h)⟩ ?_
    refine ys 2 ⟨lk call61 (oz _ _ _ hv3)⟩ ?_
    refine ye [0,4,0] ?_
    exact hl6 _ (zi h).symm
 ·have h:=aq hb1 h
  refine au ?_
  refine ae (ab ?_)
  refine aC h (fun (s8:Bool)=>[(0,.box 80 (aa.b s)),(4,vb s8),(0,.v (List.getD args0 0 undef))]) ?_ ?_
  ·rintro s8 h
   refine ae (ao ?_)
   refine ag [1,0,2] (by kernel_rfl) (es':=[(_,_),(_,_),(_,_)]) rfl ?_
   obtain rfl:=zi h
   exact bJ (es:=[(4,.v (.bool s8))]) (posts:=[.box 80 (aa.b s)]) hio rfl rfl (.tmp _ _ .nil) rfl rfl hargs0 rfl
  ·intro u9 h hl10 hr11
   refine am h (fun hg3_2 h => ?_) (fun hg3_2 h => ?_)
   ·refine yx hn 3 ?_
    refine yd hg3_2 9 ?_
    refine ye [0,4,0] ?_
    exact hl10 _ (zi h).symm
   ·refine yx hn 3 ?_
    refine yd hg3_2 5 ?_
    refine yS (vi (s.Jj.Jc.length:Int)) 3 ⟨nw _ _ _ underlying28 rfl (List.length_map _)⟩ ?_
    refine ye [0,4,0] ?_
    exact hl10 _ (zi h).symm
theorem gg (b:(List Int)) (r:(List Int)) (h:Sh.gB b=some r):bQ Tryz.prog 96 [.fl .shr 1 (map (int .u8) b)] (.cloB 123 [.box 28 [.fl .shr 1 (map (int .u8) r)]]):=by
 unfold Sh.gB at h
 refine yO 4 func96 fun g0 hn hio => ?_
 refine aL hn 2 [1] ?_
 refine fu hn 0 ?_
 refine yk [1] [] ?_
 refine yt (3,.cloB 123 [.box 28 [fb b]]) 0 ⟨wh _ _ [1] [.box 28 [fb b]] rfl rfl rfl⟩ ?_
 refine ya 0 ?_
 refine ba [2] ?_
 refine ao ?_
 obtain rfl:=zi h
 exact ay hio rfl (.tmp _ _ .nil) rfl rfl
theorem sM (mx:Int×Nat×Value) (s sep:List Int) (r:Int) (h:Sh.kj s sep=some r):gW Tryz.prog (GL mx) 89 [.fl .shr 1 (map (int .u8) s),.fl .shr 1 (map (int .u8) sep)] (.v (.int .i64 r)) :=
 rh (uU mx) Tryz.bytes_Index_at Tryz.bytes_Index_longer s sep r h
theorem ra (mx:Int×Nat×Value) (s:(List Int)) (sep:(List Int)) (r:((List Int)×(List Int)×Bool)) (h:Sh.ld s sep=some r):gW Tryz.prog (GL mx) 74 [.fl .shr 1 (map (int .u8) s),.fl .shr 1 (map (int .u8) sep)] (.tup [.fl .shr 1 (map (int .u8) r.1),.fl .shr 1 (map (int .u8) r.2.1),.v (.bool r.2.2)]):=by
 unfold Sh.ld at h
 refine yG 23 func74 fun g0 hn hio => ?_
 refine aL hn 3 [0,1,23] ?_
 refine ab (ab ?_)
 obtain ⟨v1,hv1,h⟩:=zn h
 refine yx hn 2 ?_
 refine ys 1 ⟨lg call89 (sM _ _ _ _ hv1) 23⟩ ?_
 refine ba [0,1,23,7] ?_
 refine aL hn 2 [0,1,23,7,12] ?_
 refine al _ rfl (fun hb2 => ?_) (fun hb2 => ?_)
 ·have h:=ar hb2 h
  refine ab ?_
  obtain ⟨v3,hv3,h⟩:=zn h
  obtain ⟨v4,hv4,h⟩:=zn h
  obtain ⟨v5,hv5,h⟩:=zn h
  refine wb [[0],[7]] ?_
  refine wN [13,14] ?_
  refine wS (fb v3) [[0],[7],[1],[18]] ⟨nq _ _ _ 0 v1 _ underlying28 jx rfl rfl rfl ⟨_,rfl⟩ hv3⟩ ?_
  refine wN [17,19] ?_
  refine wo [] ⟨lb hv4⟩ ?_
  refine wN [16,20] ?_
  refine wS (fb v5) [[15],[21],[]] ⟨nq _ _ _ v4 (s.length:Int) _ underlying28 jx rfl rfl ⟨_,rfl⟩ rfl hv5⟩ ?_
  refine tg hn [23,4,5,6] ?_
  refine ao ?_
  refine ag [1,2,3] (by kernel_rfl) (es':=[(_,_),(_,_),(_,_)]) rfl ?_
  refine ai ?_
  obtain rfl:=zi h
  exact ay hio rfl (.tmp _ _ (.tmp _ _ (.tmp _ _ .nil))) rfl rfl
 ·have h:=aq hb2 h
  refine au (ae ?_)
  refine aL hn 4 [23,4,5,6] ?_
  refine ao ?_
  refine ag [1,2,3] (by kernel_rfl) (es':=[(_,_),(_,_),(_,_)]) rfl ?_
  refine cu (fs:=[(4,fb s),(5,fb []),(6,vb false)]) (.same _ (.sub _ (wg 1) rfl (.same _ .nil))) ?_
  obtain rfl:=zi h
  exact ay hio rfl (.tmp _ _ (.tmp _ _ (.tmp _ _ .nil))) rfl rfl
theorem eW (mx:Int×Nat×Value) (l:Nat) {S:Type} (J:S→kI) (Y:(List Int)→S→Option (S×Bool)) (hY:pt Tryz.prog l (fun x => .fl .shr 1 (map (int .u8) x)) Y J) (c0:(List Int)) (st r:S) (h:Sh.eQ Y c0 st=some r):Gg Tryz.prog (GL mx) 123 l [.box 28 [.fl .shr 1 (map (int .u8) c0)]] (J st) (J r):=by
 unfold Sh.eQ at h
 refine yI 23 func123 fun g0 hn hio => ?_
 refine aZ h (fun ((s17,s18):(List Int)×S)=>[(0,.v (.func (.yield l) #[] #[])),(1,.box 28 [fb s17]),(23,.glob (GL mx)),(24,.inv (J s18))]) (fun (():Unit)=>[]) ?_ ?_
 ·rintro ⟨⟩ h
  cases h
 ·rintro u25 hl26 hr27 ⟨s17,s18⟩ rr30 h ho28
  refine aJ (ab ?_)
  obtain ⟨v1,hv1,h⟩:=zn h
  refine yx hn 1 ?_
  refine yS (.fl (.own 5) 1 (map (int .u8) [13,10])) 0 ⟨aY _ _ 1 (.int .u8 0) (map (int .u8) [13,10]) [(0,.int .u8 13),(1,.int .u8 10)] underlying28 jx qD (fun _ V w o a hv hes=>by simp only [List.map_toArray,List.map_cons,List.map_nil]; try rfl) (cd (by simp [Instr.fill,Value.cells]; rfl) (by simp [List.range,List.range.loop] <;> rfl)) (by simp [Value.oneCell']) rfl (by decide) (by decide) (by decide)⟩ ?_
  refine yk [8] [] ?_
  refine yt (9,.fl .ro 1 (map (int .u8) [13,10])) 0 ⟨fP _ _ _ underlying28 underlying5 (by intro h; cases h)⟩ ?_
  refine yk [] [7,9,23] ?_
  refine yt (10,.tup [fb v1.1,fb v1.2.1,vb v1.2.2]) 0 ⟨Ar _ _ 23 74 _ _ rfl call74 rfl rfl rfl (fun _ h=>h) (ra mx s17 [13,10] _ hv1) rfl⟩ ?_
  refine ym 6 ?_
  refine ba [0,1,23,24,3,4,5] ?_
  refine ab (ab ?_)
  refine aC h (fun ((s31,s32):S×Bool)=>[(0,.v (.func (.yield l) #[] #[])),(1,.box 28 [fb s17]),(23,.glob (GL mx)),(24,.inv (J s31)),(4,fb v1.2.1),(21,vb s32)]) ?_ ?_
  ·rintro ⟨s31,s32⟩ h
   refine ae ?_
   refine al _ rfl (fun hb36 => ?_) (fun hb36 => ?_)
   ·have h:=ar hb36 h
    refine ao ?_
    refine ag [3] (by kernel_rfl) (es':=[(24,.inv (J s31))]) rfl ?_
    refine ai (aR (ai (aR ?_)))
    have h:=hr27 _ (ho28 _ (zi h).symm).symm
    obtain rfl:=zi h
    exact rp hio rfl rfl rfl
   ·have h:=aq hb36 h
    refine au (ae ?_)
    refine yy hn 2 [0,1,23,24] ?_
    refine aP ?_
    exact bn _ (zi h).symm rfl
  ·intro u33 h hl34 hr35
   refine am h (fun hg1_2 h => ?_) (fun hg1_2 h => ?_)
   ·refine yx hn 3 ?_
    refine yd hg1_2 5 ?_
    refine ye [0,1,23,24,4,21] ?_
    exact hl34 _ (zi h).symm
   ·obtain ⟨v2,hv2,h⟩:=zn h
    refine yx hn 3 ?_
    refine yd hg1_2 2 ?_
    refine yk [24] [18,17] ?_
    refine mo (24,.inv (J v2.1)) (19,vb v2.2) 2 ⟨pQ _ _ 24 l v1.1 s18 v2 hY hv2 rfl rfl rfl⟩ ?_
    refine ye [0,1,23,24,4,21] ?_
    exact hl34 _ (zi h).symm
theorem pY (mx:Int×Nat×Value) (b:(List Int)) (r:(Int×Bool)) (h:Sh.kD b=some r):gW Tryz.prog (GL mx) 94 [.fl .shr 1 (map (int .u8) b)] (.tup [.v (.int .i64 r.1),.v (.bool r.2)]):=by
 unfold Sh.kD at h
 refine yG 17 func94 fun g0 hn hio => ?_
 refine fu hn 0 ?_
 refine yS (.box 3 [vi 0]) 0 ⟨oA (bj _ _ HV)⟩ ?_
 refine yS (.box 4 [vb false]) 0 ⟨oA (bj _ _ GW)⟩ ?_
 refine ba [0,17,2,3] ?_
 refine ab (ab ?_)
 obtain ⟨v1,hv1,h⟩:=zn h
 refine yx hn 1 ?_
 refine yk [] [5] ?_
 refine yt (6,.cloB 123 [.box 28 [fb v1]]) 0 ⟨gh _ _ 96 _ _ rfl call96 rfl rfl (gg b _ hv1) rfl⟩ ?_
 refine ba [17,2,3,6] ?_
 refine aJ ?_
 refine iW [3,0,1,2] (by kernel_rfl) (es':=[(6,.cloB 123 [.box 28 [fb v1]]),(17,.glob (GL mx)),(2,.box 3 [vi 0]),(3,.box 4 [vb false])]) rfl ?_
 refine gU h 123 6 7 18 _ [17,2,3] call123 (fun (s8:Int)=>[(17,.glob (GL mx)),(2,.box 3 [.v (.int .i64 s8)]),(3,.box 4 [.v (.bool false)])]) (fun (s10:Int)=>[(17,.glob (GL mx)),(2,.box 3 [.v (.int .i64 s10)]),(3,.box 4 [.v (.bool true)])]) (fun l J Y hY t t' h=>eW mx l J Y hY v1 t t' h) hn rfl (fun _=>rfl) (fun _=>rfl) (fun _=>rfl) rfl rfl (fun _=>⟨rfl,rfl⟩) rfl (gO 17 rfl) ?_ ?_ ?_
 ·rintro kk g0 hn hio x s8 u h
  refine qI (es':=[(7,fb x),(17,.glob (GL mx)),(2,.box 3 [vi s8]),(3,.box 4 [vb false]),(17,.v (kk.tm.getD 17 undef)),(2,.v (kk.tm.getD 2 undef)),(3,.v (kk.tm.getD 3 undef)),(18,.inv kk.ready)]) rfl ?_
  refine yy hn 1 [17,2,3,18,4,17,2,3] ?_
  refine ag [0,1,2,4,5,6,7,3] (by kernel_rfl) (es':=[(17,.glob (GL mx)),(2,.box 3 [vi s8]),(3,.box 4 [vb false]),(4,fb x),(17,.v (kk.tm.getD 17 undef)),(2,.v (kk.tm.getD 2 undef)),(3,.v (kk.tm.getD 3 undef)),(18,.inv kk.ready)]) rfl ?_
  refine jo (es:=[(17,.glob (GL mx)),(2,.box 3 [vi s8]),(3,.box 4 [vb false]),(4,fb x),(17,.v (kk.tm.getD 17 undef)),(2,.v (kk.tm.getD 2 undef)),(3,.v (kk.tm.getD 3 undef))]) 18 rfl ?_
  refine aJ (ab (ab ?_))
  obtain ⟨v2,hv2,h⟩:=zn h
  refine yx hn 1 ?_
  refine ys 1 ⟨lS hv2⟩ ?_
  refine ba [17,2,3,4,18,10,17,2,3] ?_
  refine al _ rfl (fun hb11 => ?_) (fun hb11 => ?_)
  ·have h:=ar hb11 h
   refine aL hn 3 [17,2,3,18,17,2,3] ?_
   refine ao (ai (aR ?_))
   refine ag [0,1,2,4,5,6,3] (by kernel_rfl) (es':=[(_,_),(_,_),(_,_),(_,_),(_,_),(_,_),(_,_)]) rfl ?_
   obtain rfl:=zi h
   exact pG 18 [17,2,3] _ rfl rfl (by kernel_rfl)
  ·have h:=aq hb11 h
   refine au (ae ?_)
   obtain ⟨v4,hv4,h⟩:=zn h
   obtain ⟨v5,hv5,h⟩:=zn h
   refine yx hn 3 ?_
   refine ys 0 ⟨lb hv4⟩ ?_
   refine ys 1 ⟨lb hv5⟩ ?_
   refine ye [17,2,3,18,17,2,3] ?_
   refine aP ?_
   refine ag [0,1,2,4,5,6,3] (by kernel_rfl) (es':=[(_,_),(_,_),(_,_),(_,_),(_,_),(_,_),(_,_)]) rfl ?_
   obtain rfl:=zi h
   exact jj 18 [17,2,3] _ rfl rfl (by kernel_rfl)
 ·rintro D s8 h
  refine aP (ae ?_)
  refine aL hn 2 [17,2,3] ?_
  refine ao ?_
  refine ag [1,2] (by kernel_rfl) (es':=[(_,_),(_,_)]) rfl ?_
  obtain rfl:=zi h
  exact ay hio rfl (.cell1 _ _ _ _ underlying3 rfl (.cell1 _ _ _ _ underlying4 rfl .nil)) rfl rfl
 ·rintro D s10 h
  refine ag [1,2] (by kernel_rfl) (es':=[(_,_),(_,_)]) rfl ?_
  refine aR (ai ?_)
  obtain rfl:=zi h
  exact ay hio rfl (.cell1 _ _ _ _ underlying3 rfl (.cell1 _ _ _ _ underlying4 rfl .nil)) rfl rfl
theorem pJ (mx:Int×Nat×Value) (s:List Int) (c:JH) (r:Int) (h:Sh.im s c=some r):gW Tryz.prog (GL mx) 144 [.fl .shr 1 (map (int .u8) s),.v (.string c)] (.v (.int .i64 r)) :=
 oh (uU mx) (zA mx) (Ea mx) (fun s b off c w hs hnc hb hm hmb k1 k2 HG hp=>Tryz.idx_crlf s b off c w mx.1 hs hnc hb hm hmb (xA gI jk (by kernel_rfl) (by kernel_rfl) k1 k2) HG hp) Tryz.idx_none s c r h
theorem ni (mx:Int×Nat×Value) (b:(List Int)) (chars:JH) (r:Bool) (h:Sh.il b chars=some r):gW Tryz.prog (GL mx) 122 [.fl .shr 1 (map (int .u8) b),.v (.string chars)] (.v (.bool r)):=by
 unfold Sh.il at h
 refine yG 9 func122 fun g0 hn hio => ?_
 refine aL hn 1 [0,1,9] ?_
 refine ab ?_
 obtain ⟨v1,hv1,h⟩:=zn h
 refine yx hn 2 ?_
 refine ys 2 ⟨lg call144 (pJ _ _ _ _ hv1) 9⟩ ?_
 refine ba [9,4] ?_
 refine ao ?_
 refine ag [1] (by kernel_rfl) (es':=[(_,_)]) rfl ?_
 obtain rfl:=zi h
 exact ay hio rfl (.tmp _ _ .nil) rfl rfl
theorem iY (mx:Int×Nat×Value) (b:(List Int)) (r:Int) (h:Sh.iJ b=some r):gW Tryz.prog (GL mx) 95 [.fl .shr 1 (map (int .u8) b)] (.v (.int .i64 r)):=by
 unfold Sh.iJ at h
 refine yG 19 func95 fun g0 hn hio => ?_
 refine fu hn 0 ?_
 refine yS (.box 35 [vi 0]) 0 ⟨oA (bj _ _ Hh)⟩ ?_
 refine ba [0,19,2] ?_
 refine fu hn 0 ?_
 refine yS (.box 3 [vi 0]) 1 ⟨oA (bj _ _ HV)⟩ ?_
 refine ba [0,19,2,3] ?_
 refine ab (ab ?_)
 obtain ⟨v1,hv1,h⟩:=zn h
 refine yx hn 1 ?_
 refine yk [] [5] ?_
 refine yt (6,.cloB 123 [.box 28 [fb v1]]) 0 ⟨gh _ _ 96 _ _ rfl call96 rfl rfl (gg b _ hv1) rfl⟩ ?_
 refine ba [0,19,2,3,6] ?_
 refine aJ ?_
 refine iW [4,0,1,2,3] (by kernel_rfl) (es':=[(6,.cloB 123 [.box 28 [fb v1]]),(0,fb b),(19,.glob (GL mx)),(2,.box 35 [vi 0]),(3,.box 3 [vi 0])]) rfl ?_
 refine gU h 123 6 7 20 _ [0,19,2,3] call123 (fun (s8:Int)=>[(0,fb b),(19,.glob (GL mx)),(2,.box 35 [.v (.int .i64 0)]),(3,.box 3 [.v (.int .i64 s8)])]) (fun (s10:Int)=>[(0,fb b),(19,.glob (GL mx)),(2,.box 35 [.v (.int .i64 5)]),(3,.box 3 [.v (.int .i64 s10)])]) (fun l J Y hY t t' h=>eW mx l J Y hY v1 t t' h) hn rfl (fun _=>rfl) (fun _=>rfl) (fun _=>rfl) rfl rfl (fun _=>⟨rfl,rfl⟩) rfl (gO 19 rfl) ?_ ?_ ?_
 ·rintro kk g0 hn hio x s8 u h
  refine qI (es':=[(7,fb x),(0,fb b),(19,.glob (GL mx)),(2,.box 35 [vi 0]),(3,.box 3 [vi s8]),(0,.v (kk.tm.getD 0 undef)),(19,.v (kk.tm.getD 19 undef)),(2,.v (kk.tm.getD 2 undef)),(3,.v (kk.tm.getD 3 undef)),(20,.inv kk.ready)]) rfl ?_
  refine yy hn 1 [0,19,2,3,20,4,0,19,2,3] ?_
  refine ag [0,1,2,3,5,6,7,8,9,4] (by kernel_rfl) (es':=[(0,fb b),(19,.glob (GL mx)),(2,.box 35 [vi 0]),(3,.box 3 [vi s8]),(4,fb x),(0,.v (kk.tm.getD 0 undef)),(19,.v (kk.tm.getD 19 undef)),(2,.v (kk.tm.getD 2 undef)),(3,.v (kk.tm.getD 3 undef)),(20,.inv kk.ready)]) rfl ?_
  refine jo (es:=[(0,fb b),(19,.glob (GL mx)),(2,.box 35 [vi 0]),(3,.box 3 [vi s8]),(4,fb x),(0,.v (kk.tm.getD 0 undef)),(19,.v (kk.tm.getD 19 undef)),(2,.v (kk.tm.getD 2 undef)),(3,.v (kk.tm.getD 3 undef))]) 20 rfl ?_
  refine aJ (ab (ab ?_))
  obtain ⟨v2,hv2,h⟩:=zn h
  refine yx hn 1 ?_
  refine ys 0 ⟨lg call122 (ni _ _ _ _ hv2) 19⟩ ?_
  refine ba [0,19,2,3,4,20,9,0,19,2,3] ?_
  refine al _ rfl (fun hb11 => ?_) (fun hb11 => ?_)
  ·have h:=ar hb11 h
   refine aL hn 1 [0,19,2,3,20,0,19,2,3] ?_
   refine ao (ai (aR ?_))
   refine ag [0,1,2,3,5,6,7,8,4] (by kernel_rfl) (es':=[(_,_),(_,_),(_,_),(_,_),(_,_),(_,_),(_,_),(_,_),(_,_)]) rfl ?_
   obtain rfl:=zi h
   exact pG 20 [0,19,2,3] _ rfl rfl (by kernel_rfl)
  ·have h:=aq hb11 h
   refine au (ae ?_)
   obtain ⟨v4,hv4,h⟩:=zn h
   obtain ⟨v5,hv5,h⟩:=zn h
   refine yx hn 3 ?_
   refine ys 0 ⟨lb hv4⟩ ?_
   refine ys 1 ⟨lb hv5⟩ ?_
   refine ye [0,19,2,3,20,0,19,2,3] ?_
   refine aP ?_
   refine ag [0,1,2,3,5,6,7,8,4] (by kernel_rfl) (es':=[(_,_),(_,_),(_,_),(_,_),(_,_),(_,_),(_,_),(_,_),(_,_)]) rfl ?_
   obtain rfl:=zi h
   exact jj 20 [0,19,2,3] _ rfl rfl (by kernel_rfl)
 ·rintro D s8 h
  refine aP ?_
  refine ae (ab ?_)
  refine aL hn 4 [19,2,18] ?_
  refine al _ rfl (fun hb12 => ?_) (fun hb12 => ?_)
  ·have h:=ar hb12 h
   refine aL hn 1 [19,2] ?_
   refine ao ?_
   refine ag [1] (by kernel_rfl) (es':=[(_,_)]) rfl ?_
   refine ai ?_
   obtain rfl:=zi h
   exact ay hio rfl (.cell1 _ _ _ _ underlying35 rfl .nil) rfl rfl
  ·have h:=aq hb12 h
   refine au (ae ?_)
   refine aL hn 1 [19,2] ?_
   refine ao ?_
   refine ag [1] (by kernel_rfl) (es':=[(_,_)]) rfl ?_
   obtain rfl:=zi h
   exact ay hio rfl (.cell1 _ _ _ _ underlying35 rfl .nil) rfl rfl
 ·rintro D s10 h
  refine ag [2] (by kernel_rfl) (es':=[(_,_)]) rfl ?_
  refine aR (ai ?_)
  obtain rfl:=zi h
  exact ay hio rfl (.cell1 _ _ _ _ underlying35 rfl .nil) rfl rfl
theorem jV (s:(List Int)) (prefix_:(List Int)) (r:Bool) (h:Sh.gu s prefix_=some r):bQ Tryz.prog 124 [.fl .shr 1 (map (int .u8) s),.fl .shr 1 (map (int .u8) prefix_)] (.v (.bool r)):=by
 unfold Sh.gu at h
 refine yO 18 func124 fun g0 hn hio => ?_
 refine aL hn 1 [0,1] ?_
 refine ab ?_
 refine aC h (fun (s3:Bool)=>[(4,vb s3)]) ?_ ?_
 ·rintro s3 h
  refine ae (ao ?_)
  obtain rfl:=zi h
  exact ay hio rfl (.tmp _ _ .nil) rfl rfl
 ·intro u4 h hl5 hr6
  refine am h (fun hg1_5 h => ?_) (fun hg1_5 h => ?_)
  ·obtain ⟨v1,hv1,h⟩:=zn h
   obtain ⟨v2,hv2,h⟩:=zn h
   refine yx hn 6 ?_
   refine yd hg1_5 3 ?_
   refine yS (fb v1) 1 ⟨nq _ _ _ 0 (prefix_.length:Int) _ underlying28 jx rfl rfl rfl ⟨_,rfl⟩ hv1⟩ ?_
   refine ys 2 ⟨lk call72 (nc _ _ _ hv2)⟩ ?_
   refine ye [4] ?_
   exact hl5 _ (zi h).symm
  ·refine yx hn 6 ?_
   refine yd hg1_5 8 ?_
   refine ye [4] ?_
   exact hl5 _ (zi h).symm
theorem lw (s:(List Int)) (prefix_:(List Int)) (r:(List Int)) (h:Sh.fT s prefix_=some r):bQ Tryz.prog 97 [.fl .shr 1 (map (int .u8) s),.fl .shr 1 (map (int .u8) prefix_)] (.fl .shr 1 (map (int .u8) r)):=by
 unfold Sh.fT at h
 refine yO 13 func97 fun g0 hn hio => ?_
 refine aL hn 1 [0,1] ?_
 refine ab (ab ?_)
 obtain ⟨v1,hv1,h⟩:=zn h
 refine yx hn 2 ?_
 refine ys 0 ⟨lk call124 (jV _ _ _ hv1)⟩ ?_
 refine ba [0,1,7] ?_
 refine al _ rfl (fun hb2 => ?_) (fun hb2 => ?_)
 ·have h:=ar hb2 h
  refine ab ?_
  obtain ⟨v3,hv3,h⟩:=zn h
  refine yx hn 3 ?_
  refine yS (fb v3) 1 ⟨nq _ _ _ (prefix_.length:Int) (s.length:Int) _ underlying28 jx rfl rfl ⟨_,rfl⟩ rfl hv3⟩ ?_
  refine ba [4] ?_
  refine ao (ai ?_)
  obtain rfl:=zi h
  exact ay hio rfl (.tmp _ _ .nil) rfl rfl
 ·have h:=aq hb2 h
  refine au (ae ?_)
  refine aL hn 2 [4] ?_
  refine ao ?_
  obtain rfl:=zi h
  exact ay hio rfl (.tmp _ _ .nil) rfl rfl
theorem tH (mx:Int×Nat×Value) (b:(List Int)) (r:((List Int)×Int×Int)) (h:Sh.lH b=some r):gW Tryz.prog (GL mx) 84 [.fl .shr 1 (map (int .u8) b)] (.tup [.fl (.own 5) 1 (map (int .u8) r.1),.v (.int .i64 r.2.1),.v (.int .i64 r.2.2)]):=by
 unfold Sh.lH at h
 refine yG 39 func84 fun g0 hn hio => ?_
 refine fu hn 0 ?_
 refine yS (.box 28 [vz]) 2 ⟨oA (bj _ _ DR)⟩ ?_
 refine ba [0,39,2] ?_
 refine ab ?_
 obtain ⟨v1,hv1,h⟩:=zn h
 refine yx hn 1 ?_
 refine ys 0 ⟨lg call94 (pY _ _ _ hv1) 39⟩ ?_
 refine ym 4 ?_
 refine ba [0,39,2,5,6] ?_
 refine ab ?_
 refine aL hn 2 [0,39,2,5,15] ?_
 refine al _ rfl (fun hb2 => ?_) (fun hb2 => ?_)
 ·have h:=ar hb2 h
  refine aL hn 3 [39,2,3,4] ?_
  refine ao ?_
  refine ag [1,2,3] (by kernel_rfl) (es':=[(_,_),(_,_),(_,_)]) rfl ?_
  refine cu (fs:=[(2,.box 28 [.fl (.own 5) 1 (map (int .u8) [])]),(3,vi 0),(4,vi 9)]) (.box _ _ (af (bO 5 1) (bG)) rfl (.same _ (.same _ .nil))) ?_
  refine ai ?_
  obtain rfl:=zi h
  exact ay hio rfl (.cell1 _ _ _ _ underlying28 rfl (.tmp _ _ (.tmp _ _ .nil))) rfl rfl
 ·have h:=aq hb2 h
  refine au ?_
  refine ae (ab ?_)
  refine ab ?_
  obtain ⟨v3,hv3,h⟩:=zn h
  obtain ⟨v4,hv4,h⟩:=zn h
  refine yx hn 2 ?_
  refine yS (fb v3) 0 ⟨nq _ _ _ 0 v1.1 _ underlying28 jx rfl rfl rfl ⟨_,rfl⟩ hv3⟩ ?_
  refine ys 1 ⟨lg call95 (iY _ _ _ hv4) 39⟩ ?_
  refine ba [0,39,2,5,7] ?_
  refine aL hn 2 [0,39,2,5,7,21] ?_
  refine al _ rfl (fun hb5 => ?_) (fun hb5 => ?_)
  ·have h:=ar hb5 h
   refine aL hn 4 [39,2,3,4] ?_
   refine ao ?_
   refine ag [1,2,3] (by kernel_rfl) (es':=[(_,_),(_,_),(_,_)]) rfl ?_
   refine cu (fs:=[(2,.box 28 [.fl (.own 5) 1 (map (int .u8) [])]),(3,vi 0),(4,vi v4)]) (.box _ _ (af (bO 5 1) (bG)) rfl (.same _ (.same _ .nil))) ?_
   refine ai ?_
   obtain rfl:=zi h
   exact ay hio rfl (.cell1 _ _ _ _ underlying28 rfl (.tmp _ _ (.tmp _ _ .nil))) rfl rfl
  ·have h:=aq hb5 h
   refine au ?_
   refine ae (ab ?_)
   refine ab ?_
   obtain ⟨v6,hv6,h⟩:=zn h
   obtain ⟨v7,hv7,h⟩:=zn h
   refine yx hn 2 ?_
   refine yS (fb v6) 0 ⟨nq _ _ _ 0 v1.1 _ underlying28 jx rfl rfl rfl ⟨_,rfl⟩ hv6⟩ ?_
   refine yk [] [25] ?_
   refine yt (26,.cloB 123 [.box 28 [fb v7]]) 0 ⟨gh _ _ 96 _ _ rfl call96 rfl rfl (gg v6 _ hv7) rfl⟩ ?_
   refine ba [39,2,5,26] ?_
   refine aJ ?_
   refine iW [3,0,1,2] (by kernel_rfl) (es':=[(26,.cloB 123 [.box 28 [fb v7]]),(39,.glob (GL mx)),(2,.box 28 [vz]),(5,vi v1.1)]) rfl ?_
   refine nb (fs:=[(26,.cloB 123 [.box 28 [fb v7]]),(39,.glob (GL mx)),(2,.box 28 [.fl (.own 5) 1 (map (int .u8) [])]),(5,vi v1.1)]) (.same _ (.same _ (.box _ _ (af (bO 5 1) (bG)) rfl (.same _ .nil)))) ?_
   refine gU h 123 26 27 40 _ [39,2,5] call123 (fun (s12:(List Int))=>[(39,.glob (GL mx)),(2,.box 28 [.fl (.own 5) 1 (map (int .u8) s12)]),(5,.v (.int .i64 v1.1))]) (fun (():Unit)=>[]) (fun l J Y hY t t' h=>eW mx l J Y hY v7 t t' h) hn rfl (fun _=>rfl) (fun _=>rfl) (fun _=>rfl) rfl rfl (fun _=>⟨rfl,rfl⟩) rfl (gO 39 rfl) ?_ ?_ ?_
   ·rintro kk g0 hn hio x s12 u h
    refine qI (es':=[(27,fb x),(39,.glob (GL mx)),(2,.box 28 [.fl (.own 5) 1 (map (int .u8) s12)]),(5,vi v1.1),(39,.v (kk.tm.getD 39 undef)),(2,.v (kk.tm.getD 2 undef)),(5,.v (kk.tm.getD 5 undef)),(40,.inv kk.ready)]) rfl ?_
    refine yy hn 1 [39,2,5,40,8,39,2,5] ?_
    refine ag [0,1,2,4,5,6,7,3] (by kernel_rfl) (es':=[(39,.glob (GL mx)),(2,.box 28 [.fl (.own 5) 1 (map (int .u8) s12)]),(5,vi v1.1),(8,fb x),(39,.v (kk.tm.getD 39 undef)),(2,.v (kk.tm.getD 2 undef)),(5,.v (kk.tm.getD 5 undef)),(40,.inv kk.ready)]) rfl ?_
    refine jo (es:=[(39,.glob (GL mx)),(2,.box 28 [.fl (.own 5) 1 (map (int .u8) s12)]),(5,vi v1.1),(8,fb x),(39,.v (kk.tm.getD 39 undef)),(2,.v (kk.tm.getD 2 undef)),(5,.v (kk.tm.getD 5 undef))]) 40 rfl ?_
    refine aJ (ab ?_)
    obtain ⟨v8,hv8,h⟩:=zn h
    obtain ⟨v9,hv9,h⟩:=zn h
    refine wb [[2],[8]] ?_
    refine wN [] ?_
    refine wS (.fl (.own 5) 1 (map (int .u8) [46])) [] ⟨aY _ _ 1 (.int .u8 0) (map (int .u8) [46]) [(0,.int .u8 46)] underlying28 jx qD (fun _ V w o a hv hes=>by simp only [List.map_toArray,List.map_cons,List.map_nil]; try rfl) (cd (by simp [Instr.fill,Value.cells]; rfl) (by simp [List.range,List.range.loop] <;> rfl)) (by simp [Value.oneCell']) rfl (by decide) (by decide) (by decide)⟩ ?_
    refine wK [30] [] ?_
    refine wt [(31,.fl .ro 1 (map (int .u8) [46]))] [] ⟨fP _ _ _ underlying28 underlying5 (by intro h; cases h)⟩ ?_
    refine wN [29,31] ?_
    refine wS (fb v8) [] ⟨gh _ _ 97 _ _ rfl call97 rfl rfl (lw x [46] _ hv8) rfl⟩ ?_
    refine wK [2] [28,32] ?_
    refine wt [(2,.box 28 [.any]),(33,.fl (.own 5) 1 (map (int .u8) v9))] [] ⟨gR _ _ _ _ _ _ fQ rfl rfl (zl rfl) rfl (dQ _) (dQ _) hv9 ((List.map_append).symm.trans (congrArg (map _) (ib hv9))) (Nat.ne_of_beq_eq_false rfl) rfl rfl⟩ ?_
    refine wK [28,33,2] [] ?_
    refine wt [(2,.box 28 [.fl (.own 5) 1 (map (int .u8) v9)])] [] ⟨aU.drop [_] (aV _ _ _ _ _ _ _ _ kG rfl rfl rfl (zl rfl) rfl rfl)⟩ ?_
    refine tg hn [39,2,5,40,39,2,5] ?_
    obtain ⟨v10,hv10,h⟩:=zn h
    refine yx hn 1 ?_
    refine yk [2] [34] ?_
    refine mo (2,.box 28 [.any]) (35,.fl (.own 5) 1 (map (int .u8) v10)) 0 ⟨eh _ _ _ _ _ _ fQ qD underlying9 rfl rfl (zl rfl) rfl rfl hv10 rfl (Nat.ne_of_beq_eq_false rfl) rfl rfl⟩ ?_
    refine yw [34] 0 ?_
    refine yk [35,2] [] ?_
    refine yt (2,.box 28 [.fl (.own 5) 1 (map (int .u8) v10)]) 0 ⟨aV _ _ _ _ _ _ _ _ kG rfl rfl rfl (zl rfl) rfl rfl⟩ ?_
    refine ye [39,2,5,40,39,2,5] ?_
    refine aP ?_
    refine ag [0,1,2,4,5,6,3] (by kernel_rfl) (es':=[(_,_),(_,_),(_,_),(_,_),(_,_),(_,_),(_,_)]) rfl ?_
    obtain rfl:=zi h
    exact jj 40 [39,2,5] _ rfl rfl (by kernel_rfl)
   ·rintro D s12 h
    refine aP ?_
    refine ae (ab ?_)
    obtain ⟨v13,hv13,h⟩:=zn h
    refine yx hn 2 ?_
    refine ys 0 ⟨lb hv13⟩ ?_
    refine yk [2] [36] ?_
    refine yt (2,.box 28 [.fl (.own 5) 1 (map (int .u8) s12)]) 2 ⟨sw _ _ _ 2 0 kG rfl rfl rfl (zl rfl)⟩ ?_
    refine ba [39,2,3,4] ?_
    refine ao ?_
    refine ag [1,2,3] (by kernel_rfl) (es':=[(_,_),(_,_),(_,_)]) rfl ?_
    obtain rfl:=zi h
    exact ay hio rfl (.cell1 _ _ _ _ underlying28 rfl (.tmp _ _ (.tmp _ _ .nil))) rfl rfl
   ·rintro D ⟨⟩ h
    cases h
theorem eT (xs:List Value):oa Tryz.prog 145 [.hid (gz 153 5 false xs)] [.hid (gz 153 5 true xs)] (.tup []) :=
 Av (by decide) (fun b w h1 h2 h3=>Tryz.Builder_copyCheck_fresh b w h1 h2 h3) (fun b w h=>Tryz.Builder_copyCheck_used b w h)
theorem dt (xs:List Int) (c:Int) (r:List Int) (h:cr 1 xs [c]=some r):oa Tryz.prog 125 [.hid (gz 153 5 false (map (int .u8) xs)),.v (.int .u8 c)] [.hid (gz 153 5 false (map (int .u8) r))] (.v .nilIface):=by
 refine oa.bldW ?_
 refine uz func125 rfl (zl rfl) rfl (zl rfl) fun args0 hargs0 g0 hn hio => ?_
 refine DN hn [_,_,_,(4,.v .nilIface)] [0,1,2] [0,1,2] [zq [] 3 4] [(_,_),(_,_),(_,_)] rfl ⟨z2 rfl,zz⟩ ?_
 refine DN hn [_,_,_,(5,.same (.slot 0)),(0,.hid (gz 153 5 true (map (int .u8) xs))),(6,.tup [])] [0,1,2] [4,1,2] [zq [] 3 5,⟨[3],[0],[4,5],[(.slot 6)]⟩] [(_,_),(_,_),(_,_)] rfl ⟨zp rfl (dj _ _ _ rfl),zp rfl (kV _ _ _ _ 6 145 [.tmp 5] [] _ _ _ rfl call145 rfl rfl rfl (eT _) (zl rfl) rfl rfl rfl rfl rfl rfl rfl),zz⟩ ?_
 refine sQ 0 rfl ?_
 refine DN hn (_::_::_::(7,.ptr 0 0)::(8,.ptr 0 0)::(9,.ptr 0 0)::(10,.ptr 0 1)::(11,.same (.cell 0 1))::(12,.v (.int .u8 c))::(13,.fl (.own 5) 1 (map (int .u8) [c]))::(14,.fl (.own 5) 1 (map (int .u8) r))::(0,.box 153 [.ptr 0 0,.any])::(15,.ptr 0 0)::(16,.ptr 0 1)::(0,.box 153 [.ptr 0 0,.fl (.own 5) 1 (map (int .u8) r)])::[]) [0,1,2] [14,2] [zq [0] 3 7,zq [0] 4 8,zq [4,0] 5 9,zq [5,0] 6 10,zq [6,0] 7 11,zq [1] 8 12,zq [8] 9 13,⟨[7,9],[0],[11,10],[(.slot 14)]⟩,zq [3,11] 12 15,zq [12,11] 13 16,⟨[13],[7,10,11],[14],[.cell 0 1]⟩] [(_,_),(_,_)] rfl ⟨z1 rfl,z1 rfl,zp rfl (jp _ _ _ 0 0 rfl (by decide)),zp rfl (oF underlying153 rfl kG),zp rfl (oL underlying28 rfl),z1 rfl,zp rfl (aY _ _ 1 (.int .u8 0) (map (int .u8) [c]) [(0,.int .u8 c)] underlying28 jx qD (fun _ V w o a hv hes=>by have e0:=bU hv hes (x := .tmp 12) rfl; simp only [List.map_toArray,List.map_cons,List.map_nil,e0]; try rfl) (cd (by simp [Instr.fill,Value.cells]; rfl) (by simp [List.range,List.range.loop])) (by simp [Value.oneCell']) rfl (by decide) (by decide) (by decide)),zp rfl (gR _ _ _ _ _ _ fQ rfl rfl (zl rfl) rfl (dQ _) (dQ _) h ((List.map_append).symm.trans (congrArg (map _) (ib h))) (Nat.ne_of_beq_eq_false rfl) rfl rfl),zp rfl (jp _ _ _ 0 0 rfl (by decide)),zp rfl (oF underlying153 rfl kG),zp rfl (aU.drop [_] (aV _ _ _ _ _ _ _ _ kG rfl rfl rfl (zl rfl) rfl rfl)),zz⟩ ?_
 refine DN hn [_,_,(4,.v .nilIface)] [0,1] [0,1,2] [zq [] 2 4] [(_,_),(_,_),(_,_)] rfl ⟨z2 rfl,zz⟩ ?_
 refine ao ?_
 refine Co 0 ?_
 refine ag [2,0,1] (by kernel_rfl) (es':=[(_,_),(_,_),(_,_)]) rfl ?_
 exact bJ (es:=[(4,.v .nilIface)]) (posts:=[.hid (gz 153 5 true (map (int .u8) r))]) hio rfl rfl (.tmp _ _ .nil) rfl rfl hargs0 rfl
theorem pC (s:JH) (c:Int) (r:JH) (h:Sh.strings_Repeat s c=some r):bQ Tryz.prog 127 [.v (.string s),.v (.int .i64 c)] (.v (.string r)):=oi Tryz.strings_Repeat s c r h
theorem iO (xs:List Int) (s:JH) (r:List Int) (h:cr 1 xs (ak s)=some r):oa Tryz.prog 126 [.hid (gz 153 5 false (map (int .u8) xs)),.v (.string s)] [.hid (gz 153 5 false (map (int .u8) r))] (.tup [.v (.int .i64 (s.size:Int)),.v .nilIface]):=by
 refine oa.bldW ?_
 refine uz func126 rfl (zl rfl) rfl (zl rfl) fun args0 hargs0 g0 hn hio => ?_
 refine DN hn [_,_,_,(4,vi 0),(5,.v .nilIface)] [0,1,2] [0,1,2] [zq [] 3 4,zq [] 4 5] [(_,_),(_,_),(_,_)] rfl ⟨z2 rfl,z2 rfl,zz⟩ ?_
 refine DN hn [_,_,_,(6,.same (.slot 0)),(0,.hid (gz 153 5 true (map (int .u8) xs))),(7,.tup [])] [0,1,2] [4,1,2] [zq [] 3 6,⟨[3],[0],[4,5],[(.slot 7)]⟩] [(_,_),(_,_),(_,_)] rfl ⟨zp rfl (dj _ _ _ rfl),zp rfl (kV _ _ _ _ 7 145 [.tmp 6] [] _ _ _ rfl call145 rfl rfl rfl (eT _) (zl rfl) rfl rfl rfl rfl rfl rfl rfl),zz⟩ ?_
 refine sQ 0 rfl ?_
 refine DN hn (_::_::_::(8,.ptr 0 0)::(9,.ptr 0 0)::(10,.ptr 0 0)::(11,.ptr 0 1)::(12,.same (.cell 0 1))::(13,vs s)::(14,.fl (.own 5) 1 (map (int .u8) r))::(0,.box 153 [.ptr 0 0,.any])::(15,.ptr 0 0)::(16,.ptr 0 1)::(0,.box 153 [.ptr 0 0,.fl (.own 5) 1 (map (int .u8) r)])::[]) [0,1,2] [13,1,2] [zq [0] 3 8,zq [0] 4 9,zq [4,0] 5 10,zq [5,0] 6 11,zq [6,0] 7 12,zq [1] 8 13,⟨[7,8],[0],[10,9],[(.slot 14)]⟩,zq [3,10] 11 15,zq [11,10] 12 16,⟨[12],[7,9,10],[13],[.cell 0 1]⟩] [(_,_),(_,_),(_,_)] rfl ⟨z1 rfl,z1 rfl,zp rfl (jp _ _ _ 0 0 rfl (by decide)),zp rfl (oF underlying153 rfl kG),zp rfl (oL underlying28 rfl),z1 rfl,zp rfl (eh _ _ _ _ _ _ fQ qD underlying9 rfl rfl (zl rfl) rfl rfl h rfl (Nat.ne_of_beq_eq_false rfl) rfl rfl),zp rfl (jp _ _ _ 0 0 rfl (by decide)),zp rfl (oF underlying153 rfl kG),zp rfl (aU.drop [_] (aV _ _ _ _ _ _ _ _ kG rfl rfl rfl (zl rfl) rfl rfl)),zz⟩ ?_
 refine DN hn [_,_,_,(17,vs s),(18,vi (s.size:Int)),(4,vi (s.size:Int)),(5,.v .nilIface)] [0,1,2] [0,2,5,6] [zq [1] 3 17,zq [3] 4 18,zq [4] 5 4,zq [] 6 5] [(_,_),(_,_),(_,_),(_,_)] rfl ⟨z1 rfl,zp rfl (oN underlying9 rfl),z2 rfl,z2 rfl,zz⟩ ?_
 refine ao ?_
 refine Co 0 ?_
 refine ag [2,3,0,1] (by kernel_rfl) (es':=[(_,_),(_,_),(_,_),(_,_)]) rfl ?_
 exact bJ (es:=[(4,.v (.int .i64 (s.size:Int))),(5,.v .nilIface)]) (posts:=[.hid (gz 153 5 true (map (int .u8) r))]) hio rfl rfl (.tmp _ _ (.tmp _ _ .nil)) rfl rfl hargs0 rfl
theorem fR (xs:List Int) (s:JH) (h:xB xs=some s):oa Tryz.prog 128 [.hid (gz 153 5 false (map (int .u8) xs))] [] (.v (.string s)):=by
 refine uz func128 rfl (zl rfl) rfl (zl rfl) fun args0 hargs0 g0 hn hio => ?_
 refine xL 0 fun v => ?_
 refine DN hn [_,(2,vs ByteArray.empty)] [0] [0] [zq [] 1 2] [(_,_)] rfl ⟨z2 rfl,zz⟩ ?_
 refine ab ?_
 refine rv (by kernel_rfl) hn (El:=[_,(3,.same (.slot 0)),(4,.ptr 0 0),(5,.ptr 0 1),(6,.v v),(7,.hid (Dy v)),(8,.same (.slot 0)),(9,.ptr 0 0),(10,.ptr 0 1),(11,.v v),(12,vi ((map (int .u8) xs).length:Int)),(13,vs s),(2,vs s)]) (init:=[0]) (fin:=[12]) (sps:=[zq [] 1 3,zq [1,0] 2 4,zq [2] 3 5,zq [3,0] 4 6,zq [4,0] 5 7,zq [] 6 8,zq [6,0] 7 9,zq [7] 8 10,zq [8,0] 9 11,zq [9,0] 10 12,⟨[5,10],[0],[11],[(.slot 13)]⟩,zq [11] 12 2]) (es':=[(2,vs s)]) (by kernel_rfl) rfl rfl ⟨zp rfl (dj _ _ _ rfl),zp rfl (ma _ _ _ 0 rfl rfl (by decide)),zp rfl (oF underlying153 rfl kG),zp rfl (qM _ _ _ 0 underlying28 rfl rfl rfl),zp rfl (Fc _ _ 0 underlying173 rfl rfl),zp rfl (dj _ _ _ rfl),zp rfl (ma _ _ _ 0 rfl rfl (by decide)),zp rfl (oF underlying153 rfl kG),zp rfl (qM _ _ _ 0 underlying28 rfl rfl rfl),zp rfl (xH _ _ 0 underlying28 rfl rfl),zp rfl (DH _ _ 0 underlying173 (by kernel_rfl) rfl rfl h),z2 rfl,zz⟩ ?_
 refine ae (ao ?_)
 exact bJ (es:=[(2,.v (.string s))]) (posts:=[]) hio rfl rfl (.tmp _ _ .nil) rfl rfl hargs0 rfl
theorem jW (b:(List Int)) (r:JH) (h:Sh.dF b=some r):bQ Tryz.prog 98 [.fl .shr 1 (map (int .u8) b)] (.v (.string r)):=by
 unfold Sh.dF at h
 refine yO 61 func98 fun g0 hn hio => ?_
 refine aL hn 1 [0] ?_
 refine fu hn 0 ?_
 refine yS (.hid (gz 153 5 false (map (int .u8) ([]:List Int)))) 0 ⟨oA (aU.bld0 (bj _ _ En))⟩ ?_
 refine ba [0,3] ?_
 refine ab ?_
 refine aL hn 1 [0,3,4] ?_
 refine aZ h (fun ((s89,s90):(List Int)×Int)=>[(0,fb b),(3,.hid (gz 153 5 false (map (int .u8) s89))),(4,vi s90)]) (fun (s122:(List Int))=>[(3,.hid (gz 153 5 false (map (int .u8) s122)))]) ?_ ?_
 ·rintro s122 h
  refine ae (ab ?_)
  obtain ⟨v160,hv160,h⟩:=zn h
  refine yx hn 0 ?_
  refine yk [3] [] ?_
  refine yt (60,vs v160) 1 ⟨kV _ _ _ _ 60 128 [.tmp 3] [] _ _ _ rfl call128 rfl rfl rfl (fR s122 _ hv160) (zl rfl) rfl rfl rfl rfl rfl rfl rfl⟩ ?_
  refine ba [2] ?_
  refine ao ?_
  obtain rfl:=zi h
  exact ay hio rfl (.tmp _ _ .nil) rfl rfl
 ·rintro u123 hl124 hr125 ⟨s89,s90⟩ rr128 h ho126
  refine ab ?_
  refine aL hn 4 [0,3,4,13] ?_
  refine al _ rfl (fun hb129 => ?_) (fun hb129 => ?_)
  ·have h:=ar hb129 h
   refine au ?_
   refine ae (ab ?_)
   refine aJ (ab ?_)
   obtain ⟨v2,hv2,h⟩:=zn h
   obtain ⟨v3,hv3,h⟩:=zn h
   refine yx hn 3 ?_
   refine ys 0 ⟨lb hv2⟩ ?_
   refine yS (vi v3) 1 ⟨(Option.some.inj hv3) ▸ sj _ _ _ _ rfl rfl⟩ ?_
   refine ba [0,3,4,5] ?_
   refine aL hn 1 [0,3,4,5,6] ?_
   refine ab (ab ?_)
   obtain ⟨v4,hv4,h⟩:=zn h
   obtain ⟨v5,hv5,h⟩:=zn h
   refine yx hn 4 ?_
   refine ys 0 ⟨lb hv4⟩ ?_
   refine yS (fb v5) 2 ⟨nq _ _ _ s90 v4 _ underlying28 jx rfl rfl ⟨_,rfl⟩ ⟨_,rfl⟩ hv5⟩ ?_
   refine ba [0,3,4,5,6,26,27,28] ?_
   refine aZ h (fun ((s134,s135):Int×Int)=>[(0,fb b),(3,.hid (gz 153 5 false (map (int .u8) s89))),(4,vi s90),(5,vi v3),(6,.v (.int .u32 s134)),(26,fb v5),(27,vi (v5.length:Int)),(28,vi s135)]) (fun (s137:Int)=>[(0,fb b),(3,.hid (gz 153 5 false (map (int .u8) s89))),(4,vi s90),(5,vi v3),(6,.v (.int .u32 s137))]) ?_ ?_
   ·rintro s137 h
    refine ae (ab ?_)
    refine ab ?_
    obtain ⟨v29,hv29,h⟩:=zn h
    refine yx hn 1 ?_
    refine ys 1 ⟨lb hv29⟩ ?_
    refine ba [0,3,4,5,6,43,44] ?_
    refine aZ h (fun ((s149,s150):(List Int)×Int)=>[(0,fb b),(3,.hid (gz 153 5 false (map (int .u8) s149))),(4,vi s90),(5,vi v3),(6,.v (.int .u32 s137)),(43,vi v29),(44,vi s150)]) (fun (s152:(List Int))=>[(0,fb b),(3,.hid (gz 153 5 false (map (int .u8) s152))),(4,vi s90),(5,vi v3)]) ?_ ?_
    ·rintro s152 h
     refine ae ?_
     obtain ⟨v52,hv52,h⟩:=zn h
     obtain ⟨v53,hv53,h⟩:=zn h
     obtain ⟨v54,hv54,h⟩:=zn h
     refine yx hn 1 ?_
     refine ys 0 ⟨lb hv52⟩ ?_
     refine ys 0 ⟨lk call127 (pC _ _ _ hv53)⟩ ?_
     refine yq call126 (iO _ _ _ hv54) 3 [58] 0 ?_
     refine ye [0,3,4] ?_
     refine aP (ae ?_)
     obtain ⟨v55,hv55,h⟩:=zn h
     refine yx hn 1 ?_
     refine ys 0 ⟨lb hv55⟩ ?_
     refine yw [4] 1 ?_
     refine ye [0,3,4] ?_
     exact bn _ (zi h).symm rfl
    ·rintro u153 hl154 hr155 ⟨s149,s150⟩ rr158 h ho156
     refine aL hn 1 [0,3,4,5,6,43,44,45] ?_
     refine ab ?_
     refine al _ rfl (fun hb159 => ?_) (fun hb159 => ?_)
     ·have h:=ar hb159 h
      refine au ?_
      refine ae (ab ?_)
      refine aJ ?_
      refine aL hn 2 [0,3,4,5,6,43,44,9] ?_
      obtain ⟨v31,hv31,h⟩:=zn h
      obtain ⟨v32,hv32,h⟩:=zn h
      obtain ⟨v33,hv33,h⟩:=zn h
      obtain ⟨v34,hv34,h⟩:=zn h
      obtain ⟨v35,hv35,h⟩:=zn h
      obtain ⟨v36,hv36,h⟩:=zn h
      refine yx hn 2 ?_
      refine ys 0 ⟨lb hv31⟩ ?_
      refine ys 0 ⟨lb hv32⟩ ?_
      refine ys 0 ⟨lB (gF hv33)⟩ ?_
      refine ys 0 ⟨lb hv34⟩ ?_
      refine ys 0 ⟨lh hv35⟩ ?_
      refine yq call125 (dt _ _ _ hv36) 3 [53] 0 ?_
      refine ye [0,3,4,5,6,43,44] ?_
      refine aP (ae ?_)
      obtain ⟨v37,hv37,h⟩:=zn h
      refine yx hn 0 ?_
      refine ys 0 ⟨lb hv37⟩ ?_
      refine yw [44] 1 ?_
      refine ye [0,3,4,5,6,43,44] ?_
      exact bn _ (zi h).symm rfl
     ·have h:=aq hb159 h
      refine bl (az (az (bm ?_)))
      refine ag [0,1,2,3] (by kernel_rfl) (es':=[(_,_),(_,_),(_,_),(_,_)]) rfl ?_
      exact hl154 _ (ho156 _ (zi h).symm).symm
   ·rintro u138 hl139 hr140 ⟨s134,s135⟩ rr143 h ho141
    refine aL hn 1 [0,3,4,5,6,26,27,28,29] ?_
    refine ab ?_
    refine al _ rfl (fun hb144 => ?_) (fun hb144 => ?_)
    ·have h:=ar hb144 h
     refine au ?_
     refine ae (ab ?_)
     refine aJ (ab ?_)
     obtain ⟨v7,hv7,h⟩:=zn h
     obtain ⟨v8,hv8,h⟩:=zn h
     refine yx hn 1 ?_
     refine ys 0 ⟨li hv7⟩ ?_
     refine ys 2 ⟨ll hv8⟩ ?_
     refine ba [0,3,4,5,6,26,27,28,7,8] ?_
     obtain ⟨v9,hv9,h⟩:=zn h
     obtain ⟨v10,hv10,h⟩:=zn h
     obtain ⟨v11,hv11,h⟩:=zn h
     obtain ⟨v12,hv12,h⟩:=zn h
     obtain ⟨v13,hv13,h⟩:=zn h
     refine yx hn 2 ?_
     refine ys 1 ⟨lv hv9⟩ ?_
     refine ys 0 ⟨lb hv10⟩ ?_
     refine ys 0 ⟨lb hv11⟩ ?_
     refine ys 0 ⟨lB (jK hv12)⟩ ?_
     refine ys 0 ⟨lb hv13⟩ ?_
     refine yw [6] 1 ?_
     refine ye [0,3,4,5,26,27,28,6] ?_
     refine aP (ae ?_)
     obtain ⟨v14,hv14,h⟩:=zn h
     refine yx hn 0 ?_
     refine ys 0 ⟨lb hv14⟩ ?_
     refine yw [28] 1 ?_
     refine ye [0,3,4,5,26,27,6,28] ?_
     refine ag [0,1,2,3,6,4,5,7] (by kernel_rfl) (es':=[(_,_),(_,_),(_,_),(_,_),(_,_),(_,_),(_,_),(_,_)]) rfl ?_
     exact bn _ (zi h).symm rfl
    ·have h:=aq hb144 h
     refine bl (az (az (bm ?_)))
     refine ag [0,1,2,3,4] (by kernel_rfl) (es':=[(_,_),(_,_),(_,_),(_,_),(_,_)]) rfl ?_
     exact hl139 _ (ho141 _ (zi h).symm).symm
  ·have h:=aq hb129 h
   refine bl (az (az (bm ?_)))
   refine ag [1] (by kernel_rfl) (es':=[(_,_)]) rfl ?_
   exact hl124 _ (ho126 _ (zi h).symm).symm
theorem mB (code:Int) (r:Bool) (h:Sh.jm code=some r):bQ Tryz.prog 99 [.v (.int .i64 code)] (.v (.bool r)):=by
 unfold Sh.jm at h
 refine yO 9 func99 fun g0 hn hio => ?_
 refine aL hn 1 [0] ?_
 refine ab ?_
 refine aC h (fun (s1:Bool)=>[(2,vb s1)]) ?_ ?_
 ·rintro s1 h
  refine ae (ao ?_)
  obtain rfl:=zi h
  exact ay hio rfl (.tmp _ _ .nil) rfl rfl
 ·intro u2 h hl3 hr4
  refine am h (fun hg1_2 h => ?_) (fun hg1_2 h => ?_)
  ·refine yx hn 3 ?_
   refine yd hg1_2 4 ?_
   refine ye [2] ?_
   exact hl3 _ (zi h).symm
  ·refine yx hn 3 ?_
   refine yd hg1_2 4 ?_
   refine ye [2] ?_
   exact hl3 _ (zi h).symm
theorem eO (s:aa) (code:Int) (r:(cC×aa)) (h:Sh.dy s code=some r):oa Tryz.prog 85 [.box 80 (aa.b s),.v (.int .i64 code)] [.box 80 (aa.b r.2)] (.agg [.v (.int .i64 r.1.Je),.fl (.own 9) 1 (map Value.string r.1.Jp)]):=by
 unfold Sh.dy at h
 refine yP 24 func85 fun args0 hargs0 g0 hn hio => ?_
 refine fu hn 0 ?_
 refine yS (.box 51 [vi 0,vz]) 0 ⟨oA (bj _ _ Dm)⟩ ?_
 refine ba [0,1,4,0] ?_
 refine aL hn 1 [0,1,4,5,0] ?_
 refine ab ?_
 refine aC h (fun (s6:JH)=>[(0,.box 80 (aa.b s)),(1,vi code),(4,.box 51 [vi 0,vz]),(5,vs s6),(0,.v (List.getD args0 0 undef))]) ?_ ?_
 ·rintro s6 h
  refine ae ?_
  refine fu hn 2 ?_
  refine yS (.fl (.own 9) 1 (map Value.string [s6])) 0 ⟨aY _ _ 1 (.string ByteArray.empty) (map Value.string [s6]) [(0,.string s6)] underlying49 tb GT (fun _ V w o a hv hes=>by have e0:=bU hv hes (x := .tmp 21) rfl; simp only [List.map_toArray,List.map_cons,List.map_nil,e0]; try rfl) (cd (by simp [Instr.fill,Value.cells]; rfl) (by simp [List.range,List.range.loop] <;> rfl)) (by simp [Value.oneCell']) rfl (by decide) (by decide) (by decide)⟩ ?_
  refine yk [22] [20] ?_
  refine yt (23,.agg [vi code,.fl (.own 9) 1 (map Value.string [s6])]) 0 ⟨bI _ _ _ _ [1,1] _ _ underlying51 Dm (Gw _ underlying51) (.copy _ (.take _ _ mn.nil)) rfl rfl rfl⟩ ?_
  refine yk [23,4] [] ?_
  refine yt (4,.box 51 [vi code,.fl (.own 9) 1 (map Value.string [s6])]) 0 ⟨aV _ _ _ _ _ _ _ _ Dc rfl rfl rfl (zl rfl) rfl rfl⟩ ?_
  refine ba [0,4,0] ?_
  refine ao ?_
  refine ag [1,0,2] (by kernel_rfl) (es':=[(_,_),(_,_),(_,_)]) rfl ?_
  obtain rfl:=zi h
  exact bJ (es:=[(4,.box 51 [.v (.int .i64 code),.fl (.own 9) 1 (map Value.string [s6])])]) (posts:=[.box 80 (aa.b s)]) hio rfl rfl (.cellA _ _ _ _ underlying51 rfl Dc .nil) rfl rfl hargs0 rfl
 ·intro u7 h hl8 hr9
  refine aJ ?_
  refine aL hn 3 [0,1,4,5,6,0] ?_
  refine al _ rfl (fun hb10 => ?_) (fun hb10 => ?_)
  ·have h:=ar hb10 h
   obtain ⟨v2,hv2,h⟩:=zn h
   obtain ⟨v3,hv3,h⟩:=zn h
   refine yx hn 5 ?_
   refine ys 0 ⟨lT hv2⟩ ?_
   refine ys 0 ⟨lk call98 (jW _ _ hv3)⟩ ?_
   refine yw [5] 1 ?_
   refine ye [0,1,4,5,0] ?_
   refine aP ?_
   exact hl8 _ (zi h).symm
  ·have h:=aq hb10 h
   refine ab ?_
   obtain ⟨v4,hv4,h⟩:=zn h
   refine yx hn 1 ?_
   refine ys 2 ⟨lk call99 (mB _ _ hv4)⟩ ?_
   refine ba [0,1,4,5,16,0] ?_
   refine al _ rfl (fun hb11 => ?_) (fun hb11 => ?_)
   ·have h:=ar hb11 h
    refine yx hn 0 ?_
    refine yw [5] 1 ?_
    refine ye [0,1,4,5,0] ?_
    refine aP ?_
    exact hl8 _ (zi h).symm
   ·have h:=aq hb11 h
    refine au (aP ?_)
    refine ag [0,1,2,3,5] (by kernel_rfl) (es':=[(_,_),(_,_),(_,_),(_,_),(_,_)]) rfl ?_
    exact hl8 _ (zi h).symm
theorem lZ (mx:Int×Nat×Value) (n:Int) (r:JH) (h:Sh.strconv_Itoa n=some r):gW Tryz.prog (GL mx) 150 [.v (.int .i64 n)] (.v (.string r)):=qw (by kernel_rfl) (Do mx) (by rfl) (fun n w h0 h1 ht=>Tryz.strconv_Itoa n h0 h1 w ht) n r h
theorem tj (mx:Int×Nat×Value) (helo:JH) (site:JH) (at_:Int) (r:((List Int)×Int)) (h:Sh.nX helo site at_=some r):gW Tryz.prog (GL mx) 129 [.v (.string helo),.v (.string site),.v (.int .i64 at_)] (.tup [.mkr 5 (map (int .u8) r.1),.v (.int .i64 r.2)]):=by
 unfold Sh.nX at h
 refine yG 33 func129 fun g0 hn hio => ?_
 refine aL hn 2 [0,1,2,33] ?_
 refine ab (ab ?_)
 refine aC h (fun (s21:Bool)=>[(0,vs helo),(1,vs site),(2,vi at_),(33,.glob (GL mx)),(15,vb s21)]) ?_ ?_
 ·rintro s21 h
  refine ae ?_
  refine al _ rfl (fun hb25 => ?_) (fun hb25 => ?_)
  ·have h:=ar hb25 h
   refine aL hn 2 [33,6,7] ?_
   refine ao ?_
   refine ag [1,2] (by kernel_rfl) (es':=[(_,_),(_,_)]) rfl ?_
   refine cu (fs:=[(6,.mkr 5 (map (int .u8) [])),(7,vi 5)]) (.sub _ (fw 5) rfl (.same _ .nil)) ?_
   refine ai ?_
   obtain rfl:=zi h
   exact ay hio rfl (.tmp _ _ (.tmp _ _ .nil)) rfl rfl
  ·have h:=aq hb25 h
   refine au ?_
   refine ae (ab ?_)
   refine ab ?_
   refine aC h (fun (s26:Bool)=>[(0,vs helo),(1,vs site),(2,vi at_),(33,.glob (GL mx)),(21,vb s26)]) ?_ ?_
   ·rintro s26 h
    refine ae ?_
    refine al _ rfl (fun hb30 => ?_) (fun hb30 => ?_)
    ·have h:=ar hb30 h
     refine aL hn 2 [33,6,7] ?_
     refine ao ?_
     refine ag [1,2] (by kernel_rfl) (es':=[(_,_),(_,_)]) rfl ?_
     refine cu (fs:=[(6,.mkr 5 (map (int .u8) [])),(7,vi 1)]) (.sub _ (fw 5) rfl (.same _ .nil)) ?_
     refine ai ?_
     obtain rfl:=zi h
     exact ay hio rfl (.tmp _ _ (.tmp _ _ .nil)) rfl rfl
    ·have h:=aq hb30 h
     refine au ?_
     refine ae (ab ?_)
     obtain ⟨v13,hv13,h⟩:=zn h
     obtain ⟨v14,hv14,h⟩:=zn h
     obtain ⟨v15,hv15,h⟩:=zn h
     obtain ⟨v16,hv16,h⟩:=zn h
     obtain ⟨v17,hv17,h⟩:=zn h
     obtain ⟨v18,hv18,h⟩:=zn h
     obtain ⟨v19,hv19,h⟩:=zn h
     obtain ⟨v20,hv20,h⟩:=zn h
     refine yx hn 1 ?_
     refine ys 0 ⟨lB (cK hv13)⟩ ?_
     refine ys 1 ⟨lB (cK hv14)⟩ ?_
     refine ys 0 ⟨lB (cK hv15)⟩ ?_
     refine ys 1 ⟨lB (cK hv16)⟩ ?_
     refine ys 0 ⟨lg call150 (lZ _ _ _ hv17) 33⟩ ?_
     refine ys 0 ⟨lB (cK hv18)⟩ ?_
     refine ys 0 ⟨lB (cK hv19)⟩ ?_
     refine ys 0 ⟨lU hv20⟩ ?_
     refine ya 1 ?_
     refine ba [33,6,7] ?_
     refine ao ?_
     refine ag [1,2] (by kernel_rfl) (es':=[(_,_),(_,_)]) rfl ?_
     obtain rfl:=zi h
     exact ay hio rfl (.tmp _ _ (.tmp _ _ .nil)) rfl rfl
   ·intro u27 h hl28 hr29
    refine am h (fun hg3_2 h => ?_) (fun hg3_2 h => ?_)
    ·refine yx hn 3 ?_
     refine yd hg3_2 3 ?_
     refine ye [0,1,2,33,21] ?_
     exact hl28 _ (zi h).symm
    ·refine yx hn 3 ?_
     refine yd hg3_2 3 ?_
     refine ye [0,1,2,33,21] ?_
     exact hl28 _ (zi h).symm
 ·intro u22 h hl23 hr24
  obtain ⟨v1,hv1,h⟩:=zn h
  refine am h (fun hg1_3 h => ?_) (fun hg1_3 h => ?_)
  ·refine yx hn 1 ?_
   refine ys 2 ⟨lg call55 (bX _ _ _ hv1) 33⟩ ?_
   refine yd hg1_3 4 ?_
   refine ye [0,1,2,33,15] ?_
   exact hl23 _ (zi h).symm
  ·obtain ⟨v2,hv2,h⟩:=zn h
   refine yx hn 1 ?_
   refine ys 2 ⟨lg call55 (bX _ _ _ hv1) 33⟩ ?_
   refine yd hg1_3 1 ?_
   refine ys 2 ⟨lg call55 (bX _ _ _ hv2) 33⟩ ?_
   refine ye [0,1,2,33,15] ?_
   exact hl23 _ (zi h).symm
theorem vq (mx:Int×Nat×Value) (b:(List Int)) (helo:JH) (site:JH) (at_:Int) (r:((List Int)×Int)) (h:Sh.rZ b helo site at_=some r):gW Tryz.prog (GL mx) 100 [.fl .shr 1 (map (int .u8) b),.v (.string helo),.v (.string site),.v (.int .i64 at_)] (.tup [.mkr 5 (map (int .u8) r.1),.v (.int .i64 r.2)]):=by
 unfold Sh.rZ at h
 refine yG 31 func100 fun g0 hn hio => ?_
 refine aL hn 2 [0,1,2,3,31] ?_
 refine ab (ab ?_)
 obtain ⟨v1,hv1,h⟩:=zn h
 refine yx hn 1 ?_
 refine ys 1 ⟨lg call95 (iY _ _ _ hv1) 31⟩ ?_
 refine ba [0,1,2,3,31,10] ?_
 refine aL hn 2 [0,1,2,3,31,10,16] ?_
 refine al _ rfl (fun hb6 => ?_) (fun hb6 => ?_)
 ·have h:=ar hb6 h
  refine aL hn 3 [31,8,9] ?_
  refine ao ?_
  refine ag [1,2] (by kernel_rfl) (es':=[(_,_),(_,_)]) rfl ?_
  refine cu (fs:=[(8,.mkr 5 (map (int .u8) [])),(9,vi v1)]) (.sub _ (fw 5) rfl (.same _ .nil)) ?_
  refine ai ?_
  obtain rfl:=zi h
  exact ay hio rfl (.tmp _ _ (.tmp _ _ .nil)) rfl rfl
 ·have h:=aq hb6 h
  refine au ?_
  refine ae (ab ?_)
  obtain ⟨v3,hv3,h⟩:=zn h
  refine yx hn 3 ?_
  refine ys 0 ⟨lg call129 (tj _ _ _ _ _ hv3) 31⟩ ?_
  refine ym 0 ?_
  refine Ha 1 ?_
  refine ya 1 ?_
  refine ba [0,31,11,12] ?_
  refine ab ?_
  refine aL hn 2 [0,31,11,12,26] ?_
  refine al _ rfl (fun hb7 => ?_) (fun hb7 => ?_)
  ·have h:=ar hb7 h
   refine aL hn 3 [31,8,9] ?_
   refine ao ?_
   refine ag [1,2] (by kernel_rfl) (es':=[(_,_),(_,_)]) rfl ?_
   refine cu (fs:=[(8,.mkr 5 (map (int .u8) [])),(9,vi v3.2)]) (.sub _ (fw 5) rfl (.same _ .nil)) ?_
   refine ai ?_
   obtain rfl:=zi h
   exact ay hio rfl (.tmp _ _ (.tmp _ _ .nil)) rfl rfl
  ·have h:=aq hb7 h
   refine au ?_
   refine ae (ab ?_)
   obtain ⟨v5,hv5,h⟩:=zn h
   refine yx hn 0 ?_
   refine ym 1 ?_
   refine yk [28] [29] ?_
   refine mo (28,.any) (30,.mkr 5 (map (int .u8) v5)) 0 ⟨um _ _ _ _ _ fQ rfl rfl rfl rfl hv5 rfl⟩ ?_
   refine ya 1 ?_
   refine ba [31,8,9] ?_
   refine ao ?_
   refine ag [1,2] (by kernel_rfl) (es':=[(_,_),(_,_)]) rfl ?_
   obtain rfl:=zi h
   exact ay hio rfl (.tmp _ _ (.tmp _ _ .nil)) rfl rfl
end Go.Proofs.YtjnnkhmhjcjhdaaGreatDoor
