/-
 The model's runs are what is told in Lean.
-/
import Derived.Test.YtjnnkhmhjcjhdaaGreatDoorOkc5
set_option linter.unusedVariables false
set_option linter.unusedSimpArgs false
set_option maxHeartbeats 1000000
namespace Go.Proofs.YtjnnkhmhjcjhdaaGreatDoor
open Go.Abs Go.Abs.Sh Tryz
open List (map flatten)
open Value (int)
theorem la (s:Fa) (suffix:Fa) (r:(Fa×Bool)) (h:Sh.fY s suffix=some r):bL Tryz.prog 185 [.v (.string s),.v (.string suffix)] (.tup [.v (.string r.1),.v (.bool r.2)]):=by
 unfold Sh.fY at h
 refine yO 11 func185 fun g0 hn hio => ?_
 refine aI hn 2 [0,1] ?_
 refine ab ?_
 obtain ⟨v1,hv1,h⟩:=zn h
 refine yx hn 2 ?_
 refine ys 4 ⟨lk call206 (fH _ _ _ hv1)⟩ ?_
 refine aT [4,5] ?_
 refine am ?_
 obtain rfl:=zi h
 exact ao hio rfl (.tmp _ _ (.tmp _ _ .nil)) rfl rfl
theorem qG (mx:Int×Nat×Value) (s:Fa) (r:(ae×Int)) (h:Sh.mn s=some r):fk Tryz.prog (GL mx) 158 [.v (.string s)] (.tup [.agg [.v (.bool r.1.EM),.v (.string r.1.EI),.v (.string r.1.Ex)],.v (.int .i64 r.2)]):=by
 unfold Sh.mn at h
 refine yG 50 func158 fun g0 hn hio => ?_
 refine eC hn 0 ?_
 refine yS (.box 26 [vb false,vs z0,vs z0]) 1 ⟨oA (aP _ _ pM)⟩ ?_
 refine aT [0,50,2] ?_
 refine ab ?_
 refine aI hn 2 [0,50,2,12] ?_
 refine al _ rfl (fun hb1 => ?_) (fun hb1 => ?_)
 ·have h:=ap hb1 h
  refine eC hn 0 ?_
  refine yS (.agg [vb true,vs z0,vs z0]) 2 ⟨bn _ _ _ _ [1,1,1] _ _ underlying26 pM (xb _ underlying26) (.copy _ km.nil) rfl rfl rfl⟩ ?_
  refine aT [50,2,3] ?_
  refine am ?_
  refine ah [1,2] (by kernel_rfl) (es':=[(_,_),(_,_)]) rfl ?_
  refine ai ?_
  obtain rfl:=zi h
  exact ao hio rfl (.cellA _ _ _ _ underlying26 rfl qP (.tmp _ _ .nil)) rfl rfl
 ·have h:=aq hb1 h
  refine ar ?_
  refine ag (ab ?_)
  obtain ⟨v2,hv2,h⟩:=zn h
  refine yx hn 1 ?_
  refine ys 0 ⟨lk call184 (gN _ _ _ hv2)⟩ ?_
  refine ym 4 ?_
  refine aT [50,2,4,5] ?_
  refine ab ?_
  obtain ⟨v3,hv3,h⟩:=zn h
  refine yx hn 1 ?_
  refine ys 0 ⟨lk call185 (la _ _ _ hv3)⟩ ?_
  refine ym 2 ?_
  refine yw [4] 2 ?_
  refine aT [50,2,5,4,6] ?_
  refine ab ?_
  obtain ⟨v4,hv4,h⟩:=zn h
  refine yx hn 1 ?_
  refine ys 0 ⟨lk call134 (fW _ _ _ hv4)⟩ ?_
  refine ym 6 ?_
  refine aT [50,2,5,6,7,8,9] ?_
  refine eC hn 2 ?_
  refine yS (.agg [vb false,vs v4.1,vs v4.2.1]) 0 ⟨bn _ _ _ _ [1,1,1] _ _ underlying26 pM (xb _ underlying26) (.copy _ (.copy _ km.nil)) rfl rfl rfl⟩ ?_
  refine yS (.box 26 [vb false,vs z0,vs z0]) 1 ⟨oA (aP _ _ pM)⟩ ?_
  refine aT [50,2,5,6,9,10] ?_
  refine ab (ab ?_)
  refine aD h (fun (s6:Bool)=>[(50,.glob (GL mx)),(2,.box 26 [vb false,vs z0,vs z0]),(10,.box 26 [vb false,vs v4.1,vs v4.2.1]),(47,vb s6)]) ?_ ?_
  ·rintro s6 h
   refine ag ?_
   refine al _ rfl (fun hb10 => ?_) (fun hb10 => ?_)
   ·have h:=ap hb10 h
    refine eC hn 0 ?_
    refine yS (.agg [vb false,vs z0,vs z0]) 0 ⟨bn _ _ _ _ [1,1,1] _ _ underlying26 pM (xb _ underlying26) km.nil rfl rfl rfl⟩ ?_
    refine yk [48,2] [] ?_
    refine yt (2,.box 26 [vb false,vs z0,vs z0]) 1 ⟨cA _ _ _ 48 2 3 qP rfl rfl rfl rfl rfl (.eq _ (.eq _ (.eq _ (.nil _)))) rfl⟩ ?_
    refine aT [50,2,3] ?_
    refine am ?_
    refine ah [1,2] (by kernel_rfl) (es':=[(_,_),(_,_)]) rfl ?_
    refine ai ?_
    obtain rfl:=zi h
    exact ao hio rfl (.cellA _ _ _ _ underlying26 rfl qP (.tmp _ _ .nil)) rfl rfl
   ·have h:=aq hb10 h
    refine ar (ag ?_)
    refine aI hn 3 [50,2,3] ?_
    refine am ?_
    refine ah [1,2] (by kernel_rfl) (es':=[(_,_),(_,_)]) rfl ?_
    obtain rfl:=zi h
    exact ao hio rfl (.cellA _ _ _ _ underlying26 rfl qP (.tmp _ _ .nil)) rfl rfl
  ·intro u7 h hl8 hr9
   refine ak h (fun hg7_2 h => ?_) (fun hg7_2 h => ?_)
   ·refine yx hn 3 ?_
    refine yd hg7_2 12 ?_
    refine ye [50,2,10,47] ?_
    exact hl8 _ (zi h).symm
   ·refine ak h (fun hg7_6 h => ?_) (fun hg7_6 h => ?_)
    ·refine yx hn 3 ?_
     refine yd hg7_2 4 ?_
     refine yd hg7_6 8 ?_
     refine ye [50,2,10,47] ?_
     exact hl8 _ (zi h).symm
    ·refine ak h (fun hg7_10 h => ?_) (fun hg7_10 h => ?_)
     ·refine yx hn 3 ?_
      refine yd hg7_2 4 ?_
      refine yd hg7_6 4 ?_
      refine yd hg7_10 4 ?_
      refine ye [50,2,10,47] ?_
      exact hl8 _ (zi h).symm
     ·obtain ⟨v5,hv5,h⟩:=zn h
      refine yx hn 3 ?_
      refine yd hg7_2 4 ?_
      refine yd hg7_6 4 ?_
      refine yd hg7_10 1 ?_
      refine ys 2 ⟨lg call162 (bZ _ _ _ hv5) 50⟩ ?_
      refine ye [50,2,10,47] ?_
      exact hl8 _ (zi h).symm
theorem pg (s:Fa) (r:Int×Unit) (h:Sh.strconv_Atoi s=some r):bL Tryz.prog 139 [.v (.string s)] (.tup [.v (.int .i64 r.1),.v .nilIface]):=nI (fun s n w h1 h2=>Tryz.strconv_Atoi s n h1 h2 w) s r h
theorem pj (s:Fa) (digits:Int) (r:(Int×Bool)) (h:Sh.kb s digits=some r):bL Tryz.prog 207 [.v (.string s),.v (.int .i64 digits)] (.tup [.v (.int .i64 r.1),.v (.bool r.2)]):=by
 unfold Sh.kb at h
 refine yO 51 func207 fun g0 hn hio => ?_
 refine aI hn 2 [0,1] ?_
 refine ab (ab ?_)
 refine aD h (fun (s3:Bool)=>[(0,vs s),(26,vb s3)]) ?_ ?_
 ·rintro s3 h
  refine ag ?_
  refine al _ rfl (fun hb7 => ?_) (fun hb7 => ?_)
  ·have h:=ap hb7 h
   refine aI hn 2 [4,5] ?_
   refine am (ai ?_)
   obtain rfl:=zi h
   exact ao hio rfl (.tmp _ _ (.tmp _ _ .nil)) rfl rfl
  ·have h:=aq hb7 h
   refine ar ?_
   refine ag (ab ?_)
   refine aI hn 3 [0,28,29] ?_
   refine aX h (fun (s24:Int)=>[(0,vs s),(28,vi (s.size:Int)),(29,vi s24)]) (fun (():Unit)=>[(0,vs s)]) ?_ ?_
   ·rintro ⟨⟩ h
    refine ag (ab ?_)
    obtain ⟨v43,hv43,h⟩:=zn h
    refine yx hn 1 ?_
    refine ys 0 ⟨lk call139 (pg _ _ hv43)⟩ ?_
    refine ym 4 ?_
    refine aT [7,8] ?_
    refine ab ?_
    refine wb [[7],[8]] ?_
    refine wN [49] ?_
    refine wS (vb true) [[48],[50]] ⟨xv _ _ false underlying155 rfl⟩ ?_
    refine qR hn [4,5] ?_
    refine am ?_
    obtain rfl:=zi h
    exact ao hio rfl (.tmp _ _ (.tmp _ _ .nil)) rfl rfl
   ·rintro u31 hl32 hr33 s24 rr36 h ho34
    refine aI hn 1 [0,28,29,30] ?_
    refine ab ?_
    refine al _ rfl (fun hb37 => ?_) (fun hb37 => ?_)
    ·have h:=ap hb37 h
     refine ar ?_
     refine ag (ab ?_)
     refine aH ?_
     refine aI hn 2 [0,28,29,6] ?_
     refine ab ?_
     refine aD h (fun (s38:Bool)=>[(0,vs s),(28,vi (s.size:Int)),(29,vi s24),(41,vb s38)]) ?_ ?_
     ·rintro s38 h
      refine ag ?_
      refine al _ rfl (fun hb42 => ?_) (fun hb42 => ?_)
      ·have h:=ap hb42 h
       refine aI hn 2 [4,5] ?_
       refine am (aG (ai (ai (aG (ai ?_)))))
       have h:=hr33 _ (ho34 _ (zi h).symm).symm
       obtain rfl:=zi h
       exact ao hio rfl (.tmp _ _ (.tmp _ _ .nil)) rfl rfl
      ·have h:=aq hb42 h
       refine ar (aJ (ag ?_))
       obtain ⟨v16,hv16,h⟩:=zn h
       refine yx hn 0 ?_
       refine ys 0 ⟨lb hv16⟩ ?_
       refine yw [29] 1 ?_
       refine ye [0,28,29] ?_
       exact bi _ (zi h).symm rfl
     ·intro u39 h hl40 hr41
      obtain ⟨v9,hv9,h⟩:=zn h
      refine ak h (fun hg6_4 h => ?_) (fun hg6_4 h => ?_)
      ·refine yx hn 2 ?_
       refine ys 2 ⟨lh hv9⟩ ?_
       refine yd hg6_4 5 ?_
       refine ye [0,28,29,41] ?_
       exact hl40 _ (zi h).symm
      ·obtain ⟨v10,hv10,h⟩:=zn h
       refine yx hn 2 ?_
       refine ys 2 ⟨lh hv9⟩ ?_
       refine yd hg6_4 2 ?_
       refine ys 2 ⟨lh hv10⟩ ?_
       refine ye [0,28,29,41] ?_
       exact hl40 _ (zi h).symm
    ·have h:=aq hb37 h
     refine bh (aB (aB (bf ?_)))
     refine ah [0] (by kernel_rfl) (es':=[(_,_)]) rfl ?_
     exact hl32 _ (ho34 _ (zi h).symm).symm
 ·intro u4 h hl5 hr6
  refine ak h (fun hg1_2 h => ?_) (fun hg1_2 h => ?_)
  ·refine yx hn 3 ?_
   refine yd hg1_2 15 ?_
   refine ye [0,26] ?_
   exact hl5 _ (zi h).symm
  ·obtain ⟨v1,hv1,h⟩:=zn h
   refine ak h (fun hg1_9 h => ?_) (fun hg1_9 h => ?_)
   ·refine yx hn 3 ?_
    refine yd hg1_2 3 ?_
    refine yS (vi v1) 3 ⟨(Option.some.inj hv1) ▸ sq _ _ _ _ rfl rfl⟩ ?_
    refine yd hg1_9 8 ?_
    refine ye [0,26] ?_
    exact hl5 _ (zi h).symm
   ·obtain ⟨v2,hv2,h⟩:=zn h
    refine ak h (fun hg1_13 h => ?_) (fun hg1_13 h => ?_)
    ·refine yx hn 3 ?_
     refine yd hg1_2 3 ?_
     refine yS (vi v1) 3 ⟨(Option.some.inj hv1) ▸ sq _ _ _ _ rfl rfl⟩ ?_
     refine yd hg1_9 1 ?_
     refine ys 2 ⟨lh hv2⟩ ?_
     refine yd hg1_13 4 ?_
     refine ye [0,26] ?_
     exact hl5 _ (zi h).symm
    ·refine yx hn 3 ?_
     refine yd hg1_2 3 ?_
     refine yS (vi v1) 3 ⟨(Option.some.inj hv1) ▸ sq _ _ _ _ rfl rfl⟩ ?_
     refine yd hg1_9 1 ?_
     refine ys 2 ⟨lh hv2⟩ ?_
     refine yd hg1_13 4 ?_
     refine ye [0,26] ?_
     exact hl5 _ (zi h).symm
theorem ml (s:Fa) (words:(List Fa)) (r:(Fa×Bool)) (h:Sh.jJ s words=some r):bL Tryz.prog 208 [.v (.string s),.fl .shr 1 (map Value.string words)] (.tup [.v (.string r.1),.v (.bool r.2)]):=by
 unfold Sh.jJ at h
 refine yO 19 func208 fun g0 hn hio => ?_
 refine aI hn 2 [0,1] ?_
 refine ab ?_
 refine aI hn 3 [0,8,9,10] ?_
 refine aX h (fun (s10:Int)=>[(0,vs s),(8,.fl .shr 1 (map Value.string words)),(9,vi (words.length:Int)),(10,vi s10)]) (fun (():Unit)=>[]) ?_ ?_
 ·rintro ⟨⟩ h
  refine ag ?_
  refine aI hn 2 [4,5] ?_
  refine am ?_
  obtain rfl:=zi h
  exact ao hio rfl (.tmp _ _ (.tmp _ _ .nil)) rfl rfl
 ·rintro u13 hl14 hr15 s10 rr18 h ho16
  refine aI hn 1 [0,8,9,10,11] ?_
  refine ab ?_
  refine al _ rfl (fun hb19 => ?_) (fun hb19 => ?_)
  ·have h:=ap hb19 h
   refine ar ?_
   refine ag (ab ?_)
   refine aH (ab ?_)
   obtain ⟨v2,hv2,h⟩:=zn h
   obtain ⟨v3,hv3,h⟩:=zn h
   refine yx hn 0 ?_
   refine ys 0 ⟨li hv2⟩ ?_
   refine ys 1 ⟨ll hv3⟩ ?_
   refine aT [0,8,9,10,7] ?_
   refine ab ?_
   obtain ⟨v4,hv4,h⟩:=zn h
   refine yx hn 2 ?_
   refine ys 0 ⟨lk call136 (ed _ _ _ hv4)⟩ ?_
   refine aT [0,8,9,10,7,16] ?_
   refine al _ rfl (fun hb20 => ?_) (fun hb20 => ?_)
   ·have h:=ap hb20 h
    refine aI hn 3 [4,5] ?_
    refine am (aG (ai (ai (aG (ai ?_)))))
    have h:=hr15 _ (ho16 _ (zi h).symm).symm
    obtain rfl:=zi h
    exact ao hio rfl (.tmp _ _ (.tmp _ _ .nil)) rfl rfl
   ·have h:=aq hb20 h
    refine ar (aJ (ag ?_))
    obtain ⟨v6,hv6,h⟩:=zn h
    refine yx hn 0 ?_
    refine ys 0 ⟨lb hv6⟩ ?_
    refine yw [10] 1 ?_
    refine ye [0,8,9,10] ?_
    exact bi _ (zi h).symm rfl
  ·have h:=aq hb19 h
   refine bh (aB (aB (bf ?_)))
   refine ah [] (by kernel_rfl) (es':=[]) rfl ?_
   exact hl14 _ (ho16 _ (zi h).symm).symm
theorem nw (kind:Int) (key:Fa) (val:Fa) (r:(ay×Bool)) (h:Sh.iO kind key val=some r):bL Tryz.prog 186 [.v (.int .i64 kind),.v (.string key),.v (.string val)] (.tup [.agg [.v (.string r.1.EF),.v (.string r.1.EZ)],.v (.bool r.2)]):=by
 unfold Sh.iO at h
 refine yO 62 func186 fun g0 hn hio => ?_
 refine eC hn 0 ?_
 refine yS (.box 181 [vs z0,vs z0]) 1 ⟨oA (aP _ _ oy)⟩ ?_
 refine aT [0,1,2,6] ?_
 refine ab (aH (ab ?_))
 refine aD h (fun (s1:Bool)=>[(0,vi kind),(1,vs key),(2,vs val),(6,.box 181 [vs z0,vs z0]),(14,vb s1)]) ?_ ?_
 ·rintro s1 h
  refine ag ?_
  refine al _ rfl (fun hb5 => ?_) (fun hb5 => ?_)
  ·have h:=ap hb5 h
   refine ab ?_
   obtain ⟨v6,hv6,h⟩:=zn h
   refine yx hn 1 ?_
   refine ys 0 ⟨lk call207 (pj _ _ _ hv6)⟩ ?_
   refine ym 4 ?_
   refine aT [2,6,9] ?_
   refine eC hn 1 ?_
   refine yS (.agg [vs (⟨#[83,73,90,69]⟩:Fa),vs val]) 3 ⟨bn _ _ _ _ [1,1] _ _ underlying181 oy (vE _ underlying181) (.copy _ (.copy _ km.nil)) rfl rfl rfl⟩ ?_
   refine aT [6,7] ?_
   refine am (aG (ai ?_))
   obtain rfl:=zi h
   exact ao hio rfl (.cellA _ _ _ _ underlying181 rfl nt (.tmp _ _ .nil)) rfl rfl
  ·have h:=aq hb5 h
   refine ab ?_
   refine aD h (fun (s7:Bool)=>[(0,vi kind),(1,vs key),(2,vs val),(6,.box 181 [vs z0,vs z0]),(29,vb s7)]) ?_ ?_
   ·rintro s7 h
    refine ag ?_
    refine al _ rfl (fun hb11 => ?_) (fun hb11 => ?_)
    ·have h:=ap hb11 h
     refine ab ?_
     obtain ⟨v12,hv12,h⟩:=zn h
     refine yx hn 1 ?_
     refine yS (.fl (.own 9) 1 (map Value.string ([(⟨#[70,85,76,76]⟩:Fa),(⟨#[72,68,82,83]⟩:Fa)]))) 0 ⟨bb _ _ 1 (.string ByteArray.empty) (map Value.string ([(⟨#[70,85,76,76]⟩:Fa),(⟨#[72,68,82,83]⟩:Fa)])) [(0,.string (⟨#[70,85,76,76]⟩:Fa)),(1,.string (⟨#[72,68,82,83]⟩:Fa))] underlying49 pW Cf (fun _ V w o a hv hes=>by simp only [List.map_toArray,List.map_cons,List.map_nil]; try rfl) (cn (by simp [Instr.fill,Value.cells]; rfl) (by simp [List.range,List.range.loop] <;> rfl)) (by simp [Value.oneCell']) rfl (by decide) (by decide) (by decide)⟩ ?_
     refine ys 0 ⟨lk call208 (ml _ _ _ hv12)⟩ ?_
     refine ym 4 ?_
     refine aT [6,10,11] ?_
     refine eC hn 1 ?_
     refine yS (.agg [vs (⟨#[82,69,84]⟩:Fa),vs v12.1]) 3 ⟨bn _ _ _ _ [1,1] _ _ underlying181 oy (vE _ underlying181) (.copy _ (.copy _ km.nil)) rfl rfl rfl⟩ ?_
     refine aT [6,7] ?_
     refine am (aG (ai ?_))
     obtain rfl:=zi h
     exact ao hio rfl (.cellA _ _ _ _ underlying181 rfl nt (.tmp _ _ .nil)) rfl rfl
    ·have h:=aq hb11 h
     refine ab ?_
     refine aD h (fun (s13:Bool)=>[(2,vs val),(6,.box 181 [vs z0,vs z0]),(45,vb s13)]) ?_ ?_
     ·rintro s13 h
      refine ag ?_
      refine al _ rfl (fun hb17 => ?_) (fun hb17 => ?_)
      ·have h:=ap hb17 h
       refine ab ?_
       obtain ⟨v18,hv18,h⟩:=zn h
       refine yx hn 1 ?_
       refine yS (.fl (.own 9) 1 (map Value.string ([(⟨#[78,69,86,69,82]⟩:Fa),(⟨#[70,65,73,76,85,82,69]⟩:Fa)]))) 0 ⟨bb _ _ 1 (.string ByteArray.empty) (map Value.string ([(⟨#[78,69,86,69,82]⟩:Fa),(⟨#[70,65,73,76,85,82,69]⟩:Fa)])) [(0,.string (⟨#[78,69,86,69,82]⟩:Fa)),(1,.string (⟨#[70,65,73,76,85,82,69]⟩:Fa))] underlying49 pW Cf (fun _ V w o a hv hes=>by simp only [List.map_toArray,List.map_cons,List.map_nil]; try rfl) (cn (by simp [Instr.fill,Value.cells]; rfl) (by simp [List.range,List.range.loop] <;> rfl)) (by simp [Value.oneCell']) rfl (by decide) (by decide) (by decide)⟩ ?_
       refine ys 0 ⟨lk call208 (ml _ _ _ hv18)⟩ ?_
       refine ym 4 ?_
       refine aT [6,12,13] ?_
       refine eC hn 1 ?_
       refine yS (.agg [vs (⟨#[78,79,84,73,70,89]⟩:Fa),vs v18.1]) 3 ⟨bn _ _ _ _ [1,1] _ _ underlying181 oy (vE _ underlying181) (.copy _ (.copy _ km.nil)) rfl rfl rfl⟩ ?_
       refine aT [6,7] ?_
       refine am (aG (ai ?_))
       obtain rfl:=zi h
       exact ao hio rfl (.cellA _ _ _ _ underlying181 rfl nt (.tmp _ _ .nil)) rfl rfl
      ·have h:=aq hb17 h
       refine ar (aJ (ag ?_))
       refine eC hn 0 ?_
       refine yS (.agg [vs z0,vs z0]) 0 ⟨bn _ _ _ _ [1,1] _ _ underlying181 oy (vE _ underlying181) km.nil rfl rfl rfl⟩ ?_
       refine yk [61,6] [] ?_
       refine yt (6,.box 181 [vs z0,vs z0]) 1 ⟨cA _ _ _ 61 6 2 nt rfl rfl rfl rfl rfl (.eq _ (.eq _ (.nil _))) rfl⟩ ?_
       refine aT [6,7] ?_
       refine am ?_
       obtain rfl:=zi h
       exact ao hio rfl (.cellA _ _ _ _ underlying181 rfl nt (.tmp _ _ .nil)) rfl rfl
     ·intro u14 h hl15 hr16
      refine ak h (fun hg7_2 h => ?_) (fun hg7_2 h => ?_)
      ·refine yx hn 3 ?_
       refine yd hg7_2 4 ?_
       refine ye [2,6,45] ?_
       exact hl15 _ (zi h).symm
      ·refine yx hn 3 ?_
       refine yd hg7_2 4 ?_
       refine ye [2,6,45] ?_
       exact hl15 _ (zi h).symm
   ·intro u8 h hl9 hr10
    refine ak h (fun hg4_2 h => ?_) (fun hg4_2 h => ?_)
    ·refine yx hn 3 ?_
     refine yd hg4_2 4 ?_
     refine ye [0,1,2,6,29] ?_
     exact hl9 _ (zi h).symm
    ·refine yx hn 3 ?_
     refine yd hg4_2 4 ?_
     refine ye [0,1,2,6,29] ?_
     exact hl9 _ (zi h).symm
 ·intro u2 h hl3 hr4
  refine ak h (fun hg1_2 h => ?_) (fun hg1_2 h => ?_)
  ·refine yx hn 3 ?_
   refine yd hg1_2 4 ?_
   refine ye [0,1,2,6,14] ?_
   exact hl3 _ (zi h).symm
  ·refine yx hn 3 ?_
   refine yd hg1_2 4 ?_
   refine ye [0,1,2,6,14] ?_
   exact hl3 _ (zi h).symm
theorem jm (bx:Nat) (q:ay) (cap:ay) (r:Bool) (h:Sh.dX q cap=some r):fk Tryz.prog [(bx,[.string cap.EF,.string cap.EZ])] 188 [.agg [.v (.string q.EF),.v (.string q.EZ)],.v (.pointer (some ⟨bx,0,none⟩))] (.v (.bool r)):=by
 unfold Sh.dX at h
 refine yG 9 func188 fun g0 hn hio => ?_
 refine aI hn 2 [1,9,2] ?_
 refine eC hn 2 ?_
 refine yS (.v (.pointer (some ⟨bx,0,none⟩))) 0 ⟨qw _ _ _ _ bx 0 _ underlying181 rfl pW rfl rfl⟩ ?_
 refine yS (vs cap.EF) 2 ⟨jZ _ _ 9 bx 0 _ _ underlying9 rfl rfl rfl (.head _) rfl⟩ ?_
 refine aT [9,3] ?_
 refine am ?_
 refine ah [1] (by kernel_rfl) (es':=[(_,_)]) rfl ?_
 obtain rfl:=zi h
 exact ao hio rfl (.tmp _ _ .nil) rfl rfl
theorem cm (bx:Nat) (s:(List ay)) (cap:ay) (r:Int) (h:Sh.bc s cap=some r):fk Tryz.prog [(bx,[.string cap.EF,.string cap.EZ])] 209 [.fl .shr 2 (flatten (map ay.enc s)),.v (.func (.func 188) #[] #[.pointer (some ⟨bx,0,none⟩)])] (.v (.int .i64 r)):=by
 unfold Sh.bc at h
 refine yG 19 func209 fun g0 hn hio => ?_
 refine aI hn 1 [0,1,19] ?_
 refine ab ?_
 refine aI hn 3 [0,1,19,7,8] ?_
 refine aX h (fun (s10:Int)=>[(0,.fl .shr 2 (flatten (map ay.enc s))),(1,.v (.func (.func 188) #[] #[.pointer (some ⟨bx,0,none⟩)])),(19,.glob [(bx,[.string cap.EF,.string cap.EZ])]),(7,vi (s.length:Int)),(8,vi s10)]) (fun (():Unit)=>[(19,.glob [(bx,[.string cap.EF,.string cap.EZ])])]) ?_ ?_
 ·rintro ⟨⟩ h
  refine ag ?_
  refine aI hn 1 [19,4] ?_
  refine am ?_
  refine ah [1] (by kernel_rfl) (es':=[(_,_)]) rfl ?_
  obtain rfl:=zi h
  exact ao hio rfl (.tmp _ _ .nil) rfl rfl
 ·rintro u13 hl14 hr15 s10 rr18 h ho16
  refine aI hn 1 [0,1,19,7,8,9] ?_
  refine ab ?_
  refine al _ rfl (fun hb19 => ?_) (fun hb19 => ?_)
  ·have h:=ap hb19 h
   refine ar ?_
   refine ag (ab ?_)
   refine aH ?_
   refine aI hn 2 [0,1,19,7,8,5] ?_
   refine ab ?_
   obtain ⟨v2,hv2,h⟩:=zn h
   obtain ⟨v3,hv3,h⟩:=zn h
   obtain ⟨v4,hv4,h⟩:=zn h
   refine yx hn 3 ?_
   refine ys 0 ⟨lj hv2⟩ ?_
   refine yS (.agg [vs v3.EF,vs v3.EZ]) 0 ⟨gz _ _ _ _ _ _ _ underlying181 rfl nt rfl rfl (jp ay.len hv3) rfl (by decide)⟩ ?_
   refine yS (vb v4) 0 ⟨xr _ _ 19 188 (.pointer (some ⟨bx,0,none⟩)) _ _ rfl call188 rfl rfl (fun _ h=>h) (jm bx v3 cap _ hv4) rfl rfl⟩ ?_
   refine aT [0,1,19,7,8,5,16] ?_
   refine al _ rfl (fun hb20 => ?_) (fun hb20 => ?_)
   ·have h:=ap hb20 h
    refine aI hn 2 [19,4] ?_
    refine am ?_
    refine ah [1] (by kernel_rfl) (es':=[(_,_)]) rfl ?_
    refine aG (ai (ai (aG (ai ?_))))
    have h:=hr15 _ (ho16 _ (zi h).symm).symm
    obtain rfl:=zi h
    exact ao hio rfl (.tmp _ _ .nil) rfl rfl
   ·have h:=aq hb20 h
    refine ar (aJ (ag ?_))
    obtain ⟨v6,hv6,h⟩:=zn h
    refine yx hn 0 ?_
    refine ys 0 ⟨lb hv6⟩ ?_
    refine yw [8] 1 ?_
    refine ye [0,1,19,7,8] ?_
    exact bi _ (zi h).symm rfl
  ·have h:=aq hb19 h
   refine bh (aB (aB (bf ?_)))
   refine ah [2] (by kernel_rfl) (es':=[(_,_)]) rfl ?_
   exact hl14 _ (ho16 _ (zi h).symm).symm
theorem bY (bx:Nat) (s:(List ay)) (cap:ay) (r:Bool) (h:Sh.aY s cap=some r):fk Tryz.prog [(bx,[.string cap.EF,.string cap.EZ])] 187 [.fl .shr 2 (flatten (map ay.enc s)),.v (.func (.func 188) #[] #[.pointer (some ⟨bx,0,none⟩)])] (.v (.bool r)):=by
 unfold Sh.aY at h
 refine yG 9 func187 fun g0 hn hio => ?_
 refine aI hn 1 [0,1,9] ?_
 refine ab ?_
 obtain ⟨v1,hv1,h⟩:=zn h
 refine yx hn 2 ?_
 refine ys 2 ⟨lg call209 (cm _ _ _ _ hv1) 9⟩ ?_
 refine aT [9,4] ?_
 refine am ?_
 refine ah [1] (by kernel_rfl) (es':=[(_,_)]) rfl ?_
 obtain rfl:=zi h
 exact ao hio rfl (.tmp _ _ .nil) rfl rfl
theorem mK (mx:Int×Nat×Value) (kind:Int) (s:Fa) (r:((List ay)×Bool)) (h:Sh.hZ kind s=some r):fk Tryz.prog (GL mx) 159 [.v (.int .i64 kind),.v (.string s)] (.tup [.fl .ro 2 (flatten (map ay.enc r.1)),.v (.bool r.2)]):=by
 unfold Sh.hZ at h
 refine yG 53 func159 fun g0 hn hio => ?_
 refine eC hn 1 ?_
 refine yS (.box 120 [vz]) 0 ⟨oA (aP _ _ zS)⟩ ?_
 refine yS (.box 4 [vb false]) 0 ⟨oA (aP _ _ CL)⟩ ?_
 refine aT [1,53,2,4,5] ?_
 refine eC hn 0 ?_
 refine yS (.box 120 [vz]) 0 ⟨oA (aP _ _ zS)⟩ ?_
 refine aT [1,53,2,4,5,6] ?_
 refine ab ?_
 refine aI hn 2 [1,53,2,4,5,6,15] ?_
 refine al _ rfl (fun hb33 => ?_) (fun hb33 => ?_)
 ·have h:=ap hb33 h
  refine aI hn 3 [53,4,5] ?_
  refine am ?_
  refine ah [1,2] (by kernel_rfl) (es':=[(_,_),(_,_)]) rfl ?_
  refine bT (fs:=[(4,.box 120 [.fl (.own 181) 2 (flatten (map ay.enc []))]),(5,.box 4 [vb true])]) (.box _ _ (af (bC 181 2) (bj)) rfl (.same _ .nil)) ?_
  refine dF 0 hio (es':=[(4,.box 120 [.fl .ro 2 (flatten (map ay.enc []))]),(5,.box 4 [.v (.bool true)])]) rfl ?_
  refine ai ?_
  obtain rfl:=zi h
  exact ao hio rfl (.cell1 _ _ _ _ underlying120 rfl (.cell1 _ _ _ _ underlying4 rfl .nil)) rfl rfl
 ·have h:=aq hb33 h
  refine ar ?_
  refine ag (ab ?_)
  obtain ⟨v2,hv2,h⟩:=zn h
  refine yx hn 1 ?_
  refine ys 0 ⟨lk call184 (gN _ _ _ hv2)⟩ ?_
  refine ym 2 ?_
  refine yw [1] 2 ?_
  refine aT [53,2,4,5,6,1,7] ?_
  refine ab ?_
  refine aI hn 2 [53,2,4,5,6,1,23] ?_
  refine al _ rfl (fun hb34 => ?_) (fun hb34 => ?_)
  ·have h:=ap hb34 h
   refine aI hn 2 [53,4,5] ?_
   refine am ?_
   refine ah [1,2] (by kernel_rfl) (es':=[(_,_),(_,_)]) rfl ?_
   refine bT (fs:=[(4,.box 120 [.fl (.own 181) 2 (flatten (map ay.enc []))]),(5,.box 4 [vb false])]) (.box _ _ (af (bC 181 2) (bj)) rfl (.same _ .nil)) ?_
   refine dF 0 hio (es':=[(4,.box 120 [.fl .ro 2 (flatten (map ay.enc []))]),(5,.box 4 [.v (.bool false)])]) rfl ?_
   refine ai ?_
   obtain rfl:=zi h
   exact ao hio rfl (.cell1 _ _ _ _ underlying120 rfl (.cell1 _ _ _ _ underlying4 rfl .nil)) rfl rfl
  ·have h:=aq hb34 h
   refine ar ?_
   refine ag (ab ?_)
   refine ab ?_
   obtain ⟨v4,hv4,h⟩:=zn h
   refine yx hn 1 ?_
   refine yk [] [24] ?_
   refine yt (25,.cloB 119 [.box 9 [vs v4.1],.box 9 [vs v4.2.1],.box 3 [vi v4.2.2]]) 0 ⟨eR _ _ 80 _ _ rfl call80 rfl rfl (eK v2.1 (⟨#[32]⟩:Fa) _ hv4) rfl⟩ ?_
   refine aT [53,2,4,5,6,25] ?_
   refine aH ?_
   refine gJ [5,0,1,2,3,4] (by kernel_rfl) (es':=[(25,.cloB 119 [.box 9 [vs v4.1],.box 9 [vs v4.2.1],.box 3 [vi v4.2.2]]),(53,.glob (GL mx)),(2,.box 3 [vi kind]),(4,.box 120 [vz]),(5,.box 4 [vb false]),(6,.box 120 [vz])]) rfl ?_
   refine nH (fs:=[(25,.cloB 119 [.box 9 [vs v4.1],.box 9 [vs v4.2.1],.box 3 [vi v4.2.2]]),(53,.glob (GL mx)),(2,.box 3 [vi kind]),(4,.box 120 [vz]),(5,.box 4 [vb false]),(6,.box 120 [.fl (.own 181) 2 (flatten (map ay.enc []))])]) (.same _ (.same _ (.same _ (.same _ (.same _ (.box _ _ (af (bC 181 2) (bj)) rfl .nil)))))) ?_
   refine fx h 119 25 26 54 _ [53,2,4,5,6] call119 (fun (s46:(List ay))=>[(53,.glob (GL mx)),(2,.box 3 [.v (.int .i64 kind)]),(4,.box 120 [vz]),(5,.box 4 [.v (.bool false)]),(6,.box 120 [.fl (.own 181) 2 (flatten (map ay.enc s46))])]) (fun (s52:(List ay))=>[(53,.glob (GL mx)),(2,.box 3 [.v (.int .i64 kind)]),(4,.box 120 [vz]),(5,.box 4 [.v (.bool false)]),(6,.box 120 [.fl (.own 181) 2 (flatten (map ay.enc s52))])]) (fun l J Y hY t t' h=>dV mx l J Y hY v4.1 v4.2.1 v4.2.2 t t' h) hn rfl (fun _=>rfl) (fun _=>rfl) (fun _=>rfl) rfl rfl (fun _=>⟨rfl,rfl⟩) rfl (fw 53 rfl) ?_ ?_ ?_
   ·rintro kk g0 hn hio x s46 u h
    refine oY (es':=[(26,vs x),(53,.glob (GL mx)),(2,.box 3 [vi kind]),(4,.box 120 [vz]),(5,.box 4 [vb false]),(6,.box 120 [.fl (.own 181) 2 (flatten (map ay.enc s46))]),(53,.v (kk.tm.getD 53 undef)),(2,.v (kk.tm.getD 2 undef)),(4,.v (kk.tm.getD 4 undef)),(5,.v (kk.tm.getD 5 undef)),(6,.v (kk.tm.getD 6 undef)),(54,.inv kk.ready)]) rfl ?_
    refine yy hn 1 [53,2,4,5,6,54,8,53,2,4,5,6] ?_
    refine ah [0,1,2,3,4,6,7,8,9,10,11,5] (by kernel_rfl) (es':=[(53,.glob (GL mx)),(2,.box 3 [vi kind]),(4,.box 120 [vz]),(5,.box 4 [vb false]),(6,.box 120 [.fl (.own 181) 2 (flatten (map ay.enc s46))]),(8,vs x),(53,.v (kk.tm.getD 53 undef)),(2,.v (kk.tm.getD 2 undef)),(4,.v (kk.tm.getD 4 undef)),(5,.v (kk.tm.getD 5 undef)),(6,.v (kk.tm.getD 6 undef)),(54,.inv kk.ready)]) rfl ?_
    refine gR (es:=[(53,.glob (GL mx)),(2,.box 3 [vi kind]),(4,.box 120 [vz]),(5,.box 4 [vb false]),(6,.box 120 [.fl (.own 181) 2 (flatten (map ay.enc s46))]),(8,vs x),(53,.v (kk.tm.getD 53 undef)),(2,.v (kk.tm.getD 2 undef)),(4,.v (kk.tm.getD 4 undef)),(5,.v (kk.tm.getD 5 undef)),(6,.v (kk.tm.getD 6 undef))]) 54 rfl ?_
    refine aH (ab ?_)
    obtain ⟨v5,hv5,h⟩:=zn h
    refine yx hn 1 ?_
    refine ys 0 ⟨lk call134 (fW _ _ _ hv5)⟩ ?_
    refine ym 6 ?_
    refine aT [53,2,4,5,6,54,9,10,53,2,4,5,6] ?_
    refine ab ?_
    obtain ⟨v6,hv6,h⟩:=zn h
    obtain ⟨v7,hv7,h⟩:=zn h
    refine nu (by kernel_rfl) hn (El:=(_::_::_::_::_::_::_::_::_::_::_::_::_::(34,vi kind)::(35,vs v5.1)::(36,vs v6)::(37,vs v5.2.1)::(38,.tup [.agg [vs v7.1.EF,vs v7.1.EZ],vb v7.2])::(33,.tup [.agg [vs v7.1.EF,vs v7.1.EZ],.any])::(33,.tup [.any,vb v7.2])::(39,.agg [vs v7.1.EF,vs v7.1.EZ])::(33,.tup [.any,.any])::(40,vb v7.2)::(12,.box 181 [vs z0,vs z0])::(12,.box 181 [vs v7.1.EF,vs v7.1.EZ])::(13,vb v7.2)::[])) (init:=[0,1,2,3,4,5,6,7,8,9,10,11,12]) (fin:=[0,1,2,3,4,5,24,25,8,9,10,11,12]) (sps:=[zq [1] 13 34,zq [6] 14 35,zq [14] 15 36,zq [7] 16 37,zq [13,15,16] 17 38,⟨[],[17],[18,19],[(.slot 33)]⟩,⟨[],[18],[21,20],[(.slot 39)]⟩,zq [19] 22 40,zq [] 23 12,⟨[20],[23],[24],[.cell 12 0,.cell 12 1]⟩,zq [22] 25 13]) (es':=[(_,_),(_,_),(_,_),(_,_),(_,_),(_,_),(12,.box 181 [vs v7.1.EF,vs v7.1.EZ]),(13,vb v7.2),(_,_),(_,_),(_,_),(_,_),(_,_)]) (by kernel_rfl) rfl rfl ⟨zp rfl (oL underlying3 rfl),z1 rfl,zp rfl (pw _ _ 71 _ _ rfl call71 rfl (dh v5.1 _ hv6) rfl rfl),z1 rfl,zp rfl (pw _ _ 186 _ _ rfl call186 rfl (nw kind v6 v5.2.1 _ hv7) rfl rfl),zp rfl (aL.split (A:=[]) 33 0 _ _ _ (iq _ _ _ _ rfl) (zl rfl) rfl rfl),zp rfl (eZ _ _ _ _ _ rfl (zl rfl) rfl rfl (by decide) rfl),zp rfl (oE rfl),zp rfl (aP _ _ oy),zp rfl (oS nt rfl),z2 rfl,zz⟩ ?_
    refine ag (ab ?_)
    refine ab ?_
    refine aD h (fun (s53:Bool)=>[(53,.glob (GL mx)),(2,.box 3 [vi kind]),(4,.box 120 [vz]),(5,.box 4 [vb false]),(6,.box 120 [.fl (.own 181) 2 (flatten (map ay.enc s46))]),(54,.inv kk.busy),(12,.box 181 [vs v7.1.EF,vs v7.1.EZ]),(47,vb s53),(53,.v (kk.tm.getD 53 undef)),(2,.v (kk.tm.getD 2 undef)),(4,.v (kk.tm.getD 4 undef)),(5,.v (kk.tm.getD 5 undef)),(6,.v (kk.tm.getD 6 undef))]) ?_ ?_
    ·rintro s53 h
     refine ag ?_
     refine al _ rfl (fun hb57 => ?_) (fun hb57 => ?_)
     ·have h:=ap hb57 h
      refine aI hn 2 [53,2,4,5,6,54,53,2,4,5,6] ?_
      refine am (ai (aG ?_))
      refine ah [0,1,2,3,4,6,7,8,9,10,5] (by kernel_rfl) (es':=[(_,_),(_,_),(_,_),(_,_),(_,_),(_,_),(_,_),(_,_),(_,_),(_,_),(_,_)]) rfl ?_
      obtain rfl:=zi h
      exact mU 54 [53,2,4,5,6] _ rfl rfl (by kernel_rfl)
     ·have h:=aq hb57 h
      refine ar (ag ?_)
      obtain ⟨v14,hv14,h⟩:=zn h
      refine yx hn 2 ?_
      refine yS (.fl (.own 181) 2 (flatten (map ay.enc [v7.1]))) 0 ⟨bb _ _ 2 (.agg #[.string ByteArray.empty,.string ByteArray.empty]) (flatten (map ay.enc [v7.1])) [(0,.agg #[.string v7.1.EF,.string v7.1.EZ])] underlying120 nt oy (fun _ V w o a hv hes=>by have e0:=zR (ys:=[.string v7.1.EF,.string v7.1.EZ]) hv hes (x := .tmp 49) rfl; simp only [List.map_toArray,List.map_cons,List.map_nil,e0]; try rfl) (cn (by simp [Instr.fill,Value.cells]; rfl) (by simp [List.range,List.range.loop,ay.enc] <;> rfl)) (by simp [Value.oneCell',ay.enc]) rfl (by decide) (by decide) (by decide)⟩ ?_
      refine yk [6] [48,50] ?_
      refine kU (6,.box 120 [.any]) (51,.fl (.own 181) 2 (flatten (map ay.enc v14))) 0 ⟨fv _ _ _ _ _ _ Cl rfl rfl (zl rfl) rfl (iH ay.len _) (iH ay.len _) hv14 (th (im hv14)) (Nat.ne_of_beq_eq_false rfl) rfl rfl⟩ ?_
      refine yw [48] 0 ?_
      refine yk [51,6] [] ?_
      refine yt (6,.box 120 [.fl (.own 181) 2 (flatten (map ay.enc v14))]) 0 ⟨aK _ _ _ _ _ _ _ _ Cr rfl rfl rfl (zl rfl) rfl rfl⟩ ?_
      refine ye [53,2,4,5,6,54,53,2,4,5,6] ?_
      refine aJ ?_
      refine ah [0,1,2,3,4,6,7,8,9,10,5] (by kernel_rfl) (es':=[(_,_),(_,_),(_,_),(_,_),(_,_),(_,_),(_,_),(_,_),(_,_),(_,_),(_,_)]) rfl ?_
      obtain rfl:=zi h
      exact gT 54 [53,2,4,5,6] _ rfl rfl (by kernel_rfl)
    ·intro u54 h hl55 hr56
     refine ak h (fun hg11_2 h => ?_) (fun hg11_2 h => ?_)
     ·refine yx hn 3 ?_
      refine yd hg11_2 4 ?_
      refine ye [53,2,4,5,6,54,12,47,53,2,4,5,6] ?_
      exact hl55 _ (zi h).symm
     ·obtain ⟨v8,hv8,h⟩:=zn h
      refine yx hn 3 ?_
      refine yd hg11_2 1 ?_
      refine yS (.clo 188 [12]) 0 ⟨jr _ _ _ 12 (by decide)⟩ ?_
      refine yS (vb v8) 1 ⟨xG _ 46 12 45 187 188 [.string v7.1.EF,.string v7.1.EZ] [.tmp 44] _ _ rfl call187 rfl rfl rfl rfl (fun bx=>bY bx s46 v7.1 _ hv8) rfl rfl⟩ ?_
      refine ye [53,2,4,5,6,54,12,47,53,2,4,5,6] ?_
      exact hl55 _ (zi h).symm
   ·rintro D s46 h
    refine aJ ?_
    refine ag (ab ?_)
    refine pT 4 hio (es':=[(53,.glob (GL mx)),(2,.box 3 [.v (.int .i64 kind)]),(4,.box 120 [vz]),(5,.box 4 [.v (.bool false)]),(6,.box 120 [.fl .ro 2 (flatten (map ay.enc s46))])]) rfl ?_
    refine yy hn 3 [53,4,5] ?_
    refine ag (am ?_)
    refine ah [1,2] (by kernel_rfl) (es':=[(_,_),(_,_)]) rfl ?_
    obtain rfl:=zi h
    exact ao hio rfl (.cell1 _ _ _ _ underlying120 rfl (.cell1 _ _ _ _ underlying4 rfl .nil)) rfl rfl
   ·rintro D s52 h
    refine ah [2,3] (by kernel_rfl) (es':=[(_,_),(_,_)]) rfl ?_
    refine bT (fs:=[(4,.box 120 [.fl (.own 181) 2 (flatten (map ay.enc []))]),(5,.box 4 [vb false])]) (.box _ _ (af (bC 181 2) (bj)) rfl (.same _ .nil)) ?_
    refine dF 0 hio (es':=[(4,.box 120 [.fl .ro 2 (flatten (map ay.enc []))]),(5,.box 4 [.v (.bool false)])]) rfl ?_
    refine aG (ai ?_)
    obtain rfl:=zi h
    exact ao hio rfl (.cell1 _ _ _ _ underlying120 rfl (.cell1 _ _ _ _ underlying4 rfl .nil)) rfl rfl
theorem lW (mx:Int×Nat×Value) (kind:Int) (line:Fa) (r:(br×Bool)) (h:Sh.gu kind line=some r):fk Tryz.prog (GL mx) 137 [.v (.int .i64 kind),.v (.string line)] (.tup [.agg [.v (.int .i64 r.1.EG),.v (.string r.1.EX),.v (.bool r.1.EQ.EM),.v (.string r.1.EQ.EI),.v (.string r.1.EQ.Ex),.fl .ro 2 (flatten (map ay.enc r.1.EP))],.v (.bool r.2)]):=by
 unfold Sh.gu at h
 refine yG 56 func137 fun g0 hn hio => ?_
 refine eC hn 0 ?_
 refine yS (.box 122 [vi 0,vs z0,vb false,vs z0,vs z0,vz]) 1 ⟨oA (aP _ _ jt)⟩ ?_
 refine aT [0,1,56,4] ?_
 refine ab ?_
 obtain ⟨v1,hv1,h⟩:=zn h
 obtain ⟨v2,hv2,h⟩:=zn h
 refine yx hn 2 ?_
 refine ys 0 ⟨lk call157 (po _ _ hv1)⟩ ?_
 refine ys 0 ⟨lk call135 (kf _ _ _ hv2)⟩ ?_
 refine ym 4 ?_
 refine aT [0,56,4,6,7] ?_
 refine ab ?_
 refine aI hn 2 [0,56,4,6,20] ?_
 refine al _ rfl (fun hb15 => ?_) (fun hb15 => ?_)
 ·have h:=ap hb15 h
  refine eC hn 0 ?_
  refine yS (.agg [vi 0,vs z0,vb false,vs z0,vs z0,vz]) 0 ⟨bn _ _ _ _ [1,1,3,1] _ _ underlying122 jt (ql _ underlying122) km.nil rfl rfl rfl⟩ ?_
  refine yk [21,4] [] ?_
  refine yt (4,.box 122 [vi 0,vs z0,vb false,vs z0,vs z0,vz]) 1 ⟨cA _ _ _ 21 4 6 eA rfl rfl rfl rfl rfl (.eq _ (.eq _ (.eq _ (.eq _ (.eq _ (.eq _ (.nil _))))))) rfl⟩ ?_
  refine aT [56,4,5] ?_
  refine am ?_
  refine ah [1,2] (by kernel_rfl) (es':=[(_,_),(_,_)]) rfl ?_
  refine bT (fs:=[(4,.box 122 [vi 0,vs z0,vb false,vs z0,vs z0,.fl (.own 181) 2 (flatten (map ay.enc []))]),(5,vb false)]) (.box _ _ (af (aj _) (af (aj _) (af (aj _) (af (aj _) (af (aj _) (af (bC 181 2) (bj))))))) rfl (.same _ .nil)) ?_
  refine dF 0 hio (es':=[(4,.box 122 [.v (.int .i64 0),.v (.string (⟨#[]⟩:Fa)),.v (.bool false),.v (.string (⟨#[]⟩:Fa)),.v (.string (⟨#[]⟩:Fa)),.fl .ro 2 (flatten (map ay.enc []))]),(5,.v (.bool false))]) rfl ?_
  refine ai ?_
  obtain rfl:=zi h
  exact ao hio rfl (.cellA _ _ _ _ underlying122 rfl eA (.tmp _ _ .nil)) rfl rfl
 ·have h:=aq hb15 h
  refine ar ?_
  refine ag (ab ?_)
  obtain ⟨v4,hv4,h⟩:=zn h
  obtain ⟨v5,hv5,h⟩:=zn h
  refine yx hn 1 ?_
  refine ys 0 ⟨lk call121 (js _ _ _ hv4)⟩ ?_
  refine ys 1 ⟨lb hv5⟩ ?_
  refine aT [0,56,4,6,8] ?_
  refine ab ?_
  obtain ⟨v6,hv6,h⟩:=zn h
  obtain ⟨v7,hv7,h⟩:=zn h
  refine yx hn 2 ?_
  refine yS (vs v6) 0 ⟨cr _ _ _ 0 v5 _ underlying9 rfl rfl ⟨_,rfl⟩ hv6⟩ ?_
  refine ys 0 ⟨lg call158 (qG _ _ _ hv7) 56⟩ ?_
  refine ym 0 ?_
  refine yS (.agg [vb v7.1.EM,vs v7.1.EI,vs v7.1.Ex]) 1 ⟨dP _ _ _ _ _ _ rfl rfl (zl rfl) rfl rfl⟩ ?_
  refine yS (.box 26 [vb false,vs z0,vs z0]) 2 ⟨oA (aP _ _ pM)⟩ ?_
  refine aT [0,56,4,6,8,9,10] ?_
  refine ab (ab ?_)
  refine aD h (fun (s16:Bool)=>[(0,vi kind),(56,.glob (GL mx)),(4,.box 122 [vi 0,vs z0,vb false,vs z0,vs z0,vz]),(6,vs v2.1),(8,vi v5),(9,.box 26 [vb v7.1.EM,vs v7.1.EI,vs v7.1.Ex]),(41,vb s16)]) ?_ ?_
  ·rintro s16 h
   refine ag ?_
   refine al _ rfl (fun hb20 => ?_) (fun hb20 => ?_)
   ·have h:=ap hb20 h
    refine eC hn 0 ?_
    refine yS (.agg [vi 0,vs z0,vb false,vs z0,vs z0,vz]) 0 ⟨bn _ _ _ _ [1,1,3,1] _ _ underlying122 jt (ql _ underlying122) km.nil rfl rfl rfl⟩ ?_
    refine yk [42,4] [] ?_
    refine yt (4,.box 122 [vi 0,vs z0,vb false,vs z0,vs z0,vz]) 1 ⟨cA _ _ _ 42 4 6 eA rfl rfl rfl rfl rfl (.eq _ (.eq _ (.eq _ (.eq _ (.eq _ (.eq _ (.nil _))))))) rfl⟩ ?_
    refine aT [56,4,5] ?_
    refine am ?_
    refine ah [1,2] (by kernel_rfl) (es':=[(_,_),(_,_)]) rfl ?_
    refine bT (fs:=[(4,.box 122 [vi 0,vs z0,vb false,vs z0,vs z0,.fl (.own 181) 2 (flatten (map ay.enc []))]),(5,vb false)]) (.box _ _ (af (aj _) (af (aj _) (af (aj _) (af (aj _) (af (aj _) (af (bC 181 2) (bj))))))) rfl (.same _ .nil)) ?_
    refine dF 0 hio (es':=[(4,.box 122 [.v (.int .i64 0),.v (.string (⟨#[]⟩:Fa)),.v (.bool false),.v (.string (⟨#[]⟩:Fa)),.v (.string (⟨#[]⟩:Fa)),.fl .ro 2 (flatten (map ay.enc []))]),(5,.v (.bool false))]) rfl ?_
    refine ai ?_
    obtain rfl:=zi h
    exact ao hio rfl (.cellA _ _ _ _ underlying122 rfl eA (.tmp _ _ .nil)) rfl rfl
   ·have h:=aq hb20 h
    refine ar ?_
    refine ag (ab ?_)
    obtain ⟨v13,hv13,h⟩:=zn h
    obtain ⟨v14,hv14,h⟩:=zn h
    refine yx hn 3 ?_
    refine yS (vs v13) 0 ⟨cr _ _ _ v5 (v2.1.size:Int) _ underlying9 rfl ⟨_,rfl⟩ rfl hv13⟩ ?_
    refine ys 0 ⟨lg call159 (mK _ _ _ _ hv14) 56⟩ ?_
    refine ym 4 ?_
    refine aT [0,56,4,9,11,7] ?_
    refine eC hn 3 ?_
    refine yS (.agg [vi kind,vs z0,vb v7.1.EM,vs v7.1.EI,vs v7.1.Ex,.fl .ro 2 (flatten (map ay.enc v14.1))]) 3 ⟨bn _ _ _ _ [1,1,3,1] _ _ underlying122 jt (ql _ underlying122) (.copy _ (.copy _ (.copy _ km.nil))) rfl rfl rfl⟩ ?_
    refine aT [56,4,5] ?_
    refine am ?_
    refine ah [1,2] (by kernel_rfl) (es':=[(_,_),(_,_)]) rfl ?_
    obtain rfl:=zi h
    exact ao hio rfl (.cellA _ _ _ _ underlying122 rfl eA (.tmp _ _ .nil)) rfl rfl
  ·intro u17 h hl18 hr19
   refine ak h (fun hg6_2 h => ?_) (fun hg6_2 h => ?_)
   ·refine yx hn 3 ?_
    refine yd hg6_2 7 ?_
    refine ye [0,56,4,6,8,9,41] ?_
    exact hl18 _ (zi h).symm
   ·refine ak h (fun hg6_5 h => ?_) (fun hg6_5 h => ?_)
    ·refine yx hn 3 ?_
     refine yd hg6_2 3 ?_
     refine yd hg6_5 4 ?_
     refine ye [0,56,4,6,8,9,41] ?_
     exact hl18 _ (zi h).symm
    ·refine yx hn 3 ?_
     refine yd hg6_2 3 ?_
     refine yd hg6_5 4 ?_
     refine ye [0,56,4,6,8,9,41] ?_
     exact hl18 _ (zi h).symm
theorem pd (mx:Int×Nat×Value) (line:Fa) (r:(br×Bool)) (h:Sh.jV line=some r):fk Tryz.prog (GL mx) 111 [.v (.string line)] (.tup [.agg [.v (.int .i64 r.1.EG),.v (.string r.1.EX),.v (.bool r.1.EQ.EM),.v (.string r.1.EQ.EI),.v (.string r.1.EQ.Ex),.fl .ro 2 (flatten (map ay.enc r.1.EP))],.v (.bool r.2)]):=by
 unfold Sh.jV at h
 refine yG 65 func111 fun g0 hn hio => ?_
 refine eC hn 0 ?_
 refine yS (.box 122 [vi 0,vs z0,vb false,vs z0,vs z0,vz]) 1 ⟨oA (aP _ _ jt)⟩ ?_
 refine aT [0,65,2] ?_
 refine ab ?_
 obtain ⟨v1,hv1,h⟩:=zn h
 refine yx hn 1 ?_
 refine ys 0 ⟨lk call134 (fW _ _ _ hv1)⟩ ?_
 refine ym 6 ?_
 refine aT [0,65,2,5,6] ?_
 refine ab ?_
 obtain ⟨v2,hv2,h⟩:=zn h
 refine yx hn 1 ?_
 refine ys 0 ⟨lk call109 (kG _ _ hv2)⟩ ?_
 refine yS (.agg [vi v2,vs z0,vb false,vs z0,vs z0,vz]) 0 ⟨bn _ _ _ _ [1,1,3,1] _ _ underlying122 jt (ql _ underlying122) (.copy _ km.nil) rfl rfl rfl⟩ ?_
 refine yS (.box 122 [vi 0,vs z0,vb false,vs z0,vs z0,vz]) 1 ⟨oA (aP _ _ jt)⟩ ?_
 refine aT [0,65,2,5,6,7] ?_
 refine ab ?_
 refine aI hn 2 [0,65,2,5,6,7,18] ?_
 refine aH (ab ?_)
 refine aD h (fun (s30:Bool)=>[(0,vs line),(65,.glob (GL mx)),(2,.box 122 [vi 0,vs z0,vb false,vs z0,vs z0,vz]),(5,vs v1.2.1),(6,vb v1.2.2),(7,.box 122 [vi v2,vs z0,vb false,vs z0,vs z0,vz]),(18,vi v2),(19,vb s30)]) ?_ ?_
 ·rintro s30 h
  refine ag ?_
  refine al _ rfl (fun hb35 => ?_) (fun hb35 => ?_)
  ·have h:=ap hb35 h
   refine ab ?_
   obtain ⟨v10,hv10,h⟩:=zn h
   refine yx hn 3 ?_
   refine ys 0 ⟨lg call137 (lW _ _ _ _ hv10) 65⟩ ?_
   refine yS (.agg [vi v10.1.EG,vs v10.1.EX,vb v10.1.EQ.EM,vs v10.1.EQ.EI,vs v10.1.EQ.Ex,.fl .ro 2 (flatten (map ay.enc v10.1.EP))]) 3 ⟨dP _ _ _ _ _ _ rfl rfl (zl rfl) rfl rfl⟩ ?_
   refine aT [65,2,3] ?_
   refine am ?_
   refine ah [1,2] (by kernel_rfl) (es':=[(_,_),(_,_)]) rfl ?_
   refine aG (ai ?_)
   obtain rfl:=zi h
   exact ao hio rfl (.cellA _ _ _ _ underlying122 rfl eA (.tmp _ _ .nil)) rfl rfl
  ·have h:=aq hb35 h
   refine ab ?_
   refine aD h (fun (s37:Bool)=>[(65,.glob (GL mx)),(2,.box 122 [vi 0,vs z0,vb false,vs z0,vs z0,vz]),(5,vs v1.2.1),(6,vb v1.2.2),(7,.box 122 [vi v2,vs z0,vb false,vs z0,vs z0,vz]),(18,vi v2),(28,vb s37)]) ?_ ?_
   ·rintro s37 h
    refine ag ?_
    refine al _ rfl (fun hb42 => ?_) (fun hb42 => ?_)
    ·have h:=ap hb42 h
     refine aI hn 3 [65,2,5,7] ?_
     refine ab ?_
     obtain ⟨v18,hv18,h⟩:=zn h
     refine wb [[7],[5]] ?_
     refine wN [34,65] ?_
     refine wo [] ⟨lg call55 (bG _ _ _ hv18) 65⟩ ?_
     refine wK [2] [33] ?_
     refine wt [(2,.box 122 [vi v2,vs v1.2.1,vb false,vs z0,vs z0,vz])] [[35]] ⟨cW _ _ _ _ _ _ _ _ eA rfl rfl rfl rfl (zl rfl) rfl rfl⟩ ?_
     refine qR hn [65,2,3] ?_
     refine am ?_
     refine ah [1,2] (by kernel_rfl) (es':=[(_,_),(_,_)]) rfl ?_
     refine bT (fs:=[(2,.box 122 [vi v2,vs v1.2.1,vb false,vs z0,vs z0,.fl (.own 181) 2 (flatten (map ay.enc []))]),(3,vb v18)]) (.box _ _ (af (aj _) (af (aj _) (af (aj _) (af (aj _) (af (aj _) (af (bC 181 2) (bj))))))) rfl (.same _ .nil)) ?_
     refine dF 0 hio (es':=[(2,.box 122 [.v (.int .i64 v2),.v (.string v1.2.1),.v (.bool false),.v (.string (⟨#[]⟩:Fa)),.v (.string (⟨#[]⟩:Fa)),.fl .ro 2 (flatten (map ay.enc []))]),(3,.v (.bool v18))]) rfl ?_
     refine aG (ai ?_)
     obtain rfl:=zi h
     exact ao hio rfl (.cellA _ _ _ _ underlying122 rfl eA (.tmp _ _ .nil)) rfl rfl
    ·have h:=aq hb42 h
     refine aI hn 2 [65,2,5,6,7,18,36] ?_
     refine al _ rfl (fun hb43 => ?_) (fun hb43 => ?_)
     ·have h:=ap hb43 h
      refine aI hn 3 [65,2,5,7] ?_
      refine aI hn 5 [65,2,3] ?_
      refine am ?_
      refine ah [1,2] (by kernel_rfl) (es':=[(_,_),(_,_)]) rfl ?_
      refine bT (fs:=[(2,.box 122 [vi v2,vs v1.2.1,vb false,vs z0,vs z0,.fl (.own 181) 2 (flatten (map ay.enc []))]),(3,vb (!(v1.2.1.toList==z0.toList)))]) (.box _ _ (af (aj _) (af (aj _) (af (aj _) (af (aj _) (af (aj _) (af (bC 181 2) (bj))))))) rfl (.same _ .nil)) ?_
      refine dF 0 hio (es':=[(2,.box 122 [.v (.int .i64 v2),.v (.string v1.2.1),.v (.bool false),.v (.string (⟨#[]⟩:Fa)),.v (.string (⟨#[]⟩:Fa)),.fl .ro 2 (flatten (map ay.enc []))]),(3,.v (.bool ((!(v1.2.1.toList==(⟨#[]⟩:Fa).toList)))))]) rfl ?_
      refine aG (ai ?_)
      obtain rfl:=zi h
      exact ao hio rfl (.cellA _ _ _ _ underlying122 rfl eA (.tmp _ _ .nil)) rfl rfl
     ·have h:=aq hb43 h
      refine aI hn 2 [65,2,5,6,7,18,43] ?_
      refine al _ rfl (fun hb44 => ?_) (fun hb44 => ?_)
      ·have h:=ap hb44 h
       refine aI hn 3 [65,2,5,6,7] ?_
       refine ab ?_
       refine aD h (fun (s45:Bool)=>[(65,.glob (GL mx)),(2,.box 122 [vi v2,vs v1.2.1,vb false,vs z0,vs z0,vz]),(3,vb s45)]) ?_ ?_
       ·rintro s45 h
        refine ag (am ?_)
        refine ah [1,2] (by kernel_rfl) (es':=[(_,_),(_,_)]) rfl ?_
        refine bT (fs:=[(2,.box 122 [vi v2,vs v1.2.1,vb false,vs z0,vs z0,.fl (.own 181) 2 (flatten (map ay.enc []))]),(3,vb s45)]) (.box _ _ (af (aj _) (af (aj _) (af (aj _) (af (aj _) (af (aj _) (af (bC 181 2) (bj))))))) rfl (.same _ .nil)) ?_
        refine dF 0 hio (es':=[(2,.box 122 [.v (.int .i64 v2),.v (.string v1.2.1),.v (.bool false),.v (.string (⟨#[]⟩:Fa)),.v (.string (⟨#[]⟩:Fa)),.fl .ro 2 (flatten (map ay.enc []))]),(3,.v (.bool s45))]) rfl ?_
        refine aG (ai ?_)
        obtain rfl:=zi h
        exact ao hio rfl (.cellA _ _ _ _ underlying122 rfl eA (.tmp _ _ .nil)) rfl rfl
       ·intro u46 h hl47 hr48
        refine ak h (fun hg16_3 h => ?_) (fun hg16_3 h => ?_)
        ·refine wb [[7],[6],[48],[49]] ?_
         refine wd hg16_3 [[50],[50],[50]] ?_
         refine wK [2] [47] ?_
         refine wt [(2,.box 122 [vi v2,vs v1.2.1,vb false,vs z0,vs z0,vz])] [[53]] ⟨cW _ _ _ _ _ _ _ _ eA rfl rfl rfl rfl (zl rfl) rfl rfl⟩ ?_
         refine we hn [65,2,3] ?_
         exact hl47 _ (zi h).symm
        ·obtain ⟨v21,hv21,h⟩:=zn h
         refine wb [[7],[6],[48],[49]] ?_
         refine wd hg16_3 [[50,5]] ?_
         refine wN [50,51,65] ?_
         refine wo [[50,52]] ⟨lg call55 (bG _ _ _ hv21) 65⟩ ?_
         refine wK [2] [47] ?_
         refine wt [(2,.box 122 [vi v2,vs v1.2.1,vb false,vs z0,vs z0,vz])] [[53]] ⟨cW _ _ _ _ _ _ _ _ eA rfl rfl rfl rfl (zl rfl) rfl rfl⟩ ?_
         refine we hn [65,2,3] ?_
         exact hl47 _ (zi h).symm
      ·have h:=aq hb44 h
       refine aI hn 2 [65,2,5,6,7,18,54] ?_
       refine al _ rfl (fun hb49 => ?_) (fun hb49 => ?_)
       ·have h:=ap hb49 h
        refine ab ?_
        obtain ⟨v27,hv27,h⟩:=zn h
        refine wb [[7],[5]] ?_
        refine wN [57] ?_
        refine wo [] ⟨lk call136 (ed _ _ _ hv27)⟩ ?_
        refine wK [2] [56] ?_
        refine wt [(2,.box 122 [vi v2,vs z0,vb false,vs z0,vs z0,vz])] [[58]] ⟨cW _ _ _ _ _ _ _ _ eA rfl rfl rfl rfl (zl rfl) rfl rfl⟩ ?_
        refine qR hn [65,2,3] ?_
        refine am ?_
        refine ah [1,2] (by kernel_rfl) (es':=[(_,_),(_,_)]) rfl ?_
        refine bT (fs:=[(2,.box 122 [vi v2,vs z0,vb false,vs z0,vs z0,.fl (.own 181) 2 (flatten (map ay.enc []))]),(3,vb v27)]) (.box _ _ (af (aj _) (af (aj _) (af (aj _) (af (aj _) (af (aj _) (af (bC 181 2) (bj))))))) rfl (.same _ .nil)) ?_
        refine dF 0 hio (es':=[(2,.box 122 [.v (.int .i64 v2),.v (.string (⟨#[]⟩:Fa)),.v (.bool false),.v (.string (⟨#[]⟩:Fa)),.v (.string (⟨#[]⟩:Fa)),.fl .ro 2 (flatten (map ay.enc []))]),(3,.v (.bool v27))]) rfl ?_
        refine aG (ai ?_)
        obtain rfl:=zi h
        exact ao hio rfl (.cellA _ _ _ _ underlying122 rfl eA (.tmp _ _ .nil)) rfl rfl
       ·have h:=aq hb49 h
        refine aI hn 2 [65,2,6,7,59] ?_
        refine al _ rfl (fun hb50 => ?_) (fun hb50 => ?_)
        ·have h:=ap hb50 h
         refine aI hn 3 [65,2,3] ?_
         refine am ?_
         refine ah [1,2] (by kernel_rfl) (es':=[(_,_),(_,_)]) rfl ?_
         refine bT (fs:=[(2,.box 122 [vi v2,vs z0,vb false,vs z0,vs z0,.fl (.own 181) 2 (flatten (map ay.enc []))]),(3,vb true)]) (.box _ _ (af (aj _) (af (aj _) (af (aj _) (af (aj _) (af (aj _) (af (bC 181 2) (bj))))))) rfl (.same _ .nil)) ?_
         refine dF 0 hio (es':=[(2,.box 122 [.v (.int .i64 v2),.v (.string (⟨#[]⟩:Fa)),.v (.bool false),.v (.string (⟨#[]⟩:Fa)),.v (.string (⟨#[]⟩:Fa)),.fl .ro 2 (flatten (map ay.enc []))]),(3,.v (.bool true))]) rfl ?_
         refine aG (ai ?_)
         obtain rfl:=zi h
         exact ao hio rfl (.cellA _ _ _ _ underlying122 rfl eA (.tmp _ _ .nil)) rfl rfl
        ·have h:=aq hb50 h
         refine ar (aJ (ag ?_))
         refine aI hn 5 [65,2,3] ?_
         refine am ?_
         refine ah [1,2] (by kernel_rfl) (es':=[(_,_),(_,_)]) rfl ?_
         refine bT (fs:=[(2,.box 122 [vi v2,vs z0,vb false,vs z0,vs z0,.fl (.own 181) 2 (flatten (map ay.enc []))]),(3,vb (!v1.2.2))]) (.box _ _ (af (aj _) (af (aj _) (af (aj _) (af (aj _) (af (aj _) (af (bC 181 2) (bj))))))) rfl (.same _ .nil)) ?_
         refine dF 0 hio (es':=[(2,.box 122 [.v (.int .i64 v2),.v (.string (⟨#[]⟩:Fa)),.v (.bool false),.v (.string (⟨#[]⟩:Fa)),.v (.string (⟨#[]⟩:Fa)),.fl .ro 2 (flatten (map ay.enc []))]),(3,.v (.bool (!v1.2.2)))]) rfl ?_
         obtain rfl:=zi h
         exact ao hio rfl (.cellA _ _ _ _ underlying122 rfl eA (.tmp _ _ .nil)) rfl rfl
   ·intro u38 h hl39 hr40
    refine aI hn 2 [65,2,5,6,7,18,28] ?_
    refine al _ rfl (fun hb41 => ?_) (fun hb41 => ?_)
    ·have h:=ap hb41 h
     refine ar ?_
     exact hl39 _ (zi h).symm
    ·have h:=aq hb41 h
     refine yx hn 1 ?_
     refine yw [28] 1 ?_
     refine ye [65,2,5,6,7,18,28] ?_
     exact hl39 _ (zi h).symm
 ·intro u31 h hl32 hr33
  refine aI hn 2 [0,65,2,5,6,7,18,19] ?_
  refine al _ rfl (fun hb34 => ?_) (fun hb34 => ?_)
  ·have h:=ap hb34 h
   refine ar ?_
   exact hl32 _ (zi h).symm
  ·have h:=aq hb34 h
   refine yx hn 1 ?_
   refine yw [19] 1 ?_
   refine ye [0,65,2,5,6,7,18,19] ?_
   exact hl32 _ (zi h).symm
end Go.Proofs.YtjnnkhmhjcjhdaaGreatDoor
