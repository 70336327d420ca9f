/-
  The model's runs are what is told in Lean.
-/
import Derived.Test.YtjnnkhmhjcjhdaaGreatDoorProg
import Derived.KernelRfl
import Derived.Test.YtjnnkhmhjcjhdaaGreatDoorShelf
import Derived.Test.YtjnnkhmhjcjhdaaGreatDoorIdx
import Derived.Test.YtjnnkhmhjcjhdaaGreatDoorB3
import Derived.Test.YtjnnkhmhjcjhdaaGreatDoorC1
import Derived.Test.YtjnnkhmhjcjhdaaGreatDoorBC
import Derived.Test.YtjnnkhmhjcjhdaaGreatDoorOkc6
set_option linter.unusedVariables false
set_option linter.unusedSimpArgs false
set_option maxHeartbeats 1000000
namespace Go.Proofs.YtjnnkhmhjcjhdaaGreatDoor
open Go.Abs Go.Abs.Sh Tryz
open List (map flatten)
open Value (int)
theorem ri (s:ByteArray) (suffix:ByteArray) (r:(ByteArray×Bool)) (h:Sh.jX s suffix=some r):gN Tryz.prog 206 [.v (.string s), .v (.string suffix)] (.tup [.v (.string r.1), .v (.bool r.2)]):=by
  unfold Sh.jX at h
  refine yO 18 func206 fun g0 hn hio => ?_
  refine eo hn 2 [0,1] ?_
  refine bq ?_
  refine bq ?_
  obtain ⟨v1, hv1, h⟩:=zn h
  refine yx hn 2 ?_
  refine ys 1 ⟨lk call220 (rf _ _ _ hv1)⟩ ?_
  refine eS [0,1,9] ?_
  refine cU _ rfl (fun hb2 => ?_) (fun hb2 => ?_)
  ·have h:=dn hb2 h
   refine eo hn 3 [4,5] ?_
   refine cY ?_
   refine cT ?_
   obtain rfl:=zi h
   exact dq hio rfl (.tmp _ _ (.tmp _ _ .nil)) rfl rfl
  ·have h:=dj hb2 h
   refine dw ?_
   refine cr (bq ?_)
   obtain ⟨v3, hv3, h⟩:=zn h
   obtain ⟨v4, hv4, h⟩:=zn h
   refine yx hn 5 ?_
   refine ys 0 ⟨lb hv3⟩ ?_
   refine yS (vs v4) 2 ⟨iT _ _ _ 0 v3 _ underlying9 rfl rfl ⟨_,rfl⟩ hv4⟩ ?_
   refine eS [4,5] ?_
   refine cY ?_
   obtain rfl:=zi h
   exact dq hio rfl (.tmp _ _ (.tmp _ _ .nil)) rfl rfl
theorem xC (s:ByteArray) (suffix:ByteArray) (r:(ByteArray×Bool)) (h:Sh.rW s suffix=some r):gN Tryz.prog 185 [.v (.string s), .v (.string suffix)] (.tup [.v (.string r.1), .v (.bool r.2)]):=by
  unfold Sh.rW at h
  refine yO 11 func185 fun g0 hn hio => ?_
  refine eo hn 2 [0,1] ?_
  refine bq ?_
  obtain ⟨v1, hv1, h⟩:=zn h
  refine yx hn 2 ?_
  refine ys 4 ⟨lk call206 (ri _ _ _ hv1)⟩ ?_
  refine eS [4,5] ?_
  refine cY ?_
  obtain rfl:=zi h
  exact dq hio rfl (.tmp _ _ (.tmp _ _ .nil)) rfl rfl
theorem HQ (mx:Int×Nat×Value) (s:ByteArray) (r:(cz×Int)) (h:Sh.Ag s=some r):qT Tryz.prog (GL mx) 158 [.v (.string s)] (.tup [.agg [.v (.bool r.1.Null), .v (.string r.1.Local), .v (.string r.1.Domain)], .v (.int .i64 r.2)]):=by
  unfold Sh.Ag at h
  refine yG 50 func158 fun g0 hn hio => ?_
  refine oh hn 0 ?_
  refine yS (.box 26 [vb false,vs z0,vs z0]) 1 ⟨oA (fj _ _ Ab)⟩ ?_
  refine eS [0,50,2] ?_
  refine bq ?_
  refine eo hn 2 [0,50,2,12] ?_
  refine cU _ rfl (fun hb1 => ?_) (fun hb1 => ?_)
  ·have h:=dn hb1 h
   refine oh hn 0 ?_
   refine yS (.agg [vb true,vs z0,vs z0]) 2 ⟨fJ _ _ _ _ [1,1,1] _ _ underlying26 Ab (JD _ underlying26) (.copy _ uY.nil) rfl rfl rfl⟩ ?_
   refine eS [50,2,3] ?_
   refine cY ?_
   refine cw [1,2] (by kernel_rfl) (es':=[(_,_),(_,_)]) rfl ?_
   refine cT ?_
   obtain rfl:=zi h
   exact dq hio rfl (.cellA _ _ _ _ underlying26 rfl LQ (.tmp _ _ .nil)) rfl rfl
  ·have h:=dj hb1 h
   refine dw ?_
   refine cr (bq ?_)
   obtain ⟨v2, hv2, h⟩:=zn h
   refine yx hn 1 ?_
   refine ys 0 ⟨lk call184 (sN _ _ _ hv2)⟩ ?_
   refine ym 4 ?_
   refine eS [50,2,4,5] ?_
   refine bq ?_
   obtain ⟨v3, hv3, h⟩:=zn h
   refine yx hn 1 ?_
   refine ys 0 ⟨lk call185 (xC _ _ _ hv3)⟩ ?_
   refine ym 2 ?_
   refine yw [4] 2 ?_
   refine eS [50,2,5,4,6] ?_
   refine bq ?_
   obtain ⟨v4, hv4, h⟩:=zn h
   refine yx hn 1 ?_
   refine ys 0 ⟨lk call134 (rR _ _ _ hv4)⟩ ?_
   refine ym 6 ?_
   refine eS [50,2,5,6,7,8,9] ?_
   refine oh hn 2 ?_
   refine yS (.agg [vb false,vs v4.1,vs v4.2.1]) 0 ⟨fJ _ _ _ _ [1,1,1] _ _ underlying26 Ab (JD _ underlying26) (.copy _ (.copy _ uY.nil)) rfl rfl rfl⟩ ?_
   refine yS (.box 26 [vb false,vs z0,vs z0]) 1 ⟨oA (fj _ _ Ab)⟩ ?_
   refine eS [50,2,5,6,9,10] ?_
   refine bq ?_
   refine bq ?_
   refine dO h (fun (s6:Bool)=>[(50,.glob (GL mx)),(2,.box 26 [vb false,vs z0,vs z0]),(10,.box 26 [vb false,vs v4.1,vs v4.2.1]),(47,vb s6)]) ?_ ?_
   ·rintro s6 h
    refine cr ?_
    refine cU _ rfl (fun hb10 => ?_) (fun hb10 => ?_)
    ·have h:=dn hb10 h
     refine oh hn 0 ?_
     refine yS (.agg [vb false,vs z0,vs z0]) 0 ⟨fJ _ _ _ _ [1,1,1] _ _ underlying26 Ab (JD _ underlying26) uY.nil rfl rfl rfl⟩ ?_
     refine yk [48,2] [] ?_
     refine yt (2,.box 26 [vb false,vs z0,vs z0]) 1 ⟨kg _ _ _ 48 2 3 LQ rfl rfl rfl rfl rfl (.eq _ (.eq _ (.eq _ (.nil _)))) rfl⟩ ?_
     refine eS [50,2,3] ?_
     refine cY ?_
     refine cw [1,2] (by kernel_rfl) (es':=[(_,_),(_,_)]) rfl ?_
     refine cT ?_
     obtain rfl:=zi h
     exact dq hio rfl (.cellA _ _ _ _ underlying26 rfl LQ (.tmp _ _ .nil)) rfl rfl
    ·have h:=dj hb10 h
     refine dw ?_
     refine cr ?_
     refine eo hn 3 [50,2,3] ?_
     refine cY ?_
     refine cw [1,2] (by kernel_rfl) (es':=[(_,_),(_,_)]) rfl ?_
     obtain rfl:=zi h
     exact dq hio rfl (.cellA _ _ _ _ underlying26 rfl LQ (.tmp _ _ .nil)) rfl rfl
   ·intro u7 h hl8 hr9
    refine cZ h (fun hg7_2 h => ?_) (fun hg7_2 h => ?_)
    ·refine yx hn 3 ?_
     refine yd hg7_2 12 ?_
     refine ye [50,2,10,47] ?_
     exact hl8 _ (zi h).symm
    ·refine cZ h (fun hg7_6 h => ?_) (fun hg7_6 h => ?_)
     ·refine yx hn 3 ?_
      refine yd hg7_2 4 ?_
      refine yd hg7_6 8 ?_
      refine ye [50,2,10,47] ?_
      exact hl8 _ (zi h).symm
     ·refine cZ h (fun hg7_10 h => ?_) (fun hg7_10 h => ?_)
      ·refine yx hn 3 ?_
       refine yd hg7_2 4 ?_
       refine yd hg7_6 4 ?_
       refine yd hg7_10 4 ?_
       refine ye [50,2,10,47] ?_
       exact hl8 _ (zi h).symm
      ·obtain ⟨v5, hv5, h⟩:=zn h
       refine yx hn 3 ?_
       refine yd hg7_2 4 ?_
       refine yd hg7_6 4 ?_
       refine yd hg7_10 1 ?_
       refine ys 2 ⟨lg call162 (jp _ _ _ hv5) 50⟩ ?_
       refine ye [50,2,10,47] ?_
       exact hl8 _ (zi h).symm
theorem Eo (s:ByteArray) (r:Int×Unit) (h:Sh.strconv_Atoi s=some r):gN Tryz.prog 139 [.v (.string s)] (.tup [.v (.int .i64 r.1), .v .nilIface]):=Dt (fun s n w h1 h2=>Tryz.strconv_Atoi s n h1 h2 w) s r h
theorem Ez (s:ByteArray) (digits:Int) (r:(Int×Bool)) (h:Sh.vY s digits=some r):gN Tryz.prog 207 [.v (.string s), .v (.int .i64 digits)] (.tup [.v (.int .i64 r.1), .v (.bool r.2)]):=by
  unfold Sh.vY at h
  refine yO 51 func207 fun g0 hn hio => ?_
  refine eo hn 2 [0,1] ?_
  refine bq ?_
  refine bq ?_
  refine dO h (fun (s3:Bool)=>[(0,vs s),(26,vb s3)]) ?_ ?_
  ·rintro s3 h
   refine cr ?_
   refine cU _ rfl (fun hb7 => ?_) (fun hb7 => ?_)
   ·have h:=dn hb7 h
    refine eo hn 2 [4,5] ?_
    refine cY ?_
    refine cT ?_
    obtain rfl:=zi h
    exact dq hio rfl (.tmp _ _ (.tmp _ _ .nil)) rfl rfl
   ·have h:=dj hb7 h
    refine dw ?_
    refine cr (bq ?_)
    refine eo hn 3 [0,28,29] ?_
    refine eR h (fun (s24:Int)=>[(0,vs s),(28,vi (s.size:Int)),(29,vi s24)]) (fun (():Unit)=>[(0,vs s)]) ?_ ?_
    ·rintro ⟨⟩ h
     refine cr (bq ?_)
     obtain ⟨v43, hv43, h⟩:=zn h
     refine yx hn 1 ?_
     refine ys 0 ⟨lk call139 (Eo _ _ hv43)⟩ ?_
     refine ym 4 ?_
     refine eS [7,8] ?_
     refine bq ?_
     refine wb [[7],[8]] ?_
     refine wN [49] ?_
     refine wS (vb true) [[48],[50]] ⟨Rg _ _ false underlying155 rfl⟩ ?_
     refine Ht hn [4,5] ?_
     refine cY ?_
     obtain rfl:=zi h
     exact dq hio rfl (.tmp _ _ (.tmp _ _ .nil)) rfl rfl
    ·rintro u31 hl32 hr33 s24 rr36 h ho34
     refine eo hn 1 [0,28,29,30] ?_
     refine bq ?_
     refine cU _ rfl (fun hb37 => ?_) (fun hb37 => ?_)
     ·have h:=dn hb37 h
      refine dw ?_
      refine cr (bq ?_)
      refine dY ?_
      refine eo hn 2 [0,28,29,6] ?_
      refine bq ?_
      refine dO h (fun (s38:Bool)=>[(0,vs s),(28,vi (s.size:Int)),(29,vi s24),(41,vb s38)]) ?_ ?_
      ·rintro s38 h
       refine cr ?_
       refine cU _ rfl (fun hb42 => ?_) (fun hb42 => ?_)
       ·have h:=dn hb42 h
        refine eo hn 2 [4,5] ?_
        refine cY ?_
        refine eA ?_
        refine cT ?_
        refine cT ?_
        refine eA ?_
        refine cT ?_
        have h:=hr33 _ (ho34 _ (zi h).symm).symm
        obtain rfl:=zi h
        exact dq hio rfl (.tmp _ _ (.tmp _ _ .nil)) rfl rfl
       ·have h:=dj hb42 h
        refine dw ?_
        refine ep ?_
        refine cr ?_
        obtain ⟨v16, hv16, h⟩:=zn h
        refine yx hn 0 ?_
        refine ys 0 ⟨lb hv16⟩ ?_
        refine yw [29] 1 ?_
        refine ye [0,28,29] ?_
        exact fx _ (zi h).symm rfl
      ·intro u39 h hl40 hr41
       obtain ⟨v9, hv9, h⟩:=zn h
       refine cZ h (fun hg6_4 h => ?_) (fun hg6_4 h => ?_)
       ·refine yx hn 2 ?_
        refine ys 2 ⟨lh hv9⟩ ?_
        refine yd hg6_4 5 ?_
        refine ye [0,28,29,41] ?_
        exact hl40 _ (zi h).symm
       ·obtain ⟨v10, hv10, h⟩:=zn h
        refine yx hn 2 ?_
        refine ys 2 ⟨lh hv9⟩ ?_
        refine yd hg6_4 2 ?_
        refine ys 2 ⟨lh hv10⟩ ?_
        refine ye [0,28,29,41] ?_
        exact hl40 _ (zi h).symm
     ·have h:=dj hb37 h
      refine fp ?_
      refine dB ?_
      refine dB ?_
      refine fq ?_
      refine cw [0] (by kernel_rfl) (es':=[(_,_)]) rfl ?_
      exact hl32 _ (ho34 _ (zi h).symm).symm
  ·intro u4 h hl5 hr6
   refine cZ h (fun hg1_2 h => ?_) (fun hg1_2 h => ?_)
   ·refine yx hn 3 ?_
    refine yd hg1_2 15 ?_
    refine ye [0,26] ?_
    exact hl5 _ (zi h).symm
   ·obtain ⟨v1, hv1, h⟩:=zn h
    refine cZ h (fun hg1_9 h => ?_) (fun hg1_9 h => ?_)
    ·refine yx hn 3 ?_
     refine yd hg1_2 3 ?_
     refine yS (vi v1) 3 ⟨(Option.some.inj hv1) ▸ GV _ _ _ _ rfl rfl⟩ ?_
     refine yd hg1_9 8 ?_
     refine ye [0,26] ?_
     exact hl5 _ (zi h).symm
    ·obtain ⟨v2, hv2, h⟩:=zn h
     refine cZ h (fun hg1_13 h => ?_) (fun hg1_13 h => ?_)
     ·refine yx hn 3 ?_
      refine yd hg1_2 3 ?_
      refine yS (vi v1) 3 ⟨(Option.some.inj hv1) ▸ GV _ _ _ _ rfl rfl⟩ ?_
      refine yd hg1_9 1 ?_
      refine ys 2 ⟨lh hv2⟩ ?_
      refine yd hg1_13 4 ?_
      refine ye [0,26] ?_
      exact hl5 _ (zi h).symm
     ·refine yx hn 3 ?_
      refine yd hg1_2 3 ?_
      refine yS (vi v1) 3 ⟨(Option.some.inj hv1) ▸ GV _ _ _ _ rfl rfl⟩ ?_
      refine yd hg1_9 1 ?_
      refine ys 2 ⟨lh hv2⟩ ?_
      refine yd hg1_13 4 ?_
      refine ye [0,26] ?_
      exact hl5 _ (zi h).symm
theorem zX (s:ByteArray) (words:(List ByteArray)) (r:(ByteArray×Bool)) (h:Sh.wu s words=some r):gN Tryz.prog 208 [.v (.string s), .fl .shr 1 (map Value.string words)] (.tup [.v (.string r.1), .v (.bool r.2)]):=by
  unfold Sh.wu at h
  refine yO 19 func208 fun g0 hn hio => ?_
  refine eo hn 2 [0,1] ?_
  refine bq ?_
  refine eo hn 3 [0,8,9,10] ?_
  refine eR h (fun (s10:Int)=>[(0,vs s),(8,.fl .shr 1 (map Value.string words)),(9,vi (words.length:Int)),(10,vi s10)]) (fun (():Unit)=>[]) ?_ ?_
  ·rintro ⟨⟩ h
   refine cr ?_
   refine eo hn 2 [4,5] ?_
   refine cY ?_
   obtain rfl:=zi h
   exact dq hio rfl (.tmp _ _ (.tmp _ _ .nil)) rfl rfl
  ·rintro u13 hl14 hr15 s10 rr18 h ho16
   refine eo hn 1 [0,8,9,10,11] ?_
   refine bq ?_
   refine cU _ rfl (fun hb19 => ?_) (fun hb19 => ?_)
   ·have h:=dn hb19 h
    refine dw ?_
    refine cr (bq ?_)
    refine dY ?_
    refine bq ?_
    obtain ⟨v2, hv2, h⟩:=zn h
    obtain ⟨v3, hv3, h⟩:=zn h
    refine yx hn 0 ?_
    refine ys 0 ⟨li hv2⟩ ?_
    refine ys 1 ⟨ll hv3⟩ ?_
    refine eS [0,8,9,10,7] ?_
    refine bq ?_
    obtain ⟨v4, hv4, h⟩:=zn h
    refine yx hn 2 ?_
    refine ys 0 ⟨lk call136 (nU _ _ _ hv4)⟩ ?_
    refine eS [0,8,9,10,7,16] ?_
    refine cU _ rfl (fun hb20 => ?_) (fun hb20 => ?_)
    ·have h:=dn hb20 h
     refine eo hn 3 [4,5] ?_
     refine cY ?_
     refine eA ?_
     refine cT ?_
     refine cT ?_
     refine eA ?_
     refine cT ?_
     have h:=hr15 _ (ho16 _ (zi h).symm).symm
     obtain rfl:=zi h
     exact dq hio rfl (.tmp _ _ (.tmp _ _ .nil)) rfl rfl
    ·have h:=dj hb20 h
     refine dw ?_
     refine ep ?_
     refine cr ?_
     obtain ⟨v6, hv6, h⟩:=zn h
     refine yx hn 0 ?_
     refine ys 0 ⟨lb hv6⟩ ?_
     refine yw [10] 1 ?_
     refine ye [0,8,9,10] ?_
     exact fx _ (zi h).symm rfl
   ·have h:=dj hb19 h
    refine fp ?_
    refine dB ?_
    refine dB ?_
    refine fq ?_
    refine cw [] (by kernel_rfl) (es':=[]) rfl ?_
    exact hl14 _ (ho16 _ (zi h).symm).symm
theorem BM (kind:Int) (key:ByteArray) (val:ByteArray) (r:(dC×Bool)) (h:Sh.tV kind key val=some r):gN Tryz.prog 186 [.v (.int .i64 kind), .v (.string key), .v (.string val)] (.tup [.agg [.v (.string r.1.Key), .v (.string r.1.Val)], .v (.bool r.2)]):=by
  unfold Sh.tV at h
  refine yO 62 func186 fun g0 hn hio => ?_
  refine oh hn 0 ?_
  refine yS (.box 181 [vs z0,vs z0]) 1 ⟨oA (fj _ _ Eg)⟩ ?_
  refine eS [0,1,2,6] ?_
  refine bq ?_
  refine dY ?_
  refine bq ?_
  refine dO h (fun (s1:Bool)=>[(0,vi kind),(1,vs key),(2,vs val),(6,.box 181 [vs z0,vs z0]),(14,vb s1)]) ?_ ?_
  ·rintro s1 h
   refine cr ?_
   refine cU _ rfl (fun hb5 => ?_) (fun hb5 => ?_)
   ·have h:=dn hb5 h
    refine bq ?_
    obtain ⟨v6, hv6, h⟩:=zn h
    refine yx hn 1 ?_
    refine ys 0 ⟨lk call207 (Ez _ _ _ hv6)⟩ ?_
    refine ym 4 ?_
    refine eS [2,6,9] ?_
    refine oh hn 1 ?_
    refine yS (.agg [vs (⟨#[83,73,90,69]⟩:ByteArray),vs val]) 3 ⟨fJ _ _ _ _ [1,1] _ _ underlying181 Eg (Pf _ underlying181) (.copy _ (.copy _ uY.nil)) rfl rfl rfl⟩ ?_
    refine eS [6,7] ?_
    refine cY ?_
    refine eA ?_
    refine cT ?_
    obtain rfl:=zi h
    exact dq hio rfl (.cellA _ _ _ _ underlying181 rfl Cj (.tmp _ _ .nil)) rfl rfl
   ·have h:=dj hb5 h
    refine bq ?_
    refine dO h (fun (s7:Bool)=>[(0,vi kind),(1,vs key),(2,vs val),(6,.box 181 [vs z0,vs z0]),(29,vb s7)]) ?_ ?_
    ·rintro s7 h
     refine cr ?_
     refine cU _ rfl (fun hb11 => ?_) (fun hb11 => ?_)
     ·have h:=dn hb11 h
      refine bq ?_
      obtain ⟨v12, hv12, h⟩:=zn h
      refine yx hn 1 ?_
      refine yS (.fl (.own 9) 1 (map Value.string ([(⟨#[70,85,76,76]⟩:ByteArray),(⟨#[72,68,82,83]⟩:ByteArray)]))) 0 ⟨eN _ _ 1 (.string ByteArray.empty) (map Value.string ([(⟨#[70,85,76,76]⟩:ByteArray),(⟨#[72,68,82,83]⟩:ByteArray)])) [(0,.string (⟨#[70,85,76,76]⟩:ByteArray)),(1,.string (⟨#[72,68,82,83]⟩:ByteArray))] underlying49 FZ Vg (fun _ V w o a hv hes=>by simp only [List.map_toArray,List.map_cons,List.map_nil]; try rfl) (iw (by simp [Instr.fill,Value.cells]; rfl) (by simp [List.range,List.range.loop] <;> rfl)) (by simp [Value.oneCell']) rfl (by decide) (by decide) (by decide)⟩ ?_
      refine ys 0 ⟨lk call208 (zX _ _ _ hv12)⟩ ?_
      refine ym 4 ?_
      refine eS [6,10,11] ?_
      refine oh hn 1 ?_
      refine yS (.agg [vs (⟨#[82,69,84]⟩:ByteArray),vs v12.1]) 3 ⟨fJ _ _ _ _ [1,1] _ _ underlying181 Eg (Pf _ underlying181) (.copy _ (.copy _ uY.nil)) rfl rfl rfl⟩ ?_
      refine eS [6,7] ?_
      refine cY ?_
      refine eA ?_
      refine cT ?_
      obtain rfl:=zi h
      exact dq hio rfl (.cellA _ _ _ _ underlying181 rfl Cj (.tmp _ _ .nil)) rfl rfl
     ·have h:=dj hb11 h
      refine bq ?_
      refine dO h (fun (s13:Bool)=>[(2,vs val),(6,.box 181 [vs z0,vs z0]),(45,vb s13)]) ?_ ?_
      ·rintro s13 h
       refine cr ?_
       refine cU _ rfl (fun hb17 => ?_) (fun hb17 => ?_)
       ·have h:=dn hb17 h
        refine bq ?_
        obtain ⟨v18, hv18, h⟩:=zn h
        refine yx hn 1 ?_
        refine yS (.fl (.own 9) 1 (map Value.string ([(⟨#[78,69,86,69,82]⟩:ByteArray),(⟨#[70,65,73,76,85,82,69]⟩:ByteArray)]))) 0 ⟨eN _ _ 1 (.string ByteArray.empty) (map Value.string ([(⟨#[78,69,86,69,82]⟩:ByteArray),(⟨#[70,65,73,76,85,82,69]⟩:ByteArray)])) [(0,.string (⟨#[78,69,86,69,82]⟩:ByteArray)),(1,.string (⟨#[70,65,73,76,85,82,69]⟩:ByteArray))] underlying49 FZ Vg (fun _ V w o a hv hes=>by simp only [List.map_toArray,List.map_cons,List.map_nil]; try rfl) (iw (by simp [Instr.fill,Value.cells]; rfl) (by simp [List.range,List.range.loop] <;> rfl)) (by simp [Value.oneCell']) rfl (by decide) (by decide) (by decide)⟩ ?_
        refine ys 0 ⟨lk call208 (zX _ _ _ hv18)⟩ ?_
        refine ym 4 ?_
        refine eS [6,12,13] ?_
        refine oh hn 1 ?_
        refine yS (.agg [vs (⟨#[78,79,84,73,70,89]⟩:ByteArray),vs v18.1]) 3 ⟨fJ _ _ _ _ [1,1] _ _ underlying181 Eg (Pf _ underlying181) (.copy _ (.copy _ uY.nil)) rfl rfl rfl⟩ ?_
        refine eS [6,7] ?_
        refine cY ?_
        refine eA ?_
        refine cT ?_
        obtain rfl:=zi h
        exact dq hio rfl (.cellA _ _ _ _ underlying181 rfl Cj (.tmp _ _ .nil)) rfl rfl
       ·have h:=dj hb17 h
        refine dw ?_
        refine ep ?_
        refine cr ?_
        refine oh hn 0 ?_
        refine yS (.agg [vs z0,vs z0]) 0 ⟨fJ _ _ _ _ [1,1] _ _ underlying181 Eg (Pf _ underlying181) uY.nil rfl rfl rfl⟩ ?_
        refine yk [61,6] [] ?_
        refine yt (6,.box 181 [vs z0,vs z0]) 1 ⟨kg _ _ _ 61 6 2 Cj rfl rfl rfl rfl rfl (.eq _ (.eq _ (.nil _))) rfl⟩ ?_
        refine eS [6,7] ?_
        refine cY ?_
        obtain rfl:=zi h
        exact dq hio rfl (.cellA _ _ _ _ underlying181 rfl Cj (.tmp _ _ .nil)) rfl rfl
      ·intro u14 h hl15 hr16
       refine cZ h (fun hg7_2 h => ?_) (fun hg7_2 h => ?_)
       ·refine yx hn 3 ?_
        refine yd hg7_2 4 ?_
        refine ye [2,6,45] ?_
        exact hl15 _ (zi h).symm
       ·refine yx hn 3 ?_
        refine yd hg7_2 4 ?_
        refine ye [2,6,45] ?_
        exact hl15 _ (zi h).symm
    ·intro u8 h hl9 hr10
     refine cZ h (fun hg4_2 h => ?_) (fun hg4_2 h => ?_)
     ·refine yx hn 3 ?_
      refine yd hg4_2 4 ?_
      refine ye [0,1,2,6,29] ?_
      exact hl9 _ (zi h).symm
     ·refine yx hn 3 ?_
      refine yd hg4_2 4 ?_
      refine ye [0,1,2,6,29] ?_
      exact hl9 _ (zi h).symm
  ·intro u2 h hl3 hr4
   refine cZ h (fun hg1_2 h => ?_) (fun hg1_2 h => ?_)
   ·refine yx hn 3 ?_
    refine yd hg1_2 4 ?_
    refine ye [0,1,2,6,14] ?_
    exact hl3 _ (zi h).symm
   ·refine yx hn 3 ?_
    refine yd hg1_2 4 ?_
    refine ye [0,1,2,6,14] ?_
    exact hl3 _ (zi h).symm
theorem uB (bx:Nat) (q:dC) (cap:dC) (r:Bool) (h:Sh.nT q cap=some r):qT Tryz.prog [(bx, [.string cap.Key, .string cap.Val])] 188 [.agg [.v (.string q.Key), .v (.string q.Val)], .v (.pointer (some ⟨bx, 0, none⟩))] (.v (.bool r)):=by
  unfold Sh.nT at h
  refine yG 9 func188 fun g0 hn hio => ?_
  refine eo hn 2 [1,9,2] ?_
  refine oh hn 2 ?_
  refine yS (.v (.pointer (some ⟨bx,0,none⟩))) 0 ⟨Gc _ _ _ _ bx 0 _ underlying181 rfl FZ rfl rfl⟩ ?_
  refine yS (vs cap.Key) 2 ⟨vS _ _ 9 bx 0 _ _ underlying9 rfl rfl rfl (.head _) rfl⟩ ?_
  refine eS [9,3] ?_
  refine cY ?_
  refine cw [1] (by kernel_rfl) (es':=[(_,_)]) rfl ?_
  obtain rfl:=zi h
  exact dq hio rfl (.tmp _ _ .nil) rfl rfl
theorem jz (bx:Nat) (s:(List dC)) (cap:dC) (r:Int) (h:Sh.fI s cap=some r):qT Tryz.prog [(bx, [.string cap.Key, .string cap.Val])] 209 [.fl .shr 2 (flatten (map dC.enc s)), .v (.func (.func 188) #[] #[.pointer (some ⟨bx, 0, none⟩)])] (.v (.int .i64 r)):=by
  unfold Sh.fI at h
  refine yG 19 func209 fun g0 hn hio => ?_
  refine eo hn 1 [0,1,19] ?_
  refine bq ?_
  refine eo hn 3 [0,1,19,7,8] ?_
  refine eR h (fun (s10:Int)=>[(0,.fl .shr 2 (flatten (map dC.enc s))),(1,.v (.func (.func 188) #[] #[.pointer (some ⟨bx,0,none⟩)])),(19,.glob [(bx,[.string cap.Key,.string cap.Val])]),(7,vi (s.length:Int)),(8,vi s10)]) (fun (():Unit)=>[(19,.glob [(bx,[.string cap.Key,.string cap.Val])])]) ?_ ?_
  ·rintro ⟨⟩ h
   refine cr ?_
   refine eo hn 1 [19,4] ?_
   refine cY ?_
   refine cw [1] (by kernel_rfl) (es':=[(_,_)]) rfl ?_
   obtain rfl:=zi h
   exact dq hio rfl (.tmp _ _ .nil) rfl rfl
  ·rintro u13 hl14 hr15 s10 rr18 h ho16
   refine eo hn 1 [0,1,19,7,8,9] ?_
   refine bq ?_
   refine cU _ rfl (fun hb19 => ?_) (fun hb19 => ?_)
   ·have h:=dn hb19 h
    refine dw ?_
    refine cr (bq ?_)
    refine dY ?_
    refine eo hn 2 [0,1,19,7,8,5] ?_
    refine bq ?_
    obtain ⟨v2, hv2, h⟩:=zn h
    obtain ⟨v3, hv3, h⟩:=zn h
    obtain ⟨v4, hv4, h⟩:=zn h
    refine yx hn 3 ?_
    refine ys 0 ⟨lj hv2⟩ ?_
    refine yS (.agg [vs v3.Key,vs v3.Val]) 0 ⟨vT _ _ _ _ _ _ _ underlying181 rfl Cj rfl rfl (BV dC.len hv3) rfl (by decide)⟩ ?_
    refine yS (vb v4) 0 ⟨Rx _ _ 19 188 (.pointer (some ⟨bx,0,none⟩)) _ _ rfl call188 rfl rfl (fun _ h=>h) (uB bx v3 cap _ hv4) rfl rfl⟩ ?_
    refine eS [0,1,19,7,8,5,16] ?_
    refine cU _ rfl (fun hb20 => ?_) (fun hb20 => ?_)
    ·have h:=dn hb20 h
     refine eo hn 2 [19,4] ?_
     refine cY ?_
     refine cw [1] (by kernel_rfl) (es':=[(_,_)]) rfl ?_
     refine eA ?_
     refine cT ?_
     refine cT ?_
     refine eA ?_
     refine cT ?_
     have h:=hr15 _ (ho16 _ (zi h).symm).symm
     obtain rfl:=zi h
     exact dq hio rfl (.tmp _ _ .nil) rfl rfl
    ·have h:=dj hb20 h
     refine dw ?_
     refine ep ?_
     refine cr ?_
     obtain ⟨v6, hv6, h⟩:=zn h
     refine yx hn 0 ?_
     refine ys 0 ⟨lb hv6⟩ ?_
     refine yw [8] 1 ?_
     refine ye [0,1,19,7,8] ?_
     exact fx _ (zi h).symm rfl
   ·have h:=dj hb19 h
    refine fp ?_
    refine dB ?_
    refine dB ?_
    refine fq ?_
    refine cw [2] (by kernel_rfl) (es':=[(_,_)]) rfl ?_
    exact hl14 _ (ho16 _ (zi h).symm).symm
theorem jo (bx:Nat) (s:(List dC)) (cap:dC) (r:Bool) (h:Sh.fy s cap=some r):qT Tryz.prog [(bx, [.string cap.Key, .string cap.Val])] 187 [.fl .shr 2 (flatten (map dC.enc s)), .v (.func (.func 188) #[] #[.pointer (some ⟨bx, 0, none⟩)])] (.v (.bool r)):=by
  unfold Sh.fy at h
  refine yG 9 func187 fun g0 hn hio => ?_
  refine eo hn 1 [0,1,9] ?_
  refine bq ?_
  obtain ⟨v1, hv1, h⟩:=zn h
  refine yx hn 2 ?_
  refine ys 2 ⟨lg call209 (jz _ _ _ _ hv1) 9⟩ ?_
  refine eS [9,4] ?_
  refine cY ?_
  refine cw [1] (by kernel_rfl) (es':=[(_,_)]) rfl ?_
  obtain rfl:=zi h
  exact dq hio rfl (.tmp _ _ .nil) rfl rfl
theorem Af (mx:Int×Nat×Value) (kind:Int) (s:ByteArray) (r:((List dC)×Bool)) (h:Sh.tb kind s=some r):qT Tryz.prog (GL mx) 159 [.v (.int .i64 kind), .v (.string s)] (.tup [.fl .ro 2 (flatten (map dC.enc r.1)), .v (.bool r.2)]):=by
  unfold Sh.tb at h
  refine yG 53 func159 fun g0 hn hio => ?_
  refine oh hn 1 ?_
  refine yS (.box 120 [vz]) 0 ⟨oA (fj _ _ TF)⟩ ?_
  refine yS (.box 4 [vb false]) 0 ⟨oA (fj _ _ VM)⟩ ?_
  refine eS [1,53,2,4,5] ?_
  refine oh hn 0 ?_
  refine yS (.box 120 [vz]) 0 ⟨oA (fj _ _ TF)⟩ ?_
  refine eS [1,53,2,4,5,6] ?_
  refine bq ?_
  refine eo hn 2 [1,53,2,4,5,6,15] ?_
  refine cU _ rfl (fun hb33 => ?_) (fun hb33 => ?_)
  ·have h:=dn hb33 h
   refine eo hn 3 [53,4,5] ?_
   refine cY ?_
   refine cw [1,2] (by kernel_rfl) (es':=[(_,_),(_,_)]) rfl ?_
   refine iZ (fs:=[(4,.box 120 [.fl (.own 181) 2 (flatten (map dC.enc []))]),(5,.box 4 [vb true])]) (.box _ _ (bI (gr 181 2) (fM)) rfl (.same _ .nil)) ?_
   refine nw 0 hio (es':=[(4, .box 120 [.fl .ro 2 (flatten (map dC.enc []))]), (5, .box 4 [.v (.bool true)])]) rfl ?_
   refine cT ?_
   obtain rfl:=zi h
   exact dq hio rfl (.cell1 _ _ _ _ underlying120 rfl (.cell1 _ _ _ _ underlying4 rfl .nil)) rfl rfl
  ·have h:=dj hb33 h
   refine dw ?_
   refine cr (bq ?_)
   obtain ⟨v2, hv2, h⟩:=zn h
   refine yx hn 1 ?_
   refine ys 0 ⟨lk call184 (sN _ _ _ hv2)⟩ ?_
   refine ym 2 ?_
   refine yw [1] 2 ?_
   refine eS [53,2,4,5,6,1,7] ?_
   refine bq ?_
   refine eo hn 2 [53,2,4,5,6,1,23] ?_
   refine cU _ rfl (fun hb34 => ?_) (fun hb34 => ?_)
   ·have h:=dn hb34 h
    refine eo hn 2 [53,4,5] ?_
    refine cY ?_
    refine cw [1,2] (by kernel_rfl) (es':=[(_,_),(_,_)]) rfl ?_
    refine iZ (fs:=[(4,.box 120 [.fl (.own 181) 2 (flatten (map dC.enc []))]),(5,.box 4 [vb false])]) (.box _ _ (bI (gr 181 2) (fM)) rfl (.same _ .nil)) ?_
    refine nw 0 hio (es':=[(4, .box 120 [.fl .ro 2 (flatten (map dC.enc []))]), (5, .box 4 [.v (.bool false)])]) rfl ?_
    refine cT ?_
    obtain rfl:=zi h
    exact dq hio rfl (.cell1 _ _ _ _ underlying120 rfl (.cell1 _ _ _ _ underlying4 rfl .nil)) rfl rfl
   ·have h:=dj hb34 h
    refine dw ?_
    refine cr (bq ?_)
    refine bq ?_
    obtain ⟨v4, hv4, h⟩:=zn h
    refine yx hn 1 ?_
    refine yk [] [24] ?_
    refine yt (25,.cloB 119 [.box 9 [vs v4.1],.box 9 [vs v4.2.1],.box 3 [vi v4.2.2]]) 0 ⟨pO _ _ 80 _ _ rfl call80 rfl rfl (pB v2.1 (⟨#[32]⟩:ByteArray) _ hv4) rfl⟩ ?_
    refine eS [53,2,4,5,6,25] ?_
    refine dY ?_
    refine sw [5,0,1,2,3,4] (by kernel_rfl) (es':=[(25,.cloB 119 [.box 9 [vs v4.1],.box 9 [vs v4.2.1],.box 3 [vi v4.2.2]]),(53,.glob (GL mx)),(2,.box 3 [vi kind]),(4,.box 120 [vz]),(5,.box 4 [vb false]),(6,.box 120 [vz])]) rfl ?_
    refine Br (fs:=[(25,.cloB 119 [.box 9 [vs v4.1],.box 9 [vs v4.2.1],.box 3 [vi v4.2.2]]),(53,.glob (GL mx)),(2,.box 3 [vi kind]),(4,.box 120 [vz]),(5,.box 4 [vb false]),(6,.box 120 [.fl (.own 181) 2 (flatten (map dC.enc []))])]) (.same _ (.same _ (.same _ (.same _ (.same _ (.box _ _ (bI (gr 181 2) (fM)) rfl .nil)))))) ?_
    refine qQ h 119 25 26 54 _ [53, 2, 4, 5, 6] call119 (fun (s46:(List dC))=>[(53, .glob (GL mx)), (2, .box 3 [.v (.int .i64 kind)]), (4, .box 120 [vz]), (5, .box 4 [.v (.bool false)]), (6, .box 120 [.fl (.own 181) 2 (flatten (map dC.enc s46))])]) (fun (s52:(List dC))=>[(53, .glob (GL mx)), (2, .box 3 [.v (.int .i64 kind)]), (4, .box 120 [vz]), (5, .box 4 [.v (.bool false)]), (6, .box 120 [.fl (.own 181) 2 (flatten (map dC.enc s52))])]) (fun l J Y hY t t' h=>nR mx l J Y hY v4.1 v4.2.1 v4.2.2 t t' h) hn rfl (fun _=>rfl) (fun _=>rfl) (fun _=>rfl) rfl rfl (fun _=>⟨rfl, rfl⟩) rfl (re 53 rfl) ?_ ?_ ?_
    ·rintro kk g0 hn hio x s46 u h
     refine Ee (es':=[(26,vs x),(53,.glob (GL mx)),(2,.box 3 [vi kind]),(4,.box 120 [vz]),(5,.box 4 [vb false]),(6,.box 120 [.fl (.own 181) 2 (flatten (map dC.enc s46))]),(53,.v (kk.tm.getD 53 undef)),(2,.v (kk.tm.getD 2 undef)),(4,.v (kk.tm.getD 4 undef)),(5,.v (kk.tm.getD 5 undef)),(6,.v (kk.tm.getD 6 undef)),(54,.inv kk.ready)]) rfl ?_
     refine yy hn 1 [53,2,4,5,6,54,8,53,2,4,5,6] ?_
     refine cw [0,1,2,3,4,6,7,8,9,10,11,5] (by kernel_rfl) (es':=[(53,.glob (GL mx)),(2,.box 3 [vi kind]),(4,.box 120 [vz]),(5,.box 4 [vb false]),(6,.box 120 [.fl (.own 181) 2 (flatten (map dC.enc s46))]),(8,vs x),(53,.v (kk.tm.getD 53 undef)),(2,.v (kk.tm.getD 2 undef)),(4,.v (kk.tm.getD 4 undef)),(5,.v (kk.tm.getD 5 undef)),(6,.v (kk.tm.getD 6 undef)),(54,.inv kk.ready)]) rfl ?_
     refine sL (es:=[(53,.glob (GL mx)),(2,.box 3 [vi kind]),(4,.box 120 [vz]),(5,.box 4 [vb false]),(6,.box 120 [.fl (.own 181) 2 (flatten (map dC.enc s46))]),(8,vs x),(53,.v (kk.tm.getD 53 undef)),(2,.v (kk.tm.getD 2 undef)),(4,.v (kk.tm.getD 4 undef)),(5,.v (kk.tm.getD 5 undef)),(6,.v (kk.tm.getD 6 undef))]) 54 rfl ?_
     refine dY ?_
     refine bq ?_
     obtain ⟨v5, hv5, h⟩:=zn h
     refine yx hn 1 ?_
     refine ys 0 ⟨lk call134 (rR _ _ _ hv5)⟩ ?_
     refine ym 6 ?_
     refine eS [53,2,4,5,6,54,9,10,53,2,4,5,6] ?_
     refine bq ?_
     obtain ⟨v6, hv6, h⟩:=zn h
     obtain ⟨v7, hv7, h⟩:=zn h
     refine Cf (by kernel_rfl) hn (El:=(_::_::_::_::_::_::_::_::_::_::_::_::_::(34,vi kind)::(35,vs v5.1)::(36,vs v6)::(37,vs v5.2.1)::(38,.tup [.agg [vs v7.1.Key,vs v7.1.Val],vb v7.2])::(33,.tup [.agg [vs v7.1.Key,vs v7.1.Val],.any])::(33,.tup [.any,vb v7.2])::(39,.agg [vs v7.1.Key,vs v7.1.Val])::(33,.tup [.any,.any])::(40,vb v7.2)::(12,.box 181 [vs z0,vs z0])::(12,.box 181 [vs v7.1.Key,vs v7.1.Val])::(13,vb v7.2)::[])) (init:=[0,1,2,3,4,5,6,7,8,9,10,11,12]) (fin:=[0,1,2,3,4,5,24,25,8,9,10,11,12]) (sps:=[zq [1] 13 34,zq [6] 14 35,zq [14] 15 36,zq [7] 16 37,zq [13,15,16] 17 38,⟨[],[17],[18,19],[(.slot 33)]⟩,⟨[],[18],[21,20],[(.slot 39)]⟩,zq [19] 22 40,zq [] 23 12,⟨[20],[23],[24],[.cell 12 0,.cell 12 1]⟩,zq [22] 25 13]) (es':=[(_,_),(_,_),(_,_),(_,_),(_,_),(_,_),(12,.box 181 [vs v7.1.Key,vs v7.1.Val]),(13,vb v7.2),(_,_),(_,_),(_,_),(_,_),(_,_)]) (by kernel_rfl) rfl rfl ⟨zp rfl (oL underlying3 rfl),z1 rfl,zp rfl (Fa _ _ 71 _ _ rfl call71 rfl (mj v5.1 _ hv6) rfl rfl),z1 rfl,zp rfl (Fa _ _ 186 _ _ rfl call186 rfl (BM kind v6 v5.2.1 _ hv7) rfl rfl),zp rfl (eC.split (A:=[]) 33 0 _ _ _ (ni _ _ _ _ rfl) (zl rfl) rfl rfl),zp rfl (pU _ _ _ _ _ rfl (zl rfl) rfl rfl (by decide) rfl),zp rfl (oE rfl),zp rfl (fj _ _ Eg),zp rfl (oS Cj rfl),z2 rfl,zz⟩ ?_
     refine cr (bq ?_)
     refine bq ?_
     refine dO h (fun (s53:Bool)=>[(53,.glob (GL mx)),(2,.box 3 [vi kind]),(4,.box 120 [vz]),(5,.box 4 [vb false]),(6,.box 120 [.fl (.own 181) 2 (flatten (map dC.enc s46))]),(54,.inv kk.busy),(12,.box 181 [vs v7.1.Key,vs v7.1.Val]),(47,vb s53),(53,.v (kk.tm.getD 53 undef)),(2,.v (kk.tm.getD 2 undef)),(4,.v (kk.tm.getD 4 undef)),(5,.v (kk.tm.getD 5 undef)),(6,.v (kk.tm.getD 6 undef))]) ?_ ?_
     ·rintro s53 h
      refine cr ?_
      refine cU _ rfl (fun hb57 => ?_) (fun hb57 => ?_)
      ·have h:=dn hb57 h
       refine eo hn 2 [53,2,4,5,6,54,53,2,4,5,6] ?_
       refine cY ?_
       refine cT ?_
       refine eA ?_
       refine cw [0,1,2,3,4,6,7,8,9,10,5] (by kernel_rfl) (es':=[(_,_),(_,_),(_,_),(_,_),(_,_),(_,_),(_,_),(_,_),(_,_),(_,_),(_,_)]) rfl ?_
       obtain rfl:=zi h
       exact BU 54 [53, 2, 4, 5, 6] _ rfl rfl (by kernel_rfl)
      ·have h:=dj hb57 h
       refine dw ?_
       refine cr ?_
       obtain ⟨v14, hv14, h⟩:=zn h
       refine yx hn 2 ?_
       refine yS (.fl (.own 181) 2 (flatten (map dC.enc [v7.1]))) 0 ⟨eN _ _ 2 (.agg #[.string ByteArray.empty,.string ByteArray.empty]) (flatten (map dC.enc [v7.1])) [(0,.agg #[.string v7.1.Key,.string v7.1.Val])] underlying120 Cj Eg (fun _ V w o a hv hes=>by have e0:=TJ (ys:=[.string v7.1.Key,.string v7.1.Val]) hv hes (x := .tmp 49) rfl; simp only [List.map_toArray,List.map_cons,List.map_nil,e0]; try rfl) (iw (by simp [Instr.fill,Value.cells]; rfl) (by simp [List.range,List.range.loop,dC.enc] <;> rfl)) (by simp [Value.oneCell',dC.enc]) rfl (by decide) (by decide) (by decide)⟩ ?_
       refine yk [6] [48,50] ?_
       refine wX (6,.box 120 [.any]) (51,.fl (.own 181) 2 (flatten (map dC.enc v14))) 0 ⟨qO _ _ _ _ _ _ Vr rfl rfl (zl rfl) rfl (tK dC.len _) (tK dC.len _) hv14 (Lk (rv hv14)) (Nat.ne_of_beq_eq_false rfl) rfl rfl⟩ ?_
       refine yw [48] 0 ?_
       refine yk [51,6] [] ?_
       refine yt (6,.box 120 [.fl (.own 181) 2 (flatten (map dC.enc v14))]) 0 ⟨eD _ _ _ _ _ _ _ _ VG rfl rfl rfl (zl rfl) rfl rfl⟩ ?_
       refine ye [53,2,4,5,6,54,53,2,4,5,6] ?_
       refine ep ?_
       refine cw [0,1,2,3,4,6,7,8,9,10,5] (by kernel_rfl) (es':=[(_,_),(_,_),(_,_),(_,_),(_,_),(_,_),(_,_),(_,_),(_,_),(_,_),(_,_)]) rfl ?_
       obtain rfl:=zi h
       exact sQ 54 [53, 2, 4, 5, 6] _ rfl rfl (by kernel_rfl)
     ·intro u54 h hl55 hr56
      refine cZ h (fun hg11_2 h => ?_) (fun hg11_2 h => ?_)
      ·refine yx hn 3 ?_
       refine yd hg11_2 4 ?_
       refine ye [53,2,4,5,6,54,12,47,53,2,4,5,6] ?_
       exact hl55 _ (zi h).symm
      ·obtain ⟨v8, hv8, h⟩:=zn h
       refine yx hn 3 ?_
       refine yd hg11_2 1 ?_
       refine yS (.clo 188 [12]) 0 ⟨ve _ _ _ 12 (by decide)⟩ ?_
       refine yS (vb v8) 1 ⟨QP _ 46 12 45 187 188 [.string v7.1.Key,.string v7.1.Val] [.tmp 44] _ _ rfl call187 rfl rfl rfl rfl (fun bx=>jo bx s46 v7.1 _ hv8) rfl rfl⟩ ?_
       refine ye [53,2,4,5,6,54,12,47,53,2,4,5,6] ?_
       exact hl55 _ (zi h).symm
    ·rintro D s46 h
     refine ep ?_
     refine cr (bq ?_)
     refine KB 4 hio (es':=[(53, .glob (GL mx)), (2, .box 3 [.v (.int .i64 kind)]), (4, .box 120 [vz]), (5, .box 4 [.v (.bool false)]), (6, .box 120 [.fl .ro 2 (flatten (map dC.enc s46))])]) rfl ?_
     refine yy hn 3 [53,4,5] ?_
     refine cr (cY ?_)
     refine cw [1,2] (by kernel_rfl) (es':=[(_,_),(_,_)]) rfl ?_
     obtain rfl:=zi h
     exact dq hio rfl (.cell1 _ _ _ _ underlying120 rfl (.cell1 _ _ _ _ underlying4 rfl .nil)) rfl rfl
    ·rintro D s52 h
     refine cw [2,3] (by kernel_rfl) (es':=[(_,_),(_,_)]) rfl ?_
     refine iZ (fs:=[(4,.box 120 [.fl (.own 181) 2 (flatten (map dC.enc []))]),(5,.box 4 [vb false])]) (.box _ _ (bI (gr 181 2) (fM)) rfl (.same _ .nil)) ?_
     refine nw 0 hio (es':=[(4, .box 120 [.fl .ro 2 (flatten (map dC.enc []))]), (5, .box 4 [.v (.bool false)])]) rfl ?_
     refine eA ?_
     refine cT ?_
     obtain rfl:=zi h
     exact dq hio rfl (.cell1 _ _ _ _ underlying120 rfl (.cell1 _ _ _ _ underlying4 rfl .nil)) rfl rfl
theorem zE (mx:Int×Nat×Value) (kind:Int) (line:ByteArray) (r:(fO×Bool)) (h:Sh.sb kind line=some r):qT Tryz.prog (GL mx) 137 [.v (.int .i64 kind), .v (.string line)] (.tup [.agg [.v (.int .i64 r.1.Kind), .v (.string r.1.Text), .v (.bool r.1.Path.Null), .v (.string r.1.Path.Local), .v (.string r.1.Path.Domain), .fl .ro 2 (flatten (map dC.enc r.1.Params))], .v (.bool r.2)]):=by
  unfold Sh.sb at h
  refine yG 56 func137 fun g0 hn hio => ?_
  refine oh hn 0 ?_
  refine yS (.box 122 [vi 0,vs z0,vb false,vs z0,vs z0,vz]) 1 ⟨oA (fj _ _ va)⟩ ?_
  refine eS [0,1,56,4] ?_
  refine bq ?_
  obtain ⟨v1, hv1, h⟩:=zn h
  obtain ⟨v2, hv2, h⟩:=zn h
  refine yx hn 2 ?_
  refine ys 0 ⟨lk call157 (EI _ _ hv1)⟩ ?_
  refine ys 0 ⟨lk call135 (wI _ _ _ hv2)⟩ ?_
  refine ym 4 ?_
  refine eS [0,56,4,6,7] ?_
  refine bq ?_
  refine eo hn 2 [0,56,4,6,20] ?_
  refine cU _ rfl (fun hb15 => ?_) (fun hb15 => ?_)
  ·have h:=dn hb15 h
   refine oh hn 0 ?_
   refine yS (.agg [vi 0,vs z0,vb false,vs z0,vs z0,vz]) 0 ⟨fJ _ _ _ _ [1,1,3,1] _ _ underlying122 va (He _ underlying122) uY.nil rfl rfl rfl⟩ ?_
   refine yk [21,4] [] ?_
   refine yt (4,.box 122 [vi 0,vs z0,vb false,vs z0,vs z0,vz]) 1 ⟨kg _ _ _ 21 4 6 oi rfl rfl rfl rfl rfl (.eq _ (.eq _ (.eq _ (.eq _ (.eq _ (.eq _ (.nil _))))))) rfl⟩ ?_
   refine eS [56,4,5] ?_
   refine cY ?_
   refine cw [1,2] (by kernel_rfl) (es':=[(_,_),(_,_)]) rfl ?_
   refine iZ (fs:=[(4,.box 122 [vi 0,vs z0,vb false,vs z0,vs z0,.fl (.own 181) 2 (flatten (map dC.enc []))]),(5,vb false)]) (.box _ _ (bI (cO _) (bI (cO _) (bI (cO _) (bI (cO _) (bI (cO _) (bI (gr 181 2) (fM))))))) rfl (.same _ .nil)) ?_
   refine nw 0 hio (es':=[(4, .box 122 [.v (.int .i64 0),.v (.string (⟨#[]⟩:ByteArray)),.v (.bool false),.v (.string (⟨#[]⟩:ByteArray)),.v (.string (⟨#[]⟩:ByteArray)),.fl .ro 2 (flatten (map dC.enc []))]), (5, .v (.bool false))]) rfl ?_
   refine cT ?_
   obtain rfl:=zi h
   exact dq hio rfl (.cellA _ _ _ _ underlying122 rfl oi (.tmp _ _ .nil)) rfl rfl
  ·have h:=dj hb15 h
   refine dw ?_
   refine cr (bq ?_)
   obtain ⟨v4, hv4, h⟩:=zn h
   obtain ⟨v5, hv5, h⟩:=zn h
   refine yx hn 1 ?_
   refine ys 0 ⟨lk call121 (vy _ _ _ hv4)⟩ ?_
   refine ys 1 ⟨lb hv5⟩ ?_
   refine eS [0,56,4,6,8] ?_
   refine bq ?_
   obtain ⟨v6, hv6, h⟩:=zn h
   obtain ⟨v7, hv7, h⟩:=zn h
   refine yx hn 2 ?_
   refine yS (vs v6) 0 ⟨iT _ _ _ 0 v5 _ underlying9 rfl rfl ⟨_,rfl⟩ hv6⟩ ?_
   refine ys 0 ⟨lg call158 (HQ _ _ _ hv7) 56⟩ ?_
   refine ym 0 ?_
   refine yS (.agg [vb v7.1.Null,vs v7.1.Local,vs v7.1.Domain]) 1 ⟨nL _ _ _ _ _ _ rfl rfl (zl rfl) rfl rfl⟩ ?_
   refine yS (.box 26 [vb false,vs z0,vs z0]) 2 ⟨oA (fj _ _ Ab)⟩ ?_
   refine eS [0,56,4,6,8,9,10] ?_
   refine bq ?_
   refine bq ?_
   refine dO h (fun (s16:Bool)=>[(0,vi kind),(56,.glob (GL mx)),(4,.box 122 [vi 0,vs z0,vb false,vs z0,vs z0,vz]),(6,vs v2.1),(8,vi v5),(9,.box 26 [vb v7.1.Null,vs v7.1.Local,vs v7.1.Domain]),(41,vb s16)]) ?_ ?_
   ·rintro s16 h
    refine cr ?_
    refine cU _ rfl (fun hb20 => ?_) (fun hb20 => ?_)
    ·have h:=dn hb20 h
     refine oh hn 0 ?_
     refine yS (.agg [vi 0,vs z0,vb false,vs z0,vs z0,vz]) 0 ⟨fJ _ _ _ _ [1,1,3,1] _ _ underlying122 va (He _ underlying122) uY.nil rfl rfl rfl⟩ ?_
     refine yk [42,4] [] ?_
     refine yt (4,.box 122 [vi 0,vs z0,vb false,vs z0,vs z0,vz]) 1 ⟨kg _ _ _ 42 4 6 oi rfl rfl rfl rfl rfl (.eq _ (.eq _ (.eq _ (.eq _ (.eq _ (.eq _ (.nil _))))))) rfl⟩ ?_
     refine eS [56,4,5] ?_
     refine cY ?_
     refine cw [1,2] (by kernel_rfl) (es':=[(_,_),(_,_)]) rfl ?_
     refine iZ (fs:=[(4,.box 122 [vi 0,vs z0,vb false,vs z0,vs z0,.fl (.own 181) 2 (flatten (map dC.enc []))]),(5,vb false)]) (.box _ _ (bI (cO _) (bI (cO _) (bI (cO _) (bI (cO _) (bI (cO _) (bI (gr 181 2) (fM))))))) rfl (.same _ .nil)) ?_
     refine nw 0 hio (es':=[(4, .box 122 [.v (.int .i64 0),.v (.string (⟨#[]⟩:ByteArray)),.v (.bool false),.v (.string (⟨#[]⟩:ByteArray)),.v (.string (⟨#[]⟩:ByteArray)),.fl .ro 2 (flatten (map dC.enc []))]), (5, .v (.bool false))]) rfl ?_
     refine cT ?_
     obtain rfl:=zi h
     exact dq hio rfl (.cellA _ _ _ _ underlying122 rfl oi (.tmp _ _ .nil)) rfl rfl
    ·have h:=dj hb20 h
     refine dw ?_
     refine cr (bq ?_)
     obtain ⟨v13, hv13, h⟩:=zn h
     obtain ⟨v14, hv14, h⟩:=zn h
     refine yx hn 3 ?_
     refine yS (vs v13) 0 ⟨iT _ _ _ v5 (v2.1.size:Int) _ underlying9 rfl ⟨_,rfl⟩ rfl hv13⟩ ?_
     refine ys 0 ⟨lg call159 (Af _ _ _ _ hv14) 56⟩ ?_
     refine ym 4 ?_
     refine eS [0,56,4,9,11,7] ?_
     refine oh hn 3 ?_
     refine yS (.agg [vi kind,vs z0,vb v7.1.Null,vs v7.1.Local,vs v7.1.Domain,.fl .ro 2 (flatten (map dC.enc v14.1))]) 3 ⟨fJ _ _ _ _ [1,1,3,1] _ _ underlying122 va (He _ underlying122) (.copy _ (.copy _ (.copy _ uY.nil))) rfl rfl rfl⟩ ?_
     refine eS [56,4,5] ?_
     refine cY ?_
     refine cw [1,2] (by kernel_rfl) (es':=[(_,_),(_,_)]) rfl ?_
     obtain rfl:=zi h
     exact dq hio rfl (.cellA _ _ _ _ underlying122 rfl oi (.tmp _ _ .nil)) rfl rfl
   ·intro u17 h hl18 hr19
    refine cZ h (fun hg6_2 h => ?_) (fun hg6_2 h => ?_)
    ·refine yx hn 3 ?_
     refine yd hg6_2 7 ?_
     refine ye [0,56,4,6,8,9,41] ?_
     exact hl18 _ (zi h).symm
    ·refine cZ h (fun hg6_5 h => ?_) (fun hg6_5 h => ?_)
     ·refine yx hn 3 ?_
      refine yd hg6_2 3 ?_
      refine yd hg6_5 4 ?_
      refine ye [0,56,4,6,8,9,41] ?_
      exact hl18 _ (zi h).symm
     ·refine yx hn 3 ?_
      refine yd hg6_2 3 ?_
      refine yd hg6_5 4 ?_
      refine ye [0,56,4,6,8,9,41] ?_
      exact hl18 _ (zi h).symm
theorem Er (mx:Int×Nat×Value) (line:ByteArray) (r:(fO×Bool)) (h:Sh.vR line=some r):qT Tryz.prog (GL mx) 111 [.v (.string line)] (.tup [.agg [.v (.int .i64 r.1.Kind), .v (.string r.1.Text), .v (.bool r.1.Path.Null), .v (.string r.1.Path.Local), .v (.string r.1.Path.Domain), .fl .ro 2 (flatten (map dC.enc r.1.Params))], .v (.bool r.2)]):=by
  unfold Sh.vR at h
  refine yG 65 func111 fun g0 hn hio => ?_
  refine oh hn 0 ?_
  refine yS (.box 122 [vi 0,vs z0,vb false,vs z0,vs z0,vz]) 1 ⟨oA (fj _ _ va)⟩ ?_
  refine eS [0,65,2] ?_
  refine bq ?_
  obtain ⟨v1, hv1, h⟩:=zn h
  refine yx hn 1 ?_
  refine ys 0 ⟨lk call134 (rR _ _ _ hv1)⟩ ?_
  refine ym 6 ?_
  refine eS [0,65,2,5,6] ?_
  refine bq ?_
  obtain ⟨v2, hv2, h⟩:=zn h
  refine yx hn 1 ?_
  refine ys 0 ⟨lk call109 (yH _ _ hv2)⟩ ?_
  refine yS (.agg [vi v2,vs z0,vb false,vs z0,vs z0,vz]) 0 ⟨fJ _ _ _ _ [1,1,3,1] _ _ underlying122 va (He _ underlying122) (.copy _ uY.nil) rfl rfl rfl⟩ ?_
  refine yS (.box 122 [vi 0,vs z0,vb false,vs z0,vs z0,vz]) 1 ⟨oA (fj _ _ va)⟩ ?_
  refine eS [0,65,2,5,6,7] ?_
  refine bq ?_
  refine eo hn 2 [0,65,2,5,6,7,18] ?_
  refine dY ?_
  refine bq ?_
  refine dO h (fun (s30:Bool)=>[(0,vs line),(65,.glob (GL mx)),(2,.box 122 [vi 0,vs z0,vb false,vs z0,vs z0,vz]),(5,vs v1.2.1),(6,vb v1.2.2),(7,.box 122 [vi v2,vs z0,vb false,vs z0,vs z0,vz]),(18,vi v2),(19,vb s30)]) ?_ ?_
  ·rintro s30 h
   refine cr ?_
   refine cU _ rfl (fun hb35 => ?_) (fun hb35 => ?_)
   ·have h:=dn hb35 h
    refine bq ?_
    obtain ⟨v10, hv10, h⟩:=zn h
    refine yx hn 3 ?_
    refine ys 0 ⟨lg call137 (zE _ _ _ _ hv10) 65⟩ ?_
    refine yS (.agg [vi v10.1.Kind,vs v10.1.Text,vb v10.1.Path.Null,vs v10.1.Path.Local,vs v10.1.Path.Domain,.fl .ro 2 (flatten (map dC.enc v10.1.Params))]) 3 ⟨nL _ _ _ _ _ _ rfl rfl (zl rfl) rfl rfl⟩ ?_
    refine eS [65,2,3] ?_
    refine cY ?_
    refine cw [1,2] (by kernel_rfl) (es':=[(_,_),(_,_)]) rfl ?_
    refine eA ?_
    refine cT ?_
    obtain rfl:=zi h
    exact dq hio rfl (.cellA _ _ _ _ underlying122 rfl oi (.tmp _ _ .nil)) rfl rfl
   ·have h:=dj hb35 h
    refine bq ?_
    refine dO h (fun (s37:Bool)=>[(65,.glob (GL mx)),(2,.box 122 [vi 0,vs z0,vb false,vs z0,vs z0,vz]),(5,vs v1.2.1),(6,vb v1.2.2),(7,.box 122 [vi v2,vs z0,vb false,vs z0,vs z0,vz]),(18,vi v2),(28,vb s37)]) ?_ ?_
    ·rintro s37 h
     refine cr ?_
     refine cU _ rfl (fun hb42 => ?_) (fun hb42 => ?_)
     ·have h:=dn hb42 h
      refine eo hn 3 [65,2,5,7] ?_
      refine bq ?_
      obtain ⟨v18, hv18, h⟩:=zn h
      refine wb [[7],[5]] ?_
      refine wN [34,65] ?_
      refine wo [] ⟨lg call55 (ib _ _ _ hv18) 65⟩ ?_
      refine wK [2] [33] ?_
      refine wt [(2,.box 122 [vi v2,vs v1.2.1,vb false,vs z0,vs z0,vz])] [[35]] ⟨mb _ _ _ _ _ _ _ _ oi rfl rfl rfl rfl (zl rfl) rfl rfl⟩ ?_
      refine Ht hn [65,2,3] ?_
      refine cY ?_
      refine cw [1,2] (by kernel_rfl) (es':=[(_,_),(_,_)]) rfl ?_
      refine iZ (fs:=[(2,.box 122 [vi v2,vs v1.2.1,vb false,vs z0,vs z0,.fl (.own 181) 2 (flatten (map dC.enc []))]),(3,vb v18)]) (.box _ _ (bI (cO _) (bI (cO _) (bI (cO _) (bI (cO _) (bI (cO _) (bI (gr 181 2) (fM))))))) rfl (.same _ .nil)) ?_
      refine nw 0 hio (es':=[(2, .box 122 [.v (.int .i64 v2),.v (.string v1.2.1),.v (.bool false),.v (.string (⟨#[]⟩:ByteArray)),.v (.string (⟨#[]⟩:ByteArray)),.fl .ro 2 (flatten (map dC.enc []))]), (3, .v (.bool v18))]) rfl ?_
      refine eA ?_
      refine cT ?_
      obtain rfl:=zi h
      exact dq hio rfl (.cellA _ _ _ _ underlying122 rfl oi (.tmp _ _ .nil)) rfl rfl
     ·have h:=dj hb42 h
      refine eo hn 2 [65,2,5,6,7,18,36] ?_
      refine cU _ rfl (fun hb43 => ?_) (fun hb43 => ?_)
      ·have h:=dn hb43 h
       refine eo hn 3 [65,2,5,7] ?_
       refine eo hn 5 [65,2,3] ?_
       refine cY ?_
       refine cw [1,2] (by kernel_rfl) (es':=[(_,_),(_,_)]) rfl ?_
       refine iZ (fs:=[(2,.box 122 [vi v2,vs v1.2.1,vb false,vs z0,vs z0,.fl (.own 181) 2 (flatten (map dC.enc []))]),(3,vb (!(v1.2.1.toList==z0.toList)))]) (.box _ _ (bI (cO _) (bI (cO _) (bI (cO _) (bI (cO _) (bI (cO _) (bI (gr 181 2) (fM))))))) rfl (.same _ .nil)) ?_
       refine nw 0 hio (es':=[(2, .box 122 [.v (.int .i64 v2),.v (.string v1.2.1),.v (.bool false),.v (.string (⟨#[]⟩:ByteArray)),.v (.string (⟨#[]⟩:ByteArray)),.fl .ro 2 (flatten (map dC.enc []))]), (3, .v (.bool ((!(v1.2.1.toList==(⟨#[]⟩:ByteArray).toList)))))]) rfl ?_
       refine eA ?_
       refine cT ?_
       obtain rfl:=zi h
       exact dq hio rfl (.cellA _ _ _ _ underlying122 rfl oi (.tmp _ _ .nil)) rfl rfl
      ·have h:=dj hb43 h
       refine eo hn 2 [65,2,5,6,7,18,43] ?_
       refine cU _ rfl (fun hb44 => ?_) (fun hb44 => ?_)
       ·have h:=dn hb44 h
        refine eo hn 3 [65,2,5,6,7] ?_
        refine bq ?_
        refine dO h (fun (s45:Bool)=>[(65,.glob (GL mx)),(2,.box 122 [vi v2,vs v1.2.1,vb false,vs z0,vs z0,vz]),(3,vb s45)]) ?_ ?_
        ·rintro s45 h
         refine cr (cY ?_)
         refine cw [1,2] (by kernel_rfl) (es':=[(_,_),(_,_)]) rfl ?_
         refine iZ (fs:=[(2,.box 122 [vi v2,vs v1.2.1,vb false,vs z0,vs z0,.fl (.own 181) 2 (flatten (map dC.enc []))]),(3,vb s45)]) (.box _ _ (bI (cO _) (bI (cO _) (bI (cO _) (bI (cO _) (bI (cO _) (bI (gr 181 2) (fM))))))) rfl (.same _ .nil)) ?_
         refine nw 0 hio (es':=[(2, .box 122 [.v (.int .i64 v2),.v (.string v1.2.1),.v (.bool false),.v (.string (⟨#[]⟩:ByteArray)),.v (.string (⟨#[]⟩:ByteArray)),.fl .ro 2 (flatten (map dC.enc []))]), (3, .v (.bool s45))]) rfl ?_
         refine eA ?_
         refine cT ?_
         obtain rfl:=zi h
         exact dq hio rfl (.cellA _ _ _ _ underlying122 rfl oi (.tmp _ _ .nil)) rfl rfl
        ·intro u46 h hl47 hr48
         refine cZ h (fun hg16_3 h => ?_) (fun hg16_3 h => ?_)
         ·refine wb [[7],[6],[48],[49]] ?_
          refine wd hg16_3 [[50],[50],[50]] ?_
          refine wK [2] [47] ?_
          refine wt [(2,.box 122 [vi v2,vs v1.2.1,vb false,vs z0,vs z0,vz])] [[53]] ⟨mb _ _ _ _ _ _ _ _ oi rfl rfl rfl rfl (zl rfl) rfl rfl⟩ ?_
          refine we hn [65,2,3] ?_
          exact hl47 _ (zi h).symm
         ·obtain ⟨v21, hv21, h⟩:=zn h
          refine wb [[7],[6],[48],[49]] ?_
          refine wd hg16_3 [[50,5]] ?_
          refine wN [50,51,65] ?_
          refine wo [[50,52]] ⟨lg call55 (ib _ _ _ hv21) 65⟩ ?_
          refine wK [2] [47] ?_
          refine wt [(2,.box 122 [vi v2,vs v1.2.1,vb false,vs z0,vs z0,vz])] [[53]] ⟨mb _ _ _ _ _ _ _ _ oi rfl rfl rfl rfl (zl rfl) rfl rfl⟩ ?_
          refine we hn [65,2,3] ?_
          exact hl47 _ (zi h).symm
       ·have h:=dj hb44 h
        refine eo hn 2 [65,2,5,6,7,18,54] ?_
        refine cU _ rfl (fun hb49 => ?_) (fun hb49 => ?_)
        ·have h:=dn hb49 h
         refine bq ?_
         obtain ⟨v27, hv27, h⟩:=zn h
         refine wb [[7],[5]] ?_
         refine wN [57] ?_
         refine wo [] ⟨lk call136 (nU _ _ _ hv27)⟩ ?_
         refine wK [2] [56] ?_
         refine wt [(2,.box 122 [vi v2,vs z0,vb false,vs z0,vs z0,vz])] [[58]] ⟨mb _ _ _ _ _ _ _ _ oi rfl rfl rfl rfl (zl rfl) rfl rfl⟩ ?_
         refine Ht hn [65,2,3] ?_
         refine cY ?_
         refine cw [1,2] (by kernel_rfl) (es':=[(_,_),(_,_)]) rfl ?_
         refine iZ (fs:=[(2,.box 122 [vi v2,vs z0,vb false,vs z0,vs z0,.fl (.own 181) 2 (flatten (map dC.enc []))]),(3,vb v27)]) (.box _ _ (bI (cO _) (bI (cO _) (bI (cO _) (bI (cO _) (bI (cO _) (bI (gr 181 2) (fM))))))) rfl (.same _ .nil)) ?_
         refine nw 0 hio (es':=[(2, .box 122 [.v (.int .i64 v2),.v (.string (⟨#[]⟩:ByteArray)),.v (.bool false),.v (.string (⟨#[]⟩:ByteArray)),.v (.string (⟨#[]⟩:ByteArray)),.fl .ro 2 (flatten (map dC.enc []))]), (3, .v (.bool v27))]) rfl ?_
         refine eA ?_
         refine cT ?_
         obtain rfl:=zi h
         exact dq hio rfl (.cellA _ _ _ _ underlying122 rfl oi (.tmp _ _ .nil)) rfl rfl
        ·have h:=dj hb49 h
         refine eo hn 2 [65,2,6,7,59] ?_
         refine cU _ rfl (fun hb50 => ?_) (fun hb50 => ?_)
         ·have h:=dn hb50 h
          refine eo hn 3 [65,2,3] ?_
          refine cY ?_
          refine cw [1,2] (by kernel_rfl) (es':=[(_,_),(_,_)]) rfl ?_
          refine iZ (fs:=[(2,.box 122 [vi v2,vs z0,vb false,vs z0,vs z0,.fl (.own 181) 2 (flatten (map dC.enc []))]),(3,vb true)]) (.box _ _ (bI (cO _) (bI (cO _) (bI (cO _) (bI (cO _) (bI (cO _) (bI (gr 181 2) (fM))))))) rfl (.same _ .nil)) ?_
          refine nw 0 hio (es':=[(2, .box 122 [.v (.int .i64 v2),.v (.string (⟨#[]⟩:ByteArray)),.v (.bool false),.v (.string (⟨#[]⟩:ByteArray)),.v (.string (⟨#[]⟩:ByteArray)),.fl .ro 2 (flatten (map dC.enc []))]), (3, .v (.bool true))]) rfl ?_
          refine eA ?_
          refine cT ?_
          obtain rfl:=zi h
          exact dq hio rfl (.cellA _ _ _ _ underlying122 rfl oi (.tmp _ _ .nil)) rfl rfl
         ·have h:=dj hb50 h
          refine dw ?_
          refine ep ?_
          refine cr ?_
          refine eo hn 5 [65,2,3] ?_
          refine cY ?_
          refine cw [1,2] (by kernel_rfl) (es':=[(_,_),(_,_)]) rfl ?_
          refine iZ (fs:=[(2,.box 122 [vi v2,vs z0,vb false,vs z0,vs z0,.fl (.own 181) 2 (flatten (map dC.enc []))]),(3,vb (!v1.2.2))]) (.box _ _ (bI (cO _) (bI (cO _) (bI (cO _) (bI (cO _) (bI (cO _) (bI (gr 181 2) (fM))))))) rfl (.same _ .nil)) ?_
          refine nw 0 hio (es':=[(2, .box 122 [.v (.int .i64 v2),.v (.string (⟨#[]⟩:ByteArray)),.v (.bool false),.v (.string (⟨#[]⟩:ByteArray)),.v (.string (⟨#[]⟩:ByteArray)),.fl .ro 2 (flatten (map dC.enc []))]), (3, .v (.bool (!v1.2.2)))]) rfl ?_
          obtain rfl:=zi h
          exact dq hio rfl (.cellA _ _ _ _ underlying122 rfl oi (.tmp _ _ .nil)) rfl rfl
    ·intro u38 h hl39 hr40
     refine eo hn 2 [65,2,5,6,7,18,28] ?_
     refine cU _ rfl (fun hb41 => ?_) (fun hb41 => ?_)
     ·have h:=dn hb41 h
      refine dw ?_
      exact hl39 _ (zi h).symm
     ·have h:=dj hb41 h
      refine yx hn 1 ?_
      refine yw [28] 1 ?_
      refine ye [65,2,5,6,7,18,28] ?_
      exact hl39 _ (zi h).symm
  ·intro u31 h hl32 hr33
   refine eo hn 2 [0,65,2,5,6,7,18,19] ?_
   refine cU _ rfl (fun hb34 => ?_) (fun hb34 => ?_)
   ·have h:=dn hb34 h
    refine dw ?_
    exact hl32 _ (zi h).symm
   ·have h:=dj hb34 h
    refine yx hn 1 ?_
    refine yw [19] 1 ?_
    refine ye [0,65,2,5,6,7,18,19] ?_
    exact hl32 _ (zi h).symm
end Go.Proofs.YtjnnkhmhjcjhdaaGreatDoor
