import Derived.Test.YtjnnkhmhjcjhdaaGreatDoorOkc4
set_option linter.unusedVariables false
set_option linter.unusedSimpArgs false
set_option maxHeartbeats 1000000
namespace Go.Proofs.YtjnnkhmhjcjhdaaGreatDoor
open Go.Abs Go.Abs.Sh Tryz
open List (map flatten)
open Value (int)
theorem qS (mx:Int×Nat×Value) (b:dN) (r:((List Int)×Int)) (h:Sh.lC b=some r):gW Tryz.prog (GL mx) 130 [.agg [.v (.int .i64 b.Jw),.v (.int .i64 b.Jv),.fr .shr true 8 (flatten (map bf.ienc b.Jt))]] (.tup [.mkr 5 (map (int .u8) r.1),.v (.int .i64 r.2)]):=by
 unfold Sh.lC at h
 refine yG 50 func130 fun g0 hn hio => ?_
 refine aL hn 3 [50,1] ?_
 refine ab (ab ?_)
 obtain ⟨v1,hv1,h⟩:=zn h
 refine yx hn 1 ?_
 refine ys 1 ⟨lg call151 (qV _ _ _ hv1) 50⟩ ?_
 refine ba [50,1,4] ?_
 refine aL hn 2 [50,1,4,13] ?_
 refine al _ rfl (fun hb46 => ?_) (fun hb46 => ?_)
 ·have h:=ar hb46 h
  refine aL hn 3 [50,2,3] ?_
  refine ao ?_
  refine ag [1,2] (by kernel_rfl) (es':=[(_,_),(_,_)]) rfl ?_
  refine cu (fs:=[(2,.mkr 5 (map (int .u8) [])),(3,vi v1)]) (.sub _ (fw 5) rfl (.same _ .nil)) ?_
  refine ai ?_
  obtain rfl:=zi h
  exact ay hio rfl (.tmp _ _ (.tmp _ _ .nil)) rfl rfl
 ·have h:=aq hb46 h
  refine au ?_
  refine ae (ab ?_)
  obtain ⟨v3,hv3,h⟩:=zn h
  refine yx hn 2 ?_
  refine ys 0 ⟨lg call152 (om _ _ _ hv3) 50⟩ ?_
  refine ya 0 ?_
  refine ba [50,1,5] ?_
  refine aL hn 1 [50,1,5,6] ?_
  refine ab (ab ?_)
  obtain ⟨v4,hv4,h⟩:=zn h
  refine wb [[1],[18,1],[1],[20,1],[1],[22,1],[23],[5],[25,5],[5]] ?_
  refine wN [27,5] ?_
  refine wo [] ⟨lk call153 (vh _ _ hv4)⟩ ?_
  refine wN [19,21,24,26,28] ?_
  refine wS (.fl (.own 3) 1 (map (int .i64) [b.Jw,b.Jv,(b.Jt.length:Int),(v3.length:Int),v4])) [[29],[]] ⟨aY _ _ 1 (.int .i64 0) (map (int .i64) [b.Jw,b.Jv,(b.Jt.length:Int),(v3.length:Int),v4]) [(0,.int .i64 b.Jw),(1,.int .i64 b.Jv),(2,.int .i64 (b.Jt.length:Int)),(3,.int .i64 (v3.length:Int)),(4,.int .i64 v4)] underlying31 Fs HV (fun _ V w o a hv hes=>by have e0:=bU hv hes (x := .tmp 19) rfl; have e1:=bU hv hes (x := .tmp 21) rfl; have e2:=bU hv hes (x := .tmp 24) rfl; have e3:=bU hv hes (x := .tmp 26) rfl; have e4:=bU hv hes (x := .tmp 28) rfl; simp only [List.map_toArray,List.map_cons,List.map_nil,e0,e1,e2,e3,e4]; try rfl) (cd (by simp [Instr.fill,Value.cells]; rfl) (by simp [List.range,List.range.loop] <;> rfl)) (by simp [Value.oneCell']) rfl (by decide) (by decide) (by decide)⟩ ?_
  refine tg hn [50,5,6,29,30,31] ?_
  refine aZ h (fun ((s51,s52):JH×Int)=>[(50,.glob (GL mx)),(5,.fl (.own 5) 1 (map (int .u8) v3)),(6,vs s51),(29,.fl (.own 3) 1 (map (int .i64) [b.Jw,b.Jv,(b.Jt.length:Int),(v3.length:Int),v4])),(30,vi ([b.Jw,b.Jv,(b.Jt.length:Int),(v3.length:Int),v4].length:Int)),(31,vi s52)]) (fun (s54:JH)=>[(50,.glob (GL mx)),(5,.fl (.own 5) 1 (map (int .u8) v3)),(6,vs s54)]) ?_ ?_
  ·rintro s54 h
   refine ae (ab ?_)
   obtain ⟨v26,hv26,h⟩:=zn h
   obtain ⟨v27,hv27,h⟩:=zn h
   obtain ⟨v44,hv44,h⟩:=zn h
   refine yx hn 1 ?_
   refine ys 0 ⟨lB (cK hv26)⟩ ?_
   refine ys 0 ⟨lU hv27⟩ ?_
   refine ym 0 ?_
   refine yk [43] [44] ?_
   refine mo (43,.any) (45,.mkr 5 (map (int .u8) v44)) 0 ⟨um _ _ _ _ _ fQ rfl rfl rfl rfl hv44 rfl⟩ ?_
   refine ya 0 ?_
   refine ba [50,9] ?_
   refine ab ?_
   refine fu hn 1 ?_
   refine yS (vi (v44.length:Int)) 1 ⟨nw _ _ _ underlying28 rfl (List.length_map _)⟩ ?_
   refine ba [50,9,48] ?_
   refine al _ rfl (fun hb62 => ?_) (fun hb62 => ?_)
   ·have h:=ar hb62 h
    refine aL hn 2 [50,2,3] ?_
    refine ao ?_
    refine ag [1,2] (by kernel_rfl) (es':=[(_,_),(_,_)]) rfl ?_
    refine cu (fs:=[(2,.mkr 5 (map (int .u8) [])),(3,vi 2)]) (.sub _ (fw 5) rfl (.same _ .nil)) ?_
    refine ai ?_
    obtain rfl:=zi h
    exact ay hio rfl (.tmp _ _ (.tmp _ _ .nil)) rfl rfl
   ·have h:=aq hb62 h
    refine au (ae ?_)
    refine fu hn 0 ?_
    refine ym 0 ?_
    refine ya 1 ?_
    refine ba [50,2,3] ?_
    refine ao ?_
    refine ag [1,2] (by kernel_rfl) (es':=[(_,_),(_,_)]) rfl ?_
    obtain rfl:=zi h
    exact ay hio rfl (.tmp _ _ (.tmp _ _ .nil)) rfl rfl
  ·rintro u55 hl56 hr57 ⟨s51,s52⟩ rr60 h ho58
   refine aL hn 1 [50,5,6,29,30,31,32] ?_
   refine ab ?_
   refine al _ rfl (fun hb61 => ?_) (fun hb61 => ?_)
   ·have h:=ar hb61 h
    refine au ?_
    refine ae (ab ?_)
    refine aJ (ab ?_)
    obtain ⟨v6,hv6,h⟩:=zn h
    obtain ⟨v7,hv7,h⟩:=zn h
    refine yx hn 0 ?_
    refine ys 0 ⟨li hv6⟩ ?_
    refine ys 1 ⟨ll hv7⟩ ?_
    refine ba [50,5,6,29,30,31,8] ?_
    obtain ⟨v8,hv8,h⟩:=zn h
    obtain ⟨v9,hv9,h⟩:=zn h
    obtain ⟨v10,hv10,h⟩:=zn h
    refine yx hn 2 ?_
    refine ys 0 ⟨lg call150 (lZ _ _ _ hv8) 50⟩ ?_
    refine ys 0 ⟨lB (cK hv9)⟩ ?_
    refine ys 0 ⟨lB (cK hv10)⟩ ?_
    refine yw [6] 1 ?_
    refine ye [50,5,29,30,31,6] ?_
    refine aP (ae ?_)
    obtain ⟨v11,hv11,h⟩:=zn h
    refine yx hn 0 ?_
    refine ys 0 ⟨lb hv11⟩ ?_
    refine yw [31] 1 ?_
    refine ye [50,5,29,30,6,31] ?_
    refine ag [0,1,4,2,3,5] (by kernel_rfl) (es':=[(_,_),(_,_),(_,_),(_,_),(_,_),(_,_)]) rfl ?_
    exact bn _ (zi h).symm rfl
   ·have h:=aq hb61 h
    refine bl (az (az (bm ?_)))
    refine ag [0,1,2] (by kernel_rfl) (es':=[(_,_),(_,_),(_,_)]) rfl ?_
    exact hl56 _ (ho58 _ (zi h).symm).symm
theorem vd (mx:Int×Nat×Value) (m:bf) (r:Bool) (h:Sh.pU m=some r):gW Tryz.prog (GL mx) 101 [.agg [.v (.bool m.Ji.Ju),.v (.string m.Ji.Jq),.v (.string m.Ji.Jf),.fl .shr 3 (flatten (map ah.enc m.To)),.fl .shr 1 (map (int .u8) m.Jb),.v (.bool m.JB),.v (.string m.Jm),.v (.int .i64 m.At)]] (.v (.bool r)):=by
 unfold Sh.pU at h
 refine yG 14 func101 fun g0 hn hio => ?_
 refine aL hn 2 [14,1] ?_
 refine ab ?_
 obtain ⟨v1,hv1,h⟩:=zn h
 refine yx hn 1 ?_
 refine yS (.fr (.own 53) true 8 (flatten (map bf.ienc [(bf.mk (ah.mk m.Ji.Ju m.Ji.Jq m.Ji.Jf) m.To m.Jb m.JB m.Jm m.At)]))) 0 ⟨lX _ _ _ 8 (.agg #[.bool false,.string ByteArray.empty,.string ByteArray.empty,.slice none 0 0,.slice none 0 0,.bool false,.string ByteArray.empty,.int .i64 0]) true _ _ underlying60 Bq BF rfl rfl (.cons (.v _) (.cons (.v _) (.cons (.v _) (.cons (.shr _ _ rfl rfl) (.cons (.shr _ _ rfl rfl) (.cons (.v _) (.cons (.v _) (.cons (.v _) (.nil))))))))) rfl (by decide) (by decide)⟩ ?_
 refine yk [7] [] ?_
 refine yt (8,.agg [vi 0,vi 65535,.fr (.own 53) true 8 (flatten (map bf.ienc [(bf.mk (ah.mk m.Ji.Ju m.Ji.Jq m.Ji.Jf) m.To m.Jb m.JB m.Jm m.At)]))]) 0 ⟨bI _ _ _ _ [1,1,1] _ _ underlying62 HZ (Iu _ underlying62) (.copy _ (.take _ _ mn.nil)) rfl rfl rfl⟩ ?_
 refine ys 0 ⟨lg call130 (qS _ _ _ hv1) 14⟩ ?_
 refine ym 0 ?_
 refine Ha 1 ?_
 refine ya 1 ?_
 refine ba [14,4] ?_
 refine aL hn 3 [14,2] ?_
 refine ao ?_
 refine ag [1] (by kernel_rfl) (es':=[(_,_)]) rfl ?_
 obtain rfl:=zi h
 exact ay hio rfl (.tmp _ _ .nil) rfl rfl
theorem lp (mx:Int×Nat×Value) (s:aa) (body:(List Int)) (r:(aA×aa)) (h:Sh.fV s body=some r):mE Tryz.prog (GL mx) 86 [.box 80 (aa.b s),.fl .shr 1 (map (int .u8) body)] [.box 80 (aa.b r.2)] (.agg [.v (.int .i64 r.1.JC.Je),.fl .ro 1 (map Value.string r.1.JC.Jp),.v (.bool r.1.Jk),.v (.bool r.1.Js.Ji.Ju),.v (.string r.1.Js.Ji.Jq),.v (.string r.1.Js.Ji.Jf),.fl .ro 3 (flatten (map ah.enc r.1.Js.To)),.fl .ro 1 (map (int .u8) r.1.Js.Jb),.v (.bool r.1.Js.JB),.v (.string r.1.Js.Jm),.v (.int .i64 r.1.Js.At),.v (.bool r.1.Ja)]):=by
 unfold Sh.fV at h
 refine CD 81 func86 fun args0 hargs0 g0 hn hio => ?_
 refine fu hn 0 ?_
 refine yS (.box 55 [vi 0,vz,vb false,vb false,vs z0,vs z0,vz,vz,vb false,vs z0,vi 0,vb false]) 0 ⟨oA (bj _ _ tn)⟩ ?_
 refine ba [0,1,81,4,0] ?_
 refine ab ?_
 obtain ⟨v1,hv1,h⟩:=zn h
 obtain ⟨v2,hv2,h⟩:=zn h
 obtain ⟨v3,hv3,h⟩:=zn h
 refine rv (by kernel_rfl) hn (El:=(_::_::_::_::_::(9,fb body)::(10,.same (.slot 0))::(11,.ptr 0 0)::(12,.ptr 0 0)::(13,.ptr 0 1)::(14,vs s.Jj.Jm)::(15,.same (.slot 0))::(16,.same (.slot 0))::(17,.ptr 0 0)::(18,.ptr 0 17)::(19,vi s.site)::(20,.ptr 0 0)::(21,.ptr 0 10)::(22,.ptr 0 10)::(23,.ptr 0 (10+v1 * 1))::(24,vs v2)::(25,.same (.slot 0))::(26,.ptr 0 0)::(27,.ptr 0 18)::(28,vi s.at_)::(29,.tup [.mkr 5 (map (int .u8) v3.1),vi v3.2])::(8,.tup [.mkr 5 (map (int .u8) v3.1),.any])::(8,.tup [.any,vi v3.2])::(30,.mkr 5 (map (int .u8) v3.1))::(8,.tup [.any,.any])::(31,vi v3.2)::(5,.mkr 5 (map (int .u8) v3.1))::(6,vi v3.2)::[])) (init:=[0,1,2,3,4]) (fin:=[0,1,2,3,31,32,4]) (sps:=(zq [1] 5 9::zq [] 6 10::zq [6,0] 7 11::zq [7,0] 8 12::zq [8,0] 9 13::zq [9,0] 10 14::zq [] 11 15::zq [] 12 16::zq [12,0] 13 17::zq [13,0] 14 18::zq [14,0] 15 19::zq [11,0] 16 20::zq [16,0] 17 21::zq [17,0] 18 22::zq [18,0,15] 19 23::zq [19,0] 20 24::zq [] 21 25::zq [21,0] 22 26::zq [22,0] 23 27::zq [23,0] 24 28::zq [5,10,20,24,2] 25 29::⟨[],[25],[26,27],[(.slot 8)]⟩::⟨[],[26],[29,28],[(.slot 30)]⟩::zq [27] 30 31::⟨[],[28],[31],[(.slot 5)]⟩::zq [30] 32 6::[])) (es':=[(_,_),(_,_),(_,_),(_,_),(5,.mkr 5 (map (int .u8) v3.1)),(6,vi v3.2),(_,_)]) (by kernel_rfl) rfl rfl ⟨z1 rfl,zp rfl (dj _ _ _ rfl),zp rfl (eF _ _ _ 0 rfl rfl (by decide)),zp rfl (oF underlying80 rfl rV),zp rfl (oF underlying30 rfl tb),zp rfl (oL underlying9 rfl),zp rfl (dj _ _ _ rfl),zp rfl (dj _ _ _ rfl),zp rfl (eF _ _ _ 0 rfl rfl (by decide)),zp rfl (oF underlying80 rfl Fs),zp rfl (oL underlying3 rfl),zp rfl (eF _ _ _ 0 rfl rfl (by decide)),zp rfl (oF underlying80 rfl FU),zp rfl (oF underlying24 rfl Gp),zp rfl (uh _ _ _ _ 2 0 10 _ underlying22 tb rfl rfl (bz hv1).1 (bz hv1).2 (by decide)),zp rfl (qH _ _ _ 0 10 v1 2 ([(s.config.Jg.getD 0 z0),(s.config.Jg.getD 1 z0)]:List JH) _ underlying9 rfl rfl rfl rfl hv2),zp rfl (dj _ _ _ rfl),zp rfl (eF _ _ _ 0 rfl rfl (by decide)),zp rfl (oF underlying80 rfl Fs),zp rfl (oL underlying3 rfl),zp rfl (vQ _ _ 81 100 _ _ rfl call100 rfl rfl (fun _ h=>h) (vq mx body s.Jj.Jm v2 s.at_ _ hv3) rfl rfl),zp rfl (aU.split (A:=[]) 8 0 _ _ _ (iF _ _ _ _ rfl) (zl rfl) rfl rfl),zp rfl (jv _ _ _ _ _ rfl (zl rfl) rfl rfl (by decide) rfl),zp rfl (oE rfl),zp rfl (fJ _ _ _ _ rfl),z2 rfl,zz⟩ ?_
 refine ae (ab ?_)
 refine zm 4 hio (es':=[(0,.box 80 (aa.b s)),(1,fb body),(81,.glob (GL mx)),(4,.box 55 [.v (.int .i64 0),vz,.v (.bool false),.v (.bool false),.v (.string (⟨#[]⟩:JH)),.v (.string (⟨#[]⟩:JH)),vz,vz,.v (.bool false),.v (.string (⟨#[]⟩:JH)),.v (.int .i64 0),.v (.bool false)]),(5,.fl .ro 1 (map (int .u8) v3.1)),(6,.v (.int .i64 v3.2)),(0,.v (List.getD args0 0 undef))]) rfl ?_
 obtain ⟨v4,hv4,h⟩:=zn h
 refine wb [[],[32,0],[33,0],[34,0],[35,0],[],[37,0],[38,0],[39,0],[40,0]] ?_
 refine wN [41,0] ?_
 refine wo [[5]] ⟨lk call59 (ir _ _ hv4)⟩ ?_
 refine wK [42] [36,43] ?_
 refine wt [(44,.agg [vb s.Jj.Ji.Ju,vs s.Jj.Ji.Jq,vs s.Jj.Ji.Jf,.fl (.own 26) 3 (flatten (map ah.enc v4)),.fl .ro 1 (map (int .u8) v3.1),vb false,vs z0,vi 0])] [] ⟨bI _ _ _ _ [3,1,1,1,1,1] _ _ underlying53 BF (Iv _ underlying53) (.copy _ (.take _ _ (.copy _ mn.nil))) rfl rfl rfl⟩ ?_
 refine wN [] ?_
 refine wS (.box 53 [vb false,vs z0,vs z0,vz,vz,vb false,vs z0,vi 0]) [] ⟨oA (bj _ _ BF)⟩ ?_
 refine wK [44,7] [] ?_
 refine wt [(7,.box 53 [vb s.Jj.Ji.Ju,vs s.Jj.Ji.Jq,vs s.Jj.Ji.Jf,.fl (.own 26) 3 (flatten (map ah.enc v4)),.fl .ro 1 (map (int .u8) v3.1),vb false,vs z0,vi 0])] [] ⟨aV _ _ _ _ _ _ _ _ Bq rfl rfl rfl (zl rfl) rfl rfl⟩ ?_
 refine tg hn [0,1,81,4,6,7,0] ?_
 refine ab (ab ?_)
 refine aC h (fun (s13:Bool)=>[(0,.box 80 (aa.b s)),(81,.glob (GL mx)),(4,.box 55 [vi 0,vz,vb false,vb false,vs z0,vs z0,vz,vz,vb false,vs z0,vi 0,vb false]),(7,.box 53 [vb s.Jj.Ji.Ju,vs s.Jj.Ji.Jq,vs s.Jj.Ji.Jf,.fl (.own 26) 3 (flatten (map ah.enc v4)),.fl .ro 1 (map (int .u8) v3.1),vb false,vs z0,vi 0]),(56,vb s13),(0,.v (List.getD args0 0 undef))]) ?_ ?_
 ·rintro s13 h
  refine ae ?_
  refine al _ rfl (fun hb17 => ?_) (fun hb17 => ?_)
  ·have h:=ar hb17 h
   refine ab ?_
   obtain ⟨v11,hv11,h⟩:=zn h
   refine yx hn 1 ?_
   refine yQ call85 (eO _ _ _ hv11) 0 [57] 0 ?_
   refine yk [58] [] ?_
   refine yt (59,.agg [vi v11.1.Je,.fl (.own 9) 1 (map Value.string v11.1.Jp),vb false,vb false,vs z0,vs z0,vz,vz,vb false,vs z0,vi 0,vb false]) 0 ⟨bI _ _ _ _ [2,1,8,1] _ _ underlying55 tn (BN _ underlying55) (.take _ _ mn.nil) rfl rfl rfl⟩ ?_
   refine yk [59,4] [] ?_
   refine yt (4,.box 55 [vi v11.1.Je,.fl (.own 9) 1 (map Value.string v11.1.Jp),vb false,vb false,vs z0,vs z0,vz,vz,vb false,vs z0,vi 0,vb false]) 0 ⟨aV _ _ _ _ _ _ _ _ wG rfl rfl rfl (zl rfl) rfl rfl⟩ ?_
   refine ba [0,81,4,0] ?_
   refine ao ?_
   refine ag [2,0,3] (by kernel_rfl) (es':=[(_,_),(_,_),(_,_)]) rfl ?_
   refine cu (fs:=[(4,.box 55 [vi v11.1.Je,.fl (.own 9) 1 (map Value.string v11.1.Jp),vb false,vb false,vs z0,vs z0,.fl (.own 26) 3 (flatten (map ah.enc [])),.fl (.own 5) 1 (map (int .u8) []),vb false,vs z0,vi 0,vb false]),(0,.box 80 (aa.b v11.2)),(0,.v (List.getD args0 0 undef))]) (.box _ _ (af (aj _) (af (aj _) (af (aj _) (af (aj _) (af (aj _) (af (aj _) (af (bO 26 3) (af (bO 5 1) (af (aj _) (af (aj _) (af (aj _) (af (aj _) (bG))))))))))))) rfl (.same _ (.same _ .nil))) ?_
   refine rz 0 hio (es':=[(4,.box 55 [.v (.int .i64 v11.1.Je),.fl .ro 1 (map Value.string v11.1.Jp),.v (.bool false),.v (.bool false),.v (.string (⟨#[]⟩:JH)),.v (.string (⟨#[]⟩:JH)),.fl .ro 3 (flatten (map ah.enc [])),.fl .ro 1 (map (int .u8) []),.v (.bool false),.v (.string (⟨#[]⟩:JH)),.v (.int .i64 0),.v (.bool false)]),(0,.box 80 (aa.b v11.2)),(0,.v (List.getD args0 0 undef))]) rfl ?_
   refine ai ?_
   obtain rfl:=zi h
   exact bJ (es:=[(4,.box 55 [.v (.int .i64 v11.1.Je),.fl .ro 1 (map Value.string v11.1.Jp),.v (.bool false),.v (.bool false),.v (.string (⟨#[]⟩:JH)),.v (.string (⟨#[]⟩:JH)),.fl .ro 3 (flatten (map ah.enc [])),.fl .ro 1 (map (int .u8) []),.v (.bool false),.v (.string (⟨#[]⟩:JH)),.v (.int .i64 0),.v (.bool false)])]) (posts:=[.box 80 (aa.b v11.2)]) hio rfl rfl (.cellA _ _ _ _ underlying55 rfl wG .nil) rfl rfl hargs0 rfl
  ·have h:=aq hb17 h
   refine au ?_
   refine ae (ab ?_)
   refine wb [[],[60,0],[61,0],[62,0],[63,0],[],[65,0],[66,0],[67,0],[68,0],[],[70,0],[71,0],[72,0],[7]] ?_
   refine wK [7] [74,64] ?_
   refine wt [(7,.box 53 [vb s.Jj.Ji.Ju,vs s.Jj.Ji.Jq,vs s.Jj.Ji.Jf,.fl (.own 26) 3 (flatten (map ah.enc v4)),.fl .ro 1 (map (int .u8) v3.1),vb s.Jj.JB,vs z0,vi 0])] [[7]] ⟨dY _ _ _ _ _ _ _ _ IY rfl rfl rfl rfl (zl rfl) rfl rfl⟩ ?_
   refine wK [7] [75,69] ?_
   refine wt [(7,.box 53 [vb s.Jj.Ji.Ju,vs s.Jj.Ji.Jq,vs s.Jj.Ji.Jf,.fl (.own 26) 3 (flatten (map ah.enc v4)),.fl .ro 1 (map (int .u8) v3.1),vb s.Jj.JB,vs s.Jj.Jm,vi 0])] [[7]] ⟨dY _ _ _ _ _ _ _ _ tb rfl rfl rfl rfl (zl rfl) rfl rfl⟩ ?_
   refine wK [7] [76,73] ?_
   refine wt [(7,.box 53 [vb s.Jj.Ji.Ju,vs s.Jj.Ji.Jq,vs s.Jj.Ji.Jf,.fl (.own 26) 3 (flatten (map ah.enc v4)),.fl .ro 1 (map (int .u8) v3.1),vb s.Jj.JB,vs s.Jj.Jm,vi s.at_])] [] ⟨dY _ _ _ _ _ _ _ _ Fs rfl rfl rfl rfl (zl rfl) rfl rfl⟩ ?_
   refine tg hn [0,81,4,7,0] ?_
   refine ab ?_
   obtain ⟨v12,hv12,h⟩:=zn h
   refine wb [[0]] ?_
   refine wK [0] [77] ?_
   refine wt [(0,.box 80 (aa.b v12.2)),(78,.agg [vi v12.1.Je,.fl (.own 9) 1 (map Value.string v12.1.Jp)])] [] ⟨sy _ _ _ _ 78 85 [.tmp 77] [_] _ _ _ rfl call85 rfl rfl rfl (eO ((aa.r s)) 250 _ hv12) (zl rfl) rfl rfl rfl rfl rfl rfl rfl rfl⟩ ?_
   refine wK [7] [] ?_
   refine wt [(79,.agg [vb s.Jj.Ji.Ju,vs s.Jj.Ji.Jq,vs s.Jj.Ji.Jf,.fl (.own 26) 3 (flatten (map ah.enc v4)),.fl .ro 1 (map (int .u8) v3.1),vb s.Jj.JB,vs s.Jj.Jm,vi s.at_])] [] ⟨nQ _ _ _ _ underlying53 rfl Bq rfl rfl⟩ ?_
   refine wK [78,79] [] ?_
   refine wt [(80,.agg [vi v12.1.Je,.fl (.own 9) 1 (map Value.string v12.1.Jp),vb true,vb s.Jj.Ji.Ju,vs s.Jj.Ji.Jq,vs s.Jj.Ji.Jf,.fl (.own 26) 3 (flatten (map ah.enc v4)),.fl .ro 1 (map (int .u8) v3.1),vb s.Jj.JB,vs s.Jj.Jm,vi s.at_,vb false])] [] ⟨bI _ _ _ _ [2,1,8,1] _ _ underlying55 tn (BN _ underlying55) (.take _ _ (.copy _ (.take _ _ mn.nil))) rfl rfl rfl⟩ ?_
   refine wK [80,4] [] ?_
   refine wt [(4,.box 55 [vi v12.1.Je,.fl (.own 9) 1 (map Value.string v12.1.Jp),vb true,vb s.Jj.Ji.Ju,vs s.Jj.Ji.Jq,vs s.Jj.Ji.Jf,.fl (.own 26) 3 (flatten (map ah.enc v4)),.fl .ro 1 (map (int .u8) v3.1),vb s.Jj.JB,vs s.Jj.Jm,vi s.at_,vb false])] [] ⟨aV _ _ _ _ _ _ _ _ wG rfl rfl rfl (zl rfl) rfl rfl⟩ ?_
   refine tg hn [0,81,4,0] ?_
   refine ao ?_
   refine ag [2,0,3] (by kernel_rfl) (es':=[(_,_),(_,_),(_,_)]) rfl ?_
   refine rz 0 hio (es':=[(4,.box 55 [.v (.int .i64 v12.1.Je),.fl .ro 1 (map Value.string v12.1.Jp),.v (.bool true),.v (.bool s.Jj.Ji.Ju),.v (.string s.Jj.Ji.Jq),.v (.string s.Jj.Ji.Jf),.fl .ro 3 (flatten (map ah.enc v4)),.fl .ro 1 (map (int .u8) v3.1),.v (.bool s.Jj.JB),.v (.string s.Jj.Jm),.v (.int .i64 s.at_),.v (.bool false)]),(0,.box 80 (aa.b v12.2)),(0,.v (List.getD args0 0 undef))]) rfl ?_
   obtain rfl:=zi h
   exact bJ (es:=[(4,.box 55 [.v (.int .i64 v12.1.Je),.fl .ro 1 (map Value.string v12.1.Jp),.v (.bool true),.v (.bool s.Jj.Ji.Ju),.v (.string s.Jj.Ji.Jq),.v (.string s.Jj.Ji.Jf),.fl .ro 3 (flatten (map ah.enc v4)),.fl .ro 1 (map (int .u8) v3.1),.v (.bool s.Jj.JB),.v (.string s.Jj.Jm),.v (.int .i64 s.at_),.v (.bool false)])]) (posts:=[.box 80 (aa.b v12.2)]) hio rfl rfl (.cellA _ _ _ _ underlying55 rfl wG .nil) rfl rfl hargs0 rfl
 ·intro u14 h hl15 hr16
  refine am h (fun hg3_3 h => ?_) (fun hg3_3 h => ?_)
  ·refine yx hn 4 ?_
   refine yd hg3_3 8 ?_
   refine ye [0,81,4,7,56,0] ?_
   exact hl15 _ (zi h).symm
  ·refine am h (fun hg3_7 h => ?_) (fun hg3_7 h => ?_)
   ·refine yx hn 4 ?_
    refine yd hg3_3 4 ?_
    refine yd hg3_7 4 ?_
    refine ye [0,81,4,7,56,0] ?_
    exact hl15 _ (zi h).symm
   ·obtain ⟨v5,hv5,h⟩:=zn h
    refine yx hn 4 ?_
    refine yd hg3_3 4 ?_
    refine yd hg3_7 1 ?_
    refine ys 2 ⟨lg call101 (vd _ _ _ hv5) 81⟩ ?_
    refine ye [0,81,4,7,56,0] ?_
    exact hl15 _ (zi h).symm
theorem tk (mx:Int×Nat×Value) (b:(List Int)) (r:(List (List Int))) (h:Sh.oH b=some r):gW Tryz.prog (GL mx) 102 [.fl .shr 1 (map (int .u8) b)] (.fr .ro false 1 (flatten (map Row_int_u8.ienc r))):=by
 unfold Sh.oH at h
 refine yG 14 func102 fun g0 hn hio => ?_
 refine aL hn 1 [0,14] ?_
 refine fu hn 0 ?_
 refine yS (.box 137 [vz]) 0 ⟨oA (bj _ _ GO)⟩ ?_
 refine ba [0,14,3] ?_
 refine ab (ab ?_)
 obtain ⟨v1,hv1,h⟩:=zn h
 refine yx hn 1 ?_
 refine yk [] [5] ?_
 refine yt (6,.cloB 123 [.box 28 [fb v1]]) 0 ⟨gh _ _ 96 _ _ rfl call96 rfl rfl (gg b _ hv1) rfl⟩ ?_
 refine ba [14,3,6] ?_
 refine aJ ?_
 refine iW [2,0,1] (by kernel_rfl) (es':=[(6,.cloB 123 [.box 28 [fb v1]]),(14,.glob (GL mx)),(3,.box 137 [vz])]) rfl ?_
 refine nb (fs:=[(6,.cloB 123 [.box 28 [fb v1]]),(14,.glob (GL mx)),(3,.box 137 [.fr (.own 28) false 1 (flatten (map Row_int_u8.ienc []))])]) (.same _ (.same _ (.box _ _ (af (lL 28 false 1) (bG)) rfl .nil))) ?_
 refine gU h 123 6 7 15 _ [14,3] call123 (fun (s7:(List (List Int)))=>[(14,.glob (GL mx)),(3,.box 137 [.fr (.own 28) false 1 (flatten (map Row_int_u8.ienc s7))])]) (fun (():Unit)=>[]) (fun l J Y hY t t' h=>eW mx l J Y hY v1 t t' h) hn rfl (fun _=>rfl) (fun _=>rfl) (fun _=>rfl) rfl rfl (fun _=>⟨rfl,rfl⟩) rfl (gO 14 rfl) ?_ ?_ ?_
 ·rintro kk g0 hn hio x s7 u h
  refine qI (es':=[(7,fb x),(14,.glob (GL mx)),(3,.box 137 [.fr (.own 28) false 1 (flatten (map Row_int_u8.ienc s7))]),(14,.v (kk.tm.getD 14 undef)),(3,.v (kk.tm.getD 3 undef)),(15,.inv kk.ready)]) rfl ?_
  refine yy hn 1 [14,3,15,4,14,3] ?_
  refine ag [0,1,3,4,5,2] (by kernel_rfl) (es':=[(14,.glob (GL mx)),(3,.box 137 [.fr (.own 28) false 1 (flatten (map Row_int_u8.ienc s7))]),(4,fb x),(14,.v (kk.tm.getD 14 undef)),(3,.v (kk.tm.getD 3 undef)),(15,.inv kk.ready)]) rfl ?_
  refine jo (es:=[(14,.glob (GL mx)),(3,.box 137 [.fr (.own 28) false 1 (flatten (map Row_int_u8.ienc s7))]),(4,fb x),(14,.v (kk.tm.getD 14 undef)),(3,.v (kk.tm.getD 3 undef))]) 15 rfl ?_
  refine aJ ?_
  obtain ⟨v2,hv2,h⟩:=zn h
  obtain ⟨v3,hv3,h⟩:=zn h
  refine wb [[3],[4]] ?_
  refine wN [9] ?_
  refine wS (.fl .ro 1 (map (int .u8) v2)) [] ⟨aU.frzG 0 (lY _ _ _ _ fQ rfl rfl (dQ _) hv2 (congrArg (map _) (lV hv2))) (zl rfl) rfl⟩ ?_
  refine wN [10] ?_
  refine wS (.fr (.own 28) false 1 (flatten (map Row_int_u8.ienc [v2]))) [] ⟨lX _ _ _ 1 (.slice none 0 0) false _ _ underlying137 kG DR rfl rfl (.cons (.ro _ _ rfl) (.nil)) rfl (by decide) (by decide)⟩ ?_
  refine wK [3] [8,11] ?_
  refine wt [(3,.box 137 [.any]),(12,.fr (.own 28) false 1 (flatten (map Row_int_u8.ienc v3)))] [] ⟨ij _ 12 3 0 _ _ Gl rfl rfl (zl rfl) rfl (eY Row_int_u8.ilen _) (eY Row_int_u8.ilen _) hv3 (nz (ib hv3)) (by decide) (by decide) (by decide) rfl rfl⟩ ?_
  refine wK [8,12,3] [] ?_
  refine wt [(3,.box 137 [.fr (.own 28) false 1 (flatten (map Row_int_u8.ienc v3))])] [] ⟨aU.drop [_] (aV _ _ _ _ _ _ _ _ GP rfl rfl rfl (zl rfl) rfl rfl)⟩ ?_
  refine we hn [14,3,15,14,3] ?_
  refine aP ?_
  refine ag [0,1,3,4,2] (by kernel_rfl) (es':=[(_,_),(_,_),(_,_),(_,_),(_,_)]) rfl ?_
  obtain rfl:=zi h
  exact jj 15 [14,3] _ rfl rfl (by kernel_rfl)
 ·rintro D s7 h
  refine aP ?_
  refine ae (ab ?_)
  refine uL 1 hio (es':=[(14,.glob (GL mx)),(3,.box 137 [.fr .ro false 1 (flatten (map Row_int_u8.ienc s7))])]) rfl ?_
  refine yy hn 2 [14,2] ?_
  refine ae (ao ?_)
  refine ag [1] (by kernel_rfl) (es':=[(_,_)]) rfl ?_
  obtain rfl:=zi h
  exact ay hio rfl (.tmp _ _ .nil) rfl rfl
 ·rintro D ⟨⟩ h
  cases h
theorem pZ (mx:Int×Nat×Value) (b:(List Int)) (r:Int) (h:Sh.kB b=some r):gW Tryz.prog (GL mx) 87 [.fl .shr 1 (map (int .u8) b)] (.v (.int .i64 r)):=by
 unfold Sh.kB at h
 refine yG 23 func87 fun g0 hn hio => ?_
 refine aL hn 1 [0,23] ?_
 refine aL hn 1 [0,23,3] ?_
 refine ab ?_
 refine aC h (fun (s27:Int)=>[(23,.glob (GL mx)),(3,vi s27)]) ?_ ?_
 ·rintro s27 h
  refine ae ?_
  refine aL hn 2 [23,2] ?_
  refine ao ?_
  refine ag [1] (by kernel_rfl) (es':=[(_,_)]) rfl ?_
  obtain rfl:=zi h
  exact ay hio rfl (.tmp _ _ .nil) rfl rfl
 ·intro u28 h hl29 hr30
  refine ab ?_
  obtain ⟨v1,hv1,h⟩:=zn h
  refine yx hn 1 ?_
  refine ys 2 ⟨lg call102 (tk _ _ _ hv1) 23⟩ ?_
  refine ba [23,3,7,8,9] ?_
  refine aZ h (fun ((s37,s38):Int×Int)=>[(23,.glob (GL mx)),(3,vi s37),(7,.fr .ro false 1 (flatten (map Row_int_u8.ienc v1))),(8,vi (v1.length:Int)),(9,vi s38)]) (fun (s41:Int)=>[(23,.glob (GL mx)),(3,vi s41)]) ?_ ?_
  ·rintro s41 h
   exact hl29 _ (zi h).symm
  ·rintro u42 hl43 hr44 ⟨s37,s38⟩ rr47 h ho45
   refine aL hn 1 [23,3,7,8,9,10] ?_
   refine ab ?_
   refine al _ rfl (fun hb48 => ?_) (fun hb48 => ?_)
   ·have h:=ar hb48 h
    refine au ?_
    refine ae (ab ?_)
    refine aJ (ab ?_)
    obtain ⟨v3,hv3,h⟩:=zn h
    obtain ⟨v4,hv4,h⟩:=zn h
    refine yx hn 0 ?_
    refine ys 0 ⟨lI hv3⟩ ?_
    refine yS (.fl .ro 1 (map (int .u8) v4)) 1 ⟨aN _ _ _ _ _ _ _ underlying28 rfl rfl rfl (vT Row_int_u8.ilen hv4 rfl) (.fl _ _ rfl)⟩ ?_
    refine ba [23,3,7,8,9,5] ?_
    refine ab ?_
    obtain ⟨v5,hv5,h⟩:=zn h
    obtain ⟨v6,hv6,h⟩:=zn h
    refine yx hn 3 ?_
    refine ys 0 ⟨lb hv5⟩ ?_
    refine ys 0 ⟨lb hv6⟩ ?_
    refine yw [3] 1 ?_
    refine ba [23,7,8,9,5,3] ?_
    refine ab ?_
    obtain ⟨v7,hv7,h⟩:=zn h
    refine yx hn 1 ?_
    refine ys 1 ⟨lS hv7⟩ ?_
    refine ba [23,7,8,9,3,20] ?_
    refine al _ rfl (fun hb49 => ?_) (fun hb49 => ?_)
    ·have h:=ar hb49 h
     refine bl ?_
     refine wP (by decide) ?_
     refine az (az (bm ?_))
     refine ag [0,4] (by kernel_rfl) (es':=[(_,_),(_,_)]) rfl ?_
     exact hl43 _ (ho45 _ (zi h).symm).symm
    ·have h:=aq hb49 h
     refine au (aP (ae ?_))
     obtain ⟨v9,hv9,h⟩:=zn h
     refine yx hn 0 ?_
     refine ys 0 ⟨lb hv9⟩ ?_
     refine yw [9] 1 ?_
     refine ye [23,7,8,3,9] ?_
     refine ag [0,3,1,2,4] (by kernel_rfl) (es':=[(_,_),(_,_),(_,_),(_,_),(_,_)]) rfl ?_
     exact bn _ (zi h).symm rfl
   ·have h:=aq hb48 h
    refine bl (az (az (bm ?_)))
    refine ag [0,1] (by kernel_rfl) (es':=[(_,_),(_,_)]) rfl ?_
    exact hl43 _ (ho45 _ (zi h).symm).symm
theorem ff (s:aa) (r:aa) (h:Sh.dM s=some r):oa Tryz.prog 88 [.box 80 (aa.b s)] [.box 80 (aa.b r)] (.tup []):=by
 unfold Sh.dM at h
 refine yP 15 func88 fun args0 hargs0 g0 hn hio => ?_
 refine yx hn 3 ?_
 refine yS (.agg [vb false,vs z0,vs z0]) 12 ⟨bI _ _ _ _ [1,1,1] _ _ underlying26 rF (BA _ underlying26) mn.nil rfl rfl rfl⟩ ?_
 refine ye [0,0] ?_
 refine cu (fs:=[(0,.box 80 (vi s.Jj.Jz::vs s.Jj.Jm::vb false::vs z0::vs z0::.fl (.own 26) 3 (flatten (map ah.enc []))::vb false::.mkr 5 (map (int .u8) s.Jj.Jc)::vs s.Jj.Jd::vb s.Jj.JA::aH.c s.config [vi s.site,vi s.at_,.fr (.own 55) false 12 (flatten (map aA.ienc s.out))])),(0,.v (List.getD args0 0 undef))]) (.box _ _ (af (aj _) (af (aj _) (af (aj _) (af (aj _) (af (aj _) (af (bO 26 3) (af (aj _) (af (aj _) (af (aj _) (af (aj _) (af (aj _) (af (aj _) (af (aj _) (af (aj _) (af (aj _) (af (aj _) (af (aj _) (af (aj _) (af (aj _) (af (aj _) (bG))))))))))))))))))))) rfl (.same _ .nil)) ?_
 obtain rfl:=zi h
 exact ki (es:=[]) (posts:=[.box 80 [.v (.int .i64 s.Jj.Jz),.v (.string s.Jj.Jm),.v (.bool false),.v (.string (⟨#[]⟩:JH)),.v (.string (⟨#[]⟩:JH)),.fl (.own 26) 3 (flatten (map ah.enc [])),.v (.bool false),.mkr 5 (map (int .u8) s.Jj.Jc),.v (.string s.Jj.Jd),.v (.bool s.Jj.JA),.v (.string ((s.config.Jg.getD 0 (⟨#[]⟩:JH)))),.v (.string ((s.config.Jg.getD 1 (⟨#[]⟩:JH)))),.v (.int .i64 s.config.Jh),.v (.string s.config.JF),.v (.string s.config.JD),.v (.int .i64 s.config.Jr),.v (.bool s.config.Jl),.v (.int .i64 s.site),.v (.int .i64 s.at_),.fr (.own 55) false 12 (flatten (map aA.ienc s.out))]]) hio rfl rfl .nil rfl rfl hargs0 rfl
theorem mR (mx:Int×Nat×Value) (s:aa) (r:(Bool×aa)) (h:Sh.fq s=some r):mE Tryz.prog (GL mx) 73 [.box 80 (aa.b s)] [.box 80 (aa.b r.2)] (.v (.bool r.1)):=by
 unfold Sh.fq at h
 refine CD 60 func73 fun args0 hargs0 g0 hn hio => ?_
 refine aL hn 1 [0,60,0] ?_
 refine ab ?_
 obtain ⟨v1,hv1,h⟩:=zn h
 refine yx hn 5 ?_
 refine ys 0 ⟨lg call84 (tH _ _ _ hv1) 60⟩ ?_
 refine ym 0 ?_
 refine Ha 2 ?_
 refine ya 2 ?_
 refine ba [0,60,3,4,5,0] ?_
 refine ab ?_
 refine aL hn 2 [0,60,3,4,5,18,0] ?_
 refine al _ rfl (fun hb2 => ?_) (fun hb2 => ?_)
 ·have h:=ar hb2 h
  refine aL hn 1 [0,60,2,0] ?_
  refine ao ?_
  refine ag [2,0,3] (by kernel_rfl) (es':=[(_,_),(_,_),(_,_)]) rfl ?_
  refine ai ?_
  obtain rfl:=zi h
  exact bJ (es:=[(2,.v (.bool false))]) (posts:=[.box 80 (aa.b s)]) hio rfl rfl (.tmp _ _ .nil) rfl rfl hargs0 rfl
 ·have h:=aq hb2 h
  refine au ?_
  refine ae (ab ?_)
  obtain ⟨v3,hv3,h⟩:=zn h
  refine yx hn 1 ?_
  refine yQ call85 (eO _ _ _ hv3) 0 [19] 0 ?_
  refine yk [20] [] ?_
  refine yt (21,.agg [vi v3.1.Je,.fl (.own 9) 1 (map Value.string v3.1.Jp),vb false,vb false,vs z0,vs z0,vz,vz,vb false,vs z0,vi 0,vb false]) 0 ⟨bI _ _ _ _ [2,1,8,1] _ _ underlying55 tn (BN _ underlying55) (.take _ _ mn.nil) rfl rfl rfl⟩ ?_
  refine yS (.box 55 [vi 0,vz,vb false,vb false,vs z0,vs z0,vz,vz,vb false,vs z0,vi 0,vb false]) 0 ⟨oA (bj _ _ tn)⟩ ?_
  refine yk [21,6] [] ?_
  refine yt (6,.box 55 [vi v3.1.Je,.fl (.own 9) 1 (map Value.string v3.1.Jp),vb false,vb false,vs z0,vs z0,vz,vz,vb false,vs z0,vi 0,vb false]) 0 ⟨aV _ _ _ _ _ _ _ _ wG rfl rfl rfl (zl rfl) rfl rfl⟩ ?_
  refine ba [0,60,3,4,5,6,0] ?_
  refine ab ?_
  refine aC h (fun ((s7,s8,s9,s10,s11,s12,s13,s14,s15,s16,s17,s18,s19,s20,s21,s22,s23,s24,s25,s26,s27,s28,s29,s30,s31,s32,s33,s34,s35,s36,s37,s38,s39):Int×JH×Bool×JH×JH×(List ah)×Bool×(List Int)×JH×Bool×JH×JH×Int×JH×JH×Int×Bool×Int×Int×(List aA)×Int×Int×(List JH)×Bool×Bool×JH×JH×(List ah)×(List Int)×Bool×JH×Int×Bool)=>[(0,.box 80 [vi s7,vs s8,vb s9,vs s10,vs s11,.fl (.own 26) 3 (flatten (map ah.enc s12)),vb s13,.mkr 5 (map (int .u8) s14),vs s15,vb s16,vs s17,vs s18,vi s19,vs s20,vs s21,vi s22,vb s23,vi s24,vi s25,.fr (.own 55) false 12 (flatten (map aA.ienc s26))]),(60,.glob (GL mx)),(4,vi s27),(6,.box 55 [vi s28,.fl .ro 1 (map Value.string s29),vb s30,vb s31,vs s32,vs s33,.fl .ro 3 (flatten (map ah.enc s34)),.fl .ro 1 (map (int .u8) s35),vb s36,vs s37,vi s38,vb s39]),(0,.v (List.getD args0 0 undef))]) ?_ ?_
  ·rintro ⟨s7,s8,s9,s10,s11,s12,s13,s14,s15,s16,s17,s18,s19,s20,s21,s22,s23,s24,s25,s26,s27,s28,s29,s30,s31,s32,s33,s34,s35,s36,s37,s38,s39⟩ h
   refine ae (ab ?_)
   obtain ⟨v44,hv44,h⟩:=zn h
   refine wb [[],[],[34,0],[35,0],[36,0],[6]] ?_
   refine wN [38] ?_
   refine wS (.fr (.own 55) false 12 (flatten (map aA.ienc [(aA.mk (cC.mk s28 s29) s30 ((bf.mk (ah.mk s31 s32 s33) s34 s35 s36 s37 s38)) s39)]))) [] ⟨lX _ _ _ 12 (.agg #[.int .i64 0,.slice none 0 0,.bool false,.bool false,.string ByteArray.empty,.string ByteArray.empty,.slice none 0 0,.slice none 0 0,.bool false,.string ByteArray.empty,.int .i64 0,.bool false]) false _ _ underlying34 wG tn rfl rfl (.cons (.v _) (.cons (.ro _ _ rfl) (.cons (.v _) (.cons (.v _) (.cons (.v _) (.cons (.v _) (.cons (.ro _ _ rfl) (.cons (.ro _ _ rfl) (.cons (.v _) (.cons (.v _) (.cons (.v _) (.cons (.v _) (.nil))))))))))))) rfl (by decide) (by decide)⟩ ?_
   refine wK [0] [37,39] ?_
   refine wt [(0,.box 80 [vi s7,vs s8,vb s9,vs s10,vs s11,.fl (.own 26) 3 (flatten (map ah.enc s12)),vb s13,.mkr 5 (map (int .u8) s14),vs s15,vb s16,vs s17,vs s18,vi s19,vs s20,vs s21,vi s22,vb s23,vi s24,vi s25,.any]),(40,.fr (.own 55) false 12 (flatten (map aA.ienc v44)))] [[33,0],[41,0]] ⟨ij _ 40 0 19 _ _ EU rfl rfl (zl rfl) rfl (eY aA.ilen _) (eY aA.ilen _) hv44 (nz (ib hv44)) (by decide) (by decide) (by decide) rfl rfl⟩ ?_
   refine wK [37,40,0] [42] ?_
   refine wt [(0,.box 80 [vi s7,vs s8,vb s9,vs s10,vs s11,.fl (.own 26) 3 (flatten (map ah.enc s12)),vb s13,.mkr 5 (map (int .u8) s14),vs s15,vb s16,vs s17,vs s18,vi s19,vs s20,vs s21,vi s22,vb s23,vi s24,vi s25,.fr (.own 55) false 12 (flatten (map aA.ienc v44))])] [] ⟨aU.drop [_] (aV _ _ _ _ _ _ _ _ Fw rfl rfl rfl (zl rfl) rfl rfl)⟩ ?_
   refine tg hn [0,60,4,0] ?_
   refine ab ?_
   obtain ⟨v45,hv45,h⟩:=zn h
   refine yx hn 7 ?_
   refine yk [0] [48,49] ?_
   refine mo (0,.box 80 [vi s7,vs s8,vb s9,vs s10,vs s11,.fl (.own 26) 3 (flatten (map ah.enc s12)),vb s13,.any,vs s15,vb s16,vs s17,vs s18,vi s19,vs s20,vs s21,vi s22,vb s23,vi s24,vi s25,.fr (.own 55) false 12 (flatten (map aA.ienc v44))]) (50,.mkr 5 (map (int .u8) v45)) 3 ⟨tA _ 50 0 7 _ _ underlying28 jx rfl rfl (zl rfl) rfl rfl hv45 rfl (Nat.ne_of_beq_eq_false rfl) rfl rfl⟩ ?_
   refine yw [48] 0 ?_
   refine yk [50,0] [53] ?_
   refine yt (0,.box 80 [vi s7,vs s8,vb s9,vs s10,vs s11,.fl (.own 26) 3 (flatten (map ah.enc s12)),vb s13,.mkr 5 (map (int .u8) v45),vs s15,vb s16,vs s17,vs s18,vi s19,vs s20,vs s21,vi s22,vb s23,vi s24,vi s25,.fr (.own 55) false 12 (flatten (map aA.ienc v44))]) 0 ⟨aV _ _ _ _ _ _ _ _ kG rfl rfl rfl (zl rfl) rfl rfl⟩ ?_
   refine ba [0,60,0] ?_
   refine aL hn 5 [0,60,0] ?_
   refine ab ?_
   obtain ⟨v46,hv46,h⟩:=zn h
   refine yx hn 1 ?_
   refine yQ call88 (ff _ _ hv46) 0 [58] 0 ?_
   refine ba [0,60,0] ?_
   refine aL hn 1 [0,60,2,0] ?_
   refine ao ?_
   refine ag [2,0,3] (by kernel_rfl) (es':=[(_,_),(_,_),(_,_)]) rfl ?_
   obtain rfl:=zi h
   exact bJ (es:=[(2,.v (.bool true))]) (posts:=[.box 80 (aa.b v46)]) hio rfl rfl (.tmp _ _ .nil) rfl rfl hargs0 rfl
  ·intro u40 h hl41 hr42
   refine aL hn 2 [0,60,3,4,6,23,0] ?_
   refine al _ rfl (fun hb43 => ?_) (fun hb43 => ?_)
   ·have h:=ar hb43 h
    refine zm 2 hio (es':=[(0,.box 80 (aa.b v3.2)),(60,.glob (GL mx)),(3,.fl .ro 1 (map (int .u8) v1.1)),(4,.v (.int .i64 v1.2.1)),(6,.box 55 [.v (.int .i64 v3.1.Je),.fl (.own 9) 1 (map Value.string v3.1.Jp),.v (.bool false),.v (.bool false),.v (.string (⟨#[]⟩:JH)),.v (.string (⟨#[]⟩:JH)),vz,vz,.v (.bool false),.v (.string (⟨#[]⟩:JH)),.v (.int .i64 0),.v (.bool false)]),(23,.v (.bool (v1.2.2==0))),(0,.v (List.getD args0 0 undef))]) rfl ?_
    obtain ⟨v5,hv5,h⟩:=zn h
    refine yx hn 2 ?_
    refine yk [0] [24,25,60] ?_
    refine mo (0,.box 80 (aa.b v5.2)) (26,.agg [vi v5.1.JC.Je,.fl .ro 1 (map Value.string v5.1.JC.Jp),vb v5.1.Jk,vb v5.1.Js.Ji.Ju,vs v5.1.Js.Ji.Jq,vs v5.1.Js.Ji.Jf,.fl .ro 3 (flatten (map ah.enc v5.1.Js.To)),.fl .ro 1 (map (int .u8) v5.1.Js.Jb),vb v5.1.Js.JB,vs v5.1.Js.Jm,vi v5.1.Js.At,vb v5.1.Ja]) 1 ⟨eJ _ _ _ _ 26 60 86 [.tmp 24] [.tmp 25] _ _ _ rfl call86 rfl rfl rfl rfl (fun _ h=>h) (lp mx ((aa.r v3.2)) v1.1 _ hv5) (zl rfl) rfl rfl rfl rfl rfl rfl rfl⟩ ?_
    refine ye [0,60,4,6,0] ?_
    exact hl41 _ (zi h).symm
   ·have h:=aq hb43 h
    obtain ⟨v6,hv6,h⟩:=zn h
    refine yx hn 5 ?_
    refine ys 0 ⟨lg call87 (pZ _ _ _ hv6) 60⟩ ?_
    refine yw [4] 1 ?_
    refine ye [0,60,6,4,0] ?_
    refine ag [0,1,3,2,4] (by kernel_rfl) (es':=[(_,_),(_,_),(_,_),(_,_),(_,_)]) rfl ?_
    refine rz 3 hio (es':=[(0,.box 80 (aa.b v3.2)),(60,.glob (GL mx)),(4,.v (.int .i64 v6)),(6,.box 55 [.v (.int .i64 v3.1.Je),.fl .ro 1 (map Value.string v3.1.Jp),.v (.bool false),.v (.bool false),.v (.string (⟨#[]⟩:JH)),.v (.string (⟨#[]⟩:JH)),vz,vz,.v (.bool false),.v (.string (⟨#[]⟩:JH)),.v (.int .i64 0),.v (.bool false)]),(0,.v (List.getD args0 0 undef))]) rfl ?_
    refine cu (fs:=[(0,.box 80 (aa.b v3.2)),(60,.glob (GL mx)),(4,vi v6),(6,.box 55 [vi v3.1.Je,.fl .ro 1 (map Value.string v3.1.Jp),vb false,vb false,vs z0,vs z0,.fl .ro 3 (flatten (map ah.enc [])),.fl .ro 1 (map (int .u8) []),vb false,vs z0,vi 0,vb false]),(0,.v (List.getD args0 0 undef))]) (.same _ (.same _ (.same _ (.box _ _ (af (aj _) (af (aj _) (af (aj _) (af (aj _) (af (aj _) (af (aj _) (af (rE 3) (af (rE 1) (af (aj _) (af (aj _) (af (aj _) (af (aj _) (bG))))))))))))) rfl (.same _ .nil))))) ?_
    exact hl41 _ (zi h).symm
theorem sD (i:Int) (q:Int) (p_r:Int) (t:Int) (r:(Int×Int)) (h:Sh.je i q p_r t=some r):bQ Tryz.prog 219 [.v (.int .i64 i),.v (.int .u32 q),.v (.int .u32 p_r),.v (.int .u32 t)] (.tup [.v (.int .u32 r.1),.v (.int .i64 r.2)]):=by
 unfold Sh.je at h
 refine yO 56 func219 fun g0 hn hio => ?_
 refine aL hn 2 [0,1,2,3] ?_
 refine ab (ab ?_)
 obtain ⟨v1,hv1,h⟩:=zn h
 refine yx hn 1 ?_
 refine ys 0 ⟨lB (mY hv1)⟩ ?_
 refine ba [0,1,2,3,11] ?_
 refine aJ ?_
 refine aL hn 2 [0,1,2,3,11,12] ?_
 refine al _ rfl (fun hb2 => ?_) (fun hb2 => ?_)
 ·have h:=ar hb2 h
  refine ab ?_
  obtain ⟨v3,hv3,h⟩:=zn h
  obtain ⟨v4,hv4,h⟩:=zn h
  obtain ⟨v5,hv5,h⟩:=zn h
  obtain ⟨v6,hv6,h⟩:=zn h
  refine yx hn 2 ?_
  refine ys 1 ⟨lb hv3⟩ ?_
  refine yS (.v (.int .u32 v4)) 1 ⟨ub _ _ _ _ rfl (vO (f:=int .u32) (Option.some.inj hv4))⟩ ?_
  refine ys 0 ⟨lb hv5⟩ ?_
  refine ys 3 ⟨lb hv6⟩ ?_
  refine ba [8,9] ?_
  refine ao (aR (ai ?_))
  obtain rfl:=zi h
  exact ay hio rfl (.tmp _ _ (.tmp _ _ .nil)) rfl rfl
 ·have h:=aq hb2 h
  refine aL hn 2 [0,1,2,3,11,23] ?_
  refine al _ rfl (fun hb7 => ?_) (fun hb7 => ?_)
  ·have h:=ar hb7 h
   refine ab ?_
   obtain ⟨v8,hv8,h⟩:=zn h
   obtain ⟨v9,hv9,h⟩:=zn h
   obtain ⟨v10,hv10,h⟩:=zn h
   obtain ⟨v11,hv11,h⟩:=zn h
   obtain ⟨v12,hv12,h⟩:=zn h
   obtain ⟨v13,hv13,h⟩:=zn h
   refine yx hn 2 ?_
   refine ys 2 ⟨lb hv8⟩ ?_
   refine ys 0 ⟨lb hv9⟩ ?_
   refine ys 1 ⟨lb hv10⟩ ?_
   refine ys 0 ⟨lb hv11⟩ ?_
   refine ys 0 ⟨lb hv12⟩ ?_
   refine ys 2 ⟨lB (gC hv13)⟩ ?_
   refine ba [8,9] ?_
   refine ao (aR (ai ?_))
   obtain rfl:=zi h
   exact ay hio rfl (.tmp _ _ (.tmp _ _ .nil)) rfl rfl
  ·have h:=aq hb7 h
   refine aL hn 2 [0,1,2,3,36] ?_
   refine al _ rfl (fun hb14 => ?_) (fun hb14 => ?_)
   ·have h:=ar hb14 h
    refine ab ?_
    obtain ⟨v15,hv15,h⟩:=zn h
    obtain ⟨v16,hv16,h⟩:=zn h
    obtain ⟨v17,hv17,h⟩:=zn h
    obtain ⟨v18,hv18,h⟩:=zn h
    obtain ⟨v19,hv19,h⟩:=zn h
    refine yx hn 2 ?_
    refine ys 1 ⟨lb hv15⟩ ?_
    refine ys 1 ⟨lb hv16⟩ ?_
    refine ys 0 ⟨lb hv17⟩ ?_
    refine ys 0 ⟨lb hv18⟩ ?_
    refine ys 2 ⟨lB (gC hv19)⟩ ?_
    refine ba [8,9] ?_
    refine ao (aR (ai ?_))
    obtain rfl:=zi h
    exact ay hio rfl (.tmp _ _ (.tmp _ _ .nil)) rfl rfl
   ·have h:=aq hb14 h
    refine au (aP ?_)
    refine ae (ab ?_)
    obtain ⟨v20,hv20,h⟩:=zn h
    obtain ⟨v21,hv21,h⟩:=zn h
    obtain ⟨v22,hv22,h⟩:=zn h
    obtain ⟨v23,hv23,h⟩:=zn h
    obtain ⟨v24,hv24,h⟩:=zn h
    refine yx hn 3 ?_
    refine yS (.v (.int .u32 v20)) 0 ⟨ub _ _ _ _ rfl (vO (f:=int .u32) (Option.some.inj hv20))⟩ ?_
    refine ys 0 ⟨lb hv21⟩ ?_
    refine ys 1 ⟨lb hv22⟩ ?_
    refine ys 0 ⟨lb hv23⟩ ?_
    refine ys 2 ⟨lB (gC hv24)⟩ ?_
    refine ba [8,9] ?_
    refine ao ?_
    obtain rfl:=zi h
    exact ay hio rfl (.tmp _ _ (.tmp _ _ .nil)) rfl rfl
theorem iH (mx:Int×Nat×Value) (s:(List Int)) (b:(List Int)) (r:(List Int)) (h:Sh.di s b=some r):gW Tryz.prog (GL mx) 203 [.v (.agg (map (int .u32) s).toArray),.fl .shr 1 (map (int .u8) b)] (.v (.agg (map (int .u32) r).toArray)):=by
 unfold Sh.di at h
 refine yG 105 func203 fun g0 hn hio => ?_
 refine fu hn 0 ?_
 refine yS (.arr 225 (map (int .u32) s)) 0 ⟨xr _ _ _ rfl⟩ ?_
 refine yS (.arr 225 (map (int .u32) ((List.replicate 4 (0:Int))))) 0 ⟨oA (bE _ Ei)⟩ ?_
 refine ba [1,105,2,4] ?_
 refine fu hn 0 ?_
 refine yS (.arr 222 (map (int .u32) ((List.replicate 16 (0:Int))))) 0 ⟨oA (bE _ zw)⟩ ?_
 refine ba [1,105,2,4,5] ?_
 refine ab ?_
 refine aL hn 3 [105,2,4,5,17,18,19] ?_
 refine aZ h (fun ((s18,s19):(List Int)×Int)=>[(105,.glob (GL mx)),(2,.arr 225 (map (int .u32) s)),(4,.arr 225 (map (int .u32) ((List.replicate 4 (0:Int))))),(5,.arr 222 (map (int .u32) s18)),(17,fb b),(18,vi (b.length:Int)),(19,vi s19)]) (fun (s21:(List Int))=>[(105,.glob (GL mx)),(2,.arr 225 (map (int .u32) s)),(4,.arr 225 (map (int .u32) ((List.replicate 4 (0:Int))))),(5,.arr 222 (map (int .u32) s21))]) ?_ ?_
 ·rintro s21 h
  refine ae (ab ?_)
  obtain ⟨v29,hv29,h⟩:=zn h
  obtain ⟨v30,hv30,h⟩:=zn h
  obtain ⟨v31,hv31,h⟩:=zn h
  obtain ⟨v32,hv32,h⟩:=zn h
  obtain ⟨v33,hv33,h⟩:=zn h
  obtain ⟨v34,hv34,h⟩:=zn h
  obtain ⟨v35,hv35,h⟩:=zn h
  obtain ⟨v36,hv36,h⟩:=zn h
  refine wb [] ?_
  refine wN [2] ?_
  refine wS (.ptr 2 v29) [] ⟨cz _ _ _ _ 4 2 _ underlying225 eH rfl rfl (bz hv29).1 (bz hv29).2 (by decide)⟩ ?_
  refine wN [37,2] ?_
  refine wS (.v (.int .u32 v30)) [] ⟨cx _ _ _ _ _ _ underlying106 rfl rfl rfl (cY hv30)⟩ ?_
  refine wN [2] ?_
  refine wS (.ptr 2 v31) [] ⟨cz _ _ _ _ 4 2 _ underlying225 eH rfl rfl (bz hv31).1 (bz hv31).2 (by decide)⟩ ?_
  refine wN [39,2] ?_
  refine wS (.v (.int .u32 v32)) [] ⟨cx _ _ _ _ _ _ underlying106 rfl rfl rfl (cY hv32)⟩ ?_
  refine wN [2] ?_
  refine wS (.ptr 2 v33) [] ⟨cz _ _ _ _ 4 2 _ underlying225 eH rfl rfl (bz hv33).1 (bz hv33).2 (by decide)⟩ ?_
  refine wN [41,2] ?_
  refine wS (.v (.int .u32 v34)) [] ⟨cx _ _ _ _ _ _ underlying106 rfl rfl rfl (cY hv34)⟩ ?_
  refine wN [2] ?_
  refine wS (.ptr 2 v35) [] ⟨cz _ _ _ _ 4 2 _ underlying225 eH rfl rfl (bz hv35).1 (bz hv35).2 (by decide)⟩ ?_
  refine wN [43,2] ?_
  refine wS (.v (.int .u32 v36)) [[38],[40],[42],[44]] ⟨cx _ _ _ _ _ _ underlying106 rfl rfl rfl (cY hv36)⟩ ?_
  refine tg hn [105,2,4,5,8,9,10,11] ?_
  refine ab ?_
  refine fu hn 0 ?_
  refine yS (.v (.agg (map (int .u32) cj).toArray)) 1 ⟨tC _ _ 105 5 (map (int .u32) cj) underlying241 rfl GN rfl rfl (CM mx)⟩ ?_
  refine ba [105,2,4,5,8,9,10,11,45,46] ?_
  refine aZ h (fun ((s63,s64,s65,s66,s67):Int×Int×Int×Int×Int)=>[(105,.glob (GL mx)),(2,.arr 225 (map (int .u32) s)),(4,.arr 225 (map (int .u32) ((List.replicate 4 (0:Int))))),(5,.arr 222 (map (int .u32) s21)),(8,.v (.int .u32 s63)),(9,.v (.int .u32 s64)),(10,.v (.int .u32 s65)),(11,.v (.int .u32 s66)),(45,.v (.agg (map (int .u32) cj).toArray)),(46,vi s67)]) (fun ((s69,s70,s71,s72):Int×Int×Int×Int)=>[(105,.glob (GL mx)),(2,.arr 225 (map (int .u32) s)),(4,.arr 225 (map (int .u32) ((List.replicate 4 (0:Int))))),(8,.v (.int .u32 s69)),(9,.v (.int .u32 s70)),(10,.v (.int .u32 s71)),(11,.v (.int .u32 s72))]) ?_ ?_
  ·rintro ⟨s69,s70,s71,s72⟩ h
   refine ae (ab ?_)
   obtain ⟨v80,hv80,h⟩:=zn h
   obtain ⟨v81,hv81,h⟩:=zn h
   obtain ⟨v82,hv82,h⟩:=zn h
   obtain ⟨v83,hv83,h⟩:=zn h
   obtain ⟨v84,hv84,h⟩:=zn h
   obtain ⟨v85,hv85,h⟩:=zn h
   obtain ⟨v86,hv86,h⟩:=zn h
   obtain ⟨v87,hv87,h⟩:=zn h
   obtain ⟨v88,hv88,h⟩:=zn h
   obtain ⟨v89,hv89,h⟩:=zn h
   obtain ⟨v90,hv90,h⟩:=zn h
   obtain ⟨v91,hv91,h⟩:=zn h
   obtain ⟨v92,hv92,h⟩:=zn h
   obtain ⟨v93,hv93,h⟩:=zn h
   refine yx hn 0 ?_
   refine yS (.ptr 2 v80) 0 ⟨cz _ _ _ _ 4 2 _ underlying225 eH rfl rfl (bz hv80).1 (bz hv80).2 (by decide)⟩ ?_
   refine yS (.v (.int .u32 v81)) 1 ⟨cx _ _ _ _ _ _ underlying106 rfl rfl rfl (cY hv81)⟩ ?_
   refine ys 0 ⟨lb hv82⟩ ?_
   refine yS (.ptr 2 v83) 0 ⟨cz _ _ _ _ 4 2 _ underlying225 eH rfl rfl (bz hv83).1 (bz hv83).2 (by decide)⟩ ?_
   refine yS (.v (.int .u32 v84)) 1 ⟨cx _ _ _ _ _ _ underlying106 rfl rfl rfl (cY hv84)⟩ ?_
   refine ys 0 ⟨lb hv85⟩ ?_
   refine yS (.ptr 2 v86) 0 ⟨cz _ _ _ _ 4 2 _ underlying225 eH rfl rfl (bz hv86).1 (bz hv86).2 (by decide)⟩ ?_
   refine yS (.v (.int .u32 v87)) 1 ⟨cx _ _ _ _ _ _ underlying106 rfl rfl rfl (cY hv87)⟩ ?_
   refine ys 0 ⟨lb hv88⟩ ?_
   refine yS (.ptr 2 v89) 0 ⟨cz _ _ _ _ 4 2 _ underlying225 eH rfl rfl (bz hv89).1 (bz hv89).2 (by decide)⟩ ?_
   refine yS (.v (.int .u32 v90)) 1 ⟨cx _ _ _ _ _ _ underlying106 rfl rfl rfl (cY hv90)⟩ ?_
   refine ys 0 ⟨lb hv91⟩ ?_
   refine yS (.v (.agg (map (int .u32) ([v82,v85,v88,v91]:List Int)).toArray)) 0 ⟨pD _ _ (.agg #[.int .u32 0,.int .u32 0,.int .u32 0,.int .u32 0]) (map (int .u32) ([v82,v85,v88,v91]:List Int)) [(0,.int .u32 v82),(1,.int .u32 v85),(2,.int .u32 v88),(3,.int .u32 v91)] underlying225 eH EI (fun _ V w o a hv hes=>by have e0:=bU hv hes (x := .tmp 91) rfl; have e1:=bU hv hes (x := .tmp 95) rfl; have e2:=bU hv hes (x := .tmp 99) rfl; have e3:=bU hv hes (x := .tmp 103) rfl; simp only [List.map_toArray,List.map_cons,List.map_nil,e0,e1,e2,e3]; try rfl) (cd (by simp [Instr.fill,Value.cells]; rfl) (by simp))⟩ ?_
   refine yk [4] [104] ?_
   refine yt (4,.arr 225 (map (int .u32) ([v82,v85,v88,v91]:List Int))) 0 ⟨bH _ _ _ _ (rL.trans (congrArg some (bh hv93))) rfl rfl (cX (fun _=>rfl) _) ((bh (f:=int .u32) hv92).symm.trans (bh (f:=int .u32) hv93))⟩ ?_
   refine ba [105,4] ?_
   refine ao ?_
   obtain ⟨v94,hv94,h⟩:=zn h
   refine ag [1] (by kernel_rfl) (es':=[(_,_)]) rfl ?_
   obtain rfl:=zi h
   exact ay hio rfl (.cellR _ _ _ _ underlying225 rfl (rL.trans (congrArg some (bh hv94))) .nil) rfl rfl
  ·rintro u73 hl74 hr75 ⟨s63,s64,s65,s66,s67⟩ rr78 h ho76
   refine aL hn 1 [105,2,4,5,8,9,10,11,45,46,47] ?_
   refine ab ?_
   refine al _ rfl (fun hb79 => ?_) (fun hb79 => ?_)
   ·have h:=ar hb79 h
    refine au ?_
    refine ae (ab ?_)
    refine aJ (ab ?_)
    obtain ⟨v38,hv38,h⟩:=zn h
    obtain ⟨v39,hv39,h⟩:=zn h
    refine yx hn 1 ?_
    refine yS (.v (.int .u32 v39)) 2 ⟨lG _ _ _ _ 64 v38 underlying241 eH rfl (congrArg (fun j=>AV.v (int .i64 j)) (bz hv38).1) (bz hv38).2 (cY hv39) ⟨_,underlying106,rfl⟩⟩ ?_
    refine ba [105,2,4,5,8,9,10,11,45,46,12,13] ?_
    refine ab ?_
    obtain ⟨v40,hv40,h⟩:=zn h
    refine yx hn 4 ?_
    refine ys 0 ⟨lk call219 (sD _ _ _ _ _ hv40)⟩ ?_
    refine ym 4 ?_
    refine ba [105,2,4,5,8,9,10,11,45,46,12,13,14,15] ?_
    refine ab ?_
    obtain ⟨v41,hv41,h⟩:=zn h
    obtain ⟨v42,hv42,h⟩:=zn h
    obtain ⟨v43,hv43,h⟩:=zn h
    obtain ⟨v44,hv44,h⟩:=zn h
    obtain ⟨v45,hv45,h⟩:=zn h
    refine yx hn 3 ?_
    refine ys 1 ⟨lb hv41⟩ ?_
    refine yS (.ptr 5 v42) 0 ⟨cz _ _ _ _ 16 5 _ underlying222 eH rfl rfl (bz hv42).1 (bz hv42).2 (by decide)⟩ ?_
    refine yS (.v (.int .u32 v43)) 0 ⟨cx _ _ _ _ _ _ underlying106 rfl rfl rfl (cY hv43)⟩ ?_
    refine ys 0 ⟨lb hv44⟩ ?_
    refine ys 0 ⟨lb hv45⟩ ?_
    refine yw [14] 1 ?_
    refine ba [105,2,4,5,9,10,11,45,46,12,14] ?_
    refine ab ?_
    obtain ⟨v46,hv46,h⟩:=zn h
    obtain ⟨v47,hv47,h⟩:=zn h
    obtain ⟨v48,hv48,h⟩:=zn h
    obtain ⟨v49,hv49,h⟩:=zn h
    obtain ⟨v50,hv50,h⟩:=zn h
    refine yx hn 1 ?_
    refine ys 1 ⟨lB (mY hv46)⟩ ?_
    refine ys 0 ⟨lB (gC hv47)⟩ ?_
    refine yS (.v (.pointer (some ⟨6,(0+v48 * 4),none⟩))) 0 ⟨mF _ _ _ _ 4 6 0 _ 4 _ underlying245 Gv rfl rfl (bz hv48).1 (bz hv48).2⟩ ?_
    refine yS (.v (.pointer (some ⟨6,((0+v48 * 4)+v49 * 1),none⟩))) 0 ⟨mF _ _ _ _ 4 6 (0+v48 * 4) _ 1 _ underlying244 Fs rfl rfl (bz hv49).1 (bz hv49).2⟩ ?_
    refine yS (vi v50) 1 ⟨kZ _ _ 105 6 _ _ _ underlying3 rfl rfl rfl (Dd mx) (cY hv50)⟩ ?_
    refine ba [105,2,4,5,9,10,11,45,46,14,16] ?_
    obtain ⟨v51,hv51,h⟩:=zn h
    obtain ⟨v52,hv52,h⟩:=zn h
    obtain ⟨v53,hv53,h⟩:=zn h
    obtain ⟨v54,hv54,h⟩:=zn h
    obtain ⟨v55,hv55,h⟩:=zn h
    refine wb [[11],[9],[14],[16]] ?_
    refine wN [76,77] ?_
    refine wo [[14],[16]] ⟨lB (jK hv51)⟩ ?_
    refine wN [80] ?_
    refine wo [] ⟨lb hv52⟩ ?_
    refine wN [79,81] ?_
    refine wo [] ⟨lB (gF hv53)⟩ ?_
    refine wN [78,82] ?_
    refine wo [] ⟨lb hv54⟩ ?_
    refine wN [75,83] ?_
    refine wo [[9],[10],[74]] ⟨lb hv55⟩ ?_
    refine wK [9] [84] ?_
    refine wt [(9,.v (.int .u32 v55))] [] ⟨aU.drop [_] (iL _ _ _ _ rfl rfl)⟩ ?_
    refine wK [10] [85] ?_
    refine wt [(10,.v (.int .u32 s64))] [] ⟨aU.drop [_] (iL _ _ _ _ rfl rfl)⟩ ?_
    refine wK [11] [86] ?_
    refine wt [(11,.v (.int .u32 s65))] [] ⟨aU.drop [_] (iL _ _ _ _ rfl rfl)⟩ ?_
    refine we hn [105,2,4,5,45,46,8,9,10,11] ?_
    refine aP (ae ?_)
    obtain ⟨v56,hv56,h⟩:=zn h
    refine yx hn 0 ?_
    refine ys 0 ⟨lb hv56⟩ ?_
    refine yw [46] 1 ?_
    refine ye [105,2,4,5,45,8,9,10,11,46] ?_
    refine ag [0,1,2,3,5,6,7,8,4,9] (by kernel_rfl) (es':=[(_,_),(_,_),(_,_),(_,_),(_,_),(_,_),(_,_),(_,_),(_,_),(_,_)]) rfl ?_
    exact bn _ (zi h).symm rfl
   ·have h:=aq hb79 h
    refine bl (az (az (bm ?_)))
    refine ag [0,1,2,4,5,6,7] (by kernel_rfl) (es':=[(_,_),(_,_),(_,_),(_,_),(_,_),(_,_),(_,_)]) rfl ?_
    exact hl74 _ (ho76 _ (zi h).symm).symm
 ·rintro u22 hl23 hr24 ⟨s18,s19⟩ rr27 h ho25
  refine aL hn 1 [105,2,4,5,17,18,19,20] ?_
  refine ab ?_
  refine al _ rfl (fun hb28 => ?_) (fun hb28 => ?_)
  ·have h:=ar hb28 h
   refine au ?_
   refine ae (ab ?_)
   refine aJ (ab ?_)
   obtain ⟨v2,hv2,h⟩:=zn h
   obtain ⟨v3,hv3,h⟩:=zn h
   refine yx hn 1 ?_
   refine ys 0 ⟨li hv2⟩ ?_
   refine ys 2 ⟨ll hv3⟩ ?_
   refine ba [105,2,4,5,17,18,19,6,7] ?_
   obtain ⟨v4,hv4,h⟩:=zn h
   obtain ⟨v5,hv5,h⟩:=zn h
   obtain ⟨v6,hv6,h⟩:=zn h
   obtain ⟨v7,hv7,h⟩:=zn h
   obtain ⟨v8,hv8,h⟩:=zn h
   obtain ⟨v9,hv9,h⟩:=zn h
   obtain ⟨v10,hv10,h⟩:=zn h
   obtain ⟨v11,hv11,h⟩:=zn h
   obtain ⟨v12,hv12,h⟩:=zn h
   obtain ⟨v13,hv13,h⟩:=zn h
   refine wb [[6]] ?_
   refine wN [24] ?_
   refine wo [] ⟨lB (mY hv4)⟩ ?_
   refine wN [5,25] ?_
   refine wS (.ptr 5 v5) [] ⟨cz _ _ _ _ 16 5 _ underlying222 eH rfl rfl (bz hv5).1 (bz hv5).2 (by decide)⟩ ?_
   refine wN [26,5] ?_
   refine wS (.v (.int .u32 v6)) [[7]] ⟨cx _ _ _ _ _ _ underlying106 rfl rfl rfl (cY hv6)⟩ ?_
   refine wN [28] ?_
   refine wo [[6]] ⟨lv hv7⟩ ?_
   refine wN [30] ?_
   refine wo [] ⟨lB (gC hv8)⟩ ?_
   refine wN [31] ?_
   refine wo [] ⟨lb hv9⟩ ?_
   refine wN [29,32] ?_
   refine wo [] ⟨lB (jK hv10)⟩ ?_
   refine wN [27,33] ?_
   refine wo [] ⟨lb hv11⟩ ?_
   refine wN [5,25] ?_
   refine wS (.ptr 5 v12) [] ⟨cz _ _ _ _ 16 5 _ underlying222 eH rfl rfl (bz hv12).1 (bz hv12).2 (by decide)⟩ ?_
   refine wK [5] [35,34] ?_
   refine wt [(5,.arr 222 (map (int .u32) v13))] [] ⟨jC _ _ _ _ _ _ eH rfl rfl rfl rfl (uT hv13) (uN (f:=int .u32) hv13)⟩ ?_
   refine we hn [105,2,4,5,17,18,19] ?_
   refine aP (ae ?_)
   obtain ⟨v14,hv14,h⟩:=zn h
   refine yx hn 0 ?_
   refine ys 0 ⟨lb hv14⟩ ?_
   refine yw [19] 1 ?_
   refine ye [105,2,4,5,17,18,19] ?_
   exact bn _ (zi h).symm rfl
  ·have h:=aq hb28 h
   refine bl (az (az (bm ?_)))
   refine ag [0,1,2,3] (by kernel_rfl) (es':=[(_,_),(_,_),(_,_),(_,_)]) rfl ?_
   exact hl23 _ (ho25 _ (zi h).symm).symm
end Go.Proofs.YtjnnkhmhjcjhdaaGreatDoor
