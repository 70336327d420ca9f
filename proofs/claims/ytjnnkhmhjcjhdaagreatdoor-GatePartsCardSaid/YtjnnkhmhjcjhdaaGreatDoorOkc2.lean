import Derived.Test.YtjnnkhmhjcjhdaaGreatDoorOkc1
set_option linter.unusedVariables false
set_option linter.unusedSimpArgs false
set_option maxHeartbeats 1000000
namespace Go.Proofs.YtjnnkhmhjcjhdaaGreatDoor
open Go.Abs Go.Abs.Sh Tryz
open List (map flatten)
open Value (int)
theorem pK (mx:Int×Nat×Value) (s:List Int) (c:KK) (r:Int) (h:Sh.fJ s c=some r):ir Tryz.prog (GL mx) 144 [.fl .shr 1 (map (int .u8) s),.v (.string c)] (.v (.int .i64 r)) :=
 oh (uv mx) (yW mx) (Du mx) (fun s b off c w hs hnc hb hm hmb k1 k2 HG hp=>Tryz.idx_crlf s b off c w mx.1 hs hnc hb hm hmb (xq gU jy (by kernel_rfl) (by kernel_rfl) k1 k2) HG hp) Tryz.idx_none s c r h
theorem mY (mx:Int×Nat×Value) (b:(List Int)) (chars:KK) (r:Bool) (h:Sh.bD b chars=some r):ir Tryz.prog (GL mx) 122 [.fl .shr 1 (map (int .u8) b),.v (.string chars)] (.v (.bool r)):=by
 unfold Sh.bD at h
 refine yG 9 func122 fun g0 hn hio => ?_
 refine aG hn 1 [0,1,9] ?_
 refine ab ?_
 obtain ⟨v1,hv1,h⟩:=zn h
 refine yx hn 2 ?_
 refine ys 2 ⟨lg call144 (pK _ _ _ _ hv1) 9⟩ ?_
 refine aV [9,4] ?_
 refine aj ?_
 refine ag [1] (by kernel_rfl) (es':=[(_,_)]) rfl ?_
 obtain rfl:=zi h
 exact al hio rfl (.tmp _ _ .nil) rfl rfl
theorem jp (mx:Int×Nat×Value) (b:(List Int)) (r:Int) (h:Sh.dr b=some r):ir Tryz.prog (GL mx) 95 [.fl .shr 1 (map (int .u8) b)] (.v (.int .i64 r)):=by
 unfold Sh.dr at h
 refine yG 19 func95 fun g0 hn hio => ?_
 refine gE hn 0 ?_
 refine yS (.box 35 [vi 0]) 0 ⟨oA (aR _ _ Ja)⟩ ?_
 refine aV [0,19,2] ?_
 refine gE hn 0 ?_
 refine yS (.box 3 [vi 0]) 1 ⟨oA (aR _ _ Iw)⟩ ?_
 refine aV [0,19,2,3] ?_
 refine ab (ab ?_)
 obtain ⟨v1,hv1,h⟩:=zn h
 refine yx hn 1 ?_
 refine yk [] [5] ?_
 refine yt (6,.cloB 123 [.box 28 [fb v1]]) 0 ⟨gJ _ _ 96 _ _ rfl call96 rfl rfl (gL b _ hv1) rfl⟩ ?_
 refine aV [0,19,2,3,6] ?_
 refine aC ?_
 refine jo [4,0,1,2,3] (by kernel_rfl) (es':=[(6,.cloB 123 [.box 28 [fb v1]]),(0,fb b),(19,.glob (GL mx)),(2,.box 35 [vi 0]),(3,.box 3 [vi 0])]) rfl ?_
 refine ia h 123 6 7 20 _ [0,19,2,3] call123 (fun (s8:Int)=>[(0,fb b),(19,.glob (GL mx)),(2,.box 35 [.v (.int .i64 0)]),(3,.box 3 [.v (.int .i64 s8)])]) (fun (s10:Int)=>[(0,fb b),(19,.glob (GL mx)),(2,.box 35 [.v (.int .i64 5)]),(3,.box 3 [.v (.int .i64 s10)])]) (fun l J Y hY t t' h=>fa mx l J Y hY v1 t t' h) hn rfl (fun _=>rfl) (fun _=>rfl) (fun _=>rfl) rfl rfl (fun _=>⟨rfl,rfl⟩) rfl (gY 19 rfl) ?_ ?_ ?_
 rintro kk g0 hn hio x s8 u h
 refine qo (es':=[(7,fb x),(0,fb b),(19,.glob (GL mx)),(2,.box 35 [vi 0]),(3,.box 3 [vi s8]),(0,.v (kk.tm.getD 0 undef)),(19,.v (kk.tm.getD 19 undef)),(2,.v (kk.tm.getD 2 undef)),(3,.v (kk.tm.getD 3 undef)),(20,.inv kk.ready)]) rfl ?_
 refine yy hn 1 [0,19,2,3,20,4,0,19,2,3] ?_
 refine ag [0,1,2,3,5,6,7,8,9,4] (by kernel_rfl) (es':=[(0,fb b),(19,.glob (GL mx)),(2,.box 35 [vi 0]),(3,.box 3 [vi s8]),(4,fb x),(0,.v (kk.tm.getD 0 undef)),(19,.v (kk.tm.getD 19 undef)),(2,.v (kk.tm.getD 2 undef)),(3,.v (kk.tm.getD 3 undef)),(20,.inv kk.ready)]) rfl ?_
 refine jt (es:=[(0,fb b),(19,.glob (GL mx)),(2,.box 35 [vi 0]),(3,.box 3 [vi s8]),(4,fb x),(0,.v (kk.tm.getD 0 undef)),(19,.v (kk.tm.getD 19 undef)),(2,.v (kk.tm.getD 2 undef)),(3,.v (kk.tm.getD 3 undef))]) 20 rfl ?_
 refine aC (ab (ab ?_))
 obtain ⟨v2,hv2,h⟩:=zn h
 refine yx hn 1 ?_
 refine ys 0 ⟨lg call122 (mY _ _ _ _ hv2) 19⟩ ?_
 refine aV [0,19,2,3,4,20,9,0,19,2,3] ?_
 refine zc h rfl (fun h => ?_) (fun h => ?_)
 refine aG hn 1 [0,19,2,3,20,0,19,2,3] ?_
 refine aj (ai (aE ?_))
 refine ag [0,1,2,3,5,6,7,8,4] (by kernel_rfl) (es':=[(_,_),(_,_),(_,_),(_,_),(_,_),(_,_),(_,_),(_,_),(_,_)]) rfl ?_
 obtain rfl:=zi h
 exact pq 20 [0,19,2,3] _ rfl rfl (by kernel_rfl)
 refine am (af ?_)
 obtain ⟨v4,hv4,v5,hv5,h⟩:=eo h
 refine yx hn 3 ?_
 refine ys 0 ⟨lb hv4⟩ ?_
 refine ys 1 ⟨lb hv5⟩ ?_
 refine ye [0,19,2,3,20,0,19,2,3] ?_
 refine aI ?_
 refine ag [0,1,2,3,5,6,7,8,4] (by kernel_rfl) (es':=[(_,_),(_,_),(_,_),(_,_),(_,_),(_,_),(_,_),(_,_),(_,_)]) rfl ?_
 obtain rfl:=zi h
 exact jB 20 [0,19,2,3] _ rfl rfl (by kernel_rfl)
 rintro D s8 h
 refine aI ?_
 refine af (ab ?_)
 refine aG hn 4 [19,2,18] ?_
 refine zc h rfl (fun h => ?_) (fun h => ?_)
 refine aG hn 1 [19,2] ?_
 refine aj ?_
 refine ag [1] (by kernel_rfl) (es':=[(_,_)]) rfl ?_
 refine ai ?_
 obtain rfl:=zi h
 exact al hio rfl (.cell1 _ _ _ _ underlying35 rfl .nil) rfl rfl
 refine am (af ?_)
 refine aG hn 1 [19,2] ?_
 refine aj ?_
 refine ag [1] (by kernel_rfl) (es':=[(_,_)]) rfl ?_
 obtain rfl:=zi h
 exact al hio rfl (.cell1 _ _ _ _ underlying35 rfl .nil) rfl rfl
 rintro D s10 h
 refine ag [2] (by kernel_rfl) (es':=[(_,_)]) rfl ?_
 refine aE (ai ?_)
 obtain rfl:=zi h
 exact al hio rfl (.cell1 _ _ _ _ underlying35 rfl .nil) rfl rfl
theorem ko (s:(List Int)) (prefix_:(List Int)) (r:Bool) (h:Sh.dJ s prefix_=some r):bM Tryz.prog 124 [.fl .shr 1 (map (int .u8) s),.fl .shr 1 (map (int .u8) prefix_)] (.v (.bool r)):=by
 unfold Sh.dJ at h
 refine yO 18 func124 fun g0 hn hio => ?_
 refine aG hn 1 [0,1] ?_
 refine ab ?_
 refine ay h (fun (s3:Bool)=>[(4,vb s3)]) ?_ ?_
 rintro s3 h
 refine af (aj ?_)
 obtain rfl:=zi h
 exact al hio rfl (.tmp _ _ .nil) rfl rfl
 intro u4 h hl5 hr6
 refine ak h (fun hg1_5 h => ?_) (fun hg1_5 h => ?_)
 obtain ⟨v1,hv1,v2,hv2,h⟩:=eo h
 refine yx hn 6 ?_
 refine yd hg1_5 3 ?_
 refine yS (fb v1) 1 ⟨lA _ _ _ 0 (prefix_.length:Int) _ underlying28 lQ rfl rfl rfl ⟨_,rfl⟩ hv1⟩ ?_
 refine ys 2 ⟨lk call72 (nu _ _ _ hv2)⟩ ?_
 refine ye [4] ?_
 exact hl5 _ (zi h).symm
 refine yx hn 6 ?_
 refine yd hg1_5 8 ?_
 refine ye [4] ?_
 exact hl5 _ (zi h).symm
theorem mn (s:(List Int)) (prefix_:(List Int)) (r:(List Int)) (h:Sh.cK s prefix_=some r):bM Tryz.prog 97 [.fl .shr 1 (map (int .u8) s),.fl .shr 1 (map (int .u8) prefix_)] (.fl .shr 1 (map (int .u8) r)):=by
 unfold Sh.cK at h
 refine yO 13 func97 fun g0 hn hio => ?_
 refine aG hn 1 [0,1] ?_
 refine ab (ab ?_)
 obtain ⟨v1,hv1,h⟩:=zn h
 refine yx hn 2 ?_
 refine ys 0 ⟨lk call124 (ko _ _ _ hv1)⟩ ?_
 refine aV [0,1,7] ?_
 refine zc h rfl (fun h => ?_) (fun h => ?_)
 refine ab ?_
 obtain ⟨v3,hv3,h⟩:=zn h
 refine yx hn 3 ?_
 refine yS (fb v3) 1 ⟨lA _ _ _ (prefix_.length:Int) (s.length:Int) _ underlying28 lQ rfl rfl ⟨_,rfl⟩ rfl hv3⟩ ?_
 refine aV [4] ?_
 refine aj (ai ?_)
 obtain rfl:=zi h
 exact al hio rfl (.tmp _ _ .nil) rfl rfl
 refine am (af ?_)
 refine aG hn 2 [4] ?_
 refine aj ?_
 obtain rfl:=zi h
 exact al hio rfl (.tmp _ _ .nil) rfl rfl
theorem sY (mx:Int×Nat×Value) (b:(List Int)) (r:((List Int)×Int×Int)) (h:Sh.eO b=some r):ir Tryz.prog (GL mx) 84 [.fl .shr 1 (map (int .u8) b)] (.tup [.fl (.own 5) 1 (map (int .u8) r.1),.v (.int .i64 r.2.1),.v (.int .i64 r.2.2)]):=by
 unfold Sh.eO at h
 refine yG 39 func84 fun g0 hn hio => ?_
 refine gE hn 0 ?_
 refine yS (.box 28 [vz]) 2 ⟨oA (aR _ _ De)⟩ ?_
 refine aV [0,39,2] ?_
 refine ab ?_
 obtain ⟨v1,hv1,h⟩:=zn h
 refine yx hn 1 ?_
 refine ys 0 ⟨lg call94 (pU _ _ _ hv1) 39⟩ ?_
 refine ym 4 ?_
 refine aV [0,39,2,5,6] ?_
 refine ab ?_
 refine aG hn 2 [0,39,2,5,15] ?_
 refine zc h rfl (fun h => ?_) (fun h => ?_)
 refine aG hn 3 [39,2,3,4] ?_
 refine aj ?_
 refine ag [1,2,3] (by kernel_rfl) (es':=[(_,_),(_,_),(_,_)]) rfl ?_
 refine cm (fs:=[(2,.box 28 [.fl (.own 5) 1 (map (int .u8) [])]),(3,vi 0),(4,vi 9)]) (.box _ _ (ae (bI 5 1) (bj)) rfl (.same _ (.same _ .nil))) ?_
 refine ai ?_
 obtain rfl:=zi h
 exact al hio rfl (.cell1 _ _ _ _ underlying28 rfl (.tmp _ _ (.tmp _ _ .nil))) rfl rfl
 refine am ?_
 refine af (ab ?_)
 refine ab ?_
 obtain ⟨v3,hv3,v4,hv4,h⟩:=eo h
 refine yx hn 2 ?_
 refine yS (fb v3) 0 ⟨lA _ _ _ 0 v1.1 _ underlying28 lQ rfl rfl rfl ⟨_,rfl⟩ hv3⟩ ?_
 refine ys 1 ⟨lg call95 (jp _ _ _ hv4) 39⟩ ?_
 refine aV [0,39,2,5,7] ?_
 refine aG hn 2 [0,39,2,5,7,21] ?_
 refine zc h rfl (fun h => ?_) (fun h => ?_)
 refine aG hn 4 [39,2,3,4] ?_
 refine aj ?_
 refine ag [1,2,3] (by kernel_rfl) (es':=[(_,_),(_,_),(_,_)]) rfl ?_
 refine cm (fs:=[(2,.box 28 [.fl (.own 5) 1 (map (int .u8) [])]),(3,vi 0),(4,vi v4)]) (.box _ _ (ae (bI 5 1) (bj)) rfl (.same _ (.same _ .nil))) ?_
 refine ai ?_
 obtain rfl:=zi h
 exact al hio rfl (.cell1 _ _ _ _ underlying28 rfl (.tmp _ _ (.tmp _ _ .nil))) rfl rfl
 refine am ?_
 refine af (ab ?_)
 refine ab ?_
 obtain ⟨v6,hv6,v7,hv7,h⟩:=eo h
 refine yx hn 2 ?_
 refine yS (fb v6) 0 ⟨lA _ _ _ 0 v1.1 _ underlying28 lQ rfl rfl rfl ⟨_,rfl⟩ hv6⟩ ?_
 refine yk [] [25] ?_
 refine yt (26,.cloB 123 [.box 28 [fb v7]]) 0 ⟨gJ _ _ 96 _ _ rfl call96 rfl rfl (gL v6 _ hv7) rfl⟩ ?_
 refine aV [39,2,5,26] ?_
 refine aC ?_
 refine jo [3,0,1,2] (by kernel_rfl) (es':=[(26,.cloB 123 [.box 28 [fb v7]]),(39,.glob (GL mx)),(2,.box 28 [vz]),(5,vi v1.1)]) rfl ?_
 refine oJ (fs:=[(26,.cloB 123 [.box 28 [fb v7]]),(39,.glob (GL mx)),(2,.box 28 [.fl (.own 5) 1 (map (int .u8) [])]),(5,vi v1.1)]) (.same _ (.same _ (.box _ _ (ae (bI 5 1) (bj)) rfl (.same _ .nil)))) ?_
 refine ia h 123 26 27 40 _ [39,2,5] call123 (fun (s12:(List Int))=>[(39,.glob (GL mx)),(2,.box 28 [.fl (.own 5) 1 (map (int .u8) s12)]),(5,.v (.int .i64 v1.1))]) (fun (():Unit)=>[]) (fun l J Y hY t t' h=>fa mx l J Y hY v7 t t' h) hn rfl (fun _=>rfl) (fun _=>rfl) (fun _=>rfl) rfl rfl (fun _=>⟨rfl,rfl⟩) rfl (gY 39 rfl) ?_ ?_ ?_
 rintro kk g0 hn hio x s12 u h
 refine qo (es':=[(27,fb x),(39,.glob (GL mx)),(2,.box 28 [.fl (.own 5) 1 (map (int .u8) s12)]),(5,vi v1.1),(39,.v (kk.tm.getD 39 undef)),(2,.v (kk.tm.getD 2 undef)),(5,.v (kk.tm.getD 5 undef)),(40,.inv kk.ready)]) rfl ?_
 refine yy hn 1 [39,2,5,40,8,39,2,5] ?_
 refine ag [0,1,2,4,5,6,7,3] (by kernel_rfl) (es':=[(39,.glob (GL mx)),(2,.box 28 [.fl (.own 5) 1 (map (int .u8) s12)]),(5,vi v1.1),(8,fb x),(39,.v (kk.tm.getD 39 undef)),(2,.v (kk.tm.getD 2 undef)),(5,.v (kk.tm.getD 5 undef)),(40,.inv kk.ready)]) rfl ?_
 refine jt (es:=[(39,.glob (GL mx)),(2,.box 28 [.fl (.own 5) 1 (map (int .u8) s12)]),(5,vi v1.1),(8,fb x),(39,.v (kk.tm.getD 39 undef)),(2,.v (kk.tm.getD 2 undef)),(5,.v (kk.tm.getD 5 undef))]) 40 rfl ?_
 refine aC (ab ?_)
 obtain ⟨v8,hv8,v9,hv9,h⟩:=eo h
 refine wb [[2],[8]] ?_
 refine wN [] ?_
 refine wS (.fl (.own 5) 1 (map (int .u8) [46])) [] ⟨bi _ _ 1 (.int .u8 0) (map (int .u8) [46]) [(0,.int .u8 46)] underlying28 lQ uA (fun _ V w o a hv hes=>by simp only [List.map_toArray,List.map_cons,List.map_nil]; try rfl) (dn (by simp [Instr.fill,Value.cells]; rfl) (by simp [List.range,List.range.loop] <;> rfl)) (by simp [Value.oneCell']) rfl (by decide) (by decide) (by decide)⟩ ?_
 refine wK [30] [] ?_
 refine wt [(31,.fl .ro 1 (map (int .u8) [46]))] [] ⟨gn _ _ _ underlying28 underlying5 (by intro h; cases h)⟩ ?_
 refine wN [29,31] ?_
 refine wS (fb v8) [] ⟨gJ _ _ 97 _ _ rfl call97 rfl rfl (mn x [46] _ hv8) rfl⟩ ?_
 refine wK [2] [28,32] ?_
 refine wt [(2,.box 28 [.any]),(33,.fl (.own 5) 1 (map (int .u8) v9))] [] ⟨ib _ _ _ _ _ _ jN rfl rfl (zl rfl) rfl (gp _) (gp _) hv9 ((List.map_append).symm.trans (congrArg (map _) (jb hv9))) (Nat.ne_of_beq_eq_false rfl) rfl rfl⟩ ?_
 refine wK [28,33,2] [] ?_
 refine wt [(2,.box 28 [.fl (.own 5) 1 (map (int .u8) v9)])] [] ⟨aJ.drop [_] (aM _ _ _ _ _ _ _ _ kQ rfl rfl rfl (zl rfl) rfl rfl)⟩ ?_
 refine sF hn [39,2,5,40,39,2,5] ?_
 obtain ⟨v10,hv10,h⟩:=zn h
 refine yx hn 1 ?_
 refine yk [2] [34] ?_
 refine nE (2,.box 28 [.any]) (35,.fl (.own 5) 1 (map (int .u8) v10)) 0 ⟨dP _ _ _ _ _ _ jN uA underlying9 rfl rfl (zl rfl) rfl rfl hv10 rfl (Nat.ne_of_beq_eq_false rfl) rfl rfl⟩ ?_
 refine yw [34] 0 ?_
 refine yk [35,2] [] ?_
 refine yt (2,.box 28 [.fl (.own 5) 1 (map (int .u8) v10)]) 0 ⟨aM _ _ _ _ _ _ _ _ kQ rfl rfl rfl (zl rfl) rfl rfl⟩ ?_
 refine ye [39,2,5,40,39,2,5] ?_
 refine aI ?_
 refine ag [0,1,2,4,5,6,3] (by kernel_rfl) (es':=[(_,_),(_,_),(_,_),(_,_),(_,_),(_,_),(_,_)]) rfl ?_
 obtain rfl:=zi h
 exact jB 40 [39,2,5] _ rfl rfl (by kernel_rfl)
 rintro D s12 h
 refine aI ?_
 refine af (ab ?_)
 obtain ⟨v13,hv13,h⟩:=zn h
 refine yx hn 2 ?_
 refine ys 0 ⟨lb hv13⟩ ?_
 refine yk [2] [36] ?_
 refine yt (2,.box 28 [.fl (.own 5) 1 (map (int .u8) s12)]) 2 ⟨rK _ _ _ 2 0 kQ rfl rfl rfl (zl rfl)⟩ ?_
 refine aV [39,2,3,4] ?_
 refine aj ?_
 refine ag [1,2,3] (by kernel_rfl) (es':=[(_,_),(_,_),(_,_)]) rfl ?_
 obtain rfl:=zi h
 exact al hio rfl (.cell1 _ _ _ _ underlying28 rfl (.tmp _ _ (.tmp _ _ .nil))) rfl rfl
 rintro D ⟨⟩ h
 cases h
theorem fh (xs:List Value):oM Tryz.prog 145 [.hid (gV 153 5 false xs)] [.hid (gV 153 5 true xs)] (.tup []) :=
 Af (by decide) (fun b w h1 h2 h3=>Tryz.Builder_copyCheck_fresh b w h1 h2 h3) (fun b w h=>Tryz.Builder_copyCheck_used b w h)
theorem dp (xs:List Int) (c:Int) (r:List Int) (h:cq 1 xs [c]=some r):oM Tryz.prog 125 [.hid (gV 153 5 false (map (int .u8) xs)),.v (.int .u8 c)] [.hid (gV 153 5 false (map (int .u8) r))] (.v .nilIface):=by
 refine oM.bldW ?_
 refine uG func125 rfl (zl rfl) rfl (zl rfl) fun args0 hargs0 g0 hn hio => ?_
 refine Dx hn [_,_,_,(4,.v .nilIface)] [0,1,2] [0,1,2] [zq [] 3 4] [(_,_),(_,_),(_,_)] rfl ⟨z2 rfl,zz⟩ ?_
 refine Dx hn [_,_,_,(5,.same (.slot 0)),(0,.hid (gV 153 5 true (map (int .u8) xs))),(6,.tup [])] [0,1,2] [4,1,2] [zq [] 3 5,⟨[3],[0],[4,5],[(.slot 6)]⟩] [(_,_),(_,_),(_,_)] rfl ⟨zp rfl (db _ _ _ rfl),zp rfl (lx _ _ _ _ 6 145 [.tmp 5] [] _ _ _ rfl call145 rfl rfl rfl (fh _) (zl rfl) rfl rfl rfl rfl rfl rfl rfl),zz⟩ ?_
 refine rT 0 rfl ?_
 refine Dx hn (_::_::_::(7,.ptr 0 0)::(8,.ptr 0 0)::(9,.ptr 0 0)::(10,.ptr 0 1)::(11,.same (.cell 0 1))::(12,.v (.int .u8 c))::(13,.fl (.own 5) 1 (map (int .u8) [c]))::(14,.fl (.own 5) 1 (map (int .u8) r))::(0,.box 153 [.ptr 0 0,.any])::(15,.ptr 0 0)::(16,.ptr 0 1)::(0,.box 153 [.ptr 0 0,.fl (.own 5) 1 (map (int .u8) r)])::[]) [0,1,2] [14,2] [zq [0] 3 7,zq [0] 4 8,zq [4,0] 5 9,zq [5,0] 6 10,zq [6,0] 7 11,zq [1] 8 12,zq [8] 9 13,⟨[7,9],[0],[11,10],[(.slot 14)]⟩,zq [3,11] 12 15,zq [12,11] 13 16,⟨[13],[7,10,11],[14],[.cell 0 1]⟩] [(_,_),(_,_)] rfl ⟨z1 rfl,z1 rfl,zp rfl (jv _ _ _ 0 0 rfl (by decide)),zp rfl (oF underlying153 rfl kQ),zp rfl (oL underlying28 rfl),z1 rfl,zp rfl (bi _ _ 1 (.int .u8 0) (map (int .u8) [c]) [(0,.int .u8 c)] underlying28 lQ uA (fun _ V w o a hv hes=>by have e0:=bL hv hes (x := .tmp 12) rfl; simp only [List.map_toArray,List.map_cons,List.map_nil,e0]; try rfl) (dn (by simp [Instr.fill,Value.cells]; rfl) (by simp [List.range,List.range.loop])) (by simp [Value.oneCell']) rfl (by decide) (by decide) (by decide)),zp rfl (ib _ _ _ _ _ _ jN rfl rfl (zl rfl) rfl (gp _) (gp _) h ((List.map_append).symm.trans (congrArg (map _) (jb h))) (Nat.ne_of_beq_eq_false rfl) rfl rfl),zp rfl (jv _ _ _ 0 0 rfl (by decide)),zp rfl (oF underlying153 rfl kQ),zp rfl (aJ.drop [_] (aM _ _ _ _ _ _ _ _ kQ rfl rfl rfl (zl rfl) rfl rfl)),zz⟩ ?_
 refine Dx hn [_,_,(4,.v .nilIface)] [0,1] [0,1,2] [zq [] 2 4] [(_,_),(_,_),(_,_)] rfl ⟨z2 rfl,zz⟩ ?_
 refine aj ?_
 refine Bo 0 ?_
 refine ag [2,0,1] (by kernel_rfl) (es':=[(_,_),(_,_),(_,_)]) rfl ?_
 exact bp (es:=[(4,.v .nilIface)]) (posts:=[.hid (gV 153 5 true (map (int .u8) r))]) hio rfl rfl (.tmp _ _ .nil) rfl rfl hargs0 rfl
theorem pA (s:KK) (c:Int) (r:KK) (h:Sh.strings_Repeat s c=some r):bM Tryz.prog 127 [.v (.string s),.v (.int .i64 c)] (.v (.string r)):=oO Tryz.strings_Repeat s c r h
theorem jm (xs:List Int) (s:KK) (r:List Int) (h:cq 1 xs (ao s)=some r):oM Tryz.prog 126 [.hid (gV 153 5 false (map (int .u8) xs)),.v (.string s)] [.hid (gV 153 5 false (map (int .u8) r))] (.tup [.v (.int .i64 (s.size:Int)),.v .nilIface]):=by
 refine oM.bldW ?_
 refine uG func126 rfl (zl rfl) rfl (zl rfl) fun args0 hargs0 g0 hn hio => ?_
 refine Dx hn [_,_,_,(4,vi 0),(5,.v .nilIface)] [0,1,2] [0,1,2] [zq [] 3 4,zq [] 4 5] [(_,_),(_,_),(_,_)] rfl ⟨z2 rfl,z2 rfl,zz⟩ ?_
 refine Dx hn [_,_,_,(6,.same (.slot 0)),(0,.hid (gV 153 5 true (map (int .u8) xs))),(7,.tup [])] [0,1,2] [4,1,2] [zq [] 3 6,⟨[3],[0],[4,5],[(.slot 7)]⟩] [(_,_),(_,_),(_,_)] rfl ⟨zp rfl (db _ _ _ rfl),zp rfl (lx _ _ _ _ 7 145 [.tmp 6] [] _ _ _ rfl call145 rfl rfl rfl (fh _) (zl rfl) rfl rfl rfl rfl rfl rfl rfl),zz⟩ ?_
 refine rT 0 rfl ?_
 refine Dx hn (_::_::_::(8,.ptr 0 0)::(9,.ptr 0 0)::(10,.ptr 0 0)::(11,.ptr 0 1)::(12,.same (.cell 0 1))::(13,vs s)::(14,.fl (.own 5) 1 (map (int .u8) r))::(0,.box 153 [.ptr 0 0,.any])::(15,.ptr 0 0)::(16,.ptr 0 1)::(0,.box 153 [.ptr 0 0,.fl (.own 5) 1 (map (int .u8) r)])::[]) [0,1,2] [13,1,2] [zq [0] 3 8,zq [0] 4 9,zq [4,0] 5 10,zq [5,0] 6 11,zq [6,0] 7 12,zq [1] 8 13,⟨[7,8],[0],[10,9],[(.slot 14)]⟩,zq [3,10] 11 15,zq [11,10] 12 16,⟨[12],[7,9,10],[13],[.cell 0 1]⟩] [(_,_),(_,_),(_,_)] rfl ⟨z1 rfl,z1 rfl,zp rfl (jv _ _ _ 0 0 rfl (by decide)),zp rfl (oF underlying153 rfl kQ),zp rfl (oL underlying28 rfl),z1 rfl,zp rfl (dP _ _ _ _ _ _ jN uA underlying9 rfl rfl (zl rfl) rfl rfl h rfl (Nat.ne_of_beq_eq_false rfl) rfl rfl),zp rfl (jv _ _ _ 0 0 rfl (by decide)),zp rfl (oF underlying153 rfl kQ),zp rfl (aJ.drop [_] (aM _ _ _ _ _ _ _ _ kQ rfl rfl rfl (zl rfl) rfl rfl)),zz⟩ ?_
 refine Dx hn [_,_,_,(17,vs s),(18,vi (s.size:Int)),(4,vi (s.size:Int)),(5,.v .nilIface)] [0,1,2] [0,2,5,6] [zq [1] 3 17,zq [3] 4 18,zq [4] 5 4,zq [] 6 5] [(_,_),(_,_),(_,_),(_,_)] rfl ⟨z1 rfl,zp rfl (oN underlying9 rfl),z2 rfl,z2 rfl,zz⟩ ?_
 refine aj ?_
 refine Bo 0 ?_
 refine ag [2,3,0,1] (by kernel_rfl) (es':=[(_,_),(_,_),(_,_),(_,_)]) rfl ?_
 exact bp (es:=[(4,.v (.int .i64 (s.size:Int))),(5,.v .nilIface)]) (posts:=[.hid (gV 153 5 true (map (int .u8) r))]) hio rfl rfl (.tmp _ _ (.tmp _ _ .nil)) rfl rfl hargs0 rfl
theorem gv (xs:List Int) (s:KK) (h:xT xs=some s):oM Tryz.prog 128 [.hid (gV 153 5 false (map (int .u8) xs))] [] (.v (.string s)):=by
 refine uG func128 rfl (zl rfl) rfl (zl rfl) fun args0 hargs0 g0 hn hio => ?_
 refine xm 0 fun v => ?_
 refine Dx hn [_,(2,vs ByteArray.empty)] [0] [0] [zq [] 1 2] [(_,_)] rfl ⟨z2 rfl,zz⟩ ?_
 refine ab ?_
 refine pc (by kernel_rfl) hn (El:=[_,(3,.same (.slot 0)),(4,.ptr 0 0),(5,.ptr 0 1),(6,.v v),(7,.hid (Eg v)),(8,.same (.slot 0)),(9,.ptr 0 0),(10,.ptr 0 1),(11,.v v),(12,vi ((map (int .u8) xs).length:Int)),(13,vs s),(2,vs s)]) (init:=[0]) (fin:=[12]) (sps:=[zq [] 1 3,zq [1,0] 2 4,zq [2] 3 5,zq [3,0] 4 6,zq [4,0] 5 7,zq [] 6 8,zq [6,0] 7 9,zq [7] 8 10,zq [8,0] 9 11,zq [9,0] 10 12,⟨[5,10],[0],[11],[(.slot 13)]⟩,zq [11] 12 2]) (es':=[(2,vs s)]) (by kernel_rfl) rfl rfl ⟨zp rfl (db _ _ _ rfl),zp rfl (mu _ _ _ 0 rfl rfl (by decide)),zp rfl (oF underlying153 rfl kQ),zp rfl (qk _ _ _ 0 underlying28 rfl rfl rfl),zp rfl (Fk _ _ 0 underlying173 rfl rfl),zp rfl (db _ _ _ rfl),zp rfl (mu _ _ _ 0 rfl rfl (by decide)),zp rfl (oF underlying153 rfl kQ),zp rfl (qk _ _ _ 0 underlying28 rfl rfl rfl),zp rfl (xy _ _ 0 underlying28 rfl rfl),zp rfl (Dj _ _ 0 underlying173 (by kernel_rfl) rfl rfl h),z2 rfl,zz⟩ ?_
 refine af (aj ?_)
 exact bp (es:=[(2,.v (.string s))]) (posts:=[]) hio rfl rfl (.tmp _ _ .nil) rfl rfl hargs0 rfl
theorem kj (b:(List Int)) (r:KK) (h:Sh.fP b=some r):bM Tryz.prog 98 [.fl .shr 1 (map (int .u8) b)] (.v (.string r)):=by
 unfold Sh.fP at h
 refine yO 61 func98 fun g0 hn hio => ?_
 refine aG hn 1 [0] ?_
 refine gE hn 0 ?_
 refine yS (.hid (gV 153 5 false (map (int .u8) ([]:List Int)))) 0 ⟨oA (aJ.bld0 (aR _ _ EP))⟩ ?_
 refine aV [0,3] ?_
 refine ab ?_
 refine aG hn 1 [0,3,4] ?_
 refine aU h (fun ((s89,s90):(List Int)×Int)=>[(0,fb b),(3,.hid (gV 153 5 false (map (int .u8) s89))),(4,vi s90)]) (fun (s122:(List Int))=>[(3,.hid (gV 153 5 false (map (int .u8) s122)))]) ?_ ?_
 rintro s122 h
 refine af (ab ?_)
 obtain ⟨v160,hv160,h⟩:=zn h
 refine yx hn 0 ?_
 refine yk [3] [] ?_
 refine yt (60,vs v160) 1 ⟨lx _ _ _ _ 60 128 [.tmp 3] [] _ _ _ rfl call128 rfl rfl rfl (gv s122 _ hv160) (zl rfl) rfl rfl rfl rfl rfl rfl rfl⟩ ?_
 refine aV [2] ?_
 refine aj ?_
 obtain rfl:=zi h
 exact al hio rfl (.tmp _ _ .nil) rfl rfl
 rintro u123 hl124 hr125 ⟨s89,s90⟩ rr128 h ho126
 refine ab ?_
 refine aG hn 4 [0,3,4,13] ?_
 refine zc h rfl (fun h => ?_) (fun h => ?_)
 refine am ?_
 refine af (ab ?_)
 refine aC (ab ?_)
 obtain ⟨v2,hv2,v3,hv3,h⟩:=eo h
 refine yx hn 3 ?_
 refine ys 0 ⟨lb hv2⟩ ?_
 refine yS (vi v3) 1 ⟨(Option.some.inj hv3) ▸ vm _ _ _ _ rfl rfl⟩ ?_
 refine aV [0,3,4,5] ?_
 refine aG hn 1 [0,3,4,5,6] ?_
 refine ab (ab ?_)
 obtain ⟨v4,hv4,v5,hv5,h⟩:=eo h
 refine yx hn 4 ?_
 refine ys 0 ⟨lb hv4⟩ ?_
 refine yS (fb v5) 2 ⟨lA _ _ _ s90 v4 _ underlying28 lQ rfl rfl ⟨_,rfl⟩ ⟨_,rfl⟩ hv5⟩ ?_
 refine aV [0,3,4,5,6,26,27,28] ?_
 refine aU h (fun ((s134,s135):Int×Int)=>[(0,fb b),(3,.hid (gV 153 5 false (map (int .u8) s89))),(4,vi s90),(5,vi v3),(6,.v (.int .u32 s134)),(26,fb v5),(27,vi (v5.length:Int)),(28,vi s135)]) (fun (s137:Int)=>[(0,fb b),(3,.hid (gV 153 5 false (map (int .u8) s89))),(4,vi s90),(5,vi v3),(6,.v (.int .u32 s137))]) ?_ ?_
 rintro s137 h
 refine af (ab ?_)
 refine ab ?_
 obtain ⟨v29,hv29,h⟩:=zn h
 refine yx hn 1 ?_
 refine ys 1 ⟨lb hv29⟩ ?_
 refine aV [0,3,4,5,6,43,44] ?_
 refine aU h (fun ((s149,s150):(List Int)×Int)=>[(0,fb b),(3,.hid (gV 153 5 false (map (int .u8) s149))),(4,vi s90),(5,vi v3),(6,.v (.int .u32 s137)),(43,vi v29),(44,vi s150)]) (fun (s152:(List Int))=>[(0,fb b),(3,.hid (gV 153 5 false (map (int .u8) s152))),(4,vi s90),(5,vi v3)]) ?_ ?_
 rintro s152 h
 refine af ?_
 obtain ⟨v52,hv52,v53,hv53,v54,hv54,h⟩:=rZ h
 refine yx hn 1 ?_
 refine ys 0 ⟨lb hv52⟩ ?_
 refine ys 0 ⟨lk call127 (pA _ _ _ hv53)⟩ ?_
 refine yq call126 (jm _ _ _ hv54) 3 [58] 0 ?_
 refine ye [0,3,4] ?_
 refine aI (af ?_)
 obtain ⟨v55,hv55,h⟩:=zn h
 refine yx hn 1 ?_
 refine ys 0 ⟨lb hv55⟩ ?_
 refine yw [4] 1 ?_
 refine ye [0,3,4] ?_
 exact bc _ (zi h).symm rfl
 rintro u153 hl154 hr155 ⟨s149,s150⟩ rr158 h ho156
 refine aG hn 1 [0,3,4,5,6,43,44,45] ?_
 refine ab ?_
 refine zc h rfl (fun h => ?_) (fun h => ?_)
 refine am ?_
 refine af (ab ?_)
 refine aC ?_
 refine aG hn 2 [0,3,4,5,6,43,44,9] ?_
 obtain ⟨v31,hv31,v32,hv32,v33,hv33,v34,hv34,h⟩:=ld h
 obtain ⟨v35,hv35,v36,hv36,h⟩:=eo h
 refine yx hn 2 ?_
 refine ys 0 ⟨lb hv31⟩ ?_
 refine ys 0 ⟨lb hv32⟩ ?_
 refine ys 0 ⟨lB (lW hv33)⟩ ?_
 refine ys 0 ⟨lb hv34⟩ ?_
 refine ys 0 ⟨lh hv35⟩ ?_
 refine yq call125 (dp _ _ _ hv36) 3 [53] 0 ?_
 refine ye [0,3,4,5,6,43,44] ?_
 refine aI (af ?_)
 obtain ⟨v37,hv37,h⟩:=zn h
 refine yx hn 0 ?_
 refine ys 0 ⟨lb hv37⟩ ?_
 refine yw [44] 1 ?_
 refine ye [0,3,4,5,6,43,44] ?_
 exact bc _ (zi h).symm rfl
 refine bh (ar (ar (bb ?_)))
 refine ag [0,1,2,3] (by kernel_rfl) (es':=[(_,_),(_,_),(_,_),(_,_)]) rfl ?_
 exact hl154 _ (ho156 _ (zi h).symm).symm
 rintro u138 hl139 hr140 ⟨s134,s135⟩ rr143 h ho141
 refine aG hn 1 [0,3,4,5,6,26,27,28,29] ?_
 refine ab ?_
 refine zc h rfl (fun h => ?_) (fun h => ?_)
 refine am ?_
 refine af (ab ?_)
 refine aC (ab ?_)
 obtain ⟨v7,hv7,v8,hv8,h⟩:=eo h
 refine yx hn 1 ?_
 refine ys 0 ⟨li hv7⟩ ?_
 refine ys 2 ⟨ll hv8⟩ ?_
 refine aV [0,3,4,5,6,26,27,28,7,8] ?_
 obtain ⟨v9,hv9,v10,hv10,v11,hv11,v12,hv12,h⟩:=ld h
 obtain ⟨v13,hv13,h⟩:=zn h
 refine yx hn 2 ?_
 refine ys 1 ⟨lv hv9⟩ ?_
 refine ys 0 ⟨lb hv10⟩ ?_
 refine ys 0 ⟨lb hv11⟩ ?_
 refine ys 0 ⟨lB (qd hv12)⟩ ?_
 refine ys 0 ⟨lb hv13⟩ ?_
 refine yw [6] 1 ?_
 refine ye [0,3,4,5,26,27,28,6] ?_
 refine aI (af ?_)
 obtain ⟨v14,hv14,h⟩:=zn h
 refine yx hn 0 ?_
 refine ys 0 ⟨lb hv14⟩ ?_
 refine yw [28] 1 ?_
 refine ye [0,3,4,5,26,27,6,28] ?_
 refine ag [0,1,2,3,6,4,5,7] (by kernel_rfl) (es':=[(_,_),(_,_),(_,_),(_,_),(_,_),(_,_),(_,_),(_,_)]) rfl ?_
 exact bc _ (zi h).symm rfl
 refine bh (ar (ar (bb ?_)))
 refine ag [0,1,2,3,4] (by kernel_rfl) (es':=[(_,_),(_,_),(_,_),(_,_),(_,_)]) rfl ?_
 exact hl139 _ (ho141 _ (zi h).symm).symm
 refine bh (ar (ar (bb ?_)))
 refine ag [1] (by kernel_rfl) (es':=[(_,_)]) rfl ?_
 exact hl124 _ (ho126 _ (zi h).symm).symm
theorem nk (code:Int) (r:Bool) (h:Sh.fU code=some r):bM Tryz.prog 99 [.v (.int .i64 code)] (.v (.bool r)):=by
 unfold Sh.fU at h
 refine yO 9 func99 fun g0 hn hio => ?_
 refine aG hn 1 [0] ?_
 refine ab ?_
 refine ay h (fun (s1:Bool)=>[(2,vb s1)]) ?_ ?_
 rintro s1 h
 refine af (aj ?_)
 obtain rfl:=zi h
 exact al hio rfl (.tmp _ _ .nil) rfl rfl
 intro u2 h hl3 hr4
 refine ak h (fun hg1_2 h => ?_) (fun hg1_2 h => ?_)
 refine yx hn 3 ?_
 refine yd hg1_2 4 ?_
 refine ye [2] ?_
 exact hl3 _ (zi h).symm
 refine yx hn 3 ?_
 refine yd hg1_2 4 ?_
 refine ye [2] ?_
 exact hl3 _ (zi h).symm
theorem eQ (s:aa) (code:Int) (r:(bH×aa)) (h:Sh.cI s code=some r):oM Tryz.prog 85 [.box 80 (aa.b s),.v (.int .i64 code)] [.box 80 (aa.b r.2)] (.agg [.v (.int .i64 r.1.Kf),.fl (.own 9) 1 (map Value.string r.1.Kr)]):=by
 unfold Sh.cI at h
 refine yP 24 func85 fun args0 hargs0 g0 hn hio => ?_
 refine gE hn 0 ?_
 refine yS (.box 51 [vi 0,vz]) 0 ⟨oA (aR _ _ Dr)⟩ ?_
 refine aV [0,1,4,0] ?_
 refine aG hn 1 [0,1,4,5,0] ?_
 refine ab ?_
 refine ay h (fun (s6:KK)=>[(0,.box 80 (aa.b s)),(1,vi code),(4,.box 51 [vi 0,vz]),(5,vs s6),(0,.v (List.getD args0 0 undef))]) ?_ ?_
 rintro s6 h
 refine af ?_
 refine gE hn 2 ?_
 refine yS (.fl (.own 9) 1 (map Value.string [s6])) 0 ⟨bi _ _ 1 (.string ByteArray.empty) (map Value.string [s6]) [(0,.string s6)] underlying49 rL Il (fun _ V w o a hv hes=>by have e0:=bL hv hes (x := .tmp 21) rfl; simp only [List.map_toArray,List.map_cons,List.map_nil,e0]; try rfl) (dn (by simp [Instr.fill,Value.cells]; rfl) (by simp [List.range,List.range.loop] <;> rfl)) (by simp [Value.oneCell']) rfl (by decide) (by decide) (by decide)⟩ ?_
 refine yk [22] [20] ?_
 refine yt (23,.agg [vi code,.fl (.own 9) 1 (map Value.string [s6])]) 0 ⟨bn _ _ _ _ [1,1] _ _ underlying51 Dr (GE _ underlying51) (.copy _ (.take _ _ mz.nil)) rfl rfl rfl⟩ ?_
 refine yk [23,4] [] ?_
 refine yt (4,.box 51 [vi code,.fl (.own 9) 1 (map Value.string [s6])]) 0 ⟨aM _ _ _ _ _ _ _ _ qQ rfl rfl rfl (zl rfl) rfl rfl⟩ ?_
 refine aV [0,4,0] ?_
 refine aj ?_
 refine ag [1,0,2] (by kernel_rfl) (es':=[(_,_),(_,_),(_,_)]) rfl ?_
 obtain rfl:=zi h
 exact bp (es:=[(4,.box 51 [.v (.int .i64 code),.fl (.own 9) 1 (map Value.string [s6])])]) (posts:=[.box 80 (aa.b s)]) hio rfl rfl (.cellA _ _ _ _ underlying51 rfl qQ .nil) rfl rfl hargs0 rfl
 intro u7 h hl8 hr9
 refine aC ?_
 refine aG hn 3 [0,1,4,5,6,0] ?_
 refine zc h rfl (fun h => ?_) (fun h => ?_)
 obtain ⟨v2,hv2,v3,hv3,h⟩:=eo h
 refine yx hn 5 ?_
 refine ys 0 ⟨lT hv2⟩ ?_
 refine ys 0 ⟨lk call98 (kj _ _ hv3)⟩ ?_
 refine yw [5] 1 ?_
 refine ye [0,1,4,5,0] ?_
 refine aI ?_
 exact hl8 _ (zi h).symm
 refine ab ?_
 obtain ⟨v4,hv4,h⟩:=zn h
 refine yx hn 1 ?_
 refine ys 2 ⟨lk call99 (nk _ _ hv4)⟩ ?_
 refine aV [0,1,4,5,16,0] ?_
 refine zc h rfl (fun h => ?_) (fun h => ?_)
 refine yx hn 0 ?_
 refine yw [5] 1 ?_
 refine ye [0,1,4,5,0] ?_
 refine aI ?_
 exact hl8 _ (zi h).symm
 refine am (aI ?_)
 refine ag [0,1,2,3,5] (by kernel_rfl) (es':=[(_,_),(_,_),(_,_),(_,_),(_,_)]) rfl ?_
 exact hl8 _ (zi h).symm
theorem mp (mx:Int×Nat×Value) (n:Int) (r:KK) (h:Sh.strconv_Itoa n=some r):ir Tryz.prog (GL mx) 150 [.v (.int .i64 n)] (.v (.string r)):=pY (by kernel_rfl) (DQ mx) (by rfl) (fun n w h0 h1 ht=>Tryz.strconv_Itoa n h0 h1 w ht) n r h
theorem tb (mx:Int×Nat×Value) (helo:KK) (site:KK) (at_:Int) (r:((List Int)×Int)) (h:Sh.kr helo site at_=some r):ir Tryz.prog (GL mx) 129 [.v (.string helo),.v (.string site),.v (.int .i64 at_)] (.tup [.mkr 5 (map (int .u8) r.1),.v (.int .i64 r.2)]):=by
 unfold Sh.kr at h
 refine yG 33 func129 fun g0 hn hio => ?_
 refine aG hn 2 [0,1,2,33] ?_
 refine ab (ab ?_)
 refine ay h (fun (s21:Bool)=>[(0,vs helo),(1,vs site),(2,vi at_),(33,.glob (GL mx)),(15,vb s21)]) ?_ ?_
 rintro s21 h
 refine af ?_
 refine zc h rfl (fun h => ?_) (fun h => ?_)
 refine aG hn 2 [33,6,7] ?_
 refine aj ?_
 refine ag [1,2] (by kernel_rfl) (es':=[(_,_),(_,_)]) rfl ?_
 refine cm (fs:=[(6,.mkr 5 (map (int .u8) [])),(7,vi 5)]) (.sub _ (fX 5) rfl (.same _ .nil)) ?_
 refine ai ?_
 obtain rfl:=zi h
 exact al hio rfl (.tmp _ _ (.tmp _ _ .nil)) rfl rfl
 refine am ?_
 refine af (ab ?_)
 refine ab ?_
 refine ay h (fun (s26:Bool)=>[(0,vs helo),(1,vs site),(2,vi at_),(33,.glob (GL mx)),(21,vb s26)]) ?_ ?_
 rintro s26 h
 refine af ?_
 refine zc h rfl (fun h => ?_) (fun h => ?_)
 refine aG hn 2 [33,6,7] ?_
 refine aj ?_
 refine ag [1,2] (by kernel_rfl) (es':=[(_,_),(_,_)]) rfl ?_
 refine cm (fs:=[(6,.mkr 5 (map (int .u8) [])),(7,vi 1)]) (.sub _ (fX 5) rfl (.same _ .nil)) ?_
 refine ai ?_
 obtain rfl:=zi h
 exact al hio rfl (.tmp _ _ (.tmp _ _ .nil)) rfl rfl
 refine am ?_
 refine af (ab ?_)
 obtain ⟨v13,hv13,v14,hv14,v15,hv15,v16,hv16,h⟩:=ld h
 obtain ⟨v17,hv17,v18,hv18,v19,hv19,v20,hv20,h⟩:=ld h
 refine yx hn 1 ?_
 refine ys 0 ⟨lB (fZ hv13)⟩ ?_
 refine ys 1 ⟨lB (fZ hv14)⟩ ?_
 refine ys 0 ⟨lB (fZ hv15)⟩ ?_
 refine ys 1 ⟨lB (fZ hv16)⟩ ?_
 refine ys 0 ⟨lg call150 (mp _ _ _ hv17) 33⟩ ?_
 refine ys 0 ⟨lB (fZ hv18)⟩ ?_
 refine ys 0 ⟨lB (fZ hv19)⟩ ?_
 refine ys 0 ⟨lU hv20⟩ ?_
 refine ya 1 ?_
 refine aV [33,6,7] ?_
 refine aj ?_
 refine ag [1,2] (by kernel_rfl) (es':=[(_,_),(_,_)]) rfl ?_
 obtain rfl:=zi h
 exact al hio rfl (.tmp _ _ (.tmp _ _ .nil)) rfl rfl
 intro u27 h hl28 hr29
 refine ak h (fun hg3_2 h => ?_) (fun hg3_2 h => ?_)
 refine yx hn 3 ?_
 refine yd hg3_2 3 ?_
 refine ye [0,1,2,33,21] ?_
 exact hl28 _ (zi h).symm
 refine yx hn 3 ?_
 refine yd hg3_2 3 ?_
 refine ye [0,1,2,33,21] ?_
 exact hl28 _ (zi h).symm
 intro u22 h hl23 hr24
 obtain ⟨v1,hv1,h⟩:=zn h
 refine ak h (fun hg1_3 h => ?_) (fun hg1_3 h => ?_)
 refine yx hn 1 ?_
 refine ys 2 ⟨lg call55 (bN _ _ _ hv1) 33⟩ ?_
 refine yd hg1_3 4 ?_
 refine ye [0,1,2,33,15] ?_
 exact hl23 _ (zi h).symm
 obtain ⟨v2,hv2,h⟩:=zn h
 refine yx hn 1 ?_
 refine ys 2 ⟨lg call55 (bN _ _ _ hv1) 33⟩ ?_
 refine yd hg1_3 1 ?_
 refine ys 2 ⟨lg call55 (bN _ _ _ hv2) 33⟩ ?_
 refine ye [0,1,2,33,15] ?_
 exact hl23 _ (zi h).symm
theorem vX (mx:Int×Nat×Value) (b:(List Int)) (helo:KK) (site:KK) (at_:Int) (r:((List Int)×Int)) (h:Sh.mP b helo site at_=some r):ir Tryz.prog (GL mx) 100 [.fl .shr 1 (map (int .u8) b),.v (.string helo),.v (.string site),.v (.int .i64 at_)] (.tup [.mkr 5 (map (int .u8) r.1),.v (.int .i64 r.2)]):=by
 unfold Sh.mP at h
 refine yG 31 func100 fun g0 hn hio => ?_
 refine aG hn 2 [0,1,2,3,31] ?_
 refine ab (ab ?_)
 obtain ⟨v1,hv1,h⟩:=zn h
 refine yx hn 1 ?_
 refine ys 1 ⟨lg call95 (jp _ _ _ hv1) 31⟩ ?_
 refine aV [0,1,2,3,31,10] ?_
 refine aG hn 2 [0,1,2,3,31,10,16] ?_
 refine zc h rfl (fun h => ?_) (fun h => ?_)
 refine aG hn 3 [31,8,9] ?_
 refine aj ?_
 refine ag [1,2] (by kernel_rfl) (es':=[(_,_),(_,_)]) rfl ?_
 refine cm (fs:=[(8,.mkr 5 (map (int .u8) [])),(9,vi v1)]) (.sub _ (fX 5) rfl (.same _ .nil)) ?_
 refine ai ?_
 obtain rfl:=zi h
 exact al hio rfl (.tmp _ _ (.tmp _ _ .nil)) rfl rfl
 refine am ?_
 refine af (ab ?_)
 obtain ⟨v3,hv3,h⟩:=zn h
 refine yx hn 3 ?_
 refine ys 0 ⟨lg call129 (tb _ _ _ _ _ hv3) 31⟩ ?_
 refine ym 0 ?_
 refine Ij 1 ?_
 refine ya 1 ?_
 refine aV [0,31,11,12] ?_
 refine ab ?_
 refine aG hn 2 [0,31,11,12,26] ?_
 refine zc h rfl (fun h => ?_) (fun h => ?_)
 refine aG hn 3 [31,8,9] ?_
 refine aj ?_
 refine ag [1,2] (by kernel_rfl) (es':=[(_,_),(_,_)]) rfl ?_
 refine cm (fs:=[(8,.mkr 5 (map (int .u8) [])),(9,vi v3.2)]) (.sub _ (fX 5) rfl (.same _ .nil)) ?_
 refine ai ?_
 obtain rfl:=zi h
 exact al hio rfl (.tmp _ _ (.tmp _ _ .nil)) rfl rfl
 refine am ?_
 refine af (ab ?_)
 obtain ⟨v5,hv5,h⟩:=zn h
 refine yx hn 0 ?_
 refine ym 1 ?_
 refine yk [28] [29] ?_
 refine nE (28,.any) (30,.mkr 5 (map (int .u8) v5)) 0 ⟨tY _ _ _ _ _ jN rfl rfl rfl rfl hv5 rfl⟩ ?_
 refine ya 1 ?_
 refine aV [31,8,9] ?_
 refine aj ?_
 refine ag [1,2] (by kernel_rfl) (es':=[(_,_),(_,_)]) rfl ?_
 obtain rfl:=zi h
 exact al hio rfl (.tmp _ _ (.tmp _ _ .nil)) rfl rfl
theorem nr (s:KK) (c r:Int) (h:Sh.strings_IndexByte s c=some r):bM Tryz.prog 224 [.v (.string s),.v (.int .u8 c)] (.v (.int .i64 r)):=mA Tryz.strings_IndexByte s c r h
theorem sk (c:Int) (r:Bool) (h:Sh.ik c=some r):bM Tryz.prog 223 [.v (.int .u8 c)] (.v (.bool r)):=by
 unfold Sh.ik at h
 refine yO 10 func223 fun g0 hn hio => ?_
 refine aG hn 1 [0] ?_
 refine ab ?_
 refine ay h (fun (s3:Bool)=>[(2,vb s3)]) ?_ ?_
 rintro s3 h
 refine af (aj ?_)
 obtain rfl:=zi h
 exact al hio rfl (.tmp _ _ .nil) rfl rfl
 intro u4 h hl5 hr6
 obtain ⟨v1,hv1,h⟩:=zn h
 refine ak h (fun hg1_2 h => ?_) (fun hg1_2 h => ?_)
 refine yx hn 1 ?_
 refine ys 1 ⟨lk call83 (dM _ _ hv1)⟩ ?_
 refine yd hg1_2 5 ?_
 refine ye [2] ?_
 exact hl5 _ (zi h).symm
 obtain ⟨v2,hv2,h⟩:=zn h
 refine yx hn 1 ?_
 refine ys 1 ⟨lk call83 (dM _ _ hv1)⟩ ?_
 refine yd hg1_2 1 ?_
 refine ys 3 ⟨lk call224 (nr _ _ _ hv2)⟩ ?_
 refine ye [2] ?_
 exact hl5 _ (zi h).symm
theorem kn (s:KK) (r:Bool) (h:Sh.eJ s=some r):bM Tryz.prog 81 [.v (.string s),.v (.func (.func 223) #[] #[])] (.v (.bool r)):=by
 unfold Sh.eJ at h
 refine yO 18 func81 fun g0 hn hio => ?_
 refine aG hn 1 [0,1] ?_
 refine ab ?_
 refine aG hn 3 [0,1,7,8] ?_
 refine aU h (fun (s9:Int)=>[(0,vs s),(1,.v (.func (.func 223) #[] #[])),(7,vi (s.size:Int)),(8,vi s9)]) (fun (():Unit)=>[]) ?_ ?_
 rintro ⟨⟩ h
 refine af ?_
 refine aG hn 1 [4] ?_
 refine aj ?_
 obtain rfl:=zi h
 exact al hio rfl (.tmp _ _ .nil) rfl rfl
 rintro u12 hl13 hr14 s9 rr17 h ho15
 refine aG hn 1 [0,1,7,8,9] ?_
 refine ab ?_
 refine zc h rfl (fun h => ?_) (fun h => ?_)
 refine am ?_
 refine af (ab ?_)
 refine aC ?_
 refine aG hn 2 [0,1,7,8,5] ?_
 refine ab ?_
 obtain ⟨v2,hv2,v3,hv3,h⟩:=eo h
 refine yx hn 3 ?_
 refine ys 0 ⟨lh hv2⟩ ?_
 refine ys 1 ⟨lk call223 (sk _ _ hv3)⟩ ?_
 refine aV [0,1,7,8,16] ?_
 refine zc h rfl (fun h => ?_) (fun h => ?_)
 refine aG hn 1 [4] ?_
 refine aj (aE (ai (ai (aE (ai ?_)))))
 have h:=hr14 _ (ho15 _ (zi h).symm).symm
 obtain rfl:=zi h
 exact al hio rfl (.tmp _ _ .nil) rfl rfl
 refine am (aI (af ?_))
 obtain ⟨v5,hv5,h⟩:=zn h
 refine yx hn 0 ?_
 refine ys 0 ⟨lb hv5⟩ ?_
 refine yw [8] 1 ?_
 refine ye [0,1,7,8] ?_
 exact bc _ (zi h).symm rfl
 refine bh (ar (ar (bb ?_)))
 refine ag [] (by kernel_rfl) (es':=[]) rfl ?_
 exact hl13 _ (ho15 _ (zi h).symm).symm
theorem uW (s:KK) (r:Bool) (h:Sh.lF s=some r):bM Tryz.prog 213 [.v (.string s)] (.v (.bool r)):=by
 unfold Sh.lF at h
 refine yO 9 func213 fun g0 hn hio => ?_
 refine aG hn 1 [0] ?_
 refine ab ?_
 refine ay h (fun (s2:Bool)=>[(2,vb s2)]) ?_ ?_
 rintro s2 h
 refine af (aj ?_)
 obtain rfl:=zi h
 exact al hio rfl (.tmp _ _ .nil) rfl rfl
 intro u3 h hl4 hr5
 refine ak h (fun hg1_2 h => ?_) (fun hg1_2 h => ?_)
 obtain ⟨v1,hv1,h⟩:=zn h
 refine yx hn 3 ?_
 refine yd hg1_2 1 ?_
 refine ys 2 ⟨lk call81 (kn _ _ hv1)⟩ ?_
 refine ye [2] ?_
 exact hl4 _ (zi h).symm
 refine yx hn 3 ?_
 refine yd hg1_2 4 ?_
 refine ye [2] ?_
 exact hl4 _ (zi h).symm
theorem jJ (mx:Int×Nat×Value) (s:KK) (r:Bool) (h:Sh.ej s=some r):ir Tryz.prog (GL mx) 69 [.v (.string s),.v (.func (.func 213) #[] #[])] (.v (.bool r)):=by
 unfold Sh.ej at h
 refine yG 13 func69 fun g0 hn hio => ?_
 refine gE hn 1 ?_
 refine yS (.box 4 [vb false]) 0 ⟨oA (aR _ _ Io)⟩ ?_
 refine aV [0,13,3,4] ?_
 refine ab (ab ?_)
 obtain ⟨v1,hv1,h⟩:=zn h
 refine yx hn 1 ?_
 refine yk [] [6] ?_
 refine yt (7,.cloB 119 [.box 9 [vs v1.1],.box 9 [vs v1.2.1],.box 3 [vi v1.2.2]]) 0 ⟨gJ _ _ 80 _ _ rfl call80 rfl rfl (gw s (⟨#[46]⟩:KK) _ hv1) rfl⟩ ?_
 refine aV [13,3,4,7] ?_
 refine aC ?_
 refine jo [3,0,1,2] (by kernel_rfl) (es':=[(7,.cloB 119 [.box 9 [vs v1.1],.box 9 [vs v1.2.1],.box 3 [vi v1.2.2]]),(13,.glob (GL mx)),(3,.box 65 [.v (.func (.func 213) #[] #[])]),(4,.box 4 [vb false])]) rfl ?_
 refine ia h 119 7 8 14 _ [13,3,4] call119 (fun (():Unit)=>[(13,.glob (GL mx)),(3,.box 65 [.v (.func (.func 213) #[] #[])]),(4,.box 4 [.v (.bool false)])]) (fun (():Unit)=>[(13,.glob (GL mx)),(3,.box 65 [.v (.func (.func 213) #[] #[])]),(4,.box 4 [.v (.bool false)])]) (fun l J Y hY t t' h=>fp mx l J Y hY v1.1 v1.2.1 v1.2.2 t t' h) hn rfl (fun _=>rfl) (fun _=>rfl) (fun _=>rfl) rfl rfl (fun _=>⟨rfl,rfl⟩) rfl (gY 13 rfl) ?_ ?_ ?_
 rintro kk g0 hn hio x ⟨⟩ u h
 refine qo (es':=[(8,vs x),(13,.glob (GL mx)),(3,.box 65 [.v (.func (.func 213) #[] #[])]),(4,.box 4 [vb false]),(13,.v (kk.tm.getD 13 undef)),(3,.v (kk.tm.getD 3 undef)),(4,.v (kk.tm.getD 4 undef)),(14,.inv kk.ready)]) rfl ?_
 refine yy hn 1 [13,3,4,14,5,13,3,4] ?_
 refine ag [0,1,2,4,5,6,7,3] (by kernel_rfl) (es':=[(13,.glob (GL mx)),(3,.box 65 [.v (.func (.func 213) #[] #[])]),(4,.box 4 [vb false]),(5,vs x),(13,.v (kk.tm.getD 13 undef)),(3,.v (kk.tm.getD 3 undef)),(4,.v (kk.tm.getD 4 undef)),(14,.inv kk.ready)]) rfl ?_
 refine jt (es:=[(13,.glob (GL mx)),(3,.box 65 [.v (.func (.func 213) #[] #[])]),(4,.box 4 [vb false]),(5,vs x),(13,.v (kk.tm.getD 13 undef)),(3,.v (kk.tm.getD 3 undef)),(4,.v (kk.tm.getD 4 undef))]) 14 rfl ?_
 refine aC (ab ?_)
 obtain ⟨v2,hv2,h⟩:=zn h
 refine yx hn 2 ?_
 refine ys 1 ⟨lk call213 (uW _ _ hv2)⟩ ?_
 refine aV [13,3,4,14,12,13,3,4] ?_
 refine zc h rfl (fun h => ?_) (fun h => ?_)
 refine aG hn 1 [13,3,4,14,13,3,4] ?_
 refine aj (aE ?_)
 refine ag [0,1,2,4,5,6,3] (by kernel_rfl) (es':=[(_,_),(_,_),(_,_),(_,_),(_,_),(_,_),(_,_)]) rfl ?_
 obtain rfl:=zi h
 exact pq 14 [13,3,4] _ rfl rfl (by kernel_rfl)
 refine am (aI ?_)
 refine ag [0,1,2,5,6,7,3] (by kernel_rfl) (es':=[(_,_),(_,_),(_,_),(_,_),(_,_),(_,_),(_,_)]) rfl ?_
 obtain rfl:=zi h
 exact jB 14 [13,3,4] _ rfl rfl (by kernel_rfl)
 rintro D ⟨⟩ h
 refine aI (af ?_)
 refine aG hn 1 [13,4] ?_
 refine aj ?_
 refine ag [1] (by kernel_rfl) (es':=[(_,_)]) rfl ?_
 obtain rfl:=zi h
 exact al hio rfl (.cell1 _ _ _ _ underlying4 rfl .nil) rfl rfl
 rintro D ⟨⟩ h
 refine ag [2] (by kernel_rfl) (es':=[(_,_)]) rfl ?_
 refine aE (ai ?_)
 obtain rfl:=zi h
 exact al hio rfl (.cell1 _ _ _ _ underlying4 rfl .nil) rfl rfl
theorem nW (mx:Int×Nat×Value) (s:KK) (r:Bool) (h:Sh.kt s=some r):ir Tryz.prog (GL mx) 194 [.v (.string s)] (.v (.bool r)):=by
 unfold Sh.kt at h
 refine yG 10 func194 fun g0 hn hio => ?_
 refine aG hn 1 [0,10] ?_
 refine ab ?_
 refine ay h (fun (s2:Bool)=>[(10,.glob (GL mx)),(2,vb s2)]) ?_ ?_
 rintro s2 h
 refine af (aj ?_)
 refine ag [1] (by kernel_rfl) (es':=[(_,_)]) rfl ?_
 obtain rfl:=zi h
 exact al hio rfl (.tmp _ _ .nil) rfl rfl
 intro u3 h hl4 hr5
 refine ak h (fun hg1_3 h => ?_) (fun hg1_3 h => ?_)
 obtain ⟨v1,hv1,h⟩:=zn h
 refine yx hn 4 ?_
 refine yd hg1_3 1 ?_
 refine ys 2 ⟨lg call69 (jJ _ _ _ hv1) 10⟩ ?_
 refine ye [10,2] ?_
 exact hl4 _ (zi h).symm
 refine yx hn 4 ?_
 refine yd hg1_3 4 ?_
 refine ye [10,2] ?_
 exact hl4 _ (zi h).symm
theorem cA (mx:Int×Nat×Value) (p:T_Path) (r:Int) (h:Sh.dF p=some r):ir Tryz.prog (GL mx) 162 [.agg [.v (.bool p.Kx),.v (.string p.Ks),.v (.string p.Kg)]] (.v (.int .i64 r)):=by
 unfold Sh.dF at h
 refine yG 27 func162 fun g0 hn hio => ?_
 refine aG hn 2 [27,1] ?_
 refine gE hn 1 ?_
 refine yS (.agg [vb true,vs z0,vs z0]) 0 ⟨bn _ _ _ _ [1,1,1] _ _ underlying26 sB (Be _ underlying26) (.copy _ mz.nil) rfl rfl rfl⟩ ?_
 refine yS (vb ((p.Kx==true)&&((p.Ks.toList==z0.toList)&&((p.Kg.toList==z0.toList)&&true)))) 1 ⟨Bj _ _ [.bool p.Kx,.string p.Ks,.string p.Kg] [.bool true,.string z0,.string z0] (((p.Kx==true)&&((p.Ks.toList==z0.toList)&&((p.Kg.toList==z0.toList)&&true)))) _ false (by kernel_rfl) (by kernel_rfl) (by kernel_rfl) (by kernel_rfl) (by kernel_rfl) rfl rfl rfl rfl (by kernel_rfl) rfl⟩ ?_
 refine aV [27,1,3] ?_
 refine ab ?_
 refine ay h (fun (s3:Bool)=>[(27,.glob (GL mx)),(3,vb ((p.Kx==true)&&((p.Ks.toList==z0.toList)&&((p.Kg.toList==z0.toList)&&true)))),(4,vb s3)]) ?_ ?_
 rintro s3 h
 refine af (ab ?_)
 refine ab ?_
 refine ay h (fun (s7:Bool)=>[(27,.glob (GL mx)),(26,vb s7)]) ?_ ?_
 rintro s7 h
 refine af ?_
 refine zc h rfl (fun h => ?_) (fun h => ?_)
 refine aG hn 1 [27,2] ?_
 refine aj ?_
 refine ag [1] (by kernel_rfl) (es':=[(_,_)]) rfl ?_
 refine ai ?_
 obtain rfl:=zi h
 exact al hio rfl (.tmp _ _ .nil) rfl rfl
 refine am (af ?_)
 refine aG hn 1 [27,2] ?_
 refine aj ?_
 refine ag [1] (by kernel_rfl) (es':=[(_,_)]) rfl ?_
 obtain rfl:=zi h
 exact al hio rfl (.tmp _ _ .nil) rfl rfl
 intro u8 h hl9 hr10
 refine ak h (fun hg3_2 h => ?_) (fun hg3_2 h => ?_)
 refine yx hn 3 ?_
 refine yd hg3_2 3 ?_
 refine ye [27,26] ?_
 exact hl9 _ (zi h).symm
 refine yx hn 3 ?_
 refine yd hg3_2 3 ?_
 refine ye [27,26] ?_
 exact hl9 _ (zi h).symm
 intro u4 h hl5 hr6
 refine ak h (fun hg2_3 h => ?_) (fun hg2_3 h => ?_)
 obtain ⟨v1,hv1,h⟩:=zn h
 refine ak h (fun hg2_8 h => ?_) (fun hg2_8 h => ?_)
 obtain ⟨v2,hv2,h⟩:=zn h
 refine yx hn 4 ?_
 refine yd hg2_3 2 ?_
 refine ys 2 ⟨lg call194 (nW _ _ _ hv1) 27⟩ ?_
 refine yd hg2_8 2 ?_
 refine ys 2 ⟨lg call55 (bN _ _ _ hv2) 27⟩ ?_
 refine ye [27,3,4] ?_
 exact hl5 _ (zi h).symm
 refine yx hn 4 ?_
 refine yd hg2_3 2 ?_
 refine ys 2 ⟨lg call194 (nW _ _ _ hv1) 27⟩ ?_
 refine yd hg2_8 5 ?_
 refine ye [27,3,4] ?_
 exact hl5 _ (zi h).symm
 refine yx hn 4 ?_
 refine yd hg2_3 10 ?_
 refine ye [27,3,4] ?_
 exact hl5 _ (zi h).symm
theorem iF (mx:Int×Nat×Value) (m:aH) (r:Bool) (h:Sh.fR m=some r):ir Tryz.prog (GL mx) 201 [.agg [.v (.bool m.Kj.Kx),.v (.string m.Kj.Ks),.v (.string m.Kj.Kg),.fl .shr 3 (flatten (map T_Path.enc m.To)),.fl .shr 1 (map (int .u8) m.Kc),.v (.bool m.KE),.v (.string m.Kn),.v (.int .i64 m.At)]] (.v (.bool r)):=by
 unfold Sh.fR at h
 refine yG 36 func201 fun g0 hn hio => ?_
 refine aG hn 2 [36,1] ?_
 refine ab (ab ?_)
 refine ay h (fun (s2:Bool)=>[(36,.glob (GL mx)),(1,.box 53 (aH.c m [])),(20,vb s2)]) ?_ ?_
 rintro s2 h
 refine af ?_
 refine zc h rfl (fun h => ?_) (fun h => ?_)
 refine aG hn 1 [36,2] ?_
 refine aj ?_
 refine ag [1] (by kernel_rfl) (es':=[(_,_)]) rfl ?_
 refine ai ?_
 obtain rfl:=zi h
 exact al hio rfl (.tmp _ _ .nil) rfl rfl
 refine am ?_
 refine af (ab ?_)
 refine aG hn 4 [36,22,23,24] ?_
 refine aU h (fun (s24:Int)=>[(36,.glob (GL mx)),(22,.fl .shr 3 (flatten (map T_Path.enc m.To))),(23,vi (m.To.length:Int)),(24,vi s24)]) (fun (():Unit)=>[(36,.glob (GL mx))]) ?_ ?_
 rintro ⟨⟩ h
 refine af ?_
 refine aG hn 1 [36,2] ?_
 refine aj ?_
 refine ag [1] (by kernel_rfl) (es':=[(_,_)]) rfl ?_
 obtain rfl:=zi h
 exact al hio rfl (.tmp _ _ .nil) rfl rfl
 rintro u31 hl32 hr33 s24 rr36 h ho34
 refine aG hn 1 [36,22,23,24,25] ?_
 refine ab ?_
 refine zc h rfl (fun h => ?_) (fun h => ?_)
 refine am ?_
 refine af (ab ?_)
 refine aC (ab ?_)
 obtain ⟨v8,hv8,v9,hv9,h⟩:=eo h
 refine yx hn 0 ?_
 refine ys 0 ⟨lj hv8⟩ ?_
 refine yS (.agg [vb v9.Kx,vs v9.Ks,vs v9.Kg]) 0 ⟨iY _ _ _ _ _ _ _ underlying26 rfl sN rfl rfl (kf T_Path.len hv9) rfl (by decide)⟩ ?_
 refine yS (.box 26 [vb false,vs z0,vs z0]) 1 ⟨oA (aR _ _ sB)⟩ ?_
 refine aV [36,22,23,24,4] ?_
 refine ab ?_
 refine ay h (fun (s38:Bool)=>[(36,.glob (GL mx)),(22,.fl .shr 3 (flatten (map T_Path.enc m.To))),(23,vi (m.To.length:Int)),(24,vi s24),(34,vb s38)]) ?_ ?_
 rintro s38 h
 refine af ?_
 refine zc h rfl (fun h => ?_) (fun h => ?_)
 refine aG hn 1 [36,2] ?_
 refine aj ?_
 refine ag [1] (by kernel_rfl) (es':=[(_,_)]) rfl ?_
 refine aE (ai (ai (aE (ai ?_))))
 have h:=hr33 _ (ho34 _ (zi h).symm).symm
 obtain rfl:=zi h
 exact al hio rfl (.tmp _ _ .nil) rfl rfl
 refine am (aI (af ?_))
 obtain ⟨v16,hv16,h⟩:=zn h
 refine yx hn 0 ?_
 refine ys 0 ⟨lb hv16⟩ ?_
 refine yw [24] 1 ?_
 refine ye [36,22,23,24] ?_
 exact bc _ (zi h).symm rfl
 intro u39 h hl40 hr41
 obtain ⟨v10,hv10,h⟩:=zn h
 refine ak h (fun hg6_3 h => ?_) (fun hg6_3 h => ?_)
 refine yx hn 1 ?_
 refine ys 2 ⟨lg call162 (cA _ _ _ hv10) 36⟩ ?_
 refine yd hg6_3 3 ?_
 refine ye [36,22,23,24,34] ?_
 exact hl40 _ (zi h).symm
 refine yx hn 1 ?_
 refine ys 2 ⟨lg call162 (cA _ _ _ hv10) 36⟩ ?_
 refine yd hg6_3 3 ?_
 refine ye [36,22,23,24,34] ?_
 exact hl40 _ (zi h).symm
 refine bh (ar (ar (bb ?_)))
 refine ag [0] (by kernel_rfl) (es':=[(_,_)]) rfl ?_
 exact hl32 _ (ho34 _ (zi h).symm).symm
 intro u3 h hl4 hr5
 obtain ⟨v1,hv1,h⟩:=zn h
 refine ak h (fun hg1_4 h => ?_) (fun hg1_4 h => ?_)
 refine yx hn 2 ?_
 refine ys 2 ⟨lg call162 (cA _ _ _ hv1) 36⟩ ?_
 refine yd hg1_4 11 ?_
 refine ye [36,1,20] ?_
 exact hl4 _ (zi h).symm
 refine ak h (fun hg1_10 h => ?_) (fun hg1_10 h => ?_)
 refine yx hn 2 ?_
 refine ys 2 ⟨lg call162 (cA _ _ _ hv1) 36⟩ ?_
 refine yd hg1_4 6 ?_
 refine yd hg1_10 5 ?_
 refine ye [36,1,20] ?_
 exact hl4 _ (zi h).symm
 refine yx hn 2 ?_
 refine ys 2 ⟨lg call162 (cA _ _ _ hv1) 36⟩ ?_
 refine yd hg1_4 6 ?_
 refine yd hg1_10 5 ?_
 refine ye [36,1,20] ?_
 exact hl4 _ (zi h).symm
theorem er (mx:Int×Nat×Value) (m:aH) (r:Bool) (h:Sh.eF m=some r):ir Tryz.prog (GL mx) 178 [.agg [.v (.bool m.Kj.Kx),.v (.string m.Kj.Ks),.v (.string m.Kj.Kg),.fl .shr 3 (flatten (map T_Path.enc m.To)),.fl .shr 1 (map (int .u8) m.Kc),.v (.bool m.KE),.v (.string m.Kn),.v (.int .i64 m.At)]] (.v (.bool r)):=by
 unfold Sh.eF at h
 refine yG 17 func178 fun g0 hn hio => ?_
 refine aG hn 2 [17,1] ?_
 refine ab ?_
 refine ay h (fun (s3:Bool)=>[(17,.glob (GL mx)),(2,vb s3)]) ?_ ?_
 rintro s3 h
 refine af (aj ?_)
 refine ag [1] (by kernel_rfl) (es':=[(_,_)]) rfl ?_
 obtain rfl:=zi h
 exact al hio rfl (.tmp _ _ .nil) rfl rfl
 intro u4 h hl5 hr6
 obtain ⟨v1,hv1,h⟩:=zn h
 refine ak h (fun hg1_2 h => ?_) (fun hg1_2 h => ?_)
 refine ak h (fun hg1_8 h => ?_) (fun hg1_8 h => ?_)
 obtain ⟨v2,hv2,h⟩:=zn h
 refine yx hn 1 ?_
 refine ys 1 ⟨lg call201 (iF _ _ _ hv1) 17⟩ ?_
 refine yd hg1_2 6 ?_
 refine yd hg1_8 2 ?_
 refine ys 3 ⟨lg call95 (jp _ _ _ hv2) 17⟩ ?_
 refine ye [17,2] ?_
 exact hl5 _ (zi h).symm
 refine yx hn 1 ?_
 refine ys 1 ⟨lg call201 (iF _ _ _ hv1) 17⟩ ?_
 refine yd hg1_2 6 ?_
 refine yd hg1_8 6 ?_
 refine ye [17,2] ?_
 exact hl5 _ (zi h).symm
 refine yx hn 1 ?_
 refine ys 1 ⟨lg call201 (iF _ _ _ hv1) 17⟩ ?_
 refine yd hg1_2 12 ?_
 refine ye [17,2] ?_
 exact hl5 _ (zi h).symm
end Go.Proofs.YtjnnkhmhjcjhdaaGreatDoor
