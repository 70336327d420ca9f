import Derived.Test.YtjnnkhmhjcjhdaaGreatDoorOkc5
set_option linter.unusedVariables false
set_option linter.unusedSimpArgs false
set_option maxHeartbeats 1000000
namespace Go.Proofs.YtjnnkhmhjcjhdaaGreatDoor
open Go.Abs Go.Abs.Sh Tryz
open List (map flatten)
open Value (int)
theorem oi (mx:Int×Nat×Value) (kind:Int) (s:KK) (r:((List aq)×Bool)) (h:Sh.ff kind s=some r):ir Tryz.prog (GL mx) 159 [.v (.int .i64 kind),.v (.string s)] (.tup [.fl .ro 2 (flatten (map aq.enc r.1)),.v (.bool r.2)]):=by
 unfold Sh.ff at h
 refine yG 53 func159 fun g0 hn hio => ?_
 refine gE hn 1 ?_
 refine yS (.box 120 [vz]) 0 ⟨oA (aR _ _ EH)⟩ ?_
 refine yS (.box 4 [vb false]) 0 ⟨oA (aR _ _ Io)⟩ ?_
 refine aV [1,53,2,4,5] ?_
 refine gE hn 0 ?_
 refine yS (.box 120 [vz]) 0 ⟨oA (aR _ _ EH)⟩ ?_
 refine aV [1,53,2,4,5,6] ?_
 refine ab ?_
 refine aG hn 2 [1,53,2,4,5,6,15] ?_
 refine zc h rfl (fun h => ?_) (fun h => ?_)
 refine aG hn 3 [53,4,5] ?_
 refine aj ?_
 refine ag [1,2] (by kernel_rfl) (es':=[(_,_),(_,_)]) rfl ?_
 refine cm (fs:=[(4,.box 120 [.fl (.own 181) 2 (flatten (map aq.enc []))]),(5,.box 4 [vb true])]) (.box _ _ (ae (bI 181 2) (bj)) rfl (.same _ .nil)) ?_
 refine eV 0 hio (es':=[(4,.box 120 [.fl .ro 2 (flatten (map aq.enc []))]),(5,.box 4 [.v (.bool true)])]) rfl ?_
 refine ai ?_
 obtain rfl:=zi h
 exact al hio rfl (.cell1 _ _ _ _ underlying120 rfl (.cell1 _ _ _ _ underlying4 rfl .nil)) rfl rfl
 refine am ?_
 refine af (ab ?_)
 obtain ⟨v2,hv2,h⟩:=zn h
 refine yx hn 1 ?_
 refine ys 0 ⟨lk call184 (jz _ _ _ hv2)⟩ ?_
 refine ym 2 ?_
 refine yw [1] 2 ?_
 refine aV [53,2,4,5,6,1,7] ?_
 refine ab ?_
 refine aG hn 2 [53,2,4,5,6,1,23] ?_
 refine zc h rfl (fun h => ?_) (fun h => ?_)
 refine aG hn 2 [53,4,5] ?_
 refine aj ?_
 refine ag [1,2] (by kernel_rfl) (es':=[(_,_),(_,_)]) rfl ?_
 refine cm (fs:=[(4,.box 120 [.fl (.own 181) 2 (flatten (map aq.enc []))]),(5,.box 4 [vb false])]) (.box _ _ (ae (bI 181 2) (bj)) rfl (.same _ .nil)) ?_
 refine eV 0 hio (es':=[(4,.box 120 [.fl .ro 2 (flatten (map aq.enc []))]),(5,.box 4 [.v (.bool false)])]) rfl ?_
 refine ai ?_
 obtain rfl:=zi h
 exact al hio rfl (.cell1 _ _ _ _ underlying120 rfl (.cell1 _ _ _ _ underlying4 rfl .nil)) rfl rfl
 refine am ?_
 refine af (ab ?_)
 refine ab ?_
 obtain ⟨v4,hv4,h⟩:=zn h
 refine yx hn 1 ?_
 refine yk [] [24] ?_
 refine yt (25,.cloB 119 [.box 9 [vs v4.1],.box 9 [vs v4.2.1],.box 3 [vi v4.2.2]]) 0 ⟨gJ _ _ 80 _ _ rfl call80 rfl rfl (gw v2.1 (⟨#[32]⟩:KK) _ hv4) rfl⟩ ?_
 refine aV [53,2,4,5,6,25] ?_
 refine aC ?_
 refine jo [5,0,1,2,3,4] (by kernel_rfl) (es':=[(25,.cloB 119 [.box 9 [vs v4.1],.box 9 [vs v4.2.1],.box 3 [vi v4.2.2]]),(53,.glob (GL mx)),(2,.box 3 [vi kind]),(4,.box 120 [vz]),(5,.box 4 [vb false]),(6,.box 120 [vz])]) rfl ?_
 refine oJ (fs:=[(25,.cloB 119 [.box 9 [vs v4.1],.box 9 [vs v4.2.1],.box 3 [vi v4.2.2]]),(53,.glob (GL mx)),(2,.box 3 [vi kind]),(4,.box 120 [vz]),(5,.box 4 [vb false]),(6,.box 120 [.fl (.own 181) 2 (flatten (map aq.enc []))])]) (.same _ (.same _ (.same _ (.same _ (.same _ (.box _ _ (ae (bI 181 2) (bj)) rfl .nil)))))) ?_
 refine ia h 119 25 26 54 _ [53,2,4,5,6] call119 (fun (s46:(List aq))=>[(53,.glob (GL mx)),(2,.box 3 [.v (.int .i64 kind)]),(4,.box 120 [vz]),(5,.box 4 [.v (.bool false)]),(6,.box 120 [.fl (.own 181) 2 (flatten (map aq.enc s46))])]) (fun (s52:(List aq))=>[(53,.glob (GL mx)),(2,.box 3 [.v (.int .i64 kind)]),(4,.box 120 [vz]),(5,.box 4 [.v (.bool false)]),(6,.box 120 [.fl (.own 181) 2 (flatten (map aq.enc s52))])]) (fun l J Y hY t t' h=>fp mx l J Y hY v4.1 v4.2.1 v4.2.2 t t' h) hn rfl (fun _=>rfl) (fun _=>rfl) (fun _=>rfl) rfl rfl (fun _=>⟨rfl,rfl⟩) rfl (gY 53 rfl) ?_ ?_ ?_
 rintro kk g0 hn hio x s46 u h
 refine qo (es':=[(26,vs x),(53,.glob (GL mx)),(2,.box 3 [vi kind]),(4,.box 120 [vz]),(5,.box 4 [vb false]),(6,.box 120 [.fl (.own 181) 2 (flatten (map aq.enc s46))]),(53,.v (kk.tm.getD 53 undef)),(2,.v (kk.tm.getD 2 undef)),(4,.v (kk.tm.getD 4 undef)),(5,.v (kk.tm.getD 5 undef)),(6,.v (kk.tm.getD 6 undef)),(54,.inv kk.ready)]) rfl ?_
 refine yy hn 1 [53,2,4,5,6,54,8,53,2,4,5,6] ?_
 refine ag [0,1,2,3,4,6,7,8,9,10,11,5] (by kernel_rfl) (es':=[(53,.glob (GL mx)),(2,.box 3 [vi kind]),(4,.box 120 [vz]),(5,.box 4 [vb false]),(6,.box 120 [.fl (.own 181) 2 (flatten (map aq.enc s46))]),(8,vs x),(53,.v (kk.tm.getD 53 undef)),(2,.v (kk.tm.getD 2 undef)),(4,.v (kk.tm.getD 4 undef)),(5,.v (kk.tm.getD 5 undef)),(6,.v (kk.tm.getD 6 undef)),(54,.inv kk.ready)]) rfl ?_
 refine jt (es:=[(53,.glob (GL mx)),(2,.box 3 [vi kind]),(4,.box 120 [vz]),(5,.box 4 [vb false]),(6,.box 120 [.fl (.own 181) 2 (flatten (map aq.enc s46))]),(8,vs x),(53,.v (kk.tm.getD 53 undef)),(2,.v (kk.tm.getD 2 undef)),(4,.v (kk.tm.getD 4 undef)),(5,.v (kk.tm.getD 5 undef)),(6,.v (kk.tm.getD 6 undef))]) 54 rfl ?_
 refine aC (ab ?_)
 obtain ⟨v5,hv5,h⟩:=zn h
 refine yx hn 1 ?_
 refine ys 0 ⟨lk call134 (iO _ _ _ hv5)⟩ ?_
 refine ym 6 ?_
 refine aV [53,2,4,5,6,54,9,10,53,2,4,5,6] ?_
 refine ab ?_
 obtain ⟨v6,hv6,v7,hv7,h⟩:=eo h
 refine pc (by kernel_rfl) hn (El:=(_::_::_::_::_::_::_::_::_::_::_::_::_::(34,vi kind)::(35,vs v5.1)::(36,vs v6)::(37,vs v5.2.1)::(38,.tup [.agg [vs v7.1.Ko,vs v7.1.KJ],vb v7.2])::(33,.tup [.agg [vs v7.1.Ko,vs v7.1.KJ],.any])::(33,.tup [.any,vb v7.2])::(39,.agg [vs v7.1.Ko,vs v7.1.KJ])::(33,.tup [.any,.any])::(40,vb v7.2)::(12,.box 181 [vs z0,vs z0])::(12,.box 181 [vs v7.1.Ko,vs v7.1.KJ])::(13,vb v7.2)::[])) (init:=[0,1,2,3,4,5,6,7,8,9,10,11,12]) (fin:=[0,1,2,3,4,5,24,25,8,9,10,11,12]) (sps:=[zq [1] 13 34,zq [6] 14 35,zq [14] 15 36,zq [7] 16 37,zq [13,15,16] 17 38,⟨[],[17],[18,19],[(.slot 33)]⟩,⟨[],[18],[21,20],[(.slot 39)]⟩,zq [19] 22 40,zq [] 23 12,⟨[20],[23],[24],[.cell 12 0,.cell 12 1]⟩,zq [22] 25 13]) (es':=[(_,_),(_,_),(_,_),(_,_),(_,_),(_,_),(12,.box 181 [vs v7.1.Ko,vs v7.1.KJ]),(13,vb v7.2),(_,_),(_,_),(_,_),(_,_),(_,_)]) (by kernel_rfl) rfl rfl ⟨zp rfl (oL underlying3 rfl),z1 rfl,zp rfl (vq _ _ 71 _ _ rfl call71 rfl (dX v5.1 _ hv6) rfl rfl),z1 rfl,zp rfl (vq _ _ 186 _ _ rfl call186 rfl (po kind v6 v5.2.1 _ hv7) rfl rfl),zp rfl (aJ.split (A:=[]) 33 0 _ _ _ (iW _ _ _ _ rfl) (zl rfl) rfl rfl),zp rfl (gP _ _ _ _ _ rfl (zl rfl) rfl rfl (by decide) rfl),zp rfl (oE rfl),zp rfl (aR _ _ qp),zp rfl (oS pG rfl),z2 rfl,zz⟩ ?_
 refine af (ab ?_)
 refine ab ?_
 refine ay h (fun (s53:Bool)=>[(53,.glob (GL mx)),(2,.box 3 [vi kind]),(4,.box 120 [vz]),(5,.box 4 [vb false]),(6,.box 120 [.fl (.own 181) 2 (flatten (map aq.enc s46))]),(54,.inv kk.busy),(12,.box 181 [vs v7.1.Ko,vs v7.1.KJ]),(47,vb s53),(53,.v (kk.tm.getD 53 undef)),(2,.v (kk.tm.getD 2 undef)),(4,.v (kk.tm.getD 4 undef)),(5,.v (kk.tm.getD 5 undef)),(6,.v (kk.tm.getD 6 undef))]) ?_ ?_
 rintro s53 h
 refine af ?_
 refine zc h rfl (fun h => ?_) (fun h => ?_)
 refine aG hn 2 [53,2,4,5,6,54,53,2,4,5,6] ?_
 refine aj (ai (aE ?_))
 refine ag [0,1,2,3,4,6,7,8,9,10,5] (by kernel_rfl) (es':=[(_,_),(_,_),(_,_),(_,_),(_,_),(_,_),(_,_),(_,_),(_,_),(_,_),(_,_)]) rfl ?_
 obtain rfl:=zi h
 exact pq 54 [53,2,4,5,6] _ rfl rfl (by kernel_rfl)
 refine am (af ?_)
 obtain ⟨v14,hv14,h⟩:=zn h
 refine yx hn 2 ?_
 refine yS (.fl (.own 181) 2 (flatten (map aq.enc [v7.1]))) 0 ⟨bi _ _ 2 (.agg #[.string ByteArray.empty,.string ByteArray.empty]) (flatten (map aq.enc [v7.1])) [(0,.agg #[.string v7.1.Ko,.string v7.1.KJ])] underlying120 pG qp (fun _ V w o a hv hes=>by have e0:=EI (ys:=[.string v7.1.Ko,.string v7.1.KJ]) hv hes (x := .tmp 49) rfl; simp only [List.map_toArray,List.map_cons,List.map_nil,e0]; try rfl) (dn (by simp [Instr.fill,Value.cells]; rfl) (by simp [List.range,List.range.loop,aq.enc] <;> rfl)) (by simp [Value.oneCell',aq.enc]) rfl (by decide) (by decide) (by decide)⟩ ?_
 refine yk [6] [48,50] ?_
 refine nE (6,.box 120 [.any]) (51,.fl (.own 181) 2 (flatten (map aq.enc v14))) 0 ⟨ib _ _ _ _ _ _ HY rfl rfl (zl rfl) rfl (jT aq.len _) (jT aq.len _) hv14 (wv (jb hv14)) (Nat.ne_of_beq_eq_false rfl) rfl rfl⟩ ?_
 refine yw [48] 0 ?_
 refine yk [51,6] [] ?_
 refine yt (6,.box 120 [.fl (.own 181) 2 (flatten (map aq.enc v14))]) 0 ⟨aM _ _ _ _ _ _ _ _ HX rfl rfl rfl (zl rfl) rfl rfl⟩ ?_
 refine ye [53,2,4,5,6,54,53,2,4,5,6] ?_
 refine aI ?_
 refine ag [0,1,2,3,4,6,7,8,9,10,5] (by kernel_rfl) (es':=[(_,_),(_,_),(_,_),(_,_),(_,_),(_,_),(_,_),(_,_),(_,_),(_,_),(_,_)]) rfl ?_
 obtain rfl:=zi h
 exact jB 54 [53,2,4,5,6] _ rfl rfl (by kernel_rfl)
 intro u54 h hl55 hr56
 refine ak h (fun hg11_2 h => ?_) (fun hg11_2 h => ?_)
 refine yx hn 3 ?_
 refine yd hg11_2 4 ?_
 refine ye [53,2,4,5,6,54,12,47,53,2,4,5,6] ?_
 exact hl55 _ (zi h).symm
 obtain ⟨v8,hv8,h⟩:=zn h
 refine yx hn 3 ?_
 refine yd hg11_2 1 ?_
 refine yS (.clo 188 [12]) 0 ⟨lp _ _ _ 12 (by decide)⟩ ?_
 refine yS (vb v8) 1 ⟨BX _ 46 12 45 187 188 [.string v7.1.Ko,.string v7.1.KJ] [.tmp 44] _ _ rfl call187 rfl rfl rfl rfl (fun bx=>cz bx s46 v7.1 _ hv8) rfl rfl⟩ ?_
 refine ye [53,2,4,5,6,54,12,47,53,2,4,5,6] ?_
 exact hl55 _ (zi h).symm
 rintro D s46 h
 refine aI ?_
 refine af (ab ?_)
 refine ve 4 hio (es':=[(53,.glob (GL mx)),(2,.box 3 [.v (.int .i64 kind)]),(4,.box 120 [vz]),(5,.box 4 [.v (.bool false)]),(6,.box 120 [.fl .ro 2 (flatten (map aq.enc s46))])]) rfl ?_
 refine yy hn 3 [53,4,5] ?_
 refine af (aj ?_)
 refine ag [1,2] (by kernel_rfl) (es':=[(_,_),(_,_)]) rfl ?_
 obtain rfl:=zi h
 exact al hio rfl (.cell1 _ _ _ _ underlying120 rfl (.cell1 _ _ _ _ underlying4 rfl .nil)) rfl rfl
 rintro D s52 h
 refine ag [2,3] (by kernel_rfl) (es':=[(_,_),(_,_)]) rfl ?_
 refine cm (fs:=[(4,.box 120 [.fl (.own 181) 2 (flatten (map aq.enc []))]),(5,.box 4 [vb false])]) (.box _ _ (ae (bI 181 2) (bj)) rfl (.same _ .nil)) ?_
 refine eV 0 hio (es':=[(4,.box 120 [.fl .ro 2 (flatten (map aq.enc []))]),(5,.box 4 [.v (.bool false)])]) rfl ?_
 refine aE (ai ?_)
 obtain rfl:=zi h
 exact al hio rfl (.cell1 _ _ _ _ underlying120 rfl (.cell1 _ _ _ _ underlying4 rfl .nil)) rfl rfl
theorem nM (mx:Int×Nat×Value) (kind:Int) (line:KK) (r:(bf×Bool)) (h:Sh.eG kind line=some r):ir Tryz.prog (GL mx) 137 [.v (.int .i64 kind),.v (.string line)] (.tup [.agg [.v (.int .i64 r.1.Kq),.v (.string r.1.KH),.v (.bool r.1.KB.Kx),.v (.string r.1.KB.Ks),.v (.string r.1.KB.Kg),.fl .ro 2 (flatten (map aq.enc r.1.KA))],.v (.bool r.2)]):=by
 unfold Sh.eG at h
 refine yG 56 func137 fun g0 hn hio => ?_
 refine gE hn 0 ?_
 refine yS (.box 122 [vi 0,vs z0,vb false,vs z0,vs z0,vz]) 1 ⟨oA (aR _ _ lf)⟩ ?_
 refine aV [0,1,56,4] ?_
 refine ab ?_
 obtain ⟨v1,hv1,v2,hv2,h⟩:=eo h
 refine yx hn 2 ?_
 refine ys 0 ⟨lk call157 (qO _ _ hv1)⟩ ?_
 refine ys 0 ⟨lk call135 (mr _ _ _ hv2)⟩ ?_
 refine ym 4 ?_
 refine aV [0,56,4,6,7] ?_
 refine ab ?_
 refine aG hn 2 [0,56,4,6,20] ?_
 refine zc h rfl (fun h => ?_) (fun h => ?_)
 refine gE hn 0 ?_
 refine yS (.agg [vi 0,vs z0,vb false,vs z0,vs z0,vz]) 0 ⟨bn _ _ _ _ [1,1,3,1] _ _ underlying122 lf (rE _ underlying122) mz.nil rfl rfl rfl⟩ ?_
 refine yk [21,4] [] ?_
 refine yt (4,.box 122 [vi 0,vs z0,vb false,vs z0,vs z0,vz]) 1 ⟨cX _ _ _ 21 4 6 fO rfl rfl rfl rfl rfl (.eq _ (.eq _ (.eq _ (.eq _ (.eq _ (.eq _ (.nil _))))))) rfl⟩ ?_
 refine aV [56,4,5] ?_
 refine aj ?_
 refine ag [1,2] (by kernel_rfl) (es':=[(_,_),(_,_)]) rfl ?_
 refine cm (fs:=[(4,.box 122 [vi 0,vs z0,vb false,vs z0,vs z0,.fl (.own 181) 2 (flatten (map aq.enc []))]),(5,vb false)]) (.box _ _ (ae (ah _) (ae (ah _) (ae (ah _) (ae (ah _) (ae (ah _) (ae (bI 181 2) (bj))))))) rfl (.same _ .nil)) ?_
 refine eV 0 hio (es':=[(4,.box 122 [.v (.int .i64 0),.v (.string (⟨#[]⟩:KK)),.v (.bool false),.v (.string (⟨#[]⟩:KK)),.v (.string (⟨#[]⟩:KK)),.fl .ro 2 (flatten (map aq.enc []))]),(5,.v (.bool false))]) rfl ?_
 refine ai ?_
 obtain rfl:=zi h
 exact al hio rfl (.cellA _ _ _ _ underlying122 rfl fO (.tmp _ _ .nil)) rfl rfl
 refine am ?_
 refine af (ab ?_)
 obtain ⟨v4,hv4,v5,hv5,h⟩:=eo h
 refine yx hn 1 ?_
 refine ys 0 ⟨lk call121 (lG _ _ _ hv4)⟩ ?_
 refine ys 1 ⟨lb hv5⟩ ?_
 refine aV [0,56,4,6,8] ?_
 refine ab ?_
 obtain ⟨v6,hv6,v7,hv7,h⟩:=eo h
 refine yx hn 2 ?_
 refine yS (vs v6) 0 ⟨cW _ _ _ 0 v5 _ underlying9 rfl rfl ⟨_,rfl⟩ hv6⟩ ?_
 refine ys 0 ⟨lg call158 (tg _ _ _ hv7) 56⟩ ?_
 refine ym 0 ?_
 refine yS (.agg [vb v7.1.Kx,vs v7.1.Ks,vs v7.1.Kg]) 1 ⟨fj _ _ _ _ _ _ rfl rfl (zl rfl) rfl rfl⟩ ?_
 refine yS (.box 26 [vb false,vs z0,vs z0]) 2 ⟨oA (aR _ _ sB)⟩ ?_
 refine aV [0,56,4,6,8,9,10] ?_
 refine ab (ab ?_)
 refine ay h (fun (s16:Bool)=>[(0,vi kind),(56,.glob (GL mx)),(4,.box 122 [vi 0,vs z0,vb false,vs z0,vs z0,vz]),(6,vs v2.1),(8,vi v5),(9,.box 26 [vb v7.1.Kx,vs v7.1.Ks,vs v7.1.Kg]),(41,vb s16)]) ?_ ?_
 rintro s16 h
 refine af ?_
 refine zc h rfl (fun h => ?_) (fun h => ?_)
 refine gE hn 0 ?_
 refine yS (.agg [vi 0,vs z0,vb false,vs z0,vs z0,vz]) 0 ⟨bn _ _ _ _ [1,1,3,1] _ _ underlying122 lf (rE _ underlying122) mz.nil rfl rfl rfl⟩ ?_
 refine yk [42,4] [] ?_
 refine yt (4,.box 122 [vi 0,vs z0,vb false,vs z0,vs z0,vz]) 1 ⟨cX _ _ _ 42 4 6 fO rfl rfl rfl rfl rfl (.eq _ (.eq _ (.eq _ (.eq _ (.eq _ (.eq _ (.nil _))))))) rfl⟩ ?_
 refine aV [56,4,5] ?_
 refine aj ?_
 refine ag [1,2] (by kernel_rfl) (es':=[(_,_),(_,_)]) rfl ?_
 refine cm (fs:=[(4,.box 122 [vi 0,vs z0,vb false,vs z0,vs z0,.fl (.own 181) 2 (flatten (map aq.enc []))]),(5,vb false)]) (.box _ _ (ae (ah _) (ae (ah _) (ae (ah _) (ae (ah _) (ae (ah _) (ae (bI 181 2) (bj))))))) rfl (.same _ .nil)) ?_
 refine eV 0 hio (es':=[(4,.box 122 [.v (.int .i64 0),.v (.string (⟨#[]⟩:KK)),.v (.bool false),.v (.string (⟨#[]⟩:KK)),.v (.string (⟨#[]⟩:KK)),.fl .ro 2 (flatten (map aq.enc []))]),(5,.v (.bool false))]) rfl ?_
 refine ai ?_
 obtain rfl:=zi h
 exact al hio rfl (.cellA _ _ _ _ underlying122 rfl fO (.tmp _ _ .nil)) rfl rfl
 refine am ?_
 refine af (ab ?_)
 obtain ⟨v13,hv13,v14,hv14,h⟩:=eo h
 refine yx hn 3 ?_
 refine yS (vs v13) 0 ⟨cW _ _ _ v5 (v2.1.size:Int) _ underlying9 rfl ⟨_,rfl⟩ rfl hv13⟩ ?_
 refine ys 0 ⟨lg call159 (oi _ _ _ _ hv14) 56⟩ ?_
 refine ym 4 ?_
 refine aV [0,56,4,9,11,7] ?_
 refine gE hn 3 ?_
 refine yS (.agg [vi kind,vs z0,vb v7.1.Kx,vs v7.1.Ks,vs v7.1.Kg,.fl .ro 2 (flatten (map aq.enc v14.1))]) 3 ⟨bn _ _ _ _ [1,1,3,1] _ _ underlying122 lf (rE _ underlying122) (.copy _ (.copy _ (.copy _ mz.nil))) rfl rfl rfl⟩ ?_
 refine aV [56,4,5] ?_
 refine aj ?_
 refine ag [1,2] (by kernel_rfl) (es':=[(_,_),(_,_)]) rfl ?_
 obtain rfl:=zi h
 exact al hio rfl (.cellA _ _ _ _ underlying122 rfl fO (.tmp _ _ .nil)) rfl rfl
 intro u17 h hl18 hr19
 refine ak h (fun hg6_2 h => ?_) (fun hg6_2 h => ?_)
 refine yx hn 3 ?_
 refine yd hg6_2 7 ?_
 refine ye [0,56,4,6,8,9,41] ?_
 exact hl18 _ (zi h).symm
 refine ak h (fun hg6_5 h => ?_) (fun hg6_5 h => ?_)
 refine yx hn 3 ?_
 refine yd hg6_2 3 ?_
 refine yd hg6_5 4 ?_
 refine ye [0,56,4,6,8,9,41] ?_
 exact hl18 _ (zi h).symm
 refine yx hn 3 ?_
 refine yd hg6_2 3 ?_
 refine yd hg6_5 4 ?_
 refine ye [0,56,4,6,8,9,41] ?_
 exact hl18 _ (zi h).symm
theorem qF (mx:Int×Nat×Value) (line:KK) (r:(bf×Bool)) (h:Sh.iK line=some r):ir Tryz.prog (GL mx) 111 [.v (.string line)] (.tup [.agg [.v (.int .i64 r.1.Kq),.v (.string r.1.KH),.v (.bool r.1.KB.Kx),.v (.string r.1.KB.Ks),.v (.string r.1.KB.Kg),.fl .ro 2 (flatten (map aq.enc r.1.KA))],.v (.bool r.2)]):=by
 unfold Sh.iK at h
 refine yG 65 func111 fun g0 hn hio => ?_
 refine gE hn 0 ?_
 refine yS (.box 122 [vi 0,vs z0,vb false,vs z0,vs z0,vz]) 1 ⟨oA (aR _ _ lf)⟩ ?_
 refine aV [0,65,2] ?_
 refine ab ?_
 obtain ⟨v1,hv1,h⟩:=zn h
 refine yx hn 1 ?_
 refine ys 0 ⟨lk call134 (iO _ _ _ hv1)⟩ ?_
 refine ym 6 ?_
 refine aV [0,65,2,5,6] ?_
 refine ab ?_
 obtain ⟨v2,hv2,h⟩:=zn h
 refine yx hn 1 ?_
 refine ys 0 ⟨lk call109 (nj _ _ hv2)⟩ ?_
 refine yS (.agg [vi v2,vs z0,vb false,vs z0,vs z0,vz]) 0 ⟨bn _ _ _ _ [1,1,3,1] _ _ underlying122 lf (rE _ underlying122) (.copy _ mz.nil) rfl rfl rfl⟩ ?_
 refine yS (.box 122 [vi 0,vs z0,vb false,vs z0,vs z0,vz]) 1 ⟨oA (aR _ _ lf)⟩ ?_
 refine aV [0,65,2,5,6,7] ?_
 refine ab ?_
 refine aG hn 2 [0,65,2,5,6,7,18] ?_
 refine aC (ab ?_)
 refine ay h (fun (s30:Bool)=>[(0,vs line),(65,.glob (GL mx)),(2,.box 122 [vi 0,vs z0,vb false,vs z0,vs z0,vz]),(5,vs v1.2.1),(6,vb v1.2.2),(7,.box 122 [vi v2,vs z0,vb false,vs z0,vs z0,vz]),(18,vi v2),(19,vb s30)]) ?_ ?_
 rintro s30 h
 refine af ?_
 refine zc h rfl (fun h => ?_) (fun h => ?_)
 refine ab ?_
 obtain ⟨v10,hv10,h⟩:=zn h
 refine yx hn 3 ?_
 refine ys 0 ⟨lg call137 (nM _ _ _ _ hv10) 65⟩ ?_
 refine yS (.agg [vi v10.1.Kq,vs v10.1.KH,vb v10.1.KB.Kx,vs v10.1.KB.Ks,vs v10.1.KB.Kg,.fl .ro 2 (flatten (map aq.enc v10.1.KA))]) 3 ⟨fj _ _ _ _ _ _ rfl rfl (zl rfl) rfl rfl⟩ ?_
 refine aV [65,2,3] ?_
 refine aj ?_
 refine ag [1,2] (by kernel_rfl) (es':=[(_,_),(_,_)]) rfl ?_
 refine aE (ai ?_)
 obtain rfl:=zi h
 exact al hio rfl (.cellA _ _ _ _ underlying122 rfl fO (.tmp _ _ .nil)) rfl rfl
 refine ab ?_
 refine ay h (fun (s37:Bool)=>[(65,.glob (GL mx)),(2,.box 122 [vi 0,vs z0,vb false,vs z0,vs z0,vz]),(5,vs v1.2.1),(6,vb v1.2.2),(7,.box 122 [vi v2,vs z0,vb false,vs z0,vs z0,vz]),(18,vi v2),(28,vb s37)]) ?_ ?_
 rintro s37 h
 refine af ?_
 refine zc h rfl (fun h => ?_) (fun h => ?_)
 refine aG hn 3 [65,2,5,7] ?_
 refine ab ?_
 obtain ⟨v18,hv18,h⟩:=zn h
 refine wb [[7],[5]] ?_
 refine wN [34,65] ?_
 refine wo [] ⟨lg call55 (bN _ _ _ hv18) 65⟩ ?_
 refine wK [2] [33] ?_
 refine wt [(2,.box 122 [vi v2,vs v1.2.1,vb false,vs z0,vs z0,vz])] [[35]] ⟨dD _ _ _ _ _ _ _ _ fO rfl rfl rfl rfl (zl rfl) rfl rfl⟩ ?_
 refine sF hn [65,2,3] ?_
 refine aj ?_
 refine ag [1,2] (by kernel_rfl) (es':=[(_,_),(_,_)]) rfl ?_
 refine cm (fs:=[(2,.box 122 [vi v2,vs v1.2.1,vb false,vs z0,vs z0,.fl (.own 181) 2 (flatten (map aq.enc []))]),(3,vb v18)]) (.box _ _ (ae (ah _) (ae (ah _) (ae (ah _) (ae (ah _) (ae (ah _) (ae (bI 181 2) (bj))))))) rfl (.same _ .nil)) ?_
 refine eV 0 hio (es':=[(2,.box 122 [.v (.int .i64 v2),.v (.string v1.2.1),.v (.bool false),.v (.string (⟨#[]⟩:KK)),.v (.string (⟨#[]⟩:KK)),.fl .ro 2 (flatten (map aq.enc []))]),(3,.v (.bool v18))]) rfl ?_
 refine aE (ai ?_)
 obtain rfl:=zi h
 exact al hio rfl (.cellA _ _ _ _ underlying122 rfl fO (.tmp _ _ .nil)) rfl rfl
 refine aG hn 2 [65,2,5,6,7,18,36] ?_
 refine zc h rfl (fun h => ?_) (fun h => ?_)
 refine aG hn 3 [65,2,5,7] ?_
 refine aG hn 5 [65,2,3] ?_
 refine aj ?_
 refine ag [1,2] (by kernel_rfl) (es':=[(_,_),(_,_)]) rfl ?_
 refine cm (fs:=[(2,.box 122 [vi v2,vs v1.2.1,vb false,vs z0,vs z0,.fl (.own 181) 2 (flatten (map aq.enc []))]),(3,vb (!(v1.2.1.toList==z0.toList)))]) (.box _ _ (ae (ah _) (ae (ah _) (ae (ah _) (ae (ah _) (ae (ah _) (ae (bI 181 2) (bj))))))) rfl (.same _ .nil)) ?_
 refine eV 0 hio (es':=[(2,.box 122 [.v (.int .i64 v2),.v (.string v1.2.1),.v (.bool false),.v (.string (⟨#[]⟩:KK)),.v (.string (⟨#[]⟩:KK)),.fl .ro 2 (flatten (map aq.enc []))]),(3,.v (.bool ((!(v1.2.1.toList==(⟨#[]⟩:KK).toList)))))]) rfl ?_
 refine aE (ai ?_)
 obtain rfl:=zi h
 exact al hio rfl (.cellA _ _ _ _ underlying122 rfl fO (.tmp _ _ .nil)) rfl rfl
 refine aG hn 2 [65,2,5,6,7,18,43] ?_
 refine zc h rfl (fun h => ?_) (fun h => ?_)
 refine aG hn 3 [65,2,5,6,7] ?_
 refine ab ?_
 refine ay h (fun (s45:Bool)=>[(65,.glob (GL mx)),(2,.box 122 [vi v2,vs v1.2.1,vb false,vs z0,vs z0,vz]),(3,vb s45)]) ?_ ?_
 rintro s45 h
 refine af (aj ?_)
 refine ag [1,2] (by kernel_rfl) (es':=[(_,_),(_,_)]) rfl ?_
 refine cm (fs:=[(2,.box 122 [vi v2,vs v1.2.1,vb false,vs z0,vs z0,.fl (.own 181) 2 (flatten (map aq.enc []))]),(3,vb s45)]) (.box _ _ (ae (ah _) (ae (ah _) (ae (ah _) (ae (ah _) (ae (ah _) (ae (bI 181 2) (bj))))))) rfl (.same _ .nil)) ?_
 refine eV 0 hio (es':=[(2,.box 122 [.v (.int .i64 v2),.v (.string v1.2.1),.v (.bool false),.v (.string (⟨#[]⟩:KK)),.v (.string (⟨#[]⟩:KK)),.fl .ro 2 (flatten (map aq.enc []))]),(3,.v (.bool s45))]) rfl ?_
 refine aE (ai ?_)
 obtain rfl:=zi h
 exact al hio rfl (.cellA _ _ _ _ underlying122 rfl fO (.tmp _ _ .nil)) rfl rfl
 intro u46 h hl47 hr48
 refine ak h (fun hg16_3 h => ?_) (fun hg16_3 h => ?_)
 refine wb [[7],[6],[48],[49]] ?_
 refine wd hg16_3 [[50],[50],[50]] ?_
 refine wK [2] [47] ?_
 refine wt [(2,.box 122 [vi v2,vs v1.2.1,vb false,vs z0,vs z0,vz])] [[53]] ⟨dD _ _ _ _ _ _ _ _ fO rfl rfl rfl rfl (zl rfl) rfl rfl⟩ ?_
 refine we hn [65,2,3] ?_
 exact hl47 _ (zi h).symm
 obtain ⟨v21,hv21,h⟩:=zn h
 refine wb [[7],[6],[48],[49]] ?_
 refine wd hg16_3 [[50,5]] ?_
 refine wN [50,51,65] ?_
 refine wo [[50,52]] ⟨lg call55 (bN _ _ _ hv21) 65⟩ ?_
 refine wK [2] [47] ?_
 refine wt [(2,.box 122 [vi v2,vs v1.2.1,vb false,vs z0,vs z0,vz])] [[53]] ⟨dD _ _ _ _ _ _ _ _ fO rfl rfl rfl rfl (zl rfl) rfl rfl⟩ ?_
 refine we hn [65,2,3] ?_
 exact hl47 _ (zi h).symm
 refine aG hn 2 [65,2,5,6,7,18,54] ?_
 refine zc h rfl (fun h => ?_) (fun h => ?_)
 refine ab ?_
 obtain ⟨v27,hv27,h⟩:=zn h
 refine wb [[7],[5]] ?_
 refine wN [57] ?_
 refine wo [] ⟨lk call136 (fu _ _ _ hv27)⟩ ?_
 refine wK [2] [56] ?_
 refine wt [(2,.box 122 [vi v2,vs z0,vb false,vs z0,vs z0,vz])] [[58]] ⟨dD _ _ _ _ _ _ _ _ fO rfl rfl rfl rfl (zl rfl) rfl rfl⟩ ?_
 refine sF hn [65,2,3] ?_
 refine aj ?_
 refine ag [1,2] (by kernel_rfl) (es':=[(_,_),(_,_)]) rfl ?_
 refine cm (fs:=[(2,.box 122 [vi v2,vs z0,vb false,vs z0,vs z0,.fl (.own 181) 2 (flatten (map aq.enc []))]),(3,vb v27)]) (.box _ _ (ae (ah _) (ae (ah _) (ae (ah _) (ae (ah _) (ae (ah _) (ae (bI 181 2) (bj))))))) rfl (.same _ .nil)) ?_
 refine eV 0 hio (es':=[(2,.box 122 [.v (.int .i64 v2),.v (.string (⟨#[]⟩:KK)),.v (.bool false),.v (.string (⟨#[]⟩:KK)),.v (.string (⟨#[]⟩:KK)),.fl .ro 2 (flatten (map aq.enc []))]),(3,.v (.bool v27))]) rfl ?_
 refine aE (ai ?_)
 obtain rfl:=zi h
 exact al hio rfl (.cellA _ _ _ _ underlying122 rfl fO (.tmp _ _ .nil)) rfl rfl
 refine aG hn 2 [65,2,6,7,59] ?_
 refine zc h rfl (fun h => ?_) (fun h => ?_)
 refine aG hn 3 [65,2,3] ?_
 refine aj ?_
 refine ag [1,2] (by kernel_rfl) (es':=[(_,_),(_,_)]) rfl ?_
 refine cm (fs:=[(2,.box 122 [vi v2,vs z0,vb false,vs z0,vs z0,.fl (.own 181) 2 (flatten (map aq.enc []))]),(3,vb true)]) (.box _ _ (ae (ah _) (ae (ah _) (ae (ah _) (ae (ah _) (ae (ah _) (ae (bI 181 2) (bj))))))) rfl (.same _ .nil)) ?_
 refine eV 0 hio (es':=[(2,.box 122 [.v (.int .i64 v2),.v (.string (⟨#[]⟩:KK)),.v (.bool false),.v (.string (⟨#[]⟩:KK)),.v (.string (⟨#[]⟩:KK)),.fl .ro 2 (flatten (map aq.enc []))]),(3,.v (.bool true))]) rfl ?_
 refine aE (ai ?_)
 obtain rfl:=zi h
 exact al hio rfl (.cellA _ _ _ _ underlying122 rfl fO (.tmp _ _ .nil)) rfl rfl
 refine am (aI (af ?_))
 refine aG hn 5 [65,2,3] ?_
 refine aj ?_
 refine ag [1,2] (by kernel_rfl) (es':=[(_,_),(_,_)]) rfl ?_
 refine cm (fs:=[(2,.box 122 [vi v2,vs z0,vb false,vs z0,vs z0,.fl (.own 181) 2 (flatten (map aq.enc []))]),(3,vb (!v1.2.2))]) (.box _ _ (ae (ah _) (ae (ah _) (ae (ah _) (ae (ah _) (ae (ah _) (ae (bI 181 2) (bj))))))) rfl (.same _ .nil)) ?_
 refine eV 0 hio (es':=[(2,.box 122 [.v (.int .i64 v2),.v (.string (⟨#[]⟩:KK)),.v (.bool false),.v (.string (⟨#[]⟩:KK)),.v (.string (⟨#[]⟩:KK)),.fl .ro 2 (flatten (map aq.enc []))]),(3,.v (.bool (!v1.2.2)))]) rfl ?_
 obtain rfl:=zi h
 exact al hio rfl (.cellA _ _ _ _ underlying122 rfl fO (.tmp _ _ .nil)) rfl rfl
 intro u38 h hl39 hr40
 refine aG hn 2 [65,2,5,6,7,18,28] ?_
 refine zc h rfl (fun h => ?_) (fun h => ?_)
 refine am ?_
 exact hl39 _ (zi h).symm
 refine yx hn 1 ?_
 refine yw [28] 1 ?_
 refine ye [65,2,5,6,7,18,28] ?_
 exact hl39 _ (zi h).symm
 intro u31 h hl32 hr33
 refine aG hn 2 [0,65,2,5,6,7,18,19] ?_
 refine zc h rfl (fun h => ?_) (fun h => ?_)
 refine am ?_
 exact hl32 _ (zi h).symm
 refine yx hn 1 ?_
 refine yw [19] 1 ?_
 refine ye [0,65,2,5,6,7,18,19] ?_
 exact hl32 _ (zi h).symm
theorem tc (mx:Int×Nat×Value) (line:KK) (r:(bf×Int)) (h:Sh.kb line=some r):ir Tryz.prog (GL mx) 91 [.v (.string line)] (.tup [.agg [.v (.int .i64 r.1.Kq),.v (.string r.1.KH),.v (.bool r.1.KB.Kx),.v (.string r.1.KB.Ks),.v (.string r.1.KB.Kg),.fl .ro 2 (flatten (map aq.enc r.1.KA))],.v (.int .i64 r.2)]):=by
 unfold Sh.kb at h
 refine yG 32 func91 fun g0 hn hio => ?_
 refine gE hn 0 ?_
 refine yS (.box 122 [vi 0,vs z0,vb false,vs z0,vs z0,vz]) 1 ⟨oA (aR _ _ lf)⟩ ?_
 refine aV [0,32,2] ?_
 refine ab (ab ?_)
 refine ay h (fun (s12:Bool)=>[(0,vs line),(32,.glob (GL mx)),(2,.box 122 [vi 0,vs z0,vb false,vs z0,vs z0,vz]),(18,vb s12)]) ?_ ?_
 rintro s12 h
 refine af ?_
 refine zc h rfl (fun h => ?_) (fun h => ?_)
 refine gE hn 0 ?_
 refine yS (.agg [vi 0,vs z0,vb false,vs z0,vs z0,vz]) 0 ⟨bn _ _ _ _ [1,1,3,1] _ _ underlying122 lf (rE _ underlying122) mz.nil rfl rfl rfl⟩ ?_
 refine yk [19,2] [] ?_
 refine yt (2,.box 122 [vi 0,vs z0,vb false,vs z0,vs z0,vz]) 1 ⟨cX _ _ _ 19 2 6 fO rfl rfl rfl rfl rfl (.eq _ (.eq _ (.eq _ (.eq _ (.eq _ (.eq _ (.nil _))))))) rfl⟩ ?_
 refine aV [32,2,3] ?_
 refine aj ?_
 refine ag [1,2] (by kernel_rfl) (es':=[(_,_),(_,_)]) rfl ?_
 refine cm (fs:=[(2,.box 122 [vi 0,vs z0,vb false,vs z0,vs z0,.fl (.own 181) 2 (flatten (map aq.enc []))]),(3,vi 500)]) (.box _ _ (ae (ah _) (ae (ah _) (ae (ah _) (ae (ah _) (ae (ah _) (ae (bI 181 2) (bj))))))) rfl (.same _ .nil)) ?_
 refine eV 0 hio (es':=[(2,.box 122 [.v (.int .i64 0),.v (.string (⟨#[]⟩:KK)),.v (.bool false),.v (.string (⟨#[]⟩:KK)),.v (.string (⟨#[]⟩:KK)),.fl .ro 2 (flatten (map aq.enc []))]),(3,.v (.int .i64 500))]) rfl ?_
 refine ai ?_
 obtain rfl:=zi h
 exact al hio rfl (.cellA _ _ _ _ underlying122 rfl fO (.tmp _ _ .nil)) rfl rfl
 refine am ?_
 refine af (ab ?_)
 refine ab ?_
 obtain ⟨v8,hv8,h⟩:=zn h
 refine yx hn 1 ?_
 refine ys 0 ⟨lg call110 (ml _ _ _ hv8) 32⟩ ?_
 refine aV [0,32,2,21] ?_
 refine zc h rfl (fun h => ?_) (fun h => ?_)
 refine gE hn 0 ?_
 refine yS (.agg [vi 0,vs z0,vb false,vs z0,vs z0,vz]) 0 ⟨bn _ _ _ _ [1,1,3,1] _ _ underlying122 lf (rE _ underlying122) mz.nil rfl rfl rfl⟩ ?_
 refine yk [22,2] [] ?_
 refine yt (2,.box 122 [vi 0,vs z0,vb false,vs z0,vs z0,vz]) 1 ⟨cX _ _ _ 22 2 6 fO rfl rfl rfl rfl rfl (.eq _ (.eq _ (.eq _ (.eq _ (.eq _ (.eq _ (.nil _))))))) rfl⟩ ?_
 refine aV [32,2,3] ?_
 refine aj ?_
 refine ag [1,2] (by kernel_rfl) (es':=[(_,_),(_,_)]) rfl ?_
 refine cm (fs:=[(2,.box 122 [vi 0,vs z0,vb false,vs z0,vs z0,.fl (.own 181) 2 (flatten (map aq.enc []))]),(3,vi 504)]) (.box _ _ (ae (ah _) (ae (ah _) (ae (ah _) (ae (ah _) (ae (ah _) (ae (bI 181 2) (bj))))))) rfl (.same _ .nil)) ?_
 refine eV 0 hio (es':=[(2,.box 122 [.v (.int .i64 0),.v (.string (⟨#[]⟩:KK)),.v (.bool false),.v (.string (⟨#[]⟩:KK)),.v (.string (⟨#[]⟩:KK)),.fl .ro 2 (flatten (map aq.enc []))]),(3,.v (.int .i64 504))]) rfl ?_
 refine ai ?_
 obtain rfl:=zi h
 exact al hio rfl (.cellA _ _ _ _ underlying122 rfl fO (.tmp _ _ .nil)) rfl rfl
 refine am ?_
 refine af (ab ?_)
 obtain ⟨v10,hv10,h⟩:=zn h
 refine yx hn 1 ?_
 refine ys 0 ⟨lg call111 (qF _ _ _ hv10) 32⟩ ?_
 refine ym 0 ?_
 refine yS (.agg [vi v10.1.Kq,vs v10.1.KH,vb v10.1.KB.Kx,vs v10.1.KB.Ks,vs v10.1.KB.Kg,.fl .ro 2 (flatten (map aq.enc v10.1.KA))]) 1 ⟨fj _ _ _ _ _ _ rfl rfl (zl rfl) rfl rfl⟩ ?_
 refine yS (.box 122 [vi 0,vs z0,vb false,vs z0,vs z0,vz]) 2 ⟨oA (aR _ _ lf)⟩ ?_
 refine aV [32,2,4,5] ?_
 refine ab ?_
 refine aG hn 2 [32,2,4,29] ?_
 refine zc h rfl (fun h => ?_) (fun h => ?_)
 refine gE hn 0 ?_
 refine yS (.agg [vi 0,vs z0,vb false,vs z0,vs z0,vz]) 0 ⟨bn _ _ _ _ [1,1,3,1] _ _ underlying122 lf (rE _ underlying122) mz.nil rfl rfl rfl⟩ ?_
 refine yk [30,2] [] ?_
 refine yt (2,.box 122 [vi 0,vs z0,vb false,vs z0,vs z0,vz]) 1 ⟨cX _ _ _ 30 2 6 fO rfl rfl rfl rfl rfl (.eq _ (.eq _ (.eq _ (.eq _ (.eq _ (.eq _ (.nil _))))))) rfl⟩ ?_
 refine aV [32,2,3] ?_
 refine aj ?_
 refine ag [1,2] (by kernel_rfl) (es':=[(_,_),(_,_)]) rfl ?_
 refine cm (fs:=[(2,.box 122 [vi 0,vs z0,vb false,vs z0,vs z0,.fl (.own 181) 2 (flatten (map aq.enc []))]),(3,vi 501)]) (.box _ _ (ae (ah _) (ae (ah _) (ae (ah _) (ae (ah _) (ae (ah _) (ae (bI 181 2) (bj))))))) rfl (.same _ .nil)) ?_
 refine eV 0 hio (es':=[(2,.box 122 [.v (.int .i64 0),.v (.string (⟨#[]⟩:KK)),.v (.bool false),.v (.string (⟨#[]⟩:KK)),.v (.string (⟨#[]⟩:KK)),.fl .ro 2 (flatten (map aq.enc []))]),(3,.v (.int .i64 501))]) rfl ?_
 refine ai ?_
 obtain rfl:=zi h
 exact al hio rfl (.cellA _ _ _ _ underlying122 rfl fO (.tmp _ _ .nil)) rfl rfl
 refine am (af ?_)
 refine aG hn 3 [32,2,3] ?_
 refine aj ?_
 refine ag [1,2] (by kernel_rfl) (es':=[(_,_),(_,_)]) rfl ?_
 obtain rfl:=zi h
 exact al hio rfl (.cellA _ _ _ _ underlying122 rfl fO (.tmp _ _ .nil)) rfl rfl
 intro u13 h hl14 hr15
 refine ak h (fun hg1_3 h => ?_) (fun hg1_3 h => ?_)
 refine yx hn 4 ?_
 refine yd hg1_3 9 ?_
 refine ye [0,32,2,18] ?_
 exact hl14 _ (zi h).symm
 obtain ⟨v1,hv1,h⟩:=zn h
 refine ak h (fun hg1_8 h => ?_) (fun hg1_8 h => ?_)
 refine yx hn 4 ?_
 refine yd hg1_3 1 ?_
 refine ys 3 ⟨lk call108 (kH _ _ hv1)⟩ ?_
 refine yd hg1_8 4 ?_
 refine ye [0,32,2,18] ?_
 exact hl14 _ (zi h).symm
 obtain ⟨v2,hv2,h⟩:=zn h
 refine yx hn 4 ?_
 refine yd hg1_3 1 ?_
 refine ys 3 ⟨lk call108 (kH _ _ hv1)⟩ ?_
 refine yd hg1_8 1 ?_
 refine ys 2 ⟨lk call109 (nj _ _ hv2)⟩ ?_
 refine ye [0,32,2,18] ?_
 exact hl14 _ (zi h).symm
theorem nU (c:bf) (key:KK) (r:(KK×Bool)) (h:Sh.je c key=some r):bM Tryz.prog 138 [.agg [.v (.int .i64 c.Kq),.v (.string c.KH),.v (.bool c.KB.Kx),.v (.string c.KB.Ks),.v (.string c.KB.Kg),.fl .shr 2 (flatten (map aq.enc c.KA))],.v (.string key)] (.tup [.v (.string r.1),.v (.bool r.2)]):=by
 unfold Sh.je at h
 refine yO 22 func138 fun g0 hn hio => ?_
 refine aG hn 3 [1,2] ?_
 refine ab ?_
 refine aG hn 4 [1,9,10,11] ?_
 refine aU h (fun (s9:Int)=>[(1,vs key),(9,.fl .shr 2 (flatten (map aq.enc c.KA))),(10,vi (c.KA.length:Int)),(11,vi s9)]) (fun (():Unit)=>[]) ?_ ?_
 rintro ⟨⟩ h
 refine af ?_
 refine aG hn 2 [4,5] ?_
 refine aj ?_
 obtain rfl:=zi h
 exact al hio rfl (.tmp _ _ (.tmp _ _ .nil)) rfl rfl
 rintro u12 hl13 hr14 s9 rr17 h ho15
 refine aG hn 1 [1,9,10,11,12] ?_
 refine ab ?_
 refine zc h rfl (fun h => ?_) (fun h => ?_)
 refine am ?_
 refine af (ab ?_)
 refine aC (ab ?_)
 obtain ⟨v2,hv2,v3,hv3,h⟩:=eo h
 refine yx hn 0 ?_
 refine ys 0 ⟨lj hv2⟩ ?_
 refine yS (.agg [vs v3.Ko,vs v3.KJ]) 0 ⟨iY _ _ _ _ _ _ _ underlying181 rfl pG rfl rfl (kf aq.len hv3) rfl (by decide)⟩ ?_
 refine yS (.box 181 [vs z0,vs z0]) 1 ⟨oA (aR _ _ qp)⟩ ?_
 refine aV [1,9,10,11,7] ?_
 refine aG hn 4 [1,9,10,11,7,18] ?_
 refine zc h rfl (fun h => ?_) (fun h => ?_)
 refine aG hn 4 [4,5] ?_
 refine aj (aE (ai (ai (aE (ai ?_)))))
 have h:=hr14 _ (ho15 _ (zi h).symm).symm
 obtain rfl:=zi h
 exact al hio rfl (.tmp _ _ (.tmp _ _ .nil)) rfl rfl
 refine am (aI (af ?_))
 obtain ⟨v5,hv5,h⟩:=zn h
 refine yx hn 0 ?_
 refine ys 0 ⟨lb hv5⟩ ?_
 refine yw [11] 1 ?_
 refine ye [1,9,10,11] ?_
 exact bc _ (zi h).symm rfl
 refine bh (ar (ar (bb ?_)))
 refine ag [] (by kernel_rfl) (es':=[]) rfl ?_
 exact hl13 _ (ho15 _ (zi h).symm).symm
theorem pS (mx:Int×Nat×Value) (s:KK) (r:Int) (h:Sh.fk s=some r):ir Tryz.prog (GL mx) 139 [.v (.string s)] (.tup [.v (.int .i64 r),.any]):=pM (Dq mx) (fun s n w h1 h2=>Tryz.strconv_Atoi s n h1 h2 w) (fun s w h1 h2 h3=>(Tryz.strconv_Atoi_err s h1 h2 _ w h3 (.inr ⟨_,_,rfl⟩)).mono fun _ _ ⟨_,h4,_,_,h5⟩=>⟨_,h4,h5⟩) s r h
theorem mG (mx:Int×Nat×Value) (s:aa) (c:bf) (r:(Int×aa)) (h:Sh.fD s c=some r):mL Tryz.prog (GL mx) 112 [.box 80 (aa.b s),.agg [.v (.int .i64 c.Kq),.v (.string c.KH),.v (.bool c.KB.Kx),.v (.string c.KB.Ks),.v (.string c.KB.Kg),.fl .shr 2 (flatten (map aq.enc c.KA))]] [.box 80 (aa.b r.2)] (.v (.int .i64 r.1)):=by
 unfold Sh.fD at h
 refine CT 39 func112 fun args0 hargs0 g0 hn hio => ?_
 refine aG hn 2 [0,39,3,0] ?_
 refine ab ?_
 obtain ⟨v1,hv1,h⟩:=zn h
 refine yx hn 1 ?_
 refine ys 0 ⟨lk call138 (nU _ _ _ hv1)⟩ ?_
 refine ym 4 ?_
 refine aV [0,39,3,5,0] ?_
 refine ab ?_
 obtain ⟨v2,hv2,h⟩:=zn h
 refine yx hn 1 ?_
 refine ys 0 ⟨lg call139 (pS _ _ _ hv2) 39⟩ ?_
 refine ym 4 ?_
 refine aV [0,39,3,7,0] ?_
 refine ab (aC ?_)
 refine aG hn 7 [0,39,3,7,19,0] ?_
 refine zc h rfl (fun h => ?_) (fun h => ?_)
 refine aG hn 1 [0,39,4,0] ?_
 refine aj ?_
 refine ag [2,0,3] (by kernel_rfl) (es':=[(_,_),(_,_),(_,_)]) rfl ?_
 refine aE (ai ?_)
 obtain rfl:=zi h
 exact bp (es:=[(4,.v (.int .i64 503))]) (posts:=[.box 80 (aa.b s)]) hio rfl rfl (.tmp _ _ .nil) rfl rfl hargs0 rfl
 refine aG hn 3 [0,39,3,26,0] ?_
 refine zc h rfl (fun h => ?_) (fun h => ?_)
 refine aG hn 1 [0,39,4,0] ?_
 refine aj ?_
 refine ag [2,0,3] (by kernel_rfl) (es':=[(_,_),(_,_),(_,_)]) rfl ?_
 refine aE (ai ?_)
 obtain rfl:=zi h
 exact bp (es:=[(4,.v (.int .i64 552))]) (posts:=[.box 80 (aa.b s)]) hio rfl rfl (.tmp _ _ .nil) rfl rfl hargs0 rfl
 refine am (aI ?_)
 refine af (ab ?_)
 refine wb [[],[],[3],[31,3],[29,0],[33,0],[34,0]] ?_
 refine wK [0] [35] ?_
 refine wt [(0,.box 80 (vi 2::vs s.Kk.Kn::vb s.Kk.Kj.Kx::vs s.Kk.Kj.Ks::vs s.Kk.Kj.Kg::.fl (.own 26) 3 (flatten (map T_Path.enc s.Kk.To))::vb s.Kk.KE::.mkr 5 (map (int .u8) s.Kk.Kd)::vs s.Kk.Ke::vb s.Kk.KD::T_Config.c s.config [vi s.site,vi s.at_,.fr (.own 55) false 12 (flatten (map ap.ienc s.out))]))] [[30,0],[36,0],[37,0]] ⟨dD _ _ _ _ _ _ _ _ FS rfl rfl rfl rfl (zl rfl) rfl rfl⟩ ?_
 refine wK [0] [38,32] ?_
 refine wt [(0,.box 80 (vi 2::vs s.Kk.Kn::vb c.KB.Kx::vs c.KB.Ks::vs c.KB.Kg::.fl (.own 26) 3 (flatten (map T_Path.enc s.Kk.To))::vb s.Kk.KE::.mkr 5 (map (int .u8) s.Kk.Kd)::vs s.Kk.Ke::vb s.Kk.KD::T_Config.c s.config [vi s.site,vi s.at_,.fr (.own 55) false 12 (flatten (map ap.ienc s.out))]))] [] ⟨dD _ _ _ _ _ _ _ _ sN rfl rfl rfl rfl (zl rfl) rfl rfl⟩ ?_
 refine sF hn [0,39,0] ?_
 refine aG hn 1 [0,39,4,0] ?_
 refine aj ?_
 refine ag [2,0,3] (by kernel_rfl) (es':=[(_,_),(_,_),(_,_)]) rfl ?_
 obtain rfl:=zi h
 exact bp (es:=[(4,.v (.int .i64 250))]) (posts:=[.box 80 [.v (.int .i64 2),.v (.string s.Kk.Kn),.v (.bool c.KB.Kx),.v (.string c.KB.Ks),.v (.string c.KB.Kg),.fl (.own 26) 3 (flatten (map T_Path.enc s.Kk.To)),.v (.bool s.Kk.KE),.mkr 5 (map (int .u8) s.Kk.Kd),.v (.string s.Kk.Ke),.v (.bool s.Kk.KD),.v (.string ((s.config.Kh.getD 0 (⟨#[]⟩:KK)))),.v (.string ((s.config.Kh.getD 1 (⟨#[]⟩:KK)))),.v (.int .i64 s.config.Ki),.v (.string s.config.KI),.v (.string s.config.KG),.v (.int .i64 s.config.Kt),.v (.bool s.config.Km),.v (.int .i64 s.site),.v (.int .i64 s.at_),.fr (.own 55) false 12 (flatten (map ap.ienc s.out))]]) hio rfl rfl (.tmp _ _ .nil) rfl rfl hargs0 rfl
theorem oW (mx:Int×Nat×Value) (p:T_Path) (domain:KK) (r:Bool) (h:Sh.kI p domain=some r):ir Tryz.prog (GL mx) 140 [.agg [.v (.bool p.Kx),.v (.string p.Ks),.v (.string p.Kg)],.v (.string domain)] (.v (.bool r)):=by
 unfold Sh.kI at h
 refine yG 21 func140 fun g0 hn hio => ?_
 refine aG hn 2 [1,21,2] ?_
 refine ab ?_
 refine ay h (fun (s4:Bool)=>[(21,.glob (GL mx)),(4,vb s4)]) ?_ ?_
 rintro s4 h
 refine af (aj ?_)
 refine ag [1] (by kernel_rfl) (es':=[(_,_)]) rfl ?_
 obtain rfl:=zi h
 exact al hio rfl (.tmp _ _ .nil) rfl rfl
 intro u5 h hl6 hr7
 obtain ⟨v1,hv1,h⟩:=zn h
 refine ak h (fun hg1_3 h => ?_) (fun hg1_3 h => ?_)
 refine ak h (fun hg1_8 h => ?_) (fun hg1_8 h => ?_)
 obtain ⟨v2,hv2,v3,hv3,h⟩:=eo h
 refine yx hn 1 ?_
 refine ys 2 ⟨lg call162 (cA _ _ _ hv1) 21⟩ ?_
 refine yd hg1_3 5 ?_
 refine yd hg1_8 2 ?_
 refine ys 1 ⟨lk call71 (dX _ _ hv2)⟩ ?_
 refine ys 3 ⟨lk call71 (dX _ _ hv3)⟩ ?_
 refine ye [21,4] ?_
 exact hl6 _ (zi h).symm
 refine yx hn 1 ?_
 refine ys 2 ⟨lg call162 (cA _ _ _ hv1) 21⟩ ?_
 refine yd hg1_3 5 ?_
 refine yd hg1_8 8 ?_
 refine ye [21,4] ?_
 exact hl6 _ (zi h).symm
 refine yx hn 1 ?_
 refine ys 2 ⟨lg call162 (cA _ _ _ hv1) 21⟩ ?_
 refine yd hg1_3 13 ?_
 refine ye [21,4] ?_
 exact hl6 _ (zi h).symm
theorem nD (mx:Int×Nat×Value) (s:aa) (c:bf) (r:(Int×aa)) (h:Sh.fB s c=some r):mL Tryz.prog (GL mx) 113 [.box 80 (aa.b s),.agg [.v (.int .i64 c.Kq),.v (.string c.KH),.v (.bool c.KB.Kx),.v (.string c.KB.Ks),.v (.string c.KB.Kg),.fl .shr 2 (flatten (map aq.enc c.KA))]] [.box 80 (aa.b r.2)] (.v (.int .i64 r.1)):=by
 unfold Sh.fB at h
 refine CT 81 func113 fun args0 hargs0 g0 hn hio => ?_
 refine aG hn 2 [0,81,3,0] ?_
 refine ab (aC (ab ?_))
 refine ay h (fun (s1:Bool)=>[(0,.box 80 (aa.b s)),(81,.glob (GL mx)),(3,.box 122 (bf.c c [])),(7,vb s1),(0,.v (List.getD args0 0 undef))]) ?_ ?_
 rintro s1 h
 refine af ?_
 refine zc h rfl (fun h => ?_) (fun h => ?_)
 refine aG hn 1 [0,81,4,0] ?_
 refine aj ?_
 refine ag [2,0,3] (by kernel_rfl) (es':=[(_,_),(_,_),(_,_)]) rfl ?_
 refine aE (ai ?_)
 obtain rfl:=zi h
 exact bp (es:=[(4,.v (.int .i64 503))]) (posts:=[.box 80 (aa.b s)]) hio rfl rfl (.tmp _ _ .nil) rfl rfl hargs0 rfl
 refine aG hn 8 [0,81,3,22,0] ?_
 refine zc h rfl (fun h => ?_) (fun h => ?_)
 refine aG hn 1 [0,81,4,0] ?_
 refine aj ?_
 refine ag [2,0,3] (by kernel_rfl) (es':=[(_,_),(_,_),(_,_)]) rfl ?_
 refine aE (ai ?_)
 obtain rfl:=zi h
 exact bp (es:=[(4,.v (.int .i64 452))]) (posts:=[.box 80 (aa.b s)]) hio rfl rfl (.tmp _ _ .nil) rfl rfl hargs0 rfl
 refine ab ?_
 refine ay h (fun (s9:Bool)=>[(0,.box 80 (aa.b s)),(81,.glob (GL mx)),(3,.box 122 (bf.c c [])),(30,vb s9),(0,.v (List.getD args0 0 undef))]) ?_ ?_
 rintro s9 h
 refine af ?_
 refine zc h rfl (fun h => ?_) (fun h => ?_)
 refine aG hn 1 [0,81,4,0] ?_
 refine aj ?_
 refine ag [2,0,3] (by kernel_rfl) (es':=[(_,_),(_,_),(_,_)]) rfl ?_
 refine aE (ai ?_)
 obtain rfl:=zi h
 exact bp (es:=[(4,.v (.int .i64 550))]) (posts:=[.box 80 (aa.b s)]) hio rfl rfl (.tmp _ _ .nil) rfl rfl hargs0 rfl
 refine am (aI (af ?_))
 refine aG hn 5 [0,81,3,0] ?_
 refine ab ?_
 obtain ⟨v14,hv14,h⟩:=zn h
 refine wb [[],[],[58,0],[59,0],[60,0],[61,0],[3],[63,3]] ?_
 refine wN [64] ?_
 refine wS (.fl (.own 26) 3 (flatten (map T_Path.enc [(T_Path.mk c.KB.Kx c.KB.Ks c.KB.Kg)]))) [] ⟨bi _ _ 3 (.agg #[.bool false,.string ByteArray.empty,.string ByteArray.empty]) (flatten (map T_Path.enc [(T_Path.mk c.KB.Kx c.KB.Ks c.KB.Kg)])) [(0,.agg #[.bool c.KB.Kx,.string c.KB.Ks,.string c.KB.Kg])] underlying27 sN sB (fun _ V w o a hv hes=>by have e0:=EI (ys:=[.bool c.KB.Kx,.string c.KB.Ks,.string c.KB.Kg]) hv hes (x := .tmp 64) rfl; simp only [List.map_toArray,List.map_cons,List.map_nil,e0]; try rfl) (dn (by simp [Instr.fill,Value.cells]; rfl) (by simp [List.range,List.range.loop,T_Path.enc] <;> rfl)) (by simp [Value.oneCell',T_Path.enc]) rfl (by decide) (by decide) (by decide)⟩ ?_
 refine wK [0] [62,65] ?_
 refine wt [(0,.box 80 (vi 3::vs s.Kk.Kn::vb s.Kk.Kj.Kx::vs s.Kk.Kj.Ks::vs s.Kk.Kj.Kg::.any::vb s.Kk.KE::.mkr 5 (map (int .u8) s.Kk.Kd)::vs s.Kk.Ke::vb s.Kk.KD::T_Config.c s.config [vi s.site,vi s.at_,.fr (.own 55) false 12 (flatten (map ap.ienc s.out))])),(66,.fl (.own 26) 3 (flatten (map T_Path.enc v14)))] [[57,0],[67,0],[68,0]] ⟨ib _ _ _ _ _ _ Hh rfl rfl (zl rfl) rfl (jT T_Path.len _) (jT T_Path.len _) hv14 (wv (jb hv14)) (Nat.ne_of_beq_eq_false rfl) rfl rfl⟩ ?_
 refine wK [62,66,0] [69] ?_
 refine wt [(0,.box 80 (vi 3::vs s.Kk.Kn::vb s.Kk.Kj.Kx::vs s.Kk.Kj.Ks::vs s.Kk.Kj.Kg::.fl (.own 26) 3 (flatten (map T_Path.enc v14))::vb s.Kk.KE::.mkr 5 (map (int .u8) s.Kk.Kd)::vs s.Kk.Ke::vb s.Kk.KD::T_Config.c s.config [vi s.site,vi s.at_,.fr (.own 55) false 12 (flatten (map ap.ienc s.out))]))] [] ⟨aJ.drop [_] (aM _ _ _ _ _ _ _ _ Ht rfl rfl rfl (zl rfl) rfl rfl)⟩ ?_
 refine sF hn [0,81,3,0] ?_
 refine ab ?_
 refine ay h (fun (s17:Bool)=>[(0,.box 80 (vi 3::vs s.Kk.Kn::vb s.Kk.Kj.Kx::vs s.Kk.Kj.Ks::vs s.Kk.Kj.Kg::.fl (.own 26) 3 (flatten (map T_Path.enc v14))::vb s17::.mkr 5 (map (int .u8) s.Kk.Kd)::vs s.Kk.Ke::vb s.Kk.KD::T_Config.c s.config [vi s.site,vi s.at_,.fr (.own 55) false 12 (flatten (map ap.ienc s.out))])),(81,.glob (GL mx)),(0,.v (List.getD args0 0 undef))]) ?_ ?_
 rintro s17 h
 refine af ?_
 refine aG hn 1 [0,81,4,0] ?_
 refine aj ?_
 refine ag [2,0,3] (by kernel_rfl) (es':=[(_,_),(_,_),(_,_)]) rfl ?_
 obtain rfl:=zi h
 exact bp (es:=[(4,.v (.int .i64 250))]) (posts:=[.box 80 [.v (.int .i64 3),.v (.string s.Kk.Kn),.v (.bool s.Kk.Kj.Kx),.v (.string s.Kk.Kj.Ks),.v (.string s.Kk.Kj.Kg),.fl (.own 26) 3 (flatten (map T_Path.enc v14)),.v (.bool s17),.mkr 5 (map (int .u8) s.Kk.Kd),.v (.string s.Kk.Ke),.v (.bool s.Kk.KD),.v (.string ((s.config.Kh.getD 0 (⟨#[]⟩:KK)))),.v (.string ((s.config.Kh.getD 1 (⟨#[]⟩:KK)))),.v (.int .i64 s.config.Ki),.v (.string s.config.KI),.v (.string s.config.KG),.v (.int .i64 s.config.Kt),.v (.bool s.config.Km),.v (.int .i64 s.site),.v (.int .i64 s.at_),.fr (.own 55) false 12 (flatten (map ap.ienc s.out))]]) hio rfl rfl (.tmp _ _ .nil) rfl rfl hargs0 rfl
 intro u18 h hl19 hr20
 refine ab ?_
 obtain ⟨v15,hv15,h⟩:=zn h
 refine yx hn 1 ?_
 refine ys 0 ⟨lk call138 (nU _ _ _ hv15)⟩ ?_
 refine ym 4 ?_
 refine aV [0,81,5,0] ?_
 refine aG hn 2 [0,81,76,0] ?_
 refine zc h rfl (fun h => ?_) (fun h => ?_)
 refine yy hn 5 [0,81,0] ?_
 exact hl19 _ (zi h).symm
 refine am ?_
 refine ag [0,1,3] (by kernel_rfl) (es':=[(_,_),(_,_),(_,_)]) rfl ?_
 exact hl19 _ (zi h).symm
 intro u10 h hl11 hr12
 obtain ⟨v7,hv7,h⟩:=zn h
 refine ak h (fun hg5_10 h => ?_) (fun hg5_10 h => ?_)
 obtain ⟨v8,hv8,h⟩:=zn h
 refine wb [[3],[31,3],[],[33,0],[34,0],[35,0]] ?_
 refine wN [36,0] ?_
 refine wS (.ptr 0 10) [[37,0]] ⟨bt _ _ _ _ 2 0 10 0 1 underlying22 rL rfl rfl (by decide) (by decide)⟩ ?_
 refine wN [32,38,81] ?_
 refine wo [[39],[40]] ⟨lg call140 (oW _ _ _ _ hv7) 81⟩ ?_
 refine wd hg5_10 [[41,3],[41,42,3],[41],[41,44,0],[41,45,0],[41,46,0]] ?_
 refine wN [41,47,0] ?_
 refine wS (.ptr 0 11) [[41,48,0]] ⟨bt _ _ _ _ 2 0 10 1 1 underlying22 rL rfl rfl (by decide) (by decide)⟩ ?_
 refine wN [41,43,49,81] ?_
 refine wo [[41,50],[41,51],[52]] ⟨lg call140 (oW _ _ _ _ hv8) 81⟩ ?_
 refine we hn [0,81,3,30,0] ?_
 exact hl11 _ (zi h).symm
 refine wb [[3],[31,3],[],[33,0],[34,0],[35,0]] ?_
 refine wN [36,0] ?_
 refine wS (.ptr 0 10) [[37,0]] ⟨bt _ _ _ _ 2 0 10 0 1 underlying22 rL rfl rfl (by decide) (by decide)⟩ ?_
 refine wN [32,38,81] ?_
 refine wo [[39],[40]] ⟨lg call140 (oW _ _ _ _ hv7) 81⟩ ?_
 refine wd hg5_10 [[41],[41],[41],[41],[41],[41],[41],[41],[41],[41],[41],[52]] ?_
 refine we hn [0,81,3,30,0] ?_
 exact hl11 _ (zi h).symm
 intro u2 h hl3 hr4
 refine ak h (fun hg1_6 h => ?_) (fun hg1_6 h => ?_)
 refine yx hn 7 ?_
 refine yd hg1_6 8 ?_
 refine ye [0,81,3,7,0] ?_
 exact hl3 _ (zi h).symm
 refine yx hn 7 ?_
 refine yd hg1_6 8 ?_
 refine ye [0,81,3,7,0] ?_
 exact hl3 _ (zi h).symm
theorem mB (s:aa) (r:(Int×aa)) (h:Sh.eT s=some r):oM Tryz.prog 114 [.box 80 (aa.b s)] [.box 80 (aa.b r.2)] (.v (.int .i64 r.1)):=by
 unfold Sh.eT at h
 refine yP 13 func114 fun args0 hargs0 g0 hn hio => ?_
 refine aG hn 1 [0,0] ?_
 refine ab ?_
 refine aG hn 6 [0,8,0] ?_
 refine zc h rfl (fun h => ?_) (fun h => ?_)
 refine aG hn 1 [0,2,0] ?_
 refine aj ?_
 refine ag [1,0,2] (by kernel_rfl) (es':=[(_,_),(_,_),(_,_)]) rfl ?_
 refine ai ?_
 obtain rfl:=zi h
 exact bp (es:=[(2,.v (.int .i64 503))]) (posts:=[.box 80 (aa.b s)]) hio rfl rfl (.tmp _ _ .nil) rfl rfl hargs0 rfl
 refine am (af ?_)
 refine aG hn 5 [0,0] ?_
 refine aG hn 1 [0,2,0] ?_
 refine aj ?_
 refine ag [1,0,2] (by kernel_rfl) (es':=[(_,_),(_,_),(_,_)]) rfl ?_
 obtain rfl:=zi h
 exact bp (es:=[(2,.v (.int .i64 354))]) (posts:=[.box 80 [.v (.int .i64 4),.v (.string s.Kk.Kn),.v (.bool s.Kk.Kj.Kx),.v (.string s.Kk.Kj.Ks),.v (.string s.Kk.Kj.Kg),.fl (.own 26) 3 (flatten (map T_Path.enc s.Kk.To)),.v (.bool s.Kk.KE),.mkr 5 (map (int .u8) s.Kk.Kd),.v (.string s.Kk.Ke),.v (.bool s.Kk.KD),.v (.string ((s.config.Kh.getD 0 (⟨#[]⟩:KK)))),.v (.string ((s.config.Kh.getD 1 (⟨#[]⟩:KK)))),.v (.int .i64 s.config.Ki),.v (.string s.config.KI),.v (.string s.config.KG),.v (.int .i64 s.config.Kt),.v (.bool s.config.Km),.v (.int .i64 s.site),.v (.int .i64 s.at_),.fr (.own 55) false 12 (flatten (map ap.ienc s.out))]]) hio rfl rfl (.tmp _ _ .nil) rfl rfl hargs0 rfl
theorem gZ (s:aa) (domain:KK) (r:(Bool×aa)) (h:Sh.co s domain=some r):oM Tryz.prog 141 [.box 80 (aa.b s),.v (.string domain)] [.box 80 (aa.b r.2)] (.v (.bool r.1)):=by
 unfold Sh.co at h
 refine yP 18 func141 fun args0 hargs0 g0 hn hio => ?_
 refine aG hn 1 [0,1,0] ?_
 refine ab ?_
 obtain ⟨v1,hv1,v2,hv2,v3,hv3,v4,hv4,h⟩:=ld h
 refine wb [[1],[],[],[7,0],[8,0],[9,0]] ?_
 refine wN [10] ?_
 refine wo [[6,0],[12,0],[13,0]] ⟨lb hv1⟩ ?_
 refine wN [14,0,11] ?_
 refine wS (.ptr 0 (10+v2 * 1)) [] ⟨tX _ _ _ _ 2 0 10 _ underlying22 rL rfl rfl (bo hv2).1 (bo hv2).2 (by decide)⟩ ?_
 refine wN [15,0] ?_
 refine wS (vs v3) [] ⟨qt _ _ _ 0 10 v2 2 ([(s.config.Kh.getD 0 z0),(s.config.Kh.getD 1 z0)]:List KK) _ underlying9 rfl rfl rfl rfl hv3⟩ ?_
 refine wN [5,16] ?_
 refine wo [[17]] ⟨lk call56 (kK _ _ _ hv4)⟩ ?_
 refine sF hn [0,4,0] ?_
 refine aj ?_
 refine ag [1,0,2] (by kernel_rfl) (es':=[(_,_),(_,_),(_,_)]) rfl ?_
 obtain rfl:=zi h
 exact bp (es:=[(4,.v (.bool v4))]) (posts:=[.box 80 (aa.b s)]) hio rfl rfl (.tmp _ _ .nil) rfl rfl hargs0 rfl
theorem mZ (s:aa) (c:bf) (r:(Int×aa)) (h:Sh.fC s c=some r):oM Tryz.prog 116 [.box 80 (aa.b s),.agg [.v (.int .i64 c.Kq),.v (.string c.KH),.v (.bool c.KB.Kx),.v (.string c.KB.Ks),.v (.string c.KB.Kg),.fl .shr 2 (flatten (map aq.enc c.KA))]] [.box 80 (aa.b r.2)] (.v (.int .i64 r.1)):=by
 unfold Sh.fC at h
 refine yP 18 func116 fun args0 hargs0 g0 hn hio => ?_
 refine aG hn 2 [0,3,0] ?_
 refine ab (aC ?_)
 refine aG hn 7 [0,3,5,0] ?_
 refine zc h rfl (fun h => ?_) (fun h => ?_)
 refine aG hn 1 [0,4,0] ?_
 refine aj ?_
 refine ag [1,0,2] (by kernel_rfl) (es':=[(_,_),(_,_),(_,_)]) rfl ?_
 refine aE (ai ?_)
 obtain rfl:=zi h
 exact bp (es:=[(4,.v (.int .i64 503))]) (posts:=[.box 80 (aa.b s)]) hio rfl rfl (.tmp _ _ .nil) rfl rfl hargs0 rfl
 refine ab ?_
 obtain ⟨v2,hv2,h⟩:=zn h
 refine yx hn 3 ?_
 refine yQ call141 (gZ _ _ _ hv2) 0 [13,15] 2 ?_
 refine aV [0,12,0] ?_
 refine zc h rfl (fun h => ?_) (fun h => ?_)
 refine aG hn 1 [0,4,0] ?_
 refine aj ?_
 refine ag [1,0,2] (by kernel_rfl) (es':=[(_,_),(_,_),(_,_)]) rfl ?_
 refine aE (ai ?_)
 obtain rfl:=zi h
 exact bp (es:=[(4,.v (.int .i64 459))]) (posts:=[.box 80 (aa.b v2.2)]) hio rfl rfl (.tmp _ _ .nil) rfl rfl hargs0 rfl
 refine am (aI (af ?_))
 refine aG hn 1 [0,4,0] ?_
 refine aj ?_
 refine ag [1,0,2] (by kernel_rfl) (es':=[(_,_),(_,_),(_,_)]) rfl ?_
 obtain rfl:=zi h
 exact bp (es:=[(4,.v (.int .i64 250))]) (posts:=[.box 80 (aa.b v2.2)]) hio rfl rfl (.tmp _ _ .nil) rfl rfl hargs0 rfl
end Go.Proofs.YtjnnkhmhjcjhdaaGreatDoor
