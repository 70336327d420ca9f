import Derived.Test.YtjnnkhmhjcjhdaaGreatDoorOkc2
set_option linter.unusedVariables false
set_option linter.unusedSimpArgs false
set_option maxHeartbeats 1000000
namespace Go.Proofs.YtjnnkhmhjcjhdaaGreatDoor
open Go.Abs Go.Abs.Sh Tryz
open List (map flatten)
open Value (int)
theorem fA (s:aa) (code:Int) (r:(cX×aa)) (h:Sh.cu s code=some r):pO Tryz.prog 85 [.box 80 (aa.b s),.v (.int .i64 code)] [.box 80 (aa.b r.2)] (.agg [.v (.int .i64 r.1.Lz),.fl (.own 9) 1 (map Value.string r.1.LL)]):=by
 unfold Sh.cu at h
 refine yP 24 func85 fun args0 hargs0 g0 hn hio => ?_
 refine gH hn 0 ?_
 refine yS (.box 51 [vi 0,vz]) 0 ⟨oA (aT _ _ EO)⟩ ?_
 refine aV [0,1,4,0] ?_
 refine aG hn 1 [0,1,4,5,0] ?_
 refine ab ?_
 refine aq h (fun (s6:Mf)=>[(0,.box 80 (aa.b s)),(1,vi code),(4,.box 51 [vi 0,vz]),(5,vs s6),(0,.v (List.getD args0 0 undef))]) ?_ ?_
 rintro s6 h
 refine ae ?_
 refine gH hn 2 ?_
 refine yS (.fl (.own 9) 1 (map Value.string [s6])) 0 ⟨bf _ _ 1 (.string ByteArray.empty) (map Value.string [s6]) [(0,.string s6)] underlying49 sP JD (fun _ V w o a hv hes=>by have e0:=bZ hv hes (x := .tmp 21) rfl; simp only [List.map_toArray,List.map_cons,List.map_nil,e0]; try rfl) (cN (by simp [Instr.fill,Value.cells]; rfl) (by simp [List.range,List.range.loop] <;> rfl)) (by simp [Value.oneCell']) rfl (by decide) (by decide) (by decide)⟩ ?_
 refine yk [22] [20] ?_
 refine yt (23,.agg [vi code,.fl (.own 9) 1 (map Value.string [s6])]) 0 ⟨bw _ _ _ _ [1,1] _ _ underlying51 EO (IZ _ underlying51) (.copy _ (.take _ _ mb.nil)) rfl rfl rfl⟩ ?_
 refine yk [23,4] [] ?_
 refine yt (4,.box 51 [vi code,.fl (.own 9) 1 (map Value.string [s6])]) 0 ⟨aM _ _ _ _ _ _ _ _ FB rfl rfl rfl (zl rfl) rfl rfl⟩ ?_
 refine aV [0,4,0] ?_
 refine ak ?_
 refine ah [1,0,2] (by kernel_rfl) (es':=[(_,_),(_,_),(_,_)]) rfl ?_
 obtain rfl:=zi h
 exact bG (es:=[(4,.box 51 [.v (.int .i64 code),.fl (.own 9) 1 (map Value.string [s6])])]) (posts:=[.box 80 (aa.b s)]) hio rfl rfl (.cellA _ _ _ _ underlying51 rfl FB .nil) rfl rfl hargs0 rfl
 intro u7 h hl8 hr9
 refine aC ?_
 refine aG hn 3 [0,1,4,5,6,0] ?_
 refine zc h rfl (fun h => ?_) (fun h => ?_)
 obtain ⟨v2,hv2,v3,hv3,h⟩:=dM h
 refine yx hn 5 ?_
 refine ys 0 ⟨lT hv2⟩ ?_
 refine ys 0 ⟨lk call98 (kz _ _ hv3)⟩ ?_
 refine yw [5] 1 ?_
 refine ye [0,1,4,5,0] ?_
 refine aI ?_
 exact hl8 _ (zi h).symm
 refine ab ?_
 obtain ⟨v4,hv4,h⟩:=zn h
 refine yx hn 1 ?_
 refine ys 2 ⟨lk call99 (nR _ _ hv4)⟩ ?_
 refine aV [0,1,4,5,16,0] ?_
 refine zc h rfl (fun h => ?_) (fun h => ?_)
 refine yx hn 0 ?_
 refine yw [5] 1 ?_
 refine ye [0,1,4,5,0] ?_
 refine aI ?_
 exact hl8 _ (zi h).symm
 refine am (aI ?_)
 refine ah [0,1,2,3,5] (by kernel_rfl) (es':=[(_,_),(_,_),(_,_),(_,_),(_,_)]) rfl ?_
 exact hl8 _ (zi h).symm
theorem mT (mx:Int×Nat×Value) (n:Int) (r:Mf) (h:Sh.strconv_Itoa n=some r):iq Tryz.prog (GL mx) 150 [.v (.int .i64 n)] (.v (.string r)):=qY (by kernel_rfl) (Ey mx) (by rfl) (fun n w h0 h1 ht=>Tryz.strconv_Itoa n h0 h1 w ht) n r h
theorem uu (mx:Int×Nat×Value) (helo:Mf) (site:Mf) (at_:Int) (r:((List Int)×Int)) (h:Sh.jw helo site at_=some r):iq Tryz.prog (GL mx) 129 [.v (.string helo),.v (.string site),.v (.int .i64 at_)] (.tup [.mkr 5 (map (int .u8) r.1),.v (.int .i64 r.2)]):=by
 unfold Sh.jw at h
 refine yG 33 func129 fun g0 hn hio => ?_
 refine aG hn 2 [0,1,2,33] ?_
 refine ab (ab ?_)
 refine aq h (fun (s21:Bool)=>[(0,vs helo),(1,vs site),(2,vi at_),(33,.glob (GL mx)),(15,vb s21)]) ?_ ?_
 rintro s21 h
 refine ae ?_
 refine zc h rfl (fun h => ?_) (fun h => ?_)
 refine aG hn 2 [33,6,7] ?_
 refine ak ?_
 refine ah [1,2] (by kernel_rfl) (es':=[(_,_),(_,_)]) rfl ?_
 refine cq (fs:=[(6,.mkr 5 (map (int .u8) [])),(7,vi 5)]) (.sub _ (eP 5) rfl (.same _ .nil)) ?_
 refine ag ?_
 obtain rfl:=zi h
 exact al hio rfl (.tmp _ _ (.tmp _ _ .nil)) rfl rfl
 refine am ?_
 refine ae (ab ?_)
 refine ab ?_
 refine aq h (fun (s26:Bool)=>[(0,vs helo),(1,vs site),(2,vi at_),(33,.glob (GL mx)),(21,vb s26)]) ?_ ?_
 rintro s26 h
 refine ae ?_
 refine zc h rfl (fun h => ?_) (fun h => ?_)
 refine aG hn 2 [33,6,7] ?_
 refine ak ?_
 refine ah [1,2] (by kernel_rfl) (es':=[(_,_),(_,_)]) rfl ?_
 refine cq (fs:=[(6,.mkr 5 (map (int .u8) [])),(7,vi 1)]) (.sub _ (eP 5) rfl (.same _ .nil)) ?_
 refine ag ?_
 obtain rfl:=zi h
 exact al hio rfl (.tmp _ _ (.tmp _ _ .nil)) rfl rfl
 refine am ?_
 refine ae (ab ?_)
 obtain ⟨v13,hv13,v14,hv14,v15,hv15,v16,hv16,h⟩:=jX h
 obtain ⟨v17,hv17,v18,hv18,v19,hv19,v20,hv20,h⟩:=jX h
 refine yx hn 1 ?_
 refine ys 0 ⟨lB (bu hv13)⟩ ?_
 refine ys 1 ⟨lB (bu hv14)⟩ ?_
 refine ys 0 ⟨lB (bu hv15)⟩ ?_
 refine ys 1 ⟨lB (bu hv16)⟩ ?_
 refine ys 0 ⟨lg call150 (mT _ _ _ hv17) 33⟩ ?_
 refine ys 0 ⟨lB (bu hv18)⟩ ?_
 refine ys 0 ⟨lB (bu hv19)⟩ ?_
 refine ys 0 ⟨lU hv20⟩ ?_
 refine ya 1 ?_
 refine aV [33,6,7] ?_
 refine ak ?_
 refine ah [1,2] (by kernel_rfl) (es':=[(_,_),(_,_)]) rfl ?_
 obtain rfl:=zi h
 exact al hio rfl (.tmp _ _ (.tmp _ _ .nil)) rfl rfl
 intro u27 h hl28 hr29
 refine ai h (fun hg3_2 h => ?_) (fun hg3_2 h => ?_)
 refine yx hn 3 ?_
 refine yd hg3_2 3 ?_
 refine ye [0,1,2,33,21] ?_
 exact hl28 _ (zi h).symm
 refine yx hn 3 ?_
 refine yd hg3_2 3 ?_
 refine ye [0,1,2,33,21] ?_
 exact hl28 _ (zi h).symm
 intro u22 h hl23 hr24
 obtain ⟨v1,hv1,h⟩:=zn h
 refine ai h (fun hg1_3 h => ?_) (fun hg1_3 h => ?_)
 refine yx hn 1 ?_
 refine ys 2 ⟨lg call55 (cb _ _ _ hv1) 33⟩ ?_
 refine yd hg1_3 4 ?_
 refine ye [0,1,2,33,15] ?_
 exact hl23 _ (zi h).symm
 obtain ⟨v2,hv2,h⟩:=zn h
 refine yx hn 1 ?_
 refine ys 2 ⟨lg call55 (cb _ _ _ hv1) 33⟩ ?_
 refine yd hg1_3 1 ?_
 refine ys 2 ⟨lg call55 (cb _ _ _ hv2) 33⟩ ?_
 refine ye [0,1,2,33,15] ?_
 exact hl23 _ (zi h).symm
theorem xG (mx:Int×Nat×Value) (b:(List Int)) (helo:Mf) (site:Mf) (at_:Int) (r:((List Int)×Int)) (h:Sh.ov b helo site at_=some r):iq Tryz.prog (GL mx) 100 [.fl .shr 1 (map (int .u8) b),.v (.string helo),.v (.string site),.v (.int .i64 at_)] (.tup [.mkr 5 (map (int .u8) r.1),.v (.int .i64 r.2)]):=by
 unfold Sh.ov at h
 refine yG 31 func100 fun g0 hn hio => ?_
 refine aG hn 2 [0,1,2,3,31] ?_
 refine ab (ab ?_)
 obtain ⟨v1,hv1,h⟩:=zn h
 refine yx hn 1 ?_
 refine ys 1 ⟨lg call95 (jB _ _ _ hv1) 31⟩ ?_
 refine aV [0,1,2,3,31,10] ?_
 refine aG hn 2 [0,1,2,3,31,10,16] ?_
 refine zc h rfl (fun h => ?_) (fun h => ?_)
 refine aG hn 3 [31,8,9] ?_
 refine ak ?_
 refine ah [1,2] (by kernel_rfl) (es':=[(_,_),(_,_)]) rfl ?_
 refine cq (fs:=[(8,.mkr 5 (map (int .u8) [])),(9,vi v1)]) (.sub _ (eP 5) rfl (.same _ .nil)) ?_
 refine ag ?_
 obtain rfl:=zi h
 exact al hio rfl (.tmp _ _ (.tmp _ _ .nil)) rfl rfl
 refine am ?_
 refine ae (ab ?_)
 obtain ⟨v3,hv3,h⟩:=zn h
 refine yx hn 3 ?_
 refine ys 0 ⟨lg call129 (uu _ _ _ _ _ hv3) 31⟩ ?_
 refine ym 0 ?_
 refine Jt 1 ?_
 refine ya 1 ?_
 refine aV [0,31,11,12] ?_
 refine ab ?_
 refine aG hn 2 [0,31,11,12,26] ?_
 refine zc h rfl (fun h => ?_) (fun h => ?_)
 refine aG hn 3 [31,8,9] ?_
 refine ak ?_
 refine ah [1,2] (by kernel_rfl) (es':=[(_,_),(_,_)]) rfl ?_
 refine cq (fs:=[(8,.mkr 5 (map (int .u8) [])),(9,vi v3.2)]) (.sub _ (eP 5) rfl (.same _ .nil)) ?_
 refine ag ?_
 obtain rfl:=zi h
 exact al hio rfl (.tmp _ _ (.tmp _ _ .nil)) rfl rfl
 refine am ?_
 refine ae (ab ?_)
 obtain ⟨v5,hv5,h⟩:=zn h
 refine yx hn 0 ?_
 refine ym 1 ?_
 refine yk [28] [29] ?_
 refine mS (28,.any) (30,.mkr 5 (map (int .u8) v5)) 0 ⟨oZ _ _ _ _ _ fZ rfl rfl rfl rfl hv5 rfl⟩ ?_
 refine ya 1 ?_
 refine aV [31,8,9] ?_
 refine ak ?_
 refine ah [1,2] (by kernel_rfl) (es':=[(_,_),(_,_)]) rfl ?_
 obtain rfl:=zi h
 exact al hio rfl (.tmp _ _ (.tmp _ _ .nil)) rfl rfl
theorem nH (s:Mf) (c r:Int) (h:Sh.strings_IndexByte s c=some r):bF Tryz.prog 224 [.v (.string s),.v (.int .u8 c)] (.v (.int .i64 r)):=nf Tryz.strings_IndexByte s c r h
theorem ud (c:Int) (r:Bool) (h:Sh.ik c=some r):bF Tryz.prog 223 [.v (.int .u8 c)] (.v (.bool r)):=by
 unfold Sh.ik at h
 refine yO 10 func223 fun g0 hn hio => ?_
 refine aG hn 1 [0] ?_
 refine ab ?_
 refine aq h (fun (s3:Bool)=>[(2,vb s3)]) ?_ ?_
 rintro s3 h
 refine ae (ak ?_)
 obtain rfl:=zi h
 exact al hio rfl (.tmp _ _ .nil) rfl rfl
 intro u4 h hl5 hr6
 obtain ⟨v1,hv1,h⟩:=zn h
 refine ai h (fun hg1_2 h => ?_) (fun hg1_2 h => ?_)
 refine yx hn 1 ?_
 refine ys 1 ⟨lk call83 (eK _ _ hv1)⟩ ?_
 refine yd hg1_2 5 ?_
 refine ye [2] ?_
 exact hl5 _ (zi h).symm
 obtain ⟨v2,hv2,h⟩:=zn h
 refine yx hn 1 ?_
 refine ys 1 ⟨lk call83 (eK _ _ hv1)⟩ ?_
 refine yd hg1_2 1 ?_
 refine ys 3 ⟨lk call224 (nH _ _ _ hv2)⟩ ?_
 refine ye [2] ?_
 exact hl5 _ (zi h).symm
theorem kC (s:Mf) (r:Bool) (h:Sh.fa s=some r):bF Tryz.prog 81 [.v (.string s),.v (.func (.func 223) #[] #[])] (.v (.bool r)):=by
 unfold Sh.fa at h
 refine yO 18 func81 fun g0 hn hio => ?_
 refine aG hn 1 [0,1] ?_
 refine ab ?_
 refine aG hn 3 [0,1,7,8] ?_
 refine aS h (fun (s9:Int)=>[(0,vs s),(1,.v (.func (.func 223) #[] #[])),(7,vi (s.size:Int)),(8,vi s9)]) (fun (():Unit)=>[]) ?_ ?_
 rintro ⟨⟩ h
 refine ae ?_
 refine aG hn 1 [4] ?_
 refine ak ?_
 obtain rfl:=zi h
 exact al hio rfl (.tmp _ _ .nil) rfl rfl
 rintro u12 hl13 hr14 s9 rr17 h ho15
 refine aG hn 1 [0,1,7,8,9] ?_
 refine ab ?_
 refine zc h rfl (fun h => ?_) (fun h => ?_)
 refine am ?_
 refine ae (ab ?_)
 refine aC ?_
 refine aG hn 2 [0,1,7,8,5] ?_
 refine ab ?_
 obtain ⟨v2,hv2,v3,hv3,h⟩:=dM h
 refine yx hn 3 ?_
 refine ys 0 ⟨lh hv2⟩ ?_
 refine ys 1 ⟨lk call223 (ud _ _ hv3)⟩ ?_
 refine aV [0,1,7,8,16] ?_
 refine zc h rfl (fun h => ?_) (fun h => ?_)
 refine aG hn 1 [4] ?_
 refine ak (aF (ag (ag (aF (ag ?_)))))
 have h:=hr14 _ (ho15 _ (zi h).symm).symm
 obtain rfl:=zi h
 exact al hio rfl (.tmp _ _ .nil) rfl rfl
 refine am (aI (ae ?_))
 obtain ⟨v5,hv5,h⟩:=zn h
 refine yx hn 0 ?_
 refine ys 0 ⟨lb hv5⟩ ?_
 refine yw [8] 1 ?_
 refine ye [0,1,7,8] ?_
 exact bb _ (zi h).symm rfl
 refine ba (ap (ap (aZ ?_)))
 refine ah [] (by kernel_rfl) (es':=[]) rfl ?_
 exact hl13 _ (ho15 _ (zi h).symm).symm
theorem vX (s:Mf) (r:Bool) (h:Sh.mi s=some r):bF Tryz.prog 213 [.v (.string s)] (.v (.bool r)):=by
 unfold Sh.mi at h
 refine yO 9 func213 fun g0 hn hio => ?_
 refine aG hn 1 [0] ?_
 refine ab ?_
 refine aq h (fun (s2:Bool)=>[(2,vb s2)]) ?_ ?_
 rintro s2 h
 refine ae (ak ?_)
 obtain rfl:=zi h
 exact al hio rfl (.tmp _ _ .nil) rfl rfl
 intro u3 h hl4 hr5
 refine ai h (fun hg1_2 h => ?_) (fun hg1_2 h => ?_)
 obtain ⟨v1,hv1,h⟩:=zn h
 refine yx hn 3 ?_
 refine yd hg1_2 1 ?_
 refine ys 2 ⟨lk call81 (kC _ _ hv1)⟩ ?_
 refine ye [2] ?_
 exact hl4 _ (zi h).symm
 refine yx hn 3 ?_
 refine yd hg1_2 4 ?_
 refine ye [2] ?_
 exact hl4 _ (zi h).symm
theorem ko (mx:Int×Nat×Value) (s:Mf) (r:Bool) (h:Sh.eQ s=some r):iq Tryz.prog (GL mx) 69 [.v (.string s),.v (.func (.func 213) #[] #[])] (.v (.bool r)):=by
 unfold Sh.eQ at h
 refine yG 13 func69 fun g0 hn hio => ?_
 refine gH hn 1 ?_
 refine yS (.box 4 [vb false]) 0 ⟨oA (aT _ _ JB)⟩ ?_
 refine aV [0,13,3,4] ?_
 refine ab (ab ?_)
 obtain ⟨v1,hv1,h⟩:=zn h
 refine yx hn 1 ?_
 refine yk [] [6] ?_
 refine yt (7,.cloB 119 [.box 9 [vs v1.1],.box 9 [vs v1.2.1],.box 3 [vi v1.2.2]]) 0 ⟨gL _ _ 80 _ _ rfl call80 rfl rfl (gG s (⟨#[46]⟩:Mf) _ hv1) rfl⟩ ?_
 refine aV [13,3,4,7] ?_
 refine aC ?_
 refine jz [3,0,1,2] (by kernel_rfl) (es':=[(7,.cloB 119 [.box 9 [vs v1.1],.box 9 [vs v1.2.1],.box 3 [vi v1.2.2]]),(13,.glob (GL mx)),(3,.box 65 [.v (.func (.func 213) #[] #[])]),(4,.box 4 [vb false])]) rfl ?_
 refine iC h 119 7 8 14 _ [13,3,4] call119 (fun (():Unit)=>[(13,.glob (GL mx)),(3,.box 65 [.v (.func (.func 213) #[] #[])]),(4,.box 4 [.v (.bool false)])]) (fun (():Unit)=>[(13,.glob (GL mx)),(3,.box 65 [.v (.func (.func 213) #[] #[])]),(4,.box 4 [.v (.bool false)])]) (fun l J Y hY t t' h=>fP mx l J Y hY v1.1 v1.2.1 v1.2.2 t t' h) hn rfl (fun _=>rfl) (fun _=>rfl) (fun _=>rfl) rfl rfl (fun _=>⟨rfl,rfl⟩) rfl (iA 13 rfl) ?_ ?_ ?_
 rintro kk g0 hn hio x ⟨⟩ u h
 refine rC (es':=[(8,vs x),(13,.glob (GL mx)),(3,.box 65 [.v (.func (.func 213) #[] #[])]),(4,.box 4 [vb false]),(13,.v (kk.tm.getD 13 undef)),(3,.v (kk.tm.getD 3 undef)),(4,.v (kk.tm.getD 4 undef)),(14,.inv kk.ready)]) rfl ?_
 refine yy hn 1 [13,3,4,14,5,13,3,4] ?_
 refine ah [0,1,2,4,5,6,7,3] (by kernel_rfl) (es':=[(13,.glob (GL mx)),(3,.box 65 [.v (.func (.func 213) #[] #[])]),(4,.box 4 [vb false]),(5,vs x),(13,.v (kk.tm.getD 13 undef)),(3,.v (kk.tm.getD 3 undef)),(4,.v (kk.tm.getD 4 undef)),(14,.inv kk.ready)]) rfl ?_
 refine jQ (es:=[(13,.glob (GL mx)),(3,.box 65 [.v (.func (.func 213) #[] #[])]),(4,.box 4 [vb false]),(5,vs x),(13,.v (kk.tm.getD 13 undef)),(3,.v (kk.tm.getD 3 undef)),(4,.v (kk.tm.getD 4 undef))]) 14 rfl ?_
 refine aC (ab ?_)
 obtain ⟨v2,hv2,h⟩:=zn h
 refine yx hn 2 ?_
 refine ys 1 ⟨lk call213 (vX _ _ hv2)⟩ ?_
 refine aV [13,3,4,14,12,13,3,4] ?_
 refine zc h rfl (fun h => ?_) (fun h => ?_)
 refine aG hn 1 [13,3,4,14,13,3,4] ?_
 refine ak (aF ?_)
 refine ah [0,1,2,4,5,6,3] (by kernel_rfl) (es':=[(_,_),(_,_),(_,_),(_,_),(_,_),(_,_),(_,_)]) rfl ?_
 obtain rfl:=zi h
 exact qp 14 [13,3,4] _ rfl rfl (by kernel_rfl)
 refine am (aI ?_)
 refine ah [0,1,2,5,6,7,3] (by kernel_rfl) (es':=[(_,_),(_,_),(_,_),(_,_),(_,_),(_,_),(_,_)]) rfl ?_
 obtain rfl:=zi h
 exact jT 14 [13,3,4] _ rfl rfl (by kernel_rfl)
 rintro D ⟨⟩ h
 refine aI (ae ?_)
 refine aG hn 1 [13,4] ?_
 refine ak ?_
 refine ah [1] (by kernel_rfl) (es':=[(_,_)]) rfl ?_
 obtain rfl:=zi h
 exact al hio rfl (.cell1 _ _ _ _ underlying4 rfl .nil) rfl rfl
 rintro D ⟨⟩ h
 refine ah [2] (by kernel_rfl) (es':=[(_,_)]) rfl ?_
 refine aF (ag ?_)
 obtain rfl:=zi h
 exact al hio rfl (.cell1 _ _ _ _ underlying4 rfl .nil) rfl rfl
theorem pw (mx:Int×Nat×Value) (s:Mf) (r:Bool) (h:Sh.kO s=some r):iq Tryz.prog (GL mx) 194 [.v (.string s)] (.v (.bool r)):=by
 unfold Sh.kO at h
 refine yG 10 func194 fun g0 hn hio => ?_
 refine aG hn 1 [0,10] ?_
 refine ab ?_
 refine aq h (fun (s2:Bool)=>[(10,.glob (GL mx)),(2,vb s2)]) ?_ ?_
 rintro s2 h
 refine ae (ak ?_)
 refine ah [1] (by kernel_rfl) (es':=[(_,_)]) rfl ?_
 obtain rfl:=zi h
 exact al hio rfl (.tmp _ _ .nil) rfl rfl
 intro u3 h hl4 hr5
 refine ai h (fun hg1_3 h => ?_) (fun hg1_3 h => ?_)
 obtain ⟨v1,hv1,h⟩:=zn h
 refine yx hn 4 ?_
 refine yd hg1_3 1 ?_
 refine ys 2 ⟨lg call69 (ko _ _ _ hv1) 10⟩ ?_
 refine ye [10,2] ?_
 exact hl4 _ (zi h).symm
 refine yx hn 4 ?_
 refine yd hg1_3 4 ?_
 refine ye [10,2] ?_
 exact hl4 _ (zi h).symm
theorem cQ (mx:Int×Nat×Value) (p:T_Path) (r:Int) (h:Sh.dI p=some r):iq Tryz.prog (GL mx) 162 [.agg [.v (.bool p.LQ),.v (.string p.LM),.v (.string p.LA)]] (.v (.int .i64 r)):=by
 unfold Sh.dI at h
 refine yG 27 func162 fun g0 hn hio => ?_
 refine aG hn 2 [27,1] ?_
 refine gH hn 1 ?_
 refine yS (.agg [vb true,vs z0,vs z0]) 0 ⟨bw _ _ _ _ [1,1,1] _ _ underlying26 qk (BY _ underlying26) (.copy _ mb.nil) rfl rfl rfl⟩ ?_
 refine yS (vb ((p.LQ==true)&&((p.LM.toList==z0.toList)&&((p.LA.toList==z0.toList)&&true)))) 1 ⟨Dc _ _ [.bool p.LQ,.string p.LM,.string p.LA] [.bool true,.string z0,.string z0] (((p.LQ==true)&&((p.LM.toList==z0.toList)&&((p.LA.toList==z0.toList)&&true)))) _ false (by kernel_rfl) (by kernel_rfl) (by kernel_rfl) (by kernel_rfl) (by kernel_rfl) rfl rfl rfl rfl (by kernel_rfl) rfl⟩ ?_
 refine aV [27,1,3] ?_
 refine ab ?_
 refine aq h (fun (s3:Bool)=>[(27,.glob (GL mx)),(3,vb ((p.LQ==true)&&((p.LM.toList==z0.toList)&&((p.LA.toList==z0.toList)&&true)))),(4,vb s3)]) ?_ ?_
 rintro s3 h
 refine ae (ab ?_)
 refine ab ?_
 refine aq h (fun (s7:Bool)=>[(27,.glob (GL mx)),(26,vb s7)]) ?_ ?_
 rintro s7 h
 refine ae ?_
 refine zc h rfl (fun h => ?_) (fun h => ?_)
 refine aG hn 1 [27,2] ?_
 refine ak ?_
 refine ah [1] (by kernel_rfl) (es':=[(_,_)]) rfl ?_
 refine ag ?_
 obtain rfl:=zi h
 exact al hio rfl (.tmp _ _ .nil) rfl rfl
 refine am (ae ?_)
 refine aG hn 1 [27,2] ?_
 refine ak ?_
 refine ah [1] (by kernel_rfl) (es':=[(_,_)]) rfl ?_
 obtain rfl:=zi h
 exact al hio rfl (.tmp _ _ .nil) rfl rfl
 intro u8 h hl9 hr10
 refine ai h (fun hg3_2 h => ?_) (fun hg3_2 h => ?_)
 refine yx hn 3 ?_
 refine yd hg3_2 3 ?_
 refine ye [27,26] ?_
 exact hl9 _ (zi h).symm
 refine yx hn 3 ?_
 refine yd hg3_2 3 ?_
 refine ye [27,26] ?_
 exact hl9 _ (zi h).symm
 intro u4 h hl5 hr6
 refine ai h (fun hg2_3 h => ?_) (fun hg2_3 h => ?_)
 obtain ⟨v1,hv1,h⟩:=zn h
 refine ai h (fun hg2_8 h => ?_) (fun hg2_8 h => ?_)
 obtain ⟨v2,hv2,h⟩:=zn h
 refine yx hn 4 ?_
 refine yd hg2_3 2 ?_
 refine ys 2 ⟨lg call194 (pw _ _ _ hv1) 27⟩ ?_
 refine yd hg2_8 2 ?_
 refine ys 2 ⟨lg call55 (cb _ _ _ hv2) 27⟩ ?_
 refine ye [27,3,4] ?_
 exact hl5 _ (zi h).symm
 refine yx hn 4 ?_
 refine yd hg2_3 2 ?_
 refine ys 2 ⟨lg call194 (pw _ _ _ hv1) 27⟩ ?_
 refine yd hg2_8 5 ?_
 refine ye [27,3,4] ?_
 exact hl5 _ (zi h).symm
 refine yx hn 4 ?_
 refine yd hg2_3 10 ?_
 refine ye [27,3,4] ?_
 exact hl5 _ (zi h).symm
theorem jh (mx:Int×Nat×Value) (m:az) (r:Bool) (h:Sh.gf m=some r):iq Tryz.prog (GL mx) 201 [.agg [.v (.bool m.LD.LQ),.v (.string m.LD.LM),.v (.string m.LD.LA),.fl .shr 3 (flatten (map T_Path.enc m.To)),.fl .shr 1 (map (int .u8) m.Lw),.v (.bool m.LY),.v (.string m.LI),.v (.int .i64 m.At)]] (.v (.bool r)):=by
 unfold Sh.gf at h
 refine yG 36 func201 fun g0 hn hio => ?_
 refine aG hn 2 [36,1] ?_
 refine ab (ab ?_)
 refine aq h (fun (s2:Bool)=>[(36,.glob (GL mx)),(1,.box 53 (az.c m [])),(20,vb s2)]) ?_ ?_
 rintro s2 h
 refine ae ?_
 refine zc h rfl (fun h => ?_) (fun h => ?_)
 refine aG hn 1 [36,2] ?_
 refine ak ?_
 refine ah [1] (by kernel_rfl) (es':=[(_,_)]) rfl ?_
 refine ag ?_
 obtain rfl:=zi h
 exact al hio rfl (.tmp _ _ .nil) rfl rfl
 refine am ?_
 refine ae (ab ?_)
 refine aG hn 4 [36,22,23,24] ?_
 refine aS h (fun (s24:Int)=>[(36,.glob (GL mx)),(22,.fl .shr 3 (flatten (map T_Path.enc m.To))),(23,vi (m.To.length:Int)),(24,vi s24)]) (fun (():Unit)=>[(36,.glob (GL mx))]) ?_ ?_
 rintro ⟨⟩ h
 refine ae ?_
 refine aG hn 1 [36,2] ?_
 refine ak ?_
 refine ah [1] (by kernel_rfl) (es':=[(_,_)]) rfl ?_
 obtain rfl:=zi h
 exact al hio rfl (.tmp _ _ .nil) rfl rfl
 rintro u31 hl32 hr33 s24 rr36 h ho34
 refine aG hn 1 [36,22,23,24,25] ?_
 refine ab ?_
 refine zc h rfl (fun h => ?_) (fun h => ?_)
 refine am ?_
 refine ae (ab ?_)
 refine aC (ab ?_)
 obtain ⟨v8,hv8,v9,hv9,h⟩:=dM h
 refine yx hn 0 ?_
 refine ys 0 ⟨lj hv8⟩ ?_
 refine yS (.agg [vb v9.LQ,vs v9.LM,vs v9.LA]) 0 ⟨fy _ _ _ _ _ _ _ underlying26 rfl pD rfl rfl (gM T_Path.len hv9) rfl (by decide)⟩ ?_
 refine yS (.box 26 [vb false,vs z0,vs z0]) 1 ⟨oA (aT _ _ qk)⟩ ?_
 refine aV [36,22,23,24,4] ?_
 refine ab ?_
 refine aq h (fun (s38:Bool)=>[(36,.glob (GL mx)),(22,.fl .shr 3 (flatten (map T_Path.enc m.To))),(23,vi (m.To.length:Int)),(24,vi s24),(34,vb s38)]) ?_ ?_
 rintro s38 h
 refine ae ?_
 refine zc h rfl (fun h => ?_) (fun h => ?_)
 refine aG hn 1 [36,2] ?_
 refine ak ?_
 refine ah [1] (by kernel_rfl) (es':=[(_,_)]) rfl ?_
 refine aF (ag (ag (aF (ag ?_))))
 have h:=hr33 _ (ho34 _ (zi h).symm).symm
 obtain rfl:=zi h
 exact al hio rfl (.tmp _ _ .nil) rfl rfl
 refine am (aI (ae ?_))
 obtain ⟨v16,hv16,h⟩:=zn h
 refine yx hn 0 ?_
 refine ys 0 ⟨lb hv16⟩ ?_
 refine yw [24] 1 ?_
 refine ye [36,22,23,24] ?_
 exact bb _ (zi h).symm rfl
 intro u39 h hl40 hr41
 obtain ⟨v10,hv10,h⟩:=zn h
 refine ai h (fun hg6_3 h => ?_) (fun hg6_3 h => ?_)
 refine yx hn 1 ?_
 refine ys 2 ⟨lg call162 (cQ _ _ _ hv10) 36⟩ ?_
 refine yd hg6_3 3 ?_
 refine ye [36,22,23,24,34] ?_
 exact hl40 _ (zi h).symm
 refine yx hn 1 ?_
 refine ys 2 ⟨lg call162 (cQ _ _ _ hv10) 36⟩ ?_
 refine yd hg6_3 3 ?_
 refine ye [36,22,23,24,34] ?_
 exact hl40 _ (zi h).symm
 refine ba (ap (ap (aZ ?_)))
 refine ah [0] (by kernel_rfl) (es':=[(_,_)]) rfl ?_
 exact hl32 _ (ho34 _ (zi h).symm).symm
 intro u3 h hl4 hr5
 obtain ⟨v1,hv1,h⟩:=zn h
 refine ai h (fun hg1_4 h => ?_) (fun hg1_4 h => ?_)
 refine yx hn 2 ?_
 refine ys 2 ⟨lg call162 (cQ _ _ _ hv1) 36⟩ ?_
 refine yd hg1_4 11 ?_
 refine ye [36,1,20] ?_
 exact hl4 _ (zi h).symm
 refine ai h (fun hg1_10 h => ?_) (fun hg1_10 h => ?_)
 refine yx hn 2 ?_
 refine ys 2 ⟨lg call162 (cQ _ _ _ hv1) 36⟩ ?_
 refine yd hg1_4 6 ?_
 refine yd hg1_10 5 ?_
 refine ye [36,1,20] ?_
 exact hl4 _ (zi h).symm
 refine yx hn 2 ?_
 refine ys 2 ⟨lg call162 (cQ _ _ _ hv1) 36⟩ ?_
 refine yd hg1_4 6 ?_
 refine yd hg1_10 5 ?_
 refine ye [36,1,20] ?_
 exact hl4 _ (zi h).symm
theorem eX (mx:Int×Nat×Value) (m:az) (r:Bool) (h:Sh.fm m=some r):iq Tryz.prog (GL mx) 178 [.agg [.v (.bool m.LD.LQ),.v (.string m.LD.LM),.v (.string m.LD.LA),.fl .shr 3 (flatten (map T_Path.enc m.To)),.fl .shr 1 (map (int .u8) m.Lw),.v (.bool m.LY),.v (.string m.LI),.v (.int .i64 m.At)]] (.v (.bool r)):=by
 unfold Sh.fm at h
 refine yG 17 func178 fun g0 hn hio => ?_
 refine aG hn 2 [17,1] ?_
 refine ab ?_
 refine aq h (fun (s3:Bool)=>[(17,.glob (GL mx)),(2,vb s3)]) ?_ ?_
 rintro s3 h
 refine ae (ak ?_)
 refine ah [1] (by kernel_rfl) (es':=[(_,_)]) rfl ?_
 obtain rfl:=zi h
 exact al hio rfl (.tmp _ _ .nil) rfl rfl
 intro u4 h hl5 hr6
 obtain ⟨v1,hv1,h⟩:=zn h
 refine ai h (fun hg1_2 h => ?_) (fun hg1_2 h => ?_)
 refine ai h (fun hg1_8 h => ?_) (fun hg1_8 h => ?_)
 obtain ⟨v2,hv2,h⟩:=zn h
 refine yx hn 1 ?_
 refine ys 1 ⟨lg call201 (jh _ _ _ hv1) 17⟩ ?_
 refine yd hg1_2 6 ?_
 refine yd hg1_8 2 ?_
 refine ys 3 ⟨lg call95 (jB _ _ _ hv2) 17⟩ ?_
 refine ye [17,2] ?_
 exact hl5 _ (zi h).symm
 refine yx hn 1 ?_
 refine ys 1 ⟨lg call201 (jh _ _ _ hv1) 17⟩ ?_
 refine yd hg1_2 6 ?_
 refine yd hg1_8 6 ?_
 refine ye [17,2] ?_
 exact hl5 _ (zi h).symm
 refine yx hn 1 ?_
 refine ys 1 ⟨lg call201 (jh _ _ _ hv1) 17⟩ ?_
 refine yd hg1_2 12 ?_
 refine ye [17,2] ?_
 exact hl5 _ (zi h).symm
theorem rX (mx:Int×Nat×Value) (b:bD) (r:Int) (h:Sh.iW b=some r):iq Tryz.prog (GL mx) 151 [.agg [.v (.int .i64 b.LS),.v (.int .i64 b.LR),.fr .shr true 8 (flatten (map az.ienc b.LP))]] (.v (.int .i64 r)):=by
 unfold Sh.iW at h
 refine yG 58 func151 fun g0 hn hio => ?_
 refine aG hn 2 [58,1] ?_
 refine ab (ab ?_)
 refine aq h (fun (s1:Bool)=>[(58,.glob (GL mx)),(1,.box 62 [vi b.LS,vi b.LR,.fr .shr true 8 (flatten (map az.ienc b.LP))]),(22,vb s1)]) ?_ ?_
 rintro s1 h
 refine ae ?_
 refine zc h rfl (fun h => ?_) (fun h => ?_)
 refine aG hn 1 [58,2] ?_
 refine ak ?_
 refine ah [1] (by kernel_rfl) (es':=[(_,_)]) rfl ?_
 refine ag ?_
 obtain rfl:=zi h
 exact al hio rfl (.tmp _ _ .nil) rfl rfl
 refine am ?_
 refine ae (ab ?_)
 refine ab ?_
 refine aq h (fun (s6:Bool)=>[(58,.glob (GL mx)),(1,.box 62 [vi b.LS,vi b.LR,.fr .shr true 8 (flatten (map az.ienc b.LP))]),(32,vb s6)]) ?_ ?_
 rintro s6 h
 refine ae ?_
 refine zc h rfl (fun h => ?_) (fun h => ?_)
 refine aG hn 1 [58,2] ?_
 refine ak ?_
 refine ah [1] (by kernel_rfl) (es':=[(_,_)]) rfl ?_
 refine ag ?_
 obtain rfl:=zi h
 exact al hio rfl (.tmp _ _ .nil) rfl rfl
 refine am ?_
 refine ae (ab ?_)
 refine aG hn 4 [58,34,35,36] ?_
 refine aS h (fun (s28:Int)=>[(58,.glob (GL mx)),(34,.fr .shr true 8 (flatten (map az.ienc b.LP))),(35,vi (b.LP.length:Int)),(36,vi s28)]) (fun (():Unit)=>[(58,.glob (GL mx))]) ?_ ?_
 rintro ⟨⟩ h
 refine ae ?_
 refine aG hn 1 [58,2] ?_
 refine ak ?_
 refine ah [1] (by kernel_rfl) (es':=[(_,_)]) rfl ?_
 obtain rfl:=zi h
 exact al hio rfl (.tmp _ _ .nil) rfl rfl
 rintro u35 hl36 hr37 s28 rr40 h ho38
 refine aG hn 1 [58,34,35,36,37] ?_
 refine ab ?_
 refine zc h rfl (fun h => ?_) (fun h => ?_)
 refine am ?_
 refine ae (ab ?_)
 refine aC (ab ?_)
 obtain ⟨v12,hv12,v13,hv13,h⟩:=dM h
 refine yx hn 0 ?_
 refine ys 0 ⟨lI hv12⟩ ?_
 refine yS (.agg (az.c v13 [])) 0 ⟨jF _ _ _ _ _ _ _ _ underlying53 rfl qW rfl rfl (kt az.ilen hv13) (.cons (.v _) (.cons (.v _) (.cons (.v _) (.cons (.fl _ _ rfl) (.cons (.fl _ _ rfl) (.cons (.v _) (.cons (.v _) (.cons (.v _) (.nil))))))))) rfl (by decide)⟩ ?_
 refine yS (.box 53 [vb false,vs z0,vs z0,vz,vz,vb false,vs z0,vi 0]) 1 ⟨oA (aT _ _ rU)⟩ ?_
 refine aV [58,34,35,36,4] ?_
 refine ab ?_
 refine aq h (fun (s42:Bool)=>[(58,.glob (GL mx)),(34,.fr .shr true 8 (flatten (map az.ienc b.LP))),(35,vi (b.LP.length:Int)),(36,vi s28),(56,vb s42)]) ?_ ?_
 rintro s42 h
 refine ae ?_
 refine zc h rfl (fun h => ?_) (fun h => ?_)
 refine aG hn 1 [58,2] ?_
 refine ak ?_
 refine ah [1] (by kernel_rfl) (es':=[(_,_)]) rfl ?_
 refine aF (ag (ag (aF (ag ?_))))
 have h:=hr37 _ (ho38 _ (zi h).symm).symm
 obtain rfl:=zi h
 exact al hio rfl (.tmp _ _ .nil) rfl rfl
 refine am (aI (ae ?_))
 obtain ⟨v20,hv20,h⟩:=zn h
 refine yx hn 0 ?_
 refine ys 0 ⟨lb hv20⟩ ?_
 refine yw [36] 1 ?_
 refine ye [58,34,35,36] ?_
 exact bb _ (zi h).symm rfl
 intro u43 h hl44 hr45
 obtain ⟨v14,hv14,h⟩:=zn h
 refine ai h (fun hg8_3 h => ?_) (fun hg8_3 h => ?_)
 refine yx hn 1 ?_
 refine ys 2 ⟨lg call178 (eX _ _ _ hv14) 58⟩ ?_
 refine yd hg8_3 13 ?_
 refine ye [58,34,35,36,56] ?_
 exact hl44 _ (zi h).symm
 refine ai h (fun hg8_7 h => ?_) (fun hg8_7 h => ?_)
 refine yx hn 1 ?_
 refine ys 2 ⟨lg call178 (eX _ _ _ hv14) 58⟩ ?_
 refine yd hg8_3 4 ?_
 refine yd hg8_7 9 ?_
 refine ye [58,34,35,36,56] ?_
 exact hl44 _ (zi h).symm
 refine ai h (fun hg8_12 h => ?_) (fun hg8_12 h => ?_)
 refine yx hn 1 ?_
 refine ys 2 ⟨lg call178 (eX _ _ _ hv14) 58⟩ ?_
 refine yd hg8_3 4 ?_
 refine yd hg8_7 5 ?_
 refine yd hg8_12 4 ?_
 refine ye [58,34,35,36,56] ?_
 exact hl44 _ (zi h).symm
 refine yx hn 1 ?_
 refine ys 2 ⟨lg call178 (eX _ _ _ hv14) 58⟩ ?_
 refine yd hg8_3 4 ?_
 refine yd hg8_7 5 ?_
 refine yd hg8_12 4 ?_
 refine ye [58,34,35,36,56] ?_
 exact hl44 _ (zi h).symm
 refine ba (ap (ap (aZ ?_)))
 refine ah [0] (by kernel_rfl) (es':=[(_,_)]) rfl ?_
 exact hl36 _ (ho38 _ (zi h).symm).symm
 intro u7 h hl8 hr9
 refine ai h (fun hg3_4 h => ?_) (fun hg3_4 h => ?_)
 refine yx hn 5 ?_
 refine yd hg3_4 5 ?_
 refine ye [58,1,32] ?_
 exact hl8 _ (zi h).symm
 refine yx hn 5 ?_
 refine yd hg3_4 5 ?_
 refine ye [58,1,32] ?_
 exact hl8 _ (zi h).symm
 intro u2 h hl3 hr4
 refine ai h (fun hg1_3 h => ?_) (fun hg1_3 h => ?_)
 refine ai h (fun hg1_8 h => ?_) (fun hg1_8 h => ?_)
 refine yx hn 4 ?_
 refine yd hg1_3 5 ?_
 refine yd hg1_8 9 ?_
 refine ye [58,1,22] ?_
 exact hl3 _ (zi h).symm
 refine ai h (fun hg1_13 h => ?_) (fun hg1_13 h => ?_)
 refine yx hn 4 ?_
 refine yd hg1_3 5 ?_
 refine yd hg1_8 5 ?_
 refine yd hg1_13 4 ?_
 refine ye [58,1,22] ?_
 exact hl3 _ (zi h).symm
 refine yx hn 4 ?_
 refine yd hg1_3 5 ?_
 refine yd hg1_8 5 ?_
 refine yd hg1_13 4 ?_
 refine ye [58,1,22] ?_
 exact hl3 _ (zi h).symm
 refine ai h (fun hg1_13 h => ?_) (fun hg1_13 h => ?_)
 refine yx hn 4 ?_
 refine yd hg1_3 10 ?_
 refine yd hg1_13 4 ?_
 refine ye [58,1,22] ?_
 exact hl3 _ (zi h).symm
 refine yx hn 4 ?_
 refine yd hg1_3 10 ?_
 refine yd hg1_13 4 ?_
 refine ye [58,1,22] ?_
 exact hl3 _ (zi h).symm
theorem vU (mx:Int×Nat×Value) (p:T_Path) (r:(Mf×Int)) (h:Sh.lZ p=some r):iq Tryz.prog (GL mx) 180 [.agg [.v (.bool p.LQ),.v (.string p.LM),.v (.string p.LA)]] (.tup [.v (.string r.1),.v (.int .i64 r.2)]):=by
 unfold Sh.lZ at h
 refine yG 20 func180 fun g0 hn hio => ?_
 refine aG hn 3 [20,1] ?_
 refine ab (ab ?_)
 obtain ⟨v1,hv1,h⟩:=zn h
 refine yx hn 1 ?_
 refine ys 1 ⟨lg call162 (cQ _ _ _ hv1) 20⟩ ?_
 refine aV [20,1,4] ?_
 refine aG hn 2 [20,1,4,8] ?_
 refine zc h rfl (fun h => ?_) (fun h => ?_)
 refine aG hn 3 [20,2,3] ?_
 refine ak ?_
 refine ah [1,2] (by kernel_rfl) (es':=[(_,_),(_,_)]) rfl ?_
 refine ag ?_
 obtain rfl:=zi h
 exact al hio rfl (.tmp _ _ (.tmp _ _ .nil)) rfl rfl
 refine am ?_
 refine ae (ab ?_)
 refine aG hn 2 [20,1,11] ?_
 refine zc h rfl (fun h => ?_) (fun h => ?_)
 refine aG hn 2 [20,2,3] ?_
 refine ak ?_
 refine ah [1,2] (by kernel_rfl) (es':=[(_,_),(_,_)]) rfl ?_
 refine ag ?_
 obtain rfl:=zi h
 exact al hio rfl (.tmp _ _ (.tmp _ _ .nil)) rfl rfl
 refine am ?_
 refine ae (ab ?_)
 obtain ⟨v4,hv4,v5,hv5,v6,hv6,v7,hv7,h⟩:=jX h
 refine yx hn 2 ?_
 refine ys 0 ⟨lB (bu hv4)⟩ ?_
 refine ys 2 ⟨lB (bu hv5)⟩ ?_
 refine ys 0 ⟨lB (bu hv6)⟩ ?_
 refine ys 2 ⟨lB (bu hv7)⟩ ?_
 refine aV [20,2,3] ?_
 refine ak ?_
 refine ah [1,2] (by kernel_rfl) (es':=[(_,_),(_,_)]) rfl ?_
 obtain rfl:=zi h
 exact al hio rfl (.tmp _ _ (.tmp _ _ .nil)) rfl rfl
theorem gK (mx:Int×Nat×Value) (word:Mf) (p:T_Path) (cap:(List Int)) (r:(List Int)) (h:Sh.cz word p cap=some r):ny Tryz.prog (GL mx) 179 [.v (.string word),.agg [.v (.bool p.LQ),.v (.string p.LM),.v (.string p.LA)],.box 28 [.fl (.own 5) 1 (map (int .u8) cap)]] [.v (.string word),.agg [.v (.bool p.LQ),.v (.string p.LM),.v (.string p.LA)],.box 28 [.fl (.own 5) 1 (map (int .u8) r)]] (.tup []):=by
 unfold Sh.cz at h
 refine DZ 18 func179 fun args0 hargs0 g0 hn hio => ?_
 refine aG hn 1 [0,1,2,18,4,0,1,2] ?_
 refine ab ?_
 obtain ⟨v1,hv1,h⟩:=zn h
 refine yx hn 1 ?_
 refine ys 0 ⟨lg call180 (vU _ _ _ hv1) 18⟩ ?_
 refine ym 4 ?_
 refine aV [0,1,2,18,5,0,1,2] ?_
 obtain ⟨v2,hv2,v3,hv3,v4,hv4,h⟩:=ng h
 refine yx hn 3 ?_
 refine ys 0 ⟨lB (bu hv2)⟩ ?_
 refine ys 0 ⟨lB (bu hv3)⟩ ?_
 refine yk [2] [12,16] ?_
 refine mS (2,.box 28 [.any]) (17,.fl (.own 5) 1 (map (int .u8) v4)) 0 ⟨ew _ _ _ _ _ _ fZ rM underlying9 rfl rfl (zl rfl) rfl rfl hv4 rfl (Nat.ne_of_beq_eq_false rfl) rfl rfl⟩ ?_
 refine yw [12] 0 ?_
 refine yk [17,2] [] ?_
 refine yt (2,.box 28 [.fl (.own 5) 1 (map (int .u8) v4)]) 0 ⟨aM _ _ _ _ _ _ _ _ lu rfl rfl rfl (zl rfl) rfl rfl⟩ ?_
 refine ye [0,1,2,18,0,1,2] ?_
 refine ah [0,1,2,4,5,6] (by kernel_rfl) (es':=[(_,_),(_,_),(_,_),(_,_),(_,_),(_,_)]) rfl ?_
 obtain rfl:=zi h
 exact kY (es:=[]) (posts:=[.v (.string word),.agg [.v (.bool p.LQ),.v (.string p.LM),.v (.string p.LA)],.box 28 [.fl (.own 5) 1 (map (int .u8) v4)]]) hio rfl rfl .nil rfl rfl hargs0 rfl
theorem uo (mx:Int×Nat×Value) (b:(List Int)) (r:((List Int)×Int)) (h:Sh.kP b=some r):iq Tryz.prog (GL mx) 181 [.fl .shr 1 (map (int .u8) b)] (.tup [.fl (.own 5) 1 (map (int .u8) r.1),.v (.int .i64 r.2)]):=by
 unfold Sh.kP at h
 refine yG 28 func181 fun g0 hn hio => ?_
 refine aG hn 2 [0,28] ?_
 refine ab (ab ?_)
 obtain ⟨v1,hv1,h⟩:=zn h
 refine yx hn 1 ?_
 refine ys 1 ⟨lg call95 (jB _ _ _ hv1) 28⟩ ?_
 refine aV [0,28,4] ?_
 refine aG hn 2 [0,28,4,10] ?_
 refine zc h rfl (fun h => ?_) (fun h => ?_)
 refine aG hn 3 [28,2,3] ?_
 refine ak ?_
 refine ah [1,2] (by kernel_rfl) (es':=[(_,_),(_,_)]) rfl ?_
 refine cq (fs:=[(2,.fl (.own 5) 1 (map (int .u8) [])),(3,vi v1)]) (.sub _ (bL 5 1) rfl (.same _ .nil)) ?_
 refine ag ?_
 obtain rfl:=zi h
 exact al hio rfl (.tmp _ _ (.tmp _ _ .nil)) rfl rfl
 refine am (ae ?_)
 refine gH hn 0 ?_
 refine yS (.box 28 [vz]) 0 ⟨oA (aT _ _ FI)⟩ ?_
 refine aV [0,28,5] ?_
 refine ab (ab ?_)
 obtain ⟨v3,hv3,h⟩:=zn h
 refine yx hn 1 ?_
 refine yk [] [12] ?_
 refine yt (13,.cloB 123 [.box 28 [fb v3]]) 0 ⟨gL _ _ 96 _ _ rfl call96 rfl rfl (gO b _ hv3) rfl⟩ ?_
 refine aV [28,5,13] ?_
 refine aC ?_
 refine jz [2,0,1] (by kernel_rfl) (es':=[(13,.cloB 123 [.box 28 [fb v3]]),(28,.glob (GL mx)),(5,.box 28 [vz])]) rfl ?_
 refine mK (fs:=[(13,.cloB 123 [.box 28 [fb v3]]),(28,.glob (GL mx)),(5,.box 28 [.fl (.own 5) 1 (map (int .u8) [])])]) (.same _ (.same _ (.box _ _ (af (bL 5 1) (bC)) rfl .nil))) ?_
 refine iC h 123 13 14 29 _ [28,5] call123 (fun (s21:(List Int))=>[(28,.glob (GL mx)),(5,.box 28 [.fl (.own 5) 1 (map (int .u8) s21)])]) (fun (():Unit)=>[]) (fun l J Y hY t t' h=>fI mx l J Y hY v3 t t' h) hn rfl (fun _=>rfl) (fun _=>rfl) (fun _=>rfl) rfl rfl (fun _=>⟨rfl,rfl⟩) rfl (iA 28 rfl) ?_ ?_ ?_
 rintro kk g0 hn hio x s21 u h
 refine rC (es':=[(14,fb x),(28,.glob (GL mx)),(5,.box 28 [.fl (.own 5) 1 (map (int .u8) s21)]),(28,.v (kk.tm.getD 28 undef)),(5,.v (kk.tm.getD 5 undef)),(29,.inv kk.ready)]) rfl ?_
 refine yy hn 1 [28,5,29,6,28,5] ?_
 refine ah [0,1,3,4,5,2] (by kernel_rfl) (es':=[(28,.glob (GL mx)),(5,.box 28 [.fl (.own 5) 1 (map (int .u8) s21)]),(6,fb x),(28,.v (kk.tm.getD 28 undef)),(5,.v (kk.tm.getD 5 undef)),(29,.inv kk.ready)]) rfl ?_
 refine jQ (es:=[(28,.glob (GL mx)),(5,.box 28 [.fl (.own 5) 1 (map (int .u8) s21)]),(6,fb x),(28,.v (kk.tm.getD 28 undef)),(5,.v (kk.tm.getD 5 undef))]) 29 rfl ?_
 refine aC (ab ?_)
 refine aq h (fun (s29:(List Int))=>[(28,.glob (GL mx)),(5,.box 28 [.fl (.own 5) 1 (map (int .u8) s29)]),(6,fb x),(29,.inv kk.busy),(28,.v (kk.tm.getD 28 undef)),(5,.v (kk.tm.getD 5 undef))]) ?_ ?_
 rintro s29 h
 refine ae (ab ?_)
 obtain ⟨v12,hv12,h⟩:=zn h
 refine yx hn 2 ?_
 refine yk [5] [21,22] ?_
 refine mS (5,.box 28 [.any]) (23,.fl (.own 5) 1 (map (int .u8) v12)) 0 ⟨iu _ _ _ _ _ _ fZ rfl rfl (zl rfl) rfl (eW _) (eW _) hv12 ((List.map_append).symm.trans (congrArg (map _) (iY hv12))) (Nat.ne_of_beq_eq_false rfl) rfl rfl⟩ ?_
 refine yw [21] 0 ?_
 refine yk [23,5] [] ?_
 refine yt (5,.box 28 [.fl (.own 5) 1 (map (int .u8) v12)]) 0 ⟨aM _ _ _ _ _ _ _ _ lu rfl rfl rfl (zl rfl) rfl rfl⟩ ?_
 refine aV [28,5,29,28,5] ?_
 obtain ⟨v13,hv13,h⟩:=zn h
 refine yx hn 1 ?_
 refine yk [5] [24] ?_
 refine mS (5,.box 28 [.any]) (25,.fl (.own 5) 1 (map (int .u8) v13)) 0 ⟨ew _ _ _ _ _ _ fZ rM underlying9 rfl rfl (zl rfl) rfl rfl hv13 rfl (Nat.ne_of_beq_eq_false rfl) rfl rfl⟩ ?_
 refine yw [24] 0 ?_
 refine yk [25,5] [] ?_
 refine yt (5,.box 28 [.fl (.own 5) 1 (map (int .u8) v13)]) 0 ⟨aM _ _ _ _ _ _ _ _ lu rfl rfl rfl (zl rfl) rfl rfl⟩ ?_
 refine ye [28,5,29,28,5] ?_
 refine aI ?_
 refine ah [0,1,3,4,2] (by kernel_rfl) (es':=[(_,_),(_,_),(_,_),(_,_),(_,_)]) rfl ?_
 obtain rfl:=zi h
 exact jT 29 [28,5] _ rfl rfl (by kernel_rfl)
 intro u30 h hl31 hr32
 refine ab ?_
 obtain ⟨v4,hv4,h⟩:=zn h
 refine yx hn 1 ?_
 refine yS (.fl (.own 5) 1 (map (int .u8) [46])) 0 ⟨bf _ _ 1 (.int .u8 0) (map (int .u8) [46]) [(0,.int .u8 46)] underlying28 lJ rM (fun _ V w o a hv hes=>by simp only [List.map_toArray,List.map_cons,List.map_nil]; try rfl) (cN (by simp [Instr.fill,Value.cells]; rfl) (by simp [List.range,List.range.loop] <;> rfl)) (by simp [Value.oneCell']) rfl (by decide) (by decide) (by decide)⟩ ?_
 refine yk [16] [] ?_
 refine yt (17,.fl .ro 1 (map (int .u8) [46])) 0 ⟨gw _ _ _ underlying28 underlying5 (by intro h; cases h)⟩ ?_
 refine ys 0 ⟨lk call124 (kD _ _ _ hv4)⟩ ?_
 refine aV [28,5,6,29,18,28,5] ?_
 refine zc h rfl (fun h => ?_) (fun h => ?_)
 obtain ⟨v6,hv6,h⟩:=zn h
 refine yx hn 1 ?_
 refine yk [5] [19] ?_
 refine mS (5,.box 28 [.any]) (20,.fl (.own 5) 1 (map (int .u8) v6)) 0 ⟨ew _ _ _ _ _ _ fZ rM underlying9 rfl rfl (zl rfl) rfl rfl hv6 rfl (Nat.ne_of_beq_eq_false rfl) rfl rfl⟩ ?_
 refine yw [19] 0 ?_
 refine yk [20,5] [] ?_
 refine yt (5,.box 28 [.fl (.own 5) 1 (map (int .u8) v6)]) 0 ⟨aM _ _ _ _ _ _ _ _ lu rfl rfl rfl (zl rfl) rfl rfl⟩ ?_
 refine ye [28,5,6,29,28,5] ?_
 exact hl31 _ (zi h).symm
 refine am ?_
 refine ah [0,1,2,3,5,6] (by kernel_rfl) (es':=[(_,_),(_,_),(_,_),(_,_),(_,_),(_,_)]) rfl ?_
 exact hl31 _ (zi h).symm
 rintro D s21 h
 refine aI ?_
 refine ae (ab ?_)
 obtain ⟨v34,hv34,h⟩:=zn h
 refine yx hn 1 ?_
 refine yk [5] [26] ?_
 refine mS (5,.box 28 [.any]) (27,.fl (.own 5) 1 (map (int .u8) v34)) 0 ⟨ew _ _ _ _ _ _ fZ rM underlying9 rfl rfl (zl rfl) rfl rfl hv34 rfl (Nat.ne_of_beq_eq_false rfl) rfl rfl⟩ ?_
 refine ya 1 ?_
 refine aV [28,2,3] ?_
 refine ak ?_
 refine ah [1,2] (by kernel_rfl) (es':=[(_,_),(_,_)]) rfl ?_
 obtain rfl:=zi h
 exact al hio rfl (.tmp _ _ (.tmp _ _ .nil)) rfl rfl
 rintro D ⟨⟩ h
 cases h
theorem pR (mx:Int×Nat×Value) (mails:(List az)) (r:(List Int)) (h:Sh.fG mails=some r):iq Tryz.prog (GL mx) 152 [.fr .shr true 8 (flatten (map az.ienc mails))] (.fl (.own 5) 1 (map (int .u8) r)):=by
 unfold Sh.fG at h
 refine yG 47 func152 fun g0 hn hio => ?_
 refine aG hn 1 [0,47] ?_
 refine gH hn 0 ?_
 refine yS (.box 28 [vz]) 0 ⟨oA (aT _ _ FI)⟩ ?_
 refine aV [0,47,3] ?_
 refine gH hn 0 ?_
 refine yS (.clo 179 [3]) 1 ⟨lW _ _ _ 3 (by decide)⟩ ?_
 refine aV [0,47,3,4] ?_
 refine ab ?_
 refine aG hn 3 [47,3,4,12,13,14] ?_
 refine mK (fs:=[(47,.glob (GL mx)),(3,.box 28 [.fl (.own 5) 1 (map (int .u8) [])]),(4,.clo 179 [3]),(12,.fr .shr true 8 (flatten (map az.ienc mails))),(13,vi (mails.length:Int)),(14,vi 0)]) (.same _ (.box _ _ (af (bL 5 1) (bC)) rfl (.same _ (.same _ (.same _ (.same _ .nil)))))) ?_
 refine aS h (fun ((s46,s47):(List Int)×Int)=>[(47,.glob (GL mx)),(3,.box 28 [.fl (.own 5) 1 (map (int .u8) s46)]),(4,.clo 179 [3]),(12,.fr .shr true 8 (flatten (map az.ienc mails))),(13,vi (mails.length:Int)),(14,vi s47)]) (fun (s64:(List Int))=>[(47,.glob (GL mx)),(3,.box 28 [.fl (.own 5) 1 (map (int .u8) s64)])]) ?_ ?_
 rintro s64 h
 refine ae (ab ?_)
 obtain ⟨v87,hv87,h⟩:=zn h
 refine yx hn 1 ?_
 refine yk [3] [45] ?_
 refine mS (3,.box 28 [.any]) (46,.fl (.own 5) 1 (map (int .u8) v87)) 0 ⟨ew _ _ _ _ _ _ fZ rM underlying9 rfl rfl (zl rfl) rfl rfl hv87 rfl (Nat.ne_of_beq_eq_false rfl) rfl rfl⟩ ?_
 refine ya 0 ?_
 refine aV [47,2] ?_
 refine ak ?_
 refine ah [1] (by kernel_rfl) (es':=[(_,_)]) rfl ?_
 obtain rfl:=zi h
 exact al hio rfl (.tmp _ _ .nil) rfl rfl
 rintro u65 hl66 hr67 ⟨s46,s47⟩ rr70 h ho68
 refine aG hn 1 [47,3,4,12,13,14,15] ?_
 refine ab ?_
 refine zc h rfl (fun h => ?_) (fun h => ?_)
 refine am ?_
 refine ae (ab ?_)
 refine aC (ab ?_)
 obtain ⟨v2,hv2,v3,hv3,h⟩:=dM h
 refine yx hn 0 ?_
 refine ys 0 ⟨lI hv2⟩ ?_
 refine yS (.agg (az.c v3 [])) 0 ⟨jF _ _ _ _ _ _ _ _ underlying53 rfl qW rfl rfl (kt az.ilen hv3) (.cons (.v _) (.cons (.v _) (.cons (.v _) (.cons (.fl _ _ rfl) (.cons (.fl _ _ rfl) (.cons (.v _) (.cons (.v _) (.cons (.v _) (.nil))))))))) rfl (by decide)⟩ ?_
 refine yS (.box 53 [vb false,vs z0,vs z0,vz,vz,vb false,vs z0,vi 0]) 1 ⟨oA (aT _ _ rU)⟩ ?_
 refine aV [47,3,4,12,13,14,6] ?_
 refine ab ?_
 obtain ⟨v4,hv4,h⟩:=zn h
 refine yx hn 3 ?_
 refine yk [3] [18,20,47] ?_
 refine mS (3,.box 28 [.fl (.own 5) 1 (map (int .u8) v4)]) (21,.tup []) 0 ⟨uN _ _ _ 21 18 3 47 179 [_,.tmp 20] _ _ _ _ rfl call179 rfl rfl rfl (fun _ h=>h) (gK mx (⟨#[77,65,73,76,32,70,82,79,77,58]⟩:Mf) (T_Path.mk v3.LD.LQ v3.LD.LM v3.LD.LA) s46 _ hv4) rfl rfl rfl rfl rfl rfl rfl rfl⟩ ?_
 refine aV [47,3,4,12,13,14,6] ?_
 refine ab ?_
 refine aG hn 4 [47,3,4,12,13,14,6,23,24,25] ?_
 refine aS h (fun ((s76,s77):(List Int)×Int)=>[(47,.glob (GL mx)),(3,.box 28 [.fl (.own 5) 1 (map (int .u8) s76)]),(4,.clo 179 [3]),(12,.fr .shr true 8 (flatten (map az.ienc mails))),(13,vi (mails.length:Int)),(14,vi s47),(6,.box 53 (az.c v3 [])),(23,.fl .shr 3 (flatten (map T_Path.enc v3.To))),(24,vi (v3.To.length:Int)),(25,vi s77)]) (fun (s79:(List Int))=>[(47,.glob (GL mx)),(3,.box 28 [.fl (.own 5) 1 (map (int .u8) s79)]),(4,.clo 179 [3]),(12,.fr .shr true 8 (flatten (map az.ienc mails))),(13,vi (mails.length:Int)),(14,vi s47),(6,.box 53 (az.c v3 []))]) ?_ ?_
 rintro s79 h
 refine ae (ab ?_)
 obtain ⟨v24,hv24,h⟩:=zn h
 refine yx hn 1 ?_
 refine yk [3] [33] ?_
 refine mS (3,.box 28 [.any]) (34,.fl (.own 5) 1 (map (int .u8) v24)) 0 ⟨ew _ _ _ _ _ _ fZ rM underlying9 rfl rfl (zl rfl) rfl rfl hv24 rfl (Nat.ne_of_beq_eq_false rfl) rfl rfl⟩ ?_
 refine yw [33] 0 ?_
 refine yk [34,3] [] ?_
 refine yt (3,.box 28 [.fl (.own 5) 1 (map (int .u8) v24)]) 0 ⟨aM _ _ _ _ _ _ _ _ lu rfl rfl rfl (zl rfl) rfl rfl⟩ ?_
 refine aV [47,3,4,12,13,14,6] ?_
 refine ab ?_
 obtain ⟨v25,hv25,h⟩:=zn h
 refine yx hn 2 ?_
 refine ys 0 ⟨lg call181 (uo _ _ _ hv25) 47⟩ ?_
 refine ym 0 ?_
 refine Jt 1 ?_
 refine ya 1 ?_
 refine aV [47,3,4,12,13,14,9] ?_
 obtain ⟨v26,hv26,h⟩:=zn h
 refine yx hn 1 ?_
 refine ym 0 ?_
 refine yk [3] [41,42] ?_
 refine mS (3,.box 28 [.any]) (43,.fl (.own 5) 1 (map (int .u8) v26)) 0 ⟨iu _ _ _ _ _ _ fZ rfl rfl (zl rfl) rfl (eW _) (eW _) hv26 ((List.map_append).symm.trans (congrArg (map _) (iY hv26))) (Nat.ne_of_beq_eq_false rfl) rfl rfl⟩ ?_
 refine yw [41] 0 ?_
 refine yk [43,3] [] ?_
 refine yt (3,.box 28 [.fl (.own 5) 1 (map (int .u8) v26)]) 0 ⟨aM _ _ _ _ _ _ _ _ lu rfl rfl rfl (zl rfl) rfl rfl⟩ ?_
 refine ye [47,3,4,12,13,14] ?_
 refine aI (ae ?_)
 obtain ⟨v27,hv27,h⟩:=zn h
 refine yx hn 0 ?_
 refine ys 0 ⟨lb hv27⟩ ?_
 refine yw [14] 1 ?_
 refine ye [47,3,4,12,13,14] ?_
 exact bb _ (zi h).symm rfl
 rintro u80 hl81 hr82 ⟨s76,s77⟩ rr85 h ho83
 refine aG hn 1 [47,3,4,12,13,14,6,23,24,25,26] ?_
 refine ab ?_
 refine zc h rfl (fun h => ?_) (fun h => ?_)
 refine am ?_
 refine ae (ab ?_)
 refine aC (ab ?_)
 obtain ⟨v6,hv6,v7,hv7,h⟩:=dM h
 refine yx hn 0 ?_
 refine ys 0 ⟨lj hv6⟩ ?_
 refine yS (.agg [vb v7.LQ,vs v7.LM,vs v7.LA]) 0 ⟨fy _ _ _ _ _ _ _ underlying26 rfl pD rfl rfl (gM T_Path.len hv7) rfl (by decide)⟩ ?_
 refine yS (.box 26 [vb false,vs z0,vs z0]) 1 ⟨oA (aT _ _ qk)⟩ ?_
 refine aV [47,3,4,12,13,14,6,23,24,25,8] ?_
 obtain ⟨v8,hv8,h⟩:=zn h
 refine yx hn 2 ?_
 refine yk [3] [29,30,47] ?_
 refine mS (3,.box 28 [.fl (.own 5) 1 (map (int .u8) v8)]) (31,.tup []) 0 ⟨uN _ _ _ 31 29 3 47 179 [_,.tmp 30] _ _ _ _ rfl call179 rfl rfl rfl (fun _ h=>h) (gK mx (⟨#[82,67,80,84,32,84,79,58]⟩:Mf) v7 s76 _ hv8) rfl rfl rfl rfl rfl rfl rfl rfl⟩ ?_
 refine ye [47,3,4,12,13,14,6,23,24,25] ?_
 refine aI (ae ?_)
 obtain ⟨v9,hv9,h⟩:=zn h
 refine yx hn 0 ?_
 refine ys 0 ⟨lb hv9⟩ ?_
 refine yw [25] 1 ?_
 refine ye [47,3,4,12,13,14,6,23,24,25] ?_
 exact bb _ (zi h).symm rfl
 refine ba (ap (ap (aZ ?_)))
 refine ah [0,1,2,3,4,5,6] (by kernel_rfl) (es':=[(_,_),(_,_),(_,_),(_,_),(_,_),(_,_),(_,_)]) rfl ?_
 exact hl81 _ (ho83 _ (zi h).symm).symm
 refine ba (ap (ap (aZ ?_)))
 refine ah [0,1] (by kernel_rfl) (es':=[(_,_),(_,_)]) rfl ?_
 exact hl66 _ (ho68 _ (zi h).symm).symm
theorem uy (divisor:Int) (r:(List Int)) (h:Sh.kG divisor=some r):bF Tryz.prog 202 [.v (.int .u32 divisor)] (.v (.agg (map (int .u32) r).toArray)):=by
 unfold Sh.kG at h
 refine yO 29 func202 fun g0 hn hio => ?_
 refine gH hn 0 ?_
 refine yS (.arr 222 (map (int .u32) ((List.replicate 16 (0:Int))))) 0 ⟨oA (cl _ Aj)⟩ ?_
 refine aV [0,2] ?_
 refine gH hn 0 ?_
 refine yS (.arr 222 (map (int .u32) ((List.replicate 16 (0:Int))))) 0 ⟨oA (cl _ Aj)⟩ ?_
 refine aV [0,2,3] ?_
 refine ab ?_
 refine aG hn 1 [0,2,3,7] ?_
 refine aS h (fun ((s91,s92):(List Int)×Int)=>[(0,.v (.int .u32 divisor)),(2,.arr 222 (map (int .u32) ((List.replicate 16 (0:Int))))),(3,.arr 222 (map (int .u32) s91)),(7,vi s92)]) (fun (s133:(List Int))=>[(2,.arr 222 (map (int .u32) ((List.replicate 16 (0:Int))))),(3,.arr 222 (map (int .u32) s133))]) ?_ ?_
 rintro s133 h
 refine ae (ab ?_)
 obtain ⟨v180,hv180,v181,hv181,v182,hv182,h⟩:=ng h
 refine yx hn 0 ?_
 refine yS (.v (.agg (map (int .u32) s133).toArray)) 0 ⟨iZ _ _ _ _ underlying222 rfl (Ay.trans (congrArg some (bH hv180))) rfl rfl⟩ ?_
 refine yk [2] [28] ?_
 refine yt (2,.arr 222 (map (int .u32) s133)) 0 ⟨cE _ _ _ _ (Ay.trans (congrArg some (bH hv182))) rfl rfl (fT (fun _=>rfl) _) ((bH (f:=int .u32) hv181).symm.trans (bH (f:=int .u32) hv182))⟩ ?_
 refine aV [2] ?_
 refine ak ?_
 obtain ⟨v183,hv183,h⟩:=zn h
 obtain rfl:=zi h
 exact al hio rfl (.cellR _ _ _ _ underlying222 rfl (Ay.trans (congrArg some (bH hv183))) .nil) rfl rfl
 rintro u134 hl135 hr136 ⟨s91,s92⟩ rr139 h ho137
 refine aG hn 1 [0,2,3,7,8] ?_
 refine ab ?_
 refine zc h rfl (fun h => ?_) (fun h => ?_)
 refine am ?_
 refine ae (ab ?_)
 refine aC ?_
 refine aG hn 2 [0,2,3,7,4] ?_
 refine ab ?_
 obtain ⟨v2,hv2,h⟩:=zn h
 refine yx hn 1 ?_
 refine ys 1 ⟨lv hv2⟩ ?_
 refine aV [0,2,3,7,4,5] ?_
 refine ab ?_
 refine aG hn 1 [0,2,3,7,4,5,12] ?_
 refine aS h (fun ((s157,s158):Int×Int)=>[(0,.v (.int .u32 divisor)),(2,.arr 222 (map (int .u32) ((List.replicate 16 (0:Int))))),(3,.arr 222 (map (int .u32) s91)),(7,vi s92),(4,vi s92),(5,.v (.int .u32 s157)),(12,vi s158)]) (fun (s166:Int)=>[(0,.v (.int .u32 divisor)),(2,.arr 222 (map (int .u32) ((List.replicate 16 (0:Int))))),(3,.arr 222 (map (int .u32) s91)),(7,vi s92),(4,vi s92),(5,.v (.int .u32 s166))]) ?_ ?_
 rintro s166 h
 refine ae ?_
 obtain ⟨v46,hv46,v47,hv47,h⟩:=dM h
 refine yx hn 2 ?_
 refine yS (.ptr 3 v46) 0 ⟨db _ _ _ _ 16 3 _ underlying222 ij rfl rfl (bA hv46).1 (bA hv46).2 (by decide)⟩ ?_
 refine yk [3] [26,25] ?_
 refine yt (3,.arr 222 (map (int .u32) v47)) 0 ⟨mM _ _ _ _ _ _ ij rfl rfl rfl rfl (zr hv47) (zh (f:=int .u32) hv47)⟩ ?_
 refine ye [0,2,3,7] ?_
 refine aI (ae ?_)
 obtain ⟨v48,hv48,h⟩:=zn h
 refine yx hn 0 ?_
 refine ys 0 ⟨lb hv48⟩ ?_
 refine yw [7] 1 ?_
 refine ye [0,2,3,7] ?_
 exact bb _ (zi h).symm rfl
 rintro u167 hl168 hr169 ⟨s157,s158⟩ rr172 h ho170
 refine aG hn 1 [0,2,3,7,4,5,12,13] ?_
 refine ab ?_
 refine zc h rfl (fun h => ?_) (fun h => ?_)
 refine am ?_
 refine ae (ab ?_)
 refine aq h (fun (s175:Int)=>[(0,.v (.int .u32 divisor)),(2,.arr 222 (map (int .u32) ((List.replicate 16 (0:Int))))),(3,.arr 222 (map (int .u32) s91)),(7,vi s92),(4,vi s92),(12,vi s158),(5,.v (.int .u32 s175))]) ?_ ?_
 rintro s175 h
 refine ae ?_
 obtain ⟨v13,hv13,h⟩:=zn h
 refine yx hn 0 ?_
 refine ys 0 ⟨lb hv13⟩ ?_
 refine yw [12] 1 ?_
 refine ye [0,2,3,7,4,5,12] ?_
 exact bb _ (zi h).symm rfl
 intro u176 h hl177 hr178
 refine aC (ab ?_)
 obtain ⟨v4,hv4,h⟩:=zn h
 refine yx hn 1 ?_
 refine ys 1 ⟨lb hv4⟩ ?_
 refine aV [0,2,3,7,4,5,12,6] ?_
 refine ab ?_
 obtain ⟨v5,hv5,h⟩:=zn h
 refine yx hn 1 ?_
 refine ys 0 ⟨lB (kT hv5)⟩ ?_
 refine yw [5] 1 ?_
 refine aV [0,2,3,7,4,12,6,5] ?_
 refine aG hn 2 [0,2,3,7,4,12,5,19] ?_
 refine zc h rfl (fun h => ?_) (fun h => ?_)
 obtain ⟨v7,hv7,h⟩:=zn h
 refine yx hn 2 ?_
 refine ys 0 ⟨lb hv7⟩ ?_
 refine yw [5] 1 ?_
 refine ye [0,2,3,7,4,12,5] ?_
 refine aI ?_
 exact hl177 _ (zi h).symm
 refine am (aI ?_)
 refine ah [0,1,2,3,4,5,6] (by kernel_rfl) (es':=[(_,_),(_,_),(_,_),(_,_),(_,_),(_,_),(_,_)]) rfl ?_
 exact hl177 _ (zi h).symm
 refine ba (ap (ap (aZ ?_)))
 refine ah [0,1,2,3,4,5] (by kernel_rfl) (es':=[(_,_),(_,_),(_,_),(_,_),(_,_),(_,_)]) rfl ?_
 exact hl168 _ (ho170 _ (zi h).symm).symm
 refine ba (ap (ap (aZ ?_)))
 refine ah [1,2] (by kernel_rfl) (es':=[(_,_),(_,_)]) rfl ?_
 exact hl135 _ (ho137 _ (zi h).symm).symm
theorem xj (b:(List Int)) (width:Int) (divisor:Int) (r:Int) (h:Sh.qx b width divisor=some r):bF Tryz.prog 182 [.fl .shr 1 (map (int .u8) b),.v (.int .i64 width),.v (.int .u32 divisor)] (.v (.int .i64 r)):=by
 unfold Sh.qx at h
 refine yO 47 func182 fun g0 hn hio => ?_
 refine aG hn 1 [0,1,2] ?_
 refine ab ?_
 obtain ⟨v1,hv1,v2,hv2,v3,hv3,h⟩:=ng h
 refine yx hn 1 ?_
 refine ys 0 ⟨lk call202 (uy _ _ hv1)⟩ ?_
 refine yS (.arr 222 (map (int .u32) ((List.replicate 16 (0:Int))))) 0 ⟨oA (cl _ Aj)⟩ ?_
 refine yk [7] [13] ?_
 refine yt (7,.arr 222 (map (int .u32) v1)) 0 ⟨cE _ _ _ _ (Ay.trans (congrArg some (bH hv3))) rfl rfl (fT (fun _=>rfl) _) ((bH (f:=int .u32) hv2).symm.trans (bH (f:=int .u32) hv3))⟩ ?_
 refine aV [0,1,7] ?_
 refine ab ?_
 obtain ⟨v4,hv4,v5,hv5,h⟩:=dM h
 refine yx hn 1 ?_
 refine ys 0 ⟨lB (nA hv4)⟩ ?_
 refine ys 1 ⟨lb hv5⟩ ?_
 refine aV [0,7,8] ?_
 refine aG hn 2 [0,7,8,9] ?_
 refine ab ?_
 refine aG hn 3 [7,8,9,18,19,20] ?_
 refine aS h (fun ((s25,s26):Int×Int)=>[(7,.arr 222 (map (int .u32) v1)),(8,.v (.int .u32 v5)),(9,.v (.int .u32 s25)),(18,fb b),(19,vi (b.length:Int)),(20,vi s26)]) (fun (s28:Int)=>[(8,.v (.int .u32 v5)),(9,.v (.int .u32 s28))]) ?_ ?_
 rintro s28 h
 refine ae (ab ?_)
 obtain ⟨v36,hv36,v37,hv37,h⟩:=dM h
 refine yx hn 2 ?_
 refine ys 0 ⟨lb hv36⟩ ?_
 refine ys 1 ⟨lv hv37⟩ ?_
 refine aV [6] ?_
 refine ak ?_
 obtain rfl:=zi h
 exact al hio rfl (.tmp _ _ .nil) rfl rfl
 rintro u29 hl30 hr31 ⟨s25,s26⟩ rr34 h ho32
 refine aG hn 1 [7,8,9,18,19,20,21] ?_
 refine ab ?_
 refine zc h rfl (fun h => ?_) (fun h => ?_)
 refine am ?_
 refine ae (ab ?_)
 refine aC (ab ?_)
 obtain ⟨v7,hv7,v8,hv8,h⟩:=dM h
 refine yx hn 0 ?_
 refine ys 0 ⟨li hv7⟩ ?_
 refine ys 1 ⟨ll hv8⟩ ?_
 refine aV [7,8,9,18,19,20,11] ?_
 refine ab ?_
 obtain ⟨v9,hv9,v10,hv10,h⟩:=dM h
 refine yx hn 2 ?_
 refine ys 0 ⟨lv hv9⟩ ?_
 refine ys 0 ⟨lb hv10⟩ ?_
 refine yw [9] 1 ?_
 refine aV [7,8,18,19,20,9] ?_
 refine ab ?_
 obtain ⟨v11,hv11,v12,hv12,v13,hv13,v14,hv14,h⟩:=jX h
 obtain ⟨v15,hv15,h⟩:=zn h
 refine yx hn 1 ?_
 refine ys 1 ⟨lB (kT hv11)⟩ ?_
 refine ys 0 ⟨lB (jx hv12)⟩ ?_
 refine yS (.ptr 7 v13) 0 ⟨db _ _ _ _ 16 7 _ underlying222 ij rfl rfl (bA hv13).1 (bA hv13).2 (by decide)⟩ ?_
 refine yS (.v (.int .u32 v14)) 0 ⟨cJ _ _ _ _ _ _ underlying106 rfl rfl rfl (cY hv14)⟩ ?_
 refine ys 0 ⟨lb hv15⟩ ?_
 refine yw [9] 1 ?_
 refine aV [7,8,18,19,20,9] ?_
 obtain ⟨v16,hv16,v17,hv17,v18,hv18,v19,hv19,h⟩:=jX h
 obtain ⟨v20,hv20,h⟩:=zn h
 refine yx hn 1 ?_
 refine ys 1 ⟨lB (kT hv16)⟩ ?_
 refine ys 0 ⟨lB (jx hv17)⟩ ?_
 refine yS (.ptr 7 v18) 0 ⟨db _ _ _ _ 16 7 _ underlying222 ij rfl rfl (bA hv18).1 (bA hv18).2 (by decide)⟩ ?_
 refine yS (.v (.int .u32 v19)) 0 ⟨cJ _ _ _ _ _ _ underlying106 rfl rfl rfl (cY hv19)⟩ ?_
 refine ys 0 ⟨lb hv20⟩ ?_
 refine yw [9] 1 ?_
 refine ye [7,8,18,19,20,9] ?_
 refine aI (ae ?_)
 obtain ⟨v21,hv21,h⟩:=zn h
 refine yx hn 0 ?_
 refine ys 0 ⟨lb hv21⟩ ?_
 refine yw [20] 1 ?_
 refine ye [7,8,18,19,9,20] ?_
 refine ah [0,1,4,2,3,5] (by kernel_rfl) (es':=[(_,_),(_,_),(_,_),(_,_),(_,_),(_,_)]) rfl ?_
 exact bb _ (zi h).symm rfl
 refine ba (ap (ap (aZ ?_)))
 refine ah [1,2] (by kernel_rfl) (es':=[(_,_),(_,_)]) rfl ?_
 exact hl30 _ (ho32 _ (zi h).symm).symm
theorem wB (b:(List Int)) (r:Int) (h:Sh.ml b=some r):bF Tryz.prog 153 [.fl .shr 1 (map (int .u8) b)] (.v (.int .i64 r)):=by
 unfold Sh.ml at h
 refine yO 5 func153 fun g0 hn hio => ?_
 refine aG hn 1 [0] ?_
 refine ab ?_
 obtain ⟨v1,hv1,h⟩:=zn h
 refine yx hn 1 ?_
 refine ys 1 ⟨lk call182 (xj _ _ _ _ hv1)⟩ ?_
 refine aV [2] ?_
 refine ak ?_
 obtain rfl:=zi h
 exact al hio rfl (.tmp _ _ .nil) rfl rfl
end Go.Proofs.YtjnnkhmhjcjhdaaGreatDoor
