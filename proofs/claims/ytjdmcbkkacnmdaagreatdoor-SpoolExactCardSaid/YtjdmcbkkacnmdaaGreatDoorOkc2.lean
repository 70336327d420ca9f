import Derived.Test.YtjdmcbkkacnmdaaGreatDoorOkc1
set_option linter.unusedVariables false
set_option linter.unusedSimpArgs false
set_option maxHeartbeats 1000000
namespace Go.Proofs.YtjdmcbkkacnmdaaGreatDoor
open Go.Abs Go.Abs.Sh Tryz
open List (map flatten)
open Value (int)
theorem iY (mx:Int) (s:Hd) (r:Bool) (h:Sh.eG s=some r):kM Tryz.prog (GL mx) 86 [.v (.string s),.v (.func (.func 87) #[] #[])] (.v (.bool r)):=by
 unfold Sh.eG at h
 refine yG 13 func86 fun g0 hn hio => ?_
 refine iJ hn 1 ?_
 refine yS (.box 4 [vb false]) 0 ⟨oA (bj _ _ FT)⟩ ?_
 refine cN [0,13,3,4] ?_
 refine aj (aj ?_)
 obtain ⟨v1,hv1,h⟩:=zn h
 refine yx hn 1 ?_
 refine yk [] [6] ?_
 refine yt (7,.cloB 116 [.box 9 [vs v1.1],.box 9 [vs v1.2.1],.box 3 [vi v1.2.2]]) 0 ⟨lA _ _ 97 _ _ rfl call97 rfl rfl (iO s (⟨#[46]⟩:Hd) _ hv1) rfl⟩ ?_
 refine cN [13,3,4,7] ?_
 refine aU ?_
 refine dJ [3,0,1,2] (by kernel_rfl) (es':=[(7,.cloB 116 [.box 9 [vs v1.1],.box 9 [vs v1.2.1],.box 3 [vi v1.2.2]]),(13,.glob (GL mx)),(3,.box 91 [.v (.func (.func 87) #[] #[])]),(4,.box 4 [vb false])]) rfl ?_
 refine oo h 116 7 8 14 _ [13,3,4] call116 (fun (():Unit)=>[(13,.glob (GL mx)),(3,.box 91 [.v (.func (.func 87) #[] #[])]),(4,.box 4 [.v (.bool false)])]) (fun (():Unit)=>[(13,.glob (GL mx)),(3,.box 91 [.v (.func (.func 87) #[] #[])]),(4,.box 4 [.v (.bool false)])]) (fun l J Y hY t t' h=>gM mx l J Y hY v1.1 v1.2.1 v1.2.2 t t' h) hn rfl (fun _=>rfl) (fun _=>rfl) (fun _=>rfl) rfl rfl (fun _=>⟨rfl,rfl⟩) rfl (nT 13 rfl) ?_ ?_ ?_
 rintro kk g0 hn hio x ⟨⟩ u h
 refine Ac (es':=[(8,vs x),(13,.glob (GL mx)),(3,.box 91 [.v (.func (.func 87) #[] #[])]),(4,.box 4 [vb false]),(13,.v (kk.tm.getD 13 undef)),(3,.v (kk.tm.getD 3 undef)),(4,.v (kk.tm.getD 4 undef)),(14,.inv kk.ready)]) rfl ?_
 refine yy hn 1 [13,3,4,14,5,13,3,4] ?_
 refine aB [0,1,2,4,5,6,7,3] (by kernel_rfl) (es':=[(13,.glob (GL mx)),(3,.box 91 [.v (.func (.func 87) #[] #[])]),(4,.box 4 [vb false]),(5,vs x),(13,.v (kk.tm.getD 13 undef)),(3,.v (kk.tm.getD 3 undef)),(4,.v (kk.tm.getD 4 undef)),(14,.inv kk.ready)]) rfl ?_
 refine qA (es:=[(13,.glob (GL mx)),(3,.box 91 [.v (.func (.func 87) #[] #[])]),(4,.box 4 [vb false]),(5,vs x),(13,.v (kk.tm.getD 13 undef)),(3,.v (kk.tm.getD 3 undef)),(4,.v (kk.tm.getD 4 undef))]) 14 rfl ?_
 refine aU (aj ?_)
 obtain ⟨v2,hv2,h⟩:=zn h
 refine yx hn 2 ?_
 refine ys 1 ⟨lk call87 (tF _ _ hv2)⟩ ?_
 refine cN [13,3,4,14,12,13,3,4] ?_
 refine zc h rfl (fun h => ?_) (fun h => ?_)
 refine aZ hn 1 [13,3,4,14,13,3,4] ?_
 refine aD (aV ?_)
 refine aB [0,1,2,4,5,6,3] (by kernel_rfl) (es':=[(_,_),(_,_),(_,_),(_,_),(_,_),(_,_),(_,_)]) rfl ?_
 obtain rfl:=zi h
 exact sU 14 [13,3,4] _ rfl rfl (by kernel_rfl)
 refine aE (aT ?_)
 refine aB [0,1,2,5,6,7,3] (by kernel_rfl) (es':=[(_,_),(_,_),(_,_),(_,_),(_,_),(_,_),(_,_)]) rfl ?_
 obtain rfl:=zi h
 exact qc 14 [13,3,4] _ rfl rfl (by kernel_rfl)
 rintro D ⟨⟩ h
 refine aT (ak ?_)
 refine aZ hn 1 [13,4] ?_
 refine aD ?_
 refine aB [1] (by kernel_rfl) (es':=[(_,_)]) rfl ?_
 obtain rfl:=zi h
 exact aJ hio rfl (.cell1 _ _ _ _ underlying4 rfl .nil) rfl rfl
 rintro D ⟨⟩ h
 refine aB [2] (by kernel_rfl) (es':=[(_,_)]) rfl ?_
 refine aV (ay ?_)
 obtain rfl:=zi h
 exact aJ hio rfl (.cell1 _ _ _ _ underlying4 rfl .nil) rfl rfl
theorem mc (mx:Int) (s:Hd) (r:Bool) (h:Sh.jq s=some r):kM Tryz.prog (GL mx) 80 [.v (.string s)] (.v (.bool r)):=by
 unfold Sh.jq at h
 refine yG 10 func80 fun g0 hn hio => ?_
 refine aZ hn 1 [0,10] ?_
 refine aj ?_
 refine aK h (fun (s2:Bool)=>[(10,.glob (GL mx)),(2,vb s2)]) ?_ ?_
 rintro s2 h
 refine ak (aD ?_)
 refine aB [1] (by kernel_rfl) (es':=[(_,_)]) rfl ?_
 obtain rfl:=zi h
 exact aJ hio rfl (.tmp _ _ .nil) rfl rfl
 intro u3 h hl4 hr5
 refine ao h (fun hg1_3 h => ?_) (fun hg1_3 h => ?_)
 obtain ⟨v1,hv1,h⟩:=zn h
 refine yx hn 4 ?_
 refine yd hg1_3 1 ?_
 refine ys 2 ⟨lg call86 (iY _ _ _ hv1) 10⟩ ?_
 refine ye [10,2] ?_
 exact hl4 _ (zi h).symm
 refine yx hn 4 ?_
 refine yd hg1_3 4 ?_
 refine ye [10,2] ?_
 exact hl4 _ (zi h).symm
theorem pw (c:Int) (r:Bool) (h:Sh.fL c=some r):cg Tryz.prog 102 [.v (.int .u8 c)] (.v (.bool r)):=by
 unfold Sh.fL at h
 refine yO 9 func102 fun g0 hn hio => ?_
 refine aZ hn 1 [0] ?_
 refine aj ?_
 refine aK h (fun (s2:Bool)=>[(2,vb s2)]) ?_ ?_
 rintro s2 h
 refine ak (aD ?_)
 obtain rfl:=zi h
 exact aJ hio rfl (.tmp _ _ .nil) rfl rfl
 intro u3 h hl4 hr5
 obtain ⟨v1,hv1,h⟩:=zn h
 refine ao h (fun hg1_2 h => ?_) (fun hg1_2 h => ?_)
 refine yx hn 1 ?_
 refine ys 1 ⟨lk call100 (eB _ _ hv1)⟩ ?_
 refine yd hg1_2 4 ?_
 refine ye [2] ?_
 exact hl4 _ (zi h).symm
 refine yx hn 1 ?_
 refine ys 1 ⟨lk call100 (eB _ _ hv1)⟩ ?_
 refine yd hg1_2 4 ?_
 refine ye [2] ?_
 exact hl4 _ (zi h).symm
theorem iX (s:Hd) (r:Bool) (h:Sh.eF s=some r):cg Tryz.prog 98 [.v (.string s),.v (.func (.func 102) #[] #[])] (.v (.bool r)):=by
 unfold Sh.eF at h
 refine yO 18 func98 fun g0 hn hio => ?_
 refine aZ hn 1 [0,1] ?_
 refine aj ?_
 refine aZ hn 3 [0,1,7,8] ?_
 refine bp h (fun (s9:Int)=>[(0,vs s),(1,.v (.func (.func 102) #[] #[])),(7,vi (s.size:Int)),(8,vi s9)]) (fun (():Unit)=>[]) ?_ ?_
 rintro ⟨⟩ h
 refine ak ?_
 refine aZ hn 1 [4] ?_
 refine aD ?_
 obtain rfl:=zi h
 exact aJ hio rfl (.tmp _ _ .nil) rfl rfl
 rintro u12 hl13 hr14 s9 rr17 h ho15
 refine aZ hn 1 [0,1,7,8,9] ?_
 refine aj ?_
 refine zc h rfl (fun h => ?_) (fun h => ?_)
 refine aE ?_
 refine ak (aj ?_)
 refine aU ?_
 refine aZ hn 2 [0,1,7,8,5] ?_
 refine aj ?_
 obtain ⟨v2,hv2,v3,hv3,h⟩:=ii h
 refine yx hn 3 ?_
 refine ys 0 ⟨lh hv2⟩ ?_
 refine ys 1 ⟨lk call102 (pw _ _ hv3)⟩ ?_
 refine cN [0,1,7,8,16] ?_
 refine zc h rfl (fun h => ?_) (fun h => ?_)
 refine aZ hn 1 [4] ?_
 refine aD (aV (ay (ay (aV (ay ?_)))))
 have h:=hr14 _ (ho15 _ (zi h).symm).symm
 obtain rfl:=zi h
 exact aJ hio rfl (.tmp _ _ .nil) rfl rfl
 refine aE (aT (ak ?_))
 obtain ⟨v5,hv5,h⟩:=zn h
 refine yx hn 0 ?_
 refine ys 0 ⟨lb hv5⟩ ?_
 refine yw [8] 1 ?_
 refine ye [0,1,7,8] ?_
 exact bH _ (zi h).symm rfl
 refine bF (aH (aH (bG ?_)))
 refine aB [] (by kernel_rfl) (es':=[]) rfl ?_
 exact hl13 _ (ho15 _ (zi h).symm).symm
theorem rz (s:Hd) (r:Bool) (h:Sh.js s=some r):cg Tryz.prog 88 [.v (.string s)] (.v (.bool r)):=by
 unfold Sh.js at h
 refine yO 27 func88 fun g0 hn hio => ?_
 refine aZ hn 1 [0] ?_
 refine aj ?_
 refine aK h (fun (s5:Bool)=>[(2,vb s5)]) ?_ ?_
 rintro s5 h
 refine ak (aD ?_)
 obtain rfl:=zi h
 exact aJ hio rfl (.tmp _ _ .nil) rfl rfl
 intro u6 h hl7 hr8
 refine ao h (fun hg1_2 h => ?_) (fun hg1_2 h => ?_)
 refine ao h (fun hg1_7 h => ?_) (fun hg1_7 h => ?_)
 obtain ⟨v1,hv1,h⟩:=zn h
 refine ao h (fun hg1_12 h => ?_) (fun hg1_12 h => ?_)
 obtain ⟨v2,hv2,v3,hv3,h⟩:=ii h
 refine ao h (fun hg1_20 h => ?_) (fun hg1_20 h => ?_)
 obtain ⟨v4,hv4,h⟩:=zn h
 refine yx hn 3 ?_
 refine yd hg1_2 5 ?_
 refine yd hg1_7 1 ?_
 refine ys 3 ⟨lh hv1⟩ ?_
 refine yd hg1_12 3 ?_
 refine ys 0 ⟨lb hv2⟩ ?_
 refine ys 3 ⟨lh hv3⟩ ?_
 refine yd hg1_20 1 ?_
 refine ys 2 ⟨lk call98 (iX _ _ hv4)⟩ ?_
 refine ye [2] ?_
 exact hl7 _ (zi h).symm
 refine yx hn 3 ?_
 refine yd hg1_2 5 ?_
 refine yd hg1_7 1 ?_
 refine ys 3 ⟨lh hv1⟩ ?_
 refine yd hg1_12 3 ?_
 refine ys 0 ⟨lb hv2⟩ ?_
 refine ys 3 ⟨lh hv3⟩ ?_
 refine yd hg1_20 4 ?_
 refine ye [2] ?_
 exact hl7 _ (zi h).symm
 refine yx hn 3 ?_
 refine yd hg1_2 5 ?_
 refine yd hg1_7 1 ?_
 refine ys 3 ⟨lh hv1⟩ ?_
 refine yd hg1_12 12 ?_
 refine ye [2] ?_
 exact hl7 _ (zi h).symm
 refine yx hn 3 ?_
 refine yd hg1_2 5 ?_
 refine yd hg1_7 17 ?_
 refine ye [2] ?_
 exact hl7 _ (zi h).symm
 refine yx hn 3 ?_
 refine yd hg1_2 22 ?_
 refine ye [2] ?_
 exact hl7 _ (zi h).symm
theorem iL (mx:Int) (s:Hd) (r:Bool) (h:Sh.ej s=some r):kM Tryz.prog (GL mx) 86 [.v (.string s),.v (.func (.func 88) #[] #[])] (.v (.bool r)):=by
 unfold Sh.ej at h
 refine yG 13 func86 fun g0 hn hio => ?_
 refine iJ hn 1 ?_
 refine yS (.box 4 [vb false]) 0 ⟨oA (bj _ _ FT)⟩ ?_
 refine cN [0,13,3,4] ?_
 refine aj (aj ?_)
 obtain ⟨v1,hv1,h⟩:=zn h
 refine yx hn 1 ?_
 refine yk [] [6] ?_
 refine yt (7,.cloB 116 [.box 9 [vs v1.1],.box 9 [vs v1.2.1],.box 3 [vi v1.2.2]]) 0 ⟨lA _ _ 97 _ _ rfl call97 rfl rfl (iO s (⟨#[46]⟩:Hd) _ hv1) rfl⟩ ?_
 refine cN [13,3,4,7] ?_
 refine aU ?_
 refine dJ [3,0,1,2] (by kernel_rfl) (es':=[(7,.cloB 116 [.box 9 [vs v1.1],.box 9 [vs v1.2.1],.box 3 [vi v1.2.2]]),(13,.glob (GL mx)),(3,.box 91 [.v (.func (.func 88) #[] #[])]),(4,.box 4 [vb false])]) rfl ?_
 refine oo h 116 7 8 14 _ [13,3,4] call116 (fun (():Unit)=>[(13,.glob (GL mx)),(3,.box 91 [.v (.func (.func 88) #[] #[])]),(4,.box 4 [.v (.bool false)])]) (fun (():Unit)=>[(13,.glob (GL mx)),(3,.box 91 [.v (.func (.func 88) #[] #[])]),(4,.box 4 [.v (.bool false)])]) (fun l J Y hY t t' h=>gM mx l J Y hY v1.1 v1.2.1 v1.2.2 t t' h) hn rfl (fun _=>rfl) (fun _=>rfl) (fun _=>rfl) rfl rfl (fun _=>⟨rfl,rfl⟩) rfl (nT 13 rfl) ?_ ?_ ?_
 rintro kk g0 hn hio x ⟨⟩ u h
 refine Ac (es':=[(8,vs x),(13,.glob (GL mx)),(3,.box 91 [.v (.func (.func 88) #[] #[])]),(4,.box 4 [vb false]),(13,.v (kk.tm.getD 13 undef)),(3,.v (kk.tm.getD 3 undef)),(4,.v (kk.tm.getD 4 undef)),(14,.inv kk.ready)]) rfl ?_
 refine yy hn 1 [13,3,4,14,5,13,3,4] ?_
 refine aB [0,1,2,4,5,6,7,3] (by kernel_rfl) (es':=[(13,.glob (GL mx)),(3,.box 91 [.v (.func (.func 88) #[] #[])]),(4,.box 4 [vb false]),(5,vs x),(13,.v (kk.tm.getD 13 undef)),(3,.v (kk.tm.getD 3 undef)),(4,.v (kk.tm.getD 4 undef)),(14,.inv kk.ready)]) rfl ?_
 refine qA (es:=[(13,.glob (GL mx)),(3,.box 91 [.v (.func (.func 88) #[] #[])]),(4,.box 4 [vb false]),(5,vs x),(13,.v (kk.tm.getD 13 undef)),(3,.v (kk.tm.getD 3 undef)),(4,.v (kk.tm.getD 4 undef))]) 14 rfl ?_
 refine aU (aj ?_)
 obtain ⟨v2,hv2,h⟩:=zn h
 refine yx hn 2 ?_
 refine ys 1 ⟨lk call88 (rz _ _ hv2)⟩ ?_
 refine cN [13,3,4,14,12,13,3,4] ?_
 refine zc h rfl (fun h => ?_) (fun h => ?_)
 refine aZ hn 1 [13,3,4,14,13,3,4] ?_
 refine aD (aV ?_)
 refine aB [0,1,2,4,5,6,3] (by kernel_rfl) (es':=[(_,_),(_,_),(_,_),(_,_),(_,_),(_,_),(_,_)]) rfl ?_
 obtain rfl:=zi h
 exact sU 14 [13,3,4] _ rfl rfl (by kernel_rfl)
 refine aE (aT ?_)
 refine aB [0,1,2,5,6,7,3] (by kernel_rfl) (es':=[(_,_),(_,_),(_,_),(_,_),(_,_),(_,_),(_,_)]) rfl ?_
 obtain rfl:=zi h
 exact qc 14 [13,3,4] _ rfl rfl (by kernel_rfl)
 rintro D ⟨⟩ h
 refine aT (ak ?_)
 refine aZ hn 1 [13,4] ?_
 refine aD ?_
 refine aB [1] (by kernel_rfl) (es':=[(_,_)]) rfl ?_
 obtain rfl:=zi h
 exact aJ hio rfl (.cell1 _ _ _ _ underlying4 rfl .nil) rfl rfl
 rintro D ⟨⟩ h
 refine aB [2] (by kernel_rfl) (es':=[(_,_)]) rfl ?_
 refine aV (ay ?_)
 obtain rfl:=zi h
 exact aJ hio rfl (.cell1 _ _ _ _ underlying4 rfl .nil) rfl rfl
theorem ri (mx:Int) (s:Hd) (r:Bool) (h:Sh.iH s=some r):kM Tryz.prog (GL mx) 81 [.v (.string s)] (.v (.bool r)):=by
 unfold Sh.iH at h
 refine yG 10 func81 fun g0 hn hio => ?_
 refine aZ hn 1 [0,10] ?_
 refine aj ?_
 refine aK h (fun (s2:Bool)=>[(10,.glob (GL mx)),(2,vb s2)]) ?_ ?_
 rintro s2 h
 refine ak (aD ?_)
 refine aB [1] (by kernel_rfl) (es':=[(_,_)]) rfl ?_
 obtain rfl:=zi h
 exact aJ hio rfl (.tmp _ _ .nil) rfl rfl
 intro u3 h hl4 hr5
 refine ao h (fun hg1_3 h => ?_) (fun hg1_3 h => ?_)
 obtain ⟨v1,hv1,h⟩:=zn h
 refine yx hn 4 ?_
 refine yd hg1_3 1 ?_
 refine ys 2 ⟨lg call86 (iL _ _ _ hv1) 10⟩ ?_
 refine ye [10,2] ?_
 exact hl4 _ (zi h).symm
 refine yx hn 4 ?_
 refine yd hg1_3 4 ?_
 refine ye [10,2] ?_
 exact hl4 _ (zi h).symm
theorem ga (mx:Int) (p:T_Path) (r:Int) (h:Sh.eZ p=some r):kM Tryz.prog (GL mx) 71 [.agg [.v (.bool p.GT),.v (.string p.GR),.v (.string p.GJ)]] (.v (.int .i64 r)):=by
 unfold Sh.eZ at h
 refine yG 27 func71 fun g0 hn hio => ?_
 refine aZ hn 2 [27,1] ?_
 refine iJ hn 1 ?_
 refine yS (.agg [vb true,vs z0,vs z0]) 0 ⟨cw _ _ _ _ [1,1,1] _ _ underlying24 pX (sR _ underlying24) (.copy _ mJ.nil) rfl rfl rfl⟩ ?_
 refine yS (vb ((p.GT==true)&&((p.GR.toList==z0.toList)&&((p.GJ.toList==z0.toList)&&true)))) 1 ⟨jj _ _ [.bool p.GT,.string p.GR,.string p.GJ] [.bool true,.string z0,.string z0] (((p.GT==true)&&((p.GR.toList==z0.toList)&&((p.GJ.toList==z0.toList)&&true)))) _ false (by kernel_rfl) (by kernel_rfl) (by kernel_rfl) (by kernel_rfl) (by kernel_rfl) rfl rfl rfl rfl (by kernel_rfl) rfl⟩ ?_
 refine cN [27,1,3] ?_
 refine aj ?_
 refine aK h (fun (s3:Bool)=>[(27,.glob (GL mx)),(3,vb ((p.GT==true)&&((p.GR.toList==z0.toList)&&((p.GJ.toList==z0.toList)&&true)))),(4,vb s3)]) ?_ ?_
 rintro s3 h
 refine ak (aj ?_)
 refine aj ?_
 refine aK h (fun (s7:Bool)=>[(27,.glob (GL mx)),(26,vb s7)]) ?_ ?_
 rintro s7 h
 refine ak ?_
 refine zc h rfl (fun h => ?_) (fun h => ?_)
 refine aZ hn 1 [27,2] ?_
 refine aD ?_
 refine aB [1] (by kernel_rfl) (es':=[(_,_)]) rfl ?_
 refine ay ?_
 obtain rfl:=zi h
 exact aJ hio rfl (.tmp _ _ .nil) rfl rfl
 refine aE (ak ?_)
 refine aZ hn 1 [27,2] ?_
 refine aD ?_
 refine aB [1] (by kernel_rfl) (es':=[(_,_)]) rfl ?_
 obtain rfl:=zi h
 exact aJ hio rfl (.tmp _ _ .nil) rfl rfl
 intro u8 h hl9 hr10
 refine ao h (fun hg3_2 h => ?_) (fun hg3_2 h => ?_)
 refine yx hn 3 ?_
 refine yd hg3_2 3 ?_
 refine ye [27,26] ?_
 exact hl9 _ (zi h).symm
 refine yx hn 3 ?_
 refine yd hg3_2 3 ?_
 refine ye [27,26] ?_
 exact hl9 _ (zi h).symm
 intro u4 h hl5 hr6
 refine ao h (fun hg2_3 h => ?_) (fun hg2_3 h => ?_)
 obtain ⟨v1,hv1,h⟩:=zn h
 refine ao h (fun hg2_8 h => ?_) (fun hg2_8 h => ?_)
 obtain ⟨v2,hv2,h⟩:=zn h
 refine yx hn 4 ?_
 refine yd hg2_3 2 ?_
 refine ys 2 ⟨lg call80 (mc _ _ _ hv1) 27⟩ ?_
 refine yd hg2_8 2 ?_
 refine ys 2 ⟨lg call81 (ri _ _ _ hv2) 27⟩ ?_
 refine ye [27,3,4] ?_
 exact hl5 _ (zi h).symm
 refine yx hn 4 ?_
 refine yd hg2_3 2 ?_
 refine ys 2 ⟨lg call80 (mc _ _ _ hv1) 27⟩ ?_
 refine yd hg2_8 5 ?_
 refine ye [27,3,4] ?_
 exact hl5 _ (zi h).symm
 refine yx hn 4 ?_
 refine yd hg2_3 10 ?_
 refine ye [27,3,4] ?_
 exact hl5 _ (zi h).symm
theorem ft (mx:Int) (m:T_Mail) (r:Bool) (h:Sh.dc m=some r):kM Tryz.prog (GL mx) 60 [.agg [.v (.bool m.GM.GT),.v (.string m.GM.GR),.v (.string m.GM.GJ),.fl .shr 3 (flatten (map T_Path.enc m.To)),.fl .shr 1 (map (int .u8) m.GH),.v (.bool m.Ha),.v (.string m.GN),.v (.int .i64 m.At)]] (.v (.bool r)):=by
 unfold Sh.dc at h
 refine yG 36 func60 fun g0 hn hio => ?_
 refine aZ hn 2 [36,1] ?_
 refine aj (aj ?_)
 refine aK h (fun (s2:Bool)=>[(36,.glob (GL mx)),(1,.box 28 (T_Mail.c m [])),(20,vb s2)]) ?_ ?_
 rintro s2 h
 refine ak ?_
 refine zc h rfl (fun h => ?_) (fun h => ?_)
 refine aZ hn 1 [36,2] ?_
 refine aD ?_
 refine aB [1] (by kernel_rfl) (es':=[(_,_)]) rfl ?_
 refine ay ?_
 obtain rfl:=zi h
 exact aJ hio rfl (.tmp _ _ .nil) rfl rfl
 refine aE ?_
 refine ak (aj ?_)
 refine aZ hn 4 [36,22,23,24] ?_
 refine bp h (fun (s24:Int)=>[(36,.glob (GL mx)),(22,.fl .shr 3 (flatten (map T_Path.enc m.To))),(23,vi (m.To.length:Int)),(24,vi s24)]) (fun (():Unit)=>[(36,.glob (GL mx))]) ?_ ?_
 rintro ⟨⟩ h
 refine ak ?_
 refine aZ hn 1 [36,2] ?_
 refine aD ?_
 refine aB [1] (by kernel_rfl) (es':=[(_,_)]) rfl ?_
 obtain rfl:=zi h
 exact aJ hio rfl (.tmp _ _ .nil) rfl rfl
 rintro u31 hl32 hr33 s24 rr36 h ho34
 refine aZ hn 1 [36,22,23,24,25] ?_
 refine aj ?_
 refine zc h rfl (fun h => ?_) (fun h => ?_)
 refine aE ?_
 refine ak (aj ?_)
 refine aU (aj ?_)
 obtain ⟨v8,hv8,v9,hv9,h⟩:=ii h
 refine yx hn 0 ?_
 refine ys 0 ⟨lj hv8⟩ ?_
 refine yS (.agg [vb v9.GT,vs v9.GR,vs v9.GJ]) 0 ⟨gn _ _ _ _ _ _ _ underlying24 rfl xv rfl rfl (kb T_Path.len hv9) rfl (by decide)⟩ ?_
 refine yS (.box 24 [vb false,vs z0,vs z0]) 1 ⟨oA (bj _ _ pX)⟩ ?_
 refine cN [36,22,23,24,4] ?_
 refine aj ?_
 refine aK h (fun (s38:Bool)=>[(36,.glob (GL mx)),(22,.fl .shr 3 (flatten (map T_Path.enc m.To))),(23,vi (m.To.length:Int)),(24,vi s24),(34,vb s38)]) ?_ ?_
 rintro s38 h
 refine ak ?_
 refine zc h rfl (fun h => ?_) (fun h => ?_)
 refine aZ hn 1 [36,2] ?_
 refine aD ?_
 refine aB [1] (by kernel_rfl) (es':=[(_,_)]) rfl ?_
 refine aV (ay (ay (aV (ay ?_))))
 have h:=hr33 _ (ho34 _ (zi h).symm).symm
 obtain rfl:=zi h
 exact aJ hio rfl (.tmp _ _ .nil) rfl rfl
 refine aE (aT (ak ?_))
 obtain ⟨v16,hv16,h⟩:=zn h
 refine yx hn 0 ?_
 refine ys 0 ⟨lb hv16⟩ ?_
 refine yw [24] 1 ?_
 refine ye [36,22,23,24] ?_
 exact bH _ (zi h).symm rfl
 intro u39 h hl40 hr41
 obtain ⟨v10,hv10,h⟩:=zn h
 refine ao h (fun hg6_3 h => ?_) (fun hg6_3 h => ?_)
 refine yx hn 1 ?_
 refine ys 2 ⟨lg call71 (ga _ _ _ hv10) 36⟩ ?_
 refine yd hg6_3 3 ?_
 refine ye [36,22,23,24,34] ?_
 exact hl40 _ (zi h).symm
 refine yx hn 1 ?_
 refine ys 2 ⟨lg call71 (ga _ _ _ hv10) 36⟩ ?_
 refine yd hg6_3 3 ?_
 refine ye [36,22,23,24,34] ?_
 exact hl40 _ (zi h).symm
 refine bF (aH (aH (bG ?_)))
 refine aB [0] (by kernel_rfl) (es':=[(_,_)]) rfl ?_
 exact hl32 _ (ho34 _ (zi h).symm).symm
 intro u3 h hl4 hr5
 obtain ⟨v1,hv1,h⟩:=zn h
 refine ao h (fun hg1_4 h => ?_) (fun hg1_4 h => ?_)
 refine yx hn 2 ?_
 refine ys 2 ⟨lg call71 (ga _ _ _ hv1) 36⟩ ?_
 refine yd hg1_4 11 ?_
 refine ye [36,1,20] ?_
 exact hl4 _ (zi h).symm
 refine ao h (fun hg1_10 h => ?_) (fun hg1_10 h => ?_)
 refine yx hn 2 ?_
 refine ys 2 ⟨lg call71 (ga _ _ _ hv1) 36⟩ ?_
 refine yd hg1_4 6 ?_
 refine yd hg1_10 5 ?_
 refine ye [36,1,20] ?_
 exact hl4 _ (zi h).symm
 refine yx hn 2 ?_
 refine ys 2 ⟨lg call71 (ga _ _ _ hv1) 36⟩ ?_
 refine yd hg1_4 6 ?_
 refine yd hg1_10 5 ?_
 refine ye [36,1,20] ?_
 exact hl4 _ (zi h).symm
theorem rE (b:(List Int)) (r:(List Int)) (h:Sh.gV b=some r):cg Tryz.prog 72 [.fl .shr 1 (map (int .u8) b)] (.cloB 82 [.box 26 [.fl .shr 1 (map (int .u8) r)]]):=by
 unfold Sh.gV at h
 refine yO 4 func72 fun g0 hn hio => ?_
 refine aZ hn 2 [1] ?_
 refine iJ hn 0 ?_
 refine yk [1] [] ?_
 refine yt (3,.cloB 82 [.box 26 [fb b]]) 0 ⟨uG _ _ [1] [.box 26 [fb b]] rfl rfl rfl⟩ ?_
 refine ya 0 ?_
 refine cN [2] ?_
 refine aD ?_
 obtain rfl:=zi h
 exact aJ hio rfl (.tmp _ _ .nil) rfl rfl
theorem pH (mx:Int) (s sep:List Int) (r:Int) (h:Sh.gq s sep=some r):kM Tryz.prog (GL mx) 89 [.fl .shr 1 (map (int .u8) s),.fl .shr 1 (map (int .u8) sep)] (.v (.int .i64 r)) :=
 pp (xb mx) Tryz.bytes_Index_at Tryz.bytes_Index_longer s sep r h
theorem pn (mx:Int) (s:(List Int)) (sep:(List Int)) (r:((List Int)×(List Int)×Bool)) (h:Sh.eu s sep=some r):kM Tryz.prog (GL mx) 83 [.fl .shr 1 (map (int .u8) s),.fl .shr 1 (map (int .u8) sep)] (.tup [.fl .shr 1 (map (int .u8) r.1),.fl .shr 1 (map (int .u8) r.2.1),.v (.bool r.2.2)]):=by
 unfold Sh.eu at h
 refine yG 23 func83 fun g0 hn hio => ?_
 refine aZ hn 3 [0,1,23] ?_
 refine aj (aj ?_)
 obtain ⟨v1,hv1,h⟩:=zn h
 refine yx hn 2 ?_
 refine ys 1 ⟨lg call89 (pH _ _ _ _ hv1) 23⟩ ?_
 refine cN [0,1,23,7] ?_
 refine aZ hn 2 [0,1,23,7,12] ?_
 refine zc h rfl (fun h => ?_) (fun h => ?_)
 refine aj ?_
 obtain ⟨v3,hv3,v4,hv4,v5,hv5,h⟩:=pj h
 refine wb [[0],[7]] ?_
 refine wN [13,14] ?_
 refine wS (fb v3) [[0],[7],[1],[18]] ⟨Co _ _ _ 0 v1 _ underlying26 Dy rfl rfl rfl ⟨_,rfl⟩ hv3⟩ ?_
 refine wN [17,19] ?_
 refine wo [] ⟨lb hv4⟩ ?_
 refine wN [16,20] ?_
 refine wS (fb v5) [[15],[21],[]] ⟨Co _ _ _ v4 (s.length:Int) _ underlying26 Dy rfl rfl ⟨_,rfl⟩ rfl hv5⟩ ?_
 refine ue hn [23,4,5,6] ?_
 refine aD ?_
 refine aB [1,2,3] (by kernel_rfl) (es':=[(_,_),(_,_),(_,_)]) rfl ?_
 refine ay ?_
 obtain rfl:=zi h
 exact aJ hio rfl (.tmp _ _ (.tmp _ _ (.tmp _ _ .nil))) rfl rfl
 refine aE (ak ?_)
 refine aZ hn 4 [23,4,5,6] ?_
 refine aD ?_
 refine aB [1,2,3] (by kernel_rfl) (es':=[(_,_),(_,_),(_,_)]) rfl ?_
 refine eW (fs:=[(4,fb s),(5,fb []),(6,vb false)]) (.same _ (.sub _ (aS 1) rfl (.same _ .nil))) ?_
 obtain rfl:=zi h
 exact aJ hio rfl (.tmp _ _ (.tmp _ _ (.tmp _ _ .nil))) rfl rfl
theorem po (mx:Int) (l:Nat) {S:Type} (J:S→iZ) (Y:(List Int)→S→Option (S×Bool)) (hY:nm Tryz.prog l (fun x => .fl .shr 1 (map (int .u8) x)) Y J) (c0:(List Int)) (st r:S) (h:Sh.gE Y c0 st=some r):DP Tryz.prog (GL mx) 82 l [.box 26 [.fl .shr 1 (map (int .u8) c0)]] (J st) (J r):=by
 unfold Sh.gE at h
 refine yI 23 func82 fun g0 hn hio => ?_
 refine bp h (fun ((s17,s18):(List Int)×S)=>[(0,.v (.func (.yield l) #[] #[])),(1,.box 26 [fb s17]),(23,.glob (GL mx)),(24,.inv (J s18))]) (fun (():Unit)=>[]) ?_ ?_
 rintro ⟨⟩ h
 cases h
 rintro u25 hl26 hr27 ⟨s17,s18⟩ rr30 h ho28
 refine aU (aj ?_)
 obtain ⟨v1,hv1,h⟩:=zn h
 refine yx hn 1 ?_
 refine yS (.fl (.own 5) 1 (map (int .u8) [13,10])) 0 ⟨dC _ _ 1 (.int .u8 0) (map (int .u8) [13,10]) [(0,.int .u8 13),(1,.int .u8 10)] underlying26 Dy Gt (fun _ V w o a hv hes=>by simp only [List.map_toArray,List.map_cons,List.map_nil]; try rfl) (iU (by simp [Instr.fill,Value.cells]; rfl) (by simp [List.range,List.range.loop] <;> rfl)) (by simp [Value.oneCell']) rfl (by decide) (by decide) (by decide)⟩ ?_
 refine yk [8] [] ?_
 refine yt (9,.fl .ro 1 (map (int .u8) [13,10])) 0 ⟨sW _ _ _ underlying26 underlying5 (by intro h; cases h)⟩ ?_
 refine yk [] [7,9,23] ?_
 refine yt (10,.tup [fb v1.1,fb v1.2.1,vb v1.2.2]) 0 ⟨xr _ _ 23 83 _ _ rfl call83 rfl rfl rfl (fun _ h=>h) (pn mx s17 [13,10] _ hv1) rfl⟩ ?_
 refine ym 6 ?_
 refine cN [0,1,23,24,3,4,5] ?_
 refine aj (aj ?_)
 refine aK h (fun ((s31,s32):S×Bool)=>[(0,.v (.func (.yield l) #[] #[])),(1,.box 26 [fb s17]),(23,.glob (GL mx)),(24,.inv (J s31)),(4,fb v1.2.1),(21,vb s32)]) ?_ ?_
 rintro ⟨s31,s32⟩ h
 refine ak ?_
 refine zc h rfl (fun h => ?_) (fun h => ?_)
 refine aD ?_
 refine aB [3] (by kernel_rfl) (es':=[(24,.inv (J s31))]) rfl ?_
 refine ay (aV (ay (aV ?_)))
 have h:=hr27 _ (ho28 _ (zi h).symm).symm
 obtain rfl:=zi h
 exact pE hio rfl rfl rfl
 refine aE (ak ?_)
 refine yy hn 2 [0,1,23,24] ?_
 refine aT ?_
 exact bH _ (zi h).symm rfl
 intro u33 h hl34 hr35
 refine ao h (fun hg1_2 h => ?_) (fun hg1_2 h => ?_)
 refine yx hn 3 ?_
 refine yd hg1_2 5 ?_
 refine ye [0,1,23,24,4,21] ?_
 exact hl34 _ (zi h).symm
 obtain ⟨v2,hv2,h⟩:=zn h
 refine yx hn 3 ?_
 refine yd hg1_2 2 ?_
 refine yk [24] [18,17] ?_
 refine wZ (24,.inv (J v2.1)) (19,vb v2.2) 2 ⟨nf _ _ 24 l v1.1 s18 v2 hY hv2 rfl rfl rfl⟩ ?_
 refine ye [0,1,23,24,4,21] ?_
 exact hl34 _ (zi h).symm
theorem nq (mx:Int) (s:List Int) (c:Hd) (r:Int) (h:Sh.fG s c=some r):kM Tryz.prog (GL mx) 84 [.fl .shr 1 (map (int .u8) s),.v (.string c)] (.v (.int .i64 r)) :=
 mn (xb mx) (wY mx) (Bh mx) (fun s b off c w hs hnc hb hm hmb k1 k2 HG hp=>Tryz.idx_crlf s b off c w mx hs hnc hb hm hmb (vJ gp iA (by kernel_rfl) (by kernel_rfl) k1 k2) HG hp) Tryz.idx_none s c r h
theorem lG (mx:Int) (b:(List Int)) (chars:Hd) (r:Bool) (h:Sh.cf b chars=some r):kM Tryz.prog (GL mx) 73 [.fl .shr 1 (map (int .u8) b),.v (.string chars)] (.v (.bool r)):=by
 unfold Sh.cf at h
 refine yG 9 func73 fun g0 hn hio => ?_
 refine aZ hn 1 [0,1,9] ?_
 refine aj ?_
 obtain ⟨v1,hv1,h⟩:=zn h
 refine yx hn 2 ?_
 refine ys 2 ⟨lg call84 (nq _ _ _ _ hv1) 9⟩ ?_
 refine cN [9,4] ?_
 refine aD ?_
 refine aB [1] (by kernel_rfl) (es':=[(_,_)]) rfl ?_
 obtain rfl:=zi h
 exact aJ hio rfl (.tmp _ _ .nil) rfl rfl
theorem jN (mx:Int) (b:(List Int)) (r:Int) (h:Sh.ef b=some r):kM Tryz.prog (GL mx) 61 [.fl .shr 1 (map (int .u8) b)] (.v (.int .i64 r)):=by
 unfold Sh.ef at h
 refine yG 19 func61 fun g0 hn hio => ?_
 refine iJ hn 0 ?_
 refine yS (.box 42 [vi 0]) 0 ⟨oA (bj _ _ Fp)⟩ ?_
 refine cN [0,19,2] ?_
 refine iJ hn 0 ?_
 refine yS (.box 3 [vi 0]) 1 ⟨oA (bj _ _ Cs)⟩ ?_
 refine cN [0,19,2,3] ?_
 refine aj (aj ?_)
 obtain ⟨v1,hv1,h⟩:=zn h
 refine yx hn 1 ?_
 refine yk [] [5] ?_
 refine yt (6,.cloB 82 [.box 26 [fb v1]]) 0 ⟨lA _ _ 72 _ _ rfl call72 rfl rfl (rE b _ hv1) rfl⟩ ?_
 refine cN [0,19,2,3,6] ?_
 refine aU ?_
 refine dJ [4,0,1,2,3] (by kernel_rfl) (es':=[(6,.cloB 82 [.box 26 [fb v1]]),(0,fb b),(19,.glob (GL mx)),(2,.box 42 [vi 0]),(3,.box 3 [vi 0])]) rfl ?_
 refine oo h 82 6 7 20 _ [0,19,2,3] call82 (fun (s8:Int)=>[(0,fb b),(19,.glob (GL mx)),(2,.box 42 [.v (.int .i64 0)]),(3,.box 3 [.v (.int .i64 s8)])]) (fun (s10:Int)=>[(0,fb b),(19,.glob (GL mx)),(2,.box 42 [.v (.int .i64 5)]),(3,.box 3 [.v (.int .i64 s10)])]) (fun l J Y hY t t' h=>po mx l J Y hY v1 t t' h) hn rfl (fun _=>rfl) (fun _=>rfl) (fun _=>rfl) rfl rfl (fun _=>⟨rfl,rfl⟩) rfl (nT 19 rfl) ?_ ?_ ?_
 rintro kk g0 hn hio x s8 u h
 refine Ac (es':=[(7,fb x),(0,fb b),(19,.glob (GL mx)),(2,.box 42 [vi 0]),(3,.box 3 [vi s8]),(0,.v (kk.tm.getD 0 undef)),(19,.v (kk.tm.getD 19 undef)),(2,.v (kk.tm.getD 2 undef)),(3,.v (kk.tm.getD 3 undef)),(20,.inv kk.ready)]) rfl ?_
 refine yy hn 1 [0,19,2,3,20,4,0,19,2,3] ?_
 refine aB [0,1,2,3,5,6,7,8,9,4] (by kernel_rfl) (es':=[(0,fb b),(19,.glob (GL mx)),(2,.box 42 [vi 0]),(3,.box 3 [vi s8]),(4,fb x),(0,.v (kk.tm.getD 0 undef)),(19,.v (kk.tm.getD 19 undef)),(2,.v (kk.tm.getD 2 undef)),(3,.v (kk.tm.getD 3 undef)),(20,.inv kk.ready)]) rfl ?_
 refine qA (es:=[(0,fb b),(19,.glob (GL mx)),(2,.box 42 [vi 0]),(3,.box 3 [vi s8]),(4,fb x),(0,.v (kk.tm.getD 0 undef)),(19,.v (kk.tm.getD 19 undef)),(2,.v (kk.tm.getD 2 undef)),(3,.v (kk.tm.getD 3 undef))]) 20 rfl ?_
 refine aU (aj (aj ?_))
 obtain ⟨v2,hv2,h⟩:=zn h
 refine yx hn 1 ?_
 refine ys 0 ⟨lg call73 (lG _ _ _ _ hv2) 19⟩ ?_
 refine cN [0,19,2,3,4,20,9,0,19,2,3] ?_
 refine zc h rfl (fun h => ?_) (fun h => ?_)
 refine aZ hn 1 [0,19,2,3,20,0,19,2,3] ?_
 refine aD (ay (aV ?_))
 refine aB [0,1,2,3,5,6,7,8,4] (by kernel_rfl) (es':=[(_,_),(_,_),(_,_),(_,_),(_,_),(_,_),(_,_),(_,_),(_,_)]) rfl ?_
 obtain rfl:=zi h
 exact sU 20 [0,19,2,3] _ rfl rfl (by kernel_rfl)
 refine aE (ak ?_)
 obtain ⟨v4,hv4,v5,hv5,h⟩:=ii h
 refine yx hn 3 ?_
 refine ys 0 ⟨lb hv4⟩ ?_
 refine ys 1 ⟨lb hv5⟩ ?_
 refine ye [0,19,2,3,20,0,19,2,3] ?_
 refine aT ?_
 refine aB [0,1,2,3,5,6,7,8,4] (by kernel_rfl) (es':=[(_,_),(_,_),(_,_),(_,_),(_,_),(_,_),(_,_),(_,_),(_,_)]) rfl ?_
 obtain rfl:=zi h
 exact qc 20 [0,19,2,3] _ rfl rfl (by kernel_rfl)
 rintro D s8 h
 refine aT ?_
 refine ak (aj ?_)
 refine aZ hn 4 [19,2,18] ?_
 refine zc h rfl (fun h => ?_) (fun h => ?_)
 refine aZ hn 1 [19,2] ?_
 refine aD ?_
 refine aB [1] (by kernel_rfl) (es':=[(_,_)]) rfl ?_
 refine ay ?_
 obtain rfl:=zi h
 exact aJ hio rfl (.cell1 _ _ _ _ underlying42 rfl .nil) rfl rfl
 refine aE (ak ?_)
 refine aZ hn 1 [19,2] ?_
 refine aD ?_
 refine aB [1] (by kernel_rfl) (es':=[(_,_)]) rfl ?_
 obtain rfl:=zi h
 exact aJ hio rfl (.cell1 _ _ _ _ underlying42 rfl .nil) rfl rfl
 rintro D s10 h
 refine aB [2] (by kernel_rfl) (es':=[(_,_)]) rfl ?_
 refine aV (ay ?_)
 obtain rfl:=zi h
 exact aJ hio rfl (.cell1 _ _ _ _ underlying42 rfl .nil) rfl rfl
theorem jl (mx:Int) (m:T_Mail) (r:Bool) (h:Sh.bI m=some r):kM Tryz.prog (GL mx) 42 [.agg [.v (.bool m.GM.GT),.v (.string m.GM.GR),.v (.string m.GM.GJ),.fl .shr 3 (flatten (map T_Path.enc m.To)),.fl .shr 1 (map (int .u8) m.GH),.v (.bool m.Ha),.v (.string m.GN),.v (.int .i64 m.At)]] (.v (.bool r)):=by
 unfold Sh.bI at h
 refine yG 21 func42 fun g0 hn hio => ?_
 refine aZ hn 2 [21,1] ?_
 refine aj ?_
 refine aK h (fun (s3:Bool)=>[(21,.glob (GL mx)),(2,vb s3)]) ?_ ?_
 rintro s3 h
 refine ak (aD ?_)
 refine aB [1] (by kernel_rfl) (es':=[(_,_)]) rfl ?_
 obtain rfl:=zi h
 exact aJ hio rfl (.tmp _ _ .nil) rfl rfl
 intro u4 h hl5 hr6
 obtain ⟨v1,hv1,h⟩:=zn h
 refine ao h (fun hg1_2 h => ?_) (fun hg1_2 h => ?_)
 obtain ⟨v2,hv2,h⟩:=zn h
 refine ao h (fun hg1_8 h => ?_) (fun hg1_8 h => ?_)
 refine ao h (fun hg1_13 h => ?_) (fun hg1_13 h => ?_)
 refine yx hn 1 ?_
 refine ys 1 ⟨lg call60 (ft _ _ _ hv1) 21⟩ ?_
 refine yd hg1_2 2 ?_
 refine ys 3 ⟨lg call61 (jN _ _ _ hv2) 21⟩ ?_
 refine yd hg1_8 5 ?_
 refine yd hg1_13 5 ?_
 refine ye [21,2] ?_
 exact hl5 _ (zi h).symm
 refine yx hn 1 ?_
 refine ys 1 ⟨lg call60 (ft _ _ _ hv1) 21⟩ ?_
 refine yd hg1_2 2 ?_
 refine ys 3 ⟨lg call61 (jN _ _ _ hv2) 21⟩ ?_
 refine yd hg1_8 5 ?_
 refine yd hg1_13 5 ?_
 refine ye [21,2] ?_
 exact hl5 _ (zi h).symm
 refine yx hn 1 ?_
 refine ys 1 ⟨lg call60 (ft _ _ _ hv1) 21⟩ ?_
 refine yd hg1_2 2 ?_
 refine ys 3 ⟨lg call61 (jN _ _ _ hv2) 21⟩ ?_
 refine yd hg1_8 10 ?_
 refine ye [21,2] ?_
 exact hl5 _ (zi h).symm
 refine yx hn 1 ?_
 refine ys 1 ⟨lg call60 (ft _ _ _ hv1) 21⟩ ?_
 refine yd hg1_2 16 ?_
 refine ye [21,2] ?_
 exact hl5 _ (zi h).symm
theorem lW (bx:Nat) (x:ae) (cap:Int) (r:Bool) (h:Sh.fM x cap=some r):kM Tryz.prog [(bx,[.int .i64 cap])] 64 [.agg [.v (.int .i64 x.Id),.v (.bool x.GS.GM.GT),.v (.string x.GS.GM.GR),.v (.string x.GS.GM.GJ),.fl .shr 3 (flatten (map T_Path.enc x.GS.To)),.fl .shr 1 (map (int .u8) x.GS.GH),.v (.bool x.GS.Ha),.v (.string x.GS.GN),.v (.int .i64 x.GS.At),.v (.int .i64 x.Hc),.v (.int .i64 x.GX)],.v (.pointer (some ⟨bx,0,none⟩))] (.v (.bool r)):=by
 unfold Sh.fM at h
 refine yG 8 func64 fun g0 hn hio => ?_
 refine aZ hn 2 [1,8,2] ?_
 refine iJ hn 2 ?_
 refine yS (vi cap) 2 ⟨mT _ _ 8 bx 0 _ _ underlying3 rfl rfl rfl (.head _) rfl⟩ ?_
 refine cN [8,3] ?_
 refine aD ?_
 refine aB [1] (by kernel_rfl) (es':=[(_,_)]) rfl ?_
 obtain rfl:=zi h
 exact aJ hio rfl (.tmp _ _ .nil) rfl rfl
theorem dR (bx:Nat) (s:(List ae)) (cap:Int) (r:Int) (h:Sh.bz s cap=some r):kM Tryz.prog [(bx,[.int .i64 cap])] 63 [.fr .shr true 11 (flatten (map ae.ienc s)),.v (.func (.func 64) #[] #[.pointer (some ⟨bx,0,none⟩)])] (.v (.int .i64 r)):=by
 unfold Sh.bz at h
 refine yG 19 func63 fun g0 hn hio => ?_
 refine aZ hn 1 [0,1,19] ?_
 refine aj ?_
 refine aZ hn 3 [0,1,19,7,8] ?_
 refine bp h (fun (s10:Int)=>[(0,.fr .shr true 11 (flatten (map ae.ienc s))),(1,.v (.func (.func 64) #[] #[.pointer (some ⟨bx,0,none⟩)])),(19,.glob [(bx,[.int .i64 cap])]),(7,vi (s.length:Int)),(8,vi s10)]) (fun (():Unit)=>[(19,.glob [(bx,[.int .i64 cap])])]) ?_ ?_
 rintro ⟨⟩ h
 refine ak ?_
 refine aZ hn 1 [19,4] ?_
 refine aD ?_
 refine aB [1] (by kernel_rfl) (es':=[(_,_)]) rfl ?_
 obtain rfl:=zi h
 exact aJ hio rfl (.tmp _ _ .nil) rfl rfl
 rintro u13 hl14 hr15 s10 rr18 h ho16
 refine aZ hn 1 [0,1,19,7,8,9] ?_
 refine aj ?_
 refine zc h rfl (fun h => ?_) (fun h => ?_)
 refine aE ?_
 refine ak (aj ?_)
 refine aU ?_
 refine aZ hn 2 [0,1,19,7,8,5] ?_
 refine aj ?_
 obtain ⟨v2,hv2,v3,hv3,v4,hv4,h⟩:=pj h
 refine yx hn 3 ?_
 refine ys 0 ⟨lI hv2⟩ ?_
 refine yS (.agg (ae.c v3 [])) 0 ⟨cJ _ _ _ _ _ _ _ _ underlying47 rfl gj rfl rfl (dx ae.ilen hv3) (.cons (.v _) (.cons (.v _) (.cons (.v _) (.cons (.v _) (.cons (.fl _ _ rfl) (.cons (.fl _ _ rfl) (.cons (.v _) (.cons (.v _) (.cons (.v _) (.cons (.v _) (.cons (.v _) (.nil)))))))))))) rfl (by decide)⟩ ?_
 refine yS (vb v4) 0 ⟨zB _ _ 19 64 (.pointer (some ⟨bx,0,none⟩)) _ _ rfl call64 rfl rfl (fun _ h=>h) (lW bx ((ae.mk v3.Id ((T_Mail.mk (T_Path.mk v3.GS.GM.GT v3.GS.GM.GR v3.GS.GM.GJ) v3.GS.To v3.GS.GH v3.GS.Ha v3.GS.GN v3.GS.At)) v3.Hc v3.GX)) cap _ hv4) rfl rfl⟩ ?_
 refine cN [0,1,19,7,8,5,16] ?_
 refine zc h rfl (fun h => ?_) (fun h => ?_)
 refine aZ hn 2 [19,4] ?_
 refine aD ?_
 refine aB [1] (by kernel_rfl) (es':=[(_,_)]) rfl ?_
 refine aV (ay (ay (aV (ay ?_))))
 have h:=hr15 _ (ho16 _ (zi h).symm).symm
 obtain rfl:=zi h
 exact aJ hio rfl (.tmp _ _ .nil) rfl rfl
 refine aE (aT (ak ?_))
 obtain ⟨v6,hv6,h⟩:=zn h
 refine yx hn 0 ?_
 refine ys 0 ⟨lb hv6⟩ ?_
 refine yw [8] 1 ?_
 refine ye [0,1,19,7,8] ?_
 exact bH _ (zi h).symm rfl
 refine bF (aH (aH (bG ?_)))
 refine aB [2] (by kernel_rfl) (es':=[(_,_)]) rfl ?_
 exact hl14 _ (ho16 _ (zi h).symm).symm
theorem mi (s:ai) (p_id:Int) (r:Int) (h:Sh.ib s p_id=some r):cg Tryz.prog 48 [.agg [.fr .shr true 11 (flatten (map ae.ienc s.GP)),.v (.int .i64 s.GY),.fl .shr 1 (map (int .i64) s.Hb),.fl .shr 1 (map (int .u8) s.GZ),.v (.int .i64 s.Of),.fl .shr 1 (map (int .i64) s.GK)],.v (.int .i64 p_id)] (.v (.int .i64 r)):=by
 unfold Sh.ib at h
 refine yO 9 func48 fun g0 hn hio => ?_
 refine aZ hn 3 [2,3] ?_
 refine aj ?_
 obtain ⟨v1,hv1,h⟩:=zn h
 refine yx hn 2 ?_
 refine yS (.clo 64 [3]) 0 ⟨nR _ _ _ 3 (by decide)⟩ ?_
 refine yS (vi v1) 1 ⟨yj _ 8 3 7 63 64 [.int .i64 p_id] [.tmp 6] _ _ rfl call63 rfl rfl rfl rfl (fun bx=>dR bx s.GP p_id _ hv1) rfl rfl⟩ ?_
 refine cN [4] ?_
 refine aD ?_
 obtain rfl:=zi h
 exact aJ hio rfl (.tmp _ _ .nil) rfl rfl
theorem jo (s:ai) (p_id:Int) (r:Bool) (h:Sh.eA s p_id=some r):cg Tryz.prog 44 [.agg [.fr .shr true 11 (flatten (map ae.ienc s.GP)),.v (.int .i64 s.GY),.fl .shr 1 (map (int .i64) s.Hb),.fl .shr 1 (map (int .u8) s.GZ),.v (.int .i64 s.Of),.fl .shr 1 (map (int .i64) s.GK)],.v (.int .i64 p_id)] (.v (.bool r)):=by
 unfold Sh.eA at h
 refine yO 20 func44 fun g0 hn hio => ?_
 refine aZ hn 2 [1,2] ?_
 refine aj ?_
 obtain ⟨v1,hv1,h⟩:=zn h
 refine yx hn 2 ?_
 refine ys 1 ⟨lk call48 (mi _ _ _ hv1)⟩ ?_
 refine cN [2,5] ?_
 refine aj ?_
 refine aK h (fun (s4:Bool)=>[(4,vb s4)]) ?_ ?_
 rintro s4 h
 refine ak (aD ?_)
 obtain rfl:=zi h
 exact aJ hio rfl (.tmp _ _ .nil) rfl rfl
 intro u5 h hl6 hr7
 refine ao h (fun hg2_2 h => ?_) (fun hg2_2 h => ?_)
 obtain ⟨v2,hv2,v3,hv3,h⟩:=ii h
 refine yx hn 3 ?_
 refine yd hg2_2 3 ?_
 refine ys 1 ⟨lI hv2⟩ ?_
 refine yS (vi v3.Hc) 3 ⟨bA _ _ _ _ _ _ _ underlying3 rfl rfl rfl (aL ae.ilen hv3 rfl) (.v _)⟩ ?_
 refine ye [4] ?_
 exact hl6 _ (zi h).symm
 refine yx hn 3 ?_
 refine yd hg2_2 9 ?_
 refine ye [4] ?_
 exact hl6 _ (zi h).symm
theorem mO (s:ai) (ids:(List Int)) (r:Bool) (h:Sh.fC s ids=some r):cg Tryz.prog 43 [.agg [.fr .shr true 11 (flatten (map ae.ienc s.GP)),.v (.int .i64 s.GY),.fl .shr 1 (map (int .i64) s.Hb),.fl .shr 1 (map (int .u8) s.GZ),.v (.int .i64 s.Of),.fl .shr 1 (map (int .i64) s.GK)],.fl .shr 1 (map (int .i64) ids)] (.v (.bool r)):=by
 unfold Sh.fC at h
 refine yO 40 func43 fun g0 hn hio => ?_
 refine aZ hn 2 [1,2] ?_
 refine aj (aj ?_)
 refine aK h (fun (s1:Bool)=>[(1,fi ids),(2,.box 37 (ai.c s [])),(14,vb s1)]) ?_ ?_
 rintro s1 h
 refine ak ?_
 refine zc h rfl (fun h => ?_) (fun h => ?_)
 refine aZ hn 1 [4] ?_
 refine aD (ay ?_)
 obtain rfl:=zi h
 exact aJ hio rfl (.tmp _ _ .nil) rfl rfl
 refine aE ?_
 refine ak (aj ?_)
 refine aZ hn 3 [1,2,15,16,17] ?_
 refine bp h (fun (s27:Int)=>[(1,fi ids),(2,.box 37 (ai.c s [])),(15,fi ids),(16,vi (ids.length:Int)),(17,vi s27)]) (fun (():Unit)=>[]) ?_ ?_
 rintro ⟨⟩ h
 refine ak ?_
 refine aZ hn 1 [4] ?_
 refine aD ?_
 obtain rfl:=zi h
 exact aJ hio rfl (.tmp _ _ .nil) rfl rfl
 rintro u34 hl35 hr36 s27 rr39 h ho37
 refine aZ hn 1 [1,2,15,16,17,18] ?_
 refine aj ?_
 refine zc h rfl (fun h => ?_) (fun h => ?_)
 refine aE ?_
 refine ak (aj ?_)
 refine aU (aj ?_)
 obtain ⟨v7,hv7,v8,hv8,h⟩:=ii h
 refine yx hn 1 ?_
 refine ys 0 ⟨li hv7⟩ ?_
 refine ys 2 ⟨ll hv8⟩ ?_
 refine cN [1,2,15,16,17,5,6] ?_
 refine aj ?_
 refine aK h (fun (s41:Bool)=>[(1,fi ids),(2,.box 37 (ai.c s [])),(15,fi ids),(16,vi (ids.length:Int)),(17,vi s27),(38,vb s41)]) ?_ ?_
 rintro s41 h
 refine ak ?_
 refine zc h rfl (fun h => ?_) (fun h => ?_)
 refine aZ hn 1 [4] ?_
 refine aD (aV (ay (ay (aV (ay ?_)))))
 have h:=hr36 _ (ho37 _ (zi h).symm).symm
 obtain rfl:=zi h
 exact aJ hio rfl (.tmp _ _ .nil) rfl rfl
 refine aE (aT (ak ?_))
 obtain ⟨v19,hv19,h⟩:=zn h
 refine yx hn 0 ?_
 refine ys 0 ⟨lb hv19⟩ ?_
 refine yw [17] 1 ?_
 refine ye [1,2,15,16,17] ?_
 exact bH _ (zi h).symm rfl
 intro u42 h hl43 hr44
 refine ao h (fun hg6_2 h => ?_) (fun hg6_2 h => ?_)
 obtain ⟨v9,hv9,v10,hv10,v11,hv11,h⟩:=pj h
 refine ao h (fun hg6_11 h => ?_) (fun hg6_11 h => ?_)
 refine yx hn 3 ?_
 refine yd hg6_2 3 ?_
 refine ys 0 ⟨lb hv9⟩ ?_
 refine ys 0 ⟨li hv10⟩ ?_
 refine ys 3 ⟨ll hv11⟩ ?_
 refine yd hg6_11 5 ?_
 refine ye [1,2,15,16,17,38] ?_
 exact hl43 _ (zi h).symm
 obtain ⟨v12,hv12,h⟩:=zn h
 refine yx hn 3 ?_
 refine yd hg6_2 3 ?_
 refine ys 0 ⟨lb hv9⟩ ?_
 refine ys 0 ⟨li hv10⟩ ?_
 refine ys 3 ⟨ll hv11⟩ ?_
 refine yd hg6_11 2 ?_
 refine ys 2 ⟨lk call44 (jo _ _ _ hv12)⟩ ?_
 refine ye [1,2,15,16,17,38] ?_
 exact hl43 _ (zi h).symm
 obtain ⟨v13,hv13,h⟩:=zn h
 refine yx hn 3 ?_
 refine yd hg6_2 11 ?_
 refine ys 2 ⟨lk call44 (jo _ _ _ hv13)⟩ ?_
 refine ye [1,2,15,16,17,38] ?_
 exact hl43 _ (zi h).symm
 refine bF (aH (aH (bG ?_)))
 refine aB [] (by kernel_rfl) (es':=[]) rfl ?_
 exact hl35 _ (ho37 _ (zi h).symm).symm
 intro u2 h hl3 hr4
 refine ao h (fun hg1_3 h => ?_) (fun hg1_3 h => ?_)
 refine yx hn 4 ?_
 refine yd hg1_3 4 ?_
 refine ye [1,2,14] ?_
 exact hl3 _ (zi h).symm
 refine yx hn 4 ?_
 refine yd hg1_3 4 ?_
 refine ye [1,2,14] ?_
 exact hl3 _ (zi h).symm
theorem km (s:(List Int)) (v:Int) (r:Int) (h:Sh.dI s v=some r):cg Tryz.prog 53 [.fl .shr 1 (map (int .i64) s),.v (.int .i64 v)] (.v (.int .i64 r)):=by
 unfold Sh.dI at h
 refine yO 19 func53 fun g0 hn hio => ?_
 refine aZ hn 1 [0,1] ?_
 refine aj ?_
 refine aZ hn 3 [0,1,7,8] ?_
 refine bp h (fun (s9:Int)=>[(0,fi s),(1,vi v),(7,vi (s.length:Int)),(8,vi s9)]) (fun (():Unit)=>[]) ?_ ?_
 rintro ⟨⟩ h
 refine ak ?_
 refine aZ hn 1 [4] ?_
 refine aD ?_
 obtain rfl:=zi h
 exact aJ hio rfl (.tmp _ _ .nil) rfl rfl
 rintro u12 hl13 hr14 s9 rr17 h ho15
 refine aZ hn 1 [0,1,7,8,9] ?_
 refine aj ?_
 refine zc h rfl (fun h => ?_) (fun h => ?_)
 refine aE ?_
 refine ak (aj ?_)
 refine aU ?_
 refine aZ hn 2 [0,1,7,8,5] ?_
 refine aj ?_
 obtain ⟨v2,hv2,v3,hv3,h⟩:=ii h
 refine yx hn 3 ?_
 refine ys 0 ⟨li hv2⟩ ?_
 refine ys 1 ⟨ll hv3⟩ ?_
 refine cN [0,1,7,8,5,16] ?_
 refine zc h rfl (fun h => ?_) (fun h => ?_)
 refine aZ hn 2 [4] ?_
 refine aD (aV (ay (ay (aV (ay ?_)))))
 have h:=hr14 _ (ho15 _ (zi h).symm).symm
 obtain rfl:=zi h
 exact aJ hio rfl (.tmp _ _ .nil) rfl rfl
 refine aE (aT (ak ?_))
 obtain ⟨v5,hv5,h⟩:=zn h
 refine yx hn 0 ?_
 refine ys 0 ⟨lb hv5⟩ ?_
 refine yw [8] 1 ?_
 refine ye [0,1,7,8] ?_
 exact bH _ (zi h).symm rfl
 refine bF (aH (aH (bG ?_)))
 refine aB [] (by kernel_rfl) (es':=[]) rfl ?_
 exact hl13 _ (ho15 _ (zi h).symm).symm
theorem cZ (s:(List Int)) (v:Int) (r:Bool) (h:Sh.bB s v=some r):cg Tryz.prog 31 [.fl .shr 1 (map (int .i64) s),.v (.int .i64 v)] (.v (.bool r)):=by
 unfold Sh.bB at h
 refine yO 9 func31 fun g0 hn hio => ?_
 refine aZ hn 1 [0,1] ?_
 refine aj ?_
 obtain ⟨v1,hv1,h⟩:=zn h
 refine yx hn 2 ?_
 refine ys 2 ⟨lk call53 (km _ _ _ hv1)⟩ ?_
 refine cN [4] ?_
 refine aD ?_
 obtain rfl:=zi h
 exact aJ hio rfl (.tmp _ _ .nil) rfl rfl
theorem jQ (s:ai) (number:Int) (r:Bool) (h:Sh.ir s number=some r):cg Tryz.prog 45 [.agg [.fr .shr true 11 (flatten (map ae.ienc s.GP)),.v (.int .i64 s.GY),.fl .shr 1 (map (int .i64) s.Hb),.fl .shr 1 (map (int .u8) s.GZ),.v (.int .i64 s.Of),.fl .shr 1 (map (int .i64) s.GK)],.v (.int .i64 number)] (.v (.bool r)):=by
 unfold Sh.ir at h
 refine yO 18 func45 fun g0 hn hio => ?_
 refine aZ hn 2 [1,2] ?_
 refine aj ?_
 refine aK h (fun (s2:Bool)=>[(4,vb s2)]) ?_ ?_
 rintro s2 h
 refine ak (aD ?_)
 obtain rfl:=zi h
 exact aJ hio rfl (.tmp _ _ .nil) rfl rfl
 intro u3 h hl4 hr5
 refine ao h (fun hg1_2 h => ?_) (fun hg1_2 h => ?_)
 refine ao h (fun hg1_6 h => ?_) (fun hg1_6 h => ?_)
 obtain ⟨v1,hv1,h⟩:=zn h
 refine yx hn 3 ?_
 refine yd hg1_2 4 ?_
 refine yd hg1_6 3 ?_
 refine ys 3 ⟨lk call31 (cZ _ _ _ hv1)⟩ ?_
 refine ye [4] ?_
 exact hl4 _ (zi h).symm
 refine yx hn 3 ?_
 refine yd hg1_2 4 ?_
 refine yd hg1_6 7 ?_
 refine ye [4] ?_
 exact hl4 _ (zi h).symm
 refine yx hn 3 ?_
 refine yd hg1_2 11 ?_
 refine ye [4] ?_
 exact hl4 _ (zi h).symm
theorem lR (s:ai) (p_r:T_Rec) (r:Bool) (h:Sh.eL s p_r=some r):cg Tryz.prog 46 [.agg [.fr .shr true 11 (flatten (map ae.ienc s.GP)),.v (.int .i64 s.GY),.fl .shr 1 (map (int .i64) s.Hb),.fl .shr 1 (map (int .u8) s.GZ),.v (.int .i64 s.Of),.fl .shr 1 (map (int .i64) s.GK)],.agg [.v (.int .i64 p_r.GQ),.v (.bool p_r.GS.GM.GT),.v (.string p_r.GS.GM.GR),.v (.string p_r.GS.GM.GJ),.fl .shr 3 (flatten (map T_Path.enc p_r.GS.To)),.fl .shr 1 (map (int .u8) p_r.GS.GH),.v (.bool p_r.GS.Ha),.v (.string p_r.GS.GN),.v (.int .i64 p_r.GS.At),.v (.int .i64 p_r.Id),.fl .shr 1 (map (int .i64) p_r.GO),.v (.int .i64 p_r.GW),.v (.int .i64 p_r.GU),.v (.int .i64 p_r.GV),.fl .shr 1 (map (int .u8) p_r.GI)]] (.v (.bool r)):=by
 unfold Sh.eL at h
 refine yO 41 func46 fun g0 hn hio => ?_
 refine aZ hn 3 [2,3] ?_
 refine aj (aj ?_)
 refine aK h (fun (s1:Bool)=>[(2,.box 37 (ai.c s [])),(3,.box 31 (T_Rec.c p_r [])),(14,vb s1)]) ?_ ?_
 rintro s1 h
 refine ak ?_
 refine zc h rfl (fun h => ?_) (fun h => ?_)
 refine aZ hn 1 [4] ?_
 refine aD (ay ?_)
 obtain rfl:=zi h
 exact aJ hio rfl (.tmp _ _ .nil) rfl rfl
 refine aE ?_
 refine ak (aj ?_)
 refine aZ hn 3 [2,3,17] ?_
 refine zc h rfl (fun h => ?_) (fun h => ?_)
 refine aZ hn 1 [4] ?_
 refine aD (ay ?_)
 obtain rfl:=zi h
 exact aJ hio rfl (.tmp _ _ .nil) rfl rfl
 refine aE ?_
 refine ak (aj ?_)
 refine aK h (fun (s8:Bool)=>[(4,vb s8)]) ?_ ?_
 rintro s8 h
 refine ak (aD ?_)
 obtain rfl:=zi h
 exact aJ hio rfl (.tmp _ _ .nil) rfl rfl
 intro u9 h hl10 hr11
 refine ao h (fun hg5_5 h => ?_) (fun hg5_5 h => ?_)
 refine ao h (fun hg5_13 h => ?_) (fun hg5_13 h => ?_)
 obtain ⟨v7,hv7,h⟩:=zn h
 refine yx hn 6 ?_
 refine yd hg5_5 8 ?_
 refine yd hg5_13 6 ?_
 refine ys 3 ⟨lb hv7⟩ ?_
 refine ye [4] ?_
 exact hl10 _ (zi h).symm
 refine yx hn 6 ?_
 refine yd hg5_5 8 ?_
 refine yd hg5_13 10 ?_
 refine ye [4] ?_
 exact hl10 _ (zi h).symm
 refine yx hn 6 ?_
 refine yd hg5_5 18 ?_
 refine ye [4] ?_
 exact hl10 _ (zi h).symm
 intro u2 h hl3 hr4
 refine ao h (fun hg1_4 h => ?_) (fun hg1_4 h => ?_)
 refine yx hn 5 ?_
 refine yd hg1_4 5 ?_
 refine ye [2,3,14] ?_
 exact hl3 _ (zi h).symm
 refine yx hn 5 ?_
 refine yd hg1_4 5 ?_
 refine ye [2,3,14] ?_
 exact hl3 _ (zi h).symm
theorem lD (mx:Int) (s:ai) (p_r:T_Rec) (r:Bool) (h:Sh.fA s p_r=some r):kM Tryz.prog (GL mx) 25 [.agg [.fr .shr true 11 (flatten (map ae.ienc s.GP)),.v (.int .i64 s.GY),.fl .shr 1 (map (int .i64) s.Hb),.fl .shr 1 (map (int .u8) s.GZ),.v (.int .i64 s.Of),.fl .shr 1 (map (int .i64) s.GK)],.agg [.v (.int .i64 p_r.GQ),.v (.bool p_r.GS.GM.GT),.v (.string p_r.GS.GM.GR),.v (.string p_r.GS.GM.GJ),.fl .shr 3 (flatten (map T_Path.enc p_r.GS.To)),.fl .shr 1 (map (int .u8) p_r.GS.GH),.v (.bool p_r.GS.Ha),.v (.string p_r.GS.GN),.v (.int .i64 p_r.GS.At),.v (.int .i64 p_r.Id),.fl .shr 1 (map (int .i64) p_r.GO),.v (.int .i64 p_r.GW),.v (.int .i64 p_r.GU),.v (.int .i64 p_r.GV),.fl .shr 1 (map (int .u8) p_r.GI)]] (.v (.bool r)):=by
 unfold Sh.fA at h
 refine yG 98 func25 fun g0 hn hio => ?_
 refine aZ hn 3 [98,2,3] ?_
 refine aj (aj ?_)
 obtain ⟨v1,hv1,v2,hv2,h⟩:=ii h
 refine yx hn 1 ?_
 refine yk [] [5] ?_
 refine yt (6,.agg (T_Rec.c v1 [])) 0 ⟨lA _ _ 41 _ _ rfl call41 rfl rfl (nJ ((T_Rec.mk p_r.GQ ((T_Mail.mk (T_Path.mk p_r.GS.GM.GT p_r.GS.GM.GR p_r.GS.GM.GJ) p_r.GS.To p_r.GS.GH p_r.GS.Ha p_r.GS.GN p_r.GS.At)) p_r.Id p_r.GO p_r.GW p_r.GU p_r.GV p_r.GI)) _ hv1) rfl⟩ ?_
 refine ys 1 ⟨lk call40 (rn _ _ hv2)⟩ ?_
 refine cN [98,2,3,8] ?_
 refine zc h rfl (fun h => ?_) (fun h => ?_)
 refine aZ hn 1 [98,4] ?_
 refine aD ?_
 refine aB [1] (by kernel_rfl) (es':=[(_,_)]) rfl ?_
 refine ay ?_
 obtain rfl:=zi h
 exact aJ hio rfl (.tmp _ _ .nil) rfl rfl
 refine aE ?_
 refine ak (aj ?_)
 refine aZ hn 2 [98,2,3,10] ?_
 refine aU ?_
 refine aZ hn 2 [98,2,3,10,11] ?_
 refine zc h rfl (fun h => ?_) (fun h => ?_)
 refine aj ?_
 refine aK h (fun (s8:Bool)=>[(98,.glob (GL mx)),(4,vb s8)]) ?_ ?_
 rintro s8 h
 refine ak (aD ?_)
 refine aB [1] (by kernel_rfl) (es':=[(_,_)]) rfl ?_
 refine aV (ay ?_)
 obtain rfl:=zi h
 exact aJ hio rfl (.tmp _ _ .nil) rfl rfl
 intro u9 h hl10 hr11
 refine ao h (fun hg5_4 h => ?_) (fun hg5_4 h => ?_)
 obtain ⟨v5,hv5,h⟩:=zn h
 refine ao h (fun hg5_13 h => ?_) (fun hg5_13 h => ?_)
 refine ao h (fun hg5_17 h => ?_) (fun hg5_17 h => ?_)
 obtain ⟨v6,hv6,h⟩:=zn h
 refine yx hn 5 ?_
 refine yd hg5_4 5 ?_
 refine ys 3 ⟨lb hv5⟩ ?_
 refine yd hg5_13 4 ?_
 refine yd hg5_17 8 ?_
 refine ys 2 ⟨lg call42 (jl _ _ _ hv6) 98⟩ ?_
 refine ye [98,4] ?_
 exact hl10 _ (zi h).symm
 refine ao h (fun hg5_23 h => ?_) (fun hg5_23 h => ?_)
 obtain ⟨v7,hv7,h⟩:=zn h
 refine yx hn 5 ?_
 refine yd hg5_4 5 ?_
 refine ys 3 ⟨lb hv5⟩ ?_
 refine yd hg5_13 4 ?_
 refine yd hg5_17 6 ?_
 refine yd hg5_23 2 ?_
 refine ys 2 ⟨lg call42 (jl _ _ _ hv7) 98⟩ ?_
 refine ye [98,4] ?_
 exact hl10 _ (zi h).symm
 refine yx hn 5 ?_
 refine yd hg5_4 5 ?_
 refine ys 3 ⟨lb hv5⟩ ?_
 refine yd hg5_13 4 ?_
 refine yd hg5_17 6 ?_
 refine yd hg5_23 5 ?_
 refine ye [98,4] ?_
 exact hl10 _ (zi h).symm
 refine yx hn 5 ?_
 refine yd hg5_4 5 ?_
 refine ys 3 ⟨lb hv5⟩ ?_
 refine yd hg5_13 15 ?_
 refine ye [98,4] ?_
 exact hl10 _ (zi h).symm
 refine yx hn 5 ?_
 refine yd hg5_4 24 ?_
 refine ye [98,4] ?_
 exact hl10 _ (zi h).symm
 refine aZ hn 2 [98,2,3,10,41] ?_
 refine zc h rfl (fun h => ?_) (fun h => ?_)
 refine aj ?_
 refine aK h (fun (s15:Bool)=>[(98,.glob (GL mx)),(4,vb s15)]) ?_ ?_
 rintro s15 h
 refine ak (aD ?_)
 refine aB [1] (by kernel_rfl) (es':=[(_,_)]) rfl ?_
 refine aV (ay ?_)
 obtain rfl:=zi h
 exact aJ hio rfl (.tmp _ _ .nil) rfl rfl
 intro u16 h hl17 hr18
 obtain ⟨v13,hv13,h⟩:=zn h
 refine ao h (fun hg7_6 h => ?_) (fun hg7_6 h => ?_)
 obtain ⟨v14,hv14,h⟩:=zn h
 refine yx hn 4 ?_
 refine ys 2 ⟨lb hv13⟩ ?_
 refine yd hg7_6 3 ?_
 refine ys 2 ⟨lk call43 (mO _ _ _ hv14)⟩ ?_
 refine ye [98,4] ?_
 exact hl17 _ (zi h).symm
 refine yx hn 4 ?_
 refine ys 2 ⟨lb hv13⟩ ?_
 refine yd hg7_6 6 ?_
 refine ye [98,4] ?_
 exact hl17 _ (zi h).symm
 refine aZ hn 2 [98,2,3,10,55] ?_
 refine zc h rfl (fun h => ?_) (fun h => ?_)
 refine aj ?_
 refine aK h (fun (s21:Bool)=>[(98,.glob (GL mx)),(4,vb s21)]) ?_ ?_
 rintro s21 h
 refine ak (aD ?_)
 refine aB [1] (by kernel_rfl) (es':=[(_,_)]) rfl ?_
 refine aV (ay ?_)
 obtain rfl:=zi h
 exact aJ hio rfl (.tmp _ _ .nil) rfl rfl
 intro u22 h hl23 hr24
 refine ao h (fun hg9_3 h => ?_) (fun hg9_3 h => ?_)
 refine ao h (fun hg9_10 h => ?_) (fun hg9_10 h => ?_)
 obtain ⟨v20,hv20,h⟩:=zn h
 refine yx hn 4 ?_
 refine yd hg9_3 7 ?_
 refine yd hg9_10 4 ?_
 refine ys 3 ⟨lk call31 (cZ _ _ _ hv20)⟩ ?_
 refine ye [98,4] ?_
 exact hl23 _ (zi h).symm
 refine yx hn 4 ?_
 refine yd hg9_3 7 ?_
 refine yd hg9_10 8 ?_
 refine ye [98,4] ?_
 exact hl23 _ (zi h).symm
 refine yx hn 4 ?_
 refine yd hg9_3 15 ?_
 refine ye [98,4] ?_
 exact hl23 _ (zi h).symm
 refine aZ hn 2 [98,2,3,10,75] ?_
 refine zc h rfl (fun h => ?_) (fun h => ?_)
 refine aj ?_
 obtain ⟨v26,hv26,h⟩:=zn h
 refine yx hn 3 ?_
 refine ys 1 ⟨lk call44 (jo _ _ _ hv26)⟩ ?_
 refine cN [98,4] ?_
 refine aD ?_
 refine aB [1] (by kernel_rfl) (es':=[(_,_)]) rfl ?_
 refine aV (ay ?_)
 obtain rfl:=zi h
 exact aJ hio rfl (.tmp _ _ .nil) rfl rfl
 refine aZ hn 2 [98,2,3,10,81] ?_
 refine zc h rfl (fun h => ?_) (fun h => ?_)
 refine aj ?_
 refine aK h (fun (s30:Bool)=>[(98,.glob (GL mx)),(4,vb s30)]) ?_ ?_
 rintro s30 h
 refine ak (aD ?_)
 refine aB [1] (by kernel_rfl) (es':=[(_,_)]) rfl ?_
 refine aV (ay ?_)
 obtain rfl:=zi h
 exact aJ hio rfl (.tmp _ _ .nil) rfl rfl
 intro u31 h hl32 hr33
 obtain ⟨v28,hv28,h⟩:=zn h
 refine ao h (fun hg13_4 h => ?_) (fun hg13_4 h => ?_)
 obtain ⟨v29,hv29,h⟩:=zn h
 refine yx hn 3 ?_
 refine ys 1 ⟨lk call45 (jQ _ _ _ hv28)⟩ ?_
 refine yd hg13_4 2 ?_
 refine ys 2 ⟨lk call46 (lR _ _ _ hv29)⟩ ?_
 refine ye [98,4] ?_
 exact hl32 _ (zi h).symm
 refine yx hn 3 ?_
 refine ys 1 ⟨lk call45 (jQ _ _ _ hv28)⟩ ?_
 refine yd hg13_4 5 ?_
 refine ye [98,4] ?_
 exact hl32 _ (zi h).symm
 refine aZ hn 2 [98,2,3,92] ?_
 refine zc h rfl (fun h => ?_) (fun h => ?_)
 refine aj ?_
 obtain ⟨v35,hv35,h⟩:=zn h
 refine yx hn 3 ?_
 refine ys 1 ⟨lk call45 (jQ _ _ _ hv35)⟩ ?_
 refine cN [98,4] ?_
 refine aD ?_
 refine aB [1] (by kernel_rfl) (es':=[(_,_)]) rfl ?_
 refine aV (ay ?_)
 obtain rfl:=zi h
 exact aJ hio rfl (.tmp _ _ .nil) rfl rfl
 refine aE (aT (ak ?_))
 refine aZ hn 1 [98,4] ?_
 refine aD ?_
 refine aB [1] (by kernel_rfl) (es':=[(_,_)]) rfl ?_
 obtain rfl:=zi h
 exact aJ hio rfl (.tmp _ _ .nil) rfl rfl
theorem kv (l:(List T_Path)) (r:(List T_Path)) (h:Sh.eJ l=some r):cg Tryz.prog 62 [.fl .shr 3 (flatten (map T_Path.enc l))] (.fl (.own 24) 3 (flatten (map T_Path.enc r))):=by
 unfold Sh.eJ at h
 refine yO 5 func62 fun g0 hn hio => ?_
 refine aZ hn 1 [0] ?_
 refine aj ?_
 obtain ⟨v1,hv1,h⟩:=zn h
 refine yx hn 1 ?_
 refine yS (.fl (.own 24) 3 (flatten (map T_Path.enc v1))) 0 ⟨gP _ _ _ _ DD rfl rfl (nj T_Path.len _) hv1 (congrArg (fun l=>flatten (map _ l)) (gY hv1))⟩ ?_
 refine ya 0 ?_
 refine cN [2] ?_
 refine aD ?_
 obtain rfl:=zi h
 exact aJ hio rfl (.tmp _ _ .nil) rfl rfl
theorem gm (l:(List Int)) (r:(List Int)) (h:Sh.dL l=some r):cg Tryz.prog 55 [.fl .shr 1 (map (int .u8) l)] (.fl (.own 5) 1 (map (int .u8) r)):=by
 unfold Sh.dL at h
 refine yO 5 func55 fun g0 hn hio => ?_
 refine aZ hn 1 [0] ?_
 refine aj ?_
 obtain ⟨v1,hv1,h⟩:=zn h
 refine yx hn 1 ?_
 refine yS (.fl (.own 5) 1 (map (int .u8) v1)) 0 ⟨gP _ _ _ _ Aj rfl rfl (fe _) hv1 (congrArg (map _) (gY hv1))⟩ ?_
 refine ya 0 ?_
 refine cN [2] ?_
 refine aD ?_
 obtain rfl:=zi h
 exact aJ hio rfl (.tmp _ _ .nil) rfl rfl
end Go.Proofs.YtjdmcbkkacnmdaaGreatDoor
