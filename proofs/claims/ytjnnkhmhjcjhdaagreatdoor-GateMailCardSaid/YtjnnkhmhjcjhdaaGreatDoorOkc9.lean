import Derived.Test.YtjnnkhmhjcjhdaaGreatDoorOkc8
set_option linter.unusedVariables false
set_option linter.unusedSimpArgs false
set_option maxHeartbeats 1000000
namespace Go.Proofs.YtjnnkhmhjcjhdaaGreatDoor
open Go.Abs Go.Abs.Sh Tryz
open List (map flatten)
open Value (int)
theorem dQ (a:(List T_Path)) (b:(List T_Path)) (r:Bool) (h:Sh.fh a b=some r):bF Tryz.prog 40 [.fl .shr 3 (flatten (map T_Path.enc a)),.fl .shr 3 (flatten (map T_Path.enc b))] (.v (.bool r)):=by
 unfold Sh.fh at h
 refine yO 27 func40 fun g0 hn hio => ?_
 refine aG hn 1 [0,1] ?_
 refine ab ?_
 refine aG hn 5 [0,1,10] ?_
 refine zc h rfl (fun h => ?_) (fun h => ?_)
 refine aG hn 1 [4] ?_
 refine ak (ag ?_)
 obtain rfl:=zi h
 exact al hio rfl (.tmp _ _ .nil) rfl rfl
 refine am ?_
 refine ae (ab ?_)
 refine aG hn 1 [0,1,5] ?_
 refine aS h (fun (s13:Int)=>[(0,.fl .shr 3 (flatten (map T_Path.enc a))),(1,.fl .shr 3 (flatten (map T_Path.enc b))),(5,vi s13)]) (fun (():Unit)=>[]) ?_ ?_
 rintro ⟨⟩ h
 refine ae ?_
 refine aG hn 1 [4] ?_
 refine ak ?_
 obtain rfl:=zi h
 exact al hio rfl (.tmp _ _ .nil) rfl rfl
 rintro u16 hl17 hr18 s13 rr21 h ho19
 refine ab ?_
 refine aG hn 4 [0,1,5,14] ?_
 refine zc h rfl (fun h => ?_) (fun h => ?_)
 refine am ?_
 refine ae (ab ?_)
 refine aC (ab ?_)
 obtain ⟨v3,hv3,v4,hv4,v5,hv5,v6,hv6,h⟩:=jX h
 obtain ⟨v7,hv7,h⟩:=zn h
 refine wb [[0],[5]] ?_
 refine wN [17,18] ?_
 refine wo [] ⟨lj hv3⟩ ?_
 refine wN [19,17] ?_
 refine wS (.agg [vb v4.LQ,vs v4.LM,vs v4.LA]) [[1],[5]] ⟨fy _ _ _ _ _ _ _ underlying26 rfl pD rfl rfl (gM T_Path.len hv4) rfl (by decide)⟩ ?_
 refine wN [21,22] ?_
 refine wo [] ⟨lj hv5⟩ ?_
 refine wN [23,21] ?_
 refine wS (.agg [vb v6.LQ,vs v6.LM,vs v6.LA]) [] ⟨fy _ _ _ _ _ _ _ underlying26 rfl pD rfl rfl (gM T_Path.len hv6) rfl (by decide)⟩ ?_
 refine wN [20,24] ?_
 refine wo [[25]] ⟨lk call32 (cG _ _ _ hv7)⟩ ?_
 refine sf hn [0,1,5,26] ?_
 refine zc h rfl (fun h => ?_) (fun h => ?_)
 refine aG hn 1 [4] ?_
 refine ak (aF (ag (ag (aF (ag ?_)))))
 have h:=hr18 _ (ho19 _ (zi h).symm).symm
 obtain rfl:=zi h
 exact al hio rfl (.tmp _ _ .nil) rfl rfl
 refine am (aI (ae ?_))
 obtain ⟨v9,hv9,h⟩:=zn h
 refine yx hn 1 ?_
 refine ys 0 ⟨lb hv9⟩ ?_
 refine yw [5] 1 ?_
 refine ye [0,1,5] ?_
 exact bb _ (zi h).symm rfl
 refine ba (ap (ap (aZ ?_)))
 refine ah [] (by kernel_rfl) (es':=[]) rfl ?_
 exact hl17 _ (ho19 _ (zi h).symm).symm
theorem eT (a:(List Int)) (b:(List Int)) (r:Bool) (h:Sh.fk a b=some r):bF Tryz.prog 41 [.fl .shr 1 (map (int .u8) a),.fl .shr 1 (map (int .u8) b)] (.v (.bool r)):=by
 unfold Sh.fk at h
 refine yO 26 func41 fun g0 hn hio => ?_
 refine aG hn 1 [0,1] ?_
 refine ab ?_
 refine aG hn 5 [0,1,10] ?_
 refine zc h rfl (fun h => ?_) (fun h => ?_)
 refine aG hn 1 [4] ?_
 refine ak (ag ?_)
 obtain rfl:=zi h
 exact al hio rfl (.tmp _ _ .nil) rfl rfl
 refine am ?_
 refine ae (ab ?_)
 refine aG hn 1 [0,1,5] ?_
 refine aS h (fun (s12:Int)=>[(0,fb a),(1,fb b),(5,vi s12)]) (fun (():Unit)=>[]) ?_ ?_
 rintro ⟨⟩ h
 refine ae ?_
 refine aG hn 1 [4] ?_
 refine ak ?_
 obtain rfl:=zi h
 exact al hio rfl (.tmp _ _ .nil) rfl rfl
 rintro u15 hl16 hr17 s12 rr20 h ho18
 refine ab ?_
 refine aG hn 4 [0,1,5,14] ?_
 refine zc h rfl (fun h => ?_) (fun h => ?_)
 refine am ?_
 refine ae (ab ?_)
 refine aC (ab ?_)
 obtain ⟨v3,hv3,v4,hv4,v5,hv5,v6,hv6,h⟩:=jX h
 refine wb [[0],[5]] ?_
 refine wN [17,18] ?_
 refine wo [] ⟨li hv3⟩ ?_
 refine wN [19,17] ?_
 refine wo [[1],[5]] ⟨ll hv4⟩ ?_
 refine wN [21,22] ?_
 refine wo [] ⟨li hv5⟩ ?_
 refine wN [23,21] ?_
 refine wo [[20,24]] ⟨ll hv6⟩ ?_
 refine sf hn [0,1,5,25] ?_
 refine zc h rfl (fun h => ?_) (fun h => ?_)
 refine aG hn 1 [4] ?_
 refine ak (aF (ag (ag (aF (ag ?_)))))
 have h:=hr17 _ (ho18 _ (zi h).symm).symm
 obtain rfl:=zi h
 exact al hio rfl (.tmp _ _ .nil) rfl rfl
 refine am (aI (ae ?_))
 obtain ⟨v8,hv8,h⟩:=zn h
 refine yx hn 1 ?_
 refine ys 0 ⟨lb hv8⟩ ?_
 refine yw [5] 1 ?_
 refine ye [0,1,5] ?_
 exact bb _ (zi h).symm rfl
 refine ba (ap (ap (aZ ?_)))
 refine ah [] (by kernel_rfl) (es':=[]) rfl ?_
 exact hl16 _ (ho18 _ (zi h).symm).symm
theorem kA (a:az) (b:az) (r:Bool) (h:Sh.fM a b=some r):bF Tryz.prog 26 [.agg [.v (.bool a.LD.LQ),.v (.string a.LD.LM),.v (.string a.LD.LA),.fl .shr 3 (flatten (map T_Path.enc a.To)),.fl .shr 1 (map (int .u8) a.Lw),.v (.bool a.LY),.v (.string a.LI),.v (.int .i64 a.At)],.agg [.v (.bool b.LD.LQ),.v (.string b.LD.LM),.v (.string b.LD.LA),.fl .shr 3 (flatten (map T_Path.enc b.To)),.fl .shr 1 (map (int .u8) b.Lw),.v (.bool b.LY),.v (.string b.LI),.v (.int .i64 b.At)]] (.v (.bool r)):=by
 unfold Sh.fM at h
 refine yO 45 func26 fun g0 hn hio => ?_
 refine aG hn 3 [2,3] ?_
 refine ab ?_
 refine aq h (fun (s5:Bool)=>[(4,vb s5)]) ?_ ?_
 rintro s5 h
 refine ae (ak ?_)
 obtain rfl:=zi h
 exact al hio rfl (.tmp _ _ .nil) rfl rfl
 intro u6 h hl7 hr8
 obtain ⟨v1,hv1,h⟩:=zn h
 refine ai h (fun hg1_5 h => ?_) (fun hg1_5 h => ?_)
 obtain ⟨v2,hv2,h⟩:=zn h
 refine ai h (fun hg1_12 h => ?_) (fun hg1_12 h => ?_)
 obtain ⟨v3,hv3,h⟩:=zn h
 refine ai h (fun hg1_19 h => ?_) (fun hg1_19 h => ?_)
 obtain ⟨v4,hv4,h⟩:=zn h
 refine ai h (fun hg1_26 h => ?_) (fun hg1_26 h => ?_)
 refine ai h (fun hg1_33 h => ?_) (fun hg1_33 h => ?_)
 refine yx hn 4 ?_
 refine ys 1 ⟨lk call32 (cG _ _ _ hv1)⟩ ?_
 refine yd hg1_5 4 ?_
 refine ys 2 ⟨lk call40 (dQ _ _ _ hv2)⟩ ?_
 refine yd hg1_12 4 ?_
 refine ys 2 ⟨lk call41 (eT _ _ _ hv3)⟩ ?_
 refine yd hg1_19 4 ?_
 refine yS (vb (a.LY==b.LY)) 2 ⟨ra _ _ _ _ underlying4 rfl rfl⟩ ?_
 refine yd hg1_26 7 ?_
 refine yd hg1_33 7 ?_
 refine ye [4] ?_
 exact hl7 _ (zi h).symm
 refine yx hn 4 ?_
 refine ys 1 ⟨lk call32 (cG _ _ _ hv1)⟩ ?_
 refine yd hg1_5 4 ?_
 refine ys 2 ⟨lk call40 (dQ _ _ _ hv2)⟩ ?_
 refine yd hg1_12 4 ?_
 refine ys 2 ⟨lk call41 (eT _ _ _ hv3)⟩ ?_
 refine yd hg1_19 4 ?_
 refine yS (vb (a.LY==b.LY)) 2 ⟨ra _ _ _ _ underlying4 rfl rfl⟩ ?_
 refine yd hg1_26 7 ?_
 refine yd hg1_33 7 ?_
 refine ye [4] ?_
 exact hl7 _ (zi h).symm
 refine yx hn 4 ?_
 refine ys 1 ⟨lk call32 (cG _ _ _ hv1)⟩ ?_
 refine yd hg1_5 4 ?_
 refine ys 2 ⟨lk call40 (dQ _ _ _ hv2)⟩ ?_
 refine yd hg1_12 4 ?_
 refine ys 2 ⟨lk call41 (eT _ _ _ hv3)⟩ ?_
 refine yd hg1_19 4 ?_
 refine yS (vb (a.LY==b.LY)) 2 ⟨ra _ _ _ _ underlying4 rfl rfl⟩ ?_
 refine yd hg1_26 14 ?_
 refine ye [4] ?_
 exact hl7 _ (zi h).symm
 refine yx hn 4 ?_
 refine ys 1 ⟨lk call32 (cG _ _ _ hv1)⟩ ?_
 refine yd hg1_5 4 ?_
 refine ys 2 ⟨lk call40 (dQ _ _ _ hv2)⟩ ?_
 refine yd hg1_12 4 ?_
 refine ys 2 ⟨lk call41 (eT _ _ _ hv3)⟩ ?_
 refine yd hg1_19 21 ?_
 refine ye [4] ?_
 exact hl7 _ (zi h).symm
 refine yx hn 4 ?_
 refine ys 1 ⟨lk call32 (cG _ _ _ hv1)⟩ ?_
 refine yd hg1_5 4 ?_
 refine ys 2 ⟨lk call40 (dQ _ _ _ hv2)⟩ ?_
 refine yd hg1_12 28 ?_
 refine ye [4] ?_
 exact hl7 _ (zi h).symm
 refine yx hn 4 ?_
 refine ys 1 ⟨lk call32 (cG _ _ _ hv1)⟩ ?_
 refine yd hg1_5 35 ?_
 refine ye [4] ?_
 exact hl7 _ (zi h).symm
end Go.Proofs.YtjnnkhmhjcjhdaaGreatDoor
