import Derived.Test.YtjnnkhmhjcjhdaaGreatDoorOkc5
set_option linter.unusedVariables false
set_option linter.unusedSimpArgs false
set_option maxHeartbeats 1000000
namespace Go.Proofs.YtjnnkhmhjcjhdaaGreatDoor
open Go.Abs Go.Abs.Sh Tryz
open List (map flatten)
open Value (int)
theorem sa (s:Mf) (digits:Int) (r:(Int×Bool)) (h:Sh.mw s digits=some r):bF Tryz.prog 207 [.v (.string s),.v (.int .i64 digits)] (.tup [.v (.int .i64 r.1),.v (.bool r.2)]):=by
 unfold Sh.mw at h
 refine yO 51 func207 fun g0 hn hio => ?_
 refine aG hn 2 [0,1] ?_
 refine ab (ab ?_)
 refine aq h (fun (s3:Bool)=>[(0,vs s),(26,vb s3)]) ?_ ?_
 rintro s3 h
 refine ae ?_
 refine zc h rfl (fun h => ?_) (fun h => ?_)
 refine aG hn 2 [4,5] ?_
 refine ak (ag ?_)
 obtain rfl:=zi h
 exact al hio rfl (.tmp _ _ (.tmp _ _ .nil)) rfl rfl
 refine am ?_
 refine ae (ab ?_)
 refine aG hn 3 [0,28,29] ?_
 refine aS h (fun (s24:Int)=>[(0,vs s),(28,vi (s.size:Int)),(29,vi s24)]) (fun (():Unit)=>[(0,vs s)]) ?_ ?_
 rintro ⟨⟩ h
 refine ae (ab ?_)
 obtain ⟨v43,hv43,h⟩:=zn h
 refine yx hn 1 ?_
 refine ys 0 ⟨lk call139 (rR _ _ hv43)⟩ ?_
 refine ym 4 ?_
 refine aV [7,8] ?_
 refine ab ?_
 refine wb [[7],[8]] ?_
 refine wN [49] ?_
 refine wS (vb true) [[48],[50]] ⟨Db _ _ false underlying155 rfl⟩ ?_
 refine sf hn [4,5] ?_
 refine ak ?_
 obtain rfl:=zi h
 exact al hio rfl (.tmp _ _ (.tmp _ _ .nil)) rfl rfl
 rintro u31 hl32 hr33 s24 rr36 h ho34
 refine aG hn 1 [0,28,29,30] ?_
 refine ab ?_
 refine zc h rfl (fun h => ?_) (fun h => ?_)
 refine am ?_
 refine ae (ab ?_)
 refine aC ?_
 refine aG hn 2 [0,28,29,6] ?_
 refine ab ?_
 refine aq h (fun (s38:Bool)=>[(0,vs s),(28,vi (s.size:Int)),(29,vi s24),(41,vb s38)]) ?_ ?_
 rintro s38 h
 refine ae ?_
 refine zc h rfl (fun h => ?_) (fun h => ?_)
 refine aG hn 2 [4,5] ?_
 refine ak (aF (ag (ag (aF (ag ?_)))))
 have h:=hr33 _ (ho34 _ (zi h).symm).symm
 obtain rfl:=zi h
 exact al hio rfl (.tmp _ _ (.tmp _ _ .nil)) rfl rfl
 refine am (aI (ae ?_))
 obtain ⟨v16,hv16,h⟩:=zn h
 refine yx hn 0 ?_
 refine ys 0 ⟨lb hv16⟩ ?_
 refine yw [29] 1 ?_
 refine ye [0,28,29] ?_
 exact bb _ (zi h).symm rfl
 intro u39 h hl40 hr41
 obtain ⟨v9,hv9,h⟩:=zn h
 refine ai h (fun hg6_4 h => ?_) (fun hg6_4 h => ?_)
 refine yx hn 2 ?_
 refine ys 2 ⟨lh hv9⟩ ?_
 refine yd hg6_4 5 ?_
 refine ye [0,28,29,41] ?_
 exact hl40 _ (zi h).symm
 obtain ⟨v10,hv10,h⟩:=zn h
 refine yx hn 2 ?_
 refine ys 2 ⟨lh hv9⟩ ?_
 refine yd hg6_4 2 ?_
 refine ys 2 ⟨lh hv10⟩ ?_
 refine ye [0,28,29,41] ?_
 exact hl40 _ (zi h).symm
 refine ba (ap (ap (aZ ?_)))
 refine ah [0] (by kernel_rfl) (es':=[(_,_)]) rfl ?_
 exact hl32 _ (ho34 _ (zi h).symm).symm
 intro u4 h hl5 hr6
 refine ai h (fun hg1_2 h => ?_) (fun hg1_2 h => ?_)
 refine yx hn 3 ?_
 refine yd hg1_2 15 ?_
 refine ye [0,26] ?_
 exact hl5 _ (zi h).symm
 obtain ⟨v1,hv1,h⟩:=zn h
 refine ai h (fun hg1_9 h => ?_) (fun hg1_9 h => ?_)
 refine yx hn 3 ?_
 refine yd hg1_2 3 ?_
 refine yS (vi v1) 3 ⟨(Option.some.inj hv1) ▸ vJ _ _ _ _ rfl rfl⟩ ?_
 refine yd hg1_9 8 ?_
 refine ye [0,26] ?_
 exact hl5 _ (zi h).symm
 obtain ⟨v2,hv2,h⟩:=zn h
 refine ai h (fun hg1_13 h => ?_) (fun hg1_13 h => ?_)
 refine yx hn 3 ?_
 refine yd hg1_2 3 ?_
 refine yS (vi v1) 3 ⟨(Option.some.inj hv1) ▸ vJ _ _ _ _ rfl rfl⟩ ?_
 refine yd hg1_9 1 ?_
 refine ys 2 ⟨lh hv2⟩ ?_
 refine yd hg1_13 4 ?_
 refine ye [0,26] ?_
 exact hl5 _ (zi h).symm
 refine yx hn 3 ?_
 refine yd hg1_2 3 ?_
 refine yS (vi v1) 3 ⟨(Option.some.inj hv1) ▸ vJ _ _ _ _ rfl rfl⟩ ?_
 refine yd hg1_9 1 ?_
 refine ys 2 ⟨lh hv2⟩ ?_
 refine yd hg1_13 4 ?_
 refine ye [0,26] ?_
 exact hl5 _ (zi h).symm
theorem px (s:Mf) (words:(List Mf)) (r:(Mf×Bool)) (h:Sh.mv s words=some r):bF Tryz.prog 208 [.v (.string s),.fl .shr 1 (map Value.string words)] (.tup [.v (.string r.1),.v (.bool r.2)]):=by
 unfold Sh.mv at h
 refine yO 19 func208 fun g0 hn hio => ?_
 refine aG hn 2 [0,1] ?_
 refine ab ?_
 refine aG hn 3 [0,8,9,10] ?_
 refine aS h (fun (s10:Int)=>[(0,vs s),(8,.fl .shr 1 (map Value.string words)),(9,vi (words.length:Int)),(10,vi s10)]) (fun (():Unit)=>[]) ?_ ?_
 rintro ⟨⟩ h
 refine ae ?_
 refine aG hn 2 [4,5] ?_
 refine ak ?_
 obtain rfl:=zi h
 exact al hio rfl (.tmp _ _ (.tmp _ _ .nil)) rfl rfl
 rintro u13 hl14 hr15 s10 rr18 h ho16
 refine aG hn 1 [0,8,9,10,11] ?_
 refine ab ?_
 refine zc h rfl (fun h => ?_) (fun h => ?_)
 refine am ?_
 refine ae (ab ?_)
 refine aC (ab ?_)
 obtain ⟨v2,hv2,v3,hv3,h⟩:=dM h
 refine yx hn 0 ?_
 refine ys 0 ⟨li hv2⟩ ?_
 refine ys 1 ⟨ll hv3⟩ ?_
 refine aV [0,8,9,10,7] ?_
 refine ab ?_
 obtain ⟨v4,hv4,h⟩:=zn h
 refine yx hn 2 ?_
 refine ys 0 ⟨lk call136 (fS _ _ _ hv4)⟩ ?_
 refine aV [0,8,9,10,7,16] ?_
 refine zc h rfl (fun h => ?_) (fun h => ?_)
 refine aG hn 3 [4,5] ?_
 refine ak (aF (ag (ag (aF (ag ?_)))))
 have h:=hr15 _ (ho16 _ (zi h).symm).symm
 obtain rfl:=zi h
 exact al hio rfl (.tmp _ _ (.tmp _ _ .nil)) rfl rfl
 refine am (aI (ae ?_))
 obtain ⟨v6,hv6,h⟩:=zn h
 refine yx hn 0 ?_
 refine ys 0 ⟨lb hv6⟩ ?_
 refine yw [10] 1 ?_
 refine ye [0,8,9,10] ?_
 exact bb _ (zi h).symm rfl
 refine ba (ap (ap (aZ ?_)))
 refine ah [] (by kernel_rfl) (es':=[]) rfl ?_
 exact hl14 _ (ho16 _ (zi h).symm).symm
theorem qt (kind:Int) (key:Mf) (val:Mf) (r:(ar×Bool)) (h:Sh.kN kind key val=some r):bF Tryz.prog 186 [.v (.int .i64 kind),.v (.string key),.v (.string val)] (.tup [.agg [.v (.string r.1.LJ),.v (.string r.1.Me)],.v (.bool r.2)]):=by
 unfold Sh.kN at h
 refine yO 62 func186 fun g0 hn hio => ?_
 refine gH hn 0 ?_
 refine yS (.box 181 [vs z0,vs z0]) 1 ⟨oA (aT _ _ rA)⟩ ?_
 refine aV [0,1,2,6] ?_
 refine ab (aC (ab ?_))
 refine aq h (fun (s1:Bool)=>[(0,vi kind),(1,vs key),(2,vs val),(6,.box 181 [vs z0,vs z0]),(14,vb s1)]) ?_ ?_
 rintro s1 h
 refine ae ?_
 refine zc h rfl (fun h => ?_) (fun h => ?_)
 refine ab ?_
 obtain ⟨v6,hv6,h⟩:=zn h
 refine yx hn 1 ?_
 refine ys 0 ⟨lk call207 (sa _ _ _ hv6)⟩ ?_
 refine ym 4 ?_
 refine aV [2,6,9] ?_
 refine gH hn 1 ?_
 refine yS (.agg [vs (⟨#[83,73,90,69]⟩:Mf),vs val]) 3 ⟨bw _ _ _ _ [1,1] _ _ underlying181 rA (Bd _ underlying181) (.copy _ (.copy _ mb.nil)) rfl rfl rfl⟩ ?_
 refine aV [6,7] ?_
 refine ak (aF (ag ?_))
 obtain rfl:=zi h
 exact al hio rfl (.cellA _ _ _ _ underlying181 rfl qj (.tmp _ _ .nil)) rfl rfl
 refine ab ?_
 refine aq h (fun (s7:Bool)=>[(0,vi kind),(1,vs key),(2,vs val),(6,.box 181 [vs z0,vs z0]),(29,vb s7)]) ?_ ?_
 rintro s7 h
 refine ae ?_
 refine zc h rfl (fun h => ?_) (fun h => ?_)
 refine ab ?_
 obtain ⟨v12,hv12,h⟩:=zn h
 refine yx hn 1 ?_
 refine yS (.fl (.own 9) 1 (map Value.string ([(⟨#[70,85,76,76]⟩:Mf),(⟨#[72,68,82,83]⟩:Mf)]))) 0 ⟨bf _ _ 1 (.string ByteArray.empty) (map Value.string ([(⟨#[70,85,76,76]⟩:Mf),(⟨#[72,68,82,83]⟩:Mf)])) [(0,.string (⟨#[70,85,76,76]⟩:Mf)),(1,.string (⟨#[72,68,82,83]⟩:Mf))] underlying49 sP JD (fun _ V w o a hv hes=>by simp only [List.map_toArray,List.map_cons,List.map_nil]; try rfl) (cN (by simp [Instr.fill,Value.cells]; rfl) (by simp [List.range,List.range.loop] <;> rfl)) (by simp [Value.oneCell']) rfl (by decide) (by decide) (by decide)⟩ ?_
 refine ys 0 ⟨lk call208 (px _ _ _ hv12)⟩ ?_
 refine ym 4 ?_
 refine aV [6,10,11] ?_
 refine gH hn 1 ?_
 refine yS (.agg [vs (⟨#[82,69,84]⟩:Mf),vs v12.1]) 3 ⟨bw _ _ _ _ [1,1] _ _ underlying181 rA (Bd _ underlying181) (.copy _ (.copy _ mb.nil)) rfl rfl rfl⟩ ?_
 refine aV [6,7] ?_
 refine ak (aF (ag ?_))
 obtain rfl:=zi h
 exact al hio rfl (.cellA _ _ _ _ underlying181 rfl qj (.tmp _ _ .nil)) rfl rfl
 refine ab ?_
 refine aq h (fun (s13:Bool)=>[(2,vs val),(6,.box 181 [vs z0,vs z0]),(45,vb s13)]) ?_ ?_
 rintro s13 h
 refine ae ?_
 refine zc h rfl (fun h => ?_) (fun h => ?_)
 refine ab ?_
 obtain ⟨v18,hv18,h⟩:=zn h
 refine yx hn 1 ?_
 refine yS (.fl (.own 9) 1 (map Value.string ([(⟨#[78,69,86,69,82]⟩:Mf),(⟨#[70,65,73,76,85,82,69]⟩:Mf)]))) 0 ⟨bf _ _ 1 (.string ByteArray.empty) (map Value.string ([(⟨#[78,69,86,69,82]⟩:Mf),(⟨#[70,65,73,76,85,82,69]⟩:Mf)])) [(0,.string (⟨#[78,69,86,69,82]⟩:Mf)),(1,.string (⟨#[70,65,73,76,85,82,69]⟩:Mf))] underlying49 sP JD (fun _ V w o a hv hes=>by simp only [List.map_toArray,List.map_cons,List.map_nil]; try rfl) (cN (by simp [Instr.fill,Value.cells]; rfl) (by simp [List.range,List.range.loop] <;> rfl)) (by simp [Value.oneCell']) rfl (by decide) (by decide) (by decide)⟩ ?_
 refine ys 0 ⟨lk call208 (px _ _ _ hv18)⟩ ?_
 refine ym 4 ?_
 refine aV [6,12,13] ?_
 refine gH hn 1 ?_
 refine yS (.agg [vs (⟨#[78,79,84,73,70,89]⟩:Mf),vs v18.1]) 3 ⟨bw _ _ _ _ [1,1] _ _ underlying181 rA (Bd _ underlying181) (.copy _ (.copy _ mb.nil)) rfl rfl rfl⟩ ?_
 refine aV [6,7] ?_
 refine ak (aF (ag ?_))
 obtain rfl:=zi h
 exact al hio rfl (.cellA _ _ _ _ underlying181 rfl qj (.tmp _ _ .nil)) rfl rfl
 refine am (aI (ae ?_))
 refine gH hn 0 ?_
 refine yS (.agg [vs z0,vs z0]) 0 ⟨bw _ _ _ _ [1,1] _ _ underlying181 rA (Bd _ underlying181) mb.nil rfl rfl rfl⟩ ?_
 refine yk [61,6] [] ?_
 refine yt (6,.box 181 [vs z0,vs z0]) 1 ⟨dt _ _ _ 61 6 2 qj rfl rfl rfl rfl rfl (.eq _ (.eq _ (.nil _))) rfl⟩ ?_
 refine aV [6,7] ?_
 refine ak ?_
 obtain rfl:=zi h
 exact al hio rfl (.cellA _ _ _ _ underlying181 rfl qj (.tmp _ _ .nil)) rfl rfl
 intro u14 h hl15 hr16
 refine ai h (fun hg7_2 h => ?_) (fun hg7_2 h => ?_)
 refine yx hn 3 ?_
 refine yd hg7_2 4 ?_
 refine ye [2,6,45] ?_
 exact hl15 _ (zi h).symm
 refine yx hn 3 ?_
 refine yd hg7_2 4 ?_
 refine ye [2,6,45] ?_
 exact hl15 _ (zi h).symm
 intro u8 h hl9 hr10
 refine ai h (fun hg4_2 h => ?_) (fun hg4_2 h => ?_)
 refine yx hn 3 ?_
 refine yd hg4_2 4 ?_
 refine ye [0,1,2,6,29] ?_
 exact hl9 _ (zi h).symm
 refine yx hn 3 ?_
 refine yd hg4_2 4 ?_
 refine ye [0,1,2,6,29] ?_
 exact hl9 _ (zi h).symm
 intro u2 h hl3 hr4
 refine ai h (fun hg1_2 h => ?_) (fun hg1_2 h => ?_)
 refine yx hn 3 ?_
 refine yd hg1_2 4 ?_
 refine ye [0,1,2,6,14] ?_
 exact hl3 _ (zi h).symm
 refine yx hn 3 ?_
 refine yd hg1_2 4 ?_
 refine ye [0,1,2,6,14] ?_
 exact hl3 _ (zi h).symm
theorem lC (bx:Nat) (q:ar) (cap:ar) (r:Bool) (h:Sh.fR q cap=some r):iq Tryz.prog [(bx,[.string cap.LJ,.string cap.Me])] 188 [.agg [.v (.string q.LJ),.v (.string q.Me)],.v (.pointer (some ⟨bx,0,none⟩))] (.v (.bool r)):=by
 unfold Sh.fR at h
 refine yG 9 func188 fun g0 hn hio => ?_
 refine aG hn 2 [1,9,2] ?_
 refine gH hn 2 ?_
 refine yS (.v (.pointer (some ⟨bx,0,none⟩))) 0 ⟨tv _ _ _ _ bx 0 _ underlying181 rfl sP rfl rfl⟩ ?_
 refine yS (vs cap.LJ) 2 ⟨mI _ _ 9 bx 0 _ _ underlying9 rfl rfl rfl (.head _) rfl⟩ ?_
 refine aV [9,3] ?_
 refine ak ?_
 refine ah [1] (by kernel_rfl) (es':=[(_,_)]) rfl ?_
 obtain rfl:=zi h
 exact al hio rfl (.tmp _ _ .nil) rfl rfl
theorem df (bx:Nat) (s:(List ar)) (cap:ar) (r:Int) (h:Sh.br s cap=some r):iq Tryz.prog [(bx,[.string cap.LJ,.string cap.Me])] 209 [.fl .shr 2 (flatten (map ar.enc s)),.v (.func (.func 188) #[] #[.pointer (some ⟨bx,0,none⟩)])] (.v (.int .i64 r)):=by
 unfold Sh.br at h
 refine yG 19 func209 fun g0 hn hio => ?_
 refine aG hn 1 [0,1,19] ?_
 refine ab ?_
 refine aG hn 3 [0,1,19,7,8] ?_
 refine aS h (fun (s10:Int)=>[(0,.fl .shr 2 (flatten (map ar.enc s))),(1,.v (.func (.func 188) #[] #[.pointer (some ⟨bx,0,none⟩)])),(19,.glob [(bx,[.string cap.LJ,.string cap.Me])]),(7,vi (s.length:Int)),(8,vi s10)]) (fun (():Unit)=>[(19,.glob [(bx,[.string cap.LJ,.string cap.Me])])]) ?_ ?_
 rintro ⟨⟩ h
 refine ae ?_
 refine aG hn 1 [19,4] ?_
 refine ak ?_
 refine ah [1] (by kernel_rfl) (es':=[(_,_)]) rfl ?_
 obtain rfl:=zi h
 exact al hio rfl (.tmp _ _ .nil) rfl rfl
 rintro u13 hl14 hr15 s10 rr18 h ho16
 refine aG hn 1 [0,1,19,7,8,9] ?_
 refine ab ?_
 refine zc h rfl (fun h => ?_) (fun h => ?_)
 refine am ?_
 refine ae (ab ?_)
 refine aC ?_
 refine aG hn 2 [0,1,19,7,8,5] ?_
 refine ab ?_
 obtain ⟨v2,hv2,v3,hv3,v4,hv4,h⟩:=ng h
 refine yx hn 3 ?_
 refine ys 0 ⟨lj hv2⟩ ?_
 refine yS (.agg [vs v3.LJ,vs v3.Me]) 0 ⟨fy _ _ _ _ _ _ _ underlying181 rfl qj rfl rfl (gM ar.len hv3) rfl (by decide)⟩ ?_
 refine yS (vb v4) 0 ⟨DM _ _ 19 188 (.pointer (some ⟨bx,0,none⟩)) _ _ rfl call188 rfl rfl (fun _ h=>h) (lC bx v3 cap _ hv4) rfl rfl⟩ ?_
 refine aV [0,1,19,7,8,5,16] ?_
 refine zc h rfl (fun h => ?_) (fun h => ?_)
 refine aG hn 2 [19,4] ?_
 refine ak ?_
 refine ah [1] (by kernel_rfl) (es':=[(_,_)]) rfl ?_
 refine aF (ag (ag (aF (ag ?_))))
 have h:=hr15 _ (ho16 _ (zi h).symm).symm
 obtain rfl:=zi h
 exact al hio rfl (.tmp _ _ .nil) rfl rfl
 refine am (aI (ae ?_))
 obtain ⟨v6,hv6,h⟩:=zn h
 refine yx hn 0 ?_
 refine ys 0 ⟨lb hv6⟩ ?_
 refine yw [8] 1 ?_
 refine ye [0,1,19,7,8] ?_
 exact bb _ (zi h).symm rfl
 refine ba (ap (ap (aZ ?_)))
 refine ah [2] (by kernel_rfl) (es':=[(_,_)]) rfl ?_
 exact hl14 _ (ho16 _ (zi h).symm).symm
theorem cP (bx:Nat) (s:(List ar)) (cap:ar) (r:Bool) (h:Sh.bj s cap=some r):iq Tryz.prog [(bx,[.string cap.LJ,.string cap.Me])] 187 [.fl .shr 2 (flatten (map ar.enc s)),.v (.func (.func 188) #[] #[.pointer (some ⟨bx,0,none⟩)])] (.v (.bool r)):=by
 unfold Sh.bj at h
 refine yG 9 func187 fun g0 hn hio => ?_
 refine aG hn 1 [0,1,9] ?_
 refine ab ?_
 obtain ⟨v1,hv1,h⟩:=zn h
 refine yx hn 2 ?_
 refine ys 2 ⟨lg call209 (df _ _ _ _ hv1) 9⟩ ?_
 refine aV [9,4] ?_
 refine ak ?_
 refine ah [1] (by kernel_rfl) (es':=[(_,_)]) rfl ?_
 obtain rfl:=zi h
 exact al hio rfl (.tmp _ _ .nil) rfl rfl
theorem pM (mx:Int×Nat×Value) (kind:Int) (s:Mf) (r:((List ar)×Bool)) (h:Sh.cF kind s=some r):iq Tryz.prog (GL mx) 159 [.v (.int .i64 kind),.v (.string s)] (.tup [.fl .ro 2 (flatten (map ar.enc r.1)),.v (.bool r.2)]):=by
 unfold Sh.cF at h
 refine yG 53 func159 fun g0 hn hio => ?_
 refine gH hn 1 ?_
 refine yS (.box 120 [vz]) 0 ⟨oA (aT _ _ Gy)⟩ ?_
 refine yS (.box 4 [vb false]) 0 ⟨oA (aT _ _ JB)⟩ ?_
 refine aV [1,53,2,4,5] ?_
 refine gH hn 0 ?_
 refine yS (.box 120 [vz]) 0 ⟨oA (aT _ _ Gy)⟩ ?_
 refine aV [1,53,2,4,5,6] ?_
 refine ab ?_
 refine aG hn 2 [1,53,2,4,5,6,15] ?_
 refine zc h rfl (fun h => ?_) (fun h => ?_)
 refine aG hn 3 [53,4,5] ?_
 refine ak ?_
 refine ah [1,2] (by kernel_rfl) (es':=[(_,_),(_,_)]) rfl ?_
 refine cq (fs:=[(4,.box 120 [.fl (.own 181) 2 (flatten (map ar.enc []))]),(5,.box 4 [vb true])]) (.box _ _ (af (bL 181 2) (bC)) rfl (.same _ .nil)) ?_
 refine fB 0 hio (es':=[(4,.box 120 [.fl .ro 2 (flatten (map ar.enc []))]),(5,.box 4 [.v (.bool true)])]) rfl ?_
 refine ag ?_
 obtain rfl:=zi h
 exact al hio rfl (.cell1 _ _ _ _ underlying120 rfl (.cell1 _ _ _ _ underlying4 rfl .nil)) rfl rfl
 refine am ?_
 refine ae (ab ?_)
 obtain ⟨v2,hv2,h⟩:=zn h
 refine yx hn 1 ?_
 refine ys 0 ⟨lk call184 (jV _ _ _ hv2)⟩ ?_
 refine ym 2 ?_
 refine yw [1] 2 ?_
 refine aV [53,2,4,5,6,1,7] ?_
 refine ab ?_
 refine aG hn 2 [53,2,4,5,6,1,23] ?_
 refine zc h rfl (fun h => ?_) (fun h => ?_)
 refine aG hn 2 [53,4,5] ?_
 refine ak ?_
 refine ah [1,2] (by kernel_rfl) (es':=[(_,_),(_,_)]) rfl ?_
 refine cq (fs:=[(4,.box 120 [.fl (.own 181) 2 (flatten (map ar.enc []))]),(5,.box 4 [vb false])]) (.box _ _ (af (bL 181 2) (bC)) rfl (.same _ .nil)) ?_
 refine fB 0 hio (es':=[(4,.box 120 [.fl .ro 2 (flatten (map ar.enc []))]),(5,.box 4 [.v (.bool false)])]) rfl ?_
 refine ag ?_
 obtain rfl:=zi h
 exact al hio rfl (.cell1 _ _ _ _ underlying120 rfl (.cell1 _ _ _ _ underlying4 rfl .nil)) rfl rfl
 refine am ?_
 refine ae (ab ?_)
 refine ab ?_
 obtain ⟨v4,hv4,h⟩:=zn h
 refine yx hn 1 ?_
 refine yk [] [24] ?_
 refine yt (25,.cloB 119 [.box 9 [vs v4.1],.box 9 [vs v4.2.1],.box 3 [vi v4.2.2]]) 0 ⟨gL _ _ 80 _ _ rfl call80 rfl rfl (gG v2.1 (⟨#[32]⟩:Mf) _ hv4) rfl⟩ ?_
 refine aV [53,2,4,5,6,25] ?_
 refine aC ?_
 refine jz [5,0,1,2,3,4] (by kernel_rfl) (es':=[(25,.cloB 119 [.box 9 [vs v4.1],.box 9 [vs v4.2.1],.box 3 [vi v4.2.2]]),(53,.glob (GL mx)),(2,.box 3 [vi kind]),(4,.box 120 [vz]),(5,.box 4 [vb false]),(6,.box 120 [vz])]) rfl ?_
 refine mK (fs:=[(25,.cloB 119 [.box 9 [vs v4.1],.box 9 [vs v4.2.1],.box 3 [vi v4.2.2]]),(53,.glob (GL mx)),(2,.box 3 [vi kind]),(4,.box 120 [vz]),(5,.box 4 [vb false]),(6,.box 120 [.fl (.own 181) 2 (flatten (map ar.enc []))])]) (.same _ (.same _ (.same _ (.same _ (.same _ (.box _ _ (af (bL 181 2) (bC)) rfl .nil)))))) ?_
 refine iC h 119 25 26 54 _ [53,2,4,5,6] call119 (fun (s46:(List ar))=>[(53,.glob (GL mx)),(2,.box 3 [.v (.int .i64 kind)]),(4,.box 120 [vz]),(5,.box 4 [.v (.bool false)]),(6,.box 120 [.fl (.own 181) 2 (flatten (map ar.enc s46))])]) (fun (s52:(List ar))=>[(53,.glob (GL mx)),(2,.box 3 [.v (.int .i64 kind)]),(4,.box 120 [vz]),(5,.box 4 [.v (.bool false)]),(6,.box 120 [.fl (.own 181) 2 (flatten (map ar.enc s52))])]) (fun l J Y hY t t' h=>fP mx l J Y hY v4.1 v4.2.1 v4.2.2 t t' h) hn rfl (fun _=>rfl) (fun _=>rfl) (fun _=>rfl) rfl rfl (fun _=>⟨rfl,rfl⟩) rfl (iA 53 rfl) ?_ ?_ ?_
 rintro kk g0 hn hio x s46 u h
 refine rC (es':=[(26,vs x),(53,.glob (GL mx)),(2,.box 3 [vi kind]),(4,.box 120 [vz]),(5,.box 4 [vb false]),(6,.box 120 [.fl (.own 181) 2 (flatten (map ar.enc s46))]),(53,.v (kk.tm.getD 53 undef)),(2,.v (kk.tm.getD 2 undef)),(4,.v (kk.tm.getD 4 undef)),(5,.v (kk.tm.getD 5 undef)),(6,.v (kk.tm.getD 6 undef)),(54,.inv kk.ready)]) rfl ?_
 refine yy hn 1 [53,2,4,5,6,54,8,53,2,4,5,6] ?_
 refine ah [0,1,2,3,4,6,7,8,9,10,11,5] (by kernel_rfl) (es':=[(53,.glob (GL mx)),(2,.box 3 [vi kind]),(4,.box 120 [vz]),(5,.box 4 [vb false]),(6,.box 120 [.fl (.own 181) 2 (flatten (map ar.enc s46))]),(8,vs x),(53,.v (kk.tm.getD 53 undef)),(2,.v (kk.tm.getD 2 undef)),(4,.v (kk.tm.getD 4 undef)),(5,.v (kk.tm.getD 5 undef)),(6,.v (kk.tm.getD 6 undef)),(54,.inv kk.ready)]) rfl ?_
 refine jQ (es:=[(53,.glob (GL mx)),(2,.box 3 [vi kind]),(4,.box 120 [vz]),(5,.box 4 [vb false]),(6,.box 120 [.fl (.own 181) 2 (flatten (map ar.enc s46))]),(8,vs x),(53,.v (kk.tm.getD 53 undef)),(2,.v (kk.tm.getD 2 undef)),(4,.v (kk.tm.getD 4 undef)),(5,.v (kk.tm.getD 5 undef)),(6,.v (kk.tm.getD 6 undef))]) 54 rfl ?_
 refine aC (ab ?_)
 obtain ⟨v5,hv5,h⟩:=zn h
 refine yx hn 1 ?_
 refine ys 0 ⟨lk call134 (iL _ _ _ hv5)⟩ ?_
 refine ym 6 ?_
 refine aV [53,2,4,5,6,54,9,10,53,2,4,5,6] ?_
 refine ab ?_
 obtain ⟨v6,hv6,v7,hv7,h⟩:=dM h
 refine su (by kernel_rfl) hn (El:=(_::_::_::_::_::_::_::_::_::_::_::_::_::(34,vi kind)::(35,vs v5.1)::(36,vs v6)::(37,vs v5.2.1)::(38,.tup [.agg [vs v7.1.LJ,vs v7.1.Me],vb v7.2])::(33,.tup [.agg [vs v7.1.LJ,vs v7.1.Me],.any])::(33,.tup [.any,vb v7.2])::(39,.agg [vs v7.1.LJ,vs v7.1.Me])::(33,.tup [.any,.any])::(40,vb v7.2)::(12,.box 181 [vs z0,vs z0])::(12,.box 181 [vs v7.1.LJ,vs v7.1.Me])::(13,vb v7.2)::[])) (init:=[0,1,2,3,4,5,6,7,8,9,10,11,12]) (fin:=[0,1,2,3,4,5,24,25,8,9,10,11,12]) (sps:=[zq [1] 13 34,zq [6] 14 35,zq [14] 15 36,zq [7] 16 37,zq [13,15,16] 17 38,⟨[],[17],[18,19],[(.slot 33)]⟩,⟨[],[18],[21,20],[(.slot 39)]⟩,zq [19] 22 40,zq [] 23 12,⟨[20],[23],[24],[.cell 12 0,.cell 12 1]⟩,zq [22] 25 13]) (es':=[(_,_),(_,_),(_,_),(_,_),(_,_),(_,_),(12,.box 181 [vs v7.1.LJ,vs v7.1.Me]),(13,vb v7.2),(_,_),(_,_),(_,_),(_,_),(_,_)]) (by kernel_rfl) rfl rfl ⟨zp rfl (oL underlying3 rfl),z1 rfl,zp rfl (vE _ _ 71 _ _ rfl call71 rfl (eA v5.1 _ hv6) rfl rfl),z1 rfl,zp rfl (vE _ _ 186 _ _ rfl call186 rfl (qt kind v6 v5.2.1 _ hv7) rfl rfl),zp rfl (aN.split (A:=[]) 33 0 _ _ _ (jd _ _ _ _ rfl) (zl rfl) rfl rfl),zp rfl (ke _ _ _ _ _ rfl (zl rfl) rfl rfl (by decide) rfl),zp rfl (oE rfl),zp rfl (aT _ _ rA),zp rfl (oS qj rfl),z2 rfl,zz⟩ ?_
 refine ae (ab ?_)
 refine ab ?_
 refine aq h (fun (s53:Bool)=>[(53,.glob (GL mx)),(2,.box 3 [vi kind]),(4,.box 120 [vz]),(5,.box 4 [vb false]),(6,.box 120 [.fl (.own 181) 2 (flatten (map ar.enc s46))]),(54,.inv kk.busy),(12,.box 181 [vs v7.1.LJ,vs v7.1.Me]),(47,vb s53),(53,.v (kk.tm.getD 53 undef)),(2,.v (kk.tm.getD 2 undef)),(4,.v (kk.tm.getD 4 undef)),(5,.v (kk.tm.getD 5 undef)),(6,.v (kk.tm.getD 6 undef))]) ?_ ?_
 rintro s53 h
 refine ae ?_
 refine zc h rfl (fun h => ?_) (fun h => ?_)
 refine aG hn 2 [53,2,4,5,6,54,53,2,4,5,6] ?_
 refine ak (ag (aF ?_))
 refine ah [0,1,2,3,4,6,7,8,9,10,5] (by kernel_rfl) (es':=[(_,_),(_,_),(_,_),(_,_),(_,_),(_,_),(_,_),(_,_),(_,_),(_,_),(_,_)]) rfl ?_
 obtain rfl:=zi h
 exact qp 54 [53,2,4,5,6] _ rfl rfl (by kernel_rfl)
 refine am (ae ?_)
 obtain ⟨v14,hv14,h⟩:=zn h
 refine yx hn 2 ?_
 refine yS (.fl (.own 181) 2 (flatten (map ar.enc [v7.1]))) 0 ⟨bf _ _ 2 (.agg #[.string ByteArray.empty,.string ByteArray.empty]) (flatten (map ar.enc [v7.1])) [(0,.agg #[.string v7.1.LJ,.string v7.1.Me])] underlying120 qj rA (fun _ V w o a hv hes=>by have e0:=Cp (ys:=[.string v7.1.LJ,.string v7.1.Me]) hv hes (x := .tmp 49) rfl; simp only [List.map_toArray,List.map_cons,List.map_nil,e0]; try rfl) (cN (by simp [Instr.fill,Value.cells]; rfl) (by simp [List.range,List.range.loop,ar.enc] <;> rfl)) (by simp [Value.oneCell',ar.enc]) rfl (by decide) (by decide) (by decide)⟩ ?_
 refine yk [6] [48,50] ?_
 refine mS (6,.box 120 [.any]) (51,.fl (.own 181) 2 (flatten (map ar.enc v14))) 0 ⟨iu _ _ _ _ _ _ Js rfl rfl (zl rfl) rfl (gR ar.len _) (gR ar.len _) hv14 (wP (iY hv14)) (Nat.ne_of_beq_eq_false rfl) rfl rfl⟩ ?_
 refine yw [48] 0 ?_
 refine yk [51,6] [] ?_
 refine yt (6,.box 120 [.fl (.own 181) 2 (flatten (map ar.enc v14))]) 0 ⟨aM _ _ _ _ _ _ _ _ Jl rfl rfl rfl (zl rfl) rfl rfl⟩ ?_
 refine ye [53,2,4,5,6,54,53,2,4,5,6] ?_
 refine aI ?_
 refine ah [0,1,2,3,4,6,7,8,9,10,5] (by kernel_rfl) (es':=[(_,_),(_,_),(_,_),(_,_),(_,_),(_,_),(_,_),(_,_),(_,_),(_,_),(_,_)]) rfl ?_
 obtain rfl:=zi h
 exact jT 54 [53,2,4,5,6] _ rfl rfl (by kernel_rfl)
 intro u54 h hl55 hr56
 refine ai h (fun hg11_2 h => ?_) (fun hg11_2 h => ?_)
 refine yx hn 3 ?_
 refine yd hg11_2 4 ?_
 refine ye [53,2,4,5,6,54,12,47,53,2,4,5,6] ?_
 exact hl55 _ (zi h).symm
 obtain ⟨v8,hv8,h⟩:=zn h
 refine yx hn 3 ?_
 refine yd hg11_2 1 ?_
 refine yS (.clo 188 [12]) 0 ⟨lW _ _ _ 12 (by decide)⟩ ?_
 refine yS (vb v8) 1 ⟨Cn _ 46 12 45 187 188 [.string v7.1.LJ,.string v7.1.Me] [.tmp 44] _ _ rfl call187 rfl rfl rfl rfl (fun bx=>cP bx s46 v7.1 _ hv8) rfl rfl⟩ ?_
 refine ye [53,2,4,5,6,54,12,47,53,2,4,5,6] ?_
 exact hl55 _ (zi h).symm
 rintro D s46 h
 refine aI ?_
 refine ae (ab ?_)
 refine vN 4 hio (es':=[(53,.glob (GL mx)),(2,.box 3 [.v (.int .i64 kind)]),(4,.box 120 [vz]),(5,.box 4 [.v (.bool false)]),(6,.box 120 [.fl .ro 2 (flatten (map ar.enc s46))])]) rfl ?_
 refine yy hn 3 [53,4,5] ?_
 refine ae (ak ?_)
 refine ah [1,2] (by kernel_rfl) (es':=[(_,_),(_,_)]) rfl ?_
 obtain rfl:=zi h
 exact al hio rfl (.cell1 _ _ _ _ underlying120 rfl (.cell1 _ _ _ _ underlying4 rfl .nil)) rfl rfl
 rintro D s52 h
 refine ah [2,3] (by kernel_rfl) (es':=[(_,_),(_,_)]) rfl ?_
 refine cq (fs:=[(4,.box 120 [.fl (.own 181) 2 (flatten (map ar.enc []))]),(5,.box 4 [vb false])]) (.box _ _ (af (bL 181 2) (bC)) rfl (.same _ .nil)) ?_
 refine fB 0 hio (es':=[(4,.box 120 [.fl .ro 2 (flatten (map ar.enc []))]),(5,.box 4 [.v (.bool false)])]) rfl ?_
 refine aF (ag ?_)
 obtain rfl:=zi h
 exact al hio rfl (.cell1 _ _ _ _ underlying120 rfl (.cell1 _ _ _ _ underlying4 rfl .nil)) rfl rfl
theorem pg (mx:Int×Nat×Value) (kind:Int) (line:Mf) (r:(bn×Bool)) (h:Sh.fj kind line=some r):iq Tryz.prog (GL mx) 137 [.v (.int .i64 kind),.v (.string line)] (.tup [.agg [.v (.int .i64 r.1.LK),.v (.string r.1.Mb),.v (.bool r.1.LV.LQ),.v (.string r.1.LV.LM),.v (.string r.1.LV.LA),.fl .ro 2 (flatten (map ar.enc r.1.LU))],.v (.bool r.2)]):=by
 unfold Sh.fj at h
 refine yG 56 func137 fun g0 hn hio => ?_
 refine gH hn 0 ?_
 refine yS (.box 122 [vi 0,vs z0,vb false,vs z0,vs z0,vz]) 1 ⟨oA (aT _ _ mj)⟩ ?_
 refine aV [0,1,56,4] ?_
 refine ab ?_
 obtain ⟨v1,hv1,v2,hv2,h⟩:=dM h
 refine yx hn 2 ?_
 refine ys 0 ⟨lk call157 (sh _ _ hv1)⟩ ?_
 refine ys 0 ⟨lk call135 (mU _ _ _ hv2)⟩ ?_
 refine ym 4 ?_
 refine aV [0,56,4,6,7] ?_
 refine ab ?_
 refine aG hn 2 [0,56,4,6,20] ?_
 refine zc h rfl (fun h => ?_) (fun h => ?_)
 refine gH hn 0 ?_
 refine yS (.agg [vi 0,vs z0,vb false,vs z0,vs z0,vz]) 0 ⟨bw _ _ _ _ [1,1,3,1] _ _ underlying122 mj (sM _ underlying122) mb.nil rfl rfl rfl⟩ ?_
 refine yk [21,4] [] ?_
 refine yt (4,.box 122 [vi 0,vs z0,vb false,vs z0,vs z0,vz]) 1 ⟨dt _ _ _ 21 4 6 gq rfl rfl rfl rfl rfl (.eq _ (.eq _ (.eq _ (.eq _ (.eq _ (.eq _ (.nil _))))))) rfl⟩ ?_
 refine aV [56,4,5] ?_
 refine ak ?_
 refine ah [1,2] (by kernel_rfl) (es':=[(_,_),(_,_)]) rfl ?_
 refine cq (fs:=[(4,.box 122 [vi 0,vs z0,vb false,vs z0,vs z0,.fl (.own 181) 2 (flatten (map ar.enc []))]),(5,vb false)]) (.box _ _ (af (aj _) (af (aj _) (af (aj _) (af (aj _) (af (aj _) (af (bL 181 2) (bC))))))) rfl (.same _ .nil)) ?_
 refine fB 0 hio (es':=[(4,.box 122 [.v (.int .i64 0),.v (.string (⟨#[]⟩:Mf)),.v (.bool false),.v (.string (⟨#[]⟩:Mf)),.v (.string (⟨#[]⟩:Mf)),.fl .ro 2 (flatten (map ar.enc []))]),(5,.v (.bool false))]) rfl ?_
 refine ag ?_
 obtain rfl:=zi h
 exact al hio rfl (.cellA _ _ _ _ underlying122 rfl gq (.tmp _ _ .nil)) rfl rfl
 refine am ?_
 refine ae (ab ?_)
 obtain ⟨v4,hv4,v5,hv5,h⟩:=dM h
 refine yx hn 1 ?_
 refine ys 0 ⟨lk call121 (mg _ _ _ hv4)⟩ ?_
 refine ys 1 ⟨lb hv5⟩ ?_
 refine aV [0,56,4,6,8] ?_
 refine ab ?_
 obtain ⟨v6,hv6,v7,hv7,h⟩:=dM h
 refine yx hn 2 ?_
 refine yS (vs v6) 0 ⟨cM _ _ _ 0 v5 _ underlying9 rfl rfl ⟨_,rfl⟩ hv6⟩ ?_
 refine ys 0 ⟨lg call158 (uE _ _ _ hv7) 56⟩ ?_
 refine ym 0 ?_
 refine yS (.agg [vb v7.1.LQ,vs v7.1.LM,vs v7.1.LA]) 1 ⟨fN _ _ _ _ _ _ rfl rfl (zl rfl) rfl rfl⟩ ?_
 refine yS (.box 26 [vb false,vs z0,vs z0]) 2 ⟨oA (aT _ _ qk)⟩ ?_
 refine aV [0,56,4,6,8,9,10] ?_
 refine ab (ab ?_)
 refine aq h (fun (s16:Bool)=>[(0,vi kind),(56,.glob (GL mx)),(4,.box 122 [vi 0,vs z0,vb false,vs z0,vs z0,vz]),(6,vs v2.1),(8,vi v5),(9,.box 26 [vb v7.1.LQ,vs v7.1.LM,vs v7.1.LA]),(41,vb s16)]) ?_ ?_
 rintro s16 h
 refine ae ?_
 refine zc h rfl (fun h => ?_) (fun h => ?_)
 refine gH hn 0 ?_
 refine yS (.agg [vi 0,vs z0,vb false,vs z0,vs z0,vz]) 0 ⟨bw _ _ _ _ [1,1,3,1] _ _ underlying122 mj (sM _ underlying122) mb.nil rfl rfl rfl⟩ ?_
 refine yk [42,4] [] ?_
 refine yt (4,.box 122 [vi 0,vs z0,vb false,vs z0,vs z0,vz]) 1 ⟨dt _ _ _ 42 4 6 gq rfl rfl rfl rfl rfl (.eq _ (.eq _ (.eq _ (.eq _ (.eq _ (.eq _ (.nil _))))))) rfl⟩ ?_
 refine aV [56,4,5] ?_
 refine ak ?_
 refine ah [1,2] (by kernel_rfl) (es':=[(_,_),(_,_)]) rfl ?_
 refine cq (fs:=[(4,.box 122 [vi 0,vs z0,vb false,vs z0,vs z0,.fl (.own 181) 2 (flatten (map ar.enc []))]),(5,vb false)]) (.box _ _ (af (aj _) (af (aj _) (af (aj _) (af (aj _) (af (aj _) (af (bL 181 2) (bC))))))) rfl (.same _ .nil)) ?_
 refine fB 0 hio (es':=[(4,.box 122 [.v (.int .i64 0),.v (.string (⟨#[]⟩:Mf)),.v (.bool false),.v (.string (⟨#[]⟩:Mf)),.v (.string (⟨#[]⟩:Mf)),.fl .ro 2 (flatten (map ar.enc []))]),(5,.v (.bool false))]) rfl ?_
 refine ag ?_
 obtain rfl:=zi h
 exact al hio rfl (.cellA _ _ _ _ underlying122 rfl gq (.tmp _ _ .nil)) rfl rfl
 refine am ?_
 refine ae (ab ?_)
 obtain ⟨v13,hv13,v14,hv14,h⟩:=dM h
 refine yx hn 3 ?_
 refine yS (vs v13) 0 ⟨cM _ _ _ v5 (v2.1.size:Int) _ underlying9 rfl ⟨_,rfl⟩ rfl hv13⟩ ?_
 refine ys 0 ⟨lg call159 (pM _ _ _ _ hv14) 56⟩ ?_
 refine ym 4 ?_
 refine aV [0,56,4,9,11,7] ?_
 refine gH hn 3 ?_
 refine yS (.agg [vi kind,vs z0,vb v7.1.LQ,vs v7.1.LM,vs v7.1.LA,.fl .ro 2 (flatten (map ar.enc v14.1))]) 3 ⟨bw _ _ _ _ [1,1,3,1] _ _ underlying122 mj (sM _ underlying122) (.copy _ (.copy _ (.copy _ mb.nil))) rfl rfl rfl⟩ ?_
 refine aV [56,4,5] ?_
 refine ak ?_
 refine ah [1,2] (by kernel_rfl) (es':=[(_,_),(_,_)]) rfl ?_
 obtain rfl:=zi h
 exact al hio rfl (.cellA _ _ _ _ underlying122 rfl gq (.tmp _ _ .nil)) rfl rfl
 intro u17 h hl18 hr19
 refine ai h (fun hg6_2 h => ?_) (fun hg6_2 h => ?_)
 refine yx hn 3 ?_
 refine yd hg6_2 7 ?_
 refine ye [0,56,4,6,8,9,41] ?_
 exact hl18 _ (zi h).symm
 refine ai h (fun hg6_5 h => ?_) (fun hg6_5 h => ?_)
 refine yx hn 3 ?_
 refine yd hg6_2 3 ?_
 refine yd hg6_5 4 ?_
 refine ye [0,56,4,6,8,9,41] ?_
 exact hl18 _ (zi h).symm
 refine yx hn 3 ?_
 refine yd hg6_2 3 ?_
 refine yd hg6_5 4 ?_
 refine ye [0,56,4,6,8,9,41] ?_
 exact hl18 _ (zi h).symm
theorem rO (mx:Int×Nat×Value) (line:Mf) (r:(bn×Bool)) (h:Sh.iX line=some r):iq Tryz.prog (GL mx) 111 [.v (.string line)] (.tup [.agg [.v (.int .i64 r.1.LK),.v (.string r.1.Mb),.v (.bool r.1.LV.LQ),.v (.string r.1.LV.LM),.v (.string r.1.LV.LA),.fl .ro 2 (flatten (map ar.enc r.1.LU))],.v (.bool r.2)]):=by
 unfold Sh.iX at h
 refine yG 65 func111 fun g0 hn hio => ?_
 refine gH hn 0 ?_
 refine yS (.box 122 [vi 0,vs z0,vb false,vs z0,vs z0,vz]) 1 ⟨oA (aT _ _ mj)⟩ ?_
 refine aV [0,65,2] ?_
 refine ab ?_
 obtain ⟨v1,hv1,h⟩:=zn h
 refine yx hn 1 ?_
 refine ys 0 ⟨lk call134 (iL _ _ _ hv1)⟩ ?_
 refine ym 6 ?_
 refine aV [0,65,2,5,6] ?_
 refine ab ?_
 obtain ⟨v2,hv2,h⟩:=zn h
 refine yx hn 1 ?_
 refine ys 0 ⟨lk call109 (oi _ _ hv2)⟩ ?_
 refine yS (.agg [vi v2,vs z0,vb false,vs z0,vs z0,vz]) 0 ⟨bw _ _ _ _ [1,1,3,1] _ _ underlying122 mj (sM _ underlying122) (.copy _ mb.nil) rfl rfl rfl⟩ ?_
 refine yS (.box 122 [vi 0,vs z0,vb false,vs z0,vs z0,vz]) 1 ⟨oA (aT _ _ mj)⟩ ?_
 refine aV [0,65,2,5,6,7] ?_
 refine ab ?_
 refine aG hn 2 [0,65,2,5,6,7,18] ?_
 refine aC (ab ?_)
 refine aq h (fun (s30:Bool)=>[(0,vs line),(65,.glob (GL mx)),(2,.box 122 [vi 0,vs z0,vb false,vs z0,vs z0,vz]),(5,vs v1.2.1),(6,vb v1.2.2),(7,.box 122 [vi v2,vs z0,vb false,vs z0,vs z0,vz]),(18,vi v2),(19,vb s30)]) ?_ ?_
 rintro s30 h
 refine ae ?_
 refine zc h rfl (fun h => ?_) (fun h => ?_)
 refine ab ?_
 obtain ⟨v10,hv10,h⟩:=zn h
 refine yx hn 3 ?_
 refine ys 0 ⟨lg call137 (pg _ _ _ _ hv10) 65⟩ ?_
 refine yS (.agg [vi v10.1.LK,vs v10.1.Mb,vb v10.1.LV.LQ,vs v10.1.LV.LM,vs v10.1.LV.LA,.fl .ro 2 (flatten (map ar.enc v10.1.LU))]) 3 ⟨fN _ _ _ _ _ _ rfl rfl (zl rfl) rfl rfl⟩ ?_
 refine aV [65,2,3] ?_
 refine ak ?_
 refine ah [1,2] (by kernel_rfl) (es':=[(_,_),(_,_)]) rfl ?_
 refine aF (ag ?_)
 obtain rfl:=zi h
 exact al hio rfl (.cellA _ _ _ _ underlying122 rfl gq (.tmp _ _ .nil)) rfl rfl
 refine ab ?_
 refine aq h (fun (s37:Bool)=>[(65,.glob (GL mx)),(2,.box 122 [vi 0,vs z0,vb false,vs z0,vs z0,vz]),(5,vs v1.2.1),(6,vb v1.2.2),(7,.box 122 [vi v2,vs z0,vb false,vs z0,vs z0,vz]),(18,vi v2),(28,vb s37)]) ?_ ?_
 rintro s37 h
 refine ae ?_
 refine zc h rfl (fun h => ?_) (fun h => ?_)
 refine aG hn 3 [65,2,5,7] ?_
 refine ab ?_
 obtain ⟨v18,hv18,h⟩:=zn h
 refine wb [[7],[5]] ?_
 refine wN [34,65] ?_
 refine wo [] ⟨lg call55 (cb _ _ _ hv18) 65⟩ ?_
 refine wK [2] [33] ?_
 refine wt [(2,.box 122 [vi v2,vs v1.2.1,vb false,vs z0,vs z0,vz])] [[35]] ⟨dZ _ _ _ _ _ _ _ _ gq rfl rfl rfl rfl (zl rfl) rfl rfl⟩ ?_
 refine sf hn [65,2,3] ?_
 refine ak ?_
 refine ah [1,2] (by kernel_rfl) (es':=[(_,_),(_,_)]) rfl ?_
 refine cq (fs:=[(2,.box 122 [vi v2,vs v1.2.1,vb false,vs z0,vs z0,.fl (.own 181) 2 (flatten (map ar.enc []))]),(3,vb v18)]) (.box _ _ (af (aj _) (af (aj _) (af (aj _) (af (aj _) (af (aj _) (af (bL 181 2) (bC))))))) rfl (.same _ .nil)) ?_
 refine fB 0 hio (es':=[(2,.box 122 [.v (.int .i64 v2),.v (.string v1.2.1),.v (.bool false),.v (.string (⟨#[]⟩:Mf)),.v (.string (⟨#[]⟩:Mf)),.fl .ro 2 (flatten (map ar.enc []))]),(3,.v (.bool v18))]) rfl ?_
 refine aF (ag ?_)
 obtain rfl:=zi h
 exact al hio rfl (.cellA _ _ _ _ underlying122 rfl gq (.tmp _ _ .nil)) rfl rfl
 refine aG hn 2 [65,2,5,6,7,18,36] ?_
 refine zc h rfl (fun h => ?_) (fun h => ?_)
 refine aG hn 3 [65,2,5,7] ?_
 refine aG hn 5 [65,2,3] ?_
 refine ak ?_
 refine ah [1,2] (by kernel_rfl) (es':=[(_,_),(_,_)]) rfl ?_
 refine cq (fs:=[(2,.box 122 [vi v2,vs v1.2.1,vb false,vs z0,vs z0,.fl (.own 181) 2 (flatten (map ar.enc []))]),(3,vb (!(v1.2.1.toList==z0.toList)))]) (.box _ _ (af (aj _) (af (aj _) (af (aj _) (af (aj _) (af (aj _) (af (bL 181 2) (bC))))))) rfl (.same _ .nil)) ?_
 refine fB 0 hio (es':=[(2,.box 122 [.v (.int .i64 v2),.v (.string v1.2.1),.v (.bool false),.v (.string (⟨#[]⟩:Mf)),.v (.string (⟨#[]⟩:Mf)),.fl .ro 2 (flatten (map ar.enc []))]),(3,.v (.bool ((!(v1.2.1.toList==(⟨#[]⟩:Mf).toList)))))]) rfl ?_
 refine aF (ag ?_)
 obtain rfl:=zi h
 exact al hio rfl (.cellA _ _ _ _ underlying122 rfl gq (.tmp _ _ .nil)) rfl rfl
 refine aG hn 2 [65,2,5,6,7,18,43] ?_
 refine zc h rfl (fun h => ?_) (fun h => ?_)
 refine aG hn 3 [65,2,5,6,7] ?_
 refine ab ?_
 refine aq h (fun (s45:Bool)=>[(65,.glob (GL mx)),(2,.box 122 [vi v2,vs v1.2.1,vb false,vs z0,vs z0,vz]),(3,vb s45)]) ?_ ?_
 rintro s45 h
 refine ae (ak ?_)
 refine ah [1,2] (by kernel_rfl) (es':=[(_,_),(_,_)]) rfl ?_
 refine cq (fs:=[(2,.box 122 [vi v2,vs v1.2.1,vb false,vs z0,vs z0,.fl (.own 181) 2 (flatten (map ar.enc []))]),(3,vb s45)]) (.box _ _ (af (aj _) (af (aj _) (af (aj _) (af (aj _) (af (aj _) (af (bL 181 2) (bC))))))) rfl (.same _ .nil)) ?_
 refine fB 0 hio (es':=[(2,.box 122 [.v (.int .i64 v2),.v (.string v1.2.1),.v (.bool false),.v (.string (⟨#[]⟩:Mf)),.v (.string (⟨#[]⟩:Mf)),.fl .ro 2 (flatten (map ar.enc []))]),(3,.v (.bool s45))]) rfl ?_
 refine aF (ag ?_)
 obtain rfl:=zi h
 exact al hio rfl (.cellA _ _ _ _ underlying122 rfl gq (.tmp _ _ .nil)) rfl rfl
 intro u46 h hl47 hr48
 refine ai h (fun hg16_3 h => ?_) (fun hg16_3 h => ?_)
 refine wb [[7],[6],[48],[49]] ?_
 refine wd hg16_3 [[50],[50],[50]] ?_
 refine wK [2] [47] ?_
 refine wt [(2,.box 122 [vi v2,vs v1.2.1,vb false,vs z0,vs z0,vz])] [[53]] ⟨dZ _ _ _ _ _ _ _ _ gq rfl rfl rfl rfl (zl rfl) rfl rfl⟩ ?_
 refine we hn [65,2,3] ?_
 exact hl47 _ (zi h).symm
 obtain ⟨v21,hv21,h⟩:=zn h
 refine wb [[7],[6],[48],[49]] ?_
 refine wd hg16_3 [[50,5]] ?_
 refine wN [50,51,65] ?_
 refine wo [[50,52]] ⟨lg call55 (cb _ _ _ hv21) 65⟩ ?_
 refine wK [2] [47] ?_
 refine wt [(2,.box 122 [vi v2,vs v1.2.1,vb false,vs z0,vs z0,vz])] [[53]] ⟨dZ _ _ _ _ _ _ _ _ gq rfl rfl rfl rfl (zl rfl) rfl rfl⟩ ?_
 refine we hn [65,2,3] ?_
 exact hl47 _ (zi h).symm
 refine aG hn 2 [65,2,5,6,7,18,54] ?_
 refine zc h rfl (fun h => ?_) (fun h => ?_)
 refine ab ?_
 obtain ⟨v27,hv27,h⟩:=zn h
 refine wb [[7],[5]] ?_
 refine wN [57] ?_
 refine wo [] ⟨lk call136 (fS _ _ _ hv27)⟩ ?_
 refine wK [2] [56] ?_
 refine wt [(2,.box 122 [vi v2,vs z0,vb false,vs z0,vs z0,vz])] [[58]] ⟨dZ _ _ _ _ _ _ _ _ gq rfl rfl rfl rfl (zl rfl) rfl rfl⟩ ?_
 refine sf hn [65,2,3] ?_
 refine ak ?_
 refine ah [1,2] (by kernel_rfl) (es':=[(_,_),(_,_)]) rfl ?_
 refine cq (fs:=[(2,.box 122 [vi v2,vs z0,vb false,vs z0,vs z0,.fl (.own 181) 2 (flatten (map ar.enc []))]),(3,vb v27)]) (.box _ _ (af (aj _) (af (aj _) (af (aj _) (af (aj _) (af (aj _) (af (bL 181 2) (bC))))))) rfl (.same _ .nil)) ?_
 refine fB 0 hio (es':=[(2,.box 122 [.v (.int .i64 v2),.v (.string (⟨#[]⟩:Mf)),.v (.bool false),.v (.string (⟨#[]⟩:Mf)),.v (.string (⟨#[]⟩:Mf)),.fl .ro 2 (flatten (map ar.enc []))]),(3,.v (.bool v27))]) rfl ?_
 refine aF (ag ?_)
 obtain rfl:=zi h
 exact al hio rfl (.cellA _ _ _ _ underlying122 rfl gq (.tmp _ _ .nil)) rfl rfl
 refine aG hn 2 [65,2,6,7,59] ?_
 refine zc h rfl (fun h => ?_) (fun h => ?_)
 refine aG hn 3 [65,2,3] ?_
 refine ak ?_
 refine ah [1,2] (by kernel_rfl) (es':=[(_,_),(_,_)]) rfl ?_
 refine cq (fs:=[(2,.box 122 [vi v2,vs z0,vb false,vs z0,vs z0,.fl (.own 181) 2 (flatten (map ar.enc []))]),(3,vb true)]) (.box _ _ (af (aj _) (af (aj _) (af (aj _) (af (aj _) (af (aj _) (af (bL 181 2) (bC))))))) rfl (.same _ .nil)) ?_
 refine fB 0 hio (es':=[(2,.box 122 [.v (.int .i64 v2),.v (.string (⟨#[]⟩:Mf)),.v (.bool false),.v (.string (⟨#[]⟩:Mf)),.v (.string (⟨#[]⟩:Mf)),.fl .ro 2 (flatten (map ar.enc []))]),(3,.v (.bool true))]) rfl ?_
 refine aF (ag ?_)
 obtain rfl:=zi h
 exact al hio rfl (.cellA _ _ _ _ underlying122 rfl gq (.tmp _ _ .nil)) rfl rfl
 refine am (aI (ae ?_))
 refine aG hn 5 [65,2,3] ?_
 refine ak ?_
 refine ah [1,2] (by kernel_rfl) (es':=[(_,_),(_,_)]) rfl ?_
 refine cq (fs:=[(2,.box 122 [vi v2,vs z0,vb false,vs z0,vs z0,.fl (.own 181) 2 (flatten (map ar.enc []))]),(3,vb (!v1.2.2))]) (.box _ _ (af (aj _) (af (aj _) (af (aj _) (af (aj _) (af (aj _) (af (bL 181 2) (bC))))))) rfl (.same _ .nil)) ?_
 refine fB 0 hio (es':=[(2,.box 122 [.v (.int .i64 v2),.v (.string (⟨#[]⟩:Mf)),.v (.bool false),.v (.string (⟨#[]⟩:Mf)),.v (.string (⟨#[]⟩:Mf)),.fl .ro 2 (flatten (map ar.enc []))]),(3,.v (.bool (!v1.2.2)))]) rfl ?_
 obtain rfl:=zi h
 exact al hio rfl (.cellA _ _ _ _ underlying122 rfl gq (.tmp _ _ .nil)) rfl rfl
 intro u38 h hl39 hr40
 refine aG hn 2 [65,2,5,6,7,18,28] ?_
 refine zc h rfl (fun h => ?_) (fun h => ?_)
 refine am ?_
 exact hl39 _ (zi h).symm
 refine yx hn 1 ?_
 refine yw [28] 1 ?_
 refine ye [65,2,5,6,7,18,28] ?_
 exact hl39 _ (zi h).symm
 intro u31 h hl32 hr33
 refine aG hn 2 [0,65,2,5,6,7,18,19] ?_
 refine zc h rfl (fun h => ?_) (fun h => ?_)
 refine am ?_
 exact hl32 _ (zi h).symm
 refine yx hn 1 ?_
 refine yw [19] 1 ?_
 refine ye [0,65,2,5,6,7,18,19] ?_
 exact hl32 _ (zi h).symm
theorem up (mx:Int×Nat×Value) (line:Mf) (r:(bn×Int)) (h:Sh.dX line=some r):iq Tryz.prog (GL mx) 91 [.v (.string line)] (.tup [.agg [.v (.int .i64 r.1.LK),.v (.string r.1.Mb),.v (.bool r.1.LV.LQ),.v (.string r.1.LV.LM),.v (.string r.1.LV.LA),.fl .ro 2 (flatten (map ar.enc r.1.LU))],.v (.int .i64 r.2)]):=by
 unfold Sh.dX at h
 refine yG 32 func91 fun g0 hn hio => ?_
 refine gH hn 0 ?_
 refine yS (.box 122 [vi 0,vs z0,vb false,vs z0,vs z0,vz]) 1 ⟨oA (aT _ _ mj)⟩ ?_
 refine aV [0,32,2] ?_
 refine ab (ab ?_)
 refine aq h (fun (s12:Bool)=>[(0,vs line),(32,.glob (GL mx)),(2,.box 122 [vi 0,vs z0,vb false,vs z0,vs z0,vz]),(18,vb s12)]) ?_ ?_
 rintro s12 h
 refine ae ?_
 refine zc h rfl (fun h => ?_) (fun h => ?_)
 refine gH hn 0 ?_
 refine yS (.agg [vi 0,vs z0,vb false,vs z0,vs z0,vz]) 0 ⟨bw _ _ _ _ [1,1,3,1] _ _ underlying122 mj (sM _ underlying122) mb.nil rfl rfl rfl⟩ ?_
 refine yk [19,2] [] ?_
 refine yt (2,.box 122 [vi 0,vs z0,vb false,vs z0,vs z0,vz]) 1 ⟨dt _ _ _ 19 2 6 gq rfl rfl rfl rfl rfl (.eq _ (.eq _ (.eq _ (.eq _ (.eq _ (.eq _ (.nil _))))))) rfl⟩ ?_
 refine aV [32,2,3] ?_
 refine ak ?_
 refine ah [1,2] (by kernel_rfl) (es':=[(_,_),(_,_)]) rfl ?_
 refine cq (fs:=[(2,.box 122 [vi 0,vs z0,vb false,vs z0,vs z0,.fl (.own 181) 2 (flatten (map ar.enc []))]),(3,vi 500)]) (.box _ _ (af (aj _) (af (aj _) (af (aj _) (af (aj _) (af (aj _) (af (bL 181 2) (bC))))))) rfl (.same _ .nil)) ?_
 refine fB 0 hio (es':=[(2,.box 122 [.v (.int .i64 0),.v (.string (⟨#[]⟩:Mf)),.v (.bool false),.v (.string (⟨#[]⟩:Mf)),.v (.string (⟨#[]⟩:Mf)),.fl .ro 2 (flatten (map ar.enc []))]),(3,.v (.int .i64 500))]) rfl ?_
 refine ag ?_
 obtain rfl:=zi h
 exact al hio rfl (.cellA _ _ _ _ underlying122 rfl gq (.tmp _ _ .nil)) rfl rfl
 refine am ?_
 refine ae (ab ?_)
 refine ab ?_
 obtain ⟨v8,hv8,h⟩:=zn h
 refine yx hn 1 ?_
 refine ys 0 ⟨lg call110 (mJ _ _ _ hv8) 32⟩ ?_
 refine aV [0,32,2,21] ?_
 refine zc h rfl (fun h => ?_) (fun h => ?_)
 refine gH hn 0 ?_
 refine yS (.agg [vi 0,vs z0,vb false,vs z0,vs z0,vz]) 0 ⟨bw _ _ _ _ [1,1,3,1] _ _ underlying122 mj (sM _ underlying122) mb.nil rfl rfl rfl⟩ ?_
 refine yk [22,2] [] ?_
 refine yt (2,.box 122 [vi 0,vs z0,vb false,vs z0,vs z0,vz]) 1 ⟨dt _ _ _ 22 2 6 gq rfl rfl rfl rfl rfl (.eq _ (.eq _ (.eq _ (.eq _ (.eq _ (.eq _ (.nil _))))))) rfl⟩ ?_
 refine aV [32,2,3] ?_
 refine ak ?_
 refine ah [1,2] (by kernel_rfl) (es':=[(_,_),(_,_)]) rfl ?_
 refine cq (fs:=[(2,.box 122 [vi 0,vs z0,vb false,vs z0,vs z0,.fl (.own 181) 2 (flatten (map ar.enc []))]),(3,vi 504)]) (.box _ _ (af (aj _) (af (aj _) (af (aj _) (af (aj _) (af (aj _) (af (bL 181 2) (bC))))))) rfl (.same _ .nil)) ?_
 refine fB 0 hio (es':=[(2,.box 122 [.v (.int .i64 0),.v (.string (⟨#[]⟩:Mf)),.v (.bool false),.v (.string (⟨#[]⟩:Mf)),.v (.string (⟨#[]⟩:Mf)),.fl .ro 2 (flatten (map ar.enc []))]),(3,.v (.int .i64 504))]) rfl ?_
 refine ag ?_
 obtain rfl:=zi h
 exact al hio rfl (.cellA _ _ _ _ underlying122 rfl gq (.tmp _ _ .nil)) rfl rfl
 refine am ?_
 refine ae (ab ?_)
 obtain ⟨v10,hv10,h⟩:=zn h
 refine yx hn 1 ?_
 refine ys 0 ⟨lg call111 (rO _ _ _ hv10) 32⟩ ?_
 refine ym 0 ?_
 refine yS (.agg [vi v10.1.LK,vs v10.1.Mb,vb v10.1.LV.LQ,vs v10.1.LV.LM,vs v10.1.LV.LA,.fl .ro 2 (flatten (map ar.enc v10.1.LU))]) 1 ⟨fN _ _ _ _ _ _ rfl rfl (zl rfl) rfl rfl⟩ ?_
 refine yS (.box 122 [vi 0,vs z0,vb false,vs z0,vs z0,vz]) 2 ⟨oA (aT _ _ mj)⟩ ?_
 refine aV [32,2,4,5] ?_
 refine ab ?_
 refine aG hn 2 [32,2,4,29] ?_
 refine zc h rfl (fun h => ?_) (fun h => ?_)
 refine gH hn 0 ?_
 refine yS (.agg [vi 0,vs z0,vb false,vs z0,vs z0,vz]) 0 ⟨bw _ _ _ _ [1,1,3,1] _ _ underlying122 mj (sM _ underlying122) mb.nil rfl rfl rfl⟩ ?_
 refine yk [30,2] [] ?_
 refine yt (2,.box 122 [vi 0,vs z0,vb false,vs z0,vs z0,vz]) 1 ⟨dt _ _ _ 30 2 6 gq rfl rfl rfl rfl rfl (.eq _ (.eq _ (.eq _ (.eq _ (.eq _ (.eq _ (.nil _))))))) rfl⟩ ?_
 refine aV [32,2,3] ?_
 refine ak ?_
 refine ah [1,2] (by kernel_rfl) (es':=[(_,_),(_,_)]) rfl ?_
 refine cq (fs:=[(2,.box 122 [vi 0,vs z0,vb false,vs z0,vs z0,.fl (.own 181) 2 (flatten (map ar.enc []))]),(3,vi 501)]) (.box _ _ (af (aj _) (af (aj _) (af (aj _) (af (aj _) (af (aj _) (af (bL 181 2) (bC))))))) rfl (.same _ .nil)) ?_
 refine fB 0 hio (es':=[(2,.box 122 [.v (.int .i64 0),.v (.string (⟨#[]⟩:Mf)),.v (.bool false),.v (.string (⟨#[]⟩:Mf)),.v (.string (⟨#[]⟩:Mf)),.fl .ro 2 (flatten (map ar.enc []))]),(3,.v (.int .i64 501))]) rfl ?_
 refine ag ?_
 obtain rfl:=zi h
 exact al hio rfl (.cellA _ _ _ _ underlying122 rfl gq (.tmp _ _ .nil)) rfl rfl
 refine am (ae ?_)
 refine aG hn 3 [32,2,3] ?_
 refine ak ?_
 refine ah [1,2] (by kernel_rfl) (es':=[(_,_),(_,_)]) rfl ?_
 obtain rfl:=zi h
 exact al hio rfl (.cellA _ _ _ _ underlying122 rfl gq (.tmp _ _ .nil)) rfl rfl
 intro u13 h hl14 hr15
 refine ai h (fun hg1_3 h => ?_) (fun hg1_3 h => ?_)
 refine yx hn 4 ?_
 refine yd hg1_3 9 ?_
 refine ye [0,32,2,18] ?_
 exact hl14 _ (zi h).symm
 obtain ⟨v1,hv1,h⟩:=zn h
 refine ai h (fun hg1_8 h => ?_) (fun hg1_8 h => ?_)
 refine yx hn 4 ?_
 refine yd hg1_3 1 ?_
 refine ys 3 ⟨lk call108 (kX _ _ hv1)⟩ ?_
 refine yd hg1_8 4 ?_
 refine ye [0,32,2,18] ?_
 exact hl14 _ (zi h).symm
 obtain ⟨v2,hv2,h⟩:=zn h
 refine yx hn 4 ?_
 refine yd hg1_3 1 ?_
 refine ys 3 ⟨lk call108 (kX _ _ hv1)⟩ ?_
 refine yd hg1_8 1 ?_
 refine ys 2 ⟨lk call109 (oi _ _ hv2)⟩ ?_
 refine ye [0,32,2,18] ?_
 exact hl14 _ (zi h).symm
theorem pq (c:bn) (key:Mf) (r:(Mf×Bool)) (h:Sh.mC c key=some r):bF Tryz.prog 138 [.agg [.v (.int .i64 c.LK),.v (.string c.Mb),.v (.bool c.LV.LQ),.v (.string c.LV.LM),.v (.string c.LV.LA),.fl .shr 2 (flatten (map ar.enc c.LU))],.v (.string key)] (.tup [.v (.string r.1),.v (.bool r.2)]):=by
 unfold Sh.mC at h
 refine yO 22 func138 fun g0 hn hio => ?_
 refine aG hn 3 [1,2] ?_
 refine ab ?_
 refine aG hn 4 [1,9,10,11] ?_
 refine aS h (fun (s9:Int)=>[(1,vs key),(9,.fl .shr 2 (flatten (map ar.enc c.LU))),(10,vi (c.LU.length:Int)),(11,vi s9)]) (fun (():Unit)=>[]) ?_ ?_
 rintro ⟨⟩ h
 refine ae ?_
 refine aG hn 2 [4,5] ?_
 refine ak ?_
 obtain rfl:=zi h
 exact al hio rfl (.tmp _ _ (.tmp _ _ .nil)) rfl rfl
 rintro u12 hl13 hr14 s9 rr17 h ho15
 refine aG hn 1 [1,9,10,11,12] ?_
 refine ab ?_
 refine zc h rfl (fun h => ?_) (fun h => ?_)
 refine am ?_
 refine ae (ab ?_)
 refine aC (ab ?_)
 obtain ⟨v2,hv2,v3,hv3,h⟩:=dM h
 refine yx hn 0 ?_
 refine ys 0 ⟨lj hv2⟩ ?_
 refine yS (.agg [vs v3.LJ,vs v3.Me]) 0 ⟨fy _ _ _ _ _ _ _ underlying181 rfl qj rfl rfl (gM ar.len hv3) rfl (by decide)⟩ ?_
 refine yS (.box 181 [vs z0,vs z0]) 1 ⟨oA (aT _ _ rA)⟩ ?_
 refine aV [1,9,10,11,7] ?_
 refine aG hn 4 [1,9,10,11,7,18] ?_
 refine zc h rfl (fun h => ?_) (fun h => ?_)
 refine aG hn 4 [4,5] ?_
 refine ak (aF (ag (ag (aF (ag ?_)))))
 have h:=hr14 _ (ho15 _ (zi h).symm).symm
 obtain rfl:=zi h
 exact al hio rfl (.tmp _ _ (.tmp _ _ .nil)) rfl rfl
 refine am (aI (ae ?_))
 obtain ⟨v5,hv5,h⟩:=zn h
 refine yx hn 0 ?_
 refine ys 0 ⟨lb hv5⟩ ?_
 refine yw [11] 1 ?_
 refine ye [1,9,10,11] ?_
 exact bb _ (zi h).symm rfl
 refine ba (ap (ap (aZ ?_)))
 refine ah [] (by kernel_rfl) (es':=[]) rfl ?_
 exact hl13 _ (ho15 _ (zi h).symm).symm
theorem rv (mx:Int×Nat×Value) (s:Mf) (r:Int) (h:Sh.jE s=some r):iq Tryz.prog (GL mx) 139 [.v (.string s)] (.tup [.v (.int .i64 r),.any]):=qh (FL mx) (fun s n w h1 h2=>Tryz.strconv_Atoi s n h1 h2 w) (fun s w h1 h2 h3=>(Tryz.strconv_Atoi_err s h1 h2 _ w h3 (.inr ⟨_,_,rfl⟩)).mono fun _ _ ⟨_,h4,_,_,h5⟩=>⟨_,h4,h5⟩) s r h
theorem oh (mx:Int×Nat×Value) (s:aa) (c:bn) (r:(Int×aa)) (h:Sh.eH s c=some r):ny Tryz.prog (GL mx) 112 [.box 80 (aa.b s),.agg [.v (.int .i64 c.LK),.v (.string c.Mb),.v (.bool c.LV.LQ),.v (.string c.LV.LM),.v (.string c.LV.LA),.fl .shr 2 (flatten (map ar.enc c.LU))]] [.box 80 (aa.b r.2)] (.v (.int .i64 r.1)):=by
 unfold Sh.eH at h
 refine DZ 39 func112 fun args0 hargs0 g0 hn hio => ?_
 refine aG hn 2 [0,39,3,0] ?_
 refine ab ?_
 obtain ⟨v1,hv1,h⟩:=zn h
 refine yx hn 1 ?_
 refine ys 0 ⟨lk call138 (pq _ _ _ hv1)⟩ ?_
 refine ym 4 ?_
 refine aV [0,39,3,5,0] ?_
 refine ab ?_
 obtain ⟨v2,hv2,h⟩:=zn h
 refine yx hn 1 ?_
 refine ys 0 ⟨lg call139 (rv _ _ _ hv2) 39⟩ ?_
 refine ym 4 ?_
 refine aV [0,39,3,7,0] ?_
 refine ab (aC ?_)
 refine aG hn 7 [0,39,3,7,19,0] ?_
 refine zc h rfl (fun h => ?_) (fun h => ?_)
 refine aG hn 1 [0,39,4,0] ?_
 refine ak ?_
 refine ah [2,0,3] (by kernel_rfl) (es':=[(_,_),(_,_),(_,_)]) rfl ?_
 refine aF (ag ?_)
 obtain rfl:=zi h
 exact bG (es:=[(4,.v (.int .i64 503))]) (posts:=[.box 80 (aa.b s)]) hio rfl rfl (.tmp _ _ .nil) rfl rfl hargs0 rfl
 refine aG hn 3 [0,39,3,26,0] ?_
 refine zc h rfl (fun h => ?_) (fun h => ?_)
 refine aG hn 1 [0,39,4,0] ?_
 refine ak ?_
 refine ah [2,0,3] (by kernel_rfl) (es':=[(_,_),(_,_),(_,_)]) rfl ?_
 refine aF (ag ?_)
 obtain rfl:=zi h
 exact bG (es:=[(4,.v (.int .i64 552))]) (posts:=[.box 80 (aa.b s)]) hio rfl rfl (.tmp _ _ .nil) rfl rfl hargs0 rfl
 refine am (aI ?_)
 refine ae (ab ?_)
 refine wb [[],[],[3],[31,3],[29,0],[33,0],[34,0]] ?_
 refine wK [0] [35] ?_
 refine wt [(0,.box 80 (vi 2::vs s.LF.LI::vb s.LF.LD.LQ::vs s.LF.LD.LM::vs s.LF.LD.LA::.fl (.own 26) 3 (flatten (map T_Path.enc s.LF.To))::vb s.LF.LY::.mkr 5 (map (int .u8) s.LF.Lx)::vs s.LF.Ly::vb s.LF.LX::aB.c s.config [vi s.site,vi s.at_,.fr (.own 55) false 12 (flatten (map ay.ienc s.out))]))] [[30,0],[36,0],[37,0]] ⟨dZ _ _ _ _ _ _ _ _ Hq rfl rfl rfl rfl (zl rfl) rfl rfl⟩ ?_
 refine wK [0] [38,32] ?_
 refine wt [(0,.box 80 (vi 2::vs s.LF.LI::vb c.LV.LQ::vs c.LV.LM::vs c.LV.LA::.fl (.own 26) 3 (flatten (map T_Path.enc s.LF.To))::vb s.LF.LY::.mkr 5 (map (int .u8) s.LF.Lx)::vs s.LF.Ly::vb s.LF.LX::aB.c s.config [vi s.site,vi s.at_,.fr (.own 55) false 12 (flatten (map ay.ienc s.out))]))] [] ⟨dZ _ _ _ _ _ _ _ _ pD rfl rfl rfl rfl (zl rfl) rfl rfl⟩ ?_
 refine sf hn [0,39,0] ?_
 refine aG hn 1 [0,39,4,0] ?_
 refine ak ?_
 refine ah [2,0,3] (by kernel_rfl) (es':=[(_,_),(_,_),(_,_)]) rfl ?_
 obtain rfl:=zi h
 exact bG (es:=[(4,.v (.int .i64 250))]) (posts:=[.box 80 [.v (.int .i64 2),.v (.string s.LF.LI),.v (.bool c.LV.LQ),.v (.string c.LV.LM),.v (.string c.LV.LA),.fl (.own 26) 3 (flatten (map T_Path.enc s.LF.To)),.v (.bool s.LF.LY),.mkr 5 (map (int .u8) s.LF.Lx),.v (.string s.LF.Ly),.v (.bool s.LF.LX),.v (.string ((s.config.LB.getD 0 (⟨#[]⟩:Mf)))),.v (.string ((s.config.LB.getD 1 (⟨#[]⟩:Mf)))),.v (.int .i64 s.config.LC),.v (.string s.config.Mc),.v (.string s.config.Ma),.v (.int .i64 s.config.LN),.v (.bool s.config.LH),.v (.int .i64 s.site),.v (.int .i64 s.at_),.fr (.own 55) false 12 (flatten (map ay.ienc s.out))]]) hio rfl rfl (.tmp _ _ .nil) rfl rfl hargs0 rfl
end Go.Proofs.YtjnnkhmhjcjhdaaGreatDoor
