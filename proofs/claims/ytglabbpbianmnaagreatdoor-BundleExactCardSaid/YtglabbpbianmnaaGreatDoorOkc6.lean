import Derived.Test.YtglabbpbianmnaaGreatDoorOkc5
set_option linter.unusedVariables false
set_option linter.unusedSimpArgs false
set_option maxHeartbeats 1000000
namespace Go.Proofs.YtglabbpbianmnaaGreatDoor
open Go.Abs Go.Abs.Sh Tryz
open List (map flatten)
open Value (int)
theorem nL (c:(List Int)) (at_:Int) (r:(ae×Int×Bool)) (h:Sh.cF c at_=some r):cl Tryz.prog 41 [.fl .shr 1 (map (int .u8) c),.v (.int .i64 at_)] (.tup [.agg [.v (.bool r.1.Ld.Lh),.v (.string r.1.Ld.Lf),.v (.string r.1.Ld.Lc),.fl (.own 43) 3 (flatten (map aj.enc r.1.To)),.fl (.own 5) 1 (map (int .u8) r.1.Lb),.v (.bool r.1.Lk),.v (.string r.1.Le),.v (.int .i64 r.1.At)],.v (.int .i64 r.2.1),.v (.bool r.2.2)]):=by
 unfold Sh.cF at h
 refine yO 116 func41 fun g0 hn hio => ?_
 refine gh hn 0 ?_
 refine yS (.box 46 [vb false,vs z0,vs z0,vz,vz,vb false,vs z0,vi 0]) 2 ⟨oA (bu _ _ ks)⟩ ?_
 refine bH [0,1,4] ?_
 refine gh hn 0 ?_
 refine yS (.box 46 [vb false,vs z0,vs z0,vz,vz,vb false,vs z0,vi 0]) 0 ⟨oA (bu _ _ ks)⟩ ?_
 refine bH [0,1,4,7] ?_
 refine ag ?_
 obtain ⟨v1,hv1,h⟩:=zn h
 refine yx hn 2 ?_
 refine ys 1 ⟨lk call38 (gT _ _ _ hv1)⟩ ?_
 refine bH [0,1,4,7,8] ?_
 refine ag ?_
 refine aX hn 2 [0,1,4,7,8,24] ?_
 refine zc h rfl (fun h => ?_) (fun h => ?_)
 refine gh hn 1 ?_
 refine yk [25,4] [] ?_
 refine yt (4,.box 46 [vb false,vs z0,vs z0,vz,vz,vb false,vs z0,vi 0]) 2 ⟨bL _ _ _ 25 4 8 eC rfl rfl rfl rfl rfl (.eq _ (.eq _ (.eq _ (.eq _ (.eq _ (.eq _ (.eq _ (.eq _ (.nil _))))))))) rfl⟩ ?_
 refine bH [4,5,6] ?_
 refine aC ?_
 refine di (fs:=[(4,.box 46 [vb false,vs z0,vs z0,.fl (.own 43) 3 (flatten (map aj.enc [])),.fl (.own 5) 1 (map (int .u8) []),vb false,vs z0,vi 0]),(5,vi 0),(6,vb false)]) (.box _ _ (ay (aJ _) (ay (aJ _) (ay (aJ _) (ay (cd 43 3) (ay (cd 5 1) (ay (aJ _) (ay (aJ _) (ay (aJ _) (cr))))))))) rfl (.same _ (.same _ .nil))) ?_
 refine am ?_
 obtain rfl:=zi h
 exact aE hio rfl (.cellA _ _ _ _ underlying46 rfl eC (.tmp _ _ (.tmp _ _ .nil))) rfl rfl
 refine aA ?_
 refine ai (ag ?_)
 obtain ⟨v3,hv3,v4,hv4,v5,hv5,h⟩:=mh h
 refine yx hn 3 ?_
 refine yS (fb v3) 0 ⟨ik _ _ _ at_ v1 _ underlying25 nM rfl rfl ⟨_,rfl⟩ ⟨_,rfl⟩ hv3⟩ ?_
 refine ys 0 ⟨lS hv4⟩ ?_
 refine ys 0 ⟨lk call61 (iu _ _ _ hv5)⟩ ?_
 refine ym 4 ?_
 refine bH [0,4,7,8,9,10] ?_
 refine ag ?_
 obtain ⟨v6,hv6,h⟩:=zn h
 refine yx hn 1 ?_
 refine ys 0 ⟨lk call62 (jA _ _ hv6)⟩ ?_
 refine ym 0 ?_
 refine yS (.agg [vb v6.1.Lh,vs v6.1.Lf,vs v6.1.Lc]) 1 ⟨eK _ _ _ _ _ _ rfl rfl (zl rfl) rfl rfl⟩ ?_
 refine yS (.box 43 [vb false,vs z0,vs z0]) 2 ⟨oA (bu _ _ jr)⟩ ?_
 refine bH [0,4,7,8,10,11,12] ?_
 refine ag (ag ?_)
 refine aM h (fun (s7:Bool)=>[(0,fb c),(4,.box 46 [vb false,vs z0,vs z0,vz,vz,vb false,vs z0,vi 0]),(7,.box 46 [vb false,vs z0,vs z0,vz,vz,vb false,vs z0,vi 0]),(8,vi v1),(11,.box 43 [vb v6.1.Lh,vs v6.1.Lf,vs v6.1.Lc]),(45,vb s7)]) ?_ ?_
 rintro s7 h
 refine ai ?_
 refine zc h rfl (fun h => ?_) (fun h => ?_)
 refine gh hn 1 ?_
 refine yk [46,4] [] ?_
 refine yt (4,.box 46 [vb false,vs z0,vs z0,vz,vz,vb false,vs z0,vi 0]) 2 ⟨bL _ _ _ 46 4 8 eC rfl rfl rfl rfl rfl (.eq _ (.eq _ (.eq _ (.eq _ (.eq _ (.eq _ (.eq _ (.eq _ (.nil _))))))))) rfl⟩ ?_
 refine bH [4,5,6] ?_
 refine aC ?_
 refine di (fs:=[(4,.box 46 [vb false,vs z0,vs z0,.fl (.own 43) 3 (flatten (map aj.enc [])),.fl (.own 5) 1 (map (int .u8) []),vb false,vs z0,vi 0]),(5,vi 0),(6,vb false)]) (.box _ _ (ay (aJ _) (ay (aJ _) (ay (aJ _) (ay (cd 43 3) (ay (cd 5 1) (ay (aJ _) (ay (aJ _) (ay (aJ _) (cr))))))))) rfl (.same _ (.same _ .nil))) ?_
 refine am ?_
 obtain rfl:=zi h
 exact aE hio rfl (.cellA _ _ _ _ underlying46 rfl eC (.tmp _ _ (.tmp _ _ .nil))) rfl rfl
 refine aA (ai ?_)
 refine aX hn 3 [0,4,7,8] ?_
 refine ag ?_
 obtain ⟨v12,hv12,h⟩:=zn h
 refine yx hn 1 ?_
 refine ys 1 ⟨lb hv12⟩ ?_
 refine bH [0,4,7,1] ?_
 refine ag ?_
 refine gX (fs:=[(0,fb c),(4,.box 46 [vb false,vs z0,vs z0,vz,vz,vb false,vs z0,vi 0]),(7,.box 46 [vb v6.1.Lh,vs v6.1.Lf,vs v6.1.Lc,.fl (.own 43) 3 (flatten (map aj.enc [])),vz,vb false,vs z0,vi 0]),(1,vi v12)]) (.same _ (.same _ (.box _ _ (ay (aJ _) (ay (aJ _) (ay (aJ _) (ay (cd 43 3) (ay (aJ _) (ay (aJ _) (ay (aJ _) (ay (aJ _) (cr))))))))) rfl (.same _ .nil)))) ?_
 refine aY h (fun ((s36,s37):(List aj)×Int)=>[(0,fb c),(4,.box 46 [vb false,vs z0,vs z0,vz,vz,vb false,vs z0,vi 0]),(7,.box 46 [vb v6.1.Lh,vs v6.1.Lf,vs v6.1.Lc,.fl (.own 43) 3 (flatten (map aj.enc s36)),vz,vb false,vs z0,vi 0]),(1,vi s37)]) (fun ((s45,s46,s47):(List aj)×Int×Int)=>[(0,fb c),(4,.box 46 [vb false,vs z0,vs z0,vz,vz,vb false,vs z0,vi 0]),(7,.box 46 [vb v6.1.Lh,vs v6.1.Lf,vs v6.1.Lc,.fl (.own 43) 3 (flatten (map aj.enc s45)),vz,vb false,vs z0,vi 0]),(1,vi s46),(8,vi s47)]) ?_ ?_
 rintro ⟨s45,s46,s47⟩ h
 refine ai (ag ?_)
 refine ag ?_
 obtain ⟨v61,hv61,v62,hv62,h⟩:=fK h
 refine yx hn 3 ?_
 refine yS (fb v61) 0 ⟨ik _ _ _ s46 s47 _ underlying25 nM rfl rfl ⟨_,rfl⟩ ⟨_,rfl⟩ hv61⟩ ?_
 refine ys 1 ⟨lS hv62⟩ ?_
 refine bH [0,4,7,8,95] ?_
 refine zc h rfl (fun h => ?_) (fun h => ?_)
 refine gh hn 0 ?_
 refine yk [7] [] ?_
 refine yt (96,.agg [vb v6.1.Lh,vs v6.1.Lf,vs v6.1.Lc,.fl (.own 43) 3 (flatten (map aj.enc s45)),vz,vb false,vs z0,vi 0]) 0 ⟨aT _ _ _ _ underlying46 rfl eC rfl rfl⟩ ?_
 refine yk [96,4] [] ?_
 refine yt (4,.box 46 [vb v6.1.Lh,vs v6.1.Lf,vs v6.1.Lc,.fl (.own 43) 3 (flatten (map aj.enc s45)),vz,vb false,vs z0,vi 0]) 2 ⟨aR _ _ _ _ _ _ _ _ eC rfl rfl rfl (zl rfl) rfl rfl⟩ ?_
 refine bH [4,5,6] ?_
 refine aC ?_
 refine di (fs:=[(4,.box 46 [vb v6.1.Lh,vs v6.1.Lf,vs v6.1.Lc,.fl (.own 43) 3 (flatten (map aj.enc s45)),.fl (.own 5) 1 (map (int .u8) []),vb false,vs z0,vi 0]),(5,vi 0),(6,vb false)]) (.box _ _ (ay (aJ _) (ay (aJ _) (ay (aJ _) (ay (aJ _) (ay (cd 5 1) (ay (aJ _) (ay (aJ _) (ay (aJ _) (cr))))))))) rfl (.same _ (.same _ .nil))) ?_
 refine am ?_
 obtain rfl:=zi h
 exact aE hio rfl (.cellA _ _ _ _ underlying46 rfl eC (.tmp _ _ (.tmp _ _ .nil))) rfl rfl
 refine aA ?_
 refine ai (ag ?_)
 obtain ⟨v64,hv64,v65,hv65,v66,hv66,h⟩:=mh h
 refine yx hn 2 ?_
 refine ys 0 ⟨lb hv64⟩ ?_
 refine yS (fb v65) 0 ⟨ik _ _ _ v64 (c.length:Int) _ underlying25 nM rfl rfl ⟨_,rfl⟩ rfl hv65⟩ ?_
 refine ys 0 ⟨lk call63 (nf _ _ hv66)⟩ ?_
 refine ym 0 ?_
 refine zC 2 ?_
 refine ya 2 ?_
 refine bH [4,7,8,17,18,19] ?_
 refine ag ?_
 refine aX hn 2 [4,7,8,17,18,107] ?_
 refine zc h rfl (fun h => ?_) (fun h => ?_)
 refine gh hn 0 ?_
 refine yk [7] [] ?_
 refine yt (108,.agg [vb v6.1.Lh,vs v6.1.Lf,vs v6.1.Lc,.fl (.own 43) 3 (flatten (map aj.enc s45)),vz,vb false,vs z0,vi 0]) 0 ⟨aT _ _ _ _ underlying46 rfl eC rfl rfl⟩ ?_
 refine yk [108,4] [] ?_
 refine yt (4,.box 46 [vb v6.1.Lh,vs v6.1.Lf,vs v6.1.Lc,.fl (.own 43) 3 (flatten (map aj.enc s45)),vz,vb false,vs z0,vi 0]) 2 ⟨aR _ _ _ _ _ _ _ _ eC rfl rfl rfl (zl rfl) rfl rfl⟩ ?_
 refine bH [4,5,6] ?_
 refine aC ?_
 refine di (fs:=[(4,.box 46 [vb v6.1.Lh,vs v6.1.Lf,vs v6.1.Lc,.fl (.own 43) 3 (flatten (map aj.enc s45)),.fl (.own 5) 1 (map (int .u8) []),vb false,vs z0,vi 0]),(5,vi 0),(6,vb false)]) (.box _ _ (ay (aJ _) (ay (aJ _) (ay (aJ _) (ay (aJ _) (ay (cd 5 1) (ay (aJ _) (ay (aJ _) (ay (aJ _) (cr))))))))) rfl (.same _ (.same _ .nil))) ?_
 refine am ?_
 obtain rfl:=zi h
 exact aE hio rfl (.cellA _ _ _ _ underlying46 rfl eC (.tmp _ _ (.tmp _ _ .nil))) rfl rfl
 refine aA (ai ?_)
 refine gh hn 0 ?_
 refine ym 1 ?_
 refine yk [109,7] [110] ?_
 refine yt (7,.box 46 [vb v6.1.Lh,vs v6.1.Lf,vs v6.1.Lc,.fl (.own 43) 3 (flatten (map aj.enc s45)),.fl (.own 5) 1 (map (int .u8) v66.1),vb false,vs z0,vi 0]) 0 ⟨aR _ _ _ _ _ _ _ _ qX rfl rfl rfl (zl rfl) rfl rfl⟩ ?_
 refine bH [4,7,8,18] ?_
 refine ag ?_
 obtain ⟨v68,hv68,v69,hv69,h⟩:=fK h
 refine yx hn 0 ?_
 refine yk [7] [] ?_
 refine yt (111,.agg [vb v6.1.Lh,vs v6.1.Lf,vs v6.1.Lc,.fl (.own 43) 3 (flatten (map aj.enc s45)),.fl (.own 5) 1 (map (int .u8) v66.1),vb false,vs z0,vi 0]) 1 ⟨aT _ _ _ _ underlying46 rfl eC rfl rfl⟩ ?_
 refine ys 1 ⟨lb hv68⟩ ?_
 refine ys 0 ⟨lb hv69⟩ ?_
 refine yk [111,4] [] ?_
 refine yt (4,.box 46 [vb v6.1.Lh,vs v6.1.Lf,vs v6.1.Lc,.fl (.own 43) 3 (flatten (map aj.enc s45)),.fl (.own 5) 1 (map (int .u8) v66.1),vb false,vs z0,vi 0]) 2 ⟨aR _ _ _ _ _ _ _ _ eC rfl rfl rfl (zl rfl) rfl rfl⟩ ?_
 refine bH [4,5,6] ?_
 refine aC ?_
 obtain rfl:=zi h
 exact aE hio rfl (.cellA _ _ _ _ underlying46 rfl eC (.tmp _ _ (.tmp _ _ .nil))) rfl rfl
 rintro u48 hl49 hr50 ⟨s36,s37⟩ rr53 h ho51
 refine aP (ag ?_)
 obtain ⟨v13,hv13,h⟩:=zn h
 refine yx hn 2 ?_
 refine ys 1 ⟨lk call38 (gT _ _ _ hv13)⟩ ?_
 refine bH [0,4,7,1,8] ?_
 refine ag ?_
 refine aX hn 2 [0,4,7,1,8,55] ?_
 refine zc h rfl (fun h => ?_) (fun h => ?_)
 refine gh hn 0 ?_
 refine yk [7] [] ?_
 refine yt (56,.agg [vb v6.1.Lh,vs v6.1.Lf,vs v6.1.Lc,.fl (.own 43) 3 (flatten (map aj.enc s36)),vz,vb false,vs z0,vi 0]) 0 ⟨aT _ _ _ _ underlying46 rfl eC rfl rfl⟩ ?_
 refine yk [56,4] [] ?_
 refine yt (4,.box 46 [vb v6.1.Lh,vs v6.1.Lf,vs v6.1.Lc,.fl (.own 43) 3 (flatten (map aj.enc s36)),vz,vb false,vs z0,vi 0]) 2 ⟨aR _ _ _ _ _ _ _ _ eC rfl rfl rfl (zl rfl) rfl rfl⟩ ?_
 refine bH [4,5,6] ?_
 refine aC ?_
 refine di (fs:=[(4,.box 46 [vb v6.1.Lh,vs v6.1.Lf,vs v6.1.Lc,.fl (.own 43) 3 (flatten (map aj.enc s36)),.fl (.own 5) 1 (map (int .u8) []),vb false,vs z0,vi 0]),(5,vi 0),(6,vb false)]) (.box _ _ (ay (aJ _) (ay (aJ _) (ay (aJ _) (ay (aJ _) (ay (cd 5 1) (ay (aJ _) (ay (aJ _) (ay (aJ _) (cr))))))))) rfl (.same _ (.same _ .nil))) ?_
 refine am (aV (am (aV (am ?_))))
 have h:=hr50 _ (ho51 _ (zi h).symm).symm
 obtain rfl:=zi h
 exact aE hio rfl (.cellA _ _ _ _ underlying46 rfl eC (.tmp _ _ (.tmp _ _ .nil))) rfl rfl
 refine aA ?_
 refine ai (ag ?_)
 obtain ⟨v15,hv15,v16,hv16,v17,hv17,h⟩:=mh h
 refine yx hn 3 ?_
 refine yS (fb v15) 0 ⟨ik _ _ _ s37 v13 _ underlying25 nM rfl rfl ⟨_,rfl⟩ ⟨_,rfl⟩ hv15⟩ ?_
 refine ys 0 ⟨lS hv16⟩ ?_
 refine ys 0 ⟨lk call61 (iu _ _ _ hv17)⟩ ?_
 refine ym 4 ?_
 refine bH [0,4,7,1,8,13,14] ?_
 refine ag ?_
 refine aX hn 2 [0,4,7,1,8,13,67] ?_
 refine zc h rfl (fun h => ?_) (fun h => ?_)
 refine bk (aD ?_)
 refine kZ (by decide) ?_
 refine aD (bo ?_)
 refine aB [0,1,2,3,4] (by kernel_rfl) (es':=[(_,_),(_,_),(_,_),(_,_),(_,_)]) rfl ?_
 exact hl49 _ (ho51 _ (zi h).symm).symm
 refine aA ?_
 refine ai (ag ?_)
 obtain ⟨v19,hv19,h⟩:=zn h
 refine yx hn 1 ?_
 refine ys 0 ⟨lk call62 (jA _ _ hv19)⟩ ?_
 refine ym 0 ?_
 refine yS (.agg [vb v19.1.Lh,vs v19.1.Lf,vs v19.1.Lc]) 1 ⟨eK _ _ _ _ _ _ rfl rfl (zl rfl) rfl rfl⟩ ?_
 refine yS (.box 43 [vb false,vs z0,vs z0]) 2 ⟨oA (bu _ _ jr)⟩ ?_
 refine bH [0,4,7,8,15,16] ?_
 refine ag (ag ?_)
 refine aM h (fun (s56:Bool)=>[(0,fb c),(4,.box 46 [vb false,vs z0,vs z0,vz,vz,vb false,vs z0,vi 0]),(7,.box 46 [vb v6.1.Lh,vs v6.1.Lf,vs v6.1.Lc,.fl (.own 43) 3 (flatten (map aj.enc s36)),vz,vb false,vs z0,vi 0]),(8,vi v13),(15,.box 43 [vb v19.1.Lh,vs v19.1.Lf,vs v19.1.Lc]),(80,vb s56)]) ?_ ?_
 rintro s56 h
 refine ai ?_
 refine zc h rfl (fun h => ?_) (fun h => ?_)
 refine gh hn 0 ?_
 refine yk [7] [] ?_
 refine yt (81,.agg [vb v6.1.Lh,vs v6.1.Lf,vs v6.1.Lc,.fl (.own 43) 3 (flatten (map aj.enc s36)),vz,vb false,vs z0,vi 0]) 0 ⟨aT _ _ _ _ underlying46 rfl eC rfl rfl⟩ ?_
 refine yk [81,4] [] ?_
 refine yt (4,.box 46 [vb v6.1.Lh,vs v6.1.Lf,vs v6.1.Lc,.fl (.own 43) 3 (flatten (map aj.enc s36)),vz,vb false,vs z0,vi 0]) 2 ⟨aR _ _ _ _ _ _ _ _ eC rfl rfl rfl (zl rfl) rfl rfl⟩ ?_
 refine bH [4,5,6] ?_
 refine aC ?_
 refine di (fs:=[(4,.box 46 [vb v6.1.Lh,vs v6.1.Lf,vs v6.1.Lc,.fl (.own 43) 3 (flatten (map aj.enc s36)),.fl (.own 5) 1 (map (int .u8) []),vb false,vs z0,vi 0]),(5,vi 0),(6,vb false)]) (.box _ _ (ay (aJ _) (ay (aJ _) (ay (aJ _) (ay (aJ _) (ay (cd 5 1) (ay (aJ _) (ay (aJ _) (ay (aJ _) (cr))))))))) rfl (.same _ (.same _ .nil))) ?_
 refine am (aV (am (aV (am ?_))))
 have h:=hr50 _ (ho51 _ (zi h).symm).symm
 obtain rfl:=zi h
 exact aE hio rfl (.cellA _ _ _ _ underlying46 rfl eC (.tmp _ _ (.tmp _ _ .nil))) rfl rfl
 refine aA ?_
 refine ai (ag ?_)
 obtain ⟨v25,hv25,h⟩:=zn h
 refine yx hn 3 ?_
 refine yS (.fl (.own 43) 3 (flatten (map aj.enc [v19.1]))) 0 ⟨cb _ _ 3 (.agg #[.bool false,.string ByteArray.empty,.string ByteArray.empty]) (flatten (map aj.enc [v19.1])) [(0,.agg #[.bool v19.1.Lh,.string v19.1.Lf,.string v19.1.Lc])] underlying44 iG jr (fun _ V w o a hv hes=>by have e0:=CZ (ys:=[.bool v19.1.Lh,.string v19.1.Lf,.string v19.1.Lc]) hv hes (x := .tmp 84) rfl; simp only [List.map_toArray,List.map_cons,List.map_nil,e0]; try rfl) (fv (by simp [Instr.fill,Value.cells]; rfl) (by simp [List.range,List.range.loop,aj.enc] <;> rfl)) (by simp [Value.oneCell',aj.enc]) rfl (by decide) (by decide) (by decide)⟩ ?_
 refine yk [7] [83,85] ?_
 refine pX (7,.box 46 [vb v6.1.Lh,vs v6.1.Lf,vs v6.1.Lc,.any,vz,vb false,vs z0,vi 0]) (86,.fl (.own 43) 3 (flatten (map aj.enc v25))) 1 ⟨jz _ _ _ _ _ _ Gp rfl rfl (zl rfl) rfl (kx aj.len _) (kx aj.len _) hv25 (vP (jb hv25)) (Nat.ne_of_beq_eq_false rfl) rfl rfl⟩ ?_
 refine yw [83] 0 ?_
 refine yk [86,7] [87] ?_
 refine yt (7,.box 46 [vb v6.1.Lh,vs v6.1.Lf,vs v6.1.Lc,.fl (.own 43) 3 (flatten (map aj.enc v25)),vz,vb false,vs z0,vi 0]) 0 ⟨aR _ _ _ _ _ _ _ _ Gu rfl rfl rfl (zl rfl) rfl rfl⟩ ?_
 refine bH [0,4,7,8] ?_
 obtain ⟨v26,hv26,h⟩:=zn h
 refine yx hn 1 ?_
 refine ys 1 ⟨lb hv26⟩ ?_
 refine ye [0,4,7,1] ?_
 refine br ?_
 exact bC _ (zi h).symm rfl
 intro u57 h hl58 hr59
 refine au h (fun hg17_2 h => ?_) (fun hg17_2 h => ?_)
 refine yx hn 3 ?_
 refine yd hg17_2 5 ?_
 refine ye [0,4,7,8,15,80] ?_
 exact hl58 _ (zi h).symm
 refine yx hn 3 ?_
 refine yd hg17_2 5 ?_
 refine ye [0,4,7,8,15,80] ?_
 exact hl58 _ (zi h).symm
 intro u8 h hl9 hr10
 refine au h (fun hg7_2 h => ?_) (fun hg7_2 h => ?_)
 refine yx hn 3 ?_
 refine yd hg7_2 3 ?_
 refine ye [0,4,7,8,11,45] ?_
 exact hl9 _ (zi h).symm
 refine yx hn 3 ?_
 refine yd hg7_2 3 ?_
 refine ye [0,4,7,8,11,45] ?_
 exact hl9 _ (zi h).symm
theorem bE (a:(List Int)) (b:(List Int)) (r:Bool) (h:Sh.cU a b=some r):cl Tryz.prog 21 [.fl .shr 1 (map (int .u8) a),.fl .shr 1 (map (int .u8) b)] (.v (.bool r)):=by
 unfold Sh.cU at h
 refine yO 26 func21 fun g0 hn hio => ?_
 refine aX hn 1 [0,1] ?_
 refine ag ?_
 refine aX hn 5 [0,1,10] ?_
 refine zc h rfl (fun h => ?_) (fun h => ?_)
 refine aX hn 1 [4] ?_
 refine aC (am ?_)
 obtain rfl:=zi h
 exact aE hio rfl (.tmp _ _ .nil) rfl rfl
 refine aA ?_
 refine ai (ag ?_)
 refine aX hn 1 [0,1,5] ?_
 refine aY h (fun (s12:Int)=>[(0,fb a),(1,fb b),(5,vi s12)]) (fun (():Unit)=>[]) ?_ ?_
 rintro ⟨⟩ h
 refine ai ?_
 refine aX hn 1 [4] ?_
 refine aC ?_
 obtain rfl:=zi h
 exact aE hio rfl (.tmp _ _ .nil) rfl rfl
 rintro u15 hl16 hr17 s12 rr20 h ho18
 refine ag ?_
 refine aX hn 4 [0,1,5,14] ?_
 refine zc h rfl (fun h => ?_) (fun h => ?_)
 refine aA ?_
 refine ai (ag ?_)
 refine aP (ag ?_)
 obtain ⟨v3,hv3,v4,hv4,v5,hv5,v6,hv6,h⟩:=ov h
 refine wb [[0],[5]] ?_
 refine wN [17,18] ?_
 refine wo [] ⟨li hv3⟩ ?_
 refine wN [19,17] ?_
 refine wo [[1],[5]] ⟨ll hv4⟩ ?_
 refine wN [21,22] ?_
 refine wo [] ⟨li hv5⟩ ?_
 refine wN [23,21] ?_
 refine wo [[20,24]] ⟨ll hv6⟩ ?_
 refine sI hn [0,1,5,25] ?_
 refine zc h rfl (fun h => ?_) (fun h => ?_)
 refine aX hn 1 [4] ?_
 refine aC (aV (am (am (aV (am ?_)))))
 have h:=hr17 _ (ho18 _ (zi h).symm).symm
 obtain rfl:=zi h
 exact aE hio rfl (.tmp _ _ .nil) rfl rfl
 refine aA (br (ai ?_))
 obtain ⟨v8,hv8,h⟩:=zn h
 refine yx hn 1 ?_
 refine ys 0 ⟨lb hv8⟩ ?_
 refine yw [5] 1 ?_
 refine ye [0,1,5] ?_
 exact bC _ (zi h).symm rfl
 refine bk (aD (aD (bo ?_)))
 refine aB [] (by kernel_rfl) (es':=[]) rfl ?_
 exact hl16 _ (ho18 _ (zi h).symm).symm
theorem kB (t:(List Int)) (r:(az×Int)) (h:Sh.bB t=some r):cl Tryz.prog 16 [.fl .shr 1 (map (int .u8) t)] (.tup [.agg [.v (.int .i64 r.1.Lj),.v (.int .i64 r.1.Li),.fr (.own 46) false 8 (flatten (map ae.ienc r.1.Lg))],.v (.int .i64 r.2)]):=by
 unfold Sh.bB at h
 refine yO 119 func16 fun g0 hn hio => ?_
 refine gh hn 0 ?_
 refine yS (.box 24 [vi 0,vi 0,vz]) 1 ⟨oA (bu _ _ jD)⟩ ?_
 refine bH [0,2] ?_
 refine ag ?_
 obtain ⟨v1,hv1,h⟩:=zn h
 refine yx hn 1 ?_
 refine ys 1 ⟨lk call38 (gT _ _ _ hv1)⟩ ?_
 refine bH [0,2,4] ?_
 refine ag ?_
 refine aX hn 2 [0,2,4,20] ?_
 refine zc h rfl (fun h => ?_) (fun h => ?_)
 refine gh hn 0 ?_
 refine yS (.agg [vi 0,vi 0,vz]) 0 ⟨bQ _ _ _ _ [1,1,1] _ _ underlying24 jD (oH _ underlying24) kP.nil rfl rfl rfl⟩ ?_
 refine yk [21,2] [] ?_
 refine yt (2,.box 24 [vi 0,vi 0,vz]) 1 ⟨bL _ _ _ 21 2 3 ed rfl rfl rfl rfl rfl (.eq _ (.eq _ (.eq _ (.nil _)))) rfl⟩ ?_
 refine bH [2,3] ?_
 refine aC ?_
 refine di (fs:=[(2,.box 24 [vi 0,vi 0,.fr (.own 46) false 8 (flatten (map ae.ienc []))]),(3,vi 5)]) (.box _ _ (ay (aJ _) (ay (aJ _) (ay (dB 46 false 8) (cr)))) rfl (.same _ .nil)) ?_
 refine am ?_
 obtain rfl:=zi h
 exact aE hio rfl (.cellA _ _ _ _ underlying24 rfl ed (.tmp _ _ .nil)) rfl rfl
 refine aA ?_
 refine ai (ag ?_)
 obtain ⟨v3,hv3,v4,hv4,v5,hv5,h⟩:=mh h
 refine yx hn 2 ?_
 refine yS (fb v3) 0 ⟨ik _ _ _ 0 v1 _ underlying25 nM rfl rfl rfl ⟨_,rfl⟩ hv3⟩ ?_
 refine ys 0 ⟨lS hv4⟩ ?_
 refine ys 0 ⟨lk call39 (mT _ _ hv5)⟩ ?_
 refine ya 0 ?_
 refine bH [0,2,4,5] ?_
 refine ag (ag ?_)
 refine aM h (fun (s8:Bool)=>[(0,fb t),(2,.box 24 [vi 0,vi 0,vz]),(4,vi v1),(5,.fl (.own 9) 1 (map Value.string v5)),(35,vb s8)]) ?_ ?_
 rintro s8 h
 refine ai ?_
 refine zc h rfl (fun h => ?_) (fun h => ?_)
 refine gh hn 0 ?_
 refine yS (.agg [vi 0,vi 0,vz]) 0 ⟨bQ _ _ _ _ [1,1,1] _ _ underlying24 jD (oH _ underlying24) kP.nil rfl rfl rfl⟩ ?_
 refine yk [36,2] [] ?_
 refine yt (2,.box 24 [vi 0,vi 0,vz]) 1 ⟨bL _ _ _ 36 2 3 ed rfl rfl rfl rfl rfl (.eq _ (.eq _ (.eq _ (.nil _)))) rfl⟩ ?_
 refine bH [2,3] ?_
 refine aC ?_
 refine di (fs:=[(2,.box 24 [vi 0,vi 0,.fr (.own 46) false 8 (flatten (map ae.ienc []))]),(3,vi 5)]) (.box _ _ (ay (aJ _) (ay (aJ _) (ay (dB 46 false 8) (cr)))) rfl (.same _ .nil)) ?_
 refine am ?_
 obtain rfl:=zi h
 exact aE hio rfl (.cellA _ _ _ _ underlying24 rfl ed (.tmp _ _ .nil)) rfl rfl
 refine aA (ai ?_)
 refine aX hn 1 [0,2,4,5,6] ?_
 refine ag ?_
 refine aX hn 1 [0,2,4,5,6,7] ?_
 refine gX (fs:=[(0,fb t),(2,.box 24 [vi 0,vi 0,vz]),(4,vi v1),(5,.fl (.own 9) 1 (map Value.string v5)),(6,.fl (.own 3) 1 (map (int .i64) [])),(7,vi 1)]) (.same _ (.same _ (.same _ (.same _ (.sub _ (cd 3 1) rfl (.same _ .nil)))))) ?_
 refine aY h (fun ((s24,s25):(List Int)×Int)=>[(0,fb t),(2,.box 24 [vi 0,vi 0,vz]),(4,vi v1),(5,.fl (.own 9) 1 (map Value.string v5)),(6,.fl (.own 3) 1 (map (int .i64) s24)),(7,vi s25)]) (fun (s28:(List Int))=>[(0,fb t),(2,.box 24 [vi 0,vi 0,vz]),(4,vi v1),(6,.fl (.own 3) 1 (map (int .i64) s28))]) ?_ ?_
 rintro s28 h
 refine ai (ag ?_)
 obtain ⟨v37,hv37,v38,hv38,h⟩:=fK h
 refine yx hn 2 ?_
 refine ys 0 ⟨lb hv37⟩ ?_
 refine yS (fb v38) 1 ⟨ik _ _ _ v37 (t.length:Int) _ underlying25 nM rfl rfl ⟨_,rfl⟩ rfl hv38⟩ ?_
 refine bH [0,2,6,9] ?_
 refine ag (ag ?_)
 refine aM h (fun (s43:Bool)=>[(0,fb t),(2,.box 24 [vi 0,vi 0,vz]),(6,.fl (.own 3) 1 (map (int .i64) s28)),(9,fb v38),(68,vb s43)]) ?_ ?_
 rintro s43 h
 refine ai ?_
 refine zc h rfl (fun h => ?_) (fun h => ?_)
 refine gh hn 0 ?_
 refine yS (.agg [vi 0,vi 0,vz]) 0 ⟨bQ _ _ _ _ [1,1,1] _ _ underlying24 jD (oH _ underlying24) kP.nil rfl rfl rfl⟩ ?_
 refine yk [69,2] [] ?_
 refine yt (2,.box 24 [vi 0,vi 0,vz]) 1 ⟨bL _ _ _ 69 2 3 ed rfl rfl rfl rfl rfl (.eq _ (.eq _ (.eq _ (.nil _)))) rfl⟩ ?_
 refine bH [2,3] ?_
 refine aC ?_
 refine di (fs:=[(2,.box 24 [vi 0,vi 0,.fr (.own 46) false 8 (flatten (map ae.ienc []))]),(3,vi 5)]) (.box _ _ (ay (aJ _) (ay (aJ _) (ay (dB 46 false 8) (cr)))) rfl (.same _ .nil)) ?_
 refine am ?_
 obtain rfl:=zi h
 exact aE hio rfl (.cellA _ _ _ _ underlying24 rfl ed (.tmp _ _ .nil)) rfl rfl
 refine aA ?_
 refine ai (ag ?_)
 refine ag ?_
 obtain ⟨v48,hv48,v49,hv49,v50,hv50,h⟩:=mh h
 refine wb [[6]] ?_
 refine wN [70,6] ?_
 refine wo [] ⟨li hv48⟩ ?_
 refine wN [71,6] ?_
 refine wo [[9]] ⟨ll hv49⟩ ?_
 refine wN [73] ?_
 refine wo [[72,74]] ⟨lk call28 (jI _ _ hv50)⟩ ?_
 refine sI hn [0,2,6,9,75] ?_
 refine zc h rfl (fun h => ?_) (fun h => ?_)
 refine gh hn 0 ?_
 refine yS (.agg [vi 0,vi 0,vz]) 0 ⟨bQ _ _ _ _ [1,1,1] _ _ underlying24 jD (oH _ underlying24) kP.nil rfl rfl rfl⟩ ?_
 refine yk [76,2] [] ?_
 refine yt (2,.box 24 [vi 0,vi 0,vz]) 1 ⟨bL _ _ _ 76 2 3 ed rfl rfl rfl rfl rfl (.eq _ (.eq _ (.eq _ (.nil _)))) rfl⟩ ?_
 refine bH [2,3] ?_
 refine aC ?_
 refine di (fs:=[(2,.box 24 [vi 0,vi 0,.fr (.own 46) false 8 (flatten (map ae.ienc []))]),(3,vi 6)]) (.box _ _ (ay (aJ _) (ay (aJ _) (ay (dB 46 false 8) (cr)))) rfl (.same _ .nil)) ?_
 refine am ?_
 obtain rfl:=zi h
 exact aE hio rfl (.cellA _ _ _ _ underlying24 rfl ed (.tmp _ _ .nil)) rfl rfl
 refine aA ?_
 refine ai (ag ?_)
 obtain ⟨v52,hv52,v53,hv53,v54,hv54,v55,hv55,h⟩:=ov h
 refine wb [[6]] ?_
 refine wN [77,6] ?_
 refine wo [] ⟨li hv52⟩ ?_
 refine wN [78,6] ?_
 refine wo [[6]] ⟨ll hv53⟩ ?_
 refine wN [80,6] ?_
 refine wo [] ⟨li hv54⟩ ?_
 refine wN [81,6] ?_
 refine wo [] ⟨ll hv55⟩ ?_
 refine wN [79,82] ?_
 refine wS (.agg [vi v53,vi v55,vz]) [] ⟨bQ _ _ _ _ [1,1,1] _ _ underlying24 jD (oH _ underlying24) (.copy _ (.copy _ kP.nil)) rfl rfl rfl⟩ ?_
 refine wN [] ?_
 refine wS (.box 24 [vi 0,vi 0,vz]) [] ⟨oA (bu _ _ jD)⟩ ?_
 refine wK [10] [83] ?_
 refine wt [(10,.box 24 [vi v53,vi v55,vz])] [] ⟨kR _ _ _ _ _ _ _ _ ed rfl rfl rfl rfl (zl rfl) rfl rfl⟩ ?_
 refine sI hn [0,2,9,10] ?_
 refine aX hn 1 [0,2,9,10,11] ?_
 refine ag ?_
 refine gX (fs:=[(0,fb t),(2,.box 24 [vi 0,vi 0,vz]),(9,fb v38),(10,.box 24 [vi v53,vi v55,.fr (.own 46) false 8 (flatten (map ae.ienc []))]),(11,vi 0)]) (.same _ (.same _ (.same _ (.box _ _ (ay (aJ _) (ay (aJ _) (ay (dB 46 false 8) (cr)))) rfl (.same _ .nil))))) ?_
 refine aY h (fun ((s64,s65):(List ae)×Int)=>[(0,fb t),(2,.box 24 [vi 0,vi 0,vz]),(9,fb v38),(10,.box 24 [vi v53,vi v55,.fr (.own 46) false 8 (flatten (map ae.ienc s64))]),(11,vi s65)]) (fun (s68:(List ae))=>[(0,fb t),(2,.box 24 [vi 0,vi 0,vz]),(10,.box 24 [vi v53,vi v55,.fr (.own 46) false 8 (flatten (map ae.ienc s68))])]) ?_ ?_
 rintro s68 h
 refine ai (ag ?_)
 obtain ⟨v77,hv77,h⟩:=zn h
 refine yx hn 1 ?_
 refine ys 0 ⟨lk call14 (eQ _ _ hv77)⟩ ?_
 refine ym 0 ?_
 refine zC 1 ?_
 refine ya 1 ?_
 refine bH [0,2,10,15,16] ?_
 refine ag (ag ?_)
 refine aM h (fun (s79:Bool)=>[(2,.box 24 [vi 0,vi 0,vz]),(10,.box 24 [vi v53,vi v55,.fr (.own 46) false 8 (flatten (map ae.ienc s68))]),(116,vb s79)]) ?_ ?_
 rintro s79 h
 refine ai ?_
 refine zc h rfl (fun h => ?_) (fun h => ?_)
 refine gh hn 0 ?_
 refine yS (.agg [vi 0,vi 0,vz]) 0 ⟨bQ _ _ _ _ [1,1,1] _ _ underlying24 jD (oH _ underlying24) kP.nil rfl rfl rfl⟩ ?_
 refine yk [117,2] [] ?_
 refine yt (2,.box 24 [vi 0,vi 0,vz]) 1 ⟨bL _ _ _ 117 2 3 ed rfl rfl rfl rfl rfl (.eq _ (.eq _ (.eq _ (.nil _)))) rfl⟩ ?_
 refine bH [2,3] ?_
 refine aC ?_
 refine di (fs:=[(2,.box 24 [vi 0,vi 0,.fr (.own 46) false 8 (flatten (map ae.ienc []))]),(3,vi 5)]) (.box _ _ (ay (aJ _) (ay (aJ _) (ay (dB 46 false 8) (cr)))) rfl (.same _ .nil)) ?_
 refine am ?_
 obtain rfl:=zi h
 exact aE hio rfl (.cellA _ _ _ _ underlying24 rfl ed (.tmp _ _ .nil)) rfl rfl
 refine aA (ai ?_)
 refine gh hn 0 ?_
 refine yk [10] [] ?_
 refine yt (118,.agg [vi v53,vi v55,.fr (.own 46) false 8 (flatten (map ae.ienc s68))]) 0 ⟨aT _ _ _ _ underlying24 rfl ed rfl rfl⟩ ?_
 refine yk [118,2] [] ?_
 refine yt (2,.box 24 [vi v53,vi v55,.fr (.own 46) false 8 (flatten (map ae.ienc s68))]) 1 ⟨aR _ _ _ _ _ _ _ _ ed rfl rfl rfl (zl rfl) rfl rfl⟩ ?_
 refine bH [2,3] ?_
 refine aC ?_
 obtain rfl:=zi h
 exact aE hio rfl (.cellA _ _ _ _ underlying24 rfl ed (.tmp _ _ .nil)) rfl rfl
 intro u80 h hl81 hr82
 refine au h (fun hg28_2 h => ?_) (fun hg28_2 h => ?_)
 refine yx hn 3 ?_
 refine yd hg28_2 5 ?_
 refine ye [2,10,116] ?_
 exact hl81 _ (zi h).symm
 obtain ⟨v78,hv78,h⟩:=zn h
 refine yx hn 3 ?_
 refine yd hg28_2 0 ?_
 refine ym 1 ?_
 refine ys 2 ⟨lk call21 (bE _ _ _ hv78)⟩ ?_
 refine ye [2,10,116] ?_
 exact hl81 _ (zi h).symm
 rintro u69 hl70 hr71 ⟨s64,s65⟩ rr74 h ho72
 refine ag ?_
 refine aX hn 4 [0,2,9,10,11,87] ?_
 refine zc h rfl (fun h => ?_) (fun h => ?_)
 refine aA (ai (aP (ag ?_)))
 obtain ⟨v57,hv57,h⟩:=zn h
 refine yx hn 2 ?_
 refine ys 0 ⟨lk call41 (nL _ _ _ hv57)⟩ ?_
 refine ym 0 ?_
 refine zC 2 ?_
 refine yS (.box 46 [vb false,vs z0,vs z0,vz,vz,vb false,vs z0,vi 0]) 0 ⟨oA (bu _ _ ks)⟩ ?_
 refine yk [92,12] [] ?_
 refine yt (12,.box 46 [vb v57.1.Ld.Lh,vs v57.1.Ld.Lf,vs v57.1.Ld.Lc,.fl (.own 43) 3 (flatten (map aj.enc v57.1.To)),.fl (.own 5) 1 (map (int .u8) v57.1.Lb),vb v57.1.Lk,vs v57.1.Le,vi v57.1.At]) 2 ⟨aR _ _ _ _ _ _ _ _ eC rfl rfl rfl (zl rfl) rfl rfl⟩ ?_
 refine bH [0,2,9,10,12,13,14] ?_
 refine ag ?_
 refine aX hn 2 [0,2,9,10,12,13,96] ?_
 refine zc h rfl (fun h => ?_) (fun h => ?_)
 refine bk (aD ?_)
 refine kZ (by decide) ?_
 refine aD (bo ?_)
 refine aB [0,1,3] (by kernel_rfl) (es':=[(_,_),(_,_),(_,_)]) rfl ?_
 exact hl70 _ (ho72 _ (zi h).symm).symm
 refine aA ?_
 refine ai (ag ?_)
 obtain ⟨v59,hv59,h⟩:=zn h
 refine yx hn 2 ?_
 refine yk [12] [] ?_
 refine yt (99,.agg [vb v57.1.Ld.Lh,vs v57.1.Ld.Lf,vs v57.1.Ld.Lc,.fl (.own 43) 3 (flatten (map aj.enc v57.1.To)),.fl (.own 5) 1 (map (int .u8) v57.1.Lb),vb v57.1.Lk,vs v57.1.Le,vi v57.1.At]) 0 ⟨aT _ _ _ _ underlying46 rfl eC rfl rfl⟩ ?_
 refine yk [99] [] ?_
 refine yt (100,.fr (.own 46) false 8 (flatten (map ae.ienc [(ae.mk (aj.mk v57.1.Ld.Lh v57.1.Ld.Lf v57.1.Ld.Lc) v57.1.To v57.1.Lb v57.1.Lk v57.1.Le v57.1.At)]))) 0 ⟨fZ _ _ _ 8 (.agg #[.bool false,.string ByteArray.empty,.string ByteArray.empty,.slice none 0 0,.slice none 0 0,.bool false,.string ByteArray.empty,.int .i64 0]) false _ _ underlying22 eC ks rfl (.cons (.v _) (.cons (.v _) (.cons (.v _) (.cons (.ro _ _ rfl) (.cons (.ro _ _ rfl) (.cons (.v _) (.cons (.v _) (.cons (.v _) (.nil))))))))) rfl (by decide) (by decide)⟩ ?_
 refine yk [10] [98,100] ?_
 refine pX (10,.box 24 [vi v53,vi v55,.any]) (101,.fr (.own 46) false 8 (flatten (map ae.ienc v59))) 1 ⟨mS _ 101 10 2 _ _ Dq rfl rfl (zl rfl) rfl (ei ae.ilen _) (ei ae.ilen _) hv59 (lu (jb hv59)) (by decide) (by decide) (by decide) rfl rfl⟩ ?_
 refine yw [98] 0 ?_
 refine yk [101,10] [102] ?_
 refine yt (10,.box 24 [vi v53,vi v55,.fr (.own 46) false 8 (flatten (map ae.ienc v59))]) 0 ⟨aR _ _ _ _ _ _ _ _ Ig rfl rfl rfl (zl rfl) rfl rfl⟩ ?_
 refine bH [0,2,9,10,13] ?_
 refine yy hn 2 [0,2,9,10,11] ?_
 refine br ?_
 exact bC _ (zi h).symm rfl
 refine bk (aD (aD (bo ?_)))
 refine aB [0,1,3] (by kernel_rfl) (es':=[(_,_),(_,_),(_,_)]) rfl ?_
 exact hl70 _ (ho72 _ (zi h).symm).symm
 intro u44 h hl45 hr46
 obtain ⟨v39,hv39,v40,hv40,h⟩:=fK h
 refine au h (fun hg16_4 h => ?_) (fun hg16_4 h => ?_)
 refine yx hn 1 ?_
 refine ys 0 ⟨li hv39⟩ ?_
 refine ys 2 ⟨ll hv40⟩ ?_
 refine yd hg16_4 7 ?_
 refine ye [0,2,6,9,68] ?_
 exact hl45 _ (zi h).symm
 obtain ⟨v41,hv41,v42,hv42,h⟩:=fK h
 refine yx hn 1 ?_
 refine ys 0 ⟨li hv39⟩ ?_
 refine ys 2 ⟨ll hv40⟩ ?_
 refine yd hg16_4 1 ?_
 refine ys 0 ⟨li hv41⟩ ?_
 refine ys 4 ⟨ll hv42⟩ ?_
 refine ye [0,2,6,9,68] ?_
 exact hl45 _ (zi h).symm
 rintro u29 hl30 hr31 ⟨s24,s25⟩ rr34 h ho32
 refine ag ?_
 refine aX hn 2 [0,2,4,5,6,7,38] ?_
 refine zc h rfl (fun h => ?_) (fun h => ?_)
 refine aA ?_
 refine ai (ag ?_)
 refine aP (ag ?_)
 obtain ⟨v14,hv14,v15,hv15,v16,hv16,h⟩:=mh h
 refine yx hn 2 ?_
 refine ys 0 ⟨li hv14⟩ ?_
 refine ys 0 ⟨ll hv15⟩ ?_
 refine ys 1 ⟨lk call40 (mc _ _ _ hv16)⟩ ?_
 refine bH [0,2,4,5,6,7,8] ?_
 refine ag ?_
 refine aX hn 2 [0,2,4,5,6,7,8,47] ?_
 refine zc h rfl (fun h => ?_) (fun h => ?_)
 refine gh hn 0 ?_
 refine yS (.agg [vi 0,vi 0,vz]) 0 ⟨bQ _ _ _ _ [1,1,1] _ _ underlying24 jD (oH _ underlying24) kP.nil rfl rfl rfl⟩ ?_
 refine yk [48,2] [] ?_
 refine yt (2,.box 24 [vi 0,vi 0,vz]) 1 ⟨bL _ _ _ 48 2 3 ed rfl rfl rfl rfl rfl (.eq _ (.eq _ (.eq _ (.nil _)))) rfl⟩ ?_
 refine bH [2,3] ?_
 refine aC ?_
 refine di (fs:=[(2,.box 24 [vi 0,vi 0,.fr (.own 46) false 8 (flatten (map ae.ienc []))]),(3,vi 5)]) (.box _ _ (ay (aJ _) (ay (aJ _) (ay (dB 46 false 8) (cr)))) rfl (.same _ .nil)) ?_
 refine am (aV (am (am (aV (am ?_)))))
 have h:=hr31 _ (ho32 _ (zi h).symm).symm
 obtain rfl:=zi h
 exact aE hio rfl (.cellA _ _ _ _ underlying24 rfl ed (.tmp _ _ .nil)) rfl rfl
 refine aA (ai ?_)
 obtain ⟨v18,hv18,h⟩:=zn h
 refine yx hn 0 ?_
 refine ym 1 ?_
 refine yS (.fl (.own 3) 1 (map (int .i64) [v16])) 0 ⟨cb _ _ 1 (.int .i64 0) (map (int .i64) [v16]) [(0,.int .i64 v16)] underlying61 Fy IU (fun _ V w o a hv hes=>by have e0:=dL hv hes (x := .tmp 50) rfl; simp only [List.map_toArray,List.map_cons,List.map_nil,e0]; try rfl) (fv (by simp [Instr.fill,Value.cells]; rfl) (by simp [List.range,List.range.loop] <;> rfl)) (by simp [Value.oneCell']) rfl (by decide) (by decide) (by decide)⟩ ?_
 refine yp Jp hv18 0 ?_
 refine ya 0 ?_
 refine ye [0,2,4,5,7,6] ?_
 refine br (ai ?_)
 obtain ⟨v19,hv19,h⟩:=zn h
 refine yx hn 1 ?_
 refine ys 0 ⟨lb hv19⟩ ?_
 refine yw [7] 1 ?_
 refine ye [0,2,4,5,6,7] ?_
 exact bC _ (zi h).symm rfl
 refine bk (aD (aD (bo ?_)))
 refine aB [0,1,2,4] (by kernel_rfl) (es':=[(_,_),(_,_),(_,_),(_,_)]) rfl ?_
 exact hl30 _ (ho32 _ (zi h).symm).symm
 intro u9 h hl10 hr11
 refine au h (fun hg5_3 h => ?_) (fun hg5_3 h => ?_)
 refine yx hn 4 ?_
 refine yd hg5_3 5 ?_
 refine ye [0,2,4,5,35] ?_
 exact hl10 _ (zi h).symm
 obtain ⟨v6,hv6,v7,hv7,h⟩:=fK h
 refine yx hn 4 ?_
 refine yd hg5_3 1 ?_
 refine ys 0 ⟨li hv6⟩ ?_
 refine ys 2 ⟨ll hv7⟩ ?_
 refine ye [0,2,4,5,35] ?_
 exact hl10 _ (zi h).symm
theorem mC (mx:Int) (l:(List ae)) (origin:Int) (number:Int) (r:(Int×Int)) (h:Sh.ij l origin number=some r):kF Tryz.prog (GL mx) 17 [.fr .shr true 8 (flatten (map ae.ienc l)),.v (.int .i64 origin),.v (.int .i64 number)] (.tup [.v (.int .i64 r.1),.v (.int .i64 r.2)]):=by
 unfold Sh.ij at h
 refine yG 51 func17 fun g0 hn hio => ?_
 refine aX hn 2 [0,1,2,51] ?_
 refine aX hn 1 [0,1,2,51,8] ?_
 refine ag (ag ?_)
 obtain ⟨v1,hv1,v2,hv2,h⟩:=fK h
 refine yx hn 3 ?_
 refine yS (vi v1) 0 ⟨(Option.some.inj hv1) ▸ rF _ _ _ _ rfl rfl⟩ ?_
 refine yS (.fr .shr true 8 (flatten (map ae.ienc v2))) 2 ⟨qC _ _ (Int.toNat 0) (Int.toNat v1) _ underlying22 eC (by decide) rfl rfl rfl ⟨_,congrArg (fun j=>AV.v (int .i64 j)) (qh hv2).2.1⟩ (qh hv2).2.2.1 (by rw [ei ae.ilen]; exact Nat.mul_le_mul_right _ (qh hv2).2.2.2) (tZ ae.ilen hv2)⟩ ?_
 refine bH [1,2,51,8,18,19,20] ?_
 refine gX (fs:=[(1,vi origin),(2,vi number),(51,.glob (GL mx)),(8,.fr (.own 46) true 8 (flatten (map ae.ienc []))),(18,.fr .shr true 8 (flatten (map ae.ienc v2))),(19,vi (v2.length:Int)),(20,vi 0)]) (.same _ (.same _ (.same _ (.sub _ (dB 46 true 8) rfl (.same _ (.same _ (.same _ .nil))))))) ?_
 refine aY h (fun ((s11,s12):(List ae)×Int)=>[(1,vi origin),(2,vi number),(51,.glob (GL mx)),(8,.fr (.own 46) true 8 (flatten (map ae.ienc s11))),(18,.fr .shr true 8 (flatten (map ae.ienc v2))),(19,vi (v2.length:Int)),(20,vi s12)]) (fun (s14:(List ae))=>[(1,vi origin),(2,vi number),(51,.glob (GL mx)),(8,.fr (.own 46) true 8 (flatten (map ae.ienc s14)))]) ?_ ?_
 rintro s14 h
 refine ai (ag ?_)
 refine aX hn 3 [1,2,51,8,11] ?_
 refine vg 3 hio (es':=[(1,.v (.int .i64 origin)),(2,.v (.int .i64 number)),(51,.glob (GL mx)),(8,.fr .ro true 8 (flatten (map ae.ienc s14))),(11,.v (.int .i64 (s14.length:Int)))]) rfl ?_
 refine aY h (fun ((s31,s32):(List ae)×Int)=>[(1,vi origin),(2,vi number),(51,.glob (GL mx)),(8,.fr .ro true 8 (flatten (map ae.ienc s31))),(11,vi s32)]) (fun (():Unit)=>[(51,.glob (GL mx))]) ?_ ?_
 rintro ⟨⟩ h
 refine ai ?_
 refine aX hn 2 [51,6,7] ?_
 refine aC ?_
 refine aB [1,2] (by kernel_rfl) (es':=[(_,_),(_,_)]) rfl ?_
 obtain rfl:=zi h
 exact aE hio rfl (.tmp _ _ (.tmp _ _ .nil)) rfl rfl
 rintro u35 hl36 hr37 ⟨s31,s32⟩ rr40 h ho38
 refine ag ?_
 refine aX hn 2 [1,2,51,8,11,35] ?_
 refine zc h rfl (fun h => ?_) (fun h => ?_)
 refine aA ?_
 refine ai (ag ?_)
 refine aP (ag ?_)
 obtain ⟨v23,hv23,v24,hv24,h⟩:=fK h
 refine yx hn 4 ?_
 refine yS (.fr .ro true 8 (flatten (map ae.ienc v23))) 0 ⟨qC _ _ (Int.toNat 0) (Int.toNat s32) _ underlying22 eC (by decide) rfl rfl rfl ⟨_,congrArg (fun j=>AV.v (int .i64 j)) (qh hv23).2.1⟩ (qh hv23).2.2.1 (by rw [ei ae.ilen]; exact Nat.mul_le_mul_right _ (qh hv23).2.2.2) (tZ ae.ilen hv23)⟩ ?_
 refine yS (.agg [vi origin,vi number,.fr .ro true 8 (flatten (map ae.ienc v23))]) 0 ⟨bQ _ _ _ _ [1,1,1] _ _ underlying24 jD (oH _ underlying24) (.copy _ (.copy _ (.copy _ kP.nil))) rfl rfl rfl⟩ ?_
 refine ys 0 ⟨lg call13 (gQ _ _ _ hv24) 51⟩ ?_
 refine ym 0 ?_
 refine zC 1 ?_
 refine ya 1 ?_
 refine bH [1,2,51,8,11,13] ?_
 refine aX hn 2 [1,2,51,8,11,49] ?_
 refine zc h rfl (fun h => ?_) (fun h => ?_)
 refine aX hn 3 [51,6,7] ?_
 refine aC ?_
 refine aB [1,2] (by kernel_rfl) (es':=[(_,_),(_,_)]) rfl ?_
 refine aV (am (am (aV (am ?_))))
 have h:=hr37 _ (ho38 _ (zi h).symm).symm
 obtain rfl:=zi h
 exact aE hio rfl (.tmp _ _ (.tmp _ _ .nil)) rfl rfl
 refine aA (br (ai ?_))
 obtain ⟨v26,hv26,h⟩:=zn h
 refine yx hn 1 ?_
 refine ys 0 ⟨lb hv26⟩ ?_
 refine yw [11] 1 ?_
 refine ye [1,2,51,8,11] ?_
 exact bC _ (zi h).symm rfl
 refine bk (aD (aD (bo ?_)))
 refine aB [2] (by kernel_rfl) (es':=[(_,_)]) rfl ?_
 exact hl36 _ (ho38 _ (zi h).symm).symm
 rintro u15 hl16 hr17 ⟨s11,s12⟩ rr20 h ho18
 refine aX hn 1 [1,2,51,8,18,19,20,21] ?_
 refine ag ?_
 refine zc h rfl (fun h => ?_) (fun h => ?_)
 refine aA ?_
 refine ai (ag ?_)
 refine aP (ag ?_)
 obtain ⟨v4,hv4,v5,hv5,h⟩:=fK h
 refine yx hn 0 ?_
 refine ys 0 ⟨lI hv4⟩ ?_
 refine yS (.agg (ae.c v5 [])) 0 ⟨dX _ _ _ _ _ _ _ _ underlying46 rfl eC rfl rfl (eY ae.ilen hv5) (.cons (.v _) (.cons (.v _) (.cons (.v _) (.cons (.fl _ _ rfl) (.cons (.fl _ _ rfl) (.cons (.v _) (.cons (.v _) (.cons (.v _) (.nil))))))))) rfl (by decide)⟩ ?_
 refine yS (.box 46 [vb false,vs z0,vs z0,vz,vz,vb false,vs z0,vi 0]) 1 ⟨oA (bu _ _ ks)⟩ ?_
 refine bH [1,2,51,8,18,19,20,10] ?_
 refine aX hn 6 [1,2,51,8,18,19,20,10] ?_
 obtain ⟨v6,hv6,h⟩:=zn h
 refine yx hn 0 ?_
 refine ym 1 ?_
 refine yS (.fr (.own 46) true 8 (flatten (map ae.ienc ([(ae.mk (aj.mk v5.Ld.Lh v5.Ld.Lf v5.Ld.Lc) v5.To v5.Lb false z0 0)])))) 0 ⟨pJ _ _ _ 8 (.agg #[.bool false,.string ByteArray.empty,.string ByteArray.empty,.slice none 0 0,.slice none 0 0,.bool false,.string ByteArray.empty,.int .i64 0]) true _ _ underlying22 eC ks rfl rfl (.cons (.v _) (.cons (.v _) (.cons (.v _) (.cons (.shr _ _ rfl rfl) (.cons (.shr _ _ rfl rfl) (.cons (.v _) (.cons (.v _) (.cons (.v _) (.nil))))))))) rfl (by decide) (by decide)⟩ ?_
 refine yk [27] [29] ?_
 refine pX (27,.any) (30,.fr (.own 46) true 8 (flatten (map ae.ienc v6))) 0 ⟨qf _ _ _ _ _ Dq rfl rfl (ei ae.ilen _) (ei ae.ilen _) hv6 (lu (jb hv6)) (by decide) (by decide)⟩ ?_
 refine ya 0 ?_
 refine ye [1,2,51,18,19,20,8] ?_
 refine br (ai ?_)
 obtain ⟨v7,hv7,h⟩:=zn h
 refine yx hn 0 ?_
 refine ys 0 ⟨lb hv7⟩ ?_
 refine yw [20] 1 ?_
 refine ye [1,2,51,18,19,8,20] ?_
 refine aB [0,1,2,5,3,4,6] (by kernel_rfl) (es':=[(_,_),(_,_),(_,_),(_,_),(_,_),(_,_),(_,_)]) rfl ?_
 exact bC _ (zi h).symm rfl
 refine bk (aD (aD (bo ?_)))
 refine aB [0,1,2,3] (by kernel_rfl) (es':=[(_,_),(_,_),(_,_),(_,_)]) rfl ?_
 exact hl16 _ (ho18 _ (zi h).symm).symm
theorem mr (m:ae) (r:ae) (h:Sh.dx m=some r):cl Tryz.prog 26 [.agg [.v (.bool m.Ld.Lh),.v (.string m.Ld.Lf),.v (.string m.Ld.Lc),.fl .shr 3 (flatten (map aj.enc m.To)),.fl .shr 1 (map (int .u8) m.Lb),.v (.bool m.Lk),.v (.string m.Le),.v (.int .i64 m.At)]] (.agg [.v (.bool r.Ld.Lh),.v (.string r.Ld.Lf),.v (.string r.Ld.Lc),.fl (.own 43) 3 (flatten (map aj.enc r.To)),.fl (.own 5) 1 (map (int .u8) r.Lb),.v (.bool r.Lk),.v (.string r.Le),.v (.int .i64 r.At)]):=by
 unfold Sh.dx at h
 refine yO 12 func26 fun g0 hn hio => ?_
 refine gh hn 1 ?_
 refine yS (.box 46 [vb false,vs z0,vs z0,vz,vz,vb false,vs z0,vi 0]) 0 ⟨oA (bu _ _ ks)⟩ ?_
 refine bH [1,2] ?_
 refine ag ?_
 obtain ⟨v1,hv1,v2,hv2,h⟩:=fK h
 refine wb [[1],[3,1],[1],[5,1]] ?_
 refine wN [6] ?_
 refine wo [[1],[8,1]] ⟨lk call47 (il _ _ hv1)⟩ ?_
 refine wN [9] ?_
 refine wo [] ⟨lk call12 (gU _ _ hv2)⟩ ?_
 refine wK [7,10] [4] ?_
 refine wt [(11,.agg [vb m.Ld.Lh,vs m.Ld.Lf,vs m.Ld.Lc,.fl (.own 43) 3 (flatten (map aj.enc v1)),.fl (.own 5) 1 (map (int .u8) v2),vb false,vs z0,vi 0])] [] ⟨bQ _ _ _ _ [3,1,1,1,1,1] _ _ underlying46 ks (BP _ underlying46) (.copy _ (.take _ _ (.take _ _ kP.nil))) rfl rfl rfl⟩ ?_
 refine wK [11,2] [] ?_
 refine wt [(2,.box 46 [vb m.Ld.Lh,vs m.Ld.Lf,vs m.Ld.Lc,.fl (.own 43) 3 (flatten (map aj.enc v1)),.fl (.own 5) 1 (map (int .u8) v2),vb false,vs z0,vi 0])] [] ⟨aR _ _ _ _ _ _ _ _ eC rfl rfl rfl (zl rfl) rfl rfl⟩ ?_
 refine sI hn [2] ?_
 refine aC ?_
 obtain rfl:=zi h
 exact aE hio rfl (.cellA _ _ _ _ underlying46 rfl eC .nil) rfl rfl
theorem nH (l:(List ae)) (origin:Int) (number:Int) (r:Int) (h:Sh.fF l origin number=some r):cl Tryz.prog 18 [.fr .shr true 8 (flatten (map ae.ienc l)),.v (.int .i64 origin),.v (.int .i64 number)] (.v (.int .i64 r)):=by
 unfold Sh.fF at h
 refine yO 50 func18 fun g0 hn hio => ?_
 refine aX hn 1 [0,1,2] ?_
 refine aX hn 1 [0,1,2,7] ?_
 refine ag ?_
 refine aX hn 1 [0,1,2,7,8] ?_
 refine aY h (fun ((s92,s93):Int×Int)=>[(0,.fr .shr true 8 (flatten (map ae.ienc l))),(1,vi origin),(2,vi number),(7,vi s92),(8,vi s93)]) (fun (s135:Int)=>[(7,vi s135)]) ?_ ?_
 rintro s135 h
 refine ai ?_
 refine aX hn 2 [6] ?_
 refine aC ?_
 obtain rfl:=zi h
 exact aE hio rfl (.tmp _ _ .nil) rfl rfl
 rintro u136 hl137 hr138 ⟨s92,s93⟩ rr141 h ho139
 refine ag (ag ?_)
 refine aM h (fun (s142:Bool)=>[(0,.fr .shr true 8 (flatten (map ae.ienc l))),(1,vi origin),(2,vi number),(7,vi s92),(8,vi s93),(20,vb s142)]) ?_ ?_
 rintro s142 h
 refine ai ?_
 refine zc h rfl (fun h => ?_) (fun h => ?_)
 refine aA ?_
 refine ai (ag ?_)
 refine aM h (fun (s163:Int)=>[(0,.fr .shr true 8 (flatten (map ae.ienc l))),(1,vi origin),(2,vi number),(8,vi s93),(7,vi s163)]) ?_ ?_
 rintro s163 h
 refine ai ?_
 obtain ⟨v48,hv48,h⟩:=zn h
 refine yx hn 1 ?_
 refine ys 0 ⟨lb hv48⟩ ?_
 refine yw [8] 1 ?_
 refine ye [0,1,2,7,8] ?_
 exact bC _ (zi h).symm rfl
 intro u164 h hl165 hr166
 refine aP ?_
 refine gh hn 2 ?_
 refine yS (.agg [vi origin,vi number,vz]) 0 ⟨bQ _ _ _ _ [1,1,1] _ _ underlying24 jD (oH _ underlying24) (.copy _ (.copy _ kP.nil)) rfl rfl rfl⟩ ?_
 refine yS (.box 24 [vi 0,vi 0,vz]) 1 ⟨oA (bu _ _ jD)⟩ ?_
 refine bH [0,1,2,7,8,9] ?_
 refine ag ?_
 refine aX hn 1 [0,1,2,7,8,9,10] ?_
 refine gX (fs:=[(0,.fr .shr true 8 (flatten (map ae.ienc l))),(1,vi origin),(2,vi number),(7,vi s92),(8,vi s93),(9,.box 24 [vi origin,vi number,.fr (.own 46) false 8 (flatten (map ae.ienc []))]),(10,vi 0)]) (.same _ (.same _ (.same _ (.same _ (.same _ (.box _ _ (ay (aJ _) (ay (aJ _) (ay (dB 46 false 8) (cr)))) rfl (.same _ .nil))))))) ?_
 refine aY h (fun ((s171,s172):(List ae)×Int)=>[(0,.fr .shr true 8 (flatten (map ae.ienc l))),(1,vi origin),(2,vi number),(7,vi s92),(8,vi s93),(9,.box 24 [vi origin,vi number,.fr (.own 46) false 8 (flatten (map ae.ienc s171))]),(10,vi s172)]) (fun (s174:(List ae))=>[(0,.fr .shr true 8 (flatten (map ae.ienc l))),(1,vi origin),(2,vi number),(7,vi s92),(8,vi s93),(9,.box 24 [vi origin,vi number,.fr (.own 46) false 8 (flatten (map ae.ienc s174))])]) ?_ ?_
 rintro s174 h
 refine ai (ag ?_)
 obtain ⟨v26,hv26,h⟩:=zn h
 refine yx hn 0 ?_
 refine yk [9] [] ?_
 refine yt (42,.agg [vi origin,vi number,.fr (.own 46) false 8 (flatten (map ae.ienc s174))]) 0 ⟨aT _ _ _ _ underlying24 rfl ed rfl rfl⟩ ?_
 refine ys 0 ⟨lk call14 (eQ _ _ hv26)⟩ ?_
 refine ym 0 ?_
 refine zC 1 ?_
 refine ya 1 ?_
 refine bH [0,1,2,7,8,12] ?_
 refine aX hn 2 [0,1,2,7,8,47] ?_
 refine zc h rfl (fun h => ?_) (fun h => ?_)
 refine yx hn 1 ?_
 refine yw [7] 1 ?_
 refine ye [0,1,2,8,7] ?_
 refine br ?_
 exact hl165 _ (zi h).symm
 refine aA (br ?_)
 refine aB [0,1,2,4,3] (by kernel_rfl) (es':=[(_,_),(_,_),(_,_),(_,_),(_,_)]) rfl ?_
 exact hl165 _ (zi h).symm
 rintro u175 hl176 hr177 ⟨s171,s172⟩ rr180 h ho178
 refine ag ?_
 refine aX hn 3 [0,1,2,7,8,9,10,28] ?_
 refine zc h rfl (fun h => ?_) (fun h => ?_)
 refine aA ?_
 refine ai (ag ?_)
 refine aP ?_
 obtain ⟨v7,hv7,v8,hv8,v9,hv9,v10,hv10,h⟩:=ov h
 refine wb [[9],[31,9],[0],[10]] ?_
 refine wN [33,34] ?_
 refine wo [] ⟨lI hv7⟩ ?_
 refine wN [35,33] ?_
 refine wS (.agg (ae.c v8 [])) [] ⟨dX _ _ _ _ _ _ _ _ underlying46 rfl eC rfl rfl (eY ae.ilen hv8) (.cons (.v _) (.cons (.v _) (.cons (.v _) (.cons (.fl _ _ rfl) (.cons (.fl _ _ rfl) (.cons (.v _) (.cons (.v _) (.cons (.v _) (.nil))))))))) rfl (by decide)⟩ ?_
 refine wN [36] ?_
 refine wo [] ⟨lk call26 (mr _ _ hv9)⟩ ?_
 refine wK [37] [] ?_
 refine wt [(38,.fr (.own 46) false 8 (flatten (map ae.ienc [(ae.mk (aj.mk v9.Ld.Lh v9.Ld.Lf v9.Ld.Lc) v9.To v9.Lb v9.Lk v9.Le v9.At)])))] [] ⟨fZ _ _ _ 8 (.agg #[.bool false,.string ByteArray.empty,.string ByteArray.empty,.slice none 0 0,.slice none 0 0,.bool false,.string ByteArray.empty,.int .i64 0]) false _ _ underlying22 eC ks rfl (.cons (.v _) (.cons (.v _) (.cons (.v _) (.cons (.ro _ _ rfl) (.cons (.ro _ _ rfl) (.cons (.v _) (.cons (.v _) (.cons (.v _) (.nil))))))))) rfl (by decide) (by decide)⟩ ?_
 refine wK [9] [32,38] ?_
 refine wt [(9,.box 24 [vi origin,vi number,.any]),(39,.fr (.own 46) false 8 (flatten (map ae.ienc v10)))] [[9]] ⟨mS _ 39 9 2 _ _ Dq rfl rfl (zl rfl) rfl (ei ae.ilen _) (ei ae.ilen _) hv10 (lu (jb hv10)) (by decide) (by decide) (by decide) rfl rfl⟩ ?_
 refine wK [32,39,9] [40] ?_
 refine wt [(9,.box 24 [vi origin,vi number,.fr (.own 46) false 8 (flatten (map ae.ienc v10))])] [] ⟨bD.drop [_] (aR _ _ _ _ _ _ _ _ Ig rfl rfl rfl (zl rfl) rfl rfl)⟩ ?_
 refine we hn [0,1,2,7,8,9,10] ?_
 refine br (ai ?_)
 obtain ⟨v11,hv11,h⟩:=zn h
 refine yx hn 1 ?_
 refine ys 0 ⟨lb hv11⟩ ?_
 refine yw [10] 1 ?_
 refine ye [0,1,2,7,8,9,10] ?_
 exact bC _ (zi h).symm rfl
 refine bk (aD (aD (bo ?_)))
 refine aB [0,1,2,3,4,5] (by kernel_rfl) (es':=[(_,_),(_,_),(_,_),(_,_),(_,_),(_,_)]) rfl ?_
 exact hl176 _ (ho178 _ (zi h).symm).symm
 refine bk (aD (aD (bo ?_)))
 refine aB [3] (by kernel_rfl) (es':=[(_,_)]) rfl ?_
 exact hl137 _ (ho139 _ (zi h).symm).symm
 intro u143 h hl144 hr145
 refine au h (fun hg3_4 h => ?_) (fun hg3_4 h => ?_)
 refine yx hn 5 ?_
 refine yd hg3_4 3 ?_
 refine ye [0,1,2,7,8,20] ?_
 exact hl144 _ (zi h).symm
 refine yx hn 5 ?_
 refine yd hg3_4 3 ?_
 refine ye [0,1,2,7,8,20] ?_
 exact hl144 _ (zi h).symm
theorem dj (a:aj) (b:aj) (r:Bool) (h:Sh.ep a b=some r):cl Tryz.prog 45 [.agg [.v (.bool a.Lh),.v (.string a.Lf),.v (.string a.Lc)],.agg [.v (.bool b.Lh),.v (.string b.Lf),.v (.string b.Lc)]] (.v (.bool r)):=by
 unfold Sh.ep at h
 refine yO 24 func45 fun g0 hn hio => ?_
 refine aX hn 3 [2,3] ?_
 refine ag ?_
 refine aM h (fun (s2:Bool)=>[(4,vb s2)]) ?_ ?_
 rintro s2 h
 refine ai (aC ?_)
 obtain rfl:=zi h
 exact aE hio rfl (.tmp _ _ .nil) rfl rfl
 intro u3 h hl4 hr5
 obtain ⟨v1,hv1,h⟩:=zn h
 refine au h (fun hg1_5 h => ?_) (fun hg1_5 h => ?_)
 refine au h (fun hg1_12 h => ?_) (fun hg1_12 h => ?_)
 refine yx hn 4 ?_
 refine yS (vb (a.Lh==b.Lh)) 1 ⟨pS _ _ _ _ underlying4 rfl rfl⟩ ?_
 refine yd hg1_5 7 ?_
 refine yd hg1_12 7 ?_
 refine ye [4] ?_
 exact hl4 _ (zi h).symm
 refine yx hn 4 ?_
 refine yS (vb (a.Lh==b.Lh)) 1 ⟨pS _ _ _ _ underlying4 rfl rfl⟩ ?_
 refine yd hg1_5 7 ?_
 refine yd hg1_12 7 ?_
 refine ye [4] ?_
 exact hl4 _ (zi h).symm
 refine yx hn 4 ?_
 refine yS (vb (a.Lh==b.Lh)) 1 ⟨pS _ _ _ _ underlying4 rfl rfl⟩ ?_
 refine yd hg1_5 14 ?_
 refine ye [4] ?_
 exact hl4 _ (zi h).symm
theorem eA (a:(List aj)) (b:(List aj)) (r:Bool) (h:Sh.fB a b=some r):cl Tryz.prog 46 [.fl .shr 3 (flatten (map aj.enc a)),.fl .shr 3 (flatten (map aj.enc b))] (.v (.bool r)):=by
 unfold Sh.fB at h
 refine yO 27 func46 fun g0 hn hio => ?_
 refine aX hn 1 [0,1] ?_
 refine ag ?_
 refine aX hn 5 [0,1,10] ?_
 refine zc h rfl (fun h => ?_) (fun h => ?_)
 refine aX hn 1 [4] ?_
 refine aC (am ?_)
 obtain rfl:=zi h
 exact aE hio rfl (.tmp _ _ .nil) rfl rfl
 refine aA ?_
 refine ai (ag ?_)
 refine aX hn 1 [0,1,5] ?_
 refine aY h (fun (s13:Int)=>[(0,.fl .shr 3 (flatten (map aj.enc a))),(1,.fl .shr 3 (flatten (map aj.enc b))),(5,vi s13)]) (fun (():Unit)=>[]) ?_ ?_
 rintro ⟨⟩ h
 refine ai ?_
 refine aX hn 1 [4] ?_
 refine aC ?_
 obtain rfl:=zi h
 exact aE hio rfl (.tmp _ _ .nil) rfl rfl
 rintro u16 hl17 hr18 s13 rr21 h ho19
 refine ag ?_
 refine aX hn 4 [0,1,5,14] ?_
 refine zc h rfl (fun h => ?_) (fun h => ?_)
 refine aA ?_
 refine ai (ag ?_)
 refine aP (ag ?_)
 obtain ⟨v3,hv3,v4,hv4,v5,hv5,v6,hv6,h⟩:=ov h
 obtain ⟨v7,hv7,h⟩:=zn h
 refine wb [[0],[5]] ?_
 refine wN [17,18] ?_
 refine wo [] ⟨lj hv3⟩ ?_
 refine wN [19,17] ?_
 refine wS (.agg [vb v4.Lh,vs v4.Lf,vs v4.Lc]) [[1],[5]] ⟨gY _ _ _ _ _ _ _ underlying43 rfl iG rfl rfl (jo aj.len hv4) rfl (by decide)⟩ ?_
 refine wN [21,22] ?_
 refine wo [] ⟨lj hv5⟩ ?_
 refine wN [23,21] ?_
 refine wS (.agg [vb v6.Lh,vs v6.Lf,vs v6.Lc]) [] ⟨gY _ _ _ _ _ _ _ underlying43 rfl iG rfl rfl (jo aj.len hv6) rfl (by decide)⟩ ?_
 refine wN [20,24] ?_
 refine wo [[25]] ⟨lk call45 (dj _ _ _ hv7)⟩ ?_
 refine sI hn [0,1,5,26] ?_
 refine zc h rfl (fun h => ?_) (fun h => ?_)
 refine aX hn 1 [4] ?_
 refine aC (aV (am (am (aV (am ?_)))))
 have h:=hr18 _ (ho19 _ (zi h).symm).symm
 obtain rfl:=zi h
 exact aE hio rfl (.tmp _ _ .nil) rfl rfl
 refine aA (br (ai ?_))
 obtain ⟨v9,hv9,h⟩:=zn h
 refine yx hn 1 ?_
 refine ys 0 ⟨lb hv9⟩ ?_
 refine yw [5] 1 ?_
 refine ye [0,1,5] ?_
 exact bC _ (zi h).symm rfl
 refine bk (aD (aD (bo ?_)))
 refine aB [] (by kernel_rfl) (es':=[]) rfl ?_
 exact hl17 _ (ho19 _ (zi h).symm).symm
theorem km (a:ae) (b:ae) (r:Bool) (h:Sh.eu a b=some r):cl Tryz.prog 23 [.agg [.v (.bool a.Ld.Lh),.v (.string a.Ld.Lf),.v (.string a.Ld.Lc),.fl .shr 3 (flatten (map aj.enc a.To)),.fl .shr 1 (map (int .u8) a.Lb),.v (.bool a.Lk),.v (.string a.Le),.v (.int .i64 a.At)],.agg [.v (.bool b.Ld.Lh),.v (.string b.Ld.Lf),.v (.string b.Ld.Lc),.fl .shr 3 (flatten (map aj.enc b.To)),.fl .shr 1 (map (int .u8) b.Lb),.v (.bool b.Lk),.v (.string b.Le),.v (.int .i64 b.At)]] (.v (.bool r)):=by
 unfold Sh.eu at h
 refine yO 45 func23 fun g0 hn hio => ?_
 refine aX hn 3 [2,3] ?_
 refine ag ?_
 refine aM h (fun (s5:Bool)=>[(4,vb s5)]) ?_ ?_
 rintro s5 h
 refine ai (aC ?_)
 obtain rfl:=zi h
 exact aE hio rfl (.tmp _ _ .nil) rfl rfl
 intro u6 h hl7 hr8
 obtain ⟨v1,hv1,h⟩:=zn h
 refine au h (fun hg1_5 h => ?_) (fun hg1_5 h => ?_)
 obtain ⟨v2,hv2,h⟩:=zn h
 refine au h (fun hg1_12 h => ?_) (fun hg1_12 h => ?_)
 obtain ⟨v3,hv3,h⟩:=zn h
 refine au h (fun hg1_19 h => ?_) (fun hg1_19 h => ?_)
 obtain ⟨v4,hv4,h⟩:=zn h
 refine au h (fun hg1_26 h => ?_) (fun hg1_26 h => ?_)
 refine au h (fun hg1_33 h => ?_) (fun hg1_33 h => ?_)
 refine yx hn 4 ?_
 refine ys 1 ⟨lk call45 (dj _ _ _ hv1)⟩ ?_
 refine yd hg1_5 4 ?_
 refine ys 2 ⟨lk call46 (eA _ _ _ hv2)⟩ ?_
 refine yd hg1_12 4 ?_
 refine ys 2 ⟨lk call21 (bE _ _ _ hv3)⟩ ?_
 refine yd hg1_19 4 ?_
 refine yS (vb (a.Lk==b.Lk)) 2 ⟨pS _ _ _ _ underlying4 rfl rfl⟩ ?_
 refine yd hg1_26 7 ?_
 refine yd hg1_33 7 ?_
 refine ye [4] ?_
 exact hl7 _ (zi h).symm
 refine yx hn 4 ?_
 refine ys 1 ⟨lk call45 (dj _ _ _ hv1)⟩ ?_
 refine yd hg1_5 4 ?_
 refine ys 2 ⟨lk call46 (eA _ _ _ hv2)⟩ ?_
 refine yd hg1_12 4 ?_
 refine ys 2 ⟨lk call21 (bE _ _ _ hv3)⟩ ?_
 refine yd hg1_19 4 ?_
 refine yS (vb (a.Lk==b.Lk)) 2 ⟨pS _ _ _ _ underlying4 rfl rfl⟩ ?_
 refine yd hg1_26 7 ?_
 refine yd hg1_33 7 ?_
 refine ye [4] ?_
 exact hl7 _ (zi h).symm
 refine yx hn 4 ?_
 refine ys 1 ⟨lk call45 (dj _ _ _ hv1)⟩ ?_
 refine yd hg1_5 4 ?_
 refine ys 2 ⟨lk call46 (eA _ _ _ hv2)⟩ ?_
 refine yd hg1_12 4 ?_
 refine ys 2 ⟨lk call21 (bE _ _ _ hv3)⟩ ?_
 refine yd hg1_19 4 ?_
 refine yS (vb (a.Lk==b.Lk)) 2 ⟨pS _ _ _ _ underlying4 rfl rfl⟩ ?_
 refine yd hg1_26 14 ?_
 refine ye [4] ?_
 exact hl7 _ (zi h).symm
 refine yx hn 4 ?_
 refine ys 1 ⟨lk call45 (dj _ _ _ hv1)⟩ ?_
 refine yd hg1_5 4 ?_
 refine ys 2 ⟨lk call46 (eA _ _ _ hv2)⟩ ?_
 refine yd hg1_12 4 ?_
 refine ys 2 ⟨lk call21 (bE _ _ _ hv3)⟩ ?_
 refine yd hg1_19 21 ?_
 refine ye [4] ?_
 exact hl7 _ (zi h).symm
 refine yx hn 4 ?_
 refine ys 1 ⟨lk call45 (dj _ _ _ hv1)⟩ ?_
 refine yd hg1_5 4 ?_
 refine ys 2 ⟨lk call46 (eA _ _ _ hv2)⟩ ?_
 refine yd hg1_12 28 ?_
 refine ye [4] ?_
 exact hl7 _ (zi h).symm
 refine yx hn 4 ?_
 refine ys 1 ⟨lk call45 (dj _ _ _ hv1)⟩ ?_
 refine yd hg1_5 35 ?_
 refine ye [4] ?_
 exact hl7 _ (zi h).symm
end Go.Proofs.YtglabbpbianmnaaGreatDoor
