import Derived.Test.YtglabbpbianmnaaGreatDoorOkc4
set_option linter.unusedVariables false
set_option linter.unusedSimpArgs false
set_option maxHeartbeats 1000000
namespace Go.Proofs.YtglabbpbianmnaaGreatDoor
open Go.Abs Go.Abs.Sh Tryz
open List (map flatten)
open Value (int)
theorem lE (mx:Int) (c:(List Int)) (r:(ae×(List Int)×Bool)) (h:Sh.cc c=some r):kF Tryz.prog (GL mx) 59 [.fl .ro 1 (map (int .u8) c)] (.tup [.agg [.v (.bool r.1.Ld.Lh),.v (.string r.1.Ld.Lf),.v (.string r.1.Ld.Lc),.fl .ro 3 (flatten (map aj.enc r.1.To)),.fl .ro 1 (map (int .u8) r.1.Lb),.v (.bool r.1.Lk),.v (.string r.1.Le),.v (.int .i64 r.1.At)],.fl .ro 1 (map (int .u8) r.2.1),.v (.bool r.2.2)]):=by
 unfold Sh.cc at h
 refine yG 65 func59 fun g0 hn hio => ?_
 refine gh hn 0 ?_
 refine yS (.box 46 [vb false,vs z0,vs z0,vz,vz,vb false,vs z0,vi 0]) 2 ⟨oA (bu _ _ ks)⟩ ?_
 refine bH [0,65,2] ?_
 refine ag ?_
 obtain ⟨v1,hv1,h⟩:=zn h
 refine yx hn 1 ?_
 refine yS (.tup [.agg [vb v1.1.Lh,vs v1.1.Lf,vs v1.1.Lc],.fl .ro 1 (map (int .u8) v1.2.1),vb v1.2.2]) 0 ⟨ig _ _ 65 79 _ _ rfl call79 rfl rfl (fun _ h=>h) (iF mx c (⟨#[77,65,73,76,32,70,82,79,77,58]⟩:Ll) _ hv1) rfl rfl⟩ ?_
 refine ym 0 ?_
 refine yS (.agg [vb v1.1.Lh,vs v1.1.Lf,vs v1.1.Lc]) 4 ⟨eK _ _ _ _ _ _ rfl rfl (zl rfl) rfl rfl⟩ ?_
 refine yw [0] 2 ?_
 refine bH [65,2,0,4] ?_
 refine ag ?_
 refine aX hn 2 [65,2,0,19] ?_
 refine zc h rfl (fun h => ?_) (fun h => ?_)
 refine gh hn 0 ?_
 refine yS (.agg [vb false,vs z0,vs z0,vz,vz,vb false,vs z0,vi 0]) 3 ⟨bQ _ _ _ _ [3,1,1,1,1,1] _ _ underlying46 ks (BP _ underlying46) kP.nil rfl rfl rfl⟩ ?_
 refine bH [65,2,3,4] ?_
 refine aC ?_
 refine aB [1,2,3] (by kernel_rfl) (es':=[(_,_),(_,_),(_,_)]) rfl ?_
 refine di (fs:=[(2,.box 46 [vb false,vs z0,vs z0,.fl (.own 43) 3 (flatten (map aj.enc [])),.fl (.own 5) 1 (map (int .u8) []),vb false,vs z0,vi 0]),(3,.fl (.own 5) 1 (map (int .u8) [])),(4,vb false)]) (.box _ _ (ay (aJ _) (ay (aJ _) (ay (aJ _) (ay (cd 43 3) (ay (cd 5 1) (ay (aJ _) (ay (aJ _) (ay (aJ _) (cr))))))))) rfl (.sub _ (cd 5 1) rfl (.same _ .nil))) ?_
 refine kN 0 hio (es':=[(2,.box 46 [.v (.bool false),.v (.string (⟨#[]⟩:Ll)),.v (.string (⟨#[]⟩:Ll)),.fl .ro 3 (flatten (map aj.enc [])),.fl .ro 1 (map (int .u8) []),.v (.bool false),.v (.string (⟨#[]⟩:Ll)),.v (.int .i64 0)]),(3,.fl (.own 5) 1 (map (int .u8) [])),(4,.v (.bool false))]) rfl ?_
 refine kN 1 hio (es':=[(2,.box 46 [.v (.bool false),.v (.string (⟨#[]⟩:Ll)),.v (.string (⟨#[]⟩:Ll)),.fl .ro 3 (flatten (map aj.enc [])),.fl .ro 1 (map (int .u8) []),.v (.bool false),.v (.string (⟨#[]⟩:Ll)),.v (.int .i64 0)]),(3,.fl .ro 1 (map (int .u8) [])),(4,.v (.bool false))]) rfl ?_
 refine am ?_
 obtain rfl:=zi h
 exact aE hio rfl (.cellA _ _ _ _ underlying46 rfl eC (.tmp _ _ (.tmp _ _ .nil))) rfl rfl
 refine aA ?_
 refine ai (ag ?_)
 refine jQ [0,1,2] (by kernel_rfl) (es':=[(_,_),(_,_),(_,_)]) rfl ?_
 refine gX (fs:=[(65,.glob (GL mx)),(2,.box 46 [vb v1.1.Lh,vs v1.1.Lf,vs v1.1.Lc,.fl (.own 43) 3 (flatten (map aj.enc [])),vz,vb false,vs z0,vi 0]),(0,.fl .ro 1 (map (int .u8) v1.2.1))]) (.same _ (.box _ _ (ay (aJ _) (ay (aJ _) (ay (aJ _) (ay (cd 43 3) (ay (aJ _) (ay (aJ _) (ay (aJ _) (ay (aJ _) (cr))))))))) rfl (.same _ .nil))) ?_
 refine aY h (fun ((s37,s38):(List aj)×(List Int))=>[(65,.glob (GL mx)),(2,.box 46 [vb v1.1.Lh,vs v1.1.Lf,vs v1.1.Lc,.fl (.own 43) 3 (flatten (map aj.enc s37)),vz,vb false,vs z0,vi 0]),(0,.fl .ro 1 (map (int .u8) s38))]) (fun ((s41,s42):(List aj)×(List Int))=>[(65,.glob (GL mx)),(2,.box 46 [vb v1.1.Lh,vs v1.1.Lf,vs v1.1.Lc,.fl (.own 43) 3 (flatten (map aj.enc s41)),vz,vb false,vs z0,vi 0]),(0,.fl .ro 1 (map (int .u8) s42))]) ?_ ?_
 rintro ⟨s41,s42⟩ h
 refine ai (ag ?_)
 obtain ⟨v25,hv25,h⟩:=zn h
 refine yx hn 1 ?_
 refine yS (.fl (.own 5) 1 (map (int .u8) [68,65,84,65,13,10])) 0 ⟨cb _ _ 1 (.int .u8 0) (map (int .u8) [68,65,84,65,13,10]) [(0,.int .u8 68),(1,.int .u8 65),(2,.int .u8 84),(3,.int .u8 65),(4,.int .u8 13),(5,.int .u8 10)] underlying25 nM tj (fun _ V w o a hv hes=>by simp only [List.map_toArray,List.map_cons,List.map_nil]; try rfl) (fv (by simp [Instr.fill,Value.cells]; rfl) (by simp [List.range,List.range.loop] <;> rfl)) (by simp [Value.oneCell']) rfl (by decide) (by decide) (by decide)⟩ ?_
 refine yk [42] [] ?_
 refine yt (43,.fl .ro 1 (map (int .u8) [68,65,84,65,13,10])) 0 ⟨gA _ _ _ underlying25 underlying5 (by intro h; cases h)⟩ ?_
 refine ys 0 ⟨lr call80 (mb _ _ _ hv25)⟩ ?_
 refine ym 2 ?_
 refine yw [0] 2 ?_
 refine bH [65,2,0,4] ?_
 refine ag ?_
 refine aX hn 2 [65,2,0,48] ?_
 refine zc h rfl (fun h => ?_) (fun h => ?_)
 refine gh hn 0 ?_
 refine yS (.agg [vb false,vs z0,vs z0,vz,vz,vb false,vs z0,vi 0]) 3 ⟨bQ _ _ _ _ [3,1,1,1,1,1] _ _ underlying46 ks (BP _ underlying46) kP.nil rfl rfl rfl⟩ ?_
 refine bH [65,2,3,4] ?_
 refine aC ?_
 refine aB [1,2,3] (by kernel_rfl) (es':=[(_,_),(_,_),(_,_)]) rfl ?_
 refine di (fs:=[(2,.box 46 [vb false,vs z0,vs z0,.fl (.own 43) 3 (flatten (map aj.enc [])),.fl (.own 5) 1 (map (int .u8) []),vb false,vs z0,vi 0]),(3,.fl (.own 5) 1 (map (int .u8) [])),(4,vb false)]) (.box _ _ (ay (aJ _) (ay (aJ _) (ay (aJ _) (ay (cd 43 3) (ay (cd 5 1) (ay (aJ _) (ay (aJ _) (ay (aJ _) (cr))))))))) rfl (.sub _ (cd 5 1) rfl (.same _ .nil))) ?_
 refine kN 0 hio (es':=[(2,.box 46 [.v (.bool false),.v (.string (⟨#[]⟩:Ll)),.v (.string (⟨#[]⟩:Ll)),.fl .ro 3 (flatten (map aj.enc [])),.fl .ro 1 (map (int .u8) []),.v (.bool false),.v (.string (⟨#[]⟩:Ll)),.v (.int .i64 0)]),(3,.fl (.own 5) 1 (map (int .u8) [])),(4,.v (.bool false))]) rfl ?_
 refine kN 1 hio (es':=[(2,.box 46 [.v (.bool false),.v (.string (⟨#[]⟩:Ll)),.v (.string (⟨#[]⟩:Ll)),.fl .ro 3 (flatten (map aj.enc [])),.fl .ro 1 (map (int .u8) []),.v (.bool false),.v (.string (⟨#[]⟩:Ll)),.v (.int .i64 0)]),(3,.fl .ro 1 (map (int .u8) [])),(4,.v (.bool false))]) rfl ?_
 refine am ?_
 obtain rfl:=zi h
 exact aE hio rfl (.cellA _ _ _ _ underlying46 rfl eC (.tmp _ _ (.tmp _ _ .nil))) rfl rfl
 refine aA ?_
 refine ai (ag ?_)
 obtain ⟨v27,hv27,h⟩:=zn h
 refine yx hn 1 ?_
 refine ys 0 ⟨lg call81 (tb _ _ _ hv27) 65⟩ ?_
 refine ym 0 ?_
 refine zC 2 ?_
 refine ya 2 ?_
 refine bH [65,2,0,8,9,10] ?_
 refine ag ?_
 refine aX hn 2 [65,2,0,8,9,57] ?_
 refine zc h rfl (fun h => ?_) (fun h => ?_)
 refine gh hn 0 ?_
 refine yS (.agg [vb false,vs z0,vs z0,vz,vz,vb false,vs z0,vi 0]) 3 ⟨bQ _ _ _ _ [3,1,1,1,1,1] _ _ underlying46 ks (BP _ underlying46) kP.nil rfl rfl rfl⟩ ?_
 refine bH [65,2,3,4] ?_
 refine aC ?_
 refine aB [1,2,3] (by kernel_rfl) (es':=[(_,_),(_,_),(_,_)]) rfl ?_
 refine di (fs:=[(2,.box 46 [vb false,vs z0,vs z0,.fl (.own 43) 3 (flatten (map aj.enc [])),.fl (.own 5) 1 (map (int .u8) []),vb false,vs z0,vi 0]),(3,.fl (.own 5) 1 (map (int .u8) [])),(4,vb false)]) (.box _ _ (ay (aJ _) (ay (aJ _) (ay (aJ _) (ay (cd 43 3) (ay (cd 5 1) (ay (aJ _) (ay (aJ _) (ay (aJ _) (cr))))))))) rfl (.sub _ (cd 5 1) rfl (.same _ .nil))) ?_
 refine kN 0 hio (es':=[(2,.box 46 [.v (.bool false),.v (.string (⟨#[]⟩:Ll)),.v (.string (⟨#[]⟩:Ll)),.fl .ro 3 (flatten (map aj.enc [])),.fl .ro 1 (map (int .u8) []),.v (.bool false),.v (.string (⟨#[]⟩:Ll)),.v (.int .i64 0)]),(3,.fl (.own 5) 1 (map (int .u8) [])),(4,.v (.bool false))]) rfl ?_
 refine kN 1 hio (es':=[(2,.box 46 [.v (.bool false),.v (.string (⟨#[]⟩:Ll)),.v (.string (⟨#[]⟩:Ll)),.fl .ro 3 (flatten (map aj.enc [])),.fl .ro 1 (map (int .u8) []),.v (.bool false),.v (.string (⟨#[]⟩:Ll)),.v (.int .i64 0)]),(3,.fl .ro 1 (map (int .u8) [])),(4,.v (.bool false))]) rfl ?_
 refine am ?_
 obtain rfl:=zi h
 exact aE hio rfl (.cellA _ _ _ _ underlying46 rfl eC (.tmp _ _ (.tmp _ _ .nil))) rfl rfl
 refine aA (ai ?_)
 refine gh hn 0 ?_
 refine ym 1 ?_
 refine yk [59,2] [60] ?_
 refine yt (2,.box 46 [vb v1.1.Lh,vs v1.1.Lf,vs v1.1.Lc,.fl (.own 43) 3 (flatten (map aj.enc s41)),.fl (.own 5) 1 (map (int .u8) v27.1),vb false,vs z0,vi 0]) 0 ⟨aR _ _ _ _ _ _ _ _ qX rfl rfl rfl (zl rfl) rfl rfl⟩ ?_
 refine bH [65,2,0,9] ?_
 refine ag ?_
 obtain ⟨v29,hv29,h⟩:=zn h
 refine wb [[2],[0],[9]] ?_
 refine wN [62,63] ?_
 refine wS (.fl .ro 1 (map (int .u8) v29)) [] ⟨ik _ _ _ v27.2.1 (v25.1.length:Int) _ underlying25 nM rfl rfl ⟨_,rfl⟩ rfl hv29⟩ ?_
 refine wK [61,2] [] ?_
 refine wt [(2,.box 46 [vb v1.1.Lh,vs v1.1.Lf,vs v1.1.Lc,.fl (.own 43) 3 (flatten (map aj.enc s41)),.fl (.own 5) 1 (map (int .u8) v27.1),vb false,vs z0,vi 0])] [[64],[]] ⟨bL _ _ _ 61 2 8 eC rfl rfl rfl rfl rfl (.eq _ (.eq _ (.eq _ (.same _ (.same _ (.eq _ (.eq _ (.eq _ (.nil _))))))))) rfl⟩ ?_
 refine sI hn [65,2,3,4] ?_
 refine aC ?_
 refine aB [1,2,3] (by kernel_rfl) (es':=[(_,_),(_,_),(_,_)]) rfl ?_
 refine kN 0 hio (es':=[(2,.box 46 [.v (.bool v1.1.Lh),.v (.string v1.1.Lf),.v (.string v1.1.Lc),.fl .ro 3 (flatten (map aj.enc s41)),.fl .ro 1 (map (int .u8) v27.1),.v (.bool false),.v (.string (⟨#[]⟩:Ll)),.v (.int .i64 0)]),(3,.fl .ro 1 (map (int .u8) v29)),(4,.v (.bool true))]) rfl ?_
 obtain rfl:=zi h
 exact aE hio rfl (.cellA _ _ _ _ underlying46 rfl eC (.tmp _ _ (.tmp _ _ .nil))) rfl rfl
 rintro u43 hl44 hr45 ⟨s37,s38⟩ rr48 h ho46
 refine ag ?_
 refine aX hn 4 [65,2,0,24] ?_
 refine zc h rfl (fun h => ?_) (fun h => ?_)
 refine aA (ai (aP (ag ?_)))
 obtain ⟨v4,hv4,h⟩:=zn h
 refine yx hn 1 ?_
 refine yS (.tup [.agg [vb v4.1.Lh,vs v4.1.Lf,vs v4.1.Lc],.fl .ro 1 (map (int .u8) v4.2.1),vb v4.2.2]) 0 ⟨ig _ _ 65 79 _ _ rfl call79 rfl rfl (fun _ h=>h) (iF mx s38 (⟨#[82,67,80,84,32,84,79,58]⟩:Ll) _ hv4) rfl rfl⟩ ?_
 refine ym 0 ?_
 refine yS (.agg [vb v4.1.Lh,vs v4.1.Lf,vs v4.1.Lc]) 2 ⟨eK _ _ _ _ _ _ rfl rfl (zl rfl) rfl rfl⟩ ?_
 refine yS (.box 43 [vb false,vs z0,vs z0]) 3 ⟨oA (bu _ _ jr)⟩ ?_
 refine bH [65,2,0,5,6,7] ?_
 refine ag ?_
 refine aX hn 2 [65,2,0,5,6,32] ?_
 refine zc h rfl (fun h => ?_) (fun h => ?_)
 refine bk (aD ?_)
 refine kZ (by decide) ?_
 refine aD (bo ?_)
 refine aB [0,1,2] (by kernel_rfl) (es':=[(_,_),(_,_),(_,_)]) rfl ?_
 exact hl44 _ (ho46 _ (zi h).symm).symm
 refine aA ?_
 refine ai (ag ?_)
 obtain ⟨v6,hv6,h⟩:=zn h
 refine yx hn 3 ?_
 refine yS (.fl (.own 43) 3 (flatten (map aj.enc [v4.1]))) 0 ⟨cb _ _ 3 (.agg #[.bool false,.string ByteArray.empty,.string ByteArray.empty]) (flatten (map aj.enc [v4.1])) [(0,.agg #[.bool v4.1.Lh,.string v4.1.Lf,.string v4.1.Lc])] underlying44 iG jr (fun _ V w o a hv hes=>by have e0:=CZ (ys:=[.bool v4.1.Lh,.string v4.1.Lf,.string v4.1.Lc]) hv hes (x := .tmp 35) rfl; simp only [List.map_toArray,List.map_cons,List.map_nil,e0]; try rfl) (fv (by simp [Instr.fill,Value.cells]; rfl) (by simp [List.range,List.range.loop,aj.enc] <;> rfl)) (by simp [Value.oneCell',aj.enc]) rfl (by decide) (by decide) (by decide)⟩ ?_
 refine yk [2] [34,36] ?_
 refine pX (2,.box 46 [vb v1.1.Lh,vs v1.1.Lf,vs v1.1.Lc,.any,vz,vb false,vs z0,vi 0]) (37,.fl (.own 43) 3 (flatten (map aj.enc v6))) 1 ⟨jz _ _ _ _ _ _ Gp rfl rfl (zl rfl) rfl (kx aj.len _) (kx aj.len _) hv6 (vP (jb hv6)) (Nat.ne_of_beq_eq_false rfl) rfl rfl⟩ ?_
 refine yw [34] 0 ?_
 refine yk [37,2] [38] ?_
 refine yt (2,.box 46 [vb v1.1.Lh,vs v1.1.Lf,vs v1.1.Lc,.fl (.own 43) 3 (flatten (map aj.enc v6)),vz,vb false,vs z0,vi 0]) 0 ⟨aR _ _ _ _ _ _ _ _ Gu rfl rfl rfl (zl rfl) rfl rfl⟩ ?_
 refine bH [65,2,6] ?_
 refine yy hn 2 [65,2,0] ?_
 refine br ?_
 exact bC _ (zi h).symm rfl
 refine bk (aD (aD (bo ?_)))
 refine aB [0,1,2] (by kernel_rfl) (es':=[(_,_),(_,_),(_,_)]) rfl ?_
 exact hl44 _ (ho46 _ (zi h).symm).symm
theorem lp (mx:Int) (c:(List Int)) (r:(List ae)) (h:Sh.ck c=some r):kF Tryz.prog (GL mx) 36 [.fl .ro 1 (map (int .u8) c)] (.fr (.own 46) false 8 (flatten (map ae.ienc r))):=by
 unfold Sh.ck at h
 refine yG 24 func36 fun g0 hn hio => ?_
 refine aX hn 1 [0,24] ?_
 refine aX hn 1 [0,24,3] ?_
 refine ag ?_
 refine gX (fs:=[(0,.fl .ro 1 (map (int .u8) c)),(24,.glob (GL mx)),(3,.fr (.own 46) false 8 (flatten (map ae.ienc [])))]) (.same _ (.same _ (.sub _ (dB 46 false 8) rfl .nil))) ?_
 refine aY h (fun ((s9,s10):(List Int)×(List ae))=>[(0,.fl .ro 1 (map (int .u8) s9)),(24,.glob (GL mx)),(3,.fr (.own 46) false 8 (flatten (map ae.ienc s10)))]) (fun (s13:(List ae))=>[(24,.glob (GL mx)),(3,.fr (.own 46) false 8 (flatten (map ae.ienc s13)))]) ?_ ?_
 rintro s13 h
 refine ai ?_
 refine gh hn 0 ?_
 refine ym 0 ?_
 refine ya 0 ?_
 refine bH [24,2] ?_
 refine aC ?_
 refine aB [1] (by kernel_rfl) (es':=[(_,_)]) rfl ?_
 obtain rfl:=zi h
 exact aE hio rfl (.tmp _ _ .nil) rfl rfl
 rintro u14 hl15 hr16 ⟨s9,s10⟩ rr19 h ho17
 refine ag ?_
 refine aX hn 3 [0,24,3,9] ?_
 refine zc h rfl (fun h => ?_) (fun h => ?_)
 refine aA (ai (aP (ag ?_)))
 obtain ⟨v2,hv2,h⟩:=zn h
 refine yx hn 1 ?_
 refine yS (.tup [.agg [vb v2.1.Ld.Lh,vs v2.1.Ld.Lf,vs v2.1.Ld.Lc,.fl .ro 3 (flatten (map aj.enc v2.1.To)),.fl .ro 1 (map (int .u8) v2.1.Lb),vb v2.1.Lk,vs v2.1.Le,vi v2.1.At],.fl .ro 1 (map (int .u8) v2.2.1),vb v2.2.2]) 0 ⟨ig _ _ 24 59 _ _ rfl call59 rfl rfl (fun _ h=>h) (lE mx s9 _ hv2) rfl rfl⟩ ?_
 refine ym 0 ?_
 refine yS (.agg [vb v2.1.Ld.Lh,vs v2.1.Ld.Lf,vs v2.1.Ld.Lc,.fl .ro 3 (flatten (map aj.enc v2.1.To)),.fl .ro 1 (map (int .u8) v2.1.Lb),vb v2.1.Lk,vs v2.1.Le,vi v2.1.At]) 2 ⟨eK _ _ _ _ _ _ rfl rfl (zl rfl) rfl rfl⟩ ?_
 refine yS (.box 46 [vb false,vs z0,vs z0,vz,vz,vb false,vs z0,vi 0]) 3 ⟨oA (bu _ _ ks)⟩ ?_
 refine bH [24,3,4,5,6] ?_
 refine ag ?_
 refine aX hn 2 [24,3,4,5,17] ?_
 refine zc h rfl (fun h => ?_) (fun h => ?_)
 refine bk (aD ?_)
 refine kZ (by decide) ?_
 refine aD (bo ?_)
 refine aB [0,1] (by kernel_rfl) (es':=[(_,_),(_,_)]) rfl ?_
 exact hl15 _ (ho17 _ (zi h).symm).symm
 refine aA ?_
 refine ai (ag ?_)
 obtain ⟨v4,hv4,h⟩:=zn h
 refine yx hn 0 ?_
 refine ym 1 ?_
 refine yS (.fr (.own 46) false 8 (flatten (map ae.ienc [(ae.mk (aj.mk v2.1.Ld.Lh v2.1.Ld.Lf v2.1.Ld.Lc) v2.1.To v2.1.Lb v2.1.Lk v2.1.Le v2.1.At)]))) 0 ⟨pJ _ _ _ 8 (.agg #[.bool false,.string ByteArray.empty,.string ByteArray.empty,.slice none 0 0,.slice none 0 0,.bool false,.string ByteArray.empty,.int .i64 0]) false _ _ underlying22 eC ks rfl rfl (.cons (.v _) (.cons (.v _) (.cons (.v _) (.cons (.ro _ _ rfl) (.cons (.ro _ _ rfl) (.cons (.v _) (.cons (.v _) (.cons (.v _) (.nil))))))))) rfl (by decide) (by decide)⟩ ?_
 refine yk [18] [20] ?_
 refine pX (18,.any) (21,.fr (.own 46) false 8 (flatten (map ae.ienc v4))) 0 ⟨qf _ _ _ _ _ Dq rfl rfl (ei ae.ilen _) (ei ae.ilen _) hv4 (lu (jb hv4)) (by decide) (by decide)⟩ ?_
 refine ya 0 ?_
 refine bH [24,5,3] ?_
 refine yy hn 2 [24,3,0] ?_
 refine br ?_
 refine aB [2,0,1] (by kernel_rfl) (es':=[(_,_),(_,_),(_,_)]) rfl ?_
 exact bC _ (zi h).symm rfl
 refine bk (aD (aD (bo ?_)))
 refine aB [1,2] (by kernel_rfl) (es':=[(_,_),(_,_)]) rfl ?_
 exact hl15 _ (ho17 _ (zi h).symm).symm
theorem kG (mx:Int) (t:(List Int)) (r:(az×Int)) (h:Sh.bO t=some r):kF Tryz.prog (GL mx) 15 [.fl .ro 1 (map (int .u8) t)] (.tup [.agg [.v (.int .i64 r.1.Lj),.v (.int .i64 r.1.Li),.fr (.own 46) false 8 (flatten (map ae.ienc r.1.Lg))],.v (.int .i64 r.2)]):=by
 unfold Sh.bO at h
 refine yG 68 func15 fun g0 hn hio => ?_
 refine gh hn 0 ?_
 refine yS (.box 24 [vi 0,vi 0,vz]) 1 ⟨oA (bu _ _ jD)⟩ ?_
 refine bH [0,68,2] ?_
 refine ag ?_
 obtain ⟨v1,hv1,h⟩:=zn h
 refine yx hn 1 ?_
 refine yS (.fl (.own 5) 1 (map (int .u8) [13,10])) 0 ⟨cb _ _ 1 (.int .u8 0) (map (int .u8) [13,10]) [(0,.int .u8 13),(1,.int .u8 10)] underlying25 nM tj (fun _ V w o a hv hes=>by simp only [List.map_toArray,List.map_cons,List.map_nil]; try rfl) (fv (by simp [Instr.fill,Value.cells]; rfl) (by simp [List.range,List.range.loop] <;> rfl)) (by simp [Value.oneCell']) rfl (by decide) (by decide) (by decide)⟩ ?_
 refine yk [14] [] ?_
 refine yt (15,.fl .ro 1 (map (int .u8) [13,10])) 0 ⟨gA _ _ _ underlying25 underlying5 (by intro h; cases h)⟩ ?_
 refine yS (.tup [.fl .ro 1 (map (int .u8) v1.1),.fl .ro 1 (map (int .u8) v1.2.1),vb v1.2.2]) 0 ⟨ig _ _ 68 34 _ _ rfl call34 rfl rfl (fun _ h=>h) (lR mx t [13,10] _ hv1) rfl rfl⟩ ?_
 refine ym 6 ?_
 refine bH [0,68,2,4,5,6] ?_
 refine ag ?_
 obtain ⟨v2,hv2,v3,hv3,h⟩:=fK h
 refine yx hn 1 ?_
 refine ys 0 ⟨lS hv2⟩ ?_
 refine ys 0 ⟨lk call35 (me _ _ hv3)⟩ ?_
 refine ym 0 ?_
 refine yS (.agg [vi v3.1.origin,vi v3.1.number,vi v3.1.size,vi v3.1.sum]) 1 ⟨eK _ _ _ _ _ _ rfl rfl (zl rfl) rfl rfl⟩ ?_
 refine yS (.box 66 [vi 0,vi 0,vi 0,vi 0]) 2 ⟨oA (bu _ _ Ay)⟩ ?_
 refine bH [0,68,2,5,6,7,8] ?_
 refine ag (ag ?_)
 refine aM h (fun (s4:Bool)=>[(0,.fl .ro 1 (map (int .u8) t)),(68,.glob (GL mx)),(2,.box 24 [vi 0,vi 0,vz]),(5,.fl .ro 1 (map (int .u8) v1.2.1)),(7,.box 66 [vi v3.1.origin,vi v3.1.number,vi v3.1.size,vi v3.1.sum]),(38,vb s4)]) ?_ ?_
 rintro s4 h
 refine ai ?_
 refine zc h rfl (fun h => ?_) (fun h => ?_)
 refine gh hn 0 ?_
 refine yS (.agg [vi 0,vi 0,vz]) 0 ⟨bQ _ _ _ _ [1,1,1] _ _ underlying24 jD (oH _ underlying24) kP.nil rfl rfl rfl⟩ ?_
 refine yk [39,2] [] ?_
 refine yt (2,.box 24 [vi 0,vi 0,vz]) 1 ⟨bL _ _ _ 39 2 3 ed rfl rfl rfl rfl rfl (.eq _ (.eq _ (.eq _ (.nil _)))) rfl⟩ ?_
 refine bH [68,2,3] ?_
 refine aC ?_
 refine aB [1,2] (by kernel_rfl) (es':=[(_,_),(_,_)]) rfl ?_
 refine di (fs:=[(2,.box 24 [vi 0,vi 0,.fr (.own 46) false 8 (flatten (map ae.ienc []))]),(3,vi 5)]) (.box _ _ (ay (aJ _) (ay (aJ _) (ay (dB 46 false 8) (cr)))) rfl (.same _ .nil)) ?_
 refine am ?_
 obtain rfl:=zi h
 exact aE hio rfl (.cellA _ _ _ _ underlying24 rfl ed (.tmp _ _ .nil)) rfl rfl
 refine aA ?_
 refine ai (ag ?_)
 refine ag ?_
 obtain ⟨v9,hv9,h⟩:=zn h
 refine wb [[5]] ?_
 refine wN [40] ?_
 refine wo [[7],[42,7],[41,43]] ⟨lk call31 (pw _ _ hv9)⟩ ?_
 refine sI hn [0,68,2,5,7,44] ?_
 refine zc h rfl (fun h => ?_) (fun h => ?_)
 refine gh hn 0 ?_
 refine yS (.agg [vi 0,vi 0,vz]) 0 ⟨bQ _ _ _ _ [1,1,1] _ _ underlying24 jD (oH _ underlying24) kP.nil rfl rfl rfl⟩ ?_
 refine yk [45,2] [] ?_
 refine yt (2,.box 24 [vi 0,vi 0,vz]) 1 ⟨bL _ _ _ 45 2 3 ed rfl rfl rfl rfl rfl (.eq _ (.eq _ (.eq _ (.nil _)))) rfl⟩ ?_
 refine bH [68,2,3] ?_
 refine aC ?_
 refine aB [1,2] (by kernel_rfl) (es':=[(_,_),(_,_)]) rfl ?_
 refine di (fs:=[(2,.box 24 [vi 0,vi 0,.fr (.own 46) false 8 (flatten (map ae.ienc []))]),(3,vi 6)]) (.box _ _ (ay (aJ _) (ay (aJ _) (ay (dB 46 false 8) (cr)))) rfl (.same _ .nil)) ?_
 refine am ?_
 obtain rfl:=zi h
 exact aE hio rfl (.cellA _ _ _ _ underlying24 rfl ed (.tmp _ _ .nil)) rfl rfl
 refine aA ?_
 refine ai (ag ?_)
 obtain ⟨v11,hv11,h⟩:=zn h
 refine wb [[7],[46,7],[7],[48,7],[5]] ?_
 refine wN [50,68] ?_
 refine wS (.fr (.own 46) false 8 (flatten (map ae.ienc v11))) [] ⟨ig _ _ 68 36 _ _ rfl call36 rfl rfl (fun _ h=>h) (lp mx v1.2.1 _ hv11) rfl rfl⟩ ?_
 refine wK [51] [47,49] ?_
 refine wt [(52,.agg [vi v3.1.origin,vi v3.1.number,.fr (.own 46) false 8 (flatten (map ae.ienc v11))])] [] ⟨bQ _ _ _ _ [1,1,1] _ _ underlying24 jD (oH _ underlying24) (.copy _ (.copy _ (.take _ _ kP.nil))) rfl rfl rfl⟩ ?_
 refine wN [] ?_
 refine wS (.box 24 [vi 0,vi 0,vz]) [] ⟨oA (bu _ _ jD)⟩ ?_
 refine wK [52,9] [] ?_
 refine wt [(9,.box 24 [vi v3.1.origin,vi v3.1.number,.fr (.own 46) false 8 (flatten (map ae.ienc v11))])] [] ⟨aR _ _ _ _ _ _ _ _ ed rfl rfl rfl (zl rfl) rfl rfl⟩ ?_
 refine sI hn [0,68,2,9] ?_
 refine ag ?_
 obtain ⟨v12,hv12,h⟩:=zn h
 refine yx hn 1 ?_
 refine ys 0 ⟨lg call13 (gQ _ _ _ hv12) 68⟩ ?_
 refine ym 0 ?_
 refine zC 1 ?_
 refine ya 1 ?_
 refine bH [0,68,2,9,10,11] ?_
 refine ag (ag ?_)
 refine aM h (fun (s14:Bool)=>[(68,.glob (GL mx)),(2,.box 24 [vi 0,vi 0,vz]),(9,.box 24 [vi v3.1.origin,vi v3.1.number,.fr (.own 46) false 8 (flatten (map ae.ienc v11))]),(65,vb s14)]) ?_ ?_
 rintro s14 h
 refine ai ?_
 refine zc h rfl (fun h => ?_) (fun h => ?_)
 refine gh hn 0 ?_
 refine yS (.agg [vi 0,vi 0,vz]) 0 ⟨bQ _ _ _ _ [1,1,1] _ _ underlying24 jD (oH _ underlying24) kP.nil rfl rfl rfl⟩ ?_
 refine yk [66,2] [] ?_
 refine yt (2,.box 24 [vi 0,vi 0,vz]) 1 ⟨bL _ _ _ 66 2 3 ed rfl rfl rfl rfl rfl (.eq _ (.eq _ (.eq _ (.nil _)))) rfl⟩ ?_
 refine bH [68,2,3] ?_
 refine aC ?_
 refine aB [1,2] (by kernel_rfl) (es':=[(_,_),(_,_)]) rfl ?_
 refine di (fs:=[(2,.box 24 [vi 0,vi 0,.fr (.own 46) false 8 (flatten (map ae.ienc []))]),(3,vi 5)]) (.box _ _ (ay (aJ _) (ay (aJ _) (ay (dB 46 false 8) (cr)))) rfl (.same _ .nil)) ?_
 refine am ?_
 obtain rfl:=zi h
 exact aE hio rfl (.cellA _ _ _ _ underlying24 rfl ed (.tmp _ _ .nil)) rfl rfl
 refine aA (ai ?_)
 refine gh hn 0 ?_
 refine yk [9] [] ?_
 refine yt (67,.agg [vi v3.1.origin,vi v3.1.number,.fr (.own 46) false 8 (flatten (map ae.ienc v11))]) 0 ⟨aT _ _ _ _ underlying24 rfl ed rfl rfl⟩ ?_
 refine yk [67,2] [] ?_
 refine yt (2,.box 24 [vi v3.1.origin,vi v3.1.number,.fr (.own 46) false 8 (flatten (map ae.ienc v11))]) 1 ⟨aR _ _ _ _ _ _ _ _ ed rfl rfl rfl (zl rfl) rfl rfl⟩ ?_
 refine bH [68,2,3] ?_
 refine aC ?_
 refine aB [1,2] (by kernel_rfl) (es':=[(_,_),(_,_)]) rfl ?_
 obtain rfl:=zi h
 exact aE hio rfl (.cellA _ _ _ _ underlying24 rfl ed (.tmp _ _ .nil)) rfl rfl
 intro u15 h hl16 hr17
 refine au h (fun hg9_2 h => ?_) (fun hg9_2 h => ?_)
 refine yx hn 3 ?_
 refine yd hg9_2 5 ?_
 refine ye [68,2,9,65] ?_
 exact hl16 _ (zi h).symm
 obtain ⟨v13,hv13,h⟩:=zn h
 refine yx hn 3 ?_
 refine yd hg9_2 0 ?_
 refine ym 1 ?_
 refine ys 2 ⟨lk call37 (mw _ _ _ hv13)⟩ ?_
 refine ye [68,2,9,65] ?_
 exact hl16 _ (zi h).symm
 intro u5 h hl6 hr7
 refine au h (fun hg3_2 h => ?_) (fun hg3_2 h => ?_)
 refine yx hn 3 ?_
 refine yd hg3_2 10 ?_
 refine ye [0,68,2,5,7,38] ?_
 exact hl6 _ (zi h).symm
 refine au h (fun hg3_6 h => ?_) (fun hg3_6 h => ?_)
 refine yx hn 3 ?_
 refine yd hg3_2 4 ?_
 refine yd hg3_6 6 ?_
 refine ye [0,68,2,5,7,38] ?_
 exact hl6 _ (zi h).symm
 refine yx hn 3 ?_
 refine yd hg3_2 4 ?_
 refine yd hg3_6 6 ?_
 refine ye [0,68,2,5,7,38] ?_
 exact hl6 _ (zi h).symm
theorem gT (b:(List Int)) (at_:Int) (r:Int) (h:Sh.cf b at_=some r):cl Tryz.prog 38 [.fl .shr 1 (map (int .u8) b),.v (.int .i64 at_)] (.v (.int .i64 r)):=by
 unfold Sh.cf at h
 refine yO 28 func38 fun g0 hn hio => ?_
 refine aX hn 1 [0,1] ?_
 refine ag ?_
 refine aX hn 2 [0,5] ?_
 refine aY h (fun (s21:Int)=>[(0,fb b),(5,vi s21)]) (fun (():Unit)=>[]) ?_ ?_
 rintro ⟨⟩ h
 refine ai ?_
 refine aX hn 1 [4] ?_
 refine aC ?_
 obtain rfl:=zi h
 exact aE hio rfl (.tmp _ _ .nil) rfl rfl
 rintro u28 hl29 hr30 s21 rr33 h ho31
 refine ag (ag ?_)
 obtain ⟨v1,hv1,h⟩:=zn h
 refine yx hn 1 ?_
 refine ys 3 ⟨lb hv1⟩ ?_
 refine bH [0,5,11] ?_
 refine zc h rfl (fun h => ?_) (fun h => ?_)
 refine aA ?_
 refine ai (ag ?_)
 refine aP (ag ?_)
 refine aM h (fun (s35:Bool)=>[(0,fb b),(5,vi s21),(26,vb s35)]) ?_ ?_
 rintro s35 h
 refine ai ?_
 refine zc h rfl (fun h => ?_) (fun h => ?_)
 refine aX hn 2 [4] ?_
 refine aC (aV (am (am (aV (am ?_)))))
 have h:=hr30 _ (ho31 _ (zi h).symm).symm
 obtain rfl:=zi h
 exact aE hio rfl (.tmp _ _ .nil) rfl rfl
 refine aA (br (ai ?_))
 obtain ⟨v13,hv13,h⟩:=zn h
 refine yx hn 1 ?_
 refine ys 0 ⟨lb hv13⟩ ?_
 refine yw [5] 1 ?_
 refine ye [0,5] ?_
 exact bC _ (zi h).symm rfl
 intro u36 h hl37 hr38
 obtain ⟨v3,hv3,v4,hv4,h⟩:=fK h
 refine au h (fun hg4_5 h => ?_) (fun hg4_5 h => ?_)
 obtain ⟨v5,hv5,v6,hv6,v7,hv7,h⟩:=mh h
 refine yx hn 2 ?_
 refine ys 0 ⟨li hv3⟩ ?_
 refine ys 2 ⟨ll hv4⟩ ?_
 refine yd hg4_5 2 ?_
 refine ys 0 ⟨lb hv5⟩ ?_
 refine ys 0 ⟨li hv6⟩ ?_
 refine ys 2 ⟨ll hv7⟩ ?_
 refine ye [0,5,26] ?_
 exact hl37 _ (zi h).symm
 refine yx hn 2 ?_
 refine ys 0 ⟨li hv3⟩ ?_
 refine ys 2 ⟨ll hv4⟩ ?_
 refine yd hg4_5 7 ?_
 refine ye [0,5,26] ?_
 exact hl37 _ (zi h).symm
 refine bk (aD (aD (bo ?_)))
 refine aB [] (by kernel_rfl) (es':=[]) rfl ?_
 exact hl29 _ (ho31 _ (zi h).symm).symm
theorem mT (s:Ll) (r:(List Ll)) (h:Sh.eo s=some r):cl Tryz.prog 39 [.v (.string s)] (.fl (.own 9) 1 (map Value.string r)):=by
 unfold Sh.eo at h
 refine yO 32 func39 fun g0 hn hio => ?_
 refine aX hn 1 [0] ?_
 refine aX hn 1 [0,3] ?_
 refine aX hn 1 [0,3,4] ?_
 refine ag ?_
 refine aX hn 1 [0,3,4,5] ?_
 refine gX (fs:=[(0,vs s),(3,.fl (.own 9) 1 (map Value.string [])),(4,vi 0),(5,vi 0)]) (.same _ (.sub _ (cd 9 1) rfl (.same _ (.same _ .nil)))) ?_
 refine aY h (fun ((s41,s42,s43):(List Ll)×Int×Int)=>[(0,vs s),(3,.fl (.own 9) 1 (map Value.string s41)),(4,vi s42),(5,vi s43)]) (fun (s60:(List Ll))=>[(3,.fl (.own 9) 1 (map Value.string s60))]) ?_ ?_
 rintro s60 h
 refine ai ?_
 refine gh hn 0 ?_
 refine ym 0 ?_
 refine ya 0 ?_
 refine bH [2] ?_
 refine aC ?_
 obtain rfl:=zi h
 exact aE hio rfl (.tmp _ _ .nil) rfl rfl
 rintro u61 hl62 hr63 ⟨s41,s42,s43⟩ rr66 h ho64
 refine ag ?_
 refine aX hn 4 [0,3,4,5,9] ?_
 refine zc h rfl (fun h => ?_) (fun h => ?_)
 refine aA ?_
 refine ai (ag ?_)
 refine aM h (fun ((s73,s74):(List Ll)×Int)=>[(0,vs s),(5,vi s43),(3,.fl (.own 9) 1 (map Value.string s73)),(4,vi s74)]) ?_ ?_
 rintro ⟨s73,s74⟩ h
 refine ai ?_
 obtain ⟨v21,hv21,h⟩:=zn h
 refine yx hn 1 ?_
 refine ys 0 ⟨lb hv21⟩ ?_
 refine yw [5] 1 ?_
 refine ye [0,3,4,5] ?_
 exact bC _ (zi h).symm rfl
 intro u75 h hl76 hr77
 refine aP (ag ?_)
 refine aM h (fun (s78:Bool)=>[(0,vs s),(3,.fl (.own 9) 1 (map Value.string s41)),(4,vi s42),(5,vi s43),(21,vb s78)]) ?_ ?_
 rintro s78 h
 refine ai ?_
 refine zc h rfl (fun h => ?_) (fun h => ?_)
 refine ag ?_
 obtain ⟨v8,hv8,v9,hv9,h⟩:=fK h
 refine yx hn 0 ?_
 refine ym 3 ?_
 refine yS (vs v8) 0 ⟨cI _ _ _ s42 s43 _ underlying9 rfl ⟨_,rfl⟩ ⟨_,rfl⟩ hv8⟩ ?_
 refine yS (.fl (.own 9) 1 (map Value.string [v8])) 0 ⟨cb _ _ 1 (.string ByteArray.empty) (map Value.string [v8]) [(0,.string v8)] underlying57 Iv Ko (fun _ V w o a hv hes=>by have e0:=dL hv hes (x := .tmp 26) rfl; simp only [List.map_toArray,List.map_cons,List.map_nil,e0]; try rfl) (fv (by simp [Instr.fill,Value.cells]; rfl) (by simp [List.range,List.range.loop] <;> rfl)) (by simp [Value.oneCell']) rfl (by decide) (by decide) (by decide)⟩ ?_
 refine yp IE hv9 0 ?_
 refine ya 0 ?_
 refine bH [0,5,3] ?_
 obtain ⟨v10,hv10,h⟩:=zn h
 refine yx hn 1 ?_
 refine ys 1 ⟨lb hv10⟩ ?_
 refine ye [0,5,3,4] ?_
 refine br ?_
 exact hl76 _ (zi h).symm
 refine aA (br ?_)
 refine aB [0,3,1,2] (by kernel_rfl) (es':=[(_,_),(_,_),(_,_),(_,_)]) rfl ?_
 exact hl76 _ (zi h).symm
 intro u79 h hl80 hr81
 refine au h (fun hg6_4 h => ?_) (fun hg6_4 h => ?_)
 refine yx hn 5 ?_
 refine yd hg6_4 5 ?_
 refine ye [0,3,4,5,21] ?_
 exact hl80 _ (zi h).symm
 obtain ⟨v2,hv2,h⟩:=zn h
 refine yx hn 5 ?_
 refine yd hg6_4 2 ?_
 refine ys 2 ⟨lh hv2⟩ ?_
 refine ye [0,3,4,5,21] ?_
 exact hl80 _ (zi h).symm
 refine bk (aD (aD (bo ?_)))
 refine aB [1] (by kernel_rfl) (es':=[(_,_)]) rfl ?_
 exact hl62 _ (ho64 _ (zi h).symm).symm
theorem mc (s:Ll) (most:Int) (r:Int) (h:Sh.dT s most=some r):cl Tryz.prog 40 [.v (.string s),.v (.int .i64 most)] (.v (.int .i64 r)):=by
 unfold Sh.dT at h
 refine yO 42 func40 fun g0 hn hio => ?_
 refine aX hn 1 [0,1] ?_
 refine ag (ag ?_)
 refine aM h (fun (s3:Bool)=>[(0,vs s),(21,vb s3)]) ?_ ?_
 rintro s3 h
 refine ai ?_
 refine zc h rfl (fun h => ?_) (fun h => ?_)
 refine aX hn 1 [4] ?_
 refine aC (am ?_)
 obtain rfl:=zi h
 exact aE hio rfl (.tmp _ _ .nil) rfl rfl
 refine aA (ai ?_)
 refine aX hn 1 [0,5] ?_
 refine ag ?_
 refine aX hn 1 [0,5,6] ?_
 refine aY h (fun ((s22,s23):Int×Int)=>[(0,vs s),(5,vi s22),(6,vi s23)]) (fun (s26:Int)=>[(5,vi s26)]) ?_ ?_
 rintro s26 h
 refine ai ?_
 refine aX hn 2 [4] ?_
 refine aC ?_
 obtain rfl:=zi h
 exact aE hio rfl (.tmp _ _ .nil) rfl rfl
 rintro u27 hl28 hr29 ⟨s22,s23⟩ rr32 h ho30
 refine ag ?_
 refine aX hn 4 [0,5,6,25] ?_
 refine zc h rfl (fun h => ?_) (fun h => ?_)
 refine aA ?_
 refine ai (ag ?_)
 refine aP (ag (ag ?_))
 obtain ⟨v9,hv9,v10,hv10,h⟩:=fK h
 refine yx hn 2 ?_
 refine ys 0 ⟨lh hv9⟩ ?_
 refine ys 1 ⟨lk call60 (fg _ _ hv10)⟩ ?_
 refine bH [0,5,6,32] ?_
 refine zc h rfl (fun h => ?_) (fun h => ?_)
 refine aX hn 1 [4] ?_
 refine aC (am (aV (am (am (aV (am ?_))))))
 have h:=hr29 _ (ho30 _ (zi h).symm).symm
 obtain rfl:=zi h
 exact aE hio rfl (.tmp _ _ .nil) rfl rfl
 refine aA (ai ?_)
 obtain ⟨v12,hv12,v13,hv13,v14,hv14,v15,hv15,h⟩:=ov h
 obtain ⟨v16,hv16,h⟩:=zn h
 refine yx hn 1 ?_
 refine ys 2 ⟨lb hv12⟩ ?_
 refine ys 0 ⟨lh hv13⟩ ?_
 refine ys 0 ⟨lb hv14⟩ ?_
 refine ys 0 ⟨lv hv15⟩ ?_
 refine ys 0 ⟨lb hv16⟩ ?_
 refine yw [5] 1 ?_
 refine ye [0,6,5] ?_
 refine br (ai ?_)
 obtain ⟨v17,hv17,h⟩:=zn h
 refine yx hn 1 ?_
 refine ys 0 ⟨lb hv17⟩ ?_
 refine yw [6] 1 ?_
 refine ye [0,5,6] ?_
 exact bC _ (zi h).symm rfl
 refine bk (aD (aD (bo ?_)))
 refine aB [1] (by kernel_rfl) (es':=[(_,_)]) rfl ?_
 exact hl28 _ (ho30 _ (zi h).symm).symm
 intro u4 h hl5 hr6
 obtain ⟨v1,hv1,h⟩:=zn h
 refine au h (fun hg1_5 h => ?_) (fun hg1_5 h => ?_)
 refine yx hn 3 ?_
 refine ys 2 ⟨lk call43 (aZ _ _ _ _ hv1)⟩ ?_
 refine yd hg1_5 9 ?_
 refine ye [0,21] ?_
 exact hl5 _ (zi h).symm
 refine au h (fun hg1_9 h => ?_) (fun hg1_9 h => ?_)
 obtain ⟨v2,hv2,h⟩:=zn h
 refine yx hn 3 ?_
 refine ys 2 ⟨lk call43 (aZ _ _ _ _ hv1)⟩ ?_
 refine yd hg1_5 4 ?_
 refine yd hg1_9 1 ?_
 refine ys 3 ⟨lh hv2⟩ ?_
 refine ye [0,21] ?_
 exact hl5 _ (zi h).symm
 refine yx hn 3 ?_
 refine ys 2 ⟨lk call43 (aZ _ _ _ _ hv1)⟩ ?_
 refine yd hg1_5 4 ?_
 refine yd hg1_9 5 ?_
 refine ye [0,21] ?_
 exact hl5 _ (zi h).symm
theorem iu (s:Ll) (with_:Ll) (r:(Ll×Bool)) (h:Sh.bW s with_=some r):cl Tryz.prog 61 [.v (.string s),.v (.string with_)] (.tup [.v (.string r.1),.v (.bool r.2)]):=by
 unfold Sh.bW at h
 refine yO 23 func61 fun g0 hn hio => ?_
 refine aX hn 2 [0,1] ?_
 refine ag (ag ?_)
 refine aM h (fun (s2:Bool)=>[(0,vs s),(1,vs with_),(18,vb s2)]) ?_ ?_
 rintro s2 h
 refine ai ?_
 refine zc h rfl (fun h => ?_) (fun h => ?_)
 refine aX hn 2 [4,5] ?_
 refine aC (am ?_)
 obtain rfl:=zi h
 exact aE hio rfl (.tmp _ _ (.tmp _ _ .nil)) rfl rfl
 refine aA ?_
 refine ai (ag ?_)
 obtain ⟨v7,hv7,h⟩:=zn h
 refine yx hn 3 ?_
 refine yS (vs v7) 2 ⟨cI _ _ _ (with_.size:Int) (s.size:Int) _ underlying9 rfl ⟨_,rfl⟩ rfl hv7⟩ ?_
 refine bH [4,5] ?_
 refine aC ?_
 obtain rfl:=zi h
 exact aE hio rfl (.tmp _ _ (.tmp _ _ .nil)) rfl rfl
 intro u3 h hl4 hr5
 refine au h (fun hg1_5 h => ?_) (fun hg1_5 h => ?_)
 refine yx hn 6 ?_
 refine yd hg1_5 7 ?_
 refine ye [0,1,18] ?_
 exact hl4 _ (zi h).symm
 obtain ⟨v1,hv1,h⟩:=zn h
 refine yx hn 6 ?_
 refine yd hg1_5 3 ?_
 refine yS (vs v1) 3 ⟨cI _ _ _ 0 (with_.size:Int) _ underlying9 rfl rfl ⟨_,rfl⟩ hv1⟩ ?_
 refine ye [0,1,18] ?_
 exact hl4 _ (zi h).symm
theorem nJ (p:aj) (ok:Bool) (r:(aj×Bool)) (h:Sh.gz p ok=some r):cl Tryz.prog 82 [.agg [.v (.bool p.Lh),.v (.string p.Lf),.v (.string p.Lc)],.v (.bool ok)] (.tup [.agg [.v (.bool r.1.Lh),.v (.string r.1.Lf),.v (.string r.1.Lc)],.v (.bool r.2)]):=by
 unfold Sh.gz at h
 refine yO 10 func82 fun g0 hn hio => ?_
 refine gh hn 1 ?_
 refine yS (.box 43 [vb false,vs z0,vs z0]) 1 ⟨oA (bu _ _ jr)⟩ ?_
 refine bH [1,2,4] ?_
 refine ag ?_
 refine aX hn 2 [2,4,7] ?_
 refine zc h rfl (fun h => ?_) (fun h => ?_)
 refine gh hn 0 ?_
 refine yS (.agg [vb false,vs z0,vs z0]) 0 ⟨bQ _ _ _ _ [1,1,1] _ _ underlying43 jr (qP _ underlying43) kP.nil rfl rfl rfl⟩ ?_
 refine yk [8,4] [] ?_
 refine yt (4,.box 43 [vb false,vs z0,vs z0]) 1 ⟨bL _ _ _ 8 4 3 iG rfl rfl rfl rfl rfl (.eq _ (.eq _ (.eq _ (.nil _)))) rfl⟩ ?_
 refine bH [4,5] ?_
 refine aC (am ?_)
 obtain rfl:=zi h
 exact aE hio rfl (.cellA _ _ _ _ underlying43 rfl iG (.tmp _ _ .nil)) rfl rfl
 refine aA (ai ?_)
 refine aX hn 3 [4,5] ?_
 refine aC ?_
 obtain rfl:=zi h
 exact aE hio rfl (.cellA _ _ _ _ underlying43 rfl iG (.tmp _ _ .nil)) rfl rfl
theorem jA (s:Ll) (r:(aj×Bool)) (h:Sh.cH s=some r):cl Tryz.prog 62 [.v (.string s)] (.tup [.agg [.v (.bool r.1.Lh),.v (.string r.1.Lf),.v (.string r.1.Lc)],.v (.bool r.2)]):=by
 unfold Sh.cH at h
 refine yO 56 func62 fun g0 hn hio => ?_
 refine gh hn 0 ?_
 refine yS (.box 43 [vb false,vs z0,vs z0]) 1 ⟨oA (bu _ _ jr)⟩ ?_
 refine bH [0,2] ?_
 refine ag ?_
 refine aX hn 2 [0,2,7] ?_
 refine zc h rfl (fun h => ?_) (fun h => ?_)
 refine gh hn 0 ?_
 refine yS (.agg [vb true,vs z0,vs z0]) 2 ⟨bQ _ _ _ _ [1,1,1] _ _ underlying43 jr (qP _ underlying43) (.copy _ kP.nil) rfl rfl rfl⟩ ?_
 refine bH [2,3] ?_
 refine aC (am ?_)
 obtain rfl:=zi h
 exact aE hio rfl (.cellA _ _ _ _ underlying43 rfl iG (.tmp _ _ .nil)) rfl rfl
 refine aA ?_
 refine ai (ag ?_)
 refine ag ?_
 refine aM h (fun (s5:Bool)=>[(0,vs s),(2,.box 43 [vb false,vs z0,vs z0]),(24,vb s5)]) ?_ ?_
 rintro s5 h
 refine ai ?_
 refine zc h rfl (fun h => ?_) (fun h => ?_)
 refine gh hn 0 ?_
 refine yS (.agg [vb false,vs z0,vs z0]) 0 ⟨bQ _ _ _ _ [1,1,1] _ _ underlying43 jr (qP _ underlying43) kP.nil rfl rfl rfl⟩ ?_
 refine yk [25,2] [] ?_
 refine yt (2,.box 43 [vb false,vs z0,vs z0]) 1 ⟨bL _ _ _ 25 2 3 iG rfl rfl rfl rfl rfl (.eq _ (.eq _ (.eq _ (.nil _)))) rfl⟩ ?_
 refine bH [2,3] ?_
 refine aC (am ?_)
 obtain rfl:=zi h
 exact aE hio rfl (.cellA _ _ _ _ underlying43 rfl iG (.tmp _ _ .nil)) rfl rfl
 refine aA ?_
 refine ai (ag ?_)
 obtain ⟨v10,hv10,v11,hv11,h⟩:=fK h
 refine yx hn 3 ?_
 refine ys 0 ⟨lb hv10⟩ ?_
 refine yS (vs v11) 0 ⟨cI _ _ _ 1 v10 _ underlying9 rfl ⟨_,rfl⟩ ⟨_,rfl⟩ hv11⟩ ?_
 refine yw [0] 1 ?_
 refine bH [2,0] ?_
 refine ag ?_
 refine aX hn 1 [2,0,4] ?_
 refine aY h (fun (s24:Int)=>[(2,.box 43 [vb false,vs z0,vs z0]),(0,vs v11),(4,vi s24)]) (fun (():Unit)=>[(2,.box 43 [vb false,vs z0,vs z0])]) ?_ ?_
 rintro ⟨⟩ h
 refine ai ?_
 refine gh hn 0 ?_
 refine yS (.agg [vb false,vs z0,vs z0]) 0 ⟨bQ _ _ _ _ [1,1,1] _ _ underlying43 jr (qP _ underlying43) kP.nil rfl rfl rfl⟩ ?_
 refine yk [55,2] [] ?_
 refine yt (2,.box 43 [vb false,vs z0,vs z0]) 1 ⟨bL _ _ _ 55 2 3 iG rfl rfl rfl rfl rfl (.eq _ (.eq _ (.eq _ (.nil _)))) rfl⟩ ?_
 refine bH [2,3] ?_
 refine aC ?_
 obtain rfl:=zi h
 exact aE hio rfl (.cellA _ _ _ _ underlying43 rfl iG (.tmp _ _ .nil)) rfl rfl
 rintro u27 hl28 hr29 s24 rr32 h ho30
 refine ag ?_
 refine aX hn 4 [2,0,4,34] ?_
 refine zc h rfl (fun h => ?_) (fun h => ?_)
 refine aA ?_
 refine ai (ag ?_)
 refine aP (ag ?_)
 obtain ⟨v13,hv13,h⟩:=zn h
 refine yx hn 2 ?_
 refine ys 1 ⟨lh hv13⟩ ?_
 refine bH [2,0,4,40] ?_
 refine zc h rfl (fun h => ?_) (fun h => ?_)
 refine ag ?_
 obtain ⟨v15,hv15,v16,hv16,v17,hv17,h⟩:=mh h
 refine wb [[0],[4]] ?_
 refine wN [41,42] ?_
 refine wS (vs v15) [[0],[4]] ⟨cI _ _ _ 0 s24 _ underlying9 rfl rfl ⟨_,rfl⟩ hv15⟩ ?_
 refine wN [45] ?_
 refine wo [] ⟨lb hv16⟩ ?_
 refine wN [44,46] ?_
 refine wS (vs v17) [] ⟨cI _ _ _ v16 (v11.size:Int) _ underlying9 rfl ⟨_,rfl⟩ rfl hv17⟩ ?_
 refine wN [43,47] ?_
 refine wS (.agg [vb false,vs v15,vs v17]) [] ⟨bQ _ _ _ _ [1,1,1] _ _ underlying43 jr (qP _ underlying43) (.copy _ (.copy _ kP.nil)) rfl rfl rfl⟩ ?_
 refine wN [] ?_
 refine wS (.box 43 [vb false,vs z0,vs z0]) [] ⟨oA (bu _ _ jr)⟩ ?_
 refine wK [5] [48] ?_
 refine wt [(5,.box 43 [vb false,vs v15,vs v17])] [] ⟨kR _ _ _ _ _ _ _ _ iG rfl rfl rfl rfl (zl rfl) rfl rfl⟩ ?_
 refine sI hn [2,5] ?_
 refine ag ?_
 obtain ⟨v18,hv18,v19,hv19,h⟩:=fK h
 refine wb [[5],[5]] ?_
 refine wN [50] ?_
 refine wo [] ⟨lk call66 (cZ _ _ hv18)⟩ ?_
 refine wN [49,51] ?_
 refine wo [] ⟨lk call82 (nJ _ _ _ hv19)⟩ ?_
 refine wN [52] ?_
 refine wS (.agg [vb v19.1.Lh,vs v19.1.Lf,vs v19.1.Lc]) [[52]] ⟨eK _ _ _ _ _ _ rfl rfl (zl rfl) rfl rfl⟩ ?_
 refine wK [2] [53] ?_
 refine wt [(2,.box 43 [vb v19.1.Lh,vs v19.1.Lf,vs v19.1.Lc])] [[54]] ⟨kR _ _ _ _ _ _ _ _ iG rfl rfl rfl rfl (zl rfl) rfl rfl⟩ ?_
 refine sI hn [2,3] ?_
 refine aC (aV (am (am (aV (am ?_)))))
 have h:=hr29 _ (ho30 _ (zi h).symm).symm
 obtain rfl:=zi h
 exact aE hio rfl (.cellA _ _ _ _ underlying43 rfl iG (.tmp _ _ .nil)) rfl rfl
 refine aA (br (ai ?_))
 obtain ⟨v20,hv20,h⟩:=zn h
 refine yx hn 1 ?_
 refine ys 0 ⟨lb hv20⟩ ?_
 refine yw [4] 1 ?_
 refine ye [2,0,4] ?_
 exact bC _ (zi h).symm rfl
 refine bk (aD (aD (bo ?_)))
 refine aB [0] (by kernel_rfl) (es':=[(_,_)]) rfl ?_
 exact hl28 _ (ho30 _ (zi h).symm).symm
 intro u6 h hl7 hr8
 refine au h (fun hg3_3 h => ?_) (fun hg3_3 h => ?_)
 refine yx hn 4 ?_
 refine yd hg3_3 12 ?_
 refine ye [0,2,24] ?_
 exact hl7 _ (zi h).symm
 obtain ⟨v2,hv2,h⟩:=zn h
 refine au h (fun hg3_8 h => ?_) (fun hg3_8 h => ?_)
 refine yx hn 4 ?_
 refine yd hg3_3 1 ?_
 refine ys 3 ⟨lh hv2⟩ ?_
 refine yd hg3_8 7 ?_
 refine ye [0,2,24] ?_
 exact hl7 _ (zi h).symm
 obtain ⟨v3,hv3,v4,hv4,h⟩:=fK h
 refine yx hn 4 ?_
 refine yd hg3_3 1 ?_
 refine ys 3 ⟨lh hv2⟩ ?_
 refine yd hg3_8 3 ?_
 refine ys 0 ⟨lb hv3⟩ ?_
 refine ys 2 ⟨lh hv4⟩ ?_
 refine ye [0,2,24] ?_
 exact hl7 _ (zi h).symm
theorem oD (b:(List Int)) (r:Int) (h:Sh.ev b=some r):cl Tryz.prog 83 [.fl .shr 1 (map (int .u8) b)] (.v (.int .i64 r)):=by
 unfold Sh.ev at h
 refine yO 57 func83 fun g0 hn hio => ?_
 refine aX hn 1 [0] ?_
 refine ag ?_
 refine aX hn 1 [0,3] ?_
 refine aY h (fun (s30:Int)=>[(0,fb b),(3,vi s30)]) (fun (():Unit)=>[]) ?_ ?_
 rintro ⟨⟩ h
 refine ai ?_
 refine aX hn 1 [2] ?_
 refine aC ?_
 obtain rfl:=zi h
 exact aE hio rfl (.tmp _ _ .nil) rfl rfl
 rintro u37 hl38 hr39 s30 rr42 h ho40
 refine ag (ag ?_)
 obtain ⟨v1,hv1,h⟩:=zn h
 refine yx hn 1 ?_
 refine ys 3 ⟨lb hv1⟩ ?_
 refine bH [0,3,8] ?_
 refine zc h rfl (fun h => ?_) (fun h => ?_)
 refine aA ?_
 refine ai (ag ?_)
 refine aP (ag ?_)
 refine aM h (fun (s44:Bool)=>[(0,fb b),(3,vi s30),(55,vb s44)]) ?_ ?_
 rintro s44 h
 refine ai ?_
 refine zc h rfl (fun h => ?_) (fun h => ?_)
 refine aX hn 2 [2] ?_
 refine aC (aV (am (am (aV (am ?_)))))
 have h:=hr39 _ (ho40 _ (zi h).symm).symm
 obtain rfl:=zi h
 exact aE hio rfl (.tmp _ _ .nil) rfl rfl
 refine aA (br (ai ?_))
 obtain ⟨v22,hv22,h⟩:=zn h
 refine yx hn 1 ?_
 refine ys 0 ⟨lb hv22⟩ ?_
 refine yw [3] 1 ?_
 refine ye [0,3] ?_
 exact bC _ (zi h).symm rfl
 intro u45 h hl46 hr47
 obtain ⟨v3,hv3,v4,hv4,h⟩:=fK h
 refine au h (fun hg4_5 h => ?_) (fun hg4_5 h => ?_)
 obtain ⟨v5,hv5,v6,hv6,v7,hv7,h⟩:=mh h
 refine au h (fun hg4_13 h => ?_) (fun hg4_13 h => ?_)
 obtain ⟨v8,hv8,v9,hv9,v10,hv10,h⟩:=mh h
 refine au h (fun hg4_21 h => ?_) (fun hg4_21 h => ?_)
 refine au h (fun hg4_24 h => ?_) (fun hg4_24 h => ?_)
 refine yx hn 2 ?_
 refine ys 0 ⟨li hv3⟩ ?_
 refine ys 2 ⟨ll hv4⟩ ?_
 refine yd hg4_5 2 ?_
 refine ys 0 ⟨lb hv5⟩ ?_
 refine ys 0 ⟨li hv6⟩ ?_
 refine ys 3 ⟨ll hv7⟩ ?_
 refine yd hg4_13 2 ?_
 refine ys 0 ⟨lb hv8⟩ ?_
 refine ys 0 ⟨li hv9⟩ ?_
 refine ys 3 ⟨ll hv10⟩ ?_
 refine yd hg4_21 3 ?_
 refine yd hg4_24 20 ?_
 refine ye [0,3,55] ?_
 exact hl46 _ (zi h).symm
 refine au h (fun hg4_27 h => ?_) (fun hg4_27 h => ?_)
 obtain ⟨v11,hv11,v12,hv12,v13,hv13,h⟩:=mh h
 refine au h (fun hg4_35 h => ?_) (fun hg4_35 h => ?_)
 obtain ⟨v14,hv14,v15,hv15,v16,hv16,h⟩:=mh h
 refine yx hn 2 ?_
 refine ys 0 ⟨li hv3⟩ ?_
 refine ys 2 ⟨ll hv4⟩ ?_
 refine yd hg4_5 2 ?_
 refine ys 0 ⟨lb hv5⟩ ?_
 refine ys 0 ⟨li hv6⟩ ?_
 refine ys 3 ⟨ll hv7⟩ ?_
 refine yd hg4_13 2 ?_
 refine ys 0 ⟨lb hv8⟩ ?_
 refine ys 0 ⟨li hv9⟩ ?_
 refine ys 3 ⟨ll hv10⟩ ?_
 refine yd hg4_21 3 ?_
 refine yd hg4_24 3 ?_
 refine yd hg4_27 2 ?_
 refine ys 0 ⟨lb hv11⟩ ?_
 refine ys 0 ⟨li hv12⟩ ?_
 refine ys 3 ⟨ll hv13⟩ ?_
 refine yd hg4_35 2 ?_
 refine ys 0 ⟨lb hv14⟩ ?_
 refine ys 0 ⟨li hv15⟩ ?_
 refine ys 4 ⟨ll hv16⟩ ?_
 refine ye [0,3,55] ?_
 exact hl46 _ (zi h).symm
 refine yx hn 2 ?_
 refine ys 0 ⟨li hv3⟩ ?_
 refine ys 2 ⟨ll hv4⟩ ?_
 refine yd hg4_5 2 ?_
 refine ys 0 ⟨lb hv5⟩ ?_
 refine ys 0 ⟨li hv6⟩ ?_
 refine ys 3 ⟨ll hv7⟩ ?_
 refine yd hg4_13 2 ?_
 refine ys 0 ⟨lb hv8⟩ ?_
 refine ys 0 ⟨li hv9⟩ ?_
 refine ys 3 ⟨ll hv10⟩ ?_
 refine yd hg4_21 3 ?_
 refine yd hg4_24 3 ?_
 refine yd hg4_27 2 ?_
 refine ys 0 ⟨lb hv11⟩ ?_
 refine ys 0 ⟨li hv12⟩ ?_
 refine ys 3 ⟨ll hv13⟩ ?_
 refine yd hg4_35 9 ?_
 refine ye [0,3,55] ?_
 exact hl46 _ (zi h).symm
 refine yx hn 2 ?_
 refine ys 0 ⟨li hv3⟩ ?_
 refine ys 2 ⟨ll hv4⟩ ?_
 refine yd hg4_5 2 ?_
 refine ys 0 ⟨lb hv5⟩ ?_
 refine ys 0 ⟨li hv6⟩ ?_
 refine ys 3 ⟨ll hv7⟩ ?_
 refine yd hg4_13 2 ?_
 refine ys 0 ⟨lb hv8⟩ ?_
 refine ys 0 ⟨li hv9⟩ ?_
 refine ys 3 ⟨ll hv10⟩ ?_
 refine yd hg4_21 3 ?_
 refine yd hg4_24 3 ?_
 refine yd hg4_27 17 ?_
 refine ye [0,3,55] ?_
 exact hl46 _ (zi h).symm
 refine yx hn 2 ?_
 refine ys 0 ⟨li hv3⟩ ?_
 refine ys 2 ⟨ll hv4⟩ ?_
 refine yd hg4_5 2 ?_
 refine ys 0 ⟨lb hv5⟩ ?_
 refine ys 0 ⟨li hv6⟩ ?_
 refine ys 3 ⟨ll hv7⟩ ?_
 refine yd hg4_13 2 ?_
 refine ys 0 ⟨lb hv8⟩ ?_
 refine ys 0 ⟨li hv9⟩ ?_
 refine ys 3 ⟨ll hv10⟩ ?_
 refine yd hg4_21 23 ?_
 refine ye [0,3,55] ?_
 exact hl46 _ (zi h).symm
 refine yx hn 2 ?_
 refine ys 0 ⟨li hv3⟩ ?_
 refine ys 2 ⟨ll hv4⟩ ?_
 refine yd hg4_5 2 ?_
 refine ys 0 ⟨lb hv5⟩ ?_
 refine ys 0 ⟨li hv6⟩ ?_
 refine ys 3 ⟨ll hv7⟩ ?_
 refine yd hg4_13 31 ?_
 refine ye [0,3,55] ?_
 exact hl46 _ (zi h).symm
 refine yx hn 2 ?_
 refine ys 0 ⟨li hv3⟩ ?_
 refine ys 2 ⟨ll hv4⟩ ?_
 refine yd hg4_5 39 ?_
 refine ye [0,3,55] ?_
 exact hl46 _ (zi h).symm
 refine bk (aD (aD (bo ?_)))
 refine aB [] (by kernel_rfl) (es':=[]) rfl ?_
 exact hl38 _ (ho40 _ (zi h).symm).symm
theorem nf (b:(List Int)) (r:((List Int)×Int×Int)) (h:Sh.da b=some r):cl Tryz.prog 63 [.fl .shr 1 (map (int .u8) b)] (.tup [.fl (.own 5) 1 (map (int .u8) r.1),.v (.int .i64 r.2.1),.v (.int .i64 r.2.2)]):=by
 unfold Sh.da at h
 refine yO 49 func63 fun g0 hn hio => ?_
 refine aX hn 3 [0] ?_
 refine ag ?_
 obtain ⟨v1,hv1,h⟩:=zn h
 refine yx hn 1 ?_
 refine ys 1 ⟨lk call83 (oD _ _ hv1)⟩ ?_
 refine bH [0,5] ?_
 refine ag ?_
 refine aX hn 2 [0,5,11] ?_
 refine zc h rfl (fun h => ?_) (fun h => ?_)
 refine aX hn 3 [2,3,4] ?_
 refine aC ?_
 refine di (fs:=[(2,.fl (.own 5) 1 (map (int .u8) [])),(3,vi 0),(4,vi 9)]) (.sub _ (cd 5 1) rfl (.same _ (.same _ .nil))) ?_
 refine am ?_
 obtain rfl:=zi h
 exact aE hio rfl (.tmp _ _ (.tmp _ _ (.tmp _ _ .nil))) rfl rfl
 refine aA ?_
 refine ai (ag ?_)
 refine ag ?_
 obtain ⟨v3,hv3,v4,hv4,h⟩:=fK h
 refine yx hn 2 ?_
 refine yS (fb v3) 0 ⟨ik _ _ _ 0 v1 _ underlying25 nM rfl rfl rfl ⟨_,rfl⟩ hv3⟩ ?_
 refine ys 1 ⟨lk call67 (gF _ _ hv4)⟩ ?_
 refine bH [0,5,16] ?_
 refine zc h rfl (fun h => ?_) (fun h => ?_)
 refine aX hn 3 [2,3,4] ?_
 refine aC ?_
 refine di (fs:=[(2,.fl (.own 5) 1 (map (int .u8) [])),(3,vi 0),(4,vi 5)]) (.sub _ (cd 5 1) rfl (.same _ (.same _ .nil))) ?_
 refine am ?_
 obtain rfl:=zi h
 exact aE hio rfl (.tmp _ _ (.tmp _ _ (.tmp _ _ .nil))) rfl rfl
 refine aA (ai ?_)
 refine aX hn 1 [0,5,6] ?_
 refine ag ?_
 refine aX hn 1 [0,5,6,7] ?_
 refine gX (fs:=[(0,fb b),(5,vi v1),(6,.fl (.own 5) 1 (map (int .u8) [])),(7,vi 0)]) (.same _ (.same _ (.sub _ (cd 5 1) rfl (.same _ .nil)))) ?_
 refine aY h (fun ((s47,s48):(List Int)×Int)=>[(0,fb b),(5,vi v1),(6,.fl (.own 5) 1 (map (int .u8) s47)),(7,vi s48)]) (fun (s64:(List Int))=>[(5,vi v1),(6,.fl (.own 5) 1 (map (int .u8) s64))]) ?_ ?_
 rintro s64 h
 refine ai (ag ?_)
 obtain ⟨v86,hv86,h⟩:=zn h
 refine yx hn 0 ?_
 refine ym 1 ?_
 refine ys 0 ⟨lb hv86⟩ ?_
 refine ya 2 ?_
 refine bH [2,3,4] ?_
 refine aC ?_
 obtain rfl:=zi h
 exact aE hio rfl (.tmp _ _ (.tmp _ _ (.tmp _ _ .nil))) rfl rfl
 rintro u65 hl66 hr67 ⟨s47,s48⟩ rr70 h ho68
 refine ag ?_
 refine aX hn 3 [0,5,6,7,19] ?_
 refine zc h rfl (fun h => ?_) (fun h => ?_)
 refine aA ?_
 refine ai (ag ?_)
 refine aM h (fun (s77:(List Int))=>[(0,fb b),(5,vi v1),(7,vi s48),(6,.fl (.own 5) 1 (map (int .u8) s77))]) ?_ ?_
 rintro s77 h
 refine ai ?_
 obtain ⟨v29,hv29,h⟩:=zn h
 refine yx hn 1 ?_
 refine ys 0 ⟨lb hv29⟩ ?_
 refine yw [7] 1 ?_
 refine ye [0,5,6,7] ?_
 exact bC _ (zi h).symm rfl
 intro u78 h hl79 hr80
 refine aP (ag ?_)
 refine aM h (fun (s81:Bool)=>[(0,fb b),(5,vi v1),(6,.fl (.own 5) 1 (map (int .u8) s47)),(7,vi s48),(38,vb s81)]) ?_ ?_
 rintro s81 h
 refine ai ?_
 refine zc h rfl (fun h => ?_) (fun h => ?_)
 obtain ⟨v17,hv17,v18,hv18,v19,hv19,h⟩:=mh h
 refine yx hn 0 ?_
 refine ym 2 ?_
 refine ys 0 ⟨li hv17⟩ ?_
 refine ys 0 ⟨ll hv18⟩ ?_
 refine yS (.fl (.own 5) 1 (map (int .u8) [v18])) 0 ⟨cb _ _ 1 (.int .u8 0) (map (int .u8) [v18]) [(0,.int .u8 v18)] underlying25 nM tj (fun _ V w o a hv hes=>by have e0:=dL hv hes (x := .tmp 43) rfl; simp only [List.map_toArray,List.map_cons,List.map_nil,e0]; try rfl) (fv (by simp [Instr.fill,Value.cells]; rfl) (by simp [List.range,List.range.loop] <;> rfl)) (by simp [Value.oneCell']) rfl (by decide) (by decide) (by decide)⟩ ?_
 refine yp kC hv19 0 ?_
 refine ya 0 ?_
 refine ye [0,5,7,6] ?_
 refine br ?_
 exact hl79 _ (zi h).symm
 refine aA (br ?_)
 refine aB [0,1,3,2] (by kernel_rfl) (es':=[(_,_),(_,_),(_,_),(_,_)]) rfl ?_
 exact hl79 _ (zi h).symm
 intro u82 h hl83 hr84
 obtain ⟨v7,hv7,v8,hv8,h⟩:=fK h
 refine au h (fun hg10_5 h => ?_) (fun hg10_5 h => ?_)
 refine yx hn 2 ?_
 refine ys 0 ⟨li hv7⟩ ?_
 refine ys 2 ⟨ll hv8⟩ ?_
 refine yd hg10_5 11 ?_
 refine ye [0,5,6,7,38] ?_
 exact hl83 _ (zi h).symm
 refine au h (fun hg10_8 h => ?_) (fun hg10_8 h => ?_)
 obtain ⟨v9,hv9,v10,hv10,v11,hv11,h⟩:=mh h
 refine yx hn 2 ?_
 refine ys 0 ⟨li hv7⟩ ?_
 refine ys 2 ⟨ll hv8⟩ ?_
 refine yd hg10_5 3 ?_
 refine yd hg10_8 2 ?_
 refine ys 0 ⟨lb hv9⟩ ?_
 refine ys 0 ⟨li hv10⟩ ?_
 refine ys 3 ⟨ll hv11⟩ ?_
 refine ye [0,5,6,7,38] ?_
 exact hl83 _ (zi h).symm
 refine yx hn 2 ?_
 refine ys 0 ⟨li hv7⟩ ?_
 refine ys 2 ⟨ll hv8⟩ ?_
 refine yd hg10_5 3 ?_
 refine yd hg10_8 8 ?_
 refine ye [0,5,6,7,38] ?_
 exact hl83 _ (zi h).symm
 refine bk (aD (aD (bo ?_)))
 refine aB [1,2] (by kernel_rfl) (es':=[(_,_),(_,_)]) rfl ?_
 exact hl66 _ (ho68 _ (zi h).symm).symm
end Go.Proofs.YtglabbpbianmnaaGreatDoor
