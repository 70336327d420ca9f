import Derived.Test.YtglabbpbianmnaaGreatDoorShelf
import Derived.Test.YtglabbpbianmnaaGreatDoorIdx
import Derived.Test.YtglabbpbianmnaaGreatDoorBH
import Derived.Test.YtglabbpbianmnaaGreatDoorC1
import Derived.Test.YtglabbpbianmnaaGreatDoorSh
set_option linter.unusedVariables false
set_option linter.unusedSimpArgs false
set_option maxHeartbeats 1000000
namespace Go.Proofs.YtglabbpbianmnaaGreatDoor
open Go.Abs Go.Abs.Sh Tryz
open List (map flatten)
open Value (int)
def GL (mx:Int):List (Nat×List Value):=[(0,[.int .i64 mx]),(1,(List.map (Value.int .u64) gM)),(6,(List.map (Value.int .u8) gW)),(7,(List.map (Value.int .u8) jB))]
theorem zg (mx:Int):(0,([.int .i64 mx]:List Value))∈GL mx := .head _
theorem DT (mx:Int):(1,((List.map (Value.int .u64) gM):List Value))∈GL mx := .tail _ (.head _)
theorem zP (mx:Int):(6,((List.map (Value.int .u8) gW):List Value))∈GL mx := .tail _ (.tail _ (.head _))
theorem Fc (mx:Int):(7,((List.map (Value.int .u8) jB):List Value))∈GL mx := .tail _ (.tail _ (.tail _ (.head _)))
theorem Ig:(Tryz.prog.info? 22).map (·.size)=some 1:=by kernel_rfl
instance iUD22:UD Tryz.prog 22 (.slice 46):=⟨Tryz.underlying22⟩
instance iLiT_Mail:LenI ae.ienc 8:=⟨ae.ilen⟩
theorem eC:(Tryz.prog.info? 46).map (·.size)=some 8:=by kernel_rfl
theorem qX:(Tryz.prog.info? 25).map (·.size)=some 1:=by kernel_rfl
theorem Iv:(Tryz.prog.info? 9).map (·.size)=some 1:=by kernel_rfl
theorem iG:(Tryz.prog.info? 43).map (·.size)=some 3:=by kernel_rfl
instance iSZ46:SZ Tryz.prog 46 8:=⟨by kernel_rfl⟩
instance iFO46_2:FO Tryz.prog 46 2 4:=⟨by kernel_rfl⟩
instance iUD25:UD Tryz.prog 25 (.slice 5):=⟨Tryz.underlying25⟩
instance iFO46_4:FO Tryz.prog 46 4 6:=⟨by kernel_rfl⟩
instance iUD9:UD Tryz.prog 9 .string:=⟨Tryz.underlying9⟩
instance iFO46_0:FO Tryz.prog 46 0 0:=⟨by kernel_rfl⟩
instance iFO43_1:FO Tryz.prog 43 1 1:=⟨by kernel_rfl⟩
instance iFO43_2:FO Tryz.prog 43 2 2:=⟨by kernel_rfl⟩
theorem Gu:(Tryz.prog.info? 44).map (·.size)=some 1:=by kernel_rfl
instance iFO46_1:FO Tryz.prog 46 1 3:=⟨by kernel_rfl⟩
instance iUD44:UD Tryz.prog 44 (.slice 43):=⟨Tryz.underlying44⟩
instance iLT_Path:LenE aj.enc 3:=⟨aj.len⟩
instance iSZ43:SZ Tryz.prog 43 3:=⟨by kernel_rfl⟩
instance iAG9:AS Tryz.prog 9:=⟨by kernel_rfl⟩
instance iFO24_2:FO Tryz.prog 24 2 2:=⟨by kernel_rfl⟩
instance iAG22:AS Tryz.prog 22:=⟨by kernel_rfl⟩
theorem Fy:(Tryz.prog.info? 3).map (·.size)=some 1:=by kernel_rfl
theorem ks:(Tryz.prog.info? 46).bind (·.zero)=some (.agg #[.bool false,.string ByteArray.empty,.string ByteArray.empty,.slice none 0 0,.slice none 0 0,.bool false,.string ByteArray.empty,.int .i64 0]):=by kernel_rfl
theorem Gp:ga Tryz.prog 44 43 3 40:=⟨⟨Tryz.t43,.agg #[.bool false,.string ByteArray.empty,.string ByteArray.empty],Tryz.underlying44,by kernel_rfl,by kernel_rfl,by kernel_rfl,by kernel_rfl,by decide,by kernel_rfl⟩⟩
theorem kC:ga Tryz.prog 25 5 1 1:=⟨⟨Tryz.t5,.int .u8 0,Tryz.underlying25,by kernel_rfl,by kernel_rfl,by kernel_rfl,by kernel_rfl,by decide,by kernel_rfl⟩⟩
instance iAG44:AS Tryz.prog 44:=⟨by kernel_rfl⟩
instance iAG25:AS Tryz.prog 25:=⟨by kernel_rfl⟩
theorem Dq:ga Tryz.prog 22 46 8 120:=⟨⟨Tryz.t46,.agg #[.bool false,.string ByteArray.empty,.string ByteArray.empty,.slice none 0 0,.slice none 0 0,.bool false,.string ByteArray.empty,.int .i64 0],Tryz.underlying22,by kernel_rfl,by kernel_rfl,by kernel_rfl,by kernel_rfl,by decide,by kernel_rfl⟩⟩
theorem oH:∀ fs,Tryz.prog.underlying 24=some (.struct fs)→fs.toList.map (fun f=>(Tryz.prog.info? f.type).map (·.size))=([1,1,1]:List Nat).map some:=by
 intro fs h
 rw [Tryz.underlying24] at h
 cases h
 kernel_rfl
theorem jD:(Tryz.prog.info? 24).bind (·.zero)=some (.agg #[.int .i64 0,.int .i64 0,.slice none 0 0]):=by kernel_rfl
theorem ed:(Tryz.prog.info? 24).map (·.size)=some 3:=by kernel_rfl
instance iFO24_0:FO Tryz.prog 24 0 0:=⟨by kernel_rfl⟩
instance iAG3:AS Tryz.prog 3:=⟨by kernel_rfl⟩
instance iFO24_1:FO Tryz.prog 24 1 1:=⟨by kernel_rfl⟩
instance iAG46:AA Tryz.prog 46 8:=⟨by kernel_rfl⟩
theorem qP:∀ fs,Tryz.prog.underlying 43=some (.struct fs)→fs.toList.map (fun f=>(Tryz.prog.info? f.type).map (·.size))=([1,1,1]:List Nat).map some:=by
 intro fs h
 rw [Tryz.underlying43] at h
 cases h
 kernel_rfl
theorem jr:(Tryz.prog.info? 43).bind (·.zero)=some (.agg #[.bool false,.string ByteArray.empty,.string ByteArray.empty]):=by kernel_rfl
instance iAG43:AA Tryz.prog 43 3:=⟨by kernel_rfl⟩
theorem Ki:(Tryz.prog.info? 4).bind (·.zero)=some (.bool false):=by kernel_rfl
instance iUD5:UD Tryz.prog 5 (.int .u8):=⟨Tryz.underlying5⟩
instance iUD21:UD Tryz.prog 21 (.int .i32):=⟨Tryz.underlying21⟩
theorem nM:(Tryz.prog.info? 5).map (·.size)=some 1:=by kernel_rfl
instance iUD3:UD Tryz.prog 3 (.int .i64):=⟨Tryz.underlying3⟩
instance iAG125:AS Tryz.prog 125:=⟨by kernel_rfl⟩
instance iAG4:AS Tryz.prog 4:=⟨by kernel_rfl⟩
instance iFO43_0:FO Tryz.prog 43 0 0:=⟨by kernel_rfl⟩
theorem JE:(Tryz.prog.info? 29).bind (·.zero)=some (.int .i64 0):=by kernel_rfl
theorem IU:(Tryz.prog.info? 3).bind (·.zero)=some (.int .i64 0):=by kernel_rfl
theorem tj:(Tryz.prog.info? 5).bind (·.zero)=some (.int .u8 0):=by kernel_rfl
instance iAG29:AS Tryz.prog 29:=⟨by kernel_rfl⟩
instance iFO46_3:FO Tryz.prog 46 3 5:=⟨by kernel_rfl⟩
instance iFO46_5:FO Tryz.prog 46 5 7:=⟨by kernel_rfl⟩
instance iAG24:AA Tryz.prog 24 3:=⟨by kernel_rfl⟩
theorem Gw:(Tryz.prog.info? 25).bind (·.zero)=some (.slice none 0 0):=by kernel_rfl
theorem By:((Tryz.prog.info? 109).bind (·.zero)).map (·.cells.toList)=some (List.map (Value.int .u32) (List.replicate 16 (0:Int))):=by kernel_rfl
instance iUD86:UD Tryz.prog 86 (.int .u32):=⟨Tryz.underlying86⟩
theorem EG:(Tryz.prog.info? 86).map (·.size)=some 1:=by kernel_rfl
theorem zr:(Tryz.prog.info? 109).map (·.size)=some 16:=by kernel_rfl
instance iSZ5:SZ Tryz.prog 5 1:=⟨by kernel_rfl⟩
instance iAG5:AS Tryz.prog 5:=⟨by kernel_rfl⟩
instance iUD61:UD Tryz.prog 61 (.slice 3):=⟨Tryz.underlying61⟩
instance iSZ3:SZ Tryz.prog 3 1:=⟨by kernel_rfl⟩
instance iUD51:UD Tryz.prog 51 (.int .u64):=⟨Tryz.underlying51⟩
theorem Ay:(Tryz.prog.info? 66).bind (·.zero)=some (.agg #[.int .i64 0,.int .i64 0,.int .i64 0,.int .i64 0]):=by kernel_rfl
theorem IE:ga Tryz.prog 57 9 1 16:=⟨⟨Tryz.t9,.string ByteArray.empty,Tryz.underlying57,by kernel_rfl,by kernel_rfl,by kernel_rfl,by kernel_rfl,by decide,by kernel_rfl⟩⟩
theorem Ko:(Tryz.prog.info? 9).bind (·.zero)=some (.string ByteArray.empty):=by kernel_rfl
instance iUD57:UD Tryz.prog 57 (.slice 9):=⟨Tryz.underlying57⟩
instance iSZ9:SZ Tryz.prog 9 1:=⟨by kernel_rfl⟩
theorem Gq:∀ fs,Tryz.prog.underlying 66=some (.struct fs)→fs.toList.map (fun f=>(Tryz.prog.info? f.type).map (·.size))=([1,1,1,1]:List Nat).map some:=by
 intro fs h
 rw [Tryz.underlying66] at h
 cases h
 kernel_rfl
theorem Aq:(Tryz.prog.info? 66).map (·.size)=some 4:=by kernel_rfl
theorem JD:((Tryz.prog.info? 90).bind (·.zero)).map (·.cells.toList)=some (List.map (Value.int .i64) (List.replicate 5 (0:Int))):=by kernel_rfl
instance iAG66:AA Tryz.prog 66 4:=⟨by kernel_rfl⟩
instance iFO66_0:FO Tryz.prog 66 0 0:=⟨by kernel_rfl⟩
instance iFO66_2:FO Tryz.prog 66 2 2:=⟨by kernel_rfl⟩
instance iFO66_3:FO Tryz.prog 66 3 3:=⟨by kernel_rfl⟩
theorem BP:∀ fs,Tryz.prog.underlying 46=some (.struct fs)→fs.toList.map (fun f=>(Tryz.prog.info? f.type).map (·.size))=([3,1,1,1,1,1]:List Nat).map some:=by
 intro fs h
 rw [Tryz.underlying46] at h
 cases h
 kernel_rfl
instance iFO66_1:FO Tryz.prog 66 1 1:=⟨by kernel_rfl⟩
theorem Jp:ga Tryz.prog 61 3 1 8:=⟨⟨Tryz.t3,.int .i64 0,Tryz.underlying61,by kernel_rfl,by kernel_rfl,by kernel_rfl,by kernel_rfl,by decide,by kernel_rfl⟩⟩
abbrev ae.c (x:ae) (r:List AV):List AV:=vb x.Ld.Lh::vs x.Ld.Lf::vs x.Ld.Lc :: .fl .shr 3 (flatten (map aj.enc x.To))::fb x.Lb::vb x.Lk::vs x.Le::vi x.At::r
theorem ef (l:(List ae)) (r:Bool) (h:Sh.ci l=some r):cl Tryz.prog 10 [.fr .shr true 8 (flatten (map ae.ienc l))] (.v (.bool r)):=by
 unfold Sh.ci at h
 refine yO 88 func10 fun g0 hn hio => ?_
 refine aX hn 1 [0] ?_
 refine ag ?_
 refine aX hn 3 [0,8] ?_
 refine zc h rfl (fun h => ?_) (fun h => ?_)
 refine aX hn 1 [2] ?_
 refine aC (am ?_)
 obtain rfl:=zi h
 exact aE hio rfl (.tmp _ _ .nil) rfl rfl
 refine aA (ai ?_)
 refine aX hn 1 [0,3] ?_
 refine ag ?_
 refine aX hn 1 [0,3,4] ?_
 refine aY h (fun ((s66,s67):Int×Int)=>[(0,.fr .shr true 8 (flatten (map ae.ienc l))),(3,vi s66),(4,vi s67)]) (fun (s85:Int)=>[(3,vi s85)]) ?_ ?_
 rintro s85 h
 refine ai ?_
 refine aX hn 3 [2] ?_
 refine aC ?_
 obtain rfl:=zi h
 exact aE hio rfl (.tmp _ _ .nil) rfl rfl
 rintro u86 hl87 hr88 ⟨s66,s67⟩ rr91 h ho89
 refine ag ?_
 refine aX hn 4 [0,3,4,12] ?_
 refine zc h rfl (fun h => ?_) (fun h => ?_)
 refine aA ?_
 refine ai (ag ?_)
 refine aP (ag ?_)
 obtain ⟨v3,hv3,v4,hv4,v5,hv5,v6,hv6,h⟩:=ov h
 obtain ⟨v7,hv7,v8,hv8,v9,hv9,v10,hv10,h⟩:=ov h
 obtain ⟨v11,hv11,v12,hv12,v13,hv13,v14,hv14,h⟩:=ov h
 refine wb [[3],[0],[4]] ?_
 refine wN [16,17] ?_
 refine wo [[18,16]] ⟨lI hv3⟩ ?_
 refine wN [19,16] ?_
 refine wS (fb v4.Lb) [[20]] ⟨gf _ _ _ _ _ _ _ underlying25 rfl rfl rfl (gq ae.ilen hv4 rfl) (.fl _ _ rfl)⟩ ?_
 refine wN [15,21] ?_
 refine wo [[0],[4]] ⟨lb hv5⟩ ?_
 refine wN [23,24] ?_
 refine wo [[25,23]] ⟨lI hv6⟩ ?_
 refine wN [26,23] ?_
 refine wS (vs v7.Le) [[27]] ⟨gf _ _ _ _ _ _ _ underlying9 rfl rfl rfl (gq ae.ilen hv7 rfl) (.v _)⟩ ?_
 refine wN [22,28] ?_
 refine wo [[0],[4]] ⟨lb hv8⟩ ?_
 refine wN [30,31] ?_
 refine wo [[32,30],[33,30]] ⟨lI hv9⟩ ?_
 refine wN [34,30] ?_
 refine wS (vs v10.Ld.Lf) [[35]] ⟨gf _ _ _ _ _ _ _ underlying9 rfl rfl rfl (gq (j:=1) ae.ilen hv10 rfl) (.v _)⟩ ?_
 refine wN [29,36] ?_
 refine wo [[0],[4]] ⟨lb hv11⟩ ?_
 refine wN [38,39] ?_
 refine wo [[40,38],[41,38]] ⟨lI hv12⟩ ?_
 refine wN [42,38] ?_
 refine wS (vs v13.Ld.Lc) [[43]] ⟨gf _ _ _ _ _ _ _ underlying9 rfl rfl rfl (gq (j:=2) ae.ilen hv13 rfl) (.v _)⟩ ?_
 refine wN [37,44] ?_
 refine wo [] ⟨lb hv14⟩ ?_
 refine wK [3] [45] ?_
 refine wt [(3,vi v14)] [] ⟨bD.drop [_] (nt _ _ _ _ rfl rfl)⟩ ?_
 refine sI hn [0,4,3] ?_
 refine ag (ag ?_)
 obtain ⟨v15,hv15,v16,hv16,h⟩:=fK h
 refine yx hn 2 ?_
 refine ys 1 ⟨lI hv15⟩ ?_
 refine yS (.fl .shr 3 (flatten (map aj.enc v16.To))) 2 ⟨gf _ _ _ _ _ _ _ underlying44 rfl rfl rfl (gq ae.ilen hv16 rfl) (.fl _ _ rfl)⟩ ?_
 refine bH [0,4,3,52] ?_
 refine zc h rfl (fun h => ?_) (fun h => ?_)
 refine aX hn 1 [2] ?_
 refine aC (am (aV (am (am (aV (am ?_))))))
 have h:=hr88 _ (ho89 _ (zi h).symm).symm
 obtain rfl:=zi h
 exact aE hio rfl (.tmp _ _ .nil) rfl rfl
 refine aA (ai ?_)
 refine aX hn 1 [0,4,3,5] ?_
 refine aY h (fun ((s98,s99):Int×Int)=>[(0,.fr .shr true 8 (flatten (map ae.ienc l))),(4,vi s67),(3,vi s98),(5,vi s99)]) (fun (s101:Int)=>[(0,.fr .shr true 8 (flatten (map ae.ienc l))),(4,vi s67),(3,vi s101)]) ?_ ?_
 rintro s101 h
 refine br (ai ?_)
 obtain ⟨v46,hv46,h⟩:=zn h
 refine yx hn 1 ?_
 refine ys 0 ⟨lb hv46⟩ ?_
 refine yw [4] 1 ?_
 refine ye [0,3,4] ?_
 exact bC _ (zi h).symm rfl
 rintro u102 hl103 hr104 ⟨s98,s99⟩ rr107 h ho105
 refine ag (ag ?_)
 obtain ⟨v18,hv18,v19,hv19,h⟩:=fK h
 refine yx hn 3 ?_
 refine ys 1 ⟨lI hv18⟩ ?_
 refine yS (.fl .shr 3 (flatten (map aj.enc v19.To))) 2 ⟨gf _ _ _ _ _ _ _ underlying44 rfl rfl rfl (gq ae.ilen hv19 rfl) (.fl _ _ rfl)⟩ ?_
 refine bH [0,4,3,5,60] ?_
 refine zc h rfl (fun h => ?_) (fun h => ?_)
 refine aA ?_
 refine ai (ag ?_)
 refine aP ?_
 obtain ⟨v21,hv21,v22,hv22,v23,hv23,v24,hv24,h⟩:=ov h
 obtain ⟨v25,hv25,v26,hv26,v27,hv27,v28,hv28,h⟩:=ov h
 obtain ⟨v29,hv29,v30,hv30,h⟩:=fK h
 refine wb [[3],[0],[4]] ?_
 refine wN [64,65] ?_
 refine wo [[66,64]] ⟨lI hv21⟩ ?_
 refine wN [67,64] ?_
 refine wS (.fl .shr 3 (flatten (map aj.enc v22.To))) [[5]] ⟨gf _ _ _ _ _ _ _ underlying44 rfl rfl rfl (gq ae.ilen hv22 rfl) (.fl _ _ rfl)⟩ ?_
 refine wN [68,69] ?_
 refine wo [[70,68]] ⟨lj hv23⟩ ?_
 refine wN [71,68] ?_
 refine wo [[72]] ⟨lL hv24⟩ ?_
 refine wN [63,73] ?_
 refine wo [[0],[4]] ⟨lb hv25⟩ ?_
 refine wN [75,76] ?_
 refine wo [[77,75]] ⟨lI hv26⟩ ?_
 refine wN [78,75] ?_
 refine wS (.fl .shr 3 (flatten (map aj.enc v27.To))) [[5]] ⟨gf _ _ _ _ _ _ _ underlying44 rfl rfl rfl (gq ae.ilen hv27 rfl) (.fl _ _ rfl)⟩ ?_
 refine wN [79,80] ?_
 refine wo [[81,79]] ⟨lj hv28⟩ ?_
 refine wN [82,79] ?_
 refine wo [[83]] ⟨lL hv29⟩ ?_
 refine wN [74,84] ?_
 refine wo [] ⟨lb hv30⟩ ?_
 refine wK [3] [85] ?_
 refine wt [(3,vi v30)] [] ⟨bD.drop [_] (nt _ _ _ _ rfl rfl)⟩ ?_
 refine we hn [0,4,5,3] ?_
 refine br (ai ?_)
 obtain ⟨v31,hv31,h⟩:=zn h
 refine yx hn 1 ?_
 refine ys 0 ⟨lb hv31⟩ ?_
 refine yw [5] 1 ?_
 refine ye [0,4,3,5] ?_
 exact bC _ (zi h).symm rfl
 refine bk (aD (aD (bo ?_)))
 refine aB [0,1,2] (by kernel_rfl) (es':=[(_,_),(_,_),(_,_)]) rfl ?_
 exact hl103 _ (ho105 _ (zi h).symm).symm
 refine bk (aD (aD (bo ?_)))
 refine aB [1] (by kernel_rfl) (es':=[(_,_)]) rfl ?_
 exact hl87 _ (ho89 _ (zi h).symm).symm
theorem il (l:(List aj)) (r:(List aj)) (h:Sh.dm l=some r):cl Tryz.prog 47 [.fl .shr 3 (flatten (map aj.enc l))] (.fl (.own 43) 3 (flatten (map aj.enc r))):=by
 unfold Sh.dm at h
 refine yO 7 func47 fun g0 hn hio => ?_
 refine aX hn 1 [0] ?_
 refine aX hn 1 [0,3] ?_
 refine ag ?_
 obtain ⟨v1,hv1,h⟩:=zn h
 refine yx hn 2 ?_
 refine yS (.fl (.own 43) 3 (flatten (map aj.enc v1))) 0 ⟨su _ _ _ _ Gp rfl rfl (kx aj.len _) hv1 (congrArg (fun l=>flatten (map _ l)) (rB hv1))⟩ ?_
 refine ya 0 ?_
 refine bH [2] ?_
 refine aC ?_
 obtain rfl:=zi h
 exact aE hio rfl (.tmp _ _ .nil) rfl rfl
theorem gU (l:(List Int)) (r:(List Int)) (h:Sh.dF l=some r):cl Tryz.prog 12 [.fl .shr 1 (map (int .u8) l)] (.fl (.own 5) 1 (map (int .u8) r)):=by
 unfold Sh.dF at h
 refine yO 7 func12 fun g0 hn hio => ?_
 refine aX hn 1 [0] ?_
 refine aX hn 1 [0,3] ?_
 refine ag ?_
 obtain ⟨v1,hv1,h⟩:=zn h
 refine yx hn 2 ?_
 refine yS (.fl (.own 5) 1 (map (int .u8) v1)) 0 ⟨su _ _ _ _ kC rfl rfl (gN _) hv1 (congrArg (map _) (rB hv1))⟩ ?_
 refine ya 0 ?_
 refine bH [2] ?_
 refine aC ?_
 obtain rfl:=zi h
 exact aE hio rfl (.tmp _ _ .nil) rfl rfl
theorem lG (m:ae) (r:ae) (h:Sh.dE m=some r):cl Tryz.prog 29 [.agg [.v (.bool m.Ld.Lh),.v (.string m.Ld.Lf),.v (.string m.Ld.Lc),.fl .shr 3 (flatten (map aj.enc m.To)),.fl .shr 1 (map (int .u8) m.Lb),.v (.bool m.Lk),.v (.string m.Le),.v (.int .i64 m.At)]] (.agg [.v (.bool r.Ld.Lh),.v (.string r.Ld.Lf),.v (.string r.Ld.Lc),.fl (.own 43) 3 (flatten (map aj.enc r.To)),.fl (.own 5) 1 (map (int .u8) r.Lb),.v (.bool r.Lk),.v (.string r.Le),.v (.int .i64 r.At)]):=by
 unfold Sh.dE at h
 refine yO 12 func29 fun g0 hn hio => ?_
 refine gh hn 1 ?_
 refine yS (.box 46 [vb false,vs z0,vs z0,vz,vz,vb false,vs z0,vi 0]) 0 ⟨oA (bu _ _ ks)⟩ ?_
 refine bH [1,2] ?_
 refine ag ?_
 obtain ⟨v1,hv1,v2,hv2,h⟩:=fK h
 refine wb [[1],[3,1]] ?_
 refine wN [4] ?_
 refine wo [[1],[6,1]] ⟨lk call47 (il _ _ hv1)⟩ ?_
 refine wN [7] ?_
 refine wo [[1]] ⟨lk call12 (gU _ _ hv2)⟩ ?_
 refine wK [5,1] [9] ?_
 refine wt [(1,.box 46 [vb m.Ld.Lh,vs m.Ld.Lf,vs m.Ld.Lc,.fl (.own 43) 3 (flatten (map aj.enc v1)),fb m.Lb,vb m.Lk,vs m.Le,vi m.At])] [[1]] ⟨aR _ _ _ _ _ _ _ _ Gu rfl rfl rfl (zl rfl) rfl rfl⟩ ?_
 refine wK [8,1] [10] ?_
 refine wt [(1,.box 46 [vb m.Ld.Lh,vs m.Ld.Lf,vs m.Ld.Lc,.fl (.own 43) 3 (flatten (map aj.enc v1)),.fl (.own 5) 1 (map (int .u8) v2),vb m.Lk,vs m.Le,vi m.At])] [] ⟨aR _ _ _ _ _ _ _ _ qX rfl rfl rfl (zl rfl) rfl rfl⟩ ?_
 refine sI hn [1,2] ?_
 refine gh hn 0 ?_
 refine yk [1] [] ?_
 refine yt (11,.agg [vb m.Ld.Lh,vs m.Ld.Lf,vs m.Ld.Lc,.fl (.own 43) 3 (flatten (map aj.enc v1)),.fl (.own 5) 1 (map (int .u8) v2),vb m.Lk,vs m.Le,vi m.At]) 0 ⟨aT _ _ _ _ underlying46 rfl eC rfl rfl⟩ ?_
 refine yk [11,2] [] ?_
 refine yt (2,.box 46 [vb m.Ld.Lh,vs m.Ld.Lf,vs m.Ld.Lc,.fl (.own 43) 3 (flatten (map aj.enc v1)),.fl (.own 5) 1 (map (int .u8) v2),vb m.Lk,vs m.Le,vi m.At]) 0 ⟨aR _ _ _ _ _ _ _ _ eC rfl rfl rfl (zl rfl) rfl rfl⟩ ?_
 refine bH [2] ?_
 refine aC ?_
 obtain rfl:=zi h
 exact aE hio rfl (.cellA _ _ _ _ underlying46 rfl eC .nil) rfl rfl
theorem ii (l:(List ae)) (r:(List ae)) (h:Sh.dp l=some r):cl Tryz.prog 11 [.fr .shr true 8 (flatten (map ae.ienc l))] (.fr (.own 46) false 8 (flatten (map ae.ienc r))):=by
 unfold Sh.dp at h
 refine yO 20 func11 fun g0 hn hio => ?_
 refine aX hn 1 [0] ?_
 refine aX hn 1 [0,3] ?_
 refine ag ?_
 refine aX hn 1 [0,3,4] ?_
 refine gX (fs:=[(0,.fr .shr true 8 (flatten (map ae.ienc l))),(3,.fr (.own 46) false 8 (flatten (map ae.ienc []))),(4,vi 0)]) (.same _ (.sub _ (dB 46 false 8) rfl (.same _ .nil))) ?_
 refine aY h (fun ((s10,s11):(List ae)×Int)=>[(0,.fr .shr true 8 (flatten (map ae.ienc l))),(3,.fr (.own 46) false 8 (flatten (map ae.ienc s10))),(4,vi s11)]) (fun (s13:(List ae))=>[(3,.fr (.own 46) false 8 (flatten (map ae.ienc s13)))]) ?_ ?_
 rintro s13 h
 refine ai ?_
 refine gh hn 0 ?_
 refine ym 0 ?_
 refine ya 0 ?_
 refine bH [2] ?_
 refine aC ?_
 obtain rfl:=zi h
 exact aE hio rfl (.tmp _ _ .nil) rfl rfl
 rintro u14 hl15 hr16 ⟨s10,s11⟩ rr19 h ho17
 refine ag ?_
 refine aX hn 4 [0,3,4,8] ?_
 refine zc h rfl (fun h => ?_) (fun h => ?_)
 refine aA ?_
 refine ai (ag ?_)
 refine aP ?_
 obtain ⟨v2,hv2,v3,hv3,v4,hv4,v5,hv5,h⟩:=ov h
 refine yx hn 0 ?_
 refine ym 2 ?_
 refine ys 0 ⟨lI hv2⟩ ?_
 refine yS (.agg (ae.c v3 [])) 0 ⟨dX _ _ _ _ _ _ _ _ underlying46 rfl eC rfl rfl (eY ae.ilen hv3) (.cons (.v _) (.cons (.v _) (.cons (.v _) (.cons (.fl _ _ rfl) (.cons (.fl _ _ rfl) (.cons (.v _) (.cons (.v _) (.cons (.v _) (.nil))))))))) rfl (by decide)⟩ ?_
 refine ys 0 ⟨lk call29 (lG _ _ hv4)⟩ ?_
 refine yk [16] [] ?_
 refine yt (17,.fr (.own 46) false 8 (flatten (map ae.ienc [(ae.mk (aj.mk v4.Ld.Lh v4.Ld.Lf v4.Ld.Lc) v4.To v4.Lb v4.Lk v4.Le v4.At)]))) 0 ⟨fZ _ _ _ 8 (.agg #[.bool false,.string ByteArray.empty,.string ByteArray.empty,.slice none 0 0,.slice none 0 0,.bool false,.string ByteArray.empty,.int .i64 0]) false _ _ underlying22 eC ks rfl (.cons (.v _) (.cons (.v _) (.cons (.v _) (.cons (.ro _ _ rfl) (.cons (.ro _ _ rfl) (.cons (.v _) (.cons (.v _) (.cons (.v _) (.nil))))))))) rfl (by decide) (by decide)⟩ ?_
 refine yk [11] [17] ?_
 refine pX (11,.any) (18,.fr (.own 46) false 8 (flatten (map ae.ienc v5))) 0 ⟨qf _ _ _ _ _ Dq rfl rfl (ei ae.ilen _) (ei ae.ilen _) hv5 (lu (jb hv5)) (by decide) (by decide)⟩ ?_
 refine ya 0 ?_
 refine ye [0,4,3] ?_
 refine br (ai ?_)
 obtain ⟨v6,hv6,h⟩:=zn h
 refine yx hn 1 ?_
 refine ys 0 ⟨lb hv6⟩ ?_
 refine yw [4] 1 ?_
 refine ye [0,3,4] ?_
 exact bC _ (zi h).symm rfl
 refine bk (aD (aD (bo ?_)))
 refine aB [1] (by kernel_rfl) (es':=[(_,_)]) rfl ?_
 exact hl15 _ (ho17 _ (zi h).symm).symm
theorem nK (s:Ll) (sep:Ll) (sepSave:Int) (r:(Ll×Ll×Int)) (h:Sh.jh s sep sepSave=some r):cl Tryz.prog 155 [.v (.string s),.v (.string sep),.v (.int .i64 sepSave)] (.cloB 161 [.box 9 [.v (.string r.1)],.box 9 [.v (.string r.2.1)],.box 3 [.v (.int .i64 r.2.2)]]):=by
 unfold Sh.jh at h
 refine yO 8 func155 fun g0 hn hio => ?_
 refine aX hn 4 [3,4,5] ?_
 refine gh hn 0 ?_
 refine yk [4,3,5] [] ?_
 refine yt (7,.cloB 161 [.box 9 [vs sep],.box 9 [vs s],.box 3 [vi sepSave]]) 0 ⟨wT _ _ [4,3,5] [.box 9 [vs sep],.box 9 [vs s],.box 3 [vi sepSave]] rfl rfl rfl⟩ ?_
 refine ya 0 ?_
 refine bH [6] ?_
 refine aC ?_
 obtain rfl:=zi h
 exact aE hio rfl (.tmp _ _ .nil) rfl rfl
theorem jM (s:Ll) (sep:Ll) (r:(Ll×Ll×Int)) (h:Sh.fD s sep=some r):cl Tryz.prog 135 [.v (.string s),.v (.string sep)] (.cloB 161 [.box 9 [.v (.string r.1)],.box 9 [.v (.string r.2.1)],.box 3 [.v (.int .i64 r.2.2)]]):=by
 unfold Sh.fD at h
 refine yO 8 func135 fun g0 hn hio => ?_
 refine aX hn 1 [0,1] ?_
 refine ag ?_
 obtain ⟨v1,hv1,h⟩:=zn h
 refine yx hn 2 ?_
 refine yk [] [5,6] ?_
 refine yt (7,.cloB 161 [.box 9 [vs v1.1],.box 9 [vs v1.2.1],.box 3 [vi v1.2.2]]) 0 ⟨jq _ _ 155 _ _ rfl call155 rfl rfl (nK s sep 0 _ hv1) rfl⟩ ?_
 refine ya 0 ?_
 refine bH [4] ?_
 refine aC ?_
 obtain rfl:=zi h
 exact aE hio rfl (.tmp _ _ .nil) rfl rfl
theorem gu (mx:Int) (s:Ll) (r:(Int×Int)) (h:Sh.dc s=some r):kF Tryz.prog (GL mx) 143 [.v (.string s)] (.tup [.v (.int .i32 r.1),.v (.int .i64 r.2)]):=by
 unfold Sh.dc at h
 refine yG 117 func143 fun g0 hn hio => ?_
 refine aX hn 2 [0,117] ?_
 refine aX hn 3 [0,117,4] ?_
 refine ag ?_
 refine aX hn 2 [0,117,4,16] ?_
 refine zc h rfl (fun h => ?_) (fun h => ?_)
 refine aX hn 2 [117,2,3] ?_
 refine aC ?_
 refine aB [1,2] (by kernel_rfl) (es':=[(_,_),(_,_)]) rfl ?_
 refine am ?_
 obtain rfl:=zi h
 exact aE hio rfl (.tmp _ _ (.tmp _ _ .nil)) rfl rfl
 refine aA ?_
 refine ai (ag ?_)
 obtain ⟨v2,hv2,h⟩:=zn h
 refine yx hn 1 ?_
 refine ys 1 ⟨lh hv2⟩ ?_
 refine bH [0,117,4,5] ?_
 refine ag ?_
 obtain ⟨v3,hv3,v4,hv4,h⟩:=fK h
 refine yx hn 1 ?_
 refine yS (.v (.pointer (some ⟨6,(0+v3 * 1),none⟩))) 0 ⟨vM _ _ _ _ 256 6 0 _ 1 _ underlying183 nM rfl rfl (ez hv3).1 (ez hv3).2⟩ ?_
 refine yS (.v (.int .u8 v4)) 1 ⟨uM _ _ 117 6 _ _ _ underlying5 rfl rfl rfl (zP mx) (kh hv4)⟩ ?_
 refine bH [0,117,4,5,6] ?_
 refine ag ?_
 refine aX hn 2 [0,117,4,5,6,23] ?_
 refine zc h rfl (fun h => ?_) (fun h => ?_)
 refine ag ?_
 obtain ⟨v6,hv6,v7,hv7,v8,hv8,h⟩:=mh h
 refine yx hn 1 ?_
 refine ys 0 ⟨lv hv6⟩ ?_
 refine ys 0 ⟨lB (uH hv7)⟩ ?_
 refine ys 1 ⟨lB (qj hv8)⟩ ?_
 refine bH [0,117,7] ?_
 refine ag ?_
 obtain ⟨v9,hv9,v10,hv10,v11,hv11,v12,hv12,h⟩:=ov h
 obtain ⟨v13,hv13,h⟩:=zn h
 refine yx hn 1 ?_
 refine ys 0 ⟨lh hv9⟩ ?_
 refine ys 1 ⟨lv hv10⟩ ?_
 refine ys 1 ⟨lb hv11⟩ ?_
 refine ys 0 ⟨lb hv12⟩ ?_
 refine ys 2 ⟨lb hv13⟩ ?_
 refine bH [117,2,3] ?_
 refine aC ?_
 refine aB [1,2] (by kernel_rfl) (es':=[(_,_),(_,_)]) rfl ?_
 refine am ?_
 obtain rfl:=zi h
 exact aE hio rfl (.tmp _ _ (.tmp _ _ .nil)) rfl rfl
 cases h
theorem gV (mx:Int) (s:Ll) (r:(Int×Int)) (h:Sh.dH s=some r):kF Tryz.prog (GL mx) 117 [.v (.string s)] (.tup [.v (.int .i32 r.1),.v (.int .i64 r.2)]):=by
 unfold Sh.dH at h
 refine yG 19 func117 fun g0 hn hio => ?_
 refine aX hn 2 [0,19] ?_
 refine ag (ag ?_)
 refine aM h (fun (s2:Bool)=>[(0,vs s),(19,.glob (GL mx)),(10,vb s2)]) ?_ ?_
 rintro s2 h
 refine ai ?_
 refine zc h rfl (fun h => ?_) (fun h => ?_)
 refine ag ?_
 obtain ⟨v7,hv7,v8,hv8,h⟩:=fK h
 refine yx hn 1 ?_
 refine ys 0 ⟨lh hv7⟩ ?_
 refine ys 2 ⟨lv hv8⟩ ?_
 refine bH [19,2,3] ?_
 refine aC ?_
 refine aB [1,2] (by kernel_rfl) (es':=[(_,_),(_,_)]) rfl ?_
 refine am ?_
 obtain rfl:=zi h
 exact aE hio rfl (.tmp _ _ (.tmp _ _ .nil)) rfl rfl
 obtain ⟨v9,hv9,h⟩:=zn h
 refine yx hn 1 ?_
 refine ys 0 ⟨lg call143 (gu _ _ _ hv9) 19⟩ ?_
 refine ym 4 ?_
 refine bH [19,2,3] ?_
 refine aC ?_
 refine aB [1,2] (by kernel_rfl) (es':=[(_,_),(_,_)]) rfl ?_
 obtain rfl:=zi h
 exact aE hio rfl (.tmp _ _ (.tmp _ _ .nil)) rfl rfl
 intro u3 h hl4 hr5
 refine au h (fun hg1_2 h => ?_) (fun hg1_2 h => ?_)
 obtain ⟨v1,hv1,h⟩:=zn h
 refine yx hn 3 ?_
 refine yd hg1_2 1 ?_
 refine ys 2 ⟨lh hv1⟩ ?_
 refine ye [0,19,10] ?_
 exact hl4 _ (zi h).symm
 refine yx hn 3 ?_
 refine yd hg1_2 4 ?_
 refine ye [0,19,10] ?_
 exact hl4 _ (zi h).symm
theorem lz (s sub:Ll) (r:Int) (h:Sh.de s sub=some r):cl Tryz.prog 98 [.v (.string s),.v (.string sub)] (.v (.int .i64 r)):=kE Tryz.strings_Index_one s sub r h
theorem iT (mx:Int) (l:Nat) {S:Type} (J:S→kL) (Y:Ll→S→Option (S×Bool)) (hY:pj Tryz.prog l (fun x => .v (.string x)) Y J) (c0:Ll) (c1:Ll) (c2:Int) (st r:S) (h:Sh.cK Y c0 c1 c2 st=some r):Ia Tryz.prog (GL mx) 161 l [.box 9 [.v (.string c0)],.box 9 [.v (.string c1)],.box 3 [.v (.int .i64 c2)]] (J st) (J r):=by
 unfold Sh.cK at h
 refine yI 52 func161 fun g0 hn hio => ?_
 refine ag ?_
 refine aX hn 3 [0,1,2,3,52,53,11] ?_
 refine zc h rfl (fun h => ?_) (fun h => ?_)
 refine ag ?_
 refine jQ [0,2,4,5] (by kernel_rfl) (es':=[(_,_),(_,_),(_,_),(_,_)]) rfl ?_
 refine aY h (fun ((s12,s13):Ll×S)=>[(0,.v (.func (.yield l) #[] #[])),(2,.box 9 [vs s12]),(52,.glob (GL mx)),(53,.inv (J s13))]) (fun (s16:S)=>[(52,.glob (GL mx)),(53,.inv (J s16))]) ?_ ?_
 rintro s16 h
 refine ai (aC ?_)
 refine aB [1] (by kernel_rfl) (es':=[(53,.inv (J s16))]) rfl ?_
 refine am ?_
 obtain rfl:=zi h
 exact rp hio rfl rfl rfl
 rintro u17 hl18 hr19 ⟨s12,s13⟩ rr22 h ho20
 refine ag ?_
 refine aX hn 3 [0,2,52,53,14] ?_
 refine zc h rfl (fun h => ?_) (fun h => ?_)
 refine aA (ai (aP (ag ?_)))
 obtain ⟨v3,hv3,h⟩:=zn h
 refine yx hn 1 ?_
 refine ys 0 ⟨lg call117 (gV _ _ _ hv3) 52⟩ ?_
 refine ym 4 ?_
 refine bH [0,2,52,53,6] ?_
 refine ag (ag ?_)
 obtain ⟨v4,hv4,v5,hv5,h⟩:=fK h
 refine yx hn 3 ?_
 refine yS (vs v4) 0 ⟨cI _ _ _ 0 v3.2 _ underlying9 rfl rfl ⟨_,rfl⟩ hv4⟩ ?_
 refine yk [53] [23,20] ?_
 refine pX (53,.inv (J v5.1)) (24,vb v5.2) 1 ⟨oW _ _ 53 l v4 s13 v5 hY hv5 rfl rfl rfl⟩ ?_
 refine bH [0,2,52,53,6,25] ?_
 refine zc h rfl (fun h => ?_) (fun h => ?_)
 refine aC ?_
 refine aB [3] (by kernel_rfl) (es':=[(53,.inv (J v5.1))]) rfl ?_
 refine am (aV (am (aV (am (am ?_)))))
 have h:=hr19 _ (ho20 _ (zi h).symm).symm
 obtain rfl:=zi h
 exact rp hio rfl rfl rfl
 refine aA (ai ?_)
 obtain ⟨v7,hv7,h⟩:=zn h
 refine yx hn 2 ?_
 refine yS (vs v7) 1 ⟨cI _ _ _ v3.2 (s12.size:Int) _ underlying9 rfl ⟨_,rfl⟩ rfl hv7⟩ ?_
 refine ye [0,2,52,53] ?_
 refine br ?_
 exact bC _ (zi h).symm rfl
 refine bk (aD (aD (bo ?_)))
 refine aB [2,3] (by kernel_rfl) (es':=[(_,_),(_,_)]) rfl ?_
 exact hl18 _ (ho20 _ (zi h).symm).symm
 refine aA ?_
 refine ai (ag ?_)
 refine jQ [0,1,2,3,4,5] (by kernel_rfl) (es':=[(_,_),(_,_),(_,_),(_,_),(_,_),(_,_)]) rfl ?_
 refine aY h (fun ((s37,s38):Ll×S)=>[(0,.v (.func (.yield l) #[] #[])),(1,.box 9 [vs c0]),(2,.box 9 [vs s37]),(3,.box 3 [vi c2]),(52,.glob (GL mx)),(53,.inv (J s38))]) (fun ((s41,s42):Ll×S)=>[(0,.v (.func (.yield l) #[] #[])),(2,.box 9 [vs s41]),(52,.glob (GL mx)),(53,.inv (J s42))]) ?_ ?_
 rintro ⟨s41,s42⟩ h
 refine ai ?_
 obtain ⟨v51,hv51,h⟩:=zn h
 refine yx hn 2 ?_
 refine yk [53] [50,49] ?_
 refine pX (53,.inv (J v51.1)) (51,vb v51.2) 0 ⟨oW _ _ 53 l s41 s42 v51 hY hv51 rfl rfl rfl⟩ ?_
 refine ye [52,53] ?_
 refine aB [1] (by kernel_rfl) (es':=[(53,.inv (J v51.1))]) rfl ?_
 obtain rfl:=zi h
 exact EC hio rfl rfl rfl
 rintro u43 hl44 hr45 ⟨s37,s38⟩ rr48 h ho46
 refine aP (ag ?_)
 obtain ⟨v25,hv25,h⟩:=zn h
 refine yx hn 2 ?_
 refine ys 1 ⟨lk call98 (lz _ _ _ hv25)⟩ ?_
 refine bH [0,1,2,3,52,53,7] ?_
 refine ag ?_
 refine aX hn 2 [0,1,2,3,52,53,7,33] ?_
 refine zc h rfl (fun h => ?_) (fun h => ?_)
 refine bk (aD ?_)
 refine kZ (by decide) ?_
 refine aD (bo ?_)
 refine aB [0,2,4,5] (by kernel_rfl) (es':=[(_,_),(_,_),(_,_),(_,_)]) rfl ?_
 exact hl44 _ (ho46 _ (zi h).symm).symm
 refine aA ?_
 refine ai (ag ?_)
 obtain ⟨v27,hv27,v28,hv28,h⟩:=fK h
 refine yx hn 3 ?_
 refine ys 0 ⟨lb hv27⟩ ?_
 refine yS (vs v28) 1 ⟨cI _ _ _ 0 v27 _ underlying9 rfl rfl ⟨_,rfl⟩ hv28⟩ ?_
 refine bH [0,1,2,3,52,53,7,8] ?_
 refine ag (ag ?_)
 obtain ⟨v29,hv29,h⟩:=zn h
 refine yx hn 2 ?_
 refine yk [53] [40,39] ?_
 refine pX (53,.inv (J v29.1)) (41,vb v29.2) 1 ⟨oW _ _ 53 l v28 s38 v29 hY hv29 rfl rfl rfl⟩ ?_
 refine bH [0,1,2,3,52,53,7,42] ?_
 refine zc h rfl (fun h => ?_) (fun h => ?_)
 refine aC ?_
 refine aB [5] (by kernel_rfl) (es':=[(53,.inv (J v29.1))]) rfl ?_
 refine am (aV (am (aV (am ?_))))
 have h:=hr45 _ (ho46 _ (zi h).symm).symm
 obtain rfl:=zi h
 exact rp hio rfl rfl rfl
 refine aA (ai ?_)
 obtain ⟨v31,hv31,v32,hv32,h⟩:=fK h
 refine yx hn 4 ?_
 refine ys 0 ⟨lb hv31⟩ ?_
 refine yS (vs v32) 1 ⟨cI _ _ _ v31 (s37.size:Int) _ underlying9 rfl ⟨_,rfl⟩ rfl hv32⟩ ?_
 refine ye [0,1,2,3,52,53] ?_
 refine br ?_
 exact bC _ (zi h).symm rfl
theorem ff (c:Int) (r:Bool) (h:Sh.fW c=some r):cl Tryz.prog 138 [.v (.int .u8 c)] (.v (.bool r)):=by
 unfold Sh.fW at h
 refine yO 25 func138 fun g0 hn hio => ?_
 refine aX hn 1 [0] ?_
 refine ag ?_
 refine aM h (fun (s1:Bool)=>[(2,vb s1)]) ?_ ?_
 rintro s1 h
 refine ai (aC ?_)
 obtain rfl:=zi h
 exact aE hio rfl (.tmp _ _ .nil) rfl rfl
 intro u2 h hl3 hr4
 refine au h (fun hg1_2 h => ?_) (fun hg1_2 h => ?_)
 refine au h (fun hg1_6 h => ?_) (fun hg1_6 h => ?_)
 refine yx hn 3 ?_
 refine yd hg1_2 4 ?_
 refine yd hg1_6 16 ?_
 refine ye [2] ?_
 exact hl3 _ (zi h).symm
 refine au h (fun hg1_9 h => ?_) (fun hg1_9 h => ?_)
 refine au h (fun hg1_14 h => ?_) (fun hg1_14 h => ?_)
 refine yx hn 3 ?_
 refine yd hg1_2 4 ?_
 refine yd hg1_6 3 ?_
 refine yd hg1_9 5 ?_
 refine yd hg1_14 8 ?_
 refine ye [2] ?_
 exact hl3 _ (zi h).symm
 refine au h (fun hg1_17 h => ?_) (fun hg1_17 h => ?_)
 refine yx hn 3 ?_
 refine yd hg1_2 4 ?_
 refine yd hg1_6 3 ?_
 refine yd hg1_9 5 ?_
 refine yd hg1_14 3 ?_
 refine yd hg1_17 5 ?_
 refine ye [2] ?_
 exact hl3 _ (zi h).symm
 refine yx hn 3 ?_
 refine yd hg1_2 4 ?_
 refine yd hg1_6 3 ?_
 refine yd hg1_9 5 ?_
 refine yd hg1_14 3 ?_
 refine yd hg1_17 5 ?_
 refine ye [2] ?_
 exact hl3 _ (zi h).symm
 refine au h (fun hg1_17 h => ?_) (fun hg1_17 h => ?_)
 refine yx hn 3 ?_
 refine yd hg1_2 4 ?_
 refine yd hg1_6 3 ?_
 refine yd hg1_9 8 ?_
 refine yd hg1_17 5 ?_
 refine ye [2] ?_
 exact hl3 _ (zi h).symm
 refine yx hn 3 ?_
 refine yd hg1_2 4 ?_
 refine yd hg1_6 3 ?_
 refine yd hg1_9 8 ?_
 refine yd hg1_17 5 ?_
 refine ye [2] ?_
 exact hl3 _ (zi h).symm
 refine au h (fun hg1_9 h => ?_) (fun hg1_9 h => ?_)
 refine au h (fun hg1_14 h => ?_) (fun hg1_14 h => ?_)
 refine yx hn 3 ?_
 refine yd hg1_2 7 ?_
 refine yd hg1_9 5 ?_
 refine yd hg1_14 8 ?_
 refine ye [2] ?_
 exact hl3 _ (zi h).symm
 refine au h (fun hg1_17 h => ?_) (fun hg1_17 h => ?_)
 refine yx hn 3 ?_
 refine yd hg1_2 7 ?_
 refine yd hg1_9 5 ?_
 refine yd hg1_14 3 ?_
 refine yd hg1_17 5 ?_
 refine ye [2] ?_
 exact hl3 _ (zi h).symm
 refine yx hn 3 ?_
 refine yd hg1_2 7 ?_
 refine yd hg1_9 5 ?_
 refine yd hg1_14 3 ?_
 refine yd hg1_17 5 ?_
 refine ye [2] ?_
 exact hl3 _ (zi h).symm
 refine au h (fun hg1_17 h => ?_) (fun hg1_17 h => ?_)
 refine yx hn 3 ?_
 refine yd hg1_2 7 ?_
 refine yd hg1_9 8 ?_
 refine yd hg1_17 5 ?_
 refine ye [2] ?_
 exact hl3 _ (zi h).symm
 refine yx hn 3 ?_
 refine yd hg1_2 7 ?_
 refine yd hg1_9 8 ?_
 refine yd hg1_17 5 ?_
 refine ye [2] ?_
 exact hl3 _ (zi h).symm
theorem mZ (s:Ll) (c r:Int) (h:Sh.strings_IndexByte s c=some r):cl Tryz.prog 139 [.v (.string s),.v (.int .u8 c)] (.v (.int .i64 r)):=lV Tryz.strings_IndexByte s c r h
theorem sF (c:Int) (r:Bool) (h:Sh.hH c=some r):cl Tryz.prog 137 [.v (.int .u8 c)] (.v (.bool r)):=by
 unfold Sh.hH at h
 refine yO 10 func137 fun g0 hn hio => ?_
 refine aX hn 1 [0] ?_
 refine ag ?_
 refine aM h (fun (s3:Bool)=>[(2,vb s3)]) ?_ ?_
 rintro s3 h
 refine ai (aC ?_)
 obtain rfl:=zi h
 exact aE hio rfl (.tmp _ _ .nil) rfl rfl
 intro u4 h hl5 hr6
 obtain ⟨v1,hv1,h⟩:=zn h
 refine au h (fun hg1_2 h => ?_) (fun hg1_2 h => ?_)
 refine yx hn 1 ?_
 refine ys 1 ⟨lk call138 (ff _ _ hv1)⟩ ?_
 refine yd hg1_2 5 ?_
 refine ye [2] ?_
 exact hl5 _ (zi h).symm
 obtain ⟨v2,hv2,h⟩:=zn h
 refine yx hn 1 ?_
 refine ys 1 ⟨lk call138 (ff _ _ hv1)⟩ ?_
 refine yd hg1_2 1 ?_
 refine ys 3 ⟨lk call139 (mZ _ _ _ hv2)⟩ ?_
 refine ye [2] ?_
 exact hl5 _ (zi h).symm
theorem kn (s:Ll) (r:Bool) (h:Sh.fC s=some r):cl Tryz.prog 136 [.v (.string s),.v (.func (.func 137) #[] #[])] (.v (.bool r)):=by
 unfold Sh.fC at h
 refine yO 18 func136 fun g0 hn hio => ?_
 refine aX hn 1 [0,1] ?_
 refine ag ?_
 refine aX hn 3 [0,1,7,8] ?_
 refine aY h (fun (s9:Int)=>[(0,vs s),(1,.v (.func (.func 137) #[] #[])),(7,vi (s.size:Int)),(8,vi s9)]) (fun (():Unit)=>[]) ?_ ?_
 rintro ⟨⟩ h
 refine ai ?_
 refine aX hn 1 [4] ?_
 refine aC ?_
 obtain rfl:=zi h
 exact aE hio rfl (.tmp _ _ .nil) rfl rfl
 rintro u12 hl13 hr14 s9 rr17 h ho15
 refine aX hn 1 [0,1,7,8,9] ?_
 refine ag ?_
 refine zc h rfl (fun h => ?_) (fun h => ?_)
 refine aA ?_
 refine ai (ag ?_)
 refine aP ?_
 refine aX hn 2 [0,1,7,8,5] ?_
 refine ag ?_
 obtain ⟨v2,hv2,v3,hv3,h⟩:=fK h
 refine yx hn 3 ?_
 refine ys 0 ⟨lh hv2⟩ ?_
 refine ys 1 ⟨lk call137 (sF _ _ hv3)⟩ ?_
 refine bH [0,1,7,8,16] ?_
 refine zc h rfl (fun h => ?_) (fun h => ?_)
 refine aX hn 1 [4] ?_
 refine aC (aV (am (am (aV (am ?_)))))
 have h:=hr14 _ (ho15 _ (zi h).symm).symm
 obtain rfl:=zi h
 exact aE hio rfl (.tmp _ _ .nil) rfl rfl
 refine aA (br (ai ?_))
 obtain ⟨v5,hv5,h⟩:=zn h
 refine yx hn 0 ?_
 refine ys 0 ⟨lb hv5⟩ ?_
 refine yw [8] 1 ?_
 refine ye [0,1,7,8] ?_
 exact bC _ (zi h).symm rfl
 refine bk (aD (aD (bo ?_)))
 refine aB [] (by kernel_rfl) (es':=[]) rfl ?_
 exact hl13 _ (ho15 _ (zi h).symm).symm
theorem vf (s:Ll) (r:Bool) (h:Sh.lC s=some r):cl Tryz.prog 109 [.v (.string s)] (.v (.bool r)):=by
 unfold Sh.lC at h
 refine yO 9 func109 fun g0 hn hio => ?_
 refine aX hn 1 [0] ?_
 refine ag ?_
 refine aM h (fun (s2:Bool)=>[(2,vb s2)]) ?_ ?_
 rintro s2 h
 refine ai (aC ?_)
 obtain rfl:=zi h
 exact aE hio rfl (.tmp _ _ .nil) rfl rfl
 intro u3 h hl4 hr5
 refine au h (fun hg1_2 h => ?_) (fun hg1_2 h => ?_)
 obtain ⟨v1,hv1,h⟩:=zn h
 refine yx hn 3 ?_
 refine yd hg1_2 1 ?_
 refine ys 2 ⟨lk call136 (kn _ _ hv1)⟩ ?_
 refine ye [2] ?_
 exact hl4 _ (zi h).symm
 refine yx hn 3 ?_
 refine yd hg1_2 4 ?_
 refine ye [2] ?_
 exact hl4 _ (zi h).symm
theorem jV (mx:Int) (s:Ll) (r:Bool) (h:Sh.fp s=some r):kF Tryz.prog (GL mx) 108 [.v (.string s),.v (.func (.func 109) #[] #[])] (.v (.bool r)):=by
 unfold Sh.fp at h
 refine yG 13 func108 fun g0 hn hio => ?_
 refine gh hn 1 ?_
 refine yS (.box 4 [vb false]) 0 ⟨oA (bu _ _ Ki)⟩ ?_
 refine bH [0,13,3,4] ?_
 refine ag (ag ?_)
 obtain ⟨v1,hv1,h⟩:=zn h
 refine yx hn 1 ?_
 refine yk [] [6] ?_
 refine yt (7,.cloB 161 [.box 9 [vs v1.1],.box 9 [vs v1.2.1],.box 3 [vi v1.2.2]]) 0 ⟨jq _ _ 135 _ _ rfl call135 rfl rfl (jM s (⟨#[46]⟩:Ll) _ hv1) rfl⟩ ?_
 refine bH [13,3,4,7] ?_
 refine aP ?_
 refine jQ [3,0,1,2] (by kernel_rfl) (es':=[(7,.cloB 161 [.box 9 [vs v1.1],.box 9 [vs v1.2.1],.box 3 [vi v1.2.2]]),(13,.glob (GL mx)),(3,.box 125 [.v (.func (.func 109) #[] #[])]),(4,.box 4 [vb false])]) rfl ?_
 refine ke h 161 7 8 14 _ [13,3,4] call161 (fun (():Unit)=>[(13,.glob (GL mx)),(3,.box 125 [.v (.func (.func 109) #[] #[])]),(4,.box 4 [.v (.bool false)])]) (fun (():Unit)=>[(13,.glob (GL mx)),(3,.box 125 [.v (.func (.func 109) #[] #[])]),(4,.box 4 [.v (.bool false)])]) (fun l J Y hY t t' h=>iT mx l J Y hY v1.1 v1.2.1 v1.2.2 t t' h) hn rfl (fun _=>rfl) (fun _=>rfl) (fun _=>rfl) rfl rfl (fun _=>⟨rfl,rfl⟩) rfl (ka 13 rfl) ?_ ?_ ?_
 rintro kk g0 hn hio x ⟨⟩ u h
 refine ui (es':=[(8,vs x),(13,.glob (GL mx)),(3,.box 125 [.v (.func (.func 109) #[] #[])]),(4,.box 4 [vb false]),(13,.v (kk.tm.getD 13 undef)),(3,.v (kk.tm.getD 3 undef)),(4,.v (kk.tm.getD 4 undef)),(14,.inv kk.ready)]) rfl ?_
 refine yy hn 1 [13,3,4,14,5,13,3,4] ?_
 refine aB [0,1,2,4,5,6,7,3] (by kernel_rfl) (es':=[(13,.glob (GL mx)),(3,.box 125 [.v (.func (.func 109) #[] #[])]),(4,.box 4 [vb false]),(5,vs x),(13,.v (kk.tm.getD 13 undef)),(3,.v (kk.tm.getD 3 undef)),(4,.v (kk.tm.getD 4 undef)),(14,.inv kk.ready)]) rfl ?_
 refine lq (es:=[(13,.glob (GL mx)),(3,.box 125 [.v (.func (.func 109) #[] #[])]),(4,.box 4 [vb false]),(5,vs x),(13,.v (kk.tm.getD 13 undef)),(3,.v (kk.tm.getD 3 undef)),(4,.v (kk.tm.getD 4 undef))]) 14 rfl ?_
 refine aP (ag ?_)
 obtain ⟨v2,hv2,h⟩:=zn h
 refine yx hn 2 ?_
 refine ys 1 ⟨lk call109 (vf _ _ hv2)⟩ ?_
 refine bH [13,3,4,14,12,13,3,4] ?_
 refine zc h rfl (fun h => ?_) (fun h => ?_)
 refine aX hn 1 [13,3,4,14,13,3,4] ?_
 refine aC (aV ?_)
 refine aB [0,1,2,4,5,6,3] (by kernel_rfl) (es':=[(_,_),(_,_),(_,_),(_,_),(_,_),(_,_),(_,_)]) rfl ?_
 obtain rfl:=zi h
 exact rm 14 [13,3,4] _ rfl rfl (by kernel_rfl)
 refine aA (br ?_)
 refine aB [0,1,2,5,6,7,3] (by kernel_rfl) (es':=[(_,_),(_,_),(_,_),(_,_),(_,_),(_,_),(_,_)]) rfl ?_
 obtain rfl:=zi h
 exact kT 14 [13,3,4] _ rfl rfl (by kernel_rfl)
 rintro D ⟨⟩ h
 refine br (ai ?_)
 refine aX hn 1 [13,4] ?_
 refine aC ?_
 refine aB [1] (by kernel_rfl) (es':=[(_,_)]) rfl ?_
 obtain rfl:=zi h
 exact aE hio rfl (.cell1 _ _ _ _ underlying4 rfl .nil) rfl rfl
 rintro D ⟨⟩ h
 refine aB [2] (by kernel_rfl) (es':=[(_,_)]) rfl ?_
 refine aV (am ?_)
 obtain rfl:=zi h
 exact aE hio rfl (.cell1 _ _ _ _ underlying4 rfl .nil) rfl rfl
theorem nQ (mx:Int) (s:Ll) (r:Bool) (h:Sh.kq s=some r):kF Tryz.prog (GL mx) 87 [.v (.string s)] (.v (.bool r)):=by
 unfold Sh.kq at h
 refine yG 10 func87 fun g0 hn hio => ?_
 refine aX hn 1 [0,10] ?_
 refine ag ?_
 refine aM h (fun (s2:Bool)=>[(10,.glob (GL mx)),(2,vb s2)]) ?_ ?_
 rintro s2 h
 refine ai (aC ?_)
 refine aB [1] (by kernel_rfl) (es':=[(_,_)]) rfl ?_
 obtain rfl:=zi h
 exact aE hio rfl (.tmp _ _ .nil) rfl rfl
 intro u3 h hl4 hr5
 refine au h (fun hg1_3 h => ?_) (fun hg1_3 h => ?_)
 obtain ⟨v1,hv1,h⟩:=zn h
 refine yx hn 4 ?_
 refine yd hg1_3 1 ?_
 refine ys 2 ⟨lg call108 (jV _ _ _ hv1) 10⟩ ?_
 refine ye [10,2] ?_
 exact hl4 _ (zi h).symm
 refine yx hn 4 ?_
 refine yd hg1_3 4 ?_
 refine ye [10,2] ?_
 exact hl4 _ (zi h).symm
theorem qR (c:Int) (r:Bool) (h:Sh.gC c=some r):cl Tryz.prog 140 [.v (.int .u8 c)] (.v (.bool r)):=by
 unfold Sh.gC at h
 refine yO 9 func140 fun g0 hn hio => ?_
 refine aX hn 1 [0] ?_
 refine ag ?_
 refine aM h (fun (s2:Bool)=>[(2,vb s2)]) ?_ ?_
 rintro s2 h
 refine ai (aC ?_)
 obtain rfl:=zi h
 exact aE hio rfl (.tmp _ _ .nil) rfl rfl
 intro u3 h hl4 hr5
 obtain ⟨v1,hv1,h⟩:=zn h
 refine au h (fun hg1_2 h => ?_) (fun hg1_2 h => ?_)
 refine yx hn 1 ?_
 refine ys 1 ⟨lk call138 (ff _ _ hv1)⟩ ?_
 refine yd hg1_2 4 ?_
 refine ye [2] ?_
 exact hl4 _ (zi h).symm
 refine yx hn 1 ?_
 refine ys 1 ⟨lk call138 (ff _ _ hv1)⟩ ?_
 refine yd hg1_2 4 ?_
 refine ye [2] ?_
 exact hl4 _ (zi h).symm
theorem jN (s:Ll) (r:Bool) (h:Sh.fq s=some r):cl Tryz.prog 136 [.v (.string s),.v (.func (.func 140) #[] #[])] (.v (.bool r)):=by
 unfold Sh.fq at h
 refine yO 18 func136 fun g0 hn hio => ?_
 refine aX hn 1 [0,1] ?_
 refine ag ?_
 refine aX hn 3 [0,1,7,8] ?_
 refine aY h (fun (s9:Int)=>[(0,vs s),(1,.v (.func (.func 140) #[] #[])),(7,vi (s.size:Int)),(8,vi s9)]) (fun (():Unit)=>[]) ?_ ?_
 rintro ⟨⟩ h
 refine ai ?_
 refine aX hn 1 [4] ?_
 refine aC ?_
 obtain rfl:=zi h
 exact aE hio rfl (.tmp _ _ .nil) rfl rfl
 rintro u12 hl13 hr14 s9 rr17 h ho15
 refine aX hn 1 [0,1,7,8,9] ?_
 refine ag ?_
 refine zc h rfl (fun h => ?_) (fun h => ?_)
 refine aA ?_
 refine ai (ag ?_)
 refine aP ?_
 refine aX hn 2 [0,1,7,8,5] ?_
 refine ag ?_
 obtain ⟨v2,hv2,v3,hv3,h⟩:=fK h
 refine yx hn 3 ?_
 refine ys 0 ⟨lh hv2⟩ ?_
 refine ys 1 ⟨lk call140 (qR _ _ hv3)⟩ ?_
 refine bH [0,1,7,8,16] ?_
 refine zc h rfl (fun h => ?_) (fun h => ?_)
 refine aX hn 1 [4] ?_
 refine aC (aV (am (am (aV (am ?_)))))
 have h:=hr14 _ (ho15 _ (zi h).symm).symm
 obtain rfl:=zi h
 exact aE hio rfl (.tmp _ _ .nil) rfl rfl
 refine aA (br (ai ?_))
 obtain ⟨v5,hv5,h⟩:=zn h
 refine yx hn 0 ?_
 refine ys 0 ⟨lb hv5⟩ ?_
 refine yw [8] 1 ?_
 refine ye [0,1,7,8] ?_
 exact bC _ (zi h).symm rfl
 refine bk (aD (aD (bo ?_)))
 refine aB [] (by kernel_rfl) (es':=[]) rfl ?_
 exact hl13 _ (ho15 _ (zi h).symm).symm
theorem th (s:Ll) (r:Bool) (h:Sh.kz s=some r):cl Tryz.prog 110 [.v (.string s)] (.v (.bool r)):=by
 unfold Sh.kz at h
 refine yO 27 func110 fun g0 hn hio => ?_
 refine aX hn 1 [0] ?_
 refine ag ?_
 refine aM h (fun (s5:Bool)=>[(2,vb s5)]) ?_ ?_
 rintro s5 h
 refine ai (aC ?_)
 obtain rfl:=zi h
 exact aE hio rfl (.tmp _ _ .nil) rfl rfl
 intro u6 h hl7 hr8
 refine au h (fun hg1_2 h => ?_) (fun hg1_2 h => ?_)
 refine au h (fun hg1_7 h => ?_) (fun hg1_7 h => ?_)
 obtain ⟨v1,hv1,h⟩:=zn h
 refine au h (fun hg1_12 h => ?_) (fun hg1_12 h => ?_)
 obtain ⟨v2,hv2,v3,hv3,h⟩:=fK h
 refine au h (fun hg1_20 h => ?_) (fun hg1_20 h => ?_)
 obtain ⟨v4,hv4,h⟩:=zn h
 refine yx hn 3 ?_
 refine yd hg1_2 5 ?_
 refine yd hg1_7 1 ?_
 refine ys 3 ⟨lh hv1⟩ ?_
 refine yd hg1_12 3 ?_
 refine ys 0 ⟨lb hv2⟩ ?_
 refine ys 3 ⟨lh hv3⟩ ?_
 refine yd hg1_20 1 ?_
 refine ys 2 ⟨lk call136 (jN _ _ hv4)⟩ ?_
 refine ye [2] ?_
 exact hl7 _ (zi h).symm
 refine yx hn 3 ?_
 refine yd hg1_2 5 ?_
 refine yd hg1_7 1 ?_
 refine ys 3 ⟨lh hv1⟩ ?_
 refine yd hg1_12 3 ?_
 refine ys 0 ⟨lb hv2⟩ ?_
 refine ys 3 ⟨lh hv3⟩ ?_
 refine yd hg1_20 4 ?_
 refine ye [2] ?_
 exact hl7 _ (zi h).symm
 refine yx hn 3 ?_
 refine yd hg1_2 5 ?_
 refine yd hg1_7 1 ?_
 refine ys 3 ⟨lh hv1⟩ ?_
 refine yd hg1_12 12 ?_
 refine ye [2] ?_
 exact hl7 _ (zi h).symm
 refine yx hn 3 ?_
 refine yd hg1_2 5 ?_
 refine yd hg1_7 17 ?_
 refine ye [2] ?_
 exact hl7 _ (zi h).symm
 refine yx hn 3 ?_
 refine yd hg1_2 22 ?_
 refine ye [2] ?_
 exact hl7 _ (zi h).symm
theorem jH (mx:Int) (s:Ll) (r:Bool) (h:Sh.eV s=some r):kF Tryz.prog (GL mx) 108 [.v (.string s),.v (.func (.func 110) #[] #[])] (.v (.bool r)):=by
 unfold Sh.eV at h
 refine yG 13 func108 fun g0 hn hio => ?_
 refine gh hn 1 ?_
 refine yS (.box 4 [vb false]) 0 ⟨oA (bu _ _ Ki)⟩ ?_
 refine bH [0,13,3,4] ?_
 refine ag (ag ?_)
 obtain ⟨v1,hv1,h⟩:=zn h
 refine yx hn 1 ?_
 refine yk [] [6] ?_
 refine yt (7,.cloB 161 [.box 9 [vs v1.1],.box 9 [vs v1.2.1],.box 3 [vi v1.2.2]]) 0 ⟨jq _ _ 135 _ _ rfl call135 rfl rfl (jM s (⟨#[46]⟩:Ll) _ hv1) rfl⟩ ?_
 refine bH [13,3,4,7] ?_
 refine aP ?_
 refine jQ [3,0,1,2] (by kernel_rfl) (es':=[(7,.cloB 161 [.box 9 [vs v1.1],.box 9 [vs v1.2.1],.box 3 [vi v1.2.2]]),(13,.glob (GL mx)),(3,.box 125 [.v (.func (.func 110) #[] #[])]),(4,.box 4 [vb false])]) rfl ?_
 refine ke h 161 7 8 14 _ [13,3,4] call161 (fun (():Unit)=>[(13,.glob (GL mx)),(3,.box 125 [.v (.func (.func 110) #[] #[])]),(4,.box 4 [.v (.bool false)])]) (fun (():Unit)=>[(13,.glob (GL mx)),(3,.box 125 [.v (.func (.func 110) #[] #[])]),(4,.box 4 [.v (.bool false)])]) (fun l J Y hY t t' h=>iT mx l J Y hY v1.1 v1.2.1 v1.2.2 t t' h) hn rfl (fun _=>rfl) (fun _=>rfl) (fun _=>rfl) rfl rfl (fun _=>⟨rfl,rfl⟩) rfl (ka 13 rfl) ?_ ?_ ?_
 rintro kk g0 hn hio x ⟨⟩ u h
 refine ui (es':=[(8,vs x),(13,.glob (GL mx)),(3,.box 125 [.v (.func (.func 110) #[] #[])]),(4,.box 4 [vb false]),(13,.v (kk.tm.getD 13 undef)),(3,.v (kk.tm.getD 3 undef)),(4,.v (kk.tm.getD 4 undef)),(14,.inv kk.ready)]) rfl ?_
 refine yy hn 1 [13,3,4,14,5,13,3,4] ?_
 refine aB [0,1,2,4,5,6,7,3] (by kernel_rfl) (es':=[(13,.glob (GL mx)),(3,.box 125 [.v (.func (.func 110) #[] #[])]),(4,.box 4 [vb false]),(5,vs x),(13,.v (kk.tm.getD 13 undef)),(3,.v (kk.tm.getD 3 undef)),(4,.v (kk.tm.getD 4 undef)),(14,.inv kk.ready)]) rfl ?_
 refine lq (es:=[(13,.glob (GL mx)),(3,.box 125 [.v (.func (.func 110) #[] #[])]),(4,.box 4 [vb false]),(5,vs x),(13,.v (kk.tm.getD 13 undef)),(3,.v (kk.tm.getD 3 undef)),(4,.v (kk.tm.getD 4 undef))]) 14 rfl ?_
 refine aP (ag ?_)
 obtain ⟨v2,hv2,h⟩:=zn h
 refine yx hn 2 ?_
 refine ys 1 ⟨lk call110 (th _ _ hv2)⟩ ?_
 refine bH [13,3,4,14,12,13,3,4] ?_
 refine zc h rfl (fun h => ?_) (fun h => ?_)
 refine aX hn 1 [13,3,4,14,13,3,4] ?_
 refine aC (aV ?_)
 refine aB [0,1,2,4,5,6,3] (by kernel_rfl) (es':=[(_,_),(_,_),(_,_),(_,_),(_,_),(_,_),(_,_)]) rfl ?_
 obtain rfl:=zi h
 exact rm 14 [13,3,4] _ rfl rfl (by kernel_rfl)
 refine aA (br ?_)
 refine aB [0,1,2,5,6,7,3] (by kernel_rfl) (es':=[(_,_),(_,_),(_,_),(_,_),(_,_),(_,_),(_,_)]) rfl ?_
 obtain rfl:=zi h
 exact kT 14 [13,3,4] _ rfl rfl (by kernel_rfl)
 rintro D ⟨⟩ h
 refine br (ai ?_)
 refine aX hn 1 [13,4] ?_
 refine aC ?_
 refine aB [1] (by kernel_rfl) (es':=[(_,_)]) rfl ?_
 obtain rfl:=zi h
 exact aE hio rfl (.cell1 _ _ _ _ underlying4 rfl .nil) rfl rfl
 rintro D ⟨⟩ h
 refine aB [2] (by kernel_rfl) (es':=[(_,_)]) rfl ?_
 refine aV (am ?_)
 obtain rfl:=zi h
 exact aE hio rfl (.cell1 _ _ _ _ underlying4 rfl .nil) rfl rfl
theorem sG (mx:Int) (s:Ll) (r:Bool) (h:Sh.jw s=some r):kF Tryz.prog (GL mx) 88 [.v (.string s)] (.v (.bool r)):=by
 unfold Sh.jw at h
 refine yG 10 func88 fun g0 hn hio => ?_
 refine aX hn 1 [0,10] ?_
 refine ag ?_
 refine aM h (fun (s2:Bool)=>[(10,.glob (GL mx)),(2,vb s2)]) ?_ ?_
 rintro s2 h
 refine ai (aC ?_)
 refine aB [1] (by kernel_rfl) (es':=[(_,_)]) rfl ?_
 obtain rfl:=zi h
 exact aE hio rfl (.tmp _ _ .nil) rfl rfl
 intro u3 h hl4 hr5
 refine au h (fun hg1_3 h => ?_) (fun hg1_3 h => ?_)
 obtain ⟨v1,hv1,h⟩:=zn h
 refine yx hn 4 ?_
 refine yd hg1_3 1 ?_
 refine ys 2 ⟨lg call108 (jH _ _ _ hv1) 10⟩ ?_
 refine ye [10,2] ?_
 exact hl4 _ (zi h).symm
 refine yx hn 4 ?_
 refine yd hg1_3 4 ?_
 refine ye [10,2] ?_
 exact hl4 _ (zi h).symm
theorem fk (mx:Int) (p:aj) (r:Int) (h:Sh.et p=some r):kF Tryz.prog (GL mx) 68 [.agg [.v (.bool p.Lh),.v (.string p.Lf),.v (.string p.Lc)]] (.v (.int .i64 r)):=by
 unfold Sh.et at h
 refine yG 27 func68 fun g0 hn hio => ?_
 refine aX hn 2 [27,1] ?_
 refine gh hn 1 ?_
 refine yS (.agg [vb true,vs z0,vs z0]) 0 ⟨bQ _ _ _ _ [1,1,1] _ _ underlying43 jr (qP _ underlying43) (.copy _ kP.nil) rfl rfl rfl⟩ ?_
 refine yS (vb ((p.Lh==true)&&((p.Lf.toList==z0.toList)&&((p.Lc.toList==z0.toList)&&true)))) 1 ⟨CC _ _ [.bool p.Lh,.string p.Lf,.string p.Lc] [.bool true,.string z0,.string z0] (((p.Lh==true)&&((p.Lf.toList==z0.toList)&&((p.Lc.toList==z0.toList)&&true)))) _ false (by kernel_rfl) (by kernel_rfl) (by kernel_rfl) (by kernel_rfl) (by kernel_rfl) rfl rfl rfl rfl (by kernel_rfl) rfl⟩ ?_
 refine bH [27,1,3] ?_
 refine ag ?_
 refine aM h (fun (s3:Bool)=>[(27,.glob (GL mx)),(3,vb ((p.Lh==true)&&((p.Lf.toList==z0.toList)&&((p.Lc.toList==z0.toList)&&true)))),(4,vb s3)]) ?_ ?_
 rintro s3 h
 refine ai (ag ?_)
 refine ag ?_
 refine aM h (fun (s7:Bool)=>[(27,.glob (GL mx)),(26,vb s7)]) ?_ ?_
 rintro s7 h
 refine ai ?_
 refine zc h rfl (fun h => ?_) (fun h => ?_)
 refine aX hn 1 [27,2] ?_
 refine aC ?_
 refine aB [1] (by kernel_rfl) (es':=[(_,_)]) rfl ?_
 refine am ?_
 obtain rfl:=zi h
 exact aE hio rfl (.tmp _ _ .nil) rfl rfl
 refine aA (ai ?_)
 refine aX hn 1 [27,2] ?_
 refine aC ?_
 refine aB [1] (by kernel_rfl) (es':=[(_,_)]) rfl ?_
 obtain rfl:=zi h
 exact aE hio rfl (.tmp _ _ .nil) rfl rfl
 intro u8 h hl9 hr10
 refine au h (fun hg3_2 h => ?_) (fun hg3_2 h => ?_)
 refine yx hn 3 ?_
 refine yd hg3_2 3 ?_
 refine ye [27,26] ?_
 exact hl9 _ (zi h).symm
 refine yx hn 3 ?_
 refine yd hg3_2 3 ?_
 refine ye [27,26] ?_
 exact hl9 _ (zi h).symm
 intro u4 h hl5 hr6
 refine au h (fun hg2_3 h => ?_) (fun hg2_3 h => ?_)
 obtain ⟨v1,hv1,h⟩:=zn h
 refine au h (fun hg2_8 h => ?_) (fun hg2_8 h => ?_)
 obtain ⟨v2,hv2,h⟩:=zn h
 refine yx hn 4 ?_
 refine yd hg2_3 2 ?_
 refine ys 2 ⟨lg call87 (nQ _ _ _ hv1) 27⟩ ?_
 refine yd hg2_8 2 ?_
 refine ys 2 ⟨lg call88 (sG _ _ _ hv2) 27⟩ ?_
 refine ye [27,3,4] ?_
 exact hl5 _ (zi h).symm
 refine yx hn 4 ?_
 refine yd hg2_3 2 ?_
 refine ys 2 ⟨lg call87 (nQ _ _ _ hv1) 27⟩ ?_
 refine yd hg2_8 5 ?_
 refine ye [27,3,4] ?_
 exact hl5 _ (zi h).symm
 refine yx hn 4 ?_
 refine yd hg2_3 10 ?_
 refine ye [27,3,4] ?_
 exact hl5 _ (zi h).symm
theorem iC (mx:Int) (m:ae) (r:Bool) (h:Sh.eS m=some r):kF Tryz.prog (GL mx) 64 [.agg [.v (.bool m.Ld.Lh),.v (.string m.Ld.Lf),.v (.string m.Ld.Lc),.fl .shr 3 (flatten (map aj.enc m.To)),.fl .shr 1 (map (int .u8) m.Lb),.v (.bool m.Lk),.v (.string m.Le),.v (.int .i64 m.At)]] (.v (.bool r)):=by
 unfold Sh.eS at h
 refine yG 36 func64 fun g0 hn hio => ?_
 refine aX hn 2 [36,1] ?_
 refine ag (ag ?_)
 refine aM h (fun (s2:Bool)=>[(36,.glob (GL mx)),(1,.box 46 (ae.c m [])),(20,vb s2)]) ?_ ?_
 rintro s2 h
 refine ai ?_
 refine zc h rfl (fun h => ?_) (fun h => ?_)
 refine aX hn 1 [36,2] ?_
 refine aC ?_
 refine aB [1] (by kernel_rfl) (es':=[(_,_)]) rfl ?_
 refine am ?_
 obtain rfl:=zi h
 exact aE hio rfl (.tmp _ _ .nil) rfl rfl
 refine aA ?_
 refine ai (ag ?_)
 refine aX hn 4 [36,22,23,24] ?_
 refine aY h (fun (s24:Int)=>[(36,.glob (GL mx)),(22,.fl .shr 3 (flatten (map aj.enc m.To))),(23,vi (m.To.length:Int)),(24,vi s24)]) (fun (():Unit)=>[(36,.glob (GL mx))]) ?_ ?_
 rintro ⟨⟩ h
 refine ai ?_
 refine aX hn 1 [36,2] ?_
 refine aC ?_
 refine aB [1] (by kernel_rfl) (es':=[(_,_)]) rfl ?_
 obtain rfl:=zi h
 exact aE hio rfl (.tmp _ _ .nil) rfl rfl
 rintro u31 hl32 hr33 s24 rr36 h ho34
 refine aX hn 1 [36,22,23,24,25] ?_
 refine ag ?_
 refine zc h rfl (fun h => ?_) (fun h => ?_)
 refine aA ?_
 refine ai (ag ?_)
 refine aP (ag ?_)
 obtain ⟨v8,hv8,v9,hv9,h⟩:=fK h
 refine yx hn 0 ?_
 refine ys 0 ⟨lj hv8⟩ ?_
 refine yS (.agg [vb v9.Lh,vs v9.Lf,vs v9.Lc]) 0 ⟨gY _ _ _ _ _ _ _ underlying43 rfl iG rfl rfl (jo aj.len hv9) rfl (by decide)⟩ ?_
 refine yS (.box 43 [vb false,vs z0,vs z0]) 1 ⟨oA (bu _ _ jr)⟩ ?_
 refine bH [36,22,23,24,4] ?_
 refine ag ?_
 refine aM h (fun (s38:Bool)=>[(36,.glob (GL mx)),(22,.fl .shr 3 (flatten (map aj.enc m.To))),(23,vi (m.To.length:Int)),(24,vi s24),(34,vb s38)]) ?_ ?_
 rintro s38 h
 refine ai ?_
 refine zc h rfl (fun h => ?_) (fun h => ?_)
 refine aX hn 1 [36,2] ?_
 refine aC ?_
 refine aB [1] (by kernel_rfl) (es':=[(_,_)]) rfl ?_
 refine aV (am (am (aV (am ?_))))
 have h:=hr33 _ (ho34 _ (zi h).symm).symm
 obtain rfl:=zi h
 exact aE hio rfl (.tmp _ _ .nil) rfl rfl
 refine aA (br (ai ?_))
 obtain ⟨v16,hv16,h⟩:=zn h
 refine yx hn 0 ?_
 refine ys 0 ⟨lb hv16⟩ ?_
 refine yw [24] 1 ?_
 refine ye [36,22,23,24] ?_
 exact bC _ (zi h).symm rfl
 intro u39 h hl40 hr41
 obtain ⟨v10,hv10,h⟩:=zn h
 refine au h (fun hg6_3 h => ?_) (fun hg6_3 h => ?_)
 refine yx hn 1 ?_
 refine ys 2 ⟨lg call68 (fk _ _ _ hv10) 36⟩ ?_
 refine yd hg6_3 3 ?_
 refine ye [36,22,23,24,34] ?_
 exact hl40 _ (zi h).symm
 refine yx hn 1 ?_
 refine ys 2 ⟨lg call68 (fk _ _ _ hv10) 36⟩ ?_
 refine yd hg6_3 3 ?_
 refine ye [36,22,23,24,34] ?_
 exact hl40 _ (zi h).symm
 refine bk (aD (aD (bo ?_)))
 refine aB [0] (by kernel_rfl) (es':=[(_,_)]) rfl ?_
 exact hl32 _ (ho34 _ (zi h).symm).symm
 intro u3 h hl4 hr5
 obtain ⟨v1,hv1,h⟩:=zn h
 refine au h (fun hg1_4 h => ?_) (fun hg1_4 h => ?_)
 refine yx hn 2 ?_
 refine ys 2 ⟨lg call68 (fk _ _ _ hv1) 36⟩ ?_
 refine yd hg1_4 11 ?_
 refine ye [36,1,20] ?_
 exact hl4 _ (zi h).symm
 refine au h (fun hg1_10 h => ?_) (fun hg1_10 h => ?_)
 refine yx hn 2 ?_
 refine ys 2 ⟨lg call68 (fk _ _ _ hv1) 36⟩ ?_
 refine yd hg1_4 6 ?_
 refine yd hg1_10 5 ?_
 refine ye [36,1,20] ?_
 exact hl4 _ (zi h).symm
 refine yx hn 2 ?_
 refine ys 2 ⟨lg call68 (fk _ _ _ hv1) 36⟩ ?_
 refine yd hg1_4 6 ?_
 refine yd hg1_10 5 ?_
 refine ye [36,1,20] ?_
 exact hl4 _ (zi h).symm
theorem jm (b:(List Int)) (r:(List Int)) (h:Sh.cX b=some r):cl Tryz.prog 69 [.fl .shr 1 (map (int .u8) b)] (.cloB 89 [.box 25 [.fl .shr 1 (map (int .u8) r)]]):=by
 unfold Sh.cX at h
 refine yO 4 func69 fun g0 hn hio => ?_
 refine aX hn 2 [1] ?_
 refine gh hn 0 ?_
 refine yk [1] [] ?_
 refine yt (3,.cloB 89 [.box 25 [fb b]]) 0 ⟨wT _ _ [1] [.box 25 [fb b]] rfl rfl rfl⟩ ?_
 refine ya 0 ?_
 refine bH [2] ?_
 refine aC ?_
 obtain rfl:=zi h
 exact aE hio rfl (.tmp _ _ .nil) rfl rfl
theorem mB (mx:Int) (s sep:List Int) (r:Int) (h:Sh.gg s sep=some r):kF Tryz.prog (GL mx) 56 [.fl .shr 1 (map (int .u8) s),.fl .shr 1 (map (int .u8) sep)] (.v (.int .i64 r)) :=
 qS (zg mx) Tryz.bytes_Index_at Tryz.bytes_Index_longer s sep r h
theorem qU (mx:Int) (s:(List Int)) (sep:(List Int)) (r:((List Int)×(List Int)×Bool)) (h:Sh.dy s sep=some r):kF Tryz.prog (GL mx) 34 [.fl .shr 1 (map (int .u8) s),.fl .shr 1 (map (int .u8) sep)] (.tup [.fl .shr 1 (map (int .u8) r.1),.fl .shr 1 (map (int .u8) r.2.1),.v (.bool r.2.2)]):=by
 unfold Sh.dy at h
 refine yG 23 func34 fun g0 hn hio => ?_
 refine aX hn 3 [0,1,23] ?_
 refine ag (ag ?_)
 obtain ⟨v1,hv1,h⟩:=zn h
 refine yx hn 2 ?_
 refine ys 1 ⟨lg call56 (mB _ _ _ _ hv1) 23⟩ ?_
 refine bH [0,1,23,7] ?_
 refine aX hn 2 [0,1,23,7,12] ?_
 refine zc h rfl (fun h => ?_) (fun h => ?_)
 refine ag ?_
 obtain ⟨v3,hv3,v4,hv4,v5,hv5,h⟩:=mh h
 refine wb [[0],[7]] ?_
 refine wN [13,14] ?_
 refine wS (fb v3) [[0],[7],[1],[18]] ⟨ik _ _ _ 0 v1 _ underlying25 nM rfl rfl rfl ⟨_,rfl⟩ hv3⟩ ?_
 refine wN [17,19] ?_
 refine wo [] ⟨lb hv4⟩ ?_
 refine wN [16,20] ?_
 refine wS (fb v5) [[15],[21],[]] ⟨ik _ _ _ v4 (s.length:Int) _ underlying25 nM rfl rfl ⟨_,rfl⟩ rfl hv5⟩ ?_
 refine sI hn [23,4,5,6] ?_
 refine aC ?_
 refine aB [1,2,3] (by kernel_rfl) (es':=[(_,_),(_,_),(_,_)]) rfl ?_
 refine am ?_
 obtain rfl:=zi h
 exact aE hio rfl (.tmp _ _ (.tmp _ _ (.tmp _ _ .nil))) rfl rfl
 refine aA (ai ?_)
 refine aX hn 4 [23,4,5,6] ?_
 refine aC ?_
 refine aB [1,2,3] (by kernel_rfl) (es':=[(_,_),(_,_),(_,_)]) rfl ?_
 refine di (fs:=[(4,fb s),(5,fb []),(6,vb false)]) (.same _ (.sub _ (xh 1) rfl (.same _ .nil))) ?_
 obtain rfl:=zi h
 exact aE hio rfl (.tmp _ _ (.tmp _ _ (.tmp _ _ .nil))) rfl rfl
theorem gP (mx:Int) (l:Nat) {S:Type} (J:S→kL) (Y:(List Int)→S→Option (S×Bool)) (hY:pj Tryz.prog l (fun x => .fl .shr 1 (map (int .u8) x)) Y J) (c0:(List Int)) (st r:S) (h:Sh.fi Y c0 st=some r):Ia Tryz.prog (GL mx) 89 l [.box 25 [.fl .shr 1 (map (int .u8) c0)]] (J st) (J r):=by
 unfold Sh.fi at h
 refine yI 23 func89 fun g0 hn hio => ?_
 refine aY h (fun ((s17,s18):(List Int)×S)=>[(0,.v (.func (.yield l) #[] #[])),(1,.box 25 [fb s17]),(23,.glob (GL mx)),(24,.inv (J s18))]) (fun (():Unit)=>[]) ?_ ?_
 rintro ⟨⟩ h
 cases h
 rintro u25 hl26 hr27 ⟨s17,s18⟩ rr30 h ho28
 refine aP (ag ?_)
 obtain ⟨v1,hv1,h⟩:=zn h
 refine yx hn 1 ?_
 refine yS (.fl (.own 5) 1 (map (int .u8) [13,10])) 0 ⟨cb _ _ 1 (.int .u8 0) (map (int .u8) [13,10]) [(0,.int .u8 13),(1,.int .u8 10)] underlying25 nM tj (fun _ V w o a hv hes=>by simp only [List.map_toArray,List.map_cons,List.map_nil]; try rfl) (fv (by simp [Instr.fill,Value.cells]; rfl) (by simp [List.range,List.range.loop] <;> rfl)) (by simp [Value.oneCell']) rfl (by decide) (by decide) (by decide)⟩ ?_
 refine yk [8] [] ?_
 refine yt (9,.fl .ro 1 (map (int .u8) [13,10])) 0 ⟨gA _ _ _ underlying25 underlying5 (by intro h; cases h)⟩ ?_
 refine yk [] [7,9,23] ?_
 refine yt (10,.tup [fb v1.1,fb v1.2.1,vb v1.2.2]) 0 ⟨Ba _ _ 23 34 _ _ rfl call34 rfl rfl rfl (fun _ h=>h) (qU mx s17 [13,10] _ hv1) rfl⟩ ?_
 refine ym 6 ?_
 refine bH [0,1,23,24,3,4,5] ?_
 refine ag (ag ?_)
 refine aM h (fun ((s31,s32):S×Bool)=>[(0,.v (.func (.yield l) #[] #[])),(1,.box 25 [fb s17]),(23,.glob (GL mx)),(24,.inv (J s31)),(4,fb v1.2.1),(21,vb s32)]) ?_ ?_
 rintro ⟨s31,s32⟩ h
 refine ai ?_
 refine zc h rfl (fun h => ?_) (fun h => ?_)
 refine aC ?_
 refine aB [3] (by kernel_rfl) (es':=[(24,.inv (J s31))]) rfl ?_
 refine am (aV (am (aV ?_)))
 have h:=hr27 _ (ho28 _ (zi h).symm).symm
 obtain rfl:=zi h
 exact rp hio rfl rfl rfl
 refine aA (ai ?_)
 refine yy hn 2 [0,1,23,24] ?_
 refine br ?_
 exact bC _ (zi h).symm rfl
 intro u33 h hl34 hr35
 refine au h (fun hg1_2 h => ?_) (fun hg1_2 h => ?_)
 refine yx hn 3 ?_
 refine yd hg1_2 5 ?_
 refine ye [0,1,23,24,4,21] ?_
 exact hl34 _ (zi h).symm
 obtain ⟨v2,hv2,h⟩:=zn h
 refine yx hn 3 ?_
 refine yd hg1_2 2 ?_
 refine yk [24] [18,17] ?_
 refine pX (24,.inv (J v2.1)) (19,vb v2.2) 2 ⟨oW _ _ 24 l v1.1 s18 v2 hY hv2 rfl rfl rfl⟩ ?_
 refine ye [0,1,23,24,4,21] ?_
 exact hl34 _ (zi h).symm
theorem pB (mx:Int) (s:List Int) (c:Ll) (r:Int) (h:Sh.gj s c=some r):kF Tryz.prog (GL mx) 105 [.fl .shr 1 (map (int .u8) s),.v (.string c)] (.v (.int .i64 r)) :=
 oK (zg mx) (zP mx) (Fc mx) (fun s b off c w hs hnc hb hm hmb k1 k2 HG hp=>Tryz.idx_crlf s b off c w mx hs hnc hb hm hmb (xD gW jB (by kernel_rfl) (by kernel_rfl) k1 k2) HG hp) Tryz.idx_none s c r h
theorem mF (mx:Int) (b:(List Int)) (chars:Ll) (r:Bool) (h:Sh.cy b chars=some r):kF Tryz.prog (GL mx) 84 [.fl .shr 1 (map (int .u8) b),.v (.string chars)] (.v (.bool r)):=by
 unfold Sh.cy at h
 refine yG 9 func84 fun g0 hn hio => ?_
 refine aX hn 1 [0,1,9] ?_
 refine ag ?_
 obtain ⟨v1,hv1,h⟩:=zn h
 refine yx hn 2 ?_
 refine ys 2 ⟨lg call105 (pB _ _ _ _ hv1) 9⟩ ?_
 refine bH [9,4] ?_
 refine aC ?_
 refine aB [1] (by kernel_rfl) (es':=[(_,_)]) rfl ?_
 obtain rfl:=zi h
 exact aE hio rfl (.tmp _ _ .nil) rfl rfl
end Go.Proofs.YtglabbpbianmnaaGreatDoor
