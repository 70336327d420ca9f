import Derived.Test.YtkgfjkfccpjcgaaDoorShelf
import Derived.Test.YtkgfjkfccpjcgaaDoorB2
import Derived.Test.YtkgfjkfccpjcgaaDoorSrt
import Derived.Test.YtkgfjkfccpjcgaaDoorShr
import Derived.Test.YtkgfjkfccpjcgaaDoorBI
import Derived.Test.YtkgfjkfccpjcgaaDoorC1
import Derived.Test.YtkgfjkfccpjcgaaDoorSh
set_option linter.unusedVariables false
set_option linter.unusedSimpArgs false
set_option maxHeartbeats 1000000
namespace Go.Proofs.YtkgfjkfccpjcgaaDoor
open Go.Abs Go.Abs.Sh Tryd
open List (map flatten)
open Value (int)
def GL (mx:Int):List (Nat×List Value):=[(0,(List.map (Value.int .i64) ck))]
theorem Fm (mx:Int):(0,((List.map (Value.int .i64) ck):List Value))∈GL mx := .head _
instance iUD22:UD Tryd.prog 22 (.slice 5):=⟨Tryd.underlying22⟩
theorem HH:iF Tryd.prog 22 5 1 1:=⟨⟨Tryd.t5,.int .u8 0,Tryd.underlying22,by kernel_rfl,by kernel_rfl,by kernel_rfl,by kernel_rfl,by decide,by kernel_rfl⟩⟩
theorem Ke:∀ fs,Tryd.prog.underlying 57=some (.struct fs)→fs.toList.map (fun f=>(Tryd.prog.info? f.type).map (·.size))=([1,1]:List Nat).map some:=by
 intro fs h
 rw [Tryd.underlying57] at h
 cases h
 kernel_rfl
theorem Kh:(Tryd.prog.info? 57).bind (·.zero)=some (.agg #[.slice none 0 0,.int .i64 0]):=by kernel_rfl
instance iUD3:UD Tryd.prog 3 (.int .i64):=⟨Tryd.underlying3⟩
instance iUD100:UD Tryd.prog 100 (.int .u32):=⟨Tryd.underlying100⟩
theorem fN:(Tryd.prog.info? 3).map (·.size)=some 1:=by kernel_rfl
instance iFO57_1:FO Tryd.prog 57 1 1:=⟨by kernel_rfl⟩
instance iAG3:AS Tryd.prog 3:=⟨by kernel_rfl⟩
theorem Ja:(Tryd.prog.info? 22).map (·.size)=some 1:=by kernel_rfl
theorem xP:(Tryd.prog.info? 5).map (·.size)=some 1:=by kernel_rfl
theorem ED:(Tryd.prog.info? 5).bind (·.zero)=some (.int .u8 0):=by kernel_rfl
instance iFO57_0:FO Tryd.prog 57 0 0:=⟨by kernel_rfl⟩
instance iAG22:AS Tryd.prog 22:=⟨by kernel_rfl⟩
instance iSZ5:SZ Tryd.prog 5 1:=⟨by kernel_rfl⟩
instance iAG5:AS Tryd.prog 5:=⟨by kernel_rfl⟩
instance iUD5:UD Tryd.prog 5 (.int .u8):=⟨Tryd.underlying5⟩
theorem JF:∀ fs,Tryd.prog.underlying 103=some (.struct fs)→fs.toList.map (fun f=>(Tryd.prog.info? f.type).map (·.size))=([1,1,1,1]:List Nat).map some:=by
 intro fs h
 rw [Tryd.underlying103] at h
 cases h
 kernel_rfl
theorem Jx:(Tryd.prog.info? 103).bind (·.zero)=some (.agg #[.slice none 0 0,.map none,.slice none 0 0,.int .i64 0]):=by kernel_rfl
theorem CC:((Tryd.prog.info? 105).bind (·.zero)).map (·.cells.toList)=some (List.map (Value.int .u8) (List.replicate 3 (0:Int))):=by kernel_rfl
instance iFO103_0:FO Tryd.prog 103 0 0:=⟨by kernel_rfl⟩
theorem Jz:(Tryd.prog.info? 105).bind (·.zero)=some (.agg #[.int .u8 0,.int .u8 0,.int .u8 0]):=by kernel_rfl
theorem mY:(Tryd.prog.info? 105).map (·.size)=some 3:=by kernel_rfl
theorem kf:(Tryd.prog.info? 3).bind (·.zero)=some (.int .i64 0):=by kernel_rfl
theorem Ej:FS Tryd.prog 101 105 3 3:=Fo Tryd.underlying101 Tryd.underlying3 kf Tryd.underlying105 Tryd.underlying5 (by kernel_rfl) (by kernel_rfl) (by kernel_rfl) (by kernel_rfl)
instance iFO103_1:FO Tryd.prog 103 1 1:=⟨by kernel_rfl⟩
instance iAG101:AS Tryd.prog 101:=⟨by kernel_rfl⟩
instance iFO103_3:FO Tryd.prog 103 3 3:=⟨by kernel_rfl⟩
theorem JI:(Tryd.prog.info? 37).map (·.size)=some 1:=by kernel_rfl
instance iFO103_2:FO Tryd.prog 103 2 2:=⟨by kernel_rfl⟩
instance iAG37:AS Tryd.prog 37:=⟨by kernel_rfl⟩
instance iUD37:UD Tryd.prog 37 (.slice 3):=⟨Tryd.underlying37⟩
instance iSZ3:SZ Tryd.prog 3 1:=⟨by kernel_rfl⟩
theorem Hf:∀ fs,Tryd.prog.underlying 53=some (.struct fs)→fs.toList.map (fun f=>(Tryd.prog.info? f.type).map (·.size))=([1,1,1]:List Nat).map some:=by
 intro fs h
 rw [Tryd.underlying53] at h
 cases h
 kernel_rfl
theorem sw:(Tryd.prog.info? 53).bind (·.zero)=some (.agg #[.int .u8 0,.int .i64 0,.int .i64 0]):=by kernel_rfl
theorem Bm:(Tryd.prog.info? 53).map (·.size)=some 3:=by kernel_rfl
instance iAG53:AA Tryd.prog 53 3:=⟨by kernel_rfl⟩
instance iFO53_0:FO Tryd.prog 53 0 0:=⟨by kernel_rfl⟩
theorem Hs:iF Tryd.prog 45 53 3 24:=⟨⟨Tryd.t53,.agg #[.int .u8 0,.int .i64 0,.int .i64 0],Tryd.underlying45,by kernel_rfl,by kernel_rfl,by kernel_rfl,by kernel_rfl,by decide,by kernel_rfl⟩⟩
theorem fg:iF Tryd.prog 37 3 1 8:=⟨⟨Tryd.t3,.int .i64 0,Tryd.underlying37,by kernel_rfl,by kernel_rfl,by kernel_rfl,by kernel_rfl,by decide,by kernel_rfl⟩⟩
instance iLT_Tok:LenE al.enc 3:=⟨al.len⟩
theorem GX:(Tryd.prog.info? 87).bind (·.zero)=some (.agg #[.slice none 0 0,.slice none 0 0]):=by kernel_rfl
theorem tF:((Tryd.prog.info? 124).bind (·.zero)).map (·.cells.toList)=some (List.map (Value.int .i64) (List.replicate 16 (0:Int))):=by kernel_rfl
theorem iD:(Tryd.prog.info? 124).map (·.size)=some 16:=by kernel_rfl
theorem Aq:(Tryd.prog.info? 124).bind (·.zero)=some (.agg #[.int .i64 0,.int .i64 0,.int .i64 0,.int .i64 0,.int .i64 0,.int .i64 0,.int .i64 0,.int .i64 0,.int .i64 0,.int .i64 0,.int .i64 0,.int .i64 0,.int .i64 0,.int .i64 0,.int .i64 0,.int .i64 0]):=by kernel_rfl
theorem KP:∀ fs,Tryd.prog.underlying 87=some (.struct fs)→fs.toList.map (fun f=>(Tryd.prog.info? f.type).map (·.size))=([1,1]:List Nat).map some:=by
 intro fs h
 rw [Tryd.underlying87] at h
 cases h
 kernel_rfl
theorem Jj:(Tryd.prog.info? 87).map (·.size)=some 2:=by kernel_rfl
instance iUD45:UD Tryd.prog 45 (.slice 53):=⟨Tryd.underlying45⟩
instance iSZ53:SZ Tryd.prog 53 3:=⟨by kernel_rfl⟩
instance iFO53_1:FO Tryd.prog 53 1 1:=⟨by kernel_rfl⟩
instance iFO87_1:FO Tryd.prog 87 1 1:=⟨by kernel_rfl⟩
instance iFO87_0:FO Tryd.prog 87 0 0:=⟨by kernel_rfl⟩
instance iAG87:AA Tryd.prog 87 2:=⟨by kernel_rfl⟩
theorem zC:(Tryd.prog.info? 119).bind (·.zero)=some (.agg #[.int .i64 0,.int .i64 0,.int .i64 0]):=by kernel_rfl
theorem GP:∀ fs,Tryd.prog.underlying 119=some (.struct fs)→fs.toList.map (fun f=>(Tryd.prog.info? f.type).map (·.size))=([1,1,1]:List Nat).map some:=by
 intro fs h
 rw [Tryd.underlying119] at h
 cases h
 kernel_rfl
theorem GU:(Tryd.prog.info? 119).map (·.size)=some 3:=by kernel_rfl
instance iAG119:AA Tryd.prog 119 3:=⟨by kernel_rfl⟩
instance iFO119_1:FO Tryd.prog 119 1 1:=⟨by kernel_rfl⟩
instance iFO119_0:FO Tryd.prog 119 0 0:=⟨by kernel_rfl⟩
instance iFO119_2:FO Tryd.prog 119 2 2:=⟨by kernel_rfl⟩
instance iFO53_2:FO Tryd.prog 53 2 2:=⟨by kernel_rfl⟩
theorem DF:iF Tryd.prog 129 131 2 16:=⟨⟨Tryd.t131,.agg #[.int .i64 0,.int .i64 0],Tryd.underlying129,by kernel_rfl,by kernel_rfl,by kernel_rfl,by kernel_rfl,by decide,by kernel_rfl⟩⟩
theorem GS:∀ fs,Tryd.prog.underlying 131=some (.struct fs)→fs.toList.map (fun f=>(Tryd.prog.info? f.type).map (·.size))=([1,1]:List Nat).map some:=by
 intro fs h
 rw [Tryd.underlying131] at h
 cases h
 kernel_rfl
theorem zF:(Tryd.prog.info? 131).bind (·.zero)=some (.agg #[.int .i64 0,.int .i64 0]):=by kernel_rfl
theorem yY:(Tryd.prog.info? 131).map (·.size)=some 2:=by kernel_rfl
instance iAG129:AS Tryd.prog 129:=⟨by kernel_rfl⟩
instance iUD129:UD Tryd.prog 129 (.slice 131):=⟨Tryd.underlying129⟩
instance iLiT_tree_node:LenI ah.ienc 2:=⟨ah.ilen⟩
instance iSZ131:SZ Tryd.prog 131 2:=⟨by kernel_rfl⟩
instance iFO131_0:FO Tryd.prog 131 0 0:=⟨by kernel_rfl⟩
theorem JA:(Tryd.prog.info? 129).map (·.size)=some 1:=by kernel_rfl
instance iFO131_1:FO Tryd.prog 131 1 1:=⟨by kernel_rfl⟩
theorem JL:(Tryd.prog.info? 113).map (·.size)=some 19:=by kernel_rfl
theorem ox:(Tryd.prog.info? 63).bind (·.zero)=some (.agg #[.slice none 0 0,.int .i64 0]):=by kernel_rfl
theorem He:∀ fs,Tryd.prog.underlying 63=some (.struct fs)→fs.toList.map (fun f=>(Tryd.prog.info? f.type).map (·.size))=([1,1]:List Nat).map some:=by
 intro fs h
 rw [Tryd.underlying63] at h
 cases h
 kernel_rfl
instance iFO63_1:FO Tryd.prog 63 1 1:=⟨by kernel_rfl⟩
instance iFO63_0:FO Tryd.prog 63 0 0:=⟨by kernel_rfl⟩
instance iUD34:UD Tryd.prog 34 (.int .u64):=⟨Tryd.underlying34⟩
theorem eJ:(Tryd.prog.info? 63).map (·.size)=some 2:=by kernel_rfl
theorem GD:∀ fs,Tryd.prog.underlying 136=some (.struct fs)→fs.toList.map (fun f=>(Tryd.prog.info? f.type).map (·.size))=([1,1]:List Nat).map some:=by
 intro fs h
 rw [Tryd.underlying136] at h
 cases h
 kernel_rfl
theorem sY:(Tryd.prog.info? 136).bind (·.zero)=some (.agg #[.int .i64 0,.slice none 0 0]):=by kernel_rfl
theorem tI:(Tryd.prog.info? 136).map (·.size)=some 2:=by kernel_rfl
theorem DB:iF Tryd.prog 134 136 2 32:=⟨⟨Tryd.t136,.agg #[.int .i64 0,.slice none 0 0],Tryd.underlying134,by kernel_rfl,by kernel_rfl,by kernel_rfl,by kernel_rfl,by decide,by kernel_rfl⟩⟩
instance iUD134:UD Tryd.prog 134 (.slice 136):=⟨Tryd.underlying134⟩
instance iLiT_wherryref01_node:LenI ab.ienc 2:=⟨ab.ilen⟩
instance iSZ136:SZ Tryd.prog 136 2:=⟨by kernel_rfl⟩
instance iFO136_1:FO Tryd.prog 136 1 1:=⟨by kernel_rfl⟩
instance iFO136_0:FO Tryd.prog 136 0 0:=⟨by kernel_rfl⟩
theorem nw (l:(List Int)) (r:(List Int)) (h:Sh.fh l=some r):bZ Tryd.prog 12 [.fl .shr 1 (map (int .u8) l)] (.fl (.own 5) 1 (map (int .u8) r)):=by
 unfold Sh.fh at h
 refine yO 7 func12 fun g0 hn hio => ?_
 refine aX hn 1 [0] ?_
 refine aX hn 1 [0,3] ?_
 refine aa ?_
 obtain ⟨v1,hv1,h⟩:=zn h
 refine yx hn 2 ?_
 refine yS (.fl (.own 5) 1 (map (int .u8) v1)) 0 ⟨kH _ _ _ _ HH rfl rfl (fe _) hv1 (congrArg (map _) (kU hv1))⟩ ?_
 refine ya 0 ?_
 refine bi [2] ?_
 refine au ?_
 obtain rfl:=zi h
 exact ay hio rfl (.tmp _ _ .nil) rfl rfl
theorem bp (w:af) (v:Int) (n:Int) (r:af) (h:Sh.aR w v n=some r):sv Tryd.prog 55 [.box 57 [.fl (.own 5) 1 (map (int .u8) w.b),.v (.int .i64 w.n)],.v (.int .i64 v),.v (.int .i64 n)] [.box 57 [.fl (.own 5) 1 (map (int .u8) r.b),.v (.int .i64 r.n)]] (.tup []):=by
 unfold Sh.aR at h
 refine yP 65 func55 fun args0 hargs0 g0 hn hio => ?_
 refine aa ?_
 obtain ⟨v1,hv1,h⟩:=zn h
 refine yx hn 1 ?_
 refine ys 1 ⟨lv hv1⟩ ?_
 refine bi [0,2,6,0] ?_
 refine aH h (fun ((s35,s36,s37,s38):(List Int)×Int×Int×Int)=>[(0,.box 57 [.fl (.own 5) 1 (map (int .u8) s35),vi s36]),(2,vi s37),(6,.v (.int .u32 s38)),(0,.v (List.getD args0 0 undef))]) (fun ((s46,s47):(List Int)×Int)=>[(0,.box 57 [.fl (.own 5) 1 (map (int .u8) s46),vi s47]),(0,.v (List.getD args0 0 undef))]) ?_ ?_
 rintro ⟨s46,s47⟩ h
 obtain rfl:=zi h
 exact oO (es:=[]) (posts:=[.box 57 [.fl (.own 5) 1 (map (int .u8) s46),.v (.int .i64 s47)]]) hio rfl rfl .nil rfl rfl hargs0 rfl
 rintro u48 hl49 hr50 ⟨s35,s36,s37,s38⟩ rr53 h ho51
 refine aa ?_
 refine aX hn 2 [0,2,6,12,0] ?_
 refine zc h rfl (fun h => ?_) (fun h => ?_)
 refine ak (ae (aC (aa ?_)))
 obtain ⟨v3,hv3,h⟩:=zn h
 refine yx hn 4 ?_
 refine ys 1 ⟨lB (sq hv3)⟩ ?_
 refine bi [0,2,6,7,0] ?_
 refine aa ?_
 refine aL h (fun (s56:(List Int))=>[(0,.box 57 [.fl (.own 5) 1 (map (int .u8) s56),vi s36]),(2,vi s37),(6,.v (.int .u32 s38)),(7,vi v3),(0,.v (List.getD args0 0 undef))]) ?_ ?_
 rintro s56 h
 refine ae (aa ?_)
 obtain ⟨v11,hv11,v12,hv12,h⟩:=eY h
 refine yx hn 1 ?_
 refine ys 1 ⟨lb hv11⟩ ?_
 refine yS (vi v12) 1 ⟨(Option.some.inj hv12) ▸ pj _ _ _ _ rfl rfl⟩ ?_
 refine bi [0,2,6,7,8,0] ?_
 refine aa ?_
 obtain ⟨v13,hv13,v14,hv14,v15,hv15,v16,hv16,h⟩:=gZ h
 obtain ⟨v17,hv17,v18,hv18,v19,hv19,v20,hv20,h⟩:=gZ h
 refine wb [[],[33,0],[34,0],[35,0],[],[37,0],[38,0],[39,0],[40,0]] ?_
 refine wN [41] ?_
 refine wo [] ⟨lb hv13⟩ ?_
 refine wN [36,0,42] ?_
 refine wo [] ⟨li hv14⟩ ?_
 refine wN [43,0] ?_
 refine wo [[6],[7]] ⟨ll hv15⟩ ?_
 refine wN [45,46] ?_
 refine wo [] ⟨lB (jy hv16)⟩ ?_
 refine wN [47] ?_
 refine wo [] ⟨lv hv17⟩ ?_
 refine wN [44,48] ?_
 refine wo [] ⟨lb hv18⟩ ?_
 refine wN [36,0,42] ?_
 refine wo [] ⟨li hv19⟩ ?_
 refine wK [0] [50,49] ?_
 refine wt [(0,.box 57 [.fl (.own 5) 1 (map (int .u8) v20),vi s36])] [] ⟨ln _ _ _ 0 0 _ _ _ _ xP rfl rfl (zl rfl) rfl rfl (by decide) (dO (bA hv19).2) ((map_set (f:=int .u8) _ (bA hv19).2).trans (congrArg (map _) (Option.some.inj hv20))) rfl⟩ ?_
 refine zP hn [0,2,6,8,0] ?_
 refine aa ?_
 obtain ⟨v21,hv21,h⟩:=zn h
 refine yx hn 2 ?_
 refine ys 0 ⟨lB (uJ hv21)⟩ ?_
 refine yw [6] 1 ?_
 refine bi [0,2,8,6,0] ?_
 refine aa ?_
 obtain ⟨v22,hv22,h⟩:=zn h
 refine yx hn 5 ?_
 refine ys 3 ⟨lb hv22⟩ ?_
 refine bi [0,2,8,6,0] ?_
 obtain ⟨v23,hv23,h⟩:=zn h
 refine yx hn 2 ?_
 refine ys 0 ⟨lb hv23⟩ ?_
 refine yw [2] 1 ?_
 refine ye [0,6,2,0] ?_
 refine aM ?_
 refine ar [0,2,1,3] (by kernel_rfl) (es':=[(_,_),(_,_),(_,_),(_,_)]) rfl ?_
 exact aS _ (zi h).symm rfl
 intro u57 h hl58 hr59
 refine aX hn 2 [0,2,6,7,19,0] ?_
 refine zc h rfl (fun h => ?_) (fun h => ?_)
 obtain ⟨v5,hv5,h⟩:=zn h
 refine yx hn 5 ?_
 refine yS (.fl (.own 5) 1 (map (int .u8) [0])) 0 ⟨aF _ _ 1 (.int .u8 0) (map (int .u8) [0]) [(0,.int .u8 0)] underlying22 xP ED (fun _ V w o a hv hes=>by simp only [List.map_toArray,List.map_cons,List.map_nil]; try rfl) (bC (by simp [Instr.fill,Value.cells]; rfl) (by simp [List.range,List.range.loop] <;> rfl)) (by simp [Value.oneCell']) rfl (by decide) (by decide) (by decide)⟩ ?_
 refine yk [0] [24,25] ?_
 refine qk (0,.box 57 [.any,vi s36]) (26,.fl (.own 5) 1 (map (int .u8) v5)) 2 ⟨lJ _ _ _ _ _ _ HH rfl rfl (zl rfl) rfl (fe _) (fe _) hv5 ((List.map_append).symm.trans (congrArg (map _) (iT hv5))) (Nat.ne_of_beq_eq_false rfl) rfl rfl⟩ ?_
 refine yw [24] 0 ?_
 refine yk [26,0] [28] ?_
 refine yt (0,.box 57 [.fl (.own 5) 1 (map (int .u8) v5),vi s36]) 0 ⟨aY _ _ _ _ _ _ _ _ Ja rfl rfl rfl (zl rfl) rfl rfl⟩ ?_
 refine ye [0,2,6,7,0] ?_
 exact hl58 _ (zi h).symm
 refine ak ?_
 refine ar [0,1,2,3,5] (by kernel_rfl) (es':=[(_,_),(_,_),(_,_),(_,_),(_,_)]) rfl ?_
 exact hl58 _ (zi h).symm
 refine aO (ag (ag (aP ?_)))
 refine ar [0,4] (by kernel_rfl) (es':=[(_,_),(_,_)]) rfl ?_
 exact hl49 _ (ho51 _ (zi h).symm).symm
theorem gu (kind:Int) (r:(Option af)) (h:Sh.dH kind=some r):bZ Tryd.prog 54 [.v (.int .i64 kind)] (.obox (Option.isSome r) 57 [.fl (.own 5) 1 (map (int .u8) (((Option.getD r (default:af))).b)),.v (.int .i64 (((Option.getD r (default:af))).n))]):=by
 unfold Sh.dH at h
 refine yO 12 func54 fun g0 hn hio => ?_
 refine aX hn 1 [0] ?_
 refine gG hn 0 ?_
 refine yS (.agg [vz,vi 0]) 1 ⟨ec _ _ _ _ [1,1] _ _ underlying57 Kh (Ke _ underlying57) sr.nil rfl rfl rfl⟩ ?_
 refine ya 0 ?_
 refine bi [0,3] ?_
 refine aa ?_
 obtain ⟨v1,hv1,h⟩:=zn h
 refine yx hn 1 ?_
 refine yk [3] [6] ?_
 refine qk (3,.box 57 [.fl (.own 5) 1 (map (int .u8) v1.b),vi v1.n]) (7,.tup []) 0 ⟨cv _ _ _ _ 7 55 [.tmp 6] [_,_] _ _ _ rfl call55 rfl rfl rfl ((bp (af.mk [] 0) 1 1 _ hv1).args (bO (zm (bO (bV 5 1) (bO (ei _) (fY)))) (bO (ei _) (bO (ei _) (fY))))) (zl rfl) rfl rfl rfl rfl rfl rfl rfl rfl⟩ ?_
 refine bi [0,3] ?_
 refine aa ?_
 obtain ⟨v2,hv2,h⟩:=zn h
 refine yx hn 2 ?_
 refine yQ call55 (bp _ _ _ _ hv2) 3 [8,9] 0 ?_
 refine bi [3] ?_
 refine gG hn 0 ?_
 refine ym 0 ?_
 refine ya 0 ?_
 refine bi [2] ?_
 refine au ?_
 refine fM (fs:=[(2,.obox true 57 [.fl (.own 5) 1 (map (int .u8) v2.b),vi v2.n])]) (.sub _ (jG 57 (mE _)) rfl .nil) ?_
 obtain rfl:=zi h
 exact ay hio rfl (.tmp _ _ .nil) rfl rfl
theorem ij (b:(List Int)) (r:(Option af)) (h:Sh.cS b=some r):bZ Tryd.prog 33 [.fl .shr 1 (map (int .u8) b)] (.obox (Option.isSome r) 57 [.fl (.own 5) 1 (map (int .u8) (((Option.getD r (default:af))).b)),.v (.int .i64 (((Option.getD r (default:af))).n))]):=by
 unfold Sh.cS at h
 refine yO 37 func33 fun g0 hn hio => ?_
 refine aX hn 1 [0] ?_
 refine aa ?_
 obtain ⟨v1,hv1,h⟩:=zn h
 refine yx hn 0 ?_
 refine ys 0 ⟨lk call54 (gu _ _ hv1)⟩ ?_
 refine ya 0 ?_
 refine ye [0,3] ?_
 refine Av (d:=default) (f:=fun (v2:af)=>[.fl (.own 5) 1 (map (int .u8) v2.b),.v (.int .i64 v2.n)]) 1 2 3 57 h (es1:=fun v2=>[(0,fb b),(3,.box 57 [.fl (.own 5) 1 (map (int .u8) v2.b),.v (.int .i64 v2.n)])]) (es0:=[(0,fb b),(3,.v (.pointer none))]) rfl (fun _=>rfl) (by kernel_rfl) (fun _=>rfl) (fun _=>rfl) rfl (fun v2 hv3 h => ?_) (fun hv3 h => ?_)
 refine ae (aa ?_)
 obtain ⟨v4,hv4,h⟩:=zn h
 refine yx hn 6 ?_
 refine ys 3 ⟨lb hv4⟩ ?_
 refine bi [0,3] ?_
 refine aa ?_
 obtain ⟨v5,hv5,h⟩:=zn h
 refine yx hn 3 ?_
 refine yQ call55 (bp _ _ _ _ hv5) 3 [16,18] 0 ?_
 refine bi [0,3] ?_
 refine aa ?_
 obtain ⟨v6,hv6,v7,hv7,h⟩:=eY h
 refine yx hn 3 ?_
 refine ys 0 ⟨lb hv6⟩ ?_
 refine yQ call55 (bp _ _ _ _ hv7) 3 [20,23] 0 ?_
 refine bi [0,3] ?_
 refine aa ?_
 refine aX hn 3 [3,25,26,27] ?_
 refine aH h (fun ((s18,s19,s20):(List Int)×Int×Int)=>[(3,.box 57 [.fl (.own 5) 1 (map (int .u8) s18),vi s19]),(25,fb b),(26,vi (b.length:Int)),(27,vi s20)]) (fun ((s22,s23):(List Int)×Int)=>[(3,.box 57 [.fl (.own 5) 1 (map (int .u8) s22),vi s23])]) ?_ ?_
 rintro ⟨s22,s23⟩ h
 refine ae ?_
 refine gG hn 0 ?_
 refine ym 0 ?_
 refine ya 0 ?_
 refine bi [2] ?_
 refine au ?_
 refine fM (fs:=[(2,.obox true 57 [.fl (.own 5) 1 (map (int .u8) s22),vi s23])]) (.sub _ (jG 57 (mE _)) rfl .nil) ?_
 obtain rfl:=zi h
 exact ay hio rfl (.tmp _ _ .nil) rfl rfl
 rintro u24 hl25 hr26 ⟨s18,s19,s20⟩ rr29 h ho27
 refine aX hn 1 [3,25,26,27,28] ?_
 refine aa ?_
 refine zc h rfl (fun h => ?_) (fun h => ?_)
 refine ak ?_
 refine ae (aa ?_)
 refine aC (aa ?_)
 obtain ⟨v9,hv9,v10,hv10,h⟩:=eY h
 refine yx hn 0 ?_
 refine ys 0 ⟨li hv9⟩ ?_
 refine ys 1 ⟨ll hv10⟩ ?_
 refine bi [3,25,26,27,5] ?_
 obtain ⟨v11,hv11,v12,hv12,h⟩:=eY h
 refine yx hn 2 ?_
 refine ys 0 ⟨lv hv11⟩ ?_
 refine yQ call55 (bp _ _ _ _ hv12) 3 [31,33] 0 ?_
 refine ye [3,25,26,27] ?_
 refine aM (ae ?_)
 obtain ⟨v13,hv13,h⟩:=zn h
 refine yx hn 0 ?_
 refine ys 0 ⟨lb hv13⟩ ?_
 refine yw [27] 1 ?_
 refine ye [3,25,26,27] ?_
 exact aS _ (zi h).symm rfl
 refine aO (ag (ag (aP ?_)))
 refine ar [0] (by kernel_rfl) (es':=[(_,_)]) rfl ?_
 exact hl25 _ (ho27 _ (zi h).symm).symm
 cases h
theorem kj (b:(List Int)) (r:((List Int)×Int)) (h:Sh.eG b=some r):bZ Tryd.prog 13 [.fl .shr 1 (map (int .u8) b)] (.tup [.fl (.own 5) 1 (map (int .u8) r.1),.v (.int .i64 r.2)]):=by
 unfold Sh.eG at h
 refine yO 12 func13 fun g0 hn hio => ?_
 refine aX hn 2 [0] ?_
 refine aa ?_
 refine aX hn 3 [0,6] ?_
 refine zc h rfl (fun h => ?_) (fun h => ?_)
 refine aX hn 2 [2,3] ?_
 refine au ?_
 refine fM (fs:=[(2,.fl (.own 5) 1 (map (int .u8) [])),(3,vi 2)]) (.sub _ (bV 5 1) rfl (.same _ .nil)) ?_
 refine ap ?_
 obtain rfl:=zi h
 exact ay hio rfl (.tmp _ _ (.tmp _ _ .nil)) rfl rfl
 refine ak ?_
 refine ae (aa ?_)
 obtain ⟨v2,hv2,v3,hv3,h⟩:=eY h
 refine yx hn 1 ?_
 refine ys 0 ⟨lk call33 (ij _ _ hv2)⟩ ?_
 refine yk [8] [] ?_
 refine qk (8,.box 57 [.fl (.own 5) 1 (map (int .u8) v3.b),vi v3.n]) (9,.ptr 8 0) 2 ⟨jE _ 9 8 2 (by rw [hv3]; rfl) (by rw [hv3]; rfl) rfl (by decide) rfl rfl⟩ ?_
 refine yk [8] [11] ?_
 refine qk (8,.box 57 [.any,vi v3.n]) (2,.fl (.own 5) 1 (map (int .u8) v3.b)) 1 ⟨jq _ 2 8 0 rfl rfl (zl rfl) rfl (by decide) rfl⟩ ?_
 refine bi [2,3] ?_
 refine au ?_
 obtain rfl:=zi h
 exact ay hio rfl (.tmp _ _ (.tmp _ _ .nil)) rfl rfl
theorem lS (b:(List Int)) (from_:Int) (r:(Option aj)) (h:Sh.gF b from_=some r):bZ Tryd.prog 56 [.fl .shr 1 (map (int .u8) b),.v (.int .i64 from_)] (.obox (Option.isSome r) 103 [.fl .shr 1 (map (int .u8) (((Option.getD r (default:aj))).b)),.hid (eF Tryd.prog 105 3 (((Option.getD r (default:aj))).last)),.fl (.own 3) 1 (map (int .i64) (((Option.getD r (default:aj))).back)),.v (.int .i64 (((Option.getD r (default:aj))).from_))]):=by
 unfold Sh.gF at h
 refine yO 10 func56 fun g0 hn hio => ?_
 refine aX hn 1 [0,1] ?_
 refine gG hn 1 ?_
 refine yS (.hid (eF Tryd.prog 105 3 [])) 1 ⟨xx _ _⟩ ?_
 refine yk [6] [5,7] ?_
 refine yt (8,.agg [fb b,.hid (eF Tryd.prog 105 3 []),vz,vi from_]) 0 ⟨ec _ _ _ _ [1,1,1,1] _ _ underlying103 Jx (JF _ underlying103) (.copy _ (.take _ _ (.copy _ sr.nil))) rfl rfl rfl⟩ ?_
 refine yk [8] [] ?_
 refine yt (9,.box 103 [fb b,.hid (eF Tryd.prog 105 3 []),vz,vi from_]) 0 ⟨iB _ _ _ _ _ rfl rfl rfl⟩ ?_
 refine ya 0 ?_
 refine bi [4] ?_
 refine au ?_
 refine fM (fs:=[(4,.obox true 103 [fb b,.hid (eF Tryd.prog 105 3 []),.fl (.own 3) 1 (map (int .i64) []),vi from_])]) (.sub _ (jG 103 (bO (ei _) (bO (ei _) (bO (bV 3 1) (bO (ei _) (fY)))))) rfl .nil) ?_
 obtain rfl:=zi h
 exact ay hio rfl (.tmp _ _ .nil) rfl rfl
theorem gI (x:aj) (at_:Int) (r:((List Int)×Bool×aj)) (h:Sh.dc x at_=some r):sv Tryd.prog 79 [.box 103 [.fl .shr 1 (map (int .u8) x.b),.hid (eF Tryd.prog 105 3 x.last),.fl (.own 3) 1 (map (int .i64) x.back),.v (.int .i64 x.from_)],.v (.int .i64 at_)] [.box 103 [.fl .shr 1 (map (int .u8) r.2.2.b),.hid (eF Tryd.prog 105 3 r.2.2.last),.fl (.own 3) 1 (map (int .i64) r.2.2.back),.v (.int .i64 r.2.2.from_)]] (.tup [.v (.agg (map (int .u8) r.1).toArray),.v (.bool r.2.1)]):=by
 unfold Sh.dc at h
 refine yP 25 func79 fun args0 hargs0 g0 hn hio => ?_
 refine gG hn 0 ?_
 refine yS (.arr 105 (map (int .u8) ((List.replicate 3 (0:Int))))) 1 ⟨oA (dP _ CC)⟩ ?_
 refine bi [0,1,4,0] ?_
 refine aa (aa ?_)
 obtain ⟨v1,hv1,h⟩:=zn h
 refine yx hn 1 ?_
 refine ys 6 ⟨lb hv1⟩ ?_
 refine bi [0,1,4,13,0] ?_
 refine zc h rfl (fun h => ?_) (fun h => ?_)
 refine aa ?_
 obtain ⟨v3,hv3,v4,hv4,h⟩:=eY h
 refine yx hn 0 ?_
 refine yS (.v (.agg (map (int .u8) (([(0:Int),(0:Int),(0:Int)]:List Int))).toArray)) 0 ⟨gP _ _ (.agg #[.int .u8 0,.int .u8 0,.int .u8 0]) (map (int .u8) (([(0:Int),(0:Int),(0:Int)]:List Int))) [] underlying105 xP Jz (fun _ V w o a hv hes=>by simp only [List.map_toArray,List.map_cons,List.map_nil]; try rfl) (bC (by simp [Instr.fill,Value.cells]; rfl) (by simp))⟩ ?_
 refine yk [4] [14] ?_
 refine yt (4,.arr 105 (map (int .u8) (([(0:Int),(0:Int),(0:Int)]:List Int)))) 1 ⟨dS _ _ _ _ (mY.trans (congrArg some (bY hv4))) rfl rfl (jP (fun _=>rfl) _) ((bY (f:=int .u8) hv3).symm.trans (bY (f:=int .u8) hv4))⟩ ?_
 refine bi [0,4,5,0] ?_
 refine au ?_
 obtain ⟨v5,hv5,h⟩:=zn h
 refine ar [1,2,0,3] (by kernel_rfl) (es':=[(_,_),(_,_),(_,_),(_,_)]) rfl ?_
 refine ap ?_
 obtain rfl:=zi h
 exact gR (es:=[(4,.arr 105 (map (int .u8) (([(0:Int),(0:Int),(0:Int)]:List Int)))),(5,.v (.bool false))]) (posts:=[.box 103 [fb x.b,.hid (eF Tryd.prog 105 3 x.last),.fl (.own 3) 1 (map (int .i64) x.back),.v (.int .i64 x.from_)]]) hio rfl rfl (.cellR _ _ _ _ underlying105 rfl (mY.trans (congrArg some (bY hv5))) (.tmp _ _ .nil)) rfl rfl hargs0 rfl
 refine ak ?_
 refine ae (aa ?_)
 obtain ⟨v6,hv6,v7,hv7,v8,hv8,v9,hv9,h⟩:=gZ h
 obtain ⟨v10,hv10,h⟩:=zn h
 refine yx hn 6 ?_
 refine ys 0 ⟨lb hv6⟩ ?_
 refine yS (fb v7) 0 ⟨Ck _ _ _ at_ v6 _ underlying22 xP rfl rfl ⟨_,rfl⟩ ⟨_,rfl⟩ hv7⟩ ?_
 refine yS (.eref (.slot 22) 0) 0 ⟨yf _ _ 22 3 underlying105 rfl (uo (f:=int .u8) hv8).2.2 (by decide) rfl⟩ ?_
 refine yS (.v (.agg (map (int .u8) v8).toArray)) 0 ⟨xp _ _ _ (.slot 22) 0 3 _ underlying105 rfl mY rfl rfl (uo (f:=int .u8) hv8).1 (uo (f:=int .u8) hv8).2.1 (by decide)⟩ ?_
 refine yk [4] [24] ?_
 refine yt (4,.arr 105 (map (int .u8) v8)) 1 ⟨dS _ _ _ _ (mY.trans (congrArg some (bY hv10))) rfl rfl (jP (fun _=>rfl) _) ((bY (f:=int .u8) hv9).symm.trans (bY (f:=int .u8) hv10))⟩ ?_
 refine bi [0,4,5,0] ?_
 refine au ?_
 obtain ⟨v11,hv11,h⟩:=zn h
 refine ar [1,2,0,3] (by kernel_rfl) (es':=[(_,_),(_,_),(_,_),(_,_)]) rfl ?_
 obtain rfl:=zi h
 exact gR (es:=[(4,.arr 105 (map (int .u8) v8)),(5,.v (.bool true))]) (posts:=[.box 103 [fb x.b,.hid (eF Tryd.prog 105 3 x.last),.fl (.own 3) 1 (map (int .i64) x.back),.v (.int .i64 x.from_)]]) hio rfl rfl (.cellR _ _ _ _ underlying105 rfl (mY.trans (congrArg some (bY hv11))) (.tmp _ _ .nil)) rfl rfl hargs0 rfl
theorem lF (x:aj) (p:Int) (at_:Int) (r:(Int×aj)) (h:Sh.cR x p at_=some r):sv Tryd.prog 80 [.box 103 [.fl .shr 1 (map (int .u8) x.b),.hid (eF Tryd.prog 105 3 x.last),.fl (.own 3) 1 (map (int .i64) x.back),.v (.int .i64 x.from_)],.v (.int .i64 p),.v (.int .i64 at_)] [.box 103 [.fl .shr 1 (map (int .u8) r.2.b),.hid (eF Tryd.prog 105 3 r.2.last),.fl (.own 3) 1 (map (int .i64) r.2.back),.v (.int .i64 r.2.from_)]] (.v (.int .i64 r.1)):=by
 unfold Sh.cR at h
 refine yP 44 func80 fun args0 hargs0 g0 hn hio => ?_
 refine aX hn 1 [0,1,2,0] ?_
 refine aa ?_
 obtain ⟨v1,hv1,v2,hv2,h⟩:=eY h
 refine yx hn 6 ?_
 refine ys 0 ⟨lb hv1⟩ ?_
 refine yS (vi v2) 1 ⟨(Option.some.inj hv2) ▸ pj _ _ _ _ rfl rfl⟩ ?_
 refine bi [0,1,2,7,0] ?_
 refine aX hn 1 [0,1,2,7,8,0] ?_
 refine aa ?_
 refine aH h (fun (s21:Int)=>[(0,.box 103 [fb x.b,.hid (eF Tryd.prog 105 3 x.last),.fl (.own 3) 1 (map (int .i64) x.back),vi x.from_]),(1,vi p),(2,vi at_),(7,vi v2),(8,vi s21),(0,.v (List.getD args0 0 undef))]) (fun (s27:Int)=>[(0,.box 103 [fb x.b,.hid (eF Tryd.prog 105 3 x.last),.fl (.own 3) 1 (map (int .i64) x.back),vi x.from_]),(8,vi s27),(0,.v (List.getD args0 0 undef))]) ?_ ?_
 rintro s27 h
 refine ae ?_
 refine aX hn 2 [0,6,0] ?_
 refine au ?_
 refine ar [1,0,2] (by kernel_rfl) (es':=[(_,_),(_,_),(_,_)]) rfl ?_
 obtain rfl:=zi h
 exact gR (es:=[(6,.v (.int .i64 s27))]) (posts:=[.box 103 [fb x.b,.hid (eF Tryd.prog 105 3 x.last),.fl (.own 3) 1 (map (int .i64) x.back),.v (.int .i64 x.from_)]]) hio rfl rfl (.tmp _ _ .nil) rfl rfl hargs0 rfl
 rintro u28 hl29 hr30 s21 rr33 h ho31
 refine aa (aa ?_)
 refine aL h (fun (s34:Bool)=>[(0,.box 103 [fb x.b,.hid (eF Tryd.prog 105 3 x.last),.fl (.own 3) 1 (map (int .i64) x.back),vi x.from_]),(1,vi p),(2,vi at_),(7,vi v2),(8,vi s21),(40,vb s34),(0,.v (List.getD args0 0 undef))]) ?_ ?_
 rintro s34 h
 refine ae ?_
 refine zc h rfl (fun h => ?_) (fun h => ?_)
 refine ak (ae (aC ?_))
 obtain ⟨v14,hv14,h⟩:=zn h
 refine yx hn 1 ?_
 refine ys 0 ⟨lb hv14⟩ ?_
 refine yw [8] 1 ?_
 refine ye [0,1,2,7,8,0] ?_
 refine aM ?_
 exact aS _ (zi h).symm rfl
 refine aO (ag (ag (aP ?_)))
 refine ar [0,4,6] (by kernel_rfl) (es':=[(_,_),(_,_),(_,_)]) rfl ?_
 exact hl29 _ (ho31 _ (zi h).symm).symm
 intro u35 h hl36 hr37
 refine aE h (fun hg3_3 h => ?_) (fun hg3_3 h => ?_)
 obtain ⟨v3,hv3,v4,hv4,v5,hv5,v6,hv6,h⟩:=gZ h
 obtain ⟨v7,hv7,v8,hv8,h⟩:=eY h
 refine wb [[8],[7],[17,18],[19]] ?_
 refine wd hg3_3 [[20],[20,21,0],[20,22,0],[20,23,0],[20,1],[20,8]] ?_
 refine wN [20,25,26] ?_
 refine wo [] ⟨lb hv3⟩ ?_
 refine wN [20,24,27] ?_
 refine wo [] ⟨li hv4⟩ ?_
 refine wN [20,28,24] ?_
 refine wo [[20],[20,30,0],[20,31,0],[20,32,0],[20,2],[20,8]] ⟨ll hv5⟩ ?_
 refine wN [20,34,35] ?_
 refine wo [] ⟨lb hv6⟩ ?_
 refine wN [20,33,36] ?_
 refine wo [] ⟨li hv7⟩ ?_
 refine wN [20,37,33] ?_
 refine wo [[20,29,38],[20,39]] ⟨ll hv8⟩ ?_
 refine we hn [0,1,2,7,8,40,0] ?_
 exact hl36 _ (zi h).symm
 refine wb [[8],[7],[17,18],[19]] ?_
 refine wd hg3_3 [[20],[20],[20],[20],[20],[20],[20],[20],[20],[20],[20],[20],[20],[20],[20],[20],[20],[20],[20],[20]] ?_
 refine we hn [0,1,2,7,8,40,0] ?_
 exact hl36 _ (zi h).symm
theorem mP (x:aj) (at_:Int) (r:(Int×Int×aj)) (h:Sh.dW x at_=some r):sv Tryd.prog 57 [.box 103 [.fl .shr 1 (map (int .u8) x.b),.hid (eF Tryd.prog 105 3 x.last),.fl (.own 3) 1 (map (int .i64) x.back),.v (.int .i64 x.from_)],.v (.int .i64 at_)] [.box 103 [.fl .shr 1 (map (int .u8) r.2.2.b),.hid (eF Tryd.prog 105 3 r.2.2.last),.fl (.own 3) 1 (map (int .i64) r.2.2.back),.v (.int .i64 r.2.2.from_)]] (.tup [.v (.int .i64 r.1),.v (.int .i64 r.2.1)]):=by
 unfold Sh.dW at h
 refine yP 65 func57 fun args0 hargs0 g0 hn hio => ?_
 refine aX hn 2 [0,1,4,5,0] ?_
 refine aa ?_
 obtain ⟨v1,hv1,v2,hv2,v3,hv3,h⟩:=kg h
 refine yx hn 2 ?_
 refine yq call79 (gI _ _ _ hv1) 0 [11,12] 0 ?_
 refine ym 2 ?_
 refine yS (.arr 105 (map (int .u8) ((List.replicate 3 (0:Int))))) 0 ⟨oA (dP _ CC)⟩ ?_
 refine yk [6] [14] ?_
 refine yt (6,.arr 105 (map (int .u8) v1.1)) 1 ⟨dS _ _ _ _ (mY.trans (congrArg some (bY hv3))) rfl rfl (jP (fun _=>rfl) _) ((bY (f:=int .u8) hv2).symm.trans (bY (f:=int .u8) hv3))⟩ ?_
 refine bi [0,1,4,5,6,7,0] ?_
 refine aa ?_
 refine aX hn 2 [0,1,4,5,6,17,0] ?_
 refine zc h rfl (fun h => ?_) (fun h => ?_)
 refine gG hn 0 ?_
 refine yw [4] 1 ?_
 refine yw [5] 1 ?_
 refine bi [0,4,5,0] ?_
 refine au ?_
 refine ar [1,2,0,3] (by kernel_rfl) (es':=[(_,_),(_,_),(_,_),(_,_)]) rfl ?_
 refine ap ?_
 obtain rfl:=zi h
 exact gR (es:=[(4,.v (.int .i64 0)),(5,.v (.int .i64 0))]) (posts:=[.box 103 [fb v1.2.2.b,.hid (eF Tryd.prog 105 3 v1.2.2.last),.fl (.own 3) 1 (map (int .i64) v1.2.2.back),.v (.int .i64 v1.2.2.from_)]]) hio rfl rfl (.tmp _ _ (.tmp _ _ .nil)) rfl rfl hargs0 rfl
 refine ak ?_
 refine ae (aa ?_)
 refine aL h (fun ((s109,s110,s111,s112,s113,s114):(List Int)×(List ((List Int)×Int))×(List Int)×Int×Int×Int)=>[(0,.box 103 [fb s109,.hid (eF Tryd.prog 105 3 s110),.fl (.own 3) 1 (map (int .i64) s111),vi s112]),(4,vi s113),(5,vi s114),(0,.v (List.getD args0 0 undef))]) ?_ ?_
 rintro ⟨s109,s110,s111,s112,s113,s114⟩ h
 refine ae ?_
 refine gG hn 2 ?_
 refine yw [4] 1 ?_
 refine yw [5] 1 ?_
 refine bi [0,4,5,0] ?_
 refine au ?_
 refine ar [1,2,0,3] (by kernel_rfl) (es':=[(_,_),(_,_),(_,_),(_,_)]) rfl ?_
 obtain rfl:=zi h
 exact gR (es:=[(4,.v (.int .i64 s113)),(5,.v (.int .i64 s114))]) (posts:=[.box 103 [fb s109,.hid (eF Tryd.prog 105 3 s110),.fl (.own 3) 1 (map (int .i64) s111),.v (.int .i64 s112)]]) hio rfl rfl (.tmp _ _ (.tmp _ _ .nil)) rfl rfl hargs0 rfl
 intro u115 h hl116 hr117
 refine aa ?_
 obtain ⟨v5,hv5,v6,hv6,v7,hv7,h⟩:=kg h
 refine wb [[],[18,0],[19,0],[20,0]] ?_
 refine wN [6] ?_
 refine wS (.v (.agg (map (int .u8) v1.1).toArray)) [] ⟨cC _ _ _ _ underlying105 rfl (mY.trans (congrArg some (bY hv5))) rfl rfl⟩ ?_
 refine wN [21,0,22] ?_
 refine wS (vi v6) [] ⟨sU _ _ _ _ 0 1 _ _ Ej rfl rfl (zl rfl) rfl rfl hv6⟩ ?_
 refine wN [23] ?_
 refine wo [[24]] ⟨lb hv7⟩ ?_
 refine zP hn [0,1,4,5,8,0] ?_
 refine aH h (fun ((s159,s160,s161,s162,s163,s164,s165):(List Int)×(List ((List Int)×Int))×(List Int)×Int×Int×Int×Int)=>[(0,.box 103 [fb s159,.hid (eF Tryd.prog 105 3 s160),.fl (.own 3) 1 (map (int .i64) s161),vi s162]),(1,vi at_),(4,vi s163),(5,vi s164),(8,vi s165),(0,.v (List.getD args0 0 undef))]) (fun ((s183,s184,s185,s186,s187,s188):(List Int)×(List ((List Int)×Int))×(List Int)×Int×Int×Int)=>[(0,.box 103 [fb s183,.hid (eF Tryd.prog 105 3 s184),.fl (.own 3) 1 (map (int .i64) s185),vi s186]),(4,vi s187),(5,vi s188),(0,.v (List.getD args0 0 undef))]) ?_ ?_
 rintro ⟨s183,s184,s185,s186,s187,s188⟩ h
 exact hl116 _ (zi h).symm
 rintro u189 hl190 hr191 ⟨s159,s160,s161,s162,s163,s164,s165⟩ rr194 h ho192
 refine aa (aa ?_)
 refine aL h (fun (s195:Bool)=>[(0,.box 103 [fb s159,.hid (eF Tryd.prog 105 3 s160),.fl (.own 3) 1 (map (int .i64) s161),vi s162]),(1,vi at_),(4,vi s163),(5,vi s164),(8,vi s165),(36,vb s195),(0,.v (List.getD args0 0 undef))]) ?_ ?_
 rintro s195 h
 refine ae ?_
 refine zc h rfl (fun h => ?_) (fun h => ?_)
 refine ak ?_
 refine ae (aa ?_)
 refine aC (aa ?_)
 refine aL h (fun ((s201,s202,s203,s204,s205,s206):Int×Int×(List Int)×(List ((List Int)×Int))×(List Int)×Int)=>[(0,.box 103 [fb s203,.hid (eF Tryd.prog 105 3 s204),.fl (.own 3) 1 (map (int .i64) s205),vi s206]),(1,vi at_),(8,vi s165),(4,vi s201),(5,vi s202),(0,.v (List.getD args0 0 undef))]) ?_ ?_
 rintro ⟨s201,s202,s203,s204,s205,s206⟩ h
 refine ae ?_
 refine aX hn 2 [0,1,8,4,5,62,0] ?_
 refine zc h rfl (fun h => ?_) (fun h => ?_)
 refine aO ?_
 refine Do (by decide) ?_
 refine ag (ag (aP ?_))
 refine ar [0,3,4,6] (by kernel_rfl) (es':=[(_,_),(_,_),(_,_),(_,_)]) rfl ?_
 exact hl190 _ (ho192 _ (zi h).symm).symm
 refine ak (aM (ae ?_))
 obtain ⟨v28,hv28,v29,hv29,v30,hv30,v31,hv31,h⟩:=gZ h
 refine wb [[],[37,0],[38,0],[39,0],[8],[],[42,0],[43,0],[44,0]] ?_
 refine wN [41,45] ?_
 refine wo [] ⟨lb hv28⟩ ?_
 refine wN [40,0,46] ?_
 refine wo [] ⟨li hv29⟩ ?_
 refine wN [47,0] ?_
 refine wo [] ⟨ll hv30⟩ ?_
 refine wN [48] ?_
 refine wo [] ⟨lb hv31⟩ ?_
 refine wK [8] [49] ?_
 refine wt [(8,vi v31)] [] ⟨bm.drop [_] (tJ _ _ _ _ rfl rfl)⟩ ?_
 refine we hn [0,1,4,5,8,0] ?_
 exact aS _ (zi h).symm rfl
 intro u207 h hl208 hr209
 refine aa ?_
 obtain ⟨v14,hv14,h⟩:=zn h
 refine yx hn 3 ?_
 refine yq call80 (lF _ _ _ _ hv14) 0 [50,51,52] 1 ?_
 refine bi [0,1,4,5,8,9,0] ?_
 refine aX hn 3 [0,1,4,5,8,9,56,0] ?_
 refine zc h rfl (fun h => ?_) (fun h => ?_)
 obtain ⟨v16,hv16,h⟩:=zn h
 refine yx hn 3 ?_
 refine ys 0 ⟨lb hv16⟩ ?_
 refine yw [4] 1 ?_
 refine yw [5] 1 ?_
 refine ye [0,1,8,4,5,0] ?_
 exact hl208 _ (zi h).symm
 refine ak ?_
 refine ar [0,1,4,2,3,7] (by kernel_rfl) (es':=[(_,_),(_,_),(_,_),(_,_),(_,_),(_,_)]) rfl ?_
 exact hl208 _ (zi h).symm
 refine aO (ag (ag (aP ?_)))
 refine ar [0,2,3,6] (by kernel_rfl) (es':=[(_,_),(_,_),(_,_),(_,_)]) rfl ?_
 exact hl190 _ (ho192 _ (zi h).symm).symm
 intro u196 h hl197 hr198
 refine aE h (fun hg5_6 h => ?_) (fun hg5_6 h => ?_)
 obtain ⟨v8,hv8,h⟩:=zn h
 refine yx hn 7 ?_
 refine yd hg5_6 2 ?_
 refine ys 2 ⟨lb hv8⟩ ?_
 refine ye [0,1,4,5,8,36,0] ?_
 exact hl197 _ (zi h).symm
 refine yx hn 7 ?_
 refine yd hg5_6 5 ?_
 refine ye [0,1,4,5,8,36,0] ?_
 exact hl197 _ (zi h).symm
theorem nk (x:aj) (at_:Int) (r:aj) (h:Sh.dG x at_=some r):sv Tryd.prog 58 [.box 103 [.fl .shr 1 (map (int .u8) x.b),.hid (eF Tryd.prog 105 3 x.last),.fl (.own 3) 1 (map (int .i64) x.back),.v (.int .i64 x.from_)],.v (.int .i64 at_)] [.box 103 [.fl .shr 1 (map (int .u8) r.b),.hid (eF Tryd.prog 105 3 r.last),.fl (.own 3) 1 (map (int .i64) r.back),.v (.int .i64 r.from_)]] (.tup []):=by
 unfold Sh.dG at h
 refine yP 36 func58 fun args0 hargs0 g0 hn hio => ?_
 refine aa ?_
 obtain ⟨v1,hv1,v2,hv2,v3,hv3,h⟩:=kg h
 refine yx hn 2 ?_
 refine yq call79 (gI _ _ _ hv1) 0 [7,8] 0 ?_
 refine ym 2 ?_
 refine yS (.arr 105 (map (int .u8) ((List.replicate 3 (0:Int))))) 0 ⟨oA (dP _ CC)⟩ ?_
 refine yk [4] [10] ?_
 refine yt (4,.arr 105 (map (int .u8) v1.1)) 1 ⟨dS _ _ _ _ (mY.trans (congrArg some (bY hv3))) rfl rfl (jP (fun _=>rfl) _) ((bY (f:=int .u8) hv2).symm.trans (bY (f:=int .u8) hv3))⟩ ?_
 refine bi [0,1,4,5,0] ?_
 refine aa ?_
 refine aX hn 2 [0,1,4,13,0] ?_
 refine zc h rfl (fun h => ?_) (fun h => ?_)
 refine au ?_
 refine ar [0,4] (by kernel_rfl) (es':=[(_,_),(_,_)]) rfl ?_
 refine ap ?_
 obtain rfl:=zi h
 exact gR (es:=[]) (posts:=[.box 103 [fb v1.2.2.b,.hid (eF Tryd.prog 105 3 v1.2.2.last),.fl (.own 3) 1 (map (int .i64) v1.2.2.back),.v (.int .i64 v1.2.2.from_)]]) hio rfl rfl .nil rfl rfl hargs0 rfl
 refine ak ?_
 refine ae (aa ?_)
 obtain ⟨v5,hv5,v6,hv6,v7,hv7,h⟩:=kg h
 refine wb [[],[],[15,0],[16,0],[17,0],[],[19,0],[20,0],[21,0]] ?_
 refine wN [4] ?_
 refine wS (.v (.agg (map (int .u8) v1.1).toArray)) [] ⟨cC _ _ _ _ underlying105 rfl (mY.trans (congrArg some (bY hv5))) rfl rfl⟩ ?_
 refine wN [22,0,23] ?_
 refine wS (vi v6) [] ⟨sU _ _ _ _ 0 1 _ _ Ej rfl rfl (zl rfl) rfl rfl hv6⟩ ?_
 refine wN [24] ?_
 refine wS (.fl (.own 3) 1 (map (int .i64) [v6])) [] ⟨aF _ _ 1 (.int .i64 0) (map (int .i64) [v6]) [(0,.int .i64 v6)] underlying37 fN kf (fun _ V w o a hv hes=>by have e0:=cX hv hes (x := .tmp 24) rfl; simp only [List.map_toArray,List.map_cons,List.map_nil,e0]; try rfl) (bC (by simp [Instr.fill,Value.cells]; rfl) (by simp [List.range,List.range.loop] <;> rfl)) (by simp [Value.oneCell']) rfl (by decide) (by decide) (by decide)⟩ ?_
 refine wK [0] [18,25] ?_
 refine wt [(0,.box 103 [fb v1.2.2.b,.hid (eF Tryd.prog 105 3 v1.2.2.last),.any,vi v1.2.2.from_]),(26,.fl (.own 3) 1 (map (int .i64) v7))] [[14,0],[27,0]] ⟨lJ _ _ _ _ _ _ fg rfl rfl (zl rfl) rfl (fe _) (fe _) hv7 ((List.map_append).symm.trans (congrArg (map _) (iT hv7))) (Nat.ne_of_beq_eq_false rfl) rfl rfl⟩ ?_
 refine wK [18,26,0] [28] ?_
 refine wt [(0,.box 103 [fb v1.2.2.b,.hid (eF Tryd.prog 105 3 v1.2.2.last),.fl (.own 3) 1 (map (int .i64) v7),vi v1.2.2.from_])] [] ⟨bm.drop [_] (aY _ _ _ _ _ _ _ _ JI rfl rfl rfl (zl rfl) rfl rfl)⟩ ?_
 refine zP hn [0,1,4,0] ?_
 obtain ⟨v8,hv8,v9,hv9,v10,hv10,h⟩:=kg h
 refine wb [[],[29,0],[30,0],[31,0]] ?_
 refine wN [4] ?_
 refine wS (.v (.agg (map (int .u8) v1.1).toArray)) [[1]] ⟨cC _ _ _ _ underlying105 rfl (mY.trans (congrArg some (bY hv8))) rfl rfl⟩ ?_
 refine wN [34] ?_
 refine wo [] ⟨lb hv9⟩ ?_
 refine wK [0] [32,33,35] ?_
 refine wt [(0,.box 103 [fb v1.2.2.b,.hid (eF Tryd.prog 105 3 v10),.fl (.own 3) 1 (map (int .i64) v7),vi v1.2.2.from_])] [] ⟨uE _ _ _ _ 0 1 _ _ Ej rfl (zl rfl) rfl rfl rfl hv10 rfl⟩ ?_
 refine we hn [0,0] ?_
 obtain rfl:=zi h
 exact oO (es:=[]) (posts:=[.box 103 [fb v1.2.2.b,.hid (eF Tryd.prog 105 3 v10),.fl (.own 3) 1 (map (int .i64) v7),.v (.int .i64 v1.2.2.from_)]]) hio rfl rfl .nil rfl rfl hargs0 rfl
theorem iV (b:(List Int)) (r:((List al)×Int)) (h:Sh.eZ b=some r):bZ Tryd.prog 34 [.fl .shr 1 (map (int .u8) b)] (.tup [.fl (.own 53) 3 (flatten (map al.enc r.1)),.v (.int .i64 r.2)]):=by
 unfold Sh.eZ at h
 refine yO 49 func34 fun g0 hn hio => ?_
 refine aX hn 2 [0] ?_
 refine aa ?_
 refine aX hn 3 [0,12] ?_
 refine zc h rfl (fun h => ?_) (fun h => ?_)
 refine aX hn 2 [2,3] ?_
 refine au ?_
 refine fM (fs:=[(2,.fl (.own 53) 3 (flatten (map al.enc []))),(3,vi 2)]) (.sub _ (bV 53 3) rfl (.same _ .nil)) ?_
 refine ap ?_
 obtain rfl:=zi h
 exact ay hio rfl (.tmp _ _ (.tmp _ _ .nil)) rfl rfl
 refine ak (ae ?_)
 refine aX hn 1 [0,4] ?_
 refine aa ?_
 obtain ⟨v2,hv2,h⟩:=zn h
 refine yx hn 1 ?_
 refine yk [] [13] ?_
 refine yt (14,.obox (Option.isSome v2) 103 [fb (((Option.getD v2 (default:aj))).b),.hid (eF Tryd.prog 105 3 (((Option.getD v2 (default:aj))).last)),.fl (.own 3) 1 (map (int .i64) (((Option.getD v2 (default:aj))).back)),vi (((Option.getD v2 (default:aj))).from_)]) 0 ⟨CJ _ _ 56 _ _ rfl call56 rfl rfl (lS b 0 _ hv2) rfl⟩ ?_
 refine ya 0 ?_
 refine ye [0,4,5] ?_
 refine Av (d:=default) (f:=fun (v3:aj)=>[fb v3.b,.hid (eF Tryd.prog 105 3 v3.last),.fl (.own 3) 1 (map (int .i64) v3.back),.v (.int .i64 v3.from_)]) 2 4 5 103 h (es1:=fun v3=>[(0,fb b),(4,vz),(5,.box 103 [fb v3.b,.hid (eF Tryd.prog 105 3 v3.last),.fl (.own 3) 1 (map (int .i64) v3.back),.v (.int .i64 v3.from_)])]) (es0:=[(0,fb b),(4,vz),(5,.v (.pointer none))]) rfl (fun _=>rfl) (by kernel_rfl) (fun _=>rfl) (fun _=>rfl) rfl (fun v3 hv4 h => ?_) (fun hv4 h => ?_)
 refine ae (aa ?_)
 refine aX hn 1 [0,4,5,6] ?_
 refine iS (fs:=[(0,fb b),(4,.fl (.own 53) 3 (flatten (map al.enc []))),(5,.box 103 [fb v3.b,.hid (eF Tryd.prog 105 3 v3.last),.fl (.own 3) 1 (map (int .i64) v3.back),vi v3.from_]),(6,vi 0)]) (.same _ (.sub _ (bV 53 3) rfl (.same _ (.same _ .nil)))) ?_
 refine aH h (fun ((s88,s89,s90,s91,s92,s93):(List al)×(List Int)×(List ((List Int)×Int))×(List Int)×Int×Int)=>[(0,fb b),(4,.fl (.own 53) 3 (flatten (map al.enc s88))),(5,.box 103 [fb s89,.hid (eF Tryd.prog 105 3 s90),.fl (.own 3) 1 (map (int .i64) s91),vi s92]),(6,vi s93)]) (fun (s129:(List al))=>[(4,.fl (.own 53) 3 (flatten (map al.enc s129)))]) ?_ ?_
 rintro s129 h
 refine ae ?_
 refine gG hn 0 ?_
 refine ym 0 ?_
 refine ya 1 ?_
 refine bi [2,3] ?_
 refine au ?_
 obtain rfl:=zi h
 exact ay hio rfl (.tmp _ _ (.tmp _ _ .nil)) rfl rfl
 rintro u130 hl131 hr132 ⟨s88,s89,s90,s91,s92,s93⟩ rr135 h ho133
 refine aa ?_
 refine aX hn 4 [0,4,5,6,18] ?_
 refine zc h rfl (fun h => ?_) (fun h => ?_)
 refine ak (ae (aC (aa ?_)))
 obtain ⟨v6,hv6,h⟩:=zn h
 refine yx hn 2 ?_
 refine yq call57 (mP _ _ _ hv6) 5 [20,21] 0 ?_
 refine ym 4 ?_
 refine bi [0,4,5,6,7,8] ?_
 refine gG hn 2 ?_
 refine yS (.agg [.v (.int .u8 0),vi v6.1,vi v6.2.1]) 0 ⟨ec _ _ _ _ [1,1,1] _ _ underlying53 sw (Hf _ underlying53) (.copy _ (.copy _ sr.nil)) rfl rfl rfl⟩ ?_
 refine yS (.box 53 [.v (.int .u8 0),vi 0,vi 0]) 1 ⟨oA (cG _ _ sw)⟩ ?_
 refine bi [0,4,5,6,7,9] ?_
 refine aa ?_
 refine aL h (fun ((s138,s139):Int×Int)=>[(0,fb b),(4,.fl (.own 53) 3 (flatten (map al.enc s88))),(5,.box 103 [fb v6.2.2.b,.hid (eF Tryd.prog 105 3 v6.2.2.last),.fl (.own 3) 1 (map (int .i64) v6.2.2.back),vi v6.2.2.from_]),(6,vi s93),(9,.box 53 [.v (.int .u8 s138),vi v6.1,vi v6.2.1]),(7,vi s139)]) ?_ ?_
 rintro ⟨s138,s139⟩ h
 refine ae (aa ?_)
 obtain ⟨v16,hv16,h⟩:=zn h
 refine yx hn 0 ?_
 refine ym 1 ?_
 refine yS (.fl (.own 53) 3 (flatten (map al.enc [(al.mk s138 v6.1 v6.2.1)]))) 0 ⟨aF _ _ 3 (.agg #[.int .u8 0,.int .i64 0,.int .i64 0]) (flatten (map al.enc [(al.mk s138 v6.1 v6.2.1)])) [(0,.agg #[.int .u8 s138,.int .i64 v6.1,.int .i64 v6.2.1])] underlying45 Bm sw (fun _ V w o a hv hes=>by have e0:=Dp (ys:=[.int .u8 s138,.int .i64 v6.1,.int .i64 v6.2.1]) hv hes (x := .tmp 36) rfl; simp only [List.map_toArray,List.map_cons,List.map_nil,e0]; try rfl) (bC (by simp [Instr.fill,Value.cells]; rfl) (by simp [List.range,List.range.loop,al.enc] <;> rfl)) (by simp [Value.oneCell',al.enc]) rfl (by decide) (by decide) (by decide)⟩ ?_
 refine Kf Hs hv16 0 ?_
 refine ya 0 ?_
 refine bi [0,5,6,7,4] ?_
 refine aH h (fun ((s152,s153,s154,s155,s156,s157):(List Int)×(List ((List Int)×Int))×(List Int)×Int×Int×Int)=>[(0,fb b),(5,.box 103 [fb s152,.hid (eF Tryd.prog 105 3 s153),.fl (.own 3) 1 (map (int .i64) s154),vi s155]),(6,vi s156),(7,vi s157),(4,.fl (.own 53) 3 (flatten (map al.enc v16)))]) (fun ((s159,s160,s161,s162,s163):(List Int)×(List ((List Int)×Int))×(List Int)×Int×Int)=>[(0,fb b),(5,.box 103 [fb s159,.hid (eF Tryd.prog 105 3 s160),.fl (.own 3) 1 (map (int .i64) s161),vi s162]),(6,vi s163),(4,.fl (.own 53) 3 (flatten (map al.enc v16)))]) ?_ ?_
 rintro ⟨s159,s160,s161,s162,s163⟩ h
 refine aM ?_
 refine ar [0,3,1,2] (by kernel_rfl) (es':=[(_,_),(_,_),(_,_),(_,_)]) rfl ?_
 exact aS _ (zi h).symm rfl
 rintro u164 hl165 hr166 ⟨s152,s153,s154,s155,s156,s157⟩ rr169 h ho167
 refine aa ?_
 refine aX hn 2 [0,5,6,7,4,40] ?_
 refine zc h rfl (fun h => ?_) (fun h => ?_)
 refine ak ?_
 refine ae (aa ?_)
 refine aC (aa ?_)
 obtain ⟨v18,hv18,h⟩:=zn h
 refine yx hn 2 ?_
 refine yq call58 (nk _ _ _ hv18) 5 [43,44] 0 ?_
 refine bi [0,5,6,7,4] ?_
 obtain ⟨v19,hv19,h⟩:=zn h
 refine yx hn 1 ?_
 refine ys 0 ⟨lb hv19⟩ ?_
 refine yw [6] 1 ?_
 refine ye [0,5,7,4,6] ?_
 refine aM (ae ?_)
 obtain ⟨v20,hv20,h⟩:=zn h
 refine yx hn 1 ?_
 refine ys 0 ⟨lb hv20⟩ ?_
 refine yw [7] 1 ?_
 refine ye [0,5,4,6,7] ?_
 refine ar [0,1,3,4,2] (by kernel_rfl) (es':=[(_,_),(_,_),(_,_),(_,_),(_,_)]) rfl ?_
 exact aS _ (zi h).symm rfl
 refine aO (ag (ag (aP ?_)))
 refine ar [0,1,2,4] (by kernel_rfl) (es':=[(_,_),(_,_),(_,_),(_,_)]) rfl ?_
 exact hl165 _ (ho167 _ (zi h).symm).symm
 intro u140 h hl141 hr142
 refine aX hn 2 [0,4,5,6,7,9,29] ?_
 refine zc h rfl (fun h => ?_) (fun h => ?_)
 refine aa ?_
 obtain ⟨v8,hv8,v9,hv9,h⟩:=eY h
 refine yx hn 2 ?_
 refine ys 0 ⟨li hv8⟩ ?_
 refine ys 2 ⟨ll hv9⟩ ?_
 refine bi [0,4,5,6,9] ?_
 refine yy hn 1 [0,4,5,6,9,7] ?_
 exact hl141 _ (zi h).symm
 refine ak ?_
 refine ar [0,1,2,3,5,4] (by kernel_rfl) (es':=[(_,_),(_,_),(_,_),(_,_),(_,_),(_,_)]) rfl ?_
 exact hl141 _ (zi h).symm
 refine aO (ag (ag (aP ?_)))
 refine ar [1] (by kernel_rfl) (es':=[(_,_)]) rfl ?_
 exact hl131 _ (ho133 _ (zi h).symm).symm
 refine ae (aa ?_)
 refine aX hn 1 [0,4,5,6] ?_
 refine aH h (fun (():Unit)=>[(0,fb b),(4,vz),(5,.v (.pointer none)),(6,vi 0)]) (fun (():Unit)=>[(4,vz)]) ?_ ?_
 rintro ⟨⟩ h
 refine ae ?_
 refine aX hn 3 [2,3] ?_
 refine au ?_
 refine fM (fs:=[(2,.fl (.own 53) 3 (flatten (map al.enc []))),(3,vi 0)]) (.sub _ (bV 53 3) rfl (.same _ .nil)) ?_
 obtain rfl:=zi h
 exact ay hio rfl (.tmp _ _ (.tmp _ _ .nil)) rfl rfl
 rintro u173 hl174 hr175 ⟨⟩ rr178 h ho176
 refine aa ?_
 refine aX hn 4 [0,4,5,6,18] ?_
 refine zc h rfl (fun h => ?_) (fun h => ?_)
 cases h
 refine aO (ag (ag (aP ?_)))
 refine ar [1] (by kernel_rfl) (es':=[(_,_)]) rfl ?_
 exact hl174 _ (ho176 _ (zi h).symm).symm
theorem qj (s:Int) (r:Int) (h:Sh.kS s=some r):bZ Tryd.prog 81 [.v (.int .i64 s)] (.v (.int .i64 r)):=by
 unfold Sh.kS at h
 refine yO 12 func81 fun g0 hn hio => ?_
 refine aX hn 1 [0] ?_
 refine aa (aC ?_)
 refine aX hn 3 [0,3] ?_
 refine zc h rfl (fun h => ?_) (fun h => ?_)
 refine aX hn 1 [2] ?_
 refine au (bI (ap ?_))
 obtain rfl:=zi h
 exact ay hio rfl (.tmp _ _ .nil) rfl rfl
 refine aX hn 3 [0,6] ?_
 refine zc h rfl (fun h => ?_) (fun h => ?_)
 refine aX hn 1 [2] ?_
 refine au (bI (ap ?_))
 obtain rfl:=zi h
 exact ay hio rfl (.tmp _ _ .nil) rfl rfl
 refine aX hn 3 [9] ?_
 refine zc h rfl (fun h => ?_) (fun h => ?_)
 refine aX hn 1 [2] ?_
 refine au (bI (ap ?_))
 obtain rfl:=zi h
 exact ay hio rfl (.tmp _ _ .nil) rfl rfl
 refine ak (aM (ae ?_))
 refine aX hn 1 [2] ?_
 refine au ?_
 obtain rfl:=zi h
 exact ay hio rfl (.tmp _ _ .nil) rfl rfl
theorem uO (r:((List Int)×(List Int))) (h:Sh.mA  = some r):bZ Tryd.prog 59 [] (.tup [.fl (.own 3) 1 (map (int .i64) r.1),.fl (.own 3) 1 (map (int .i64) r.2)]):=by
 unfold Sh.mA at h
 refine yO 20 func59 fun g0 hn hio => ?_
 refine aX hn 2 [0,1] ?_
 refine aa ?_
 refine aX hn 1 [0,1,3] ?_
 refine iS (fs:=[(0,.fl (.own 3) 1 (map (int .i64) [])),(1,vz),(3,vi 0)]) (.sub _ (bV 3 1) rfl (.same _ (.same _ .nil))) ?_
 refine aH h (fun ((s8,s9):(List Int)×Int)=>[(0,.fl (.own 3) 1 (map (int .i64) s8)),(1,vz),(3,vi s9)]) (fun (s11:(List Int))=>[(0,.fl (.own 3) 1 (map (int .i64) s11)),(1,vz)]) ?_ ?_
 rintro s11 h
 refine ae (aa ?_)
 refine aX hn 1 [0,1,12] ?_
 refine iS (fs:=[(0,.fl (.own 3) 1 (map (int .i64) s11)),(1,.fl (.own 3) 1 (map (int .i64) [])),(12,vi 0)]) (.same _ (.sub _ (bV 3 1) rfl (.same _ .nil))) ?_
 refine aH h (fun ((s25,s26):(List Int)×Int)=>[(0,.fl (.own 3) 1 (map (int .i64) s11)),(1,.fl (.own 3) 1 (map (int .i64) s25)),(12,vi s26)]) (fun (s28:(List Int))=>[(0,.fl (.own 3) 1 (map (int .i64) s11)),(1,.fl (.own 3) 1 (map (int .i64) s28))]) ?_ ?_
 rintro s28 h
 refine ae ?_
 refine gG hn 0 ?_
 refine ym 0 ?_
 refine ym 0 ?_
 refine ya 0 ?_
 refine ya 0 ?_
 refine bi [0,1] ?_
 refine au ?_
 obtain rfl:=zi h
 exact ay hio rfl (.tmp _ _ (.tmp _ _ .nil)) rfl rfl
 rintro u29 hl30 hr31 ⟨s25,s26⟩ rr34 h ho32
 refine aX hn 1 [0,1,12,13] ?_
 refine aa ?_
 refine zc h rfl (fun h => ?_) (fun h => ?_)
 refine ak ?_
 refine ae (aa ?_)
 refine aC ?_
 obtain ⟨v20,hv20,h⟩:=zn h
 refine yx hn 0 ?_
 refine ym 0 ?_
 refine yS (.fl (.own 3) 1 (map (int .i64) [5])) 0 ⟨aF _ _ 1 (.int .i64 0) (map (int .i64) [5]) [(0,.int .i64 5)] underlying37 fN kf (fun _ V w o a hv hes=>by simp only [List.map_toArray,List.map_cons,List.map_nil]; try rfl) (bC (by simp [Instr.fill,Value.cells]; rfl) (by simp [List.range,List.range.loop] <;> rfl)) (by simp [Value.oneCell']) rfl (by decide) (by decide) (by decide)⟩ ?_
 refine yp fg hv20 0 ?_
 refine ya 0 ?_
 refine ye [0,12,1] ?_
 refine aM (ae ?_)
 obtain ⟨v21,hv21,h⟩:=zn h
 refine yx hn 0 ?_
 refine ys 0 ⟨lb hv21⟩ ?_
 refine yw [12] 1 ?_
 refine ye [0,1,12] ?_
 exact aS _ (zi h).symm rfl
 refine aO (ag (ag (aP ?_)))
 refine ar [0,1] (by kernel_rfl) (es':=[(_,_),(_,_)]) rfl ?_
 exact hl30 _ (ho32 _ (zi h).symm).symm
 rintro u12 hl13 hr14 ⟨s8,s9⟩ rr17 h ho15
 refine aX hn 1 [0,1,3,4] ?_
 refine aa ?_
 refine zc h rfl (fun h => ?_) (fun h => ?_)
 refine ak ?_
 refine ae (aa ?_)
 refine aC ?_
 refine aX hn 2 [0,1,3,2] ?_
 obtain ⟨v2,hv2,v3,hv3,h⟩:=eY h
 refine yx hn 0 ?_
 refine ym 1 ?_
 refine ys 0 ⟨lk call81 (qj _ _ hv2)⟩ ?_
 refine yS (.fl (.own 3) 1 (map (int .i64) [v2])) 0 ⟨aF _ _ 1 (.int .i64 0) (map (int .i64) [v2]) [(0,.int .i64 v2)] underlying37 fN kf (fun _ V w o a hv hes=>by have e0:=cX hv hes (x := .tmp 8) rfl; simp only [List.map_toArray,List.map_cons,List.map_nil,e0]; try rfl) (bC (by simp [Instr.fill,Value.cells]; rfl) (by simp [List.range,List.range.loop] <;> rfl)) (by simp [Value.oneCell']) rfl (by decide) (by decide) (by decide)⟩ ?_
 refine yp fg hv3 0 ?_
 refine ya 0 ?_
 refine ye [1,3,0] ?_
 refine aM (ae ?_)
 obtain ⟨v4,hv4,h⟩:=zn h
 refine yx hn 0 ?_
 refine ys 0 ⟨lb hv4⟩ ?_
 refine yw [3] 1 ?_
 refine ye [1,0,3] ?_
 refine ar [1,0,2] (by kernel_rfl) (es':=[(_,_),(_,_),(_,_)]) rfl ?_
 exact aS _ (zi h).symm rfl
 refine aO (ag (ag (aP ?_)))
 refine ar [0,1] (by kernel_rfl) (es':=[(_,_),(_,_)]) rfl ?_
 exact hl13 _ (ho15 _ (zi h).symm).symm
theorem qW (lengths:(List Int)) (r:Bool) (h:Sh.iE lengths=some r):bZ Tryd.prog 116 [.fl .shr 1 (map (int .i64) lengths)] (.v (.bool r)):=by
 unfold Sh.iE at h
 refine yO 21 func116 fun g0 hn hio => ?_
 refine aX hn 1 [0] ?_
 refine aa ?_
 refine aX hn 3 [0,7] ?_
 refine zc h rfl (fun h => ?_) (fun h => ?_)
 refine aX hn 1 [2] ?_
 refine au (ap ?_)
 obtain rfl:=zi h
 exact ay hio rfl (.tmp _ _ .nil) rfl rfl
 refine ak ?_
 refine ae (aa ?_)
 refine aX hn 3 [8,9,10] ?_
 refine aH h (fun (s18:Int)=>[(8,fi lengths),(9,vi (lengths.length:Int)),(10,vi s18)]) (fun (():Unit)=>[]) ?_ ?_
 rintro ⟨⟩ h
 refine ae ?_
 refine aX hn 1 [2] ?_
 refine au ?_
 obtain rfl:=zi h
 exact ay hio rfl (.tmp _ _ .nil) rfl rfl
 rintro u25 hl26 hr27 s18 rr30 h ho28
 refine aX hn 1 [8,9,10,11] ?_
 refine aa ?_
 refine zc h rfl (fun h => ?_) (fun h => ?_)
 refine ak ?_
 refine ae (aa ?_)
 refine aC (aa ?_)
 obtain ⟨v3,hv3,v4,hv4,h⟩:=eY h
 refine yx hn 0 ?_
 refine ys 0 ⟨li hv3⟩ ?_
 refine ys 1 ⟨ll hv4⟩ ?_
 refine bi [8,9,10,4] ?_
 refine aa ?_
 refine aL h (fun (s32:Bool)=>[(8,fi lengths),(9,vi (lengths.length:Int)),(10,vi s18),(19,vb s32)]) ?_ ?_
 rintro s32 h
 refine ae ?_
 refine zc h rfl (fun h => ?_) (fun h => ?_)
 refine aX hn 1 [2] ?_
 refine au (bI (ap (ap (bI (ap ?_)))))
 have h:=hr27 _ (ho28 _ (zi h).symm).symm
 obtain rfl:=zi h
 exact ay hio rfl (.tmp _ _ .nil) rfl rfl
 refine ak (aM (ae ?_))
 obtain ⟨v10,hv10,h⟩:=zn h
 refine yx hn 0 ?_
 refine ys 0 ⟨lb hv10⟩ ?_
 refine yw [10] 1 ?_
 refine ye [8,9,10] ?_
 exact aS _ (zi h).symm rfl
 intro u33 h hl34 hr35
 refine aE h (fun hg6_2 h => ?_) (fun hg6_2 h => ?_)
 refine yx hn 3 ?_
 refine yd hg6_2 3 ?_
 refine ye [8,9,10,19] ?_
 exact hl34 _ (zi h).symm
 refine yx hn 3 ?_
 refine yd hg6_2 3 ?_
 refine ye [8,9,10,19] ?_
 exact hl34 _ (zi h).symm
 refine aO (ag (ag (aP ?_)))
 refine ar [] (by kernel_rfl) (es':=[]) rfl ?_
 exact hl26 _ (ho28 _ (zi h).symm).symm
theorem mj (lengths:(List Int)) (r:(List Int)) (h:Sh.gw lengths=some r):bZ Tryd.prog 105 [.fl .shr 1 (map (int .i64) lengths)] (.v (.agg (map (int .i64) r).toArray)):=by
 unfold Sh.gw at h
 refine yO 21 func105 fun g0 hn hio => ?_
 refine gG hn 0 ?_
 refine yS (.arr 124 (map (int .i64) ((List.replicate 16 (0:Int))))) 0 ⟨oA (dP _ tF)⟩ ?_
 refine bi [0,2] ?_
 refine gG hn 0 ?_
 refine yS (.arr 124 (map (int .i64) ((List.replicate 16 (0:Int))))) 0 ⟨oA (dP _ tF)⟩ ?_
 refine bi [0,2,3] ?_
 refine aa ?_
 refine aX hn 3 [2,3,6,7,8] ?_
 refine aH h (fun ((s25,s26):(List Int)×Int)=>[(2,.arr 124 (map (int .i64) ((List.replicate 16 (0:Int))))),(3,.arr 124 (map (int .i64) s25)),(6,fi lengths),(7,vi (lengths.length:Int)),(8,vi s26)]) (fun (s34:(List Int))=>[(2,.arr 124 (map (int .i64) ((List.replicate 16 (0:Int))))),(3,.arr 124 (map (int .i64) s34))]) ?_ ?_
 rintro s34 h
 refine ae (aa ?_)
 obtain ⟨v48,hv48,v49,hv49,v50,hv50,h⟩:=kg h
 refine yx hn 0 ?_
 refine yS (.v (.agg (map (int .i64) s34).toArray)) 0 ⟨cC _ _ _ _ underlying124 rfl (iD.trans (congrArg some (bY hv48))) rfl rfl⟩ ?_
 refine yk [2] [20] ?_
 refine yt (2,.arr 124 (map (int .i64) s34)) 0 ⟨dS _ _ _ _ (iD.trans (congrArg some (bY hv50))) rfl rfl (jP (fun _=>rfl) _) ((bY (f:=int .i64) hv49).symm.trans (bY (f:=int .i64) hv50))⟩ ?_
 refine bi [2] ?_
 refine au ?_
 obtain ⟨v51,hv51,h⟩:=zn h
 obtain rfl:=zi h
 exact ay hio rfl (.cellR _ _ _ _ underlying124 rfl (iD.trans (congrArg some (bY hv51))) .nil) rfl rfl
 rintro u35 hl36 hr37 ⟨s25,s26⟩ rr40 h ho38
 refine aX hn 1 [2,3,6,7,8,9] ?_
 refine aa ?_
 refine zc h rfl (fun h => ?_) (fun h => ?_)
 refine ak ?_
 refine ae (aa ?_)
 refine aL h (fun (s43:(List Int))=>[(2,.arr 124 (map (int .i64) ((List.replicate 16 (0:Int))))),(3,.arr 124 (map (int .i64) s43)),(6,fi lengths),(7,vi (lengths.length:Int)),(8,vi s26)]) ?_ ?_
 rintro s43 h
 refine ae ?_
 obtain ⟨v15,hv15,h⟩:=zn h
 refine yx hn 0 ?_
 refine ys 0 ⟨lb hv15⟩ ?_
 refine yw [8] 1 ?_
 refine ye [2,3,6,7,8] ?_
 exact aS _ (zi h).symm rfl
 intro u44 h hl45 hr46
 refine aC (aa ?_)
 obtain ⟨v2,hv2,v3,hv3,h⟩:=eY h
 refine yx hn 0 ?_
 refine ys 0 ⟨li hv2⟩ ?_
 refine ys 1 ⟨ll hv3⟩ ?_
 refine bi [2,3,6,7,8,5] ?_
 refine aX hn 2 [2,3,6,7,8,5,13] ?_
 refine zc h rfl (fun h => ?_) (fun h => ?_)
 obtain ⟨v5,hv5,v6,hv6,v7,hv7,v8,hv8,h⟩:=gZ h
 obtain ⟨v9,hv9,h⟩:=zn h
 refine yx hn 1 ?_
 refine yS (.ptr 3 v5) 0 ⟨gz _ _ _ _ 16 3 _ underlying124 fN rfl rfl (bA hv5).1 (bA hv5).2 (by decide)⟩ ?_
 refine yS (vi v6) 0 ⟨iz _ _ _ _ _ _ underlying3 rfl rfl rfl (jw hv6)⟩ ?_
 refine ys 0 ⟨lb hv7⟩ ?_
 refine yS (.ptr 3 v8) 0 ⟨gz _ _ _ _ 16 3 _ underlying124 fN rfl rfl (bA hv8).1 (bA hv8).2 (by decide)⟩ ?_
 refine yk [3] [18,17] ?_
 refine yt (3,.arr 124 (map (int .i64) v9)) 0 ⟨kQ _ _ _ _ _ _ fN rfl rfl rfl rfl (xR hv9) (yb (f:=int .i64) hv9)⟩ ?_
 refine ye [2,3,6,7,8] ?_
 refine aM ?_
 exact hl45 _ (zi h).symm
 refine ak (aM ?_)
 refine ar [0,1,2,3,4] (by kernel_rfl) (es':=[(_,_),(_,_),(_,_),(_,_),(_,_)]) rfl ?_
 exact hl45 _ (zi h).symm
 refine aO (ag (ag (aP ?_)))
 refine ar [0,1] (by kernel_rfl) (es':=[(_,_),(_,_)]) rfl ?_
 exact hl36 _ (ho38 _ (zi h).symm).symm
theorem lu (c:(List Int)) (r:Int) (h:Sh.dZ c=some r):bZ Tryd.prog 120 [.v (.agg (map (int .i64) c).toArray)] (.v (.int .i64 r)):=by
 unfold Sh.dZ at h
 refine yO 19 func120 fun g0 hn hio => ?_
 refine gG hn 0 ?_
 refine yS (.arr 124 (map (int .i64) c)) 1 ⟨nB _ _ _ rfl⟩ ?_
 refine bi [1] ?_
 refine aX hn 1 [1,3] ?_
 refine aa (aa ?_)
 obtain ⟨v1,hv1,h⟩:=zn h
 refine yx hn 0 ?_
 refine yS (.v (.agg (map (int .i64) c).toArray)) 1 ⟨cC _ _ _ _ underlying124 rfl (iD.trans (congrArg some (bY hv1))) rfl rfl⟩ ?_
 refine bi [3,6,7] ?_
 refine aH h (fun ((s12,s13):Int×Int)=>[(3,vi s12),(6,.v (.agg (map (int .i64) c).toArray)),(7,vi s13)]) (fun (s15:Int)=>[(3,vi s15)]) ?_ ?_
 rintro s15 h
 refine ae ?_
 refine aX hn 2 [2] ?_
 refine au ?_
 obtain rfl:=zi h
 exact ay hio rfl (.tmp _ _ .nil) rfl rfl
 rintro u16 hl17 hr18 ⟨s12,s13⟩ rr21 h ho19
 refine aX hn 1 [3,6,7,8] ?_
 refine aa ?_
 refine zc h rfl (fun h => ?_) (fun h => ?_)
 refine ak ?_
 refine ae (aa ?_)
 refine aC (aa ?_)
 obtain ⟨v3,hv3,v4,hv4,h⟩:=eY h
 refine yx hn 1 ?_
 refine yS (vi v4) 2 ⟨oI _ _ _ _ 16 v3 underlying124 fN rfl (congrArg (fun j=>AV.v (int .i64 j)) (bA hv3).1) (bA hv3).2 (jw hv4) ⟨_,underlying3,rfl⟩⟩ ?_
 refine bi [3,6,7,4,5] ?_
 obtain ⟨v5,hv5,v6,hv6,v7,hv7,h⟩:=kg h
 refine yx hn 3 ?_
 refine ys 0 ⟨lb hv5⟩ ?_
 refine ys 0 ⟨lB (jy hv6)⟩ ?_
 refine ys 0 ⟨lb hv7⟩ ?_
 refine yw [3] 1 ?_
 refine ye [6,7,3] ?_
 refine aM (ae ?_)
 obtain ⟨v8,hv8,h⟩:=zn h
 refine yx hn 0 ?_
 refine ys 0 ⟨lb hv8⟩ ?_
 refine yw [7] 1 ?_
 refine ye [6,3,7] ?_
 refine ar [1,0,2] (by kernel_rfl) (es':=[(_,_),(_,_),(_,_)]) rfl ?_
 exact aS _ (zi h).symm rfl
 refine aO (ag (ag (aP ?_)))
 refine ar [0] (by kernel_rfl) (es':=[(_,_)]) rfl ?_
 exact hl17 _ (ho19 _ (zi h).symm).symm
end Go.Proofs.YtkgfjkfccpjcgaaDoor
