import Derived.Test.YtjnnkhmhjcjhdaaGreatDoorOkc4
set_option linter.unusedVariables false
set_option linter.unusedSimpArgs false
set_option maxHeartbeats 1000000
namespace Go.Proofs.YtjnnkhmhjcjhdaaGreatDoor
open Go.Abs Go.Abs.Sh Tryz
open List (map flatten)
open Value (int)
theorem lF (mx:Int×Nat×Value) (b:(List Int)) (r:(List Int)) (h:Sh.ku b=some r):iq Tryz.prog (GL mx) 183 [.fl .shr 1 (map (int .u8) b)] (.v (.agg (map (int .u8) r).toArray)):=by
 unfold Sh.ku at h
 refine yG 62 func183 fun g0 hn hio => ?_
 refine gH hn 0 ?_
 refine yS (.arr 91 (map (int .u8) ((List.replicate 16 (0:Int))))) 0 ⟨oA (cl _ Bt)⟩ ?_
 refine aV [0,62,2] ?_
 refine ab ?_
 obtain ⟨v1,hv1,v2,hv2,h⟩:=dM h
 refine yx hn 0 ?_
 refine yS (.v (.agg (map (int .u32) ([1732584193,4023233417,2562383102,271733878]:List Int)).toArray)) 0 ⟨pX _ _ (.agg #[.int .u32 0,.int .u32 0,.int .u32 0,.int .u32 0]) (map (int .u32) ([1732584193,4023233417,2562383102,271733878]:List Int)) [(0,.int .u32 1732584193),(1,.int .u32 4023233417),(2,.int .u32 2562383102),(3,.int .u32 271733878)] underlying225 ij Gv (fun _ V w o a hv hes=>by simp only [List.map_toArray,List.map_cons,List.map_nil]; try rfl) (cN (by simp [Instr.fill,Value.cells]; rfl) (by simp))⟩ ?_
 refine yS (.arr 225 (map (int .u32) ((List.replicate 4 (0:Int))))) 0 ⟨oA (cl _ GC)⟩ ?_
 refine yk [3] [10] ?_
 refine yt (3,.arr 225 (map (int .u32) ([1732584193,4023233417,2562383102,271733878]:List Int))) 0 ⟨cE _ _ _ _ (uj.trans (congrArg some (bH hv2))) rfl rfl (fT (fun _=>rfl) _) ((bH (f:=int .u32) hv1).symm.trans (bH (f:=int .u32) hv2))⟩ ?_
 refine aV [0,62,2,3] ?_
 refine ab ?_
 obtain ⟨v3,hv3,v4,hv4,h⟩:=dM h
 refine yx hn 2 ?_
 refine ys 0 ⟨lB (rk hv3)⟩ ?_
 refine ys 1 ⟨lb hv4⟩ ?_
 refine aV [0,62,2,3,4] ?_
 refine ab ?_
 refine aG hn 1 [0,62,2,3,4,5] ?_
 refine aS h (fun ((s16,s17):(List Int)×Int)=>[(0,fb b),(62,.glob (GL mx)),(2,.arr 91 (map (int .u8) ((List.replicate 16 (0:Int))))),(3,.arr 225 (map (int .u32) s16)),(4,vi v4),(5,vi s17)]) (fun (s19:(List Int))=>[(0,fb b),(62,.glob (GL mx)),(2,.arr 91 (map (int .u8) ((List.replicate 16 (0:Int))))),(3,.arr 225 (map (int .u32) s19)),(4,vi v4)]) ?_ ?_
 rintro s19 h
 refine ae (ab ?_)
 obtain ⟨v27,hv27,v28,hv28,h⟩:=dM h
 refine yx hn 2 ?_
 refine yS (fb v27) 2 ⟨nM _ _ _ v4 (b.length:Int) _ underlying28 lJ rfl rfl ⟨_,rfl⟩ rfl hv27⟩ ?_
 refine ys 0 ⟨lk call204 (qV _ _ _ hv28)⟩ ?_
 refine ya 0 ?_
 refine aV [62,2,3,6] ?_
 refine ab ?_
 refine aG hn 1 [62,2,3,6,7] ?_
 refine vN 3 hio (es':=[(62,.glob (GL mx)),(2,.arr 91 (map (int .u8) ((List.replicate 16 (0:Int))))),(3,.arr 225 (map (int .u32) s19)),(6,.fl .ro 1 (map (int .u8) v28)),(7,.v (.int .i64 0))]) rfl ?_
 refine aS h (fun ((s41,s42,s43):(List Int)×(List Int)×Int)=>[(62,.glob (GL mx)),(2,.arr 91 (map (int .u8) ((List.replicate 16 (0:Int))))),(3,.arr 225 (map (int .u32) s41)),(6,.fl .ro 1 (map (int .u8) s42)),(7,vi s43)]) (fun (s45:(List Int))=>[(62,.glob (GL mx)),(2,.arr 91 (map (int .u8) ((List.replicate 16 (0:Int))))),(3,.arr 225 (map (int .u32) s45))]) ?_ ?_
 rintro s45 h
 refine ae ?_
 refine gH hn 0 ?_
 refine yS (.arr 91 (map (int .u8) ((List.replicate 16 (0:Int))))) 0 ⟨oA (cl _ Bt)⟩ ?_
 refine aV [62,2,3,8] ?_
 refine ab ?_
 refine aG hn 1 [62,2,3,8,46] ?_
 refine aS h (fun ((s67,s68):(List Int)×Int)=>[(62,.glob (GL mx)),(2,.arr 91 (map (int .u8) ((List.replicate 16 (0:Int))))),(3,.arr 225 (map (int .u32) s45)),(8,.arr 91 (map (int .u8) s67)),(46,vi s68)]) (fun (s70:(List Int))=>[(62,.glob (GL mx)),(2,.arr 91 (map (int .u8) ((List.replicate 16 (0:Int))))),(8,.arr 91 (map (int .u8) s70))]) ?_ ?_
 rintro s70 h
 refine ae (ab ?_)
 obtain ⟨v78,hv78,v79,hv79,v80,hv80,h⟩:=ng h
 refine yx hn 0 ?_
 refine yS (.v (.agg (map (int .u8) s70).toArray)) 0 ⟨iZ _ _ _ _ underlying91 rfl (xC.trans (congrArg some (bH hv78))) rfl rfl⟩ ?_
 refine yk [2] [61] ?_
 refine yt (2,.arr 91 (map (int .u8) s70)) 0 ⟨cE _ _ _ _ (xC.trans (congrArg some (bH hv80))) rfl rfl (fT (fun _=>rfl) _) ((bH (f:=int .u8) hv79).symm.trans (bH (f:=int .u8) hv80))⟩ ?_
 refine aV [62,2] ?_
 refine ak ?_
 obtain ⟨v81,hv81,h⟩:=zn h
 refine ah [1] (by kernel_rfl) (es':=[(_,_)]) rfl ?_
 obtain rfl:=zi h
 exact al hio rfl (.cellR _ _ _ _ underlying91 rfl (xC.trans (congrArg some (bH hv81))) .nil) rfl rfl
 rintro u71 hl72 hr73 ⟨s67,s68⟩ rr76 h ho74
 refine aG hn 1 [62,2,3,8,46,47] ?_
 refine ab ?_
 refine zc h rfl (fun h => ?_) (fun h => ?_)
 refine am ?_
 refine ae (ab ?_)
 refine aC ?_
 refine aG hn 2 [62,2,3,8,46,9] ?_
 obtain ⟨v54,hv54,v55,hv55,v56,hv56,v57,hv57,h⟩:=jX h
 obtain ⟨v58,hv58,v59,hv59,v60,hv60,v61,hv61,h⟩:=jX h
 obtain ⟨v62,hv62,h⟩:=zn h
 refine yx hn 2 ?_
 refine ys 0 ⟨lB (rk hv54)⟩ ?_
 refine yS (.ptr 3 v55) 0 ⟨db _ _ _ _ 4 3 _ underlying225 ij rfl rfl (bA hv55).1 (bA hv55).2 (by decide)⟩ ?_
 refine yS (.v (.int .u32 v56)) 1 ⟨cJ _ _ _ _ _ _ underlying106 rfl rfl rfl (cY hv56)⟩ ?_
 refine ys 0 ⟨lB (jx hv57)⟩ ?_
 refine ys 0 ⟨lb hv58⟩ ?_
 refine ys 0 ⟨lB (kT hv59)⟩ ?_
 refine ys 0 ⟨lv hv60⟩ ?_
 refine yS (.ptr 8 v61) 0 ⟨db _ _ _ _ 16 8 _ underlying91 lJ rfl rfl (bA hv61).1 (bA hv61).2 (by decide)⟩ ?_
 refine yk [8] [59,58] ?_
 refine yt (8,.arr 91 (map (int .u8) v62)) 0 ⟨mM _ _ _ _ _ _ lJ rfl rfl rfl rfl (zr hv62) (zh (f:=int .u8) hv62)⟩ ?_
 refine ye [62,2,3,8,46] ?_
 refine aI (ae ?_)
 obtain ⟨v63,hv63,h⟩:=zn h
 refine yx hn 0 ?_
 refine ys 0 ⟨lb hv63⟩ ?_
 refine yw [46] 1 ?_
 refine ye [62,2,3,8,46] ?_
 exact bb _ (zi h).symm rfl
 refine ba (ap (ap (aZ ?_)))
 refine ah [0,1,3] (by kernel_rfl) (es':=[(_,_),(_,_),(_,_)]) rfl ?_
 exact hl72 _ (ho74 _ (zi h).symm).symm
 rintro u46 hl47 hr48 ⟨s41,s42,s43⟩ rr51 h ho49
 refine ab ?_
 refine aG hn 4 [62,2,3,6,7,36] ?_
 refine zc h rfl (fun h => ?_) (fun h => ?_)
 refine am ?_
 refine ae (ab ?_)
 refine aC ?_
 obtain ⟨v30,hv30,v31,hv31,v32,hv32,v33,hv33,h⟩:=jX h
 obtain ⟨v34,hv34,v35,hv35,h⟩:=dM h
 refine wb [] ?_
 refine wN [3] ?_
 refine wS (.v (.agg (map (int .u32) s41).toArray)) [[6],[7],[7]] ⟨iZ _ _ _ _ underlying225 rfl (uj.trans (congrArg some (bH hv30))) rfl rfl⟩ ?_
 refine wN [42] ?_
 refine wo [] ⟨lb hv31⟩ ?_
 refine wN [40,41,43] ?_
 refine wS (.fl .ro 1 (map (int .u8) v32)) [] ⟨nM _ _ _ s43 v31 _ underlying28 lJ rfl rfl ⟨_,rfl⟩ ⟨_,rfl⟩ hv32⟩ ?_
 refine wN [39,44,62] ?_
 refine wo [] ⟨lg call203 (jj _ _ _ _ hv33) 62⟩ ?_
 refine wK [3] [45] ?_
 refine wt [(3,.arr 225 (map (int .u32) v33))] [] ⟨cE _ _ _ _ (uj.trans (congrArg some (bH hv35))) rfl rfl (fT (fun _=>rfl) _) ((bH (f:=int .u32) hv34).symm.trans (bH (f:=int .u32) hv35))⟩ ?_
 refine we hn [62,2,3,6,7] ?_
 refine aI (ae ?_)
 obtain ⟨v36,hv36,h⟩:=zn h
 refine yx hn 1 ?_
 refine ys 0 ⟨lb hv36⟩ ?_
 refine yw [7] 1 ?_
 refine ye [62,2,3,6,7] ?_
 exact bb _ (zi h).symm rfl
 refine ba (ap (ap (aZ ?_)))
 refine ah [0,1,2] (by kernel_rfl) (es':=[(_,_),(_,_),(_,_)]) rfl ?_
 exact hl47 _ (ho49 _ (zi h).symm).symm
 rintro u20 hl21 hr22 ⟨s16,s17⟩ rr25 h ho23
 refine ab ?_
 refine aG hn 3 [0,62,2,3,4,5,17] ?_
 refine zc h rfl (fun h => ?_) (fun h => ?_)
 refine am ?_
 refine ae (ab ?_)
 refine aC ?_
 obtain ⟨v6,hv6,v7,hv7,v8,hv8,v9,hv9,h⟩:=jX h
 obtain ⟨v10,hv10,v11,hv11,h⟩:=dM h
 refine wb [] ?_
 refine wN [3] ?_
 refine wS (.v (.agg (map (int .u32) s16).toArray)) [[0],[5],[5]] ⟨iZ _ _ _ _ underlying225 rfl (uj.trans (congrArg some (bH hv6))) rfl rfl⟩ ?_
 refine wN [23] ?_
 refine wo [] ⟨lb hv7⟩ ?_
 refine wN [21,22,24] ?_
 refine wS (fb v8) [] ⟨nM _ _ _ s17 v7 _ underlying28 lJ rfl rfl ⟨_,rfl⟩ ⟨_,rfl⟩ hv8⟩ ?_
 refine wN [20,25,62] ?_
 refine wo [] ⟨lg call203 (jj _ _ _ _ hv9) 62⟩ ?_
 refine wK [3] [26] ?_
 refine wt [(3,.arr 225 (map (int .u32) v9))] [] ⟨cE _ _ _ _ (uj.trans (congrArg some (bH hv11))) rfl rfl (fT (fun _=>rfl) _) ((bH (f:=int .u32) hv10).symm.trans (bH (f:=int .u32) hv11))⟩ ?_
 refine we hn [0,62,2,3,4,5] ?_
 refine aI (ae ?_)
 obtain ⟨v12,hv12,h⟩:=zn h
 refine yx hn 1 ?_
 refine ys 0 ⟨lb hv12⟩ ?_
 refine yw [5] 1 ?_
 refine ye [0,62,2,3,4,5] ?_
 exact bb _ (zi h).symm rfl
 refine ba (ap (ap (aZ ?_)))
 refine ah [0,1,2,3,4] (by kernel_rfl) (es':=[(_,_),(_,_),(_,_),(_,_),(_,_)]) rfl ?_
 exact hl21 _ (ho23 _ (zi h).symm).symm
theorem rZ (mx:Int×Nat×Value) (key:(List Int)) (text:(List Int)) (r:(List Int)) (h:Sh.mL key text=some r):iq Tryz.prog (GL mx) 154 [.fl .shr 1 (map (int .u8) key),.fl .shr 1 (map (int .u8) text)] (.v (.agg (map (int .u8) r).toArray)):=by
 unfold Sh.mL at h
 refine yG 51 func154 fun g0 hn hio => ?_
 refine gH hn 0 ?_
 refine yS (.arr 91 (map (int .u8) ((List.replicate 16 (0:Int))))) 0 ⟨oA (cl _ Bt)⟩ ?_
 refine aV [0,1,51,4] ?_
 refine gH hn 0 ?_
 refine yS (.arr 205 (map (int .u8) ((List.replicate 64 (0:Int))))) 0 ⟨oA (cl _ Iu)⟩ ?_
 refine aV [0,1,51,4,5] ?_
 refine ab ?_
 refine aq h (fun (s8:(List Int))=>[(1,fb text),(51,.glob (GL mx)),(4,.arr 91 (map (int .u8) ((List.replicate 16 (0:Int))))),(5,.arr 205 (map (int .u8) s8))]) ?_ ?_
 rintro s8 h
 refine ae (ab ?_)
 obtain ⟨v13,hv13,v14,hv14,h⟩:=dM h
 refine yx hn 2 ?_
 refine ys 0 ⟨lb hv13⟩ ?_
 refine yS (.fl (.own 5) 1 (map (int .u8) ([]:List Int))) 0 ⟨CU _ _ _ _ fZ (by decide) rfl rfl hv14⟩ ?_
 refine ya 0 ?_
 refine aV [1,51,4,5,7] ?_
 refine ab ?_
 obtain ⟨v15,hv15,h⟩:=zn h
 refine yx hn 0 ?_
 refine yS (.fl (.own 5) 1 (map (int .u8) ([]:List Int))) 0 ⟨CU _ _ _ _ fZ (by decide) rfl rfl hv15⟩ ?_
 refine ya 0 ?_
 refine aV [1,51,4,5,7,8] ?_
 refine ab (ab ?_)
 obtain ⟨v16,hv16,h⟩:=zn h
 refine yx hn 0 ?_
 refine yS (.v (.agg (map (int .u8) s8).toArray)) 1 ⟨iZ _ _ _ _ underlying205 rfl (Jz.trans (congrArg some (bH hv16))) rfl rfl⟩ ?_
 refine aV [1,51,4,7,8,28,29] ?_
 refine aS h (fun ((s29,s30,s31):(List Int)×(List Int)×Int)=>[(1,fb text),(51,.glob (GL mx)),(4,.arr 91 (map (int .u8) ((List.replicate 16 (0:Int))))),(7,.fl (.own 5) 1 (map (int .u8) s29)),(8,.fl (.own 5) 1 (map (int .u8) s30)),(28,.v (.agg (map (int .u8) s8).toArray)),(29,vi s31)]) (fun ((s33,s34):(List Int)×(List Int))=>[(1,fb text),(51,.glob (GL mx)),(4,.arr 91 (map (int .u8) ((List.replicate 16 (0:Int))))),(7,.fl (.own 5) 1 (map (int .u8) s33)),(8,.fl (.own 5) 1 (map (int .u8) s34))]) ?_ ?_
 rintro ⟨s33,s34⟩ h
 refine ae (ab ?_)
 obtain ⟨v42,hv42,v43,hv43,v44,hv44,v45,hv45,h⟩:=jX h
 refine yx hn 0 ?_
 refine ym 1 ?_
 refine yp fZ hv42 0 ?_
 refine ys 0 ⟨lg call183 (lF _ _ _ hv43) 51⟩ ?_
 refine yS (.arr 91 (map (int .u8) ((List.replicate 16 (0:Int))))) 0 ⟨oA (cl _ Bt)⟩ ?_
 refine yk [11] [46] ?_
 refine yt (11,.arr 91 (map (int .u8) v43)) 0 ⟨cE _ _ _ _ (xC.trans (congrArg some (bH hv45))) rfl rfl (fT (fun _=>rfl) _) ((bH (f:=int .u8) hv44).symm.trans (bH (f:=int .u8) hv45))⟩ ?_
 refine aV [51,4,8,11] ?_
 refine ab ?_
 obtain ⟨v46,hv46,v47,hv47,v48,hv48,v49,hv49,h⟩:=jX h
 obtain ⟨v50,hv50,h⟩:=zn h
 refine yx hn 0 ?_
 refine ym 0 ?_
 refine yk [11] [] ?_
 refine mS (11,.any) (48,.fl .ro 1 (map (int .u8) v43)) 0 ⟨mA _ _ 11 16 _ underlying91 lJ rfl (bH hv46).symm (fT (fun _=>rfl) _)⟩ ?_
 refine yp fZ hv47 0 ?_
 refine ys 0 ⟨lg call183 (lF _ _ _ hv48) 51⟩ ?_
 refine yk [4] [50] ?_
 refine yt (4,.arr 91 (map (int .u8) v48)) 0 ⟨cE _ _ _ _ (xC.trans (congrArg some (bH hv50))) rfl rfl (fT (fun _=>rfl) _) ((bH (f:=int .u8) hv49).symm.trans (bH (f:=int .u8) hv50))⟩ ?_
 refine aV [51,4] ?_
 refine ak ?_
 obtain ⟨v51,hv51,h⟩:=zn h
 refine ah [1] (by kernel_rfl) (es':=[(_,_)]) rfl ?_
 obtain rfl:=zi h
 exact al hio rfl (.cellR _ _ _ _ underlying91 rfl (xC.trans (congrArg some (bH hv51))) .nil) rfl rfl
 rintro u35 hl36 hr37 ⟨s29,s30,s31⟩ rr40 h ho38
 refine aG hn 1 [1,51,4,7,8,28,29,30] ?_
 refine ab ?_
 refine zc h rfl (fun h => ?_) (fun h => ?_)
 refine am ?_
 refine ae (ab ?_)
 refine aC (ab ?_)
 obtain ⟨v18,hv18,v19,hv19,h⟩:=dM h
 refine yx hn 0 ?_
 refine yS (.v (.int .u8 v19)) 1 ⟨kj _ _ _ _ 64 v18 underlying205 lJ rfl (congrArg (fun j=>AV.v (int .i64 j)) (bA hv18).1) (bA hv18).2 (cY hv19) ⟨_,underlying5,rfl⟩⟩ ?_
 refine aV [1,51,4,7,8,28,29,10] ?_
 refine ab ?_
 obtain ⟨v20,hv20,v21,hv21,h⟩:=dM h
 refine yx hn 0 ?_
 refine ym 1 ?_
 refine ys 0 ⟨lb hv20⟩ ?_
 refine yS (.fl (.own 5) 1 (map (int .u8) [v20])) 0 ⟨bf _ _ 1 (.int .u8 0) (map (int .u8) [v20]) [(0,.int .u8 v20)] underlying28 lJ rM (fun _ V w o a hv hes=>by have e0:=bZ hv hes (x := .tmp 34) rfl; simp only [List.map_toArray,List.map_cons,List.map_nil,e0]; try rfl) (cN (by simp [Instr.fill,Value.cells]; rfl) (by simp [List.range,List.range.loop] <;> rfl)) (by simp [Value.oneCell']) rfl (by decide) (by decide) (by decide)⟩ ?_
 refine yp fZ hv21 0 ?_
 refine ya 0 ?_
 refine aV [1,51,4,8,28,29,10,7] ?_
 obtain ⟨v22,hv22,v23,hv23,h⟩:=dM h
 refine yx hn 0 ?_
 refine ym 1 ?_
 refine ys 0 ⟨lb hv22⟩ ?_
 refine yS (.fl (.own 5) 1 (map (int .u8) [v22])) 0 ⟨bf _ _ 1 (.int .u8 0) (map (int .u8) [v22]) [(0,.int .u8 v22)] underlying28 lJ rM (fun _ V w o a hv hes=>by have e0:=bZ hv hes (x := .tmp 39) rfl; simp only [List.map_toArray,List.map_cons,List.map_nil,e0]; try rfl) (cN (by simp [Instr.fill,Value.cells]; rfl) (by simp [List.range,List.range.loop] <;> rfl)) (by simp [Value.oneCell']) rfl (by decide) (by decide) (by decide)⟩ ?_
 refine yp fZ hv23 0 ?_
 refine ya 0 ?_
 refine ye [1,51,4,28,29,7,8] ?_
 refine aI (ae ?_)
 obtain ⟨v24,hv24,h⟩:=zn h
 refine yx hn 0 ?_
 refine ys 0 ⟨lb hv24⟩ ?_
 refine yw [29] 1 ?_
 refine ye [1,51,4,28,7,8,29] ?_
 refine ah [0,1,2,4,5,3,6] (by kernel_rfl) (es':=[(_,_),(_,_),(_,_),(_,_),(_,_),(_,_),(_,_)]) rfl ?_
 exact bb _ (zi h).symm rfl
 refine ba (ap (ap (aZ ?_)))
 refine ah [0,1,2,3,4] (by kernel_rfl) (es':=[(_,_),(_,_),(_,_),(_,_),(_,_)]) rfl ?_
 exact hl36 _ (ho38 _ (zi h).symm).symm
 intro u9 h hl10 hr11
 refine aG hn 3 [0,1,51,4,5,14] ?_
 refine zc h rfl (fun h => ?_) (fun h => ?_)
 refine ab ?_
 obtain ⟨v2,hv2,v3,hv3,v4,hv4,h⟩:=ng h
 refine yx hn 1 ?_
 refine ys 0 ⟨lg call183 (lF _ _ _ hv2) 51⟩ ?_
 refine yS (.arr 91 (map (int .u8) ((List.replicate 16 (0:Int))))) 0 ⟨oA (cl _ Bt)⟩ ?_
 refine yk [6] [16] ?_
 refine yt (6,.arr 91 (map (int .u8) v2)) 0 ⟨cE _ _ _ _ (xC.trans (congrArg some (bH hv4))) rfl rfl (fT (fun _=>rfl) _) ((bH (f:=int .u8) hv3).symm.trans (bH (f:=int .u8) hv4))⟩ ?_
 refine aV [1,51,4,5,6] ?_
 obtain ⟨v5,hv5,v6,hv6,h⟩:=dM h
 refine wb [] ?_
 refine wN [5] ?_
 refine wS (.asl 5 64) [] ⟨qq _ _ 5 64 _ underlying205 lJ rfl (by decide)⟩ ?_
 refine wK [6] [] ?_
 refine wt [(6,.any),(18,.fl .ro 1 (map (int .u8) v2))] [] ⟨mA _ _ 6 16 _ underlying91 lJ rfl (bH hv5).symm (fT (fun _=>rfl) _)⟩ ?_
 refine wK [5] [17,18] ?_
 refine wt [(5,.arr 205 (map (int .u8) (qw ((List.replicate 64 (0:Int))) v2))),(19,vi (sH ((List.replicate 64 (0:Int))) v2))] [] ⟨vo _ _ _ _ _ _ _ _ underlying28 lJ rfl (Ju hv6) rfl (by decide)⟩ ?_
 refine we hn [1,51,4,5] ?_
 exact hl10 _ (zi h).symm
 obtain ⟨v7,hv7,h⟩:=zn h
 refine yx hn 0 ?_
 refine yS (.asl 5 64) 1 ⟨qq _ _ 5 64 _ underlying205 lJ rfl (by decide)⟩ ?_
 refine yk [5] [20,21] ?_
 refine mS (5,.arr 205 (map (int .u8) (qw ((List.replicate 64 (0:Int))) key))) (22,vi (sH ((List.replicate 64 (0:Int))) key)) 0 ⟨vo _ _ _ _ _ _ _ _ underlying28 lJ rfl (Ju hv7) rfl (by decide)⟩ ?_
 refine ye [1,51,4,5] ?_
 exact hl10 _ (zi h).symm
theorem xq (b:(List Int)) (r:Mf) (h:Sh.tr b=some r):bF Tryz.prog 155 [.fl .shr 1 (map (int .u8) b)] (.v (.string r)):=by
 unfold Sh.tr at h
 refine yO 22 func155 fun g0 hn hio => ?_
 refine aG hn 1 [0] ?_
 refine gH hn 0 ?_
 refine yS (.hid (ig 153 5 false (map (int .u8) ([]:List Int)))) 0 ⟨oA (aN.bld0 (aT _ _ Gq))⟩ ?_
 refine aV [0,3] ?_
 refine ab ?_
 refine aG hn 3 [3,6,7,8] ?_
 refine aS h (fun ((s14,s15):(List Int)×Int)=>[(3,.hid (ig 153 5 false (map (int .u8) s14))),(6,fb b),(7,vi (b.length:Int)),(8,vi s15)]) (fun (s17:(List Int))=>[(3,.hid (ig 153 5 false (map (int .u8) s17)))]) ?_ ?_
 rintro s17 h
 refine ae (ab ?_)
 obtain ⟨v25,hv25,h⟩:=zn h
 refine yx hn 0 ?_
 refine yk [3] [] ?_
 refine yt (21,vs v25) 1 ⟨me _ _ _ _ 21 128 [.tmp 3] [] _ _ _ rfl call128 rfl rfl rfl (gE s17 _ hv25) (zl rfl) rfl rfl rfl rfl rfl rfl rfl⟩ ?_
 refine aV [2] ?_
 refine ak ?_
 obtain rfl:=zi h
 exact al hio rfl (.tmp _ _ .nil) rfl rfl
 rintro u18 hl19 hr20 ⟨s14,s15⟩ rr23 h ho21
 refine aG hn 1 [3,6,7,8,9] ?_
 refine ab ?_
 refine zc h rfl (fun h => ?_) (fun h => ?_)
 refine am ?_
 refine ae (ab ?_)
 refine aC (ab ?_)
 obtain ⟨v2,hv2,v3,hv3,h⟩:=dM h
 refine yx hn 0 ?_
 refine ys 0 ⟨li hv2⟩ ?_
 refine ys 1 ⟨ll hv3⟩ ?_
 refine aV [3,6,7,8,5] ?_
 refine ab ?_
 obtain ⟨v4,hv4,v5,hv5,v6,hv6,h⟩:=ng h
 refine yx hn 1 ?_
 refine ys 0 ⟨lB (kT hv4)⟩ ?_
 refine ys 0 ⟨lh hv5⟩ ?_
 refine yq call125 (dG _ _ _ hv6) 3 [14] 0 ?_
 refine aV [3,6,7,8,5] ?_
 obtain ⟨v7,hv7,v8,hv8,v9,hv9,h⟩:=ng h
 refine yx hn 1 ?_
 refine ys 0 ⟨lb hv7⟩ ?_
 refine ys 0 ⟨lh hv8⟩ ?_
 refine yq call125 (dG _ _ _ hv9) 3 [18] 0 ?_
 refine ye [3,6,7,8] ?_
 refine aI (ae ?_)
 obtain ⟨v10,hv10,h⟩:=zn h
 refine yx hn 0 ?_
 refine ys 0 ⟨lb hv10⟩ ?_
 refine yw [8] 1 ?_
 refine ye [3,6,7,8] ?_
 exact bb _ (zi h).symm rfl
 refine ba (ap (ap (aZ ?_)))
 refine ah [0] (by kernel_rfl) (es':=[(_,_)]) rfl ?_
 exact hl19 _ (ho21 _ (zi h).symm).symm
theorem sB (mx:Int×Nat×Value) (user:Mf) (secret:Mf) (challenge:Mf) (r:Mf) (h:Sh.nq user secret challenge=some r):iq Tryz.prog (GL mx) 133 [.v (.string user),.v (.string secret),.v (.string challenge)] (.v (.string r)):=by
 unfold Sh.nq at h
 refine yG 20 func133 fun g0 hn hio => ?_
 refine aG hn 1 [0,1,2,20] ?_
 refine ab ?_
 obtain ⟨v1,hv1,v2,hv2,v3,hv3,v4,hv4,h⟩:=jX h
 obtain ⟨v5,hv5,h⟩:=zn h
 refine yx hn 1 ?_
 refine ys 1 ⟨lT hv1⟩ ?_
 refine ys 0 ⟨lT hv2⟩ ?_
 refine ys 0 ⟨lg call154 (rZ _ _ _ _ hv3) 20⟩ ?_
 refine yS (.arr 91 (map (int .u8) ((List.replicate 16 (0:Int))))) 0 ⟨oA (cl _ Bt)⟩ ?_
 refine yk [7] [12] ?_
 refine yt (7,.arr 91 (map (int .u8) v3)) 0 ⟨cE _ _ _ _ (xC.trans (congrArg some (bH hv5))) rfl rfl (fT (fun _=>rfl) _) ((bH (f:=int .u8) hv4).symm.trans (bH (f:=int .u8) hv5))⟩ ?_
 refine aV [0,20,7] ?_
 refine ab ?_
 obtain ⟨v6,hv6,v7,hv7,v8,hv8,v9,hv9,h⟩:=jX h
 obtain ⟨v10,hv10,v11,hv11,h⟩:=dM h
 refine yx hn 1 ?_
 refine ys 0 ⟨lB (bu hv6)⟩ ?_
 refine yk [7] [] ?_
 refine mS (7,.any) (15,.fl .ro 1 (map (int .u8) v3)) 0 ⟨mA _ _ 7 16 _ underlying91 lJ rfl (bH hv7).symm (fT (fun _=>rfl) _)⟩ ?_
 refine ys 0 ⟨lk call155 (xq _ _ hv8)⟩ ?_
 refine ys 0 ⟨lB (bu hv9)⟩ ?_
 refine ys 0 ⟨lT hv10⟩ ?_
 refine ys 1 ⟨lk call98 (kz _ _ hv11)⟩ ?_
 refine aV [20,6] ?_
 refine ak ?_
 refine ah [1] (by kernel_rfl) (es':=[(_,_)]) rfl ?_
 obtain rfl:=zi h
 exact al hio rfl (.tmp _ _ .nil) rfl rfl
theorem ua (mx:Int×Nat×Value) (user:Mf) (secret:Mf) (challenge:Mf) (line:Mf) (r:Bool) (h:Sh.nJ user secret challenge line=some r):iq Tryz.prog (GL mx) 107 [.v (.string user),.v (.string secret),.v (.string challenge),.v (.string line)] (.v (.bool r)):=by
 unfold Sh.nJ at h
 refine yG 15 func107 fun g0 hn hio => ?_
 refine aG hn 1 [0,1,2,3,15] ?_
 refine ab ?_
 obtain ⟨v1,hv1,h⟩:=zn h
 refine yx hn 4 ?_
 refine ys 2 ⟨lg call133 (sB _ _ _ _ _ hv1) 15⟩ ?_
 refine aV [15,8] ?_
 refine ak ?_
 refine ah [1] (by kernel_rfl) (es':=[(_,_)]) rfl ?_
 obtain rfl:=zi h
 exact al hio rfl (.tmp _ _ .nil) rfl rfl
theorem gu (u:Nat→Value) (s:aa) (code:Int) (r:cX) (h:Sh.cL s code=some r):pO Tryz.prog 85 [.box 80 [.v (.int .i64 s.LF.LW),.v (.string s.LF.LI),.v (.bool s.LF.LD.LQ),.v (.string s.LF.LD.LM),.v (.string s.LF.LD.LA),.v (u 5),.v (.bool s.LF.LY),.v (u 7),.v (.string s.LF.Ly),.v (.bool s.LF.LX),.v (.string ((s.config.LB.getD 0 (⟨#[]⟩:Mf)))),.v (.string ((s.config.LB.getD 1 (⟨#[]⟩:Mf)))),.v (.int .i64 s.config.LC),.v (.string s.config.Mc),.v (.string s.config.Ma),.v (.int .i64 s.config.LN),.v (.bool s.config.LH),.v (.int .i64 s.site),.v (.int .i64 s.at_),.v (u 19)],.v (.int .i64 code)] [.box 80 [.v (.int .i64 s.LF.LW),.v (.string s.LF.LI),.v (.bool s.LF.LD.LQ),.v (.string s.LF.LD.LM),.v (.string s.LF.LD.LA),.v (u 5),.v (.bool s.LF.LY),.v (u 7),.v (.string s.LF.Ly),.v (.bool s.LF.LX),.v (.string ((s.config.LB.getD 0 (⟨#[]⟩:Mf)))),.v (.string ((s.config.LB.getD 1 (⟨#[]⟩:Mf)))),.v (.int .i64 s.config.LC),.v (.string s.config.Mc),.v (.string s.config.Ma),.v (.int .i64 s.config.LN),.v (.bool s.config.LH),.v (.int .i64 s.site),.v (.int .i64 s.at_),.v (u 19)]] (.agg [.v (.int .i64 r.Lz),.fl (.own 9) 1 (map Value.string r.LL)]):=by
 unfold Sh.cL at h
 refine yP 24 func85 fun args0 hargs0 g0 hn hio => ?_
 refine gH hn 0 ?_
 refine yS (.box 51 [vi 0,vz]) 0 ⟨oA (aT _ _ EO)⟩ ?_
 refine aV [0,1,4,0] ?_
 refine aG hn 1 [0,1,4,5,0] ?_
 refine ab ?_
 refine aq h (fun (s6:Mf)=>[(0,.box 80 (vi s.LF.LW::vs s.LF.LI::vb s.LF.LD.LQ::vs s.LF.LD.LM::vs s.LF.LD.LA::.v (u 5)::vb s.LF.LY::.v (u 7)::vs s.LF.Ly::vb s.LF.LX::aB.c s.config [vi s.site,vi s.at_,.v (u 19)])),(1,vi code),(4,.box 51 [vi 0,vz]),(5,vs s6),(0,.v (List.getD args0 0 undef))]) ?_ ?_
 rintro s6 h
 refine ae ?_
 refine gH hn 2 ?_
 refine yS (.fl (.own 9) 1 (map Value.string [s6])) 0 ⟨bf _ _ 1 (.string ByteArray.empty) (map Value.string [s6]) [(0,.string s6)] underlying49 sP JD (fun _ V w o a hv hes=>by have e0:=bZ hv hes (x := .tmp 21) rfl; simp only [List.map_toArray,List.map_cons,List.map_nil,e0]; try rfl) (cN (by simp [Instr.fill,Value.cells]; rfl) (by simp [List.range,List.range.loop] <;> rfl)) (by simp [Value.oneCell']) rfl (by decide) (by decide) (by decide)⟩ ?_
 refine yk [22] [20] ?_
 refine yt (23,.agg [vi code,.fl (.own 9) 1 (map Value.string [s6])]) 0 ⟨bw _ _ _ _ [1,1] _ _ underlying51 EO (IZ _ underlying51) (.copy _ (.take _ _ mb.nil)) rfl rfl rfl⟩ ?_
 refine yk [23,4] [] ?_
 refine yt (4,.box 51 [vi code,.fl (.own 9) 1 (map Value.string [s6])]) 0 ⟨aM _ _ _ _ _ _ _ _ FB rfl rfl rfl (zl rfl) rfl rfl⟩ ?_
 refine aV [0,4,0] ?_
 refine ak ?_
 refine ah [1,0,2] (by kernel_rfl) (es':=[(_,_),(_,_),(_,_)]) rfl ?_
 obtain rfl:=zi h
 exact bG (es:=[(4,.box 51 [.v (.int .i64 code),.fl (.own 9) 1 (map Value.string [s6])])]) (posts:=[.box 80 [.v (.int .i64 s.LF.LW),.v (.string s.LF.LI),.v (.bool s.LF.LD.LQ),.v (.string s.LF.LD.LM),.v (.string s.LF.LD.LA),.v (u 5),.v (.bool s.LF.LY),.v (u 7),.v (.string s.LF.Ly),.v (.bool s.LF.LX),.v (.string ((s.config.LB.getD 0 (⟨#[]⟩:Mf)))),.v (.string ((s.config.LB.getD 1 (⟨#[]⟩:Mf)))),.v (.int .i64 s.config.LC),.v (.string s.config.Mc),.v (.string s.config.Ma),.v (.int .i64 s.config.LN),.v (.bool s.config.LH),.v (.int .i64 s.site),.v (.int .i64 s.at_),.v (u 19)]]) hio rfl rfl (.cellA _ _ _ _ underlying51 rfl FB .nil) rfl rfl hargs0 rfl
 intro u7 h hl8 hr9
 refine aC ?_
 refine aG hn 3 [0,1,4,5,6,0] ?_
 refine zc h rfl (fun h => ?_) (fun h => ?_)
 obtain ⟨v2,hv2,v3,hv3,h⟩:=dM h
 refine yx hn 5 ?_
 refine ys 0 ⟨lT hv2⟩ ?_
 refine ys 0 ⟨lk call98 (kz _ _ hv3)⟩ ?_
 refine yw [5] 1 ?_
 refine ye [0,1,4,5,0] ?_
 refine aI ?_
 exact hl8 _ (zi h).symm
 refine ab ?_
 obtain ⟨v4,hv4,h⟩:=zn h
 refine yx hn 1 ?_
 refine ys 2 ⟨lk call99 (nR _ _ hv4)⟩ ?_
 refine aV [0,1,4,5,16,0] ?_
 refine zc h rfl (fun h => ?_) (fun h => ?_)
 refine yx hn 0 ?_
 refine yw [5] 1 ?_
 refine ye [0,1,4,5,0] ?_
 refine aI ?_
 exact hl8 _ (zi h).symm
 refine am (aI ?_)
 refine ah [0,1,2,3,5] (by kernel_rfl) (es':=[(_,_),(_,_),(_,_),(_,_),(_,_)]) rfl ?_
 exact hl8 _ (zi h).symm
theorem aX (s:aa) (code:Int) (r:aa) (h:Sh.aU s code=some r):pO Tryz.prog 76 [.box 80 (aa.b s),.v (.int .i64 code)] [.box 80 (aa.b r)] (.tup []):=by
 unfold Sh.aU at h
 refine yP 17 func76 fun args0 hargs0 g0 hn hio => ?_
 obtain ⟨v1,hv1,v2,hv2,h⟩:=dM h
 refine wb [[],[],[5,0],[6,0],[7,0],[0],[1]] ?_
 refine wN [9,0,10] ?_
 refine wS (.agg [vi v1.Lz,.fl (.own 9) 1 (map Value.string v1.LL)]) [] ⟨yc _ 11 0 85 [.int .i64 code] _ rfl call85 rfl rfl rfl rfl (fun u=>gu u ((aa.r s)) code _ hv1) rfl rfl rfl⟩ ?_
 refine wK [11] [] ?_
 refine wt [(12,.agg [vi v1.Lz,.fl (.own 9) 1 (map Value.string v1.LL),vb false,vb false,vs z0,vs z0,vz,vz,vb false,vs z0,vi 0,vb false])] [] ⟨bw _ _ _ _ [2,1,8,1] _ _ underlying55 tY (Cw _ underlying55) (.take _ _ mb.nil) rfl rfl rfl⟩ ?_
 refine wK [12] [] ?_
 refine wt [(13,.fr (.own 55) false 12 (flatten (map ay.ienc ([(ay.mk v1 false ((az.mk ((T_Path.mk false z0 z0)) [] [] false z0 0)) false)]))))] [] ⟨iU _ _ _ 12 (.agg #[.int .i64 0,.slice none 0 0,.bool false,.bool false,.string ByteArray.empty,.string ByteArray.empty,.slice none 0 0,.slice none 0 0,.bool false,.string ByteArray.empty,.int .i64 0,.bool false]) false _ _ underlying34 vZ tY rfl (.cons (.v _) (.cons (.ro _ _ rfl) (.cons (.v _) (.cons (.v _) (.cons (.v _) (.cons (.v _) (.cons (.nil 3) (.cons (.nil 1) (.cons (.v _) (.cons (.v _) (.cons (.v _) (.cons (.v _) (.nil))))))))))))) rfl (by decide) (by decide)⟩ ?_
 refine wK [0] [8,13] ?_
 refine wt [(0,.box 80 (vi s.LF.LW::vs s.LF.LI::vb s.LF.LD.LQ::vs s.LF.LD.LM::vs s.LF.LD.LA::.fl (.own 26) 3 (flatten (map T_Path.enc s.LF.To))::vb s.LF.LY::.mkr 5 (map (int .u8) s.LF.Lx)::vs s.LF.Ly::vb s.LF.LX::aB.c s.config [vi s.site,vi s.at_,.any])),(14,.fr (.own 55) false 12 (flatten (map ay.ienc v2)))] [[4,0],[15,0]] ⟨iQ _ 14 0 19 _ _ He rfl rfl (zl rfl) rfl (fO ay.ilen _) (fO ay.ilen _) hv2 (lN (iY hv2)) (by decide) (by decide) (by decide) rfl rfl⟩ ?_
 refine wK [8,14,0] [16] ?_
 refine wt [(0,.box 80 (vi s.LF.LW::vs s.LF.LI::vb s.LF.LD.LQ::vs s.LF.LD.LM::vs s.LF.LD.LA::.fl (.own 26) 3 (flatten (map T_Path.enc s.LF.To))::vb s.LF.LY::.mkr 5 (map (int .u8) s.LF.Lx)::vs s.LF.Ly::vb s.LF.LX::aB.c s.config [vi s.site,vi s.at_,.fr (.own 55) false 12 (flatten (map ay.ienc v2))]))] [] ⟨aN.drop [_] (aM _ _ _ _ _ _ _ _ Ic rfl rfl rfl (zl rfl) rfl rfl)⟩ ?_
 refine we hn [0,0] ?_
 obtain rfl:=zi h
 exact kY (es:=[]) (posts:=[.box 80 [.v (.int .i64 s.LF.LW),.v (.string s.LF.LI),.v (.bool s.LF.LD.LQ),.v (.string s.LF.LD.LM),.v (.string s.LF.LD.LA),.fl (.own 26) 3 (flatten (map T_Path.enc s.LF.To)),.v (.bool s.LF.LY),.mkr 5 (map (int .u8) s.LF.Lx),.v (.string s.LF.Ly),.v (.bool s.LF.LX),.v (.string ((s.config.LB.getD 0 (⟨#[]⟩:Mf)))),.v (.string ((s.config.LB.getD 1 (⟨#[]⟩:Mf)))),.v (.int .i64 s.config.LC),.v (.string s.config.Mc),.v (.string s.config.Ma),.v (.int .i64 s.config.LN),.v (.bool s.config.LH),.v (.int .i64 s.site),.v (.int .i64 s.at_),.fr (.own 55) false 12 (flatten (map ay.ienc v2))]]) hio rfl rfl .nil rfl rfl hargs0 rfl
theorem mY (mx:Int×Nat×Value) (s:aa) (line:Mf) (r:aa) (h:Sh.hH s line=some r):ny Tryz.prog (GL mx) 90 [.box 80 (aa.b s),.v (.string line)] [.box 80 (aa.b r)] (.tup []):=by
 unfold Sh.hH at h
 refine DZ 34 func90 fun args0 hargs0 g0 hn hio => ?_
 refine aG hn 5 [0,1,34,0] ?_
 refine ab (ab ?_)
 obtain ⟨v1,hv1,h⟩:=zn h
 refine wb [[],[8,0],[9,0],[10,0],[11,0],[],[13,0],[14,0],[15,0],[16,0],[],[18,0],[19,0],[20,0],[21,0],[1]] ?_
 refine wN [12,17,22,23,34] ?_
 refine wo [[24]] ⟨lg call107 (ua _ _ _ _ _ _ hv1) 34⟩ ?_
 refine sf hn [0,34,25,0] ?_
 refine zc h rfl (fun h => ?_) (fun h => ?_)
 refine ab ?_
 obtain ⟨v3,hv3,h⟩:=zn h
 refine yx hn 1 ?_
 refine yQ call76 (aX _ _ _ hv3) 0 [26] 0 ?_
 refine aV [0,34,0] ?_
 refine ak ?_
 refine ah [0,2] (by kernel_rfl) (es':=[(_,_),(_,_)]) rfl ?_
 refine ag ?_
 obtain rfl:=zi h
 exact bG (es:=[]) (posts:=[.box 80 (aa.b v3)]) hio rfl rfl .nil rfl rfl hargs0 rfl
 refine am (ae ?_)
 refine aG hn 5 [0,34,0] ?_
 obtain ⟨v4,hv4,h⟩:=zn h
 refine yx hn 1 ?_
 refine yQ call76 (aX _ _ _ hv4) 0 [32] 0 ?_
 refine ye [0,34,0] ?_
 refine ah [0,2] (by kernel_rfl) (es':=[(_,_),(_,_)]) rfl ?_
 obtain rfl:=zi h
 exact kY (es:=[]) (posts:=[.box 80 (aa.b v4)]) hio rfl rfl .nil rfl rfl hargs0 rfl
theorem kX (line:Mf) (r:Bool) (h:Sh.eZ line=some r):bF Tryz.prog 108 [.v (.string line)] (.v (.bool r)):=by
 unfold Sh.eZ at h
 refine yO 20 func108 fun g0 hn hio => ?_
 refine aG hn 1 [0] ?_
 refine ab ?_
 refine aG hn 3 [0,5,6] ?_
 refine aS h (fun (s17:Int)=>[(0,vs line),(5,vi (line.size:Int)),(6,vi s17)]) (fun (():Unit)=>[]) ?_ ?_
 rintro ⟨⟩ h
 refine ae ?_
 refine aG hn 1 [2] ?_
 refine ak ?_
 obtain rfl:=zi h
 exact al hio rfl (.tmp _ _ .nil) rfl rfl
 rintro u24 hl25 hr26 s17 rr29 h ho27
 refine aG hn 1 [0,5,6,7] ?_
 refine ab ?_
 refine zc h rfl (fun h => ?_) (fun h => ?_)
 refine am ?_
 refine ae (ab ?_)
 refine aC ?_
 refine aG hn 2 [0,5,6,3] ?_
 refine ab ?_
 refine aq h (fun (s31:Bool)=>[(0,vs line),(5,vi (line.size:Int)),(6,vi s17),(18,vb s31)]) ?_ ?_
 rintro s31 h
 refine ae ?_
 refine zc h rfl (fun h => ?_) (fun h => ?_)
 refine aG hn 1 [2] ?_
 refine ak (aF (ag (ag (aF (ag ?_)))))
 have h:=hr26 _ (ho27 _ (zi h).symm).symm
 obtain rfl:=zi h
 exact al hio rfl (.tmp _ _ .nil) rfl rfl
 refine am (aI (ae ?_))
 obtain ⟨v9,hv9,h⟩:=zn h
 refine yx hn 0 ?_
 refine ys 0 ⟨lb hv9⟩ ?_
 refine yw [6] 1 ?_
 refine ye [0,5,6] ?_
 exact bb _ (zi h).symm rfl
 intro u32 h hl33 hr34
 obtain ⟨v2,hv2,h⟩:=zn h
 refine ai h (fun hg4_4 h => ?_) (fun hg4_4 h => ?_)
 refine yx hn 2 ?_
 refine ys 2 ⟨lh hv2⟩ ?_
 refine yd hg4_4 5 ?_
 refine ye [0,5,6,18] ?_
 exact hl33 _ (zi h).symm
 obtain ⟨v3,hv3,h⟩:=zn h
 refine yx hn 2 ?_
 refine ys 2 ⟨lh hv2⟩ ?_
 refine yd hg4_4 2 ?_
 refine ys 2 ⟨lh hv3⟩ ?_
 refine ye [0,5,6,18] ?_
 exact hl33 _ (zi h).symm
 refine ba (ap (ap (aZ ?_)))
 refine ah [] (by kernel_rfl) (es':=[]) rfl ?_
 exact hl25 _ (ho27 _ (zi h).symm).symm
theorem jL (s sub:Mf) (r:Int) (h:Sh.cC s sub=some r):bF Tryz.prog 143 [.v (.string s),.v (.string sub)] (.v (.int .i64 r)):=la Tryz.stringslite_Index_one s sub r h
theorem kn (s:Mf) (sep:Mf) (r:(Mf×Mf×Bool)) (h:Sh.du s sep=some r):bF Tryz.prog 156 [.v (.string s),.v (.string sep)] (.tup [.v (.string r.1),.v (.string r.2.1),.v (.bool r.2.2)]):=by
 unfold Sh.du at h
 refine yO 23 func156 fun g0 hn hio => ?_
 refine aG hn 3 [0,1] ?_
 refine ab (ab ?_)
 obtain ⟨v1,hv1,h⟩:=zn h
 refine yx hn 2 ?_
 refine ys 1 ⟨lk call143 (jL _ _ _ hv1)⟩ ?_
 refine aV [0,1,7] ?_
 refine aG hn 2 [0,1,7,12] ?_
 refine zc h rfl (fun h => ?_) (fun h => ?_)
 refine ab ?_
 obtain ⟨v3,hv3,v4,hv4,v5,hv5,h⟩:=ng h
 refine wb [[0],[7]] ?_
 refine wN [13,14] ?_
 refine wS (vs v3) [[0],[7],[1],[18]] ⟨cM _ _ _ 0 v1 _ underlying9 rfl rfl ⟨_,rfl⟩ hv3⟩ ?_
 refine wN [17,19] ?_
 refine wo [] ⟨lb hv4⟩ ?_
 refine wN [16,20] ?_
 refine wS (vs v5) [[15],[21],[]] ⟨cM _ _ _ v4 (s.size:Int) _ underlying9 rfl ⟨_,rfl⟩ rfl hv5⟩ ?_
 refine sf hn [4,5,6] ?_
 refine ak (ag ?_)
 obtain rfl:=zi h
 exact al hio rfl (.tmp _ _ (.tmp _ _ (.tmp _ _ .nil))) rfl rfl
 refine am (ae ?_)
 refine aG hn 4 [4,5,6] ?_
 refine ak ?_
 obtain rfl:=zi h
 exact al hio rfl (.tmp _ _ (.tmp _ _ (.tmp _ _ .nil))) rfl rfl
theorem iL (s:Mf) (sep:Mf) (r:(Mf×Mf×Bool)) (h:Sh.dB s sep=some r):bF Tryz.prog 134 [.v (.string s),.v (.string sep)] (.tup [.v (.string r.1),.v (.string r.2.1),.v (.bool r.2.2)]):=by
 unfold Sh.dB at h
 refine yO 13 func134 fun g0 hn hio => ?_
 refine aG hn 3 [0,1] ?_
 refine ab ?_
 obtain ⟨v1,hv1,h⟩:=zn h
 refine yx hn 2 ?_
 refine ys 6 ⟨lk call156 (kn _ _ _ hv1)⟩ ?_
 refine aV [4,5,6] ?_
 refine ak ?_
 obtain rfl:=zi h
 exact al hio rfl (.tmp _ _ (.tmp _ _ (.tmp _ _ .nil))) rfl rfl
theorem oi (line:Mf) (r:Int) (h:Sh.fv line=some r):bF Tryz.prog 109 [.v (.string line)] (.v (.int .i64 r)):=by
 unfold Sh.fv at h
 refine yO 37 func109 fun g0 hn hio => ?_
 refine aG hn 1 [0] ?_
 refine ab ?_
 obtain ⟨v1,hv1,h⟩:=zn h
 refine yx hn 1 ?_
 refine ys 0 ⟨lk call134 (iL _ _ _ hv1)⟩ ?_
 refine ym 6 ?_
 refine aV [3] ?_
 refine ab (ab ?_)
 obtain ⟨v2,hv2,h⟩:=zn h
 refine yx hn 1 ?_
 refine ys 0 ⟨lk call71 (eA _ _ hv2)⟩ ?_
 refine aV [13] ?_
 refine aC (ab ?_)
 refine aq h (fun (s4:Bool)=>[(13,vs v2),(14,vb s4)]) ?_ ?_
 rintro s4 h
 refine ae ?_
 refine zc h rfl (fun h => ?_) (fun h => ?_)
 refine aG hn 1 [2] ?_
 refine ak (aF (ag ?_))
 obtain rfl:=zi h
 exact al hio rfl (.tmp _ _ .nil) rfl rfl
 refine aG hn 2 [13,17] ?_
 refine zc h rfl (fun h => ?_) (fun h => ?_)
 refine aG hn 1 [2] ?_
 refine ak (aF (ag ?_))
 obtain rfl:=zi h
 exact al hio rfl (.tmp _ _ .nil) rfl rfl
 refine aG hn 2 [13,19] ?_
 refine zc h rfl (fun h => ?_) (fun h => ?_)
 refine aG hn 1 [2] ?_
 refine ak (aF (ag ?_))
 obtain rfl:=zi h
 exact al hio rfl (.tmp _ _ .nil) rfl rfl
 refine aG hn 2 [13,21] ?_
 refine zc h rfl (fun h => ?_) (fun h => ?_)
 refine aG hn 1 [2] ?_
 refine ak (aF (ag ?_))
 obtain rfl:=zi h
 exact al hio rfl (.tmp _ _ .nil) rfl rfl
 refine aG hn 2 [13,23] ?_
 refine zc h rfl (fun h => ?_) (fun h => ?_)
 refine aG hn 1 [2] ?_
 refine ak (aF (ag ?_))
 obtain rfl:=zi h
 exact al hio rfl (.tmp _ _ .nil) rfl rfl
 refine aG hn 2 [13,25] ?_
 refine zc h rfl (fun h => ?_) (fun h => ?_)
 refine aG hn 1 [2] ?_
 refine ak (aF (ag ?_))
 obtain rfl:=zi h
 exact al hio rfl (.tmp _ _ .nil) rfl rfl
 refine aG hn 2 [13,27] ?_
 refine zc h rfl (fun h => ?_) (fun h => ?_)
 refine aG hn 1 [2] ?_
 refine ak (aF (ag ?_))
 obtain rfl:=zi h
 exact al hio rfl (.tmp _ _ .nil) rfl rfl
 refine aG hn 2 [13,29] ?_
 refine zc h rfl (fun h => ?_) (fun h => ?_)
 refine aG hn 1 [2] ?_
 refine ak (aF (ag ?_))
 obtain rfl:=zi h
 exact al hio rfl (.tmp _ _ .nil) rfl rfl
 refine aG hn 2 [13,31] ?_
 refine zc h rfl (fun h => ?_) (fun h => ?_)
 refine aG hn 1 [2] ?_
 refine ak (aF (ag ?_))
 obtain rfl:=zi h
 exact al hio rfl (.tmp _ _ .nil) rfl rfl
 refine aG hn 2 [13,33] ?_
 refine zc h rfl (fun h => ?_) (fun h => ?_)
 refine aG hn 1 [2] ?_
 refine ak (aF (ag ?_))
 obtain rfl:=zi h
 exact al hio rfl (.tmp _ _ .nil) rfl rfl
 refine aG hn 2 [35] ?_
 refine zc h rfl (fun h => ?_) (fun h => ?_)
 refine aG hn 1 [2] ?_
 refine ak (aF (ag ?_))
 obtain rfl:=zi h
 exact al hio rfl (.tmp _ _ .nil) rfl rfl
 refine am (aI (ae ?_))
 refine aG hn 1 [2] ?_
 refine ak ?_
 obtain rfl:=zi h
 exact al hio rfl (.tmp _ _ .nil) rfl rfl
 intro u5 h hl6 hr7
 refine aG hn 2 [13,14] ?_
 refine zc h rfl (fun h => ?_) (fun h => ?_)
 refine am ?_
 exact hl6 _ (zi h).symm
 refine yx hn 1 ?_
 refine yw [14] 1 ?_
 refine ye [13,14] ?_
 exact hl6 _ (zi h).symm
theorem fS (a:Mf) (b:Mf) (r:Bool) (h:Sh.dC a b=some r):bF Tryz.prog 136 [.v (.string a),.v (.string b)] (.v (.bool r)):=by
 unfold Sh.dC at h
 refine yO 10 func136 fun g0 hn hio => ?_
 refine aG hn 1 [0,1] ?_
 refine ab ?_
 obtain ⟨v1,hv1,v2,hv2,h⟩:=dM h
 refine yx hn 1 ?_
 refine ys 1 ⟨lk call71 (eA _ _ hv1)⟩ ?_
 refine ys 2 ⟨lk call71 (eA _ _ hv2)⟩ ?_
 refine aV [4] ?_
 refine ak ?_
 obtain rfl:=zi h
 exact al hio rfl (.tmp _ _ .nil) rfl rfl
theorem mU (s:Mf) (prefix_:Mf) (r:(Mf×Bool)) (h:Sh.fD s prefix_=some r):bF Tryz.prog 135 [.v (.string s),.v (.string prefix_)] (.tup [.v (.string r.1),.v (.bool r.2)]):=by
 unfold Sh.fD at h
 refine yO 24 func135 fun g0 hn hio => ?_
 refine aG hn 2 [0,1] ?_
 refine ab (ab ?_)
 refine aq h (fun (s3:Bool)=>[(0,vs s),(1,vs prefix_),(19,vb s3)]) ?_ ?_
 rintro s3 h
 refine ae ?_
 refine zc h rfl (fun h => ?_) (fun h => ?_)
 refine aG hn 2 [4,5] ?_
 refine ak (ag ?_)
 obtain rfl:=zi h
 exact al hio rfl (.tmp _ _ (.tmp _ _ .nil)) rfl rfl
 refine am ?_
 refine ae (ab ?_)
 obtain ⟨v8,hv8,h⟩:=zn h
 refine yx hn 3 ?_
 refine yS (vs v8) 2 ⟨cM _ _ _ (prefix_.size:Int) (s.size:Int) _ underlying9 rfl ⟨_,rfl⟩ rfl hv8⟩ ?_
 refine aV [4,5] ?_
 refine ak ?_
 obtain rfl:=zi h
 exact al hio rfl (.tmp _ _ (.tmp _ _ .nil)) rfl rfl
 intro u4 h hl5 hr6
 refine ai h (fun hg1_5 h => ?_) (fun hg1_5 h => ?_)
 refine yx hn 6 ?_
 refine yd hg1_5 8 ?_
 refine ye [0,1,19] ?_
 exact hl5 _ (zi h).symm
 obtain ⟨v1,hv1,v2,hv2,h⟩:=dM h
 refine yx hn 6 ?_
 refine yd hg1_5 3 ?_
 refine yS (vs v1) 1 ⟨cM _ _ _ 0 (prefix_.size:Int) _ underlying9 rfl rfl ⟨_,rfl⟩ hv1⟩ ?_
 refine ys 2 ⟨lk call136 (fS _ _ _ hv2)⟩ ?_
 refine ye [0,1,19] ?_
 exact hl5 _ (zi h).symm
theorem mJ (mx:Int×Nat×Value) (line:Mf) (r:Bool) (h:Sh.dN line=some r):iq Tryz.prog (GL mx) 110 [.v (.string line)] (.v (.bool r)):=by
 unfold Sh.dN at h
 refine yG 40 func110 fun g0 hn hio => ?_
 refine aG hn 1 [0,40] ?_
 refine ab ?_
 obtain ⟨v1,hv1,h⟩:=zn h
 refine yx hn 1 ?_
 refine ys 0 ⟨lk call135 (mU _ _ _ hv1)⟩ ?_
 refine ym 4 ?_
 refine aV [40,3,4] ?_
 refine ab (ab ?_)
 refine aq h (fun (s3:Bool)=>[(40,.glob (GL mx)),(3,vs v1.1),(20,vb s3)]) ?_ ?_
 rintro s3 h
 refine ae ?_
 refine zc h rfl (fun h => ?_) (fun h => ?_)
 refine aG hn 1 [40,2] ?_
 refine ak ?_
 refine ah [1] (by kernel_rfl) (es':=[(_,_)]) rfl ?_
 refine ag ?_
 obtain rfl:=zi h
 exact al hio rfl (.tmp _ _ .nil) rfl rfl
 refine am ?_
 refine ae (ab ?_)
 refine aG hn 3 [40,3,22,23] ?_
 refine aS h (fun (s26:Int)=>[(40,.glob (GL mx)),(3,vs v1.1),(22,vi (v1.1.size:Int)),(23,vi s26)]) (fun (():Unit)=>[(40,.glob (GL mx))]) ?_ ?_
 rintro ⟨⟩ h
 refine ae ?_
 refine aG hn 1 [40,2] ?_
 refine ak ?_
 refine ah [1] (by kernel_rfl) (es':=[(_,_)]) rfl ?_
 obtain rfl:=zi h
 exact al hio rfl (.tmp _ _ .nil) rfl rfl
 rintro u33 hl34 hr35 s26 rr38 h ho36
 refine aG hn 1 [40,3,22,23,24] ?_
 refine ab ?_
 refine zc h rfl (fun h => ?_) (fun h => ?_)
 refine am ?_
 refine ae (ab ?_)
 refine aC ?_
 refine aG hn 2 [40,3,22,23,5] ?_
 refine ab ?_
 refine aq h (fun (s40:Bool)=>[(40,.glob (GL mx)),(3,vs v1.1),(22,vi (v1.1.size:Int)),(23,vi s26),(38,vb s40)]) ?_ ?_
 rintro s40 h
 refine ae ?_
 refine zc h rfl (fun h => ?_) (fun h => ?_)
 refine aG hn 1 [40,2] ?_
 refine ak ?_
 refine ah [1] (by kernel_rfl) (es':=[(_,_)]) rfl ?_
 refine aF (ag (ag (aF (ag ?_))))
 have h:=hr35 _ (ho36 _ (zi h).symm).symm
 obtain rfl:=zi h
 exact al hio rfl (.tmp _ _ .nil) rfl rfl
 refine am (aI (ae ?_))
 obtain ⟨v18,hv18,h⟩:=zn h
 refine yx hn 0 ?_
 refine ys 0 ⟨lb hv18⟩ ?_
 refine yw [23] 1 ?_
 refine ye [40,3,22,23] ?_
 exact bb _ (zi h).symm rfl
 intro u41 h hl42 hr43
 obtain ⟨v9,hv9,h⟩:=zn h
 refine ai h (fun hg7_4 h => ?_) (fun hg7_4 h => ?_)
 obtain ⟨v10,hv10,v11,hv11,v12,hv12,h⟩:=ng h
 refine yx hn 2 ?_
 refine ys 2 ⟨lh hv9⟩ ?_
 refine yd hg7_4 3 ?_
 refine ys 0 ⟨lb hv10⟩ ?_
 refine yS (vs v11) 0 ⟨cM _ _ _ s26 v10 _ underlying9 rfl ⟨_,rfl⟩ ⟨_,rfl⟩ hv11⟩ ?_
 refine ys 2 ⟨lg call55 (cb _ _ _ hv12) 40⟩ ?_
 refine ye [40,3,22,23,38] ?_
 exact hl42 _ (zi h).symm
 refine yx hn 2 ?_
 refine ys 2 ⟨lh hv9⟩ ?_
 refine yd hg7_4 8 ?_
 refine ye [40,3,22,23,38] ?_
 exact hl42 _ (zi h).symm
 refine ba (ap (ap (aZ ?_)))
 refine ah [0] (by kernel_rfl) (es':=[(_,_)]) rfl ?_
 exact hl34 _ (ho36 _ (zi h).symm).symm
 intro u4 h hl5 hr6
 refine ai h (fun hg2_2 h => ?_) (fun hg2_2 h => ?_)
 refine yx hn 3 ?_
 refine yd hg2_2 7 ?_
 refine ye [40,3,20] ?_
 exact hl5 _ (zi h).symm
 refine ai h (fun hg2_6 h => ?_) (fun hg2_6 h => ?_)
 refine yx hn 3 ?_
 refine yd hg2_2 4 ?_
 refine yd hg2_6 3 ?_
 refine ye [40,3,20] ?_
 exact hl5 _ (zi h).symm
 obtain ⟨v2,hv2,h⟩:=zn h
 refine yx hn 3 ?_
 refine yd hg2_2 4 ?_
 refine yd hg2_6 1 ?_
 refine ys 1 ⟨lk call136 (fS _ _ _ hv2)⟩ ?_
 refine ye [40,3,20] ?_
 exact hl5 _ (zi h).symm
theorem sh (kind:Int) (r:Mf) (h:Sh.km kind=some r):bF Tryz.prog 157 [.v (.int .i64 kind)] (.v (.string r)):=by
 unfold Sh.km at h
 refine yO 5 func157 fun g0 hn hio => ?_
 refine aG hn 1 [0] ?_
 refine ab ?_
 refine aG hn 2 [4] ?_
 refine zc h rfl (fun h => ?_) (fun h => ?_)
 refine aG hn 1 [2] ?_
 refine ak (ag ?_)
 obtain rfl:=zi h
 exact al hio rfl (.tmp _ _ .nil) rfl rfl
 refine am (ae ?_)
 refine aG hn 1 [2] ?_
 refine ak ?_
 obtain rfl:=zi h
 exact al hio rfl (.tmp _ _ .nil) rfl rfl
theorem iI (s:Mf) (prefix_:Mf) (r:Bool) (h:Sh.cn s prefix_=some r):bF Tryz.prog 175 [.v (.string s),.v (.string prefix_)] (.v (.bool r)):=by
 unfold Sh.cn at h
 refine yO 18 func175 fun g0 hn hio => ?_
 refine aG hn 1 [0,1] ?_
 refine ab ?_
 refine aq h (fun (s2:Bool)=>[(4,vb s2)]) ?_ ?_
 rintro s2 h
 refine ae (ak ?_)
 obtain rfl:=zi h
 exact al hio rfl (.tmp _ _ .nil) rfl rfl
 intro u3 h hl4 hr5
 refine ai h (fun hg1_5 h => ?_) (fun hg1_5 h => ?_)
 obtain ⟨v1,hv1,h⟩:=zn h
 refine yx hn 6 ?_
 refine yd hg1_5 3 ?_
 refine yS (vs v1) 4 ⟨cM _ _ _ 0 (prefix_.size:Int) _ underlying9 rfl rfl ⟨_,rfl⟩ hv1⟩ ?_
 refine ye [4] ?_
 exact hl4 _ (zi h).symm
 refine yx hn 6 ?_
 refine yd hg1_5 8 ?_
 refine ye [4] ?_
 exact hl4 _ (zi h).symm
theorem iG (s:Mf) (prefix_:Mf) (r:(Mf×Bool)) (h:Sh.co s prefix_=some r):bF Tryz.prog 205 [.v (.string s),.v (.string prefix_)] (.tup [.v (.string r.1),.v (.bool r.2)]):=by
 unfold Sh.co at h
 refine yO 15 func205 fun g0 hn hio => ?_
 refine aG hn 2 [0,1] ?_
 refine ab (ab ?_)
 obtain ⟨v1,hv1,h⟩:=zn h
 refine yx hn 2 ?_
 refine ys 1 ⟨lk call175 (iI _ _ _ hv1)⟩ ?_
 refine aV [0,1,9] ?_
 refine zc h rfl (fun h => ?_) (fun h => ?_)
 refine aG hn 3 [4,5] ?_
 refine ak (ag ?_)
 obtain rfl:=zi h
 exact al hio rfl (.tmp _ _ (.tmp _ _ .nil)) rfl rfl
 refine am ?_
 refine ae (ab ?_)
 obtain ⟨v3,hv3,h⟩:=zn h
 refine yx hn 3 ?_
 refine yS (vs v3) 2 ⟨cM _ _ _ (prefix_.size:Int) (s.size:Int) _ underlying9 rfl ⟨_,rfl⟩ rfl hv3⟩ ?_
 refine aV [4,5] ?_
 refine ak ?_
 obtain rfl:=zi h
 exact al hio rfl (.tmp _ _ (.tmp _ _ .nil)) rfl rfl
theorem jV (s:Mf) (prefix_:Mf) (r:(Mf×Bool)) (h:Sh.dD s prefix_=some r):bF Tryz.prog 184 [.v (.string s),.v (.string prefix_)] (.tup [.v (.string r.1),.v (.bool r.2)]):=by
 unfold Sh.dD at h
 refine yO 11 func184 fun g0 hn hio => ?_
 refine aG hn 2 [0,1] ?_
 refine ab ?_
 obtain ⟨v1,hv1,h⟩:=zn h
 refine yx hn 2 ?_
 refine ys 4 ⟨lk call205 (iG _ _ _ hv1)⟩ ?_
 refine aV [4,5] ?_
 refine ak ?_
 obtain rfl:=zi h
 exact al hio rfl (.tmp _ _ (.tmp _ _ .nil)) rfl rfl
theorem iF (s:Mf) (suffix:Mf) (r:Bool) (h:Sh.cm s suffix=some r):bF Tryz.prog 220 [.v (.string s),.v (.string suffix)] (.v (.bool r)):=by
 unfold Sh.cm at h
 refine yO 21 func220 fun g0 hn hio => ?_
 refine aG hn 1 [0,1] ?_
 refine ab ?_
 refine aq h (fun (s3:Bool)=>[(4,vb s3)]) ?_ ?_
 rintro s3 h
 refine ae (ak ?_)
 obtain rfl:=zi h
 exact al hio rfl (.tmp _ _ .nil) rfl rfl
 intro u4 h hl5 hr6
 refine ai h (fun hg1_5 h => ?_) (fun hg1_5 h => ?_)
 obtain ⟨v1,hv1,v2,hv2,h⟩:=dM h
 refine yx hn 6 ?_
 refine yd hg1_5 5 ?_
 refine ys 0 ⟨lb hv1⟩ ?_
 refine yS (vs v2) 4 ⟨cM _ _ _ v1 (s.size:Int) _ underlying9 rfl ⟨_,rfl⟩ rfl hv2⟩ ?_
 refine ye [4] ?_
 exact hl5 _ (zi h).symm
 refine yx hn 6 ?_
 refine yd hg1_5 11 ?_
 refine ye [4] ?_
 exact hl5 _ (zi h).symm
theorem iJ (s:Mf) (suffix:Mf) (r:(Mf×Bool)) (h:Sh.ck s suffix=some r):bF Tryz.prog 206 [.v (.string s),.v (.string suffix)] (.tup [.v (.string r.1),.v (.bool r.2)]):=by
 unfold Sh.ck at h
 refine yO 18 func206 fun g0 hn hio => ?_
 refine aG hn 2 [0,1] ?_
 refine ab (ab ?_)
 obtain ⟨v1,hv1,h⟩:=zn h
 refine yx hn 2 ?_
 refine ys 1 ⟨lk call220 (iF _ _ _ hv1)⟩ ?_
 refine aV [0,1,9] ?_
 refine zc h rfl (fun h => ?_) (fun h => ?_)
 refine aG hn 3 [4,5] ?_
 refine ak (ag ?_)
 obtain rfl:=zi h
 exact al hio rfl (.tmp _ _ (.tmp _ _ .nil)) rfl rfl
 refine am ?_
 refine ae (ab ?_)
 obtain ⟨v3,hv3,v4,hv4,h⟩:=dM h
 refine yx hn 5 ?_
 refine ys 0 ⟨lb hv3⟩ ?_
 refine yS (vs v4) 2 ⟨cM _ _ _ 0 v3 _ underlying9 rfl rfl ⟨_,rfl⟩ hv4⟩ ?_
 refine aV [4,5] ?_
 refine ak ?_
 obtain rfl:=zi h
 exact al hio rfl (.tmp _ _ (.tmp _ _ .nil)) rfl rfl
theorem nG (s:Mf) (suffix:Mf) (r:(Mf×Bool)) (h:Sh.eC s suffix=some r):bF Tryz.prog 185 [.v (.string s),.v (.string suffix)] (.tup [.v (.string r.1),.v (.bool r.2)]):=by
 unfold Sh.eC at h
 refine yO 11 func185 fun g0 hn hio => ?_
 refine aG hn 2 [0,1] ?_
 refine ab ?_
 obtain ⟨v1,hv1,h⟩:=zn h
 refine yx hn 2 ?_
 refine ys 4 ⟨lk call206 (iJ _ _ _ hv1)⟩ ?_
 refine aV [4,5] ?_
 refine ak ?_
 obtain rfl:=zi h
 exact al hio rfl (.tmp _ _ (.tmp _ _ .nil)) rfl rfl
theorem uE (mx:Int×Nat×Value) (s:Mf) (r:(T_Path×Int)) (h:Sh.jl s=some r):iq Tryz.prog (GL mx) 158 [.v (.string s)] (.tup [.agg [.v (.bool r.1.LQ),.v (.string r.1.LM),.v (.string r.1.LA)],.v (.int .i64 r.2)]):=by
 unfold Sh.jl at h
 refine yG 50 func158 fun g0 hn hio => ?_
 refine gH hn 0 ?_
 refine yS (.box 26 [vb false,vs z0,vs z0]) 1 ⟨oA (aT _ _ qk)⟩ ?_
 refine aV [0,50,2] ?_
 refine ab ?_
 refine aG hn 2 [0,50,2,12] ?_
 refine zc h rfl (fun h => ?_) (fun h => ?_)
 refine gH hn 0 ?_
 refine yS (.agg [vb true,vs z0,vs z0]) 2 ⟨bw _ _ _ _ [1,1,1] _ _ underlying26 qk (BY _ underlying26) (.copy _ mb.nil) rfl rfl rfl⟩ ?_
 refine aV [50,2,3] ?_
 refine ak ?_
 refine ah [1,2] (by kernel_rfl) (es':=[(_,_),(_,_)]) rfl ?_
 refine ag ?_
 obtain rfl:=zi h
 exact al hio rfl (.cellA _ _ _ _ underlying26 rfl pD (.tmp _ _ .nil)) rfl rfl
 refine am ?_
 refine ae (ab ?_)
 obtain ⟨v2,hv2,h⟩:=zn h
 refine yx hn 1 ?_
 refine ys 0 ⟨lk call184 (jV _ _ _ hv2)⟩ ?_
 refine ym 4 ?_
 refine aV [50,2,4,5] ?_
 refine ab ?_
 obtain ⟨v3,hv3,h⟩:=zn h
 refine yx hn 1 ?_
 refine ys 0 ⟨lk call185 (nG _ _ _ hv3)⟩ ?_
 refine ym 2 ?_
 refine yw [4] 2 ?_
 refine aV [50,2,5,4,6] ?_
 refine ab ?_
 obtain ⟨v4,hv4,h⟩:=zn h
 refine yx hn 1 ?_
 refine ys 0 ⟨lk call134 (iL _ _ _ hv4)⟩ ?_
 refine ym 6 ?_
 refine aV [50,2,5,6,7,8,9] ?_
 refine gH hn 2 ?_
 refine yS (.agg [vb false,vs v4.1,vs v4.2.1]) 0 ⟨bw _ _ _ _ [1,1,1] _ _ underlying26 qk (BY _ underlying26) (.copy _ (.copy _ mb.nil)) rfl rfl rfl⟩ ?_
 refine yS (.box 26 [vb false,vs z0,vs z0]) 1 ⟨oA (aT _ _ qk)⟩ ?_
 refine aV [50,2,5,6,9,10] ?_
 refine ab (ab ?_)
 refine aq h (fun (s6:Bool)=>[(50,.glob (GL mx)),(2,.box 26 [vb false,vs z0,vs z0]),(10,.box 26 [vb false,vs v4.1,vs v4.2.1]),(47,vb s6)]) ?_ ?_
 rintro s6 h
 refine ae ?_
 refine zc h rfl (fun h => ?_) (fun h => ?_)
 refine gH hn 0 ?_
 refine yS (.agg [vb false,vs z0,vs z0]) 0 ⟨bw _ _ _ _ [1,1,1] _ _ underlying26 qk (BY _ underlying26) mb.nil rfl rfl rfl⟩ ?_
 refine yk [48,2] [] ?_
 refine yt (2,.box 26 [vb false,vs z0,vs z0]) 1 ⟨dt _ _ _ 48 2 3 pD rfl rfl rfl rfl rfl (.eq _ (.eq _ (.eq _ (.nil _)))) rfl⟩ ?_
 refine aV [50,2,3] ?_
 refine ak ?_
 refine ah [1,2] (by kernel_rfl) (es':=[(_,_),(_,_)]) rfl ?_
 refine ag ?_
 obtain rfl:=zi h
 exact al hio rfl (.cellA _ _ _ _ underlying26 rfl pD (.tmp _ _ .nil)) rfl rfl
 refine am (ae ?_)
 refine aG hn 3 [50,2,3] ?_
 refine ak ?_
 refine ah [1,2] (by kernel_rfl) (es':=[(_,_),(_,_)]) rfl ?_
 obtain rfl:=zi h
 exact al hio rfl (.cellA _ _ _ _ underlying26 rfl pD (.tmp _ _ .nil)) rfl rfl
 intro u7 h hl8 hr9
 refine ai h (fun hg7_2 h => ?_) (fun hg7_2 h => ?_)
 refine yx hn 3 ?_
 refine yd hg7_2 12 ?_
 refine ye [50,2,10,47] ?_
 exact hl8 _ (zi h).symm
 refine ai h (fun hg7_6 h => ?_) (fun hg7_6 h => ?_)
 refine yx hn 3 ?_
 refine yd hg7_2 4 ?_
 refine yd hg7_6 8 ?_
 refine ye [50,2,10,47] ?_
 exact hl8 _ (zi h).symm
 refine ai h (fun hg7_10 h => ?_) (fun hg7_10 h => ?_)
 refine yx hn 3 ?_
 refine yd hg7_2 4 ?_
 refine yd hg7_6 4 ?_
 refine yd hg7_10 4 ?_
 refine ye [50,2,10,47] ?_
 exact hl8 _ (zi h).symm
 obtain ⟨v5,hv5,h⟩:=zn h
 refine yx hn 3 ?_
 refine yd hg7_2 4 ?_
 refine yd hg7_6 4 ?_
 refine yd hg7_10 1 ?_
 refine ys 2 ⟨lg call162 (cQ _ _ _ hv5) 50⟩ ?_
 refine ye [50,2,10,47] ?_
 exact hl8 _ (zi h).symm
theorem rR (s:Mf) (r:Int×Unit) (h:Sh.strconv_Atoi s=some r):bF Tryz.prog 139 [.v (.string s)] (.tup [.v (.int .i64 r.1),.v .nilIface]):=rn (fun s n w h1 h2=>Tryz.strconv_Atoi s n h1 h2 w) s r h
end Go.Proofs.YtjnnkhmhjcjhdaaGreatDoor
