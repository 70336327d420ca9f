import Derived.Test.YtjnnkhmhjcjhdaaGreatDoorOkc1
set_option linter.unusedVariables false
set_option linter.unusedSimpArgs false
set_option maxHeartbeats 1000000
namespace Go.Proofs.YtjnnkhmhjcjhdaaGreatDoor
open Go.Abs Go.Abs.Sh Tryz
open List (map flatten)
open Value (int)
theorem nW (b:(List Int)) (r:JH) (h:Sh.eS b=some r):bQ Tryz.prog 54 [.fl .shr 1 (map (int .u8) b)] (.v (.string r)):=by
 unfold Sh.eS at h
 refine yO 42 func54 fun g0 hn hio => ?_
 refine aL hn 1 [0] ?_
 refine aL hn 1 [0,3] ?_
 refine aL hn 1 [0,3,4] ?_
 refine ab ?_
 refine aL hn 1 [0,3,4,5] ?_
 refine aZ h (fun ((s24,s25):JH×Int)=>[(0,fb b),(3,vs (⟨#[48,49,50,51,52,53,54,55,56,57,97,98,99,100,101,102]⟩:JH)),(4,vs s24),(5,vi s25)]) (fun (s27:JH)=>[(4,vs s27)]) ?_ ?_
 ·rintro s27 h
  refine ae ?_
  refine aL hn 2 [2] ?_
  refine ao ?_
  obtain rfl:=zi h
  exact ay hio rfl (.tmp _ _ .nil) rfl rfl
 ·rintro u28 hl29 hr30 ⟨s24,s25⟩ rr33 h ho31
  refine ab ?_
  refine aL hn 4 [0,3,4,5,9] ?_
  refine al _ rfl (fun hb34 => ?_) (fun hb34 => ?_)
  ·have h:=ar hb34 h
   refine au ?_
   refine ae (ab ?_)
   refine aJ ?_
   obtain ⟨v2,hv2,h⟩:=zn h
   obtain ⟨v3,hv3,h⟩:=zn h
   obtain ⟨v4,hv4,h⟩:=zn h
   obtain ⟨v5,hv5,h⟩:=zn h
   obtain ⟨v6,hv6,h⟩:=zn h
   obtain ⟨v7,hv7,h⟩:=zn h
   obtain ⟨v8,hv8,h⟩:=zn h
   obtain ⟨v9,hv9,h⟩:=zn h
   obtain ⟨v10,hv10,h⟩:=zn h
   obtain ⟨v11,hv11,h⟩:=zn h
   obtain ⟨v12,hv12,h⟩:=zn h
   obtain ⟨v13,hv13,h⟩:=zn h
   obtain ⟨v14,hv14,h⟩:=zn h
   obtain ⟨v15,hv15,h⟩:=zn h
   obtain ⟨v16,hv16,h⟩:=zn h
   obtain ⟨v17,hv17,h⟩:=zn h
   obtain ⟨v18,hv18,h⟩:=zn h
   obtain ⟨v19,hv19,h⟩:=zn h
   refine wb [[4],[3],[0],[5]] ?_
   refine wN [14,15] ?_
   refine wo [] ⟨li hv2⟩ ?_
   refine wN [16,14] ?_
   refine wo [] ⟨ll hv3⟩ ?_
   refine wN [17] ?_
   refine wo [[0],[5]] ⟨lB (gF hv4)⟩ ?_
   refine wN [19,20] ?_
   refine wo [] ⟨li hv5⟩ ?_
   refine wN [21,19] ?_
   refine wo [] ⟨ll hv6⟩ ?_
   refine wN [22] ?_
   refine wo [] ⟨lB (gF hv7)⟩ ?_
   refine wN [23] ?_
   refine wo [] ⟨lb hv8⟩ ?_
   refine wN [13,18,24] ?_
   refine wS (vs v9) [] ⟨co _ _ _ v4 v8 _ underlying9 rfl ⟨_,rfl⟩ ⟨_,rfl⟩ hv9⟩ ?_
   refine wN [12,25] ?_
   refine wo [[3],[0],[5]] ⟨lB (cK hv10)⟩ ?_
   refine wN [28,29] ?_
   refine wo [] ⟨li hv11⟩ ?_
   refine wN [30,28] ?_
   refine wo [] ⟨ll hv12⟩ ?_
   refine wN [31] ?_
   refine wo [[0],[5]] ⟨lb hv13⟩ ?_
   refine wN [33,34] ?_
   refine wo [] ⟨li hv14⟩ ?_
   refine wN [35,33] ?_
   refine wo [] ⟨ll hv15⟩ ?_
   refine wN [36] ?_
   refine wo [] ⟨lb hv16⟩ ?_
   refine wN [37] ?_
   refine wo [] ⟨lb hv17⟩ ?_
   refine wN [27,32,38] ?_
   refine wS (vs v18) [] ⟨co _ _ _ v13 v17 _ underlying9 rfl ⟨_,rfl⟩ ⟨_,rfl⟩ hv18⟩ ?_
   refine wN [26,39] ?_
   refine wo [] ⟨lB (cK hv19)⟩ ?_
   refine wK [4] [40] ?_
   refine wt [(4,vs v19)] [] ⟨aU.drop [_] (iL _ _ _ _ rfl rfl)⟩ ?_
   refine we hn [0,3,5,4] ?_
   refine aP (ae ?_)
   obtain ⟨v20,hv20,h⟩:=zn h
   refine yx hn 1 ?_
   refine ys 0 ⟨lb hv20⟩ ?_
   refine yw [5] 1 ?_
   refine ye [0,3,4,5] ?_
   exact bn _ (zi h).symm rfl
  ·have h:=aq hb34 h
   refine bl (az (az (bm ?_)))
   refine ag [2] (by kernel_rfl) (es':=[(_,_)]) rfl ?_
   exact hl29 _ (ho31 _ (zi h).symm).symm
theorem nk (r:JH) (h:Sh.fj  = some r):bQ Tryz.prog 68 [] (.v (.string r)):=by
 unfold Sh.fj at h
 refine yO 1 func68 fun g0 hn hio => ?_
 refine aL hn 1 [] ?_
 refine aL hn 1 [0] ?_
 refine ao ?_
 obtain rfl:=zi h
 exact ay hio rfl (.tmp _ _ .nil) rfl rfl
theorem mi (b:(List Int)) (r:JH) (h:Sh.dK b=some r):bQ Tryz.prog 53 [.fl .shr 1 (map (int .u8) b)] (.v (.string r)):=by
 unfold Sh.dK at h
 refine yO 63 func53 fun g0 hn hio => ?_
 refine aL hn 1 [0] ?_
 refine aL hn 1 [0,3] ?_
 refine ab ?_
 refine aL hn 1 [0,3,4] ?_
 refine aZ h (fun ((s182,s183):JH×Int)=>[(0,fb b),(3,vs s182),(4,vi s183)]) (fun (s263:JH)=>[(3,vs s263)]) ?_ ?_
 ·rintro s263 h
  refine ae ?_
  refine aL hn 2 [2] ?_
  refine ao ?_
  obtain rfl:=zi h
  exact ay hio rfl (.tmp _ _ .nil) rfl rfl
 ·rintro u264 hl265 hr266 ⟨s182,s183⟩ rr269 h ho267
  refine ab ?_
  refine aL hn 4 [0,3,4,13] ?_
  refine al _ rfl (fun hb270 => ?_) (fun hb270 => ?_)
  ·have h:=ar hb270 h
   refine au ?_
   refine ae (ab ?_)
   refine aJ (ab ?_)
   obtain ⟨v2,hv2,h⟩:=zn h
   obtain ⟨v3,hv3,h⟩:=zn h
   refine yx hn 3 ?_
   refine ys 0 ⟨lb hv2⟩ ?_
   refine yS (vi v3) 2 ⟨(Option.some.inj hv3) ▸ sj _ _ _ _ rfl rfl⟩ ?_
   refine ba [0,3,4,5,6] ?_
   refine ab ?_
   refine aL hn 1 [0,3,4,5,6,7] ?_
   refine aZ h (fun ((s287,s288):Int×Int)=>[(0,fb b),(3,vs s182),(4,vi s183),(5,vi s287),(6,vi v3),(7,vi s288)]) (fun (s296:Int)=>[(0,fb b),(3,vs s182),(4,vi s183),(5,vi s296),(6,vi v3)]) ?_ ?_
   ·rintro s296 h
    refine ae ?_
    refine aL hn 1 [0,3,4,5,6,8] ?_
    refine aZ h (fun ((s326,s327):JH×Int)=>[(0,fb b),(3,vs s326),(4,vi s183),(5,vi s296),(6,vi v3),(8,vi s327)]) (fun (s335:JH)=>[(0,fb b),(3,vs s335),(4,vi s183)]) ?_ ?_
    ·rintro s335 h
     refine aP (ae ?_)
     obtain ⟨v100,hv100,h⟩:=zn h
     refine yx hn 1 ?_
     refine ys 0 ⟨lb hv100⟩ ?_
     refine yw [4] 1 ?_
     refine ye [0,3,4] ?_
     exact bn _ (zi h).symm rfl
    ·rintro u336 hl337 hr338 ⟨s326,s327⟩ rr341 h ho339
     refine ab ?_
     refine aL hn 2 [0,3,4,5,6,8,40] ?_
     refine al _ rfl (fun hb342 => ?_) (fun hb342 => ?_)
     ·have h:=ar hb342 h
      refine au ?_
      refine ae (ab ?_)
      refine aC h (fun (s344:JH)=>[(0,fb b),(4,vi s183),(5,vi s296),(6,vi v3),(8,vi s327),(3,vs s344)]) ?_ ?_
      ·rintro s344 h
       refine ae ?_
       obtain ⟨v67,hv67,h⟩:=zn h
       refine yx hn 1 ?_
       refine ys 0 ⟨lb hv67⟩ ?_
       refine yw [8] 1 ?_
       refine ye [0,4,5,6,3,8] ?_
       refine ag [0,4,1,2,3,5] (by kernel_rfl) (es':=[(_,_),(_,_),(_,_),(_,_),(_,_),(_,_)]) rfl ?_
       exact bn _ (zi h).symm rfl
      ·intro u345 h hl346 hr347
       refine aJ ?_
       refine aL hn 3 [0,3,4,5,6,8,45] ?_
       refine al _ rfl (fun hb348 => ?_) (fun hb348 => ?_)
       ·have h:=ar hb348 h
        refine ab ?_
        obtain ⟨v52,hv52,h⟩:=zn h
        obtain ⟨v53,hv53,h⟩:=zn h
        obtain ⟨v54,hv54,h⟩:=zn h
        obtain ⟨v55,hv55,h⟩:=zn h
        obtain ⟨v56,hv56,h⟩:=zn h
        refine yx hn 2 ?_
        refine ys 0 ⟨lb hv52⟩ ?_
        refine ys 0 ⟨lb hv53⟩ ?_
        refine ys 0 ⟨lv hv54⟩ ?_
        refine ys 0 ⟨lB (gF hv55)⟩ ?_
        refine ys 1 ⟨lb hv56⟩ ?_
        refine ba [0,3,4,5,6,8,9] ?_
        obtain ⟨v57,hv57,h⟩:=zn h
        obtain ⟨v58,hv58,h⟩:=zn h
        obtain ⟨v59,hv59,h⟩:=zn h
        obtain ⟨v60,hv60,h⟩:=zn h
        refine yx hn 1 ?_
        refine ys 2 ⟨lk call68 (nk _ hv57)⟩ ?_
        refine ys 0 ⟨lb hv58⟩ ?_
        refine yS (vs v59) 0 ⟨co _ _ _ v56 v58 _ underlying9 rfl ⟨_,rfl⟩ ⟨_,rfl⟩ hv59⟩ ?_
        refine ys 0 ⟨lB (cK hv60)⟩ ?_
        refine yw [3] 1 ?_
        refine ye [0,4,5,6,8,3] ?_
        refine aP ?_
        exact hl346 _ (zi h).symm
       ·have h:=aq hb348 h
        obtain ⟨v61,hv61,h⟩:=zn h
        refine yx hn 1 ?_
        refine ys 0 ⟨lB (cK hv61)⟩ ?_
        refine yw [3] 1 ?_
        refine ye [0,4,5,6,8,3] ?_
        refine aP ?_
        exact hl346 _ (zi h).symm
     ·have h:=aq hb342 h
      refine bl (az (az (bm ?_)))
      refine ag [0,1,2] (by kernel_rfl) (es':=[(_,_),(_,_),(_,_)]) rfl ?_
      exact hl337 _ (ho339 _ (zi h).symm).symm
   ·rintro u297 hl298 hr299 ⟨s287,s288⟩ rr302 h ho300
    refine ab ?_
    refine aL hn 2 [0,3,4,5,6,7,22] ?_
    refine al _ rfl (fun hb303 => ?_) (fun hb303 => ?_)
    ·have h:=ar hb303 h
     refine au ?_
     refine ae (ab ?_)
     refine aC h (fun (s305:Int)=>[(0,fb b),(3,vs s182),(4,vi s183),(6,vi v3),(7,vi s288),(5,vi s305)]) ?_ ?_
     ·rintro s305 h
      refine ae ?_
      obtain ⟨v17,hv17,h⟩:=zn h
      refine yx hn 1 ?_
      refine ys 0 ⟨lb hv17⟩ ?_
      refine yw [7] 1 ?_
      refine ye [0,3,4,6,5,7] ?_
      refine ag [0,1,2,4,3,5] (by kernel_rfl) (es':=[(_,_),(_,_),(_,_),(_,_),(_,_),(_,_)]) rfl ?_
      exact bn _ (zi h).symm rfl
     ·intro u306 h hl307 hr308
      refine aJ (ab ?_)
      obtain ⟨v5,hv5,h⟩:=zn h
      refine yx hn 1 ?_
      refine ys 0 ⟨lB (jK hv5)⟩ ?_
      refine yw [5] 1 ?_
      refine ba [0,3,4,6,7,5] ?_
      refine aL hn 3 [0,3,4,6,7,5,29] ?_
      refine al _ rfl (fun hb309 => ?_) (fun hb309 => ?_)
      ·have h:=ar hb309 h
       obtain ⟨v7,hv7,h⟩:=zn h
       obtain ⟨v8,hv8,h⟩:=zn h
       obtain ⟨v9,hv9,h⟩:=zn h
       obtain ⟨v10,hv10,h⟩:=zn h
       obtain ⟨v11,hv11,h⟩:=zn h
       refine yx hn 4 ?_
       refine ys 0 ⟨lb hv7⟩ ?_
       refine ys 0 ⟨li hv8⟩ ?_
       refine ys 0 ⟨ll hv9⟩ ?_
       refine ys 0 ⟨lv hv10⟩ ?_
       refine ys 0 ⟨lb hv11⟩ ?_
       refine yw [5] 1 ?_
       refine ye [0,3,4,6,7,5] ?_
       refine aP ?_
       exact hl307 _ (zi h).symm
      ·have h:=aq hb309 h
       refine au (aP ?_)
       refine ag [0,1,2,3,4,5] (by kernel_rfl) (es':=[(_,_),(_,_),(_,_),(_,_),(_,_),(_,_)]) rfl ?_
       exact hl307 _ (zi h).symm
    ·have h:=aq hb303 h
     refine bl (az (az (bm ?_)))
     refine ag [0,1,2,3,4] (by kernel_rfl) (es':=[(_,_),(_,_),(_,_),(_,_),(_,_)]) rfl ?_
     exact hl298 _ (ho300 _ (zi h).symm).symm
  ·have h:=aq hb270 h
   refine bl (az (az (bm ?_)))
   refine ag [1] (by kernel_rfl) (es':=[(_,_)]) rfl ?_
   exact hl265 _ (ho267 _ (zi h).symm).symm
theorem mh (user:JH) (secret:JH) (challenge:JH) (r:JH) (h:Sh.dc user secret challenge=some r):bQ Tryz.prog 29 [.v (.string user),.v (.string secret),.v (.string challenge)] (.v (.string r)):=by
 unfold Sh.dc at h
 refine yO 20 func29 fun g0 hn hio => ?_
 refine aL hn 1 [0,1,2] ?_
 refine ab ?_
 obtain ⟨v1,hv1,h⟩:=zn h
 obtain ⟨v2,hv2,h⟩:=zn h
 obtain ⟨v3,hv3,h⟩:=zn h
 obtain ⟨v4,hv4,h⟩:=zn h
 obtain ⟨v5,hv5,h⟩:=zn h
 refine yx hn 1 ?_
 refine ys 1 ⟨lT hv1⟩ ?_
 refine ys 0 ⟨lT hv2⟩ ?_
 refine ys 0 ⟨lk call52 (mP _ _ _ hv3)⟩ ?_
 refine yS (.arr 91 (map (int .u8) ((List.replicate 16 (0:Int))))) 0 ⟨oA (bE _ qT)⟩ ?_
 refine yk [7] [12] ?_
 refine yt (7,.arr 91 (map (int .u8) v3)) 0 ⟨bH _ _ _ _ (nH.trans (congrArg some (bh hv5))) rfl rfl (cX (fun _=>rfl) _) ((bh (f:=int .u8) hv4).symm.trans (bh (f:=int .u8) hv5))⟩ ?_
 refine ba [0,7] ?_
 refine ab ?_
 obtain ⟨v6,hv6,h⟩:=zn h
 obtain ⟨v7,hv7,h⟩:=zn h
 obtain ⟨v8,hv8,h⟩:=zn h
 obtain ⟨v9,hv9,h⟩:=zn h
 obtain ⟨v10,hv10,h⟩:=zn h
 obtain ⟨v11,hv11,h⟩:=zn h
 refine yx hn 1 ?_
 refine ys 0 ⟨lB (cK hv6)⟩ ?_
 refine yk [7] [] ?_
 refine mo (7,.any) (15,.fl .ro 1 (map (int .u8) v3)) 0 ⟨fM _ _ 7 16 _ underlying91 jx rfl (bh hv7).symm (cX (fun _=>rfl) _)⟩ ?_
 refine ys 0 ⟨lk call54 (nW _ _ hv8)⟩ ?_
 refine ys 0 ⟨lB (cK hv9)⟩ ?_
 refine ys 0 ⟨lT hv10⟩ ?_
 refine ys 1 ⟨lk call53 (mi _ _ hv11)⟩ ?_
 refine ba [6] ?_
 refine ao ?_
 obtain rfl:=zi h
 exact ay hio rfl (.tmp _ _ .nil) rfl rfl
theorem dv (r:aH) (h:Sh.da  = some r):bQ Tryz.prog 20 [] (.agg [.v (.string ((r.Jg.getD 0 (⟨#[]⟩:JH)))),.v (.string ((r.Jg.getD 1 (⟨#[]⟩:JH)))),.v (.int .i64 r.Jh),.v (.string r.JF),.v (.string r.JD),.v (.int .i64 r.Jr),.v (.bool r.Jl)]):=by
 unfold Sh.da at h
 refine yO 3 func20 fun g0 hn hio => ?_
 refine fu hn 0 ?_
 refine yS (.box 24 [vs z0,vs z0,vi 0,vs z0,vs z0,vi 0,vb false]) 0 ⟨oA (bj _ _ FZ)⟩ ?_
 refine ba [0] ?_
 refine fu hn 0 ?_
 refine yS (.agg [vs (⟨#[97]⟩:JH),vs (⟨#[98]⟩:JH)]) 0 ⟨tl _ _ (.agg #[.string ByteArray.empty,.string ByteArray.empty]) (map Value.string (([(⟨#[97]⟩:JH),(⟨#[98]⟩:JH)]:List JH))) [(0,.string (⟨#[97]⟩:JH)),(1,.string (⟨#[98]⟩:JH))] underlying22 tb HX (fun _ V w o a hv hes=>by simp only [List.map_toArray,List.map_cons,List.map_nil]; try rfl) (cd (by simp [Instr.fill,Value.cells]; rfl) (by simp)) rfl⟩ ?_
 refine yS (.agg [vs (⟨#[97]⟩:JH),vs (⟨#[98]⟩:JH),vi 9,vs (⟨#[117]⟩:JH),vs (⟨#[115]⟩:JH),vi 9000,vb false]) 1 ⟨bI _ _ _ _ [2,1,1,1,1,1] _ _ underlying24 FZ (Hp _ underlying24) (.copy _ (.copy _ (.copy _ (.copy _ (.copy _ mn.nil))))) rfl rfl rfl⟩ ?_
 refine ba [0] ?_
 refine ao ?_
 obtain rfl:=zi h
 exact ay hio rfl (.cellA _ _ _ _ underlying24 rfl FU .nil) rfl rfl
theorem mz (challenge:JH) (r:aI) (h:Sh.na challenge=some r):bQ Tryz.prog 22 [.v (.string challenge)] (.agg [.v (.int .i64 r.Jz),.v (.string r.Jm),.v (.bool r.Ji.Ju),.v (.string r.Ji.Jq),.v (.string r.Ji.Jf),.fl (.own 26) 3 (flatten (map ah.enc r.To)),.v (.bool r.JB),.fl (.own 5) 1 (map (int .u8) r.Jc),.v (.string r.Jd),.v (.bool r.JA)]):=by
 unfold Sh.na at h
 refine yO 5 func22 fun g0 hn hio => ?_
 refine fu hn 0 ?_
 refine yS (.box 30 [vi 0,vs z0,vb false,vs z0,vs z0,vz,vb false,vz,vs z0,vb false]) 0 ⟨oA (bj _ _ uK)⟩ ?_
 refine ba [0,2] ?_
 refine fu hn 1 ?_
 refine yS (.agg [vi 0,vs z0,vb false,vs z0,vs z0,vz,vb false,vz,vs challenge,vb false]) 1 ⟨bI _ _ _ _ [1,1,3,1,1,1,1,1] _ _ underlying30 uK (EN _ underlying30) (.copy _ (.copy _ mn.nil)) rfl rfl rfl⟩ ?_
 refine ba [2] ?_
 refine ao ?_
 refine cu (fs:=[(2,.box 30 [vi 0,vs z0,vb false,vs z0,vs z0,.fl (.own 26) 3 (flatten (map ah.enc [])),vb false,.fl (.own 5) 1 (map (int .u8) []),vs challenge,vb false])]) (.box _ _ (af (aj _) (af (aj _) (af (aj _) (af (aj _) (af (aj _) (af (bO 26 3) (af (aj _) (af (bO 5 1) (af (aj _) (af (aj _) (bG))))))))))) rfl .nil) ?_
 obtain rfl:=zi h
 exact ay hio rfl (.cellA _ _ _ _ underlying30 rfl rV .nil) rfl rfl
theorem nJ (s:JH) (sep:JH) (sepSave:Int) (r:(JH×JH×Int)) (h:Sh.iN s sep sepSave=some r):bQ Tryz.prog 93 [.v (.string s),.v (.string sep),.v (.int .i64 sepSave)] (.cloB 119 [.box 9 [.v (.string r.1)],.box 9 [.v (.string r.2.1)],.box 3 [.v (.int .i64 r.2.2)]]):=by
 unfold Sh.iN at h
 refine yO 8 func93 fun g0 hn hio => ?_
 refine aL hn 4 [3,4,5] ?_
 refine fu hn 0 ?_
 refine yk [4,3,5] [] ?_
 refine yt (7,.cloB 119 [.box 9 [vs sep],.box 9 [vs s],.box 3 [vi sepSave]]) 0 ⟨wh _ _ [4,3,5] [.box 9 [vs sep],.box 9 [vs s],.box 3 [vi sepSave]] rfl rfl rfl⟩ ?_
 refine ya 0 ?_
 refine ba [6] ?_
 refine ao ?_
 obtain rfl:=zi h
 exact ay hio rfl (.tmp _ _ .nil) rfl rfl
theorem fU (s:JH) (sep:JH) (r:(JH×JH×Int)) (h:Sh.dI s sep=some r):bQ Tryz.prog 80 [.v (.string s),.v (.string sep)] (.cloB 119 [.box 9 [.v (.string r.1)],.box 9 [.v (.string r.2.1)],.box 3 [.v (.int .i64 r.2.2)]]):=by
 unfold Sh.dI at h
 refine yO 8 func80 fun g0 hn hio => ?_
 refine aL hn 1 [0,1] ?_
 refine ab ?_
 obtain ⟨v1,hv1,h⟩:=zn h
 refine yx hn 2 ?_
 refine yk [] [5,6] ?_
 refine yt (7,.cloB 119 [.box 9 [vs v1.1],.box 9 [vs v1.2.1],.box 3 [vi v1.2.2]]) 0 ⟨gh _ _ 93 _ _ rfl call93 rfl rfl (nJ s sep 0 _ hv1) rfl⟩ ?_
 refine ya 0 ?_
 refine ba [4] ?_
 refine ao ?_
 obtain rfl:=zi h
 exact ay hio rfl (.tmp _ _ .nil) rfl rfl
theorem fG (mx:Int×Nat×Value) (s:JH) (r:(Int×Int)) (h:Sh.cq s=some r):gW Tryz.prog (GL mx) 142 [.v (.string s)] (.tup [.v (.int .i32 r.1),.v (.int .i64 r.2)]):=by
 unfold Sh.cq at h
 refine yG 117 func142 fun g0 hn hio => ?_
 refine aL hn 2 [0,117] ?_
 refine aL hn 3 [0,117,4] ?_
 refine ab ?_
 refine aL hn 2 [0,117,4,16] ?_
 refine al _ rfl (fun hb1 => ?_) (fun hb1 => ?_)
 ·have h:=ar hb1 h
  refine aL hn 2 [117,2,3] ?_
  refine ao ?_
  refine ag [1,2] (by kernel_rfl) (es':=[(_,_),(_,_)]) rfl ?_
  refine ai ?_
  obtain rfl:=zi h
  exact ay hio rfl (.tmp _ _ (.tmp _ _ .nil)) rfl rfl
 ·have h:=aq hb1 h
  refine au ?_
  refine ae (ab ?_)
  obtain ⟨v2,hv2,h⟩:=zn h
  refine yx hn 1 ?_
  refine ys 1 ⟨lh hv2⟩ ?_
  refine ba [0,117,4,5] ?_
  refine ab ?_
  obtain ⟨v3,hv3,h⟩:=zn h
  obtain ⟨v4,hv4,h⟩:=zn h
  refine yx hn 1 ?_
  refine yS (.v (.pointer (some ⟨1,(0+v3 * 1),none⟩))) 0 ⟨mF _ _ _ _ 256 1 0 _ 1 _ underlying184 jx rfl rfl (bz hv3).1 (bz hv3).2⟩ ?_
  refine yS (.v (.int .u8 v4)) 1 ⟨kZ _ _ 117 1 _ _ _ underlying5 rfl rfl rfl (zA mx) (cY hv4)⟩ ?_
  refine ba [0,117,4,5,6] ?_
  refine ab ?_
  refine aL hn 2 [0,117,4,5,6,23] ?_
  refine al _ rfl (fun hb5 => ?_) (fun hb5 => ?_)
  ·have h:=ar hb5 h
   refine ab ?_
   obtain ⟨v6,hv6,h⟩:=zn h
   obtain ⟨v7,hv7,h⟩:=zn h
   obtain ⟨v8,hv8,h⟩:=zn h
   refine yx hn 1 ?_
   refine ys 0 ⟨lv hv6⟩ ?_
   refine ys 0 ⟨lB (jK hv7)⟩ ?_
   refine ys 1 ⟨lB (gF hv8)⟩ ?_
   refine ba [0,117,7] ?_
   refine ab ?_
   obtain ⟨v9,hv9,h⟩:=zn h
   obtain ⟨v10,hv10,h⟩:=zn h
   obtain ⟨v11,hv11,h⟩:=zn h
   obtain ⟨v12,hv12,h⟩:=zn h
   obtain ⟨v13,hv13,h⟩:=zn h
   refine yx hn 1 ?_
   refine ys 0 ⟨lh hv9⟩ ?_
   refine ys 1 ⟨lv hv10⟩ ?_
   refine ys 1 ⟨lb hv11⟩ ?_
   refine ys 0 ⟨lb hv12⟩ ?_
   refine ys 2 ⟨lb hv13⟩ ?_
   refine ba [117,2,3] ?_
   refine ao ?_
   refine ag [1,2] (by kernel_rfl) (es':=[(_,_),(_,_)]) rfl ?_
   refine ai ?_
   obtain rfl:=zi h
   exact ay hio rfl (.tmp _ _ (.tmp _ _ .nil)) rfl rfl
  ·have h:=aq hb5 h
   cases h
theorem gG (mx:Int×Nat×Value) (s:JH) (r:(Int×Int)) (h:Sh.cU s=some r):gW Tryz.prog (GL mx) 120 [.v (.string s)] (.tup [.v (.int .i32 r.1),.v (.int .i64 r.2)]):=by
 unfold Sh.cU at h
 refine yG 19 func120 fun g0 hn hio => ?_
 refine aL hn 2 [0,19] ?_
 refine ab (ab ?_)
 refine aC h (fun (s2:Bool)=>[(0,vs s),(19,.glob (GL mx)),(10,vb s2)]) ?_ ?_
 ·rintro s2 h
  refine ae ?_
  refine al _ rfl (fun hb6 => ?_) (fun hb6 => ?_)
  ·have h:=ar hb6 h
   refine ab ?_
   obtain ⟨v7,hv7,h⟩:=zn h
   obtain ⟨v8,hv8,h⟩:=zn h
   refine yx hn 1 ?_
   refine ys 0 ⟨lh hv7⟩ ?_
   refine ys 2 ⟨lv hv8⟩ ?_
   refine ba [19,2,3] ?_
   refine ao ?_
   refine ag [1,2] (by kernel_rfl) (es':=[(_,_),(_,_)]) rfl ?_
   refine ai ?_
   obtain rfl:=zi h
   exact ay hio rfl (.tmp _ _ (.tmp _ _ .nil)) rfl rfl
  ·have h:=aq hb6 h
   obtain ⟨v9,hv9,h⟩:=zn h
   refine yx hn 1 ?_
   refine ys 0 ⟨lg call142 (fG _ _ _ hv9) 19⟩ ?_
   refine ym 4 ?_
   refine ba [19,2,3] ?_
   refine ao ?_
   refine ag [1,2] (by kernel_rfl) (es':=[(_,_),(_,_)]) rfl ?_
   obtain rfl:=zi h
   exact ay hio rfl (.tmp _ _ (.tmp _ _ .nil)) rfl rfl
 ·intro u3 h hl4 hr5
  refine am h (fun hg1_2 h => ?_) (fun hg1_2 h => ?_)
  ·obtain ⟨v1,hv1,h⟩:=zn h
   refine yx hn 3 ?_
   refine yd hg1_2 1 ?_
   refine ys 2 ⟨lh hv1⟩ ?_
   refine ye [0,19,10] ?_
   exact hl4 _ (zi h).symm
  ·refine yx hn 3 ?_
   refine yd hg1_2 4 ?_
   refine ye [0,19,10] ?_
   exact hl4 _ (zi h).symm
theorem kT (s sub:JH) (r:Int) (h:Sh.cG s sub=some r):bQ Tryz.prog 121 [.v (.string s),.v (.string sub)] (.v (.int .i64 r)):=kn Tryz.strings_Index_one s sub r h
theorem fa (mx:Int×Nat×Value) (l:Nat) {S:Type} (J:S→kI) (Y:JH→S→Option (S×Bool)) (hY:pt Tryz.prog l (fun x => .v (.string x)) Y J) (c0:JH) (c1:JH) (c2:Int) (st r:S) (h:Sh.bV Y c0 c1 c2 st=some r):Gg Tryz.prog (GL mx) 119 l [.box 9 [.v (.string c0)],.box 9 [.v (.string c1)],.box 3 [.v (.int .i64 c2)]] (J st) (J r):=by
 unfold Sh.bV at h
 refine yI 52 func119 fun g0 hn hio => ?_
 refine ab ?_
 refine aL hn 3 [0,1,2,3,52,53,11] ?_
 refine al _ rfl (fun hb1 => ?_) (fun hb1 => ?_)
 ·have h:=ar hb1 h
  refine ab ?_
  refine iW [0,2,4,5] (by kernel_rfl) (es':=[(_,_),(_,_),(_,_),(_,_)]) rfl ?_
  refine aZ h (fun ((s12,s13):JH×S)=>[(0,.v (.func (.yield l) #[] #[])),(2,.box 9 [vs s12]),(52,.glob (GL mx)),(53,.inv (J s13))]) (fun (s16:S)=>[(52,.glob (GL mx)),(53,.inv (J s16))]) ?_ ?_
  ·rintro s16 h
   refine ae (ao ?_)
   refine ag [1] (by kernel_rfl) (es':=[(53,.inv (J s16))]) rfl ?_
   refine ai ?_
   obtain rfl:=zi h
   exact rp hio rfl rfl rfl
  ·rintro u17 hl18 hr19 ⟨s12,s13⟩ rr22 h ho20
   refine ab ?_
   refine aL hn 3 [0,2,52,53,14] ?_
   refine al _ rfl (fun hb23 => ?_) (fun hb23 => ?_)
   ·have h:=ar hb23 h
    refine au (ae (aJ (ab ?_)))
    obtain ⟨v3,hv3,h⟩:=zn h
    refine yx hn 1 ?_
    refine ys 0 ⟨lg call120 (gG _ _ _ hv3) 52⟩ ?_
    refine ym 4 ?_
    refine ba [0,2,52,53,6] ?_
    refine ab (ab ?_)
    obtain ⟨v4,hv4,h⟩:=zn h
    obtain ⟨v5,hv5,h⟩:=zn h
    refine yx hn 3 ?_
    refine yS (vs v4) 0 ⟨co _ _ _ 0 v3.2 _ underlying9 rfl rfl ⟨_,rfl⟩ hv4⟩ ?_
    refine yk [53] [23,20] ?_
    refine mo (53,.inv (J v5.1)) (24,vb v5.2) 1 ⟨pQ _ _ 53 l v4 s13 v5 hY hv5 rfl rfl rfl⟩ ?_
    refine ba [0,2,52,53,6,25] ?_
    refine al _ rfl (fun hb24 => ?_) (fun hb24 => ?_)
    ·have h:=ar hb24 h
     refine ao ?_
     refine ag [3] (by kernel_rfl) (es':=[(53,.inv (J v5.1))]) rfl ?_
     refine ai (aR (ai (aR (ai (ai ?_)))))
     have h:=hr19 _ (ho20 _ (zi h).symm).symm
     obtain rfl:=zi h
     exact rp hio rfl rfl rfl
    ·have h:=aq hb24 h
     refine au (ae ?_)
     obtain ⟨v7,hv7,h⟩:=zn h
     refine yx hn 2 ?_
     refine yS (vs v7) 1 ⟨co _ _ _ v3.2 (s12.size:Int) _ underlying9 rfl ⟨_,rfl⟩ rfl hv7⟩ ?_
     refine ye [0,2,52,53] ?_
     refine aP ?_
     exact bn _ (zi h).symm rfl
   ·have h:=aq hb23 h
    refine bl (az (az (bm ?_)))
    refine ag [2,3] (by kernel_rfl) (es':=[(_,_),(_,_)]) rfl ?_
    exact hl18 _ (ho20 _ (zi h).symm).symm
 ·have h:=aq hb1 h
  refine au ?_
  refine ae (ab ?_)
  refine iW [0,1,2,3,4,5] (by kernel_rfl) (es':=[(_,_),(_,_),(_,_),(_,_),(_,_),(_,_)]) rfl ?_
  refine aZ h (fun ((s37,s38):JH×S)=>[(0,.v (.func (.yield l) #[] #[])),(1,.box 9 [vs c0]),(2,.box 9 [vs s37]),(3,.box 3 [vi c2]),(52,.glob (GL mx)),(53,.inv (J s38))]) (fun ((s41,s42):JH×S)=>[(0,.v (.func (.yield l) #[] #[])),(2,.box 9 [vs s41]),(52,.glob (GL mx)),(53,.inv (J s42))]) ?_ ?_
  ·rintro ⟨s41,s42⟩ h
   refine ae ?_
   obtain ⟨v51,hv51,h⟩:=zn h
   refine yx hn 2 ?_
   refine yk [53] [50,49] ?_
   refine mo (53,.inv (J v51.1)) (51,vb v51.2) 0 ⟨pQ _ _ 53 l s41 s42 v51 hY hv51 rfl rfl rfl⟩ ?_
   refine ye [52,53] ?_
   refine ag [1] (by kernel_rfl) (es':=[(53,.inv (J v51.1))]) rfl ?_
   obtain rfl:=zi h
   exact CZ hio rfl rfl rfl
  ·rintro u43 hl44 hr45 ⟨s37,s38⟩ rr48 h ho46
   refine aJ (ab ?_)
   obtain ⟨v25,hv25,h⟩:=zn h
   refine yx hn 2 ?_
   refine ys 1 ⟨lk call121 (kT _ _ _ hv25)⟩ ?_
   refine ba [0,1,2,3,52,53,7] ?_
   refine ab ?_
   refine aL hn 2 [0,1,2,3,52,53,7,33] ?_
   refine al _ rfl (fun hb49 => ?_) (fun hb49 => ?_)
   ·have h:=ar hb49 h
    refine bl (az ?_)
    refine wP (by decide) ?_
    refine az (bm ?_)
    refine ag [0,2,4,5] (by kernel_rfl) (es':=[(_,_),(_,_),(_,_),(_,_)]) rfl ?_
    exact hl44 _ (ho46 _ (zi h).symm).symm
   ·have h:=aq hb49 h
    refine au ?_
    refine ae (ab ?_)
    obtain ⟨v27,hv27,h⟩:=zn h
    obtain ⟨v28,hv28,h⟩:=zn h
    refine yx hn 3 ?_
    refine ys 0 ⟨lb hv27⟩ ?_
    refine yS (vs v28) 1 ⟨co _ _ _ 0 v27 _ underlying9 rfl rfl ⟨_,rfl⟩ hv28⟩ ?_
    refine ba [0,1,2,3,52,53,7,8] ?_
    refine ab (ab ?_)
    obtain ⟨v29,hv29,h⟩:=zn h
    refine yx hn 2 ?_
    refine yk [53] [40,39] ?_
    refine mo (53,.inv (J v29.1)) (41,vb v29.2) 1 ⟨pQ _ _ 53 l v28 s38 v29 hY hv29 rfl rfl rfl⟩ ?_
    refine ba [0,1,2,3,52,53,7,42] ?_
    refine al _ rfl (fun hb50 => ?_) (fun hb50 => ?_)
    ·have h:=ar hb50 h
     refine ao ?_
     refine ag [5] (by kernel_rfl) (es':=[(53,.inv (J v29.1))]) rfl ?_
     refine ai (aR (ai (aR (ai ?_))))
     have h:=hr45 _ (ho46 _ (zi h).symm).symm
     obtain rfl:=zi h
     exact rp hio rfl rfl rfl
    ·have h:=aq hb50 h
     refine au (ae ?_)
     obtain ⟨v31,hv31,h⟩:=zn h
     obtain ⟨v32,hv32,h⟩:=zn h
     refine yx hn 4 ?_
     refine ys 0 ⟨lb hv31⟩ ?_
     refine yS (vs v32) 1 ⟨co _ _ _ v31 (s37.size:Int) _ underlying9 rfl ⟨_,rfl⟩ rfl hv32⟩ ?_
     refine ye [0,1,2,3,52,53] ?_
     refine aP ?_
     exact bn _ (zi h).symm rfl
theorem dW (c:Int) (r:Bool) (h:Sh.fi c=some r):bQ Tryz.prog 83 [.v (.int .u8 c)] (.v (.bool r)):=by
 unfold Sh.fi at h
 refine yO 25 func83 fun g0 hn hio => ?_
 refine aL hn 1 [0] ?_
 refine ab ?_
 refine aC h (fun (s1:Bool)=>[(2,vb s1)]) ?_ ?_
 ·rintro s1 h
  refine ae (ao ?_)
  obtain rfl:=zi h
  exact ay hio rfl (.tmp _ _ .nil) rfl rfl
 ·intro u2 h hl3 hr4
  refine am h (fun hg1_2 h => ?_) (fun hg1_2 h => ?_)
  ·refine am h (fun hg1_6 h => ?_) (fun hg1_6 h => ?_)
   ·refine yx hn 3 ?_
    refine yd hg1_2 4 ?_
    refine yd hg1_6 16 ?_
    refine ye [2] ?_
    exact hl3 _ (zi h).symm
   ·refine am h (fun hg1_9 h => ?_) (fun hg1_9 h => ?_)
    ·refine am h (fun hg1_14 h => ?_) (fun hg1_14 h => ?_)
     ·refine yx hn 3 ?_
      refine yd hg1_2 4 ?_
      refine yd hg1_6 3 ?_
      refine yd hg1_9 5 ?_
      refine yd hg1_14 8 ?_
      refine ye [2] ?_
      exact hl3 _ (zi h).symm
     ·refine am h (fun hg1_17 h => ?_) (fun hg1_17 h => ?_)
      ·refine yx hn 3 ?_
       refine yd hg1_2 4 ?_
       refine yd hg1_6 3 ?_
       refine yd hg1_9 5 ?_
       refine yd hg1_14 3 ?_
       refine yd hg1_17 5 ?_
       refine ye [2] ?_
       exact hl3 _ (zi h).symm
      ·refine yx hn 3 ?_
       refine yd hg1_2 4 ?_
       refine yd hg1_6 3 ?_
       refine yd hg1_9 5 ?_
       refine yd hg1_14 3 ?_
       refine yd hg1_17 5 ?_
       refine ye [2] ?_
       exact hl3 _ (zi h).symm
    ·refine am h (fun hg1_17 h => ?_) (fun hg1_17 h => ?_)
     ·refine yx hn 3 ?_
      refine yd hg1_2 4 ?_
      refine yd hg1_6 3 ?_
      refine yd hg1_9 8 ?_
      refine yd hg1_17 5 ?_
      refine ye [2] ?_
      exact hl3 _ (zi h).symm
     ·refine yx hn 3 ?_
      refine yd hg1_2 4 ?_
      refine yd hg1_6 3 ?_
      refine yd hg1_9 8 ?_
      refine yd hg1_17 5 ?_
      refine ye [2] ?_
      exact hl3 _ (zi h).symm
  ·refine am h (fun hg1_9 h => ?_) (fun hg1_9 h => ?_)
   ·refine am h (fun hg1_14 h => ?_) (fun hg1_14 h => ?_)
    ·refine yx hn 3 ?_
     refine yd hg1_2 7 ?_
     refine yd hg1_9 5 ?_
     refine yd hg1_14 8 ?_
     refine ye [2] ?_
     exact hl3 _ (zi h).symm
    ·refine am h (fun hg1_17 h => ?_) (fun hg1_17 h => ?_)
     ·refine yx hn 3 ?_
      refine yd hg1_2 7 ?_
      refine yd hg1_9 5 ?_
      refine yd hg1_14 3 ?_
      refine yd hg1_17 5 ?_
      refine ye [2] ?_
      exact hl3 _ (zi h).symm
     ·refine yx hn 3 ?_
      refine yd hg1_2 7 ?_
      refine yd hg1_9 5 ?_
      refine yd hg1_14 3 ?_
      refine yd hg1_17 5 ?_
      refine ye [2] ?_
      exact hl3 _ (zi h).symm
   ·refine am h (fun hg1_17 h => ?_) (fun hg1_17 h => ?_)
    ·refine yx hn 3 ?_
     refine yd hg1_2 7 ?_
     refine yd hg1_9 8 ?_
     refine yd hg1_17 5 ?_
     refine ye [2] ?_
     exact hl3 _ (zi h).symm
    ·refine yx hn 3 ?_
     refine yd hg1_2 7 ?_
     refine yd hg1_9 8 ?_
     refine yd hg1_17 5 ?_
     refine ye [2] ?_
     exact hl3 _ (zi h).symm
theorem rj (c:Int) (r:Bool) (h:Sh.fO c=some r):bQ Tryz.prog 82 [.v (.int .u8 c)] (.v (.bool r)):=by
 unfold Sh.fO at h
 refine yO 9 func82 fun g0 hn hio => ?_
 refine aL hn 1 [0] ?_
 refine ab ?_
 refine aC h (fun (s2:Bool)=>[(2,vb s2)]) ?_ ?_
 ·rintro s2 h
  refine ae (ao ?_)
  obtain rfl:=zi h
  exact ay hio rfl (.tmp _ _ .nil) rfl rfl
 ·intro u3 h hl4 hr5
  obtain ⟨v1,hv1,h⟩:=zn h
  refine am h (fun hg1_2 h => ?_) (fun hg1_2 h => ?_)
  ·refine yx hn 1 ?_
   refine ys 1 ⟨lk call83 (dW _ _ hv1)⟩ ?_
   refine yd hg1_2 4 ?_
   refine ye [2] ?_
   exact hl4 _ (zi h).symm
  ·refine yx hn 1 ?_
   refine ys 1 ⟨lk call83 (dW _ _ hv1)⟩ ?_
   refine yd hg1_2 4 ?_
   refine ye [2] ?_
   exact hl4 _ (zi h).symm
theorem jE (s:JH) (r:Bool) (h:Sh.er s=some r):bQ Tryz.prog 81 [.v (.string s),.v (.func (.func 82) #[] #[])] (.v (.bool r)):=by
 unfold Sh.er at h
 refine yO 18 func81 fun g0 hn hio => ?_
 refine aL hn 1 [0,1] ?_
 refine ab ?_
 refine aL hn 3 [0,1,7,8] ?_
 refine aZ h (fun (s9:Int)=>[(0,vs s),(1,.v (.func (.func 82) #[] #[])),(7,vi (s.size:Int)),(8,vi s9)]) (fun (():Unit)=>[]) ?_ ?_
 ·rintro ⟨⟩ h
  refine ae ?_
  refine aL hn 1 [4] ?_
  refine ao ?_
  obtain rfl:=zi h
  exact ay hio rfl (.tmp _ _ .nil) rfl rfl
 ·rintro u12 hl13 hr14 s9 rr17 h ho15
  refine aL hn 1 [0,1,7,8,9] ?_
  refine ab ?_
  refine al _ rfl (fun hb18 => ?_) (fun hb18 => ?_)
  ·have h:=ar hb18 h
   refine au ?_
   refine ae (ab ?_)
   refine aJ ?_
   refine aL hn 2 [0,1,7,8,5] ?_
   refine ab ?_
   obtain ⟨v2,hv2,h⟩:=zn h
   obtain ⟨v3,hv3,h⟩:=zn h
   refine yx hn 3 ?_
   refine ys 0 ⟨lh hv2⟩ ?_
   refine ys 1 ⟨lk call82 (rj _ _ hv3)⟩ ?_
   refine ba [0,1,7,8,16] ?_
   refine al _ rfl (fun hb19 => ?_) (fun hb19 => ?_)
   ·have h:=ar hb19 h
    refine aL hn 1 [4] ?_
    refine ao (aR (ai (ai (aR (ai ?_)))))
    have h:=hr14 _ (ho15 _ (zi h).symm).symm
    obtain rfl:=zi h
    exact ay hio rfl (.tmp _ _ .nil) rfl rfl
   ·have h:=aq hb19 h
    refine au (aP (ae ?_))
    obtain ⟨v5,hv5,h⟩:=zn h
    refine yx hn 0 ?_
    refine ys 0 ⟨lb hv5⟩ ?_
    refine yw [8] 1 ?_
    refine ye [0,1,7,8] ?_
    exact bn _ (zi h).symm rfl
  ·have h:=aq hb18 h
   refine bl (az (az (bm ?_)))
   refine ag [] (by kernel_rfl) (es':=[]) rfl ?_
   exact hl13 _ (ho15 _ (zi h).symm).symm
theorem tp (s:JH) (r:Bool) (h:Sh.jZ s=some r):bQ Tryz.prog 70 [.v (.string s)] (.v (.bool r)):=by
 unfold Sh.jZ at h
 refine yO 27 func70 fun g0 hn hio => ?_
 refine aL hn 1 [0] ?_
 refine ab ?_
 refine aC h (fun (s5:Bool)=>[(2,vb s5)]) ?_ ?_
 ·rintro s5 h
  refine ae (ao ?_)
  obtain rfl:=zi h
  exact ay hio rfl (.tmp _ _ .nil) rfl rfl
 ·intro u6 h hl7 hr8
  refine am h (fun hg1_2 h => ?_) (fun hg1_2 h => ?_)
  ·refine am h (fun hg1_7 h => ?_) (fun hg1_7 h => ?_)
   ·obtain ⟨v1,hv1,h⟩:=zn h
    refine am h (fun hg1_12 h => ?_) (fun hg1_12 h => ?_)
    ·obtain ⟨v2,hv2,h⟩:=zn h
     obtain ⟨v3,hv3,h⟩:=zn h
     refine am h (fun hg1_20 h => ?_) (fun hg1_20 h => ?_)
     ·obtain ⟨v4,hv4,h⟩:=zn h
      refine yx hn 3 ?_
      refine yd hg1_2 5 ?_
      refine yd hg1_7 1 ?_
      refine ys 3 ⟨lh hv1⟩ ?_
      refine yd hg1_12 3 ?_
      refine ys 0 ⟨lb hv2⟩ ?_
      refine ys 3 ⟨lh hv3⟩ ?_
      refine yd hg1_20 1 ?_
      refine ys 2 ⟨lk call81 (jE _ _ hv4)⟩ ?_
      refine ye [2] ?_
      exact hl7 _ (zi h).symm
     ·refine yx hn 3 ?_
      refine yd hg1_2 5 ?_
      refine yd hg1_7 1 ?_
      refine ys 3 ⟨lh hv1⟩ ?_
      refine yd hg1_12 3 ?_
      refine ys 0 ⟨lb hv2⟩ ?_
      refine ys 3 ⟨lh hv3⟩ ?_
      refine yd hg1_20 4 ?_
      refine ye [2] ?_
      exact hl7 _ (zi h).symm
    ·refine yx hn 3 ?_
     refine yd hg1_2 5 ?_
     refine yd hg1_7 1 ?_
     refine ys 3 ⟨lh hv1⟩ ?_
     refine yd hg1_12 12 ?_
     refine ye [2] ?_
     exact hl7 _ (zi h).symm
   ·refine yx hn 3 ?_
    refine yd hg1_2 5 ?_
    refine yd hg1_7 17 ?_
    refine ye [2] ?_
    exact hl7 _ (zi h).symm
  ·refine yx hn 3 ?_
   refine yd hg1_2 22 ?_
   refine ye [2] ?_
   exact hl7 _ (zi h).symm
theorem jy (mx:Int×Nat×Value) (s:JH) (r:Bool) (h:Sh.dU s=some r):gW Tryz.prog (GL mx) 69 [.v (.string s),.v (.func (.func 70) #[] #[])] (.v (.bool r)):=by
 unfold Sh.dU at h
 refine yG 13 func69 fun g0 hn hio => ?_
 refine fu hn 1 ?_
 refine yS (.box 4 [vb false]) 0 ⟨oA (bj _ _ GW)⟩ ?_
 refine ba [0,13,3,4] ?_
 refine ab (ab ?_)
 obtain ⟨v1,hv1,h⟩:=zn h
 refine yx hn 1 ?_
 refine yk [] [6] ?_
 refine yt (7,.cloB 119 [.box 9 [vs v1.1],.box 9 [vs v1.2.1],.box 3 [vi v1.2.2]]) 0 ⟨gh _ _ 80 _ _ rfl call80 rfl rfl (fU s (⟨#[46]⟩:JH) _ hv1) rfl⟩ ?_
 refine ba [13,3,4,7] ?_
 refine aJ ?_
 refine iW [3,0,1,2] (by kernel_rfl) (es':=[(7,.cloB 119 [.box 9 [vs v1.1],.box 9 [vs v1.2.1],.box 3 [vi v1.2.2]]),(13,.glob (GL mx)),(3,.box 65 [.v (.func (.func 70) #[] #[])]),(4,.box 4 [vb false])]) rfl ?_
 refine gU h 119 7 8 14 _ [13,3,4] call119 (fun (():Unit)=>[(13,.glob (GL mx)),(3,.box 65 [.v (.func (.func 70) #[] #[])]),(4,.box 4 [.v (.bool false)])]) (fun (():Unit)=>[(13,.glob (GL mx)),(3,.box 65 [.v (.func (.func 70) #[] #[])]),(4,.box 4 [.v (.bool false)])]) (fun l J Y hY t t' h=>fa mx l J Y hY v1.1 v1.2.1 v1.2.2 t t' h) hn rfl (fun _=>rfl) (fun _=>rfl) (fun _=>rfl) rfl rfl (fun _=>⟨rfl,rfl⟩) rfl (gO 13 rfl) ?_ ?_ ?_
 ·rintro kk g0 hn hio x ⟨⟩ u h
  refine qI (es':=[(8,vs x),(13,.glob (GL mx)),(3,.box 65 [.v (.func (.func 70) #[] #[])]),(4,.box 4 [vb false]),(13,.v (kk.tm.getD 13 undef)),(3,.v (kk.tm.getD 3 undef)),(4,.v (kk.tm.getD 4 undef)),(14,.inv kk.ready)]) rfl ?_
  refine yy hn 1 [13,3,4,14,5,13,3,4] ?_
  refine ag [0,1,2,4,5,6,7,3] (by kernel_rfl) (es':=[(13,.glob (GL mx)),(3,.box 65 [.v (.func (.func 70) #[] #[])]),(4,.box 4 [vb false]),(5,vs x),(13,.v (kk.tm.getD 13 undef)),(3,.v (kk.tm.getD 3 undef)),(4,.v (kk.tm.getD 4 undef)),(14,.inv kk.ready)]) rfl ?_
  refine jo (es:=[(13,.glob (GL mx)),(3,.box 65 [.v (.func (.func 70) #[] #[])]),(4,.box 4 [vb false]),(5,vs x),(13,.v (kk.tm.getD 13 undef)),(3,.v (kk.tm.getD 3 undef)),(4,.v (kk.tm.getD 4 undef))]) 14 rfl ?_
  refine aJ (ab ?_)
  obtain ⟨v2,hv2,h⟩:=zn h
  refine yx hn 2 ?_
  refine ys 1 ⟨lk call70 (tp _ _ hv2)⟩ ?_
  refine ba [13,3,4,14,12,13,3,4] ?_
  refine al _ rfl (fun hb5 => ?_) (fun hb5 => ?_)
  ·have h:=ar hb5 h
   refine aL hn 1 [13,3,4,14,13,3,4] ?_
   refine ao (aR ?_)
   refine ag [0,1,2,4,5,6,3] (by kernel_rfl) (es':=[(_,_),(_,_),(_,_),(_,_),(_,_),(_,_),(_,_)]) rfl ?_
   obtain rfl:=zi h
   exact pG 14 [13,3,4] _ rfl rfl (by kernel_rfl)
  ·have h:=aq hb5 h
   refine au (aP ?_)
   refine ag [0,1,2,5,6,7,3] (by kernel_rfl) (es':=[(_,_),(_,_),(_,_),(_,_),(_,_),(_,_),(_,_)]) rfl ?_
   obtain rfl:=zi h
   exact jj 14 [13,3,4] _ rfl rfl (by kernel_rfl)
 ·rintro D ⟨⟩ h
  refine aP (ae ?_)
  refine aL hn 1 [13,4] ?_
  refine ao ?_
  refine ag [1] (by kernel_rfl) (es':=[(_,_)]) rfl ?_
  obtain rfl:=zi h
  exact ay hio rfl (.cell1 _ _ _ _ underlying4 rfl .nil) rfl rfl
 ·rintro D ⟨⟩ h
  refine ag [2] (by kernel_rfl) (es':=[(_,_)]) rfl ?_
  refine aR (ai ?_)
  obtain rfl:=zi h
  exact ay hio rfl (.cell1 _ _ _ _ underlying4 rfl .nil) rfl rfl
theorem bX (mx:Int×Nat×Value) (s:JH) (r:Bool) (h:Sh.cw s=some r):gW Tryz.prog (GL mx) 55 [.v (.string s)] (.v (.bool r)):=by
 unfold Sh.cw at h
 refine yG 10 func55 fun g0 hn hio => ?_
 refine aL hn 1 [0,10] ?_
 refine ab ?_
 refine aC h (fun (s2:Bool)=>[(10,.glob (GL mx)),(2,vb s2)]) ?_ ?_
 ·rintro s2 h
  refine ae (ao ?_)
  refine ag [1] (by kernel_rfl) (es':=[(_,_)]) rfl ?_
  obtain rfl:=zi h
  exact ay hio rfl (.tmp _ _ .nil) rfl rfl
 ·intro u3 h hl4 hr5
  refine am h (fun hg1_3 h => ?_) (fun hg1_3 h => ?_)
  ·obtain ⟨v1,hv1,h⟩:=zn h
   refine yx hn 4 ?_
   refine yd hg1_3 1 ?_
   refine ys 2 ⟨lg call69 (jy _ _ _ hv1) 10⟩ ?_
   refine ye [10,2] ?_
   exact hl4 _ (zi h).symm
  ·refine yx hn 4 ?_
   refine yd hg1_3 4 ?_
   refine ye [10,2] ?_
   exact hl4 _ (zi h).symm
theorem ed (s:JH) (r:JH) (h:Sh.dJ s=some r):bQ Tryz.prog 71 [.v (.string s)] (.v (.string r)):=by
 unfold Sh.dJ at h
 refine yO 29 func71 fun g0 hn hio => ?_
 refine aL hn 1 [0] ?_
 refine ab ?_
 obtain ⟨v1,hv1,h⟩:=zn h
 refine yx hn 1 ?_
 refine ys 0 ⟨lU hv1⟩ ?_
 refine ya 0 ?_
 refine ba [3] ?_
 refine ab ?_
 refine fu hn 1 ?_
 refine yS (vi (v1.length:Int)) 1 ⟨nw _ _ _ underlying28 rfl (List.length_map _)⟩ ?_
 refine ba [3,8,9,10] ?_
 refine aZ h (fun ((s40,s41):(List Int)×Int)=>[(3,.mkr 5 (map (int .u8) s40)),(8,.same (.slot 3)),(9,vi (v1.length:Int)),(10,vi s41)]) (fun (s57:(List Int))=>[(3,.mkr 5 (map (int .u8) s57))]) ?_ ?_
 ·rintro s57 h
  refine ae (ab ?_)
  obtain ⟨v79,hv79,h⟩:=zn h
  refine yx hn 0 ?_
  refine ym 0 ?_
  refine ys 1 ⟨lM hv79⟩ ?_
  refine ba [2] ?_
  refine ao ?_
  obtain rfl:=zi h
  exact ay hio rfl (.tmp _ _ .nil) rfl rfl
 ·rintro u58 hl59 hr60 ⟨s40,s41⟩ rr63 h ho61
  refine aL hn 1 [3,8,9,10,11] ?_
  refine ab ?_
  refine al _ rfl (fun hb64 => ?_) (fun hb64 => ?_)
  ·have h:=ar hb64 h
   refine au ?_
   refine ae (ab ?_)
   refine aC h (fun (s70:(List Int))=>[(3,.mkr 5 (map (int .u8) s70)),(8,.same (.slot 3)),(9,vi (v1.length:Int)),(10,vi s41)]) ?_ ?_
   ·rintro s70 h
    refine ae ?_
    obtain ⟨v22,hv22,h⟩:=zn h
    refine yx hn 0 ?_
    refine ys 0 ⟨lb hv22⟩ ?_
    refine yw [10] 1 ?_
    refine ye [3,8,9,10] ?_
    exact bn _ (zi h).symm rfl
   ·intro u71 h hl72 hr73
    refine aJ (ab ?_)
    obtain ⟨v3,hv3,h⟩:=zn h
    obtain ⟨v4,hv4,h⟩:=zn h
    refine yx hn 1 ?_
    refine yS (.eref (.slot 3) (v3 * 1)) 0 ⟨vt _ _ _ _ _ _ _ underlying28 jx rfl rfl rfl (bz hv3).1 (Cc (bz hv3).2) rfl⟩ ?_
    refine yS (.v (.int .u8 v4)) 2 ⟨xM _ _ _ _ _ _ underlying5 rfl rfl rfl (zB hv4)⟩ ?_
    refine ba [3,8,9,10,4,5] ?_
    refine ab ?_
    refine aC h (fun (s74:Bool)=>[(3,.mkr 5 (map (int .u8) s40)),(8,.same (.slot 3)),(9,vi (v1.length:Int)),(10,vi s41),(4,vi s41),(5,.v (.int .u8 v4)),(20,vb s74)]) ?_ ?_
    ·rintro s74 h
     refine ae ?_
     refine al _ rfl (fun hb78 => ?_) (fun hb78 => ?_)
     ·have h:=ar hb78 h
      obtain ⟨v10,hv10,h⟩:=zn h
      obtain ⟨v11,hv11,h⟩:=zn h
      obtain ⟨v12,hv12,h⟩:=zn h
      refine yx hn 3 ?_
      refine ys 0 ⟨lb hv10⟩ ?_
      refine yS (.eref (.slot 3) (v11 * 1)) 0 ⟨vt _ _ _ _ _ _ _ underlying28 jx rfl rfl rfl (bz hv11).1 (Cc (bz hv11).2) rfl⟩ ?_
      refine yk [3] [25,24] ?_
      refine yt (3,.mkr 5 (map (int .u8) v12)) 0 ⟨wM _ _ _ _ _ _ _ jx rfl rfl rfl (Gf (bz hv11).2) (Fq (f:=int .u8) (Option.some.inj hv12))⟩ ?_
      refine ye [3,8,9,10] ?_
      refine aP ?_
      exact hl72 _ (zi h).symm
     ·have h:=aq hb78 h
      refine au (aP ?_)
      refine ag [0,1,2,3] (by kernel_rfl) (es':=[(_,_),(_,_),(_,_),(_,_)]) rfl ?_
      exact hl72 _ (zi h).symm
    ·intro u75 h hl76 hr77
     refine am h (fun hg5_2 h => ?_) (fun hg5_2 h => ?_)
     ·refine yx hn 3 ?_
      refine yd hg5_2 3 ?_
      refine ye [3,8,9,10,4,5,20] ?_
      exact hl76 _ (zi h).symm
     ·refine yx hn 3 ?_
      refine yd hg5_2 3 ?_
      refine ye [3,8,9,10,4,5,20] ?_
      exact hl76 _ (zi h).symm
  ·have h:=aq hb64 h
   refine bl (az (az (bm ?_)))
   refine ag [0] (by kernel_rfl) (es':=[(_,_)]) rfl ?_
   exact hl59 _ (ho61 _ (zi h).symm).symm
theorem kr (a:JH) (b:JH) (r:Bool) (h:Sh.fA a b=some r):bQ Tryz.prog 56 [.v (.string a),.v (.string b)] (.v (.bool r)):=by
 unfold Sh.fA at h
 refine yO 10 func56 fun g0 hn hio => ?_
 refine aL hn 1 [0,1] ?_
 refine ab ?_
 obtain ⟨v1,hv1,h⟩:=zn h
 obtain ⟨v2,hv2,h⟩:=zn h
 refine yx hn 1 ?_
 refine ys 1 ⟨lk call71 (ed _ _ hv1)⟩ ?_
 refine ys 2 ⟨lk call71 (ed _ _ hv2)⟩ ?_
 refine ba [4] ?_
 refine ao ?_
 obtain rfl:=zi h
 exact ay hio rfl (.tmp _ _ .nil) rfl rfl
theorem nf (s:JH) (least:Int) (r:Bool) (h:Sh.dD s least=some r):bQ Tryz.prog 58 [.v (.string s),.v (.int .u8 least)] (.v (.bool r)):=by
 unfold Sh.dD at h
 refine yO 23 func58 fun g0 hn hio => ?_
 refine aL hn 1 [0,1] ?_
 refine ab ?_
 refine aL hn 3 [0,1,7,8] ?_
 refine aZ h (fun (s17:Int)=>[(0,vs s),(1,.v (.int .u8 least)),(7,vi (s.size:Int)),(8,vi s17)]) (fun (():Unit)=>[]) ?_ ?_
 ·rintro ⟨⟩ h
  refine ae ?_
  refine aL hn 1 [4] ?_
  refine ao ?_
  obtain rfl:=zi h
  exact ay hio rfl (.tmp _ _ .nil) rfl rfl
 ·rintro u24 hl25 hr26 s17 rr29 h ho27
  refine aL hn 1 [0,1,7,8,9] ?_
  refine ab ?_
  refine al _ rfl (fun hb30 => ?_) (fun hb30 => ?_)
  ·have h:=ar hb30 h
   refine au ?_
   refine ae (ab ?_)
   refine aJ ?_
   refine aL hn 2 [0,1,7,8,5] ?_
   refine ab ?_
   refine aC h (fun (s31:Bool)=>[(0,vs s),(1,.v (.int .u8 least)),(7,vi (s.size:Int)),(8,vi s17),(21,vb s31)]) ?_ ?_
   ·rintro s31 h
    refine ae ?_
    refine al _ rfl (fun hb35 => ?_) (fun hb35 => ?_)
    ·have h:=ar hb35 h
     refine aL hn 1 [4] ?_
     refine ao (aR (ai (ai (aR (ai ?_)))))
     have h:=hr26 _ (ho27 _ (zi h).symm).symm
     obtain rfl:=zi h
     exact ay hio rfl (.tmp _ _ .nil) rfl rfl
    ·have h:=aq hb35 h
     refine au (aP (ae ?_))
     obtain ⟨v9,hv9,h⟩:=zn h
     refine yx hn 0 ?_
     refine ys 0 ⟨lb hv9⟩ ?_
     refine yw [8] 1 ?_
     refine ye [0,1,7,8] ?_
     exact bn _ (zi h).symm rfl
   ·intro u32 h hl33 hr34
    obtain ⟨v2,hv2,h⟩:=zn h
    refine am h (fun hg4_5 h => ?_) (fun hg4_5 h => ?_)
    ·refine yx hn 2 ?_
     refine ys 3 ⟨lh hv2⟩ ?_
     refine yd hg4_5 5 ?_
     refine ye [0,1,7,8,21] ?_
     exact hl33 _ (zi h).symm
    ·obtain ⟨v3,hv3,h⟩:=zn h
     refine yx hn 2 ?_
     refine ys 3 ⟨lh hv2⟩ ?_
     refine yd hg4_5 2 ?_
     refine ys 2 ⟨lh hv3⟩ ?_
     refine ye [0,1,7,8,21] ?_
     exact hl33 _ (zi h).symm
  ·have h:=aq hb30 h
   refine bl (az (az (bm ?_)))
   refine ag [] (by kernel_rfl) (es':=[]) rfl ?_
   exact hl25 _ (ho27 _ (zi h).symm).symm
theorem lW (s:JH) (r:Bool) (h:Sh.ny s=some r):bQ Tryz.prog 57 [.v (.string s)] (.v (.bool r)):=by
 unfold Sh.ny at h
 refine yO 15 func57 fun g0 hn hio => ?_
 refine aL hn 1 [0] ?_
 refine ab ?_
 refine aC h (fun (s2:Bool)=>[(2,vb s2)]) ?_ ?_
 ·rintro s2 h
  refine ae (ao ?_)
  obtain rfl:=zi h
  exact ay hio rfl (.tmp _ _ .nil) rfl rfl
 ·intro u3 h hl4 hr5
  refine am h (fun hg1_3 h => ?_) (fun hg1_3 h => ?_)
  ·refine am h (fun hg1_8 h => ?_) (fun hg1_8 h => ?_)
   ·obtain ⟨v1,hv1,h⟩:=zn h
    refine yx hn 4 ?_
    refine yd hg1_3 5 ?_
    refine yd hg1_8 1 ?_
    refine ys 2 ⟨lk call58 (nf _ _ _ hv1)⟩ ?_
    refine ye [2] ?_
    exact hl4 _ (zi h).symm
   ·refine yx hn 4 ?_
    refine yd hg1_3 5 ?_
    refine yd hg1_8 4 ?_
    refine ye [2] ?_
    exact hl4 _ (zi h).symm
  ·refine yx hn 4 ?_
   refine yd hg1_3 9 ?_
   refine ye [2] ?_
   exact hl4 _ (zi h).symm
theorem ng (mx:Int×Nat×Value) (c:aH) (r:Int) (h:Sh.jc c=some r):gW Tryz.prog (GL mx) 35 [.agg [.v (.string ((c.Jg.getD 0 (⟨#[]⟩:JH)))),.v (.string ((c.Jg.getD 1 (⟨#[]⟩:JH)))),.v (.int .i64 c.Jh),.v (.string c.JF),.v (.string c.JD),.v (.int .i64 c.Jr),.v (.bool c.Jl)]] (.v (.int .i64 r)):=by
 unfold Sh.jc at h
 refine yG 65 func35 fun g0 hn hio => ?_
 refine aL hn 2 [65,1] ?_
 refine ab ?_
 refine aC h (fun (s4:Bool)=>[(65,.glob (GL mx)),(1,.box 24 (aH.c c [])),(3,vb s4)]) ?_ ?_
 ·rintro s4 h
  refine ae (ab ?_)
  refine aC h (fun (s8:Bool)=>[(65,.glob (GL mx)),(1,.box 24 (aH.c c [])),(3,vb s4),(4,vb s8)]) ?_ ?_
  ·rintro s8 h
   refine ae (ab ?_)
   refine aC h (fun (s14:Bool)=>[(65,.glob (GL mx)),(1,.box 24 (aH.c c [])),(3,vb s4),(4,vb s8),(5,vb s14)]) ?_ ?_
   ·rintro s14 h
    refine ae (ab ?_)
    refine aC h (fun (s18:Bool)=>[(65,.glob (GL mx)),(3,vb s4),(4,vb s8),(5,vb s14),(6,vb s18)]) ?_ ?_
    ·rintro s18 h
     refine ae (ab ?_)
     refine ab ?_
     refine aC h (fun (s22:Bool)=>[(65,.glob (GL mx)),(64,vb s22)]) ?_ ?_
     ·rintro s22 h
      refine ae ?_
      refine al _ rfl (fun hb26 => ?_) (fun hb26 => ?_)
      ·have h:=ar hb26 h
       refine aL hn 1 [65,2] ?_
       refine ao ?_
       refine ag [1] (by kernel_rfl) (es':=[(_,_)]) rfl ?_
       refine ai ?_
       obtain rfl:=zi h
       exact ay hio rfl (.tmp _ _ .nil) rfl rfl
      ·have h:=aq hb26 h
       refine au (ae ?_)
       refine aL hn 1 [65,2] ?_
       refine ao ?_
       refine ag [1] (by kernel_rfl) (es':=[(_,_)]) rfl ?_
       obtain rfl:=zi h
       exact ay hio rfl (.tmp _ _ .nil) rfl rfl
     ·intro u23 h hl24 hr25
      refine am h (fun hg5_2 h => ?_) (fun hg5_2 h => ?_)
      ·refine yx hn 3 ?_
       refine yd hg5_2 11 ?_
       refine ye [65,64] ?_
       exact hl24 _ (zi h).symm
      ·refine am h (fun hg5_6 h => ?_) (fun hg5_6 h => ?_)
       ·refine yx hn 3 ?_
        refine yd hg5_2 4 ?_
        refine yd hg5_6 7 ?_
        refine ye [65,64] ?_
        exact hl24 _ (zi h).symm
       ·refine am h (fun hg5_10 h => ?_) (fun hg5_10 h => ?_)
        ·refine yx hn 3 ?_
         refine yd hg5_2 4 ?_
         refine yd hg5_6 4 ?_
         refine yd hg5_10 3 ?_
         refine ye [65,64] ?_
         exact hl24 _ (zi h).symm
        ·refine yx hn 3 ?_
         refine yd hg5_2 4 ?_
         refine yd hg5_6 4 ?_
         refine yd hg5_10 3 ?_
         refine ye [65,64] ?_
         exact hl24 _ (zi h).symm
    ·intro u19 h hl20 hr21
     refine am h (fun hg4_3 h => ?_) (fun hg4_3 h => ?_)
     ·refine yx hn 4 ?_
      refine yd hg4_3 5 ?_
      refine ye [65,3,4,5,6] ?_
      exact hl20 _ (zi h).symm
     ·refine yx hn 4 ?_
      refine yd hg4_3 5 ?_
      refine ye [65,3,4,5,6] ?_
      exact hl20 _ (zi h).symm
   ·intro u15 h hl16 hr17
    obtain ⟨v12,hv12,h⟩:=zn h
    refine am h (fun hg3_3 h => ?_) (fun hg3_3 h => ?_)
    ·obtain ⟨v13,hv13,h⟩:=zn h
     refine yx hn 2 ?_
     refine ys 1 ⟨lk call57 (lW _ _ hv12)⟩ ?_
     refine yd hg3_3 2 ?_
     refine ys 2 ⟨lk call57 (lW _ _ hv13)⟩ ?_
     refine ye [65,1,3,4,5] ?_
     exact hl16 _ (zi h).symm
    ·refine yx hn 2 ?_
     refine ys 1 ⟨lk call57 (lW _ _ hv12)⟩ ?_
     refine yd hg3_3 5 ?_
     refine ye [65,1,3,4,5] ?_
     exact hl16 _ (zi h).symm
  ·intro u9 h hl10 hr11
   refine am h (fun hg2_3 h => ?_) (fun hg2_3 h => ?_)
   ·refine yx hn 4 ?_
    refine yd hg2_3 5 ?_
    refine ye [65,1,3,4] ?_
    exact hl10 _ (zi h).symm
   ·refine yx hn 4 ?_
    refine yd hg2_3 5 ?_
    refine ye [65,1,3,4] ?_
    exact hl10 _ (zi h).symm
 ·intro u5 h hl6 hr7
  obtain ⟨v1,hv1,h⟩:=zn h
  refine am h (fun hg1_4 h => ?_) (fun hg1_4 h => ?_)
  ·obtain ⟨v2,hv2,h⟩:=zn h
   refine am h (fun hg1_10 h => ?_) (fun hg1_10 h => ?_)
   ·obtain ⟨v3,hv3,h⟩:=zn h
    refine yx hn 1 ?_
    refine yS (.ptr 1 0) 1 ⟨bY _ _ _ _ 2 1 0 0 1 underlying22 tb rfl rfl (by decide) (by decide)⟩ ?_
    refine ys 1 ⟨lg call55 (bX _ _ _ hv1) 65⟩ ?_
    refine yd hg1_4 1 ?_
    refine yS (.ptr 1 1) 1 ⟨bY _ _ _ _ 2 1 0 1 1 underlying22 tb rfl rfl (by decide) (by decide)⟩ ?_
    refine ys 2 ⟨lg call55 (bX _ _ _ hv2) 65⟩ ?_
    refine yd hg1_10 1 ?_
    refine yS (.ptr 1 0) 2 ⟨bY _ _ _ _ 2 1 0 0 1 underlying22 tb rfl rfl (by decide) (by decide)⟩ ?_
    refine yS (.ptr 1 1) 1 ⟨bY _ _ _ _ 2 1 0 1 1 underlying22 tb rfl rfl (by decide) (by decide)⟩ ?_
    refine ys 3 ⟨lk call56 (kr _ _ _ hv3)⟩ ?_
    refine ye [65,1,3] ?_
    exact hl6 _ (zi h).symm
   ·refine yx hn 1 ?_
    refine yS (.ptr 1 0) 1 ⟨bY _ _ _ _ 2 1 0 0 1 underlying22 tb rfl rfl (by decide) (by decide)⟩ ?_
    refine ys 1 ⟨lg call55 (bX _ _ _ hv1) 65⟩ ?_
    refine yd hg1_4 1 ?_
    refine yS (.ptr 1 1) 1 ⟨bY _ _ _ _ 2 1 0 1 1 underlying22 tb rfl rfl (by decide) (by decide)⟩ ?_
    refine ys 2 ⟨lg call55 (bX _ _ _ hv2) 65⟩ ?_
    refine yd hg1_10 10 ?_
    refine ye [65,1,3] ?_
    exact hl6 _ (zi h).symm
  ·refine yx hn 1 ?_
   refine yS (.ptr 1 0) 1 ⟨bY _ _ _ _ 2 1 0 0 1 underlying22 tb rfl rfl (by decide) (by decide)⟩ ?_
   refine ys 1 ⟨lg call55 (bX _ _ _ hv1) 65⟩ ?_
   refine yd hg1_4 16 ?_
   refine ye [65,1,3] ?_
   exact hl6 _ (zi h).symm
theorem nS (g:aI) (r:Bool) (h:Sh.fC g=some r):bQ Tryz.prog 36 [.agg [.v (.int .i64 g.Jz),.v (.string g.Jm),.v (.bool g.Ji.Ju),.v (.string g.Ji.Jq),.v (.string g.Ji.Jf),.fl .shr 3 (flatten (map ah.enc g.To)),.v (.bool g.JB),.fl .shr 1 (map (int .u8) g.Jc),.v (.string g.Jd),.v (.bool g.JA)]] (.v (.bool r)):=by
 unfold Sh.fC at h
 refine yO 22 func36 fun g0 hn hio => ?_
 refine aL hn 2 [1] ?_
 refine ab ?_
 refine aC h (fun (s2:Bool)=>[(2,vb s2)]) ?_ ?_
 ·rintro s2 h
  refine ae (ao ?_)
  obtain rfl:=zi h
  exact ay hio rfl (.tmp _ _ .nil) rfl rfl
 ·intro u3 h hl4 hr5
  refine am h (fun hg1_3 h => ?_) (fun hg1_3 h => ?_)
  ·refine am h (fun hg1_8 h => ?_) (fun hg1_8 h => ?_)
   ·refine am h (fun hg1_14 h => ?_) (fun hg1_14 h => ?_)
    ·obtain ⟨v1,hv1,h⟩:=zn h
     refine yx hn 4 ?_
     refine yd hg1_3 5 ?_
     refine yd hg1_8 6 ?_
     refine yd hg1_14 2 ?_
     refine ys 2 ⟨lk call58 (nf _ _ _ hv1)⟩ ?_
     refine ye [2] ?_
     exact hl4 _ (zi h).symm
    ·refine yx hn 4 ?_
     refine yd hg1_3 5 ?_
     refine yd hg1_8 6 ?_
     refine yd hg1_14 5 ?_
     refine ye [2] ?_
     exact hl4 _ (zi h).symm
   ·refine yx hn 4 ?_
    refine yd hg1_3 5 ?_
    refine yd hg1_8 11 ?_
    refine ye [2] ?_
    exact hl4 _ (zi h).symm
  ·refine yx hn 4 ?_
   refine yd hg1_3 16 ?_
   refine ye [2] ?_
   exact hl4 _ (zi h).symm
theorem ir (l:(List ah)) (r:(List ah)) (h:Sh.dx l=some r):bQ Tryz.prog 59 [.fl .shr 3 (flatten (map ah.enc l))] (.fl (.own 26) 3 (flatten (map ah.enc r))):=by
 unfold Sh.dx at h
 refine yO 5 func59 fun g0 hn hio => ?_
 refine aL hn 1 [0] ?_
 refine ab ?_
 obtain ⟨v1,hv1,h⟩:=zn h
 refine yx hn 1 ?_
 refine yS (.fl (.own 26) 3 (flatten (map ah.enc v1))) 0 ⟨lY _ _ _ _ FV rfl rfl (jH ah.len _) hv1 (congrArg (fun l=>flatten (map _ l)) (lV hv1))⟩ ?_
 refine ya 0 ?_
 refine ba [2] ?_
 refine ao ?_
 obtain rfl:=zi h
 exact ay hio rfl (.tmp _ _ .nil) rfl rfl
end Go.Proofs.YtjnnkhmhjcjhdaaGreatDoor
