import Derived.Test.YtjnnkhmhjcjhdaaGreatDoorOkc7
set_option linter.unusedVariables false
set_option linter.unusedSimpArgs false
set_option maxHeartbeats 1000000
namespace Go.Proofs.YtjnnkhmhjcjhdaaGreatDoor
open Go.Abs Go.Abs.Sh Tryz
open List (map flatten)
open Value (int)
theorem re (mx:Int×Nat×Value) (line:JH) (r:(br×Bool)) (h:Sh.dA line=some r):gW Tryz.prog (GL mx) 111 [.v (.string line)] (.tup [.agg [.v (.int .i64 r.1.Jo),.v (.string r.1.JE),.v (.bool r.1.Jy.Ju),.v (.string r.1.Jy.Jq),.v (.string r.1.Jy.Jf),.fl .ro 2 (flatten (map aD.enc r.1.Jx))],.v (.bool r.2)]):=by
 unfold Sh.dA at h
 refine yG 65 func111 fun g0 hn hio => ?_
 refine fu hn 0 ?_
 refine yS (.box 122 [vi 0,vs z0,vb false,vs z0,vs z0,vz]) 1 ⟨oA (bj _ _ kO)⟩ ?_
 refine ba [0,65,2] ?_
 refine ab ?_
 obtain ⟨v1,hv1,h⟩:=zn h
 refine yx hn 1 ?_
 refine ys 0 ⟨lk call134 (iE _ _ _ hv1)⟩ ?_
 refine ym 6 ?_
 refine ba [0,65,2,5,6] ?_
 refine ab ?_
 obtain ⟨v2,hv2,h⟩:=zn h
 refine yx hn 1 ?_
 refine ys 0 ⟨lk call109 (mS _ _ hv2)⟩ ?_
 refine yS (.agg [vi v2,vs z0,vb false,vs z0,vs z0,vz]) 0 ⟨bI _ _ _ _ [1,1,3,1] _ _ underlying122 kO (sE _ underlying122) (.copy _ mn.nil) rfl rfl rfl⟩ ?_
 refine yS (.box 122 [vi 0,vs z0,vb false,vs z0,vs z0,vz]) 1 ⟨oA (bj _ _ kO)⟩ ?_
 refine ba [0,65,2,5,6,7] ?_
 refine ab ?_
 refine aL hn 2 [0,65,2,5,6,7,18] ?_
 refine aJ (ab ?_)
 refine aC h (fun (s30:Bool)=>[(0,vs line),(65,.glob (GL mx)),(2,.box 122 [vi 0,vs z0,vb false,vs z0,vs z0,vz]),(5,vs v1.2.1),(6,vb v1.2.2),(7,.box 122 [vi v2,vs z0,vb false,vs z0,vs z0,vz]),(18,vi v2),(19,vb s30)]) ?_ ?_
 ·rintro s30 h
  refine ae ?_
  refine al _ rfl (fun hb35 => ?_) (fun hb35 => ?_)
  ·have h:=ar hb35 h
   refine ab ?_
   obtain ⟨v10,hv10,h⟩:=zn h
   refine yx hn 3 ?_
   refine ys 0 ⟨lg call137 (nL _ _ _ _ hv10) 65⟩ ?_
   refine yS (.agg [vi v10.1.Jo,vs v10.1.JE,vb v10.1.Jy.Ju,vs v10.1.Jy.Jq,vs v10.1.Jy.Jf,.fl .ro 2 (flatten (map aD.enc v10.1.Jx))]) 3 ⟨et _ _ _ _ _ _ rfl rfl (zl rfl) rfl rfl⟩ ?_
   refine ba [65,2,3] ?_
   refine ao ?_
   refine ag [1,2] (by kernel_rfl) (es':=[(_,_),(_,_)]) rfl ?_
   refine aR (ai ?_)
   obtain rfl:=zi h
   exact ay hio rfl (.cellA _ _ _ _ underlying122 rfl fH (.tmp _ _ .nil)) rfl rfl
  ·have h:=aq hb35 h
   refine ab ?_
   refine aC h (fun (s37:Bool)=>[(65,.glob (GL mx)),(2,.box 122 [vi 0,vs z0,vb false,vs z0,vs z0,vz]),(5,vs v1.2.1),(6,vb v1.2.2),(7,.box 122 [vi v2,vs z0,vb false,vs z0,vs z0,vz]),(18,vi v2),(28,vb s37)]) ?_ ?_
   ·rintro s37 h
    refine ae ?_
    refine al _ rfl (fun hb42 => ?_) (fun hb42 => ?_)
    ·have h:=ar hb42 h
     refine aL hn 3 [65,2,5,7] ?_
     refine ab ?_
     obtain ⟨v18,hv18,h⟩:=zn h
     refine wb [[7],[5]] ?_
     refine wN [34,65] ?_
     refine wo [] ⟨lg call55 (bX _ _ _ hv18) 65⟩ ?_
     refine wK [2] [33] ?_
     refine wt [(2,.box 122 [vi v2,vs v1.2.1,vb false,vs z0,vs z0,vz])] [[35]] ⟨dY _ _ _ _ _ _ _ _ fH rfl rfl rfl rfl (zl rfl) rfl rfl⟩ ?_
     refine tg hn [65,2,3] ?_
     refine ao ?_
     refine ag [1,2] (by kernel_rfl) (es':=[(_,_),(_,_)]) rfl ?_
     refine cu (fs:=[(2,.box 122 [vi v2,vs v1.2.1,vb false,vs z0,vs z0,.fl (.own 181) 2 (flatten (map aD.enc []))]),(3,vb v18)]) (.box _ _ (af (aj _) (af (aj _) (af (aj _) (af (aj _) (af (aj _) (af (bO 181 2) (bG))))))) rfl (.same _ .nil)) ?_
     refine eL 0 hio (es':=[(2,.box 122 [.v (.int .i64 v2),.v (.string v1.2.1),.v (.bool false),.v (.string (⟨#[]⟩:JH)),.v (.string (⟨#[]⟩:JH)),.fl .ro 2 (flatten (map aD.enc []))]),(3,.v (.bool v18))]) rfl ?_
     refine aR (ai ?_)
     obtain rfl:=zi h
     exact ay hio rfl (.cellA _ _ _ _ underlying122 rfl fH (.tmp _ _ .nil)) rfl rfl
    ·have h:=aq hb42 h
     refine aL hn 2 [65,2,5,6,7,18,36] ?_
     refine al _ rfl (fun hb43 => ?_) (fun hb43 => ?_)
     ·have h:=ar hb43 h
      refine aL hn 3 [65,2,5,7] ?_
      refine aL hn 5 [65,2,3] ?_
      refine ao ?_
      refine ag [1,2] (by kernel_rfl) (es':=[(_,_),(_,_)]) rfl ?_
      refine cu (fs:=[(2,.box 122 [vi v2,vs v1.2.1,vb false,vs z0,vs z0,.fl (.own 181) 2 (flatten (map aD.enc []))]),(3,vb (!(v1.2.1.toList==z0.toList)))]) (.box _ _ (af (aj _) (af (aj _) (af (aj _) (af (aj _) (af (aj _) (af (bO 181 2) (bG))))))) rfl (.same _ .nil)) ?_
      refine eL 0 hio (es':=[(2,.box 122 [.v (.int .i64 v2),.v (.string v1.2.1),.v (.bool false),.v (.string (⟨#[]⟩:JH)),.v (.string (⟨#[]⟩:JH)),.fl .ro 2 (flatten (map aD.enc []))]),(3,.v (.bool ((!(v1.2.1.toList==(⟨#[]⟩:JH).toList)))))]) rfl ?_
      refine aR (ai ?_)
      obtain rfl:=zi h
      exact ay hio rfl (.cellA _ _ _ _ underlying122 rfl fH (.tmp _ _ .nil)) rfl rfl
     ·have h:=aq hb43 h
      refine aL hn 2 [65,2,5,6,7,18,43] ?_
      refine al _ rfl (fun hb44 => ?_) (fun hb44 => ?_)
      ·have h:=ar hb44 h
       refine aL hn 3 [65,2,5,6,7] ?_
       refine ab ?_
       refine aC h (fun (s45:Bool)=>[(65,.glob (GL mx)),(2,.box 122 [vi v2,vs v1.2.1,vb false,vs z0,vs z0,vz]),(3,vb s45)]) ?_ ?_
       ·rintro s45 h
        refine ae (ao ?_)
        refine ag [1,2] (by kernel_rfl) (es':=[(_,_),(_,_)]) rfl ?_
        refine cu (fs:=[(2,.box 122 [vi v2,vs v1.2.1,vb false,vs z0,vs z0,.fl (.own 181) 2 (flatten (map aD.enc []))]),(3,vb s45)]) (.box _ _ (af (aj _) (af (aj _) (af (aj _) (af (aj _) (af (aj _) (af (bO 181 2) (bG))))))) rfl (.same _ .nil)) ?_
        refine eL 0 hio (es':=[(2,.box 122 [.v (.int .i64 v2),.v (.string v1.2.1),.v (.bool false),.v (.string (⟨#[]⟩:JH)),.v (.string (⟨#[]⟩:JH)),.fl .ro 2 (flatten (map aD.enc []))]),(3,.v (.bool s45))]) rfl ?_
        refine aR (ai ?_)
        obtain rfl:=zi h
        exact ay hio rfl (.cellA _ _ _ _ underlying122 rfl fH (.tmp _ _ .nil)) rfl rfl
       ·intro u46 h hl47 hr48
        refine am h (fun hg16_3 h => ?_) (fun hg16_3 h => ?_)
        ·refine wb [[7],[6],[48],[49]] ?_
         refine wd hg16_3 [[50],[50],[50]] ?_
         refine wK [2] [47] ?_
         refine wt [(2,.box 122 [vi v2,vs v1.2.1,vb false,vs z0,vs z0,vz])] [[53]] ⟨dY _ _ _ _ _ _ _ _ fH rfl rfl rfl rfl (zl rfl) rfl rfl⟩ ?_
         refine we hn [65,2,3] ?_
         exact hl47 _ (zi h).symm
        ·obtain ⟨v21,hv21,h⟩:=zn h
         refine wb [[7],[6],[48],[49]] ?_
         refine wd hg16_3 [[50,5]] ?_
         refine wN [50,51,65] ?_
         refine wo [[50,52]] ⟨lg call55 (bX _ _ _ hv21) 65⟩ ?_
         refine wK [2] [47] ?_
         refine wt [(2,.box 122 [vi v2,vs v1.2.1,vb false,vs z0,vs z0,vz])] [[53]] ⟨dY _ _ _ _ _ _ _ _ fH rfl rfl rfl rfl (zl rfl) rfl rfl⟩ ?_
         refine we hn [65,2,3] ?_
         exact hl47 _ (zi h).symm
      ·have h:=aq hb44 h
       refine aL hn 2 [65,2,5,6,7,18,54] ?_
       refine al _ rfl (fun hb49 => ?_) (fun hb49 => ?_)
       ·have h:=ar hb49 h
        refine ab ?_
        obtain ⟨v27,hv27,h⟩:=zn h
        refine wb [[7],[5]] ?_
        refine wN [57] ?_
        refine wo [] ⟨lk call136 (fk _ _ _ hv27)⟩ ?_
        refine wK [2] [56] ?_
        refine wt [(2,.box 122 [vi v2,vs z0,vb false,vs z0,vs z0,vz])] [[58]] ⟨dY _ _ _ _ _ _ _ _ fH rfl rfl rfl rfl (zl rfl) rfl rfl⟩ ?_
        refine tg hn [65,2,3] ?_
        refine ao ?_
        refine ag [1,2] (by kernel_rfl) (es':=[(_,_),(_,_)]) rfl ?_
        refine cu (fs:=[(2,.box 122 [vi v2,vs z0,vb false,vs z0,vs z0,.fl (.own 181) 2 (flatten (map aD.enc []))]),(3,vb v27)]) (.box _ _ (af (aj _) (af (aj _) (af (aj _) (af (aj _) (af (aj _) (af (bO 181 2) (bG))))))) rfl (.same _ .nil)) ?_
        refine eL 0 hio (es':=[(2,.box 122 [.v (.int .i64 v2),.v (.string (⟨#[]⟩:JH)),.v (.bool false),.v (.string (⟨#[]⟩:JH)),.v (.string (⟨#[]⟩:JH)),.fl .ro 2 (flatten (map aD.enc []))]),(3,.v (.bool v27))]) rfl ?_
        refine aR (ai ?_)
        obtain rfl:=zi h
        exact ay hio rfl (.cellA _ _ _ _ underlying122 rfl fH (.tmp _ _ .nil)) rfl rfl
       ·have h:=aq hb49 h
        refine aL hn 2 [65,2,6,7,59] ?_
        refine al _ rfl (fun hb50 => ?_) (fun hb50 => ?_)
        ·have h:=ar hb50 h
         refine aL hn 3 [65,2,3] ?_
         refine ao ?_
         refine ag [1,2] (by kernel_rfl) (es':=[(_,_),(_,_)]) rfl ?_
         refine cu (fs:=[(2,.box 122 [vi v2,vs z0,vb false,vs z0,vs z0,.fl (.own 181) 2 (flatten (map aD.enc []))]),(3,vb true)]) (.box _ _ (af (aj _) (af (aj _) (af (aj _) (af (aj _) (af (aj _) (af (bO 181 2) (bG))))))) rfl (.same _ .nil)) ?_
         refine eL 0 hio (es':=[(2,.box 122 [.v (.int .i64 v2),.v (.string (⟨#[]⟩:JH)),.v (.bool false),.v (.string (⟨#[]⟩:JH)),.v (.string (⟨#[]⟩:JH)),.fl .ro 2 (flatten (map aD.enc []))]),(3,.v (.bool true))]) rfl ?_
         refine aR (ai ?_)
         obtain rfl:=zi h
         exact ay hio rfl (.cellA _ _ _ _ underlying122 rfl fH (.tmp _ _ .nil)) rfl rfl
        ·have h:=aq hb50 h
         refine au (aP (ae ?_))
         refine aL hn 5 [65,2,3] ?_
         refine ao ?_
         refine ag [1,2] (by kernel_rfl) (es':=[(_,_),(_,_)]) rfl ?_
         refine cu (fs:=[(2,.box 122 [vi v2,vs z0,vb false,vs z0,vs z0,.fl (.own 181) 2 (flatten (map aD.enc []))]),(3,vb (!v1.2.2))]) (.box _ _ (af (aj _) (af (aj _) (af (aj _) (af (aj _) (af (aj _) (af (bO 181 2) (bG))))))) rfl (.same _ .nil)) ?_
         refine eL 0 hio (es':=[(2,.box 122 [.v (.int .i64 v2),.v (.string (⟨#[]⟩:JH)),.v (.bool false),.v (.string (⟨#[]⟩:JH)),.v (.string (⟨#[]⟩:JH)),.fl .ro 2 (flatten (map aD.enc []))]),(3,.v (.bool (!v1.2.2)))]) rfl ?_
         obtain rfl:=zi h
         exact ay hio rfl (.cellA _ _ _ _ underlying122 rfl fH (.tmp _ _ .nil)) rfl rfl
   ·intro u38 h hl39 hr40
    refine aL hn 2 [65,2,5,6,7,18,28] ?_
    refine al _ rfl (fun hb41 => ?_) (fun hb41 => ?_)
    ·have h:=ar hb41 h
     refine au ?_
     exact hl39 _ (zi h).symm
    ·have h:=aq hb41 h
     refine yx hn 1 ?_
     refine yw [28] 1 ?_
     refine ye [65,2,5,6,7,18,28] ?_
     exact hl39 _ (zi h).symm
 ·intro u31 h hl32 hr33
  refine aL hn 2 [0,65,2,5,6,7,18,19] ?_
  refine al _ rfl (fun hb34 => ?_) (fun hb34 => ?_)
  ·have h:=ar hb34 h
   refine au ?_
   exact hl32 _ (zi h).symm
  ·have h:=aq hb34 h
   refine yx hn 1 ?_
   refine yw [19] 1 ?_
   refine ye [0,65,2,5,6,7,18,19] ?_
   exact hl32 _ (zi h).symm
theorem tv (mx:Int×Nat×Value) (line:JH) (r:(br×Int)) (h:Sh.eR line=some r):gW Tryz.prog (GL mx) 91 [.v (.string line)] (.tup [.agg [.v (.int .i64 r.1.Jo),.v (.string r.1.JE),.v (.bool r.1.Jy.Ju),.v (.string r.1.Jy.Jq),.v (.string r.1.Jy.Jf),.fl .ro 2 (flatten (map aD.enc r.1.Jx))],.v (.int .i64 r.2)]):=by
 unfold Sh.eR at h
 refine yG 32 func91 fun g0 hn hio => ?_
 refine fu hn 0 ?_
 refine yS (.box 122 [vi 0,vs z0,vb false,vs z0,vs z0,vz]) 1 ⟨oA (bj _ _ kO)⟩ ?_
 refine ba [0,32,2] ?_
 refine ab (ab ?_)
 refine aC h (fun (s12:Bool)=>[(0,vs line),(32,.glob (GL mx)),(2,.box 122 [vi 0,vs z0,vb false,vs z0,vs z0,vz]),(18,vb s12)]) ?_ ?_
 ·rintro s12 h
  refine ae ?_
  refine al _ rfl (fun hb16 => ?_) (fun hb16 => ?_)
  ·have h:=ar hb16 h
   refine fu hn 0 ?_
   refine yS (.agg [vi 0,vs z0,vb false,vs z0,vs z0,vz]) 0 ⟨bI _ _ _ _ [1,1,3,1] _ _ underlying122 kO (sE _ underlying122) mn.nil rfl rfl rfl⟩ ?_
   refine yk [19,2] [] ?_
   refine yt (2,.box 122 [vi 0,vs z0,vb false,vs z0,vs z0,vz]) 1 ⟨dk _ _ _ 19 2 6 fH rfl rfl rfl rfl rfl (.eq _ (.eq _ (.eq _ (.eq _ (.eq _ (.eq _ (.nil _))))))) rfl⟩ ?_
   refine ba [32,2,3] ?_
   refine ao ?_
   refine ag [1,2] (by kernel_rfl) (es':=[(_,_),(_,_)]) rfl ?_
   refine cu (fs:=[(2,.box 122 [vi 0,vs z0,vb false,vs z0,vs z0,.fl (.own 181) 2 (flatten (map aD.enc []))]),(3,vi 500)]) (.box _ _ (af (aj _) (af (aj _) (af (aj _) (af (aj _) (af (aj _) (af (bO 181 2) (bG))))))) rfl (.same _ .nil)) ?_
   refine eL 0 hio (es':=[(2,.box 122 [.v (.int .i64 0),.v (.string (⟨#[]⟩:JH)),.v (.bool false),.v (.string (⟨#[]⟩:JH)),.v (.string (⟨#[]⟩:JH)),.fl .ro 2 (flatten (map aD.enc []))]),(3,.v (.int .i64 500))]) rfl ?_
   refine ai ?_
   obtain rfl:=zi h
   exact ay hio rfl (.cellA _ _ _ _ underlying122 rfl fH (.tmp _ _ .nil)) rfl rfl
  ·have h:=aq hb16 h
   refine au ?_
   refine ae (ab ?_)
   refine ab ?_
   obtain ⟨v8,hv8,h⟩:=zn h
   refine yx hn 1 ?_
   refine ys 0 ⟨lg call110 (ly _ _ _ hv8) 32⟩ ?_
   refine ba [0,32,2,21] ?_
   refine al _ rfl (fun hb17 => ?_) (fun hb17 => ?_)
   ·have h:=ar hb17 h
    refine fu hn 0 ?_
    refine yS (.agg [vi 0,vs z0,vb false,vs z0,vs z0,vz]) 0 ⟨bI _ _ _ _ [1,1,3,1] _ _ underlying122 kO (sE _ underlying122) mn.nil rfl rfl rfl⟩ ?_
    refine yk [22,2] [] ?_
    refine yt (2,.box 122 [vi 0,vs z0,vb false,vs z0,vs z0,vz]) 1 ⟨dk _ _ _ 22 2 6 fH rfl rfl rfl rfl rfl (.eq _ (.eq _ (.eq _ (.eq _ (.eq _ (.eq _ (.nil _))))))) rfl⟩ ?_
    refine ba [32,2,3] ?_
    refine ao ?_
    refine ag [1,2] (by kernel_rfl) (es':=[(_,_),(_,_)]) rfl ?_
    refine cu (fs:=[(2,.box 122 [vi 0,vs z0,vb false,vs z0,vs z0,.fl (.own 181) 2 (flatten (map aD.enc []))]),(3,vi 504)]) (.box _ _ (af (aj _) (af (aj _) (af (aj _) (af (aj _) (af (aj _) (af (bO 181 2) (bG))))))) rfl (.same _ .nil)) ?_
    refine eL 0 hio (es':=[(2,.box 122 [.v (.int .i64 0),.v (.string (⟨#[]⟩:JH)),.v (.bool false),.v (.string (⟨#[]⟩:JH)),.v (.string (⟨#[]⟩:JH)),.fl .ro 2 (flatten (map aD.enc []))]),(3,.v (.int .i64 504))]) rfl ?_
    refine ai ?_
    obtain rfl:=zi h
    exact ay hio rfl (.cellA _ _ _ _ underlying122 rfl fH (.tmp _ _ .nil)) rfl rfl
   ·have h:=aq hb17 h
    refine au ?_
    refine ae (ab ?_)
    obtain ⟨v10,hv10,h⟩:=zn h
    refine yx hn 1 ?_
    refine ys 0 ⟨lg call111 (re _ _ _ hv10) 32⟩ ?_
    refine ym 0 ?_
    refine yS (.agg [vi v10.1.Jo,vs v10.1.JE,vb v10.1.Jy.Ju,vs v10.1.Jy.Jq,vs v10.1.Jy.Jf,.fl .ro 2 (flatten (map aD.enc v10.1.Jx))]) 1 ⟨et _ _ _ _ _ _ rfl rfl (zl rfl) rfl rfl⟩ ?_
    refine yS (.box 122 [vi 0,vs z0,vb false,vs z0,vs z0,vz]) 2 ⟨oA (bj _ _ kO)⟩ ?_
    refine ba [32,2,4,5] ?_
    refine ab ?_
    refine aL hn 2 [32,2,4,29] ?_
    refine al _ rfl (fun hb18 => ?_) (fun hb18 => ?_)
    ·have h:=ar hb18 h
     refine fu hn 0 ?_
     refine yS (.agg [vi 0,vs z0,vb false,vs z0,vs z0,vz]) 0 ⟨bI _ _ _ _ [1,1,3,1] _ _ underlying122 kO (sE _ underlying122) mn.nil rfl rfl rfl⟩ ?_
     refine yk [30,2] [] ?_
     refine yt (2,.box 122 [vi 0,vs z0,vb false,vs z0,vs z0,vz]) 1 ⟨dk _ _ _ 30 2 6 fH rfl rfl rfl rfl rfl (.eq _ (.eq _ (.eq _ (.eq _ (.eq _ (.eq _ (.nil _))))))) rfl⟩ ?_
     refine ba [32,2,3] ?_
     refine ao ?_
     refine ag [1,2] (by kernel_rfl) (es':=[(_,_),(_,_)]) rfl ?_
     refine cu (fs:=[(2,.box 122 [vi 0,vs z0,vb false,vs z0,vs z0,.fl (.own 181) 2 (flatten (map aD.enc []))]),(3,vi 501)]) (.box _ _ (af (aj _) (af (aj _) (af (aj _) (af (aj _) (af (aj _) (af (bO 181 2) (bG))))))) rfl (.same _ .nil)) ?_
     refine eL 0 hio (es':=[(2,.box 122 [.v (.int .i64 0),.v (.string (⟨#[]⟩:JH)),.v (.bool false),.v (.string (⟨#[]⟩:JH)),.v (.string (⟨#[]⟩:JH)),.fl .ro 2 (flatten (map aD.enc []))]),(3,.v (.int .i64 501))]) rfl ?_
     refine ai ?_
     obtain rfl:=zi h
     exact ay hio rfl (.cellA _ _ _ _ underlying122 rfl fH (.tmp _ _ .nil)) rfl rfl
    ·have h:=aq hb18 h
     refine au (ae ?_)
     refine aL hn 3 [32,2,3] ?_
     refine ao ?_
     refine ag [1,2] (by kernel_rfl) (es':=[(_,_),(_,_)]) rfl ?_
     obtain rfl:=zi h
     exact ay hio rfl (.cellA _ _ _ _ underlying122 rfl fH (.tmp _ _ .nil)) rfl rfl
 ·intro u13 h hl14 hr15
  refine am h (fun hg1_3 h => ?_) (fun hg1_3 h => ?_)
  ·refine yx hn 4 ?_
   refine yd hg1_3 9 ?_
   refine ye [0,32,2,18] ?_
   exact hl14 _ (zi h).symm
  ·obtain ⟨v1,hv1,h⟩:=zn h
   refine am h (fun hg1_8 h => ?_) (fun hg1_8 h => ?_)
   ·refine yx hn 4 ?_
    refine yd hg1_3 1 ?_
    refine ys 3 ⟨lk call108 (kg _ _ hv1)⟩ ?_
    refine yd hg1_8 4 ?_
    refine ye [0,32,2,18] ?_
    exact hl14 _ (zi h).symm
   ·obtain ⟨v2,hv2,h⟩:=zn h
    refine yx hn 4 ?_
    refine yd hg1_3 1 ?_
    refine ys 3 ⟨lk call108 (kg _ _ hv1)⟩ ?_
    refine yd hg1_8 1 ?_
    refine ys 2 ⟨lk call109 (mS _ _ hv2)⟩ ?_
    refine ye [0,32,2,18] ?_
    exact hl14 _ (zi h).symm
theorem nO (c:br) (key:JH) (r:(JH×Bool)) (h:Sh.lz c key=some r):bQ Tryz.prog 138 [.agg [.v (.int .i64 c.Jo),.v (.string c.JE),.v (.bool c.Jy.Ju),.v (.string c.Jy.Jq),.v (.string c.Jy.Jf),.fl .shr 2 (flatten (map aD.enc c.Jx))],.v (.string key)] (.tup [.v (.string r.1),.v (.bool r.2)]):=by
 unfold Sh.lz at h
 refine yO 22 func138 fun g0 hn hio => ?_
 refine aL hn 3 [1,2] ?_
 refine ab ?_
 refine aL hn 4 [1,9,10,11] ?_
 refine aZ h (fun (s9:Int)=>[(1,vs key),(9,.fl .shr 2 (flatten (map aD.enc c.Jx))),(10,vi (c.Jx.length:Int)),(11,vi s9)]) (fun (():Unit)=>[]) ?_ ?_
 ·rintro ⟨⟩ h
  refine ae ?_
  refine aL hn 2 [4,5] ?_
  refine ao ?_
  obtain rfl:=zi h
  exact ay hio rfl (.tmp _ _ (.tmp _ _ .nil)) rfl rfl
 ·rintro u12 hl13 hr14 s9 rr17 h ho15
  refine aL hn 1 [1,9,10,11,12] ?_
  refine ab ?_
  refine al _ rfl (fun hb18 => ?_) (fun hb18 => ?_)
  ·have h:=ar hb18 h
   refine au ?_
   refine ae (ab ?_)
   refine aJ (ab ?_)
   obtain ⟨v2,hv2,h⟩:=zn h
   obtain ⟨v3,hv3,h⟩:=zn h
   refine yx hn 0 ?_
   refine ys 0 ⟨lj hv2⟩ ?_
   refine yS (.agg [vs v3.Jn,vs v3.JG]) 0 ⟨kY _ _ _ _ _ _ _ underlying181 rfl pS rfl rfl (pM aD.len hv3) rfl (by decide)⟩ ?_
   refine yS (.box 181 [vs z0,vs z0]) 1 ⟨oA (bj _ _ qA)⟩ ?_
   refine ba [1,9,10,11,7] ?_
   refine aL hn 4 [1,9,10,11,7,18] ?_
   refine al _ rfl (fun hb19 => ?_) (fun hb19 => ?_)
   ·have h:=ar hb19 h
    refine aL hn 4 [4,5] ?_
    refine ao (aR (ai (ai (aR (ai ?_)))))
    have h:=hr14 _ (ho15 _ (zi h).symm).symm
    obtain rfl:=zi h
    exact ay hio rfl (.tmp _ _ (.tmp _ _ .nil)) rfl rfl
   ·have h:=aq hb19 h
    refine au (aP (ae ?_))
    obtain ⟨v5,hv5,h⟩:=zn h
    refine yx hn 0 ?_
    refine ys 0 ⟨lb hv5⟩ ?_
    refine yw [11] 1 ?_
    refine ye [1,9,10,11] ?_
    exact bn _ (zi h).symm rfl
  ·have h:=aq hb18 h
   refine bl (az (az (bm ?_)))
   refine ag [] (by kernel_rfl) (es':=[]) rfl ?_
   exact hl13 _ (ho15 _ (zi h).symm).symm
theorem qb (mx:Int×Nat×Value) (s:JH) (r:Int) (h:Sh.iV s=some r):gW Tryz.prog (GL mx) 139 [.v (.string s)] (.tup [.v (.int .i64 r),.any]):=pm (Eb mx) (fun s n w h1 h2=>Tryz.strconv_Atoi s n h1 h2 w) (fun s w h1 h2 h3=>(Tryz.strconv_Atoi_err s h1 h2 _ w h3 (.inr ⟨_,_,rfl⟩)).mono fun _ _ ⟨_,h4,_,_,h5⟩=>⟨_,h4,h5⟩) s r h
theorem mu (mx:Int×Nat×Value) (s:aa) (c:br) (r:(Int×aa)) (h:Sh.ik s c=some r):mE Tryz.prog (GL mx) 112 [.box 80 (aa.b s),.agg [.v (.int .i64 c.Jo),.v (.string c.JE),.v (.bool c.Jy.Ju),.v (.string c.Jy.Jq),.v (.string c.Jy.Jf),.fl .shr 2 (flatten (map aD.enc c.Jx))]] [.box 80 (aa.b r.2)] (.v (.int .i64 r.1)):=by
 unfold Sh.ik at h
 refine CD 39 func112 fun args0 hargs0 g0 hn hio => ?_
 refine aL hn 2 [0,39,3,0] ?_
 refine ab ?_
 obtain ⟨v1,hv1,h⟩:=zn h
 refine yx hn 1 ?_
 refine ys 0 ⟨lk call138 (nO _ _ _ hv1)⟩ ?_
 refine ym 4 ?_
 refine ba [0,39,3,5,0] ?_
 refine ab ?_
 obtain ⟨v2,hv2,h⟩:=zn h
 refine yx hn 1 ?_
 refine ys 0 ⟨lg call139 (qb _ _ _ hv2) 39⟩ ?_
 refine ym 4 ?_
 refine ba [0,39,3,7,0] ?_
 refine ab (aJ ?_)
 refine aL hn 7 [0,39,3,7,19,0] ?_
 refine al _ rfl (fun hb3 => ?_) (fun hb3 => ?_)
 ·have h:=ar hb3 h
  refine aL hn 1 [0,39,4,0] ?_
  refine ao ?_
  refine ag [2,0,3] (by kernel_rfl) (es':=[(_,_),(_,_),(_,_)]) rfl ?_
  refine aR (ai ?_)
  obtain rfl:=zi h
  exact bJ (es:=[(4,.v (.int .i64 503))]) (posts:=[.box 80 (aa.b s)]) hio rfl rfl (.tmp _ _ .nil) rfl rfl hargs0 rfl
 ·have h:=aq hb3 h
  refine aL hn 3 [0,39,3,26,0] ?_
  refine al _ rfl (fun hb4 => ?_) (fun hb4 => ?_)
  ·have h:=ar hb4 h
   refine aL hn 1 [0,39,4,0] ?_
   refine ao ?_
   refine ag [2,0,3] (by kernel_rfl) (es':=[(_,_),(_,_),(_,_)]) rfl ?_
   refine aR (ai ?_)
   obtain rfl:=zi h
   exact bJ (es:=[(4,.v (.int .i64 552))]) (posts:=[.box 80 (aa.b s)]) hio rfl rfl (.tmp _ _ .nil) rfl rfl hargs0 rfl
  ·have h:=aq hb4 h
   refine au (aP ?_)
   refine ae (ab ?_)
   refine wb [[],[],[3],[31,3],[29,0],[33,0],[34,0]] ?_
   refine wK [0] [35] ?_
   refine wt [(0,.box 80 (vi 2::vs s.Jj.Jm::vb s.Jj.Ji.Ju::vs s.Jj.Ji.Jq::vs s.Jj.Ji.Jf::.fl (.own 26) 3 (flatten (map ah.enc s.Jj.To))::vb s.Jj.JB::.mkr 5 (map (int .u8) s.Jj.Jc)::vs s.Jj.Jd::vb s.Jj.JA::aH.c s.config [vi s.site,vi s.at_,.fr (.own 55) false 12 (flatten (map aA.ienc s.out))]))] [[30,0],[36,0],[37,0]] ⟨dY _ _ _ _ _ _ _ _ Fs rfl rfl rfl rfl (zl rfl) rfl rfl⟩ ?_
   refine wK [0] [38,32] ?_
   refine wt [(0,.box 80 (vi 2::vs s.Jj.Jm::vb c.Jy.Ju::vs c.Jy.Jq::vs c.Jy.Jf::.fl (.own 26) 3 (flatten (map ah.enc s.Jj.To))::vb s.Jj.JB::.mkr 5 (map (int .u8) s.Jj.Jc)::vs s.Jj.Jd::vb s.Jj.JA::aH.c s.config [vi s.site,vi s.at_,.fr (.own 55) false 12 (flatten (map aA.ienc s.out))]))] [] ⟨dY _ _ _ _ _ _ _ _ vE rfl rfl rfl rfl (zl rfl) rfl rfl⟩ ?_
   refine tg hn [0,39,0] ?_
   refine aL hn 1 [0,39,4,0] ?_
   refine ao ?_
   refine ag [2,0,3] (by kernel_rfl) (es':=[(_,_),(_,_),(_,_)]) rfl ?_
   obtain rfl:=zi h
   exact bJ (es:=[(4,.v (.int .i64 250))]) (posts:=[.box 80 [.v (.int .i64 2),.v (.string s.Jj.Jm),.v (.bool c.Jy.Ju),.v (.string c.Jy.Jq),.v (.string c.Jy.Jf),.fl (.own 26) 3 (flatten (map ah.enc s.Jj.To)),.v (.bool s.Jj.JB),.mkr 5 (map (int .u8) s.Jj.Jc),.v (.string s.Jj.Jd),.v (.bool s.Jj.JA),.v (.string ((s.config.Jg.getD 0 (⟨#[]⟩:JH)))),.v (.string ((s.config.Jg.getD 1 (⟨#[]⟩:JH)))),.v (.int .i64 s.config.Jh),.v (.string s.config.JF),.v (.string s.config.JD),.v (.int .i64 s.config.Jr),.v (.bool s.config.Jl),.v (.int .i64 s.site),.v (.int .i64 s.at_),.fr (.own 55) false 12 (flatten (map aA.ienc s.out))]]) hio rfl rfl (.tmp _ _ .nil) rfl rfl hargs0 rfl
theorem nZ (mx:Int×Nat×Value) (p:ah) (domain:JH) (r:Bool) (h:Sh.rq p domain=some r):gW Tryz.prog (GL mx) 140 [.agg [.v (.bool p.Ju),.v (.string p.Jq),.v (.string p.Jf)],.v (.string domain)] (.v (.bool r)):=by
 unfold Sh.rq at h
 refine yG 21 func140 fun g0 hn hio => ?_
 refine aL hn 2 [1,21,2] ?_
 refine ab ?_
 refine aC h (fun (s4:Bool)=>[(21,.glob (GL mx)),(4,vb s4)]) ?_ ?_
 ·rintro s4 h
  refine ae (ao ?_)
  refine ag [1] (by kernel_rfl) (es':=[(_,_)]) rfl ?_
  obtain rfl:=zi h
  exact ay hio rfl (.tmp _ _ .nil) rfl rfl
 ·intro u5 h hl6 hr7
  obtain ⟨v1,hv1,h⟩:=zn h
  refine am h (fun hg1_3 h => ?_) (fun hg1_3 h => ?_)
  ·refine am h (fun hg1_8 h => ?_) (fun hg1_8 h => ?_)
   ·obtain ⟨v2,hv2,h⟩:=zn h
    obtain ⟨v3,hv3,h⟩:=zn h
    refine yx hn 1 ?_
    refine ys 2 ⟨lg call162 (cH _ _ _ hv1) 21⟩ ?_
    refine yd hg1_3 5 ?_
    refine yd hg1_8 2 ?_
    refine ys 1 ⟨lk call71 (ed _ _ hv2)⟩ ?_
    refine ys 3 ⟨lk call71 (ed _ _ hv3)⟩ ?_
    refine ye [21,4] ?_
    exact hl6 _ (zi h).symm
   ·refine yx hn 1 ?_
    refine ys 2 ⟨lg call162 (cH _ _ _ hv1) 21⟩ ?_
    refine yd hg1_3 5 ?_
    refine yd hg1_8 8 ?_
    refine ye [21,4] ?_
    exact hl6 _ (zi h).symm
  ·refine yx hn 1 ?_
   refine ys 2 ⟨lg call162 (cH _ _ _ hv1) 21⟩ ?_
   refine yd hg1_3 13 ?_
   refine ye [21,4] ?_
   exact hl6 _ (zi h).symm
theorem mK (mx:Int×Nat×Value) (s:aa) (c:br) (r:(Int×aa)) (h:Sh.ie s c=some r):mE Tryz.prog (GL mx) 113 [.box 80 (aa.b s),.agg [.v (.int .i64 c.Jo),.v (.string c.JE),.v (.bool c.Jy.Ju),.v (.string c.Jy.Jq),.v (.string c.Jy.Jf),.fl .shr 2 (flatten (map aD.enc c.Jx))]] [.box 80 (aa.b r.2)] (.v (.int .i64 r.1)):=by
 unfold Sh.ie at h
 refine CD 81 func113 fun args0 hargs0 g0 hn hio => ?_
 refine aL hn 2 [0,81,3,0] ?_
 refine ab (aJ (ab ?_))
 refine aC h (fun (s1:Bool)=>[(0,.box 80 (aa.b s)),(81,.glob (GL mx)),(3,.box 122 (br.c c [])),(7,vb s1),(0,.v (List.getD args0 0 undef))]) ?_ ?_
 ·rintro s1 h
  refine ae ?_
  refine al _ rfl (fun hb5 => ?_) (fun hb5 => ?_)
  ·have h:=ar hb5 h
   refine aL hn 1 [0,81,4,0] ?_
   refine ao ?_
   refine ag [2,0,3] (by kernel_rfl) (es':=[(_,_),(_,_),(_,_)]) rfl ?_
   refine aR (ai ?_)
   obtain rfl:=zi h
   exact bJ (es:=[(4,.v (.int .i64 503))]) (posts:=[.box 80 (aa.b s)]) hio rfl rfl (.tmp _ _ .nil) rfl rfl hargs0 rfl
  ·have h:=aq hb5 h
   refine aL hn 8 [0,81,3,22,0] ?_
   refine al _ rfl (fun hb6 => ?_) (fun hb6 => ?_)
   ·have h:=ar hb6 h
    refine aL hn 1 [0,81,4,0] ?_
    refine ao ?_
    refine ag [2,0,3] (by kernel_rfl) (es':=[(_,_),(_,_),(_,_)]) rfl ?_
    refine aR (ai ?_)
    obtain rfl:=zi h
    exact bJ (es:=[(4,.v (.int .i64 452))]) (posts:=[.box 80 (aa.b s)]) hio rfl rfl (.tmp _ _ .nil) rfl rfl hargs0 rfl
   ·have h:=aq hb6 h
    refine ab ?_
    refine aC h (fun (s9:Bool)=>[(0,.box 80 (aa.b s)),(81,.glob (GL mx)),(3,.box 122 (br.c c [])),(30,vb s9),(0,.v (List.getD args0 0 undef))]) ?_ ?_
    ·rintro s9 h
     refine ae ?_
     refine al _ rfl (fun hb13 => ?_) (fun hb13 => ?_)
     ·have h:=ar hb13 h
      refine aL hn 1 [0,81,4,0] ?_
      refine ao ?_
      refine ag [2,0,3] (by kernel_rfl) (es':=[(_,_),(_,_),(_,_)]) rfl ?_
      refine aR (ai ?_)
      obtain rfl:=zi h
      exact bJ (es:=[(4,.v (.int .i64 550))]) (posts:=[.box 80 (aa.b s)]) hio rfl rfl (.tmp _ _ .nil) rfl rfl hargs0 rfl
     ·have h:=aq hb13 h
      refine au (aP (ae ?_))
      refine aL hn 5 [0,81,3,0] ?_
      refine ab ?_
      obtain ⟨v14,hv14,h⟩:=zn h
      refine wb [[],[],[58,0],[59,0],[60,0],[61,0],[3],[63,3]] ?_
      refine wN [64] ?_
      refine wS (.fl (.own 26) 3 (flatten (map ah.enc [(ah.mk c.Jy.Ju c.Jy.Jq c.Jy.Jf)]))) [] ⟨aY _ _ 3 (.agg #[.bool false,.string ByteArray.empty,.string ByteArray.empty]) (flatten (map ah.enc [(ah.mk c.Jy.Ju c.Jy.Jq c.Jy.Jf)])) [(0,.agg #[.bool c.Jy.Ju,.string c.Jy.Jq,.string c.Jy.Jf])] underlying27 vE rF (fun _ V w o a hv hes=>by have e0:=Ej (ys:=[.bool c.Jy.Ju,.string c.Jy.Jq,.string c.Jy.Jf]) hv hes (x := .tmp 64) rfl; simp only [List.map_toArray,List.map_cons,List.map_nil,e0]; try rfl) (cd (by simp [Instr.fill,Value.cells]; rfl) (by simp [List.range,List.range.loop,ah.enc] <;> rfl)) (by simp [Value.oneCell',ah.enc]) rfl (by decide) (by decide) (by decide)⟩ ?_
      refine wK [0] [62,65] ?_
      refine wt [(0,.box 80 (vi 3::vs s.Jj.Jm::vb s.Jj.Ji.Ju::vs s.Jj.Ji.Jq::vs s.Jj.Ji.Jf::.any::vb s.Jj.JB::.mkr 5 (map (int .u8) s.Jj.Jc)::vs s.Jj.Jd::vb s.Jj.JA::aH.c s.config [vi s.site,vi s.at_,.fr (.own 55) false 12 (flatten (map aA.ienc s.out))])),(66,.fl (.own 26) 3 (flatten (map ah.enc v14)))] [[57,0],[67,0],[68,0]] ⟨gR _ _ _ _ _ _ FV rfl rfl (zl rfl) rfl (jH ah.len _) (jH ah.len _) hv14 (wq (ib hv14)) (Nat.ne_of_beq_eq_false rfl) rfl rfl⟩ ?_
      refine wK [62,66,0] [69] ?_
      refine wt [(0,.box 80 (vi 3::vs s.Jj.Jm::vb s.Jj.Ji.Ju::vs s.Jj.Ji.Jq::vs s.Jj.Ji.Jf::.fl (.own 26) 3 (flatten (map ah.enc v14))::vb s.Jj.JB::.mkr 5 (map (int .u8) s.Jj.Jc)::vs s.Jj.Jd::vb s.Jj.JA::aH.c s.config [vi s.site,vi s.at_,.fr (.own 55) false 12 (flatten (map aA.ienc s.out))]))] [] ⟨aU.drop [_] (aV _ _ _ _ _ _ _ _ Gt rfl rfl rfl (zl rfl) rfl rfl)⟩ ?_
      refine tg hn [0,81,3,0] ?_
      refine ab ?_
      refine aC h (fun (s17:Bool)=>[(0,.box 80 (vi 3::vs s.Jj.Jm::vb s.Jj.Ji.Ju::vs s.Jj.Ji.Jq::vs s.Jj.Ji.Jf::.fl (.own 26) 3 (flatten (map ah.enc v14))::vb s17::.mkr 5 (map (int .u8) s.Jj.Jc)::vs s.Jj.Jd::vb s.Jj.JA::aH.c s.config [vi s.site,vi s.at_,.fr (.own 55) false 12 (flatten (map aA.ienc s.out))])),(81,.glob (GL mx)),(0,.v (List.getD args0 0 undef))]) ?_ ?_
      ·rintro s17 h
       refine ae ?_
       refine aL hn 1 [0,81,4,0] ?_
       refine ao ?_
       refine ag [2,0,3] (by kernel_rfl) (es':=[(_,_),(_,_),(_,_)]) rfl ?_
       obtain rfl:=zi h
       exact bJ (es:=[(4,.v (.int .i64 250))]) (posts:=[.box 80 [.v (.int .i64 3),.v (.string s.Jj.Jm),.v (.bool s.Jj.Ji.Ju),.v (.string s.Jj.Ji.Jq),.v (.string s.Jj.Ji.Jf),.fl (.own 26) 3 (flatten (map ah.enc v14)),.v (.bool s17),.mkr 5 (map (int .u8) s.Jj.Jc),.v (.string s.Jj.Jd),.v (.bool s.Jj.JA),.v (.string ((s.config.Jg.getD 0 (⟨#[]⟩:JH)))),.v (.string ((s.config.Jg.getD 1 (⟨#[]⟩:JH)))),.v (.int .i64 s.config.Jh),.v (.string s.config.JF),.v (.string s.config.JD),.v (.int .i64 s.config.Jr),.v (.bool s.config.Jl),.v (.int .i64 s.site),.v (.int .i64 s.at_),.fr (.own 55) false 12 (flatten (map aA.ienc s.out))]]) hio rfl rfl (.tmp _ _ .nil) rfl rfl hargs0 rfl
      ·intro u18 h hl19 hr20
       refine ab ?_
       obtain ⟨v15,hv15,h⟩:=zn h
       refine yx hn 1 ?_
       refine ys 0 ⟨lk call138 (nO _ _ _ hv15)⟩ ?_
       refine ym 4 ?_
       refine ba [0,81,5,0] ?_
       refine aL hn 2 [0,81,76,0] ?_
       refine al _ rfl (fun hb21 => ?_) (fun hb21 => ?_)
       ·have h:=ar hb21 h
        refine yy hn 5 [0,81,0] ?_
        exact hl19 _ (zi h).symm
       ·have h:=aq hb21 h
        refine au ?_
        refine ag [0,1,3] (by kernel_rfl) (es':=[(_,_),(_,_),(_,_)]) rfl ?_
        exact hl19 _ (zi h).symm
    ·intro u10 h hl11 hr12
     obtain ⟨v7,hv7,h⟩:=zn h
     refine am h (fun hg5_10 h => ?_) (fun hg5_10 h => ?_)
     ·obtain ⟨v8,hv8,h⟩:=zn h
      refine wb [[3],[31,3],[],[33,0],[34,0],[35,0]] ?_
      refine wN [36,0] ?_
      refine wS (.ptr 0 10) [[37,0]] ⟨bY _ _ _ _ 2 0 10 0 1 underlying22 tb rfl rfl (by decide) (by decide)⟩ ?_
      refine wN [32,38,81] ?_
      refine wo [[39],[40]] ⟨lg call140 (nZ _ _ _ _ hv7) 81⟩ ?_
      refine wd hg5_10 [[41,3],[41,42,3],[41],[41,44,0],[41,45,0],[41,46,0]] ?_
      refine wN [41,47,0] ?_
      refine wS (.ptr 0 11) [[41,48,0]] ⟨bY _ _ _ _ 2 0 10 1 1 underlying22 tb rfl rfl (by decide) (by decide)⟩ ?_
      refine wN [41,43,49,81] ?_
      refine wo [[41,50],[41,51],[52]] ⟨lg call140 (nZ _ _ _ _ hv8) 81⟩ ?_
      refine we hn [0,81,3,30,0] ?_
      exact hl11 _ (zi h).symm
     ·refine wb [[3],[31,3],[],[33,0],[34,0],[35,0]] ?_
      refine wN [36,0] ?_
      refine wS (.ptr 0 10) [[37,0]] ⟨bY _ _ _ _ 2 0 10 0 1 underlying22 tb rfl rfl (by decide) (by decide)⟩ ?_
      refine wN [32,38,81] ?_
      refine wo [[39],[40]] ⟨lg call140 (nZ _ _ _ _ hv7) 81⟩ ?_
      refine wd hg5_10 [[41],[41],[41],[41],[41],[41],[41],[41],[41],[41],[41],[52]] ?_
      refine we hn [0,81,3,30,0] ?_
      exact hl11 _ (zi h).symm
 ·intro u2 h hl3 hr4
  refine am h (fun hg1_6 h => ?_) (fun hg1_6 h => ?_)
  ·refine yx hn 7 ?_
   refine yd hg1_6 8 ?_
   refine ye [0,81,3,7,0] ?_
   exact hl3 _ (zi h).symm
  ·refine yx hn 7 ?_
   refine yd hg1_6 8 ?_
   refine ye [0,81,3,7,0] ?_
   exact hl3 _ (zi h).symm
theorem mg (s:aa) (r:(Int×aa)) (h:Sh.gE s=some r):oa Tryz.prog 114 [.box 80 (aa.b s)] [.box 80 (aa.b r.2)] (.v (.int .i64 r.1)):=by
 unfold Sh.gE at h
 refine yP 13 func114 fun args0 hargs0 g0 hn hio => ?_
 refine aL hn 1 [0,0] ?_
 refine ab ?_
 refine aL hn 6 [0,8,0] ?_
 refine al _ rfl (fun hb1 => ?_) (fun hb1 => ?_)
 ·have h:=ar hb1 h
  refine aL hn 1 [0,2,0] ?_
  refine ao ?_
  refine ag [1,0,2] (by kernel_rfl) (es':=[(_,_),(_,_),(_,_)]) rfl ?_
  refine ai ?_
  obtain rfl:=zi h
  exact bJ (es:=[(2,.v (.int .i64 503))]) (posts:=[.box 80 (aa.b s)]) hio rfl rfl (.tmp _ _ .nil) rfl rfl hargs0 rfl
 ·have h:=aq hb1 h
  refine au (ae ?_)
  refine aL hn 5 [0,0] ?_
  refine aL hn 1 [0,2,0] ?_
  refine ao ?_
  refine ag [1,0,2] (by kernel_rfl) (es':=[(_,_),(_,_),(_,_)]) rfl ?_
  obtain rfl:=zi h
  exact bJ (es:=[(2,.v (.int .i64 354))]) (posts:=[.box 80 [.v (.int .i64 4),.v (.string s.Jj.Jm),.v (.bool s.Jj.Ji.Ju),.v (.string s.Jj.Ji.Jq),.v (.string s.Jj.Ji.Jf),.fl (.own 26) 3 (flatten (map ah.enc s.Jj.To)),.v (.bool s.Jj.JB),.mkr 5 (map (int .u8) s.Jj.Jc),.v (.string s.Jj.Jd),.v (.bool s.Jj.JA),.v (.string ((s.config.Jg.getD 0 (⟨#[]⟩:JH)))),.v (.string ((s.config.Jg.getD 1 (⟨#[]⟩:JH)))),.v (.int .i64 s.config.Jh),.v (.string s.config.JF),.v (.string s.config.JD),.v (.int .i64 s.config.Jr),.v (.bool s.config.Jl),.v (.int .i64 s.site),.v (.int .i64 s.at_),.fr (.own 55) false 12 (flatten (map aA.ienc s.out))]]) hio rfl rfl (.tmp _ _ .nil) rfl rfl hargs0 rfl
theorem gV (s:aa) (domain:JH) (r:(Bool×aa)) (h:Sh.cy s domain=some r):oa Tryz.prog 141 [.box 80 (aa.b s),.v (.string domain)] [.box 80 (aa.b r.2)] (.v (.bool r.1)):=by
 unfold Sh.cy at h
 refine yP 18 func141 fun args0 hargs0 g0 hn hio => ?_
 refine aL hn 1 [0,1,0] ?_
 refine ab ?_
 obtain ⟨v1,hv1,h⟩:=zn h
 obtain ⟨v2,hv2,h⟩:=zn h
 obtain ⟨v3,hv3,h⟩:=zn h
 obtain ⟨v4,hv4,h⟩:=zn h
 refine wb [[1],[],[],[7,0],[8,0],[9,0]] ?_
 refine wN [10] ?_
 refine wo [[6,0],[12,0],[13,0]] ⟨lb hv1⟩ ?_
 refine wN [14,0,11] ?_
 refine wS (.ptr 0 (10+v2 * 1)) [] ⟨uh _ _ _ _ 2 0 10 _ underlying22 tb rfl rfl (bz hv2).1 (bz hv2).2 (by decide)⟩ ?_
 refine wN [15,0] ?_
 refine wS (vs v3) [] ⟨qH _ _ _ 0 10 v2 2 ([(s.config.Jg.getD 0 z0),(s.config.Jg.getD 1 z0)]:List JH) _ underlying9 rfl rfl rfl rfl hv3⟩ ?_
 refine wN [5,16] ?_
 refine wo [[17]] ⟨lk call56 (kr _ _ _ hv4)⟩ ?_
 refine tg hn [0,4,0] ?_
 refine ao ?_
 refine ag [1,0,2] (by kernel_rfl) (es':=[(_,_),(_,_),(_,_)]) rfl ?_
 obtain rfl:=zi h
 exact bJ (es:=[(4,.v (.bool v4))]) (posts:=[.box 80 (aa.b s)]) hio rfl rfl (.tmp _ _ .nil) rfl rfl hargs0 rfl
theorem mU (s:aa) (c:br) (r:(Int×aa)) (h:Sh.dX s c=some r):oa Tryz.prog 116 [.box 80 (aa.b s),.agg [.v (.int .i64 c.Jo),.v (.string c.JE),.v (.bool c.Jy.Ju),.v (.string c.Jy.Jq),.v (.string c.Jy.Jf),.fl .shr 2 (flatten (map aD.enc c.Jx))]] [.box 80 (aa.b r.2)] (.v (.int .i64 r.1)):=by
 unfold Sh.dX at h
 refine yP 18 func116 fun args0 hargs0 g0 hn hio => ?_
 refine aL hn 2 [0,3,0] ?_
 refine ab (aJ ?_)
 refine aL hn 7 [0,3,5,0] ?_
 refine al _ rfl (fun hb1 => ?_) (fun hb1 => ?_)
 ·have h:=ar hb1 h
  refine aL hn 1 [0,4,0] ?_
  refine ao ?_
  refine ag [1,0,2] (by kernel_rfl) (es':=[(_,_),(_,_),(_,_)]) rfl ?_
  refine aR (ai ?_)
  obtain rfl:=zi h
  exact bJ (es:=[(4,.v (.int .i64 503))]) (posts:=[.box 80 (aa.b s)]) hio rfl rfl (.tmp _ _ .nil) rfl rfl hargs0 rfl
 ·have h:=aq hb1 h
  refine ab ?_
  obtain ⟨v2,hv2,h⟩:=zn h
  refine yx hn 3 ?_
  refine yQ call141 (gV _ _ _ hv2) 0 [13,15] 2 ?_
  refine ba [0,12,0] ?_
  refine al _ rfl (fun hb3 => ?_) (fun hb3 => ?_)
  ·have h:=ar hb3 h
   refine aL hn 1 [0,4,0] ?_
   refine ao ?_
   refine ag [1,0,2] (by kernel_rfl) (es':=[(_,_),(_,_),(_,_)]) rfl ?_
   refine aR (ai ?_)
   obtain rfl:=zi h
   exact bJ (es:=[(4,.v (.int .i64 459))]) (posts:=[.box 80 (aa.b v2.2)]) hio rfl rfl (.tmp _ _ .nil) rfl rfl hargs0 rfl
  ·have h:=aq hb3 h
   refine au (aP (ae ?_))
   refine aL hn 1 [0,4,0] ?_
   refine ao ?_
   refine ag [1,0,2] (by kernel_rfl) (es':=[(_,_),(_,_),(_,_)]) rfl ?_
   obtain rfl:=zi h
   exact bJ (es:=[(4,.v (.int .i64 250))]) (posts:=[.box 80 (aa.b v2.2)]) hio rfl rfl (.tmp _ _ .nil) rfl rfl hargs0 rfl
theorem gM (s:aa) (code:Int) (r:aa) (h:Sh.cB s code=some r):oa Tryz.prog 115 [.box 80 (aa.b s),.v (.int .i64 code)] [.box 80 (aa.b r)] (.tup []):=by
 unfold Sh.cB at h
 refine yP 19 func115 fun args0 hargs0 g0 hn hio => ?_
 obtain ⟨v1,hv1,h⟩:=zn h
 obtain ⟨v2,hv2,h⟩:=zn h
 refine wb [[],[],[5,0],[6,0],[7,0],[0],[1]] ?_
 refine wN [9,0,10] ?_
 refine wS (.agg [vi v1.Je,.fl (.own 9) 1 (map Value.string v1.Jp)]) [[1],[12]] ⟨wF _ 11 0 85 [.int .i64 code] _ rfl call85 rfl rfl rfl rfl (fun u=>fD u ((aa.r s)) code _ hv1) rfl rfl rfl⟩ ?_
 refine wK [11] [13] ?_
 refine wt [(14,.agg [vi v1.Je,.fl (.own 9) 1 (map Value.string v1.Jp),vb false,vb false,vs z0,vs z0,vz,vz,vb false,vs z0,vi 0,vb (code==250)])] [] ⟨bI _ _ _ _ [2,1,8,1] _ _ underlying55 tn (BN _ underlying55) (.take _ _ (.copy _ mn.nil)) rfl rfl rfl⟩ ?_
 refine wK [14] [] ?_
 refine wt [(15,.fr (.own 55) false 12 (flatten (map aA.ienc ([(aA.mk v1 false ((bf.mk ((ah.mk false z0 z0)) [] [] false z0 0)) (code==250))]))))] [] ⟨kh _ _ _ 12 (.agg #[.int .i64 0,.slice none 0 0,.bool false,.bool false,.string ByteArray.empty,.string ByteArray.empty,.slice none 0 0,.slice none 0 0,.bool false,.string ByteArray.empty,.int .i64 0,.bool false]) false _ _ underlying34 wG tn rfl (.cons (.v _) (.cons (.ro _ _ rfl) (.cons (.v _) (.cons (.v _) (.cons (.v _) (.cons (.v _) (.cons (.nil 3) (.cons (.nil 1) (.cons (.v _) (.cons (.v _) (.cons (.v _) (.cons (.v _) (.nil))))))))))))) rfl (by decide) (by decide)⟩ ?_
 refine wK [0] [8,15] ?_
 refine wt [(0,.box 80 (vi s.Jj.Jz::vs s.Jj.Jm::vb s.Jj.Ji.Ju::vs s.Jj.Ji.Jq::vs s.Jj.Ji.Jf::.fl (.own 26) 3 (flatten (map ah.enc s.Jj.To))::vb s.Jj.JB::.mkr 5 (map (int .u8) s.Jj.Jc)::vs s.Jj.Jd::vb s.Jj.JA::aH.c s.config [vi s.site,vi s.at_,.any])),(16,.fr (.own 55) false 12 (flatten (map aA.ienc v2)))] [[4,0],[17,0]] ⟨ij _ 16 0 19 _ _ EU rfl rfl (zl rfl) rfl (eY aA.ilen _) (eY aA.ilen _) hv2 (nz (ib hv2)) (by decide) (by decide) (by decide) rfl rfl⟩ ?_
 refine wK [8,16,0] [18] ?_
 refine wt [(0,.box 80 (vi s.Jj.Jz::vs s.Jj.Jm::vb s.Jj.Ji.Ju::vs s.Jj.Ji.Jq::vs s.Jj.Ji.Jf::.fl (.own 26) 3 (flatten (map ah.enc s.Jj.To))::vb s.Jj.JB::.mkr 5 (map (int .u8) s.Jj.Jc)::vs s.Jj.Jd::vb s.Jj.JA::aH.c s.config [vi s.site,vi s.at_,.fr (.own 55) false 12 (flatten (map aA.ienc v2))]))] [] ⟨aU.drop [_] (aV _ _ _ _ _ _ _ _ Fw rfl rfl rfl (zl rfl) rfl rfl)⟩ ?_
 refine we hn [0,0] ?_
 obtain rfl:=zi h
 exact ki (es:=[]) (posts:=[.box 80 [.v (.int .i64 s.Jj.Jz),.v (.string s.Jj.Jm),.v (.bool s.Jj.Ji.Ju),.v (.string s.Jj.Ji.Jq),.v (.string s.Jj.Ji.Jf),.fl (.own 26) 3 (flatten (map ah.enc s.Jj.To)),.v (.bool s.Jj.JB),.mkr 5 (map (int .u8) s.Jj.Jc),.v (.string s.Jj.Jd),.v (.bool s.Jj.JA),.v (.string ((s.config.Jg.getD 0 (⟨#[]⟩:JH)))),.v (.string ((s.config.Jg.getD 1 (⟨#[]⟩:JH)))),.v (.int .i64 s.config.Jh),.v (.string s.config.JF),.v (.string s.config.JD),.v (.int .i64 s.config.Jr),.v (.bool s.config.Jl),.v (.int .i64 s.site),.v (.int .i64 s.at_),.fr (.own 55) false 12 (flatten (map aA.ienc v2))]]) hio rfl rfl .nil rfl rfl hargs0 rfl
theorem mW (s:aa) (r:(Int×aa)) (h:Sh.ej s=some r):oa Tryz.prog 117 [.box 80 (aa.b s)] [.box 80 (aa.b r.2)] (.v (.int .i64 r.1)):=by
 unfold Sh.ej at h
 refine yP 20 func117 fun args0 hargs0 g0 hn hio => ?_
 refine aL hn 1 [0,0] ?_
 refine ab (ab ?_)
 refine aC h (fun (s1:Bool)=>[(0,.box 80 (aa.b s)),(15,vb s1),(0,.v (List.getD args0 0 undef))]) ?_ ?_
 ·rintro s1 h
  refine ae ?_
  refine al _ rfl (fun hb5 => ?_) (fun hb5 => ?_)
  ·have h:=ar hb5 h
   refine aL hn 1 [0,2,0] ?_
   refine ao ?_
   refine ag [1,0,2] (by kernel_rfl) (es':=[(_,_),(_,_),(_,_)]) rfl ?_
   refine ai ?_
   obtain rfl:=zi h
   exact bJ (es:=[(2,.v (.int .i64 503))]) (posts:=[.box 80 (aa.b s)]) hio rfl rfl (.tmp _ _ .nil) rfl rfl hargs0 rfl
  ·have h:=aq hb5 h
   refine au (ae ?_)
   refine aL hn 5 [0,0] ?_
   refine aL hn 1 [0,2,0] ?_
   refine ao ?_
   refine ag [1,0,2] (by kernel_rfl) (es':=[(_,_),(_,_),(_,_)]) rfl ?_
   obtain rfl:=zi h
   exact bJ (es:=[(2,.v (.int .i64 334))]) (posts:=[.box 80 [.v (.int .i64 5),.v (.string s.Jj.Jm),.v (.bool s.Jj.Ji.Ju),.v (.string s.Jj.Ji.Jq),.v (.string s.Jj.Ji.Jf),.fl (.own 26) 3 (flatten (map ah.enc s.Jj.To)),.v (.bool s.Jj.JB),.mkr 5 (map (int .u8) s.Jj.Jc),.v (.string s.Jj.Jd),.v (.bool s.Jj.JA),.v (.string ((s.config.Jg.getD 0 (⟨#[]⟩:JH)))),.v (.string ((s.config.Jg.getD 1 (⟨#[]⟩:JH)))),.v (.int .i64 s.config.Jh),.v (.string s.config.JF),.v (.string s.config.JD),.v (.int .i64 s.config.Jr),.v (.bool s.config.Jl),.v (.int .i64 s.site),.v (.int .i64 s.at_),.fr (.own 55) false 12 (flatten (map aA.ienc s.out))]]) hio rfl rfl (.tmp _ _ .nil) rfl rfl hargs0 rfl
 ·intro u2 h hl3 hr4
  refine am h (fun hg1_6 h => ?_) (fun hg1_6 h => ?_)
  ·refine yx hn 7 ?_
   refine yd hg1_6 6 ?_
   refine ye [0,15,0] ?_
   exact hl3 _ (zi h).symm
  ·refine yx hn 7 ?_
   refine yd hg1_6 6 ?_
   refine ye [0,15,0] ?_
   exact hl3 _ (zi h).symm
theorem mL (s:aa) (c:br) (r:(Int×aa)) (h:Sh.ef s c=some r):oa Tryz.prog 118 [.box 80 (aa.b s),.agg [.v (.int .i64 c.Jo),.v (.string c.JE),.v (.bool c.Jy.Ju),.v (.string c.Jy.Jq),.v (.string c.Jy.Jf),.fl .shr 2 (flatten (map aD.enc c.Jx))]] [.box 80 (aa.b r.2)] (.v (.int .i64 r.1)):=by
 unfold Sh.ef at h
 refine yP 34 func118 fun args0 hargs0 g0 hn hio => ?_
 refine aL hn 2 [0,3,0] ?_
 refine ab (aJ ?_)
 refine aL hn 7 [0,3,5,0] ?_
 refine al _ rfl (fun hb1 => ?_) (fun hb1 => ?_)
 ·have h:=ar hb1 h
  refine aL hn 1 [0,4,0] ?_
  refine ao ?_
  refine ag [1,0,2] (by kernel_rfl) (es':=[(_,_),(_,_),(_,_)]) rfl ?_
  refine aR (ai ?_)
  obtain rfl:=zi h
  exact bJ (es:=[(4,.v (.int .i64 503))]) (posts:=[.box 80 (aa.b s)]) hio rfl rfl (.tmp _ _ .nil) rfl rfl hargs0 rfl
 ·have h:=aq hb1 h
  refine aL hn 7 [0,3,12,0] ?_
  refine al _ rfl (fun hb2 => ?_) (fun hb2 => ?_)
  ·have h:=ar hb2 h
   refine aL hn 1 [0,4,0] ?_
   refine ao ?_
   refine ag [1,0,2] (by kernel_rfl) (es':=[(_,_),(_,_),(_,_)]) rfl ?_
   refine aR (ai ?_)
   obtain rfl:=zi h
   exact bJ (es:=[(4,.v (.int .i64 530))]) (posts:=[.box 80 (aa.b s)]) hio rfl rfl (.tmp _ _ .nil) rfl rfl hargs0 rfl
  ·have h:=aq hb2 h
   refine ab ?_
   refine aC h (fun ((s4,s5,s6,s7,s8,s9,s10,s11,s12,s13,s14,s15,s16,s17,s18,s19,s20,s21,s22,s23,s24):Int×JH×Bool×JH×JH×(List ah)×Bool×(List Int)×JH×Bool×JH×JH×Int×JH×JH×Int×Bool×Int×Int×(List aA)×Bool)=>[(0,.box 80 [vi s4,vs s5,vb s6,vs s7,vs s8,.fl (.own 26) 3 (flatten (map ah.enc s9)),vb s10,.mkr 5 (map (int .u8) s11),vs s12,vb s13,vs s14,vs s15,vi s16,vs s17,vs s18,vi s19,vb s20,vi s21,vi s22,.fr (.own 55) false 12 (flatten (map aA.ienc s23))]),(19,vb s24),(0,.v (List.getD args0 0 undef))]) ?_ ?_
   ·rintro ⟨s4,s5,s6,s7,s8,s9,s10,s11,s12,s13,s14,s15,s16,s17,s18,s19,s20,s21,s22,s23,s24⟩ h
    refine ae ?_
    refine al _ rfl (fun hb28 => ?_) (fun hb28 => ?_)
    ·have h:=ar hb28 h
     refine aL hn 1 [0,4,0] ?_
     refine ao ?_
     refine ag [1,0,2] (by kernel_rfl) (es':=[(_,_),(_,_),(_,_)]) rfl ?_
     refine aR (ai ?_)
     obtain rfl:=zi h
     exact bJ (es:=[(4,.v (.int .i64 450))]) (posts:=[.box 80 [.v (.int .i64 s4),.v (.string s5),.v (.bool s6),.v (.string s7),.v (.string s8),.fl (.own 26) 3 (flatten (map ah.enc s9)),.v (.bool s10),.mkr 5 (map (int .u8) s11),.v (.string s12),.v (.bool s13),.v (.string s14),.v (.string s15),.v (.int .i64 s16),.v (.string s17),.v (.string s18),.v (.int .i64 s19),.v (.bool s20),.v (.int .i64 s21),.v (.int .i64 s22),.fr (.own 55) false 12 (flatten (map aA.ienc s23))]]) hio rfl rfl (.tmp _ _ .nil) rfl rfl hargs0 rfl
    ·have h:=aq hb28 h
     refine au (aP (ae ?_))
     refine aL hn 5 [0,0] ?_
     refine aL hn 1 [0,4,0] ?_
     refine ao ?_
     refine ag [1,0,2] (by kernel_rfl) (es':=[(_,_),(_,_),(_,_)]) rfl ?_
     obtain rfl:=zi h
     exact bJ (es:=[(4,.v (.int .i64 250))]) (posts:=[.box 80 [.v (.int .i64 6),.v (.string s5),.v (.bool s6),.v (.string s7),.v (.string s8),.fl (.own 26) 3 (flatten (map ah.enc s9)),.v (.bool s10),.mkr 5 (map (int .u8) s11),.v (.string s12),.v (.bool s13),.v (.string s14),.v (.string s15),.v (.int .i64 s16),.v (.string s17),.v (.string s18),.v (.int .i64 s19),.v (.bool s20),.v (.int .i64 s21),.v (.int .i64 s22),.fr (.own 55) false 12 (flatten (map aA.ienc s23))]]) hio rfl rfl (.tmp _ _ .nil) rfl rfl hargs0 rfl
   ·intro u25 h hl26 hr27
    refine am h (fun hg5_3 h => ?_) (fun hg5_3 h => ?_)
    ·obtain ⟨v3,hv3,h⟩:=zn h
     refine yx hn 4 ?_
     refine yd hg5_3 3 ?_
     refine yQ call141 (gV _ _ _ hv3) 0 [24,26] 3 ?_
     refine ye [0,19,0] ?_
     exact hl26 _ (zi h).symm
    ·refine yx hn 4 ?_
     refine yd hg5_3 7 ?_
     refine ye [0,19,0] ?_
     exact hl26 _ (zi h).symm
end Go.Proofs.YtjnnkhmhjcjhdaaGreatDoor
