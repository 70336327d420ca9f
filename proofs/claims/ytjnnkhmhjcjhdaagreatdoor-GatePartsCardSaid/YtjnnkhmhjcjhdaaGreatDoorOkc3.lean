import Derived.Test.YtjnnkhmhjcjhdaaGreatDoorOkc2
set_option linter.unusedVariables false
set_option linter.unusedSimpArgs false
set_option maxHeartbeats 1000000
namespace Go.Proofs.YtjnnkhmhjcjhdaaGreatDoor
open Go.Abs Go.Abs.Sh Tryz
open List (map flatten)
open Value (int)
theorem qJ (mx:Int×Nat×Value) (b:df) (r:Int) (h:Sh.iD b=some r):ir Tryz.prog (GL mx) 151 [.agg [.v (.int .i64 b.Kz),.v (.int .i64 b.Ky),.fr .shr true 8 (flatten (map aH.ienc b.Kw))]] (.v (.int .i64 r)):=by
 unfold Sh.iD at h
 refine yG 58 func151 fun g0 hn hio => ?_
 refine aG hn 2 [58,1] ?_
 refine ab (ab ?_)
 refine ay h (fun (s1:Bool)=>[(58,.glob (GL mx)),(1,.box 62 [vi b.Kz,vi b.Ky,.fr .shr true 8 (flatten (map aH.ienc b.Kw))]),(22,vb s1)]) ?_ ?_
 rintro s1 h
 refine af ?_
 refine zc h rfl (fun h => ?_) (fun h => ?_)
 refine aG hn 1 [58,2] ?_
 refine aj ?_
 refine ag [1] (by kernel_rfl) (es':=[(_,_)]) rfl ?_
 refine ai ?_
 obtain rfl:=zi h
 exact al hio rfl (.tmp _ _ .nil) rfl rfl
 refine am ?_
 refine af (ab ?_)
 refine ab ?_
 refine ay h (fun (s6:Bool)=>[(58,.glob (GL mx)),(1,.box 62 [vi b.Kz,vi b.Ky,.fr .shr true 8 (flatten (map aH.ienc b.Kw))]),(32,vb s6)]) ?_ ?_
 rintro s6 h
 refine af ?_
 refine zc h rfl (fun h => ?_) (fun h => ?_)
 refine aG hn 1 [58,2] ?_
 refine aj ?_
 refine ag [1] (by kernel_rfl) (es':=[(_,_)]) rfl ?_
 refine ai ?_
 obtain rfl:=zi h
 exact al hio rfl (.tmp _ _ .nil) rfl rfl
 refine am ?_
 refine af (ab ?_)
 refine aG hn 4 [58,34,35,36] ?_
 refine aU h (fun (s28:Int)=>[(58,.glob (GL mx)),(34,.fr .shr true 8 (flatten (map aH.ienc b.Kw))),(35,vi (b.Kw.length:Int)),(36,vi s28)]) (fun (():Unit)=>[(58,.glob (GL mx))]) ?_ ?_
 rintro ⟨⟩ h
 refine af ?_
 refine aG hn 1 [58,2] ?_
 refine aj ?_
 refine ag [1] (by kernel_rfl) (es':=[(_,_)]) rfl ?_
 obtain rfl:=zi h
 exact al hio rfl (.tmp _ _ .nil) rfl rfl
 rintro u35 hl36 hr37 s28 rr40 h ho38
 refine aG hn 1 [58,34,35,36,37] ?_
 refine ab ?_
 refine zc h rfl (fun h => ?_) (fun h => ?_)
 refine am ?_
 refine af (ab ?_)
 refine aC (ab ?_)
 obtain ⟨v12,hv12,v13,hv13,h⟩:=eo h
 refine yx hn 0 ?_
 refine ys 0 ⟨lI hv12⟩ ?_
 refine yS (.agg (aH.c v13 [])) 0 ⟨cd _ _ _ _ _ _ _ _ underlying53 rfl uN rfl rfl (nI aH.ilen hv13) (.cons (.v _) (.cons (.v _) (.cons (.v _) (.cons (.fl _ _ rfl) (.cons (.fl _ _ rfl) (.cons (.v _) (.cons (.v _) (.cons (.v _) (.nil))))))))) rfl (by decide)⟩ ?_
 refine yS (.box 53 [vb false,vs z0,vs z0,vz,vz,vb false,vs z0,vi 0]) 1 ⟨oA (aR _ _ Ck)⟩ ?_
 refine aV [58,34,35,36,4] ?_
 refine ab ?_
 refine ay h (fun (s42:Bool)=>[(58,.glob (GL mx)),(34,.fr .shr true 8 (flatten (map aH.ienc b.Kw))),(35,vi (b.Kw.length:Int)),(36,vi s28),(56,vb s42)]) ?_ ?_
 rintro s42 h
 refine af ?_
 refine zc h rfl (fun h => ?_) (fun h => ?_)
 refine aG hn 1 [58,2] ?_
 refine aj ?_
 refine ag [1] (by kernel_rfl) (es':=[(_,_)]) rfl ?_
 refine aE (ai (ai (aE (ai ?_))))
 have h:=hr37 _ (ho38 _ (zi h).symm).symm
 obtain rfl:=zi h
 exact al hio rfl (.tmp _ _ .nil) rfl rfl
 refine am (aI (af ?_))
 obtain ⟨v20,hv20,h⟩:=zn h
 refine yx hn 0 ?_
 refine ys 0 ⟨lb hv20⟩ ?_
 refine yw [36] 1 ?_
 refine ye [58,34,35,36] ?_
 exact bc _ (zi h).symm rfl
 intro u43 h hl44 hr45
 obtain ⟨v14,hv14,h⟩:=zn h
 refine ak h (fun hg8_3 h => ?_) (fun hg8_3 h => ?_)
 refine yx hn 1 ?_
 refine ys 2 ⟨lg call178 (er _ _ _ hv14) 58⟩ ?_
 refine yd hg8_3 13 ?_
 refine ye [58,34,35,36,56] ?_
 exact hl44 _ (zi h).symm
 refine ak h (fun hg8_7 h => ?_) (fun hg8_7 h => ?_)
 refine yx hn 1 ?_
 refine ys 2 ⟨lg call178 (er _ _ _ hv14) 58⟩ ?_
 refine yd hg8_3 4 ?_
 refine yd hg8_7 9 ?_
 refine ye [58,34,35,36,56] ?_
 exact hl44 _ (zi h).symm
 refine ak h (fun hg8_12 h => ?_) (fun hg8_12 h => ?_)
 refine yx hn 1 ?_
 refine ys 2 ⟨lg call178 (er _ _ _ hv14) 58⟩ ?_
 refine yd hg8_3 4 ?_
 refine yd hg8_7 5 ?_
 refine yd hg8_12 4 ?_
 refine ye [58,34,35,36,56] ?_
 exact hl44 _ (zi h).symm
 refine yx hn 1 ?_
 refine ys 2 ⟨lg call178 (er _ _ _ hv14) 58⟩ ?_
 refine yd hg8_3 4 ?_
 refine yd hg8_7 5 ?_
 refine yd hg8_12 4 ?_
 refine ye [58,34,35,36,56] ?_
 exact hl44 _ (zi h).symm
 refine bh (ar (ar (bb ?_)))
 refine ag [0] (by kernel_rfl) (es':=[(_,_)]) rfl ?_
 exact hl36 _ (ho38 _ (zi h).symm).symm
 intro u7 h hl8 hr9
 refine ak h (fun hg3_4 h => ?_) (fun hg3_4 h => ?_)
 refine yx hn 5 ?_
 refine yd hg3_4 5 ?_
 refine ye [58,1,32] ?_
 exact hl8 _ (zi h).symm
 refine yx hn 5 ?_
 refine yd hg3_4 5 ?_
 refine ye [58,1,32] ?_
 exact hl8 _ (zi h).symm
 intro u2 h hl3 hr4
 refine ak h (fun hg1_3 h => ?_) (fun hg1_3 h => ?_)
 refine ak h (fun hg1_8 h => ?_) (fun hg1_8 h => ?_)
 refine yx hn 4 ?_
 refine yd hg1_3 5 ?_
 refine yd hg1_8 9 ?_
 refine ye [58,1,22] ?_
 exact hl3 _ (zi h).symm
 refine ak h (fun hg1_13 h => ?_) (fun hg1_13 h => ?_)
 refine yx hn 4 ?_
 refine yd hg1_3 5 ?_
 refine yd hg1_8 5 ?_
 refine yd hg1_13 4 ?_
 refine ye [58,1,22] ?_
 exact hl3 _ (zi h).symm
 refine yx hn 4 ?_
 refine yd hg1_3 5 ?_
 refine yd hg1_8 5 ?_
 refine yd hg1_13 4 ?_
 refine ye [58,1,22] ?_
 exact hl3 _ (zi h).symm
 refine ak h (fun hg1_13 h => ?_) (fun hg1_13 h => ?_)
 refine yx hn 4 ?_
 refine yd hg1_3 10 ?_
 refine yd hg1_13 4 ?_
 refine ye [58,1,22] ?_
 exact hl3 _ (zi h).symm
 refine yx hn 4 ?_
 refine yd hg1_3 10 ?_
 refine yd hg1_13 4 ?_
 refine ye [58,1,22] ?_
 exact hl3 _ (zi h).symm
theorem uF (mx:Int×Nat×Value) (p:T_Path) (r:(KK×Int)) (h:Sh.lm p=some r):ir Tryz.prog (GL mx) 180 [.agg [.v (.bool p.Kx),.v (.string p.Ks),.v (.string p.Kg)]] (.tup [.v (.string r.1),.v (.int .i64 r.2)]):=by
 unfold Sh.lm at h
 refine yG 20 func180 fun g0 hn hio => ?_
 refine aG hn 3 [20,1] ?_
 refine ab (ab ?_)
 obtain ⟨v1,hv1,h⟩:=zn h
 refine yx hn 1 ?_
 refine ys 1 ⟨lg call162 (cA _ _ _ hv1) 20⟩ ?_
 refine aV [20,1,4] ?_
 refine aG hn 2 [20,1,4,8] ?_
 refine zc h rfl (fun h => ?_) (fun h => ?_)
 refine aG hn 3 [20,2,3] ?_
 refine aj ?_
 refine ag [1,2] (by kernel_rfl) (es':=[(_,_),(_,_)]) rfl ?_
 refine ai ?_
 obtain rfl:=zi h
 exact al hio rfl (.tmp _ _ (.tmp _ _ .nil)) rfl rfl
 refine am ?_
 refine af (ab ?_)
 refine aG hn 2 [20,1,11] ?_
 refine zc h rfl (fun h => ?_) (fun h => ?_)
 refine aG hn 2 [20,2,3] ?_
 refine aj ?_
 refine ag [1,2] (by kernel_rfl) (es':=[(_,_),(_,_)]) rfl ?_
 refine ai ?_
 obtain rfl:=zi h
 exact al hio rfl (.tmp _ _ (.tmp _ _ .nil)) rfl rfl
 refine am ?_
 refine af (ab ?_)
 obtain ⟨v4,hv4,v5,hv5,v6,hv6,v7,hv7,h⟩:=ld h
 refine yx hn 2 ?_
 refine ys 0 ⟨lB (fZ hv4)⟩ ?_
 refine ys 2 ⟨lB (fZ hv5)⟩ ?_
 refine ys 0 ⟨lB (fZ hv6)⟩ ?_
 refine ys 2 ⟨lB (fZ hv7)⟩ ?_
 refine aV [20,2,3] ?_
 refine aj ?_
 refine ag [1,2] (by kernel_rfl) (es':=[(_,_),(_,_)]) rfl ?_
 obtain rfl:=zi h
 exact al hio rfl (.tmp _ _ (.tmp _ _ .nil)) rfl rfl
theorem gG (mx:Int×Nat×Value) (word:KK) (p:T_Path) (cap:(List Int)) (r:(List Int)) (h:Sh.ce word p cap=some r):mL Tryz.prog (GL mx) 179 [.v (.string word),.agg [.v (.bool p.Kx),.v (.string p.Ks),.v (.string p.Kg)],.box 28 [.fl (.own 5) 1 (map (int .u8) cap)]] [.v (.string word),.agg [.v (.bool p.Kx),.v (.string p.Ks),.v (.string p.Kg)],.box 28 [.fl (.own 5) 1 (map (int .u8) r)]] (.tup []):=by
 unfold Sh.ce at h
 refine CT 18 func179 fun args0 hargs0 g0 hn hio => ?_
 refine aG hn 1 [0,1,2,18,4,0,1,2] ?_
 refine ab ?_
 obtain ⟨v1,hv1,h⟩:=zn h
 refine yx hn 1 ?_
 refine ys 0 ⟨lg call180 (uF _ _ _ hv1) 18⟩ ?_
 refine ym 4 ?_
 refine aV [0,1,2,18,5,0,1,2] ?_
 obtain ⟨v2,hv2,v3,hv3,v4,hv4,h⟩:=rZ h
 refine yx hn 3 ?_
 refine ys 0 ⟨lB (fZ hv2)⟩ ?_
 refine ys 0 ⟨lB (fZ hv3)⟩ ?_
 refine yk [2] [12,16] ?_
 refine nE (2,.box 28 [.any]) (17,.fl (.own 5) 1 (map (int .u8) v4)) 0 ⟨dP _ _ _ _ _ _ jN uA underlying9 rfl rfl (zl rfl) rfl rfl hv4 rfl (Nat.ne_of_beq_eq_false rfl) rfl rfl⟩ ?_
 refine yw [12] 0 ?_
 refine yk [17,2] [] ?_
 refine yt (2,.box 28 [.fl (.own 5) 1 (map (int .u8) v4)]) 0 ⟨aM _ _ _ _ _ _ _ _ kQ rfl rfl rfl (zl rfl) rfl rfl⟩ ?_
 refine ye [0,1,2,18,0,1,2] ?_
 refine ag [0,1,2,4,5,6] (by kernel_rfl) (es':=[(_,_),(_,_),(_,_),(_,_),(_,_),(_,_)]) rfl ?_
 obtain rfl:=zi h
 exact kJ (es:=[]) (posts:=[.v (.string word),.agg [.v (.bool p.Kx),.v (.string p.Ks),.v (.string p.Kg)],.box 28 [.fl (.own 5) 1 (map (int .u8) v4)]]) hio rfl rfl .nil rfl rfl hargs0 rfl
theorem sI (mx:Int×Nat×Value) (b:(List Int)) (r:((List Int)×Int)) (h:Sh.kq b=some r):ir Tryz.prog (GL mx) 181 [.fl .shr 1 (map (int .u8) b)] (.tup [.fl (.own 5) 1 (map (int .u8) r.1),.v (.int .i64 r.2)]):=by
 unfold Sh.kq at h
 refine yG 28 func181 fun g0 hn hio => ?_
 refine aG hn 2 [0,28] ?_
 refine ab (ab ?_)
 obtain ⟨v1,hv1,h⟩:=zn h
 refine yx hn 1 ?_
 refine ys 1 ⟨lg call95 (jp _ _ _ hv1) 28⟩ ?_
 refine aV [0,28,4] ?_
 refine aG hn 2 [0,28,4,10] ?_
 refine zc h rfl (fun h => ?_) (fun h => ?_)
 refine aG hn 3 [28,2,3] ?_
 refine aj ?_
 refine ag [1,2] (by kernel_rfl) (es':=[(_,_),(_,_)]) rfl ?_
 refine cm (fs:=[(2,.fl (.own 5) 1 (map (int .u8) [])),(3,vi v1)]) (.sub _ (bI 5 1) rfl (.same _ .nil)) ?_
 refine ai ?_
 obtain rfl:=zi h
 exact al hio rfl (.tmp _ _ (.tmp _ _ .nil)) rfl rfl
 refine am (af ?_)
 refine gE hn 0 ?_
 refine yS (.box 28 [vz]) 0 ⟨oA (aR _ _ De)⟩ ?_
 refine aV [0,28,5] ?_
 refine ab (ab ?_)
 obtain ⟨v3,hv3,h⟩:=zn h
 refine yx hn 1 ?_
 refine yk [] [12] ?_
 refine yt (13,.cloB 123 [.box 28 [fb v3]]) 0 ⟨gJ _ _ 96 _ _ rfl call96 rfl rfl (gL b _ hv3) rfl⟩ ?_
 refine aV [28,5,13] ?_
 refine aC ?_
 refine jo [2,0,1] (by kernel_rfl) (es':=[(13,.cloB 123 [.box 28 [fb v3]]),(28,.glob (GL mx)),(5,.box 28 [vz])]) rfl ?_
 refine oJ (fs:=[(13,.cloB 123 [.box 28 [fb v3]]),(28,.glob (GL mx)),(5,.box 28 [.fl (.own 5) 1 (map (int .u8) [])])]) (.same _ (.same _ (.box _ _ (ae (bI 5 1) (bj)) rfl .nil))) ?_
 refine ia h 123 13 14 29 _ [28,5] call123 (fun (s21:(List Int))=>[(28,.glob (GL mx)),(5,.box 28 [.fl (.own 5) 1 (map (int .u8) s21)])]) (fun (():Unit)=>[]) (fun l J Y hY t t' h=>fa mx l J Y hY v3 t t' h) hn rfl (fun _=>rfl) (fun _=>rfl) (fun _=>rfl) rfl rfl (fun _=>⟨rfl,rfl⟩) rfl (gY 28 rfl) ?_ ?_ ?_
 rintro kk g0 hn hio x s21 u h
 refine qo (es':=[(14,fb x),(28,.glob (GL mx)),(5,.box 28 [.fl (.own 5) 1 (map (int .u8) s21)]),(28,.v (kk.tm.getD 28 undef)),(5,.v (kk.tm.getD 5 undef)),(29,.inv kk.ready)]) rfl ?_
 refine yy hn 1 [28,5,29,6,28,5] ?_
 refine ag [0,1,3,4,5,2] (by kernel_rfl) (es':=[(28,.glob (GL mx)),(5,.box 28 [.fl (.own 5) 1 (map (int .u8) s21)]),(6,fb x),(28,.v (kk.tm.getD 28 undef)),(5,.v (kk.tm.getD 5 undef)),(29,.inv kk.ready)]) rfl ?_
 refine jt (es:=[(28,.glob (GL mx)),(5,.box 28 [.fl (.own 5) 1 (map (int .u8) s21)]),(6,fb x),(28,.v (kk.tm.getD 28 undef)),(5,.v (kk.tm.getD 5 undef))]) 29 rfl ?_
 refine aC (ab ?_)
 refine ay h (fun (s29:(List Int))=>[(28,.glob (GL mx)),(5,.box 28 [.fl (.own 5) 1 (map (int .u8) s29)]),(6,fb x),(29,.inv kk.busy),(28,.v (kk.tm.getD 28 undef)),(5,.v (kk.tm.getD 5 undef))]) ?_ ?_
 rintro s29 h
 refine af (ab ?_)
 obtain ⟨v12,hv12,h⟩:=zn h
 refine yx hn 2 ?_
 refine yk [5] [21,22] ?_
 refine nE (5,.box 28 [.any]) (23,.fl (.own 5) 1 (map (int .u8) v12)) 0 ⟨ib _ _ _ _ _ _ jN rfl rfl (zl rfl) rfl (gp _) (gp _) hv12 ((List.map_append).symm.trans (congrArg (map _) (jb hv12))) (Nat.ne_of_beq_eq_false rfl) rfl rfl⟩ ?_
 refine yw [21] 0 ?_
 refine yk [23,5] [] ?_
 refine yt (5,.box 28 [.fl (.own 5) 1 (map (int .u8) v12)]) 0 ⟨aM _ _ _ _ _ _ _ _ kQ rfl rfl rfl (zl rfl) rfl rfl⟩ ?_
 refine aV [28,5,29,28,5] ?_
 obtain ⟨v13,hv13,h⟩:=zn h
 refine yx hn 1 ?_
 refine yk [5] [24] ?_
 refine nE (5,.box 28 [.any]) (25,.fl (.own 5) 1 (map (int .u8) v13)) 0 ⟨dP _ _ _ _ _ _ jN uA underlying9 rfl rfl (zl rfl) rfl rfl hv13 rfl (Nat.ne_of_beq_eq_false rfl) rfl rfl⟩ ?_
 refine yw [24] 0 ?_
 refine yk [25,5] [] ?_
 refine yt (5,.box 28 [.fl (.own 5) 1 (map (int .u8) v13)]) 0 ⟨aM _ _ _ _ _ _ _ _ kQ rfl rfl rfl (zl rfl) rfl rfl⟩ ?_
 refine ye [28,5,29,28,5] ?_
 refine aI ?_
 refine ag [0,1,3,4,2] (by kernel_rfl) (es':=[(_,_),(_,_),(_,_),(_,_),(_,_)]) rfl ?_
 obtain rfl:=zi h
 exact jB 29 [28,5] _ rfl rfl (by kernel_rfl)
 intro u30 h hl31 hr32
 refine ab ?_
 obtain ⟨v4,hv4,h⟩:=zn h
 refine yx hn 1 ?_
 refine yS (.fl (.own 5) 1 (map (int .u8) [46])) 0 ⟨bi _ _ 1 (.int .u8 0) (map (int .u8) [46]) [(0,.int .u8 46)] underlying28 lQ uA (fun _ V w o a hv hes=>by simp only [List.map_toArray,List.map_cons,List.map_nil]; try rfl) (dn (by simp [Instr.fill,Value.cells]; rfl) (by simp [List.range,List.range.loop] <;> rfl)) (by simp [Value.oneCell']) rfl (by decide) (by decide) (by decide)⟩ ?_
 refine yk [16] [] ?_
 refine yt (17,.fl .ro 1 (map (int .u8) [46])) 0 ⟨gn _ _ _ underlying28 underlying5 (by intro h; cases h)⟩ ?_
 refine ys 0 ⟨lk call124 (ko _ _ _ hv4)⟩ ?_
 refine aV [28,5,6,29,18,28,5] ?_
 refine zc h rfl (fun h => ?_) (fun h => ?_)
 obtain ⟨v6,hv6,h⟩:=zn h
 refine yx hn 1 ?_
 refine yk [5] [19] ?_
 refine nE (5,.box 28 [.any]) (20,.fl (.own 5) 1 (map (int .u8) v6)) 0 ⟨dP _ _ _ _ _ _ jN uA underlying9 rfl rfl (zl rfl) rfl rfl hv6 rfl (Nat.ne_of_beq_eq_false rfl) rfl rfl⟩ ?_
 refine yw [19] 0 ?_
 refine yk [20,5] [] ?_
 refine yt (5,.box 28 [.fl (.own 5) 1 (map (int .u8) v6)]) 0 ⟨aM _ _ _ _ _ _ _ _ kQ rfl rfl rfl (zl rfl) rfl rfl⟩ ?_
 refine ye [28,5,6,29,28,5] ?_
 exact hl31 _ (zi h).symm
 refine am ?_
 refine ag [0,1,2,3,5,6] (by kernel_rfl) (es':=[(_,_),(_,_),(_,_),(_,_),(_,_),(_,_)]) rfl ?_
 exact hl31 _ (zi h).symm
 rintro D s21 h
 refine aI ?_
 refine af (ab ?_)
 obtain ⟨v34,hv34,h⟩:=zn h
 refine yx hn 1 ?_
 refine yk [5] [26] ?_
 refine nE (5,.box 28 [.any]) (27,.fl (.own 5) 1 (map (int .u8) v34)) 0 ⟨dP _ _ _ _ _ _ jN uA underlying9 rfl rfl (zl rfl) rfl rfl hv34 rfl (Nat.ne_of_beq_eq_false rfl) rfl rfl⟩ ?_
 refine ya 1 ?_
 refine aV [28,2,3] ?_
 refine aj ?_
 refine ag [1,2] (by kernel_rfl) (es':=[(_,_),(_,_)]) rfl ?_
 obtain rfl:=zi h
 exact al hio rfl (.tmp _ _ (.tmp _ _ .nil)) rfl rfl
 rintro D ⟨⟩ h
 cases h
theorem oZ (mx:Int×Nat×Value) (mails:(List aH)) (r:(List Int)) (h:Sh.eZ mails=some r):ir Tryz.prog (GL mx) 152 [.fr .shr true 8 (flatten (map aH.ienc mails))] (.fl (.own 5) 1 (map (int .u8) r)):=by
 unfold Sh.eZ at h
 refine yG 47 func152 fun g0 hn hio => ?_
 refine aG hn 1 [0,47] ?_
 refine gE hn 0 ?_
 refine yS (.box 28 [vz]) 0 ⟨oA (aR _ _ De)⟩ ?_
 refine aV [0,47,3] ?_
 refine gE hn 0 ?_
 refine yS (.clo 179 [3]) 1 ⟨lp _ _ _ 3 (by decide)⟩ ?_
 refine aV [0,47,3,4] ?_
 refine ab ?_
 refine aG hn 3 [47,3,4,12,13,14] ?_
 refine oJ (fs:=[(47,.glob (GL mx)),(3,.box 28 [.fl (.own 5) 1 (map (int .u8) [])]),(4,.clo 179 [3]),(12,.fr .shr true 8 (flatten (map aH.ienc mails))),(13,vi (mails.length:Int)),(14,vi 0)]) (.same _ (.box _ _ (ae (bI 5 1) (bj)) rfl (.same _ (.same _ (.same _ (.same _ .nil)))))) ?_
 refine aU h (fun ((s46,s47):(List Int)×Int)=>[(47,.glob (GL mx)),(3,.box 28 [.fl (.own 5) 1 (map (int .u8) s46)]),(4,.clo 179 [3]),(12,.fr .shr true 8 (flatten (map aH.ienc mails))),(13,vi (mails.length:Int)),(14,vi s47)]) (fun (s64:(List Int))=>[(47,.glob (GL mx)),(3,.box 28 [.fl (.own 5) 1 (map (int .u8) s64)])]) ?_ ?_
 rintro s64 h
 refine af (ab ?_)
 obtain ⟨v87,hv87,h⟩:=zn h
 refine yx hn 1 ?_
 refine yk [3] [45] ?_
 refine nE (3,.box 28 [.any]) (46,.fl (.own 5) 1 (map (int .u8) v87)) 0 ⟨dP _ _ _ _ _ _ jN uA underlying9 rfl rfl (zl rfl) rfl rfl hv87 rfl (Nat.ne_of_beq_eq_false rfl) rfl rfl⟩ ?_
 refine ya 0 ?_
 refine aV [47,2] ?_
 refine aj ?_
 refine ag [1] (by kernel_rfl) (es':=[(_,_)]) rfl ?_
 obtain rfl:=zi h
 exact al hio rfl (.tmp _ _ .nil) rfl rfl
 rintro u65 hl66 hr67 ⟨s46,s47⟩ rr70 h ho68
 refine aG hn 1 [47,3,4,12,13,14,15] ?_
 refine ab ?_
 refine zc h rfl (fun h => ?_) (fun h => ?_)
 refine am ?_
 refine af (ab ?_)
 refine aC (ab ?_)
 obtain ⟨v2,hv2,v3,hv3,h⟩:=eo h
 refine yx hn 0 ?_
 refine ys 0 ⟨lI hv2⟩ ?_
 refine yS (.agg (aH.c v3 [])) 0 ⟨cd _ _ _ _ _ _ _ _ underlying53 rfl uN rfl rfl (nI aH.ilen hv3) (.cons (.v _) (.cons (.v _) (.cons (.v _) (.cons (.fl _ _ rfl) (.cons (.fl _ _ rfl) (.cons (.v _) (.cons (.v _) (.cons (.v _) (.nil))))))))) rfl (by decide)⟩ ?_
 refine yS (.box 53 [vb false,vs z0,vs z0,vz,vz,vb false,vs z0,vi 0]) 1 ⟨oA (aR _ _ Ck)⟩ ?_
 refine aV [47,3,4,12,13,14,6] ?_
 refine ab ?_
 obtain ⟨v4,hv4,h⟩:=zn h
 refine yx hn 3 ?_
 refine yk [3] [18,20,47] ?_
 refine nE (3,.box 28 [.fl (.own 5) 1 (map (int .u8) v4)]) (21,.tup []) 0 ⟨tn _ _ _ 21 18 3 47 179 [_,.tmp 20] _ _ _ _ rfl call179 rfl rfl rfl (fun _ h=>h) (gG mx (⟨#[77,65,73,76,32,70,82,79,77,58]⟩:KK) (T_Path.mk v3.Kj.Kx v3.Kj.Ks v3.Kj.Kg) s46 _ hv4) rfl rfl rfl rfl rfl rfl rfl rfl⟩ ?_
 refine aV [47,3,4,12,13,14,6] ?_
 refine ab ?_
 refine aG hn 4 [47,3,4,12,13,14,6,23,24,25] ?_
 refine aU h (fun ((s76,s77):(List Int)×Int)=>[(47,.glob (GL mx)),(3,.box 28 [.fl (.own 5) 1 (map (int .u8) s76)]),(4,.clo 179 [3]),(12,.fr .shr true 8 (flatten (map aH.ienc mails))),(13,vi (mails.length:Int)),(14,vi s47),(6,.box 53 (aH.c v3 [])),(23,.fl .shr 3 (flatten (map T_Path.enc v3.To))),(24,vi (v3.To.length:Int)),(25,vi s77)]) (fun (s79:(List Int))=>[(47,.glob (GL mx)),(3,.box 28 [.fl (.own 5) 1 (map (int .u8) s79)]),(4,.clo 179 [3]),(12,.fr .shr true 8 (flatten (map aH.ienc mails))),(13,vi (mails.length:Int)),(14,vi s47),(6,.box 53 (aH.c v3 []))]) ?_ ?_
 rintro s79 h
 refine af (ab ?_)
 obtain ⟨v24,hv24,h⟩:=zn h
 refine yx hn 1 ?_
 refine yk [3] [33] ?_
 refine nE (3,.box 28 [.any]) (34,.fl (.own 5) 1 (map (int .u8) v24)) 0 ⟨dP _ _ _ _ _ _ jN uA underlying9 rfl rfl (zl rfl) rfl rfl hv24 rfl (Nat.ne_of_beq_eq_false rfl) rfl rfl⟩ ?_
 refine yw [33] 0 ?_
 refine yk [34,3] [] ?_
 refine yt (3,.box 28 [.fl (.own 5) 1 (map (int .u8) v24)]) 0 ⟨aM _ _ _ _ _ _ _ _ kQ rfl rfl rfl (zl rfl) rfl rfl⟩ ?_
 refine aV [47,3,4,12,13,14,6] ?_
 refine ab ?_
 obtain ⟨v25,hv25,h⟩:=zn h
 refine yx hn 2 ?_
 refine ys 0 ⟨lg call181 (sI _ _ _ hv25) 47⟩ ?_
 refine ym 0 ?_
 refine Ij 1 ?_
 refine ya 1 ?_
 refine aV [47,3,4,12,13,14,9] ?_
 obtain ⟨v26,hv26,h⟩:=zn h
 refine yx hn 1 ?_
 refine ym 0 ?_
 refine yk [3] [41,42] ?_
 refine nE (3,.box 28 [.any]) (43,.fl (.own 5) 1 (map (int .u8) v26)) 0 ⟨ib _ _ _ _ _ _ jN rfl rfl (zl rfl) rfl (gp _) (gp _) hv26 ((List.map_append).symm.trans (congrArg (map _) (jb hv26))) (Nat.ne_of_beq_eq_false rfl) rfl rfl⟩ ?_
 refine yw [41] 0 ?_
 refine yk [43,3] [] ?_
 refine yt (3,.box 28 [.fl (.own 5) 1 (map (int .u8) v26)]) 0 ⟨aM _ _ _ _ _ _ _ _ kQ rfl rfl rfl (zl rfl) rfl rfl⟩ ?_
 refine ye [47,3,4,12,13,14] ?_
 refine aI (af ?_)
 obtain ⟨v27,hv27,h⟩:=zn h
 refine yx hn 0 ?_
 refine ys 0 ⟨lb hv27⟩ ?_
 refine yw [14] 1 ?_
 refine ye [47,3,4,12,13,14] ?_
 exact bc _ (zi h).symm rfl
 rintro u80 hl81 hr82 ⟨s76,s77⟩ rr85 h ho83
 refine aG hn 1 [47,3,4,12,13,14,6,23,24,25,26] ?_
 refine ab ?_
 refine zc h rfl (fun h => ?_) (fun h => ?_)
 refine am ?_
 refine af (ab ?_)
 refine aC (ab ?_)
 obtain ⟨v6,hv6,v7,hv7,h⟩:=eo h
 refine yx hn 0 ?_
 refine ys 0 ⟨lj hv6⟩ ?_
 refine yS (.agg [vb v7.Kx,vs v7.Ks,vs v7.Kg]) 0 ⟨iY _ _ _ _ _ _ _ underlying26 rfl sN rfl rfl (kf T_Path.len hv7) rfl (by decide)⟩ ?_
 refine yS (.box 26 [vb false,vs z0,vs z0]) 1 ⟨oA (aR _ _ sB)⟩ ?_
 refine aV [47,3,4,12,13,14,6,23,24,25,8] ?_
 obtain ⟨v8,hv8,h⟩:=zn h
 refine yx hn 2 ?_
 refine yk [3] [29,30,47] ?_
 refine nE (3,.box 28 [.fl (.own 5) 1 (map (int .u8) v8)]) (31,.tup []) 0 ⟨tn _ _ _ 31 29 3 47 179 [_,.tmp 30] _ _ _ _ rfl call179 rfl rfl rfl (fun _ h=>h) (gG mx (⟨#[82,67,80,84,32,84,79,58]⟩:KK) v7 s76 _ hv8) rfl rfl rfl rfl rfl rfl rfl rfl⟩ ?_
 refine ye [47,3,4,12,13,14,6,23,24,25] ?_
 refine aI (af ?_)
 obtain ⟨v9,hv9,h⟩:=zn h
 refine yx hn 0 ?_
 refine ys 0 ⟨lb hv9⟩ ?_
 refine yw [25] 1 ?_
 refine ye [47,3,4,12,13,14,6,23,24,25] ?_
 exact bc _ (zi h).symm rfl
 refine bh (ar (ar (bb ?_)))
 refine ag [0,1,2,3,4,5,6] (by kernel_rfl) (es':=[(_,_),(_,_),(_,_),(_,_),(_,_),(_,_),(_,_)]) rfl ?_
 exact hl81 _ (ho83 _ (zi h).symm).symm
 refine bh (ar (ar (bb ?_)))
 refine ag [0,1] (by kernel_rfl) (es':=[(_,_),(_,_)]) rfl ?_
 exact hl66 _ (ho68 _ (zi h).symm).symm
theorem sW (divisor:Int) (r:(List Int)) (h:Sh.jS divisor=some r):bM Tryz.prog 202 [.v (.int .u32 divisor)] (.v (.agg (map (int .u32) r).toArray)):=by
 unfold Sh.jS at h
 refine yO 29 func202 fun g0 hn hio => ?_
 refine gE hn 0 ?_
 refine yS (.arr 222 (map (int .u32) ((List.replicate 16 (0:Int))))) 0 ⟨oA (bY _ yK)⟩ ?_
 refine aV [0,2] ?_
 refine gE hn 0 ?_
 refine yS (.arr 222 (map (int .u32) ((List.replicate 16 (0:Int))))) 0 ⟨oA (bY _ yK)⟩ ?_
 refine aV [0,2,3] ?_
 refine ab ?_
 refine aG hn 1 [0,2,3,7] ?_
 refine aU h (fun ((s91,s92):(List Int)×Int)=>[(0,.v (.int .u32 divisor)),(2,.arr 222 (map (int .u32) ((List.replicate 16 (0:Int))))),(3,.arr 222 (map (int .u32) s91)),(7,vi s92)]) (fun (s133:(List Int))=>[(2,.arr 222 (map (int .u32) ((List.replicate 16 (0:Int))))),(3,.arr 222 (map (int .u32) s133))]) ?_ ?_
 rintro s133 h
 refine af (ab ?_)
 obtain ⟨v180,hv180,v181,hv181,v182,hv182,h⟩:=rZ h
 refine yx hn 0 ?_
 refine yS (.v (.agg (map (int .u32) s133).toArray)) 0 ⟨iP _ _ _ _ underlying222 rfl (zh.trans (congrArg some (bq hv180))) rfl rfl⟩ ?_
 refine yk [2] [28] ?_
 refine yt (2,.arr 222 (map (int .u32) s133)) 0 ⟨cj _ _ _ _ (zh.trans (congrArg some (bq hv182))) rfl rfl (fw (fun _=>rfl) _) ((bq (f:=int .u32) hv181).symm.trans (bq (f:=int .u32) hv182))⟩ ?_
 refine aV [2] ?_
 refine aj ?_
 obtain ⟨v183,hv183,h⟩:=zn h
 obtain rfl:=zi h
 exact al hio rfl (.cellR _ _ _ _ underlying222 rfl (zh.trans (congrArg some (bq hv183))) .nil) rfl rfl
 rintro u134 hl135 hr136 ⟨s91,s92⟩ rr139 h ho137
 refine aG hn 1 [0,2,3,7,8] ?_
 refine ab ?_
 refine zc h rfl (fun h => ?_) (fun h => ?_)
 refine am ?_
 refine af (ab ?_)
 refine aC ?_
 refine aG hn 2 [0,2,3,7,4] ?_
 refine ab ?_
 obtain ⟨v2,hv2,h⟩:=zn h
 refine yx hn 1 ?_
 refine ys 1 ⟨lv hv2⟩ ?_
 refine aV [0,2,3,7,4,5] ?_
 refine ab ?_
 refine aG hn 1 [0,2,3,7,4,5,12] ?_
 refine aU h (fun ((s157,s158):Int×Int)=>[(0,.v (.int .u32 divisor)),(2,.arr 222 (map (int .u32) ((List.replicate 16 (0:Int))))),(3,.arr 222 (map (int .u32) s91)),(7,vi s92),(4,vi s92),(5,.v (.int .u32 s157)),(12,vi s158)]) (fun (s166:Int)=>[(0,.v (.int .u32 divisor)),(2,.arr 222 (map (int .u32) ((List.replicate 16 (0:Int))))),(3,.arr 222 (map (int .u32) s91)),(7,vi s92),(4,vi s92),(5,.v (.int .u32 s166))]) ?_ ?_
 rintro s166 h
 refine af ?_
 obtain ⟨v46,hv46,v47,hv47,h⟩:=eo h
 refine yx hn 2 ?_
 refine yS (.ptr 3 v46) 0 ⟨cJ _ _ _ _ 16 3 _ underlying222 im rfl rfl (bo hv46).1 (bo hv46).2 (by decide)⟩ ?_
 refine yk [3] [26,25] ?_
 refine yt (3,.arr 222 (map (int .u32) v47)) 0 ⟨mg _ _ _ _ _ _ im rfl rfl rfl rfl (xU hv47) (xW (f:=int .u32) hv47)⟩ ?_
 refine ye [0,2,3,7] ?_
 refine aI (af ?_)
 obtain ⟨v48,hv48,h⟩:=zn h
 refine yx hn 0 ?_
 refine ys 0 ⟨lb hv48⟩ ?_
 refine yw [7] 1 ?_
 refine ye [0,2,3,7] ?_
 exact bc _ (zi h).symm rfl
 rintro u167 hl168 hr169 ⟨s157,s158⟩ rr172 h ho170
 refine aG hn 1 [0,2,3,7,4,5,12,13] ?_
 refine ab ?_
 refine zc h rfl (fun h => ?_) (fun h => ?_)
 refine am ?_
 refine af (ab ?_)
 refine ay h (fun (s175:Int)=>[(0,.v (.int .u32 divisor)),(2,.arr 222 (map (int .u32) ((List.replicate 16 (0:Int))))),(3,.arr 222 (map (int .u32) s91)),(7,vi s92),(4,vi s92),(12,vi s158),(5,.v (.int .u32 s175))]) ?_ ?_
 rintro s175 h
 refine af ?_
 obtain ⟨v13,hv13,h⟩:=zn h
 refine yx hn 0 ?_
 refine ys 0 ⟨lb hv13⟩ ?_
 refine yw [12] 1 ?_
 refine ye [0,2,3,7,4,5,12] ?_
 exact bc _ (zi h).symm rfl
 intro u176 h hl177 hr178
 refine aC (ab ?_)
 obtain ⟨v4,hv4,h⟩:=zn h
 refine yx hn 1 ?_
 refine ys 1 ⟨lb hv4⟩ ?_
 refine aV [0,2,3,7,4,5,12,6] ?_
 refine ab ?_
 obtain ⟨v5,hv5,h⟩:=zn h
 refine yx hn 1 ?_
 refine ys 0 ⟨lB (lW hv5)⟩ ?_
 refine yw [5] 1 ?_
 refine aV [0,2,3,7,4,12,6,5] ?_
 refine aG hn 2 [0,2,3,7,4,12,5,19] ?_
 refine zc h rfl (fun h => ?_) (fun h => ?_)
 obtain ⟨v7,hv7,h⟩:=zn h
 refine yx hn 2 ?_
 refine ys 0 ⟨lb hv7⟩ ?_
 refine yw [5] 1 ?_
 refine ye [0,2,3,7,4,12,5] ?_
 refine aI ?_
 exact hl177 _ (zi h).symm
 refine am (aI ?_)
 refine ag [0,1,2,3,4,5,6] (by kernel_rfl) (es':=[(_,_),(_,_),(_,_),(_,_),(_,_),(_,_),(_,_)]) rfl ?_
 exact hl177 _ (zi h).symm
 refine bh (ar (ar (bb ?_)))
 refine ag [0,1,2,3,4,5] (by kernel_rfl) (es':=[(_,_),(_,_),(_,_),(_,_),(_,_),(_,_)]) rfl ?_
 exact hl168 _ (ho170 _ (zi h).symm).symm
 refine bh (ar (ar (bb ?_)))
 refine ag [1,2] (by kernel_rfl) (es':=[(_,_),(_,_)]) rfl ?_
 exact hl135 _ (ho137 _ (zi h).symm).symm
theorem wh (b:(List Int)) (width:Int) (divisor:Int) (r:Int) (h:Sh.pH b width divisor=some r):bM Tryz.prog 182 [.fl .shr 1 (map (int .u8) b),.v (.int .i64 width),.v (.int .u32 divisor)] (.v (.int .i64 r)):=by
 unfold Sh.pH at h
 refine yO 47 func182 fun g0 hn hio => ?_
 refine aG hn 1 [0,1,2] ?_
 refine ab ?_
 obtain ⟨v1,hv1,v2,hv2,v3,hv3,h⟩:=rZ h
 refine yx hn 1 ?_
 refine ys 0 ⟨lk call202 (sW _ _ hv1)⟩ ?_
 refine yS (.arr 222 (map (int .u32) ((List.replicate 16 (0:Int))))) 0 ⟨oA (bY _ yK)⟩ ?_
 refine yk [7] [13] ?_
 refine yt (7,.arr 222 (map (int .u32) v1)) 0 ⟨cj _ _ _ _ (zh.trans (congrArg some (bq hv3))) rfl rfl (fw (fun _=>rfl) _) ((bq (f:=int .u32) hv2).symm.trans (bq (f:=int .u32) hv3))⟩ ?_
 refine aV [0,1,7] ?_
 refine ab ?_
 obtain ⟨v4,hv4,v5,hv5,h⟩:=eo h
 refine yx hn 1 ?_
 refine ys 0 ⟨lB (qd hv4)⟩ ?_
 refine ys 1 ⟨lb hv5⟩ ?_
 refine aV [0,7,8] ?_
 refine aG hn 2 [0,7,8,9] ?_
 refine ab ?_
 refine aG hn 3 [7,8,9,18,19,20] ?_
 refine aU h (fun ((s25,s26):Int×Int)=>[(7,.arr 222 (map (int .u32) v1)),(8,.v (.int .u32 v5)),(9,.v (.int .u32 s25)),(18,fb b),(19,vi (b.length:Int)),(20,vi s26)]) (fun (s28:Int)=>[(8,.v (.int .u32 v5)),(9,.v (.int .u32 s28))]) ?_ ?_
 rintro s28 h
 refine af (ab ?_)
 obtain ⟨v36,hv36,v37,hv37,h⟩:=eo h
 refine yx hn 2 ?_
 refine ys 0 ⟨lb hv36⟩ ?_
 refine ys 1 ⟨lv hv37⟩ ?_
 refine aV [6] ?_
 refine aj ?_
 obtain rfl:=zi h
 exact al hio rfl (.tmp _ _ .nil) rfl rfl
 rintro u29 hl30 hr31 ⟨s25,s26⟩ rr34 h ho32
 refine aG hn 1 [7,8,9,18,19,20,21] ?_
 refine ab ?_
 refine zc h rfl (fun h => ?_) (fun h => ?_)
 refine am ?_
 refine af (ab ?_)
 refine aC (ab ?_)
 obtain ⟨v7,hv7,v8,hv8,h⟩:=eo h
 refine yx hn 0 ?_
 refine ys 0 ⟨li hv7⟩ ?_
 refine ys 1 ⟨ll hv8⟩ ?_
 refine aV [7,8,9,18,19,20,11] ?_
 refine ab ?_
 obtain ⟨v9,hv9,v10,hv10,h⟩:=eo h
 refine yx hn 2 ?_
 refine ys 0 ⟨lv hv9⟩ ?_
 refine ys 0 ⟨lb hv10⟩ ?_
 refine yw [9] 1 ?_
 refine aV [7,8,18,19,20,9] ?_
 refine ab ?_
 obtain ⟨v11,hv11,v12,hv12,v13,hv13,v14,hv14,h⟩:=ld h
 obtain ⟨v15,hv15,h⟩:=zn h
 refine yx hn 1 ?_
 refine ys 1 ⟨lB (lW hv11)⟩ ?_
 refine ys 0 ⟨lB (mf hv12)⟩ ?_
 refine yS (.ptr 7 v13) 0 ⟨cJ _ _ _ _ 16 7 _ underlying222 im rfl rfl (bo hv13).1 (bo hv13).2 (by decide)⟩ ?_
 refine yS (.v (.int .u32 v14)) 0 ⟨cw _ _ _ _ _ _ underlying106 rfl rfl rfl (di hv14)⟩ ?_
 refine ys 0 ⟨lb hv15⟩ ?_
 refine yw [9] 1 ?_
 refine aV [7,8,18,19,20,9] ?_
 obtain ⟨v16,hv16,v17,hv17,v18,hv18,v19,hv19,h⟩:=ld h
 obtain ⟨v20,hv20,h⟩:=zn h
 refine yx hn 1 ?_
 refine ys 1 ⟨lB (lW hv16)⟩ ?_
 refine ys 0 ⟨lB (mf hv17)⟩ ?_
 refine yS (.ptr 7 v18) 0 ⟨cJ _ _ _ _ 16 7 _ underlying222 im rfl rfl (bo hv18).1 (bo hv18).2 (by decide)⟩ ?_
 refine yS (.v (.int .u32 v19)) 0 ⟨cw _ _ _ _ _ _ underlying106 rfl rfl rfl (di hv19)⟩ ?_
 refine ys 0 ⟨lb hv20⟩ ?_
 refine yw [9] 1 ?_
 refine ye [7,8,18,19,20,9] ?_
 refine aI (af ?_)
 obtain ⟨v21,hv21,h⟩:=zn h
 refine yx hn 0 ?_
 refine ys 0 ⟨lb hv21⟩ ?_
 refine yw [20] 1 ?_
 refine ye [7,8,18,19,9,20] ?_
 refine ag [0,1,4,2,3,5] (by kernel_rfl) (es':=[(_,_),(_,_),(_,_),(_,_),(_,_),(_,_)]) rfl ?_
 exact bc _ (zi h).symm rfl
 refine bh (ar (ar (bb ?_)))
 refine ag [1,2] (by kernel_rfl) (es':=[(_,_),(_,_)]) rfl ?_
 exact hl30 _ (ho32 _ (zi h).symm).symm
theorem uJ (b:(List Int)) (r:Int) (h:Sh.lK b=some r):bM Tryz.prog 153 [.fl .shr 1 (map (int .u8) b)] (.v (.int .i64 r)):=by
 unfold Sh.lK at h
 refine yO 5 func153 fun g0 hn hio => ?_
 refine aG hn 1 [0] ?_
 refine ab ?_
 obtain ⟨v1,hv1,h⟩:=zn h
 refine yx hn 1 ?_
 refine ys 1 ⟨lk call182 (wh _ _ _ _ hv1)⟩ ?_
 refine aV [2] ?_
 refine aj ?_
 obtain rfl:=zi h
 exact al hio rfl (.tmp _ _ .nil) rfl rfl
theorem qL (mx:Int×Nat×Value) (b:df) (r:((List Int)×Int)) (h:Sh.iH b=some r):ir Tryz.prog (GL mx) 130 [.agg [.v (.int .i64 b.Kz),.v (.int .i64 b.Ky),.fr .shr true 8 (flatten (map aH.ienc b.Kw))]] (.tup [.mkr 5 (map (int .u8) r.1),.v (.int .i64 r.2)]):=by
 unfold Sh.iH at h
 refine yG 50 func130 fun g0 hn hio => ?_
 refine aG hn 3 [50,1] ?_
 refine ab (ab ?_)
 obtain ⟨v1,hv1,h⟩:=zn h
 refine yx hn 1 ?_
 refine ys 1 ⟨lg call151 (qJ _ _ _ hv1) 50⟩ ?_
 refine aV [50,1,4] ?_
 refine aG hn 2 [50,1,4,13] ?_
 refine zc h rfl (fun h => ?_) (fun h => ?_)
 refine aG hn 3 [50,2,3] ?_
 refine aj ?_
 refine ag [1,2] (by kernel_rfl) (es':=[(_,_),(_,_)]) rfl ?_
 refine cm (fs:=[(2,.mkr 5 (map (int .u8) [])),(3,vi v1)]) (.sub _ (fX 5) rfl (.same _ .nil)) ?_
 refine ai ?_
 obtain rfl:=zi h
 exact al hio rfl (.tmp _ _ (.tmp _ _ .nil)) rfl rfl
 refine am ?_
 refine af (ab ?_)
 obtain ⟨v3,hv3,h⟩:=zn h
 refine yx hn 2 ?_
 refine ys 0 ⟨lg call152 (oZ _ _ _ hv3) 50⟩ ?_
 refine ya 0 ?_
 refine aV [50,1,5] ?_
 refine aG hn 1 [50,1,5,6] ?_
 refine ab (ab ?_)
 obtain ⟨v4,hv4,h⟩:=zn h
 refine wb [[1],[18,1],[1],[20,1],[1],[22,1],[23],[5],[25,5],[5]] ?_
 refine wN [27,5] ?_
 refine wo [] ⟨lk call153 (uJ _ _ hv4)⟩ ?_
 refine wN [19,21,24,26,28] ?_
 refine wS (.fl (.own 3) 1 (map (int .i64) [b.Kz,b.Ky,(b.Kw.length:Int),(v3.length:Int),v4])) [[29],[]] ⟨bi _ _ 1 (.int .i64 0) (map (int .i64) [b.Kz,b.Ky,(b.Kw.length:Int),(v3.length:Int),v4]) [(0,.int .i64 b.Kz),(1,.int .i64 b.Ky),(2,.int .i64 (b.Kw.length:Int)),(3,.int .i64 (v3.length:Int)),(4,.int .i64 v4)] underlying31 FS Iw (fun _ V w o a hv hes=>by have e0:=bL hv hes (x := .tmp 19) rfl; have e1:=bL hv hes (x := .tmp 21) rfl; have e2:=bL hv hes (x := .tmp 24) rfl; have e3:=bL hv hes (x := .tmp 26) rfl; have e4:=bL hv hes (x := .tmp 28) rfl; simp only [List.map_toArray,List.map_cons,List.map_nil,e0,e1,e2,e3,e4]; try rfl) (dn (by simp [Instr.fill,Value.cells]; rfl) (by simp [List.range,List.range.loop] <;> rfl)) (by simp [Value.oneCell']) rfl (by decide) (by decide) (by decide)⟩ ?_
 refine sF hn [50,5,6,29,30,31] ?_
 refine aU h (fun ((s51,s52):KK×Int)=>[(50,.glob (GL mx)),(5,.fl (.own 5) 1 (map (int .u8) v3)),(6,vs s51),(29,.fl (.own 3) 1 (map (int .i64) [b.Kz,b.Ky,(b.Kw.length:Int),(v3.length:Int),v4])),(30,vi ([b.Kz,b.Ky,(b.Kw.length:Int),(v3.length:Int),v4].length:Int)),(31,vi s52)]) (fun (s54:KK)=>[(50,.glob (GL mx)),(5,.fl (.own 5) 1 (map (int .u8) v3)),(6,vs s54)]) ?_ ?_
 rintro s54 h
 refine af (ab ?_)
 obtain ⟨v26,hv26,v27,hv27,v44,hv44,h⟩:=rZ h
 refine yx hn 1 ?_
 refine ys 0 ⟨lB (fZ hv26)⟩ ?_
 refine ys 0 ⟨lU hv27⟩ ?_
 refine ym 0 ?_
 refine yk [43] [44] ?_
 refine nE (43,.any) (45,.mkr 5 (map (int .u8) v44)) 0 ⟨tY _ _ _ _ _ jN rfl rfl rfl rfl hv44 rfl⟩ ?_
 refine ya 0 ?_
 refine aV [50,9] ?_
 refine ab ?_
 refine gE hn 1 ?_
 refine yS (vi (v44.length:Int)) 1 ⟨nF _ _ _ underlying28 rfl (List.length_map _)⟩ ?_
 refine aV [50,9,48] ?_
 refine zc h rfl (fun h => ?_) (fun h => ?_)
 refine aG hn 2 [50,2,3] ?_
 refine aj ?_
 refine ag [1,2] (by kernel_rfl) (es':=[(_,_),(_,_)]) rfl ?_
 refine cm (fs:=[(2,.mkr 5 (map (int .u8) [])),(3,vi 2)]) (.sub _ (fX 5) rfl (.same _ .nil)) ?_
 refine ai ?_
 obtain rfl:=zi h
 exact al hio rfl (.tmp _ _ (.tmp _ _ .nil)) rfl rfl
 refine am (af ?_)
 refine gE hn 0 ?_
 refine ym 0 ?_
 refine ya 1 ?_
 refine aV [50,2,3] ?_
 refine aj ?_
 refine ag [1,2] (by kernel_rfl) (es':=[(_,_),(_,_)]) rfl ?_
 obtain rfl:=zi h
 exact al hio rfl (.tmp _ _ (.tmp _ _ .nil)) rfl rfl
 rintro u55 hl56 hr57 ⟨s51,s52⟩ rr60 h ho58
 refine aG hn 1 [50,5,6,29,30,31,32] ?_
 refine ab ?_
 refine zc h rfl (fun h => ?_) (fun h => ?_)
 refine am ?_
 refine af (ab ?_)
 refine aC (ab ?_)
 obtain ⟨v6,hv6,v7,hv7,h⟩:=eo h
 refine yx hn 0 ?_
 refine ys 0 ⟨li hv6⟩ ?_
 refine ys 1 ⟨ll hv7⟩ ?_
 refine aV [50,5,6,29,30,31,8] ?_
 obtain ⟨v8,hv8,v9,hv9,v10,hv10,h⟩:=rZ h
 refine yx hn 2 ?_
 refine ys 0 ⟨lg call150 (mp _ _ _ hv8) 50⟩ ?_
 refine ys 0 ⟨lB (fZ hv9)⟩ ?_
 refine ys 0 ⟨lB (fZ hv10)⟩ ?_
 refine yw [6] 1 ?_
 refine ye [50,5,29,30,31,6] ?_
 refine aI (af ?_)
 obtain ⟨v11,hv11,h⟩:=zn h
 refine yx hn 0 ?_
 refine ys 0 ⟨lb hv11⟩ ?_
 refine yw [31] 1 ?_
 refine ye [50,5,29,30,6,31] ?_
 refine ag [0,1,4,2,3,5] (by kernel_rfl) (es':=[(_,_),(_,_),(_,_),(_,_),(_,_),(_,_)]) rfl ?_
 exact bc _ (zi h).symm rfl
 refine bh (ar (ar (bb ?_)))
 refine ag [0,1,2] (by kernel_rfl) (es':=[(_,_),(_,_),(_,_)]) rfl ?_
 exact hl56 _ (ho58 _ (zi h).symm).symm
theorem vh (mx:Int×Nat×Value) (m:aH) (r:Bool) (h:Sh.jQ m=some r):ir Tryz.prog (GL mx) 101 [.agg [.v (.bool m.Kj.Kx),.v (.string m.Kj.Ks),.v (.string m.Kj.Kg),.fl .shr 3 (flatten (map T_Path.enc m.To)),.fl .shr 1 (map (int .u8) m.Kc),.v (.bool m.KE),.v (.string m.Kn),.v (.int .i64 m.At)]] (.v (.bool r)):=by
 unfold Sh.jQ at h
 refine yG 14 func101 fun g0 hn hio => ?_
 refine aG hn 2 [14,1] ?_
 refine ab ?_
 obtain ⟨v1,hv1,h⟩:=zn h
 refine yx hn 1 ?_
 refine yS (.fr (.own 53) true 8 (flatten (map aH.ienc [(aH.mk (T_Path.mk m.Kj.Kx m.Kj.Ks m.Kj.Kg) m.To m.Kc m.KE m.Kn m.At)]))) 0 ⟨ma _ _ _ 8 (.agg #[.bool false,.string ByteArray.empty,.string ByteArray.empty,.slice none 0 0,.slice none 0 0,.bool false,.string ByteArray.empty,.int .i64 0]) true _ _ underlying60 uN Ck rfl rfl (.cons (.v _) (.cons (.v _) (.cons (.v _) (.cons (.shr _ _ rfl rfl) (.cons (.shr _ _ rfl rfl) (.cons (.v _) (.cons (.v _) (.cons (.v _) (.nil))))))))) rfl (by decide) (by decide)⟩ ?_
 refine yk [7] [] ?_
 refine yt (8,.agg [vi 0,vi 65535,.fr (.own 53) true 8 (flatten (map aH.ienc [(aH.mk (T_Path.mk m.Kj.Kx m.Kj.Ks m.Kj.Kg) m.To m.Kc m.KE m.Kn m.At)]))]) 0 ⟨bn _ _ _ _ [1,1,1] _ _ underlying62 IX (Ju _ underlying62) (.copy _ (.take _ _ mz.nil)) rfl rfl rfl⟩ ?_
 refine ys 0 ⟨lg call130 (qL _ _ _ hv1) 14⟩ ?_
 refine ym 0 ?_
 refine Ij 1 ?_
 refine ya 1 ?_
 refine aV [14,4] ?_
 refine aG hn 3 [14,2] ?_
 refine aj ?_
 refine ag [1] (by kernel_rfl) (es':=[(_,_)]) rfl ?_
 obtain rfl:=zi h
 exact al hio rfl (.tmp _ _ .nil) rfl rfl
theorem lV (mx:Int×Nat×Value) (s:aa) (body:(List Int)) (r:(ap×aa)) (h:Sh.et s body=some r):mL Tryz.prog (GL mx) 86 [.box 80 (aa.b s),.fl .shr 1 (map (int .u8) body)] [.box 80 (aa.b r.2)] (.agg [.v (.int .i64 r.1.KF.Kf),.fl .ro 1 (map Value.string r.1.KF.Kr),.v (.bool r.1.Kl),.v (.bool r.1.Ku.Kj.Kx),.v (.string r.1.Ku.Kj.Ks),.v (.string r.1.Ku.Kj.Kg),.fl .ro 3 (flatten (map T_Path.enc r.1.Ku.To)),.fl .ro 1 (map (int .u8) r.1.Ku.Kc),.v (.bool r.1.Ku.KE),.v (.string r.1.Ku.Kn),.v (.int .i64 r.1.Ku.At),.v (.bool r.1.Kb)]):=by
 unfold Sh.et at h
 refine CT 81 func86 fun args0 hargs0 g0 hn hio => ?_
 refine gE hn 0 ?_
 refine yS (.box 55 [vi 0,vz,vb false,vb false,vs z0,vs z0,vz,vz,vb false,vs z0,vi 0,vb false]) 0 ⟨oA (aR _ _ ta)⟩ ?_
 refine aV [0,1,81,4,0] ?_
 refine ab ?_
 obtain ⟨v1,hv1,v2,hv2,v3,hv3,h⟩:=rZ h
 refine pc (by kernel_rfl) hn (El:=(_::_::_::_::_::(9,fb body)::(10,.same (.slot 0))::(11,.ptr 0 0)::(12,.ptr 0 0)::(13,.ptr 0 1)::(14,vs s.Kk.Kn)::(15,.same (.slot 0))::(16,.same (.slot 0))::(17,.ptr 0 0)::(18,.ptr 0 17)::(19,vi s.site)::(20,.ptr 0 0)::(21,.ptr 0 10)::(22,.ptr 0 10)::(23,.ptr 0 (10+v1 * 1))::(24,vs v2)::(25,.same (.slot 0))::(26,.ptr 0 0)::(27,.ptr 0 18)::(28,vi s.at_)::(29,.tup [.mkr 5 (map (int .u8) v3.1),vi v3.2])::(8,.tup [.mkr 5 (map (int .u8) v3.1),.any])::(8,.tup [.any,vi v3.2])::(30,.mkr 5 (map (int .u8) v3.1))::(8,.tup [.any,.any])::(31,vi v3.2)::(5,.mkr 5 (map (int .u8) v3.1))::(6,vi v3.2)::[])) (init:=[0,1,2,3,4]) (fin:=[0,1,2,3,31,32,4]) (sps:=(zq [1] 5 9::zq [] 6 10::zq [6,0] 7 11::zq [7,0] 8 12::zq [8,0] 9 13::zq [9,0] 10 14::zq [] 11 15::zq [] 12 16::zq [12,0] 13 17::zq [13,0] 14 18::zq [14,0] 15 19::zq [11,0] 16 20::zq [16,0] 17 21::zq [17,0] 18 22::zq [18,0,15] 19 23::zq [19,0] 20 24::zq [] 21 25::zq [21,0] 22 26::zq [22,0] 23 27::zq [23,0] 24 28::zq [5,10,20,24,2] 25 29::⟨[],[25],[26,27],[(.slot 8)]⟩::⟨[],[26],[29,28],[(.slot 30)]⟩::zq [27] 30 31::⟨[],[28],[31],[(.slot 5)]⟩::zq [30] 32 6::[])) (es':=[(_,_),(_,_),(_,_),(_,_),(5,.mkr 5 (map (int .u8) v3.1)),(6,vi v3.2),(_,_)]) (by kernel_rfl) rfl rfl ⟨z1 rfl,zp rfl (db _ _ _ rfl),zp rfl (eE _ _ _ 0 rfl rfl (by decide)),zp rfl (oF underlying80 rfl pj),zp rfl (oF underlying30 rfl rL),zp rfl (oL underlying9 rfl),zp rfl (db _ _ _ rfl),zp rfl (db _ _ _ rfl),zp rfl (eE _ _ _ 0 rfl rfl (by decide)),zp rfl (oF underlying80 rfl FS),zp rfl (oL underlying3 rfl),zp rfl (eE _ _ _ 0 rfl rfl (by decide)),zp rfl (oF underlying80 rfl Fz),zp rfl (oF underlying24 rfl JC),zp rfl (tX _ _ _ _ 2 0 10 _ underlying22 rL rfl rfl (bo hv1).1 (bo hv1).2 (by decide)),zp rfl (qt _ _ _ 0 10 v1 2 ([(s.config.Kh.getD 0 z0),(s.config.Kh.getD 1 z0)]:List KK) _ underlying9 rfl rfl rfl rfl hv2),zp rfl (db _ _ _ rfl),zp rfl (eE _ _ _ 0 rfl rfl (by decide)),zp rfl (oF underlying80 rfl FS),zp rfl (oL underlying3 rfl),zp rfl (sx _ _ 81 100 _ _ rfl call100 rfl rfl (fun _ h=>h) (vX mx body s.Kk.Kn v2 s.at_ _ hv3) rfl rfl),zp rfl (aJ.split (A:=[]) 8 0 _ _ _ (iW _ _ _ _ rfl) (zl rfl) rfl rfl),zp rfl (gP _ _ _ _ _ rfl (zl rfl) rfl rfl (by decide) rfl),zp rfl (oE rfl),zp rfl (iU _ _ _ _ rfl),z2 rfl,zz⟩ ?_
 refine af (ab ?_)
 refine yE 4 hio (es':=[(0,.box 80 (aa.b s)),(1,fb body),(81,.glob (GL mx)),(4,.box 55 [.v (.int .i64 0),vz,.v (.bool false),.v (.bool false),.v (.string (⟨#[]⟩:KK)),.v (.string (⟨#[]⟩:KK)),vz,vz,.v (.bool false),.v (.string (⟨#[]⟩:KK)),.v (.int .i64 0),.v (.bool false)]),(5,.fl .ro 1 (map (int .u8) v3.1)),(6,.v (.int .i64 v3.2)),(0,.v (List.getD args0 0 undef))]) rfl ?_
 obtain ⟨v4,hv4,h⟩:=zn h
 refine wb [[],[32,0],[33,0],[34,0],[35,0],[],[37,0],[38,0],[39,0],[40,0]] ?_
 refine wN [41,0] ?_
 refine wo [[5]] ⟨lk call59 (iC _ _ hv4)⟩ ?_
 refine wK [42] [36,43] ?_
 refine wt [(44,.agg [vb s.Kk.Kj.Kx,vs s.Kk.Kj.Ks,vs s.Kk.Kj.Kg,.fl (.own 26) 3 (flatten (map T_Path.enc v4)),.fl .ro 1 (map (int .u8) v3.1),vb false,vs z0,vi 0])] [] ⟨bn _ _ _ _ [3,1,1,1,1,1] _ _ underlying53 Ck (IW _ underlying53) (.copy _ (.take _ _ (.copy _ mz.nil))) rfl rfl rfl⟩ ?_
 refine wN [] ?_
 refine wS (.box 53 [vb false,vs z0,vs z0,vz,vz,vb false,vs z0,vi 0]) [] ⟨oA (aR _ _ Ck)⟩ ?_
 refine wK [44,7] [] ?_
 refine wt [(7,.box 53 [vb s.Kk.Kj.Kx,vs s.Kk.Kj.Ks,vs s.Kk.Kj.Kg,.fl (.own 26) 3 (flatten (map T_Path.enc v4)),.fl .ro 1 (map (int .u8) v3.1),vb false,vs z0,vi 0])] [] ⟨aM _ _ _ _ _ _ _ _ uN rfl rfl rfl (zl rfl) rfl rfl⟩ ?_
 refine sF hn [0,1,81,4,6,7,0] ?_
 refine ab (ab ?_)
 refine ay h (fun (s13:Bool)=>[(0,.box 80 (aa.b s)),(81,.glob (GL mx)),(4,.box 55 [vi 0,vz,vb false,vb false,vs z0,vs z0,vz,vz,vb false,vs z0,vi 0,vb false]),(7,.box 53 [vb s.Kk.Kj.Kx,vs s.Kk.Kj.Ks,vs s.Kk.Kj.Kg,.fl (.own 26) 3 (flatten (map T_Path.enc v4)),.fl .ro 1 (map (int .u8) v3.1),vb false,vs z0,vi 0]),(56,vb s13),(0,.v (List.getD args0 0 undef))]) ?_ ?_
 rintro s13 h
 refine af ?_
 refine zc h rfl (fun h => ?_) (fun h => ?_)
 refine ab ?_
 obtain ⟨v11,hv11,h⟩:=zn h
 refine yx hn 1 ?_
 refine yQ call85 (eQ _ _ _ hv11) 0 [57] 0 ?_
 refine yk [58] [] ?_
 refine yt (59,.agg [vi v11.1.Kf,.fl (.own 9) 1 (map Value.string v11.1.Kr),vb false,vb false,vs z0,vs z0,vz,vz,vb false,vs z0,vi 0,vb false]) 0 ⟨bn _ _ _ _ [2,1,8,1] _ _ underlying55 ta (BH _ underlying55) (.take _ _ mz.nil) rfl rfl rfl⟩ ?_
 refine yk [59,4] [] ?_
 refine yt (4,.box 55 [vi v11.1.Kf,.fl (.own 9) 1 (map Value.string v11.1.Kr),vb false,vb false,vs z0,vs z0,vz,vz,vb false,vs z0,vi 0,vb false]) 0 ⟨aM _ _ _ _ _ _ _ _ wl rfl rfl rfl (zl rfl) rfl rfl⟩ ?_
 refine aV [0,81,4,0] ?_
 refine aj ?_
 refine ag [2,0,3] (by kernel_rfl) (es':=[(_,_),(_,_),(_,_)]) rfl ?_
 refine cm (fs:=[(4,.box 55 [vi v11.1.Kf,.fl (.own 9) 1 (map Value.string v11.1.Kr),vb false,vb false,vs z0,vs z0,.fl (.own 26) 3 (flatten (map T_Path.enc [])),.fl (.own 5) 1 (map (int .u8) []),vb false,vs z0,vi 0,vb false]),(0,.box 80 (aa.b v11.2)),(0,.v (List.getD args0 0 undef))]) (.box _ _ (ae (ah _) (ae (ah _) (ae (ah _) (ae (ah _) (ae (ah _) (ae (ah _) (ae (bI 26 3) (ae (bI 5 1) (ae (ah _) (ae (ah _) (ae (ah _) (ae (ah _) (bj))))))))))))) rfl (.same _ (.same _ .nil))) ?_
 refine qU 0 hio (es':=[(4,.box 55 [.v (.int .i64 v11.1.Kf),.fl .ro 1 (map Value.string v11.1.Kr),.v (.bool false),.v (.bool false),.v (.string (⟨#[]⟩:KK)),.v (.string (⟨#[]⟩:KK)),.fl .ro 3 (flatten (map T_Path.enc [])),.fl .ro 1 (map (int .u8) []),.v (.bool false),.v (.string (⟨#[]⟩:KK)),.v (.int .i64 0),.v (.bool false)]),(0,.box 80 (aa.b v11.2)),(0,.v (List.getD args0 0 undef))]) rfl ?_
 refine ai ?_
 obtain rfl:=zi h
 exact bp (es:=[(4,.box 55 [.v (.int .i64 v11.1.Kf),.fl .ro 1 (map Value.string v11.1.Kr),.v (.bool false),.v (.bool false),.v (.string (⟨#[]⟩:KK)),.v (.string (⟨#[]⟩:KK)),.fl .ro 3 (flatten (map T_Path.enc [])),.fl .ro 1 (map (int .u8) []),.v (.bool false),.v (.string (⟨#[]⟩:KK)),.v (.int .i64 0),.v (.bool false)])]) (posts:=[.box 80 (aa.b v11.2)]) hio rfl rfl (.cellA _ _ _ _ underlying55 rfl wl .nil) rfl rfl hargs0 rfl
 refine am ?_
 refine af (ab ?_)
 refine wb [[],[60,0],[61,0],[62,0],[63,0],[],[65,0],[66,0],[67,0],[68,0],[],[70,0],[71,0],[72,0],[7]] ?_
 refine wK [7] [74,64] ?_
 refine wt [(7,.box 53 [vb s.Kk.Kj.Kx,vs s.Kk.Kj.Ks,vs s.Kk.Kj.Kg,.fl (.own 26) 3 (flatten (map T_Path.enc v4)),.fl .ro 1 (map (int .u8) v3.1),vb s.Kk.KE,vs z0,vi 0])] [[7]] ⟨dD _ _ _ _ _ _ _ _ JZ rfl rfl rfl rfl (zl rfl) rfl rfl⟩ ?_
 refine wK [7] [75,69] ?_
 refine wt [(7,.box 53 [vb s.Kk.Kj.Kx,vs s.Kk.Kj.Ks,vs s.Kk.Kj.Kg,.fl (.own 26) 3 (flatten (map T_Path.enc v4)),.fl .ro 1 (map (int .u8) v3.1),vb s.Kk.KE,vs s.Kk.Kn,vi 0])] [[7]] ⟨dD _ _ _ _ _ _ _ _ rL rfl rfl rfl rfl (zl rfl) rfl rfl⟩ ?_
 refine wK [7] [76,73] ?_
 refine wt [(7,.box 53 [vb s.Kk.Kj.Kx,vs s.Kk.Kj.Ks,vs s.Kk.Kj.Kg,.fl (.own 26) 3 (flatten (map T_Path.enc v4)),.fl .ro 1 (map (int .u8) v3.1),vb s.Kk.KE,vs s.Kk.Kn,vi s.at_])] [] ⟨dD _ _ _ _ _ _ _ _ FS rfl rfl rfl rfl (zl rfl) rfl rfl⟩ ?_
 refine sF hn [0,81,4,7,0] ?_
 refine ab ?_
 obtain ⟨v12,hv12,h⟩:=zn h
 refine wb [[0]] ?_
 refine wK [0] [77] ?_
 refine wt [(0,.box 80 (aa.b v12.2)),(78,.agg [vi v12.1.Kf,.fl (.own 9) 1 (map Value.string v12.1.Kr)])] [] ⟨sd _ _ _ _ 78 85 [.tmp 77] [_] _ _ _ rfl call85 rfl rfl rfl (eQ ((aa.r s)) 250 _ hv12) (zl rfl) rfl rfl rfl rfl rfl rfl rfl rfl⟩ ?_
 refine wK [7] [] ?_
 refine wt [(79,.agg [vb s.Kk.Kj.Kx,vs s.Kk.Kj.Ks,vs s.Kk.Kj.Kg,.fl (.own 26) 3 (flatten (map T_Path.enc v4)),.fl .ro 1 (map (int .u8) v3.1),vb s.Kk.KE,vs s.Kk.Kn,vi s.at_])] [] ⟨nZ _ _ _ _ underlying53 rfl uN rfl rfl⟩ ?_
 refine wK [78,79] [] ?_
 refine wt [(80,.agg [vi v12.1.Kf,.fl (.own 9) 1 (map Value.string v12.1.Kr),vb true,vb s.Kk.Kj.Kx,vs s.Kk.Kj.Ks,vs s.Kk.Kj.Kg,.fl (.own 26) 3 (flatten (map T_Path.enc v4)),.fl .ro 1 (map (int .u8) v3.1),vb s.Kk.KE,vs s.Kk.Kn,vi s.at_,vb false])] [] ⟨bn _ _ _ _ [2,1,8,1] _ _ underlying55 ta (BH _ underlying55) (.take _ _ (.copy _ (.take _ _ mz.nil))) rfl rfl rfl⟩ ?_
 refine wK [80,4] [] ?_
 refine wt [(4,.box 55 [vi v12.1.Kf,.fl (.own 9) 1 (map Value.string v12.1.Kr),vb true,vb s.Kk.Kj.Kx,vs s.Kk.Kj.Ks,vs s.Kk.Kj.Kg,.fl (.own 26) 3 (flatten (map T_Path.enc v4)),.fl .ro 1 (map (int .u8) v3.1),vb s.Kk.KE,vs s.Kk.Kn,vi s.at_,vb false])] [] ⟨aM _ _ _ _ _ _ _ _ wl rfl rfl rfl (zl rfl) rfl rfl⟩ ?_
 refine sF hn [0,81,4,0] ?_
 refine aj ?_
 refine ag [2,0,3] (by kernel_rfl) (es':=[(_,_),(_,_),(_,_)]) rfl ?_
 refine qU 0 hio (es':=[(4,.box 55 [.v (.int .i64 v12.1.Kf),.fl .ro 1 (map Value.string v12.1.Kr),.v (.bool true),.v (.bool s.Kk.Kj.Kx),.v (.string s.Kk.Kj.Ks),.v (.string s.Kk.Kj.Kg),.fl .ro 3 (flatten (map T_Path.enc v4)),.fl .ro 1 (map (int .u8) v3.1),.v (.bool s.Kk.KE),.v (.string s.Kk.Kn),.v (.int .i64 s.at_),.v (.bool false)]),(0,.box 80 (aa.b v12.2)),(0,.v (List.getD args0 0 undef))]) rfl ?_
 obtain rfl:=zi h
 exact bp (es:=[(4,.box 55 [.v (.int .i64 v12.1.Kf),.fl .ro 1 (map Value.string v12.1.Kr),.v (.bool true),.v (.bool s.Kk.Kj.Kx),.v (.string s.Kk.Kj.Ks),.v (.string s.Kk.Kj.Kg),.fl .ro 3 (flatten (map T_Path.enc v4)),.fl .ro 1 (map (int .u8) v3.1),.v (.bool s.Kk.KE),.v (.string s.Kk.Kn),.v (.int .i64 s.at_),.v (.bool false)])]) (posts:=[.box 80 (aa.b v12.2)]) hio rfl rfl (.cellA _ _ _ _ underlying55 rfl wl .nil) rfl rfl hargs0 rfl
 intro u14 h hl15 hr16
 refine ak h (fun hg3_3 h => ?_) (fun hg3_3 h => ?_)
 refine yx hn 4 ?_
 refine yd hg3_3 8 ?_
 refine ye [0,81,4,7,56,0] ?_
 exact hl15 _ (zi h).symm
 refine ak h (fun hg3_7 h => ?_) (fun hg3_7 h => ?_)
 refine yx hn 4 ?_
 refine yd hg3_3 4 ?_
 refine yd hg3_7 4 ?_
 refine ye [0,81,4,7,56,0] ?_
 exact hl15 _ (zi h).symm
 obtain ⟨v5,hv5,h⟩:=zn h
 refine yx hn 4 ?_
 refine yd hg3_3 4 ?_
 refine yd hg3_7 1 ?_
 refine ys 2 ⟨lg call101 (vh _ _ _ hv5) 81⟩ ?_
 refine ye [0,81,4,7,56,0] ?_
 exact hl15 _ (zi h).symm
theorem sR (mx:Int×Nat×Value) (b:(List Int)) (r:(List (List Int))) (h:Sh.jU b=some r):ir Tryz.prog (GL mx) 102 [.fl .shr 1 (map (int .u8) b)] (.fr .ro false 1 (flatten (map Row_int_u8.ienc r))):=by
 unfold Sh.jU at h
 refine yG 14 func102 fun g0 hn hio => ?_
 refine aG hn 1 [0,14] ?_
 refine gE hn 0 ?_
 refine yS (.box 137 [vz]) 0 ⟨oA (aR _ _ GN)⟩ ?_
 refine aV [0,14,3] ?_
 refine ab (ab ?_)
 obtain ⟨v1,hv1,h⟩:=zn h
 refine yx hn 1 ?_
 refine yk [] [5] ?_
 refine yt (6,.cloB 123 [.box 28 [fb v1]]) 0 ⟨gJ _ _ 96 _ _ rfl call96 rfl rfl (gL b _ hv1) rfl⟩ ?_
 refine aV [14,3,6] ?_
 refine aC ?_
 refine jo [2,0,1] (by kernel_rfl) (es':=[(6,.cloB 123 [.box 28 [fb v1]]),(14,.glob (GL mx)),(3,.box 137 [vz])]) rfl ?_
 refine oJ (fs:=[(6,.cloB 123 [.box 28 [fb v1]]),(14,.glob (GL mx)),(3,.box 137 [.fr (.own 28) false 1 (flatten (map Row_int_u8.ienc []))])]) (.same _ (.same _ (.box _ _ (ae (km 28 false 1) (bj)) rfl .nil))) ?_
 refine ia h 123 6 7 15 _ [14,3] call123 (fun (s7:(List (List Int)))=>[(14,.glob (GL mx)),(3,.box 137 [.fr (.own 28) false 1 (flatten (map Row_int_u8.ienc s7))])]) (fun (():Unit)=>[]) (fun l J Y hY t t' h=>fa mx l J Y hY v1 t t' h) hn rfl (fun _=>rfl) (fun _=>rfl) (fun _=>rfl) rfl rfl (fun _=>⟨rfl,rfl⟩) rfl (gY 14 rfl) ?_ ?_ ?_
 rintro kk g0 hn hio x s7 u h
 refine qo (es':=[(7,fb x),(14,.glob (GL mx)),(3,.box 137 [.fr (.own 28) false 1 (flatten (map Row_int_u8.ienc s7))]),(14,.v (kk.tm.getD 14 undef)),(3,.v (kk.tm.getD 3 undef)),(15,.inv kk.ready)]) rfl ?_
 refine yy hn 1 [14,3,15,4,14,3] ?_
 refine ag [0,1,3,4,5,2] (by kernel_rfl) (es':=[(14,.glob (GL mx)),(3,.box 137 [.fr (.own 28) false 1 (flatten (map Row_int_u8.ienc s7))]),(4,fb x),(14,.v (kk.tm.getD 14 undef)),(3,.v (kk.tm.getD 3 undef)),(15,.inv kk.ready)]) rfl ?_
 refine jt (es:=[(14,.glob (GL mx)),(3,.box 137 [.fr (.own 28) false 1 (flatten (map Row_int_u8.ienc s7))]),(4,fb x),(14,.v (kk.tm.getD 14 undef)),(3,.v (kk.tm.getD 3 undef))]) 15 rfl ?_
 refine aC ?_
 obtain ⟨v2,hv2,v3,hv3,h⟩:=eo h
 refine wb [[3],[4]] ?_
 refine wN [9] ?_
 refine wS (.fl .ro 1 (map (int .u8) v2)) [] ⟨aJ.frzG 0 (oX _ _ _ _ jN rfl rfl (gp _) hv2 (congrArg (map _) (oY hv2))) (zl rfl) rfl⟩ ?_
 refine wN [10] ?_
 refine wS (.fr (.own 28) false 1 (flatten (map Row_int_u8.ienc [v2]))) [] ⟨ma _ _ _ 1 (.slice none 0 0) false _ _ underlying137 kQ De rfl rfl (.cons (.ro _ _ rfl) (.nil)) rfl (by decide) (by decide)⟩ ?_
 refine wK [3] [8,11] ?_
 refine wt [(3,.box 137 [.any]),(12,.fr (.own 28) false 1 (flatten (map Row_int_u8.ienc v3)))] [] ⟨iG _ 12 3 0 _ _ GQ rfl rfl (zl rfl) rfl (dK Row_int_u8.ilen _) (dK Row_int_u8.ilen _) hv3 (lC (jb hv3)) (by decide) (by decide) (by decide) rfl rfl⟩ ?_
 refine wK [8,12,3] [] ?_
 refine wt [(3,.box 137 [.fr (.own 28) false 1 (flatten (map Row_int_u8.ienc v3))])] [] ⟨aJ.drop [_] (aM _ _ _ _ _ _ _ _ HW rfl rfl rfl (zl rfl) rfl rfl)⟩ ?_
 refine we hn [14,3,15,14,3] ?_
 refine aI ?_
 refine ag [0,1,3,4,2] (by kernel_rfl) (es':=[(_,_),(_,_),(_,_),(_,_),(_,_)]) rfl ?_
 obtain rfl:=zi h
 exact jB 15 [14,3] _ rfl rfl (by kernel_rfl)
 rintro D s7 h
 refine aI ?_
 refine af (ab ?_)
 refine ve 1 hio (es':=[(14,.glob (GL mx)),(3,.box 137 [.fr .ro false 1 (flatten (map Row_int_u8.ienc s7))])]) rfl ?_
 refine yy hn 2 [14,2] ?_
 refine af (aj ?_)
 refine ag [1] (by kernel_rfl) (es':=[(_,_)]) rfl ?_
 obtain rfl:=zi h
 exact al hio rfl (.tmp _ _ .nil) rfl rfl
 rintro D ⟨⟩ h
 cases h
end Go.Proofs.YtjnnkhmhjcjhdaaGreatDoor
