import Derived.Test.YthhebpiaknfnhaaGreatDoorTmM
namespace Go.Abs.Sh
set_option linter.unusedVariables false
set_option linter.unusedSimpArgs false
set_option maxRecDepth 10000
theorem big2:∃ f,BIG=f+2:=⟨BIG-2,by unfold BIG; omega⟩
theorem hello_sp {N:Int} {D:List Int} {P m:Nat} (hl:Lt N D P) (hm:m<P) (t:T_Take):taker_Hear_sh (spY N D m) t (hfY N D)=some (T_Take.mk true N (D.length:Int),[],[T_Frame.mk 2 N ((48 * m:Nat):Int) 0 []],0):=by
 have hP:=hl.hP; have d1:=hl.d1; have d2:=hl.d2
 have h:=hear_hello (spY N D m) t (num:=N) (tot:=(D.length:Int)) hl.n1 hl.n2 (by omega) (by omega) (by simp [spY]) (by simp [spY])
 rw [far_sp hl hm,if_neg (by omega)] at h
 exact h
theorem hr_ready {N:Int} {D:List Int} {P:Nat} {x:Y} (hl:Lt N D P) (h:OkY P x):sender_Hear (sS N D x) (T_Frame.mk 2 N ((48 * x.m:Nat):Int) 0 [])=some (T_Send.mk N D true (x.m:Int) (x.m:Int) 0 false,0):=by
 have hP:=hl.hP; have d1:=hl.d1; have d2:=hl.d2; have mP:=h.mP
 have hp:pcs (sS N D x)=(P:Int):=by unfold pcs sS; dsimp only; omega
 have hr:=ready_at (sS N D x) (by unfold sS; dsimp only; omega) x.m (by rw [hp]; omega)
 have e:min (48 * x.m) (sS N D x).Data.length=48 * x.m:=by unfold sS; dsimp only; omega
 rw [e] at hr
 exact hear_ready (rt_sS hl h) rfl (48 * x.m) (by omega) _ hr
theorem hr_ack {N:Int} {D:List Int} {P q:Nat} {x:Y} (hl:Lt N D P) (h:OkY P x) (hr:x.rdy=true) (h1:x.b≤q) (h2:q≤x.n):sender_Hear (sS N D x) (T_Frame.mk 4 N 0 ((q % 8:Nat):Int) [])=some (if x.b<q then (T_Send.mk N D x.rdy (q:Int) (x.n:Int) 3 false,0) else (zeroSend,11)):=by
 have hP:=hl.hP; have d1:=hl.d1; have d2:=hl.d2; have mP:=h.mP
 have r1:=h.r1 hr
 have hn:(sS N D x).Next=(x.n:Int):=rfl
 have hw:IntKind.i64.wrap ((x.b:Int)+1)=((x.b+1:Nat):Int):=wrap_succ (n:=x.b) (by omega)
 by_cases hb:x.b<q
 ·rw [if_pos hb]
  refine hear_ack (rt_sS hl h) rfl (q % 8) (by omega) (true,T_Send.mk N D x.rdy (q:Int) (x.n:Int) 3 false) ?_
  unfold sender_ack
  exact cnd_f (by show (!x.rdy)=false; rw [hr]; rfl) (bnd (congrArg some hw) (bndR (ack_some (sS N D x) x.n (q % 8) q hn (by omega) h2 rfl (q-(x.b+1)) BIG (x.b+1) rfl (by omega) (by unfold BIG; omega) fun j j1 j2=>by omega) rfl))
 ·rw [if_neg hb]
  refine hear_ack (rt_sS hl h) rfl (q % 8) (by omega) (false,sS N D x) ?_
  unfold sender_ack
  exact cnd_f (by show (!x.rdy)=false; rw [hr]; rfl) (bnd (congrArg some hw) (bndL (s:=()) (ack_none (sS N D x) x.n (q % 8) hn (by omega) (x.n+1-(x.b+1)) BIG (x.b+1) rfl (by unfold BIG; omega) fun j j1 j2=>by omega) rfl))
theorem bk1 {L:List Bool} (hL:L.length≤200) {f:T_Frame} {A A' R:T_Send} {c:Int} {a:Nat} (ha:a<500000) (h:sender_Hear A f=some (A',c)) (hR:R=if lst L (a+1)=true then A else if c=0 then A' else A) :
  loopF (tmB L [f]) BIG (A.Number,A.Data,A.Ready,A.Base,A.Next,A.Wait,A.Over,(a:Int),0)=some (.inl (R.Number,R.Data,R.Ready,R.Base,R.Next,R.Wait,R.Over,((a+1:Nat):Int))):=by
 obtain ⟨g,hg⟩:=big2
 rw [hg]
 have hs:tmB L [f] (A.Number,A.Data,A.Ready,A.Base,A.Next,A.Wait,A.Over,(a:Int),0)=some (.inl (R.Number,R.Data,R.Ready,R.Base,R.Next,R.Wait,R.Over,((a+1:Nat):Int),1)):=by
  unfold tmB
  refine cnd_t rfl (bndL (s:=(R.Number,R.Data,R.Ready,R.Base,R.Next,R.Wait,R.Over,((a+1:Nat):Int))) (bnd (congrArg some (wrap_succ (n:=a) (by omega))) (bndL (lost_t hL (by omega) (by omega)) ?_)) (bnd rfl rfl))
  by_cases h1:lst L (a+1)=true
  ·rw [if_pos h1] at hR
   subst hR
   exact cnd_t h1 rfl
  ·rw [if_neg h1] at hR
   refine cnd_f (by simpa using h1) (bnd (x:=0) rfl (bnd (x:=f) rfl (bnd h ?_)))
   by_cases hc:c=0
   ·rw [if_pos hc] at hR
    subst hR
    exact cnd_t (beq_iff_eq.2 hc) rfl
   ·rw [if_neg hc] at hR
    subst hR
    exact cnd_f (beq_eq_false_iff_ne.2 hc) rfl
 exact (loop_next hs).trans (loop_exit rfl)
theorem rc0 (s:T_Spool):loopF (tmR []) BIG (s.Items,s.Packs,s.Sent,s.Part,s.Of,s.Done,0)=some (.inl (s.Items,s.Packs,s.Sent,s.Part,s.Of,s.Done)):=by
 obtain ⟨g,hg⟩:=big2
 rw [hg]
 exact loop_exit rfl
theorem rc1 {s s':T_Spool} {r:T_Rec} (h:spool_Add s r=some (s',0)):loopF (tmR [r]) BIG (s.Items,s.Packs,s.Sent,s.Part,s.Of,s.Done,0)=some (.inl (s'.Items,s'.Packs,s'.Sent,s'.Part,s'.Of,s'.Done)):=by
 obtain ⟨g,hg⟩:=big2
 rw [hg]
 have hs:tmR [r] (s.Items,s.Packs,s.Sent,s.Part,s.Of,s.Done,0)=some (.inl (s'.Items,s'.Packs,s'.Sent,s'.Part,s'.Of,s'.Done,1)):=by
  unfold tmR
  exact cnd_t rfl (bnd (x:=0) rfl (bnd (x:=r) rfl (bnd h (cnd_f rfl (bnd rfl rfl)))))
 exact (loop_next hs).trans (loop_exit rfl)
theorem fr_end (N:Int) (D:List Int) (L:List Bool) (out:List T_Frame) (x:Y) (g:Nat):loopF (tmF D L out) (g+1) (t18 N D x out.length)=some (.inl (t17 N D x)):=by
 refine loop_exit ?_
 unfold tmF t18
 exact cnd_f (decide_eq_false (by omega)) rfl
theorem fr_hello {N:Int} {D:List Int} {L:List Bool} {P:Nat} {x:Y} (hl:Lt N D P) (hL:L.length≤200) (h:OkY P x) (hr:x.rdy=false) (ha:x.a<400000):tmF D L [hfY N D] (t18 N D x 0)=some (.inl (t18 N D (hello1 L x) 1)):=by
 obtain ⟨r,b,n,w,m,o,a⟩:=x
 have mP:=h.mP
 dsimp only at hr mP ha
 subst hr
 unfold tmF t18
 have hw:some (IntKind.i64.wrap ((a:Int)+1))=some ((a+1:Nat):Int):=congrArg some (wrap_succ (n:=a) (by omega))
 refine cnd_t rfl (bndL (s:=t17 N D (hello1 L ⟨false,b,n,w,m,o,a⟩)) (bnd hw (bndL (lost_t hL (by omega) (by omega)) ?_)) (bnd (x:=1) rfl rfl))
 unfold hello1
 dsimp only
 by_cases h1:lst L (a+1)=true
 ·rw [if_pos h1]
  exact cnd_t h1 rfl
 rw [if_neg h1]
 refine cnd_f (by simpa using h1) (bnd (x:=0) rfl (bnd (x:=hfY N D) rfl (bnd (hello_sp hl mP (tkY N D o)) (cnd_f rfl (bndL (rc0 (spY N D m)) (bnd (whole_sp hl (by omega)) (cnd_f (decide_eq_false (by omega)) ?_)))))))
 have hh:=hr_ready hl h
 by_cases h2:lst L (a+2)=true
 ·rw [if_pos h2]
  exact bndL (bk1 hL (R:=sS N D ⟨false,b,n,w,m,o,a⟩) (a:=a+1) (by omega) hh (by rw [if_pos h2])) rfl
 ·rw [if_neg h2]
  exact bndL (bk1 hL (R:=T_Send.mk N D true (m:Int) (m:Int) 0 false) (a:=a+1) (by omega) hh (by rw [if_neg h2,if_pos rfl])) rfl
def oF (N:Int) (D:List Int) (k:Nat):Option Y→Option ((Int×(List Int)×Bool×Int×Int×Int×Bool×(List T_Item)×Int×(List Int)×(List Int)×Int×(List Int)×Bool×Int×Int×Int×Int)⊕((Int×(List Int)×Bool×Int×Int×Int×Bool×(List T_Item)×Int×(List Int)×(List Int)×Int×(List Int)×Bool×Int×Int×Int)⊕((Int×(List Int)×Bool×Int×Int×Int×Bool×(List T_Item)×Int×(List Int)×(List Int)×Int×(List Int)×Bool×Int×Int×Int×Int)⊕((Unit)⊕Bool))))
 | none=>some (.inr (.inr (.inr (.inr true))))
 | some y=>some (.inl (t18 N D y k))
theorem wakesM:wherrylaw22_wakes=some true:=by kernel_rfl
theorem fr_piece {N:Int} {D:List Int} {L:List Bool} {P i k:Nat} {x:Y} {out:List T_Frame} (hl:Lt N D P) (hL:L.length≤200) (h:OkY P x) (hr:x.rdy=true) (ha:x.a<400000) (hi:i<x.n) (hk:k<out.length) (hk2:k<1000) (hg:getO out k=some (pfY N D i)) :
  tmF D L out (t18 N D x k)=oF N D (k+1) (piece1 L P x i):=by
 obtain ⟨r,b,n,w,m,o,a⟩:=x
 have mP:=h.mP
 obtain ⟨ho,r1,r2,r3,r4⟩:=h.r1 hr
 dsimp only at hr mP ha ho r1 r2 r3 r4 hi
 subst hr; subst ho
 have hP:=hl.hP
 have d2:=hl.d2
 unfold tmF t18
 have hw:some (IntKind.i64.wrap ((a:Int)+1))=some ((a+1:Nat):Int):=congrArg some (wrap_succ (n:=a) (by omega))
 have hkw:some (IntKind.i64.wrap ((k:Int)+1))=some ((k+1:Nat):Int):=congrArg some (wrap_succ (n:=k) (by omega))
 refine cnd_t (decide_eq_true (by omega)) ?_
 unfold piece1
 dsimp only
 by_cases h1:lst L (a+1)=true
 ·rw [if_pos h1]
  exact bndL (s:=t17 N D ⟨true,b,n,w,m,true,a+1⟩) (bnd hw (bndL (lost_t hL (by omega) (by omega)) (cnd_t h1 rfl))) (bnd hkw rfl)
 rw [if_neg h1]
 have h1:lst L (a+1)=false:=by simpa using h1
 have hp:=hear_pf hl (by omega:i<P) mP
 by_cases hm:i=m
 ·rw [if_pos hm]
  rw [if_pos hm] at hp
  have hc:=rc1 (add_sp hl mP)
  by_cases hf:m+1=P
  ·rw [if_pos hf]
   have e:D.take (48 * (m+1))=D:=List.take_of_length_le (by omega)
   exact bndR (a := .inr (.inr (.inr (.inr true)))) (bnd hw (bndL (lost_t hL (by omega) (by omega)) (cnd_f h1 (bnd (ixO_of hk) (bnd hg (bnd hp (cnd_f rfl (bndL hc (bnd (whole_sp hl (by omega)) (cnd_t (decide_eq_true hf) (bndL (s:=true) (bnd ((keepBytes_eq _ _ (by show (D.take (48 * (m+1))).length<4294967296; rw [e]; omega)).trans (congrArg some (decide_eq_true e))) (cnd_t rfl (bnd wakesM rfl))) rfl))))))))))) rfl
  rw [if_neg hf]
  have hx:OkY P ⟨true,b,n,w,m,true,a⟩:=h
  have hh:=hr_ack hl hx rfl (q:=m+1) (by dsimp only; omega) (by dsimp only; omega)
  dsimp only at hh
  rw [if_pos (by omega:b<m+1)] at hh
  by_cases h2:lst L (a+2)=true
  ·rw [if_pos h2]
   exact bndL (s:=t17 N D ⟨true,b,n,w,m+1,true,a+2⟩) (bnd hw (bndL (lost_t hL (by omega) (by omega)) (cnd_f h1 (bnd (ixO_of hk) (bnd hg (bnd hp (cnd_f rfl (bndL hc (bnd (whole_sp hl (by omega)) (cnd_f (decide_eq_false hf) (bndL (bk1 hL (R:=sS N D ⟨true,b,n,w,m,true,a⟩) (a:=a+1) (by omega) hh (by rw [if_pos h2])) rfl))))))))))) (bnd hkw rfl)
  ·rw [if_neg h2]
   unfold ackY
   dsimp only
   rw [if_pos (by omega:b<m+1)]
   exact bndL (s:=t17 N D ⟨true,m+1,n,3,m+1,true,a+2⟩) (bnd hw (bndL (lost_t hL (by omega) (by omega)) (cnd_f h1 (bnd (ixO_of hk) (bnd hg (bnd hp (cnd_f rfl (bndL hc (bnd (whole_sp hl (by omega)) (cnd_f (decide_eq_false hf) (bndL (bk1 hL (R:=T_Send.mk N D true ((m+1:Nat):Int) (n:Int) 3 false) (a:=a+1) (by omega) hh (by rw [if_neg h2,if_pos rfl])) rfl))))))))))) (bnd hkw rfl)
 rw [if_neg hm]
 rw [if_neg hm] at hp
 have hc:=rc0 (spY N D m)
 have hf:¬ m=P:=by omega
 have hh:=hr_ack hl h rfl (q:=m) r1 r2
 dsimp only at hh
 by_cases h2:lst L (a+2)=true
 ·rw [if_pos h2]
  obtain ⟨z,hz⟩:∃ z,z=(if b<m then (T_Send.mk N D true (m:Int) (n:Int) 3 false,(0:Int)) else (zeroSend,11)):=⟨_,rfl⟩
  rw [← hz] at hh
  exact bndL (s:=t17 N D ⟨true,b,n,w,m,true,a+2⟩) (bnd hw (bndL (lost_t hL (by omega) (by omega)) (cnd_f h1 (bnd (ixO_of hk) (bnd hg (bnd hp (cnd_f rfl (bndL hc (bnd (whole_sp hl (by omega)) (cnd_f (decide_eq_false hf) (bndL (bk1 hL (R:=sS N D ⟨true,b,n,w,m,true,a⟩) (a:=a+1) (by omega) (A':=z.1) (c:=z.2) hh (by rw [if_pos h2])) rfl))))))))))) (bnd hkw rfl)
 rw [if_neg h2]
 unfold ackY
 dsimp only
 by_cases hb:b<m
 ·rw [if_pos hb]
  rw [if_pos hb] at hh
  exact bndL (s:=t17 N D ⟨true,m,n,3,m,true,a+2⟩) (bnd hw (bndL (lost_t hL (by omega) (by omega)) (cnd_f h1 (bnd (ixO_of hk) (bnd hg (bnd hp (cnd_f rfl (bndL hc (bnd (whole_sp hl (by omega)) (cnd_f (decide_eq_false hf) (bndL (bk1 hL (R:=T_Send.mk N D true (m:Int) (n:Int) 3 false) (a:=a+1) (by omega) hh (by rw [if_neg h2,if_pos rfl])) rfl))))))))))) (bnd hkw rfl)
 ·rw [if_neg hb]
  rw [if_neg hb] at hh
  exact bndL (s:=t17 N D ⟨true,b,n,w,m,true,a+2⟩) (bnd hw (bndL (lost_t hL (by omega) (by omega)) (cnd_f h1 (bnd (ixO_of hk) (bnd hg (bnd hp (cnd_f rfl (bndL hc (bnd (whole_sp hl (by omega)) (cnd_f (decide_eq_false hf) (bndL (bk1 hL (R:=sS N D ⟨true,b,n,w,m,true,a⟩) (a:=a+1) (by omega) hh (by rw [if_neg h2,if_neg (by decide)])) rfl))))))))))) (bnd hkw rfl)
end Go.Abs.Sh
