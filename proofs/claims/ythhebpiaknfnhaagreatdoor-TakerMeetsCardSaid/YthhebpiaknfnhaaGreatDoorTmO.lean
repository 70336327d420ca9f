import Derived.Test.YthhebpiaknfnhaaGreatDoorTmN
namespace Go.Abs.Sh
set_option linter.unusedVariables false
set_option linter.unusedSimpArgs false
set_option maxRecDepth 10000
theorem hello_a (L:List Bool) (x:Y):(hello1 L x).a≤x.a+2:=by
 unfold hello1
 split
 ·dsimp only; omega
 split <;> dsimp only <;> omega
theorem piece_a {L:List Bool} {P i:Nat} {x y:Y} (he:piece1 L P x i=some y):y.a≤x.a+2:=by
 unfold piece1 ackY at he
 dsimp only at he
 repeat' split at he
 all_goals first | (cases he; done) | (obtain rfl:=Option.some.inj he; dsimp only; omega)
def oR (N:Int) (D:List Int):Option Y→Option ((Int×(List Int)×Bool×Int×Int×Int×Bool×(List T_Item)×Int×(List Int)×(List Int)×Int×(List Int)×Bool×Int×Int×Int)⊕((Int×(List Int)×Bool×Int×Int×Int×Bool×(List T_Item)×Int×(List Int)×(List Int)×Int×(List Int)×Bool×Int×Int×Int×Int)⊕((Unit)⊕Bool)))
 | none=>some (.inr (.inr (.inr true)))
 | some y=>some (.inl (t17 N D y))
theorem fr_run {N:Int} {D:List Int} {L:List Bool} {P c a0:Nat} {z:Y} (hl:Lt N D P) (hL:L.length≤200) (hc:c<1000):∀ (k i idx:Nat) (x:Y) (fuel:Nat),OkY P x→x.rdy=true→idx+k=c→i=a0+idx→i+k=x.n→x.a+2 * k<400000→k<fuel →
  loopF (tmF D L (frames (sS N D z) a0 c)) fuel (t18 N D x idx)=oR N D (run1 L P k i x)∧∀ y,run1 L P k i x=some y→y.a≤x.a+2 * k
 | 0,i,idx,x,fuel,h,hr,h1,h2,h3,ha,hf=>by
  obtain ⟨g,rfl⟩:∃ g,fuel=g+1:=⟨fuel-1,by omega⟩
  obtain rfl:idx=c:=by omega
  have e:=fr_end N D L (frames (sS N D z) a0 idx) x g
  rw [frames_len] at e
  refine ⟨e,fun y hy => ?_⟩
  ·obtain rfl:=Option.some.inj hy; omega
 | k+1,i,idx,x,fuel,h,hr,h1,h2,h3,ha,hf=>by
  obtain ⟨g,rfl⟩:∃ g,fuel=g+1:=⟨fuel-1,by omega⟩
  have hp:=fr_piece (k:=idx) (i:=i) (out:=frames (sS N D z) a0 c) hl hL h hr (by omega) (by omega) (by rw [frames_len]; omega) (by omega) (by rw [frames_get _ _ _ _ (by omega),h2]; rfl)
  unfold run1
  cases he:piece1 L P x i with
  | none =>
   rw [he] at hp
   exact ⟨loop_exit hp,fun y hy=>by cases hy⟩
  | some y =>
   rw [he] at hp
   obtain ⟨p1,p2,p3,p4,_⟩:=ok_piece h hr (by omega:i<x.n) he
   have pa:=piece_a he
   obtain ⟨q1,q2⟩:=fr_run (a0:=a0) (z:=z) hl hL hc k (i+1) (idx+1) y g p1 p2 (by omega) (by omega) (by omega) (by omega) (by omega)
   refine ⟨(loop_next hp).trans q1,fun y' hy => ?_⟩
   have:=q2 y' hy
   omega
def oK (N:Int) (D:List Int) (j:Nat):Option Y→Option ((Int×(List Int)×Bool×Int×Int×Int×Bool×(List T_Item)×Int×(List Int)×(List Int)×Int×(List Int)×Bool×Int×Int×Int×Int)⊕((Unit)⊕Bool))
 | none=>some (.inr (.inr true))
 | some y=>some (.inl (t18 N D y j))
theorem tick_sim {N:Int} {D:List Int} {L:List Bool} {P j:Nat} {x:Y} (hl:Lt N D P) (hL:L.length≤200) (h:OkY P x) (hj:j<1200) (ha:x.a≤100 * j) :
  tmK D L (t18 N D x j)=oK N D (j+1) (tick1 L P x)∧∀ y,tick1 L P x=some y→y.a≤100 * (j+1):=by
 have ht:=tick_eq (rt_sS hl h)
 have hP:=hl.hP; have d1:=hl.d1; have d2:=hl.d2; have mP:=h.mP; have w3:=h.w3
 have hp:pcs (sS N D x)=(P:Int):=by unfold pcs sS; dsimp only; omega
 have hj1:some (IntKind.i64.wrap ((j:Int)+1))=some ((j+1:Nat):Int):=congrArg some (wrap_succ (n:=j) (by omega))
 obtain ⟨r,b,n,w,m,o,a⟩:=x
 dsimp only at mP w3 ha
 have hwn:wnd (sS N D ⟨r,b,n,w,m,o,a⟩)=((wnY P ⟨r,b,n,w,m,o,a⟩:Nat):Int):=by
  have hb:b≤P:=by
   cases hr:r
   ·have:=h.r0 hr; dsimp only at this; omega
   ·have:=h.r1 hr; dsimp only at this; omega
  rw [wnd_eq _ (by show (0:Int)≤(b:Int); omega) (by show (b:Int)≤100000; omega),hp]
  unfold wnY
  show (if (P:Int)<(b:Int)+7 then (P:Int) else (b:Int)+7)=_
  dsimp only
  split <;> split <;> omega
 have key:∀ (out:List T_Frame) (x':Y) (q:Option Y),tickF (sS N D ⟨r,b,n,w,m,o,a⟩)=(sS N D x',out)→x'.m=m→x'.op=o→x'.a=a→loopF (tmF D L out) BIG (t18 N D x' 0)=oR N D q→tmK D L (t18 N D ⟨r,b,n,w,m,o,a⟩ j)=oK N D (j+1) q:=by
  intro out x' q hk e1 e2 e3 hf
  rw [hk] at ht
  subst e1; subst e2; subst e3
  unfold tmK t18
  cases q with
  | none=>exact cnd_t (decide_eq_true (by omega)) (bnd ht (cnd_f rfl (bndR hf rfl)))
  | some y=>exact cnd_t (decide_eq_true (by omega)) (bnd ht (cnd_f rfl (bndL hf (bnd hj1 rfl))))
 have no:∀ (x':Y),loopF (tmF D L []) BIG (t18 N D x' 0)=oR N D (some x'):=by
  intro x'
  obtain ⟨g,hg⟩:=big2
  rw [hg]
  exact fr_end N D L [] x' (g+1)
 have he:∀ (x':Y),OkY P x'→x'.rdy=false→x'.a=a→loopF (tmF D L [hfY N D]) BIG (t18 N D x' 0)=oR N D (some (hello1 L x')):=by
  intro x' hx hr hxa
  obtain ⟨g,hg⟩:=big2
  rw [hg]
  exact (loop_next (fr_hello hl hL hx hr (by omega))).trans (fr_end N D L [hfY N D] (hello1 L x') g)
 unfold tickF at key
 have ho:¬ (sS N D ⟨r,b,n,w,m,o,a⟩).Over=true:=by show ¬ false=true; simp
 rw [if_neg ho] at key
 unfold tick1
 dsimp only
 by_cases hr:r=false
 ·rw [if_pos hr]
  have hc:(sS N D ⟨r,b,n,w,m,o,a⟩).Ready=false∨(sS N D ⟨r,b,n,w,m,o,a⟩).Base=pcs (sS N D ⟨r,b,n,w,m,o,a⟩) := .inl hr
  rw [if_pos hc] at key
  have r0:=h.r0 hr
  dsimp only at r0
  by_cases hw:0<w
  ·rw [if_pos hw]
   have hw':0<(sS N D ⟨r,b,n,w,m,o,a⟩).Wait:=by show (0:Int)<(w:Int); omega
   rw [if_pos hw'] at key
   refine ⟨key [] ⟨r,b,n,w-1,m,o,a⟩ _ ?_ rfl rfl rfl (no _),fun y hy => ?_⟩
   ·have:(w:Int)-1=((w-1:Nat):Int):=by omega
    show (T_Send.mk N D r (b:Int) (n:Int) ((w:Int)-1) false,([]:List T_Frame))=_
    rw [this]; rfl
   ·obtain rfl:=Option.some.inj hy; dsimp only; omega
  ·rw [if_neg hw]
   have hw':¬ 0<(sS N D ⟨r,b,n,w,m,o,a⟩).Wait:=by show ¬ (0:Int)<(w:Int); omega
   rw [if_neg hw'] at key
   subst hr
   refine ⟨key [hfY N D] ⟨false,b,n,3,m,o,a⟩ _ rfl rfl rfl rfl (he _ (okY_no mP (by omega) r0.1 r0.2) rfl rfl),fun y hy => ?_⟩
   obtain rfl:=Option.some.inj hy
   have:=hello_a L ⟨false,b,n,3,m,o,a⟩
   dsimp only at this
   omega
 rw [if_neg hr]
 have hr:r=true:=by cases r; exact absurd rfl hr; rfl
 subst hr
 obtain ⟨ho,r1,r2,r3,r4⟩:=h.r1 rfl
 dsimp only at ho r1 r2 r3 r4
 subst ho
 have hc:¬ ((sS N D ⟨true,b,n,w,m,true,a⟩).Ready=false∨(sS N D ⟨true,b,n,w,m,true,a⟩).Base=pcs (sS N D ⟨true,b,n,w,m,true,a⟩)):=by
  rw [hp]
  intro hh
  rcases hh with hh | hh
  ·cases hh
  ·have hh:(b:Int)=(P:Int):=hh
   omega
 rw [if_neg hc,hwn] at key
 by_cases hn:n<wnY P ⟨true,b,n,w,m,true,a⟩
 ·rw [if_pos hn]
  have hn':(sS N D ⟨true,b,n,w,m,true,a⟩).Next<((wnY P ⟨true,b,n,w,m,true,a⟩:Nat):Int):=by show (n:Int)<_; omega
  rw [if_pos hn'] at key
  obtain ⟨v,hv⟩:∃ v,v=wnY P ⟨true,b,n,w,m,true,a⟩:=⟨_,rfl⟩
  rw [← hv] at hn key ⊢
  have hvb:v≤P∧v≤b+7:=by
   rw [hv]; unfold wnY; dsimp only
   split <;> omega
  have hx:OkY P ⟨true,b,v,3,m,true,a⟩:=okY_yes mP (by omega) r1 (by omega) hvb.2 hvb.1
  obtain ⟨q1,q2⟩:=fr_run (z:=⟨true,b,n,w,m,true,a⟩) (a0:=n) (c:=v-n) hl hL (by omega) (v-n) n 0 _ BIG hx rfl (by omega) (by omega) (by dsimp only; omega) (by dsimp only; omega) (by unfold BIG; omega)
  refine ⟨key (frames (sS N D ⟨true,b,n,w,m,true,a⟩) n (v-n)) ⟨true,b,v,3,m,true,a⟩ _ rfl rfl rfl rfl q1,fun y hy => ?_⟩
  have:=q2 y hy
  dsimp only at this
  omega
 rw [if_neg hn]
 have hn':¬ (sS N D ⟨true,b,n,w,m,true,a⟩).Next<((wnY P ⟨true,b,n,w,m,true,a⟩:Nat):Int):=by show ¬ (n:Int)<_; omega
 rw [if_neg hn'] at key
 by_cases hw:w=0
 ·rw [if_pos hw]
  have hw':(sS N D ⟨true,b,n,w,m,true,a⟩).Wait=0:=by show (w:Int)=0; omega
  rw [if_pos hw'] at key
  refine ⟨key [hfY N D] ⟨false,0,0,3,m,true,a⟩ _ rfl rfl rfl rfl (he _ (okY_no mP (by omega) rfl rfl) rfl rfl),fun y hy => ?_⟩
  obtain rfl:=Option.some.inj hy
  have:=hello_a L ⟨false,0,0,3,m,true,a⟩
  dsimp only at this
  omega
 ·rw [if_neg hw]
  have hw':¬ (sS N D ⟨true,b,n,w,m,true,a⟩).Wait=0:=by show ¬ (w:Int)=0; omega
  rw [if_neg hw'] at key
  refine ⟨key [] ⟨true,b,n,w-1,m,true,a⟩ _ ?_ rfl rfl rfl (no _),fun y hy => ?_⟩
  ·have:(w:Int)-1=((w-1:Nat):Int):=by omega
   show (T_Send.mk N D true (b:Int) (n:Int) ((w:Int)-1) false,([]:List T_Frame))=_
   rw [this]; rfl
  ·obtain rfl:=Option.some.inj hy; dsimp only; omega
theorem tm_loop {N:Int} {D:List Int} {L:List Bool} {P:Nat} (hl:Lt N D P) (hL:L.length≤200):∀ (f:Nat) (x:Y) (j fuel:Nat),OkY P x→phiY L P x<f→j+f≤1200→x.a≤100 * j→f<fuel→loopF (tmK D L) fuel (t18 N D x j)=some (.inr true)
 | 0,x,j,fuel,h,hp,hj,ha,hf=>absurd hp (Nat.not_lt_zero _)
 | f+1,x,j,fuel,h,hp,hj,ha,hf=>by
  obtain ⟨g,rfl⟩:∃ g,fuel=g+1:=⟨fuel-1,by omega⟩
  have hP:P≤25:=by have:=hl.hP; have:=hl.d2; omega
  obtain ⟨s1,s2⟩:=tick_sim hl hL h (by omega) ha
  rcases tick_dec (L:=L) h hP with he | ⟨y,he,hy,hd⟩
  ·rw [he] at s1
   exact loop_exit s1
  ·rw [he] at s1
   exact (loop_next s1).trans (tm_loop hl hL f y (j+1) g hy (by omega) (by omega) (s2 y he) (by omega))
theorem spo_remM (z:Int) (n:Nat) (h0:0<n) (hn:n≤1000000):∃ q:Nat,q<n∧remO (IntKind.u64.wrap z) (IntKind.u64.wrap (n:Int))=some (q:Int):=by
 have e:(2:Int) ^ 64=18446744073709551616:=by decide
 have h0':0≤IntKind.u64.wrap z:=by
  simp only [IntKind.wrap,IntKind.bits,IntKind.signed]
  simp only [e,Bool.false_and,Bool.false_eq_true,if_false]
  omega
 have hnw:IntKind.u64.wrap (n:Int)=(n:Int):=u64_wrap (by omega) (by omega)
 obtain ⟨m,hm⟩:∃ m:Nat,IntKind.u64.wrap z=(m:Int):=⟨(IntKind.u64.wrap z).toNat,by omega⟩
 rw [hm,hnw]
 refine ⟨m % n,Nat.mod_lt _ h0,?_⟩
 rw [rem_nat _ _ h0]
theorem num_ofM (x:Int):∃ num:Int,1≤num∧num≤65535∧∀ {R:Type} (f:Int→Option R),((some (IntKind.u64.wrap x)).bind fun v3=>(remO v3 65535).bind fun v4=>(some (IntKind.i64.wrap v4)).bind fun v5=>(some (IntKind.i64.wrap (1+v5))).bind f)=f num:=by
 obtain ⟨q,hq,hqr⟩:=spo_remM x 65535 (by omega) (by omega)
 have e65:IntKind.u64.wrap ((65535:Nat):Int)=65535:=u64_wrap (by omega) (by omega)
 rw [e65] at hqr
 refine ⟨1+(q:Int),by omega,by omega,fun f => ?_⟩
 exact bnd rfl (bnd hqr (bnd (congrArg some (wrap_nat q (by omega))) (bnd (congrArg some (wrap_i64 (by omega) (by omega))) rfl)))
theorem takerMeets_true (number:Int) (data:List Int) (lost:List Bool):wherrylaw22_TakerMeets number data lost=some true:=by
 unfold wherrylaw22_TakerMeets
 by_cases h1:1200<data.length
 ·exact bndL (s:=true) (cnd_t (decide_eq_true (by omega)) rfl) (cnd_t rfl rfl)
 by_cases h2:data.length=0
 ·exact bndL (s:=true) (cnd_f (decide_eq_false (by omega)) (cnd_t (by rw [h2]; rfl) rfl)) (cnd_t rfl rfl)
 have h2':((data.length:Int)==0)=false:=beq_eq_false_iff_ne.2 (by omega)
 by_cases h3:200<lost.length
 ·exact bndL (s:=true) (cnd_f (decide_eq_false (by omega)) (cnd_f h2' (inl_of (decide_eq_true (by omega))))) (cnd_t rfl rfl)
 refine bndL (s:=false) (cnd_f (decide_eq_false (by omega)) (cnd_f h2' (inl_of (decide_eq_false (by omega))))) (cnd_f rfl ?_)
 obtain ⟨num,n1,n2,hnum⟩:=num_ofM number
 obtain ⟨P,hP⟩:∃ P,P=(data.length+47) / 48:=⟨_,rfl⟩
 have hl:Lt num data P:=⟨n1,n2,by omega,by omega,hP⟩
 have hx:OkY P ⟨false,0,0,0,0,false,0⟩:=okY_no (by omega) (by omega) rfl rfl
 have hph:phiY lost P ⟨false,0,0,0,0,false,0⟩<1200:=by
  unfold phiY psiY
  dsimp only
  rw [if_neg (by simp:¬ false=true)]
  split <;> omega
 have hnew:=new_eq num data (by omega)
 have hok:sendOk (T_Send.mk num data false 0 0 0 false)=true:=ok_of (rt_sS hl hx)
 rw [hok] at hnew
 exact (hnum _).trans (bnd hnew (bnd rfl (cnd_f rfl (bndR (tm_loop hl (by omega) 1200 ⟨false,0,0,0,0,false,0⟩ 0 BIG hx hph (by omega) (by dsimp only; omega) (by unfold BIG; omega)) rfl))))
end Go.Abs.Sh
