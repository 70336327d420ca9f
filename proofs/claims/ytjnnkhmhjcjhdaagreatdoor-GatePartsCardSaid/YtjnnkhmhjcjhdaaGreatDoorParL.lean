import Derived.Test.YtjnnkhmhjcjhdaaGreatDoorParF
set_option linter.unusedVariables false
set_option linter.unusedSimpArgs false
set_option linter.unusedSectionVars false
namespace Go.Abs.Sh
set_option linter.unusedVariables false
set_option linter.unusedSimpArgs false
set_option maxRecDepth 10000
theorem Dv (h s:KK) (at_:Int) (hh:h.size<1000000) (hs:s.size<1000000):Tt (kr h s at_) fun r=>dv r.1∧r.1.length≤2000000000000:=by
 unfold kr
 have nil:dv ([]:List Int)∧([]:List Int).length≤2000000000000:=⟨fun x hx=>(by cases hx),Nat.zero_le _⟩
 refine lX (tB (rC h (by omega)) fun _ _=>tC (fun _=>bT trivial) fun _=>tB (rC s (by omega)) fun _ _=>bT trivial) fun _=>tC (fun _=>tS nil) fun _ => ?_
 refine lR (fun b=>b=false→0≤at_∧at_≤1099511627776) (tD (fun _=>bT fun h=>by cases h) fun h=>bT fun k=>by have:=of_decide_eq_false k; omega) fun b hb=>tC (fun _=>tS nil) fun hf0 => ?_
 have ha:=hb hf0
 refine vD (by show 15+h.size≤_; omega) fun a ea=>vD (by show _+4≤_; have:a.size=15+h.size:=ea; omega) fun b eb=>vD (by have:a.size=15+h.size:=ea; have:b.size=a.size+4:=eb; omega) fun c ec=>vD (by show _+13≤_; have:a.size=15+h.size:=ea; have:b.size=a.size+4:=eb; omega) fun d ed=>tB (BK at_ ha.1 (by omega)) fun e he => ?_
 have h1:a.size=15+h.size:=ea
 have h2:b.size=a.size+4:=eb
 have h3:d.size=c.size+13:=ed
 refine vD (by omega) fun f ef=>vD (by show _+2≤_; omega) fun g eg=>tV (tS ⟨cG g,?_⟩)
 have h4:g.size=f.size+2:=eg
 dsimp only
 rw [aD]
 omega
theorem Hj (b:List Int) (h s:KK) (at_:Int) (hb:dv b) (hl:b.length<4000000000) (hh:h.size<1000000) (hs:s.size<1000000):Tt (mP b h s at_) fun r=>dv r.1∧r.1.length≤5000000000000:=by
 unfold mP
 have nil:dv ([]:List Int)∧([]:List Int).length≤5000000000000:=⟨fun x hx=>(by cases hx),Nat.zero_le _⟩
 refine tB (pJ b hb (by omega)) fun _ _=>tN (fun _=>tS nil) fun _=>tB (Dv h s at_ hh hs) fun r hr=>tN (fun _=>tS nil) fun _ => ?_
 have:=hr.2
 exact tA (by omega) (by omega) fun q eq lq=>tS ⟨by dsimp only; rw [eq]; exact kE hr.1 hb,by dsimp only; omega⟩
structure nX (p:T_Path):Prop where
 l:p.Ks.size≤1000000
 d:p.Kg.size≤1000000
structure GB (m:aH):Prop where
 f:nX m.Kj
 t:∀ p∈m.To,nX p
 n:m.To.length≤1000000
 b:dv m.Kc
theorem ra (p:T_Path) (h:nX p):Tt (dF p) fun _=>True:=vo p (by have:=h.l; omega) (by have:=h.d; omega)
theorem Hr (m:aH) (h:GB m):Tt (fR m) fun _=>True:=by
 have hn:=h.n
 unfold fR
 refine lX (tB (ra _ ⟨h.f.l,h.f.d⟩) fun _ _=>tN (fun _=>bT trivial) fun _=>tD (fun _=>bT trivial) fun _=>bT trivial) fun _=>tC (fun _=>tS trivial) fun _ => ?_
 refine lX (tL (fun i:Int=>0≤i∧i≤((m.To.length:Nat):Int)) (fun i=>m.To.length-i.toNat) ⟨by omega,by omega⟩ (by simp only [dH]; omega) ?_) (fun _=>tS trivial)
 rintro i ⟨h0,h1⟩
 refine tD (fun _=>kZ (by omega) (by omega) fun _ _ _=>tG (by omega) fun x hx=>lX (tB (ra x (h.t x hx)) fun _ _=>tN (fun _=>bT trivial) fun _=>bT trivial) fun _=>tC (fun _=>kB (a:=Sum.inr false) trivial) fun _=>tW (by omega) (by omega) (bT ?_)) fun _=>kB (a:=Sum.inl ()) trivial
 omega
theorem Da (m:aH) (h:GB m):Tt (eF m) fun r=>r=true→m.Kc.length≤4096:=by
 unfold eF
 refine lR (fun r=>r=true→m.Kc.length≤4096) (tB (Hr _ ⟨⟨h.f.l,h.f.d⟩,h.t,h.n,h.b⟩) fun _ _=>tC (fun _=>tD (fun h4=>tB (pJ m.Kc h.b (by omega)) fun _ _=>bT fun _=>by omega) fun _=>bT fun h=>by cases h) fun _=>bT fun h=>by cases h) fun r hr=>tS hr
theorem Bc (m:aH) (h:GB m):Tt (iD (df.mk 0 65535 [m])) fun r=>r=0→m.Kc.length≤4096:=by
 unfold iD
 refine lX (Q:=fun r=>r=0→m.Kc.length≤4096) (tN (fun h=>absurd rfl h) fun _=>tD (fun _=>bT trivial) fun _=>bT trivial) fun _=>tC (fun _=>tS fun h=>by cases h) fun _=>lX (tD (fun _=>bT trivial) fun _=>bT trivial) fun _=>tC (fun _=>tS fun h=>by cases h) fun _ => ?_
 refine lR (fun _=>m.Kc.length≤4096) (tL (fun i:Int=>0≤i∧i≤1∧(i=1→m.Kc.length≤4096)) (fun i=>1-i.toNat) ⟨by omega,by omega,fun h=>by omega⟩ (by simp only [dH]; omega) ?_) fun _ hb=>tS fun _=>hb
 rintro i ⟨h0,h1,h2⟩
 have h1':(([m]:List aH).length:Int)=1:=rfl
 refine tD (fun hi=>kZ (by omega) (by omega) fun k hk hk2=>tG hk2 fun x hx => ?_) fun hi=>kB (a:=Sum.inl ()) (h2 (by have:¬ i<1:=hi; omega))
 rw [List.mem_singleton.1 hx]
 have hi1:i<1:=hi
 refine lR (fun b=>b=false→m.Kc.length≤4096) (tB (Da (aH.mk (T_Path.mk m.Kj.Kx m.Kj.Ks m.Kj.Kg) m.To m.Kc m.KE m.Kn m.At) ⟨⟨h.f.l,h.f.d⟩,h.t,h.n,h.b⟩) fun v hv=>tC (fun _=>bT fun h=>by cases h) fun hv2=>tC (fun _=>bT fun h=>by cases h) fun _=>tC (fun _=>bT fun h=>by cases h) fun _=>bT fun _=>hv (by cases v <;> simp_all)) fun b hb=>tC (fun _=>kB (a:=Sum.inr 5) fun h=>by cases h) fun hf=>tW (by omega) (by omega) (bT ⟨⟨by omega,by omega,fun _=>hb hf⟩,by omega⟩)
theorem DP (p:T_Path) (h:nX p):Tt (lm p) fun r=>r.1.size≤2000003:=by
 have h1:=h.l
 have h2:=h.d
 unfold lm
 refine tB (ra p h) fun _ _=>tN (fun _=>tS (Nat.zero_le _)) fun _=>tC (fun _=>tS (by decide)) fun _=>vD (by show 1+_≤_; omega) fun a ea=>vD (by show _+1≤_; have:a.size=1+p.Ks.size:=ea; omega) fun b eb => ?_
 have h3:a.size=1+p.Ks.size:=ea
 have h4:b.size=a.size+1:=eb
 refine vD (by omega) fun c ec=>vD (by show _+1≤_; omega) fun d ed=>tS ?_
 have h5:d.size=c.size+1:=ed
 dsimp only; omega
theorem EN (w:KK) (p:T_Path) (c:List Int) (h:nX p) (hw:w.size≤100) (hc:c.length≤100000000000000):Tt (ce w p c) fun r=>r.length≤c.length+2000200:=by
 unfold ce
 refine tB (DP p h) fun t ht=>vD (by omega) fun a ea=>vD (by show _+2≤_; omega) fun b eb => ?_
 have h1:b.size=a.size+2:=eb
 have h2:=aD b
 exact tA (by omega) (by omega) fun r _ hr=>tS (by omega)
theorem Fq (m:aH) (h:GB m) (hb:m.Kc.length≤4096):Tt (eZ [m]) fun r=>r.length≤3000000000000:=by
 have hn:=h.n
 unfold eZ
 refine lR (fun l:List Int=>l.length≤2900000000000) (tL (fun x:List Int×Int=>(x.1.length:Int)≤2900000000000 * x.2∧0≤x.2∧x.2≤1) (fun x=>1-x.2.toNat) ⟨by simp,by dsimp only; omega,by dsimp only; omega⟩ (by simp only [dH]; omega) ?_) fun l hl => ?_
 ·rintro ⟨l,i⟩ ⟨h0,h1,h2⟩
  dsimp only at h0 h1 h2 ⊢
  have h1':(([m]:List aH).length:Int)=1:=rfl
  refine tD (fun hi=>kZ (by omega) (by omega) fun k hk hk2=>tG hk2 fun x hx => ?_) fun hi=>kB (a:=Sum.inl l) (by show l.length≤2900000000000; omega)
  rw [List.mem_singleton.1 hx]
  have hi0:i=0:=by omega
  subst hi0
  refine tB (EN _ _ l ⟨h.f.l,h.f.d⟩ (by decide) (by omega)) fun a ha => ?_
  refine lR (fun r:List Int=>r.length≤2000200 * 1000001) (tL (fun x:List Int×Int=>(x.1.length:Int)≤2000200 * (x.2+1)∧0≤x.2∧x.2≤(m.To.length:Int)) (fun x=>m.To.length-x.2.toNat) ⟨by dsimp only; omega,by dsimp only; omega,by dsimp only; omega⟩ (by simp only [dH]; omega) ?_) fun r hr => ?_
  ·rintro ⟨r,j⟩ ⟨k0,k1,k2⟩
   dsimp only at k0 k1 k2 ⊢
   refine tD (fun hj=>kZ (by omega) (by omega) fun _ _ _=>tG (by omega) fun p hp=>tB (EN _ p r (h.t p hp) (by decide) (by omega)) fun q hq=>tW (by omega) (by omega) (bT ⟨⟨by dsimp only; omega,by dsimp only; omega,by dsimp only; omega⟩,by dsimp only; omega⟩)) fun hj=>kB (a:=Sum.inl r) (by show r.length≤2000200 * 1000001; omega)
  ·have e6:(ao (⟨#[68,65,84,65,13,10]⟩:KK)).length=6:=rfl
   refine tA (by omega) (by omega) fun q _ hq=>tB (Bt m.Kc h.b (by omega)) fun s hs=>tA (by omega) (by omega) fun t _ ht=>tW (by omega) (by omega) (bT ⟨⟨by dsimp only; omega,by dsimp only; omega,by dsimp only; omega⟩,by dsimp only; omega⟩)
 ·have e6:(ao (⟨#[81,85,73,84,13,10]⟩:KK)).length=6:=rfl
  exact tA (by omega) (by omega) fun q _ hq=>tS (by omega)
theorem DN (d:Int):Tt (jS d) fun r=>r.length=16:=by
 unfold jS
 refine lR (fun l:List Int=>l.length=16) (tL (fun x:List Int×Int=>x.1.length=16∧0≤x.2∧x.2≤16) (fun x=>16-x.2.toNat) ⟨rfl,by decide,by decide⟩ (by simp only [dH]; omega) ?_) fun l hl=>mE hl (mE rfl (mE hl (mE hl (tS hl))))
 rintro ⟨l,i⟩ ⟨h1,h2,h3⟩
 dsimp only at h1 h2 h3 ⊢
 refine tD (fun _=>xR fun v hv _=>lX (tL (fun x:Int×Int=>0≤x.1∧0≤x.2∧x.2≤4) (fun x=>4-x.2.toNat) ⟨hv,by dsimp only; omega,by dsimp only; omega⟩ (by simp only [dH]; omega) ?_) fun a=>kZ (by omega) (by omega) fun _ _ _=>IG (by omega) (tW (by omega) (by omega) (bT ⟨⟨by rw [List.length_set]; exact h1,by dsimp only; omega,by dsimp only; omega⟩,by dsimp only; omega⟩))) fun _=>kB (a:=Sum.inl l) h1
 rintro ⟨a,j⟩ ⟨k1,k2,k3⟩
 dsimp only at k1 k2 k3 ⊢
 refine tD (fun _=>lR (fun r:Int=>0≤r) (sU fun _ _ _=>Cf k1 (by omega) fun z hz _=>tE (fun _=>sU fun _ h _=>bT h) fun _=>bT hz) fun r hr=>tW (by omega) (by omega) (bT ⟨⟨hr,by dsimp only; omega,by dsimp only; omega⟩,by dsimp only; omega⟩)) fun _=>kB (a:=Sum.inl a) trivial
theorem Ff (b:List Int) (hl:b.length<4611686018427387904):Tt (lK b) fun r=>0≤r∧r<4294967296:=by
 unfold lK
 refine tB (P:=fun r=>0≤r∧r<4294967296) ?_ fun r hr=>tS hr
 unfold pH
 refine tB (DN _) fun t ht=>mE rfl (mE ht (uI (by decide) fun z _ _=>xR fun y _ _ => ?_))
 refine lX (tL (fun x:Int×Int=>0≤x.2∧x.2≤(b.length:Int)) (fun x=>b.length-x.2.toNat) ⟨by dsimp only; omega,by dsimp only; omega⟩ (by simp only [dH]; omega) ?_) fun s=>sU fun r h1 h2=>tW (by omega) (by omega) (tS ⟨h1,h2⟩)
 rintro ⟨a,j⟩ ⟨k2,k3⟩
 dsimp only at k2 k3 ⊢
 refine tD (fun _=>kZ (by omega) (by omega) fun _ _ _=>tG (by omega) fun _ _=>xR fun _ _ _=>sU fun _ _ _=>Cf (by omega) (by omega) fun _ _ _=>xl (by omega) (by omega) fun _ _ _ _=>kZ (by omega) (by omega) fun _ _ _=>tG (by omega) fun _ _=>sU fun _ _ _=>Cf (by omega) (by omega) fun _ _ _=>xl (by omega) (by omega) fun _ _ _ _=>kZ (by omega) (by omega) fun _ _ _=>tG (by omega) fun _ _=>sU fun _ _ _=>tW (by omega) (by omega) (bT ⟨⟨by dsimp only; omega,by dsimp only; omega⟩,by dsimp only; omega⟩)) fun _=>kB (a:=Sum.inl a) trivial
theorem Dc (m:aH) (h:GB m):Tt (iH (df.mk 0 65535 [m])) fun _=>True:=by
 unfold iH
 refine tB (Bc m h) fun e he=>tN (fun _=>tS trivial) fun h0=>tB (Fq m h (he h0)) fun c hc=>tB (Ff c (by omega)) fun v hv => ?_
 have hL:∀ x∈([0,65535,(([m]:List aH).length:Int),(c.length:Int),v]:List Int),0≤x∧x≤4000000000000:=fun x hx=>by
  have e1:(([m]:List aH).length:Int)=1:=rfl
  rw [e1] at hx
  simp only [List.mem_cons,List.not_mem_nil,or_false] at hx
  omega
 have hl5:([0,65535,(([m]:List aH).length:Int),(c.length:Int),v]:List Int).length=5:=rfl
 generalize ([0,65535,(([m]:List aH).length:Int),(c.length:Int),v]:List Int)=L at *
 refine lR (fun s:KK=>s.size≤30000000000000) (tL (fun x:KK×Int=>(x.1.size:Int)≤6+4000000000010 * x.2∧0≤x.2∧x.2≤5) (fun x=>5-x.2.toNat) ⟨by decide,by decide,by decide⟩ (by simp only [dH]; omega) ?_) fun s hs => ?_
 ·rintro ⟨s,i⟩ ⟨k1,k2,k3⟩
  dsimp only at k1 k2 k3 ⊢
  refine tD (fun hi=>kZ (by omega) (by omega) fun _ _ _=>tG (by omega) fun x hx=>tB (BK x (hL x hx).1 (by have:=(hL x hx).2; omega)) fun a ha=>vD (by show 1+a.size≤_; have:=(hL x hx).2; omega) fun b eb => ?_) fun _=>kB (a:=Sum.inl s) (by show s.size≤30000000000000; omega)
  have h1:b.size=1+a.size:=eb
  have h2:=(hL x hx).2
  exact vD (by omega) fun d ed=>tW (by omega) (by omega) (bT ⟨⟨by dsimp only; omega,by dsimp only; omega,by dsimp only; omega⟩,by dsimp only; omega⟩)
 ·refine vD (by show _+2≤_; omega) fun a ea=>tV ?_
  have h1:a.size=s.size+2:=ea
  have h2:=aD a
  exact tA (by omega) (by omega) fun r _ _=>tD (fun _=>tS trivial) fun _=>tS trivial
theorem Gf (m:aH) (h:GB m):Tt (jQ m) fun _=>True:=by
 unfold jQ
 exact tB (Dc (aH.mk (T_Path.mk m.Kj.Kx m.Kj.Ks m.Kj.Kg) m.To m.Kc m.KE m.Kn m.At) ⟨⟨h.f.l,h.f.d⟩,h.t,h.n,h.b⟩) fun _ _=>tS trivial
set_option maxRecDepth 100000
structure Cx where
 d0:KK
 d1:KK
 ex:Int
 us:KK
 se:KK
 lo:Int
 he:Bool
 i:Int
 t:Int
abbrev Cx.cf (c:Cx):T_Config:=T_Config.mk [c.d0,c.d1] c.ex c.us c.se c.lo c.he
structure Cx.Ok (c:Cx):Prop where
 d0:c.d0.size≤10000
 d1:c.d1.size≤10000
 us:c.us.size≤10000
 se:c.se.size≤10000
 i:c.i=0∨c.i=1
abbrev SN (c:Cx) (g:T_Gate) (o:List ap):aa:=aa.mk g c.cf c.i c.t o
abbrev tZ (c:Cx) (g:T_Gate) (o:List ap):aa.t :=
 (g.KC,g.Kn,g.Kj.Kx,g.Kj.Ks,g.Kj.Kg,g.To,g.KE,g.Kd,g.Ke,g.KD,c.d0,c.d1,c.ex,c.us,c.se,c.lo,c.he,c.i,c.t,o)
abbrev Al (g:T_Gate) (b:List Int):T_Gate:=T_Gate.mk g.KC g.Kn g.Kj g.To g.KE b g.Ke g.KD
abbrev zP:T_Path:=T_Path.mk false (⟨#[]⟩:KK) (⟨#[]⟩:KK)
structure GI (g:T_Gate):Prop where
 p0:0≤g.KC
 p6:g.KC≤6
 h:g.Kn.size≤10000
 f:nX g.Kj
 t:∀ p∈g.To,nX p
 n:g.To.length≤40
 c:g.Ke.size≤10000
 b:dv g.Kd
 l:g.Kd.length≤10000
theorem EZ:nX zP:=⟨Nat.zero_le _,Nat.zero_le _⟩
theorem Ct:∀ p∈([]:List T_Path),nX p:=fun p h=>by cases h
theorem GI.ph {g:T_Gate} (h:GI g) (p:Int) (h0:0≤p) (h6:p≤6) (b:Bool):GI (T_Gate.mk p g.Kn g.Kj g.To g.KE g.Kd g.Ke b):=⟨h0,h6,h.h,h.f,h.t,h.n,h.c,h.b,h.l⟩
theorem GI.new {g:T_Gate} (h:GI g) (p:Int) (h0:0≤p) (h6:p≤6) (e:KK) (he:e.size≤10000):GI (T_Gate.mk p e zP [] false g.Kd g.Ke g.KD):=⟨h0,h6,he,EZ,Ct,by simp,h.c,h.b,h.l⟩
def jI (x:ap):Prop:=x.KF.Kr.length≤1∧x.Ku.To.length≤40∧x.Ku.Kc.length≤5000000000000
theorem nA {x:ap} (h:jI x):∀ y∈[x],jI y:=fun y hy=>by rw [List.mem_singleton.1 hy]; exact h
theorem Cq:∀ y∈([]:List ap),jI y:=fun y hy=>by cases hy
theorem Hl {a b:List ap} (h:∀ y∈a,jI y) (k:∀ y∈b,jI y):∀ y∈a++b,jI y:=fun y hy=>(List.mem_append.1 hy).elim (h y) (k y)
def SP (c:Cx) (g:T_Gate) (f:aa→Option aa):Prop:=∃ g' e,(∀ o:List ap,o.length<100000→f (SN c g o)=some (SN c g' (o++e)))∧GI g'∧g'.Ke=g.Ke∧g'.Kd=g.Kd∧e.length≤1∧∀ x∈e,jI x
def MP (c:Cx) (g:T_Gate) (f:aa→Option (Int×aa)):Prop:=∃ k g',(∀ o:List ap,f (SN c g o)=some (k,SN c g' o))∧GI g'∧g'.Ke=g.Ke∧g'.Kd=g.Kd
theorem DJ {A:Type} {a b:Bool} (h:a=b):(some (.inl a):Option (Bool⊕A))=some (.inl b):=by rw [h]
theorem fE {c:Cx} {g:T_Gate} (h:GI g) (code:Int):∃ x,jI x∧∀ o:List ap,o.length<100000→aO (SN c g o) code=some (SN c g (o++[x])):=by
 obtain ⟨r,hr,hrl⟩:=EL (SN c g []) code (by have:=h.c; show g.Ke.size<_; omega)
 refine ⟨ap.mk r false (aH.mk zP [] [] false (⟨#[]⟩:KK) 0) false,⟨hrl,Nat.zero_le _,Nat.zero_le _⟩,fun o ho => ?_⟩
 unfold aO
 exact aX (x:=r) hr (aX (jE (by simp; omega) (by simp; omega)) rfl)
theorem tu {c:Cx} {g:T_Gate} (h:GI g) (code:Int):∃ x,jI x∧∀ o:List ap,o.length<100000→cv (SN c g o) code=some (SN c g (o++[x])):=by
 obtain ⟨r,hr,hrl⟩:=EL (SN c g []) code (by have:=h.c; show g.Ke.size<_; omega)
 refine ⟨ap.mk r false (aH.mk zP [] [] false (⟨#[]⟩:KK) 0) (code==250),⟨hrl,Nat.zero_le _,Nat.zero_le _⟩,fun o ho => ?_⟩
 unfold cv
 exact aX (x:=r) hr (aX (jE (by simp; omega) (by simp; omega)) rfl)
theorem Gq {c:Cx} {g:T_Gate} (h:GI g) {m:bf} (hm:ny m):MP c g fun s=>fD s m:=by
 obtain ⟨v,hv,hs⟩:=yT m (⟨#[83,73,90,69]⟩:KK) hm
 obtain ⟨n,hn,_⟩:=Ev v.1 hs
 have hl:=hm.l
 have hd:=hm.d
 by_cases h1:g.KC=1
 ·by_cases h2:1500<n
  ·exact ⟨552,g,fun o=>aX hv (aX hn (au (by show (g.KC != 1)=false; rw [h1]; rfl) (aL (decide_eq_true h2) rfl))),h,rfl,rfl⟩
  ·refine ⟨250,T_Gate.mk 2 g.Kn m.KB g.To g.KE g.Kd g.Ke g.KD,fun o=>aX hv (aX hn (au (by show (g.KC != 1)=false; rw [h1]; rfl) (au (decide_eq_false h2) rfl))),⟨by dsimp only; omega,by dsimp only; omega,h.h,⟨by dsimp only; omega,by dsimp only; omega⟩,h.t,h.n,h.c,h.b,h.l⟩,rfl,rfl⟩
 ·exact ⟨503,g,fun o=>aX hv (aX hn (aL (bne_iff_ne.2 h1) rfl)),h,rfl,rfl⟩
theorem GK (p:T_Path) (d:KK) (hl:p.Ks.size≤600) (hd:p.Kg.size≤600) (h:d.size≤10000):Tt (kI p d) fun _=>True:=by
 unfold kI
 refine lX (tB (vo p (by omega) (by omega)) fun _ _=>tE (fun _=>tC (fun _=>tB (qj _ (by omega)) fun _ _=>tB (qj d (by omega)) fun _ _=>bT trivial) fun _=>bT trivial) fun _=>bT trivial) fun _=>tS trivial
theorem FA {c:Cx} (hc:c.Ok) {g:T_Gate} (h:GI g) {m:bf} (hm:ny m):MP c g fun s=>fB s m:=by
 obtain ⟨v,hv,hs⟩:=yT m (⟨#[78,79,84,73,70,89]⟩:KK) hm
 obtain ⟨a,ha,_⟩:=GK m.KB c.d0 hm.l hm.d hc.d0
 obtain ⟨b,hb,_⟩:=GK m.KB c.d1 hm.l hm.d hc.d1
 have hl:=hm.l
 have hd:=hm.d
 have hn:=h.n
 by_cases h1:g.KC=2∨g.KC=3
 ·have hp:∀ o,(cond ((SN c g o).Kk.KC != 2) (some (.inl ((SN c g o).Kk.KC != 3))) (some (.inl false)):Option (Bool⊕(Int×aa)))=some (.inl false):=fun o=>by
   rcases h1 with h | h
   ·exact au (by show (g.KC != 2)=false; rw [h]; rfl) rfl
   ·exact aL (by show (g.KC != 2)=true; rw [h]; rfl) (DJ (by show (g.KC != 3)=false; rw [h]; rfl))
  by_cases h8:8≤g.To.length
  ·exact ⟨452,g,fun o=>bw (hp o) (au rfl (aL (decide_eq_true (by show (8:Int)≤g.To.length; omega)) rfl)),h,rfl,rfl⟩
  ·by_cases hab:a=true∨b=true
   ·have hq:∀ o,((kI m.KB ((SN c g o).config.Kh.getD 0 (⟨#[]⟩:KK))).bind fun v7=>cond ((!v7)) ((kI m.KB ((SN c g o).config.Kh.getD 1 (⟨#[]⟩:KK))).bind fun v8=>some (.inl (!v8))) (some (.inl false)):Option (Bool⊕(Int×aa)))=some (.inl false):=fun o=>by
     refine aX ha ?_
     cases a with
     | true=>rfl
     | false =>
      have hb1:b=true:=by simpa using hab
      exact aL rfl (aX hb (by rw [hb1]; rfl))
    obtain ⟨q,hqn⟩:∃ q:Bool,∀ o,(cond ((v.1.toList==(⟨#[78,69,86,69,82]⟩:KK).toList)) (some (.inl true)) (some (.inl (SN c g o).Kk.KE)):Option (Bool⊕(Int×aa)))=some (.inl q):=by
     cases hz:(v.1.toList==(⟨#[78,69,86,69,82]⟩:KK).toList)
     ·exact ⟨g.KE,fun o=>rfl⟩
     ·exact ⟨true,fun o=>rfl⟩
    refine ⟨250,T_Gate.mk 3 g.Kn g.Kj (g.To++[m.KB]) q g.Kd g.Ke g.KD,fun o => ?_,⟨by dsimp only; omega,by dsimp only; omega,h.h,h.f,?_,by dsimp only; rw [List.length_append,List.length_singleton]; omega,h.c,h.b,h.l⟩,rfl,rfl⟩
    ·refine bw (hp o) (au rfl (au (decide_eq_false (by show ¬ (8:Int)≤g.To.length; omega)) (bw (hq o) (au rfl (aX (jE (by simp; omega) (by simp; omega)) (bw (aX hv (hqn o)) rfl))))))
    ·intro p hp2
     rcases List.mem_append.1 hp2 with h2 | h2
     ·exact h.t p h2
     ·rw [List.mem_singleton.1 h2]; exact ⟨by omega,by omega⟩
   ·have ha1:a=false:=by cases a <;> simp_all
    have hb1:b=false:=by cases b <;> simp_all
    subst ha1 hb1
    exact ⟨550,g,fun o=>bw (hp o) (au rfl (au (decide_eq_false (by show ¬ (8:Int)≤g.To.length; omega)) (bw (s:=true) (aX ha (aL rfl (aX hb rfl))) (aL rfl rfl)))),h,rfl,rfl⟩
 ·have h2:g.KC≠2:=fun e=>h1 (.inl e)
  have h3:g.KC≠3:=fun e=>h1 (.inr e)
  exact ⟨503,g,fun o=>bw (s:=true) (aL (bne_iff_ne.2 h2) (DJ (bne_iff_ne.2 h3))) (aL rfl rfl),h,rfl,rfl⟩
theorem DH {c:Cx} {g:T_Gate} (h:GI g):MP c g eT:=by
 by_cases h1:g.KC=3
 ·exact ⟨354,_,fun o=>au (by show (g.KC != 3)=false; rw [h1]; rfl) rfl,h.ph 4 (by decide) (by decide) g.KD,rfl,rfl⟩
 ·exact ⟨503,g,fun o=>aL (bne_iff_ne.2 h1) rfl,h,rfl,rfl⟩
theorem FU {c:Cx} {g:T_Gate} (h:GI g):MP c g fy:=by
 by_cases h1:g.KC=1
 ·cases hp:g.KD
  ·refine ⟨334,_,fun o=>bw (s:=false) (au (by show (g.KC != 1)=false; rw [h1]; rfl) (DJ hp)) (au rfl rfl),h.ph 5 (by decide) (by decide) g.KD,rfl,rfl⟩
  ·exact ⟨503,g,fun o=>bw (s:=true) (au (by show (g.KC != 1)=false; rw [h1]; rfl) (DJ hp)) (aL rfl rfl),h,rfl,rfl⟩
 ·exact ⟨503,g,fun o=>bw (s:=true) (aL (bne_iff_ne.2 h1) rfl) (aL rfl rfl),h,rfl,rfl⟩
theorem yg {c:Cx} (hc:c.Ok) {d:KK} (hd:d.size≤600):∃ b,∀ (g:T_Gate) (o:List ap),co (SN c g o) d=some (b,SN c g o):=by
 obtain ⟨a,ha,_⟩:=pI d c.d0 (by omega) (by have:=hc.d0; omega)
 obtain ⟨b,hb,_⟩:=pI d c.d1 (by omega) (by have:=hc.d1; omega)
 rcases hc.i with hi | hi
 ·exact ⟨b,fun g o=>aX (x:=(1:Int)) (by show some (IntKind.i64.wrap (1-c.i))=_; rw [hi]; rfl) (aX (x:=1) rfl (aX (x:=c.d1) rfl (aX hb rfl)))⟩
 ·exact ⟨a,fun g o=>aX (x:=(0:Int)) (by show some (IntKind.i64.wrap (1-c.i))=_; rw [hi]; rfl) (aX (x:=0) rfl (aX (x:=c.d0) rfl (aX ha rfl)))⟩
theorem Fw {c:Cx} (hc:c.Ok) {g:T_Gate} (h:GI g) {m:bf} (hm:ny m):MP c g fun s=>fC s m:=by
 obtain ⟨b,hb⟩:=yg hc hm.t
 by_cases h1:g.KC=1
 ·cases b
  ·exact ⟨459,g,fun o=>au (by show (g.KC != 1)=false; rw [h1]; rfl) (aX (hb g o) (aL rfl rfl)),h,rfl,rfl⟩
  ·exact ⟨250,g,fun o=>au (by show (g.KC != 1)=false; rw [h1]; rfl) (aX (hb g o) (au rfl rfl)),h,rfl,rfl⟩
 ·exact ⟨503,g,fun o=>aL (bne_iff_ne.2 h1) rfl,h,rfl,rfl⟩
theorem FM {c:Cx} (hc:c.Ok) {g:T_Gate} (h:GI g) {m:bf} (hm:ny m):MP c g fun s=>fv s m:=by
 obtain ⟨b,hb⟩:=yg hc hm.t
 by_cases h1:g.KC=1
 ·have e1:∀ o,((SN c g o).Kk.KC != 1)=false:=fun o=>by show (g.KC != 1)=false; rw [h1]; rfl
  cases hp:g.KD
  ·exact ⟨530,g,fun o=>au (e1 o) (aL (by show (!g.KD)=true; rw [hp]; rfl) rfl),h,rfl,rfl⟩
  ·have e2:∀ o,(!(SN c g o).Kk.KD)=false:=fun o=>by show (!g.KD)=false; rw [hp]; rfl
   obtain ⟨q,hq⟩:∃ q:Bool,∀ o,(cond ((!(m.KH.toList==(⟨#[]⟩:KK).toList)))
     ((co (SN c g o) m.KH).bind fun v3 =>
     some (.inl ((v3.2.Kk.KC,v3.2.Kk.Kn,v3.2.Kk.Kj.Kx,v3.2.Kk.Kj.Ks,v3.2.Kk.Kj.Kg,v3.2.Kk.To,v3.2.Kk.KE,v3.2.Kk.Kd,v3.2.Kk.Ke,v3.2.Kk.KD,(v3.2.config.Kh.getD 0 (⟨#[]⟩:KK)),(v3.2.config.Kh.getD 1 (⟨#[]⟩:KK)),v3.2.config.Ki,v3.2.config.KI,v3.2.config.KG,v3.2.config.Kt,v3.2.config.Km,v3.2.site,v3.2.at_,v3.2.out,(!v3.1)))))
     (some (.inl (g.KC,g.Kn,g.Kj.Kx,g.Kj.Ks,g.Kj.Kg,g.To,g.KE,g.Kd,g.Ke,g.KD,c.d0,c.d1,c.ex,c.us,c.se,c.lo,c.he,c.i,c.t,o,false))):Option ((Int×KK×Bool×KK×KK×(List T_Path)×Bool×(List Int)×KK×Bool×KK×KK×Int×KK×KK×Int×Bool×Int×Int×(List ap)×Bool)⊕(Int×aa))) =
     some (.inl (g.KC,g.Kn,g.Kj.Kx,g.Kj.Ks,g.Kj.Kg,g.To,g.KE,g.Kd,g.Ke,g.KD,c.d0,c.d1,c.ex,c.us,c.se,c.lo,c.he,c.i,c.t,o,q)):=by
    cases hz:(!(m.KH.toList==(⟨#[]⟩:KK).toList))
    ·exact ⟨false,fun o=>rfl⟩
    ·exact ⟨!b,fun o=>aL rfl (aX (hb g o) rfl)⟩
   cases q
   ·exact ⟨250,_,fun o=>au (e1 o) (au (e2 o) (bw (hq o) (au rfl rfl))),h.ph 6 (by decide) (by decide) g.KD,rfl,rfl⟩
   ·exact ⟨450,g,fun o=>au (e1 o) (au (e2 o) (bw (hq o) (aL rfl rfl))),h,rfl,rfl⟩
 ·exact ⟨503,g,fun o=>aL (bne_iff_ne.2 h1) rfl,h,rfl,rfl⟩
theorem Dy {c:Cx} (hc:c.Ok) {g:T_Gate} (h:GI g) (l:KK):SP c g fun s=>eR s l:=by
 obtain ⟨v,hv,_⟩:=Bu c.us c.se g.Ke l (by have:=hc.us; omega) (by have:=hc.se; omega) (by have:=h.c; omega)
 cases v
 ·obtain ⟨x,hxo,hx⟩:=fE (c:=c) (h.ph 1 (by decide) (by decide) g.KD) 535
  exact ⟨_,[x],fun o ho=>aX hv (aL rfl (aX (hx o ho) rfl)),h.ph 1 (by decide) (by decide) g.KD,rfl,rfl,Nat.le_refl _,nA hxo⟩
 ·obtain ⟨x,hxo,hx⟩:=fE (c:=c) (h.ph 1 (by decide) (by decide) true) 235
  exact ⟨_,[x],fun o ho=>aX hv (au rfl (aX (hx o ho) rfl)),h.ph 1 (by decide) (by decide) true,rfl,rfl,Nat.le_refl _,nA hxo⟩
theorem Ay {c:Cx} (hc:c.Ok) {g:T_Gate} (h:GI g) {m:bf} (hm:ny m):SP c g fun s=>dR s m:=by
 have hmt:=hm.t
 by_cases hk:m.Kq=1
 ·have h1:=h.new 1 (by decide) (by decide) m.KH (by omega)
  obtain ⟨x,hxo,hx⟩:=fE (c:=c) h1 250
  exact ⟨_,[x],fun o ho=>bw (s:=tZ c _ (o++[x])) (aL (by rw [hk]; rfl) (aX rfl (aX (hx o ho) rfl))) rfl,h1,rfl,rfl,Nat.le_refl _,nA hxo⟩
 by_cases hk:m.Kq=5
 ·by_cases hp:g.KC=0
  ·have h1:=h.new 0 (by decide) (by decide) g.Kn h.h
   obtain ⟨x,hxo,hx⟩:=fE (c:=c) h1 250
   exact ⟨_,[x],fun o ho=>bw (s:=tZ c _ (o++[x])) (au (by rw [hk]; rfl) (aL (by rw [hk]; rfl) (bw (s:=(0:Int)) (au (by show (g.KC != 0)=false; rw [hp]; rfl) (congrArg (fun z=>some (Sum.inl z)) hp)) (aX rfl (aX (hx o ho) rfl))))) rfl,h1,rfl,rfl,Nat.le_refl _,nA hxo⟩
  ·have h1:=h.new 1 (by decide) (by decide) g.Kn h.h
   obtain ⟨x,hxo,hx⟩:=fE (c:=c) h1 250
   exact ⟨_,[x],fun o ho=>bw (s:=tZ c _ (o++[x])) (au (by rw [hk]; rfl) (aL (by rw [hk]; rfl) (bw (s:=(1:Int)) (aL (bne_iff_ne.2 hp) rfl) (aX rfl (aX (hx o ho) rfl))))) rfl,h1,rfl,rfl,Nat.le_refl _,nA hxo⟩
 by_cases hk:m.Kq=7
 ·obtain ⟨x,hxo,hx⟩:=fE (c:=c) h 250
  exact ⟨g,[x],fun o ho=>bw (s:=tZ c g (o++[x])) (au (by rw [hk]; rfl) (au (by rw [hk]; rfl) (aL (by rw [hk]; rfl) (aX (hx o ho) rfl)))) rfl,h,rfl,rfl,Nat.le_refl _,nA hxo⟩
 by_cases hk:m.Kq=6
 ·obtain ⟨x,hxo,hx⟩:=fE (c:=c) h 252
  exact ⟨g,[x],fun o ho=>bw (s:=tZ c g (o++[x])) (au (by rw [hk]; rfl) (au (by rw [hk]; rfl) (au (by rw [hk]; rfl) (aL (by rw [hk]; rfl) (aX (hx o ho) rfl))))) rfl,h,rfl,rfl,Nat.le_refl _,nA hxo⟩
 by_cases hk:m.Kq=8
 ·have h1:=h.ph 6 (by decide) (by decide) g.KD
  obtain ⟨x,hxo,hx⟩:=fE (c:=c) h1 221
  exact ⟨_,[x],fun o ho=>bw (s:=tZ c _ (o++[x])) (au (by rw [hk]; rfl) (au (by rw [hk]; rfl) (au (by rw [hk]; rfl) (au (by rw [hk]; rfl) (aL (by rw [hk]; rfl) (aX (hx o ho) rfl)))))) rfl,h1,rfl,rfl,Nat.le_refl _,nA hxo⟩
 by_cases hk:m.Kq=2
 ·obtain ⟨q,g1,h1,h2,h3,h4⟩:=Gq (c:=c) h hm
  obtain ⟨x,hxo,hx⟩:=fE (c:=c) h2 q
  exact ⟨g1,[x],fun o ho=>bw (s:=tZ c g1 (o++[x])) (au (by rw [hk]; rfl) (au (by rw [hk]; rfl) (au (by rw [hk]; rfl) (au (by rw [hk]; rfl) (au (by rw [hk]; rfl) (aL (by rw [hk]; rfl) (aX (h1 o) (aX (hx o ho) rfl)))))))) rfl,h2,h3,h4,Nat.le_refl _,nA hxo⟩
 by_cases hk:m.Kq=3
 ·obtain ⟨q,g1,h1,h2,h3,h4⟩:=FA hc h hm
  obtain ⟨x,hxo,hx⟩:=fE (c:=c) h2 q
  exact ⟨g1,[x],fun o ho=>bw (s:=tZ c g1 (o++[x])) (au (by rw [hk]; rfl) (au (by rw [hk]; rfl) (au (by rw [hk]; rfl) (au (by rw [hk]; rfl) (au (by rw [hk]; rfl) (au (by rw [hk]; rfl) (aL (by rw [hk]; rfl) (aX (h1 o) (aX (hx o ho) rfl))))))))) rfl,h2,h3,h4,Nat.le_refl _,nA hxo⟩
 by_cases hk:m.Kq=4
 ·obtain ⟨q,g1,h1,h2,h3,h4⟩:=DH (c:=c) h
  obtain ⟨x,hxo,hx⟩:=fE (c:=c) h2 q
  exact ⟨g1,[x],fun o ho=>bw (s:=tZ c g1 (o++[x])) (au (by rw [hk]; rfl) (au (by rw [hk]; rfl) (au (by rw [hk]; rfl) (au (by rw [hk]; rfl) (au (by rw [hk]; rfl) (au (by rw [hk]; rfl) (au (by rw [hk]; rfl) (aL (by rw [hk]; rfl) (aX (h1 o) (aX (hx o ho) rfl)))))))))) rfl,h2,h3,h4,Nat.le_refl _,nA hxo⟩
 by_cases hk:m.Kq=9
 ·obtain ⟨q,g1,h1,h2,h3,h4⟩:=Fw hc h hm
  obtain ⟨x,hxo,hx⟩:=tu (c:=c) h2 q
  exact ⟨g1,[x],fun o ho=>bw (s:=tZ c g1 (o++[x])) (au (by rw [hk]; rfl) (au (by rw [hk]; rfl) (au (by rw [hk]; rfl) (au (by rw [hk]; rfl) (au (by rw [hk]; rfl) (au (by rw [hk]; rfl) (au (by rw [hk]; rfl) (au (by rw [hk]; rfl) (aL (by rw [hk]; rfl) (aX (h1 o) (aX (hx o ho) rfl))))))))))) rfl,h2,h3,h4,Nat.le_refl _,nA hxo⟩
 by_cases hk:m.Kq=10
 ·obtain ⟨q,g1,h1,h2,h3,h4⟩:=FU (c:=c) h
  obtain ⟨x,hxo,hx⟩:=fE (c:=c) h2 q
  exact ⟨g1,[x],fun o ho=>bw (s:=tZ c g1 (o++[x])) (au (by rw [hk]; rfl) (au (by rw [hk]; rfl) (au (by rw [hk]; rfl) (au (by rw [hk]; rfl) (au (by rw [hk]; rfl) (au (by rw [hk]; rfl) (au (by rw [hk]; rfl) (au (by rw [hk]; rfl) (au (by rw [hk]; rfl) (aL (by rw [hk]; rfl) (aX (h1 o) (aX (hx o ho) rfl)))))))))))) rfl,h2,h3,h4,Nat.le_refl _,nA hxo⟩
 by_cases hk:m.Kq=11
 ·obtain ⟨q,g1,h1,h2,h3,h4⟩:=FM hc h hm
  obtain ⟨x,hxo,hx⟩:=tu (c:=c) h2 q
  exact ⟨g1,[x],fun o ho=>bw (s:=tZ c g1 (o++[x])) (au (by rw [hk]; rfl) (au (by rw [hk]; rfl) (au (by rw [hk]; rfl) (au (by rw [hk]; rfl) (au (by rw [hk]; rfl) (au (by rw [hk]; rfl) (au (by rw [hk]; rfl) (au (by rw [hk]; rfl) (au (by rw [hk]; rfl) (au (by rw [hk]; rfl) (aL (by rw [hk]; rfl) (aX (h1 o) (aX (hx o ho) rfl))))))))))))) rfl,h2,h3,h4,Nat.le_refl _,nA hxo⟩
 rename_i k1 k5 k7 k6 k8 k2 k3 k4 k9 k10
 exact ⟨g,[],fun o ho=>bw (s:=tZ c g o) (au (beq_eq_false_iff_ne.2 k1) (au (beq_eq_false_iff_ne.2 k5) (au (beq_eq_false_iff_ne.2 k7) (au (beq_eq_false_iff_ne.2 k6) (au (beq_eq_false_iff_ne.2 k8) (au (beq_eq_false_iff_ne.2 k2) (au (beq_eq_false_iff_ne.2 k3) (au (beq_eq_false_iff_ne.2 k4) (au (beq_eq_false_iff_ne.2 k9) (au (beq_eq_false_iff_ne.2 k10) (au (beq_eq_false_iff_ne.2 hk) rfl))))))))))) (by rw [List.append_nil]),h,rfl,rfl,Nat.zero_le _,Cq⟩
set_option maxRecDepth 100000
theorem Gl {c:Cx} (hc:c.Ok) {g:T_Gate} (h:GI g) (l:KK) (hl:l.size<4294967296):SP c g fun s=>fA s l:=by
 by_cases h6:g.KC=6
 ·exact ⟨g,[],fun o ho=>bw (s:=tZ c g o) (aL (by show (g.KC==6)=true; rw [h6]; rfl) rfl) (by rw [List.append_nil]),h,rfl,rfl,Nat.zero_le _,Cq⟩
 have e6:∀ o,((SN c g o).Kk.KC==6)=false:=fun o=>beq_eq_false_iff_ne.2 h6
 by_cases h5:g.KC=5
 ·obtain ⟨g1,e,h1,h2,h3,h4,h7⟩:=Dy hc h l
  exact ⟨g1,e,fun o ho=>bw (s:=tZ c g1 (o++e)) (au (e6 o) (aL (by show (g.KC==5)=true; rw [h5]; rfl) (aX (h1 o ho) rfl))) rfl,h2,h3,h4,h7⟩
 have e5:∀ o,((SN c g o).Kk.KC==5)=false:=fun o=>beq_eq_false_iff_ne.2 h5
 obtain ⟨v,hv,hm⟩:=CD l hl
 by_cases h0:v.2=0
 ·obtain ⟨g1,e,h1,h2,h3,h4,h7⟩:=Ay hc h hm
  exact ⟨g1,e,fun o ho=>bw (s:=tZ c g1 (o++e)) (au (e6 o) (au (e5 o) (aX hv (au (by rw [h0]; rfl) (aX (h1 o ho) rfl))))) rfl,h2,h3,h4,h7⟩
 ·obtain ⟨x,hxo,hx⟩:=fE (c:=c) h v.2
  exact ⟨g,[x],fun o ho=>DE (a:=SN c g (o++[x])) (au (e6 o) (au (e5 o) (aX hv (aL (bne_iff_ne.2 h0) (aX (hx o ho) rfl))))) rfl,h,rfl,rfl,Nat.le_refl _,nA hxo⟩
theorem sw {c:Cx} (code:Int) (hc:code≠334):∃ r,r.Kr.length≤1∧∀ (g:T_Gate) (o:List ap),cI (SN c g o) code=some (r,SN c g o):=by
 obtain ⟨b,hb,_⟩:Tt (fU code) fun _=>True:=by
  unfold fU
  exact lX (tD (fun _=>bT trivial) fun _=>bT trivial) fun _=>tS trivial
 cases b
 ·exact ⟨bH.mk code [(⟨#[110,111]⟩:KK)],Nat.le_refl 1,fun g o=>bw (s:=(⟨#[110,111]⟩:KK)) (au (beq_eq_false_iff_ne.2 hc) (aX hb rfl)) rfl⟩
 ·exact ⟨bH.mk code [(⟨#[111,107]⟩:KK)],Nat.le_refl 1,fun g o=>bw (s:=(⟨#[111,107]⟩:KK)) (au (beq_eq_false_iff_ne.2 hc) (aX hb rfl)) rfl⟩
theorem Bf {c:Cx} (hc:c.Ok) {g:T_Gate} (h:GI g) (b:List Int) (hb:dv b) (hl:b.length<4000000000):∃ x,jI x∧∀ o:List ap,et (SN c g o) b=some (x,SN c g o):=by
 obtain ⟨d,hd,k,hk,hdd⟩:∃ d:KK,d.size≤10000∧∃ k,fL c.i 2=some k∧bQ ([c.d0,c.d1]:List KK) k=some d:=by
  rcases hc.i with hi | hi
  ·exact ⟨c.d0,hc.d0,0,by rw [hi]; rfl,rfl⟩
  ·exact ⟨c.d1,hc.d1,1,by rw [hi]; rfl,rfl⟩
 obtain ⟨p,hp,hpb,hpl⟩:=Hj b g.Kn d c.t hb hl (by have:=h.h; omega) (by omega)
 have hn:=h.n
 have hcl:cc g.To=some g.To:=by
  unfold cc
  exact aX (jE (k:=40) (l:=[]) (m:=g.To) (by simp; omega) (by simp; omega)) rfl
 obtain ⟨f,hf,_⟩:=Gf (aH.mk g.Kj g.To p.1 false (⟨#[]⟩:KK) 0) ⟨h.f,h.t,by dsimp only; omega,hpb⟩
 obtain ⟨r1,hl1,hr1⟩:=sw (c:=c) 552 (by decide)
 obtain ⟨r2,hl2,hr2⟩:=sw (c:=c) 250 (by decide)
 obtain ⟨q,hq⟩:∃ q:Bool,(cond ((decide (1500<(b.length:Int)))) (some (.inl true)) (cond ((p.2 != 0)) (some (.inl true)) ((jQ ((aH.mk (T_Path.mk g.Kj.Kx g.Kj.Ks g.Kj.Kg) g.To p.1 false (⟨#[]⟩:KK) 0))).bind fun v5=>some (.inl (!v5)))):Option (Bool⊕(ap×aa)))=some (.inl q):=by
  by_cases h1:(1500:Int)<b.length
  ·exact ⟨true,aL (decide_eq_true h1) rfl⟩
  ·by_cases h2:p.2=0
   ·exact ⟨!f,au (decide_eq_false h1) (au (by rw [h2]; rfl) (aX hf rfl))⟩
   ·exact ⟨true,au (decide_eq_false h1) (aL (bne_iff_ne.2 h2) rfl)⟩
 cases q
 ·exact ⟨ap.mk r2 true (aH.mk g.Kj g.To p.1 g.KE g.Kn c.t) false,⟨hl2,hn,hpl⟩,fun o=>aX hk (aX hdd (aX hp (aX hcl (bw hq (au rfl (aX (hr2 g o) rfl))))))⟩
 ·exact ⟨ap.mk r1 false (aH.mk zP [] [] false (⟨#[]⟩:KK) 0) false,⟨hl1,Nat.zero_le _,Nat.zero_le _⟩,fun o=>aX hk (aX hdd (aX hp (aX hcl (bw hq (aL rfl (aX (hr1 g o) rfl))))))⟩
theorem FK {c:Cx} (hc:c.Ok) {g:T_Gate} (h:GI g):sl g.Kd∨∃ g' x,jI x∧(∀ o:List ap,o.length<100000→bS (SN c g o)=some (true,SN c g' (o++[x])))∧GI g'∧g'.Ke=g.Ke∧g'.Kd.length<g.Kd.length:=by
 have hl:=h.l
 rcases Et g.Kd h.b (by omega) with hs | ⟨⟨r,hr,h9,hok⟩,n,hn,n0,n1⟩
 ·exact .inl hs
 right
 obtain ⟨a,hal,ha⟩:=sw (c:=c) 554 (by decide)
 have e9:(r.2.2==9)=false:=beq_eq_false_iff_ne.2 h9
 obtain ⟨x,hxo,m,m0,m1,hm⟩:∃ x:ap,jI x∧∃ m:Int,0<m∧m≤(g.Kd.length:Int)∧∀ o:List ap,bS (SN c g o) =
   ((cq 168 o [x]).bind fun v44=>(iZ g.Kd m (g.Kd.length:Int)).bind fun v45=>some (true,SN c (T_Gate.mk 1 g.Kn zP [] false v45 g.Ke g.KD) v44)):=by
  by_cases h0:r.2.2=0
  ·obtain ⟨k0,k1,k2,k3⟩:=hok h0
   obtain ⟨x,hxo,hx⟩:=Bf hc h r.1 k2 (by omega)
   refine ⟨x,hxo,r.2.1,k0,k1,fun o => ?_⟩
   unfold bS
   exact aX hr (au e9 (aX (ha g o) (bw (aL (by rw [h0]; rfl) (aX (hx o) rfl)) rfl)))
  ·refine ⟨ap.mk a false (aH.mk zP [] [] false (⟨#[]⟩:KK) 0) false,⟨hal,Nat.zero_le _,Nat.zero_le _⟩,n,n0,n1,fun o => ?_⟩
   unfold bS
   exact aX hr (au e9 (aX (ha g o) (bw (au (beq_eq_false_iff_ne.2 h0) (aX hn rfl)) rfl)))
 have hsl:=mj g.Kd (a:=m.toNat) (b:=g.Kd.length) (by omega) (Nat.le_refl _)
 rw [List.take_of_length_le (by rw [List.length_drop]; exact Nat.le_refl _),show ((m.toNat:Nat):Int)=m by omega] at hsl
 refine ⟨T_Gate.mk 1 g.Kn zP [] false (g.Kd.drop m.toNat) g.Ke g.KD,x,hxo,fun o ho => ?_,⟨by dsimp only; omega,by dsimp only; omega,h.h,EZ,Ct,by simp,h.c,fV h.b _,by dsimp only; rw [List.length_drop]; omega⟩,rfl,by dsimp only; rw [List.length_drop]; omega⟩
 rw [hm o]
 exact aX (jE (by simp; omega) (by simp; omega)) (aX hsl rfl)
theorem Ej {c:Cx} {g:T_Gate} (h:GI g) (hs:sl g.Kd) (o:List ap):bS (SN c g o)=some (false,SN c g o):=by
 unfold bS
 have hl:=h.l
 exact aX (Cb hs h.b (by show g.Kd.length<_; omega)) (aL rfl rfl)
theorem uS {l:List Int} (h:dv l):ep l [13,10]=match fK l with | none => -1 | some e=>(e:Int):=xz h
theorem yR {l:List Int} (h:dv l) (hl:l.length<1000000):CH l [13,10]=some ():=by
 unfold CH
 refine if_pos ⟨List.all_eq_true.2 fun x hx => ?_,rfl,by omega,by decide⟩
 have:=h x hx
 simp only [Bool.and_eq_true,decide_eq_true_eq]; exact this
def Quiet (g:T_Gate):Prop:=(g.KC=4→sl g.Kd)∧(g.KC≠4→fK g.Kd=none∧g.Kd.length≤512)
theorem sr {c:Cx} {g:T_Gate} (h:GI g) (hq:Quiet g) (o:List ap):cF (SN c g o)=some (false,SN c g o):=by
 unfold cF
 by_cases h4:g.KC=4
 ·exact aL (by show (g.KC==4)=true; rw [h4]; rfl) (aX (Ej h (hq.1 h4) o) rfl)
 ·obtain ⟨h1,h2⟩:=hq.2 h4
  refine au (beq_eq_false_iff_ne.2 h4) (aX (yR h.b (by have:=h.l; show g.Kd.length<_; omega)) ?_)
  exact au (decide_eq_false (by show ¬ 0≤ep g.Kd [13,10]; rw [uS h.b,h1]; decide)) (aL (decide_eq_true (by show (g.Kd.length:Int)≤512; omega)) rfl)
theorem GI.buf {g:T_Gate} (h:GI g) {b:List Int} (hb:dv b) (hl:b.length≤10000):GI (Al g b):=⟨h.p0,h.p6,h.h,h.f,h.t,h.n,h.c,hb,hl⟩
theorem Gm {c:Cx} (hc:c.Ok) {g:T_Gate} (h:GI g):Quiet g∨∃ g' e,(∀ o:List ap,o.length<100000→cF (SN c g o)=some (true,SN c g' (o++e)))∧GI g'∧g'.Ke=g.Ke∧g'.Kd.length<g.Kd.length∧e.length≤1∧∀ x∈e,jI x:=by
 have hl:=h.l
 by_cases h4:g.KC=4
 ·rcases FK hc h with hd | ⟨g',x,hxo,h1,h2,h3,h5⟩
  ·exact .inl ⟨fun _=>hd,fun h=>absurd h4 h⟩
  ·exact .inr ⟨g',[x],fun o ho=>aL (by show (g.KC==4)=true; rw [h4]; rfl) (aX (h1 o ho) rfl),h2,h3,h5,Nat.le_refl _,nA hxo⟩
 have e4:∀ o,((SN c g o).Kk.KC==4)=false:=fun o=>beq_eq_false_iff_ne.2 h4
 have hcut:=yR h.b (by omega)
 cases hx:fK g.Kd with
 | none =>
  have hI:decide (0≤ep g.Kd [13,10])=false:=decide_eq_false (by rw [uS h.b,hx]; decide)
  by_cases h5:g.Kd.length≤512
  ·exact .inl ⟨fun h=>absurd h h4,fun _=>⟨hx,h5⟩⟩
  ·right
   have h52:decide ((g.Kd.length:Int)≤512)=false:=decide_eq_false (by omega)
   have hg:=h.buf (b:=[]) (fun x hx=>by cases hx) (Nat.zero_le _)
   by_cases h6:g.KC=6
   ·exact ⟨Al g [],[],fun o ho=>au (e4 o) (aX hcut (au hI (au h52 (bw (s:=tZ c (Al g []) o) (au (by show (g.KC != 6)=false; rw [h6]; rfl) rfl) (by rw [List.append_nil]))))),hg,rfl,by show 0<_; omega,Nat.zero_le _,Cq⟩
   ·obtain ⟨x,hxo,hr⟩:=fE (c:=c) hg 500
    exact ⟨Al g [],[x],fun o ho=>au (e4 o) (aX hcut (au hI (au h52 (bw (s:=tZ c (Al g []) (o++[x])) (aL (bne_iff_ne.2 h6) (aX (hr o ho) rfl)) rfl)))),hg,rfl,by show 0<_; omega,Nat.le_refl _,nA hxo⟩
 | some e =>
  right
  have he:=(jc hx).1
  have hI:ep g.Kd [13,10]=(e:Int):=by rw [uS h.b,hx]
  have hL:CU g.Kd [13,10]=g.Kd.take e:=by unfold CU; rw [if_pos (by omega),hI]; rfl
  have hR:wZ g.Kd [13,10]=g.Kd.drop (e+2):=by unfold wZ; rw [hI]; rfl
  have hg:=h.buf (b:=wZ g.Kd [13,10]) (by rw [hR]; exact fV h.b _) (by rw [hR,List.length_drop]; omega)
  obtain ⟨g1,x,h1,h2,h3,h5,h6⟩:=Gl hc hg (dw (CU g.Kd [13,10])) (by rw [fm,hL,List.length_take]; omega)
  refine ⟨g1,x,fun o ho=>au (e4 o) (aX hcut (aL (decide_eq_true (by show 0≤ep g.Kd [13,10]; omega)) (aX rfl (aX (h1 o ho) rfl)))),h2,h3,?_,h6⟩
  rw [h5]
  show (wZ g.Kd [13,10]).length<_
  rw [hR,List.length_drop]; omega
def Ix:aa.t→Option (aa.t⊕(aa.t⊕aa)):=(fun ((s24,s25,s26,s27,s28,s29,s30,s31,s32,s33,s34,s35,s36,s37,s38,s39,s40,s41,s42,s43):aa.t) =>
 (cF ((aa.mk ((T_Gate.mk s24 s25 (T_Path.mk s26 s27 s28) s29 s30 s31 s32 s33)) ((T_Config.mk ([s34,s35]:List KK) s36 s37 s38 s39 s40)) s41 s42 s43))).bind fun v1 =>
 cond (v1.1)
  (some (.inl ((aa.p v1.2))))
  (some (.inr (.inl ((aa.p v1.2))))))
structure EC (c:Cx) (g g':T_Gate) (e:List ap):Prop where
 gi:GI g'
 q:Quiet g'
 c:g'.Ke=g.Ke
 l:e.length+g'.Kd.length≤g.Kd.length
 o:∀ x∈e,jI x
theorem vK {c:Cx} (hc:c.Ok):∀ (n:Nat) (g:T_Gate),g.Kd.length≤n→GI g→∃ g' e,(∀ (o:List ap) (fuel:Nat),o.length+g.Kd.length<100000→n<fuel→bl Ix fuel (tZ c g o)=some (.inl (tZ c g' (o++e))))∧EC c g g' e
 | n,g,hn,h=>by
  rcases Gm hc h with hq | ⟨g1,e1,h1,h2,h3,h4,h5,h6⟩
  ·refine ⟨g,[],fun o fuel ho hf => ?_,⟨h,hq,rfl,by simp,Cq⟩⟩
   obtain ⟨f,rfl⟩:∃ f,fuel=f+1:=⟨fuel-1,by omega⟩
   rw [List.append_nil]
   exact gX (aX (sr h hq o) rfl)
  ·cases n with
   | zero=>omega
   | succ n =>
    obtain ⟨g2,e2,k1,k2⟩:=vK hc n g1 (by omega) h2
    refine ⟨g2,e1++e2,fun o fuel ho hf => ?_,⟨k2.gi,k2.q,k2.c.trans h3,by have:=k2.l; rw [List.length_append]; omega,Hl h6 k2.o⟩⟩
    obtain ⟨f,rfl⟩:∃ f,fuel=f+1:=⟨fuel-1,by omega⟩
    rw [← List.append_assoc]
    exact (lw (aX (h1 o (by omega)) rfl)).trans (k1 (o++e1) f (by rw [List.length_append]; omega) (by omega))
def mC (c:Cx) (g:T_Gate):T_Gate×List ap:=match bZ (SN c g []) with
 | some s=>(s.Kk,s.out)
 | none=>(g,[])
theorem EV {c:Cx} (hc:c.Ok) {g:T_Gate} (h:GI g):(∀ o:List ap,o.length+g.Kd.length<100000→bZ (SN c g o)=some (SN c (mC c g).1 (o++(mC c g).2)))∧EC c g (mC c g).1 (mC c g).2:=by
 obtain ⟨g',e,h1,h2⟩:=vK hc g.Kd.length g (Nat.le_refl _) h
 have hl:=h.l
 have key:∀ o:List ap,o.length+g.Kd.length<100000→bZ (SN c g o)=some (SN c g' (o++e)):=fun o ho=>by
  unfold bZ
  exact bw (h1 o dH ho (by simp only [dH]; omega)) rfl
 have hf:mC c g=(g',e):=by
  unfold mC
  rw [key [] (by simp; omega)]
  rfl
 rw [hf]
 exact ⟨key,h2⟩
theorem zM {c:Cx} (hc:c.Ok) {g:T_Gate} (h:GI g) (hq:Quiet g):mC c g=(g,[]):=by
 have e:bZ (SN c g [])=some (SN c g []):=by
  unfold bZ
  exact bw (s:=tZ c g []) (gX (aX (sr h hq []) rfl)) rfl
 unfold mC
 rw [e]
set_option maxRecDepth 100000
theorem tH:∀ {l m:List Int} {e:Nat},fK l=some e→fK (l++m)=some e
 | [],m,e,h=>by simp [fK] at h
 | x::l,m,e,h=>by
  rw [List.cons_append]
  unfold fK at h ⊢
  by_cases hc:x=13∧l.head? = some 10
  ·rw [if_pos hc] at h
   have:x=13∧(l++m).head? = some 10:=⟨hc.1,by rw [List.head?_append,hc.2]; rfl⟩
   rw [if_pos this,h]
  ·rw [if_neg hc] at h
   cases hl:fK l with
   | none=>rw [hl] at h; cases h
   | some k =>
    rw [hl] at h
    have hne:¬ (x=13∧(l++m).head? = some 10):=fun hh=>hc ⟨hh.1,by
     cases l with
     | nil=>simp [fK] at hl
     | cons y l=>exact hh.2⟩
    rw [if_neg hne,tH hl]
    exact h
theorem pN:∀ {l:List Int} {x:Int},fK l=none→fK (l++[x])=none∨(x=10∧∃ q,l=q++[13]∧fK (l++[x])=some q.length)
 | [],x,h => .inl (by simp [fK])
 | y::l,x,h=>by
  unfold fK at h
  by_cases hc:y=13∧l.head? = some 10
  ·rw [if_pos hc] at h; cases h
  ·rw [if_neg hc] at h
   have hl:fK l=none:=by
    cases hh:fK l with
    | none=>rfl
    | some k=>rw [hh] at h; cases h
   rw [List.cons_append]
   unfold fK
   cases l with
   | nil =>
    by_cases h2:y=13∧x=10
    ·right
     refine ⟨h2.2,[],by rw [h2.1]; rfl,?_⟩
     rw [if_pos ⟨h2.1,by rw [h2.2]; rfl⟩]; rfl
    ·left
     rw [if_neg (fun hh=>h2 ⟨hh.1,by have:=hh.2; simpa using this⟩)]
     simp [fK]
   | cons z l =>
    rw [if_neg (fun hh=>hc ⟨hh.1,hh.2⟩)]
    rcases pN (x:=x) hl with k | ⟨k1,q,k2,k3⟩
    ·left; rw [k]; rfl
    ·right
     exact ⟨k1,y::q,by rw [k2]; rfl,by rw [k3]; rfl⟩
theorem Bb {b:List Int} {ls:List (List Int)} {r:List Int} (x:Int) (H:qW b ls r):qW (b++[x]) ls (r++[x])∨(x=10∧∃ q,r=q++[13]∧qW (b++[x]) (ls++[q]) []):=by
 induction H with
 | nil h =>
  rename_i b
  rcases pN (x:=x) h with k | ⟨k1,q,k2,k3⟩
  ·exact .inl (.nil k)
  ·right
   refine ⟨k1,q,k2,?_⟩
   have e1:(b++[x]).take q.length=q:=by rw [k2,List.append_assoc,List.take_left']; rfl
   have e2:(b++[x]).drop (q.length+2)=[]:=List.drop_eq_nil_of_le (by rw [k2]; simp)
   have:=qW.cons (ls:=[]) (r:=[]) k3 (by rw [e2]; exact .nil rfl)
   rw [e1] at this
   exact this
 | cons h t ih =>
  rename_i b e ls r
  have he:=(jc h).1
  have h2:=tH (m:=[x]) h
  have e1:(b++[x]).take e=b.take e:=List.take_append_of_le_length (by omega)
  have e2:(b++[x]).drop (e+2)=b.drop (e+2)++[x]:=List.drop_append_of_le_length (by omega)
  rcases ih with k | ⟨k1,q,k2,k3⟩
  ·left
   have:=qW.cons h2 (by rw [e2]; exact k)
   rw [e1] at this
   exact this
  ·right
   refine ⟨k1,q,k2,?_⟩
   have:=qW.cons h2 (by rw [e2]; exact k3)
   rw [e1] at this
   exact this
theorem Ef {b q:List Int} (h:b=q++[46,13,10]) (hq:q=[]∨∃ p,q=p++[13,10]):xn b=true:=by
 unfold xn
 rcases hq with rfl | ⟨p,rfl⟩
 ·rw [h]; rfl
 ·rw [Bool.or_eq_true]
  right
  have e:b=p++[13,10,46,13,10]:=by rw [h]; simp
  have hl:b.length=p.length+5:=by rw [e]; simp
  refine decide_eq_true ⟨by omega,?_⟩
  rw [hl,Nat.add_sub_cancel,e,List.drop_left']
  rfl
theorem BA:∀ (ls:List (List Int)),jn ls=[]∨∃ p,jn ls=p++[13,10]
 | [] => .inl rfl
 | l::ls=>by
  right
  have e:jn (l::ls)=(l++[13,10])++jn ls:=by show _=_; simp [jn]
  rcases BA ls with h | ⟨p,h⟩
  ·exact ⟨l,by rw [e,h,List.append_nil]⟩
  ·exact ⟨(l++[13,10])++p,by rw [e,h]; simp⟩
theorem xi {b:List Int} (h:sl b) (x:Int) (he:xn (b++[x])=false):sl (b++[x]):=by
 obtain ⟨ls,r,H,hd⟩:=h
 rcases Bb x H with k | ⟨k1,q,k2,k3⟩
 ·exact ⟨ls,_,k,hd⟩
 ·refine ⟨ls++[q],[],k3,fun l hl => ?_⟩
  rcases List.mem_append.1 hl with h1 | h1
  ·exact hd l h1
  ·rw [List.mem_singleton.1 h1]
   intro e46
   have hj:=lJ H
   have:xn (b++[x])=true:=Ef (q:=jn ls) (by rw [hj,k2,e46,k1]; simp) (BA ls)
   rw [this] at he; cases he
abbrev push (g:T_Gate) (x:Int):T_Gate:=Al g (g.Kd++[x])
theorem GI.push {g:T_Gate} (h:GI g) {x:Int} (hx:0≤x∧x<256) (hl:g.Kd.length<10000):GI (push g x):=h.buf (lO h.b hx.1 hx.2) (by rw [List.length_append,List.length_singleton]; omega)
theorem Ge {c:Cx} {g:T_Gate} (h:GI g) (hq:Quiet g) {x:Int} (hx:0≤x∧x<256) (hl:g.Kd.length<10000):∃ q,(∀ o,cg (SN c (push g x) o) x=some (q,SN c (push g x) o))∧(q=false→Quiet (push g x)):=by
 have hp:=h.push hx hl
 by_cases h4:g.KC=4
 ·refine ⟨xn (g.Kd++[x]),fun o => ?_,fun he=>⟨fun _=>xi (hq.1 h4) x he,fun h=>absurd h4 h⟩⟩
  unfold cg
  refine aL (by show (g.KC==4)=true; rw [h4]; rfl) ?_
  have h1:((dw (g.Kd++[x])).toList==(⟨#[46,13,10]⟩:KK).toList)=decide (g.Kd++[x]=[46,13,10]):=vA hp.b _
  have h2:=zE hp.b (by have:=hp.l; show (g.Kd++[x]).length<_; have:(g.Kd++[x]).length≤10000:=hp.l; omega)
  refine bw (s:=xn (g.Kd++[x])) ?_ rfl
  refine aX (x:=dw (g.Kd++[x])) rfl ?_
  unfold xn
  cases hd:decide (g.Kd++[x]=[46,13,10])
  ·exact au (by rw [h1,hd]) (aX h2 rfl)
  ·exact aL (by rw [h1,hd]) rfl
 ·refine ⟨(x==10)||decide (512<((g.Kd++[x]).length:Int)),fun o => ?_,fun he=>⟨fun h=>absurd h h4,fun _ => ?_⟩⟩
  ·unfold cg
   refine au (beq_eq_false_iff_ne.2 h4) ?_
   show aA (cond (x==10) (some (.inl true)) (some (.inl (decide (512<((g.Kd++[x]).length:Int)))))) _ some=_
   generalize (x==10)=c
   cases c
   ·exact bw (s:=decide (512<((g.Kd++[x]).length:Int))) (au rfl rfl) rfl
   ·exact bw (s:=true) (aL rfl rfl) rfl
  ·rw [Bool.or_eq_false_iff] at he
   have h10:x≠10:=beq_eq_false_iff_ne.1 he.1
   have h5:=of_decide_eq_false he.2
   refine ⟨?_,by show (g.Kd++[x]).length≤512; omega⟩
   rcases pN (x:=x) (hq.2 h4).1 with k | ⟨k,_⟩
   ·exact k
   ·exact absurd k h10
def bF (c:Cx) (p:T_Gate×List ap) (x:Int):T_Gate×List ap:=((mC c (push p.1 x)).1,p.2++(mC c (push p.1 x)).2)
def fF (c:Cx) (g:T_Gate) (b:List Int):T_Gate×List ap:=b.foldl (bF c) (g,[])
theorem qZ (c:Cx):∀ (b:List Int) (g:T_Gate) (o:List ap),b.foldl (bF c) (g,o)=((fF c g b).1,o++(fF c g b).2)
 | [],g,o=>by simp [fF]
 | x::b,g,o=>by
  unfold fF
  rw [List.foldl_cons,List.foldl_cons]
  show b.foldl (bF c) ((mC c (push g x)).1,o++(mC c (push g x)).2)=((b.foldl (bF c) ((mC c (push g x)).1,[]++(mC c (push g x)).2)).1,o++(b.foldl (bF c) ((mC c (push g x)).1,[]++(mC c (push g x)).2)).2)
  rw [qZ c b,qZ c b]
  simp
theorem Gk (c:Cx) (g:T_Gate) (a b:List Int):fF c g (a++b)=((fF c (fF c g a).1 b).1,(fF c g a).2++(fF c (fF c g a).1 b).2):=by
 conv=>lhs; unfold fF
 rw [List.foldl_append]
 exact qZ c b (fF c g a).1 (fF c g a).2
structure FI (c:Cx) (g:T_Gate) (k:Nat) (p:T_Gate×List ap):Prop where
 gi:GI p.1
 l:p.2.length+p.1.Kd.length≤g.Kd.length+k
 c:p.1.Ke=g.Ke
 q:0<k→Quiet p.1
 o:∀ x∈p.2,jI x
theorem Hq {c:Cx} (hc:c.Ok) {g:T_Gate} (h:GI g):∀ (b:List Int),dv b→g.Kd.length+b.length≤9000→∀ k,k≤b.length→FI c g k ((b.take k).foldl (bF c) (g,[])):=by
 intro b hb hl k
 induction k with
 | zero=>intro _; exact ⟨h,by simp,rfl,fun h=>absurd h (by decide),Cq⟩
 | succ k ih =>
  intro hk
  have i:=ih (by omega)
  have hi:=i.l
  have hx:=hb _ (List.getElem_mem (show k<b.length by omega))
  rw [List.take_add_one,List.getElem?_eq_getElem (show k<b.length by omega)]
  show FI c g (k+1) ((b.take k++[b[k]]).foldl (bF c) (g,[]))
  rw [List.foldl_append]
  generalize (b.take k).foldl (bF c) (g,[])=p at *
  obtain ⟨r1,r2⟩:=EV hc (i.gi.push hx (by omega))
  have hr:=r2.l
  have hpl:(push p.1 b[k]).Kd.length=p.1.Kd.length+1:=by show (p.1.Kd++[b[k]]).length=_; simp
  exact ⟨r2.gi,by show (p.2++(mC c (push p.1 b[k])).2).length+(mC c (push p.1 b[k])).1.Kd.length≤_; rw [List.length_append]; omega,r2.c.trans i.c,fun _=>r2.q,Hl i.o r2.o⟩
theorem wV {g:T_Gate} (h1:g.To.length<100000) (h2:g.Kd.length<1000000):ji g=some g:=by
 unfold ji cc gN
 exact aX (aX (jE (k:=40) (l:=[]) (m:=g.To) (by simp; omega) (by simp; omega)) rfl) (aX (aX (jE (k:=1) (l:=[]) (m:=g.Kd) (by simp; omega) (by simp; omega)) rfl) rfl)
theorem BU {c:Cx} (hc:c.Ok) {g:T_Gate} (h:GI g) {b:List Int} (hb:dv b) (hl:g.Kd.length+b.length≤9000) (hcf:dZ c.cf=some 0) (ht:0≤c.t∧c.t≤1099511627776) (hv:cV g=some true) :
  dL c.cf c.i c.t g b=some ((fF c g b).1,(fF c g b).2,0):=by
 have hI:=Hq hc h b hb hl
 have hn:=h.n
 unfold dL
 have ha:decide (c.t<0)=false:=decide_eq_false (by omega)
 have hc2:decide (1099511627776<c.t)=false:=decide_eq_false (by omega)
 refine aX hcf (au rfl (bw (s:=false) ?_ (au rfl (aX (wV (by show g.To.length<_; omega) (by show g.Kd.length<_; omega)) ?_))))
 ·rcases hc.i with hi | hi
  ·exact au (by rw [hi]; rfl) (au ha (au hc2 (aX hv rfl)))
  ·exact aL (by rw [hi]; rfl) (au (by rw [hi]; rfl) (au ha (au hc2 (aX hv rfl))))
 have hend:=hI b.length (Nat.le_refl _)
 rw [List.take_length] at hend
 have hel:=hend.l
 have hen:=hend.gi.n
 refine bw (s:=tZ c (fF c g b).1 (fF c g b).2) (nJ (fun k=>((tZ c ((b.take k).foldl (bF c) (g,[])).1 ((b.take k).foldl (bF c) (g,[])).2).1,((b.take k).foldl (bF c) (g,[])).1.Kn,((b.take k).foldl (bF c) (g,[])).1.Kj.Kx,((b.take k).foldl (bF c) (g,[])).1.Kj.Ks,((b.take k).foldl (bF c) (g,[])).1.Kj.Kg,((b.take k).foldl (bF c) (g,[])).1.To,((b.take k).foldl (bF c) (g,[])).1.KE,((b.take k).foldl (bF c) (g,[])).1.Kd,((b.take k).foldl (bF c) (g,[])).1.Ke,((b.take k).foldl (bF c) (g,[])).1.KD,c.d0,c.d1,c.ex,c.us,c.se,c.lo,c.he,c.i,c.t,((b.take k).foldl (bF c) (g,[])).2,(k:Int))) b.length _ rfl (by simp only [dH]; omega) (fun k hk => ?_) ?_) ?_
 ·have i:=hI k (by omega)
  have hx:=hb _ (List.getElem_mem hk)
  have hst:(b.take (k+1)).foldl (bF c) (g,[])=bF c ((b.take k).foldl (bF c) (g,[])) b[k]:=by
   rw [List.take_add_one,List.getElem?_eq_getElem hk]
   exact List.foldl_append
  rw [hst]
  generalize (b.take k).foldl (bF c) (g,[])=p at *
  have hil:=i.l
  obtain ⟨r1,r2⟩:=EV hc (i.gi.push hx (by omega))
  have hpl:(push p.1 b[k]).Kd.length=p.1.Kd.length+1:=by show (p.1.Kd++[b[k]]).length=_; simp
  have hrun:=r1 p.2 (by omega)
  refine aL (decide_eq_true (by omega)) (bw (s:=tZ c (bF c p b[k]).1 (bF c p b[k]).2) (aX (uO hk) (aX (gq hk) (aX (jE (k:=1) (l:=p.1.Kd) (m:=[b[k]]) (by simp; omega) (by simp; omega)) ?_))) (aX (um (by omega) (by omega)) rfl))
  have hz:((k:Int)==0)=decide (k=0):=by rw [Bool.eq_iff_iff,decide_eq_true_eq,beq_iff_eq]; omega
  by_cases hk0:k=0
  ·exact bw (s:=(p.1.KC,p.1.Kn,p.1.Kj.Kx,p.1.Kj.Ks,p.1.Kj.Kg,p.1.To,p.1.KE,p.1.Kd++[b[k]],p.1.Ke,p.1.KD,c.d0,c.d1,c.ex,c.us,c.se,c.lo,c.he,c.i,c.t,p.2,true)) (aL (by rw [hz]; exact decide_eq_true hk0) rfl) (aL rfl (aX hrun rfl))
  ·obtain ⟨q,q1,q2⟩:=Ge (c:=c) i.gi (i.q (by omega)) hx (by omega)
   refine bw (s:=(p.1.KC,p.1.Kn,p.1.Kj.Kx,p.1.Kj.Ks,p.1.Kj.Kg,p.1.To,p.1.KE,p.1.Kd++[b[k]],p.1.Ke,p.1.KD,c.d0,c.d1,c.ex,c.us,c.se,c.lo,c.he,c.i,c.t,p.2,q)) (au (by rw [hz]; exact decide_eq_false hk0) (aX (q1 p.2) rfl)) ?_
   cases q
   ·have e:=zM hc (i.gi.push hx (by omega)) (q2 rfl)
    have e2:bF c p b[k]=(push p.1 b[k],p.2):=by unfold bF; rw [e,List.append_nil]
    rw [e2]
    exact au rfl rfl
   ·exact aL rfl (aX hrun rfl)
 ·dsimp only
  rw [List.take_length]
  exact au (decide_eq_false (by omega)) rfl
 ·exact aX (wV (by show (fF c g b).1.To.length<_; unfold fF; omega) (by show (fF c g b).1.Kd.length<_; unfold fF; omega)) rfl
set_option maxRecDepth 1000000
def zj (r:Bool):Prop:=r=true
theorem BI (a:T_Path):Tt (dt a a) zj:=by
 unfold dt
 exact lR zj (tV (tC (fun _=>tC (fun _=>bT (by show _=true; simp)) fun h=>absurd h (by simp)) fun h=>absurd h (by simp))) fun b hb=>tS hb
theorem Cg (l:List T_Path) (hl:l.length<1000000):Tt (dz l l) zj:=by
 unfold dz
 refine tN (fun h=>absurd rfl h) fun _=>lX (tL (fun i:Int=>0≤i∧i≤((l.length:Nat):Int)) (fun i=>l.length-i.toNat) ⟨by omega,by omega⟩ (by simp only [dH]; omega) ?_) fun _=>tS rfl
 rintro i ⟨h0,h1⟩
 refine tD (fun _=>kZ (by omega) (by omega) fun k hk hk2=>tQ (gq hk2) (kZ (by omega) (by omega) fun j hj hj2 => ?_)) fun _=>kB (a:=Sum.inl ()) trivial
 have:j=k:=by omega
 subst this
 exact tQ (gq hk2) (tB (BI _) fun b hb=>tC (fun h=>by rw [show b=true from hb] at h; cases h) fun _=>tW (by omega) (by omega) (bT (by omega)))
theorem Bs (l:List Int) (hl:l.length<4611686018427387904):Tt (dB l l) zj:=by
 unfold dB
 refine tN (fun h=>absurd rfl h) fun _=>lX (tL (fun i:Int=>0≤i∧i≤((l.length:Nat):Int)) (fun i=>l.length-i.toNat) ⟨by omega,by omega⟩ (by simp only [dH]; omega) ?_) fun _=>tS rfl
 rintro i ⟨h0,h1⟩
 refine tD (fun _=>kZ (by omega) (by omega) fun k hk hk2=>tQ (gq hk2) (kZ (by omega) (by omega) fun j hj hj2 => ?_)) fun _=>kB (a:=Sum.inl ()) trivial
 have:j=k:=by omega
 subst this
 exact tQ (gq hk2) (tN (fun h=>absurd rfl h) fun _=>tW (by omega) (by omega) (bT (by omega)))
theorem Ib (g:T_Gate) (h1:g.To.length<1000000) (h2:g.Kd.length<1000000):Tt (fe g g) zj:=by
 unfold fe
 refine lR zj (tE (fun _=>tC (fun _=>tB (BI _) fun a ha=>tC (fun _=>tB (Cg g.To h1) fun b hb=>tC (fun _=>tV (tC (fun _=>tB (Bs g.Kd (by omega)) fun d hd=>tC (fun _=>tC (fun _=>tV (bT (by show _=true; simp))) fun h=>absurd h (by simp)) fun h => ?_) fun h=>absurd h (by simp))) fun h => ?_) fun h => ?_) fun h=>absurd h (by simp)) fun h=>absurd rfl h) fun b hb=>tS hb
 ·rw [show d=true from hd] at h; cases h
 ·rw [show b=true from hb] at h; cases h
 ·rw [show a=true from ha] at h; cases h
theorem Gd (r:bH) (hl:r.Kr.length<1000000):Tt (ew r r) zj:=by
 unfold ew
 refine lR (fun b=>b=false) (tN (fun h=>absurd rfl h) fun _=>bT (by simp)) fun b hb=>tC (fun h=>by rw [hb] at h; cases h) fun _ => ?_
 refine lX (tL (fun i:Int=>0≤i∧i≤((r.Kr.length:Nat):Int)) (fun i=>r.Kr.length-i.toNat) ⟨by omega,by omega⟩ (by simp only [dH]; omega) ?_) fun _=>tS rfl
 rintro i ⟨h0,h1⟩
 refine tD (fun _=>kZ (by omega) (by omega) fun k hk hk2=>tQ (gq hk2) (kZ (by omega) (by omega) fun j hj hj2 => ?_)) fun _=>kB (a:=Sum.inl ()) trivial
 have:j=k:=by omega
 subst this
 exact tQ (gq hk2) (tC (fun h=>absurd h (by simp)) fun _=>tW (by omega) (by omega) (bT (by omega)))
theorem Hy (m:aH) (h1:m.To.length<1000000) (h2:m.Kc.length<4611686018427387904):Tt (eW m m) zj:=by
 unfold eW
 refine lR zj (tB (BI _) fun a ha=>tC (fun _=>tB (Cg m.To h1) fun b hb=>tC (fun _=>tB (Bs m.Kc h2) fun d hd=>tC (fun _=>tV (tC (fun _=>tC (fun _=>bT (by show _=true; simp)) fun h=>absurd h (by simp)) fun h=>absurd h (by simp))) fun h => ?_) fun h => ?_) fun h => ?_) fun b hb=>tS hb
 ·rw [show d=true from hd] at h; cases h
 ·rw [show b=true from hb] at h; cases h
 ·rw [show a=true from ha] at h; cases h
set_option maxRecDepth 1000000
theorem Ig (l:List ap) (hl:l.length<1000000) (ho:∀ x∈l,jI x):Tt (fg l l) zj:=by
 unfold fg
 refine tN (fun h=>absurd rfl h) fun _=>lX (tL (fun i:Int=>0≤i∧i≤((l.length:Nat):Int)) (fun i=>l.length-i.toNat) ⟨by omega,by omega⟩ (by simp only [dH]; omega) ?_) fun _=>tS rfl
 rintro i ⟨h0,h1⟩
 refine tD (fun hi => ?_) fun _=>kB (a:=Sum.inl ()) trivial
 obtain ⟨k,rfl⟩:∃ k:Nat,i=(k:Int):=⟨i.toNat,by omega⟩
 have hk:k<l.length:=by omega
 have hix:fL (k:Int) l.length=some k:=uO hk
 have hg:=gq hk
 obtain ⟨o1,o2,o3⟩:=ho _ (List.getElem_mem hk)
 refine lR (fun b=>b=false) (tQ hix (tQ hg (tQ hix (tQ hg (tB (Gd _ (by dsimp only; omega)) fun a ha=>tC (fun h => ?_) fun _=>tQ hix (tQ hg (tQ hix (tQ hg (tV (tC (fun h=>absurd h (by simp)) fun _=>tQ hix (tQ hg (tQ hix (tQ hg (tB (Hy _ (by dsimp only; omega) (by dsimp only; omega)) fun b hb=>tC (fun h => ?_) fun _=>tQ hix (tQ hg (tQ hix (tQ hg (tV (bT (by simp)))))))))))))))))))) fun b hb=>tC (fun h=>by rw [hb] at h; cases h) fun _=>tW (by omega) (by omega) (bT (by omega))
 ·rw [show a=true from ha] at h; cases h
 ·rw [show b=true from hb] at h; cases h
theorem zx:dm=some true:=by kernel_rfl
theorem pE:reachBytes=140737488351232:=rfl
theorem If (c:T_Config) (h:T_Config.wz c):Tt (cy (T_Config.r c)) fun r=>r=false→(c.Kh.getD 0 (⟨#[]⟩:KK)).size≤2000∧(c.Kh.getD 1 (⟨#[]⟩:KK)).size≤2000∧c.KI.size≤2000∧c.KG.size≤2000:=by
 obtain ⟨⟨hl2,hds⟩,_,hU,hS,_,_⟩:=h
 obtain ⟨a,b,hab⟩:∃ a b,c.Kh=[a,b]:=by
  match hq:c.Kh,hl2 with
  | [a,b],_=>exact ⟨a,b,rfl⟩
 have ha:a.size≤reachBytes:=hds a (by rw [hab]; simp)
 have hb:b.size≤reachBytes:=hds b (by rw [hab]; simp)
 have hU2:c.KI.size≤reachBytes:=hU
 have hS2:c.KG.size≤reachBytes:=hS
 rw [pE] at ha hb hU2 hS2
 unfold cy
 have g0:(T_Config.r c).Kh.getD 0 (⟨#[]⟩:KK)=a:=by show c.Kh.getD 0 (⟨#[]⟩:KK)=a; rw [hab]; rfl
 have g1:(T_Config.r c).Kh.getD 1 (⟨#[]⟩:KK)=b:=by show c.Kh.getD 1 (⟨#[]⟩:KK)=b; rw [hab]; rfl
 rw [g0,g1,show c.Kh.getD 0 (⟨#[]⟩:KK)=a from g0,show c.Kh.getD 1 (⟨#[]⟩:KK)=b from g1]
 show Tt ((some (IntKind.i64.wrap ((a.size:Int)+(b.size:Int)))).bind fun v1=>(some (IntKind.i64.wrap (v1+(c.KI.size:Int)))).bind fun v2=>(some (IntKind.i64.wrap (v2+(c.KG.size:Int)))).bind fun v3=>some (decide (2000<v3))) _
 refine tW (by omega) (by omega) (tW (by omega) (by omega) (tW (by omega) (by omega) (tS fun h => ?_)))
 have:=of_decide_eq_false h
 omega
structure Lt (g:T_Gate):Prop where
 h:g.Kn.size≤6000
 l:g.Kj.Ks.size≤6000
 d:g.Kj.Kg.size≤6000
 b:g.Kd.length≤6000
 c:g.Ke.size≤6000
 n:g.To.length≤40
 t:∀ p∈g.To,nX p
theorem Dk (g:T_Gate) (h:T_Gate.wz g):Tt (dU g) fun r=>r=false→Lt g:=by
 obtain ⟨_,hH,⟨_,hL,hD⟩,⟨hT,hTs⟩,_,⟨hB,_⟩,hC,_⟩:=h
 have eH:g.Kn.size≤reachBytes:=hH
 have eL:g.Kj.Ks.size≤reachBytes:=hL
 have eD:g.Kj.Kg.size≤reachBytes:=hD
 have eC:g.Ke.size≤reachBytes:=hC
 have eP:∀ p∈g.To,p.Ks.size≤reachBytes∧p.Kg.size≤reachBytes:=fun p hp=>⟨(hTs p hp).2.1,(hTs p hp).2.2⟩
 rw [pE] at eH eL eD eC hT hB eP
 unfold dU
 refine tW (by omega) (by omega) (tW (by omega) (by omega) (tW (by omega) (by omega) (tW (by omega) (by omega) ?_)))
 obtain ⟨B,hB0⟩:∃ B:Int,B=(g.Kn.size:Int)+(g.Kj.Ks.size:Int)+(g.Kj.Kg.size:Int)+(g.Kd.length:Int)+(g.Ke.size:Int):=⟨_,rfl⟩
 rw [← hB0]
 refine lR (fun s:Int=>g.To.length≤40→B≤s∧∀ p∈g.To,(p.Ks.size:Int)+p.Kg.size≤s) (tL (fun x:Int×Int=>(0≤x.2∧x.2≤(g.To.length:Int))∧(g.To.length≤40→B≤x.1∧x.1≤B+x.2 * 300000000000000∧∀ j:Nat,(j:Int)<x.2→∀ p,bQ g.To j=some p→(p.Ks.size:Int)+p.Kg.size≤x.1)) (fun x=>g.To.length-x.2.toNat) ⟨⟨by dsimp only; omega,by dsimp only; omega⟩,fun _=>⟨by dsimp only; omega,by dsimp only; omega,fun j hj=>by dsimp only at hj; omega⟩⟩ (by simp only [dH]; omega) ?_) fun s hs => ?_
 ·rintro ⟨s,i⟩ ⟨⟨h0,h1⟩,h2⟩
  dsimp only at h0 h1 h2 ⊢
  refine tD (fun hi=>kZ (by omega) (by omega) fun k hk hk2=>tQ (gq hk2) (tV (kZ (by omega) (by omega) fun j hj hj2 => ?_))) fun hi=>kB (a:=Sum.inl s) fun h40 => ?_
  ·have hjk:j=k:=by omega
   subst hjk
   have hp:=eP _ (List.getElem_mem hk2)
   refine tQ (gq hk2) (tV (tW (by omega) (by omega) (bT ⟨⟨⟨by dsimp only; omega,by dsimp only; omega⟩,fun h40 => ?_⟩,by dsimp only; omega⟩)))
   obtain ⟨k1,k2,k3⟩:=h2 h40
   have e1:IntKind.i64.wrap (s+(g.To[j].Ks.size:Int))=s+(g.To[j].Ks.size:Int):=eB (by omega) (by omega)
   have e2:IntKind.i64.wrap (s+(g.To[j].Ks.size:Int)+(g.To[j].Kg.size:Int))=s+(g.To[j].Ks.size:Int)+(g.To[j].Kg.size:Int):=eB (by omega) (by omega)
   dsimp only
   rw [e1,e2]
   refine ⟨by omega,by omega,fun q hq p hg => ?_⟩
   by_cases hqi:(q:Int)<i
   ·have:=k3 q hqi p hg
    omega
   ·have hqj:q=j:=by omega
    subst hqj
    rw [gq hk2] at hg
    cases hg
    omega
  ·obtain ⟨k1,k2,k3⟩:=h2 h40
   refine ⟨k1,fun p hp => ?_⟩
   obtain ⟨j,hj,rfl⟩:=List.getElem_of_mem hp
   exact k3 j (by omega) _ (gq hj)
 ·refine BN (tD (fun _=>bT (tS fun h=>by cases h)) fun h6=>bT (tS fun h => ?_))
  have hn:=of_decide_eq_false h
  have h40:g.To.length≤40:=by omega
  obtain ⟨k1,k2⟩:=hs h40
  exact ⟨by omega,by omega,by omega,by omega,by omega,h40,fun p hp=>⟨by have:=k2 p hp; omega,by have:=k2 p hp; omega⟩⟩
theorem CO (c:Cx) (h:c.Ok):Tt (dZ c.cf) fun _=>True:=by
 have h0:=h.d0
 have h1:=h.d1
 have h2:=h.us
 have h3:=h.se
 have hE:Tt (ez c.d0 c.d1) fun _=>True:=by
  obtain ⟨r,hr,_⟩:=pI c.d0 c.d1 (by omega) (by omega)
  exact ⟨r,hr,trivial⟩
 unfold dZ
 refine lX (tB (rC c.d0 (by omega)) fun _ _=>tC (fun _=>tB (rC c.d1 (by omega)) fun _ _=>tC (fun _=>tB hE fun _ _=>bT trivial) fun _=>bT trivial) fun _=>bT trivial) fun _=>lX (tD (fun _=>bT trivial) fun _=>bT trivial) fun _=>lX (tB (Bl c.us (by omega)) fun _ _=>tC (fun _=>tB (Bl c.se (by omega)) fun _ _=>bT trivial) fun _=>bT trivial) fun _=>lX (tD (fun _=>bT trivial) fun _=>bT trivial) fun _=>lX (tC (fun _=>bT trivial) fun _=>tC (fun _=>bT trivial) fun _=>tC (fun _=>bT trivial) fun _=>bT trivial) fun _=>tC (fun _=>tS trivial) fun _=>tS trivial
theorem Eo (g:T_Gate) (h:g.Ke.size≤10000):Tt (cV g) fun r=>r=true→0≤g.KC∧g.KC≤6∧g.Ke.size≤100∧dY g.Ke 32=some true:=by
 obtain ⟨w,hw,_⟩:=vF g.Ke 32 (by omega)
 unfold cV
 refine lR (fun r=>r=true→0≤g.KC∧g.KC≤6∧g.Ke.size≤100∧dY g.Ke 32=some true) (tD (fun h0=>tD (fun h6=>tD (fun hc=>tQ hw (bT fun h=>⟨h0,h6,by omega,by rw [hw,h]⟩)) fun _=>bT fun h=>by cases h) fun _=>bT fun h=>by cases h) fun _=>bT fun h=>by cases h) fun r hr=>tS hr
theorem BC {g y:T_Gate} (h:0≤y.KC∧y.KC≤6) (hc:y.Ke=g.Ke) (hl:g.Ke.size≤100) (hw:dY g.Ke 32=some true):cV y=some true:=by
 unfold cV
 rw [hc]
 exact bw (s:=true) (aL (decide_eq_true h.1) (aL (decide_eq_true h.2) (aL (decide_eq_true (by omega)) (aX hw rfl)))) rfl
theorem Ha {B:Type} {f:Int→Option B} {Q:B→Prop} {e:Int} (h0:0≤e) (h1:e<18446744073709551616) (h:Tt (f e) Q):Tt ((some (IntKind.u64.wrap e)).bind f) Q:=by
 have:IntKind.u64.wrap e=e:=by
  unfold IntKind.wrap
  simp only [IntKind.signed,Bool.false_and,Bool.false_eq_true,if_false]
  exact Int.emod_eq_of_lt h0 (by simpa [IntKind.bits] using h1)
 rw [this]; exact h
abbrev LT (c:Cx) (g:T_Gate) (b:List Int) (p q:Nat):Int×KK×Bool×KK×KK×(List T_Path)×Bool×(List Int)×KK×Bool×(List ap)×(List Int)×Int :=
 ((fF c g (b.take p)).1.KC,(fF c g (b.take p)).1.Kn,(fF c g (b.take p)).1.Kj.Kx,(fF c g (b.take p)).1.Kj.Ks,(fF c g (b.take p)).1.Kj.Kg,(fF c g (b.take p)).1.To,(fF c g (b.take p)).1.KE,(fF c g (b.take p)).1.Kd,(fF c g (b.take p)).1.Ke,(fF c g (b.take p)).1.KD,(fF c g (b.take p)).2,b.drop p,(q:Int))
theorem rF (c:T_Config) (i:Int) (at_:Int) (g:T_Gate) (b:List Int) (cuts:List Int) (h0:T_Config.wz c) (h3:T_Gate.wz g) (h4:xd 1 (nQ .u8) b):cS c i at_ g b cuts=some true:=by
 have key:Tt (cS c i at_ g b cuts) zj:=by
  obtain ⟨v1,hv1,k1⟩:=If c h0
  obtain ⟨v2,hv2,k2⟩:=Dk g h3
  have hbb:dv b:=tR ⟨by have:=h4.1; rw [pE] at this; show b.length≤9223372036854775807; omega,h4.2⟩
  have hgb:dv g.Kd:=tR ⟨by have:=h3.2.2.2.2.2.1.1; rw [pE] at this; show g.Kd.length≤9223372036854775807; omega,h3.2.2.2.2.2.1.2⟩
  unfold cS
  refine lR (fun s=>s=false→v1=false∧v2=false∧b.length≤1500∧cuts.length≤30) (tQ hv1 (tC (fun _=>bT fun h=>by cases h) fun f1=>tQ hv2 (tC (fun _=>bT fun h=>by cases h) fun f2=>tD (fun _=>bT fun h=>by cases h) fun f3=>bT fun h=>⟨f1,f2,by omega,by have:=of_decide_eq_false h; omega⟩))) fun s hs=>tC (fun _=>tS rfl) fun hs0 => ?_
  obtain ⟨f1,f2,hb15,hc30⟩:=hs hs0
  obtain ⟨c0,c1,c2,c3⟩:=k1 f1
  have lt:=k2 f2
  obtain ⟨x,hx⟩:∃ x:Cx,x=⟨c.Kh.getD 0 (⟨#[]⟩:KK),c.Kh.getD 1 (⟨#[]⟩:KK),c.Ki,c.KI,c.KG,c.Kt,c.Km,i,at_⟩:=⟨_,rfl⟩
  have hxc:T_Config.r c=x.cf:=by rw [hx]
  have hxi:x.i=i:=by rw [hx]
  have hxt:x.t=at_:=by rw [hx]
  rw [hxc]
  have hcfT:∀ _:x.i=0∨x.i=1,x.Ok:=fun h=>⟨by rw [hx]; dsimp only; omega,by rw [hx]; dsimp only; omega,by rw [hx]; dsimp only; omega,by rw [hx]; dsimp only; omega,h⟩
  have hcf:Tt (dZ x.cf) fun _=>True:=CO (Cx.mk x.d0 x.d1 x.ex x.us x.se x.lo x.he 0 x.t) ⟨by rw [hx]; dsimp only; omega,by rw [hx]; dsimp only; omega,by rw [hx]; dsimp only; omega,by rw [hx]; dsimp only; omega,.inl rfl⟩
  obtain ⟨e,he,_⟩:=hcf
  obtain ⟨w,hw,hwk⟩:=Eo g (by have:=lt.c; omega)
  have wk:Tt (aA (S:=Bool) (A:=Bool) (cond ((([]:List ap).length:Int)==0) ((dm).bind fun v10=>some (.inl v10)) (some (.inl false))) (fun (s11:Bool)=>some s11) some) zj:=lR zj (tC (fun _=>tQ zx (bT rfl)) fun h=>by cases h) fun _ h=>tS h
  by_cases he0:e=0
  case neg =>
   have hF:dL x.cf i at_ g b=some (T_Gate.mk 0 (⟨#[]⟩:KK) zP [] false [] (⟨#[]⟩:KK) false,[],e):=by
    unfold dL
    exact aX he (aL (bne_iff_ne.2 he0) rfl)
   exact tQ hF (tN (fun _=>wk) fun h=>absurd h he0)
  subst he0
  obtain ⟨f,hf,hfk⟩:∃ f:Bool,(cond ((i != 0)) (cond ((i != 1)) (some (.inl true)) (cond ((decide (at_<0))) (some (.inl true)) (cond ((decide (1099511627776<at_))) (some (.inl true)) ((cV g).bind fun v3=>some (.inl (!v3)))))) (cond ((decide (at_<0))) (some (.inl true)) (cond ((decide (1099511627776<at_))) (some (.inl true)) ((cV g).bind fun v4=>some (.inl (!v4))))):Option (Bool⊕(T_Gate×(List ap)×Int)))=some (.inl f)∧(f=false→(i=0∨i=1)∧(0≤at_∧at_≤1099511627776)∧w=true):=by
   have hat:∀ Z:Option (Bool⊕(T_Gate×(List ap)×Int)),Z=(cond ((decide (at_<0))) (some (.inl true)) (cond ((decide (1099511627776<at_))) (some (.inl true)) ((cV g).bind fun v4=>some (.inl (!v4)))))→∃ f:Bool,Z=some (.inl f)∧(f=false→(0≤at_∧at_≤1099511627776)∧w=true):=fun Z hZ=>by
    by_cases a0:at_<0
    ·exact ⟨true,hZ.trans (aL (decide_eq_true a0) rfl),fun h=>by cases h⟩
    ·by_cases a1:1099511627776<at_
     ·exact ⟨true,hZ.trans (au (decide_eq_false a0) (aL (decide_eq_true a1) rfl)),fun h=>by cases h⟩
     ·exact ⟨!w,hZ.trans (au (decide_eq_false a0) (au (decide_eq_false a1) (aX hw rfl))),fun h=>⟨by omega,by simpa using h⟩⟩
   obtain ⟨f,hf,hfk⟩:=hat _ rfl
   by_cases i0:i=0
   ·exact ⟨f,au (by rw [i0]; rfl) hf,fun h=>⟨.inl i0,hfk h⟩⟩
   ·by_cases i1:i=1
    ·exact ⟨f,aL (bne_iff_ne.2 i0) (au (by rw [i1]; rfl) hf),fun h=>⟨.inr i1,hfk h⟩⟩
    ·exact ⟨true,aL (bne_iff_ne.2 i0) (aL (bne_iff_ne.2 i1) rfl),fun h=>by cases h⟩
  cases f with
  | true =>
   have hF:dL x.cf i at_ g b=some (T_Gate.mk 0 (⟨#[]⟩:KK) zP [] false [] (⟨#[]⟩:KK) false,[],1):=by
    unfold dL
    exact aX he (au rfl (bw hf (aL rfl rfl)))
   exact tQ hF (tN (fun _=>wk) fun h=>absurd h (by decide))
  | false =>
  obtain ⟨hi,hat,hwt⟩:=hfk rfl
  subst hwt
  obtain ⟨p0,p6,hcl,hwi⟩:=hwk rfl
  have hok:=hcfT (by rw [hxi]; exact hi)
  have ltb:=lt.b
  have gi:GI g:=⟨p0,p6,by have:=lt.h; omega,⟨by have:=lt.l; omega,by have:=lt.d; omega⟩,lt.t,lt.n,by omega,hgb,by omega⟩
  have hcf0:dZ x.cf=some 0:=he
  have hF:dL x.cf i at_ g b=some ((fF x g b).1,(fF x g b).2,0):=by
   have:=BU hok gi hbb (by omega) hcf0 (by rw [hxt]; exact hat) hw
   rw [hxi,hxt] at this
   exact this
  have hI:=Hq hok gi b hbb (by omega)
  have hend:=hI b.length (Nat.le_refl _)
  rw [List.take_length] at hend
  have hel:=hend.l
  have hen:=hend.gi.n
  refine tQ hF (tN (fun h=>absurd rfl h) fun _ => ?_)
  refine lR (fun s=>s=((fF x g b).1.KC,(fF x g b).1.Kn,(fF x g b).1.Kj.Kx,(fF x g b).1.Kj.Ks,(fF x g b).1.Kj.Kg,(fF x g b).1.To,(fF x g b).1.KE,(fF x g b).1.Kd,(fF x g b).1.Ke,(fF x g b).1.KD,(fF x g b).2)) (tL (fun s=>∃ p q:Nat,s=LT x g b p q∧p≤b.length∧q≤cuts.length+1∧(q=cuts.length+1→p=b.length)) (fun s=>cuts.length+1-s.2.2.2.2.2.2.2.2.2.2.2.2.toNat) ⟨0,0,rfl,Nat.zero_le _,Nat.zero_le _,fun h=>by omega⟩ (by simp only [dH]; omega) ?_) ?_
  ·rintro _ ⟨p,q,rfl,hp,hq,hpq⟩
   have ip:=hI p hp
   have ipl:=ip.l
   have hdl:(b.drop p).length=b.length-p:=List.length_drop
   refine tD (fun hqc => ?_) fun hqc=>kB (a:=Sum.inl _) ?_
   ·refine lR (fun n:Int=>0≤n∧n≤((b.drop p).length:Int)∧(q=cuts.length→n=((b.drop p).length:Int))) (tD (fun hq2=>kZ (by omega) (by omega) fun _ _ _=>tG (by omega) fun _ _=>GS fun u hu _=>tW (by omega) (by omega) (Ha (by omega) (by omega) (xl hu (by omega) fun r _ hr0 hr1=>tW (by omega) (by omega) (bT ⟨hr0,by omega,fun h=>by omega⟩)))) fun hq2=>bT ⟨by omega,by omega,fun _=>rfl⟩) fun n hn => ?_
    obtain ⟨m,rfl⟩:∃ m:Nat,n=(m:Int):=⟨n.toNat,by omega⟩
    have hm:m≤b.length-p:=by omega
    have s1:iZ (b.drop p) 0 (m:Int)=some ((b.drop p).take m):=by
     have:=mj (b.drop p) (a:=0) (b:=m) (by omega) (by omega)
     rw [show ((0:Nat):Int)=0 from rfl,List.drop_zero,Nat.sub_zero] at this
     exact this
    have s2:iZ (b.drop p) (m:Int) ((b.drop p).length:Int)=some (b.drop (p+m)):=by
     have:=mj (b.drop p) (a:=m) (b:=(b.drop p).length) (by omega) (Nat.le_refl _)
     rw [List.take_of_length_le (by rw [List.length_drop]; exact Nat.le_refl _),List.drop_drop] at this
     exact this
    have ey:fF x g (b.take p)=(b.take p).foldl (bF x) (g,[]):=rfl
    rw [← ey] at ip ipl
    have hv:cV (fF x g (b.take p)).1=some true:=BC ⟨ip.gi.p0,ip.gi.p6⟩ ip.c hcl hwi
    have hF2:=BU hok ip.gi (b:=(b.drop p).take m) (lz (fV hbb p) m) (by rw [List.length_take]; omega) hcf0 (by rw [hxt]; exact hat) hv
    rw [hxi,hxt] at hF2
    have hap:=Gk x g (b.take p) ((b.drop p).take m)
    rw [← List.take_add] at hap
    have i2:=(hI (p+m) (by omega)).l
    have e2:fF x g (b.take (p+m))=(b.take (p+m)).foldl (bF x) (g,[]):=rfl
    rw [← e2,hap] at i2
    have i3:((fF x g (b.take p)).2++(fF x (fF x g (b.take p)).1 ((b.drop p).take m)).2).length+(fF x (fF x g (b.take p)).1 ((b.drop p).take m)).1.Kd.length≤g.Kd.length+(p+m):=i2
    rw [List.length_append] at i3
    refine tQ s1 (tQ hF2 (tN (fun h=>absurd rfl h) fun _=>tQ (jE (by dsimp only; omega) (by dsimp only; omega)) (tQ s2 (tW (by omega) (by omega) (bT ⟨⟨p+m,q+1,?_,by omega,by omega,fun h=>by have:=hn.2.2 (by omega); omega⟩,?_⟩)))))
    ·show _=LT x g b (p+m) (q+1)
     unfold LT
     rw [hap]
     rfl
    ·show cuts.length+1-((q:Int)+1).toNat<cuts.length+1-((q:Nat):Int).toNat
     omega
   ·have hpb:=hpq (by omega)
    subst hpb
    show (_:Int×KK×Bool×KK×KK×(List T_Path)×Bool×(List Int)×KK×Bool×(List ap))=_
    rw [List.take_length]
  ·rintro _ rfl
   dsimp only
   refine lR zj (tB (Ib (fF x g b).1 (by unfold fF; omega) (by unfold fF; omega)) fun v hv=>tC (fun _=>tB (Ig (fF x g b).2 (by unfold fF; omega) hend.o) fun u hu=>tC (fun _=>tQ zx (bT rfl)) fun h => ?_) fun h => ?_) fun r hr=>tS hr
   ·rw [show u=true from hu] at h; cases h
   ·rw [show v=true from hv] at h; cases h
 obtain ⟨r,hr,hy⟩:=key
 rw [hr,show r=true from hy]
end Go.Abs.Sh
