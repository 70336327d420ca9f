import Derived.Test.YtjnnkhmhjcjhdaaGreatDoorMaiE
set_option linter.unusedVariables false
set_option linter.unusedSimpArgs false
set_option linter.unusedSectionVars false
namespace Go.Abs.Sh
set_option linter.unusedVariables false
set_option linter.unusedSimpArgs false
set_option maxRecDepth 100000
abbrev eB:Mf:=⟨#[]⟩
abbrev JG:aA:=aA.mk 0 eB zP [] false [] eB false
abbrev DX:aA:=aA.mk 1 hxS zP [] false [] eB false
abbrev Ij (p:T_Path):aA:=aA.mk 2 hxS p [] false [] eB false
abbrev Ec (p:T_Path) (l:List T_Path) (q:Bool):aA:=aA.mk 3 hxS p l q [] eB false
abbrev za (p:T_Path) (l:List T_Path) (q:Bool) (b:List Int):aA:=aA.mk 4 hxS p l q b eB false
abbrev II:aA:=aA.mk 6 hxS zP [] false [] eB false
theorem sr {i t:Int} {g g':aA} {o o':List ay} {s:Mf} {m:bn} (h6:g.LW≠6) (h5:g.LW≠5) (hp:dX s=some (m,0)) (hc:bP (SG i t g o) m=some (SG i t g' o')):bm (SG i t g o) s=some (SG i t g' o'):=by
 unfold bm
 exact bq (s:=mp i t (g',o')) (aD (beq_eq_false_iff_ne.2 h6) (aD (beq_eq_false_iff_ne.2 h5) (aK hp (aD rfl (aK hc rfl))))) rfl
theorem Lj {i t:Int}:bm (SG i t JG []) (aQ [69,72,76,79,32,104,46,120])=some (SG i t DX [kg 250]):=by kernel_rfl
theorem Lf {i t:Int} {o:List ay} (ho:o.length<100000) {p:T_Path} {s:Mf} (hp:dX s=some (bn.mk 2 e0 p [],0)):bm (SG i t DX o) s=some (SG i t (Ij p) (o++[kg 250])):=by
 refine sr (by decide) (by decide) hp ?_
 have hm:eH (SG i t DX o) (bn.mk 2 e0 p [])=some (250,SG i t (Ij p) o):=by
  unfold eH
  exact aK (x:=(eB,false)) (by kernel_rfl) (aK (x:=0) (by kernel_rfl) (aD rfl (aD rfl rfl)))
 unfold bP
 exact bq (s:=mp i t (Ij p,o++[kg 250])) (aD rfl (aD rfl (aD rfl (aD rfl (aD rfl (aP rfl (aK hm (aK (qo (g:=Ij p) (code:=250) (by decide) ho) rfl)))))))) rfl
theorem KJ {p:T_Path} (hp:iH p=true) (hn:p.LQ=false) (hl:p.LM.size≤600) {j:Int} (hd:p.LA=dm j):lm p (⟨#[97]⟩:Mf)=some (decide (j=0))∧lm p (⟨#[98]⟩:Mf)=some (!decide (j=0)):=by
 have hds:p.LA.size≤600:=by
  rw [hd]; unfold dm; split <;> decide
 have hc:dI p=some 0:=by rw [sZ p ⟨by omega,by omega⟩,hp]; rfl
 have f1:∀ d:Mf,∀ r,(eo p.LA).bind (fun v2=>(eo d).bind fun v3=>some (.inl (v2.toList==v3.toList)))=(some (.inl r):Option (Bool⊕Bool))→lm p d=some r:=fun d r h=>by
  unfold lm
  exact bq (s:=r) (aK hc (aP rfl (aP (by rw [hn]; rfl) h))) rfl
 by_cases hj:j=0
 ·rw [decide_eq_true hj]
  have e:p.LA=(⟨#[97]⟩:Mf):=by rw [hd]; unfold dm; rw [if_pos hj]
  exact ⟨f1 _ _ (by rw [e]; kernel_rfl),f1 _ _ (by rw [e]; kernel_rfl)⟩
 ·rw [decide_eq_false hj]
  have e:p.LA=(⟨#[98]⟩:Mf):=by rw [hd]; unfold dm; rw [if_neg hj]
  exact ⟨f1 _ _ (by rw [e]; kernel_rfl),f1 _ _ (by rw [e]; kernel_rfl)⟩
structure pH (p:T_Path):Prop where
 k:iH p=true
 n:p.LQ=false
 l:p.LM.size≤40
 d:∃ j:Int,p.LA=dm j
theorem pH.sz {p:T_Path} (h:pH p):p.LM.size+p.LA.size≤41:=by
 obtain ⟨j,hj⟩:=h.d
 have:p.LA.size=1:=by rw [hj]; unfold dm; split <;> rfl
 have:=h.l
 omega
theorem Ll {i t:Int} {o:List ay} (ho:o.length<100000) {f p:T_Path} {l:List T_Path} {q:Bool} {ph:Int} (hph:ph=2∨ph=3) (hl:l.length<8) (h:pH p) {n:Bool} {s:Mf} (hp:dX s=some (bn.mk 3 e0 p (if n then [Dg] else []),0)) :
  bm (SG i t (aA.mk ph hxS f l q [] eB false) o) s=some (SG i t (Ec f (l++[p]) (n||q)) (o++[kg 250])):=by
 refine sr (by show ph≠6; omega) (by show ph≠5; omega) hp ?_
 obtain ⟨j,hj⟩:=h.d
 have hll:=h.l
 obtain ⟨a1,a2⟩:=KJ h.k h.n (by omega) hj
 have hm:er (SG i t (aA.mk ph hxS f l q [] eB false) o) (bn.mk 3 e0 p (if n then [Dg] else []))=some (250,SG i t (Ec f (l++[p]) (n||q)) o):=by
  unfold er
  refine bq (s:=false) ?_ (aD rfl (aD (decide_eq_false (by show ¬ (8:Int)≤l.length; omega)) (bq (s:=false) ?_ (aD rfl (aK (dJ (by simp; omega) (by simp; omega)) ?_)))))
  ·rcases hph with rfl | rfl
   ·exact aD rfl rfl
   ·exact aP rfl rfl
  ·refine aK a1 ?_
   by_cases h0:j=0
   ·rw [decide_eq_true h0]; rfl
   ·rw [decide_eq_false h0] at a2 ⊢
    exact aP rfl (aK a2 rfl)
  ·cases n
   ·exact bq (s:=q) (aK (x:=(eB,false)) (by kernel_rfl) (aD (by kernel_rfl) rfl)) rfl
   ·exact bq (s:=true) (aK (x:=((⟨#[78,69,86,69,82]⟩:Mf),true)) (by kernel_rfl) (aP (by kernel_rfl) rfl)) rfl
 unfold bP
 exact bq (s:=mp i t (Ec f (l++[p]) (n||q),o++[kg 250])) (aD rfl (aD rfl (aD rfl (aD rfl (aD rfl (aD rfl (aP rfl (aK hm (aK (qo (g:=Ec f (l++[p]) (n||q)) (code:=250) (by decide) ho) rfl))))))))) rfl
theorem Lo {i t:Int} {o:List ay} (ho:o.length<100000) {f:T_Path} {l:List T_Path} {q:Bool}:bm (SG i t (Ec f l q) o) (aQ [68,65,84,65])=some (SG i t (za f l q []) (o++[kg 354])):=by
 refine sr (m:=bn.mk 4 eB zP []) (by show (3:Int)≠6; decide) (by show (3:Int)≠5; decide) (by kernel_rfl) ?_
 unfold bP
 exact bq (s:=mp i t (za f l q [],o++[kg 354])) (aD rfl (aD rfl (aD rfl (aD rfl (aD rfl (aD rfl (aD rfl (aP rfl (aK (x:=(354,SG i t (za f l q []) o)) rfl (aK (qo (g:=za f l q []) (code:=354) (by decide) ho) rfl)))))))))) rfl
theorem Ld {i t:Int} {o:List ay} (ho:o.length<100000):bm (SG i t DX o) (aQ [81,85,73,84])=some (SG i t II (o++[kg 221])):=by
 refine sr (m:=bn.mk 8 eB zP []) (by decide) (by decide) (by kernel_rfl) ?_
 unfold bP
 exact bq (s:=mp i t (II,o++[kg 221])) (aD rfl (aD rfl (aD rfl (aD rfl (aP rfl (aK (qo (g:=II) (code:=221) (by decide) ho) rfl)))))) rfl
theorem wq {a b:List Int} (h:oK a) (k:oK b):oK (a++b):=fun x hx=>(List.mem_append.1 hx).elim (h x) (k x)
theorem Lk {i t:Int} {o:List ay} (ho:o.length<100000) {p:T_Path} (hp:iH p=true) (hl:p.LM.size+p.LA.size≤200):FR i t (DX,o) ((po++fe p)++[13,10]) (Ij p,o++[kg 250]):=by
 obtain ⟨b,c,_,_⟩:=pF hp
 have h1:=mB p
 have hpar:=Ex hp [] [] Kt (by decide) rfl (by show _+0≤_; omega) (by omega)
 rw [List.append_nil] at hpar
 exact pZ (by decide) rfl (bM (by decide) b) (wq (yA po rfl) c) (by rw [ft]; show 10+_≤_; omega) (Lf ho hpar) rfl
def FY (q:Bool) (p:T_Path):List Int:=(pu++(fe p++if q then uB else []))++[13,10]
def qu:Bool→List T_Path→List Int
 | _,[]=>[]
 | q,p::l=>FY q p++qu false l
theorem xV:∀ (l:List T_Path) (q:Bool) (p:T_Path),qu q (l++[p])=qu q l++FY (q&&l.isEmpty) p
 | [],q,p=>by simp [qu]
 | x::l,q,p=>by simp [qu,xV l]
theorem KZ {i t:Int} {o:List ay} (ho:o.length<100000) {f p:T_Path} {l:List T_Path} {q:Bool} {ph:Int} (hph:ph=2∨ph=3) (hl:l.length<8) (h:pH p) (n:Bool):FR i t (aA.mk ph hxS f l q [] eB false,o) (FY n p) (Ec f (l++[p]) (n||q),o++[kg 250]):=by
 obtain ⟨b,c,_,_⟩:=pF h.k
 have h1:=mB p
 have h2:=h.sz
 have e:(if n=true then uB else []).length≤13:=by cases n <;> decide
 have hpar:dX (aQ (pu++(fe p++if n=true then uB else [])))=some (bn.mk 3 e0 p (if n=true then [Dg] else []),0):=by
  cases n
  ·exact Bm h.k h.n [] [] JY (by decide) rfl (by show _+0≤_; omega) (by omega)
  ·exact Bm h.k h.n uB [Dg] JJ (by decide) rfl (by show _+13≤_; omega) (by omega)
 exact pZ (by show ph≠4; omega) rfl (bM (by decide) (bM b (by cases n <;> decide))) (wq (yA pu rfl) (wq c (by cases n <;> exact yA _ rfl))) (by rw [ft,ft]; show 8+_≤_; omega) (Ll ho hph hl h hpar) rfl
theorem KS {i t:Int} {f:T_Path} {q:Bool}:∀ (m l:List T_Path) (o:List ay),(∀ p∈m,pH p)→l.length+m.length≤8→o.length+m.length<100000→FR i t (Ec f l q,o) (qu false m) (Ec f (l++m) q,o++List.replicate m.length (kg 250))
 | [],l,o,_,_,_=>by simp only [qu,List.append_nil,List.length_nil,List.replicate_zero]; exact .nil _
 | p::m,l,o,h,hl,ho=>by
  simp only [List.length_cons] at hl ho
  have h1:=KZ (i:=i) (t:=t) (o:=o) (by omega) (f:=f) (l:=l) (q:=q) (.inr rfl) (by omega) (h p List.mem_cons_self) false
  have h2:=KS (i:=i) (t:=t) (f:=f) (q:=q) m (l++[p]) (o++[kg 250]) (fun x hx=>h x (List.mem_cons_of_mem _ hx)) (by rw [ft]; show l.length+1+_≤_; omega) (by rw [ft]; show o.length+1+_<_; omega)
  rw [List.append_assoc,List.append_assoc] at h2
  exact h1.app h2
theorem Jn {i t:Int} {f:T_Path} {q:Bool} {l:List T_Path} {o:List ay} (h:∀ p∈l,pH p) (h1:1≤l.length) (h8:l.length≤8) (ho:o.length<90000):FR i t (Ij f,o) (qu q l) (Ec f l q,o++List.replicate l.length (kg 250)):=by
 cases l with
 | nil=>exact absurd h1 (by decide)
 | cons p m =>
  simp only [List.length_cons] at h8
  have h2:=KZ (i:=i) (t:=t) (o:=o) (by omega) (f:=f) (l:=[]) (q:=false) (.inl rfl) (by decide) (h p List.mem_cons_self) q
  rw [Bool.or_false] at h2
  have h3:=KS (i:=i) (t:=t) (f:=f) (q:=q) m [p] (o++[kg 250]) (fun x hx=>h x (List.mem_cons_of_mem _ hx)) (by show 1+_≤_; omega) (by rw [ft]; show o.length+1+_<_; omega)
  rw [List.append_assoc] at h3
  exact h2.app h3
abbrev KX:az:=az.mk zP [] [] false eB 0
def qe (i:Int) (n:Nat) (f:T_Path) (l:List T_Path) (q:Bool) (b:List Int):ay :=
 if 1500<b.length then ay.mk (kg 552).LZ false KX false else ay.mk (kg 250).LZ true (az.mk f l (qU i n++[13,10]++b) q hxS (n:Int)) false
theorem Jm {i:Int} (hi:i=0∨i=1) {n:Nat} (hn:n≤1099511627776) {f:T_Path} (hf:iH f=true) (hfl:f.LM.size+f.LA.size≤200) {l:List T_Path} (h:∀ p∈l,pH p) (h1:1≤l.length) (h8:l.length≤8) {ls:List (List Int)} (hc:∀ x∈ls,oK x) (hb:∀ x∈ls,dL x) (hl:jM ls≤2000) (q:Bool) (b:List Int) (o:List ay) :
  dP (SG i (n:Int) (za f l q b) o) (jn ls)=some (qe i n f l q (jn ls),SG i (n:Int) (za f l q b) o):=by
 obtain ⟨k,hk,hd⟩:∃ k,dw i 2=some k∧bp ([(⟨#[97]⟩:Mf),(⟨#[98]⟩:Mf)]:List Mf) k=some (dm i):=by
  rcases hi with rfl | rfl
  ·exact ⟨0,rfl,rfl⟩
  ·exact ⟨1,rfl,rfl⟩
 have hjl:=el ls
 obtain ⟨s1,_⟩:=zS hi hn
 obtain ⟨c1,c2,c3⟩:=vV i hn
 have hput:ov (jn ls) hxS (dm i) (n:Int)=some (qU i n++[13,10]++jn ls,0):=by
  unfold ov
  exact aK (pW hc hb (by omega)) (aD rfl (aK s1 (aD rfl (aK (dJ (by simp; omega) (by simp; omega)) rfl))))
 have hcl:cr l=some l:=by
  unfold cr
  exact aK (dJ (k:=40) (l:=[]) (m:=l) (by simp; omega) (by simp; omega)) rfl
 unfold dP qe
 by_cases hlen:1500<(jn ls).length
 ·rw [if_pos hlen]
  exact aK hk (aK hd (aK hput (aK hcl (bq (s:=true) (aP JP rfl) (aP rfl (aK (zx (by decide)) rfl))))))
 ·rw [if_neg hlen]
  have hfit:=Hc (az.mk f l (qU i n++[13,10]++jn ls) false eB 0) ⟨hf,hfl,h1,h8,fun p hp=>⟨(h p hp).k,(h p hp).n,(h p hp).sz⟩,⟨qU i n::ls,by show _=_; simp [jn],fun x hx=>(List.mem_cons.1 hx).elim (fun e=>e ▸ c1) (hc x),fun x hx=>(List.mem_cons.1 hx).elim (fun e=>e ▸ c2) (hb x),by show (qU i n).length+2+jM ls≤_; omega⟩,rfl,rfl,rfl⟩
  exact aK hk (aK hd (aK hput (aK hcl (bq (s:=false) (aD Hy (aD rfl (aK hfit rfl))) (aD rfl (aK (zx (by decide)) rfl))))))
theorem EP {b q:List Int} (h:b=q++[46,13,10]) (hq:q=[]∨∃ p,q=p++[13,10]):wl b=true:=by
 unfold wl
 rcases hq with rfl | ⟨p,rfl⟩
 ·rw [h]; rfl
 ·rw [Bool.or_eq_true]
  right
  have e:b=p++[13,10,46,13,10]:=by rw [h]; simp
  have hl:b.length=p.length+5:=by rw [e]; simp
  refine decide_eq_true ⟨by omega,?_⟩
  rw [hl,Nat.add_sub_cancel,e,List.drop_left']
  rfl
theorem CI:∀ (ls:List (List Int)),jn ls=[]∨∃ p,jn ls=p++[13,10]
 | [] => .inl rfl
 | l::ls=>by
  right
  have e:jn (l::ls)=(l++[13,10])++jn ls:=by show _=_; simp [jn]
  rcases CI ls with h | ⟨p,h⟩
  ·exact ⟨l,by rw [e,h,List.append_nil]⟩
  ·exact ⟨(l++[13,10])++p,by rw [e,h]; simp⟩
theorem Lg {i:Int} (hi:i=0∨i=1) {n:Nat} (hn:n≤1099511627776) {f:T_Path} (hf:iH f=true) (hfl:f.LM.size+f.LA.size≤200) {l:List T_Path} (h:∀ p∈l,pH p) (h1:1≤l.length) (h8:l.length≤8) {ls:List (List Int)} (hc:∀ x∈ls,oK x) (hb:∀ x∈ls,dL x) (hl:jM ls≤2000) (q:Bool) (o:List ay) (ho:o.length<90000) :
  FR i (n:Int) (za f l q [],o) (jn (ls.map kV++[[46]])) (DX,o++[qe i n f l q (jn ls)]):=by
 obtain ⟨D,hD⟩:∃ D,D=jn (ls.map kV++[[46]]):=⟨_,rfl⟩
 have hst:=mz ls
 have sc:∀ x∈ls.map kV,oK x:=fun x hx=>by
  obtain ⟨y,hy,rfl⟩:=List.mem_map.1 hx
  exact Eo (hc y hy)
 have sb:∀ x∈ls.map kV,dL x:=fun x hx=>by
  obtain ⟨y,hy,rfl⟩:=List.mem_map.1 hx
  exact zQ (hb y hy)
 have sd:∀ x∈ls.map kV,x≠[46]:=fun x hx=>by
  obtain ⟨y,hy,rfl⟩:=List.mem_map.1 hx
  exact Fx y
 have e1:D=jn (ls.map kV)++[46,13,10]:=by rw [hD,sL]; rfl
 have hDl:D.length=jM (ls.map kV)+3:=by rw [e1,ft,el]; rfl
 have hDb:dL D:=by rw [e1]; exact bM (rl sb) (by decide)
 have hLn:yh D (ls.map kV++[[46]]) []:=by
  rw [hD]
  exact wi fun x hx=>by
   rcases List.mem_append.1 hx with hx | hx
   ·exact sc x hx
   ·rw [List.mem_singleton.1 hx]; exact yA [46] rfl
 rw [← hD]
 obtain ⟨m,hm⟩:∃ m,D.length=m+1:=⟨jM (ls.map kV)+2,by omega⟩
 have hgo:=EQ (i:=i) (t:=(n:Int)) (g:=za f l q []) (o:=o) rfl D hDb (by omega) m (by omega) fun k _ hk=>BA hLn sd (by omega)
 have e2:D=D.take m++[D[m]]:=by
  have:D.take (m+1)=D.take m++[D[m]]:=by rw [List.take_add_one,List.getElem?_eq_getElem (by omega)]; rfl
  rw [← this,List.take_of_length_le (by omega)]
 have hstrip:ii D=some (jn ls,((D.length:Nat):Int),0):=by
  have:=DR (more:=[]) sc sb sd (fun x hx=>by cases hx) (by show _+0<_; omega)
  rw [List.append_nil,← hD,Fl,← hDl] at this
  exact this
 have hdata:dE (SG i (n:Int) (za f l q D) o)=some (true,SG i (n:Int) DX (o++[qe i n f l q (jn ls)])):=by
  unfold dE
  have hsl:kM D ((D.length:Nat):Int) (D.length:Int)=some []:=by
   have:=mG D (a:=D.length) (b:=D.length) (Nat.le_refl _) (Nat.le_refl _)
   rw [List.drop_length,List.take_nil] at this
   exact this
  exact aK hstrip (aD rfl (aK (zx (by decide)) (bq (aP rfl (aK (Jm hi hn hf hfl h h1 h8 hc hb hl q D o) rfl)) (aK (dJ (by simp; omega) (by simp; omega)) (aK hsl (aK rfl rfl))))))
 have hlast:FR i (n:Int) (za f l q (D.take m),o) [D[m]] (DX,o++[qe i n f l q (jn ls)]):=by
  refine .one ⟨by show (D.take m).length<_; rw [List.length_take]; omega,true,?_,?_⟩
  ·rw [if_neg (by decide)]
   show bE (SG i (n:Int) (za f l q (D.take m++[D[m]])) o) _=some (true,SG i (n:Int) (za f l q (D.take m++[D[m]])) o)
   rw [← e2]
   have:=uZ (i:=i) (t:=(n:Int)) (x:=D[m]) (g:=za f l q D) (o:=o) rfl hDb (by show D.length<_; omega)
   rw [EP e1 (CI _)] at this
   exact this
  ·rw [if_pos rfl]
   show cd (SG i (n:Int) (za f l q (D.take m++[D[m]])) o)=_
   rw [← e2]
   refine FX ?_ (xB rfl)
   unfold bh
   exact aP rfl (aK hdata rfl)
 have:=hgo.app hlast
 rw [← e2] at this
 exact this
set_option maxRecDepth 1000000
def DD (r:Bool):Prop:=r=true
theorem Gd (a:T_Path):Tt (ep a a) DD:=by
 unfold ep
 exact pz DD (tV (tC (fun _=>tC (fun _=>kr (by show _=true; simp)) fun h=>absurd h (by simp)) fun h=>absurd h (by simp))) fun b hb=>tS hb
theorem GI (l:List T_Path) (hl:l.length<1000000):Tt (fh l l) DD:=by
 unfold fh
 refine tN (fun h=>absurd rfl h) fun _=>Gi (tL (fun i:Int=>0≤i∧i≤((l.length:Nat):Int)) (fun i=>l.length-i.toNat) ⟨by omega,by omega⟩ (by simp only [ej]; omega) ?_) fun _=>tS rfl
 rintro i ⟨h0,h1⟩
 refine tD (fun _=>uG (by omega) (by omega) fun k hk hk2=>tQ (eL hk2) (uG (by omega) (by omega) fun j hj hj2 => ?_)) fun _=>wI (a:=Sum.inl ()) trivial
 have:j=k:=by omega
 subst this
 exact tQ (eL hk2) (tB (Gd _) fun b hb=>tC (fun h=>by rw [show b=true from hb] at h; cases h) fun _=>tW (by omega) (by omega) (kr (by omega)))
theorem GT (l:List Int) (hl:l.length<4611686018427387904):Tt (fk l l) DD:=by
 unfold fk
 refine tN (fun h=>absurd rfl h) fun _=>Gi (tL (fun i:Int=>0≤i∧i≤((l.length:Nat):Int)) (fun i=>l.length-i.toNat) ⟨by omega,by omega⟩ (by simp only [ej]; omega) ?_) fun _=>tS rfl
 rintro i ⟨h0,h1⟩
 refine tD (fun _=>uG (by omega) (by omega) fun k hk hk2=>tQ (eL hk2) (uG (by omega) (by omega) fun j hj hj2 => ?_)) fun _=>wI (a:=Sum.inl ()) trivial
 have:j=k:=by omega
 subst this
 exact tQ (eL hk2) (tN (fun h=>absurd rfl h) fun _=>tW (by omega) (by omega) (kr (by omega)))
theorem IV (m:az) (h1:m.To.length<1000000) (h2:m.Lw.length<4611686018427387904):Tt (fM m m) DD:=by
 unfold fM
 refine pz DD (tB (Gd _) fun a ha=>tC (fun _=>tB (GI m.To h1) fun b hb=>tC (fun _=>tB (GT m.Lw h2) fun d hd=>tC (fun _=>tV (tC (fun _=>tC (fun _=>kr (by show _=true; simp)) fun h=>absurd h (by simp)) fun h=>absurd h (by simp))) fun h => ?_) fun h => ?_) fun h => ?_) fun b hb=>tS hb
 ·rw [show d=true from hd] at h; cases h
 ·rw [show b=true from hb] at h; cases h
 ·rw [show a=true from ha] at h; cases h
theorem wu:cV=some true:=by kernel_rfl
theorem wm {A:Type} (P S:List A) (j k:Nat) (h:k=P.length+j):bp (P++S) k=bp S j:=by
 show (P++S)[k]? = S[j]?
 rw [List.getElem?_append_right (by omega),h,Nat.add_sub_cancel_left]
def Gr:List Int:=[69,72,76,79,32,104,46,120]
def tj (f:T_Path):List Int:=(Gr++[13,10])++((po++fe f)++[13,10])
theorem Cs {f:T_Path} (h:iH f=true):dL (tj f):=bM (by decide) (bM (bM (by decide) (pF h).1) (by decide))
theorem Ez {p:T_Path} (h:iH p=true) (q:Bool):dL (FY q p):=bM (bM (by decide) (bM (pF h).1 (by cases q <;> decide))) (by decide)
theorem vG:∀ (l:List T_Path) (q:Bool),(∀ p∈l,pH p)→dL (qu q l)
 | [],q,_=>fun x hx=>by cases hx
 | p::l,q,h=>bM (Ez (h p List.mem_cons_self).k q) (vG l false fun x hx=>h x (List.mem_cons_of_mem _ hx))
theorem EY {p:T_Path} (h:pH p) (q:Bool):(FY q p).length≤67:=by
 have h1:=mB p
 have h2:=h.sz
 have e:(if q=true then uB else []).length≤13:=by cases q <;> decide
 unfold FY
 rw [ft,ft,ft]
 show 8+_+2≤_
 omega
theorem sx:∀ (l:List T_Path) (q:Bool),(∀ p∈l,pH p)→(qu q l).length≤67 * l.length
 | [],q,_=>Nat.le_refl _
 | p::l,q,h=>by
  have h1:=EY (h p List.mem_cons_self) q
  have h2:=sx l false fun x hx=>h x (List.mem_cons_of_mem _ hx)
  show (FY q p++qu false l).length≤67 * (l.length+1)
  rw [ft]; omega
def GR (f:T_Path) (q:Bool) (l:List T_Path) (ls:List (List Int)):List Int:=tj f++qu q l++[68,65,84,65,13,10]++jn (ls.map kV++[[46]])++[81,85,73,84,13,10]
def IQ (i:Int) (n:Nat) (f:T_Path) (l:List T_Path) (q:Bool) (b:List Int):List ay:=([kg 250,kg 250]++List.replicate l.length (kg 250))++[kg 354,qe i n f l q b,kg 221]
theorem Hz {i:Int} (hi:i=0∨i=1) {n:Nat} (hn:n<1099511627776) {f:T_Path} (hf:iH f=true) (hfl:f.LM.size+f.LA.size≤200) {l:List T_Path} (h:∀ p∈l,pH p) (h1:1≤l.length) (h8:l.length≤8) {ls:List (List Int)} (hc:∀ x∈ls,oK x) (hb:∀ x∈ls,dL x) (hl:jM ls≤2000) (q:Bool) :
  ix Gu i (n:Int) JG (GR f q l ls)=some (II,IQ i n f l q (jn ls),0):=by
 have f1:FR i (n:Int) (JG,[]) (Gr++[13,10]) (DX,[kg 250]):=lf Gr Lb rfl rfl Lj rfl
 have f2:=Lk (i:=i) (t:=(n:Int)) (o:=[kg 250]) (by decide) hf hfl
 have f3:=Jn (i:=i) (t:=(n:Int)) (f:=f) (q:=q) (o:=[kg 250]++[kg 250]) h h1 h8 (by decide)
 obtain ⟨o3,ho3⟩:∃ o3,o3=[kg 250]++[kg 250]++List.replicate l.length (kg 250):=⟨_,rfl⟩
 have hl3:o3.length=l.length+2:=by rw [ho3,ft,List.length_replicate]; show 2+_=_; omega
 rw [← ho3] at f3
 have f4:FR i (n:Int) (Ec f l q,o3) ([68,65,84,65]++[13,10]) (za f l q [],o3++[kg 354]):=pZ (by show (3:Int)≠4; decide) rfl (by decide) (yA _ rfl) (by decide) (Lo (by omega)) rfl
 have f5:=Lg hi (n:=n) (by omega) hf hfl h h1 h8 hc hb hl q (o3++[kg 354]) (by rw [ft]; show _+1<_; omega)
 have f6:FR i (n:Int) (DX,o3++[kg 354]++[qe i n f l q (jn ls)]) ([81,85,73,84]++[13,10]) (II,o3++[kg 354]++[qe i n f l q (jn ls)]++[kg 221]):=pZ (by decide) rfl (by decide) (yA _ rfl) (by decide) (Ld (by rw [ft,ft]; show _+1+1<_; omega)) rfl
 have hall:=((((f1.app f2).app f3).app f4).app f5).app f6
 have e1:((((Gr++[13,10])++((po++fe f)++[13,10]))++qu q l)++([68,65,84,65]++[13,10])++jn (ls.map kV++[[46]]))++([81,85,73,84]++[13,10])=GR f q l ls:=rfl
 have e2:o3++[kg 354]++[qe i n f l q (jn ls)]++[kg 221]=IQ i n f l q (jn ls):=by rw [ho3]; unfold IQ; simp
 rw [e1,e2] at hall
 have e3:GR f q l ls=69::([72,76,79,32,104,46,120,13,10]++((po++fe f)++[13,10])++qu q l++[68,65,84,65,13,10]++jn (ls.map kV++[[46]])++[81,85,73,84,13,10]):=rfl
 have hlen:(GR f q l ls).length<1000000:=by
  have t1:=mB f
  have t2:=sx l q h
  have t3:=mz ls
  unfold GR tj
  simp only [ft,el,mH]
  show (8+2+(10+_+2))+_+6+(_+3)+6<_
  omega
 rw [e3] at hall hlen ⊢
 exact En hall (by decide) rfl (by decide) (by decide) hi ⟨by omega,by omega⟩ (by kernel_rfl) hlen (by decide) ⟨by show (0:Nat)<100000; decide,by show (0:Nat)<1000000; decide⟩
theorem uF (from_:T_Path) (to_:List T_Path) (body:List Int) (i:Int) (at_:Int) (quiet:Bool) (h1:xx T_Path.wf to_) (h2:xx (pU .u8) body):dx from_ to_ body i at_ quiet=some true:=by
 have hbb:=BE h2
 have htl:to_.length≤9223372036854775807:=h1.1
 have key:Tt (dx from_ to_ body i at_ quiet) DD:=by
  unfold dx
  refine pz (fun s=>s=false→(1≤to_.length∧to_.length≤8)∧body.length≤2000∧iH from_=true∧from_.LM.size+from_.LA.size≤200∧∃ ls,(∀ x∈ls,oK x)∧(∀ x∈ls,dL x)∧body=jn ls) ?_ fun s hs=>tC (fun _=>tS rfl) fun hs0 => ?_
  ·refine tD (fun _=>kr fun h=>by cases h) fun k8=>tE (fun _=>kr fun h=>by cases h) fun k0=>tD (fun _=>kr fun h=>by cases h) fun kb=>tQ (qE _) (tC (fun _=>kr fun h=>by cases h) fun kp => ?_)
   have hp:iH from_=true:=by
    have:(!iH from_)=false:=kp
    simpa using this
   rcases Dk body hbb (by omega) with hby | ⟨hby,ls,c1,c2,c3⟩
   ·exact tQ hby (tC (fun _=>kr fun h=>by cases h) fun h=>by cases h)
   ·have hsz:from_.LM.size≤64∧from_.LA.size≤255:=by
     unfold iH at hp
     cases hn:from_.LQ
     ·rw [hn] at hp
      simp only [cond_false,Bool.and_eq_true] at hp
      have a1:=hp.1
      have a2:=hp.2
      unfold qC at a1
      unfold tK at a2
      simp only [Bool.and_eq_true,decide_eq_true_eq,aL] at a1 a2
      exact ⟨a1.1,a2.1⟩
     ·rw [hn] at hp
      simp only [cond_true,Bool.and_eq_true,List.isEmpty_iff] at hp
      have a1:=congrArg List.length hp.1
      have a2:=congrArg List.length hp.2
      rw [aL] at a1 a2
      simp only [List.length_nil] at a1 a2
      omega
    exact tQ hby (tC (fun h=>by cases h) fun _=>tW (by omega) (by omega) (kr fun h=>⟨⟨by omega,by omega⟩,by omega,hp,by have:=of_decide_eq_false h; omega,ls,c1,c2,c3⟩))
  obtain ⟨⟨t1,t8⟩,hb2,hp,hpl,ls,lc,lb,lj⟩:=hs hs0
  have htot:jM ls=body.length:=by rw [lj,el]
  refine GX fun u hu _=>Co hu (by omega) fun v _ v0 v1=>tW (by omega) (by omega) (GX fun w hw _=>Co hw (by omega) fun n _ n0 n1=>tW (by omega) (by omega) (tQ (sl from_ hp (by omega)) ?_))
  have hi:v=0∨v=1:=by omega
  obtain ⟨m,rfl⟩:∃ m:Nat,n=(m:Int):=⟨n.toNat,by omega⟩
  obtain ⟨tb,tc,_,_⟩:=pF hp
  have tl:=mB from_
  have q1:ce (⟨#[69,72,76,79,32,104,46,120,13,10,77,65,73,76,32,70,82,79,77,58]⟩:Mf) (aQ (fe from_))=some (aQ ((Gr++[13,10])++(po++fe from_))):=na (l:=(Gr++[13,10])++po) rfl (aJ tb) (by show 20+_≤_; omega)
  have b1:dL ((Gr++[13,10])++(po++fe from_)):=bM (by decide) (bM (by decide) tb)
  have q2:ce (aQ ((Gr++[13,10])++(po++fe from_))) (⟨#[13,10]⟩:Mf)=some (aQ (tj from_)):=(na (aJ b1) (m:=[13,10]) rfl (by simp only [ft]; show 8+2+(10+_)+2≤_; omega)).trans (by unfold tj; simp)
  refine tQ q1 (tQ q2 ?_)
  refine pz (fun s:(List T_Path)×Mf=>(∀ p∈s.1,pH p)∧s.1.length=to_.length∧s.2=aQ (tj from_++qu quiet s.1)) (tL (fun x:(List T_Path)×Mf×Int=>(∀ p∈x.1,pH p)∧(x.1.length:Int)=x.2.2∧x.2.1=aQ (tj from_++qu quiet x.1)∧0≤x.2.2∧x.2.2≤(to_.length:Int)) (fun x=>to_.length-x.2.2.toNat) ⟨fun p hp=>(by cases hp),rfl,by rw [qu,List.append_nil],by dsimp only; omega,by dsimp only; omega⟩ (by simp only [ej]; omega) ?_) ?_
  ·rintro ⟨l,s,k⟩ ⟨r1,r2,r3,r4,r5⟩
   dsimp only at r1 r2 r3 r4 r5 ⊢
   subst r3
   refine tD (fun hk=>uG (by omega) (by omega) fun a _ ha=>tG ha fun x hx=>tQ (r:=Gu) rfl (uG (by omega) (by omega) fun b _ hb=>tG hb fun y hy=>Co (by omega) (by omega) fun z _ z0 z1 => ?_)) fun hk=>wI (a:=Sum.inl (l,_)) ⟨r1,by dsimp only; omega,rfl⟩
   have hg:∃ c,dw z 2=some c∧bp ([(⟨#[97]⟩:Mf),(⟨#[98]⟩:Mf)]:List Mf) c=some (dm z):=by
    rcases (by omega:z=0∨z=1) with rfl | rfl
    ·exact ⟨0,rfl,rfl⟩
    ·exact ⟨1,rfl,rfl⟩
   obtain ⟨c,hc1,hc2⟩:=hg
   refine tQ hc1 (tQ hc2 ?_)
   obtain ⟨p,hpe⟩:∃ p,p=T_Path.mk false x.LM (dm z):=⟨_,rfl⟩
   rw [← hpe]
   refine pz (fun e=>e=false→pH p) (tQ (qE p) (tC (fun _=>kr fun h=>by cases h) fun kp=>kr fun h=>⟨by simpa using kp,by rw [hpe],by have:=of_decide_eq_false h; rw [hpe]; dsimp only; omega,⟨z,by rw [hpe]⟩⟩)) fun e he=>tC (fun _=>wI (a:=Sum.inr true) rfl) fun he0 => ?_
   have hr:=he he0
   have hsz:=hr.sz
   have hrb:=vG l quiet r1
   have hrl:=sx l quiet r1
   have hhb:=Cs hp
   have hhl:(tj from_).length≤230:=by unfold tj; simp only [ft]; show 8+2+(10+_+2)≤_; omega
   obtain ⟨pb,_,_,_⟩:=pF hr.k
   have pl:=mB p
   have w0:dL (tj from_++qu quiet l):=bM hhb hrb
   have w1:dL (tj from_++qu quiet l++pu):=bM w0 (by decide)
   have w2:dL (tj from_++qu quiet l++pu++fe p):=bM w1 pb
   have l0:(tj from_++qu quiet l).length≤800:=by rw [ft]; omega
   have l1:(tj from_++qu quiet l++pu).length≤808:=by rw [ft]; show _+8≤_; omega
   have l2:(tj from_++qu quiet l++pu++fe p).length≤860:=by rw [ft]; omega
   have hnb:(if (quiet&&l.isEmpty)=true then uB else []).length≤13:=by cases (quiet&&l.isEmpty) <;> decide
   have hnt:dL (if (quiet&&l.isEmpty)=true then uB else []):=by cases (quiet&&l.isEmpty) <;> decide
   refine tQ (dJ (by simp; omega) (by simp; omega)) (tQ (na (aJ w0) (m:=pu) rfl (by show _+8≤_; omega)) (tQ (sl p hr.k (by omega)) (tQ (na (aJ w1) (aJ pb) (by omega)) ?_)))
   refine pz (fun t:Mf=>t=aQ (tj from_++qu quiet l++pu++fe p++(if (quiet&&l.isEmpty)=true then uB else []))) (pz (fun b:Bool=>b=(quiet&&l.isEmpty)) (tC (fun hq=>kr ?_) fun hq=>kr (by rw [hq]; rfl)) fun b hb=>tC (fun hb1=>tQ (na (aJ w2) (m:=uB) rfl (by show _+13≤_; omega)) (kr (by rw [← hb,hb1]; rfl))) fun hb1=>kr (by rw [← hb,hb1]; simp)) fun t ht => ?_
   ·rw [hq,Bool.true_and]
    cases l with
    | nil=>rw [← r2]; rfl
    | cons y l =>
     show (k==0)=false
     rw [← r2]
     exact beq_eq_false_iff_ne.2 (by simp only [List.length_cons]; omega)
   ·subst ht
    refine tQ (na (aJ (bM w2 hnt)) (m:=[13,10]) rfl (by rw [ft]; show _+2≤_; omega)) (tW (by omega) (by omega) (kr ⟨⟨fun y hy => ?_,by dsimp only; rw [ft,List.length_singleton]; omega,?_,by dsimp only; omega,by dsimp only; omega⟩,by dsimp only; omega⟩))
    ·rcases List.mem_append.1 hy with hy | hy
     ·exact r1 y hy
     ·rw [List.mem_singleton.1 hy]; exact hr
    ·dsimp only
     rw [xV]
     unfold FY
     simp only [List.append_assoc]
  ·rintro ⟨l,s⟩ ⟨r1,r2,r3⟩
   dsimp only at r1 r2 r3 ⊢
   subst r3
   have hrb:=vG l quiet r1
   have hrl:=sx l quiet r1
   have hhb:=Cs hp
   have hst:=mz ls
   have hsc:∀ x∈ls.map kV++[[46]],dL x:=fun x hx=>by
    rcases List.mem_append.1 hx with hx | hx
    ·obtain ⟨y,hy,rfl⟩:=List.mem_map.1 hx
     exact zQ (lb y hy)
    ·rw [List.mem_singleton.1 hx]; decide
   have hDb:=rl hsc
   have hDl:(jn (ls.map kV++[[46]])).length≤4003:=by rw [el,mH]; show _+3≤_; omega
   have hhl:(tj from_).length≤230:=by unfold tj; simp only [ft]; show 8+2+(10+_+2)≤_; omega
   have w0:dL (tj from_++qu quiet l):=bM hhb hrb
   have l0:(tj from_++qu quiet l).length≤800:=by rw [ft]; omega
   have w1:dL (tj from_++qu quiet l++[68,65,84,65,13,10]):=bM w0 (by decide)
   have l1:(tj from_++qu quiet l++[68,65,84,65,13,10]).length≤806:=by rw [ft]; show _+6≤_; omega
   have w2:=bM w1 hDb
   have l2:(tj from_++qu quiet l++[68,65,84,65,13,10]++jn (ls.map kV++[[46]])).length≤4809:=by rw [ft]; omega
   have hstf:cR body=some (jn (ls.map kV++[[46]])):=by rw [lj]; exact wL lc (by rw [el]; omega)
   have hfeed:=Hz hi (n:=m) (by omega) hp hpl r1 (by omega) (by omega) lc lb (by omega) quiet
   have wb:dL (GR from_ quiet l ls):=bM w2 (by decide)
   refine tQ (na (aJ w0) (m:=[68,65,84,65,13,10]) rfl (by show _+6≤_; omega)) (tQ hstf (tQ (r:=aQ (jn (ls.map kV++[[46]]))) rfl (tQ (na (aJ w1) (aJ hDb) (by omega)) (tQ (na (aJ w2) (m:=[81,85,73,84,13,10]) rfl (by show _+6≤_; omega)) (tQ (r:=Gu) rfl (tQ (r:=JG) rfl (tQ (r:=GR from_ quiet l ls) (congrArg some (aJ wb)) (tQ hfeed ?_))))))))
   rw [← lj]
   obtain ⟨O,hO⟩:∃ O,O=IQ v m from_ l quiet body:=⟨_,rfl⟩
   have hpl2:([kg 250,kg 250]++List.replicate l.length (kg 250)).length=l.length+2:=by rw [ft,List.length_replicate]; show 2+_=_; omega
   have hOl:O.length=l.length+5:=by rw [hO]; unfold IQ; rw [ft,hpl2]; rfl
   have g2:bp O (l.length+2)=some (kg 354):=by rw [hO]; exact wm _ _ 0 _ (by rw [hpl2])
   have g3:bp O (l.length+3)=some (qe v m from_ l quiet body):=by rw [hO]; exact wm _ _ 1 _ (by rw [hpl2])
   have g4:bp O (l.length+4)=some (kg 221):=by rw [hO]; exact wm _ _ 2 _ (by rw [hpl2])
   rw [← hO]
   have x2:dw ((l.length:Int)+2) O.length=some (l.length+2):=gZ (i:=l.length+2) (by omega)
   have x3:dw ((l.length:Int)+3) O.length=some (l.length+3):=gZ (i:=l.length+3) (by omega)
   have x4:dw ((l.length:Int)+4) O.length=some (l.length+4):=gZ (i:=l.length+4) (by omega)
   refine pz (fun b=>b=false) (tN (fun h=>absurd rfl h) fun _=>tW (by omega) (by omega) (tN (fun h=>absurd (by show (O.length:Int)=_; omega) h) fun _=>tN (fun h=>absurd rfl h) fun _=>tW (by omega) (by omega) (tQ x2 (tQ g2 (tN (fun h=>absurd rfl h) fun _=>tW (by omega) (by omega) (tQ x4 (tQ g4 (kr rfl)))))))) fun b hb=>tC (fun h=>by rw [hb] at h; cases h) fun _=>tW (by omega) (by omega) (tQ x3 (tQ g3 ?_))
   have wk:Tt (au (S:=Bool) (A:=Bool) ((cV).bind fun v=>some (.inl v)) (fun (s:Bool)=>some s) some) DD:=pz DD (tQ wu (kr rfl)) fun b hb=>tS hb
   refine tD (fun h15 => ?_) fun h15 => ?_
   ·have hout:qe v m from_ l quiet body=ay.mk (kg 552).LZ false KX false:=by unfold qe; rw [if_pos (by omega)]
    rw [hout]
    exact pz DD (tE (fun _=>tC (fun _=>tQ wu (kr rfl)) fun h=>by cases h) fun h=>absurd rfl h) fun b hb=>tS hb
   ·have hout:qe v m from_ l quiet body=ay.mk (kg 250).LZ true (az.mk from_ l (qU v m++[13,10]++body) quiet hxS (m:Int)) false:=by unfold qe; rw [if_neg (by omega)]
    rw [hout]
    obtain ⟨c1,c2,c3⟩:=vV v (n:=m) (by omega)
    obtain ⟨cx,hc1,hc2⟩:∃ c,dw v 2=some c∧bp ([(⟨#[97]⟩:Mf),(⟨#[98]⟩:Mf)]:List Mf) c=some (dm v):=by
     rcases hi with rfl | rfl
     ·exact ⟨0,rfl,rfl⟩
     ·exact ⟨1,rfl,rfl⟩
    have hlb:(qU v m++[13,10]).length≤51:=by rw [ft]; show _+2≤_; omega
    have hB:(qU v m++[13,10]++body).length≤2051:=by rw [ft]; omega
    have hpln:eI (az.mk from_ l (qU v m++[13,10]++body) quiet hxS (m:Int))=some (az.mk from_ l (qU v m++[13,10]++body) false eB 0):=by
     unfold eI eF gV
     exact aK (aK (dJ (k:=40) (l:=[]) (m:=l) (by simp; omega) (by simp; omega)) rfl) (aK (aK (dJ (k:=1) (l:=[]) (m:=qU v m++[13,10]++body) (by rw [List.length_nil]; omega) (by rw [List.length_nil]; omega)) rfl) rfl)
    obtain ⟨bv,hbv⟩:=Dv (az.mk from_ l (qU v m++[13,10]++body) false eB 0) ⟨hp,hpl,by dsimp only; omega,by dsimp only; omega,fun p hp=>⟨(r1 p hp).k,(r1 p hp).n,(r1 p hp).sz⟩,⟨qU v m::ls,by rw [lj]; simp [jn],fun x hx=>(List.mem_cons.1 hx).elim (fun e=>e ▸ c1) (lc x),fun x hx=>(List.mem_cons.1 hx).elim (fun e=>e ▸ c2) (lb x),by show (qU v m).length+2+jM ls≤_; omega⟩,rfl,rfl,rfl⟩
    refine tQ (r:=Gu) rfl (tQ hc1 (tQ hc2 (tQ (zS hi (by omega)).2 (tQ (dJ (by omega) (by omega)) (tQ hpln (tQ hbv (tN (fun h=>absurd rfl h) fun _ => ?_)))))))
    exact pz DD (tE (fun _=>tC (fun _=>tB (IV (az.mk from_ l (qU v m++[13,10]++body) quiet hxS (m:Int)) (by dsimp only; omega) (by dsimp only; omega)) fun u hu=>tC (fun _=>tQ wu (kr rfl)) fun h=>by rw [show u=true from hu] at h; cases h) fun h=>by cases h) fun h=>absurd rfl h) fun b hb=>tS hb
 obtain ⟨r,hr,hy⟩:=key
 rw [hr,show r=true from hy]
end Go.Abs.Sh
