import Derived.Test.YtkgfjkfccpjcgaaDoorShkC
set_option linter.unusedVariables false
set_option linter.unusedSimpArgs false
set_option linter.unusedSectionVars false
namespace Go.Abs.Sh
set_option linter.unusedVariables false
set_option linter.unusedSimpArgs false
set_option maxRecDepth 10000
def nI (w:List Int):Prop:=w.length≤300∧∀ i,i<w.length→0≤w.getD i 0∧w.getD i 0≤1048576
theorem cJ {l:List Int} {i:Nat} (h:i<l.length):l[i]=l.getD i 0:=by simp [h]
theorem dp {l:List Int} {i:Nat} (h:i<l.length):aB l i=some (l.getD i 0):=by simp [aB,h]
theorem pI (w:List Int):(nI w→cw w=some true)∧(¬ nI w→cw w=some false):=by
 have main:w.length≤300→∀ b:Bool,(b=true↔∀ i,i<w.length→0≤w.getD i 0∧w.getD i 0≤1048576)→cw w=some b:=by
  intro hl b hb
  unfold cw
  refine ao (decide_eq_false (by omega)) ?_
  have hgo:∀ i,i<w.length→decide (0≤w.getD i 0∧w.getD i 0≤1048576)=true→_:=fun i hi hp=>hp
  cases b with
  | true =>
   have h:=hb.1 rfl
   refine aK (s:=()) ?_ rfl
   refine (nM (fun i=>decide (0≤w.getD i 0∧w.getD i 0≤1048576)) w.length false (by unfold bD; omega) ?_ ?_ ?_).trans (by rw [if_pos (fun i hi=>decide_eq_true (h i hi))])
   ·intro i hi hp
    have hp:=of_decide_eq_true hp
    exact am (by simp; omega) (ai (aA hi) (ai (dp hi) (aK (s:=false) (ao (decide_eq_false (by omega)) (by rw [decide_eq_false (by omega)])) (ao rfl (ai (x:=((i+1:Nat):Int)) (by rw [aI (by omega)]) rfl)))))
   ·intro i hi hp
    exact absurd (h i hi) (of_decide_eq_false hp)
   ·exact ao (by simp) rfl
  | false =>
   refine oy (a:=false) ?_ rfl
   refine (nM (fun i=>decide (0≤w.getD i 0∧w.getD i 0≤1048576)) w.length false (by unfold bD; omega) ?_ ?_ ?_).trans (by rw [if_neg (fun h=>by have:=hb.2 (fun i hi=>of_decide_eq_true (h i hi)); cases this)])
   ·intro i hi hp
    have hp:=of_decide_eq_true hp
    exact am (by simp; omega) (ai (aA hi) (ai (dp hi) (aK (s:=false) (ao (decide_eq_false (by omega)) (by rw [decide_eq_false (by omega)])) (ao rfl (ai (x:=((i+1:Nat):Int)) (by rw [aI (by omega)]) rfl)))))
   ·intro i hi hp
    have hp:=of_decide_eq_false hp
    refine am (by simp; omega) (ai (aA hi) (ai (dp hi) (aK (s:=true) ?_ (am rfl rfl))))
    by_cases h0:w.getD i 0<0
    ·exact am (decide_eq_true h0) rfl
    ·exact ao (decide_eq_false h0) (by rw [decide_eq_true (by omega)])
   ·exact ao (by simp) rfl
 by_cases hl:w.length≤300
 ·exact ⟨fun h=>main hl true ⟨fun _=>h.2,fun _=>rfl⟩,fun h=>main hl false ⟨fun e=>(by cases e),fun e=>absurd ⟨hl,e⟩ h⟩⟩
 ·refine ⟨fun h=>absurd h.1 hl,fun _ => ?_⟩
  unfold cw
  exact am (decide_eq_true (by omega)) rfl
def ff (w:List Int):Nat→List Int
 | 0=>[]
 | n+1=>if 0<w.getD n 0 then ff w n++[(n:Int)] else ff w n
def pos (w:List Int):List Int:=ff w w.length
theorem ks (w:List Int):∀ n,(ff w n).length≤n
 | 0=>Nat.le_refl _
 | n+1=>by
  have:=ks w n
  rw [ff]
  split
  ·simp; omega
  ·omega
theorem gQ (w:List Int):∀ n x,x∈ff w n→0≤x∧x<(n:Int)∧0<w.getD x.toNat 0
 | 0,x,h=>by cases h
 | n+1,x,h=>by
  rw [ff] at h
  split at h
  ·rename_i hp
   rcases List.mem_append.1 h with h | h
   ·have:=gQ w n x h; omega
   ·obtain rfl:=List.mem_singleton.1 h
    refine ⟨by omega,by omega,by simpa using hp⟩
  ·have:=gQ w n x h; omega
theorem jA (w:List Int):∀ n i,i<n→0<w.getD i 0→(i:Int)∈ff w n
 | 0,i,h,_=>by omega
 | n+1,i,h,hp=>by
  rw [ff]
  by_cases e:i=n
  ·subst e; rw [if_pos hp]; simp
  ·have:=jA w n i (by omega) hp
   split
   ·exact List.mem_append_left _ this
   ·exact this
theorem jB (w:List Int):∀ n,(ff w n).Pairwise (· < ·)
 | 0=>List.Pairwise.nil
 | n+1=>by
  rw [ff]
  split
  ·refine List.pairwise_append.2 ⟨jB w n,by simp,fun a ha b hb => ?_⟩
   obtain rfl:=List.mem_singleton.1 hb
   exact (gQ w n a ha).2.1
  ·exact jB w n
theorem qc (w:List Int) (hl:w.length≤300):fk w=some (pos w):=by
 unfold fk
 refine aK (s:=pos w) ?_ rfl
 refine bX (fun i=>(ff w i,(i:Int))) w.length bD rfl (by unfold bD; omega) (fun i hi => ?_) (ao (by simp) rfl)
 refine am (by simp; omega) ?_
 by_cases hp:0<w.getD i 0
 ·have:=ks w i
  exact aK (s:=ff w (i+1)) (ai (aA hi) (ai (dp hi) (am (decide_eq_true hp) (ai (ev (by simp; omega) (by simp; omega)) (by rw [ff,if_pos hp]))))) (ai (x:=((i+1:Nat):Int)) (by rw [aI (by omega)]) rfl)
 ·exact aK (s:=ff w (i+1)) (ai (aA hi) (ai (dp hi) (ao (decide_eq_false hp) (by rw [ff,if_neg hp])))) (ai (x:=((i+1:Nat):Int)) (by rw [aI (by omega)]) rfl)
def qn (w:List Int) (limit:Int):Prop:=(if (pos w).length≤19 then 5 else 9)≤limit∧limit≤15
theorem te (w:List Int) (limit:Int) (hl:w.length≤300):(qn w limit→dI w limit=some true)∧(¬ qn w limit→dI w limit=some false):=by
 have hb:∀ b:Bool,(b=true↔qn w limit)→dI w limit=some b:=by
  intro b hb
  unfold dI
  refine aK (s:=if (pos w).length≤19 then 5 else 9) (ai (qc w hl) ?_) ?_
  ·by_cases h:(pos w).length≤19
   ·exact am (decide_eq_true (by omega)) (by rw [if_pos h])
   ·exact ao (decide_eq_false (by omega)) (by rw [if_neg h])
  ·refine aK (s:=b) ?_ rfl
   unfold qn at hb
   by_cases h1:(if (pos w).length≤19 then 5 else 9)≤limit
   ·refine am (decide_eq_true h1) ?_
    congr 2
    cases b with
    | true=>exact decide_eq_true (hb.1 rfl).2
    | false=>exact decide_eq_false fun h=>by have:=hb.2 ⟨h1,h⟩; cases this
   ·refine ao (decide_eq_false h1) ?_
    cases b with
    | true=>exact absurd (hb.1 rfl).1 h1
    | false=>rfl
 exact ⟨fun h=>hb true ⟨fun _=>h,fun _=>rfl⟩,fun h=>hb false ⟨fun e=>(by cases e),fun e=>absurd e h⟩⟩
abbrev zw (W P:List Int):List ah:=List.zipWith ah.mk W P
theorem kK {W P:List Int} (h:W.length=P.length):(zw W P).length=W.length:=by simp [zw,h]
theorem nj {W P:List Int} (h:W.length=P.length) {k:Nat} (hk:k<W.length):aB (zw W P) k=some ⟨W.getD k 0,P.getD k 0⟩:=by
 simp [aB,zw,List.getElem?_zipWith,hk,show k<P.length by omega]
theorem DX {W P:List Int} (h:W.length=P.length) {k:Nat} (hk:k<W.length) (x:Int):(zw W P).set k ⟨W.getD k 0,x⟩=zw W (P.set k x):=by
 apply List.ext_getElem?
 intro j
 simp only [zw,List.getElem?_set,List.getElem?_zipWith,List.length_zipWith]
 by_cases e:k=j
 ·subst e
  simp [hk,show k<P.length by omega]
  omega
 ·simp [e]
theorem Dk {W P:List Int} (h:W.length=P.length) (x y:Int):zw W P++[⟨x,y⟩]=zw (W++[x]) (P++[y]):=by
 simp [zw,List.zipWith_append h]
structure MS where
 W:List Int
 P:List Int
 lf:Nat
 mg:Nat
 C:List Nat
def lp (n:Nat) (W:List Int) (lf mg:Nat):Nat×Nat×Nat:=if lf<n∧(mg=W.length∨W.getD lf 0≤W.getD mg 0) then (lf,lf+1,mg) else (mg,lf,mg+1)
def lR (n:Nat) (s:MS):MS :=
 let a:=lp n s.W s.lf s.mg
 let b:=lp n s.W a.2.1 a.2.2
 ⟨s.W++[s.W.getD a.1 0+s.W.getD b.1 0],(s.P.set a.1 (s.W.length:Int)).set b.1 (s.W.length:Int)++[0],b.2.1,b.2.2,s.C++[a.1,b.1]⟩
def du (W0:List Int):Nat→MS
 | 0=>⟨W0,List.replicate W0.length 0,0,W0.length,[]⟩
 | i+1=>lR W0.length (du W0 i)
structure HF (n:Nat) (W:List Int) (lf mg:Nat) (r:Nat×Nat×Nat):Prop where
 way:(r.1=lf∧r.2.1=lf+1∧r.2.2=mg∧lf<n)∨(r.1=mg∧r.2.1=lf∧r.2.2=mg+1∧mg<W.length)
 min:∀ u,(lf≤u∧u<n)∨(mg≤u∧u<W.length)→W.getD r.1 0≤W.getD u 0
theorem kh {n:Nat} {W:List Int} {lf mg:Nat} (hl:lf≤n) (hm:mg≤W.length) (h:lf<n∨mg<W.length) (hs:∀ p q,p≤q→q<n→W.getD p 0≤W.getD q 0) (ho:∀ p q,mg≤p→p≤q→q<W.length→W.getD p 0≤W.getD q 0):HF n W lf mg (lp n W lf mg):=by
 unfold lp
 split
 ·rename_i hc
  refine ⟨.inl ⟨rfl,rfl,rfl,hc.1⟩,fun u hu => ?_⟩
  rcases hu with hu | hu
  ·exact hs _ _ hu.1 hu.2
  ·rcases hc.2 with h1 | h1
   ·omega
   ·exact Int.le_trans h1 (ho _ _ (Nat.le_refl _) hu.1 hu.2)
 ·rename_i hc
  have hmg:mg<W.length:=by
   rcases h with h | h
   ·rcases Nat.lt_or_ge mg W.length with h1 | h1
    ·exact h1
    ·exact absurd ⟨h,.inl (by omega)⟩ hc
   ·exact h
  refine ⟨.inr ⟨rfl,rfl,rfl,hmg⟩,fun u hu => ?_⟩
  rcases hu with hu | hu
  ·have h1:¬ (W.getD lf 0≤W.getD mg 0):=fun h1=>hc ⟨by omega,.inr h1⟩
   have h2:=hs lf u hu.1 hu.2
   simp only
   omega
  ·exact ho _ _ (Nat.le_refl _) hu.1 hu.2
def left (n:Nat) (W:List Int) (lf mg:Nat):Int:=((W.take n).drop lf).sum+(W.drop mg).sum
theorem tj {n:Nat} {W:List Int} {lf mg:Nat} {r:Nat×Nat×Nat} (hn:n≤W.length) (h:HF n W lf mg r):left n W lf mg=W.getD r.1 0+left n W r.2.1 r.2.2:=by
 unfold left
 rcases h.way with ⟨h1,h2,h3,h4⟩ | ⟨h1,h2,h3,h4⟩
 ·rw [h1,h2,h3,List.drop_eq_getElem_cons (show lf<(W.take n).length by simp; omega),List.sum_cons]
  simp [show lf<W.length by omega]
  omega
 ·rw [h1,h2,h3,List.drop_eq_getElem_cons h4,List.sum_cons]
  simp [h4]
  omega
theorem Dc {n:Nat} {W:List Int} {lf mg:Nat} (x:Int) (hn:n≤W.length) (hm:mg≤W.length):left n (W++[x]) lf mg=left n W lf mg+x:=by
 unfold left
 rw [List.take_append_of_le_length hn,List.drop_append_of_le_length hm,List.sum_append]
 simp
 omega
theorem yh {l:List Int} (h:∀ x∈l,0≤x):0≤l.sum:=by
 induction l with
 | nil=>simp
 | cons x l ih =>
  rw [List.sum_cons]
  have:=h x (by simp)
  have:=ih fun y hy=>h y (by simp [hy])
  omega
theorem jo {l m:List Int} {k:Nat} (h:k<l.length):(l++m).getD k 0=l.getD k 0:=by
 simp only [List.getD_eq_getElem?_getD,List.getElem?_append_left h]
theorem qD {l:List Int} {x:Int}:(l++[x]).getD l.length 0=x:=by simp
theorem nE {l m:List Nat} {k:Nat} (h:k<l.length):(l++m).getD k 0=l.getD k 0:=by
 simp only [List.getD_eq_getElem?_getD,List.getElem?_append_left h]
structure xm (W0:List Int) (i:Nat) (s:MS):Prop where
 wl:s.W.length=W0.length+i
 pl:s.P.length=W0.length+i
 lf:s.lf≤W0.length
 mg1:W0.length≤s.mg
 mg2:s.mg≤W0.length+(i-1)
 cnt:s.lf+s.mg=2 * i+W0.length
 cl:s.C.length=2 * i
 par:∀ j,j<2 * i→s.P.getD (s.C.getD j 0) 0=((W0.length+j / 2:Nat):Int)
 clt:∀ j,j<2 * i→s.C.getD j 0<W0.length+j / 2
 mem:∀ k,k∈s.C↔k<s.lf∨(W0.length≤k∧k<s.mg)
 nd:s.C.Nodup
 leaf:∀ k,k<W0.length→s.W.getD k 0=W0.getD k 0
 new:∀ q,q<i→s.W.getD (W0.length+q) 0=s.W.getD (s.C.getD (2 * q) 0) 0+s.W.getD (s.C.getD (2 * q+1) 0) 0
 asc:∀ j j',j≤j'→j'<2 * i→s.W.getD (s.C.getD j 0) 0≤s.W.getD (s.C.getD j' 0) 0
 low:∀ j u,j<2 * i→(s.lf≤u∧u<W0.length)∨(s.mg≤u∧u<W0.length+i)→s.W.getD (s.C.getD j 0) 0≤s.W.getD u 0
 mono:∀ p q,W0.length≤p→p≤q→q<W0.length+i→s.W.getD p 0≤s.W.getD q 0
 pos:∀ k,k<W0.length+i→1≤s.W.getD k 0
 tot:left W0.length s.W s.lf s.mg=W0.sum
 le:∀ k,k<W0.length+i→s.W.getD k 0≤W0.sum
theorem Ib {l:List Int} (h:∀ x∈l,0≤x) {x:Int} (hx:x∈l):x≤l.sum:=by
 induction l with
 | nil=>cases hx
 | cons y l ih =>
  rw [List.sum_cons]
  have h1:=h y (by simp)
  have h2:=yh (l:=l) fun z hz=>h z (by simp [hz])
  rcases List.mem_cons.1 hx with rfl | hx
  ·omega
  ·have:=ih (fun z hz=>h z (by simp [hz])) hx; omega
theorem fW {l:List Int} {x:Int} (h:x∈l):∃ k,k<l.length∧x=l.getD k 0:=by
 obtain ⟨k,hk,rfl⟩:=List.getElem_of_mem h
 exact ⟨k,hk,cJ hk⟩
theorem DC {W0:List Int} (hp:∀ k,k<W0.length→1≤W0.getD k 0):xm W0 0 (du W0 0) where
 wl:=rfl
 pl:=by simp [du]
 lf:=Nat.zero_le _
 mg1:=Nat.le_refl _
 mg2:=Nat.le_refl _
 cnt:=by simp [du]
 cl:=rfl
 par:=fun j h=>by omega
 clt:=fun j h=>by omega
 mem:=fun k=>by simp [du]
 nd:=List.nodup_nil
 leaf:=fun _ _=>rfl
 new:=fun q h=>by omega
 asc:=fun j j' _ h=>by omega
 low:=fun j u h=>by omega
 mono:=fun p q h1 h2 h3=>by omega
 pos:=fun k h=>hp k h
 tot:=by simp [left,du]
 le:=fun k h=>by
  refine Ib (fun x hx => ?_) (x:=W0.getD k 0) ?_
  ·obtain ⟨j,hj,rfl⟩:=fW hx
   have:=hp j hj; omega
  ·have h:k<W0.length:=h
   rw [← cJ h]; exact List.getElem_mem _
theorem getD_set_ne {l:List Int} {a k:Nat} {x:Int} (h:a≠k):(l.set a x).getD k 0=l.getD k 0:=by
 simp [List.getD_eq_getElem?_getD,List.getElem?_set,h]
theorem eU {l:List Int} {a:Nat} {x:Int} (h:a<l.length):(l.set a x).getD a 0=x:=by
 simp [List.getD_eq_getElem?_getD,h]
theorem rD {C:List Nat} {a b m:Nat} (hc:C.length=m):(C++[a,b]).getD m 0=a∧(C++[a,b]).getD (m+1) 0=b:=by
 subst hc
 simp [List.getD_eq_getElem?_getD,List.getElem?_append_right]
theorem GN {C:List Nat} {j:Nat} (h:j<C.length):C.getD j 0∈C:=by
 simp [List.getD_eq_getElem?_getD,h]
theorem Et {W0:List Int} {i:Nat} {s:MS} (hs:∀ p q,p≤q→q<W0.length→W0.getD p 0≤W0.getD q 0) (hi:i+1<W0.length) (v:xm W0 i s):xm W0 (i+1) (lR W0.length s):=by
 obtain ⟨wl,pl,lf,mg1,mg2,cnt,cl,par,clt,mem,nd,leaf,new,asc,low,mono,pos,tot,le⟩:=v
 have hsW:∀ p q,p≤q→q<W0.length→s.W.getD p 0≤s.W.getD q 0:=fun p q h1 h2=>by rw [leaf p (by omega),leaf q h2]; exact hs p q h1 h2
 have hmW:∀ p q,s.mg≤p→p≤q→q<s.W.length→s.W.getD p 0≤s.W.getD q 0:=fun p q h1 h2 h3=>mono p q (by omega) h2 (by omega)
 obtain ⟨a,l1,m1,ea⟩:∃ a l1 m1,lp W0.length s.W s.lf s.mg=(a,l1,m1):=⟨_,_,_,rfl⟩
 have pa:=kh (n:=W0.length) (W:=s.W) lf (show s.mg≤s.W.length by omega) (by omega) hsW hmW
 rw [ea] at pa
 have wa:=pa.way
 simp only at wa
 obtain ⟨b,l2,m2,eb⟩:∃ b l2 m2,lp W0.length s.W l1 m1=(b,l2,m2):=⟨_,_,_,rfl⟩
 have pb:=kh (n:=W0.length) (W:=s.W) (lf:=l1) (mg:=m1) (by omega) (by omega) (by omega) hsW (fun p q h1 h2 h3=>hmW p q (by omega) h2 h3)
 rw [eb] at pb
 have wb:=pb.way
 simp only at wb
 have hst:lR W0.length s=⟨s.W++[s.W.getD a 0+s.W.getD b 0],(s.P.set a (s.W.length:Int)).set b (s.W.length:Int)++[0],l2,m2,s.C++[a,b]⟩:=by
  unfold lR
  rw [ea]
  simp only
  rw [eb]
 have haL:a<W0.length+i:=by omega
 have hbL:b<W0.length+i:=by omega
 have hab:a≠b:=by omega
 have ha1:s.W.getD a 0≤s.W.getD b 0:=pa.min b (by omega)
 have haU:∀ j,j<2 * i→s.W.getD (s.C.getD j 0) 0≤s.W.getD a 0:=fun j hj=>low j a hj (by omega)
 have hbU:∀ j,j<2 * i→s.W.getD (s.C.getD j 0) 0≤s.W.getD b 0:=fun j hj=>low j b hj (by omega)
 have hpa:=pos a haL
 have hpb:=pos b hbL
 have hCa:∀ j,j<2 * i→s.C.getD j 0≠a:=fun j hj e=>by
  have:=(mem (s.C.getD j 0)).1 (GN (by omega)); omega
 have hCb:∀ j,j<2 * i→s.C.getD j 0≠b:=fun j hj e=>by
  have:=(mem (s.C.getD j 0)).1 (GN (by omega)); omega
 have hCl:∀ j,j<2 * i→s.C.getD j 0<W0.length+i:=fun j hj=>by have:=clt j hj; omega
 have gW:∀ k,k<W0.length+i→(s.W++[s.W.getD a 0+s.W.getD b 0]).getD k 0=s.W.getD k 0:=fun k hk=>jo (by omega)
 have gWn:(s.W++[s.W.getD a 0+s.W.getD b 0]).getD (W0.length+i) 0=s.W.getD a 0+s.W.getD b 0:=by rw [← wl]; exact qD
 have gC:∀ j,j<2 * i→(s.C++[a,b]).getD j 0=s.C.getD j 0:=fun j hj=>nE (by omega)
 have gC2:=rD (C:=s.C) (a:=a) (b:=b) cl
 have hlast:∀ q,q<i→s.W.getD (W0.length+q) 0≤s.W.getD a 0+s.W.getD b 0:=fun q hq=>by
  have h1:=new q hq
  have h2:=haU (2 * q) (by omega)
  have h3:=hbU (2 * q+1) (by omega)
  omega
 have htA:=tj (n:=W0.length) (W:=s.W) (by omega) pa
 have htB:=tj (n:=W0.length) (W:=s.W) (by omega) pb
 simp only at htA htB
 have hnn:0≤left W0.length s.W l2 m2:=by
  unfold left
  have h1:0≤((s.W.take W0.length).drop l2).sum:=yh fun x hx=>by
   obtain ⟨k,hk,rfl⟩:=fW (List.mem_of_mem_take (List.mem_of_mem_drop hx))
   have:=pos k (by omega); omega
  have h2:0≤(s.W.drop m2).sum:=yh fun x hx=>by
   obtain ⟨k,hk,rfl⟩:=fW (List.mem_of_mem_drop hx)
   have:=pos k (by omega); omega
  omega
 rw [hst]
 refine ⟨by simp; omega,by simp; omega,by simp only; omega,by simp only; omega,by simp only; omega,by simp only; omega,by simp; omega,?_,?_,?_,?_,?_,?_,?_,?_,?_,?_,?_,?_⟩
 ·intro j hj
  simp only
  by_cases h1:j<2 * i
  ·have h2:=hCl j h1
   rw [gC j h1,jo (by simp only [List.length_set]; omega),getD_set_ne (Ne.symm (hCb j h1)),getD_set_ne (Ne.symm (hCa j h1))]
   exact par j h1
  ·by_cases h2:j=2 * i
   ·subst h2
    rw [gC2.1,jo (by simp only [List.length_set]; omega),getD_set_ne (Ne.symm hab),eU (by omega)]
    omega
   ·obtain rfl:j=2 * i+1:=by omega
    rw [gC2.2,jo (by simp only [List.length_set]; omega),eU (by simp; omega)]
    omega
 ·intro j hj
  simp only
  by_cases h1:j<2 * i
  ·rw [gC j h1]; exact clt j h1
  ·by_cases h2:j=2 * i
   ·subst h2; rw [gC2.1]; omega
   ·obtain rfl:j=2 * i+1:=by omega
    rw [gC2.2]; omega
 ·intro k
  simp only [List.mem_append,List.mem_cons,List.not_mem_nil,or_false]
  rw [mem k]
  omega
 ·simp only
  rw [List.nodup_append]
  refine ⟨nd,by simp [hab],fun x hx y hy => ?_⟩
  have h1:=(mem x).1 hx
  simp only [List.mem_cons,List.not_mem_nil,or_false] at hy
  omega
 ·intro k hk
  simp only
  rw [gW k (by omega)]; exact leaf k hk
 ·intro q hq
  simp only
  by_cases h1:q<i
  ·rw [gW _ (by omega),gC _ (by omega),gC _ (by omega),gW _ (hCl _ (by omega)),gW _ (hCl _ (by omega))]
   exact new q h1
  ·obtain rfl:q=i:=by omega
   rw [gWn,gC2.1,gC2.2,gW _ haL,gW _ hbL]
 ·intro j j' hjj hj'
  simp only
  by_cases h1:j'<2 * i
  ·rw [gC _ (by omega),gC _ h1,gW _ (hCl _ (by omega)),gW _ (hCl _ h1)]
   exact asc j j' hjj h1
  ·by_cases h2:j'=2 * i
   ·subst h2
    rw [gC2.1,gW _ haL]
    by_cases h3:j<2 * i
    ·rw [gC _ h3,gW _ (hCl _ h3)]; exact haU j h3
    ·obtain rfl:j=2 * i:=by omega
     rw [gC2.1,gW _ haL]; exact Int.le_refl _
   ·obtain rfl:j'=2 * i+1:=by omega
    rw [gC2.2,gW _ hbL]
    by_cases h3:j<2 * i
    ·rw [gC _ h3,gW _ (hCl _ h3)]; exact hbU j h3
    ·by_cases h4:j=2 * i
     ·subst h4; rw [gC2.1,gW _ haL]; exact ha1
     ·obtain rfl:j=2 * i+1:=by omega
      rw [gC2.2,gW _ hbL]; exact Int.le_refl _
 ·intro j u hj hu
  simp only at hu ⊢
  have hmax:∀ j,j<2 * (i+1)→(s.W++[s.W.getD a 0+s.W.getD b 0]).getD ((s.C++[a,b]).getD j 0) 0≤s.W.getD b 0:=by
   intro j hj
   by_cases h1:j<2 * i
   ·rw [gC _ h1,gW _ (hCl _ h1)]; exact hbU j h1
   ·by_cases h2:j=2 * i
    ·subst h2; rw [gC2.1,gW _ haL]; exact ha1
    ·obtain rfl:j=2 * i+1:=by omega
     rw [gC2.2,gW _ hbL]; exact Int.le_refl _
  refine Int.le_trans (hmax j hj) ?_
  by_cases h1:u=W0.length+i
  ·subst h1; rw [gWn]; omega
  ·rw [gW u (by omega)]
   exact pb.min u (by omega)
 ·intro p q h1 h2 h3
  simp only
  by_cases h4:q<W0.length+i
  ·rw [gW p (by omega),gW q h4]; exact mono p q h1 h2 h4
  ·obtain rfl:q=W0.length+i:=by omega
   rw [gWn]
   by_cases h5:p=W0.length+i
   ·subst h5; rw [gWn]; exact Int.le_refl _
   ·rw [gW p (by omega)]
    have:=hlast (p-W0.length) (by omega)
    rw [show W0.length+(p-W0.length)=p by omega] at this
    exact this
 ·intro k hk
  simp only
  by_cases h1:k<W0.length+i
  ·rw [gW k h1]; exact pos k h1
  ·obtain rfl:k=W0.length+i:=by omega
   rw [gWn]; omega
 ·simp only
  rw [Dc _ (by omega) (by omega)]
  omega
 ·intro k hk
  simp only
  by_cases h1:k<W0.length+i
  ·rw [gW k h1]; exact le k h1
  ·obtain rfl:k=W0.length+i:=by omega
   rw [gWn]; omega
theorem iw {W0:List Int} (hs:∀ p q,p≤q→q<W0.length→W0.getD p 0≤W0.getD q 0) (hp:∀ k,k<W0.length→1≤W0.getD k 0):∀ i,i<W0.length∨i=0→xm W0 i (du W0 i)
 | 0,_=>DC hp
 | i+1,h=>Et hs (by omega) (iw hs hp i (by omega))
theorem tw {n:Nat} (h:n<4611686018427387904):IntKind.i64.wrap (((n+1:Nat):Int)-1)=(n:Int):=by rw [wrap_i64 (by omega) (by omega)]; omega
theorem Cz {W P:List Int} (h:W.length=P.length) {n lf mg:Nat} (hn:n≤W.length) (hl:lf≤n) (hm:mg≤W.length) (h0:lf<n∨mg<W.length) (hb:W.length≤1000000) :
  dX (lf:Int) (n:Int) (mg:Int) (zw W P)=some (((lp n W lf mg).1:Int),((lp n W lf mg).2.1:Int),(n:Int),((lp n W lf mg).2.2:Int),zw W P):=by
 have hz:=kK h
 have fin:∀ c:Bool,(c=true↔(lf<n∧(mg=W.length∨W.getD lf 0≤W.getD mg 0))) →
   cond c ((some (IntKind.i64.wrap ((lf:Int)+1))).bind fun v10=>(some (IntKind.i64.wrap (v10-1))).bind fun v11=>some ((v11,v10,(n:Int),(mg:Int),zw W P)))
    ((some (IntKind.i64.wrap ((mg:Int)+1))).bind fun v12=>(some (IntKind.i64.wrap (v12-1))).bind fun v13=>some ((v13,(lf:Int),(n:Int),v12,zw W P)))=some (((lp n W lf mg).1:Int),((lp n W lf mg).2.1:Int),(n:Int),((lp n W lf mg).2.2:Int),zw W P):=by
  intro c hc
  unfold lp
  cases c with
  | true =>
   rw [if_pos (hc.1 rfl)]
   exact am rfl (ai (x:=((lf+1:Nat):Int)) (by rw [aI (by omega)]) (ai (x:=(lf:Int)) (by rw [tw (by omega)]) rfl))
  | false =>
   rw [if_neg fun e=>by have:=hc.2 e; cases this]
   exact ao rfl (ai (x:=((mg+1:Nat):Int)) (by rw [aI (by omega)]) (ai (x:=(mg:Int)) (by rw [tw (by omega)]) rfl))
 unfold dX
 by_cases h1:lf<n
 ·by_cases h2:mg=W.length
  ·exact aK (s:=true) (am (decide_eq_true (by omega)) (am (by rw [hz,h2]; simp) rfl)) (fin true ⟨fun _=>⟨h1,.inl h2⟩,fun _=>rfl⟩)
  ·refine aK (s:=decide (W.getD lf 0≤W.getD mg 0)) (am (decide_eq_true (by omega)) (ao (by rw [hz]; simp; omega) (ai (aA (by rw [hz]; omega)) (ai (nj h (by omega)) (ai (aA (by rw [hz]; omega)) (ai (nj h (by omega)) rfl)))))) (fin _ ⟨fun e=>⟨h1,.inr (of_decide_eq_true e)⟩,fun e=>decide_eq_true ?_⟩)
   rcases e.2 with e | e
   ·exact absurd e h2
   ·exact e
 ·exact aK (s:=false) (ao (decide_eq_false (by omega)) rfl) (fin false ⟨fun e=>(by cases e),fun e=>absurd e.1 h1⟩)
theorem Dh {W0:List Int} (hs:∀ p q,p≤q→q<W0.length→W0.getD p 0≤W0.getD q 0) (hp:∀ k,k<W0.length→1≤W0.getD k 0) (h2:2≤W0.length) (h3:W0.length≤300) (ht:W0.sum≤1099511627776) :
  jD (zw W0 (List.replicate W0.length 0))=some (zw (du W0 (W0.length-1)).W (du W0 (W0.length-1)).P):=by
 unfold jD
 have hzl:(zw W0 (List.replicate W0.length 0)).length=W0.length:=kK (by simp)
 refine aK (s:=zw (du W0 (W0.length-1)).W (du W0 (W0.length-1)).P) ?_ rfl
 refine bX (fun i=>(zw (du W0 i).W (du W0 i).P,(W0.length:Int),((du W0 i).lf:Int),((du W0 i).mg:Int))) (W0.length-1) bD ?_ (by unfold bD; omega) (fun i hi => ?_) ?_
 ·simp only [du]
  rw [hzl]
  rfl
 ·obtain ⟨v,v'⟩:xm W0 i (du W0 i)∧xm W0 (i+1) (du W0 (i+1)):=⟨iw hs hp i (by omega),iw hs hp (i+1) (by omega)⟩
  have hst:du W0 (i+1)=lR W0.length (du W0 i):=rfl
  generalize du W0 i=s at *
  generalize du W0 (i+1)=s' at *
  obtain ⟨wl,pl,lf,mg1,mg2,cnt,cl,par,clt,mem,nd,leaf,new,asc,low,mono,pos,tot,le⟩:=v
  have hWP:s.W.length=s.P.length:=by omega
  have hsW:∀ p q,p≤q→q<W0.length→s.W.getD p 0≤s.W.getD q 0:=fun p q h1 h2=>by rw [leaf p (by omega),leaf q h2]; exact hs p q h1 h2
  have hmW:∀ p q,s.mg≤p→p≤q→q<s.W.length→s.W.getD p 0≤s.W.getD q 0:=fun p q h1 h2 h3=>mono p q (by omega) h2 (by omega)
  have c1:=Cz (W:=s.W) (P:=s.P) hWP (n:=W0.length) (lf:=s.lf) (mg:=s.mg) (by omega) lf (by omega) (by omega) (by omega)
  obtain ⟨a,l1,m1,ea⟩:∃ a l1 m1,lp W0.length s.W s.lf s.mg=(a,l1,m1):=⟨_,_,_,rfl⟩
  have pa:=kh (n:=W0.length) (W:=s.W) lf (show s.mg≤s.W.length by omega) (by omega) hsW hmW
  rw [ea] at pa c1
  have wa:=pa.way
  simp only at wa c1
  have c2:=Cz (W:=s.W) (P:=s.P) hWP (n:=W0.length) (lf:=l1) (mg:=m1) (by omega) (by omega) (by omega) (by omega) (by omega)
  obtain ⟨b,l2,m2,eb⟩:∃ b l2 m2,lp W0.length s.W l1 m1=(b,l2,m2):=⟨_,_,_,rfl⟩
  have pb:=kh (n:=W0.length) (W:=s.W) (lf:=l1) (mg:=m1) (by omega) (by omega) (by omega) hsW (fun p q h1 h2 h3=>hmW p q (by omega) h2 h3)
  rw [eb] at pb c2
  have wb:=pb.way
  simp only at wb c2
  have hs':s'=⟨s.W++[s.W.getD a 0+s.W.getD b 0],(s.P.set a (s.W.length:Int)).set b (s.W.length:Int)++[0],l2,m2,s.C++[a,b]⟩:=by
   rw [hst]
   unfold lR
   rw [ea]
   simp only
   rw [eb]
  have haL:a<s.W.length:=by omega
  have hbL:b<s.W.length:=by omega
  have hsum:IntKind.i64.wrap (s.W.getD a 0+s.W.getD b 0)=s.W.getD a 0+s.W.getD b 0:=by
   have h4:=pos a (by omega)
   have h5:=pos b (by omega)
   have h6:=v'.le (W0.length+i) (by omega)
   have h7:=le a (by omega)
   have h8:=le b (by omega)
   exact wrap_i64 (by omega) (by omega)
  have hl1:(s.P.set a (s.W.length:Int)).length=s.W.length:=by simp; omega
  have hl2:((s.P.set a (s.W.length:Int)).set b (s.W.length:Int)).length=s.W.length:=by simp; omega
  have hz0:=kK hWP
  refine ai (x:=((2 * W0.length:Nat):Int)) (by rw [wrap_i64 (by omega) (by omega)]; simp) (ai (x:=((2 * W0.length-1:Nat):Int)) (by rw [wrap_i64 (by omega) (by omega)]; congr 1; omega) (am (decide_eq_true (by rw [hz0]; omega)) (ai c1 (ai c2 ?_))))
  refine ai (aA (by simp only; rw [hz0]; exact haL)) (ai (nj hWP haL) (ai (x:=zw s.W (s.P.set a (s.W.length:Int))) (by simp only; rw [hz0,DX hWP haL]) ?_))
  have hz1:=kK (W:=s.W) (P:=s.P.set a (s.W.length:Int)) hl1.symm
  refine ai (aA (by simp only; rw [hz0]; exact hbL)) (ai (nj hl1.symm hbL) (ai (x:=zw s.W ((s.P.set a (s.W.length:Int)).set b (s.W.length:Int))) (by simp only; rw [hz0,DX hl1.symm hbL]) ?_))
  have hz2:=kK (W:=s.W) (P:=(s.P.set a (s.W.length:Int)).set b (s.W.length:Int)) hl2.symm
  refine ai (aA (by rw [hz2]; exact haL)) (ai (nj hl2.symm haL) (ai (aA (by rw [hz2]; exact hbL)) (ai (nj hl2.symm hbL) (ai (x:=s.W.getD a 0+s.W.getD b 0) (by simp only; rw [hsum]) ?_))))
  refine ai (ev (by rw [hz2]; simp; omega) (by rw [hz2]; simp; omega)) ?_
  rw [hs',Dk hl2.symm]
 ·have v:=iw hs hp (W0.length-1) (by omega)
  have hz:=kK (W:=(du W0 (W0.length-1)).W) (P:=(du W0 (W0.length-1)).P) (by rw [v.wl,v.pl])
  exact ai (x:=((2 * W0.length:Nat):Int)) (by rw [wrap_i64 (by omega) (by omega)]; simp) (ai (x:=((2 * W0.length-1:Nat):Int)) (by rw [wrap_i64 (by omega) (by omega)]; congr 1; omega) (ao (decide_eq_false (by rw [hz,v.wl]; omega)) rfl))
def dst (P:List Int) (L:Nat):Nat→List Int
 | 0=>List.replicate L 0
 | j+1=>(dst P L j).set (L-2-j) ((dst P L j).getD (P.getD (L-2-j) 0).toNat 0+1)
theorem qo (P:List Int) (L:Nat):∀ j,(dst P L j).length=L
 | 0=>by simp [dst]
 | j+1=>by rw [dst,List.length_set]; exact qo P L j
def Li (P:List Int) (L:Nat):Prop:=∀ k,k+1<L→(k:Int)<P.getD k 0∧P.getD k 0<(L:Int)
theorem pF (P:List Int) (L:Nat):∀ j k,j+1≤L→L-1-j≤k→∀ j',j≤j'→j'+1≤L→(dst P L j').getD k 0=(dst P L j).getD k 0:=by
 intro j k h1 h2 j' h3 h4
 obtain ⟨d,rfl⟩:∃ d,j'=j+d:=⟨j'-j,by omega⟩
 induction d with
 | zero=>rfl
 | succ d ih =>
  rw [← Nat.add_assoc,dst,getD_set_ne (by omega)]
  exact ih (by omega) (by omega)
theorem Dy {P:List Int} {L:Nat} (hP:Li P L) (k:Nat) (hk:k+1<L):(dst P L (L-1)).getD k 0=(dst P L (L-1)).getD (P.getD k 0).toNat 0+1:=by
 have h:=hP k hk
 have h1:(dst P L (L-1)).getD k 0=(dst P L (L-1-k)).getD k 0:=pF P L (L-1-k) k (by omega) (by omega) (L-1) (by omega) (by omega)
 obtain ⟨j,hj⟩:∃ j,L-1-k=j+1:=⟨L-2-k,by omega⟩
 rw [h1,hj,dst,show L-2-j=k by omega,eU (by rw [qo]; omega)]
 rw [pF P L j (P.getD k 0).toNat (by omega) (by omega) (L-1) (by omega) (by omega)]
theorem uW (P:List Int) {L:Nat} (hL:0<L):(dst P L (L-1)).getD (L-1) 0=0:=by
 rw [pF P L 0 (L-1) (by omega) (by omega) (L-1) (by omega) (by omega)]
 simp only [dst,List.getD_eq_getElem?_getD,List.getElem?_replicate]
 split <;> rfl
theorem jj (P:List Int) (L:Nat):∀ j k,0≤(dst P L j).getD k 0∧(dst P L j).getD k 0≤(j:Int)
 | 0,k=>by
  simp only [dst,List.getD_eq_getElem?_getD,List.getElem?_replicate]
  split <;> simp
 | j+1,k=>by
  rw [dst]
  have ih:=jj P L j
  by_cases e:L-2-j=k
  ·subst e
   by_cases h:L-2-j<(dst P L j).length
   ·rw [eU h]
    have:=ih (P.getD (L-2-j) 0).toNat
    omega
   ·have:((dst P L j).set (L-2-j) ((dst P L j).getD (P.getD (L-2-j) 0).toNat 0+1)).getD (L-2-j) 0=0:=by
     simp only [List.getD_eq_getElem?_getD,List.getElem?_set]
     simp [h]
    omega
  ·rw [getD_set_ne e]
   have:=ih k
   omega
def place (z u D:List Int):Nat→List Int
 | 0=>z
 | i+1=>(place z u D i).set (u.getD i 0).toNat (D.getD i 0)
theorem ko (z u D:List Int):∀ i,(place z u D i).length=z.length
 | 0=>rfl
 | i+1=>by rw [place,List.length_set]; exact ko z u D i
def fO (w:List Int):List Int:=jv w (pos w)
def co (w:List Int):List Int:=(fO w).map fun x=>w.getD x.toNat 0
def dn (W0:List Int):List Int:=dst (du W0 (W0.length-1)).P (2 * W0.length-1) (2 * W0.length-2)
def fR (w:List Int):List Int :=
 if (pos w).length=0 then List.replicate w.length 0
 else if (pos w).length=1 then (List.replicate w.length 0).set ((pos w).getD 0 0).toNat 1
 else place (List.replicate w.length 0) (fO w) (dn (co w)) (fO w).length
theorem jk (w:List Int):(fO w).Perm (pos w):=jK w (pos w)
theorem gn (w:List Int):(fO w).length=(pos w).length:=(jk w).length_eq
theorem eX (w:List Int):(co w).length=(pos w).length:=by rw [co,List.length_map,gn]
theorem gN {w:List Int} {i:Nat} (h:i<(fO w).length):0≤(fO w).getD i 0∧(fO w).getD i 0<(w.length:Int)∧0<w.getD ((fO w).getD i 0).toNat 0:=by
 have h1:(fO w).getD i 0∈fO w:=by rw [← cJ h]; exact List.getElem_mem _
 have:=gQ w w.length _ ((jk w).mem_iff.1 h1)
 exact this
theorem kJ {w:List Int} {i:Nat} (h:i<(fO w).length):(co w).getD i 0=w.getD ((fO w).getD i 0).toNat 0:=by
 simp [co,List.getD_eq_getElem?_getD,h]
theorem oW {w:List Int} {i:Nat} (h:i<(co w).length):1≤(co w).getD i 0:=by
 rw [eX,← gn] at h
 rw [kJ h]
 have:=gN h
 omega
theorem nT {w:List Int}:∀ p q,p≤q→q<(co w).length→(co w).getD p 0≤(co w).getD q 0:=by
 intro p q h1 h2
 rw [eX,← gn] at h2
 rw [kJ (by omega),kJ h2]
 rcases Nat.lt_or_eq_of_le h1 with h3 | h3
 ·have h4:=(List.pairwise_iff_getElem.1 (mH w (pos w))) p q (by show p<(fO w).length; omega) h2 h3
  rw [mw] at h4
  have e1:(jv w (pos w))[p]'(by show p<(fO w).length; omega)=(fO w).getD p 0:=cJ (l:=fO w) (by omega)
  have e2:(jv w (pos w))[q]'h2=(fO w).getD q 0:=cJ (l:=fO w) h2
  rw [e1,e2] at h4
  omega
 ·subst h3; exact Int.le_refl _
theorem BK {l:List Int} {B:Int} (h:∀ x∈l,x≤B):l.sum≤B * (l.length:Int):=by
 induction l with
 | nil=>simp
 | cons x l ih =>
  have h1:=h x (by simp)
  have h2:=ih fun y hy=>h y (by simp [hy])
  rw [List.sum_cons,List.length_cons]
  have:B * ((l.length+1:Nat):Int)=B * (l.length:Int)+B:=by rw [Int.natCast_add,Int.mul_add]; simp
  omega
theorem It {w:List Int} (hw:nI w):∀ x∈co w,x≤1048576:=by
 intro x hx
 obtain ⟨k,hk,rfl⟩:=fW hx
 rw [eX,← gn] at hk
 rw [kJ hk]
 have h1:=gN hk
 have:=hw.2 ((fO w).getD k 0).toNat (by omega)
 omega
theorem kN (w:List Int):(pos w).length≤w.length:=ks w w.length
theorem yZ {w:List Int} (hw:nI w):(co w).sum≤314572800:=by
 have h1:=BK (It hw)
 have h2:=kN w
 have h3:=hw.1
 rw [eX] at h1
 omega
theorem Fy {w:List Int} (hw:nI w) (h0:0<(pos w).length):slices_SortStable w (pos w)=some (fO w):=by
 have h2:=kN w
 have h3:=hw.1
 have:pA w (pos w)=true:=by
  simp only [pA,Bool.and_eq_true,decide_eq_true_eq,List.all_eq_true]
  refine ⟨⟨⟨⟨⟨h0,by omega⟩,by omega⟩,fun x hx => ?_⟩,fun y hy => ?_⟩,?_⟩
  ·have:=gQ w w.length x hx; omega
  ·obtain ⟨k,hk,rfl⟩:=fW hy
   have:=hw.2 k hk; omega
  ·exact (jB w w.length).imp fun h=>Int.le_of_lt h
 unfold slices_SortStable
 rw [if_pos this]
 rfl
theorem oz {w:List Int} (h2:2≤(pos w).length):xm (co w) ((co w).length-1) (du (co w) ((co w).length-1)) :=
 iw nT (fun k hk=>oW hk) _ (by rw [eX]; omega)
theorem uC {W0:List Int} {s:MS} (h2:2≤W0.length) (v:xm W0 (W0.length-1) s):Li s.P (2 * W0.length-1):=by
 intro k hk
 have hm:k∈s.C:=(v.mem k).2 (by have:=v.cnt; have:=v.mg2; have:=v.lf; omega)
 obtain ⟨j,hj,rfl⟩:=List.getElem_of_mem hm
 have e:s.C[j]=s.C.getD j 0:=by simp [hj]
 rw [v.cl] at hj
 rw [e,v.par j hj]
 have:=v.clt j hj
 omega
theorem mZ {l:List Int} {i:Nat} (h:i<l.length):l.take (i+1)=l.take i++[l.getD i 0]:=by
 rw [List.take_add_one,List.getElem?_eq_getElem h,← cJ h]; rfl
theorem uv (i:Nat):List.replicate (i+1) (0:Int)=List.replicate i 0++[0]:=by
 rw [List.replicate_succ']
theorem tE {w:List Int} (hw:nI w):iJ w=some (fR w):=by
 have hl:=hw.1
 have hpl:=kN w
 unfold iJ
 refine ai (x:=List.replicate w.length (0:Int)) (by unfold pr; rw [if_pos (by omega)]; simp) (ai (qc w hl) ?_)
 by_cases h0:(pos w).length=0
 ·exact am (by simp [h0]) (by rw [fR,if_pos h0])
 refine ao (by simp; intro e; apply h0; rw [e]; rfl) ?_
 by_cases h1:(pos w).length=1
 ·have hm:(pos w).getD 0 0∈pos w:=by rw [← cJ (by omega)]; exact List.getElem_mem _
  have hx:=gQ w w.length _ hm
  refine am (by simp [h1]) (ai (aA (i:=0) (by omega)) (ai (dp (by omega)) (ai (x:=((pos w).getD 0 0).toNat) (by unfold bf; rw [if_pos (by simp only [List.length_replicate]; omega)]) (ai rfl ?_))))
  rw [fR,if_neg h0,if_pos h1]
 refine ao (by simp; omega) ?_
 have h2:2≤(pos w).length:=by omega
 have hsl:=gn w
 have hwl:=eX w
 have hWs:=yZ hw
 refine ai (Fy hw (by omega)) (ai (x:=((2 * (pos w).length:Nat):Int)) (by rw [hsl,wrap_i64 (by omega) (by omega)]; simp) (ai (x:=()) (by unfold EO; rw [if_pos (by omega)]) ?_))
 refine aK (s:=zw (co w) (List.replicate (co w).length 0)) ?_ ?_
 ·refine bX (fun i=>(zw ((co w).take i) (List.replicate i 0),(i:Int))) (fO w).length bD rfl (by unfold bD; omega) (fun i hi => ?_) (ao (by simp) ?_)
  ·have hx:=gN hi
   have hti:((co w).take i).length=i:=by rw [List.length_take]; omega
   refine am (by simp; omega) (ai (aA hi) (ai (dp hi) (ai (x:=((fO w).getD i 0).toNat) (by unfold bf; rw [if_pos (by omega)]) (ai (dp (by omega)) (ai (ev (by rw [kK (by simp; omega)]; simp; omega) (by rw [kK (by simp; omega)]; simp; omega)) (ai (x:=((i+1:Nat):Int)) (by rw [aI (by omega)]) ?_))))))
   rw [Dk (by simp; omega),mZ (by omega),uv,kJ hi]
  ·rw [hsl,← hwl,List.take_length]
 have hmg:=Dh (W0:=co w) nT (fun k hk=>oW hk) (by omega) (by omega) (by omega)
 refine ai hmg ?_
 have v:=oz h2
 have hP:=uC (by omega) v
 have hz:=kK (W:=(du (co w) ((co w).length-1)).W) (P:=(du (co w) ((co w).length-1)).P) (by rw [v.wl,v.pl])
 have hwL:=v.wl
 have hpL:=v.pl
 obtain ⟨L,hL⟩:∃ L,L=2 * (co w).length-1:=⟨_,rfl⟩
 have hzL:(zw (du (co w) ((co w).length-1)).W (du (co w) ((co w).length-1)).P).length=L:=by omega
 have hcd:fR w=place (List.replicate w.length 0) (fO w) (dst (du (co w) ((co w).length-1)).P L (L-1)) (fO w).length:=by
  rw [fR,if_neg h0,if_neg h1,dn,hL]
  rfl
 rw [hcd]
 rw [← hL] at hP
 generalize (du (co w) ((co w).length-1)).P=P at *
 generalize (du (co w) ((co w).length-1)).W=W at *
 refine ai (x:=List.replicate L (0:Int)) (by unfold pr; rw [hzL,if_pos (by omega)]; simp) (ai (x:=((L:Int)-2)) (by rw [hzL,wrap_i64 (by omega) (by omega)]) ?_)
 refine aK (s:=dst P L (L-1)) ?_ ?_
 ·refine bX (fun j=>(dst P L j,(L:Int)-2-(j:Int))) (L-1) bD (by simp [dst]) (by unfold bD; omega) (fun j hj => ?_) (ao (decide_eq_false (by omega)) rfl)
  have hk:=hP (L-2-j) (by omega)
  have hb:=jj P L j (P.getD (L-2-j) 0).toNat
  have hdl:=qo P L j
  have ek:(L:Int)-2-(j:Int)=((L-2-j:Nat):Int):=by omega
  simp only
  rw [ek]
  refine am (decide_eq_true (by omega)) (ai (aA (by rw [hzL]; omega)) (ai (nj (by omega) (by omega)) (ai (x:=(P.getD (L-2-j) 0).toNat) (by unfold bf; rw [if_pos (by rw [hdl]; simp only; omega)]) (ai (dp (by omega)) (ai (x:=(dst P L j).getD (P.getD (L-2-j) 0).toNat 0+1) (by rw [wrap_i64 (by omega) (by omega)]) (ai (aA (by omega)) (ai rfl (ai (x:=(L:Int)-2-((j+1:Nat):Int)) (by rw [wrap_i64 (by omega) (by omega)]; congr 1; omega) ?_))))))))
  rfl
 refine aK (s:=place (List.replicate w.length 0) (fO w) (dst P L (L-1)) (fO w).length) ?_ rfl
 have hdl:=qo P L (L-1)
 refine bX (fun i=>(place (List.replicate w.length 0) (fO w) (dst P L (L-1)) i,(i:Int))) (fO w).length bD rfl (by unfold bD; omega) (fun i hi => ?_) (ao (by simp) rfl)
 have hx:=gN hi
 have hpll:=ko (List.replicate w.length 0) (fO w) (dst P L (L-1)) i
 rw [List.length_replicate] at hpll
 exact am (by simp; omega) (ai (aA hi) (ai (dp hi) (ai (aA (by omega)) (ai (dp (by omega)) (ai (x:=((fO w).getD i 0).toNat) (by unfold bf; rw [if_pos (by omega)]) (ai rfl (ai (x:=((i+1:Nat):Int)) (by rw [aI (by omega)]) rfl)))))))
theorem xl {z u D:List Int} (hd:∀ a b,a<u.length→b<u.length→(u.getD a 0).toNat=(u.getD b 0).toNat→a=b) (hz:∀ a,a<u.length→(u.getD a 0).toNat<z.length):∀ i,i≤u.length→∀ k,k<i→(place z u D i).getD (u.getD k 0).toNat 0=D.getD k 0
 | 0,_,k,h=>by omega
 | i+1,hi,k,h=>by
  rw [place]
  by_cases e:k=i
  ·subst e; exact eU (by rw [ko]; exact hz k (by omega))
  ·rw [getD_set_ne (fun h2=>e (hd k i (by omega) (by omega) h2.symm))]
   exact xl hd hz i (by omega) k (by omega)
theorem pJ {z u D:List Int} {x:Nat}:∀ i,(∀ k,k<i→(u.getD k 0).toNat≠x)→(place z u D i).getD x 0=z.getD x 0
 | 0,_=>rfl
 | i+1,h=>by
  rw [place,getD_set_ne (h i (by omega))]
  exact pJ i fun k hk=>h k (by omega)
theorem qG {w:List Int} {a b:Nat} (ha:a<(fO w).length) (hb:b<(fO w).length) (h:((fO w).getD a 0).toNat=((fO w).getD b 0).toNat):a=b:=by
 have h1:=gN ha
 have h2:=gN hb
 have hn:(fO w).Nodup:=(jk w).nodup_iff.2 ((jB w w.length).imp fun h=>by omega)
 have e:(fO w)[a]=(fO w)[b]:=by rw [cJ ha,cJ hb]; omega
 have hp:=List.pairwise_iff_getElem.1 hn
 rcases Nat.lt_trichotomy a b with h3 | h3 | h3
 ·exact absurd e (hp a b ha hb h3)
 ·exact h3
 ·exact absurd e.symm (hp b a hb ha h3)
theorem jd (w:List Int):(fR w).length=w.length:=by
 unfold fR
 split
 ·simp
 ·split
  ·simp
  ·rw [ko]; simp
theorem jC (n k:Nat):(List.replicate n (0:Int)).getD k 0=0:=by
 simp only [List.getD_eq_getElem?_getD,List.getElem?_replicate]; split <;> rfl
theorem ov {w:List Int} (h2:2≤(pos w).length) {k:Nat} (hk:k<(pos w).length):(fR w).getD ((fO w).getD k 0).toNat 0=(dn (co w)).getD k 0:=by
 rw [fR,if_neg (by omega),if_neg (by omega)]
 refine xl (fun a b ha hb h=>qG ha hb h) (fun a ha => ?_) _ (Nat.le_refl _) k (by rw [gn]; exact hk)
 have:=gN ha
 simp only [List.length_replicate]; omega
theorem mc {w:List Int} {i:Nat} (h:¬ 0<w.getD i 0):(fR w).getD i 0=0:=by
 unfold fR
 split
 ·exact jC _ _
 ·split
  ·rename_i h1
   have hm:(pos w).getD 0 0∈pos w:=by rw [← cJ (by omega)]; exact List.getElem_mem _
   have:=gQ w w.length _ hm
   rw [getD_set_ne (fun e=>by rw [e] at this; omega)]
   exact jC _ _
  ·rw [pJ _ (fun k hk e=>by have:=gN hk; rw [e] at this; omega)]
   exact jC _ _
theorem qz {w:List Int} (h1:(pos w).length=1) {i:Nat} (hi:i<w.length) (h:0<w.getD i 0):(fR w).getD i 0=1:=by
 have hm:=jA w w.length i hi h
 have he:(pos w).getD 0 0=(i:Int):=by
  obtain ⟨x,hx⟩:=List.length_eq_one_iff.1 h1
  have hm:(i:Int)∈pos w:=hm
  rw [hx] at hm ⊢
  simp at hm
  simp [hm]
 rw [fR,if_neg (by omega),if_pos h1,he,Int.toNat_natCast,eU (by simp; omega)]
theorem sd {w:List Int} {i:Nat} (hi:i<w.length) (h:0<w.getD i 0):∃ k,k<(pos w).length∧(fO w).getD k 0=(i:Int):=by
 have hm:=(jk w).mem_iff.2 (jA w w.length i hi h)
 obtain ⟨k,hk,e⟩:=fW hm
 exact ⟨k,by rw [← gn]; exact hk,e.symm⟩
def hv (w:List Int):List Int:=w.map fun x=>(x+1) / 2
def gf (w:List Int):Nat→List Int
 | 0=>w
 | j+1=>hv (gf w j)
theorem qN (w:List Int):(hv w).length=w.length:=by simp [hv]
theorem wA (w:List Int) (i:Nat):(hv w).getD i 0=if i<w.length then (w.getD i 0+1) / 2 else 0:=by
 by_cases h:i<w.length
 ·simp [hv,List.getD_eq_getElem?_getD,h]
 ·simp [hv,List.getD_eq_getElem?_getD,h]
theorem rU {w v:List Int}:∀ n,(∀ i,i<n→(0<w.getD i 0↔0<v.getD i 0))→ff w n=ff v n
 | 0,_=>rfl
 | n+1,h=>by
  have ih:=rU n fun i hi=>h i (by omega)
  have h1:=h n (by omega)
  rw [ff,ff,ih]
  by_cases h2:0<w.getD n 0
  ·rw [if_pos h2,if_pos (h1.1 h2)]
  ·rw [if_neg h2,if_neg (fun e=>h2 (h1.2 e))]
theorem Io {w:List Int} (hw:nI w):pos (hv w)=pos w:=by
 unfold pos
 rw [qN]
 refine rU _ fun i hi => ?_
 rw [wA,if_pos hi]
 have:=hw.2 i hi
 omega
theorem IZ {w:List Int} (hw:nI w):nI (hv w):=by
 refine ⟨by rw [qN]; exact hw.1,fun i hi => ?_⟩
 rw [qN] at hi
 rw [wA,if_pos hi]
 have:=hw.2 i hi
 omega
theorem kO {w:List Int} (hw:nI w):∀ j,nI (gf w j)
 | 0=>hw
 | j+1=>IZ (kO hw j)
theorem gU (w:List Int):∀ j,(gf w j).length=w.length
 | 0=>rfl
 | j+1=>by rw [gf,qN]; exact gU w j
theorem zY {w:List Int} (hw:nI w):∀ j,pos (gf w j)=pos w
 | 0=>rfl
 | j+1=>by rw [gf,Io (kO hw j)]; exact zY hw j
theorem Ew {w:List Int} (hw:nI w):∀ j,j≤20→∀ i,i<w.length→(gf w j).getD i 0≤((2 ^ (20-j):Nat):Int)
 | 0,_,i,hi=>by have:=hw.2 i hi; simpa [gf] using this.2
 | j+1,hj,i,hi=>by
  have ih:=Ew hw j (by omega) i hi
  rw [gf,wA,if_pos (by rw [gU]; exact hi)]
  have e:2 ^ (20-j)=2 * 2 ^ (20-(j+1)):=by rw [show 20-j=(20-(j+1))+1 by omega,Nat.pow_succ]; omega
  rw [e] at ih
  omega
theorem wD {W0:List Int} (hs:∀ k,k<W0.length→W0.getD k 0=1):∀ i,i<W0.length∨i=0→(du W0 i).lf=min (2 * i) W0.length∧(du W0 i).mg=W0.length+(2 * i-W0.length)∧∀ j,j<2 * i→(du W0 i).C.getD j 0=j
 | 0,_=>⟨by simp [du],by simp [du],fun j h=>by omega⟩
 | i+1,h=>by
  have hs1:∀ p q,p≤q→q<W0.length→W0.getD p 0≤W0.getD q 0:=fun p q h1 h2=>by rw [hs p (by omega),hs q h2]; omega
  have v:=iw hs1 (fun k hk=>by rw [hs k hk]; omega) i (by omega)
  obtain ⟨e1,e2,e3⟩:=wD hs i (by omega)
  obtain ⟨s,hse⟩:∃ s,s=du W0 i:=⟨_,rfl⟩
  rw [← hse] at v e1 e2 e3
  have key:∀ lf mg,lf+mg=s.lf+s.mg∨lf+mg=s.lf+s.mg+1→lf=min (lf+mg-W0.length) W0.length→W0.length≤mg→(lp W0.length s.W lf mg).1=lf+mg-W0.length∧(lp W0.length s.W lf mg).2.1+(lp W0.length s.W lf mg).2.2=lf+mg+1∧(lp W0.length s.W lf mg).2.1=min (lf+mg+1-W0.length) W0.length∧W0.length≤(lp W0.length s.W lf mg).2.2:=by
   intro lf mg h1 h2 h3
   have h4:=v.cnt
   have h5:=v.wl
   unfold lp
   by_cases hc:lf<W0.length
   ·have hcond:lf<W0.length∧(mg=s.W.length∨s.W.getD lf 0≤s.W.getD mg 0):=by
     refine ⟨hc,?_⟩
     rcases Nat.lt_or_ge mg s.W.length with h6 | h6
     ·right
      rw [v.leaf lf hc,hs lf hc]
      exact v.pos mg (by omega)
     ·left
      have:=v.mg2
      omega
    rw [if_pos hcond]
    refine ⟨?_,?_,?_,?_⟩ <;> (try simp only) <;> omega
   ·rw [if_neg (fun e=>hc e.1)]
    refine ⟨?_,?_,?_,?_⟩ <;> (try simp only) <;> omega
  have k1:=key s.lf s.mg (.inl rfl) (by have:=v.cnt; omega) v.mg1
  have k2:=key (lp W0.length s.W s.lf s.mg).2.1 (lp W0.length s.W s.lf s.mg).2.2 (.inr (by omega)) (by rw [k1.2.2.1]; omega) k1.2.2.2
  have hcn:=v.cnt
  have hcl:=v.cl
  have g2:=rD (C:=s.C) (a:=(lp W0.length s.W s.lf s.mg).1) (b:=(lp W0.length s.W (lp W0.length s.W s.lf s.mg).2.1 (lp W0.length s.W s.lf s.mg).2.2).1) hcl
  rw [du,← hse]
  unfold lR
  simp only
  refine ⟨by omega,by omega,fun j hj => ?_⟩
  by_cases h1:j<2 * i
  ·rw [nE (by omega)]; exact e3 j h1
  ·by_cases h2:j=2 * i
   ·subst h2; rw [g2.1]; omega
   ·obtain rfl:j=2 * i+1:=by omega
    rw [g2.2]; omega
theorem Hp {W0:List Int} (hs:∀ k,k<W0.length→W0.getD k 0=1) (h2:2≤W0.length) (k:Nat) (hk:k<2 * W0.length-2):(du W0 (W0.length-1)).P.getD k 0=((W0.length+k / 2:Nat):Int):=by
 have hs1:∀ p q,p≤q→q<W0.length→W0.getD p 0≤W0.getD q 0:=fun p q h1 h2=>by rw [hs p (by omega),hs q h2]; omega
 have v:=iw hs1 (fun k hk=>by rw [hs k hk]; omega) (W0.length-1) (by omega)
 have e:=(wD hs (W0.length-1) (by omega)).2.2 k (by omega)
 have:=v.par k (by omega)
 rw [e] at this
 exact this
theorem xX {W0:List Int} (hs:∀ k,k<W0.length→W0.getD k 0=1) (h2:2≤W0.length):∀ t r:Nat,r+1<2 ^ (t+1)→r≤2 * W0.length-2→(dn W0).getD (2 * W0.length-2-r) 0≤(t:Int):=by
 have hs1:∀ p q,p≤q→q<W0.length→W0.getD p 0≤W0.getD q 0:=fun p q h1 h2=>by rw [hs p (by omega),hs q h2]; omega
 have v:=iw hs1 (fun k hk=>by rw [hs k hk]; omega) (W0.length-1) (by omega)
 have hP:=uC h2 v
 have hroot:(dn W0).getD (2 * W0.length-2) 0=0:=by
  have:=uW (du W0 (W0.length-1)).P (L:=2 * W0.length-1) (by omega)
  rw [show 2 * W0.length-1-1=2 * W0.length-2 by omega] at this
  exact this
 intro t
 induction t with
 | zero =>
  intro r h1 h3
  obtain rfl:r=0:=by omega
  rw [Nat.sub_zero,hroot]; exact Int.le_refl _
 | succ t ih =>
  intro r h1 h3
  by_cases h0:r=0
  ·subst h0; rw [Nat.sub_zero,hroot]; omega
  have e:=Dy hP (2 * W0.length-2-r) (by omega)
  rw [show 2 * W0.length-1-1=2 * W0.length-2 by omega] at e
  rw [Hp hs h2 _ (by omega),Int.toNat_natCast] at e
  have hp:2 ^ (t+1+1)=2 * 2 ^ (t+1):=by rw [Nat.pow_succ]; omega
  have:=ih ((r-1) / 2) (by omega) (by omega)
  rw [show 2 * W0.length-2-(r-1) / 2=W0.length+(2 * W0.length-2-r) / 2 by omega] at this
  unfold dn at *
  omega
def lD (w:List Int) (limit:Int):Prop:=∀ i,i<w.length→(fR w).getD i 0≤limit
theorem BP {w:List Int} {limit:Int} (hw:nI w) (hL:qn w limit) (h1:∀ i,i<w.length→w.getD i 0≤1):lD w limit:=by
 intro i hi
 unfold qn at hL
 have hlim:5≤limit:=by
  have:=hL.1
  split at this <;> omega
 by_cases hp:0<w.getD i 0
 ·by_cases h2:2≤(pos w).length
  ·obtain ⟨k,hk,e⟩:=sd hi hp
   have hd:=ov h2 hk
   rw [e,Int.toNat_natCast] at hd
   rw [hd]
   have hwl:=eX w
   have hone:∀ k,k<(co w).length→(co w).getD k 0=1:=by
    intro k hk
    have h3:=oW hk
    rw [hwl,← gn] at hk
    rw [kJ hk] at h3 ⊢
    have h4:=gN hk
    have:=h1 ((fO w).getD k 0).toNat (by omega)
    omega
   have hpl:=kN w
   have hw1:=hw.1
   have hod:=fun t r=>xX hone (by omega) t r
   have er:k=2 * (co w).length-2-(2 * (co w).length-2-k):=by omega
   rw [er]
   by_cases h19:(pos w).length≤19
   ·rw [if_pos h19] at hL
    have:=hod 5 (2 * (co w).length-2-k) (by simp only [Nat.reduceAdd,Nat.reducePow]; omega) (by omega)
    omega
   ·rw [if_neg h19] at hL
    have:=hod 9 (2 * (co w).length-2-k) (by simp only [Nat.reduceAdd,Nat.reducePow]; omega) (by omega)
    omega
  ·have hc:(pos w).length=1:=by
    have:=jA w w.length i hi hp
    have:0<(pos w).length:=List.length_pos_of_mem this
    omega
   rw [qz hc hi hp]; omega
 ·rw [mc hp]; omega
theorem pZ (l:List Int) (limit:Int) (hl:l.length≤1000):((∀ i,i<l.length→l.getD i 0≤limit)→aT l limit=some false)∧(¬ (∀ i,i<l.length→l.getD i 0≤limit)→aT l limit=some true):=by
 have go:∀ i,i<l.length→l.getD i 0≤limit→∀ {O:Type},(cond ((decide ((i:Int)<(l.length:Int))))
    ((bf (i:Int) l.length).bind fun v2 =>
    (aB l v2).bind fun v3 =>
    (dq v3 limit).bind fun v4 =>
    cond (v4)
     (some (.inr (.inr ((i:Int)))))
     ((some (IntKind.i64.wrap ((i:Int)+1))).bind fun v6 =>
     some (.inl v6)))
    (some (.inr (.inl ()))))=(some (.inl ((i+1:Nat):Int)):Option (Int⊕(Unit⊕Int))):=by
  intro i hi hle O
  exact am (by simp; omega) (ai (aA hi) (ai (dp hi) (ai (x:=false) (by unfold dq; rw [decide_eq_false (by omega)]) (ao rfl (ai (x:=((i+1:Nat):Int)) (by rw [aI (by omega)]) rfl)))))
 constructor
 ·intro h
  unfold aT
  refine ai (x := -1) ?_ (by simp)
  unfold bu
  refine aK (s:=()) ?_ rfl
  exact bX (fun i=>(i:Int)) l.length bD rfl (by unfold bD; omega) (fun i hi=>go i hi (h i hi) (O:=Unit)) (ao (by simp) rfl)
 ·intro h
  rcases nr (fun i=>decide (l.getD i 0≤limit)) l.length with h1 | ⟨k,hk,h1,h2⟩
  ·exact absurd (fun i hi=>of_decide_eq_true (h1 i hi)) h
  have h2:=of_decide_eq_false h2
  unfold aT
  refine ai (x:=(k:Int)) ?_ (by simp)
  unfold bu
  refine oy (a:=(k:Int)) ?_ rfl
  refine bX (fun i=>(i:Int)) k bD rfl (by unfold bD; omega) (fun i hi=>go i (by omega) (of_decide_eq_true (h1 i hi)) (O:=Unit)) ?_
  exact am (by simp; omega) (ai (aA hk) (ai (dp hk) (ai (x:=true) (by unfold dq; rw [decide_eq_true (by omega)]) (am rfl rfl))))
def Ch (w:List Int):Nat→List Int
 | 0=>w
 | i+1=>(Ch w i).set i (((Ch w i).getD i 0+1) / 2)
theorem kI (w:List Int):∀ i,(Ch w i).length=w.length
 | 0=>rfl
 | i+1=>by rw [Ch,List.length_set]; exact kI w i
theorem ru (w:List Int):∀ i k,i≤w.length→(Ch w i).getD k 0=if k<i then (w.getD k 0+1) / 2 else w.getD k 0
 | 0,k,_=>by simp [Ch]
 | i+1,k,h=>by
  rw [Ch]
  by_cases e:i=k
  ·subst e
   rw [eU (by rw [kI]; omega),ru w i i (by omega),if_neg (by omega),if_pos (by omega)]
  ·rw [getD_set_ne e,ru w i k (by omega)]
   by_cases h1:k<i
   ·rw [if_pos h1,if_pos (by omega)]
   ·rw [if_neg h1,if_neg (by omega)]
theorem zh (w:List Int):Ch w w.length=hv w:=by
 apply List.ext_getElem
 ·rw [kI,qN]
 ·intro i h1 h2
  rw [cJ h1,cJ h2,ru w _ _ (Nat.le_refl _),wA]
  rw [kI] at h1
  rw [if_pos h1,if_pos h1]
theorem Ah {x:Int} (h0:0≤x) (h1:x<4611686018427387904):pd .i64 x 2=some (x / 2):=by
 unfold pd
 rw [if_neg (by omega),Int.tdiv_eq_ediv_of_nonneg h0,wrap_i64 (by omega) (by omega)]
theorem xH {w:List Int} {limit:Int} (hw:nI w) (hL:qn w limit):∃ J,J≤20∧(∀ j,j<J→¬ lD (gf w j) limit)∧lD (gf w J) limit:=by
 have h20:lD (gf w 20) limit:=by
  refine BP (kO hw 20) ?_ fun i hi => ?_
  ·unfold qn at hL ⊢
   rw [zY hw]; exact hL
  ·rw [gU] at hi
   simpa using Ew hw 20 (Nat.le_refl _) i hi
 have:∀ n,(∃ J,J<n∧(∀ j,j<J→¬ lD (gf w j) limit)∧lD (gf w J) limit)∨∀ j,j<n→¬ lD (gf w j) limit:=by
  intro n
  induction n with
  | zero=>exact .inr fun j h=>by omega
  | succ n ih =>
   rcases ih with ⟨J,h1,h2⟩ | h
   ·exact .inl ⟨J,by omega,h2⟩
   ·by_cases hf:lD (gf w n) limit
    ·exact .inl ⟨n,by omega,h,hf⟩
    ·refine .inr fun j hj => ?_
     by_cases e:j=n
     ·subst e; exact hf
     ·exact h j (by omega)
 rcases this 21 with ⟨J,h1,h2⟩ | h
 ·exact ⟨J,by omega,h2⟩
 ·exact absurd h20 (h 20 (by omega))
theorem Fp (w:List Int) (h:w.length≤300):cV w=some w:=by
 unfold cV
 rw [if_pos (by omega)]
theorem xO {w:List Int} {limit:Int} (hw:nI w) (hL:qn w limit) {J:Nat} (hJ:J≤20) (hno:∀ j,j<J→¬ lD (gf w j) limit) (hyes:lD (gf w J) limit):bP w limit=some (fR (gf w J),0):=by
 unfold bP
 refine aK (s:=false) (ai ((pI w).1 hw) (ao rfl (ai ((te w limit hw.1).1 hL) rfl))) (ao rfl (ai (Fp w hw.1) ?_))
 refine oy (a:=(fR (gf w J),0)) ?_ rfl
 have hdl:=fun j=>jd (gf w j)
 have hll:=gU w
 have hw1:=hw.1
 refine bX (fun j=>gf w j) J bD rfl (by unfold bD; omega) (fun j hj => ?_) ?_
 ·have hok:=kO hw j
  have hc:=(pZ (fR (gf w j)) limit (by rw [hdl,hll]; omega)).2 (fun h=>hno j hj (fun i hi=>h i (by rw [hdl]; exact hi)))
  refine ai (tE hok) (ai hc (ao rfl ?_))
  refine aK (s:=hv (gf w j)) ?_ rfl
  rw [← zh]
  refine bX (fun i=>(Ch (gf w j) i,(i:Int))) (gf w j).length bD rfl (by rw [hll]; unfold bD; omega) (fun i hi => ?_) (ao (by simp) rfl)
  have hpl:=kI (gf w j) i
  have ha:=ru (gf w j) i i (by omega)
  rw [if_neg (by omega)] at ha
  have hb:=hok.2 i hi
  rw [hll] at hi
  exact am (by simp only [hll]; simp; omega) (ai (aA (by rw [hpl,hll]; exact hi)) (ai (dp (by rw [hpl,hll]; exact hi)) (ai (x:=(Ch (gf w j) i).getD i 0+1) (by rw [wrap_i64 (by omega) (by omega)]) (ai (Ah (by omega) (by omega)) (ai (aA (by rw [hpl,hll]; exact hi)) (ai rfl (ai (x:=((i+1:Nat):Int)) (by rw [aI (by omega)]) rfl)))))))
 ·have hc:=(pZ (fR (gf w J)) limit (by rw [hdl,hll]; omega)).1 (fun i hi=>hyes i (by rw [hdl] at hi; exact hi))
  exact ai (tE (kO hw J)) (ai hc (am rfl rfl))
theorem sf {w:List Int} {limit:Int} (hw:nI w) (hL:qn w limit):∃ J,J≤20∧(∀ j,j<J→¬ lD (gf w j) limit)∧lD (gf w J) limit∧bP w limit=some (fR (gf w J),0):=by
 obtain ⟨J,h0,h1,h2⟩:=xH hw hL
 exact ⟨J,h0,h1,h2,xO hw hL h0 h1 h2⟩
section
variable {W0:List Int} (h2:2≤W0.length) (v:xm W0 (W0.length-1) (du W0 (W0.length-1)))
include h2 v
theorem qy (k:Nat) (hk:k<2 * W0.length-2):(dn W0).getD k 0=(dn W0).getD ((du W0 (W0.length-1)).P.getD k 0).toNat 0+1:=by
 have:=Dy (uC h2 v) k (by omega)
 rw [show 2 * W0.length-1-1=2 * W0.length-2 by omega] at this
 exact this
end
section
variable {W0:List Int} (h2:2≤W0.length) (v:xm W0 (W0.length-1) (du W0 (W0.length-1)))
include h2 v
theorem sX:(dn W0).getD (2 * W0.length-2) 0=0:=by
 have _:=v.wl
 have:=uW (du W0 (W0.length-1)).P (L:=2 * W0.length-1) (by omega)
 rw [show 2 * W0.length-1-1=2 * W0.length-2 by omega] at this
 exact this
end
section
variable {W0:List Int} (h2:2≤W0.length) (v:xm W0 (W0.length-1) (du W0 (W0.length-1)))
include h2 v
theorem taken {k:Nat} (hk:k<2 * W0.length-2):∃ j,j<2 * W0.length-2∧(du W0 (W0.length-1)).C.getD j 0=k∧((du W0 (W0.length-1)).P.getD k 0).toNat=W0.length+j / 2:=by
 have hm:k∈(du W0 (W0.length-1)).C:=(v.mem k).2 (by have:=v.cnt; have:=v.mg2; have:=v.lf; omega)
 obtain ⟨j,hj,e⟩:=List.getElem_of_mem hm
 have e:(du W0 (W0.length-1)).C.getD j 0=k:=by rw [← e]; simp [hj]
 rw [v.cl] at hj
 refine ⟨j,by omega,e,?_⟩
 have:=v.par j hj
 rw [e] at this
 rw [this,Int.toNat_natCast]
end
section
variable {W0:List Int} (h2:2≤W0.length) (v:xm W0 (W0.length-1) (du W0 (W0.length-1)))
include h2 v
end
section
variable {W0:List Int} (h2:2≤W0.length) (v:xm W0 (W0.length-1) (du W0 (W0.length-1)))
include h2 v
end
section
variable {W0:List Int} (h2:2≤W0.length) (v:xm W0 (W0.length-1) (du W0 (W0.length-1)))
include h2 v
end
def iR (f:Nat→Nat):Nat→Nat
 | 0=>0
 | n+1=>iR f n+f n
theorem qH {f g:Nat→Nat}:∀ n,(∀ i,i<n→f i=g i)→iR f n=iR g n
 | 0,_=>rfl
 | n+1,h=>by rw [iR,iR,qH n fun i hi=>h i (by omega),h n (by omega)]
theorem xd (f:Nat→Nat) (a:Nat):∀ b,iR f (a+b)=iR f a+iR (fun i=>f (a+i)) b
 | 0=>rfl
 | b+1=>by rw [← Nat.add_assoc,iR,xd f a b,iR]; omega
theorem tv (f:Nat→Nat) (l:List Nat):∀ n,n≤l.length→iR (fun j=>f (l.getD j 0)) n=((l.take n).map f).sum
 | 0,_=>rfl
 | n+1,h=>by
  rw [iR,tv f l n (by omega),List.take_add_one,List.map_append,List.sum_append]
  have:n<l.length:=by omega
  simp [this]
theorem rp (f:Nat→Nat):∀ n,iR f n=((List.range n).map f).sum
 | 0=>rfl
 | n+1=>by rw [iR,rp f n,List.range_succ,List.map_append,List.sum_append]; simp
theorem Cf {l m:List Nat} (h:l.Perm m):l.sum=m.sum:=by
 induction h with
 | nil=>rfl
 | cons x _ ih=>rw [List.sum_cons,List.sum_cons,ih]
 | swap x y l=>simp only [List.sum_cons]; omega
 | trans _ _ ih1 ih2=>exact ih1.trans ih2
section
variable {W0:List Int} (h2:2≤W0.length) (v:xm W0 (W0.length-1) (du W0 (W0.length-1)))
include h2 v
theorem Gd {d:Int} (hd:∀ k,k<W0.length→(dn W0).getD k 0≤d):∀ k,k<2 * W0.length-1→(dn W0).getD k 0≤d:=by
 intro k
 induction k using Nat.strongRecOn with
 | ind k ih =>
  intro hk
  by_cases h:k<W0.length
  ·exact hd k h
  ·obtain ⟨q,rfl⟩:∃ q,k=W0.length+q:=⟨k-W0.length,by omega⟩
   have hc:=v.clt (2 * q) (by omega)
   have hp:=v.par (2 * q) (by omega)
   have e:=qy h2 v ((du W0 (W0.length-1)).C.getD (2 * q) 0) (by omega)
   rw [hp,Int.toNat_natCast,show W0.length+2 * q / 2=W0.length+q by omega] at e
   have:=ih ((du W0 (W0.length-1)).C.getD (2 * q) 0) (by omega) (by omega)
   omega
end
def kx (D:List Int) (k:Nat):Nat:=2 ^ (15-(D.getD k 0).toNat)
theorem Jw {W0:List Int} (h2:2≤W0.length) (v:xm W0 (W0.length-1) (du W0 (W0.length-1))) (hd:∀ k,k<W0.length→(dn W0).getD k 0≤15):iR (kx (dn W0)) W0.length=32768:=by
 have hle:=Gd h2 v hd
 have hnn:∀ k,0≤(dn W0).getD k 0:=fun k=>(jj _ _ _ k).1
 have hX:∀ k,k<2 * W0.length-2→kx (dn W0) ((du W0 (W0.length-1)).P.getD k 0).toNat=2 * kx (dn W0) k:=by
  intro k hk
  have e:=qy h2 v k hk
  have h3:=hle k (by omega)
  have h4:=hnn ((du W0 (W0.length-1)).P.getD k 0).toNat
  unfold kx
  rw [show 15-((dn W0).getD ((du W0 (W0.length-1)).P.getD k 0).toNat 0).toNat=(15-((dn W0).getD k 0).toNat)+1 by omega,Nat.pow_succ]
  omega
 have hC:∀ j,j<2 * (W0.length-1)→(du W0 (W0.length-1)).C.getD j 0<2 * W0.length-2:=fun j hj=>by have:=v.clt j hj; omega
 have hXC:∀ j,j<2 * (W0.length-1)→kx (dn W0) (W0.length+j / 2)=2 * kx (dn W0) ((du W0 (W0.length-1)).C.getD j 0):=by
  intro j hj
  have:=hX _ (hC j hj)
  rw [v.par j hj,Int.toNat_natCast] at this
  exact this
 have s1:∀ m,m≤W0.length-1→iR (fun j=>kx (dn W0) ((du W0 (W0.length-1)).C.getD j 0)) (2 * m)=iR (fun q=>kx (dn W0) (W0.length+q)) m:=by
  intro m
  induction m with
  | zero=>intro _; rfl
  | succ m ih =>
   intro hm
   have e1:=hXC (2 * m) (by omega)
   have e2:=hXC (2 * m+1) (by omega)
   rw [show 2 * m / 2=m by omega] at e1
   rw [show (2 * m+1) / 2=m by omega] at e2
   rw [show 2 * (m+1)=2 * m+1+1 by omega,iR,iR,ih (by omega),iR]
   omega
 have s2:iR (fun j=>kx (dn W0) ((du W0 (W0.length-1)).C.getD j 0)) (2 * (W0.length-1))=iR (kx (dn W0)) (2 * (W0.length-1)):=by
  rw [tv _ _ _ (by rw [v.cl]; exact Nat.le_refl _),← v.cl,List.take_length,rp]
  refine Cf (List.Perm.map _ ((List.perm_ext_iff_of_nodup v.nd List.nodup_range).2 fun k => ?_))
  rw [v.mem k,List.mem_range,v.cl]
  have:=v.cnt; have:=v.mg2; have:=v.lf
  omega
 have s3:=s1 (W0.length-1) (Nat.le_refl _)
 rw [s2,show 2 * (W0.length-1)=W0.length+(W0.length-2) by omega,xd,show W0.length-1=(W0.length-2)+1 by omega,iR] at s3
 have hroot:kx (dn W0) (W0.length+(W0.length-2))=32768:=by
  unfold kx
  rw [show W0.length+(W0.length-2)=2 * W0.length-2 by omega,sX h2 v]
  rfl
 omega
def g1 (x:Int):Nat:=if 0<x then 2 ^ (15-x.toNat) else 0
def uu (l:List Int):Nat:=(l.map g1).sum
theorem wP {l:List Int} {a:Nat} {y:Int} (ha:a<l.length) (h0:l.getD a 0=0):uu (l.set a y)=uu l+g1 y:=by
 induction l generalizing a with
 | nil=>simp at ha
 | cons x l ih =>
  cases a with
  | zero =>
   have:x=0:=by simpa using h0
   subst this
   simp [uu,g1]
   omega
  | succ a =>
   have:=ih (a:=a) (by simpa using ha) (by simpa using h0)
   simp only [uu,List.set_cons_succ,List.map_cons,List.sum_cons] at *
   omega
theorem pG:∀ n,uu (List.replicate n 0)=0
 | 0=>rfl
 | n+1=>by
  have:=pG n
  simp only [uu,List.replicate_succ,List.map_cons,List.sum_cons] at *
  simp [g1,this]
theorem sk {n:Nat} {u D:List Int} (hd:∀ a b,a<u.length→b<u.length→(u.getD a 0).toNat=(u.getD b 0).toNat→a=b) (hz:∀ a,a<u.length→(u.getD a 0).toNat<n):∀ i,i≤u.length→uu (place (List.replicate n 0) u D i)=iR (fun k=>g1 (D.getD k 0)) i
 | 0,_=>by rw [place,pG]; rfl
 | i+1,h=>by
  rw [place,wP (by rw [ko,List.length_replicate]; exact hz i (by omega)),sk hd hz i (by omega),iR]
  rw [pJ _ (fun k hk e=>by have:=hd k i (by omega) (by omega) e; omega)]
  exact jC _ _
theorem zJ (x:Nat) (m:List Nat):∀ k,ws (x::m) k=ws m k+(if 0<x∧x≤k then 2 ^ (15-x) else 0)
 | 0=>by simp [ws]; omega
 | k+1=>by
  rw [ws,zJ x m k,ws,List.count_cons,Nat.add_mul]
  by_cases h:x=k+1
  ·subst h
   rw [if_neg (by omega),if_pos (show 0<k+1∧k+1≤k+1 by omega)]
   simp
   omega
  ·rw [if_neg (show ¬ (x==k+1)=true by simpa using h)]
   by_cases h3:0<x∧x≤k
   ·rw [if_pos h3,if_pos (by omega)]; omega
   ·rw [if_neg h3,if_neg (by omega)]; omega
theorem tU:∀ l:List Int,(∀ x∈l,x≤15)→ws (l.map Int.toNat) 15=uu l
 | [],_=>by decide
 | x::l,h=>by
  rw [List.map_cons,zJ,tU l fun y hy=>h y (by simp [hy])]
  have hx:=h x (by simp)
  simp only [uu,List.map_cons,List.sum_cons,g1]
  by_cases h0:0<x
  ·rw [if_pos (by omega),if_pos h0]; omega
  ·rw [if_neg (by omega),if_neg h0]; omega
theorem Ee {w:List Int}:∀ i,0≤(fR w).getD i 0:=by
 intro i
 by_cases hi:i<w.length
 ·by_cases hp:0<w.getD i 0
  ·by_cases h2:2≤(pos w).length
   ·obtain ⟨k,hk,e⟩:=sd hi hp
    have hd:=ov h2 hk
    rw [e,Int.toNat_natCast] at hd
    rw [hd]
    exact (jj _ _ _ k).1
   ·have hc:(pos w).length=1:=by
     have:0<(pos w).length:=List.length_pos_of_mem (jA w w.length i hi hp)
     omega
    rw [qz hc hi hp]; omega
  ·rw [mc hp]; omega
 ·have hl:=jd w
  simp only [List.getD_eq_getElem?_getD,List.getElem?_eq_none (show (fR w).length≤i by omega)]
  simp
theorem vU {w:List Int} (h2:2≤(pos w).length) {k:Nat} (hk:k<(pos w).length):1≤(dn (co w)).getD k 0:=by
 have hwl:=eX w
 have e:=qy (by omega) (oz h2) k (by omega)
 have:0≤(dn (co w)).getD ((du (co w) ((co w).length-1)).P.getD k 0).toNat 0:=(jj _ _ _ _).1
 omega
theorem Bd {w:List Int} {limit:Int} (h2:2≤(pos w).length) (hf:lD w limit) {k:Nat} (hk:k<(pos w).length):(dn (co w)).getD k 0≤limit:=by
 rw [← ov h2 hk]
 have:=gN (w:=w) (i:=k) (by rw [gn]; exact hk)
 exact hf _ (by omega)
theorem BR {w:List Int} {limit:Int} (hw:nI w) (hf:lD w limit) (hl:limit≤15):gv (fR w)=some 0:=by
 have hdl:=jd w
 have h15:∀ x∈fR w,0≤x∧x≤15:=by
  intro x hx
  obtain ⟨k,hk,rfl⟩:=fW hx
  have:=hf k (by omega)
  have:=Ee (w:=w) k
  omega
 have he:ints ((fR w).map Int.toNat)=fR w:=tr fun x hx=>(h15 x hx).1
 have hw1:=hw.1
 have hc:=nH ((fR w).map Int.toNat) (by rw [List.length_map]; omega)
 rw [he] at hc
 rw [hc,if_pos ⟨by rw [List.length_map]; omega,fun x hx=>by
  obtain ⟨y,hy,rfl⟩:=List.mem_map.1 hx
  have:=h15 y hy; omega⟩]
 have hforms:jJ ((fR w).map Int.toNat)=true:=by
  unfold jJ
  by_cases h2:2≤(pos w).length
  ·have hk:=Jw (W0:=co w) (by rw [eX]; exact h2) (oz h2) (fun k hk=>by
    have:=Bd h2 hf (k:=k) (by rw [eX] at hk; exact hk)
    omega)
   have:ws ((fR w).map Int.toNat) 15=32768:=by
    rw [tU _ fun x hx=>(h15 x hx).2,fR,if_neg (by omega),if_neg (by omega)]
    rw [sk (fun a b ha hb h=>qG ha hb h) (fun a ha=>by have:=gN ha; omega) _ (Nat.le_refl _),gn,← hk,eX]
    refine qH _ fun k hk => ?_
    have:=vU h2 hk
    unfold g1 kx
    rw [if_pos (by omega)]
   simp [this]
  ·by_cases h1:(pos w).length=1
   ·have:ws ((fR w).map Int.toNat) 15=16384:=by
     have hm:(pos w).getD 0 0∈pos w:=by rw [← cJ (by omega)]; exact List.getElem_mem _
     have hx:=gQ w w.length _ hm
     rw [tU _ fun x hx=>(h15 x hx).2,fR,if_neg (by omega),if_pos h1,wP (by simp only [List.length_replicate]; omega) (jC _ _),pG]
     decide
    -- one length of 1
    have ht:ints (ke ((fR w).map Int.toNat))=0::1::List.replicate 14 0:=by
     have hd1:∀ x∈fR w,x=0∨x=1:=by
      intro x hx
      obtain ⟨k,hk,rfl⟩:=fW hx
      by_cases hp:0<w.getD k 0
      ·exact .inr (qz h1 (by omega) hp)
      ·exact .inl (mc hp)
     have hcnt:∀ n,2≤n→((fR w).map Int.toNat).count n=0:=by
      intro n hn
      rw [List.count_eq_zero]
      intro hmem
      obtain ⟨y,hy,e⟩:=List.mem_map.1 hmem
      have:=hd1 y hy
      omega
     have hone:((fR w).map Int.toNat).count 1=1:=by
      have hz:∀ k,ws ((fR w).map Int.toNat) (k+1)=((fR w).map Int.toNat).count 1 * 16384:=by
       intro k
       induction k with
       | zero=>simp [ws]
       | succ k ih=>rw [ws,ih,hcnt (k+1+1) (by omega)]; omega
      have h14:=hz 14
      rw [show 14+1=15 from rfl,this] at h14
      omega
     apply List.ext_getElem
     ·simp [aD,fQ]
     ·intro i q1 q2
      have hi:i<16:=by simpa [aD,fQ] using q1
      have ht:=kX ((fR w).map Int.toNat) (n:=i) (by rw [fQ]; exact hi)
      simp only [ints,List.getElem_map]
      rw [ht]
      match i,hi with
      | 0,_=>rfl
      | 1,_=>rw [if_neg (by omega),hone]; rfl
      | i+2,hi =>
       rw [if_neg (by omega),hcnt (i+2) (by omega)]
       simp only [List.getElem_cons_succ,List.getElem_replicate]
       rfl
    simp [ht]
   ·have ht:ints (ke ((fR w).map Int.toNat))=List.replicate 16 0:=by
     have h0:(pos w).length=0:=by omega
     have hd:fR w=List.replicate w.length 0:=by rw [fR,if_pos h0]
     rw [hd,List.map_replicate]
     apply List.ext_getElem
     ·simp [aD,fQ]
     ·intro i q1 q2
      have hi:i<16:=by simpa [aD,fQ] using q1
      have ht:=kX (List.replicate w.length (Int.toNat 0)) (n:=i) (by rw [fQ]; exact hi)
      simp only [ints,List.getElem_map]
      rw [ht,List.getElem_replicate]
      by_cases h:i=0
      ·rw [if_pos h]; rfl
      ·rw [if_neg h,List.count_replicate,if_neg (by simp; omega)]; rfl
    simp [ht]
 rw [hforms]
 rfl
theorem EL {w:List Int} {i:Nat} (hi:i<w.length) (h:0<w.getD i 0):0<(fR w).getD i 0:=by
 by_cases h2:2≤(pos w).length
 ·obtain ⟨k,hk,e⟩:=sd hi h
  have d:=ov h2 hk
  rw [e,Int.toNat_natCast] at d
  have:=vU h2 hk
  omega
 ·have hc:(pos w).length=1:=by
   have:0<(pos w).length:=List.length_pos_of_mem (jA w w.length i hi h)
   omega
  rw [qz hc hi h]; omega
theorem zS {w:List Int} (hw:nI w):∀ j i,i<w.length→(0<(gf w j).getD i 0↔0<w.getD i 0)
 | 0,i,_=>Iff.rfl
 | j+1,i,hi=>by
  rw [← zS hw j i hi,gf,wA,if_pos (by rw [gU]; exact hi)]
  have:=(kO hw j).2 i (by rw [gU]; exact hi)
  omega
set_option maxRecDepth 100000
def Lb (l:List Int) (least:Int):((Int))→Option ((Int)⊕((Int)⊕(List Int))):=(fun (s46:Int) =>
 aq (S:=Bool) (A:=((Int)⊕((Int)⊕(List Int))))
  (cond ((decide (least<s46)))
   ((some (IntKind.i64.wrap (s46-1))).bind fun v1 =>
   (bf v1 l.length).bind fun v2 =>
   (aB l v2).bind fun v3 =>
   some (.inl (v3==0)))
   (some (.inl false)))
  (fun (s59:Bool) =>
   cond (s59)
    ((some (IntKind.i64.wrap (s46-1))).bind fun v9 =>
    some (.inl v9))
    (some (.inr (.inl s46)))) some)
def Ca (w:List Nat) (lim:Nat):List Nat:=match bP (ints w) (lim:Int) with
 | some (m,_)=>m.map Int.toNat
 | none=>[]
theorem ub {w:List Nat} {lim:Nat} (hl:w.length≤300) (hb:∀ x∈w,x≤1000000) (hL:qn (ints w) (lim:Int)) :
  bP (ints w) (lim:Int)=some (ints (Ca w lim),0)∧Cd (Ca w lim)∧(Ca w lim).length=w.length∧(∀ j,j<w.length→(0<(Ca w lim).getD j 0↔0<w.getD j 0))∧∀ x∈Ca w lim,x≤lim:=by
 have hok:nI (ints w):=⟨by rw [aD]; exact hl,fun i hi=>by
  rw [aD] at hi
  rw [uQ,List.getD_eq_getElem?_getD,List.getElem?_eq_getElem hi,Option.getD_some]
  have:=hb _ (List.getElem_mem hi)
  omega⟩
 obtain ⟨J,hJ,hno,hyes,hle⟩:=sf hok hL
 have hlim:(lim:Int)≤15:=hL.2
 have hwJ:=kO hok J
 have hchk:=BR hwJ hyes hlim
 have hdl:(fR (gf (ints w) J)).length=w.length:=by rw [jd,gU,aD]
 have hdp:∀ j,j<w.length→(0<(fR (gf (ints w) J)).getD j 0↔0<w.getD j 0):=by
  intro j hj
  have h1:=zS hok J j (by rw [aD]; exact hj)
  rw [uQ] at h1
  rw [show (0<w.getD j 0↔0<(gf (ints w) J).getD j 0) from ⟨fun h=>h1.2 (by omega),fun h=>by have:=h1.1 h; omega⟩]
  constructor
  ·intro h
   by_cases hz:0<(gf (ints w) J).getD j 0
   ·exact hz
   ·rw [mc hz] at h; omega
  ·exact fun h=>EL (by rw [gU,aD]; exact hj) h
 have hdf:∀ j,j<w.length→(fR (gf (ints w) J)).getD j 0≤(lim:Int):=fun j hj=>hyes j (by rw [gU,aD]; exact hj)
 have etr:Ca w lim=(fR (gf (ints w) J)).map Int.toNat:=by unfold Ca; rw [hle]
 have h15:∀ x∈fR (gf (ints w) J),0≤x:=fun x hx=>by
  obtain ⟨k,hk,rfl⟩:=fW hx
  exact Ee (w:=gf (ints w) J) k
 have hd:ints (Ca w lim)=fR (gf (ints w) J):=by rw [etr]; exact tr h15
 have hln:(Ca w lim).length=w.length:=by rw [etr,List.length_map,hdl]
 have hle2:∀ x∈Ca w lim,x≤lim:=fun x hx=>by
  obtain ⟨k,hk,rfl⟩:=List.getElem_of_mem hx
  have h1:=hdf k (by omega)
  rw [← hd,uQ,List.getD_eq_getElem?_getD,List.getElem?_eq_getElem hk,Option.getD_some] at h1
  omega
 rw [← hd] at hchk hdp hle
 refine ⟨hle,⟨by omega,fun x hx=>by have:=hle2 x hx; omega,?_⟩,hln,fun j hj => ?_,hle2⟩
 ·rw [nH _ (by omega)] at hchk
  have h2:=Option.some.inj hchk
  split at h2
  ·split at h2
   ·assumption
   ·cases h2
  ·cases h2
 ·have:=hdp j hj
  rw [uQ] at this
  exact ⟨fun h=>this.1 (by omega),fun h=>by have:=this.2 h; omega⟩
def EF (l:List Nat) (least:Nat):Nat→Nat
 | 0=>0
 | s+1=>if least<s+1∧l.getD s 0=0 then EF l least s else s+1
theorem uH (l:List Nat) (least:Nat):∀ s,EF l least s≤s
 | 0=>Nat.le_refl _
 | s+1=>by
  unfold EF
  split
  ·have:=uH l least s; omega
  ·exact Nat.le_refl _
theorem xo (l:List Nat) (least:Nat):∀ s,least≤s→least≤EF l least s
 | 0,h=>h
 | s+1,h=>by
  unfold EF
  split
  ·rename_i hc; exact xo l least s (by omega)
  ·exact h
theorem zE {l:List Nat} (hl:l.length≤1000) (least:Nat):∀ (s fuel:Nat),s≤l.length→s<fuel→aG (Lb (ints l) (least:Int)) fuel (s:Int)=some (.inl ((EF l least s:Nat):Int))
 | 0,fuel,hs,hf=>by
  obtain ⟨fu,rfl⟩:∃ fu,fuel=fu+1:=⟨fuel-1,by omega⟩
  exact aV (aK (s:=false) (ao (decide_eq_false (by omega)) rfl) (ao rfl rfl))
 | s+1,fuel,hs,hf=>by
  obtain ⟨fu,rfl⟩:∃ fu,fuel=fu+1:=⟨fuel-1,by omega⟩
  have hw:IntKind.i64.wrap (((s+1:Nat):Int)-1)=((s:Nat):Int):=by rw [wrap_i64 (by omega) (by omega)]; omega
  obtain ⟨i1,i2⟩:=jt (a:=l) (s:=s) rfl (by omega)
  unfold EF
  by_cases h1:least<s+1
  ·by_cases h2:l.getD s 0=0
   ·rw [if_pos ⟨h1,h2⟩]
    exact (bh (aK (s:=true) (am (decide_eq_true (by omega)) (ai (congrArg some hw) (ai i1 (ai i2 (by rw [h2]; rfl))))) (am rfl (ai (congrArg some hw) rfl)))).trans (zE hl least s fu (by omega) (by omega))
   ·rw [if_neg (fun h=>h2 h.2)]
    have hne:(((l.getD s 0:Nat):Int)==0)=false:=beq_eq_false_iff_ne.2 (by omega)
    exact aV (aK (s:=false) (am (decide_eq_true (by omega)) (ai (congrArg some hw) (ai i1 (ai i2 (by rw [hne]))))) (ao rfl rfl))
  ·rw [if_neg (fun h=>h1 h.1)]
   exact aV (aK (s:=false) (ao (decide_eq_false (by omega)) rfl) (ao rfl rfl))
def sO (l:List Nat) (least:Nat):List Nat:=l.take (EF l least l.length)
theorem qs {l:List Nat} (hl:l.length≤1000) (least:Nat):ej (ints l) (least:Int)=some (ints (sO l least)):=by
 have hlp:aG (Lb (ints l) (least:Int)) bD ((ints l).length:Int)=some (.inl ((EF l least l.length:Nat):Int)):=by rw [aD]; exact zE hl least l.length bD (Nat.le_refl _) (by simp only [bD]; omega)
 have hle:=uH l least l.length
 unfold ej
 refine aK hlp (ai (x:=ints (sO l least)) ?_ rfl)
 have:=zT (ints l) (a:=0) (b:=EF l least l.length) (by omega) (by rw [aD]; exact hle)
 rw [show ((0:Nat):Int)=0 from rfl] at this
 rw [this,List.drop_zero,Nat.sub_zero]
 simp [ints,sO,List.map_take]
set_option maxRecDepth 10000
def KY (lengths:List Int) (at_ v2:Int):((Int))→Option ((Int)⊕((Int)⊕(Int×Int×Int))):=(fun (s19:Int) =>
 aq (S:=Bool) (A:=((Int)⊕((Int)⊕(Int×Int×Int))))
  ((some (IntKind.i64.wrap (at_+s19))).bind fun v3 =>
  cond ((decide (v3<(lengths.length:Int))))
   ((some (IntKind.i64.wrap (at_+s19))).bind fun v4 =>
   (bf v4 lengths.length).bind fun v5 =>
   (aB lengths v5).bind fun v6 =>
   some (.inl (v6==v2)))
   (some (.inl false)))
  (fun (s32:Bool) =>
   cond (s32)
    ((some (IntKind.i64.wrap (s19+1))).bind fun v12 =>
    some (.inl v12))
    (some (.inr (.inl s19)))) some)
def KK (lengths:List Int):((Int))→Option ((Int)⊕((Unit)⊕((List Int)×(List Int)×Int))):=(fun (s18:Int) =>
 cond ((decide (s18<(lengths.length:Int))))
  ((bf s18 lengths.length).bind fun v3 =>
  (aB lengths v3).bind fun v4 =>
  aq (S:=Bool) (A:=((Int)⊕((Unit)⊕((List Int)×(List Int)×Int))))
   (cond ((decide (v4<0)))
    (some (.inl true))
    (some (.inl ((decide (15<v4))))))
   (fun (s32:Bool) =>
    cond (s32)
     (some (.inr (.inr (([],[],1)))))
     ((some (IntKind.i64.wrap (s18+1))).bind fun v10 =>
     some (.inl v10))) some)
  (some (.inr (.inl ()))))
def JT (lengths:List Int):(((List Int)×(List Int)×Int))→Option (((List Int)×(List Int)×Int)⊕(((List Int)×(List Int))⊕((List Int)×(List Int)×Int))):=(fun ((s46,s47,s48):(List Int)×(List Int)×Int) =>
 cond ((decide (s48<(lengths.length:Int))))
  ((eM lengths s48).bind fun v38 =>
  (ce 8 s46 [v38.1]).bind fun v39 =>
  (ce 8 s47 [v38.2.1]).bind fun v40 =>
  (some (IntKind.i64.wrap (s48+v38.2.2))).bind fun v41 =>
  some (.inl (v39,v40,v41)))
  (some (.inr (.inl (s46,s47)))))
def IX (l:List Int):(((List Int)×(List Int)×Int))→Option (((List Int)×(List Int)×Int)⊕(((List Int)×(List Int))⊕((List Int)×(List Int)))):=(fun ((s170,s171,s172):(List Int)×(List Int)×Int) =>
 cond ((decide (s172<(l.length:Int))))
  (aq (S:=(Int)) (A:=(((List Int)×(List Int)×Int)⊕(((List Int)×(List Int))⊕((List Int)×(List Int)))))
   (aG (S:=(Int)) (O:=(Int)⊕(((List Int)×(List Int)×Int)⊕(((List Int)×(List Int))⊕((List Int)×(List Int))))) (fun (s259:Int) =>
    aq (S:=Bool) (A:=((Int)⊕((Int)⊕(((List Int)×(List Int)×Int)⊕(((List Int)×(List Int))⊕((List Int)×(List Int)))))))
     ((some (IntKind.i64.wrap (s172+s259))).bind fun v2 =>
     cond ((decide (v2<(l.length:Int))))
      ((some (IntKind.i64.wrap (s172+s259))).bind fun v3 =>
      (bf v3 l.length).bind fun v4 =>
      (aB l v4).bind fun v5 =>
      (bf s172 l.length).bind fun v6 =>
      (aB l v6).bind fun v7 =>
      some (.inl (v5==v7)))
      (some (.inl false)))
     (fun (s272:Bool) =>
      cond (s272)
       ((some (IntKind.i64.wrap (s259+1))).bind fun v13 =>
       some (.inl v13))
       (some (.inr (.inl s259)))) some)
    bD 1)
   (fun (s265:Int) =>
    aq (S:=Int×(List Int)×(List Int)) (A:=(((List Int)×(List Int)×Int)⊕(((List Int)×(List Int))⊕((List Int)×(List Int)))))
     (aq (S:=Bool) (A:=((Int×(List Int)×(List Int))⊕(((List Int)×(List Int)×Int)⊕(((List Int)×(List Int))⊕((List Int)×(List Int))))))
      ((bf s172 l.length).bind fun v38 =>
      (aB l v38).bind fun v39 =>
      cond ((v39==0))
       (some (.inl ((decide (11≤s265)))))
       (some (.inl false)))
      (fun (s298:Bool) =>
       cond (s298)
        ((some (if 138<s265 then 138 else s265)).bind fun v45 =>
        (ce 8 s170 [18]).bind fun v46 =>
        (some (IntKind.i64.wrap (v45-11))).bind fun v47 =>
        (ce 8 s171 [v47]).bind fun v48 =>
        some (.inl (v45,v46,v48)))
        (aq (S:=Bool) (A:=((Int×(List Int)×(List Int))⊕(((List Int)×(List Int)×Int)⊕(((List Int)×(List Int))⊕((List Int)×(List Int))))))
         ((bf s172 l.length).bind fun v49 =>
         (aB l v49).bind fun v50 =>
         cond ((v50==0))
          (some (.inl ((decide (3≤s265)))))
          (some (.inl false)))
         (fun (s303:Bool) =>
          cond (s303)
           ((ce 8 s170 [17]).bind fun v56 =>
           (some (IntKind.i64.wrap (s265-3))).bind fun v57 =>
           (ce 8 s171 [v57]).bind fun v58 =>
           some (.inl (s265,v56,v58)))
           (aq (S:=Bool) (A:=((Int×(List Int)×(List Int))⊕(((List Int)×(List Int)×Int)⊕(((List Int)×(List Int))⊕((List Int)×(List Int))))))
            ((bf s172 l.length).bind fun v59 =>
            (aB l v59).bind fun v60 =>
            cond ((v60 != 0))
             (cond ((decide (0<s172)))
              ((some (IntKind.i64.wrap (s172-1))).bind fun v61 =>
              (bf v61 l.length).bind fun v62 =>
              (aB l v62).bind fun v63 =>
              (bf s172 l.length).bind fun v64 =>
              (aB l v64).bind fun v65 =>
              cond ((v63==v65))
               (some (.inl ((decide (3≤s265)))))
               (some (.inl false)))
              (some (.inl false)))
             (some (.inl false)))
            (fun (s308:Bool) =>
             cond (s308)
              ((some (if 6<s265 then 6 else s265)).bind fun v71 =>
              (ce 8 s170 [16]).bind fun v72 =>
              (some (IntKind.i64.wrap (v71-3))).bind fun v73 =>
              (ce 8 s171 [v73]).bind fun v74 =>
              some (.inl (v71,v72,v74)))
              ((bf s172 l.length).bind fun v75 =>
              (aB l v75).bind fun v76 =>
              (ce 8 s170 [v76]).bind fun v77 =>
              (ce 8 s171 [0]).bind fun v78 =>
              some (.inl (1,v77,v78)))) some)) some)) some)
     (fun ((s292,s293,s294):Int×(List Int)×(List Int)) =>
      (some (IntKind.i64.wrap (s172+s292))).bind fun v100 =>
      some (.inl (s293,s294,v100))) some) some)
  (some (.inr (.inl (s170,s171)))))
def Jl (l:List Int) (s172:Int):((Int))→Option ((Int)⊕((Int)⊕(((List Int)×(List Int)×Int)⊕(((List Int)×(List Int))⊕((List Int)×(List Int)))))):=(fun (s259:Int) =>
 aq (S:=Bool) (A:=((Int)⊕((Int)⊕(((List Int)×(List Int)×Int)⊕(((List Int)×(List Int))⊕((List Int)×(List Int)))))))
  ((some (IntKind.i64.wrap (s172+s259))).bind fun v2 =>
  cond ((decide (v2<(l.length:Int))))
   ((some (IntKind.i64.wrap (s172+s259))).bind fun v3 =>
   (bf v3 l.length).bind fun v4 =>
   (aB l v4).bind fun v5 =>
   (bf s172 l.length).bind fun v6 =>
   (aB l v6).bind fun v7 =>
   some (.inl (v5==v7)))
   (some (.inl false)))
  (fun (s272:Bool) =>
   cond (s272)
    ((some (IntKind.i64.wrap (s259+1))).bind fun v13 =>
    some (.inl v13))
    (some (.inr (.inl s259)))) some)
def rn (x:Int):List Int→Nat
 | []=>0
 | y::l=>if y=x then rn x l+1 else 0
theorem GV (x:Int):∀ l,rn x l≤l.length
 | []=>Nat.le_refl _
 | y::l=>by
  unfold rn
  have:=GV x l
  split
  ·simp; omega
  ·simp
theorem GJ (x:Int):∀ (l:List Int) (j:Nat),j<rn x l→l[j]? = some x
 | [],j,h=>by simp [rn] at h
 | y::l,j,h=>by
  unfold rn at h
  split at h
  ·rename_i e
   subst e
   cases j with
   | zero=>simp
   | succ j=>simpa using GJ y l j (by omega)
  ·omega
theorem Aw (x:Int):∀ (l:List Int),rn x l<l.length→l[rn x l]? ≠ some x
 | [],h=>by simp at h
 | y::l,h=>by
  unfold rn at h ⊢
  split
  ·rename_i e
   rw [if_pos e] at h
   simpa using Aw x l (by simpa using h)
  ·rename_i e
   simpa using e
def fK (l:List Int) (i:Nat):Nat:=rn (l.getD i 0) (l.drop i)
theorem jT {l:List Int} {i:Nat} (h:i<l.length):l.getD i 0=l[i]:=by simp [List.getD_eq_getElem?_getD,h]
theorem mF {l:List Int} {i:Nat} (h:i<l.length):1≤fK l i:=by
 unfold fK
 rw [List.drop_eq_getElem_cons h,jT h]
 unfold rn
 rw [if_pos rfl]
 omega
theorem pD (l:List Int) (i:Nat):fK l i≤l.length-i:=by
 have:=GV (l.getD i 0) (l.drop i)
 rwa [List.length_drop] at this
theorem Em {l:List Int} {i j:Nat} (h:j<fK l i):l[i+j]? = some (l.getD i 0):=by
 have:=GJ (l.getD i 0) (l.drop i) j h
 rwa [List.getElem?_drop] at this
theorem wg {l:List Int} {i:Nat} (h:i+fK l i<l.length):l[i+fK l i]? ≠ some (l.getD i 0):=by
 have:=Aw (l.getD i 0) (l.drop i) (by rw [List.length_drop]; unfold fK at h; omega)
 rwa [List.getElem?_drop] at this
def CU (x:Int) (pv:Bool) (r:Nat):Int×Nat×Nat :=
 if x=0∧11≤r then (18,min r 138-11,min r 138) else if x=0∧3≤r then (17,r-3,r) else if x≠0∧3≤r∧pv=true then (16,min r 6-3,min r 6) else (x,0,1)
def FP (l:List Int) (i:Nat):Bool:=decide (0<i∧l.getD (i-1) 0=l.getD i 0)
def fq (l:List Int) (i:Nat):Int×Nat×Nat:=CU (l.getD i 0) (FP l i) (fK l i)
def ka (l:List Int):Nat→Nat→List (Int×Nat)
 | 0,_=>[]
 | k+1,i=>if i<l.length then ((fq l i).1,(fq l i).2.1)::ka l k (i+(fq l i).2.2) else []
theorem zO {l:List Int} {i:Nat} (h:i<l.length):1≤(fq l i).2.2∧(fq l i).2.2≤fK l i∧(fq l i).2.2≤138∧(fq l i).2.1≤127:=by
 have:=mF h
 unfold fq CU
 split
 ·simp; omega
 ·split
  ·simp; omega
  ·split
   ·simp; omega
   ·simp; omega
theorem GH {l:List Int} {k:Nat} {x:Int} (h:l[k]? = some x):∃ hk:k<l.length,l[k]=x:=by
 rw [List.getElem?_eq_some_iff] at h; exact h
theorem xw (a b:Nat) (h:a+b<4611686018427387904):IntKind.i64.wrap ((a:Int)+(b:Int))=((a+b:Nat):Int):=by rw [wrap_i64 (by omega) (by omega)]; omega
theorem EE {a b:Nat} (h:b≤a) (ha:a<4611686018427387904):IntKind.i64.wrap ((a:Int)-(b:Int))=((a-b:Nat):Int):=by rw [wrap_i64 (by omega) (by omega)]; omega
theorem EI {l:List Int} (hl:l.length≤400) {i:Nat} (hi:i<l.length):aG (KY l (i:Int) (l.getD i 0)) bD 1=some (.inl ((fK l i:Nat):Int)):=by
 have hp:=mF hi
 have hle:=pD l i
 refine bX (fun k=>((k+1:Nat):Int)) (fK l i-1) bD rfl (by simp only [bD]; omega) (fun k hk => ?_) ?_
 ·obtain ⟨h1,h2⟩:=GH (Em (l:=l) (i:=i) (j:=k+1) (by omega))
  exact aK (ai (congrArg some (xw i (k+1) (by omega))) (am (decide_eq_true (by omega)) (ai (congrArg some (xw i (k+1) (by omega))) (ai (aA h1) (ai (bW h1) rfl))))) (am (by rw [h2]; exact beq_self_eq_true _) (ai (congrArg some (aI (n:=k+1) (by omega))) rfl))
 ·show KY l (i:Int) (l.getD i 0) ((fK l i-1+1:Nat):Int)=_
  rw [show fK l i-1+1=fK l i by omega]
  by_cases hk:i+fK l i<l.length
  ·have hs:=wg hk
   rw [List.getElem?_eq_getElem hk] at hs
   exact aK (ai (congrArg some (xw i (fK l i) (by omega))) (am (decide_eq_true (by omega)) (ai (congrArg some (xw i (fK l i) (by omega))) (ai (aA hk) (ai (bW hk) rfl))))) (ao (beq_eq_false_iff_ne.2 fun e=>hs (by rw [e])) rfl)
  ·exact aK (ai (congrArg some (xw i (fK l i) (by omega))) (ao (decide_eq_false (by omega)) rfl)) (ao rfl rfl)
theorem qY {A B:Type} {a b:A} (h:a=b):(some (.inl a):Option (A⊕B))=some (.inl b):=by rw [h]
theorem FX {l:List Int} (hl:l.length≤400) {i:Nat} (hi:i<l.length):eM l (i:Int)=some ((fq l i).1,(((fq l i).2.1:Nat):Int),(((fq l i).2.2:Nat):Int)):=by
 have hp:=mF hi
 have hle:=pD l i
 have hg:=bW hi
 rw [← jT hi] at hg
 unfold eM
 refine ai (aA hi) (ai hg (aK (EI hl hi) ?_))
 simp only [fq]
 generalize hx:l.getD i 0=x at *
 generalize hr:fK l i=r at *
 unfold CU
 by_cases h1:x=0∧11≤r
 ·rw [if_pos h1]
  obtain ⟨rfl,h1⟩:=h1
  have e1:(if (138:Int)<(r:Int) then (138:Int) else (r:Int))=((min r 138:Nat):Int):=by
   by_cases h:138<r
   ·rw [if_pos (by omega)]; omega
   ·rw [if_neg (by omega)]; omega
  exact aK (am rfl rfl) (am (decide_eq_true (by omega)) (ai (congrArg some e1) (ai (congrArg some (EE (a:=min r 138) (b:=11) (by omega) (by omega))) rfl)))
 ·rw [if_neg h1]
  refine aK (s:=false) ?_ (ao rfl ?_)
  ·by_cases hx0:x=0
   ·exact am (by rw [hx0]; rfl) (qY (decide_eq_false (fun h=>h1 ⟨hx0,by omega⟩)))
   ·exact ao (beq_eq_false_iff_ne.2 hx0) rfl
  by_cases h2:x=0∧3≤r
  ·rw [if_pos h2]
   obtain ⟨rfl,h2⟩:=h2
   exact aK (am rfl rfl) (am (decide_eq_true (by omega)) (ai (congrArg some (EE (a:=r) (b:=3) (by omega) (by omega))) rfl))
  ·rw [if_neg h2]
   refine aK (s:=false) ?_ (ao rfl ?_)
   ·by_cases hx0:x=0
    ·exact am (by rw [hx0]; rfl) (qY (decide_eq_false (fun h=>h2 ⟨hx0,by omega⟩)))
    ·exact ao (beq_eq_false_iff_ne.2 hx0) rfl
   by_cases h3:x≠0∧3≤r∧FP l i=true
   ·rw [if_pos h3]
    obtain ⟨h31,h32,h33⟩:=h3
    have hpv:=of_decide_eq_true h33
    have hi1:i-1<l.length:=by omega
    have hg1:=bW hi1
    rw [← jT hi1,hpv.2,hx] at hg1
    have e1:(if (6:Int)<(r:Int) then (6:Int) else (r:Int))=((min r 6:Nat):Int):=by
     by_cases h:6<r
     ·rw [if_pos (by omega)]; omega
     ·rw [if_neg (by omega)]; omega
    exact aK (am (bne_iff_ne.2 h31) (am (decide_eq_true (by omega)) (am (decide_eq_true (by omega)) (ai (congrArg some (EE (a:=i) (b:=1) (by omega) (by omega))) (ai (aA hi1) (ai hg1 rfl)))))) (am (beq_self_eq_true _) (ai (congrArg some e1) (ai (congrArg some (EE (a:=min r 6) (b:=3) (by omega) (by omega))) rfl)))
   ·rw [if_neg h3]
    refine aK (s:=false) ?_ (ao rfl rfl)
    by_cases hx0:x=0
    ·exact ao (by rw [hx0]; rfl) rfl
    ·by_cases hr3:3≤r
     ·by_cases hi0:0<i
      ·have hi1:i-1<l.length:=by omega
       have hg1:=bW hi1
       rw [← jT hi1] at hg1
       exact am (bne_iff_ne.2 hx0) (am (decide_eq_true (by omega)) (am (decide_eq_true (by omega)) (ai (congrArg some (EE (a:=i) (b:=1) (by omega) (by omega))) (ai (aA hi1) (ai hg1 (qY (beq_eq_false_iff_ne.2 fun e=>h3 ⟨hx0,hr3,decide_eq_true ⟨hi0,by rw [e,hx]⟩⟩)))))))
      ·exact am (bne_iff_ne.2 hx0) (am (decide_eq_true (by omega)) (ao (decide_eq_false (by omega)) rfl))
     ·exact am (bne_iff_ne.2 hx0) (ao (decide_eq_false (by omega)) rfl)
def Jt (l:List Int):Prop:=l.length≤320∧∀ n∈l,0≤n∧n≤15
instance okRDec (l:List Int):Decidable (Jt l):=by unfold Jt; infer_instance
theorem vQ (l:List Int):∀ (k i:Nat),(ka l k i).length≤k
 | 0,_=>Nat.le_refl _
 | k+1,i=>by
  unfold ka
  split
  ·simp only [List.length_cons]
   have:=vQ l k (i+(fq l i).2.2)
   omega
  ·simp
def sy (p:List (Int×Nat)):List Int:=p.map fun x=>x.1
def mo (p:List (Int×Nat)):List Int:=p.map fun x=>((x.2:Nat):Int)
theorem xj {l:List Int} (hl:l.length≤400):∀ (k i fuel:Nat) (p:List (Int×Nat)),i≤l.length→l.length-i≤k→k<fuel→p.length≤i→aG (JT l) fuel (sy p,mo p,(i:Int))=some (.inl (sy (p++ka l k i),mo (p++ka l k i)))
 | k,i,fuel,p,hi,hk,hf,hp=>by
  obtain ⟨fu,rfl⟩:∃ fu,fuel=fu+1:=⟨fuel-1,by omega⟩
  by_cases hlt:i<l.length
  ·obtain ⟨k,rfl⟩:∃ k',k=k'+1:=⟨k-1,by omega⟩
   obtain ⟨c1,c2,c3,c4⟩:=zO hlt
   have hle:=pD l i
   have ih:=xj hl k (i+(fq l i).2.2) fu (p++[((fq l i).1,(fq l i).2.1)]) (by omega) (by omega) (by omega) (by simp; omega)
   have e0:p++ka l (k+1) i=(p++[((fq l i).1,(fq l i).2.1)])++ka l k (i+(fq l i).2.2):=by
    rw [ka,if_pos hlt]; simp
   rw [e0]
   refine (bh (am (decide_eq_true (by omega)) (ai (FX hl hlt) (ai (ev (m:=[(fq l i).1]) ?_ ?_) (ai (ev (m:=[(((fq l i).2.1:Nat):Int)]) ?_ ?_) (ai (congrArg some (xw i (fq l i).2.2 (by omega))) rfl)))))).trans ?_
   ·simp [sy]; omega
   ·simp [sy]; omega
   ·simp [mo]; omega
   ·simp [mo]; omega
   ·rw [← ih]
    simp [sy,mo]
  ·have e:ka l k i=[]:=by
    cases k with
    | zero=>rfl
    | succ k=>rw [ka,if_neg hlt]
   rw [e,List.append_nil]
   exact aV (ao (decide_eq_false (by omega)) rfl)
def wC (l:List Int):List (Int×Nat):=ka l l.length 0
theorem Dg {l:List Int} (hl:l.length≤400):gq l=some (if Jt l then (sy (wC l),mo (wC l),0) else ([],[],1)):=by
 unfold gq
 by_cases h3:l.length≤320
 ·refine ao (decide_eq_false (by omega)) ?_
  have hv:aG (KK l) bD 0=some (if ∀ i,i<l.length→decide (0≤l.getD i 0∧l.getD i 0≤15)=true then .inl () else .inr ([],[],1)):=by
   refine nM (fun i=>decide (0≤l.getD i 0∧l.getD i 0≤15)) l.length _ (by simp only [bD]; omega) (fun i hi hp => ?_) (fun i hi hp => ?_) (ao (decide_eq_false (by omega)) rfl)
   ·have hp:=of_decide_eq_true hp
    have hg:=bW hi
    rw [← jT hi] at hg
    exact am (decide_eq_true (by omega)) (ai (aA hi) (ai hg (aK (ao (decide_eq_false (by omega)) (qY (decide_eq_false (by omega)))) (ao rfl (ai (congrArg some (aI (n:=i) (by omega))) rfl)))))
   ·have hp:=of_decide_eq_false hp
    have hg:=bW hi
    rw [← jT hi] at hg
    refine am (decide_eq_true (by omega)) (ai (aA hi) (ai hg (aK (s:=true) ?_ (am rfl rfl))))
    by_cases h0:l.getD i 0<0
    ·exact am (decide_eq_true h0) rfl
    ·exact ao (decide_eq_false h0) (qY (decide_eq_true (by omega)))
  have hq:(∀ i,i<l.length→decide (0≤l.getD i 0∧l.getD i 0≤15)=true)↔Jt l:=by
   constructor
   ·intro h
    refine ⟨h3,fun n hn => ?_⟩
    obtain ⟨i,hi,rfl⟩:=List.getElem_of_mem hn
    have:=of_decide_eq_true (h i hi)
    rwa [jT hi] at this
   ·intro h i hi
    rw [jT hi]
    exact decide_eq_true (h.2 _ (List.getElem_mem hi))
  by_cases ho:Jt l
  ·rw [if_pos (hq.2 ho)] at hv
   rw [if_pos ho]
   refine aK hv ?_
   have hlp:=xj hl l.length 0 bD [] (by omega) (by omega) (by simp only [bD]; omega) (by simp)
   exact aK hlp rfl
  ·rw [if_neg (fun h=>ho (hq.1 h))] at hv
   rw [if_neg ho]
   exact oy hv rfl
 ·rw [if_neg (fun h=>h3 h.1)]
  exact am (decide_eq_true (by omega)) rfl
set_option maxRecDepth 100000
def Lz (sL:List Int):(((List Int)×Int))→Option (((List Int)×Int)⊕(((List Int))⊕af)):=(fun ((s17,s18):(List Int)×Int) =>
 cond ((decide (s18<(sL.length:Int))))
  ((bf s18 sL.length).bind fun v6 =>
  (aB sL v6).bind fun v7 =>
  (bf v7 s17.length).bind fun v8 =>
  (aB s17 v8).bind fun v9 =>
  (some (IntKind.i64.wrap (v9+1))).bind fun v10 =>
  (bf v7 s17.length).bind fun v11 =>
  (some (s17.set v11 v10)).bind fun v12 =>
  (some (IntKind.i64.wrap (s18+1))).bind fun v13 =>
  some (.inl (v12,v13)))
  (some (.inr (.inl s17))))
def Lr (lL:List Int):(((List Int)×Int))→Option (((List Int)×Int)⊕(((List Int))⊕af)):=(fun ((s41,s42):(List Int)×Int) =>
 cond ((decide (s42<19)))
  ((bf s42 19).bind fun v31 =>
  (aB ck v31).bind fun v32 =>
  (bf v32 lL.length).bind fun v33 =>
  (aB lL v33).bind fun v34 =>
  (bf s42 s41.length).bind fun v35 =>
  (some (s41.set v35 v34)).bind fun v36 =>
  (some (IntKind.i64.wrap (s42+1))).bind fun v37 =>
  some (.inl (v36,v37)))
  (some (.inr (.inl s41))))
def Lo (v52:List Int):(((List Int)×Int×Int))→Option (((List Int)×Int×Int)⊕(((List Int)×Int)⊕af)):=(fun ((s68,s69,s70):(List Int)×Int×Int) =>
 cond ((decide (s70<(v52.length:Int))))
  ((bf s70 v52.length).bind fun v60 =>
  (aB v52 v60).bind fun v61 =>
  (aR (af.mk s68 s69) v61 3).bind fun v62 =>
  (some (IntKind.i64.wrap (s70+1))).bind fun v63 =>
  some (.inl (v62.b,v62.n,v63)))
  (some (.inr (.inl (s68,s69)))))
def LB (sL mL:List Int) (v81:bt):(((List Int)×Int×Int))→Option (((List Int)×Int×Int)⊕(((List Int)×Int)⊕af)):=(fun ((s95,s96,s97):(List Int)×Int×Int) =>
 cond ((decide (s97<(sL.length:Int))))
  ((bf s97 sL.length).bind fun v83 =>
  (aB sL v83).bind fun v84 =>
  (bo (af.mk s95 s96) v81 v84).bind fun v85 =>
  (bf s97 mL.length).bind fun v86 =>
  (aB mL v86).bind fun v87 =>
  (eL v84).bind fun v88 =>
  (aR v85 v87 v88).bind fun v89 =>
  (some (IntKind.i64.wrap (s97+1))).bind fun v90 =>
  some (.inl (v89.b,v89.n,v90)))
  (some (.inr (.inl (s95,s96)))))
def uN (s:Nat):Nat:=if s=16 then 2 else if s=17 then 3 else if s=18 then 7 else 0
theorem xI (s:Nat):uN s≤7:=by
 unfold uN
 split
 ·omega
 ·split
  ·omega
  ·split <;> omega
theorem sc (s:Nat):eL (s:Int)=some ((uN s:Nat):Int):=by
 unfold eL uN
 by_cases h1:s=16
 ·subst h1; rfl
 rw [if_neg h1]
 refine ao (beq_eq_false_iff_ne.2 (by omega)) ?_
 by_cases h2:s=17
 ·subst h2; rfl
 rw [if_neg h2]
 refine ao (beq_eq_false_iff_ne.2 (by omega)) ?_
 by_cases h3:s=18
 ·subst h3; rfl
 rw [if_neg h3]
 exact ao (beq_eq_false_iff_ne.2 (by omega)) rfl
def jc (l:List Nat):List (Nat×Nat):=(wC (ints l)).map fun p=>(p.1.toNat,p.2)
def GE (p:Int×Nat):Prop:=0≤p.1∧p.1≤18∧p.2<2 ^ uN p.1.toNat
theorem Gf {l:List Int} (hv:∀ n∈l,0≤n∧n≤15) {i:Nat} (hi:i<l.length):GE ((fq l i).1,(fq l i).2.1):=by
 have hx:=hv _ (List.getElem_mem hi)
 rw [← jT hi] at hx
 have hp:=mF hi
 unfold fq CU
 by_cases h1:l.getD i 0=0∧11≤fK l i
 ·rw [if_pos h1]
  refine ⟨show (0:Int)≤18 by decide,show (18:Int)≤18 by decide,?_⟩
  show min (fK l i) 138-11<2 ^ 7
  have e:(2:Nat) ^ 7=128:=by decide
  omega
 ·rw [if_neg h1]
  by_cases h2:l.getD i 0=0∧3≤fK l i
  ·rw [if_pos h2]
   refine ⟨show (0:Int)≤17 by decide,show (17:Int)≤18 by decide,?_⟩
   show fK l i-3<2 ^ 3
   have e:(2:Nat) ^ 3=8:=by decide
   omega
  ·rw [if_neg h2]
   by_cases h3:l.getD i 0≠0∧3≤fK l i∧FP l i=true
   ·rw [if_pos h3]
    refine ⟨show (0:Int)≤16 by decide,show (16:Int)≤18 by decide,?_⟩
    show min (fK l i) 6-3<2 ^ 2
    have e:(2:Nat) ^ 2=4:=by decide
    omega
   ·rw [if_neg h3]
    exact ⟨hx.1,by show l.getD i 0≤18; omega,Nat.two_pow_pos _⟩
theorem un {l:List Int} (hv:∀ n∈l,0≤n∧n≤15):∀ k i,∀ p∈ka l k i,GE p
 | 0,i,p,h=>by simp [ka] at h
 | k+1,i,p,h=>by
  unfold ka at h
  split at h
  ·rename_i hi
   rcases List.mem_cons.1 h with rfl | h
   ·exact Gf hv hi
   ·exact un hv k _ p h
  ·simp at h
theorem ur {l:List Nat} (h:∀ x∈l,x≤15):∀ n∈ints l,0≤n∧n≤15:=fun n hn=>by
 obtain ⟨x,hx,rfl⟩:=List.mem_map.1 hn
 have:=h x hx
 omega
theorem zZ {l:List Nat} (h:∀ x∈l,x≤15):∀ p∈jc l,p.1≤18∧p.2<2 ^ uN p.1:=fun p hp=>by
 obtain ⟨q,hq,rfl⟩:=List.mem_map.1 hp
 obtain ⟨k1,k2,k3⟩:=un (ur h) _ _ q hq
 exact ⟨by show q.1.toNat≤18; omega,k3⟩
theorem oU (l:List Nat):(jc l).length≤l.length:=by
 rw [jc,List.length_map]
 have:=vQ (ints l) (ints l).length 0
 have e:=aD l
 unfold wC
 omega
def sN (R:List (Nat×Nat)):List Nat:=R.map fun p=>p.1
def mN (R:List (Nat×Nat)):List Nat:=R.map fun p=>p.2
theorem wG {l:List Nat} (h:∀ x∈l,x≤15) (hl:l.length≤320):gq (ints l)=some (ints (sN (jc l)),ints (mN (jc l)),0):=by
 rw [Dg (by rw [aD]; omega),if_pos ⟨by rw [aD]; exact hl,ur h⟩]
 have e1:sy (wC (ints l))=ints (sN (jc l)):=by
  simp only [sy,ints,sN,jc,List.map_map]
  refine List.map_congr_left fun p hp => ?_
  have:=(un (ur h) _ _ p hp).1
  simp only [Function.comp]
  omega
 have e2:mo (wC (ints l))=ints (mN (jc l)):=by
  simp only [mo,ints,mN,jc,List.map_map]
  rfl
 rw [e1,e2]
def IJ (s:List Nat):List Nat:=s.foldl tK (List.replicate 19 0)
theorem Cn:∀ (s a:List Nat) (c:Nat),a.length=19→(∀ x∈a,x≤c)→(s.foldl tK a).length=19∧∀ x∈s.foldl tK a,x≤c+s.length
 | [],a,c,h1,h2=>⟨h1,h2⟩
 | t::s,a,c,h1,h2=>by
  have:=Cn s (tK a t) (c+1) (by rw [mJ]; exact h1) (pn h2)
  rw [List.foldl_cons,List.length_cons,show c+(s.length+1)=c+1+s.length by omega]
  exact this
theorem JB (s:List Nat):(IJ s).length=19∧∀ x∈IJ s,x≤s.length:=by
 have:=Cn s (List.replicate 19 0) 0 (by simp) (fun x hx=>by rw [List.mem_replicate] at hx; omega)
 rw [Nat.zero_add] at this
 exact this
theorem vB {s:List Nat} (hs:∀ x∈s,x≤18) (hl:s.length≤5000):∀ (k i fuel:Nat) (a:List Nat) (c:Nat),i+k=s.length→k<fuel→a.length=19→(∀ x∈a,x≤c)→c+k≤900000 →
  aG (Lz (ints s)) fuel (ints a,(i:Int))=some (.inl (ints ((s.drop i).foldl tK a)))
 | 0,i,fuel,a,c,hk,hf,h1,h2,hc=>by
  obtain ⟨fu,rfl⟩:∃ fu,fuel=fu+1:=⟨fuel-1,by omega⟩
  rw [List.drop_eq_nil_of_le (by omega)]
  exact aV (ao (decide_eq_false (by rw [aD]; omega)) rfl)
 | k+1,i,fuel,a,c,hk,hf,h1,h2,hc=>by
  obtain ⟨fu,rfl⟩:∃ fu,fuel=fu+1:=⟨fuel-1,by omega⟩
  have hi:i<s.length:=by omega
  have h18:=hs _ (List.getElem_mem hi)
  obtain ⟨i1,i2⟩:=jt (a:=a) (s:=s[i]) rfl (by omega)
  have hb:a.getD s[i] 0≤c:=by
   rw [List.getD_eq_getElem?_getD,List.getElem?_eq_getElem (show s[i]<a.length by omega),Option.getD_some]
   exact h2 _ (List.getElem_mem _)
  rw [List.drop_eq_getElem_cons hi,List.foldl_cons]
  exact (bh (am (decide_eq_true (by rw [aD]; omega)) (ai (aA (by rw [aD]; exact hi)) (ai (cK hi) (ai i1 (ai i2 (ai (congrArg some (aI (n:=a.getD s[i] 0) (by omega))) (ai i1 (ai (congrArg some (gY a _ _)) (ai (congrArg some (aI (n:=i) (by omega))) rfl)))))))))).trans
   (vB hs hl k (i+1) fu (tK a s[i]) (c+1) (by omega) (by omega) (by rw [mJ]; exact h1) (pn h2) (by omega))
def jY:List Nat:=[16,17,18,0,8,7,9,6,10,5,11,4,12,3,13,2,14,1,15]
theorem HS:ck=ints jY:=by kernel_rfl
theorem Ds:∀ x∈jY,x≤18:=by decide
def gg (m:List Nat):List Nat:=jY.map fun s=>m.getD s 0
theorem wJ {m:List Nat} (hm:m.length=19):∀ (k i fuel:Nat),i+k=19→k<fuel →
  aG (Lr (ints m)) fuel (ints ((gg m).take i++List.replicate k 0),(i:Int))=some (.inl (ints (gg m)))
 | 0,i,fuel,hk,hf=>by
  obtain ⟨fu,rfl⟩:∃ fu,fuel=fu+1:=⟨fuel-1,by omega⟩
  have:(gg m).length=19:=by simp [gg,jY]
  rw [List.replicate_zero,List.append_nil,List.take_of_length_le (by omega)]
  exact aV (ao (decide_eq_false (by omega)) rfl)
 | k+1,i,fuel,hk,hf=>by
  obtain ⟨fu,rfl⟩:∃ fu,fuel=fu+1:=⟨fuel-1,by omega⟩
  have lo:jY.length=19:=rfl
  have hlo:(gg m).length=19:=by rw [gg,List.length_map,lo]
  have hi:i<jY.length:=by omega
  have hil:i<(gg m).length:=by omega
  have hx:=Ds _ (List.getElem_mem hi)
  have hl:((gg m).take i++List.replicate (k+1) 0).length=19:=by rw [List.length_append,List.length_take,List.length_replicate]; omega
  obtain ⟨i1,i2⟩:=jt (a:=m) (s:=jY[i]) rfl (by omega)
  have hset:((gg m).take i++List.replicate (k+1) 0).set i (m.getD jY[i] 0)=(gg m).take (i+1)++List.replicate k 0:=by
   rw [List.set_append_right _ _ (by rw [List.length_take]; omega),List.length_take,Nat.min_eq_left (by omega),Nat.sub_self,List.replicate_succ,List.set_cons_zero,List.take_add_one,List.getElem?_eq_getElem hil,List.append_assoc]
   simp [gg]
   rfl
  exact (bh (am (decide_eq_true (by omega)) (ai (aA (by omega)) (ai (x:=((jY[i]:Nat):Int)) (by rw [HS]; exact cK hi) (ai i1 (ai i2 (ai (aA (by rw [aD]; omega)) (ai (congrArg some ((gY _ i _).trans (congrArg ints hset))) (ai (congrArg some (aI (n:=i) (by omega))) rfl))))))))).trans (wJ hm k (i+1) fu (by omega) (by omega))
def nP (n:Nat) (l:List Nat):List (Nat×Nat):=l.map fun x=>(x,n)
theorem yc (n:Nat) (l:List Nat):cE (nP n l)=n * l.length:=by
 induction l with
 | nil=>rfl
 | cons x l ih =>
  have:cE (nP n (x::l))=n+cE (nP n l):=by simp [cE,nP]
  rw [this,ih,List.length_cons,Nat.mul_succ]; omega
theorem wj {o:List Nat} (ho:∀ x∈o,x<8) (hl:o.length≤100):∀ (k i fuel:Nat) (w:af) (ps:List (Nat×Nat)),i+k=o.length→k<fuel→WP w ps→cE ps+3 * k≤900000 →
  ∃ w',aG (Lo (ints o)) fuel (w.b,w.n,(i:Int))=some (.inl (w'.b,w'.n))∧WP w' (ps++nP 3 (o.drop i))
 | 0,i,fuel,w,ps,hk,hf,h,hN=>by
  obtain ⟨fu,rfl⟩:∃ fu,fuel=fu+1:=⟨fuel-1,by omega⟩
  rw [List.drop_eq_nil_of_le (by omega)]
  exact ⟨w,aV (ao (decide_eq_false (by rw [aD]; omega)) rfl),by simpa [nP] using h⟩
 | k+1,i,fuel,w,ps,hk,hf,h,hN=>by
  obtain ⟨fu,rfl⟩:∃ fu,fuel=fu+1:=⟨fuel-1,by omega⟩
  have hi:i<o.length:=by omega
  have hx:=ho _ (List.getElem_mem hi)
  obtain ⟨w1,p1,q1⟩:=h.puts (v:=((o[i]:Nat):Int)) (n:=3) o[i] 3 rfl rfl (by omega) (by omega) (by omega)
  obtain ⟨w2,p2,q2⟩:=wj ho hl k (i+1) fu w1 (ps++[(o[i],3)]) (by omega) (by omega) q1 (by rw [bJ]; simp only [cE,List.map_cons,List.map_nil,List.sum_cons,List.sum_nil] at hN ⊢; omega)
  refine ⟨w2,(bh (am (decide_eq_true (by rw [aD]; omega)) (ai (aA (by rw [aD]; exact hi)) (ai (cK hi) (ai p1 (ai (congrArg some (aI (n:=i) (by omega))) rfl)))))).trans p2,?_⟩
  rw [List.drop_eq_getElem_cons hi]
  have e:nP 3 (o[i]::o.drop (i+1))=[(o[i],3)]++nP 3 (o.drop (i+1)):=rfl
  rw [e,← List.append_assoc]; exact q2
def BI (m:List Nat) (R:List (Nat×Nat)):List (Nat×Nat):=(R.map fun p=>[kt m p.1,(p.2,uN p.1)]).flatten
theorem DR {m:List Nat} (hm:∀ x∈m,x≤15):∀ R:List (Nat×Nat),cE (BI m R)≤22 * R.length
 | []=>by simp [BI,cE]
 | p::R=>by
  have h1:=DR hm R
  have e:BI m (p::R)=[kt m p.1,(p.2,uN p.1)]++BI m R:=rfl
  have h2:=xI p.1
  have h3:m.getD p.1 0≤15:=by
   rw [List.getD_eq_getElem?_getD]
   cases hj:m[p.1]? with
   | none=>simp
   | some x=>simpa using hm x (List.mem_of_getElem? hj)
  rw [e,bJ,List.length_cons]
  simp only [cE,kt,List.map_cons,List.map_nil,List.sum_cons,List.sum_nil] at h1 ⊢
  omega
theorem vK {m:List Nat} (hm:Cd m) (hml:m.length=19) {R:List (Nat×Nat)} (hR:∀ p∈R,p.1≤18∧p.2<2 ^ uN p.1) (hl:R.length≤400):∀ (k i fuel:Nat) (w:af) (ps:List (Nat×Nat)),i+k=R.length→k<fuel→WP w ps→cE ps+22 * k≤900000 →
  ∃ w',aG (LB (ints (sN R)) (ints (mN R)) (EC m)) fuel (w.b,w.n,(i:Int))=some (.inl (w'.b,w'.n))∧WP w' (ps++BI m (R.drop i))
 | 0,i,fuel,w,ps,hk,hf,h,hN=>by
  obtain ⟨fu,rfl⟩:∃ fu,fuel=fu+1:=⟨fuel-1,by omega⟩
  rw [List.drop_eq_nil_of_le (by omega)]
  exact ⟨w,aV (ao (decide_eq_false (by rw [aD,sN,List.length_map]; omega)) rfl),by simpa [BI] using h⟩
 | k+1,i,fuel,w,ps,hk,hf,h,hN=>by
  obtain ⟨fu,rfl⟩:∃ fu,fuel=fu+1:=⟨fuel-1,by omega⟩
  have hi:i<R.length:=by omega
  have hx:=hR _ (List.getElem_mem hi)
  have hs:i<(sN R).length:=by rw [sN,List.length_map]; exact hi
  have hmm:i<(mN R).length:=by rw [mN,List.length_map]; exact hi
  have g1:aB (ints (sN R)) i=some ((R[i].1:Nat):Int):=by rw [cK hs]; simp [sN]
  have g2:aB (ints (mN R)) i=some ((R[i].2:Nat):Int):=by rw [cK hmm]; simp [mN]
  obtain ⟨w1,p1,q1⟩:=h.sym hm (j:=R[i].1) (by omega) (by omega)
  have c1:=(gV hm (j:=R[i].1) (by omega)).2
  have c2:=xI R[i].1
  have s1:cE (ps++[kt m R[i].1])≤cE ps+15:=by rw [bJ]; simp only [cE,kt,List.map_cons,List.map_nil,List.sum_cons,List.sum_nil]; omega
  obtain ⟨w2,p2,q2⟩:=q1.put R[i].2 (uN R[i].1) (by omega) hx.2 (by omega)
  have s2:cE (ps++[kt m R[i].1]++[(R[i].2,uN R[i].1)])≤cE ps+22:=by rw [bJ _ [(R[i].2,uN R[i].1)]]; simp only [cE,List.map_cons,List.map_nil,List.sum_cons,List.sum_nil] at s1 ⊢; omega
  obtain ⟨w3,p3,q3⟩:=vK hm hml hR hl k (i+1) fu w2 _ (by omega) (by omega) q2 (by omega)
  refine ⟨w3,(bh (am (decide_eq_true (by rw [aD]; omega)) (ai (aA (by rw [aD]; exact hs)) (ai g1 (ai p1 (ai (aA (by rw [aD]; exact hmm)) (ai g2 (ai (sc _) (ai p2 (ai (congrArg some (aI (n:=i) (by omega))) rfl)))))))))).trans p3,?_⟩
  rw [List.drop_eq_getElem_cons hi]
  have e:BI m (R[i]::R.drop (i+1))=[kt m R[i].1]++([(R[i].2,uN R[i].1)]++BI m (R.drop (i+1))):=rfl
  rw [e,← List.append_assoc,← List.append_assoc]; exact q3
def sZ (l:List Nat):List Nat:=Ca (IJ (sN (jc l))) 7
theorem Ko {w:List Nat} (h:w.length≤19):qn (ints w) ((7:Nat):Int):=by
 have:=kN (ints w)
 rw [aD] at this
 unfold qn
 rw [if_pos (by omega)]
 omega
theorem Gr (w:List Nat):qn (ints w) ((15:Nat):Int):=by
 unfold qn
 split <;> omega
theorem yU {l:List Nat} (hl:l.length≤320):bP (ints (IJ (sN (jc l)))) ((7:Nat):Int)=some (ints (sZ l),0)∧Cd (sZ l)∧(sZ l).length=19∧(∀ j,j<19→(0<(sZ l).getD j 0↔0<(IJ (sN (jc l))).getD j 0))∧∀ x∈sZ l,x≤7:=by
 obtain ⟨h1,h2⟩:=JB (sN (jc l))
 have hrl:=oU l
 have:=ub (w:=IJ (sN (jc l))) (lim:=7) (by omega) (fun x hx=>by have:=h2 x hx; rw [sN,List.length_map] at this; omega) (Ko (by omega))
 rw [h1] at this
 exact this
def qU (l:List Nat):List Nat:=sO (gg (sZ l)) 4
theorem uL (l:List Nat):4≤(qU l).length∧(qU l).length≤19:=by
 have hlo:(gg (sZ l)).length=19:=by simp [gg,jY]
 have h1:=uH (gg (sZ l)) 4 19
 have h2:=xo (gg (sZ l)) 4 19 (by omega)
 unfold qU sO
 rw [List.length_take,hlo]
 omega
def GR (ml md:List Nat):List (Nat×Nat) :=
 [(ml.length-257,5),(md.length-1,5),((qU (ml++md)).length-4,4)]++(nP 3 (qU (ml++md))++BI (sZ (ml++md)) (jc (ml++md)))
theorem xE {ml md:List Nat} (hl:ml.length+md.length≤320):cE (GR ml md)≤8000:=by
 obtain ⟨_,c2,_⟩:=yU (l:=ml++md) (by simp; omega)
 have h1:=DR c2.le (jc (ml++md))
 have h2:=oU (ml++md)
 have h3:=uL (ml++md)
 unfold GR
 rw [bJ,bJ,yc]
 simp only [cE,List.map_cons,List.map_nil,List.sum_cons,List.sum_nil] at h1 ⊢
 rw [List.length_append] at h2
 omega
theorem sM {ml md:List Nat} (h1:∀ x∈ml,x≤15) (h2:∀ x∈md,x≤15) (l1:257≤ml.length) (l2:ml.length≤286) (l3:1≤md.length) (l4:md.length≤30) {w:af} {ps:List (Nat×Nat)} (h:WP w ps) (hN:cE ps≤100) :
  ∃ w',cP w (ints ml) (ints md)=some w'∧WP w' (ps++GR ml md):=by
 have hL:∀ x∈ml++md,x≤15:=fun x hx=>(List.mem_append.1 hx).elim (h1 x) (h2 x)
 have hll:(ml++md).length≤320:=by rw [List.length_append]; omega
 obtain ⟨c1,c2,c3,c4,c5⟩:=yU (l:=ml++md) hll
 have hrn:=oU (ml++md)
 have hrok:=zZ hL
 have a1:ce 8 ([]:List Int) (ints ml)=some (ints ml):=ev (l:=([]:List Int)) (by simp [ints]; omega) (by simp [ints]; omega)
 have a2:ce 8 (ints ml) (ints md)=some (ints (ml++md)):=by rw [ev (by simp [ints]; omega) (by simp [ints]; omega)]; simp [ints]
 have m1:pr 8 19 (0:Int)=some (ints (List.replicate 19 0)):=by kernel_rfl
 have k0:=vB (s:=sN (jc (ml++md))) (fun x hx=>by
  obtain ⟨p,hp,rfl⟩:=List.mem_map.1 hx
  exact (hrok p hp).1) (by rw [sN,List.length_map]; omega) (sN (jc (ml++md))).length 0 bD (List.replicate 19 0) 0 (by omega) (by rw [sN,List.length_map]; simp only [bD]; omega) (by simp) (fun x hx=>by rw [List.mem_replicate] at hx; omega) (by rw [sN,List.length_map]; omega)
 rw [List.drop_zero] at k0
 have k1:=wJ (m:=sZ (ml++md)) c3 19 0 bD rfl (by simp only [bD]; omega)
 rw [List.take_zero,List.nil_append] at k1
 have hol:(gg (sZ (ml++md))).length=19:=by simp [gg,jY]
 have k2:=qs (l:=gg (sZ (ml++md))) (by omega) 4
 obtain ⟨o1,o2⟩:=uL (ml++md)
 have ho:∀ x∈qU (ml++md),x<8:=fun x hx=>by
  have:=List.mem_of_mem_take hx
  obtain ⟨s,hs,rfl⟩:=List.mem_map.1 this
  have:(sZ (ml++md)).getD s 0≤7:=by
   rw [List.getD_eq_getElem?_getD]
   cases hj:(sZ (ml++md))[s]? with
   | none=>simp
   | some y=>simpa using c5 y (List.mem_of_getElem? hj)
  omega
 obtain ⟨w1,p1,q1⟩:=h.puts (v:=((ml.length-257:Nat):Int)) (n:=5) (ml.length-257) 5 rfl rfl (by omega) (by omega) (by omega)
 have s1:cE (ps++[(ml.length-257,5)])=cE ps+5:=by rw [bJ]; rfl
 obtain ⟨w2,p2,q2⟩:=q1.puts (v:=((md.length-1:Nat):Int)) (n:=5) (md.length-1) 5 rfl rfl (by omega) (by omega) (by omega)
 have s2:cE (ps++[(ml.length-257,5)]++[(md.length-1,5)])=cE ps+10:=by rw [bJ,s1]; rfl
 obtain ⟨w3,p3,q3⟩:=q2.puts (v:=(((qU (ml++md)).length-4:Nat):Int)) (n:=4) ((qU (ml++md)).length-4) 4 rfl rfl (by omega) (by omega) (by omega)
 have s3:cE (ps++[(ml.length-257,5)]++[(md.length-1,5)]++[((qU (ml++md)).length-4,4)])=cE ps+14:=by rw [bJ,s2]; rfl
 obtain ⟨w4,p4,q4⟩:=wj ho (by omega) (qU (ml++md)).length 0 bD w3 _ (by omega) (by simp only [bD]; omega) q3 (by omega)
 rw [List.drop_zero] at q4
 have s4:cE (ps++[(ml.length-257,5)]++[(md.length-1,5)]++[((qU (ml++md)).length-4,4)]++nP 3 (qU (ml++md)))≤cE ps+14+57:=by rw [bJ,s3,yc]; omega
 obtain ⟨w5,p5,q5⟩:=vK c2 c3 hrok (by omega) (jc (ml++md)).length 0 bD w4 _ (by omega) (by simp only [bD]; omega) q4 (by omega)
 rw [List.drop_zero] at q5
 refine ⟨w5,?_,by unfold GR; simpa only [List.append_assoc,List.cons_append,List.nil_append] using q5⟩
 unfold cP
 have e1:IntKind.i64.wrap (((ints ml).length:Int)-257)=((ml.length-257:Nat):Int):=by rw [aD,wrap_i64 (by omega) (by omega)]; omega
 have e2:IntKind.i64.wrap (((ints md).length:Int)-1)=((md.length-1:Nat):Int):=by rw [aD,wrap_i64 (by omega) (by omega)]; omega
 have e3:IntKind.i64.wrap (((ints (qU (ml++md))).length:Int)-4)=(((qU (ml++md)).length-4:Nat):Int):=by rw [aD,wrap_i64 (by omega) (by omega)]; omega
 exact ai a1 (ai a2 (ai (wG hL hll) (ai m1 (aK k0 (ai c1 (ai m1 (aK k1 (ai k2 (ai (congrArg some e1) (ai p1 (ai (congrArg some e2) (ai p2 (ai (congrArg some e3) (ai p3 (aK p4 (ai (jH c2) (aK p5 rfl)))))))))))))))))
def tH (l:List al):List Nat:=Ca (Bb l).1 15
def xa (l:List al):List Nat:=Ca (Bb l).2 15
def xK (l:List al):List (Nat×Nat) :=
 [(1,1),(2,2)]++(GR (sO (tH l) 257) (sO (xa l) 1)++(kR (tH l) (xa l) l++[kt (tH l) 256]))
theorem xT {l:List al} (hl:l.length≤5000):bP (ints (Bb l).1) ((15:Nat):Int)=some (ints (tH l),0)∧Cd (tH l)∧(tH l).length=286∧(∀ j,j<286→(0<(tH l).getD j 0↔0<(Bb l).1.getD j 0))∧∀ x∈tH l,x≤15:=by
 have hI:=GQ l
 have:=ub (w:=(Bb l).1) (lim:=15) (by rw [hI.la]; omega) (fun x hx=>by have:=hI.ba x hx; omega) (Gr _)
 rw [hI.la] at this
 exact this
theorem yz {l:List al} (hl:l.length≤5000):bP (ints (Bb l).2) ((15:Nat):Int)=some (ints (xa l),0)∧Cd (xa l)∧(xa l).length=30∧(∀ j,j<30→(0<(xa l).getD j 0↔0<(Bb l).2.getD j 0))∧∀ x∈xa l,x≤15:=by
 have hI:=GQ l
 have:=ub (w:=(Bb l).2) (lim:=15) (by rw [hI.ld]; omega) (fun x hx=>by have:=hI.bd x hx; omega) (Gr _)
 rw [hI.ld] at this
 exact this
theorem mM {l:List Nat} {least:Nat} (h:least≤l.length):least≤(sO l least).length∧(sO l least).length≤l.length:=by
 have h1:=uH l least l.length
 have h2:=xo l least l.length h
 unfold sO
 rw [List.length_take]
 omega
theorem qm {l:List al} (hl:l.length≤5000) (ht:∀ t∈l,lw t) (hck:eV l=some 0):∃ w,cM l=some (some w)∧WP w (xK l):=by
 obtain ⟨a1,a2,a3,a4,a5⟩:=xT hl
 obtain ⟨b1,b2,b3,b4,b5⟩:=yz hl
 obtain ⟨t1,t2⟩:=mM (l:=tH l) (least:=257) (by omega)
 obtain ⟨t3,t4⟩:=mM (l:=xa l) (least:=1) (by omega)
 obtain ⟨w1,p1,q1⟩:=mn 2 (by omega)
 obtain ⟨w2,p2,q2⟩:=sM (ml:=sO (tH l) 257) (md:=sO (xa l) 1) (fun x hx=>a5 x (List.mem_of_mem_take hx)) (fun x hx=>b5 x (List.mem_of_mem_take hx)) t1 (by omega) t3 (by omega) q1 (by simp [cE])
 have hw:=xE (ml:=sO (tH l) 257) (md:=sO (xa l) 1) (by omega)
 obtain ⟨w3,p3,q3⟩:=nU a2 b2 (by omega) (by omega) hl ht q2 (by rw [bJ]; simp only [cE,List.map_cons,List.map_nil,List.sum_cons,List.sum_nil] at hw ⊢; omega)
 refine ⟨w3,?_,by unfold xK; simpa only [List.append_assoc,List.cons_append,List.nil_append] using q3⟩
 unfold cM
 exact ai (xu hl ht hck) (ai a1 (ai b1 (ai p1 (Ik (ai (qs (by omega) 257) (ai (qs (by omega) 1) (ai p2 (ai (jH a2) (ai (jH b2) (ai p3 rfl))))))))))
set_option maxRecDepth 1000000
theorem Hw:eA=some true:=by kernel_rfl
def JQ (l:List al):List (Nat×Nat):=[(1,1),(1,2)]++(kR mL mD l++[kt mL 256])
def Je (b:List Int):List (Nat×Nat):=[(1,1),(0,2),(0,5),(b.length,16),(65535-b.length,16)]++zk b
theorem pc {b:List Int} (hl:b.length≤4096):(fB b).length≤5000:=by
 have:=mr b
 omega
theorem Db {b:List Int} (hb:∀ n∈b,0≤n∧n<256) (hl:b.length≤4096):∃ w,fP b=some (w.b,0)∧da (fB b)=some (some w)∧WP w (JQ (fB b)):=by
 obtain ⟨w,p,q⟩:=su (pc hl) (km hb)
 refine ⟨w,?_,p,q⟩
 unfold fP
 exact ai (pE hb hl) (ao rfl (ai p rfl))
theorem xB {b:List Int} (hl:b.length≤4096):eV (fB b)=some 0:=by
 have:=mr b
 rw [CA (by omega)]
 unfold Ku
 rw [Bq b]
 show some (if 4096<b.length then (2:Int) else 0)=some 0
 rw [if_neg (by omega)]
set_option maxRecDepth 1000000
theorem Bz {b:List Int} (hb:∀ n∈b,0≤n∧n<256) (hl:b.length≤4096):∃ w,eG b=some (w.b,0)∧cS b=some (some w)∧WP w (Je b):=by
 obtain ⟨w,p,q⟩:=qL hb (by omega)
 refine ⟨w,?_,p,q⟩
 unfold eG
 exact ao (decide_eq_false (by omega)) (ai p rfl)
theorem xr {b:List Int} (hb:∀ n∈b,0≤n∧n<256) (hl:b.length≤4096):∃ w,eN b=some (w.b,0)∧cM (fB b)=some (some w)∧WP w (xK (fB b)):=by
 obtain ⟨w,p,q⟩:=qm (pc hl) (km hb) (xB hl)
 refine ⟨w,?_,p,q⟩
 unfold eN
 exact ai (pE hb hl) (ao rfl (ai p rfl))
theorem EY (b:List Int):cE (Je b)=40+8 * b.length:=by
 unfold Je
 rw [bJ,Hj]; rfl
set_option maxRecDepth 10000
theorem yL (n lo hi:Int):bB n lo hi=some (decide (lo≤n)&&decide (n≤hi)):=by
 unfold bB
 cases h:decide (lo≤n) <;> rfl
theorem yX {f:Nat→Bool} {n:Nat} (h:(List.range n).all f=true):∀ k,k<n→f k=true:=fun k hk=>List.all_eq_true.1 h k (List.mem_range.2 hk)
def Eo (s:bF) (n:Int):((Int))→Option ((Int)⊕((Unit)⊕(Int×Int×Int))):=(fun (s9:Int) =>
 (eR s s9).bind fun v1 =>
 (some (IntKind.i64.wrap (n-v1.1))).bind fun v2 =>
 (iq .i64 1 v1.2).bind fun v3 =>
 cond ((decide (v2<v3)))
  ((some (IntKind.i64.wrap (n-v1.1))).bind fun v5 =>
  some (.inr (.inr ((s9,v1.2,v5)))))
  ((some (IntKind.i64.wrap (s9+1))).bind fun v6 =>
  some (.inl v6)))
def yJ (n:Int):((Int))→Option ((Int)⊕((Unit)⊕(Int×Int×Int×Int))):=(fun (s11:Int) =>
 cond ((decide (0<s11)))
  ((dY s11).bind fun v4 =>
  cond ((decide (v4.1≤n)))
   ((some (IntKind.i64.wrap (n-v4.1))).bind fun v6 =>
   some (.inr (.inr ((s11,v4.2.1,v6,0)))))
   ((some (IntKind.i64.wrap (s11-1))).bind fun v7 =>
   some (.inl v7)))
  (some (.inr (.inl ()))))
def dE (s:Nat):Nat:=if s<4 then 0 else (s-2) / 2
def dL (s:Nat):Nat:=if s<4 then s+1 else 1+(2+s % 2) * 2 ^ ((s-2) / 2)
theorem Am:∀ s:Nat,s<30→decide (eR (bF.mk 1 4 2) (s:Int)=some ((dL s:Int),(dE s:Int)))=true:=yX (by kernel_rfl)
theorem As:∀ s:Nat,s<30→decide (dY (s:Int)=some ((dL s:Int),(dE s:Int),0))=true:=yX (by kernel_rfl)
theorem xh:∀ t,t<30→∀ s,s<t→dL s+2 ^ dE s≤dL t:=by decide
theorem CO:∀ t,t<29→dL t+2 ^ dE t=dL (t+1):=by decide
theorem Dq:∀ t,t<30→dE t≤13∧dL t≤24577:=by decide
theorem BO (n:Nat) (h1:1≤n) (h2:n≤32768):∃ s,s<30∧dL s≤n∧n<dL s+2 ^ dE s:=by
 have key:∀ k,k<30→(∃ s,s<30∧dL s≤n∧n<dL s+2 ^ dE s)∨dL k≤n:=by
  intro k
  induction k with
  | zero=>intro _; exact .inr h1
  | succ k ih =>
   intro hk
   rcases ih (by omega) with h | h
   ·exact .inl h
   ·by_cases hlt:n<dL k+2 ^ dE k
    ·exact .inl ⟨k,by omega,h,hlt⟩
    ·have:=CO k (by omega)
     exact .inr (by omega)
 rcases key 29 (by omega) with h | h
 ·exact h
 ·have e:dL 29+2 ^ dE 29=32769:=by decide
  exact ⟨29,by omega,h,by omega⟩
theorem xb:∀ e:Nat,e<20→decide (iq .i64 1 (e:Int)=some ((2 ^ e:Nat):Int))=true:=by decide
theorem IW (n s0:Nat) (hs:s0<30) (h1:dL s0≤n) (h2:n<dL s0+2 ^ dE s0) (hn:n≤32768):∀ (k fuel i:Nat),s0-i=k→i≤s0→k<fuel →
  aG (Eo (bF.mk 1 4 2) (n:Int)) fuel (i:Int)=some (.inr ((s0:Int),(dE s0:Int),((n-dL s0:Nat):Int))):=by
 intro k
 induction k with
 | zero =>
  intro fuel i hk hi hf
  obtain ⟨f,rfl⟩:∃ f,fuel=f+1:=⟨fuel-1,by omega⟩
  have:i=s0:=by omega
  subst this
  have e1:=of_decide_eq_true (Am i hs)
  have e2:=of_decide_eq_true (xb (dE i) (by have:=(Dq i hs).1; omega))
  generalize 2 ^ dE i=p at *
  have w:IntKind.i64.wrap ((n:Int)-(dL i:Int))=((n-dL i:Nat):Int):=by rw [wrap_i64 (by omega) (by omega)]; omega
  refine aV ?_
  unfold Eo
  exact ai e1 (ai (x:=((n-dL i:Nat):Int)) (by rw [w]) (ai e2 (am (by simp; omega) (ai (x:=((n-dL i:Nat):Int)) (by rw [w]) rfl))))
 | succ k ih =>
  intro fuel i hk hi hf
  obtain ⟨f,rfl⟩:∃ f,fuel=f+1:=⟨fuel-1,by omega⟩
  have hi30:i<30:=by omega
  have e1:=of_decide_eq_true (Am i hi30)
  have e2:=of_decide_eq_true (xb (dE i) (by have:=(Dq i hi30).1; omega))
  have hsep:=xh s0 hs i (by omega)
  generalize 2 ^ dE i=p at *
  have w:IntKind.i64.wrap ((n:Int)-(dL i:Int))=((n-dL i:Nat):Int):=by rw [wrap_i64 (by omega) (by omega)]; omega
  have w1:IntKind.i64.wrap ((i:Int)+1)=((i+1:Nat):Int):=by rw [wrap_i64 (by omega) (by omega)]; simp
  refine (bh ?_).trans (ih f (i+1) (by omega) (by omega) (by omega))
  unfold Eo
  exact ai e1 (ai (x:=((n-dL i:Nat):Int)) (by rw [w]) (ai e2 (ao (by simp; omega) (ai (x:=((i+1:Nat):Int)) (by rw [w1]) rfl))))
theorem EQ (n s0:Nat) (hs:s0<30) (h1:dL s0≤n) (h2:n<dL s0+2 ^ dE s0) (hn:n≤32768):∀ (k fuel i:Nat),i-s0=k→s0≤i→i<30→k<fuel →
  aG (yJ (n:Int)) fuel (i:Int)=some (if s0=0 then .inl () else .inr ((s0:Int),(dE s0:Int),((n-dL s0:Nat):Int),0)):=by
 intro k
 induction k with
 | zero =>
  intro fuel i hk hi h30 hf
  obtain ⟨f,rfl⟩:∃ f,fuel=f+1:=⟨fuel-1,by omega⟩
  have:i=s0:=by omega
  subst this
  refine aV ?_
  unfold yJ
  by_cases h0:i=0
  ·subst h0; rfl
  ·rw [if_neg h0]
   have e1:=of_decide_eq_true (As i hs)
   have w:IntKind.i64.wrap ((n:Int)-(dL i:Int))=((n-dL i:Nat):Int):=by rw [wrap_i64 (by omega) (by omega)]; omega
   exact am (by simp; omega) (ai e1 (am (by simp; omega) (ai (x:=((n-dL i:Nat):Int)) (by rw [w]) rfl)))
 | succ k ih =>
  intro fuel i hk hi h30 hf
  obtain ⟨f,rfl⟩:∃ f,fuel=f+1:=⟨fuel-1,by omega⟩
  have e1:=of_decide_eq_true (As i h30)
  have hsep:=xh i h30 s0 (by omega)
  have w1:IntKind.i64.wrap ((i:Int)-1)=((i-1:Nat):Int):=by rw [wrap_i64 (by omega) (by omega)]; omega
  refine (bh ?_).trans (ih f (i-1) (by omega) (by omega) (by omega) (by omega))
  unfold yJ
  exact am (by simp; omega) (ai e1 (ao (by simp; omega) (ai (x:=((i-1:Nat):Int)) (by rw [w1]) rfl)))
theorem BU (n:Int):∃ r,eP n=some r∧cn n=some r∧(1≤n∧n≤32768→∃ s:Nat,s<30∧r.1=(s:Int)):=by
 by_cases h:1≤n∧n≤32768
 case neg =>
  refine ⟨(0,0,0,1),?_,?_,fun h'=>absurd h' h⟩
  ·unfold eP
   refine aK (s:=true) ?_ (am rfl rfl)
   by_cases h1:n<1
   ·exact am (by simp [h1]) rfl
   ·exact ao (by simp; omega) (by rw [decide_eq_true (by omega)])
  ·unfold cn
   refine ai (yL _ _ _) (am ?_ rfl)
   by_cases h1:1≤n
   ·rw [decide_eq_true h1,decide_eq_false (by omega)]; rfl
   ·rw [decide_eq_false h1]; rfl
 obtain ⟨N,hN⟩:∃ N:Nat,n=(N:Int):=⟨n.toNat,by omega⟩
 subst hN
 obtain ⟨s,hs,h1,h2⟩:=BO N (by omega) (by omega)
 refine ⟨((s:Int),(dE s:Int),((N-dL s:Nat):Int),0),?_,?_,fun _=>⟨s,hs,rfl⟩⟩
 ·unfold eP
  refine aK (s:=false) (ao (by simp; omega) (by rw [decide_eq_false (by omega)])) (ao rfl (ai rfl ?_))
  refine ai (x:=((s:Int),(dE s:Int),((N-dL s:Nat):Int))) ?_ rfl
  unfold fG
  exact oy (IW N s hs h1 h2 (by omega) s bD 0 (by omega) (Nat.zero_le _) (by unfold bD; omega)) rfl
 ·unfold cn
  refine ai (yL _ _ _) (ao ?_ ?_)
  ·rw [decide_eq_true h.1,decide_eq_true h.2]; rfl
  have hd:=EQ N s hs h1 h2 (by omega) (29-s) bD 29 (by omega) (by omega) (by omega) (by unfold bD; omega)
  by_cases h0:s=0
  ·rw [if_pos h0] at hd
   subst h0
   have:N=1:=by
    have e:dL 0+2 ^ dE 0=2:=by decide
    omega
   subst this
   exact aK hd rfl
  ·rw [if_neg h0] at hd
   exact oy hd rfl
def Eb (k:Nat):Bool:=match fy ((k:Int)+3),cg ((k:Int)+3) with
 | some a,some b=>decide (a=b)&&decide (257≤a.1)&&decide (a.1≤285)
 | _,_=>false
theorem yl:∀ k,k<256→Eb k=true:=yX (by kernel_rfl)
theorem Dj (n:Int):∃ r,fy n=some r∧cg n=some r∧(3≤n∧n≤258→∃ s:Nat,s<286∧r.1=(s:Int)):=by
 by_cases h:3≤n∧n≤258
 case neg =>
  refine ⟨(0,0,0,1),?_,?_,fun h'=>absurd h' h⟩
  ·unfold fy
   refine aK (s:=true) ?_ (am rfl rfl)
   by_cases h1:n<3
   ·exact am (by simp [h1]) rfl
   ·exact ao (by simp; omega) (by rw [decide_eq_true (by omega)])
  ·unfold cg
   refine ai (yL _ _ _) (am ?_ rfl)
   by_cases h1:3≤n
   ·rw [decide_eq_true h1,decide_eq_false (by omega)]; rfl
   ·rw [decide_eq_false h1]; rfl
 have hk:=yl (n-3).toNat (by omega)
 have e:(((n-3).toNat:Nat):Int)+3=n:=by omega
 unfold Eb at hk
 rw [e] at hk
 cases h1:fy n with
 | none=>rw [h1] at hk; cases hk
 | some a =>
  cases h2:cg n with
  | none=>rw [h1,h2] at hk; cases hk
  | some b =>
   rw [h1,h2] at hk
   simp only [Bool.and_eq_true,decide_eq_true_eq] at hk
   refine ⟨a,rfl,by rw [hk.1.1],fun _=>⟨a.1.toNat,by omega,by omega⟩⟩
set_option maxRecDepth 10000
theorem pw {n:Int} (h0:0≤n) (h1:n<18446744073709551616):IntKind.u64.wrap n=n:=by
 simp only [IntKind.wrap,IntKind.bits,IntKind.signed]
 have e:(2:Int) ^ 64=18446744073709551616:=by decide
 simp only [e,Bool.false_and,Bool.false_eq_true,if_false]
 omega
def mX (b:Bool):Nat:=if b then 1 else 0
def CN (v n:Int):(((List Int)×Int×Int))→Option (((List Int)×Int×Int)⊕(((List Int)×Int)⊕aN)):=(fun ((s36,s37,s38):(List Int)×Int×Int) =>
 cond ((decide (s38<n)))
  (aq (S:=(List Int)) (A:=(((List Int)×Int×Int)⊕(((List Int)×Int)⊕aN)))
   ((qd s37 8).bind fun v2 =>
   cond ((v2==0))
    ((ce 1 s36 [0]).bind fun v4 =>
    some (.inl v4))
    (some (.inl s36)))
   (fun (s56:(List Int)) =>
    (pd .i64 s37 8).bind fun v10 =>
    (pd .i64 s37 8).bind fun v11 =>
    (bf v11 s56.length).bind fun v12 =>
    (aB s56 v12).bind fun v13 =>
    (some (IntKind.u64.wrap s38)).bind fun v14 =>
    (pN .i64 v v14).bind fun v15 =>
    (some (bits .and .i64 v15 1)).bind fun v16 =>
    (some (IntKind.u8.wrap v16)).bind fun v17 =>
    (qd s37 8).bind fun v18 =>
    (some (IntKind.u64.wrap v18)).bind fun v19 =>
    (iq .u8 v17 v19).bind fun v20 =>
    (some (bits .or .u8 v13 v20)).bind fun v21 =>
    (bf v10 s56.length).bind fun v22 =>
    (some (s56.set v22 v21)).bind fun v23 =>
    (some (IntKind.i64.wrap (s37+1))).bind fun v24 =>
    (some (IntKind.i64.wrap (s38+1))).bind fun v25 =>
    some (.inl (v23,v24,v25))) some)
  (some (.inr (.inl (s36,s37)))))
def xt (v n:Int):((Int×Int))→Option ((Int×Int)⊕((Int)⊕Int)):=(fun ((s11,s12):Int×Int) =>
 cond ((decide (s12<n)))
  ((iq .i64 s11 1).bind fun v2 =>
  (some (IntKind.u64.wrap s12)).bind fun v3 =>
  (pN .i64 v v3).bind fun v4 =>
  (some (bits .and .i64 v4 1)).bind fun v5 =>
  (some (bits .or .i64 v2 v5)).bind fun v6 =>
  (some (IntKind.i64.wrap (s12+1))).bind fun v7 =>
  some (.inl (v6,v7)))
  (some (.inr (.inl s11))))
theorem FA (a b:Nat) (ha:a<4294967296) (hb:b<4294967296):bits .or .i64 (a:Int) (b:Int)=((a ||| b:Nat):Int):=by
 have hx:a ||| b<2 ^ 32:=Nat.or_lt_two_pow (by omega) (by omega)
 show IntKind.i64.wrap ((BitVec.ofInt 64 (a:Int) ||| BitVec.ofInt 64 (b:Int)).toNat:Int)=_
 rw [BitVec.toNat_or,qA a (by omega),qA b (by omega),wrap_i64 (by omega) (by omega)]
theorem Dv {B C:List Int} {N:Nat} (hB:pK B N) (hC:pK C N) (h:∀ q,q<N→et B q=et C q):B=C:=by
 have hl:B.length=C.length:=by rw [hB.len,hC.len]
 apply List.ext_getElem hl
 intro i h1 h2
 have hb:=hB.bytes _ (List.getElem_mem h1)
 have hc:=hC.bytes _ (List.getElem_mem h2)
 have:B[i].toNat=C[i].toNat:=by
  apply Nat.eq_of_testBit_eq
  intro j
  by_cases hj:j<8
  ·have e:et B (8 * i+j)=et C (8 * i+j):=by
    by_cases hq:8 * i+j<N
    ·exact h _ hq
    ·rw [hB.zero _ (by omega),hC.zero _ (by omega)]
   simp only [et,List.getD_eq_getElem?_getD] at e
   rw [show (8 * i+j) / 8=i by omega,show (8 * i+j) % 8=j by omega] at e
   simpa [h1,h2] using e
  ·rw [Nat.testBit_lt_two_pow (Nat.lt_of_lt_of_le (show B[i].toNat<2 ^ 8 by omega) (Nat.pow_le_pow_right (by omega) (by omega))),Nat.testBit_lt_two_pow (Nat.lt_of_lt_of_le (show C[i].toNat<2 ^ 8 by omega) (Nat.pow_le_pow_right (by omega) (by omega)))]
 omega
theorem xA (b:Bool):mX b<2:=by cases b <;> decide
theorem zK (V i:Nat):V / 2 ^ i % 2=mX (V.testBit i):=by
 rw [mX,Nat.testBit_eq_decide_div_mod_eq]
 have:=Nat.mod_two_eq_zero_or_one (V / 2 ^ i)
 rcases this with h | h <;> simp [h]
theorem Bh (b:Bool) (m j:Nat):(mX b * 2 ^ m).testBit j=(decide (j=m)&&b):=by
 rw [Nat.mul_comm,Nat.testBit_two_pow_mul]
 cases b
 ·simp [mX]
 ·by_cases h:j=m
  ·subst h; simp [mX]
  ·by_cases h2:m≤j
   ·have:(1:Nat).testBit (j-m)=false:=Nat.testBit_lt_two_pow (Nat.lt_of_lt_of_le (show 1<2 ^ 1 by decide) (Nat.pow_le_pow_right (by omega) (by omega)))
    simp [mX,this,h]
   ·simp [h,h2]
theorem EN (b:Bool) (m:Nat) (hm:m<8):iq .u8 ((mX b:Nat):Int) (m:Int)=some ((mX b * 2 ^ m:Nat):Int):=by
 have:=xA b
 have hp:2 ^ m≤2 ^ 7:=Nat.pow_le_pow_right (by omega) (by omega)
 have e7:(2:Nat) ^ 7=128:=by decide
 have hle:mX b * 2 ^ m≤1 * 128:=Nat.mul_le_mul (by omega) (by omega)
 simp only [iq,IntKind.bits]
 rw [if_pos (by omega),Int.toNat_natCast,Nat.min_eq_left (by omega)]
 have e:((mX b:Nat):Int) * 2 ^ m=((mX b * 2 ^ m:Nat):Int):=by push_cast; rfl
 rw [e]
 generalize mX b * 2 ^ m=y at *
 rw [oH]; congr 1; omega
theorem BS (V n N:Nat) (hV:V<2 ^ 24) (hNn:N+n≤900000):∀ (k fuel i:Nat) (B:List Int),n-i=k→i≤n→n≤24→k<fuel→pK B (N+i) →
  ∃ B',aG (CN (V:Int) (n:Int)) fuel (B,((N+i:Nat):Int),(i:Int))=some (.inl (B',((N+n:Nat):Int)))∧pK B' (N+n)∧(∀ q,q<N+i→et B' q=et B q)∧∀ j,i≤j→j<n→et B' (N+j)=V.testBit j:=by
 intro k
 induction k with
 | zero =>
  intro fuel i B hk hi hn hf hG
  obtain ⟨f,rfl⟩:∃ f,fuel=f+1:=⟨fuel-1,by omega⟩
  have e:i=n:=by omega
  subst e
  refine ⟨B,aV ?_,hG,fun q hq=>rfl,fun j h1 h2=>by omega⟩
  unfold CN
  exact ao (by simp) rfl
 | succ k ih =>
  intro fuel i B hk hi hn hf hG
  obtain ⟨f,rfl⟩:∃ f,fuel=f+1:=⟨fuel-1,by omega⟩
  obtain ⟨M,hM⟩:∃ M,M=N+i:=⟨_,rfl⟩
  rw [← hM] at hG ⊢
  have r8:=zB M 8 (by omega)
  have q8:=FF M 8 (by omega) (by omega)
  rw [show ((8:Nat):Int)=8 from rfl] at r8 q8
  have hBl:=hG.len
  obtain ⟨Z,hZ1,hZl,hZb,hZbit⟩:∃ Z:List Int,(∀ R (c:Option (List Int⊕R)),cond (((M % 8:Nat):Int)==0) ((ce 1 B [0]).bind fun v4=>some (.inl v4)) (some (.inl B))=(some (.inl Z):Option (List Int⊕R)))∧Z.length=M / 8+1∧GI Z∧∀ q,et Z q=et B q:=by
   by_cases h0:M % 8=0
   ·refine ⟨B++[0],fun R _=>am (by simp [h0]) (ai (x:=B++[0]) (by simp only [ce]; rw [if_pos (by simp; omega)]) rfl),by simp; omega,?_,?_⟩
    ·intro x hx
     rcases List.mem_append.1 hx with hx | hx
     ·exact hG.bytes x hx
     ·simp at hx; omega
    ·intro q
     simp only [et,List.getD_eq_getElem?_getD]
     by_cases hq:q / 8<B.length
     ·rw [List.getElem?_append_left hq]
     ·rw [List.getElem?_append_right (by omega),List.getElem?_eq_none (l:=B) (by omega)]
      by_cases h1:q / 8-B.length=0
      ·simp [h1]
      ·rw [List.getElem?_eq_none (by simp; omega)]
   ·exact ⟨B,fun R _=>ao (by simp; omega) rfl,by omega,hG.bytes,fun _=>rfl⟩
  have hlt:M / 8<Z.length:=by omega
  have hx:=hZb _ (List.getElem_mem hlt)
  obtain ⟨x,hxe⟩:∃ x:Nat,Z[M / 8]=(x:Int):=⟨Z[M / 8].toNat,by omega⟩
  have hm:M % 8<8:=Nat.mod_lt _ (by omega)
  have wi:IntKind.u64.wrap (i:Int)=(i:Int):=pw (by omega) (by omega)
  have wm:IntKind.u64.wrap ((M % 8:Nat):Int)=((M % 8:Nat):Int):=pw (by omega) (by omega)
  have shr:=qv .i64 V i (by simp only [IntKind.bits]; omega)
  have hdl:V / 2 ^ i≤V:=Nat.div_le_self _ _
  have e24:(2:Nat) ^ 24=16777216:=by decide
  have a1:bits .and .i64 ((V / 2 ^ i:Nat):Int) 1=((mX (V.testBit i):Nat):Int):=by
   rw [← zK]
   generalize V / 2 ^ i=y at *
   exact vC y (by omega)
  have hb2:=xA (V.testBit i)
  have w8:IntKind.u8.wrap ((mX (V.testBit i):Nat):Int)=((mX (V.testBit i):Nat):Int):=by rw [oH]; omega
  have shl:=EN (V.testBit i) (M % 8) hm
  have hp:2 ^ (M % 8)≤2 ^ 7:=Nat.pow_le_pow_right (by omega) (by omega)
  have e7:(2:Nat) ^ 7=128:=by decide
  have hle:mX (V.testBit i) * 2 ^ (M % 8)≤1 * 128:=Nat.mul_le_mul (by omega) (by omega)
  have hor:=Gt x (mX (V.testBit i) * 2 ^ (M % 8)) (by omega) (by omega)
  have hol:x ||| (mX (V.testBit i) * 2 ^ (M % 8))<2 ^ 8:=Nat.or_lt_two_pow (by omega) (by omega)
  have wM:IntKind.i64.wrap ((M:Int)+1)=((M+1:Nat):Int):=by rw [wrap_i64 (by omega) (by omega)]; simp
  have wi1:IntKind.i64.wrap ((i:Int)+1)=((i+1:Nat):Int):=by rw [wrap_i64 (by omega) (by omega)]; simp
  have hnew:∀ q,et (Z.set (M / 8) ((x ||| (mX (V.testBit i) * 2 ^ (M % 8)):Nat):Int)) q=(et B q||(decide (q=M)&&V.testBit i)):=by
   intro q
   rw [wR _ _ _ _ hlt]
   by_cases h8:q / 8=M / 8
   ·rw [if_pos h8,Int.toNat_natCast,Nat.testBit_or,Bh,← hZbit]
    have hbx:et Z q=x.testBit (q % 8):=by
     have hlq:q / 8<Z.length:=by omega
     have:Z[q / 8]=(x:Int):=by rw [← hxe]; simp only [h8]
     simp [et,List.getD_eq_getElem?_getD,hlq,this]
    rw [hbx]
    have e:decide (q % 8=M % 8)=decide (q=M):=by
     by_cases h:q=M
     ·subst h; simp
     ·have:q % 8≠M % 8:=by omega
      simp [h,this]
    rw [e]
   ·rw [if_neg h8,hZbit]
    have:q≠M:=fun e=>h8 (by rw [e])
    simp [this]
  have hG2:pK (Z.set (M / 8) ((x ||| (mX (V.testBit i) * 2 ^ (M % 8)):Nat):Int)) (N+(i+1)):=by
   refine ⟨by rw [List.length_set]; omega,fun y hy => ?_,fun q hq => ?_⟩
   ·rcases List.mem_or_eq_of_mem_set hy with h | h
    ·exact hZb y h
    ·omega
   ·rw [hnew,hG.zero q (by omega)]
    have:q≠M:=by omega
    simp [this]
  obtain ⟨B',h1,h2,h3,h4⟩:=ih f (i+1) _ (by omega) (by omega) hn (by omega) hG2
  rw [show N+(i+1)=M+1 by omega] at h1
  refine ⟨B',(bh ?_).trans h1,h2,fun q hq => ?_,fun j hj1 hj2 => ?_⟩
  ·unfold CN
   refine am (by simp; omega) (aK (s:=Z) (ai r8 (hZ1 _ none)) ?_)
   exact ai q8 (ai q8 (ai (aA hlt) (ai (x:=(x:Int)) (by rw [bW hlt,hxe]) (ai (x:=(i:Int)) (by rw [wi]) (ai shr (ai (x:=((mX (V.testBit i):Nat):Int)) (by rw [a1]) (ai (x:=((mX (V.testBit i):Nat):Int)) (by rw [w8]) (ai r8 (ai (x:=((M % 8:Nat):Int)) (by rw [wm]) (ai shl (ai (x:=((x ||| (mX (V.testBit i) * 2 ^ (M % 8)):Nat):Int)) (by rw [hor]) (ai (aA hlt) (ai rfl (ai (x:=((M+1:Nat):Int)) (by rw [wM]) (ai (x:=((i+1:Nat):Int)) (by rw [wi1]) rfl)))))))))))))))
  ·rw [h3 q (by omega),hnew]
   have:q≠M:=by omega
   simp [this]
  ·by_cases e:j=i
   ·subst e
    rw [h3 (N+j) (by omega),hnew,← hM,hG.zero M (Nat.le_refl _)]
    simp
   ·exact h4 j (by omega) hj2
theorem xL (V n:Nat) (hn:n≤24) (hV:V<2 ^ n):∀ (k fuel t r:Nat),n-t=k→t≤n→k<fuel→r<2 ^ t→(∀ i,i<t→r.testBit i=V.testBit (t-1-i)) →
  ∃ r':Nat,aG (xt (V:Int) (n:Int)) fuel ((r:Int),(t:Int))=some (.inl (r':Int))∧r'<2 ^ n∧∀ i,i<n→r'.testBit i=V.testBit (n-1-i):=by
 intro k
 induction k with
 | zero =>
  intro fuel t r hk ht hf hr hb
  obtain ⟨f,rfl⟩:∃ f,fuel=f+1:=⟨fuel-1,by omega⟩
  have e:t=n:=by omega
  subst e
  refine ⟨r,aV ?_,hr,hb⟩
  unfold xt
  exact ao (by simp) rfl
 | succ k ih =>
  intro fuel t r hk ht hf hr hb
  obtain ⟨f,rfl⟩:∃ f,fuel=f+1:=⟨fuel-1,by omega⟩
  have hp:2 ^ t≤2 ^ 24:=Nat.pow_le_pow_right (by omega) (by omega)
  have hpn:2 ^ n≤2 ^ 24:=Nat.pow_le_pow_right (by omega) (by omega)
  have e24:(2:Nat) ^ 24=16777216:=by decide
  have sh:=uF r 1 (by omega) (by omega)
  rw [Nat.pow_one,show ((1:Nat):Int)=1 from rfl] at sh
  have wt:IntKind.u64.wrap (t:Int)=(t:Int):=pw (by omega) (by omega)
  have shr:=qv .i64 V t (by simp only [IntKind.bits]; omega)
  have hdl:V / 2 ^ t≤V:=Nat.div_le_self _ _
  have a1:bits .and .i64 ((V / 2 ^ t:Nat):Int) 1=((mX (V.testBit t):Nat):Int):=by
   rw [← zK]
   generalize V / 2 ^ t=y at *
   exact vC y (by omega)
  have hb2:=xA (V.testBit t)
  have hadd:=Nat.shiftLeft_add_eq_or_of_lt (a:=r) (b:=mX (V.testBit t)) (i:=1) (by omega)
  rw [Nat.shiftLeft_eq,Nat.pow_one] at hadd
  have hor:=FA (r * 2) (mX (V.testBit t)) (by omega) (by omega)
  rw [← hadd] at hor
  have w1:IntKind.i64.wrap ((t:Int)+1)=((t+1:Nat):Int):=by rw [wrap_i64 (by omega) (by omega)]; simp
  obtain ⟨r',h1,h2,h3⟩:=ih f (t+1) (r * 2+mX (V.testBit t)) (by omega) (by omega) (by omega) (by rw [Nat.pow_succ]; omega) (fun i hi=>by
   cases i with
   | zero =>
    rw [Nat.testBit_zero,show t+1-1-0=t by omega]
    cases hv:V.testBit t <;> simp [mX] <;> omega
   | succ i =>
    rw [Nat.testBit_succ,show (r * 2+mX (V.testBit t)) / 2=r by omega,hb i (by omega)]
    congr 1; omega)
  refine ⟨r',(bh ?_).trans h1,h2,h3⟩
  unfold xt
  exact am (by simp; omega) (ai sh (ai (x:=(t:Int)) (by rw [wt]) (ai shr (ai (x:=((mX (V.testBit t):Nat):Int)) (by rw [a1]) (ai (x:=((r * 2+mX (V.testBit t):Nat):Int)) (by rw [hor]) (ai (x:=((t+1:Nat):Int)) (by rw [w1]) rfl))))))
end Go.Abs.Sh
