import Derived.Test.YtjnnkhmhjcjhdaaGreatDoorMaiB
set_option linter.unusedVariables false
set_option linter.unusedSimpArgs false
set_option linter.unusedSectionVars false
namespace Go.Abs.Sh
set_option linter.unusedVariables false
set_option linter.unusedSimpArgs false
def Tt {A:Type} (x:Option A) (P:A→Prop):Prop:=∃ r,x=some r∧P r
theorem tS {A:Type} {r:A} {P:A→Prop} (h:P r):Tt (some r) P:=⟨r,rfl,h⟩
theorem tB {A B:Type} {x:Option A} {f:A→Option B} {P:A→Prop} {Q:B→Prop} (h:Tt x P) (k:∀ r,P r→Tt (f r) Q):Tt (x.bind f) Q:=by
 obtain ⟨r,rfl,hr⟩:=h; exact k r hr
theorem tV {A B:Type} {r:A} {f:A→Option B} {Q:B→Prop} (h:Tt (f r) Q):Tt ((some r).bind f) Q:=h
theorem tQ {A B:Type} {x:Option A} {r:A} {f:A→Option B} {Q:B→Prop} (h:x=some r) (k:Tt (f r) Q):Tt (x.bind f) Q:=by subst h; exact k
theorem tC {A:Type} {c:Bool} {x y:Option A} {P:A→Prop} (h:c=true→Tt x P) (k:c=false→Tt y P):Tt (cond c x y) P:=by
 cases c
 ·exact k rfl
 ·exact h rfl
theorem tD {A:Type} {p:Prop} [Decidable p] {x y:Option A} {P:A→Prop} (h:p→Tt x P) (k:¬ p→Tt y P):Tt (cond (decide p) x y) P:=by
 by_cases hp:p
 ·rw [decide_eq_true hp]; exact h hp
 ·rw [decide_eq_false hp]; exact k hp
theorem tE {A:Type} {a b:Int} {x y:Option A} {P:A→Prop} (h:a=b→Tt x P) (k:a≠b→Tt y P):Tt (cond (a==b) x y) P :=
 tC (fun e=>h (beq_iff_eq.1 e)) fun e=>k (beq_eq_false_iff_ne.1 e)
theorem tN {A:Type} {a b:Int} {x y:Option A} {P:A→Prop} (h:a≠b→Tt x P) (k:a=b→Tt y P):Tt (cond (a != b) x y) P :=
 tC (fun e=>h (bne_iff_ne.1 e)) fun e=>k (bne_eq_false_iff_eq.1 e)
section
variable {A B:Type} {f:Int→Option B} {Q:B→Prop}
theorem tW {e:Int} (h0 : -9223372036854775808≤e) (h1:e<9223372036854775808) (h:Tt (f e) Q):Tt ((some (IntKind.i64.wrap e)).bind f) Q:=by
 rw [jH h0 h1]; exact h
theorem Cz {k:IntKind} (hk:k.signed=false) (e:Int):0≤k.wrap e∧k.wrap e<2 ^ k.bits:=by
 have hp:(0:Int)<2 ^ k.bits:=Int.pow_pos (by decide)
 unfold IntKind.wrap
 rw [hk]
 simp only [Bool.false_and,Bool.false_eq_true,if_false]
 exact ⟨Int.emod_nonneg _ (by omega),Int.emod_lt_of_pos _ hp⟩
theorem tU (k:IntKind) (hk:k.signed=false) {e:Int} (h:∀ r,0≤r→r<2 ^ k.bits→Tt (f r) Q):Tt ((some (k.wrap e)).bind f) Q:=h _ (Cz hk e).1 (Cz hk e).2
theorem HK {e:Int} (h:∀ r,0≤r→r<4294967296→Tt (f r) Q):Tt ((some (IntKind.u32.wrap e)).bind f) Q:=tU .u32 rfl h
theorem GX {e:Int} (h:∀ r,0≤r→r<18446744073709551616→Tt (f r) Q):Tt ((some (IntKind.u64.wrap e)).bind f) Q:=tU .u64 rfl h
theorem BP {o:BinOp} {a b:Int} (h:∀ r,0≤r→r<4294967296→Tt (f r) Q):Tt ((some (bits o .u32 a b)).bind f) Q:=tU .u32 rfl h
theorem JH (k:IntKind) (hk:k.signed=false) {a b:Int} (hb:0≤b) (h:∀ r,0≤r→r<2 ^ k.bits→Tt (f r) Q):Tt ((qP k a b).bind f) Q:=by
 unfold qP
 rw [if_pos hb]
 exact tU k hk h
theorem HS {a b:Int} (hb:0≤b) (h:∀ r,0≤r→r<4294967296→Tt (f r) Q):Tt ((qP .u32 a b).bind f) Q:=JH .u32 rfl hb h
theorem Fa {k:IntKind} {a b:Int} (ha:0≤a) (hb:0≤b) (h:∀ r,0≤r→r≤a→Tt (f r) Q):Tt ((nU k a b).bind f) Q:=by
 unfold nU
 rw [if_pos hb]
 have hp:(0:Int)<2 ^ min b.toNat k.bits:=Int.pow_pos (by decide)
 refine h _ (Int.fdiv_nonneg ha (by omega)) ?_
 rw [Int.fdiv_eq_ediv_of_nonneg _ (by omega)]
 exact Int.ediv_le_self _ ha
theorem Co {a b:Int} (ha:0≤a) (hb:0<b) (h:∀ r,r=a % b→0≤r→r<b→Tt (f r) Q):Tt ((kW a b).bind f) Q:=by
 unfold kW
 rw [if_neg (by omega),Int.tmod_eq_emod_of_nonneg ha]
 exact h _ rfl (Int.emod_nonneg _ (by omega)) (Int.emod_lt_of_pos _ hb)
end
section
variable {A B:Type} {Q:B→Prop}
theorem uG {i:Int} {n:Nat} {f:Nat→Option B} (h0:0≤i) (h1:i<(n:Int)) (h:∀ k:Nat,(k:Int)=i→k<n→Tt (f k) Q):Tt ((dw i n).bind f) Q:=by
 unfold dw
 rw [if_pos ⟨h0,h1⟩]
 exact h _ (by omega) (by omega)
theorem tG {l:List A} {k:Nat} {f:A→Option B} (h0:k<l.length) (h:∀ x,x∈l→Tt (f x) Q):Tt ((bp l k).bind f) Q:=by
 rw [eL h0]; exact h _ (List.getElem_mem h0)
theorem Lm {l:List A} {k:Nat} {x:A} {f:List A→Option B} (h0:k<l.length) (h:Tt (f (l.set k x)) Q):Tt ((wD l k x).bind f) Q:=by
 unfold wD; rw [if_pos h0]; exact h
theorem Ig {l:List A} {n:Nat} {f:List A→Option B} (h0:l.length=n) (h:Tt (f l) Q):Tt ((lH n l).bind f) Q:=by
 unfold lH; rw [if_pos h0]; exact h
theorem tA {l m:List A} {b:Nat} {f:List A→Option B} (h0:(l.length+m.length) * b≤140737488355328) (h1:l.length+m.length≤140737488355328) (h:∀ r,r=l++m→r.length=l.length+m.length→Tt (f r) Q):Tt ((cc b l m).bind f) Q:=by
 rw [dJ h0 h1]; exact h _ rfl List.length_append
theorem sF {s t:Mf} {f:Mf→Option B} (h0:s.size+t.size≤9223372036854775807) (h:∀ r,r.size=s.size+t.size→Tt (f r) Q):Tt ((ce s t).bind f) Q:=by
 unfold ce
 rw [if_pos h0]
 exact h _ ByteArray.size_append
end
theorem It {S O:Type} {step:S→Option (S⊕O)} (I:S→Prop) (m:S→Nat) {J:O→Prop} (hs:∀ s,I s→Tt (step s) (Sum.elim (fun s'=>I s'∧m s'<m s) J)):∀ (n:Nat) (s:S),I s→m s<n→Tt (bo step n s) J
 | 0,s,_,h=>by omega
 | n+1,s,h,hm=>by
  obtain ⟨r,h1,h2⟩:=hs s h
  cases r with
  | inl s'=>rw [gB h1]; exact It I m hs n s' h2.1 (by have:=h2.2; omega)
  | inr o=>rw [dW h1]; exact ⟨o,rfl,h2⟩
theorem tL {S O:Type} {step:S→Option (S⊕O)} {s0:S} (I:S→Prop) (m:S→Nat) {J:O→Prop} (h0:I s0) (hm:m s0<ej) (hs:∀ s,I s→Tt (step s) (Sum.elim (fun s'=>I s'∧m s'<m s) J)):Tt (bo step ej s0) J:=It I m hs ej s0 h0 hm
theorem tJ {S A R:Type} {m:Option (S⊕A)} {k:S→Option R} {e:A→Option R} {Q:R→Prop} (P:S→Prop) (R':A→Prop) (h:Tt m (Sum.elim P R')) (hk:∀ s,P s→Tt (k s) Q) (he:∀ a,R' a→Tt (e a) Q):Tt (au m k e) Q:=by
 obtain ⟨r,rfl,hr⟩:=h
 cases r with
 | inl s=>exact hk s hr
 | inr a=>exact he a hr
theorem pz {S R:Type} {m:Option (S⊕R)} {k:S→Option R} {Q:R→Prop} (P:S→Prop) (h:Tt m (Sum.elim P Q)) (hk:∀ s,P s→Tt (k s) Q):Tt (au m k some) Q:=tJ P Q h hk fun a h=>tS h
theorem Gi {S R:Type} {m:Option (S⊕R)} {k:S→Option R} {Q:R→Prop} (h:Tt m (Sum.elim (fun _=>True) Q)) (hk:∀ s,Tt (k s) Q):Tt (au m k some) Q:=pz _ h fun s _=>hk s
theorem kr {S A:Type} {s:S} {P:S→Prop} {Q:A→Prop} (h:P s):Tt (some (Sum.inl s)) (Sum.elim P Q):=⟨_,rfl,h⟩
theorem wI {S A:Type} {a:A} {P:S→Prop} {Q:A→Prop} (h:Q a):Tt (some (Sum.inr a)) (Sum.elim P Q):=⟨_,rfl,h⟩
set_option maxRecDepth 100000
abbrev Gu:aB:=aB.mk [(⟨#[97]⟩:Mf),(⟨#[98]⟩:Mf)] 9 (⟨#[117]⟩:Mf) (⟨#[115]⟩:Mf) 9000 false
abbrev SG (i t:Int) (g:aA) (o:List ay):aa:=aa.mk g Gu i t o
abbrev lQ (g:aA) (b:List Int):aA:=aA.mk g.LW g.LI g.LD g.To g.LY b g.Ly g.LX
abbrev zP:T_Path:=T_Path.mk false (⟨#[]⟩:Mf) (⟨#[]⟩:Mf)
abbrev mp (i t:Int) (p:aA×List ay):Int×Mf×Bool×Mf×Mf×(List T_Path)×Bool×(List Int)×Mf×Bool×Mf×Mf×Int×Mf×Mf×Int×Bool×Int×Int×(List ay) :=
 (p.1.LW,p.1.LI,p.1.LD.LQ,p.1.LD.LM,p.1.LD.LA,p.1.To,p.1.LY,p.1.Lx,p.1.Ly,p.1.LX,(⟨#[97]⟩:Mf),(⟨#[98]⟩:Mf),9,(⟨#[117]⟩:Mf),(⟨#[115]⟩:Mf),9000,false,i,t,p.2)
def kg (code:Int):ay:=ay.mk (cX.mk code [if 200≤code∧code<400 then (⟨#[111,107]⟩:Mf) else (⟨#[110,111]⟩:Mf)]) false (az.mk zP [] [] false (⟨#[]⟩:Mf) 0) false
theorem Gp {i t:Int} (st:Nat→aA×List ay) (n:Nat) (hn:n<1000000) {g:aA} {o:List ay} {g':aA} {o':List ay} (h0:st 0=(g,o))
  (hs:∀ k,k<n→bh (SG i t (st k).1 (st k).2)=some (true,SG i t (st (k+1)).1 (st (k+1)).2))
  (he:bh (SG i t (st n).1 (st n).2)=some (false,SG i t g' o')):cd (SG i t g o)=some (SG i t g' o'):=by
 unfold cd
 refine bq (s:=mp i t (g',o')) (oU (fun k=>mp i t (st k)) n _ (by show _=_; simp only [h0]; rfl) (by simp only [ej]; omega) (fun k hk => ?_) ?_) rfl
 ·exact aK (hs k hk) rfl
 ·exact aK he rfl
theorem IE {i t:Int} {g:aA} {o:List ay} {g':aA} {o':List ay} (he:bh (SG i t g o)=some (false,SG i t g' o')):cd (SG i t g o)=some (SG i t g' o') :=
 Gp (fun _=>(g,o)) 0 (by omega) rfl (fun k hk=>by omega) he
theorem FX {i t:Int} {g:aA} {o:List ay} {g1:aA} {o1:List ay} {g':aA} {o':List ay} (h:bh (SG i t g o)=some (true,SG i t g1 o1))
  (he:bh (SG i t g1 o1)=some (false,SG i t g' o')):cd (SG i t g o)=some (SG i t g' o') :=
 Gp (fun k=>if k=0 then (g,o) else (g1,o1)) 1 (by omega) rfl (fun k hk=>match k,hk with | 0,_=>h | k+1,hk=>absurd hk (by omega)) he
theorem Ar {l:List Int} (h:dL l):ff l [13,10]=match gF l with | none => -1 | some e=>(e:Int):=yu h
theorem Bp {l:List Int} (h:dL l) (hl:l.length<1000000):CY l [13,10]=some ():=by
 unfold CY
 refine if_pos ⟨List.all_eq_true.2 fun x hx => ?_,rfl,by omega,by decide⟩
 have:=h x hx
 simp only [Bool.and_eq_true,decide_eq_true_eq]; exact this
theorem qo {i t:Int} {g:aA} {o:List ay} {code:Int} (hc:code≠334) (ho:o.length<100000):aU (SG i t g o) code=some (SG i t g (o++[kg code])):=by
 unfold aU
 refine aK (x:=(kg code).LZ) ?_ (aK (dJ (by simp; omega) (by simp; omega)) rfl)
 unfold cL
 by_cases h:200≤code∧code<400
 ·refine bq (s:=(⟨#[111,107]⟩:Mf)) (aD (beq_eq_false_iff_ne.2 hc) (aK (x:=true) ?_ rfl)) (by unfold kg; rw [if_pos h])
  exact bq (s:=true) (aP (decide_eq_true h.1) (by rw [decide_eq_true h.2])) rfl
 ·refine bq (s:=(⟨#[110,111]⟩:Mf)) (aD (beq_eq_false_iff_ne.2 hc) (aK (x:=false) ?_ rfl)) (by unfold kg; rw [if_neg h])
  unfold iz
  by_cases h1:200≤code
  ·exact bq (s:=false) (aP (decide_eq_true h1) (by rw [decide_eq_false (by omega)])) rfl
  ·exact bq (s:=false) (aD (decide_eq_false h1) rfl) rfl
theorem vk {i t:Int} {g:aA} {o:List ay} (h4:g.LW≠4) (hb:dL g.Lx) (hl:g.Lx.length≤512) (hx:gF g.Lx=none):bh (SG i t g o)=some (false,SG i t g o):=by
 unfold bh
 refine aD (beq_eq_false_iff_ne.2 h4) (aK (Bp hb (by show g.Lx.length<_; omega)) ?_)
 refine aD (decide_eq_false (by show ¬ 0≤ff g.Lx [13,10]; rw [Ar hb,hx]; decide)) (aP (decide_eq_true (by show (g.Lx.length:Int)≤512; omega)) rfl)
theorem Bs {i t:Int} {g g':aA} {o o':List ay} {e:Nat} (h4:g.LW≠4) (hb:dL g.Lx) (hl:g.Lx.length<100000) (hx:gF g.Lx=some e)
  (h:bm (SG i t (lQ g (g.Lx.drop (e+2))) o) (aQ (g.Lx.take e))=some (SG i t g' o')):bh (SG i t g o)=some (true,SG i t g' o'):=by
 unfold bh
 have hI:ff g.Lx [13,10]=(e:Int):=by rw [Ar hb,hx]
 have hL:GK g.Lx [13,10]=g.Lx.take e:=by unfold GK; rw [if_pos (by omega),hI]; rfl
 have hR:BJ g.Lx [13,10]=g.Lx.drop (e+2):=by unfold BJ; rw [hI]; rfl
 refine aD (beq_eq_false_iff_ne.2 h4) (aK (Bp hb (by show g.Lx.length<_; omega)) (aP (decide_eq_true (by show 0≤ff g.Lx [13,10]; omega)) ?_))
 rw [← hL,← hR] at h
 exact aK rfl (aK h rfl)
theorem qO {i t x:Int} {g:aA} {o:List ay} (h4:g.LW≠4):bE (SG i t g o) x=some ((x==10)||decide (512<(g.Lx.length:Int)),SG i t g o):=by
 unfold bE
 refine aD (beq_eq_false_iff_ne.2 h4) ?_
 generalize (x==10)=c
 cases c
 ·exact bq (s:=decide (512<(g.Lx.length:Int))) (aD rfl rfl) rfl
 ·exact bq (s:=true) (aP rfl rfl) rfl
def rB (i t:Int) (k:Nat) (x:Int) (p q:aA×List ay):Prop :=
 p.1.Lx.length<100000∧∃ c:Bool,(if k=0 then c=true else bE (SG i t (lQ p.1 (p.1.Lx++[x])) p.2) x=some (c,SG i t (lQ p.1 (p.1.Lx++[x])) p.2)) ∧
  (if c=true then cd (SG i t (lQ p.1 (p.1.Lx++[x])) p.2)=some (SG i t q.1 q.2) else q=(lQ p.1 (p.1.Lx++[x]),p.2))
theorem Ht:jN Gu=some 0:=by kernel_rfl
theorem wQ {g:aA} (h1:g.To.length<100000) (h2:g.Lx.length<1000000):jy g=some g:=by
 unfold jy cr gU
 exact aK (aK (dJ (k:=40) (l:=[]) (m:=g.To) (by simp; omega) (by simp; omega)) rfl) (aK (aK (dJ (k:=1) (l:=[]) (m:=g.Lx) (by simp; omega) (by simp; omega)) rfl) rfl)
theorem Ep {i t:Int} (g:aA) (b:List Int) (st:Nat→aA×List ay) (h0:st 0=(g,[])) (hi:i=0∨i=1) (ht:0≤t∧t≤1099511627776) (hv:jp g=some true) (hb:b.length<1000000)
  (hg:g.To.length<100000∧g.Lx.length<1000000) (he:(st b.length).1.To.length<100000∧(st b.length).1.Lx.length<1000000) (hs:∀ k (hk:k<b.length),rB i t k b[k] (st k) (st (k+1))) :
  ix Gu i t g b=some ((st b.length).1,(st b.length).2,0):=by
 unfold ix
 have hlt:(au (S:=Bool) (A:=(aA×(List ay)×Int)) (some (.inl false)) (fun _=>none) some:Option (aA×(List ay)×Int))=none:=rfl
 have ha:decide (t<0)=false:=decide_eq_false (by omega)
 have hc:decide (1099511627776<t)=false:=decide_eq_false (by omega)
 refine aK Ht (aD rfl (bq (s:=false) ?_ (aD rfl (aK (wQ hg.1 hg.2) ?_))))
 ·rcases hi with rfl | rfl
  ·exact aD rfl (aD ha (aD hc (aK hv rfl)))
  ·exact aP rfl (aD rfl (aD ha (aD hc (aK hv rfl))))
 refine bq (s:=mp i t (st b.length)) (oU (fun k=>((mp i t (st k)).1,(mp i t (st k)).2.1,(mp i t (st k)).2.2.1,(mp i t (st k)).2.2.2.1,(mp i t (st k)).2.2.2.2.1,(mp i t (st k)).2.2.2.2.2.1,(mp i t (st k)).2.2.2.2.2.2.1,(mp i t (st k)).2.2.2.2.2.2.2.1,(mp i t (st k)).2.2.2.2.2.2.2.2.1,(mp i t (st k)).2.2.2.2.2.2.2.2.2.1,(⟨#[97]⟩:Mf),(⟨#[98]⟩:Mf),9,(⟨#[117]⟩:Mf),(⟨#[115]⟩:Mf),9000,false,i,t,(st k).2,(k:Int))) b.length _ (by show _=_; simp only [h0]; rfl) (by simp only [ej]; omega) (fun k hk => ?_) ?_) ?_
 ·obtain ⟨h1,c,h2,h3⟩:=hs k hk
  refine aP (decide_eq_true (by omega)) (bq (s:=mp i t (st (k+1))) (aK (gZ hk) (aK (eL hk) (aK (dJ (k:=1) (l:=(st k).1.Lx) (m:=[b[k]]) (by simp; omega) (by simp; omega)) ?_))) (aK (oO (by omega) (by omega)) rfl))
  have hz:((k:Int)==0)=decide (k=0):=by rw [Bool.eq_iff_iff,decide_eq_true_eq,beq_iff_eq]; omega
  by_cases hk0:k=0
  ·rw [if_pos hk0] at h2; subst h2
   rw [if_pos rfl] at h3
   exact bq (s:=((st k).1.LW,(st k).1.LI,(st k).1.LD.LQ,(st k).1.LD.LM,(st k).1.LD.LA,(st k).1.To,(st k).1.LY,(st k).1.Lx++[b[k]],(st k).1.Ly,(st k).1.LX,(⟨#[97]⟩:Mf),(⟨#[98]⟩:Mf),9,(⟨#[117]⟩:Mf),(⟨#[115]⟩:Mf),9000,false,i,t,(st k).2,true)) (aP (by rw [hz]; exact decide_eq_true hk0) rfl) (aP rfl (aK h3 rfl))
  ·rw [if_neg hk0] at h2
   refine bq (s:=((st k).1.LW,(st k).1.LI,(st k).1.LD.LQ,(st k).1.LD.LM,(st k).1.LD.LA,(st k).1.To,(st k).1.LY,(st k).1.Lx++[b[k]],(st k).1.Ly,(st k).1.LX,(⟨#[97]⟩:Mf),(⟨#[98]⟩:Mf),9,(⟨#[117]⟩:Mf),(⟨#[115]⟩:Mf),9000,false,i,t,(st k).2,c)) (aD (by rw [hz]; exact decide_eq_false hk0) (aK h2 rfl)) ?_
   cases c
   ·rw [if_neg (by decide)] at h3
    rw [h3]; exact aD rfl rfl
   ·rw [if_pos rfl] at h3
    exact aP rfl (aK h3 rfl)
 ·exact aD (decide_eq_false (by omega)) rfl
 ·exact aK (wQ he.1 he.2) rfl
inductive FR (i t:Int):aA×List ay→List Int→aA×List ay→Prop
 | nil (p):FR i t p [] p
 | cons {p q r:aA×List ay} {x:Int} {xs:List Int} (h:rB i t 1 x p q) (t':FR i t q xs r):FR i t p (x::xs) r
theorem FR.app {i t:Int} {p q r:aA×List ay} {a b:List Int} (h:FR i t p a q) (h2:FR i t q b r):FR i t p (a++b) r:=by
 induction h with
 | nil=>exact h2
 | cons h _ ih=>exact .cons h (ih h2)
theorem FR.one {i t:Int} {p q:aA×List ay} {x:Int} (h:rB i t 1 x p q):FR i t p [x] q := .cons h (.nil _)
theorem FR.traj {i t:Int} {p r:aA×List ay} {b:List Int} (h:FR i t p b r):∃ st:Nat→aA×List ay,st 0=p∧st b.length=r∧∀ k (hk:k<b.length),rB i t 1 b[k] (st k) (st (k+1)):=by
 induction h with
 | nil p=>exact ⟨fun _=>p,rfl,rfl,fun k hk=>absurd hk (Nat.not_lt_zero k)⟩
 | @cons p q r x xs h _ ih =>
  obtain ⟨st,h0,h1,h2⟩:=ih
  refine ⟨fun k=>match k with | 0=>p | k+1=>st k,rfl,h1,fun k hk => ?_⟩
  cases k with
  | zero=>show rB i t 1 x p (st 0); rw [h0]; exact h
  | succ k=>exact h2 k (by simpa using hk)
theorem Fz {i t x:Int} {p q:aA×List ay} {k:Nat} (hk:k≠0) (h:rB i t 1 x p q):rB i t k x p q:=by
 obtain ⟨h1,c,h2,h3⟩:=h
 rw [if_neg (by decide)] at h2
 exact ⟨h1,c,by rw [if_neg hk]; exact h2,h3⟩
theorem xB {i t:Int} {g:aA} {o:List ay} (h:g.Lx=[]):bh (SG i t g o)=some (false,SG i t g o):=by
 by_cases h4:g.LW=4
 ·unfold bh
  refine aP (beq_iff_eq.2 h4) (aK (x:=(false,SG i t g o)) ?_ rfl)
  unfold dE
  refine aK (x:=([],0,9)) ?_ (aP rfl rfl)
  show ii g.Lx=_
  rw [h]; kernel_rfl
 ·exact vk h4 (by rw [h]; intro x hx; cases hx) (by rw [h]; exact Nat.zero_le _) (by rw [h]; rfl)
theorem EU {i t x:Int} {g:aA} {o:List ay} (h4:g.LW≠4) (hx:x≠10) (hl:g.Lx.length<512):rB i t 1 x (g,o) (lQ g (g.Lx++[x]),o):=by
 refine ⟨by show g.Lx.length<_; omega,false,?_,rfl⟩
 rw [if_neg (by decide)]
 refine (qO (g:=lQ g (g.Lx++[x])) h4).trans ?_
 rw [beq_eq_false_iff_ne.2 hx,decide_eq_false (by show ¬ (512:Int)<((g.Lx++[x]).length:Nat); rw [List.length_append]; show ¬ (512:Int)<((g.Lx.length+1:Nat):Int); omega)]; rfl
theorem xi {i t:Int} {g:aA} {o:List ay} (h4:g.LW≠4):∀ (l b:List Int),(∀ x∈l,x≠10)→b.length+l.length≤512→FR i t (lQ g b,o) l (lQ g (b++l),o)
 | [],b,_,_=>by rw [List.append_nil]; exact .nil _
 | x::l,b,h,hl=>by
  simp only [List.length_cons] at hl
  have h1:=EU (i:=i) (t:=t) (g:=lQ g b) (o:=o) (x:=x) h4 (h x (by simp)) (by show b.length<512; omega)
  have h2:=xi (i:=i) (t:=t) (g:=g) (o:=o) h4 l (b++[x]) (fun y hy=>h y (by simp [hy])) (by rw [List.length_append]; show b.length+1+l.length≤512; omega)
  rw [List.append_assoc] at h2
  exact .cons h1 h2
theorem pZ {i t:Int} {g g':aA} {o o':List ay} {L:List Int} (h4:g.LW≠4) (hg:g.Lx=[]) (hb:dL L) (hc:oK L) (hl:L.length≤510)
  (h:bm (SG i t g o) (aQ L)=some (SG i t g' o')) (hg':g'.Lx=[]):FR i t (g,o) (L++[13,10]) (g',o'):=by
 have eg:g=lQ g []:=by
  obtain ⟨a,b,c,d,e,f,k,l⟩:=g
  have:f=[]:=hg
  subst this; rfl
 have h1:=xi (i:=i) (t:=t) (g:=g) (o:=o) h4 (L++[13]) [] (fun x hx=>by
  rcases List.mem_append.1 hx with hx | hx
  ·exact (hc x hx).2
  ·rw [List.mem_singleton.1 hx]; decide) (by rw [List.length_append]; show 0+(L.length+1)≤512; omega)
 rw [← eg,List.nil_append] at h1
 have e:L++[13,10]=(L++[13])++[10]:=by simp
 rw [e]
 refine h1.app (.one ⟨by show (L++[13]).length<_; rw [List.length_append]; show L.length+1<_; omega,true,?_,?_⟩)
 ·rw [if_neg (by decide)]
  exact (qO (g:=lQ g ((L++[13])++[10])) h4).trans rfl
 ·rw [if_pos rfl]
  show cd (SG i t (lQ g ((L++[13])++[10])) o)=some (SG i t g' o')
  rw [← e]
  have hx:gF (L++13::10::[])=some L.length:=oW fun x hx=>(hc x hx).1
  have e1:(L++13::10::[]).drop (L.length+2)=[]:=List.drop_eq_nil_of_le (by rw [List.length_append]; exact Nat.le_refl _)
  have e2:(L++13::10::[]).take L.length=L:=by simp
  refine FX (Bs (g:=lQ g (L++[13,10])) (g':=g') (o:=o) (o':=o') (e:=L.length) h4 (bM hb (by decide)) (by show (L++[13,10]).length<_; rw [List.length_append]; show L.length+2<_; omega) hx ?_) (xB hg')
  show bm (SG i t (lQ g ((L++13::10::[]).drop (L.length+2))) o) (aQ ((L++13::10::[]).take L.length))=some (SG i t g' o')
  rw [e1,e2,← eg]; exact h
theorem En {i t:Int} {g:aA} {x:Int} {xs:List Int} {r:aA×List ay} (h:FR i t (g,[]) (x::xs) r) (h4:g.LW≠4) (hg:g.Lx=[]) (hx:x≠10) (hxb:0≤x∧x<256) (hi:i=0∨i=1) (ht:0≤t∧t≤1099511627776) (hv:jp g=some true)
  (hb:(x::xs).length<1000000) (ht0:g.To.length<100000) (he:r.1.To.length<100000∧r.1.Lx.length<1000000):ix Gu i t g (x::xs)=some (r.1,r.2,0):=by
 obtain ⟨st,h0,h1,h2⟩:=h.traj
 have:=Ep (i:=i) (t:=t) g (x::xs) st h0 hi ht hv hb ⟨ht0,by rw [hg]; decide⟩ (by rw [h1]; exact he) (fun k hk => ?_)
 ·rw [h1] at this; exact this
 by_cases hk0:k=0
 ·subst hk0
  have hq:=h2 0 hk
  rw [h0] at hq ⊢
  obtain ⟨l1,c,h3,h5⟩:=hq
  rw [if_neg (by decide)] at h3
  have hc:c=false:=by
   have h6:=h3.symm.trans (qO (o:=([]:List ay)) (show (lQ g (g.Lx++[x])).LW≠4 from h4))
   have h7:c=((x==10)||decide ((512:Int)<((g.Lx++[x]).length:Nat))):=congrArg Prod.fst (Option.some.inj h6)
   rw [h7]
   rw [hg,beq_eq_false_iff_ne.2 hx]; rfl
  rw [hc,if_neg (by decide)] at h5
  refine ⟨l1,true,by rw [if_pos rfl],?_⟩
  rw [if_pos rfl]
  rw [h5]
  refine IE (vk h4 ?_ ?_ ?_)
  ·show dL (g.Lx++[x])
   rw [hg]; intro y hy; rw [List.mem_singleton.1 hy]; exact hxb
  ·show (g.Lx++[x]).length≤512
   rw [hg]; exact Nat.le_of_ble_eq_true rfl
  ·show gF (g.Lx++[x])=none
   rw [hg]
   show (if x=13∧([]:List Int).head? = some 10 then some 0 else (gF []).map (· + 1))=none
   rw [if_neg (fun e=>by cases e.2)]; rfl
 ·exact Fz hk0 (h2 k hk)
def wl (l:List Int):Bool:=decide (l=[46,13,10])||decide (5≤l.length∧l.drop (l.length-5)=[13,10,46,13,10])
theorem xt {a:List Int} (h:dL a) (s:Mf):((aQ a).toList==s.toList)=decide (a=ao s):=by
 rw [ib,Bool.eq_iff_iff,decide_eq_true_eq,decide_eq_true_eq,sI,aJ h]
theorem BS {l:List Int} (h:dL l) (hl:l.length<1000000):fK l [13,10,46,13,10]=some (decide (5≤l.length∧l.drop (l.length-5)=[13,10,46,13,10])):=by
 unfold fK
 by_cases h5:5≤l.length
 ·refine bq (s:=decide (5≤l.length∧l.drop (l.length-5)=[13,10,46,13,10])) (aP (decide_eq_true (by show ((5:Nat):Int)≤(l.length:Int); omega)) (aK (x:=((l.length-5:Nat):Int)) ?_ (aK (x:=l.drop (l.length-5)) ?_ (aK (x:=decide (l.drop (l.length-5)=[13,10,46,13,10])) ?_ ?_)))) rfl
  ·show some (IntKind.i64.wrap ((l.length:Int)-((5:Nat):Int)))=_
   rw [jH (by omega) (by omega)]; congr 1; omega
  ·rw [mG l (by omega) (Nat.le_refl _),List.take_of_length_le (by rw [List.length_drop]; omega)]
  ·unfold iy
   refine aK rfl (aK rfl (congrArg some ?_))
   rw [xt (qn h _)]; rfl
  ·congr 2
   rw [Bool.eq_iff_iff,decide_eq_true_eq,decide_eq_true_eq]
   exact ⟨fun e=>⟨h5,e⟩,fun e=>e.2⟩
 ·refine bq (s:=false) (aD (decide_eq_false (by show ¬ ((5:Nat):Int)≤(l.length:Int); omega)) rfl) ?_
  rw [decide_eq_false (fun e=>h5 e.1)]
theorem uZ {i t x:Int} {g:aA} {o:List ay} (h4:g.LW=4) (hb:dL g.Lx) (hl:g.Lx.length<1000000):bE (SG i t g o) x=some (wl g.Lx,SG i t g o):=by
 unfold bE
 refine aP (beq_iff_eq.2 h4) ?_
 unfold wl
 have e:=xt hb (⟨#[46,13,10]⟩:Mf)
 have e2:ao (⟨#[46,13,10]⟩:Mf)=[46,13,10]:=rfl
 rw [e2] at e
 by_cases h:g.Lx=[46,13,10]
 ·rw [decide_eq_true h] at e
  rw [decide_eq_true h]
  exact bq (s:=true) (aK rfl (aP e rfl)) rfl
 ·rw [decide_eq_false h] at e
  rw [decide_eq_false h]
  exact bq (s:=decide (5≤g.Lx.length∧g.Lx.drop (g.Lx.length-5)=[13,10,46,13,10])) (aK rfl (aD e (aK (BS hb hl) rfl))) rfl
theorem EQ {i t:Int} {g:aA} {o:List ay} (h4:g.LW=4) (D:List Int) (hb:dL D) (hl:D.length<90000):∀ n,n≤D.length→(∀ k,0<k→k≤n→wl (D.take k)=false)→FR i t (lQ g [],o) (D.take n) (lQ g (D.take n),o):=by
 intro n
 induction n with
 | zero=>intro _ _; rw [List.take_zero]; exact .nil _
 | succ n ih =>
  intro hn hk
  have h1:=ih (by omega) (fun k h0 h=>hk k h0 (by omega))
  have e:D.take (n+1)=D.take n++[D[n]]:=by rw [List.take_add_one,List.getElem?_eq_getElem (by omega)]; rfl
  have hx:=hk (n+1) (by omega) (Nat.le_refl _)
  have hb':=xD hb (n+1)
  rw [e] at hx hb' ⊢
  refine h1.app (.one ⟨by show (D.take n).length<_; rw [List.length_take]; omega,false,?_,rfl⟩)
  rw [if_neg (by decide)]
  refine (uZ (g:=lQ g (D.take n++[D[n]])) h4 hb' (by show (D.take n++[D[n]]).length<_; rw [List.length_append,List.length_take]; show min n D.length+1<_; omega)).trans ?_
  exact congrArg (fun c=>some (c,SG i t (lQ g (D.take n++[D[n]])) o)) hx
theorem zU:∀ {q t:List Int} {e:Nat},gF (q++13::10::t)=some e→e≤q.length∧e+1≠q.length
 | [],t,e,h=>by
  have:e=0:=by
   have h2:gF (13::10::t)=some 0:=by unfold gF; exact if_pos ⟨rfl,rfl⟩
   exact Option.some.inj (h.symm.trans h2)
  subst this; exact ⟨Nat.le_refl _,by decide⟩
 | x::q,t,e,h=>by
  rw [List.cons_append] at h
  unfold gF at h
  split at h
  ·rename_i hc
   cases h
   refine ⟨Nat.zero_le _,fun hz => ?_⟩
   have hq:q=[]:=by simp only [List.length_cons] at hz; exact List.eq_nil_of_length_eq_zero (by omega)
   subst hq
   have:=hc.2
   simp at this
  ·cases hi:gF (q++13::10::t) with
   | none=>rw [hi] at h; cases h
   | some k =>
    rw [hi] at h
    have:k+1=e:=Option.some.inj h
    have h1:=zU hi
    simp only [List.length_cons]
    omega
theorem yz {b:List Int} {ls:List (List Int)} {r:List Int} (H:yh b ls r):∀ q t,(q=[]∨∃ q',q=q'++[13,10])→b=q++t→∃ k,yh t (ls.drop k) r:=by
 induction H with
 | @nil b h =>
  rintro q t (rfl | ⟨q',rfl⟩) e
  ·exact ⟨0,by rw [List.nil_append] at e; rw [← e]; exact .nil h⟩
  ·exfalso
   have e':b=q'++13::10::t:=by rw [e]; simp
   rw [e'] at h
   clear e e'
   induction q' with
   | nil =>
    have h2:gF (13::10::t)=some 0:=by unfold gF; exact if_pos ⟨rfl,rfl⟩
    have h3:=h.symm.trans h2
    cases h3
   | cons x q' ih =>
    rw [List.cons_append] at h
    unfold gF at h
    split at h
    ·cases h
    ·cases hi:gF (q'++13::10::t) with
     | none=>exact ih hi
     | some k=>rw [hi] at h; cases h
 | @cons b e ls r h H ih =>
  rintro q t (rfl | ⟨q',rfl⟩) he
  ·exact ⟨0,by rw [List.nil_append] at he; rw [← he]; exact .cons h H⟩
  ·have e':b=q'++13::10::t:=by rw [he]; simp
   rw [e'] at h
   obtain ⟨h1,h2⟩:=zU h
   by_cases hq:e=q'.length
   ·refine ⟨1,?_⟩
    have:b.drop (e+2)=t:=by rw [e',hq,List.drop_append]; simp
    rw [this] at H
    exact H
   ·obtain ⟨k,hk⟩:=ih (q'.drop (e+2)++[13,10]) t (.inr ⟨_,rfl⟩) (by
     rw [e',List.drop_append_of_le_length (by omega)]; simp)
    exact ⟨k+1,hk⟩
theorem Ca {l:List Int} (h:wl l=true):∃ q,l=q++[46,13,10]∧(q=[]∨∃ q',q=q'++[13,10]):=by
 unfold wl at h
 rw [Bool.or_eq_true,decide_eq_true_eq,decide_eq_true_eq] at h
 rcases h with rfl | ⟨h1,h2⟩
 ·exact ⟨[],rfl,.inl rfl⟩
 ·refine ⟨l.take (l.length-5)++[13,10],?_,.inr ⟨_,rfl⟩⟩
  have:=List.take_append_drop (l.length-5) l
  rw [h2] at this
  rw [← this]; simp
theorem BA {D:List Int} {L:List (List Int)} (H:yh D (L++[[46]]) []) (hL:∀ l∈L,l≠[46]) {k:Nat} (hk:k<D.length):wl (D.take k)=false:=by
 cases h:wl (D.take k) with
 | false=>rfl
 | true =>
  exfalso
  obtain ⟨q,h1,h2⟩:=Ca h
  have e:D=q++([46,13,10]++D.drop k):=by
   have:=List.take_append_drop k D
   rw [h1,List.append_assoc] at this
   exact this.symm
  obtain ⟨j,hj⟩:=yz H q _ h2 e
  have hi:gF ([46,13,10]++D.drop k)=some 1:=oW (line:=[46]) (rest:=D.drop k) (fun x hx=>by rw [List.mem_singleton.1 hx]; decide)
  generalize hm:(L++[[46]]).drop j=ms at hj
  cases hj with
  | @cons _ e2 ms' _ h0 H2 =>
   rw [hi] at h0
   have e3:e2=1:=(Option.some.inj h0).symm
   subst e3
   have h46:(L++[[46]])[j]? = some [46]:=by
    have:=congrArg (fun l:List (List Int)=>l[0]?) hm
    simpa [List.getElem?_drop] using this
   have hj2:j=L.length:=by
    by_cases hlt:j<L.length
    ·rw [List.getElem?_append_left hlt,List.getElem?_eq_getElem hlt] at h46
     exact absurd (Option.some.inj h46) (hL _ (List.getElem_mem hlt))
    ·have:=(List.getElem?_eq_some_iff.1 h46).1
     rw [List.length_append] at this
     have h1:([[46]]:List (List Int)).length=1:=rfl
     omega
   have hms:ms'=[]:=by
    rw [hj2,List.drop_left] at hm
    exact (List.cons.inj hm).2.symm
   subst hms
   have hd:([46,13,10]++D.drop k).drop (1+2)=D.drop k:=rfl
   rw [hd] at H2
   generalize hz:D.drop k=z at H2
   cases H2 with
   | nil h5 =>
    have:=congrArg List.length hz
    rw [List.length_drop] at this
    simp only [List.length_nil] at this
    omega
theorem zx {i t:Int} {g:aA} {o:List ay} {code:Int} (hc:code≠334):cu (SG i t g o) code=some ((kg code).LZ,SG i t g o):=by
 unfold cu
 by_cases h:200≤code∧code<400
 ·refine bq (s:=(⟨#[111,107]⟩:Mf)) (aD (beq_eq_false_iff_ne.2 hc) (aK (x:=true) ?_ rfl)) (by unfold kg; rw [if_pos h]; rfl)
  exact bq (s:=true) (aP (decide_eq_true h.1) (by rw [decide_eq_true h.2])) rfl
 ·refine bq (s:=(⟨#[110,111]⟩:Mf)) (aD (beq_eq_false_iff_ne.2 hc) (aK (x:=false) ?_ rfl)) (by unfold kg; rw [if_neg h]; rfl)
  unfold iz
  by_cases h1:200≤code
  ·exact bq (s:=false) (aP (decide_eq_true h1) (by rw [decide_eq_false (by omega)])) rfl
  ·exact bq (s:=false) (aD (decide_eq_false h1) rfl) rfl
theorem Lb:(0:Int)≠4:=by decide
theorem yA (l:List Int) (h:l.all (fun x=>x != 13&&x != 10)=true):oK l:=fun x hx=>by
 have:=List.all_eq_true.1 h x hx
 simpa using this
theorem Is (l:List Int) (h:l.all (fun x=>decide (0≤x)&&decide (x<256))=true):dL l:=fun x hx=>by
 have:=List.all_eq_true.1 h x hx
 simpa using this
theorem lf {i t:Int} {g g':aA} {o o':List ay} (L:List Int) (h4:g.LW≠4) (hg:g.Lx=[]) (hL:(L.all (fun x=>x != 13&&x != 10)&&L.all (fun x=>decide (0≤x)&&decide (x<256))&&decide (L.length≤510))=true)
  (h:bm (SG i t g o) (aQ L)=some (SG i t g' o')) (hg':g'.Lx=[]):FR i t (g,o) (L++[13,10]) (g',o'):=by
 simp only [Bool.and_eq_true,decide_eq_true_eq] at hL
 exact pZ h4 hg (Is L hL.1.2) (yA L hL.1.1) hL.2 h hg'
set_option maxRecDepth 100000
theorem Hy {p:Prop} [Decidable p] (h:¬p:=by omega):decide p=false:=decide_eq_false h
theorem JP {p:Prop} [Decidable p] (h:p:=by omega):decide p=true:=decide_eq_true h
theorem ft {A:Type} {a b:List A}:(a++b).length=a.length+b.length:=List.length_append
abbrev hxS:Mf:=⟨#[104,46,120]⟩
def dm (i:Int):Mf:=if i=0 then ⟨#[97]⟩ else ⟨#[98]⟩
def mu (i:Int):List Int:=[82,101,99,101,105,118,101,100,58,32,102,114,111,109,32,104,46,120,32,98,121,32,if i=0 then 97 else 98,32,119,105,116,104,32,69,83,77,84,80,59,32]
def qU (i:Int) (n:Nat):List Int:=mu i++vu 12 n []
theorem DQ {n:Nat} (hn:n≤1099511627776):(∀ x∈vu 12 n [],Ix x)∧(vu 12 n []).length≤13:=by
 obtain ⟨t,e,h1,_,h2⟩:=yl 12 n [] (by omega)
 rw [List.append_nil] at e
 rw [e]
 exact ⟨h1,h2⟩
theorem vV (i:Int) {n:Nat} (hn:n≤1099511627776):oK (qU i n)∧dL (qU i n)∧(qU i n).length≤49:=by
 obtain ⟨h1,h2⟩:=DQ hn
 have hp:(mu i).all (fun x=>decide (14≤x)&&decide (x<256))=true:=by
  unfold mu
  by_cases h:i=0
  ·rw [if_pos h]; rfl
  ·rw [if_neg h]; rfl
 have key:∀ x∈qU i n,14≤x∧x<256:=fun x hx=>by
  rcases List.mem_append.1 hx with hx | hx
  ·have:=List.all_eq_true.1 hp x hx
   simpa using this
  ·have:=h1 x hx
   exact ⟨by have:=this.1; omega,by have:=this.2; omega⟩
 exact ⟨fun x hx=>by have:=key x hx; omega,fun x hx=>by have:=key x hx; omega,by unfold qU; rw [ft]; show 36+_≤_; omega⟩
theorem zS {i:Int} (hi:i=0∨i=1) {n:Nat} (hn:n≤1099511627776):jw hxS (dm i) (n:Int)=some (qU i n++[13,10],0)∧fV hxS (dm i) (n:Int)=some (qU i n++[13,10]):=by
 have hd:=Ad 12 n (by omega) (by omega)
 have hr:=zN 12 n (by omega) (by omega) (by omega)
 obtain ⟨h1,h2⟩:=DQ hn
 have hdb:dL (vu 12 n []):=fun x hx=>by have:=h1 x hx; exact ⟨by have:=this.1; omega,by have:=this.2; omega⟩
 have hb:=(vV i hn).2.1
 have hl:=(vV i hn).2.2
 have ePre:∀ P:Mf,ao P=mu i→ce P (aQ (vu 12 n []))=some (aQ (qU i n)):=fun P hP=>na hP (aJ hdb) (by rw [show (mu i).length=36 from rfl]; omega)
 have eEnd:ce (aQ (qU i n)) (⟨#[13,10]⟩:Mf)=some (aQ (qU i n++[13,10])):=na (aJ hb) rfl (by show _+2≤_; omega)
 have eS:ao (aQ (qU i n++[13,10]))=qU i n++[13,10]:=aJ (bM hb (by decide))
 have n0:decide ((n:Int)<0)=false:=Hy
 have n1:decide (1099511627776<(n:Int))=false:=Hy
 have dh:cj hxS=some true:=by kernel_rfl
 rcases hi with rfl | rfl
 ·have dd:cj (dm 0)=some true:=by kernel_rfl
  obtain ⟨P,p1,p2,p3,p4,p5,p6,p7,c2⟩:∃ P,∃ p1 p2 p3:Mf,ce (⟨#[82,101,99,101,105,118,101,100,58,32,102,114,111,109,32]⟩:Mf) hxS=some p1∧ce p1 (⟨#[32,98,121,32]⟩:Mf)=some p2∧ce p2 (dm 0)=some p3∧ce p3 (⟨#[32,119,105,116,104,32,69,83,77,84,80,59,32]⟩:Mf)=some P∧ao P=mu 0:=⟨aQ (mu 0),aQ ((mu 0).take 18),aQ ((mu 0).take 22),aQ ((mu 0).take 23),by kernel_rfl,by kernel_rfl,by kernel_rfl,by kernel_rfl,by kernel_rfl⟩
  refine ⟨?_,aK p4 (aK p5 (aK p6 (aK p7 (aK hr (aK (ePre P c2) (aK eEnd (aK (congrArg some eS) rfl)))))))⟩
  unfold jw
  exact bq (s:=false) (aK dh (aD rfl (aK dd rfl))) (aD rfl (bq (s:=false) (aD n0 (congrArg (fun b=>some (Sum.inl b)) n1)) (aD rfl (aK p4 (aK p5 (aK p6 (aK p7 (aK hd (aK (ePre P c2) (aK eEnd (aK (congrArg some eS) rfl)))))))))))
 ·have dd:cj (dm 1)=some true:=by kernel_rfl
  obtain ⟨P,p1,p2,p3,p4,p5,p6,p7,c2⟩:∃ P,∃ p1 p2 p3:Mf,ce (⟨#[82,101,99,101,105,118,101,100,58,32,102,114,111,109,32]⟩:Mf) hxS=some p1∧ce p1 (⟨#[32,98,121,32]⟩:Mf)=some p2∧ce p2 (dm 1)=some p3∧ce p3 (⟨#[32,119,105,116,104,32,69,83,77,84,80,59,32]⟩:Mf)=some P∧ao P=mu 1:=⟨aQ (mu 1),aQ ((mu 1).take 18),aQ ((mu 1).take 22),aQ ((mu 1).take 23),by kernel_rfl,by kernel_rfl,by kernel_rfl,by kernel_rfl,by kernel_rfl⟩
  refine ⟨?_,aK p4 (aK p5 (aK p6 (aK p7 (aK hr (aK (ePre P c2) (aK eEnd (aK (congrArg some eS) rfl)))))))⟩
  unfold jw
  exact bq (s:=false) (aK dh (aD rfl (aK dd rfl))) (aD rfl (bq (s:=false) (aD n0 (congrArg (fun b=>some (Sum.inl b)) n1)) (aD rfl (aK p4 (aK p5 (aK p6 (aK p7 (aK hd (aK (ePre P c2) (aK eEnd (aK (congrArg some eS) rfl)))))))))))
def po:List Int:=[77,65,73,76,32,70,82,79,77,58]
def pu:List Int:=[82,67,80,84,32,84,79,58]
def uB:List Int:=[32,78,79,84,73,70,89,61,78,69,86,69,82]
abbrev Dg:ar:=ar.mk (⟨#[78,79,84,73,70,89]⟩:Mf) (⟨#[78,69,86,69,82]⟩:Mf)
def yU (p:T_Path):List Int:=cond p.LQ [60] (60::(ao p.LM++64::ao p.LA))
theorem zm (p:T_Path):fe p=yU p++[62]:=by
 unfold fe yU
 cases p.LQ <;> simp
def Jb (c:Int):Bool:=yi c&&(decide (c≠62)&&(decide (c≠13)&&decide (c≠10)))
theorem Hj:(List.range 256).all (fun k => !(Hi ((k:Nat):Int)||Ik ((k:Nat):Int))||Jb ((k:Nat):Int))=true:=by kernel_rfl
theorem Ga {c:Int} (hc:0≤c∧c<256) (h:Hi c=true∨Ik c=true):Jb c=true:=by
 have:=si (fun c => !(Hi c||Ik c)||Jb c) Hj hc
 simp only [Bool.or_eq_true,Bool.not_eq_true',Bool.or_eq_false_iff] at this
 rcases this with h1 | h1
 ·rcases h with h | h
  ·rw [h1.1] at h; cases h
  ·rw [h1.2] at h; cases h
 ·exact h1
theorem GH {p:T_Path} (h:iH p=true):(∀ c∈yU p,Jb c=true)∧dL (yU p):=by
 unfold yU
 unfold iH at h
 cases hn:p.LQ
 ·rw [hn] at h
  simp only [cond_false,Bool.and_eq_true] at h ⊢
  have h1:=List.all_eq_true.1 (Bb h.1)
  have h2:=List.all_eq_true.1 (Fk h.2)
  have hb:dL (60::(ao p.LM++64::ao p.LA)):=jI (by decide) (bM (cW _) (jI (by decide) (cW _)))
  refine ⟨fun c hc => ?_,hb⟩
  rcases List.mem_cons.1 hc with rfl | hc
  ·rfl
  rcases List.mem_append.1 hc with hc | hc
  ·exact Ga (cW _ c hc) (.inl (h1 c hc))
  rcases List.mem_cons.1 hc with rfl | hc
  ·rfl
  ·exact Ga (cW _ c hc) (.inr (h2 c hc))
 ·simp only [cond_true]
  exact ⟨fun c hc=>by rw [List.mem_singleton.1 hc]; rfl,by decide⟩
theorem pF {p:T_Path} (h:iH p=true):dL (fe p)∧oK (fe p)∧(fe p).all yi=true∧(62:Int) ∉ yU p:=by
 obtain ⟨h1,h2⟩:=GH h
 have e:∀ c∈yU p,yi c=true∧c≠62∧c≠13∧c≠10:=fun c hc=>by
  have:=h1 c hc
  unfold Jb at this
  simpa [Bool.and_eq_true,decide_eq_true_eq] using this
 rw [zm]
 refine ⟨bM h2 (by decide),fun c hc => ?_,?_,fun hc=>(e _ hc).2.1 rfl⟩
 ·rcases List.mem_append.1 hc with hc | hc
  ·exact (e c hc).2.2
  ·rw [List.mem_singleton.1 hc]; decide
 ·rw [List.all_append,List.all_eq_true.2 fun c hc=>(e c hc).1]; rfl
theorem JX {p:T_Path} (hp:iH p=true) (hl:p.LM.size+p.LA.size≤400):jl (aQ (fe p))=some (p,0):=by
 have hck:dI p=some 0:=by rw [sZ p ⟨by omega,by omega⟩,hp]; rfl
 have hp':=hp
 unfold iH at hp'
 obtain ⟨nu,L,D⟩:=p
 replace hl:L.size+D.size≤400:=hl
 cases nu
 ·simp only [cond_false,Bool.and_eq_true] at hp'
  have h64:(64:Int) ∉ ao L:=Hs (by decide) hp'.1
  obtain ⟨Y,hY⟩:∃ Y,Y=ao L++64::ao D:=⟨_,rfl⟩
  have bY:dL Y:=by rw [hY]; exact bM (cW _) (jI (by decide) (cW _))
  have bX:dL (Y++[62]):=bM bY (by decide)
  have bT:dL (60::(Y++[62])):=jI (by decide) bX
  have lY:Y.length=L.size+D.size+1:=by rw [hY,ft,List.length_cons,aL,aL]; omega
  have lX:(Y++[62]).length=Y.length+1:=ft
  have sX:=dU (Y++[62])
  have sT:(aQ (60::(Y++[62]))).size=Y.length+2:=by rw [dU,List.length_cons,lX]
  have e:fe (T_Path.mk false L D)=60::(Y++[62]):=by rw [hY]; simp [fe]
  rw [e]
  have c1:dD (aQ (60::(Y++[62]))) (⟨#[60]⟩:Mf)=some (aQ (Y++[62]),true):=by
   have u1:=kQ (s:=aQ (60::(Y++[62]))) (a:=0) (b:=1) (by omega) (by omega)
   have u2:=kQ (s:=aQ (60::(Y++[62]))) (a:=1) (b:=(aQ (60::(Y++[62]))).size) (by omega) (Nat.le_refl _)
   rw [aJ bT] at u1 u2
   rw [List.take_of_length_le (by rw [sT,List.length_drop,List.length_cons,lX]; omega)] at u2
   unfold dD co cn
   exact aK (x:=(aQ (Y++[62]),true)) (aK (x:=true) (bq (s:=true) (aP (decide_eq_true (by show (1:Int)≤_; omega)) (aK u1 (by rw [ib]; exact congrArg (fun b=>some (Sum.inl b)) (decide_eq_true rfl)))) rfl) (aD rfl (aK u2 rfl))) rfl
  have c2:eC (aQ (Y++[62])) (⟨#[62]⟩:Mf)=some (aQ Y,true):=by
   have w:some (IntKind.i64.wrap (((aQ (Y++[62])).size:Int)-((⟨#[62]⟩:Mf).size:Int)))=some ((Y.length:Nat):Int):=by
    show some (IntKind.i64.wrap (((aQ (Y++[62])).size:Int)-1))=_
    rw [jr (by omega) (by omega)]; congr 1; omega
   have u1:=kQ (s:=aQ (Y++[62])) (a:=Y.length) (b:=(aQ (Y++[62])).size) (by omega) (Nat.le_refl _)
   have u2:=kQ (s:=aQ (Y++[62])) (a:=0) (b:=Y.length) (by omega) (by omega)
   rw [aJ bX] at u1 u2
   rw [List.drop_left,List.take_of_length_le (by show 1≤_; omega)] at u1
   rw [List.drop_zero,Nat.sub_zero,List.take_left] at u2
   unfold eC ck cm
   exact aK (x:=(aQ Y,true)) (aK (x:=true) (bq (s:=true) (aP (decide_eq_true (by show (1:Int)≤_; omega)) (aK w (aK u1 (by rw [ib]; exact congrArg (fun b=>some (Sum.inl b)) (decide_eq_true rfl))))) rfl) (aD rfl (aK w (aK u2 rfl)))) rfl
  have c3:dB (aQ Y) (⟨#[64]⟩:Mf)=some (L,D,true):=by
   have h1:=DC (n:=64) (by decide) (aQ Y) (by rw [dU]; omega)
   have h2:lw ((64:Nat):Int) Y=some (ao L).length:=by rw [hY]; exact qA h64
   rw [aJ bY,h2] at h1
   refine h1.trans ?_
   show some (aQ (Y.take (ao L).length),aQ (Y.drop ((ao L).length+1)),true)=_
   rw [hY,List.take_left,← List.drop_drop,List.drop_left]
   show some (aQ (ao L),aQ (ao D),true)=_
   rw [jR,jR]
  unfold jl
  refine aD ?_ (aK c1 (aK c2 (aK c3 (bq (s:=false) (aD rfl (aD rfl (aD rfl (aK hck rfl)))) rfl))))
  rw [ib]
  exact decide_eq_false fun h=>by
   have:=congrArg ByteArray.size h
   rw [sT] at this
   have h2:(⟨#[60,62]⟩:Mf).size=2:=rfl
   omega
 ·simp only [cond_true,Bool.and_eq_true,List.isEmpty_iff] at hp'
  have e1:L=(⟨#[]⟩:Mf):=jo hp'.1
  have e2:D=(⟨#[]⟩:Mf):=jo hp'.2
  rw [e1,e2]
  have:jl (aQ [60,62])=some (T_Path.mk true ⟨#[]⟩ ⟨#[]⟩,0):=by kernel_rfl
  exact this
theorem zJ {k:Int} {op w r:List Int} {n:Nat} (hk:k=2∨k=3) (hop:op=w++32::r) (hw:w.length=4) (h32:(32:Int) ∉ w) (hn:op.length=n) (hn8:8≤n∧n≤10) (hob:dL op) (hopr:op.all yi=true)
  (hki:∀ (s Z:Mf),dB s (⟨#[32]⟩:Mf)=some (aQ w,Z,true)→fv s=some k) (hau:dC (aQ (op.take 5)) (⟨#[65,85,84,72,32]⟩:Mf)=some false) (heq:dC (aQ op) (aQ op)=some true) (hopen:km k=some (aQ op))
  {p:T_Path} (hp:iH p=true) (hnu:k=3→p.LQ=false) (tl:List Int) (ps:List ar) (ht:cF k (aQ tl)=some (ps,true)) (htb:dL tl) (htp:tl.all yi=true) (hl:(fe p).length+tl.length≤400) (hps:p.LM.size+p.LA.size≤400):dX (aQ (op++(fe p++tl)))=some (bn.mk k e0 p ps,0):=by
 obtain ⟨hb,_,hpr,h62⟩:=pF hp
 obtain ⟨X,hX⟩:∃ X,X=fe p++tl:=⟨_,rfl⟩
 have hXb:dL X:=by rw [hX]; exact bM hb htb
 have hXl:X.length=(fe p).length+tl.length:=by rw [hX,ft]
 rw [← hX]
 have hsb:dL (op++X):=bM hob hXb
 have hs:=aJ hsb
 have hlen:(op++X).length=n+X.length:=by rw [ft,hn]
 have hsz:(aQ (op++X)).size=n+X.length:=by rw [dU,hlen]
 have hpri:eZ (aQ (op++X))=some true:=by
  rw [Ds _ hsb (by omega),List.all_append,hX,List.all_append,hpr,htp,hopr]; rfl
 obtain ⟨Z,hcut⟩:∃ Z,dB (aQ (op++X)) (⟨#[32]⟩:Mf)=some (aQ w,Z,true):=by
  have h1:=DC (n:=32) (by decide) (aQ (op++X)) (by omega)
  have h2:lw ((32:Nat):Int) (op++X)=some w.length:=by
   rw [hop,List.append_assoc]
   exact qA h32
  rw [hs,h2] at h1
  have h3:(op++X).take w.length=w:=by rw [hop,List.append_assoc,List.take_left]
  exact ⟨_,h1.trans (by show some (aQ ((op++X).take w.length),_,true)=_; rw [h3])⟩
 have hkind:fv (aQ (op++X))=some k:=hki _ Z hcut
 have hsub:∀ a b:Nat,a≤b→b≤n+X.length→gz (aQ (op++X)) (a:Int) (b:Int)=some (aQ (((op++X).drop a).take (b-a))):=fun a b h1 h2=>by
  have:=kQ (s:=aQ (op++X)) (a:=a) (b:=b) h1 (by omega)
  rw [hs] at this
  exact this
 have hoth:dN (aQ (op++X))=some false:=by
  unfold dN
  refine aK (x:=((⟨#[]⟩:Mf),false)) ?_ rfl
  unfold fD
  have h5:=hsub 0 5 (by omega) (by omega)
  rw [List.drop_zero,Nat.sub_zero,List.take_append_of_le_length (by omega)] at h5
  exact bq (s:=true) (aD (decide_eq_false (by show ¬ ((aQ (op++X)).size:Int)<5; omega)) (aK h5 (aK hau rfl))) rfl
 have hcf:fD (aQ (op++X)) (aQ op)=some (aQ X,true):=by
  have ho:(aQ op).size=n:=by rw [dU,hn]
  have h5:=hsub 0 n (by omega) (by omega)
  rw [List.drop_zero,Nat.sub_zero,← hn,List.take_left,hn] at h5
  have h6:=hsub n (n+X.length) (by omega) (by omega)
  rw [← hn,List.drop_left,List.take_of_length_le (by omega),hn] at h6
  unfold fD
  rw [ho,hsz]
  exact bq (s:=false) (aD Hy (aK h5 (aK heq rfl))) (aD rfl (aK h6 rfl))
 have hXs:=aJ hXb
 have hIl:(fe p).length=(yU p).length+1:=by rw [zm,ft]; rfl
 have hix:cC (aQ X) (⟨#[62]⟩:Mf)=some (((yU p).length:Nat):Int):=by
  have h1:=qX (n:=62) (by decide) (aQ X)
  have h2:lw ((62:Nat):Int) X=some (yU p).length:=by
   rw [hX,zm,List.append_assoc]
   exact qA h62
  rw [hXs,h2] at h1
  exact h1
 have hs1:gz (aQ X) 0 (((yU p).length:Int)+1)=some (aQ (fe p)):=by
  have:=kQ (s:=aQ X) (a:=0) (b:=(yU p).length+1) (by omega) (by rw [dU]; omega)
  rw [hXs,List.drop_zero,Nat.sub_zero,← hIl,hX,List.take_left] at this
  rw [hX]
  rw [hIl] at this
  exact this
 have hs2:gz (aQ X) (((yU p).length:Int)+1) ((aQ X).size:Int)=some (aQ tl):=by
  have:=kQ (s:=aQ X) (a:=(yU p).length+1) (b:=(aQ X).size) (by rw [dU]; omega) (Nat.le_refl _)
  rw [hXs,← hIl,hX,List.drop_left,List.take_of_length_le (by rw [dU,ft]; omega)] at this
  rw [hX]
  rw [hIl] at this
  exact this
 have hpc:fj k (aQ (op++X))=some (bn.mk k e0 p ps,true):=by
  unfold fj
  refine aK hopen (aK hcf (aD rfl (aK hix (aK (x:=((yU p).length:Int)+1) (by rw [jr (by omega) (by omega)]) (aK hs1 (aK (JX hp hps) (bq (s:=false) ?_ (aD rfl (aK hs2 (aK ht rfl))))))))))
  refine aD rfl ?_
  rcases hk with rfl | rfl
  ·rfl
  ·exact aP rfl (congrArg (fun b=>some (Sum.inl b)) (hnu rfl))
 have hcmd:iX (aQ (op++X))=some (bn.mk k e0 p ps,true):=by
  unfold iX
  exact aK hcut (aK hkind (bq (s:=true) (by rcases hk with rfl | rfl <;> rfl) (aP rfl (aK hpc rfl))))
 unfold dX
 exact bq (s:=false) (aD Hy (aK hpri (aD rfl (aK hkind (by rcases hk with rfl | rfl <;> rfl))))) (aD rfl (aK hoth (aD rfl (aK hcmd (aD rfl rfl)))))
theorem Ex {p:T_Path} (hp:iH p=true) (tl:List Int) (ps:List ar) (ht:cF 2 (aQ tl)=some (ps,true)) (htb:dL tl) (htp:tl.all yi=true) (hl:(fe p).length+tl.length≤400) (hps:p.LM.size+p.LA.size≤400):dX (aQ (po++(fe p++tl)))=some (bn.mk 2 e0 p ps,0) :=
 zJ (w:=[77,65,73,76]) (r:=[70,82,79,77,58]) (.inl rfl) rfl rfl (by decide) rfl (by decide) (by decide) rfl (fun s Z h=>by
  unfold fv
  exact aK h (aK (x:=⟨#[109,97,105,108]⟩) (by kernel_rfl) (by kernel_rfl))) (by kernel_rfl) (by kernel_rfl) (by kernel_rfl) hp (fun h=>by cases h) tl ps ht htb htp hl hps
theorem Bm {p:T_Path} (hp:iH p=true) (hn:p.LQ=false) (tl:List Int) (ps:List ar) (ht:cF 3 (aQ tl)=some (ps,true)) (htb:dL tl) (htp:tl.all yi=true) (hl:(fe p).length+tl.length≤400) (hps:p.LM.size+p.LA.size≤400):dX (aQ (pu++(fe p++tl)))=some (bn.mk 3 e0 p ps,0) :=
 zJ (w:=[82,67,80,84]) (r:=[84,79,58]) (.inr rfl) rfl rfl (by decide) rfl (by decide) (by decide) rfl (fun s Z h=>by
  unfold fv
  exact aK h (aK (x:=⟨#[114,99,112,116]⟩) (by kernel_rfl) (by kernel_rfl))) (by kernel_rfl) (by kernel_rfl) (by kernel_rfl) hp (fun _=>hn) tl ps ht htb htp hl hps
theorem Kt:cF 2 (aQ [])=some ([],true):=by kernel_rfl
theorem JY:cF 3 (aQ [])=some ([],true):=by kernel_rfl
theorem JJ:cF 3 (aQ uB)=some ([Dg],true):=by kernel_rfl
set_option maxRecDepth 100000
structure VM (m:az):Prop where
 f:iH m.LD=true
 fl:m.LD.LM.size+m.LD.LA.size≤200
 n1:1≤m.To.length
 n8:m.To.length≤8
 t:∀ p∈m.To,iH p=true∧p.LQ=false∧p.LM.size+p.LA.size≤41
 b:∃ ls,m.Lw=jn ls∧(∀ l∈ls,oK l)∧(∀ l∈ls,dL l)∧jM ls≤1551
 q:m.LY=false
 h:m.LI=(⟨#[]⟩:Mf)
 a:m.At=0
theorem CR (p:T_Path) (h:iH p=true) (hl:p.LM.size+p.LA.size≤200):dI p=some 0:=by
 rw [sZ p ⟨by omega,by omega⟩,h]; rfl
theorem Jg (m:az) (h:VM m):Tt (gf m) fun r=>r=true:=by
 have h1:=h.n1
 have h8:=h.n8
 unfold gf
 refine pz (fun b=>b=false) (tQ (CR _ h.f h.fl) (tN (fun h=>absurd rfl h) fun _=>tD (fun h=>by omega) fun _=>kr Hy)) fun b hb=>tC (fun h=>by rw [hb] at h; cases h) fun _ => ?_
 refine Gi (tL (fun i:Int=>0≤i∧i≤((m.To.length:Nat):Int)) (fun i=>m.To.length-i.toNat) ⟨by omega,by omega⟩ (by simp only [ej]; omega) ?_) (fun _=>tS rfl)
 rintro i ⟨k0,k1⟩
 refine tD (fun _=>uG (by omega) (by omega) fun _ _ _=>tG (by omega) fun x hx => ?_) fun _=>wI (a:=Sum.inl ()) trivial
 obtain ⟨x1,x2,x3⟩:=h.t x hx
 exact pz (fun b=>b=false) (tQ (CR x x1 (by omega)) (tN (fun h=>absurd rfl h) fun _=>kr x2)) fun b hb=>tC (fun h=>by rw [hb] at h; cases h) fun _=>tW (by omega) (by omega) (kr (by omega))
theorem Fp (m:az) (h:VM m):Tt (fm m) fun r=>r=true:=by
 obtain ⟨ls,e,c,b,l⟩:=h.b
 have hbl:m.Lw.length=jM ls:=by rw [e,el]
 unfold fm
 refine pz (fun r=>r=true) (tB (Jg (az.mk (T_Path.mk m.LD.LQ m.LD.LM m.LD.LA) m.To m.Lw m.LY m.LI m.At) h) fun r hr=>tC (fun _=>tD (fun _=>tQ (r:=0) (by rw [e]; exact pW c b (by omega)) (kr rfl)) fun h=>absurd (by omega) h) fun h=>by rw [hr] at h; cases h) fun r hr=>tS hr
theorem DL (m:az) (h:VM m):Tt (iW (bD.mk 0 65535 [m])) fun r=>r=0:=by
 unfold iW
 refine pz (fun b=>b=false) (tN (fun h=>absurd rfl h) fun _=>tD (fun h=>absurd (show (65535:Int)<1 from h) (by decide)) fun _=>kr (show decide ((65535:Int)<65535)=false from rfl)) fun b hb=>tC (fun h=>by rw [hb] at h; cases h) fun _=>pz (fun b=>b=false) (tD (fun h=>absurd (show (1:Int)<1 from h) (by decide)) fun _=>kr (show decide ((4:Int)<1)=false from rfl)) fun b hb=>tC (fun h=>by rw [hb] at h; cases h) fun _ => ?_
 refine Gi (Q:=fun r=>r=0) (tL (fun i:Int=>0≤i∧i≤1) (fun i=>1-i.toNat) ⟨by omega,by omega⟩ (by simp only [ej]; omega) ?_) fun _=>tS rfl
 rintro i ⟨h0,h1⟩
 refine tD (fun hi=>uG (by omega) (by omega) fun k hk hk2=>tG hk2 fun x hx => ?_) fun hi=>wI (a:=Sum.inl ()) trivial
 rw [List.mem_singleton.1 hx]
 have hi1:i<1:=hi
 have hh:(!(m.LI.toList==(⟨#[]⟩:Mf).toList))=false:=by rw [h.h,beq_self_eq_true]; rfl
 exact pz (fun b=>b=false) (tB (Fp (az.mk (T_Path.mk m.LD.LQ m.LD.LM m.LD.LA) m.To m.Lw m.LY m.LI m.At) h) fun v hv=>tC (fun h=>by rw [hv] at h; cases h) fun _=>tC (fun h2=>by rw [h.q] at h2; cases h2) fun _=>tC (fun h=>by rw [hh] at h; cases h) fun _=>kr (by show (m.At != 0)=false; rw [h.a]; rfl)) fun b hb=>tC (fun h=>by rw [hb] at h; cases h) fun hf=>tW (by omega) (by omega) (kr ⟨⟨by omega,by omega⟩,by omega⟩)
theorem Fh (p:T_Path) (h:iH p=true) (hl:p.LM.size+p.LA.size≤200):Tt (lZ p) fun r=>r.1.size≤p.LM.size+p.LA.size+3:=by
 unfold lZ
 refine tQ (CR p h hl) (tN (fun h=>absurd rfl h) fun _=>tC (fun _=>tS (by show 2≤_; omega)) fun _=>sF (by show 1+_≤_; omega) fun a ea=>sF (by show _+1≤_; have:a.size=1+p.LM.size:=ea; omega) fun b eb => ?_)
 have h3:a.size=1+p.LM.size:=ea
 have h4:b.size=a.size+1:=eb
 refine sF (by omega) fun c ec=>sF (by show _+1≤_; omega) fun d ed=>tS ?_
 have h5:d.size=c.size+1:=ed
 dsimp only; omega
theorem Gn (w:Mf) (p:T_Path) (c:List Int) (h:iH p=true) (hl:p.LM.size+p.LA.size≤200) (hw:w.size≤100) (hc:c.length≤100000):Tt (cz w p c) fun r=>r.length≤c.length+w.size+p.LM.size+p.LA.size+5:=by
 unfold cz
 refine tB (Fh p h hl) fun t ht=>sF (by omega) fun a ea=>sF (by show _+2≤_; omega) fun b eb => ?_
 have h1:b.size=a.size+2:=eb
 have h2:=aL b
 exact tA (by omega) (by omega) fun r _ hr=>tS (by omega)
theorem GZ (m:az) (h:VM m):Tt (fG [m]) fun r=>r.length≤3764:=by
 have hn:=h.n8
 have hfl:=h.fl
 obtain ⟨ls,e,c,b,l⟩:=h.b
 have hst:=mz ls
 have hsl:(jn (ls.map kV++[[46]])).length≤3105:=by rw [el,mH]; show _+3≤_; omega
 unfold fG
 refine pz (fun l:List Int=>l.length≤3758) (tL (fun x:List Int×Int=>(x.1.length:Int)≤3758 * x.2∧0≤x.2∧x.2≤1) (fun x=>1-x.2.toNat) ⟨by simp,by dsimp only; omega,by dsimp only; omega⟩ (by simp only [ej]; omega) ?_) fun l hl => ?_
 ·rintro ⟨l,i⟩ ⟨h0,h1,h2⟩
  dsimp only at h0 h1 h2 ⊢
  have h1':(([m]:List az).length:Int)=1:=rfl
  refine tD (fun hi=>uG (by omega) (by omega) fun k hk hk2=>tG hk2 fun x hx => ?_) fun hi=>wI (a:=Sum.inl l) (by show l.length≤3758; omega)
  rw [List.mem_singleton.1 hx]
  have hi0:i=0:=by omega
  subst hi0
  refine tB (Gn _ _ l h.f h.fl (by decide) (by omega)) fun a ha => ?_
  have ha2:a.length≤l.length+10+m.LD.LM.size+m.LD.LA.size+5:=ha
  refine pz (fun r:List Int=>r.length≤215+54 * 8) (tL (fun x:List Int×Int=>(x.1.length:Int)≤215+54 * x.2∧0≤x.2∧x.2≤(m.To.length:Int)) (fun x=>m.To.length-x.2.toNat) (by dsimp only; omega) (by simp only [ej]; omega) ?_) fun r hr => ?_
  ·rintro ⟨r,j⟩ ⟨k0,k1,k2⟩
   dsimp only at k0 k1 k2 ⊢
   refine tD (fun hj=>uG (by omega) (by omega) fun _ _ _=>tG (by omega) fun p hp => ?_) fun hj=>wI (a:=Sum.inl r) (by show r.length≤215+54 * 8; omega)
   obtain ⟨x1,x2,x3⟩:=h.t p hp
   refine tB (Gn _ p r x1 (by omega) (by decide) (by omega)) fun q hq=>tW (by omega) (by omega) (kr ⟨⟨?_,by dsimp only; omega,by dsimp only; omega⟩,by dsimp only; omega⟩)
   have hq2:q.length≤r.length+8+p.LM.size+p.LA.size+5:=hq
   dsimp only; omega
  ·have e6:(ao (⟨#[68,65,84,65,13,10]⟩:Mf)).length=6:=rfl
   refine tA (by omega) (by omega) fun q _ hq=>tQ (r:=(jn (ls.map kV++[[46]]),0)) (by rw [e]; exact CL c b (by omega)) (tA (by dsimp only; omega) (by dsimp only; omega) fun t _ ht=>tW (by omega) (by omega) (kr ⟨⟨?_,by dsimp only; omega,by dsimp only; omega⟩,by dsimp only; omega⟩))
   dsimp only at ht ⊢
   omega
 ·have e6:(ao (⟨#[81,85,73,84,13,10]⟩:Mf)).length=6:=rfl
  exact tA (by omega) (by omega) fun q _ hq=>tS (by omega)
theorem Ee (d:Int):Tt (kG d) fun r=>r.length=16:=by
 unfold kG
 refine pz (fun l:List Int=>l.length=16) (tL (fun x:List Int×Int=>x.1.length=16∧0≤x.2∧x.2≤16) (fun x=>16-x.2.toNat) ⟨rfl,by decide,by decide⟩ (by simp only [ej]; omega) ?_) fun l hl=>Ig hl (Ig rfl (Ig hl (Ig hl (tS hl))))
 rintro ⟨l,i⟩ ⟨h1,h2,h3⟩
 dsimp only at h1 h2 h3 ⊢
 refine tD (fun _=>HK fun v hv _=>Gi (tL (fun x:Int×Int=>0≤x.1∧0≤x.2∧x.2≤4) (fun x=>4-x.2.toNat) ⟨hv,by dsimp only; omega,by dsimp only; omega⟩ (by simp only [ej]; omega) ?_) fun a=>uG (by omega) (by omega) fun _ _ _=>Lm (by omega) (tW (by omega) (by omega) (kr ⟨⟨by rw [List.length_set]; exact h1,by dsimp only; omega,by dsimp only; omega⟩,by dsimp only; omega⟩))) fun _=>wI (a:=Sum.inl l) h1
 rintro ⟨a,j⟩ ⟨k1,k2,k3⟩
 dsimp only at k1 k2 k3 ⊢
 refine tD (fun _=>pz (fun r:Int=>0≤r) (BP fun _ _ _=>Fa k1 (by omega) fun z hz _=>tE (fun _=>BP fun _ h _=>kr h) fun _=>kr hz) fun r hr=>tW (by omega) (by omega) (kr ⟨⟨hr,by dsimp only; omega,by dsimp only; omega⟩,by dsimp only; omega⟩)) fun _=>wI (a:=Sum.inl a) trivial
theorem HH (b:List Int) (hl:b.length<4611686018427387904):Tt (ml b) fun r=>0≤r∧r<4294967296:=by
 unfold ml
 refine tB (P:=fun r=>0≤r∧r<4294967296) ?_ fun r hr=>tS hr
 unfold qx
 refine tB (Ee _) fun t ht=>Ig rfl (Ig ht (HS (by decide) fun z _ _=>HK fun y _ _ => ?_))
 refine Gi (tL (fun x:Int×Int=>0≤x.2∧x.2≤(b.length:Int)) (fun x=>b.length-x.2.toNat) (by dsimp only; omega) (by simp only [ej]; omega) ?_) fun s=>BP fun r h1 h2=>tW (by omega) (by omega) (tS ⟨h1,h2⟩)
 rintro ⟨a,j⟩ ⟨k2,k3⟩
 dsimp only at k2 k3 ⊢
 refine tD (fun _=>uG (by omega) (by omega) fun _ _ _=>tG (by omega) fun _ _=>HK fun _ _ _=>BP fun _ _ _=>Fa (by omega) (by omega) fun _ _ _=>Co (by omega) (by omega) fun _ _ _ _=>uG (by omega) (by omega) fun _ _ _=>tG (by omega) fun _ _=>BP fun _ _ _=>Fa (by omega) (by omega) fun _ _ _=>Co (by omega) (by omega) fun _ _ _ _=>uG (by omega) (by omega) fun _ _ _=>tG (by omega) fun _ _=>BP fun _ _ _=>tW (by omega) (by omega) (kr (by dsimp only; omega))) fun _=>wI (a:=Sum.inl a) trivial
theorem Ao {n:Nat} (hn:n<10000000000):(aQ (vu 9 n [])).size≤10:=by
 obtain ⟨t,e,_,_,h2⟩:=yl 9 n [] (by omega)
 rw [List.append_nil] at e
 rw [dU,e]
 exact h2
theorem GJ (n:Int) (h0:0≤n) (h1:n<10000000000):Tt (strconv_Itoa n) fun r=>r.size≤10:=by
 obtain ⟨k,rfl⟩:∃ k:Nat,n=(k:Int):=⟨n.toNat,by omega⟩
 exact ⟨_,Ad 9 k (by omega) (by omega),Ao (by omega)⟩
theorem Ei (m:az) (h:VM m):Tt (iM (bD.mk 0 65535 [m])) fun r=>r.2=0:=by
 unfold iM
 refine tB (DL m h) fun e he=>tN (fun h=>absurd he h) fun h0=>tB (GZ m h) fun c hc=>tB (HH c (by omega)) fun v hv => ?_
 have hL:∀ x∈([0,65535,(([m]:List az).length:Int),(c.length:Int),v]:List Int),0≤x∧x<10000000000:=fun x hx=>by
  have e1:(([m]:List az).length:Int)=1:=rfl
  rw [e1] at hx
  simp only [List.mem_cons,List.not_mem_nil,or_false] at hx
  omega
 have hl5:([0,65535,(([m]:List az).length:Int),(c.length:Int),v]:List Int).length=5:=rfl
 generalize ([0,65535,(([m]:List az).length:Int),(c.length:Int),v]:List Int)=L at *
 refine pz (fun s:Mf=>s.size≤61) (tL (fun x:Mf×Int=>(x.1.size:Int)≤6+11 * x.2∧0≤x.2∧x.2≤5) (fun x=>5-x.2.toNat) ⟨by decide,by decide,by decide⟩ (by simp only [ej]; omega) ?_) fun s hs => ?_
 ·rintro ⟨s,i⟩ ⟨k1,k2,k3⟩
  dsimp only at k1 k2 k3 ⊢
  refine tD (fun hi=>uG (by omega) (by omega) fun _ _ _=>tG (by omega) fun x hx=>tB (GJ x (hL x hx).1 (hL x hx).2) fun a ha=>sF (by show 1+a.size≤_; omega) fun b eb => ?_) fun _=>wI (a:=Sum.inl s) (by show s.size≤61; omega)
  have h1:b.size=1+a.size:=eb
  exact sF (by omega) fun d ed=>tW (by omega) (by omega) (kr (by dsimp only; omega))
 ·refine sF (by show _+2≤_; omega) fun a ea=>tV ?_
  have h1:a.size=s.size+2:=ea
  have h2:=aL a
  exact tA (by omega) (by omega) fun r _ hr=>tD (fun h=>by omega) fun _=>tS rfl
theorem Hc (m:az) (h:VM m):mh m=some true:=by
 obtain ⟨r,h1,h2⟩:=Ei (az.mk (T_Path.mk m.LD.LQ m.LD.LM m.LD.LA) m.To m.Lw m.LY m.LI m.At) h
 unfold mh
 exact aK h1 (by rw [h2]; rfl)
theorem Ej (m:az) (h:VM m):Tt (fp m) fun r=>r=true:=by
 obtain ⟨ls,e,c,b,l⟩:=h.b
 have h1:=h.n1
 have h8:=h.n8
 have hbl:m.Lw.length=jM ls:=by rw [e,el]
 have hp:cp (T_Path.mk m.LD.LQ m.LD.LM m.LD.LA)=some true:=(qE _).trans (congrArg some h.f)
 have hi:bt (m.To.length:Int) 1 8=some true:=by rw [xn,JP,JP]; rfl
 have hb:bB m.Lw=some true:=by rw [e]; exact Ft c (by omega)
 unfold fp
 refine pz (fun b=>b=false) (tQ hp (tC (fun h=>by cases h) fun _=>tQ hi (tC (fun h=>by cases h) fun _=>tQ hb (tC (fun h=>by cases h) fun _=>kr Hy)))) fun b hb=>tC (fun h=>by rw [hb] at h; cases h) fun _ => ?_
 refine Gi (tL (fun i:Int=>0≤i∧i≤((m.To.length:Nat):Int)) (fun i=>m.To.length-i.toNat) ⟨by omega,by omega⟩ (by simp only [ej]; omega) ?_) (fun _=>tS rfl)
 rintro i ⟨k0,k1⟩
 exact tD (fun _=>pz (fun b=>b=false) (uG (by omega) (by omega) fun k hk hk2=>tG hk2 fun x hx=>tQ ((qE x).trans (congrArg some (h.t x hx).1)) (tC (fun h=>by cases h) fun _=>uG (by omega) (by omega) fun j _ hj2=>tG hj2 fun y hy=>kr (h.t y hy).2.1)) fun b hb=>tC (fun h=>by rw [hb] at h; cases h) fun _=>tW (by omega) (by omega) (kr (by omega))) fun _=>wI (a:=Sum.inl ()) trivial
theorem Ci (m:az) (h:VM m):Tt (eh (bD.mk 0 65535 [m])) fun r=>r=true:=by
 unfold eh
 have i1:bt (bD.mk 0 65535 [m]).LS 0 1=some true:=by kernel_rfl
 have i2:bt (bD.mk 0 65535 [m]).LR 1 65535=some true:=by kernel_rfl
 have i3:bt ((bD.mk 0 65535 [m]).LP.length:Int) 1 4=some true:=by kernel_rfl
 refine pz (fun b=>b=false) (tQ i1 (tC (fun h=>by cases h) fun _=>tQ i2 (tC (fun h=>by cases h) fun _=>tQ i3 (kr rfl)))) fun b hb=>tC (fun h=>by rw [hb] at h; cases h) fun _ => ?_
 refine Gi (tL (fun i:Int=>0≤i∧i≤1) (fun i=>1-i.toNat) ⟨by omega,by omega⟩ (by simp only [ej]; omega) ?_) fun _=>tS rfl
 rintro i ⟨h0,h1⟩
 refine tD (fun hi=>uG (by omega) (by omega) fun k hk hk2=>tG hk2 fun x hx => ?_) fun hi=>wI (a:=Sum.inl ()) trivial
 rw [List.mem_singleton.1 hx]
 have hi1:i<1:=hi
 have hh:(!(m.LI.toList==(⟨#[]⟩:Mf).toList))=false:=by rw [h.h,beq_self_eq_true]; rfl
 exact pz (fun b=>b=false) (tB (Ej (az.mk (T_Path.mk m.LD.LQ m.LD.LM m.LD.LA) m.To m.Lw m.LY m.LI m.At) h) fun v hv=>tC (fun h=>by rw [hv] at h; cases h) fun _=>tC (fun h2=>by rw [h.q] at h2; cases h2) fun _=>tC (fun h=>by rw [hh] at h; cases h) fun _=>kr (by show (m.At != 0)=false; rw [h.a]; rfl)) fun b hb=>tC (fun h=>by rw [hb] at h; cases h) fun hf=>tW (by omega) (by omega) (kr ⟨⟨by omega,by omega⟩,by omega⟩)
theorem sl (p:T_Path) (h:iH p=true) (hl:p.LM.size+p.LA.size≤300):cH p=some (aQ (fe p)):=by
 unfold cH fe
 cases hn:p.LQ
 ·refine aD rfl (aK (x:=aQ (60::ao p.LM)) (na (l:=[60]) (m:=ao p.LM) rfl rfl (by rw [aL]; show 1+_≤_; omega)) ?_)
  have b1:dL (60::ao p.LM):=jI (by decide) (cW _)
  refine aK (na (aJ b1) (m:=[64]) rfl (by simp only [List.length_cons,aL]; show _+1≤_; omega)) ?_
  have b2:dL (60::ao p.LM++[64]):=bM b1 (by decide)
  refine aK (na (aJ b2) (m:=ao p.LA) rfl (by simp only [ft,List.length_cons,List.length_nil,aL]; omega)) ?_
  have b3:dL (60::ao p.LM++[64]++ao p.LA):=bM b2 (cW _)
  refine aK (na (aJ b3) (m:=[62]) rfl (by simp only [ft,List.length_cons,List.length_nil,aL]; omega)) ?_
  simp
 ·exact aP rfl rfl
theorem Dq (p:T_Path):(aQ (fe p)).size≤p.LM.size+p.LA.size+3:=by rw [dU]; exact mB p
theorem FP (m:az) (h:VM m):Tt (dA (bD.mk 0 65535 [m])) fun r=>r.length≤3764:=by
 have hn:=h.n8
 have hfl:=h.fl
 obtain ⟨ls,e,c,b,l⟩:=h.b
 have hst:=mz ls
 have hsl:(jn (ls.map kV++[[46]])).length≤3105:=by rw [el,mH]; show _+3≤_; omega
 unfold dA
 refine pz (fun l:List Int=>l.length≤3758) (tL (fun x:List Int×Int=>(x.1.length:Int)≤3758 * x.2∧0≤x.2∧x.2≤1) (fun x=>1-x.2.toNat) ⟨by simp,by dsimp only; omega,by dsimp only; omega⟩ (by simp only [ej]; omega) ?_) fun l hl => ?_
 ·rintro ⟨l,i⟩ ⟨h0,h1,h2⟩
  dsimp only at h0 h1 h2 ⊢
  have h1':(([m]:List az).length:Int)=1:=rfl
  refine tD (fun hi=>uG (by omega) (by omega) fun k hk hk2=>tG hk2 fun x hx => ?_) fun hi=>wI (a:=Sum.inl l) (by show l.length≤3758; omega)
  rw [List.mem_singleton.1 hx]
  have hi0:i=0:=by omega
  subst hi0
  have htl:=Dq m.LD
  refine tQ (sl _ h.f (by show m.LD.LM.size+m.LD.LA.size≤300; omega)) (sF (by show 10+(aQ (fe m.LD)).size≤_; omega) fun a ea=>sF (by show _+2≤_; have:a.size=10+(aQ (fe m.LD)).size:=ea; omega) fun d ed => ?_)
  have ea2:a.size=10+(aQ (fe m.LD)).size:=ea
  have ed2:d.size=a.size+2:=ed
  have hd:=aL d
  refine tA (by omega) (by omega) fun w _ hw => ?_
  refine pz (fun r:List Int=>r.length≤215+54 * 8) (tL (fun x:List Int×Int=>(x.1.length:Int)≤215+54 * x.2∧0≤x.2∧x.2≤(m.To.length:Int)) (fun x=>m.To.length-x.2.toNat) (by dsimp only; omega) (by simp only [ej]; omega) ?_) fun r hr => ?_
  ·rintro ⟨r,j⟩ ⟨k0,k1,k2⟩
   dsimp only at k0 k1 k2 ⊢
   refine tD (fun hj=>uG (by omega) (by omega) fun _ _ _=>tG (by omega) fun p hp => ?_) fun hj=>wI (a:=Sum.inl r) (by show r.length≤215+54 * 8; omega)
   obtain ⟨x1,x2,x3⟩:=h.t p hp
   have htp:=Dq p
   refine tQ (sl p x1 (by omega)) (sF (by show 8+_≤_; omega) fun u eu=>sF (by show _+2≤_; have:u.size=8+(aQ (fe p)).size:=eu; omega) fun v ev => ?_)
   have eu2:u.size=8+(aQ (fe p)).size:=eu
   have ev2:v.size=u.size+2:=ev
   have hv:=aL v
   exact tA (by omega) (by omega) fun q _ hq=>tW (by omega) (by omega) (kr (by dsimp only; omega))
  ·have e6:(ao (⟨#[68,65,84,65,13,10]⟩:Mf)).length=6:=rfl
   refine tA (by omega) (by omega) fun q _ hq=>tQ (r:=jn (ls.map kV++[[46]])) (by rw [e]; exact wL c (by rw [el]; omega)) (tA (by omega) (by omega) fun t _ ht=>tW (by omega) (by omega) (kr (by dsimp only; omega)))
 ·have e6:(ao (⟨#[81,85,73,84,13,10]⟩:Mf)).length=6:=rfl
  exact tA (by omega) (by omega) fun q _ hq=>tS (by omega)
theorem xU (n:Int) (h0:0≤n) (h1:n<10000000000):Tt (bK n) fun r=>r.size≤10:=by
 obtain ⟨k,rfl⟩:∃ k:Nat,n=(k:Int):=⟨n.toNat,by omega⟩
 exact ⟨_,zN 9 k (by omega) (by omega) (by omega),Ao (by omega)⟩
theorem Ge {a b:Int} (ha:0≤a) (ha2:a<4294967296) (hb:0≤b) (hb2:b<4294967296):0≤bits .xor .i64 a b∧bits .xor .i64 a b<4294967296:=by
 obtain ⟨x,rfl⟩:∃ x:Nat,a=(x:Int):=⟨a.toNat,by omega⟩
 obtain ⟨y,rfl⟩:∃ y:Nat,b=(y:Int):=⟨b.toNat,by omega⟩
 have e:bits .xor .i64 (x:Int) (y:Int)=IntKind.i64.wrap (((BitVec.ofInt 64 (x:Int) ^^^ BitVec.ofInt 64 (y:Int)).toNat:Nat):Int):=rfl
 have h1:(BitVec.ofInt 64 (x:Int) ^^^ BitVec.ofInt 64 (y:Int)).toNat=x ^^^ y:=by
  rw [BitVec.toNat_xor,BitVec.ofInt_natCast,BitVec.ofInt_natCast,BitVec.toNat_ofNat,BitVec.toNat_ofNat,Nat.mod_eq_of_lt (by omega),Nat.mod_eq_of_lt (by omega)]
 have h2:x ^^^ y<2 ^ 32:=Nat.xor_lt_two_pow (by omega) (by omega)
 rw [e,h1,jH (by omega) (by omega)]
 omega
theorem Iv {B:Type} {f:Int→Option B} {Q:B→Prop} {k:IntKind} {a b:Int} (hb:0≤b) (h:∀ r,Tt (f r) Q):Tt ((nU k a b).bind f) Q:=by
 unfold nU
 rw [if_pos hb]
 exact h _
theorem ET (b:List Int) (hl:b.length<1000000):Tt (fi b) fun r=>0≤r∧r<4294967296:=by
 unfold fi
 refine tB (P:=fun r=>0≤r∧r<4294967296) ?_ fun r hr=>tS hr
 unfold fU
 refine tQ (r:=32) (by kernel_rfl) (tQ (r:=4294967296) (by kernel_rfl) (tQ (r:=4294967295) (by kernel_rfl) ?_))
 refine pz (fun s:Int=>0≤s∧s<4294967296) (tL (fun x:Int×Int=>(0≤x.1∧x.1<4294967296)∧0≤x.2∧x.2≤(b.length:Int)) (fun x=>b.length-x.2.toNat) ⟨by decide,by dsimp only; omega,by dsimp only; omega⟩ (by simp only [ej]; omega) ?_) fun s hs=>tQ (r:=32) (by kernel_rfl) (tQ (r:=4294967296) (by kernel_rfl) (tQ (r:=4294967295) (by kernel_rfl) (tV (tS (Ge hs.1 hs.2 (by decide) (by decide))))))
 rintro ⟨s,i⟩ ⟨⟨k0,k1⟩,k2,k3⟩
 dsimp only at k0 k1 k2 k3 ⊢
 refine tD (fun hi=>pz (fun s:Int=>0≤s∧s<4294967296) (tL (fun x:Int×Int=>(0≤x.1∧x.1<4294967296)∧0≤x.2∧x.2≤8) (fun x=>8-x.2.toNat) ⟨⟨k0,k1⟩,by dsimp only; omega,by dsimp only; omega⟩ (by simp only [ej]; omega) ?_) fun r hr=>tW (by omega) (by omega) (kr ⟨⟨hr,by dsimp only; omega,by dsimp only; omega⟩,by dsimp only; omega⟩)) fun _=>wI (a:=Sum.inl s) ⟨k0,k1⟩
 rintro ⟨r,j⟩ ⟨⟨m0,m1⟩,m2,m3⟩
 dsimp only at m0 m1 m2 m3 ⊢
 refine tD (fun hj=>pz (fun z:Int=>0≤z∧z<4294967296) (tV (Fa m0 (by omega) fun z z0 z1=>uG (by omega) (by omega) fun _ _ _=>tG (by omega) fun y hy=>GX fun u hu _=>Iv hu fun w=>tV (tV (tC (fun _=>tV (kr (Ge z0 (by omega) (by decide) (by decide)))) fun _=>kr ⟨z0,by omega⟩)))) fun z hz=>tW (by omega) (by omega) (kr ⟨⟨hz,by dsimp only; omega,by dsimp only; omega⟩,by dsimp only; omega⟩)) fun _=>wI (a:=Sum.inl r) ⟨m0,m1⟩
theorem Dv (m:az) (h:VM m):∃ v,cg (bD.mk 0 65535 [m])=some (v,0):=by
 have key:Tt (cg (bD.mk 0 65535 [m])) fun r=>r.2=0:=by
  unfold cg
  obtain ⟨c,hc,hcl⟩:=FP m h
  refine tB (Ci m h) fun e he=>tC (fun h=>by rw [he] at h; cases h) fun _=>tQ hc (tB (xU 0 (by decide) (by decide)) fun a ha=>sF (by show 7+_≤_; omega) fun b eb => ?_)
  have eb2:b.size=7+a.size:=eb
  refine sF (by show _+1≤_; omega) fun b1 e1=>tB (xU 65535 (by decide) (by decide)) fun a1 ha1 => ?_
  have e1':b1.size=b.size+1:=e1
  refine sF (by omega) fun b2 e2=>sF (by show _+1≤_; omega) fun b3 e3=>tB (xU 1 (by decide) (by decide)) fun a2 ha2 => ?_
  have e3':b3.size=b2.size+1:=e3
  refine sF (by omega) fun b4 e4=>sF (by show _+1≤_; omega) fun b5 e5=>tB (xU (c.length:Int) (by omega) (by omega)) fun a3 ha3 => ?_
  have e5':b5.size=b4.size+1:=e5
  refine sF (by omega) fun b6 e6=>sF (by show _+1≤_; omega) fun b7 e7=>tB (ET c (by omega)) fun v hv=>tB (xU v hv.1 (by omega)) fun a4 ha4 => ?_
  have e7':b7.size=b6.size+1:=e7
  refine sF (by omega) fun b8 e8=>sF (by show _+2≤_; omega) fun b9 e9=>tV ?_
  have e9':b9.size=b8.size+2:=e9
  have hs:=aL b9
  exact tA (by omega) (by omega) fun r _ hr=>tD (fun h=>by omega) fun _=>tS rfl
 obtain ⟨r,h1,h2⟩:=key
 exact ⟨r.1,by rw [h1,← h2]⟩
end Go.Abs.Sh
