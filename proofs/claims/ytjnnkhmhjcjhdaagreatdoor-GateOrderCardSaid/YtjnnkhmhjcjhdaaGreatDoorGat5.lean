import Derived.Test.YtjnnkhmhjcjhdaaGreatDoorSh
set_option linter.unusedVariables false
set_option linter.unusedSimpArgs false
set_option linter.unusedSectionVars false
namespace Go.Abs.Sh
set_option linter.unusedVariables false
theorem pQ {n:Int} (h0 : -9223372036854775808≤n) (h1:n<9223372036854775808):IntKind.i64.wrap n=n:=by
 simp only [IntKind.wrap,IntKind.bits,IntKind.signed]
 have e:(2:Int) ^ 64=18446744073709551616:=by decide
 have e2:(2:Int) ^ (64-1)=9223372036854775808:=by decide
 simp only [e,e2,Bool.true_and,decide_eq_true_eq]
 split <;> omega
theorem ul {i n:Nat} (h:i<n):eb (i:Int) n=some i:=by simp [eb]; omega
theorem vI {A:Type} {l:List A} {i:Nat} (h:i<l.length):bI l i=some l[i]:=by simp [bI,h]
theorem el {A R:Type} {m:Option A} {f:A→Option R} {x:A} {r:Option R} (h:m=some x) (h2:f x=r):m.bind f=r:=by subst h; exact h2
theorem ii {S A R:Type} {m:Option (S⊕A)} {k:S→Option R} {e:A→Option R} {s:S} {r:Option R} (h:m=some (.inl s)) (h2:k s=r):aA m k e=r:=by subst h; exact h2
theorem nJ {S O:Type} {step:S→Option (S⊕O)} {n:Nat} {s s':S} (h:step s=some (.inl s')):bw step (n+1) s=bw step n s':=by
 simp only [bw,h]
theorem lJ {S O:Type} {step:S→Option (S⊕O)} {n:Nat} {s:S} {o:O} (h:step s=some (.inr o)):bw step (n+1) s=some o:=by
 simp only [bw,h]
theorem db {R:Type} {c:Bool} {x y r:R} (hc:c=false) (h:y=r):cond c x y=r:=by subst hc; exact h
theorem dN {R:Type} {c:Bool} {x y r:R} (hc:c=true) (h:x=r):cond c x y=r:=by subst hc; exact h
theorem xJ {S O:Type} {f:S→Option (S⊕O)} (st:Nat→S) {o:O}:∀ (n fuel:Nat),n<fuel→(∀ i,i<n→f (st i)=some (.inl (st (i+1))))→f (st n)=some (.inr o)→bw f fuel (st 0)=some o:=by
 intro n
 induction n generalizing st with
 | zero =>
  intro fuel hf _ he
  obtain ⟨k,rfl⟩:∃ k,fuel=k+1:=⟨fuel-1,by omega⟩
  exact lJ he
 | succ n ih =>
  intro fuel hf hs he
  obtain ⟨k,rfl⟩:∃ k,fuel=k+1:=⟨fuel-1,by omega⟩
  rw [nJ (hs 0 (by omega))]
  exact ih (fun i=>st (i+1)) k (by omega) (fun i hi=>hs (i+1) (by omega)) he
theorem rq {S O:Type} {f:S→Option (S⊕O)} {s:S} (st:Nat→S) {o:O} (n fuel:Nat) (h0:st 0=s) (hn:n<fuel) (hs:∀ i,i<n→f (st i)=some (.inl (st (i+1)))) (he:f (st n)=some (.inr o)):bw f fuel s=some o:=by
 subst h0; exact xJ st n fuel hn hs he
theorem nG {n:Int} (h0 : -9223372036854775808≤n) (h1:n<9223372036854775808):some (IntKind.i64.wrap n)=some n:=by rw [pQ h0 h1]
theorem zy (a b:Nat) (hb:0<b):mm (a:Int) (b:Int)=some ((a % b:Nat):Int):=by
 simp only [mm]
 rw [if_neg (by omega),Int.tmod_eq_emod_of_nonneg (by omega)]
 rfl
theorem rX {A:Type} (l:List A) {a b:Nat} (h1:a≤b) (h2:b≤l.length):jR l (a:Int) (b:Int)=some ((l.drop a).take (b-a)):=by
 unfold jR
 rw [if_pos (by omega)]
 simp only [Int.toNat_natCast]
theorem sx {A:Type} {k:Nat} {l m:List A} (h:(l.length+m.length) * k≤140737488355328) (h1:l.length+m.length≤140737488355328):cz k l m=some (l++m):=by
 unfold cz; rw [if_pos ⟨h,h1⟩]
theorem oJ (s:Fa):fF (bl s)=s:=by
 obtain ⟨⟨l⟩⟩:=s
 simp only [fF,bl,List.map_map]
 congr 2
 conv=>rhs; rw [← List.map_id l]
 apply List.map_congr_left
 intro b _
 simp
theorem lq {l:List Int} (h:hH l):bl (fF l)=l:=by
 simp only [fF,bl,List.map_map]
 conv=>rhs; rw [← List.map_id l]
 apply List.map_congr_left
 intro x hx
 have:=h x hx
 simp only [Function.comp,id_eq,UInt8.toNat_ofNat']
 omega
theorem uX {s t:Fa} (h:bl s=bl t):s=t:=by rw [← oJ s,h,oJ]
theorem qu {l:List Int} (h:hH l) (n:Nat):hH (l.drop n):=fun x hx=>h x (List.mem_of_mem_drop hx)
theorem tQ {l:List Int} (h:hH l) (n:Nat):hH (l.take n):=fun x hx=>h x (List.mem_of_mem_take hx)
theorem lE {l m:List Int} (h:hH l) (k:hH m):hH (l++m):=by
 intro x hx
 rcases List.mem_append.1 hx with h1 | h1
 ·exact h x h1
 ·exact k x h1
theorem wy {l:List Int} (h:uw (mf .u8) l):hH l:=by
 intro x hx
 have:=h.2 x hx
 simp only [mf,Lit.wf,IntKind.min,IntKind.max,IntKind.signed,IntKind.bits] at this
 have h2:0≤x∧x≤255:=by simpa using this
 omega
theorem pD (s t:Fa):(s.toList==t.toList)=decide (s=t):=by
 rw [← beq_toListBytes,Bool.eq_iff_iff,decide_eq_true_eq]
 obtain ⟨a⟩:=s
 obtain ⟨b⟩:=t
 show (a==b)=true↔_
 rw [beq_iff_eq]
 exact ⟨fun h=>by rw [h],fun h=>by injection h⟩
theorem ug {s t:Fa}:s=t↔bl s=bl t:=⟨fun h=>h ▸ rfl,uX⟩
def dw:List Int→Option Nat
 | []=>none
 | x::l=>if x=13∧l.head? = some 10 then some 0 else (dw l).map (· + 1)
theorem lH:∀ {l:List Int} {e:Nat},dw l=some e→e+2≤l.length∧l=l.take e++13::10::l.drop (e+2)
 | [],e,h=>by simp [dw] at h
 | x::l,e,h=>by
  unfold dw at h
  split at h
  ·rename_i hc
   cases h
   obtain ⟨rfl,h2⟩:=hc
   cases l with
   | nil=>simp at h2
   | cons y l=>simp at h2; subst h2; simp
  ·cases hi:dw l with
   | none=>simp [hi] at h
   | some k =>
    simp [hi] at h
    subst h
    obtain ⟨h1,h2⟩:=lH hi
    refine ⟨by simp; omega,?_⟩
    simp only [List.take_succ_cons,List.cons_append,List.drop_succ_cons,show k+1+2=(k+2)+1 by omega]
    rw [← h2]
theorem nQ:∀ {line rest:List Int},(∀ x∈line,x≠13)→dw (line++13::10::rest)=some line.length
 | [],rest,_=>by simp [dw]
 | x::line,rest,h=>by
  have hx:=h x (by simp)
  have ih:=nQ (line:=line) (rest:=rest) fun y hy=>h y (by simp [hy])
  rw [List.cons_append]
  unfold dw
  rw [if_neg (fun e=>hx e.1),ih]
  simp
theorem zT {x:Int} (h:0≤x∧x<256) {n:Nat} (hn:n<256):(UInt8.ofNat x.toNat=UInt8.ofNat n)↔x=(n:Int):=by
 constructor
 ·intro e
  have:=congrArg UInt8.toNat e
  simp only [UInt8.toNat_ofNat'] at this
  omega
 ·rintro rfl; simp
theorem uC:∀ {l:List Int},hH l→Lib.index (Lib.bytesOf l) (Lib.bytesOf [13,10])=match dw l with | none => -1 | some e=>(e:Int)
 | [],_=>by rfl
 | x::l,h=>by
  have hx:=h x (by simp)
  have ih:=uC (l:=l) fun y hy=>h y (by simp [hy])
  have e1:Lib.bytesOf (x::l)=UInt8.ofNat x.toNat::Lib.bytesOf l:=rfl
  have e2:Lib.bytesOf [13,10]=[UInt8.ofNat 13,UInt8.ofNat 10]:=rfl
  rw [e1]
  unfold Lib.index dw
  have hp:(Lib.bytesOf [13,10]).isPrefixOf (UInt8.ofNat x.toNat::Lib.bytesOf l)=decide (x=13∧l.head? = some 10):=by
   rw [Bool.eq_iff_iff,decide_eq_true_eq,e2]
   cases l with
   | nil=>simp [Lib.bytesOf,List.isPrefixOf]
   | cons y l =>
    have hy:=h y (by simp)
    have ex:=zT hx (n:=13) (by omega)
    have ey:=zT hy (n:=10) (by omega)
    simp only [Lib.bytesOf,List.map_cons,List.isPrefixOf,Bool.and_eq_true,beq_iff_eq,Bool.true_and,Bool.and_true,and_true,List.head?_cons,Option.some.injEq]
    constructor
    ·rintro ⟨h1,h2⟩; exact ⟨ex.1 h1.symm,ey.1 h2.symm⟩
    ·rintro ⟨h1,h2⟩; exact ⟨(ex.2 h1).symm,(ey.2 h2).symm⟩
  rw [hp]
  by_cases hc:x=13∧l.head? = some 10
  ·rw [if_pos (by simpa using hc),if_pos hc]
   rfl
  ·rw [if_neg (by simpa using hc),if_neg hc,ih]
   cases dw l with
   | none=>rfl
   | some k =>
    have:((k:Int) == -1)=false:=beq_eq_false_iff_ne.2 (by omega)
    simp only [this,Bool.false_eq_true,if_false,Option.map_some]
    rfl
theorem oM {l:List Int} (h:hH l) (hl:l.length<4294967281):ft l [13,10]=some (match dw l with | none => -1 | some e=>(e:Int)):=by
 unfold ft
 rw [if_pos ⟨hl,by simp,by simp,h,by decide⟩,uC h]
set_option maxRecDepth 10000
def sH {X S O:Type} (step:X→S→Option (S⊕O)):List X→S→Option (S⊕O)
 | [],s=>some (.inl s)
 | x::l,s=>match step x s with
  | none=>none
  | some (.inl s')=>sH step l s'
  | some (.inr o)=>some (.inr o)
inductive wU:List Int→List (List Int)→List Int→Prop
 | nil {b:List Int} (h:dw b=none):wU b [] b
 | cons {b:List Int} {e:Nat} {ls:List (List Int)} {r:List Int} (h:dw b=some e) (t:wU (b.drop (e+2)) ls r):wU b (b.take e::ls) r
theorem uY {n:Int} (h0 : -9223372036854775808≤n) (h1:n<9223372036854775808):some (IntKind.i64.wrap n)=some n:=by rw [pQ h0 h1]
theorem xM {b:List Int} (hb:hH b) (hl:b.length<4294967281) (h:dw b=none):da b [13,10]=some (b,[],false):=by
 unfold da
 refine el (oM hb hl) ?_
 rw [h]
 rfl
theorem sR {b:List Int} (hb:hH b) (hl:b.length<4294967281) {e:Nat} (h:dw b=some e):da b [13,10]=some (b.take e,b.drop (e+2),true):=by
 have h1:=(lH h).1
 unfold da
 refine el (oM hb hl) ?_
 rw [h]
 refine dN (decide_eq_true (by show (0:Int)≤(e:Int); omega)) ?_
 have e1:jR b 0 (e:Int)=some (b.take e):=by
  have:=rX b (a:=0) (b:=e) (by omega) (by omega)
  simpa using this
 refine el e1 ?_
 refine el (x:=((e+2:Nat):Int)) (by
  show some (IntKind.i64.wrap ((e:Int)+2))=_
  rw [uY (by omega) (by omega)]; simp) ?_
 refine el (x:=b.drop (e+2)) (by
  rw [rX b (by omega) (by omega),List.take_of_length_le (by simp)]) rfl
theorem tc {S O:Type} (step:List Int→S→Option (S⊕O)) {b:List Int} {ls:List (List Int)} {rest:List Int} (H:wU b ls rest) (hb:hH b) (hl:b.length<4294967281) (st:S) (r:S⊕O) (hr:sH step ls st=some r) :
  iI (S:=S) (O:=O) (fun Y st=>cN Y b st) step st=some r:=by
 unfold iI cN
 have key:∀ (b:List Int) (ls:List (List Int)) (rest:List Int),wU b ls rest→hH b→b.length<4294967281→∀ (fuel:Nat) (st:S),b.length<fuel→sH step ls st=some r →
   aA (S:=(Unit)) (A:=S⊕O)
    (bw (S:=((List Int)×(S⊕O))) (O:=(Unit)⊕(S⊕O)) (fun ((s17,s18):(List Int)×(S⊕O)) =>
     (da s17 [13,10]).bind fun v1 =>
     aA (S:=(S⊕O)×Bool) (A:=(((List Int)×(S⊕O))⊕((Unit)⊕(S⊕O))))
      (cond ((!v1.2.2))
       (some (.inl (s18,true)))
       ((ly step v1.1 s18).bind fun v2 =>
       some (.inl ((v2.1,(!v2.2))))))
      (fun ((s31,s32):(S⊕O)×Bool) =>
       cond (s32)
        (some (.inr (.inr (s31))))
        (some (.inl (v1.2.1,s31)))) some)
     fuel (b,.inl st))
    (fun (():Unit) =>
     none) some=some r:=by
  intro b ls rest H
  induction H with
  | nil h =>
   intro hb hl fuel st hf hr
   obtain ⟨f,rfl⟩:∃ f,fuel=f+1:=⟨fuel-1,by omega⟩
   rw [lJ (o := .inr (.inl st)) (el (xM hb hl h) rfl)]
   exact hr
  | cons h t ih =>
   rename_i b e ls r'
   intro hb hl fuel st hf hr
   obtain ⟨f,rfl⟩:∃ f,fuel=f+1:=⟨fuel-1,by omega⟩
   have h1:=(lH h).1
   simp only [sH] at hr
   cases hst:step (b.take e) st with
   | none=>rw [hst] at hr; cases hr
   | some u =>
    rw [hst] at hr
    cases u with
    | inl s' =>
     rw [nJ (s':=(b.drop (e+2),.inl s')) (el (sR hb hl h) (ii (s:=((Sum.inl s':S⊕O),false)) (db rfl (el (x:=((Sum.inl s':S⊕O),true)) (by simp [ly,hst]) rfl)) rfl))]
     exact ih (qu hb _) (by rw [List.length_drop]; omega) f s' (by rw [List.length_drop]; omega) hr
    | inr o =>
     rw [lJ (o := .inr (.inr o)) (el (sR hb hl h) (ii (s:=((Sum.inr o:S⊕O),true)) (db rfl (el (x:=((Sum.inr o:S⊕O),false)) (by simp [ly,hst]) rfl)) rfl))]
     exact hr
 exact key b ls rest H hb hl iS st (by unfold iS; omega) hr
def jn:List (List Int)→List Int
 | []=>[]
 | l::ls=>l++13::10::jn ls
theorem xC:∀ (a b:List (List Int)),jn (a++b)=jn a++jn b
 | [],b=>rfl
 | x::a,b=>by simp [jn,xC a b]
theorem xa {b:List Int} {ls:List (List Int)} {r:List Int} (H:wU b ls r):b=jn ls++r:=by
 induction H with
 | nil h=>rfl
 | cons h t ih =>
  have h2:=(lH h).2
  conv=>lhs; rw [h2]
  simp only [jn,List.append_assoc,List.cons_append]
  rw [← ih]
def Ad (l:List Int):Prop:=∀ x∈l,x≠13∧x≠10
theorem zr {ls:List (List Int)} {t:List Int} {ms:List (List Int)} {r:List Int} (h:∀ l∈ls,Ad l) (H:wU t ms r):wU (jn ls++t) (ls++ms) r:=by
 induction ls with
 | nil=>exact H
 | cons l ls ih =>
  have e:jn (l::ls)++t=l++13::10::(jn ls++t):=by simp [jn]
  have hi:=nQ (line:=l) (rest:=jn ls++t) (fun x hx=>(h l (by simp) x hx).1)
  have:=wU.cons (b:=l++13::10::(jn ls++t)) hi (ls:=ls++ms) (r:=r) (by
   have e2:(l++13::10::(jn ls++t)).drop (l.length+2)=jn ls++t:=by
    rw [List.drop_append]; simp
   rw [e2]
   exact ih fun x hx=>h x (by simp [hx]))
  rw [e]
  have e3:(l++13::10::(jn ls++t)).take l.length=l:=by simp
  rw [e3] at this
  exact this
def qE:List (List Int)→Nat
 | []=>0
 | l::ls=>l.length+2+qE ls
theorem rL:∀ ls,(jn ls).length=qE ls
 | []=>rfl
 | l::ls=>by simp [jn,qE,rL ls]; omega
theorem xP {b:List Int} {ls:List (List Int)} {r:List Int} (H:wU b ls r) (hb:hH b):∀ l∈ls,hH l:=by
 induction H with
 | nil h=>intro l hl; simp at hl
 | cons h t ih =>
  intro l hl
  rcases List.mem_cons.1 hl with rfl | hl
  ·exact tQ hb _
  ·exact ih (qu hb _) l hl
theorem xc {ls:List (List Int)} (h:∀ l∈ls,hH l):hH (jn ls):=by
 induction ls with
 | nil=>intro l hl; simp [jn] at hl
 | cons m ls ih =>
  intro x hx
  simp only [jn,List.mem_append,List.mem_cons] at hx
  rcases hx with hx | rfl | rfl | hx
  ·exact h m (by simp) x hx
  ·omega
  ·omega
  ·exact ih (fun l hl=>h l (by simp [hl])) x hx
theorem vj:∀ a b:List (List Int),qE (a++b)=qE a+qE b
 | [],b=>by simp [qE]
 | x::a,b=>by simp only [List.cons_append,qE,vj a b]; omega
theorem Di:bl (⟨#[46]⟩:Fa)=[46]:=rfl
def ta:List Int→Int→Option (Int⊕Int):=fun (x:(List Int)) (s8:Int) =>
 (some (fF x)).bind fun v2 =>
 cond ((v2.toList==(⟨#[46]⟩:Fa).toList))
  (some (.inr s8))
  ((some (IntKind.i64.wrap ((x.length:Int)+2))).bind fun v4 =>
  (some (IntKind.i64.wrap (s8+v4))).bind fun v5 =>
  some (.inl v5))
theorem Dc {x:List Int} (hb:hH x):((fF x).toList==(⟨#[46]⟩:Fa).toList)=decide (x=[46]):=by
 rw [pD]
 refine decide_eq_decide.2 ⟨fun h => ?_,fun h=>by rw [h]; rfl⟩
 have:=congrArg bl h
 rw [lq hb,Di] at this
 exact this
theorem zj {x:List Int} {s:Nat} (hb:hH x) (h:x≠[46]) (hl:s+x.length<4611686018427387904):ta x (s:Int)=some (.inl ((s+(x.length+2):Nat):Int)):=by
 unfold ta
 refine el rfl ?_
 rw [Dc hb]
 refine db (decide_eq_false h) (el (uY (by omega) (by omega)) (el (uY (by omega) (by omega)) ?_))
 simp
theorem sL:∀ (ls ms:List (List Int)) (s:Nat),(∀ l∈ls,hH l∧l≠[46])→s+qE ls<4611686018427387904→sH ta (ls++ms) (s:Int)=sH ta ms ((s+qE ls:Nat):Int)
 | [],ms,s,_,_=>by simp [qE]
 | l::ls,ms,s,hb,hs=>by
  simp only [qE] at hs
  rw [List.cons_append]
  conv=>lhs; unfold sH
  rw [zj (hb l (by simp)).1 (hb l (by simp)).2 (by omega)]
  refine (sL ls ms _ (fun m hm=>hb m (by simp [hm])) (by omega)).trans ?_
  simp only [qE]
  rw [show s+(l.length+2)+qE ls=s+(l.length+2+qE ls) by omega]
theorem wq {b:List Int} {ls:List (List Int)} {r:List Int} (H:wU b ls r) (hb:hH b) (hd:∀ l∈ls,l≠[46]) (hl:b.length<4000000000):dQ b=some (0,false):=by
 have hj:=xa H
 have ht:b.length=qE ls+r.length:=by rw [hj,List.length_append,rL]
 unfold dQ eo
 refine el rfl ?_
 refine ii (s:=((0+qE ls:Nat):Int)) (tc ta H hb (by omega) _ _ ?_) rfl
 have:=sL ls [] 0 (fun l hl=>⟨xP H hb l hl,hd l hl⟩) (by omega)
 simpa [sH] using this
theorem uN {b:List Int} (h:dQ b=some (0,false)):ei b=some ([],0,9):=by
 unfold ei
 exact el h (dN rfl rfl)
theorem BV (z:Int) (n:Nat) (h0:0<n) (hn:n<1000000):IntKind.u64.wrap (n:Int)=(n:Int)∧∃ q:Nat,q<n∧mm (IntKind.u64.wrap z) (n:Int)=some (q:Int):=by
 have h:∀ z:Int,IntKind.u64.wrap z=((z % 18446744073709551616).toNat:Int):=by
  intro z
  simp only [IntKind.wrap,IntKind.bits,IntKind.signed]
  have e:(2:Int) ^ 64=18446744073709551616:=by decide
  simp only [e,Bool.false_and,Bool.false_eq_true,if_false]
  omega
 refine ⟨by rw [h]; omega,?_⟩
 rw [h]
 exact ⟨_,Nat.mod_lt _ h0,zy _ n h0⟩
set_option maxRecDepth 100000
/-! The gate: a session by its steps. -/
abbrev Aa:aC:=aC.mk [(⟨#[97]⟩:Fa),(⟨#[98]⟩:Fa)] 9 (⟨#[117]⟩:Fa) (⟨#[115]⟩:Fa) 9000 false
abbrev SG (i t:Int) (g:az) (o:List au):aa:=aa.mk g Aa i t o
abbrev tG (i t:Int) (p:az×List au):Int×Fa×Bool×Fa×Fa×(List ae)×Bool×(List Int)×Fa×Bool×Fa×Fa×Int×Fa×Fa×Int×Bool×Int×Int×(List au) :=
 (p.1.ES,p.1.EE,p.1.EA.EM,p.1.EA.EI,p.1.EA.Ex,p.1.To,p.1.EU,p.1.Eu,p.1.Ev,p.1.ET,(⟨#[97]⟩:Fa),(⟨#[98]⟩:Fa),9,(⟨#[117]⟩:Fa),(⟨#[115]⟩:Fa),9000,false,i,t,p.2)
abbrev lY (g:az) (b:List Int):az:=az.mk g.ES g.EE g.EA g.To g.EU b g.Ev g.ET
abbrev zP:ae:=ae.mk false (⟨#[]⟩:Fa) (⟨#[]⟩:Fa)
def Cq (code:Int):au:=au.mk (cd.mk code [if 200≤code∧code<400 then (⟨#[111,107]⟩:Fa) else (⟨#[110,111]⟩:Fa)]) false (aU.mk zP [] [] false (⟨#[]⟩:Fa) 0) false
theorem Af {i t:Int} (st:Nat→az×List au) (n:Nat) (hn:n<1000000) {g:az} {o:List au} {g':az} {o':List au} (h0:st 0=(g,o))
  (hs:∀ k,k<n→aV (SG i t (st k).1 (st k).2)=some (true,SG i t (st (k+1)).1 (st (k+1)).2))
  (he:aV (SG i t (st n).1 (st n).2)=some (false,SG i t g' o')):bJ (SG i t g o)=some (SG i t g' o'):=by
 unfold bJ
 refine ii (s:=tG i t (g',o')) (rq (fun k=>tG i t (st k)) n _ (by show _=_; simp only [h0]; rfl) (by simp only [iS]; omega) (fun k hk => ?_) ?_) rfl
 ·exact el (hs k hk) rfl
 ·exact el he rfl
theorem xN {i t:Int} {g:az} {o:List au} {g':az} {o':List au} (he:aV (SG i t g o)=some (false,SG i t g' o')):bJ (SG i t g o)=some (SG i t g' o') :=
 Af (fun _=>(g,o)) 0 (by omega) rfl (fun k hk=>by omega) he
theorem xz {i t:Int} {g:az} {o:List au} {g1:az} {o1:List au} {g':az} {o':List au} (h:aV (SG i t g o)=some (true,SG i t g1 o1))
  (he:aV (SG i t g1 o1)=some (false,SG i t g' o')):bJ (SG i t g o)=some (SG i t g' o') :=
 Af (fun k=>if k=0 then (g,o) else (g1,o1)) 1 (by omega) rfl (fun k hk=>match k,hk with | 0,_=>h | k+1,hk=>absurd hk (by omega)) he
theorem sd {l:List Int} (h:hH l):dq l [13,10]=match dw l with | none => -1 | some e=>(e:Int):=uC h
theorem su {l:List Int} (h:hH l) (hl:l.length<1000000):xe l [13,10]=some ():=by
 unfold xe
 refine if_pos ⟨List.all_eq_true.2 fun x hx => ?_,rfl,by omega,by decide⟩
 have:=h x hx
 simp only [Bool.and_eq_true,decide_eq_true_eq]; exact this
theorem oi {i t:Int} {g:az} {o:List au} (h4:g.ES≠4) (hb:hH g.Eu) (hl:g.Eu.length≤512) (hx:dw g.Eu=none):aV (SG i t g o)=some (false,SG i t g o):=by
 unfold aV
 refine db (beq_eq_false_iff_ne.2 h4) (el (su hb (by show g.Eu.length<_; omega)) ?_)
 refine db (decide_eq_false (by show ¬ 0≤dq g.Eu [13,10]; rw [sd hb,hx]; decide)) (dN (decide_eq_true (by show (g.Eu.length:Int)≤512; omega)) rfl)
theorem rH {i t:Int} {g g':az} {o o':List au} {e:Nat} (h4:g.ES≠4) (hb:hH g.Eu) (hl:g.Eu.length<100000) (hx:dw g.Eu=some e)
  (h:bz (SG i t (lY g (g.Eu.drop (e+2))) o) (fF (g.Eu.take e))=some (SG i t g' o')):aV (SG i t g o)=some (true,SG i t g' o'):=by
 unfold aV
 have hI:dq g.Eu [13,10]=(e:Int):=by rw [sd hb,hx]
 have hL:BC g.Eu [13,10]=g.Eu.take e:=by unfold BC; rw [if_pos (by omega),hI]; rfl
 have hR:wH g.Eu [13,10]=g.Eu.drop (e+2):=by unfold wH; rw [hI]; rfl
 refine db (beq_eq_false_iff_ne.2 h4) (el (su hb (by show g.Eu.length<_; omega)) (dN (decide_eq_true (by show 0≤dq g.Eu [13,10]; omega)) ?_))
 rw [← hL,← hR] at h
 exact el rfl (el h rfl)
theorem lG {i t x:Int} {g:az} {o:List au} (h4:g.ES≠4):bm (SG i t g o) x=some ((x==10)||decide (512<(g.Eu.length:Int)),SG i t g o):=by
 unfold bm
 refine db (beq_eq_false_iff_ne.2 h4) ?_
 generalize (x==10)=c
 cases c
 ·exact ii (s:=decide (512<(g.Eu.length:Int))) (db rfl rfl) rfl
 ·exact ii (s:=true) (dN rfl rfl) rfl
def nh (i t:Int) (k:Nat) (x:Int) (p q:az×List au):Prop :=
 p.1.Eu.length<100000∧∃ c:Bool,(if k=0 then c=true else bm (SG i t (lY p.1 (p.1.Eu++[x])) p.2) x=some (c,SG i t (lY p.1 (p.1.Eu++[x])) p.2)) ∧
  (if c=true then bJ (SG i t (lY p.1 (p.1.Eu++[x])) p.2)=some (SG i t q.1 q.2) else q=(lY p.1 (p.1.Eu++[x]),p.2))
theorem Bh:gY Aa=some 0:=by kernel_rfl
theorem tj {g:az} (h1:g.To.length<100000) (h2:g.Eu.length<1000000):gA g=some g:=by
 unfold gA cL eX
 exact el (el (sx (k:=40) (l:=[]) (m:=g.To) (by simp; omega) (by simp; omega)) rfl) (el (el (sx (k:=1) (l:=[]) (m:=g.Eu) (by simp; omega) (by simp; omega)) rfl) rfl)
theorem vQ {i t:Int} (g:az) (b:List Int) (st:Nat→az×List au) (h0:st 0=(g,[])) (hi:i=0∨i=1) (ht:0≤t∧t≤1099511627776) (hv:fa g=some true) (hb:b.length<1000000)
  (hg:g.To.length<100000∧g.Eu.length<1000000) (he:(st b.length).1.To.length<100000∧(st b.length).1.Eu.length<1000000) (hs:∀ k (hk:k<b.length),nh i t k b[k] (st k) (st (k+1))) :
  dz Aa i t g b=some ((st b.length).1,(st b.length).2,0):=by
 unfold dz
 have hlt:(aA (S:=Bool) (A:=(az×(List au)×Int)) (some (.inl false)) (fun _=>none) some:Option (az×(List au)×Int))=none:=rfl
 have ha:decide (t<0)=false:=decide_eq_false (by omega)
 have hc:decide (1099511627776<t)=false:=decide_eq_false (by omega)
 refine el Bh (db rfl (ii (s:=false) ?_ (db rfl (el (tj hg.1 hg.2) ?_))))
 ·rcases hi with rfl | rfl
  ·exact db rfl (db ha (db hc (el hv rfl)))
  ·exact dN rfl (db rfl (db ha (db hc (el hv rfl))))
 refine ii (s:=tG i t (st b.length)) (rq (fun k=>((tG i t (st k)).1,(tG i t (st k)).2.1,(tG i t (st k)).2.2.1,(tG i t (st k)).2.2.2.1,(tG i t (st k)).2.2.2.2.1,(tG i t (st k)).2.2.2.2.2.1,(tG i t (st k)).2.2.2.2.2.2.1,(tG i t (st k)).2.2.2.2.2.2.2.1,(tG i t (st k)).2.2.2.2.2.2.2.2.1,(tG i t (st k)).2.2.2.2.2.2.2.2.2.1,(⟨#[97]⟩:Fa),(⟨#[98]⟩:Fa),9,(⟨#[117]⟩:Fa),(⟨#[115]⟩:Fa),9000,false,i,t,(st k).2,(k:Int))) b.length _ (by show _=_; simp only [h0]; rfl) (by simp only [iS]; omega) (fun k hk => ?_) ?_) ?_
 ·obtain ⟨h1,c,h2,h3⟩:=hs k hk
  refine dN (decide_eq_true (by omega)) (ii (s:=tG i t (st (k+1))) (el (ul hk) (el (vI hk) (el (sx (k:=1) (l:=(st k).1.Eu) (m:=[b[k]]) (by simp; omega) (by simp; omega)) ?_))) (el (nG (by omega) (by omega)) rfl))
  have hz:((k:Int)==0)=decide (k=0):=by rw [Bool.eq_iff_iff,decide_eq_true_eq,beq_iff_eq]; omega
  by_cases hk0:k=0
  ·rw [if_pos hk0] at h2; subst h2
   rw [if_pos rfl] at h3
   exact ii (s:=((st k).1.ES,(st k).1.EE,(st k).1.EA.EM,(st k).1.EA.EI,(st k).1.EA.Ex,(st k).1.To,(st k).1.EU,(st k).1.Eu++[b[k]],(st k).1.Ev,(st k).1.ET,(⟨#[97]⟩:Fa),(⟨#[98]⟩:Fa),9,(⟨#[117]⟩:Fa),(⟨#[115]⟩:Fa),9000,false,i,t,(st k).2,true)) (dN (by rw [hz]; exact decide_eq_true hk0) rfl) (dN rfl (el h3 rfl))
  ·rw [if_neg hk0] at h2
   refine ii (s:=((st k).1.ES,(st k).1.EE,(st k).1.EA.EM,(st k).1.EA.EI,(st k).1.EA.Ex,(st k).1.To,(st k).1.EU,(st k).1.Eu++[b[k]],(st k).1.Ev,(st k).1.ET,(⟨#[97]⟩:Fa),(⟨#[98]⟩:Fa),9,(⟨#[117]⟩:Fa),(⟨#[115]⟩:Fa),9000,false,i,t,(st k).2,c)) (db (by rw [hz]; exact decide_eq_false hk0) (el h2 rfl)) ?_
   cases c
   ·rw [if_neg (by decide)] at h3
    rw [h3]; exact db rfl rfl
   ·rw [if_pos rfl] at h3
    exact dN rfl (el h3 rfl)
 ·exact db (decide_eq_false (by omega)) rfl
 ·exact el (tj he.1 he.2) rfl
set_option maxRecDepth 100000
/-! Bytes,one after the other. -/
inductive FR (i t:Int):az×List au→List Int→az×List au→Prop
 | nil (p):FR i t p [] p
 | cons {p q r:az×List au} {x:Int} {xs:List Int} (h:nh i t 1 x p q) (t':FR i t q xs r):FR i t p (x::xs) r
theorem FR.app {i t:Int} {p q r:az×List au} {a b:List Int} (h:FR i t p a q) (h2:FR i t q b r):FR i t p (a++b) r:=by
 induction h with
 | nil=>exact h2
 | cons h _ ih=>exact .cons h (ih h2)
theorem FR.one {i t:Int} {p q:az×List au} {x:Int} (h:nh i t 1 x p q):FR i t p [x] q := .cons h (.nil _)
theorem FR.traj {i t:Int} {p r:az×List au} {b:List Int} (h:FR i t p b r):∃ st:Nat→az×List au,st 0=p∧st b.length=r∧∀ k (hk:k<b.length),nh i t 1 b[k] (st k) (st (k+1)):=by
 induction h with
 | nil p=>exact ⟨fun _=>p,rfl,rfl,fun k hk=>absurd hk (Nat.not_lt_zero k)⟩
 | @cons p q r x xs h _ ih =>
  obtain ⟨st,h0,h1,h2⟩:=ih
  refine ⟨fun k=>match k with | 0=>p | k+1=>st k,rfl,h1,fun k hk => ?_⟩
  cases k with
  | zero=>show nh i t 1 x p (st 0); rw [h0]; exact h
  | succ k=>exact h2 k (by simpa using hk)
theorem yM {i t x:Int} {p q:az×List au} {k:Nat} (hk:k≠0) (h:nh i t 1 x p q):nh i t k x p q:=by
 obtain ⟨h1,c,h2,h3⟩:=h
 rw [if_neg (by decide)] at h2
 exact ⟨h1,c,by rw [if_neg hk]; exact h2,h3⟩
theorem qd {i t:Int} {g:az} {o:List au} (h:g.Eu=[]):aV (SG i t g o)=some (false,SG i t g o):=by
 by_cases h4:g.ES=4
 ·unfold aV
  refine dN (beq_iff_eq.2 h4) (el (x:=(false,SG i t g o)) ?_ rfl)
  unfold dc
  refine el (x:=([],0,9)) ?_ (dN rfl rfl)
  show ei g.Eu=_
  rw [h]; kernel_rfl
 ·exact oi h4 (by rw [h]; intro x hx; cases hx) (by rw [h]; exact Nat.zero_le _) (by rw [h]; rfl)
theorem yf {i t x:Int} {g:az} {o:List au} (h4:g.ES≠4) (hx:x≠10) (hl:g.Eu.length<512):nh i t 1 x (g,o) (lY g (g.Eu++[x]),o):=by
 refine ⟨by show g.Eu.length<_; omega,false,?_,rfl⟩
 rw [if_neg (by decide)]
 refine (lG (g:=lY g (g.Eu++[x])) h4).trans ?_
 rw [beq_eq_false_iff_ne.2 hx,decide_eq_false (by show ¬ (512:Int)<((g.Eu++[x]).length:Nat); rw [List.length_append]; show ¬ (512:Int)<((g.Eu.length+1:Nat):Int); omega)]; rfl
theorem tR {i t:Int} {g:az} {o:List au} (h4:g.ES≠4):∀ (l b:List Int),(∀ x∈l,x≠10)→b.length+l.length≤512→FR i t (lY g b,o) l (lY g (b++l),o)
 | [],b,_,_=>by rw [List.append_nil]; exact .nil _
 | x::l,b,h,hl=>by
  simp only [List.length_cons] at hl
  have h1:=yf (i:=i) (t:=t) (g:=lY g b) (o:=o) (x:=x) h4 (h x (by simp)) (by show b.length<512; omega)
  have h2:=tR (i:=i) (t:=t) (g:=g) (o:=o) h4 l (b++[x]) (fun y hy=>h y (by simp [hy])) (by rw [List.length_append]; show b.length+1+l.length≤512; omega)
  rw [List.append_assoc] at h2
  exact .cons h1 h2
theorem yo {i t:Int} {g g':az} {o o':List au} {L:List Int} (h4:g.ES≠4) (hg:g.Eu=[]) (hb:hH L) (hc:Ad L) (hl:L.length≤510)
  (h:bz (SG i t g o) (fF L)=some (SG i t g' o')) (hg':g'.Eu=[]):FR i t (g,o) (L++[13,10]) (g',o'):=by
 have eg:g=lY g []:=by
  obtain ⟨a,b,c,d,e,f,k,l⟩:=g
  have:f=[]:=hg
  subst this; rfl
 have h1:=tR (i:=i) (t:=t) (g:=g) (o:=o) h4 (L++[13]) [] (fun x hx=>by
  rcases List.mem_append.1 hx with hx | hx
  ·exact (hc x hx).2
  ·rw [List.mem_singleton.1 hx]; decide) (by rw [List.length_append]; show 0+(L.length+1)≤512; omega)
 rw [← eg,List.nil_append] at h1
 have e:L++[13,10]=(L++[13])++[10]:=by simp
 rw [e]
 refine h1.app (.one ⟨by show (L++[13]).length<_; rw [List.length_append]; show L.length+1<_; omega,true,?_,?_⟩)
 ·rw [if_neg (by decide)]
  exact (lG (g:=lY g ((L++[13])++[10])) h4).trans rfl
 ·rw [if_pos rfl]
  show bJ (SG i t (lY g ((L++[13])++[10])) o)=some (SG i t g' o')
  rw [← e]
  have hx:dw (L++13::10::[])=some L.length:=nQ fun x hx=>(hc x hx).1
  have e1:(L++13::10::[]).drop (L.length+2)=[]:=List.drop_eq_nil_of_le (by rw [List.length_append]; exact Nat.le_refl _)
  have e2:(L++13::10::[]).take L.length=L:=by simp
  refine xz (rH (g:=lY g (L++[13,10])) (g':=g') (o:=o) (o':=o') (e:=L.length) h4 (lE hb (by decide)) (by show (L++[13,10]).length<_; rw [List.length_append]; show L.length+2<_; omega) hx ?_) (qd hg')
  show bz (SG i t (lY g ((L++13::10::[]).drop (L.length+2))) o) (fF ((L++13::10::[]).take L.length))=some (SG i t g' o')
  rw [e1,e2,← eg]; exact h
theorem yA {i t:Int} {g:az} {x:Int} {xs:List Int} {r:az×List au} (h:FR i t (g,[]) (x::xs) r) (h4:g.ES≠4) (hg:g.Eu=[]) (hx:x≠10) (hxb:0≤x∧x<256) (hi:i=0∨i=1) (ht:0≤t∧t≤1099511627776) (hv:fa g=some true)
  (hb:(x::xs).length<1000000) (ht0:g.To.length<100000) (he:r.1.To.length<100000∧r.1.Eu.length<1000000):dz Aa i t g (x::xs)=some (r.1,r.2,0):=by
 obtain ⟨st,h0,h1,h2⟩:=h.traj
 have:=vQ (i:=i) (t:=t) g (x::xs) st h0 hi ht hv hb ⟨ht0,by rw [hg]; decide⟩ (by rw [h1]; exact he) (fun k hk => ?_)
 ·rw [h1] at this; exact this
 by_cases hk0:k=0
 ·subst hk0
  have hq:=h2 0 hk
  rw [h0] at hq ⊢
  obtain ⟨l1,c,h3,h5⟩:=hq
  rw [if_neg (by decide)] at h3
  have hc:c=false:=by
   have h6:=h3.symm.trans (lG (o:=([]:List au)) (show (lY g (g.Eu++[x])).ES≠4 from h4))
   have h7:c=((x==10)||decide ((512:Int)<((g.Eu++[x]).length:Nat))):=congrArg Prod.fst (Option.some.inj h6)
   rw [h7]
   rw [hg,beq_eq_false_iff_ne.2 hx]; rfl
  rw [hc,if_neg (by decide)] at h5
  refine ⟨l1,true,by rw [if_pos rfl],?_⟩
  rw [if_pos rfl]
  rw [h5]
  refine xN (oi h4 ?_ ?_ ?_)
  ·show hH (g.Eu++[x])
   rw [hg]; intro y hy; rw [List.mem_singleton.1 hy]; exact hxb
  ·show (g.Eu++[x]).length≤512
   rw [hg]; exact Nat.le_of_ble_eq_true rfl
  ·show dw (g.Eu++[x])=none
   rw [hg]
   show (if x=13∧([]:List Int).head? = some 10 then some 0 else (dw []).map (· + 1))=none
   rw [if_neg (fun e=>by cases e.2)]; rfl
 ·exact yM hk0 (h2 k hk)
set_option maxRecDepth 100000
theorem zG:dY=some true:=by kernel_rfl
abbrev Bg:az:=az.mk 0 (⟨#[]⟩:Fa) zP [] false [] (⟨#[]⟩:Fa) false
abbrev gE:az:=az.mk 1 (⟨#[104]⟩:Fa) zP [] false [] (⟨#[]⟩:Fa) false
theorem DY:(0:Int)≠4:=by decide
theorem BZ (l:List Int) (h:l.all (fun x=>x != 13&&x != 10)=true):Ad l:=fun x hx=>by
 have:=List.all_eq_true.1 h x hx
 simpa using this
theorem vr (l:List Int) (h:l.all (fun x=>decide (0≤x)&&decide (x<256))=true):hH l:=fun x hx=>by
 have:=List.all_eq_true.1 h x hx
 simpa using this
theorem lf {i t:Int} {g g':az} {o o':List au} (L:List Int) (h4:g.ES≠4) (hg:g.Eu=[]) (hL:(L.all (fun x=>x != 13&&x != 10)&&L.all (fun x=>decide (0≤x)&&decide (x<256))&&decide (L.length≤510))=true)
  (h:bz (SG i t g o) (fF L)=some (SG i t g' o')) (hg':g'.Eu=[]):FR i t (g,o) (L++[13,10]) (g',o'):=by
 simp only [Bool.and_eq_true,decide_eq_true_eq] at hL
 exact yo h4 hg (vr L hL.1.2) (BZ L hL.1.1) hL.2 h hg'
set_option maxRecDepth 100000
/-! A body,byte by byte. -/
def wk (l:List Int):Bool:=decide (l=[46,13,10])||decide (5≤l.length∧l.drop (l.length-5)=[13,10,46,13,10])
theorem uc {a:List Int} (h:hH a) (s:Fa):((fF a).toList==s.toList)=decide (a=bl s):=by
 rw [pD,Bool.eq_iff_iff,decide_eq_true_eq,decide_eq_true_eq,ug,lq h]
theorem wJ {l:List Int} (h:hH l) (hl:l.length<1000000):dM l [13,10,46,13,10]=some (decide (5≤l.length∧l.drop (l.length-5)=[13,10,46,13,10])):=by
 unfold dM
 by_cases h5:5≤l.length
 ·refine ii (s:=decide (5≤l.length∧l.drop (l.length-5)=[13,10,46,13,10])) (dN (decide_eq_true (by show ((5:Nat):Int)≤(l.length:Int); omega)) (el (x:=((l.length-5:Nat):Int)) ?_ (el (x:=l.drop (l.length-5)) ?_ (el (x:=decide (l.drop (l.length-5)=[13,10,46,13,10])) ?_ ?_)))) rfl
  ·show some (IntKind.i64.wrap ((l.length:Int)-((5:Nat):Int)))=_
   rw [pQ (by omega) (by omega)]; congr 1; omega
  ·rw [rX l (by omega) (Nat.le_refl _),List.take_of_length_le (by rw [List.length_drop]; omega)]
  ·unfold gP
   refine el rfl (el rfl (congrArg some ?_))
   rw [uc (qu h _)]; rfl
  ·congr 2
   rw [Bool.eq_iff_iff,decide_eq_true_eq,decide_eq_true_eq]
   exact ⟨fun e=>⟨h5,e⟩,fun e=>e.2⟩
 ·refine ii (s:=false) (db (decide_eq_false (by show ¬ ((5:Nat):Int)≤(l.length:Int); omega)) rfl) ?_
  rw [decide_eq_false (fun e=>h5 e.1)]
theorem wA {i t x:Int} {g:az} {o:List au} (h4:g.ES=4) (hb:hH g.Eu) (hl:g.Eu.length<1000000):bm (SG i t g o) x=some (wk g.Eu,SG i t g o):=by
 unfold bm
 refine dN (beq_iff_eq.2 h4) ?_
 unfold wk
 have e:=uc hb (⟨#[46,13,10]⟩:Fa)
 have e2:bl (⟨#[46,13,10]⟩:Fa)=[46,13,10]:=rfl
 rw [e2] at e
 by_cases h:g.Eu=[46,13,10]
 ·rw [decide_eq_true h] at e
  rw [decide_eq_true h]
  exact ii (s:=true) (el rfl (dN e rfl)) rfl
 ·rw [decide_eq_false h] at e
  rw [decide_eq_false h]
  exact ii (s:=decide (5≤g.Eu.length∧g.Eu.drop (g.Eu.length-5)=[13,10,46,13,10])) (el rfl (db e (el (wJ hb hl) rfl))) rfl
theorem wl {l:List Int} (h:wk l=true):∃ q,l=q++[46,13,10]∧(q=[]∨∃ q',q=q'++[13,10]):=by
 unfold wk at h
 rw [Bool.or_eq_true,decide_eq_true_eq,decide_eq_true_eq] at h
 rcases h with rfl | ⟨h1,h2⟩
 ·exact ⟨[],rfl,.inl rfl⟩
 ·refine ⟨l.take (l.length-5)++[13,10],?_,.inr ⟨_,rfl⟩⟩
  have:=List.take_append_drop (l.length-5) l
  rw [h2] at this
  rw [← this]; simp
set_option maxRecDepth 100000
/-! Commands in any order: the states,what one of them makes of a line. -/
abbrev Ek:ae:=ae.mk false (⟨#[120]⟩:Fa) (⟨#[121]⟩:Fa)
abbrev DU:ae:=ae.mk false (⟨#[99]⟩:Fa) (⟨#[98]⟩:Fa)
abbrev gO (ph:Int) (j:Nat) (b:List Int):az:=az.mk ph (⟨#[104]⟩:Fa) Ek (List.replicate j DU) false b (⟨#[]⟩:Fa) false
abbrev Ed:az:=az.mk 5 (⟨#[104]⟩:Fa) zP [] false [] (⟨#[]⟩:Fa) false
def BJ (s:Nat):az:=if s=0 then Bg else if s=1 then gE else if s=2 then gO 2 0 [] else if s=3 then Ed else gO 3 (s-3) []
def BP (s n:Nat):az :=
 if s=0 then (if n=4 then gE else Bg)
 else if s=3∨n=4∨n=2 then gE
 else if s=1 then (if n=0 then gO 2 0 [] else if n=6 then Ed else gE)
 else if n=1 then (if s=2 then gO 3 1 [] else gO 3 (min (s-2) 8) [])
 else if n=9∧4≤s then gO 4 (s-3) []
 else BJ s
abbrev tO (g:az):Int×Fa×Bool×Fa×Fa×(List ae)×Bool×(List Int)×Fa×Bool:=(g.ES,g.EE,g.EA.EM,g.EA.EI,g.EA.Ex,g.To,g.EU,g.Eu,g.Ev,g.ET)
def uJ (g:az) (n:Int):Option ((Int×Fa×Bool×Fa×Fa×(List ae)×Bool×(List Int)×Fa×Bool)⊕(((Int×Fa×Bool×Fa×Fa×(List ae)×Bool×(List Int)×Fa×Bool×Int)⊕((Unit)⊕Bool)))) :=
 (cv ).bind fun v15 =>
 (eb n ([(⟨#[77,65,73,76,32,70,82,79,77,58,60,120,64,121,62]⟩:Fa),(⟨#[82,67,80,84,32,84,79,58,60,99,64,98,62]⟩:Fa),(⟨#[82,83,69,84]⟩:Fa),(⟨#[78,79,79,80]⟩:Fa),(⟨#[69,72,76,79,32,104]⟩:Fa),(⟨#[69,84,82,78,32,98]⟩:Fa),(⟨#[65,85,84,72,32,67,82,65,77,45,77,68,53]⟩:Fa),(⟨#[65,84,82,78]⟩:Fa),(⟨#[86,82,70,89,32,120]⟩:Fa),(⟨#[68,65,84,65]⟩:Fa),(⟨#[77,65,73,76,32,70,82,79,77,58,60,120,64,121,62,32,83,73,90,69,61,57,57,57,57,57,57]⟩:Fa)]).length).bind fun v16 =>
 (bI ([(⟨#[77,65,73,76,32,70,82,79,77,58,60,120,64,121,62]⟩:Fa),(⟨#[82,67,80,84,32,84,79,58,60,99,64,98,62]⟩:Fa),(⟨#[82,83,69,84]⟩:Fa),(⟨#[78,79,79,80]⟩:Fa),(⟨#[69,72,76,79,32,104]⟩:Fa),(⟨#[69,84,82,78,32,98]⟩:Fa),(⟨#[65,85,84,72,32,67,82,65,77,45,77,68,53]⟩:Fa),(⟨#[65,84,82,78]⟩:Fa),(⟨#[86,82,70,89,32,120]⟩:Fa),(⟨#[68,65,84,65]⟩:Fa),(⟨#[77,65,73,76,32,70,82,79,77,58,60,120,64,121,62,32,83,73,90,69,61,57,57,57,57,57,57]⟩:Fa)]) v16).bind fun v17 =>
 (iP v17 (⟨#[13,10]⟩:Fa)).bind fun v18 =>
 (some (bl v18)).bind fun v19 =>
 (dz ((aC.r v15)) 0 1 ((az.mk g.ES g.EE (ae.mk g.EA.EM g.EA.EI g.EA.Ex) g.To g.EU g.Eu g.Ev g.ET)) v19).bind fun v20 =>
 aA (S:=Bool) (A:=((Int×Fa×Bool×Fa×Fa×(List ae)×Bool×(List Int)×Fa×Bool)⊕((Int×Fa×Bool×Fa×Fa×(List ae)×Bool×(List Int)×Fa×Bool×Int)⊕((Unit)⊕Bool))))
  (cond ((v20.2.2 != 0))
   (some (.inl (true)))
   (aA (S:=Bool) (A:=(Bool⊕((Int×Fa×Bool×Fa×Fa×(List ae)×Bool×(List Int)×Fa×Bool)⊕((Int×Fa×Bool×Fa×Fa×(List ae)×Bool×(List Int)×Fa×Bool×Int)⊕((Unit)⊕Bool)))))
    (cond ((g.ES != 4))
     (some (.inl ((g.ES != 5))))
     (some (.inl (false))))
    (fun (s1916:Bool) =>
     aA (S:=Bool) (A:=(Bool⊕((Int×Fa×Bool×Fa×Fa×(List ae)×Bool×(List Int)×Fa×Bool)⊕((Int×Fa×Bool×Fa×Fa×(List ae)×Bool×(List Int)×Fa×Bool×Int)⊕((Unit)⊕Bool)))))
      (cond (s1916)
       (some (.inl ((g.ES != 6))))
       (some (.inl (false))))
      (fun (s1921:Bool) =>
       aA (S:=Bool) (A:=(Bool⊕((Int×Fa×Bool×Fa×Fa×(List ae)×Bool×(List Int)×Fa×Bool)⊕((Int×Fa×Bool×Fa×Fa×(List ae)×Bool×(List Int)×Fa×Bool×Int)⊕((Unit)⊕Bool)))))
        (cond (s1921)
         (some (.inl (((v20.2.1.length:Int) != 1))))
         (some (.inl (false))))
        (fun (s1926:Bool) =>
         some (.inl (s1926))) some) some) some))
  (fun (s1911:Bool) =>
   cond (s1911)
    (some (.inr (.inr (.inr (false)))))
    (cond (((v20.2.1.length:Int) != 1))
     (some (.inl (v20.1.ES,v20.1.EE,v20.1.EA.EM,v20.1.EA.EI,v20.1.EA.Ex,v20.1.To,v20.1.EU,v20.1.Eu,v20.1.Ev,v20.1.ET)))
     ((eb 0 v20.2.1.length).bind fun v43 =>
     (bI v20.2.1 v43).bind fun v44 =>
     aA (S:=Bool) (A:=((Int×Fa×Bool×Fa×Fa×(List ae)×Bool×(List Int)×Fa×Bool)⊕((Int×Fa×Bool×Fa×Fa×(List ae)×Bool×(List Int)×Fa×Bool×Int)⊕((Unit)⊕Bool))))
      (cond ((v44.EV.Ew==503))
       ((eY ((az.mk v20.1.ES v20.1.EE (ae.mk v20.1.EA.EM v20.1.EA.EI v20.1.EA.Ex) v20.1.To v20.1.EU v20.1.Eu v20.1.Ev v20.1.ET)) ((az.mk g.ES g.EE (ae.mk g.EA.EM g.EA.EI g.EA.Ex) g.To g.EU g.Eu g.Ev g.ET))).bind fun v43 =>
       some (.inl ((!v43))))
       (some (.inl (false))))
      (fun (s1933:Bool) =>
       cond (s1933)
        (some (.inr (.inr (.inr (false)))))
        (aA (S:=Bool) (A:=((Int×Fa×Bool×Fa×Fa×(List ae)×Bool×(List Int)×Fa×Bool)⊕((Int×Fa×Bool×Fa×Fa×(List ae)×Bool×(List Int)×Fa×Bool×Int)⊕((Unit)⊕Bool))))
         (cond ((n==0))
          (some (.inl (true)))
          (some (.inl ((n==10)))))
         (fun (s1939:Bool) =>
          aA (S:=Bool) (A:=((Int×Fa×Bool×Fa×Fa×(List ae)×Bool×(List Int)×Fa×Bool)⊕((Int×Fa×Bool×Fa×Fa×(List ae)×Bool×(List Int)×Fa×Bool×Int)⊕((Unit)⊕Bool))))
           (cond ((g.ES==0))
            (aA (S:=Bool) (A:=(Bool⊕((Int×Fa×Bool×Fa×Fa×(List ae)×Bool×(List Int)×Fa×Bool)⊕((Int×Fa×Bool×Fa×Fa×(List ae)×Bool×(List Int)×Fa×Bool×Int)⊕((Unit)⊕Bool)))))
             (cond (s1939)
              (some (.inl (true)))
              (some (.inl ((n==1)))))
             (fun (s1949:Bool) =>
              aA (S:=Bool) (A:=(Bool⊕((Int×Fa×Bool×Fa×Fa×(List ae)×Bool×(List Int)×Fa×Bool)⊕((Int×Fa×Bool×Fa×Fa×(List ae)×Bool×(List Int)×Fa×Bool×Int)⊕((Unit)⊕Bool)))))
               (cond (s1949)
                (some (.inl (true)))
                (some (.inl ((n==9)))))
               (fun (s1954:Bool) =>
                aA (S:=Bool) (A:=(Bool⊕((Int×Fa×Bool×Fa×Fa×(List ae)×Bool×(List Int)×Fa×Bool)⊕((Int×Fa×Bool×Fa×Fa×(List ae)×Bool×(List Int)×Fa×Bool×Int)⊕((Unit)⊕Bool)))))
                 (cond (s1954)
                  (some (.inl (true)))
                  (some (.inl ((n==5)))))
                 (fun (s1959:Bool) =>
                  aA (S:=Bool) (A:=(Bool⊕((Int×Fa×Bool×Fa×Fa×(List ae)×Bool×(List Int)×Fa×Bool)⊕((Int×Fa×Bool×Fa×Fa×(List ae)×Bool×(List Int)×Fa×Bool×Int)⊕((Unit)⊕Bool)))))
                   (cond (s1959)
                    (some (.inl (true)))
                    (some (.inl ((n==6)))))
                   (fun (s1964:Bool) =>
                    aA (S:=Bool) (A:=(Bool⊕((Int×Fa×Bool×Fa×Fa×(List ae)×Bool×(List Int)×Fa×Bool)⊕((Int×Fa×Bool×Fa×Fa×(List ae)×Bool×(List Int)×Fa×Bool×Int)⊕((Unit)⊕Bool)))))
                     (cond (s1964)
                      (some (.inl (true)))
                      (some (.inl ((n==7)))))
                     (fun (s1969:Bool) =>
                      some (.inl (s1969))) some) some) some) some) some)
            (some (.inl (false))))
           (fun (s1944:Bool) =>
            aA (S:=Bool) (A:=((Int×Fa×Bool×Fa×Fa×(List ae)×Bool×(List Int)×Fa×Bool)⊕((Int×Fa×Bool×Fa×Fa×(List ae)×Bool×(List Int)×Fa×Bool×Int)⊕((Unit)⊕Bool))))
             (cond (s1944)
              ((eb 0 v20.2.1.length).bind fun v91 =>
              (bI v20.2.1 v91).bind fun v92 =>
              some (.inl ((v92.EV.Ew != 503))))
              (some (.inl (false))))
             (fun (s1974:Bool) =>
              aA (S:=Bool) (A:=((Int×Fa×Bool×Fa×Fa×(List ae)×Bool×(List Int)×Fa×Bool)⊕((Int×Fa×Bool×Fa×Fa×(List ae)×Bool×(List Int)×Fa×Bool×Int)⊕((Unit)⊕Bool))))
               (cond (s1974)
                (some (.inl (true)))
                (aA (S:=Bool) (A:=(Bool⊕((Int×Fa×Bool×Fa×Fa×(List ae)×Bool×(List Int)×Fa×Bool)⊕((Int×Fa×Bool×Fa×Fa×(List ae)×Bool×(List Int)×Fa×Bool×Int)⊕((Unit)⊕Bool)))))
                 (cond ((g.ES==2))
                  (some (.inl (true)))
                  (some (.inl ((g.ES==3)))))
                 (fun (s1984:Bool) =>
                  aA (S:=Bool) (A:=(Bool⊕((Int×Fa×Bool×Fa×Fa×(List ae)×Bool×(List Int)×Fa×Bool)⊕((Int×Fa×Bool×Fa×Fa×(List ae)×Bool×(List Int)×Fa×Bool×Int)⊕((Unit)⊕Bool)))))
                   (cond (s1984)
                    (aA (S:=Bool) (A:=(Bool⊕(Bool⊕((Int×Fa×Bool×Fa×Fa×(List ae)×Bool×(List Int)×Fa×Bool)⊕((Int×Fa×Bool×Fa×Fa×(List ae)×Bool×(List Int)×Fa×Bool×Int)⊕((Unit)⊕Bool))))))
                     (cond (s1939)
                      (some (.inl (true)))
                      (aA (S:=Bool) (A:=(Bool⊕(Bool⊕(Bool⊕((Int×Fa×Bool×Fa×Fa×(List ae)×Bool×(List Int)×Fa×Bool)⊕((Int×Fa×Bool×Fa×Fa×(List ae)×Bool×(List Int)×Fa×Bool×Int)⊕((Unit)⊕Bool)))))))
                       (cond ((decide (5≤n)))
                        (some (.inl ((decide (n≤7)))))
                        (some (.inl (false))))
                       (fun (s1999:Bool) =>
                        some (.inl (s1999))) some))
                     (fun (s1994:Bool) =>
                      some (.inl (s1994))) some)
                    (some (.inl (false))))
                   (fun (s1989:Bool) =>
                    aA (S:=Bool) (A:=(Bool⊕((Int×Fa×Bool×Fa×Fa×(List ae)×Bool×(List Int)×Fa×Bool)⊕((Int×Fa×Bool×Fa×Fa×(List ae)×Bool×(List Int)×Fa×Bool×Int)⊕((Unit)⊕Bool)))))
                     (cond (s1989)
                      ((eb 0 v20.2.1.length).bind fun v91 =>
                      (bI v20.2.1 v91).bind fun v92 =>
                      some (.inl ((v92.EV.Ew != 503))))
                      (some (.inl (false))))
                     (fun (s2004:Bool) =>
                      some (.inl (s2004))) some) some) some))
               (fun (s1979:Bool) =>
                aA (S:=Bool) (A:=((Int×Fa×Bool×Fa×Fa×(List ae)×Bool×(List Int)×Fa×Bool)⊕((Int×Fa×Bool×Fa×Fa×(List ae)×Bool×(List Int)×Fa×Bool×Int)⊕((Unit)⊕Bool))))
                 (cond (s1979)
                  (some (.inl (true)))
                  (aA (S:=Bool) (A:=(Bool⊕((Int×Fa×Bool×Fa×Fa×(List ae)×Bool×(List Int)×Fa×Bool)⊕((Int×Fa×Bool×Fa×Fa×(List ae)×Bool×(List Int)×Fa×Bool×Int)⊕((Unit)⊕Bool)))))
                   (cond ((g.ES==2))
                    (some (.inl ((n==9))))
                    (some (.inl (false))))
                   (fun (s2014:Bool) =>
                    aA (S:=Bool) (A:=(Bool⊕((Int×Fa×Bool×Fa×Fa×(List ae)×Bool×(List Int)×Fa×Bool)⊕((Int×Fa×Bool×Fa×Fa×(List ae)×Bool×(List Int)×Fa×Bool×Int)⊕((Unit)⊕Bool)))))
                     (cond (s2014)
                      ((eb 0 v20.2.1.length).bind fun v91 =>
                      (bI v20.2.1 v91).bind fun v92 =>
                      some (.inl ((v92.EV.Ew != 503))))
                      (some (.inl (false))))
                     (fun (s2019:Bool) =>
                      some (.inl (s2019))) some) some))
                 (fun (s2009:Bool) =>
                  cond (s2009)
                   (some (.inr (.inr (.inr (false)))))
                   (some (.inl (v20.1.ES,v20.1.EE,v20.1.EA.EM,v20.1.EA.EI,v20.1.EA.Ex,v20.1.To,v20.1.EU,v20.1.Eu,v20.1.Ev,v20.1.ET)))) some) some) some) some) some)) some))) some
abbrev toG (t:Int×Fa×Bool×Fa×Fa×(List ae)×Bool×(List Int)×Fa×Bool):az:=az.mk t.1 t.2.1 (ae.mk t.2.2.1 t.2.2.2.1 t.2.2.2.2.1) t.2.2.2.2.2.1 t.2.2.2.2.2.2.1 t.2.2.2.2.2.2.2.1 t.2.2.2.2.2.2.2.2.1 t.2.2.2.2.2.2.2.2.2
def CQ (s n:Nat):Bool:=match uJ (BJ s) (n:Int) with
 | some (.inl t)=>decide (toG t=BP s n)
 | _=>false
theorem Dg {s n:Nat} (h:CQ s n=true):uJ (BJ s) (n:Int)=some (.inl (tO (BP s n))):=by
 unfold CQ at h
 split at h
 ·rename_i t e
  rw [e,← of_decide_eq_true h]
 ·cases h
def nA (s:Nat):Bool:=(List.range 11).all fun n=>CQ s n
theorem Bv:nA 0=true:=by kernel_rfl
theorem Bz:nA 1=true:=by kernel_rfl
theorem Bj:nA 2=true:=by kernel_rfl
theorem Ao:nA 3=true:=by kernel_rfl
theorem As:nA 4=true:=by kernel_rfl
theorem Ax:nA 5=true:=by kernel_rfl
theorem Ak:nA 6=true:=by kernel_rfl
theorem Bs:nA 7=true:=by kernel_rfl
theorem Bp:nA 8=true:=by kernel_rfl
theorem Av:nA 9=true:=by kernel_rfl
theorem zw:nA 10=true:=by kernel_rfl
theorem zC:nA 11=true:=by kernel_rfl
theorem Cc:∀ s,s<12→nA s=true
 | 0,_=>Bv
 | 1,_=>Bz
 | 2,_=>Bj
 | 3,_=>Ao
 | 4,_=>As
 | 5,_=>Ax
 | 6,_=>Ak
 | 7,_=>Bs
 | 8,_=>Bp
 | 9,_=>Av
 | 10,_=>zw
 | 11,_=>zC
 | s+12,h=>by omega
theorem Be {s n:Nat} (hs:s<12) (hn:n<11):uJ (BJ s) (n:Int)=some (.inl (tO (BP s n))) :=
 Dg (List.all_eq_true.1 (Cc s hs) n (List.mem_range.2 hn))
set_option maxRecDepth 100000
def CH:List Fa:=[(⟨#[77,65,73,76,32,70,82,79,77,58,60,120,64,121,62]⟩:Fa),(⟨#[82,67,80,84,32,84,79,58,60,99,64,98,62]⟩:Fa),(⟨#[82,83,69,84]⟩:Fa),(⟨#[78,79,79,80]⟩:Fa),(⟨#[69,72,76,79,32,104]⟩:Fa),(⟨#[69,84,82,78,32,98]⟩:Fa),(⟨#[65,85,84,72,32,67,82,65,77,45,77,68,53]⟩:Fa),(⟨#[65,84,82,78]⟩:Fa),(⟨#[86,82,70,89,32,120]⟩:Fa),(⟨#[68,65,84,65]⟩:Fa),(⟨#[77,65,73,76,32,70,82,79,77,58,60,120,64,121,62,32,83,73,90,69,61,57,57,57,57,57,57]⟩:Fa)]
def tK (n:Nat):List Int:=(CH.map bl).getD n []
def Bi (lines:List Int):((Int×Fa×Bool×Fa×Fa×(List ae)×Bool×(List Int)×Fa×Bool×Int))→Option ((Int×Fa×Bool×Fa×Fa×(List ae)×Bool×(List Int)×Fa×Bool×Int)⊕((Unit)⊕Bool)):=(fun ((s1524,s1525,s1526,s1527,s1528,s1529,s1530,s1531,s1532,s1533,s1534):Int×Fa×Bool×Fa×Fa×(List ae)×Bool×(List Int)×Fa×Bool×Int) =>
 cond ((decide (s1534<(lines.length:Int))))
  (aA (S:=Int×Fa×Bool×Fa×Fa×(List ae)×Bool×(List Int)×Fa×Bool) (A:=((Int×Fa×Bool×Fa×Fa×(List ae)×Bool×(List Int)×Fa×Bool×Int)⊕((Unit)⊕Bool)))
   ((eb s1534 lines.length).bind fun v9 =>
   (bI lines v9).bind fun v10 =>
   (some (IntKind.u64.wrap v10)).bind fun v11 =>
   (some (IntKind.u64.wrap ((([(⟨#[77,65,73,76,32,70,82,79,77,58,60,120,64,121,62]⟩:Fa),(⟨#[82,67,80,84,32,84,79,58,60,99,64,98,62]⟩:Fa),(⟨#[82,83,69,84]⟩:Fa),(⟨#[78,79,79,80]⟩:Fa),(⟨#[69,72,76,79,32,104]⟩:Fa),(⟨#[69,84,82,78,32,98]⟩:Fa),(⟨#[65,85,84,72,32,67,82,65,77,45,77,68,53]⟩:Fa),(⟨#[65,84,82,78]⟩:Fa),(⟨#[86,82,70,89,32,120]⟩:Fa),(⟨#[68,65,84,65]⟩:Fa),(⟨#[77,65,73,76,32,70,82,79,77,58,60,120,64,121,62,32,83,73,90,69,61,57,57,57,57,57,57]⟩:Fa)]).length:Int)))).bind fun v12 =>
   (mm v11 v12).bind fun v13 =>
   (some (IntKind.i64.wrap v13)).bind fun v14 =>
   uJ (az.mk s1524 s1525 (ae.mk s1526 s1527 s1528) s1529 s1530 s1531 s1532 s1533) v14)
   (fun ((s1898,s1899,s1900,s1901,s1902,s1903,s1904,s1905,s1906,s1907):Int×Fa×Bool×Fa×Fa×(List ae)×Bool×(List Int)×Fa×Bool) =>
    (some (IntKind.i64.wrap (s1534+1))).bind fun v266 =>
    some (.inl (s1898,s1899,s1900,s1901,s1902,s1903,s1904,s1905,s1906,s1907,v266))) some)
  (some (.inr (.inl ()))))
theorem zV {n:Nat} (h:n<11):∃ w:Fa,bI CH n=some w∧iP w (⟨#[13,10]⟩:Fa)=some (fF (tK n++[13,10]))∧hH (tK n)∧Ad (tK n)∧4≤(tK n).length∧(tK n).length≤31:=by
 have hall:(List.range 11).all (fun n=>(match bI CH n with | some w=>decide (iP w (⟨#[13,10]⟩:Fa)=some (fF (tK n++[13,10]))) | none=>false)&&((tK n).all (fun x=>decide (0≤x)&&decide (x<256))&&((tK n).all (fun x=>x != 13&&x != 10)&&(decide (4≤(tK n).length)&&decide ((tK n).length≤31)))))=true:=by kernel_rfl
 have h1:=List.all_eq_true.1 hall n (List.mem_range.2 h)
 simp only [Bool.and_eq_true,decide_eq_true_eq] at h1
 obtain ⟨h1,h2,h3,h4,h5⟩:=h1
 cases hg:bI CH n with
 | none=>rw [hg] at h1; cases h1
 | some w =>
  rw [hg] at h1
  exact ⟨w,rfl,of_decide_eq_true h1,vr _ (List.all_eq_true.2 fun x hx=>by simpa using List.all_eq_true.1 h2 x hx),BZ _ (List.all_eq_true.2 fun x hx=>by simpa using List.all_eq_true.1 h3 x hx),h4,h5⟩
theorem BE {B t:List Int} (ht:Ad t) (h2:2≤t.length) {k:Nat} (h0:0<k) (hk:k≤(t++[13,10]).length):wk (B++(t++[13,10]).take k)=false:=by
 cases h:wk (B++(t++[13,10]).take k) with
 | false=>rfl
 | true =>
  exfalso
  obtain ⟨q,e,hq⟩:=wl h
  have er:=congrArg List.reverse e
  rw [List.reverse_append,List.reverse_append] at er
  have e3:([46,13,10]:List Int).reverse=[10,13,46]:=rfl
  rw [e3] at er
  have hlen:(t++[13,10]).length=t.length+2:=by rw [List.length_append]; rfl
  have hc:k≤t.length∨k=t.length+1∨k=t.length+2:=by omega
  rcases hc with hc | hc | hc
  ·have e4:(t++[13,10]).take k=t.take k:=List.take_append_of_le_length hc
   rw [e4] at er
   have hne:(t.take k).reverse≠[]:=by
    intro hz
    have:=congrArg List.length hz
    rw [List.length_reverse,List.length_take] at this
    simp only [List.length_nil] at this
    omega
   cases hr:(t.take k).reverse with
   | nil=>exact hne hr
   | cons y w =>
    rw [hr] at er
    have hy:y=10:=(List.cons.inj er).1
    have hm:y∈t:=List.mem_of_mem_take (List.mem_reverse.1 (by rw [hr]; exact List.mem_cons_self))
    exact (ht y hm).2 hy
  ·have e4:(t++[13,10]).take k=t++[13]:=by
    rw [hc,List.take_append,List.take_of_length_le (by omega),Nat.add_sub_cancel_left]; rfl
   rw [e4,List.reverse_append] at er
   have:(13:Int)=10:=(List.cons.inj er).1
   omega
  ·have e4:(t++[13,10]).take k=t++[13,10]:=List.take_of_length_le (by omega)
   rw [e4,List.reverse_append] at er
   have e5:t.reverse++B.reverse=46::q.reverse:=(List.cons.inj (List.cons.inj er).2).2
   cases hr:t.reverse with
   | nil =>
    have:=congrArg List.length hr
    rw [List.length_reverse] at this
    simp only [List.length_nil] at this
    omega
   | cons x w =>
    cases w with
    | nil =>
     have:=congrArg List.length hr
     rw [List.length_reverse] at this
     simp only [List.length_cons,List.length_nil] at this
     omega
    | cons y w =>
     rw [hr] at e5
     have e6:(y::w)++B.reverse=q.reverse:=(List.cons.inj e5).2
     have hm:y∈t:=List.mem_reverse.1 (by rw [hr]; simp)
     rcases hq with rfl | ⟨q',rfl⟩
     ·cases e6
     ·rw [List.reverse_append] at e6
      have:y=10:=(List.cons.inj e6).1
      exact (ht y hm).2 this
section
variable {L:List (List Int)} (hL:∀ l∈L,Ad l∧hH l∧l≠[46]) (ht:qE L<60000)
include hL ht
theorem xB {x:Int} (hx:0≤x∧x<256):ei (jn L++[x])=some ([],0,9):=by
 have H:wU (jn L++[x]) L [x]:=by
  have:=zr (ls:=L) (t:=[x]) (ms:=[]) (r:=[x]) (fun l hl=>(hL l hl).1) (.nil (by
   show (if x=13∧([]:List Int).head? = some 10 then some 0 else (dw []).map (· + 1))=none
   rw [if_neg (fun e=>by cases e.2)]; rfl))
  rw [List.append_nil] at this
  exact this
 have hb:hH (jn L++[x]):=lE (xc fun l hl=>(hL l hl).2.1) (fun y hy=>by rw [List.mem_singleton.1 hy]; exact hx)
 exact uN (wq H hb (fun l hl=>(hL l hl).2.2) (by rw [List.length_append,rL]; show qE L+1<_; omega))
theorem CB {j:Nat} (hj:j<10) {t:List Int} (hc:Ad t) (hb:hH t) (h4:4≤t.length) (h5:t.length≤31) :
  dz Aa 0 1 (gO 4 j (jn L)) (t++[13,10])=some (gO 4 j (jn L++(t++[13,10])),[],0):=by
 have hB:hH (jn L):=xc fun l hl=>(hL l hl).2.1
 have hT:hH (t++[13,10]):=lE hb (vr _ rfl)
 have hlen:(t++[13,10]).length=t.length+2:=by rw [List.length_append]; rfl
 have hjl:(jn L).length=qE L:=rL L
 have hrep:(List.replicate j DU).length<100000:=by rw [List.length_replicate]; omega
 have hv:fa (gO 4 j (jn L))=some true:=by kernel_rfl
 have:=vQ (i:=0) (t:=1) (gO 4 j (jn L)) (t++[13,10]) (fun k=>(gO 4 j (jn L++(t++[13,10]).take k),[])) (by rw [List.take_zero,List.append_nil]) (.inl rfl) (by decide) hv (by omega)
  ⟨hrep,by show (jn L).length<_; omega⟩ ⟨hrep,by show (jn L++(t++[13,10]).take (t++[13,10]).length).length<_; rw [List.length_append,List.take_length]; omega⟩ (fun k hk => ?_)
 ·rw [List.take_length] at this; exact this
 have e:(t++[13,10]).take (k+1)=(t++[13,10]).take k++[(t++[13,10])[k]]:=by rw [List.take_add_one,List.getElem?_eq_getElem hk]; rfl
 have hx:=hT _ (List.getElem_mem hk)
 have e2:(jn L++(t++[13,10]).take k)++[(t++[13,10])[k]]=jn L++(t++[13,10]).take (k+1):=by rw [e,List.append_assoc]
 refine ⟨by show (jn L++(t++[13,10]).take k).length<_; rw [List.length_append,List.length_take]; omega,?_⟩
 show ∃ c:Bool,(if k=0 then c=true else bm (SG 0 1 (gO 4 j ((jn L++(t++[13,10]).take k)++[(t++[13,10])[k]])) []) _=some (c,SG 0 1 (gO 4 j ((jn L++(t++[13,10]).take k)++[(t++[13,10])[k]])) []))∧(if c=true then bJ (SG 0 1 (gO 4 j ((jn L++(t++[13,10]).take k)++[(t++[13,10])[k]])) [])=some (SG 0 1 (gO 4 j (jn L++(t++[13,10]).take (k+1))) []) else (gO 4 j (jn L++(t++[13,10]).take (k+1)),[])=(gO 4 j ((jn L++(t++[13,10]).take k)++[(t++[13,10])[k]]),[]))
 rw [e2]
 by_cases hk0:k=0
 ·refine ⟨true,by rw [if_pos hk0],?_⟩
  rw [if_pos rfl]
  refine xN ?_
  unfold aV
  refine dN rfl (el (x:=(false,SG 0 1 (gO 4 j (jn L++(t++[13,10]).take (k+1))) [])) ?_ rfl)
  unfold dc
  refine el (x:=([],0,9)) ?_ (dN rfl rfl)
  show ei (jn L++(t++[13,10]).take (k+1))=_
  rw [e]
  subst hk0
  rw [List.take_zero,List.nil_append]
  exact xB hL ht hx
 ·refine ⟨false,?_,rfl⟩
  rw [if_neg hk0]
  have hbb:hH (jn L++(t++[13,10]).take (k+1)):=lE hB (tQ hT _)
  refine (wA (g:=gO 4 j (jn L++(t++[13,10]).take (k+1))) rfl hbb (by show (jn L++(t++[13,10]).take (k+1)).length<_; rw [List.length_append,List.length_take]; omega)).trans ?_
  have:=BE (B:=jn L) hc (by omega) (k:=k+1) (by omega) (by omega)
  exact congrArg (fun c=>some (c,SG 0 1 (gO 4 j (jn L++(t++[13,10]).take (k+1))) [])) this
theorem Dr {j:Nat} (hj:j<10) {n:Nat} (hn:n<11):uJ (gO 4 j (jn L)) (n:Int)=some (.inl (tO (gO 4 j (jn (L++[tK n]))))):=by
 obtain ⟨w,h1,h2,h3,h4,h5,h6⟩:=zV hn
 have hf:=CB hL ht hj h4 h3 h5 h6
 have e:jn L++(tK n++[13,10])=jn (L++[tK n]):=by rw [xC]; rfl
 rw [e] at hf
 have hs:bl (fF (tK n++[13,10]))=tK n++[13,10]:=lq (lE h3 (vr _ rfl))
 unfold uJ
 exact el (x:=Aa) rfl (el (ul hn) (el h1 (el h2 (el (congrArg some hs) (el hf rfl)))))
end
set_option maxRecDepth 100000
def CJ (m:Nat) (g:az):Prop:=(∃ s,s<12∧g=BJ s)∨∃ (j:Nat) (L:List (List Int)),j<10∧g=gO 4 j (jn L)∧(∀ l∈L,Ad l∧hH l∧l≠[46])∧qE L≤40 * m
theorem Aw:(List.range 12).all (fun s=>(List.range 11).all fun n=>(List.range 12).any (fun s'=>decide (BP s n=BJ s'))||(decide (4≤s)&&decide (BP s n=gO 4 (s-3) [])))=true:=by kernel_rfl
theorem BW {s n m:Nat} (hs:s<12) (hn:n<11):CJ m (BP s n):=by
 have h:=List.all_eq_true.1 (List.all_eq_true.1 Aw s (List.mem_range.2 hs)) n (List.mem_range.2 hn)
 rw [Bool.or_eq_true,List.any_eq_true,Bool.and_eq_true] at h
 rcases h with ⟨s',h1,h2⟩ | ⟨h1,h2⟩
 ·exact .inl ⟨s',List.mem_range.1 h1,of_decide_eq_true h2⟩
 ·exact .inr ⟨s-3,[],by omega,of_decide_eq_true h2,(fun l hl=>by cases hl),Nat.zero_le _⟩
theorem xu {m n:Nat} {g:az} (h:CJ m g) (hm:m≤30) (hn:n<11):∃ g',uJ g (n:Int)=some (.inl (tO g'))∧CJ (m+1) g':=by
 rcases h with ⟨s,hs,rfl⟩ | ⟨j,L,hj,rfl,hL,ht⟩
 ·exact ⟨_,Be hs hn,BW hs hn⟩
 ·obtain ⟨w,h1,h2,h3,h4,h5,h6⟩:=zV hn
  refine ⟨_,Dr hL (by omega) hj hn,.inr ⟨j,L++[tK n],hj,rfl,fun l hl => ?_,?_⟩⟩
  ·rcases List.mem_append.1 hl with hl | hl
   ·exact hL l hl
   ·rw [List.mem_singleton.1 hl]
    refine ⟨h4,h3,fun e => ?_⟩
    rw [e] at h5
    simp at h5
  ·rw [vj]
   show qE L+((tK n).length+2+0)≤_
   omega
theorem sV (lines:List Int) (hl:lines.length≤30):∀ (d fuel k:Nat) (g:az),k+d=lines.length→d<fuel→CJ k g →
  bw (Bi lines) fuel (g.ES,g.EE,g.EA.EM,g.EA.EI,g.EA.Ex,g.To,g.EU,g.Eu,g.Ev,g.ET,(k:Int))=some (.inl ())
 | 0,fuel,k,g,hk,hf,h=>by
  obtain ⟨f,rfl⟩:∃ f,fuel=f+1:=⟨fuel-1,by omega⟩
  refine lJ ?_
  unfold Bi
  exact db (decide_eq_false (by omega)) rfl
 | d+1,fuel,k,g,hk,hf,h=>by
  obtain ⟨f,rfl⟩:∃ f,fuel=f+1:=⟨fuel-1,by omega⟩
  have hkl:k<lines.length:=by omega
  obtain ⟨_,q,hq,hr⟩:=BV lines[k] 11 (by decide) (by decide)
  obtain ⟨g',h1,h2⟩:=xu h (by omega) hq
  rw [nJ (s':=(g'.ES,g'.EE,g'.EA.EM,g'.EA.EI,g'.EA.Ex,g'.To,g'.EU,g'.Eu,g'.Ev,g'.ET,((k+1:Nat):Int)))]
  ·exact sV lines hl d f (k+1) g' (by omega) (by omega) h2
  ·unfold Bi
   refine dN (decide_eq_true (by omega)) (ii (s:=tO g') (el (ul hkl) (el (vI hkl) (el rfl (el (x:=11) rfl (el hr (el (nG (by omega) (by omega)) h1)))))) (el (nG (by omega) (by omega)) rfl))
/-! Behind the end nothing is answered. -/
abbrev gV (b:List Int):az:=az.mk 6 (⟨#[]⟩:Fa) zP [] false b (⟨#[]⟩:Fa) false
theorem rh:∀ {l:List Int} {x:Int},dw l=none→x≠10→dw (l++[x])=none
 | [],x,_,hx=>by
  show (if x=13∧([]:List Int).head? = some 10 then some 0 else (dw []).map (· + 1))=none
  rw [if_neg (fun e=>by cases e.2)]; rfl
 | y::l,x,h,hx=>by
  rw [List.cons_append]
  unfold dw at h ⊢
  split at h
  ·cases h
  ·rename_i hc
   have hi:dw l=none:=by
    cases hi:dw l with
    | none=>rfl
    | some k=>rw [hi] at h; cases h
   rw [if_neg,rh hi hx]; rfl
   rintro ⟨e1,e2⟩
   cases l with
   | nil=>exact hx (Option.some.inj e2)
   | cons z l=>exact hc ⟨e1,e2⟩
theorem tM:∀ {l:List Int} {x:Int} {e:Nat},dw l=none→dw (l++[x])=some e→e+2=l.length+1
 | [],x,e,_,h=>by
  have:dw ([]++[x])=none:=by
   show (if x=13∧([]:List Int).head? = some 10 then some 0 else (dw []).map (· + 1))=none
   rw [if_neg (fun e=>by cases e.2)]; rfl
  rw [this] at h; cases h
 | y::l,x,e,hn,h=>by
  rw [List.cons_append] at h
  unfold dw at hn h
  split at hn
  ·cases hn
  ·rename_i hc
   have hi:dw l=none:=by
    cases hi:dw l with
    | none=>rfl
    | some k=>rw [hi] at hn; cases hn
   split at h
   ·rename_i hc2
    cases h
    cases l with
    | nil=>rfl
    | cons z l=>exact absurd hc2 hc
   ·cases hj:dw (l++[x]) with
    | none=>rw [hj] at h; cases h
    | some k =>
     rw [hj] at h
     have h1:k+1=e:=Option.some.inj h
     have h2:=tM hi hj
     simp only [List.length_cons]; omega
theorem wD {b:List Int} {o:List au} {x:Int} (hb:hH b) (hl:b.length≤512) (hi:dw b=none) (hx:0≤x∧x<256) :
  ∃ b',nh 0 1 1 x (gV b,o) (gV b',o)∧hH b'∧b'.length≤512∧dw b'=none:=by
 have hbx:hH (b++[x]):=lE hb (fun y hy=>by rw [List.mem_singleton.1 hy]; exact hx)
 have hlx:(b++[x]).length=b.length+1:=by rw [List.length_append]; rfl
 have z64:(6:Int)≠4:=by decide
 have hcomp:=lG (i:=0) (t:=1) (x:=x) (g:=gV (b++[x])) (o:=o) z64
 have hnil:hH ([]:List Int):=fun y hy=>by cases hy
 by_cases hc:((x==10)||decide ((512:Int)<((b++[x]).length:Nat)))=true
 ·cases hj:dw (b++[x]) with
  | some e =>
   have he:=tM hi hj
   have hd:(b++[x]).drop (e+2)=[]:=List.drop_eq_nil_of_le (by omega)
   refine ⟨[],⟨by show b.length<_; omega,true,?_,?_⟩,hnil,Nat.zero_le _,rfl⟩
   ·rw [if_neg (by decide)]
    exact hcomp.trans (congrArg (fun c=>some (c,SG 0 1 (gV (b++[x])) o)) hc)
   ·rw [if_pos rfl]
    refine xz (g1:=gV []) (o1:=o) (rH (g:=gV (b++[x])) (g':=gV []) (o:=o) (o':=o) (e:=e) z64 hbx (by show (b++[x]).length<_; omega) hj ?_) (qd rfl)
    show bz (SG 0 1 (gV ((b++[x]).drop (e+2))) o) (fF ((b++[x]).take e))=_
    rw [hd]
    unfold bz
    exact ii (s:=tG 0 1 (gV [],o)) (dN rfl rfl) rfl
  | none =>
   by_cases h5:(b++[x]).length≤512
   ·refine ⟨b++[x],⟨by show b.length<_; omega,true,?_,?_⟩,hbx,h5,hj⟩
    ·rw [if_neg (by decide)]
     exact hcomp.trans (congrArg (fun c=>some (c,SG 0 1 (gV (b++[x])) o)) hc)
    ·rw [if_pos rfl]
     exact xN (oi (g:=gV (b++[x])) z64 hbx h5 hj)
   ·refine ⟨[],⟨by show b.length<_; omega,true,?_,?_⟩,hnil,Nat.zero_le _,rfl⟩
    ·rw [if_neg (by decide)]
     exact hcomp.trans (congrArg (fun c=>some (c,SG 0 1 (gV (b++[x])) o)) hc)
    ·rw [if_pos rfl]
     refine xz (g1:=gV []) (o1:=o) ?_ (qd rfl)
     unfold aV
     refine db rfl (el (su hbx (by show (b++[x]).length<_; omega)) ?_)
     refine db (decide_eq_false (by show ¬ 0≤dq (b++[x]) [13,10]; rw [sd hbx,hj]; decide)) (db (decide_eq_false (by show ¬ ((b++[x]).length:Int)≤512; omega)) ?_)
     exact ii (s:=tG 0 1 (gV [],o)) (db rfl rfl) rfl
 ·have hc':=Bool.eq_false_iff.2 hc
  have h10:x≠10:=fun e=>hc (by rw [e]; rfl)
  have h5:(b++[x]).length≤512:=by
   have:¬ ((512:Int)<((b++[x]).length:Nat)):=fun e=>hc (by rw [decide_eq_true e,Bool.or_true])
   omega
  refine ⟨b++[x],⟨by show b.length<_; omega,false,?_,rfl⟩,hbx,h5,rh hi h10⟩
  rw [if_neg (by decide)]
  exact hcomp.trans (congrArg (fun c=>some (c,SG 0 1 (gV (b++[x])) o)) hc')
theorem tp {o:List au}:∀ (l b:List Int),hH l→hH b→b.length≤512→dw b=none→∃ b',FR 0 1 (gV b,o) l (gV b',o)∧b'.length≤512
 | [],b,_,_,hl,_=>⟨b,.nil _,hl⟩
 | x::l,b,h,hb,hl,hi=>by
  obtain ⟨b1,h1,h2,h3,h4⟩:=wD (o:=o) hb hl hi (h x (by simp))
  obtain ⟨b2,h5,h6⟩:=tp l b1 (fun y hy=>h y (by simp [hy])) h2 h3 h4
  exact ⟨b2,.cons h1 h5,h6⟩
theorem lQ:bz (SG 0 1 Bg []) (fF [81,85,73,84])=some (SG 0 1 (gV []) [Cq 221]):=by kernel_rfl
theorem wL {more:List Int} (hb:hH more) (hl:more.length≤600):∃ b,dz Aa 0 1 Bg ([81,85,73,84,13,10]++more)=some (gV b,[Cq 221],0):=by
 obtain ⟨b,h1,h2⟩:=tp (o:=[Cq 221]) more [] hb (fun y hy=>by cases hy) (Nat.zero_le _) rfl
 have f:=(lf (i:=0) (t:=1) [81,85,73,84] DY rfl rfl lQ rfl).app h1
 have hlen:([81,85,73,84,13,10]++more).length<1000000:=by rw [List.length_append]; show 6+more.length<1000000; omega
 exact ⟨b,yA (r:=(gV b,[Cq 221])) f DY rfl (by decide) (by decide) (.inl rfl) (by decide) (by kernel_rfl) hlen (by decide) ⟨Nat.lt_of_lt_of_le (Nat.lt_succ_self _) (Nat.le_of_ble_eq_true rfl),by show b.length<_; omega⟩⟩
theorem qz (lines more:List Int) (hw:uw (mf .u8) more):cT lines more=some true:=by
 unfold cT
 by_cases h1:30<(lines.length:Int)
 ·exact ii (s:=true) (dN (decide_eq_true h1) rfl) (dN rfl rfl)
 by_cases h2:600<(more.length:Int)
 ·exact ii (s:=true) (db (decide_eq_false h1) (by rw [decide_eq_true h2])) (dN rfl rfl)
 refine ii (s:=false) (db (decide_eq_false h1) (by rw [decide_eq_false h2])) (db rfl (el (x:=Bg) rfl ?_))
 have hloop:=sV lines (by omega) lines.length iS 0 Bg (by omega) (by simp only [iS]; omega) (.inl ⟨0,by decide,rfl⟩)
 refine ii (s:=()) hloop ?_
 obtain ⟨b,hf⟩:=wL (wy hw) (by omega)
 refine el (x:=Aa) rfl (el (x:=Bg) rfl (el (sx (k:=1) (l:=[81,85,73,84,13,10]) (m:=more) ?_ ?_) (el hf (ii (s:=true) (dN rfl rfl) (ii (s:=true) (dN rfl (el (x:=0) rfl (el (x:=Cq 221) rfl rfl))) (ii (s:=true) (dN rfl (el zG rfl)) rfl))))))
 ·simp only [List.length_cons,List.length_nil]; omega
 ·simp only [List.length_cons,List.length_nil]; omega
end Go.Abs.Sh
