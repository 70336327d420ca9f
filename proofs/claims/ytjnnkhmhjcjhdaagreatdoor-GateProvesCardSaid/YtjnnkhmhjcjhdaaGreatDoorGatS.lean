import Derived.Test.YtjnnkhmhjcjhdaaGreatDoorSh
set_option linter.unusedVariables false
set_option linter.unusedSimpArgs false
set_option linter.unusedSectionVars false
namespace Go.Abs.Sh
set_option linter.unusedVariables false
theorem pR {n:Int} (h0 : -9223372036854775808≤n) (h1:n<9223372036854775808):IntKind.i64.wrap n=n:=by
 simp only [IntKind.wrap,IntKind.bits,IntKind.signed]
 have e:(2:Int) ^ 64=18446744073709551616:=by decide
 have e2:(2:Int) ^ (64-1)=9223372036854775808:=by decide
 simp only [e,e2,Bool.true_and,decide_eq_true_eq]
 split <;> omega
theorem bN {i n:Nat} (h:i<n):dE (i:Int) n=some i:=by simp [dE]; omega
theorem DF {A:Type} {l:List A} {i:Nat} (h:i<l.length):bF l i=some l[i]:=by simp [bF,h]
theorem aB {A R:Type} {m:Option A} {f:A→Option R} {x:A} {r:Option R} (h:m=some x) (h2:f x=r):m.bind f=r:=by subst h; exact h2
theorem bo {S A R:Type} {m:Option (S⊕A)} {k:S→Option R} {e:A→Option R} {s:S} {r:Option R} (h:m=some (.inl s)) (h2:k s=r):aE m k e=r:=by subst h; exact h2
theorem xC {S A R:Type} {m:Option (S⊕A)} {k:S→Option R} {e:A→Option R} {a:A} {r:Option R} (h:m=some (.inr a)) (h2:e a=r):aE m k e=r:=by subst h; exact h2
theorem kU {S O:Type} {step:S→Option (S⊕O)} {n:Nat} {s s':S} (h:step s=some (.inl s')):bB step (n+1) s=bB step n s':=by
 simp only [bB,h]
theorem iS {S O:Type} {step:S→Option (S⊕O)} {n:Nat} {s:S} {o:O} (h:step s=some (.inr o)):bB step (n+1) s=some o:=by
 simp only [bB,h]
theorem aG {R:Type} {c:Bool} {x y r:R} (hc:c=false) (h:y=r):cond c x y=r:=by subst hc; exact h
theorem aQ {R:Type} {c:Bool} {x y r:R} (hc:c=true) (h:x=r):cond c x y=r:=by subst hc; exact h
theorem Bk {S O:Type} {f:S→Option (S⊕O)} (st:Nat→S) {o:O}:∀ (n fuel:Nat),n<fuel→(∀ i,i<n→f (st i)=some (.inl (st (i+1))))→f (st n)=some (.inr o)→bB f fuel (st 0)=some o:=by
 intro n
 induction n generalizing st with
 | zero =>
  intro fuel hf _ he
  obtain ⟨k,rfl⟩:∃ k,fuel=k+1:=⟨fuel-1,by omega⟩
  exact iS he
 | succ n ih =>
  intro fuel hf hs he
  obtain ⟨k,rfl⟩:∃ k,fuel=k+1:=⟨fuel-1,by omega⟩
  rw [kU (hs 0 (by omega))]
  exact ih (fun i=>st (i+1)) k (by omega) (fun i hi=>hs (i+1) (by omega)) he
theorem bD {S O:Type} {f:S→Option (S⊕O)} {s:S} (st:Nat→S) {o:O} (n fuel:Nat) (h0:st 0=s) (hn:n<fuel) (hs:∀ i,i<n→f (st i)=some (.inl (st (i+1)))) (he:f (st n)=some (.inr o)):bB f fuel s=some o:=by
 subst h0; exact Bk st n fuel hn hs he
theorem rQ (p:Nat→Bool):∀ n,(∀ i,i<n→p i=true)∨∃ k,k<n∧(∀ i,i<k→p i=true)∧p k=false
 | 0 => .inl fun i h=>absurd h (Nat.not_lt_zero i)
 | n+1=>by
  rcases rQ p n with h | ⟨k,h1,h2,h3⟩
  ·cases hp:p n
   ·exact .inr ⟨n,by omega,h,hp⟩
   ·refine .inl fun i hi => ?_
    by_cases h':i=n
    ·subst h'; exact hp
    ·exact h i (by omega)
  ·exact .inr ⟨k,by omega,h2,h3⟩
theorem mN {R:Type} {f:Int→Option (Int⊕(Unit⊕R))} (p:Nat→Bool) (n:Nat) (r:R) {fuel:Nat} (hf:n<fuel) (hgo:∀ i,i<n→p i=true→f (i:Int)=some (.inl ((i+1:Nat):Int))) (hno:∀ i,i<n→p i=false→f (i:Int)=some (.inr (.inr r))) (hend:f (n:Int)=some (.inr (.inl ()))) :
  bB f fuel 0=some (if ∀ i,i<n→p i=true then .inl () else .inr r):=by
 rcases rQ p n with h | ⟨k,h1,h2,h3⟩
 ·rw [if_pos h]
  exact bD (fun i=>(i:Int)) n fuel rfl hf (fun i hi=>hgo i hi (h i hi)) hend
 ·rw [if_neg fun h=>by rw [h k h1] at h3; cases h3]
  exact bD (fun i=>(i:Int)) k fuel rfl (by omega) (fun i hi=>hgo i (by omega) (h2 i hi)) (hno k h1 h3)
theorem vS (n:Nat) (h:n<9223372036854775808):IntKind.i64.wrap (n:Int)=(n:Int):=pR (by omega) (by omega)
theorem kW {n:Nat} (h:n<4611686018427387904):IntKind.i64.wrap ((n:Int)+1)=((n+1:Nat):Int):=by rw [pR (by omega) (by omega)]; simp
theorem aF {n:Int} (h0 : -9223372036854775808≤n) (h1:n<9223372036854775808):some (IntKind.i64.wrap n)=some n:=by rw [pR h0 h1]
theorem za {n:Int} (h0:0≤n) (h1:n<256):IntKind.u8.wrap n=n:=by
 simp only [IntKind.wrap,IntKind.bits,IntKind.signed]
 have e:(2:Int) ^ 8=256:=by decide
 simp only [e,Bool.false_and,Bool.false_eq_true,if_false]
 omega
theorem zE (a b:Nat) (hb:0<b) (ha:a<9223372036854775808):qd .i64 (a:Int) (b:Int)=some ((a / b:Nat):Int):=by
 simp only [qd]
 have:a / b≤a:=Nat.div_le_self a b
 rw [if_neg (by omega),Int.tdiv_eq_ediv_of_nonneg (by omega)]
 have e:(a:Int) / (b:Int)=((a / b:Nat):Int):=rfl
 rw [e,vS _ (by omega)]
theorem ko (a b:Nat) (hb:0<b):kC (a:Int) (b:Int)=some ((a % b:Nat):Int):=by
 simp only [kC]
 rw [if_neg (by omega),Int.tmod_eq_emod_of_nonneg (by omega)]
 rfl
theorem ru {A:Type} (l:List A) {a b:Nat} (h1:a≤b) (h2:b≤l.length):kN l (a:Int) (b:Int)=some ((l.drop a).take (b-a)):=by
 unfold kN
 rw [if_pos (by omega)]
 simp only [Int.toNat_natCast]
theorem dS {A:Type} {k:Nat} {l m:List A} (h:(l.length+m.length) * k≤140737488355328) (h1:l.length+m.length≤140737488355328):cr k l m=some (l++m):=by
 unfold cr; rw [if_pos ⟨h,h1⟩]
theorem bM (s:JH):kb (ak s):=by
 intro x hx
 simp only [ak,List.mem_map] at hx
 obtain ⟨b,_,rfl⟩:=hx
 have:=b.toNat_lt
 omega
theorem jh (s:JH):bC (ak s)=s:=by
 obtain ⟨⟨l⟩⟩:=s
 simp only [bC,ak,List.map_map]
 congr 2
 conv=>rhs; rw [← List.map_id l]
 apply List.map_congr_left
 intro b _
 simp
theorem bR {l:List Int} (h:kb l):ak (bC l)=l:=by
 simp only [bC,ak,List.map_map]
 conv=>rhs; rw [← List.map_id l]
 apply List.map_congr_left
 intro x hx
 have:=h x hx
 simp only [Function.comp,id_eq,UInt8.toNat_ofNat']
 omega
theorem oZ {s t:JH} (h:ak s=ak t):s=t:=by rw [← jh s,h,jh]
theorem dH (l:List Int):(bC l).size=l.length:=by simp [bC,ByteArray.size]
theorem vD {l:List Int} (h:kb l) (n:Nat):kb (l.drop n):=fun x hx=>h x (List.mem_of_mem_drop hx)
theorem BC {l:List Int} (h:kb l) (n:Nat):kb (l.take n):=fun x hx=>h x (List.mem_of_mem_take hx)
theorem gr {l m:List Int} (h:kb l) (k:kb m):kb (l++m):=by
 intro x hx
 rcases List.mem_append.1 hx with h1 | h1
 ·exact h x h1
 ·exact k x h1
theorem oU {s:JH} {i:Nat} (h:i<s.size):cm s (i:Int)=some ((ak s)[i]'(by rw [aS]; exact h)):=by
 unfold cm
 rw [if_pos (by omega)]
 have h':i<s.data.toList.length:=by simpa using h
 simp only [Int.toNat_natCast,ak,List.getElem?_eq_getElem h',Option.map_some,List.getElem_map]
theorem sv {s:JH} {a b:Nat} (h1:a≤b) (h2:b≤s.size):fZ s (a:Int) (b:Int)=some (bC (((ak s).drop a).take (b-a))):=by
 unfold fZ
 rw [if_pos (by omega)]
 simp only [Int.toNat_natCast]
 congr 1
 apply oZ
 rw [bR (BC (vD (bM s) a) _)]
 simp only [ak,ByteArray.data_extract,Array.toList_extract,List.extract_eq_take_drop,List.map_take,List.map_drop]
theorem pa {s t:JH} (h:s.size+t.size≤9223372036854775807):fh s t=some (bC (ak s++ak t)):=by
 unfold fh
 rw [if_pos h]
 congr 1
 apply oZ
 rw [bR (gr (bM s) (bM t))]
 simp [ak]
theorem iP (s t:JH):(s.toList==t.toList)=decide (s=t):=by
 rw [← beq_toListBytes,Bool.eq_iff_iff,decide_eq_true_eq]
 obtain ⟨a⟩:=s
 obtain ⟨b⟩:=t
 show (a==b)=true↔_
 rw [beq_iff_eq]
 exact ⟨fun h=>by rw [h],fun h=>by injection h⟩
theorem xt {s t:JH}:s=t↔ak s=ak t:=⟨fun h=>h ▸ rfl,oZ⟩
def pf:List Int→Option Nat
 | []=>none
 | x::l=>if x=13∧l.head? = some 10 then some 0 else (pf l).map (· + 1)
theorem ug:∀ {line rest:List Int},(∀ x∈line,x≠13)→pf (line++13::10::rest)=some line.length
 | [],rest,_=>by simp [pf]
 | x::line,rest,h=>by
  have hx:=h x (by simp)
  have ih:=ug (line:=line) (rest:=rest) fun y hy=>h y (by simp [hy])
  rw [List.cons_append]
  unfold pf
  rw [if_neg (fun e=>hx e.1),ih]
  simp
theorem Ev {x:Int} (h:0≤x∧x<256) {n:Nat} (hn:n<256):(UInt8.ofNat x.toNat=UInt8.ofNat n)↔x=(n:Int):=by
 constructor
 ·intro e
  have:=congrArg UInt8.toNat e
  simp only [UInt8.toNat_ofNat'] at this
  omega
 ·rintro rfl; simp
theorem By:∀ {l:List Int},kb l→Lib.index (Lib.bytesOf l) (Lib.bytesOf [13,10])=match pf l with | none => -1 | some e=>(e:Int)
 | [],_=>by rfl
 | x::l,h=>by
  have hx:=h x (by simp)
  have ih:=By (l:=l) fun y hy=>h y (by simp [hy])
  have e1:Lib.bytesOf (x::l)=UInt8.ofNat x.toNat::Lib.bytesOf l:=rfl
  have e2:Lib.bytesOf [13,10]=[UInt8.ofNat 13,UInt8.ofNat 10]:=rfl
  rw [e1]
  unfold Lib.index pf
  have hp:(Lib.bytesOf [13,10]).isPrefixOf (UInt8.ofNat x.toNat::Lib.bytesOf l)=decide (x=13∧l.head? = some 10):=by
   rw [Bool.eq_iff_iff,decide_eq_true_eq,e2]
   cases l with
   | nil=>simp [Lib.bytesOf,List.isPrefixOf]
   | cons y l =>
    have hy:=h y (by simp)
    have ex:=Ev hx (n:=13) (by omega)
    have ey:=Ev hy (n:=10) (by omega)
    simp only [Lib.bytesOf,List.map_cons,List.isPrefixOf,Bool.and_eq_true,beq_iff_eq,Bool.true_and,Bool.and_true,and_true,List.head?_cons,Option.some.injEq]
    constructor
    ·rintro ⟨h1,h2⟩; exact ⟨ex.1 h1.symm,ey.1 h2.symm⟩
    ·rintro ⟨h1,h2⟩; exact ⟨(ex.2 h1).symm,(ey.2 h2).symm⟩
  rw [hp]
  by_cases hc:x=13∧l.head? = some 10
  ·rw [if_pos (by simpa using hc),if_pos hc]
   rfl
  ·rw [if_neg (by simpa using hc),if_neg hc,ih]
   cases pf l with
   | none=>rfl
   | some k =>
    have:((k:Int) == -1)=false:=beq_eq_false_iff_ne.2 (by omega)
    simp only [this,Bool.false_eq_true,if_false,Option.map_some]
    rfl
set_option maxRecDepth 100000
abbrev Dq:aH:=aH.mk [(⟨#[97]⟩:JH),(⟨#[98]⟩:JH)] 9 (⟨#[117]⟩:JH) (⟨#[115]⟩:JH) 9000 false
abbrev SG (i t:Int) (g:aI) (o:List aA):aa:=aa.mk g Dq i t o
abbrev tG (i t:Int) (p:aI×List aA):Int×JH×Bool×JH×JH×(List ah)×Bool×(List Int)×JH×Bool×JH×JH×Int×JH×JH×Int×Bool×Int×Int×(List aA) :=
 (p.1.Jz,p.1.Jm,p.1.Ji.Ju,p.1.Ji.Jq,p.1.Ji.Jf,p.1.To,p.1.JB,p.1.Jc,p.1.Jd,p.1.JA,(⟨#[97]⟩:JH),(⟨#[98]⟩:JH),9,(⟨#[117]⟩:JH),(⟨#[115]⟩:JH),9000,false,i,t,p.2)
abbrev nE (g:aI) (b:List Int):aI:=aI.mk g.Jz g.Jm g.Ji g.To g.JB b g.Jd g.JA
abbrev zP:ah:=ah.mk false (⟨#[]⟩:JH) (⟨#[]⟩:JH)
def qK (code:Int):aA:=aA.mk (cC.mk code [if 200≤code∧code<400 then (⟨#[111,107]⟩:JH) else (⟨#[110,111]⟩:JH)]) false (bf.mk zP [] [] false (⟨#[]⟩:JH) 0) false
theorem EB {i t:Int} (st:Nat→aI×List aA) (n:Nat) (hn:n<1000000) {g:aI} {o:List aA} {g':aI} {o':List aA} (h0:st 0=(g,o))
  (hs:∀ k,k<n→bw (SG i t (st k).1 (st k).2)=some (true,SG i t (st (k+1)).1 (st (k+1)).2))
  (he:bw (SG i t (st n).1 (st n).2)=some (false,SG i t g' o')):ck (SG i t g o)=some (SG i t g' o'):=by
 unfold ck
 refine bo (s:=tG i t (g',o')) (bD (fun k=>tG i t (st k)) n _ (by show _=_; simp only [h0]; rfl) (by simp only [el]; omega) (fun k hk => ?_) ?_) rfl
 ·exact aB (hs k hk) rfl
 ·exact aB he rfl
theorem GB {i t:Int} {g:aI} {o:List aA} {g':aI} {o':List aA} (he:bw (SG i t g o)=some (false,SG i t g' o')):ck (SG i t g o)=some (SG i t g' o') :=
 EB (fun _=>(g,o)) 0 (by omega) rfl (fun k hk=>by omega) he
theorem Gd {i t:Int} {g:aI} {o:List aA} {g1:aI} {o1:List aA} {g':aI} {o':List aA} (h:bw (SG i t g o)=some (true,SG i t g1 o1))
  (he:bw (SG i t g1 o1)=some (false,SG i t g' o')):ck (SG i t g o)=some (SG i t g' o') :=
 EB (fun k=>if k=0 then (g,o) else (g1,o1)) 1 (by omega) rfl (fun k hk=>match k,hk with | 0,_=>h | k+1,hk=>absurd hk (by omega)) he
theorem yK {l:List Int} (h:kb l):eA l [13,10]=match pf l with | none => -1 | some e=>(e:Int):=By h
theorem zd {l:List Int} (h:kb l) (hl:l.length<1000000):BP l [13,10]=some ():=by
 unfold BP
 refine if_pos ⟨List.all_eq_true.2 fun x hx => ?_,rfl,by omega,by decide⟩
 have:=h x hx
 simp only [Bool.and_eq_true,decide_eq_true_eq]; exact this
theorem sJ {i t:Int} {g:aI} {o:List aA} {code:Int} (hc:code≠334) (ho:o.length<100000):aT (SG i t g o) code=some (SG i t g (o++[qK code])):=by
 unfold aT
 refine aB (x:=(qK code).JC) ?_ (aB (dS (by simp; omega) (by simp; omega)) rfl)
 unfold cg
 by_cases h:200≤code∧code<400
 ·refine bo (s:=(⟨#[111,107]⟩:JH)) (aG (beq_eq_false_iff_ne.2 hc) (aB (x:=true) ?_ rfl)) (by unfold qK; rw [if_pos h])
  exact bo (s:=true) (aQ (decide_eq_true h.1) (by rw [decide_eq_true h.2])) rfl
 ·refine bo (s:=(⟨#[110,111]⟩:JH)) (aG (beq_eq_false_iff_ne.2 hc) (aB (x:=false) ?_ rfl)) (by unfold qK; rw [if_neg h])
  unfold jm
  by_cases h1:200≤code
  ·exact bo (s:=false) (aQ (decide_eq_true h1) (by rw [decide_eq_false (by omega)])) rfl
  ·exact bo (s:=false) (aG (decide_eq_false h1) rfl) rfl
theorem un {i t:Int} {g:aI} {o:List aA} (h4:g.Jz≠4) (hb:kb g.Jc) (hl:g.Jc.length≤512) (hx:pf g.Jc=none):bw (SG i t g o)=some (false,SG i t g o):=by
 unfold bw
 refine aG (beq_eq_false_iff_ne.2 h4) (aB (zd hb (by show g.Jc.length<_; omega)) ?_)
 refine aG (decide_eq_false (by show ¬ 0≤eA g.Jc [13,10]; rw [yK hb,hx]; decide)) (aQ (decide_eq_true (by show (g.Jc.length:Int)≤512; omega)) rfl)
theorem Aq {i t:Int} {g g':aI} {o o':List aA} {e:Nat} (h4:g.Jz≠4) (hb:kb g.Jc) (hl:g.Jc.length<100000) (hx:pf g.Jc=some e)
  (h:bc (SG i t (nE g (g.Jc.drop (e+2))) o) (bC (g.Jc.take e))=some (SG i t g' o')):bw (SG i t g o)=some (true,SG i t g' o'):=by
 unfold bw
 have hI:eA g.Jc [13,10]=(e:Int):=by rw [yK hb,hx]
 have hL:ES g.Jc [13,10]=g.Jc.take e:=by unfold ES; rw [if_pos (by omega),hI]; rfl
 have hR:Ak g.Jc [13,10]=g.Jc.drop (e+2):=by unfold Ak; rw [hI]; rfl
 refine aG (beq_eq_false_iff_ne.2 h4) (aB (zd hb (by show g.Jc.length<_; omega)) (aQ (decide_eq_true (by show 0≤eA g.Jc [13,10]; omega)) ?_))
 rw [← hL,← hR] at h
 exact aB rfl (aB h rfl)
theorem qn {i t x:Int} {g:aI} {o:List aA} (h4:g.Jz≠4):cn (SG i t g o) x=some ((x==10)||decide (512<(g.Jc.length:Int)),SG i t g o):=by
 unfold cn
 refine aG (beq_eq_false_iff_ne.2 h4) ?_
 generalize (x==10)=c
 cases c
 ·exact bo (s:=decide (512<(g.Jc.length:Int))) (aG rfl rfl) rfl
 ·exact bo (s:=true) (aQ rfl rfl) rfl
def qE (i t:Int) (k:Nat) (x:Int) (p q:aI×List aA):Prop :=
 p.1.Jc.length<100000∧∃ c:Bool,(if k=0 then c=true else cn (SG i t (nE p.1 (p.1.Jc++[x])) p.2) x=some (c,SG i t (nE p.1 (p.1.Jc++[x])) p.2)) ∧
  (if c=true then ck (SG i t (nE p.1 (p.1.Jc++[x])) p.2)=some (SG i t q.1 q.2) else q=(nE p.1 (p.1.Jc++[x]),p.2))
theorem Fu:jc Dq=some 0:=by kernel_rfl
theorem wX {g:aI} (h1:g.To.length<100000) (h2:g.Jc.length<1000000):iT g=some g:=by
 unfold iT dx gq
 exact aB (aB (dS (k:=40) (l:=[]) (m:=g.To) (by simp; omega) (by simp; omega)) rfl) (aB (aB (dS (k:=1) (l:=[]) (m:=g.Jc) (by simp; omega) (by simp; omega)) rfl) rfl)
theorem CV {i t:Int} (g:aI) (b:List Int) (st:Nat→aI×List aA) (h0:st 0=(g,[])) (hi:i=0∨i=1) (ht:0≤t∧t≤1099511627776) (hv:fC g=some true) (hb:b.length<1000000)
  (hg:g.To.length<100000∧g.Jc.length<1000000) (he:(st b.length).1.To.length<100000∧(st b.length).1.Jc.length<1000000) (hs:∀ k (hk:k<b.length),qE i t k b[k] (st k) (st (k+1))) :
  eZ Dq i t g b=some ((st b.length).1,(st b.length).2,0):=by
 unfold eZ
 have hlt:(aE (S:=Bool) (A:=(aI×(List aA)×Int)) (some (.inl false)) (fun _=>none) some:Option (aI×(List aA)×Int))=none:=rfl
 have ha:decide (t<0)=false:=decide_eq_false (by omega)
 have hc:decide (1099511627776<t)=false:=decide_eq_false (by omega)
 refine aB Fu (aG rfl (bo (s:=false) ?_ (aG rfl (aB (wX hg.1 hg.2) ?_))))
 ·rcases hi with rfl | rfl
  ·exact aG rfl (aG ha (aG hc (aB hv rfl)))
  ·exact aQ rfl (aG rfl (aG ha (aG hc (aB hv rfl))))
 refine bo (s:=tG i t (st b.length)) (bD (fun k=>((tG i t (st k)).1,(tG i t (st k)).2.1,(tG i t (st k)).2.2.1,(tG i t (st k)).2.2.2.1,(tG i t (st k)).2.2.2.2.1,(tG i t (st k)).2.2.2.2.2.1,(tG i t (st k)).2.2.2.2.2.2.1,(tG i t (st k)).2.2.2.2.2.2.2.1,(tG i t (st k)).2.2.2.2.2.2.2.2.1,(tG i t (st k)).2.2.2.2.2.2.2.2.2.1,(⟨#[97]⟩:JH),(⟨#[98]⟩:JH),9,(⟨#[117]⟩:JH),(⟨#[115]⟩:JH),9000,false,i,t,(st k).2,(k:Int))) b.length _ (by show _=_; simp only [h0]; rfl) (by simp only [el]; omega) (fun k hk => ?_) ?_) ?_
 ·obtain ⟨h1,c,h2,h3⟩:=hs k hk
  refine aQ (decide_eq_true (by omega)) (bo (s:=tG i t (st (k+1))) (aB (bN hk) (aB (DF hk) (aB (dS (k:=1) (l:=(st k).1.Jc) (m:=[b[k]]) (by simp; omega) (by simp; omega)) ?_))) (aB (aF (by omega) (by omega)) rfl))
  have hz:((k:Int)==0)=decide (k=0):=by rw [Bool.eq_iff_iff,decide_eq_true_eq,beq_iff_eq]; omega
  by_cases hk0:k=0
  ·rw [if_pos hk0] at h2; subst h2
   rw [if_pos rfl] at h3
   exact bo (s:=((st k).1.Jz,(st k).1.Jm,(st k).1.Ji.Ju,(st k).1.Ji.Jq,(st k).1.Ji.Jf,(st k).1.To,(st k).1.JB,(st k).1.Jc++[b[k]],(st k).1.Jd,(st k).1.JA,(⟨#[97]⟩:JH),(⟨#[98]⟩:JH),9,(⟨#[117]⟩:JH),(⟨#[115]⟩:JH),9000,false,i,t,(st k).2,true)) (aQ (by rw [hz]; exact decide_eq_true hk0) rfl) (aQ rfl (aB h3 rfl))
  ·rw [if_neg hk0] at h2
   refine bo (s:=((st k).1.Jz,(st k).1.Jm,(st k).1.Ji.Ju,(st k).1.Ji.Jq,(st k).1.Ji.Jf,(st k).1.To,(st k).1.JB,(st k).1.Jc++[b[k]],(st k).1.Jd,(st k).1.JA,(⟨#[97]⟩:JH),(⟨#[98]⟩:JH),9,(⟨#[117]⟩:JH),(⟨#[115]⟩:JH),9000,false,i,t,(st k).2,c)) (aG (by rw [hz]; exact decide_eq_false hk0) (aB h2 rfl)) ?_
   cases c
   ·rw [if_neg (by decide)] at h3
    rw [h3]; exact aG rfl rfl
   ·rw [if_pos rfl] at h3
    exact aQ rfl (aB h3 rfl)
 ·exact aG (decide_eq_false (by omega)) rfl
 ·exact aB (wX he.1 he.2) rfl
set_option maxRecDepth 10000
inductive Hn:List Int→List (List Int)→List Int→Prop
 | nil {b:List Int} (h:pf b=none):Hn b [] b
 | cons {b:List Int} {e:Nat} {ls:List (List Int)} {r:List Int} (h:pf b=some e) (t:Hn (b.drop (e+2)) ls r):Hn b (b.take e::ls) r
def Fi (l:List Int):Prop:=∀ x∈l,x≠13∧x≠10
theorem GR (z:Int) (n:Nat) (h0:0<n) (hn:n<1000000):IntKind.u64.wrap (n:Int)=(n:Int)∧∃ q:Nat,q<n∧kC (IntKind.u64.wrap z) (n:Int)=some (q:Int):=by
 have h:∀ z:Int,IntKind.u64.wrap z=((z % 18446744073709551616).toNat:Int):=by
  intro z
  simp only [IntKind.wrap,IntKind.bits,IntKind.signed]
  have e:(2:Int) ^ 64=18446744073709551616:=by decide
  simp only [e,Bool.false_and,Bool.false_eq_true,if_false]
  omega
 refine ⟨by rw [h]; omega,?_⟩
 rw [h]
 exact ⟨_,Nat.mod_lt _ h0,ko _ n h0⟩
set_option maxRecDepth 100000
inductive FR (i t:Int):aI×List aA→List Int→aI×List aA→Prop
 | nil (p):FR i t p [] p
 | cons {p q r:aI×List aA} {x:Int} {xs:List Int} (h:qE i t 1 x p q) (t':FR i t q xs r):FR i t p (x::xs) r
theorem FR.app {i t:Int} {p q r:aI×List aA} {a b:List Int} (h:FR i t p a q) (h2:FR i t q b r):FR i t p (a++b) r:=by
 induction h with
 | nil=>exact h2
 | cons h _ ih=>exact .cons h (ih h2)
theorem FR.one {i t:Int} {p q:aI×List aA} {x:Int} (h:qE i t 1 x p q):FR i t p [x] q := .cons h (.nil _)
theorem FR.traj {i t:Int} {p r:aI×List aA} {b:List Int} (h:FR i t p b r):∃ st:Nat→aI×List aA,st 0=p∧st b.length=r∧∀ k (hk:k<b.length),qE i t 1 b[k] (st k) (st (k+1)):=by
 induction h with
 | nil p=>exact ⟨fun _=>p,rfl,rfl,fun k hk=>absurd hk (Nat.not_lt_zero k)⟩
 | @cons p q r x xs h _ ih =>
  obtain ⟨st,h0,h1,h2⟩:=ih
  refine ⟨fun k=>match k with | 0=>p | k+1=>st k,rfl,h1,fun k hk => ?_⟩
  cases k with
  | zero=>show qE i t 1 x p (st 0); rw [h0]; exact h
  | succ k=>exact h2 k (by simpa using hk)
theorem Dw {i t x:Int} {p q:aI×List aA} {k:Nat} (hk:k≠0) (h:qE i t 1 x p q):qE i t k x p q:=by
 obtain ⟨h1,c,h2,h3⟩:=h
 rw [if_neg (by decide)] at h2
 exact ⟨h1,c,by rw [if_neg hk]; exact h2,h3⟩
theorem Ce {i t:Int} {g:aI} {o:List aA} (h:g.Jc=[]):bw (SG i t g o)=some (false,SG i t g o):=by
 by_cases h4:g.Jz=4
 ·unfold bw
  refine aQ (beq_iff_eq.2 h4) (aB (x:=(false,SG i t g o)) ?_ rfl)
  unfold fq
  refine aB (x:=([],0,9)) ?_ (aQ rfl rfl)
  show lH g.Jc=_
  rw [h]; kernel_rfl
 ·exact un h4 (by rw [h]; intro x hx; cases hx) (by rw [h]; exact Nat.zero_le _) (by rw [h]; rfl)
theorem DY {i t x:Int} {g:aI} {o:List aA} (h4:g.Jz≠4) (hx:x≠10) (hl:g.Jc.length<512):qE i t 1 x (g,o) (nE g (g.Jc++[x]),o):=by
 refine ⟨by show g.Jc.length<_; omega,false,?_,rfl⟩
 rw [if_neg (by decide)]
 refine (qn (g:=nE g (g.Jc++[x])) h4).trans ?_
 rw [beq_eq_false_iff_ne.2 hx,decide_eq_false (by show ¬ (512:Int)<((g.Jc++[x]).length:Nat); rw [List.length_append]; show ¬ (512:Int)<((g.Jc.length+1:Nat):Int); omega)]; rfl
theorem vL {i t:Int} {g:aI} {o:List aA} (h4:g.Jz≠4):∀ (l b:List Int),(∀ x∈l,x≠10)→b.length+l.length≤512→FR i t (nE g b,o) l (nE g (b++l),o)
 | [],b,_,_=>by rw [List.append_nil]; exact .nil _
 | x::l,b,h,hl=>by
  simp only [List.length_cons] at hl
  have h1:=DY (i:=i) (t:=t) (g:=nE g b) (o:=o) (x:=x) h4 (h x (by simp)) (by show b.length<512; omega)
  have h2:=vL (i:=i) (t:=t) (g:=g) (o:=o) h4 l (b++[x]) (fun y hy=>h y (by simp [hy])) (by rw [List.length_append]; show b.length+1+l.length≤512; omega)
  rw [List.append_assoc] at h2
  exact .cons h1 h2
theorem rA {i t:Int} {g g':aI} {o o':List aA} {L:List Int} (h4:g.Jz≠4) (hg:g.Jc=[]) (hb:kb L) (hc:Fi L) (hl:L.length≤510)
  (h:bc (SG i t g o) (bC L)=some (SG i t g' o')) (hg':g'.Jc=[]):FR i t (g,o) (L++[13,10]) (g',o'):=by
 have eg:g=nE g []:=by
  obtain ⟨a,b,c,d,e,f,k,l⟩:=g
  have:f=[]:=hg
  subst this; rfl
 have h1:=vL (i:=i) (t:=t) (g:=g) (o:=o) h4 (L++[13]) [] (fun x hx=>by
  rcases List.mem_append.1 hx with hx | hx
  ·exact (hc x hx).2
  ·rw [List.mem_singleton.1 hx]; decide) (by rw [List.length_append]; show 0+(L.length+1)≤512; omega)
 rw [← eg,List.nil_append] at h1
 have e:L++[13,10]=(L++[13])++[10]:=by simp
 rw [e]
 refine h1.app (.one ⟨by show (L++[13]).length<_; rw [List.length_append]; show L.length+1<_; omega,true,?_,?_⟩)
 ·rw [if_neg (by decide)]
  exact (qn (g:=nE g ((L++[13])++[10])) h4).trans rfl
 ·rw [if_pos rfl]
  show ck (SG i t (nE g ((L++[13])++[10])) o)=some (SG i t g' o')
  rw [← e]
  have hx:pf (L++13::10::[])=some L.length:=ug fun x hx=>(hc x hx).1
  have e1:(L++13::10::[]).drop (L.length+2)=[]:=List.drop_eq_nil_of_le (by rw [List.length_append]; exact Nat.le_refl _)
  have e2:(L++13::10::[]).take L.length=L:=by simp
  refine Gd (Aq (g:=nE g (L++[13,10])) (g':=g') (o:=o) (o':=o') (e:=L.length) h4 (gr hb (by decide)) (by show (L++[13,10]).length<_; rw [List.length_append]; show L.length+2<_; omega) hx ?_) (Ce hg')
  show bc (SG i t (nE g ((L++13::10::[]).drop (L.length+2))) o) (bC ((L++13::10::[]).take L.length))=some (SG i t g' o')
  rw [e1,e2,← eg]; exact h
theorem yU {i t:Int} {g:aI} {x:Int} {xs:List Int} {r:aI×List aA} (h:FR i t (g,[]) (x::xs) r) (h4:g.Jz≠4) (hg:g.Jc=[]) (hx:x≠10) (hxb:0≤x∧x<256) (hi:i=0∨i=1) (ht:0≤t∧t≤1099511627776) (hv:fC g=some true)
  (hb:(x::xs).length<1000000) (ht0:g.To.length<100000) (he:r.1.To.length<100000∧r.1.Jc.length<1000000):eZ Dq i t g (x::xs)=some (r.1,r.2,0):=by
 obtain ⟨st,h0,h1,h2⟩:=h.traj
 have:=CV (i:=i) (t:=t) g (x::xs) st h0 hi ht hv hb ⟨ht0,by rw [hg]; decide⟩ (by rw [h1]; exact he) (fun k hk => ?_)
 ·rw [h1] at this; exact this
 by_cases hk0:k=0
 ·subst hk0
  have hq:=h2 0 hk
  rw [h0] at hq ⊢
  obtain ⟨l1,c,h3,h5⟩:=hq
  rw [if_neg (by decide)] at h3
  have hc:c=false:=by
   have h6:=h3.symm.trans (qn (o:=([]:List aA)) (show (nE g (g.Jc++[x])).Jz≠4 from h4))
   have h7:c=((x==10)||decide ((512:Int)<((g.Jc++[x]).length:Nat))):=congrArg Prod.fst (Option.some.inj h6)
   rw [h7]
   rw [hg,beq_eq_false_iff_ne.2 hx]; rfl
  rw [hc,if_neg (by decide)] at h5
  refine ⟨l1,true,by rw [if_pos rfl],?_⟩
  rw [if_pos rfl]
  rw [h5]
  refine GB (un h4 ?_ ?_ ?_)
  ·show kb (g.Jc++[x])
   rw [hg]; intro y hy; rw [List.mem_singleton.1 hy]; exact hxb
  ·show (g.Jc++[x]).length≤512
   rw [hg]; exact Nat.le_of_ble_eq_true rfl
  ·show pf (g.Jc++[x])=none
   rw [hg]
   show (if x=13∧([]:List Int).head? = some 10 then some 0 else (pf []).map (· + 1))=none
   rw [if_neg (fun e=>by cases e.2)]; rfl
 ·exact Dw hk0 (h2 k hk)
set_option maxRecDepth 100000
theorem uZ:ei=some true:=by kernel_rfl
theorem GV:(0:Int)≠4:=by decide
theorem Hb:(1:Int)≠4:=by decide
theorem EV (l:List Int) (h:l.all (fun x=>x != 13&&x != 10)=true):Fi l:=fun x hx=>by
 have:=List.all_eq_true.1 h x hx
 simpa using this
theorem nN (l:List Int) (h:l.all (fun x=>decide (0≤x)&&decide (x<256))=true):kb l:=fun x hx=>by
 have:=List.all_eq_true.1 h x hx
 simpa using this
theorem lf {i t:Int} {g g':aI} {o o':List aA} (L:List Int) (h4:g.Jz≠4) (hg:g.Jc=[]) (hL:(L.all (fun x=>x != 13&&x != 10)&&L.all (fun x=>decide (0≤x)&&decide (x<256))&&decide (L.length≤510))=true)
  (h:bc (SG i t g o) (bC L)=some (SG i t g' o')) (hg':g'.Jc=[]):FR i t (g,o) (L++[13,10]) (g',o'):=by
 simp only [Bool.and_eq_true,decide_eq_true_eq] at hL
 exact rA h4 hg (nN L hL.1.2) (EV L hL.1.1) hL.2 h hg'
end Go.Abs.Sh
