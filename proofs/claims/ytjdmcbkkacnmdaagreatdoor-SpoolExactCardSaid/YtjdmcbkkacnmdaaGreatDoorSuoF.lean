import Derived.Test.YtjdmcbkkacnmdaaGreatDoorSh
import Derived.KernelRfl
set_option linter.unusedVariables false
set_option linter.unusedSimpArgs false
set_option linter.unusedSectionVars false
namespace Go.Abs.Sh
set_option linter.unusedVariables false
theorem ed {n:Int} (h0 : -9223372036854775808≤n) (h1:n<9223372036854775808):IntKind.i64.wrap n=n:=by
 simp only [IntKind.wrap,IntKind.bits,IntKind.signed]
 have e:(2:Int) ^ 64=18446744073709551616:=by decide
 have e2:(2:Int) ^ (64-1)=9223372036854775808:=by decide
 simp only [e,e2,Bool.true_and,decide_eq_true_eq]
 split <;> omega
theorem aR {i n:Nat} (h:i<n):bL (i:Int) n=some i:=by simp [bL]; omega
theorem iu {A:Type} {l:List A} {i:Nat} (h:i<l.length):aA l i=some l[i]:=by simp [aA,h]
theorem az {A R:Type} {m:Option A} {f:A→Option R} {x:A} {r:Option R} (h:m=some x) (h2:f x=r):m.bind f=r:=by subst h; exact h2
theorem aI {S A R:Type} {m:Option (S⊕A)} {k:S→Option R} {e:A→Option R} {s:S} {r:Option R} (h:m=some (.inl s)) (h2:k s=r):aF m k e=r:=by subst h; exact h2
theorem kK {S A R:Type} {m:Option (S⊕A)} {k:S→Option R} {e:A→Option R} {a:A} {r:Option R} (h:m=some (.inr a)) (h2:e a=r):aF m k e=r:=by subst h; exact h2
theorem bY {S O:Type} {step:S→Option (S⊕O)} {n:Nat} {s s':S} (h:step s=some (.inl s')):bm step (n+1) s=bm step n s':=by
 simp only [bm,h]
theorem bS {S O:Type} {step:S→Option (S⊕O)} {n:Nat} {s:S} {o:O} (h:step s=some (.inr o)):bm step (n+1) s=some o:=by
 simp only [bm,h]
theorem ap {R:Type} {c:Bool} {x y r:R} (hc:c=false) (h:y=r):cond c x y=r:=by subst hc; exact h
theorem ar {R:Type} {c:Bool} {x y r:R} (hc:c=true) (h:x=r):cond c x y=r:=by subst hc; exact h
theorem zT {S O:Type} {f:S→Option (S⊕O)} (st:Nat→S) {o:O}:∀ (n fuel:Nat),n<fuel→(∀ i,i<n→f (st i)=some (.inl (st (i+1))))→f (st n)=some (.inr o)→bm f fuel (st 0)=some o:=by
 intro n
 induction n generalizing st with
 | zero =>
  intro fuel hf _ he
  obtain ⟨k,rfl⟩:∃ k,fuel=k+1:=⟨fuel-1,by omega⟩
  exact bS he
 | succ n ih =>
  intro fuel hf hs he
  obtain ⟨k,rfl⟩:∃ k,fuel=k+1:=⟨fuel-1,by omega⟩
  rw [bY (hs 0 (by omega))]
  exact ih (fun i=>st (i+1)) k (by omega) (fun i hi=>hs (i+1) (by omega)) he
theorem cE {S O:Type} {f:S→Option (S⊕O)} {s:S} (st:Nat→S) {o:O} (n fuel:Nat) (h0:st 0=s) (hn:n<fuel) (hs:∀ i,i<n→f (st i)=some (.inl (st (i+1)))) (he:f (st n)=some (.inr o)):bm f fuel s=some o:=by
 subst h0; exact zT st n fuel hn hs he
theorem jv (p:Nat→Bool):∀ n,(∀ i,i<n→p i=true)∨∃ k,k<n∧(∀ i,i<k→p i=true)∧p k=false
 | 0 => .inl fun i h=>absurd h (Nat.not_lt_zero i)
 | n+1=>by
  rcases jv p n with h | ⟨k,h1,h2,h3⟩
  ·cases hp:p n
   ·exact .inr ⟨n,by omega,h,hp⟩
   ·refine .inl fun i hi => ?_
    by_cases h':i=n
    ·subst h'; exact hp
    ·exact h i (by omega)
  ·exact .inr ⟨k,by omega,h2,h3⟩
theorem dS {R:Type} {f:Int→Option (Int⊕(Unit⊕R))} (p:Nat→Bool) (n:Nat) (r:R) {fuel:Nat} (hf:n<fuel) (hgo:∀ i,i<n→p i=true→f (i:Int)=some (.inl ((i+1:Nat):Int))) (hno:∀ i,i<n→p i=false→f (i:Int)=some (.inr (.inr r))) (hend:f (n:Int)=some (.inr (.inl ()))) :
  bm f fuel 0=some (if ∀ i,i<n→p i=true then .inl () else .inr r):=by
 rcases jv p n with h | ⟨k,h1,h2,h3⟩
 ·rw [if_pos h]
  exact cE (fun i=>(i:Int)) n fuel rfl hf (fun i hi=>hgo i hi (h i hi)) hend
 ·rw [if_neg fun h=>by rw [h k h1] at h3; cases h3]
  exact cE (fun i=>(i:Int)) k fuel rfl (by omega) (fun i hi=>hgo i (by omega) (h2 i hi)) (hno k h1 h3)
theorem qX (n:Nat) (h:n<9223372036854775808):IntKind.i64.wrap (n:Int)=(n:Int):=ed (by omega) (by omega)
theorem aX {n:Nat} (h:n<4611686018427387904):IntKind.i64.wrap ((n:Int)+1)=((n+1:Nat):Int):=by rw [ed (by omega) (by omega)]; simp
theorem rS {n:Int} (h0 : -9223372036854775808≤n) (h1:n<9223372036854775808):some (IntKind.i64.wrap n)=some n:=by rw [ed h0 h1]
theorem sY {A:Type} (l:List A) {a b:Nat} (h1:a≤b) (h2:b≤l.length):pq l (a:Int) (b:Int)=some ((l.drop a).take (b-a)):=by
 unfold pq
 rw [if_pos (by omega)]
 simp only [Int.toNat_natCast]
theorem fw {A:Type} {k:Nat} {l m:List A} (h:(l.length+m.length) * k≤140737488355328) (h1:l.length+m.length≤140737488355328):dO k l m=some (l++m):=by
 unfold dO; rw [if_pos ⟨h,h1⟩]
theorem kz (s:Hd):jF (aP s):=by
 intro x hx
 simp only [aP,List.mem_map] at hx
 obtain ⟨b,_,rfl⟩:=hx
 have:=b.toNat_lt
 omega
theorem lq (s:Hd):kV (aP s)=s:=by
 obtain ⟨⟨l⟩⟩:=s
 simp only [kV,aP,List.map_map]
 congr 2
 conv=>rhs; rw [← List.map_id l]
 apply List.map_congr_left
 intro b _
 simp
theorem ld {l:List Int} (h:jF l):aP (kV l)=l:=by
 simp only [kV,aP,List.map_map]
 conv=>rhs; rw [← List.map_id l]
 apply List.map_congr_left
 intro x hx
 have:=h x hx
 simp only [Function.comp,id_eq,UInt8.toNat_ofNat']
 omega
theorem pZ {s t:Hd} (h:aP s=aP t):s=t:=by rw [← lq s,h,lq]
theorem sh (l:List Int):(kV l).size=l.length:=by simp [kV,ByteArray.size]
theorem mM {l:List Int} (h:jF l) (n:Nat):jF (l.drop n):=fun x hx=>h x (List.mem_of_mem_drop hx)
theorem uX {l:List Int} (h:jF l) (n:Nat):jF (l.take n):=fun x hx=>h x (List.mem_of_mem_take hx)
theorem CN {s:Hd} {i:Nat} (h:i<s.size):eE s (i:Int)=some ((aP s)[i]'(by rw [bR]; exact h)):=by
 unfold eE
 rw [if_pos (by omega)]
 have h':i<s.data.toList.length:=by simpa using h
 simp only [Int.toNat_natCast,aP,List.getElem?_eq_getElem h',Option.map_some,List.getElem_map]
theorem yJ {s:Hd} {a b:Nat} (h1:a≤b) (h2:b≤s.size):pr s (a:Int) (b:Int)=some (kV (((aP s).drop a).take (b-a))):=by
 unfold pr
 rw [if_pos (by omega)]
 simp only [Int.toNat_natCast]
 congr 1
 apply pZ
 rw [ld (uX (mM (kz s) a) _)]
 simp only [aP,ByteArray.data_extract,Array.toList_extract,List.extract_eq_take_drop,List.map_take,List.map_drop]
theorem gf (s t:Hd):(s.toList==t.toList)=decide (s=t):=by
 rw [← beq_toListBytes,Bool.eq_iff_iff,decide_eq_true_eq]
 obtain ⟨a⟩:=s
 obtain ⟨b⟩:=t
 show (a==b)=true↔_
 rw [beq_iff_eq]
 exact ⟨fun h=>by rw [h],fun h=>by injection h⟩
theorem vj {s t:Hd}:s=t↔aP s=aP t:=⟨fun h=>h ▸ rfl,pZ⟩
def nP (c:Int):List Int→Option Nat
 | []=>none
 | x::l=>if x=c then some 0 else (nP c l).map (· + 1)
theorem rR {c:Int}:∀ {l:List Int},nP c l=none↔c ∉ l
 | []=>by simp [nP]
 | x::l=>by
  have ih:=rR (c:=c) (l:=l)
  unfold nP
  by_cases h:x=c
  ·simp [h]
  ·rw [if_neg h]
   simp only [Option.map_eq_none_iff,ih,List.mem_cons,not_or]
   exact ⟨fun h2=>⟨fun e=>h e.symm,h2⟩,fun h2=>h2.2⟩
theorem rT {c:Int}:∀ {l:List Int} {e:Nat},nP c l=some e→e+1≤l.length∧l=l.take e++c::l.drop (e+1)∧c ∉ l.take e
 | [],e,h=>by simp [nP] at h
 | x::l,e,h=>by
  unfold nP at h
  split at h
  ·rename_i hx
   cases h; subst hx; simp
  ·rename_i hx
   cases hi:nP c l with
   | none=>simp [hi] at h
   | some k =>
    simp [hi] at h
    subst h
    obtain ⟨h1,h2,h3⟩:=rT hi
    refine ⟨by simp; omega,?_,?_⟩
    ·simp only [List.take_succ_cons,List.cons_append,List.drop_succ_cons]
     rw [← h2]
    ·simp only [List.take_succ_cons,List.mem_cons,not_or]
     exact ⟨fun e=>hx e.symm,h3⟩
theorem mQ {n:Nat} (hn:n<256):∀ (l:List UInt8),Lib.indexByte l (UInt8.ofNat n)=match nP (n:Int) (l.map fun b=>(b.toNat:Int)) with | none => -1 | some e=>(e:Int)
 | []=>rfl
 | b::l=>by
  have ih:=mQ hn l
  unfold Lib.indexByte
  rw [List.map_cons]
  unfold nP
  have hb:(b==UInt8.ofNat n)=decide ((b.toNat:Int)=(n:Int)):=by
   rw [Bool.eq_iff_iff,decide_eq_true_eq,beq_iff_eq]
   constructor
   ·rintro rfl; simp; omega
   ·intro h
    apply UInt8.toNat_inj.1
    simp; omega
  rw [hb]
  by_cases h:(b.toNat:Int)=(n:Int)
  ·rw [if_pos (decide_eq_true h),if_pos h]; rfl
  ·rw [if_neg (by simpa using h),if_neg h,ih]
   cases nP (n:Int) (l.map fun b=>(b.toNat:Int)) with
   | none=>rfl
   | some k =>
    have:((k:Int) == -1)=false:=beq_eq_false_iff_ne.2 (by omega)
    simp only [this,Bool.false_eq_true,if_false,Option.map_some]
    rfl
theorem vC {n:Nat} (hn:n<256) (s:Hd):dX s ⟨#[UInt8.ofNat n]⟩=some (match nP (n:Int) (aP s) with | none => -1 | some e=>(e:Int)):=by
 unfold dX
 have:=mQ hn s.data.toList
 simp only [this]
 rfl
def jr (c:Int):List Int→List (List Int)
 | []=>[[]]
 | x::l=>if x=c then []::jr c l else match jr c l with
  | []=>[[x]]
  | p::ps=>(x::p)::ps
theorem qO (c:Int):∀ l,jr c l≠[]
 | []=>by simp [jr]
 | x::l=>by
  unfold jr
  split
  ·simp
  ·split <;> simp
theorem ww {c:Int}:∀ {l:List Int},c ∉ l→jr c l=[l]
 | [],_=>rfl
 | x::l,h=>by
  simp only [List.mem_cons,not_or] at h
  unfold jr
  rw [if_neg (fun e=>h.1 e.symm),ww h.2]
theorem wu {c:Int}:∀ {p r:List Int},c ∉ p→jr c (p++c::r)=p::jr c r
 | [],r,_=>by simp [jr]
 | x::p,r,h=>by
  simp only [List.mem_cons,not_or] at h
  rw [List.cons_append]
  conv=>lhs; unfold jr
  rw [if_neg (fun e=>h.1 e.symm),wu h.2]
def vq {X S O:Type} (step:X→S→Option (S⊕O)):List X→S→Option (S⊕O)
 | [],s=>some (.inl s)
 | x::l,s=>match step x s with
  | none=>none
  | some (.inl s')=>vq step l s'
  | some (.inr o)=>some (.inr o)
def vG (c:Int) (s:Hd):List Hd:=(jr c (aP s)).map kV
theorem jJ {n:Int} (h0 : -9223372036854775808≤n) (h1:n<9223372036854775808):some (IntKind.i64.wrap n)=some n:=by rw [ed h0 h1]
theorem tU {S O:Type} (n:Nat) (hn:n<256) (step:Hd→S→Option (S⊕O)) (s:Hd) (st:S) (hs:s.size<4611686018427387904) (r:S⊕O) (hr:vq step (vG (n:Int) s) st=some r) :
  jK (S:=S) (O:=O) (fun Y st=>cy Y ⟨#[UInt8.ofNat n]⟩ s 0 st) step st=some r:=by
 unfold jK cy
 refine ap rfl ?_
 have key:∀ (k:Nat) (s:Hd) (st:S) (fuel:Nat),s.size=k→k<4611686018427387904→k<fuel→vq step (vG (n:Int) s) st=some r →
   aF (S:=(Hd×(S⊕O))) (A:=S⊕O)
    (bm (S:=(Hd×(S⊕O))) (O:=(Hd×(S⊕O))⊕(S⊕O)) (fun ((s37,s38):Hd×(S⊕O)) =>
     (dX s37 ⟨#[UInt8.ofNat n]⟩).bind fun v25 =>
     cond ((decide (v25<0)))
      (some (.inr (.inl (s37,s38))))
      ((some (IntKind.i64.wrap (v25+0))).bind fun v27 =>
      (pr s37 0 v27).bind fun v28 =>
      (gB step v28 s38).bind fun v29 =>
      cond ((!v29.2))
       (some (.inr (.inr (v29.1))))
       ((some (IntKind.i64.wrap (v25+((⟨#[UInt8.ofNat n]⟩:Hd).size:Int)))).bind fun v31 =>
       (pr s37 v31 (s37.size:Int)).bind fun v32 =>
       some (.inl (v32,v29.1)))))
     fuel (s,.inl st))
    (fun ((s41,s42):Hd×(S⊕O)) =>
     (gB step s41 s42).bind fun v51 =>
     some (v51.1)) some=some r:=by
  intro k
  induction k using Nat.strongRecOn with
  | _ k ih =>
   intro s st fuel hk hb hf hr
   obtain ⟨f,rfl⟩:∃ f,fuel=f+1:=⟨fuel-1,by omega⟩
   cases hi:nP (n:Int) (aP s) with
   | none =>
    rw [bS (o := .inl (s,.inl st)) (by
     refine az (vC hn s) ?_
     rw [hi]
     exact ar rfl rfl)]
    have h1:vG (n:Int) s=[s]:=by
     unfold vG
     rw [ww (rR.1 hi)]
     simp [lq]
    rw [h1] at hr
    simp only [vq] at hr
    show ((gB step s (.inl st)).bind fun v51=>some (v51.1))=some r
    simp only [gB]
    cases hst:step s st with
    | none=>rw [hst] at hr; cases hr
    | some u =>
     rw [hst] at hr
     cases u with
     | inl s'=>simpa using hr
     | inr o=>simpa using hr
   | some e =>
    obtain ⟨h1,h2,h3⟩:=rT hi
    rw [bR] at h1
    have h4:vG (n:Int) s=kV ((aP s).take e)::vG (n:Int) (kV ((aP s).drop (e+1))):=by
     unfold vG
     rw [ld (mM (kz s) _)]
     conv=>lhs; rw [h2]
     rw [wu h3,List.map_cons]
    rw [h4] at hr
    simp only [vq] at hr
    have e1:pr s 0 (e:Int)=some (kV ((aP s).take e)):=by
     have:=yJ (s:=s) (a:=0) (b:=e) (by omega) (by omega)
     simpa using this
    have e2:pr s ((e:Int)+1) (s.size:Int)=some (kV ((aP s).drop (e+1))):=by
     have:=yJ (s:=s) (a:=e+1) (b:=s.size) (by omega) (by omega)
     rw [List.take_of_length_le (by simp [bR])] at this
     simpa using this
    have w1:some (IntKind.i64.wrap ((e:Int)+0))=some (e:Int):=by rw [jJ (by omega) (by omega)]; simp
    have w2:some (IntKind.i64.wrap ((e:Int)+((⟨#[UInt8.ofNat n]⟩:Hd).size:Int)))=some ((e:Int)+1):=by
     show some (IntKind.i64.wrap ((e:Int)+1))=_
     rw [jJ (by omega) (by omega)]
    have hsz:(kV ((aP s).drop (e+1))).size=s.size-(e+1):=by rw [sh,List.length_drop,bR]
    cases hst:step (kV ((aP s).take e)) st with
    | none=>rw [hst] at hr; cases hr
    | some u =>
     rw [hst] at hr
     cases u with
     | inl s' =>
      rw [bY (s':=(kV ((aP s).drop (e+1)),.inl s')) (by
       refine az (vC hn s) ?_
       rw [hi]
       refine ap (decide_eq_false (by show ¬ ((e:Int)<0); omega)) (az w1 (az e1 (az (x:=(.inl s',true)) (by simp [gB,hst]) (ap rfl (az w2 (az e2 rfl))))))
       )]
      exact ih _ (by rw [hsz]; omega) _ s' f rfl (by omega) (by omega) hr
     | inr o =>
      rw [bS (o := .inr (.inr o)) (by
       refine az (vC hn s) ?_
       rw [hi]
       exact ap (decide_eq_false (by show ¬ ((e:Int)<0); omega)) (az w1 (az e1 (az (x:=(.inr o,false)) (by simp [gB,hst]) (ar rfl rfl))))
       )]
      exact hr
 exact key _ s st cq rfl hs (by unfold cq; omega) hr
def EU (c:Int):Bool:=decide (48≤c)&&decide (c≤57)||(decide (65≤c)&&decide (c≤90)||decide (97≤c)&&decide (c≤122))
def xk (c:Int):Bool:=EU c||c==45
def Ai (c:Int):Bool:=EU c||[33,35,36,37,38,39,42,43,45,47,61,63,94,95,96,123,124,125,126].contains c
def qS (l:List Int):Bool := !l.isEmpty&&(decide (l.length≤63)&&(l.head? != some 45&&(l.getLast? != some 45&&l.all xk)))
def lY (l:List Int):Bool := !l.isEmpty&&l.all Ai
def uo (l:List Int):Bool:=decide (l.length≤255)&&(jr 46 l).all qS
def rF (l:List Int):Bool:=decide (l.length≤64)&&(jr 46 l).all lY
theorem sJ (p:Int→Bool) (h:(List.range 256).all (fun k=>p (k:Int))=true) {c:Int} (hc:0≤c∧c<256):p c=true:=by
 have:=List.all_eq_true.1 h c.toNat (List.mem_range.2 (by omega))
 rwa [Int.toNat_of_nonneg hc.1] at this
theorem xy:(List.range 256).all (fun k=>decide (gw ((k:Nat):Int)=some (Ai ((k:Nat):Int))))=true:=by kernel_rfl
theorem vS:(List.range 256).all (fun k=>decide (fL ((k:Nat):Int)=some (xk ((k:Nat):Int))))=true:=by kernel_rfl
theorem Ew {c:Int} (hc:0≤c∧c<256):gw c=some (Ai c):=by
 simpa using sJ (fun c=>decide (gw c=some (Ai c))) xy hc
theorem CR {c:Int} (hc:0≤c∧c<256):fL c=some (xk c):=by
 simpa using sJ (fun c=>decide (fL c=some (xk c))) vS hc
theorem uV (l:List Int) (p:Int→Bool):l.all p=true↔∀ i,i<l.length→p (l.getD i 0)=true:=by
 rw [List.all_eq_true]
 constructor
 ·intro h i hi
  rw [List.getD_eq_getElem?_getD,List.getElem?_eq_getElem hi]
  exact h _ (List.getElem_mem hi)
 ·intro h x hx
  obtain ⟨i,hi,rfl⟩:=List.getElem_of_mem hx
  have:=h i hi
  rw [List.getD_eq_getElem?_getD,List.getElem?_eq_getElem hi] at this
  exact this
theorem kT {s:Hd} {i:Nat} (h:i<s.size):eE s (i:Int)=some ((aP s).getD i 0):=by
 rw [CN h,List.getD_eq_getElem?_getD,List.getElem?_eq_getElem (by rw [bR]; exact h)]; rfl
theorem lJ (s:Hd) {i:Nat} (h:i<s.size):0≤(aP s).getD i 0∧(aP s).getD i 0<256:=by
 rw [List.getD_eq_getElem?_getD,List.getElem?_eq_getElem (by rw [bR]; exact h)]
 exact kz s _ (List.getElem_mem _)
theorem up {g:Int→Option Bool} {p:Int→Bool} (s:Hd) (hs:s.size<4611686018427387904) (hg:∀ c,0≤c∧c<256→g c=some (p c)) :
  aF (S:=(Unit)) (A:=Bool)
  (bm (S:=(Int)) (O:=(Unit)⊕Bool) (fun (s9:Int) =>
   cond ((decide (s9<(s.size:Int))))
    ((eE s s9).bind fun v2 =>
    (g v2).bind fun v3 =>
    cond ((!v3))
     (some (.inr (.inr (false))))
     ((some (IntKind.i64.wrap (s9+1))).bind fun v5 =>
     some (.inl v5)))
    (some (.inr (.inl ()))))
   cq 0)
  (fun (():Unit) =>
   some (true)) some=some ((aP s).all p):=by
 have hl:=dS (R:=Bool) (f:=fun (s9:Int) =>
   cond ((decide (s9<(s.size:Int))))
    ((eE s s9).bind fun v2 =>
    (g v2).bind fun v3 =>
    cond ((!v3))
     (some (.inr (.inr (false))))
     ((some (IntKind.i64.wrap (s9+1))).bind fun v5 =>
     some (.inl v5)))
    (some (.inr (.inl ())))) (fun i=>p ((aP s).getD i 0)) s.size false (fuel:=cq) (by unfold cq; omega)
  (fun i hi hp=>ar (decide_eq_true (by omega)) (az (kT hi) (az (hg _ (lJ s hi)) (ap (by simp only [hp]; rfl) (az (by rw [aX (by omega)]) rfl)))))
  (fun i hi hp=>ar (decide_eq_true (by omega)) (az (kT hi) (az (hg _ (lJ s hi)) (ar (by simp only [hp]; rfl) rfl))))
  (ap (decide_eq_false (by omega)) rfl)
 rw [hl]
 have hiff:=uV (aP s) p
 rw [bR] at hiff
 by_cases hall:∀ i,i<s.size→p ((aP s).getD i 0)=true
 ·rw [if_pos hall,hiff.2 hall]; rfl
 ·rw [if_neg hall]
  cases hq:(aP s).all p
  ·rfl
  ·exact absurd (hiff.1 hq) hall
theorem Dw (s:Hd):(s.toList==(⟨#[]⟩:Hd).toList)=(aP s).isEmpty:=by
 rw [gf,Bool.eq_iff_iff,decide_eq_true_eq,vj]
 simp [aP]
theorem Bi (s:Hd) (hs:s.size<4611686018427387904):kj s=some (lY (aP s)):=by
 unfold kj lY
 rw [Dw]
 cases (aP s).isEmpty
 ·exact aI (s:=(aP s).all Ai) (ar rfl (az (up s hs fun c hc=>Ew hc) rfl)) rfl
 ·exact aI (s:=false) (ap rfl rfl) rfl
theorem nD {l:List Int} (h:l≠[]):l.getLast? = some (l.getD (l.length-1) 0):=by
 have:0<l.length:=List.length_pos_iff.2 h
 rw [List.getLast?_eq_getElem?,List.getD_eq_getElem?_getD,List.getElem?_eq_getElem (by omega)]
 rfl
theorem nO {l:List Int} (h:l≠[]):l.head? = some (l.getD 0 0):=by
 cases l with
 | nil=>exact absurd rfl h
 | cons x l=>rfl
theorem yv (s:Hd) (hs:s.size<4611686018427387904):js s=some (qS (aP s)):=by
 unfold js qS
 rw [Dw]
 cases he:(aP s).isEmpty
 ·have hne:aP s≠[]:=by intro e; rw [e] at he; cases he
  have hpos:0<s.size:=by rw [← bR]; exact List.length_pos_iff.2 hne
  rw [nD hne,nO hne,bR]
  by_cases h1:s.size≤63
  ·have d1:decide ((s.size:Int)≤63)=true:=decide_eq_true (by omega)
   have c0:=kT (s:=s) (i:=0) hpos
   have c1:=kT (s:=s) (i:=s.size-1) (by omega)
   have e1:((s.size-1:Nat):Int)=(s.size:Int)-1:=by omega
   rw [e1] at c1
   by_cases h2:(aP s).getD 0 0=45
   ·refine aI (s:=false) (ar rfl (ar d1 (az c0 (ap (by rw [h2]; rfl) rfl)))) ?_
    rw [h2]; simp
   ·by_cases h3:(aP s).getD (s.size-1) 0=45
    ·refine aI (s:=false) (ar rfl (ar d1 (az c0 (ar (by simpa using h2) (az (jJ (by omega) (by omega)) (az c1 (ap (by rw [h3]; rfl) rfl))))))) ?_
     rw [h3]; simp
    ·refine aI (s:=(aP s).all xk) (ar rfl (ar d1 (az c0 (ar (by simpa using h2) (az (jJ (by omega) (by omega)) (az c1 (ar (by simpa using h3) (az (up s hs fun c hc=>CR hc) rfl)))))))) ?_
     have x2:(some ((aP s).getD 0 0) != some 45)=true:=by simpa using h2
     have x3:(some ((aP s).getD (s.size-1) 0) != some 45)=true:=by simpa using h3
     rw [x2,x3,decide_eq_true h1]; rfl
  ·refine aI (s:=false) (ar rfl (ap (decide_eq_false (by omega)) rfl)) ?_
   rw [decide_eq_false h1]; rfl
 ·exact aI (s:=false) (ap rfl rfl) rfl
theorem sf {f:Hd→Option Bool} {P:List Int→Bool} (s:Hd) (hs:s.size<4611686018427387904) (hf:∀ x,x.size≤s.size→f x=some (P (aP x))) :
  (eT s (⟨#[46]⟩:Hd)).bind (fun v1 =>
  aF (S:=(Unit)) (A:=(Unit))
  (jK (S:=(Unit)) (O:=(Unit)) (fun Y st=>Sh.cy Y v1.1 v1.2.1 v1.2.2 st) (fun (x:Hd) (():Unit) =>
   (f x).bind fun v2 =>
   cond ((!v2))
    (some (.inr ()))
    (some (.inl ())))
   ())
  (fun (():Unit) =>
   some (true))
  (fun (():Unit) =>
   some (false)))=some ((jr 46 (aP s)).all P):=by
 refine az (x:=(⟨#[46]⟩,s,0)) rfl ?_
 have hle:∀ (c:Int) (l:List Int),∀ p∈jr c l,p.length≤l.length:=by
  intro c l
  induction l with
  | nil=>intro p hp; simp [jr] at hp; simp [hp]
  | cons x l ih =>
   intro p hp
   unfold jr at hp
   split at hp
   ·simp only [List.mem_cons] at hp
    rcases hp with rfl | hp
    ·simp
    ·have:=ih p hp; simp; omega
   ·split at hp
    ·simp at hp; subst hp; simp
    ·rename_i q qs e
     simp only [List.mem_cons] at hp
     rcases hp with rfl | hp
     ·have:=ih q (by rw [e]; simp); simp; omega
     ·have:=ih p (by rw [e]; simp [hp]); simp; omega
 have hby:∀ (c:Int) (l:List Int),jF l→∀ p∈jr c l,jF p:=by
  intro c l
  induction l with
  | nil=>intro _ p hp; simp [jr] at hp; subst hp; intro x hx; cases hx
  | cons x l ih =>
   intro hb p hp
   have hb':jF l:=fun y hy=>hb y (by simp [hy])
   unfold jr at hp
   split at hp
   ·simp only [List.mem_cons] at hp
    rcases hp with rfl | hp
    ·intro x hx; cases hx
    ·exact ih hb' p hp
   ·split at hp
    ·simp at hp; subst hp; intro y hy; simp at hy; subst hy; exact hb _ (by simp)
    ·rename_i q qs e
     simp only [List.mem_cons] at hp
     rcases hp with rfl | hp
     ·intro y hy
      simp only [List.mem_cons] at hy
      rcases hy with rfl | hy
      ·exact hb _ (by simp)
      ·exact ih hb' q (by rw [e]; simp) y hy
     ·exact ih hb' p (by rw [e]; simp [hp])
 have hfol:∀ l:List (List Int),(∀ p∈l,jF p∧p.length≤s.size)→vq (fun (x:Hd) (():Unit) =>
   (f x).bind fun v2 =>
   cond ((!v2))
    (some (.inr ()))
    (some (.inl ()))) (l.map kV) ()=some (if l.all P then .inl () else .inr ()):=by
  intro l
  induction l with
  | nil=>intro _; rfl
  | cons p l ih =>
   intro h
   have hp:=h p (by simp)
   have e1:=hf (kV p) (by rw [sh]; exact hp.2)
   rw [ld hp.1] at e1
   rw [List.map_cons]
   unfold vq
   simp only [e1,Option.bind_some]
   cases hP:P p
   ·simp [hP]
   ·simp only [Bool.not_true,cond_false,List.all_cons,hP,Bool.true_and]
    exact ih fun q hq=>h q (by simp [hq])
 have:=tU 46 (by omega) (fun (x:Hd) (():Unit) =>
   (f x).bind fun v2 =>
   cond ((!v2))
    (some (.inr ()))
    (some (.inl ()))) s () hs _ (hfol (jr 46 (aP s)) fun p hp=>⟨hby _ _ (kz s) p hp,by have:=hle _ _ p hp; rwa [bR] at this⟩)
 change aF (jK (fun Y st=>cy Y ⟨#[UInt8.ofNat 46]⟩ s 0 st) _ ()) _ _=_
 rw [this]
 cases hq:(jr 46 (aP s)).all P
 ·rfl
 ·rfl
theorem Cv (s:Hd) (hs:s.size<4611686018427387904):iH s=some (uo (aP s)):=by
 unfold iH uo
 rw [bR]
 by_cases h:s.size≤255
 ·refine aI (s:=(jr 46 (aP s)).all qS) (ar (decide_eq_true (by omega)) (az (x:=(jr 46 (aP s)).all qS) ?_ rfl)) (by rw [decide_eq_true h]; rfl)
  exact sf s hs fun x hx=>yv x (by omega)
 ·exact aI (s:=false) (ap (decide_eq_false (by omega)) rfl) (by rw [decide_eq_false h]; rfl)
theorem CQ (s:Hd) (hs:s.size<4611686018427387904):jq s=some (rF (aP s)):=by
 unfold jq rF
 rw [bR]
 by_cases h:s.size≤64
 ·refine aI (s:=(jr 46 (aP s)).all lY) (ar (decide_eq_true (by omega)) (az (x:=(jr 46 (aP s)).all lY) ?_ rfl)) (by rw [decide_eq_true h]; rfl)
  exact sf s hs fun x hx=>Bi x (by omega)
 ·exact aI (s:=false) (ap (decide_eq_false (by omega)) rfl) (by rw [decide_eq_false h]; rfl)
def np (p:T_Path):Bool:=cond p.GT ((aP p.GR).isEmpty&&(aP p.GJ).isEmpty) (rF (aP p.GR)&&uo (aP p.GJ))
structure Small (p:T_Path):Prop where
 l:p.GR.size<1152921504606846976
 d:p.GJ.size<1152921504606846976
theorem iE (p:T_Path) (h:Small p):eZ p=some (cond (np p) 0 5):=by
 unfold eZ np
 have hl:=h.l; have hd:=h.d
 rw [Dw,Dw]
 cases hn:p.GT
 ·refine aI (s:=rF (aP p.GR)&&uo (aP p.GJ)) (ar rfl (az (CQ p.GR (by omega)) ?_)) ?_
  ·cases rF (aP p.GR)
   ·rfl
   ·exact ar rfl (az (Cv p.GJ (by omega)) rfl)
  ·simp only [cond_false]
   cases rF (aP p.GR)&&uo (aP p.GJ) <;> rfl
 ·refine aI (s:=false) rfl ?_
  simp only [cond_true]
  cases (aP p.GR).isEmpty <;> cases (aP p.GJ).isEmpty <;> rfl
def kX:List Int→Option Nat
 | []=>none
 | x::l=>if x=13∧l.head? = some 10 then some 0 else (kX l).map (· + 1)
theorem ke:∀ {l:List Int} {e:Nat},kX l=some e→e+2≤l.length∧l=l.take e++13::10::l.drop (e+2)
 | [],e,h=>by simp [kX] at h
 | x::l,e,h=>by
  unfold kX at h
  split at h
  ·rename_i hc
   cases h
   obtain ⟨rfl,h2⟩:=hc
   cases l with
   | nil=>simp at h2
   | cons y l=>simp at h2; subst h2; simp
  ·cases hi:kX l with
   | none=>simp [hi] at h
   | some k =>
    simp [hi] at h
    subst h
    obtain ⟨h1,h2⟩:=ke hi
    refine ⟨by simp; omega,?_⟩
    simp only [List.take_succ_cons,List.cons_append,List.drop_succ_cons,show k+1+2=(k+2)+1 by omega]
    rw [← h2]
theorem rX:∀ {line rest:List Int},(∀ x∈line,x≠13)→kX (line++13::10::rest)=some line.length
 | [],rest,_=>by simp [kX]
 | x::line,rest,h=>by
  have hx:=h x (by simp)
  have ih:=rX (line:=line) (rest:=rest) fun y hy=>h y (by simp [hy])
  rw [List.cons_append]
  unfold kX
  rw [if_neg (fun e=>hx e.1),ih]
  simp
theorem BW {x:Int} (h:0≤x∧x<256) {n:Nat} (hn:n<256):(UInt8.ofNat x.toNat=UInt8.ofNat n)↔x=(n:Int):=by
 constructor
 ·intro e
  have:=congrArg UInt8.toNat e
  simp only [UInt8.toNat_ofNat'] at this
  omega
 ·rintro rfl; simp
theorem yi:∀ {l:List Int},jF l→Lib.index (Lib.bytesOf l) (Lib.bytesOf [13,10])=match kX l with | none => -1 | some e=>(e:Int)
 | [],_=>by rfl
 | x::l,h=>by
  have hx:=h x (by simp)
  have ih:=yi (l:=l) fun y hy=>h y (by simp [hy])
  have e1:Lib.bytesOf (x::l)=UInt8.ofNat x.toNat::Lib.bytesOf l:=rfl
  have e2:Lib.bytesOf [13,10]=[UInt8.ofNat 13,UInt8.ofNat 10]:=rfl
  rw [e1]
  unfold Lib.index kX
  have hp:(Lib.bytesOf [13,10]).isPrefixOf (UInt8.ofNat x.toNat::Lib.bytesOf l)=decide (x=13∧l.head? = some 10):=by
   rw [Bool.eq_iff_iff,decide_eq_true_eq,e2]
   cases l with
   | nil=>simp [Lib.bytesOf,List.isPrefixOf]
   | cons y l =>
    have hy:=h y (by simp)
    have ex:=BW hx (n:=13) (by omega)
    have ey:=BW hy (n:=10) (by omega)
    simp only [Lib.bytesOf,List.map_cons,List.isPrefixOf,Bool.and_eq_true,beq_iff_eq,Bool.true_and,Bool.and_true,and_true,List.head?_cons,Option.some.injEq]
    constructor
    ·rintro ⟨h1,h2⟩; exact ⟨ex.1 h1.symm,ey.1 h2.symm⟩
    ·rintro ⟨h1,h2⟩; exact ⟨(ex.2 h1).symm,(ey.2 h2).symm⟩
  rw [hp]
  by_cases hc:x=13∧l.head? = some 10
  ·rw [if_pos (by simpa using hc),if_pos hc]
   rfl
  ·rw [if_neg (by simpa using hc),if_neg hc,ih]
   cases kX l with
   | none=>rfl
   | some k =>
    have:((k:Int) == -1)=false:=beq_eq_false_iff_ne.2 (by omega)
    simp only [this,Bool.false_eq_true,if_false,Option.map_some]
    rfl
theorem oH {l:List Int} (h:jF l) (hl:l.length<4294967281):gq l [13,10]=some (match kX l with | none => -1 | some e=>(e:Int)):=by
 unfold gq
 rw [if_pos ⟨hl,by simp,by simp,h,by decide⟩,yi h]
def pV {X S O:Type} (step:X→S→Option (S⊕O)):List X→S→Option (S⊕O)
 | [],s=>some (.inl s)
 | x::l,s=>match step x s with
  | none=>none
  | some (.inl s')=>pV step l s'
  | some (.inr o)=>some (.inr o)
inductive xL:List Int→List (List Int)→List Int→Prop
 | nil {b:List Int} (h:kX b=none):xL b [] b
 | cons {b:List Int} {e:Nat} {ls:List (List Int)} {r:List Int} (h:kX b=some e) (t:xL (b.drop (e+2)) ls r):xL b (b.take e::ls) r
theorem kt {n:Int} (h0 : -9223372036854775808≤n) (h1:n<9223372036854775808):some (IntKind.i64.wrap n)=some n:=by rw [ed h0 h1]
theorem yh {b:List Int} (hb:jF b) (hl:b.length<4294967281) (h:kX b=none):eu b [13,10]=some (b,[],false):=by
 unfold eu
 refine az (oH hb hl) ?_
 rw [h]
 rfl
theorem uE {b:List Int} (hb:jF b) (hl:b.length<4294967281) {e:Nat} (h:kX b=some e):eu b [13,10]=some (b.take e,b.drop (e+2),true):=by
 have h1:=(ke h).1
 unfold eu
 refine az (oH hb hl) ?_
 rw [h]
 refine ar (decide_eq_true (by show (0:Int)≤(e:Int); omega)) ?_
 have e1:pq b 0 (e:Int)=some (b.take e):=by
  have:=sY b (a:=0) (b:=e) (by omega) (by omega)
  simpa using this
 refine az e1 ?_
 refine az (x:=((e+2:Nat):Int)) (by
  show some (IntKind.i64.wrap ((e:Int)+2))=_
  rw [kt (by omega) (by omega)]; simp) ?_
 refine az (x:=b.drop (e+2)) (by
  rw [sY b (by omega) (by omega),List.take_of_length_le (by simp)]) rfl
theorem kU {S O:Type} (step:List Int→S→Option (S⊕O)) {b:List Int} {ls:List (List Int)} {rest:List Int} (H:xL b ls rest) (hb:jF b) (hl:b.length<4294967281) (st:S) (r:S⊕O) (hr:pV step ls st=some r) :
  jK (S:=S) (O:=O) (fun Y st=>gE Y b st) step st=some r:=by
 unfold jK gE
 have key:∀ (b:List Int) (ls:List (List Int)) (rest:List Int),xL b ls rest→jF b→b.length<4294967281→∀ (fuel:Nat) (st:S),b.length<fuel→pV step ls st=some r →
   aF (S:=(Unit)) (A:=S⊕O)
    (bm (S:=((List Int)×(S⊕O))) (O:=(Unit)⊕(S⊕O)) (fun ((s17,s18):(List Int)×(S⊕O)) =>
     (eu s17 [13,10]).bind fun v1 =>
     aF (S:=(S⊕O)×Bool) (A:=(((List Int)×(S⊕O))⊕((Unit)⊕(S⊕O))))
      (cond ((!v1.2.2))
       (some (.inl (s18,true)))
       ((gB step v1.1 s18).bind fun v2 =>
       some (.inl ((v2.1,(!v2.2))))))
      (fun ((s31,s32):(S⊕O)×Bool) =>
       cond (s32)
        (some (.inr (.inr (s31))))
        (some (.inl (v1.2.1,s31)))) some)
     fuel (b,.inl st))
    (fun (():Unit) =>
     none) some=some r:=by
  intro b ls rest H
  induction H with
  | nil h =>
   intro hb hl fuel st hf hr
   obtain ⟨f,rfl⟩:∃ f,fuel=f+1:=⟨fuel-1,by omega⟩
   rw [bS (o := .inr (.inl st)) (az (yh hb hl h) rfl)]
   exact hr
  | cons h t ih =>
   rename_i b e ls r'
   intro hb hl fuel st hf hr
   obtain ⟨f,rfl⟩:∃ f,fuel=f+1:=⟨fuel-1,by omega⟩
   have h1:=(ke h).1
   simp only [pV] at hr
   cases hst:step (b.take e) st with
   | none=>rw [hst] at hr; cases hr
   | some u =>
    rw [hst] at hr
    cases u with
    | inl s' =>
     rw [bY (s':=(b.drop (e+2),.inl s')) (az (uE hb hl h) (aI (s:=((Sum.inl s':S⊕O),false)) (ap rfl (az (x:=((Sum.inl s':S⊕O),true)) (by simp [gB,hst]) rfl)) rfl))]
     exact ih (mM hb _) (by rw [List.length_drop]; omega) f s' (by rw [List.length_drop]; omega) hr
    | inr o =>
     rw [bS (o := .inr (.inr o)) (az (uE hb hl h) (aI (s:=((Sum.inr o:S⊕O),true)) (ap rfl (az (x:=((Sum.inr o:S⊕O),false)) (by simp [gB,hst]) rfl)) rfl))]
     exact hr
 exact key b ls rest H hb hl cq st (by unfold cq; omega) hr
theorem yD:∀ (n:Nat) (b:List Int),b.length≤n→∃ ls r,xL b ls r
 | n,b,hn=>by
  cases h:kX b with
  | none=>exact ⟨_,_,.nil h⟩
  | some e =>
   have h1:=(ke h).1
   cases n with
   | zero=>omega
   | succ n =>
    obtain ⟨ls,r,H⟩:=yD n (b.drop (e+2)) (by rw [List.length_drop]; omega)
    exact ⟨_,_,.cons h H⟩
def jn:List (List Int)→List Int
 | []=>[]
 | l::ls=>l++13::10::jn ls
theorem yU {b:List Int} {ls:List (List Int)} {r:List Int} (H:xL b ls r):b=jn ls++r:=by
 induction H with
 | nil h=>rfl
 | cons h t ih =>
  have h2:=(ke h).2
  conv=>lhs; rw [h2]
  simp only [jn,List.append_assoc,List.cons_append]
  rw [← ih]
def ul (l:List Int):Prop:=∀ x∈l,x≠13∧x≠10
theorem Bw {ls:List (List Int)} {t:List Int} {ms:List (List Int)} {r:List Int} (h:∀ l∈ls,ul l) (H:xL t ms r):xL (jn ls++t) (ls++ms) r:=by
 induction ls with
 | nil=>exact H
 | cons l ls ih =>
  have e:jn (l::ls)++t=l++13::10::(jn ls++t):=by simp [jn]
  have hi:=rX (line:=l) (rest:=jn ls++t) (fun x hx=>(h l (by simp) x hx).1)
  have:=xL.cons (b:=l++13::10::(jn ls++t)) hi (ls:=ls++ms) (r:=r) (by
   have e2:(l++13::10::(jn ls++t)).drop (l.length+2)=jn ls++t:=by
    rw [List.drop_append]; simp
   rw [e2]
   exact ih fun x hx=>h x (by simp [hx]))
  rw [e]
  have e3:(l++13::10::(jn ls++t)).take l.length=l:=by simp
  rw [e3] at this
  exact this
theorem Bq:xL [] [] [] := .nil rfl
theorem CZ {ls:List (List Int)} (h:∀ l∈ls,ul l):xL (jn ls) ls []:=by
 have:=Bw h Bq
 simpa using this
theorem mF:∀ {l:List Int},ul l→hH l = -1
 | [],_=>rfl
 | x::l,h=>by
  have hx:=h x (by simp)
  unfold hH
  rw [if_neg (by rintro (e | e); exact hx.1 e; exact hx.2 e),if_pos (mF fun y hy=>h y (by simp [hy]))]
theorem qI:∀ {l:List Int},¬ ul l→0≤hH l
 | [],h=>absurd (fun x hx=>by simp at hx) h
 | x::l,h=>by
  unfold hH
  by_cases hx:x=13∨x=10
  ·rw [if_pos hx]; omega
  ·rw [if_neg hx]
   have:=qI (l:=l) (fun hc=>h fun y hy=>by
    rcases List.mem_cons.1 hy with rfl | hy
    ·exact ⟨fun e=>hx (.inl e),fun e=>hx (.inr e)⟩
    ·exact hc y hy)
   rw [if_neg (by omega)]; omega
theorem vB {l:List Int} (hb:jF l) (hl:l.length<4294967281):cf l (⟨#[13,10]⟩:Hd)=some (decide (0≤hH l)):=by
 unfold cf fG
 rw [if_pos ⟨rfl,hl,List.all_eq_true.2 fun x hx=>decide_eq_true (hb x hx)⟩]
 rfl
def tR:List (List Int)→Nat
 | []=>0
 | l::ls=>l.length+2+tR ls
theorem kC:∀ ls,(jn ls).length=tR ls
 | []=>rfl
 | l::ls=>by simp [jn,tR,kC ls]; omega
open Classical in
theorem rH:∀ (ls:List (List Int)) (s:Nat),(∀ l∈ls,jF l)→s+tR ls<4294967281 →
  pV (S:=Int) (O:=Int) (fun (x:(List Int)) (s8:Int) =>
   (cf x (⟨#[13,10]⟩:Hd)).bind fun v2 =>
   cond (v2)
    (some (.inr s8))
    ((some (IntKind.i64.wrap ((x.length:Int)+2))).bind fun v4 =>
    (some (IntKind.i64.wrap (s8+v4))).bind fun v5 =>
    some (.inl v5))) ls (s:Int)=if ∀ l∈ls,ul l then some (.inl ((s+tR ls:Nat):Int)) else (pV (S:=Int) (O:=Int) (fun (x:(List Int)) (s8:Int) =>
   (cf x (⟨#[13,10]⟩:Hd)).bind fun v2 =>
   cond (v2)
    (some (.inr s8))
    ((some (IntKind.i64.wrap ((x.length:Int)+2))).bind fun v4 =>
    (some (IntKind.i64.wrap (s8+v4))).bind fun v5 =>
    some (.inl v5))) ls (s:Int)):=by
 intro ls
 induction ls with
 | nil=>intro s _ _; simp [pV,tR]
 | cons l ls ih =>
  intro s hb hs
  by_cases h:∀ m∈l::ls,ul m
  ·rw [if_pos h]
   simp only [tR] at hs
   have e:((cf l (⟨#[13,10]⟩:Hd)).bind fun v2 =>
   cond (v2)
    (some (.inr (s:Int)))
    ((some (IntKind.i64.wrap ((l.length:Int)+2))).bind fun v4 =>
    (some (IntKind.i64.wrap ((s:Int)+v4))).bind fun v5 =>
    some (.inl v5)):Option (Int⊕Int))=some (.inl ((s+(l.length+2):Nat):Int)):=by
    refine az (vB (hb l (by simp)) (by omega)) ?_
    rw [mF (h l (by simp))]
    refine ap rfl (az (kt (by omega) (by omega)) (az (kt (by omega) (by omega)) ?_))
    simp
   simp only [pV]
   rw [e]
   have:=ih (s+(l.length+2)) (fun m hm=>hb m (by simp [hm])) (by omega)
   rw [if_pos fun m hm=>h m (by simp [hm])] at this
   simp only [tR]
   rw [show s+(l.length+2+tR ls)=s+(l.length+2)+tR ls by omega]
   exact this
  ·rw [if_neg h]
theorem xA:∀ (ls:List (List Int)) (s:Nat),(∀ l∈ls,jF l)→s+tR ls<4294967281→(¬ ∀ l∈ls,ul l) →
  ∃ o,pV (S:=Int) (O:=Int) (fun (x:(List Int)) (s8:Int) =>
   (cf x (⟨#[13,10]⟩:Hd)).bind fun v2 =>
   cond (v2)
    (some (.inr s8))
    ((some (IntKind.i64.wrap ((x.length:Int)+2))).bind fun v4 =>
    (some (IntKind.i64.wrap (s8+v4))).bind fun v5 =>
    some (.inl v5))) ls (s:Int)=some (.inr o):=by
 intro ls
 induction ls with
 | nil=>intro s _ _ h; exact absurd (fun x hx=>by simp at hx) h
 | cons l ls ih =>
  intro s hb hs h
  simp only [tR] at hs
  by_cases hc:ul l
  ·have e:((cf l (⟨#[13,10]⟩:Hd)).bind fun v2 =>
   cond (v2)
    (some (.inr (s:Int)))
    ((some (IntKind.i64.wrap ((l.length:Int)+2))).bind fun v4 =>
    (some (IntKind.i64.wrap ((s:Int)+v4))).bind fun v5 =>
    some (.inl v5)):Option (Int⊕Int))=some (.inl ((s+(l.length+2):Nat):Int)):=by
    refine az (vB (hb l (by simp)) (by omega)) ?_
    rw [mF hc]
    refine ap rfl (az (kt (by omega) (by omega)) (az (kt (by omega) (by omega)) ?_))
    simp
   obtain ⟨o,ho⟩:=ih (s+(l.length+2)) (fun m hm=>hb m (by simp [hm])) (by omega) (fun hh=>h fun m hm=>by
    rcases List.mem_cons.1 hm with rfl | hm
    ·exact hc
    ·exact hh m hm)
   refine ⟨o,?_⟩
   simp only [pV]
   rw [e]
   exact ho
  ·refine ⟨(s:Int),?_⟩
   simp only [pV]
   rw [vB (hb l (by simp)) (by omega),decide_eq_true (qI hc)]
   rfl
theorem qk {b:List Int} {ls:List (List Int)} {r:List Int} (H:xL b ls r) (hb:jF b):∀ l∈ls,jF l:=by
 induction H with
 | nil h=>intro l hl; simp at hl
 | cons h t ih =>
  intro l hl
  rcases List.mem_cons.1 hl with rfl | hl
  ·exact uX hb _
  ·exact ih (mM hb _) l hl
theorem CC {ls:List (List Int)} (h:jF (jn ls)):∀ l∈ls,jF l:=by
 induction ls with
 | nil=>intro l hl; simp at hl
 | cons m ls ih =>
  intro l hl
  simp only [jn] at h
  rcases List.mem_cons.1 hl with rfl | hl
  ·exact fun x hx=>h x (by simp [hx])
  ·exact ih (fun x hx=>h x (by simp [hx])) l hl
theorem Dj {ls:List (List Int)} (h:∀ l∈ls,jF l):jF (jn ls):=by
 induction ls with
 | nil=>intro l hl; simp [jn] at hl
 | cons m ls ih =>
  intro x hx
  simp only [jn,List.mem_append,List.mem_cons] at hx
  rcases hx with hx | rfl | rfl | hx
  ·exact h m (by simp) x hx
  ·omega
  ·omega
  ·exact ih (fun l hl=>h l (by simp [hl])) x hx
theorem qY {ls:List (List Int)} (h:∀ l∈ls,ul l) (hb:∀ l∈ls,jF l) (hl:tR ls<4294967281):ef (jn ls)=some 0:=by
 unfold ef gV
 refine az rfl ?_
 refine aI (s:=((0+tR ls:Nat):Int)) (kU _ (CZ h) (Dj hb) (by rw [kC]; exact hl) _ _ (by
  have:=rH ls 0 hb (by omega)
  rw [if_pos h] at this
  exact this)) ?_
 refine ap ?_ rfl
 rw [kC]; simp
theorem rV {b:List Int} (hb:jF b) (hl:b.length<4294967281):(ef b=some 5)∨∃ ls,(∀ l∈ls,ul l)∧(∀ l∈ls,jF l)∧b=jn ls:=by
 obtain ⟨ls,r,H⟩:=yD b.length b (Nat.le_refl _)
 have hj:=yU H
 have hlen:b.length=tR ls+r.length:=by rw [hj,List.length_append,kC]
 by_cases h:∀ l∈ls,ul l
 ·cases r with
  | nil=>exact .inr ⟨ls,h,qk H hb,by simpa using hj⟩
  | cons y r =>
   left
   unfold ef gV
   refine az rfl ?_
   refine aI (s:=((0+tR ls:Nat):Int)) (kU _ H hb hl _ _ (by
    have:=rH ls 0 (qk H hb) (by omega)
    rw [if_pos h] at this
    exact this)) ?_
   refine ar ?_ rfl
   simp only [List.length_cons] at hlen
   rw [bne_iff_ne]; omega
 ·left
  obtain ⟨o,ho⟩:=xA ls 0 (qk H hb) (by omega) h
  unfold ef gV
  refine az rfl ?_
  exact kK (a:=o) (kU _ H hb hl _ _ ho) rfl
theorem fO (a b:List Int) (hl:a.length<4294967296):cB a b=some (decide (a=b)):=by
 unfold cB
 by_cases hn:a.length=b.length
 case neg =>
  have:a≠b:=fun h=>hn (by rw [h])
  have h2:((a.length:Int) != (b.length:Int))=true:=by simp; omega
  simp [h2,this]
 have h2:((a.length:Int) != (b.length:Int))=false:=by simp; omega
 simp only [h2,cond_false]
 have key:∀ (k fuel i:Nat),a.length-i=k→i≤a.length→k<fuel→a.take i=b.take i →
   bm (S:=Int) (O:=Unit⊕Bool) (fun (s12:Int) =>
    cond ((decide (s12<(a.length:Int))))
     ((bL s12 a.length).bind fun v3 =>
     (aA a v3).bind fun v4 =>
     (bL s12 b.length).bind fun v5 =>
     (aA b v5).bind fun v6 =>
     cond ((v4 != v6))
      (some (.inr (.inr (false))))
      ((some (IntKind.i64.wrap (s12+1))).bind fun v8 =>
      some (.inl v8)))
     (some (.inr (.inl ())))) fuel (i:Int)=some (if a=b then .inl () else .inr false):=by
  intro k
  induction k with
  | zero =>
   intro fuel i hk hi hf ht
   obtain ⟨f,rfl⟩:∃ f,fuel=f+1:=⟨fuel-1,by omega⟩
   have hia:i=a.length:=by omega
   subst hia
   have hab:a=b:=by rw [List.take_of_length_le (Nat.le_refl _),List.take_of_length_le (by omega)] at ht; exact ht
   simp [bm,hab]
  | succ k ih =>
   intro fuel i hk hi hf ht
   obtain ⟨f,rfl⟩:∃ f,fuel=f+1:=⟨fuel-1,by omega⟩
   have hlt:i<a.length:=by omega
   have hltb:i<b.length:=by omega
   have hd:decide ((i:Int)<(a.length:Int))=true:=by simp; omega
   unfold bm
   simp only [hd,cond_true,aR hlt,aR hltb,iu hlt,iu hltb,Option.bind_some]
   by_cases he:a[i]=b[i]
   ·have hb:(a[i] != b[i])=false:=by simp [he]
    have hw:IntKind.i64.wrap ((i:Int)+1)=((i+1:Nat):Int):=by
     rw [ed (by omega) (by omega)]; simp
    simp only [hb,cond_false,hw]
    exact ih f (i+1) (by omega) hlt (by omega) (by rw [List.take_add_one,List.take_add_one,ht]; simp [hlt,hltb,he])
   ·have hb:(a[i] != b[i])=true:=by simp [he]
    have hab:a≠b:=fun h=>he (by subst h; rfl)
    simp [hb,hab]
 have:=key (a.length-0) cq 0 rfl (Nat.zero_le _) (by unfold cq; omega) (by simp)
 simp only [Int.cast_ofNat_Int] at this
 by_cases hab:a=b
 ·simp only [hab,if_true] at this
  subst hab
  simp only [aF]
  rw [this]; simp
 ·simp only [hab,if_false] at this
  simp only [aF]
  rw [this]; simp [hab]
def EP (l:List T_Mail) (s67:Int):((Int×Int))→Option ((Int×Int)⊕((Int)⊕((Int×Int)⊕((Int)⊕Bool)))):=(fun ((s98,s99):Int×Int) =>
 (bL s67 l.length).bind fun v18 =>
 (aA l v18).bind fun v19 =>
 cond ((decide (s99<(v19.To.length:Int))))
  ((bL s67 l.length).bind fun v21 =>
  (aA l v21).bind fun v22 =>
  (bL s99 v22.To.length).bind fun v23 =>
  (aA v22.To v23).bind fun v24 =>
  (some (IntKind.i64.wrap (s98+(v24.GR.size:Int)))).bind fun v25 =>
  (bL s67 l.length).bind fun v26 =>
  (aA l v26).bind fun v27 =>
  (bL s99 v27.To.length).bind fun v28 =>
  (aA v27.To v28).bind fun v29 =>
  (some (IntKind.i64.wrap (v25+(v29.GJ.size:Int)))).bind fun v30 =>
  (some (IntKind.i64.wrap (s99+1))).bind fun v31 =>
  some (.inl (v30,v31)))
  (some (.inr (.inl s98))))
def Aa (l:List T_Mail):((Int×Int))→Option ((Int×Int)⊕((Int)⊕Bool)):=(fun ((s66,s67):Int×Int) =>
 cond ((decide (s67<(l.length:Int))))
  ((bL s67 l.length).bind fun v3 =>
  (aA l v3).bind fun v4 =>
  (some (IntKind.i64.wrap (s66+(v4.GH.length:Int)))).bind fun v5 =>
  (bL s67 l.length).bind fun v6 =>
  (aA l v6).bind fun v7 =>
  (some (IntKind.i64.wrap (v5+(v7.GN.size:Int)))).bind fun v8 =>
  (bL s67 l.length).bind fun v9 =>
  (aA l v9).bind fun v10 =>
  (some (IntKind.i64.wrap (v8+(v10.GM.GR.size:Int)))).bind fun v11 =>
  (bL s67 l.length).bind fun v12 =>
  (aA l v12).bind fun v13 =>
  (some (IntKind.i64.wrap (v11+(v13.GM.GJ.size:Int)))).bind fun v14 =>
  (bL s67 l.length).bind fun v15 =>
  (aA l v15).bind fun v16 =>
  cond ((decide (40<(v16.To.length:Int))))
   (some (.inr (.inr (true))))
   (aF (S:=(Int)) (A:=((Int×Int)⊕((Int)⊕Bool)))
    (bm (S:=(Int×Int)) (O:=(Int)⊕((Int×Int)⊕((Int)⊕Bool))) (fun ((s98,s99):Int×Int) =>
     (bL s67 l.length).bind fun v18 =>
     (aA l v18).bind fun v19 =>
     cond ((decide (s99<(v19.To.length:Int))))
      ((bL s67 l.length).bind fun v21 =>
      (aA l v21).bind fun v22 =>
      (bL s99 v22.To.length).bind fun v23 =>
      (aA v22.To v23).bind fun v24 =>
      (some (IntKind.i64.wrap (s98+(v24.GR.size:Int)))).bind fun v25 =>
      (bL s67 l.length).bind fun v26 =>
      (aA l v26).bind fun v27 =>
      (bL s99 v27.To.length).bind fun v28 =>
      (aA v27.To v28).bind fun v29 =>
      (some (IntKind.i64.wrap (v25+(v29.GJ.size:Int)))).bind fun v30 =>
      (some (IntKind.i64.wrap (s99+1))).bind fun v31 =>
      some (.inl (v30,v31)))
      (some (.inr (.inl s98))))
     cq (v14,0))
    (fun (s101:Int) =>
     (some (IntKind.i64.wrap (s67+1))).bind fun v46 =>
     some (.inl (s101,v46))) some))
  (some (.inr (.inl s66))))
def sZ (l:List T_Rec):((Int))→Option ((Int)⊕((Unit)⊕Bool)):=(fun (s23:Int) =>
 cond ((decide (s23<(l.length:Int))))
  (aF (S:=Bool) (A:=((Int)⊕((Unit)⊕Bool)))
   ((bL s23 l.length).bind fun v3 =>
   (aA l v3).bind fun v4 =>
   cond ((decide (600<(v4.GI.length:Int))))
    (some (.inl true))
    ((bL s23 l.length).bind fun v5 =>
    (aA l v5).bind fun v6 =>
    cond ((decide (60<(v6.GO.length:Int))))
     (some (.inl true))
     ((bL s23 l.length).bind fun v7 =>
     (aA l v7).bind fun v8 =>
     (cH [(T_Mail.mk (T_Path.mk v8.GS.GM.GT v8.GS.GM.GR v8.GS.GM.GJ) v8.GS.To v8.GS.GH v8.GS.Ha v8.GS.GN v8.GS.At)]).bind fun v9 =>
     some (.inl v9))))
   (fun (s37:Bool) =>
    cond (s37)
     (some (.inr (.inr (true))))
     ((some (IntKind.i64.wrap (s23+1))).bind fun v15 =>
     some (.inl v15))) some)
  (some (.inr (.inl ()))))
theorem rl {a b:Nat} (h:a+b<9223372036854775808):some (IntKind.i64.wrap ((a:Int)+(b:Int)))=some ((a+b:Nat):Int):=by
 rw [ed (by omega) (by omega)]; simp
def pW (p:T_Path):Nat:=p.GR.size+p.GJ.size
def mb:List T_Path→Nat
 | []=>0
 | p::l=>pW p+mb l
def mW (m:T_Mail):Nat:=m.GH.length+m.GN.size+m.GM.GR.size+m.GM.GJ.size+mb m.To
def kD:List T_Mail→Nat
 | []=>0
 | m::l=>mW m+kD l
theorem xn (l:List T_Path) (k:Nat) (hk:k<l.length):mb (l.take (k+1))=mb (l.take k)+pW l[k]:=by
 induction l generalizing k with
 | nil=>simp at hk
 | cons p l ih =>
  cases k with
  | zero=>simp [mb]
  | succ k =>
   simp only [List.take_succ_cons,mb,List.getElem_cons_succ]
   rw [ih k (by simpa using hk)]; omega
theorem xw (l:List T_Mail) (k:Nat) (hk:k<l.length):kD (l.take (k+1))=kD (l.take k)+mW l[k]:=by
 induction l generalizing k with
 | nil=>simp at hk
 | cons p l ih =>
  cases k with
  | zero=>simp [kD]
  | succ k =>
   simp only [List.take_succ_cons,kD,List.getElem_cons_succ]
   rw [ih k (by simpa using hk)]; omega
theorem tA (B:Nat):∀ (l:List T_Path),(∀ p∈l,pW p≤B)→mb l≤l.length * B
 | [],_=>by simp [mb]
 | p::l,h=>by
  have h1:=h p (by simp)
  have h2:=tA B l (fun q hq=>h q (by simp [hq]))
  simp only [mb,List.length_cons,Nat.add_mul]; omega
theorem wm (B:Nat):∀ (l:List T_Mail),(∀ p∈l,mW p≤B)→kD l≤l.length * B
 | [],_=>by simp [kD]
 | p::l,h=>by
  have h1:=h p (by simp)
  have h2:=wm B l (fun q hq=>h q (by simp [hq]))
  simp only [kD,List.length_cons,Nat.add_mul]; omega
theorem qm {m:T_Mail}:∀ {l:List T_Mail},m∈l→mW m≤kD l
 | x::l,h=>by
  rcases List.mem_cons.1 h with rfl | h
  ·simp only [kD]; omega
  ·have:=qm h; simp only [kD]; omega
theorem qZ {p:T_Path}:∀ {l:List T_Path},p∈l→pW p≤mb l
 | x::l,h=>by
  rcases List.mem_cons.1 h with rfl | h
  ·simp only [mb]; omega
  ·have:=qZ h; simp only [mb]; omega
def Ee (m:T_Mail):Prop:=m.GH.length<140737488355328∧m.GN.size<140737488355328∧m.GM.GR.size<140737488355328∧m.GM.GJ.size<140737488355328∧m.To.length<140737488355328∧∀ p∈m.To,p.GR.size<140737488355328∧p.GJ.size<140737488355328
theorem zA (l:List T_Mail) (i:Nat) (hi:i<l.length) (hm:Ee l[i]) (ht:l[i].To.length≤40) (A:Nat) (hA:A<1152921504606846976) :
  bm (EP l (i:Int)) cq ((A:Int),0)=some (.inl ((A+mb l[i].To:Nat):Int)):=by
 have hix:bL (i:Int) l.length=some i:=aR hi
 have hg:aA l i=some l[i]:=by simp [aA,hi]
 obtain ⟨m,hmm⟩:∃ m,m=l[i]:=⟨_,rfl⟩
 rw [← hmm] at hm ht hg ⊢
 have hp:∀ p∈m.To,pW p≤281474976710656:=fun p hp=>by have:=hm.2.2.2.2.2 p hp; simp only [pW]; omega
 have hb:∀ k,mb (m.To.take k)≤40 * 281474976710656:=fun k=>by
  have h1:=tA 281474976710656 (m.To.take k) (fun p hq=>hp p (List.mem_of_mem_take hq))
  have h2:(m.To.take k).length≤40:=by rw [List.length_take]; omega
  exact Nat.le_trans h1 (Nat.mul_le_mul_right _ h2)
 refine cE (fun k=>(((A+mb (m.To.take k):Nat):Int),(k:Int))) m.To.length cq (by simp [mb]) (by simp only [cq]; omega) (fun k hk => ?_) ?_
 ·have hk':k<m.To.length:=hk
  have hix2:bL (k:Int) m.To.length=some k:=aR hk'
  have hg2:aA m.To k=some m.To[k]:=by simp [aA,hk']
  have hb1:=hb k
  have hpk:=hm.2.2.2.2.2 m.To[k] (List.getElem_mem _)
  have hs:=xn m.To k hk'
  refine az hix (az hg (ar (decide_eq_true (by omega)) (az hix (az hg (az hix2 (az hg2 (az (rl (by omega)) (az hix (az hg (az hix2 (az hg2 (az (rl (by omega)) (az (congrArg some (aX (by omega))) ?_))))))))))))) 
  rw [hs]
  simp only [pW,Nat.add_assoc]
 ·refine az hix (az hg (ap (decide_eq_false (by omega)) ?_))
  simp only [List.take_length]
def LM (m:T_Mail):Prop:=m.To.length≤40∧mW m≤20000
theorem Eu {m:T_Mail} (hm:Ee m) (ht:m.To.length≤40):mW m≤44 * 281474976710656:=by
 have h1:=tA 281474976710656 m.To (fun p hq=>by have:=hm.2.2.2.2.2 p hq; simp only [pW]; omega)
 have h2:m.To.length * 281474976710656≤40 * 281474976710656:=Nat.mul_le_mul_right _ ht
 have:=hm.1; have:=hm.2.1; have:=hm.2.2.1; have:=hm.2.2.2.1
 simp only [mW]; omega
theorem BK (l:List T_Mail) (hr:∀ m∈l,Ee m):∃ b,cH l=some b∧(b=false→l.length≤20∧∀ m∈l,LM m):=by
 by_cases hl:20<l.length
 ·refine ⟨true,?_,fun h=>by cases h⟩
  simp only [cH]
  exact ar (decide_eq_true (by omega)) rfl
 ·have go:∀ i,(hi:i<l.length)→l[i].To.length≤40→kD (l.take i)≤20 * (44 * 281474976710656)→Aa l (((kD (l.take i):Nat):Int),(i:Int))=some (.inl (((kD (l.take (i+1)):Nat):Int),((i+1:Nat):Int))):=by
   intro i hi ht hb
   have hix:bL (i:Int) l.length=some i:=aR hi
   have hg:aA l i=some l[i]:=by simp [aA,hi]
   have hm:=hr l[i] (List.getElem_mem _)
   have hm1:=hm.1; have hm2:=hm.2.1; have hm3:=hm.2.2.1; have hm4:=hm.2.2.2.1
   refine ar (decide_eq_true (by omega)) (az hix (az hg (az (rl (by omega)) (az hix (az hg (az (rl (by omega)) (az hix (az hg (az (rl (by omega)) (az hix (az hg (az (rl (by omega)) (az hix (az hg (ap (decide_eq_false (by omega)) (aI (zA l i hi hm ht _ (by omega)) (az (congrArg some (aX (by omega))) ?_)))))))))))))))))
   rw [xw l i hi]
   simp only [mW,Nat.add_assoc]
  have hs:∀ k,k≤l.length→(∀ i,i<k→(h:i<l.length)→l[i].To.length≤40)→kD (l.take k)≤20 * (44 * 281474976710656):=by
   intro k hk ht
   have h1:=wm (44 * 281474976710656) (l.take k) (fun m hq=>by
    obtain ⟨j,hj,e⟩:=List.mem_iff_getElem.1 hq
    rw [List.getElem_take] at e
    rw [List.length_take] at hj
    rw [← e]
    exact Eu (hr _ (List.getElem_mem _)) (ht j (by omega) (by omega)))
   have h2:(l.take k).length≤20:=by rw [List.length_take]; omega
   exact Nat.le_trans h1 (Nat.mul_le_mul_right _ h2)
  rcases jv (fun i=>decide (∀ h:i<l.length,l[i].To.length≤40)) l.length with h | ⟨k,hk,h1,h2⟩
  ·have ht:∀ i,(h:i<l.length)→l[i].To.length≤40:=fun i hi=>of_decide_eq_true (h i hi) hi
   have hrun:bm (Aa l) cq (0,0)=some (.inl ((kD l:Nat):Int)):=by
    refine cE (fun k=>(((kD (l.take k):Nat):Int),(k:Int))) l.length cq rfl (by simp only [cq]; omega) (fun i hi=>go i hi (ht i hi) (hs i (by omega) (fun j _ hj=>ht j hj))) ?_
    refine ap (decide_eq_false (by omega)) ?_
    simp only [List.take_length]
   refine ⟨decide ((20000:Int)<((kD l:Nat):Int)),?_,fun hd=>⟨by omega,fun m hm=>⟨?_,?_⟩⟩⟩
   ·simp only [cH]
    exact ap (decide_eq_false (by omega)) (aI hrun rfl)
   ·obtain ⟨j,hj,e⟩:=List.mem_iff_getElem.1 hm
    rw [← e]; exact ht j hj
   ·have:=qm hm
    have:=of_decide_eq_false hd
    omega
  ·have h2':40<l[k].To.length:=by
    have:=of_decide_eq_false h2
    apply Classical.byContradiction
    intro hh
    exact this (fun _=>Nat.le_of_not_lt hh)
   have ht:∀ i,i<k→(h:i<l.length)→l[i].To.length≤40:=fun i hi h=>of_decide_eq_true (h1 i hi) h
   have hrun:bm (Aa l) cq (0,0)=some (.inr true):=by
    refine cE (fun k=>(((kD (l.take k):Nat):Int),(k:Int))) k cq rfl (by simp only [cq]; omega) (fun i hi=>go i (by omega) (ht i hi (by omega)) (hs i (by omega) (fun j hj h=>ht j (by omega) h))) ?_
    have hix:bL (k:Int) l.length=some k:=aR hk
    have hg:aA l k=some l[k]:=by simp [aA,hk]
    have hm:=hr l[k] (List.getElem_mem _)
    have hm1:=hm.1; have hm2:=hm.2.1; have hm3:=hm.2.2.1; have hm4:=hm.2.2.2.1
    have hb:=hs k (by omega) ht
    exact ar (decide_eq_true (by omega)) (az hix (az hg (az (rl (by omega)) (az hix (az hg (az (rl (by omega)) (az hix (az hg (az (rl (by omega)) (az hix (az hg (az (rl (by omega)) (az hix (az hg (ar (decide_eq_true (by omega)) rfl)))))))))))))))
   refine ⟨true,?_,fun h=>by cases h⟩
   simp only [cH]
   exact ap (decide_eq_false (by omega)) (kK hrun rfl)
def LR (r:T_Rec):Prop:=r.GI.length≤600∧r.GO.length≤60∧LM r.GS
theorem BO (l:List T_Rec) (hr:∀ r∈l,Ee r.GS∧r.GI.length<140737488355328∧r.GO.length<140737488355328) (hn:l.length<140737488355328):∃ b,cr l=some b∧(b=false→l.length≤60∧∀ r∈l,LR r):=by
 by_cases hl:60<l.length
 ·refine ⟨true,?_,fun h=>by cases h⟩
  simp only [cr]
  exact ar (decide_eq_true (by omega)) rfl
 ·-- a round
  have go:∀ i,(hi:i<l.length)→∃ b:Bool,sZ l (i:Int)=some (if b then .inr (.inr true) else .inl ((i+1:Nat):Int))∧(b=false→LR l[i]):=by
   intro i hi
   have hix:bL (i:Int) l.length=some i:=aR hi
   have hg:aA l i=some l[i]:=by simp [aA,hi]
   have hm:=hr l[i] (List.getElem_mem _)
   by_cases h1:600<l[i].GI.length
   ·refine ⟨true,ar (decide_eq_true (by omega)) (aI (az hix (az hg (ar (decide_eq_true (by omega)) rfl))) rfl),fun h=>by cases h⟩
   ·by_cases h2:60<l[i].GO.length
    ·refine ⟨true,ar (decide_eq_true (by omega)) (aI (az hix (az hg (ap (decide_eq_false (by omega)) (az hix (az hg (ar (decide_eq_true (by omega)) rfl)))))) rfl),fun h=>by cases h⟩
    ·obtain ⟨b,hb,hbl⟩:=BK [l[i].GS] (fun m hq=>by rw [List.mem_singleton.1 hq]; exact hm.1)
     refine ⟨b,ar (decide_eq_true (by omega)) (aI (s:=b) (az hix (az hg (ap (decide_eq_false (by omega)) (az hix (az hg (ap (decide_eq_false (by omega)) (az hix (az hg (az hb rfl))))))))) ?_),fun h=>⟨by omega,by omega,(hbl h).2 _ (List.mem_singleton.2 rfl)⟩⟩
     cases b
     ·exact ap rfl (az (congrArg some (aX (by omega))) rfl)
     ·rfl
  have hc:∃ p:Nat→Bool,∀ i,(hi:i<l.length)→sZ l (i:Int)=some (if p i then .inl ((i+1:Nat):Int) else .inr (.inr true))∧(p i=true→LR l[i]):=by
   classical
   refine ⟨fun i=>if hi:i<l.length then !(Classical.choose (go i hi)) else true,fun i hi => ?_⟩
   have:=Classical.choose_spec (go i hi)
   simp only [hi,dif_pos]
   generalize Classical.choose (go i hi)=b at this
   cases b
   ·exact ⟨this.1,fun _=>this.2 rfl⟩
   ·exact ⟨this.1,fun h=>by simp at h⟩
  obtain ⟨p,hp⟩:=hc
  have hrun:=dS (f:=sZ l) p l.length true (fuel:=cq) (by simp only [cq]; omega) (fun i hi h=>by have:=(hp i hi).1; rw [h] at this; exact this) (fun i hi h=>by have:=(hp i hi).1; rw [h] at this; exact this) (ap (decide_eq_false (by omega)) rfl)
  by_cases h:∀ i,i<l.length→p i=true
  ·rw [if_pos h] at hrun
   refine ⟨false,?_,fun _=>⟨by omega,fun r hq => ?_⟩⟩
   ·simp only [cr]
    exact ap (decide_eq_false (by omega)) (aI hrun rfl)
   ·obtain ⟨j,hj,e⟩:=List.mem_iff_getElem.1 hq
    rw [← e]; exact (hp j hj).2 (h j hj)
  ·rw [if_neg h] at hrun
   refine ⟨true,?_,fun h=>by cases h⟩
   simp only [cr]
   exact ap (decide_eq_false (by omega)) (kK hrun rfl)
theorem Bp:ep=some true:=by kernel_rfl
def jC:List Int→Int→List Int
 | [],n=>[n]
 | a::l,n=>if a<n then a::jC l n else n::a::l
theorem kS {x n:Int}:∀ {l:List Int},x∈jC l n↔x=n∨x∈l
 | []=>by simp [jC]
 | a::l=>by
  simp only [jC]
  split
  ·simp only [List.mem_cons,kS (l:=l)]
   constructor
   ·rintro (h | h | h)
    ·exact .inr (.inl h)
    ·exact .inl h
    ·exact .inr (.inr h)
   ·rintro (h | h | h)
    ·exact .inr (.inl h)
    ·exact .inl h
    ·exact .inr (.inr h)
  ·simp only [List.mem_cons]
theorem qp {n:Int}:∀ {l:List Int},(jC l n).length=l.length+1
 | []=>rfl
 | a::l=>by
  simp only [jC]
  split
  ·simp only [List.length_cons,qp (l:=l)]
  ·simp only [List.length_cons]
def Bv (l:List Int):Prop:=l.Pairwise (· < ·)
theorem va {n:Int}:∀ {l:List Int},Bv l→n ∉ l→Bv (jC l n)
 | [],_,_=>by simp [jC,Bv]
 | a::l,h,hn=>by
  have h1:∀ x∈l,a<x:=(List.pairwise_cons.1 h).1
  have h2:Bv l:=(List.pairwise_cons.1 h).2
  simp only [jC]
  split
  ·rename_i hlt
   refine List.Pairwise.cons (fun x hx => ?_) (va h2 (fun hm=>hn (List.mem_cons_of_mem _ hm)))
   rcases kS.1 hx with rfl | hx
   ·exact hlt
   ·exact h1 x hx
  ·rename_i hlt
   have hne:n≠a:=fun e=>hn (by rw [e]; exact List.mem_cons_self)
   refine List.Pairwise.cons (fun x hx => ?_) h
   rcases List.mem_cons.1 hx with rfl | hx
   ·omega
   ·have:=h1 x hx; omega
theorem yq {n:Int}:∀ {l:List Int} {p:Nat},p≤l.length→(∀ i (h:i<l.length),i<p→l[i]<n)→(∀ i (h:i<l.length),p≤i→n≤l[i])→l.take p++([n]++l.drop p)=jC l n
 | [],p,hp,_,_=>by
  simp only [List.length_nil] at hp
  obtain rfl:p=0:=by omega
  rfl
 | a::l,0,hp,_,h2=>by
  have:=h2 0 (by simp) (by omega)
  simp only [List.getElem_cons_zero] at this
  simp only [jC,if_neg (by omega:¬ a<n)]
  rfl
 | a::l,p+1,hp,h1,h2=>by
  have:=h1 0 (by simp) (by omega)
  simp only [List.getElem_cons_zero] at this
  simp only [jC,if_pos this]
  have hr:=yq (n:=n) (l:=l) (p:=p) (by simpa using hp) (fun i h hi=>h1 (i+1) (by simpa using h) (by omega)) (fun i h hi=>h2 (i+1) (by simpa using h) (by omega))
  rw [← hr]; rfl
theorem zM {l:List Int} (h:Bv l) {i j:Nat} (hj:j<l.length) (hij:i<j):l[i]<l[j]:=List.pairwise_iff_getElem.1 h i j (by omega) hj hij
theorem yl (l:List Int) (v:Int) (hl:l.length<4294967296):∃ k:Int,dI l v=some k∧(decide (0≤k))=decide (v∈l):=by
 unfold dI
 rcases jv (fun i=>decide (l[i]? ≠ some v)) l.length with h | ⟨k,hk,h1,h2⟩
 ·refine ⟨-1,?_,?_⟩
  ·refine aI (s:=()) (cE (fun i=>((i:Nat):Int)) l.length cq rfl (by simp only [cq]; omega) (fun i hi => ?_) ?_) rfl
   ·have hx:=of_decide_eq_true (h i hi)
    rw [List.getElem?_eq_getElem hi] at hx
    refine ar (decide_eq_true (by omega)) (az (aR hi) (az (by simp [aA,hi]:aA l i=some l[i]) (ap ?_ (az (congrArg some (aX (by omega))) rfl))))
    exact beq_eq_false_iff_ne.2 (fun e=>hx (by rw [e]))
   ·exact ap (decide_eq_false (by omega)) rfl
  ·rw [decide_eq_false (by omega)]
   refine (decide_eq_false fun hm => ?_).symm
   obtain ⟨i,hi,he⟩:=List.getElem_of_mem hm
   have hx:=of_decide_eq_true (h i hi)
   exact hx (by rw [List.getElem?_eq_getElem hi,he])
 ·refine ⟨k,?_,?_⟩
  ·refine kK (a:=((k:Nat):Int)) (cE (fun i=>((i:Nat):Int)) k cq rfl (by simp only [cq]; omega) (fun i hi => ?_) ?_) rfl
   ·have hi':i<l.length:=by omega
    have hx:=of_decide_eq_true (h1 i hi)
    rw [List.getElem?_eq_getElem hi'] at hx
    refine ar (decide_eq_true (by omega)) (az (aR hi') (az (by simp [aA,hi']:aA l i=some l[i]) (ap ?_ (az (congrArg some (aX (by omega))) rfl))))
    exact beq_eq_false_iff_ne.2 (fun e=>hx (by rw [e]))
   ·have hx:l[k]? = some v:=by simpa using h2
    rw [List.getElem?_eq_getElem hk] at hx
    exact ar (decide_eq_true (by omega)) (az (aR hk) (az (by simp [aA,hk]:aA l k=some l[k]) (ar (by rw [Option.some.inj hx]; exact beq_self_eq_true v) rfl)))
  ·have hx:l[k]? = some v:=by simpa using h2
   rw [List.getElem?_eq_getElem hk] at hx
   rw [decide_eq_true (by omega),decide_eq_true (Option.some.inj hx ▸ List.getElem_mem hk)]
theorem iB (l:List Int) (v:Int) (hl:l.length<4294967296):bB l v=some (decide (v∈l)):=by
 obtain ⟨k,h1,h2⟩:=yl l v hl
 unfold bB
 exact az h1 (by rw [h2])
theorem uQ (a:Nat) (ha:a<9223372036854775808):vm .u64 (a:Int) 1=some ((a / 2:Nat):Int):=by
 simp only [vm]
 rw [if_pos (by omega)]
 have e:min (Int.toNat 1) IntKind.u64.bits=1:=rfl
 rw [e,Int.fdiv_eq_ediv_of_nonneg _ (by omega)]
 congr 1
theorem uP {n:Int} (h0:0≤n) (h1:n<18446744073709551616):IntKind.u64.wrap n=n:=by
 have e:(2:Int) ^ 64=18446744073709551616:=by decide
 simp only [IntKind.wrap,IntKind.bits,IntKind.signed]
 simp only [e,Bool.false_and,Bool.false_eq_true,if_false]
 omega
def Gv (x:List Int) (target:Int):(Int×Int)→Option ((Int×Int)⊕((Int)⊕(Int×Bool))):=(fun ((s27,s28):Int×Int) =>
 cond ((decide (s27<s28)))
  (aF (S:=Int×Int) (A:=((Int×Int)⊕((Int)⊕(Int×Bool))))
   ((some (IntKind.i64.wrap (s27+s28))).bind fun v2 =>
   (some (IntKind.u64.wrap v2)).bind fun v3 =>
   (vm .u64 v3 1).bind fun v4 =>
   (some (IntKind.i64.wrap v4)).bind fun v5 =>
   (bL v5 x.length).bind fun v6 =>
   (aA x v6).bind fun v7 =>
   (fN v7 target).bind fun v8 =>
   cond (v8)
    ((some (IntKind.i64.wrap (v5+1))).bind fun v10 =>
    some (.inl (s28,v10)))
    (some (.inl (v5,s27))))
   (fun ((s46,s47):Int×Int) =>
    some (.inl (s47,s46))) some)
  (some (.inr (.inl s27))))
theorem wI (x y:Int):fN x y=some (decide (x<y)):=by
 unfold fN fX
 simp [aF]
theorem th (x:List Int) (t:Int) (hs:Bv x) (hl:x.length<4294967296):∀ (fuel d i j:Nat),j-i=d→d<fuel→i≤j→j≤x.length→(∀ k (h:k<x.length),k<i→x[k]<t)→(∀ k (h:k<x.length),j≤k→t≤x[k]) →
  ∃ p:Nat,p≤x.length∧(∀ k (h:k<x.length),k<p→x[k]<t)∧(∀ k (h:k<x.length),p≤k→t≤x[k])∧bm (Gv x t) fuel ((i:Int),(j:Int))=some (.inl (p:Int))
 | 0,d,i,j,_,hf,_,_,_,_=>absurd hf (Nat.not_lt_zero d)
 | fuel+1,d,i,j,hd,hf,hij,hj,h1,h2=>by
  by_cases h:i<j
  ·have hm:(i+j) / 2<x.length:=by omega
   have hw:IntKind.i64.wrap ((i:Int)+(j:Int))=((i+j:Nat):Int):=by rw [ed (by omega) (by omega)]; simp
   have e5:IntKind.i64.wrap (((i+j) / 2:Nat):Int)=(((i+j) / 2:Nat):Int):=qX _ (by omega)
   by_cases hc:x[(i+j) / 2]<t
   ·obtain ⟨p,hp,a,b,c⟩:=th x t hs hl fuel (j-((i+j) / 2+1)) ((i+j) / 2+1) j rfl (by omega) (by omega) hj (fun k hk hki=>by
     by_cases hkm:k=(i+j) / 2
     ·subst hkm; exact hc
     ·have:=zM hs (i:=k) hm (by omega); omega) h2
    refine ⟨p,hp,a,b,?_⟩
    rw [← c]
    refine bY ?_
    refine ar (decide_eq_true (by omega)) (aI (s:=((j:Int),(((i+j) / 2+1:Nat):Int))) ?_ rfl)
    exact az (congrArg some hw) (az (congrArg some (uP (by omega) (by omega))) (az (uQ _ (by omega)) (az (congrArg some e5) (az (aR hm) (az (by simp [aA,hm]:aA x _=some x[(i+j) / 2]) (az (wI _ _) (ar (decide_eq_true hc) (az (congrArg some (aX (by omega))) rfl))))))))
   ·obtain ⟨p,hp,a,b,c⟩:=th x t hs hl fuel ((i+j) / 2-i) i ((i+j) / 2) rfl (by omega) (by omega) (by omega) h1 (fun k hk hki=>by
     by_cases hkm:k=(i+j) / 2
     ·subst hkm; omega
     ·have:=zM hs (i:=(i+j) / 2) hk (by omega); omega)
    refine ⟨p,hp,a,b,?_⟩
    rw [← c]
    refine bY ?_
    refine ar (decide_eq_true (by omega)) (aI (s:=((((i+j) / 2:Nat):Int),(i:Int))) ?_ rfl)
    exact az (congrArg some hw) (az (congrArg some (uP (by omega) (by omega))) (az (uQ _ (by omega)) (az (congrArg some e5) (az (aR hm) (az (by simp [aA,hm]:aA x _=some x[(i+j) / 2]) (az (wI _ _) (ap (decide_eq_false hc) rfl)))))))
  ·obtain rfl:i=j:=by omega
   refine ⟨i,hj,h1,h2,bS (ap (decide_eq_false (by omega)) rfl)⟩
theorem vn (x:List Int) (t:Int) (hs:Bv x) (hl:x.length<4294967295):∃ (p:Nat) (b:Bool),bW x t=some ((p:Int),b)∧p≤x.length∧(∀ k (h:k<x.length),k<p→x[k]<t)∧(∀ k (h:k<x.length),p≤k→t≤x[k]):=by
 obtain ⟨p,hp,h1,h2,h3⟩:=th x t hs (by omega) cq x.length 0 x.length rfl (by simp only [cq]; omega) (by omega) (by omega) (fun k _ h=>absurd h (Nat.not_lt_zero k)) (fun k h h'=>absurd h' (by omega))
 unfold bW
 by_cases hlt:p<x.length
 ·by_cases he:x[p]=t
  ·refine ⟨p,true,aI (s:=(p:Int)) h3 ?_,hp,h1,h2⟩
   refine aI (s:=true) ?_ rfl
   exact ar (decide_eq_true (by omega)) (az (aR hlt) (az (by simp [aA,hlt]:aA x p=some x[p]) (ar (by rw [he]; exact beq_self_eq_true t) rfl)))
  ·refine ⟨p,false,aI (s:=(p:Int)) h3 ?_,hp,h1,h2⟩
   refine aI (s:=false) ?_ rfl
   exact ar (decide_eq_true (by omega)) (az (aR hlt) (az (by simp [aA,hlt]:aA x p=some x[p]) (ap (beq_eq_false_iff_ne.2 he) (az (aR hlt) (az (by simp [aA,hlt]:aA x p=some x[p]) (az (x:=false) (by simp [eR]) rfl))))))
 ·refine ⟨p,false,aI (s:=(p:Int)) h3 ?_,hp,h1,h2⟩
  exact aI (s:=false) (ap (decide_eq_false (by omega)) rfl) rfl
theorem tW (x:List Int) (t:Int) (hs:Bv x) (hl:x.length<1000000000) {R:Type} (f:List Int→Option R) :
  ((bW x t).bind fun v=>(cK x v.1 [t]).bind f)=f (jC x t):=by
 obtain ⟨p,b,h,hp,h1,h2⟩:=vn x t hs (by omega)
 refine az h ?_
 have hi:cK x ((p:Int),b).1 [t]=some (jC x t):=by
  simp only [cK]
  rw [if_pos ⟨by omega,by omega,by simp,by simp; omega⟩,Int.toNat_natCast,yq hp h1 h2]
 exact az hi rfl
set_option maxRecDepth 10000
def Fz (r:T_Rec):Nat:=24+(r.GI.length+r.GS.GH.length+r.GS.GN.size)+80 * (1+r.GS.To.length)+8 * r.GO.length
theorem eI {A:Type} {k:Nat} {l:List A} (h:l.length * k≤140737488355328) (h1:l.length≤140737488355328):dO k [] l=some l:=by
 rw [fw (by simpa using h) (by simpa using h1)]; rfl
theorem mu {m:T_Mail} (h:LM m):fD m=some m:=by
 obtain ⟨h1,h2⟩:=h
 simp only [mW] at h2
 simp only [fD,eJ,dL]
 rw [eI (by omega) (by omega),eI (by omega) (by omega)]; rfl
theorem xQ {r:T_Rec} (h:LR r):jb r=some r:=by
 obtain ⟨h1,h2,h3⟩:=h
 have hm:=mu h3
 simp only [jb,eO,dL]
 refine az hm ?_
 rw [eI (by omega) (by omega),eI (by omega) (by omega)]; rfl
theorem DI {r:T_Rec} (h:T_Rec.wz r):Ee r.GS∧r.GI.length<140737488355328∧r.GO.length<140737488355328:=by
 obtain ⟨_,⟨⟨_,h1,h2⟩,⟨h3,h4⟩,⟨h5,_⟩,_,h6,_⟩,_,⟨h7,_⟩,_,_,_,⟨h8,_⟩⟩:=h
 simp only [BZ,reachBytes] at h1 h2 h6
 simp only [reachBytes] at h3 h5 h7 h8
 refine ⟨⟨by omega,by omega,by omega,by omega,by omega,fun p hp => ?_⟩,by omega,by omega⟩
 have:=h4 p hp
 simp only [T_Path.wz,BZ,reachBytes] at this
 omega
def FZ (a b:List T_Path):((Int))→Option ((Int)⊕((Unit)⊕Bool)):=(fun (s13:Int) =>
 cond ((decide (s13<(a.length:Int))))
  ((bL s13 a.length).bind fun v3 =>
  (aA a v3).bind fun v4 =>
  (bL s13 b.length).bind fun v5 =>
  (aA b v5).bind fun v6 =>
  (cR v4 v6).bind fun v7 =>
  cond ((!v7))
   (some (.inr (.inr (false))))
   ((some (IntKind.i64.wrap (s13+1))).bind fun v9 =>
   some (.inl v9)))
  (some (.inr (.inl ()))))
def Gq (a b:List Int):((Int))→Option ((Int)⊕((Unit)⊕Bool)):=(fun (s12:Int) =>
 cond ((decide (s12<(a.length:Int))))
  ((bL s12 a.length).bind fun v3 =>
  (aA a v3).bind fun v4 =>
  (bL s12 b.length).bind fun v5 =>
  (aA b v5).bind fun v6 =>
  cond ((v4 != v6))
   (some (.inr (.inr (false))))
   ((some (IntKind.i64.wrap (s12+1))).bind fun v8 =>
   some (.inl v8)))
  (some (.inr (.inl ()))))
def FX (a b:List Int):((Int))→Option ((Int)⊕((Unit)⊕Bool)):=(fun (s12:Int) =>
 cond ((decide (s12<(a.length:Int))))
  ((bL s12 a.length).bind fun v3 =>
  (aA a v3).bind fun v4 =>
  (bL s12 b.length).bind fun v5 =>
  (aA b v5).bind fun v6 =>
  cond ((v4 != v6))
   (some (.inr (.inr (false))))
   ((some (IntKind.i64.wrap (s12+1))).bind fun v8 =>
   some (.inl v8)))
  (some (.inr (.inl ()))))
def GC (a b:List T_Rec):((Int))→Option ((Int)⊕((Unit)⊕Bool)):=(fun (s13:Int) =>
 cond ((decide (s13<(a.length:Int))))
  ((bL s13 a.length).bind fun v3 =>
  (aA a v3).bind fun v4 =>
  (bL s13 b.length).bind fun v5 =>
  (aA b v5).bind fun v6 =>
  (bZ ((T_Rec.mk v4.GQ ((T_Mail.mk (T_Path.mk v4.GS.GM.GT v4.GS.GM.GR v4.GS.GM.GJ) v4.GS.To v4.GS.GH v4.GS.Ha v4.GS.GN v4.GS.At)) v4.Id v4.GO v4.GW v4.GU v4.GV v4.GI)) ((T_Rec.mk v6.GQ ((T_Mail.mk (T_Path.mk v6.GS.GM.GT v6.GS.GM.GR v6.GS.GM.GJ) v6.GS.To v6.GS.GH v6.GS.Ha v6.GS.GN v6.GS.At)) v6.Id v6.GO v6.GW v6.GU v6.GV v6.GI))).bind fun v7 =>
  cond ((!v7))
   (some (.inr (.inr (false))))
   ((some (IntKind.i64.wrap (s13+1))).bind fun v9 =>
   some (.inl v9)))
  (some (.inr (.inl ()))))
theorem rO (p:T_Path):cR p p=some true:=by
 simp [cR,aF]
theorem vP (l:List T_Path) (hn:l.length<4294967296):dz l l=some true:=by
 have hrun:=dS (f:=FZ l l) (fun _=>true) l.length false (fuel:=cq) (by simp only [cq]; omega) (fun i hi _=>by
  have hix:bL (i:Int) l.length=some i:=aR hi
  have hg:aA l i=some l[i]:=by simp [aA,hi]
  exact ar (decide_eq_true (by omega)) (az hix (az hg (az hix (az hg (az (rO _) (ap rfl (az (congrArg some (aX (by omega))) rfl))))))))
  (fun i hi h=>by cases h) (ap (decide_eq_false (by omega)) rfl)
 rw [if_pos (fun _ _=>rfl)] at hrun
 simp only [dz]
 exact ap (by simp) (aI hrun rfl)
theorem mG (l:List Int) (hn:l.length<4294967296):cB l l=some true:=by
 have hrun:=dS (f:=Gq l l) (fun _=>true) l.length false (fuel:=cq) (by simp only [cq]; omega) (fun i hi _=>by
  have hix:bL (i:Int) l.length=some i:=aR hi
  have hg:aA l i=some l[i]:=by simp [aA,hi]
  exact ar (decide_eq_true (by omega)) (az hix (az hg (az hix (az hg (ap (by simp) (az (congrArg some (aX (by omega))) rfl)))))))
  (fun i hi h=>by cases h) (ap (decide_eq_false (by omega)) rfl)
 rw [if_pos (fun _ _=>rfl)] at hrun
 simp only [cB]
 exact ap (by simp) (aI hrun rfl)
theorem nA (l:List Int) (hn:l.length<4294967296):cS l l=some true:=by
 have hrun:=dS (f:=FX l l) (fun _=>true) l.length false (fuel:=cq) (by simp only [cq]; omega) (fun i hi _=>by
  have hix:bL (i:Int) l.length=some i:=aR hi
  have hg:aA l i=some l[i]:=by simp [aA,hi]
  exact ar (decide_eq_true (by omega)) (az hix (az hg (az hix (az hg (ap (by simp) (az (congrArg some (aX (by omega))) rfl)))))))
  (fun i hi h=>by cases h) (ap (decide_eq_false (by omega)) rfl)
 rw [if_pos (fun _ _=>rfl)] at hrun
 simp only [cS]
 exact ap (by simp) (aI hrun rfl)
theorem sd (m:T_Mail) (h:LM m):cQ m m=some true:=by
 obtain ⟨h1,h2⟩:=h
 simp only [mW] at h2
 simp only [cQ]
 refine aI (s:=true) ?_ rfl
 exact az (rO _) (ar rfl (az (vP _ (by omega)) (ar rfl (az (mG _ (by omega)) (ar rfl (az (x:=true) (by simp) (ar (by simp) (ar (by simp) (by simp)))))))))
theorem uj (r:T_Rec) (h:LR r):bZ r r=some true:=by
 obtain ⟨h1,h2,h3⟩:=h
 simp only [bZ]
 refine aI (s:=true) ?_ rfl
 exact ar (by simp) (az (sd _ h3) (ar rfl (ar (by simp) (az (nA _ (by omega)) (ar rfl (ar (by simp) (ar (by simp) (ar (by simp) (az (mG _ (by omega)) rfl)))))))))
theorem ka {A:Type} (l:List A) (k:Nat) (hk:k<l.length):l.take (k+1)=l.take k++[l[k]]:=by
 rw [List.take_add_one,List.getElem?_eq_getElem hk]; rfl
set_option maxRecDepth 10000
def EB (m:T_Mail):Int→Option (Int⊕(Unit⊕Bool)):=(fun (s24:Int) =>
 cond ((decide (s24<(m.To.length:Int))))
  ((bL s24 m.To.length).bind fun v8 =>
  (aA m.To v8).bind fun v9 =>
  aF (S:=Bool) (A:=((Int)⊕((Unit)⊕Bool)))
   ((eZ v9).bind fun v10 =>
   cond ((v10 != 0))
    (some (.inl true))
    (some (.inl v9.GT)))
   (fun (s38:Bool) =>
    cond (s38)
     (some (.inr (.inr (false))))
     ((some (IntKind.i64.wrap (s24+1))).bind fun v16 =>
     some (.inl v16))) some)
  (some (.inr (.inl ()))))
def Gj (s:List ae) (n:Int):Int→Option (Int⊕(Unit⊕Int)):=(fun (s10:Int) =>
 cond ((decide (s10<(s.length:Int))))
  ((bL s10 s.length).bind fun v2 =>
  (aA s v2).bind fun v3 =>
  (fM ((ae.mk v3.Id ((T_Mail.mk (T_Path.mk v3.GS.GM.GT v3.GS.GM.GR v3.GS.GM.GJ) v3.GS.To v3.GS.GH v3.GS.Ha v3.GS.GN v3.GS.At)) v3.Hc v3.GX)) n).bind fun v4 =>
  cond (v4)
   (some (.inr (.inr (s10))))
   ((some (IntKind.i64.wrap (s10+1))).bind fun v6 =>
   some (.inl v6)))
  (some (.inr (.inl ()))))
def Gu (s:ai) (ids:List Int):Int→Option (Int⊕(Unit⊕Bool)):=(fun (s27:Int) =>
 cond ((decide (s27<(ids.length:Int))))
  ((bL s27 ids.length).bind fun v7 =>
  (aA ids v7).bind fun v8 =>
  aF (S:=Bool) (A:=((Int)⊕((Unit)⊕Bool)))
   (cond ((decide (0<s27)))
    ((some (IntKind.i64.wrap (s27-1))).bind fun v9 =>
    (bL v9 ids.length).bind fun v10 =>
    (aA ids v10).bind fun v11 =>
    cond ((decide (v8≤v11)))
     (some (.inl true))
     ((eA s v8).bind fun v12 =>
     some (.inl (!v12))))
    ((eA s v8).bind fun v13 =>
    some (.inl (!v13))))
   (fun (s41:Bool) =>
    cond (s41)
     (some (.inr (.inr (false))))
     ((some (IntKind.i64.wrap (s27+1))).bind fun v19 =>
     some (.inl v19))) some)
  (some (.inr (.inl ()))))
def PL {A:Type} (m:Option (Bool⊕A)):Prop:=∃ b,m=some (.inl b)
theorem bJ {A:Type} {a b:Bool} (h:a=b):(some (.inl a):Option (Bool⊕A))=some (.inl b):=by rw [h]
theorem pl {A:Type} (b:Bool):PL (A:=A) (some (.inl b)):=⟨b,rfl⟩
theorem tc {A:Type} {c:Bool} {x y:Option (Bool⊕A)} (hx:PL x) (hy:PL y):PL (cond c x y):=by cases c; exact hy; exact hx
theorem tb {A X:Type} {o:Option X} {f:X→Option (Bool⊕A)} {x:X} (h:o=some x) (hf:PL (f x)):PL (o.bind f):=by subst h; exact hf
theorem fin {m:Option (Bool⊕Bool)} {f:Bool→Option Bool} {g:Bool→Option Bool} (h:PL m) (hf:∀ b,∃ c,f b=some c):∃ b,aF m f g=some b:=by
 obtain ⟨b,rfl⟩:=h
 exact hf b
theorem tP (r:T_Rec):∃ q,cY r=some q:=by
 unfold cY
 cases (r.GQ==1) <;> cases (r.GQ==2) <;> cases (r.GQ==3) <;> cases (r.GQ==6) <;> cases (r.GQ==4) <;> cases (r.GQ==5) <;> exact ⟨_,rfl⟩
theorem xm (r:T_Rec):∃ b,dF r=some b:=by
 unfold dF
 refine fin ?_ fun b=>fin ?_ fun c=>⟨_,rfl⟩
 ·iterate 6 (first | exact pl _ | refine tc ?_ (pl _))
 ·iterate 8 (first | exact pl _ | refine tc ?_ (pl _))
def CY (r:T_Rec):Option Bool:=(cY r).bind dF
def er (r:T_Rec):Bool:=(CY r).getD false
theorem Cj (r:T_Rec):CY r=some (er r):=by
 obtain ⟨q,h⟩:=tP r
 obtain ⟨b,h'⟩:=xm q
 have:CY r=some b:=by unfold CY; exact az h h'
 simp only [er,this,Option.getD_some]
theorem kh {m:T_Mail} (h:LM m):Small m.GM∧(∀ p∈m.To,Small p)∧m.GH.length≤20000∧m.To.length≤40:=by
 obtain ⟨h1,h2⟩:=h
 have h2':=h2
 simp only [mW] at h2
 refine ⟨⟨by omega,by omega⟩,fun p hp => ?_,by omega,h1⟩
 have:=qZ hp
 simp only [pW] at this
 exact ⟨by omega,by omega⟩
theorem rM {R:Type} {f:Int→Option (Int⊕(Unit⊕R))} (n:Nat) (h:∀ i:Nat,i<n→f (i:Int)=some (.inl ((i+1:Nat):Int))∨∃ r,f (i:Int)=some (.inr (.inr r))) (hend:f (n:Int)=some (.inr (.inl ()))) :
  ∀ (d i fuel:Nat),i+d=n→d<fuel→∃ o,bm f fuel (i:Int)=some o
 | d,i,0,_,hf=>absurd hf (Nat.not_lt_zero d)
 | 0,i,fuel+1,hd,hf=>by
  obtain rfl:i=n:=by omega
  exact ⟨_,bS hend⟩
 | d+1,i,fuel+1,hd,hf=>by
  rcases h i (by omega) with h1 | ⟨r,h1⟩
  ·obtain ⟨o,ho⟩:=rM n h hend d (i+1) fuel (by omega) (by omega)
   exact ⟨o,by rw [bY h1]; exact ho⟩
  ·exact ⟨_,bS h1⟩
theorem As {m:T_Mail} (h:LM m):∃ b,dc m=some b:=by
 obtain ⟨h1,h2,h3,h4⟩:=kh h
 unfold dc
 refine fin (tb (iE _ h1) (tc (pl _) (tc (pl _) (pl _)))) fun b => ?_
 cases b
 ·refine (fun ⟨b,h⟩=>⟨b,ap rfl h⟩:(∃ b,_=some b)→_) ?_
  have hx:=rM (R:=Bool) (f:=EB m) m.To.length (fun i hi => ?_) (ap (decide_eq_false (by omega)) rfl) m.To.length 0 cq (by omega) (by simp only [cq]; omega)
  ·obtain ⟨o,ho⟩:=hx
   cases o with
   | inl u=>exact ⟨true,aI ho rfl⟩
   | inr b=>exact ⟨b,kK ho rfl⟩
  ·obtain ⟨b,hb⟩:PL (A:=Int⊕(Unit⊕Bool)) ((eZ m.To[i]).bind fun v10=>cond ((v10 != 0)) (some (.inl true)) (some (.inl m.To[i].GT))):=tb (iE _ (h2 _ (List.getElem_mem hi))) (tc (pl _) (pl _))
   have e:EB m (i:Int)=some (if b then .inr (.inr false) else .inl ((i+1:Nat):Int)):=by
    refine ar (decide_eq_true (by omega)) (az (aR hi) (az (by simp [aA,hi]:aA m.To i=some m.To[i]) (aI hb ?_)))
    cases b
    ·exact ap rfl (az (congrArg some (aX (n:=i) (by omega))) rfl)
    ·rfl
   rw [e]
   cases b
   ·exact .inl rfl
   ·exact .inr ⟨_,rfl⟩
 ·exact ⟨false,rfl⟩
theorem zC {b:List Int} (hb:jF b) (hl:b.length<4294967281):∃ n,ef b=some n:=by
 rcases rV hb hl with h | ⟨ls,h1,h2,rfl⟩
 ·exact ⟨_,h⟩
 ·exact ⟨_,qY h1 h2 (by rw [← kC]; exact hl)⟩
theorem yL {m:T_Mail} (h:LM m) (hb:jF m.GH):∃ b,bI m=some b:=by
 obtain ⟨b,h1⟩:=As h
 obtain ⟨n,h2⟩:=zC hb (by have:=(kh h).2.2.1; omega)
 unfold bI
 exact fin (tb h1 (tc (tb h2 (tc (tc (pl _) (pl _)) (pl _))) (pl _))) fun c=>⟨_,rfl⟩
def mv (m:T_Mail):Bool:=(bI m).getD false
theorem zw {m:T_Mail} (h:LM m) (hb:jF m.GH):bI m=some (mv m):=by
 obtain ⟨b,h⟩:=yL h hb
 simp only [mv,h,Option.getD_some]
def Ids (s:ai):Prop:=∀ i (h:i<s.GP.length),s.GP[i].Id=(i:Int)+1
theorem wV (s:ai) (hid:Ids s) (hl:s.GP.length<4294967296) (n:Int):ib s n=some (if 1≤n∧n≤(s.GP.length:Int) then n-1 else-1):=by
 unfold ib bz
 have go:∀ i,i<s.GP.length→(i:Int)+1≠n→Gj s.GP n (i:Int)=some (.inl ((i+1:Nat):Int)):=by
  intro i hi hne
  refine ar (decide_eq_true (by omega)) (az (aR hi) (az (by simp [aA,hi]:aA s.GP i=some s.GP[i]) (az (x:=false) ?_ (ap rfl (az (congrArg some (aX (by omega))) rfl)))))
  show some (s.GP[i].Id==n)=some false
  rw [hid i hi,beq_eq_false_iff_ne.2 hne]
 by_cases hn:1≤n∧n≤(s.GP.length:Int)
 ·rw [if_pos hn]
  obtain ⟨k,rfl⟩:∃ k:Nat,n=(k:Int)+1:=⟨(n-1).toNat,by omega⟩
  have hk:k<s.GP.length:=by omega
  refine az (kK (a:=(k:Int)) (cE (fun i=>((i:Nat):Int)) k cq rfl (by simp only [cq]; omega) (fun i hi=>go i (by omega) (by omega)) ?_) rfl) (by rw [Int.add_sub_cancel])
  refine ar (decide_eq_true (by omega)) (az (aR hk) (az (by simp [aA,hk]:aA s.GP k=some s.GP[k]) (az (x:=true) ?_ rfl)))
  show some (s.GP[k].Id==(k:Int)+1)=some true
  rw [hid k hk,beq_self_eq_true]
 ·rw [if_neg hn]
  refine az (aI (s:=()) (cE (fun i=>((i:Nat):Int)) s.GP.length cq rfl (by simp only [cq]; omega) (fun i hi=>go i hi (by omega)) ?_) rfl) rfl
  exact ap (decide_eq_false (by omega)) rfl
def wt (s:ai) (n:Int):Bool:=decide (1≤n∧n≤(s.GP.length:Int))&&((s.GP[(n-1).toNat]?.map (·.Hc))==some 1)
theorem rq (s:ai) (hid:Ids s) (hl:s.GP.length<4294967296) (n:Int):eA s n=some (wt s n):=by
 unfold eA wt
 refine az (wV s hid hl n) ?_
 by_cases hn:1≤n∧n≤(s.GP.length:Int)
 ·rw [if_pos hn,decide_eq_true hn,Bool.true_and]
  obtain ⟨k,rfl⟩:∃ k:Nat,n=(k:Int)+1:=⟨(n-1).toNat,by omega⟩
  have hk:k<s.GP.length:=by omega
  have e:(((k:Int)+1)-1)=(k:Int):=by omega
  rw [e,Int.toNat_natCast,List.getElem?_eq_getElem hk]
  exact aI (s:=(s.GP[k].Hc==1)) (ar (decide_eq_true (by omega)) (az (aR hk) (az (by simp [aA,hk]:aA s.GP k=some s.GP[k]) rfl))) (by cases h:(s.GP[k].Hc==1) <;> simp_all)
 ·rw [if_neg hn,decide_eq_false hn,Bool.false_and]
  exact aI (s:=false) rfl rfl
def sa (s:ai) (ids:List Int) (i:Nat):Bool:=(i==0||decide (ids.getD (i-1) 0<ids.getD i 0))&&wt s (ids.getD i 0)
def rB (s:ai) (ids:List Int):Bool:=decide (1≤ids.length∧ids.length≤4)&&decide (∀ i,i<ids.length→sa s ids i=true)
theorem Dc (s:ai) (hid:Ids s) (hl:s.GP.length<4294967296) (ids:List Int):fC s ids=some (rB s ids):=by
 unfold fC rB
 by_cases h1:ids.length<1
 ·rw [decide_eq_false (by omega:¬ (1≤ids.length∧ids.length≤4)),Bool.false_and]
  exact aI (s:=true) (ar (decide_eq_true (by omega)) rfl) rfl
 ·by_cases h4:4<ids.length
  ·rw [decide_eq_false (by omega:¬ (1≤ids.length∧ids.length≤4)),Bool.false_and]
   exact aI (s:=true) (ap (decide_eq_false (by omega)) (bJ (decide_eq_true (by omega)))) rfl
  ·rw [decide_eq_true (by omega:1≤ids.length∧ids.length≤4),Bool.true_and]
   refine aI (s:=false) (ap (decide_eq_false (by omega)) (bJ (decide_eq_false (by omega)))) (ap rfl ?_)
   have rnd:∀ i,i<ids.length→Gu s ids (i:Int)=some (if sa s ids i then .inl ((i+1:Nat):Int) else .inr (.inr false)):=by
    intro i hi
    have hg:aA ids i=some ids[i]:=by simp [aA,hi]
    have hd:ids.getD i 0=ids[i]:=by simp [List.getD,hi]
    refine ar (decide_eq_true (by omega)) (az (aR hi) (az hg (aI (s := !sa s ids i) ?_ ?_)))
    ·cases i with
     | zero=>exact ap rfl (az (rq s hid hl _) (by simp only [sa,hd,beq_self_eq_true,Bool.true_or,Bool.true_and]))
     | succ k =>
      have hk:k<ids.length:=by omega
      have hw:IntKind.i64.wrap (((k+1:Nat):Int)-1)=(k:Int):=by rw [ed (by omega) (by omega)]; omega
      have hd':ids.getD (k+1-1) 0=ids[k]:=by simp [List.getD,hk]
      refine ar (decide_eq_true (by omega)) (az (congrArg some hw) (az (aR hk) (az (by simp [aA,hk]:aA ids k=some ids[k]) ?_)))
      have e0:(k+1==0)=false:=rfl
      simp only [sa,hd,hd',e0,Bool.false_or]
      by_cases hle:ids[k+1]≤ids[k]
      ·rw [decide_eq_false (by omega:¬ ids[k]<ids[k+1]),Bool.false_and]
       exact ar (decide_eq_true hle) rfl
      ·rw [decide_eq_true (by omega:ids[k]<ids[k+1]),Bool.true_and]
       exact ap (decide_eq_false hle) (az (rq s hid hl _) rfl)
    ·cases sa s ids i
     ·rfl
     ·exact ap rfl (az (congrArg some (aX (n:=i) (by omega))) rfl)
   have hrun:=dS (R:=Bool) (sa s ids) ids.length false (fuel:=cq) (by simp only [cq]; omega) (fun i hi hp=>by have:=rnd i hi; rw [hp] at this; exact this) (fun i hi hp=>by have:=rnd i hi; rw [hp] at this; exact this) (ap (decide_eq_false (by omega:¬ ((ids.length:Nat):Int)<(ids.length:Int))) rfl)
   by_cases ha:∀ i,i<ids.length→sa s ids i=true
   ·rw [if_pos ha] at hrun
    rw [decide_eq_true ha]
    exact aI hrun rfl
   ·rw [if_neg ha] at hrun
    rw [decide_eq_false ha]
    exact kK hrun rfl
set_option maxRecDepth 10000
def py (s:ai) (n:Int):Bool:=decide (1≤n∧n≤65535) && !decide (n∈s.GK)
def xY (s:ai) (r:T_Rec):Bool:=decide (1≤r.GI.length∧r.GI.length≤48)&&(decide (r.GV=0)||decide (s.Of=r.GU∧r.GV=(s.GZ.length:Int)∧s.GZ.length+r.GI.length≤5000))
def pC (s:ai) (r:T_Rec):Bool:=er r&&(
 if r.GQ=1 then decide (s.GP.length<60∧r.Id=(s.GP.length:Int)+1∧(r.GW=0∨r.GW=1))&&mv r.GS
 else if r.GQ=2 then decide (r.GU=s.GY+1)&&rB s r.GO
 else if r.GQ=3 then decide (1≤r.GU∧r.GU≤s.GY∧r.GU ∉ s.Hb)
 else if r.GQ=4 then wt s r.Id
 else if r.GQ=5 then py s r.GU&&xY s r
 else if r.GQ=6 then py s r.GU
 else false)
def f2 (ids:List Int) (n:Int) (x:ae):ae:=if x.Id∈ids then ⟨x.Id,x.GS,2,n⟩ else x
def f3 (n:Int) (x:ae):ae:=if x.GX=n then ⟨x.Id,x.GS,3,x.GX⟩ else x
def f4 (n:Int) (x:ae):ae:=if x.Id=n then ⟨x.Id,x.GS,4,x.GX⟩ else x
def iS (s:ai) (r:T_Rec):ai :=
 if r.GQ=1 then ⟨s.GP++[⟨r.Id,r.GS,if r.GW=0 then 3 else 1,0⟩],s.GY,s.Hb,s.GZ,s.Of,s.GK⟩
 else if r.GQ=2 then ⟨s.GP.map (f2 r.GO r.GU),r.GU,s.Hb,s.GZ,s.Of,s.GK⟩
 else if r.GQ=3 then ⟨s.GP.map (f3 r.GU),s.GY,s.Hb++[r.GU],s.GZ,s.Of,s.GK⟩
 else if r.GQ=4 then ⟨s.GP.map (f4 r.Id),s.GY,s.Hb,s.GZ,s.Of,s.GK⟩
 else if r.GQ=5 then ⟨s.GP,s.GY,s.Hb,if r.GV=0 then r.GI else s.GZ++r.GI,if r.GV=0 then r.GU else s.Of,s.GK⟩
 else ⟨s.GP,s.GY,s.Hb,if s.Of=r.GU then [] else s.GZ,if s.Of=r.GU then-1 else s.Of,jC s.GK r.GU⟩
def tM (r:T_Rec):Prop:=LR r∧jF r.GS.GH
structure sD (n:Nat) (s:ai):Prop where
 hn:n<1000000
 len:s.GP.length≤n
 ids:Ids s
 lm:∀ x∈s.GP,LM x.GS
 packs:0≤s.GY∧s.GY≤(n:Int)
 sent:s.Hb.length≤n
 part:s.GZ.length≤5000
 done:s.GK.length≤n
 srt:Bv s.GK
theorem sV {n:Nat} {s:ai} (hs:sD n s) (k:Int):ir s k=some (py s k):=by
 have:=hs.hn; have:=hs.done
 unfold ir py
 by_cases h1:1≤k
 ·by_cases h2:k≤65535
  ·rw [(decide_eq_true ⟨h1,h2⟩:decide (1≤k∧k≤65535)=true),Bool.true_and]
   exact aI (ar (decide_eq_true h1) (ar (decide_eq_true h2) (az (iB _ _ (by omega)) rfl))) rfl
  ·rw [(decide_eq_false (fun h=>h2 h.2):decide (1≤k∧k≤65535)=false),Bool.false_and]
   exact aI (ar (decide_eq_true h1) (ap (decide_eq_false h2) rfl)) rfl
 ·rw [(decide_eq_false (fun h=>h1 h.1):decide (1≤k∧k≤65535)=false),Bool.false_and]
  exact aI (ap (decide_eq_false h1) rfl) rfl
theorem zV {n:Nat} {s:ai} {r:T_Rec} (hs:sD n s) (hr:tM r):eL s r=some (xY s r):=by
 have h5:=hs.part; have hd:=hr.1.1
 unfold eL xY
 by_cases h1:r.GI.length<1
 ·rw [decide_eq_false (by omega:¬ (1≤r.GI.length∧r.GI.length≤48)),Bool.false_and]
  exact aI (s:=true) (ar (decide_eq_true (by omega)) rfl) rfl
 by_cases h2:48<r.GI.length
 ·rw [decide_eq_false (by omega:¬ (1≤r.GI.length∧r.GI.length≤48)),Bool.false_and]
  exact aI (s:=true) (ap (decide_eq_false (by omega)) (bJ (decide_eq_true (by omega)))) rfl
 rw [decide_eq_true (by omega:1≤r.GI.length∧r.GI.length≤48),Bool.true_and]
 refine aI (s:=false) (ap (decide_eq_false (by omega)) (bJ (decide_eq_false (by omega)))) (ap rfl ?_)
 by_cases ho:r.GV=0
 ·rw [(decide_eq_true ho:decide (r.GV=0)=true),Bool.true_or]
  exact ar (beq_iff_eq.2 ho) rfl
 rw [(decide_eq_false ho:decide (r.GV=0)=false),Bool.false_or]
 refine ap (beq_eq_false_iff_ne.2 ho) (aI (s:=decide (s.Of=r.GU∧r.GV=(s.GZ.length:Int)∧s.GZ.length+r.GI.length≤5000)) ?_ rfl)
 by_cases a:s.Of=r.GU
 ·by_cases b:r.GV=(s.GZ.length:Int)
  ·have hw:=rl (a:=s.GZ.length) (b:=r.GI.length) (by omega)
   refine ar (beq_iff_eq.2 a) (ar (beq_iff_eq.2 b) (az hw (bJ ?_)))
   by_cases c:s.GZ.length+r.GI.length≤5000
   ·rw [(decide_eq_true ⟨a,b,c⟩:decide (s.Of=r.GU∧r.GV=(s.GZ.length:Int)∧s.GZ.length+r.GI.length≤5000)=true)]; exact decide_eq_true (by omega)
   ·rw [(decide_eq_false (fun h=>c h.2.2):decide (s.Of=r.GU∧r.GV=(s.GZ.length:Int)∧s.GZ.length+r.GI.length≤5000)=false)]; exact decide_eq_false (by omega)
  ·rw [(decide_eq_false (fun h=>b h.2.1):decide (s.Of=r.GU∧r.GV=(s.GZ.length:Int)∧s.GZ.length+r.GI.length≤5000)=false)]
   exact ar (beq_iff_eq.2 a) (ap (beq_eq_false_iff_ne.2 b) rfl)
 ·rw [(decide_eq_false (fun h=>a h.1):decide (s.Of=r.GU∧r.GV=(s.GZ.length:Int)∧s.GZ.length+r.GI.length≤5000)=false)]
  exact ap (beq_eq_false_iff_ne.2 a) rfl
theorem qe {n:Nat} {s:ai} {r:T_Rec} (hs:sD n s) (hr:tM r):fA s r=some (pC s r):=by
 have hl:=hs.len; have hn:=hs.hn; have hp:=hs.packs; have hse:=hs.sent
 obtain ⟨q,hq⟩:=tP r
 have he:dF q=some (er r):=by rw [← Cj r]; unfold CY; rw [hq]; rfl
 unfold fA pC
 refine az hq (az he ?_)
 cases er r
 ·exact ar rfl rfl
 rw [Bool.true_and]
 refine ap rfl ?_
 by_cases k1:r.GQ=1
 ·rw [if_pos k1]
  refine ar (beq_iff_eq.2 k1) ?_
  by_cases a:s.GP.length<60
  ·by_cases b:r.Id=(s.GP.length:Int)+1
   ·have hw:IntKind.i64.wrap ((s.GP.length:Int)+1)=(s.GP.length:Int)+1:=ed (by omega) (by omega)
    by_cases c:r.GW=0
    ·rw [(decide_eq_true ⟨a,b,.inl c⟩:decide (s.GP.length<60∧r.Id=(s.GP.length:Int)+1∧(r.GW=0∨r.GW=1))=true),Bool.true_and]
     exact aI (ar (decide_eq_true (by omega)) (az (congrArg some hw) (ar (beq_iff_eq.2 b) (ar (beq_iff_eq.2 c) (az (zw hr.1.2.2 hr.2) rfl))))) rfl
    ·by_cases d:r.GW=1
     ·rw [(decide_eq_true ⟨a,b,.inr d⟩:decide (s.GP.length<60∧r.Id=(s.GP.length:Int)+1∧(r.GW=0∨r.GW=1))=true),Bool.true_and]
      exact aI (ar (decide_eq_true (by omega)) (az (congrArg some hw) (ar (beq_iff_eq.2 b) (ap (beq_eq_false_iff_ne.2 c) (ar (beq_iff_eq.2 d) (az (zw hr.1.2.2 hr.2) rfl)))))) rfl
     ·rw [(decide_eq_false (fun h=>h.2.2.elim c d):decide (s.GP.length<60∧r.Id=(s.GP.length:Int)+1∧(r.GW=0∨r.GW=1))=false),Bool.false_and]
      exact aI (ar (decide_eq_true (by omega)) (az (congrArg some hw) (ar (beq_iff_eq.2 b) (ap (beq_eq_false_iff_ne.2 c) (ap (beq_eq_false_iff_ne.2 d) rfl))))) rfl
   ·have hw:IntKind.i64.wrap ((s.GP.length:Int)+1)=(s.GP.length:Int)+1:=ed (by omega) (by omega)
    rw [(decide_eq_false (fun h=>b h.2.1):decide (s.GP.length<60∧r.Id=(s.GP.length:Int)+1∧(r.GW=0∨r.GW=1))=false),Bool.false_and]
    exact aI (ar (decide_eq_true (by omega)) (az (congrArg some hw) (ap (beq_eq_false_iff_ne.2 b) rfl))) rfl
  ·rw [(decide_eq_false (fun h=>a h.1):decide (s.GP.length<60∧r.Id=(s.GP.length:Int)+1∧(r.GW=0∨r.GW=1))=false),Bool.false_and]
   exact aI (ap (decide_eq_false (by omega)) rfl) rfl
 rw [if_neg k1]
 refine ap (beq_eq_false_iff_ne.2 k1) ?_
 by_cases k2:r.GQ=2
 ·rw [if_pos k2]
  refine ar (beq_iff_eq.2 k2) ?_
  have hw:IntKind.i64.wrap (s.GY+1)=s.GY+1:=ed (by omega) (by omega)
  by_cases a:r.GU=s.GY+1
  ·rw [(decide_eq_true a:decide (r.GU=s.GY+1)=true),Bool.true_and]
   exact aI (az (congrArg some hw) (ar (beq_iff_eq.2 a) (az (Dc s hs.ids (by omega) _) rfl))) rfl
  ·rw [(decide_eq_false a:decide (r.GU=s.GY+1)=false),Bool.false_and]
   exact aI (az (congrArg some hw) (ap (beq_eq_false_iff_ne.2 a) rfl)) rfl
 rw [if_neg k2]
 refine ap (beq_eq_false_iff_ne.2 k2) ?_
 by_cases k3:r.GQ=3
 ·rw [if_pos k3]
  refine ar (beq_iff_eq.2 k3) ?_
  by_cases a:1≤r.GU
  ·by_cases b:r.GU≤s.GY
   ·refine aI (s := !decide (r.GU∈s.Hb)) (ar (decide_eq_true a) (ar (decide_eq_true b) (az (iB _ _ (by omega)) rfl))) ?_
    by_cases c:r.GU∈s.Hb
    ·rw [(decide_eq_true c:decide (r.GU∈s.Hb)=true),(decide_eq_false (fun h=>h.2.2 c):decide (1≤r.GU∧r.GU≤s.GY∧r.GU ∉ s.Hb)=false)]; rfl
    ·rw [(decide_eq_false c:decide (r.GU∈s.Hb)=false),(decide_eq_true ⟨a,b,c⟩:decide (1≤r.GU∧r.GU≤s.GY∧r.GU ∉ s.Hb)=true)]; rfl
   ·rw [(decide_eq_false (fun h=>b h.2.1):decide (1≤r.GU∧r.GU≤s.GY∧r.GU ∉ s.Hb)=false)]
    exact aI (ar (decide_eq_true a) (ap (decide_eq_false b) rfl)) rfl
  ·rw [(decide_eq_false (fun h=>a h.1):decide (1≤r.GU∧r.GU≤s.GY∧r.GU ∉ s.Hb)=false)]
   exact aI (ap (decide_eq_false a) rfl) rfl
 rw [if_neg k3]
 refine ap (beq_eq_false_iff_ne.2 k3) ?_
 by_cases k4:r.GQ=4
 ·rw [if_pos k4]
  exact ar (beq_iff_eq.2 k4) (az (rq s hs.ids (by omega) _) rfl)
 rw [if_neg k4]
 refine ap (beq_eq_false_iff_ne.2 k4) ?_
 by_cases k5:r.GQ=5
 ·rw [if_pos k5]
  refine ar (beq_iff_eq.2 k5) ?_
  cases ho:py s r.GU
  ·exact aI (s:=false) (az (sV hs _) (ap ho rfl)) rfl
  ·exact aI (s:=xY s r) (az (sV hs _) (ar ho (az (zV hs hr) rfl))) rfl
 rw [if_neg k5]
 refine ap (beq_eq_false_iff_ne.2 k5) ?_
 by_cases k6:r.GQ=6
 ·rw [if_pos k6]
  exact ar (beq_iff_eq.2 k6) (az (sV hs _) rfl)
 rw [if_neg k6]
 exact ap (beq_eq_false_iff_ne.2 k6) rfl
set_option maxRecDepth 10000
def qN {A:Type} (f:A→A) (k:Nat) (l:List A):List A:=(l.take k).map f++l.drop k
theorem kx {A:Type} (f:A→A) (k:Nat) (l:List A):(qN f k l).length=l.length:=by simp [qN]; omega
theorem tI {A:Type} (f:A→A) {k:Nat} {l:List A} (h:k<l.length):aA (qN f k l) k=some l[k]:=by
 simp only [aA,qN]
 rw [List.getElem?_append_right (by simp; omega)]
 simp [Nat.min_eq_left (Nat.le_of_lt h),h]
theorem uK {A:Type} (f:A→A) {k:Nat} {l:List A} (h:k<l.length):qN f (k+1) l=(l.take k).map f++f l[k]::l.drop (k+1):=by
 simp only [qN]
 rw [ka l k h,List.map_append,List.append_assoc]
 rfl
theorem tt {A:Type} (f:A→A) {k:Nat} {l:List A} (h:k<l.length) (x:A) (hx:x=f l[k]):(qN f k l).set k x=qN f (k+1) l:=by
 subst hx
 rw [uK f h]
 simp only [qN]
 rw [List.set_append_right _ _ (by simp; omega)]
 congr 1
 rw [show k-((l.take k).map f).length=0 from by simp; omega,List.drop_eq_getElem_cons h]
 rfl
theorem ni {A:Type} (f:A→A) {k:Nat} {l:List A} (h:k<l.length) (hx:f l[k]=l[k]):qN f k l=qN f (k+1) l:=by
 rw [uK f h,hx]
 simp only [qN]
 rw [List.drop_eq_getElem_cons h]
theorem sQ {A:Type} (f:A→A) (l:List A):qN f l.length l=l.map f:=by simp [qN]
def Gi (s:ai) (p_r:T_Rec):((List ae)×Int)→Option (((List ae)×Int)⊕(((List ae))⊕(((List ae)×Int×(List Int)×(List Int)×Int×(List Int))⊕ai))):=(fun ((s158,s159):(List ae)×Int) =>
 cond ((decide (s159<(s.GP.length:Int))))
  (aF (S:=(List ae)) (A:=(((List ae)×Int)⊕(((List ae))⊕(((List ae)×Int×(List Int)×(List Int)×Int×(List Int))⊕ai))))
   ((bL s159 s158.length).bind fun v12 =>
   (aA s158 v12).bind fun v13 =>
   (bB p_r.GO v13.Id).bind fun v14 =>
   cond (v14)
    ((bL s159 s158.length).bind fun v16 =>
    (aA s158 v16).bind fun v17 =>
    (some (s158.set v16 ((ae.mk v17.Id ((T_Mail.mk (T_Path.mk v17.GS.GM.GT v17.GS.GM.GR v17.GS.GM.GJ) v17.GS.To v17.GS.GH v17.GS.Ha v17.GS.GN v17.GS.At)) 2 v17.GX)))).bind fun v18 =>
    (bL s159 v18.length).bind fun v19 =>
    (aA v18 v19).bind fun v20 =>
    (some (v18.set v19 ((ae.mk v20.Id ((T_Mail.mk (T_Path.mk v20.GS.GM.GT v20.GS.GM.GR v20.GS.GM.GJ) v20.GS.To v20.GS.GH v20.GS.Ha v20.GS.GN v20.GS.At)) v20.Hc p_r.GU)))).bind fun v21 =>
    some (.inl v21))
    (some (.inl s158)))
   (fun (s176:(List ae)) =>
    (some (IntKind.i64.wrap (s159+1))).bind fun v27 =>
    some (.inl (s176,v27))) some)
  (some (.inr (.inl s158))))
def GB (s:ai) (p_r:T_Rec):((List ae)×Int)→Option (((List ae)×Int)⊕(((List ae))⊕(((List ae)×Int×(List Int)×(List Int)×Int×(List Int))⊕ai))):=(fun ((s198,s199):(List ae)×Int) =>
 cond ((decide (s199<(s.GP.length:Int))))
  (aF (S:=(List ae)) (A:=(((List ae)×Int)⊕(((List ae))⊕(((List ae)×Int×(List Int)×(List Int)×Int×(List Int))⊕ai))))
   ((bL s199 s198.length).bind fun v62 =>
   (aA s198 v62).bind fun v63 =>
   cond ((v63.GX==p_r.GU))
    ((bL s199 s198.length).bind fun v65 =>
    (aA s198 v65).bind fun v66 =>
    (some (s198.set v65 ((ae.mk v66.Id ((T_Mail.mk (T_Path.mk v66.GS.GM.GT v66.GS.GM.GR v66.GS.GM.GJ) v66.GS.To v66.GS.GH v66.GS.Ha v66.GS.GN v66.GS.At)) 3 v66.GX)))).bind fun v67 =>
    some (.inl v67))
    (some (.inl s198)))
   (fun (s216:(List ae)) =>
    (some (IntKind.i64.wrap (s199+1))).bind fun v73 =>
    some (.inl (s216,v73))) some)
  (some (.inr (.inl s198))))
theorem DW (s:ai) (r:T_Rec) (hl:s.GP.length<1000000) (hi:r.GO.length<1000000):bm (Gi s r) cq (s.GP,0)=some (.inl (s.GP.map (f2 r.GO r.GU))):=by
 refine cE (fun k=>(qN (f2 r.GO r.GU) k s.GP,(k:Int))) s.GP.length cq rfl (by simp only [cq]; omega) (fun k hk => ?_) ?_
 ·have hx:bL (k:Int) (qN (f2 r.GO r.GU) k s.GP).length=some k:=aR (by rw [kx]; exact hk)
  have hg:=tI (f2 r.GO r.GU) hk
  refine ar (decide_eq_true (by omega)) (aI (s:=qN (f2 r.GO r.GU) (k+1) s.GP) (az hx (az hg (az (iB _ _ (by omega)) ?_))) (az (congrArg some (aX (n:=k) (by omega))) rfl))
  by_cases hm:s.GP[k].Id∈r.GO
  ·refine ar (decide_eq_true hm) (az hx (az hg (az rfl ?_)))
   refine az (x:=k) (aR (by rw [List.length_set,kx]; exact hk)) (az (x:=⟨s.GP[k].Id,s.GP[k].GS,2,s.GP[k].GX⟩) ?_ (az rfl ?_))
   ·simp only [aA]
    rw [List.getElem?_set_self (by rw [kx]; exact hk)]
   ·rw [List.set_set,tt (f2 r.GO r.GU) hk _ (by simp only [f2,if_pos hm])]
  ·exact ap (decide_eq_false hm) (by rw [ni (f2 r.GO r.GU) hk (by simp only [f2,if_neg hm])])
 ·exact ap (decide_eq_false (by omega)) (by simp only [sQ])
theorem Er (s:ai) (r:T_Rec) (hl:s.GP.length<1000000):bm (GB s r) cq (s.GP,0)=some (.inl (s.GP.map (f3 r.GU))):=by
 refine cE (fun k=>(qN (f3 r.GU) k s.GP,(k:Int))) s.GP.length cq rfl (by simp only [cq]; omega) (fun k hk => ?_) ?_
 ·have hx:bL (k:Int) (qN (f3 r.GU) k s.GP).length=some k:=aR (by rw [kx]; exact hk)
  have hg:=tI (f3 r.GU) hk
  refine ar (decide_eq_true (by omega)) (aI (s:=qN (f3 r.GU) (k+1) s.GP) (az hx (az hg ?_)) (az (congrArg some (aX (n:=k) (by omega))) rfl))
  by_cases hm:s.GP[k].GX=r.GU
  ·refine ar (beq_iff_eq.2 hm) (az hx (az hg (az rfl ?_)))
   rw [tt (f3 r.GU) hk _ (by simp only [f3,if_pos hm])]
  ·exact ap (beq_eq_false_iff_ne.2 hm) (by rw [ni (f3 r.GU) hk (by simp only [f3,if_neg hm])])
 ·exact ap (decide_eq_false (by omega)) (by simp only [sQ])
theorem Ct {s:ai} {n:Int} (h:wt s n=true):∃ (k:Nat) (hk:k<s.GP.length),n=(k:Int)+1∧s.GP[k].Hc=1:=by
 simp only [wt,Bool.and_eq_true,decide_eq_true_eq] at h
 obtain ⟨⟨h1,h2⟩,h3⟩:=h
 refine ⟨(n-1).toNat,by omega,by omega,?_⟩
 rw [List.getElem?_eq_getElem (by omega)] at h3
 simpa using h3
theorem Ex {s:ai} (hid:Ids s) {k:Nat} (hk:k<s.GP.length):s.GP.set k ⟨s.GP[k].Id,s.GP[k].GS,4,s.GP[k].GX⟩=s.GP.map (f4 ((k:Int)+1)):=by
 refine List.ext_getElem (by simp) fun i h1 h2 => ?_
 have hi:i<s.GP.length:=by simpa using h2
 rw [List.getElem_map,List.getElem_set]
 by_cases h:k=i
 ·subst h
  rw [if_pos rfl]
  simp only [f4,if_pos (hid k hk)]
 ·rw [if_neg h]
  have:=hid i hi
  simp only [f4]
  rw [if_neg (by omega)]
theorem uL {n:Nat} {s:ai} {r:T_Rec} (hs:sD n s) (hr:tM r) (ho:pC s r=true):fF s r=some (iS s r):=by
 have hl:=hs.len; have hn:=hs.hn; have hp:=hs.part; have hse:=hs.sent; have hd:=hs.done
 have hd6:=hr.1.1; have hi6:=hr.1.2.1
 unfold fF iS
 unfold pC at ho
 rw [Bool.and_eq_true] at ho
 replace ho:=ho.2
 by_cases k1:r.GQ=1
 ·rw [if_pos k1]
  have hA:∀ st:Int,((fD r.GS).bind fun v8=>(dO 144 s.GP [(ae.mk r.Id v8 st 0)]).bind fun v9=>some (.inl (v9,s.GY,s.Hb,s.GZ,s.Of,s.GK):_⊕ai))=some (.inl (s.GP++[⟨r.Id,r.GS,st,0⟩],s.GY,s.Hb,s.GZ,s.Of,s.GK)):=fun st =>
   az (mu hr.1.2.2) (az (fw (by simp only [List.length_cons,List.length_nil]; omega) (by simp only [List.length_cons,List.length_nil]; omega)) rfl)
  by_cases a:r.GW=0
  ·rw [if_pos a]
   exact aI (ar (beq_iff_eq.2 k1) (aI (s:=3) (ar (beq_iff_eq.2 a) rfl) (hA 3))) rfl
  ·rw [if_neg a]
   exact aI (ar (beq_iff_eq.2 k1) (aI (s:=1) (ap (beq_eq_false_iff_ne.2 a) rfl) (hA 1))) rfl
 rw [if_neg k1] at ho ⊢
 by_cases k2:r.GQ=2
 ·rw [if_pos k2]
  exact aI (ap (beq_eq_false_iff_ne.2 k1) (ar (beq_iff_eq.2 k2) (aI (DW s r (by omega) (by omega)) rfl))) rfl
 rw [if_neg k2] at ho ⊢
 by_cases k3:r.GQ=3
 ·rw [if_pos k3]
  refine aI (ap (beq_eq_false_iff_ne.2 k1) (ap (beq_eq_false_iff_ne.2 k2) (ar (beq_iff_eq.2 k3) (aI (Er s r (by omega)) (az (fw ?_ ?_) rfl))))) rfl
  ·simp only [List.length_cons,List.length_nil]; omega
  ·simp only [List.length_cons,List.length_nil]; omega
 rw [if_neg k3] at ho ⊢
 by_cases k4:r.GQ=4
 ·rw [if_pos k4] at ho ⊢
  obtain ⟨k,hk,he,_⟩:=Ct ho
  have hf:=wV s hs.ids (by omega) r.Id
  rw [if_pos (by omega),he,Int.add_sub_cancel] at hf
  rw [he,← Ex hs.ids hk]
  exact aI (ap (beq_eq_false_iff_ne.2 k1) (ap (beq_eq_false_iff_ne.2 k2) (ap (beq_eq_false_iff_ne.2 k3) (ar (beq_iff_eq.2 k4) (az (he ▸ hf) (az (aR hk) (az (by simp [aA,hk]:aA s.GP k=some s.GP[k]) (az rfl rfl)))))))) rfl
 rw [if_neg k4] at ho ⊢
 by_cases k5:r.GQ=5
 ·rw [if_pos k5] at ho ⊢
  by_cases a:r.GV=0
  ·rw [if_pos a,if_pos a]
   exact aI (ap (beq_eq_false_iff_ne.2 k1) (ap (beq_eq_false_iff_ne.2 k2) (ap (beq_eq_false_iff_ne.2 k3) (ap (beq_eq_false_iff_ne.2 k4) (ar (beq_iff_eq.2 k5) (aI (ar (beq_iff_eq.2 a) rfl) (az (eI (by omega) (by omega)) rfl))))))) rfl
  ·rw [if_neg a,if_neg a]
   exact aI (ap (beq_eq_false_iff_ne.2 k1) (ap (beq_eq_false_iff_ne.2 k2) (ap (beq_eq_false_iff_ne.2 k3) (ap (beq_eq_false_iff_ne.2 k4) (ar (beq_iff_eq.2 k5) (aI (ap (beq_eq_false_iff_ne.2 a) rfl) (az (fw (by omega) (by omega)) rfl))))))) rfl
 rw [if_neg k5] at ho ⊢
 by_cases k6:r.GQ=6
 ·by_cases a:s.Of=r.GU
  ·rw [if_pos a,if_pos a]
   exact aI (ap (beq_eq_false_iff_ne.2 k1) (ap (beq_eq_false_iff_ne.2 k2) (ap (beq_eq_false_iff_ne.2 k3) (ap (beq_eq_false_iff_ne.2 k4) (ap (beq_eq_false_iff_ne.2 k5) (ar (beq_iff_eq.2 k6) ((tW s.GK r.GU hs.srt (by omega) _).trans (ar (beq_iff_eq.2 a) rfl)))))))) rfl
  ·rw [if_neg a,if_neg a]
   exact aI (ap (beq_eq_false_iff_ne.2 k1) (ap (beq_eq_false_iff_ne.2 k2) (ap (beq_eq_false_iff_ne.2 k3) (ap (beq_eq_false_iff_ne.2 k4) (ap (beq_eq_false_iff_ne.2 k5) (ar (beq_iff_eq.2 k6) ((tW s.GK r.GU hs.srt (by omega) _).trans (ap (beq_eq_false_iff_ne.2 a) rfl)))))))) rfl
 ·rw [if_neg k6] at ho; cases ho
theorem mH {s:ai} {r:T_Rec} (h:pC s r=true):(r.GQ=1∧s.GP.length<60∧r.Id=(s.GP.length:Int)+1∧(r.GW=0∨r.GW=1))∨(r.GQ=2∧r.GU=s.GY+1∧rB s r.GO=true)∨(r.GQ=3∧1≤r.GU∧r.GU≤s.GY∧r.GU ∉ s.Hb)∨(r.GQ=4∧wt s r.Id=true)∨(r.GQ=5∧py s r.GU=true∧xY s r=true)∨(r.GQ=6∧py s r.GU=true):=by
 unfold pC at h
 rw [Bool.and_eq_true] at h
 replace h:=h.2
 by_cases k1:r.GQ=1
 ·rw [if_pos k1,Bool.and_eq_true] at h; exact .inl ⟨k1,of_decide_eq_true h.1⟩
 rw [if_neg k1] at h
 by_cases k2:r.GQ=2
 ·rw [if_pos k2,Bool.and_eq_true] at h; exact .inr (.inl ⟨k2,of_decide_eq_true h.1,h.2⟩)
 rw [if_neg k2] at h
 by_cases k3:r.GQ=3
 ·rw [if_pos k3] at h; exact .inr (.inr (.inl ⟨k3,of_decide_eq_true h⟩))
 rw [if_neg k3] at h
 by_cases k4:r.GQ=4
 ·rw [if_pos k4] at h; exact .inr (.inr (.inr (.inl ⟨k4,h⟩)))
 rw [if_neg k4] at h
 by_cases k5:r.GQ=5
 ·rw [if_pos k5,Bool.and_eq_true] at h; exact .inr (.inr (.inr (.inr (.inl ⟨k5,h⟩))))
 rw [if_neg k5] at h
 by_cases k6:r.GQ=6
 ·rw [if_pos k6] at h; exact .inr (.inr (.inr (.inr (.inr ⟨k6,h⟩))))
 rw [if_neg k6] at h; cases h
theorem xg {s:ai} {r:T_Rec} (h:r.GQ=1):iS s r=⟨s.GP++[⟨r.Id,r.GS,if r.GW=0 then 3 else 1,0⟩],s.GY,s.Hb,s.GZ,s.Of,s.GK⟩:=by unfold iS; rw [if_pos h]
theorem xj {s:ai} {r:T_Rec} (h:r.GQ=2):iS s r=⟨s.GP.map (f2 r.GO r.GU),r.GU,s.Hb,s.GZ,s.Of,s.GK⟩:=by unfold iS; rw [if_neg (by omega),if_pos h]
theorem xp {s:ai} {r:T_Rec} (h:r.GQ=3):iS s r=⟨s.GP.map (f3 r.GU),s.GY,s.Hb++[r.GU],s.GZ,s.Of,s.GK⟩:=by unfold iS; rw [if_neg (by omega),if_neg (by omega),if_pos h]
theorem xU {s:ai} {r:T_Rec} (h:r.GQ=4):iS s r=⟨s.GP.map (f4 r.Id),s.GY,s.Hb,s.GZ,s.Of,s.GK⟩:=by unfold iS; rw [if_neg (by omega),if_neg (by omega),if_neg (by omega),if_pos h]
theorem vh {s:ai} {r:T_Rec} (h:r.GQ=5):iS s r=⟨s.GP,s.GY,s.Hb,if r.GV=0 then r.GI else s.GZ++r.GI,if r.GV=0 then r.GU else s.Of,s.GK⟩:=by unfold iS; rw [if_neg (by omega),if_neg (by omega),if_neg (by omega),if_neg (by omega),if_pos h]
theorem xh {s:ai} {r:T_Rec} (h:r.GQ=6):iS s r=⟨s.GP,s.GY,s.Hb,if s.Of=r.GU then [] else s.GZ,if s.Of=r.GU then-1 else s.Of,jC s.GK r.GU⟩:=by unfold iS; rw [if_neg (by omega),if_neg (by omega),if_neg (by omega),if_neg (by omega),if_neg (by omega)]
theorem Ci (l:List Int) (n:Int) (x:ae):(f2 l n x).Id=x.Id∧(f2 l n x).GS=x.GS:=by unfold f2; split <;> exact ⟨rfl,rfl⟩
theorem Em (n:Int) (x:ae):(f3 n x).Id=x.Id∧(f3 n x).GS=x.GS:=by unfold f3; split <;> exact ⟨rfl,rfl⟩
theorem En (n:Int) (x:ae):(f4 n x).Id=x.Id∧(f4 n x).GS=x.GS:=by unfold f4; split <;> exact ⟨rfl,rfl⟩
theorem tG {s:ai} (f:ae→ae) (hf:∀ x,(f x).Id=x.Id∧(f x).GS=x.GS) (hi:Ids s) (hm:∀ x∈s.GP,LM x.GS) {p:Int} {a b d:List Int} {o:Int}:Ids ⟨s.GP.map f,p,a,b,o,d⟩∧∀ x∈s.GP.map f,LM x.GS:=by
 refine ⟨fun i h => ?_,fun x hx => ?_⟩
 ·have h':i<s.GP.length:=by simpa using h
  show ((s.GP.map f)[i]'h).Id=_
  rw [List.getElem_map,(hf _).1]
  exact hi i h'
 ·obtain ⟨y,hy,rfl⟩:=List.mem_map.1 hx
  rw [(hf y).2]; exact hm y hy
theorem pD {n:Nat} {s:ai} {r:T_Rec} (hn1:n+1<1000000) (hs:sD n s) (hr:tM r) (ho:pC s r=true):sD (n+1) (iS s r):=by
 have hl:=hs.len; have hp:=hs.part; have hse:=hs.sent; have hd:=hs.done; have hpk:=hs.packs
 rcases mH ho with ⟨k,a,b,c⟩ | ⟨k,a,b⟩ | ⟨k,a,b,c⟩ | ⟨k,a⟩ | ⟨k,a,b⟩ | ⟨k,a⟩
 ·rw [xg k]
  refine ⟨hn1,by simp; omega,fun i h => ?_,fun x hx => ?_,⟨hpk.1,(by omega:s.GY≤((n+1:Nat):Int))⟩,Nat.le_succ_of_le hse,hp,Nat.le_succ_of_le hd,hs.srt⟩
  ·have h':i<s.GP.length+1:=by simpa using h
   show ((s.GP++[_])[i]'h).Id=_
   by_cases hi:i<s.GP.length
   ·rw [List.getElem_append_left hi]; exact hs.ids i hi
   ·rw [List.getElem_append_right (by omega)]
    have e:i-s.GP.length=0:=by omega
    simp only [e,List.getElem_cons_zero]
    rw [b]; omega
  ·rcases List.mem_append.1 hx with h | h
   ·exact hs.lm x h
   ·rw [List.mem_singleton.1 h]; exact hr.1.2.2
 ·rw [xj k]
  have hm:=tG (f2 r.GO r.GU) (Ci _ _) hs.ids hs.lm (p:=r.GU) (a:=s.Hb) (b:=s.GZ) (o:=s.Of) (d:=s.GK)
  refine ⟨hn1,by simp; omega,hm.1,hm.2,⟨by show 0≤r.GU; omega,by show r.GU≤_; omega⟩,Nat.le_succ_of_le hse,hp,Nat.le_succ_of_le hd,hs.srt⟩
 ·rw [xp k]
  have hm:=tG (f3 r.GU) (Em _) hs.ids hs.lm (p:=s.GY) (a:=s.Hb++[r.GU]) (b:=s.GZ) (o:=s.Of) (d:=s.GK)
  refine ⟨hn1,by simp; omega,hm.1,hm.2,⟨hpk.1,(by omega:s.GY≤((n+1:Nat):Int))⟩,(by simp; omega),hp,Nat.le_succ_of_le hd,hs.srt⟩
 ·rw [xU k]
  have hm:=tG (f4 r.Id) (En _) hs.ids hs.lm (p:=s.GY) (a:=s.Hb) (b:=s.GZ) (o:=s.Of) (d:=s.GK)
  refine ⟨hn1,by simp; omega,hm.1,hm.2,⟨hpk.1,(by omega:s.GY≤((n+1:Nat):Int))⟩,Nat.le_succ_of_le hse,hp,Nat.le_succ_of_le hd,hs.srt⟩
 ·rw [vh k]
  refine ⟨hn1,Nat.le_succ_of_le hl,hs.ids,hs.lm,⟨hpk.1,(by omega:s.GY≤((n+1:Nat):Int))⟩,Nat.le_succ_of_le hse,?_,Nat.le_succ_of_le hd,hs.srt⟩
  simp only [xY,Bool.and_eq_true,Bool.or_eq_true,decide_eq_true_eq] at b
  show (if r.GV=0 then r.GI else s.GZ++r.GI).length≤5000
  split
  ·omega
  ·rw [List.length_append]; omega
 ·rw [xh k]
  have hnd:r.GU ∉ s.GK:=by
   simp only [py,Bool.and_eq_true,Bool.not_eq_true',decide_eq_false_iff_not] at a
   exact a.2
  refine ⟨hn1,Nat.le_succ_of_le hl,hs.ids,hs.lm,⟨hpk.1,(by omega:s.GY≤((n+1:Nat):Int))⟩,Nat.le_succ_of_le hse,?_,by show (jC s.GK r.GU).length≤_; rw [qp]; omega,va hs.srt hnd⟩
  show (if s.Of=r.GU then [] else s.GZ).length≤5000
  split
  ·simp
  ·exact hp
theorem pB:sD 0 ⟨[],0,[],[],-1,[]⟩:=⟨by omega,by simp,fun i h=>absurd h (by simp),by simp,⟨by simp,by simp⟩,by simp,by simp,by simp,List.Pairwise.nil⟩
def Gz (l:List ae):((List ae)×Int)→Option (((List ae)×Int)⊕(((List ae))⊕(List ae))):=(fun ((s10,s11):(List ae)×Int) =>
 cond ((decide (s11<(l.length:Int))))
  ((bL s11 l.length).bind fun v2 =>
  (aA l v2).bind fun v3 =>
  (jw ((ae.mk v3.Id ((T_Mail.mk (T_Path.mk v3.GS.GM.GT v3.GS.GM.GR v3.GS.GM.GJ) v3.GS.To v3.GS.GH v3.GS.Ha v3.GS.GN v3.GS.At)) v3.Hc v3.GX))).bind fun v4 =>
  (dO 144 s10 [(ae.mk v4.Id ((T_Mail.mk (T_Path.mk v4.GS.GM.GT v4.GS.GM.GR v4.GS.GM.GJ) v4.GS.To v4.GS.GH v4.GS.Ha v4.GS.GN v4.GS.At)) v4.Hc v4.GX)]).bind fun v5 =>
  (some (IntKind.i64.wrap (s11+1))).bind fun v6 =>
  some (.inl (v5,v6)))
  (some (.inr (.inl s10))))
theorem yo {n:Nat} {s:ai} (hs:sD n s):iD s=some s:=by
 have hl:=hs.len; have hn:=hs.hn; have hp:=hs.part; have hse:=hs.sent; have hd:=hs.done
 have he:bQ s.GP=some s.GP:=by
  unfold bQ
  refine aI (s:=s.GP) (cE (f:=Gz s.GP) (fun k=>(s.GP.take k,(k:Int))) s.GP.length cq rfl (by simp only [cq]; omega) (fun k hk => ?_) ?_) rfl
  ·refine ar (decide_eq_true (by omega)) (az (aR hk) (az (by simp [aA,hk]:aA s.GP k=some s.GP[k]) (az (x:=s.GP[k]) ?_ (az (fw ?_ ?_) (az (congrArg some (aX (n:=k) (by omega))) ?_)))))
   ·unfold jw
    exact az (mu (hs.lm _ (List.getElem_mem hk))) rfl
   ·simp; omega
   ·simp; omega
   ·rw [ka _ k hk]
  ·exact ap (decide_eq_false (by omega)) (by simp only [List.take_length])
 unfold iD
 refine az he (az (x:=s.Hb) ?_ (az (x:=s.GZ) ?_ (az (x:=s.GK) ?_ rfl)))
 ·exact az (eI (by omega) (by omega)) rfl
 ·exact az (eI (by omega) (by omega)) rfl
 ·exact az (eI (by omega) (by omega)) rfl
def sA:ai:=⟨[],0,[],[],0,[]⟩
theorem CB {n:Nat} {s:ai} {r:T_Rec} (hs:sD n s) (hr:tM r):jd s r=some (if pC s r=true then (iS s r,0) else (sA,5)):=by
 unfold jd
 refine az (qe hs hr) ?_
 cases ho:pC s r
 ·exact ar rfl rfl
 ·exact ap rfl (az (yo hs) (az (uL hs hr ho) rfl))
def bM:ai→List T_Rec→ai×Nat
 | s,[]=>(s,0)
 | s,r::l=>if pC s r=true then ((bM (iS s r) l).1,(bM (iS s r) l).2+1) else (s,0)
def ci:ai:=⟨[],0,[],[],-1,[]⟩
def Gk (l:List T_Rec):((List ae)×Int×(List Int)×(List Int)×Int×(List Int)×Int)→Option (((List ae)×Int×(List Int)×(List Int)×Int×(List Int)×Int)⊕(((List ae)×Int×(List Int)×(List Int)×Int×(List Int))⊕(ai×Int))):=(fun ((s18,s19,s20,s21,s22,s23,s24):(List ae)×Int×(List Int)×(List Int)×Int×(List Int)×Int) =>
 cond ((decide (s24<(l.length:Int))))
  ((bL s24 l.length).bind fun v3 =>
  (aA l v3).bind fun v4 =>
  (fA (ai.mk s18 s19 s20 s21 s22 s23) ((T_Rec.mk v4.GQ ((T_Mail.mk (T_Path.mk v4.GS.GM.GT v4.GS.GM.GR v4.GS.GM.GJ) v4.GS.To v4.GS.GH v4.GS.Ha v4.GS.GN v4.GS.At)) v4.Id v4.GO v4.GW v4.GU v4.GV v4.GI))).bind fun v5 =>
  cond ((!v5))
   (some (.inr (.inr (((ai.mk s18 s19 s20 s21 s22 s23),s24)))))
   ((fF (ai.mk s18 s19 s20 s21 s22 s23) ((T_Rec.mk v4.GQ ((T_Mail.mk (T_Path.mk v4.GS.GM.GT v4.GS.GM.GR v4.GS.GM.GJ) v4.GS.To v4.GS.GH v4.GS.Ha v4.GS.GN v4.GS.At)) v4.Id v4.GO v4.GW v4.GU v4.GV v4.GI))).bind fun v7 =>
   (some (IntKind.i64.wrap (s24+1))).bind fun v8 =>
   some (.inl (v7.GP,v7.GY,v7.Hb,v7.GZ,v7.Of,v7.GK,v8))))
  (some (.inr (.inl (s18,s19,s20,s21,s22,s23)))))
theorem rN (l:List T_Rec) (hr:∀ r∈l,tM r) (hl:l.length<999999):∀ (d i:Nat) (s:ai) (fuel:Nat),i+d=l.length→d<fuel→sD i s →
  aF (S:=((List ae)×Int×(List Int)×(List Int)×Int×(List Int))) (A:=(ai×Int)) (bm (Gk l) fuel (s.GP,s.GY,s.Hb,s.GZ,s.Of,s.GK,(i:Int))) (fun ((s27,s28,s29,s30,s31,s32):(List ae)×Int×(List Int)×(List Int)×Int×(List Int)) =>
   some (((ai.mk s27 s28 s29 s30 s31 s32),(l.length:Int)))) some=some ((bM s (l.drop i)).1,((i+(bM s (l.drop i)).2:Nat):Int))
 | d,i,s,0,_,hf,_=>absurd hf (Nat.not_lt_zero d)
 | 0,i,s,fuel+1,hd,_,hs=>by
  obtain rfl:i=l.length:=by omega
  rw [List.drop_length]
  exact aI (bS (ap (decide_eq_false (by omega)) rfl)) rfl
 | d+1,i,s,fuel+1,hd,hf,hs=>by
  have hi:i<l.length:=by omega
  have hri:=hr _ (List.getElem_mem hi)
  rw [List.drop_eq_getElem_cons hi]
  simp only [bM]
  by_cases ho:pC s l[i]=true
  ·rw [if_pos ho]
   have ih:=rN l hr hl d (i+1) (iS s l[i]) fuel (by omega) (by omega) (pD (by omega) hs hri ho)
   rw [show i+((bM (iS s l[i]) (l.drop (i+1))).2+1)=i+1+(bM (iS s l[i]) (l.drop (i+1))).2 from by omega,← ih,bY]
   refine ar (decide_eq_true (by omega)) (az (aR hi) (az (by simp [aA,hi]:aA l i=some l[i]) (az (qe hs hri) (ap (by rw [ho]; rfl) (az (uL hs hri ho) (az (congrArg some (aX (n:=i) (by omega))) rfl))))))
  ·rw [if_neg ho]
   have ho':(!pC s l[i])=true:=by simpa using ho
   exact kK (a:=(s,(i:Int))) (bS (ar (decide_eq_true (by omega)) (az (aR hi) (az (by simp [aA,hi]:aA l i=some l[i]) (az (qe hs hri) (ar ho' rfl)))))) rfl
theorem wQ (l:List T_Rec) (hr:∀ r∈l,tM r) (hl:l.length<999999):gg l=some ((bM ci l).1,((bM ci l).2:Int)):=by
 unfold gg
 have h:=rN l hr hl l.length 0 ci cq (by omega) (by simp only [cq]; omega) pB
 rw [List.drop_zero,Nat.zero_add] at h
 exact az rfl h
theorem mY:∀ (s:ai) (l:List T_Rec),(bM s l).2≤l.length
 | s,[]=>Nat.le_refl _
 | s,r::l=>by
  simp only [bM]
  split
  ·have:=mY (iS s r) l
   simp only [List.length_cons]; omega
  ·simp
theorem nG:∀ (l:List T_Rec) (s:ai) (i:Nat),i+l.length<1000000→(∀ r∈l,tM r)→sD i s→sD (i+(bM s l).2) (bM s l).1
 | [],s,i,_,_,hs=>hs
 | r::l,s,i,hl,hr,hs=>by
  simp only [bM]
  simp only [List.length_cons] at hl
  split
  ·rename_i ho
   have:=nG l (iS s r) (i+1) (by omega) (fun x hx=>hr x (List.mem_cons_of_mem _ hx)) (pD (by omega) hs (hr r List.mem_cons_self) ho)
   simpa [Nat.add_assoc,Nat.add_comm 1] using this
  ·exact hs
end Go.Abs.Sh
