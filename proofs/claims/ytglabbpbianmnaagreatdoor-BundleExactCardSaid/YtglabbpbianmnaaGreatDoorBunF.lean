import Derived.Test.YtglabbpbianmnaaGreatDoorSh
import Derived.KernelRfl
set_option linter.unusedVariables false
set_option linter.unusedSimpArgs false
set_option linter.unusedSectionVars false
namespace Go.Abs.Sh
set_option linter.unusedVariables false
theorem dO {n:Int} (h0 : -9223372036854775808≤n) (h1:n<9223372036854775808):IntKind.i64.wrap n=n:=by
 simp only [IntKind.wrap,IntKind.bits,IntKind.signed]
 have e:(2:Int) ^ 64=18446744073709551616:=by decide
 have e2:(2:Int) ^ (64-1)=9223372036854775808:=by decide
 simp only [e,e2,Bool.true_and,decide_eq_true_eq]
 split <;> omega
theorem bk {i n:Nat} (h:i<n):cl (i:Int) n=some i:=by simp [cl]; omega
theorem cA {A:Type} {l:List A} {i:Nat} (h:i<l.length):aQ l i=some l[i]:=by simp [aQ,h]
theorem ar {A R:Type} {m:Option A} {f:A→Option R} {x:A} {r:Option R} (h:m=some x) (h2:f x=r):m.bind f=r:=by subst h; exact h2
theorem aL {S A R:Type} {m:Option (S⊕A)} {k:S→Option R} {e:A→Option R} {s:S} {r:Option R} (h:m=some (.inl s)) (h2:k s=r):aI m k e=r:=by subst h; exact h2
theorem jW {S A R:Type} {m:Option (S⊕A)} {k:S→Option R} {e:A→Option R} {a:A} {r:Option R} (h:m=some (.inr a)) (h2:e a=r):aI m k e=r:=by subst h; exact h2
theorem bC {S O:Type} {step:S→Option (S⊕O)} {n:Nat} {s s':S} (h:step s=some (.inl s')):aT step (n+1) s=aT step n s':=by
 simp only [aT,h]
theorem aV {S O:Type} {step:S→Option (S⊕O)} {n:Nat} {s:S} {o:O} (h:step s=some (.inr o)):aT step (n+1) s=some o:=by
 simp only [aT,h]
theorem ak {R:Type} {c:Bool} {x y r:R} (hc:c=false) (h:y=r):cond c x y=r:=by subst hc; exact h
theorem ap {R:Type} {c:Bool} {x y r:R} (hc:c=true) (h:x=r):cond c x y=r:=by subst hc; exact h
theorem BW {S O:Type} {f:S→Option (S⊕O)} (st:Nat→S) {o:O}:∀ (n fuel:Nat),n<fuel→(∀ i,i<n→f (st i)=some (.inl (st (i+1))))→f (st n)=some (.inr o)→aT f fuel (st 0)=some o:=by
 intro n
 induction n generalizing st with
 | zero =>
  intro fuel hf _ he
  obtain ⟨k,rfl⟩:∃ k,fuel=k+1:=⟨fuel-1,by omega⟩
  exact aV he
 | succ n ih =>
  intro fuel hf hs he
  obtain ⟨k,rfl⟩:∃ k,fuel=k+1:=⟨fuel-1,by omega⟩
  rw [bC (hs 0 (by omega))]
  exact ih (fun i=>st (i+1)) k (by omega) (fun i hi=>hs (i+1) (by omega)) he
theorem bS {S O:Type} {f:S→Option (S⊕O)} {s:S} (st:Nat→S) {o:O} (n fuel:Nat) (h0:st 0=s) (hn:n<fuel) (hs:∀ i,i<n→f (st i)=some (.inl (st (i+1)))) (he:f (st n)=some (.inr o)):aT f fuel s=some o:=by
 subst h0; exact BW st n fuel hn hs he
theorem lF (p:Nat→Bool):∀ n,(∀ i,i<n→p i=true)∨∃ k,k<n∧(∀ i,i<k→p i=true)∧p k=false
 | 0 => .inl fun i h=>absurd h (Nat.not_lt_zero i)
 | n+1=>by
  rcases lF p n with h | ⟨k,h1,h2,h3⟩
  ·cases hp:p n
   ·exact .inr ⟨n,by omega,h,hp⟩
   ·refine .inl fun i hi => ?_
    by_cases h':i=n
    ·subst h'; exact hp
    ·exact h i (by omega)
  ·exact .inr ⟨k,by omega,h2,h3⟩
theorem gK {R:Type} {f:Int→Option (Int⊕(Unit⊕R))} (p:Nat→Bool) (n:Nat) (r:R) {fuel:Nat} (hf:n<fuel) (hgo:∀ i,i<n→p i=true→f (i:Int)=some (.inl ((i+1:Nat):Int))) (hno:∀ i,i<n→p i=false→f (i:Int)=some (.inr (.inr r))) (hend:f (n:Int)=some (.inr (.inl ()))) :
  aT f fuel 0=some (if ∀ i,i<n→p i=true then .inl () else .inr r):=by
 rcases lF p n with h | ⟨k,h1,h2,h3⟩
 ·rw [if_pos h]
  exact bS (fun i=>(i:Int)) n fuel rfl hf (fun i hi=>hgo i hi (h i hi)) hend
 ·rw [if_neg fun h=>by rw [h k h1] at h3; cases h3]
  exact bS (fun i=>(i:Int)) k fuel rfl (by omega) (fun i hi=>hgo i (by omega) (h2 i hi)) (hno k h1 h3)
theorem CU (n:Nat) (h:n<9223372036854775808):IntKind.i64.wrap (n:Int)=(n:Int):=dO (by omega) (by omega)
theorem aZ {n:Nat} (h:n<4611686018427387904):IntKind.i64.wrap ((n:Int)+1)=((n+1:Nat):Int):=by rw [dO (by omega) (by omega)]; simp
theorem nm {n:Int} (h0 : -9223372036854775808≤n) (h1:n<9223372036854775808):some (IntKind.i64.wrap n)=some n:=by rw [dO h0 h1]
theorem Eh {n:Int} (h0:0≤n) (h1:n<256):IntKind.u8.wrap n=n:=by
 simp only [IntKind.wrap,IntKind.bits,IntKind.signed]
 have e:(2:Int) ^ 8=256:=by decide
 simp only [e,Bool.false_and,Bool.false_eq_true,if_false]
 omega
theorem Fc (a b:Nat) (hb:0<b) (ha:a<9223372036854775808):uW .i64 (a:Int) (b:Int)=some ((a / b:Nat):Int):=by
 simp only [uW]
 have:a / b≤a:=Nat.div_le_self a b
 rw [if_neg (by omega),Int.tdiv_eq_ediv_of_nonneg (by omega)]
 have e:(a:Int) / (b:Int)=((a / b:Nat):Int):=rfl
 rw [e,CU _ (by omega)]
theorem uE (a b:Nat) (hb:0<b):nL (a:Int) (b:Int)=some ((a % b:Nat):Int):=by
 simp only [nL]
 rw [if_neg (by omega),Int.tmod_eq_emod_of_nonneg (by omega)]
 rfl
theorem dB {A:Type} (l:List A) {a b:Nat} (h1:a≤b) (h2:b≤l.length):eO l (a:Int) (b:Int)=some ((l.drop a).take (b-a)):=by
 unfold eO
 rw [if_pos (by omega)]
 simp only [Int.toNat_natCast]
theorem cF {A:Type} {k:Nat} {l m:List A} (h:(l.length+m.length) * k≤140737488355328) (h1:l.length+m.length≤140737488355328):cr k l m=some (l++m):=by
 unfold cr; rw [if_pos ⟨h,h1⟩]
theorem cv (s:Li):bM (ao s):=by
 intro x hx
 simp only [ao,List.mem_map] at hx
 obtain ⟨b,_,rfl⟩:=hx
 have:=b.toNat_lt
 omega
theorem ir (s:Li):aO (ao s)=s:=by
 obtain ⟨⟨l⟩⟩:=s
 simp only [aO,ao,List.map_map]
 congr 2
 conv=>rhs; rw [← List.map_id l]
 apply List.map_congr_left
 intro b _
 simp
theorem aK {l:List Int} (h:bM l):ao (aO l)=l:=by
 simp only [aO,ao,List.map_map]
 conv=>rhs; rw [← List.map_id l]
 apply List.map_congr_left
 intro x hx
 have:=h x hx
 simp only [Function.comp,id_eq,UInt8.toNat_ofNat']
 omega
theorem iZ {s t:Li} (h:ao s=ao t):s=t:=by rw [← ir s,h,ir]
theorem cX (l:List Int):(aO l).size=l.length:=by simp [aO,ByteArray.size]
theorem dr {l:List Int} (h:bM l) (n:Nat):bM (l.drop n):=fun x hx=>h x (List.mem_of_mem_drop hx)
theorem eT {l:List Int} (h:bM l) (n:Nat):bM (l.take n):=fun x hx=>h x (List.mem_of_mem_take hx)
theorem bP {l m:List Int} (h:bM l) (k:bM m):bM (l++m):=by
 intro x hx
 rcases List.mem_append.1 hx with h1 | h1
 ·exact h x h1
 ·exact k x h1
theorem tQ {l:List Int} (h:IQ (re .u8) l):bM l:=by
 intro x hx
 have:=h.2 x hx
 simp only [re,Lit.wf,IntKind.min,IntKind.max,IntKind.signed,IntKind.bits] at this
 have h2:0≤x∧x≤255:=by simpa using this
 omega
theorem vh {s:Li} {i:Nat} (h:i<s.size):dk s (i:Int)=some ((ao s)[i]'(by rw [aN]; exact h)):=by
 unfold dk
 rw [if_pos (by omega)]
 have h':i<s.data.toList.length:=by simpa using h
 simp only [Int.toNat_natCast,ao,List.getElem?_eq_getElem h',Option.map_some,List.getElem_map]
theorem fX {s:Li} {a b:Nat} (h1:a≤b) (h2:b≤s.size):fL s (a:Int) (b:Int)=some (aO (((ao s).drop a).take (b-a))):=by
 unfold fL
 rw [if_pos (by omega)]
 simp only [Int.toNat_natCast]
 congr 1
 apply iZ
 rw [aK (eT (dr (cv s) a) _)]
 simp only [ao,ByteArray.data_extract,Array.toList_extract,List.extract_eq_take_drop,List.map_take,List.map_drop]
theorem FQ {s t:Li} (h:s.size+t.size≤9223372036854775807):bQ s t=some (aO (ao s++ao t)):=by
 unfold bQ
 rw [if_pos h]
 congr 1
 apply iZ
 rw [aK (bP (cv s) (cv t))]
 simp [ao]
theorem cq (s t:Li):(s.toList==t.toList)=decide (s=t):=by
 rw [← beq_toListBytes,Bool.eq_iff_iff,decide_eq_true_eq]
 obtain ⟨a⟩:=s
 obtain ⟨b⟩:=t
 show (a==b)=true↔_
 rw [beq_iff_eq]
 exact ⟨fun h=>by rw [h],fun h=>by injection h⟩
theorem kq {s t:Li}:s=t↔ao s=ao t:=⟨fun h=>h ▸ rfl,iZ⟩
def jg (c:Int):List Int→Option Nat
 | []=>none
 | x::l=>if x=c then some 0 else (jg c l).map (· + 1)
theorem ny {c:Int}:∀ {l:List Int},jg c l=none↔c ∉ l
 | []=>by simp [jg]
 | x::l=>by
  have ih:=ny (c:=c) (l:=l)
  unfold jg
  by_cases h:x=c
  ·simp [h]
  ·rw [if_neg h]
   simp only [Option.map_eq_none_iff,ih,List.mem_cons,not_or]
   exact ⟨fun h2=>⟨fun e=>h e.symm,h2⟩,fun h2=>h2.2⟩
theorem kb {c:Int}:∀ {l:List Int} {e:Nat},jg c l=some e→e+1≤l.length∧l=l.take e++c::l.drop (e+1)∧c ∉ l.take e
 | [],e,h=>by simp [jg] at h
 | x::l,e,h=>by
  unfold jg at h
  split at h
  ·rename_i hx
   cases h; subst hx; simp
  ·rename_i hx
   cases hi:jg c l with
   | none=>simp [hi] at h
   | some k =>
    simp [hi] at h
    subst h
    obtain ⟨h1,h2,h3⟩:=kb hi
    refine ⟨by simp; omega,?_,?_⟩
    ·simp only [List.take_succ_cons,List.cons_append,List.drop_succ_cons]
     rw [← h2]
    ·simp only [List.take_succ_cons,List.mem_cons,not_or]
     exact ⟨fun e=>hx e.symm,h3⟩
theorem rA {c:Int}:∀ {p r:List Int},c ∉ p→jg c (p++c::r)=some p.length
 | [],r,_=>by simp [jg]
 | x::p,r,h=>by
  simp only [List.mem_cons,not_or] at h
  rw [List.cons_append]
  unfold jg
  rw [if_neg (fun e=>h.1 e.symm),rA h.2]
  simp
theorem px {n:Nat} (hn:n<256):∀ (l:List UInt8),Lib.indexByte l (UInt8.ofNat n)=match jg (n:Int) (l.map fun b=>(b.toNat:Int)) with | none => -1 | some e=>(e:Int)
 | []=>rfl
 | b::l=>by
  have ih:=px hn l
  unfold Lib.indexByte
  rw [List.map_cons]
  unfold jg
  have hb:(b==UInt8.ofNat n)=decide ((b.toNat:Int)=(n:Int)):=by
   rw [Bool.eq_iff_iff,decide_eq_true_eq,beq_iff_eq]
   constructor
   ·rintro rfl; simp; omega
   ·intro h
    apply UInt8.toNat_inj.1
    simp; omega
  rw [hb]
  by_cases h:(b.toNat:Int)=(n:Int)
  ·rw [if_pos (decide_eq_true h),if_pos h]; rfl
  ·rw [if_neg (by simpa using h),if_neg h,ih]
   cases jg (n:Int) (l.map fun b=>(b.toNat:Int)) with
   | none=>rfl
   | some k =>
    have:((k:Int) == -1)=false:=beq_eq_false_iff_ne.2 (by omega)
    simp only [this,Bool.false_eq_true,if_false,Option.map_some]
    rfl
theorem qp {n:Nat} (hn:n<256) (s:Li):di s ⟨#[UInt8.ofNat n]⟩=some (match jg (n:Int) (ao s) with | none => -1 | some e=>(e:Int)):=by
 unfold di
 have:=px hn s.data.toList
 simp only [this]
 rfl
def fa (c:Int):List Int→List (List Int)
 | []=>[[]]
 | x::l=>if x=c then []::fa c l else match fa c l with
  | []=>[[x]]
  | p::ps=>(x::p)::ps
theorem ji (c:Int):∀ l,fa c l≠[]
 | []=>by simp [fa]
 | x::l=>by
  unfold fa
  split
  ·simp
  ·split <;> simp
theorem pq {c:Int}:∀ {l:List Int},c ∉ l→fa c l=[l]
 | [],_=>rfl
 | x::l,h=>by
  simp only [List.mem_cons,not_or] at h
  unfold fa
  rw [if_neg (fun e=>h.1 e.symm),pq h.2]
theorem oW {c:Int}:∀ {p r:List Int},c ∉ p→fa c (p++c::r)=p::fa c r
 | [],r,_=>by simp [fa]
 | x::p,r,h=>by
  simp only [List.mem_cons,not_or] at h
  rw [List.cons_append]
  conv=>lhs; unfold fa
  rw [if_neg (fun e=>h.1 e.symm),oW h.2]
def yn {X S O:Type} (step:X→S→Option (S⊕O)):List X→S→Option (S⊕O)
 | [],s=>some (.inl s)
 | x::l,s=>match step x s with
  | none=>none
  | some (.inl s')=>yn step l s'
  | some (.inr o)=>some (.inr o)
def yg (c:Int) (s:Li):List Li:=(fa c (ao s)).map aO
theorem hH {n:Int} (h0 : -9223372036854775808≤n) (h1:n<9223372036854775808):some (IntKind.i64.wrap n)=some n:=by rw [dO h0 h1]
theorem vS {S O:Type} (n:Nat) (hn:n<256) (step:Li→S→Option (S⊕O)) (s:Li) (st:S) (hs:s.size<4611686018427387904) (r:S⊕O) (hr:yn step (yg (n:Int) s) st=some r) :
  iY (S:=S) (O:=O) (fun Y st=>cO Y ⟨#[UInt8.ofNat n]⟩ s 0 st) step st=some r:=by
 unfold iY cO
 refine ak rfl ?_
 have key:∀ (k:Nat) (s:Li) (st:S) (fuel:Nat),s.size=k→k<4611686018427387904→k<fuel→yn step (yg (n:Int) s) st=some r →
   aI (S:=(Li×(S⊕O))) (A:=S⊕O)
    (aT (S:=(Li×(S⊕O))) (O:=(Li×(S⊕O))⊕(S⊕O)) (fun ((s37,s38):Li×(S⊕O)) =>
     (di s37 ⟨#[UInt8.ofNat n]⟩).bind fun v25 =>
     cond ((decide (v25<0)))
      (some (.inr (.inl (s37,s38))))
      ((some (IntKind.i64.wrap (v25+0))).bind fun v27 =>
      (fL s37 0 v27).bind fun v28 =>
      (iM step v28 s38).bind fun v29 =>
      cond ((!v29.2))
       (some (.inr (.inr (v29.1))))
       ((some (IntKind.i64.wrap (v25+((⟨#[UInt8.ofNat n]⟩:Li).size:Int)))).bind fun v31 =>
       (fL s37 v31 (s37.size:Int)).bind fun v32 =>
       some (.inl (v32,v29.1)))))
     fuel (s,.inl st))
    (fun ((s41,s42):Li×(S⊕O)) =>
     (iM step s41 s42).bind fun v51 =>
     some (v51.1)) some=some r:=by
  intro k
  induction k using Nat.strongRecOn with
  | _ k ih =>
   intro s st fuel hk hb hf hr
   obtain ⟨f,rfl⟩:∃ f,fuel=f+1:=⟨fuel-1,by omega⟩
   cases hi:jg (n:Int) (ao s) with
   | none =>
    rw [aV (o := .inl (s,.inl st)) (by
     refine ar (qp hn s) ?_
     rw [hi]
     exact ap rfl rfl)]
    have h1:yg (n:Int) s=[s]:=by
     unfold yg
     rw [pq (ny.1 hi)]
     simp [ir]
    rw [h1] at hr
    simp only [yn] at hr
    show ((iM step s (.inl st)).bind fun v51=>some (v51.1))=some r
    simp only [iM]
    cases hst:step s st with
    | none=>rw [hst] at hr; cases hr
    | some u =>
     rw [hst] at hr
     cases u with
     | inl s'=>simpa using hr
     | inr o=>simpa using hr
   | some e =>
    obtain ⟨h1,h2,h3⟩:=kb hi
    rw [aN] at h1
    have h4:yg (n:Int) s=aO ((ao s).take e)::yg (n:Int) (aO ((ao s).drop (e+1))):=by
     unfold yg
     rw [aK (dr (cv s) _)]
     conv=>lhs; rw [h2]
     rw [oW h3,List.map_cons]
    rw [h4] at hr
    simp only [yn] at hr
    have e1:fL s 0 (e:Int)=some (aO ((ao s).take e)):=by
     have:=fX (s:=s) (a:=0) (b:=e) (by omega) (by omega)
     simpa using this
    have e2:fL s ((e:Int)+1) (s.size:Int)=some (aO ((ao s).drop (e+1))):=by
     have:=fX (s:=s) (a:=e+1) (b:=s.size) (by omega) (by omega)
     rw [List.take_of_length_le (by simp [aN])] at this
     simpa using this
    have w1:some (IntKind.i64.wrap ((e:Int)+0))=some (e:Int):=by rw [hH (by omega) (by omega)]; simp
    have w2:some (IntKind.i64.wrap ((e:Int)+((⟨#[UInt8.ofNat n]⟩:Li).size:Int)))=some ((e:Int)+1):=by
     show some (IntKind.i64.wrap ((e:Int)+1))=_
     rw [hH (by omega) (by omega)]
    have hsz:(aO ((ao s).drop (e+1))).size=s.size-(e+1):=by rw [cX,List.length_drop,aN]
    cases hst:step (aO ((ao s).take e)) st with
    | none=>rw [hst] at hr; cases hr
    | some u =>
     rw [hst] at hr
     cases u with
     | inl s' =>
      rw [bC (s':=(aO ((ao s).drop (e+1)),.inl s')) (by
       refine ar (qp hn s) ?_
       rw [hi]
       refine ak (decide_eq_false (by show ¬ ((e:Int)<0); omega)) (ar w1 (ar e1 (ar (x:=(.inl s',true)) (by simp [iM,hst]) (ak rfl (ar w2 (ar e2 rfl))))))
       )]
      exact ih _ (by rw [hsz]; omega) _ s' f rfl (by omega) (by omega) hr
     | inr o =>
      rw [aV (o := .inr (.inr o)) (by
       refine ar (qp hn s) ?_
       rw [hi]
       exact ak (decide_eq_false (by show ¬ ((e:Int)<0); omega)) (ar w1 (ar e1 (ar (x:=(.inr o,false)) (by simp [iM,hst]) (ap rfl rfl))))
       )]
      exact hr
 exact key _ s st bX rfl hs (by unfold bX; omega) hr
def Jm (c:Int):Bool:=decide (48≤c)&&decide (c≤57)||(decide (65≤c)&&decide (c≤90)||decide (97≤c)&&decide (c≤122))
def yc (c:Int):Bool:=Jm c||c==45
def Bw (c:Int):Bool:=Jm c||[33,35,36,37,38,39,42,43,45,47,61,63,94,95,96,123,124,125,126].contains c
def qY (l:List Int):Bool := !l.isEmpty&&(decide (l.length≤63)&&(l.head? != some 45&&(l.getLast? != some 45&&l.all yc)))
def ng (l:List Int):Bool := !l.isEmpty&&l.all Bw
def pZ (l:List Int):Bool:=decide (l.length≤255)&&(fa 46 l).all qY
def ov (l:List Int):Bool:=decide (l.length≤64)&&(fa 46 l).all ng
theorem uN (p:Int→Bool) (h:(List.range 256).all (fun k=>p (k:Int))=true) {c:Int} (hc:0≤c∧c<256):p c=true:=by
 have:=List.all_eq_true.1 h c.toNat (List.mem_range.2 (by omega))
 rwa [Int.toNat_of_nonneg hc.1] at this
theorem Ac:(List.range 256).all (fun k=>decide (ii ((k:Nat):Int)=some (Bw ((k:Nat):Int))))=true:=by kernel_rfl
theorem xR:(List.range 256).all (fun k=>decide (gA ((k:Nat):Int)=some (yc ((k:Nat):Int))))=true:=by kernel_rfl
theorem Ie {c:Int} (hc:0≤c∧c<256):ii c=some (Bw c):=by
 simpa using uN (fun c=>decide (ii c=some (Bw c))) Ac hc
theorem Gb {c:Int} (hc:0≤c∧c<256):gA c=some (yc c):=by
 simpa using uN (fun c=>decide (gA c=some (yc c))) xR hc
theorem mu (l:List Int) (p:Int→Bool):l.all p=true↔∀ i,i<l.length→p (l.getD i 0)=true:=by
 rw [List.all_eq_true]
 constructor
 ·intro h i hi
  rw [List.getD_eq_getElem?_getD,List.getElem?_eq_getElem hi]
  exact h _ (List.getElem_mem hi)
 ·intro h x hx
  obtain ⟨i,hi,rfl⟩:=List.getElem_of_mem hx
  have:=h i hi
  rw [List.getD_eq_getElem?_getD,List.getElem?_eq_getElem hi] at this
  exact this
theorem jT {s:Li} {i:Nat} (h:i<s.size):dk s (i:Int)=some ((ao s).getD i 0):=by
 rw [vh h,List.getD_eq_getElem?_getD,List.getElem?_eq_getElem (by rw [aN]; exact h)]; rfl
theorem nw (s:Li) {i:Nat} (h:i<s.size):0≤(ao s).getD i 0∧(ao s).getD i 0<256:=by
 rw [List.getD_eq_getElem?_getD,List.getElem?_eq_getElem (by rw [aN]; exact h)]
 exact cv s _ (List.getElem_mem _)
theorem wW {g:Int→Option Bool} {p:Int→Bool} (s:Li) (hs:s.size<4611686018427387904) (hg:∀ c,0≤c∧c<256→g c=some (p c)) :
  aI (S:=(Unit)) (A:=Bool)
  (aT (S:=(Int)) (O:=(Unit)⊕Bool) (fun (s9:Int) =>
   cond ((decide (s9<(s.size:Int))))
    ((dk s s9).bind fun v2 =>
    (g v2).bind fun v3 =>
    cond ((!v3))
     (some (.inr (.inr (false))))
     ((some (IntKind.i64.wrap (s9+1))).bind fun v5 =>
     some (.inl v5)))
    (some (.inr (.inl ()))))
   bX 0)
  (fun (():Unit) =>
   some (true)) some=some ((ao s).all p):=by
 have hl:=gK (R:=Bool) (f:=fun (s9:Int) =>
   cond ((decide (s9<(s.size:Int))))
    ((dk s s9).bind fun v2 =>
    (g v2).bind fun v3 =>
    cond ((!v3))
     (some (.inr (.inr (false))))
     ((some (IntKind.i64.wrap (s9+1))).bind fun v5 =>
     some (.inl v5)))
    (some (.inr (.inl ())))) (fun i=>p ((ao s).getD i 0)) s.size false (fuel:=bX) (by unfold bX; omega)
  (fun i hi hp=>ap (decide_eq_true (by omega)) (ar (jT hi) (ar (hg _ (nw s hi)) (ak (by simp only [hp]; rfl) (ar (by rw [aZ (by omega)]) rfl)))))
  (fun i hi hp=>ap (decide_eq_true (by omega)) (ar (jT hi) (ar (hg _ (nw s hi)) (ap (by simp only [hp]; rfl) rfl))))
  (ak (decide_eq_false (by omega)) rfl)
 rw [hl]
 have hiff:=mu (ao s) p
 rw [aN] at hiff
 by_cases hall:∀ i,i<s.size→p ((ao s).getD i 0)=true
 ·rw [if_pos hall,hiff.2 hall]; rfl
 ·rw [if_neg hall]
  cases hq:(ao s).all p
  ·rfl
  ·exact absurd (hiff.1 hq) hall
theorem Ft (s:Li):(s.toList==(⟨#[]⟩:Li).toList)=(ao s).isEmpty:=by
 rw [cq,Bool.eq_iff_iff,decide_eq_true_eq,kq]
 simp [ao]
theorem Ey (s:Li) (hs:s.size<4611686018427387904):lx s=some (ng (ao s)):=by
 unfold lx ng
 rw [Ft]
 cases (ao s).isEmpty
 ·exact aL (s:=(ao s).all Bw) (ap rfl (ar (wW s hs fun c hc=>Ie hc) rfl)) rfl
 ·exact aL (s:=false) (ak rfl rfl) rfl
theorem np {l:List Int} (h:l≠[]):l.getLast? = some (l.getD (l.length-1) 0):=by
 have:0<l.length:=List.length_pos_iff.2 h
 rw [List.getLast?_eq_getElem?,List.getD_eq_getElem?_getD,List.getElem?_eq_getElem (by omega)]
 rfl
theorem lp {l:List Int} (h:l≠[]):l.head? = some (l.getD 0 0):=by
 cases l with
 | nil=>exact absurd rfl h
 | cons x l=>rfl
theorem BM (s:Li) (hs:s.size<4611686018427387904):kj s=some (qY (ao s)):=by
 unfold kj qY
 rw [Ft]
 cases he:(ao s).isEmpty
 ·have hne:ao s≠[]:=by intro e; rw [e] at he; cases he
  have hpos:0<s.size:=by rw [← aN]; exact List.length_pos_iff.2 hne
  rw [np hne,lp hne,aN]
  by_cases h1:s.size≤63
  ·have d1:decide ((s.size:Int)≤63)=true:=decide_eq_true (by omega)
   have c0:=jT (s:=s) (i:=0) hpos
   have c1:=jT (s:=s) (i:=s.size-1) (by omega)
   have e1:((s.size-1:Nat):Int)=(s.size:Int)-1:=by omega
   rw [e1] at c1
   by_cases h2:(ao s).getD 0 0=45
   ·refine aL (s:=false) (ap rfl (ap d1 (ar c0 (ak (by rw [h2]; rfl) rfl)))) ?_
    rw [h2]; simp
   ·by_cases h3:(ao s).getD (s.size-1) 0=45
    ·refine aL (s:=false) (ap rfl (ap d1 (ar c0 (ap (by simpa using h2) (ar (hH (by omega) (by omega)) (ar c1 (ak (by rw [h3]; rfl) rfl))))))) ?_
     rw [h3]; simp
    ·refine aL (s:=(ao s).all yc) (ap rfl (ap d1 (ar c0 (ap (by simpa using h2) (ar (hH (by omega) (by omega)) (ar c1 (ap (by simpa using h3) (ar (wW s hs fun c hc=>Gb hc) rfl)))))))) ?_
     have x2:(some ((ao s).getD 0 0) != some 45)=true:=by simpa using h2
     have x3:(some ((ao s).getD (s.size-1) 0) != some 45)=true:=by simpa using h3
     rw [x2,x3,decide_eq_true h1]; rfl
  ·refine aL (s:=false) (ap rfl (ak (decide_eq_false (by omega)) rfl)) ?_
   rw [decide_eq_false h1]; rfl
 ·exact aL (s:=false) (ak rfl rfl) rfl
theorem tt {f:Li→Option Bool} {P:List Int→Bool} (s:Li) (hs:s.size<4611686018427387904) (hf:∀ x,x.size≤s.size→f x=some (P (ao x))) :
  (fD s (⟨#[46]⟩:Li)).bind (fun v1 =>
  aI (S:=(Unit)) (A:=(Unit))
  (iY (S:=(Unit)) (O:=(Unit)) (fun Y st=>Sh.cO Y v1.1 v1.2.1 v1.2.2 st) (fun (x:Li) (():Unit) =>
   (f x).bind fun v2 =>
   cond ((!v2))
    (some (.inr ()))
    (some (.inl ())))
   ())
  (fun (():Unit) =>
   some (true))
  (fun (():Unit) =>
   some (false)))=some ((fa 46 (ao s)).all P):=by
 refine ar (x:=(⟨#[46]⟩,s,0)) rfl ?_
 have hle:∀ (c:Int) (l:List Int),∀ p∈fa c l,p.length≤l.length:=by
  intro c l
  induction l with
  | nil=>intro p hp; simp [fa] at hp; simp [hp]
  | cons x l ih =>
   intro p hp
   unfold fa at hp
   split at hp
   ·simp only [List.mem_cons] at hp
    rcases hp with rfl | hp
    ·simp
    ·have:=ih p hp; simp; omega
   ·split at hp
    ·simp at hp; subst hp; simp
    ·rename_i q qs e
     simp only [List.mem_cons] at hp
     rcases hp with rfl | hp
     ·have:=ih q (by rw [e]; simp); simp; omega
     ·have:=ih p (by rw [e]; simp [hp]); simp; omega
 have hby:∀ (c:Int) (l:List Int),bM l→∀ p∈fa c l,bM p:=by
  intro c l
  induction l with
  | nil=>intro _ p hp; simp [fa] at hp; subst hp; intro x hx; cases hx
  | cons x l ih =>
   intro hb p hp
   have hb':bM l:=fun y hy=>hb y (by simp [hy])
   unfold fa at hp
   split at hp
   ·simp only [List.mem_cons] at hp
    rcases hp with rfl | hp
    ·intro x hx; cases hx
    ·exact ih hb' p hp
   ·split at hp
    ·simp at hp; subst hp; intro y hy; simp at hy; subst hy; exact hb _ (by simp)
    ·rename_i q qs e
     simp only [List.mem_cons] at hp
     rcases hp with rfl | hp
     ·intro y hy
      simp only [List.mem_cons] at hy
      rcases hy with rfl | hy
      ·exact hb _ (by simp)
      ·exact ih hb' q (by rw [e]; simp) y hy
     ·exact ih hb' p (by rw [e]; simp [hp])
 have hfol:∀ l:List (List Int),(∀ p∈l,bM p∧p.length≤s.size)→yn (fun (x:Li) (():Unit) =>
   (f x).bind fun v2 =>
   cond ((!v2))
    (some (.inr ()))
    (some (.inl ()))) (l.map aO) ()=some (if l.all P then .inl () else .inr ()):=by
  intro l
  induction l with
  | nil=>intro _; rfl
  | cons p l ih =>
   intro h
   have hp:=h p (by simp)
   have e1:=hf (aO p) (by rw [cX]; exact hp.2)
   rw [aK hp.1] at e1
   rw [List.map_cons]
   unfold yn
   simp only [e1,Option.bind_some]
   cases hP:P p
   ·simp [hP]
   ·simp only [Bool.not_true,cond_false,List.all_cons,hP,Bool.true_and]
    exact ih fun q hq=>h q (by simp [hq])
 have:=vS 46 (by omega) (fun (x:Li) (():Unit) =>
   (f x).bind fun v2 =>
   cond ((!v2))
    (some (.inr ()))
    (some (.inl ()))) s () hs _ (hfol (fa 46 (ao s)) fun p hp=>⟨hby _ _ (cv s) p hp,by have:=hle _ _ p hp; rwa [aN] at this⟩)
 change aI (iY (fun Y st=>cO Y ⟨#[UInt8.ofNat 46]⟩ s 0 st) _ ()) _ _=_
 rw [this]
 cases hq:(fa 46 (ao s)).all P
 ·rfl
 ·rfl
theorem Hh (s:Li) (hs:s.size<4611686018427387904):jC s=some (pZ (ao s)):=by
 unfold jC pZ
 rw [aN]
 by_cases h:s.size≤255
 ·refine aL (s:=(fa 46 (ao s)).all qY) (ap (decide_eq_true (by omega)) (ar (x:=(fa 46 (ao s)).all qY) ?_ rfl)) (by rw [decide_eq_true h]; rfl)
  exact tt s hs fun x hx=>BM x (by omega)
 ·exact aL (s:=false) (ak (decide_eq_false (by omega)) rfl) (by rw [decide_eq_false h]; rfl)
theorem Gw (s:Li) (hs:s.size<4611686018427387904):ks s=some (ov (ao s)):=by
 unfold ks ov
 rw [aN]
 by_cases h:s.size≤64
 ·refine aL (s:=(fa 46 (ao s)).all ng) (ap (decide_eq_true (by omega)) (ar (x:=(fa 46 (ao s)).all ng) ?_ rfl)) (by rw [decide_eq_true h]; rfl)
  exact tt s hs fun x hx=>Ey x (by omega)
 ·exact aL (s:=false) (ak (decide_eq_false (by omega)) rfl) (by rw [decide_eq_false h]; rfl)
def eI (p:aj):Bool:=cond p.Le ((ao p.Lc).isEmpty&&(ao p.KZ).isEmpty) (ov (ao p.Lc)&&pZ (ao p.KZ))
structure Small (p:aj):Prop where
 l:p.Lc.size<1152921504606846976
 d:p.KZ.size<1152921504606846976
theorem ff (p:aj) (h:Small p):eC p=some (cond (eI p) 0 5):=by
 unfold eC eI
 have hl:=h.l; have hd:=h.d
 rw [Ft,Ft]
 cases hn:p.Le
 ·refine aL (s:=ov (ao p.Lc)&&pZ (ao p.KZ)) (ap rfl (ar (Gw p.Lc (by omega)) ?_)) ?_
  ·cases ov (ao p.Lc)
   ·rfl
   ·exact ap rfl (ar (Hh p.KZ (by omega)) rfl)
  ·simp only [cond_false]
   cases ov (ao p.Lc)&&pZ (ao p.KZ) <;> rfl
 ·refine aL (s:=false) rfl ?_
  simp only [cond_true]
  cases (ao p.Lc).isEmpty <;> cases (ao p.KZ).isEmpty <;> rfl
theorem uP (s p:Li):ct s p=some (decide (ao p <+: ao s)):=by
 unfold ct
 by_cases h:p.size≤s.size
 ·have e:=fX (s:=s) (a:=0) (b:=p.size) (by omega) h
  refine aL (s:=decide (ao p <+: ao s)) (ap (decide_eq_true (by omega)) (ar e ?_)) rfl
  congr 2
  rw [cq]
  congr 1
  rw [kq,aK (eT (dr (cv s) 0) _),List.prefix_iff_eq_take,aN]
  simp only [List.drop_zero,Nat.sub_zero,eq_iff_iff]
  exact eq_comm
 ·refine aL (s:=false) (ak (decide_eq_false (by omega)) rfl) ?_
  rw [decide_eq_false]
  intro hp
  have:=hp.length_le
  rw [aN,aN] at this
  omega
theorem iG (s p:Li):dE s p=some (if ao p <+: ao s then (aO ((ao s).drop p.size),true) else (s,false)):=by
 unfold dE cY
 refine ar (x:=if ao p <+: ao s then (aO ((ao s).drop p.size),true) else (s,false)) (ar (uP s p) ?_) (by split <;> rfl)
 by_cases h:ao p <+: ao s
 ·rw [if_pos h]
  have hl:=h.length_le
  rw [aN,aN] at hl
  have e:=fX (s:=s) (a:=p.size) (b:=s.size) hl (Nat.le_refl _)
  rw [List.take_of_length_le (by simp [aN])] at e
  exact ak (by rw [decide_eq_true h]; rfl) (ar e rfl)
 ·rw [if_neg h]
  exact ap (by rw [decide_eq_false h]; rfl) rfl
theorem vu (s p:Li) (hs:s.size<4611686018427387904):cx s p=some (decide (ao p <:+ ao s)):=by
 unfold cx
 by_cases h:p.size≤s.size
 ·have e:=fX (s:=s) (a:=s.size-p.size) (b:=s.size) (by omega) (Nat.le_refl _)
  have w:some (IntKind.i64.wrap ((s.size:Int)-(p.size:Int)))=some ((s.size-p.size:Nat):Int):=by
   rw [hH (by omega) (by omega)]; congr 1; omega
  refine aL (s:=decide (ao p <:+ ao s)) (ap (decide_eq_true (by omega)) (ar w (ar e ?_))) rfl
  congr 2
  rw [cq]
  congr 1
  rw [kq,aK (eT (dr (cv s) _) _),List.suffix_iff_eq_drop,aN,aN,List.take_of_length_le (by simp [aN])]
  simp only [eq_iff_iff]
  exact eq_comm
 ·refine aL (s:=false) (ak (decide_eq_false (by omega)) rfl) ?_
  rw [decide_eq_false]
  intro hp
  have:=hp.length_le
  rw [aN,aN] at this
  omega
theorem uI (s p:Li) (hs:s.size<4611686018427387904):ep s p=some (if ao p <:+ ao s then (aO ((ao s).take (s.size-p.size)),true) else (s,false)):=by
 unfold ep cU
 refine ar (x:=if ao p <:+ ao s then (aO ((ao s).take (s.size-p.size)),true) else (s,false)) (ar (vu s p hs) ?_) (by split <;> rfl)
 by_cases h:ao p <:+ ao s
 ·rw [if_pos h]
  have hl:=h.length_le
  rw [aN,aN] at hl
  have e:=fX (s:=s) (a:=0) (b:=s.size-p.size) (by omega) (by omega)
  have w:some (IntKind.i64.wrap ((s.size:Int)-(p.size:Int)))=some ((s.size-p.size:Nat):Int):=by
   rw [hH (by omega) (by omega)]; congr 1; omega
  refine ak (by rw [decide_eq_true h]; rfl) (ar w (ar e rfl))
 ·rw [if_neg h]
  exact ap (by rw [decide_eq_false h]; rfl) rfl
theorem GD {n:Nat} (hn:n<256) (s:Li) (hs:s.size<4611686018427387904):im s ⟨#[UInt8.ofNat n]⟩=some (match jg (n:Int) (ao s) with
  | some e=>(aO ((ao s).take e),aO ((ao s).drop (e+1)),true)
  | none=>(s,(⟨#[]⟩:Li),false)):=by
 unfold im dY
 cases hi:jg (n:Int) (ao s) with
 | none =>
  refine ar (x:=(s,(⟨#[]⟩:Li),false)) (ar (qp hn s) ?_) rfl
  rw [hi]
  exact ak rfl rfl
 | some e =>
  obtain ⟨h1,_,_⟩:=kb hi
  rw [aN] at h1
  have e1:fL s 0 (e:Int)=some (aO ((ao s).take e)):=by
   have:=fX (s:=s) (a:=0) (b:=e) (by omega) (by omega)
   simpa using this
  have e2:fL s ((e:Int)+1) (s.size:Int)=some (aO ((ao s).drop (e+1))):=by
   have:=fX (s:=s) (a:=e+1) (b:=s.size) (by omega) (by omega)
   rw [List.take_of_length_le (by simp [aN])] at this
   simpa using this
  have w2:some (IntKind.i64.wrap ((e:Int)+((⟨#[UInt8.ofNat n]⟩:Li).size:Int)))=some ((e:Int)+1):=by
   show some (IntKind.i64.wrap ((e:Int)+1))=_
   rw [hH (by omega) (by omega)]
  refine ar (x:=(aO ((ao s).take e),aO ((ao s).drop (e+1)),true)) (ar (qp hn s) ?_) rfl
  rw [hi]
  exact ap (decide_eq_true (by show (0:Int)≤(e:Int); omega)) (ar e1 (ar w2 (ar e2 rfl)))
def e0:Li:=⟨#[]⟩
def nK:aj:=⟨false,e0,e0⟩
def JA:aj:=⟨true,e0,e0⟩
def uj (l:List Int):Option (List Int):=if l.head? = some 60∧2≤l.length∧l.getLast? = some 62 then some ((l.drop 1).take (l.length-2)) else none
def Dc (m:List Int):Option aj:=match jg 64 m with
 | none=>none
 | some e=>some ⟨false,aO (m.take e),aO (m.drop (e+1))⟩
def su (l:List Int):Option aj:=if l=[60,62] then some JA else match uj l with
 | none=>none
 | some m=>match Dc m with
  | none=>none
  | some p=>if eI p=true then some p else none
theorem IR (s:Li):(s.toList==(⟨#[60,62]⟩:Li).toList)=decide (ao s=[60,62]):=by
 rw [cq]
 congr 1
 rw [kq]
 rfl
theorem Ip (c:Int) (l:List Int):[c] <+: l↔l.head? = some c:=by
 cases l with
 | nil=>simp
 | cons x l=>simp [List.cons_prefix_cons,eq_comm]
theorem Jh (c:Int) (l:List Int):[c] <:+ l↔l.getLast? = some c:=by
 rw [← List.reverse_prefix]
 show [c] <+: l.reverse↔_
 rw [Ip,List.head?_reverse]
theorem Iu:ao (⟨#[60]⟩:Li)=[60]:=rfl
theorem Jc:ao (⟨#[62]⟩:Li)=[62]:=rfl
theorem zy (s:Li):s.size=(ao s).length:=(aN s).symm
theorem pQ (l:List Int):(∃ m,l=60::(m++[62])∧uj l=some m)∨uj l=none:=by
 unfold uj
 split
 ·rename_i h
  obtain ⟨h1,h2,h3⟩:=h
  left
  cases l with
  | nil=>simp at h1
  | cons x r =>
   simp at h1
   subst h1
   have hr:r≠[]:=by intro e; subst e; simp at h2
   have h4:r.getLast? = some 62:=by
    rw [List.getLast?_cons,List.getLast?_eq_some_getLast hr] at h3
    rw [List.getLast?_eq_some_getLast hr]
    simpa using h3
   obtain ⟨m,hm⟩:∃ m,r=m++[62]:=by
    rw [List.getLast?_eq_some_iff] at h4
    exact h4
   refine ⟨m,by rw [hm],?_⟩
   subst hm
   simp
 ·right; rfl
theorem DW (m:List Int):uj (60::(m++[62]))=some m:=by
 unfold uj
 rw [if_pos ⟨rfl,by simp,by rw [← List.cons_append,List.getLast?_concat]⟩]
 simp
theorem Aa {l:List Int} (h:uj l=none):l.head? ≠ some 60∨(l.drop 1).getLast? ≠ some 62:=by
 unfold uj at h
 split at h
 ·cases h
 ·rename_i hn
  by_cases h1:l.head? = some 60
  ·right
   intro h2
   apply hn
   cases l with
   | nil=>simp at h1
   | cons x r =>
    simp at h2
    have hr:r≠[]:=by intro e; subst e; simp at h2
    refine ⟨h1,by have:=List.length_pos_iff.2 hr; simp; omega,?_⟩
    rw [List.getLast?_cons,h2]; rfl
  ·exact .inl h1
theorem wD (s:Li) (hs:s.size<1152921504606846976):jb s=some (match su (ao s) with | some p=>(p,0) | none=>(nK,5)):=by
 unfold jb su
 by_cases h2:ao s=[60,62]
 ·rw [if_pos h2]
  exact ap (by rw [IR]; exact decide_eq_true h2) rfl
 ·rw [if_neg h2]
  refine ak (by rw [IR]; exact decide_eq_false h2) ?_
  have b1:=iG s (⟨#[60]⟩:Li)
  simp only [Iu,Ip] at b1
  refine ar b1 ?_
  have dZ:∀ (x:Li×Bool),x.1.size≤s.size→∀ y:Li×Bool,y=(if [62] <:+ ao x.1 then (aO ((ao x.1).take (x.1.size-(⟨#[62]⟩:Li).size)),true) else (x.1,false)) →
    ∀ z:Li×Li×Bool,z=(match jg 64 (ao y.1) with
     | some e=>(aO ((ao y.1).take e),aO ((ao y.1).drop (e+1)),true)
     | none=>(y.1,(⟨#[]⟩:Li),false))→∀ r,(aI (S:=Bool) (A:=(aj×Int))
   (cond ((!x.2))
    (some (.inl true))
    (cond ((!y.2))
     (some (.inl true))
     (cond ((!z.2.2))
      (some (.inl true))
      ((eC (aj.mk false z.1 z.2.1)).bind fun v5 =>
      some (.inl (v5 != 0))))))
   (fun (s6:Bool) =>
    cond (s6)
     (some (((aj.mk false (⟨#[]⟩:Li) (⟨#[]⟩:Li)),5)))
     (some (((aj.mk false z.1 z.2.1),0)))) some)=r→((ep x.1 (⟨#[62]⟩:Li)).bind fun v3 =>
  (im v3.1 (⟨#[64]⟩:Li)).bind fun v4 =>
  aI (S:=Bool) (A:=(aj×Int))
   (cond ((!x.2))
    (some (.inl true))
    (cond ((!v3.2))
     (some (.inl true))
     (cond ((!v4.2.2))
      (some (.inl true))
      ((eC (aj.mk false v4.1 v4.2.1)).bind fun v5 =>
      some (.inl (v5 != 0))))))
   (fun (s6:Bool) =>
    cond (s6)
     (some (((aj.mk false (⟨#[]⟩:Li) (⟨#[]⟩:Li)),5)))
     (some (((aj.mk false v4.1 v4.2.1),0)))) some)=r:=by
   intro x hx y hy z hz r hr
   have c1:=uI x.1 (⟨#[62]⟩:Li) (by omega)
   rw [Jc,← hy] at c1
   have hys:y.1.size≤x.1.size:=by
    rw [hy]; split
    ·rw [cX,List.length_take,aN]; omega
    ·exact Nat.le_refl _
   have c2:=GD (n:=64) (by omega) y.1 (by omega)
   exact ar c1 (ar (c2.trans (by rw [hz]; rfl)) hr)
  rcases pQ (ao s) with ⟨m,hm,hmid⟩ | hmid
  ·have hh:(ao s).head? = some 60:=by rw [hm]; rfl
   rw [if_pos hh,hmid]
   have hbm:bM m:=by
    have:=cv s
    rw [hm] at this
    intro x hx
    exact this x (by simp [hx])
   have hbm2:bM (m++[62]):=bP hbm (by intro x hx; simp at hx; omega)
   have hd:(ao s).drop 1=m++[62]:=by rw [hm]; rfl
   have hx1:aO ((ao s).drop (⟨#[60]⟩:Li).size)=aO (m++[62]):=by
    show aO ((ao s).drop 1)=_
    rw [hd]
   rw [hx1]
   have hml:m.length+2=s.size:=by rw [zy,hm]; simp
   refine dZ (aO (m++[62]),true) (by simp only [cX]; simp; omega) (aO m,true) ?_ (match jg 64 m with
     | some e=>(aO (m.take e),aO (m.drop (e+1)),true)
     | none=>(aO m,(⟨#[]⟩:Li),false)) ?_ _ ?_
   ·rw [aK hbm2,if_pos ⟨m,rfl⟩]
    congr 2
    rw [cX]
    show m=(m++[62]).take ((m++[62]).length-1)
    simp
   ·dsimp only
    rw [aK hbm]
   ·simp only [Dc]
    cases hi:jg 64 m with
    | none=>exact aL (s:=true) rfl rfl
    | some e =>
     dsimp only
     have hsm:Small ⟨false,aO (m.take e),aO (m.drop (e+1))⟩:=⟨by simp only [cX,List.length_take]; omega,by simp only [cX,List.length_drop]; omega⟩
     cases hp:eI ⟨false,aO (m.take e),aO (m.drop (e+1))⟩
     ·exact aL (s:=true) (ar (ff _ hsm) (by rw [hp]; rfl)) rfl
     ·exact aL (s:=false) (ar (ff _ hsm) (by rw [hp]; rfl)) rfl
  ·rw [hmid]
   by_cases hh:(ao s).head? = some 60
   ·rw [if_pos hh]
    have hl:((ao s).drop 1).getLast? ≠ some 62:=(Aa hmid).resolve_left (fun h=>h hh)
    refine dZ (aO ((ao s).drop 1),true) (by simp only [cX,List.length_drop,aN]; omega) (aO ((ao s).drop 1),false) ?_ _ rfl _ ?_
    ·rw [aK (dr (cv s) 1),if_neg (fun h=>hl ((Jh _ _).1 h))]
    ·exact aL (s:=true) rfl rfl
   ·rw [if_neg hh]
    exact dZ (s,false) (Nat.le_refl _) _ rfl _ rfl _ (aL (s:=true) rfl rfl)
def gH:List Int→Option Nat
 | []=>none
 | x::l=>if x=13∧l.head? = some 10 then some 0 else (gH l).map (· + 1)
theorem fU:∀ {l:List Int} {e:Nat},gH l=some e→e+2≤l.length∧l=l.take e++13::10::l.drop (e+2)
 | [],e,h=>by simp [gH] at h
 | x::l,e,h=>by
  unfold gH at h
  split at h
  ·rename_i hc
   cases h
   obtain ⟨rfl,h2⟩:=hc
   cases l with
   | nil=>simp at h2
   | cons y l=>simp at h2; subst h2; simp
  ·cases hi:gH l with
   | none=>simp [hi] at h
   | some k =>
    simp [hi] at h
    subst h
    obtain ⟨h1,h2⟩:=fU hi
    refine ⟨by simp; omega,?_⟩
    simp only [List.take_succ_cons,List.cons_append,List.drop_succ_cons,show k+1+2=(k+2)+1 by omega]
    rw [← h2]
theorem kW:∀ {line rest:List Int},(∀ x∈line,x≠13)→gH (line++13::10::rest)=some line.length
 | [],rest,_=>by simp [gH]
 | x::line,rest,h=>by
  have hx:=h x (by simp)
  have ih:=kW (line:=line) (rest:=rest) fun y hy=>h y (by simp [hy])
  rw [List.cons_append]
  unfold gH
  rw [if_neg (fun e=>hx e.1),ih]
  simp
theorem Fo {x:Int} (h:0≤x∧x<256) {n:Nat} (hn:n<256):(UInt8.ofNat x.toNat=UInt8.ofNat n)↔x=(n:Int):=by
 constructor
 ·intro e
  have:=congrArg UInt8.toNat e
  simp only [UInt8.toNat_ofNat'] at this
  omega
 ·rintro rfl; simp
theorem BP:∀ {l:List Int},bM l→Lib.index (Lib.bytesOf l) (Lib.bytesOf [13,10])=match gH l with | none => -1 | some e=>(e:Int)
 | [],_=>by rfl
 | x::l,h=>by
  have hx:=h x (by simp)
  have ih:=BP (l:=l) fun y hy=>h y (by simp [hy])
  have e1:Lib.bytesOf (x::l)=UInt8.ofNat x.toNat::Lib.bytesOf l:=rfl
  have e2:Lib.bytesOf [13,10]=[UInt8.ofNat 13,UInt8.ofNat 10]:=rfl
  rw [e1]
  unfold Lib.index gH
  have hp:(Lib.bytesOf [13,10]).isPrefixOf (UInt8.ofNat x.toNat::Lib.bytesOf l)=decide (x=13∧l.head? = some 10):=by
   rw [Bool.eq_iff_iff,decide_eq_true_eq,e2]
   cases l with
   | nil=>simp [Lib.bytesOf,List.isPrefixOf]
   | cons y l =>
    have hy:=h y (by simp)
    have ex:=Fo hx (n:=13) (by omega)
    have ey:=Fo hy (n:=10) (by omega)
    simp only [Lib.bytesOf,List.map_cons,List.isPrefixOf,Bool.and_eq_true,beq_iff_eq,Bool.true_and,Bool.and_true,and_true,List.head?_cons,Option.some.injEq]
    constructor
    ·rintro ⟨h1,h2⟩; exact ⟨ex.1 h1.symm,ey.1 h2.symm⟩
    ·rintro ⟨h1,h2⟩; exact ⟨(ex.2 h1).symm,(ey.2 h2).symm⟩
  rw [hp]
  by_cases hc:x=13∧l.head? = some 10
  ·rw [if_pos (by simpa using hc),if_pos hc]
   rfl
  ·rw [if_neg (by simpa using hc),if_neg hc,ih]
   cases gH l with
   | none=>rfl
   | some k =>
    have:((k:Int) == -1)=false:=beq_eq_false_iff_ne.2 (by omega)
    simp only [this,Bool.false_eq_true,if_false,Option.map_some]
    rfl
theorem qB {l:List Int} (h:bM l) (hl:l.length<4294967281):gr l [13,10]=some (match gH l with | none => -1 | some e=>(e:Int)):=by
 unfold gr
 rw [if_pos ⟨hl,by simp,by simp,h,by decide⟩,BP h]
def jQ {X S O:Type} (step:X→S→Option (S⊕O)):List X→S→Option (S⊕O)
 | [],s=>some (.inl s)
 | x::l,s=>match step x s with
  | none=>none
  | some (.inl s')=>jQ step l s'
  | some (.inr o)=>some (.inr o)
inductive vF:List Int→List (List Int)→List Int→Prop
 | nil {b:List Int} (h:gH b=none):vF b [] b
 | cons {b:List Int} {e:Nat} {ls:List (List Int)} {r:List Int} (h:gH b=some e) (t:vF (b.drop (e+2)) ls r):vF b (b.take e::ls) r
theorem cN {n:Int} (h0 : -9223372036854775808≤n) (h1:n<9223372036854775808):some (IntKind.i64.wrap n)=some n:=by rw [dO h0 h1]
theorem sb {b:List Int} (hb:bM b) (hl:b.length<4294967281) (h:gH b=none):dy b [13,10]=some (b,[],false):=by
 unfold dy
 refine ar (qB hb hl) ?_
 rw [h]
 rfl
theorem jq {b:List Int} (hb:bM b) (hl:b.length<4294967281) {e:Nat} (h:gH b=some e):dy b [13,10]=some (b.take e,b.drop (e+2),true):=by
 have h1:=(fU h).1
 unfold dy
 refine ar (qB hb hl) ?_
 rw [h]
 refine ap (decide_eq_true (by show (0:Int)≤(e:Int); omega)) ?_
 have e1:eO b 0 (e:Int)=some (b.take e):=by
  have:=dB b (a:=0) (b:=e) (by omega) (by omega)
  simpa using this
 refine ar e1 ?_
 refine ar (x:=((e+2:Nat):Int)) (by
  show some (IntKind.i64.wrap ((e:Int)+2))=_
  rw [cN (by omega) (by omega)]; simp) ?_
 refine ar (x:=b.drop (e+2)) (by
  rw [dB b (by omega) (by omega),List.take_of_length_le (by simp)]) rfl
theorem ei {S O:Type} (step:List Int→S→Option (S⊕O)) {b:List Int} {ls:List (List Int)} {rest:List Int} (H:vF b ls rest) (hb:bM b) (hl:b.length<4294967281) (st:S) (r:S⊕O) (hr:jQ step ls st=some r) :
  iY (S:=S) (O:=O) (fun Y st=>fo Y b st) step st=some r:=by
 unfold iY fo
 have key:∀ (b:List Int) (ls:List (List Int)) (rest:List Int),vF b ls rest→bM b→b.length<4294967281→∀ (fuel:Nat) (st:S),b.length<fuel→jQ step ls st=some r →
   aI (S:=(Unit)) (A:=S⊕O)
    (aT (S:=((List Int)×(S⊕O))) (O:=(Unit)⊕(S⊕O)) (fun ((s17,s18):(List Int)×(S⊕O)) =>
     (dy s17 [13,10]).bind fun v1 =>
     aI (S:=(S⊕O)×Bool) (A:=(((List Int)×(S⊕O))⊕((Unit)⊕(S⊕O))))
      (cond ((!v1.2.2))
       (some (.inl (s18,true)))
       ((iM step v1.1 s18).bind fun v2 =>
       some (.inl ((v2.1,(!v2.2))))))
      (fun ((s31,s32):(S⊕O)×Bool) =>
       cond (s32)
        (some (.inr (.inr (s31))))
        (some (.inl (v1.2.1,s31)))) some)
     fuel (b,.inl st))
    (fun (():Unit) =>
     none) some=some r:=by
  intro b ls rest H
  induction H with
  | nil h =>
   intro hb hl fuel st hf hr
   obtain ⟨f,rfl⟩:∃ f,fuel=f+1:=⟨fuel-1,by omega⟩
   rw [aV (o := .inr (.inl st)) (ar (sb hb hl h) rfl)]
   exact hr
  | cons h t ih =>
   rename_i b e ls r'
   intro hb hl fuel st hf hr
   obtain ⟨f,rfl⟩:∃ f,fuel=f+1:=⟨fuel-1,by omega⟩
   have h1:=(fU h).1
   simp only [jQ] at hr
   cases hst:step (b.take e) st with
   | none=>rw [hst] at hr; cases hr
   | some u =>
    rw [hst] at hr
    cases u with
    | inl s' =>
     rw [bC (s':=(b.drop (e+2),.inl s')) (ar (jq hb hl h) (aL (s:=((Sum.inl s':S⊕O),false)) (ak rfl (ar (x:=((Sum.inl s':S⊕O),true)) (by simp [iM,hst]) rfl)) rfl))]
     exact ih (dr hb _) (by rw [List.length_drop]; omega) f s' (by rw [List.length_drop]; omega) hr
    | inr o =>
     rw [aV (o := .inr (.inr o)) (ar (jq hb hl h) (aL (s:=((Sum.inr o:S⊕O),true)) (ak rfl (ar (x:=((Sum.inr o:S⊕O),false)) (by simp [iM,hst]) rfl)) rfl))]
     exact hr
 exact key b ls rest H hb hl bX st (by unfold bX; omega) hr
theorem sS:∀ (n:Nat) (b:List Int),b.length≤n→∃ ls r,vF b ls r
 | n,b,hn=>by
  cases h:gH b with
  | none=>exact ⟨_,_,.nil h⟩
  | some e =>
   have h1:=(fU h).1
   cases n with
   | zero=>omega
   | succ n =>
    obtain ⟨ls,r,H⟩:=sS n (b.drop (e+2)) (by rw [List.length_drop]; omega)
    exact ⟨_,_,.cons h H⟩
def jn:List (List Int)→List Int
 | []=>[]
 | l::ls=>l++13::10::jn ls
theorem pM:∀ (a b:List (List Int)),jn (a++b)=jn a++jn b
 | [],b=>rfl
 | x::a,b=>by simp [jn,pM a b]
theorem mY {b:List Int} {ls:List (List Int)} {r:List Int} (H:vF b ls r):b=jn ls++r:=by
 induction H with
 | nil h=>rfl
 | cons h t ih =>
  have h2:=(fU h).2
  conv=>lhs; rw [h2]
  simp only [jn,List.append_assoc,List.cons_append]
  rw [← ih]
def nZ (l:List Int):Prop:=∀ x∈l,x≠13∧x≠10
theorem zA {ls:List (List Int)} {t:List Int} {ms:List (List Int)} {r:List Int} (h:∀ l∈ls,nZ l) (H:vF t ms r):vF (jn ls++t) (ls++ms) r:=by
 induction ls with
 | nil=>exact H
 | cons l ls ih =>
  have e:jn (l::ls)++t=l++13::10::(jn ls++t):=by simp [jn]
  have hi:=kW (line:=l) (rest:=jn ls++t) (fun x hx=>(h l (by simp) x hx).1)
  have:=vF.cons (b:=l++13::10::(jn ls++t)) hi (ls:=ls++ms) (r:=r) (by
   have e2:(l++13::10::(jn ls++t)).drop (l.length+2)=jn ls++t:=by
    rw [List.drop_append]; simp
   rw [e2]
   exact ih fun x hx=>h x (by simp [hx]))
  rw [e]
  have e3:(l++13::10::(jn ls++t)).take l.length=l:=by simp
  rw [e3] at this
  exact this
theorem DD:vF [] [] [] := .nil rfl
theorem rY {ls:List (List Int)} (h:∀ l∈ls,nZ l):vF (jn ls) ls []:=by
 have:=zA h DD
 simpa using this
theorem oo:∀ {l:List Int},nZ l→jd l = -1
 | [],_=>rfl
 | x::l,h=>by
  have hx:=h x (by simp)
  unfold jd
  rw [if_neg (by rintro (e | e); exact hx.1 e; exact hx.2 e),if_pos (oo fun y hy=>h y (by simp [hy]))]
theorem sy:∀ {l:List Int},¬ nZ l→0≤jd l
 | [],h=>absurd (fun x hx=>by simp at hx) h
 | x::l,h=>by
  unfold jd
  by_cases hx:x=13∨x=10
  ·rw [if_pos hx]; omega
  ·rw [if_neg hx]
   have:=sy (l:=l) (fun hc=>h fun y hy=>by
    rcases List.mem_cons.1 hy with rfl | hy
    ·exact ⟨fun e=>hx (.inl e),fun e=>hx (.inr e)⟩
    ·exact hc y hy)
   rw [if_neg (by omega)]; omega
theorem yl {l:List Int} (hb:bM l) (hl:l.length<4294967281):cy l (⟨#[13,10]⟩:Li)=some (decide (0≤jd l)):=by
 unfold cy gh
 rw [if_pos ⟨rfl,hl,List.all_eq_true.2 fun x hx=>decide_eq_true (hb x hx)⟩]
 rfl
def dZ:List (List Int)→Nat
 | []=>0
 | l::ls=>l.length+2+dZ ls
theorem cw:∀ ls,(jn ls).length=dZ ls
 | []=>rfl
 | l::ls=>by simp [jn,dZ,cw ls]; omega
open Classical in
theorem tP:∀ (ls:List (List Int)) (s:Nat),(∀ l∈ls,bM l)→s+dZ ls<4294967281 →
  jQ (S:=Int) (O:=Int) (fun (x:(List Int)) (s8:Int) =>
   (cy x (⟨#[13,10]⟩:Li)).bind fun v2 =>
   cond (v2)
    (some (.inr s8))
    ((some (IntKind.i64.wrap ((x.length:Int)+2))).bind fun v4 =>
    (some (IntKind.i64.wrap (s8+v4))).bind fun v5 =>
    some (.inl v5))) ls (s:Int)=if ∀ l∈ls,nZ l then some (.inl ((s+dZ ls:Nat):Int)) else (jQ (S:=Int) (O:=Int) (fun (x:(List Int)) (s8:Int) =>
   (cy x (⟨#[13,10]⟩:Li)).bind fun v2 =>
   cond (v2)
    (some (.inr s8))
    ((some (IntKind.i64.wrap ((x.length:Int)+2))).bind fun v4 =>
    (some (IntKind.i64.wrap (s8+v4))).bind fun v5 =>
    some (.inl v5))) ls (s:Int)):=by
 intro ls
 induction ls with
 | nil=>intro s _ _; simp [jQ,dZ]
 | cons l ls ih =>
  intro s hb hs
  by_cases h:∀ m∈l::ls,nZ m
  ·rw [if_pos h]
   simp only [dZ] at hs
   have e:((cy l (⟨#[13,10]⟩:Li)).bind fun v2 =>
   cond (v2)
    (some (.inr (s:Int)))
    ((some (IntKind.i64.wrap ((l.length:Int)+2))).bind fun v4 =>
    (some (IntKind.i64.wrap ((s:Int)+v4))).bind fun v5 =>
    some (.inl v5)):Option (Int⊕Int))=some (.inl ((s+(l.length+2):Nat):Int)):=by
    refine ar (yl (hb l (by simp)) (by omega)) ?_
    rw [oo (h l (by simp))]
    refine ak rfl (ar (cN (by omega) (by omega)) (ar (cN (by omega) (by omega)) ?_))
    simp
   simp only [jQ]
   rw [e]
   have:=ih (s+(l.length+2)) (fun m hm=>hb m (by simp [hm])) (by omega)
   rw [if_pos fun m hm=>h m (by simp [hm])] at this
   simp only [dZ]
   rw [show s+(l.length+2+dZ ls)=s+(l.length+2)+dZ ls by omega]
   exact this
  ·rw [if_neg h]
theorem Ab:∀ (ls:List (List Int)) (s:Nat),(∀ l∈ls,bM l)→s+dZ ls<4294967281→(¬ ∀ l∈ls,nZ l) →
  ∃ o,jQ (S:=Int) (O:=Int) (fun (x:(List Int)) (s8:Int) =>
   (cy x (⟨#[13,10]⟩:Li)).bind fun v2 =>
   cond (v2)
    (some (.inr s8))
    ((some (IntKind.i64.wrap ((x.length:Int)+2))).bind fun v4 =>
    (some (IntKind.i64.wrap (s8+v4))).bind fun v5 =>
    some (.inl v5))) ls (s:Int)=some (.inr o):=by
 intro ls
 induction ls with
 | nil=>intro s _ _ h; exact absurd (fun x hx=>by simp at hx) h
 | cons l ls ih =>
  intro s hb hs h
  simp only [dZ] at hs
  by_cases hc:nZ l
  ·have e:((cy l (⟨#[13,10]⟩:Li)).bind fun v2 =>
   cond (v2)
    (some (.inr (s:Int)))
    ((some (IntKind.i64.wrap ((l.length:Int)+2))).bind fun v4 =>
    (some (IntKind.i64.wrap ((s:Int)+v4))).bind fun v5 =>
    some (.inl v5)):Option (Int⊕Int))=some (.inl ((s+(l.length+2):Nat):Int)):=by
    refine ar (yl (hb l (by simp)) (by omega)) ?_
    rw [oo hc]
    refine ak rfl (ar (cN (by omega) (by omega)) (ar (cN (by omega) (by omega)) ?_))
    simp
   obtain ⟨o,ho⟩:=ih (s+(l.length+2)) (fun m hm=>hb m (by simp [hm])) (by omega) (fun hh=>h fun m hm=>by
    rcases List.mem_cons.1 hm with rfl | hm
    ·exact hc
    ·exact hh m hm)
   refine ⟨o,?_⟩
   simp only [jQ]
   rw [e]
   exact ho
  ·refine ⟨(s:Int),?_⟩
   simp only [jQ]
   rw [yl (hb l (by simp)) (by omega),decide_eq_true (sy hc)]
   rfl
theorem lD {b:List Int} {ls:List (List Int)} {r:List Int} (H:vF b ls r) (hb:bM b):∀ l∈ls,bM l:=by
 induction H with
 | nil h=>intro l hl; simp at hl
 | cons h t ih =>
  intro l hl
  rcases List.mem_cons.1 hl with rfl | hl
  ·exact eT hb _
  ·exact ih (dr hb _) l hl
theorem Gf {ls:List (List Int)} (h:bM (jn ls)):∀ l∈ls,bM l:=by
 induction ls with
 | nil=>intro l hl; simp at hl
 | cons m ls ih =>
  intro l hl
  simp only [jn] at h
  rcases List.mem_cons.1 hl with rfl | hl
  ·exact fun x hx=>h x (by simp [hx])
  ·exact ih (fun x hx=>h x (by simp [hx])) l hl
theorem kJ {ls:List (List Int)} (h:∀ l∈ls,bM l):bM (jn ls):=by
 induction ls with
 | nil=>intro l hl; simp [jn] at hl
 | cons m ls ih =>
  intro x hx
  simp only [jn,List.mem_append,List.mem_cons] at hx
  rcases hx with hx | rfl | rfl | hx
  ·exact h m (by simp) x hx
  ·omega
  ·omega
  ·exact ih (fun l hl=>h l (by simp [hl])) x hx
theorem kx {ls:List (List Int)} (h:∀ l∈ls,nZ l) (hb:∀ l∈ls,bM l) (hl:dZ ls<4294967281):cM (jn ls)=some 0:=by
 unfold cM da
 refine ar rfl ?_
 refine aL (s:=((0+dZ ls:Nat):Int)) (ei _ (rY h) (kJ hb) (by rw [cw]; exact hl) _ _ (by
  have:=tP ls 0 hb (by omega)
  rw [if_pos h] at this
  exact this)) ?_
 refine ak ?_ rfl
 rw [cw]; simp
theorem kT {b:List Int} (hb:bM b) (hl:b.length<4294967281):(cM b=some 5)∨∃ ls,(∀ l∈ls,nZ l)∧(∀ l∈ls,bM l)∧b=jn ls:=by
 obtain ⟨ls,r,H⟩:=sS b.length b (Nat.le_refl _)
 have hj:=mY H
 have hlen:b.length=dZ ls+r.length:=by rw [hj,List.length_append,cw]
 by_cases h:∀ l∈ls,nZ l
 ·cases r with
  | nil=>exact .inr ⟨ls,h,lD H hb,by simpa using hj⟩
  | cons y r =>
   left
   unfold cM da
   refine ar rfl ?_
   refine aL (s:=((0+dZ ls:Nat):Int)) (ei _ H hb hl _ _ (by
    have:=tP ls 0 (lD H hb) (by omega)
    rw [if_pos h] at this
    exact this)) ?_
   refine ap ?_ rfl
   simp only [List.length_cons] at hlen
   rw [bne_iff_ne]; omega
 ·left
  obtain ⟨o,ho⟩:=Ab ls 0 (lD H hb) (by omega) h
  unfold cM da
  refine ar rfl ?_
  exact jW (a:=o) (ei _ H hb hl _ _ ho) rfl
theorem fh (a b:List Int) (hl:a.length<4294967296):cT a b=some (decide (a=b)):=by
 unfold cT
 by_cases hn:a.length=b.length
 case neg =>
  have:a≠b:=fun h=>hn (by rw [h])
  have h2:((a.length:Int) != (b.length:Int))=true:=by simp; omega
  simp [h2,this]
 have h2:((a.length:Int) != (b.length:Int))=false:=by simp; omega
 simp only [h2,cond_false]
 have key:∀ (k fuel i:Nat),a.length-i=k→i≤a.length→k<fuel→a.take i=b.take i →
   aT (S:=Int) (O:=Unit⊕Bool) (fun (s12:Int) =>
    cond ((decide (s12<(a.length:Int))))
     ((cl s12 a.length).bind fun v3 =>
     (aQ a v3).bind fun v4 =>
     (cl s12 b.length).bind fun v5 =>
     (aQ b v5).bind fun v6 =>
     cond ((v4 != v6))
      (some (.inr (.inr (false))))
      ((some (IntKind.i64.wrap (s12+1))).bind fun v8 =>
      some (.inl v8)))
     (some (.inr (.inl ())))) fuel (i:Int)=some (if a=b then .inl () else .inr false):=by
  intro k
  induction k with
  | zero =>
   intro fuel i hk hi hf ht
   obtain ⟨f,rfl⟩:∃ f,fuel=f+1:=⟨fuel-1,by omega⟩
   have hia:i=a.length:=by omega
   subst hia
   have hab:a=b:=by rw [List.take_of_length_le (Nat.le_refl _),List.take_of_length_le (by omega)] at ht; exact ht
   simp [aT,hab]
  | succ k ih =>
   intro fuel i hk hi hf ht
   obtain ⟨f,rfl⟩:∃ f,fuel=f+1:=⟨fuel-1,by omega⟩
   have hlt:i<a.length:=by omega
   have hltb:i<b.length:=by omega
   have hd:decide ((i:Int)<(a.length:Int))=true:=by simp; omega
   unfold aT
   simp only [hd,cond_true,bk hlt,bk hltb,cA hlt,cA hltb,Option.bind_some]
   by_cases he:a[i]=b[i]
   ·have hb:(a[i] != b[i])=false:=by simp [he]
    have hw:IntKind.i64.wrap ((i:Int)+1)=((i+1:Nat):Int):=by
     rw [dO (by omega) (by omega)]; simp
    simp only [hb,cond_false,hw]
    exact ih f (i+1) (by omega) hlt (by omega) (by rw [List.take_add_one,List.take_add_one,ht]; simp [hlt,hltb,he])
   ·have hb:(a[i] != b[i])=true:=by simp [he]
    have hab:a≠b:=fun h=>he (by subst h; rfl)
    simp [hb,hab]
 have:=key (a.length-0) bX 0 rfl (Nat.zero_le _) (by unfold bX; omega) (by simp)
 simp only [Int.cast_ofNat_Int] at this
 by_cases hab:a=b
 ·simp only [hab,if_true] at this
  subst hab
  simp only [aI]
  rw [this]; simp
 ·simp only [hab,if_false] at this
  simp only [aI]
  rw [this]; simp [hab]
set_option maxRecDepth 10000
def fw (p:aj):List Int:=cond p.Le [60,62] (60::(ao p.Lc++64::(ao p.KZ++[62])))
theorem dj {c:Int} {l:List Int} (h:0≤c∧c<256) (hl:bM l):bM (c::l):=by
 intro x hx
 simp only [List.mem_cons] at hx
 rcases hx with rfl | hx
 ·exact h
 ·exact hl x hx
theorem dx:bM []:=fun x hx=>by cases hx
theorem gQ (p:aj):bM (fw p):=by
 unfold fw
 cases p.Le
 ·exact dj (by omega) (bP (cv _) (dj (by omega) (bP (cv _) (dj (by omega) dx))))
 ·exact dj (by omega) (dj (by omega) dx)
theorem oz {s t:Li} {l m:List Int} (hl:ao s=l) (hm:ao t=m) (h:l.length+m.length≤9223372036854775807):bQ s t=some (aO (l++m)):=by
 subst hl hm
 rw [aN,aN] at h
 exact FQ h
theorem Iz (p:aj) (h:Small p) {R:Type} (f:Li→Option R) (r:Option R) (hr:f (aO (60::(ao p.Lc++64::(ao p.KZ++[62]))))=r) :
  ((bQ (⟨#[60]⟩:Li) p.Lc).bind fun v4 =>
   (bQ v4 (⟨#[64]⟩:Li)).bind fun v5 =>
   (bQ v5 p.KZ).bind fun v6 =>
   (bQ v6 (⟨#[62]⟩:Li)).bind fun v7=>f v7)=r:=by
 have hl:=h.l; have hd:=h.d
 have bl:=cv p.Lc; have bd:=cv p.KZ
 have b60:bM [60]:=dj (by omega) dx
 have b64:bM [64]:=dj (by omega) dx
 have k1:=oz (s:=⟨#[60]⟩) (t:=p.Lc) Iu rfl (by simp [aN]; omega)
 have k2:=oz (s:=aO ([60]++ao p.Lc)) (t:=⟨#[64]⟩) (m:=[64]) (aK (bP b60 bl)) rfl (by simp [aN]; omega)
 have k3:=oz (s:=aO ([60]++ao p.Lc++[64])) (t:=p.KZ) (aK (bP (bP b60 bl) b64)) rfl (by simp [aN]; omega)
 have k4:=oz (s:=aO ([60]++ao p.Lc++[64]++ao p.KZ)) (t:=⟨#[62]⟩) (m:=[62]) (aK (bP (bP (bP b60 bl) b64) bd)) rfl (by simp [aN]; omega)
 refine ar k1 (ar k2 (ar k3 (ar k4 ?_)))
 rw [← hr]
 congr 2
 simp
theorem Dx (p:aj) (h:Small p):ly p=some (cond (eI p) (aO (fw p),0) (e0,5)):=by
 unfold ly
 refine ar (ff p h) ?_
 cases hp:eI p
 ·exact ap rfl rfl
 ·refine ak rfl ?_
  unfold fw
  cases hn:p.Le
  ·exact ak rfl (Iz p h _ _ rfl)
  ·exact ap rfl rfl
theorem yr (l:List Int) (h:l.length<4294967296):dI l=some l:=by
 unfold dI
 exact ar (x:=l) (by simp only [cr]; rw [if_pos (by simp; omega)]; simp) rfl
theorem xY {x:List Int} (hb:bM x) (hl:x.length<4294967281):cj x [46]=some (decide (x.head? = some 46)):=by
 unfold cj
 cases x with
 | nil=>rfl
 | cons y x =>
  refine aL (s:=decide (y=46)) (ap (decide_eq_true (by simp only [List.length_cons,List.length_nil]; omega)) ?_) (by simp)
  have e1:eO (y::x) 0 (([46]:List Int).length:Int)=some [y]:=by
   have:=dB (y::x) (a:=0) (b:=1) (by omega) (by simp)
   simpa using this
  refine ar e1 (ar (x:=decide (y=46)) ?_ rfl)
  unfold eN
  refine ar rfl (ar rfl ?_)
  rw [cq]
  congr 1
  refine decide_eq_decide.2 ⟨fun h => ?_,fun h=>by rw [h]⟩
  have:=congrArg ao h
  rw [aK (by intro z hz; rw [List.mem_singleton] at hz; rw [hz]; exact hb y (by simp)),aK (by decide)] at this
  simpa using this
def lQ (l:List Int):List Int:=if l.head? = some 46 then 46::l else l
def sR (l:List Int):List Int:=if l.head? = some 46 then l.tail else l
theorem EU (l:List Int):sR (lQ l)=l:=by
 unfold lQ sR
 by_cases h:l.head? = some 46
 ·rw [if_pos h,if_pos (by simp)]; rfl
 ·rw [if_neg h,if_neg h]
theorem zM (l:List Int):lQ l≠[46]:=by
 unfold lQ
 split
 ·rename_i h; intro e; cases l with
  | nil=>simp at h
  | cons=>simp at e
 ·rename_i h; intro e; rw [e] at h; simp at h
theorem yJ {l:List Int} (h:nZ l):nZ (lQ l):=by
 unfold lQ; split
 ·intro x hx
  rcases List.mem_cons.1 hx with rfl | hx
  ·decide
  ·exact h x hx
 ·exact h
theorem rh {l:List Int} (h:bM l):bM (lQ l):=by
 unfold lQ; split
 ·intro x hx
  rcases List.mem_cons.1 hx with rfl | hx
  ·decide
  ·exact h x hx
 ·exact h
theorem yQ (l:List Int):(lQ l).length≤l.length+1:=by unfold lQ; split <;> simp
theorem ri:∀ ls:List (List Int),dZ (ls.map lQ)≤2 * dZ ls
 | []=>by simp [dZ]
 | l::ls=>by
  have h1:=yQ l
  have h2:=ri ls
  simp only [List.map_cons,dZ]; omega
theorem jo:∀ a b:List (List Int),dZ (a++b)=dZ a+dZ b
 | [],b=>by simp [dZ]
 | x::a,b=>by simp only [List.cons_append,dZ,jo a b]; omega
theorem zD (ls:List (List Int)):(ls.map lQ).map sR=ls:=by
 rw [List.map_map]
 conv=>rhs; rw [← List.map_id ls]
 exact List.map_congr_left fun l _=>EU l
def ve:List Int→List Int→Option (List Int⊕Unit):=fun (x:(List Int)) (s21:(List Int)) =>
 aI (S:=(List Int)) (A:=(((List Int))⊕(Unit)))
  ((cj x [46]).bind fun v4 =>
  cond (v4)
   ((cr 1 s21 (ao (⟨#[46]⟩:Li))).bind fun v6 =>
   some (.inl v6))
   (some (.inl s21)))
  (fun (s29:(List Int)) =>
   (cr 1 s29 x).bind fun v12 =>
   (cr 1 v12 (ao (⟨#[13,10]⟩:Li))).bind fun v13 =>
   some (.inl v13)) some
theorem HL:ao (⟨#[46]⟩:Li)=[46]:=rfl
theorem Ik:ao (⟨#[13,10]⟩:Li)=[13,10]:=rfl
theorem KM:ao (⟨#[46,13,10]⟩:Li)=[46,13,10]:=rfl
theorem xT {x s:List Int} (hb:bM x) (hl:s.length+x.length<4294960000):ve x s=some (.inl (s++(lQ x++[13,10]))):=by
 unfold ve
 rw [HL,Ik]
 by_cases h:x.head? = some 46
 ·have e:lQ x=46::x:=by unfold lQ; rw [if_pos h]
  rw [e]
  refine aL (s:=s++[46]) (ar (xY hb (by omega)) (ap (decide_eq_true h) (ar (cF (by simp; omega) (by simp; omega)) rfl))) ?_
  refine ar (cF (by simp; omega) (by simp; omega)) (ar (cF (by simp; omega) (by simp; omega)) ?_)
  simp
 ·have e:lQ x=x:=by unfold lQ; rw [if_neg h]
  rw [e]
  refine aL (s:=s) (ar (xY hb (by omega)) (ak (decide_eq_false h) rfl)) ?_
  refine ar (cF (by omega) (by omega)) (ar (cF (by simp; omega) (by simp; omega)) ?_)
  simp
theorem tO:∀ (ls:List (List Int)) (s:List Int),(∀ l∈ls,bM l)→s.length+2 * dZ ls<4294960000→jQ ve ls s=some (.inl (s++jn (ls.map lQ)))
 | [],s,_,_=>by simp [jQ,jn]
 | l::ls,s,hb,hs=>by
  simp only [dZ] at hs
  have h1:=yQ l
  simp only [jQ]
  rw [xT (hb l (by simp)) (by omega)]
  refine (tO ls _ (fun m hm=>hb m (by simp [hm])) (by simp only [List.length_append,List.length_cons,List.length_nil]; omega)).trans ?_
  simp [jn]
theorem mA {ls:List (List Int)} (h:∀ l∈ls,nZ l) (hb:∀ l∈ls,bM l) (hl:dZ ls<1000000000):gq (jn ls)=some (jn (ls.map lQ++[[46]]),0):=by
 unfold gq da
 refine ar (kx h hb (by omega)) (ak rfl (ar rfl ?_))
 refine aL (s:=jn (ls.map lQ)) (ei ve (rY h) (kJ hb) (by rw [cw]; omega) _ _ ?_) ?_
 ·have:=tO ls [] hb (by simp; omega)
  simpa using this
 ·have h2:=ri ls
  rw [KM]
  refine ar (cF (by rw [cw]; simp; omega) (by rw [cw]; simp; omega)) ?_
  rw [pM]; rfl
def nS:List Int→Int→Option (Int⊕Int):=fun (x:(List Int)) (s8:Int) =>
 (some (aO x)).bind fun v2 =>
 cond ((v2.toList==(⟨#[46]⟩:Li).toList))
  (some (.inr s8))
  ((some (IntKind.i64.wrap ((x.length:Int)+2))).bind fun v4 =>
  (some (IntKind.i64.wrap (s8+v4))).bind fun v5 =>
  some (.inl v5))
theorem Hu {x:List Int} (hb:bM x):((aO x).toList==(⟨#[46]⟩:Li).toList)=decide (x=[46]):=by
 rw [cq]
 refine decide_eq_decide.2 ⟨fun h => ?_,fun h=>by rw [h]; rfl⟩
 have:=congrArg ao h
 rw [aK hb,HL] at this
 exact this
theorem ES {x:List Int} {s:Nat} (hb:bM x) (h:x≠[46]) (hl:s+x.length<4611686018427387904):nS x (s:Int)=some (.inl ((s+(x.length+2):Nat):Int)):=by
 unfold nS
 refine ar rfl ?_
 rw [Hu hb]
 refine ak (decide_eq_false h) (ar (cN (by omega) (by omega)) (ar (cN (by omega) (by omega)) ?_))
 simp
theorem rJ (s:Int):nS [46] s=some (.inr s):=by
 unfold nS
 refine ar rfl ?_
 rw [Hu (by decide)]
 exact ap rfl rfl
theorem mK:∀ (ls ms:List (List Int)) (s:Nat),(∀ l∈ls,bM l∧l≠[46])→s+dZ ls<4611686018427387904→jQ nS (ls++ms) (s:Int)=jQ nS ms ((s+dZ ls:Nat):Int)
 | [],ms,s,_,_=>by simp [dZ]
 | l::ls,ms,s,hb,hs=>by
  simp only [dZ] at hs
  rw [List.cons_append]
  conv=>lhs; unfold jQ
  rw [ES (hb l (by simp)).1 (hb l (by simp)).2 (by omega)]
  refine (mK ls ms _ (fun m hm=>hb m (by simp [hm])) (by omega)).trans ?_
  simp only [dZ]
  rw [show s+(l.length+2)+dZ ls=s+(l.length+2+dZ ls) by omega]
theorem zQ {ls:List (List Int)} {more:List Int} (h:∀ l∈ls,nZ l) (hb:∀ l∈ls,bM l) (hd:∀ l∈ls,l≠[46]) (hm:bM more) (hl:dZ ls+more.length<4000000000) :
  cR (jn (ls++[[46]])++more)=some ((dZ ls:Int),true):=by
 obtain ⟨ms,r,H⟩:=sS more.length more (Nat.le_refl _)
 have H2:vF (jn (ls++[[46]])++more) ((ls++[[46]])++ms) r:=zA (fun l hl=>by
  rcases List.mem_append.1 hl with hl | hl
  ·exact h l hl
  ·simp at hl; subst hl; intro x hx; simp at hx; subst hx; decide) H
 unfold cR da
 refine ar rfl ?_
 refine jW (a:=(dZ ls:Int)) (ei nS H2 (bP (kJ fun l hl=>by
  rcases List.mem_append.1 hl with hl | hl
  ·exact hb l hl
  ·simp at hl; subst hl; decide) hm) (by rw [List.length_append,cw,jo]; simp [dZ]; omega) _ _ ?_) rfl
 rw [List.append_assoc]
 refine (mK ls _ 0 (fun l hl=>⟨hb l hl,hd l hl⟩) (by omega)).trans ?_
 simp only [List.cons_append,jQ,rJ]
 simp
theorem tw {b:List Int} {ls:List (List Int)} {r:List Int} (H:vF b ls r) (hb:bM b) (hd:∀ l∈ls,l≠[46]) (hl:b.length<4000000000):cR b=some (0,false):=by
 have hj:=mY H
 have ht:b.length=dZ ls+r.length:=by rw [hj,List.length_append,cw]
 unfold cR da
 refine ar rfl ?_
 refine aL (s:=((0+dZ ls:Nat):Int)) (ei nS H hb (by omega) _ _ ?_) rfl
 have:=mK ls [] 0 (fun l hl=>⟨lD H hb l hl,hd l hl⟩) (by omega)
 simpa [jQ] using this
def ql:List Int→List Int→Option (List Int⊕Unit):=fun (x:(List Int)) (s12:(List Int)) =>
 (dF x [46]).bind fun v8 =>
 (cr 1 s12 v8).bind fun v9 =>
 (cr 1 v9 (ao (⟨#[13,10]⟩:Li))).bind fun v10 =>
 some (.inl v10)
theorem GV {x:List Int} (hb:bM x) (hl:x.length<4294967281):dF x [46]=some (sR x):=by
 unfold dF
 refine ar (xY hb hl) ?_
 unfold sR
 by_cases h:x.head? = some 46
 ·rw [if_pos h]
  refine ap (decide_eq_true h) ?_
  cases x with
  | nil=>simp at h
  | cons y x =>
   have e1:eO (y::x) (([46]:List Int).length:Int) ((y::x).length:Int)=some x:=by
    have:=dB (y::x) (a:=1) (b:=(y::x).length) (by simp) (by simp)
    simpa using this
   exact ar e1 rfl
 ·rw [if_neg h]
  exact ak (decide_eq_false h) rfl
theorem uC (l:List Int):(sR l).length≤l.length:=by unfold sR; split <;> simp
theorem nu:∀ (ls:List (List Int)) (s:List Int),(∀ l∈ls,bM l)→s.length+dZ ls<4294960000→jQ ql ls s=some (.inl (s++jn (ls.map sR)))
 | [],s,_,_=>by simp [jQ,jn]
 | l::ls,s,hb,hs=>by
  simp only [dZ] at hs
  have h1:=uC l
  have e:ql l s=some (.inl (s++(sR l++[13,10]))):=by
   unfold ql
   rw [Ik]
   refine ar (GV (hb l (by simp)) (by omega)) (ar (cF (by omega) (by omega)) (ar (cF (by simp; omega) (by simp; omega)) ?_))
   simp
  simp only [jQ]
  rw [e]
  refine (nu ls _ (fun m hm=>hb m (by simp [hm])) (by simp only [List.length_append,List.length_cons,List.length_nil]; omega)).trans ?_
  simp [jn]
theorem vV {ls:List (List Int)} {more:List Int} (h:∀ l∈ls,nZ l) (hb:∀ l∈ls,bM l) (hd:∀ l∈ls,l≠[46]) (hm:bM more) (hl:dZ ls+more.length<4000000000) :
  dz (jn (ls++[[46]])++more)=some (jn (ls.map sR),((dZ ls+3:Nat):Int),0):=by
 have e1:eO (jn (ls++[[46]])++more) 0 (dZ ls:Int)=some (jn ls):=by
  have:=dB (jn (ls++[[46]])++more) (a:=0) (b:=dZ ls) (by omega) (by rw [List.length_append,cw,jo]; omega)
  rw [pM,List.append_assoc] at this ⊢
  rw [← cw] at this ⊢
  simpa using this
 unfold dz
 refine ar (zQ h hb hd hm hl) (ak rfl (ar e1 (ar (kx h hb (by omega)) (ak rfl (ar e1 ?_)))))
 unfold da
 refine ar rfl ?_
 refine aL (s:=jn (ls.map sR)) (ei ql (rY h) (kJ hb) (by rw [cw]; omega) _ _ ?_) ?_
 ·have:=nu ls [] hb (by simp; omega)
  simpa using this
 ·refine ar (cN (by omega) (by omega)) ?_
  simp
theorem rT {b:List Int} (h:cR b=some (0,false)):dz b=some ([],0,9):=by
 unfold dz
 exact ar h (ap rfl rfl)
def Jt (l:List ae) (s67:Int):((Int×Int))→Option ((Int×Int)⊕((Int)⊕((Int×Int)⊕((Int)⊕Bool)))):=(fun ((s98,s99):Int×Int) =>
 (cl s67 l.length).bind fun v18 =>
 (aQ l v18).bind fun v19 =>
 cond ((decide (s99<(v19.To.length:Int))))
  ((cl s67 l.length).bind fun v21 =>
  (aQ l v21).bind fun v22 =>
  (cl s99 v22.To.length).bind fun v23 =>
  (aQ v22.To v23).bind fun v24 =>
  (some (IntKind.i64.wrap (s98+(v24.Lc.size:Int)))).bind fun v25 =>
  (cl s67 l.length).bind fun v26 =>
  (aQ l v26).bind fun v27 =>
  (cl s99 v27.To.length).bind fun v28 =>
  (aQ v27.To v28).bind fun v29 =>
  (some (IntKind.i64.wrap (v25+(v29.KZ.size:Int)))).bind fun v30 =>
  (some (IntKind.i64.wrap (s99+1))).bind fun v31 =>
  some (.inl (v30,v31)))
  (some (.inr (.inl s98))))
def Dr (l:List ae):((Int×Int))→Option ((Int×Int)⊕((Int)⊕Bool)):=(fun ((s66,s67):Int×Int) =>
 cond ((decide (s67<(l.length:Int))))
  ((cl s67 l.length).bind fun v3 =>
  (aQ l v3).bind fun v4 =>
  (some (IntKind.i64.wrap (s66+(v4.KY.length:Int)))).bind fun v5 =>
  (cl s67 l.length).bind fun v6 =>
  (aQ l v6).bind fun v7 =>
  (some (IntKind.i64.wrap (v5+(v7.Lb.size:Int)))).bind fun v8 =>
  (cl s67 l.length).bind fun v9 =>
  (aQ l v9).bind fun v10 =>
  (some (IntKind.i64.wrap (v8+(v10.La.Lc.size:Int)))).bind fun v11 =>
  (cl s67 l.length).bind fun v12 =>
  (aQ l v12).bind fun v13 =>
  (some (IntKind.i64.wrap (v11+(v13.La.KZ.size:Int)))).bind fun v14 =>
  (cl s67 l.length).bind fun v15 =>
  (aQ l v15).bind fun v16 =>
  cond ((decide (40<(v16.To.length:Int))))
   (some (.inr (.inr (true))))
   (aI (S:=(Int)) (A:=((Int×Int)⊕((Int)⊕Bool)))
    (aT (S:=(Int×Int)) (O:=(Int)⊕((Int×Int)⊕((Int)⊕Bool))) (fun ((s98,s99):Int×Int) =>
     (cl s67 l.length).bind fun v18 =>
     (aQ l v18).bind fun v19 =>
     cond ((decide (s99<(v19.To.length:Int))))
      ((cl s67 l.length).bind fun v21 =>
      (aQ l v21).bind fun v22 =>
      (cl s99 v22.To.length).bind fun v23 =>
      (aQ v22.To v23).bind fun v24 =>
      (some (IntKind.i64.wrap (s98+(v24.Lc.size:Int)))).bind fun v25 =>
      (cl s67 l.length).bind fun v26 =>
      (aQ l v26).bind fun v27 =>
      (cl s99 v27.To.length).bind fun v28 =>
      (aQ v27.To v28).bind fun v29 =>
      (some (IntKind.i64.wrap (v25+(v29.KZ.size:Int)))).bind fun v30 =>
      (some (IntKind.i64.wrap (s99+1))).bind fun v31 =>
      some (.inl (v30,v31)))
      (some (.inr (.inl s98))))
     bX (v14,0))
    (fun (s101:Int) =>
     (some (IntKind.i64.wrap (s67+1))).bind fun v46 =>
     some (.inl (s101,v46))) some))
  (some (.inr (.inl s66))))
theorem tb {a b:Nat} (h:a+b<9223372036854775808):some (IntKind.i64.wrap ((a:Int)+(b:Int)))=some ((a+b:Nat):Int):=by
 rw [dO (by omega) (by omega)]; simp
def pW (p:aj):Nat:=p.Lc.size+p.KZ.size
def lG:List aj→Nat
 | []=>0
 | p::l=>pW p+lG l
def mW (m:ae):Nat:=m.KY.length+m.Lb.size+m.La.Lc.size+m.La.KZ.size+lG m.To
def lK:List ae→Nat
 | []=>0
 | m::l=>mW m+lK l
theorem Bc (l:List aj) (k:Nat) (hk:k<l.length):lG (l.take (k+1))=lG (l.take k)+pW l[k]:=by
 induction l generalizing k with
 | nil=>simp at hk
 | cons p l ih =>
  cases k with
  | zero=>simp [lG]
  | succ k =>
   simp only [List.take_succ_cons,lG,List.getElem_cons_succ]
   rw [ih k (by simpa using hk)]; omega
theorem zY (l:List ae) (k:Nat) (hk:k<l.length):lK (l.take (k+1))=lK (l.take k)+mW l[k]:=by
 induction l generalizing k with
 | nil=>simp at hk
 | cons p l ih =>
  cases k with
  | zero=>simp [lK]
  | succ k =>
   simp only [List.take_succ_cons,lK,List.getElem_cons_succ]
   rw [ih k (by simpa using hk)]; omega
theorem po (B:Nat):∀ (l:List aj),(∀ p∈l,pW p≤B)→lG l≤l.length * B
 | [],_=>by simp [lG]
 | p::l,h=>by
  have h1:=h p (by simp)
  have h2:=po B l (fun q hq=>h q (by simp [hq]))
  simp only [lG,List.length_cons,Nat.add_mul]; omega
theorem zK (B:Nat):∀ (l:List ae),(∀ p∈l,mW p≤B)→lK l≤l.length * B
 | [],_=>by simp [lK]
 | p::l,h=>by
  have h1:=h p (by simp)
  have h2:=zK B l (fun q hq=>h q (by simp [hq]))
  simp only [lK,List.length_cons,Nat.add_mul]; omega
theorem rv {m:ae}:∀ {l:List ae},m∈l→mW m≤lK l
 | x::l,h=>by
  rcases List.mem_cons.1 h with rfl | h
  ·simp only [lK]; omega
  ·have:=rv h; simp only [lK]; omega
theorem oH {p:aj}:∀ {l:List aj},p∈l→pW p≤lG l
 | x::l,h=>by
  rcases List.mem_cons.1 h with rfl | h
  ·simp only [lG]; omega
  ·have:=oH h; simp only [lG]; omega
def Hk (m:ae):Prop:=m.KY.length<140737488355328∧m.Lb.size<140737488355328∧m.La.Lc.size<140737488355328∧m.La.KZ.size<140737488355328∧m.To.length<140737488355328∧∀ p∈m.To,p.Lc.size<140737488355328∧p.KZ.size<140737488355328
theorem Dt (l:List ae) (i:Nat) (hi:i<l.length) (hm:Hk l[i]) (ht:l[i].To.length≤40) (A:Nat) (hA:A<1152921504606846976) :
  aT (Jt l (i:Int)) bX ((A:Int),0)=some (.inl ((A+lG l[i].To:Nat):Int)):=by
 have hix:cl (i:Int) l.length=some i:=bk hi
 have hg:aQ l i=some l[i]:=by simp [aQ,hi]
 obtain ⟨m,hmm⟩:∃ m,m=l[i]:=⟨_,rfl⟩
 rw [← hmm] at hm ht hg ⊢
 have hp:∀ p∈m.To,pW p≤281474976710656:=fun p hp=>by have:=hm.2.2.2.2.2 p hp; simp only [pW]; omega
 have hb:∀ k,lG (m.To.take k)≤40 * 281474976710656:=fun k=>by
  have h1:=po 281474976710656 (m.To.take k) (fun p hq=>hp p (List.mem_of_mem_take hq))
  have h2:(m.To.take k).length≤40:=by rw [List.length_take]; omega
  exact Nat.le_trans h1 (Nat.mul_le_mul_right _ h2)
 refine bS (fun k=>(((A+lG (m.To.take k):Nat):Int),(k:Int))) m.To.length bX (by simp [lG]) (by simp only [bX]; omega) (fun k hk => ?_) ?_
 ·have hk':k<m.To.length:=hk
  have hix2:cl (k:Int) m.To.length=some k:=bk hk'
  have hg2:aQ m.To k=some m.To[k]:=by simp [aQ,hk']
  have hb1:=hb k
  have hpk:=hm.2.2.2.2.2 m.To[k] (List.getElem_mem _)
  have hs:=Bc m.To k hk'
  refine ar hix (ar hg (ap (decide_eq_true (by omega)) (ar hix (ar hg (ar hix2 (ar hg2 (ar (tb (by omega)) (ar hix (ar hg (ar hix2 (ar hg2 (ar (tb (by omega)) (ar (congrArg some (aZ (by omega))) ?_))))))))))))) 
  rw [hs]
  simp only [pW,Nat.add_assoc]
 ·refine ar hix (ar hg (ak (decide_eq_false (by omega)) ?_))
  simp only [List.take_length]
def LM (m:ae):Prop:=m.To.length≤40∧mW m≤20000
theorem Ii {m:ae} (hm:Hk m) (ht:m.To.length≤40):mW m≤44 * 281474976710656:=by
 have h1:=po 281474976710656 m.To (fun p hq=>by have:=hm.2.2.2.2.2 p hq; simp only [pW]; omega)
 have h2:m.To.length * 281474976710656≤40 * 281474976710656:=Nat.mul_le_mul_right _ ht
 have:=hm.1; have:=hm.2.1; have:=hm.2.2.1; have:=hm.2.2.2.1
 simp only [mW]; omega
theorem yF (l:List ae) (hr:∀ m∈l,Hk m):∃ b,cn l=some b∧(b=false→l.length≤20∧∀ m∈l,LM m):=by
 by_cases hl:20<l.length
 ·refine ⟨true,?_,fun h=>by cases h⟩
  simp only [cn]
  exact ap (decide_eq_true (by omega)) rfl
 ·have go:∀ i,(hi:i<l.length)→l[i].To.length≤40→lK (l.take i)≤20 * (44 * 281474976710656)→Dr l (((lK (l.take i):Nat):Int),(i:Int))=some (.inl (((lK (l.take (i+1)):Nat):Int),((i+1:Nat):Int))):=by
   intro i hi ht hb
   have hix:cl (i:Int) l.length=some i:=bk hi
   have hg:aQ l i=some l[i]:=by simp [aQ,hi]
   have hm:=hr l[i] (List.getElem_mem _)
   have hm1:=hm.1; have hm2:=hm.2.1; have hm3:=hm.2.2.1; have hm4:=hm.2.2.2.1
   refine ap (decide_eq_true (by omega)) (ar hix (ar hg (ar (tb (by omega)) (ar hix (ar hg (ar (tb (by omega)) (ar hix (ar hg (ar (tb (by omega)) (ar hix (ar hg (ar (tb (by omega)) (ar hix (ar hg (ak (decide_eq_false (by omega)) (aL (Dt l i hi hm ht _ (by omega)) (ar (congrArg some (aZ (by omega))) ?_)))))))))))))))))
   rw [zY l i hi]
   simp only [mW,Nat.add_assoc]
  have hs:∀ k,k≤l.length→(∀ i,i<k→(h:i<l.length)→l[i].To.length≤40)→lK (l.take k)≤20 * (44 * 281474976710656):=by
   intro k hk ht
   have h1:=zK (44 * 281474976710656) (l.take k) (fun m hq=>by
    obtain ⟨j,hj,e⟩:=List.mem_iff_getElem.1 hq
    rw [List.getElem_take] at e
    rw [List.length_take] at hj
    rw [← e]
    exact Ii (hr _ (List.getElem_mem _)) (ht j (by omega) (by omega)))
   have h2:(l.take k).length≤20:=by rw [List.length_take]; omega
   exact Nat.le_trans h1 (Nat.mul_le_mul_right _ h2)
  rcases lF (fun i=>decide (∀ h:i<l.length,l[i].To.length≤40)) l.length with h | ⟨k,hk,h1,h2⟩
  ·have ht:∀ i,(h:i<l.length)→l[i].To.length≤40:=fun i hi=>of_decide_eq_true (h i hi) hi
   have hrun:aT (Dr l) bX (0,0)=some (.inl ((lK l:Nat):Int)):=by
    refine bS (fun k=>(((lK (l.take k):Nat):Int),(k:Int))) l.length bX rfl (by simp only [bX]; omega) (fun i hi=>go i hi (ht i hi) (hs i (by omega) (fun j _ hj=>ht j hj))) ?_
    refine ak (decide_eq_false (by omega)) ?_
    simp only [List.take_length]
   refine ⟨decide ((20000:Int)<((lK l:Nat):Int)),?_,fun hd=>⟨by omega,fun m hm=>⟨?_,?_⟩⟩⟩
   ·simp only [cn]
    exact ak (decide_eq_false (by omega)) (aL hrun rfl)
   ·obtain ⟨j,hj,e⟩:=List.mem_iff_getElem.1 hm
    rw [← e]; exact ht j hj
   ·have:=rv hm
    have:=of_decide_eq_false hd
    omega
  ·have h2':40<l[k].To.length:=by
    have:=of_decide_eq_false h2
    apply Classical.byContradiction
    intro hh
    exact this (fun _=>Nat.le_of_not_lt hh)
   have ht:∀ i,i<k→(h:i<l.length)→l[i].To.length≤40:=fun i hi h=>of_decide_eq_true (h1 i hi) h
   have hrun:aT (Dr l) bX (0,0)=some (.inr true):=by
    refine bS (fun k=>(((lK (l.take k):Nat):Int),(k:Int))) k bX rfl (by simp only [bX]; omega) (fun i hi=>go i (by omega) (ht i hi (by omega)) (hs i (by omega) (fun j hj h=>ht j (by omega) h))) ?_
    have hix:cl (k:Int) l.length=some k:=bk hk
    have hg:aQ l k=some l[k]:=by simp [aQ,hk]
    have hm:=hr l[k] (List.getElem_mem _)
    have hm1:=hm.1; have hm2:=hm.2.1; have hm3:=hm.2.2.1; have hm4:=hm.2.2.2.1
    have hb:=hs k (by omega) ht
    exact ap (decide_eq_true (by omega)) (ar hix (ar hg (ar (tb (by omega)) (ar hix (ar hg (ar (tb (by omega)) (ar hix (ar hg (ar (tb (by omega)) (ar hix (ar hg (ar (tb (by omega)) (ar hix (ar hg (ap (decide_eq_true (by omega)) rfl)))))))))))))))
   refine ⟨true,?_,fun h=>by cases h⟩
   simp only [cn]
   exact ak (decide_eq_false (by omega)) (jW hrun rfl)
set_option maxRecDepth 10000
theorem fI {m:ae} (h:LM m):Small m.La∧(∀ p∈m.To,Small p)∧m.KY.length≤20000∧m.To.length≤40:=by
 obtain ⟨h1,h2⟩:=h
 have h2':=h2
 simp only [mW] at h2
 refine ⟨⟨by omega,by omega⟩,fun p hp => ?_,by omega,h1⟩
 have:=oH hp
 simp only [pW] at this
 exact ⟨by omega,by omega⟩
def KU (mails:List ae):(((List Int)×Int))→Option (((List Int)×Int)⊕(((List Int))⊕(List Int))):=(fun ((s46,s47):(List Int)×Int) =>
 cond ((decide (s47<(mails.length:Int))))
  ((cl s47 mails.length).bind fun v2 =>
  (aQ mails v2).bind fun v3 =>
  (cd (⟨#[77,65,73,76,32,70,82,79,77,58]⟩:Li) (aj.mk v3.La.Le v3.La.Lc v3.La.KZ) s46).bind fun v4 =>
  aI (S:=((List Int))) (A:=(((List Int)×Int)⊕(((List Int))⊕(List Int))))
   (aT (S:=((List Int)×Int)) (O:=((List Int))⊕(((List Int)×Int)⊕(((List Int))⊕(List Int)))) (fun ((s76,s77):(List Int)×Int) =>
    cond ((decide (s77<(v3.To.length:Int))))
     ((cl s77 v3.To.length).bind fun v6 =>
     (aQ v3.To v6).bind fun v7 =>
     (cd (⟨#[82,67,80,84,32,84,79,58]⟩:Li) v7 s76).bind fun v8 =>
     (some (IntKind.i64.wrap (s77+1))).bind fun v9 =>
     some (.inl (v8,v9)))
     (some (.inr (.inl s76))))
    bX (v4,0))
   (fun (s79:(List Int)) =>
    (cr 1 s79 (ao (⟨#[68,65,84,65,13,10]⟩:Li))).bind fun v24 =>
    (gq v3.KY).bind fun v25 =>
    (cr 1 v24 v25.1).bind fun v26 =>
    (some (IntKind.i64.wrap (s47+1))).bind fun v27 =>
    some (.inl (v26,v27))) some)
  (some (.inr (.inl s46))))
def KH (v3:ae):(((List Int)×Int))→Option (((List Int)×Int)⊕(((List Int))⊕(((List Int)×Int)⊕(((List Int))⊕(List Int))))):=(fun ((s76,s77):(List Int)×Int) =>
 cond ((decide (s77<(v3.To.length:Int))))
  ((cl s77 v3.To.length).bind fun v6 =>
  (aQ v3.To v6).bind fun v7 =>
  (cd (⟨#[82,67,80,84,32,84,79,58]⟩:Li) v7 s76).bind fun v8 =>
  (some (IntKind.i64.wrap (s77+1))).bind fun v9 =>
  some (.inl (v8,v9)))
  (some (.inr (.inl s76))))
def iT:List Int:=[77,65,73,76,32,70,82,79,77,58]
def jx:List Int:=[82,67,80,84,32,84,79,58]
def pL (w:List Int) (p:aj):List Int:=w++(fw p++[13,10])
def iN:List aj→List Int
 | []=>[]
 | p::l=>pL jx p++iN l
theorem ph:∀ a b,iN (a++b)=iN a++iN b
 | [],b=>rfl
 | p::a,b=>by simp only [List.cons_append,iN,ph a b,List.append_assoc]
def eX (b:List Int):List Int:=((gq b).map (·.1)).getD []
def qy (m:ae):List Int:=pL iT m.La++(iN m.To++([68,65,84,65,13,10]++eX m.KY))
def dw:List ae→List Int
 | []=>[]
 | m::l=>qy m++dw l
theorem ln:∀ a b,dw (a++b)=dw a++dw b
 | [],b=>rfl
 | p::a,b=>by simp only [List.cons_append,dw,ln a b,List.append_assoc]
structure Vm (m:ae):Prop where
 lm:LM m
 pf:eI m.La=true
 pt:∀ p∈m.To,eI p=true
 bd:∃ ls,(∀ l∈ls,nZ l)∧(∀ l∈ls,bM l)∧m.KY=jn ls
theorem qZ {p:aj} (h:pW p≤20000):(fw p).length≤20010:=by
 simp only [pW] at h
 unfold fw
 cases p.Le
 ·simp only [cond_false,List.length_cons,List.length_append,aN,List.length_nil]; omega
 ·simp
theorem CK {word:Li} {w:List Int} {p:aj} {cap:List Int} (hw:ao word=w) (hwl:w.length≤100) (hp:eI p=true) (hs:Small p) (hpl:pW p≤20000) (hc:cap.length≤1000000000):cd word p cap=some (cap++pL w p):=by
 have hl:=qZ hpl
 unfold cd
 have hb:ao (aO (fw p))=fw p:=aK (gQ p)
 have hwb:bM w:=by rw [← hw]; exact cv word
 have h2:ao (aO (w++fw p))=w++fw p:=aK (bP hwb (gQ p))
 have h3:bM [13,10]:=by intro x hx; simp only [List.mem_cons,List.not_mem_nil,or_false] at hx; omega
 have h4:ao (aO ((w++fw p)++[13,10]))=pL w p:=by rw [aK (bP (bP hwb (gQ p)) h3)]; simp [pL]
 refine ar ((Dx p hs).trans (by rw [hp])) (ar (oz hw hb (by omega)) (ar (oz h2 Ik (by simp only [List.length_append,List.length_cons,List.length_nil]; omega)) (ar ?_ rfl)))
 rw [h4]
 exact cF (by simp only [pL,List.length_append,List.length_cons,List.length_nil]; omega) (by simp only [pL,List.length_append,List.length_cons,List.length_nil]; omega)
theorem pA {w:List Int} {p:aj} (hw:w.length≤100) (hpl:pW p≤20000):(pL w p).length≤20200:=by
 have:=qZ hpl
 simp only [pL,List.length_append,List.length_cons,List.length_nil]; omega
theorem nr:∀ {l:List aj},(∀ p∈l,pW p≤20000)→(iN l).length≤l.length * 20200
 | [],_=>by simp [iN]
 | p::l,h=>by
  have h1:=pA (w:=jx) (by decide) (h p List.mem_cons_self)
  have h2:=nr (l:=l) fun q hq=>h q (List.mem_cons_of_mem _ hq)
  simp only [iN,List.length_append,List.length_cons]; omega
theorem vP {m:ae} (h:LM m):pW m.La≤20000∧∀ p∈m.To,pW p≤20000:=by
 obtain ⟨h1,h2⟩:=h
 simp only [mW] at h2
 refine ⟨by simp only [pW]; omega,fun p hp => ?_⟩
 have:=oH hp
 omega
theorem uT {m:ae} (h:Vm m):gq m.KY=some (eX m.KY,0)∧(eX m.KY).length≤50000:=by
 obtain ⟨ls,h1,h2,h3⟩:=h.bd
 have hl:=(fI h.lm).2.2.1
 have ht:dZ ls≤20000:=by rw [← cw,← h3]; exact hl
 have hs:=mA h1 h2 (by omega:dZ ls<1000000000)
 rw [← h3] at hs
 have e:eX m.KY=jn (ls.map lQ++[[46]]):=by unfold eX; rw [hs]; rfl
 refine ⟨by rw [e]; exact hs,?_⟩
 rw [e,cw,jo]
 have:=ri ls
 simp only [dZ,List.length_cons,List.length_nil]
 omega
theorem Ej {m:ae} (h:Vm m):(qy m).length≤1000000:=by
 obtain ⟨h1,h2⟩:=vP h.lm
 have a:=pA (w:=iT) (by decide) h1
 have b:=nr h2
 have c:=(uT h).2
 have d:=h.lm.1
 have e:m.To.length * 20200≤40 * 20200:=Nat.mul_le_mul_right _ d
 simp only [qy,List.length_append,List.length_cons,List.length_nil]; omega
theorem jy:∀ {l:List ae},(∀ m∈l,Vm m)→(dw l).length≤l.length * 1000000
 | [],_=>by simp [dw]
 | p::l,h=>by
  have h1:=Ej (h p List.mem_cons_self)
  have h2:=jy (l:=l) fun q hq=>h q (List.mem_cons_of_mem _ hq)
  simp only [dw,List.length_append,List.length_cons]; omega
theorem EG {m:ae} (h:Vm m) (A:List Int) (hA:A.length≤100000000):aT (KH m) bX (A,0)=some (.inl (A++iN m.To)):=by
 obtain ⟨h1,h2⟩:=vP h.lm
 have hsm:=(fI h.lm).2.1
 have d:=h.lm.1
 refine bS (fun i=>(A++iN (m.To.take i),((i:Nat):Int))) m.To.length bX (by simp [iN]) (by simp only [bX]; omega) (fun i hi => ?_) ?_
 ·have hm:=List.getElem_mem hi
  have hb:=nr (l:=m.To.take i) fun p hp=>h2 p (List.mem_of_mem_take hp)
  have hbl:(m.To.take i).length≤40:=by simp only [List.length_take]; omega
  have hb':(m.To.take i).length * 20200≤40 * 20200:=Nat.mul_le_mul_right _ hbl
  have e:iN (m.To.take (i+1))=iN (m.To.take i)++pL jx m.To[i]:=by
   rw [List.take_succ_eq_append_getElem hi,ph]
   simp only [iN,List.append_nil]
  refine ap (decide_eq_true (by omega)) (ar (bk hi) (ar (by simp [aQ,hi]:aQ m.To i=some m.To[i]) (ar (CK (w:=jx) rfl (by decide) (h.pt _ hm) (hsm _ hm) (h2 _ hm) (by simp only [List.length_append]; omega)) (ar (congrArg some (aZ (n:=i) (by omega))) ?_))))
  rw [e,List.append_assoc]
 ·simp only [List.take_length]
  exact ak (decide_eq_false (by omega)) rfl
theorem vN {l:List ae} (h:∀ m∈l,Vm m) (hl:l.length≤20):fT l=some (dw l++[81,85,73,84,13,10]):=by
 unfold fT
 have hcl:=jy h
 refine aL (s:=dw l) (bS (f:=KU l) (fun i=>(dw (l.take i),((i:Nat):Int))) l.length bX (by simp [dw]) (by simp only [bX]; omega) (fun i hi => ?_) ?_) (ar (cF (by simp only [aN]; show _≤_; have:(⟨#[81,85,73,84,13,10]⟩:Li).size=6:=rfl; omega) (by simp only [aN]; have:(⟨#[81,85,73,84,13,10]⟩:Li).size=6:=rfl; omega)) rfl)
 ·have hm:=h _ (List.getElem_mem hi)
  obtain ⟨h1,h2⟩:=vP hm.lm
  have hsm:=fI hm.lm
  have hb:=jy (l:=l.take i) fun p hp=>h p (List.mem_of_mem_take hp)
  have hbl:(l.take i).length≤20:=by simp only [List.length_take]; omega
  have hb':(l.take i).length * 1000000≤20 * 1000000:=Nat.mul_le_mul_right _ hbl
  have a:=pA (w:=iT) (by decide) h1
  have hr:=nr h2
  have hr':l[i].To.length * 20200≤40 * 20200:=Nat.mul_le_mul_right _ hm.lm.1
  obtain ⟨hs1,hs2⟩:=uT hm
  have e:dw (l.take (i+1))=dw (l.take i)++qy l[i]:=by
   rw [List.take_succ_eq_append_getElem hi,ln]
   simp only [dw,List.append_nil]
  refine ap (decide_eq_true (by omega)) (ar (bk hi) (ar (by simp [aQ,hi]:aQ l i=some l[i]) (ar (CK (w:=iT) (p:=l[i].La) rfl (by decide) hm.pf hsm.1 h1 (by omega)) (aL (EG hm _ (by simp only [List.length_append]; omega)) (ar (cF (m:=[68,65,84,65,13,10]) (by simp only [List.length_append,List.length_cons,List.length_nil]; omega) (by simp only [List.length_append,List.length_cons,List.length_nil]; omega)) (ar hs1 (ar (cF (by simp only [List.length_append,List.length_cons,List.length_nil]; omega) (by simp only [List.length_append,List.length_cons,List.length_nil]; omega)) (ar (congrArg some (aZ (n:=i) (by omega))) ?_))))))))
  rw [e]
  simp only [qy,List.append_assoc]
 ·simp only [List.take_length]
  exact ak (decide_eq_false (by omega)) rfl
set_option maxRecDepth 10000
def kM:Nat→Nat→List Int→List Int
 | 0,n,acc=>(48+(n:Int))::acc
 | k+1,n,acc=>if n≤9 then (48+(n:Int))::acc else kM k (n / 10) ((48+((n % 10:Nat):Int))::acc)
def Aq (c:Int):Prop:=48≤c∧c≤57
theorem uF:∀ (k n:Nat) (acc:List Int),n<10 ^ (k+1)→∃ t,kM k n acc=t++acc∧(∀ x∈t,Aq x)∧1≤t.length∧t.length≤k+1
 | 0,n,acc,hn=>⟨[48+(n:Int)],rfl,fun x hx=>by simp at hx; subst hx; simp at hn; exact ⟨by omega,by omega⟩,by simp,by simp⟩
 | k+1,n,acc,hn=>by
  unfold kM
  by_cases h9:n≤9
  ·rw [if_pos h9]
   exact ⟨[48+(n:Int)],rfl,fun x hx=>by simp at hx; subst hx; exact ⟨by omega,by omega⟩,by simp,by simp⟩
  ·rw [if_neg h9]
   have hn2:n / 10<10 ^ (k+1):=by rw [Nat.pow_succ] at hn; omega
   obtain ⟨t,e,h1,h2,h3⟩:=uF k (n / 10) ((48+((n % 10:Nat):Int))::acc) hn2
   refine ⟨t++[48+((n % 10:Nat):Int)],by rw [e]; simp,fun x hx => ?_,by simp,by simp; omega⟩
   rcases List.mem_append.1 hx with hx | hx
   ·exact h1 x hx
   ·simp at hx; subst hx; exact ⟨by omega,by omega⟩
theorem yX:∀ (k n:Nat) (acc:List Int),n<10 ^ (k+1)→(Lib.decDigits n).map (fun b=>(b.toNat:Int))++acc=kM k n acc
 | 0,n,acc,hn=>by
  have h:n<10:=by simpa using hn
  rw [Lib.decDigits_one h]
  show ((UInt8.ofNat (48+n)).toNat:Int)::acc=(48+(n:Int))::acc
  rw [UInt8.toNat_ofNat',Nat.mod_eq_of_lt (by omega)]
  simp
 | k+1,n,acc,hn=>by
  unfold kM
  by_cases h9:n≤9
  ·rw [if_pos h9,Lib.decDigits_one (by omega)]
   show ((UInt8.ofNat (48+n)).toNat:Int)::acc=(48+(n:Int))::acc
   rw [UInt8.toNat_ofNat',Nat.mod_eq_of_lt (by omega)]
   simp
  ·rw [if_neg h9]
   have hn2:n / 10<10 ^ (k+1):=by rw [Nat.pow_succ] at hn; omega
   rw [← yX k (n / 10) _ hn2,Lib.decDigits,dif_neg (by omega)]
   simp only [List.map_append,List.map_cons,List.map_nil,List.append_assoc,List.cons_append,List.nil_append]
   rw [UInt8.toNat_ofNat',Nat.mod_eq_of_lt (by omega)]
   simp
def Hq:Li:=⟨#[48,49,50,51,52,53,54,55,56,57]⟩
theorem Cv:(List.range 10).all (fun k=>decide (fL Hq ((k:Nat):Int) ((k+1:Nat):Int)=some (aO [48+((k:Nat):Int)])))=true:=by kernel_rfl
theorem vA {k:Nat} (h:k<10):fL Hq (k:Int) ((k+1:Nat):Int)=some (aO [48+(k:Int)]):=by
 have:=List.all_eq_true.1 Cv k (List.mem_range.2 h)
 exact of_decide_eq_true this
theorem Ck {n:Nat} (h:n≤9):bM [48+(n:Int)]:=dj (by omega) dx
theorem Ew (k n:Nat) (h:n<10 ^ (k+1)) (h2:n<9000000000000000000):strconv_Itoa (n:Int)=some (aO (kM k n [])):=by
 unfold strconv_Itoa
 rw [if_pos (by omega),← yX k n [] h]
 congr 1
 have:Lib.itoa (n:Int)=Lib.decDigits n:=by unfold Lib.itoa; rw [if_neg (by omega),Int.toNat_natCast]
 rw [this,List.append_nil]
 apply iZ
 rw [aK (fun x hx=>by
  obtain ⟨b,_,rfl⟩:=List.mem_map.1 hx
  have:=b.toNat_lt
  omega)]
 simp [ao]
set_option maxRecDepth 10000
def KW (b:az) (v3:List Int) (v4:Int):((Li×Int))→Option ((Li×Int)⊕((Li)⊕((List Int)×Int))):=(fun ((s51,s52):Li×Int) =>
 cond ((decide (s52<(([b.Lg,b.Lf,(b.Ld.length:Int),(v3.length:Int),v4].length:Int)))))
  ((cl s52 [b.Lg,b.Lf,(b.Ld.length:Int),(v3.length:Int),v4].length).bind fun v6 =>
  (aQ [b.Lg,b.Lf,(b.Ld.length:Int),(v3.length:Int),v4] v6).bind fun v7 =>
  (strconv_Itoa v7).bind fun v8 =>
  (bQ (⟨#[32]⟩:Li) v8).bind fun v9 =>
  (bQ s51 v9).bind fun v10 =>
  (some (IntKind.i64.wrap (s52+1))).bind fun v11 =>
  some (.inl (v10,v11)))
  (some (.inr (.inl s51))))
def fR:List Int:=[66,85,78,68,76,69]
def fW:List Nat→List Int
 | []=>[]
 | n::l=>32::(kM 20 n []++fW l)
theorem wR:∀ a b,fW (a++b)=fW a++fW b
 | [],b=>rfl
 | n::a,b=>by simp only [List.cons_append,fW,wR a b,List.append_assoc]
theorem rU {n:Nat} (h:n<10 ^ 18):bM (kM 20 n [])∧(kM 20 n []).length≤21:=by
 obtain ⟨t,h1,h2,h3,h4⟩:=uF 20 n [] (by omega)
 rw [h1,List.append_nil]
 exact ⟨fun x hx=>by have:=h2 x hx; unfold Aq at this; omega,h4⟩
theorem oZ:∀ {l:List Nat},(∀ n∈l,n<10 ^ 18)→bM (fW l)∧(fW l).length≤l.length * 22
 | [],_=>⟨dx,by simp [fW]⟩
 | n::l,h=>by
  obtain ⟨h1,h2⟩:=rU (h n List.mem_cons_self)
  obtain ⟨h3,h4⟩:=oZ (l:=l) fun x hx=>h x (List.mem_cons_of_mem _ hx)
  refine ⟨dj (by omega) (bP h1 h3),?_⟩
  simp only [fW,List.length_cons,List.length_append]; omega
theorem DP (b:az) (v3:List Int) (v4:Int) (ns:List Nat) (hns:[b.Lg,b.Lf,(b.Ld.length:Int),(v3.length:Int),v4]=ns.map (fun n:Nat=>(n:Int))) (hn:∀ n∈ns,n<10 ^ 18) :
  aT (KW b v3 v4) bX ((⟨#[66,85,78,68,76,69]⟩:Li),0)=some (.inl (aO (fR++fW ns))):=by
 have hl:ns.length=5:=by have:=congrArg List.length hns; simpa using this.symm
 have hbw:bM fR:=by intro x hx; simp only [fR,List.mem_cons,List.not_mem_nil,or_false] at hx; omega
 have hB:∀ i,ao (aO (fR++fW (ns.take i)))=fR++fW (ns.take i):=fun i=>aK (bP hbw (oZ fun n h=>hn n (List.mem_of_mem_take h)).1)
 refine bS (fun i=>(aO (fR++fW (ns.take i)),((i:Nat):Int))) ns.length bX (by simp only [List.take_zero,fW,List.append_nil]; rfl) (by simp only [bX]; omega) (fun i hi => ?_) ?_
 ·have hi5:i<5:=by omega
  have hlen:(([b.Lg,b.Lf,(b.Ld.length:Int),(v3.length:Int),v4].length:Nat))=5:=rfl
  have hni:=hn _ (List.getElem_mem hi)
  obtain ⟨hd1,hd2⟩:=rU hni
  have hnl:=(oZ (l:=ns.take i) fun n h=>hn n (List.mem_of_mem_take h)).2
  have htl:(ns.take i).length≤5:=by simp only [List.length_take]; omega
  have hg:aQ [b.Lg,b.Lf,(b.Ld.length:Int),(v3.length:Int),v4] i=some ((ns[i]:Nat):Int):=by rw [hns]; simp [aQ,hi]
  have e:fW (ns.take (i+1))=fW (ns.take i)++(32::kM 20 ns[i] []):=by
   rw [List.take_succ_eq_append_getElem hi,wR]
   simp only [fW,List.append_nil]
  have h32:ao (⟨#[32]⟩:Li)=[32]:=rfl
  have hbl:fR.length=6:=rfl
  refine ap (decide_eq_true (by rw [hlen]; omega)) (ar (bk (by rw [hlen]; exact hi5)) (ar hg (ar (Ew 20 _ (by omega) (by omega)) (ar (oz h32 (aK hd1) (by simp only [List.length_cons,List.length_nil]; omega)) (ar (oz (hB i) (aK (bP (dj (by omega) dx) hd1)) (by simp only [List.length_append,List.length_cons,List.length_nil]; omega)) (ar (congrArg some (aZ (n:=i) (by omega))) ?_))))))
  rw [e,List.append_assoc]
  rfl
 ·simp only [List.take_length]
  have hlen:(([b.Lg,b.Lf,(b.Ld.length:Int),(v3.length:Int),v4].length:Nat))=5:=rfl
  exact ak (decide_eq_false (by rw [hlen]; omega)) rfl
theorem xl {b:az} {ns:List Nat} {v:Int} (hc:cS b=some 0) (hm:∀ m∈b.Ld,Vm m) (hl:b.Ld.length≤20) (hs:gC (dw b.Ld++[81,85,73,84,13,10])=some v)
  (hns:[b.Lg,b.Lf,(b.Ld.length:Int),((dw b.Ld++[81,85,73,84,13,10]).length:Int),v]=ns.map (fun n:Nat=>(n:Int))) (hn:∀ n∈ns,n<10 ^ 18) :
  bp b=some (if 4096<((fR++fW ns)++[13,10]++(dw b.Ld++[81,85,73,84,13,10])).length then ([],2) else ((fR++fW ns)++[13,10]++(dw b.Ld++[81,85,73,84,13,10]),0)):=by
 obtain ⟨c,hcd⟩:∃ c,c=dw b.Ld++[81,85,73,84,13,10]:=⟨_,rfl⟩
 have hcl:c.length≤20000006:=by
  have h1:=jy hm
  have h2:b.Ld.length * 1000000≤20 * 1000000:=Nat.mul_le_mul_right _ hl
  rw [hcd]; simp only [List.length_append,List.length_cons,List.length_nil]; omega
 have hcm:=vN hm hl
 rw [← hcd] at hs hns hcm ⊢
 have hlp:=DP b c v ns hns hn
 have hl5:ns.length=5:=by have:=congrArg List.length hns; simpa using this.symm
 obtain ⟨hb1,hb2⟩:=oZ hn
 have hbw:bM fR:=by intro x hx; simp only [fR,List.mem_cons,List.not_mem_nil,or_false] at hx; omega
 have hbl:fR.length=6:=rfl
 have h13:bM [13,10]:=by intro x hx; simp only [List.mem_cons,List.not_mem_nil,or_false] at hx; omega
 unfold bp
 refine ar hc (ak rfl (ar hcm (ar hs (aL hlp (ar (oz (aK (bP hbw hb1)) Ik (by simp only [List.length_append,List.length_cons,List.length_nil]; omega)) (ar (congrArg some (aK (bP (bP hbw hb1) h13))) (ar (cF (by simp only [List.length_append,List.length_cons,List.length_nil]; omega) (by simp only [List.length_append,List.length_cons,List.length_nil]; omega)) ?_)))))))
 by_cases h:4096<((fR++fW ns)++[13,10]++c).length
 ·rw [if_pos h]; exact ap (decide_eq_true (by omega)) rfl
 ·rw [if_neg h]; exact ak (decide_eq_false (by omega)) rfl
set_option maxRecDepth 10000
def IJ (m:ae):Int→Option (Int⊕(Unit⊕Bool)):=(fun (s24:Int) =>
 cond ((decide (s24<(m.To.length:Int))))
  ((cl s24 m.To.length).bind fun v8 =>
  (aQ m.To v8).bind fun v9 =>
  aI (S:=Bool) (A:=((Int)⊕((Unit)⊕Bool)))
   ((eC v9).bind fun v10 =>
   cond ((v10 != 0))
    (some (.inl true))
    (some (.inl v9.Le)))
   (fun (s38:Bool) =>
    cond (s38)
     (some (.inr (.inr (false))))
     ((some (IntKind.i64.wrap (s24+1))).bind fun v16 =>
     some (.inl v16))) some)
  (some (.inr (.inl ()))))
theorem cG {A:Type} {a b:Bool} (h:a=b):(some (.inl a):Option (Bool⊕A))=some (.inl b):=by rw [h]
theorem GR {m:ae} (h:LM m):∃ c,eU m=some c∧(c=true→eI m.La=true∧∀ p∈m.To,eI p=true):=by
 obtain ⟨hs1,hs2,hs3,hs4⟩:=fI h
 unfold eU
 cases hF:eI m.La
 ·exact ⟨false,aL (s:=true) (ar (ff _ hs1) (ap (by rw [hF]; rfl) rfl)) (ap rfl rfl),fun h=>by cases h⟩
 by_cases h1:m.To.length<1
 ·exact ⟨false,aL (s:=true) (ar (ff _ hs1) (ak (by rw [hF]; rfl) (ap (decide_eq_true (by omega)) rfl))) (ap rfl rfl),fun h=>by cases h⟩
 by_cases h8:8<m.To.length
 ·exact ⟨false,aL (s:=true) (ar (ff _ hs1) (ak (by rw [hF]; rfl) (ak (decide_eq_false (by omega)) (cG (decide_eq_true (by omega)))))) (ap rfl rfl),fun h=>by cases h⟩
 have step:∀ (i:Nat) (hi:i<m.To.length),(eI m.To[i] && !m.To[i].Le)=true→IJ m (i:Int)=some (.inl ((i+1:Nat):Int)):=by
  intro i hi hp
  rw [Bool.and_eq_true] at hp
  exact ap (decide_eq_true (by omega)) (ar (bk hi) (ar (by simp [aQ,hi]:aQ m.To i=some m.To[i]) (aL (s:=false) (ar (ff _ (hs2 _ (List.getElem_mem hi))) (ak (by rw [hp.1]; rfl) (cG (by simpa using hp.2)))) (ak rfl (ar (congrArg some (aZ (n:=i) (by omega))) rfl)))))
 rcases lF (fun i=>decide (∀ hi:i<m.To.length,(eI m.To[i] && !m.To[i].Le)=true)) m.To.length with ha | ⟨k,hk,hb,hno⟩
 ·refine ⟨true,aL (s:=false) (ar (ff _ hs1) (ak (by rw [hF]; rfl) (ak (decide_eq_false (by omega)) (cG (decide_eq_false (by omega)))))) (ak rfl (aL (s:=()) (bS (f:=IJ m) (fun i=>((i:Nat):Int)) m.To.length bX rfl (by simp only [bX]; omega) (fun i hi=>step i hi (of_decide_eq_true (ha i hi) hi)) (ak (decide_eq_false (by omega)) rfl)) rfl)),fun _=>⟨rfl,fun p hp => ?_⟩⟩
  obtain ⟨i,hi,rfl⟩:=List.getElem_of_mem hp
  have:=of_decide_eq_true (ha i hi) hi
  rw [Bool.and_eq_true] at this
  exact this.1
 ·have hn:¬ (eI m.To[k] && !m.To[k].Le)=true:=fun h=>by
   have:=of_decide_eq_false hno
   exact this fun _=>h
  refine ⟨false,aL (s:=false) (ar (ff _ hs1) (ak (by rw [hF]; rfl) (ak (decide_eq_false (by omega)) (cG (decide_eq_false (by omega)))))) (ak rfl (jW (a:=false) (bS (f:=IJ m) (fun i=>((i:Nat):Int)) k bX rfl (by simp only [bX]; omega) (fun i hi=>step i (by omega) (of_decide_eq_true (hb i hi) (by omega))) ?_) rfl)),fun h=>by cases h⟩
  refine ap (decide_eq_true (by omega)) (ar (bk hk) (ar (by simp [aQ,hk]:aQ m.To k=some m.To[k]) (aL (s:=true) (ar (ff _ (hs2 _ (List.getElem_mem hk))) ?_) (ap rfl rfl))))
  cases hp:eI m.To[k]
  ·exact ap rfl rfl
  ·refine ak rfl (cG ?_)
   rw [hp] at hn
   cases hu:m.To[k].Le
   ·rw [hu] at hn; exact absurd rfl hn
   ·rfl
theorem Il {m:ae} (h:LM m) (hb:bM m.KY):∃ c,cI m=some c∧(c=true→Vm m):=by
 obtain ⟨e,he,hev⟩:=GR h
 have hl:=(fI h).2.2.1
 unfold cI
 cases e
 ·exact ⟨false,aL (s:=false) (ar he (ak rfl rfl)) rfl,fun h=>by cases h⟩
 by_cases h4:m.KY.length≤4096
 ·rcases kT hb (by omega) with hd | ⟨ls,a,c,d⟩
  ·exact ⟨false,aL (s:=false) (ar he (ap rfl (ap (decide_eq_true (by omega)) (ar hd rfl)))) rfl,fun h=>by cases h⟩
  ·have hd:cM m.KY=some 0:=by rw [d]; exact kx a c (by rw [← cw,← d]; omega)
   exact ⟨true,aL (s:=true) (ar he (ap rfl (ap (decide_eq_true (by omega)) (ar hd rfl)))) rfl,fun _=>⟨h,(hev rfl).1,(hev rfl).2,ls,a,c,d⟩⟩
 ·exact ⟨false,aL (s:=false) (ar he (ap rfl (ak (decide_eq_false (by omega)) rfl))) rfl,fun h=>by cases h⟩
set_option maxRecDepth 10000
def IH (b:az):((Int))→Option ((Int)⊕((Unit)⊕Int)):=(fun (s28:Int) =>
 cond ((decide (s28<(b.Ld.length:Int))))
  ((cl s28 b.Ld.length).bind fun v12 =>
  (aQ b.Ld v12).bind fun v13 =>
  aI (S:=Bool) (A:=((Int)⊕((Unit)⊕Int)))
   ((cI ((ae.mk (aj.mk v13.La.Le v13.La.Lc v13.La.KZ) v13.To v13.KY v13.Lh v13.Lb v13.At))).bind fun v14 =>
   cond ((!v14))
    (some (.inl true))
    (cond (v13.Lh)
     (some (.inl true))
     (cond ((!(v13.Lb.toList==(⟨#[]⟩:Li).toList)))
      (some (.inl true))
      (some (.inl (v13.At != 0))))))
   (fun (s42:Bool) =>
    cond (s42)
     (some (.inr (.inr (5))))
     ((some (IntKind.i64.wrap (s28+1))).bind fun v20 =>
     some (.inl v20))) some)
  (some (.inr (.inl ()))))
theorem uc {f:Int→Option (Int⊕(Unit⊕Int))} {P:Nat→Prop} (n:Nat) (h:∀ i:Nat,i<n→(f (i:Int)=some (.inl ((i+1:Nat):Int))∧P i)∨f (i:Int)=some (.inr (.inr 5))) (hend:f (n:Int)=some (.inr (.inl ()))) :
  ∀ (d i fuel:Nat),i+d=n→d<fuel→(aT f fuel (i:Int)=some (.inl ())∧∀ j,i≤j→j<n→P j)∨aT f fuel (i:Int)=some (.inr 5)
 | d,i,0,_,hf=>absurd hf (Nat.not_lt_zero d)
 | 0,i,fuel+1,hd,hf=>by
  obtain rfl:i=n:=by omega
  exact .inl ⟨aV hend,fun j h1 h2=>by omega⟩
 | d+1,i,fuel+1,hd,hf=>by
  rcases h i (by omega) with ⟨h1,hp⟩ | h1
  ·rcases uc n h hend d (i+1) fuel (by omega) (by omega) with ⟨h2,h3⟩ | h2
   ·refine .inl ⟨by rw [bC h1]; exact h2,fun j h4 h5 => ?_⟩
    by_cases e:j=i
    ·rw [e]; exact hp
    ·exact h3 j (by omega) h5
   ·exact .inr (by rw [bC h1]; exact h2)
  ·exact .inr (aV h1)
theorem BK {b:az} (hm:∀ m∈b.Ld,LM m∧bM m.KY) (hl:b.Ld.length≤20) :
  ∃ e,cS b=some e∧(e=0∨e=5)∧(e=0→(b.Lg=0∨b.Lg=1)∧1≤b.Lf∧b.Lf≤65535∧1≤b.Ld.length∧b.Ld.length≤4∧∀ m∈b.Ld,Vm m):=by
 unfold cS
 have five:∀ {Q:Prop},(5:Int)=0→Q:=fun h=>absurd h (by decide)
 by_cases o:b.Lg=0∨b.Lg=1
 case neg =>
  have o0:b.Lg≠0:=fun h=>o (.inl h)
  have o1:b.Lg≠1:=fun h=>o (.inr h)
  exact ⟨5,aL (s:=true) (ap (by simpa using o0) (ap (by simpa using o1) rfl)) (ap rfl rfl),.inr rfl,five⟩
 by_cases nn:1≤b.Lf∧b.Lf≤65535
 case neg =>
  refine ⟨5,aL (s:=true) ?_ (ap rfl rfl),.inr rfl,five⟩
  have tail:∀ {A:Type},(cond (decide (b.Lf<1)) (some (.inl true)) (some (.inl (decide (65535<b.Lf)))):Option (Bool⊕A))=some (.inl true):=by
   intro A
   by_cases h:b.Lf<1
   ·exact ap (decide_eq_true h) rfl
   ·exact ak (decide_eq_false h) (cG (decide_eq_true (by omega)))
  rcases o with o | o
  ·exact ak (by rw [o]; rfl) tail
  ·exact ap (by rw [o]; rfl) (ak (by rw [o]; rfl) tail)
 have first:(cond (b.Lg != 0) (cond (b.Lg != 1) (some (.inl true)) (cond (decide (b.Lf<1)) (some (.inl true)) (some (.inl (decide (65535<b.Lf)))))) (cond (decide (b.Lf<1)) (some (.inl true)) (some (.inl (decide (65535<b.Lf))))):Option (Bool⊕Int))=some (.inl false):=by
  have tail:(cond (decide (b.Lf<1)) (some (.inl true)) (some (.inl (decide (65535<b.Lf)))):Option (Bool⊕Int))=some (.inl false):=ak (decide_eq_false (by omega)) (cG (decide_eq_false (by omega)))
  rcases o with o | o
  ·exact ak (by rw [o]; rfl) tail
  ·exact ap (by rw [o]; rfl) (ak (by rw [o]; rfl) tail)
 by_cases ml:1≤b.Ld.length∧b.Ld.length≤4
 case neg =>
  refine ⟨5,aL first (ak rfl (aL (s:=true) ?_ (ap rfl rfl))),.inr rfl,five⟩
  by_cases h:b.Ld.length<1
  ·exact ap (decide_eq_true (by omega)) rfl
  ·exact ak (decide_eq_false (by omega)) (cG (decide_eq_true (by omega)))
 have hstep:∀ i:Nat,i<b.Ld.length→(IH b (i:Int)=some (.inl ((i+1:Nat):Int))∧(∀ hi:i<b.Ld.length,Vm b.Ld[i]))∨IH b (i:Int)=some (.inr (.inr 5)):=by
  intro i hi
  obtain ⟨h3,h4⟩:=hm _ (List.getElem_mem hi)
  obtain ⟨c,hc,hv⟩:=Il h3 h4
  have hg:aQ b.Ld i=some b.Ld[i]:=by simp [aQ,hi]
  obtain ⟨x,hx⟩:∃ x:Bool,((cI b.Ld[i]).bind fun v14=>cond ((!v14)) (some (.inl true)) (cond (b.Ld[i].Lh) (some (.inl true)) (cond ((!(b.Ld[i].Lb.toList==(⟨#[]⟩:Li).toList))) (some (.inl true)) (some (.inl (b.Ld[i].At != 0))))):Option (Bool⊕(Int⊕(Unit⊕Int))))=some (.inl x)∧(x=false→c=true):=by
   cases c
   ·exact ⟨true,ar hc rfl,fun h=>by cases h⟩
   ·cases hq:b.Ld[i].Lh
    ·cases hh:(!(b.Ld[i].Lb.toList==(⟨#[]⟩:Li).toList))
     ·exact ⟨_,ar hc (ak rfl rfl),fun _=>rfl⟩
     ·exact ⟨true,ar hc (ak rfl rfl),fun _=>rfl⟩
    ·exact ⟨true,ar hc (ak rfl rfl),fun _=>rfl⟩
  cases x
  ·exact .inl ⟨ap (decide_eq_true (by omega)) (ar (bk hi) (ar hg (aL hx.1 (ak rfl (ar (congrArg some (aZ (n:=i) (by omega))) rfl))))),fun _=>hv (hx.2 rfl)⟩
  ·exact .inr (ap (decide_eq_true (by omega)) (ar (bk hi) (ar hg (aL hx.1 (ap rfl rfl)))))
 rcases uc (f:=IH b) (P:=fun i=>∀ hi:i<b.Ld.length,Vm b.Ld[i]) b.Ld.length hstep (ak (decide_eq_false (by omega)) rfl) b.Ld.length 0 bX (by omega) (by simp only [bX]; omega) with ⟨h1,h2⟩ | h1
 ·refine ⟨0,aL first (ak rfl (aL (s:=false) (ak (decide_eq_false (by omega)) (cG (decide_eq_false (by omega)))) (ak rfl (aL (s:=()) h1 rfl)))),.inl rfl,fun _=>⟨o,nn.1,nn.2,ml.1,ml.2,fun m hmm => ?_⟩⟩
  obtain ⟨i,hi,rfl⟩:=List.getElem_of_mem hmm
  exact h2 i (by omega) hi hi
 ·exact ⟨5,aL first (ak rfl (aL (s:=false) (ak (decide_eq_false (by omega)) (cG (decide_eq_false (by omega)))) (ak rfl (jW (a:=5) h1 rfl)))),.inr rfl,five⟩
end Go.Abs.Sh
