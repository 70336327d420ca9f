import Derived.Test.YtglabbpbianmnaaGreatDoorSh
import Derived.KernelRfl
set_option linter.unusedVariables false
set_option linter.unusedSimpArgs false
set_option linter.unusedSectionVars false
namespace Go.Abs.Sh
set_option linter.unusedVariables false
theorem dK {n:Int} (h0 : -9223372036854775808≤n) (h1:n<9223372036854775808):IntKind.i64.wrap n=n:=by
 simp only [IntKind.wrap,IntKind.bits,IntKind.signed]
 have e:(2:Int) ^ 64=18446744073709551616:=by decide
 have e2:(2:Int) ^ (64-1)=9223372036854775808:=by decide
 simp only [e,e2,Bool.true_and,decide_eq_true_eq]
 split <;> omega
theorem bi {i n:Nat} (h:i<n):cj (i:Int) n=some i:=by simp [cj]; omega
theorem cv {A:Type} {l:List A} {i:Nat} (h:i<l.length):aN l i=some l[i]:=by simp [aN,h]
theorem ar {A R:Type} {m:Option A} {f:A→Option R} {x:A} {r:Option R} (h:m=some x) (h2:f x=r):m.bind f=r:=by subst h; exact h2
theorem aI {S A R:Type} {m:Option (S⊕A)} {k:S→Option R} {e:A→Option R} {s:S} {r:Option R} (h:m=some (.inl s)) (h2:k s=r):aF m k e=r:=by subst h; exact h2
theorem jY {S A R:Type} {m:Option (S⊕A)} {k:S→Option R} {e:A→Option R} {a:A} {r:Option R} (h:m=some (.inr a)) (h2:e a=r):aF m k e=r:=by subst h; exact h2
theorem bx {S O:Type} {step:S→Option (S⊕O)} {n:Nat} {s s':S} (h:step s=some (.inl s')):aQ step (n+1) s=aQ step n s':=by
 simp only [aQ,h]
theorem aS {S O:Type} {step:S→Option (S⊕O)} {n:Nat} {s:S} {o:O} (h:step s=some (.inr o)):aQ step (n+1) s=some o:=by
 simp only [aQ,h]
theorem ak {R:Type} {c:Bool} {x y r:R} (hc:c=false) (h:y=r):cond c x y=r:=by subst hc; exact h
theorem ap {R:Type} {c:Bool} {x y r:R} (hc:c=true) (h:x=r):cond c x y=r:=by subst hc; exact h
theorem Ck {S O:Type} {f:S→Option (S⊕O)} (st:Nat→S) {o:O}:∀ (n fuel:Nat),n<fuel→(∀ i,i<n→f (st i)=some (.inl (st (i+1))))→f (st n)=some (.inr o)→aQ f fuel (st 0)=some o:=by
 intro n
 induction n generalizing st with
 | zero =>
  intro fuel hf _ he
  obtain ⟨k,rfl⟩:∃ k,fuel=k+1:=⟨fuel-1,by omega⟩
  exact aS he
 | succ n ih =>
  intro fuel hf hs he
  obtain ⟨k,rfl⟩:∃ k,fuel=k+1:=⟨fuel-1,by omega⟩
  rw [bx (hs 0 (by omega))]
  exact ih (fun i=>st (i+1)) k (by omega) (fun i hi=>hs (i+1) (by omega)) he
theorem bP {S O:Type} {f:S→Option (S⊕O)} {s:S} (st:Nat→S) {o:O} (n fuel:Nat) (h0:st 0=s) (hn:n<fuel) (hs:∀ i,i<n→f (st i)=some (.inl (st (i+1)))) (he:f (st n)=some (.inr o)):aQ f fuel s=some o:=by
 subst h0; exact Ck st n fuel hn hs he
theorem lO (p:Nat→Bool):∀ n,(∀ i,i<n→p i=true)∨∃ k,k<n∧(∀ i,i<k→p i=true)∧p k=false
 | 0 => .inl fun i h=>absurd h (Nat.not_lt_zero i)
 | n+1=>by
  rcases lO p n with h | ⟨k,h1,h2,h3⟩
  ·cases hp:p n
   ·exact .inr ⟨n,by omega,h,hp⟩
   ·refine .inl fun i hi => ?_
    by_cases h':i=n
    ·subst h'; exact hp
    ·exact h i (by omega)
  ·exact .inr ⟨k,by omega,h2,h3⟩
theorem gL {R:Type} {f:Int→Option (Int⊕(Unit⊕R))} (p:Nat→Bool) (n:Nat) (r:R) {fuel:Nat} (hf:n<fuel) (hgo:∀ i,i<n→p i=true→f (i:Int)=some (.inl ((i+1:Nat):Int))) (hno:∀ i,i<n→p i=false→f (i:Int)=some (.inr (.inr r))) (hend:f (n:Int)=some (.inr (.inl ()))) :
  aQ f fuel 0=some (if ∀ i,i<n→p i=true then .inl () else .inr r):=by
 rcases lO p n with h | ⟨k,h1,h2,h3⟩
 ·rw [if_pos h]
  exact bP (fun i=>(i:Int)) n fuel rfl hf (fun i hi=>hgo i hi (h i hi)) hend
 ·rw [if_neg fun h=>by rw [h k h1] at h3; cases h3]
  exact bP (fun i=>(i:Int)) k fuel rfl (by omega) (fun i hi=>hgo i (by omega) (h2 i hi)) (hno k h1 h3)
theorem CT (n:Nat) (h:n<9223372036854775808):IntKind.i64.wrap (n:Int)=(n:Int):=dK (by omega) (by omega)
theorem aW {n:Nat} (h:n<4611686018427387904):IntKind.i64.wrap ((n:Int)+1)=((n+1:Nat):Int):=by rw [dK (by omega) (by omega)]; simp
theorem nr {n:Int} (h0 : -9223372036854775808≤n) (h1:n<9223372036854775808):some (IntKind.i64.wrap n)=some n:=by rw [dK h0 h1]
theorem EW {n:Int} (h0:0≤n) (h1:n<256):IntKind.u8.wrap n=n:=by
 simp only [IntKind.wrap,IntKind.bits,IntKind.signed]
 have e:(2:Int) ^ 8=256:=by decide
 simp only [e,Bool.false_and,Bool.false_eq_true,if_false]
 omega
theorem DH (a b:Nat) (hb:0<b) (ha:a<9223372036854775808):uI .i64 (a:Int) (b:Int)=some ((a / b:Nat):Int):=by
 simp only [uI]
 have:a / b≤a:=Nat.div_le_self a b
 rw [if_neg (by omega),Int.tdiv_eq_ediv_of_nonneg (by omega)]
 have e:(a:Int) / (b:Int)=((a / b:Nat):Int):=rfl
 rw [e,CT _ (by omega)]
theorem uX (a b:Nat) (hb:0<b):ny (a:Int) (b:Int)=some ((a % b:Nat):Int):=by
 simp only [ny]
 rw [if_neg (by omega),Int.tmod_eq_emod_of_nonneg (by omega)]
 rfl
theorem du {A:Type} (l:List A) {a b:Nat} (h1:a≤b) (h2:b≤l.length):eM l (a:Int) (b:Int)=some ((l.drop a).take (b-a)):=by
 unfold eM
 rw [if_pos (by omega)]
 simp only [Int.toNat_natCast]
theorem cA {A:Type} {k:Nat} {l m:List A} (h:(l.length+m.length) * k≤140737488355328) (h1:l.length+m.length≤140737488355328):co k l m=some (l++m):=by
 unfold co; rw [if_pos ⟨h,h1⟩]
theorem cq (s:Ll):bJ (ao s):=by
 intro x hx
 simp only [ao,List.mem_map] at hx
 obtain ⟨b,_,rfl⟩:=hx
 have:=b.toNat_lt
 omega
theorem im (s:Ll):aL (ao s)=s:=by
 obtain ⟨⟨l⟩⟩:=s
 simp only [aL,ao,List.map_map]
 congr 2
 conv=>rhs; rw [← List.map_id l]
 apply List.map_congr_left
 intro b _
 simp
theorem aH {l:List Int} (h:bJ l):ao (aL l)=l:=by
 simp only [aL,ao,List.map_map]
 conv=>rhs; rw [← List.map_id l]
 apply List.map_congr_left
 intro x hx
 have:=h x hx
 simp only [Function.comp,id_eq,UInt8.toNat_ofNat']
 omega
theorem iW {s t:Ll} (h:ao s=ao t):s=t:=by rw [← im s,h,im]
theorem cV (l:List Int):(aL l).size=l.length:=by simp [aL,ByteArray.size]
theorem dn {l:List Int} (h:bJ l) (n:Nat):bJ (l.drop n):=fun x hx=>h x (List.mem_of_mem_drop hx)
theorem eO {l:List Int} (h:bJ l) (n:Nat):bJ (l.take n):=fun x hx=>h x (List.mem_of_mem_take hx)
theorem bM {l m:List Int} (h:bJ l) (k:bJ m):bJ (l++m):=by
 intro x hx
 rcases List.mem_append.1 hx with h1 | h1
 ·exact h x h1
 ·exact k x h1
theorem tQ {l:List Int} (h:IJ (ra .u8) l):bJ l:=by
 intro x hx
 have:=h.2 x hx
 simp only [ra,Lit.wf,IntKind.min,IntKind.max,IntKind.signed,IntKind.bits] at this
 have h2:0≤x∧x≤255:=by simpa using this
 omega
theorem uj {s:Ll} {i:Nat} (h:i<s.size):dh s (i:Int)=some ((ao s)[i]'(by rw [aK]; exact h)):=by
 unfold dh
 rw [if_pos (by omega)]
 have h':i<s.data.toList.length:=by simpa using h
 simp only [Int.toNat_natCast,ao,List.getElem?_eq_getElem h',Option.map_some,List.getElem_map]
theorem fV {s:Ll} {a b:Nat} (h1:a≤b) (h2:b≤s.size):fI s (a:Int) (b:Int)=some (aL (((ao s).drop a).take (b-a))):=by
 unfold fI
 rw [if_pos (by omega)]
 simp only [Int.toNat_natCast]
 congr 1
 apply iW
 rw [aH (eO (dn (cq s) a) _)]
 simp only [ao,ByteArray.data_extract,Array.toList_extract,List.extract_eq_take_drop,List.map_take,List.map_drop]
theorem FV {s t:Ll} (h:s.size+t.size≤9223372036854775807):bN s t=some (aL (ao s++ao t)):=by
 unfold bN
 rw [if_pos h]
 congr 1
 apply iW
 rw [aH (bM (cq s) (cq t))]
 simp [ao]
theorem cm (s t:Ll):(s.toList==t.toList)=decide (s=t):=by
 rw [← beq_toListBytes,Bool.eq_iff_iff,decide_eq_true_eq]
 obtain ⟨a⟩:=s
 obtain ⟨b⟩:=t
 show (a==b)=true↔_
 rw [beq_iff_eq]
 exact ⟨fun h=>by rw [h],fun h=>by injection h⟩
theorem kv {s t:Ll}:s=t↔ao s=ao t:=⟨fun h=>h ▸ rfl,iW⟩
def jc (c:Int):List Int→Option Nat
 | []=>none
 | x::l=>if x=c then some 0 else (jc c l).map (· + 1)
theorem nu {c:Int}:∀ {l:List Int},jc c l=none↔c ∉ l
 | []=>by simp [jc]
 | x::l=>by
  have ih:=nu (c:=c) (l:=l)
  unfold jc
  by_cases h:x=c
  ·simp [h]
  ·rw [if_neg h]
   simp only [Option.map_eq_none_iff,ih,List.mem_cons,not_or]
   exact ⟨fun h2=>⟨fun e=>h e.symm,h2⟩,fun h2=>h2.2⟩
theorem jZ {c:Int}:∀ {l:List Int} {e:Nat},jc c l=some e→e+1≤l.length∧l=l.take e++c::l.drop (e+1)∧c ∉ l.take e
 | [],e,h=>by simp [jc] at h
 | x::l,e,h=>by
  unfold jc at h
  split at h
  ·rename_i hx
   cases h; subst hx; simp
  ·rename_i hx
   cases hi:jc c l with
   | none=>simp [hi] at h
   | some k =>
    simp [hi] at h
    subst h
    obtain ⟨h1,h2,h3⟩:=jZ hi
    refine ⟨by simp; omega,?_,?_⟩
    ·simp only [List.take_succ_cons,List.cons_append,List.drop_succ_cons]
     rw [← h2]
    ·simp only [List.take_succ_cons,List.mem_cons,not_or]
     exact ⟨fun e=>hx e.symm,h3⟩
theorem rz {c:Int}:∀ {p r:List Int},c ∉ p→jc c (p++c::r)=some p.length
 | [],r,_=>by simp [jc]
 | x::p,r,h=>by
  simp only [List.mem_cons,not_or] at h
  rw [List.cons_append]
  unfold jc
  rw [if_neg (fun e=>h.1 e.symm),rz h.2]
  simp
theorem pq {n:Nat} (hn:n<256):∀ (l:List UInt8),Lib.indexByte l (UInt8.ofNat n)=match jc (n:Int) (l.map fun b=>(b.toNat:Int)) with | none => -1 | some e=>(e:Int)
 | []=>rfl
 | b::l=>by
  have ih:=pq hn l
  unfold Lib.indexByte
  rw [List.map_cons]
  unfold jc
  have hb:(b==UInt8.ofNat n)=decide ((b.toNat:Int)=(n:Int)):=by
   rw [Bool.eq_iff_iff,decide_eq_true_eq,beq_iff_eq]
   constructor
   ·rintro rfl; simp; omega
   ·intro h
    apply UInt8.toNat_inj.1
    simp; omega
  rw [hb]
  by_cases h:(b.toNat:Int)=(n:Int)
  ·rw [if_pos (decide_eq_true h),if_pos h]; rfl
  ·rw [if_neg (by simpa using h),if_neg h,ih]
   cases jc (n:Int) (l.map fun b=>(b.toNat:Int)) with
   | none=>rfl
   | some k =>
    have:((k:Int) == -1)=false:=beq_eq_false_iff_ne.2 (by omega)
    simp only [this,Bool.false_eq_true,if_false,Option.map_some]
    rfl
theorem pZ {n:Nat} (hn:n<256) (s:Ll):de s ⟨#[UInt8.ofNat n]⟩=some (match jc (n:Int) (ao s) with | none => -1 | some e=>(e:Int)):=by
 unfold de
 have:=pq hn s.data.toList
 simp only [this]
 rfl
def eW (c:Int):List Int→List (List Int)
 | []=>[[]]
 | x::l=>if x=c then []::eW c l else match eW c l with
  | []=>[[x]]
  | p::ps=>(x::p)::ps
theorem jf (c:Int):∀ l,eW c l≠[]
 | []=>by simp [eW]
 | x::l=>by
  unfold eW
  split
  ·simp
  ·split <;> simp
theorem pc {c:Int}:∀ {l:List Int},c ∉ l→eW c l=[l]
 | [],_=>rfl
 | x::l,h=>by
  simp only [List.mem_cons,not_or] at h
  unfold eW
  rw [if_neg (fun e=>h.1 e.symm),pc h.2]
theorem pz {c:Int}:∀ {p r:List Int},c ∉ p→eW c (p++c::r)=p::eW c r
 | [],r,_=>by simp [eW]
 | x::p,r,h=>by
  simp only [List.mem_cons,not_or] at h
  rw [List.cons_append]
  conv=>lhs; unfold eW
  rw [if_neg (fun e=>h.1 e.symm),pz h.2]
def yl {X S O:Type} (step:X→S→Option (S⊕O)):List X→S→Option (S⊕O)
 | [],s=>some (.inl s)
 | x::l,s=>match step x s with
  | none=>none
  | some (.inl s')=>yl step l s'
  | some (.inr o)=>some (.inr o)
def xC (c:Int) (s:Ll):List Ll:=(eW c (ao s)).map aL
theorem gZ {n:Int} (h0 : -9223372036854775808≤n) (h1:n<9223372036854775808):some (IntKind.i64.wrap n)=some n:=by rw [dK h0 h1]
theorem wg {S O:Type} (n:Nat) (hn:n<256) (step:Ll→S→Option (S⊕O)) (s:Ll) (st:S) (hs:s.size<4611686018427387904) (r:S⊕O) (hr:yl step (xC (n:Int) s) st=some r) :
  ji (S:=S) (O:=O) (fun Y st=>cK Y ⟨#[UInt8.ofNat n]⟩ s 0 st) step st=some r:=by
 unfold ji cK
 refine ak rfl ?_
 have key:∀ (k:Nat) (s:Ll) (st:S) (fuel:Nat),s.size=k→k<4611686018427387904→k<fuel→yl step (xC (n:Int) s) st=some r →
   aF (S:=(Ll×(S⊕O))) (A:=S⊕O)
    (aQ (S:=(Ll×(S⊕O))) (O:=(Ll×(S⊕O))⊕(S⊕O)) (fun ((s37,s38):Ll×(S⊕O)) =>
     (de s37 ⟨#[UInt8.ofNat n]⟩).bind fun v25 =>
     cond ((decide (v25<0)))
      (some (.inr (.inl (s37,s38))))
      ((some (IntKind.i64.wrap (v25+0))).bind fun v27 =>
      (fI s37 0 v27).bind fun v28 =>
      (iQ step v28 s38).bind fun v29 =>
      cond ((!v29.2))
       (some (.inr (.inr (v29.1))))
       ((some (IntKind.i64.wrap (v25+((⟨#[UInt8.ofNat n]⟩:Ll).size:Int)))).bind fun v31 =>
       (fI s37 v31 (s37.size:Int)).bind fun v32 =>
       some (.inl (v32,v29.1)))))
     fuel (s,.inl st))
    (fun ((s41,s42):Ll×(S⊕O)) =>
     (iQ step s41 s42).bind fun v51 =>
     some (v51.1)) some=some r:=by
  intro k
  induction k using Nat.strongRecOn with
  | _ k ih =>
   intro s st fuel hk hb hf hr
   obtain ⟨f,rfl⟩:∃ f,fuel=f+1:=⟨fuel-1,by omega⟩
   cases hi:jc (n:Int) (ao s) with
   | none =>
    rw [aS (o := .inl (s,.inl st)) (by
     refine ar (pZ hn s) ?_
     rw [hi]
     exact ap rfl rfl)]
    have h1:xC (n:Int) s=[s]:=by
     unfold xC
     rw [pc (nu.1 hi)]
     simp [im]
    rw [h1] at hr
    simp only [yl] at hr
    show ((iQ step s (.inl st)).bind fun v51=>some (v51.1))=some r
    simp only [iQ]
    cases hst:step s st with
    | none=>rw [hst] at hr; cases hr
    | some u =>
     rw [hst] at hr
     cases u with
     | inl s'=>simpa using hr
     | inr o=>simpa using hr
   | some e =>
    obtain ⟨h1,h2,h3⟩:=jZ hi
    rw [aK] at h1
    have h4:xC (n:Int) s=aL ((ao s).take e)::xC (n:Int) (aL ((ao s).drop (e+1))):=by
     unfold xC
     rw [aH (dn (cq s) _)]
     conv=>lhs; rw [h2]
     rw [pz h3,List.map_cons]
    rw [h4] at hr
    simp only [yl] at hr
    have e1:fI s 0 (e:Int)=some (aL ((ao s).take e)):=by
     have:=fV (s:=s) (a:=0) (b:=e) (by omega) (by omega)
     simpa using this
    have e2:fI s ((e:Int)+1) (s.size:Int)=some (aL ((ao s).drop (e+1))):=by
     have:=fV (s:=s) (a:=e+1) (b:=s.size) (by omega) (by omega)
     rw [List.take_of_length_le (by simp [aK])] at this
     simpa using this
    have w1:some (IntKind.i64.wrap ((e:Int)+0))=some (e:Int):=by rw [gZ (by omega) (by omega)]; simp
    have w2:some (IntKind.i64.wrap ((e:Int)+((⟨#[UInt8.ofNat n]⟩:Ll).size:Int)))=some ((e:Int)+1):=by
     show some (IntKind.i64.wrap ((e:Int)+1))=_
     rw [gZ (by omega) (by omega)]
    have hsz:(aL ((ao s).drop (e+1))).size=s.size-(e+1):=by rw [cV,List.length_drop,aK]
    cases hst:step (aL ((ao s).take e)) st with
    | none=>rw [hst] at hr; cases hr
    | some u =>
     rw [hst] at hr
     cases u with
     | inl s' =>
      rw [bx (s':=(aL ((ao s).drop (e+1)),.inl s')) (by
       refine ar (pZ hn s) ?_
       rw [hi]
       refine ak (decide_eq_false (by show ¬ ((e:Int)<0); omega)) (ar w1 (ar e1 (ar (x:=(.inl s',true)) (by simp [iQ,hst]) (ak rfl (ar w2 (ar e2 rfl))))))
       )]
      exact ih _ (by rw [hsz]; omega) _ s' f rfl (by omega) (by omega) hr
     | inr o =>
      rw [aS (o := .inr (.inr o)) (by
       refine ar (pZ hn s) ?_
       rw [hi]
       exact ak (decide_eq_false (by show ¬ ((e:Int)<0); omega)) (ar w1 (ar e1 (ar (x:=(.inr o,false)) (by simp [iQ,hst]) (ap rfl rfl))))
       )]
      exact hr
 exact key _ s st bU rfl hs (by unfold bU; omega) hr
def Jy (c:Int):Bool:=decide (48≤c)&&decide (c≤57)||(decide (65≤c)&&decide (c≤90)||decide (97≤c)&&decide (c≤122))
def yr (c:Int):Bool:=Jy c||c==45
def Bp (c:Int):Bool:=Jy c||[33,35,36,37,38,39,42,43,45,47,61,63,94,95,96,123,124,125,126].contains c
def qQ (l:List Int):Bool := !l.isEmpty&&(decide (l.length≤63)&&(l.head? != some 45&&(l.getLast? != some 45&&l.all yr)))
def mN (l:List Int):Bool := !l.isEmpty&&l.all Bp
def qw (l:List Int):Bool:=decide (l.length≤255)&&(eW 46 l).all qQ
def nZ (l:List Int):Bool:=decide (l.length≤64)&&(eW 46 l).all mN
theorem uK (p:Int→Bool) (h:(List.range 256).all (fun k=>p (k:Int))=true) {c:Int} (hc:0≤c∧c<256):p c=true:=by
 have:=List.all_eq_true.1 h c.toNat (List.mem_range.2 (by omega))
 rwa [Int.toNat_of_nonneg hc.1] at this
theorem Al:(List.range 256).all (fun k=>decide (hH ((k:Nat):Int)=some (Bp ((k:Nat):Int))))=true:=by kernel_rfl
theorem xA:(List.range 256).all (fun k=>decide (gC ((k:Nat):Int)=some (yr ((k:Nat):Int))))=true:=by kernel_rfl
theorem Ib {c:Int} (hc:0≤c∧c<256):hH c=some (Bp c):=by
 simpa using uK (fun c=>decide (hH c=some (Bp c))) Al hc
theorem Hj {c:Int} (hc:0≤c∧c<256):gC c=some (yr c):=by
 simpa using uK (fun c=>decide (gC c=some (yr c))) xA hc
theorem mO (l:List Int) (p:Int→Bool):l.all p=true↔∀ i,i<l.length→p (l.getD i 0)=true:=by
 rw [List.all_eq_true]
 constructor
 ·intro h i hi
  rw [List.getD_eq_getElem?_getD,List.getElem?_eq_getElem hi]
  exact h _ (List.getElem_mem hi)
 ·intro h x hx
  obtain ⟨i,hi,rfl⟩:=List.getElem_of_mem hx
  have:=h i hi
  rw [List.getD_eq_getElem?_getD,List.getElem?_eq_getElem hi] at this
  exact this
theorem jU {s:Ll} {i:Nat} (h:i<s.size):dh s (i:Int)=some ((ao s).getD i 0):=by
 rw [uj h,List.getD_eq_getElem?_getD,List.getElem?_eq_getElem (by rw [aK]; exact h)]; rfl
theorem nj (s:Ll) {i:Nat} (h:i<s.size):0≤(ao s).getD i 0∧(ao s).getD i 0<256:=by
 rw [List.getD_eq_getElem?_getD,List.getElem?_eq_getElem (by rw [aK]; exact h)]
 exact cq s _ (List.getElem_mem _)
theorem xo {g:Int→Option Bool} {p:Int→Bool} (s:Ll) (hs:s.size<4611686018427387904) (hg:∀ c,0≤c∧c<256→g c=some (p c)) :
  aF (S:=(Unit)) (A:=Bool)
  (aQ (S:=(Int)) (O:=(Unit)⊕Bool) (fun (s9:Int) =>
   cond ((decide (s9<(s.size:Int))))
    ((dh s s9).bind fun v2 =>
    (g v2).bind fun v3 =>
    cond ((!v3))
     (some (.inr (.inr (false))))
     ((some (IntKind.i64.wrap (s9+1))).bind fun v5 =>
     some (.inl v5)))
    (some (.inr (.inl ()))))
   bU 0)
  (fun (():Unit) =>
   some (true)) some=some ((ao s).all p):=by
 have hl:=gL (R:=Bool) (f:=fun (s9:Int) =>
   cond ((decide (s9<(s.size:Int))))
    ((dh s s9).bind fun v2 =>
    (g v2).bind fun v3 =>
    cond ((!v3))
     (some (.inr (.inr (false))))
     ((some (IntKind.i64.wrap (s9+1))).bind fun v5 =>
     some (.inl v5)))
    (some (.inr (.inl ())))) (fun i=>p ((ao s).getD i 0)) s.size false (fuel:=bU) (by unfold bU; omega)
  (fun i hi hp=>ap (decide_eq_true (by omega)) (ar (jU hi) (ar (hg _ (nj s hi)) (ak (by simp only [hp]; rfl) (ar (by rw [aW (by omega)]) rfl)))))
  (fun i hi hp=>ap (decide_eq_true (by omega)) (ar (jU hi) (ar (hg _ (nj s hi)) (ap (by simp only [hp]; rfl) rfl))))
  (ak (decide_eq_false (by omega)) rfl)
 rw [hl]
 have hiff:=mO (ao s) p
 rw [aK] at hiff
 by_cases hall:∀ i,i<s.size→p ((ao s).getD i 0)=true
 ·rw [if_pos hall,hiff.2 hall]; rfl
 ·rw [if_neg hall]
  cases hq:(ao s).all p
  ·rfl
  ·exact absurd (hiff.1 hq) hall
theorem Ft (s:Ll):(s.toList==(⟨#[]⟩:Ll).toList)=(ao s).isEmpty:=by
 rw [cm,Bool.eq_iff_iff,decide_eq_true_eq,kv]
 simp [ao]
theorem DJ (s:Ll) (hs:s.size<4611686018427387904):lC s=some (mN (ao s)):=by
 unfold lC mN
 rw [Ft]
 cases (ao s).isEmpty
 ·exact aI (s:=(ao s).all Bp) (ap rfl (ar (xo s hs fun c hc=>Ib hc) rfl)) rfl
 ·exact aI (s:=false) (ak rfl rfl) rfl
theorem nm {l:List Int} (h:l≠[]):l.getLast? = some (l.getD (l.length-1) 0):=by
 have:0<l.length:=List.length_pos_iff.2 h
 rw [List.getLast?_eq_getElem?,List.getD_eq_getElem?_getD,List.getElem?_eq_getElem (by omega)]
 rfl
theorem kW {l:List Int} (h:l≠[]):l.head? = some (l.getD 0 0):=by
 cases l with
 | nil=>exact absurd rfl h
 | cons x l=>rfl
theorem CL (s:Ll) (hs:s.size<4611686018427387904):kz s=some (qQ (ao s)):=by
 unfold kz qQ
 rw [Ft]
 cases he:(ao s).isEmpty
 ·have hne:ao s≠[]:=by intro e; rw [e] at he; cases he
  have hpos:0<s.size:=by rw [← aK]; exact List.length_pos_iff.2 hne
  rw [nm hne,kW hne,aK]
  by_cases h1:s.size≤63
  ·have d1:decide ((s.size:Int)≤63)=true:=decide_eq_true (by omega)
   have c0:=jU (s:=s) (i:=0) hpos
   have c1:=jU (s:=s) (i:=s.size-1) (by omega)
   have e1:((s.size-1:Nat):Int)=(s.size:Int)-1:=by omega
   rw [e1] at c1
   by_cases h2:(ao s).getD 0 0=45
   ·refine aI (s:=false) (ap rfl (ap d1 (ar c0 (ak (by rw [h2]; rfl) rfl)))) ?_
    rw [h2]; simp
   ·by_cases h3:(ao s).getD (s.size-1) 0=45
    ·refine aI (s:=false) (ap rfl (ap d1 (ar c0 (ap (by simpa using h2) (ar (gZ (by omega) (by omega)) (ar c1 (ak (by rw [h3]; rfl) rfl))))))) ?_
     rw [h3]; simp
    ·refine aI (s:=(ao s).all yr) (ap rfl (ap d1 (ar c0 (ap (by simpa using h2) (ar (gZ (by omega) (by omega)) (ar c1 (ap (by simpa using h3) (ar (xo s hs fun c hc=>Hj hc) rfl)))))))) ?_
     have x2:(some ((ao s).getD 0 0) != some 45)=true:=by simpa using h2
     have x3:(some ((ao s).getD (s.size-1) 0) != some 45)=true:=by simpa using h3
     rw [x2,x3,decide_eq_true h1]; rfl
  ·refine aI (s:=false) (ap rfl (ak (decide_eq_false (by omega)) rfl)) ?_
   rw [decide_eq_false h1]; rfl
 ·exact aI (s:=false) (ak rfl rfl) rfl
theorem tH {f:Ll→Option Bool} {P:List Int→Bool} (s:Ll) (hs:s.size<4611686018427387904) (hf:∀ x,x.size≤s.size→f x=some (P (ao x))) :
  (fD s (⟨#[46]⟩:Ll)).bind (fun v1 =>
  aF (S:=(Unit)) (A:=(Unit))
  (ji (S:=(Unit)) (O:=(Unit)) (fun Y st=>Sh.cK Y v1.1 v1.2.1 v1.2.2 st) (fun (x:Ll) (():Unit) =>
   (f x).bind fun v2 =>
   cond ((!v2))
    (some (.inr ()))
    (some (.inl ())))
   ())
  (fun (():Unit) =>
   some (true))
  (fun (():Unit) =>
   some (false)))=some ((eW 46 (ao s)).all P):=by
 refine ar (x:=(⟨#[46]⟩,s,0)) rfl ?_
 have hle:∀ (c:Int) (l:List Int),∀ p∈eW c l,p.length≤l.length:=by
  intro c l
  induction l with
  | nil=>intro p hp; simp [eW] at hp; simp [hp]
  | cons x l ih =>
   intro p hp
   unfold eW at hp
   split at hp
   ·simp only [List.mem_cons] at hp
    rcases hp with rfl | hp
    ·simp
    ·have:=ih p hp; simp; omega
   ·split at hp
    ·simp at hp; subst hp; simp
    ·rename_i q qs e
     simp only [List.mem_cons] at hp
     rcases hp with rfl | hp
     ·have:=ih q (by rw [e]; simp); simp; omega
     ·have:=ih p (by rw [e]; simp [hp]); simp; omega
 have hby:∀ (c:Int) (l:List Int),bJ l→∀ p∈eW c l,bJ p:=by
  intro c l
  induction l with
  | nil=>intro _ p hp; simp [eW] at hp; subst hp; intro x hx; cases hx
  | cons x l ih =>
   intro hb p hp
   have hb':bJ l:=fun y hy=>hb y (by simp [hy])
   unfold eW at hp
   split at hp
   ·simp only [List.mem_cons] at hp
    rcases hp with rfl | hp
    ·intro x hx; cases hx
    ·exact ih hb' p hp
   ·split at hp
    ·simp at hp; subst hp; intro y hy; simp at hy; subst hy; exact hb _ (by simp)
    ·rename_i q qs e
     simp only [List.mem_cons] at hp
     rcases hp with rfl | hp
     ·intro y hy
      simp only [List.mem_cons] at hy
      rcases hy with rfl | hy
      ·exact hb _ (by simp)
      ·exact ih hb' q (by rw [e]; simp) y hy
     ·exact ih hb' p (by rw [e]; simp [hp])
 have hfol:∀ l:List (List Int),(∀ p∈l,bJ p∧p.length≤s.size)→yl (fun (x:Ll) (():Unit) =>
   (f x).bind fun v2 =>
   cond ((!v2))
    (some (.inr ()))
    (some (.inl ()))) (l.map aL) ()=some (if l.all P then .inl () else .inr ()):=by
  intro l
  induction l with
  | nil=>intro _; rfl
  | cons p l ih =>
   intro h
   have hp:=h p (by simp)
   have e1:=hf (aL p) (by rw [cV]; exact hp.2)
   rw [aH hp.1] at e1
   rw [List.map_cons]
   unfold yl
   simp only [e1,Option.bind_some]
   cases hP:P p
   ·simp [hP]
   ·simp only [Bool.not_true,cond_false,List.all_cons,hP,Bool.true_and]
    exact ih fun q hq=>h q (by simp [hq])
 have:=wg 46 (by omega) (fun (x:Ll) (():Unit) =>
   (f x).bind fun v2 =>
   cond ((!v2))
    (some (.inr ()))
    (some (.inl ()))) s () hs _ (hfol (eW 46 (ao s)) fun p hp=>⟨hby _ _ (cq s) p hp,by have:=hle _ _ p hp; rwa [aK] at this⟩)
 change aF (ji (fun Y st=>cK Y ⟨#[UInt8.ofNat 46]⟩ s 0 st) _ ()) _ _=_
 rw [this]
 cases hq:(eW 46 (ao s)).all P
 ·rfl
 ·rfl
theorem GT (s:Ll) (hs:s.size<4611686018427387904):jw s=some (qw (ao s)):=by
 unfold jw qw
 rw [aK]
 by_cases h:s.size≤255
 ·refine aI (s:=(eW 46 (ao s)).all qQ) (ap (decide_eq_true (by omega)) (ar (x:=(eW 46 (ao s)).all qQ) ?_ rfl)) (by rw [decide_eq_true h]; rfl)
  exact tH s hs fun x hx=>CL x (by omega)
 ·exact aI (s:=false) (ak (decide_eq_false (by omega)) rfl) (by rw [decide_eq_false h]; rfl)
theorem Hi (s:Ll) (hs:s.size<4611686018427387904):kq s=some (nZ (ao s)):=by
 unfold kq nZ
 rw [aK]
 by_cases h:s.size≤64
 ·refine aI (s:=(eW 46 (ao s)).all mN) (ap (decide_eq_true (by omega)) (ar (x:=(eW 46 (ao s)).all mN) ?_ rfl)) (by rw [decide_eq_true h]; rfl)
  exact tH s hs fun x hx=>DJ x (by omega)
 ·exact aI (s:=false) (ak (decide_eq_false (by omega)) rfl) (by rw [decide_eq_false h]; rfl)
def eD (p:aj):Bool:=cond p.Lh ((ao p.Lf).isEmpty&&(ao p.Lc).isEmpty) (nZ (ao p.Lf)&&qw (ao p.Lc))
structure Small (p:aj):Prop where
 l:p.Lf.size<1152921504606846976
 d:p.Lc.size<1152921504606846976
theorem fa (p:aj) (h:Small p):et p=some (cond (eD p) 0 5):=by
 unfold et eD
 have hl:=h.l; have hd:=h.d
 rw [Ft,Ft]
 cases hn:p.Lh
 ·refine aI (s:=nZ (ao p.Lf)&&qw (ao p.Lc)) (ap rfl (ar (Hi p.Lf (by omega)) ?_)) ?_
  ·cases nZ (ao p.Lf)
   ·rfl
   ·exact ap rfl (ar (GT p.Lc (by omega)) rfl)
  ·simp only [cond_false]
   cases nZ (ao p.Lf)&&qw (ao p.Lc) <;> rfl
 ·refine aI (s:=false) rfl ?_
  simp only [cond_true]
  cases (ao p.Lf).isEmpty <;> cases (ao p.Lc).isEmpty <;> rfl
theorem uq (s p:Ll):cp s p=some (decide (ao p <+: ao s)):=by
 unfold cp
 by_cases h:p.size≤s.size
 ·have e:=fV (s:=s) (a:=0) (b:=p.size) (by omega) h
  refine aI (s:=decide (ao p <+: ao s)) (ap (decide_eq_true (by omega)) (ar e ?_)) rfl
  congr 2
  rw [cm]
  congr 1
  rw [kv,aH (eO (dn (cq s) 0) _),List.prefix_iff_eq_take,aK]
  simp only [List.drop_zero,Nat.sub_zero,eq_iff_iff]
  exact eq_comm
 ·refine aI (s:=false) (ak (decide_eq_false (by omega)) rfl) ?_
  rw [decide_eq_false]
  intro hp
  have:=hp.length_le
  rw [aK,aK] at this
  omega
theorem iP (s p:Ll):dz s p=some (if ao p <+: ao s then (aL ((ao s).drop p.size),true) else (s,false)):=by
 unfold dz cS
 refine ar (x:=if ao p <+: ao s then (aL ((ao s).drop p.size),true) else (s,false)) (ar (uq s p) ?_) (by split <;> rfl)
 by_cases h:ao p <+: ao s
 ·rw [if_pos h]
  have hl:=h.length_le
  rw [aK,aK] at hl
  have e:=fV (s:=s) (a:=p.size) (b:=s.size) hl (Nat.le_refl _)
  rw [List.take_of_length_le (by simp [aK])] at e
  exact ak (by rw [decide_eq_true h]; rfl) (ar e rfl)
 ·rw [if_neg h]
  exact ap (by rw [decide_eq_false h]; rfl) rfl
theorem vu (s p:Ll) (hs:s.size<4611686018427387904):ct s p=some (decide (ao p <:+ ao s)):=by
 unfold ct
 by_cases h:p.size≤s.size
 ·have e:=fV (s:=s) (a:=s.size-p.size) (b:=s.size) (by omega) (Nat.le_refl _)
  have w:some (IntKind.i64.wrap ((s.size:Int)-(p.size:Int)))=some ((s.size-p.size:Nat):Int):=by
   rw [gZ (by omega) (by omega)]; congr 1; omega
  refine aI (s:=decide (ao p <:+ ao s)) (ap (decide_eq_true (by omega)) (ar w (ar e ?_))) rfl
  congr 2
  rw [cm]
  congr 1
  rw [kv,aH (eO (dn (cq s) _) _),List.suffix_iff_eq_drop,aK,aK,List.take_of_length_le (by simp [aK])]
  simp only [eq_iff_iff]
  exact eq_comm
 ·refine aI (s:=false) (ak (decide_eq_false (by omega)) rfl) ?_
  rw [decide_eq_false]
  intro hp
  have:=hp.length_le
  rw [aK,aK] at this
  omega
theorem vq (s p:Ll) (hs:s.size<4611686018427387904):eg s p=some (if ao p <:+ ao s then (aL ((ao s).take (s.size-p.size)),true) else (s,false)):=by
 unfold eg cQ
 refine ar (x:=if ao p <:+ ao s then (aL ((ao s).take (s.size-p.size)),true) else (s,false)) (ar (vu s p hs) ?_) (by split <;> rfl)
 by_cases h:ao p <:+ ao s
 ·rw [if_pos h]
  have hl:=h.length_le
  rw [aK,aK] at hl
  have e:=fV (s:=s) (a:=0) (b:=s.size-p.size) (by omega) (by omega)
  have w:some (IntKind.i64.wrap ((s.size:Int)-(p.size:Int)))=some ((s.size-p.size:Nat):Int):=by
   rw [gZ (by omega) (by omega)]; congr 1; omega
  refine ak (by rw [decide_eq_true h]; rfl) (ar w (ar e rfl))
 ·rw [if_neg h]
  exact ap (by rw [decide_eq_false h]; rfl) rfl
theorem Ge {n:Nat} (hn:n<256) (s:Ll) (hs:s.size<4611686018427387904):ir s ⟨#[UInt8.ofNat n]⟩=some (match jc (n:Int) (ao s) with
  | some e=>(aL ((ao s).take e),aL ((ao s).drop (e+1)),true)
  | none=>(s,(⟨#[]⟩:Ll),false)):=by
 unfold ir dV
 cases hi:jc (n:Int) (ao s) with
 | none =>
  refine ar (x:=(s,(⟨#[]⟩:Ll),false)) (ar (pZ hn s) ?_) rfl
  rw [hi]
  exact ak rfl rfl
 | some e =>
  obtain ⟨h1,_,_⟩:=jZ hi
  rw [aK] at h1
  have e1:fI s 0 (e:Int)=some (aL ((ao s).take e)):=by
   have:=fV (s:=s) (a:=0) (b:=e) (by omega) (by omega)
   simpa using this
  have e2:fI s ((e:Int)+1) (s.size:Int)=some (aL ((ao s).drop (e+1))):=by
   have:=fV (s:=s) (a:=e+1) (b:=s.size) (by omega) (by omega)
   rw [List.take_of_length_le (by simp [aK])] at this
   simpa using this
  have w2:some (IntKind.i64.wrap ((e:Int)+((⟨#[UInt8.ofNat n]⟩:Ll).size:Int)))=some ((e:Int)+1):=by
   show some (IntKind.i64.wrap ((e:Int)+1))=_
   rw [gZ (by omega) (by omega)]
  refine ar (x:=(aL ((ao s).take e),aL ((ao s).drop (e+1)),true)) (ar (pZ hn s) ?_) rfl
  rw [hi]
  exact ap (decide_eq_true (by show (0:Int)≤(e:Int); omega)) (ar e1 (ar w2 (ar e2 rfl)))
def e0:Ll:=⟨#[]⟩
def nz:aj:=⟨false,e0,e0⟩
def JB:aj:=⟨true,e0,e0⟩
def vh (l:List Int):Option (List Int):=if l.head? = some 60∧2≤l.length∧l.getLast? = some 62 then some ((l.drop 1).take (l.length-2)) else none
def Cg (m:List Int):Option aj:=match jc 64 m with
 | none=>none
 | some e=>some ⟨false,aL (m.take e),aL (m.drop (e+1))⟩
def rC (l:List Int):Option aj:=if l=[60,62] then some JB else match vh l with
 | none=>none
 | some m=>match Cg m with
  | none=>none
  | some p=>if eD p=true then some p else none
theorem IY (s:Ll):(s.toList==(⟨#[60,62]⟩:Ll).toList)=decide (ao s=[60,62]):=by
 rw [cm]
 congr 1
 rw [kv]
 rfl
theorem IB (c:Int) (l:List Int):[c] <+: l↔l.head? = some c:=by
 cases l with
 | nil=>simp
 | cons x l=>simp [List.cons_prefix_cons,eq_comm]
theorem Jo (c:Int) (l:List Int):[c] <:+ l↔l.getLast? = some c:=by
 rw [← List.reverse_prefix]
 show [c] <+: l.reverse↔_
 rw [IB,List.head?_reverse]
theorem It:ao (⟨#[60]⟩:Ll)=[60]:=rfl
theorem JW:ao (⟨#[62]⟩:Ll)=[62]:=rfl
theorem yL (s:Ll):s.size=(ao s).length:=(aK s).symm
theorem qb (l:List Int):(∃ m,l=60::(m++[62])∧vh l=some m)∨vh l=none:=by
 unfold vh
 split
 ·rename_i h
  obtain ⟨h1,h2,h3⟩:=h
  left
  cases l with
  | nil=>simp at h1
  | cons x r =>
   simp at h1
   subst h1
   have hr:r≠[]:=by intro e; subst e; simp at h2
   have h4:r.getLast? = some 62:=by
    rw [List.getLast?_cons,List.getLast?_eq_some_getLast hr] at h3
    rw [List.getLast?_eq_some_getLast hr]
    simpa using h3
   obtain ⟨m,hm⟩:∃ m,r=m++[62]:=by
    rw [List.getLast?_eq_some_iff] at h4
    exact h4
   refine ⟨m,by rw [hm],?_⟩
   subst hm
   simp
 ·right; rfl
theorem DG (m:List Int):vh (60::(m++[62]))=some m:=by
 unfold vh
 rw [if_pos ⟨rfl,by simp,by rw [← List.cons_append,List.getLast?_concat]⟩]
 simp
theorem zR {l:List Int} (h:vh l=none):l.head? ≠ some 60∨(l.drop 1).getLast? ≠ some 62:=by
 unfold vh at h
 split at h
 ·cases h
 ·rename_i hn
  by_cases h1:l.head? = some 60
  ·right
   intro h2
   apply hn
   cases l with
   | nil=>simp at h1
   | cons x r =>
    simp at h2
    have hr:r≠[]:=by intro e; subst e; simp at h2
    refine ⟨h1,by have:=List.length_pos_iff.2 hr; simp; omega,?_⟩
    rw [List.getLast?_cons,h2]; rfl
  ·exact .inl h1
theorem vX (s:Ll) (hs:s.size<1152921504606846976):iY s=some (match rC (ao s) with | some p=>(p,0) | none=>(nz,5)):=by
 unfold iY rC
 by_cases h2:ao s=[60,62]
 ·rw [if_pos h2]
  exact ap (by rw [IY]; exact decide_eq_true h2) rfl
 ·rw [if_neg h2]
  refine ak (by rw [IY]; exact decide_eq_false h2) ?_
  have b1:=iP s (⟨#[60]⟩:Ll)
  simp only [It,IB] at b1
  refine ar b1 ?_
  have dW:∀ (x:Ll×Bool),x.1.size≤s.size→∀ y:Ll×Bool,y=(if [62] <:+ ao x.1 then (aL ((ao x.1).take (x.1.size-(⟨#[62]⟩:Ll).size)),true) else (x.1,false)) →
    ∀ z:Ll×Ll×Bool,z=(match jc 64 (ao y.1) with
     | some e=>(aL ((ao y.1).take e),aL ((ao y.1).drop (e+1)),true)
     | none=>(y.1,(⟨#[]⟩:Ll),false))→∀ r,(aF (S:=Bool) (A:=(aj×Int))
   (cond ((!x.2))
    (some (.inl true))
    (cond ((!y.2))
     (some (.inl true))
     (cond ((!z.2.2))
      (some (.inl true))
      ((et (aj.mk false z.1 z.2.1)).bind fun v5 =>
      some (.inl (v5 != 0))))))
   (fun (s6:Bool) =>
    cond (s6)
     (some (((aj.mk false (⟨#[]⟩:Ll) (⟨#[]⟩:Ll)),5)))
     (some (((aj.mk false z.1 z.2.1),0)))) some)=r→((eg x.1 (⟨#[62]⟩:Ll)).bind fun v3 =>
  (ir v3.1 (⟨#[64]⟩:Ll)).bind fun v4 =>
  aF (S:=Bool) (A:=(aj×Int))
   (cond ((!x.2))
    (some (.inl true))
    (cond ((!v3.2))
     (some (.inl true))
     (cond ((!v4.2.2))
      (some (.inl true))
      ((et (aj.mk false v4.1 v4.2.1)).bind fun v5 =>
      some (.inl (v5 != 0))))))
   (fun (s6:Bool) =>
    cond (s6)
     (some (((aj.mk false (⟨#[]⟩:Ll) (⟨#[]⟩:Ll)),5)))
     (some (((aj.mk false v4.1 v4.2.1),0)))) some)=r:=by
   intro x hx y hy z hz r hr
   have c1:=vq x.1 (⟨#[62]⟩:Ll) (by omega)
   rw [JW,← hy] at c1
   have hys:y.1.size≤x.1.size:=by
    rw [hy]; split
    ·rw [cV,List.length_take,aK]; omega
    ·exact Nat.le_refl _
   have c2:=Ge (n:=64) (by omega) y.1 (by omega)
   exact ar c1 (ar (c2.trans (by rw [hz]; rfl)) hr)
  rcases qb (ao s) with ⟨m,hm,hmid⟩ | hmid
  ·have hh:(ao s).head? = some 60:=by rw [hm]; rfl
   rw [if_pos hh,hmid]
   have hbm:bJ m:=by
    have:=cq s
    rw [hm] at this
    intro x hx
    exact this x (by simp [hx])
   have hbm2:bJ (m++[62]):=bM hbm (by intro x hx; simp at hx; omega)
   have hd:(ao s).drop 1=m++[62]:=by rw [hm]; rfl
   have hx1:aL ((ao s).drop (⟨#[60]⟩:Ll).size)=aL (m++[62]):=by
    show aL ((ao s).drop 1)=_
    rw [hd]
   rw [hx1]
   have hml:m.length+2=s.size:=by rw [yL,hm]; simp
   refine dW (aL (m++[62]),true) (by simp only [cV]; simp; omega) (aL m,true) ?_ (match jc 64 m with
     | some e=>(aL (m.take e),aL (m.drop (e+1)),true)
     | none=>(aL m,(⟨#[]⟩:Ll),false)) ?_ _ ?_
   ·rw [aH hbm2,if_pos ⟨m,rfl⟩]
    congr 2
    rw [cV]
    show m=(m++[62]).take ((m++[62]).length-1)
    simp
   ·dsimp only
    rw [aH hbm]
   ·simp only [Cg]
    cases hi:jc 64 m with
    | none=>exact aI (s:=true) rfl rfl
    | some e =>
     dsimp only
     have hsm:Small ⟨false,aL (m.take e),aL (m.drop (e+1))⟩:=⟨by simp only [cV,List.length_take]; omega,by simp only [cV,List.length_drop]; omega⟩
     cases hp:eD ⟨false,aL (m.take e),aL (m.drop (e+1))⟩
     ·exact aI (s:=true) (ar (fa _ hsm) (by rw [hp]; rfl)) rfl
     ·exact aI (s:=false) (ar (fa _ hsm) (by rw [hp]; rfl)) rfl
  ·rw [hmid]
   by_cases hh:(ao s).head? = some 60
   ·rw [if_pos hh]
    have hl:((ao s).drop 1).getLast? ≠ some 62:=(zR hmid).resolve_left (fun h=>h hh)
    refine dW (aL ((ao s).drop 1),true) (by simp only [cV,List.length_drop,aK]; omega) (aL ((ao s).drop 1),false) ?_ _ rfl _ ?_
    ·rw [aH (dn (cq s) 1),if_neg (fun h=>hl ((Jo _ _).1 h))]
    ·exact aI (s:=true) rfl rfl
   ·rw [if_neg hh]
    exact dW (s,false) (Nat.le_refl _) _ rfl _ rfl _ (aI (s:=true) rfl rfl)
def gE:List Int→Option Nat
 | []=>none
 | x::l=>if x=13∧l.head? = some 10 then some 0 else (gE l).map (· + 1)
theorem fS:∀ {l:List Int} {e:Nat},gE l=some e→e+2≤l.length∧l=l.take e++13::10::l.drop (e+2)
 | [],e,h=>by simp [gE] at h
 | x::l,e,h=>by
  unfold gE at h
  split at h
  ·rename_i hc
   cases h
   obtain ⟨rfl,h2⟩:=hc
   cases l with
   | nil=>simp at h2
   | cons y l=>simp at h2; subst h2; simp
  ·cases hi:gE l with
   | none=>simp [hi] at h
   | some k =>
    simp [hi] at h
    subst h
    obtain ⟨h1,h2⟩:=fS hi
    refine ⟨by simp; omega,?_⟩
    simp only [List.take_succ_cons,List.cons_append,List.drop_succ_cons,show k+1+2=(k+2)+1 by omega]
    rw [← h2]
theorem lA:∀ {line rest:List Int},(∀ x∈line,x≠13)→gE (line++13::10::rest)=some line.length
 | [],rest,_=>by simp [gE]
 | x::line,rest,h=>by
  have hx:=h x (by simp)
  have ih:=lA (line:=line) (rest:=rest) fun y hy=>h y (by simp [hy])
  rw [List.cons_append]
  unfold gE
  rw [if_neg (fun e=>hx e.1),ih]
  simp
theorem Fj {x:Int} (h:0≤x∧x<256) {n:Nat} (hn:n<256):(UInt8.ofNat x.toNat=UInt8.ofNat n)↔x=(n:Int):=by
 constructor
 ·intro e
  have:=congrArg UInt8.toNat e
  simp only [UInt8.toNat_ofNat'] at this
  omega
 ·rintro rfl; simp
theorem BA:∀ {l:List Int},bJ l→Lib.index (Lib.bytesOf l) (Lib.bytesOf [13,10])=match gE l with | none => -1 | some e=>(e:Int)
 | [],_=>by rfl
 | x::l,h=>by
  have hx:=h x (by simp)
  have ih:=BA (l:=l) fun y hy=>h y (by simp [hy])
  have e1:Lib.bytesOf (x::l)=UInt8.ofNat x.toNat::Lib.bytesOf l:=rfl
  have e2:Lib.bytesOf [13,10]=[UInt8.ofNat 13,UInt8.ofNat 10]:=rfl
  rw [e1]
  unfold Lib.index gE
  have hp:(Lib.bytesOf [13,10]).isPrefixOf (UInt8.ofNat x.toNat::Lib.bytesOf l)=decide (x=13∧l.head? = some 10):=by
   rw [Bool.eq_iff_iff,decide_eq_true_eq,e2]
   cases l with
   | nil=>simp [Lib.bytesOf,List.isPrefixOf]
   | cons y l =>
    have hy:=h y (by simp)
    have ex:=Fj hx (n:=13) (by omega)
    have ey:=Fj hy (n:=10) (by omega)
    simp only [Lib.bytesOf,List.map_cons,List.isPrefixOf,Bool.and_eq_true,beq_iff_eq,Bool.true_and,Bool.and_true,and_true,List.head?_cons,Option.some.injEq]
    constructor
    ·rintro ⟨h1,h2⟩; exact ⟨ex.1 h1.symm,ey.1 h2.symm⟩
    ·rintro ⟨h1,h2⟩; exact ⟨(ex.2 h1).symm,(ey.2 h2).symm⟩
  rw [hp]
  by_cases hc:x=13∧l.head? = some 10
  ·rw [if_pos (by simpa using hc),if_pos hc]
   rfl
  ·rw [if_neg (by simpa using hc),if_neg hc,ih]
   cases gE l with
   | none=>rfl
   | some k =>
    have:((k:Int) == -1)=false:=beq_eq_false_iff_ne.2 (by omega)
    simp only [this,Bool.false_eq_true,if_false,Option.map_some]
    rfl
theorem qF {l:List Int} (h:bJ l) (hl:l.length<4294967281):gg l [13,10]=some (match gE l with | none => -1 | some e=>(e:Int)):=by
 unfold gg
 rw [if_pos ⟨hl,by simp,by simp,h,by decide⟩,BA h]
def jS {X S O:Type} (step:X→S→Option (S⊕O)):List X→S→Option (S⊕O)
 | [],s=>some (.inl s)
 | x::l,s=>match step x s with
  | none=>none
  | some (.inl s')=>jS step l s'
  | some (.inr o)=>some (.inr o)
inductive vJ:List Int→List (List Int)→List Int→Prop
 | nil {b:List Int} (h:gE b=none):vJ b [] b
 | cons {b:List Int} {e:Nat} {ls:List (List Int)} {r:List Int} (h:gE b=some e) (t:vJ (b.drop (e+2)) ls r):vJ b (b.take e::ls) r
theorem cL {n:Int} (h0 : -9223372036854775808≤n) (h1:n<9223372036854775808):some (IntKind.i64.wrap n)=some n:=by rw [dK h0 h1]
theorem sO {b:List Int} (hb:bJ b) (hl:b.length<4294967281) (h:gE b=none):dy b [13,10]=some (b,[],false):=by
 unfold dy
 refine ar (qF hb hl) ?_
 rw [h]
 rfl
theorem jx {b:List Int} (hb:bJ b) (hl:b.length<4294967281) {e:Nat} (h:gE b=some e):dy b [13,10]=some (b.take e,b.drop (e+2),true):=by
 have h1:=(fS h).1
 unfold dy
 refine ar (qF hb hl) ?_
 rw [h]
 refine ap (decide_eq_true (by show (0:Int)≤(e:Int); omega)) ?_
 have e1:eM b 0 (e:Int)=some (b.take e):=by
  have:=du b (a:=0) (b:=e) (by omega) (by omega)
  simpa using this
 refine ar e1 ?_
 refine ar (x:=((e+2:Nat):Int)) (by
  show some (IntKind.i64.wrap ((e:Int)+2))=_
  rw [cL (by omega) (by omega)]; simp) ?_
 refine ar (x:=b.drop (e+2)) (by
  rw [du b (by omega) (by omega),List.take_of_length_le (by simp)]) rfl
theorem ec {S O:Type} (step:List Int→S→Option (S⊕O)) {b:List Int} {ls:List (List Int)} {rest:List Int} (H:vJ b ls rest) (hb:bJ b) (hl:b.length<4294967281) (st:S) (r:S⊕O) (hr:jS step ls st=some r) :
  ji (S:=S) (O:=O) (fun Y st=>fi Y b st) step st=some r:=by
 unfold ji fi
 have key:∀ (b:List Int) (ls:List (List Int)) (rest:List Int),vJ b ls rest→bJ b→b.length<4294967281→∀ (fuel:Nat) (st:S),b.length<fuel→jS step ls st=some r →
   aF (S:=(Unit)) (A:=S⊕O)
    (aQ (S:=((List Int)×(S⊕O))) (O:=(Unit)⊕(S⊕O)) (fun ((s17,s18):(List Int)×(S⊕O)) =>
     (dy s17 [13,10]).bind fun v1 =>
     aF (S:=(S⊕O)×Bool) (A:=(((List Int)×(S⊕O))⊕((Unit)⊕(S⊕O))))
      (cond ((!v1.2.2))
       (some (.inl (s18,true)))
       ((iQ step v1.1 s18).bind fun v2 =>
       some (.inl ((v2.1,(!v2.2))))))
      (fun ((s31,s32):(S⊕O)×Bool) =>
       cond (s32)
        (some (.inr (.inr (s31))))
        (some (.inl (v1.2.1,s31)))) some)
     fuel (b,.inl st))
    (fun (():Unit) =>
     none) some=some r:=by
  intro b ls rest H
  induction H with
  | nil h =>
   intro hb hl fuel st hf hr
   obtain ⟨f,rfl⟩:∃ f,fuel=f+1:=⟨fuel-1,by omega⟩
   rw [aS (o := .inr (.inl st)) (ar (sO hb hl h) rfl)]
   exact hr
  | cons h t ih =>
   rename_i b e ls r'
   intro hb hl fuel st hf hr
   obtain ⟨f,rfl⟩:∃ f,fuel=f+1:=⟨fuel-1,by omega⟩
   have h1:=(fS h).1
   simp only [jS] at hr
   cases hst:step (b.take e) st with
   | none=>rw [hst] at hr; cases hr
   | some u =>
    rw [hst] at hr
    cases u with
    | inl s' =>
     rw [bx (s':=(b.drop (e+2),.inl s')) (ar (jx hb hl h) (aI (s:=((Sum.inl s':S⊕O),false)) (ak rfl (ar (x:=((Sum.inl s':S⊕O),true)) (by simp [iQ,hst]) rfl)) rfl))]
     exact ih (dn hb _) (by rw [List.length_drop]; omega) f s' (by rw [List.length_drop]; omega) hr
    | inr o =>
     rw [aS (o := .inr (.inr o)) (ar (jx hb hl h) (aI (s:=((Sum.inr o:S⊕O),true)) (ak rfl (ar (x:=((Sum.inr o:S⊕O),false)) (by simp [iQ,hst]) rfl)) rfl))]
     exact hr
 exact key b ls rest H hb hl bU st (by unfold bU; omega) hr
theorem rG:∀ (n:Nat) (b:List Int),b.length≤n→∃ ls r,vJ b ls r
 | n,b,hn=>by
  cases h:gE b with
  | none=>exact ⟨_,_,.nil h⟩
  | some e =>
   have h1:=(fS h).1
   cases n with
   | zero=>omega
   | succ n =>
    obtain ⟨ls,r,H⟩:=rG n (b.drop (e+2)) (by rw [List.length_drop]; omega)
    exact ⟨_,_,.cons h H⟩
def jn:List (List Int)→List Int
 | []=>[]
 | l::ls=>l++13::10::jn ls
theorem pY:∀ (a b:List (List Int)),jn (a++b)=jn a++jn b
 | [],b=>rfl
 | x::a,b=>by simp [jn,pY a b]
theorem mE {b:List Int} {ls:List (List Int)} {r:List Int} (H:vJ b ls r):b=jn ls++r:=by
 induction H with
 | nil h=>rfl
 | cons h t ih =>
  have h2:=(fS h).2
  conv=>lhs; rw [h2]
  simp only [jn,List.append_assoc,List.cons_append]
  rw [← ih]
def oO (l:List Int):Prop:=∀ x∈l,x≠13∧x≠10
theorem zF {ls:List (List Int)} {t:List Int} {ms:List (List Int)} {r:List Int} (h:∀ l∈ls,oO l) (H:vJ t ms r):vJ (jn ls++t) (ls++ms) r:=by
 induction ls with
 | nil=>exact H
 | cons l ls ih =>
  have e:jn (l::ls)++t=l++13::10::(jn ls++t):=by simp [jn]
  have hi:=lA (line:=l) (rest:=jn ls++t) (fun x hx=>(h l (by simp) x hx).1)
  have:=vJ.cons (b:=l++13::10::(jn ls++t)) hi (ls:=ls++ms) (r:=r) (by
   have e2:(l++13::10::(jn ls++t)).drop (l.length+2)=jn ls++t:=by
    rw [List.drop_append]; simp
   rw [e2]
   exact ih fun x hx=>h x (by simp [hx]))
  rw [e]
  have e3:(l++13::10::(jn ls++t)).take l.length=l:=by simp
  rw [e3] at this
  exact this
theorem Ff:vJ [] [] [] := .nil rfl
theorem sP {ls:List (List Int)} (h:∀ l∈ls,oO l):vJ (jn ls) ls []:=by
 have:=zF h Ff
 simpa using this
theorem oh:∀ {l:List Int},oO l→jg l = -1
 | [],_=>rfl
 | x::l,h=>by
  have hx:=h x (by simp)
  unfold jg
  rw [if_neg (by rintro (e | e); exact hx.1 e; exact hx.2 e),if_pos (oh fun y hy=>h y (by simp [hy]))]
theorem sL:∀ {l:List Int},¬ oO l→0≤jg l
 | [],h=>absurd (fun x hx=>by simp at hx) h
 | x::l,h=>by
  unfold jg
  by_cases hx:x=13∨x=10
  ·rw [if_pos hx]; omega
  ·rw [if_neg hx]
   have:=sL (l:=l) (fun hc=>h fun y hy=>by
    rcases List.mem_cons.1 hy with rfl | hy
    ·exact ⟨fun e=>hx (.inl e),fun e=>hx (.inr e)⟩
    ·exact hc y hy)
   rw [if_neg (by omega)]; omega
theorem xv {l:List Int} (hb:bJ l) (hl:l.length<4294967281):cy l (⟨#[13,10]⟩:Ll)=some (decide (0≤jg l)):=by
 unfold cy gj
 rw [if_pos ⟨rfl,hl,List.all_eq_true.2 fun x hx=>decide_eq_true (hb x hx)⟩]
 rfl
def dW:List (List Int)→Nat
 | []=>0
 | l::ls=>l.length+2+dW ls
theorem cu:∀ ls,(jn ls).length=dW ls
 | []=>rfl
 | l::ls=>by simp [jn,dW,cu ls]; omega
open Classical in
theorem tG:∀ (ls:List (List Int)) (s:Nat),(∀ l∈ls,bJ l)→s+dW ls<4294967281 →
  jS (S:=Int) (O:=Int) (fun (x:(List Int)) (s8:Int) =>
   (cy x (⟨#[13,10]⟩:Ll)).bind fun v2 =>
   cond (v2)
    (some (.inr s8))
    ((some (IntKind.i64.wrap ((x.length:Int)+2))).bind fun v4 =>
    (some (IntKind.i64.wrap (s8+v4))).bind fun v5 =>
    some (.inl v5))) ls (s:Int)=if ∀ l∈ls,oO l then some (.inl ((s+dW ls:Nat):Int)) else (jS (S:=Int) (O:=Int) (fun (x:(List Int)) (s8:Int) =>
   (cy x (⟨#[13,10]⟩:Ll)).bind fun v2 =>
   cond (v2)
    (some (.inr s8))
    ((some (IntKind.i64.wrap ((x.length:Int)+2))).bind fun v4 =>
    (some (IntKind.i64.wrap (s8+v4))).bind fun v5 =>
    some (.inl v5))) ls (s:Int)):=by
 intro ls
 induction ls with
 | nil=>intro s _ _; simp [jS,dW]
 | cons l ls ih =>
  intro s hb hs
  by_cases h:∀ m∈l::ls,oO m
  ·rw [if_pos h]
   simp only [dW] at hs
   have e:((cy l (⟨#[13,10]⟩:Ll)).bind fun v2 =>
   cond (v2)
    (some (.inr (s:Int)))
    ((some (IntKind.i64.wrap ((l.length:Int)+2))).bind fun v4 =>
    (some (IntKind.i64.wrap ((s:Int)+v4))).bind fun v5 =>
    some (.inl v5)):Option (Int⊕Int))=some (.inl ((s+(l.length+2):Nat):Int)):=by
    refine ar (xv (hb l (by simp)) (by omega)) ?_
    rw [oh (h l (by simp))]
    refine ak rfl (ar (cL (by omega) (by omega)) (ar (cL (by omega) (by omega)) ?_))
    simp
   simp only [jS]
   rw [e]
   have:=ih (s+(l.length+2)) (fun m hm=>hb m (by simp [hm])) (by omega)
   rw [if_pos fun m hm=>h m (by simp [hm])] at this
   simp only [dW]
   rw [show s+(l.length+2+dW ls)=s+(l.length+2)+dW ls by omega]
   exact this
  ·rw [if_neg h]
theorem Ag:∀ (ls:List (List Int)) (s:Nat),(∀ l∈ls,bJ l)→s+dW ls<4294967281→(¬ ∀ l∈ls,oO l) →
  ∃ o,jS (S:=Int) (O:=Int) (fun (x:(List Int)) (s8:Int) =>
   (cy x (⟨#[13,10]⟩:Ll)).bind fun v2 =>
   cond (v2)
    (some (.inr s8))
    ((some (IntKind.i64.wrap ((x.length:Int)+2))).bind fun v4 =>
    (some (IntKind.i64.wrap (s8+v4))).bind fun v5 =>
    some (.inl v5))) ls (s:Int)=some (.inr o):=by
 intro ls
 induction ls with
 | nil=>intro s _ _ h; exact absurd (fun x hx=>by simp at hx) h
 | cons l ls ih =>
  intro s hb hs h
  simp only [dW] at hs
  by_cases hc:oO l
  ·have e:((cy l (⟨#[13,10]⟩:Ll)).bind fun v2 =>
   cond (v2)
    (some (.inr (s:Int)))
    ((some (IntKind.i64.wrap ((l.length:Int)+2))).bind fun v4 =>
    (some (IntKind.i64.wrap ((s:Int)+v4))).bind fun v5 =>
    some (.inl v5)):Option (Int⊕Int))=some (.inl ((s+(l.length+2):Nat):Int)):=by
    refine ar (xv (hb l (by simp)) (by omega)) ?_
    rw [oh hc]
    refine ak rfl (ar (cL (by omega) (by omega)) (ar (cL (by omega) (by omega)) ?_))
    simp
   obtain ⟨o,ho⟩:=ih (s+(l.length+2)) (fun m hm=>hb m (by simp [hm])) (by omega) (fun hh=>h fun m hm=>by
    rcases List.mem_cons.1 hm with rfl | hm
    ·exact hc
    ·exact hh m hm)
   refine ⟨o,?_⟩
   simp only [jS]
   rw [e]
   exact ho
  ·refine ⟨(s:Int),?_⟩
   simp only [jS]
   rw [xv (hb l (by simp)) (by omega),decide_eq_true (sL hc)]
   rfl
theorem lf {b:List Int} {ls:List (List Int)} {r:List Int} (H:vJ b ls r) (hb:bJ b):∀ l∈ls,bJ l:=by
 induction H with
 | nil h=>intro l hl; simp at hl
 | cons h t ih =>
  intro l hl
  rcases List.mem_cons.1 hl with rfl | hl
  ·exact eO hb _
  ·exact ih (dn hb _) l hl
theorem Gg {ls:List (List Int)} (h:bJ (jn ls)):∀ l∈ls,bJ l:=by
 induction ls with
 | nil=>intro l hl; simp at hl
 | cons m ls ih =>
  intro l hl
  simp only [jn] at h
  rcases List.mem_cons.1 hl with rfl | hl
  ·exact fun x hx=>h x (by simp [hx])
  ·exact ih (fun x hx=>h x (by simp [hx])) l hl
theorem kK {ls:List (List Int)} (h:∀ l∈ls,bJ l):bJ (jn ls):=by
 induction ls with
 | nil=>intro l hl; simp [jn] at hl
 | cons m ls ih =>
  intro x hx
  simp only [jn,List.mem_append,List.mem_cons] at hx
  rcases hx with hx | rfl | rfl | hx
  ·exact h m (by simp) x hx
  ·omega
  ·omega
  ·exact ih (fun l hl=>h l (by simp [hl])) x hx
theorem ku {ls:List (List Int)} (h:∀ l∈ls,oO l) (hb:∀ l∈ls,bJ l) (hl:dW ls<4294967281):cM (jn ls)=some 0:=by
 unfold cM cX
 refine ar rfl ?_
 refine aI (s:=((0+dW ls:Nat):Int)) (ec _ (sP h) (kK hb) (by rw [cu]; exact hl) _ _ (by
  have:=tG ls 0 hb (by omega)
  rw [if_pos h] at this
  exact this)) ?_
 refine ak ?_ rfl
 rw [cu]; simp
theorem ln {b:List Int} (hb:bJ b) (hl:b.length<4294967281):(cM b=some 5)∨∃ ls,(∀ l∈ls,oO l)∧(∀ l∈ls,bJ l)∧b=jn ls:=by
 obtain ⟨ls,r,H⟩:=rG b.length b (Nat.le_refl _)
 have hj:=mE H
 have hlen:b.length=dW ls+r.length:=by rw [hj,List.length_append,cu]
 by_cases h:∀ l∈ls,oO l
 ·cases r with
  | nil=>exact .inr ⟨ls,h,lf H hb,by simpa using hj⟩
  | cons y r =>
   left
   unfold cM cX
   refine ar rfl ?_
   refine aI (s:=((0+dW ls:Nat):Int)) (ec _ H hb hl _ _ (by
    have:=tG ls 0 (lf H hb) (by omega)
    rw [if_pos h] at this
    exact this)) ?_
   refine ap ?_ rfl
   simp only [List.length_cons] at hlen
   rw [bne_iff_ne]; omega
 ·left
  obtain ⟨o,ho⟩:=Ag ls 0 (lf H hb) (by omega) h
  unfold cM cX
  refine ar rfl ?_
  exact jY (a:=o) (ec _ H hb hl _ _ ho) rfl
theorem eZ (a b:List Int) (hl:a.length<4294967296):cU a b=some (decide (a=b)):=by
 unfold cU
 by_cases hn:a.length=b.length
 case neg =>
  have:a≠b:=fun h=>hn (by rw [h])
  have h2:((a.length:Int) != (b.length:Int))=true:=by simp; omega
  simp [h2,this]
 have h2:((a.length:Int) != (b.length:Int))=false:=by simp; omega
 simp only [h2,cond_false]
 have key:∀ (k fuel i:Nat),a.length-i=k→i≤a.length→k<fuel→a.take i=b.take i →
   aQ (S:=Int) (O:=Unit⊕Bool) (fun (s12:Int) =>
    cond ((decide (s12<(a.length:Int))))
     ((cj s12 a.length).bind fun v3 =>
     (aN a v3).bind fun v4 =>
     (cj s12 b.length).bind fun v5 =>
     (aN b v5).bind fun v6 =>
     cond ((v4 != v6))
      (some (.inr (.inr (false))))
      ((some (IntKind.i64.wrap (s12+1))).bind fun v8 =>
      some (.inl v8)))
     (some (.inr (.inl ())))) fuel (i:Int)=some (if a=b then .inl () else .inr false):=by
  intro k
  induction k with
  | zero =>
   intro fuel i hk hi hf ht
   obtain ⟨f,rfl⟩:∃ f,fuel=f+1:=⟨fuel-1,by omega⟩
   have hia:i=a.length:=by omega
   subst hia
   have hab:a=b:=by rw [List.take_of_length_le (Nat.le_refl _),List.take_of_length_le (by omega)] at ht; exact ht
   simp [aQ,hab]
  | succ k ih =>
   intro fuel i hk hi hf ht
   obtain ⟨f,rfl⟩:∃ f,fuel=f+1:=⟨fuel-1,by omega⟩
   have hlt:i<a.length:=by omega
   have hltb:i<b.length:=by omega
   have hd:decide ((i:Int)<(a.length:Int))=true:=by simp; omega
   unfold aQ
   simp only [hd,cond_true,bi hlt,bi hltb,cv hlt,cv hltb,Option.bind_some]
   by_cases he:a[i]=b[i]
   ·have hb:(a[i] != b[i])=false:=by simp [he]
    have hw:IntKind.i64.wrap ((i:Int)+1)=((i+1:Nat):Int):=by
     rw [dK (by omega) (by omega)]; simp
    simp only [hb,cond_false,hw]
    exact ih f (i+1) (by omega) hlt (by omega) (by rw [List.take_add_one,List.take_add_one,ht]; simp [hlt,hltb,he])
   ·have hb:(a[i] != b[i])=true:=by simp [he]
    have hab:a≠b:=fun h=>he (by subst h; rfl)
    simp [hb,hab]
 have:=key (a.length-0) bU 0 rfl (Nat.zero_le _) (by unfold bU; omega) (by simp)
 simp only [Int.cast_ofNat_Int] at this
 by_cases hab:a=b
 ·simp only [hab,if_true] at this
  subst hab
  simp only [aF]
  rw [this]; simp
 ·simp only [hab,if_false] at this
  simp only [aF]
  rw [this]; simp [hab]
set_option maxRecDepth 10000
def fm (p:aj):List Int:=cond p.Lh [60,62] (60::(ao p.Lf++64::(ao p.Lc++[62])))
theorem df {c:Int} {l:List Int} (h:0≤c∧c<256) (hl:bJ l):bJ (c::l):=by
 intro x hx
 simp only [List.mem_cons] at hx
 rcases hx with rfl | hx
 ·exact h
 ·exact hl x hx
theorem dv:bJ []:=fun x hx=>by cases hx
theorem gO (p:aj):bJ (fm p):=by
 unfold fm
 cases p.Lh
 ·exact df (by omega) (bM (cq _) (df (by omega) (bM (cq _) (df (by omega) dv))))
 ·exact df (by omega) (df (by omega) dv)
theorem oM {s t:Ll} {l m:List Int} (hl:ao s=l) (hm:ao t=m) (h:l.length+m.length≤9223372036854775807):bN s t=some (aL (l++m)):=by
 subst hl hm
 rw [aK,aK] at h
 exact FV h
theorem HK (p:aj) (h:Small p) {R:Type} (f:Ll→Option R) (r:Option R) (hr:f (aL (60::(ao p.Lf++64::(ao p.Lc++[62]))))=r) :
  ((bN (⟨#[60]⟩:Ll) p.Lf).bind fun v4 =>
   (bN v4 (⟨#[64]⟩:Ll)).bind fun v5 =>
   (bN v5 p.Lc).bind fun v6 =>
   (bN v6 (⟨#[62]⟩:Ll)).bind fun v7=>f v7)=r:=by
 have hl:=h.l; have hd:=h.d
 have bl:=cq p.Lf; have bd:=cq p.Lc
 have b60:bJ [60]:=df (by omega) dv
 have b64:bJ [64]:=df (by omega) dv
 have k1:=oM (s:=⟨#[60]⟩) (t:=p.Lf) It rfl (by simp [aK]; omega)
 have k2:=oM (s:=aL ([60]++ao p.Lf)) (t:=⟨#[64]⟩) (m:=[64]) (aH (bM b60 bl)) rfl (by simp [aK]; omega)
 have k3:=oM (s:=aL ([60]++ao p.Lf++[64])) (t:=p.Lc) (aH (bM (bM b60 bl) b64)) rfl (by simp [aK]; omega)
 have k4:=oM (s:=aL ([60]++ao p.Lf++[64]++ao p.Lc)) (t:=⟨#[62]⟩) (m:=[62]) (aH (bM (bM (bM b60 bl) b64) bd)) rfl (by simp [aK]; omega)
 refine ar k1 (ar k2 (ar k3 (ar k4 ?_)))
 rw [← hr]
 congr 2
 simp
theorem DA (p:aj) (h:Small p):kX p=some (cond (eD p) (aL (fm p),0) (e0,5)):=by
 unfold kX
 refine ar (fa p h) ?_
 cases hp:eD p
 ·exact ap rfl rfl
 ·refine ak rfl ?_
  unfold fm
  cases hn:p.Lh
  ·exact ak rfl (HK p h _ _ rfl)
  ·exact ap rfl rfl
theorem xF (l:List Int) (h:l.length<4294967296):dF l=some l:=by
 unfold dF
 exact ar (x:=l) (by simp only [co]; rw [if_pos (by simp; omega)]; simp) rfl
theorem xK {x:List Int} (hb:bJ x) (hl:x.length<4294967281):cg x [46]=some (decide (x.head? = some 46)):=by
 unfold cg
 cases x with
 | nil=>rfl
 | cons y x =>
  refine aI (s:=decide (y=46)) (ap (decide_eq_true (by simp only [List.length_cons,List.length_nil]; omega)) ?_) (by simp)
  have e1:eM (y::x) 0 (([46]:List Int).length:Int)=some [y]:=by
   have:=du (y::x) (a:=0) (b:=1) (by omega) (by simp)
   simpa using this
  refine ar e1 (ar (x:=decide (y=46)) ?_ rfl)
  unfold eJ
  refine ar rfl (ar rfl ?_)
  rw [cm]
  congr 1
  refine decide_eq_decide.2 ⟨fun h => ?_,fun h=>by rw [h]⟩
  have:=congrArg ao h
  rw [aH (by intro z hz; rw [List.mem_singleton] at hz; rw [hz]; exact hb y (by simp)),aH (by decide)] at this
  simpa using this
def lQ (l:List Int):List Int:=if l.head? = some 46 then 46::l else l
def rL (l:List Int):List Int:=if l.head? = some 46 then l.tail else l
theorem Eg (l:List Int):rL (lQ l)=l:=by
 unfold lQ rL
 by_cases h:l.head? = some 46
 ·rw [if_pos h,if_pos (by simp)]; rfl
 ·rw [if_neg h,if_neg h]
theorem yV (l:List Int):lQ l≠[46]:=by
 unfold lQ
 split
 ·rename_i h; intro e; cases l with
  | nil=>simp at h
  | cons=>simp at e
 ·rename_i h; intro e; rw [e] at h; simp at h
theorem yZ {l:List Int} (h:oO l):oO (lQ l):=by
 unfold lQ; split
 ·intro x hx
  rcases List.mem_cons.1 hx with rfl | hx
  ·decide
  ·exact h x hx
 ·exact h
theorem rb {l:List Int} (h:bJ l):bJ (lQ l):=by
 unfold lQ; split
 ·intro x hx
  rcases List.mem_cons.1 hx with rfl | hx
  ·decide
  ·exact h x hx
 ·exact h
theorem za (l:List Int):(lQ l).length≤l.length+1:=by unfold lQ; split <;> simp
theorem rf:∀ ls:List (List Int),dW (ls.map lQ)≤2 * dW ls
 | []=>by simp [dW]
 | l::ls=>by
  have h1:=za l
  have h2:=rf ls
  simp only [List.map_cons,dW]; omega
theorem jl:∀ a b:List (List Int),dW (a++b)=dW a+dW b
 | [],b=>by simp [dW]
 | x::a,b=>by simp only [List.cons_append,dW,jl a b]; omega
theorem zy (ls:List (List Int)):(ls.map lQ).map rL=ls:=by
 rw [List.map_map]
 conv=>rhs; rw [← List.map_id ls]
 exact List.map_congr_left fun l _=>Eg l
def uU:List Int→List Int→Option (List Int⊕Unit):=fun (x:(List Int)) (s21:(List Int)) =>
 aF (S:=(List Int)) (A:=(((List Int))⊕(Unit)))
  ((cg x [46]).bind fun v4 =>
  cond (v4)
   ((co 1 s21 (ao (⟨#[46]⟩:Ll))).bind fun v6 =>
   some (.inl v6))
   (some (.inl s21)))
  (fun (s29:(List Int)) =>
   (co 1 s29 x).bind fun v12 =>
   (co 1 v12 (ao (⟨#[13,10]⟩:Ll))).bind fun v13 =>
   some (.inl v13)) some
theorem Iw:ao (⟨#[46]⟩:Ll)=[46]:=rfl
theorem Il:ao (⟨#[13,10]⟩:Ll)=[13,10]:=rfl
theorem KV:ao (⟨#[46,13,10]⟩:Ll)=[46,13,10]:=rfl
theorem yi {x s:List Int} (hb:bJ x) (hl:s.length+x.length<4294960000):uU x s=some (.inl (s++(lQ x++[13,10]))):=by
 unfold uU
 rw [Iw,Il]
 by_cases h:x.head? = some 46
 ·have e:lQ x=46::x:=by unfold lQ; rw [if_pos h]
  rw [e]
  refine aI (s:=s++[46]) (ar (xK hb (by omega)) (ap (decide_eq_true h) (ar (cA (by simp; omega) (by simp; omega)) rfl))) ?_
  refine ar (cA (by simp; omega) (by simp; omega)) (ar (cA (by simp; omega) (by simp; omega)) ?_)
  simp
 ·have e:lQ x=x:=by unfold lQ; rw [if_neg h]
  rw [e]
  refine aI (s:=s) (ar (xK hb (by omega)) (ak (decide_eq_false h) rfl)) ?_
  refine ar (cA (by omega) (by omega)) (ar (cA (by simp; omega) (by simp; omega)) ?_)
  simp
theorem tt:∀ (ls:List (List Int)) (s:List Int),(∀ l∈ls,bJ l)→s.length+2 * dW ls<4294960000→jS uU ls s=some (.inl (s++jn (ls.map lQ)))
 | [],s,_,_=>by simp [jS,jn]
 | l::ls,s,hb,hs=>by
  simp only [dW] at hs
  have h1:=za l
  simp only [jS]
  rw [yi (hb l (by simp)) (by omega)]
  refine (tt ls _ (fun m hm=>hb m (by simp [hm])) (by simp only [List.length_append,List.length_cons,List.length_nil]; omega)).trans ?_
  simp [jn]
theorem mv {ls:List (List Int)} (h:∀ l∈ls,oO l) (hb:∀ l∈ls,bJ l) (hl:dW ls<1000000000):gn (jn ls)=some (jn (ls.map lQ++[[46]]),0):=by
 unfold gn cX
 refine ar (ku h hb (by omega)) (ak rfl (ar rfl ?_))
 refine aI (s:=jn (ls.map lQ)) (ec uU (sP h) (kK hb) (by rw [cu]; omega) _ _ ?_) ?_
 ·have:=tt ls [] hb (by simp; omega)
  simpa using this
 ·have h2:=rf ls
  rw [KV]
  refine ar (cA (by rw [cu]; simp; omega) (by rw [cu]; simp; omega)) ?_
  rw [pY]; rfl
def nU:List Int→Int→Option (Int⊕Int):=fun (x:(List Int)) (s8:Int) =>
 (some (aL x)).bind fun v2 =>
 cond ((v2.toList==(⟨#[46]⟩:Ll).toList))
  (some (.inr s8))
  ((some (IntKind.i64.wrap ((x.length:Int)+2))).bind fun v4 =>
  (some (IntKind.i64.wrap (s8+v4))).bind fun v5 =>
  some (.inl v5))
theorem Ik {x:List Int} (hb:bJ x):((aL x).toList==(⟨#[46]⟩:Ll).toList)=decide (x=[46]):=by
 rw [cm]
 refine decide_eq_decide.2 ⟨fun h => ?_,fun h=>by rw [h]; rfl⟩
 have:=congrArg ao h
 rw [aH hb,Iw] at this
 exact this
theorem EF {x:List Int} {s:Nat} (hb:bJ x) (h:x≠[46]) (hl:s+x.length<4611686018427387904):nU x (s:Int)=some (.inl ((s+(x.length+2):Nat):Int)):=by
 unfold nU
 refine ar rfl ?_
 rw [Ik hb]
 refine ak (decide_eq_false h) (ar (cL (by omega) (by omega)) (ar (cL (by omega) (by omega)) ?_))
 simp
theorem sT (s:Int):nU [46] s=some (.inr s):=by
 unfold nU
 refine ar rfl ?_
 rw [Ik (by decide)]
 exact ap rfl rfl
theorem mX:∀ (ls ms:List (List Int)) (s:Nat),(∀ l∈ls,bJ l∧l≠[46])→s+dW ls<4611686018427387904→jS nU (ls++ms) (s:Int)=jS nU ms ((s+dW ls:Nat):Int)
 | [],ms,s,_,_=>by simp [dW]
 | l::ls,ms,s,hb,hs=>by
  simp only [dW] at hs
  rw [List.cons_append]
  conv=>lhs; unfold jS
  rw [EF (hb l (by simp)).1 (hb l (by simp)).2 (by omega)]
  refine (mX ls ms _ (fun m hm=>hb m (by simp [hm])) (by omega)).trans ?_
  simp only [dW]
  rw [show s+(l.length+2)+dW ls=s+(l.length+2+dW ls) by omega]
theorem Ar {ls:List (List Int)} {more:List Int} (h:∀ l∈ls,oO l) (hb:∀ l∈ls,bJ l) (hd:∀ l∈ls,l≠[46]) (hm:bJ more) (hl:dW ls+more.length<4000000000) :
  cO (jn (ls++[[46]])++more)=some ((dW ls:Int),true):=by
 obtain ⟨ms,r,H⟩:=rG more.length more (Nat.le_refl _)
 have H2:vJ (jn (ls++[[46]])++more) ((ls++[[46]])++ms) r:=zF (fun l hl=>by
  rcases List.mem_append.1 hl with hl | hl
  ·exact h l hl
  ·simp at hl; subst hl; intro x hx; simp at hx; subst hx; decide) H
 unfold cO cX
 refine ar rfl ?_
 refine jY (a:=(dW ls:Int)) (ec nU H2 (bM (kK fun l hl=>by
  rcases List.mem_append.1 hl with hl | hl
  ·exact hb l hl
  ·simp at hl; subst hl; decide) hm) (by rw [List.length_append,cu,jl]; simp [dW]; omega) _ _ ?_) rfl
 rw [List.append_assoc]
 refine (mX ls _ 0 (fun l hl=>⟨hb l hl,hd l hl⟩) (by omega)).trans ?_
 simp only [List.cons_append,jS,sT]
 simp
theorem uf {b:List Int} {ls:List (List Int)} {r:List Int} (H:vJ b ls r) (hb:bJ b) (hd:∀ l∈ls,l≠[46]) (hl:b.length<4000000000):cO b=some (0,false):=by
 have hj:=mE H
 have ht:b.length=dW ls+r.length:=by rw [hj,List.length_append,cu]
 unfold cO cX
 refine ar rfl ?_
 refine aI (s:=((0+dW ls:Nat):Int)) (ec nU H hb (by omega) _ _ ?_) rfl
 have:=mX ls [] 0 (fun l hl=>⟨lf H hb l hl,hd l hl⟩) (by omega)
 simpa [jS] using this
def qd:List Int→List Int→Option (List Int⊕Unit):=fun (x:(List Int)) (s12:(List Int)) =>
 (dC x [46]).bind fun v8 =>
 (co 1 s12 v8).bind fun v9 =>
 (co 1 v9 (ao (⟨#[13,10]⟩:Ll))).bind fun v10 =>
 some (.inl v10)
theorem FT {x:List Int} (hb:bJ x) (hl:x.length<4294967281):dC x [46]=some (rL x):=by
 unfold dC
 refine ar (xK hb hl) ?_
 unfold rL
 by_cases h:x.head? = some 46
 ·rw [if_pos h]
  refine ap (decide_eq_true h) ?_
  cases x with
  | nil=>simp at h
  | cons y x =>
   have e1:eM (y::x) (([46]:List Int).length:Int) ((y::x).length:Int)=some x:=by
    have:=du (y::x) (a:=1) (b:=(y::x).length) (by simp) (by simp)
    simpa using this
   exact ar e1 rfl
 ·rw [if_neg h]
  exact ak (decide_eq_false h) rfl
theorem uG (l:List Int):(rL l).length≤l.length:=by unfold rL; split <;> simp
theorem ng:∀ (ls:List (List Int)) (s:List Int),(∀ l∈ls,bJ l)→s.length+dW ls<4294960000→jS qd ls s=some (.inl (s++jn (ls.map rL)))
 | [],s,_,_=>by simp [jS,jn]
 | l::ls,s,hb,hs=>by
  simp only [dW] at hs
  have h1:=uG l
  have e:qd l s=some (.inl (s++(rL l++[13,10]))):=by
   unfold qd
   rw [Il]
   refine ar (FT (hb l (by simp)) (by omega)) (ar (cA (by omega) (by omega)) (ar (cA (by simp; omega) (by simp; omega)) ?_))
   simp
  simp only [jS]
  rw [e]
  refine (ng ls _ (fun m hm=>hb m (by simp [hm])) (by simp only [List.length_append,List.length_cons,List.length_nil]; omega)).trans ?_
  simp [jn]
theorem wA {ls:List (List Int)} {more:List Int} (h:∀ l∈ls,oO l) (hb:∀ l∈ls,bJ l) (hd:∀ l∈ls,l≠[46]) (hm:bJ more) (hl:dW ls+more.length<4000000000) :
  dw (jn (ls++[[46]])++more)=some (jn (ls.map rL),((dW ls+3:Nat):Int),0):=by
 have e1:eM (jn (ls++[[46]])++more) 0 (dW ls:Int)=some (jn ls):=by
  have:=du (jn (ls++[[46]])++more) (a:=0) (b:=dW ls) (by omega) (by rw [List.length_append,cu,jl]; omega)
  rw [pY,List.append_assoc] at this ⊢
  rw [← cu] at this ⊢
  simpa using this
 unfold dw
 refine ar (Ar h hb hd hm hl) (ak rfl (ar e1 (ar (ku h hb (by omega)) (ak rfl (ar e1 ?_)))))
 unfold cX
 refine ar rfl ?_
 refine aI (s:=jn (ls.map rL)) (ec qd (sP h) (kK hb) (by rw [cu]; omega) _ _ ?_) ?_
 ·have:=ng ls [] hb (by simp; omega)
  simpa using this
 ·refine ar (cL (by omega) (by omega)) ?_
  simp
theorem rI {b:List Int} (h:cO b=some (0,false)):dw b=some ([],0,9):=by
 unfold dw
 exact ar h (ap rfl rfl)
def Kc (l:List ae) (s67:Int):((Int×Int))→Option ((Int×Int)⊕((Int)⊕((Int×Int)⊕((Int)⊕Bool)))):=(fun ((s98,s99):Int×Int) =>
 (cj s67 l.length).bind fun v18 =>
 (aN l v18).bind fun v19 =>
 cond ((decide (s99<(v19.To.length:Int))))
  ((cj s67 l.length).bind fun v21 =>
  (aN l v21).bind fun v22 =>
  (cj s99 v22.To.length).bind fun v23 =>
  (aN v22.To v23).bind fun v24 =>
  (some (IntKind.i64.wrap (s98+(v24.Lf.size:Int)))).bind fun v25 =>
  (cj s67 l.length).bind fun v26 =>
  (aN l v26).bind fun v27 =>
  (cj s99 v27.To.length).bind fun v28 =>
  (aN v27.To v28).bind fun v29 =>
  (some (IntKind.i64.wrap (v25+(v29.Lc.size:Int)))).bind fun v30 =>
  (some (IntKind.i64.wrap (s99+1))).bind fun v31 =>
  some (.inl (v30,v31)))
  (some (.inr (.inl s98))))
def Cf (l:List ae):((Int×Int))→Option ((Int×Int)⊕((Int)⊕Bool)):=(fun ((s66,s67):Int×Int) =>
 cond ((decide (s67<(l.length:Int))))
  ((cj s67 l.length).bind fun v3 =>
  (aN l v3).bind fun v4 =>
  (some (IntKind.i64.wrap (s66+(v4.Lb.length:Int)))).bind fun v5 =>
  (cj s67 l.length).bind fun v6 =>
  (aN l v6).bind fun v7 =>
  (some (IntKind.i64.wrap (v5+(v7.Le.size:Int)))).bind fun v8 =>
  (cj s67 l.length).bind fun v9 =>
  (aN l v9).bind fun v10 =>
  (some (IntKind.i64.wrap (v8+(v10.Ld.Lf.size:Int)))).bind fun v11 =>
  (cj s67 l.length).bind fun v12 =>
  (aN l v12).bind fun v13 =>
  (some (IntKind.i64.wrap (v11+(v13.Ld.Lc.size:Int)))).bind fun v14 =>
  (cj s67 l.length).bind fun v15 =>
  (aN l v15).bind fun v16 =>
  cond ((decide (40<(v16.To.length:Int))))
   (some (.inr (.inr (true))))
   (aF (S:=(Int)) (A:=((Int×Int)⊕((Int)⊕Bool)))
    (aQ (S:=(Int×Int)) (O:=(Int)⊕((Int×Int)⊕((Int)⊕Bool))) (fun ((s98,s99):Int×Int) =>
     (cj s67 l.length).bind fun v18 =>
     (aN l v18).bind fun v19 =>
     cond ((decide (s99<(v19.To.length:Int))))
      ((cj s67 l.length).bind fun v21 =>
      (aN l v21).bind fun v22 =>
      (cj s99 v22.To.length).bind fun v23 =>
      (aN v22.To v23).bind fun v24 =>
      (some (IntKind.i64.wrap (s98+(v24.Lf.size:Int)))).bind fun v25 =>
      (cj s67 l.length).bind fun v26 =>
      (aN l v26).bind fun v27 =>
      (cj s99 v27.To.length).bind fun v28 =>
      (aN v27.To v28).bind fun v29 =>
      (some (IntKind.i64.wrap (v25+(v29.Lc.size:Int)))).bind fun v30 =>
      (some (IntKind.i64.wrap (s99+1))).bind fun v31 =>
      some (.inl (v30,v31)))
      (some (.inr (.inl s98))))
     bU (v14,0))
    (fun (s101:Int) =>
     (some (IntKind.i64.wrap (s67+1))).bind fun v46 =>
     some (.inl (s101,v46))) some))
  (some (.inr (.inl s66))))
theorem te {a b:Nat} (h:a+b<9223372036854775808):some (IntKind.i64.wrap ((a:Int)+(b:Int)))=some ((a+b:Nat):Int):=by
 rw [dK (by omega) (by omega)]; simp
def pW (p:aj):Nat:=p.Lf.size+p.Lc.size
def lH:List aj→Nat
 | []=>0
 | p::l=>pW p+lH l
def mW (m:ae):Nat:=m.Lb.length+m.Le.size+m.Ld.Lf.size+m.Ld.Lc.size+lH m.To
def lK:List ae→Nat
 | []=>0
 | m::l=>mW m+lK l
theorem Be (l:List aj) (k:Nat) (hk:k<l.length):lH (l.take (k+1))=lH (l.take k)+pW l[k]:=by
 induction l generalizing k with
 | nil=>simp at hk
 | cons p l ih =>
  cases k with
  | zero=>simp [lH]
  | succ k =>
   simp only [List.take_succ_cons,lH,List.getElem_cons_succ]
   rw [ih k (by simpa using hk)]; omega
theorem zX (l:List ae) (k:Nat) (hk:k<l.length):lK (l.take (k+1))=lK (l.take k)+mW l[k]:=by
 induction l generalizing k with
 | nil=>simp at hk
 | cons p l ih =>
  cases k with
  | zero=>simp [lK]
  | succ k =>
   simp only [List.take_succ_cons,lK,List.getElem_cons_succ]
   rw [ih k (by simpa using hk)]; omega
theorem oZ (B:Nat):∀ (l:List aj),(∀ p∈l,pW p≤B)→lH l≤l.length * B
 | [],_=>by simp [lH]
 | p::l,h=>by
  have h1:=h p (by simp)
  have h2:=oZ B l (fun q hq=>h q (by simp [hq]))
  simp only [lH,List.length_cons,Nat.add_mul]; omega
theorem zN (B:Nat):∀ (l:List ae),(∀ p∈l,mW p≤B)→lK l≤l.length * B
 | [],_=>by simp [lK]
 | p::l,h=>by
  have h1:=h p (by simp)
  have h2:=zN B l (fun q hq=>h q (by simp [hq]))
  simp only [lK,List.length_cons,Nat.add_mul]; omega
theorem sq {m:ae}:∀ {l:List ae},m∈l→mW m≤lK l
 | x::l,h=>by
  rcases List.mem_cons.1 h with rfl | h
  ·simp only [lK]; omega
  ·have:=sq h; simp only [lK]; omega
theorem nY {p:aj}:∀ {l:List aj},p∈l→pW p≤lH l
 | x::l,h=>by
  rcases List.mem_cons.1 h with rfl | h
  ·simp only [lH]; omega
  ·have:=nY h; simp only [lH]; omega
def Ho (m:ae):Prop:=m.Lb.length<140737488355328∧m.Le.size<140737488355328∧m.Ld.Lf.size<140737488355328∧m.Ld.Lc.size<140737488355328∧m.To.length<140737488355328∧∀ p∈m.To,p.Lf.size<140737488355328∧p.Lc.size<140737488355328
theorem Cn (l:List ae) (i:Nat) (hi:i<l.length) (hm:Ho l[i]) (ht:l[i].To.length≤40) (A:Nat) (hA:A<1152921504606846976) :
  aQ (Kc l (i:Int)) bU ((A:Int),0)=some (.inl ((A+lH l[i].To:Nat):Int)):=by
 have hix:cj (i:Int) l.length=some i:=bi hi
 have hg:aN l i=some l[i]:=by simp [aN,hi]
 obtain ⟨m,hmm⟩:∃ m,m=l[i]:=⟨_,rfl⟩
 rw [← hmm] at hm ht hg ⊢
 have hp:∀ p∈m.To,pW p≤281474976710656:=fun p hp=>by have:=hm.2.2.2.2.2 p hp; simp only [pW]; omega
 have hb:∀ k,lH (m.To.take k)≤40 * 281474976710656:=fun k=>by
  have h1:=oZ 281474976710656 (m.To.take k) (fun p hq=>hp p (List.mem_of_mem_take hq))
  have h2:(m.To.take k).length≤40:=by rw [List.length_take]; omega
  exact Nat.le_trans h1 (Nat.mul_le_mul_right _ h2)
 refine bP (fun k=>(((A+lH (m.To.take k):Nat):Int),(k:Int))) m.To.length bU (by simp [lH]) (by simp only [bU]; omega) (fun k hk => ?_) ?_
 ·have hk':k<m.To.length:=hk
  have hix2:cj (k:Int) m.To.length=some k:=bi hk'
  have hg2:aN m.To k=some m.To[k]:=by simp [aN,hk']
  have hb1:=hb k
  have hpk:=hm.2.2.2.2.2 m.To[k] (List.getElem_mem _)
  have hs:=Be m.To k hk'
  refine ar hix (ar hg (ap (decide_eq_true (by omega)) (ar hix (ar hg (ar hix2 (ar hg2 (ar (te (by omega)) (ar hix (ar hg (ar hix2 (ar hg2 (ar (te (by omega)) (ar (congrArg some (aW (by omega))) ?_))))))))))))) 
  rw [hs]
  simp only [pW,Nat.add_assoc]
 ·refine ar hix (ar hg (ak (decide_eq_false (by omega)) ?_))
  simp only [List.take_length]
def LM (m:ae):Prop:=m.To.length≤40∧mW m≤20000
theorem Ic {m:ae} (hm:Ho m) (ht:m.To.length≤40):mW m≤44 * 281474976710656:=by
 have h1:=oZ 281474976710656 m.To (fun p hq=>by have:=hm.2.2.2.2.2 p hq; simp only [pW]; omega)
 have h2:m.To.length * 281474976710656≤40 * 281474976710656:=Nat.mul_le_mul_right _ ht
 have:=hm.1; have:=hm.2.1; have:=hm.2.2.1; have:=hm.2.2.2.1
 simp only [mW]; omega
theorem ze (l:List ae) (hr:∀ m∈l,Ho m):∃ b,ci l=some b∧(b=false→l.length≤20∧∀ m∈l,LM m):=by
 by_cases hl:20<l.length
 ·refine ⟨true,?_,fun h=>by cases h⟩
  simp only [ci]
  exact ap (decide_eq_true (by omega)) rfl
 ·have go:∀ i,(hi:i<l.length)→l[i].To.length≤40→lK (l.take i)≤20 * (44 * 281474976710656)→Cf l (((lK (l.take i):Nat):Int),(i:Int))=some (.inl (((lK (l.take (i+1)):Nat):Int),((i+1:Nat):Int))):=by
   intro i hi ht hb
   have hix:cj (i:Int) l.length=some i:=bi hi
   have hg:aN l i=some l[i]:=by simp [aN,hi]
   have hm:=hr l[i] (List.getElem_mem _)
   have hm1:=hm.1; have hm2:=hm.2.1; have hm3:=hm.2.2.1; have hm4:=hm.2.2.2.1
   refine ap (decide_eq_true (by omega)) (ar hix (ar hg (ar (te (by omega)) (ar hix (ar hg (ar (te (by omega)) (ar hix (ar hg (ar (te (by omega)) (ar hix (ar hg (ar (te (by omega)) (ar hix (ar hg (ak (decide_eq_false (by omega)) (aI (Cn l i hi hm ht _ (by omega)) (ar (congrArg some (aW (by omega))) ?_)))))))))))))))))
   rw [zX l i hi]
   simp only [mW,Nat.add_assoc]
  have hs:∀ k,k≤l.length→(∀ i,i<k→(h:i<l.length)→l[i].To.length≤40)→lK (l.take k)≤20 * (44 * 281474976710656):=by
   intro k hk ht
   have h1:=zN (44 * 281474976710656) (l.take k) (fun m hq=>by
    obtain ⟨j,hj,e⟩:=List.mem_iff_getElem.1 hq
    rw [List.getElem_take] at e
    rw [List.length_take] at hj
    rw [← e]
    exact Ic (hr _ (List.getElem_mem _)) (ht j (by omega) (by omega)))
   have h2:(l.take k).length≤20:=by rw [List.length_take]; omega
   exact Nat.le_trans h1 (Nat.mul_le_mul_right _ h2)
  rcases lO (fun i=>decide (∀ h:i<l.length,l[i].To.length≤40)) l.length with h | ⟨k,hk,h1,h2⟩
  ·have ht:∀ i,(h:i<l.length)→l[i].To.length≤40:=fun i hi=>of_decide_eq_true (h i hi) hi
   have hrun:aQ (Cf l) bU (0,0)=some (.inl ((lK l:Nat):Int)):=by
    refine bP (fun k=>(((lK (l.take k):Nat):Int),(k:Int))) l.length bU rfl (by simp only [bU]; omega) (fun i hi=>go i hi (ht i hi) (hs i (by omega) (fun j _ hj=>ht j hj))) ?_
    refine ak (decide_eq_false (by omega)) ?_
    simp only [List.take_length]
   refine ⟨decide ((20000:Int)<((lK l:Nat):Int)),?_,fun hd=>⟨by omega,fun m hm=>⟨?_,?_⟩⟩⟩
   ·simp only [ci]
    exact ak (decide_eq_false (by omega)) (aI hrun rfl)
   ·obtain ⟨j,hj,e⟩:=List.mem_iff_getElem.1 hm
    rw [← e]; exact ht j hj
   ·have:=sq hm
    have:=of_decide_eq_false hd
    omega
  ·have h2':40<l[k].To.length:=by
    have:=of_decide_eq_false h2
    apply Classical.byContradiction
    intro hh
    exact this (fun _=>Nat.le_of_not_lt hh)
   have ht:∀ i,i<k→(h:i<l.length)→l[i].To.length≤40:=fun i hi h=>of_decide_eq_true (h1 i hi) h
   have hrun:aQ (Cf l) bU (0,0)=some (.inr true):=by
    refine bP (fun k=>(((lK (l.take k):Nat):Int),(k:Int))) k bU rfl (by simp only [bU]; omega) (fun i hi=>go i (by omega) (ht i hi (by omega)) (hs i (by omega) (fun j hj h=>ht j (by omega) h))) ?_
    have hix:cj (k:Int) l.length=some k:=bi hk
    have hg:aN l k=some l[k]:=by simp [aN,hk]
    have hm:=hr l[k] (List.getElem_mem _)
    have hm1:=hm.1; have hm2:=hm.2.1; have hm3:=hm.2.2.1; have hm4:=hm.2.2.2.1
    have hb:=hs k (by omega) ht
    exact ap (decide_eq_true (by omega)) (ar hix (ar hg (ar (te (by omega)) (ar hix (ar hg (ar (te (by omega)) (ar hix (ar hg (ar (te (by omega)) (ar hix (ar hg (ar (te (by omega)) (ar hix (ar hg (ap (decide_eq_true (by omega)) rfl)))))))))))))))
   refine ⟨true,?_,fun h=>by cases h⟩
   simp only [ci]
   exact ak (decide_eq_false (by omega)) (jY hrun rfl)
set_option maxRecDepth 10000
theorem fA {m:ae} (h:LM m):Small m.Ld∧(∀ p∈m.To,Small p)∧m.Lb.length≤20000∧m.To.length≤40:=by
 obtain ⟨h1,h2⟩:=h
 have h2':=h2
 simp only [mW] at h2
 refine ⟨⟨by omega,by omega⟩,fun p hp => ?_,by omega,h1⟩
 have:=nY hp
 simp only [pW] at this
 exact ⟨by omega,by omega⟩
def KW (mails:List ae):(((List Int)×Int))→Option (((List Int)×Int)⊕(((List Int))⊕(List Int))):=(fun ((s46,s47):(List Int)×Int) =>
 cond ((decide (s47<(mails.length:Int))))
  ((cj s47 mails.length).bind fun v2 =>
  (aN mails v2).bind fun v3 =>
  (bZ (⟨#[77,65,73,76,32,70,82,79,77,58]⟩:Ll) (aj.mk v3.Ld.Lh v3.Ld.Lf v3.Ld.Lc) s46).bind fun v4 =>
  aF (S:=((List Int))) (A:=(((List Int)×Int)⊕(((List Int))⊕(List Int))))
   (aQ (S:=((List Int)×Int)) (O:=((List Int))⊕(((List Int)×Int)⊕(((List Int))⊕(List Int)))) (fun ((s76,s77):(List Int)×Int) =>
    cond ((decide (s77<(v3.To.length:Int))))
     ((cj s77 v3.To.length).bind fun v6 =>
     (aN v3.To v6).bind fun v7 =>
     (bZ (⟨#[82,67,80,84,32,84,79,58]⟩:Ll) v7 s76).bind fun v8 =>
     (some (IntKind.i64.wrap (s77+1))).bind fun v9 =>
     some (.inl (v8,v9)))
     (some (.inr (.inl s76))))
    bU (v4,0))
   (fun (s79:(List Int)) =>
    (co 1 s79 (ao (⟨#[68,65,84,65,13,10]⟩:Ll))).bind fun v24 =>
    (gn v3.Lb).bind fun v25 =>
    (co 1 v24 v25.1).bind fun v26 =>
    (some (IntKind.i64.wrap (s47+1))).bind fun v27 =>
    some (.inl (v26,v27))) some)
  (some (.inr (.inl s46))))
def KJ (v3:ae):(((List Int)×Int))→Option (((List Int)×Int)⊕(((List Int))⊕(((List Int)×Int)⊕(((List Int))⊕(List Int))))):=(fun ((s76,s77):(List Int)×Int) =>
 cond ((decide (s77<(v3.To.length:Int))))
  ((cj s77 v3.To.length).bind fun v6 =>
  (aN v3.To v6).bind fun v7 =>
  (bZ (⟨#[82,67,80,84,32,84,79,58]⟩:Ll) v7 s76).bind fun v8 =>
  (some (IntKind.i64.wrap (s77+1))).bind fun v9 =>
  some (.inl (v8,v9)))
  (some (.inr (.inl s76))))
def iU:List Int:=[77,65,73,76,32,70,82,79,77,58]
def jt:List Int:=[82,67,80,84,32,84,79,58]
def pL (w:List Int) (p:aj):List Int:=w++(fm p++[13,10])
def iE:List aj→List Int
 | []=>[]
 | p::l=>pL jt p++iE l
theorem oX:∀ a b,iE (a++b)=iE a++iE b
 | [],b=>rfl
 | p::a,b=>by simp only [List.cons_append,iE,oX a b,List.append_assoc]
def eU (b:List Int):List Int:=((gn b).map (·.1)).getD []
def qx (m:ae):List Int:=pL iU m.Ld++(iE m.To++([68,65,84,65,13,10]++eU m.Lb))
def dr:List ae→List Int
 | []=>[]
 | m::l=>qx m++dr l
theorem kQ:∀ a b,dr (a++b)=dr a++dr b
 | [],b=>rfl
 | p::a,b=>by simp only [List.cons_append,dr,kQ a b,List.append_assoc]
structure Vm (m:ae):Prop where
 lm:LM m
 pf:eD m.Ld=true
 pt:∀ p∈m.To,eD p=true
 bd:∃ ls,(∀ l∈ls,oO l)∧(∀ l∈ls,bJ l)∧m.Lb=jn ls
theorem rk {p:aj} (h:pW p≤20000):(fm p).length≤20010:=by
 simp only [pW] at h
 unfold fm
 cases p.Lh
 ·simp only [cond_false,List.length_cons,List.length_append,aK,List.length_nil]; omega
 ·simp
theorem Dm {word:Ll} {w:List Int} {p:aj} {cap:List Int} (hw:ao word=w) (hwl:w.length≤100) (hp:eD p=true) (hs:Small p) (hpl:pW p≤20000) (hc:cap.length≤1000000000):bZ word p cap=some (cap++pL w p):=by
 have hl:=rk hpl
 unfold bZ
 have hb:ao (aL (fm p))=fm p:=aH (gO p)
 have hwb:bJ w:=by rw [← hw]; exact cq word
 have h2:ao (aL (w++fm p))=w++fm p:=aH (bM hwb (gO p))
 have h3:bJ [13,10]:=by intro x hx; simp only [List.mem_cons,List.not_mem_nil,or_false] at hx; omega
 have h4:ao (aL ((w++fm p)++[13,10]))=pL w p:=by rw [aH (bM (bM hwb (gO p)) h3)]; simp [pL]
 refine ar ((DA p hs).trans (by rw [hp])) (ar (oM hw hb (by omega)) (ar (oM h2 Il (by simp only [List.length_append,List.length_cons,List.length_nil]; omega)) (ar ?_ rfl)))
 rw [h4]
 exact cA (by simp only [pL,List.length_append,List.length_cons,List.length_nil]; omega) (by simp only [pL,List.length_append,List.length_cons,List.length_nil]; omega)
theorem pn {w:List Int} {p:aj} (hw:w.length≤100) (hpl:pW p≤20000):(pL w p).length≤20200:=by
 have:=rk hpl
 simp only [pL,List.length_append,List.length_cons,List.length_nil]; omega
theorem ni:∀ {l:List aj},(∀ p∈l,pW p≤20000)→(iE l).length≤l.length * 20200
 | [],_=>by simp [iE]
 | p::l,h=>by
  have h1:=pn (w:=jt) (by decide) (h p List.mem_cons_self)
  have h2:=ni (l:=l) fun q hq=>h q (List.mem_cons_of_mem _ hq)
  simp only [iE,List.length_append,List.length_cons]; omega
theorem ww {m:ae} (h:LM m):pW m.Ld≤20000∧∀ p∈m.To,pW p≤20000:=by
 obtain ⟨h1,h2⟩:=h
 simp only [mW] at h2
 refine ⟨by simp only [pW]; omega,fun p hp => ?_⟩
 have:=nY hp
 omega
theorem vA {m:ae} (h:Vm m):gn m.Lb=some (eU m.Lb,0)∧(eU m.Lb).length≤50000:=by
 obtain ⟨ls,h1,h2,h3⟩:=h.bd
 have hl:=(fA h.lm).2.2.1
 have ht:dW ls≤20000:=by rw [← cu,← h3]; exact hl
 have hs:=mv h1 h2 (by omega:dW ls<1000000000)
 rw [← h3] at hs
 have e:eU m.Lb=jn (ls.map lQ++[[46]]):=by unfold eU; rw [hs]; rfl
 refine ⟨by rw [e]; exact hs,?_⟩
 rw [e,cu,jl]
 have:=rf ls
 simp only [dW,List.length_cons,List.length_nil]
 omega
theorem EV {m:ae} (h:Vm m):(qx m).length≤1000000:=by
 obtain ⟨h1,h2⟩:=ww h.lm
 have a:=pn (w:=iU) (by decide) h1
 have b:=ni h2
 have c:=(vA h).2
 have d:=h.lm.1
 have e:m.To.length * 20200≤40 * 20200:=Nat.mul_le_mul_right _ d
 simp only [qx,List.length_append,List.length_cons,List.length_nil]; omega
theorem jp:∀ {l:List ae},(∀ m∈l,Vm m)→(dr l).length≤l.length * 1000000
 | [],_=>by simp [dr]
 | p::l,h=>by
  have h1:=EV (h p List.mem_cons_self)
  have h2:=jp (l:=l) fun q hq=>h q (List.mem_cons_of_mem _ hq)
  simp only [dr,List.length_append,List.length_cons]; omega
theorem Em {m:ae} (h:Vm m) (A:List Int) (hA:A.length≤100000000):aQ (KJ m) bU (A,0)=some (.inl (A++iE m.To)):=by
 obtain ⟨h1,h2⟩:=ww h.lm
 have hsm:=(fA h.lm).2.1
 have d:=h.lm.1
 refine bP (fun i=>(A++iE (m.To.take i),((i:Nat):Int))) m.To.length bU (by simp [iE]) (by simp only [bU]; omega) (fun i hi => ?_) ?_
 ·have hm:=List.getElem_mem hi
  have hb:=ni (l:=m.To.take i) fun p hp=>h2 p (List.mem_of_mem_take hp)
  have hbl:(m.To.take i).length≤40:=by simp only [List.length_take]; omega
  have hb':(m.To.take i).length * 20200≤40 * 20200:=Nat.mul_le_mul_right _ hbl
  have e:iE (m.To.take (i+1))=iE (m.To.take i)++pL jt m.To[i]:=by
   rw [List.take_succ_eq_append_getElem hi,oX]
   simp only [iE,List.append_nil]
  refine ap (decide_eq_true (by omega)) (ar (bi hi) (ar (by simp [aN,hi]:aN m.To i=some m.To[i]) (ar (Dm (w:=jt) rfl (by decide) (h.pt _ hm) (hsm _ hm) (h2 _ hm) (by simp only [List.length_append]; omega)) (ar (congrArg some (aW (n:=i) (by omega))) ?_))))
  rw [e,List.append_assoc]
 ·simp only [List.take_length]
  exact ak (decide_eq_false (by omega)) rfl
theorem wm {l:List ae} (h:∀ m∈l,Vm m) (hl:l.length≤20):fQ l=some (dr l++[81,85,73,84,13,10]):=by
 unfold fQ
 have hcl:=jp h
 refine aI (s:=dr l) (bP (f:=KW l) (fun i=>(dr (l.take i),((i:Nat):Int))) l.length bU (by simp [dr]) (by simp only [bU]; omega) (fun i hi => ?_) ?_) (ar (cA (by simp only [aK]; show _≤_; have:(⟨#[81,85,73,84,13,10]⟩:Ll).size=6:=rfl; omega) (by simp only [aK]; have:(⟨#[81,85,73,84,13,10]⟩:Ll).size=6:=rfl; omega)) rfl)
 ·have hm:=h _ (List.getElem_mem hi)
  obtain ⟨h1,h2⟩:=ww hm.lm
  have hsm:=fA hm.lm
  have hb:=jp (l:=l.take i) fun p hp=>h p (List.mem_of_mem_take hp)
  have hbl:(l.take i).length≤20:=by simp only [List.length_take]; omega
  have hb':(l.take i).length * 1000000≤20 * 1000000:=Nat.mul_le_mul_right _ hbl
  have a:=pn (w:=iU) (by decide) h1
  have hr:=ni h2
  have hr':l[i].To.length * 20200≤40 * 20200:=Nat.mul_le_mul_right _ hm.lm.1
  obtain ⟨hs1,hs2⟩:=vA hm
  have e:dr (l.take (i+1))=dr (l.take i)++qx l[i]:=by
   rw [List.take_succ_eq_append_getElem hi,kQ]
   simp only [dr,List.append_nil]
  refine ap (decide_eq_true (by omega)) (ar (bi hi) (ar (by simp [aN,hi]:aN l i=some l[i]) (ar (Dm (w:=iU) (p:=l[i].Ld) rfl (by decide) hm.pf hsm.1 h1 (by omega)) (aI (Em hm _ (by simp only [List.length_append]; omega)) (ar (cA (m:=[68,65,84,65,13,10]) (by simp only [List.length_append,List.length_cons,List.length_nil]; omega) (by simp only [List.length_append,List.length_cons,List.length_nil]; omega)) (ar hs1 (ar (cA (by simp only [List.length_append,List.length_cons,List.length_nil]; omega) (by simp only [List.length_append,List.length_cons,List.length_nil]; omega)) (ar (congrArg some (aW (n:=i) (by omega))) ?_))))))))
  rw [e]
  simp only [qx,List.append_assoc]
 ·simp only [List.take_length]
  exact ak (decide_eq_false (by omega)) rfl
set_option maxRecDepth 10000
def kO:Nat→Nat→List Int→List Int
 | 0,n,acc=>(48+(n:Int))::acc
 | k+1,n,acc=>if n≤9 then (48+(n:Int))::acc else kO k (n / 10) ((48+((n % 10:Nat):Int))::acc)
def Bf (c:Int):Prop:=48≤c∧c≤57
theorem uO:∀ (k n:Nat) (acc:List Int),n<10 ^ (k+1)→∃ t,kO k n acc=t++acc∧(∀ x∈t,Bf x)∧1≤t.length∧t.length≤k+1
 | 0,n,acc,hn=>⟨[48+(n:Int)],rfl,fun x hx=>by simp at hx; subst hx; simp at hn; exact ⟨by omega,by omega⟩,by simp,by simp⟩
 | k+1,n,acc,hn=>by
  unfold kO
  by_cases h9:n≤9
  ·rw [if_pos h9]
   exact ⟨[48+(n:Int)],rfl,fun x hx=>by simp at hx; subst hx; exact ⟨by omega,by omega⟩,by simp,by simp⟩
  ·rw [if_neg h9]
   have hn2:n / 10<10 ^ (k+1):=by rw [Nat.pow_succ] at hn; omega
   obtain ⟨t,e,h1,h2,h3⟩:=uO k (n / 10) ((48+((n % 10:Nat):Int))::acc) hn2
   refine ⟨t++[48+((n % 10:Nat):Int)],by rw [e]; simp,fun x hx => ?_,by simp,by simp; omega⟩
   rcases List.mem_append.1 hx with hx | hx
   ·exact h1 x hx
   ·simp at hx; subst hx; exact ⟨by omega,by omega⟩
theorem yM:∀ (k n:Nat) (acc:List Int),n<10 ^ (k+1)→(Lib.decDigits n).map (fun b=>(b.toNat:Int))++acc=kO k n acc
 | 0,n,acc,hn=>by
  have h:n<10:=by simpa using hn
  rw [Lib.decDigits_one h]
  show ((UInt8.ofNat (48+n)).toNat:Int)::acc=(48+(n:Int))::acc
  rw [UInt8.toNat_ofNat',Nat.mod_eq_of_lt (by omega)]
  simp
 | k+1,n,acc,hn=>by
  unfold kO
  by_cases h9:n≤9
  ·rw [if_pos h9,Lib.decDigits_one (by omega)]
   show ((UInt8.ofNat (48+n)).toNat:Int)::acc=(48+(n:Int))::acc
   rw [UInt8.toNat_ofNat',Nat.mod_eq_of_lt (by omega)]
   simp
  ·rw [if_neg h9]
   have hn2:n / 10<10 ^ (k+1):=by rw [Nat.pow_succ] at hn; omega
   rw [← yM k (n / 10) _ hn2,Lib.decDigits,dif_neg (by omega)]
   simp only [List.map_append,List.map_cons,List.map_nil,List.append_assoc,List.cons_append,List.nil_append]
   rw [UInt8.toNat_ofNat',Nat.mod_eq_of_lt (by omega)]
   simp
def Iz:Ll:=⟨#[48,49,50,51,52,53,54,55,56,57]⟩
theorem Cx:(List.range 10).all (fun k=>decide (fI Iz ((k:Nat):Int) ((k+1:Nat):Int)=some (aL [48+((k:Nat):Int)])))=true:=by kernel_rfl
theorem uv {k:Nat} (h:k<10):fI Iz (k:Int) ((k+1:Nat):Int)=some (aL [48+(k:Int)]):=by
 have:=List.all_eq_true.1 Cx k (List.mem_range.2 h)
 exact of_decide_eq_true this
theorem BH {n:Nat} (h:n≤9):bJ [48+(n:Int)]:=df (by omega) dv
theorem DW (k n:Nat) (h:n<10 ^ (k+1)) (h2:n<9000000000000000000):strconv_Itoa (n:Int)=some (aL (kO k n [])):=by
 unfold strconv_Itoa
 rw [if_pos (by omega),← yM k n [] h]
 congr 1
 have:Lib.itoa (n:Int)=Lib.decDigits n:=by unfold Lib.itoa; rw [if_neg (by omega),Int.toNat_natCast]
 rw [this,List.append_nil]
 apply iW
 rw [aH (fun x hx=>by
  obtain ⟨b,_,rfl⟩:=List.mem_map.1 hx
  have:=b.toNat_lt
  omega)]
 simp [ao]
set_option maxRecDepth 10000
def KK (b:az) (v3:List Int) (v4:Int):((Ll×Int))→Option ((Ll×Int)⊕((Ll)⊕((List Int)×Int))):=(fun ((s51,s52):Ll×Int) =>
 cond ((decide (s52<(([b.Lj,b.Li,(b.Lg.length:Int),(v3.length:Int),v4].length:Int)))))
  ((cj s52 [b.Lj,b.Li,(b.Lg.length:Int),(v3.length:Int),v4].length).bind fun v6 =>
  (aN [b.Lj,b.Li,(b.Lg.length:Int),(v3.length:Int),v4] v6).bind fun v7 =>
  (strconv_Itoa v7).bind fun v8 =>
  (bN (⟨#[32]⟩:Ll) v8).bind fun v9 =>
  (bN s51 v9).bind fun v10 =>
  (some (IntKind.i64.wrap (s52+1))).bind fun v11 =>
  some (.inl (v10,v11)))
  (some (.inr (.inl s51))))
def fP:List Int:=[66,85,78,68,76,69]
def fT:List Nat→List Int
 | []=>[]
 | n::l=>32::(kO 20 n []++fT l)
theorem wG:∀ a b,fT (a++b)=fT a++fT b
 | [],b=>rfl
 | n::a,b=>by simp only [List.cons_append,fT,wG a b,List.append_assoc]
theorem sf {n:Nat} (h:n<10 ^ 18):bJ (kO 20 n [])∧(kO 20 n []).length≤21:=by
 obtain ⟨t,h1,h2,h3,h4⟩:=uO 20 n [] (by omega)
 rw [h1,List.append_nil]
 exact ⟨fun x hx=>by have:=h2 x hx; unfold Bf at this; omega,h4⟩
theorem oS:∀ {l:List Nat},(∀ n∈l,n<10 ^ 18)→bJ (fT l)∧(fT l).length≤l.length * 22
 | [],_=>⟨dv,by simp [fT]⟩
 | n::l,h=>by
  obtain ⟨h1,h2⟩:=sf (h n List.mem_cons_self)
  obtain ⟨h3,h4⟩:=oS (l:=l) fun x hx=>h x (List.mem_cons_of_mem _ hx)
  refine ⟨df (by omega) (bM h1 h3),?_⟩
  simp only [fT,List.length_cons,List.length_append]; omega
theorem DD (b:az) (v3:List Int) (v4:Int) (ns:List Nat) (hns:[b.Lj,b.Li,(b.Lg.length:Int),(v3.length:Int),v4]=ns.map (fun n:Nat=>(n:Int))) (hn:∀ n∈ns,n<10 ^ 18) :
  aQ (KK b v3 v4) bU ((⟨#[66,85,78,68,76,69]⟩:Ll),0)=some (.inl (aL (fP++fT ns))):=by
 have hl:ns.length=5:=by have:=congrArg List.length hns; simpa using this.symm
 have hbw:bJ fP:=by intro x hx; simp only [fP,List.mem_cons,List.not_mem_nil,or_false] at hx; omega
 have hB:∀ i,ao (aL (fP++fT (ns.take i)))=fP++fT (ns.take i):=fun i=>aH (bM hbw (oS fun n h=>hn n (List.mem_of_mem_take h)).1)
 refine bP (fun i=>(aL (fP++fT (ns.take i)),((i:Nat):Int))) ns.length bU (by simp only [List.take_zero,fT,List.append_nil]; rfl) (by simp only [bU]; omega) (fun i hi => ?_) ?_
 ·have hi5:i<5:=by omega
  have hlen:(([b.Lj,b.Li,(b.Lg.length:Int),(v3.length:Int),v4].length:Nat))=5:=rfl
  have hni:=hn _ (List.getElem_mem hi)
  obtain ⟨hd1,hd2⟩:=sf hni
  have hnl:=(oS (l:=ns.take i) fun n h=>hn n (List.mem_of_mem_take h)).2
  have htl:(ns.take i).length≤5:=by simp only [List.length_take]; omega
  have hg:aN [b.Lj,b.Li,(b.Lg.length:Int),(v3.length:Int),v4] i=some ((ns[i]:Nat):Int):=by rw [hns]; simp [aN,hi]
  have e:fT (ns.take (i+1))=fT (ns.take i)++(32::kO 20 ns[i] []):=by
   rw [List.take_succ_eq_append_getElem hi,wG]
   simp only [fT,List.append_nil]
  have h32:ao (⟨#[32]⟩:Ll)=[32]:=rfl
  have hbl:fP.length=6:=rfl
  refine ap (decide_eq_true (by rw [hlen]; omega)) (ar (bi (by rw [hlen]; exact hi5)) (ar hg (ar (DW 20 _ (by omega) (by omega)) (ar (oM h32 (aH hd1) (by simp only [List.length_cons,List.length_nil]; omega)) (ar (oM (hB i) (aH (bM (df (by omega) dv) hd1)) (by simp only [List.length_append,List.length_cons,List.length_nil]; omega)) (ar (congrArg some (aW (n:=i) (by omega))) ?_))))))
  rw [e,List.append_assoc]
  rfl
 ·simp only [List.take_length]
  have hlen:(([b.Lj,b.Li,(b.Lg.length:Int),(v3.length:Int),v4].length:Nat))=5:=rfl
  exact ak (decide_eq_false (by rw [hlen]; omega)) rfl
theorem xj {b:az} {ns:List Nat} {v:Int} (hc:cR b=some 0) (hm:∀ m∈b.Lg,Vm m) (hl:b.Lg.length≤20) (hs:gw (dr b.Lg++[81,85,73,84,13,10])=some v)
  (hns:[b.Lj,b.Li,(b.Lg.length:Int),((dr b.Lg++[81,85,73,84,13,10]).length:Int),v]=ns.map (fun n:Nat=>(n:Int))) (hn:∀ n∈ns,n<10 ^ 18) :
  bp b=some (if 4096<((fP++fT ns)++[13,10]++(dr b.Lg++[81,85,73,84,13,10])).length then ([],2) else ((fP++fT ns)++[13,10]++(dr b.Lg++[81,85,73,84,13,10]),0)):=by
 obtain ⟨c,hcd⟩:∃ c,c=dr b.Lg++[81,85,73,84,13,10]:=⟨_,rfl⟩
 have hcl:c.length≤20000006:=by
  have h1:=jp hm
  have h2:b.Lg.length * 1000000≤20 * 1000000:=Nat.mul_le_mul_right _ hl
  rw [hcd]; simp only [List.length_append,List.length_cons,List.length_nil]; omega
 have hcm:=wm hm hl
 rw [← hcd] at hs hns hcm ⊢
 have hlp:=DD b c v ns hns hn
 have hl5:ns.length=5:=by have:=congrArg List.length hns; simpa using this.symm
 obtain ⟨hb1,hb2⟩:=oS hn
 have hbw:bJ fP:=by intro x hx; simp only [fP,List.mem_cons,List.not_mem_nil,or_false] at hx; omega
 have hbl:fP.length=6:=rfl
 have h13:bJ [13,10]:=by intro x hx; simp only [List.mem_cons,List.not_mem_nil,or_false] at hx; omega
 unfold bp
 refine ar hc (ak rfl (ar hcm (ar hs (aI hlp (ar (oM (aH (bM hbw hb1)) Il (by simp only [List.length_append,List.length_cons,List.length_nil]; omega)) (ar (congrArg some (aH (bM (bM hbw hb1) h13))) (ar (cA (by simp only [List.length_append,List.length_cons,List.length_nil]; omega) (by simp only [List.length_append,List.length_cons,List.length_nil]; omega)) ?_)))))))
 by_cases h:4096<((fP++fT ns)++[13,10]++c).length
 ·rw [if_pos h]; exact ap (decide_eq_true (by omega)) rfl
 ·rw [if_neg h]; exact ak (decide_eq_false (by omega)) rfl
set_option maxRecDepth 10000
def Ja (m:ae):Int→Option (Int⊕(Unit⊕Bool)):=(fun (s24:Int) =>
 cond ((decide (s24<(m.To.length:Int))))
  ((cj s24 m.To.length).bind fun v8 =>
  (aN m.To v8).bind fun v9 =>
  aF (S:=Bool) (A:=((Int)⊕((Unit)⊕Bool)))
   ((et v9).bind fun v10 =>
   cond ((v10 != 0))
    (some (.inl true))
    (some (.inl v9.Lh)))
   (fun (s38:Bool) =>
    cond (s38)
     (some (.inr (.inr (false))))
     ((some (IntKind.i64.wrap (s24+1))).bind fun v16 =>
     some (.inl v16))) some)
  (some (.inr (.inl ()))))
theorem cC {A:Type} {a b:Bool} (h:a=b):(some (.inl a):Option (Bool⊕A))=some (.inl b):=by rw [h]
theorem GS {m:ae} (h:LM m):∃ c,eS m=some c∧(c=true→eD m.Ld=true∧∀ p∈m.To,eD p=true):=by
 obtain ⟨hs1,hs2,hs3,hs4⟩:=fA h
 unfold eS
 cases hF:eD m.Ld
 ·exact ⟨false,aI (s:=true) (ar (fa _ hs1) (ap (by rw [hF]; rfl) rfl)) (ap rfl rfl),fun h=>by cases h⟩
 by_cases h1:m.To.length<1
 ·exact ⟨false,aI (s:=true) (ar (fa _ hs1) (ak (by rw [hF]; rfl) (ap (decide_eq_true (by omega)) rfl))) (ap rfl rfl),fun h=>by cases h⟩
 by_cases h8:8<m.To.length
 ·exact ⟨false,aI (s:=true) (ar (fa _ hs1) (ak (by rw [hF]; rfl) (ak (decide_eq_false (by omega)) (cC (decide_eq_true (by omega)))))) (ap rfl rfl),fun h=>by cases h⟩
 have step:∀ (i:Nat) (hi:i<m.To.length),(eD m.To[i] && !m.To[i].Lh)=true→Ja m (i:Int)=some (.inl ((i+1:Nat):Int)):=by
  intro i hi hp
  rw [Bool.and_eq_true] at hp
  exact ap (decide_eq_true (by omega)) (ar (bi hi) (ar (by simp [aN,hi]:aN m.To i=some m.To[i]) (aI (s:=false) (ar (fa _ (hs2 _ (List.getElem_mem hi))) (ak (by rw [hp.1]; rfl) (cC (by simpa using hp.2)))) (ak rfl (ar (congrArg some (aW (n:=i) (by omega))) rfl)))))
 rcases lO (fun i=>decide (∀ hi:i<m.To.length,(eD m.To[i] && !m.To[i].Lh)=true)) m.To.length with ha | ⟨k,hk,hb,hno⟩
 ·refine ⟨true,aI (s:=false) (ar (fa _ hs1) (ak (by rw [hF]; rfl) (ak (decide_eq_false (by omega)) (cC (decide_eq_false (by omega)))))) (ak rfl (aI (s:=()) (bP (f:=Ja m) (fun i=>((i:Nat):Int)) m.To.length bU rfl (by simp only [bU]; omega) (fun i hi=>step i hi (of_decide_eq_true (ha i hi) hi)) (ak (decide_eq_false (by omega)) rfl)) rfl)),fun _=>⟨rfl,fun p hp => ?_⟩⟩
  obtain ⟨i,hi,rfl⟩:=List.getElem_of_mem hp
  have:=of_decide_eq_true (ha i hi) hi
  rw [Bool.and_eq_true] at this
  exact this.1
 ·have hn:¬ (eD m.To[k] && !m.To[k].Lh)=true:=fun h=>by
   have:=of_decide_eq_false hno
   exact this fun _=>h
  refine ⟨false,aI (s:=false) (ar (fa _ hs1) (ak (by rw [hF]; rfl) (ak (decide_eq_false (by omega)) (cC (decide_eq_false (by omega)))))) (ak rfl (jY (a:=false) (bP (f:=Ja m) (fun i=>((i:Nat):Int)) k bU rfl (by simp only [bU]; omega) (fun i hi=>step i (by omega) (of_decide_eq_true (hb i hi) (by omega))) ?_) rfl)),fun h=>by cases h⟩
  refine ap (decide_eq_true (by omega)) (ar (bi hk) (ar (by simp [aN,hk]:aN m.To k=some m.To[k]) (aI (s:=true) (ar (fa _ (hs2 _ (List.getElem_mem hk))) ?_) (ap rfl rfl))))
  cases hp:eD m.To[k]
  ·exact ap rfl rfl
  ·refine ak rfl (cC ?_)
   rw [hp] at hn
   cases hu:m.To[k].Lh
   ·rw [hu] at hn; exact absurd rfl hn
   ·rfl
theorem HZ {m:ae} (h:LM m) (hb:bJ m.Lb):∃ c,cG m=some c∧(c=true→Vm m):=by
 obtain ⟨e,he,hev⟩:=GS h
 have hl:=(fA h).2.2.1
 unfold cG
 cases e
 ·exact ⟨false,aI (s:=false) (ar he (ak rfl rfl)) rfl,fun h=>by cases h⟩
 by_cases h4:m.Lb.length≤4096
 ·rcases ln hb (by omega) with hd | ⟨ls,a,c,d⟩
  ·exact ⟨false,aI (s:=false) (ar he (ap rfl (ap (decide_eq_true (by omega)) (ar hd rfl)))) rfl,fun h=>by cases h⟩
  ·have hd:cM m.Lb=some 0:=by rw [d]; exact ku a c (by rw [← cu,← d]; omega)
   exact ⟨true,aI (s:=true) (ar he (ap rfl (ap (decide_eq_true (by omega)) (ar hd rfl)))) rfl,fun _=>⟨h,(hev rfl).1,(hev rfl).2,ls,a,c,d⟩⟩
 ·exact ⟨false,aI (s:=false) (ar he (ap rfl (ak (decide_eq_false (by omega)) rfl))) rfl,fun h=>by cases h⟩
set_option maxRecDepth 10000
def Jb (b:az):((Int))→Option ((Int)⊕((Unit)⊕Int)):=(fun (s28:Int) =>
 cond ((decide (s28<(b.Lg.length:Int))))
  ((cj s28 b.Lg.length).bind fun v12 =>
  (aN b.Lg v12).bind fun v13 =>
  aF (S:=Bool) (A:=((Int)⊕((Unit)⊕Int)))
   ((cG ((ae.mk (aj.mk v13.Ld.Lh v13.Ld.Lf v13.Ld.Lc) v13.To v13.Lb v13.Lk v13.Le v13.At))).bind fun v14 =>
   cond ((!v14))
    (some (.inl true))
    (cond (v13.Lk)
     (some (.inl true))
     (cond ((!(v13.Le.toList==(⟨#[]⟩:Ll).toList)))
      (some (.inl true))
      (some (.inl (v13.At != 0))))))
   (fun (s42:Bool) =>
    cond (s42)
     (some (.inr (.inr (5))))
     ((some (IntKind.i64.wrap (s28+1))).bind fun v20 =>
     some (.inl v20))) some)
  (some (.inr (.inl ()))))
theorem tC {f:Int→Option (Int⊕(Unit⊕Int))} {P:Nat→Prop} (n:Nat) (h:∀ i:Nat,i<n→(f (i:Int)=some (.inl ((i+1:Nat):Int))∧P i)∨f (i:Int)=some (.inr (.inr 5))) (hend:f (n:Int)=some (.inr (.inl ()))) :
  ∀ (d i fuel:Nat),i+d=n→d<fuel→(aQ f fuel (i:Int)=some (.inl ())∧∀ j,i≤j→j<n→P j)∨aQ f fuel (i:Int)=some (.inr 5)
 | d,i,0,_,hf=>absurd hf (Nat.not_lt_zero d)
 | 0,i,fuel+1,hd,hf=>by
  obtain rfl:i=n:=by omega
  exact .inl ⟨aS hend,fun j h1 h2=>by omega⟩
 | d+1,i,fuel+1,hd,hf=>by
  rcases h i (by omega) with ⟨h1,hp⟩ | h1
  ·rcases tC n h hend d (i+1) fuel (by omega) (by omega) with ⟨h2,h3⟩ | h2
   ·refine .inl ⟨by rw [bx h1]; exact h2,fun j h4 h5 => ?_⟩
    by_cases e:j=i
    ·rw [e]; exact hp
    ·exact h3 j (by omega) h5
   ·exact .inr (by rw [bx h1]; exact h2)
  ·exact .inr (aS h1)
theorem Ci {b:az} (hm:∀ m∈b.Lg,LM m∧bJ m.Lb) (hl:b.Lg.length≤20) :
  ∃ e,cR b=some e∧(e=0∨e=5)∧(e=0→(b.Lj=0∨b.Lj=1)∧1≤b.Li∧b.Li≤65535∧1≤b.Lg.length∧b.Lg.length≤4∧∀ m∈b.Lg,Vm m):=by
 unfold cR
 have five:∀ {Q:Prop},(5:Int)=0→Q:=fun h=>absurd h (by decide)
 by_cases o:b.Lj=0∨b.Lj=1
 case neg =>
  have o0:b.Lj≠0:=fun h=>o (.inl h)
  have o1:b.Lj≠1:=fun h=>o (.inr h)
  exact ⟨5,aI (s:=true) (ap (by simpa using o0) (ap (by simpa using o1) rfl)) (ap rfl rfl),.inr rfl,five⟩
 by_cases nn:1≤b.Li∧b.Li≤65535
 case neg =>
  refine ⟨5,aI (s:=true) ?_ (ap rfl rfl),.inr rfl,five⟩
  have tail:∀ {A:Type},(cond (decide (b.Li<1)) (some (.inl true)) (some (.inl (decide (65535<b.Li)))):Option (Bool⊕A))=some (.inl true):=by
   intro A
   by_cases h:b.Li<1
   ·exact ap (decide_eq_true h) rfl
   ·exact ak (decide_eq_false h) (cC (decide_eq_true (by omega)))
  rcases o with o | o
  ·exact ak (by rw [o]; rfl) tail
  ·exact ap (by rw [o]; rfl) (ak (by rw [o]; rfl) tail)
 have first:(cond (b.Lj != 0) (cond (b.Lj != 1) (some (.inl true)) (cond (decide (b.Li<1)) (some (.inl true)) (some (.inl (decide (65535<b.Li)))))) (cond (decide (b.Li<1)) (some (.inl true)) (some (.inl (decide (65535<b.Li))))):Option (Bool⊕Int))=some (.inl false):=by
  have tail:(cond (decide (b.Li<1)) (some (.inl true)) (some (.inl (decide (65535<b.Li)))):Option (Bool⊕Int))=some (.inl false):=ak (decide_eq_false (by omega)) (cC (decide_eq_false (by omega)))
  rcases o with o | o
  ·exact ak (by rw [o]; rfl) tail
  ·exact ap (by rw [o]; rfl) (ak (by rw [o]; rfl) tail)
 by_cases ml:1≤b.Lg.length∧b.Lg.length≤4
 case neg =>
  refine ⟨5,aI first (ak rfl (aI (s:=true) ?_ (ap rfl rfl))),.inr rfl,five⟩
  by_cases h:b.Lg.length<1
  ·exact ap (decide_eq_true (by omega)) rfl
  ·exact ak (decide_eq_false (by omega)) (cC (decide_eq_true (by omega)))
 have hstep:∀ i:Nat,i<b.Lg.length→(Jb b (i:Int)=some (.inl ((i+1:Nat):Int))∧(∀ hi:i<b.Lg.length,Vm b.Lg[i]))∨Jb b (i:Int)=some (.inr (.inr 5)):=by
  intro i hi
  obtain ⟨h3,h4⟩:=hm _ (List.getElem_mem hi)
  obtain ⟨c,hc,hv⟩:=HZ h3 h4
  have hg:aN b.Lg i=some b.Lg[i]:=by simp [aN,hi]
  obtain ⟨x,hx⟩:∃ x:Bool,((cG b.Lg[i]).bind fun v14=>cond ((!v14)) (some (.inl true)) (cond (b.Lg[i].Lk) (some (.inl true)) (cond ((!(b.Lg[i].Le.toList==(⟨#[]⟩:Ll).toList))) (some (.inl true)) (some (.inl (b.Lg[i].At != 0))))):Option (Bool⊕(Int⊕(Unit⊕Int))))=some (.inl x)∧(x=false→c=true):=by
   cases c
   ·exact ⟨true,ar hc rfl,fun h=>by cases h⟩
   ·cases hq:b.Lg[i].Lk
    ·cases hh:(!(b.Lg[i].Le.toList==(⟨#[]⟩:Ll).toList))
     ·exact ⟨_,ar hc (ak rfl rfl),fun _=>rfl⟩
     ·exact ⟨true,ar hc (ak rfl rfl),fun _=>rfl⟩
    ·exact ⟨true,ar hc (ak rfl rfl),fun _=>rfl⟩
  cases x
  ·exact .inl ⟨ap (decide_eq_true (by omega)) (ar (bi hi) (ar hg (aI hx.1 (ak rfl (ar (congrArg some (aW (n:=i) (by omega))) rfl))))),fun _=>hv (hx.2 rfl)⟩
  ·exact .inr (ap (decide_eq_true (by omega)) (ar (bi hi) (ar hg (aI hx.1 (ap rfl rfl)))))
 rcases tC (f:=Jb b) (P:=fun i=>∀ hi:i<b.Lg.length,Vm b.Lg[i]) b.Lg.length hstep (ak (decide_eq_false (by omega)) rfl) b.Lg.length 0 bU (by omega) (by simp only [bU]; omega) with ⟨h1,h2⟩ | h1
 ·refine ⟨0,aI first (ak rfl (aI (s:=false) (ak (decide_eq_false (by omega)) (cC (decide_eq_false (by omega)))) (ak rfl (aI (s:=()) h1 rfl)))),.inl rfl,fun _=>⟨o,nn.1,nn.2,ml.1,ml.2,fun m hmm => ?_⟩⟩
  obtain ⟨i,hi,rfl⟩:=List.getElem_of_mem hmm
  exact h2 i (by omega) hi hi
 ·exact ⟨5,aI first (ak rfl (aI (s:=false) (ak (decide_eq_false (by omega)) (cC (decide_eq_false (by omega)))) (ak rfl (jY (a:=5) h1 rfl)))),.inr rfl,five⟩
end Go.Abs.Sh
