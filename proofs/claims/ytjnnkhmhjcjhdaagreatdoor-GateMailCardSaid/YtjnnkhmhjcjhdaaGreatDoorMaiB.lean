import Derived.Test.YtjnnkhmhjcjhdaaGreatDoorSh
set_option linter.unusedVariables false
set_option linter.unusedSimpArgs false
set_option linter.unusedSectionVars false
namespace Go.Abs.Sh
set_option linter.unusedVariables false
theorem jH {n:Int} (h0 : -9223372036854775808≤n) (h1:n<9223372036854775808):IntKind.i64.wrap n=n:=by
 simp only [IntKind.wrap,IntKind.bits,IntKind.signed]
 have e:(2:Int) ^ 64=18446744073709551616:=by decide
 have e2:(2:Int) ^ (64-1)=9223372036854775808:=by decide
 simp only [e,e2,Bool.true_and,decide_eq_true_eq]
 split <;> omega
theorem gZ {i n:Nat} (h:i<n):dw (i:Int) n=some i:=by simp [dw]; omega
theorem eL {A:Type} {l:List A} {i:Nat} (h:i<l.length):bp l i=some l[i]:=by simp [bp,h]
theorem aK {A R:Type} {m:Option A} {f:A→Option R} {x:A} {r:Option R} (h:m=some x) (h2:f x=r):m.bind f=r:=by subst h; exact h2
theorem bq {S A R:Type} {m:Option (S⊕A)} {k:S→Option R} {e:A→Option R} {s:S} {r:Option R} (h:m=some (.inl s)) (h2:k s=r):au m k e=r:=by subst h; exact h2
theorem BR {S A R:Type} {m:Option (S⊕A)} {k:S→Option R} {e:A→Option R} {a:A} {r:Option R} (h:m=some (.inr a)) (h2:e a=r):au m k e=r:=by subst h; exact h2
theorem gB {S O:Type} {step:S→Option (S⊕O)} {n:Nat} {s s':S} (h:step s=some (.inl s')):bo step (n+1) s=bo step n s':=by
 simp only [bo,h]
theorem dW {S O:Type} {step:S→Option (S⊕O)} {n:Nat} {s:S} {o:O} (h:step s=some (.inr o)):bo step (n+1) s=some o:=by
 simp only [bo,h]
theorem aD {R:Type} {c:Bool} {x y r:R} (hc:c=false) (h:y=r):cond c x y=r:=by subst hc; exact h
theorem aP {R:Type} {c:Bool} {x y r:R} (hc:c=true) (h:x=r):cond c x y=r:=by subst hc; exact h
theorem Cq {S O:Type} {f:S→Option (S⊕O)} (st:Nat→S) {o:O}:∀ (n fuel:Nat),n<fuel→(∀ i,i<n→f (st i)=some (.inl (st (i+1))))→f (st n)=some (.inr o)→bo f fuel (st 0)=some o:=by
 intro n
 induction n generalizing st with
 | zero =>
  intro fuel hf _ he
  obtain ⟨k,rfl⟩:∃ k,fuel=k+1:=⟨fuel-1,by omega⟩
  exact dW he
 | succ n ih =>
  intro fuel hf hs he
  obtain ⟨k,rfl⟩:∃ k,fuel=k+1:=⟨fuel-1,by omega⟩
  rw [gB (hs 0 (by omega))]
  exact ih (fun i=>st (i+1)) k (by omega) (fun i hi=>hs (i+1) (by omega)) he
theorem oU {S O:Type} {f:S→Option (S⊕O)} {s:S} (st:Nat→S) {o:O} (n fuel:Nat) (h0:st 0=s) (hn:n<fuel) (hs:∀ i,i<n→f (st i)=some (.inl (st (i+1)))) (he:f (st n)=some (.inr o)):bo f fuel s=some o:=by
 subst h0; exact Cq st n fuel hn hs he
theorem tz (p:Nat→Bool):∀ n,(∀ i,i<n→p i=true)∨∃ k,k<n∧(∀ i,i<k→p i=true)∧p k=false
 | 0 => .inl fun i h=>absurd h (Nat.not_lt_zero i)
 | n+1=>by
  rcases tz p n with h | ⟨k,h1,h2,h3⟩
  ·cases hp:p n
   ·exact .inr ⟨n,by omega,h,hp⟩
   ·refine .inl fun i hi => ?_
    by_cases h':i=n
    ·subst h'; exact hp
    ·exact h i (by omega)
  ·exact .inr ⟨k,by omega,h2,h3⟩
theorem oe {R:Type} {f:Int→Option (Int⊕(Unit⊕R))} (p:Nat→Bool) (n:Nat) (r:R) {fuel:Nat} (hf:n<fuel) (hgo:∀ i,i<n→p i=true→f (i:Int)=some (.inl ((i+1:Nat):Int))) (hno:∀ i,i<n→p i=false→f (i:Int)=some (.inr (.inr r))) (hend:f (n:Int)=some (.inr (.inl ()))) :
  bo f fuel 0=some (if ∀ i,i<n→p i=true then .inl () else .inr r):=by
 rcases tz p n with h | ⟨k,h1,h2,h3⟩
 ·rw [if_pos h]
  exact oU (fun i=>(i:Int)) n fuel rfl hf (fun i hi=>hgo i hi (h i hi)) hend
 ·rw [if_neg fun h=>by rw [h k h1] at h3; cases h3]
  exact oU (fun i=>(i:Int)) k fuel rfl (by omega) (fun i hi=>hgo i (by omega) (h2 i hi)) (hno k h1 h3)
theorem CG (n:Nat) (h:n<9223372036854775808):IntKind.i64.wrap (n:Int)=(n:Int):=jH (by omega) (by omega)
theorem jm {n:Nat} (h:n<4611686018427387904):IntKind.i64.wrap ((n:Int)+1)=((n+1:Nat):Int):=by rw [jH (by omega) (by omega)]; simp
theorem oO {n:Int} (h0 : -9223372036854775808≤n) (h1:n<9223372036854775808):some (IntKind.i64.wrap n)=some n:=by rw [jH h0 h1]
theorem FT (a b:Nat) (hb:0<b) (ha:a<9223372036854775808):rQ .i64 (a:Int) (b:Int)=some ((a / b:Nat):Int):=by
 simp only [rQ]
 have:a / b≤a:=Nat.div_le_self a b
 rw [if_neg (by omega),Int.tdiv_eq_ediv_of_nonneg (by omega)]
 have e:(a:Int) / (b:Int)=((a / b:Nat):Int):=rfl
 rw [e,CG _ (by omega)]
theorem Fw (a b:Nat) (hb:0<b):kW (a:Int) (b:Int)=some ((a % b:Nat):Int):=by
 simp only [kW]
 rw [if_neg (by omega),Int.tmod_eq_emod_of_nonneg (by omega)]
 rfl
theorem mG {A:Type} (l:List A) {a b:Nat} (h1:a≤b) (h2:b≤l.length):kM l (a:Int) (b:Int)=some ((l.drop a).take (b-a)):=by
 unfold kM
 rw [if_pos (by omega)]
 simp only [Int.toNat_natCast]
theorem dJ {A:Type} {k:Nat} {l m:List A} (h:(l.length+m.length) * k≤140737488355328) (h1:l.length+m.length≤140737488355328):cc k l m=some (l++m):=by
 unfold cc; rw [if_pos ⟨h,h1⟩]
theorem cW (s:Mf):dL (ao s):=by
 intro x hx
 simp only [ao,List.mem_map] at hx
 obtain ⟨b,_,rfl⟩:=hx
 have:=b.toNat_lt
 omega
theorem jR (s:Mf):aQ (ao s)=s:=by
 obtain ⟨⟨l⟩⟩:=s
 simp only [aQ,ao,List.map_map]
 congr 2
 conv=>rhs; rw [← List.map_id l]
 apply List.map_congr_left
 intro b _
 simp
theorem aJ {l:List Int} (h:dL l):ao (aQ l)=l:=by
 simp only [aQ,ao,List.map_map]
 conv=>rhs; rw [← List.map_id l]
 apply List.map_congr_left
 intro x hx
 have:=h x hx
 simp only [Function.comp,id_eq,UInt8.toNat_ofNat']
 omega
theorem jo {s t:Mf} (h:ao s=ao t):s=t:=by rw [← jR s,h,jR]
theorem dU (l:List Int):(aQ l).size=l.length:=by simp [aQ,ByteArray.size]
theorem qn {l:List Int} (h:dL l) (n:Nat):dL (l.drop n):=fun x hx=>h x (List.mem_of_mem_drop hx)
theorem xD {l:List Int} (h:dL l) (n:Nat):dL (l.take n):=fun x hx=>h x (List.mem_of_mem_take hx)
theorem bM {l m:List Int} (h:dL l) (k:dL m):dL (l++m):=by
 intro x hx
 rcases List.mem_append.1 hx with h1 | h1
 ·exact h x h1
 ·exact k x h1
theorem BE {l:List Int} (h:xx (pU .u8) l):dL l:=by
 intro x hx
 have:=h.2 x hx
 simp only [pU,Lit.wf,IntKind.min,IntKind.max,IntKind.signed,IntKind.bits] at this
 have h2:0≤x∧x≤255:=by simpa using this
 omega
theorem HU {s:Mf} {i:Nat} (h:i<s.size):dc s (i:Int)=some ((ao s)[i]'(by rw [aL]; exact h)):=by
 unfold dc
 rw [if_pos (by omega)]
 have h':i<s.data.toList.length:=by simpa using h
 simp only [Int.toNat_natCast,ao,List.getElem?_eq_getElem h',Option.map_some,List.getElem_map]
theorem kQ {s:Mf} {a b:Nat} (h1:a≤b) (h2:b≤s.size):gz s (a:Int) (b:Int)=some (aQ (((ao s).drop a).take (b-a))):=by
 unfold gz
 rw [if_pos (by omega)]
 simp only [Int.toNat_natCast]
 congr 1
 apply jo
 rw [aJ (xD (qn (cW s) a) _)]
 simp only [ao,ByteArray.data_extract,Array.toList_extract,List.extract_eq_take_drop,List.map_take,List.map_drop]
theorem HL {s t:Mf} (h:s.size+t.size≤9223372036854775807):ce s t=some (aQ (ao s++ao t)):=by
 unfold ce
 rw [if_pos h]
 congr 1
 apply jo
 rw [aJ (bM (cW s) (cW t))]
 simp [ao]
theorem ib (s t:Mf):(s.toList==t.toList)=decide (s=t):=by
 rw [← beq_toListBytes,Bool.eq_iff_iff,decide_eq_true_eq]
 obtain ⟨a⟩:=s
 obtain ⟨b⟩:=t
 show (a==b)=true↔_
 rw [beq_iff_eq]
 exact ⟨fun h=>by rw [h],fun h=>by injection h⟩
theorem sI {s t:Mf}:s=t↔ao s=ao t:=⟨fun h=>h ▸ rfl,jo⟩
def gF:List Int→Option Nat
 | []=>none
 | x::l=>if x=13∧l.head? = some 10 then some 0 else (gF l).map (· + 1)
theorem pc:∀ {l:List Int} {e:Nat},gF l=some e→e+2≤l.length∧l=l.take e++13::10::l.drop (e+2)
 | [],e,h=>by simp [gF] at h
 | x::l,e,h=>by
  unfold gF at h
  split at h
  ·rename_i hc
   cases h
   obtain ⟨rfl,h2⟩:=hc
   cases l with
   | nil=>simp at h2
   | cons y l=>simp at h2; subst h2; simp
  ·cases hi:gF l with
   | none=>simp [hi] at h
   | some k =>
    simp [hi] at h
    subst h
    obtain ⟨h1,h2⟩:=pc hi
    refine ⟨by simp; omega,?_⟩
    simp only [List.take_succ_cons,List.cons_append,List.drop_succ_cons,show k+1+2=(k+2)+1 by omega]
    rw [← h2]
theorem oW:∀ {line rest:List Int},(∀ x∈line,x≠13)→gF (line++13::10::rest)=some line.length
 | [],rest,_=>by simp [gF]
 | x::line,rest,h=>by
  have hx:=h x (by simp)
  have ih:=oW (line:=line) (rest:=rest) fun y hy=>h y (by simp [hy])
  rw [List.cons_append]
  unfold gF
  rw [if_neg (fun e=>hx e.1),ih]
  simp
theorem Gb {x:Int} (h:0≤x∧x<256) {n:Nat} (hn:n<256):(UInt8.ofNat x.toNat=UInt8.ofNat n)↔x=(n:Int):=by
 constructor
 ·intro e
  have:=congrArg UInt8.toNat e
  simp only [UInt8.toNat_ofNat'] at this
  omega
 ·rintro rfl; simp
theorem yu:∀ {l:List Int},dL l→Lib.index (Lib.bytesOf l) (Lib.bytesOf [13,10])=match gF l with | none => -1 | some e=>(e:Int)
 | [],_=>by rfl
 | x::l,h=>by
  have hx:=h x (by simp)
  have ih:=yu (l:=l) fun y hy=>h y (by simp [hy])
  have e1:Lib.bytesOf (x::l)=UInt8.ofNat x.toNat::Lib.bytesOf l:=rfl
  have e2:Lib.bytesOf [13,10]=[UInt8.ofNat 13,UInt8.ofNat 10]:=rfl
  rw [e1]
  unfold Lib.index gF
  have hp:(Lib.bytesOf [13,10]).isPrefixOf (UInt8.ofNat x.toNat::Lib.bytesOf l)=decide (x=13∧l.head? = some 10):=by
   rw [Bool.eq_iff_iff,decide_eq_true_eq,e2]
   cases l with
   | nil=>simp [Lib.bytesOf,List.isPrefixOf]
   | cons y l =>
    have hy:=h y (by simp)
    have ex:=Gb hx (n:=13) (by omega)
    have ey:=Gb hy (n:=10) (by omega)
    simp only [Lib.bytesOf,List.map_cons,List.isPrefixOf,Bool.and_eq_true,beq_iff_eq,Bool.true_and,Bool.and_true,and_true,List.head?_cons,Option.some.injEq]
    constructor
    ·rintro ⟨h1,h2⟩; exact ⟨ex.1 h1.symm,ey.1 h2.symm⟩
    ·rintro ⟨h1,h2⟩; exact ⟨(ex.2 h1).symm,(ey.2 h2).symm⟩
  rw [hp]
  by_cases hc:x=13∧l.head? = some 10
  ·rw [if_pos (by simpa using hc),if_pos hc]
   rfl
  ·rw [if_neg (by simpa using hc),if_neg hc,ih]
   cases gF l with
   | none=>rfl
   | some k =>
    have:((k:Int) == -1)=false:=beq_eq_false_iff_ne.2 (by omega)
    simp only [this,Bool.false_eq_true,if_false,Option.map_some]
    rfl
theorem rD {l:List Int} (h:dL l) (hl:l.length<4294967281):iD l [13,10]=some (match gF l with | none => -1 | some e=>(e:Int)):=by
 unfold iD
 rw [if_pos ⟨hl,by simp,by simp,h,by decide⟩,yu h]
def lw (c:Int):List Int→Option Nat
 | []=>none
 | x::l=>if x=c then some 0 else (lw c l).map (· + 1)
theorem uM {c:Int}:∀ {l:List Int},lw c l=none↔c ∉ l
 | []=>by simp [lw]
 | x::l=>by
  have ih:=uM (c:=c) (l:=l)
  unfold lw
  by_cases h:x=c
  ·simp [h]
  ·rw [if_neg h]
   simp only [Option.map_eq_none_iff,ih,List.mem_cons,not_or]
   exact ⟨fun h2=>⟨fun e=>h e.symm,h2⟩,fun h2=>h2.2⟩
theorem qM {c:Int}:∀ {l:List Int} {e:Nat},lw c l=some e→e+1≤l.length∧l=l.take e++c::l.drop (e+1)∧c ∉ l.take e
 | [],e,h=>by simp [lw] at h
 | x::l,e,h=>by
  unfold lw at h
  split at h
  ·rename_i hx
   cases h; subst hx; simp
  ·rename_i hx
   cases hi:lw c l with
   | none=>simp [hi] at h
   | some k =>
    simp [hi] at h
    subst h
    obtain ⟨h1,h2,h3⟩:=qM hi
    refine ⟨by simp; omega,?_,?_⟩
    ·simp only [List.take_succ_cons,List.cons_append,List.drop_succ_cons]
     rw [← h2]
    ·simp only [List.take_succ_cons,List.mem_cons,not_or]
     exact ⟨fun e=>hx e.symm,h3⟩
theorem qA {c:Int}:∀ {p r:List Int},c ∉ p→lw c (p++c::r)=some p.length
 | [],r,_=>by simp [lw]
 | x::p,r,h=>by
  simp only [List.mem_cons,not_or] at h
  rw [List.cons_append]
  unfold lw
  rw [if_neg (fun e=>h.1 e.symm),qA h.2]
  simp
theorem qI {n:Nat} (hn:n<256):∀ (l:List UInt8),Lib.indexByte l (UInt8.ofNat n)=match lw (n:Int) (l.map fun b=>(b.toNat:Int)) with | none => -1 | some e=>(e:Int)
 | []=>rfl
 | b::l=>by
  have ih:=qI hn l
  unfold Lib.indexByte
  rw [List.map_cons]
  unfold lw
  have hb:(b==UInt8.ofNat n)=decide ((b.toNat:Int)=(n:Int)):=by
   rw [Bool.eq_iff_iff,decide_eq_true_eq,beq_iff_eq]
   constructor
   ·rintro rfl; simp; omega
   ·intro h
    apply UInt8.toNat_inj.1
    simp; omega
  rw [hb]
  by_cases h:(b.toNat:Int)=(n:Int)
  ·rw [if_pos (decide_eq_true h),if_pos h]; rfl
  ·rw [if_neg (by simpa using h),if_neg h,ih]
   cases lw (n:Int) (l.map fun b=>(b.toNat:Int)) with
   | none=>rfl
   | some k =>
    have:((k:Int) == -1)=false:=beq_eq_false_iff_ne.2 (by omega)
    simp only [this,Bool.false_eq_true,if_false,Option.map_some]
    rfl
theorem qX {n:Nat} (hn:n<256) (s:Mf):cC s ⟨#[UInt8.ofNat n]⟩=some (match lw (n:Int) (ao s) with | none => -1 | some e=>(e:Int)):=by
 unfold cC
 have:=qI hn s.data.toList
 simp only [this]
 rfl
def jC (c:Int):List Int→List (List Int)
 | []=>[[]]
 | x::l=>if x=c then []::jC c l else match jC c l with
  | []=>[[x]]
  | p::ps=>(x::p)::ps
theorem ol (c:Int):∀ l,jC c l≠[]
 | []=>by simp [jC]
 | x::l=>by
  unfold jC
  split
  ·simp
  ·split <;> simp
theorem Bi {c:Int}:∀ {l:List Int},c ∉ l→jC c l=[l]
 | [],_=>rfl
 | x::l,h=>by
  simp only [List.mem_cons,not_or] at h
  unfold jC
  rw [if_neg (fun e=>h.1 e.symm),Bi h.2]
theorem Ba {c:Int}:∀ {p r:List Int},c ∉ p→jC c (p++c::r)=p::jC c r
 | [],r,_=>by simp [jC]
 | x::p,r,h=>by
  simp only [List.mem_cons,not_or] at h
  rw [List.cons_append]
  conv=>lhs; unfold jC
  rw [if_neg (fun e=>h.1 e.symm),Ba h.2]
def zk {X S O:Type} (step:X→S→Option (S⊕O)):List X→S→Option (S⊕O)
 | [],s=>some (.inl s)
 | x::l,s=>match step x s with
  | none=>none
  | some (.inl s')=>zk step l s'
  | some (.inr o)=>some (.inr o)
def zg (c:Int) (s:Mf):List Mf:=(jC c (ao s)).map aQ
theorem jr {n:Int} (h0 : -9223372036854775808≤n) (h1:n<9223372036854775808):some (IntKind.i64.wrap n)=some n:=by rw [jH h0 h1]
theorem xb {S O:Type} (n:Nat) (hn:n<256) (step:Mf→S→Option (S⊕O)) (s:Mf) (st:S) (hs:s.size<4611686018427387904) (r:S⊕O) (hr:zk step (zg (n:Int) s) st=some r) :
  gW (S:=S) (O:=O) (fun Y st=>bS Y ⟨#[UInt8.ofNat n]⟩ s 0 st) step st=some r:=by
 unfold gW bS
 refine aD rfl ?_
 have key:∀ (k:Nat) (s:Mf) (st:S) (fuel:Nat),s.size=k→k<4611686018427387904→k<fuel→zk step (zg (n:Int) s) st=some r →
   au (S:=(Mf×(S⊕O))) (A:=S⊕O)
    (bo (S:=(Mf×(S⊕O))) (O:=(Mf×(S⊕O))⊕(S⊕O)) (fun ((s37,s38):Mf×(S⊕O)) =>
     (cC s37 ⟨#[UInt8.ofNat n]⟩).bind fun v25 =>
     cond ((decide (v25<0)))
      (some (.inr (.inl (s37,s38))))
      ((some (IntKind.i64.wrap (v25+0))).bind fun v27 =>
      (gz s37 0 v27).bind fun v28 =>
      (jc step v28 s38).bind fun v29 =>
      cond ((!v29.2))
       (some (.inr (.inr (v29.1))))
       ((some (IntKind.i64.wrap (v25+((⟨#[UInt8.ofNat n]⟩:Mf).size:Int)))).bind fun v31 =>
       (gz s37 v31 (s37.size:Int)).bind fun v32 =>
       some (.inl (v32,v29.1)))))
     fuel (s,.inl st))
    (fun ((s41,s42):Mf×(S⊕O)) =>
     (jc step s41 s42).bind fun v51 =>
     some (v51.1)) some=some r:=by
  intro k
  induction k using Nat.strongRecOn with
  | _ k ih =>
   intro s st fuel hk hb hf hr
   obtain ⟨f,rfl⟩:∃ f,fuel=f+1:=⟨fuel-1,by omega⟩
   cases hi:lw (n:Int) (ao s) with
   | none =>
    rw [dW (o := .inl (s,.inl st)) (by
     refine aK (qX hn s) ?_
     rw [hi]
     exact aP rfl rfl)]
    have h1:zg (n:Int) s=[s]:=by
     unfold zg
     rw [Bi (uM.1 hi)]
     simp [jR]
    rw [h1] at hr
    simp only [zk] at hr
    show ((jc step s (.inl st)).bind fun v51=>some (v51.1))=some r
    simp only [jc]
    cases hst:step s st with
    | none=>rw [hst] at hr; cases hr
    | some u =>
     rw [hst] at hr
     cases u with
     | inl s'=>simpa using hr
     | inr o=>simpa using hr
   | some e =>
    obtain ⟨h1,h2,h3⟩:=qM hi
    rw [aL] at h1
    have h4:zg (n:Int) s=aQ ((ao s).take e)::zg (n:Int) (aQ ((ao s).drop (e+1))):=by
     unfold zg
     rw [aJ (qn (cW s) _)]
     conv=>lhs; rw [h2]
     rw [Ba h3,List.map_cons]
    rw [h4] at hr
    simp only [zk] at hr
    have e1:gz s 0 (e:Int)=some (aQ ((ao s).take e)):=by
     have:=kQ (s:=s) (a:=0) (b:=e) (by omega) (by omega)
     simpa using this
    have e2:gz s ((e:Int)+1) (s.size:Int)=some (aQ ((ao s).drop (e+1))):=by
     have:=kQ (s:=s) (a:=e+1) (b:=s.size) (by omega) (by omega)
     rw [List.take_of_length_le (by simp [aL])] at this
     simpa using this
    have w1:some (IntKind.i64.wrap ((e:Int)+0))=some (e:Int):=by rw [jr (by omega) (by omega)]; simp
    have w2:some (IntKind.i64.wrap ((e:Int)+((⟨#[UInt8.ofNat n]⟩:Mf).size:Int)))=some ((e:Int)+1):=by
     show some (IntKind.i64.wrap ((e:Int)+1))=_
     rw [jr (by omega) (by omega)]
    have hsz:(aQ ((ao s).drop (e+1))).size=s.size-(e+1):=by rw [dU,List.length_drop,aL]
    cases hst:step (aQ ((ao s).take e)) st with
    | none=>rw [hst] at hr; cases hr
    | some u =>
     rw [hst] at hr
     cases u with
     | inl s' =>
      rw [gB (s':=(aQ ((ao s).drop (e+1)),.inl s')) (by
       refine aK (qX hn s) ?_
       rw [hi]
       refine aD (decide_eq_false (by show ¬ ((e:Int)<0); omega)) (aK w1 (aK e1 (aK (x:=(.inl s',true)) (by simp [jc,hst]) (aD rfl (aK w2 (aK e2 rfl))))))
       )]
      exact ih _ (by rw [hsz]; omega) _ s' f rfl (by omega) (by omega) hr
     | inr o =>
      rw [dW (o := .inr (.inr o)) (by
       refine aK (qX hn s) ?_
       rw [hi]
       exact aD (decide_eq_false (by show ¬ ((e:Int)<0); omega)) (aK w1 (aK e1 (aK (x:=(.inr o,false)) (by simp [jc,hst]) (aP rfl rfl))))
       )]
      exact hr
 exact key _ s st ej rfl hs (by unfold ej; omega) hr
def Kh (c:Int):Bool:=decide (48≤c)&&decide (c≤57)||(decide (65≤c)&&decide (c≤90)||decide (97≤c)&&decide (c≤122))
def Bn (c:Int):Bool:=Kh c||c==45
def Cy (c:Int):Bool:=Kh c||[33,35,36,37,38,39,42,43,45,47,61,63,94,95,96,123,124,125,126].contains c
def ui (l:List Int):Bool := !l.isEmpty&&(decide (l.length≤63)&&(l.head? != some 45&&(l.getLast? != some 45&&l.all Bn)))
def ox (l:List Int):Bool := !l.isEmpty&&l.all Cy
def tK (l:List Int):Bool:=decide (l.length≤255)&&(jC 46 l).all ui
def qC (l:List Int):Bool:=decide (l.length≤64)&&(jC 46 l).all ox
theorem si (p:Int→Bool) (h:(List.range 256).all (fun k=>p (k:Int))=true) {c:Int} (hc:0≤c∧c<256):p c=true:=by
 have:=List.all_eq_true.1 h c.toNat (List.mem_range.2 (by omega))
 rwa [Int.toNat_of_nonneg hc.1] at this
theorem BI:(List.range 256).all (fun k=>decide (ik ((k:Nat):Int)=some (Cy ((k:Nat):Int))))=true:=by kernel_rfl
theorem yV:(List.range 256).all (fun k=>decide (gA ((k:Nat):Int)=some (Bn ((k:Nat):Int))))=true:=by kernel_rfl
theorem IG {c:Int} (hc:0≤c∧c<256):ik c=some (Cy c):=by
 simpa using si (fun c=>decide (ik c=some (Cy c))) BI hc
theorem Hu {c:Int} (hc:0≤c∧c<256):gA c=some (Bn c):=by
 simpa using si (fun c=>decide (gA c=some (Bn c))) yV hc
theorem nt (l:List Int) (p:Int→Bool):l.all p=true↔∀ i,i<l.length→p (l.getD i 0)=true:=by
 rw [List.all_eq_true]
 constructor
 ·intro h i hi
  rw [List.getD_eq_getElem?_getD,List.getElem?_eq_getElem hi]
  exact h _ (List.getElem_mem hi)
 ·intro h x hx
  obtain ⟨i,hi,rfl⟩:=List.getElem_of_mem hx
  have:=h i hi
  rw [List.getD_eq_getElem?_getD,List.getElem?_eq_getElem hi] at this
  exact this
theorem mO {s:Mf} {i:Nat} (h:i<s.size):dc s (i:Int)=some ((ao s).getD i 0):=by
 rw [HU h,List.getD_eq_getElem?_getD,List.getElem?_eq_getElem (by rw [aL]; exact h)]; rfl
theorem oD (s:Mf) {i:Nat} (h:i<s.size):0≤(ao s).getD i 0∧(ao s).getD i 0<256:=by
 rw [List.getD_eq_getElem?_getD,List.getElem?_eq_getElem (by rw [aL]; exact h)]
 exact cW s _ (List.getElem_mem _)
theorem xk {g:Int→Option Bool} {p:Int→Bool} (s:Mf) (hs:s.size<4611686018427387904) (hg:∀ c,0≤c∧c<256→g c=some (p c)) :
  au (S:=(Unit)) (A:=Bool)
  (bo (S:=(Int)) (O:=(Unit)⊕Bool) (fun (s9:Int) =>
   cond ((decide (s9<(s.size:Int))))
    ((dc s s9).bind fun v2 =>
    (g v2).bind fun v3 =>
    cond ((!v3))
     (some (.inr (.inr (false))))
     ((some (IntKind.i64.wrap (s9+1))).bind fun v5 =>
     some (.inl v5)))
    (some (.inr (.inl ()))))
   ej 0)
  (fun (():Unit) =>
   some (true)) some=some ((ao s).all p):=by
 have hl:=oe (R:=Bool) (f:=fun (s9:Int) =>
   cond ((decide (s9<(s.size:Int))))
    ((dc s s9).bind fun v2 =>
    (g v2).bind fun v3 =>
    cond ((!v3))
     (some (.inr (.inr (false))))
     ((some (IntKind.i64.wrap (s9+1))).bind fun v5 =>
     some (.inl v5)))
    (some (.inr (.inl ())))) (fun i=>p ((ao s).getD i 0)) s.size false (fuel:=ej) (by unfold ej; omega)
  (fun i hi hp=>aP (decide_eq_true (by omega)) (aK (mO hi) (aK (hg _ (oD s hi)) (aD (by simp only [hp]; rfl) (aK (by rw [jm (by omega)]) rfl)))))
  (fun i hi hp=>aP (decide_eq_true (by omega)) (aK (mO hi) (aK (hg _ (oD s hi)) (aP (by simp only [hp]; rfl) rfl))))
  (aD (decide_eq_false (by omega)) rfl)
 rw [hl]
 have hiff:=nt (ao s) p
 rw [aL] at hiff
 by_cases hall:∀ i,i<s.size→p ((ao s).getD i 0)=true
 ·rw [if_pos hall,hiff.2 hall]; rfl
 ·rw [if_neg hall]
  cases hq:(ao s).all p
  ·rfl
  ·exact absurd (hiff.1 hq) hall
theorem Ih (s:Mf):(s.toList==(⟨#[]⟩:Mf).toList)=(ao s).isEmpty:=by
 rw [ib,Bool.eq_iff_iff,decide_eq_true_eq,sI]
 simp [ao]
theorem Ev (s:Mf) (hs:s.size<4611686018427387904):mi s=some (ox (ao s)):=by
 unfold mi ox
 rw [Ih]
 cases (ao s).isEmpty
 ·exact bq (s:=(ao s).all Cy) (aP rfl (aK (xk s hs fun c hc=>IG hc) rfl)) rfl
 ·exact bq (s:=false) (aD rfl rfl) rfl
theorem rj {l:List Int} (h:l≠[]):l.getLast? = some (l.getD (l.length-1) 0):=by
 have:0<l.length:=List.length_pos_iff.2 h
 rw [List.getLast?_eq_getElem?,List.getD_eq_getElem?_getD,List.getElem?_eq_getElem (by omega)]
 rfl
theorem qL {l:List Int} (h:l≠[]):l.head? = some (l.getD 0 0):=by
 cases l with
 | nil=>exact absurd rfl h
 | cons x l=>rfl
theorem DA (s:Mf) (hs:s.size<4611686018427387904):kS s=some (ui (ao s)):=by
 unfold kS ui
 rw [Ih]
 cases he:(ao s).isEmpty
 ·have hne:ao s≠[]:=by intro e; rw [e] at he; cases he
  have hpos:0<s.size:=by rw [← aL]; exact List.length_pos_iff.2 hne
  rw [rj hne,qL hne,aL]
  by_cases h1:s.size≤63
  ·have d1:decide ((s.size:Int)≤63)=true:=decide_eq_true (by omega)
   have c0:=mO (s:=s) (i:=0) hpos
   have c1:=mO (s:=s) (i:=s.size-1) (by omega)
   have e1:((s.size-1:Nat):Int)=(s.size:Int)-1:=by omega
   rw [e1] at c1
   by_cases h2:(ao s).getD 0 0=45
   ·refine bq (s:=false) (aP rfl (aP d1 (aK c0 (aD (by rw [h2]; rfl) rfl)))) ?_
    rw [h2]; simp
   ·by_cases h3:(ao s).getD (s.size-1) 0=45
    ·refine bq (s:=false) (aP rfl (aP d1 (aK c0 (aP (by simpa using h2) (aK (jr (by omega) (by omega)) (aK c1 (aD (by rw [h3]; rfl) rfl))))))) ?_
     rw [h3]; simp
    ·refine bq (s:=(ao s).all Bn) (aP rfl (aP d1 (aK c0 (aP (by simpa using h2) (aK (jr (by omega) (by omega)) (aK c1 (aP (by simpa using h3) (aK (xk s hs fun c hc=>Hu hc) rfl)))))))) ?_
     have x2:(some ((ao s).getD 0 0) != some 45)=true:=by simpa using h2
     have x3:(some ((ao s).getD (s.size-1) 0) != some 45)=true:=by simpa using h3
     rw [x2,x3,decide_eq_true h1]; rfl
  ·refine bq (s:=false) (aP rfl (aD (decide_eq_false (by omega)) rfl)) ?_
   rw [decide_eq_false h1]; rfl
 ·exact bq (s:=false) (aD rfl rfl) rfl
theorem vg {f:Mf→Option Bool} {P:List Int→Bool} (s:Mf) (hs:s.size<4611686018427387904) (hf:∀ x,x.size≤s.size→f x=some (P (ao x))) :
  (dV s (⟨#[46]⟩:Mf)).bind (fun v1 =>
  au (S:=(Unit)) (A:=(Unit))
  (gW (S:=(Unit)) (O:=(Unit)) (fun Y st=>Sh.bS Y v1.1 v1.2.1 v1.2.2 st) (fun (x:Mf) (():Unit) =>
   (f x).bind fun v2 =>
   cond ((!v2))
    (some (.inr ()))
    (some (.inl ())))
   ())
  (fun (():Unit) =>
   some (true))
  (fun (():Unit) =>
   some (false)))=some ((jC 46 (ao s)).all P):=by
 refine aK (x:=(⟨#[46]⟩,s,0)) rfl ?_
 have hle:∀ (c:Int) (l:List Int),∀ p∈jC c l,p.length≤l.length:=by
  intro c l
  induction l with
  | nil=>intro p hp; simp [jC] at hp; simp [hp]
  | cons x l ih =>
   intro p hp
   unfold jC at hp
   split at hp
   ·simp only [List.mem_cons] at hp
    rcases hp with rfl | hp
    ·simp
    ·have:=ih p hp; simp; omega
   ·split at hp
    ·simp at hp; subst hp; simp
    ·rename_i q qs e
     simp only [List.mem_cons] at hp
     rcases hp with rfl | hp
     ·have:=ih q (by rw [e]; simp); simp; omega
     ·have:=ih p (by rw [e]; simp [hp]); simp; omega
 have hby:∀ (c:Int) (l:List Int),dL l→∀ p∈jC c l,dL p:=by
  intro c l
  induction l with
  | nil=>intro _ p hp; simp [jC] at hp; subst hp; intro x hx; cases hx
  | cons x l ih =>
   intro hb p hp
   have hb':dL l:=fun y hy=>hb y (by simp [hy])
   unfold jC at hp
   split at hp
   ·simp only [List.mem_cons] at hp
    rcases hp with rfl | hp
    ·intro x hx; cases hx
    ·exact ih hb' p hp
   ·split at hp
    ·simp at hp; subst hp; intro y hy; simp at hy; subst hy; exact hb _ (by simp)
    ·rename_i q qs e
     simp only [List.mem_cons] at hp
     rcases hp with rfl | hp
     ·intro y hy
      simp only [List.mem_cons] at hy
      rcases hy with rfl | hy
      ·exact hb _ (by simp)
      ·exact ih hb' q (by rw [e]; simp) y hy
     ·exact ih hb' p (by rw [e]; simp [hp])
 have hfol:∀ l:List (List Int),(∀ p∈l,dL p∧p.length≤s.size)→zk (fun (x:Mf) (():Unit) =>
   (f x).bind fun v2 =>
   cond ((!v2))
    (some (.inr ()))
    (some (.inl ()))) (l.map aQ) ()=some (if l.all P then .inl () else .inr ()):=by
  intro l
  induction l with
  | nil=>intro _; rfl
  | cons p l ih =>
   intro h
   have hp:=h p (by simp)
   have e1:=hf (aQ p) (by rw [dU]; exact hp.2)
   rw [aJ hp.1] at e1
   rw [List.map_cons]
   unfold zk
   simp only [e1,Option.bind_some]
   cases hP:P p
   ·simp [hP]
   ·simp only [Bool.not_true,cond_false,List.all_cons,hP,Bool.true_and]
    exact ih fun q hq=>h q (by simp [hq])
 have:=xb 46 (by omega) (fun (x:Mf) (():Unit) =>
   (f x).bind fun v2 =>
   cond ((!v2))
    (some (.inr ()))
    (some (.inl ()))) s () hs _ (hfol (jC 46 (ao s)) fun p hp=>⟨hby _ _ (cW s) p hp,by have:=hle _ _ p hp; rwa [aL] at this⟩)
 change au (gW (fun Y st=>bS Y ⟨#[UInt8.ofNat 46]⟩ s 0 st) _ ()) _ _=_
 rw [this]
 cases hq:(jC 46 (ao s)).all P
 ·rfl
 ·rfl
theorem GS (s:Mf) (hs:s.size<4611686018427387904):cj s=some (tK (ao s)):=by
 unfold cj tK
 rw [aL]
 by_cases h:s.size≤255
 ·refine bq (s:=(jC 46 (ao s)).all ui) (aP (decide_eq_true (by omega)) (aK (x:=(jC 46 (ao s)).all ui) ?_ rfl)) (by rw [decide_eq_true h]; rfl)
  exact vg s hs fun x hx=>DA x (by omega)
 ·exact bq (s:=false) (aD (decide_eq_false (by omega)) rfl) (by rw [decide_eq_false h]; rfl)
theorem GV (s:Mf) (hs:s.size<4611686018427387904):kO s=some (qC (ao s)):=by
 unfold kO qC
 rw [aL]
 by_cases h:s.size≤64
 ·refine bq (s:=(jC 46 (ao s)).all ox) (aP (decide_eq_true (by omega)) (aK (x:=(jC 46 (ao s)).all ox) ?_ rfl)) (by rw [decide_eq_true h]; rfl)
  exact vg s hs fun x hx=>Ev x (by omega)
 ·exact bq (s:=false) (aD (decide_eq_false (by omega)) rfl) (by rw [decide_eq_false h]; rfl)
def iH (p:T_Path):Bool:=cond p.LQ ((ao p.LM).isEmpty&&(ao p.LA).isEmpty) (qC (ao p.LM)&&tK (ao p.LA))
structure Small (p:T_Path):Prop where
 l:p.LM.size<1152921504606846976
 d:p.LA.size<1152921504606846976
theorem sZ (p:T_Path) (h:Small p):dI p=some (cond (iH p) 0 5):=by
 unfold dI iH
 have hl:=h.l; have hd:=h.d
 rw [Ih,Ih]
 cases hn:p.LQ
 ·refine bq (s:=qC (ao p.LM)&&tK (ao p.LA)) (aP rfl (aK (GV p.LM (by omega)) ?_)) ?_
  ·cases qC (ao p.LM)
   ·rfl
   ·exact aP rfl (aK (GS p.LA (by omega)) rfl)
  ·simp only [cond_false]
   cases qC (ao p.LM)&&tK (ao p.LA) <;> rfl
 ·refine bq (s:=false) rfl ?_
  simp only [cond_true]
  cases (ao p.LM).isEmpty <;> cases (ao p.LA).isEmpty <;> rfl
theorem DC {n:Nat} (hn:n<256) (s:Mf) (hs:s.size<4611686018427387904):dB s ⟨#[UInt8.ofNat n]⟩=some (match lw (n:Int) (ao s) with
  | some e=>(aQ ((ao s).take e),aQ ((ao s).drop (e+1)),true)
  | none=>(s,(⟨#[]⟩:Mf),false)):=by
 unfold dB du
 cases hi:lw (n:Int) (ao s) with
 | none =>
  refine aK (x:=(s,(⟨#[]⟩:Mf),false)) (aK (qX hn s) ?_) rfl
  rw [hi]
  exact aD rfl rfl
 | some e =>
  obtain ⟨h1,_,_⟩:=qM hi
  rw [aL] at h1
  have e1:gz s 0 (e:Int)=some (aQ ((ao s).take e)):=by
   have:=kQ (s:=s) (a:=0) (b:=e) (by omega) (by omega)
   simpa using this
  have e2:gz s ((e:Int)+1) (s.size:Int)=some (aQ ((ao s).drop (e+1))):=by
   have:=kQ (s:=s) (a:=e+1) (b:=s.size) (by omega) (by omega)
   rw [List.take_of_length_le (by simp [aL])] at this
   simpa using this
  have w2:some (IntKind.i64.wrap ((e:Int)+((⟨#[UInt8.ofNat n]⟩:Mf).size:Int)))=some ((e:Int)+1):=by
   show some (IntKind.i64.wrap ((e:Int)+1))=_
   rw [jr (by omega) (by omega)]
  refine aK (x:=(aQ ((ao s).take e),aQ ((ao s).drop (e+1)),true)) (aK (qX hn s) ?_) rfl
  rw [hi]
  exact aP (decide_eq_true (by show (0:Int)≤(e:Int); omega)) (aK e1 (aK w2 (aK e2 rfl)))
def e0:Mf:=⟨#[]⟩
set_option maxRecDepth 10000
theorem xn (n lo hi:Int):bt n lo hi=some (decide (lo≤n)&&decide (n≤hi)):=by
 unfold bt
 cases decide (lo≤n) <;> rfl
def DG (c:Int):Bool:=decide (97≤c)&&decide (c≤122)||decide (65≤c)&&decide (c≤90)
def CB (c:Int):Bool:=decide (48≤c)&&decide (c≤57)
theorem FQ (c:Int):ci c=some (DG c):=by
 unfold ci DG
 cases decide (97≤c) <;> cases decide (c≤122) <;> cases decide (65≤c) <;> cases decide (c≤90) <;> rfl
theorem Hm (c:Int):cv c=some (CB c):=by
 unfold cv CB
 cases decide (48≤c) <;> rfl
theorem Jy (c:Int):Bn c=(DG c||(CB c||c==45)):=by
 unfold Bn Kh DG CB
 cases decide (97≤c) <;> cases decide (c≤122) <;> cases decide (65≤c) <;> cases decide (c≤90) <;> cases decide (48≤c) <;> cases decide (c≤57) <;> simp
def tu (q:Int→Int→Bool):Int→List Int→Bool
 | _,[]=>true
 | p,x::r=>q p x&&tu q x r
theorem xm (q:Int→Int→Bool):∀ (l:List Int) (p:Int),(∀ i,i<l.length→q ((p::l).getD i 0) (l.getD i 0)=true)↔tu q p l=true
 | [],p=>by simp [tu]
 | x::r,p=>by
  unfold tu
  rw [Bool.and_eq_true,← xm q r x]
  constructor
  ·intro h
   exact ⟨by simpa using h 0 (by simp),fun i hi=>by simpa using h (i+1) (by simpa using hi)⟩
  ·rintro ⟨h0,h1⟩ i hi
   cases i with
   | zero=>simpa using h0
   | succ i=>simpa using h1 i (by simpa using hi)
def vK (l:List Int):Bool:=decide (1≤l.length)&&(decide (l.length≤63)&&(l.getD 0 0 != 45&&l.getD (l.length-1) 0 != 45))
theorem wy (l:List Int):ui l=(vK l&&l.all Bn):=by
 unfold ui vK
 cases l with
 | nil=>rfl
 | cons x r =>
  rw [rj (by simp),qL (by simp)]
  have:decide (1≤(x::r).length)=true:=by simp
  rw [this]
  simp only [List.isEmpty_cons,Bool.not_false,Bool.true_and]
  have e1:(some ((x::r).getD 0 0) != some 45)=((x::r).getD 0 0 != 45):=by rw [Bool.eq_iff_iff]; simp
  have e2:(some ((x::r).getD ((x::r).length-1) 0) != some 45)=((x::r).getD ((x::r).length-1) 0 != 45):=by rw [Bool.eq_iff_iff]; simp
  rw [e1,e2]
  simp only [Bool.and_assoc]
def uD:List Int→List Int→Bool
 | cur,[]=>vK cur
 | cur,x::r=>if x=46 then vK cur&&uD [] r else Bn x&&uD (cur++[x]) r
theorem tk:∀ (l cur:List Int),cur.all Bn=true→uD cur l=match jC 46 l with
  | []=>true
  | a::ps=>ui (cur++a)&&ps.all ui
 | [],cur,h=>by simp [uD,jC,wy,h]
 | x::r,cur,h=>by
  have hne:=ol 46 r
  unfold uD jC
  by_cases hx:x=46
  ·rw [if_pos hx,if_pos hx,tk r [] rfl]
   cases hs:jC 46 r with
   | nil=>exact absurd hs hne
   | cons a ps=>simp [wy,h]
  ·rw [if_neg hx,if_neg hx]
   cases hs:jC 46 r with
   | nil=>exact absurd hs hne
   | cons a ps =>
    cases hl:Bn x
    ·simp [wy,hl]
    ·have:=tk r (cur++[x]) (by simp [h,hl])
     rw [this,hs]
     simp
theorem Jx (l:List Int):(jC 46 l).all ui=uD [] l:=by
 rw [tk l [] rfl]
 cases hs:jC 46 l with
 | nil=>exact absurd hs (ol 46 l)
 | cons a ps=>simp
def qb (s:Mf):Int×Int→Option ((Int×Int)⊕(Unit⊕Bool)):=(fun ((s88,s89):Int×Int) =>
 cond ((decide (s89≤(s.size:Int))))
  (au (S:=Int) (A:=((Int×Int)⊕((Unit)⊕Bool)))
   (au (S:=Bool) (A:=(Int⊕((Int×Int)⊕((Unit)⊕Bool))))
    (cond ((decide (s89<(s.size:Int))))
     ((dc s s89).bind fun v4 =>
     some (.inl (v4 != 46)))
     (some (.inl false)))
    (fun (s151:Bool) =>
     cond (s151)
      (au (S:=Bool) (A:=(Int⊕((Int×Int)⊕((Unit)⊕Bool))))
       ((dc s s89).bind fun v10 =>
       (ci v10).bind fun v11 =>
       cond ((!v11))
        ((dc s s89).bind fun v12 =>
        (cv v12).bind fun v13 =>
        cond ((!v13))
         ((dc s s89).bind fun v14 =>
         some (.inl (v14 != 45)))
         (some (.inl false)))
        (some (.inl false)))
       (fun (s156:Bool) =>
        cond (s156)
         (some (.inr (.inr (.inr (false)))))
         (some (.inl s88))) some)
      (au (S:=Bool) (A:=(Int⊕((Int×Int)⊕((Unit)⊕Bool))))
       ((some (IntKind.i64.wrap (s89-s88))).bind fun v20 =>
       (bt v20 1 63).bind fun v21 =>
       cond ((!v21))
        (some (.inl true))
        ((dc s s88).bind fun v22 =>
        cond ((v22==45))
         (some (.inl true))
         ((some (IntKind.i64.wrap (s89-1))).bind fun v23 =>
         (dc s v23).bind fun v24 =>
         some (.inl (v24==45)))))
       (fun (s161:Bool) =>
        cond (s161)
         (some (.inr (.inr (.inr (false)))))
         ((some (IntKind.i64.wrap (s89+1))).bind fun v30 =>
         some (.inl v30))) some)) some)
   (fun (s147:Int) =>
    (some (IntKind.i64.wrap (s89+1))).bind fun v50 =>
    some (.inl (s147,v50))) some)
  (some (.inr (.inl ()))))
theorem IJ {R:Type} (s:Mf) (f i:Nat) (cur:List Int) (hi:i≤s.size) (hs:s.size<4611686018427387904) (hl:f+cur.length=i) (hc:∀ j,j<cur.length→(ao s).getD (f+j) 0=cur.getD j 0) (A:Option (R⊕((Int×Int)⊕(Unit⊕Bool)))) (B:Option (R⊕((Int×Int)⊕(Unit⊕Bool)))) :
  (au (S:=Bool) (A:=(R⊕((Int×Int)⊕((Unit)⊕Bool))))
     ((some (IntKind.i64.wrap ((i:Int)-(f:Int)))).bind fun v20 =>
     (bt v20 1 63).bind fun v21 =>
     cond ((!v21))
      (some (.inl true))
      ((dc s (f:Int)).bind fun v22 =>
      cond ((v22==45))
       (some (.inl true))
       ((some (IntKind.i64.wrap ((i:Int)-1))).bind fun v23 =>
       (dc s v23).bind fun v24 =>
       some (.inl (v24==45)))))
     (fun (s161:Bool) =>
      cond (s161) A B) some)=cond (vK cur) B A:=by
 have w:some (IntKind.i64.wrap ((i:Int)-(f:Int)))=some (cur.length:Int):=by rw [jr (by omega) (by omega)]; congr 1; omega
 have hin:=xn (cur.length:Int) 1 63
 unfold vK
 by_cases h1:1≤cur.length
 ·by_cases h2:cur.length≤63
  ·rw [decide_eq_true (by omega),decide_eq_true (by omega)] at hin
   rw [decide_eq_true h1,decide_eq_true h2]
   have c0:=mO (s:=s) (i:=f) (by omega)
   have e0:=hc 0 (by omega)
   rw [Nat.add_zero] at e0
   rw [e0] at c0
   have c1:=mO (s:=s) (i:=i-1) (by omega)
   have e1:=hc (cur.length-1) (by omega)
   rw [show f+(cur.length-1)=i-1 by omega] at e1
   rw [e1,show ((i-1:Nat):Int)=(i:Int)-1 by omega] at c1
   by_cases h3:cur.getD 0 0=45
   ·refine bq (s:=true) (aK w (aK hin (aD rfl (aK c0 (aP (by rw [h3]; rfl) rfl))))) ?_
    rw [h3]; rfl
   ·have x3:(cur.getD 0 0==45)=false:=by simpa using h3
    have y3:(cur.getD 0 0 != 45)=true:=by simpa using h3
    refine bq (s:=(cur.getD (cur.length-1) 0==45)) (aK w (aK hin (aD rfl (aK c0 (aD x3 (aK (jr (by omega) (by omega)) (aK c1 rfl))))))) ?_
    rw [y3]
    unfold bne
    cases (cur.getD (cur.length-1) 0==45) <;> rfl
  ·rw [decide_eq_true (by omega),decide_eq_false (by omega)] at hin
   rw [decide_eq_true h1,decide_eq_false h2]
   exact bq (s:=true) (aK w (aK hin rfl)) rfl
 ·rw [decide_eq_false (by omega)] at hin
  rw [decide_eq_false h1]
  exact bq (s:=true) (aK w (aK hin rfl)) rfl
theorem qT (s:Mf) (hs:s.size<4611686018427387904):∀ (rest cur:List Int) (f i fuel:Nat),f+cur.length=i→(ao s).drop i=rest→i≤s.size→(∀ j,j<cur.length→(ao s).getD (f+j) 0=cur.getD j 0)→rest.length+1<fuel →
  bo (qb s) fuel ((f:Int),(i:Int))=some (if uD cur rest=true then .inl () else .inr false)
 | [],cur,f,i,fuel,hl,hd,hi,hc,hf=>by
  have hi2:i=s.size:=by
   have:=congrArg List.length hd
   rw [List.length_drop,aL] at this
   simp at this; omega
  obtain ⟨k,rfl⟩:∃ k,fuel=k+1+1:=⟨fuel-2,by simp at hf; omega⟩
  have hr:=IJ (R:=Int) s f i cur hi hs hl hc (some (.inr (.inr (.inr false)))) ((some (IntKind.i64.wrap ((i:Int)+1))).bind fun v30=>some (.inl v30))
  have w:some (IntKind.i64.wrap ((i:Int)+1))=some ((i+1:Nat):Int):=by rw [jm (by omega)]
  have hd0:uD cur []=vK cur:=rfl
  rw [hd0]
  cases hlab:vK cur
  ·rw [hlab,cond_false] at hr
   rw [dW (o := .inr false)]
   ·rfl
   ·unfold qb
    exact aP (decide_eq_true (by omega)) (BR (a := .inr (.inr false)) (bq (s:=false) (aD (decide_eq_false (by omega)) rfl) (aD rfl hr)) rfl)
  ·rw [hlab,cond_true] at hr
   rw [gB (s':=(((i+1:Nat):Int),((i+1:Nat):Int))),dW (o := .inl ())]
   ·rfl
   ·unfold qb
    exact aD (decide_eq_false (by omega)) rfl
   ·unfold qb
    exact aP (decide_eq_true (by omega)) (bq (s:=((i+1:Nat):Int)) (bq (s:=false) (aD (decide_eq_false (by omega)) rfl) (aD rfl (hr.trans (aK w rfl)))) (aK w rfl))
 | x::rest,cur,f,i,fuel,hl,hd,hi,hc,hf=>by
  have hlt:i<s.size:=by
   have:=congrArg List.length hd
   rw [List.length_drop,aL] at this
   simp at this; omega
  have hx:(ao s).getD i 0=x:=by
   have:=congrArg List.head? hd
   rw [List.head?_drop] at this
   rw [List.getD_eq_getElem?_getD,this]; rfl
  have hd2:(ao s).drop (i+1)=rest:=by
   rw [← List.drop_drop,hd]; rfl
  obtain ⟨k,rfl⟩:∃ k,fuel=k+1:=⟨fuel-1,by omega⟩
  have hchr:=mO hlt
  rw [hx] at hchr
  have w:some (IntKind.i64.wrap ((i:Int)+1))=some ((i+1:Nat):Int):=by rw [jm (by omega)]
  have lt:decide ((i:Int)≤(s.size:Int))=true:=decide_eq_true (by omega)
  have lt2:decide ((i:Int)<(s.size:Int))=true:=decide_eq_true (by omega)
  unfold uD
  by_cases h46:x=46
  ·rw [if_pos h46]
   have hr:=IJ (R:=Int) s f i cur hi hs hl hc (some (.inr (.inr (.inr false)))) ((some (IntKind.i64.wrap ((i:Int)+1))).bind fun v30=>some (.inl v30))
   cases hlab:vK cur
   ·rw [hlab,cond_false] at hr
    rw [dW (o := .inr false)]
    ·rfl
    ·unfold qb
     exact aP lt (BR (a := .inr (.inr false)) (bq (s:=false) (aP lt2 (aK hchr (by rw [h46]; rfl))) (aD rfl hr)) rfl)
   ·rw [hlab,cond_true] at hr
    rw [gB (s':=(((i+1:Nat):Int),((i+1:Nat):Int)))]
    ·rw [Bool.true_and]
     exact qT s hs rest [] (i+1) (i+1) k (by simp) hd2 (by omega) (by simp) (by simp at hf; omega)
    ·unfold qb
     exact aP lt (bq (s:=((i+1:Nat):Int)) (bq (s:=false) (aP lt2 (aK hchr (by rw [h46]; rfl))) (aD rfl (hr.trans (aK w rfl)))) (aK w rfl))
  ·rw [if_neg h46]
   have hx46:(x != 46)=true:=by simpa using h46
   have hlb:=Jy x
   have hin:((dc s (i:Int)).bind fun v10 =>
       (ci v10).bind fun v11 =>
       cond ((!v11))
        ((dc s (i:Int)).bind fun v12 =>
        (cv v12).bind fun v13 =>
        cond ((!v13))
         ((dc s (i:Int)).bind fun v14 =>
         some (Sum.inl (β:=(Int⊕((Int×Int)⊕((Unit)⊕Bool)))) (v14 != 45)))
         (some (.inl false)))
        (some (.inl false)))=some (.inl (!Bn x)):=by
    rw [hlb]
    refine aK hchr (aK (FQ x) ?_)
    cases DG x
    ·refine aP rfl (aK hchr (aK (Hm x) ?_))
     cases CB x
     ·exact aP rfl (aK hchr rfl)
     ·rfl
    ·rfl
   cases hl1:Bn x
   ·rw [hl1] at hin
    rw [dW (o := .inr false)]
    ·rfl
    ·unfold qb
     exact aP lt (BR (a := .inr (.inr false)) (bq (s:=true) (aP lt2 (aK hchr (by rw [hx46]))) (aP rfl (bq (s:=true) hin rfl))) rfl)
   ·rw [hl1] at hin
    rw [gB (s':=((f:Int),((i+1:Nat):Int)))]
    ·rw [Bool.true_and]
     refine qT s hs rest (cur++[x]) f (i+1) k (by simp; omega) hd2 (by omega) (fun j hj => ?_) (by simp at hf; omega)
     simp at hj
     by_cases hj2:j<cur.length
     ·rw [hc j hj2,List.getD_eq_getElem?_getD,List.getD_eq_getElem?_getD,List.getElem?_append_left hj2]
     ·have hj3:j=cur.length:=by omega
      subst hj3
      rw [hl,hx]
      simp
    ·unfold qb
     exact aP lt (bq (s:=(f:Int)) (bq (s:=true) (aP lt2 (aK hchr (by rw [hx46]))) (aP rfl (bq (s:=false) hin rfl))) (aK w rfl))
theorem FV (s:Mf):ei s=some (tK (ao s)):=by
 unfold ei tK
 rw [aL]
 have hin:=xn (s.size:Int) 1 255
 by_cases h:1≤s.size∧s.size≤255
 ·rw [decide_eq_true (by omega),decide_eq_true (by omega)] at hin
  refine aK hin (aD rfl ?_)
  rw [decide_eq_true h.2,Bool.true_and,Jx]
  have:=qT s (by omega) (ao s) [] 0 0 ej rfl rfl (by omega) (by simp) (by rw [aL]; unfold ej; omega)
  change au (bo (qb s) ej ((0:Nat),(0:Nat))) _ _=_
  rw [this]
  cases uD [] (ao s) <;> rfl
 ·have hn:(decide ((1:Int)≤(s.size:Int))&&decide ((s.size:Int)≤255))=false:=by
   by_cases h1:1≤s.size
   ·rw [decide_eq_true (by omega),decide_eq_false (by omega)]; rfl
   ·rw [decide_eq_false (by omega)]; rfl
  rw [hn] at hin
  refine aK hin (aP rfl ?_)
  by_cases h1:1≤s.size
  ·rw [decide_eq_false (by omega)]; rfl
  ·have:ao s=[]:=List.eq_nil_of_length_eq_zero (by rw [aL]; omega)
   rw [this]
   simp [jC,ui]
def fe (p:T_Path):List Int:=cond p.LQ [60,62] (60::(ao p.LM++64::(ao p.LA++[62])))
theorem jI {c:Int} {l:List Int} (h:0≤c∧c<256) (hl:dL l):dL (c::l):=by
 intro x hx
 simp only [List.mem_cons] at hx
 rcases hx with rfl | hx
 ·exact h
 ·exact hl x hx
theorem vT:dL []:=fun x hx=>by cases hx
theorem na {s t:Mf} {l m:List Int} (hl:ao s=l) (hm:ao t=m) (h:l.length+m.length≤9223372036854775807):ce s t=some (aQ (l++m)):=by
 subst hl hm
 rw [aL,aL] at h
 exact HL h
theorem Bw:(List.range 256).all (fun k=>decide (dp ((k:Nat):Int)=some (Cy ((k:Nat):Int))))=true:=by kernel_rfl
theorem Gt {c:Int} (hc:0≤c∧c<256):dp c=some (Cy c):=by
 simpa using si (fun c=>decide (dp c=some (Cy c))) Bw hc
def qD (p x:Int):Bool:=if x=46 then decide (p≠46) else Cy x
def wH (p:Int) (l:List Int):Bool:=tu qD p l&&decide ((p::l).getLast? ≠ some 46)
theorem sV:∀ (l:List Int) (p:Int),wH p l=match jC 46 l with
  | []=>true
  | a::ps=>(if p=46 then ox a else a.all Cy)&&ps.all ox
 | [],p=>by
  unfold wH
  simp only [tu,jC,Bool.true_and,List.getLast?_singleton,List.all_nil,Bool.and_true]
  by_cases h:p=46
  ·simp [h,ox]
  ·simp [h]
 | x::r,p=>by
  have ih:=sV r x
  have hne:=ol 46 r
  unfold jC
  have e:wH p (x::r)=(qD p x&&wH x r):=by
   unfold wH
   simp only [tu,List.getLast?_cons_cons,Bool.and_assoc]
  rw [e,ih]
  cases hs:jC 46 r with
  | nil=>exact absurd hs hne
  | cons a ps =>
   by_cases hx:x=46
   ·subst hx
    simp only [qD,if_true,List.all_cons]
    by_cases hp:p=46
    ·subst hp; simp [ox]
    ·simp [hp]
   ·simp only [qD,if_neg hx,List.all_cons]
    by_cases hp:p=46
    ·subst hp; simp [ox,Bool.and_assoc]
    ·simp [hp,Bool.and_assoc]
theorem Fy (l:List Int) (hne:l≠[]) (h46:l.head? ≠ some 46) (hl:l.getLast? ≠ some 46):(jC 46 l).all ox=tu qD 0 l:=by
 have h:=sV l 46
 have e1:wH 46 l=tu qD 0 l:=by
  cases l with
  | nil=>exact absurd rfl hne
  | cons x r =>
   have hx:x≠46:=by simpa using h46
   unfold wH
   simp only [tu,List.getLast?_cons_cons,qD,if_neg hx]
   rw [decide_eq_true hl,Bool.and_true]
 rw [← e1,h]
 cases hs:jC 46 l with
 | nil=>exact absurd hs (ol 46 l)
 | cons a ps=>simp
theorem Ch {l:List Int} (h:l.head? = some 46):(jC 46 l).all ox=false:=by
 cases l with
 | nil=>simp at h
 | cons x r=>simp at h; subst h; simp [jC,ox]
theorem Du {l:List Int} (h:l.getLast? = some 46):(jC 46 l).all ox=false:=by
 have h2:=sV l 46
 have e:(jC 46 l).all ox=wH 46 l:=by
  rw [h2]
  cases hs:jC 46 l with
  | nil=>exact absurd hs (ol 46 l)
  | cons a ps=>simp
 rw [e]
 unfold wH
 cases l with
 | nil=>simp at h
 | cons x r=>rw [List.getLast?_cons_cons,h]; simp
theorem Fb (s:Mf):eJ s=some (qC (ao s)):=by
 unfold eJ qC
 rw [aL]
 by_cases h:1≤s.size∧s.size≤64
 ·have hn:(decide ((1:Int)≤(s.size:Int))&&decide ((s.size:Int)≤64))=true:=by rw [decide_eq_true (by omega),decide_eq_true (by omega)]; rfl
  have hin:=xn (s.size:Int) 1 64
  rw [hn] at hin
  have hne:ao s≠[]:=by intro e; have:=aL s; rw [e] at this; simp at this; omega
  have hh:=qL hne
  have hg:=rj hne
  rw [aL] at hg
  have c0:=mO (s:=s) (i:=0) (by omega)
  have c1:=mO (s:=s) (i:=s.size-1) (by omega)
  have e1:((s.size-1:Nat):Int)=(s.size:Int)-1:=by omega
  rw [e1] at c1
  rw [decide_eq_true h.2,Bool.true_and]
  by_cases h0:(ao s).getD 0 0=46
  ·rw [h0] at hh c0
   rw [Ch hh]
   exact bq (s:=true) (aK hin (aD rfl (aK c0 (aP rfl rfl)))) rfl
  ·by_cases hl:(ao s).getD (s.size-1) 0=46
   ·rw [hl] at hg c1
    rw [Du hg]
    exact bq (s:=true) (aK hin (aD rfl (aK c0 (aD (by simpa using h0) (aK (jr (by omega) (by omega)) (aK c1 rfl)))))) rfl
   ·rw [Fy _ hne (by rw [hh]; simpa using h0) (by rw [hg]; simpa using hl)]
    refine bq (s:=false) (aK hin (aD rfl (aK c0 (aD (by simpa using h0) (aK (jr (by omega) (by omega)) (aK c1 (by rw [show ((ao s).getD (s.size-1) 0==46)=false by simpa using hl])))))) ) (aD rfl ?_)
    let q:Nat→Bool:=fun i=>qD ((0::ao s).getD i 0) ((ao s).getD i 0)
    have hl2:=fun (g:Int→Option (Int⊕(Unit⊕Bool)))=>oe (R:=Bool) (f:=g) q s.size false (fuel:=ej) (by unfold ej; omega)
    have hiff:=xm qD (ao s) 0
    rw [aL] at hiff
    have prev:∀ i,i<s.size→(ao s).getD i 0=46→dc s ((i:Int)-1)=some ((0::ao s).getD i 0):=by
     intro i hi h46
     cases i with
     | zero=>exact absurd h46 h0
     | succ i =>
      have:=mO (s:=s) (i:=i) (by omega)
      have e:((i+1:Nat):Int)-1=(i:Int):=by omega
      rw [e,this]; rfl
    rw [show tu qD 0 (ao s)=decide (∀ i,i<s.size→q i=true) by rw [Bool.eq_iff_iff,decide_eq_true_eq]; exact hiff.symm]
    refine (congrArg (fun m=>au m _ _) (hl2 _ ?_ ?_ ?_)).trans ?_
    ·intro i hi hq
     have w:some (IntKind.i64.wrap ((i:Int)-1))=some ((i:Int)-1):=jr (by omega) (by omega)
     have w2:some (IntKind.i64.wrap ((i:Int)+1))=some ((i+1:Nat):Int):=by rw [jm (by omega)]
     refine aP (decide_eq_true (by omega)) (bq (s:=false) (aK (mO hi) ?_) (aD rfl (aK w2 rfl)))
     by_cases h46:(ao s).getD i 0=46
     ·refine aP (by rw [h46]; rfl) (aK w (aK (prev i hi h46) ?_))
      have hp:(0::ao s).getD i 0≠46:=by
       simp only [q,qD,if_pos h46,decide_eq_true_eq] at hq
       exact hq
      exact aD (by simpa using hp) (aK (mO hi) (aD (by rw [h46]; rfl) rfl))
     ·refine aD (by simpa using h46) (aK (mO hi) (aP (by simpa using h46) (aK (mO hi) (aK (Gt (oD s hi)) ?_))))
      simp only [q,qD,if_neg h46] at hq
      rw [hq]; rfl
    ·intro i hi hq
     have w:some (IntKind.i64.wrap ((i:Int)-1))=some ((i:Int)-1):=jr (by omega) (by omega)
     refine aP (decide_eq_true (by omega)) (bq (s:=true) (aK (mO hi) ?_) (aP rfl rfl))
     by_cases h46:(ao s).getD i 0=46
     ·refine aP (by rw [h46]; rfl) (aK w (aK (prev i hi h46) ?_))
      have hp:(0::ao s).getD i 0=46:=by
       simp only [q,qD,if_pos h46,decide_eq_false_iff_not,ne_eq] at hq
       exact Decidable.not_not.1 hq
      exact aP (by rw [hp]; rfl) rfl
     ·refine aD (by simpa using h46) (aK (mO hi) (aP (by simpa using h46) (aK (mO hi) (aK (Gt (oD s hi)) ?_))))
      simp only [q,qD,if_neg h46] at hq
      rw [hq]; rfl
    ·exact aD (decide_eq_false (by omega)) rfl
    ·by_cases hall:∀ i,i<s.size→q i=true
     ·rw [if_pos hall,decide_eq_true hall]; rfl
     ·rw [if_neg hall,decide_eq_false hall]; rfl
 ·have hn:(decide ((1:Int)≤(s.size:Int))&&decide ((s.size:Int)≤64))=false:=by
   by_cases h1:1≤s.size
   ·rw [decide_eq_true (by omega),decide_eq_false (by omega)]; rfl
   ·rw [decide_eq_false (by omega)]; rfl
  have hin:=xn (s.size:Int) 1 64
  rw [hn] at hin
  refine bq (s:=true) (aK hin rfl) (aP rfl ?_)
  by_cases h1:1≤s.size
  ·rw [decide_eq_false (by omega)]; rfl
  ·have:ao s=[]:=List.eq_nil_of_length_eq_zero (by rw [aL]; omega)
   rw [this]
   simp [jC,ox]
theorem qE (p:T_Path):cp p=some (iH p):=by
 unfold cp iH
 rw [Ih,Ih]
 cases hn:p.LQ
 ·refine aD rfl (bq (s:=qC (ao p.LM)&&tK (ao p.LA)) (aK (Fb p.LM) ?_) rfl)
  cases qC (ao p.LM)
  ·rfl
  ·exact aP rfl (aK (FV p.LA) rfl)
 ·refine aP rfl (bq (s:=(ao p.LM).isEmpty&&(ao p.LA).isEmpty) ?_ rfl)
  cases (ao p.LM).isEmpty <;> rfl
theorem Jh {c:Int} {P:Int→Bool} (hP:P c=false) {l:List Int} (h:l.all P=true):c ∉ l:=by
 intro hm
 have:=List.all_eq_true.1 h c hm
 rw [hP] at this
 cases this
theorem vq {P:List Int→Bool} {c:Int} (Q:Int→Bool) (hQ:Q c=true) (hPQ:∀ l,P l=true→l.all Q=true):∀ l,(jC c l).all P=true→l.all Q=true
 | [],_=>rfl
 | x::r,h=>by
  have hne:=ol c r
  unfold jC at h
  by_cases hx:x=c
  ·rw [if_pos hx] at h
   simp only [List.all_cons,Bool.and_eq_true] at h
   rw [List.all_cons,hx,hQ,vq Q hQ hPQ r h.2]; rfl
  ·rw [if_neg hx] at h
   cases hs:jC c r with
   | nil=>exact absurd hs hne
   | cons a ps =>
    rw [hs] at h
    simp only [List.all_cons,Bool.and_eq_true] at h
    have h1:=hPQ _ h.1
    simp only [List.all_cons,Bool.and_eq_true] at h1
    have key:∀ (r:List Int) (a:List Int) (ps:List (List Int)),jC c r=a::ps→a.all Q=true→ps.all P=true→r.all Q=true:=by
     intro r
     induction r with
     | nil=>intros; rfl
     | cons y r ih =>
      intro a ps e ha hps
      unfold jC at e
      by_cases hy:y=c
      ·rw [if_pos hy] at e
       cases e
       cases hs2:jC c r with
       | nil=>exact absurd hs2 (ol c r)
       | cons b qs =>
        rw [hs2] at hps
        simp only [List.all_cons,Bool.and_eq_true] at hps
        rw [List.all_cons,hy,hQ,ih b qs hs2 (hPQ _ hps.1) hps.2]; rfl
      ·rw [if_neg hy] at e
       cases hs2:jC c r with
       | nil=>exact absurd hs2 (ol c r)
       | cons b qs =>
        rw [hs2] at e
        cases e
        simp only [List.all_cons,Bool.and_eq_true] at ha
        rw [List.all_cons,ha.1,ih b ps hs2 ha.2 hps]; rfl
    rw [List.all_cons,h1.1,key r a ps hs h1.2 h.2]; rfl
def Hi (c:Int):Bool:=Cy c||c==46
def Ik (c:Int):Bool:=Bn c||c==46
theorem Bb {l:List Int} (h:qC l=true):l.all Hi=true:=by
 unfold qC at h
 rw [Bool.and_eq_true] at h
 refine vq Hi (by decide) (fun p hp => ?_) l h.2
 unfold ox at hp
 rw [Bool.and_eq_true] at hp
 rw [List.all_eq_true] at *
 intro x hx
 unfold Hi
 rw [hp.2 x hx]; rfl
theorem Fk {l:List Int} (h:tK l=true):l.all Ik=true:=by
 unfold tK at h
 rw [Bool.and_eq_true] at h
 refine vq Ik (by decide) (fun p hp => ?_) l h.2
 rw [wy,Bool.and_eq_true] at hp
 rw [List.all_eq_true] at *
 intro x hx
 unfold Ik
 rw [hp.2 x hx]; rfl
theorem Hs {c:Int} (hc:Hi c=false) {l:List Int} (h:qC l=true):c ∉ l:=Jh hc (Bb h)
theorem mB (p:T_Path):(fe p).length≤p.LM.size+p.LA.size+3:=by
 unfold fe
 cases p.LQ
 ·simp [aL]; omega
 ·simp
def yi (x:Int):Bool:=decide (32≤x)&&decide (x≤126)
theorem Ds (l:List Int) (hb:dL l) (hl:l.length≤10000):eZ (aQ l)=some (l.all yi):=by
 unfold eZ
 have hs:(aQ l).size=l.length:=dU l
 rw [hs]
 have hloop:=oe (R:=Bool) (f:=fun (s17:Int) =>
   cond ((decide (s17<(l.length:Int))))
    (au (S:=Bool) (A:=((Int)⊕((Unit)⊕Bool)))
     ((dc (aQ l) s17).bind fun v2 =>
     cond ((decide (v2<32)))
      (some (.inl true))
      ((dc (aQ l) s17).bind fun v3 =>
      some (.inl ((decide (126<v3))))))
     (fun (s31:Bool) =>
      cond (s31)
       (some (.inr (.inr (false))))
       ((some (IntKind.i64.wrap (s17+1))).bind fun v9 =>
       some (.inl v9))) some)
    (some (.inr (.inl ())))) (fun i=>yi (l.getD i 0)) l.length false (fuel:=ej) (by simp only [ej]; omega)
  (fun i hi hp=>by
   have hc:dc (aQ l) (i:Int)=some (l.getD i 0):=by
    rw [mO (by rw [hs]; exact hi),aJ hb]
   simp only [yi,Bool.and_eq_true,decide_eq_true_eq] at hp
   refine aP (decide_eq_true (by omega)) (bq (s:=false) (aK hc (aD (decide_eq_false (by omega)) (aK hc (by rw [decide_eq_false (by omega)])))) (aD rfl (aK (oO (by omega) (by omega)) rfl))))
  (fun i hi hp=>by
   have hc:dc (aQ l) (i:Int)=some (l.getD i 0):=by
    rw [mO (by rw [hs]; exact hi),aJ hb]
   simp only [yi,Bool.and_eq_false_iff,decide_eq_false_iff_not] at hp
   refine aP (decide_eq_true (by omega)) (bq (s:=true) (aK hc ?_) rfl)
   by_cases h:l.getD i 0<32
   ·exact aP (decide_eq_true h) rfl
   ·exact aD (decide_eq_false h) (aK hc (by rw [decide_eq_true (by omega)])))
  (aD (decide_eq_false (by omega)) rfl)
 by_cases h:∀ i,i<l.length→yi (l.getD i 0)=true
 ·rw [if_pos h] at hloop
  rw [(nt l yi).2 h]
  exact bq hloop rfl
 ·rw [if_neg h] at hloop
  have ha:l.all yi=false:=by
   cases e:l.all yi with
   | false=>rfl
   | true=>exact absurd ((nt l yi).1 e) h
  rw [ha]
  exact BR hloop rfl
def mX {X S O:Type} (step:X→S→Option (S⊕O)):List X→S→Option (S⊕O)
 | [],s=>some (.inl s)
 | x::l,s=>match step x s with
  | none=>none
  | some (.inl s')=>mX step l s'
  | some (.inr o)=>some (.inr o)
inductive yh:List Int→List (List Int)→List Int→Prop
 | nil {b:List Int} (h:gF b=none):yh b [] b
 | cons {b:List Int} {e:Nat} {ls:List (List Int)} {r:List Int} (h:gF b=some e) (t:yh (b.drop (e+2)) ls r):yh b (b.take e::ls) r
theorem kf {n:Int} (h0 : -9223372036854775808≤n) (h1:n<9223372036854775808):some (IntKind.i64.wrap n)=some n:=by rw [jH h0 h1]
theorem Da {b:List Int} (hb:dL b) (hl:b.length<4294967281) (h:gF b=none):et b [13,10]=some (b,[],false):=by
 unfold et
 refine aK (rD hb hl) ?_
 rw [h]
 rfl
theorem wY {b:List Int} (hb:dL b) (hl:b.length<4294967281) {e:Nat} (h:gF b=some e):et b [13,10]=some (b.take e,b.drop (e+2),true):=by
 have h1:=(pc h).1
 unfold et
 refine aK (rD hb hl) ?_
 rw [h]
 refine aP (decide_eq_true (by show (0:Int)≤(e:Int); omega)) ?_
 have e1:kM b 0 (e:Int)=some (b.take e):=by
  have:=mG b (a:=0) (b:=e) (by omega) (by omega)
  simpa using this
 refine aK e1 ?_
 refine aK (x:=((e+2:Nat):Int)) (by
  show some (IntKind.i64.wrap ((e:Int)+2))=_
  rw [kf (by omega) (by omega)]; simp) ?_
 refine aK (x:=b.drop (e+2)) (by
  rw [mG b (by omega) (by omega),List.take_of_length_le (by simp)]) rfl
theorem kZ {S O:Type} (step:List Int→S→Option (S⊕O)) {b:List Int} {ls:List (List Int)} {rest:List Int} (H:yh b ls rest) (hb:dL b) (hl:b.length<4294967281) (st:S) (r:S⊕O) (hr:mX step ls st=some r) :
  gW (S:=S) (O:=O) (fun Y st=>dS Y b st) step st=some r:=by
 unfold gW dS
 have key:∀ (b:List Int) (ls:List (List Int)) (rest:List Int),yh b ls rest→dL b→b.length<4294967281→∀ (fuel:Nat) (st:S),b.length<fuel→mX step ls st=some r →
   au (S:=(Unit)) (A:=S⊕O)
    (bo (S:=((List Int)×(S⊕O))) (O:=(Unit)⊕(S⊕O)) (fun ((s17,s18):(List Int)×(S⊕O)) =>
     (et s17 [13,10]).bind fun v1 =>
     au (S:=(S⊕O)×Bool) (A:=(((List Int)×(S⊕O))⊕((Unit)⊕(S⊕O))))
      (cond ((!v1.2.2))
       (some (.inl (s18,true)))
       ((jc step v1.1 s18).bind fun v2 =>
       some (.inl ((v2.1,(!v2.2))))))
      (fun ((s31,s32):(S⊕O)×Bool) =>
       cond (s32)
        (some (.inr (.inr (s31))))
        (some (.inl (v1.2.1,s31)))) some)
     fuel (b,.inl st))
    (fun (():Unit) =>
     none) some=some r:=by
  intro b ls rest H
  induction H with
  | nil h =>
   intro hb hl fuel st hf hr
   obtain ⟨f,rfl⟩:∃ f,fuel=f+1:=⟨fuel-1,by omega⟩
   rw [dW (o := .inr (.inl st)) (aK (Da hb hl h) rfl)]
   exact hr
  | cons h t ih =>
   rename_i b e ls r'
   intro hb hl fuel st hf hr
   obtain ⟨f,rfl⟩:∃ f,fuel=f+1:=⟨fuel-1,by omega⟩
   have h1:=(pc h).1
   simp only [mX] at hr
   cases hst:step (b.take e) st with
   | none=>rw [hst] at hr; cases hr
   | some u =>
    rw [hst] at hr
    cases u with
    | inl s' =>
     rw [gB (s':=(b.drop (e+2),.inl s')) (aK (wY hb hl h) (bq (s:=((Sum.inl s':S⊕O),false)) (aD rfl (aK (x:=((Sum.inl s':S⊕O),true)) (by simp [jc,hst]) rfl)) rfl))]
     exact ih (qn hb _) (by rw [List.length_drop]; omega) f s' (by rw [List.length_drop]; omega) hr
    | inr o =>
     rw [dW (o := .inr (.inr o)) (aK (wY hb hl h) (bq (s:=((Sum.inr o:S⊕O),true)) (aD rfl (aK (x:=((Sum.inr o:S⊕O),false)) (by simp [jc,hst]) rfl)) rfl))]
     exact hr
 exact key b ls rest H hb hl ej st (by unfold ej; omega) hr
theorem Do:∀ (n:Nat) (b:List Int),b.length≤n→∃ ls r,yh b ls r
 | n,b,hn=>by
  cases h:gF b with
  | none=>exact ⟨_,_,.nil h⟩
  | some e =>
   have h1:=(pc h).1
   cases n with
   | zero=>omega
   | succ n =>
    obtain ⟨ls,r,H⟩:=Do n (b.drop (e+2)) (by rw [List.length_drop]; omega)
    exact ⟨_,_,.cons h H⟩
def jn:List (List Int)→List Int
 | []=>[]
 | l::ls=>l++13::10::jn ls
theorem sL:∀ (a b:List (List Int)),jn (a++b)=jn a++jn b
 | [],b=>rfl
 | x::a,b=>by simp [jn,sL a b]
def oK (l:List Int):Prop:=∀ x∈l,x≠13∧x≠10
theorem zW {ls:List (List Int)} {t:List Int} {ms:List (List Int)} {r:List Int} (h:∀ l∈ls,oK l) (H:yh t ms r):yh (jn ls++t) (ls++ms) r:=by
 induction ls with
 | nil=>exact H
 | cons l ls ih =>
  have e:jn (l::ls)++t=l++13::10::(jn ls++t):=by simp [jn]
  have hi:=oW (line:=l) (rest:=jn ls++t) (fun x hx=>(h l (by simp) x hx).1)
  have:=yh.cons (b:=l++13::10::(jn ls++t)) hi (ls:=ls++ms) (r:=r) (by
   have e2:(l++13::10::(jn ls++t)).drop (l.length+2)=jn ls++t:=by
    rw [List.drop_append]; simp
   rw [e2]
   exact ih fun x hx=>h x (by simp [hx]))
  rw [e]
  have e3:(l++13::10::(jn ls++t)).take l.length=l:=by simp
  rw [e3] at this
  exact this
theorem Fc:yh [] [] [] := .nil rfl
theorem wi {ls:List (List Int)} (h:∀ l∈ls,oK l):yh (jn ls) ls []:=by
 have:=zW h Fc
 simpa using this
theorem tX:∀ {l:List Int},oK l→kI l = -1
 | [],_=>rfl
 | x::l,h=>by
  have hx:=h x (by simp)
  unfold kI
  rw [if_neg (by rintro (e | e); exact hx.1 e; exact hx.2 e),if_pos (tX fun y hy=>h y (by simp [hy]))]
theorem HJ {l:List Int} (hb:dL l) (hl:l.length<4294967281):cw l (⟨#[13,10]⟩:Mf)=some (decide (0≤kI l)):=by
 unfold cw ga
 rw [if_pos ⟨rfl,hl,List.all_eq_true.2 fun x hx=>decide_eq_true (hb x hx)⟩]
 rfl
def jM:List (List Int)→Nat
 | []=>0
 | l::ls=>l.length+2+jM ls
theorem el:∀ ls,(jn ls).length=jM ls
 | []=>rfl
 | l::ls=>by simp [jn,jM,el ls]; omega
open Classical in
theorem BK:∀ (ls:List (List Int)) (s:Nat),(∀ l∈ls,dL l)→s+jM ls<4294967281 →
  mX (S:=Int) (O:=Int) (fun (x:(List Int)) (s8:Int) =>
   (cw x (⟨#[13,10]⟩:Mf)).bind fun v2 =>
   cond (v2)
    (some (.inr s8))
    ((some (IntKind.i64.wrap ((x.length:Int)+2))).bind fun v4 =>
    (some (IntKind.i64.wrap (s8+v4))).bind fun v5 =>
    some (.inl v5))) ls (s:Int)=if ∀ l∈ls,oK l then some (.inl ((s+jM ls:Nat):Int)) else (mX (S:=Int) (O:=Int) (fun (x:(List Int)) (s8:Int) =>
   (cw x (⟨#[13,10]⟩:Mf)).bind fun v2 =>
   cond (v2)
    (some (.inr s8))
    ((some (IntKind.i64.wrap ((x.length:Int)+2))).bind fun v4 =>
    (some (IntKind.i64.wrap (s8+v4))).bind fun v5 =>
    some (.inl v5))) ls (s:Int)):=by
 intro ls
 induction ls with
 | nil=>intro s _ _; simp [mX,jM]
 | cons l ls ih =>
  intro s hb hs
  by_cases h:∀ m∈l::ls,oK m
  ·rw [if_pos h]
   simp only [jM] at hs
   have e:((cw l (⟨#[13,10]⟩:Mf)).bind fun v2 =>
   cond (v2)
    (some (.inr (s:Int)))
    ((some (IntKind.i64.wrap ((l.length:Int)+2))).bind fun v4 =>
    (some (IntKind.i64.wrap ((s:Int)+v4))).bind fun v5 =>
    some (.inl v5)):Option (Int⊕Int))=some (.inl ((s+(l.length+2):Nat):Int)):=by
    refine aK (HJ (hb l (by simp)) (by omega)) ?_
    rw [tX (h l (by simp))]
    refine aD rfl (aK (kf (by omega) (by omega)) (aK (kf (by omega) (by omega)) ?_))
    simp
   simp only [mX]
   rw [e]
   have:=ih (s+(l.length+2)) (fun m hm=>hb m (by simp [hm])) (by omega)
   rw [if_pos fun m hm=>h m (by simp [hm])] at this
   simp only [jM]
   rw [show s+(l.length+2+jM ls)=s+(l.length+2)+jM ls by omega]
   exact this
  ·rw [if_neg h]
theorem GO {ls:List (List Int)} (h:dL (jn ls)):∀ l∈ls,dL l:=by
 induction ls with
 | nil=>intro l hl; simp at hl
 | cons m ls ih =>
  intro l hl
  simp only [jn] at h
  rcases List.mem_cons.1 hl with rfl | hl
  ·exact fun x hx=>h x (by simp [hx])
  ·exact ih (fun x hx=>h x (by simp [hx])) l hl
theorem rl {ls:List (List Int)} (h:∀ l∈ls,dL l):dL (jn ls):=by
 induction ls with
 | nil=>intro l hl; simp [jn] at hl
 | cons m ls ih =>
  intro x hx
  simp only [jn,List.mem_append,List.mem_cons] at hx
  rcases hx with hx | rfl | rfl | hx
  ·exact h m (by simp) x hx
  ·omega
  ·omega
  ·exact ih (fun l hl=>h l (by simp [hl])) x hx
theorem pW {ls:List (List Int)} (h:∀ l∈ls,oK l) (hb:∀ l∈ls,dL l) (hl:jM ls<4294967281):gh (jn ls)=some 0:=by
 unfold gh dY
 refine aK rfl ?_
 refine bq (s:=((0+jM ls:Nat):Int)) (kZ _ (wi h) (rl hb) (by rw [el]; exact hl) _ _ (by
  have:=BK ls 0 hb (by omega)
  rw [if_pos h] at this
  exact this)) ?_
 refine aD ?_ rfl
 rw [el]; simp
set_option maxRecDepth 10000
theorem zI {x:List Int} (hb:dL x) (hl:x.length<4294967281):dK x [46]=some (decide (x.head? = some 46)):=by
 unfold dK
 cases x with
 | nil=>rfl
 | cons y x =>
  refine bq (s:=decide (y=46)) (aP (decide_eq_true (by simp only [List.length_cons,List.length_nil]; omega)) ?_) (by simp)
  have e1:kM (y::x) 0 (([46]:List Int).length:Int)=some [y]:=by
   have:=mG (y::x) (a:=0) (b:=1) (by omega) (by simp)
   simpa using this
  refine aK e1 (aK (x:=decide (y=46)) ?_ rfl)
  unfold iy
  refine aK rfl (aK rfl ?_)
  rw [ib]
  congr 1
  refine decide_eq_decide.2 ⟨fun h => ?_,fun h=>by rw [h]⟩
  have:=congrArg ao h
  rw [aJ (by intro z hz; rw [List.mem_singleton] at hz; rw [hz]; exact hb y (by simp)),aJ (by decide)] at this
  simpa using this
def kV (l:List Int):List Int:=if l.head? = some 46 then 46::l else l
def Dd (l:List Int):List Int:=if l.head? = some 46 then l.tail else l
theorem FM (l:List Int):Dd (kV l)=l:=by
 unfold kV Dd
 by_cases h:l.head? = some 46
 ·rw [if_pos h,if_pos (by simp)]; rfl
 ·rw [if_neg h,if_neg h]
theorem Fx (l:List Int):kV l≠[46]:=by
 unfold kV
 split
 ·rename_i h; intro e; cases l with
  | nil=>simp at h
  | cons=>simp at e
 ·rename_i h; intro e; rw [e] at h; simp at h
theorem Eo {l:List Int} (h:oK l):oK (kV l):=by
 unfold kV; split
 ·intro x hx
  rcases List.mem_cons.1 hx with rfl | hx
  ·decide
  ·exact h x hx
 ·exact h
theorem zQ {l:List Int} (h:dL l):dL (kV l):=by
 unfold kV; split
 ·intro x hx
  rcases List.mem_cons.1 hx with rfl | hx
  ·decide
  ·exact h x hx
 ·exact h
theorem Ab (l:List Int):(kV l).length≤l.length+1:=by unfold kV; split <;> simp
theorem mz:∀ ls:List (List Int),jM (ls.map kV)≤2 * jM ls
 | []=>by simp [jM]
 | l::ls=>by
  have h1:=Ab l
  have h2:=mz ls
  simp only [List.map_cons,jM]; omega
theorem mH:∀ a b:List (List Int),jM (a++b)=jM a+jM b
 | [],b=>by simp [jM]
 | x::a,b=>by simp only [List.cons_append,jM,mH a b]; omega
theorem Fl (ls:List (List Int)):(ls.map kV).map Dd=ls:=by
 rw [List.map_map]
 conv=>rhs; rw [← List.map_id ls]
 exact List.map_congr_left fun l _=>FM l
def vp:List Int→List Int→Option (List Int⊕Unit):=fun (x:(List Int)) (s21:(List Int)) =>
 au (S:=(List Int)) (A:=(((List Int))⊕(Unit)))
  ((dK x [46]).bind fun v4 =>
  cond (v4)
   ((cc 1 s21 (ao (⟨#[46]⟩:Mf))).bind fun v6 =>
   some (.inl v6))
   (some (.inl s21)))
  (fun (s29:(List Int)) =>
   (cc 1 s29 x).bind fun v12 =>
   (cc 1 v12 (ao (⟨#[13,10]⟩:Mf))).bind fun v13 =>
   some (.inl v13)) some
theorem Jp:ao (⟨#[46]⟩:Mf)=[46]:=rfl
theorem KY:ao (⟨#[13,10]⟩:Mf)=[13,10]:=rfl
theorem Lh:ao (⟨#[46,13,10]⟩:Mf)=[46,13,10]:=rfl
theorem yM {x s:List Int} (hb:dL x) (hl:s.length+x.length<4294960000):vp x s=some (.inl (s++(kV x++[13,10]))):=by
 unfold vp
 rw [Jp,KY]
 by_cases h:x.head? = some 46
 ·have e:kV x=46::x:=by unfold kV; rw [if_pos h]
  rw [e]
  refine bq (s:=s++[46]) (aK (zI hb (by omega)) (aP (decide_eq_true h) (aK (dJ (by simp; omega) (by simp; omega)) rfl))) ?_
  refine aK (dJ (by simp; omega) (by simp; omega)) (aK (dJ (by simp; omega) (by simp; omega)) ?_)
  simp
 ·have e:kV x=x:=by unfold kV; rw [if_neg h]
  rw [e]
  refine bq (s:=s) (aK (zI hb (by omega)) (aD (decide_eq_false h) rfl)) ?_
  refine aK (dJ (by omega) (by omega)) (aK (dJ (by simp; omega) (by simp; omega)) ?_)
  simp
theorem uQ:∀ (ls:List (List Int)) (s:List Int),(∀ l∈ls,dL l)→s.length+2 * jM ls<4294960000→mX vp ls s=some (.inl (s++jn (ls.map kV)))
 | [],s,_,_=>by simp [mX,jn]
 | l::ls,s,hb,hs=>by
  simp only [jM] at hs
  have h1:=Ab l
  simp only [mX]
  rw [yM (hb l (by simp)) (by omega)]
  refine (uQ ls _ (fun m hm=>hb m (by simp [hm])) (by simp only [List.length_append,List.length_cons,List.length_nil]; omega)).trans ?_
  simp [jn]
theorem CL {ls:List (List Int)} (h:∀ l∈ls,oK l) (hb:∀ l∈ls,dL l) (hl:jM ls<1000000000):kP (jn ls)=some (jn (ls.map kV++[[46]]),0):=by
 unfold kP dY
 refine aK (pW h hb (by omega)) (aD rfl (aK rfl ?_))
 refine bq (s:=jn (ls.map kV)) (kZ vp (wi h) (rl hb) (by rw [el]; omega) _ _ ?_) ?_
 ·have:=uQ ls [] hb (by simp; omega)
  simpa using this
 ·have h2:=mz ls
  rw [Lh]
  refine aK (dJ (by rw [el]; simp; omega) (by rw [el]; simp; omega)) ?_
  rw [sL]; rfl
def uf:List Int→Int→Option (Int⊕Int):=fun (x:(List Int)) (s8:Int) =>
 (some (aQ x)).bind fun v2 =>
 cond ((v2.toList==(⟨#[46]⟩:Mf).toList))
  (some (.inr s8))
  ((some (IntKind.i64.wrap ((x.length:Int)+2))).bind fun v4 =>
  (some (IntKind.i64.wrap (s8+v4))).bind fun v5 =>
  some (.inl v5))
theorem ID {x:List Int} (hb:dL x):((aQ x).toList==(⟨#[46]⟩:Mf).toList)=decide (x=[46]):=by
 rw [ib]
 refine decide_eq_decide.2 ⟨fun h => ?_,fun h=>by rw [h]; rfl⟩
 have:=congrArg ao h
 rw [aJ hb,Jp] at this
 exact this
theorem FK {x:List Int} {s:Nat} (hb:dL x) (h:x≠[46]) (hl:s+x.length<4611686018427387904):uf x (s:Int)=some (.inl ((s+(x.length+2):Nat):Int)):=by
 unfold uf
 refine aK rfl ?_
 rw [ID hb]
 refine aD (decide_eq_false h) (aK (kf (by omega) (by omega)) (aK (kf (by omega) (by omega)) ?_))
 simp
theorem Dt (s:Int):uf [46] s=some (.inr s):=by
 unfold uf
 refine aK rfl ?_
 rw [ID (by decide)]
 exact aP rfl rfl
theorem xX:∀ (ls ms:List (List Int)) (s:Nat),(∀ l∈ls,dL l∧l≠[46])→s+jM ls<4611686018427387904→mX uf (ls++ms) (s:Int)=mX uf ms ((s+jM ls:Nat):Int)
 | [],ms,s,_,_=>by simp [jM]
 | l::ls,ms,s,hb,hs=>by
  simp only [jM] at hs
  rw [List.cons_append]
  conv=>lhs; unfold mX
  rw [FK (hb l (by simp)).1 (hb l (by simp)).2 (by omega)]
  refine (xX ls ms _ (fun m hm=>hb m (by simp [hm])) (by omega)).trans ?_
  simp only [jM]
  rw [show s+(l.length+2)+jM ls=s+(l.length+2+jM ls) by omega]
theorem BQ {ls:List (List Int)} {more:List Int} (h:∀ l∈ls,oK l) (hb:∀ l∈ls,dL l) (hd:∀ l∈ls,l≠[46]) (hm:dL more) (hl:jM ls+more.length<4000000000) :
  gQ (jn (ls++[[46]])++more)=some ((jM ls:Int),true):=by
 obtain ⟨ms,r,H⟩:=Do more.length more (Nat.le_refl _)
 have H2:yh (jn (ls++[[46]])++more) ((ls++[[46]])++ms) r:=zW (fun l hl=>by
  rcases List.mem_append.1 hl with hl | hl
  ·exact h l hl
  ·simp at hl; subst hl; intro x hx; simp at hx; subst hx; decide) H
 unfold gQ dY
 refine aK rfl ?_
 refine BR (a:=(jM ls:Int)) (kZ uf H2 (bM (rl fun l hl=>by
  rcases List.mem_append.1 hl with hl | hl
  ·exact hb l hl
  ·simp at hl; subst hl; decide) hm) (by rw [List.length_append,el,mH]; simp [jM]; omega) _ _ ?_) rfl
 rw [List.append_assoc]
 refine (xX ls _ 0 (fun l hl=>⟨hb l hl,hd l hl⟩) (by omega)).trans ?_
 simp only [List.cons_append,mX,Dt]
 simp
def wA:List Int→List Int→Option (List Int⊕Unit):=fun (x:(List Int)) (s12:(List Int)) =>
 (cZ x [46]).bind fun v8 =>
 (cc 1 s12 v8).bind fun v9 =>
 (cc 1 v9 (ao (⟨#[13,10]⟩:Mf))).bind fun v10 =>
 some (.inl v10)
theorem GG {x:List Int} (hb:dL x) (hl:x.length<4294967281):cZ x [46]=some (Dd x):=by
 unfold cZ
 refine aK (zI hb hl) ?_
 unfold Dd
 by_cases h:x.head? = some 46
 ·rw [if_pos h]
  refine aP (decide_eq_true h) ?_
  cases x with
  | nil=>simp at h
  | cons y x =>
   have e1:kM (y::x) (([46]:List Int).length:Int) ((y::x).length:Int)=some x:=by
    have:=mG (y::x) (a:=1) (b:=(y::x).length) (by simp) (by simp)
    simpa using this
   exact aK e1 rfl
 ·rw [if_neg h]
  exact aD (decide_eq_false h) rfl
theorem Fj (l:List Int):(Dd l).length≤l.length:=by unfold Dd; split <;> simp
theorem va:∀ (ls:List (List Int)) (s:List Int),(∀ l∈ls,dL l)→s.length+jM ls<4294960000→mX wA ls s=some (.inl (s++jn (ls.map Dd)))
 | [],s,_,_=>by simp [mX,jn]
 | l::ls,s,hb,hs=>by
  simp only [jM] at hs
  have h1:=Fj l
  have e:wA l s=some (.inl (s++(Dd l++[13,10]))):=by
   unfold wA
   rw [KY]
   refine aK (GG (hb l (by simp)) (by omega)) (aK (dJ (by omega) (by omega)) (aK (dJ (by simp; omega) (by simp; omega)) ?_))
   simp
  simp only [mX]
  rw [e]
  refine (va ls _ (fun m hm=>hb m (by simp [hm])) (by simp only [List.length_append,List.length_cons,List.length_nil]; omega)).trans ?_
  simp [jn]
theorem DR {ls:List (List Int)} {more:List Int} (h:∀ l∈ls,oK l) (hb:∀ l∈ls,dL l) (hd:∀ l∈ls,l≠[46]) (hm:dL more) (hl:jM ls+more.length<4000000000) :
  ii (jn (ls++[[46]])++more)=some (jn (ls.map Dd),((jM ls+3:Nat):Int),0):=by
 have e1:kM (jn (ls++[[46]])++more) 0 (jM ls:Int)=some (jn ls):=by
  have:=mG (jn (ls++[[46]])++more) (a:=0) (b:=jM ls) (by omega) (by rw [List.length_append,el,mH]; omega)
  rw [sL,List.append_assoc] at this ⊢
  rw [← el] at this ⊢
  simpa using this
 unfold ii
 refine aK (BQ h hb hd hm hl) (aD rfl (aK e1 (aK (pW h hb (by omega)) (aD rfl (aK e1 ?_)))))
 unfold dY
 refine aK rfl ?_
 refine bq (s:=jn (ls.map Dd)) (kZ wA (wi h) (rl hb) (by rw [el]; omega) _ _ ?_) ?_
 ·have:=va ls [] hb (by simp; omega)
  simpa using this
 ·refine aK (kf (by omega) (by omega)) ?_
  simp
def DY:Int→List Int→Prop
 | _,[]=>True
 | p,x::l=>(x=13→l.head? = some 10)∧(x=10→p=13)∧DY x l
theorem xl:∀ (b:List Int) (p:Int),DY p b→p≠13→b.getLast? = some 10→∃ l r,b=l++13::10::r∧oK l∧DY 10 r∧(r=[]∨r.getLast? = some 10)
 | [],p,_,_,h=>by simp at h
 | x::t,p,h,hp,hl=>by
  obtain ⟨h1,h2,h3⟩:=h
  by_cases hx:x=13
  ·subst hx
   cases t with
   | nil=>simp at hl
   | cons y r =>
    have hy:=h1 rfl
    simp at hy
    subst hy
    refine ⟨[],r,rfl,fun z hz=>by simp at hz,h3.2.2,?_⟩
    cases r with
    | nil=>exact .inl rfl
    | cons z r=>right; rw [List.getLast?_cons_cons,List.getLast?_cons_cons] at hl; exact hl
  ·have hx2:x≠10:=fun e=>hp (h2 e)
   cases t with
   | nil=>simp at hl; exact absurd hl hx2
   | cons y t =>
    rw [List.getLast?_cons_cons] at hl
    obtain ⟨l,r,e,hc,ho,hr⟩:=xl (y::t) x h3 hx hl
    refine ⟨x::l,r,by rw [e]; rfl,fun z hz => ?_,ho,hr⟩
    rcases List.mem_cons.1 hz with rfl | hz
    ·exact ⟨hx,hx2⟩
    ·exact hc z hz
theorem uX:∀ (n:Nat) (b:List Int) (p:Int),b.length≤n→DY p b→p≠13→(b=[]∨b.getLast? = some 10)→∃ ls,(∀ l∈ls,oK l)∧b=jn ls
 | 0,b,p,hn,_,_,_=>⟨[],fun l hl=>by simp at hl,by cases b with | nil=>rfl | cons=>simp at hn⟩
 | n+1,b,p,hn,ho,hp,hl=>by
  rcases hl with rfl | hl
  ·exact ⟨[],fun l hl=>by simp at hl,rfl⟩
  ·obtain ⟨l,r,e,hc,ho2,hr⟩:=xl b p ho hp hl
   obtain ⟨ls,h1,h2⟩:=uX n r 10 (by rw [e] at hn; simp at hn; omega) ho2 (by decide) hr
   refine ⟨l::ls,fun m hm => ?_,by rw [e,h2]; rfl⟩
   rcases List.mem_cons.1 hm with rfl | hm
   ·exact hc
   ·exact h1 m hm
theorem zR:∀ (l r:List Int) (p:Int),oK l→DY 10 r→DY p (l++13::10::r)
 | [],r,p,_,h=>⟨fun _=>rfl,fun e=>by omega,fun e=>by omega,fun _=>rfl,h⟩
 | x::l,r,p,hc,h=>⟨fun e=>absurd e (hc x (by simp)).1,fun e=>absurd e (hc x (by simp)).2,zR l r x (fun y hy=>hc y (by simp [hy])) h⟩
theorem DV:∀ (ls:List (List Int)) (p:Int),(∀ l∈ls,oK l)→DY p (jn ls)
 | [],_,_=>trivial
 | l::ls,p,h=>zR l (jn ls) p (h l (by simp)) (DV ls 10 fun m hm=>h m (by simp [hm]))
theorem Ag:∀ (ls:List (List Int)),jn ls=[]∨(jn ls).getLast? = some 10
 | [] => .inl rfl
 | l::ls=>by
  right
  rcases Ag ls with h | h
  ·simp [jn,h]
  ·have:(13::10::jn ls).getLast? = some 10:=by
    cases hj:jn ls with
    | nil=>rfl
    | cons y r=>rw [List.getLast?_cons_cons,List.getLast?_cons_cons,← hj]; exact h
   simp only [jn]
   rw [List.getLast?_append,this]; rfl
def yK (b:List Int) (i:Nat):Bool:=if b[i]? = some 13 then decide (b[i+1]? ≠ some 10) else if b[i]? = some 10 then decide (i=0∨b[i-1]? ≠ some 13) else false
theorem DU:∀ (b:List Int) (p:Int),(∀ i,i<b.length→(b[i]? = some 13→b[i+1]? = some 10)∧(b[i]? = some 10→(if i=0 then some p else b[i-1]?)=some 13))→DY p b
 | [],_,_=>trivial
 | x::l,p,h=>by
  refine ⟨fun e => ?_,fun e => ?_,DU l x fun i hi => ?_⟩
  ·have:=(h 0 (by simp)).1 (by simp [e])
   cases l with
   | nil=>simp at this
   | cons y l=>simpa using this
  ·have:=(h 0 (by simp)).2 (by simp [e])
   simpa using this
  ·have:=h (i+1) (by simp; omega)
   refine ⟨fun e=>by simpa using this.1 (by simpa using e),fun e => ?_⟩
   have h2:=this.2 (by simpa using e)
   rw [if_neg (by omega)] at h2
   cases i with
   | zero=>simpa using h2
   | succ i=>simpa using h2
theorem Hr {b:List Int} (h:∀ i,i<b.length→(!yK b i)=true):DY 0 b:=by
 refine DU b 0 fun i hi => ?_
 have h1:=h i hi
 simp only [yK,Bool.not_eq_true'] at h1
 refine ⟨fun e => ?_,fun e => ?_⟩
 ·rw [if_pos e,decide_eq_false_iff_not,Classical.not_not] at h1; exact h1
 ·rw [e] at h1
  rw [if_neg (by simp),if_pos rfl,decide_eq_false_iff_not,not_or,Classical.not_not] at h1
  rw [if_neg h1.1]; exact h1.2
theorem qZ {b:List Int} {i:Nat} (h:i<b.length):b[i]? = some b[i]:=List.getElem?_eq_getElem h
theorem oz (b:List Int) {i:Nat} (hi:i<b.length) (hl:b.length<4611686018427387904) :
  ((dw (i:Int) b.length).bind fun v2 =>
     (bp b v2).bind fun v3 =>
     cond ((v3==13))
      ((some (IntKind.i64.wrap ((i:Int)+1))).bind fun v4 =>
      cond ((decide ((b.length:Int)≤v4)))
       (some (.inl true))
       ((some (IntKind.i64.wrap ((i:Int)+1))).bind fun v5 =>
       (dw v5 b.length).bind fun v6 =>
       (bp b v6).bind fun v7 =>
       cond ((v7 != 10))
        (some (.inl true))
        ((dw (i:Int) b.length).bind fun v8 =>
        (bp b v8).bind fun v9 =>
        cond ((v9==10))
         (cond (((i:Int)==0))
          (some (.inl true))
          ((some (IntKind.i64.wrap ((i:Int)-1))).bind fun v10 =>
          (dw v10 b.length).bind fun v11 =>
          (bp b v11).bind fun v12 =>
          some (.inl (v12 != 13))))
         (some (.inl false)))))
      ((dw (i:Int) b.length).bind fun v13 =>
      (bp b v13).bind fun v14 =>
      cond ((v14==10))
       (cond (((i:Int)==0))
        (some (.inl true))
        ((some (IntKind.i64.wrap ((i:Int)-1))).bind fun v15 =>
        (dw v15 b.length).bind fun v16 =>
        (bp b v16).bind fun v17 =>
        some (.inl (v17 != 13))))
       (some (.inl false))):Option (Bool⊕((Int)⊕((Unit)⊕Bool))))=some (.inl (yK b i)):=by
 have e0:some (IntKind.i64.wrap ((i:Int)+1))=some ((i+1:Nat):Int):=by rw [kf (by omega) (by omega)]; simp
 refine aK (gZ hi) (aK (eL hi) ?_)
 by_cases h13:b[i]=13
 ·refine aP (by rw [h13]; rfl) (aK e0 ?_)
  unfold yK
  rw [qZ hi,if_pos (by rw [h13])]
  by_cases hn:i+1<b.length
  ·refine aD (decide_eq_false (by omega)) (aK e0 (aK (gZ hn) (aK (eL hn) ?_)))
   rw [qZ hn]
   by_cases h10:b[i+1]=10
   ·refine aD (by rw [h10]; rfl) (aK (gZ hi) (aK (eL hi) (aD (by rw [h13]; rfl) ?_)))
    simp [h10]
   ·refine aP (by simpa using h10) ?_
    simp [h10]
  ·refine aP (decide_eq_true (by omega)) ?_
   rw [List.getElem?_eq_none (by omega)]; rfl
 ·refine aD (by simpa using h13) (aK (gZ hi) (aK (eL hi) ?_))
  unfold yK
  rw [qZ hi,if_neg (by simpa using h13)]
  by_cases h10:b[i]=10
  ·refine aP (by rw [h10]; rfl) ?_
   rw [if_pos (by rw [h10])]
   cases i with
   | zero=>rfl
   | succ i =>
    refine aD (by rw [beq_eq_false_iff_ne]; omega) (aK (x:=((i:Nat):Int)) (by rw [kf (by omega) (by omega)]; simp) (aK (gZ (by omega)) (aK (eL (by omega)) ?_)))
    rw [show i+1-1=i by omega,qZ (by omega)]
    congr 2
    rw [Bool.eq_iff_iff,bne_iff_ne,decide_eq_true_eq]
    simp
  ·refine aD (by simpa using h10) ?_
   rw [if_neg (by simpa using h10)]
theorem Dk (b:List Int) (hb:dL b) (hl:b.length<4294967281):bB b=some false∨(bB b=some true∧∃ ls,(∀ l∈ls,oK l)∧(∀ l∈ls,dL l)∧b=jn ls):=by
 have hloop:=oe (R:=Bool) (f:=fun (s31:Int)=>cond ((decide (s31<(b.length:Int))))
    (au (S:=Bool) (A:=((Int)⊕((Unit)⊕Bool)))
     ((dw s31 b.length).bind fun v2 =>
     (bp b v2).bind fun v3 =>
     cond ((v3==13))
      ((some (IntKind.i64.wrap (s31+1))).bind fun v4 =>
      cond ((decide ((b.length:Int)≤v4)))
       (some (.inl true))
       ((some (IntKind.i64.wrap (s31+1))).bind fun v5 =>
       (dw v5 b.length).bind fun v6 =>
       (bp b v6).bind fun v7 =>
       cond ((v7 != 10))
        (some (.inl true))
        ((dw s31 b.length).bind fun v8 =>
        (bp b v8).bind fun v9 =>
        cond ((v9==10))
         (cond ((s31==0))
          (some (.inl true))
          ((some (IntKind.i64.wrap (s31-1))).bind fun v10 =>
          (dw v10 b.length).bind fun v11 =>
          (bp b v11).bind fun v12 =>
          some (.inl (v12 != 13))))
         (some (.inl false)))))
      ((dw s31 b.length).bind fun v13 =>
      (bp b v13).bind fun v14 =>
      cond ((v14==10))
       (cond ((s31==0))
        (some (.inl true))
        ((some (IntKind.i64.wrap (s31-1))).bind fun v15 =>
        (dw v15 b.length).bind fun v16 =>
        (bp b v16).bind fun v17 =>
        some (.inl (v17 != 13))))
       (some (.inl false))))
     (fun (s45:Bool) =>
      cond (s45)
       (some (.inr (.inr (false))))
       ((some (IntKind.i64.wrap (s31+1))).bind fun v23 =>
       some (.inl v23))) some)
    (some (.inr (.inl ())))) (fun i => !yK b i) b.length false (fuel:=ej) (by unfold ej; omega)
  (fun i hi hp=>aP (decide_eq_true (by omega)) (bq (s:=yK b i) (oz b hi (by omega)) (aD (by simpa using hp) (aK (oO (by omega) (by omega)) rfl))))
  (fun i hi hp=>aP (decide_eq_true (by omega)) (bq (s:=yK b i) (oz b hi (by omega)) (aP (by simpa using hp) rfl)))
  (aD (decide_eq_false (by omega)) rfl)
 by_cases hall:∀ i,i<b.length→(!yK b i)=true
 ·rw [if_pos hall] at hloop
  have ho:=Hr hall
  cases hbn:b with
  | nil=>right; subst hbn; exact ⟨rfl,[],fun l hl=>by simp at hl,fun l hl=>by simp at hl,rfl⟩
  | cons y t =>
   rw [← hbn]
   have hpos:0<b.length:=by rw [hbn]; simp
   have hlast:b.getLast? = some (b[b.length-1]'(by omega)):=by rw [List.getLast?_eq_getElem?,qZ (by omega)]
   have key:bB b=some (b[b.length-1]'(by omega)==10):=by
    unfold bB
    refine bq (s:=()) hloop (bq (s:=(b[b.length-1]'(by omega)==10)) (aD (by rw [beq_eq_false_iff_ne]; omega) (aK (x:=((b.length-1:Nat):Int)) (by rw [kf (by omega) (by omega)]; congr 1; omega) (aK (gZ (by omega)) (aK (eL (by omega)) rfl)))) rfl)
   by_cases h10:b[b.length-1]'(by omega)=10
   ·right
    rw [key,h10]
    obtain ⟨ls,h1,h2⟩:=uX b.length b 0 (Nat.le_refl _) ho (by decide) (.inr (by rw [hlast,h10]))
    exact ⟨rfl,ls,h1,GO (by rw [← h2]; exact hb),h2⟩
   ·left
    rw [key,beq_eq_false_iff_ne.2 h10]
 ·rw [if_neg hall] at hloop
  left
  unfold bB
  exact BR (a:=false) hloop rfl
def JE (b:List Int):((List Int)×Int)→Option (((List Int)×Int)⊕(((List Int))⊕(List Int))):=(fun ((s43,s44):(List Int)×Int) =>
 cond ((decide (s44<(b.length:Int))))
  (au (S:=(List Int)) (A:=(((List Int)×Int)⊕(((List Int))⊕(List Int))))
   (au (S:=Bool) (A:=(((List Int))⊕(((List Int)×Int)⊕(((List Int))⊕(List Int)))))
    ((dw s44 b.length).bind fun v2 =>
    (bp b v2).bind fun v3 =>
    cond ((v3==46))
     (cond ((s44==0))
      (some (.inl true))
      ((some (IntKind.i64.wrap (s44-1))).bind fun v4 =>
      (dw v4 b.length).bind fun v5 =>
      (bp b v5).bind fun v6 =>
      some (.inl (v6==10))))
     (some (.inl false)))
    (fun (s77:Bool) =>
     cond (s77)
      ((cc 1 s43 [46]).bind fun v12 =>
      some (.inl v12))
      (some (.inl s43))) some)
   (fun (s73:(List Int)) =>
    (dw s44 b.length).bind fun v22 =>
    (bp b v22).bind fun v23 =>
    (cc 1 s73 [v23]).bind fun v24 =>
    (some (IntKind.i64.wrap (s44+1))).bind fun v25 =>
    some (.inl (v24,v25))) some)
  (some (.inr (.inl s43))))
def Ai:Int→List Int→List Int
 | _,[]=>[]
 | p,x::l=>(if x=46∧p=10 then [46,x] else [x])++Ai x l
theorem DI:∀ (l rest:List Int) (p:Int),oK l→p≠10→Ai p (l++13::10::rest)=l++13::10::Ai 10 rest
 | [],rest,p,_,hp=>by simp [Ai]
 | x::l,rest,p,h,hp=>by
  have hx:=h x (by simp)
  simp only [List.cons_append,Ai]
  rw [if_neg (fun hc=>hp hc.2),DI l rest x (fun y hy=>h y (by simp [hy])) hx.2]
  rfl
theorem yZ:∀ (ls:List (List Int)),(∀ l∈ls,oK l)→Ai 10 (jn ls)=jn (ls.map kV)
 | [],_=>rfl
 | l::ls,h=>by
  have ih:=yZ ls fun m hm=>h m (by simp [hm])
  have hl:=h l (by simp)
  simp only [jn,List.map_cons]
  rw [← ih]
  cases l with
  | nil=>simp [Ai,kV]
  | cons x l =>
   have hx:=hl x (by simp)
   simp only [List.cons_append,Ai]
   rw [DI l (jn ls) x (fun y hy=>hl y (by simp [hy])) hx.2]
   unfold kV
   by_cases e:x=46
   ·subst e; simp
   ·rw [if_neg (fun hc=>e hc.1),if_neg (by simpa using e)]; rfl
theorem zV:∀ (l:List Int) (p:Int),(Ai p l).length≤2 * l.length
 | [],_=>by simp [Ai]
 | x::l,p=>by
  have:=zV l x
  simp only [Ai,List.length_append,List.length_cons]
  split <;> simp <;> omega
def Eb (b:List Int) (i:Nat):Int:=if i=0 then 10 else b.getD (i-1) 0
theorem DE {b:List Int} {i:Nat} (h:i<b.length):Eb b (i+1)=b[i]:=by
 unfold Eb; rw [if_neg (by omega)]; simp [List.getD_eq_getElem?_getD,h]
theorem HI {b:List Int} {i:Nat} {x:Int} (h:i<b.length) (hi:i≠0):(wh:i-1<b.length)→b[i-1]=Eb b i:=by
 intro wh
 unfold Eb; rw [if_neg hi]; simp [List.getD_eq_getElem?_getD,wh]
theorem Fm {b:List Int} {i:Nat} (h:i<b.length):b.drop i=b[i]::b.drop (i+1):=List.drop_eq_getElem_cons h
theorem Fs (b:List Int) (hl:b.length<1000000) {i:Nat} (hi:i<b.length) (acc:List Int) (ha:acc.length<4000000) :
  JE b (acc,(i:Int))=some (.inl (acc++(if b[i]=46∧Eb b i=10 then [46,b[i]] else [b[i]]),((i+1:Nat):Int))):=by
 unfold JE
 refine aP (decide_eq_true (by omega)) ?_
 have h1:((dw (i:Int) b.length).bind fun v2 =>
     (bp b v2).bind fun v3 =>
     cond ((v3==46))
      (cond (((i:Int)==0))
       (some (.inl true))
       ((some (IntKind.i64.wrap ((i:Int)-1))).bind fun v4 =>
       (dw v4 b.length).bind fun v5 =>
       (bp b v5).bind fun v6 =>
       some (.inl (v6==10))))
      (some (.inl false)):Option (Bool⊕((List Int)⊕(((List Int)×Int)⊕(((List Int))⊕(List Int))))))=some (.inl (decide (b[i]=46∧Eb b i=10))):=by
  refine aK (gZ hi) (aK (eL hi) ?_)
  by_cases h46:b[i]=46
  ·refine aP (by rw [h46]; rfl) ?_
   by_cases h0:i=0
   ·subst h0
    refine aP rfl ?_
    simp [h46,Eb]
   ·refine aD (by rw [beq_eq_false_iff_ne]; omega) (aK (x:=((i-1:Nat):Int)) (by rw [kf (by omega) (by omega)]; congr 1; omega) (aK (gZ (by omega)) (aK (eL (by omega)) ?_)))
    rw [HI (x:=0) hi h0 (by omega)]
    congr 2
    rw [Bool.eq_iff_iff,beq_iff_eq,decide_eq_true_eq]
    simp [h46]
  ·refine aD (by simpa using h46) ?_
   congr 2
   rw [eq_comm,decide_eq_false_iff_not]
   simp [h46]
 have e0:some (IntKind.i64.wrap ((i:Int)+1))=some ((i+1:Nat):Int):=by rw [kf (by omega) (by omega)]; simp
 by_cases hc:b[i]=46∧Eb b i=10
 ·rw [if_pos hc]
  refine bq (s:=acc++[46]) (bq h1 (aP (decide_eq_true hc) (aK (dJ (by simp; omega) (by simp; omega)) rfl))) (aK (gZ hi) (aK (eL hi) (aK (dJ (by simp; omega) (by simp; omega)) (aK e0 ?_))))
  rw [List.append_assoc]; rfl
 ·rw [if_neg hc]
  exact bq (s:=acc) (bq h1 (aD (decide_eq_false hc) rfl)) (aK (gZ hi) (aK (eL hi) (aK (dJ (by simp; omega) (by simp; omega)) (aK e0 rfl))))
theorem GA (b:List Int) (hl:b.length<1000000):∀ (n i:Nat) (acc:List Int) (fuel:Nat),i+n=b.length→acc.length≤2 * i→n<fuel→bo (JE b) fuel (acc,(i:Int))=some (.inl (acc++Ai (Eb b i) (b.drop i)))
 | 0,i,acc,fuel,hn,ha,hf=>by
  obtain ⟨k,rfl⟩:∃ k,fuel=k+1:=⟨fuel-1,by omega⟩
  rw [dW (o := .inl acc) (by unfold JE; exact aD (decide_eq_false (by omega)) rfl)]
  rw [List.drop_eq_nil_of_le (by omega)]; simp [Ai]
 | n+1,i,acc,fuel,hn,ha,hf=>by
  obtain ⟨k,rfl⟩:∃ k,fuel=k+1:=⟨fuel-1,by omega⟩
  have hi:i<b.length:=by omega
  rw [gB (Fs b hl hi acc (by omega))]
  rw [GA b hl n (i+1) _ k (by omega) (by rw [List.length_append]; split <;> simp <;> omega) (by omega)]
  rw [Fm hi,Ai,List.append_assoc,DE hi]
theorem wL {ls:List (List Int)} (h:∀ l∈ls,oK l) (hl:(jn ls).length<1000000):cR (jn ls)=some (jn (ls.map kV++[[46]])):=by
 have h1:=GA (jn ls) hl (jn ls).length 0 [] ej (by omega) (by simp) (by unfold ej; omega)
 have e:Eb (jn ls) 0=10:=rfl
 rw [e,List.drop_zero,List.nil_append,yZ ls h] at h1
 have h2:=zV (jn ls) 10
 rw [yZ ls h] at h2
 unfold cR
 refine bq (s:=jn (ls.map kV)) h1 (aK (dJ (by simp; omega) (by simp; omega)) ?_)
 rw [sL]; simp [jn]
def vu:Nat→Nat→List Int→List Int
 | 0,n,acc=>(48+(n:Int))::acc
 | k+1,n,acc=>if n≤9 then (48+(n:Int))::acc else vu k (n / 10) ((48+((n % 10:Nat):Int))::acc)
def Ix (c:Int):Prop:=48≤c∧c≤57
theorem yl:∀ (k n:Nat) (acc:List Int),n<10 ^ (k+1)→∃ t,vu k n acc=t++acc∧(∀ x∈t,Ix x)∧1≤t.length∧t.length≤k+1
 | 0,n,acc,hn=>⟨[48+(n:Int)],rfl,fun x hx=>by simp at hx; subst hx; simp at hn; exact ⟨by omega,by omega⟩,by simp,by simp⟩
 | k+1,n,acc,hn=>by
  unfold vu
  by_cases h9:n≤9
  ·rw [if_pos h9]
   exact ⟨[48+(n:Int)],rfl,fun x hx=>by simp at hx; subst hx; exact ⟨by omega,by omega⟩,by simp,by simp⟩
  ·rw [if_neg h9]
   have hn2:n / 10<10 ^ (k+1):=by rw [Nat.pow_succ] at hn; omega
   obtain ⟨t,e,h1,h2,h3⟩:=yl k (n / 10) ((48+((n % 10:Nat):Int))::acc) hn2
   refine ⟨t++[48+((n % 10:Nat):Int)],by rw [e]; simp,fun x hx => ?_,by simp,by simp; omega⟩
   rcases List.mem_append.1 hx with hx | hx
   ·exact h1 x hx
   ·simp at hx; subst hx; exact ⟨by omega,by omega⟩
theorem zK:∀ (k n:Nat) (acc:List Int),n<10 ^ (k+1)→(Lib.decDigits n).map (fun b=>(b.toNat:Int))++acc=vu k n acc
 | 0,n,acc,hn=>by
  have h:n<10:=by simpa using hn
  rw [Lib.decDigits_one h]
  show ((UInt8.ofNat (48+n)).toNat:Int)::acc=(48+(n:Int))::acc
  rw [UInt8.toNat_ofNat',Nat.mod_eq_of_lt (by omega)]
  simp
 | k+1,n,acc,hn=>by
  unfold vu
  by_cases h9:n≤9
  ·rw [if_pos h9,Lib.decDigits_one (by omega)]
   show ((UInt8.ofNat (48+n)).toNat:Int)::acc=(48+(n:Int))::acc
   rw [UInt8.toNat_ofNat',Nat.mod_eq_of_lt (by omega)]
   simp
  ·rw [if_neg h9]
   have hn2:n / 10<10 ^ (k+1):=by rw [Nat.pow_succ] at hn; omega
   rw [← zK k (n / 10) _ hn2,Lib.decDigits,dif_neg (by omega)]
   simp only [List.map_append,List.map_cons,List.map_nil,List.append_assoc,List.cons_append,List.nil_append]
   rw [UInt8.toNat_ofNat',Nat.mod_eq_of_lt (by omega)]
   simp
def IP:Mf:=⟨#[48,49,50,51,52,53,54,55,56,57]⟩
theorem DF:(List.range 10).all (fun k=>decide (gz IP ((k:Nat):Int) ((k+1:Nat):Int)=some (aQ [48+((k:Nat):Int)])))=true:=by kernel_rfl
theorem wc {k:Nat} (h:k<10):gz IP (k:Int) ((k+1:Nat):Int)=some (aQ [48+(k:Int)]):=by
 have:=List.all_eq_true.1 DF k (List.mem_range.2 h)
 exact of_decide_eq_true this
theorem CT {n:Nat} (h:n≤9):dL [48+(n:Int)]:=jI (by omega) vT
theorem Ew:∀ (k n:Nat) (acc:List Int) (fuel:Nat),n<10 ^ (k+1)→n<9000000000000000000→k<fuel→dL acc→acc.length+k<1000 →
  au (S:=(Int×Mf)) (A:=Mf)
 (bo (S:=(Int×Mf)) (O:=(Int×Mf)⊕Mf) (fun ((s11,s12):Int×Mf) =>
  cond ((decide (9<s11)))
   ((kW s11 10).bind fun v2 =>
   (kW s11 10).bind fun v3 =>
   (some (IntKind.i64.wrap (v3+1))).bind fun v4 =>
   (gz (⟨#[48,49,50,51,52,53,54,55,56,57]⟩:Mf) v2 v4).bind fun v5 =>
   (ce v5 s12).bind fun v6 =>
   (rQ .i64 s11 10).bind fun v7 =>
   some (.inl (v7,v6)))
   (some (.inr (.inl (s11,s12)))))
  fuel ((n:Int),aQ acc))
 (fun ((s14,s15):Int×Mf) =>
  (some (IntKind.i64.wrap (s14+1))).bind fun v23 =>
  (gz (⟨#[48,49,50,51,52,53,54,55,56,57]⟩:Mf) s14 v23).bind fun v24 =>
  (ce v24 s15).bind fun v25 =>
  some (v25)) some=some (aQ (vu k n acc)):=by
 intro k
 induction k with
 | zero =>
  intro n acc fuel hn _ hf hb hl
  cases fuel with
  | zero=>omega
  | succ fuel =>
   have h9:n≤9:=by simp at hn; omega
   unfold vu
   exact bq (dW (aD (decide_eq_false (by omega)) rfl)) (aK (by rw [jm (by omega)]) (aK (wc (by omega)) (aK (na (aJ (CT h9)) (aJ hb) (by simp; omega)) rfl)))
 | succ k ih =>
  intro n acc fuel hn hbig hf hb hl
  cases fuel with
  | zero=>omega
  | succ fuel =>
   by_cases h9:n≤9
   ·unfold vu
    rw [if_pos h9]
    exact bq (dW (aD (decide_eq_false (by omega)) rfl)) (aK (by rw [jm (by omega)]) (aK (wc (by omega)) (aK (na (aJ (CT h9)) (aJ hb) (by simp; omega)) rfl)))
   ·have hd:dL [48+((n % 10:Nat):Int)]:=jI (by omega) vT
    have hr:kW (n:Int) 10=some ((n % 10:Nat):Int):=Fw n 10 (by decide)
    have hq:rQ .i64 (n:Int) 10=some ((n / 10:Nat):Int):=FT n 10 (by decide) (by omega)
    have hn2:n / 10<10 ^ (k+1):=by rw [Nat.pow_succ] at hn; omega
    have hih:=ih (n / 10) ((48+((n % 10:Nat):Int))::acc) fuel hn2 (by omega) (by omega) (jI (by omega) hb) (by simp; omega)
    have e:vu (k+1) n acc=vu k (n / 10) ((48+((n % 10:Nat):Int))::acc):=by rw [vu,if_neg h9]
    rw [e,← hih]
    congr 1
    exact gB (aP (decide_eq_true (by omega)) (aK hr (aK hr (aK (by rw [jm (by omega)]) (aK (wc (by omega)) (aK (na (aJ hd) (aJ hb) (by simp; omega)) (aK hq rfl)))))))
theorem zN (k n:Nat) (h:n<10 ^ (k+1)) (h2:n<9000000000000000000) (hk:k<900):bK (n:Int)=some (aQ (vu k n [])) :=
 Ew k n [] ej h h2 (by unfold ej; omega) vT (by simpa using by omega)
theorem Ad (k n:Nat) (h:n<10 ^ (k+1)) (h2:n<9000000000000000000):strconv_Itoa (n:Int)=some (aQ (vu k n [])):=by
 unfold strconv_Itoa
 rw [if_pos (by omega),← zK k n [] h]
 congr 1
 have:Lib.itoa (n:Int)=Lib.decDigits n:=by unfold Lib.itoa; rw [if_neg (by omega),Int.toNat_natCast]
 rw [this,List.append_nil]
 apply jo
 rw [aJ (fun x hx=>by
  obtain ⟨b,_,rfl⟩:=List.mem_map.1 hx
  have:=b.toNat_lt
  omega)]
 simp [ao]
theorem Dw:∀ (b:List Int) (p:Int),DY p b→∀ i:Nat,(b[i]? = some 13→b[i+1]? = some 10)∧(b[i]? = some 10→(if i=0 then some p else b[i-1]?)=some 13)
 | [],_,_,i=>by simp
 | x::l,p,h,i=>by
  obtain ⟨h1,h2,h3⟩:=h
  cases i with
  | zero =>
   refine ⟨fun e => ?_,fun e => ?_⟩
   ·have:=h1 (by simpa using e)
    rw [List.head?_eq_getElem?] at this; simpa using this
   ·rw [if_pos rfl,h2 (by simpa using e)]
  | succ i =>
   have ih:=Dw l x h3 i
   refine ⟨fun e=>by simpa using ih.1 (by simpa using e),fun e => ?_⟩
   have:=ih.2 (by simpa using e)
   rw [if_neg (by omega)]
   cases i with
   | zero=>simpa using this
   | succ i=>simpa using this
theorem Di {ls:List (List Int)} (h:∀ l∈ls,oK l) (i:Nat):yK (jn ls) i=false:=by
 obtain ⟨h1,h2⟩:=Dw (jn ls) 0 (DV ls 0 h) i
 unfold yK
 by_cases e:(jn ls)[i]? = some 13
 ·rw [if_pos e,h1 e]; rfl
 ·rw [if_neg e]
  by_cases e2:(jn ls)[i]? = some 10
  ·rw [if_pos e2,decide_eq_false_iff_not]
   have:=h2 e2
   by_cases h0:i=0
   ·rw [if_pos h0] at this; cases this
   ·rw [if_neg h0] at this
    simp [h0,this]
  ·rw [if_neg e2]
set_option maxHeartbeats 1000000 in
theorem BT (b:List Int) (hl:b.length<4294967281) (hall:∀ i,i<b.length→(!yK b i)=true) (hlast:b=[]∨b.getLast? = some 10):bB b=some true:=by
 have hloop:=oe (R:=Bool) (f:=fun (s31:Int)=>cond ((decide (s31<(b.length:Int))))
    (au (S:=Bool) (A:=((Int)⊕((Unit)⊕Bool)))
     ((dw s31 b.length).bind fun v2 =>
     (bp b v2).bind fun v3 =>
     cond ((v3==13))
      ((some (IntKind.i64.wrap (s31+1))).bind fun v4 =>
      cond ((decide ((b.length:Int)≤v4)))
       (some (.inl true))
       ((some (IntKind.i64.wrap (s31+1))).bind fun v5 =>
       (dw v5 b.length).bind fun v6 =>
       (bp b v6).bind fun v7 =>
       cond ((v7 != 10))
        (some (.inl true))
        ((dw s31 b.length).bind fun v8 =>
        (bp b v8).bind fun v9 =>
        cond ((v9==10))
         (cond ((s31==0))
          (some (.inl true))
          ((some (IntKind.i64.wrap (s31-1))).bind fun v10 =>
          (dw v10 b.length).bind fun v11 =>
          (bp b v11).bind fun v12 =>
          some (.inl (v12 != 13))))
         (some (.inl false)))))
      ((dw s31 b.length).bind fun v13 =>
      (bp b v13).bind fun v14 =>
      cond ((v14==10))
       (cond ((s31==0))
        (some (.inl true))
        ((some (IntKind.i64.wrap (s31-1))).bind fun v15 =>
        (dw v15 b.length).bind fun v16 =>
        (bp b v16).bind fun v17 =>
        some (.inl (v17 != 13))))
       (some (.inl false))))
     (fun (s45:Bool) =>
      cond (s45)
       (some (.inr (.inr (false))))
       ((some (IntKind.i64.wrap (s31+1))).bind fun v23 =>
       some (.inl v23))) some)
    (some (.inr (.inl ())))) (fun i => !yK b i) b.length false (fuel:=ej) (by unfold ej; omega)
  (fun i hi hp=>aP (decide_eq_true (by omega)) (bq (s:=yK b i) (oz b hi (by omega)) (aD (by simpa using hp) (aK (oO (by omega) (by omega)) rfl))))
  (fun i hi hp=>aP (decide_eq_true (by omega)) (bq (s:=yK b i) (oz b hi (by omega)) (aP (by simpa using hp) rfl)))
  (aD (decide_eq_false (by omega)) rfl)
 rw [if_pos hall] at hloop
 by_cases hn:b=[]
 ·subst hn; rfl
 ·have hpos:0<b.length:=by cases b with | nil=>exact absurd rfl hn | cons y t=>simp
  have h10:b[b.length-1]'(by omega)=10:=by
   have h2:=hlast.resolve_left hn
   rw [List.getLast?_eq_getElem?,qZ (by omega)] at h2
   exact Option.some.inj h2
  unfold bB
  refine bq (s:=()) hloop (bq (s:=(b[b.length-1]'(by omega)==10)) (aD (by rw [beq_eq_false_iff_ne]; omega) (aK (x:=((b.length-1:Nat):Int)) (by rw [kf (by omega) (by omega)]; congr 1; omega) (aK (gZ (by omega)) (aK (eL (by omega)) rfl)))) (by rw [h10]; rfl))
theorem Ft {ls:List (List Int)} (h:∀ l∈ls,oK l) (hl:jM ls<1000000):bB (jn ls)=some true :=
 BT _ (by rw [el]; omega) (fun i _=>by rw [Di h i]; rfl) (Ag ls)
end Go.Abs.Sh
