import Derived.Test.YtjnnkhmhjcjhdaaGreatDoorSh
set_option linter.unusedVariables false
set_option linter.unusedSimpArgs false
set_option linter.unusedSectionVars false
namespace Go.Abs.Sh
set_option linter.unusedVariables false
theorem eB {n:Int} (h0 : -9223372036854775808≤n) (h1:n<9223372036854775808):IntKind.i64.wrap n=n:=by
 simp only [IntKind.wrap,IntKind.bits,IntKind.signed]
 have e:(2:Int) ^ 64=18446744073709551616:=by decide
 have e2:(2:Int) ^ (64-1)=9223372036854775808:=by decide
 simp only [e,e2,Bool.true_and,decide_eq_true_eq]
 split <;> omega
theorem uO {i n:Nat} (h:i<n):fL (i:Int) n=some i:=by simp [fL]; omega
theorem gq {A:Type} {l:List A} {i:Nat} (h:i<l.length):bQ l i=some l[i]:=by simp [bQ,h]
theorem aX {A R:Type} {m:Option A} {f:A→Option R} {x:A} {r:Option R} (h:m=some x) (h2:f x=r):m.bind f=r:=by subst h; exact h2
theorem bw {S A R:Type} {m:Option (S⊕A)} {k:S→Option R} {e:A→Option R} {s:S} {r:Option R} (h:m=some (.inl s)) (h2:k s=r):aA m k e=r:=by subst h; exact h2
theorem DE {S A R:Type} {m:Option (S⊕A)} {k:S→Option R} {e:A→Option R} {a:A} {r:Option R} (h:m=some (.inr a)) (h2:e a=r):aA m k e=r:=by subst h; exact h2
theorem lw {S O:Type} {step:S→Option (S⊕O)} {n:Nat} {s s':S} (h:step s=some (.inl s')):bl step (n+1) s=bl step n s':=by
 simp only [bl,h]
theorem gX {S O:Type} {step:S→Option (S⊕O)} {n:Nat} {s:S} {o:O} (h:step s=some (.inr o)):bl step (n+1) s=some o:=by
 simp only [bl,h]
theorem au {R:Type} {c:Bool} {x y r:R} (hc:c=false) (h:y=r):cond c x y=r:=by subst hc; exact h
theorem aL {R:Type} {c:Bool} {x y r:R} (hc:c=true) (h:x=r):cond c x y=r:=by subst hc; exact h
theorem CQ {S O:Type} {f:S→Option (S⊕O)} (st:Nat→S) {o:O}:∀ (n fuel:Nat),n<fuel→(∀ i,i<n→f (st i)=some (.inl (st (i+1))))→f (st n)=some (.inr o)→bl f fuel (st 0)=some o:=by
 intro n
 induction n generalizing st with
 | zero =>
  intro fuel hf _ he
  obtain ⟨k,rfl⟩:∃ k,fuel=k+1:=⟨fuel-1,by omega⟩
  exact gX he
 | succ n ih =>
  intro fuel hf hs he
  obtain ⟨k,rfl⟩:∃ k,fuel=k+1:=⟨fuel-1,by omega⟩
  rw [lw (hs 0 (by omega))]
  exact ih (fun i=>st (i+1)) k (by omega) (fun i hi=>hs (i+1) (by omega)) he
theorem nJ {S O:Type} {f:S→Option (S⊕O)} {s:S} (st:Nat→S) {o:O} (n fuel:Nat) (h0:st 0=s) (hn:n<fuel) (hs:∀ i,i<n→f (st i)=some (.inl (st (i+1)))) (he:f (st n)=some (.inr o)):bl f fuel s=some o:=by
 subst h0; exact CQ st n fuel hn hs he
theorem sy (p:Nat→Bool):∀ n,(∀ i,i<n→p i=true)∨∃ k,k<n∧(∀ i,i<k→p i=true)∧p k=false
 | 0 => .inl fun i h=>absurd h (Nat.not_lt_zero i)
 | n+1=>by
  rcases sy p n with h | ⟨k,h1,h2,h3⟩
  ·cases hp:p n
   ·exact .inr ⟨n,by omega,h,hp⟩
   ·refine .inl fun i hi => ?_
    by_cases h':i=n
    ·subst h'; exact hp
    ·exact h i (by omega)
  ·exact .inr ⟨k,by omega,h2,h3⟩
theorem wP {R:Type} {f:Int→Option (Int⊕(Unit⊕R))} (p:Nat→Bool) (n:Nat) (r:R) {fuel:Nat} (hf:n<fuel) (hgo:∀ i,i<n→p i=true→f (i:Int)=some (.inl ((i+1:Nat):Int))) (hno:∀ i,i<n→p i=false→f (i:Int)=some (.inr (.inr r))) (hend:f (n:Int)=some (.inr (.inl ()))) :
  bl f fuel 0=some (if ∀ i,i<n→p i=true then .inl () else .inr r):=by
 rcases sy p n with h | ⟨k,h1,h2,h3⟩
 ·rw [if_pos h]
  exact nJ (fun i=>(i:Int)) n fuel rfl hf (fun i hi=>hgo i hi (h i hi)) hend
 ·rw [if_neg fun h=>by rw [h k h1] at h3; cases h3]
  exact nJ (fun i=>(i:Int)) k fuel rfl (by omega) (fun i hi=>hgo i (by omega) (h2 i hi)) (hno k h1 h3)
theorem tj {n:Nat} (h:n<4611686018427387904):IntKind.i64.wrap ((n:Int)+1)=((n+1:Nat):Int):=by rw [eB (by omega) (by omega)]; simp
theorem um {n:Int} (h0 : -9223372036854775808≤n) (h1:n<9223372036854775808):some (IntKind.i64.wrap n)=some n:=by rw [eB h0 h1]
theorem mj {A:Type} (l:List A) {a b:Nat} (h1:a≤b) (h2:b≤l.length):iZ l (a:Int) (b:Int)=some ((l.drop a).take (b-a)):=by
 unfold iZ
 rw [if_pos (by omega)]
 simp only [Int.toNat_natCast]
theorem jE {A:Type} {k:Nat} {l m:List A} (h:(l.length+m.length) * k≤140737488355328) (h1:l.length+m.length≤140737488355328):cq k l m=some (l++m):=by
 unfold cq; rw [if_pos ⟨h,h1⟩]
theorem cG (s:KK):dv (ao s):=by
 intro x hx
 simp only [ao,List.mem_map] at hx
 obtain ⟨b,_,rfl⟩:=hx
 have:=b.toNat_lt
 omega
theorem nz (s:KK):dw (ao s)=s:=by
 obtain ⟨⟨l⟩⟩:=s
 simp only [dw,ao,List.map_map]
 congr 2
 conv=>rhs; rw [← List.map_id l]
 apply List.map_congr_left
 intro b _
 simp
theorem fQ {l:List Int} (h:dv l):ao (dw l)=l:=by
 simp only [dw,ao,List.map_map]
 conv=>rhs; rw [← List.map_id l]
 apply List.map_congr_left
 intro x hx
 have:=h x hx
 simp only [Function.comp,id_eq,UInt8.toNat_ofNat']
 omega
theorem rp {s t:KK} (h:ao s=ao t):s=t:=by rw [← nz s,h,nz]
theorem fm (l:List Int):(dw l).size=l.length:=by simp [dw,ByteArray.size]
theorem fV {l:List Int} (h:dv l) (n:Nat):dv (l.drop n):=fun x hx=>h x (List.mem_of_mem_drop hx)
theorem lz {l:List Int} (h:dv l) (n:Nat):dv (l.take n):=fun x hx=>h x (List.mem_of_mem_take hx)
theorem kE {l m:List Int} (h:dv l) (k:dv m):dv (l++m):=by
 intro x hx
 rcases List.mem_append.1 hx with h1 | h1
 ·exact h x h1
 ·exact k x h1
theorem tR {l:List Int} (h:DW (nQ .u8) l):dv l:=by
 intro x hx
 have:=h.2 x hx
 simp only [nQ,Lit.wf,IntKind.min,IntKind.max,IntKind.signed,IntKind.bits] at this
 have h2:0≤x∧x≤255:=by simpa using this
 omega
theorem BZ {s:KK} {i:Nat} (h:i<s.size):gf s (i:Int)=some ((ao s)[i]'(by rw [aD]; exact h)):=by
 unfold gf
 rw [if_pos (by omega)]
 have h':i<s.data.toList.length:=by simpa using h
 simp only [Int.toNat_natCast,ao,List.getElem?_eq_getElem h',Option.map_some,List.getElem_map]
theorem nb {s:KK} {a b:Nat} (h1:a≤b) (h2:b≤s.size):jj s (a:Int) (b:Int)=some (dw (((ao s).drop a).take (b-a))):=by
 unfold jj
 rw [if_pos (by omega)]
 simp only [Int.toNat_natCast]
 congr 1
 apply rp
 rw [fQ (lz (fV (cG s) a) _)]
 simp only [ao,ByteArray.data_extract,Array.toList_extract,List.extract_eq_take_drop,List.map_take,List.map_drop]
theorem jf (s t:KK):(s.toList==t.toList)=decide (s=t):=by
 rw [← beq_toListBytes,Bool.eq_iff_iff,decide_eq_true_eq]
 obtain ⟨a⟩:=s
 obtain ⟨b⟩:=t
 show (a==b)=true↔_
 rw [beq_iff_eq]
 exact ⟨fun h=>by rw [h],fun h=>by injection h⟩
theorem ka {s t:KK}:s=t↔ao s=ao t:=⟨fun h=>h ▸ rfl,rp⟩
def fK:List Int→Option Nat
 | []=>none
 | x::l=>if x=13∧l.head? = some 10 then some 0 else (fK l).map (· + 1)
theorem jc:∀ {l:List Int} {e:Nat},fK l=some e→e+2≤l.length∧l=l.take e++13::10::l.drop (e+2)
 | [],e,h=>by simp [fK] at h
 | x::l,e,h=>by
  unfold fK at h
  split at h
  ·rename_i hc
   cases h
   obtain ⟨rfl,h2⟩:=hc
   cases l with
   | nil=>simp at h2
   | cons y l=>simp at h2; subst h2; simp
  ·cases hi:fK l with
   | none=>simp [hi] at h
   | some k =>
    simp [hi] at h
    subst h
    obtain ⟨h1,h2⟩:=jc hi
    refine ⟨by simp; omega,?_⟩
    simp only [List.take_succ_cons,List.cons_append,List.drop_succ_cons,show k+1+2=(k+2)+1 by omega]
    rw [← h2]
theorem tt:∀ {line rest:List Int},(∀ x∈line,x≠13)→fK (line++13::10::rest)=some line.length
 | [],rest,_=>by simp [fK]
 | x::line,rest,h=>by
  have hx:=h x (by simp)
  have ih:=tt (line:=line) (rest:=rest) fun y hy=>h y (by simp [hy])
  rw [List.cons_append]
  unfold fK
  rw [if_neg (fun e=>hx e.1),ih]
  simp
theorem EA {x:Int} (h:0≤x∧x<256) {n:Nat} (hn:n<256):(UInt8.ofNat x.toNat=UInt8.ofNat n)↔x=(n:Int):=by
 constructor
 ·intro e
  have:=congrArg UInt8.toNat e
  simp only [UInt8.toNat_ofNat'] at this
  omega
 ·rintro rfl; simp
theorem xz:∀ {l:List Int},dv l→Lib.index (Lib.bytesOf l) (Lib.bytesOf [13,10])=match fK l with | none => -1 | some e=>(e:Int)
 | [],_=>by rfl
 | x::l,h=>by
  have hx:=h x (by simp)
  have ih:=xz (l:=l) fun y hy=>h y (by simp [hy])
  have e1:Lib.bytesOf (x::l)=UInt8.ofNat x.toNat::Lib.bytesOf l:=rfl
  have e2:Lib.bytesOf [13,10]=[UInt8.ofNat 13,UInt8.ofNat 10]:=rfl
  rw [e1]
  unfold Lib.index fK
  have hp:(Lib.bytesOf [13,10]).isPrefixOf (UInt8.ofNat x.toNat::Lib.bytesOf l)=decide (x=13∧l.head? = some 10):=by
   rw [Bool.eq_iff_iff,decide_eq_true_eq,e2]
   cases l with
   | nil=>simp [Lib.bytesOf,List.isPrefixOf]
   | cons y l =>
    have hy:=h y (by simp)
    have ex:=EA hx (n:=13) (by omega)
    have ey:=EA hy (n:=10) (by omega)
    simp only [Lib.bytesOf,List.map_cons,List.isPrefixOf,Bool.and_eq_true,beq_iff_eq,Bool.true_and,Bool.and_true,and_true,List.head?_cons,Option.some.injEq]
    constructor
    ·rintro ⟨h1,h2⟩; exact ⟨ex.1 h1.symm,ey.1 h2.symm⟩
    ·rintro ⟨h1,h2⟩; exact ⟨(ex.2 h1).symm,(ey.2 h2).symm⟩
  rw [hp]
  by_cases hc:x=13∧l.head? = some 10
  ·rw [if_pos (by simpa using hc),if_pos hc]
   rfl
  ·rw [if_neg (by simpa using hc),if_neg hc,ih]
   cases fK l with
   | none=>rfl
   | some k =>
    have:((k:Int) == -1)=false:=beq_eq_false_iff_ne.2 (by omega)
    simp only [this,Bool.false_eq_true,if_false,Option.map_some]
    rfl
theorem ql {l:List Int} (h:dv l) (hl:l.length<4294967281):ig l [13,10]=some (match fK l with | none => -1 | some e=>(e:Int)):=by
 unfold ig
 rw [if_pos ⟨hl,by simp,by simp,h,by decide⟩,xz h]
def mS (c:Int):List Int→Option Nat
 | []=>none
 | x::l=>if x=c then some 0 else (mS c l).map (· + 1)
theorem uj {c:Int}:∀ {l:List Int},mS c l=none↔c ∉ l
 | []=>by simp [mS]
 | x::l=>by
  have ih:=uj (c:=c) (l:=l)
  unfold mS
  by_cases h:x=c
  ·simp [h]
  ·rw [if_neg h]
   simp only [Option.map_eq_none_iff,ih,List.mem_cons,not_or]
   exact ⟨fun h2=>⟨fun e=>h e.symm,h2⟩,fun h2=>h2.2⟩
theorem nK {c:Int}:∀ {l:List Int} {e:Nat},mS c l=some e→e+1≤l.length∧l=l.take e++c::l.drop (e+1)∧c ∉ l.take e
 | [],e,h=>by simp [mS] at h
 | x::l,e,h=>by
  unfold mS at h
  split at h
  ·rename_i hx
   cases h; subst hx; simp
  ·rename_i hx
   cases hi:mS c l with
   | none=>simp [hi] at h
   | some k =>
    simp [hi] at h
    subst h
    obtain ⟨h1,h2,h3⟩:=nK hi
    refine ⟨by simp; omega,?_,?_⟩
    ·simp only [List.take_succ_cons,List.cons_append,List.drop_succ_cons]
     rw [← h2]
    ·simp only [List.take_succ_cons,List.mem_cons,not_or]
     exact ⟨fun e=>hx e.symm,h3⟩
theorem pn {n:Nat} (hn:n<256):∀ (l:List UInt8),Lib.indexByte l (UInt8.ofNat n)=match mS (n:Int) (l.map fun b=>(b.toNat:Int)) with | none => -1 | some e=>(e:Int)
 | []=>rfl
 | b::l=>by
  have ih:=pn hn l
  unfold Lib.indexByte
  rw [List.map_cons]
  unfold mS
  have hb:(b==UInt8.ofNat n)=decide ((b.toNat:Int)=(n:Int)):=by
   rw [Bool.eq_iff_iff,decide_eq_true_eq,beq_iff_eq]
   constructor
   ·rintro rfl; simp; omega
   ·intro h
    apply UInt8.toNat_inj.1
    simp; omega
  rw [hb]
  by_cases h:(b.toNat:Int)=(n:Int)
  ·rw [if_pos (decide_eq_true h),if_pos h]; rfl
  ·rw [if_neg (by simpa using h),if_neg h,ih]
   cases mS (n:Int) (l.map fun b=>(b.toNat:Int)) with
   | none=>rfl
   | some k =>
    have:((k:Int) == -1)=false:=beq_eq_false_iff_ne.2 (by omega)
    simp only [this,Bool.false_eq_true,if_false,Option.map_some]
    rfl
theorem pZ {n:Nat} (hn:n<256) (s:KK):ck s ⟨#[UInt8.ofNat n]⟩=some (match mS (n:Int) (ao s) with | none => -1 | some e=>(e:Int)):=by
 unfold ck
 have:=pn hn s.data.toList
 simp only [this]
 rfl
def pb (c:Int):List Int→List (List Int)
 | []=>[[]]
 | x::l=>if x=c then []::pb c l else match pb c l with
  | []=>[[x]]
  | p::ps=>(x::p)::ps
theorem yJ {c:Int}:∀ {l:List Int},c ∉ l→pb c l=[l]
 | [],_=>rfl
 | x::l,h=>by
  simp only [List.mem_cons,not_or] at h
  unfold pb
  rw [if_neg (fun e=>h.1 e.symm),yJ h.2]
theorem xY {c:Int}:∀ {p r:List Int},c ∉ p→pb c (p++c::r)=p::pb c r
 | [],r,_=>by simp [pb]
 | x::p,r,h=>by
  simp only [List.mem_cons,not_or] at h
  rw [List.cons_append]
  conv=>lhs; unfold pb
  rw [if_neg (fun e=>h.1 e.symm),xY h.2]
def vj {X S O:Type} (step:X→S→Option (S⊕O)):List X→S→Option (S⊕O)
 | [],s=>some (.inl s)
 | x::l,s=>match step x s with
  | none=>none
  | some (.inl s')=>vj step l s'
  | some (.inr o)=>some (.inr o)
def sQ (c:Int) (s:KK):List KK:=(pb c (ao s)).map dw
theorem oD {n:Int} (h0 : -9223372036854775808≤n) (h1:n<9223372036854775808):some (IntKind.i64.wrap n)=some n:=by rw [eB h0 h1]
theorem qy {S O:Type} (n:Nat) (hn:n<256) (step:KK→S→Option (S⊕O)) (s:KK) (st:S) (hs:s.size<4611686018427387904) (r:S⊕O) (hr:vj step (sQ (n:Int) s) st=some r) :
  fW (S:=S) (O:=O) (fun Y st=>bu Y ⟨#[UInt8.ofNat n]⟩ s 0 st) step st=some r:=by
 unfold fW bu
 refine au rfl ?_
 have key:∀ (k:Nat) (s:KK) (st:S) (fuel:Nat),s.size=k→k<4611686018427387904→k<fuel→vj step (sQ (n:Int) s) st=some r →
   aA (S:=(KK×(S⊕O))) (A:=S⊕O)
    (bl (S:=(KK×(S⊕O))) (O:=(KK×(S⊕O))⊕(S⊕O)) (fun ((s37,s38):KK×(S⊕O)) =>
     (ck s37 ⟨#[UInt8.ofNat n]⟩).bind fun v25 =>
     cond ((decide (v25<0)))
      (some (.inr (.inl (s37,s38))))
      ((some (IntKind.i64.wrap (v25+0))).bind fun v27 =>
      (jj s37 0 v27).bind fun v28 =>
      (iL step v28 s38).bind fun v29 =>
      cond ((!v29.2))
       (some (.inr (.inr (v29.1))))
       ((some (IntKind.i64.wrap (v25+((⟨#[UInt8.ofNat n]⟩:KK).size:Int)))).bind fun v31 =>
       (jj s37 v31 (s37.size:Int)).bind fun v32 =>
       some (.inl (v32,v29.1)))))
     fuel (s,.inl st))
    (fun ((s41,s42):KK×(S⊕O)) =>
     (iL step s41 s42).bind fun v51 =>
     some (v51.1)) some=some r:=by
  intro k
  induction k using Nat.strongRecOn with
  | _ k ih =>
   intro s st fuel hk hb hf hr
   obtain ⟨f,rfl⟩:∃ f,fuel=f+1:=⟨fuel-1,by omega⟩
   cases hi:mS (n:Int) (ao s) with
   | none =>
    rw [gX (o := .inl (s,.inl st)) (by
     refine aX (pZ hn s) ?_
     rw [hi]
     exact aL rfl rfl)]
    have h1:sQ (n:Int) s=[s]:=by
     unfold sQ
     rw [yJ (uj.1 hi)]
     simp [nz]
    rw [h1] at hr
    simp only [vj] at hr
    show ((iL step s (.inl st)).bind fun v51=>some (v51.1))=some r
    simp only [iL]
    cases hst:step s st with
    | none=>rw [hst] at hr; cases hr
    | some u =>
     rw [hst] at hr
     cases u with
     | inl s'=>simpa using hr
     | inr o=>simpa using hr
   | some e =>
    obtain ⟨h1,h2,h3⟩:=nK hi
    rw [aD] at h1
    have h4:sQ (n:Int) s=dw ((ao s).take e)::sQ (n:Int) (dw ((ao s).drop (e+1))):=by
     unfold sQ
     rw [fQ (fV (cG s) _)]
     conv=>lhs; rw [h2]
     rw [xY h3,List.map_cons]
    rw [h4] at hr
    simp only [vj] at hr
    have e1:jj s 0 (e:Int)=some (dw ((ao s).take e)):=by
     have:=nb (s:=s) (a:=0) (b:=e) (by omega) (by omega)
     simpa using this
    have e2:jj s ((e:Int)+1) (s.size:Int)=some (dw ((ao s).drop (e+1))):=by
     have:=nb (s:=s) (a:=e+1) (b:=s.size) (by omega) (by omega)
     rw [List.take_of_length_le (by simp [aD])] at this
     simpa using this
    have w1:some (IntKind.i64.wrap ((e:Int)+0))=some (e:Int):=by rw [oD (by omega) (by omega)]; simp
    have w2:some (IntKind.i64.wrap ((e:Int)+((⟨#[UInt8.ofNat n]⟩:KK).size:Int)))=some ((e:Int)+1):=by
     show some (IntKind.i64.wrap ((e:Int)+1))=_
     rw [oD (by omega) (by omega)]
    have hsz:(dw ((ao s).drop (e+1))).size=s.size-(e+1):=by rw [fm,List.length_drop,aD]
    cases hst:step (dw ((ao s).take e)) st with
    | none=>rw [hst] at hr; cases hr
    | some u =>
     rw [hst] at hr
     cases u with
     | inl s' =>
      rw [lw (s':=(dw ((ao s).drop (e+1)),.inl s')) (by
       refine aX (pZ hn s) ?_
       rw [hi]
       refine au (decide_eq_false (by show ¬ ((e:Int)<0); omega)) (aX w1 (aX e1 (aX (x:=(.inl s',true)) (by simp [iL,hst]) (au rfl (aX w2 (aX e2 rfl))))))
       )]
      exact ih _ (by rw [hsz]; omega) _ s' f rfl (by omega) (by omega) hr
     | inr o =>
      rw [gX (o := .inr (.inr o)) (by
       refine aX (pZ hn s) ?_
       rw [hi]
       exact au (decide_eq_false (by show ¬ ((e:Int)<0); omega)) (aX w1 (aX e1 (aX (x:=(.inr o,false)) (by simp [iL,hst]) (aL rfl rfl))))
       )]
      exact hr
 exact key _ s st dH rfl hs (by unfold dH; omega) hr
def JQ (c:Int):Bool:=decide (48≤c)&&decide (c≤57)||(decide (65≤c)&&decide (c≤90)||decide (97≤c)&&decide (c≤122))
def GX (c:Int):Bool:=JQ c||c==45
def HU (c:Int):Bool:=JQ c||[33,35,36,37,38,39,42,43,45,47,61,63,94,95,96,123,124,125,126].contains c
def BL (l:List Int):Bool := !l.isEmpty&&(decide (l.length≤63)&&(l.head? != some 45&&(l.getLast? != some 45&&l.all GX)))
def BO (l:List Int):Bool := !l.isEmpty&&l.all HU
def CL (l:List Int):Bool:=decide (l.length≤255)&&(pb 46 l).all BL
def zX (l:List Int):Bool:=decide (l.length≤64)&&(pb 46 l).all BO
theorem yb (p:Int→Bool) (h:(List.range 256).all (fun k=>p (k:Int))=true) {c:Int} (hc:0≤c∧c<256):p c=true:=by
 have:=List.all_eq_true.1 h c.toNat (List.mem_range.2 (by omega))
 rwa [Int.toNat_of_nonneg hc.1] at this
theorem Ak:(List.range 256).all (fun k=>decide (ik ((k:Nat):Int)=some (HU ((k:Nat):Int))))=true:=by kernel_rfl
theorem xH:(List.range 256).all (fun k=>decide (gj ((k:Nat):Int)=some (GX ((k:Nat):Int))))=true:=by kernel_rfl
theorem GU {c:Int} (hc:0≤c∧c<256):ik c=some (HU c):=by
 simpa using yb (fun c=>decide (ik c=some (HU c))) Ak hc
theorem Gc {c:Int} (hc:0≤c∧c<256):gj c=some (GX c):=by
 simpa using yb (fun c=>decide (gj c=some (GX c))) xH hc
theorem nC (l:List Int) (p:Int→Bool):l.all p=true↔∀ i,i<l.length→p (l.getD i 0)=true:=by
 rw [List.all_eq_true]
 constructor
 ·intro h i hi
  rw [List.getD_eq_getElem?_getD,List.getElem?_eq_getElem hi]
  exact h _ (List.getElem_mem hi)
 ·intro h x hx
  obtain ⟨i,hi,rfl⟩:=List.getElem_of_mem hx
  have:=h i hi
  rw [List.getD_eq_getElem?_getD,List.getElem?_eq_getElem hi] at this
  exact this
theorem Av {s:KK} {i:Nat} (h:i<s.size):gf s (i:Int)=some ((ao s).getD i 0):=by
 rw [BZ h,List.getD_eq_getElem?_getD,List.getElem?_eq_getElem (by rw [aD]; exact h)]; rfl
theorem tP (s:KK) {i:Nat} (h:i<s.size):0≤(ao s).getD i 0∧(ao s).getD i 0<256:=by
 rw [List.getD_eq_getElem?_getD,List.getElem?_eq_getElem (by rw [aD]; exact h)]
 exact cG s _ (List.getElem_mem _)
theorem vR {g:Int→Option Bool} {p:Int→Bool} (s:KK) (hs:s.size<4611686018427387904) (hg:∀ c,0≤c∧c<256→g c=some (p c)) :
  aA (S:=(Unit)) (A:=Bool)
  (bl (S:=(Int)) (O:=(Unit)⊕Bool) (fun (s9:Int) =>
   cond ((decide (s9<(s.size:Int))))
    ((gf s s9).bind fun v2 =>
    (g v2).bind fun v3 =>
    cond ((!v3))
     (some (.inr (.inr (false))))
     ((some (IntKind.i64.wrap (s9+1))).bind fun v5 =>
     some (.inl v5)))
    (some (.inr (.inl ()))))
   dH 0)
  (fun (():Unit) =>
   some (true)) some=some ((ao s).all p):=by
 have hl:=wP (R:=Bool) (f:=fun (s9:Int) =>
   cond ((decide (s9<(s.size:Int))))
    ((gf s s9).bind fun v2 =>
    (g v2).bind fun v3 =>
    cond ((!v3))
     (some (.inr (.inr (false))))
     ((some (IntKind.i64.wrap (s9+1))).bind fun v5 =>
     some (.inl v5)))
    (some (.inr (.inl ())))) (fun i=>p ((ao s).getD i 0)) s.size false (fuel:=dH) (by unfold dH; omega)
  (fun i hi hp=>aL (decide_eq_true (by omega)) (aX (Av hi) (aX (hg _ (tP s hi)) (au (by simp only [hp]; rfl) (aX (by rw [tj (by omega)]) rfl)))))
  (fun i hi hp=>aL (decide_eq_true (by omega)) (aX (Av hi) (aX (hg _ (tP s hi)) (aL (by simp only [hp]; rfl) rfl))))
  (au (decide_eq_false (by omega)) rfl)
 rw [hl]
 have hiff:=nC (ao s) p
 rw [aD] at hiff
 by_cases hall:∀ i,i<s.size→p ((ao s).getD i 0)=true
 ·rw [if_pos hall,hiff.2 hall]; rfl
 ·rw [if_neg hall]
  cases hq:(ao s).all p
  ·rfl
  ·exact absurd (hiff.1 hq) hall
theorem GP (s:KK):(s.toList==(⟨#[]⟩:KK).toList)=(ao s).isEmpty:=by
 rw [jf,Bool.eq_iff_iff,decide_eq_true_eq,ka]
 simp [ao]
theorem DG (s:KK) (hs:s.size<4611686018427387904):lF s=some (BO (ao s)):=by
 unfold lF BO
 rw [GP]
 cases (ao s).isEmpty
 ·exact bw (s:=(ao s).all HU) (aL rfl (aX (vR s hs fun c hc=>GU hc) rfl)) rfl
 ·exact bw (s:=false) (au rfl rfl) rfl
theorem Ac {l:List Int} (h:l≠[]):l.getLast? = some (l.getD (l.length-1) 0):=by
 have:0<l.length:=List.length_pos_iff.2 h
 rw [List.getLast?_eq_getElem?,List.getD_eq_getElem?_getD,List.getElem?_eq_getElem (by omega)]
 rfl
theorem tv {l:List Int} (h:l≠[]):l.head? = some (l.getD 0 0):=by
 cases l with
 | nil=>exact absurd rfl h
 | cons x l=>rfl
theorem BY (s:KK) (hs:s.size<4611686018427387904):jX s=some (BL (ao s)):=by
 unfold jX BL
 rw [GP]
 cases he:(ao s).isEmpty
 ·have hne:ao s≠[]:=by intro e; rw [e] at he; cases he
  have hpos:0<s.size:=by rw [← aD]; exact List.length_pos_iff.2 hne
  rw [Ac hne,tv hne,aD]
  by_cases h1:s.size≤63
  ·have d1:decide ((s.size:Int)≤63)=true:=decide_eq_true (by omega)
   have c0:=Av (s:=s) (i:=0) hpos
   have c1:=Av (s:=s) (i:=s.size-1) (by omega)
   have e1:((s.size-1:Nat):Int)=(s.size:Int)-1:=by omega
   rw [e1] at c1
   by_cases h2:(ao s).getD 0 0=45
   ·refine bw (s:=false) (aL rfl (aL d1 (aX c0 (au (by rw [h2]; rfl) rfl)))) ?_
    rw [h2]; simp
   ·by_cases h3:(ao s).getD (s.size-1) 0=45
    ·refine bw (s:=false) (aL rfl (aL d1 (aX c0 (aL (by simpa using h2) (aX (oD (by omega) (by omega)) (aX c1 (au (by rw [h3]; rfl) rfl))))))) ?_
     rw [h3]; simp
    ·refine bw (s:=(ao s).all GX) (aL rfl (aL d1 (aX c0 (aL (by simpa using h2) (aX (oD (by omega) (by omega)) (aX c1 (aL (by simpa using h3) (aX (vR s hs fun c hc=>Gc hc) rfl)))))))) ?_
     have x2:(some ((ao s).getD 0 0) != some 45)=true:=by simpa using h2
     have x3:(some ((ao s).getD (s.size-1) 0) != some 45)=true:=by simpa using h3
     rw [x2,x3,decide_eq_true h1]; rfl
  ·refine bw (s:=false) (aL rfl (au (decide_eq_false (by omega)) rfl)) ?_
   rw [decide_eq_false h1]; rfl
 ·exact bw (s:=false) (au rfl rfl) rfl
theorem uc {f:KK→Option Bool} {P:List Int→Bool} (s:KK) (hs:s.size<4611686018427387904) (hf:∀ x,x.size≤s.size→f x=some (P (ao x))) :
  (dA s (⟨#[46]⟩:KK)).bind (fun v1 =>
  aA (S:=(Unit)) (A:=(Unit))
  (fW (S:=(Unit)) (O:=(Unit)) (fun Y st=>Sh.bu Y v1.1 v1.2.1 v1.2.2 st) (fun (x:KK) (():Unit) =>
   (f x).bind fun v2 =>
   cond ((!v2))
    (some (.inr ()))
    (some (.inl ())))
   ())
  (fun (():Unit) =>
   some (true))
  (fun (():Unit) =>
   some (false)))=some ((pb 46 (ao s)).all P):=by
 refine aX (x:=(⟨#[46]⟩,s,0)) rfl ?_
 have hle:∀ (c:Int) (l:List Int),∀ p∈pb c l,p.length≤l.length:=by
  intro c l
  induction l with
  | nil=>intro p hp; simp [pb] at hp; simp [hp]
  | cons x l ih =>
   intro p hp
   unfold pb at hp
   split at hp
   ·simp only [List.mem_cons] at hp
    rcases hp with rfl | hp
    ·simp
    ·have:=ih p hp; simp; omega
   ·split at hp
    ·simp at hp; subst hp; simp
    ·rename_i q qs e
     simp only [List.mem_cons] at hp
     rcases hp with rfl | hp
     ·have:=ih q (by rw [e]; simp); simp; omega
     ·have:=ih p (by rw [e]; simp [hp]); simp; omega
 have hby:∀ (c:Int) (l:List Int),dv l→∀ p∈pb c l,dv p:=by
  intro c l
  induction l with
  | nil=>intro _ p hp; simp [pb] at hp; subst hp; intro x hx; cases hx
  | cons x l ih =>
   intro hb p hp
   have hb':dv l:=fun y hy=>hb y (by simp [hy])
   unfold pb at hp
   split at hp
   ·simp only [List.mem_cons] at hp
    rcases hp with rfl | hp
    ·intro x hx; cases hx
    ·exact ih hb' p hp
   ·split at hp
    ·simp at hp; subst hp; intro y hy; simp at hy; subst hy; exact hb _ (by simp)
    ·rename_i q qs e
     simp only [List.mem_cons] at hp
     rcases hp with rfl | hp
     ·intro y hy
      simp only [List.mem_cons] at hy
      rcases hy with rfl | hy
      ·exact hb _ (by simp)
      ·exact ih hb' q (by rw [e]; simp) y hy
     ·exact ih hb' p (by rw [e]; simp [hp])
 have hfol:∀ l:List (List Int),(∀ p∈l,dv p∧p.length≤s.size)→vj (fun (x:KK) (():Unit) =>
   (f x).bind fun v2 =>
   cond ((!v2))
    (some (.inr ()))
    (some (.inl ()))) (l.map dw) ()=some (if l.all P then .inl () else .inr ()):=by
  intro l
  induction l with
  | nil=>intro _; rfl
  | cons p l ih =>
   intro h
   have hp:=h p (by simp)
   have e1:=hf (dw p) (by rw [fm]; exact hp.2)
   rw [fQ hp.1] at e1
   rw [List.map_cons]
   unfold vj
   simp only [e1,Option.bind_some]
   cases hP:P p
   ·simp [hP]
   ·simp only [Bool.not_true,cond_false,List.all_cons,hP,Bool.true_and]
    exact ih fun q hq=>h q (by simp [hq])
 have:=qy 46 (by omega) (fun (x:KK) (():Unit) =>
   (f x).bind fun v2 =>
   cond ((!v2))
    (some (.inr ()))
    (some (.inl ()))) s () hs _ (hfol (pb 46 (ao s)) fun p hp=>⟨hby _ _ (cG s) p hp,by have:=hle _ _ p hp; rwa [aD] at this⟩)
 change aA (fW (fun Y st=>bu Y ⟨#[UInt8.ofNat 46]⟩ s 0 st) _ ()) _ _=_
 rw [this]
 cases hq:(pb 46 (ao s)).all P
 ·rfl
 ·rfl
theorem Cm (s:KK) (hs:s.size<4611686018427387904):cx s=some (CL (ao s)):=by
 unfold cx CL
 rw [aD]
 by_cases h:s.size≤255
 ·refine bw (s:=(pb 46 (ao s)).all BL) (aL (decide_eq_true (by omega)) (aX (x:=(pb 46 (ao s)).all BL) ?_ rfl)) (by rw [decide_eq_true h]; rfl)
  exact uc s hs fun x hx=>BY x (by omega)
 ·exact bw (s:=false) (au (decide_eq_false (by omega)) rfl) (by rw [decide_eq_false h]; rfl)
theorem FF (s:KK) (hs:s.size<4611686018427387904):kt s=some (zX (ao s)):=by
 unfold kt zX
 rw [aD]
 by_cases h:s.size≤64
 ·refine bw (s:=(pb 46 (ao s)).all BO) (aL (decide_eq_true (by omega)) (aX (x:=(pb 46 (ao s)).all BO) ?_ rfl)) (by rw [decide_eq_true h]; rfl)
  exact uc s hs fun x hx=>DG x (by omega)
 ·exact bw (s:=false) (au (decide_eq_false (by omega)) rfl) (by rw [decide_eq_false h]; rfl)
def Hd (p:T_Path):Bool:=cond p.Kx ((ao p.Ks).isEmpty&&(ao p.Kg).isEmpty) (zX (ao p.Ks)&&CL (ao p.Kg))
structure Small (p:T_Path):Prop where
 l:p.Ks.size<1152921504606846976
 d:p.Kg.size<1152921504606846976
theorem BG (p:T_Path) (h:Small p):dF p=some (cond (Hd p) 0 5):=by
 unfold dF Hd
 have hl:=h.l; have hd:=h.d
 rw [GP,GP]
 cases hn:p.Kx
 ·refine bw (s:=zX (ao p.Ks)&&CL (ao p.Kg)) (aL rfl (aX (FF p.Ks (by omega)) ?_)) ?_
  ·cases zX (ao p.Ks)
   ·rfl
   ·exact aL rfl (aX (Cm p.Kg (by omega)) rfl)
  ·simp only [cond_false]
   cases zX (ao p.Ks)&&CL (ao p.Kg) <;> rfl
 ·refine bw (s:=false) rfl ?_
  simp only [cond_true]
  cases (ao p.Ks).isEmpty <;> cases (ao p.Kg).isEmpty <;> rfl
theorem uM (s p:KK):bC s p=some (decide (ao p <+: ao s)):=by
 unfold bC
 by_cases h:p.size≤s.size
 ·have e:=nb (s:=s) (a:=0) (b:=p.size) (by omega) h
  refine bw (s:=decide (ao p <+: ao s)) (aL (decide_eq_true (by omega)) (aX e ?_)) rfl
  congr 2
  rw [jf]
  congr 1
  rw [ka,fQ (lz (fV (cG s) 0) _),List.prefix_iff_eq_take,aD]
  simp only [List.drop_zero,Nat.sub_zero,eq_iff_iff]
  exact eq_comm
 ·refine bw (s:=false) (au (decide_eq_false (by omega)) rfl) ?_
  rw [decide_eq_false]
  intro hp
  have:=hp.length_le
  rw [aD,aD] at this
  omega
theorem uB (s p:KK):cH s p=some (if ao p <+: ao s then (dw ((ao s).drop p.size),true) else (s,false)):=by
 unfold cH bW
 refine aX (x:=if ao p <+: ao s then (dw ((ao s).drop p.size),true) else (s,false)) (aX (uM s p) ?_) (by split <;> rfl)
 by_cases h:ao p <+: ao s
 ·rw [if_pos h]
  have hl:=h.length_le
  rw [aD,aD] at hl
  have e:=nb (s:=s) (a:=p.size) (b:=s.size) hl (Nat.le_refl _)
  rw [List.take_of_length_le (by simp [aD])] at e
  exact au (by rw [decide_eq_true h]; rfl) (aX e rfl)
 ·rw [if_neg h]
  exact aL (by rw [decide_eq_false h]; rfl) rfl
theorem vn (s p:KK) (hs:s.size<4611686018427387904):bB s p=some (decide (ao p <:+ ao s)):=by
 unfold bB
 by_cases h:p.size≤s.size
 ·have e:=nb (s:=s) (a:=s.size-p.size) (b:=s.size) (by omega) (Nat.le_refl _)
  have w:some (IntKind.i64.wrap ((s.size:Int)-(p.size:Int)))=some ((s.size-p.size:Nat):Int):=by
   rw [oD (by omega) (by omega)]; congr 1; omega
  refine bw (s:=decide (ao p <:+ ao s)) (aL (decide_eq_true (by omega)) (aX w (aX e ?_))) rfl
  congr 2
  rw [jf]
  congr 1
  rw [ka,fQ (lz (fV (cG s) _) _),List.suffix_iff_eq_drop,aD,aD,List.take_of_length_le (by simp [aD])]
  simp only [eq_iff_iff]
  exact eq_comm
 ·refine bw (s:=false) (au (decide_eq_false (by omega)) rfl) ?_
  rw [decide_eq_false]
  intro hp
  have:=hp.length_le
  rw [aD,aD] at this
  omega
theorem vp (s p:KK) (hs:s.size<4611686018427387904):dk s p=some (if ao p <:+ ao s then (dw ((ao s).take (s.size-p.size)),true) else (s,false)):=by
 unfold dk bX
 refine aX (x:=if ao p <:+ ao s then (dw ((ao s).take (s.size-p.size)),true) else (s,false)) (aX (vn s p hs) ?_) (by split <;> rfl)
 by_cases h:ao p <:+ ao s
 ·rw [if_pos h]
  have hl:=h.length_le
  rw [aD,aD] at hl
  have e:=nb (s:=s) (a:=0) (b:=s.size-p.size) (by omega) (by omega)
  have w:some (IntKind.i64.wrap ((s.size:Int)-(p.size:Int)))=some ((s.size-p.size:Nat):Int):=by
   rw [oD (by omega) (by omega)]; congr 1; omega
  refine au (by rw [decide_eq_true h]; rfl) (aX w (aX e rfl))
 ·rw [if_neg h]
  exact aL (by rw [decide_eq_false h]; rfl) rfl
theorem FP {n:Nat} (hn:n<256) (s:KK) (hs:s.size<4611686018427387904):dx s ⟨#[UInt8.ofNat n]⟩=some (match mS (n:Int) (ao s) with
  | some e=>(dw ((ao s).take e),dw ((ao s).drop (e+1)),true)
  | none=>(s,(⟨#[]⟩:KK),false)):=by
 unfold dx cY
 cases hi:mS (n:Int) (ao s) with
 | none =>
  refine aX (x:=(s,(⟨#[]⟩:KK),false)) (aX (pZ hn s) ?_) rfl
  rw [hi]
  exact au rfl rfl
 | some e =>
  obtain ⟨h1,_,_⟩:=nK hi
  rw [aD] at h1
  have e1:jj s 0 (e:Int)=some (dw ((ao s).take e)):=by
   have:=nb (s:=s) (a:=0) (b:=e) (by omega) (by omega)
   simpa using this
  have e2:jj s ((e:Int)+1) (s.size:Int)=some (dw ((ao s).drop (e+1))):=by
   have:=nb (s:=s) (a:=e+1) (b:=s.size) (by omega) (by omega)
   rw [List.take_of_length_le (by simp [aD])] at this
   simpa using this
  have w2:some (IntKind.i64.wrap ((e:Int)+((⟨#[UInt8.ofNat n]⟩:KK).size:Int)))=some ((e:Int)+1):=by
   show some (IntKind.i64.wrap ((e:Int)+1))=_
   rw [oD (by omega) (by omega)]
  refine aX (x:=(dw ((ao s).take e),dw ((ao s).drop (e+1)),true)) (aX (pZ hn s) ?_) rfl
  rw [hi]
  exact aL (decide_eq_true (by show (0:Int)≤(e:Int); omega)) (aX e1 (aX w2 (aX e2 rfl)))
def e0:KK:=⟨#[]⟩
def kx {X S O:Type} (step:X→S→Option (S⊕O)):List X→S→Option (S⊕O)
 | [],s=>some (.inl s)
 | x::l,s=>match step x s with
  | none=>none
  | some (.inl s')=>kx step l s'
  | some (.inr o)=>some (.inr o)
inductive qW:List Int→List (List Int)→List Int→Prop
 | nil {b:List Int} (h:fK b=none):qW b [] b
 | cons {b:List Int} {e:Nat} {ls:List (List Int)} {r:List Int} (h:fK b=some e) (t:qW (b.drop (e+2)) ls r):qW b (b.take e::ls) r
theorem ol {n:Int} (h0 : -9223372036854775808≤n) (h1:n<9223372036854775808):some (IntKind.i64.wrap n)=some n:=by rw [eB h0 h1]
theorem CN {b:List Int} (hb:dv b) (hl:b.length<4294967281) (h:fK b=none):dN b [13,10]=some (b,[],false):=by
 unfold dN
 refine aX (ql hb hl) ?_
 rw [h]
 rfl
theorem vM {b:List Int} (hb:dv b) (hl:b.length<4294967281) {e:Nat} (h:fK b=some e):dN b [13,10]=some (b.take e,b.drop (e+2),true):=by
 have h1:=(jc h).1
 unfold dN
 refine aX (ql hb hl) ?_
 rw [h]
 refine aL (decide_eq_true (by show (0:Int)≤(e:Int); omega)) ?_
 have e1:iZ b 0 (e:Int)=some (b.take e):=by
  have:=mj b (a:=0) (b:=e) (by omega) (by omega)
  simpa using this
 refine aX e1 ?_
 refine aX (x:=((e+2:Nat):Int)) (by
  show some (IntKind.i64.wrap ((e:Int)+2))=_
  rw [ol (by omega) (by omega)]; simp) ?_
 refine aX (x:=b.drop (e+2)) (by
  rw [mj b (by omega) (by omega),List.take_of_length_le (by simp)]) rfl
theorem fT {S O:Type} (step:List Int→S→Option (S⊕O)) {b:List Int} {ls:List (List Int)} {rest:List Int} (H:qW b ls rest) (hb:dv b) (hl:b.length<4294967281) (st:S) (r:S⊕O) (hr:kx step ls st=some r) :
  fW (S:=S) (O:=O) (fun Y st=>da Y b st) step st=some r:=by
 unfold fW da
 have key:∀ (b:List Int) (ls:List (List Int)) (rest:List Int),qW b ls rest→dv b→b.length<4294967281→∀ (fuel:Nat) (st:S),b.length<fuel→kx step ls st=some r →
   aA (S:=(Unit)) (A:=S⊕O)
    (bl (S:=((List Int)×(S⊕O))) (O:=(Unit)⊕(S⊕O)) (fun ((s17,s18):(List Int)×(S⊕O)) =>
     (dN s17 [13,10]).bind fun v1 =>
     aA (S:=(S⊕O)×Bool) (A:=(((List Int)×(S⊕O))⊕((Unit)⊕(S⊕O))))
      (cond ((!v1.2.2))
       (some (.inl (s18,true)))
       ((iL step v1.1 s18).bind fun v2 =>
       some (.inl ((v2.1,(!v2.2))))))
      (fun ((s31,s32):(S⊕O)×Bool) =>
       cond (s32)
        (some (.inr (.inr (s31))))
        (some (.inl (v1.2.1,s31)))) some)
     fuel (b,.inl st))
    (fun (():Unit) =>
     none) some=some r:=by
  intro b ls rest H
  induction H with
  | nil h =>
   intro hb hl fuel st hf hr
   obtain ⟨f,rfl⟩:∃ f,fuel=f+1:=⟨fuel-1,by omega⟩
   rw [gX (o := .inr (.inl st)) (aX (CN hb hl h) rfl)]
   exact hr
  | cons h t ih =>
   rename_i b e ls r'
   intro hb hl fuel st hf hr
   obtain ⟨f,rfl⟩:∃ f,fuel=f+1:=⟨fuel-1,by omega⟩
   have h1:=(jc h).1
   simp only [kx] at hr
   cases hst:step (b.take e) st with
   | none=>rw [hst] at hr; cases hr
   | some u =>
    rw [hst] at hr
    cases u with
    | inl s' =>
     rw [lw (s':=(b.drop (e+2),.inl s')) (aX (vM hb hl h) (bw (s:=((Sum.inl s':S⊕O),false)) (au rfl (aX (x:=((Sum.inl s':S⊕O),true)) (by simp [iL,hst]) rfl)) rfl))]
     exact ih (fV hb _) (by rw [List.length_drop]; omega) f s' (by rw [List.length_drop]; omega) hr
    | inr o =>
     rw [gX (o := .inr (.inr o)) (aX (vM hb hl h) (bw (s:=((Sum.inr o:S⊕O),true)) (au rfl (aX (x:=((Sum.inr o:S⊕O),false)) (by simp [iL,hst]) rfl)) rfl))]
     exact hr
 exact key b ls rest H hb hl dH st (by unfold dH; omega) hr
theorem rR:∀ (n:Nat) (b:List Int),b.length≤n→∃ ls r,qW b ls r
 | n,b,hn=>by
  cases h:fK b with
  | none=>exact ⟨_,_,.nil h⟩
  | some e =>
   have h1:=(jc h).1
   cases n with
   | zero=>omega
   | succ n =>
    obtain ⟨ls,r,H⟩:=rR n (b.drop (e+2)) (by rw [List.length_drop]; omega)
    exact ⟨_,_,.cons h H⟩
def jn:List (List Int)→List Int
 | []=>[]
 | l::ls=>l++13::10::jn ls
theorem Cn:∀ (a b:List (List Int)),jn (a++b)=jn a++jn b
 | [],b=>rfl
 | x::a,b=>by simp [jn,Cn a b]
theorem lJ {b:List Int} {ls:List (List Int)} {r:List Int} (H:qW b ls r):b=jn ls++r:=by
 induction H with
 | nil h=>rfl
 | cons h t ih =>
  have h2:=(jc h).2
  conv=>lhs; rw [h2]
  simp only [jn,List.append_assoc,List.cons_append]
  rw [← ih]
def Ch (l:List Int):Prop:=∀ x∈l,x≠13∧x≠10
theorem Dm {ls:List (List Int)} {t:List Int} {ms:List (List Int)} {r:List Int} (h:∀ l∈ls,Ch l) (H:qW t ms r):qW (jn ls++t) (ls++ms) r:=by
 induction ls with
 | nil=>exact H
 | cons l ls ih =>
  have e:jn (l::ls)++t=l++13::10::(jn ls++t):=by simp [jn]
  have hi:=tt (line:=l) (rest:=jn ls++t) (fun x hx=>(h l (by simp) x hx).1)
  have:=qW.cons (b:=l++13::10::(jn ls++t)) hi (ls:=ls++ms) (r:=r) (by
   have e2:(l++13::10::(jn ls++t)).drop (l.length+2)=jn ls++t:=by
    rw [List.drop_append]; simp
   rw [e2]
   exact ih fun x hx=>h x (by simp [hx]))
  rw [e]
  have e3:(l++13::10::(jn ls++t)).take l.length=l:=by simp
  rw [e3] at this
  exact this
theorem Ey:qW [] [] [] := .nil rfl
theorem FX {ls:List (List Int)} (h:∀ l∈ls,Ch l):qW (jn ls) ls []:=by
 have:=Dm h Ey
 simpa using this
theorem oU:∀ {l:List Int},Ch l→jd l = -1
 | [],_=>rfl
 | x::l,h=>by
  have hx:=h x (by simp)
  unfold jd
  rw [if_neg (by rintro (e | e); exact hx.1 e; exact hx.2 e),if_pos (oU fun y hy=>h y (by simp [hy]))]
theorem re:∀ {l:List Int},¬ Ch l→0≤jd l
 | [],h=>absurd (fun x hx=>by simp at hx) h
 | x::l,h=>by
  unfold jd
  by_cases hx:x=13∨x=10
  ·rw [if_pos hx]; omega
  ·rw [if_neg hx]
   have:=re (l:=l) (fun hc=>h fun y hy=>by
    rcases List.mem_cons.1 hy with rfl | hy
    ·exact ⟨fun e=>hx (.inl e),fun e=>hx (.inr e)⟩
    ·exact hc y hy)
   rw [if_neg (by omega)]; omega
theorem xr {l:List Int} (hb:dv l) (hl:l.length<4294967281):bD l (⟨#[13,10]⟩:KK)=some (decide (0≤jd l)):=by
 unfold bD fJ
 rw [if_pos ⟨rfl,hl,List.all_eq_true.2 fun x hx=>decide_eq_true (hb x hx)⟩]
 rfl
def gz:List (List Int)→Nat
 | []=>0
 | l::ls=>l.length+2+gz ls
theorem kV:∀ ls,(jn ls).length=gz ls
 | []=>rfl
 | l::ls=>by simp [jn,gz,kV ls]; omega
open Classical in
theorem ui:∀ (ls:List (List Int)) (s:Nat),(∀ l∈ls,dv l)→s+gz ls<4294967281 →
  kx (S:=Int) (O:=Int) (fun (x:(List Int)) (s8:Int) =>
   (bD x (⟨#[13,10]⟩:KK)).bind fun v2 =>
   cond (v2)
    (some (.inr s8))
    ((some (IntKind.i64.wrap ((x.length:Int)+2))).bind fun v4 =>
    (some (IntKind.i64.wrap (s8+v4))).bind fun v5 =>
    some (.inl v5))) ls (s:Int)=if ∀ l∈ls,Ch l then some (.inl ((s+gz ls:Nat):Int)) else (kx (S:=Int) (O:=Int) (fun (x:(List Int)) (s8:Int) =>
   (bD x (⟨#[13,10]⟩:KK)).bind fun v2 =>
   cond (v2)
    (some (.inr s8))
    ((some (IntKind.i64.wrap ((x.length:Int)+2))).bind fun v4 =>
    (some (IntKind.i64.wrap (s8+v4))).bind fun v5 =>
    some (.inl v5))) ls (s:Int)):=by
 intro ls
 induction ls with
 | nil=>intro s _ _; simp [kx,gz]
 | cons l ls ih =>
  intro s hb hs
  by_cases h:∀ m∈l::ls,Ch m
  ·rw [if_pos h]
   simp only [gz] at hs
   have e:((bD l (⟨#[13,10]⟩:KK)).bind fun v2 =>
   cond (v2)
    (some (.inr (s:Int)))
    ((some (IntKind.i64.wrap ((l.length:Int)+2))).bind fun v4 =>
    (some (IntKind.i64.wrap ((s:Int)+v4))).bind fun v5 =>
    some (.inl v5)):Option (Int⊕Int))=some (.inl ((s+(l.length+2):Nat):Int)):=by
    refine aX (xr (hb l (by simp)) (by omega)) ?_
    rw [oU (h l (by simp))]
    refine au rfl (aX (ol (by omega) (by omega)) (aX (ol (by omega) (by omega)) ?_))
    simp
   simp only [kx]
   rw [e]
   have:=ih (s+(l.length+2)) (fun m hm=>hb m (by simp [hm])) (by omega)
   rw [if_pos fun m hm=>h m (by simp [hm])] at this
   simp only [gz]
   rw [show s+(l.length+2+gz ls)=s+(l.length+2)+gz ls by omega]
   exact this
  ·rw [if_neg h]
theorem Ar:∀ (ls:List (List Int)) (s:Nat),(∀ l∈ls,dv l)→s+gz ls<4294967281→(¬ ∀ l∈ls,Ch l) →
  ∃ o,kx (S:=Int) (O:=Int) (fun (x:(List Int)) (s8:Int) =>
   (bD x (⟨#[13,10]⟩:KK)).bind fun v2 =>
   cond (v2)
    (some (.inr s8))
    ((some (IntKind.i64.wrap ((x.length:Int)+2))).bind fun v4 =>
    (some (IntKind.i64.wrap (s8+v4))).bind fun v5 =>
    some (.inl v5))) ls (s:Int)=some (.inr o):=by
 intro ls
 induction ls with
 | nil=>intro s _ _ h; exact absurd (fun x hx=>by simp at hx) h
 | cons l ls ih =>
  intro s hb hs h
  simp only [gz] at hs
  by_cases hc:Ch l
  ·have e:((bD l (⟨#[13,10]⟩:KK)).bind fun v2 =>
   cond (v2)
    (some (.inr (s:Int)))
    ((some (IntKind.i64.wrap ((l.length:Int)+2))).bind fun v4 =>
    (some (IntKind.i64.wrap ((s:Int)+v4))).bind fun v5 =>
    some (.inl v5)):Option (Int⊕Int))=some (.inl ((s+(l.length+2):Nat):Int)):=by
    refine aX (xr (hb l (by simp)) (by omega)) ?_
    rw [oU hc]
    refine au rfl (aX (ol (by omega) (by omega)) (aX (ol (by omega) (by omega)) ?_))
    simp
   obtain ⟨o,ho⟩:=ih (s+(l.length+2)) (fun m hm=>hb m (by simp [hm])) (by omega) (fun hh=>h fun m hm=>by
    rcases List.mem_cons.1 hm with rfl | hm
    ·exact hc
    ·exact hh m hm)
   refine ⟨o,?_⟩
   simp only [kx]
   rw [e]
   exact ho
  ·refine ⟨(s:Int),?_⟩
   simp only [kx]
   rw [xr (hb l (by simp)) (by omega),decide_eq_true (re hc)]
   rfl
theorem lE {b:List Int} {ls:List (List Int)} {r:List Int} (H:qW b ls r) (hb:dv b):∀ l∈ls,dv l:=by
 induction H with
 | nil h=>intro l hl; simp at hl
 | cons h t ih =>
  intro l hl
  rcases List.mem_cons.1 hl with rfl | hl
  ·exact lz hb _
  ·exact ih (fV hb _) l hl
theorem Fm {ls:List (List Int)} (h:∀ l∈ls,dv l):dv (jn ls):=by
 induction ls with
 | nil=>intro l hl; simp [jn] at hl
 | cons m ls ih =>
  intro x hx
  simp only [jn,List.mem_append,List.mem_cons] at hx
  rcases hx with hx | rfl | rfl | hx
  ·exact h m (by simp) x hx
  ·omega
  ·omega
  ·exact ih (fun l hl=>h l (by simp [hl])) x hx
theorem Cl {ls:List (List Int)} (h:∀ l∈ls,Ch l) (hb:∀ l∈ls,dv l) (hl:gz ls<4294967281):dr (jn ls)=some 0:=by
 unfold dr cU
 refine aX rfl ?_
 refine bw (s:=((0+gz ls:Nat):Int)) (fT _ (FX h) (Fm hb) (by rw [kV]; exact hl) _ _ (by
  have:=ui ls 0 hb (by omega)
  rw [if_pos h] at this
  exact this)) ?_
 refine au ?_ rfl
 rw [kV]; simp
theorem zJ {b:List Int} (hb:dv b) (hl:b.length<4294967281):(dr b=some 5)∨∃ ls,(∀ l∈ls,Ch l)∧(∀ l∈ls,dv l)∧b=jn ls:=by
 obtain ⟨ls,r,H⟩:=rR b.length b (Nat.le_refl _)
 have hj:=lJ H
 have hlen:b.length=gz ls+r.length:=by rw [hj,List.length_append,kV]
 by_cases h:∀ l∈ls,Ch l
 ·cases r with
  | nil=>exact .inr ⟨ls,h,lE H hb,by simpa using hj⟩
  | cons y r =>
   left
   unfold dr cU
   refine aX rfl ?_
   refine bw (s:=((0+gz ls:Nat):Int)) (fT _ H hb hl _ _ (by
    have:=ui ls 0 (lE H hb) (by omega)
    rw [if_pos h] at this
    exact this)) ?_
   refine aL ?_ rfl
   simp only [List.length_cons] at hlen
   rw [bne_iff_ne]; omega
 ·left
  obtain ⟨o,ho⟩:=Ar ls 0 (lE H hb) (by omega) h
  unfold dr cU
  refine aX rfl ?_
  exact DE (a:=o) (fT _ H hb hl _ _ ho) rfl
end Go.Abs.Sh
