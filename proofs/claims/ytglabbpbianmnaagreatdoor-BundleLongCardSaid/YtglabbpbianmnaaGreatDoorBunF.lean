import Derived.Test.YtglabbpbianmnaaGreatDoorSh
import Derived.KernelRfl
import Derived.Lib.ItoaNum
set_option linter.unusedVariables false
set_option linter.unusedSimpArgs false
set_option linter.unusedSectionVars false
namespace Go.Abs.Sh
set_option linter.unusedVariables false
theorem wrap_i64 {n:Int} (h0 : -9223372036854775808≤n) (h1:n<9223372036854775808):IntKind.i64.wrap n=n:=by
 simp only [IntKind.wrap,IntKind.bits,IntKind.signed]
 have e:(2:Int) ^ 64=18446744073709551616:=by decide
 have e2:(2:Int) ^ (64-1)=9223372036854775808:=by decide
 simp only [e,e2,Bool.true_and,decide_eq_true_eq]
 split <;> omega
theorem ixO_of {i n:Nat} (h:i<n):ixO (i:Int) n=some i:=by simp [ixO]; omega
theorem getO_of {A:Type} {l:List A} {i:Nat} (h:i<l.length):getO l i=some l[i]:=by simp [getO,h]
theorem bnd {A R:Type} {m:Option A} {f:A→Option R} {x:A} {r:Option R} (h:m=some x) (h2:f x=r):m.bind f=r:=by subst h; exact h2
theorem bndL {S A R:Type} {m:Option (S⊕A)} {k:S→Option R} {e:A→Option R} {s:S} {r:Option R} (h:m=some (.inl s)) (h2:k s=r):bindS m k e=r:=by subst h; exact h2
theorem bndR {S A R:Type} {m:Option (S⊕A)} {k:S→Option R} {e:A→Option R} {a:A} {r:Option R} (h:m=some (.inr a)) (h2:e a=r):bindS m k e=r:=by subst h; exact h2
theorem loop_next {S O:Type} {step:S→Option (S⊕O)} {n:Nat} {s s':S} (h:step s=some (.inl s')):loopF step (n+1) s=loopF step n s':=by
 simp only [loopF,h]
theorem loop_exit {S O:Type} {step:S→Option (S⊕O)} {n:Nat} {s:S} {o:O} (h:step s=some (.inr o)):loopF step (n+1) s=some o:=by
 simp only [loopF,h]
theorem cnd_f {R:Type} {c:Bool} {x y r:R} (hc:c=false) (h:y=r):cond c x y=r:=by subst hc; exact h
theorem cnd_t {R:Type} {c:Bool} {x y r:R} (hc:c=true) (h:x=r):cond c x y=r:=by subst hc; exact h
theorem loop_run {S O:Type} {f:S→Option (S⊕O)} (st:Nat→S) {o:O}:∀ (n fuel:Nat),n<fuel→(∀ i,i<n→f (st i)=some (.inl (st (i+1))))→f (st n)=some (.inr o)→loopF f fuel (st 0)=some o:=by
 intro n
 induction n generalizing st with
 | zero =>
  intro fuel hf _ he
  obtain ⟨k,rfl⟩:∃ k,fuel=k+1:=⟨fuel-1,by omega⟩
  exact loop_exit he
 | succ n ih =>
  intro fuel hf hs he
  obtain ⟨k,rfl⟩:∃ k,fuel=k+1:=⟨fuel-1,by omega⟩
  rw [loop_next (hs 0 (by omega))]
  exact ih (fun i=>st (i+1)) k (by omega) (fun i hi=>hs (i+1) (by omega)) he
theorem loop_from {S O:Type} {f:S→Option (S⊕O)} {s:S} (st:Nat→S) {o:O} (n fuel:Nat) (h0:st 0=s) (hn:n<fuel) (hs:∀ i,i<n→f (st i)=some (.inl (st (i+1)))) (he:f (st n)=some (.inr o)):loopF f fuel s=some o:=by
 subst h0; exact loop_run st n fuel hn hs he
theorem first_fail (p:Nat→Bool):∀ n,(∀ i,i<n→p i=true)∨∃ k,k<n∧(∀ i,i<k→p i=true)∧p k=false
 | 0 => .inl fun i h=>absurd h (Nat.not_lt_zero i)
 | n+1=>by
  rcases first_fail p n with h | ⟨k,h1,h2,h3⟩
  ·cases hp:p n
   ·exact .inr ⟨n,by omega,h,hp⟩
   ·refine .inl fun i hi => ?_
    by_cases h':i=n
    ·subst h'; exact hp
    ·exact h i (by omega)
  ·exact .inr ⟨k,by omega,h2,h3⟩
theorem loop_all {R:Type} {f:Int→Option (Int⊕(Unit⊕R))} (p:Nat→Bool) (n:Nat) (r:R) {fuel:Nat} (hf:n<fuel) (hgo:∀ i,i<n→p i=true→f (i:Int)=some (.inl ((i+1:Nat):Int))) (hno:∀ i,i<n→p i=false→f (i:Int)=some (.inr (.inr r))) (hend:f (n:Int)=some (.inr (.inl ()))) :
  loopF f fuel 0=some (if ∀ i,i<n→p i=true then .inl () else .inr r):=by
 rcases first_fail p n with h | ⟨k,h1,h2,h3⟩
 ·rw [if_pos h]
  exact loop_from (fun i=>(i:Int)) n fuel rfl hf (fun i hi=>hgo i hi (h i hi)) hend
 ·rw [if_neg fun h=>by rw [h k h1] at h3; cases h3]
  exact loop_from (fun i=>(i:Int)) k fuel rfl (by omega) (fun i hi=>hgo i (by omega) (h2 i hi)) (hno k h1 h3)
theorem wrap_nat (n:Nat) (h:n<9223372036854775808):IntKind.i64.wrap (n:Int)=(n:Int):=wrap_i64 (by omega) (by omega)
theorem wrap_succ {n:Nat} (h:n<4611686018427387904):IntKind.i64.wrap ((n:Int)+1)=((n+1:Nat):Int):=by rw [wrap_i64 (by omega) (by omega)]; simp
theorem some_wrap {n:Int} (h0 : -9223372036854775808≤n) (h1:n<9223372036854775808):some (IntKind.i64.wrap n)=some n:=by rw [wrap_i64 h0 h1]
theorem quo_nat (a b:Nat) (hb:0<b) (ha:a<9223372036854775808):quoO .i64 (a:Int) (b:Int)=some ((a / b:Nat):Int):=by
 simp only [quoO]
 have:a / b≤a:=Nat.div_le_self a b
 rw [if_neg (by omega),Int.tdiv_eq_ediv_of_nonneg (by omega)]
 have e:(a:Int) / (b:Int)=((a / b:Nat):Int):=rfl
 rw [e,wrap_nat _ (by omega)]
theorem rem_nat (a b:Nat) (hb:0<b):remO (a:Int) (b:Int)=some ((a % b:Nat):Int):=by
 simp only [remO]
 rw [if_neg (by omega),Int.tmod_eq_emod_of_nonneg (by omega)]
 rfl
theorem sli_nat {A:Type} (l:List A) {a b:Nat} (h1:a≤b) (h2:b≤l.length):sliO l (a:Int) (b:Int)=some ((l.drop a).take (b-a)):=by
 unfold sliO
 rw [if_pos (by omega)]
 simp only [Int.toNat_natCast]
theorem app_of {A:Type} {k:Nat} {l m:List A} (h:(l.length+m.length) * k≤140737488355328) (h1:l.length+m.length≤140737488355328):appO k l m=some (l++m):=by
 unfold appO; rw [if_pos ⟨h,h1⟩]
theorem byt_sbytes (s:ByteArray):byt (sbytes s):=by
 intro x hx
 simp only [sbytes,List.mem_map] at hx
 obtain ⟨b,_,rfl⟩:=hx
 have:=b.toNat_lt
 omega
theorem bstr_sbytes (s:ByteArray):bstr (sbytes s)=s:=by
 obtain ⟨⟨l⟩⟩:=s
 simp only [bstr,sbytes,List.map_map]
 congr 2
 conv=>rhs; rw [← List.map_id l]
 apply List.map_congr_left
 intro b _
 simp
theorem sbytes_bstr {l:List Int} (h:byt l):sbytes (bstr l)=l:=by
 simp only [bstr,sbytes,List.map_map]
 conv=>rhs; rw [← List.map_id l]
 apply List.map_congr_left
 intro x hx
 have:=h x hx
 simp only [Function.comp,id_eq,UInt8.toNat_ofNat']
 omega
theorem sbytes_inj {s t:ByteArray} (h:sbytes s=sbytes t):s=t:=by rw [← bstr_sbytes s,h,bstr_sbytes]
theorem bstr_size (l:List Int):(bstr l).size=l.length:=by simp [bstr,ByteArray.size]
theorem byt_drop {l:List Int} (h:byt l) (n:Nat):byt (l.drop n):=fun x hx=>h x (List.mem_of_mem_drop hx)
theorem byt_take {l:List Int} (h:byt l) (n:Nat):byt (l.take n):=fun x hx=>h x (List.mem_of_mem_take hx)
theorem byt_app {l m:List Int} (h:byt l) (k:byt m):byt (l++m):=by
 intro x hx
 rcases List.mem_append.1 hx with h1 | h1
 ·exact h x h1
 ·exact k x h1
theorem chr_of {s:ByteArray} {i:Nat} (h:i<s.size):chrO s (i:Int)=some ((sbytes s)[i]'(by rw [sbytes_len]; exact h)):=by
 unfold chrO
 rw [if_pos (by omega)]
 have h':i<s.data.toList.length:=by simpa using h
 simp only [Int.toNat_natCast,sbytes,List.getElem?_eq_getElem h',Option.map_some,List.getElem_map]
theorem sub_of {s:ByteArray} {a b:Nat} (h1:a≤b) (h2:b≤s.size):subO s (a:Int) (b:Int)=some (bstr (((sbytes s).drop a).take (b-a))):=by
 unfold subO
 rw [if_pos (by omega)]
 simp only [Int.toNat_natCast]
 congr 1
 apply sbytes_inj
 rw [sbytes_bstr (byt_take (byt_drop (byt_sbytes s) a) _)]
 simp only [sbytes,ByteArray.data_extract,Array.toList_extract,List.extract_eq_take_drop,List.map_take,List.map_drop]
theorem cat_of {s t:ByteArray} (h:s.size+t.size≤9223372036854775807):catO s t=some (bstr (sbytes s++sbytes t)):=by
 unfold catO
 rw [if_pos h]
 congr 1
 apply sbytes_inj
 rw [sbytes_bstr (byt_app (byt_sbytes s) (byt_sbytes t))]
 simp [sbytes]
theorem toList_beq (s t:ByteArray):(s.toList==t.toList)=decide (s=t):=by
 rw [← beq_toListBytes,Bool.eq_iff_iff,decide_eq_true_eq]
 obtain ⟨a⟩:=s
 obtain ⟨b⟩:=t
 show (a==b)=true↔_
 rw [beq_iff_eq]
 exact ⟨fun h=>by rw [h],fun h=>by injection h⟩
theorem str_eq_iff {s t:ByteArray}:s=t↔sbytes s=sbytes t:=⟨fun h=>h ▸ rfl,sbytes_inj⟩
def idx1 (c:Int):List Int→Option Nat
 | []=>none
 | x::l=>if x=c then some 0 else (idx1 c l).map (· + 1)
theorem idx1_none {c:Int}:∀ {l:List Int},idx1 c l=none↔c ∉ l
 | []=>by simp [idx1]
 | x::l=>by
  have ih:=idx1_none (c:=c) (l:=l)
  unfold idx1
  by_cases h:x=c
  ·simp [h]
  ·rw [if_neg h]
   simp only [Option.map_eq_none_iff,ih,List.mem_cons,not_or]
   exact ⟨fun h2=>⟨fun e=>h e.symm,h2⟩,fun h2=>h2.2⟩
theorem idx1_some {c:Int}:∀ {l:List Int} {e:Nat},idx1 c l=some e→e+1≤l.length∧l=l.take e++c::l.drop (e+1)∧c ∉ l.take e
 | [],e,h=>by simp [idx1] at h
 | x::l,e,h=>by
  unfold idx1 at h
  split at h
  ·rename_i hx
   cases h; subst hx; simp
  ·rename_i hx
   cases hi:idx1 c l with
   | none=>simp [hi] at h
   | some k =>
    simp [hi] at h
    subst h
    obtain ⟨h1,h2,h3⟩:=idx1_some hi
    refine ⟨by simp; omega,?_,?_⟩
    ·simp only [List.take_succ_cons,List.cons_append,List.drop_succ_cons]
     rw [← h2]
    ·simp only [List.take_succ_cons,List.mem_cons,not_or]
     exact ⟨fun e=>hx e.symm,h3⟩
theorem indexByte_eq {n:Nat} (hn:n<256):∀ (l:List UInt8),Lib.indexByte l (UInt8.ofNat n)=match idx1 (n:Int) (l.map fun b=>(b.toNat:Int)) with | none => -1 | some e=>(e:Int)
 | []=>rfl
 | b::l=>by
  have ih:=indexByte_eq hn l
  unfold Lib.indexByte
  rw [List.map_cons]
  unfold idx1
  have hb:(b==UInt8.ofNat n)=decide ((b.toNat:Int)=(n:Int)):=by
   rw [Bool.eq_iff_iff,decide_eq_true_eq,beq_iff_eq]
   constructor
   ·rintro rfl; simp; omega
   ·intro h
    apply UInt8.toNat_inj.1
    simp; omega
  rw [hb]
  by_cases h:(b.toNat:Int)=(n:Int)
  ·rw [if_pos (decide_eq_true h),if_pos h]; rfl
  ·rw [if_neg (by simpa using h),if_neg h,ih]
   cases idx1 (n:Int) (l.map fun b=>(b.toNat:Int)) with
   | none=>rfl
   | some k =>
    have:((k:Int) == -1)=false:=beq_eq_false_iff_ne.2 (by omega)
    simp only [this,Bool.false_eq_true,if_false,Option.map_some]
    rfl
theorem sIndex {n:Nat} (hn:n<256) (s:ByteArray):strings_Index s ⟨#[UInt8.ofNat n]⟩=some (match idx1 (n:Int) (sbytes s) with | none => -1 | some e=>(e:Int)):=by
 unfold strings_Index
 have:=indexByte_eq hn s.data.toList
 simp only [this]
 rfl
def spl (c:Int):List Int→List (List Int)
 | []=>[[]]
 | x::l=>if x=c then []::spl c l else match spl c l with
  | []=>[[x]]
  | p::ps=>(x::p)::ps
theorem spl_ne (c:Int):∀ l,spl c l≠[]
 | []=>by simp [spl]
 | x::l=>by
  unfold spl
  split
  ·simp
  ·split <;> simp
theorem spl_one {c:Int}:∀ {l:List Int},c ∉ l→spl c l=[l]
 | [],_=>rfl
 | x::l,h=>by
  simp only [List.mem_cons,not_or] at h
  unfold spl
  rw [if_neg (fun e=>h.1 e.symm),spl_one h.2]
theorem spl_app {c:Int}:∀ {p r:List Int},c ∉ p→spl c (p++c::r)=p::spl c r
 | [],r,_=>by simp [spl]
 | x::p,r,h=>by
  simp only [List.mem_cons,not_or] at h
  rw [List.cons_append]
  conv=>lhs; unfold spl
  rw [if_neg (fun e=>h.1 e.symm),spl_app h.2]
def folS {X S O:Type} (step:X→S→Option (S⊕O)):List X→S→Option (S⊕O)
 | [],s=>some (.inl s)
 | x::l,s=>match step x s with
  | none=>none
  | some (.inl s')=>folS step l s'
  | some (.inr o)=>some (.inr o)
def splB (c:Int) (s:ByteArray):List ByteArray:=(spl c (sbytes s)).map bstr
theorem wrap_i {n:Int} (h0 : -9223372036854775808≤n) (h1:n<9223372036854775808):some (IntKind.i64.wrap n)=some n:=by rw [wrap_i64 h0 h1]
theorem split_range {S O:Type} (n:Nat) (hn:n<256) (step:ByteArray→S→Option (S⊕O)) (s:ByteArray) (st:S) (hs:s.size<4611686018427387904) (r:S⊕O) (hr:folS step (splB (n:Int) s) st=some r) :
  rangeS (S:=S) (O:=O) (fun Y st=>strings_splitSeq_1 Y ⟨#[UInt8.ofNat n]⟩ s 0 st) step st=some r:=by
 unfold rangeS strings_splitSeq_1
 refine cnd_f rfl ?_
 have key:∀ (k:Nat) (s:ByteArray) (st:S) (fuel:Nat),s.size=k→k<4611686018427387904→k<fuel→folS step (splB (n:Int) s) st=some r →
   bindS (S:=(ByteArray×(S⊕O))) (A:=S⊕O)
    (loopF (S:=(ByteArray×(S⊕O))) (O:=(ByteArray×(S⊕O))⊕(S⊕O)) (fun ((s37,s38):ByteArray×(S⊕O)) =>
     (strings_Index s37 ⟨#[UInt8.ofNat n]⟩).bind fun v25 =>
     cond ((decide (v25<0)))
      (some (.inr (.inl (s37,s38))))
      ((some (IntKind.i64.wrap (v25+0))).bind fun v27 =>
      (subO s37 0 v27).bind fun v28 =>
      (rangeY step v28 s38).bind fun v29 =>
      cond ((!v29.2))
       (some (.inr (.inr (v29.1))))
       ((some (IntKind.i64.wrap (v25+((⟨#[UInt8.ofNat n]⟩:ByteArray).size:Int)))).bind fun v31 =>
       (subO s37 v31 (s37.size:Int)).bind fun v32 =>
       some (.inl (v32,v29.1)))))
     fuel (s,.inl st))
    (fun ((s41,s42):ByteArray×(S⊕O)) =>
     (rangeY step s41 s42).bind fun v51 =>
     some (v51.1)) some=some r:=by
  intro k
  induction k using Nat.strongRecOn with
  | _ k ih =>
   intro s st fuel hk hb hf hr
   obtain ⟨f,rfl⟩:∃ f,fuel=f+1:=⟨fuel-1,by omega⟩
   cases hi:idx1 (n:Int) (sbytes s) with
   | none =>
    rw [loop_exit (o := .inl (s,.inl st)) (by
     refine bnd (sIndex hn s) ?_
     rw [hi]
     exact cnd_t rfl rfl)]
    have h1:splB (n:Int) s=[s]:=by
     unfold splB
     rw [spl_one (idx1_none.1 hi)]
     simp [bstr_sbytes]
    rw [h1] at hr
    simp only [folS] at hr
    show ((rangeY step s (.inl st)).bind fun v51=>some (v51.1))=some r
    simp only [rangeY]
    cases hst:step s st with
    | none=>rw [hst] at hr; cases hr
    | some u =>
     rw [hst] at hr
     cases u with
     | inl s'=>simpa using hr
     | inr o=>simpa using hr
   | some e =>
    obtain ⟨h1,h2,h3⟩:=idx1_some hi
    rw [sbytes_len] at h1
    have h4:splB (n:Int) s=bstr ((sbytes s).take e)::splB (n:Int) (bstr ((sbytes s).drop (e+1))):=by
     unfold splB
     rw [sbytes_bstr (byt_drop (byt_sbytes s) _)]
     conv=>lhs; rw [h2]
     rw [spl_app h3,List.map_cons]
    rw [h4] at hr
    simp only [folS] at hr
    have e1:subO s 0 (e:Int)=some (bstr ((sbytes s).take e)):=by
     have:=sub_of (s:=s) (a:=0) (b:=e) (by omega) (by omega)
     simpa using this
    have e2:subO s ((e:Int)+1) (s.size:Int)=some (bstr ((sbytes s).drop (e+1))):=by
     have:=sub_of (s:=s) (a:=e+1) (b:=s.size) (by omega) (by omega)
     rw [List.take_of_length_le (by simp [sbytes_len])] at this
     simpa using this
    have w1:some (IntKind.i64.wrap ((e:Int)+0))=some (e:Int):=by rw [wrap_i (by omega) (by omega)]; simp
    have w2:some (IntKind.i64.wrap ((e:Int)+((⟨#[UInt8.ofNat n]⟩:ByteArray).size:Int)))=some ((e:Int)+1):=by
     show some (IntKind.i64.wrap ((e:Int)+1))=_
     rw [wrap_i (by omega) (by omega)]
    have hsz:(bstr ((sbytes s).drop (e+1))).size=s.size-(e+1):=by rw [bstr_size,List.length_drop,sbytes_len]
    cases hst:step (bstr ((sbytes s).take e)) st with
    | none=>rw [hst] at hr; cases hr
    | some u =>
     rw [hst] at hr
     cases u with
     | inl s' =>
      rw [loop_next (s':=(bstr ((sbytes s).drop (e+1)),.inl s')) (by
       refine bnd (sIndex hn s) ?_
       rw [hi]
       refine cnd_f (decide_eq_false (by show ¬ ((e:Int)<0); omega)) (bnd w1 (bnd e1 (bnd (x:=(.inl s',true)) (by simp [rangeY,hst]) (cnd_f rfl (bnd w2 (bnd e2 rfl))))))
       )]
      exact ih _ (by rw [hsz]; omega) _ s' f rfl (by omega) (by omega) hr
     | inr o =>
      rw [loop_exit (o := .inr (.inr o)) (by
       refine bnd (sIndex hn s) ?_
       rw [hi]
       exact cnd_f (decide_eq_false (by show ¬ ((e:Int)<0); omega)) (bnd w1 (bnd e1 (bnd (x:=(.inr o,false)) (by simp [rangeY,hst]) (cnd_t rfl rfl))))
       )]
      exact hr
 exact key _ s st BIG rfl hs (by unfold BIG; omega) hr
def alB (c:Int):Bool:=decide (48≤c)&&decide (c≤57)||(decide (65≤c)&&decide (c≤90)||decide (97≤c)&&decide (c≤122))
def lbB (c:Int):Bool:=alB c||c==45
def atB (c:Int):Bool:=alB c||[33,35,36,37,38,39,42,43,45,47,61,63,94,95,96,123,124,125,126].contains c
def labB (l:List Int):Bool := !l.isEmpty&&(decide (l.length≤63)&&(l.head? != some 45&&(l.getLast? != some 45&&l.all lbB)))
def atmB (l:List Int):Bool := !l.isEmpty&&l.all atB
def domB (l:List Int):Bool:=decide (l.length≤255)&&(spl 46 l).all labB
def locB (l:List Int):Bool:=decide (l.length≤64)&&(spl 46 l).all atmB
theorem of_byte (p:Int→Bool) (h:(List.range 256).all (fun k=>p (k:Int))=true) {c:Int} (hc:0≤c∧c<256):p c=true:=by
 have:=List.all_eq_true.1 h c.toNat (List.mem_range.2 (by omega))
 rwa [Int.toNat_of_nonneg hc.1] at this
theorem atom1_all:(List.range 256).all (fun k=>decide (path_atom_1 ((k:Nat):Int)=some (atB ((k:Nat):Int))))=true:=by kernel_rfl
theorem label1_all:(List.range 256).all (fun k=>decide (path_label_1 ((k:Nat):Int)=some (lbB ((k:Nat):Int))))=true:=by kernel_rfl
theorem atom1 {c:Int} (hc:0≤c∧c<256):path_atom_1 c=some (atB c):=by
 simpa using of_byte (fun c=>decide (path_atom_1 c=some (atB c))) atom1_all hc
theorem label1 {c:Int} (hc:0≤c∧c<256):path_label_1 c=some (lbB c):=by
 simpa using of_byte (fun c=>decide (path_label_1 c=some (lbB c))) label1_all hc
theorem all_iff_get (l:List Int) (p:Int→Bool):l.all p=true↔∀ i,i<l.length→p (l.getD i 0)=true:=by
 rw [List.all_eq_true]
 constructor
 ·intro h i hi
  rw [List.getD_eq_getElem?_getD,List.getElem?_eq_getElem hi]
  exact h _ (List.getElem_mem hi)
 ·intro h x hx
  obtain ⟨i,hi,rfl⟩:=List.getElem_of_mem hx
  have:=h i hi
  rw [List.getD_eq_getElem?_getD,List.getElem?_eq_getElem hi] at this
  exact this
theorem chrD {s:ByteArray} {i:Nat} (h:i<s.size):chrO s (i:Int)=some ((sbytes s).getD i 0):=by
 rw [chr_of h,List.getD_eq_getElem?_getD,List.getElem?_eq_getElem (by rw [sbytes_len]; exact h)]; rfl
theorem getD_byte (s:ByteArray) {i:Nat} (h:i<s.size):0≤(sbytes s).getD i 0∧(sbytes s).getD i 0<256:=by
 rw [List.getD_eq_getElem?_getD,List.getElem?_eq_getElem (by rw [sbytes_len]; exact h)]
 exact byt_sbytes s _ (List.getElem_mem _)
theorem all_loop {g:Int→Option Bool} {p:Int→Bool} (s:ByteArray) (hs:s.size<4611686018427387904) (hg:∀ c,0≤c∧c<256→g c=some (p c)) :
  bindS (S:=(Unit)) (A:=Bool)
  (loopF (S:=(Int)) (O:=(Unit)⊕Bool) (fun (s9:Int) =>
   cond ((decide (s9<(s.size:Int))))
    ((chrO s s9).bind fun v2 =>
    (g v2).bind fun v3 =>
    cond ((!v3))
     (some (.inr (.inr (false))))
     ((some (IntKind.i64.wrap (s9+1))).bind fun v5 =>
     some (.inl v5)))
    (some (.inr (.inl ()))))
   BIG 0)
  (fun (():Unit) =>
   some (true)) some=some ((sbytes s).all p):=by
 have hl:=loop_all (R:=Bool) (f:=fun (s9:Int) =>
   cond ((decide (s9<(s.size:Int))))
    ((chrO s s9).bind fun v2 =>
    (g v2).bind fun v3 =>
    cond ((!v3))
     (some (.inr (.inr (false))))
     ((some (IntKind.i64.wrap (s9+1))).bind fun v5 =>
     some (.inl v5)))
    (some (.inr (.inl ())))) (fun i=>p ((sbytes s).getD i 0)) s.size false (fuel:=BIG) (by unfold BIG; omega)
  (fun i hi hp=>cnd_t (decide_eq_true (by omega)) (bnd (chrD hi) (bnd (hg _ (getD_byte s hi)) (cnd_f (by simp only [hp]; rfl) (bnd (by rw [wrap_succ (by omega)]) rfl)))))
  (fun i hi hp=>cnd_t (decide_eq_true (by omega)) (bnd (chrD hi) (bnd (hg _ (getD_byte s hi)) (cnd_t (by simp only [hp]; rfl) rfl))))
  (cnd_f (decide_eq_false (by omega)) rfl)
 rw [hl]
 have hiff:=all_iff_get (sbytes s) p
 rw [sbytes_len] at hiff
 by_cases hall:∀ i,i<s.size→p ((sbytes s).getD i 0)=true
 ·rw [if_pos hall,hiff.2 hall]; rfl
 ·rw [if_neg hall]
  cases hq:(sbytes s).all p
  ·rfl
  ·exact absurd (hiff.1 hq) hall
theorem isE (s:ByteArray):(s.toList==(⟨#[]⟩:ByteArray).toList)=(sbytes s).isEmpty:=by
 rw [toList_beq,Bool.eq_iff_iff,decide_eq_true_eq,str_eq_iff]
 simp [sbytes]
theorem atom_eq (s:ByteArray) (hs:s.size<4611686018427387904):path_atom s=some (atmB (sbytes s)):=by
 unfold path_atom atmB
 rw [isE]
 cases (sbytes s).isEmpty
 ·exact bndL (s:=(sbytes s).all atB) (cnd_t rfl (bnd (all_loop s hs fun c hc=>atom1 hc) rfl)) rfl
 ·exact bndL (s:=false) (cnd_f rfl rfl) rfl
theorem last_getD {l:List Int} (h:l≠[]):l.getLast? = some (l.getD (l.length-1) 0):=by
 have:0<l.length:=List.length_pos_iff.2 h
 rw [List.getLast?_eq_getElem?,List.getD_eq_getElem?_getD,List.getElem?_eq_getElem (by omega)]
 rfl
theorem head_getD {l:List Int} (h:l≠[]):l.head? = some (l.getD 0 0):=by
 cases l with
 | nil=>exact absurd rfl h
 | cons x l=>rfl
theorem label_eq (s:ByteArray) (hs:s.size<4611686018427387904):path_label s=some (labB (sbytes s)):=by
 unfold path_label labB
 rw [isE]
 cases he:(sbytes s).isEmpty
 ·have hne:sbytes s≠[]:=by intro e; rw [e] at he; cases he
  have hpos:0<s.size:=by rw [← sbytes_len]; exact List.length_pos_iff.2 hne
  rw [last_getD hne,head_getD hne,sbytes_len]
  by_cases h1:s.size≤63
  ·have d1:decide ((s.size:Int)≤63)=true:=decide_eq_true (by omega)
   have c0:=chrD (s:=s) (i:=0) hpos
   have c1:=chrD (s:=s) (i:=s.size-1) (by omega)
   have e1:((s.size-1:Nat):Int)=(s.size:Int)-1:=by omega
   rw [e1] at c1
   by_cases h2:(sbytes s).getD 0 0=45
   ·refine bndL (s:=false) (cnd_t rfl (cnd_t d1 (bnd c0 (cnd_f (by rw [h2]; rfl) rfl)))) ?_
    rw [h2]; simp
   ·by_cases h3:(sbytes s).getD (s.size-1) 0=45
    ·refine bndL (s:=false) (cnd_t rfl (cnd_t d1 (bnd c0 (cnd_t (by simpa using h2) (bnd (wrap_i (by omega) (by omega)) (bnd c1 (cnd_f (by rw [h3]; rfl) rfl))))))) ?_
     rw [h3]; simp
    ·refine bndL (s:=(sbytes s).all lbB) (cnd_t rfl (cnd_t d1 (bnd c0 (cnd_t (by simpa using h2) (bnd (wrap_i (by omega) (by omega)) (bnd c1 (cnd_t (by simpa using h3) (bnd (all_loop s hs fun c hc=>label1 hc) rfl)))))))) ?_
     have x2:(some ((sbytes s).getD 0 0) != some 45)=true:=by simpa using h2
     have x3:(some ((sbytes s).getD (s.size-1) 0) != some 45)=true:=by simpa using h3
     rw [x2,x3,decide_eq_true h1]; rfl
  ·refine bndL (s:=false) (cnd_t rfl (cnd_f (decide_eq_false (by omega)) rfl)) ?_
   rw [decide_eq_false h1]; rfl
 ·exact bndL (s:=false) (cnd_f rfl rfl) rfl
theorem dotted_eq {f:ByteArray→Option Bool} {P:List Int→Bool} (s:ByteArray) (hs:s.size<4611686018427387904) (hf:∀ x,x.size≤s.size→f x=some (P (sbytes x))) :
  (strings_SplitSeq s (⟨#[46]⟩:ByteArray)).bind (fun v1 =>
  bindS (S:=(Unit)) (A:=(Unit))
  (rangeS (S:=(Unit)) (O:=(Unit)) (fun Y st=>Sh.strings_splitSeq_1 Y v1.1 v1.2.1 v1.2.2 st) (fun (x:ByteArray) (():Unit) =>
   (f x).bind fun v2 =>
   cond ((!v2))
    (some (.inr ()))
    (some (.inl ())))
   ())
  (fun (():Unit) =>
   some (true))
  (fun (():Unit) =>
   some (false)))=some ((spl 46 (sbytes s)).all P):=by
 refine bnd (x:=(⟨#[46]⟩,s,0)) rfl ?_
 have hle:∀ (c:Int) (l:List Int),∀ p∈spl c l,p.length≤l.length:=by
  intro c l
  induction l with
  | nil=>intro p hp; simp [spl] at hp; simp [hp]
  | cons x l ih =>
   intro p hp
   unfold spl at hp
   split at hp
   ·simp only [List.mem_cons] at hp
    rcases hp with rfl | hp
    ·simp
    ·have:=ih p hp; simp; omega
   ·split at hp
    ·simp at hp; subst hp; simp
    ·rename_i q qs e
     simp only [List.mem_cons] at hp
     rcases hp with rfl | hp
     ·have:=ih q (by rw [e]; simp); simp; omega
     ·have:=ih p (by rw [e]; simp [hp]); simp; omega
 have hby:∀ (c:Int) (l:List Int),byt l→∀ p∈spl c l,byt p:=by
  intro c l
  induction l with
  | nil=>intro _ p hp; simp [spl] at hp; subst hp; intro x hx; cases hx
  | cons x l ih =>
   intro hb p hp
   have hb':byt l:=fun y hy=>hb y (by simp [hy])
   unfold spl at hp
   split at hp
   ·simp only [List.mem_cons] at hp
    rcases hp with rfl | hp
    ·intro x hx; cases hx
    ·exact ih hb' p hp
   ·split at hp
    ·simp at hp; subst hp; intro y hy; simp at hy; subst hy; exact hb _ (by simp)
    ·rename_i q qs e
     simp only [List.mem_cons] at hp
     rcases hp with rfl | hp
     ·intro y hy
      simp only [List.mem_cons] at hy
      rcases hy with rfl | hy
      ·exact hb _ (by simp)
      ·exact ih hb' q (by rw [e]; simp) y hy
     ·exact ih hb' p (by rw [e]; simp [hp])
 have hfol:∀ l:List (List Int),(∀ p∈l,byt p∧p.length≤s.size)→folS (fun (x:ByteArray) (():Unit) =>
   (f x).bind fun v2 =>
   cond ((!v2))
    (some (.inr ()))
    (some (.inl ()))) (l.map bstr) ()=some (if l.all P then .inl () else .inr ()):=by
  intro l
  induction l with
  | nil=>intro _; rfl
  | cons p l ih =>
   intro h
   have hp:=h p (by simp)
   have e1:=hf (bstr p) (by rw [bstr_size]; exact hp.2)
   rw [sbytes_bstr hp.1] at e1
   rw [List.map_cons]
   unfold folS
   simp only [e1,Option.bind_some]
   cases hP:P p
   ·simp [hP]
   ·simp only [Bool.not_true,cond_false,List.all_cons,hP,Bool.true_and]
    exact ih fun q hq=>h q (by simp [hq])
 have:=split_range 46 (by omega) (fun (x:ByteArray) (():Unit) =>
   (f x).bind fun v2 =>
   cond ((!v2))
    (some (.inr ()))
    (some (.inl ()))) s () hs _ (hfol (spl 46 (sbytes s)) fun p hp=>⟨hby _ _ (byt_sbytes s) p hp,by have:=hle _ _ p hp; rwa [sbytes_len] at this⟩)
 change bindS (rangeS (fun Y st=>strings_splitSeq_1 Y ⟨#[UInt8.ofNat 46]⟩ s 0 st) _ ()) _ _=_
 rw [this]
 cases hq:(spl 46 (sbytes s)).all P
 ·rfl
 ·rfl
theorem dom_eq (s:ByteArray) (hs:s.size<4611686018427387904):path_Domain s=some (domB (sbytes s)):=by
 unfold path_Domain domB
 rw [sbytes_len]
 by_cases h:s.size≤255
 ·refine bndL (s:=(spl 46 (sbytes s)).all labB) (cnd_t (decide_eq_true (by omega)) (bnd (x:=(spl 46 (sbytes s)).all labB) ?_ rfl)) (by rw [decide_eq_true h]; rfl)
  exact dotted_eq s hs fun x hx=>label_eq x (by omega)
 ·exact bndL (s:=false) (cnd_f (decide_eq_false (by omega)) rfl) (by rw [decide_eq_false h]; rfl)
theorem loc_eq (s:ByteArray) (hs:s.size<4611686018427387904):path_local s=some (locB (sbytes s)):=by
 unfold path_local locB
 rw [sbytes_len]
 by_cases h:s.size≤64
 ·refine bndL (s:=(spl 46 (sbytes s)).all atmB) (cnd_t (decide_eq_true (by omega)) (bnd (x:=(spl 46 (sbytes s)).all atmB) ?_ rfl)) (by rw [decide_eq_true h]; rfl)
  exact dotted_eq s hs fun x hx=>atom_eq x (by omega)
 ·exact bndL (s:=false) (cnd_f (decide_eq_false (by omega)) rfl) (by rw [decide_eq_false h]; rfl)
def patB (p:T_Path):Bool:=cond p.Null ((sbytes p.Local).isEmpty&&(sbytes p.Domain).isEmpty) (locB (sbytes p.Local)&&domB (sbytes p.Domain))
structure Small (p:T_Path):Prop where
 l:p.Local.size<1152921504606846976
 d:p.Domain.size<1152921504606846976
theorem check_eq (p:T_Path) (h:Small p):path_Check p=some (cond (patB p) 0 5):=by
 unfold path_Check patB
 have hl:=h.l; have hd:=h.d
 rw [isE,isE]
 cases hn:p.Null
 ·refine bndL (s:=locB (sbytes p.Local)&&domB (sbytes p.Domain)) (cnd_t rfl (bnd (loc_eq p.Local (by omega)) ?_)) ?_
  ·cases locB (sbytes p.Local)
   ·rfl
   ·exact cnd_t rfl (bnd (dom_eq p.Domain (by omega)) rfl)
  ·simp only [cond_false]
   cases locB (sbytes p.Local)&&domB (sbytes p.Domain) <;> rfl
 ·refine bndL (s:=false) rfl ?_
  simp only [cond_true]
  cases (sbytes p.Local).isEmpty <;> cases (sbytes p.Domain).isEmpty <;> rfl
def e0:ByteArray:=⟨#[]⟩
def noP:T_Path:=⟨false,e0,e0⟩
theorem sb60:sbytes (⟨#[60]⟩:ByteArray)=[60]:=rfl
def idx2:List Int→Option Nat
 | []=>none
 | x::l=>if x=13∧l.head? = some 10 then some 0 else (idx2 l).map (· + 1)
theorem idx2_some:∀ {l:List Int} {e:Nat},idx2 l=some e→e+2≤l.length∧l=l.take e++13::10::l.drop (e+2)
 | [],e,h=>by simp [idx2] at h
 | x::l,e,h=>by
  unfold idx2 at h
  split at h
  ·rename_i hc
   cases h
   obtain ⟨rfl,h2⟩:=hc
   cases l with
   | nil=>simp at h2
   | cons y l=>simp at h2; subst h2; simp
  ·cases hi:idx2 l with
   | none=>simp [hi] at h
   | some k =>
    simp [hi] at h
    subst h
    obtain ⟨h1,h2⟩:=idx2_some hi
    refine ⟨by simp; omega,?_⟩
    simp only [List.take_succ_cons,List.cons_append,List.drop_succ_cons,show k+1+2=(k+2)+1 by omega]
    rw [← h2]
theorem idx2_line:∀ {line rest:List Int},(∀ x∈line,x≠13)→idx2 (line++13::10::rest)=some line.length
 | [],rest,_=>by simp [idx2]
 | x::line,rest,h=>by
  have hx:=h x (by simp)
  have ih:=idx2_line (line:=line) (rest:=rest) fun y hy=>h y (by simp [hy])
  rw [List.cons_append]
  unfold idx2
  rw [if_neg (fun e=>hx e.1),ih]
  simp
theorem u8_eq {x:Int} (h:0≤x∧x<256) {n:Nat} (hn:n<256):(UInt8.ofNat x.toNat=UInt8.ofNat n)↔x=(n:Int):=by
 constructor
 ·intro e
  have:=congrArg UInt8.toNat e
  simp only [UInt8.toNat_ofNat'] at this
  omega
 ·rintro rfl; simp
theorem index2:∀ {l:List Int},byt l→Lib.index (Lib.bytesOf l) (Lib.bytesOf [13,10])=match idx2 l with | none => -1 | some e=>(e:Int)
 | [],_=>by rfl
 | x::l,h=>by
  have hx:=h x (by simp)
  have ih:=index2 (l:=l) fun y hy=>h y (by simp [hy])
  have e1:Lib.bytesOf (x::l)=UInt8.ofNat x.toNat::Lib.bytesOf l:=rfl
  have e2:Lib.bytesOf [13,10]=[UInt8.ofNat 13,UInt8.ofNat 10]:=rfl
  rw [e1]
  unfold Lib.index idx2
  have hp:(Lib.bytesOf [13,10]).isPrefixOf (UInt8.ofNat x.toNat::Lib.bytesOf l)=decide (x=13∧l.head? = some 10):=by
   rw [Bool.eq_iff_iff,decide_eq_true_eq,e2]
   cases l with
   | nil=>simp [Lib.bytesOf,List.isPrefixOf]
   | cons y l =>
    have hy:=h y (by simp)
    have ex:=u8_eq hx (n:=13) (by omega)
    have ey:=u8_eq hy (n:=10) (by omega)
    simp only [Lib.bytesOf,List.map_cons,List.isPrefixOf,Bool.and_eq_true,beq_iff_eq,Bool.true_and,Bool.and_true,and_true,List.head?_cons,Option.some.injEq]
    constructor
    ·rintro ⟨h1,h2⟩; exact ⟨ex.1 h1.symm,ey.1 h2.symm⟩
    ·rintro ⟨h1,h2⟩; exact ⟨(ex.2 h1).symm,(ey.2 h2).symm⟩
  rw [hp]
  by_cases hc:x=13∧l.head? = some 10
  ·rw [if_pos (by simpa using hc),if_pos hc]
   rfl
  ·rw [if_neg (by simpa using hc),if_neg hc,ih]
   cases idx2 l with
   | none=>rfl
   | some k =>
    have:((k:Int) == -1)=false:=beq_eq_false_iff_ne.2 (by omega)
    simp only [this,Bool.false_eq_true,if_false,Option.map_some]
    rfl
theorem bytesIndex2 {l:List Int} (h:byt l) (hl:l.length<4294967281):bytes_Index l [13,10]=some (match idx2 l with | none => -1 | some e=>(e:Int)):=by
 unfold bytes_Index
 rw [if_pos ⟨hl,by simp,by simp,h,by decide⟩,index2 h]
def folL {X S O:Type} (step:X→S→Option (S⊕O)):List X→S→Option (S⊕O)
 | [],s=>some (.inl s)
 | x::l,s=>match step x s with
  | none=>none
  | some (.inl s')=>folL step l s'
  | some (.inr o)=>some (.inr o)
inductive Lns:List Int→List (List Int)→List Int→Prop
 | nil {b:List Int} (h:idx2 b=none):Lns b [] b
 | cons {b:List Int} {e:Nat} {ls:List (List Int)} {r:List Int} (h:idx2 b=some e) (t:Lns (b.drop (e+2)) ls r):Lns b (b.take e::ls) r
theorem wrap_j {n:Int} (h0 : -9223372036854775808≤n) (h1:n<9223372036854775808):some (IntKind.i64.wrap n)=some n:=by rw [wrap_i64 h0 h1]
theorem cut_none {b:List Int} (hb:byt b) (hl:b.length<4294967281) (h:idx2 b=none):bytes_Cut_sh b [13,10]=some (b,[],false):=by
 unfold bytes_Cut_sh
 refine bnd (bytesIndex2 hb hl) ?_
 rw [h]
 rfl
theorem cut_some {b:List Int} (hb:byt b) (hl:b.length<4294967281) {e:Nat} (h:idx2 b=some e):bytes_Cut_sh b [13,10]=some (b.take e,b.drop (e+2),true):=by
 have h1:=(idx2_some h).1
 unfold bytes_Cut_sh
 refine bnd (bytesIndex2 hb hl) ?_
 rw [h]
 refine cnd_t (decide_eq_true (by show (0:Int)≤(e:Int); omega)) ?_
 have e1:sliO b 0 (e:Int)=some (b.take e):=by
  have:=sli_nat b (a:=0) (b:=e) (by omega) (by omega)
  simpa using this
 refine bnd e1 ?_
 refine bnd (x:=((e+2:Nat):Int)) (by
  show some (IntKind.i64.wrap ((e:Int)+2))=_
  rw [wrap_j (by omega) (by omega)]; simp) ?_
 refine bnd (x:=b.drop (e+2)) (by
  rw [sli_nat b (by omega) (by omega),List.take_of_length_le (by simp)]) rfl
theorem lines_range {S O:Type} (step:List Int→S→Option (S⊕O)) {b:List Int} {ls:List (List Int)} {rest:List Int} (H:Lns b ls rest) (hb:byt b) (hl:b.length<4294967281) (st:S) (r:S⊕O) (hr:folL step ls st=some r) :
  rangeS (S:=S) (O:=O) (fun Y st=>dots_lines_1 Y b st) step st=some r:=by
 unfold rangeS dots_lines_1
 have key:∀ (b:List Int) (ls:List (List Int)) (rest:List Int),Lns b ls rest→byt b→b.length<4294967281→∀ (fuel:Nat) (st:S),b.length<fuel→folL step ls st=some r →
   bindS (S:=(Unit)) (A:=S⊕O)
    (loopF (S:=((List Int)×(S⊕O))) (O:=(Unit)⊕(S⊕O)) (fun ((s17,s18):(List Int)×(S⊕O)) =>
     (bytes_Cut_sh s17 [13,10]).bind fun v1 =>
     bindS (S:=(S⊕O)×Bool) (A:=(((List Int)×(S⊕O))⊕((Unit)⊕(S⊕O))))
      (cond ((!v1.2.2))
       (some (.inl (s18,true)))
       ((rangeY step v1.1 s18).bind fun v2 =>
       some (.inl ((v2.1,(!v2.2))))))
      (fun ((s31,s32):(S⊕O)×Bool) =>
       cond (s32)
        (some (.inr (.inr (s31))))
        (some (.inl (v1.2.1,s31)))) some)
     fuel (b,.inl st))
    (fun (():Unit) =>
     none) some=some r:=by
  intro b ls rest H
  induction H with
  | nil h =>
   intro hb hl fuel st hf hr
   obtain ⟨f,rfl⟩:∃ f,fuel=f+1:=⟨fuel-1,by omega⟩
   rw [loop_exit (o := .inr (.inl st)) (bnd (cut_none hb hl h) rfl)]
   exact hr
  | cons h t ih =>
   rename_i b e ls r'
   intro hb hl fuel st hf hr
   obtain ⟨f,rfl⟩:∃ f,fuel=f+1:=⟨fuel-1,by omega⟩
   have h1:=(idx2_some h).1
   simp only [folL] at hr
   cases hst:step (b.take e) st with
   | none=>rw [hst] at hr; cases hr
   | some u =>
    rw [hst] at hr
    cases u with
    | inl s' =>
     rw [loop_next (s':=(b.drop (e+2),.inl s')) (bnd (cut_some hb hl h) (bndL (s:=((Sum.inl s':S⊕O),false)) (cnd_f rfl (bnd (x:=((Sum.inl s':S⊕O),true)) (by simp [rangeY,hst]) rfl)) rfl))]
     exact ih (byt_drop hb _) (by rw [List.length_drop]; omega) f s' (by rw [List.length_drop]; omega) hr
    | inr o =>
     rw [loop_exit (o := .inr (.inr o)) (bnd (cut_some hb hl h) (bndL (s:=((Sum.inr o:S⊕O),true)) (cnd_f rfl (bnd (x:=((Sum.inr o:S⊕O),false)) (by simp [rangeY,hst]) rfl)) rfl))]
     exact hr
 exact key b ls rest H hb hl BIG st (by unfold BIG; omega) hr
theorem lns_ex:∀ (n:Nat) (b:List Int),b.length≤n→∃ ls r,Lns b ls r
 | n,b,hn=>by
  cases h:idx2 b with
  | none=>exact ⟨_,_,.nil h⟩
  | some e =>
   have h1:=(idx2_some h).1
   cases n with
   | zero=>omega
   | succ n =>
    obtain ⟨ls,r,H⟩:=lns_ex n (b.drop (e+2)) (by rw [List.length_drop]; omega)
    exact ⟨_,_,.cons h H⟩
def jn:List (List Int)→List Int
 | []=>[]
 | l::ls=>l++13::10::jn ls
theorem jn_app:∀ (a b:List (List Int)),jn (a++b)=jn a++jn b
 | [],b=>rfl
 | x::a,b=>by simp [jn,jn_app a b]
theorem lns_join {b:List Int} {ls:List (List Int)} {r:List Int} (H:Lns b ls r):b=jn ls++r:=by
 induction H with
 | nil h=>rfl
 | cons h t ih =>
  have h2:=(idx2_some h).2
  conv=>lhs; rw [h2]
  simp only [jn,List.append_assoc,List.cons_append]
  rw [← ih]
def cln (l:List Int):Prop:=∀ x∈l,x≠13∧x≠10
theorem lns_app {ls:List (List Int)} {t:List Int} {ms:List (List Int)} {r:List Int} (h:∀ l∈ls,cln l) (H:Lns t ms r):Lns (jn ls++t) (ls++ms) r:=by
 induction ls with
 | nil=>exact H
 | cons l ls ih =>
  have e:jn (l::ls)++t=l++13::10::(jn ls++t):=by simp [jn]
  have hi:=idx2_line (line:=l) (rest:=jn ls++t) (fun x hx=>(h l (by simp) x hx).1)
  have:=Lns.cons (b:=l++13::10::(jn ls++t)) hi (ls:=ls++ms) (r:=r) (by
   have e2:(l++13::10::(jn ls++t)).drop (l.length+2)=jn ls++t:=by
    rw [List.drop_append]; simp
   rw [e2]
   exact ih fun x hx=>h x (by simp [hx]))
  rw [e]
  have e3:(l++13::10::(jn ls++t)).take l.length=l:=by simp
  rw [e3] at this
  exact this
theorem lns_nil:Lns [] [] [] := .nil rfl
theorem lns_jn {ls:List (List Int)} (h:∀ l∈ls,cln l):Lns (jn ls) ls []:=by
 have:=lns_app h lns_nil
 simpa using this
theorem crlf_clean:∀ {l:List Int},cln l→crlfIx l = -1
 | [],_=>rfl
 | x::l,h=>by
  have hx:=h x (by simp)
  unfold crlfIx
  rw [if_neg (by rintro (e | e); exact hx.1 e; exact hx.2 e),if_pos (crlf_clean fun y hy=>h y (by simp [hy]))]
theorem crlf_dirty:∀ {l:List Int},¬ cln l→0≤crlfIx l
 | [],h=>absurd (fun x hx=>by simp at hx) h
 | x::l,h=>by
  unfold crlfIx
  by_cases hx:x=13∨x=10
  ·rw [if_pos hx]; omega
  ·rw [if_neg hx]
   have:=crlf_dirty (l:=l) (fun hc=>h fun y hy=>by
    rcases List.mem_cons.1 hy with rfl | hy
    ·exact ⟨fun e=>hx (.inl e),fun e=>hx (.inr e)⟩
    ·exact hc y hy)
   rw [if_neg (by omega)]; omega
theorem any_of {l:List Int} (hb:byt l) (hl:l.length<4294967281):bytes_ContainsAny l (⟨#[13,10]⟩:ByteArray)=some (decide (0≤crlfIx l)):=by
 unfold bytes_ContainsAny bytes_IndexAny
 rw [if_pos ⟨rfl,hl,List.all_eq_true.2 fun x hx=>decide_eq_true (hb x hx)⟩]
 rfl
def tot:List (List Int)→Nat
 | []=>0
 | l::ls=>l.length+2+tot ls
theorem jn_len:∀ ls,(jn ls).length=tot ls
 | []=>rfl
 | l::ls=>by simp [jn,tot,jn_len ls]; omega
open Classical in
theorem fol_check:∀ (ls:List (List Int)) (s:Nat),(∀ l∈ls,byt l)→s+tot ls<4294967281 →
  folL (S:=Int) (O:=Int) (fun (x:(List Int)) (s8:Int) =>
   (bytes_ContainsAny x (⟨#[13,10]⟩:ByteArray)).bind fun v2 =>
   cond (v2)
    (some (.inr s8))
    ((some (IntKind.i64.wrap ((x.length:Int)+2))).bind fun v4 =>
    (some (IntKind.i64.wrap (s8+v4))).bind fun v5 =>
    some (.inl v5))) ls (s:Int)=if ∀ l∈ls,cln l then some (.inl ((s+tot ls:Nat):Int)) else (folL (S:=Int) (O:=Int) (fun (x:(List Int)) (s8:Int) =>
   (bytes_ContainsAny x (⟨#[13,10]⟩:ByteArray)).bind fun v2 =>
   cond (v2)
    (some (.inr s8))
    ((some (IntKind.i64.wrap ((x.length:Int)+2))).bind fun v4 =>
    (some (IntKind.i64.wrap (s8+v4))).bind fun v5 =>
    some (.inl v5))) ls (s:Int)):=by
 intro ls
 induction ls with
 | nil=>intro s _ _; simp [folL,tot]
 | cons l ls ih =>
  intro s hb hs
  by_cases h:∀ m∈l::ls,cln m
  ·rw [if_pos h]
   simp only [tot] at hs
   have e:((bytes_ContainsAny l (⟨#[13,10]⟩:ByteArray)).bind fun v2 =>
   cond (v2)
    (some (.inr (s:Int)))
    ((some (IntKind.i64.wrap ((l.length:Int)+2))).bind fun v4 =>
    (some (IntKind.i64.wrap ((s:Int)+v4))).bind fun v5 =>
    some (.inl v5)):Option (Int⊕Int))=some (.inl ((s+(l.length+2):Nat):Int)):=by
    refine bnd (any_of (hb l (by simp)) (by omega)) ?_
    rw [crlf_clean (h l (by simp))]
    refine cnd_f rfl (bnd (wrap_j (by omega) (by omega)) (bnd (wrap_j (by omega) (by omega)) ?_))
    simp
   simp only [folL]
   rw [e]
   have:=ih (s+(l.length+2)) (fun m hm=>hb m (by simp [hm])) (by omega)
   rw [if_pos fun m hm=>h m (by simp [hm])] at this
   simp only [tot]
   rw [show s+(l.length+2+tot ls)=s+(l.length+2)+tot ls by omega]
   exact this
  ·rw [if_neg h]
theorem fol_dirty:∀ (ls:List (List Int)) (s:Nat),(∀ l∈ls,byt l)→s+tot ls<4294967281→(¬ ∀ l∈ls,cln l) →
  ∃ o,folL (S:=Int) (O:=Int) (fun (x:(List Int)) (s8:Int) =>
   (bytes_ContainsAny x (⟨#[13,10]⟩:ByteArray)).bind fun v2 =>
   cond (v2)
    (some (.inr s8))
    ((some (IntKind.i64.wrap ((x.length:Int)+2))).bind fun v4 =>
    (some (IntKind.i64.wrap (s8+v4))).bind fun v5 =>
    some (.inl v5))) ls (s:Int)=some (.inr o):=by
 intro ls
 induction ls with
 | nil=>intro s _ _ h; exact absurd (fun x hx=>by simp at hx) h
 | cons l ls ih =>
  intro s hb hs h
  simp only [tot] at hs
  by_cases hc:cln l
  ·have e:((bytes_ContainsAny l (⟨#[13,10]⟩:ByteArray)).bind fun v2 =>
   cond (v2)
    (some (.inr (s:Int)))
    ((some (IntKind.i64.wrap ((l.length:Int)+2))).bind fun v4 =>
    (some (IntKind.i64.wrap ((s:Int)+v4))).bind fun v5 =>
    some (.inl v5)):Option (Int⊕Int))=some (.inl ((s+(l.length+2):Nat):Int)):=by
    refine bnd (any_of (hb l (by simp)) (by omega)) ?_
    rw [crlf_clean hc]
    refine cnd_f rfl (bnd (wrap_j (by omega) (by omega)) (bnd (wrap_j (by omega) (by omega)) ?_))
    simp
   obtain ⟨o,ho⟩:=ih (s+(l.length+2)) (fun m hm=>hb m (by simp [hm])) (by omega) (fun hh=>h fun m hm=>by
    rcases List.mem_cons.1 hm with rfl | hm
    ·exact hc
    ·exact hh m hm)
   refine ⟨o,?_⟩
   simp only [folL]
   rw [e]
   exact ho
  ·refine ⟨(s:Int),?_⟩
   simp only [folL]
   rw [any_of (hb l (by simp)) (by omega),decide_eq_true (crlf_dirty hc)]
   rfl
theorem byt_line {b:List Int} {ls:List (List Int)} {r:List Int} (H:Lns b ls r) (hb:byt b):∀ l∈ls,byt l:=by
 induction H with
 | nil h=>intro l hl; simp at hl
 | cons h t ih =>
  intro l hl
  rcases List.mem_cons.1 hl with rfl | hl
  ·exact byt_take hb _
  ·exact ih (byt_drop hb _) l hl
theorem byt_jn {ls:List (List Int)} (h:byt (jn ls)):∀ l∈ls,byt l:=by
 induction ls with
 | nil=>intro l hl; simp at hl
 | cons m ls ih =>
  intro l hl
  simp only [jn] at h
  rcases List.mem_cons.1 hl with rfl | hl
  ·exact fun x hx=>h x (by simp [hx])
  ·exact ih (fun x hx=>h x (by simp [hx])) l hl
theorem jn_byt {ls:List (List Int)} (h:∀ l∈ls,byt l):byt (jn ls):=by
 induction ls with
 | nil=>intro l hl; simp [jn] at hl
 | cons m ls ih =>
  intro x hx
  simp only [jn,List.mem_append,List.mem_cons] at hx
  rcases hx with hx | rfl | rfl | hx
  ·exact h m (by simp) x hx
  ·omega
  ·omega
  ·exact ih (fun l hl=>h l (by simp [hl])) x hx
theorem check_ok {ls:List (List Int)} (h:∀ l∈ls,cln l) (hb:∀ l∈ls,byt l) (hl:tot ls<4294967281):dots_Check (jn ls)=some 0:=by
 unfold dots_Check dots_lines
 refine bnd rfl ?_
 refine bndL (s:=((0+tot ls:Nat):Int)) (lines_range _ (lns_jn h) (jn_byt hb) (by rw [jn_len]; exact hl) _ _ (by
  have:=fol_check ls 0 hb (by omega)
  rw [if_pos h] at this
  exact this)) ?_
 refine cnd_f ?_ rfl
 rw [jn_len]; simp
theorem check_any {b:List Int} (hb:byt b) (hl:b.length<4294967281):(dots_Check b=some 5)∨∃ ls,(∀ l∈ls,cln l)∧(∀ l∈ls,byt l)∧b=jn ls:=by
 obtain ⟨ls,r,H⟩:=lns_ex b.length b (Nat.le_refl _)
 have hj:=lns_join H
 have hlen:b.length=tot ls+r.length:=by rw [hj,List.length_append,jn_len]
 by_cases h:∀ l∈ls,cln l
 ·cases r with
  | nil=>exact .inr ⟨ls,h,byt_line H hb,by simpa using hj⟩
  | cons y r =>
   left
   unfold dots_Check dots_lines
   refine bnd rfl ?_
   refine bndL (s:=((0+tot ls:Nat):Int)) (lines_range _ H hb hl _ _ (by
    have:=fol_check ls 0 (byt_line H hb) (by omega)
    rw [if_pos h] at this
    exact this)) ?_
   refine cnd_t ?_ rfl
   simp only [List.length_cons] at hlen
   rw [bne_iff_ne]; omega
 ·left
  obtain ⟨o,ho⟩:=fol_dirty ls 0 (byt_line H hb) (by omega) h
  unfold dots_Check dots_lines
  refine bnd rfl ?_
  exact bndR (a:=o) (lines_range _ H hb hl _ _ ho) rfl
theorem keepBytes_eq (a b:List Int) (hl:a.length<4294967296):wherrykeep_Bytes a b=some (decide (a=b)):=by
 unfold wherrykeep_Bytes
 by_cases hn:a.length=b.length
 case neg =>
  have:a≠b:=fun h=>hn (by rw [h])
  have h2:((a.length:Int) != (b.length:Int))=true:=by simp; omega
  simp [h2,this]
 have h2:((a.length:Int) != (b.length:Int))=false:=by simp; omega
 simp only [h2,cond_false]
 have key:∀ (k fuel i:Nat),a.length-i=k→i≤a.length→k<fuel→a.take i=b.take i →
   loopF (S:=Int) (O:=Unit⊕Bool) (fun (s12:Int) =>
    cond ((decide (s12<(a.length:Int))))
     ((ixO s12 a.length).bind fun v3 =>
     (getO a v3).bind fun v4 =>
     (ixO s12 b.length).bind fun v5 =>
     (getO b v5).bind fun v6 =>
     cond ((v4 != v6))
      (some (.inr (.inr (false))))
      ((some (IntKind.i64.wrap (s12+1))).bind fun v8 =>
      some (.inl v8)))
     (some (.inr (.inl ())))) fuel (i:Int)=some (if a=b then .inl () else .inr false):=by
  intro k
  induction k with
  | zero =>
   intro fuel i hk hi hf ht
   obtain ⟨f,rfl⟩:∃ f,fuel=f+1:=⟨fuel-1,by omega⟩
   have hia:i=a.length:=by omega
   subst hia
   have hab:a=b:=by rw [List.take_of_length_le (Nat.le_refl _),List.take_of_length_le (by omega)] at ht; exact ht
   simp [loopF,hab]
  | succ k ih =>
   intro fuel i hk hi hf ht
   obtain ⟨f,rfl⟩:∃ f,fuel=f+1:=⟨fuel-1,by omega⟩
   have hlt:i<a.length:=by omega
   have hltb:i<b.length:=by omega
   have hd:decide ((i:Int)<(a.length:Int))=true:=by simp; omega
   unfold loopF
   simp only [hd,cond_true,ixO_of hlt,ixO_of hltb,getO_of hlt,getO_of hltb,Option.bind_some]
   by_cases he:a[i]=b[i]
   ·have hb:(a[i] != b[i])=false:=by simp [he]
    have hw:IntKind.i64.wrap ((i:Int)+1)=((i+1:Nat):Int):=by
     rw [wrap_i64 (by omega) (by omega)]; simp
    simp only [hb,cond_false,hw]
    exact ih f (i+1) (by omega) hlt (by omega) (by rw [List.take_add_one,List.take_add_one,ht]; simp [hlt,hltb,he])
   ·have hb:(a[i] != b[i])=true:=by simp [he]
    have hab:a≠b:=fun h=>he (by subst h; rfl)
    simp [hb,hab]
 have:=key (a.length-0) BIG 0 rfl (Nat.zero_le _) (by unfold BIG; omega) (by simp)
 simp only [Int.cast_ofNat_Int] at this
 by_cases hab:a=b
 ·simp only [hab,if_true] at this
  subst hab
  simp only [bindS]
  rw [this]; simp
 ·simp only [hab,if_false] at this
  simp only [bindS]
  rw [this]; simp [hab]
set_option maxRecDepth 10000
def txtL (p:T_Path):List Int:=cond p.Null [60,62] (60::(sbytes p.Local++64::(sbytes p.Domain++[62])))
theorem byt_cons {c:Int} {l:List Int} (h:0≤c∧c<256) (hl:byt l):byt (c::l):=by
 intro x hx
 simp only [List.mem_cons] at hx
 rcases hx with rfl | hx
 ·exact h
 ·exact hl x hx
theorem byt_nil:byt []:=fun x hx=>by cases hx
theorem byt_txt (p:T_Path):byt (txtL p):=by
 unfold txtL
 cases p.Null
 ·exact byt_cons (by omega) (byt_app (byt_sbytes _) (byt_cons (by omega) (byt_app (byt_sbytes _) (byt_cons (by omega) byt_nil))))
 ·exact byt_cons (by omega) (byt_cons (by omega) byt_nil)
theorem catL {s t:ByteArray} {l m:List Int} (hl:sbytes s=l) (hm:sbytes t=m) (h:l.length+m.length≤9223372036854775807):catO s t=some (bstr (l++m)):=by
 subst hl hm
 rw [sbytes_len,sbytes_len] at h
 exact cat_of h
theorem cats (p:T_Path) (h:Small p) {R:Type} (f:ByteArray→Option R) (r:Option R) (hr:f (bstr (60::(sbytes p.Local++64::(sbytes p.Domain++[62]))))=r) :
  ((catO (⟨#[60]⟩:ByteArray) p.Local).bind fun v4 =>
   (catO v4 (⟨#[64]⟩:ByteArray)).bind fun v5 =>
   (catO v5 p.Domain).bind fun v6 =>
   (catO v6 (⟨#[62]⟩:ByteArray)).bind fun v7=>f v7)=r:=by
 have hl:=h.l; have hd:=h.d
 have bl:=byt_sbytes p.Local; have bd:=byt_sbytes p.Domain
 have b60:byt [60]:=byt_cons (by omega) byt_nil
 have b64:byt [64]:=byt_cons (by omega) byt_nil
 have k1:=catL (s:=⟨#[60]⟩) (t:=p.Local) sb60 rfl (by simp [sbytes_len]; omega)
 have k2:=catL (s:=bstr ([60]++sbytes p.Local)) (t:=⟨#[64]⟩) (m:=[64]) (sbytes_bstr (byt_app b60 bl)) rfl (by simp [sbytes_len]; omega)
 have k3:=catL (s:=bstr ([60]++sbytes p.Local++[64])) (t:=p.Domain) (sbytes_bstr (byt_app (byt_app b60 bl) b64)) rfl (by simp [sbytes_len]; omega)
 have k4:=catL (s:=bstr ([60]++sbytes p.Local++[64]++sbytes p.Domain)) (t:=⟨#[62]⟩) (m:=[62]) (sbytes_bstr (byt_app (byt_app (byt_app b60 bl) b64) bd)) rfl (by simp [sbytes_len]; omega)
 refine bnd k1 (bnd k2 (bnd k3 (bnd k4 ?_)))
 rw [← hr]
 congr 2
 simp
theorem text_eq (p:T_Path) (h:Small p):path_Text p=some (cond (patB p) (bstr (txtL p),0) (e0,5)):=by
 unfold path_Text
 refine bnd (check_eq p h) ?_
 cases hp:patB p
 ·exact cnd_t rfl rfl
 ·refine cnd_f rfl ?_
  unfold txtL
  cases hn:p.Null
  ·exact cnd_f rfl (cats p h _ _ rfl)
  ·exact cnd_t rfl rfl
theorem hasDot {x:List Int} (hb:byt x) (hl:x.length<4294967281):bytes_HasPrefix x [46]=some (decide (x.head? = some 46)):=by
 unfold bytes_HasPrefix
 cases x with
 | nil=>rfl
 | cons y x =>
  refine bndL (s:=decide (y=46)) (cnd_t (decide_eq_true (by simp only [List.length_cons,List.length_nil]; omega)) ?_) (by simp)
  have e1:sliO (y::x) 0 (([46]:List Int).length:Int)=some [y]:=by
   have:=sli_nat (y::x) (a:=0) (b:=1) (by omega) (by simp)
   simpa using this
  refine bnd e1 (bnd (x:=decide (y=46)) ?_ rfl)
  unfold bytes_Equal
  refine bnd rfl (bnd rfl ?_)
  rw [toList_beq]
  congr 1
  refine decide_eq_decide.2 ⟨fun h => ?_,fun h=>by rw [h]⟩
  have:=congrArg sbytes h
  rw [sbytes_bstr (by intro z hz; rw [List.mem_singleton] at hz; rw [hz]; exact hb y (by simp)),sbytes_bstr (by decide)] at this
  simpa using this
def stf (l:List Int):List Int:=if l.head? = some 46 then 46::l else l
theorem stf_byt {l:List Int} (h:byt l):byt (stf l):=by
 unfold stf; split
 ·intro x hx
  rcases List.mem_cons.1 hx with rfl | hx
  ·decide
  ·exact h x hx
 ·exact h
theorem stf_len (l:List Int):(stf l).length≤l.length+1:=by unfold stf; split <;> simp
theorem tot_stf:∀ ls:List (List Int),tot (ls.map stf)≤2 * tot ls
 | []=>by simp [tot]
 | l::ls=>by
  have h1:=stf_len l
  have h2:=tot_stf ls
  simp only [List.map_cons,tot]; omega
theorem tot_app:∀ a b:List (List Int),tot (a++b)=tot a+tot b
 | [],b=>by simp [tot]
 | x::a,b=>by simp only [List.cons_append,tot,tot_app a b]; omega
def stuffS:List Int→List Int→Option (List Int⊕Unit):=fun (x:(List Int)) (s21:(List Int)) =>
    bindS (S:=(List Int)) (A:=(((List Int))⊕(Unit)))
     ((bytes_HasPrefix x [46]).bind fun v4 =>
     cond (v4)
      ((appO 1 s21 (sbytes (⟨#[46]⟩:ByteArray))).bind fun v6 =>
      some (.inl v6))
      (some (.inl s21)))
     (fun (s29:(List Int)) =>
      (appO 1 s29 x).bind fun v12 =>
      (appO 1 v12 (sbytes (⟨#[13,10]⟩:ByteArray))).bind fun v13 =>
      some (.inl v13)) some
theorem sb46:sbytes (⟨#[46]⟩:ByteArray)=[46]:=rfl
theorem sbE:sbytes (⟨#[13,10]⟩:ByteArray)=[13,10]:=rfl
theorem sbD:sbytes (⟨#[46,13,10]⟩:ByteArray)=[46,13,10]:=rfl
theorem stuff_step {x s:List Int} (hb:byt x) (hl:s.length+x.length<4294960000):stuffS x s=some (.inl (s++(stf x++[13,10]))):=by
 unfold stuffS
 rw [sb46,sbE]
 by_cases h:x.head? = some 46
 ·have e:stf x=46::x:=by unfold stf; rw [if_pos h]
  rw [e]
  refine bndL (s:=s++[46]) (bnd (hasDot hb (by omega)) (cnd_t (decide_eq_true h) (bnd (app_of (by simp; omega) (by simp; omega)) rfl))) ?_
  refine bnd (app_of (by simp; omega) (by simp; omega)) (bnd (app_of (by simp; omega) (by simp; omega)) ?_)
  simp
 ·have e:stf x=x:=by unfold stf; rw [if_neg h]
  rw [e]
  refine bndL (s:=s) (bnd (hasDot hb (by omega)) (cnd_f (decide_eq_false h) rfl)) ?_
  refine bnd (app_of (by omega) (by omega)) (bnd (app_of (by simp; omega) (by simp; omega)) ?_)
  simp
theorem fol_stuff:∀ (ls:List (List Int)) (s:List Int),(∀ l∈ls,byt l)→s.length+2 * tot ls<4294960000→folL stuffS ls s=some (.inl (s++jn (ls.map stf)))
 | [],s,_,_=>by simp [folL,jn]
 | l::ls,s,hb,hs=>by
  simp only [tot] at hs
  have h1:=stf_len l
  simp only [folL]
  rw [stuff_step (hb l (by simp)) (by omega)]
  refine (fol_stuff ls _ (fun m hm=>hb m (by simp [hm])) (by simp only [List.length_append,List.length_cons,List.length_nil]; omega)).trans ?_
  simp [jn]
theorem stuff_ok {ls:List (List Int)} (h:∀ l∈ls,cln l) (hb:∀ l∈ls,byt l) (hl:tot ls<1000000000):dots_Stuff (jn ls)=some (jn (ls.map stf++[[46]]),0):=by
 unfold dots_Stuff dots_lines
 refine bnd (check_ok h hb (by omega)) (cnd_f rfl (bnd rfl ?_))
 refine bndL (s:=jn (ls.map stf)) (lines_range stuffS (lns_jn h) (jn_byt hb) (by rw [jn_len]; omega) _ _ ?_) ?_
 ·have:=fol_stuff ls [] hb (by simp; omega)
  simpa using this
 ·have h2:=tot_stf ls
  rw [sbD]
  refine bnd (app_of (by rw [jn_len]; simp; omega) (by rw [jn_len]; simp; omega)) ?_
  rw [jn_app]; rfl
def pW (p:T_Path):Nat:=p.Local.size+p.Domain.size
def psum:List T_Path→Nat
 | []=>0
 | p::l=>pW p+psum l
def mW (m:T_Mail):Nat:=m.Body.length+m.Helo.size+m.From.Local.size+m.From.Domain.size+psum m.To
theorem pW_le_psum {p:T_Path}:∀ {l:List T_Path},p∈l→pW p≤psum l
 | x::l,h=>by
  rcases List.mem_cons.1 h with rfl | h
  ·simp only [psum]; omega
  ·have:=pW_le_psum h; simp only [psum]; omega
def LM (m:T_Mail):Prop:=m.To.length≤40∧mW m≤20000
set_option maxRecDepth 10000
theorem lm_small {m:T_Mail} (h:LM m):Small m.From∧(∀ p∈m.To,Small p)∧m.Body.length≤20000∧m.To.length≤40:=by
 obtain ⟨h1,h2⟩:=h
 have h2':=h2
 simp only [mW] at h2
 refine ⟨⟨by omega,by omega⟩,fun p hp => ?_,by omega,h1⟩
 have:=pW_le_psum hp
 simp only [pW] at this
 exact ⟨by omega,by omega⟩
def coS (mails:List T_Mail):(((List Int)×Int))→Option (((List Int)×Int)⊕(((List Int))⊕(List Int))):=(fun ((s46,s47):(List Int)×Int) =>
 cond ((decide (s47<(mails.length:Int))))
  ((ixO s47 mails.length).bind fun v2 =>
  (getO mails v2).bind fun v3 =>
  (bundle_commands_1_clo (⟨#[77,65,73,76,32,70,82,79,77,58]⟩:ByteArray) (T_Path.mk v3.From.Null v3.From.Local v3.From.Domain) s46).bind fun v4 =>
  bindS (S:=((List Int))) (A:=(((List Int)×Int)⊕(((List Int))⊕(List Int))))
   (loopF (S:=((List Int)×Int)) (O:=((List Int))⊕(((List Int)×Int)⊕(((List Int))⊕(List Int)))) (fun ((s76,s77):(List Int)×Int) =>
    cond ((decide (s77<(v3.To.length:Int))))
     ((ixO s77 v3.To.length).bind fun v6 =>
     (getO v3.To v6).bind fun v7 =>
     (bundle_commands_1_clo (⟨#[82,67,80,84,32,84,79,58]⟩:ByteArray) v7 s76).bind fun v8 =>
     (some (IntKind.i64.wrap (s77+1))).bind fun v9 =>
     some (.inl (v8,v9)))
     (some (.inr (.inl s76))))
    BIG (v4,0))
   (fun (s79:(List Int)) =>
    (appO 1 s79 (sbytes (⟨#[68,65,84,65,13,10]⟩:ByteArray))).bind fun v24 =>
    (dots_Stuff v3.Body).bind fun v25 =>
    (appO 1 v24 v25.1).bind fun v26 =>
    (some (IntKind.i64.wrap (s47+1))).bind fun v27 =>
    some (.inl (v26,v27))) some)
  (some (.inr (.inl s46))))
def ciS (v3:T_Mail):(((List Int)×Int))→Option (((List Int)×Int)⊕(((List Int))⊕(((List Int)×Int)⊕(((List Int))⊕(List Int))))):=(fun ((s76,s77):(List Int)×Int) =>
    cond ((decide (s77<(v3.To.length:Int))))
     ((ixO s77 v3.To.length).bind fun v6 =>
     (getO v3.To v6).bind fun v7 =>
     (bundle_commands_1_clo (⟨#[82,67,80,84,32,84,79,58]⟩:ByteArray) v7 s76).bind fun v8 =>
     (some (IntKind.i64.wrap (s77+1))).bind fun v9 =>
     some (.inl (v8,v9)))
     (some (.inr (.inl s76))))
def mailW:List Int:=[77,65,73,76,32,70,82,79,77,58]
def rcptW:List Int:=[82,67,80,84,32,84,79,58]
def lnL (w:List Int) (p:T_Path):List Int:=w++(txtL p++[13,10])
def rcs:List T_Path→List Int
 | []=>[]
 | p::l=>lnL rcptW p++rcs l
theorem rcs_app:∀ a b,rcs (a++b)=rcs a++rcs b
 | [],b=>rfl
 | p::a,b=>by simp only [List.cons_append,rcs,rcs_app a b,List.append_assoc]
def stfB (b:List Int):List Int:=((dots_Stuff b).map (·.1)).getD []
def cmd (m:T_Mail):List Int:=lnL mailW m.From++(rcs m.To++([68,65,84,65,13,10]++stfB m.Body))
def cmds:List T_Mail→List Int
 | []=>[]
 | m::l=>cmd m++cmds l
theorem cmds_app:∀ a b,cmds (a++b)=cmds a++cmds b
 | [],b=>rfl
 | p::a,b=>by simp only [List.cons_append,cmds,cmds_app a b,List.append_assoc]
structure Vm (m:T_Mail):Prop where
 lm:LM m
 pf:patB m.From=true
 pt:∀ p∈m.To,patB p=true
 bd:∃ ls,(∀ l∈ls,cln l)∧(∀ l∈ls,byt l)∧m.Body=jn ls
theorem txt_len {p:T_Path} (h:pW p≤20000):(txtL p).length≤20010:=by
 simp only [pW] at h
 unfold txtL
 cases p.Null
 ·simp only [cond_false,List.length_cons,List.length_append,sbytes_len,List.length_nil]; omega
 ·simp
theorem clo_eq {word:ByteArray} {w:List Int} {p:T_Path} {cap:List Int} (hw:sbytes word=w) (hwl:w.length≤100) (hp:patB p=true) (hs:Small p) (hpl:pW p≤20000) (hc:cap.length≤1000000000):bundle_commands_1_clo word p cap=some (cap++lnL w p):=by
 have hl:=txt_len hpl
 unfold bundle_commands_1_clo
 have hb:sbytes (bstr (txtL p))=txtL p:=sbytes_bstr (byt_txt p)
 have hwb:byt w:=by rw [← hw]; exact byt_sbytes word
 have h2:sbytes (bstr (w++txtL p))=w++txtL p:=sbytes_bstr (byt_app hwb (byt_txt p))
 have h3:byt [13,10]:=by intro x hx; simp only [List.mem_cons,List.not_mem_nil,or_false] at hx; omega
 have h4:sbytes (bstr ((w++txtL p)++[13,10]))=lnL w p:=by rw [sbytes_bstr (byt_app (byt_app hwb (byt_txt p)) h3)]; simp [lnL]
 refine bnd ((text_eq p hs).trans (by rw [hp])) (bnd (catL hw hb (by omega)) (bnd (catL h2 sbE (by simp only [List.length_append,List.length_cons,List.length_nil]; omega)) (bnd ?_ rfl)))
 rw [h4]
 exact app_of (by simp only [lnL,List.length_append,List.length_cons,List.length_nil]; omega) (by simp only [lnL,List.length_append,List.length_cons,List.length_nil]; omega)
theorem lnL_len {w:List Int} {p:T_Path} (hw:w.length≤100) (hpl:pW p≤20000):(lnL w p).length≤20200:=by
 have:=txt_len hpl
 simp only [lnL,List.length_append,List.length_cons,List.length_nil]; omega
theorem rcs_len:∀ {l:List T_Path},(∀ p∈l,pW p≤20000)→(rcs l).length≤l.length * 20200
 | [],_=>by simp [rcs]
 | p::l,h=>by
  have h1:=lnL_len (w:=rcptW) (by decide) (h p List.mem_cons_self)
  have h2:=rcs_len (l:=l) fun q hq=>h q (List.mem_cons_of_mem _ hq)
  simp only [rcs,List.length_append,List.length_cons]; omega
theorem lm_pw {m:T_Mail} (h:LM m):pW m.From≤20000∧∀ p∈m.To,pW p≤20000:=by
 obtain ⟨h1,h2⟩:=h
 simp only [mW] at h2
 refine ⟨by simp only [pW]; omega,fun p hp => ?_⟩
 have:=pW_le_psum hp
 omega
theorem stfB_eq {m:T_Mail} (h:Vm m):dots_Stuff m.Body=some (stfB m.Body,0)∧(stfB m.Body).length≤50000:=by
 obtain ⟨ls,h1,h2,h3⟩:=h.bd
 have hl:=(lm_small h.lm).2.2.1
 have ht:tot ls≤20000:=by rw [← jn_len,← h3]; exact hl
 have hs:=stuff_ok h1 h2 (by omega:tot ls<1000000000)
 rw [← h3] at hs
 have e:stfB m.Body=jn (ls.map stf++[[46]]):=by unfold stfB; rw [hs]; rfl
 refine ⟨by rw [e]; exact hs,?_⟩
 rw [e,jn_len,tot_app]
 have:=tot_stf ls
 simp only [tot,List.length_cons,List.length_nil]
 omega
theorem cmd_len {m:T_Mail} (h:Vm m):(cmd m).length≤1000000:=by
 obtain ⟨h1,h2⟩:=lm_pw h.lm
 have a:=lnL_len (w:=mailW) (by decide) h1
 have b:=rcs_len h2
 have c:=(stfB_eq h).2
 have d:=h.lm.1
 have e:m.To.length * 20200≤40 * 20200:=Nat.mul_le_mul_right _ d
 simp only [cmd,List.length_append,List.length_cons,List.length_nil]; omega
theorem cmds_len:∀ {l:List T_Mail},(∀ m∈l,Vm m)→(cmds l).length≤l.length * 1000000
 | [],_=>by simp [cmds]
 | p::l,h=>by
  have h1:=cmd_len (h p List.mem_cons_self)
  have h2:=cmds_len (l:=l) fun q hq=>h q (List.mem_cons_of_mem _ hq)
  simp only [cmds,List.length_append,List.length_cons]; omega
theorem ci_loop {m:T_Mail} (h:Vm m) (A:List Int) (hA:A.length≤100000000):loopF (ciS m) BIG (A,0)=some (.inl (A++rcs m.To)):=by
 obtain ⟨h1,h2⟩:=lm_pw h.lm
 have hsm:=(lm_small h.lm).2.1
 have d:=h.lm.1
 refine loop_from (fun i=>(A++rcs (m.To.take i),((i:Nat):Int))) m.To.length BIG (by simp [rcs]) (by simp only [BIG]; omega) (fun i hi => ?_) ?_
 ·have hm:=List.getElem_mem hi
  have hb:=rcs_len (l:=m.To.take i) fun p hp=>h2 p (List.mem_of_mem_take hp)
  have hbl:(m.To.take i).length≤40:=by simp only [List.length_take]; omega
  have hb':(m.To.take i).length * 20200≤40 * 20200:=Nat.mul_le_mul_right _ hbl
  have e:rcs (m.To.take (i+1))=rcs (m.To.take i)++lnL rcptW m.To[i]:=by
   rw [List.take_succ_eq_append_getElem hi,rcs_app]
   simp only [rcs,List.append_nil]
  refine cnd_t (decide_eq_true (by omega)) (bnd (ixO_of hi) (bnd (by simp [getO,hi]:getO m.To i=some m.To[i]) (bnd (clo_eq (w:=rcptW) rfl (by decide) (h.pt _ hm) (hsm _ hm) (h2 _ hm) (by simp only [List.length_append]; omega)) (bnd (congrArg some (wrap_succ (n:=i) (by omega))) ?_))))
  rw [e,List.append_assoc]
 ·simp only [List.take_length]
  exact cnd_f (decide_eq_false (by omega)) rfl
theorem commands_eq {l:List T_Mail} (h:∀ m∈l,Vm m) (hl:l.length≤20):bundle_commands l=some (cmds l++[81,85,73,84,13,10]):=by
 unfold bundle_commands
 have hcl:=cmds_len h
 refine bndL (s:=cmds l) (loop_from (f:=coS l) (fun i=>(cmds (l.take i),((i:Nat):Int))) l.length BIG (by simp [cmds]) (by simp only [BIG]; omega) (fun i hi => ?_) ?_) (bnd (app_of (by simp only [sbytes_len]; show _≤_; have:(⟨#[81,85,73,84,13,10]⟩:ByteArray).size=6:=rfl; omega) (by simp only [sbytes_len]; have:(⟨#[81,85,73,84,13,10]⟩:ByteArray).size=6:=rfl; omega)) rfl)
 ·have hm:=h _ (List.getElem_mem hi)
  obtain ⟨h1,h2⟩:=lm_pw hm.lm
  have hsm:=lm_small hm.lm
  have hb:=cmds_len (l:=l.take i) fun p hp=>h p (List.mem_of_mem_take hp)
  have hbl:(l.take i).length≤20:=by simp only [List.length_take]; omega
  have hb':(l.take i).length * 1000000≤20 * 1000000:=Nat.mul_le_mul_right _ hbl
  have a:=lnL_len (w:=mailW) (by decide) h1
  have hr:=rcs_len h2
  have hr':l[i].To.length * 20200≤40 * 20200:=Nat.mul_le_mul_right _ hm.lm.1
  obtain ⟨hs1,hs2⟩:=stfB_eq hm
  have e:cmds (l.take (i+1))=cmds (l.take i)++cmd l[i]:=by
   rw [List.take_succ_eq_append_getElem hi,cmds_app]
   simp only [cmds,List.append_nil]
  refine cnd_t (decide_eq_true (by omega)) (bnd (ixO_of hi) (bnd (by simp [getO,hi]:getO l i=some l[i]) (bnd (clo_eq (w:=mailW) (p:=l[i].From) rfl (by decide) hm.pf hsm.1 h1 (by omega)) (bndL (ci_loop hm _ (by simp only [List.length_append]; omega)) (bnd (app_of (m:=[68,65,84,65,13,10]) (by simp only [List.length_append,List.length_cons,List.length_nil]; omega) (by simp only [List.length_append,List.length_cons,List.length_nil]; omega)) (bnd hs1 (bnd (app_of (by simp only [List.length_append,List.length_cons,List.length_nil]; omega) (by simp only [List.length_append,List.length_cons,List.length_nil]; omega)) (bnd (congrArg some (wrap_succ (n:=i) (by omega))) ?_))))))))
  rw [e]
  simp only [cmd,List.append_assoc]
 ·simp only [List.take_length]
  exact cnd_f (decide_eq_false (by omega)) rfl
set_option maxRecDepth 10000
def dgA:Nat→Nat→List Int→List Int
 | 0,n,acc=>(48+(n:Int))::acc
 | k+1,n,acc=>if n≤9 then (48+(n:Int))::acc else dgA k (n / 10) ((48+((n % 10:Nat):Int))::acc)
def dig1 (c:Int):Prop:=48≤c∧c≤57
theorem dgA_ok:∀ (k n:Nat) (acc:List Int),n<10 ^ (k+1)→∃ t,dgA k n acc=t++acc∧(∀ x∈t,dig1 x)∧1≤t.length∧t.length≤k+1
 | 0,n,acc,hn=>⟨[48+(n:Int)],rfl,fun x hx=>by simp at hx; subst hx; simp at hn; exact ⟨by omega,by omega⟩,by simp,by simp⟩
 | k+1,n,acc,hn=>by
  unfold dgA
  by_cases h9:n≤9
  ·rw [if_pos h9]
   exact ⟨[48+(n:Int)],rfl,fun x hx=>by simp at hx; subst hx; exact ⟨by omega,by omega⟩,by simp,by simp⟩
  ·rw [if_neg h9]
   have hn2:n / 10<10 ^ (k+1):=by rw [Nat.pow_succ] at hn; omega
   obtain ⟨t,e,h1,h2,h3⟩:=dgA_ok k (n / 10) ((48+((n % 10:Nat):Int))::acc) hn2
   refine ⟨t++[48+((n % 10:Nat):Int)],by rw [e]; simp,fun x hx => ?_,by simp,by simp; omega⟩
   rcases List.mem_append.1 hx with hx | hx
   ·exact h1 x hx
   ·simp at hx; subst hx; exact ⟨by omega,by omega⟩
theorem dec_dgA:∀ (k n:Nat) (acc:List Int),n<10 ^ (k+1)→(Lib.decDigits n).map (fun b=>(b.toNat:Int))++acc=dgA k n acc
 | 0,n,acc,hn=>by
  have h:n<10:=by simpa using hn
  rw [Lib.decDigits_one h]
  show ((UInt8.ofNat (48+n)).toNat:Int)::acc=(48+(n:Int))::acc
  rw [UInt8.toNat_ofNat',Nat.mod_eq_of_lt (by omega)]
  simp
 | k+1,n,acc,hn=>by
  unfold dgA
  by_cases h9:n≤9
  ·rw [if_pos h9,Lib.decDigits_one (by omega)]
   show ((UInt8.ofNat (48+n)).toNat:Int)::acc=(48+(n:Int))::acc
   rw [UInt8.toNat_ofNat',Nat.mod_eq_of_lt (by omega)]
   simp
  ·rw [if_neg h9]
   have hn2:n / 10<10 ^ (k+1):=by rw [Nat.pow_succ] at hn; omega
   rw [← dec_dgA k (n / 10) _ hn2,Lib.decDigits,dif_neg (by omega)]
   simp only [List.map_append,List.map_cons,List.map_nil,List.append_assoc,List.cons_append,List.nil_append]
   rw [UInt8.toNat_ofNat',Nat.mod_eq_of_lt (by omega)]
   simp
def tenT:ByteArray:=⟨#[48,49,50,51,52,53,54,55,56,57]⟩
theorem tenT_all:(List.range 10).all (fun k=>decide (subO tenT ((k:Nat):Int) ((k+1:Nat):Int)=some (bstr [48+((k:Nat):Int)])))=true:=by kernel_rfl
theorem tenT_of {k:Nat} (h:k<10):subO tenT (k:Int) ((k+1:Nat):Int)=some (bstr [48+(k:Int)]):=by
 have:=List.all_eq_true.1 tenT_all k (List.mem_range.2 h)
 exact of_decide_eq_true this
theorem byt_dg {n:Nat} (h:n≤9):byt [48+(n:Int)]:=byt_cons (by omega) byt_nil
theorem itoa_eq (k n:Nat) (h:n<10 ^ (k+1)) (h2:n<9000000000000000000):strconv_Itoa (n:Int)=some (bstr (dgA k n [])):=by
 unfold strconv_Itoa
 rw [if_pos (by omega),← dec_dgA k n [] h]
 congr 1
 have:Lib.itoa (n:Int)=Lib.decDigits n:=by unfold Lib.itoa; rw [if_neg (by omega),Int.toNat_natCast]
 rw [this,List.append_nil]
 apply sbytes_inj
 rw [sbytes_bstr (fun x hx=>by
  obtain ⟨b,_,rfl⟩:=List.mem_map.1 hx
  have:=b.toNat_lt
  omega)]
 simp [sbytes]
set_option maxRecDepth 10000
def byL (b:T_Bundle) (v3:List Int) (v4:Int):((ByteArray×Int))→Option ((ByteArray×Int)⊕((ByteArray)⊕((List Int)×Int))):=(fun ((s51,s52):ByteArray×Int) =>
  cond ((decide (s52<(([b.Origin,b.Number,(b.Mails.length:Int),(v3.length:Int),v4].length:Int)))))
   ((ixO s52 [b.Origin,b.Number,(b.Mails.length:Int),(v3.length:Int),v4].length).bind fun v6 =>
   (getO [b.Origin,b.Number,(b.Mails.length:Int),(v3.length:Int),v4] v6).bind fun v7 =>
   (strconv_Itoa v7).bind fun v8 =>
   (catO (⟨#[32]⟩:ByteArray) v8).bind fun v9 =>
   (catO s51 v9).bind fun v10 =>
   (some (IntKind.i64.wrap (s52+1))).bind fun v11 =>
   some (.inl (v10,v11)))
   (some (.inr (.inl s51))))
def bunW:List Int:=[66,85,78,68,76,69]
def nmsL:List Nat→List Int
 | []=>[]
 | n::l=>32::(dgA 20 n []++nmsL l)
theorem nmsL_app:∀ a b,nmsL (a++b)=nmsL a++nmsL b
 | [],b=>rfl
 | n::a,b=>by simp only [List.cons_append,nmsL,nmsL_app a b,List.append_assoc]
theorem dg_byt {n:Nat} (h:n<10 ^ 18):byt (dgA 20 n [])∧(dgA 20 n []).length≤21:=by
 obtain ⟨t,h1,h2,h3,h4⟩:=dgA_ok 20 n [] (by omega)
 rw [h1,List.append_nil]
 exact ⟨fun x hx=>by have:=h2 x hx; unfold dig1 at this; omega,h4⟩
theorem nms_byt:∀ {l:List Nat},(∀ n∈l,n<10 ^ 18)→byt (nmsL l)∧(nmsL l).length≤l.length * 22
 | [],_=>⟨byt_nil,by simp [nmsL]⟩
 | n::l,h=>by
  obtain ⟨h1,h2⟩:=dg_byt (h n List.mem_cons_self)
  obtain ⟨h3,h4⟩:=nms_byt (l:=l) fun x hx=>h x (List.mem_cons_of_mem _ hx)
  refine ⟨byt_cons (by omega) (byt_app h1 h3),?_⟩
  simp only [nmsL,List.length_cons,List.length_append]; omega
theorem by_loop (b:T_Bundle) (v3:List Int) (v4:Int) (ns:List Nat) (hns:[b.Origin,b.Number,(b.Mails.length:Int),(v3.length:Int),v4]=ns.map (fun n:Nat=>(n:Int))) (hn:∀ n∈ns,n<10 ^ 18) :
  loopF (byL b v3 v4) BIG ((⟨#[66,85,78,68,76,69]⟩:ByteArray),0)=some (.inl (bstr (bunW++nmsL ns))):=by
 have hl:ns.length=5:=by have:=congrArg List.length hns; simpa using this.symm
 have hbw:byt bunW:=by intro x hx; simp only [bunW,List.mem_cons,List.not_mem_nil,or_false] at hx; omega
 have hB:∀ i,sbytes (bstr (bunW++nmsL (ns.take i)))=bunW++nmsL (ns.take i):=fun i=>sbytes_bstr (byt_app hbw (nms_byt fun n h=>hn n (List.mem_of_mem_take h)).1)
 refine loop_from (fun i=>(bstr (bunW++nmsL (ns.take i)),((i:Nat):Int))) ns.length BIG (by simp only [List.take_zero,nmsL,List.append_nil]; rfl) (by simp only [BIG]; omega) (fun i hi => ?_) ?_
 ·have hi5:i<5:=by omega
  have hlen:(([b.Origin,b.Number,(b.Mails.length:Int),(v3.length:Int),v4].length:Nat))=5:=rfl
  have hni:=hn _ (List.getElem_mem hi)
  obtain ⟨hd1,hd2⟩:=dg_byt hni
  have hnl:=(nms_byt (l:=ns.take i) fun n h=>hn n (List.mem_of_mem_take h)).2
  have htl:(ns.take i).length≤5:=by simp only [List.length_take]; omega
  have hg:getO [b.Origin,b.Number,(b.Mails.length:Int),(v3.length:Int),v4] i=some ((ns[i]:Nat):Int):=by rw [hns]; simp [getO,hi]
  have e:nmsL (ns.take (i+1))=nmsL (ns.take i)++(32::dgA 20 ns[i] []):=by
   rw [List.take_succ_eq_append_getElem hi,nmsL_app]
   simp only [nmsL,List.append_nil]
  have h32:sbytes (⟨#[32]⟩:ByteArray)=[32]:=rfl
  have hbl:bunW.length=6:=rfl
  refine cnd_t (decide_eq_true (by rw [hlen]; omega)) (bnd (ixO_of (by rw [hlen]; exact hi5)) (bnd hg (bnd (itoa_eq 20 _ (by omega) (by omega)) (bnd (catL h32 (sbytes_bstr hd1) (by simp only [List.length_cons,List.length_nil]; omega)) (bnd (catL (hB i) (sbytes_bstr (byt_app (byt_cons (by omega) byt_nil) hd1)) (by simp only [List.length_append,List.length_cons,List.length_nil]; omega)) (bnd (congrArg some (wrap_succ (n:=i) (by omega))) ?_))))))
  rw [e,List.append_assoc]
  rfl
 ·simp only [List.take_length]
  have hlen:(([b.Origin,b.Number,(b.Mails.length:Int),(v3.length:Int),v4].length:Nat))=5:=rfl
  exact cnd_f (decide_eq_false (by rw [hlen]; omega)) rfl
theorem bytes_eq {b:T_Bundle} {ns:List Nat} {v:Int} (hc:bundle_Check b=some 0) (hm:∀ m∈b.Mails,Vm m) (hl:b.Mails.length≤20) (hs:sums_Long (cmds b.Mails++[81,85,73,84,13,10])=some v)
  (hns:[b.Origin,b.Number,(b.Mails.length:Int),((cmds b.Mails++[81,85,73,84,13,10]).length:Int),v]=ns.map (fun n:Nat=>(n:Int))) (hn:∀ n∈ns,n<10 ^ 18) :
  bundle_Bytes b=some (if 4096<((bunW++nmsL ns)++[13,10]++(cmds b.Mails++[81,85,73,84,13,10])).length then ([],2) else ((bunW++nmsL ns)++[13,10]++(cmds b.Mails++[81,85,73,84,13,10]),0)):=by
 obtain ⟨c,hcd⟩:∃ c,c=cmds b.Mails++[81,85,73,84,13,10]:=⟨_,rfl⟩
 have hcl:c.length≤20000006:=by
  have h1:=cmds_len hm
  have h2:b.Mails.length * 1000000≤20 * 1000000:=Nat.mul_le_mul_right _ hl
  rw [hcd]; simp only [List.length_append,List.length_cons,List.length_nil]; omega
 have hcm:=commands_eq hm hl
 rw [← hcd] at hs hns hcm ⊢
 have hlp:=by_loop b c v ns hns hn
 have hl5:ns.length=5:=by have:=congrArg List.length hns; simpa using this.symm
 obtain ⟨hb1,hb2⟩:=nms_byt hn
 have hbw:byt bunW:=by intro x hx; simp only [bunW,List.mem_cons,List.not_mem_nil,or_false] at hx; omega
 have hbl:bunW.length=6:=rfl
 have h13:byt [13,10]:=by intro x hx; simp only [List.mem_cons,List.not_mem_nil,or_false] at hx; omega
 unfold bundle_Bytes
 refine bnd hc (cnd_f rfl (bnd hcm (bnd hs (bndL hlp (bnd (catL (sbytes_bstr (byt_app hbw hb1)) sbE (by simp only [List.length_append,List.length_cons,List.length_nil]; omega)) (bnd (congrArg some (sbytes_bstr (byt_app (byt_app hbw hb1) h13))) (bnd (app_of (by simp only [List.length_append,List.length_cons,List.length_nil]; omega) (by simp only [List.length_append,List.length_cons,List.length_nil]; omega)) ?_)))))))
 by_cases h:4096<((bunW++nmsL ns)++[13,10]++c).length
 ·rw [if_pos h]; exact cnd_t (decide_eq_true (by omega)) rfl
 ·rw [if_neg h]; exact cnd_f (decide_eq_false (by omega)) rfl
set_option maxRecDepth 10000
def evS (m:T_Mail):Int→Option (Int⊕(Unit⊕Bool)):=(fun (s24:Int) =>
      cond ((decide (s24<(m.To.length:Int))))
       ((ixO s24 m.To.length).bind fun v8 =>
       (getO m.To v8).bind fun v9 =>
       bindS (S:=Bool) (A:=((Int)⊕((Unit)⊕Bool)))
        ((path_Check v9).bind fun v10 =>
        cond ((v10 != 0))
         (some (.inl true))
         (some (.inl v9.Null)))
        (fun (s38:Bool) =>
         cond (s38)
          (some (.inr (.inr (false))))
          ((some (IntKind.i64.wrap (s24+1))).bind fun v16 =>
          some (.inl v16))) some)
       (some (.inr (.inl ()))))
theorem inl_of {A:Type} {a b:Bool} (h:a=b):(some (.inl a):Option (Bool⊕A))=some (.inl b):=by rw [h]
theorem env_eq {m:T_Mail} (h:LM m):∃ c,envelope_Valid m=some c∧(c=true→patB m.From=true∧∀ p∈m.To,patB p=true):=by
 obtain ⟨hs1,hs2,hs3,hs4⟩:=lm_small h
 unfold envelope_Valid
 cases hF:patB m.From
 ·exact ⟨false,bndL (s:=true) (bnd (check_eq _ hs1) (cnd_t (by rw [hF]; rfl) rfl)) (cnd_t rfl rfl),fun h=>by cases h⟩
 by_cases h1:m.To.length<1
 ·exact ⟨false,bndL (s:=true) (bnd (check_eq _ hs1) (cnd_f (by rw [hF]; rfl) (cnd_t (decide_eq_true (by omega)) rfl))) (cnd_t rfl rfl),fun h=>by cases h⟩
 by_cases h8:8<m.To.length
 ·exact ⟨false,bndL (s:=true) (bnd (check_eq _ hs1) (cnd_f (by rw [hF]; rfl) (cnd_f (decide_eq_false (by omega)) (inl_of (decide_eq_true (by omega)))))) (cnd_t rfl rfl),fun h=>by cases h⟩
 have step:∀ (i:Nat) (hi:i<m.To.length),(patB m.To[i] && !m.To[i].Null)=true→evS m (i:Int)=some (.inl ((i+1:Nat):Int)):=by
  intro i hi hp
  rw [Bool.and_eq_true] at hp
  exact cnd_t (decide_eq_true (by omega)) (bnd (ixO_of hi) (bnd (by simp [getO,hi]:getO m.To i=some m.To[i]) (bndL (s:=false) (bnd (check_eq _ (hs2 _ (List.getElem_mem hi))) (cnd_f (by rw [hp.1]; rfl) (inl_of (by simpa using hp.2)))) (cnd_f rfl (bnd (congrArg some (wrap_succ (n:=i) (by omega))) rfl)))))
 rcases first_fail (fun i=>decide (∀ hi:i<m.To.length,(patB m.To[i] && !m.To[i].Null)=true)) m.To.length with ha | ⟨k,hk,hb,hno⟩
 ·refine ⟨true,bndL (s:=false) (bnd (check_eq _ hs1) (cnd_f (by rw [hF]; rfl) (cnd_f (decide_eq_false (by omega)) (inl_of (decide_eq_false (by omega)))))) (cnd_f rfl (bndL (s:=()) (loop_from (f:=evS m) (fun i=>((i:Nat):Int)) m.To.length BIG rfl (by simp only [BIG]; omega) (fun i hi=>step i hi (of_decide_eq_true (ha i hi) hi)) (cnd_f (decide_eq_false (by omega)) rfl)) rfl)),fun _=>⟨rfl,fun p hp => ?_⟩⟩
  obtain ⟨i,hi,rfl⟩:=List.getElem_of_mem hp
  have:=of_decide_eq_true (ha i hi) hi
  rw [Bool.and_eq_true] at this
  exact this.1
 ·have hn:¬ (patB m.To[k] && !m.To[k].Null)=true:=fun h=>by
   have:=of_decide_eq_false hno
   exact this fun _=>h
  refine ⟨false,bndL (s:=false) (bnd (check_eq _ hs1) (cnd_f (by rw [hF]; rfl) (cnd_f (decide_eq_false (by omega)) (inl_of (decide_eq_false (by omega)))))) (cnd_f rfl (bndR (a:=false) (loop_from (f:=evS m) (fun i=>((i:Nat):Int)) k BIG rfl (by simp only [BIG]; omega) (fun i hi=>step i (by omega) (of_decide_eq_true (hb i hi) (by omega))) ?_) rfl)),fun h=>by cases h⟩
  refine cnd_t (decide_eq_true (by omega)) (bnd (ixO_of hk) (bnd (by simp [getO,hk]:getO m.To k=some m.To[k]) (bndL (s:=true) (bnd (check_eq _ (hs2 _ (List.getElem_mem hk))) ?_) (cnd_t rfl rfl))))
  cases hp:patB m.To[k]
  ·exact cnd_t rfl rfl
  ·refine cnd_f rfl (inl_of ?_)
   rw [hp] at hn
   cases hu:m.To[k].Null
   ·rw [hu] at hn; exact absurd rfl hn
   ·rfl
theorem vm_eq {m:T_Mail} (h:LM m) (hb:byt m.Body):∃ c,bundle_validMail m=some c∧(c=true→Vm m):=by
 obtain ⟨e,he,hev⟩:=env_eq h
 have hl:=(lm_small h).2.2.1
 unfold bundle_validMail
 cases e
 ·exact ⟨false,bndL (s:=false) (bnd he (cnd_f rfl rfl)) rfl,fun h=>by cases h⟩
 by_cases h4:m.Body.length≤4096
 ·rcases check_any hb (by omega) with hd | ⟨ls,a,c,d⟩
  ·exact ⟨false,bndL (s:=false) (bnd he (cnd_t rfl (cnd_t (decide_eq_true (by omega)) (bnd hd rfl)))) rfl,fun h=>by cases h⟩
  ·have hd:dots_Check m.Body=some 0:=by rw [d]; exact check_ok a c (by rw [← jn_len,← d]; omega)
   exact ⟨true,bndL (s:=true) (bnd he (cnd_t rfl (cnd_t (decide_eq_true (by omega)) (bnd hd rfl)))) rfl,fun _=>⟨h,(hev rfl).1,(hev rfl).2,ls,a,c,d⟩⟩
 ·exact ⟨false,bndL (s:=false) (bnd he (cnd_t rfl (cnd_f (decide_eq_false (by omega)) rfl))) rfl,fun h=>by cases h⟩
set_option maxRecDepth 10000
def bcS (b:T_Bundle):((Int))→Option ((Int)⊕((Unit)⊕Int)):=(fun (s28:Int) =>
       cond ((decide (s28<(b.Mails.length:Int))))
        ((ixO s28 b.Mails.length).bind fun v12 =>
        (getO b.Mails v12).bind fun v13 =>
        bindS (S:=Bool) (A:=((Int)⊕((Unit)⊕Int)))
         ((bundle_validMail ((T_Mail.mk (T_Path.mk v13.From.Null v13.From.Local v13.From.Domain) v13.To v13.Body v13.Quiet v13.Helo v13.At))).bind fun v14 =>
         cond ((!v14))
          (some (.inl true))
          (cond (v13.Quiet)
           (some (.inl true))
           (cond ((!(v13.Helo.toList==(⟨#[]⟩:ByteArray).toList)))
            (some (.inl true))
            (some (.inl (v13.At != 0))))))
         (fun (s42:Bool) =>
          cond (s42)
           (some (.inr (.inr (5))))
           ((some (IntKind.i64.wrap (s28+1))).bind fun v20 =>
           some (.inl v20))) some)
        (some (.inr (.inl ()))))
theorem loop_prop {f:Int→Option (Int⊕(Unit⊕Int))} {P:Nat→Prop} (n:Nat) (h:∀ i:Nat,i<n→(f (i:Int)=some (.inl ((i+1:Nat):Int))∧P i)∨f (i:Int)=some (.inr (.inr 5))) (hend:f (n:Int)=some (.inr (.inl ()))) :
  ∀ (d i fuel:Nat),i+d=n→d<fuel→(loopF f fuel (i:Int)=some (.inl ())∧∀ j,i≤j→j<n→P j)∨loopF f fuel (i:Int)=some (.inr 5)
 | d,i,0,_,hf=>absurd hf (Nat.not_lt_zero d)
 | 0,i,fuel+1,hd,hf=>by
  obtain rfl:i=n:=by omega
  exact .inl ⟨loop_exit hend,fun j h1 h2=>by omega⟩
 | d+1,i,fuel+1,hd,hf=>by
  rcases h i (by omega) with ⟨h1,hp⟩ | h1
  ·rcases loop_prop n h hend d (i+1) fuel (by omega) (by omega) with ⟨h2,h3⟩ | h2
   ·refine .inl ⟨by rw [loop_next h1]; exact h2,fun j h4 h5 => ?_⟩
    by_cases e:j=i
    ·rw [e]; exact hp
    ·exact h3 j (by omega) h5
   ·exact .inr (by rw [loop_next h1]; exact h2)
  ·exact .inr (loop_exit h1)
theorem chk_eq {b:T_Bundle} (hm:∀ m∈b.Mails,LM m∧byt m.Body) (hl:b.Mails.length≤20) :
  ∃ e,bundle_Check b=some e∧(e=0∨e=5)∧(e=0→(b.Origin=0∨b.Origin=1)∧1≤b.Number∧b.Number≤65535∧1≤b.Mails.length∧b.Mails.length≤4∧∀ m∈b.Mails,Vm m):=by
 unfold bundle_Check
 have five:∀ {Q:Prop},(5:Int)=0→Q:=fun h=>absurd h (by decide)
 by_cases o:b.Origin=0∨b.Origin=1
 case neg =>
  have o0:b.Origin≠0:=fun h=>o (.inl h)
  have o1:b.Origin≠1:=fun h=>o (.inr h)
  exact ⟨5,bndL (s:=true) (cnd_t (by simpa using o0) (cnd_t (by simpa using o1) rfl)) (cnd_t rfl rfl),.inr rfl,five⟩
 by_cases nn:1≤b.Number∧b.Number≤65535
 case neg =>
  refine ⟨5,bndL (s:=true) ?_ (cnd_t rfl rfl),.inr rfl,five⟩
  have tail:∀ {A:Type},(cond (decide (b.Number<1)) (some (.inl true)) (some (.inl (decide (65535<b.Number)))):Option (Bool⊕A))=some (.inl true):=by
   intro A
   by_cases h:b.Number<1
   ·exact cnd_t (decide_eq_true h) rfl
   ·exact cnd_f (decide_eq_false h) (inl_of (decide_eq_true (by omega)))
  rcases o with o | o
  ·exact cnd_f (by rw [o]; rfl) tail
  ·exact cnd_t (by rw [o]; rfl) (cnd_f (by rw [o]; rfl) tail)
 have first:(cond (b.Origin != 0) (cond (b.Origin != 1) (some (.inl true)) (cond (decide (b.Number<1)) (some (.inl true)) (some (.inl (decide (65535<b.Number)))))) (cond (decide (b.Number<1)) (some (.inl true)) (some (.inl (decide (65535<b.Number))))):Option (Bool⊕Int))=some (.inl false):=by
  have tail:(cond (decide (b.Number<1)) (some (.inl true)) (some (.inl (decide (65535<b.Number)))):Option (Bool⊕Int))=some (.inl false):=cnd_f (decide_eq_false (by omega)) (inl_of (decide_eq_false (by omega)))
  rcases o with o | o
  ·exact cnd_f (by rw [o]; rfl) tail
  ·exact cnd_t (by rw [o]; rfl) (cnd_f (by rw [o]; rfl) tail)
 by_cases ml:1≤b.Mails.length∧b.Mails.length≤4
 case neg =>
  refine ⟨5,bndL first (cnd_f rfl (bndL (s:=true) ?_ (cnd_t rfl rfl))),.inr rfl,five⟩
  by_cases h:b.Mails.length<1
  ·exact cnd_t (decide_eq_true (by omega)) rfl
  ·exact cnd_f (decide_eq_false (by omega)) (inl_of (decide_eq_true (by omega)))
 have hstep:∀ i:Nat,i<b.Mails.length→(bcS b (i:Int)=some (.inl ((i+1:Nat):Int))∧(∀ hi:i<b.Mails.length,Vm b.Mails[i]))∨bcS b (i:Int)=some (.inr (.inr 5)):=by
  intro i hi
  obtain ⟨h3,h4⟩:=hm _ (List.getElem_mem hi)
  obtain ⟨c,hc,hv⟩:=vm_eq h3 h4
  have hg:getO b.Mails i=some b.Mails[i]:=by simp [getO,hi]
  obtain ⟨x,hx⟩:∃ x:Bool,((bundle_validMail b.Mails[i]).bind fun v14=>cond ((!v14)) (some (.inl true)) (cond (b.Mails[i].Quiet) (some (.inl true)) (cond ((!(b.Mails[i].Helo.toList==(⟨#[]⟩:ByteArray).toList))) (some (.inl true)) (some (.inl (b.Mails[i].At != 0))))):Option (Bool⊕(Int⊕(Unit⊕Int))))=some (.inl x)∧(x=false→c=true):=by
   cases c
   ·exact ⟨true,bnd hc rfl,fun h=>by cases h⟩
   ·cases hq:b.Mails[i].Quiet
    ·cases hh:(!(b.Mails[i].Helo.toList==(⟨#[]⟩:ByteArray).toList))
     ·exact ⟨_,bnd hc (cnd_f rfl rfl),fun _=>rfl⟩
     ·exact ⟨true,bnd hc (cnd_f rfl rfl),fun _=>rfl⟩
    ·exact ⟨true,bnd hc (cnd_f rfl rfl),fun _=>rfl⟩
  cases x
  ·exact .inl ⟨cnd_t (decide_eq_true (by omega)) (bnd (ixO_of hi) (bnd hg (bndL hx.1 (cnd_f rfl (bnd (congrArg some (wrap_succ (n:=i) (by omega))) rfl))))),fun _=>hv (hx.2 rfl)⟩
  ·exact .inr (cnd_t (decide_eq_true (by omega)) (bnd (ixO_of hi) (bnd hg (bndL hx.1 (cnd_t rfl rfl)))))
 rcases loop_prop (f:=bcS b) (P:=fun i=>∀ hi:i<b.Mails.length,Vm b.Mails[i]) b.Mails.length hstep (cnd_f (decide_eq_false (by omega)) rfl) b.Mails.length 0 BIG (by omega) (by simp only [BIG]; omega) with ⟨h1,h2⟩ | h1
 ·refine ⟨0,bndL first (cnd_f rfl (bndL (s:=false) (cnd_f (decide_eq_false (by omega)) (inl_of (decide_eq_false (by omega)))) (cnd_f rfl (bndL (s:=()) h1 rfl)))),.inl rfl,fun _=>⟨o,nn.1,nn.2,ml.1,ml.2,fun m hmm => ?_⟩⟩
  obtain ⟨i,hi,rfl⟩:=List.getElem_of_mem hmm
  exact h2 i (by omega) hi hi
 ·exact ⟨5,bndL first (cnd_f rfl (bndL (s:=false) (cnd_f (decide_eq_false (by omega)) (inl_of (decide_eq_false (by omega)))) (cnd_f rfl (bndR (a:=5) h1 rfl)))),.inr rfl,five⟩
end Go.Abs.Sh
