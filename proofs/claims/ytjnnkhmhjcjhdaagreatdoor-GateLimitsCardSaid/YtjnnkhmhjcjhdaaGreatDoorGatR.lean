import Derived.Test.YtjnnkhmhjcjhdaaGreatDoorLineM
import Derived.KernelRfl
namespace Go.Abs.Sh
set_option linter.unusedVariables false
set_option linter.unusedSimpArgs false
set_option maxRecDepth 10000
def lC (c:Int):List Int→Option Nat
 | []=>none
 | x::l=>if x=c then some 0 else (lC c l).map (· + 1)
theorem vF {c:Int}:∀ {l:List Int},lC c l=none↔c ∉ l
 | []=>by simp [lC]
 | x::l=>by
  have ih:=vF (c:=c) (l:=l)
  unfold lC
  by_cases h:x=c
  ·simp [h]
  ·rw [if_neg h]
   simp only [Option.map_eq_none_iff,ih,List.mem_cons,not_or]
   exact ⟨fun h2=>⟨fun e=>h e.symm,h2⟩,fun h2=>h2.2⟩
theorem qE {c:Int}:∀ {l:List Int} {e:Nat},lC c l=some e→e+1≤l.length∧l=l.take e++c::l.drop (e+1)∧c ∉ l.take e
 | [],e,h=>by simp [lC] at h
 | x::l,e,h=>by
  unfold lC at h
  split at h
  ·rename_i hx
   cases h; subst hx; simp
  ·rename_i hx
   cases hi:lC c l with
   | none=>simp [hi] at h
   | some k =>
    simp [hi] at h
    subst h
    obtain ⟨h1,h2,h3⟩:=qE hi
    refine ⟨by simp; omega,?_,?_⟩
    ·simp only [List.take_succ_cons,List.cons_append,List.drop_succ_cons]
     rw [← h2]
    ·simp only [List.take_succ_cons,List.mem_cons,not_or]
     exact ⟨fun e=>hx e.symm,h3⟩
theorem vm {c:Int}:∀ {p r:List Int},c ∉ p→lC c (p++c::r)=some p.length
 | [],r,_=>by simp [lC]
 | x::p,r,h=>by
  simp only [List.mem_cons,not_or] at h
  rw [List.cons_append]
  unfold lC
  rw [if_neg (fun e=>h.1 e.symm),vm h.2]
  simp
theorem vg {n:Nat} (hn:n<256):∀ (l:List UInt8),Lib.indexByte l (UInt8.ofNat n)=match lC (n:Int) (l.map fun b=>(b.toNat:Int)) with | none => -1 | some e=>(e:Int)
 | []=>rfl
 | b::l=>by
  have ih:=vg hn l
  unfold Lib.indexByte
  rw [List.map_cons]
  unfold lC
  have hb:(b==UInt8.ofNat n)=decide ((b.toNat:Int)=(n:Int)):=by
   rw [Bool.eq_iff_iff,decide_eq_true_eq,beq_iff_eq]
   constructor
   ·rintro rfl; simp; omega
   ·intro h
    apply UInt8.toNat_inj.1
    simp; omega
  rw [hb]
  by_cases h:(b.toNat:Int)=(n:Int)
  ·rw [if_pos (decide_eq_true h),if_pos h]; rfl
  ·rw [if_neg (by simpa using h),if_neg h,ih]
   cases lC (n:Int) (l.map fun b=>(b.toNat:Int)) with
   | none=>rfl
   | some k =>
    have:((k:Int) == -1)=false:=beq_eq_false_iff_ne.2 (by omega)
    simp only [this,Bool.false_eq_true,if_false,Option.map_some]
    rfl
theorem vZ {n:Nat} (hn:n<256) (s:ByteArray):ft s ⟨#[UInt8.ofNat n]⟩=some (match lC (n:Int) (br s) with | none => -1 | some e=>(e:Int)):=by
 unfold ft
 have:=vg hn s.data.toList
 simp only [this]
 rfl
def nb (c:Int):List Int→List (List Int)
 | []=>[[]]
 | x::l=>if x=c then []::nb c l else match nb c l with
  | []=>[[x]]
  | p::ps=>(x::p)::ps
theorem ul (c:Int):∀ l,nb c l≠[]
 | []=>by simp [nb]
 | x::l=>by
  unfold nb
  split
  ·simp
  ·split <;> simp
theorem GK {c:Int}:∀ {l:List Int},c ∉ l→nb c l=[l]
 | [],_=>rfl
 | x::l,h=>by
  simp only [List.mem_cons,not_or] at h
  unfold nb
  rw [if_neg (fun e=>h.1 e.symm),GK h.2]
theorem GW {c:Int}:∀ {p r:List Int},c ∉ p→nb c (p++c::r)=p::nb c r
 | [],r,_=>by simp [nb]
 | x::p,r,h=>by
  simp only [List.mem_cons,not_or] at h
  rw [List.cons_append]
  conv=>lhs; unfold nb
  rw [if_neg (fun e=>h.1 e.symm),GW h.2]
def Cq {X S O:Type} (step:X→S→Option (S⊕O)):List X→S→Option (S⊕O)
 | [],s=>some (.inl s)
 | x::l,s=>match step x s with
  | none=>none
  | some (.inl s')=>Cq step l s'
  | some (.inr o)=>some (.inr o)
def EB (c:Int) (s:ByteArray):List ByteArray:=(nb c (br s)).map cH
theorem rb {n:Int} (h0 : -9223372036854775808≤n) (h1:n<9223372036854775808):some (IntKind.i64.wrap n)=some n:=by rw [vn h0 h1]
theorem wE {S O:Type} (n:Nat) (hn:n<256) (step:ByteArray→S→Option (S⊕O)) (s:ByteArray) (st:S) (hs:s.size<4611686018427387904) (r:S⊕O) (hr:Cq step (EB (n:Int) s) st=some r) :
  ny (S:=S) (O:=O) (fun Y st=>eu Y ⟨#[UInt8.ofNat n]⟩ s 0 st) step st=some r:=by
 unfold ny eu
 refine bY rfl ?_
 have key:∀ (k:Nat) (s:ByteArray) (st:S) (fuel:Nat),s.size=k→k<4611686018427387904→k<fuel→Cq step (EB (n:Int) s) st=some r →
   cu (S:=(ByteArray×(S⊕O))) (A:=S⊕O)
    (dP (S:=(ByteArray×(S⊕O))) (O:=(ByteArray×(S⊕O))⊕(S⊕O)) (fun ((s37,s38):ByteArray×(S⊕O)) =>
     (ft s37 ⟨#[UInt8.ofNat n]⟩).bind fun v25 =>
     cond ((decide (v25<0)))
      (some (.inr (.inl (s37,s38))))
      ((some (IntKind.i64.wrap (v25+0))).bind fun v27 =>
      (kq s37 0 v27).bind fun v28 =>
      (pr step v28 s38).bind fun v29 =>
      cond ((!v29.2))
       (some (.inr (.inr (v29.1))))
       ((some (IntKind.i64.wrap (v25+((⟨#[UInt8.ofNat n]⟩:ByteArray).size:Int)))).bind fun v31 =>
       (kq s37 v31 (s37.size:Int)).bind fun v32 =>
       some (.inl (v32,v29.1)))))
     fuel (s,.inl st))
    (fun ((s41,s42):ByteArray×(S⊕O)) =>
     (pr step s41 s42).bind fun v51 =>
     some (v51.1)) some=some r:=by
  intro k
  induction k using Nat.strongRecOn with
  | _ k ih =>
   intro s st fuel hk hb hf hr
   obtain ⟨f,rfl⟩:∃ f,fuel=f+1:=⟨fuel-1,by omega⟩
   cases hi:lC (n:Int) (br s) with
   | none =>
    rw [ik (o := .inl (s,.inl st)) (by
     refine cJ (vZ hn s) ?_
     rw [hi]
     exact cx rfl rfl)]
    have h1:EB (n:Int) s=[s]:=by
     unfold EB
     rw [GK (vF.1 hi)]
     simp [ko]
    rw [h1] at hr
    simp only [Cq] at hr
    show ((pr step s (.inl st)).bind fun v51=>some (v51.1))=some r
    simp only [pr]
    cases hst:step s st with
    | none=>rw [hst] at hr; cases hr
    | some u =>
     rw [hst] at hr
     cases u with
     | inl s'=>simpa using hr
     | inr o=>simpa using hr
   | some e =>
    obtain ⟨h1,h2,h3⟩:=qE hi
    rw [cv] at h1
    have h4:EB (n:Int) s=cH ((br s).take e)::EB (n:Int) (cH ((br s).drop (e+1))):=by
     unfold EB
     rw [cy (pn (dN s) _)]
     conv=>lhs; rw [h2]
     rw [GW h3,List.map_cons]
    rw [h4] at hr
    simp only [Cq] at hr
    have e1:kq s 0 (e:Int)=some (cH ((br s).take e)):=by
     have:=kP (s:=s) (a:=0) (b:=e) (by omega) (by omega)
     simpa using this
    have e2:kq s ((e:Int)+1) (s.size:Int)=some (cH ((br s).drop (e+1))):=by
     have:=kP (s:=s) (a:=e+1) (b:=s.size) (by omega) (by omega)
     rw [List.take_of_length_le (by simp [cv])] at this
     simpa using this
    have w1:some (IntKind.i64.wrap ((e:Int)+0))=some (e:Int):=by rw [rb (by omega) (by omega)]; simp
    have w2:some (IntKind.i64.wrap ((e:Int)+((⟨#[UInt8.ofNat n]⟩:ByteArray).size:Int)))=some ((e:Int)+1):=by
     show some (IntKind.i64.wrap ((e:Int)+1))=_
     rw [rb (by omega) (by omega)]
    have hsz:(cH ((br s).drop (e+1))).size=s.size-(e+1):=by rw [dm,List.length_drop,cv]
    cases hst:step (cH ((br s).take e)) st with
    | none=>rw [hst] at hr; cases hr
    | some u =>
     rw [hst] at hr
     cases u with
     | inl s' =>
      rw [kG (s':=(cH ((br s).drop (e+1)),.inl s')) (by
       refine cJ (vZ hn s) ?_
       rw [hi]
       refine bY (decide_eq_false (by show ¬ ((e:Int)<0); omega)) (cJ w1 (cJ e1 (cJ (x:=(.inl s',true)) (by simp [pr,hst]) (bY rfl (cJ w2 (cJ e2 rfl))))))
       )]
      exact ih _ (by rw [hsz]; omega) _ s' f rfl (by omega) (by omega) hr
     | inr o =>
      rw [ik (o := .inr (.inr o)) (by
       refine cJ (vZ hn s) ?_
       rw [hi]
       exact bY (decide_eq_false (by show ¬ ((e:Int)<0); omega)) (cJ w1 (cJ e1 (cJ (x:=(.inr o,false)) (by simp [pr,hst]) (cx rfl rfl))))
       )]
      exact hr
 exact key _ s st kz rfl hs (by unfold kz; omega) hr
def NZ (c:Int):Bool:=decide (48≤c)&&decide (c≤57)||(decide (65≤c)&&decide (c≤90)||decide (97≤c)&&decide (c≤122))
def wU (c:Int):Bool:=NZ c||c==45
def MO (c:Int):Bool:=NZ c||[33,35,36,37,38,39,42,43,45,47,61,63,94,95,96,123,124,125,126].contains c
def xG (l:List Int):Bool := !l.isEmpty&&(decide (l.length≤63)&&(l.head? != some 45&&(l.getLast? != some 45&&l.all wU)))
def Hl (l:List Int):Bool := !l.isEmpty&&l.all MO
def pL (l:List Int):Bool:=decide (l.length≤255)&&(nb 46 l).all xG
def Cg (l:List Int):Bool:=decide (l.length≤64)&&(nb 46 l).all Hl
theorem Cl (p:Int→Bool) (h:(List.range 256).all (fun k=>p (k:Int))=true) {c:Int} (hc:0≤c∧c<256):p c=true:=by
 have:=List.all_eq_true.1 h c.toNat (List.mem_range.2 (by omega))
 rwa [Int.toNat_of_nonneg hc.1] at this
theorem HO:(List.range 256).all (fun k=>decide (lO ((k:Nat):Int)=some (MO ((k:Nat):Int))))=true:=by kernel_rfl
theorem FX:(List.range 256).all (fun k=>decide (kE ((k:Nat):Int)=some (wU ((k:Nat):Int))))=true:=by kernel_rfl
theorem Ng {c:Int} (hc:0≤c∧c<256):lO c=some (MO c):=by
 simpa using Cl (fun c=>decide (lO c=some (MO c))) HO hc
theorem LY {c:Int} (hc:0≤c∧c<256):kE c=some (wU c):=by
 simpa using Cl (fun c=>decide (kE c=some (wU c))) FX hc
theorem mg (l:List Int) (p:Int→Bool):l.all p=true↔∀ i,i<l.length→p (l.getD i 0)=true:=by
 rw [List.all_eq_true]
 constructor
 ·intro h i hi
  rw [List.getD_eq_getElem?_getD,List.getElem?_eq_getElem hi]
  exact h _ (List.getElem_mem hi)
 ·intro h x hx
  obtain ⟨i,hi,rfl⟩:=List.getElem_of_mem hx
  have:=h i hi
  rw [List.getD_eq_getElem?_getD,List.getElem?_eq_getElem hi] at this
  exact this
theorem wY {s:ByteArray} {i:Nat} (h:i<s.size):fE s (i:Int)=some ((br s).getD i 0):=by
 rw [ET h,List.getD_eq_getElem?_getD,List.getElem?_eq_getElem (by rw [cv]; exact h)]; rfl
theorem vU (s:ByteArray) {i:Nat} (h:i<s.size):0≤(br s).getD i 0∧(br s).getD i 0<256:=by
 rw [List.getD_eq_getElem?_getD,List.getElem?_eq_getElem (by rw [cv]; exact h)]
 exact dN s _ (List.getElem_mem _)
theorem EJ {g:Int→Option Bool} {p:Int→Bool} (s:ByteArray) (hs:s.size<4611686018427387904) (hg:∀ c,0≤c∧c<256→g c=some (p c)) :
  cu (S:=(Unit)) (A:=Bool)
  (dP (S:=(Int)) (O:=(Unit)⊕Bool) (fun (s9:Int) =>
   cond ((decide (s9<(s.size:Int))))
    ((fE s s9).bind fun v2 =>
    (g v2).bind fun v3 =>
    cond ((!v3))
     (some (.inr (.inr (false))))
     ((some (IntKind.i64.wrap (s9+1))).bind fun v5 =>
     some (.inl v5)))
    (some (.inr (.inl ()))))
   kz 0)
  (fun (():Unit) =>
   some (true)) some=some ((br s).all p):=by
 have hl:=uK (R:=Bool) (f:=fun (s9:Int) =>
   cond ((decide (s9<(s.size:Int))))
    ((fE s s9).bind fun v2 =>
    (g v2).bind fun v3 =>
    cond ((!v3))
     (some (.inr (.inr (false))))
     ((some (IntKind.i64.wrap (s9+1))).bind fun v5 =>
     some (.inl v5)))
    (some (.inr (.inl ())))) (fun i=>p ((br s).getD i 0)) s.size false (fuel:=kz) (by unfold kz; omega)
  (fun i hi hp=>cx (decide_eq_true (by omega)) (cJ (wY hi) (cJ (hg _ (vU s hi)) (bY (by simp only [hp]; rfl) (cJ (by rw [jJ (by omega)]) rfl)))))
  (fun i hi hp=>cx (decide_eq_true (by omega)) (cJ (wY hi) (cJ (hg _ (vU s hi)) (cx (by simp only [hp]; rfl) rfl))))
  (bY (decide_eq_false (by omega)) rfl)
 rw [hl]
 have hiff:=mg (br s) p
 rw [cv] at hiff
 by_cases hall:∀ i,i<s.size→p ((br s).getD i 0)=true
 ·rw [if_pos hall,hiff.2 hall]; rfl
 ·rw [if_neg hall]
  cases hq:(br s).all p
  ·rfl
  ·exact absurd (hiff.1 hq) hall
theorem Mo (s:ByteArray):(s.toList==(⟨#[]⟩:ByteArray).toList)=(br s).isEmpty:=by
 rw [gC,Bool.eq_iff_iff,decide_eq_true_eq,pp]
 simp [br]
theorem KL (s:ByteArray) (hs:s.size<4611686018427387904):qv s=some (Hl (br s)):=by
 unfold qv Hl
 rw [Mo]
 cases (br s).isEmpty
 ·exact cW (s:=(br s).all MO) (cx rfl (cJ (EJ s hs fun c hc=>Ng hc) rfl)) rfl
 ·exact cW (s:=false) (bY rfl rfl) rfl
theorem BP {l:List Int} (h:l≠[]):l.getLast? = some (l.getD (l.length-1) 0):=by
 have:0<l.length:=List.length_pos_iff.2 h
 rw [List.getLast?_eq_getElem?,List.getD_eq_getElem?_getD,List.getElem?_eq_getElem (by omega)]
 rfl
theorem vE {l:List Int} (h:l≠[]):l.head? = some (l.getD 0 0):=by
 cases l with
 | nil=>exact absurd rfl h
 | cons x l=>rfl
theorem IJ (s:ByteArray) (hs:s.size<4611686018427387904):pE s=some (xG (br s)):=by
 unfold pE xG
 rw [Mo]
 cases he:(br s).isEmpty
 ·have hne:br s≠[]:=by intro e; rw [e] at he; cases he
  have hpos:0<s.size:=by rw [← cv]; exact List.length_pos_iff.2 hne
  rw [BP hne,vE hne,cv]
  by_cases h1:s.size≤63
  ·have d1:decide ((s.size:Int)≤63)=true:=decide_eq_true (by omega)
   have c0:=wY (s:=s) (i:=0) hpos
   have c1:=wY (s:=s) (i:=s.size-1) (by omega)
   have e1:((s.size-1:Nat):Int)=(s.size:Int)-1:=by omega
   rw [e1] at c1
   by_cases h2:(br s).getD 0 0=45
   ·refine cW (s:=false) (cx rfl (cx d1 (cJ c0 (bY (by rw [h2]; rfl) rfl)))) ?_
    rw [h2]; simp
   ·by_cases h3:(br s).getD (s.size-1) 0=45
    ·refine cW (s:=false) (cx rfl (cx d1 (cJ c0 (cx (by simpa using h2) (cJ (rb (by omega) (by omega)) (cJ c1 (bY (by rw [h3]; rfl) rfl))))))) ?_
     rw [h3]; simp
    ·refine cW (s:=(br s).all wU) (cx rfl (cx d1 (cJ c0 (cx (by simpa using h2) (cJ (rb (by omega) (by omega)) (cJ c1 (cx (by simpa using h3) (cJ (EJ s hs fun c hc=>LY hc) rfl)))))))) ?_
     have x2:(some ((br s).getD 0 0) != some 45)=true:=by simpa using h2
     have x3:(some ((br s).getD (s.size-1) 0) != some 45)=true:=by simpa using h3
     rw [x2,x3,decide_eq_true h1]; rfl
  ·refine cW (s:=false) (cx rfl (bY (decide_eq_false (by omega)) rfl)) ?_
   rw [decide_eq_false h1]; rfl
 ·exact cW (s:=false) (bY rfl rfl) rfl
theorem BN {f:ByteArray→Option Bool} {P:List Int→Bool} (s:ByteArray) (hs:s.size<4611686018427387904) (hf:∀ x,x.size≤s.size→f x=some (P (br x))) :
  (gX s (⟨#[46]⟩:ByteArray)).bind (fun v1 =>
  cu (S:=(Unit)) (A:=(Unit))
  (ny (S:=(Unit)) (O:=(Unit)) (fun Y st=>Sh.eu Y v1.1 v1.2.1 v1.2.2 st) (fun (x:ByteArray) (():Unit) =>
   (f x).bind fun v2 =>
   cond ((!v2))
    (some (.inr ()))
    (some (.inl ())))
   ())
  (fun (():Unit) =>
   some (true))
  (fun (():Unit) =>
   some (false)))=some ((nb 46 (br s)).all P):=by
 refine cJ (x:=(⟨#[46]⟩,s,0)) rfl ?_
 have hle:∀ (c:Int) (l:List Int),∀ p∈nb c l,p.length≤l.length:=by
  intro c l
  induction l with
  | nil=>intro p hp; simp [nb] at hp; simp [hp]
  | cons x l ih =>
   intro p hp
   unfold nb at hp
   split at hp
   ·simp only [List.mem_cons] at hp
    rcases hp with rfl | hp
    ·simp
    ·have:=ih p hp; simp; omega
   ·split at hp
    ·simp at hp; subst hp; simp
    ·rename_i q qs e
     simp only [List.mem_cons] at hp
     rcases hp with rfl | hp
     ·have:=ih q (by rw [e]; simp); simp; omega
     ·have:=ih p (by rw [e]; simp [hp]); simp; omega
 have hby:∀ (c:Int) (l:List Int),mU l→∀ p∈nb c l,mU p:=by
  intro c l
  induction l with
  | nil=>intro _ p hp; simp [nb] at hp; subst hp; intro x hx; cases hx
  | cons x l ih =>
   intro hb p hp
   have hb':mU l:=fun y hy=>hb y (by simp [hy])
   unfold nb at hp
   split at hp
   ·simp only [List.mem_cons] at hp
    rcases hp with rfl | hp
    ·intro x hx; cases hx
    ·exact ih hb' p hp
   ·split at hp
    ·simp at hp; subst hp; intro y hy; simp at hy; subst hy; exact hb _ (by simp)
    ·rename_i q qs e
     simp only [List.mem_cons] at hp
     rcases hp with rfl | hp
     ·intro y hy
      simp only [List.mem_cons] at hy
      rcases hy with rfl | hy
      ·exact hb _ (by simp)
      ·exact ih hb' q (by rw [e]; simp) y hy
     ·exact ih hb' p (by rw [e]; simp [hp])
 have hfol:∀ l:List (List Int),(∀ p∈l,mU p∧p.length≤s.size)→Cq (fun (x:ByteArray) (():Unit) =>
   (f x).bind fun v2 =>
   cond ((!v2))
    (some (.inr ()))
    (some (.inl ()))) (l.map cH) ()=some (if l.all P then .inl () else .inr ()):=by
  intro l
  induction l with
  | nil=>intro _; rfl
  | cons p l ih =>
   intro h
   have hp:=h p (by simp)
   have e1:=hf (cH p) (by rw [dm]; exact hp.2)
   rw [cy hp.1] at e1
   rw [List.map_cons]
   unfold Cq
   simp only [e1,Option.bind_some]
   cases hP:P p
   ·simp [hP]
   ·simp only [Bool.not_true,cond_false,List.all_cons,hP,Bool.true_and]
    exact ih fun q hq=>h q (by simp [hq])
 have:=wE 46 (by omega) (fun (x:ByteArray) (():Unit) =>
   (f x).bind fun v2 =>
   cond ((!v2))
    (some (.inr ()))
    (some (.inl ()))) s () hs _ (hfol (nb 46 (br s)) fun p hp=>⟨hby _ _ (dN s) p hp,by have:=hle _ _ p hp; rwa [cv] at this⟩)
 change cu (ny (fun Y st=>eu Y ⟨#[UInt8.ofNat 46]⟩ s 0 st) _ ()) _ _=_
 rw [this]
 cases hq:(nb 46 (br s)).all P
 ·rfl
 ·rfl
theorem Fk (s:ByteArray) (hs:s.size<4611686018427387904):eK s=some (pL (br s)):=by
 unfold eK pL
 rw [cv]
 by_cases h:s.size≤255
 ·refine cW (s:=(nb 46 (br s)).all xG) (cx (decide_eq_true (by omega)) (cJ (x:=(nb 46 (br s)).all xG) ?_ rfl)) (by rw [decide_eq_true h]; rfl)
  exact BN s hs fun x hx=>IJ x (by omega)
 ·exact cW (s:=false) (bY (decide_eq_false (by omega)) rfl) (by rw [decide_eq_false h]; rfl)
theorem MF (s:ByteArray) (hs:s.size<4611686018427387904):pf s=some (Cg (br s)):=by
 unfold pf Cg
 rw [cv]
 by_cases h:s.size≤64
 ·refine cW (s:=(nb 46 (br s)).all Hl) (cx (decide_eq_true (by omega)) (cJ (x:=(nb 46 (br s)).all Hl) ?_ rfl)) (by rw [decide_eq_true h]; rfl)
  exact BN s hs fun x hx=>KL x (by omega)
 ·exact cW (s:=false) (bY (decide_eq_false (by omega)) rfl) (by rw [decide_eq_false h]; rfl)
def xc (p:bu):Bool:=cond p.Null ((br p.Local).isEmpty&&(br p.Domain).isEmpty) (Cg (br p.Local)&&pL (br p.Domain))
structure Small (p:bu):Prop where
 l:p.Local.size<1152921504606846976
 d:p.Domain.size<1152921504606846976
theorem vr (p:bu) (h:Small p):hH p=some (cond (xc p) 0 5):=by
 unfold hH xc
 have hl:=h.l; have hd:=h.d
 rw [Mo,Mo]
 cases hn:p.Null
 ·refine cW (s:=Cg (br p.Local)&&pL (br p.Domain)) (cx rfl (cJ (MF p.Local (by omega)) ?_)) ?_
  ·cases Cg (br p.Local)
   ·rfl
   ·exact cx rfl (cJ (Fk p.Domain (by omega)) rfl)
  ·simp only [cond_false]
   cases Cg (br p.Local)&&pL (br p.Domain) <;> rfl
 ·refine cW (s:=false) rfl ?_
  simp only [cond_true]
  cases (br p.Local).isEmpty <;> cases (br p.Domain).isEmpty <;> rfl
theorem Cn (s p:ByteArray):ej s p=some (decide (br p <+: br s)):=by
 unfold ej
 by_cases h:p.size≤s.size
 ·have e:=kP (s:=s) (a:=0) (b:=p.size) (by omega) h
  refine cW (s:=decide (br p <+: br s)) (cx (decide_eq_true (by omega)) (cJ e ?_)) rfl
  congr 2
  rw [gC]
  congr 1
  rw [pp,cy (qo (pn (dN s) 0) _),List.prefix_iff_eq_take,cv]
  simp only [List.drop_zero,Nat.sub_zero,eq_iff_iff]
  exact eq_comm
 ·refine cW (s:=false) (bY (decide_eq_false (by omega)) rfl) ?_
  rw [decide_eq_false]
  intro hp
  have:=hp.length_le
  rw [cv,cv] at this
  omega
theorem vq (s p:ByteArray):gA s p=some (if br p <+: br s then (cH ((br s).drop p.size),true) else (s,false)):=by
 unfold gA eP
 refine cJ (x:=if br p <+: br s then (cH ((br s).drop p.size),true) else (s,false)) (cJ (Cn s p) ?_) (by split <;> rfl)
 by_cases h:br p <+: br s
 ·rw [if_pos h]
  have hl:=h.length_le
  rw [cv,cv] at hl
  have e:=kP (s:=s) (a:=p.size) (b:=s.size) hl (Nat.le_refl _)
  rw [List.take_of_length_le (by simp [cv])] at e
  exact bY (by rw [decide_eq_true h]; rfl) (cJ e rfl)
 ·rw [if_neg h]
  exact cx (by rw [decide_eq_false h]; rfl) rfl
theorem Ce (s p:ByteArray) (hs:s.size<4611686018427387904):ef s p=some (decide (br p <:+ br s)):=by
 unfold ef
 by_cases h:p.size≤s.size
 ·have e:=kP (s:=s) (a:=s.size-p.size) (b:=s.size) (by omega) (Nat.le_refl _)
  have w:some (IntKind.i64.wrap ((s.size:Int)-(p.size:Int)))=some ((s.size-p.size:Nat):Int):=by
   rw [rb (by omega) (by omega)]; congr 1; omega
  refine cW (s:=decide (br p <:+ br s)) (cx (decide_eq_true (by omega)) (cJ w (cJ e ?_))) rfl
  congr 2
  rw [gC]
  congr 1
  rw [pp,cy (qo (pn (dN s) _) _),List.suffix_iff_eq_drop,cv,cv,List.take_of_length_le (by simp [cv])]
  simp only [eq_iff_iff]
  exact eq_comm
 ·refine cW (s:=false) (bY (decide_eq_false (by omega)) rfl) ?_
  rw [decide_eq_false]
  intro hp
  have:=hp.length_le
  rw [cv,cv] at this
  omega
theorem CD (s p:ByteArray) (hs:s.size<4611686018427387904):gB s p=some (if br p <:+ br s then (cH ((br s).take (s.size-p.size)),true) else (s,false)):=by
 unfold gB eO
 refine cJ (x:=if br p <:+ br s then (cH ((br s).take (s.size-p.size)),true) else (s,false)) (cJ (Ce s p hs) ?_) (by split <;> rfl)
 by_cases h:br p <:+ br s
 ·rw [if_pos h]
  have hl:=h.length_le
  rw [cv,cv] at hl
  have e:=kP (s:=s) (a:=0) (b:=s.size-p.size) (by omega) (by omega)
  have w:some (IntKind.i64.wrap ((s.size:Int)-(p.size:Int)))=some ((s.size-p.size:Nat):Int):=by
   rw [rb (by omega) (by omega)]; congr 1; omega
  refine bY (by rw [decide_eq_true h]; rfl) (cJ w (cJ e rfl))
 ·rw [if_neg h]
  exact cx (by rw [decide_eq_false h]; rfl) rfl
theorem Iq {n:Nat} (hn:n<256) (s:ByteArray) (hs:s.size<4611686018427387904):fL s ⟨#[UInt8.ofNat n]⟩=some (match lC (n:Int) (br s) with
  | some e=>(cH ((br s).take e),cH ((br s).drop (e+1)),true)
  | none=>(s,(⟨#[]⟩:ByteArray),false)):=by
 unfold fL gn
 cases hi:lC (n:Int) (br s) with
 | none =>
  refine cJ (x:=(s,(⟨#[]⟩:ByteArray),false)) (cJ (vZ hn s) ?_) rfl
  rw [hi]
  exact bY rfl rfl
 | some e =>
  obtain ⟨h1,_,_⟩:=qE hi
  rw [cv] at h1
  have e1:kq s 0 (e:Int)=some (cH ((br s).take e)):=by
   have:=kP (s:=s) (a:=0) (b:=e) (by omega) (by omega)
   simpa using this
  have e2:kq s ((e:Int)+1) (s.size:Int)=some (cH ((br s).drop (e+1))):=by
   have:=kP (s:=s) (a:=e+1) (b:=s.size) (by omega) (by omega)
   rw [List.take_of_length_le (by simp [cv])] at this
   simpa using this
  have w2:some (IntKind.i64.wrap ((e:Int)+((⟨#[UInt8.ofNat n]⟩:ByteArray).size:Int)))=some ((e:Int)+1):=by
   show some (IntKind.i64.wrap ((e:Int)+1))=_
   rw [rb (by omega) (by omega)]
  refine cJ (x:=(cH ((br s).take e),cH ((br s).drop (e+1)),true)) (cJ (vZ hn s) ?_) rfl
  rw [hi]
  exact cx (decide_eq_true (by show (0:Int)≤(e:Int); omega)) (cJ e1 (cJ w2 (cJ e2 rfl)))
def e0:ByteArray:=⟨#[]⟩
def GS:bu:=⟨false,e0,e0⟩
def OJ:bu:=⟨true,e0,e0⟩
def En (l:List Int):Option (List Int):=if l.head? = some 60∧2≤l.length∧l.getLast? = some 62 then some ((l.drop 1).take (l.length-2)) else none
def Ma (m:List Int):Option bu:=match lC 64 m with
 | none=>none
 | some e=>some ⟨false,cH (m.take e),cH (m.drop (e+1))⟩
def FM (l:List Int):Option bu:=if l=[60,62] then some OJ else match En l with
 | none=>none
 | some m=>match Ma m with
  | none=>none
  | some p=>if xc p=true then some p else none
theorem PH (s:ByteArray):(s.toList==(⟨#[60,62]⟩:ByteArray).toList)=decide (br s=[60,62]):=by
 rw [gC]
 congr 1
 rw [pp]
 rfl
theorem Ku (c:Int) (l:List Int):[c] <+: l↔l.head? = some c:=by
 cases l with
 | nil=>simp
 | cons x l=>simp [List.cons_prefix_cons,eq_comm]
theorem OW (c:Int) (l:List Int):[c] <:+ l↔l.getLast? = some c:=by
 rw [← List.reverse_prefix]
 show [c] <+: l.reverse↔_
 rw [Ku,List.head?_reverse]
theorem Pt:br (⟨#[60]⟩:ByteArray)=[60]:=rfl
theorem OQ:br (⟨#[62]⟩:ByteArray)=[62]:=rfl
theorem KN (s:ByteArray):s.size=(br s).length:=(cv s).symm
theorem Hm (l:List Int):(∃ m,l=60::(m++[62])∧En l=some m)∨En l=none:=by
 unfold En
 split
 ·rename_i h
  obtain ⟨h1,h2,h3⟩:=h
  left
  cases l with
  | nil=>simp at h1
  | cons x r =>
   simp at h1
   subst h1
   have hr:r≠[]:=by intro e; subst e; simp at h2
   have h4:r.getLast? = some 62:=by
    rw [List.getLast?_cons,List.getLast?_eq_some_getLast hr] at h3
    rw [List.getLast?_eq_some_getLast hr]
    simpa using h3
   obtain ⟨m,hm⟩:∃ m,r=m++[62]:=by
    rw [List.getLast?_eq_some_iff] at h4
    exact h4
   refine ⟨m,by rw [hm],?_⟩
   subst hm
   simp
 ·right; rfl
theorem KV (m:List Int):En (60::(m++[62]))=some m:=by
 unfold En
 rw [if_pos ⟨rfl,by simp,by rw [← List.cons_append,List.getLast?_concat]⟩]
 simp
theorem Ho {l:List Int} (h:En l=none):l.head? ≠ some 60∨(l.drop 1).getLast? ≠ some 62:=by
 unfold En at h
 split at h
 ·cases h
 ·rename_i hn
  by_cases h1:l.head? = some 60
  ·right
   intro h2
   apply hn
   cases l with
   | nil=>simp at h1
   | cons x r =>
    simp at h2
    have hr:r≠[]:=by intro e; subst e; simp at h2
    refine ⟨h1,by have:=List.length_pos_iff.2 hr; simp; omega,?_⟩
    rw [List.getLast?_cons,h2]; rfl
  ·exact .inl h1
theorem Dr (s:ByteArray) (hs:s.size<1152921504606846976):pg s=some (match FM (br s) with | some p=>(p,0) | none=>(GS,5)):=by
 unfold pg FM
 by_cases h2:br s=[60,62]
 ·rw [if_pos h2]
  exact cx (by rw [PH]; exact decide_eq_true h2) rfl
 ·rw [if_neg h2]
  refine bY (by rw [PH]; exact decide_eq_false h2) ?_
  have b1:=vq s (⟨#[60]⟩:ByteArray)
  simp only [Pt,Ku] at b1
  refine cJ b1 ?_
  have MY:∀ (x:ByteArray×Bool),x.1.size≤s.size→∀ y:ByteArray×Bool,y=(if [62] <:+ br x.1 then (cH ((br x.1).take (x.1.size-(⟨#[62]⟩:ByteArray).size)),true) else (x.1,false)) →
    ∀ z:ByteArray×ByteArray×Bool,z=(match lC 64 (br y.1) with
     | some e=>(cH ((br y.1).take e),cH ((br y.1).drop (e+1)),true)
     | none=>(y.1,(⟨#[]⟩:ByteArray),false))→∀ r,(cu (S:=Bool) (A:=(bu×Int))
   (cond ((!x.2))
    (some (.inl true))
    (cond ((!y.2))
     (some (.inl true))
     (cond ((!z.2.2))
      (some (.inl true))
      ((hH (bu.mk false z.1 z.2.1)).bind fun v5 =>
      some (.inl (v5 != 0))))))
   (fun (s6:Bool) =>
    cond (s6)
     (some (((bu.mk false (⟨#[]⟩:ByteArray) (⟨#[]⟩:ByteArray)),5)))
     (some (((bu.mk false z.1 z.2.1),0)))) some)=r→((gB x.1 (⟨#[62]⟩:ByteArray)).bind fun v3 =>
  (fL v3.1 (⟨#[64]⟩:ByteArray)).bind fun v4 =>
  cu (S:=Bool) (A:=(bu×Int))
   (cond ((!x.2))
    (some (.inl true))
    (cond ((!v3.2))
     (some (.inl true))
     (cond ((!v4.2.2))
      (some (.inl true))
      ((hH (bu.mk false v4.1 v4.2.1)).bind fun v5 =>
      some (.inl (v5 != 0))))))
   (fun (s6:Bool) =>
    cond (s6)
     (some (((bu.mk false (⟨#[]⟩:ByteArray) (⟨#[]⟩:ByteArray)),5)))
     (some (((bu.mk false v4.1 v4.2.1),0)))) some)=r:=by
   intro x hx y hy z hz r hr
   have c1:=CD x.1 (⟨#[62]⟩:ByteArray) (by omega)
   rw [OQ,← hy] at c1
   have hys:y.1.size≤x.1.size:=by
    rw [hy]; split
    ·rw [dm,List.length_take,cv]; omega
    ·exact Nat.le_refl _
   have c2:=Iq (n:=64) (by omega) y.1 (by omega)
   exact cJ c1 (cJ (c2.trans (by rw [hz]; rfl)) hr)
  rcases Hm (br s) with ⟨m,hm,hmid⟩ | hmid
  ·have hh:(br s).head? = some 60:=by rw [hm]; rfl
   rw [if_pos hh,hmid]
   have hbm:mU m:=by
    have:=dN s
    rw [hm] at this
    intro x hx
    exact this x (by simp [hx])
   have hbm2:mU (m++[62]):=kD hbm (by intro x hx; simp at hx; omega)
   have hd:(br s).drop 1=m++[62]:=by rw [hm]; rfl
   have hx1:cH ((br s).drop (⟨#[60]⟩:ByteArray).size)=cH (m++[62]):=by
    show cH ((br s).drop 1)=_
    rw [hd]
   rw [hx1]
   have hml:m.length+2=s.size:=by rw [KN,hm]; simp
   refine MY (cH (m++[62]),true) (by simp only [dm]; simp; omega) (cH m,true) ?_ (match lC 64 m with
     | some e=>(cH (m.take e),cH (m.drop (e+1)),true)
     | none=>(cH m,(⟨#[]⟩:ByteArray),false)) ?_ _ ?_
   ·rw [cy hbm2,if_pos ⟨m,rfl⟩]
    congr 2
    rw [dm]
    show m=(m++[62]).take ((m++[62]).length-1)
    simp
   ·dsimp only
    rw [cy hbm]
   ·simp only [Ma]
    cases hi:lC 64 m with
    | none=>exact cW (s:=true) rfl rfl
    | some e =>
     dsimp only
     have hsm:Small ⟨false,cH (m.take e),cH (m.drop (e+1))⟩:=⟨by simp only [dm,List.length_take]; omega,by simp only [dm,List.length_drop]; omega⟩
     cases hp:xc ⟨false,cH (m.take e),cH (m.drop (e+1))⟩
     ·exact cW (s:=true) (cJ (vr _ hsm) (by rw [hp]; rfl)) rfl
     ·exact cW (s:=false) (cJ (vr _ hsm) (by rw [hp]; rfl)) rfl
  ·rw [hmid]
   by_cases hh:(br s).head? = some 60
   ·rw [if_pos hh]
    have hl:((br s).drop 1).getLast? ≠ some 62:=(Ho hmid).resolve_left (fun h=>h hh)
    refine MY (cH ((br s).drop 1),true) (by simp only [dm,List.length_drop,cv]; omega) (cH ((br s).drop 1),false) ?_ _ rfl _ ?_
    ·rw [cy (pn (dN s) 1),if_neg (fun h=>hl ((OW _ _).1 h))]
    ·exact cW (s:=true) rfl rfl
   ·rw [if_neg hh]
    exact MY (s,false) (Nat.le_refl _) _ rfl _ rfl _ (cW (s:=true) rfl rfl)
theorem LB (n lo hi:Int):gw n lo hi=some (decide (lo≤n)&&decide (n≤hi)):=by
 unfold gw
 cases decide (lo≤n) <;> rfl
def HJ (c:Int):Bool:=decide (97≤c)&&decide (c≤122)||decide (65≤c)&&decide (c≤90)
def Hv (c:Int):Bool:=decide (48≤c)&&decide (c≤57)
theorem Ld (c:Int):fh c=some (HJ c):=by
 unfold fh HJ
 cases decide (97≤c) <;> cases decide (c≤122) <;> cases decide (65≤c) <;> cases decide (c≤90) <;> rfl
theorem MJ (c:Int):fu c=some (Hv c):=by
 unfold fu Hv
 cases decide (48≤c) <;> rfl
theorem NW (c:Int):wU c=(HJ c||(Hv c||c==45)):=by
 unfold wU NZ HJ Hv
 cases decide (97≤c) <;> cases decide (c≤122) <;> cases decide (65≤c) <;> cases decide (c≤90) <;> cases decide (48≤c) <;> cases decide (c≤57) <;> simp
def BZ (l:List Int):Bool:=decide (1≤l.length)&&(decide (l.length≤63)&&(l.getD 0 0 != 45&&l.getD (l.length-1) 0 != 45))
theorem Cx (l:List Int):xG l=(BZ l&&l.all wU):=by
 unfold xG BZ
 cases l with
 | nil=>rfl
 | cons x r =>
  rw [BP (by simp),vE (by simp)]
  have:decide (1≤(x::r).length)=true:=by simp
  rw [this]
  simp only [List.isEmpty_cons,Bool.not_false,Bool.true_and]
  have e1:(some ((x::r).getD 0 0) != some 45)=((x::r).getD 0 0 != 45):=by rw [Bool.eq_iff_iff]; simp
  have e2:(some ((x::r).getD ((x::r).length-1) 0) != some 45)=((x::r).getD ((x::r).length-1) 0 != 45):=by rw [Bool.eq_iff_iff]; simp
  rw [e1,e2]
  simp only [Bool.and_assoc]
def zR:List Int→List Int→Bool
 | cur,[]=>BZ cur
 | cur,x::r=>if x=46 then BZ cur&&zR [] r else wU x&&zR (cur++[x]) r
theorem yN:∀ (l cur:List Int),cur.all wU=true→zR cur l=match nb 46 l with
  | []=>true
  | a::ps=>xG (cur++a)&&ps.all xG
 | [],cur,h=>by simp [zR,nb,Cx,h]
 | x::r,cur,h=>by
  have hne:=ul 46 r
  unfold zR nb
  by_cases hx:x=46
  ·rw [if_pos hx,if_pos hx,yN r [] rfl]
   cases hs:nb 46 r with
   | nil=>exact absurd hs hne
   | cons a ps=>simp [Cx,h]
  ·rw [if_neg hx,if_neg hx]
   cases hs:nb 46 r with
   | nil=>exact absurd hs hne
   | cons a ps =>
    cases hl:wU x
    ·simp [Cx,hl]
    ·have:=yN r (cur++[x]) (by simp [h,hl])
     rw [this,hs]
     simp
theorem NG (l:List Int):(nb 46 l).all xG=zR [] l:=by
 rw [yN l [] rfl]
 cases hs:nb 46 l with
 | nil=>exact absurd hs (ul 46 l)
 | cons a ps=>simp
def vp (s:ByteArray):Int×Int→Option ((Int×Int)⊕(Unit⊕Bool)):=(fun ((s88,s89):Int×Int) =>
    cond ((decide (s89≤(s.size:Int))))
     (cu (S:=Int) (A:=((Int×Int)⊕((Unit)⊕Bool)))
      (cu (S:=Bool) (A:=(Int⊕((Int×Int)⊕((Unit)⊕Bool))))
       (cond ((decide (s89<(s.size:Int))))
        ((fE s s89).bind fun v4 =>
        some (.inl (v4 != 46)))
        (some (.inl false)))
       (fun (s151:Bool) =>
        cond (s151)
         (cu (S:=Bool) (A:=(Int⊕((Int×Int)⊕((Unit)⊕Bool))))
          ((fE s s89).bind fun v10 =>
          (fh v10).bind fun v11 =>
          cond ((!v11))
           ((fE s s89).bind fun v12 =>
           (fu v12).bind fun v13 =>
           cond ((!v13))
            ((fE s s89).bind fun v14 =>
            some (.inl (v14 != 45)))
            (some (.inl false)))
           (some (.inl false)))
          (fun (s156:Bool) =>
           cond (s156)
            (some (.inr (.inr (.inr (false)))))
            (some (.inl s88))) some)
         (cu (S:=Bool) (A:=(Int⊕((Int×Int)⊕((Unit)⊕Bool))))
          ((some (IntKind.i64.wrap (s89-s88))).bind fun v20 =>
          (gw v20 1 63).bind fun v21 =>
          cond ((!v21))
           (some (.inl true))
           ((fE s s88).bind fun v22 =>
           cond ((v22==45))
            (some (.inl true))
            ((some (IntKind.i64.wrap (s89-1))).bind fun v23 =>
            (fE s v23).bind fun v24 =>
            some (.inl (v24==45)))))
          (fun (s161:Bool) =>
           cond (s161)
            (some (.inr (.inr (.inr (false)))))
            ((some (IntKind.i64.wrap (s89+1))).bind fun v30 =>
            some (.inl v30))) some)) some)
      (fun (s147:Int) =>
       (some (IntKind.i64.wrap (s89+1))).bind fun v50 =>
       some (.inl (s147,v50))) some)
     (some (.inr (.inl ()))))
theorem Nr {R:Type} (s:ByteArray) (f i:Nat) (cur:List Int) (hi:i≤s.size) (hs:s.size<4611686018427387904) (hl:f+cur.length=i) (hc:∀ j,j<cur.length→(br s).getD (f+j) 0=cur.getD j 0) (A:Option (R⊕((Int×Int)⊕(Unit⊕Bool)))) (B:Option (R⊕((Int×Int)⊕(Unit⊕Bool)))) :
  (cu (S:=Bool) (A:=(R⊕((Int×Int)⊕((Unit)⊕Bool))))
          ((some (IntKind.i64.wrap ((i:Int)-(f:Int)))).bind fun v20 =>
          (gw v20 1 63).bind fun v21 =>
          cond ((!v21))
           (some (.inl true))
           ((fE s (f:Int)).bind fun v22 =>
           cond ((v22==45))
            (some (.inl true))
            ((some (IntKind.i64.wrap ((i:Int)-1))).bind fun v23 =>
            (fE s v23).bind fun v24 =>
            some (.inl (v24==45)))))
          (fun (s161:Bool) =>
           cond (s161) A B) some)=cond (BZ cur) B A:=by
 have w:some (IntKind.i64.wrap ((i:Int)-(f:Int)))=some (cur.length:Int):=by rw [rb (by omega) (by omega)]; congr 1; omega
 have hin:=LB (cur.length:Int) 1 63
 unfold BZ
 by_cases h1:1≤cur.length
 ·by_cases h2:cur.length≤63
  ·rw [decide_eq_true (by omega),decide_eq_true (by omega)] at hin
   rw [decide_eq_true h1,decide_eq_true h2]
   have c0:=wY (s:=s) (i:=f) (by omega)
   have e0:=hc 0 (by omega)
   rw [Nat.add_zero] at e0
   rw [e0] at c0
   have c1:=wY (s:=s) (i:=i-1) (by omega)
   have e1:=hc (cur.length-1) (by omega)
   rw [show f+(cur.length-1)=i-1 by omega] at e1
   rw [e1,show ((i-1:Nat):Int)=(i:Int)-1 by omega] at c1
   by_cases h3:cur.getD 0 0=45
   ·refine cW (s:=true) (cJ w (cJ hin (bY rfl (cJ c0 (cx (by rw [h3]; rfl) rfl))))) ?_
    rw [h3]; rfl
   ·have x3:(cur.getD 0 0==45)=false:=by simpa using h3
    have y3:(cur.getD 0 0 != 45)=true:=by simpa using h3
    refine cW (s:=(cur.getD (cur.length-1) 0==45)) (cJ w (cJ hin (bY rfl (cJ c0 (bY x3 (cJ (rb (by omega) (by omega)) (cJ c1 rfl))))))) ?_
    rw [y3]
    unfold bne
    cases (cur.getD (cur.length-1) 0==45) <;> rfl
  ·rw [decide_eq_true (by omega),decide_eq_false (by omega)] at hin
   rw [decide_eq_true h1,decide_eq_false h2]
   exact cW (s:=true) (cJ w (cJ hin rfl)) rfl
 ·rw [decide_eq_false (by omega)] at hin
  rw [decide_eq_false h1]
  exact cW (s:=true) (cJ w (cJ hin rfl)) rfl
theorem vM (s:ByteArray) (hs:s.size<4611686018427387904):∀ (rest cur:List Int) (f i fuel:Nat),f+cur.length=i→(br s).drop i=rest→i≤s.size→(∀ j,j<cur.length→(br s).getD (f+j) 0=cur.getD j 0)→rest.length+1<fuel →
  dP (vp s) fuel ((f:Int),(i:Int))=some (if zR cur rest=true then .inl () else .inr false)
 | [],cur,f,i,fuel,hl,hd,hi,hc,hf=>by
  have hi2:i=s.size:=by
   have:=congrArg List.length hd
   rw [List.length_drop,cv] at this
   simp at this; omega
  obtain ⟨k,rfl⟩:∃ k,fuel=k+1+1:=⟨fuel-2,by simp at hf; omega⟩
  have hr:=Nr (R:=Int) s f i cur hi hs hl hc (some (.inr (.inr (.inr false)))) ((some (IntKind.i64.wrap ((i:Int)+1))).bind fun v30=>some (.inl v30))
  have w:some (IntKind.i64.wrap ((i:Int)+1))=some ((i+1:Nat):Int):=by rw [jJ (by omega)]
  have hd0:zR cur []=BZ cur:=rfl
  rw [hd0]
  cases hlab:BZ cur
  ·rw [hlab,cond_false] at hr
   rw [ik (o := .inr false)]
   ·rfl
   ·unfold vp
    exact cx (decide_eq_true (by omega)) (yJ (a := .inr (.inr false)) (cW (s:=false) (bY (decide_eq_false (by omega)) rfl) (bY rfl hr)) rfl)
  ·rw [hlab,cond_true] at hr
   rw [kG (s':=(((i+1:Nat):Int),((i+1:Nat):Int))),ik (o := .inl ())]
   ·rfl
   ·unfold vp
    exact bY (decide_eq_false (by omega)) rfl
   ·unfold vp
    exact cx (decide_eq_true (by omega)) (cW (s:=((i+1:Nat):Int)) (cW (s:=false) (bY (decide_eq_false (by omega)) rfl) (bY rfl (hr.trans (cJ w rfl)))) (cJ w rfl))
 | x::rest,cur,f,i,fuel,hl,hd,hi,hc,hf=>by
  have hlt:i<s.size:=by
   have:=congrArg List.length hd
   rw [List.length_drop,cv] at this
   simp at this; omega
  have hx:(br s).getD i 0=x:=by
   have:=congrArg List.head? hd
   rw [List.head?_drop] at this
   rw [List.getD_eq_getElem?_getD,this]; rfl
  have hd2:(br s).drop (i+1)=rest:=by
   rw [← List.drop_drop,hd]; rfl
  obtain ⟨k,rfl⟩:∃ k,fuel=k+1:=⟨fuel-1,by omega⟩
  have hchr:=wY hlt
  rw [hx] at hchr
  have w:some (IntKind.i64.wrap ((i:Int)+1))=some ((i+1:Nat):Int):=by rw [jJ (by omega)]
  have lt:decide ((i:Int)≤(s.size:Int))=true:=decide_eq_true (by omega)
  have lt2:decide ((i:Int)<(s.size:Int))=true:=decide_eq_true (by omega)
  unfold zR
  by_cases h46:x=46
  ·rw [if_pos h46]
   have hr:=Nr (R:=Int) s f i cur hi hs hl hc (some (.inr (.inr (.inr false)))) ((some (IntKind.i64.wrap ((i:Int)+1))).bind fun v30=>some (.inl v30))
   cases hlab:BZ cur
   ·rw [hlab,cond_false] at hr
    rw [ik (o := .inr false)]
    ·rfl
    ·unfold vp
     exact cx lt (yJ (a := .inr (.inr false)) (cW (s:=false) (cx lt2 (cJ hchr (by rw [h46]; rfl))) (bY rfl hr)) rfl)
   ·rw [hlab,cond_true] at hr
    rw [kG (s':=(((i+1:Nat):Int),((i+1:Nat):Int)))]
    ·rw [Bool.true_and]
     exact vM s hs rest [] (i+1) (i+1) k (by simp) hd2 (by omega) (by simp) (by simp at hf; omega)
    ·unfold vp
     exact cx lt (cW (s:=((i+1:Nat):Int)) (cW (s:=false) (cx lt2 (cJ hchr (by rw [h46]; rfl))) (bY rfl (hr.trans (cJ w rfl)))) (cJ w rfl))
  ·rw [if_neg h46]
   have hx46:(x != 46)=true:=by simpa using h46
   have hlb:=NW x
   have hin:((fE s (i:Int)).bind fun v10 =>
          (fh v10).bind fun v11 =>
          cond ((!v11))
           ((fE s (i:Int)).bind fun v12 =>
           (fu v12).bind fun v13 =>
           cond ((!v13))
            ((fE s (i:Int)).bind fun v14 =>
            some (Sum.inl (β:=(Int⊕((Int×Int)⊕((Unit)⊕Bool)))) (v14 != 45)))
            (some (.inl false)))
           (some (.inl false)))=some (.inl (!wU x)):=by
    rw [hlb]
    refine cJ hchr (cJ (Ld x) ?_)
    cases HJ x
    ·refine cx rfl (cJ hchr (cJ (MJ x) ?_))
     cases Hv x
     ·exact cx rfl (cJ hchr rfl)
     ·rfl
    ·rfl
   cases hl1:wU x
   ·rw [hl1] at hin
    rw [ik (o := .inr false)]
    ·rfl
    ·unfold vp
     exact cx lt (yJ (a := .inr (.inr false)) (cW (s:=true) (cx lt2 (cJ hchr (by rw [hx46]))) (cx rfl (cW (s:=true) hin rfl))) rfl)
   ·rw [hl1] at hin
    rw [kG (s':=((f:Int),((i+1:Nat):Int)))]
    ·rw [Bool.true_and]
     refine vM s hs rest (cur++[x]) f (i+1) k (by simp; omega) hd2 (by omega) (fun j hj => ?_) (by simp at hf; omega)
     simp at hj
     by_cases hj2:j<cur.length
     ·rw [hc j hj2,List.getD_eq_getElem?_getD,List.getD_eq_getElem?_getD,List.getElem?_append_left hj2]
     ·have hj3:j=cur.length:=by omega
      subst hj3
      rw [hl,hx]
      simp
    ·unfold vp
     exact cx lt (cW (s:=(f:Int)) (cW (s:=true) (cx lt2 (cJ hchr (by rw [hx46]))) (cx rfl (cW (s:=false) hin rfl))) (cJ w rfl))
theorem Lp (s:ByteArray):gZ s=some (pL (br s)):=by
 unfold gZ pL
 rw [cv]
 have hin:=LB (s.size:Int) 1 255
 by_cases h:1≤s.size∧s.size≤255
 ·rw [decide_eq_true (by omega),decide_eq_true (by omega)] at hin
  refine cJ hin (bY rfl ?_)
  rw [decide_eq_true h.2,Bool.true_and,NG]
  have:=vM s (by omega) (br s) [] 0 0 kz rfl rfl (by omega) (by simp) (by rw [cv]; unfold kz; omega)
  change cu (dP (vp s) kz ((0:Nat),(0:Nat))) _ _=_
  rw [this]
  cases zR [] (br s) <;> rfl
 ·have hn:(decide ((1:Int)≤(s.size:Int))&&decide ((s.size:Int)≤255))=false:=by
   by_cases h1:1≤s.size
   ·rw [decide_eq_true (by omega),decide_eq_false (by omega)]; rfl
   ·rw [decide_eq_false (by omega)]; rfl
  rw [hn] at hin
  refine cJ hin (cx rfl ?_)
  by_cases h1:1≤s.size
  ·rw [decide_eq_false (by omega)]; rfl
  ·have:br s=[]:=List.eq_nil_of_length_eq_zero (by rw [cv]; omega)
   rw [this]
   simp [nb,xG]
def nW (c:Int):Int:=if 65≤c∧c≤90 then c+32 else c
def eQ (l:List Int):List Int:=l.map nW
def nr (s:ByteArray):ByteArray:=cH (eQ (br s))
theorem JH {c:Int} (h:0≤c∧c<256):0≤nW c∧nW c<256:=by unfold nW; split <;> omega
theorem JZ {l:List Int} (h:mU l):mU (eQ l):=by
 intro x hx
 simp only [eQ,List.mem_map] at hx
 obtain ⟨y,hy,rfl⟩:=hx
 exact JH (h y hy)
theorem rl (s:ByteArray):br (nr s)=eQ (br s):=cy (JZ (dN s))
theorem Ln {A:Type} (f:A→A) (l:List A) (i:Nat) (h:i<l.length):((l.take i).map f++l.drop i).set i (f l[i])=(l.take (i+1)).map f++l.drop (i+1):=by
 rw [List.set_append_right _ _ (by simp; omega)]
 have hl:((l.take i).map f).length=i:=by simp; omega
 rw [hl,Nat.sub_self,List.drop_eq_getElem_cons h,List.set_cons_zero,List.take_add_one,List.getElem?_eq_getElem h]
 simp only [Option.toList_some,List.map_append,List.map_cons,List.map_nil,List.append_assoc,List.cons_append,List.nil_append]
theorem Kz {A:Type} (f:A→A) (l:List A) (i:Nat) (h:i<l.length):eM ((l.take i).map f++l.drop i) i=some l[i]:=by
 unfold eM
 rw [List.getElem?_append_right (by simp; omega)]
 have hl:((l.take i).map f).length=i:=by simp; omega
 rw [hl,Nat.sub_self,List.drop_eq_getElem_cons h]
 rfl
theorem tc (s:ByteArray) (hs:s.size<4611686018427387904):gY s=some (nr s):=by
 unfold gY
 refine cJ rfl ?_
 have hlen:(br s).length=s.size:=cv s
 refine cW (s:=eQ (br s)) ?_ rfl
 refine jd (fun i=>(((br s).take i).map nW++(br s).drop i,(i:Int))) s.size kz (by simp) (by unfold kz; omega) (fun i hi => ?_) ?_
 ·have hi':i<(br s).length:=by omega
  have hb:=dN s _ (List.getElem_mem hi')
  have hll:(((br s).take i).map nW++(br s).drop i).length=(br s).length:=by simp; omega
  have gt:=Kz nW (br s) i hi'
  have st:=Ln nW (br s) i hi'
  have ix:kx (i:Int) (((br s).take i).map nW++(br s).drop i).length=some i:=xY (by omega)
  have w:some (IntKind.i64.wrap ((i:Int)+1))=some ((i+1:Nat):Int):=by rw [jJ (by omega)]
  refine cx (decide_eq_true (by omega)) ?_
  by_cases h1:65≤(br s)[i]∧(br s)[i]≤90
  ·have e:nW (br s)[i]=(br s)[i]+32:=by unfold nW; rw [if_pos h1]
   rw [e] at st
   refine cW (s:=((br s).take (i+1)).map nW++(br s).drop (i+1)) (cJ ix (cJ gt (cW (s:=true) (cx (decide_eq_true h1.1) (by rw [decide_eq_true h1.2])) (cx rfl (cJ (by rw [Ct (by omega) (by omega)]) (cJ ix (cJ (by rw [st]) rfl))))))) (cJ w rfl)
  ·have e:nW (br s)[i]=(br s)[i]:=by unfold nW; rw [if_neg h1]
   have st2:((br s).take i).map nW++(br s).drop i=((br s).take (i+1)).map nW++(br s).drop (i+1):=by
    rw [List.take_add_one,List.getElem?_eq_getElem hi',List.drop_eq_getElem_cons hi']
    simp only [Option.toList_some,List.map_append,List.map_cons,List.map_nil,List.append_assoc,List.cons_append,List.nil_append,e]
   refine cW (s:=((br s).take (i+1)).map nW++(br s).drop (i+1)) (cJ ix (cJ gt (cW (s:=false) ?_ (bY rfl (by rw [st2]))))) (cJ w rfl)
   by_cases h2:65≤(br s)[i]
   ·exact cx (decide_eq_true h2) (by rw [decide_eq_false fun h3=>h1 ⟨h2,h3⟩])
   ·exact bY (decide_eq_false h2) rfl
 ·refine bY (decide_eq_false (by omega)) ?_
  rw [← hlen]
  simp [eQ]
def HX (p:bu):List Int:=cond p.Null [60,62] (60::(br p.Local++64::(br p.Domain++[62])))
theorem sy {c:Int} {l:List Int} (h:0≤c∧c<256) (hl:mU l):mU (c::l):=by
 intro x hx
 simp only [List.mem_cons] at hx
 rcases hx with rfl | hx
 ·exact h
 ·exact hl x hx
theorem th:mU []:=fun x hx=>by cases hx
theorem Mb {s t:ByteArray} {l m:List Int} (hl:br s=l) (hm:br t=m) (h:l.length+m.length≤9223372036854775807):mo s t=some (cH (l++m)):=by
 subst hl hm
 rw [cv,cv] at h
 exact xH h
def Mh (p:bu) (d:ByteArray):Bool:=xc p&&(!p.Null&&decide (nr p.Domain=nr d))
theorem Nm (p:bu) (d:ByteArray) (h:Small p) (hd:d.size<1152921504606846976):qX p d=some (Mh p d):=by
 unfold qX Mh
 have h1:=h.d
 cases hp:xc p
 ·exact cW (s:=false) (cJ (vr p h) (by rw [hp]; rfl)) rfl
 ·have cp:=vr p h
  rw [hp] at cp
  refine cW (s := !p.Null&&decide (nr p.Domain=nr d)) (cJ cp (cx rfl ?_)) rfl
  cases hn:p.Null
  ·exact cx rfl (cJ (tc p.Domain (by omega)) (cJ (tc d (by omega)) (by rw [gC]; rfl)))
  ·rfl
theorem No {c:Int} {P:Int→Bool} (hP:P c=false) {l:List Int} (h:l.all P=true):c ∉ l:=by
 intro hm
 have:=List.all_eq_true.1 h c hm
 rw [hP] at this
 cases this
theorem Cv {P:List Int→Bool} {c:Int} (Q:Int→Bool) (hQ:Q c=true) (hPQ:∀ l,P l=true→l.all Q=true):∀ l,(nb c l).all P=true→l.all Q=true
 | [],_=>rfl
 | x::r,h=>by
  have hne:=ul c r
  unfold nb at h
  by_cases hx:x=c
  ·rw [if_pos hx] at h
   simp only [List.all_cons,Bool.and_eq_true] at h
   rw [List.all_cons,hx,hQ,Cv Q hQ hPQ r h.2]; rfl
  ·rw [if_neg hx] at h
   cases hs:nb c r with
   | nil=>exact absurd hs hne
   | cons a ps =>
    rw [hs] at h
    simp only [List.all_cons,Bool.and_eq_true] at h
    have h1:=hPQ _ h.1
    simp only [List.all_cons,Bool.and_eq_true] at h1
    have key:∀ (r:List Int) (a:List Int) (ps:List (List Int)),nb c r=a::ps→a.all Q=true→ps.all P=true→r.all Q=true:=by
     intro r
     induction r with
     | nil=>intros; rfl
     | cons y r ih =>
      intro a ps e ha hps
      unfold nb at e
      by_cases hy:y=c
      ·rw [if_pos hy] at e
       cases e
       cases hs2:nb c r with
       | nil=>exact absurd hs2 (ul c r)
       | cons b qs =>
        rw [hs2] at hps
        simp only [List.all_cons,Bool.and_eq_true] at hps
        rw [List.all_cons,hy,hQ,ih b qs hs2 (hPQ _ hps.1) hps.2]; rfl
      ·rw [if_neg hy] at e
       cases hs2:nb c r with
       | nil=>exact absurd hs2 (ul c r)
       | cons b qs =>
        rw [hs2] at e
        cases e
        simp only [List.all_cons,Bool.and_eq_true] at ha
        rw [List.all_cons,ha.1,ih b ps hs2 ha.2 hps]; rfl
    rw [List.all_cons,h1.1,key r a ps hs h1.2 h.2]; rfl
def Of (c:Int):Bool:=MO c||c==46
def MN (c:Int):Bool:=wU c||c==46
theorem Kj {l:List Int} (h:Cg l=true):l.all Of=true:=by
 unfold Cg at h
 rw [Bool.and_eq_true] at h
 refine Cv Of (by decide) (fun p hp => ?_) l h.2
 unfold Hl at hp
 rw [Bool.and_eq_true] at hp
 rw [List.all_eq_true] at *
 intro x hx
 unfold Of
 rw [hp.2 x hx]; rfl
theorem JX {l:List Int} (h:pL l=true):l.all MN=true:=by
 unfold pL at h
 rw [Bool.and_eq_true] at h
 refine Cv MN (by decide) (fun p hp => ?_) l h.2
 rw [Cx,Bool.and_eq_true] at hp
 rw [List.all_eq_true] at *
 intro x hx
 unfold MN
 rw [hp.2 x hx]; rfl
theorem Ms {c:Int} (hc:Of c=false) {l:List Int} (h:Cg l=true):c ∉ l:=No hc (Kj h)
theorem JS (p:bu) (h:xc p=true):FM (HX p)=some p:=by
 obtain ⟨n,l,d⟩:=p
 cases n
 ·have hh:=h
  unfold xc at h
  simp only [cond_false,Bool.and_eq_true] at h
  have n64:(64:Int) ∉ br l:=Ms (by decide) h.1
  unfold FM HX
  simp only [cond_false]
  rw [if_neg (by intro e; have:=congrArg List.length e; simp at this; omega)]
  have e:(60::(br l++64::(br d++[62])):List Int)=60::((br l++64::br d)++[62]):=by simp
  rw [e,KV]
  simp only [Ma,vm n64]
  have e1:(br l++64::br d).take (br l).length=br l:=by simp
  have e2:(br l++64::br d).drop ((br l).length+1)=br d:=by
   rw [← List.drop_drop]; simp
  rw [e1,e2,ko,ko,if_pos hh]
 ·unfold xc at h
  simp only [cond_true,Bool.and_eq_true,List.isEmpty_iff] at h
  have e1:l=e0:=oY (by rw [h.1]; rfl)
  have e2:d=e0:=oY (by rw [h.2]; rfl)
  subst e1 e2
  rfl
theorem Jf (s:ByteArray) (hs:s.size<140737488355328):jj s=some (nr s):=by
 unfold jj
 have hlen:(br s).length=s.size:=cv s
 refine cW (s:=eQ (br s)) ?_ rfl
 refine jd (fun i=>(((br s).take i).map nW,(i:Int))) s.size kz (by simp) (by unfold kz; omega) (fun i hi => ?_) ?_
 ·have hi':i<(br s).length:=by omega
  have hb:=dN s _ (List.getElem_mem hi')
  have hc:=ET hi
  have w:some (IntKind.i64.wrap ((i:Int)+1))=some ((i+1:Nat):Int):=by rw [jJ (by omega)]
  have ap:fZ 1 (((br s).take i).map nW) [nW (br s)[i]]=some (((br s).take (i+1)).map nW):=by
   rw [ua (by simp; omega) (by simp; omega),List.take_add_one,List.getElem?_eq_getElem hi']
   simp only [Option.toList_some,List.map_append,List.map_cons,List.map_nil]
  refine cx (decide_eq_true (by omega)) (cJ hc (cW (s:=nW (br s)[i]) ?_ (cJ ap (cJ w rfl))))
  by_cases h1:65≤(br s)[i]∧(br s)[i]≤90
  ·have e:nW (br s)[i]=(br s)[i]+32:=by unfold nW; rw [if_pos h1]
   exact cW (s:=true) (cx (decide_eq_true h1.1) (by rw [decide_eq_true h1.2])) (cx rfl (cJ (by rw [Ct (by omega) (by omega)]) (by rw [e])))
  ·have e:nW (br s)[i]=(br s)[i]:=by unfold nW; rw [if_neg h1]
   refine cW (s:=false) ?_ (bY rfl (by rw [e]))
   by_cases h2:65≤(br s)[i]
   ·exact cx (decide_eq_true h2) (by rw [decide_eq_false fun h3=>h1 ⟨h2,h3⟩])
   ·exact bY (decide_eq_false h2) rfl
 ·refine bY (decide_eq_false (by omega)) ?_
  rw [List.take_of_length_le (by omega)]; rfl
theorem LM (z:Int) (n:Nat) (h0:0<n) (hn:n<1000000):IntKind.u64.wrap (n:Int)=(n:Int)∧∃ q:Nat,q<n∧qn (IntKind.u64.wrap z) (n:Int)=some (q:Int):=by
 have h:∀ z:Int,IntKind.u64.wrap z=((z % 18446744073709551616).toNat:Int):=by
  intro z
  simp only [IntKind.wrap,IntKind.bits,IntKind.signed]
  have e:(2:Int) ^ 64=18446744073709551616:=by decide
  simp only [e,Bool.false_and,Bool.false_eq_true,if_false]
  omega
 refine ⟨by rw [h]; omega,?_⟩
 rw [h]
 exact ⟨_,Nat.mod_lt _ h0,xx _ n h0⟩
/-! What a line is,over its bytes. -/
def Fp (x:Int):Bool:=decide (32≤x)&&decide (x≤126)
def Gg (w l:List Int):Option (List Int):=if w.length≤l.length∧eQ (l.take w.length)=eQ w then some (l.drop w.length) else none
def GH:List Int:=[65,85,84,72,32]
def Bw:List Int:=[67,82,65,77,45,77,68,53]
def NA:List Int:=[77,65,73,76,32,70,82,79,77,58]
def Nz:List Int:=[82,67,80,84,32,84,79,58]
def eH (c:Int) (l:List Int):List Int×List Int×Bool:=match lC c l with
 | none=>(l,[],false)
 | some e=>(l.take e,l.drop (e+1),true)
def IP (w:List Int):Int :=
 if w=[101,104,108,111]∨w=[104,101,108,111] then 1
 else if w=[109,97,105,108] then 2
 else if w=[114,99,112,116] then 3
 else if w=[100,97,116,97] then 4
 else if w=[114,115,101,116] then 5
 else if w=[113,117,105,116] then 8
 else if w=[110,111,111,112] then 7
 else if w=[118,114,102,121] then 6
 else if w=[101,116,114,110] then 9
 else if w=[97,117,116,104] then 10
 else if w=[97,116,114,110] then 11
 else 0
def sq (l:List Int):Int:=IP (eQ (eH 32 l).1)
def zk (l:List Int):Bool:=match Gg GH l with
 | none=>false
 | some n => !n.isEmpty&&(decide (eQ n≠eQ Bw)&&n.all wU)
def Ik (c:Int):Bool:=decide (48≤c)&&decide (c≤57)
def Lj (l:List Int):Bool := !l.isEmpty&&(decide (l.length≤9)&&(!(l.head? == some 48&&decide (l≠[48]))&&l.all Ik))
def ud (kind:Int) (p:List Int):Option bX :=
 if kind=2∧eQ (eH 61 p).1=[115,105,122,101] then (if Lj (eH 61 p).2.1 then some ⟨cH [83,73,90,69],cH (eH 61 p).2.1⟩ else none)
 else if kind=2∧eQ (eH 61 p).1=[114,101,116] then
  (if eQ (eH 61 p).2.1=[102,117,108,108] then some ⟨cH [82,69,84],cH [70,85,76,76]⟩
   else if eQ (eH 61 p).2.1=[104,100,114,115] then some ⟨cH [82,69,84],cH [72,68,82,83]⟩ else none)
 else if kind=3∧eQ (eH 61 p).1=[110,111,116,105,102,121] then
  (if eQ (eH 61 p).2.1=[110,101,118,101,114] then some ⟨cH [78,79,84,73,70,89],cH [78,69,86,69,82]⟩
   else if eQ (eH 61 p).2.1=[102,97,105,108,117,114,101] then some ⟨cH [78,79,84,73,70,89],cH [70,65,73,76,85,82,69]⟩ else none)
 else none
def EA (kind:Int):List (List Int)→List bX→Option (List bX)
 | [],acc=>some acc
 | p::ps,acc=>match ud kind p with
  | none=>none
  | some q=>if acc.any (fun x=>decide (x.Key=q.Key)) then none else EA kind ps (acc++[q])
def Bd (kind:Int) (l:List Int):Option (List bX):=match l with
 | []=>some []
 | x::r=>if x=32 then EA kind (nb 32 r) [] else none
def oK (kind:Int):List Int:=if kind=2 then NA else Nz
def tT (kind:Int) (l:List Int):Option dA:=match lC 62 l with
 | none=>none
 | some e=>match FM (l.take (e+1)) with
  | none=>none
  | some p=>if kind=3∧p.Null=true then none else match Bd kind (l.drop (e+1)) with
   | none=>none
   | some ps=>some ⟨kind,e0,p,ps⟩
def Ff (l:List Int):Option dA :=
 let k:=sq l
 let c:=eH 32 l
 if k=2∨k=3 then (Gg (oK k) l).bind (tT k)
 else if k=1∨k=9 then (if pL c.2.1 then some ⟨k,cH c.2.1,GS,[]⟩ else none)
 else if k=6 then (if c.2.1=[] then none else some ⟨k,cH c.2.1,GS,[]⟩)
 else if k=11 then (if c.2.2=true∧pL c.2.1=false then none else some ⟨k,cH c.2.1,GS,[]⟩)
 else if k=10 then (if eQ c.2.1=eQ Bw then some ⟨k,e0,GS,[]⟩ else none)
 else if k=7 then some ⟨k,e0,GS,[]⟩
 else (if c.2.2=true then none else some ⟨k,e0,GS,[]⟩)
def Od:dA:=⟨0,e0,GS,[]⟩
def uc (l:List Int):dA×Int :=
 if 510<l.length∨l.all Fp=false∨sq l=0 then (Od,500)
 else if zk l then (Od,504)
 else match Ff l with | none=>(Od,501) | some c=>(c,0)
/-! A command's line is read as the command. -/
theorem JC {c:Int} {w L:List Int} (h:c ∉ w):eH c (w++c::L)=(w,L,true):=by
 unfold eH
 rw [vm h]
 have e1:(w++c::L).take w.length=w:=by simp
 have e2:(w++c::L).drop (w.length+1)=L:=by
  rw [← List.drop_drop]; simp
 simp only [e1,e2]
theorem Fe (c:Int) (l:List Int):(∃ a b,l=a++c::b∧c ∉ a∧eH c l=(a,b,true))∨(c ∉ l∧eH c l=(l,[],false)):=by
 cases h:lC c l with
 | none=>exact .inr ⟨vF.1 h,by unfold eH; rw [h]⟩
 | some e =>
  have h2:=qE h
  exact .inl ⟨l.take e,l.drop (e+1),h2.2.1,h2.2.2,by unfold eH; rw [h]⟩
theorem Gq (l:List Int):(eQ l).length=l.length:=by simp [eQ]
theorem ED {w L:List Int} (h:(32:Int) ∉ w):sq (w++32::L)=IP (eQ w):=by
 unfold sq; rw [JC h]
theorem Mv {w a L:List Int} (hl:a.length=w.length) (h:eQ a≠eQ w):Gg w (a++L)=none:=by
 unfold Gg
 rw [if_neg]
 rintro ⟨_,h2⟩
 rw [← hl,List.take_left] at h2
 exact h h2
theorem KC {w a L:List Int} (h:eQ a=eQ w):Gg w (a++L)=some L:=by
 have hl:a.length=w.length:=by rw [← Gq a,h,Gq]
 unfold Gg
 rw [if_pos ⟨by rw [List.length_append]; omega,by rw [← hl,List.take_left]; exact h⟩,← hl,List.drop_left]
theorem Do {w l L:List Int} (h:Gg w l=some L):∃ a,l=a++L∧eQ a=eQ w∧a.length=w.length:=by
 unfold Gg at h
 split at h
 ·rename_i h2
  cases h
  exact ⟨l.take w.length,(List.take_append_drop _ _).symm,h2.2,by rw [List.length_take]; omega⟩
 ·cases h
theorem GO {a L:List Int} (hl:a.length=5) (h:eQ a≠eQ GH):zk (a++L)=false:=by
 unfold zk
 rw [Mv hl h]
theorem Ch (c:Int):∀ l:List Int,l.length+1=((nb c l).map fun p=>p.length+1).sum
 | []=>rfl
 | x::r=>by
  have ih:=Ch c r
  have hne:=ul c r
  unfold nb
  by_cases hx:x=c
  ·rw [if_pos hx,List.map_cons,List.sum_cons,← ih]; simp; omega
  ·rw [if_neg hx]
   cases hs:nb c r with
   | nil=>exact absurd hs hne
   | cons a ps =>
    rw [hs,List.map_cons,List.sum_cons] at ih
    simp only [List.map_cons,List.sum_cons,List.length_cons]
    omega
theorem Gx (c:Int):∀ (l p:List Int),p∈nb c l→∀ x∈p,x∈l
 | [],p,h,x,hx=>by
  simp only [nb,List.mem_cons,List.not_mem_nil,or_false] at h
  subst h; cases hx
 | y::r,p,h,x,hx=>by
  have ih:=Gx c r
  have hne:=ul c r
  unfold nb at h
  by_cases hy:y=c
  ·rw [if_pos hy] at h
   rcases List.mem_cons.1 h with rfl | h
   ·cases hx
   ·exact List.mem_cons_of_mem _ (ih p h x hx)
  ·rw [if_neg hy] at h
   cases hs:nb c r with
   | nil=>exact absurd hs hne
   | cons a ps =>
    rw [hs] at h ih
    rcases List.mem_cons.1 h with rfl | h
    ·rcases List.mem_cons.1 hx with rfl | hx
     ·exact List.mem_cons_self
     ·exact List.mem_cons_of_mem _ (ih a List.mem_cons_self x hx)
    ·exact List.mem_cons_of_mem _ (ih p (List.mem_cons_of_mem _ h) x hx)
theorem JE {k:Int} (hk:k=2∨k=3) {L:List Int} {c:dA} (h:tT k L=some c):sq (oK k++L)=k∧Ff (oK k++L)=some c∧zk (oK k++L)=false:=by
 have h1:sq (oK k++L)=k:=by
  rcases hk with rfl | rfl
  ·exact ED (w:=[77,65,73,76]) (L:=[70,82,79,77,58]++L) (by decide)
  ·exact ED (w:=[82,67,80,84]) (L:=[84,79,58]++L) (by decide)
 refine ⟨h1,?_,?_⟩
 ·unfold Ff
  rw [h1]
  simp only
  rw [if_pos hk,KC rfl]
  exact h
 ·rcases hk with rfl | rfl
  ·exact GO (a:=[77,65,73,76,32]) (L:=[70,82,79,77,58]++L) rfl (by decide)
  ·exact GO (a:=[82,67,80,84,32]) (L:=[84,79,58]++L) rfl (by decide)
/-! What the program says of a line is what is said over its bytes. -/
theorem Jg (l:List Int) (hb:mU l) (hl:l.length≤10000):ka (cH l)=some (l.all Fp):=by
 unfold ka
 have hs:(cH l).size=l.length:=dm l
 rw [hs]
 have hloop:=uK (R:=Bool) (f:=fun (s17:Int) =>
   cond ((decide (s17<(l.length:Int))))
    (cu (S:=Bool) (A:=((Int)⊕((Unit)⊕Bool)))
     ((fE (cH l) s17).bind fun v2 =>
     cond ((decide (v2<32)))
      (some (.inl true))
      ((fE (cH l) s17).bind fun v3 =>
      some (.inl ((decide (126<v3))))))
     (fun (s31:Bool) =>
      cond (s31)
       (some (.inr (.inr (false))))
       ((some (IntKind.i64.wrap (s17+1))).bind fun v9 =>
       some (.inl v9))) some)
    (some (.inr (.inl ())))) (fun i=>Fp (l.getD i 0)) l.length false (fuel:=kz) (by simp only [kz]; omega)
  (fun i hi hp=>by
   have hc:fE (cH l) (i:Int)=some (l.getD i 0):=by
    rw [wY (by rw [hs]; exact hi),cy hb]
   simp only [Fp,Bool.and_eq_true,decide_eq_true_eq] at hp
   refine cx (decide_eq_true (by omega)) (cW (s:=false) (cJ hc (bY (decide_eq_false (by omega)) (cJ hc (by rw [decide_eq_false (by omega)])))) (bY rfl (cJ (jh (by omega) (by omega)) rfl))))
  (fun i hi hp=>by
   have hc:fE (cH l) (i:Int)=some (l.getD i 0):=by
    rw [wY (by rw [hs]; exact hi),cy hb]
   simp only [Fp,Bool.and_eq_false_iff,decide_eq_false_iff_not] at hp
   refine cx (decide_eq_true (by omega)) (cW (s:=true) (cJ hc ?_) rfl)
   by_cases h:l.getD i 0<32
   ·exact cx (decide_eq_true h) rfl
   ·exact bY (decide_eq_false h) (cJ hc (by rw [decide_eq_true (by omega)])))
  (bY (decide_eq_false (by omega)) rfl)
 by_cases h:∀ i,i<l.length→Fp (l.getD i 0)=true
 ·rw [if_pos h] at hloop
  rw [(mg l Fp).2 h]
  exact cW hloop rfl
 ·rw [if_neg h] at hloop
  have ha:l.all Fp=false:=by
   cases e:l.all Fp with
   | false=>rfl
   | true=>exact absurd ((mg l Fp).1 e) h
  rw [ha]
  exact yJ hloop rfl
theorem NL (s t:ByteArray):(s.toList==t.toList)=decide (br s=br t):=by
 rw [gC]
 exact decide_eq_decide.2 pp
theorem qD (a b:ByteArray) (ha:a.size<4611686018427387904) (hb:b.size<4611686018427387904):gu a b=some (decide (eQ (br a)=eQ (br b))):=by
 unfold gu
 refine cJ (tc a ha) (cJ (tc b hb) ?_)
 rw [NL,rl,rl]
theorem zy (s p:ByteArray) (hs:s.size<4611686018427387904) (hp:p.size<4611686018427387904):kJ s p=some (match Gg (br p) (br s) with | none=>(e0,false) | some r=>(cH r,true)):=by
 unfold kJ Gg
 rw [cv,cv]
 by_cases h:s.size<p.size
 ·rw [if_neg (by omega)]
  exact cW (s:=true) (cx (decide_eq_true (by omega)) rfl) (cx rfl rfl)
 ·have h1:=kP (s:=s) (a:=0) (b:=p.size) (by omega) (by omega)
  rw [List.drop_zero,Nat.sub_zero] at h1
  have hbt:mU ((br s).take p.size):=qo (dN s) _
  have h2:=qD (cH ((br s).take p.size)) p (by rw [dm,List.length_take,cv]; omega) hp
  rw [cy hbt] at h2
  by_cases hq:eQ ((br s).take p.size)=eQ (br p)
  ·rw [if_pos ⟨by omega,hq⟩]
   have h3:=kP (s:=s) (a:=p.size) (b:=s.size) (by omega) (by omega)
   rw [List.take_of_length_le (by rw [List.length_drop,cv]; exact Nat.le_refl _)] at h3
   exact cW (s:=false) (bY (decide_eq_false (by omega)) (cJ h1 (cJ h2 (by rw [decide_eq_true hq]; rfl)))) (bY rfl (cJ h3 rfl))
  ·rw [if_neg (fun h=>hq h.2)]
   exact cW (s:=true) (bY (decide_eq_false (by omega)) (cJ h1 (cJ h2 (by rw [decide_eq_false hq]; rfl)))) (cx rfl rfl)
theorem CA {n:Nat} (hn:n<256) (s:ByteArray) (hs:s.size<4611686018427387904):fL s ⟨#[UInt8.ofNat n]⟩=some (cH (eH (n:Int) (br s)).1,cH (eH (n:Int) (br s)).2.1,(eH (n:Int) (br s)).2.2):=by
 rw [Iq hn s hs]
 unfold eH
 cases h:lC (n:Int) (br s) with
 | none=>simp only [ko]; rfl
 | some e=>rfl
theorem mL {R:Type} {p:Prop} [Decidable p] {a b:R} {y:Option R} (h:y=some b):cond (decide p) (some a) y=some (if p then a else b):=by
 by_cases hp:p
 ·rw [decide_eq_true hp,if_pos hp]; rfl
 ·rw [decide_eq_false hp,if_neg hp]; exact h
theorem uT (c:Int) (l:List Int):(eH c l).1.length≤l.length∧(eH c l).2.1.length≤l.length:=by
 rcases Fe c l with ⟨a,b,e,_,h2⟩ | ⟨_,h2⟩ <;> rw [h2]
 ·rw [e]; simp; omega
 ·simp
theorem CW (c:Int) {l:List Int} (h:mU l):mU (eH c l).1∧mU (eH c l).2.1:=by
 unfold eH
 cases lC c l with
 | none=>exact ⟨h,th⟩
 | some e=>exact ⟨qo h _,pn h _⟩
theorem BI (s:ByteArray) (hs:s.size<4611686018427387904):lV s=some (sq (br s)):=by
 unfold lV sq IP
 have hc:=CW 32 (dN s)
 have hl:=uT 32 (br s)
 rw [cv] at hl
 refine cJ (CA (n:=32) (by decide) s hs) (cJ (tc _ (by rw [dm]; exact Nat.lt_of_le_of_lt hl.1 hs)) ?_)
 have hw:br (nr (cH (eH 32 (br s)).1))=eQ (eH 32 (br s)).1:=by rw [rl,cy hc.1]
 generalize eQ (eH 32 (br s)).1=w at hw
 generalize nr (cH (eH 32 (br s)).1)=v at hw
 have e:∀ t:ByteArray,(v.toList==t.toList)=decide (w=br t):=fun t=>by rw [NL,hw]
 simp only [e]
 have hb:(cond (decide (w=br (⟨#[101,104,108,111]⟩:ByteArray))) (some (.inl (decide (w=br (⟨#[101,104,108,111]⟩:ByteArray))))) (some (.inl (decide (w=br (⟨#[104,101,108,111]⟩:ByteArray))))):Option (Bool⊕Int))=some (.inl (decide (w=[101,104,108,111]∨w=[104,101,108,111]))):=by
  have e1:br (⟨#[101,104,108,111]⟩:ByteArray)=[101,104,108,111]:=rfl
  have e2:br (⟨#[104,101,108,111]⟩:ByteArray)=[104,101,108,111]:=rfl
  rw [e1,e2]
  rw [Bool.decide_or]
  cases decide (w=[101,104,108,111]) <;> rfl
 refine cW hb ?_
 exact mL (mL (mL (mL (mL (mL (mL (mL (mL (mL (mL rfl))))))))))
theorem Lc:(List.range 256).all (fun k=>(pL [((k:Nat):Int)]||((k:Nat):Int)==45)==wU ((k:Nat):Int))=true:=by kernel_rfl
theorem PQ {c:Int} (hc:0≤c∧c<256):(pL [c]||c==45)=wU c:=by
 have:=Cl (fun c=>(pL [c]||c==45)==wU c) Lc hc
 simpa using this
theorem tL {l:List Int} {p:Int→Bool} (h:¬ ∀ i,i<l.length→p (l.getD i 0)=true):l.all p=false:=by
 cases e:l.all p with
 | false=>rfl
 | true=>exact absurd ((mg l p).1 e) h
theorem HV (s:ByteArray) (hs:s.size<4611686018427387904):(cu (S:=(Unit)) (A:=Bool)
     (dP (S:=(Int)) (O:=(Unit)⊕Bool) (fun (s26:Int) =>
      cond ((decide (s26<(s.size:Int))))
       (cu (S:=Bool) (A:=((Int)⊕((Unit)⊕Bool)))
        ((fE s s26).bind fun v9 =>
        cond ((v9 != 45))
         ((some (IntKind.i64.wrap (s26+1))).bind fun v10 =>
         (kq s s26 v10).bind fun v11 =>
         (eK v11).bind fun v12 =>
         some (.inl (!v12)))
         (some (.inl false)))
        (fun (s40:Bool) =>
         cond (s40)
          (some (.inr (.inr (false))))
          ((some (IntKind.i64.wrap (s26+1))).bind fun v18 =>
          some (.inl v18))) some)
       (some (.inr (.inl ()))))
      kz 0)
     (fun (():Unit) =>
      some (true)) some)=some ((br s).all wU):=by
 have hstep:∀ i:Nat,i<s.size→((fE s (i:Int)).bind fun v9 =>
        cond ((v9 != 45))
         ((some (IntKind.i64.wrap ((i:Int)+1))).bind fun v10 =>
         (kq s (i:Int) v10).bind fun v11 =>
         (eK v11).bind fun v12 =>
         some (.inl (!v12)))
         (some (.inl false)):Option (Bool⊕((Int)⊕((Unit)⊕Bool))))=some (.inl (!wU ((br s).getD i 0))):=by
  intro i hi
  have hc:=wY hi
  have hby:=vU s hi
  refine cJ hc ?_
  rw [← PQ hby]
  by_cases h45:(br s).getD i 0=45
  ·refine bY (by rw [h45]; rfl) ?_
   rw [h45]; rfl
  ·have hsub:=kP (s:=s) (a:=i) (b:=i+1) (by omega) (by omega)
   have e:((br s).drop i).take (i+1-i)=[(br s).getD i 0]:=by
    have hlt:i<(br s).length:=by rw [cv]; exact hi
    have e1:i+1-i=1:=by omega
    rw [e1,List.drop_eq_getElem_cons hlt,List.take_succ_cons,List.take_zero,List.getD_eq_getElem?_getD,List.getElem?_eq_getElem hlt]; rfl
   rw [e] at hsub
   have hb1:mU [(br s).getD i 0]:=sy hby th
   have hd:=Fk (cH [(br s).getD i 0]) (by rw [dm]; simp)
   rw [cy hb1] at hd
   refine cx (by rw [bne,beq_eq_false_iff_ne.2 h45]; rfl) (cJ (jh (by omega) (by omega)) (cJ hsub (cJ hd ?_)))
   have:((br s).getD i 0==45)=false:=beq_eq_false_iff_ne.2 h45
   rw [this,Bool.or_false]
 have hloop:=uK (R:=Bool) (f:=fun (s26:Int) =>
      cond ((decide (s26<(s.size:Int))))
       (cu (S:=Bool) (A:=((Int)⊕((Unit)⊕Bool)))
        ((fE s s26).bind fun v9 =>
        cond ((v9 != 45))
         ((some (IntKind.i64.wrap (s26+1))).bind fun v10 =>
         (kq s s26 v10).bind fun v11 =>
         (eK v11).bind fun v12 =>
         some (.inl (!v12)))
         (some (.inl false)))
        (fun (s40:Bool) =>
         cond (s40)
          (some (.inr (.inr (false))))
          ((some (IntKind.i64.wrap (s26+1))).bind fun v18 =>
          some (.inl v18))) some)
       (some (.inr (.inl ())))) (fun i=>wU ((br s).getD i 0)) s.size false (fuel:=kz) (by simp only [kz]; omega)
  (fun i hi hp=>by
   replace hp:wU ((br s).getD i 0)=true:=hp
   have:=hstep i hi
   rw [hp] at this
   exact cx (decide_eq_true (by omega)) (cW this (bY rfl (cJ (jh (by omega) (by omega)) rfl))))
  (fun i hi hp=>by
   replace hp:wU ((br s).getD i 0)=false:=hp
   have:=hstep i hi
   rw [hp] at this
   exact cx (decide_eq_true (by omega)) (cW this (cx rfl rfl)))
  (bY (decide_eq_false (by omega)) rfl)
 rw [← cv] at hloop
 by_cases h:∀ i,i<(br s).length→wU ((br s).getD i 0)=true
 ·rw [if_pos h] at hloop
  rw [(mg _ _).2 h]
  exact cW (by rw [← cv]; exact hloop) rfl
 ·rw [if_neg h] at hloop
  rw [tL h]
  exact yJ (by rw [← cv]; exact hloop) rfl
theorem KA (s:ByteArray) (hs:s.size<4611686018427387904):gI s=some (zk (br s)):=by
 unfold gI zk
 refine cJ (zy s _ hs (by decide)) ?_
 have ew:br (⟨#[65,85,84,72,32]⟩:ByteArray)=GH:=rfl
 rw [ew]
 cases hp:Gg GH (br s) with
 | none=>exact cW (s:=true) (cx rfl rfl) (cx rfl rfl)
 | some n =>
  simp only
  obtain ⟨a,e,_,_⟩:=Do hp
  have hbn:mU n:=fun x hx=>dN s x (by rw [e]; exact List.mem_append_right _ hx)
  have hln:n.length≤s.size:=by rw [← cv,e,List.length_append]; omega
  have ec:br (⟨#[67,82,65,77,45,77,68,53]⟩:ByteArray)=Bw:=rfl
  have hsz:(cH n).size<4611686018427387904:=by rw [dm]; omega
  have h1:=qD (cH n) (⟨#[67,82,65,77,45,77,68,53]⟩:ByteArray) hsz (by decide)
  have h2:=HV (cH n) hsz
  rw [cy hbn] at h1 h2
  rw [ec] at h1
  have h3:((cH n).toList==(⟨#[]⟩:ByteArray).toList)=n.isEmpty:=by rw [Mo,cy hbn]
  cases hn:n.isEmpty with
  | true =>
   rw [hn] at h3
   exact cW (s:=true) (bY rfl (cx h3 rfl)) (cx rfl rfl)
  | false =>
   rw [hn] at h3
   by_cases hq:eQ n=eQ Bw
   ·rw [decide_eq_true hq] at h1
    rw [decide_eq_false (by simp [hq])]
    exact cW (s:=true) (bY rfl (bY h3 (cJ h1 rfl))) (cx rfl rfl)
   ·rw [decide_eq_false hq] at h1
    rw [decide_eq_true hq]
    refine cW (s:=false) (bY rfl (bY h3 (cJ h1 rfl))) (bY rfl ?_)
    exact h2
/-! Numbers,params. -/
theorem KW {b:UInt8} (h:48≤b.toNat∧b.toNat≤57):Lib.digitVal b=some (b.toNat-48):=by
 unfold Lib.digitVal; rw [if_pos h]
theorem EF:∀ (l:List UInt8) (acc:Nat),(∀ b∈l,48≤b.toNat∧b.toNat≤57)→∃ n,Lib.decFrom acc l=some n
 | [],acc,_=>⟨acc,rfl⟩
 | b::r,acc,h=>by
  obtain ⟨n,hn⟩:=EF r (acc * 10+(b.toNat-48)) fun x hx=>h x (List.mem_cons_of_mem _ hx)
  refine ⟨n,?_⟩
  unfold Lib.decFrom
  rw [KW (h b List.mem_cons_self)]
  exact hn
theorem Hs (s:ByteArray) (h0:br s≠[]) (h:(br s).all Ik=true) (hs:s.size≤18):∃ r,strconv_Atoi s=some r:=by
 unfold strconv_Atoi
 rw [if_pos hs]
 have hb:∀ b∈s.data.toList,48≤b.toNat∧b.toNat≤57:=by
  intro b hb
  have:((b.toNat:Nat):Int)∈br s:=by
   unfold br
   exact List.mem_map.2 ⟨b,hb,rfl⟩
  have:=List.all_eq_true.1 h _ this
  simp only [Ik,Bool.and_eq_true,decide_eq_true_eq] at this
  omega
 cases hl:s.data.toList with
 | nil=>exact absurd (by unfold br; rw [hl]; rfl) h0
 | cons b r =>
  rw [hl] at hb
  obtain ⟨n,hn⟩:=EF (b::r) 0 hb
  have hbb:=hb b List.mem_cons_self
  have h45:(b==45)=false:=beq_eq_false_iff_ne.2 fun e=>by rw [e] at hbb; exact absurd hbb.1 (by decide)
  have h43:(b==43)=false:=beq_eq_false_iff_ne.2 fun e=>by rw [e] at hbb; exact absurd hbb.1 (by decide)
  have he:Lib.atoi (b::r)=some (n:Int):=by
   unfold Lib.atoi
   simp only [h45,h43,Bool.false_eq_true,if_false,Lib.decNat,List.isEmpty_cons,hn]
   rfl
  rw [he]
  exact ⟨_,rfl⟩
theorem GR (s:ByteArray) (hs:s.size<4611686018427387904):(dP (S:=(Int)) (O:=(Unit)⊕(Int×Bool)) (fun (s24:Int) =>
      cond ((decide (s24<(s.size:Int))))
       (cu (S:=Bool) (A:=((Int)⊕((Unit)⊕(Int×Bool))))
        ((fE s s24).bind fun v9 =>
        cond ((decide (v9<48)))
         (some (.inl true))
         ((fE s s24).bind fun v10 =>
         some (.inl ((decide (57<v10))))))
        (fun (s38:Bool) =>
         cond (s38)
          (some (.inr (.inr ((0,false)))))
          ((some (IntKind.i64.wrap (s24+1))).bind fun v16 =>
          some (.inl v16))) some)
       (some (.inr (.inl ()))))
      kz 0)=some (if (br s).all Ik=true then .inl () else .inr (0,false)):=by
 have hstep:∀ i:Nat,i<s.size→((fE s (i:Int)).bind fun v9 =>
        cond ((decide (v9<48)))
         (some (.inl true))
         ((fE s (i:Int)).bind fun v10 =>
         some (.inl ((decide (57<v10))))):Option (Bool⊕((Int)⊕((Unit)⊕(Int×Bool)))))=some (.inl (!Ik ((br s).getD i 0))):=by
  intro i hi
  have hc:=wY hi
  refine cJ hc ?_
  unfold Ik
  by_cases h1:(br s).getD i 0<48
  ·rw [decide_eq_true h1,decide_eq_false (p:=48≤(br s).getD i 0) (by omega)]; rfl
  ·rw [decide_eq_false h1,decide_eq_true (p:=48≤(br s).getD i 0) (by omega)]
   refine cJ hc ?_
   by_cases h2:(br s).getD i 0≤57
   ·rw [decide_eq_true h2,decide_eq_false (by omega)]; rfl
   ·rw [decide_eq_false h2,decide_eq_true (by omega)]; rfl
 have hloop:=uK (R:=Int×Bool) (f:=fun (s24:Int) =>
      cond ((decide (s24<(s.size:Int))))
       (cu (S:=Bool) (A:=((Int)⊕((Unit)⊕(Int×Bool))))
        ((fE s s24).bind fun v9 =>
        cond ((decide (v9<48)))
         (some (.inl true))
         ((fE s s24).bind fun v10 =>
         some (.inl ((decide (57<v10))))))
        (fun (s38:Bool) =>
         cond (s38)
          (some (.inr (.inr ((0,false)))))
          ((some (IntKind.i64.wrap (s24+1))).bind fun v16 =>
          some (.inl v16))) some)
       (some (.inr (.inl ())))) (fun i=>Ik ((br s).getD i 0)) s.size (0,false) (fuel:=kz) (by simp only [kz]; omega)
  (fun i hi hp=>by
   replace hp:Ik ((br s).getD i 0)=true:=hp
   have:=hstep i hi
   rw [hp] at this
   exact cx (decide_eq_true (by omega)) (cW this (bY rfl (cJ (jh (by omega) (by omega)) rfl))))
  (fun i hi hp=>by
   replace hp:Ik ((br s).getD i 0)=false:=hp
   have:=hstep i hi
   rw [hp] at this
   exact cx (decide_eq_true (by omega)) (cW this (cx rfl rfl)))
  (bY (decide_eq_false (by omega)) rfl)
 rw [hloop]
 congr 1
 by_cases h:∀ i,i<s.size→Ik ((br s).getD i 0)=true
 ·rw [if_pos h,if_pos ((mg _ _).2 (by rw [cv]; exact h))]
 ·rw [if_neg h,if_neg (by rw [tL (by rw [cv]; exact h)]; simp)]
theorem LV (s:ByteArray):∃ n,mT s 9=some (n,Lj (br s)):=by
 unfold mT Lj
 have hE:=Mo s
 cases he:(br s).isEmpty with
 | true=>exact ⟨0,cW (s:=true) (cx (by rw [hE,he]) rfl) (cx rfl rfl)⟩
 | false =>
  rw [he] at hE
  by_cases hl:(br s).length≤9
  ·rw [decide_eq_true hl]
   rw [cv] at hl
   have hne:br s≠[]:=by intro h; rw [h] at he; cases he
   have h0:0<s.size:=by
    rw [← cv]; exact List.length_pos_iff.2 hne
   have hc:=wY h0
   have hh:=vE hne
   have hz:((s.toList==(⟨#[48]⟩:ByteArray).toList))=decide (br s=[48]):=by rw [NL]; rfl
   have hcond:∀ (Z:Option (Bool⊕(Int×Bool))),Z=((fE s 0).bind fun v2 =>
    cond ((v2==48))
     (some (.inl ((!(s.toList==(⟨#[48]⟩:ByteArray).toList)))))
     (some (.inl false)))→Z=some (.inl ((br s).head? == some 48&&decide (br s≠[48]))):=by
    intro Z hZ
    rw [hZ]
    refine cJ hc ?_
    rw [hh,hz]
    by_cases h48:(br s).getD 0 0=48
    ·rw [h48]
     by_cases h1:br s=[48]
     ·simp [h1]
     ·simp [h1]
    ·have e1:((br s).getD 0 0==48)=false:=beq_eq_false_iff_ne.2 h48
     rw [e1]
     have e2:(some ((br s).getD 0 0)==some (48:Int))=false:=beq_eq_false_iff_ne.2 fun h=>h48 (Option.some.inj h)
     rw [e2]; rfl
   have hfirst:=hcond _ rfl
   cases hq:((br s).head? == some 48&&decide (br s≠[48])) with
   | true =>
    rw [hq] at hfirst
    exact ⟨0,cW (s:=true) (bY hE (cJ (x:=9) rfl (bY (decide_eq_false (by omega)) hfirst))) (cx rfl rfl)⟩
   | false =>
    rw [hq] at hfirst
    cases hd:(br s).all Ik with
    | true =>
     obtain ⟨r,hr⟩:=Hs s hne hd (by omega)
     have hlp:=GR s (by omega)
     rw [hd,if_pos rfl] at hlp
     exact ⟨r.1,cW (s:=false) (bY hE (cJ (x:=9) rfl (bY (decide_eq_false (by omega)) hfirst))) (bY rfl (cW hlp (cJ hr rfl)))⟩
    | false =>
     have hlp:=GR s (by omega)
     rw [hd,if_neg (by simp)] at hlp
     exact ⟨0,cW (s:=false) (bY hE (cJ (x:=9) rfl (bY (decide_eq_false (by omega)) hfirst))) (bY rfl (yJ hlp rfl))⟩
  ·rw [decide_eq_false hl]
   rw [cv] at hl
   exact ⟨0,cW (s:=true) (bY hE (cJ (x:=9) rfl (cx (decide_eq_true (by omega)) rfl))) (cx rfl rfl)⟩
theorem DK (s a b:ByteArray) (hs:s.size<4611686018427387904) (ha:a.size<1000) (hb:b.size<1000):nq s [a,b]=some (if eQ (br s)=eQ (br a) then (a,true) else if eQ (br s)=eQ (br b) then (b,true) else (e0,false)):=by
 unfold nq
 have h1:=qD s a hs (by omega)
 have h2:=qD s b hs (by omega)
 have w1:some (IntKind.i64.wrap ((0:Int)+1))=some 1:=rfl
 have w2:some (IntKind.i64.wrap ((1:Int)+1))=some 2:=rfl
 by_cases p1:eQ (br s)=eQ (br a)
 ·rw [if_pos p1]
  rw [decide_eq_true p1] at h1
  exact yJ (ik (cx rfl (cJ rfl (cJ rfl (cJ h1 (cx rfl rfl)))))) rfl
 ·rw [if_neg p1]
  rw [decide_eq_false p1] at h1
  by_cases p2:eQ (br s)=eQ (br b)
  ·rw [if_pos p2]
   rw [decide_eq_true p2] at h2
   exact yJ ((kG (cx rfl (cJ rfl (cJ rfl (cJ h1 (bY rfl (cJ w1 rfl))))))).trans (ik (cx rfl (cJ rfl (cJ rfl (cJ h2 (cx rfl rfl))))))) rfl
  ·rw [if_neg p2]
   rw [decide_eq_false p2] at h2
   exact cW ((kG (cx rfl (cJ rfl (cJ rfl (cJ h1 (bY rfl (cJ w1 rfl))))))).trans ((kG (cx rfl (cJ rfl (cJ rfl (cJ h2 (bY rfl (cJ w2 rfl))))))).trans (ik (bY rfl rfl)))) rfl
theorem Jh (kind:Int) (p:List Int) (hp:mU p) (hl:p.length<4611686018427387904):∃ q,ja kind (nr (cH (eH 61 p).1)) (cH (eH 61 p).2.1)=some (q,(ud kind p).isSome)∧∀ x,ud kind p=some x→q=x:=by
 unfold ja ud
 have hb:=CW 61 hp
 have hcl:=uT 61 p
 have hk:∀ (t:ByteArray),(((nr (cH (eH 61 p).1)).toList==t.toList))=decide (eQ (eH 61 p).1=br t):=fun t=>by
  rw [NL,rl,cy hb.1]
 have hv:br (cH (eH 61 p).2.1)=(eH 61 p).2.1:=cy hb.2
 have hsz:(cH (eH 61 p).2.1).size<4611686018427387904:=by rw [dm]; omega
 have guard:∀ (k:Int) (t:ByteArray) (w:List Int),br t=w→(cond ((kind==k)) (some (.inl ((nr (cH (eH 61 p).1)).toList==t.toList))) (some (.inl false)):Option (Bool⊕(bX×Bool)))=some (.inl (decide (kind=k∧eQ (eH 61 p).1=w))):=by
  intro k t w hw
  by_cases h:kind=k
  ·rw [beq_iff_eq.2 h,hk,hw]
   simp [h]
  ·rw [beq_eq_false_iff_ne.2 h]
   simp [h]
 by_cases g1:kind=2∧eQ (eH 61 p).1=[115,105,122,101]
 ·have h1:=guard 2 (⟨#[115,105,122,101]⟩:ByteArray) _ rfl
  rw [show (decide (kind=2∧eQ (eH 61 p).1=br (⟨#[115,105,122,101]⟩:ByteArray)))=true from decide_eq_true g1] at h1
  rw [if_pos g1]
  obtain ⟨n,hn⟩:=LV (cH (eH 61 p).2.1)
  rw [hv] at hn
  refine ⟨bX.mk (⟨#[83,73,90,69]⟩:ByteArray) (cH (eH 61 p).2.1),cW h1 (cx rfl (cJ hn ?_)),?_⟩
  ·cases Lj (eH 61 p).2.1 <;> rfl
  ·intro x hx
   split at hx
   ·cases hx; rfl
   ·cases hx
 have h1:=guard 2 (⟨#[115,105,122,101]⟩:ByteArray) _ rfl
 rw [show (decide (kind=2∧eQ (eH 61 p).1=br (⟨#[115,105,122,101]⟩:ByteArray)))=false from decide_eq_false g1] at h1
 rw [if_neg g1]
 by_cases g2:kind=2∧eQ (eH 61 p).1=[114,101,116]
 ·have h2:=guard 2 (⟨#[114,101,116]⟩:ByteArray) _ rfl
  rw [show (decide (kind=2∧eQ (eH 61 p).1=br (⟨#[114,101,116]⟩:ByteArray)))=true from decide_eq_true g2] at h2
  rw [if_pos g2]
  have ho:=DK (cH (eH 61 p).2.1) (⟨#[70,85,76,76]⟩:ByteArray) (⟨#[72,68,82,83]⟩:ByteArray) hsz (by decide) (by decide)
  rw [hv,show eQ (br (⟨#[70,85,76,76]⟩:ByteArray))=[102,117,108,108] from rfl,show eQ (br (⟨#[72,68,82,83]⟩:ByteArray))=[104,100,114,115] from rfl] at ho
  by_cases q1:eQ (eH 61 p).2.1=[102,117,108,108]
  ·rw [if_pos q1] at ho
   rw [if_pos q1]
   exact ⟨_,cW h1 (bY rfl (cW h2 (cx rfl (cJ ho rfl)))),fun x hx=>by cases hx; rfl⟩
  ·rw [if_neg q1] at ho
   rw [if_neg q1]
   by_cases q2:eQ (eH 61 p).2.1=[104,100,114,115]
   ·rw [if_pos q2] at ho
    rw [if_pos q2]
    exact ⟨_,cW h1 (bY rfl (cW h2 (cx rfl (cJ ho rfl)))),fun x hx=>by cases hx; rfl⟩
   ·rw [if_neg q2] at ho
    rw [if_neg q2]
    exact ⟨_,cW h1 (bY rfl (cW h2 (cx rfl (cJ ho rfl)))),fun x hx=>by cases hx⟩
 have h2:=guard 2 (⟨#[114,101,116]⟩:ByteArray) _ rfl
 rw [show (decide (kind=2∧eQ (eH 61 p).1=br (⟨#[114,101,116]⟩:ByteArray)))=false from decide_eq_false g2] at h2
 rw [if_neg g2]
 by_cases g3:kind=3∧eQ (eH 61 p).1=[110,111,116,105,102,121]
 ·have h3:=guard 3 (⟨#[110,111,116,105,102,121]⟩:ByteArray) _ rfl
  rw [show (decide (kind=3∧eQ (eH 61 p).1=br (⟨#[110,111,116,105,102,121]⟩:ByteArray)))=true from decide_eq_true g3] at h3
  rw [if_pos g3]
  have ho:=DK (cH (eH 61 p).2.1) (⟨#[78,69,86,69,82]⟩:ByteArray) (⟨#[70,65,73,76,85,82,69]⟩:ByteArray) hsz (by decide) (by decide)
  rw [hv,show eQ (br (⟨#[78,69,86,69,82]⟩:ByteArray))=[110,101,118,101,114] from rfl,show eQ (br (⟨#[70,65,73,76,85,82,69]⟩:ByteArray))=[102,97,105,108,117,114,101] from rfl] at ho
  by_cases q1:eQ (eH 61 p).2.1=[110,101,118,101,114]
  ·rw [if_pos q1] at ho
   rw [if_pos q1]
   exact ⟨_,cW h1 (bY rfl (cW h2 (bY rfl (cW h3 (cx rfl (cJ ho rfl)))))),fun x hx=>by cases hx; rfl⟩
  ·rw [if_neg q1] at ho
   rw [if_neg q1]
   by_cases q2:eQ (eH 61 p).2.1=[102,97,105,108,117,114,101]
   ·rw [if_pos q2] at ho
    rw [if_pos q2]
    exact ⟨_,cW h1 (bY rfl (cW h2 (bY rfl (cW h3 (cx rfl (cJ ho rfl)))))),fun x hx=>by cases hx; rfl⟩
   ·rw [if_neg q2] at ho
    rw [if_neg q2]
    exact ⟨_,cW h1 (bY rfl (cW h2 (bY rfl (cW h3 (cx rfl (cJ ho rfl)))))),fun x hx=>by cases hx⟩
 have h3:=guard 3 (⟨#[110,111,116,105,102,121]⟩:ByteArray) _ rfl
 rw [show (decide (kind=3∧eQ (eH 61 p).1=br (⟨#[110,111,116,105,102,121]⟩:ByteArray)))=false from decide_eq_false g3] at h3
 rw [if_neg g3]
 exact ⟨_,cW h1 (bY rfl (cW h2 (bY rfl (cW h3 (bY rfl rfl))))),fun x hx=>by cases hx⟩
/-! A whole line. -/
theorem Kq (s:List bX) (c:bX) (hs:s.length<4611686018427387904):cE s c=some (s.any fun x=>decide (x.Key=c.Key)):=by
 unfold cE df
 have hcap:∀ i,(h:i<s.length)→fY s[i] c=some (decide (s[i].Key=c.Key)):=fun i h=>by
  unfold fY
  rw [gC]
 rcases uf (fun i => !(decide ((s.getD i c).Key=c.Key))||decide (s.length≤i)) s.length with h | ⟨k,hk,hb,hf⟩
 ·have hall:∀ i,(hi:i<s.length)→decide (s[i].Key=c.Key)=false:=by
   intro i hi
   have:=h i hi
   rw [decide_eq_false (p:=s.length≤i) (by omega),Bool.or_false,List.getD_eq_getElem?_getD,List.getElem?_eq_getElem hi] at this
   simpa using this
  have hany:(s.any fun x=>decide (x.Key=c.Key))=false:=by
   refine List.any_eq_false.2 fun x hx => ?_
   obtain ⟨i,hi,rfl⟩:=List.mem_iff_getElem.1 hx
   rw [hall i hi]; simp
  rw [hany]
  refine cJ (x := -1) (cW (s:=()) (jd (fun i=>(i:Int)) s.length _ rfl (by simp only [kz]; omega) (fun i hi => ?_) ?_) rfl) rfl
  ·exact cx (decide_eq_true (by omega)) (cJ (xY hi) (cJ (xB hi) (cJ (hcap i hi) (bY (hall i hi) (cJ (jh (by omega) (by omega)) rfl)))))
  ·exact bY (decide_eq_false (by omega)) rfl
 ·have hkk:decide (s[k].Key=c.Key)=true:=by
   rw [decide_eq_false (p:=s.length≤k) (by omega),Bool.or_false,List.getD_eq_getElem?_getD,List.getElem?_eq_getElem hk] at hf
   simpa using hf
  have hany:(s.any fun x=>decide (x.Key=c.Key))=true:=List.any_eq_true.2 ⟨s[k],List.getElem_mem hk,hkk⟩
  rw [hany]
  refine cJ (x:=(k:Int)) (yJ (jd (fun i=>(i:Int)) k _ rfl (by simp only [kz]; omega) (fun i hi => ?_) ?_) rfl) ?_
  ·have hi2:i<s.length:=by omega
   have:=hb i hi
   rw [decide_eq_false (p:=s.length≤i) (by omega),Bool.or_false,List.getD_eq_getElem?_getD,List.getElem?_eq_getElem hi2] at this
   have hii:decide (s[i].Key=c.Key)=false:=by simpa using this
   exact cx (decide_eq_true (by omega)) (cJ (xY hi2) (cJ (xB hi2) (cJ (hcap i hi2) (bY hii (cJ (jh (by omega) (by omega)) rfl)))))
  ·exact cx (decide_eq_true (by omega)) (cJ (xY hk) (cJ (xB hk) (cJ (hcap k hk) (cx hkk rfl))))
  ·rw [decide_eq_true (by omega)]
def xy (kind:Int):ByteArray→List bX→Option (List bX⊕List bX):=fun (x:ByteArray) (s46:(List bX)) =>
     (fL x (⟨#[61]⟩:ByteArray)).bind fun v5 =>
     (gY v5.1).bind fun v6 =>
     (ja kind v6 v5.2.1).bind fun v7 =>
     cu (S:=Bool) (A:=(((List bX))⊕((List bX))))
      (cond ((!v7.2))
       (some (.inl true))
       ((cE s46 v7.1).bind fun v8 =>
       some (.inl v8)))
      (fun (s53:Bool) =>
       cond (s53)
        (some (.inr s46))
        ((fZ 32 s46 [v7.1]).bind fun v14 =>
        some (.inl v14))) some
theorem Ji (kind:Int):∀ (ps:List (List Int)) (acc:List bX),(∀ p∈ps,mU p∧p.length<100000)→acc.length+ps.length<1000000→∃ r,Cq (xy kind) (ps.map cH) acc=some r∧match EA kind ps acc with | some out=>r = .inl out | none=>∃ z,r = .inr z
 | [],acc,_,_=>⟨.inl acc,rfl,rfl⟩
 | p::ps,acc,hp,hl=>by
  obtain ⟨hb,hpl⟩:=hp p List.mem_cons_self
  obtain ⟨q,hq,hx⟩:=Jh kind p hb (by omega)
  have hc:=CA (n:=61) (by decide) (cH p) (by rw [dm]; omega)
  rw [cy hb] at hc
  have hcl:=uT 61 p
  have hf:=tc (cH (eH 61 p).1) (by rw [dm]; omega)
  have hstep:xy kind (cH p) acc=some (match ud kind p with | none => .inr acc | some q=>if (acc.any fun x=>decide (x.Key=q.Key))=true then .inr acc else .inl (acc++[q])):=by
   unfold xy
   refine cJ hc (cJ hf (cJ hq ?_))
   cases hpp:ud kind p with
   | none=>exact cW (s:=true) (cx (by rfl) rfl) (cx rfl rfl)
   | some q' =>
    have hqq:=hx q' hpp
    subst hqq
    have hidx:=Kq acc q (by omega)
    cases ha:(acc.any fun x=>decide (x.Key=q.Key)) with
    | true =>
     rw [ha] at hidx
     exact cW (s:=true) (bY (by rfl) (cJ hidx rfl)) (cx rfl (by simp only [ha,if_true]))
    | false =>
     rw [ha] at hidx
     refine cW (s:=false) (bY (by rfl) (cJ hidx rfl)) (bY rfl (cJ (ua ?_ ?_) (by simp only [ha,Bool.false_eq_true,if_false]))) <;> simp <;> simp only [List.length_cons] at hl <;> omega
  rw [List.map_cons]
  unfold Cq EA
  rw [hstep]
  cases hpp:ud kind p with
  | none=>exact ⟨.inr acc,rfl,acc,rfl⟩
  | some q' =>
   simp only
   by_cases ha:(acc.any fun x=>decide (x.Key=q'.Key))=true
   ·rw [if_pos ha,if_pos ha]
    exact ⟨.inr acc,rfl,acc,rfl⟩
   ·rw [if_neg ha,if_neg ha]
    exact Ji kind ps (acc++[q']) (fun x hx=>hp x (List.mem_cons_of_mem _ hx)) (by simp only [List.length_append,List.length_cons,List.length_nil] at hl ⊢; omega)
theorem Kn (c:Int) (l:List Int):(nb c l).length≤l.length+1:=by
 rw [Ch c l]
 generalize nb c l=ps
 induction ps with
 | nil=>simp
 | cons p ps ih=>simp only [List.length_cons,List.map_cons,List.sum_cons]; omega
theorem IX (c:Int) (l:List Int):∀ p∈nb c l,p.length≤l.length:=by
 intro p hp
 have h:=Ch c l
 have:p.length+1≤((nb c l).map fun p=>p.length+1).sum:=by
  generalize nb c l=ps at hp
  induction ps with
  | nil=>cases hp
  | cons q ps ih =>
   simp only [List.map_cons,List.sum_cons]
   rcases List.mem_cons.1 hp with rfl | hp
   ·omega
   ·have:=ih hp; omega
 omega
theorem Lb (kind:Int) (l:List Int) (hb:mU l) (hl:l.length<10000):∃ ps,jE kind (cH l)=some (ps,(Bd kind l).isSome)∧∀ x,Bd kind l=some x→ps=x:=by
 unfold jE
 have hE:=Mo (cH l)
 rw [cy hb] at hE
 cases l with
 | nil=>exact ⟨[],cx hE rfl,fun x hx=>by cases hx; rfl⟩
 | cons c r =>
  have hcp:=vq (cH (c::r)) (⟨#[32]⟩:ByteArray)
  rw [cy hb,show br (⟨#[32]⟩:ByteArray)=[32] from rfl] at hcp
  have hbr:mU r:=fun x hx=>hb x (List.mem_cons_of_mem _ hx)
  simp only [List.length_cons] at hl
  unfold Bd
  simp only
  by_cases h32:c=32
  ·rw [if_pos h32]
   rw [if_pos (by rw [Ku]; simp [h32])] at hcp
   have e1:(c::r).drop (⟨#[32]⟩:ByteArray).size=r:=rfl
   rw [e1] at hcp
   have hmem:∀ p∈nb 32 r,mU p∧p.length<100000:=fun p hp=>⟨fun x hx=>hbr x (Gx 32 r p hp x hx),by have:=IX 32 r p hp; omega⟩
   obtain ⟨z,hz,hm⟩:=Ji kind (nb 32 r) [] hmem (by have:=Kn 32 r; simp only [List.length_nil]; omega)
   have hsr:=wE 32 (by decide) (xy kind) (cH r) [] (by rw [dm]; omega) z (by unfold EB; rw [cy hbr]; exact hz)
   cases hf:EA kind (nb 32 r) [] with
   | some out =>
    rw [hf] at hm
    simp only at hm
    subst hm
    exact ⟨out,bY hE (cJ hcp (bY rfl (cJ (x:=(⟨#[32]⟩,cH r,0)) rfl (cW hsr rfl)))),fun x hx=>by cases hx; rfl⟩
   | none =>
    rw [hf] at hm
    simp only at hm
    obtain ⟨y,rfl⟩:=hm
    exact ⟨[],bY hE (cJ hcp (bY rfl (cJ (x:=(⟨#[32]⟩,cH r,0)) rfl (yJ hsr rfl)))),fun x hx=>by cases hx⟩
  ·rw [if_neg h32]
   rw [if_neg (by rw [Ku]; simp [h32])] at hcp
   exact ⟨[],bY hE (cJ hcp (cx rfl rfl)),fun x hx=>by cases hx⟩
theorem vt (kind:Int):mH kind=some (cH (oK kind)):=by
 unfold mH oK
 by_cases h:kind=2
 ·rw [if_pos h]; exact cx (beq_iff_eq.2 h) rfl
 ·rw [if_neg h]; exact bY (beq_eq_false_iff_ne.2 h) rfl
theorem FS (kind:Int) (l:List Int) (hb:mU l) (hl:l.length<10000):∃ c,jm kind (cH l)=some (c,((Gg (oK kind) l).bind (tT kind)).isSome)∧∀ x,(Gg (oK kind) l).bind (tT kind)=some x→c=x:=by
 unfold jm
 have hbo:mU (oK kind):=by
  unfold oK; split <;> decide
 have hlo:(oK kind).length≤10:=by
  unfold oK; split <;> decide
 have hcf:=zy (cH l) (cH (oK kind)) (by rw [dm]; omega) (by rw [dm]; omega)
 rw [cy hb,cy hbo] at hcf
 cases hp:Gg (oK kind) l with
 | none =>
  rw [hp] at hcf
  exact ⟨_,cJ (vt kind) (cJ hcf (cx rfl rfl)),fun x hx=>by cases hx⟩
 | some r =>
  rw [hp] at hcf
  simp only at hcf
  obtain ⟨a,e,_,_⟩:=Do hp
  have hbr:mU r:=fun x hx=>hb x (by rw [e]; exact List.mem_append_right _ hx)
  have hlr:r.length<10000:=by rw [e,List.length_append] at hl; omega
  have hix:=vZ (n:=62) (by decide) (cH r)
  rw [cy hbr] at hix
  rw [Option.bind_some]
  unfold tT
  cases hi:lC 62 r with
  | none =>
   have hi':lC ((62:Nat):Int) r=none:=hi
   rw [hi'] at hix
   have hs0:kq (cH r) 0 0=some (cH []):=by
    have:=kP (s:=cH r) (a:=0) (b:=0) (by omega) (by omega)
    exact this
   have hpe:=Dr (cH []) (by decide)
   have:FM (br (cH []))=none:=rfl
   rw [this] at hpe
   exact ⟨_,cJ (vt kind) (cJ hcf (bY rfl (cJ hix (cJ (x:=0) rfl (cJ hs0 (cJ hpe (cW (s:=true) (cx rfl rfl) (cx rfl rfl)))))))),fun x hx=>by cases hx⟩
  | some n =>
   have hi':lC ((62:Nat):Int) r=some n:=hi
   rw [hi'] at hix
   have hn:=qE hi
   have hs1:=kP (s:=cH r) (a:=0) (b:=n+1) (by omega) (by rw [dm]; omega)
   have hs2:=kP (s:=cH r) (a:=n+1) (b:=(cH r).size) (by rw [dm]; omega) (Nat.le_refl _)
   rw [cy hbr,List.drop_zero,Nat.sub_zero] at hs1
   rw [cy hbr,List.take_of_length_le (by rw [List.length_drop,dm]; exact Nat.le_refl _)] at hs2
   have hbt:=qo hbr (n+1)
   have hpe:=Dr (cH (r.take (n+1))) (by rw [dm,List.length_take]; omega)
   rw [cy hbt] at hpe
   have hw:some (IntKind.i64.wrap ((n:Int)+1))=some (((n+1:Nat):Int)):=by rw [jJ (by omega)]
   simp only
   cases hpar:FM (r.take (n+1)) with
   | none =>
    rw [hpar] at hpe
    exact ⟨_,cJ (vt kind) (cJ hcf (bY rfl (cJ hix (cJ hw (cJ hs1 (cJ hpe (cW (s:=true) (cx rfl rfl) (cx rfl rfl)))))))),fun x hx=>by cases hx⟩
   | some p =>
    rw [hpar] at hpe
    simp only at hpe ⊢
    have hguard:(cond (kind==3) (some (.inl p.Null)) (some (.inl false)):Option (Bool⊕(dA×Bool)))=some (.inl (decide (kind=3∧p.Null=true))):=by
     by_cases h3:kind=3
     ·rw [beq_iff_eq.2 h3]; cases p.Null <;> simp [h3]
     ·rw [beq_eq_false_iff_ne.2 h3]; simp [h3]
    by_cases hg:kind=3∧p.Null=true
    ·rw [if_pos hg]
     rw [decide_eq_true hg] at hguard
     exact ⟨_,cJ (vt kind) (cJ hcf (bY rfl (cJ hix (cJ hw (cJ hs1 (cJ hpe (cW (s:=true) (bY rfl hguard) (cx rfl rfl)))))))),fun x hx=>by cases hx⟩
    ·rw [if_neg hg]
     rw [decide_eq_false hg] at hguard
     obtain ⟨ps,hps,hx⟩:=Lb kind (r.drop (n+1)) (pn hbr _) (by rw [List.length_drop]; omega)
     refine ⟨⟨kind,e0,p,ps⟩,cJ (vt kind) (cJ hcf (bY rfl (cJ hix (cJ hw (cJ hs1 (cJ hpe (cW (s:=false) (bY rfl hguard) (bY rfl (cJ hs2 (cJ hps ?_)))))))))),?_⟩
     ·cases Bd kind (r.drop (n+1)) <;> rfl
     ·intro x hxx
      cases hpp:Bd kind (r.drop (n+1)) with
      | none=>rw [hpp] at hxx; cases hxx
      | some qs =>
       rw [hpp] at hxx
       cases hxx
       rw [hx qs hpp]
theorem Og {R:Type} (k a b:Int):(cond (k==a) (some (.inl (k==a))) (some (.inl (k==b))):Option (Bool⊕R))=some (.inl (decide (k=a∨k=b))):=by
 rw [Bool.decide_or]
 by_cases h:k=a
 ·rw [beq_iff_eq.2 h,decide_eq_true h]; rfl
 ·rw [beq_eq_false_iff_ne.2 h,decide_eq_false h]
  by_cases h2:k=b
  ·rw [beq_iff_eq.2 h2,decide_eq_true h2]; rfl
  ·rw [beq_eq_false_iff_ne.2 h2,decide_eq_false h2]; rfl
theorem Fh (l:List Int) (hb:mU l) (hl:l.length<10000):∃ c,mJ (cH l)=some (c,(Ff l).isSome)∧∀ x,Ff l=some x→c=x:=by
 unfold mJ
 have hc:=CA (n:=32) (by decide) (cH l) (by rw [dm]; omega)
 have hk:=BI (cH l) (by rw [dm]; omega)
 rw [cy hb] at hc hk
 replace hc:fL (cH l) (⟨#[32]⟩:ByteArray)=some (cH (eH 32 l).1,cH (eH 32 l).2.1,(eH 32 l).2.2):=hc
 have hbc:=CW 32 hb
 have hcl:=uT 32 l
 have hd:=Fk (cH (eH 32 l).2.1) (by rw [dm]; omega)
 rw [cy hbc.2] at hd
 have hcram:=qD (cH (eH 32 l).2.1) (⟨#[67,82,65,77,45,77,68,53]⟩:ByteArray) (by rw [dm]; omega) (by decide)
 rw [cy hbc.2,show br (⟨#[67,82,65,77,45,77,68,53]⟩:ByteArray)=Bw from rfl] at hcram
 have hemp:((cH (eH 32 l).2.1).toList==(⟨#[]⟩:ByteArray).toList)=decide ((eH 32 l).2.1=[]):=by
  rw [NL,cy hbc.2]; rfl
 obtain ⟨pc,hpc,hpx⟩:=FS (sq l) l hb hl
 unfold Ff
 simp only
 generalize sq l=k at hk hpc hpx
 by_cases h1:k=2∨k=3
 ·have g1:=Og (R:=dA×Bool) k 2 3
  rw [decide_eq_true h1] at g1
  rw [if_pos h1]
  exact ⟨pc,cJ hc (cJ hk (cW g1 (cx rfl (cJ hpc rfl)))),hpx⟩
 have g1:=Og (R:=dA×Bool) k 2 3
 rw [decide_eq_false h1] at g1
 rw [if_neg h1]
 by_cases h2:k=1∨k=9
 ·have g2:=Og (R:=dA×Bool) k 1 9
  rw [decide_eq_true h2] at g2
  rw [if_pos h2]
  refine ⟨⟨k,cH (eH 32 l).2.1,GS,[]⟩,cJ hc (cJ hk (cW g1 (bY rfl (cW g2 (cx rfl (cJ hd ?_)))))),fun x hx => ?_⟩
  ·cases pL (eH 32 l).2.1 <;> rfl
  ·split at hx
   ·cases hx; rfl
   ·cases hx
 have g2:=Og (R:=dA×Bool) k 1 9
 rw [decide_eq_false h2] at g2
 rw [if_neg h2]
 by_cases h3:k=6
 ·rw [if_pos h3]
  refine ⟨⟨k,cH (eH 32 l).2.1,GS,[]⟩,cJ hc (cJ hk (cW g1 (bY rfl (cW g2 (bY rfl (cx (beq_iff_eq.2 h3) ?_)))))),fun x hx => ?_⟩
  ·simp only [hemp]
   by_cases he:(eH 32 l).2.1=[]
   ·rw [decide_eq_true he,if_pos he]; rfl
   ·rw [decide_eq_false he,if_neg he]; rfl
  ·split at hx
   ·cases hx
   ·cases hx; rfl
 rw [if_neg h3]
 have f3:(k==6)=false:=beq_eq_false_iff_ne.2 h3
 by_cases h4:k=11
 ·rw [if_pos h4]
  refine ⟨⟨k,cH (eH 32 l).2.1,GS,[]⟩,cJ hc (cJ hk (cW g1 (bY rfl (cW g2 (bY rfl (bY f3 (cx (beq_iff_eq.2 h4) ?_))))))),fun x hx => ?_⟩
  ·cases hm:(eH 32 l).2.2 with
   | false=>exact cW (s:=true) (cx rfl rfl) rfl
   | true =>
    refine cW (s:=pL (eH 32 l).2.1) (bY rfl (cJ hd rfl)) ?_
    cases pL (eH 32 l).2.1 <;> rfl
  ·split at hx
   ·cases hx
   ·cases hx; rfl
 rw [if_neg h4]
 have f4:(k==11)=false:=beq_eq_false_iff_ne.2 h4
 by_cases h5:k=10
 ·rw [if_pos h5]
  refine ⟨⟨k,e0,GS,[]⟩,cJ hc (cJ hk (cW g1 (bY rfl (cW g2 (bY rfl (bY f3 (bY f4 (cx (beq_iff_eq.2 h5) (cJ hcram ?_))))))))),fun x hx => ?_⟩
  ·by_cases he:eQ (eH 32 l).2.1=eQ Bw
   ·rw [decide_eq_true he,if_pos he]; rfl
   ·rw [decide_eq_false he,if_neg he]; rfl
  ·split at hx
   ·cases hx; rfl
   ·cases hx
 rw [if_neg h5]
 have f5:(k==10)=false:=beq_eq_false_iff_ne.2 h5
 by_cases h6:k=7
 ·rw [if_pos h6]
  exact ⟨⟨k,e0,GS,[]⟩,cJ hc (cJ hk (cW g1 (bY rfl (cW g2 (bY rfl (bY f3 (bY f4 (bY f5 (cx (beq_iff_eq.2 h6) rfl))))))))),fun x hx=>by cases hx; rfl⟩
 rw [if_neg h6]
 have f6:(k==7)=false:=beq_eq_false_iff_ne.2 h6
 refine ⟨⟨k,e0,GS,[]⟩,cJ hc (cJ hk (cW g1 (bY rfl (cW g2 (bY rfl (bY f3 (bY f4 (bY f5 (bY f6 ?_))))))))),fun x hx => ?_⟩
 ·cases hm:(eH 32 l).2.2 with
  | true=>rfl
  | false=>rfl
 ·split at hx
  ·cases hx
  ·cases hx; rfl
theorem Nw {l:List Int} (h:510<l.length):uc l=(Od,500):=by
 unfold uc; rw [if_pos (.inl h)]
theorem Kb (l:List Int) (hb:mU l):jr (cH l)=some (uc l):=by
 by_cases hlen:510<l.length
 ·rw [Nw hlen]
  unfold jr
  exact cW (s:=true) (cx (decide_eq_true (by rw [dm]; omega)) rfl) (cx rfl rfl)
 unfold jr uc
 have g0:decide (510<((cH l).size:Int))=false:=decide_eq_false (by rw [dm]; omega)
 have hp:=Jg l hb (by omega)
 cases hpr:l.all Fp with
 | false =>
  rw [if_pos (.inr (.inl rfl))]
  rw [hpr] at hp
  exact cW (s:=true) (bY g0 (cJ hp (cx rfl rfl))) (cx rfl rfl)
 | true =>
  rw [hpr] at hp
  have hk:=BI (cH l) (by rw [dm]; omega)
  have hm:=KA (cH l) (by rw [dm]; omega)
  rw [cy hb] at hk hm
  by_cases hk0:sq l=0
  ·rw [if_pos (.inr (.inr hk0))]
   exact cW (s:=true) (bY g0 (cJ hp (bY rfl (cJ hk (by rw [beq_iff_eq.2 hk0]))))) (cx rfl rfl)
  ·rw [if_neg (by rintro (h | h | h) <;> first | omega | cases h | exact hk0 h)]
   refine cW (s:=false) (bY g0 (cJ hp (bY rfl (cJ hk (by rw [beq_eq_false_iff_ne.2 hk0]))))) (bY rfl (cJ hm ?_))
   cases zk l with
   | true=>exact cx rfl rfl
   | false =>
    obtain ⟨c,hc,hx⟩:=Fh l hb (by omega)
    refine bY rfl (cJ hc ?_)
    cases hcm:Ff l with
    | none=>exact cx rfl rfl
    | some x =>
     rw [hx x hcm]
     exact bY rfl rfl
theorem Gr (s:ByteArray):jr s=some (uc (br s)):=by
 have:=Kb (br s) (dN s)
 rwa [ko] at this
def Dw:Nat→Nat→List Int→List Int
 | 0,n,acc=>(48+(n:Int))::acc
 | k+1,n,acc=>if n≤9 then (48+(n:Int))::acc else Dw k (n / 10) ((48+((n % 10:Nat):Int))::acc)
def nc (n:Nat):List Int:=Dw 9 n []
def NU:ByteArray:=⟨#[48,49,50,51,52,53,54,55,56,57]⟩
theorem JU:(List.range 10).all (fun k=>decide (kq NU ((k:Nat):Int) ((k+1:Nat):Int)=some (cH [48+((k:Nat):Int)])))=true:=by kernel_rfl
theorem Pg {k:Nat} (h:k<10):kq NU (k:Int) ((k+1:Nat):Int)=some (cH [48+(k:Int)]):=by
 have:=List.all_eq_true.1 JU k (List.mem_range.2 h)
 exact of_decide_eq_true this
theorem Ia (n:Nat) (h:n<1000000000):gh (n:Int)=some (cH (nc n)):=by
 unfold gh
 have key:∀ (k n:Nat) (acc:List Int) (fuel:Nat),n<10 ^ (k+1)→n<9000000000000000000→k<fuel→mU acc→acc.length+k<1000 →
   cu (S:=(Int×ByteArray)) (A:=ByteArray)
  (dP (S:=(Int×ByteArray)) (O:=(Int×ByteArray)⊕ByteArray) (fun ((s11,s12):Int×ByteArray) =>
   cond ((decide (9<s11)))
    ((qn s11 10).bind fun v2 =>
    (qn s11 10).bind fun v3 =>
    (some (IntKind.i64.wrap (v3+1))).bind fun v4 =>
    (kq (⟨#[48,49,50,51,52,53,54,55,56,57]⟩:ByteArray) v2 v4).bind fun v5 =>
    (mo v5 s12).bind fun v6 =>
    (xk .i64 s11 10).bind fun v7 =>
    some (.inl (v7,v6)))
    (some (.inr (.inl (s11,s12)))))
   fuel ((n:Int),cH acc))
  (fun ((s14,s15):Int×ByteArray) =>
   (some (IntKind.i64.wrap (s14+1))).bind fun v23 =>
   (kq (⟨#[48,49,50,51,52,53,54,55,56,57]⟩:ByteArray) s14 v23).bind fun v24 =>
   (mo v24 s15).bind fun v25 =>
   some (v25)) some=some (cH (Dw (k+1) n acc)):=by
  intro k
  induction k with
  | zero =>
   intro n acc fuel hn _ hf hb hl
   cases fuel with
   | zero=>omega
   | succ fuel =>
    have h9:n≤9:=by simp at hn; omega
    have hd:mU [48+(n:Int)]:=sy (by omega) th
    unfold Dw
    rw [if_pos h9]
    refine cW (ik (bY (decide_eq_false (by omega)) rfl)) (cJ (by rw [jJ (by omega)]) (cJ (Pg (by omega)) (cJ (Mb (cy hd) (cy hb) (by simp; omega)) rfl)))
  | succ k ih =>
   intro n acc fuel hn hbig hf hb hl
   cases fuel with
   | zero=>omega
   | succ fuel =>
    by_cases h9:n≤9
    ·have hd:mU [48+(n:Int)]:=sy (by omega) th
     unfold Dw
     rw [if_pos h9]
     refine cW (ik (bY (decide_eq_false (by omega)) rfl)) (cJ (by rw [jJ (by omega)]) (cJ (Pg (by omega)) (cJ (Mb (cy hd) (cy hb) (by simp; omega)) rfl)))
    ·have hd:mU [48+((n % 10:Nat):Int)]:=sy (by omega) th
     have hr:qn (n:Int) 10=some ((n % 10:Nat):Int):=xx n 10 (by decide)
     have hq:xk .i64 (n:Int) 10=some ((n / 10:Nat):Int):=GX n 10 (by decide) (by omega)
     have hn2:n / 10<10 ^ (k+1):=by
      rw [Nat.pow_succ] at hn
      omega
     have hih:=ih (n / 10) ((48+((n % 10:Nat):Int))::acc) fuel hn2 (by omega) (by omega) (sy (by omega) hb) (by simp; omega)
     have e:Dw (k+1+1) n acc=Dw (k+1) (n / 10) ((48+((n % 10:Nat):Int))::acc):=by
      rw [Dw,if_neg h9]
     rw [e,← hih]
     congr 1
     refine kG (cx (decide_eq_true (by omega)) (cJ hr (cJ hr (cJ (by rw [jJ (by omega)]) (cJ (Pg (by omega)) (cJ (Mb (cy hd) (cy hb) (by simp; omega)) (cJ hq rfl)))))))
 have:=key 8 n [] kz h (by omega) (by simp only [kz]; omega) th (by simp)
 exact this
end Go.Abs.Sh
