import Derived.Test.YtkgfjkfccpjcgaaDoorSh
import Derived.KernelRfl
set_option linter.unusedVariables false
set_option linter.unusedSimpArgs false
set_option linter.unusedSectionVars false
namespace Go.Abs.Sh
set_option linter.unusedVariables false
theorem wrap_i64 {n:Int} (h0 : -9223372036854775808≤n) (h1:n<9223372036854775808):IntKind.i64.wrap n=n:=by
 simp only [IntKind.wrap,IntKind.bits,IntKind.signed]
 have e:(2:Int) ^ 64=18446744073709551616:=by decide
 have e2:(2:Int) ^ (64-1)=9223372036854775808:=by decide
 simp only [e,e2,Bool.true_and,decide_eq_true_eq]
 split <;> omega
theorem aA {i n:Nat} (h:i<n):bf (i:Int) n=some i:=by simp [bf]; omega
theorem bW {A:Type} {l:List A} {i:Nat} (h:i<l.length):aB l i=some l[i]:=by simp [aB,h]
theorem ai {A R:Type} {m:Option A} {f:A→Option R} {x:A} {r:Option R} (h:m=some x) (h2:f x=r):m.bind f=r:=by subst h; exact h2
theorem aK {S A R:Type} {m:Option (S⊕A)} {k:S→Option R} {e:A→Option R} {s:S} {r:Option R} (h:m=some (.inl s)) (h2:k s=r):aq m k e=r:=by subst h; exact h2
theorem oy {S A R:Type} {m:Option (S⊕A)} {k:S→Option R} {e:A→Option R} {a:A} {r:Option R} (h:m=some (.inr a)) (h2:e a=r):aq m k e=r:=by subst h; exact h2
theorem bh {S O:Type} {step:S→Option (S⊕O)} {n:Nat} {s s':S} (h:step s=some (.inl s')):aG step (n+1) s=aG step n s':=by
 simp only [aG,h]
theorem aV {S O:Type} {step:S→Option (S⊕O)} {n:Nat} {s:S} {o:O} (h:step s=some (.inr o)):aG step (n+1) s=some o:=by
 simp only [aG,h]
theorem ao {R:Type} {c:Bool} {x y r:R} (hc:c=false) (h:y=r):cond c x y=r:=by subst hc; exact h
theorem am {R:Type} {c:Bool} {x y r:R} (hc:c=true) (h:x=r):cond c x y=r:=by subst hc; exact h
def ints (m:List Nat):List Int:=m.map fun n:Nat=>(n:Int)
theorem aD (m:List Nat):(ints m).length=m.length:=by simp [ints]
theorem cK {m:List Nat} {i:Nat} (h:i<m.length):aB (ints m) i=some ((m[i]:Nat):Int):=by simp [aB,ints,h]
theorem rZ (m:List Nat) (i v:Nat) (h:i<m.length):qh (ints m) i (v:Int)=some (ints (m.set i v)):=by
 simp only [qh,ints,List.length_map]
 rw [if_pos h,List.map_set]
theorem tr {l:List Int} (h:∀ n∈l,0≤n):ints (l.map Int.toNat)=l:=by
 simp only [ints,List.map_map]
 conv=>rhs; rw [← List.map_id l]
 exact List.map_congr_left fun x hx=>by have:=h x hx; simp; omega
def ke (m:List Nat):List Nat:=(List.range 16).map fun n=>if n=0 then 0 else m.count n
theorem fQ (m:List Nat):(ke m).length=16:=by simp [ke]
theorem kX (m:List Nat) {n:Nat} (h:n<(ke m).length):(ke m)[n]=if n=0 then 0 else m.count n:=by simp [ke]
theorem tZ (m:List Nat) {n:Nat} (h:n<16) (h0:0<n):aB (ints (ke m)) n=some ((m.count n:Nat):Int):=by
 have hl:n<(ke m).length:=by rw [fQ]; exact h
 rw [cK hl,kX]; rw [if_neg (by omega)]
theorem CV (m:List Nat) (x:Nat) (hx:x≤15) (h0:0<x):ke (m++[x])=(ke m).set x (m.count x+1):=by
 apply List.ext_getElem
 ·simp [ke]
 ·intro i h1 h2
  have hi:i<16:=by rw [fQ] at h1; exact h1
  rw [List.getElem_set,kX]
  by_cases hix:x=i
  ·subst hix; rw [if_neg (by omega),if_pos rfl,List.count_append]; simp
  ·rw [if_neg hix,kX,List.count_append]
   have:List.count i [x]=0:=by simp [List.count_cons,hix]
   rw [this]; rfl
theorem Bg (m:List Nat):ke (m++[0])=ke m:=by
 apply List.ext_getElem
 ·simp [ke]
 ·intro i h1 h2
  rw [kX,kX,List.count_append]
  by_cases h:i=0
  ·simp [h]
  ·have:List.count i [0]=0:=by simp [List.count_cons]; omega
   rw [this]; rfl
theorem Ev (l:List Int):iE l=some (decide (l.length≤300∧∀ n∈l,0≤n∧n≤15)):=by
 unfold iE
 by_cases l1:300<l.length
 ·refine am (by simp; omega) ?_
  rw [decide_eq_false (by omega)]
 refine ao (by simp; omega) ?_
 have key:∀ (k fuel i:Nat),l.length-i=k→i≤l.length→k<fuel →
   aG (S:=(Int)) (O:=(Unit)⊕Bool) (fun (s18:Int) =>
    cond ((decide (s18<(l.length:Int))))
     ((bf s18 l.length).bind fun v3 =>
     (aB l v3).bind fun v4 =>
     aq (S:=Bool) (A:=((Int)⊕((Unit)⊕Bool)))
      (cond ((decide (v4<0)))
       (some (.inl true))
       (some (.inl ((decide (15<v4))))))
      (fun (s32:Bool) =>
       cond (s32)
        (some (.inr (.inr (false))))
        ((some (IntKind.i64.wrap (s18+1))).bind fun v10 =>
        some (.inl v10))) some)
     (some (.inr (.inl ())))) fuel (i:Int)=some (if ∀ n∈l.drop i,0≤n∧n≤15 then .inl () else .inr false):=by
  intro k
  induction k with
  | zero =>
   intro fuel i hk hi hf
   obtain ⟨f,rfl⟩:∃ f,fuel=f+1:=⟨fuel-1,by omega⟩
   have:i=l.length:=by omega
   subst this
   refine aV (ao (by simp) ?_)
   rw [if_pos (by simp)]
  | succ k ih =>
   intro fuel i hk hi hf
   obtain ⟨f,rfl⟩:∃ f,fuel=f+1:=⟨fuel-1,by omega⟩
   have hlt:i<l.length:=by omega
   have hw:IntKind.i64.wrap ((i:Int)+1)=((i+1:Nat):Int):=by rw [wrap_i64 (by omega) (by omega)]; simp
   have hdr:l.drop i=l[i]::l.drop (i+1):=List.drop_eq_getElem_cons hlt
   by_cases hv:0≤l[i]∧l[i]≤15
   ·refine (bh (am (by simp; omega) (ai (aA hlt) (ai (bW hlt) (aK (s:=false) (ao (by simp; omega) (by rw [decide_eq_false (by omega)])) (ao rfl (ai (x:=((i+1:Nat):Int)) (by rw [hw]) rfl))))))).trans ?_
    rw [ih f (i+1) (by omega) (by omega) (by omega),hdr]
    simp only [List.mem_cons,forall_eq_or_imp,hv,true_and,and_self]
   ·refine aV (am (by simp; omega) (ai (aA hlt) (ai (bW hlt) (aK (s:=true) ?_ (am rfl ?_)))))
    ·by_cases h0:l[i]<0
     ·exact am (by simp [h0]) rfl
     ·exact ao (by simp; omega) (by rw [decide_eq_true (by omega)])
    ·rw [hdr,if_neg (fun h=>hv (h l[i] (List.mem_cons_self)))]
 have:=key l.length bD 0 (by omega) (Nat.zero_le _) (by unfold bD; omega)
 rw [List.drop_zero] at this
 by_cases hv:∀ n∈l,0≤n∧n≤15
 ·rw [if_pos hv] at this
  refine aK (s:=()) this ?_
  rw [decide_eq_true ⟨by omega,hv⟩]
 ·rw [if_neg hv] at this
  refine oy (a:=false) this ?_
  rw [decide_eq_false (fun h=>hv h.2)]
theorem vt (m:List Nat) (hm:∀ x∈m,x≤15) (hl:m.length≤1000):gw (ints m)=some (ints (ke m)):=by
 unfold gw
 have key:∀ (k fuel i:Nat),m.length-i=k→i≤m.length→k<fuel →
  aG (S:=((List Int)×Int)) (O:=((List Int))⊕(List Int)) (fun ((s25,s26):(List Int)×Int) =>
   cond ((decide (s26<((ints m).length:Int))))
    (aq (S:=(List Int)) (A:=(((List Int)×Int)⊕(((List Int))⊕(List Int))))
     ((bf s26 (ints m).length).bind fun v2 =>
     (aB (ints m) v2).bind fun v3 =>
     cond ((decide (0<v3)))
      ((bf v3 16).bind fun v5 =>
      (aB s25 v5).bind fun v6 =>
      (some (IntKind.i64.wrap (v6+1))).bind fun v7 =>
      (bf v3 16).bind fun v8 =>
      (qh s25 v8 v7).bind fun v9 =>
      some (.inl v9))
      (some (.inl s25)))
     (fun (s43:(List Int)) =>
      (some (IntKind.i64.wrap (s26+1))).bind fun v15 =>
      some (.inl (s43,v15))) some)
    (some (.inr (.inl s25)))) fuel (ints (ke (m.take i)),(i:Int))=some (.inl (ints (ke m))):=by
  intro k
  induction k with
  | zero =>
   intro fuel i hk hi hf
   obtain ⟨f,rfl⟩:∃ f,fuel=f+1:=⟨fuel-1,by omega⟩
   have:i=m.length:=by omega
   subst this
   refine aV (ao (by simp [aD]) ?_)
   rw [List.take_length]
  | succ k ih =>
   intro fuel i hk hi hf
   obtain ⟨f,rfl⟩:∃ f,fuel=f+1:=⟨fuel-1,by omega⟩
   have hlt:i<m.length:=by omega
   have hlt':i<(ints m).length:=by rw [aD]; exact hlt
   have hw:IntKind.i64.wrap ((i:Int)+1)=((i+1:Nat):Int):=by rw [wrap_i64 (by omega) (by omega)]; simp
   have hx:=hm m[i] (List.getElem_mem hlt)
   have htk:m.take (i+1)=m.take i++[m[i]]:=by rw [List.take_add_one]; simp [hlt]
   have ih':=ih f (i+1) (by omega) (by omega) (by omega)
   refine (bh (s':=(ints (ke (m.take (i+1))),((i+1:Nat):Int))) (am (by simp; omega) (aK (s:=ints (ke (m.take (i+1)))) (ai (aA hlt') (ai (cK hlt) ?_)) (ai (x:=((i+1:Nat):Int)) (by rw [hw]) rfl)))).trans ih'
   by_cases h0:0<m[i]
   ·have hc:(m.take i).count m[i]≤m.length:=Nat.le_trans (List.count_le_length) (by simp; omega)
    have hw2:IntKind.i64.wrap ((((m.take i).count m[i]:Nat):Int)+1)=(((m.take i).count m[i]+1:Nat):Int):=by rw [wrap_i64 (by omega) (by omega)]; simp
    have h16:m[i]<16:=by omega
    refine am (by simp; omega) (ai (aA h16) (ai (tZ _ h16 h0) (ai (x:=(((m.take i).count m[i]+1:Nat):Int)) (by rw [hw2]) (ai (aA h16) (ai (rZ _ _ _ (by rw [fQ]; exact h16)) ?_)))))
    rw [htk,CV _ _ hx h0]
   ·refine ao (by simp; omega) ?_
    have:m[i]=0:=by omega
    rw [htk,this,Bg]
 have h0:ints (ke (m.take 0))=List.replicate 16 (0:Int):=by rw [List.take_zero]; decide
 have:=key m.length bD 0 (by omega) (Nat.zero_le _) (by unfold bD; omega)
 rw [h0] at this
 have l16:iy 16 (ints (ke m))=some (ints (ke m)):=by simp [iy,aD,fQ]
 have l0:iy 16 (List.replicate 16 (0:Int))=some (List.replicate 16 (0:Int)):=by decide
 exact aK this (ai l16 (ai l0 (ai l16 (ai l16 rfl))))
def ws (m:List Nat):Nat→Nat
 | 0=>0
 | k+1=>ws m k+m.count (k+1) * 2 ^ (15-(k+1))
theorem FM (m:List Nat) {a b:Nat} (h:a≤b):ws m a≤ws m b:=by
 induction b with
 | zero =>
  have:a=0:=by omega
  subst this; exact Nat.le_refl _
 | succ b ih =>
  rcases Nat.lt_or_ge a (b+1) with h1 | h1
  ·exact Nat.le_trans (ih (by omega)) (Nat.le_add_right _ _)
  ·have:a=b+1:=by omega
   subst this; exact Nat.le_refl _
theorem Jq (m:List Nat) (k:Nat):ws m k≤k * (m.length * 32768):=by
 induction k with
 | zero=>simp [ws]
 | succ k ih =>
  have h1:m.count (k+1)≤m.length:=List.count_le_length
  have h2:2 ^ (15-(k+1))≤2 ^ 15:=Nat.pow_le_pow_right (by omega) (by omega)
  have h3:=Nat.mul_le_mul h1 h2
  have e:(2:Nat) ^ 15=32768:=by decide
  rw [e] at h3
  rw [ws,Nat.add_mul]
  omega
theorem uF (a k:Nat) (hk:k≤64) (h:a * 2 ^ k<9223372036854775808):iq .i64 (a:Int) (k:Int)=some ((a * 2 ^ k:Nat):Int):=by
 simp only [iq,IntKind.bits]
 rw [if_pos (by omega),Int.toNat_natCast,Nat.min_eq_left hk]
 have e:(a:Int) * 2 ^ k=((a * 2 ^ k:Nat):Int):=by push_cast; rfl
 rw [e]
 generalize a * 2 ^ k=y at *
 rw [wrap_i64 (by omega) (by omega)]
theorem Ce (m:List Nat) (hl:m.length≤1000):dZ (ints (ke m))=some ((ws m 15:Nat):Int):=by
 unfold dZ
 have l16:iy 16 (ints (ke m))=some (ints (ke m)):=by simp [iy,aD,fQ]
 have key:∀ (k fuel i w:Nat),16-i=k→i≤16→k<fuel→w=ws m (i-1) →
  aG (S:=(Int×Int)) (O:=(Int)⊕Int) (fun ((s12,s13):Int×Int) =>
   cond ((decide (s13<16)))
    ((bf s13 16).bind fun v3 =>
    (aB (ints (ke m)) v3).bind fun v4 =>
    (some (IntKind.i64.wrap (15-s13))).bind fun v5 =>
    (iq .i64 v4 v5).bind fun v6 =>
    (some (IntKind.i64.wrap (s12+v6))).bind fun v7 =>
    (some (IntKind.i64.wrap (s13+1))).bind fun v8 =>
    some (.inl (v7,v8)))
    (some (.inr (.inl s12)))) fuel ((w:Int),(i:Int))=some (.inl ((ws m 15:Nat):Int)):=by
  intro k
  induction k with
  | zero =>
   intro fuel i w hk hi hf hw
   obtain ⟨f,rfl⟩:∃ f,fuel=f+1:=⟨fuel-1,by omega⟩
   have:i=16:=by omega
   subst this
   subst hw
   exact aV (ao (by simp) rfl)
  | succ k ih =>
   intro fuel i w hk hi hf hw
   obtain ⟨f,rfl⟩:∃ f,fuel=f+1:=⟨fuel-1,by omega⟩
   have h16:i<16:=by omega
   have hti:i<(ke m).length:=by rw [fQ]; exact h16
   have w1:IntKind.i64.wrap (15-(i:Int))=((15-i:Nat):Int):=by rw [wrap_i64 (by omega) (by omega)]; omega
   have w2:IntKind.i64.wrap ((i:Int)+1)=((i+1:Nat):Int):=by rw [wrap_i64 (by omega) (by omega)]; simp
   have hc:(ke m)[i]≤m.length:=by
    rw [kX]; split
    ·omega
    ·exact List.count_le_length
   have h2:2 ^ (15-i)≤2 ^ 15:=Nat.pow_le_pow_right (by omega) (by omega)
   have h3:=Nat.mul_le_mul hc h2
   have e:(2:Nat) ^ 15=32768:=by decide
   rw [e] at h3
   have h4:m.length * 32768≤1000 * 32768:=Nat.mul_le_mul_right _ hl
   have hwl:=Jq m (i-1)
   have hwl2:(i-1) * (m.length * 32768)≤16 * (1000 * 32768):=Nat.mul_le_mul (by omega) h4
   have hs:w+(ke m)[i] * 2 ^ (15-i)=ws m (i+1-1):=by
    rw [hw,kX]
    cases i with
    | zero=>simp [ws]
    | succ i=>rw [if_neg (by omega)]; simp [ws]
   have hsh:=uF (ke m)[i] (15-i) (by omega) (by omega)
   have w3:IntKind.i64.wrap ((w:Int)+(((ke m)[i] * 2 ^ (15-i):Nat):Int))=((ws m (i+1-1):Nat):Int):=by
    rw [← hs]
    generalize (ke m)[i] * 2 ^ (15-i)=y at *
    rw [wrap_i64 (by omega) (by omega)]; simp
   refine (bh (am (by simp; omega) (ai (aA h16) (ai (cK hti) (ai (x:=((15-i:Nat):Int)) (by rw [w1]) (ai hsh (ai (x:=((ws m (i+1-1):Nat):Int)) (by rw [w3]) (ai (x:=((i+1:Nat):Int)) (by rw [w2]) rfl)))))))).trans ?_
   exact ih f (i+1) _ (by omega) (by omega) (by omega) rfl
 exact ai l16 (aK (key 16 bD 0 0 rfl (by omega) (by unfold bD; omega) rfl) rfl)
def jJ (m:List Nat):Bool:=decide (ints (ke m)=List.replicate 16 0)||decide (ints (ke m)=0::1::List.replicate 14 0)||decide (ws m 15=32768)
theorem En (m:List Nat) (hl:m.length≤1000):iN (ints (ke m))=some (jJ m):=by
 unfold iN
 have l16:iy 16 (ints (ke m))=some (ints (ke m)):=by simp [iy,aD,fQ]
 have l0:iy 16 (List.replicate 16 (0:Int))=some (List.replicate 16 (0:Int)):=by decide
 refine ai l0 (ai rfl ?_)
 have e1:([(0:Int),(0:Int),(0:Int),(0:Int),(0:Int),(0:Int),(0:Int),(0:Int),(0:Int),(0:Int),(0:Int),(0:Int),(0:Int),(0:Int),(0:Int),(0:Int)]:List Int)=List.replicate 16 0:=rfl
 have e2:([(0:Int),1,(0:Int),(0:Int),(0:Int),(0:Int),(0:Int),(0:Int),(0:Int),(0:Int),(0:Int),(0:Int),(0:Int),(0:Int),(0:Int),(0:Int)]:List Int)=0::1::List.replicate 14 0:=rfl
 refine aK (s:=jJ m) (ai l16 (ai l16 (ai rfl ?_))) rfl
 rw [e1]
 by_cases h1:ints (ke m)=List.replicate 16 0
 ·exact am (by rw [h1]; rfl) (by rw [jJ,decide_eq_true h1]; rfl)
 refine ao (by rw [beq_eq_false_iff_ne]; exact h1) (ai l16 (ai rfl (ai l16 (ai rfl ?_))))
 rw [e2]
 by_cases h2:ints (ke m)=0::1::List.replicate 14 0
 ·exact am (by rw [h2]; rfl) (by rw [jJ,decide_eq_true h2]; simp)
 refine ao (by rw [beq_eq_false_iff_ne]; exact h2) (ai l16 (ai (Ce m hl) ?_))
 rw [jJ,decide_eq_false h1,decide_eq_false h2]
 by_cases h3:ws m 15=32768
 ·simp [h3]
 ·have:((ws m 15:Nat):Int)≠32768:=by omega
  simp [h3,this]
theorem qZ {m:List Nat} (h:jJ m=true):ws m 15≤32768:=by
 simp only [jJ,Bool.or_eq_true,decide_eq_true_eq] at h
 have count_of:∀ (t:List Int),ints (ke m)=t→∀ n,0<n→n<16→t[n]? = some ((m.count n:Nat):Int):=by
  intro t ht n h0 h16
  have:=tZ m h16 h0
  rw [ht] at this
  exact this
 rcases h with (h | h) | h
 ·have hz:∀ k,k≤15→ws m k=0:=by
   intro k
   induction k with
   | zero=>intro _; rfl
   | succ k ih =>
    intro hk
    have:=count_of _ h (k+1) (by omega) (by omega)
    rw [List.getElem?_replicate,if_pos (by omega)] at this
    have hc:m.count (k+1)=0:=by simp at this; omega
    rw [ws,ih (by omega),hc]; simp
  rw [hz 15 (by omega)]; omega
 ·have hz:∀ k,k≤14→ws m (k+1)=16384:=by
   intro k
   induction k with
   | zero =>
    intro _
    have:=count_of _ h 1 (by omega) (by omega)
    have hc:m.count 1=1:=by simp at this; omega
    simp [ws,hc]
   | succ k ih =>
    intro hk
    have:=count_of _ h (k+1+1) (by omega) (by omega)
    simp only [List.getElem?_cons_succ,List.getElem?_replicate] at this
    rw [if_pos (by omega)] at this
    have hc:m.count (k+1+1)=0:=by simp at this; omega
    rw [ws,ih (by omega),hc]; simp
  rw [hz 14 (by omega)]; omega
 ·omega
theorem nH (m:List Nat) (hl:m.length≤1000):gv (ints m)=some (if m.length≤300∧(∀ x∈m,x≤15) then (if jJ m then 0 else 4) else 1):=by
 unfold gv
 refine ai (Ev _) ?_
 have hiff:((ints m).length≤300∧∀ n∈ints m,0≤n∧n≤15)↔(m.length≤300∧∀ x∈m,x≤15):=by
  rw [aD]
  constructor
  ·rintro ⟨h1,h2⟩
   exact ⟨h1,fun x hx=>by have:=(h2 (x:Int) (List.mem_map.2 ⟨x,hx,rfl⟩)).2; omega⟩
  ·rintro ⟨h1,h2⟩
   refine ⟨h1,fun n hn => ?_⟩
   obtain ⟨x,hx,rfl⟩:=List.mem_map.1 hn
   have:=h2 x hx; omega
 by_cases hv:m.length≤300∧(∀ x∈m,x≤15)
 ·rw [decide_eq_true (hiff.2 hv),if_pos hv]
  refine ao rfl (ai (vt m hv.2 hl) (ai (En m hl) ?_))
  cases jJ m <;> rfl
 ·rw [decide_eq_false (fun h=>hv (hiff.1 h)),if_neg hv]
  rfl
def fst (m:List Nat):Nat→Nat
 | 0=>0
 | 1=>0
 | n+2=>2 * (fst m (n+1)+m.count (n+1))
theorem Co (m:List Nat):∀ n,n≤14→fst m (n+1) * 2 ^ (14-n)=ws m n
 | 0,_=>by simp [fst,ws]
 | n+1,h=>by
  have ih:=Co m n (by omega)
  have e:14-n=(14-(n+1))+1:=by omega
  rw [show fst m (n+1+1)=2 * (fst m (n+1)+m.count (n+1)) from rfl,ws,← ih,show 15-(n+1)=(14-(n+1))+1 by omega,e,Nat.pow_succ]
  generalize 2 ^ (14-(n+1))=p
  rw [Nat.mul_add,Nat.add_mul]
  congr 1 <;> ac_rfl
theorem Cp {S O:Type} {f:S→Option (S⊕O)} (st:Nat→S) {o:O}:∀ (n fuel:Nat),n<fuel→(∀ i,i<n→f (st i)=some (.inl (st (i+1))))→f (st n)=some (.inr o)→aG f fuel (st 0)=some o:=by
 intro n
 induction n generalizing st with
 | zero =>
  intro fuel hf _ he
  obtain ⟨k,rfl⟩:∃ k,fuel=k+1:=⟨fuel-1,by omega⟩
  exact aV he
 | succ n ih =>
  intro fuel hf hs he
  obtain ⟨k,rfl⟩:∃ k,fuel=k+1:=⟨fuel-1,by omega⟩
  rw [bh (hs 0 (by omega))]
  exact ih (fun i=>st (i+1)) k (by omega) (fun i hi=>hs (i+1) (by omega)) he
theorem bX {S O:Type} {f:S→Option (S⊕O)} {s:S} (st:Nat→S) {o:O} (n fuel:Nat) (h0:st 0=s) (hn:n<fuel) (hs:∀ i,i<n→f (st i)=some (.inl (st (i+1)))) (he:f (st n)=some (.inr o)):aG f fuel s=some o:=by
 subst h0; exact Cp st n fuel hn hs he
theorem nr (p:Nat→Bool):∀ n,(∀ i,i<n→p i=true)∨∃ k,k<n∧(∀ i,i<k→p i=true)∧p k=false
 | 0 => .inl fun i h=>absurd h (Nat.not_lt_zero i)
 | n+1=>by
  rcases nr p n with h | ⟨k,h1,h2,h3⟩
  ·cases hp:p n
   ·exact .inr ⟨n,by omega,h,hp⟩
   ·refine .inl fun i hi => ?_
    by_cases h':i=n
    ·subst h'; exact hp
    ·exact h i (by omega)
  ·exact .inr ⟨k,by omega,h2,h3⟩
theorem nM {R:Type} {f:Int→Option (Int⊕(Unit⊕R))} (p:Nat→Bool) (n:Nat) (r:R) {fuel:Nat} (hf:n<fuel) (hgo:∀ i,i<n→p i=true→f (i:Int)=some (.inl ((i+1:Nat):Int))) (hno:∀ i,i<n→p i=false→f (i:Int)=some (.inr (.inr r))) (hend:f (n:Int)=some (.inr (.inl ()))) :
  aG f fuel 0=some (if ∀ i,i<n→p i=true then .inl () else .inr r):=by
 rcases nr p n with h | ⟨k,h1,h2,h3⟩
 ·rw [if_pos h]
  exact bX (fun i=>(i:Int)) n fuel rfl hf (fun i hi=>hgo i hi (h i hi)) hend
 ·rw [if_neg fun h=>by rw [h k h1] at h3; cases h3]
  exact bX (fun i=>(i:Int)) k fuel rfl (by omega) (fun i hi=>hgo i (by omega) (h2 i hi)) (hno k h1 h3)
theorem CM (n:Nat) (h:n<9223372036854775808):IntKind.i64.wrap (n:Int)=(n:Int):=wrap_i64 (by omega) (by omega)
theorem aI {n:Nat} (h:n<4611686018427387904):IntKind.i64.wrap ((n:Int)+1)=((n+1:Nat):Int):=by rw [wrap_i64 (by omega) (by omega)]; simp
theorem FF (a b:Nat) (hb:0<b) (ha:a<9223372036854775808):pd .i64 (a:Int) (b:Int)=some ((a / b:Nat):Int):=by
 simp only [pd]
 have:a / b≤a:=Nat.div_le_self a b
 rw [if_neg (by omega),Int.tdiv_eq_ediv_of_nonneg (by omega)]
 have e:(a:Int) / (b:Int)=((a / b:Nat):Int):=rfl
 rw [e,CM _ (by omega)]
theorem zB (a b:Nat) (hb:0<b):qd (a:Int) (b:Int)=some ((a % b:Nat):Int):=by
 simp only [qd]
 rw [if_neg (by omega),Int.tmod_eq_emod_of_nonneg (by omega)]
 rfl
theorem zT {A:Type} (l:List A) {a b:Nat} (h1:a≤b) (h2:b≤l.length):vp l (a:Int) (b:Int)=some ((l.drop a).take (b-a)):=by
 unfold vp
 rw [if_pos (by omega)]
 simp only [Int.toNat_natCast]
theorem ev {A:Type} {k:Nat} {l m:List A} (h:(l.length+m.length) * k≤140737488355328) (h1:l.length+m.length≤140737488355328):ce k l m=some (l++m):=by
 unfold ce; rw [if_pos ⟨h,h1⟩]
set_option maxRecDepth 10000
theorem oH (n:Int):IntKind.u8.wrap n=n % 256:=by
 simp only [IntKind.wrap,IntKind.bits,IntKind.signed]
 have e:(2:Int) ^ 8=256:=by decide
 simp [e]
theorem CY (a:Nat) (ha:a<256):(BitVec.ofInt 8 (a:Int)).toNat=a:=by
 rw [BitVec.ofInt_natCast,BitVec.toNat_ofNat]; exact Nat.mod_eq_of_lt (by omega)
theorem qA (a:Nat) (ha:a<9223372036854775808):(BitVec.ofInt 64 (a:Int)).toNat=a:=by
 rw [BitVec.ofInt_natCast,BitVec.toNat_ofNat]; exact Nat.mod_eq_of_lt (by omega)
theorem vC (a:Nat) (ha:a<9223372036854775808):bits .and .i64 (a:Int) 1=((a % 2:Nat):Int):=by
 show IntKind.i64.wrap ((BitVec.ofInt 64 (a:Int) &&& BitVec.ofInt 64 ((1:Nat):Int)).toNat:Int)=_
 rw [BitVec.toNat_and,qA a ha,qA 1 (by omega),Nat.and_one_is_mod,wrap_i64 (by omega) (by omega)]
theorem qv (k:IntKind) (a m:Nat) (hm:m≤k.bits):pN k (a:Int) (m:Int)=some ((a / 2 ^ m:Nat):Int):=by
 simp only [pN]
 rw [if_pos (by omega),Int.toNat_natCast,Nat.min_eq_left hm]
 have:(0:Int)≤2 ^ m:=Int.pow_nonneg (by omega)
 rw [Int.fdiv_eq_ediv_of_nonneg _ this]
 congr 1
theorem uM (a b:List Int) (hl:a.length<4294967296):bE a b=some (decide (a=b)):=by
 unfold bE
 by_cases hn:a.length=b.length
 case neg =>
  have:a≠b:=fun h=>hn (by rw [h])
  have h2:((a.length:Int) != (b.length:Int))=true:=by simp; omega
  simp [h2,this]
 have h2:((a.length:Int) != (b.length:Int))=false:=by simp; omega
 simp only [h2,cond_false]
 have key:∀ (k fuel i:Nat),a.length-i=k→i≤a.length→k<fuel→a.take i=b.take i →
   aG (S:=Int) (O:=Unit⊕Bool) (fun (s12:Int) =>
    cond ((decide (s12<(a.length:Int))))
     ((bf s12 a.length).bind fun v3 =>
     (aB a v3).bind fun v4 =>
     (bf s12 b.length).bind fun v5 =>
     (aB b v5).bind fun v6 =>
     cond ((v4 != v6))
      (some (.inr (.inr (false))))
      ((some (IntKind.i64.wrap (s12+1))).bind fun v8 =>
      some (.inl v8)))
     (some (.inr (.inl ())))) fuel (i:Int)=some (if a=b then .inl () else .inr false):=by
  intro k
  induction k with
  | zero =>
   intro fuel i hk hi hf ht
   obtain ⟨f,rfl⟩:∃ f,fuel=f+1:=⟨fuel-1,by omega⟩
   have hia:i=a.length:=by omega
   subst hia
   have hab:a=b:=by rw [List.take_of_length_le (Nat.le_refl _),List.take_of_length_le (by omega)] at ht; exact ht
   simp [aG,hab]
  | succ k ih =>
   intro fuel i hk hi hf ht
   obtain ⟨f,rfl⟩:∃ f,fuel=f+1:=⟨fuel-1,by omega⟩
   have hlt:i<a.length:=by omega
   have hltb:i<b.length:=by omega
   have hd:decide ((i:Int)<(a.length:Int))=true:=by simp; omega
   unfold aG
   simp only [hd,cond_true,aA hlt,aA hltb,bW hlt,bW hltb,Option.bind_some]
   by_cases he:a[i]=b[i]
   ·have hb:(a[i] != b[i])=false:=by simp [he]
    have hw:IntKind.i64.wrap ((i:Int)+1)=((i+1:Nat):Int):=by
     rw [wrap_i64 (by omega) (by omega)]; simp
    simp only [hb,cond_false,hw]
    exact ih f (i+1) (by omega) hlt (by omega) (by rw [List.take_add_one,List.take_add_one,ht]; simp [hlt,hltb,he])
   ·have hb:(a[i] != b[i])=true:=by simp [he]
    have hab:a≠b:=fun h=>he (by subst h; rfl)
    simp [hb,hab]
 have:=key (a.length-0) bD 0 rfl (Nat.zero_le _) (by unfold bD; omega) (by simp)
 simp only [Int.cast_ofNat_Int] at this
 by_cases hab:a=b
 ·simp only [hab,if_true] at this
  subst hab
  simp only [aq]
  rw [this]; simp
 ·simp only [hab,if_false] at this
  simp only [aq]
  rw [this]; simp [hab]
set_option maxRecDepth 10000
theorem BA {n:Nat} (h:n≤15):2 ^ n * 2 ^ (15-n)=32768:=by
 rw [← Nat.pow_add,show n+(15-n)=15 by omega]
theorem CT (m:List Nat) {n:Nat} (h0:1≤n) (h:n≤15):fst m n * 2 ^ (15-n)=ws m (n-1):=by
 have:=Co m (n-1) (by omega)
 rwa [show n-1+1=n by omega,show 14-(n-1)=15-n by omega] at this
theorem FH (m:List Nat) {n:Nat} (h0:1≤n) (h:n≤15):(fst m n+m.count n) * 2 ^ (15-n)=ws m n:=by
 rw [Nat.add_mul,CT m h0 h]
 obtain ⟨k,rfl⟩:∃ k,n=k+1:=⟨n-1,by omega⟩
 rfl
theorem rM {m:List Nat} (hw:ws m 15≤32768) {n:Nat} (h0:1≤n) (h:n≤15):fst m n+m.count n≤2 ^ n:=by
 have h1:=FH m h0 h
 have h2:=FM m h
 have hp:0<2 ^ (15-n):=Nat.pow_pos (by omega)
 refine Nat.le_of_mul_le_mul_right ?_ hp
 rw [h1,BA h]
 omega
theorem oX {n:Nat} (h:n≤15):2 ^ n≤32768:=Nat.pow_le_pow_right (show 0<2 by omega) h
theorem Ay {m:List Nat} (hw:ws m 15≤32768) {n:Nat} (h:n≤15):fst m n≤32768:=by
 rcases Nat.eq_zero_or_pos n with h0 | h0
 ·subst h0; simp [fst]
 ·have:=rM hw h0 h
  have:=oX h
  omega
def fl (m:List Nat) (i:Nat):List Nat:=(List.range 16).map fun n=>if n<i then fst m n else 0
theorem uK (m:List Nat) (i:Nat):(fl m i).length=16:=by simp [fl]
theorem Iu (m:List Nat) (i:Nat) (h:i<16):(fl m i).set i (fst m i)=fl m (i+1):=by
 apply List.ext_getElem
 ·simp [fl]
 ·intro j h1 h2
  rw [List.getElem_set]
  simp only [fl,List.getElem_map,List.getElem_range]
  by_cases hij:i=j
  ·subst hij; simp
  ·rw [if_neg hij]
   by_cases hj:j<i
   ·rw [if_pos hj,if_pos (by omega)]
   ·rw [if_neg hj,if_neg (by omega)]
theorem BJ (m:List Nat) (hl:m.length≤1000) (hw:ws m 15≤32768):gX (ints (ke m))=some (ints (fl m 16)):=by
 unfold gX
 have key:∀ (k fuel i:Nat),16-i=k→i≤16→2≤i→k<fuel →
  aG (S:=((List Int)×Int)) (O:=((List Int))⊕(List Int)) (fun ((s16,s17):(List Int)×Int) =>
   cond ((decide (s17≤15)))
    ((some (IntKind.i64.wrap (s17-1))).bind fun v2 =>
    (bf v2 16).bind fun v3 =>
    (aB s16 v3).bind fun v4 =>
    (some (IntKind.i64.wrap (s17-1))).bind fun v5 =>
    (bf v5 16).bind fun v6 =>
    (aB (ints (ke m)) v6).bind fun v7 =>
    (some (IntKind.i64.wrap (v4+v7))).bind fun v8 =>
    (some (IntKind.i64.wrap (2 * v8))).bind fun v9 =>
    (bf s17 16).bind fun v10 =>
    (qh s16 v10 v9).bind fun v11 =>
    (some (IntKind.i64.wrap (s17+1))).bind fun v12 =>
    some (.inl (v11,v12)))
    (some (.inr (.inl s16)))) fuel (ints (fl m i),(i:Int))=some (.inl (ints (fl m 16))):=by
  intro k
  induction k with
  | zero =>
   intro fuel i hk hi h2 hf
   obtain ⟨f,rfl⟩:∃ f,fuel=f+1:=⟨fuel-1,by omega⟩
   have:i=16:=by omega
   subst this
   exact aV (ao (by simp) rfl)
  | succ k ih =>
   intro fuel i hk hi h2 hf
   obtain ⟨f,rfl⟩:∃ f,fuel=f+1:=⟨fuel-1,by omega⟩
   have h16:i<16:=by omega
   have w1:IntKind.i64.wrap ((i:Int)-1)=((i-1:Nat):Int):=by rw [wrap_i64 (by omega) (by omega)]; omega
   have w2:IntKind.i64.wrap ((i:Int)+1)=((i+1:Nat):Int):=by rw [wrap_i64 (by omega) (by omega)]; simp
   have hx:i-1<16:=by omega
   have hfl:i-1<(fl m i).length:=by rw [uK]; exact hx
   have hg:(fl m i)[i-1]=fst m (i-1):=by simp [fl]; omega
   have hb:=rM hw (n:=i-1) (by omega) (by omega)
   have hb2:=oX (n:=i-1) (by omega)
   have w3:IntKind.i64.wrap (((fst m (i-1):Nat):Int)+((m.count (i-1):Nat):Int))=((fst m (i-1)+m.count (i-1):Nat):Int):=by rw [wrap_i64 (by omega) (by omega)]; simp
   have hstep:fst m i=2 * (fst m (i-1)+m.count (i-1)):=by
    obtain ⟨j,rfl⟩:∃ j,i=j+2:=⟨i-2,by omega⟩
    rfl
   have w4:IntKind.i64.wrap (2 * ((fst m (i-1)+m.count (i-1):Nat):Int))=((fst m i:Nat):Int):=by rw [hstep,wrap_i64 (by omega) (by omega)]; simp
   have hset:=rZ (fl m i) i (fst m i) (by rw [uK]; exact h16)
   rw [Iu m i h16] at hset
   refine (bh (am (by simp; omega) (ai (x:=((i-1:Nat):Int)) (by rw [w1]) (ai (aA hx) (ai (x:=((fst m (i-1):Nat):Int)) (by rw [cK hfl,hg]) (ai (x:=((i-1:Nat):Int)) (by rw [w1]) (ai (aA hx) (ai (tZ m hx (by omega))
    (ai (x:=((fst m (i-1)+m.count (i-1):Nat):Int)) (by rw [w3]) (ai (x:=((fst m i:Nat):Int)) (by rw [w4]) (ai (aA h16) (ai hset (ai (x:=((i+1:Nat):Int)) (by rw [w2]) rfl))))))))))))).trans ?_
   exact ih f (i+1) (by omega) (by omega) (by omega) (by omega)
 have h0:ints (fl m 2)=List.replicate 16 (0:Int):=by
  have:fl m 2=List.replicate 16 0:=by
   apply List.ext_getElem
   ·simp [fl]
   ·intro j h1 h2
    simp only [fl,List.getElem_map,List.getElem_range,List.getElem_replicate]
    split
    ·rename_i h
     have:j=0∨j=1:=by omega
     rcases this with rfl | rfl <;> rfl
    ·rfl
  rw [this]; decide
 have hk:=key 14 bD 2 rfl (by omega) (by omega) (by unfold bD; omega)
 rw [h0] at hk
 have l16:iy 16 (ints (fl m 16))=some (ints (fl m 16)):=by simp [iy,aD,uK]
 have l0:iy 16 (List.replicate 16 (0:Int))=some (List.replicate 16 (0:Int)):=by decide
 exact aK hk (ai l16 (ai l0 (ai l16 (ai l16 rfl))))
def code (m:List Nat) (j:Nat):Nat:=if m.getD j 0=0 then 0 else fst m (m.getD j 0)+(m.take j).count (m.getD j 0)
def codes (m:List Nat):List Nat:=(List.range m.length).map (code m)
def nx (m:List Nat) (i:Nat):List Nat:=(List.range 16).map fun n=>if n=0 then 0 else fst m n+(m.take i).count n
def cd (m:List Nat) (i:Nat):List Nat:=(List.range m.length).map fun j=>if j<i then code m j else 0
theorem Ez (m:List Nat) (i:Nat):(nx m i).length=16:=by simp [nx]
theorem Ct (m:List Nat) (i:Nat):(cd m i).length=m.length:=by simp [cd]
theorem Ht (m:List Nat) (i:Nat) (h:i<m.length) (hx:m[i]≤15) (h0:0<m[i]):(nx m i).set m[i] (fst m m[i]+(m.take i).count m[i]+1)=nx m (i+1):=by
 have htk:m.take (i+1)=m.take i++[m[i]]:=by rw [List.take_add_one]; simp [h]
 apply List.ext_getElem
 ·simp [nx]
 ·intro j h1 h2
  rw [List.getElem_set]
  simp only [nx,List.getElem_map,List.getElem_range,htk,List.count_append]
  by_cases hij:m[i]=j
  ·rw [if_pos hij,if_neg (by omega),hij]; simp [hij]; omega
  ·rw [if_neg hij]
   have:List.count j [m[i]]=0:=by simp [List.count_cons,hij]
   rw [this]; rfl
theorem Fq (m:List Nat) (i:Nat) (h:i<m.length) (h0:m[i]=0):nx m (i+1)=nx m i:=by
 have htk:m.take (i+1)=m.take i++[m[i]]:=by rw [List.take_add_one]; simp [h]
 apply List.ext_getElem
 ·simp [nx]
 ·intro j h1 h2
  simp only [nx,List.getElem_map,List.getElem_range,htk,List.count_append]
  by_cases hj:j=0
  ·simp [hj]
  ·have:List.count j [m[i]]=0:=by simp [List.count_cons,h0]; omega
   rw [this]; rfl
theorem Hm (m:List Nat) (i:Nat) (h:i<m.length):(cd m i).set i (code m i)=cd m (i+1):=by
 apply List.ext_getElem
 ·simp [cd]
 ·intro j h1 h2
  rw [List.getElem_set]
  simp only [cd,List.getElem_map,List.getElem_range]
  by_cases hij:i=j
  ·subst hij; simp
  ·rw [if_neg hij]
   by_cases hj:j<i
   ·rw [if_pos hj,if_pos (by omega)]
   ·rw [if_neg hj,if_neg (by omega)]
theorem FD (m:List Nat) (i:Nat) (h:i<m.length) (h0:m[i]=0):cd m (i+1)=cd m i:=by
 apply List.ext_getElem
 ·simp [cd]
 ·intro j h1 h2
  simp only [cd,List.getElem_map,List.getElem_range]
  by_cases hij:j=i
  ·subst hij
   have:code m j=0:=by simp [code,List.getD_eq_getElem?_getD,h,h0]
   simp [this]
  ·by_cases hj:j<i
   ·rw [if_pos hj,if_pos (by omega)]
   ·rw [if_neg hj,if_neg (by omega)]
theorem DE (m:List Nat) (hl:m.length≤300) (hm:∀ x∈m,x≤15) (hf:jJ m=true):iG (ints m)=some (ints (codes m),0):=by
 have hw:=qZ hf
 unfold iG
 have hck:=nH m (by omega)
 rw [if_pos ⟨hl,hm⟩,if_pos hf] at hck
 have l16:iy 16 (ints (fl m 16))=some (ints (fl m 16)):=by simp [iy,aD,uK]
 have l0:iy 16 (List.replicate 16 (0:Int))=some (List.replicate 16 (0:Int)):=by decide
 have hmk:pr 8 ((ints m).length:Int) (0:Int)=some (ints (cd m 0)):=by
  simp only [pr]
  rw [if_pos ⟨by omega,by rw [aD]; omega⟩,aD]
  congr 1
  apply List.ext_getElem
  ·simp [ints,cd]
  ·intro j h1 h2; simp [ints,cd]
 have hn0:nx m 0=fl m 16:=by
  apply List.ext_getElem
  ·simp [nx,fl]
  ·intro j h1 h2
   have hj:j<16:=by rw [Ez] at h1; exact h1
   simp only [nx,fl,List.getElem_map,List.getElem_range,List.take_zero,List.count_nil,Nat.add_zero,hj,if_true]
   split
   ·rename_i h; subst h; rfl
   ·rfl
 refine ai hck (ao rfl (ai (vt m hm (by omega)) (ai (BJ m (by omega) hw) (ai l0 (ai l16 (ai hmk ?_))))))
 have key:∀ (k fuel i:Nat),m.length-i=k→i≤m.length→k<fuel →
   aG (S:=((List Int)×(List Int)×Int)) (O:=((List Int))⊕((List Int)×Int)) (fun ((s39,s40,s41):(List Int)×(List Int)×Int) =>
    cond ((decide (s41<((ints m).length:Int))))
     (aq (S:=(List Int)×(List Int)) (A:=(((List Int)×(List Int)×Int)⊕(((List Int))⊕((List Int)×Int))))
      ((bf s41 (ints m).length).bind fun v9 =>
      (aB (ints m) v9).bind fun v10 =>
      cond ((decide (0<v10)))
       ((bf v10 16).bind fun v12 =>
       (aB s39 v12).bind fun v13 =>
       (bf s41 s40.length).bind fun v14 =>
       (some (s40.set v14 v13)).bind fun v15 =>
       (bf v10 16).bind fun v16 =>
       (aB s39 v16).bind fun v17 =>
       (some (IntKind.i64.wrap (v17+1))).bind fun v18 =>
       (bf v10 16).bind fun v19 =>
       (qh s39 v19 v18).bind fun v20 =>
       some (.inl (v20,v15)))
       (some (.inl (s39,s40))))
      (fun ((s59,s60):(List Int)×(List Int)) =>
       (some (IntKind.i64.wrap (s41+1))).bind fun v27 =>
       some (.inl (s59,s60,v27))) some)
     (some (.inr (.inl s40)))) fuel (ints (nx m i),ints (cd m i),(i:Int))=some (.inl (ints (cd m m.length))):=by
  intro k
  induction k with
  | zero =>
   intro fuel i hk hi hf
   obtain ⟨f,rfl⟩:∃ f,fuel=f+1:=⟨fuel-1,by omega⟩
   have:i=m.length:=by omega
   subst this
   exact aV (ao (by simp [aD]) rfl)
  | succ k ih =>
   intro fuel i hk hi hf
   obtain ⟨f,rfl⟩:∃ f,fuel=f+1:=⟨fuel-1,by omega⟩
   have hlt:i<m.length:=by omega
   have hlt':i<(ints m).length:=by rw [aD]; exact hlt
   have hw1:IntKind.i64.wrap ((i:Int)+1)=((i+1:Nat):Int):=by rw [wrap_i64 (by omega) (by omega)]; simp
   have hx:=hm m[i] (List.getElem_mem hlt)
   refine (bh (s':=(ints (nx m (i+1)),ints (cd m (i+1)),((i+1:Nat):Int))) (am (by simp; omega) (aK (s:=(ints (nx m (i+1)),ints (cd m (i+1)))) (ai (aA hlt') (ai (cK hlt) ?_)) (ai (x:=((i+1:Nat):Int)) (by rw [hw1]) rfl)))).trans (ih f (i+1) (by omega) (by omega) (by omega))
   by_cases h0:0<m[i]
   ·have h16:m[i]<16:=by omega
    have hnl:m[i]<(nx m i).length:=by rw [Ez]; exact h16
    have hng:(nx m i)[m[i]]=fst m m[i]+(m.take i).count m[i]:=by simp [nx]; omega
    have hcode:code m i=fst m m[i]+(m.take i).count m[i]:=by
     have:m.getD i 0=m[i]:=by simp [List.getD_eq_getElem?_getD,hlt]
     rw [code,this,if_neg (by omega)]
    have hc:(m.take i).count m[i]≤m.length:=Nat.le_trans List.count_le_length (by simp; omega)
    have hfs:=Ay hw hx
    have w5:IntKind.i64.wrap (((fst m m[i]+(m.take i).count m[i]:Nat):Int)+1)=((fst m m[i]+(m.take i).count m[i]+1:Nat):Int):=by rw [wrap_i64 (by omega) (by omega)]; simp
    have hg:aB (ints (nx m i)) m[i]=some ((fst m m[i]+(m.take i).count m[i]:Nat):Int):=by rw [cK hnl,hng]
    have hcl:i<(ints (cd m i)).length:=by rw [aD,Ct]; exact hlt
    have hset:=rZ (nx m i) m[i] (fst m m[i]+(m.take i).count m[i]+1) hnl
    rw [Ht m i hlt hx h0] at hset
    have hcs:(ints (cd m i)).set i (((fst m m[i]+(m.take i).count m[i]:Nat)):Int)=ints (cd m (i+1)):=by
     rw [← Hm m i hlt,hcode,ints,ints,List.map_set]
    refine am (by simp; omega) (ai (aA h16) (ai hg (ai (aA hcl) (ai (x:=ints (cd m (i+1))) (by rw [hcs]) (ai (aA h16) (ai hg (ai (x:=((fst m m[i]+(m.take i).count m[i]+1:Nat):Int)) (by rw [w5]) (ai (aA h16) (ai hset rfl)))))))))
   ·have hz:m[i]=0:=by omega
    refine ao (by simp; omega) ?_
    rw [Fq m i hlt hz,FD m i hlt hz]
 have hk:=key m.length bD 0 (by omega) (Nat.zero_le _) (by unfold bD; omega)
 rw [hn0] at hk
 have he:cd m m.length=codes m:=by
  apply List.ext_getElem
  ·simp [cd,codes]
  ·intro j h1 h2
   have:j<m.length:=by rw [Ct] at h1; exact h1
   simp [cd,codes,this]
 rw [he] at hk
 exact aK hk rfl
theorem qq {m:List Nat} {i:Nat} (h:i<m.length):m.getD i 0=m[i]:=by simp [List.getD_eq_getElem?_getD,h]
theorem Al {m:List Nat} {i:Nat} (h:i<m.length) (h0:m[i]≠0):code m i=fst m m[i]+(m.take i).count m[i]:=by
 rw [code,qq h,if_neg h0]
theorem nh {m:List Nat} {i:Nat} (h:i<m.length):(m.take i).count m[i]+1≤m.count m[i]:=by
 have h1:m.count m[i]=(m.take i).count m[i]+(m.drop i).count m[i]:=by
  rw [← List.count_append,List.take_append_drop]
 have h2:m.drop i=m[i]::m.drop (i+1):=List.drop_eq_getElem_cons h
 rw [h1,h2,List.count_cons]
 simp
theorem Ga {m:List Nat} (hw:ws m 15≤32768) (hm:∀ x∈m,x≤15) {i:Nat} (h:i<m.length) (h0:m[i]≠0):code m i+1≤2 ^ m[i]:=by
 have h1:=rM hw (n:=m[i]) (by omega) (hm _ (List.getElem_mem h))
 have h2:=nh h
 rw [Al h h0]; omega
def GW (l:List Int):Prop:=l.length≤300∧∀ n∈l,0≤n∧n≤15
instance validDec (l:List Int):Decidable (GW l):=by unfold GW; infer_instance
theorem tz {m:List Nat} {i:Nat} (h:i<m.length):m.take (i+1)=m.take i++[m[i]]:=by rw [List.take_add_one]; simp [h]
def nz (m:List Nat):Nat:=m.countP (fun x=>decide (0<x))
def wU (m:List Nat):Nat→Nat
 | 0=>0
 | k+1=>fst m (k+1)+m.count (k+1)
theorem Gm (m:List Nat) {n:Nat} (h:1≤n):fst m n=2 * wU m (n-1):=by
 rcases n with _ | _ | n
 ·omega
 ·rfl
 ·rfl
def oc (m:List Nat) (n i:Nat):List Nat:=(List.range m.length).map fun j=>if m.getD j 0=0 then 0 else if m.getD j 0<n then code m j else if m.getD j 0=n∧j<i then code m j else 0
theorem Ii (m:List Nat) (n i:Nat):(oc m n i).length=m.length:=by simp [oc]
theorem Ie (m:List Nat) (n i:Nat) (h:i<m.length) (hn:m[i]=n) (h0:0<n):(oc m n i).set i (code m i)=oc m n (i+1):=by
 apply List.ext_getElem
 ·simp [oc]
 ·intro j h1 h2
  rw [List.getElem_set]
  simp only [oc,List.getElem_map,List.getElem_range]
  by_cases hij:i=j
  ·subst hij
   have hd:m.getD i 0=n:=by rw [qq h]; exact hn
   rw [if_pos rfl,hd,if_neg (by omega),if_neg (by omega),if_pos ⟨rfl,by omega⟩]
  ·rw [if_neg hij]
   by_cases hz:m.getD j 0=0
   ·rw [if_pos hz,if_pos hz]
   ·rw [if_neg hz,if_neg hz]
    by_cases hlt:m.getD j 0<n
    ·rw [if_pos hlt,if_pos hlt]
    ·rw [if_neg hlt,if_neg hlt]
     by_cases hj:m.getD j 0=n∧j<i
     ·rw [if_pos hj,if_pos ⟨hj.1,by omega⟩]
     ·rw [if_neg hj,if_neg (fun h=>hj ⟨h.1,by omega⟩)]
theorem Fx (m:List Nat) (n i:Nat) (h:i<m.length) (hn:m[i]≠n):oc m n (i+1)=oc m n i:=by
 refine List.map_congr_left fun j hj => ?_
 by_cases hz:m.getD j 0=0
 ·rw [if_pos hz,if_pos hz]
 ·rw [if_neg hz,if_neg hz]
  by_cases hlt:m.getD j 0<n
  ·rw [if_pos hlt,if_pos hlt]
  ·rw [if_neg hlt,if_neg hlt]
   by_cases hj2:m.getD j 0=n∧j<i
   ·rw [if_pos hj2,if_pos ⟨hj2.1,by omega⟩]
   ·rw [if_neg hj2,if_neg]
    rintro ⟨h1,h2⟩
    by_cases hji:j=i
    ·subst hji; rw [qq h] at h1; exact hn h1
    ·exact hj2 ⟨h1,by omega⟩
theorem EW (m:List Nat) (n:Nat):oc m n m.length=oc m (n+1) 0:=by
 refine List.map_congr_left fun j hj => ?_
 have hjl:=List.mem_range.1 hj
 by_cases hz:m.getD j 0=0
 ·rw [if_pos hz,if_pos hz]
 ·rw [if_neg hz,if_neg hz]
  by_cases hlt:m.getD j 0<n
  ·rw [if_pos hlt,if_pos (by omega)]
  ·rw [if_neg hlt]
   by_cases he:m.getD j 0=n
   ·rw [if_pos ⟨he,hjl⟩,if_pos (by omega)]
   ·rw [if_neg (fun h=>he h.1),if_neg (by omega),if_neg (fun h=>by omega)]
theorem Ia (m:List Nat) (hm:∀ x∈m,x≤15):oc m 16 0=codes m:=by
 refine List.map_congr_left fun j hj => ?_
 have hjl:=List.mem_range.1 hj
 have:=hm _ (List.getElem_mem hjl)
 by_cases hz:m.getD j 0=0
 ·rw [if_pos hz,code,if_pos hz]
 ·rw [if_neg hz,if_pos (by rw [qq hjl]; omega)]
theorem FU (m:List Nat):oc m 1 0=List.replicate m.length 0:=by
 apply List.ext_getElem
 ·simp [oc]
 ·intro j h1 h2
  simp only [oc,List.getElem_map,List.getElem_range,List.getElem_replicate]
  by_cases hz:m.getD j 0=0
  ·rw [if_pos hz]
  ·rw [if_neg hz,if_neg (by omega),if_neg (fun h=>by omega)]
theorem wF (m:List Nat) (hl:m.length≤300) (hm:∀ x∈m,x≤15) (hf:jJ m=true):cN (ints m)=some (ints (codes m)):=by
 have hw:=qZ hf
 unfold cN
 have hmk:pr 8 ((ints m).length:Int) (0:Int)=some (ints (oc m 1 0)):=by
  simp only [pr]
  rw [if_pos ⟨by omega,by rw [aD]; omega⟩,aD,FU,ints,List.map_replicate]; rfl
 have inner:∀ n:Nat,1≤n→n≤15→∀ (k fuel i:Nat),m.length-i=k→i≤m.length→k<fuel →
     aG (S:=((List Int)×Int×Int)) (O:=((List Int)×Int)⊕(((List Int)×Int×Int)⊕(((List Int))⊕(List Int)))) (fun ((s184,s185,s186):(List Int)×Int×Int) =>
      cond ((decide (s186<((ints m).length:Int))))
       (aq (S:=(List Int)×Int) (A:=(((List Int)×Int×Int)⊕(((List Int)×Int)⊕(((List Int)×Int×Int)⊕(((List Int))⊕(List Int))))))
        ((bf s186 (ints m).length).bind fun v5 =>
        (aB (ints m) v5).bind fun v6 =>
        cond ((v6==(n:Int)))
         ((bf s186 s184.length).bind fun v8 =>
         (some (s184.set v8 s185)).bind fun v9 =>
         (some (IntKind.i64.wrap (s185+1))).bind fun v10 =>
         some (.inl (v9,v10)))
         (some (.inl (s184,s185))))
        (fun ((s205,s206):(List Int)×Int) =>
         (some (IntKind.i64.wrap (s186+1))).bind fun v17 =>
         some (.inl (s205,s206,v17))) some)
       (some (.inr (.inl (s184,s185))))) fuel (ints (oc m n i),((fst m n+(m.take i).count n:Nat):Int),(i:Int))=some (.inl (ints (oc m n m.length),((fst m n+m.count n:Nat):Int))):=by
  intro n hn1 hn15 k
  induction k with
  | zero =>
   intro fuel i hk hi hf
   obtain ⟨f,rfl⟩:∃ f,fuel=f+1:=⟨fuel-1,by omega⟩
   have:i=m.length:=by omega
   subst this
   refine aV (ao (by simp [aD]) ?_)
   rw [List.take_length]
  | succ k ih =>
   intro fuel i hk hi hf
   obtain ⟨f,rfl⟩:∃ f,fuel=f+1:=⟨fuel-1,by omega⟩
   have hlt:i<m.length:=by omega
   have hlt':i<(ints m).length:=by rw [aD]; exact hlt
   have hw1:IntKind.i64.wrap ((i:Int)+1)=((i+1:Nat):Int):=by rw [wrap_i64 (by omega) (by omega)]; simp
   have hle:=rM hw hn1 hn15
   have hp:=oX hn15
   refine (bh (s':=(ints (oc m n (i+1)),((fst m n+(m.take (i+1)).count n:Nat):Int),((i+1:Nat):Int))) (am (by simp; omega) (aK (s:=(ints (oc m n (i+1)),((fst m n+(m.take (i+1)).count n:Nat):Int))) (ai (aA hlt') (ai (cK hlt) ?_)) (ai (x:=((i+1:Nat):Int)) (by rw [hw1]) rfl)))).trans (ih f (i+1) (by omega) (by omega) (by omega))
   by_cases he:m[i]=n
   ·have hc:=nh hlt
    rw [he] at hc
    have hcode:code m i=fst m n+(m.take i).count n:=by rw [Al hlt (by omega),he]
    have hcl:i<(ints (oc m n i)).length:=by rw [aD,Ii]; exact hlt
    have hset:(ints (oc m n i)).set i ((fst m n+(m.take i).count n:Nat):Int)=ints (oc m n (i+1)):=by
     rw [← Ie m n i hlt he (by omega),hcode,ints,ints,List.map_set]
    have hcnt:(m.take (i+1)).count n=(m.take i).count n+1:=by rw [tz hlt,List.count_append,he]; simp
    have w3:IntKind.i64.wrap (((fst m n+(m.take i).count n:Nat):Int)+1)=((fst m n+(m.take (i+1)).count n:Nat):Int):=by rw [hcnt,wrap_i64 (by omega) (by omega)]; simp; omega
    exact am (by simp [he]) (ai (aA hcl) (ai (x:=ints (oc m n (i+1))) (by rw [hset]) (ai (x:=((fst m n+(m.take (i+1)).count n:Nat):Int)) (by rw [w3]) rfl)))
   ·have hcnt:(m.take (i+1)).count n=(m.take i).count n:=by
     rw [tz hlt,List.count_append]
     have:List.count n [m[i]]=0:=by simp [List.count_cons,he]
     rw [this]; rfl
    refine ao (by rw [beq_eq_false_iff_ne]; omega) ?_
    rw [Fx m n i hlt he,hcnt]
 have outer:∀ (k fuel n:Nat),16-n=k→1≤n→n≤16→k<fuel →
   aG (S:=((List Int)×Int×Int)) (O:=((List Int))⊕(List Int)) (fun ((s107,s108,s109):(List Int)×Int×Int) =>
   cond ((decide (s109≤15)))
    ((some (IntKind.i64.wrap (2 * s108))).bind fun v3 =>
    aq (S:=((List Int)×Int)) (A:=(((List Int)×Int×Int)⊕(((List Int))⊕(List Int))))
     (aG (S:=((List Int)×Int×Int)) (O:=((List Int)×Int)⊕(((List Int)×Int×Int)⊕(((List Int))⊕(List Int)))) (fun ((s184,s185,s186):(List Int)×Int×Int) =>
      cond ((decide (s186<((ints m).length:Int))))
       (aq (S:=(List Int)×Int) (A:=(((List Int)×Int×Int)⊕(((List Int)×Int)⊕(((List Int)×Int×Int)⊕(((List Int))⊕(List Int))))))
        ((bf s186 (ints m).length).bind fun v5 =>
        (aB (ints m) v5).bind fun v6 =>
        cond ((v6==s109))
         ((bf s186 s184.length).bind fun v8 =>
         (some (s184.set v8 s185)).bind fun v9 =>
         (some (IntKind.i64.wrap (s185+1))).bind fun v10 =>
         some (.inl (v9,v10)))
         (some (.inl (s184,s185))))
        (fun ((s205,s206):(List Int)×Int) =>
         (some (IntKind.i64.wrap (s186+1))).bind fun v17 =>
         some (.inl (s205,s206,v17))) some)
       (some (.inr (.inl (s184,s185)))))
      bD (s107,v3,0))
     (fun ((s195,s196):(List Int)×Int) =>
      (some (IntKind.i64.wrap (s109+1))).bind fun v56 =>
      some (.inl (s195,s196,v56))) some)
    (some (.inr (.inl s107)))) fuel (ints (oc m n 0),((wU m (n-1):Nat):Int),(n:Int))=some (.inl (ints (codes m))):=by
  intro k
  induction k with
  | zero =>
   intro fuel n hk h1 hi hf
   obtain ⟨f,rfl⟩:∃ f,fuel=f+1:=⟨fuel-1,by omega⟩
   have:n=16:=by omega
   subst this
   refine aV (ao (by simp) ?_)
   rw [Ia m hm]
  | succ k ih =>
   intro fuel n hk h1 hi hf
   obtain ⟨f,rfl⟩:∃ f,fuel=f+1:=⟨fuel-1,by omega⟩
   have h15:n≤15:=by omega
   have hle:=rM hw h1 h15
   have hp:=oX h15
   have he:=Gm m h1
   have w2:IntKind.i64.wrap (2 * ((wU m (n-1):Nat):Int))=((fst m n:Nat):Int):=by rw [he,wrap_i64 (by omega) (by omega)]; simp
   have hw1:IntKind.i64.wrap ((n:Int)+1)=((n+1:Nat):Int):=by rw [wrap_i64 (by omega) (by omega)]; simp
   have hin:=inner n h1 h15 m.length bD 0 (by omega) (Nat.zero_le _) (by unfold bD; omega)
   rw [List.take_zero,List.count_nil,Nat.add_zero] at hin
   have hend:wU m (n+1-1)=fst m n+m.count n:=by
    obtain ⟨q,rfl⟩:∃ q,n=q+1:=⟨n-1,by omega⟩
    rfl
   refine (bh (s':=(ints (oc m (n+1) 0),((wU m (n+1-1):Nat):Int),((n+1:Nat):Int))) (am (by simp; omega) (ai (x:=((fst m n:Nat):Int)) (by rw [w2]) (aK hin ?_)))).trans (ih f (n+1) (by omega) (by omega) (by omega) (by omega))
   rw [EW,hend]
   exact ai (x:=((n+1:Nat):Int)) (by rw [hw1]) rfl
 exact ai hmk (aK (outer 15 bD 1 rfl (by omega) (by omega) (by unfold bD; omega)) rfl)
def CF:((Int×Int×Int))→Option ((Int×Int×Int)⊕((Int)⊕(Int×Int))):=(fun ((s14,s15,s16):Int×Int×Int) =>
 cond ((decide (0<s14)))
  ((iq .u32 s15 1).bind fun v5 =>
  (some (bits .and .u32 s16 1)).bind fun v6 =>
  (some (bits .or .u32 v5 v6)).bind fun v7 =>
  (pN .u32 s16 1).bind fun v8 =>
  (some (IntKind.i64.wrap (s14-1))).bind fun v9 =>
  some (.inl (v9,v7,v8)))
  (some (.inr (.inl s15))))
def GI (l:List Int):Prop:=∀ n∈l,0≤n∧n<256
def et (l:List Int) (q:Nat):Bool:=(l.getD (q / 8) 0).toNat.testBit (q % 8)
structure pK (B:List Int) (N:Nat):Prop where
 len:B.length=(N+7) / 8
 bytes:GI B
 zero:∀ q,N≤q→et B q=false
theorem kF {n:Int} (h0:0≤n) (h1:n<4294967296):IntKind.u32.wrap n=n:=by
 simp only [IntKind.wrap,IntKind.bits,IntKind.signed]
 have e:(2:Int) ^ 32=4294967296:=by decide
 simp only [e,Bool.false_and,Bool.false_eq_true,if_false]
 omega
theorem qw (a:Nat) (ha:a<4294967296):(BitVec.ofInt 32 (a:Int)).toNat=a:=by
 rw [BitVec.ofInt_natCast,BitVec.toNat_ofNat]; exact Nat.mod_eq_of_lt (by omega)
theorem DS (a:Nat) (ha:a<4294967296):bits .and .u32 (a:Int) 1=((a % 2:Nat):Int):=by
 show IntKind.u32.wrap ((BitVec.ofInt 32 (a:Int) &&& BitVec.ofInt 32 ((1:Nat):Int)).toNat:Int)=_
 rw [BitVec.toNat_and,qw a ha,qw 1 (by omega),Nat.and_one_is_mod,kF (by omega) (by omega)]
theorem Hn (c x:Nat) (hc:c<1000000000) (hx:x<2):bits .or .u32 ((2 * c:Nat):Int) (x:Int)=((2 * c+x:Nat):Int):=by
 have h:=Nat.shiftLeft_add_eq_or_of_lt (a:=c) (b:=x) (i:=1) (by omega)
 rw [Nat.shiftLeft_eq,Nat.pow_one,Nat.mul_comm] at h
 show IntKind.u32.wrap ((BitVec.ofInt 32 ((2 * c:Nat):Int) ||| BitVec.ofInt 32 (x:Int)).toNat:Int)=_
 rw [BitVec.toNat_or,qw _ (by omega),qw _ (by omega),← h,kF (by omega) (by omega)]
theorem zX (a k:Nat) (hk:k≤32) (h:a * 2 ^ k<4294967296):iq .u32 (a:Int) (k:Int)=some ((a * 2 ^ k:Nat):Int):=by
 simp only [iq,IntKind.bits]
 rw [if_pos (by omega),Int.toNat_natCast,Nat.min_eq_left hk]
 have e:(a:Int) * 2 ^ k=((a * 2 ^ k:Nat):Int):=by push_cast; rfl
 rw [e]
 generalize a * 2 ^ k=y at *
 rw [kF (by omega) (by omega)]
theorem Gt (a b:Nat) (ha:a<256) (hb:b<256):bits .or .u8 (a:Int) (b:Int)=((a ||| b:Nat):Int):=by
 have hx:a ||| b<2 ^ 8:=Nat.or_lt_two_pow (by omega) (by omega)
 show IntKind.u8.wrap ((BitVec.ofInt 8 (a:Int) ||| BitVec.ofInt 8 (b:Int)).toNat:Int)=_
 rw [BitVec.toNat_or,CY a ha,CY b hb,oH]; omega
theorem Fl (v n:Nat) (hn:n≤24) (hv:v<2 ^ n):kn (v:Int) (n:Int)=some true:=by
 have hp:2 ^ n≤2 ^ 24:=Nat.pow_le_pow_right (by omega) hn
 have e:(2:Nat) ^ 24=16777216:=by decide
 have sh:=uF 1 n (by omega) (by omega)
 rw [Nat.one_mul] at sh
 unfold kn
 refine aK (s:=true) (am (by simp) (am (by simp; omega) (am (by simp) (ai sh ?_)))) rfl
 rw [decide_eq_true (by omega)]
theorem By (v n:Nat) (hn:n≤24) (hv:v<2 ^ n):∀ (k fuel t r:Nat),n-t=k→t≤n→k<fuel→r<2 ^ t→(∀ i,i<t→r.testBit i=v.testBit (t-1-i)) →
  ∃ r':Nat,aG CF fuel (((n-t:Nat):Int),(r:Int),((v / 2 ^ t:Nat):Int))=some (.inl (r':Int))∧r'<2 ^ n∧∀ i,i<n→r'.testBit i=v.testBit (n-1-i):=by
 have hp:2 ^ n≤2 ^ 24:=Nat.pow_le_pow_right (by omega) hn
 have e24:(2:Nat) ^ 24=16777216:=by decide
 intro k
 induction k with
 | zero =>
  intro fuel t r hk ht hf hr hb
  obtain ⟨f,rfl⟩:∃ f,fuel=f+1:=⟨fuel-1,by omega⟩
  have:t=n:=by omega
  subst this
  refine ⟨r,aV ?_,hr,hb⟩
  unfold CF
  exact ao (by simp) rfl
 | succ k ih =>
  intro fuel t r hk ht hf hr hb
  obtain ⟨f,rfl⟩:∃ f,fuel=f+1:=⟨fuel-1,by omega⟩
  have hp2:2 ^ t≤2 ^ 24:=Nat.pow_le_pow_right (by omega) (by omega)
  have hvt:v / 2 ^ t<4294967296:=Nat.lt_of_le_of_lt (Nat.div_le_self _ _) (by omega)
  have sh:=zX r 1 (by omega) (by omega)
  rw [Nat.pow_one,Nat.mul_comm,show ((1:Nat):Int)=1 from rfl] at sh
  have hy:v / 2 ^ t % 2<2:=Nat.mod_lt _ (by omega)
  have hor:=Hn r (v / 2 ^ t % 2) (by omega) hy
  have hsr:=qv .u32 (v / 2 ^ t) 1 (by decide)
  rw [Nat.pow_one,Nat.div_div_eq_div_mul,← Nat.pow_succ,show ((1:Nat):Int)=1 from rfl] at hsr
  have w:IntKind.i64.wrap (((n-t:Nat):Int)-1)=((n-(t+1):Nat):Int):=by rw [wrap_i64 (by omega) (by omega)]; omega
  have hand:=DS _ hvt
  have hbit:∀ i,i<t+1→(2 * r+v / 2 ^ t % 2).testBit i=v.testBit (t+1-1-i):=by
   intro i hi
   have h1:2 * r+v / 2 ^ t % 2=2 ^ 1 * r+v / 2 ^ t % 2:=by rw [Nat.pow_one]
   rw [h1,Nat.testBit_two_pow_mul_add _ (by omega)]
   by_cases h0:i<1
   ·have:i=0:=by omega
    subst this
    rw [if_pos h0,Nat.testBit_eq_decide_div_mod_eq (x:=v)]
    simp [Nat.testBit_zero]
   ·rw [if_neg h0,hb (i-1) (by omega)]
    congr 1; omega
  have hr2:2 * r+v / 2 ^ t % 2<2 ^ (t+1):=by rw [Nat.pow_succ]; omega
  obtain ⟨r',h1,h2,h3⟩:=ih f (t+1) (2 * r+v / 2 ^ t % 2) (by omega) (by omega) (by omega) hr2 hbit
  refine ⟨r',(bh ?_).trans h1,h2,h3⟩
  unfold CF
  exact am (by simp; omega) (ai sh (ai (x:=((v / 2 ^ t % 2:Nat):Int)) (by rw [hand]) (ai (x:=((2 * r+v / 2 ^ t % 2:Nat):Int)) (by rw [hor]) (ai hsr (ai (x:=((n-(t+1):Nat):Int)) (by rw [w]) rfl)))))
theorem FV (v n:Nat) (hn:n≤24) (hv:v<2 ^ n):∃ r:Nat,jg (v:Int) (n:Int)=some ((r:Int),0)∧r<2 ^ n∧∀ i,i<n→r.testBit i=v.testBit (n-1-i):=by
 have hp:2 ^ n≤2 ^ 24:=Nat.pow_le_pow_right (by omega) hn
 have e24:(2:Nat) ^ 24=16777216:=by decide
 obtain ⟨r,h1,h2,h3⟩:=By v n hn hv n bD 0 0 (by omega) (Nat.zero_le _) (by unfold bD; omega) (by simp) (by omega)
 rw [Nat.sub_zero,Nat.pow_zero,Nat.div_one] at h1
 refine ⟨r,?_,h2,h3⟩
 unfold jg
 have w1:IntKind.u32.wrap (v:Int)=(v:Int):=kF (by omega) (by omega)
 have w2:IntKind.i64.wrap (r:Int)=(r:Int):=wrap_i64 (by omega) (by omega)
 exact ai (Fl v n hn hv) (ao rfl (ai (x:=(v:Int)) (by rw [w1]) (aK h1 (ai (x:=(r:Int)) (by rw [w2]) rfl))))
theorem wR (s:List Int) (j q:Nat) (x:Int) (hj:j<s.length):et (s.set j x) q=if q / 8=j then x.toNat.testBit (q % 8) else et s q:=by
 simp only [et,List.getD_eq_getElem?_getD,List.getElem?_set]
 by_cases h:j=q / 8
 ·subst h; simp [hj]
 ·rw [if_neg h,if_neg (fun e=>h e.symm)]
def Sp:List (Nat×Nat)→Nat→List Int→Prop
 | [],_,_=>True
 | p::ps,N,B=>(∀ t,t<p.2→et B (N+t)=p.1.testBit t)∧Sp ps (N+p.2) B
def cE (ps:List (Nat×Nat)):Nat:=(ps.map (·.2)).sum
set_option maxRecDepth 10000
def KW:(((List Int)×Int×Int×Int))→Option (((List Int)×Int×Int×Int)⊕(((List Int)×Int)⊕af)):=(fun ((s35,s36,s37,s38):(List Int)×Int×Int×Int) =>
 cond ((decide (0<s37)))
  ((qd s36 8).bind fun v3 =>
  aq (S:=(List Int)) (A:=(((List Int)×Int×Int×Int)⊕(((List Int)×Int)⊕af)))
   (cond ((v3==0))
    ((ce 1 s35 [0]).bind fun v5 =>
    some (.inl v5))
    (some (.inl s35)))
   (fun (s56:(List Int)) =>
    (some (IntKind.i64.wrap (8-v3))).bind fun v11 =>
    (some (if s37<v11 then s37 else v11)).bind fun v12 =>
    (some (IntKind.i64.wrap ((s56.length:Int)-1))).bind fun v13 =>
    (bf v13 s56.length).bind fun v14 =>
    (aB s56 v14).bind fun v15 =>
    (iq .u32 s38 v3).bind fun v16 =>
    (some (IntKind.u8.wrap v16)).bind fun v17 =>
    (some (bits .or .u8 v15 v17)).bind fun v18 =>
    (bf v13 s56.length).bind fun v19 =>
    (some (s56.set v19 v18)).bind fun v20 =>
    (pN .u32 s38 v12).bind fun v21 =>
    (some (IntKind.i64.wrap (s36+v12))).bind fun v22 =>
    (some (IntKind.i64.wrap (s37-v12))).bind fun v23 =>
    some (.inl (v20,v22,v23,v21))) some)
  (some (.inr (.inl (s35,s36)))))
theorem Ka (a b:Nat) (h:a+b<4611686018427387904):IntKind.i64.wrap ((a:Int)+(b:Int))=((a+b:Nat):Int):=by rw [wrap_i64 (by omega) (by omega)]; omega
theorem JN {a b:Nat} (h:b≤a) (ha:a<4611686018427387904):IntKind.i64.wrap ((a:Int)-(b:Int))=((a-b:Nat):Int):=by rw [wrap_i64 (by omega) (by omega)]; omega
theorem tB (B:List Int) (q:Nat):et (B++[0]) q=et B q:=by
 simp only [et,List.getD_eq_getElem?_getD,List.getElem?_append]
 by_cases h:q / 8<B.length
 ·rw [if_pos h]
 ·rw [if_neg h,List.getElem?_eq_none (Nat.le_of_not_lt h)]
  by_cases h2:q / 8-B.length=0
  ·rw [h2]; simp
  ·rw [List.getElem?_eq_none (by simp; omega)]
structure Jp (B:List Int) (N:Nat):Prop where
 len:B.length=N / 8+1
 bytes:GI B
 zero:∀ q,N≤q→et B q=false
theorem EU {B:List Int} {N:Nat} (h:pK B N):Jp (if N % 8=0 then B++[0] else B) N:=by
 by_cases h8:N % 8=0
 ·rw [if_pos h8]
  refine ⟨by rw [List.length_append,h.len]; simp; omega,fun n hn => ?_,fun q hq=>by rw [tB]; exact h.zero q hq⟩
  rcases List.mem_append.1 hn with k | k
  ·exact h.bytes n k
  ·rw [List.mem_singleton.1 k]; omega
 ·rw [if_neg h8]
  exact ⟨by rw [h.len]; omega,h.bytes,h.zero⟩
theorem Cv {B:List Int} {N r p:Nat} (h:Jp B N) (hp:0<p) (hp8:N % 8+p≤8) (hr:N % 8+p<8→r<2 ^ p) {x:Nat} (hx:B.getD (N / 8) 0=(x:Int)) :
  pK (B.set (N / 8) ((x ||| (r * 2 ^ (N % 8) % 256):Nat):Int)) (N+p)∧(∀ q,q<N→et (B.set (N / 8) ((x ||| (r * 2 ^ (N % 8) % 256):Nat):Int)) q=et B q) ∧
   ∀ i,i<p→et (B.set (N / 8) ((x ||| (r * 2 ^ (N % 8) % 256):Nat):Int)) (N+i)=r.testBit i:=by
 have hlt:N / 8<B.length:=by rw [h.len]; omega
 have hx8:x<256:=by
  have:=h.bytes _ (List.getElem_mem hlt)
  rw [List.getD_eq_getElem?_getD,List.getElem?_eq_getElem hlt,Option.getD_some] at hx
  omega
 have hm:r * 2 ^ (N % 8) % 256<2 ^ 8:=Nat.mod_lt _ (by decide)
 have hor:x ||| (r * 2 ^ (N % 8) % 256)<2 ^ 8:=Nat.or_lt_two_pow hx8 hm
 have hb:∀ q,et (B.set (N / 8) ((x ||| (r * 2 ^ (N % 8) % 256):Nat):Int)) q=(et B q||(decide (q / 8=N / 8)&&(decide (N % 8≤q % 8)&&r.testBit (q % 8-N % 8)))):=fun q=>by
  rw [wR _ _ _ _ hlt]
  by_cases hq:q / 8=N / 8
  ·have hbx:et B q=x.testBit (q % 8):=by
    unfold et
    rw [hq,hx,Int.toNat_natCast]
   have h8:q % 8<8:=Nat.mod_lt _ (by omega)
   rw [if_pos hq,Int.toNat_natCast,Nat.testBit_or,hbx,decide_eq_true hq,Bool.true_and,show (256:Nat)=2 ^ 8 from rfl,Nat.testBit_mod_two_pow,decide_eq_true h8,Bool.true_and,Nat.mul_comm,Nat.testBit_two_pow_mul]
  ·rw [if_neg hq,decide_eq_false hq]; simp
 refine ⟨⟨by rw [List.length_set,h.len]; omega,fun n hn => ?_,fun q hq => ?_⟩,fun q hq => ?_,fun i hi => ?_⟩
 ·rcases List.mem_or_eq_of_mem_set hn with k | k
  ·exact h.bytes n k
  ·rw [k]
   have:(2:Nat) ^ 8=256:=by decide
   omega
 ·rw [hb q,h.zero q (by omega)]
  by_cases hq8:q / 8=N / 8
  ·have hpl:N % 8+p<8:=by omega
   have:r.testBit (q % 8-N % 8)=false:=Nat.testBit_lt_two_pow (Nat.lt_of_lt_of_le (hr hpl) (Nat.pow_le_pow_right (by omega) (by omega)))
   rw [this]; simp
  ·rw [decide_eq_false hq8]; simp
 ·rw [hb q]
  by_cases hq8:q / 8=N / 8
  ·rw [decide_eq_false (show ¬ N % 8≤q % 8 by omega)]; simp
  ·rw [decide_eq_false hq8]; simp
 ·rw [hb (N+i),h.zero (N+i) (by omega)]
  have e1:(N+i) / 8=N / 8:=by omega
  have e2:(N+i) % 8=N % 8+i:=by omega
  rw [decide_eq_true e1,e2,decide_eq_true (by omega),show N % 8+i-N % 8=i by omega]; simp
theorem Fa {B:List Int} {N n r:Nat} (h:pK B N) (hn:0<n) (hn2:n≤24) (hr:r<2 ^ n) (hN:N+n≤1000000) :
  ∃ B',KW (B,(N:Int),(n:Int),(r:Int))=some (.inl (B',((N+min (8-N % 8) n:Nat):Int),((n-min (8-N % 8) n:Nat):Int),((r / 2 ^ min (8-N % 8) n:Nat):Int))) ∧
   pK B' (N+min (8-N % 8) n)∧(∀ q,q<N→et B' q=et B q)∧∀ i,i<min (8-N % 8) n→et B' (N+i)=r.testBit i:=by
 obtain ⟨p,hp⟩:∃ p,p=min (8-N % 8) n:=⟨_,rfl⟩
 rw [← hp]
 have hu:N % 8<8:=Nat.mod_lt _ (by omega)
 have hR:=EU h
 obtain ⟨B1,hB1⟩:∃ B1,B1=if N % 8=0 then B++[0] else B:=⟨_,rfl⟩
 rw [← hB1] at hR
 have hlt:N / 8<B1.length:=by rw [hR.len]; omega
 have hB:=h.len
 have hx:=hR.bytes _ (List.getElem_mem hlt)
 obtain ⟨x,hxe⟩:∃ x:Nat,B1[N / 8]=(x:Int):=⟨B1[N / 8].toNat,by omega⟩
 have hxd:B1.getD (N / 8) 0=(x:Int):=by rw [List.getD_eq_getElem?_getD,List.getElem?_eq_getElem hlt,Option.getD_some,hxe]
 have hp24:(2:Nat) ^ n≤2 ^ 24:=Nat.pow_le_pow_right (by omega) hn2
 have hpu:(2:Nat) ^ (N % 8)≤2 ^ 7:=Nat.pow_le_pow_right (by omega) (by omega)
 have e24:(2:Nat) ^ 24=16777216:=by decide
 have e7:(2:Nat) ^ 7=128:=by decide
 have hmul:r * 2 ^ (N % 8)≤16777215 * 128:=Nat.mul_le_mul (by omega) (by omega)
 have hm8:r * 2 ^ (N % 8) % 256<256:=Nat.mod_lt _ (by omega)
 obtain ⟨c1,c2,c3⟩:=Cv (r:=r) (p:=p) hR (by omega) (by omega) (fun h8=>by
  have:p=n:=by omega
  rw [this]; exact hr) hxd
 have w8:IntKind.u8.wrap ((r * 2 ^ (N % 8):Nat):Int)=((r * 2 ^ (N % 8) % 256:Nat):Int):=by rw [oH]; rfl
 have hB1b:∀ q,et B1 q=et B q:=fun q=>by
  rw [hB1]
  by_cases h8:N % 8=0
  ·rw [if_pos h8,tB]
  ·rw [if_neg h8]
 refine ⟨B1.set (N / 8) ((x ||| (r * 2 ^ (N % 8) % 256):Nat):Int),?_,c1,fun q hq=>(c2 q hq).trans (hB1b q),c3⟩
 have hmin:(if (n:Int)<((8-N % 8:Nat):Int) then (n:Int) else ((8-N % 8:Nat):Int))=((p:Nat):Int):=by
  rw [hp]
  by_cases hc:n<8-N % 8
  ·rw [if_pos (by omega),Nat.min_eq_right (by omega)]
  ·rw [if_neg (by omega),Nat.min_eq_left (by omega)]
 have hlast:IntKind.i64.wrap ((B1.length:Int)-1)=((N / 8:Nat):Int):=by rw [hR.len,wrap_i64 (by omega) (by omega)]; omega
 have hg:aB B1 (N / 8)=some (x:Int):=by rw [bW hlt,hxe]
 refine am (decide_eq_true (by omega)) (ai (zB N 8 (by omega)) (aK (s:=B1) ?_ (ai (congrArg some (JN (a:=8) (b:=N % 8) (by omega) (by omega))) (ai (congrArg some hmin) (ai (congrArg some hlast) (ai (aA hlt) (ai hg (ai (zX r (N % 8) (by omega) (by omega)) (ai (congrArg some w8) (ai (congrArg some (Gt x _ (by omega) hm8)) (ai (aA hlt) (ai rfl (ai (qv .u32 r p (by show p≤32; omega)) (ai (congrArg some (Ka N p (by omega))) (ai (congrArg some (JN (a:=n) (b:=p) (by omega) (by omega))) rfl))))))))))))))) 
 by_cases h8:N % 8=0
 ·rw [hB1,if_pos h8]
  exact am (by rw [h8]; rfl) (ai (ev (m:=[(0:Int)]) (by simp; omega) (by simp; omega)) rfl)
 ·rw [hB1,if_neg h8]
  exact ao (beq_eq_false_iff_ne.2 (by omega)) rfl
theorem zu:∀ (k fuel:Nat) (B:List Int) (N n r:Nat),n≤k→k<fuel→pK B N→n≤24→r<2 ^ n→N+n≤1000000 →
  ∃ B',aG KW fuel (B,(N:Int),(n:Int),(r:Int))=some (.inl (B',((N+n:Nat):Int)))∧pK B' (N+n)∧(∀ q,q<N→et B' q=et B q)∧∀ i,i<n→et B' (N+i)=r.testBit i
 | k,fuel,B,N,0,r,hk,hf,hG,hn,hr,hN=>by
  obtain ⟨fu,rfl⟩:∃ fu,fuel=fu+1:=⟨fuel-1,by omega⟩
  exact ⟨B,aV rfl,hG,fun _ _=>rfl,fun i hi=>by omega⟩
 | 0,fuel,B,N,n+1,r,hk,hf,hG,hn,hr,hN=>by omega
 | k+1,fuel,B,N,n+1,r,hk,hf,hG,hn,hr,hN=>by
  obtain ⟨fu,rfl⟩:∃ fu,fuel=fu+1:=⟨fuel-1,by omega⟩
  have hu:N % 8<8:=Nat.mod_lt _ (by omega)
  obtain ⟨B1,b1,b2,b3,b4⟩:=Fa hG (by omega) hn hr (by omega)
  obtain ⟨p,hp⟩:∃ p,p=min (8-N % 8) (n+1):=⟨_,rfl⟩
  rw [← hp] at b1 b2 b4
  have hr':r / 2 ^ p<2 ^ (n+1-p):=by
   rw [Nat.div_lt_iff_lt_mul (Nat.two_pow_pos p),← Nat.pow_add]
   rwa [show n+1-p+p=n+1 by omega]
  obtain ⟨B2,c1,c2,c3,c4⟩:=zu k fu B1 (N+p) (n+1-p) (r / 2 ^ p) (by omega) (by omega) b2 (by omega) hr' (by omega)
  have e:N+p+(n+1-p)=N+(n+1):=by omega
  rw [e] at c1 c2
  refine ⟨B2,(bh b1).trans c1,c2,fun q hq=>(c3 q (by omega)).trans (b3 q hq),fun i hi => ?_⟩
  by_cases hip:i<p
  ·exact (c3 (N+i) (by omega)).trans (b4 i hip)
  ·have:=c4 (i-p) (by omega)
   rw [show N+p+(i-p)=N+i by omega,Nat.testBit_div_two_pow,show i-p+p=i by omega] at this
   exact this
theorem Az {v:Nat} (h:v<4294967296):IntKind.u32.wrap (v:Int)=(v:Int):=kF (by omega) (by omega)
theorem tR:∀ (a b:List (Nat×Nat)) (N:Nat) (B:List Int),Sp (a++b) N B↔Sp a N B∧Sp b (N+cE a) B
 | [],b,N,B=>by simp [Sp,cE]
 | p::a,b,N,B=>by
  simp only [List.cons_append,Sp,tR a b,cE,List.map_cons,List.sum_cons,Nat.add_assoc,and_assoc]
theorem ui:∀ (a:List (Nat×Nat)) (N:Nat) (B B':List Int),(∀ q,q<N+cE a→et B' q=et B q)→Sp a N B→Sp a N B'
 | [],N,B,B',_,_=>trivial
 | p::a,N,B,B',h,hs=>by
  have hw:cE (p::a)=p.2+cE a:=by simp [cE]
  rw [hw] at h
  exact ⟨fun t ht=>(h (N+t) (by omega)).trans (hs.1 t ht),ui a (N+p.2) B B' (fun q hq=>h q (by omega)) hs.2⟩
theorem bJ (a b:List (Nat×Nat)):cE (a++b)=cE a+cE b:=by simp [cE]
structure WP (w:af) (ps:List (Nat×Nat)):Prop where
 n:w.n=((cE ps:Nat):Int)
 good:pK w.b (cE ps)
 sp:Sp ps 0 w.b
theorem WP.put {w:af} {ps:List (Nat×Nat)} (h:WP w ps) (v n:Nat) (hn:n≤24) (hv:v<2 ^ n) (hN:cE ps+n≤1000000) :
  ∃ w',aR w (v:Int) (n:Int)=some w'∧WP w' (ps++[(v,n)]):=by
 have hp24:(2:Nat) ^ n≤2 ^ 24:=Nat.pow_le_pow_right (by omega) hn
 have e24:(2:Nat) ^ 24=16777216:=by decide
 obtain ⟨B',b1,b2,b3,b4⟩:=zu n bD w.b (cE ps) n v (by omega) (by simp only [bD]; omega) h.good hn hv hN
 have hw:cE (ps++[(v,n)])=cE ps+n:=by simp [cE]
 refine ⟨⟨B',((cE ps+n:Nat):Int)⟩,?_,⟨by rw [hw],by rw [hw]; exact b2,(tR _ _ _ _).2 ⟨ui ps 0 w.b B' (fun q hq=>b3 q (by omega)) h.sp,fun t ht => ?_,trivial⟩⟩⟩
 ·unfold aR
  rw [h.n]
  exact ai (congrArg some (Az (by omega))) (aK b1 rfl)
 ·rw [Nat.zero_add]; exact b4 t ht
theorem WP.puts {w:af} {ps:List (Nat×Nat)} {v n:Int} (h:WP w ps) (vn nn:Nat) (e1:v=(vn:Int)) (e2:n=(nn:Int)) (hn:nn≤24) (hv:vn<2 ^ nn) (hN:cE ps+nn≤1000000) :
 ∃ w',aR w v n=some w'∧WP w' (ps++[(vn,nn)]):=by subst e1 e2; exact h.put vn nn hn hv hN
def rv (v:Nat):Nat→Nat
 | 0=>0
 | n+1=>2 * rv v n+v / 2 ^ n % 2
theorem vE (v:Nat):∀ n,rv v n<2 ^ n
 | 0=>by simp [rv]
 | n+1=>by
  have:=vE v n
  have:=Nat.mod_lt (v / 2 ^ n) (show 0<2 by omega)
  rw [rv,Nat.pow_succ]
  omega
theorem xV (v:Nat):∀ n i,i<n→(rv v n).testBit i=v.testBit (n-1-i)
 | 0,i,h=>by omega
 | n+1,i,h=>by
  rw [rv]
  have hb:=Nat.mod_lt (v / 2 ^ n) (show 0<2 by omega)
  cases i with
  | zero =>
   have h1:(2 * rv v n+v / 2 ^ n % 2) % 2=v / 2 ^ n % 2:=by omega
   rw [Nat.testBit_zero,h1,show n+1-1-0=n by omega,Nat.testBit_eq_decide_div_mod_eq]
  | succ i =>
   rw [Nat.testBit_succ,show (2 * rv v n+v / 2 ^ n % 2) / 2=rv v n by omega,xV v n i (by omega)]
   congr 1; omega
theorem FB (v n:Nat) (hn:n≤24) (hv:v<2 ^ n):jg (v:Int) (n:Int)=some (((rv v n:Nat):Int),0):=by
 obtain ⟨r,h1,h2,h3⟩:=FV v n hn hv
 rw [h1]
 have:r=rv v n:=by
  refine Nat.eq_of_testBit_eq fun i => ?_
  by_cases hi:i<n
  ·rw [h3 i hi,xV v n i hi]
  ·rw [Nat.testBit_lt_two_pow (Nat.lt_of_lt_of_le h2 (Nat.pow_le_pow_right (by omega) (by omega))),Nat.testBit_lt_two_pow (Nat.lt_of_lt_of_le (vE v n) (Nat.pow_le_pow_right (by omega) (by omega)))]
 rw [this]
structure Cd (m:List Nat):Prop where
 len:m.length≤300
 le:∀ x∈m,x≤15
 fm:jJ m=true
def EC (m:List Nat):bt:=⟨ints m,ints (codes m)⟩
theorem jH {m:List Nat} (h:Cd m):cz (ints m)=some (EC m):=by
 unfold cz
 exact ai (DE m h.len h.le h.fm) rfl
def kt (m:List Nat) (j:Nat):Nat×Nat:=(rv (code m j) (m.getD j 0),m.getD j 0)
theorem gV {m:List Nat} (h:Cd m) {j:Nat} (hj:j<m.length):code m j<2 ^ m.getD j 0∧m.getD j 0≤15:=by
 have e:m.getD j 0=m[j]:=by simp [List.getD_eq_getElem?_getD,hj]
 refine ⟨?_,by rw [e]; exact h.le _ (List.getElem_mem hj)⟩
 by_cases h0:m[j]=0
 ·have:code m j=0:=by unfold code; rw [e,if_pos h0]
  rw [this]; exact Nat.two_pow_pos _
 ·rw [e]; exact Ga (qZ h.fm) h.le hj h0
theorem WP.sym {w:af} {ps:List (Nat×Nat)} (h:WP w ps) {m:List Nat} (hm:Cd m) {j:Nat} (hj:j<m.length) (hN:cE ps+15≤1000000) :
  ∃ w',bo w (EC m) (j:Int)=some w'∧WP w' (ps++[kt m j]):=by
 obtain ⟨f1,f2⟩:=gV hm hj
 obtain ⟨w',p1,p2⟩:=h.put (rv (code m j) (m.getD j 0)) (m.getD j 0) (by omega) (vE _ _) (by omega)
 have e:m.getD j 0=m[j]:=by simp [List.getD_eq_getElem?_getD,hj]
 have hcl:j<(codes m).length:=by simp [codes,hj]
 have g1:aB (ints (codes m)) j=some ((code m j:Nat):Int):=by rw [cK hcl]; simp [codes]
 have g2:aB (ints m) j=some ((m.getD j 0:Nat):Int):=by rw [cK hj,e]
 have i1:bf (j:Int) (ints (codes m)).length=some j:=aA (by rw [aD]; exact hcl)
 have i2:bf (j:Int) (ints m).length=some j:=aA (by rw [aD]; exact hj)
 refine ⟨w',?_,p2⟩
 unfold bo EC
 exact ai i1 (ai g1 (ai i2 (ai g2 (ai (FB _ _ (by omega) f1) (ai i2 (ai g2 (ai p1 rfl)))))))
def pre:List Int→List Int→Nat
 | x::xs,y::ys=>if x=y then pre xs ys+1 else 0
 | _,_=>0
theorem yD:∀ a c:List Int,pre a c≤a.length∧pre a c≤c.length
 | [],_=>by simp [pre]
 | _::_,[]=>by simp [pre]
 | x::xs,y::ys=>by
  have:=yD xs ys
  unfold pre
  split <;> simp <;> omega
theorem zH:∀ (a c:List Int) (k:Nat),k<pre a c→a[k]? = c[k]?
 | [],_,k,h=>by simp [pre] at h
 | _::_,[],k,h=>by simp [pre] at h
 | x::xs,y::ys,k,h=>by
  unfold pre at h
  split at h
  ·rename_i e
   subst e
   cases k with
   | zero=>rfl
   | succ k=>simpa using zH xs ys k (by omega)
  ·omega
theorem DI:∀ (a c:List Int) (k:Nat),k≤a.length→k≤c.length→(∀ j,j<k→a[j]? = c[j]?)→k≤pre a c
 | [],_,k,h,_,_=>by simp at h; omega
 | _::_,[],k,_,h,_=>by simp at h; omega
 | x::xs,y::ys,k,h1,h2,h=>by
  cases k with
  | zero=>omega
  | succ k =>
   have h0:=h 0 (by omega)
   simp only [List.getElem?_cons_zero,Option.some.injEq] at h0
   have:=DI xs ys k (by simpa using h1) (by simpa using h2) fun j hj=>by simpa using h (j+1) (by omega)
   unfold pre
   rw [if_pos h0]
   omega
theorem xk:∀ (a c:List Int),pre a c<a.length→pre a c<c.length→a[pre a c]? ≠ c[pre a c]?
 | [],_,h,_=>by simp at h
 | _::_,[],_,h=>by simp at h
 | x::xs,y::ys,h1,h2=>by
  unfold pre at h1 h2 ⊢
  split
  ·rename_i e
   rw [if_pos e] at h1 h2
   simpa using xk xs ys (by simpa using h1) (by simpa using h2)
  ·rename_i e
   simpa using e
def ja (b:List Int) (p at_:Nat):Nat:=min 258 (pre (b.drop p) (b.drop at_))
theorem vY (b:List Int) {p at_:Nat}:ja b p at_≤258∧ja b p at_≤b.length-at_:=by
 have:=(yD (b.drop p) (b.drop at_)).2
 rw [List.length_drop] at this
 unfold ja
 omega
theorem yR {b:List Int} {p at_ k:Nat} (h:k<ja b p at_):b[p+k]? = b[at_+k]? := by
 have:=zH (b.drop p) (b.drop at_) k (by unfold ja at h; omega)
 simpa using this
theorem JH {b:List Int} {p at_ k:Nat} (h:k≤258) (hp:p≤at_) (hk:at_+k≤b.length) (hj:∀ j,j<k→b[p+j]? = b[at_+j]?):k≤ja b p at_:=by
 have:=DI (b.drop p) (b.drop at_) k (by rw [List.length_drop]; omega) (by rw [List.length_drop]; omega) fun j hj2=>by simpa using hj j hj2
 unfold ja
 omega
theorem Ac {b:List Int} {p at_:Nat} (hp:p≤at_) (h:ja b p at_<258) (h2:at_+ja b p at_<b.length):b[p+ja b p at_]? ≠ b[at_+ja b p at_]? := by
 have hl:=(yD (b.drop p) (b.drop at_)).1
 have e:ja b p at_=pre (b.drop p) (b.drop at_):=by unfold ja at h ⊢; omega
 rw [e] at h2 ⊢
 have:=xk (b.drop p) (b.drop at_) (by rw [List.length_drop]; omega) (by rw [List.length_drop]; omega)
 simpa using this
def key (b:List Int) (p:Nat):List Int:=(b.drop p).take 3
theorem mI (b:List Int) (p:Nat):(key b p).length=min 3 (b.length-p):=by unfold key; simp
theorem qt (b:List Int) (p j:Nat) (h:j<3):(key b p)[j]? = b[p+j]? := by
 unfold key
 rw [List.getElem?_take,if_pos h,List.getElem?_drop]
theorem yj {b:List Int} {p at_:Nat} (hp:p≤at_) (h3:at_+3≤b.length):key b p=key b at_↔3≤ja b p at_:=by
 constructor
 ·intro h
  refine JH (by omega) hp h3 fun j hj => ?_
  rw [← qt b p j hj,← qt b at_ j hj,h]
 ·intro h
  apply List.ext_getElem?
  intro j
  by_cases hj:j<3
  ·rw [qt b p j hj,qt b at_ j hj]
   exact yR (by omega)
  ·rw [List.getElem?_eq_none (by rw [mI]; omega),List.getElem?_eq_none (by rw [mI]; omega)]
def mS (s:Nat×Nat) (o m:Nat):Nat×Nat:=if s.1<m then (m,o) else s
def cH (b:List Int) (at_:Nat):Nat→Nat×Nat
 | 0=>(0,0)
 | k+1=>mS (cH b at_ k) (k+1) (ja b (at_-(k+1)) at_)
def rX (s:Nat×Nat):Nat×Nat:=if s.1<3 then (0,0) else s
def bN (b:List Int) (at_:Nat):Nat×Nat:=rX (cH b at_ (min at_ 2048))
theorem oe (b:List Int) (at_:Nat):∀ k,(cH b at_ k).1≤258∧(cH b at_ k).1≤b.length-at_∧(cH b at_ k).2≤k
 | 0=>by simp [cH]
 | k+1=>by
  have h:=oe b at_ k
  have h2:=vY b (p:=at_-(k+1)) (at_:=at_)
  unfold cH mS
  split
  ·exact ⟨h2.1,h2.2,Nat.le_refl _⟩
  ·exact ⟨h.1,h.2.1,by omega⟩
theorem wE (b:List Int) (at_:Nat):∀ k o,1≤o→o≤k→ja b (at_-o) at_≤(cH b at_ k).1
 | 0,o,h1,h2=>by omega
 | k+1,o,h1,h2=>by
  unfold cH mS
  by_cases e:o=k+1
  ·subst e
   split
   ·exact Nat.le_refl _
   ·omega
  ·have:=wE b at_ k o h1 (by omega)
   split
   ·show _≤ja b (at_-(k+1)) at_
    omega
   ·exact this
theorem xc (b:List Int) (at_:Nat):∀ k,(cH b at_ k=(0,0))∨(1≤(cH b at_ k).2∧(cH b at_ k).1=ja b (at_-(cH b at_ k).2) at_∧∀ o,1≤o→o<(cH b at_ k).2→ja b (at_-o) at_<(cH b at_ k).1)
 | 0 => .inl rfl
 | k+1=>by
  have h:=xc b at_ k
  have hg:=wE b at_ k
  unfold cH mS
  split
  ·rename_i hlt
   refine .inr ⟨by simp,rfl,fun o h1 h2 => ?_⟩
   have:=hg o h1 (by simp at h2; omega)
   simp only
   omega
  ·exact h
theorem Gc {s:Nat×Nat} {o m:Nat} (h:m<3):rX (mS s o m)=rX s:=by
 unfold rX mS
 by_cases h1:s.1<m
 ·rw [if_pos h1,if_pos h,if_pos (by omega)]
 ·rw [if_neg h1]
theorem CW {s:Nat×Nat} {o m:Nat} (h:3≤m):rX (mS s o m)=if (rX s).1<m then (m,o) else rX s:=by
 unfold rX mS
 by_cases h1:s.1<m
 ·rw [if_pos h1,if_neg (by omega)]
  by_cases h3:s.1<3
  ·rw [if_pos h3,if_pos (by show 0<m; omega)]
  ·rw [if_neg h3,if_pos h1]
 ·rw [if_neg h1,if_neg (by omega),if_neg (by omega)]
theorem pP {b:List Int} {at_:Nat}:∀ (d k:Nat),(∀ o,k<o→o≤k+d→ja b (at_-o) at_<3)→rX (cH b at_ (k+d))=rX (cH b at_ k)
 | 0,k,_=>rfl
 | d+1,k,h=>by
  show rX (mS (cH b at_ (k+d)) (k+d+1) (ja b (at_-(k+d+1)) at_))=_
  rw [Gc (h (k+d+1) (by omega) (by omega))]
  exact pP d k fun o h1 h2=>h o h1 (by omega)
theorem sT {b:List Int} {at_:Nat}:∀ (d k:Nat),(cH b at_ k).1=258→cH b at_ (k+d)=cH b at_ k
 | 0,k,_=>rfl
 | d+1,k,h=>by
  have e:=sT d k h
  show mS (cH b at_ (k+d)) (k+d+1) (ja b (at_-(k+d+1)) at_)=_
  unfold mS
  have:=(vY b (p:=at_-(k+d+1)) (at_:=at_)).1
  rw [e,if_neg (by omega)]
set_option maxRecDepth 10000
def LA (x:aj) (p at_ v2:Int):((Int))→Option ((Int)⊕((Int)⊕(Int×aj))):=(fun (s21:Int) =>
 aq (S:=Bool) (A:=((Int)⊕((Int)⊕(Int×aj))))
  (cond ((decide (s21<v2)))
   ((some (IntKind.i64.wrap (p+s21))).bind fun v3 =>
   (bf v3 x.b.length).bind fun v4 =>
   (aB x.b v4).bind fun v5 =>
   (some (IntKind.i64.wrap (at_+s21))).bind fun v6 =>
   (bf v6 x.b.length).bind fun v7 =>
   (aB x.b v7).bind fun v8 =>
   some (.inl (v5==v8)))
   (some (.inl false)))
  (fun (s34:Bool) =>
   cond (s34)
    ((some (IntKind.i64.wrap (s21+1))).bind fun v14 =>
    some (.inl v14))
    (some (.inr (.inl s21)))) some)
def ng (b:List Int) (f:Nat) (k:List Int):Nat→Nat
 | 0=>0
 | p+1=>if f≤p∧key b p=k then p+1 else ng b f k p
theorem xC (b:List Int) (f:Nat) (k:List Int):∀ p,ng b f k p≤p
 | 0=>Nat.le_refl _
 | p+1=>by
  have:=xC b f k p
  unfold ng
  split <;> omega
theorem yK (b:List Int) (f:Nat) (k:List Int):∀ p q,ng b f k p=q+1→f≤q∧q<p∧key b q=k
 | 0,q,h=>by simp [ng] at h
 | p+1,q,h=>by
  unfold ng at h
  split at h
  ·rename_i hc
   obtain rfl:p=q:=by omega
   exact ⟨hc.1,by omega,hc.2⟩
  ·obtain ⟨h1,h2,h3⟩:=yK b f k p q h
   exact ⟨h1,by omega,h3⟩
theorem Ed (b:List Int) (f:Nat) (k:List Int):∀ p q,ng b f k p≤q→q<p→f≤q→key b q≠k
 | 0,q,_,h,_=>by omega
 | p+1,q,h1,h2,h3=>by
  unfold ng at h1
  split at h1
  ·omega
  ·rename_i hc
   by_cases e:q=p
   ·subst e
    exact fun hk=>hc ⟨h3,hk⟩
   ·exact Ed b f k p q h1 (by omega) h3
theorem wH {b:List Int} {f p:Nat} {k:List Int} (h:key b p≠k):ng b f k (p+1)=ng b f k p:=by
 conv=>lhs; unfold ng
 rw [if_neg fun hc=>h hc.2]
theorem FZ {b:List Int} {f p:Nat} (h:f≤p):ng b f (key b p) (p+1)=p+1:=by
 unfold ng
 rw [if_pos ⟨h,rfl⟩]
structure Fc (b:List Int) (f cur:Nat) (x:aj):Prop where
 hb:x.b=b
 hf:x.from_=(f:Int)
 la:∀ k:List Int,k.length=3→(x.last.lookup k).getD 0=((ng b f k cur:Nat):Int)
 bk:∀ p,f≤p→p<cur→p+3≤b.length→x.back[p-f]? = some ((ng b f (key b p) p:Nat):Int)
 bl:x.back.length=min cur (b.length-2)-f
 ll:x.last.length≤cur
theorem iP {A:Type} {n:Nat} {l:List A} (h:l.length=n):iy n l=some l:=by unfold iy; rw [if_pos h]
theorem Jo (b:List Int) (f:Nat) (k:List Int):ng b f k f=0:=by
 cases h:ng b f k f with
 | zero=>rfl
 | succ q=>have:=yK b f k f q h; omega
theorem Hb (b:List Int) (f:Nat):Fc b f f (aj.mk b [] [] (f:Int)) :=
 ⟨rfl,rfl,fun k _=>by rw [Jo]; rfl,fun p h1 h2=>by omega,by simp; omega,Nat.zero_le _⟩
theorem uc {b:List Int} (hb:∀ n∈b,0≤n∧n<256) (p:Nat):Jf (key b p)=true:=by
 unfold Jf
 rw [List.all_eq_true]
 intro x hx
 have:=hb x (List.mem_of_mem_drop (List.mem_of_mem_take hx))
 simpa using this
theorem vI {b:List Int} {f cur at_:Nat} {x:aj} (h:Fc b f cur x) (hl:b.length≤5000) (ha:at_≤b.length) :
  dc x (at_:Int)=some (if b.length<at_+3 then ([0,0,0],false,x) else (key b at_,true,x)):=by
 unfold dc
 have hw:IntKind.i64.wrap ((at_:Int)+3)=((at_+3:Nat):Int):=by rw [wrap_i64 (by omega) (by omega)]; simp
 rw [h.hb]
 refine ai (congrArg some hw) ?_
 by_cases hc:b.length<at_+3
 ·rw [if_pos hc]
  exact am (decide_eq_true (by omega)) (ai (iP rfl) (ai (iP rfl) (ai (iP rfl) rfl)))
 ·rw [if_neg hc]
  have hk3:(key b at_).length=3:=by rw [mI]; omega
  have hs:=zT b (a:=at_) (b:=at_+3) (by omega) (by omega)
  have e:(b.drop at_).take (at_+3-at_)=key b at_:=by unfold key; rw [Nat.add_sub_cancel_left]
  rw [e] at hs
  have har:Bt 3 (key b at_)=some (key b at_):=by
   unfold Bt
   rw [if_pos (by omega),List.take_of_length_le (by omega)]
  exact ao (decide_eq_false (by omega)) (ai (congrArg some hw) (ai hs (ai har (ai (iP rfl) (ai (iP hk3) (ai (iP hk3) rfl))))))
theorem uR {A:Type} {l:List A} {i:Nat} (h:i<l.length):∃ v,aB l i=some v∧l[i]? = some v:=⟨l[i],bW h,List.getElem?_eq_getElem h⟩
theorem Bw {b:List Int} {p at_:Nat} {x:aj} (hxb:x.b=b) (hl:b.length≤5000) (hp:p<at_) (h3:at_+3≤b.length) (hk:key b p=key b at_) :
  cR x (p:Int) (at_:Int)=some (((ja b p at_:Nat):Int),x):=by
 have hm:=(yj (by omega) h3).1 hk
 have hle:=vY b (p:=p) (at_:=at_)
 unfold cR
 rw [hxb]
 have hw:IntKind.i64.wrap ((b.length:Int)-(at_:Int))=((b.length-at_:Nat):Int):=by rw [wrap_i64 (by omega) (by omega)]; omega
 have hv2:(if ((b.length-at_:Nat):Int)<258 then ((b.length-at_:Nat):Int) else 258)=((min 258 (b.length-at_):Nat):Int):=by
  by_cases h:b.length-at_<258
  ·rw [if_pos (by omega)]; omega
  ·rw [if_neg (by omega)]; omega
 refine ai (congrArg some hw) (ai (congrArg some hv2) (aK (s:=((ja b p at_:Nat):Int)) ?_ rfl))
 have hgo:∀ i:Nat,i<min 258 (b.length-at_)→∃ u v:Int,b[p+i]? = some u∧b[at_+i]? = some v∧((cond ((decide ((i:Int)<((min 258 (b.length-at_):Nat):Int))))
     ((some (IntKind.i64.wrap ((p:Int)+(i:Int)))).bind fun v3 =>
     (bf v3 b.length).bind fun v4 =>
     (aB b v4).bind fun v5 =>
     (some (IntKind.i64.wrap ((at_:Int)+(i:Int)))).bind fun v6 =>
     (bf v6 b.length).bind fun v7 =>
     (aB b v7).bind fun v8 =>
     some (.inl (v5==v8)))
     (some (.inl false)):Option (Bool⊕(Int⊕(Int⊕(Int×aj)))))=some (.inl (u==v))):=by
  intro i hi
  obtain ⟨u,hu,hu2⟩:=uR (l:=b) (i:=p+i) (by omega)
  obtain ⟨v,hv,hv2⟩:=uR (l:=b) (i:=at_+i) (by omega)
  refine ⟨u,v,hu2,hv2,am (decide_eq_true (by omega)) (ai (x:=((p+i:Nat):Int)) (by rw [wrap_i64 (by omega) (by omega)]; simp) (ai (aA (by omega)) (ai hu (ai (x:=((at_+i:Nat):Int)) (by rw [wrap_i64 (by omega) (by omega)]; simp) (ai (aA (by omega)) (ai hv rfl))))))⟩
 rw [show (3:Int)=((3:Nat):Int) from rfl]
 have hlp:=bX (f:=LA { x with b:=b } (p:Int) (at_:Int) ((min 258 (b.length-at_):Nat):Int)) (s:=((3:Nat):Int)) (o := .inl ((ja b p at_:Nat):Int)) (fun i=>((3+i:Nat):Int)) (ja b p at_-3) bD rfl (by simp only [bD]; omega) (fun i hi=>by
   obtain ⟨u,v,hu,hv,he⟩:=hgo (3+i) (by omega)
   have:=yR (b:=b) (p:=p) (at_:=at_) (k:=3+i) (by omega)
   rw [hu,hv] at this
   obtain rfl:=Option.some.inj this
   rw [beq_self_eq_true] at he
   exact aK he (am rfl (ai (congrArg some (aI (n:=3+i) (by omega))) rfl)))
  (by
   have e3:3+(ja b p at_-3)=ja b p at_:=by omega
   rw [e3]
   by_cases hend:ja b p at_<min 258 (b.length-at_)
   ·obtain ⟨u,v,hu,hv,he⟩:=hgo (ja b p at_) hend
    have:=Ac (b:=b) (p:=p) (at_:=at_) (by omega) (by omega) (by omega)
    rw [hu,hv] at this
    have hne:(u==v)=false:=beq_eq_false_iff_ne.2 fun h=>this (by rw [h])
    rw [hne] at he
    exact aK he (ao rfl rfl)
   ·exact aK (s:=false) (ao (decide_eq_false (by omega)) rfl) (ao rfl rfl))
 exact hlp
theorem Ih {b:List Int} {f cur:Nat} {x:aj} (h:Fc b f cur x) (hb:∀ n∈b,0≤n∧n<256) (hl:b.length≤5000) (hc:cur<b.length) (hfc:f≤cur):∃ y,dG x (cur:Int)=some y∧Fc b f (cur+1) y:=by
 have hs:=vI h hl (Nat.le_of_lt hc)
 unfold dG
 by_cases h3:b.length<cur+3
 ·rw [if_pos h3] at hs
  refine ⟨x,ai hs (ai (iP rfl) (ai (iP rfl) (am rfl rfl))),h.hb,h.hf,fun k hk => ?_,fun p h1 h2 h4 => ?_,?_,Nat.le_succ_of_le h.ll⟩
  ·rw [wH (fun e=>by have:=congrArg List.length e; rw [mI] at this; omega)]
   exact h.la k hk
  ·exact h.bk p h1 (by omega) h4
  ·rw [h.bl]; omega
 ·rw [if_neg h3] at hs
  have hk3:(key b cur).length=3:=by rw [mI]; omega
  have hla:=h.la _ hk3
  have hbl:x.back.length=cur-f:=by rw [h.bl]; omega
  have hg:oZ 3 x.last (key b cur)=some ((ng b f (key b cur) cur:Nat):Int):=by
   unfold oZ
   rw [if_pos ⟨hk3,uc hb cur⟩,hla]
  have hap:ce 8 x.back [((ng b f (key b cur) cur:Nat):Int)]=some (x.back++[((ng b f (key b cur) cur:Nat):Int)]):=ev (by simp only [List.length_cons,List.length_nil]; omega) (by simp only [List.length_cons,List.length_nil]; omega)
  have hll:=h.ll
  have hp:th 3 x.last (key b cur) ((cur+1:Nat):Int)=some ((key b cur,((cur+1:Nat):Int))::x.last):=by
   unfold th
   rw [if_pos ⟨⟨hk3,uc hb cur⟩,by omega,by omega,by omega⟩]
  refine ⟨aj.mk x.b ((key b cur,((cur+1:Nat):Int))::x.last) (x.back++[((ng b f (key b cur) cur:Nat):Int)]) x.from_,ai hs (ai (iP rfl) (ai (iP hk3) (ao rfl (ai (iP hk3) (ai hg (ai hap (ai (iP hk3) (ai (congrArg some (aI (n:=cur) (by omega))) (ai hp rfl))))))))),h.hb,h.hf,fun k hk => ?_,fun p h1 h2 h4 => ?_,?_,?_⟩
  ·show (((key b cur,((cur+1:Nat):Int))::x.last).lookup k).getD 0=_
   rw [List.lookup_cons]
   by_cases e:k=key b cur
   ·subst e
    rw [beq_self_eq_true,FZ hfc]
    rfl
   ·have:(k==key b cur)=false:=beq_eq_false_iff_ne.2 e
    rw [this,wH (fun h=>e h.symm)]
    exact h.la k hk
  ·show (x.back++[((ng b f (key b cur) cur:Nat):Int)])[p-f]? = _
   by_cases e:p=cur
   ·subst e
    rw [List.getElem?_append_right (by omega),hbl]
    simp
   ·rw [List.getElem?_append_left (by omega)]
    exact h.bk p h1 (by omega) h4
  ·show (x.back++[_]).length=_
   rw [List.length_append,hbl,List.length_cons,List.length_nil]; omega
  ·show x.last.length+1≤cur+1
   omega
set_option maxRecDepth 10000
def La (at_:Int):(((List Int)×(List ((List Int)×Int))×(List Int)×Int×Int×Int×Int))→Option (((List Int)×(List ((List Int)×Int))×(List Int)×Int×Int×Int×Int)⊕(((List Int)×(List ((List Int)×Int))×(List Int)×Int×Int×Int)⊕(((List Int)×(List ((List Int)×Int))×(List Int)×Int×Int×Int)⊕(Int×Int×aj)))):=(fun ((s159,s160,s161,s162,s163,s164,s165):(List Int)×(List ((List Int)×Int))×(List Int)×Int×Int×Int×Int) =>
 aq (S:=Bool) (A:=(((List Int)×(List ((List Int)×Int))×(List Int)×Int×Int×Int×Int)⊕(((List Int)×(List ((List Int)×Int))×(List Int)×Int×Int×Int)⊕(((List Int)×(List ((List Int)×Int))×(List Int)×Int×Int×Int)⊕(Int×Int×aj)))))
  (cond ((decide (s162≤s165)))
   ((some (IntKind.i64.wrap (at_-s165))).bind fun v8 =>
   some (.inl ((decide (v8≤2048)))))
   (some (.inl false)))
  (fun (s195:Bool) =>
   cond (s195)
    (aq (S:=Int×Int×(List Int)×(List ((List Int)×Int))×(List Int)×Int) (A:=(((List Int)×(List ((List Int)×Int))×(List Int)×Int×Int×Int×Int)⊕(((List Int)×(List ((List Int)×Int))×(List Int)×Int×Int×Int)⊕(((List Int)×(List ((List Int)×Int))×(List Int)×Int×Int×Int)⊕(Int×Int×aj)))))
     ((cR (aj.mk s159 s160 s161 s162) s165 at_).bind fun v14 =>
     cond ((decide (s163<v14.1)))
      ((some (IntKind.i64.wrap (at_-s165))).bind fun v16 =>
      some (.inl (v14.1,v16,v14.2.b,v14.2.last,v14.2.back,v14.2.from_)))
      (some (.inl (s163,s164,v14.2.b,v14.2.last,v14.2.back,v14.2.from_))))
     (fun ((s201,s202,s203,s204,s205,s206):Int×Int×(List Int)×(List ((List Int)×Int))×(List Int)×Int) =>
      cond ((s201==258))
       (some (.inr (.inl (s203,s204,s205,s206,s201,s202))))
       ((some (IntKind.i64.wrap (s165-s206))).bind fun v28 =>
       (bf v28 s205.length).bind fun v29 =>
       (aB s205 v29).bind fun v30 =>
       (some (IntKind.i64.wrap (v30-1))).bind fun v31 =>
       some (.inl (s203,s204,s205,s206,s201,s202,v31)))) some)
    (some (.inr (.inl (s159,s160,s161,s162,s163,s164))))) some)
theorem BH {b:List Int} {f at_:Nat} {x:aj} (h:Fc b f at_ x) (hl:b.length≤5000) (h3:at_+3≤b.length) (hf:f≤at_-min at_ 2048) :
  ∀ (q fuel:Nat),q≤at_→at_-q≤min at_ 2048→q<fuel→(rX (cH b at_ (at_-q))).1<258 →
   aG (La (at_:Int)) fuel (b,x.last,x.back,(f:Int),(((rX (cH b at_ (at_-q))).1:Nat):Int),(((rX (cH b at_ (at_-q))).2:Nat):Int),((ng b f (key b at_) q:Nat):Int)-1) =
    some (.inl (b,x.last,x.back,(f:Int),(((bN b at_).1:Nat):Int),(((bN b at_).2:Nat):Int))):=by
 intro q
 induction q using Nat.strongRecOn with
 | _ q ih =>
 intro fuel hq hq2 hfu h258
 obtain ⟨fu,rfl⟩:∃ fu,fuel=fu+1:=⟨fuel-1,by omega⟩
 obtain ⟨s,hs⟩:∃ s,s=rX (cH b at_ (at_-q)):=⟨_,rfl⟩
 have hnear:∀ o,at_-q<o→o≤min at_ 2048→ng b f (key b at_) q≤at_-o→ja b (at_-o) at_<3:=by
  intro o h1 h2 h4
  have hno:=Ed b f (key b at_) q (at_-o) h4 (by omega) (by omega)
  apply Classical.byContradiction
  intro hc
  exact hno ((yj (by omega) h3).2 (by omega))
 have hend:(∀ o,at_-q<o→o≤min at_ 2048→ng b f (key b at_) q≤at_-o)→s=bN b at_:=by
  intro hall
  have:=pP (b:=b) (at_:=at_) (min at_ 2048-(at_-q)) (at_-q) fun o h1 h2=>hnear o h1 (by omega) (hall o h1 (by omega))
  rw [show at_-q+(min at_ 2048-(at_-q))=min at_ 2048 by omega] at this
  unfold bN
  rw [this,hs]
 rw [← hs] at h258 ⊢
 cases hc:ng b f (key b at_) q with
 | zero =>
  have:=hend fun o h1 h2=>by rw [hc]; omega
  rw [this]
  exact aV (aK (s:=false) (ao (decide_eq_false (by omega)) rfl) (ao rfl rfl))
 | succ r =>
  obtain ⟨hr1,hr2,hr3⟩:=yK b f (key b at_) q r hc
  have hp:((r+1:Nat):Int)-1=(r:Int):=by omega
  rw [hp]
  have hw:IntKind.i64.wrap ((at_:Int)-(r:Int))=((at_-r:Nat):Int):=by rw [wrap_i64 (by omega) (by omega)]; omega
  have hd1:decide ((f:Int)≤(r:Int))=true:=decide_eq_true (by omega)
  by_cases h20:at_-r≤2048
  case neg =>
   have:=hend fun o h1 h2=>by rw [hc]; omega
   rw [this]
   exact aV (aK (s:=false) (am hd1 (ai (congrArg some hw) (by rw [decide_eq_false (by omega)]))) (ao rfl rfl))
  have hcm:=Bw (x:=aj.mk b x.last x.back (f:Int)) rfl hl (by omega:r<at_) h3 hr3
  have hm3:=(yj (by omega) h3).1 hr3
  have hm8:=(vY b (p:=r) (at_:=at_)).1
  have hsk:=pP (b:=b) (at_:=at_) (at_-r-1-(at_-q)) (at_-q) fun o h1 h2=>hnear o h1 (by omega) (by rw [hc]; omega)
  rw [show at_-q+(at_-r-1-(at_-q))=at_-r-1 by omega,← hs] at hsk
  have hup:rX (cH b at_ (at_-r))=if s.1<ja b r at_ then (ja b r at_,at_-r) else s:=by
   have e:cH b at_ (at_-r)=mS (cH b at_ (at_-r-1)) (at_-r) (ja b r at_):=by
    have e1:at_-r=(at_-r-1)+1:=by omega
    have e2:at_-(at_-r-1+1)=r:=by omega
    conv=>lhs; rw [e1]
    show mS (cH b at_ (at_-r-1)) (at_-r-1+1) (ja b (at_-(at_-r-1+1)) at_)=_
    rw [e2,← e1]
   rw [e,CW hm3,hsk]
  have hfirst:(cond ((decide ((f:Int)≤(r:Int)))) ((some (IntKind.i64.wrap ((at_:Int)-(r:Int)))).bind fun v8=>some (.inl ((decide (v8≤2048))))) (some (.inl false)):Option (Bool⊕(((List Int)×(List ((List Int)×Int))×(List Int)×Int×Int×Int×Int)⊕(((List Int)×(List ((List Int)×Int))×(List Int)×Int×Int×Int)⊕(((List Int)×(List ((List Int)×Int))×(List Int)×Int×Int×Int)⊕(Int×Int×aj))))))=some (.inl true) :=
   am hd1 (ai (congrArg some hw) (by rw [decide_eq_true (by omega)]))
  obtain ⟨u,hu⟩:∃ u,u=rX (cH b at_ (at_-r)):=⟨_,rfl⟩
  have hsecond:((cR (aj.mk b x.last x.back (f:Int)) (r:Int) (at_:Int)).bind fun v14 =>
       cond ((decide (((s.1:Nat):Int)<v14.1)))
        ((some (IntKind.i64.wrap ((at_:Int)-(r:Int)))).bind fun v16 =>
        some (.inl (v14.1,v16,v14.2.b,v14.2.last,v14.2.back,v14.2.from_)))
        (some (.inl (((s.1:Nat):Int),((s.2:Nat):Int),v14.2.b,v14.2.last,v14.2.back,v14.2.from_))):Option ((Int×Int×(List Int)×(List ((List Int)×Int))×(List Int)×Int)⊕(((List Int)×(List ((List Int)×Int))×(List Int)×Int×Int×Int×Int)⊕(((List Int)×(List ((List Int)×Int))×(List Int)×Int×Int×Int)⊕(((List Int)×(List ((List Int)×Int))×(List Int)×Int×Int×Int)⊕(Int×Int×aj))))))=some (.inl (((u.1:Nat):Int),((u.2:Nat):Int),b,x.last,x.back,(f:Int))):=by
   refine ai hcm ?_
   by_cases hlt:s.1<ja b r at_
   ·rw [if_pos hlt] at hup
    rw [hu,hup]
    exact am (decide_eq_true (by show ((s.1:Nat):Int)<((ja b r at_:Nat):Int); omega)) (ai (congrArg some hw) rfl)
   ·rw [if_neg hlt] at hup
    rw [hu,hup]
    exact ao (decide_eq_false (by show ¬ ((s.1:Nat):Int)<((ja b r at_:Nat):Int); omega)) rfl
  by_cases hfull:u.1=258
  ·have hb:(cH b at_ (at_-r)).1=258:=by
    rw [hu] at hfull
    unfold rX at hfull
    split at hfull
    ·simp at hfull
    ·exact hfull
   have hbf:=sT (min at_ 2048-(at_-r)) (at_-r) hb
   rw [show at_-r+(min at_ 2048-(at_-r))=min at_ 2048 by omega] at hbf
   have hS:u=bN b at_:=by rw [hu]; unfold bN; rw [hbf]
   rw [← hS]
   exact aV (aK hfirst (am rfl (aK hsecond (am (beq_iff_eq.2 (by omega)) rfl))))
  ·have hlt258:u.1<258:=by
    have:u.1≤258:=by
     rw [hu]
     unfold rX
     split
     ·simp
     ·exact (oe b at_ _).1
    omega
   have hbk:=h.bk r hr1 (by omega) (by omega)
   rw [hr3] at hbk
   have hbl:=h.bl
   have hpl:=xC b f (key b at_) r
   have hgo:aB x.back (r-f)=some ((ng b f (key b at_) r:Nat):Int):=hbk
   have hix:bf ((r-f:Nat):Int) x.back.length=some (r-f):=aA (by rw [hbl]; omega)
   have hw2:IntKind.i64.wrap ((r:Int)-(f:Int))=((r-f:Nat):Int):=by rw [wrap_i64 (by omega) (by omega)]; omega
   have hw3:IntKind.i64.wrap (((ng b f (key b at_) r:Nat):Int)-1)=((ng b f (key b at_) r:Nat):Int)-1:=wrap_i64 (by omega) (by omega)
   refine (bh (aK hfirst (am rfl (aK hsecond (ao (beq_eq_false_iff_ne.2 (by omega)) (ai (congrArg some hw2) (ai hix (ai hgo (ai (congrArg some hw3) rfl))))))))).trans ?_
   have:=ih r hr2 fu (by omega) (by omega) (by omega) (by rw [← hu]; exact hlt258)
   rw [← hu] at this
   exact this
theorem EH {b:List Int} {f at_:Nat} {x:aj} (h:Fc b f at_ x) (hb:∀ n∈b,0≤n∧n<256) (hl:b.length≤5000) (ha:at_<b.length) (hf:f≤at_-min at_ 2048) :
  dW x (at_:Int)=some (((bN b at_).1:Int),((bN b at_).2:Int),x):=by
 have hs:=vI h hl (Nat.le_of_lt ha)
 unfold dW
 by_cases h3:b.length<at_+3
 ·rw [if_pos h3] at hs
  have h0:bN b at_=(0,0):=by
   unfold bN rX
   rw [if_pos (by have:=(oe b at_ (min at_ 2048)).2.1; omega)]
  rw [h0]
  exact ai hs (ai (iP rfl) (ai (iP rfl) (am rfl rfl)))
 ·rw [if_neg h3] at hs
  have hk3:(key b at_).length=3:=by rw [mI]; omega
  have hla:=h.la _ hk3
  have hg:oZ 3 x.last (key b at_)=some ((ng b f (key b at_) at_:Nat):Int):=by
   unfold oZ
   rw [if_pos ⟨hk3,uc hb at_⟩,hla]
  have hpl:=xC b f (key b at_) at_
  have hw3:IntKind.i64.wrap (((ng b f (key b at_) at_:Nat):Int)-1)=((ng b f (key b at_) at_:Nat):Int)-1:=wrap_i64 (by omega) (by omega)
  have hlp:=BH h hl (by omega) hf at_ bD (Nat.le_refl _) (by omega) (by simp only [bD]; omega) (by rw [Nat.sub_self]; show (rX (0,0)).1<258; decide)
  rw [Nat.sub_self] at hlp
  have hxb:=h.hb
  have hxf:=h.hf
  refine ai hs (ai (iP rfl) (ai (iP hk3) (ao rfl (aK (s:=(b,x.last,x.back,(f:Int),(((bN b at_).1:Nat):Int),(((bN b at_).2:Nat):Int))) (ai (iP hk3) (ai hg (ai (congrArg some hw3) (aK (s:=(b,x.last,x.back,(f:Int),(((bN b at_).1:Nat):Int),(((bN b at_).2:Nat):Int))) ?_ rfl)))) ?_))))
  ·show aG (La (at_:Int)) bD (x.b,x.last,x.back,x.from_,0,0,_)=_
   rw [hxb,hxf]
   exact hlp
  ·show some (_,_,aj.mk b x.last x.back (f:Int))=_
   rw [← hxf,← hxb]
set_option maxRecDepth 10000
def Ls (b:List Int):(((List al)×(List Int)×(List ((List Int)×Int))×(List Int)×Int×Int))→Option (((List al)×(List Int)×(List ((List Int)×Int))×(List Int)×Int×Int)⊕(((List al))⊕((List al)×Int))):=(fun ((s88,s89,s90,s91,s92,s93):(List al)×(List Int)×(List ((List Int)×Int))×(List Int)×Int×Int) =>
 cond ((decide (s93<(b.length:Int))))
  ((dW (aj.mk s89 s90 s91 s92) s93).bind fun v6 =>
  aq (S:=Int×Int) (A:=(((List al)×(List Int)×(List ((List Int)×Int))×(List Int)×Int×Int)⊕(((List al))⊕((List al)×Int))))
   (cond ((v6.1==0))
    ((bf s93 b.length).bind fun v8 =>
    (aB b v8).bind fun v9 =>
    some (.inl (v9,1)))
    (some (.inl (0,v6.1))))
   (fun ((s138,s139):Int×Int) =>
    (ce 24 s88 [(al.mk s138 v6.1 v6.2.1)]).bind fun v16 =>
    aq (S:=((List Int)×(List ((List Int)×Int))×(List Int)×Int×Int)) (A:=(((List al)×(List Int)×(List ((List Int)×Int))×(List Int)×Int×Int)⊕(((List al))⊕((List al)×Int))))
     (aG (S:=((List Int)×(List ((List Int)×Int))×(List Int)×Int×Int×Int)) (O:=((List Int)×(List ((List Int)×Int))×(List Int)×Int×Int)⊕(((List al)×(List Int)×(List ((List Int)×Int))×(List Int)×Int×Int)⊕(((List al))⊕((List al)×Int)))) (fun ((s152,s153,s154,s155,s156,s157):(List Int)×(List ((List Int)×Int))×(List Int)×Int×Int×Int) =>
      cond ((decide (0<s157)))
       ((dG (aj.mk s152 s153 s154 s155) s156).bind fun v18 =>
       (some (IntKind.i64.wrap (s156+1))).bind fun v19 =>
       (some (IntKind.i64.wrap (s157-1))).bind fun v20 =>
       some (.inl (v18.b,v18.last,v18.back,v18.from_,v19,v20)))
       (some (.inr (.inl (s152,s153,s154,s155,s156)))))
      bD (v6.2.2.b,v6.2.2.last,v6.2.2.back,v6.2.2.from_,s93,s139))
     (fun ((s159,s160,s161,s162,s163):(List Int)×(List ((List Int)×Int))×(List Int)×Int×Int) =>
      some (.inl (v16,s159,s160,s161,s162,s163))) some) some)
  (some (.inr (.inl s88))))
def KG:(((List Int)×(List ((List Int)×Int))×(List Int)×Int×Int×Int))→Option (((List Int)×(List ((List Int)×Int))×(List Int)×Int×Int×Int)⊕(((List Int)×(List ((List Int)×Int))×(List Int)×Int×Int)⊕(((List al)×(List Int)×(List ((List Int)×Int))×(List Int)×Int×Int)⊕(((List al))⊕((List al)×Int))))):=(fun ((s152,s153,s154,s155,s156,s157):(List Int)×(List ((List Int)×Int))×(List Int)×Int×Int×Int) =>
 cond ((decide (0<s157)))
  ((dG (aj.mk s152 s153 s154 s155) s156).bind fun v18 =>
  (some (IntKind.i64.wrap (s156+1))).bind fun v19 =>
  (some (IntKind.i64.wrap (s157-1))).bind fun v20 =>
  some (.inl (v18.b,v18.last,v18.back,v18.from_,v19,v20)))
  (some (.inr (.inl (s152,s153,s154,s155,s156)))))
theorem jO (b:List Int) (at_:Nat):bN b at_=(0,0)∨(3≤(bN b at_).1∧(bN b at_).1≤258∧at_+(bN b at_).1≤b.length∧1≤(bN b at_).2∧(bN b at_).2≤min at_ 2048∧ja b (at_-(bN b at_).2) at_=(bN b at_).1):=by
 have h1:=oe b at_ (min at_ 2048)
 have h2:=xc b at_ (min at_ 2048)
 unfold bN rX
 by_cases h:(cH b at_ (min at_ 2048)).1<3
 ·rw [if_pos h]; exact .inl rfl
 ·rw [if_neg h]
  rcases h2 with h2 | ⟨h3,h4,h5⟩
  ·rw [h2] at h; exact absurd (by decide) h
  ·exact .inr ⟨by omega,h1.1,by omega,h3,h1.2.2,h4.symm⟩
def lC (b:List Int):Nat→Nat→List al
 | 0,_=>[]
 | k+1,at_=>if at_<b.length then (if (bN b at_).1=0 then ⟨b.getD at_ 0,0,0⟩::lC b k (at_+1) else ⟨0,((bN b at_).1:Int),((bN b at_).2:Int)⟩::lC b k (at_+(bN b at_).1)) else []
def fB (b:List Int):List al:=lC b b.length 0
theorem vm {b:List Int} {at_:Nat} (h:b.length≤at_):∀ k,lC b k at_=[]
 | 0=>rfl
 | k+1=>by unfold lC; rw [if_neg (by omega)]
theorem rK (b:List Int):∀ k at_,(lC b k at_).length≤b.length-at_
 | 0,_=>Nat.zero_le _
 | k+1,at_=>by
  unfold lC
  split
  ·split
   ·have:=rK b k (at_+1)
    simp only [List.length_cons]; omega
   ·have:=rK b k (at_+(bN b at_).1)
    simp only [List.length_cons]; omega
  ·simp
theorem uP {b:List Int} (hb:∀ n∈b,0≤n∧n<256) (hl:b.length≤5000):∀ (n cur fuel:Nat) (x:aj),Fc b 0 cur x→cur+n≤b.length→n<fuel →
  ∃ y,Fc b 0 (cur+n) y∧aG KG fuel (x.b,x.last,x.back,x.from_,(cur:Int),(n:Int))=some (.inl (y.b,y.last,y.back,y.from_,((cur+n:Nat):Int)))
 | 0,cur,fuel,x,h,hc,hf=>by
  obtain ⟨fu,rfl⟩:∃ fu,fuel=fu+1:=⟨fuel-1,by omega⟩
  exact ⟨x,h,aV (show KG (x.b,x.last,x.back,x.from_,(cur:Int),((0:Nat):Int))=some (.inr (.inl (x.b,x.last,x.back,x.from_,(cur:Int)))) from rfl)⟩
 | n+1,cur,fuel,x,h,hc,hf=>by
  obtain ⟨fu,rfl⟩:∃ fu,fuel=fu+1:=⟨fuel-1,by omega⟩
  obtain ⟨y,hy,hi⟩:=Ih h hb hl (by omega) (Nat.zero_le _)
  obtain ⟨z,hz,hlp⟩:=uP hb hl n (cur+1) fu y hi (by omega) (by omega)
  refine ⟨z,by rw [show cur+(n+1)=cur+1+n by omega]; exact hz,?_⟩
  have hw:IntKind.i64.wrap (((n+1:Nat):Int)-1)=(n:Int):=by rw [wrap_i64 (by omega) (by omega)]; omega
  have hstep:KG (x.b,x.last,x.back,x.from_,(cur:Int),((n+1:Nat):Int))=some (.inl (y.b,y.last,y.back,y.from_,((cur+1:Nat):Int),(n:Int))) :=
   am (decide_eq_true (by omega)) (ai hy (ai (congrArg some (aI (n:=cur) (by omega))) (ai (congrArg some hw) rfl)))
  rw [show ((cur+(n+1):Nat):Int)=((cur+1+n:Nat):Int) by omega]
  exact (bh hstep).trans hlp
theorem tW {b:List Int} (hb:∀ n∈b,0≤n∧n<256) (hl:b.length≤5000):∀ (k at_ fuel:Nat) (l:List al) (x:aj),Fc b 0 at_ x→at_≤b.length→b.length-at_≤k→k<fuel→l.length≤at_ →
  aG (Ls b) fuel (l,x.b,x.last,x.back,x.from_,(at_:Int))=some (.inl (l++lC b k at_))
 | 0,at_,fuel,l,x,h,ha,hk,hf,hll=>by
  obtain ⟨fu,rfl⟩:∃ fu,fuel=fu+1:=⟨fuel-1,by omega⟩
  rw [lC,List.append_nil]
  exact aV (ao (decide_eq_false (by omega)) rfl)
 | k+1,at_,fuel,l,x,h,ha,hk,hf,hll=>by
  obtain ⟨fu,rfl⟩:∃ fu,fuel=fu+1:=⟨fuel-1,by omega⟩
  by_cases he:at_<b.length
  case neg =>
   rw [vm (by omega),List.append_nil]
   exact aV (ao (decide_eq_false (by omega)) rfl)
  have hbe:=EH h hb hl he (by omega)
  have hg:aB b at_=some (b.getD at_ 0):=by
   rw [List.getD_eq_getElem?_getD,List.getElem?_eq_getElem he,Option.getD_some]; exact bW he
  unfold lC
  rw [if_pos he]
  have hap:∀ t:al,ce 24 l [t]=some (l++[t]):=fun t=>ev (by simp only [List.length_cons,List.length_nil]; omega) (by simp only [List.length_cons,List.length_nil]; omega)
  rcases jO b at_ with h0 | ⟨c1,c2,c3,c4,c5,c6⟩
  ·rw [h0] at hbe ⊢
   rw [if_pos rfl]
   obtain ⟨y,hy,hlp⟩:=uP hb hl 1 at_ bD x h (by omega) (by simp only [bD]; omega)
   have hn:=tW hb hl k (at_+1) fu (l++[⟨b.getD at_ 0,0,0⟩]) y hy (by omega) (by omega) (by omega) (by simp; omega)
   rw [List.append_assoc] at hn
   exact (bh (am (decide_eq_true (by omega)) (ai hbe (aK (s:=(b.getD at_ 0,1)) (am rfl (ai (aA he) (ai hg rfl))) (ai (hap _) (aK hlp rfl)))))).trans hn
  ·rw [if_neg (by omega)]
   obtain ⟨y,hy,hlp⟩:=uP hb hl (bN b at_).1 at_ bD x h (by omega) (by simp only [bD]; omega)
   have hn:=tW hb hl k (at_+(bN b at_).1) fu (l++[⟨0,((bN b at_).1:Int),((bN b at_).2:Int)⟩]) y hy (by omega) (by omega) (by omega) (by simp; omega)
   rw [List.append_assoc] at hn
   exact (bh (am (decide_eq_true (by omega)) (ai hbe (aK (s:=(0,((bN b at_).1:Int))) (ao (beq_eq_false_iff_ne.2 (by show (((bN b at_).1:Nat):Int)≠0; omega)) rfl) (ai (hap _) (aK hlp rfl)))))).trans hn
theorem pE {b:List Int} (hb:∀ n∈b,0≤n∧n<256) (hl:b.length≤4096):eZ b=some (fB b,0):=by
 unfold eZ
 have hlp:=tW hb (by omega) b.length 0 bD [] (aj.mk b [] [] 0) (Hb b 0) (Nat.zero_le _) (by omega) (by simp only [bD]; omega) (Nat.zero_le _)
 refine ao (decide_eq_false (by omega)) (ai (x:=some (aj.mk b [] [] 0)) rfl ?_)
 show aq _ _ _=_
 exact aK hlp rfl
def Di (b:List Int) (at_:Int):Int×Int:=if at_<0∨(b.length:Int)≤at_∨4096<b.length then (0,0) else (((bN b at_.toNat).1:Int),((bN b at_.toNat).2:Int))
def Lx (b:List Int) (at_:Int):((Int×Int×Int))→Option ((Int×Int×Int)⊕((Int×Int)⊕(Int×Int))):=(fun ((s161,s162,s163):Int×Int×Int) =>
 aq (S:=Bool) (A:=((Int×Int×Int)⊕((Int×Int)⊕(Int×Int))))
  (cond ((decide (s163≤at_)))
   (some (.inl ((decide (s163≤2048)))))
   (some (.inl false)))
  (fun (s242:Bool) =>
   cond (s242)
    (aq (S:=Int×Int) (A:=((Int×Int×Int)⊕((Int×Int)⊕(Int×Int))))
     (aq (S:=(Int)) (A:=((Int×Int)⊕((Int×Int×Int)⊕((Int×Int)⊕(Int×Int)))))
      (aG (S:=(Int)) (O:=(Int)⊕((Int×Int)⊕((Int×Int×Int)⊕((Int×Int)⊕(Int×Int))))) (fun (s293:Int) =>
       aq (S:=Bool) (A:=((Int)⊕((Int)⊕((Int×Int)⊕((Int×Int×Int)⊕((Int×Int)⊕(Int×Int)))))))
        (cond ((decide (s293<258)))
         ((some (IntKind.i64.wrap (at_+s293))).bind fun v13 =>
         cond ((decide (v13<(b.length:Int))))
          ((some (IntKind.i64.wrap (at_+s293))).bind fun v14 =>
          (bf v14 b.length).bind fun v15 =>
          (aB b v15).bind fun v16 =>
          (some (IntKind.i64.wrap (at_+s293))).bind fun v17 =>
          (some (IntKind.i64.wrap (v17-s163))).bind fun v18 =>
          (bf v18 b.length).bind fun v19 =>
          (aB b v19).bind fun v20 =>
          some (.inl (v16==v20)))
          (some (.inl false)))
         (some (.inl false)))
        (fun (s306:Bool) =>
         cond (s306)
          ((some (IntKind.i64.wrap (s293+1))).bind fun v26 =>
          some (.inl v26))
          (some (.inr (.inl s293)))) some)
       bD 0)
      (fun (s299:Int) =>
       cond ((decide (s161<s299)))
        (some (.inl (s299,s163)))
        (some (.inl (s161,s162)))) some)
     (fun ((s277,s278):Int×Int) =>
      (some (IntKind.i64.wrap (s163+1))).bind fun v87 =>
      some (.inl (s277,s278,v87))) some)
    (some (.inr (.inl (s161,s162))))) some)
def LF (b:List Int) (at_ s163:Int):((Int))→Option ((Int)⊕((Int)⊕((Int×Int)⊕((Int×Int×Int)⊕((Int×Int)⊕(Int×Int)))))):=(fun (s293:Int) =>
 aq (S:=Bool) (A:=((Int)⊕((Int)⊕((Int×Int)⊕((Int×Int×Int)⊕((Int×Int)⊕(Int×Int)))))))
  (cond ((decide (s293<258)))
   ((some (IntKind.i64.wrap (at_+s293))).bind fun v13 =>
   cond ((decide (v13<(b.length:Int))))
    ((some (IntKind.i64.wrap (at_+s293))).bind fun v14 =>
    (bf v14 b.length).bind fun v15 =>
    (aB b v15).bind fun v16 =>
    (some (IntKind.i64.wrap (at_+s293))).bind fun v17 =>
    (some (IntKind.i64.wrap (v17-s163))).bind fun v18 =>
    (bf v18 b.length).bind fun v19 =>
    (aB b v19).bind fun v20 =>
    some (.inl (v16==v20)))
    (some (.inl false)))
   (some (.inl false)))
  (fun (s306:Bool) =>
   cond (s306)
    ((some (IntKind.i64.wrap (s293+1))).bind fun v26 =>
    some (.inl v26))
    (some (.inr (.inl s293)))) some)
def LD (b:List Int):(((List al)×Int))→Option (((List al)×Int)⊕(((List al))⊕(List al))):=(fun ((s26,s27):(List al)×Int) =>
 cond ((decide (s27<(b.length:Int))))
  (aq (S:=(List al)×Int) (A:=(((List al)×Int)⊕(((List al))⊕(List al))))
   ((dU b s27).bind fun v2 =>
   cond ((v2.1==0))
    ((bf s27 b.length).bind fun v4 =>
    (aB b v4).bind fun v5 =>
    (ce 24 s26 [(al.mk v5 0 0)]).bind fun v6 =>
    (some (IntKind.i64.wrap (s27+1))).bind fun v7 =>
    some (.inl (v6,v7)))
    ((ce 24 s26 [(al.mk 0 v2.1 v2.2)]).bind fun v8 =>
    (some (IntKind.i64.wrap (s27+v2.1))).bind fun v9 =>
    some (.inl (v8,v9))))
   (fun ((s45,s46):(List al)×Int) =>
    some (.inl (s45,s46))) some)
  (some (.inr (.inl s26))))
theorem Df (n lo hi:Int):bB n lo hi=some (decide (lo≤n)&&decide (n≤hi)):=by
 unfold bB
 by_cases h:lo≤n
 ·rw [decide_eq_true h]; exact aK (s:=decide (n≤hi)) (am rfl rfl) rfl
 ·rw [decide_eq_false h]; exact aK (s:=false) (ao rfl rfl) rfl
theorem Fu {b:List Int} {at_ o:Nat} (hl:b.length≤5000) (ha:at_<b.length) (ho:1≤o) (ho2:o≤at_) :
  aG (LF b (at_:Int) (o:Int)) bD 0=some (.inl ((ja b (at_-o) at_:Nat):Int)):=by
 have hle:=vY b (p:=at_-o) (at_:=at_)
 have hgo:∀ i:Nat,i<258→at_+i<b.length→∃ u v:Int,b[at_-o+i]? = some u∧b[at_+i]? = some v∧(((cond ((decide ((i:Int)<258)))
     ((some (IntKind.i64.wrap ((at_:Int)+(i:Int)))).bind fun v13 =>
     cond ((decide (v13<(b.length:Int))))
      ((some (IntKind.i64.wrap ((at_:Int)+(i:Int)))).bind fun v14 =>
      (bf v14 b.length).bind fun v15 =>
      (aB b v15).bind fun v16 =>
      (some (IntKind.i64.wrap ((at_:Int)+(i:Int)))).bind fun v17 =>
      (some (IntKind.i64.wrap (v17-(o:Int)))).bind fun v18 =>
      (bf v18 b.length).bind fun v19 =>
      (aB b v19).bind fun v20 =>
      some (.inl (v16==v20)))
      (some (.inl false)))
     (some (.inl false))):Option (Bool⊕(Int⊕(Int⊕((Int×Int)⊕((Int×Int×Int)⊕((Int×Int)⊕(Int×Int))))))))=some (.inl (v==u))):=by
  intro i hi hn
  obtain ⟨u,hu,hu2⟩:=uR (l:=b) (i:=at_-o+i) (by omega)
  obtain ⟨v,hv,hv2⟩:=uR (l:=b) (i:=at_+i) hn
  have hw:IntKind.i64.wrap ((at_:Int)+(i:Int))=((at_+i:Nat):Int):=by rw [wrap_i64 (by omega) (by omega)]; simp
  have hw2:IntKind.i64.wrap (((at_+i:Nat):Int)-(o:Int))=((at_-o+i:Nat):Int):=by rw [wrap_i64 (by omega) (by omega)]; omega
  exact ⟨u,v,hu2,hv2,am (decide_eq_true (by omega)) (ai (congrArg some hw) (am (decide_eq_true (by omega)) (ai (congrArg some hw) (ai (aA hn) (ai hv (ai (congrArg some hw) (ai (congrArg some hw2) (ai (aA (by omega)) (ai hu rfl)))))))))⟩
 refine bX (fun i=>((i:Nat):Int)) (ja b (at_-o) at_) bD rfl (by simp only [bD]; omega) (fun i hi => ?_) ?_
 ·obtain ⟨u,v,hu,hv,he⟩:=hgo i (by omega) (by omega)
  have:=yR (b:=b) (p:=at_-o) (at_:=at_) hi
  rw [hu,hv] at this
  obtain rfl:=Option.some.inj this
  rw [beq_self_eq_true] at he
  exact aK he (am rfl (ai (congrArg some (aI (n:=i) (by omega))) rfl))
 ·by_cases h258:ja b (at_-o) at_<258
  ·by_cases hn:at_+ja b (at_-o) at_<b.length
   ·obtain ⟨u,v,hu,hv,he⟩:=hgo _ h258 hn
    have:=Ac (b:=b) (p:=at_-o) (at_:=at_) (by omega) h258 hn
    rw [hu,hv] at this
    have hne:(v==u)=false:=beq_eq_false_iff_ne.2 fun h=>this (by rw [h])
    rw [hne] at he
    exact aK he (ao rfl rfl)
   ·have hw:IntKind.i64.wrap ((at_:Int)+((ja b (at_-o) at_:Nat):Int))=((at_+ja b (at_-o) at_:Nat):Int):=by rw [wrap_i64 (by omega) (by omega)]; simp
    exact aK (s:=false) (am (decide_eq_true (by omega)) (ai (congrArg some hw) (ao (decide_eq_false (by omega)) rfl))) (ao rfl rfl)
  ·exact aK (s:=false) (ao (decide_eq_false (by omega)) rfl) (ao rfl rfl)
theorem Gi {b:List Int} {at_:Nat} (hl:b.length≤5000) (ha:at_<b.length):aG (Lx b (at_:Int)) bD (0,0,1)=some (.inl (((cH b at_ (min at_ 2048)).1:Int),((cH b at_ (min at_ 2048)).2:Int))):=by
 refine bX (fun i=>(((cH b at_ i).1:Int),((cH b at_ i).2:Int),((i+1:Nat):Int))) (min at_ 2048) bD rfl (by simp only [bD]; omega) (fun i hi => ?_) ?_
 ·have hr:=Fu hl ha (o:=i+1) (by omega) (by omega)
  have hfirst:(cond ((decide (((i+1:Nat):Int)≤(at_:Int)))) (some (.inl ((decide (((i+1:Nat):Int)≤2048))))) (some (.inl false)):Option (Bool⊕((Int×Int×Int)⊕((Int×Int)⊕(Int×Int)))))=some (.inl true) :=
   am (decide_eq_true (by omega)) (by rw [decide_eq_true (by omega)])
  refine aK hfirst (am rfl (aK (s:=(((cH b at_ (i+1)).1:Int),((cH b at_ (i+1)).2:Int))) (aK hr ?_) (ai (congrArg some (aI (n:=i+1) (by omega))) rfl)))
  show cond (decide (((cH b at_ i).1:Int)<((ja b (at_-(i+1)) at_:Nat):Int))) _ _=some (Sum.inl (((mS (cH b at_ i) (i+1) (ja b (at_-(i+1)) at_)).1:Int),((mS (cH b at_ i) (i+1) (ja b (at_-(i+1)) at_)).2:Int)))
  unfold mS
  by_cases h:(cH b at_ i).1<ja b (at_-(i+1)) at_
  ·rw [if_pos h]
   exact am (decide_eq_true (by omega)) rfl
  ·rw [if_neg h]
   exact ao (decide_eq_false (by omega)) rfl
 ·refine aK (s:=false) ?_ (ao rfl rfl)
  by_cases h:min at_ 2048+1≤at_
  ·exact am (decide_eq_true (by omega)) (by rw [decide_eq_false (by omega)])
  ·exact ao (decide_eq_false (by omega)) rfl
theorem Cq {b:List Int} (hl:b.length<4294967296) (at_:Int):dU b at_=some (Di b at_):=by
 unfold dU Di
 by_cases h3:4096<b.length
 ·rw [if_pos (.inr (.inr h3))]
  exact aK (s:=true) (am (decide_eq_true (by omega)) rfl) (am rfl rfl)
 have hw:IntKind.i64.wrap ((b.length:Int)-1)=(b.length:Int)-1:=wrap_i64 (by omega) (by omega)
 by_cases h1:at_<0∨(b.length:Int)≤at_
 ·rw [if_pos (by omega)]
  refine aK (s:=true) (ao (decide_eq_false (by omega)) (ai (congrArg some hw) (ai (Df _ _ _) ?_))) (am rfl rfl)
  have:(decide (0≤at_)&&decide (at_≤(b.length:Int)-1))=false:=by
   rw [Bool.and_eq_false_iff,decide_eq_false_iff_not,decide_eq_false_iff_not]; omega
  rw [this]; rfl
 rw [if_neg (by omega)]
 obtain ⟨n,rfl⟩:∃ n:Nat,at_=(n:Int):=⟨at_.toNat,by omega⟩
 rw [Int.toNat_natCast]
 have hin:(decide (0≤(n:Int))&&decide ((n:Int)≤(b.length:Int)-1))=true:=by
  rw [Bool.and_eq_true,decide_eq_true_eq,decide_eq_true_eq]; omega
 refine aK (s:=false) (ao (decide_eq_false (by omega)) (ai (congrArg some hw) (ai (Df _ _ _) (by rw [hin]; rfl)))) (ao rfl (aK (Gi (by omega) (by omega)) ?_))
 unfold bN rX
 by_cases h:(cH b n (min n 2048)).1<3
 ·rw [if_pos h]
  exact am (decide_eq_true (by show ((cH b n (min n 2048)).1:Int)<3; omega)) rfl
 ·rw [if_neg h]
  exact ao (decide_eq_false (by show ¬ ((cH b n (min n 2048)).1:Int)<3; omega)) rfl
theorem ul {b:List Int} (hl:b.length≤4096):∀ (k at_ fuel:Nat) (l:List al),at_≤b.length→b.length-at_≤k→k<fuel→l.length≤at_ →
  aG (LD b) fuel (l,(at_:Int))=some (.inl (l++lC b k at_))
 | 0,at_,fuel,l,ha,hk,hf,hll=>by
  obtain ⟨fu,rfl⟩:∃ fu,fuel=fu+1:=⟨fuel-1,by omega⟩
  rw [lC,List.append_nil]
  exact aV (ao (decide_eq_false (by omega)) rfl)
 | k+1,at_,fuel,l,ha,hk,hf,hll=>by
  obtain ⟨fu,rfl⟩:∃ fu,fuel=fu+1:=⟨fuel-1,by omega⟩
  by_cases he:at_<b.length
  case neg =>
   rw [vm (by omega),List.append_nil]
   exact aV (ao (decide_eq_false (by omega)) rfl)
  have hbe:=Cq (b:=b) (by omega) (at_:Int)
  unfold Di at hbe
  rw [if_neg (by omega),Int.toNat_natCast] at hbe
  have hg:aB b at_=some (b.getD at_ 0):=by
   rw [List.getD_eq_getElem?_getD,List.getElem?_eq_getElem he,Option.getD_some]; exact bW he
  unfold lC
  rw [if_pos he]
  have hap:∀ t:al,ce 24 l [t]=some (l++[t]):=fun t=>ev (by simp only [List.length_cons,List.length_nil]; omega) (by simp only [List.length_cons,List.length_nil]; omega)
  rcases jO b at_ with h0 | ⟨c1,c2,c3,c4,c5,c6⟩
  ·rw [h0] at hbe ⊢
   rw [if_pos rfl]
   have hn:=ul hl k (at_+1) fu (l++[⟨b.getD at_ 0,0,0⟩]) (by omega) (by omega) (by omega) (by simp; omega)
   rw [List.append_assoc] at hn
   exact (bh (am (decide_eq_true (by omega)) (aK (s:=(l++[⟨b.getD at_ 0,0,0⟩],((at_+1:Nat):Int))) (ai hbe (am rfl (ai (aA he) (ai hg (ai (hap _) (ai (congrArg some (aI (n:=at_) (by omega))) rfl)))))) rfl))).trans hn
  ·rw [if_neg (by omega)]
   have hw:IntKind.i64.wrap ((at_:Int)+((bN b at_).1:Int))=((at_+(bN b at_).1:Nat):Int):=by rw [wrap_i64 (by omega) (by omega)]; simp
   have hn:=ul hl k (at_+(bN b at_).1) fu (l++[⟨0,((bN b at_).1:Int),((bN b at_).2:Int)⟩]) (by omega) (by omega) (by omega) (by simp; omega)
   rw [List.append_assoc] at hn
   exact (bh (am (decide_eq_true (by omega)) (aK (s:=(l++[⟨0,((bN b at_).1:Int),((bN b at_).2:Int)⟩],((at_+(bN b at_).1:Nat):Int))) (ai hbe (ao (beq_eq_false_iff_ne.2 (by show (((bN b at_).1:Nat):Int)≠0; omega)) (ai (hap _) (ai (congrArg some hw) rfl)))) rfl))).trans hn
def KU (l:List al):((Int×Int))→Option ((Int×Int)⊕((Int)⊕Int)):=(fun ((s115,s116):Int×Int) =>
 cond ((decide (s116<(l.length:Int))))
  (aq (S:=Int) (A:=((Int×Int)⊕((Int)⊕Int)))
   ((bf s116 l.length).bind fun v2 =>
   (aB l v2).bind fun v3 =>
   aq (S:=Int) (A:=(Int⊕((Int×Int)⊕((Int)⊕Int))))
    (aq (S:=Bool) (A:=(Int⊕(Int⊕((Int×Int)⊕((Int)⊕Int)))))
     (cond ((v3.LI==0))
      (some (.inl (v3.LH==0)))
      (some (.inl false)))
     (fun (s220:Bool) =>
      cond (s220)
       ((some (IntKind.i64.wrap (s115+1))).bind fun v9 =>
       some (.inl v9))
       (aq (S:=Bool) (A:=(Int⊕(Int⊕((Int×Int)⊕((Int)⊕Int)))))
        ((dT v3).bind fun v10 =>
        cond (v10)
         (some (.inl ((decide (v3.LH≤s115)))))
         (some (.inl false)))
        (fun (s225:Bool) =>
         cond (s225)
          ((some (IntKind.i64.wrap (s115+v3.LI))).bind fun v16 =>
          some (.inl v16))
          (some (.inr (.inr (.inr (.inr (1))))))) some)) some)
    (fun (s216:Int) =>
     some (.inl s216)) some)
   (fun (s202:Int) =>
    (some (IntKind.i64.wrap (s116+1))).bind fun v59 =>
    some (.inl (s202,v59))) some)
  (some (.inr (.inl s115))))
def vD (t:al) (n:Int):Bool:=decide ((t.LI=0∧t.LH=0)∨((t.LG=0∧3≤t.LI∧t.LI≤258∧1≤t.LH∧t.LH≤2048)∧t.LH≤n))
def tl (t:al):Nat:=if t.LI=0 then 1 else t.LI.toNat
def sF:List al→Nat→Option Nat
 | [],n=>some n
 | t::l,n=>if vD t n=true then sF l (n+tl t) else none
theorem Jd {t:al} {n:Int} (h:vD t n=true):1≤tl t∧tl t≤258:=by
 unfold vD at h
 rw [decide_eq_true_eq] at h
 unfold tl
 split <;> omega
def vT (t:al):Bool:=decide (t.LG=0∧3≤t.LI∧t.LI≤258∧1≤t.LH∧t.LH≤2048)
theorem tG (t:al):dT t=some (vT t):=by
 unfold dT
 by_cases h1:t.LG=0
 case neg =>
  have e:vT t=false:=decide_eq_false fun h=>h1 h.1
  rw [e]
  exact aK (s:=false) (ao (beq_eq_false_iff_ne.2 h1) rfl) rfl
 by_cases h2:3≤t.LI
 case neg =>
  have e:vT t=false:=decide_eq_false fun h=>h2 h.2.1
  rw [e]
  exact aK (s:=false) (am (beq_iff_eq.2 h1) (ao (decide_eq_false h2) rfl)) rfl
 by_cases h3:t.LI≤258
 case neg =>
  have e:vT t=false:=decide_eq_false fun h=>h3 h.2.2.1
  rw [e]
  exact aK (s:=false) (am (beq_iff_eq.2 h1) (am (decide_eq_true h2) (ao (decide_eq_false h3) rfl))) rfl
 by_cases h4:1≤t.LH
 case neg =>
  have e:vT t=false:=decide_eq_false fun h=>h4 h.2.2.2.1
  rw [e]
  exact aK (s:=false) (am (beq_iff_eq.2 h1) (am (decide_eq_true h2) (am (decide_eq_true h3) (ao (decide_eq_false h4) rfl)))) rfl
 have e:vT t=decide (t.LH≤2048):=decide_eq_decide.2 ⟨fun h=>h.2.2.2.2,fun h=>⟨h1,h2,h3,h4,h⟩⟩
 rw [e]
 exact aK (s:=decide (t.LH≤2048)) (am (beq_iff_eq.2 h1) (am (decide_eq_true h2) (am (decide_eq_true h3) (am (decide_eq_true h4) rfl)))) rfl
theorem FI (l:List al) {i:Nat} {n:Nat} (hi:i<l.length) (hil:i<1000000000) (hn:n≤1000000000000):KU l ((n:Int),(i:Int))=some (if vD l[i] n=true then .inl (((n+tl l[i]:Nat):Int),((i+1:Nat):Int)) else .inr (.inr 1)):=by
 have hg:=bW hi
 generalize l[i]=t at hg
 have hw1:IntKind.i64.wrap ((n:Int)+1)=((n+1:Nat):Int):=aI (by omega)
 have hwi:IntKind.i64.wrap ((i:Int)+1)=((i+1:Nat):Int):=aI (by omega)
 by_cases hz:t.LI=0∧t.LH=0
 ·have ho:vD t n=true:=by unfold vD; rw [decide_eq_true_eq]; exact .inl hz
  rw [if_pos ho]
  have htl:tl t=1:=by unfold tl; rw [if_pos hz.1]
  rw [htl]
  exact am (decide_eq_true (by omega)) (aK (s:=((n+1:Nat):Int)) (ai (aA hi) (ai hg (aK (s:=((n+1:Nat):Int)) (aK (s:=true) (am (beq_iff_eq.2 hz.1) (by rw [beq_iff_eq.2 hz.2])) (am rfl (ai (congrArg some hw1) rfl))) rfl))) (ai (congrArg some hwi) rfl))
 ·have hfirst:∀ {A:Type},(cond ((t.LI==0)) (some (.inl (t.LH==0))) (some (.inl false)):Option (Bool⊕A))=some (.inl false):=by
   intro A
   by_cases h:t.LI=0
   ·exact am (beq_iff_eq.2 h) (by rw [beq_eq_false_iff_ne.2 fun e=>hz ⟨h,e⟩])
   ·exact ao (beq_eq_false_iff_ne.2 h) rfl
  by_cases hv:t.LG=0∧3≤t.LI∧t.LI≤258∧1≤t.LH∧t.LH≤2048
  ·have hve:=tG t
   rw [show vT t=true from decide_eq_true hv] at hve
   by_cases hd:t.LH≤(n:Int)
   ·have ho:vD t n=true:=by unfold vD; rw [decide_eq_true_eq]; exact .inr ⟨hv,hd⟩
    rw [if_pos ho]
    have hw:IntKind.i64.wrap ((n:Int)+t.LI)=((n+tl t:Nat):Int):=by
     unfold tl
     rw [if_neg (by omega),wrap_i64 (by omega) (by omega)]; omega
    exact am (decide_eq_true (by omega)) (aK (s:=((n+tl t:Nat):Int)) (ai (aA hi) (ai hg (aK (s:=((n+tl t:Nat):Int)) (aK hfirst (ao rfl (aK (s:=true) (ai hve (am rfl (by rw [decide_eq_true hd]))) (am rfl (ai (congrArg some hw) rfl))))) rfl))) (ai (congrArg some hwi) rfl))
   ·have ho:¬ vD t n=true:=by unfold vD; rw [decide_eq_true_eq]; rintro (h | h); exact hz h; exact hd h.2
    rw [if_neg ho]
    exact am (decide_eq_true (by omega)) (oy (a := .inr (.inr 1)) (ai (aA hi) (ai hg (oy (a := .inr (.inr (.inr 1))) (aK hfirst (ao rfl (aK (s:=false) (ai hve (am rfl (by rw [decide_eq_false hd]))) (ao rfl rfl)))) rfl))) rfl)
  ·have hve:=tG t
   rw [show vT t=false from decide_eq_false hv] at hve
   have ho:¬ vD t n=true:=by unfold vD; rw [decide_eq_true_eq]; rintro (h | h); exact hz h; exact hv h.1
   rw [if_neg ho]
   exact am (decide_eq_true (by omega)) (oy (a := .inr (.inr 1)) (ai (aA hi) (ai hg (oy (a := .inr (.inr (.inr 1))) (aK hfirst (ao rfl (aK (s:=false) (ai hve (ao rfl rfl)) (ao rfl rfl)))) rfl))) rfl)
theorem zU (l:List al) (hl:l.length≤1000000):∀ (k i fuel n:Nat),i+k=l.length→k<fuel→n≤258 * i→aG (KU l) fuel ((n:Int),(i:Int))=some (match sF (l.drop i) n with | some m => .inl (m:Int) | none => .inr 1)
 | 0,i,fuel,n,hk,hf,hn=>by
  obtain ⟨fu,rfl⟩:∃ fu,fuel=fu+1:=⟨fuel-1,by omega⟩
  rw [List.drop_of_length_le (by omega)]
  exact aV (ao (decide_eq_false (by omega)) rfl)
 | k+1,i,fuel,n,hk,hf,hn=>by
  obtain ⟨fu,rfl⟩:∃ fu,fuel=fu+1:=⟨fuel-1,by omega⟩
  have hi:i<l.length:=by omega
  have hs:=FI l hi (by omega) (by omega:n≤1000000000000)
  rw [List.drop_eq_getElem_cons hi]
  simp only [sF]
  by_cases ho:vD l[i] n=true
  ·rw [if_pos ho] at hs ⊢
   have:=Jd ho
   exact (bh hs).trans (zU l hl k (i+1) fu (n+tl l[i]) (by omega) (by omega) (by omega))
  ·rw [if_neg ho] at hs ⊢
   exact aV hs
def Ku (l:List al):Int:=match sF l 0 with | some n=>if 4096<n then 2 else 0 | none=>1
theorem CA {l:List al} (hl:l.length≤1000000):eV l=some (Ku l):=by
 have h:=zU l hl l.length 0 bD 0 (by omega) (by simp only [bD]; omega) (by omega)
 rw [List.drop_zero] at h
 unfold eV Ku
 cases hc:sF l 0 with
 | none =>
  rw [hc] at h
  exact oy h rfl
 | some n =>
  rw [hc] at h
  refine aK h ?_
  by_cases h4:4096<n
  ·simp only [if_pos h4]; exact am (decide_eq_true (by omega)) rfl
  ·simp only [if_neg h4]; exact ao (decide_eq_false (by omega)) rfl
theorem sl (b:List Int) (m:Nat):∀ (k at_:Nat),b.length-at_≤k→at_≤b.length→sF (lC b k at_) (m+at_)=some (m+b.length)
 | 0,at_,hk,ha=>by
  obtain rfl:at_=b.length:=by omega
  rfl
 | k+1,at_,hk,ha=>by
  unfold lC
  split
  ·rename_i he
   rcases jO b at_ with h0 | ⟨c1,c2,c3,c4,c5,c6⟩
   ·rw [h0,if_pos rfl]
    simp only [sF]
    have ho:vD ⟨b.getD at_ 0,0,0⟩ ((m+at_:Nat):Int)=true:=by unfold vD; rw [decide_eq_true_eq]; exact .inl ⟨rfl,rfl⟩
    rw [if_pos ho]
    exact sl b m k (at_+1) (by omega) (by omega)
   ·rw [if_neg (by omega)]
    simp only [sF]
    have ho:vD ⟨0,((bN b at_).1:Int),((bN b at_).2:Int)⟩ ((m+at_:Nat):Int)=true:=by
     unfold vD; rw [decide_eq_true_eq]
     exact .inr ⟨⟨rfl,by show (3:Int)≤((bN b at_).1:Int); omega,by show ((bN b at_).1:Int)≤258; omega,by show (1:Int)≤((bN b at_).2:Int); omega,by show ((bN b at_).2:Int)≤2048; omega⟩,by show ((bN b at_).2:Int)≤((m+at_:Nat):Int); omega⟩
    rw [if_pos ho]
    have htl:tl ⟨0,((bN b at_).1:Int),((bN b at_).2:Int)⟩=(bN b at_).1:=by unfold tl; rw [if_neg (by show ¬ ((bN b at_).1:Int)=0; omega)]; simp
    rw [htl,Nat.add_assoc]
    exact sl b m k (at_+(bN b at_).1) (by omega) (by omega)
  ·simp only [sF]
   rw [show at_=b.length by omega]
theorem LC {l:List Int} (h:Dr (lm .u8) l):∀ n∈l,0≤n∧n<256:=by
 intro x hx
 have:=h.2 x hx
 unfold lm at this
 have h1:IntKind.u8.min=0:=by decide
 have h2:IntKind.u8.max=255:=by decide
 simp [Lit.wf,h1,h2] at this
 omega
theorem mr (b:List Int):(fB b).length≤b.length:=by
 have:=rK b b.length 0
 unfold fB; omega
theorem Bq (b:List Int):sF (fB b) 0=some b.length:=by
 have:=sl b 0 b.length 0 (by omega) (by omega)
 simpa [fB] using this
theorem Jc {a:List Int} (h:a.length<4294967296):bE a a=some true:=by
 have:=uM a a h
 rwa [decide_eq_true rfl] at this
set_option maxRecDepth 100000
def Ld (l:List al) (lits dists:bt):(((List Int)×Int×Int))→Option (((List Int)×Int×Int)⊕(((List Int)×Int)⊕af)):=(fun ((s31,s32,s33):(List Int)×Int×Int) =>
 cond ((decide (s33<(l.length:Int))))
  (aq (S:=(List Int)×Int) (A:=(((List Int)×Int×Int)⊕(((List Int)×Int)⊕af)))
   ((bf s33 l.length).bind fun v2 =>
   (aB l v2).bind fun v3 =>
   cond ((v3.LI==0))
    ((some (IntKind.i64.wrap v3.LG)).bind fun v5 =>
    (bo (af.mk s31 s32) lits v5).bind fun v6 =>
    some (.inl (v6.b,v6.n)))
    ((fy v3.LI).bind fun v7 =>
    (bo (af.mk s31 s32) lits v7.1).bind fun v8 =>
    (aR v8 v7.2.2.1 v7.2.1).bind fun v9 =>
    (eP v3.LH).bind fun v10 =>
    (bo v9 dists v10.1).bind fun v11 =>
    (aR v11 v10.2.2.1 v10.2.1).bind fun v12 =>
    some (.inl (v12.b,v12.n))))
   (fun ((s52,s53):(List Int)×Int) =>
    (some (IntKind.i64.wrap (s33+1))).bind fun v19 =>
    some (.inl (s52,s53,v19))) some)
  (some (.inr (.inl (s31,s32)))))
def Lu (b:List Int):(((List Int)×Int×Int))→Option (((List Int)×Int×Int)⊕(((List Int)×Int)⊕(Option af))):=(fun ((s18,s19,s20):(List Int)×Int×Int) =>
 cond ((decide (s20<(b.length:Int))))
  ((bf s20 b.length).bind fun v9 =>
  (aB b v9).bind fun v10 =>
  (some (IntKind.i64.wrap v10)).bind fun v11 =>
  (aR (af.mk s18 s19) v11 8).bind fun v12 =>
  (some (IntKind.i64.wrap (s20+1))).bind fun v13 =>
  some (.inl (v12.b,v12.n,v13)))
  (some (.inr (.inl (s18,s19)))))
def ii (n:Nat):Nat×Nat×Nat:=match fy (n:Int) with
 | some (s,k,v,_)=>(s.toNat,k.toNat,v.toNat)
 | none=>(0,0,0)
def kZ (n:Nat):Nat×Nat×Nat:=match eP (n:Int) with
 | some (s,k,v,_)=>(s.toNat,k.toNat,v.toNat)
 | none=>(0,0,0)
def KC (n:Nat):Bool:=decide (fy (n:Int)=some (((ii n).1:Int),((ii n).2.1:Int),((ii n).2.2:Int),0)∧257≤(ii n).1∧(ii n).1≤285∧(ii n).2.1≤5∧(ii n).2.2<2 ^ (ii n).2.1)
def Kq (n:Nat):Bool:=decide (eP (n:Int)=some (((kZ n).1:Int),((kZ n).2.1:Int),((kZ n).2.2:Int),0)∧(kZ n).1≤29∧(kZ n).2.1≤13∧(kZ n).2.2<2 ^ (kZ n).2.1)
theorem HK:(List.range 256).all (fun i=>KC (3+i))=true:=by kernel_rfl
theorem HN:(List.range 2048).all (fun i=>Kq (1+i))=true:=by kernel_rfl
theorem wY {n:Nat} (h:3≤n) (h2:n≤258):fy (n:Int)=some (((ii n).1:Int),((ii n).2.1:Int),((ii n).2.2:Int),0)∧257≤(ii n).1∧(ii n).1≤285∧(ii n).2.1≤5∧(ii n).2.2<2 ^ (ii n).2.1:=by
 have:=List.all_eq_true.1 HK (n-3) (List.mem_range.2 (by omega))
 rw [show 3+(n-3)=n by omega] at this
 exact of_decide_eq_true this
theorem wT {n:Nat} (h:1≤n) (h2:n≤2048):eP (n:Int)=some (((kZ n).1:Int),((kZ n).2.1:Int),((kZ n).2.2:Int),0)∧(kZ n).1≤29∧(kZ n).2.1≤13∧(kZ n).2.2<2 ^ (kZ n).2.1:=by
 have:=List.all_eq_true.1 HN (n-1) (List.mem_range.2 (by omega))
 rw [show 1+(n-1)=n by omega] at this
 exact of_decide_eq_true this
def Cg (m d:List Nat) (t:al):List (Nat×Nat) :=
 if t.LI=0 then [kt m t.LG.toNat]
 else [kt m (ii t.LI.toNat).1,((ii t.LI.toNat).2.2,(ii t.LI.toNat).2.1),kt d (kZ t.LH.toNat).1,((kZ t.LH.toNat).2.2,(kZ t.LH.toNat).2.1)]
def kR (m d:List Nat) (l:List al):List (Nat×Nat):=(l.map (Cg m d)).flatten
def lw (t:al):Prop:=(0≤t.LG∧t.LG<256)∧(t.LI=0∨(3≤t.LI∧t.LI≤258∧1≤t.LH∧t.LH≤2048))
theorem xJ {m d:List Nat} (hm:∀ x∈m,x≤15) (hd:∀ x∈d,x≤15) {t:al} (h:lw t):cE (Cg m d t)≤48:=by
 have le:∀ (m:List Nat),(∀ x∈m,x≤15)→∀ j,m.getD j 0≤15:=fun m hm j=>by
  rw [List.getD_eq_getElem?_getD]
  cases hj:m[j]? with
  | none=>simp
  | some x=>simpa using hm x (List.mem_of_getElem? hj)
 unfold Cg
 by_cases h0:t.LI=0
 ·rw [if_pos h0]
  have:=le m hm t.LG.toNat
  simp only [cE,kt,List.map_cons,List.map_nil,List.sum_cons,List.sum_nil]; omega
 ·rw [if_neg h0]
  rcases h.2 with h1 | ⟨h1,h2,h3,h4⟩
  ·exact absurd h1 h0
  ·obtain ⟨_,_,_,k1,_⟩:=wY (n:=t.LI.toNat) (by omega) (by omega)
   obtain ⟨_,_,k2,_⟩:=wT (n:=t.LH.toNat) (by omega) (by omega)
   have a1:=le m hm (ii t.LI.toNat).1
   have a2:=le d hd (kZ t.LH.toNat).1
   simp only [cE,kt,List.map_cons,List.map_nil,List.sum_cons,List.sum_nil]
   omega
theorem nS {m d:List Nat} (hm:∀ x∈m,x≤15) (hd:∀ x∈d,x≤15):∀ {l:List al},(∀ t∈l,lw t)→cE (kR m d l)≤48 * l.length
 | [],_=>by simp [kR,cE]
 | t::l,h=>by
  have h1:=xJ hm hd (h t List.mem_cons_self)
  have h2:=nS hm hd (l:=l) fun x hx=>h x (List.mem_cons_of_mem _ hx)
  have e:kR m d (t::l)=Cg m d t++kR m d l:=by simp [kR]
  rw [e,bJ,List.length_cons]; omega
theorem Fb {m d:List Nat} (hm:Cd m) (hd:Cd d) (hml:286≤m.length) (hdl:30≤d.length) {l:List al} {i:Nat} (hi:i<l.length) (hil:l.length≤5000) (ht:lw l[i]) {w:af} {ps:List (Nat×Nat)} (h:WP w ps) (hN:cE ps+48≤900000) :
  ∃ w',Ld l (EC m) (EC d) (w.b,w.n,(i:Int))=some (.inl (w'.b,w'.n,((i+1:Nat):Int)))∧WP w' (ps++Cg m d l[i]):=by
 have hg:=bW hi
 have hw:=aI (n:=i) (by omega)
 unfold Cg
 by_cases h0:l[i].LI=0
 ·rw [if_pos h0]
  obtain ⟨w',p1,p2⟩:=h.sym hm (j:=l[i].LG.toNat) (by have:=ht.1; omega) (by omega)
  rw [show ((l[i].LG.toNat:Nat):Int)=l[i].LG by have:=ht.1; omega] at p1
  have hwb:IntKind.i64.wrap l[i].LG=l[i].LG:=wrap_i64 (by have:=ht.1; omega) (by have:=ht.1; omega)
  exact ⟨w',am (decide_eq_true (by omega)) (aK (ai (aA hi) (ai hg (am (beq_iff_eq.2 h0) (ai (congrArg some hwb) (ai p1 rfl))))) (ai (congrArg some hw) rfl)),p2⟩
 ·rw [if_neg h0]
  rcases ht.2 with h1 | ⟨h1,h2,h3,h4⟩
  ·exact absurd h1 h0
  obtain ⟨l1,l2,l3,l4,l5⟩:=wY (n:=l[i].LI.toNat) (by omega) (by omega)
  obtain ⟨d1,d2,d3,d4⟩:=wT (n:=l[i].LH.toNat) (by omega) (by omega)
  rw [show ((l[i].LI.toNat:Nat):Int)=l[i].LI by omega] at l1
  rw [show ((l[i].LH.toNat:Nat):Int)=l[i].LH by omega] at d1
  obtain ⟨w1,p1,q1⟩:=h.sym hm (j:=(ii l[i].LI.toNat).1) (by omega) (by omega)
  have c1:=(gV hm (j:=(ii l[i].LI.toNat).1) (by omega)).2
  have s1:cE (ps++[kt m (ii l[i].LI.toNat).1])≤cE ps+15:=by rw [bJ]; simp only [cE,kt,List.map_cons,List.map_nil,List.sum_cons,List.sum_nil]; omega
  obtain ⟨w2,p2,q2⟩:=q1.put (ii l[i].LI.toNat).2.2 (ii l[i].LI.toNat).2.1 (by omega) l5 (by omega)
  have s2:cE (ps++[kt m (ii l[i].LI.toNat).1]++[((ii l[i].LI.toNat).2.2,(ii l[i].LI.toNat).2.1)])≤cE ps+20:=by rw [bJ _ [((ii l[i].LI.toNat).2.2,(ii l[i].LI.toNat).2.1)]]; simp only [cE,List.map_cons,List.map_nil,List.sum_cons,List.sum_nil] at s1 ⊢; omega
  obtain ⟨w3,p3,q3⟩:=q2.sym hd (j:=(kZ l[i].LH.toNat).1) (by omega) (by omega)
  have c3:=(gV hd (j:=(kZ l[i].LH.toNat).1) (by omega)).2
  have s3:cE (ps++[kt m (ii l[i].LI.toNat).1]++[((ii l[i].LI.toNat).2.2,(ii l[i].LI.toNat).2.1)]++[kt d (kZ l[i].LH.toNat).1])≤cE ps+35:=by rw [bJ _ [kt d _]]; simp only [cE,kt,List.map_cons,List.map_nil,List.sum_cons,List.sum_nil] at s2 ⊢; omega
  obtain ⟨w4,p4,q4⟩:=q3.put (kZ l[i].LH.toNat).2.2 (kZ l[i].LH.toNat).2.1 (by omega) d4 (by omega)
  refine ⟨w4,am (decide_eq_true (by omega)) (aK (ai (aA hi) (ai hg (ao (beq_eq_false_iff_ne.2 h0) (ai l1 (ai p1 (ai p2 (ai d1 (ai p3 (ai p4 rfl))))))))) (ai (congrArg some hw) rfl)),?_⟩
  simpa [List.append_assoc] using q4
theorem zf {m d:List Nat} (hm:Cd m) (hd:Cd d) (hml:286≤m.length) (hdl:30≤d.length) {l:List al} (hil:l.length≤5000) (ht:∀ t∈l,lw t):∀ (k i fuel:Nat) (w:af) (ps:List (Nat×Nat)),i+k=l.length→k<fuel→WP w ps→cE ps+48 * k≤900000 →
  ∃ w',aG (Ld l (EC m) (EC d)) fuel (w.b,w.n,(i:Int))=some (.inl (w'.b,w'.n))∧WP w' (ps++kR m d (l.drop i))
 | 0,i,fuel,w,ps,hk,hf,h,hN=>by
  obtain ⟨fu,rfl⟩:∃ fu,fuel=fu+1:=⟨fuel-1,by omega⟩
  rw [List.drop_eq_nil_of_le (by omega)]
  exact ⟨w,aV (ao (decide_eq_false (by omega)) rfl),by simpa [kR] using h⟩
 | k+1,i,fuel,w,ps,hk,hf,h,hN=>by
  obtain ⟨fu,rfl⟩:∃ fu,fuel=fu+1:=⟨fuel-1,by omega⟩
  have hi:i<l.length:=by omega
  have hti:=ht _ (List.getElem_mem hi)
  obtain ⟨w1,p1,q1⟩:=Fb hm hd hml hdl hi hil hti h (by omega)
  have hwk:=xJ hm.le hd.le hti
  obtain ⟨w2,p2,q2⟩:=zf hm hd hml hdl hil ht k (i+1) fu w1 (ps++Cg m d l[i]) (by omega) (by omega) q1 (by rw [bJ]; omega)
  refine ⟨w2,(bh p1).trans p2,?_⟩
  rw [List.drop_eq_getElem_cons hi]
  have e:kR m d (l[i]::l.drop (i+1))=Cg m d l[i]++kR m d (l.drop (i+1)):=rfl
  rw [e,← List.append_assoc]; exact q2
theorem nU {m d:List Nat} (hm:Cd m) (hd:Cd d) (hml:286≤m.length) (hdl:30≤d.length) {l:List al} (hil:l.length≤5000) (ht:∀ t∈l,lw t) {w:af} {ps:List (Nat×Nat)} (h:WP w ps) (hN:cE ps≤600000) :
  ∃ w',cD w l (EC m) (EC d)=some w'∧WP w' (ps++(kR m d l++[kt m 256])):=by
 obtain ⟨w1,p1,q1⟩:=zf hm hd hml hdl hil ht l.length 0 bD w ps (by omega) (by simp only [bD]; omega) h (by omega)
 rw [List.drop_zero] at q1
 have hb:=nS hm.le hd.le ht
 obtain ⟨w2,p2,q2⟩:=q1.sym hm (j:=256) (by omega) (by rw [bJ]; omega)
 refine ⟨w2,?_,by rw [← List.append_assoc]; exact q2⟩
 unfold cD
 exact aK p1 (ai p2 rfl)
theorem Iw:WP ⟨[],0⟩ []:=⟨rfl,⟨rfl,fun n hn=>(by cases hn),fun q _=>by simp [et]⟩,trivial⟩
theorem mn (k:Nat) (hk:k<4):∃ w,dH (k:Int)=some (some w)∧WP w [(1,1),(k,2)]:=by
 obtain ⟨w1,p1,q1⟩:=Iw.put 1 1 (by omega) (by omega) (by simp [cE])
 obtain ⟨w2,p2,q2⟩:=q1.put k 2 (by omega) (by omega) (by simp [cE])
 refine ⟨w2,?_,q2⟩
 unfold dH
 exact ai p1 (ai p2 rfl)
theorem Ik {E R:Type} {x:E} {f:E→Option R} {n r:Option R} (h:f x=r):Ge (some x) f n=r:=h
def mL:List Nat:=List.replicate 144 8++(List.replicate 112 9++(List.replicate 24 7++List.replicate 8 8))
def mD:List Nat:=List.replicate 32 5
theorem yo:mA=some (ints mL,ints mD):=by kernel_rfl
theorem zM:Cd mL:=⟨of_decide_eq_true (by kernel_rfl),of_decide_eq_true (by kernel_rfl),by kernel_rfl⟩
theorem Ag:Cd mD:=⟨of_decide_eq_true (by kernel_rfl),of_decide_eq_true (by kernel_rfl),by kernel_rfl⟩
theorem su {l:List al} (hl:l.length≤5000) (ht:∀ t∈l,lw t):∃ w,da l=some (some w)∧WP w ([(1,1),(1,2)]++(kR mL mD l++[kt mL 256])):=by
 obtain ⟨w1,p1,q1⟩:=mn 1 (by omega)
 obtain ⟨w2,p2,q2⟩:=nU zM Ag (by decide) (by decide) hl ht q1 (by simp [cE])
 refine ⟨w2,?_,q2⟩
 unfold da
 exact ai p1 (Ik (ai yo (ai (jH zM) (ai (jH Ag) (ai p2 rfl)))))
def zk (b:List Int):List (Nat×Nat):=b.map fun x=>(x.toNat,8)
theorem Hj (b:List Int):cE (zk b)=8 * b.length:=by
 induction b with
 | nil=>rfl
 | cons x b ih =>
  have:cE (zk (x::b))=8+cE (zk b):=by simp [cE,zk]
  rw [this,ih,List.length_cons]; omega
theorem Au {b:List Int} (hb:∀ n∈b,0≤n∧n<256) (hl:b.length≤5000):∀ (k i fuel:Nat) (w:af) (ps:List (Nat×Nat)),i+k=b.length→k<fuel→WP w ps→cE ps+8 * k≤900000 →
  ∃ w',aG (Lu b) fuel (w.b,w.n,(i:Int))=some (.inl (w'.b,w'.n))∧WP w' (ps++zk (b.drop i))
 | 0,i,fuel,w,ps,hk,hf,h,hN=>by
  obtain ⟨fu,rfl⟩:∃ fu,fuel=fu+1:=⟨fuel-1,by omega⟩
  rw [List.drop_eq_nil_of_le (by omega)]
  exact ⟨w,aV (ao (decide_eq_false (by omega)) rfl),by simpa [zk] using h⟩
 | k+1,i,fuel,w,ps,hk,hf,h,hN=>by
  obtain ⟨fu,rfl⟩:∃ fu,fuel=fu+1:=⟨fuel-1,by omega⟩
  have hi:i<b.length:=by omega
  have hx:=hb _ (List.getElem_mem hi)
  obtain ⟨w1,p1,q1⟩:=h.puts (v:=b[i]) (n:=8) b[i].toNat 8 (by omega) rfl (by omega) (by omega) (by omega)
  obtain ⟨w2,p2,q2⟩:=Au hb hl k (i+1) fu w1 (ps++[(b[i].toNat,8)]) (by omega) (by omega) q1 (by rw [bJ]; simp [cE]; simp [cE] at hN; omega)
  refine ⟨w2,(bh (am (decide_eq_true (by omega)) (ai (aA hi) (ai (bW hi) (ai (congrArg some (wrap_i64 (by omega) (by omega))) (ai p1 (ai (congrArg some (aI (n:=i) (by omega))) rfl))))))).trans p2,?_⟩
  rw [List.drop_eq_getElem_cons hi]
  have e:zk (b[i]::b.drop (i+1))=[(b[i].toNat,8)]++zk (b.drop (i+1)):=rfl
  rw [e,← List.append_assoc]; exact q2
theorem Ji (n:Nat) (h:n<65536):bits .xor .i64 (n:Int) 65535=((65535-n:Nat):Int):=by
 have e:(BitVec.ofInt 64 (n:Int) ^^^ BitVec.ofInt 64 65535).toNat=65535-n:=by
  rw [BitVec.toNat_xor,show (65535:Int)=((65535:Nat):Int) from rfl,BitVec.ofInt_natCast,BitVec.ofInt_natCast,BitVec.toNat_ofNat,BitVec.toNat_ofNat,Nat.mod_eq_of_lt (by omega),Nat.mod_eq_of_lt (by omega)]
  refine Nat.eq_of_testBit_eq fun i => ?_
  rw [Nat.testBit_xor]
  have h1:=Nat.testBit_two_pow_sub_succ (x:=n) (n:=16) (by omega) i
  rw [show 2 ^ 16-(n+1)=65535-n by omega] at h1
  have h2:(65535:Nat).testBit i=decide (i<16):=by rw [show (65535:Nat)=2 ^ 16-1 from rfl,Nat.testBit_two_pow_sub_one]
  rw [h1,h2]
  by_cases hi:i<16
  ·simp [hi]
  ·have:n.testBit i=false:=Nat.testBit_lt_two_pow (Nat.lt_of_lt_of_le h (show (65536:Nat)≤2 ^ i from Nat.pow_le_pow_right (show 0<2 by omega) (show 16≤i by omega)))
   simp [hi,this]
 show IntKind.i64.wrap ((BitVec.ofInt 64 (n:Int) ^^^ BitVec.ofInt 64 65535).toNat:Int)=_
 rw [e]
 exact wrap_i64 (by omega) (by omega)
theorem Fz {w:af} {ps:List (Nat×Nat)} (h:WP w ps):WP ⟨w.b,((8 * w.b.length:Nat):Int)⟩ (ps++[(0,8 * w.b.length-cE ps)]):=by
 have hl:=h.good.len
 have hw:cE (ps++[(0,8 * w.b.length-cE ps)])=8 * w.b.length:=by rw [bJ]; simp [cE]; simp [cE] at hl; omega
 exact ⟨by rw [hw],by rw [hw]; exact ⟨by show w.b.length=_; omega,h.good.bytes,fun q hq=>h.good.zero q (by omega)⟩,(tR _ _ _ _).2 ⟨h.sp,fun t ht=>by rw [Nat.zero_testBit]; exact h.good.zero _ (by omega),trivial⟩⟩
theorem qL {b:List Int} (hb:∀ n∈b,0≤n∧n<256) (hl:b.length≤5000):∃ w,cS b=some (some w)∧WP w ([(1,1),(0,2),(0,5),(b.length,16),(65535-b.length,16)]++zk b):=by
 obtain ⟨w1,p1,q1⟩:=mn 0 (by omega)
 have l1:w1.b.length=1:=by rw [q1.good.len]; simp [cE]
 have q1':=Fz q1
 rw [l1,show cE [(1,1),(0,2)]=3 from rfl] at q1'
 obtain ⟨w2,p2,q2⟩:=q1'.puts (v:=(b.length:Int)) (n:=16) b.length 16 rfl rfl (by omega) (by omega) (by simp [cE])
 obtain ⟨w3,p3,q3⟩:=q2.puts (v:=((65535-b.length:Nat):Int)) (n:=16) (65535-b.length) 16 rfl rfl (by omega) (by omega) (by simp [cE])
 obtain ⟨w4,p4,q4⟩:=Au hb hl b.length 0 bD w3 _ (by omega) (by simp only [bD]; omega) q3 (by simp [cE]; omega)
 refine ⟨w4,?_,by rw [List.drop_zero] at q4; simpa using q4⟩
 unfold cS
 refine ai p1 (Ik ?_)
 have hw8:IntKind.i64.wrap (8 * (w1.b.length:Int))=((8 * 1:Nat):Int):=by rw [l1]; exact wrap_i64 (by omega) (by omega)
 exact ai (congrArg some hw8) (ai p2 (ai (congrArg some (Ji b.length (by omega))) (ai p3 (aK p4 rfl))))
theorem km {b:List Int} (hb:∀ n∈b,0≤n∧n<256):∀ t∈fB b,lw t:=by
 have key:∀ (k at_:Nat),∀ t∈lC b k at_,lw t:=by
  intro k
  induction k with
  | zero=>intro at_ t ht; simp [lC] at ht
  | succ k ih =>
   intro at_ t ht
   unfold lC at ht
   split at ht
   ·rename_i hlt
    split at ht
    ·rcases List.mem_cons.1 ht with rfl | h
     ·have:=hb _ (List.getElem_mem hlt)
      exact ⟨by rw [List.getD_eq_getElem?_getD,List.getElem?_eq_getElem hlt,Option.getD_some]; exact this,.inl rfl⟩
     ·exact ih _ t h
    ·rename_i h0
     rcases List.mem_cons.1 ht with rfl | h
     ·rcases jO b at_ with hc | ⟨c1,c2,c3,c4,c5,c6⟩
      ·rw [hc] at h0; exact absurd rfl h0
      ·exact ⟨⟨Int.le_refl 0,show (0:Int)<256 by decide⟩,.inr ⟨by show (3:Int)≤((bN b at_).1:Int); omega,by show ((bN b at_).1:Int)≤258; omega,by show (1:Int)≤((bN b at_).2:Int); omega,by show ((bN b at_).2:Int)≤2048; omega⟩⟩
     ·exact ih _ t h
   ·simp at ht
 intro t ht
 exact key _ _ t ht
set_option maxRecDepth 100000
def KS (l:List al):(((List Int)×(List Int)×Int))→Option (((List Int)×(List Int)×Int)⊕(((List Int)×(List Int))⊕((List Int)×(List Int)×Int))):=(fun ((s46,s47,s48):(List Int)×(List Int)×Int) =>
 cond ((decide (s48<(l.length:Int))))
  (aq (S:=(List Int)×(List Int)) (A:=(((List Int)×(List Int)×Int)⊕(((List Int)×(List Int))⊕((List Int)×(List Int)×Int))))
   ((bf s48 l.length).bind fun v8 =>
   (aB l v8).bind fun v9 =>
   cond ((v9.LI==0))
    ((bf v9.LG s46.length).bind fun v11 =>
    (aB s46 v11).bind fun v12 =>
    (some (IntKind.i64.wrap (v12+1))).bind fun v13 =>
    (bf v9.LG s46.length).bind fun v14 =>
    (some (s46.set v14 v13)).bind fun v15 =>
    some (.inl (v15,s47)))
    ((fy v9.LI).bind fun v16 =>
    (eP v9.LH).bind fun v17 =>
    (bf v16.1 s46.length).bind fun v18 =>
    (aB s46 v18).bind fun v19 =>
    (some (IntKind.i64.wrap (v19+1))).bind fun v20 =>
    (bf v16.1 s46.length).bind fun v21 =>
    (some (s46.set v21 v20)).bind fun v22 =>
    (bf v17.1 s47.length).bind fun v23 =>
    (aB s47 v23).bind fun v24 =>
    (some (IntKind.i64.wrap (v24+1))).bind fun v25 =>
    (bf v17.1 s47.length).bind fun v26 =>
    (some (s47.set v26 v25)).bind fun v27 =>
    some (.inl (v22,v27))))
   (fun ((s67,s68):(List Int)×(List Int)) =>
    (some (IntKind.i64.wrap (s48+1))).bind fun v34 =>
    some (.inl (s67,s68,v34))) some)
  (some (.inr (.inl (s46,s47)))))
def tK (a:List Nat) (s:Nat):List Nat:=a.set s (a.getD s 0+1)
theorem mJ (a:List Nat) (s:Nat):(tK a s).length=a.length:=by simp [tK]
theorem pn {a:List Nat} {s c:Nat} (h:∀ x∈a,x≤c):∀ x∈tK a s,x≤c+1:=by
 intro x hx
 rcases List.mem_or_eq_of_mem_set hx with k | k
 ·have:=h x k; omega
 ·rw [k]
  have:a.getD s 0≤c:=by
   rw [List.getD_eq_getElem?_getD]
   cases hj:a[s]? with
   | none=>simp
   | some y=>simpa using h y (List.mem_of_getElem? hj)
  omega
theorem jt {a:List Nat} {s:Nat} {x:Int} (hx:x=(s:Int)) (hs:s<a.length):bf x (ints a).length=some s∧aB (ints a) s=some ((a.getD s 0:Nat):Int):=by
 subst hx
 refine ⟨aA (by rw [aD]; exact hs),?_⟩
 rw [cK hs,List.getD_eq_getElem?_getD,List.getElem?_eq_getElem hs,Option.getD_some]
theorem gY (a:List Nat) (s v:Nat):(ints a).set s (v:Int)=ints (a.set s v):=by
 simp [ints,List.map_set]
def vH (x:List Nat×List Nat) (t:al):List Nat×List Nat :=
 if t.LI=0 then (tK x.1 t.LG.toNat,x.2) else (tK x.1 (ii t.LI.toNat).1,tK x.2 (kZ t.LH.toNat).1)
def qJ:List Nat×List Nat:=((List.replicate 286 0).set 256 1,List.replicate 30 0)
def Bb (l:List al):List Nat×List Nat:=l.foldl vH qJ
structure EB (x:List Nat×List Nat) (c:Nat):Prop where
 la:x.1.length=286
 ld:x.2.length=30
 ba:∀ y∈x.1,y≤c
 bd:∀ y∈x.2,y≤c
theorem rA {x:List Nat×List Nat} {c:Nat} (h:EB x c) (t:al):EB (vH x t) (c+1):=by
 unfold vH
 split
 ·exact ⟨by rw [mJ]; exact h.la,h.ld,pn h.ba,fun y hy=>Nat.le_succ_of_le (h.bd y hy)⟩
 ·exact ⟨by rw [mJ]; exact h.la,by rw [mJ]; exact h.ld,pn h.ba,pn h.bd⟩
theorem vq:∀ (l:List al) (x:List Nat×List Nat) (c:Nat),EB x c→EB (l.foldl vH x) (c+l.length)
 | [],x,c,h=>h
 | t::l,x,c,h=>by
  have:=vq l (vH x t) (c+1) (rA h t)
  rw [List.length_cons,show c+(l.length+1)=c+1+l.length by omega]
  exact this
theorem Hu:EB qJ 1:=⟨by simp [qJ],by simp [qJ],of_decide_eq_true (by kernel_rfl),of_decide_eq_true (by kernel_rfl)⟩
theorem FG {l:List al} {i:Nat} (hi:i<l.length) (hil:l.length≤5000) (ht:lw l[i]) {x:List Nat×List Nat} {c:Nat} (h:EB x c) (hc:c≤1000000) :
  KS l (ints x.1,ints x.2,(i:Int))=some (.inl (ints (vH x l[i]).1,ints (vH x l[i]).2,((i+1:Nat):Int))):=by
 have hg:=bW hi
 have hw:=aI (n:=i) (by omega)
 have hgd:∀ (a:List Nat) (s:Nat),(∀ y∈a,y≤c)→a.getD s 0≤c:=fun a s ha=>by
  rw [List.getD_eq_getElem?_getD]
  cases hj:a[s]? with
  | none=>simp
  | some y=>simpa using ha y (List.mem_of_getElem? hj)
 unfold vH
 by_cases h0:l[i].LI=0
 ·rw [if_pos h0]
  have hs:l[i].LG.toNat<x.1.length:=by rw [h.la]; have:=ht.1; omega
  obtain ⟨i1,i2⟩:=jt (a:=x.1) (x:=l[i].LG) (s:=l[i].LG.toNat) (by have:=ht.1; omega) hs
  have:=hgd x.1 l[i].LG.toNat h.ba
  exact am (decide_eq_true (by omega)) (aK (s:=(ints (tK x.1 l[i].LG.toNat),ints x.2)) (ai (aA hi) (ai hg (am (beq_iff_eq.2 h0) (ai i1 (ai i2 (ai (congrArg some (aI (n:=x.1.getD l[i].LG.toNat 0) (by omega))) (ai i1 (ai (congrArg some (gY x.1 l[i].LG.toNat _)) rfl)))))))) (ai (congrArg some hw) rfl))
 ·rw [if_neg h0]
  rcases ht.2 with h1 | ⟨h1,h2,h3,h4⟩
  ·exact absurd h1 h0
  obtain ⟨l1,l2,l3,l4,l5⟩:=wY (n:=l[i].LI.toNat) (by omega) (by omega)
  obtain ⟨d1,d2,d3,d4⟩:=wT (n:=l[i].LH.toNat) (by omega) (by omega)
  rw [show ((l[i].LI.toNat:Nat):Int)=l[i].LI by omega] at l1
  rw [show ((l[i].LH.toNat:Nat):Int)=l[i].LH by omega] at d1
  obtain ⟨i1,i2⟩:=jt (a:=x.1) (s:=(ii l[i].LI.toNat).1) rfl (by rw [h.la]; omega)
  obtain ⟨j1,j2⟩:=jt (a:=x.2) (s:=(kZ l[i].LH.toNat).1) rfl (by rw [h.ld]; omega)
  have q1:=hgd x.1 (ii l[i].LI.toNat).1 h.ba
  have q2:=hgd x.2 (kZ l[i].LH.toNat).1 h.bd
  exact am (decide_eq_true (by omega)) (aK (s:=(ints (tK x.1 (ii l[i].LI.toNat).1),ints (tK x.2 (kZ l[i].LH.toNat).1))) (ai (aA hi) (ai hg (ao (beq_eq_false_iff_ne.2 h0) (ai l1 (ai d1 (ai i1 (ai i2 (ai (congrArg some (aI (n:=x.1.getD (ii l[i].LI.toNat).1 0) (by omega))) (ai i1 (ai (congrArg some (gY x.1 _ _)) (ai j1 (ai j2 (ai (congrArg some (aI (n:=x.2.getD (kZ l[i].LH.toNat).1 0) (by omega))) (ai j1 (ai (congrArg some (gY x.2 _ _)) rfl))))))))))))))) (ai (congrArg some hw) rfl))
theorem Ak {l:List al} (hil:l.length≤5000) (ht:∀ t∈l,lw t):∀ (k i fuel:Nat) (x:List Nat×List Nat) (c:Nat),i+k=l.length→k<fuel→EB x c→c+k≤900000 →
  aG (KS l) fuel (ints x.1,ints x.2,(i:Int))=some (.inl (ints ((l.drop i).foldl vH x).1,ints ((l.drop i).foldl vH x).2))
 | 0,i,fuel,x,c,hk,hf,h,hc=>by
  obtain ⟨fu,rfl⟩:∃ fu,fuel=fu+1:=⟨fuel-1,by omega⟩
  rw [List.drop_eq_nil_of_le (by omega)]
  exact aV (ao (decide_eq_false (by omega)) rfl)
 | k+1,i,fuel,x,c,hk,hf,h,hc=>by
  obtain ⟨fu,rfl⟩:∃ fu,fuel=fu+1:=⟨fuel-1,by omega⟩
  have hi:i<l.length:=by omega
  rw [List.drop_eq_getElem_cons hi,List.foldl_cons]
  exact (bh (FG hi hil (ht _ (List.getElem_mem hi)) h (by omega))).trans (Ak hil ht k (i+1) fu (vH x l[i]) (c+1) (by omega) (by omega) (rA h _) (by omega))
theorem xu {l:List al} (hil:l.length≤5000) (ht:∀ t∈l,lw t) (hck:eV l=some 0):iQ l=some (ints (Bb l).1,ints (Bb l).2,0):=by
 have m1:pr 8 286 (0:Int)=some (List.replicate 286 0):=by kernel_rfl
 have m2:pr 8 30 (0:Int)=some (List.replicate 30 0):=by kernel_rfl
 have hx:bf 256 (List.replicate 286 (0:Int)).length=some 256:=by rw [List.length_replicate]; rfl
 have e1:(List.replicate 286 (0:Int)).set 256 1=ints qJ.1:=by kernel_rfl
 have e2:List.replicate 30 (0:Int)=ints qJ.2:=by kernel_rfl
 have hlp:=Ak hil ht l.length 0 bD qJ 1 (by omega) (by simp only [bD]; omega) Hu (by omega)
 rw [List.drop_zero,← e1,← e2] at hlp
 unfold iQ
 exact ai hck (ao rfl (ai m1 (ai m2 (ai hx (ai rfl (aK hlp rfl))))))
theorem GQ (l:List al):EB (Bb l) (1+l.length):=vq l qJ 1 Hu
def used (x:List Nat×List Nat) (t:al):Prop:=if t.LI=0 then 0<x.1.getD t.LG.toNat 0 else 0<x.1.getD (ii t.LI.toNat).1 0∧0<x.2.getD (kZ t.LH.toNat).1 0
theorem uQ (w:List Nat) (j:Nat):(ints w).getD j 0=((w.getD j 0:Nat):Int):=by
 simp only [ints,List.getD_eq_getElem?_getD,List.getElem?_map]
 cases w[j]? <;> simp
end Go.Abs.Sh
