import Derived.Test.YthceldoojddpiaaDoorLawM
import Derived.Test.YthceldoojddpiaaDoorLoopM
import Derived.Test.YthceldoojddpiaaDoorKeepM
import Derived.KernelRfl
namespace Go.Abs.Sh
set_option linter.unusedVariables false
set_option linter.unusedSimpArgs false
set_option maxRecDepth 10000
theorem wrap_u8' (n:Int):IntKind.u8.wrap n=n % 256:=by
 simp only [IntKind.wrap,IntKind.bits,IntKind.signed]
 have e:(2:Int) ^ 8=256:=by decide
 simp [e]
theorem ofInt8 (a:Nat) (ha:a<256):(BitVec.ofInt 8 (a:Int)).toNat=a:=by
 rw [BitVec.ofInt_natCast,BitVec.toNat_ofNat]; exact Nat.mod_eq_of_lt (by omega)
theorem ofInt64 (a:Nat) (ha:a<9223372036854775808):(BitVec.ofInt 64 (a:Int)).toNat=a:=by
 rw [BitVec.ofInt_natCast,BitVec.toNat_ofNat]; exact Nat.mod_eq_of_lt (by omega)
theorem and1_u8 (a:Nat) (ha:a<256):bits .and .u8 (a:Int) 1=((a % 2:Nat):Int):=by
 show IntKind.u8.wrap ((BitVec.ofInt 8 (a:Int) &&& BitVec.ofInt 8 ((1:Nat):Int)).toNat:Int)=_
 rw [BitVec.toNat_and,ofInt8 a ha,ofInt8 1 (by omega),wrap_u8',Nat.and_one_is_mod]; omega
theorem shr_nat (k:IntKind) (a m:Nat) (hm:m≤k.bits):shrO k (a:Int) (m:Int)=some ((a / 2 ^ m:Nat):Int):=by
 simp only [shrO]
 rw [if_pos (by omega),Int.toNat_natCast,Nat.min_eq_left hm]
 have:(0:Int)≤2 ^ m:=Int.pow_nonneg (by omega)
 rw [Int.fdiv_eq_ediv_of_nonneg _ this]
 congr 1
def ints (m:List Nat):List Int:=m.map fun n:Nat=>(n:Int)
theorem ints_len (m:List Nat):(ints m).length=m.length:=by simp [ints]
theorem ints_get {m:List Nat} {i:Nat} (h:i<m.length):getO (ints m) i=some ((m[i]:Nat):Int):=by simp [getO,ints,h]
theorem ints_set (m:List Nat) (i v:Nat) (h:i<m.length):setO (ints m) i (v:Int)=some (ints (m.set i v)):=by
 simp only [setO,ints,List.length_map]
 rw [if_pos h,List.map_set]
def tal (m:List Nat):List Nat:=(List.range 16).map fun n=>if n=0 then 0 else m.count n
theorem tal_len (m:List Nat):(tal m).length=16:=by simp [tal]
theorem tal_at (m:List Nat) {n:Nat} (h:n<(tal m).length):(tal m)[n]=if n=0 then 0 else m.count n:=by simp [tal]
theorem tal_get (m:List Nat) {n:Nat} (h:n<16) (h0:0<n):getO (ints (tal m)) n=some ((m.count n:Nat):Int):=by
 have hl:n<(tal m).length:=by rw [tal_len]; exact h
 rw [ints_get hl,tal_at]; rw [if_neg (by omega)]
theorem tal_snoc (m:List Nat) (x:Nat) (hx:x≤15) (h0:0<x):tal (m++[x])=(tal m).set x (m.count x+1):=by
 apply List.ext_getElem
 ·simp [tal]
 ·intro i h1 h2
  have hi:i<16:=by rw [tal_len] at h1; exact h1
  rw [List.getElem_set,tal_at]
  by_cases hix:x=i
  ·subst hix; rw [if_neg (by omega),if_pos rfl,List.count_append]; simp
  ·rw [if_neg hix,tal_at,List.count_append]
   have:List.count i [x]=0:=by simp [List.count_cons,hix]
   rw [this]; rfl
theorem tal_snoc0 (m:List Nat):tal (m++[0])=tal m:=by
 apply List.ext_getElem
 ·simp [tal]
 ·intro i h1 h2
  rw [tal_at,tal_at,List.count_append]
  by_cases h:i=0
  ·simp [h]
  ·have:List.count i [0]=0:=by simp [List.count_cons]; omega
   rw [this]; rfl
theorem valid_eq (l:List Int):canon_valid l=some (decide (l.length≤300∧∀ n∈l,0≤n∧n≤15)):=by
 unfold canon_valid
 by_cases l1:300<l.length
 ·refine cnd_t (by simp; omega) ?_
  rw [decide_eq_false (by omega)]
 refine cnd_f (by simp; omega) ?_
 have key:∀ (k fuel i:Nat),l.length-i=k→i≤l.length→k<fuel →
   loopF (S:=(Int)) (O:=(Unit)⊕Bool) (fun (s18:Int) =>
    cond ((decide (s18<(l.length:Int))))
     ((ixO s18 l.length).bind fun v3 =>
     (getO l v3).bind fun v4 =>
     bindS (S:=Bool) (A:=((Int)⊕((Unit)⊕Bool)))
      (cond ((decide (v4<0)))
       (some (.inl true))
       (some (.inl ((decide (15<v4))))))
      (fun (s32:Bool) =>
       cond (s32)
        (some (.inr (.inr (false))))
        ((some (IntKind.i64.wrap (s18+1))).bind fun v10 =>
        some (.inl v10))) some)
     (some (.inr (.inl ())))) fuel (i:Int)=some (if ∀ n∈l.drop i,0≤n∧n≤15 then .inl () else .inr false):=by
  intro k
  induction k with
  | zero =>
   intro fuel i hk hi hf
   obtain ⟨f,rfl⟩:∃ f,fuel=f+1:=⟨fuel-1,by omega⟩
   have:i=l.length:=by omega
   subst this
   refine loop_exit (cnd_f (by simp) ?_)
   rw [if_pos (by simp)]
  | succ k ih =>
   intro fuel i hk hi hf
   obtain ⟨f,rfl⟩:∃ f,fuel=f+1:=⟨fuel-1,by omega⟩
   have hlt:i<l.length:=by omega
   have hw:IntKind.i64.wrap ((i:Int)+1)=((i+1:Nat):Int):=by rw [wrap_i64 (by omega) (by omega)]; simp
   have hdr:l.drop i=l[i]::l.drop (i+1):=List.drop_eq_getElem_cons hlt
   by_cases hv:0≤l[i]∧l[i]≤15
   ·refine (loop_next (cnd_t (by simp; omega) (bnd (ixO_of hlt) (bnd (getO_of hlt) (bndL (s:=false) (cnd_f (by simp; omega) (by rw [decide_eq_false (by omega)])) (cnd_f rfl (bnd (x:=((i+1:Nat):Int)) (by rw [hw]) rfl))))))).trans ?_
    rw [ih f (i+1) (by omega) (by omega) (by omega),hdr]
    simp only [List.mem_cons,forall_eq_or_imp,hv,true_and,and_self]
   ·refine loop_exit (cnd_t (by simp; omega) (bnd (ixO_of hlt) (bnd (getO_of hlt) (bndL (s:=true) ?_ (cnd_t rfl ?_)))))
    ·by_cases h0:l[i]<0
     ·exact cnd_t (by simp [h0]) rfl
     ·exact cnd_f (by simp; omega) (by rw [decide_eq_true (by omega)])
    ·rw [hdr,if_neg (fun h=>hv (h l[i] (List.mem_cons_self)))]
 have:=key l.length BIG 0 (by omega) (Nat.zero_le _) (by unfold BIG; omega)
 rw [List.drop_zero] at this
 by_cases hv:∀ n∈l,0≤n∧n≤15
 ·rw [if_pos hv] at this
  refine bndL (s:=()) this ?_
  rw [decide_eq_true ⟨by omega,hv⟩]
 ·rw [if_neg hv] at this
  refine bndR (a:=false) this ?_
  rw [decide_eq_false (fun h=>hv h.2)]
theorem count_eq (m:List Nat) (hm:∀ x∈m,x≤15) (hl:m.length≤1000):canon_count (ints m)=some (ints (tal m)):=by
 unfold canon_count
 have key:∀ (k fuel i:Nat),m.length-i=k→i≤m.length→k<fuel →
  loopF (S:=((List Int)×Int)) (O:=((List Int))⊕(List Int)) (fun ((s25,s26):(List Int)×Int) =>
   cond ((decide (s26<((ints m).length:Int))))
    (bindS (S:=(List Int)) (A:=(((List Int)×Int)⊕(((List Int))⊕(List Int))))
     ((ixO s26 (ints m).length).bind fun v2 =>
     (getO (ints m) v2).bind fun v3 =>
     cond ((decide (0<v3)))
      ((ixO v3 16).bind fun v5 =>
      (getO s25 v5).bind fun v6 =>
      (some (IntKind.i64.wrap (v6+1))).bind fun v7 =>
      (ixO v3 16).bind fun v8 =>
      (setO s25 v8 v7).bind fun v9 =>
      some (.inl v9))
      (some (.inl s25)))
     (fun (s43:(List Int)) =>
      (some (IntKind.i64.wrap (s26+1))).bind fun v15 =>
      some (.inl (s43,v15))) some)
    (some (.inr (.inl s25)))) fuel (ints (tal (m.take i)),(i:Int))=some (.inl (ints (tal m))):=by
  intro k
  induction k with
  | zero =>
   intro fuel i hk hi hf
   obtain ⟨f,rfl⟩:∃ f,fuel=f+1:=⟨fuel-1,by omega⟩
   have:i=m.length:=by omega
   subst this
   refine loop_exit (cnd_f (by simp [ints_len]) ?_)
   rw [List.take_length]
  | succ k ih =>
   intro fuel i hk hi hf
   obtain ⟨f,rfl⟩:∃ f,fuel=f+1:=⟨fuel-1,by omega⟩
   have hlt:i<m.length:=by omega
   have hlt':i<(ints m).length:=by rw [ints_len]; exact hlt
   have hw:IntKind.i64.wrap ((i:Int)+1)=((i+1:Nat):Int):=by rw [wrap_i64 (by omega) (by omega)]; simp
   have hx:=hm m[i] (List.getElem_mem hlt)
   have htk:m.take (i+1)=m.take i++[m[i]]:=by rw [List.take_add_one]; simp [hlt]
   have ih':=ih f (i+1) (by omega) (by omega) (by omega)
   refine (loop_next (s':=(ints (tal (m.take (i+1))),((i+1:Nat):Int))) (cnd_t (by simp; omega) (bndL (s:=ints (tal (m.take (i+1)))) (bnd (ixO_of hlt') (bnd (ints_get hlt) ?_)) (bnd (x:=((i+1:Nat):Int)) (by rw [hw]) rfl)))).trans ih'
   by_cases h0:0<m[i]
   ·have hc:(m.take i).count m[i]≤m.length:=Nat.le_trans (List.count_le_length) (by simp; omega)
    have hw2:IntKind.i64.wrap ((((m.take i).count m[i]:Nat):Int)+1)=(((m.take i).count m[i]+1:Nat):Int):=by rw [wrap_i64 (by omega) (by omega)]; simp
    have h16:m[i]<16:=by omega
    refine cnd_t (by simp; omega) (bnd (ixO_of h16) (bnd (tal_get _ h16 h0) (bnd (x:=(((m.take i).count m[i]+1:Nat):Int)) (by rw [hw2]) (bnd (ixO_of h16) (bnd (ints_set _ _ _ (by rw [tal_len]; exact h16)) ?_)))))
    rw [htk,tal_snoc _ _ hx h0]
   ·refine cnd_f (by simp; omega) ?_
    have:m[i]=0:=by omega
    rw [htk,this,tal_snoc0]
 have h0:ints (tal (m.take 0))=List.replicate 16 (0:Int):=by rw [List.take_zero]; decide
 have:=key m.length BIG 0 (by omega) (Nat.zero_le _) (by unfold BIG; omega)
 rw [h0] at this
 have l16:lnO 16 (ints (tal m))=some (ints (tal m)):=by simp [lnO,ints_len,tal_len]
 have l0:lnO 16 (List.replicate 16 (0:Int))=some (List.replicate 16 (0:Int)):=by decide
 exact bndL this (bnd l16 (bnd l0 (bnd l16 (bnd l16 rfl))))
def ws (m:List Nat):Nat→Nat
 | 0=>0
 | k+1=>ws m k+m.count (k+1) * 2 ^ (15-(k+1))
theorem ws_mono (m:List Nat) {a b:Nat} (h:a≤b):ws m a≤ws m b:=by
 induction b with
 | zero =>
  have:a=0:=by omega
  subst this; exact Nat.le_refl _
 | succ b ih =>
  rcases Nat.lt_or_ge a (b+1) with h1 | h1
  ·exact Nat.le_trans (ih (by omega)) (Nat.le_add_right _ _)
  ·have:a=b+1:=by omega
   subst this; exact Nat.le_refl _
theorem ws_le (m:List Nat) (k:Nat):ws m k≤k * (m.length * 32768):=by
 induction k with
 | zero=>simp [ws]
 | succ k ih =>
  have h1:m.count (k+1)≤m.length:=List.count_le_length
  have h2:2 ^ (15-(k+1))≤2 ^ 15:=Nat.pow_le_pow_right (by omega) (by omega)
  have h3:=Nat.mul_le_mul h1 h2
  have e:(2:Nat) ^ 15=32768:=by decide
  rw [e] at h3
  rw [ws,Nat.add_mul]
  omega
theorem shl_nat (a k:Nat) (hk:k≤64) (h:a * 2 ^ k<9223372036854775808):shlO .i64 (a:Int) (k:Int)=some ((a * 2 ^ k:Nat):Int):=by
 simp only [shlO,IntKind.bits]
 rw [if_pos (by omega),Int.toNat_natCast,Nat.min_eq_left hk]
 have e:(a:Int) * 2 ^ k=((a * 2 ^ k:Nat):Int):=by push_cast; rfl
 rw [e]
 generalize a * 2 ^ k=y at *
 rw [wrap_i64 (by omega) (by omega)]
theorem weight_eq (m:List Nat) (hl:m.length≤1000):canon_tally_weight (ints (tal m))=some ((ws m 15:Nat):Int):=by
 unfold canon_tally_weight
 have l16:lnO 16 (ints (tal m))=some (ints (tal m)):=by simp [lnO,ints_len,tal_len]
 have key:∀ (k fuel i w:Nat),16-i=k→i≤16→k<fuel→w=ws m (i-1) →
  loopF (S:=(Int×Int)) (O:=(Int)⊕Int) (fun ((s12,s13):Int×Int) =>
   cond ((decide (s13<16)))
    ((ixO s13 16).bind fun v3 =>
    (getO (ints (tal m)) v3).bind fun v4 =>
    (some (IntKind.i64.wrap (15-s13))).bind fun v5 =>
    (shlO .i64 v4 v5).bind fun v6 =>
    (some (IntKind.i64.wrap (s12+v6))).bind fun v7 =>
    (some (IntKind.i64.wrap (s13+1))).bind fun v8 =>
    some (.inl (v7,v8)))
    (some (.inr (.inl s12)))) fuel ((w:Int),(i:Int))=some (.inl ((ws m 15:Nat):Int)):=by
  intro k
  induction k with
  | zero =>
   intro fuel i w hk hi hf hw
   obtain ⟨f,rfl⟩:∃ f,fuel=f+1:=⟨fuel-1,by omega⟩
   have:i=16:=by omega
   subst this
   subst hw
   exact loop_exit (cnd_f (by simp) rfl)
  | succ k ih =>
   intro fuel i w hk hi hf hw
   obtain ⟨f,rfl⟩:∃ f,fuel=f+1:=⟨fuel-1,by omega⟩
   have h16:i<16:=by omega
   have hti:i<(tal m).length:=by rw [tal_len]; exact h16
   have w1:IntKind.i64.wrap (15-(i:Int))=((15-i:Nat):Int):=by rw [wrap_i64 (by omega) (by omega)]; omega
   have w2:IntKind.i64.wrap ((i:Int)+1)=((i+1:Nat):Int):=by rw [wrap_i64 (by omega) (by omega)]; simp
   have hc:(tal m)[i]≤m.length:=by
    rw [tal_at]; split
    ·omega
    ·exact List.count_le_length
   have h2:2 ^ (15-i)≤2 ^ 15:=Nat.pow_le_pow_right (by omega) (by omega)
   have h3:=Nat.mul_le_mul hc h2
   have e:(2:Nat) ^ 15=32768:=by decide
   rw [e] at h3
   have h4:m.length * 32768≤1000 * 32768:=Nat.mul_le_mul_right _ hl
   have hwl:=ws_le m (i-1)
   have hwl2:(i-1) * (m.length * 32768)≤16 * (1000 * 32768):=Nat.mul_le_mul (by omega) h4
   have hs:w+(tal m)[i] * 2 ^ (15-i)=ws m (i+1-1):=by
    rw [hw,tal_at]
    cases i with
    | zero=>simp [ws]
    | succ i=>rw [if_neg (by omega)]; simp [ws]
   have hsh:=shl_nat (tal m)[i] (15-i) (by omega) (by omega)
   have w3:IntKind.i64.wrap ((w:Int)+(((tal m)[i] * 2 ^ (15-i):Nat):Int))=((ws m (i+1-1):Nat):Int):=by
    rw [← hs]
    generalize (tal m)[i] * 2 ^ (15-i)=y at *
    rw [wrap_i64 (by omega) (by omega)]; simp
   refine (loop_next (cnd_t (by simp; omega) (bnd (ixO_of h16) (bnd (ints_get hti) (bnd (x:=((15-i:Nat):Int)) (by rw [w1]) (bnd hsh (bnd (x:=((ws m (i+1-1):Nat):Int)) (by rw [w3]) (bnd (x:=((i+1:Nat):Int)) (by rw [w2]) rfl)))))))).trans ?_
   exact ih f (i+1) _ (by omega) (by omega) (by omega) rfl
 exact bnd l16 (bndL (key 16 BIG 0 0 rfl (by omega) (by unfold BIG; omega) rfl) rfl)
def forms (m:List Nat):Bool:=decide (ints (tal m)=List.replicate 16 0)||decide (ints (tal m)=0::1::List.replicate 14 0)||decide (ws m 15=32768)
theorem forms_eq (m:List Nat) (hl:m.length≤1000):canon_forms (ints (tal m))=some (forms m):=by
 unfold canon_forms
 have l16:lnO 16 (ints (tal m))=some (ints (tal m)):=by simp [lnO,ints_len,tal_len]
 have l0:lnO 16 (List.replicate 16 (0:Int))=some (List.replicate 16 (0:Int)):=by decide
 refine bnd l0 (bnd rfl ?_)
 have e1:([(0:Int),(0:Int),(0:Int),(0:Int),(0:Int),(0:Int),(0:Int),(0:Int),(0:Int),(0:Int),(0:Int),(0:Int),(0:Int),(0:Int),(0:Int),(0:Int)]:List Int)=List.replicate 16 0:=rfl
 have e2:([(0:Int),1,(0:Int),(0:Int),(0:Int),(0:Int),(0:Int),(0:Int),(0:Int),(0:Int),(0:Int),(0:Int),(0:Int),(0:Int),(0:Int),(0:Int)]:List Int)=0::1::List.replicate 14 0:=rfl
 refine bndL (s:=forms m) (bnd l16 (bnd l16 (bnd rfl ?_))) rfl
 rw [e1]
 by_cases h1:ints (tal m)=List.replicate 16 0
 ·exact cnd_t (by rw [h1]; rfl) (by rw [forms,decide_eq_true h1]; rfl)
 refine cnd_f (by rw [beq_eq_false_iff_ne]; exact h1) (bnd l16 (bnd rfl (bnd l16 (bnd rfl ?_))))
 rw [e2]
 by_cases h2:ints (tal m)=0::1::List.replicate 14 0
 ·exact cnd_t (by rw [h2]; rfl) (by rw [forms,decide_eq_true h2]; simp)
 refine cnd_f (by rw [beq_eq_false_iff_ne]; exact h2) (bnd l16 (bnd (weight_eq m hl) ?_))
 rw [forms,decide_eq_false h1,decide_eq_false h2]
 by_cases h3:ws m 15=32768
 ·simp [h3]
 ·have:((ws m 15:Nat):Int)≠32768:=by omega
  simp [h3,this]
theorem forms_ws {m:List Nat} (h:forms m=true):ws m 15≤32768:=by
 simp only [forms,Bool.or_eq_true,decide_eq_true_eq] at h
 have count_of:∀ (t:List Int),ints (tal m)=t→∀ n,0<n→n<16→t[n]? = some ((m.count n:Nat):Int):=by
  intro t ht n h0 h16
  have:=tal_get m h16 h0
  rw [ht] at this
  exact this
 rcases h with (h | h) | h
 ·have hz:∀ k,k≤15→ws m k=0:=by
   intro k
   induction k with
   | zero=>intro _; rfl
   | succ k ih =>
    intro hk
    have:=count_of _ h (k+1) (by omega) (by omega)
    rw [List.getElem?_replicate,if_pos (by omega)] at this
    have hc:m.count (k+1)=0:=by simp at this; omega
    rw [ws,ih (by omega),hc]; simp
  rw [hz 15 (by omega)]; omega
 ·have hz:∀ k,k≤14→ws m (k+1)=16384:=by
   intro k
   induction k with
   | zero =>
    intro _
    have:=count_of _ h 1 (by omega) (by omega)
    have hc:m.count 1=1:=by simp at this; omega
    simp [ws,hc]
   | succ k ih =>
    intro hk
    have:=count_of _ h (k+1+1) (by omega) (by omega)
    simp only [List.getElem?_cons_succ,List.getElem?_replicate] at this
    rw [if_pos (by omega)] at this
    have hc:m.count (k+1+1)=0:=by simp at this; omega
    rw [ws,ih (by omega),hc]; simp
  rw [hz 14 (by omega)]; omega
 ·omega
theorem check_ints (m:List Nat) (hl:m.length≤1000):canon_Check (ints m)=some (if m.length≤300∧(∀ x∈m,x≤15) then (if forms m then 0 else 4) else 1):=by
 unfold canon_Check
 refine bnd (valid_eq _) ?_
 have hiff:((ints m).length≤300∧∀ n∈ints m,0≤n∧n≤15)↔(m.length≤300∧∀ x∈m,x≤15):=by
  rw [ints_len]
  constructor
  ·rintro ⟨h1,h2⟩
   exact ⟨h1,fun x hx=>by have:=(h2 (x:Int) (List.mem_map.2 ⟨x,hx,rfl⟩)).2; omega⟩
  ·rintro ⟨h1,h2⟩
   refine ⟨h1,fun n hn => ?_⟩
   obtain ⟨x,hx,rfl⟩:=List.mem_map.1 hn
   have:=h2 x hx; omega
 by_cases hv:m.length≤300∧(∀ x∈m,x≤15)
 ·rw [decide_eq_true (hiff.2 hv),if_pos hv]
  refine cnd_f rfl (bnd (count_eq m hv.2 hl) (bnd (forms_eq m hl) ?_))
  cases forms m <;> rfl
 ·rw [decide_eq_false (fun h=>hv (hiff.1 h)),if_neg hv]
  rfl
def fst (m:List Nat):Nat→Nat
 | 0=>0
 | 1=>0
 | n+2=>2 * (fst m (n+1)+m.count (n+1))
theorem fst_ws (m:List Nat):∀ n,n≤14→fst m (n+1) * 2 ^ (14-n)=ws m n
 | 0,_=>by simp [fst,ws]
 | n+1,h=>by
  have ih:=fst_ws m n (by omega)
  have e:14-n=(14-(n+1))+1:=by omega
  rw [show fst m (n+1+1)=2 * (fst m (n+1)+m.count (n+1)) from rfl,ws,← ih,show 15-(n+1)=(14-(n+1))+1 by omega,e,Nat.pow_succ]
  generalize 2 ^ (14-(n+1))=p
  rw [Nat.mul_add,Nat.add_mul]
  congr 1 <;> ac_rfl
theorem pow_split {n:Nat} (h:n≤15):2 ^ n * 2 ^ (15-n)=32768:=by
 rw [← Nat.pow_add,show n+(15-n)=15 by omega]
theorem fst_step (m:List Nat) {n:Nat} (h0:1≤n) (h:n≤15):fst m n * 2 ^ (15-n)=ws m (n-1):=by
 have:=fst_ws m (n-1) (by omega)
 rwa [show n-1+1=n by omega,show 14-(n-1)=15-n by omega] at this
theorem ws_step (m:List Nat) {n:Nat} (h0:1≤n) (h:n≤15):(fst m n+m.count n) * 2 ^ (15-n)=ws m n:=by
 rw [Nat.add_mul,fst_step m h0 h]
 obtain ⟨k,rfl⟩:∃ k,n=k+1:=⟨n-1,by omega⟩
 rfl
theorem fst_le {m:List Nat} (hw:ws m 15≤32768) {n:Nat} (h0:1≤n) (h:n≤15):fst m n+m.count n≤2 ^ n:=by
 have h1:=ws_step m h0 h
 have h2:=ws_mono m h
 have hp:0<2 ^ (15-n):=Nat.pow_pos (by omega)
 refine Nat.le_of_mul_le_mul_right ?_ hp
 rw [h1,pow_split h]
 omega
theorem pow_le15 {n:Nat} (h:n≤15):2 ^ n≤32768:=Nat.pow_le_pow_right (show 0<2 by omega) h
theorem fst_small {m:List Nat} (hw:ws m 15≤32768) {n:Nat} (h:n≤15):fst m n≤32768:=by
 rcases Nat.eq_zero_or_pos n with h0 | h0
 ·subst h0; simp [fst]
 ·have:=fst_le hw h0 h
  have:=pow_le15 h
  omega
def fl (m:List Nat) (i:Nat):List Nat:=(List.range 16).map fun n=>if n<i then fst m n else 0
theorem fl_len (m:List Nat) (i:Nat):(fl m i).length=16:=by simp [fl]
theorem fl_set (m:List Nat) (i:Nat) (h:i<16):(fl m i).set i (fst m i)=fl m (i+1):=by
 apply List.ext_getElem
 ·simp [fl]
 ·intro j h1 h2
  rw [List.getElem_set]
  simp only [fl,List.getElem_map,List.getElem_range]
  by_cases hij:i=j
  ·subst hij; simp
  ·rw [if_neg hij]
   by_cases hj:j<i
   ·rw [if_pos hj,if_pos (by omega)]
   ·rw [if_neg hj,if_neg (by omega)]
theorem firsts_eq (m:List Nat) (hl:m.length≤1000) (hw:ws m 15≤32768):canon_firsts (ints (tal m))=some (ints (fl m 16)):=by
 unfold canon_firsts
 have key:∀ (k fuel i:Nat),16-i=k→i≤16→2≤i→k<fuel →
  loopF (S:=((List Int)×Int)) (O:=((List Int))⊕(List Int)) (fun ((s16,s17):(List Int)×Int) =>
   cond ((decide (s17≤15)))
    ((some (IntKind.i64.wrap (s17-1))).bind fun v2 =>
    (ixO v2 16).bind fun v3 =>
    (getO s16 v3).bind fun v4 =>
    (some (IntKind.i64.wrap (s17-1))).bind fun v5 =>
    (ixO v5 16).bind fun v6 =>
    (getO (ints (tal m)) v6).bind fun v7 =>
    (some (IntKind.i64.wrap (v4+v7))).bind fun v8 =>
    (some (IntKind.i64.wrap (2 * v8))).bind fun v9 =>
    (ixO s17 16).bind fun v10 =>
    (setO s16 v10 v9).bind fun v11 =>
    (some (IntKind.i64.wrap (s17+1))).bind fun v12 =>
    some (.inl (v11,v12)))
    (some (.inr (.inl s16)))) fuel (ints (fl m i),(i:Int))=some (.inl (ints (fl m 16))):=by
  intro k
  induction k with
  | zero =>
   intro fuel i hk hi h2 hf
   obtain ⟨f,rfl⟩:∃ f,fuel=f+1:=⟨fuel-1,by omega⟩
   have:i=16:=by omega
   subst this
   exact loop_exit (cnd_f (by simp) rfl)
  | succ k ih =>
   intro fuel i hk hi h2 hf
   obtain ⟨f,rfl⟩:∃ f,fuel=f+1:=⟨fuel-1,by omega⟩
   have h16:i<16:=by omega
   have w1:IntKind.i64.wrap ((i:Int)-1)=((i-1:Nat):Int):=by rw [wrap_i64 (by omega) (by omega)]; omega
   have w2:IntKind.i64.wrap ((i:Int)+1)=((i+1:Nat):Int):=by rw [wrap_i64 (by omega) (by omega)]; simp
   have hx:i-1<16:=by omega
   have hfl:i-1<(fl m i).length:=by rw [fl_len]; exact hx
   have hg:(fl m i)[i-1]=fst m (i-1):=by simp [fl]; omega
   have hb:=fst_le hw (n:=i-1) (by omega) (by omega)
   have hb2:=pow_le15 (n:=i-1) (by omega)
   have w3:IntKind.i64.wrap (((fst m (i-1):Nat):Int)+((m.count (i-1):Nat):Int))=((fst m (i-1)+m.count (i-1):Nat):Int):=by rw [wrap_i64 (by omega) (by omega)]; simp
   have hstep:fst m i=2 * (fst m (i-1)+m.count (i-1)):=by
    obtain ⟨j,rfl⟩:∃ j,i=j+2:=⟨i-2,by omega⟩
    rfl
   have w4:IntKind.i64.wrap (2 * ((fst m (i-1)+m.count (i-1):Nat):Int))=((fst m i:Nat):Int):=by rw [hstep,wrap_i64 (by omega) (by omega)]; simp
   have hset:=ints_set (fl m i) i (fst m i) (by rw [fl_len]; exact h16)
   rw [fl_set m i h16] at hset
   refine (loop_next (cnd_t (by simp; omega) (bnd (x:=((i-1:Nat):Int)) (by rw [w1]) (bnd (ixO_of hx) (bnd (x:=((fst m (i-1):Nat):Int)) (by rw [ints_get hfl,hg]) (bnd (x:=((i-1:Nat):Int)) (by rw [w1]) (bnd (ixO_of hx) (bnd (tal_get m hx (by omega))
    (bnd (x:=((fst m (i-1)+m.count (i-1):Nat):Int)) (by rw [w3]) (bnd (x:=((fst m i:Nat):Int)) (by rw [w4]) (bnd (ixO_of h16) (bnd hset (bnd (x:=((i+1:Nat):Int)) (by rw [w2]) rfl))))))))))))).trans ?_
   exact ih f (i+1) (by omega) (by omega) (by omega) (by omega)
 have h0:ints (fl m 2)=List.replicate 16 (0:Int):=by
  have:fl m 2=List.replicate 16 0:=by
   apply List.ext_getElem
   ·simp [fl]
   ·intro j h1 h2
    simp only [fl,List.getElem_map,List.getElem_range,List.getElem_replicate]
    split
    ·rename_i h
     have:j=0∨j=1:=by omega
     rcases this with rfl | rfl <;> rfl
    ·rfl
  rw [this]; decide
 have hk:=key 14 BIG 2 rfl (by omega) (by omega) (by unfold BIG; omega)
 rw [h0] at hk
 have l16:lnO 16 (ints (fl m 16))=some (ints (fl m 16)):=by simp [lnO,ints_len,fl_len]
 have l0:lnO 16 (List.replicate 16 (0:Int))=some (List.replicate 16 (0:Int)):=by decide
 exact bndL hk (bnd l16 (bnd l0 (bnd l16 (bnd l16 rfl))))
def code (m:List Nat) (j:Nat):Nat:=if m.getD j 0=0 then 0 else fst m (m.getD j 0)+(m.take j).count (m.getD j 0)
def codes (m:List Nat):List Nat:=(List.range m.length).map (code m)
def nx (m:List Nat) (i:Nat):List Nat:=(List.range 16).map fun n=>if n=0 then 0 else fst m n+(m.take i).count n
def cd (m:List Nat) (i:Nat):List Nat:=(List.range m.length).map fun j=>if j<i then code m j else 0
theorem nx_len (m:List Nat) (i:Nat):(nx m i).length=16:=by simp [nx]
theorem cd_len (m:List Nat) (i:Nat):(cd m i).length=m.length:=by simp [cd]
theorem nx_set (m:List Nat) (i:Nat) (h:i<m.length) (hx:m[i]≤15) (h0:0<m[i]):(nx m i).set m[i] (fst m m[i]+(m.take i).count m[i]+1)=nx m (i+1):=by
 have htk:m.take (i+1)=m.take i++[m[i]]:=by rw [List.take_add_one]; simp [h]
 apply List.ext_getElem
 ·simp [nx]
 ·intro j h1 h2
  rw [List.getElem_set]
  simp only [nx,List.getElem_map,List.getElem_range,htk,List.count_append]
  by_cases hij:m[i]=j
  ·rw [if_pos hij,if_neg (by omega),hij]; simp [hij]; omega
  ·rw [if_neg hij]
   have:List.count j [m[i]]=0:=by simp [List.count_cons,hij]
   rw [this]; rfl
theorem nx_zero (m:List Nat) (i:Nat) (h:i<m.length) (h0:m[i]=0):nx m (i+1)=nx m i:=by
 have htk:m.take (i+1)=m.take i++[m[i]]:=by rw [List.take_add_one]; simp [h]
 apply List.ext_getElem
 ·simp [nx]
 ·intro j h1 h2
  simp only [nx,List.getElem_map,List.getElem_range,htk,List.count_append]
  by_cases hj:j=0
  ·simp [hj]
  ·have:List.count j [m[i]]=0:=by simp [List.count_cons,h0]; omega
   rw [this]; rfl
theorem cd_set (m:List Nat) (i:Nat) (h:i<m.length):(cd m i).set i (code m i)=cd m (i+1):=by
 apply List.ext_getElem
 ·simp [cd]
 ·intro j h1 h2
  rw [List.getElem_set]
  simp only [cd,List.getElem_map,List.getElem_range]
  by_cases hij:i=j
  ·subst hij; simp
  ·rw [if_neg hij]
   by_cases hj:j<i
   ·rw [if_pos hj,if_pos (by omega)]
   ·rw [if_neg hj,if_neg (by omega)]
theorem cd_zero (m:List Nat) (i:Nat) (h:i<m.length) (h0:m[i]=0):cd m (i+1)=cd m i:=by
 apply List.ext_getElem
 ·simp [cd]
 ·intro j h1 h2
  simp only [cd,List.getElem_map,List.getElem_range]
  by_cases hij:j=i
  ·subst hij
   have:code m j=0:=by simp [code,List.getD_eq_getElem?_getD,h,h0]
   simp [this]
  ·by_cases hj:j<i
   ·rw [if_pos hj,if_pos (by omega)]
   ·rw [if_neg hj,if_neg (by omega)]
theorem codes_eq (m:List Nat) (hl:m.length≤300) (hm:∀ x∈m,x≤15) (hf:forms m=true):canon_Codes (ints m)=some (ints (codes m),0):=by
 have hw:=forms_ws hf
 unfold canon_Codes
 have hck:=check_ints m (by omega)
 rw [if_pos ⟨hl,hm⟩,if_pos hf] at hck
 have l16:lnO 16 (ints (fl m 16))=some (ints (fl m 16)):=by simp [lnO,ints_len,fl_len]
 have l0:lnO 16 (List.replicate 16 (0:Int))=some (List.replicate 16 (0:Int)):=by decide
 have hmk:mkO 8 ((ints m).length:Int) (0:Int)=some (ints (cd m 0)):=by
  simp only [mkO]
  rw [if_pos ⟨by omega,by rw [ints_len]; omega⟩,ints_len]
  congr 1
  apply List.ext_getElem
  ·simp [ints,cd]
  ·intro j h1 h2; simp [ints,cd]
 have hn0:nx m 0=fl m 16:=by
  apply List.ext_getElem
  ·simp [nx,fl]
  ·intro j h1 h2
   have hj:j<16:=by rw [nx_len] at h1; exact h1
   simp only [nx,fl,List.getElem_map,List.getElem_range,List.take_zero,List.count_nil,Nat.add_zero,hj,if_true]
   split
   ·rename_i h; subst h; rfl
   ·rfl
 refine bnd hck (cnd_f rfl (bnd (count_eq m hm (by omega)) (bnd (firsts_eq m (by omega) hw) (bnd l0 (bnd l16 (bnd hmk ?_))))))
 have key:∀ (k fuel i:Nat),m.length-i=k→i≤m.length→k<fuel →
   loopF (S:=((List Int)×(List Int)×Int)) (O:=((List Int))⊕((List Int)×Int)) (fun ((s39,s40,s41):(List Int)×(List Int)×Int) =>
    cond ((decide (s41<((ints m).length:Int))))
     (bindS (S:=(List Int)×(List Int)) (A:=(((List Int)×(List Int)×Int)⊕(((List Int))⊕((List Int)×Int))))
      ((ixO s41 (ints m).length).bind fun v9 =>
      (getO (ints m) v9).bind fun v10 =>
      cond ((decide (0<v10)))
       ((ixO v10 16).bind fun v12 =>
       (getO s39 v12).bind fun v13 =>
       (ixO s41 s40.length).bind fun v14 =>
       (some (s40.set v14 v13)).bind fun v15 =>
       (ixO v10 16).bind fun v16 =>
       (getO s39 v16).bind fun v17 =>
       (some (IntKind.i64.wrap (v17+1))).bind fun v18 =>
       (ixO v10 16).bind fun v19 =>
       (setO s39 v19 v18).bind fun v20 =>
       some (.inl (v20,v15)))
       (some (.inl (s39,s40))))
      (fun ((s59,s60):(List Int)×(List Int)) =>
       (some (IntKind.i64.wrap (s41+1))).bind fun v27 =>
       some (.inl (s59,s60,v27))) some)
     (some (.inr (.inl s40)))) fuel (ints (nx m i),ints (cd m i),(i:Int))=some (.inl (ints (cd m m.length))):=by
  intro k
  induction k with
  | zero =>
   intro fuel i hk hi hf
   obtain ⟨f,rfl⟩:∃ f,fuel=f+1:=⟨fuel-1,by omega⟩
   have:i=m.length:=by omega
   subst this
   exact loop_exit (cnd_f (by simp [ints_len]) rfl)
  | succ k ih =>
   intro fuel i hk hi hf
   obtain ⟨f,rfl⟩:∃ f,fuel=f+1:=⟨fuel-1,by omega⟩
   have hlt:i<m.length:=by omega
   have hlt':i<(ints m).length:=by rw [ints_len]; exact hlt
   have hw1:IntKind.i64.wrap ((i:Int)+1)=((i+1:Nat):Int):=by rw [wrap_i64 (by omega) (by omega)]; simp
   have hx:=hm m[i] (List.getElem_mem hlt)
   refine (loop_next (s':=(ints (nx m (i+1)),ints (cd m (i+1)),((i+1:Nat):Int))) (cnd_t (by simp; omega) (bndL (s:=(ints (nx m (i+1)),ints (cd m (i+1)))) (bnd (ixO_of hlt') (bnd (ints_get hlt) ?_)) (bnd (x:=((i+1:Nat):Int)) (by rw [hw1]) rfl)))).trans (ih f (i+1) (by omega) (by omega) (by omega))
   by_cases h0:0<m[i]
   ·have h16:m[i]<16:=by omega
    have hnl:m[i]<(nx m i).length:=by rw [nx_len]; exact h16
    have hng:(nx m i)[m[i]]=fst m m[i]+(m.take i).count m[i]:=by simp [nx]; omega
    have hcode:code m i=fst m m[i]+(m.take i).count m[i]:=by
     have:m.getD i 0=m[i]:=by simp [List.getD_eq_getElem?_getD,hlt]
     rw [code,this,if_neg (by omega)]
    have hc:(m.take i).count m[i]≤m.length:=Nat.le_trans List.count_le_length (by simp; omega)
    have hfs:=fst_small hw hx
    have w5:IntKind.i64.wrap (((fst m m[i]+(m.take i).count m[i]:Nat):Int)+1)=((fst m m[i]+(m.take i).count m[i]+1:Nat):Int):=by rw [wrap_i64 (by omega) (by omega)]; simp
    have hg:getO (ints (nx m i)) m[i]=some ((fst m m[i]+(m.take i).count m[i]:Nat):Int):=by rw [ints_get hnl,hng]
    have hcl:i<(ints (cd m i)).length:=by rw [ints_len,cd_len]; exact hlt
    have hset:=ints_set (nx m i) m[i] (fst m m[i]+(m.take i).count m[i]+1) hnl
    rw [nx_set m i hlt hx h0] at hset
    have hcs:(ints (cd m i)).set i (((fst m m[i]+(m.take i).count m[i]:Nat)):Int)=ints (cd m (i+1)):=by
     rw [← cd_set m i hlt,hcode,ints,ints,List.map_set]
    refine cnd_t (by simp; omega) (bnd (ixO_of h16) (bnd hg (bnd (ixO_of hcl) (bnd (x:=ints (cd m (i+1))) (by rw [hcs]) (bnd (ixO_of h16) (bnd hg (bnd (x:=((fst m m[i]+(m.take i).count m[i]+1:Nat):Int)) (by rw [w5]) (bnd (ixO_of h16) (bnd hset rfl)))))))))
   ·have hz:m[i]=0:=by omega
    refine cnd_f (by simp; omega) ?_
    rw [nx_zero m i hlt hz,cd_zero m i hlt hz]
 have hk:=key m.length BIG 0 (by omega) (Nat.zero_le _) (by unfold BIG; omega)
 rw [hn0] at hk
 have he:cd m m.length=codes m:=by
  apply List.ext_getElem
  ·simp [cd,codes]
  ·intro j h1 h2
   have:j<m.length:=by rw [cd_len] at h1; exact h1
   simp [cd,codes,this]
 rw [he] at hk
 exact bndL hk rfl
theorem getD_of {m:List Nat} {i:Nat} (h:i<m.length):m.getD i 0=m[i]:=by simp [List.getD_eq_getElem?_getD,h]
theorem code_of {m:List Nat} {i:Nat} (h:i<m.length) (h0:m[i]≠0):code m i=fst m m[i]+(m.take i).count m[i]:=by
 rw [code,getD_of h,if_neg h0]
theorem count_take_lt {m:List Nat} {i:Nat} (h:i<m.length):(m.take i).count m[i]+1≤m.count m[i]:=by
 have h1:m.count m[i]=(m.take i).count m[i]+(m.drop i).count m[i]:=by
  rw [← List.count_append,List.take_append_drop]
 have h2:m.drop i=m[i]::m.drop (i+1):=List.drop_eq_getElem_cons h
 rw [h1,h2,List.count_cons]
 simp
theorem code_lt {m:List Nat} (hw:ws m 15≤32768) (hm:∀ x∈m,x≤15) {i:Nat} (h:i<m.length) (h0:m[i]≠0):code m i+1≤2 ^ m[i]:=by
 have h1:=fst_le hw (n:=m[i]) (by omega) (hm _ (List.getElem_mem h))
 have h2:=count_take_lt h
 rw [code_of h h0]; omega
theorem code_same {m:List Nat} {i k:Nat} (hi:i<m.length) (hk:k<m.length) (h0:m[i]≠0) (he:m[i]=m[k]) (hlt:i<k):code m i<code m k:=by
 rw [code_of hi h0,code_of hk (by omega),← he]
 have h1:m.take k=m.take i++(m.drop i).take (k-i):=by
  rw [← List.take_add,Nat.add_sub_cancel' (by omega)]
 have h2:m.drop i=m[i]::m.drop (i+1):=List.drop_eq_getElem_cons hi
 have h3:(m.drop i).take (k-i)=m[i]::(m.drop (i+1)).take (k-i-1):=by
  rw [h2,show k-i=(k-i-1)+1 by omega]; rfl
 rw [h1,h3,List.count_append,List.count_cons]
 simp
theorem take_snoc {m:List Nat} {i:Nat} (h:i<m.length):m.take (i+1)=m.take i++[m[i]]:=by rw [List.take_add_one]; simp [h]
def turnS:((Int×Int×Int))→Option ((Int×Int×Int)⊕((Int)⊕(Int×Int))):=(fun ((s14,s15,s16):Int×Int×Int) =>
  cond ((decide (0<s14)))
   ((shlO .u32 s15 1).bind fun v5 =>
   (some (bits .and .u32 s16 1)).bind fun v6 =>
   (some (bits .or .u32 v5 v6)).bind fun v7 =>
   (shrO .u32 s16 1).bind fun v8 =>
   (some (IntKind.i64.wrap (s14-1))).bind fun v9 =>
   some (.inl (v9,v7,v8)))
   (some (.inr (.inl s15))))
def isB (l:List Int):Prop:=∀ n∈l,0≤n∧n<256
def bitC (l:List Int) (q:Nat):Bool:=(l.getD (q / 8) 0).toNat.testBit (q % 8)
structure Good (B:List Int) (N:Nat):Prop where
 len:B.length=(N+7) / 8
 bytes:isB B
 zero:∀ q,N≤q→bitC B q=false
theorem wrap_u32c {n:Int} (h0:0≤n) (h1:n<4294967296):IntKind.u32.wrap n=n:=by
 simp only [IntKind.wrap,IntKind.bits,IntKind.signed]
 have e:(2:Int) ^ 32=4294967296:=by decide
 simp only [e,Bool.false_and,Bool.false_eq_true,if_false]
 omega
theorem ofInt32 (a:Nat) (ha:a<4294967296):(BitVec.ofInt 32 (a:Int)).toNat=a:=by
 rw [BitVec.ofInt_natCast,BitVec.toNat_ofNat]; exact Nat.mod_eq_of_lt (by omega)
theorem and1_u32 (a:Nat) (ha:a<4294967296):bits .and .u32 (a:Int) 1=((a % 2:Nat):Int):=by
 show IntKind.u32.wrap ((BitVec.ofInt 32 (a:Int) &&& BitVec.ofInt 32 ((1:Nat):Int)).toNat:Int)=_
 rw [BitVec.toNat_and,ofInt32 a ha,ofInt32 1 (by omega),Nat.and_one_is_mod,wrap_u32c (by omega) (by omega)]
theorem or_u32 (c x:Nat) (hc:c<1000000000) (hx:x<2):bits .or .u32 ((2 * c:Nat):Int) (x:Int)=((2 * c+x:Nat):Int):=by
 have h:=Nat.shiftLeft_add_eq_or_of_lt (a:=c) (b:=x) (i:=1) (by omega)
 rw [Nat.shiftLeft_eq,Nat.pow_one,Nat.mul_comm] at h
 show IntKind.u32.wrap ((BitVec.ofInt 32 ((2 * c:Nat):Int) ||| BitVec.ofInt 32 (x:Int)).toNat:Int)=_
 rw [BitVec.toNat_or,ofInt32 _ (by omega),ofInt32 _ (by omega),← h,wrap_u32c (by omega) (by omega)]
theorem shl_u32 (a k:Nat) (hk:k≤32) (h:a * 2 ^ k<4294967296):shlO .u32 (a:Int) (k:Int)=some ((a * 2 ^ k:Nat):Int):=by
 simp only [shlO,IntKind.bits]
 rw [if_pos (by omega),Int.toNat_natCast,Nat.min_eq_left hk]
 have e:(a:Int) * 2 ^ k=((a * 2 ^ k:Nat):Int):=by push_cast; rfl
 rw [e]
 generalize a * 2 ^ k=y at *
 rw [wrap_u32c (by omega) (by omega)]
theorem or_u8 (a b:Nat) (ha:a<256) (hb:b<256):bits .or .u8 (a:Int) (b:Int)=((a ||| b:Nat):Int):=by
 have hx:a ||| b<2 ^ 8:=Nat.or_lt_two_pow (by omega) (by omega)
 show IntKind.u8.wrap ((BitVec.ofInt 8 (a:Int) ||| BitVec.ofInt 8 (b:Int)).toNat:Int)=_
 rw [BitVec.toNat_or,ofInt8 a ha,ofInt8 b hb,wrap_u8']; omega
theorem fits_eq (v n:Nat) (hn:n≤24) (hv:v<2 ^ n):bits_fits (v:Int) (n:Int)=some true:=by
 have hp:2 ^ n≤2 ^ 24:=Nat.pow_le_pow_right (by omega) hn
 have e:(2:Nat) ^ 24=16777216:=by decide
 have sh:=shl_nat 1 n (by omega) (by omega)
 rw [Nat.one_mul] at sh
 unfold bits_fits
 refine bndL (s:=true) (cnd_t (by simp) (cnd_t (by simp; omega) (cnd_t (by simp) (bnd sh ?_)))) rfl
 rw [decide_eq_true (by omega)]
theorem turn_loop (v n:Nat) (hn:n≤24) (hv:v<2 ^ n):∀ (k fuel t r:Nat),n-t=k→t≤n→k<fuel→r<2 ^ t→(∀ i,i<t→r.testBit i=v.testBit (t-1-i)) →
  ∃ r':Nat,loopF turnS fuel (((n-t:Nat):Int),(r:Int),((v / 2 ^ t:Nat):Int))=some (.inl (r':Int))∧r'<2 ^ n∧∀ i,i<n→r'.testBit i=v.testBit (n-1-i):=by
 have hp:2 ^ n≤2 ^ 24:=Nat.pow_le_pow_right (by omega) hn
 have e24:(2:Nat) ^ 24=16777216:=by decide
 intro k
 induction k with
 | zero =>
  intro fuel t r hk ht hf hr hb
  obtain ⟨f,rfl⟩:∃ f,fuel=f+1:=⟨fuel-1,by omega⟩
  have:t=n:=by omega
  subst this
  refine ⟨r,loop_exit ?_,hr,hb⟩
  unfold turnS
  exact cnd_f (by simp) rfl
 | succ k ih =>
  intro fuel t r hk ht hf hr hb
  obtain ⟨f,rfl⟩:∃ f,fuel=f+1:=⟨fuel-1,by omega⟩
  have hp2:2 ^ t≤2 ^ 24:=Nat.pow_le_pow_right (by omega) (by omega)
  have hvt:v / 2 ^ t<4294967296:=Nat.lt_of_le_of_lt (Nat.div_le_self _ _) (by omega)
  have sh:=shl_u32 r 1 (by omega) (by omega)
  rw [Nat.pow_one,Nat.mul_comm,show ((1:Nat):Int)=1 from rfl] at sh
  have hy:v / 2 ^ t % 2<2:=Nat.mod_lt _ (by omega)
  have hor:=or_u32 r (v / 2 ^ t % 2) (by omega) hy
  have hsr:=shr_nat .u32 (v / 2 ^ t) 1 (by decide)
  rw [Nat.pow_one,Nat.div_div_eq_div_mul,← Nat.pow_succ,show ((1:Nat):Int)=1 from rfl] at hsr
  have w:IntKind.i64.wrap (((n-t:Nat):Int)-1)=((n-(t+1):Nat):Int):=by rw [wrap_i64 (by omega) (by omega)]; omega
  have hand:=and1_u32 _ hvt
  have hbit:∀ i,i<t+1→(2 * r+v / 2 ^ t % 2).testBit i=v.testBit (t+1-1-i):=by
   intro i hi
   have h1:2 * r+v / 2 ^ t % 2=2 ^ 1 * r+v / 2 ^ t % 2:=by rw [Nat.pow_one]
   rw [h1,Nat.testBit_two_pow_mul_add _ (by omega)]
   by_cases h0:i<1
   ·have:i=0:=by omega
    subst this
    rw [if_pos h0,Nat.testBit_eq_decide_div_mod_eq (x:=v)]
    simp [Nat.testBit_zero]
   ·rw [if_neg h0,hb (i-1) (by omega)]
    congr 1; omega
  have hr2:2 * r+v / 2 ^ t % 2<2 ^ (t+1):=by rw [Nat.pow_succ]; omega
  obtain ⟨r',h1,h2,h3⟩:=ih f (t+1) (2 * r+v / 2 ^ t % 2) (by omega) (by omega) (by omega) hr2 hbit
  refine ⟨r',(loop_next ?_).trans h1,h2,h3⟩
  unfold turnS
  exact cnd_t (by simp; omega) (bnd sh (bnd (x:=((v / 2 ^ t % 2:Nat):Int)) (by rw [hand]) (bnd (x:=((2 * r+v / 2 ^ t % 2:Nat):Int)) (by rw [hor]) (bnd hsr (bnd (x:=((n-(t+1):Nat):Int)) (by rw [w]) rfl)))))
theorem turn_eq (v n:Nat) (hn:n≤24) (hv:v<2 ^ n):∃ r:Nat,bits_Turn (v:Int) (n:Int)=some ((r:Int),0)∧r<2 ^ n∧∀ i,i<n→r.testBit i=v.testBit (n-1-i):=by
 have hp:2 ^ n≤2 ^ 24:=Nat.pow_le_pow_right (by omega) hn
 have e24:(2:Nat) ^ 24=16777216:=by decide
 obtain ⟨r,h1,h2,h3⟩:=turn_loop v n hn hv n BIG 0 0 (by omega) (Nat.zero_le _) (by unfold BIG; omega) (by simp) (by omega)
 rw [Nat.sub_zero,Nat.pow_zero,Nat.div_one] at h1
 refine ⟨r,?_,h2,h3⟩
 unfold bits_Turn
 have w1:IntKind.u32.wrap (v:Int)=(v:Int):=wrap_u32c (by omega) (by omega)
 have w2:IntKind.i64.wrap (r:Int)=(r:Int):=wrap_i64 (by omega) (by omega)
 exact bnd (fits_eq v n hn hv) (cnd_f rfl (bnd (x:=(v:Int)) (by rw [w1]) (bndL h1 (bnd (x:=(r:Int)) (by rw [w2]) rfl))))
theorem bitC_set (s:List Int) (j q:Nat) (x:Int) (hj:j<s.length):bitC (s.set j x) q=if q / 8=j then x.toNat.testBit (q % 8) else bitC s q:=by
 simp only [bitC,List.getD_eq_getElem?_getD,List.getElem?_set]
 by_cases h:j=q / 8
 ·subst h; simp [hj]
 ·rw [if_neg h,if_neg (fun e=>h e.symm)]
theorem code_pre {m:List Nat} (hm:∀ x∈m,x≤15) {j:Nat} (hj:j<m.length) (h0:m[j]≠0) {n:Nat} (h1:1≤n) (hn:n<m[j]):fst m n+m.count n≤code m j / 2 ^ (m[j]-n):=by
 have xj:=hm _ (List.getElem_mem hj)
 have a1:=ws_step m h1 (show n≤15 by omega)
 have a2:=fst_step m (n:=m[j]) (by omega) xj
 have a3:=ws_mono m (a:=n) (b:=m[j]-1) (by omega)
 have e2:2 ^ (15-n)=2 ^ (m[j]-n) * 2 ^ (15-m[j]):=by rw [← Nat.pow_add]; congr 1; omega
 rw [e2,← Nat.mul_assoc] at a1
 have h3:(fst m n+m.count n) * 2 ^ (m[j]-n)≤fst m m[j]:=by
  refine Nat.le_of_mul_le_mul_right ?_ (Nat.pow_pos (show 0<2 by omega) (n:=15-m[j]))
  omega
 refine (Nat.le_div_iff_mul_le (Nat.pow_pos (by omega))).2 ?_
 rw [code_of hj h0]
 omega
theorem shr_u32n (a k:Nat) (hk:k≤32):shrO .u32 (a:Int) (k:Int)=some ((a / 2 ^ k:Nat):Int):=shr_nat .u32 a k hk
theorem wrapS {n:Nat} (h:n<4611686018427387904):IntKind.i64.wrap ((n:Int)+1)=((n+1:Nat):Int):=by rw [wrap_i64 (by omega) (by omega)]; omega
theorem wrapN (n:Nat) (h:n<4611686018427387904):IntKind.i64.wrap (n:Int)=(n:Int):=wrap_i64 (by omega) (by omega)
def Sp:List (Nat×Nat)→Nat→List Int→Prop
 | [],_,_=>True
 | p::ps,N,B=>(∀ t,t<p.2→bitC B (N+t)=p.1.testBit t)∧Sp ps (N+p.2) B
def wid (ps:List (Nat×Nat)):Nat:=(ps.map (·.2)).sum
/-! How far two places of a text are alike. -/
def pre:List Int→List Int→Nat
 | x::xs,y::ys=>if x=y then pre xs ys+1 else 0
 | _,_=>0
theorem pre_le:∀ a c:List Int,pre a c≤a.length∧pre a c≤c.length
 | [],_=>by simp [pre]
 | _::_,[]=>by simp [pre]
 | x::xs,y::ys=>by
  have:=pre_le xs ys
  unfold pre
  split <;> simp <;> omega
theorem pre_get:∀ (a c:List Int) (k:Nat),k<pre a c→a[k]? = c[k]?
 | [],_,k,h=>by simp [pre] at h
 | _::_,[],k,h=>by simp [pre] at h
 | x::xs,y::ys,k,h=>by
  unfold pre at h
  split at h
  ·rename_i e
   subst e
   cases k with
   | zero=>rfl
   | succ k=>simpa using pre_get xs ys k (by omega)
  ·omega
theorem pre_ge:∀ (a c:List Int) (k:Nat),k≤a.length→k≤c.length→(∀ j,j<k→a[j]? = c[j]?)→k≤pre a c
 | [],_,k,h,_,_=>by simp at h; omega
 | _::_,[],k,_,h,_=>by simp at h; omega
 | x::xs,y::ys,k,h1,h2,h=>by
  cases k with
  | zero=>omega
  | succ k =>
   have h0:=h 0 (by omega)
   simp only [List.getElem?_cons_zero,Option.some.injEq] at h0
   have:=pre_ge xs ys k (by simpa using h1) (by simpa using h2) fun j hj=>by simpa using h (j+1) (by omega)
   unfold pre
   rw [if_pos h0]
   omega
theorem pre_stop:∀ (a c:List Int),pre a c<a.length→pre a c<c.length→a[pre a c]? ≠ c[pre a c]?
 | [],_,h,_=>by simp at h
 | _::_,[],_,h=>by simp at h
 | x::xs,y::ys,h1,h2=>by
  unfold pre at h1 h2 ⊢
  split
  ·rename_i e
   rw [if_pos e] at h1 h2
   simpa using pre_stop xs ys (by simpa using h1) (by simpa using h2)
  ·rename_i e
   simpa using e
def cmL (b:List Int) (p at_:Nat):Nat:=min 258 (pre (b.drop p) (b.drop at_))
theorem cm_le (b:List Int) {p at_:Nat}:cmL b p at_≤258∧cmL b p at_≤b.length-at_:=by
 have:=(pre_le (b.drop p) (b.drop at_)).2
 rw [List.length_drop] at this
 unfold cmL
 omega
theorem cm_get {b:List Int} {p at_ k:Nat} (h:k<cmL b p at_):b[p+k]? = b[at_+k]? := by
 have:=pre_get (b.drop p) (b.drop at_) k (by unfold cmL at h; omega)
 simpa using this
theorem cm_ge {b:List Int} {p at_ k:Nat} (h:k≤258) (hp:p≤at_) (hk:at_+k≤b.length) (hj:∀ j,j<k→b[p+j]? = b[at_+j]?):k≤cmL b p at_:=by
 have:=pre_ge (b.drop p) (b.drop at_) k (by rw [List.length_drop]; omega) (by rw [List.length_drop]; omega) fun j hj2=>by simpa using hj j hj2
 unfold cmL
 omega
theorem cm_stop {b:List Int} {p at_:Nat} (hp:p≤at_) (h:cmL b p at_<258) (h2:at_+cmL b p at_<b.length):b[p+cmL b p at_]? ≠ b[at_+cmL b p at_]? := by
 have hl:=(pre_le (b.drop p) (b.drop at_)).1
 have e:cmL b p at_=pre (b.drop p) (b.drop at_):=by unfold cmL at h ⊢; omega
 rw [e] at h2 ⊢
 have:=pre_stop (b.drop p) (b.drop at_) (by rw [List.length_drop]; omega) (by rw [List.length_drop]; omega)
 simpa using this
def key (b:List Int) (p:Nat):List Int:=(b.drop p).take 3
theorem key_len (b:List Int) (p:Nat):(key b p).length=min 3 (b.length-p):=by unfold key; simp
theorem key_get (b:List Int) (p j:Nat) (h:j<3):(key b p)[j]? = b[p+j]? := by
 unfold key
 rw [List.getElem?_take,if_pos h,List.getElem?_drop]
theorem cm_key {b:List Int} {p at_:Nat} (hp:p≤at_) (h3:at_+3≤b.length):key b p=key b at_↔3≤cmL b p at_:=by
 constructor
 ·intro h
  refine cm_ge (by omega) hp h3 fun j hj => ?_
  rw [← key_get b p j hj,← key_get b at_ j hj,h]
 ·intro h
  apply List.ext_getElem?
  intro j
  by_cases hj:j<3
  ·rw [key_get b p j hj,key_get b at_ j hj]
   exact cm_get (by omega)
  ·rw [List.getElem?_eq_none (by rw [key_len]; omega),List.getElem?_eq_none (by rw [key_len]; omega)]
/-! The best piece. -/
def upd1 (s:Nat×Nat) (o m:Nat):Nat×Nat:=if s.1<m then (m,o) else s
def bestN (b:List Int) (at_:Nat):Nat→Nat×Nat
 | 0=>(0,0)
 | k+1=>upd1 (bestN b at_ k) (k+1) (cmL b (at_-(k+1)) at_)
def clp (s:Nat×Nat):Nat×Nat:=if s.1<3 then (0,0) else s
def bestS (b:List Int) (at_:Nat):Nat×Nat:=clp (bestN b at_ (min at_ 2048))
theorem bestN_le (b:List Int) (at_:Nat):∀ k,(bestN b at_ k).1≤258∧(bestN b at_ k).1≤b.length-at_∧(bestN b at_ k).2≤k
 | 0=>by simp [bestN]
 | k+1=>by
  have h:=bestN_le b at_ k
  have h2:=cm_le b (p:=at_-(k+1)) (at_:=at_)
  unfold bestN upd1
  split
  ·exact ⟨h2.1,h2.2,Nat.le_refl _⟩
  ·exact ⟨h.1,h.2.1,by omega⟩
theorem bestN_ge (b:List Int) (at_:Nat):∀ k o,1≤o→o≤k→cmL b (at_-o) at_≤(bestN b at_ k).1
 | 0,o,h1,h2=>by omega
 | k+1,o,h1,h2=>by
  unfold bestN upd1
  by_cases e:o=k+1
  ·subst e
   split
   ·exact Nat.le_refl _
   ·omega
  ·have:=bestN_ge b at_ k o h1 (by omega)
   split
   ·show _≤cmL b (at_-(k+1)) at_
    omega
   ·exact this
theorem bestN_is (b:List Int) (at_:Nat):∀ k,(bestN b at_ k=(0,0))∨(1≤(bestN b at_ k).2∧(bestN b at_ k).1=cmL b (at_-(bestN b at_ k).2) at_∧∀ o,1≤o→o<(bestN b at_ k).2→cmL b (at_-o) at_<(bestN b at_ k).1)
 | 0 => .inl rfl
 | k+1=>by
  have h:=bestN_is b at_ k
  have hg:=bestN_ge b at_ k
  unfold bestN upd1
  split
  ·rename_i hlt
   refine .inr ⟨by simp,rfl,fun o h1 h2 => ?_⟩
   have:=hg o h1 (by simp at h2; omega)
   simp only
   omega
  ·exact h
theorem clp_low {s:Nat×Nat} {o m:Nat} (h:m<3):clp (upd1 s o m)=clp s:=by
 unfold clp upd1
 by_cases h1:s.1<m
 ·rw [if_pos h1,if_pos h,if_pos (by omega)]
 ·rw [if_neg h1]
theorem clp_high {s:Nat×Nat} {o m:Nat} (h:3≤m):clp (upd1 s o m)=if (clp s).1<m then (m,o) else clp s:=by
 unfold clp upd1
 by_cases h1:s.1<m
 ·rw [if_pos h1,if_neg (by omega)]
  by_cases h3:s.1<3
  ·rw [if_pos h3,if_pos (by show 0<m; omega)]
  ·rw [if_neg h3,if_pos h1]
 ·rw [if_neg h1,if_neg (by omega),if_neg (by omega)]
theorem best_skip {b:List Int} {at_:Nat}:∀ (d k:Nat),(∀ o,k<o→o≤k+d→cmL b (at_-o) at_<3)→clp (bestN b at_ (k+d))=clp (bestN b at_ k)
 | 0,k,_=>rfl
 | d+1,k,h=>by
  show clp (upd1 (bestN b at_ (k+d)) (k+d+1) (cmL b (at_-(k+d+1)) at_))=_
  rw [clp_low (h (k+d+1) (by omega) (by omega))]
  exact best_skip d k fun o h1 h2=>h o h1 (by omega)
theorem best_full {b:List Int} {at_:Nat}:∀ (d k:Nat),(bestN b at_ k).1=258→bestN b at_ (k+d)=bestN b at_ k
 | 0,k,_=>rfl
 | d+1,k,h=>by
  have e:=best_full d k h
  show upd1 (bestN b at_ (k+d)) (k+d+1) (cmL b (at_-(k+d+1)) at_)=_
  unfold upd1
  have:=(cm_le b (p:=at_-(k+d+1)) (at_:=at_)).1
  rw [e,if_neg (by omega)]
def cmS (x:T_match_index) (p at_ v2:Int):((Int))→Option ((Int)⊕((Int)⊕(Int×T_match_index))):=(fun (s21:Int) =>
 bindS (S:=Bool) (A:=((Int)⊕((Int)⊕(Int×T_match_index))))
  (cond ((decide (s21<v2)))
   ((some (IntKind.i64.wrap (p+s21))).bind fun v3 =>
   (ixO v3 x.b.length).bind fun v4 =>
   (getO x.b v4).bind fun v5 =>
   (some (IntKind.i64.wrap (at_+s21))).bind fun v6 =>
   (ixO v6 x.b.length).bind fun v7 =>
   (getO x.b v7).bind fun v8 =>
   some (.inl (v5==v8)))
   (some (.inl false)))
  (fun (s34:Bool) =>
   cond (s34)
    ((some (IntKind.i64.wrap (s21+1))).bind fun v14 =>
    some (.inl v14))
    (some (.inr (.inl s21)))) some)
/-! What is known of the places gone by. -/
def prv (b:List Int) (f:Nat) (k:List Int):Nat→Nat
 | 0=>0
 | p+1=>if f≤p∧key b p=k then p+1 else prv b f k p
theorem prv_le (b:List Int) (f:Nat) (k:List Int):∀ p,prv b f k p≤p
 | 0=>Nat.le_refl _
 | p+1=>by
  have:=prv_le b f k p
  unfold prv
  split <;> omega
theorem prv_is (b:List Int) (f:Nat) (k:List Int):∀ p q,prv b f k p=q+1→f≤q∧q<p∧key b q=k
 | 0,q,h=>by simp [prv] at h
 | p+1,q,h=>by
  unfold prv at h
  split at h
  ·rename_i hc
   obtain rfl:p=q:=by omega
   exact ⟨hc.1,by omega,hc.2⟩
  ·obtain ⟨h1,h2,h3⟩:=prv_is b f k p q h
   exact ⟨h1,by omega,h3⟩
theorem prv_no (b:List Int) (f:Nat) (k:List Int):∀ p q,prv b f k p≤q→q<p→f≤q→key b q≠k
 | 0,q,_,h,_=>by omega
 | p+1,q,h1,h2,h3=>by
  unfold prv at h1
  split at h1
  ·omega
  ·rename_i hc
   by_cases e:q=p
   ·subst e
    exact fun hk=>hc ⟨h3,hk⟩
   ·exact prv_no b f k p q h1 (by omega) h3
theorem prv_skip {b:List Int} {f p:Nat} {k:List Int} (h:key b p≠k):prv b f k (p+1)=prv b f k p:=by
 conv=>lhs; unfold prv
 rw [if_neg fun hc=>h hc.2]
theorem prv_hit {b:List Int} {f p:Nat} (h:f≤p):prv b f (key b p) (p+1)=p+1:=by
 unfold prv
 rw [if_pos ⟨h,rfl⟩]
structure Ixd (b:List Int) (f cur:Nat) (x:T_match_index):Prop where
 hb:x.b=b
 hf:x.from_=(f:Int)
 la:∀ k:List Int,k.length=3→(x.last.lookup k).getD 0=((prv b f k cur:Nat):Int)
 bk:∀ p,f≤p→p<cur→p+3≤b.length→x.back[p-f]? = some ((prv b f (key b p) p:Nat):Int)
 bl:x.back.length=min cur (b.length-2)-f
 ll:x.last.length≤cur
theorem ln_of {A:Type} {n:Nat} {l:List A} (h:l.length=n):lnO n l=some l:=by unfold lnO; rw [if_pos h]
theorem prv_f (b:List Int) (f:Nat) (k:List Int):prv b f k f=0:=by
 cases h:prv b f k f with
 | zero=>rfl
 | succ q=>have:=prv_is b f k f q h; omega
theorem ix_new (b:List Int) (f:Nat):Ixd b f f (T_match_index.mk b [] [] (f:Int)) :=
 ⟨rfl,rfl,fun k _=>by rw [prv_f]; rfl,fun p h1 h2=>by omega,by simp; omega,Nat.zero_le _⟩
theorem key_byB {b:List Int} (hb:∀ n∈b,0≤n∧n<256) (p:Nat):byB (key b p)=true:=by
 unfold byB
 rw [List.all_eq_true]
 intro x hx
 have:=hb x (List.mem_of_mem_drop (List.mem_of_mem_take hx))
 simpa using this
theorem start_eq {b:List Int} {f cur at_:Nat} {x:T_match_index} (h:Ixd b f cur x) (hl:b.length≤5000) (ha:at_≤b.length) :
  match_index_startAt x (at_:Int)=some (if b.length<at_+3 then ([0,0,0],false,x) else (key b at_,true,x)):=by
 unfold match_index_startAt
 have hw:IntKind.i64.wrap ((at_:Int)+3)=((at_+3:Nat):Int):=by rw [wrap_i64 (by omega) (by omega)]; simp
 rw [h.hb]
 refine bnd (congrArg some hw) ?_
 by_cases hc:b.length<at_+3
 ·rw [if_pos hc]
  exact cnd_t (decide_eq_true (by omega)) (bnd (ln_of rfl) (bnd (ln_of rfl) (bnd (ln_of rfl) rfl)))
 ·rw [if_neg hc]
  have hk3:(key b at_).length=3:=by rw [key_len]; omega
  have hs:=sli_nat b (a:=at_) (b:=at_+3) (by omega) (by omega)
  have e:(b.drop at_).take (at_+3-at_)=key b at_:=by unfold key; rw [Nat.add_sub_cancel_left]
  rw [e] at hs
  have har:arrO 3 (key b at_)=some (key b at_):=by
   unfold arrO
   rw [if_pos (by omega),List.take_of_length_le (by omega)]
  exact cnd_f (decide_eq_false (by omega)) (bnd (congrArg some hw) (bnd hs (bnd har (bnd (ln_of rfl) (bnd (ln_of hk3) (bnd (ln_of hk3) rfl))))))
theorem getO_q {A:Type} {l:List A} {i:Nat} (h:i<l.length):∃ v,getO l i=some v∧l[i]? = some v:=⟨l[i],getO_of h,List.getElem?_eq_getElem h⟩
theorem common_eq {b:List Int} {p at_:Nat} {x:T_match_index} (hxb:x.b=b) (hl:b.length≤5000) (hp:p<at_) (h3:at_+3≤b.length) (hk:key b p=key b at_) :
  match_index_common x (p:Int) (at_:Int)=some (((cmL b p at_:Nat):Int),x):=by
 have hm:=(cm_key (by omega) h3).1 hk
 have hle:=cm_le b (p:=p) (at_:=at_)
 unfold match_index_common
 rw [hxb]
 have hw:IntKind.i64.wrap ((b.length:Int)-(at_:Int))=((b.length-at_:Nat):Int):=by rw [wrap_i64 (by omega) (by omega)]; omega
 have hv2:(if ((b.length-at_:Nat):Int)<258 then ((b.length-at_:Nat):Int) else 258)=((min 258 (b.length-at_):Nat):Int):=by
  by_cases h:b.length-at_<258
  ·rw [if_pos (by omega)]; omega
  ·rw [if_neg (by omega)]; omega
 refine bnd (congrArg some hw) (bnd (congrArg some hv2) (bndL (s:=((cmL b p at_:Nat):Int)) ?_ rfl))
 have hgo:∀ i:Nat,i<min 258 (b.length-at_)→∃ u v:Int,b[p+i]? = some u∧b[at_+i]? = some v∧((cond ((decide ((i:Int)<((min 258 (b.length-at_):Nat):Int))))
     ((some (IntKind.i64.wrap ((p:Int)+(i:Int)))).bind fun v3 =>
     (ixO v3 b.length).bind fun v4 =>
     (getO b v4).bind fun v5 =>
     (some (IntKind.i64.wrap ((at_:Int)+(i:Int)))).bind fun v6 =>
     (ixO v6 b.length).bind fun v7 =>
     (getO b v7).bind fun v8 =>
     some (.inl (v5==v8)))
     (some (.inl false)):Option (Bool⊕(Int⊕(Int⊕(Int×T_match_index)))))=some (.inl (u==v))):=by
  intro i hi
  obtain ⟨u,hu,hu2⟩:=getO_q (l:=b) (i:=p+i) (by omega)
  obtain ⟨v,hv,hv2⟩:=getO_q (l:=b) (i:=at_+i) (by omega)
  refine ⟨u,v,hu2,hv2,cnd_t (decide_eq_true (by omega)) (bnd (x:=((p+i:Nat):Int)) (by rw [wrap_i64 (by omega) (by omega)]; simp) (bnd (ixO_of (by omega)) (bnd hu (bnd (x:=((at_+i:Nat):Int)) (by rw [wrap_i64 (by omega) (by omega)]; simp) (bnd (ixO_of (by omega)) (bnd hv rfl))))))⟩
 rw [show (3:Int)=((3:Nat):Int) from rfl]
 have hlp:=loop_from (f:=cmS { x with b:=b } (p:Int) (at_:Int) ((min 258 (b.length-at_):Nat):Int)) (s:=((3:Nat):Int)) (o := .inl ((cmL b p at_:Nat):Int)) (fun i=>((3+i:Nat):Int)) (cmL b p at_-3) BIG rfl (by simp only [BIG]; omega) (fun i hi=>by
   obtain ⟨u,v,hu,hv,he⟩:=hgo (3+i) (by omega)
   have:=cm_get (b:=b) (p:=p) (at_:=at_) (k:=3+i) (by omega)
   rw [hu,hv] at this
   obtain rfl:=Option.some.inj this
   rw [beq_self_eq_true] at he
   exact bndL he (cnd_t rfl (bnd (congrArg some (wrap_succ (n:=3+i) (by omega))) rfl)))
  (by
   have e3:3+(cmL b p at_-3)=cmL b p at_:=by omega
   rw [e3]
   by_cases hend:cmL b p at_<min 258 (b.length-at_)
   ·obtain ⟨u,v,hu,hv,he⟩:=hgo (cmL b p at_) hend
    have:=cm_stop (b:=b) (p:=p) (at_:=at_) (by omega) (by omega) (by omega)
    rw [hu,hv] at this
    have hne:(u==v)=false:=beq_eq_false_iff_ne.2 fun h=>this (by rw [h])
    rw [hne] at he
    exact bndL he (cnd_f rfl rfl)
   ·exact bndL (s:=false) (cnd_f (decide_eq_false (by omega)) rfl) (cnd_f rfl rfl))
 exact hlp
theorem add_eq {b:List Int} {f cur:Nat} {x:T_match_index} (h:Ixd b f cur x) (hb:∀ n∈b,0≤n∧n<256) (hl:b.length≤5000) (hc:cur<b.length) (hfc:f≤cur):∃ y,match_index_add x (cur:Int)=some y∧Ixd b f (cur+1) y:=by
 have hs:=start_eq h hl (Nat.le_of_lt hc)
 unfold match_index_add
 by_cases h3:b.length<cur+3
 ·rw [if_pos h3] at hs
  refine ⟨x,bnd hs (bnd (ln_of rfl) (bnd (ln_of rfl) (cnd_t rfl rfl))),h.hb,h.hf,fun k hk => ?_,fun p h1 h2 h4 => ?_,?_,Nat.le_succ_of_le h.ll⟩
  ·rw [prv_skip (fun e=>by have:=congrArg List.length e; rw [key_len] at this; omega)]
   exact h.la k hk
  ·exact h.bk p h1 (by omega) h4
  ·rw [h.bl]; omega
 ·rw [if_neg h3] at hs
  have hk3:(key b cur).length=3:=by rw [key_len]; omega
  have hla:=h.la _ hk3
  have hbl:x.back.length=cur-f:=by rw [h.bl]; omega
  have hg:mgetO 3 x.last (key b cur)=some ((prv b f (key b cur) cur:Nat):Int):=by
   unfold mgetO
   rw [if_pos ⟨hk3,key_byB hb cur⟩,hla]
  have hap:appO 8 x.back [((prv b f (key b cur) cur:Nat):Int)]=some (x.back++[((prv b f (key b cur) cur:Nat):Int)]):=app_of (by simp only [List.length_cons,List.length_nil]; omega) (by simp only [List.length_cons,List.length_nil]; omega)
  have hll:=h.ll
  have hp:mputO 3 x.last (key b cur) ((cur+1:Nat):Int)=some ((key b cur,((cur+1:Nat):Int))::x.last):=by
   unfold mputO
   rw [if_pos ⟨⟨hk3,key_byB hb cur⟩,by omega,by omega,by omega⟩]
  refine ⟨T_match_index.mk x.b ((key b cur,((cur+1:Nat):Int))::x.last) (x.back++[((prv b f (key b cur) cur:Nat):Int)]) x.from_,bnd hs (bnd (ln_of rfl) (bnd (ln_of hk3) (cnd_f rfl (bnd (ln_of hk3) (bnd hg (bnd hap (bnd (ln_of hk3) (bnd (congrArg some (wrap_succ (n:=cur) (by omega))) (bnd hp rfl))))))))),h.hb,h.hf,fun k hk => ?_,fun p h1 h2 h4 => ?_,?_,?_⟩
  ·show (((key b cur,((cur+1:Nat):Int))::x.last).lookup k).getD 0=_
   rw [List.lookup_cons]
   by_cases e:k=key b cur
   ·subst e
    rw [beq_self_eq_true,prv_hit hfc]
    rfl
   ·have:(k==key b cur)=false:=beq_eq_false_iff_ne.2 e
    rw [this,prv_skip (fun h=>e h.symm)]
    exact h.la k hk
  ·show (x.back++[((prv b f (key b cur) cur:Nat):Int)])[p-f]? = _
   by_cases e:p=cur
   ·subst e
    rw [List.getElem?_append_right (by omega),hbl]
    simp
   ·rw [List.getElem?_append_left (by omega)]
    exact h.bk p h1 (by omega) h4
  ·show (x.back++[_]).length=_
   rw [List.length_append,hbl,List.length_cons,List.length_nil]; omega
  ·show x.last.length+1≤cur+1
   omega
def beS (at_:Int):(((List Int)×(List ((List Int)×Int))×(List Int)×Int×Int×Int×Int))→Option (((List Int)×(List ((List Int)×Int))×(List Int)×Int×Int×Int×Int)⊕(((List Int)×(List ((List Int)×Int))×(List Int)×Int×Int×Int)⊕(((List Int)×(List ((List Int)×Int))×(List Int)×Int×Int×Int)⊕(Int×Int×T_match_index)))):=(fun ((s159,s160,s161,s162,s163,s164,s165):(List Int)×(List ((List Int)×Int))×(List Int)×Int×Int×Int×Int) =>
   bindS (S:=Bool) (A:=(((List Int)×(List ((List Int)×Int))×(List Int)×Int×Int×Int×Int)⊕(((List Int)×(List ((List Int)×Int))×(List Int)×Int×Int×Int)⊕(((List Int)×(List ((List Int)×Int))×(List Int)×Int×Int×Int)⊕(Int×Int×T_match_index)))))
    (cond ((decide (s162≤s165)))
     ((some (IntKind.i64.wrap (at_-s165))).bind fun v8 =>
     some (.inl ((decide (v8≤2048)))))
     (some (.inl false)))
    (fun (s195:Bool) =>
     cond (s195)
      (bindS (S:=Int×Int×(List Int)×(List ((List Int)×Int))×(List Int)×Int) (A:=(((List Int)×(List ((List Int)×Int))×(List Int)×Int×Int×Int×Int)⊕(((List Int)×(List ((List Int)×Int))×(List Int)×Int×Int×Int)⊕(((List Int)×(List ((List Int)×Int))×(List Int)×Int×Int×Int)⊕(Int×Int×T_match_index)))))
       ((match_index_common (T_match_index.mk s159 s160 s161 s162) s165 at_).bind fun v14 =>
       cond ((decide (s163<v14.1)))
        ((some (IntKind.i64.wrap (at_-s165))).bind fun v16 =>
        some (.inl (v14.1,v16,v14.2.b,v14.2.last,v14.2.back,v14.2.from_)))
        (some (.inl (s163,s164,v14.2.b,v14.2.last,v14.2.back,v14.2.from_))))
       (fun ((s201,s202,s203,s204,s205,s206):Int×Int×(List Int)×(List ((List Int)×Int))×(List Int)×Int) =>
        cond ((s201==258))
         (some (.inr (.inl (s203,s204,s205,s206,s201,s202))))
         ((some (IntKind.i64.wrap (s165-s206))).bind fun v28 =>
         (ixO v28 s205.length).bind fun v29 =>
         (getO s205 v29).bind fun v30 =>
         (some (IntKind.i64.wrap (v30-1))).bind fun v31 =>
         some (.inl (s203,s204,s205,s206,s201,s202,v31)))) some)
      (some (.inr (.inl (s159,s160,s161,s162,s163,s164))))) some)
theorem best_loop {b:List Int} {f at_:Nat} {x:T_match_index} (h:Ixd b f at_ x) (hl:b.length≤5000) (h3:at_+3≤b.length) (hf:f≤at_-min at_ 2048) :
  ∀ (q fuel:Nat),q≤at_→at_-q≤min at_ 2048→q<fuel→(clp (bestN b at_ (at_-q))).1<258 →
   loopF (beS (at_:Int)) fuel (b,x.last,x.back,(f:Int),(((clp (bestN b at_ (at_-q))).1:Nat):Int),(((clp (bestN b at_ (at_-q))).2:Nat):Int),((prv b f (key b at_) q:Nat):Int)-1) =
    some (.inl (b,x.last,x.back,(f:Int),(((bestS b at_).1:Nat):Int),(((bestS b at_).2:Nat):Int))):=by
 intro q
 induction q using Nat.strongRecOn with
 | _ q ih =>
 intro fuel hq hq2 hfu h258
 obtain ⟨fu,rfl⟩:∃ fu,fuel=fu+1:=⟨fuel-1,by omega⟩
 obtain ⟨s,hs⟩:∃ s,s=clp (bestN b at_ (at_-q)):=⟨_,rfl⟩
 have hnear:∀ o,at_-q<o→o≤min at_ 2048→prv b f (key b at_) q≤at_-o→cmL b (at_-o) at_<3:=by
  intro o h1 h2 h4
  have hno:=prv_no b f (key b at_) q (at_-o) h4 (by omega) (by omega)
  apply Classical.byContradiction
  intro hc
  exact hno ((cm_key (by omega) h3).2 (by omega))
 have hend:(∀ o,at_-q<o→o≤min at_ 2048→prv b f (key b at_) q≤at_-o)→s=bestS b at_:=by
  intro hall
  have:=best_skip (b:=b) (at_:=at_) (min at_ 2048-(at_-q)) (at_-q) fun o h1 h2=>hnear o h1 (by omega) (hall o h1 (by omega))
  rw [show at_-q+(min at_ 2048-(at_-q))=min at_ 2048 by omega] at this
  unfold bestS
  rw [this,hs]
 rw [← hs] at h258 ⊢
 cases hc:prv b f (key b at_) q with
 | zero =>
  have:=hend fun o h1 h2=>by rw [hc]; omega
  rw [this]
  exact loop_exit (bndL (s:=false) (cnd_f (decide_eq_false (by omega)) rfl) (cnd_f rfl rfl))
 | succ r =>
  obtain ⟨hr1,hr2,hr3⟩:=prv_is b f (key b at_) q r hc
  have hp:((r+1:Nat):Int)-1=(r:Int):=by omega
  rw [hp]
  have hw:IntKind.i64.wrap ((at_:Int)-(r:Int))=((at_-r:Nat):Int):=by rw [wrap_i64 (by omega) (by omega)]; omega
  have hd1:decide ((f:Int)≤(r:Int))=true:=decide_eq_true (by omega)
  by_cases h20:at_-r≤2048
  case neg =>
   have:=hend fun o h1 h2=>by rw [hc]; omega
   rw [this]
   exact loop_exit (bndL (s:=false) (cnd_t hd1 (bnd (congrArg some hw) (by rw [decide_eq_false (by omega)]))) (cnd_f rfl rfl))
  have hcm:=common_eq (x:=T_match_index.mk b x.last x.back (f:Int)) rfl hl (by omega:r<at_) h3 hr3
  have hm3:=(cm_key (by omega) h3).1 hr3
  have hm8:=(cm_le b (p:=r) (at_:=at_)).1
  have hsk:=best_skip (b:=b) (at_:=at_) (at_-r-1-(at_-q)) (at_-q) fun o h1 h2=>hnear o h1 (by omega) (by rw [hc]; omega)
  rw [show at_-q+(at_-r-1-(at_-q))=at_-r-1 by omega,← hs] at hsk
  have hup:clp (bestN b at_ (at_-r))=if s.1<cmL b r at_ then (cmL b r at_,at_-r) else s:=by
   have e:bestN b at_ (at_-r)=upd1 (bestN b at_ (at_-r-1)) (at_-r) (cmL b r at_):=by
    have e1:at_-r=(at_-r-1)+1:=by omega
    have e2:at_-(at_-r-1+1)=r:=by omega
    conv=>lhs; rw [e1]
    show upd1 (bestN b at_ (at_-r-1)) (at_-r-1+1) (cmL b (at_-(at_-r-1+1)) at_)=_
    rw [e2,← e1]
   rw [e,clp_high hm3,hsk]
  have hfirst:(cond ((decide ((f:Int)≤(r:Int)))) ((some (IntKind.i64.wrap ((at_:Int)-(r:Int)))).bind fun v8=>some (.inl ((decide (v8≤2048))))) (some (.inl false)):Option (Bool⊕(((List Int)×(List ((List Int)×Int))×(List Int)×Int×Int×Int×Int)⊕(((List Int)×(List ((List Int)×Int))×(List Int)×Int×Int×Int)⊕(((List Int)×(List ((List Int)×Int))×(List Int)×Int×Int×Int)⊕(Int×Int×T_match_index))))))=some (.inl true) :=
   cnd_t hd1 (bnd (congrArg some hw) (by rw [decide_eq_true (by omega)]))
  obtain ⟨u,hu⟩:∃ u,u=clp (bestN b at_ (at_-r)):=⟨_,rfl⟩
  have hsecond:((match_index_common (T_match_index.mk b x.last x.back (f:Int)) (r:Int) (at_:Int)).bind fun v14 =>
         cond ((decide (((s.1:Nat):Int)<v14.1)))
          ((some (IntKind.i64.wrap ((at_:Int)-(r:Int)))).bind fun v16 =>
          some (.inl (v14.1,v16,v14.2.b,v14.2.last,v14.2.back,v14.2.from_)))
          (some (.inl (((s.1:Nat):Int),((s.2:Nat):Int),v14.2.b,v14.2.last,v14.2.back,v14.2.from_))):Option ((Int×Int×(List Int)×(List ((List Int)×Int))×(List Int)×Int)⊕(((List Int)×(List ((List Int)×Int))×(List Int)×Int×Int×Int×Int)⊕(((List Int)×(List ((List Int)×Int))×(List Int)×Int×Int×Int)⊕(((List Int)×(List ((List Int)×Int))×(List Int)×Int×Int×Int)⊕(Int×Int×T_match_index))))))=some (.inl (((u.1:Nat):Int),((u.2:Nat):Int),b,x.last,x.back,(f:Int))):=by
   refine bnd hcm ?_
   by_cases hlt:s.1<cmL b r at_
   ·rw [if_pos hlt] at hup
    rw [hu,hup]
    exact cnd_t (decide_eq_true (by show ((s.1:Nat):Int)<((cmL b r at_:Nat):Int); omega)) (bnd (congrArg some hw) rfl)
   ·rw [if_neg hlt] at hup
    rw [hu,hup]
    exact cnd_f (decide_eq_false (by show ¬ ((s.1:Nat):Int)<((cmL b r at_:Nat):Int); omega)) rfl
  by_cases hfull:u.1=258
  ·have hb:(bestN b at_ (at_-r)).1=258:=by
    rw [hu] at hfull
    unfold clp at hfull
    split at hfull
    ·simp at hfull
    ·exact hfull
   have hbf:=best_full (min at_ 2048-(at_-r)) (at_-r) hb
   rw [show at_-r+(min at_ 2048-(at_-r))=min at_ 2048 by omega] at hbf
   have hS:u=bestS b at_:=by rw [hu]; unfold bestS; rw [hbf]
   rw [← hS]
   exact loop_exit (bndL hfirst (cnd_t rfl (bndL hsecond (cnd_t (beq_iff_eq.2 (by omega)) rfl))))
  ·have hlt258:u.1<258:=by
    have:u.1≤258:=by
     rw [hu]
     unfold clp
     split
     ·simp
     ·exact (bestN_le b at_ _).1
    omega
   have hbk:=h.bk r hr1 (by omega) (by omega)
   rw [hr3] at hbk
   have hbl:=h.bl
   have hpl:=prv_le b f (key b at_) r
   have hgo:getO x.back (r-f)=some ((prv b f (key b at_) r:Nat):Int):=hbk
   have hix:ixO ((r-f:Nat):Int) x.back.length=some (r-f):=ixO_of (by rw [hbl]; omega)
   have hw2:IntKind.i64.wrap ((r:Int)-(f:Int))=((r-f:Nat):Int):=by rw [wrap_i64 (by omega) (by omega)]; omega
   have hw3:IntKind.i64.wrap (((prv b f (key b at_) r:Nat):Int)-1)=((prv b f (key b at_) r:Nat):Int)-1:=wrap_i64 (by omega) (by omega)
   refine (loop_next (bndL hfirst (cnd_t rfl (bndL hsecond (cnd_f (beq_eq_false_iff_ne.2 (by omega)) (bnd (congrArg some hw2) (bnd hix (bnd hgo (bnd (congrArg some hw3) rfl))))))))).trans ?_
   have:=ih r hr2 fu (by omega) (by omega) (by omega) (by rw [← hu]; exact hlt258)
   rw [← hu] at this
   exact this
theorem best_eq {b:List Int} {f at_:Nat} {x:T_match_index} (h:Ixd b f at_ x) (hb:∀ n∈b,0≤n∧n<256) (hl:b.length≤5000) (ha:at_<b.length) (hf:f≤at_-min at_ 2048) :
  match_index_best x (at_:Int)=some (((bestS b at_).1:Int),((bestS b at_).2:Int),x):=by
 have hs:=start_eq h hl (Nat.le_of_lt ha)
 unfold match_index_best
 by_cases h3:b.length<at_+3
 ·rw [if_pos h3] at hs
  have h0:bestS b at_=(0,0):=by
   unfold bestS clp
   rw [if_pos (by have:=(bestN_le b at_ (min at_ 2048)).2.1; omega)]
  rw [h0]
  exact bnd hs (bnd (ln_of rfl) (bnd (ln_of rfl) (cnd_t rfl rfl)))
 ·rw [if_neg h3] at hs
  have hk3:(key b at_).length=3:=by rw [key_len]; omega
  have hla:=h.la _ hk3
  have hg:mgetO 3 x.last (key b at_)=some ((prv b f (key b at_) at_:Nat):Int):=by
   unfold mgetO
   rw [if_pos ⟨hk3,key_byB hb at_⟩,hla]
  have hpl:=prv_le b f (key b at_) at_
  have hw3:IntKind.i64.wrap (((prv b f (key b at_) at_:Nat):Int)-1)=((prv b f (key b at_) at_:Nat):Int)-1:=wrap_i64 (by omega) (by omega)
  have hlp:=best_loop h hl (by omega) hf at_ BIG (Nat.le_refl _) (by omega) (by simp only [BIG]; omega) (by rw [Nat.sub_self]; show (clp (0,0)).1<258; decide)
  rw [Nat.sub_self] at hlp
  have hxb:=h.hb
  have hxf:=h.hf
  refine bnd hs (bnd (ln_of rfl) (bnd (ln_of hk3) (cnd_f rfl (bndL (s:=(b,x.last,x.back,(f:Int),(((bestS b at_).1:Nat):Int),(((bestS b at_).2:Nat):Int))) (bnd (ln_of hk3) (bnd hg (bnd (congrArg some hw3) (bndL (s:=(b,x.last,x.back,(f:Int),(((bestS b at_).1:Nat):Int),(((bestS b at_).2:Nat):Int))) ?_ rfl)))) ?_))))
  ·show loopF (beS (at_:Int)) BIG (x.b,x.last,x.back,x.from_,0,0,_)=_
   rw [hxb,hxf]
   exact hlp
  ·show some (_,_,T_match_index.mk b x.last x.back (f:Int))=_
   rw [← hxf,← hxb]
def tkS (b:List Int):(((List T_Tok)×(List Int)×(List ((List Int)×Int))×(List Int)×Int×Int))→Option (((List T_Tok)×(List Int)×(List ((List Int)×Int))×(List Int)×Int×Int)⊕(((List T_Tok))⊕((List T_Tok)×Int))):=(fun ((s88,s89,s90,s91,s92,s93):(List T_Tok)×(List Int)×(List ((List Int)×Int))×(List Int)×Int×Int) =>
   cond ((decide (s93<(b.length:Int))))
    ((match_index_best (T_match_index.mk s89 s90 s91 s92) s93).bind fun v6 =>
    bindS (S:=Int×Int) (A:=(((List T_Tok)×(List Int)×(List ((List Int)×Int))×(List Int)×Int×Int)⊕(((List T_Tok))⊕((List T_Tok)×Int))))
     (cond ((v6.1==0))
      ((ixO s93 b.length).bind fun v8 =>
      (getO b v8).bind fun v9 =>
      some (.inl (v9,1)))
      (some (.inl (0,v6.1))))
     (fun ((s138,s139):Int×Int) =>
      (appO 24 s88 [(T_Tok.mk s138 v6.1 v6.2.1)]).bind fun v16 =>
      bindS (S:=((List Int)×(List ((List Int)×Int))×(List Int)×Int×Int)) (A:=(((List T_Tok)×(List Int)×(List ((List Int)×Int))×(List Int)×Int×Int)⊕(((List T_Tok))⊕((List T_Tok)×Int))))
       (loopF (S:=((List Int)×(List ((List Int)×Int))×(List Int)×Int×Int×Int)) (O:=((List Int)×(List ((List Int)×Int))×(List Int)×Int×Int)⊕(((List T_Tok)×(List Int)×(List ((List Int)×Int))×(List Int)×Int×Int)⊕(((List T_Tok))⊕((List T_Tok)×Int)))) (fun ((s152,s153,s154,s155,s156,s157):(List Int)×(List ((List Int)×Int))×(List Int)×Int×Int×Int) =>
        cond ((decide (0<s157)))
         ((match_index_add (T_match_index.mk s152 s153 s154 s155) s156).bind fun v18 =>
         (some (IntKind.i64.wrap (s156+1))).bind fun v19 =>
         (some (IntKind.i64.wrap (s157-1))).bind fun v20 =>
         some (.inl (v18.b,v18.last,v18.back,v18.from_,v19,v20)))
         (some (.inr (.inl (s152,s153,s154,s155,s156)))))
        BIG (v6.2.2.b,v6.2.2.last,v6.2.2.back,v6.2.2.from_,s93,s139))
       (fun ((s159,s160,s161,s162,s163):(List Int)×(List ((List Int)×Int))×(List Int)×Int×Int) =>
        some (.inl (v16,s159,s160,s161,s162,s163))) some) some)
    (some (.inr (.inl s88))))
def taS:(((List Int)×(List ((List Int)×Int))×(List Int)×Int×Int×Int))→Option (((List Int)×(List ((List Int)×Int))×(List Int)×Int×Int×Int)⊕(((List Int)×(List ((List Int)×Int))×(List Int)×Int×Int)⊕(((List T_Tok)×(List Int)×(List ((List Int)×Int))×(List Int)×Int×Int)⊕(((List T_Tok))⊕((List T_Tok)×Int))))):=(fun ((s152,s153,s154,s155,s156,s157):(List Int)×(List ((List Int)×Int))×(List Int)×Int×Int×Int) =>
        cond ((decide (0<s157)))
         ((match_index_add (T_match_index.mk s152 s153 s154 s155) s156).bind fun v18 =>
         (some (IntKind.i64.wrap (s156+1))).bind fun v19 =>
         (some (IntKind.i64.wrap (s157-1))).bind fun v20 =>
         some (.inl (v18.b,v18.last,v18.back,v18.from_,v19,v20)))
         (some (.inr (.inl (s152,s153,s154,s155,s156)))))
theorem bestS_cases (b:List Int) (at_:Nat):bestS b at_=(0,0)∨(3≤(bestS b at_).1∧(bestS b at_).1≤258∧at_+(bestS b at_).1≤b.length∧1≤(bestS b at_).2∧(bestS b at_).2≤min at_ 2048∧cmL b (at_-(bestS b at_).2) at_=(bestS b at_).1):=by
 have h1:=bestN_le b at_ (min at_ 2048)
 have h2:=bestN_is b at_ (min at_ 2048)
 unfold bestS clp
 by_cases h:(bestN b at_ (min at_ 2048)).1<3
 ·rw [if_pos h]; exact .inl rfl
 ·rw [if_neg h]
  rcases h2 with h2 | ⟨h3,h4,h5⟩
  ·rw [h2] at h; exact absurd (by decide) h
  ·exact .inr ⟨by omega,h1.1,by omega,h3,h1.2.2,h4.symm⟩
def toks (b:List Int):Nat→Nat→List T_Tok
 | 0,_=>[]
 | k+1,at_=>if at_<b.length then (if (bestS b at_).1=0 then ⟨b.getD at_ 0,0,0⟩::toks b k (at_+1) else ⟨0,((bestS b at_).1:Int),((bestS b at_).2:Int)⟩::toks b k (at_+(bestS b at_).1)) else []
def toksS (b:List Int):List T_Tok:=toks b b.length 0
theorem toks_end {b:List Int} {at_:Nat} (h:b.length≤at_):∀ k,toks b k at_=[]
 | 0=>rfl
 | k+1=>by unfold toks; rw [if_neg (by omega)]
theorem toks_len (b:List Int):∀ k at_,(toks b k at_).length≤b.length-at_
 | 0,_=>Nat.zero_le _
 | k+1,at_=>by
  unfold toks
  split
  ·split
   ·have:=toks_len b k (at_+1)
    simp only [List.length_cons]; omega
   ·have:=toks_len b k (at_+(bestS b at_).1)
    simp only [List.length_cons]; omega
  ·simp
theorem ta_loop {b:List Int} (hb:∀ n∈b,0≤n∧n<256) (hl:b.length≤5000):∀ (n cur fuel:Nat) (x:T_match_index),Ixd b 0 cur x→cur+n≤b.length→n<fuel →
  ∃ y,Ixd b 0 (cur+n) y∧loopF taS fuel (x.b,x.last,x.back,x.from_,(cur:Int),(n:Int))=some (.inl (y.b,y.last,y.back,y.from_,((cur+n:Nat):Int)))
 | 0,cur,fuel,x,h,hc,hf=>by
  obtain ⟨fu,rfl⟩:∃ fu,fuel=fu+1:=⟨fuel-1,by omega⟩
  exact ⟨x,h,loop_exit (show taS (x.b,x.last,x.back,x.from_,(cur:Int),((0:Nat):Int))=some (.inr (.inl (x.b,x.last,x.back,x.from_,(cur:Int)))) from rfl)⟩
 | n+1,cur,fuel,x,h,hc,hf=>by
  obtain ⟨fu,rfl⟩:∃ fu,fuel=fu+1:=⟨fuel-1,by omega⟩
  obtain ⟨y,hy,hi⟩:=add_eq h hb hl (by omega) (Nat.zero_le _)
  obtain ⟨z,hz,hlp⟩:=ta_loop hb hl n (cur+1) fu y hi (by omega) (by omega)
  refine ⟨z,by rw [show cur+(n+1)=cur+1+n by omega]; exact hz,?_⟩
  have hw:IntKind.i64.wrap (((n+1:Nat):Int)-1)=(n:Int):=by rw [wrap_i64 (by omega) (by omega)]; omega
  have hstep:taS (x.b,x.last,x.back,x.from_,(cur:Int),((n+1:Nat):Int))=some (.inl (y.b,y.last,y.back,y.from_,((cur+1:Nat):Int),(n:Int))) :=
   cnd_t (decide_eq_true (by omega)) (bnd hy (bnd (congrArg some (wrap_succ (n:=cur) (by omega))) (bnd (congrArg some hw) rfl)))
  rw [show ((cur+(n+1):Nat):Int)=((cur+1+n:Nat):Int) by omega]
  exact (loop_next hstep).trans hlp
theorem tk_loop {b:List Int} (hb:∀ n∈b,0≤n∧n<256) (hl:b.length≤5000):∀ (k at_ fuel:Nat) (l:List T_Tok) (x:T_match_index),Ixd b 0 at_ x→at_≤b.length→b.length-at_≤k→k<fuel→l.length≤at_ →
  loopF (tkS b) fuel (l,x.b,x.last,x.back,x.from_,(at_:Int))=some (.inl (l++toks b k at_))
 | 0,at_,fuel,l,x,h,ha,hk,hf,hll=>by
  obtain ⟨fu,rfl⟩:∃ fu,fuel=fu+1:=⟨fuel-1,by omega⟩
  rw [toks,List.append_nil]
  exact loop_exit (cnd_f (decide_eq_false (by omega)) rfl)
 | k+1,at_,fuel,l,x,h,ha,hk,hf,hll=>by
  obtain ⟨fu,rfl⟩:∃ fu,fuel=fu+1:=⟨fuel-1,by omega⟩
  by_cases he:at_<b.length
  case neg =>
   rw [toks_end (by omega),List.append_nil]
   exact loop_exit (cnd_f (decide_eq_false (by omega)) rfl)
  have hbe:=best_eq h hb hl he (by omega)
  have hg:getO b at_=some (b.getD at_ 0):=by
   rw [List.getD_eq_getElem?_getD,List.getElem?_eq_getElem he,Option.getD_some]; exact getO_of he
  unfold toks
  rw [if_pos he]
  have hap:∀ t:T_Tok,appO 24 l [t]=some (l++[t]):=fun t=>app_of (by simp only [List.length_cons,List.length_nil]; omega) (by simp only [List.length_cons,List.length_nil]; omega)
  rcases bestS_cases b at_ with h0 | ⟨c1,c2,c3,c4,c5,c6⟩
  ·rw [h0] at hbe ⊢
   rw [if_pos rfl]
   obtain ⟨y,hy,hlp⟩:=ta_loop hb hl 1 at_ BIG x h (by omega) (by simp only [BIG]; omega)
   have hn:=tk_loop hb hl k (at_+1) fu (l++[⟨b.getD at_ 0,0,0⟩]) y hy (by omega) (by omega) (by omega) (by simp; omega)
   rw [List.append_assoc] at hn
   exact (loop_next (cnd_t (decide_eq_true (by omega)) (bnd hbe (bndL (s:=(b.getD at_ 0,1)) (cnd_t rfl (bnd (ixO_of he) (bnd hg rfl))) (bnd (hap _) (bndL hlp rfl)))))).trans hn
  ·rw [if_neg (by omega)]
   obtain ⟨y,hy,hlp⟩:=ta_loop hb hl (bestS b at_).1 at_ BIG x h (by omega) (by simp only [BIG]; omega)
   have hn:=tk_loop hb hl k (at_+(bestS b at_).1) fu (l++[⟨0,((bestS b at_).1:Int),((bestS b at_).2:Int)⟩]) y hy (by omega) (by omega) (by omega) (by simp; omega)
   rw [List.append_assoc] at hn
   exact (loop_next (cnd_t (decide_eq_true (by omega)) (bnd hbe (bndL (s:=(0,((bestS b at_).1:Int))) (cnd_f (beq_eq_false_iff_ne.2 (by show (((bestS b at_).1:Nat):Int)≠0; omega)) rfl) (bnd (hap _) (bndL hlp rfl)))))).trans hn
theorem tokens_eq {b:List Int} (hb:∀ n∈b,0≤n∧n<256) (hl:b.length≤4096):match_Tokens b=some (toksS b,0):=by
 unfold match_Tokens
 have hlp:=tk_loop hb (by omega) b.length 0 BIG [] (T_match_index.mk b [] [] 0) (ix_new b 0) (Nat.zero_le _) (by omega) (by simp only [BIG]; omega) (Nat.zero_le _)
 refine cnd_f (decide_eq_false (by omega)) (bnd (x:=some (T_match_index.mk b [] [] 0)) rfl ?_)
 show bindS _ _ _=_
 exact bndL hlp rfl
/-! Rows of tokens: what is right,and what they stand for. -/
def okT (t:T_Tok) (n:Int):Bool:=decide ((t.Len=0∧t.Dist=0)∨((t.Byte=0∧3≤t.Len∧t.Len≤258∧1≤t.Dist∧t.Dist≤2048)∧t.Dist≤n))
def tl (t:T_Tok):Nat:=if t.Len=0 then 1 else t.Len.toNat
def chkF:List T_Tok→Nat→Option Nat
 | [],n=>some n
 | t::l,n=>if okT t n=true then chkF l (n+tl t) else none
def cpy (d:Nat):List Int→Nat→List Int
 | b,0=>b
 | b,k+1=>cpy d (b++[b.getD (b.length-d) 0]) k
def exT (b:List Int) (t:T_Tok):List Int:=if t.Len=0 then b++[t.Byte] else cpy t.Dist.toNat b t.Len.toNat
def exF:List T_Tok→List Int→List Int
 | [],b=>b
 | t::l,b=>exF l (exT b t)
theorem cpy_len (d:Nat):∀ (b:List Int) (k:Nat),(cpy d b k).length=b.length+k
 | b,0=>rfl
 | b,k+1=>by
  unfold cpy
  rw [cpy_len d _ k]
  simp; omega
theorem exT_len {b:List Int} {t:T_Tok} {n:Int} (h:okT t n=true):(exT b t).length=b.length+tl t:=by
 unfold okT at h
 rw [decide_eq_true_eq] at h
 unfold exT tl
 split
 ·simp
 ·rw [cpy_len]
/-! A text's own tokens. -/
theorem chk_toks (b:List Int) (m:Nat):∀ (k at_:Nat),b.length-at_≤k→at_≤b.length→chkF (toks b k at_) (m+at_)=some (m+b.length)
 | 0,at_,hk,ha=>by
  obtain rfl:at_=b.length:=by omega
  rfl
 | k+1,at_,hk,ha=>by
  unfold toks
  split
  ·rename_i he
   rcases bestS_cases b at_ with h0 | ⟨c1,c2,c3,c4,c5,c6⟩
   ·rw [h0,if_pos rfl]
    simp only [chkF]
    have ho:okT ⟨b.getD at_ 0,0,0⟩ ((m+at_:Nat):Int)=true:=by unfold okT; rw [decide_eq_true_eq]; exact .inl ⟨rfl,rfl⟩
    rw [if_pos ho]
    exact chk_toks b m k (at_+1) (by omega) (by omega)
   ·rw [if_neg (by omega)]
    simp only [chkF]
    have ho:okT ⟨0,((bestS b at_).1:Int),((bestS b at_).2:Int)⟩ ((m+at_:Nat):Int)=true:=by
     unfold okT; rw [decide_eq_true_eq]
     exact .inr ⟨⟨rfl,by show (3:Int)≤((bestS b at_).1:Int); omega,by show ((bestS b at_).1:Int)≤258; omega,by show (1:Int)≤((bestS b at_).2:Int); omega,by show ((bestS b at_).2:Int)≤2048; omega⟩,by show ((bestS b at_).2:Int)≤((m+at_:Nat):Int); omega⟩
    rw [if_pos ho]
    have htl:tl ⟨0,((bestS b at_).1:Int),((bestS b at_).2:Int)⟩=(bestS b at_).1:=by unfold tl; rw [if_neg (by show ¬ ((bestS b at_).1:Int)=0; omega)]; simp
    rw [htl,Nat.add_assoc]
    exact chk_toks b m k (at_+(bestS b at_).1) (by omega) (by omega)
  ·simp only [chkF]
   rw [show at_=b.length by omega]
theorem cpy_take {b:List Int} (a:List Int) {d:Nat}:∀ (k at_:Nat),1≤d→d≤at_→at_+k≤b.length→(∀ j,j<k→b[at_-d+j]? = b[at_+j]?)→cpy d (a++b.take at_) k=a++b.take (at_+k)
 | 0,at_,_,_,_,_=>rfl
 | k+1,at_,h1,h2,h3,h=>by
  have hlt:at_<b.length:=by omega
  have e:(a++b.take at_).getD ((a++b.take at_).length-d) 0=b[at_]:=by
   have hl:(a++b.take at_).length-d=a.length+(at_-d):=by simp; omega
   rw [hl,List.getD_eq_getElem?_getD,List.getElem?_append_right (by omega),Nat.add_sub_cancel_left,List.getElem?_take,if_pos (by omega)]
   have:=h 0 (by omega)
   rw [Nat.add_zero,Nat.add_zero] at this
   rw [this,List.getElem?_eq_getElem hlt,Option.getD_some]
  unfold cpy
  rw [e,List.append_assoc,← List.take_succ_eq_append_getElem hlt]
  have:=cpy_take (b:=b) a (d:=d) k (at_+1) h1 (by omega) (by omega) fun j hj=>by
   have:=h (j+1) (by omega)
   rwa [show at_+1-d+j=at_-d+(j+1) by omega,show at_+1+j=at_+(j+1) by omega]
  rw [this,show at_+1+k=at_+(k+1) by omega]
theorem ex_toks (b a:List Int):∀ (k at_:Nat),b.length-at_≤k→at_≤b.length→exF (toks b k at_) (a++b.take at_)=a++b
 | 0,at_,hk,ha=>by
  obtain rfl:at_=b.length:=by omega
  simp [toks,exF]
 | k+1,at_,hk,ha=>by
  unfold toks
  split
  ·rename_i he
   rcases bestS_cases b at_ with h0 | ⟨c1,c2,c3,c4,c5,c6⟩
   ·rw [h0,if_pos rfl]
    simp only [exF]
    have hx:exT (a++b.take at_) ⟨b.getD at_ 0,0,0⟩=a++b.take (at_+1):=by
     unfold exT
     rw [if_pos rfl,List.append_assoc,List.take_succ_eq_append_getElem he,List.getD_eq_getElem?_getD,List.getElem?_eq_getElem he,Option.getD_some]
    rw [hx]
    exact ex_toks b a k (at_+1) (by omega) (by omega)
   ·rw [if_neg (by omega)]
    simp only [exF]
    have hx:exT (a++b.take at_) ⟨0,((bestS b at_).1:Int),((bestS b at_).2:Int)⟩=a++b.take (at_+(bestS b at_).1):=by
     unfold exT
     rw [if_neg (by show ¬ ((bestS b at_).1:Int)=0; omega)]
     simp only [Int.toNat_natCast]
     refine cpy_take a _ _ c4 (by omega) c3 fun j hj=>cm_get (by omega)
    rw [hx]
    exact ex_toks b a k (at_+(bestS b at_).1) (by omega) (by omega)
  ·rw [show at_=b.length by omega]
   simp [exF]
theorem bys {l:List Int} (h:wfL (wfI .u8) l):∀ n∈l,0≤n∧n<256:=by
 intro x hx
 have:=h.2 x hx
 unfold wfI at this
 have h1:IntKind.u8.min=0:=by decide
 have h2:IntKind.u8.max=255:=by decide
 simp [Lit.wf,h1,h2] at this
 omega
theorem toksS_len (b:List Int):(toksS b).length≤b.length:=by
 have:=toks_len b b.length 0
 unfold toksS; omega
theorem chk_toksS (b:List Int):chkF (toksS b) 0=some b.length:=by
 have:=chk_toks b 0 b.length 0 (by omega) (by omega)
 simpa [toksS] using this
theorem ex_toksS (b:List Int):exF (toksS b) []=b:=by
 have:=ex_toks b [] b.length 0 (by omega) (by omega)
 simpa [toksS] using this
def place (z u D:List Int):Nat→List Int
 | 0=>z
 | i+1=>(place z u D i).set (u.getD i 0).toNat (D.getD i 0)
/-! halved -/
def hv (w:List Int):List Int:=w.map fun x=>(x+1) / 2
/-! what lengths weigh -/
def g1 (x:Int):Nat:=if 0<x then 2 ^ (15-x.toNat) else 0
def wpS:(((List Int)×Int×Int×Int))→Option (((List Int)×Int×Int×Int)⊕(((List Int)×Int)⊕T_shrink_writer)):=(fun ((s35,s36,s37,s38):(List Int)×Int×Int×Int) =>
 cond ((decide (0<s37)))
  ((remO s36 8).bind fun v3 =>
  bindS (S:=(List Int)) (A:=(((List Int)×Int×Int×Int)⊕(((List Int)×Int)⊕T_shrink_writer)))
   (cond ((v3==0))
    ((appO 1 s35 [0]).bind fun v5 =>
    some (.inl v5))
    (some (.inl s35)))
   (fun (s56:(List Int)) =>
    (some (IntKind.i64.wrap (8-v3))).bind fun v11 =>
    (some (if s37<v11 then s37 else v11)).bind fun v12 =>
    (some (IntKind.i64.wrap ((s56.length:Int)-1))).bind fun v13 =>
    (ixO v13 s56.length).bind fun v14 =>
    (getO s56 v14).bind fun v15 =>
    (shlO .u32 s38 v3).bind fun v16 =>
    (some (IntKind.u8.wrap v16)).bind fun v17 =>
    (some (bits .or .u8 v15 v17)).bind fun v18 =>
    (ixO v13 s56.length).bind fun v19 =>
    (some (s56.set v19 v18)).bind fun v20 =>
    (shrO .u32 s38 v12).bind fun v21 =>
    (some (IntKind.i64.wrap (s36+v12))).bind fun v22 =>
    (some (IntKind.i64.wrap (s37-v12))).bind fun v23 =>
    some (.inl (v20,v22,v23,v21))) some)
  (some (.inr (.inl (s35,s36)))))
theorem wrA' (a b:Nat) (h:a+b<4611686018427387904):IntKind.i64.wrap ((a:Int)+(b:Int))=((a+b:Nat):Int):=by rw [wrap_i64 (by omega) (by omega)]; omega
theorem wrS' {a b:Nat} (h:b≤a) (ha:a<4611686018427387904):IntKind.i64.wrap ((a:Int)-(b:Int))=((a-b:Nat):Int):=by rw [wrap_i64 (by omega) (by omega)]; omega
theorem bitC_app0 (B:List Int) (q:Nat):bitC (B++[0]) q=bitC B q:=by
 simp only [bitC,List.getD_eq_getElem?_getD,List.getElem?_append]
 by_cases h:q / 8<B.length
 ·rw [if_pos h]
 ·rw [if_neg h,List.getElem?_eq_none (Nat.le_of_not_lt h)]
  by_cases h2:q / 8-B.length=0
  ·rw [h2]; simp
  ·rw [List.getElem?_eq_none (by simp; omega)]
structure Room (B:List Int) (N:Nat):Prop where
 len:B.length=N / 8+1
 bytes:isB B
 zero:∀ q,N≤q→bitC B q=false
theorem room_of {B:List Int} {N:Nat} (h:Good B N):Room (if N % 8=0 then B++[0] else B) N:=by
 by_cases h8:N % 8=0
 ·rw [if_pos h8]
  refine ⟨by rw [List.length_append,h.len]; simp; omega,fun n hn => ?_,fun q hq=>by rw [bitC_app0]; exact h.zero q hq⟩
  rcases List.mem_append.1 hn with k | k
  ·exact h.bytes n k
  ·rw [List.mem_singleton.1 k]; omega
 ·rw [if_neg h8]
  exact ⟨by rw [h.len]; omega,h.bytes,h.zero⟩
theorem put_core {B:List Int} {N r p:Nat} (h:Room B N) (hp:0<p) (hp8:N % 8+p≤8) (hr:N % 8+p<8→r<2 ^ p) {x:Nat} (hx:B.getD (N / 8) 0=(x:Int)) :
  Good (B.set (N / 8) ((x ||| (r * 2 ^ (N % 8) % 256):Nat):Int)) (N+p)∧(∀ q,q<N→bitC (B.set (N / 8) ((x ||| (r * 2 ^ (N % 8) % 256):Nat):Int)) q=bitC B q) ∧
   ∀ i,i<p→bitC (B.set (N / 8) ((x ||| (r * 2 ^ (N % 8) % 256):Nat):Int)) (N+i)=r.testBit i:=by
 have hlt:N / 8<B.length:=by rw [h.len]; omega
 have hx8:x<256:=by
  have:=h.bytes _ (List.getElem_mem hlt)
  rw [List.getD_eq_getElem?_getD,List.getElem?_eq_getElem hlt,Option.getD_some] at hx
  omega
 have hm:r * 2 ^ (N % 8) % 256<2 ^ 8:=Nat.mod_lt _ (by decide)
 have hor:x ||| (r * 2 ^ (N % 8) % 256)<2 ^ 8:=Nat.or_lt_two_pow hx8 hm
 have hb:∀ q,bitC (B.set (N / 8) ((x ||| (r * 2 ^ (N % 8) % 256):Nat):Int)) q=(bitC B q||(decide (q / 8=N / 8)&&(decide (N % 8≤q % 8)&&r.testBit (q % 8-N % 8)))):=fun q=>by
  rw [bitC_set _ _ _ _ hlt]
  by_cases hq:q / 8=N / 8
  ·have hbx:bitC B q=x.testBit (q % 8):=by
    unfold bitC
    rw [hq,hx,Int.toNat_natCast]
   have h8:q % 8<8:=Nat.mod_lt _ (by omega)
   rw [if_pos hq,Int.toNat_natCast,Nat.testBit_or,hbx,decide_eq_true hq,Bool.true_and,show (256:Nat)=2 ^ 8 from rfl,Nat.testBit_mod_two_pow,decide_eq_true h8,Bool.true_and,Nat.mul_comm,Nat.testBit_two_pow_mul]
  ·rw [if_neg hq,decide_eq_false hq]; simp
 refine ⟨⟨by rw [List.length_set,h.len]; omega,fun n hn => ?_,fun q hq => ?_⟩,fun q hq => ?_,fun i hi => ?_⟩
 ·rcases List.mem_or_eq_of_mem_set hn with k | k
  ·exact h.bytes n k
  ·rw [k]
   have:(2:Nat) ^ 8=256:=by decide
   omega
 ·rw [hb q,h.zero q (by omega)]
  by_cases hq8:q / 8=N / 8
  ·have hpl:N % 8+p<8:=by omega
   have:r.testBit (q % 8-N % 8)=false:=Nat.testBit_lt_two_pow (Nat.lt_of_lt_of_le (hr hpl) (Nat.pow_le_pow_right (by omega) (by omega)))
   rw [this]; simp
  ·rw [decide_eq_false hq8]; simp
 ·rw [hb q]
  by_cases hq8:q / 8=N / 8
  ·rw [decide_eq_false (show ¬ N % 8≤q % 8 by omega)]; simp
  ·rw [decide_eq_false hq8]; simp
 ·rw [hb (N+i),h.zero (N+i) (by omega)]
  have e1:(N+i) / 8=N / 8:=by omega
  have e2:(N+i) % 8=N % 8+i:=by omega
  rw [decide_eq_true e1,e2,decide_eq_true (by omega),show N % 8+i-N % 8=i by omega]; simp
theorem wp_step {B:List Int} {N n r:Nat} (h:Good B N) (hn:0<n) (hn2:n≤24) (hr:r<2 ^ n) (hN:N+n≤1000000) :
  ∃ B',wpS (B,(N:Int),(n:Int),(r:Int))=some (.inl (B',((N+min (8-N % 8) n:Nat):Int),((n-min (8-N % 8) n:Nat):Int),((r / 2 ^ min (8-N % 8) n:Nat):Int))) ∧
   Good B' (N+min (8-N % 8) n)∧(∀ q,q<N→bitC B' q=bitC B q)∧∀ i,i<min (8-N % 8) n→bitC B' (N+i)=r.testBit i:=by
 obtain ⟨p,hp⟩:∃ p,p=min (8-N % 8) n:=⟨_,rfl⟩
 rw [← hp]
 have hu:N % 8<8:=Nat.mod_lt _ (by omega)
 have hR:=room_of h
 obtain ⟨B1,hB1⟩:∃ B1,B1=if N % 8=0 then B++[0] else B:=⟨_,rfl⟩
 rw [← hB1] at hR
 have hlt:N / 8<B1.length:=by rw [hR.len]; omega
 have hB:=h.len
 have hx:=hR.bytes _ (List.getElem_mem hlt)
 obtain ⟨x,hxe⟩:∃ x:Nat,B1[N / 8]=(x:Int):=⟨B1[N / 8].toNat,by omega⟩
 have hxd:B1.getD (N / 8) 0=(x:Int):=by rw [List.getD_eq_getElem?_getD,List.getElem?_eq_getElem hlt,Option.getD_some,hxe]
 have hp24:(2:Nat) ^ n≤2 ^ 24:=Nat.pow_le_pow_right (by omega) hn2
 have hpu:(2:Nat) ^ (N % 8)≤2 ^ 7:=Nat.pow_le_pow_right (by omega) (by omega)
 have e24:(2:Nat) ^ 24=16777216:=by decide
 have e7:(2:Nat) ^ 7=128:=by decide
 have hmul:r * 2 ^ (N % 8)≤16777215 * 128:=Nat.mul_le_mul (by omega) (by omega)
 have hm8:r * 2 ^ (N % 8) % 256<256:=Nat.mod_lt _ (by omega)
 obtain ⟨c1,c2,c3⟩:=put_core (r:=r) (p:=p) hR (by omega) (by omega) (fun h8=>by
  have:p=n:=by omega
  rw [this]; exact hr) hxd
 have w8:IntKind.u8.wrap ((r * 2 ^ (N % 8):Nat):Int)=((r * 2 ^ (N % 8) % 256:Nat):Int):=by rw [wrap_u8']; rfl
 have hB1b:∀ q,bitC B1 q=bitC B q:=fun q=>by
  rw [hB1]
  by_cases h8:N % 8=0
  ·rw [if_pos h8,bitC_app0]
  ·rw [if_neg h8]
 refine ⟨B1.set (N / 8) ((x ||| (r * 2 ^ (N % 8) % 256):Nat):Int),?_,c1,fun q hq=>(c2 q hq).trans (hB1b q),c3⟩
 have hmin:(if (n:Int)<((8-N % 8:Nat):Int) then (n:Int) else ((8-N % 8:Nat):Int))=((p:Nat):Int):=by
  rw [hp]
  by_cases hc:n<8-N % 8
  ·rw [if_pos (by omega),Nat.min_eq_right (by omega)]
  ·rw [if_neg (by omega),Nat.min_eq_left (by omega)]
 have hlast:IntKind.i64.wrap ((B1.length:Int)-1)=((N / 8:Nat):Int):=by rw [hR.len,wrap_i64 (by omega) (by omega)]; omega
 have hg:getO B1 (N / 8)=some (x:Int):=by rw [getO_of hlt,hxe]
 refine cnd_t (decide_eq_true (by omega)) (bnd (rem_nat N 8 (by omega)) (bndL (s:=B1) ?_ (bnd (congrArg some (wrS' (a:=8) (b:=N % 8) (by omega) (by omega))) (bnd (congrArg some hmin) (bnd (congrArg some hlast) (bnd (ixO_of hlt) (bnd hg (bnd (shl_u32 r (N % 8) (by omega) (by omega)) (bnd (congrArg some w8) (bnd (congrArg some (or_u8 x _ (by omega) hm8)) (bnd (ixO_of hlt) (bnd rfl (bnd (shr_nat .u32 r p (by show p≤32; omega)) (bnd (congrArg some (wrA' N p (by omega))) (bnd (congrArg some (wrS' (a:=n) (b:=p) (by omega) (by omega))) rfl))))))))))))))) 
 by_cases h8:N % 8=0
 ·rw [hB1,if_pos h8]
  exact cnd_t (by rw [h8]; rfl) (bnd (app_of (m:=[(0:Int)]) (by simp; omega) (by simp; omega)) rfl)
 ·rw [hB1,if_neg h8]
  exact cnd_f (beq_eq_false_iff_ne.2 (by omega)) rfl
theorem wp_loop:∀ (k fuel:Nat) (B:List Int) (N n r:Nat),n≤k→k<fuel→Good B N→n≤24→r<2 ^ n→N+n≤1000000 →
  ∃ B',loopF wpS fuel (B,(N:Int),(n:Int),(r:Int))=some (.inl (B',((N+n:Nat):Int)))∧Good B' (N+n)∧(∀ q,q<N→bitC B' q=bitC B q)∧∀ i,i<n→bitC B' (N+i)=r.testBit i
 | k,fuel,B,N,0,r,hk,hf,hG,hn,hr,hN=>by
  obtain ⟨fu,rfl⟩:∃ fu,fuel=fu+1:=⟨fuel-1,by omega⟩
  exact ⟨B,loop_exit rfl,hG,fun _ _=>rfl,fun i hi=>by omega⟩
 | 0,fuel,B,N,n+1,r,hk,hf,hG,hn,hr,hN=>by omega
 | k+1,fuel,B,N,n+1,r,hk,hf,hG,hn,hr,hN=>by
  obtain ⟨fu,rfl⟩:∃ fu,fuel=fu+1:=⟨fuel-1,by omega⟩
  have hu:N % 8<8:=Nat.mod_lt _ (by omega)
  obtain ⟨B1,b1,b2,b3,b4⟩:=wp_step hG (by omega) hn hr (by omega)
  obtain ⟨p,hp⟩:∃ p,p=min (8-N % 8) (n+1):=⟨_,rfl⟩
  rw [← hp] at b1 b2 b4
  have hr':r / 2 ^ p<2 ^ (n+1-p):=by
   rw [Nat.div_lt_iff_lt_mul (Nat.two_pow_pos p),← Nat.pow_add]
   rwa [show n+1-p+p=n+1 by omega]
  obtain ⟨B2,c1,c2,c3,c4⟩:=wp_loop k fu B1 (N+p) (n+1-p) (r / 2 ^ p) (by omega) (by omega) b2 (by omega) hr' (by omega)
  have e:N+p+(n+1-p)=N+(n+1):=by omega
  rw [e] at c1 c2
  refine ⟨B2,(loop_next b1).trans c1,c2,fun q hq=>(c3 q (by omega)).trans (b3 q hq),fun i hi => ?_⟩
  by_cases hip:i<p
  ·exact (c3 (N+i) (by omega)).trans (b4 i hip)
  ·have:=c4 (i-p) (by omega)
   rw [show N+p+(i-p)=N+i by omega,Nat.testBit_div_two_pow,show i-p+p=i by omega] at this
   exact this
theorem u32_small {v:Nat} (h:v<4294967296):IntKind.u32.wrap (v:Int)=(v:Int):=wrap_u32c (by omega) (by omega)
theorem Sp_app:∀ (a b:List (Nat×Nat)) (N:Nat) (B:List Int),Sp (a++b) N B↔Sp a N B∧Sp b (N+wid a) B
 | [],b,N,B=>by simp [Sp,wid]
 | p::a,b,N,B=>by
  simp only [List.cons_append,Sp,Sp_app a b,wid,List.map_cons,List.sum_cons,Nat.add_assoc,and_assoc]
theorem Sp_keep:∀ (a:List (Nat×Nat)) (N:Nat) (B B':List Int),(∀ q,q<N+wid a→bitC B' q=bitC B q)→Sp a N B→Sp a N B'
 | [],N,B,B',_,_=>trivial
 | p::a,N,B,B',h,hs=>by
  have hw:wid (p::a)=p.2+wid a:=by simp [wid]
  rw [hw] at h
  exact ⟨fun t ht=>(h (N+t) (by omega)).trans (hs.1 t ht),Sp_keep a (N+p.2) B B' (fun q hq=>h q (by omega)) hs.2⟩
theorem wid_app (a b:List (Nat×Nat)):wid (a++b)=wid a+wid b:=by simp [wid]
structure WP (w:T_shrink_writer) (ps:List (Nat×Nat)):Prop where
 n:w.n=((wid ps:Nat):Int)
 good:Good w.b (wid ps)
 sp:Sp ps 0 w.b
theorem WP.put {w:T_shrink_writer} {ps:List (Nat×Nat)} (h:WP w ps) (v n:Nat) (hn:n≤24) (hv:v<2 ^ n) (hN:wid ps+n≤1000000) :
  ∃ w',shrink_writer_put w (v:Int) (n:Int)=some w'∧WP w' (ps++[(v,n)]):=by
 have hp24:(2:Nat) ^ n≤2 ^ 24:=Nat.pow_le_pow_right (by omega) hn
 have e24:(2:Nat) ^ 24=16777216:=by decide
 obtain ⟨B',b1,b2,b3,b4⟩:=wp_loop n BIG w.b (wid ps) n v (by omega) (by simp only [BIG]; omega) h.good hn hv hN
 have hw:wid (ps++[(v,n)])=wid ps+n:=by simp [wid]
 refine ⟨⟨B',((wid ps+n:Nat):Int)⟩,?_,⟨by rw [hw],by rw [hw]; exact b2,(Sp_app _ _ _ _).2 ⟨Sp_keep ps 0 w.b B' (fun q hq=>b3 q (by omega)) h.sp,fun t ht => ?_,trivial⟩⟩⟩
 ·unfold shrink_writer_put
  rw [h.n]
  exact bnd (congrArg some (u32_small (by omega))) (bndL b1 rfl)
 ·rw [Nat.zero_add]; exact b4 t ht
/-! The other way about. -/
def rv (v:Nat):Nat→Nat
 | 0=>0
 | n+1=>2 * rv v n+v / 2 ^ n % 2
theorem rv_lt (v:Nat):∀ n,rv v n<2 ^ n
 | 0=>by simp [rv]
 | n+1=>by
  have:=rv_lt v n
  have:=Nat.mod_lt (v / 2 ^ n) (show 0<2 by omega)
  rw [rv,Nat.pow_succ]
  omega
theorem rv_bit (v:Nat):∀ n i,i<n→(rv v n).testBit i=v.testBit (n-1-i)
 | 0,i,h=>by omega
 | n+1,i,h=>by
  rw [rv]
  have hb:=Nat.mod_lt (v / 2 ^ n) (show 0<2 by omega)
  cases i with
  | zero =>
   have h1:(2 * rv v n+v / 2 ^ n % 2) % 2=v / 2 ^ n % 2:=by omega
   rw [Nat.testBit_zero,h1,show n+1-1-0=n by omega,Nat.testBit_eq_decide_div_mod_eq]
  | succ i =>
   rw [Nat.testBit_succ,show (2 * rv v n+v / 2 ^ n % 2) / 2=rv v n by omega,rv_bit v n i (by omega)]
   congr 1; omega
theorem turn_rv (v n:Nat) (hn:n≤24) (hv:v<2 ^ n):bits_Turn (v:Int) (n:Int)=some (((rv v n:Nat):Int),0):=by
 obtain ⟨r,h1,h2,h3⟩:=turn_eq v n hn hv
 rw [h1]
 have:r=rv v n:=by
  refine Nat.eq_of_testBit_eq fun i => ?_
  by_cases hi:i<n
  ·rw [h3 i hi,rv_bit v n i hi]
  ·rw [Nat.testBit_lt_two_pow (Nat.lt_of_lt_of_le h2 (Nat.pow_le_pow_right (by omega) (by omega))),Nat.testBit_lt_two_pow (Nat.lt_of_lt_of_le (rv_lt v n) (Nat.pow_le_pow_right (by omega) (by omega)))]
 rw [this]
structure Cd (m:List Nat):Prop where
 len:m.length≤300
 le:∀ x∈m,x≤15
 fm:forms m=true
def cdT (m:List Nat):T_shrink_code:=⟨ints m,ints (codes m)⟩
theorem newCode_eq {m:List Nat} (h:Cd m):shrink_newCode_ro (ints m)=some (cdT m):=by
 unfold shrink_newCode_ro
 exact bnd (codes_eq m h.len h.le h.fm) rfl
def syP (m:List Nat) (j:Nat):Nat×Nat:=(rv (code m j) (m.getD j 0),m.getD j 0)
theorem code_fit {m:List Nat} (h:Cd m) {j:Nat} (hj:j<m.length):code m j<2 ^ m.getD j 0∧m.getD j 0≤15:=by
 have e:m.getD j 0=m[j]:=by simp [List.getD_eq_getElem?_getD,hj]
 refine ⟨?_,by rw [e]; exact h.le _ (List.getElem_mem hj)⟩
 by_cases h0:m[j]=0
 ·have:code m j=0:=by unfold code; rw [e,if_pos h0]
  rw [this]; exact Nat.two_pow_pos _
 ·rw [e]; exact code_lt (forms_ws h.fm) h.le hj h0
theorem WP.sym {w:T_shrink_writer} {ps:List (Nat×Nat)} (h:WP w ps) {m:List Nat} (hm:Cd m) {j:Nat} (hj:j<m.length) (hN:wid ps+15≤1000000) :
  ∃ w',shrink_writer_putSym w (cdT m) (j:Int)=some w'∧WP w' (ps++[syP m j]):=by
 obtain ⟨f1,f2⟩:=code_fit hm hj
 obtain ⟨w',p1,p2⟩:=h.put (rv (code m j) (m.getD j 0)) (m.getD j 0) (by omega) (rv_lt _ _) (by omega)
 have e:m.getD j 0=m[j]:=by simp [List.getD_eq_getElem?_getD,hj]
 have hcl:j<(codes m).length:=by simp [codes,hj]
 have g1:getO (ints (codes m)) j=some ((code m j:Nat):Int):=by rw [ints_get hcl]; simp [codes]
 have g2:getO (ints m) j=some ((m.getD j 0:Nat):Int):=by rw [ints_get hj,e]
 have i1:ixO (j:Int) (ints (codes m)).length=some j:=ixO_of (by rw [ints_len]; exact hcl)
 have i2:ixO (j:Int) (ints m).length=some j:=ixO_of (by rw [ints_len]; exact hj)
 refine ⟨w',?_,p2⟩
 unfold shrink_writer_putSym cdT
 exact bnd i1 (bnd g1 (bnd i2 (bnd g2 (bnd (turn_rv _ _ (by omega) f1) (bnd i2 (bnd g2 (bnd p1 rfl)))))))
def ptS (l:List T_Tok) (lits dists:T_shrink_code):(((List Int)×Int×Int))→Option (((List Int)×Int×Int)⊕(((List Int)×Int)⊕T_shrink_writer)):=(fun ((s31,s32,s33):(List Int)×Int×Int) =>
 cond ((decide (s33<(l.length:Int))))
  (bindS (S:=(List Int)×Int) (A:=(((List Int)×Int×Int)⊕(((List Int)×Int)⊕T_shrink_writer)))
   ((ixO s33 l.length).bind fun v2 =>
   (getO l v2).bind fun v3 =>
   cond ((v3.Len==0))
    ((some (IntKind.i64.wrap v3.Byte)).bind fun v5 =>
    (shrink_writer_putSym (T_shrink_writer.mk s31 s32) lits v5).bind fun v6 =>
    some (.inl (v6.b,v6.n)))
    ((sym_Len v3.Len).bind fun v7 =>
    (shrink_writer_putSym (T_shrink_writer.mk s31 s32) lits v7.1).bind fun v8 =>
    (shrink_writer_put v8 v7.2.2.1 v7.2.1).bind fun v9 =>
    (sym_Dist v3.Dist).bind fun v10 =>
    (shrink_writer_putSym v9 dists v10.1).bind fun v11 =>
    (shrink_writer_put v11 v10.2.2.1 v10.2.1).bind fun v12 =>
    some (.inl (v12.b,v12.n))))
   (fun ((s52,s53):(List Int)×Int) =>
    (some (IntKind.i64.wrap (s33+1))).bind fun v19 =>
    some (.inl (s52,s53,v19))) some)
  (some (.inr (.inl (s31,s32)))))
def lnN (n:Nat):Nat×Nat×Nat:=match sym_Len (n:Int) with
 | some (s,k,v,_)=>(s.toNat,k.toNat,v.toNat)
 | none=>(0,0,0)
def dsN (n:Nat):Nat×Nat×Nat:=match sym_Dist (n:Int) with
 | some (s,k,v,_)=>(s.toNat,k.toNat,v.toNat)
 | none=>(0,0,0)
def lnOk (n:Nat):Bool:=decide (sym_Len (n:Int)=some (((lnN n).1:Int),((lnN n).2.1:Int),((lnN n).2.2:Int),0)∧257≤(lnN n).1∧(lnN n).1≤285∧(lnN n).2.1≤5∧(lnN n).2.2<2 ^ (lnN n).2.1)
def dsOk (n:Nat):Bool:=decide (sym_Dist (n:Int)=some (((dsN n).1:Int),((dsN n).2.1:Int),((dsN n).2.2:Int),0)∧(dsN n).1≤29∧(dsN n).2.1≤13∧(dsN n).2.2<2 ^ (dsN n).2.1)
theorem ln_all:(List.range 256).all (fun i=>lnOk (3+i))=true:=by kernel_rfl
theorem ds_all:(List.range 2048).all (fun i=>dsOk (1+i))=true:=by kernel_rfl
theorem ln_ok {n:Nat} (h:3≤n) (h2:n≤258):sym_Len (n:Int)=some (((lnN n).1:Int),((lnN n).2.1:Int),((lnN n).2.2:Int),0)∧257≤(lnN n).1∧(lnN n).1≤285∧(lnN n).2.1≤5∧(lnN n).2.2<2 ^ (lnN n).2.1:=by
 have:=List.all_eq_true.1 ln_all (n-3) (List.mem_range.2 (by omega))
 rw [show 3+(n-3)=n by omega] at this
 exact of_decide_eq_true this
theorem ds_ok {n:Nat} (h:1≤n) (h2:n≤2048):sym_Dist (n:Int)=some (((dsN n).1:Int),((dsN n).2.1:Int),((dsN n).2.2:Int),0)∧(dsN n).1≤29∧(dsN n).2.1≤13∧(dsN n).2.2<2 ^ (dsN n).2.1:=by
 have:=List.all_eq_true.1 ds_all (n-1) (List.mem_range.2 (by omega))
 rw [show 1+(n-1)=n by omega] at this
 exact of_decide_eq_true this
def tkP (m d:List Nat) (t:T_Tok):List (Nat×Nat) :=
 if t.Len=0 then [syP m t.Byte.toNat]
 else [syP m (lnN t.Len.toNat).1,((lnN t.Len.toNat).2.2,(lnN t.Len.toNat).2.1),syP d (dsN t.Dist.toNat).1,((dsN t.Dist.toNat).2.2,(dsN t.Dist.toNat).2.1)]
def tksP (m d:List Nat) (l:List T_Tok):List (Nat×Nat):=(l.map (tkP m d)).flatten
def okTk (t:T_Tok):Prop:=(0≤t.Byte∧t.Byte<256)∧(t.Len=0∨(3≤t.Len∧t.Len≤258∧1≤t.Dist∧t.Dist≤2048))
theorem wid_tk {m d:List Nat} (hm:∀ x∈m,x≤15) (hd:∀ x∈d,x≤15) {t:T_Tok} (h:okTk t):wid (tkP m d t)≤48:=by
 have le:∀ (m:List Nat),(∀ x∈m,x≤15)→∀ j,m.getD j 0≤15:=fun m hm j=>by
  rw [List.getD_eq_getElem?_getD]
  cases hj:m[j]? with
  | none=>simp
  | some x=>simpa using hm x (List.mem_of_getElem? hj)
 unfold tkP
 by_cases h0:t.Len=0
 ·rw [if_pos h0]
  have:=le m hm t.Byte.toNat
  simp only [wid,syP,List.map_cons,List.map_nil,List.sum_cons,List.sum_nil]; omega
 ·rw [if_neg h0]
  rcases h.2 with h1 | ⟨h1,h2,h3,h4⟩
  ·exact absurd h1 h0
  ·obtain ⟨_,_,_,k1,_⟩:=ln_ok (n:=t.Len.toNat) (by omega) (by omega)
   obtain ⟨_,_,k2,_⟩:=ds_ok (n:=t.Dist.toNat) (by omega) (by omega)
   have a1:=le m hm (lnN t.Len.toNat).1
   have a2:=le d hd (dsN t.Dist.toNat).1
   simp only [wid,syP,List.map_cons,List.map_nil,List.sum_cons,List.sum_nil]
   omega
theorem wid_tks {m d:List Nat} (hm:∀ x∈m,x≤15) (hd:∀ x∈d,x≤15):∀ {l:List T_Tok},(∀ t∈l,okTk t)→wid (tksP m d l)≤48 * l.length
 | [],_=>by simp [tksP,wid]
 | t::l,h=>by
  have h1:=wid_tk hm hd (h t List.mem_cons_self)
  have h2:=wid_tks hm hd (l:=l) fun x hx=>h x (List.mem_cons_of_mem _ hx)
  have e:tksP m d (t::l)=tkP m d t++tksP m d l:=by simp [tksP]
  rw [e,wid_app,List.length_cons]; omega
theorem pt_step {m d:List Nat} (hm:Cd m) (hd:Cd d) (hml:286≤m.length) (hdl:30≤d.length) {l:List T_Tok} {i:Nat} (hi:i<l.length) (hil:l.length≤5000) (ht:okTk l[i]) {w:T_shrink_writer} {ps:List (Nat×Nat)} (h:WP w ps) (hN:wid ps+48≤900000) :
  ∃ w',ptS l (cdT m) (cdT d) (w.b,w.n,(i:Int))=some (.inl (w'.b,w'.n,((i+1:Nat):Int)))∧WP w' (ps++tkP m d l[i]):=by
 have hg:=getO_of hi
 have hw:=wrap_succ (n:=i) (by omega)
 unfold tkP
 by_cases h0:l[i].Len=0
 ·rw [if_pos h0]
  obtain ⟨w',p1,p2⟩:=h.sym hm (j:=l[i].Byte.toNat) (by have:=ht.1; omega) (by omega)
  rw [show ((l[i].Byte.toNat:Nat):Int)=l[i].Byte by have:=ht.1; omega] at p1
  have hwb:IntKind.i64.wrap l[i].Byte=l[i].Byte:=wrap_i64 (by have:=ht.1; omega) (by have:=ht.1; omega)
  exact ⟨w',cnd_t (decide_eq_true (by omega)) (bndL (bnd (ixO_of hi) (bnd hg (cnd_t (beq_iff_eq.2 h0) (bnd (congrArg some hwb) (bnd p1 rfl))))) (bnd (congrArg some hw) rfl)),p2⟩
 ·rw [if_neg h0]
  rcases ht.2 with h1 | ⟨h1,h2,h3,h4⟩
  ·exact absurd h1 h0
  obtain ⟨l1,l2,l3,l4,l5⟩:=ln_ok (n:=l[i].Len.toNat) (by omega) (by omega)
  obtain ⟨d1,d2,d3,d4⟩:=ds_ok (n:=l[i].Dist.toNat) (by omega) (by omega)
  rw [show ((l[i].Len.toNat:Nat):Int)=l[i].Len by omega] at l1
  rw [show ((l[i].Dist.toNat:Nat):Int)=l[i].Dist by omega] at d1
  obtain ⟨w1,p1,q1⟩:=h.sym hm (j:=(lnN l[i].Len.toNat).1) (by omega) (by omega)
  have c1:=(code_fit hm (j:=(lnN l[i].Len.toNat).1) (by omega)).2
  have s1:wid (ps++[syP m (lnN l[i].Len.toNat).1])≤wid ps+15:=by rw [wid_app]; simp only [wid,syP,List.map_cons,List.map_nil,List.sum_cons,List.sum_nil]; omega
  obtain ⟨w2,p2,q2⟩:=q1.put (lnN l[i].Len.toNat).2.2 (lnN l[i].Len.toNat).2.1 (by omega) l5 (by omega)
  have s2:wid (ps++[syP m (lnN l[i].Len.toNat).1]++[((lnN l[i].Len.toNat).2.2,(lnN l[i].Len.toNat).2.1)])≤wid ps+20:=by rw [wid_app _ [((lnN l[i].Len.toNat).2.2,(lnN l[i].Len.toNat).2.1)]]; simp only [wid,List.map_cons,List.map_nil,List.sum_cons,List.sum_nil] at s1 ⊢; omega
  obtain ⟨w3,p3,q3⟩:=q2.sym hd (j:=(dsN l[i].Dist.toNat).1) (by omega) (by omega)
  have c3:=(code_fit hd (j:=(dsN l[i].Dist.toNat).1) (by omega)).2
  have s3:wid (ps++[syP m (lnN l[i].Len.toNat).1]++[((lnN l[i].Len.toNat).2.2,(lnN l[i].Len.toNat).2.1)]++[syP d (dsN l[i].Dist.toNat).1])≤wid ps+35:=by rw [wid_app _ [syP d _]]; simp only [wid,syP,List.map_cons,List.map_nil,List.sum_cons,List.sum_nil] at s2 ⊢; omega
  obtain ⟨w4,p4,q4⟩:=q3.put (dsN l[i].Dist.toNat).2.2 (dsN l[i].Dist.toNat).2.1 (by omega) d4 (by omega)
  refine ⟨w4,cnd_t (decide_eq_true (by omega)) (bndL (bnd (ixO_of hi) (bnd hg (cnd_f (beq_eq_false_iff_ne.2 h0) (bnd l1 (bnd p1 (bnd p2 (bnd d1 (bnd p3 (bnd p4 rfl))))))))) (bnd (congrArg some hw) rfl)),?_⟩
  simpa [List.append_assoc] using q4
theorem pt_loop {m d:List Nat} (hm:Cd m) (hd:Cd d) (hml:286≤m.length) (hdl:30≤d.length) {l:List T_Tok} (hil:l.length≤5000) (ht:∀ t∈l,okTk t):∀ (k i fuel:Nat) (w:T_shrink_writer) (ps:List (Nat×Nat)),i+k=l.length→k<fuel→WP w ps→wid ps+48 * k≤900000 →
  ∃ w',loopF (ptS l (cdT m) (cdT d)) fuel (w.b,w.n,(i:Int))=some (.inl (w'.b,w'.n))∧WP w' (ps++tksP m d (l.drop i))
 | 0,i,fuel,w,ps,hk,hf,h,hN=>by
  obtain ⟨fu,rfl⟩:∃ fu,fuel=fu+1:=⟨fuel-1,by omega⟩
  rw [List.drop_eq_nil_of_le (by omega)]
  exact ⟨w,loop_exit (cnd_f (decide_eq_false (by omega)) rfl),by simpa [tksP] using h⟩
 | k+1,i,fuel,w,ps,hk,hf,h,hN=>by
  obtain ⟨fu,rfl⟩:∃ fu,fuel=fu+1:=⟨fuel-1,by omega⟩
  have hi:i<l.length:=by omega
  have hti:=ht _ (List.getElem_mem hi)
  obtain ⟨w1,p1,q1⟩:=pt_step hm hd hml hdl hi hil hti h (by omega)
  have hwk:=wid_tk hm.le hd.le hti
  obtain ⟨w2,p2,q2⟩:=pt_loop hm hd hml hdl hil ht k (i+1) fu w1 (ps++tkP m d l[i]) (by omega) (by omega) q1 (by rw [wid_app]; omega)
  refine ⟨w2,(loop_next p1).trans p2,?_⟩
  rw [List.drop_eq_getElem_cons hi]
  have e:tksP m d (l[i]::l.drop (i+1))=tkP m d l[i]++tksP m d (l.drop (i+1)):=rfl
  rw [e,← List.append_assoc]; exact q2
theorem putTokens_eq {m d:List Nat} (hm:Cd m) (hd:Cd d) (hml:286≤m.length) (hdl:30≤d.length) {l:List T_Tok} (hil:l.length≤5000) (ht:∀ t∈l,okTk t) {w:T_shrink_writer} {ps:List (Nat×Nat)} (h:WP w ps) (hN:wid ps≤600000) :
  ∃ w',shrink_writer_putTokens w l (cdT m) (cdT d)=some w'∧WP w' (ps++(tksP m d l++[syP m 256])):=by
 obtain ⟨w1,p1,q1⟩:=pt_loop hm hd hml hdl hil ht l.length 0 BIG w ps (by omega) (by simp only [BIG]; omega) h (by omega)
 rw [List.drop_zero] at q1
 have hb:=wid_tks hm.le hd.le ht
 obtain ⟨w2,p2,q2⟩:=q1.sym hm (j:=256) (by omega) (by rw [wid_app]; omega)
 refine ⟨w2,?_,by rw [← List.append_assoc]; exact q2⟩
 unfold shrink_writer_putTokens
 exact bndL p1 (bnd p2 rfl)
theorem wp_nil:WP ⟨[],0⟩ []:=⟨rfl,⟨rfl,fun n hn=>(by cases hn),fun q _=>by simp [bitC]⟩,trivial⟩
theorem newBlock_eq (k:Nat) (hk:k<4):∃ w,shrink_newBlock (k:Int)=some (some w)∧WP w [(1,1),(k,2)]:=by
 obtain ⟨w1,p1,q1⟩:=wp_nil.put 1 1 (by omega) (by omega) (by simp [wid])
 obtain ⟨w2,p2,q2⟩:=q1.put k 2 (by omega) (by omega) (by simp [wid])
 refine ⟨w2,?_,q2⟩
 unfold shrink_newBlock
 exact bnd p1 (bnd p2 rfl)
theorem obs1 {E R:Type} {x:E} {f:E→Option R} {n r:Option R} (h:f x=r):obS (some x) f n=r:=h
/-! The fixed code. -/
def mL:List Nat:=List.replicate 144 8++(List.replicate 112 9++(List.replicate 24 7++List.replicate 8 8))
def mD:List Nat:=List.replicate 32 5
theorem fixed_ints:sym_Fixed=some (ints mL,ints mD):=by kernel_rfl
theorem cd_mL:Cd mL:=⟨of_decide_eq_true (by kernel_rfl),of_decide_eq_true (by kernel_rfl),by kernel_rfl⟩
theorem cd_mD:Cd mD:=⟨of_decide_eq_true (by kernel_rfl),of_decide_eq_true (by kernel_rfl),by kernel_rfl⟩
theorem fixedBlock_eq {l:List T_Tok} (hl:l.length≤5000) (ht:∀ t∈l,okTk t):∃ w,shrink_fixedBlock l=some (some w)∧WP w ([(1,1),(1,2)]++(tksP mL mD l++[syP mL 256])):=by
 obtain ⟨w1,p1,q1⟩:=newBlock_eq 1 (by omega)
 obtain ⟨w2,p2,q2⟩:=putTokens_eq cd_mL cd_mD (by decide) (by decide) hl ht q1 (by simp [wid])
 refine ⟨w2,?_,q2⟩
 unfold shrink_fixedBlock
 exact bnd p1 (obs1 (bnd fixed_ints (bnd (newCode_eq cd_mL) (bnd (newCode_eq cd_mD) (bnd p2 rfl)))))
/-! Tokens of a text. -/
theorem toksS_ok {b:List Int} (hb:∀ n∈b,0≤n∧n<256):∀ t∈toksS b,okTk t:=by
 have key:∀ (k at_:Nat),∀ t∈toks b k at_,okTk t:=by
  intro k
  induction k with
  | zero=>intro at_ t ht; simp [toks] at ht
  | succ k ih =>
   intro at_ t ht
   unfold toks at ht
   split at ht
   ·rename_i hlt
    split at ht
    ·rcases List.mem_cons.1 ht with rfl | h
     ·have:=hb _ (List.getElem_mem hlt)
      exact ⟨by rw [List.getD_eq_getElem?_getD,List.getElem?_eq_getElem hlt,Option.getD_some]; exact this,.inl rfl⟩
     ·exact ih _ t h
    ·rename_i h0
     rcases List.mem_cons.1 ht with rfl | h
     ·rcases bestS_cases b at_ with hc | ⟨c1,c2,c3,c4,c5,c6⟩
      ·rw [hc] at h0; exact absurd rfl h0
      ·exact ⟨⟨Int.le_refl 0,show (0:Int)<256 by decide⟩,.inr ⟨by show (3:Int)≤((bestS b at_).1:Int); omega,by show ((bestS b at_).1:Int)≤258; omega,by show (1:Int)≤((bestS b at_).2:Int); omega,by show ((bestS b at_).2:Int)≤2048; omega⟩⟩
     ·exact ih _ t h
   ·simp at ht
 intro t ht
 exact key _ _ t ht
def fxP (l:List T_Tok):List (Nat×Nat):=[(1,1),(1,2)]++(tksP mL mD l++[syP mL 256])
theorem tl_5000 {b:List Int} (hl:b.length≤4096):(toksS b).length≤5000:=by
 have:=toksS_len b
 omega
theorem fixed_is {b:List Int} (hb:∀ n∈b,0≤n∧n<256) (hl:b.length≤4096):∃ w,shrink_Fixed b=some (w.b,0)∧shrink_fixedBlock (toksS b)=some (some w)∧WP w (fxP (toksS b)):=by
 obtain ⟨w,p,q⟩:=fixedBlock_eq (tl_5000 hl) (toksS_ok hb)
 refine ⟨w,?_,p,q⟩
 unfold shrink_Fixed
 exact bnd (tokens_eq hb hl) (cnd_f rfl (bnd p rfl))
def usedC (m d:List Nat) (t:T_Tok):Prop:=if t.Len=0 then m.getD t.Byte.toNat 0≠0 else m.getD (lnN t.Len.toNat).1 0≠0∧d.getD (dsN t.Dist.toNat).1 0≠0
theorem wid_cons (p:Nat×Nat) (l:List (Nat×Nat)):wid (p::l)=p.2+wid l:=by simp [wid]
theorem lt_gD {m:List Nat} {j:Nat} (h:m.getD j 0≠0):j<m.length:=by
 rcases Nat.lt_or_ge j m.length with h1 | h1
 ·exact h1
 ·rw [List.getD_eq_getElem?_getD,List.getElem?_eq_none h1] at h; exact absurd rfl h
theorem chkF_ge:∀ (l:List T_Tok) (n N:Nat),chkF l n=some N→n≤N
 | [],n,N,h=>by cases h; exact Nat.le_refl _
 | t::l,n,N,h=>by
  unfold chkF at h
  split at h
  ·have:=chkF_ge l _ N h; omega
  ·cases h
theorem fix_used:(List.range 286).all (fun j=>decide (mL.getD j 0≠0))=true∧(List.range 30).all (fun j=>decide (mD.getD j 0≠0))=true:=by constructor <;> kernel_rfl
theorem fix_usedC {t:T_Tok} (h:okTk t):usedC mL mD t:=by
 unfold usedC
 have a1:∀ j,j<286→mL.getD j 0≠0:=fun j hj=>of_decide_eq_true (List.all_eq_true.1 fix_used.1 j (List.mem_range.2 hj))
 have a2:∀ j,j<30→mD.getD j 0≠0:=fun j hj=>of_decide_eq_true (List.all_eq_true.1 fix_used.2 j (List.mem_range.2 hj))
 split
 ·exact a1 _ (by have:=h.1; omega)
 ·rename_i h0
  rcases h.2 with h1 | ⟨h1,h2,h3,h4⟩
  ·exact absurd h1 h0
  obtain ⟨l1,l2,l3,l4,l5⟩:=ln_ok (n:=t.Len.toNat) (by omega) (by omega)
  obtain ⟨d1,d2,d3,d4⟩:=ds_ok (n:=t.Dist.toNat) (by omega) (by omega)
  exact ⟨a1 _ (by omega),a2 _ (by omega)⟩
theorem or_bit (c x:Nat) (hc:c<1000000) (hx:x<2):bits .or .i64 ((2 * c:Nat):Int) (x:Int)=((2 * c+x:Nat):Int):=by
 have h:=Nat.shiftLeft_add_eq_or_of_lt (a:=c) (b:=x) (i:=1) (by omega)
 rw [Nat.shiftLeft_eq,Nat.pow_one,Nat.mul_comm] at h
 show IntKind.i64.wrap ((BitVec.ofInt 64 ((2 * c:Nat):Int) ||| BitVec.ofInt 64 (x:Int)).toNat:Int)=_
 rw [BitVec.toNat_or,ofInt64 _ (by omega),ofInt64 _ (by omega),← h,wrap_i64 (by omega) (by omega)]
theorem nth_eq (m:List Nat) (n q:Nat) (hl:m.length≤1000) (hq:q<m.count n):∃ j,∃ h:j<m.length,m[j]=n∧(m.take j).count n=q∧canon_nth (ints m) (n:Int) (q:Int)=some (j:Int):=by
 have hcl:m.count n≤m.length:=List.count_le_length
 have key:∀ (k fuel i:Nat),m.length-i=k→i≤m.length→k<fuel→(m.take i).count n≤q →
  ∃ j,∃ h:j<m.length,m[j]=n∧(m.take j).count n=q∧loopF (S:=(Int×Int)) (O:=(Unit)⊕Int) (fun ((s25,s26):Int×Int) =>
   cond ((decide (s26<((ints m).length:Int))))
    (bindS (S:=Int) (A:=((Int×Int)⊕((Unit)⊕Int)))
     ((ixO s26 (ints m).length).bind fun v2 =>
     (getO (ints m) v2).bind fun v3 =>
     cond ((v3 != (n:Int)))
      (some (.inl s25))
      (cond ((s25==0))
       (some (.inr (.inr (.inr (s26)))))
       ((some (IntKind.i64.wrap (s25-1))).bind fun v6 =>
       some (.inl v6))))
     (fun (s45:Int) =>
      (some (IntKind.i64.wrap (s26+1))).bind fun v13 =>
      some (.inl (s45,v13))) some)
    (some (.inr (.inl ())))) fuel (((q-(m.take i).count n:Nat):Int),(i:Int))=some (.inr (j:Int)):=by
  intro k
  induction k with
  | zero =>
   intro fuel i hk hi hf hc
   have:i=m.length:=by omega
   subst this
   rw [List.take_length] at hc
   omega
  | succ k ih =>
   intro fuel i hk hi hf hc
   obtain ⟨f,rfl⟩:∃ f,fuel=f+1:=⟨fuel-1,by omega⟩
   have hlt:i<m.length:=by omega
   have hlt':i<(ints m).length:=by rw [ints_len]; exact hlt
   have hw:IntKind.i64.wrap ((i:Int)+1)=((i+1:Nat):Int):=by rw [wrap_i64 (by omega) (by omega)]; simp
   by_cases h1:m[i]=n
   ·by_cases h2:(m.take i).count n=q
    ·refine ⟨i,hlt,h1,h2,loop_exit (cnd_t (by simp; omega) (bndR (a := .inr (.inr (i:Int))) (bnd (ixO_of hlt') (bnd (ints_get hlt) (cnd_f (by simp [h1]) (cnd_t (by rw [h2]; simp) rfl)))) rfl))⟩
    ·have hcnt:(m.take (i+1)).count n=(m.take i).count n+1:=by rw [take_snoc hlt,List.count_append,h1]; simp
     obtain ⟨j,hj,e1,e2,hr⟩:=ih f (i+1) (by omega) (by omega) (by omega) (by omega)
     have w3:IntKind.i64.wrap (((q-(m.take i).count n:Nat):Int)-1)=((q-(m.take (i+1)).count n:Nat):Int):=by rw [hcnt,wrap_i64 (by omega) (by omega)]; omega
     refine ⟨j,hj,e1,e2,(loop_next (cnd_t (by simp; omega) (bndL (s:=((q-(m.take (i+1)).count n:Nat):Int)) (bnd (ixO_of hlt') (bnd (ints_get hlt) (cnd_f (by simp [h1]) (cnd_f ?_ (bnd (x:=((q-(m.take (i+1)).count n:Nat):Int)) (by rw [w3]) rfl))))) (bnd (x:=((i+1:Nat):Int)) (by rw [hw]) rfl)))).trans hr⟩
     rw [beq_eq_false_iff_ne]; omega
   ·have hcnt:(m.take (i+1)).count n=(m.take i).count n:=by
     rw [take_snoc hlt,List.count_append]
     have:List.count n [m[i]]=0:=by simp [List.count_cons,h1]
     rw [this]; rfl
    obtain ⟨j,hj,e1,e2,hr⟩:=ih f (i+1) (by omega) (by omega) (by omega) (by omega)
    rw [hcnt] at hr
    refine ⟨j,hj,e1,e2,(loop_next (cnd_t (by simp; omega) (bndL (s:=((q-(m.take i).count n:Nat):Int)) (bnd (ixO_of hlt') (bnd (ints_get hlt) (cnd_t ?_ rfl))) (bnd (x:=((i+1:Nat):Int)) (by rw [hw]) rfl)))).trans hr⟩
    simp only [bne_iff_ne,ne_eq]; omega
 obtain ⟨j,hj,e1,e2,hr⟩:=key m.length BIG 0 (by omega) (Nat.zero_le _) (by unfold BIG; omega) (by simp)
 rw [List.take_zero,List.count_nil,Nat.sub_zero] at hr
 refine ⟨j,hj,e1,e2,?_⟩
 unfold canon_nth
 exact bndR (a:=(j:Int)) hr rfl
theorem bytesFor_eq (N:Nat) (h:N≤100000):bits_bytesFor (N:Int)=some (((N+7) / 8:Nat):Int):=by
 unfold bits_bytesFor
 have w:IntKind.i64.wrap ((N:Int)+7)=((N+7:Nat):Int):=by rw [wrap_i64 (by omega) (by omega)]; simp
 have q:=quo_nat (N+7) 8 (by omega) (by omega)
 rw [show ((8:Nat):Int)=8 from rfl] at q
 exact bnd (x:=((N+7:Nat):Int)) (by rw [w]) (bnd q rfl)
def readS (lengths b v9 v13:List Int):((Int×Int×Int))→Option ((Int×Int×Int)⊕((Unit)⊕(Int×Int×Int))):=(fun ((s52,s53,s54):Int×Int×Int) =>
     bindS (S:=Bool) (A:=((Int×Int×Int)⊕((Unit)⊕(Int×Int×Int))))
      (cond ((decide (s54≤15)))
       ((some (IntKind.i64.wrap (8 * (b.length:Int)))).bind fun v16 =>
       some (.inl ((decide (s52<v16)))))
       (some (.inl false)))
      (fun (s67:Bool) =>
       cond (s67)
        ((shlO .i64 s53 1).bind fun v22 =>
        (quoO .i64 s52 8).bind fun v23 =>
        (ixO v23 b.length).bind fun v24 =>
        (getO b v24).bind fun v25 =>
        (remO s52 8).bind fun v26 =>
        (shrO .u8 v25 v26).bind fun v27 =>
        (some (bits .and .u8 v27 1)).bind fun v28 =>
        (some (IntKind.i64.wrap v28)).bind fun v29 =>
        (some (bits .or .i64 v22 v29)).bind fun v30 =>
        (some (IntKind.i64.wrap (s52+1))).bind fun v31 =>
        (ixO s54 16).bind fun v32 =>
        (getO v13 v32).bind fun v33 =>
        (ixO s54 16).bind fun v34 =>
        (getO v9 v34).bind fun v35 =>
        (some (IntKind.i64.wrap (v33+v35))).bind fun v36 =>
        cond ((decide (v30<v36)))
         ((ixO s54 16).bind fun v38 =>
         (getO v13 v38).bind fun v39 =>
         (some (IntKind.i64.wrap (v30-v39))).bind fun v40 =>
         (canon_nth lengths s54 v40).bind fun v41 =>
         some (.inr (.inr ((v41,v31,0)))))
         ((some (IntKind.i64.wrap (s54+1))).bind fun v42 =>
         some (.inl (v31,v30,v42))))
        (some (.inr (.inl ())))) some)
theorem read_code {m:List Nat} (hl:m.length≤300) (hm:∀ x∈m,x≤15) (hf:forms m=true) {B:List Int} (hB:isB B) (hbl:B.length≤10000) {j:Nat} (hj:j<m.length) (h0:m[j]≠0) (P:Nat) (hP:P+m[j]≤8 * B.length)
  (hbits:∀ i,i<m[j]→bitC B (P+i)=(code m j).testBit (m[j]-1-i)):canon_Read (ints m) B (P:Int)=some ((j:Int),((P+m[j]:Nat):Int),0):=by
 have hwl:=forms_ws hf
 have hck:=check_ints m (by omega)
 rw [if_pos ⟨hl,hm⟩,if_pos hf] at hck
 have l16:lnO 16 (ints (fl m 16))=some (ints (fl m 16)):=by simp [lnO,ints_len,fl_len]
 have l16t:lnO 16 (ints (tal m))=some (ints (tal m)):=by simp [lnO,ints_len,tal_len]
 have l0:lnO 16 (List.replicate 16 (0:Int))=some (List.replicate 16 (0:Int)):=by decide
 have w8:IntKind.i64.wrap (8 * (B.length:Int))=((8 * B.length:Nat):Int):=by rw [wrap_i64 (by omega) (by omega)]; simp
 have xj:=hm _ (List.getElem_mem hj)
 have hcl:=code_lt hwl hm hj h0
 have key:∀ (k fuel n:Nat),m[j]-n=k→1≤n→n≤m[j]→k<fuel →
   loopF (readS (ints m) B (ints (tal m)) (ints (fl m 16))) fuel (((P+n-1:Nat):Int),((code m j / 2 ^ (m[j]-(n-1)):Nat):Int),(n:Int))=some (.inr ((j:Int),((P+m[j]:Nat):Int),0)):=by
  intro k
  induction k with
  | zero =>
   intro fuel n hk h1 hn hfu
   have hne:n=m[j]:=by omega
   obtain ⟨f,rfl⟩:∃ f,fuel=f+1:=⟨fuel-1,by omega⟩
   have h16:n<16:=by omega
   have h15:n≤15:=by omega
   have hpq:(P+n-1) / 8<B.length:=by omega
   have hx:=hB _ (List.getElem_mem hpq)
   obtain ⟨x,hxe⟩:∃ x:Nat,B[(P+n-1) / 8]=(x:Int):=⟨B[(P+n-1) / 8].toNat,by omega⟩
   have hx256:x<256:=by omega
   have q8:=quo_nat (P+n-1) 8 (by omega) (by omega)
   have r8:=rem_nat (P+n-1) 8 (by omega)
   rw [show ((8:Nat):Int)=8 from rfl] at q8 r8
   have hr8:(P+n-1) % 8<8:=Nat.mod_lt _ (by omega)
   have hsh:=shr_nat .u8 x ((P+n-1) % 8) (by simp only [IntKind.bits]; omega)
   have hdv:x / 2 ^ ((P+n-1) % 8)<256:=Nat.lt_of_le_of_lt (Nat.div_le_self _ _) hx256
   have hand:=and1_u8 _ hdv
   have hb:=hbits (n-1) (by omega)
   have hbx:bitC B (P+(n-1))=x.testBit ((P+n-1) % 8):=by
    rw [show P+(n-1)=P+n-1 by omega]
    simp [bitC,List.getD_eq_getElem?_getD,hpq,hxe]
   rw [hbx,Nat.testBit_eq_decide_div_mod_eq,Nat.testBit_eq_decide_div_mod_eq,show m[j]-1-(n-1)=m[j]-n by omega] at hb
   have hy:x / 2 ^ ((P+n-1) % 8) % 2=code m j / 2 ^ (m[j]-n) % 2:=by
    have a1:x / 2 ^ ((P+n-1) % 8) % 2<2:=Nat.mod_lt _ (by omega)
    have a2:code m j / 2 ^ (m[j]-n) % 2<2:=Nat.mod_lt _ (by omega)
    rcases Nat.lt_or_ge (x / 2 ^ ((P+n-1) % 8) % 2) 1 with h | h
    ·have e1:¬ x / 2 ^ ((P+n-1) % 8) % 2=1:=by omega
     rw [decide_eq_false e1] at hb
     have:=of_decide_eq_false hb.symm
     omega
    ·have e1:x / 2 ^ ((P+n-1) % 8) % 2=1:=by omega
     rw [decide_eq_true e1] at hb
     have:=of_decide_eq_true hb.symm
     omega
   have hc2:2 * (code m j / 2 ^ (m[j]-(n-1)))+code m j / 2 ^ (m[j]-n) % 2=code m j / 2 ^ (m[j]-n):=by
    rw [show m[j]-(n-1)=(m[j]-n)+1 by omega,Nat.pow_succ,← Nat.div_div_eq_div_mul]
    omega
   have hcs:code m j / 2 ^ (m[j]-(n-1))≤32768:=Nat.le_trans (Nat.div_le_self _ _) (by have:=pow_le15 xj; omega)
   have hcs2:code m j / 2 ^ (m[j]-n)≤32768:=Nat.le_trans (Nat.div_le_self _ _) (by have:=pow_le15 xj; omega)
   rw [hy] at hand
   have hyl:code m j / 2 ^ (m[j]-n) % 2<2:=Nat.mod_lt _ (by omega)
   generalize code m j / 2 ^ (m[j]-(n-1))=c at *
   have hor:=or_bit c (code m j / 2 ^ (m[j]-n) % 2) (by omega) hyl
   rw [hc2] at hor
   have sh1:=shl_nat c 1 (by omega) (by omega)
   rw [Nat.pow_one,Nat.mul_comm c 2,show ((1:Nat):Int)=1 from rfl] at sh1
   generalize hCd:code m j / 2 ^ (m[j]-n)=C at *
   have wy:IntKind.i64.wrap ((C % 2:Nat):Int)=((C % 2:Nat):Int):=wrap_i64 (by omega) (by omega)
   have w1:IntKind.i64.wrap (((P+n-1:Nat):Int)+1)=((P+m[j]:Nat):Int):=by rw [wrap_i64 (by omega) (by omega)]; omega
   have hfl:n<(fl m 16).length:=by rw [fl_len]; exact h16
   have hfg:(fl m 16)[n]=fst m n:=by simp [fl,h16]
   have hg1:getO (ints (fl m 16)) n=some ((fst m n:Nat):Int):=by rw [ints_get hfl,hfg]
   have hg2:=tal_get m h16 (by omega)
   have hle:=fst_le hwl h1 h15
   have hp2:=pow_le15 h15
   have w3:IntKind.i64.wrap (((fst m n:Nat):Int)+((m.count n:Nat):Int))=((fst m n+m.count n:Nat):Int):=by rw [wrap_i64 (by omega) (by omega)]; simp
   have hgo:decide ((((P+n-1:Nat):Int))<((8 * B.length:Nat):Int))=true:=by simp; omega
   have d15:decide ((n:Int)≤15)=true:=by simp; omega
   have hC:C=code m j:=by rw [← hCd,hne,Nat.sub_self,Nat.pow_zero,Nat.div_one]
   have hct:=count_take_lt hj
   have hcode:=code_of hj h0
   rw [← hne] at hct hcode
   obtain ⟨j',hj',e1,e2,hnth⟩:=nth_eq m n (C-fst m n) (by omega) (by omega)
   have hjj:j'=j:=by
    have hc':=code_of hj' (by omega)
    rw [e1] at hc'
    rcases Nat.lt_trichotomy j' j with h | h | h
    ·have:=code_same hj' hj (by omega) (by omega) h; omega
    ·exact h
    ·have:=code_same hj hj' h0 (by omega) h; omega
   rw [hjj] at hnth
   have w4:IntKind.i64.wrap ((C:Int)-((fst m n:Nat):Int))=((C-fst m n:Nat):Int):=by rw [wrap_i64 (by omega) (by omega)]; omega
   refine loop_exit ?_
   unfold readS
   exact bndL (s:=true) (cnd_t d15 (bnd (x:=((8 * B.length:Nat):Int)) (by rw [w8]) (by rw [hgo]))) (cnd_t rfl (bnd sh1 (bnd q8 (bnd (ixO_of hpq) (bnd (x:=(x:Int)) (by rw [getO_of hpq,hxe]) (bnd r8 (bnd hsh (bnd (x:=((C % 2:Nat):Int)) (by rw [hand])
     (bnd (x:=((C % 2:Nat):Int)) (by rw [wy]) (bnd (x:=(C:Int)) (by rw [hor]) (bnd (x:=((P+m[j]:Nat):Int)) (by rw [w1]) (bnd (ixO_of h16) (bnd hg1 (bnd (ixO_of h16) (bnd hg2 (bnd (x:=((fst m n+m.count n:Nat):Int)) (by rw [w3]) (cnd_t (by simp; omega)
     (bnd (ixO_of h16) (bnd hg1 (bnd (x:=((C-fst m n:Nat):Int)) (by rw [w4]) (bnd hnth rfl)))))))))))))))))))))
  | succ k ih =>
   intro fuel n hk h1 hn hfu
   obtain ⟨f,rfl⟩:∃ f,fuel=f+1:=⟨fuel-1,by omega⟩
   have h16:n<16:=by omega
   have h15:n≤15:=by omega
   have hpq:(P+n-1) / 8<B.length:=by omega
   have hx:=hB _ (List.getElem_mem hpq)
   obtain ⟨x,hxe⟩:∃ x:Nat,B[(P+n-1) / 8]=(x:Int):=⟨B[(P+n-1) / 8].toNat,by omega⟩
   have hx256:x<256:=by omega
   have q8:=quo_nat (P+n-1) 8 (by omega) (by omega)
   have r8:=rem_nat (P+n-1) 8 (by omega)
   rw [show ((8:Nat):Int)=8 from rfl] at q8 r8
   have hr8:(P+n-1) % 8<8:=Nat.mod_lt _ (by omega)
   have hsh:=shr_nat .u8 x ((P+n-1) % 8) (by simp only [IntKind.bits]; omega)
   have hdv:x / 2 ^ ((P+n-1) % 8)<256:=Nat.lt_of_le_of_lt (Nat.div_le_self _ _) hx256
   have hand:=and1_u8 _ hdv
   have hb:=hbits (n-1) (by omega)
   have hbx:bitC B (P+(n-1))=x.testBit ((P+n-1) % 8):=by
    rw [show P+(n-1)=P+n-1 by omega]
    simp [bitC,List.getD_eq_getElem?_getD,hpq,hxe]
   rw [hbx,Nat.testBit_eq_decide_div_mod_eq,Nat.testBit_eq_decide_div_mod_eq,show m[j]-1-(n-1)=m[j]-n by omega] at hb
   have hy:x / 2 ^ ((P+n-1) % 8) % 2=code m j / 2 ^ (m[j]-n) % 2:=by
    have a1:x / 2 ^ ((P+n-1) % 8) % 2<2:=Nat.mod_lt _ (by omega)
    have a2:code m j / 2 ^ (m[j]-n) % 2<2:=Nat.mod_lt _ (by omega)
    rcases Nat.lt_or_ge (x / 2 ^ ((P+n-1) % 8) % 2) 1 with h | h
    ·have e1:¬ x / 2 ^ ((P+n-1) % 8) % 2=1:=by omega
     rw [decide_eq_false e1] at hb
     have:=of_decide_eq_false hb.symm
     omega
    ·have e1:x / 2 ^ ((P+n-1) % 8) % 2=1:=by omega
     rw [decide_eq_true e1] at hb
     have:=of_decide_eq_true hb.symm
     omega
   have hc2:2 * (code m j / 2 ^ (m[j]-(n-1)))+code m j / 2 ^ (m[j]-n) % 2=code m j / 2 ^ (m[j]-n):=by
    rw [show m[j]-(n-1)=(m[j]-n)+1 by omega,Nat.pow_succ,← Nat.div_div_eq_div_mul]
    omega
   have hcs:code m j / 2 ^ (m[j]-(n-1))≤32768:=Nat.le_trans (Nat.div_le_self _ _) (by have:=pow_le15 xj; omega)
   have hcs2:code m j / 2 ^ (m[j]-n)≤32768:=Nat.le_trans (Nat.div_le_self _ _) (by have:=pow_le15 xj; omega)
   have hpre:=code_pre hm hj h0 h1 (by omega)
   have hr:=ih f (n+1) (by omega) (by omega) (by omega) (by omega)
   rw [show n+1-1=n by omega] at hr
   rw [hy] at hand
   have hyl:code m j / 2 ^ (m[j]-n) % 2<2:=Nat.mod_lt _ (by omega)
   generalize code m j / 2 ^ (m[j]-(n-1))=c at *
   have hor:=or_bit c (code m j / 2 ^ (m[j]-n) % 2) (by omega) hyl
   rw [hc2] at hor
   have sh1:=shl_nat c 1 (by omega) (by omega)
   rw [Nat.pow_one,Nat.mul_comm c 2,show ((1:Nat):Int)=1 from rfl] at sh1
   generalize hCd:code m j / 2 ^ (m[j]-n)=C at *
   have wy:IntKind.i64.wrap ((C % 2:Nat):Int)=((C % 2:Nat):Int):=wrap_i64 (by omega) (by omega)
   have w1:IntKind.i64.wrap (((P+n-1:Nat):Int)+1)=((P+(n+1)-1:Nat):Int):=by rw [wrap_i64 (by omega) (by omega)]; omega
   have w2:IntKind.i64.wrap ((n:Int)+1)=((n+1:Nat):Int):=by rw [wrap_i64 (by omega) (by omega)]; simp
   have hfl:n<(fl m 16).length:=by rw [fl_len]; exact h16
   have hfg:(fl m 16)[n]=fst m n:=by simp [fl,h16]
   have hg1:getO (ints (fl m 16)) n=some ((fst m n:Nat):Int):=by rw [ints_get hfl,hfg]
   have hg2:=tal_get m h16 (by omega)
   have hle:=fst_le hwl h1 h15
   have hp2:=pow_le15 h15
   have w3:IntKind.i64.wrap (((fst m n:Nat):Int)+((m.count n:Nat):Int))=((fst m n+m.count n:Nat):Int):=by rw [wrap_i64 (by omega) (by omega)]; simp
   have hgo:decide ((((P+n-1:Nat):Int))<((8 * B.length:Nat):Int))=true:=by simp; omega
   have d15:decide ((n:Int)≤15)=true:=by simp; omega
   refine (loop_next ?_).trans hr
   unfold readS
   exact bndL (s:=true) (cnd_t d15 (bnd (x:=((8 * B.length:Nat):Int)) (by rw [w8]) (by rw [hgo]))) (cnd_t rfl (bnd sh1 (bnd q8 (bnd (ixO_of hpq) (bnd (x:=(x:Int)) (by rw [getO_of hpq,hxe]) (bnd r8 (bnd hsh (bnd (x:=((C % 2:Nat):Int)) (by rw [hand])
     (bnd (x:=((C % 2:Nat):Int)) (by rw [wy]) (bnd (x:=(C:Int)) (by rw [hor]) (bnd (x:=((P+(n+1)-1:Nat):Int)) (by rw [w1]) (bnd (ixO_of h16) (bnd hg1 (bnd (ixO_of h16) (bnd hg2 (bnd (x:=((fst m n+m.count n:Nat):Int)) (by rw [w3]) (cnd_f (by simp; omega)
     (bnd (x:=((n+1:Nat):Int)) (by rw [w2]) rfl))))))))))))))))))
 have hk:=key (m[j]-1) BIG 1 rfl (by omega) (by omega) (by unfold BIG; omega)
 rw [show P+1-1=P by omega,Nat.sub_self,Nat.sub_zero,Nat.div_eq_of_lt (by omega)] at hk
 unfold canon_Read
 refine bnd hck (cnd_f rfl (bndL (s:=false) (cnd_f (by simp) (bnd (x:=((8 * B.length:Nat):Int)) (by rw [w8]) ?_)) (cnd_f rfl (bnd (count_eq m hm (by omega)) (bnd l0 (bnd l16t (bnd l16t (bnd (firsts_eq m (by omega) hwl) (bnd l0 (bnd l16 (bndR (a:=((j:Int),((P+m[j]:Nat):Int),0)) hk rfl)))))))))))
 rw [decide_eq_false (by omega)]
def bgS (b:List Int) (at_ n v10:Int):((Int×Int))→Option ((Int×Int)⊕((Int)⊕(Int×Int×Int))):=(fun ((s25,s26):Int×Int) =>
     (some (IntKind.i64.wrap (at_+n))).bind fun v11 =>
     (bits_bytesFor v11).bind fun v12 =>
     cond ((decide (s26<v12)))
      ((ixO s26 b.length).bind fun v14 =>
      (getO b v14).bind fun v15 =>
      (some (IntKind.u32.wrap v15)).bind fun v16 =>
      (some (IntKind.i64.wrap (s26-v10))).bind fun v17 =>
      (some (IntKind.i64.wrap (8 * v17))).bind fun v18 =>
      (shlO .u32 v16 v18).bind fun v19 =>
      (some (bits .or .u32 s25 v19)).bind fun v20 =>
      (some (IntKind.i64.wrap (s26+1))).bind fun v21 =>
      some (.inl (v20,v21)))
      (some (.inr (.inl s25))))
theorem or_u32n (a b:Nat) (ha:a<4294967296) (hb:b<4294967296):bits .or .u32 (a:Int) (b:Int)=((a ||| b:Nat):Int):=by
 have hx:a ||| b<2 ^ 32:=Nat.or_lt_two_pow (by omega) (by omega)
 show IntKind.u32.wrap ((BitVec.ofInt 32 (a:Int) ||| BitVec.ofInt 32 (b:Int)).toNat:Int)=_
 rw [BitVec.toNat_or,ofInt32 a ha,ofInt32 b hb,wrap_u32c (by omega) (by omega)]
theorem and_u32n (a b:Nat) (ha:a<4294967296) (hb:b<4294967296):bits .and .u32 (a:Int) (b:Int)=((a &&& b:Nat):Int):=by
 have hx:a &&& b<2 ^ 32:=Nat.and_lt_two_pow a (by omega)
 show IntKind.u32.wrap ((BitVec.ofInt 32 (a:Int) &&& BitVec.ofInt 32 (b:Int)).toNat:Int)=_
 rw [BitVec.toNat_and,ofInt32 a ha,ofInt32 b hb,wrap_u32c (by omega) (by omega)]
theorem get_eq {b:List Int} (hb:isB b) (hbl:b.length≤10000) (p n:Nat) (hn:n≤24) (hp:p+n≤8 * b.length) :
  ∃ v:Nat,bits_Get b (p:Int) (n:Int)=some ((v:Int),((p+n:Nat):Int),0)∧v<2 ^ n∧∀ i,i<n→v.testBit i=bitC b (p+i):=by
 have w8:some (IntKind.i64.wrap (8 * (b.length:Int)))=some ((8 * b.length:Nat):Int):=by rw [wrap_i64 (by omega) (by omega)]; simp
 have wn:some (IntKind.i64.wrap ((p:Int)+(n:Int)))=some ((p+n:Nat):Int):=by rw [wrap_i64 (by omega) (by omega)]; simp
 have hbf:=bytesFor_eq (p+n) (by omega)
 have key:∀ (k i acc fuel:Nat),i+k=(p+n+7) / 8→p / 8≤i→k<fuel→acc<2 ^ (8 * (i-p / 8))→(∀ t,t<8 * (i-p / 8)→acc.testBit t=bitC b (8 * (p / 8)+t)) →
   ∃ r:Nat,loopF (bgS b (p:Int) (n:Int) ((p / 8:Nat):Int)) fuel ((acc:Int),(i:Int))=some (.inl (r:Int))∧r<4294967296∧∀ t,t<8 * ((p+n+7) / 8-p / 8)→r.testBit t=bitC b (8 * (p / 8)+t):=by
  intro k
  induction k with
  | zero =>
   intro i acc fuel hi hpi hf ha hbit
   obtain ⟨fu,rfl⟩:∃ fu,fuel=fu+1:=⟨fuel-1,by omega⟩
   obtain rfl:i=(p+n+7) / 8:=by omega
   refine ⟨acc,loop_exit (by unfold bgS; exact bnd wn (bnd hbf (cnd_f (decide_eq_false (by omega)) rfl))),?_,hbit⟩
   have:2 ^ (8 * ((p+n+7) / 8-p / 8))≤2 ^ 32:=Nat.pow_le_pow_right (by omega) (by omega)
   omega
  | succ k ih =>
   intro i acc fuel hi hpi hf ha hbit
   obtain ⟨fu,rfl⟩:∃ fu,fuel=fu+1:=⟨fuel-1,by omega⟩
   have hib:i<b.length:=by omega
   obtain ⟨x,hx,hx2⟩:∃ x:Nat,b[i]=(x:Int)∧x<256:=⟨b[i].toNat,by have:=hb _ (List.getElem_mem hib); omega,by have:=hb _ (List.getElem_mem hib); omega⟩
   have hg:getO b i=some (x:Int):=by rw [← hx]; simp [getO,hib]
   have w0:IntKind.u32.wrap (x:Int)=(x:Int):=wrap_u32c (by omega) (by omega)
   have w1:some (IntKind.i64.wrap ((i:Int)-((p / 8:Nat):Int)))=some ((i-p / 8:Nat):Int):=by rw [wrap_i64 (by omega) (by omega)]; congr 1; omega
   have w2:some (IntKind.i64.wrap (8 * ((i-p / 8:Nat):Int)))=some ((8 * (i-p / 8):Nat):Int):=by rw [wrap_i64 (by omega) (by omega)]; simp
   have hm:i-p / 8≤3:=by omega
   have hpw:2 ^ (8 * (i-p / 8))≤2 ^ 24:=Nat.pow_le_pow_right (by omega) (by omega)
   have e24:(2:Nat) ^ 24=16777216:=by decide
   have hxs:x * 2 ^ (8 * (i-p / 8))<4294967296:=by
    have:=Nat.mul_le_mul_left x hpw
    omega
   have hsh:=shl_u32 x (8 * (i-p / 8)) (by omega) hxs
   have hor:=or_u32n acc (x * 2 ^ (8 * (i-p / 8))) (by omega) hxs
   have hlt:acc ||| x * 2 ^ (8 * (i-p / 8))<2 ^ (8 * (i+1-p / 8)):=by
    refine Nat.or_lt_two_pow (Nat.lt_of_lt_of_le ha (Nat.pow_le_pow_right (by omega) (by omega))) ?_
    rw [show 8 * (i+1-p / 8)=8+8 * (i-p / 8) by omega,Nat.pow_add]
    exact Nat.mul_lt_mul_of_pos_right (by omega) (Nat.two_pow_pos _)
   obtain ⟨r,r1,r2,r3⟩:=ih (i+1) (acc ||| x * 2 ^ (8 * (i-p / 8))) fu (by omega) (by omega) (by omega) hlt (fun t ht=>by
    rw [Nat.testBit_or,Nat.mul_comm,Nat.testBit_two_pow_mul]
    by_cases h:t<8 * (i-p / 8)
    ·rw [hbit t h,decide_eq_false (by omega)]; simp
    ·have h0:acc.testBit t=false:=Nat.testBit_lt_two_pow (Nat.lt_of_lt_of_le ha (Nat.pow_le_pow_right (by omega) (by omega)))
     rw [h0,decide_eq_true (by omega:t≥8 * (i-p / 8))]
     simp only [bitC,Bool.true_and,Bool.false_or]
     have e1:(8 * (p / 8)+t) / 8=i:=by omega
     have e2:(8 * (p / 8)+t) % 8=t-8 * (i-p / 8):=by omega
     rw [e1,e2,List.getD_eq_getElem?_getD,List.getElem?_eq_getElem hib,Option.getD_some,hx]
     rfl)
   refine ⟨r,(loop_next (by unfold bgS; exact bnd wn (bnd hbf (cnd_t (decide_eq_true (by omega)) (bnd (ixO_of hib) (bnd hg (bnd (congrArg some w0) (bnd w1 (bnd w2 (bnd hsh (bnd (congrArg some hor) (bnd (congrArg some (wrapS (n:=i) (by omega))) rfl)))))))))))).trans r1,r2,r3⟩
 obtain ⟨acc,hacc,hac2,hac3⟩:=key ((p+n+7) / 8-p / 8) (p / 8) 0 BIG (by omega) (Nat.le_refl _) (by simp only [BIG]; omega) (by simp) (by intro t ht; omega)
 have e1:shlO .u32 1 (n:Int)=some ((1 * 2 ^ n:Nat):Int):=shl_u32 1 n (by omega) (by have:2 ^ n≤2 ^ 24:=Nat.pow_le_pow_right (by omega) hn; omega)
 rw [Nat.one_mul] at e1
 have hpn:2 ^ n≤2 ^ 24:=Nat.pow_le_pow_right (by omega) hn
 have hp0:=Nat.two_pow_pos n
 have e24:(2:Nat) ^ 24=16777216:=by decide
 have e2:IntKind.u32.wrap (((2 ^ n:Nat):Int)-1)=((2 ^ n-1:Nat):Int):=by rw [wrap_u32c (by omega) (by omega)]; omega
 have e3:=shr_u32n acc (p % 8) (by omega)
 have hsm:acc / 2 ^ (p % 8)<4294967296:=Nat.lt_of_le_of_lt (Nat.div_le_self _ _) hac2
 have e4:=and_u32n (acc / 2 ^ (p % 8)) (2 ^ n-1) hsm (by omega)
 rw [Nat.and_two_pow_sub_one_eq_mod] at e4
 have hv:acc / 2 ^ (p % 8) % 2 ^ n<2 ^ n:=Nat.mod_lt _ hp0
 refine ⟨acc / 2 ^ (p % 8) % 2 ^ n,?_,hv,fun i hi => ?_⟩
 ·unfold bits_Get
  exact bndL (s:=false) (cnd_f (decide_eq_false (by omega)) (cnd_f (decide_eq_false (by omega)) (cnd_f (decide_eq_false (by omega)) (bnd w8 (by rw [decide_eq_false (by omega)]))))) (cnd_f rfl (bnd wn (bnd w8 (cnd_f (decide_eq_false (by omega)) (bnd (quo_nat p 8 (by omega) (by omega)) (bndL hacc (bnd e1 (bnd (congrArg some e2) (bnd (rem_nat p 8 (by omega)) (bnd e3 (bnd (congrArg some e4) (bnd (congrArg some (wrapN _ (by omega))) (bnd wn rfl)))))))))))))
 ·rw [Nat.testBit_mod_two_pow,decide_eq_true hi,Bool.true_and,Nat.testBit_div_two_pow,hac3 _ (by omega)]
  congr 1
  omega
def gpS (dist n:Int):(((List Int)×Int))→Option (((List Int)×Int)⊕(((List Int))⊕(Int×T_grow_stream))):=(fun ((s13,s14):(List Int)×Int) =>
   cond ((decide (s14<n)))
    ((some (IntKind.i64.wrap ((s13.length:Int)-dist))).bind fun v5 =>
    (ixO v5 s13.length).bind fun v6 =>
    (getO s13 v6).bind fun v7 =>
    (appO 1 s13 [v7]).bind fun v8 =>
    (some (IntKind.i64.wrap (s14+1))).bind fun v9 =>
    some (.inl (v8,v9)))
    (some (.inr (.inl s13))))
def gtS (lits dists:List Int):(((List Int)×Int×(List Int)×Int×Int))→Option (((List Int)×Int×(List Int)×Int×Int)⊕((Unit)⊕(Int×T_grow_stream))):=(fun ((s39,s40,s41,s42,s43):(List Int)×Int×(List Int)×Int×Int) =>
 (grow_stream_symbol (T_grow_stream.mk s39 s40 s41 s42 s43) lits).bind fun v1 =>
 cond ((v1.2.1 != 0))
  (some (.inr (.inr ((v1.2.1,v1.2.2)))))
  (bindS (S:=(List Int)×Int×(List Int)×Int×Int×Int) (A:=(((List Int)×Int×(List Int)×Int×Int)⊕((Unit)⊕(Int×T_grow_stream))))
   (cond ((v1.1==256))
    (some (.inr (.inr (.inr ((0,v1.2.2))))))
    (cond ((decide (v1.1<256)))
     ((grow_stream_literal v1.2.2 v1.1).bind fun v5 =>
     some (.inl (v5.2.b,v5.2.at_,v5.2.out,v5.2.most,v5.2.blocks,v5.1)))
     ((grow_stream_match v1.2.2 v1.1 dists).bind fun v6 =>
     some (.inl (v6.2.b,v6.2.at_,v6.2.out,v6.2.most,v6.2.blocks,v6.1)))))
   (fun ((s68,s69,s70,s71,s72,s73):(List Int)×Int×(List Int)×Int×Int×Int) =>
    cond ((s73 != 0))
     (some (.inr (.inr ((s73,(T_grow_stream.mk s68 s69 s70 s71 s72))))))
     (some (.inl (s68,s69,s70,s71,s72)))) some))
/-! The program's reader of bits. -/
theorem get_cut {b:List Int} (hbl:b.length≤10000) (p n:Nat) (hp:p≤8 * b.length) (hn:n≤24) (h:8 * b.length<p+n):bits_Get b (p:Int) (n:Int)=some (0,0,3):=by
 have w8:some (IntKind.i64.wrap (8 * (b.length:Int)))=some ((8 * b.length:Nat):Int):=by rw [wrap_i64 (by omega) (by omega)]; simp
 have wn:some (IntKind.i64.wrap ((p:Int)+(n:Int)))=some ((p+n:Nat):Int):=by rw [wrap_i64 (by omega) (by omega)]; simp
 unfold bits_Get
 exact bndL (s:=false) (cnd_f (decide_eq_false (by omega)) (cnd_f (decide_eq_false (by omega)) (cnd_f (decide_eq_false (by omega)) (bnd w8 (by rw [decide_eq_false (by omega)]))))) (cnd_f rfl (bnd wn (bnd w8 (cnd_t (decide_eq_true (by omega)) rfl))))
theorem gnum {B:List Int} (hB:isB B) (hl:B.length≤10000) {P n v:Nat} (hn:n≤24) (hP:P+n≤8 * B.length) (hv:v<2 ^ n) (hb:∀ t,t<n→bitC B (P+t)=v.testBit t) {out:List Int} {most bl:Int} :
  grow_stream_number (T_grow_stream.mk B (P:Int) out most bl) (n:Int)=some ((v:Int),0,T_grow_stream.mk B ((P+n:Nat):Int) out most bl):=by
 obtain ⟨v',h1,h2,h3⟩:=get_eq hB hl P n hn hP
 have e:v'=v:=by
  apply Nat.eq_of_testBit_eq
  intro q
  by_cases hq:q<n
  ·rw [h3 q hq,hb q hq]
  ·have hle:2 ^ n≤2 ^ q:=Nat.pow_le_pow_right (by omega) (by omega)
   rw [Nat.testBit_lt_two_pow (Nat.lt_of_lt_of_le hv hle),Nat.testBit_lt_two_pow (Nat.lt_of_lt_of_le h2 hle)]
 subst e
 unfold grow_stream_number
 exact bnd h1 (cnd_f rfl rfl)
theorem gnum_sp {B:List Int} (hB:isB B) (hl:B.length≤10000) {P n v:Nat} (hn:n≤24) (hP:P+n≤8 * B.length) (hv:v<2 ^ n) (hb:Sp [(v,n)] P B) {out:List Int} {most bl:Int} :
  grow_stream_number (T_grow_stream.mk B (P:Int) out most bl) (n:Int)=some ((v:Int),0,T_grow_stream.mk B ((P+n:Nat):Int) out most bl):=gnum hB hl hn hP hv hb.1
theorem gnum_cut {B:List Int} (hl:B.length≤10000) {P n:Nat} (hn:n≤24) (hP:P≤8 * B.length) (h:8 * B.length<P+n) {out:List Int} {most bl:Int} :
  grow_stream_number (T_grow_stream.mk B (P:Int) out most bl) (n:Int)=some (0,3,T_grow_stream.mk B (P:Int) out most bl):=by
 unfold grow_stream_number
 exact bnd (get_cut hl P n hP hn h) (cnd_t rfl rfl)
theorem gD_at {m:List Nat} {j:Nat} (hj:j<m.length):m.getD j 0=m[j]:=by rw [List.getD_eq_getElem?_getD,List.getElem?_eq_getElem hj,Option.getD_some]
theorem sym_bits {m:List Nat} {j P:Nat} {B:List Int} (hj:j<m.length) (hs:Sp [syP m j] P B):∀ i,i<m[j]→bitC B (P+i)=(code m j).testBit (m[j]-1-i):=fun i hi=>by
 have hb:=hs.1
 simp only [syP] at hb
 rw [gD_at hj] at hb
 rw [hb i hi,rv_bit _ _ _ hi]
theorem gsym {m:List Nat} (h:Cd m) {B:List Int} (hB:isB B) (hbl:B.length≤10000) {j:Nat} (h0:m.getD j 0≠0) {P:Nat} (hP:P+m.getD j 0≤8 * B.length) (hs:Sp [syP m j] P B) {out:List Int} {most bl:Int} :
  grow_stream_symbol (T_grow_stream.mk B (P:Int) out most bl) (ints m)=some ((j:Int),0,T_grow_stream.mk B ((P+m.getD j 0:Nat):Int) out most bl):=by
 have hj:=lt_gD h0
 have e:=gD_at hj
 have hbb:=sym_bits hj hs
 rw [e] at h0 hP ⊢
 unfold grow_stream_symbol
 exact bnd (read_code h.len h.le h.fm hB hbl hj h0 P hP hbb) (cnd_f rfl rfl)
theorem glit_ok {B out:List Int} {P bl:Int} {A most:Nat} (hA:A<256) (h:out.length+1≤most) (hm:most≤5000):grow_stream_literal (T_grow_stream.mk B P out (most:Int) bl) (A:Int)=some (0,T_grow_stream.mk B P (out++[(A:Int)]) (most:Int) bl):=by
 unfold grow_stream_literal
 have hw:IntKind.u8.wrap (A:Int)=(A:Int):=by
  simp only [IntKind.wrap,IntKind.bits,IntKind.signed]
  have e:(2:Int) ^ 8=256:=by decide
  simp only [e,Bool.false_and,Bool.false_eq_true,if_false]
  omega
 have hap:appO 1 out [(A:Int)]=some (out++[(A:Int)]):=by
  unfold appO
  rw [if_pos (by simp only [List.length_cons,List.length_nil]; omega)]
 exact bnd (congrArg some (wrapS (n:=out.length) (by omega))) (cnd_f (decide_eq_false (by show ¬ (most:Int)<((out.length+1:Nat):Int); omega)) (bnd (congrArg some hw) (bnd hap rfl)))
theorem glit_no {B out:List Int} {P bl:Int} {A most:Nat} (h:most<out.length+1) (hm:out.length≤5000):grow_stream_literal (T_grow_stream.mk B P out (most:Int) bl) (A:Int)=some (2,T_grow_stream.mk B P out (most:Int) bl):=by
 unfold grow_stream_literal
 exact bnd (congrArg some (wrapS (n:=out.length) (by omega))) (cnd_t (decide_eq_true (by show (most:Int)<((out.length+1:Nat):Int); omega)) rfl)
theorem gp_loop {d:Nat} (hd:1≤d):∀ (k i fuel N:Nat) (b:List Int),i+k=N→k<fuel→d≤b.length→b.length+k≤100000∧N≤100000→loopF (gpS (d:Int) (N:Int)) fuel (b,(i:Int))=some (.inl (cpy d b k))
 | 0,i,fuel,N,b,hk,hf,hb,hl=>by
  obtain ⟨fu,rfl⟩:∃ fu,fuel=fu+1:=⟨fuel-1,by omega⟩
  exact loop_exit (cnd_f (decide_eq_false (by omega)) rfl)
 | k+1,i,fuel,N,b,hk,hf,hb,hl=>by
  obtain ⟨fu,rfl⟩:∃ fu,fuel=fu+1:=⟨fuel-1,by omega⟩
  have hlt:b.length-d<b.length:=by omega
  have hap:appO 1 b [b.getD (b.length-d) 0]=some (b++[b.getD (b.length-d) 0]):=by
   unfold appO
   rw [if_pos (by simp only [List.length_cons,List.length_nil]; omega)]
  have hg:getO b (b.length-d)=some (b.getD (b.length-d) 0):=by
   rw [getO_of hlt,List.getD_eq_getElem?_getD,List.getElem?_eq_getElem hlt,Option.getD_some]
  rw [cpy]
  exact (loop_next (cnd_t (decide_eq_true (by omega)) (bnd (congrArg some (wrS' hb (by omega))) (bnd (ixO_of hlt) (bnd hg (bnd hap (bnd (congrArg some (wrap_succ (n:=i) (by omega))) rfl))))))).trans
   (gp_loop hd k (i+1) fu N _ (by omega) (by omega) (by rw [List.length_append]; omega) ⟨by rw [List.length_append,List.length_cons,List.length_nil]; omega,hl.2⟩)
theorem grep_ok {B out:List Int} {P bl:Int} {L D most:Nat} (hD:1≤D) (hDo:D≤out.length) (h:out.length+L≤most) (hm:most≤5000):grow_stream_repeat (T_grow_stream.mk B P out (most:Int) bl) (L:Int) (D:Int)=some (0,T_grow_stream.mk B P (cpy D out L) (most:Int) bl):=by
 unfold grow_stream_repeat
 exact cnd_f (decide_eq_false (by show ¬ (out.length:Int)<(D:Int); omega)) (bnd (congrArg some (wrA' out.length L (by omega))) (cnd_f (decide_eq_false (by show ¬ (most:Int)<((out.length+L:Nat):Int); omega)) (bndL (gp_loop hD L 0 BIG L out (by omega) (by simp only [BIG]; omega) hDo ⟨by omega,by omega⟩) rfl)))
theorem grep_no {B out:List Int} {P bl:Int} {L D most:Nat} (hDo:D≤out.length) (h:most<out.length+L) (hm:out.length+L≤100000):grow_stream_repeat (T_grow_stream.mk B P out (most:Int) bl) (L:Int) (D:Int)=some (2,T_grow_stream.mk B P out (most:Int) bl):=by
 unfold grow_stream_repeat
 exact cnd_f (decide_eq_false (by show ¬ (out.length:Int)<(D:Int); omega)) (bnd (congrArg some (wrA' out.length L (by omega))) (cnd_t (decide_eq_true (by show (most:Int)<((out.length+L:Nat):Int); omega)) rfl))
def glnR (n:Nat):Bool:=decide (sym_LenOf ((lnN n).1:Int)=some (((n-(lnN n).2.2:Nat):Int),((lnN n).2.1:Int),0)∧(lnN n).2.2≤n)
def gdsR (n:Nat):Bool:=decide (sym_DistOf ((dsN n).1:Int)=some (((n-(dsN n).2.2:Nat):Int),((dsN n).2.1:Int),0)∧(dsN n).2.2≤n)
theorem glnr_all:(List.range 256).all (fun i=>glnR (3+i))=true:=by kernel_rfl
theorem gdsr_all:(List.range 2048).all (fun i=>gdsR (1+i))=true:=by kernel_rfl
theorem glnr {n:Nat} (h:3≤n) (h2:n≤258):sym_LenOf ((lnN n).1:Int)=some (((n-(lnN n).2.2:Nat):Int),((lnN n).2.1:Int),0)∧(lnN n).2.2≤n:=by
 have:=List.all_eq_true.1 glnr_all (n-3) (List.mem_range.2 (by omega))
 rw [show 3+(n-3)=n by omega] at this
 exact of_decide_eq_true this
theorem gdsr {n:Nat} (h:1≤n) (h2:n≤2048):sym_DistOf ((dsN n).1:Int)=some (((n-(dsN n).2.2:Nat):Int),((dsN n).2.1:Int),0)∧(dsN n).2.2≤n:=by
 have:=List.all_eq_true.1 gdsr_all (n-1) (List.mem_range.2 (by omega))
 rw [show 1+(n-1)=n by omega] at this
 exact of_decide_eq_true this
def gfin (t:T_Tok) (s:T_grow_stream):Option (Int×T_grow_stream):=if t.Len=0 then grow_stream_literal s t.Byte else grow_stream_repeat s t.Len t.Dist
theorem gtx {m d:List Nat} (hm:Cd m) (hd:Cd d) {B:List Int} (hB:isB B) (hbl:B.length≤10000) {t:T_Tok} (ht:okTk t) (hu:usedC m d t) {out:List Int} {P:Nat} {most bl:Int} (hP:P+wid (tkP m d t)≤8 * B.length) (hs:Sp (tkP m d t) P B) {e:Int} {s:T_grow_stream} (hf:gfin t (T_grow_stream.mk B ((P+wid (tkP m d t):Nat):Int) out most bl)=some (e,s)) :
  gtS (ints m) (ints d) (B,(P:Int),out,most,bl)=cond (e != 0) (some (.inr (.inr (e,T_grow_stream.mk s.b s.at_ s.out s.most s.blocks)))) (some (.inl (s.b,s.at_,s.out,s.most,s.blocks))):=by
 unfold tkP usedC gfin at *
 unfold gtS
 by_cases h0:t.Len=0
 ·simp only [if_pos h0] at hP hs hu hf
  have hb:=ht.1
  obtain ⟨x,hx⟩:∃ x:Nat,t.Byte=(x:Int):=⟨t.Byte.toNat,by omega⟩
  rw [hx,Int.toNat_natCast] at hP hs hu hf
  rw [wid_cons,show wid ([]:List (Nat×Nat))=0 from rfl] at hP hf
  simp only [syP] at hP hf
  rw [Nat.add_zero] at hf
  have h1:=gsym (out:=out) (most:=most) (bl:=bl) hm hB hbl (j:=x) hu (P:=P) (by omega) hs
  have n256:((x:Int)==256)=false:=beq_eq_false_iff_ne.2 (by omega)
  exact bnd h1 (cnd_f rfl (bndL (cnd_f n256 (cnd_t (decide_eq_true (by show (x:Int)<256; omega)) (bnd hf rfl))) rfl))
 ·simp only [if_neg h0] at hP hs hu hf
  rcases ht.2 with h1 | ⟨h1,h2,h3,h4⟩
  ·exact absurd h1 h0
  obtain ⟨L,hL⟩:∃ L:Nat,t.Len=(L:Int):=⟨t.Len.toNat,by omega⟩
  obtain ⟨D,hD⟩:∃ D:Nat,t.Dist=(D:Int):=⟨t.Dist.toNat,by omega⟩
  have hLn:t.Len.toNat=L:=by omega
  have hDn:t.Dist.toNat=D:=by omega
  rw [hLn,hDn] at hP hs hu hf
  rw [hL,hD] at hf
  obtain ⟨l1,l2,l3,l4,l5⟩:=ln_ok (n:=L) (by omega) (by omega)
  obtain ⟨d1,d2,d3,d4⟩:=ds_ok (n:=D) (by omega) (by omega)
  obtain ⟨e1,e2⟩:=glnr (n:=L) (by omega) (by omega)
  obtain ⟨f1,f2⟩:=gdsr (n:=D) (by omega) (by omega)
  simp only [wid_cons,show wid ([]:List (Nat×Nat))=0 from rfl] at hP hf
  obtain ⟨s1,s2,s3,s4,_⟩:=hs
  simp only [syP] at hP hf s1 s2 s3 s4
  generalize hS:(lnN L).1=S at *
  generalize hE:(lnN L).2.1=E at *
  generalize hV:(lnN L).2.2=V at *
  generalize hS':(dsN D).1=S' at *
  generalize hE':(dsN D).2.1=E' at *
  generalize hV':(dsN D).2.2=V' at *
  have g1:=gsym (out:=out) (most:=most) (bl:=bl) hm hB hbl (j:=S) hu.1 (P:=P) (by omega) ⟨s1,trivial⟩
  have g2:=gnum_sp (out:=out) (most:=most) (bl:=bl) hB hbl (P:=P+m.getD S 0) (n:=E) (v:=V) (by omega) (by omega) l5 ⟨s2,trivial⟩
  have g3:=gsym (out:=out) (most:=most) (bl:=bl) hd hB hbl (j:=S') hu.2 (P:=P+m.getD S 0+E) (by omega) ⟨s3,trivial⟩
  have g4:=gnum_sp (out:=out) (most:=most) (bl:=bl) hB hbl (P:=P+m.getD S 0+E+d.getD S' 0) (n:=E') (v:=V') (by omega) (by omega) d4 ⟨s4,trivial⟩
  have w1:IntKind.i64.wrap (((L-V:Nat):Int)+(V:Int))=((L:Nat):Int):=by rw [wrap_i64 (by omega) (by omega)]; omega
  have w2:IntKind.i64.wrap (((D-V':Nat):Int)+(V':Int))=((D:Nat):Int):=by rw [wrap_i64 (by omega) (by omega)]; omega
  rw [show P+(m.getD S 0+(E+(d.getD S' 0+(E'+0))))=P+m.getD S 0+E+d.getD S' 0+E' by omega] at hf
  have n256:((S:Int)==256)=false:=beq_eq_false_iff_ne.2 (by omega)
  have hmt:grow_stream_match (T_grow_stream.mk B ((P+m.getD S 0:Nat):Int) out most bl) (S:Int) (ints d)=some (e,s):=by
   unfold grow_stream_match
   exact cnd_f (decide_eq_false (by show ¬ (285:Int)<(S:Int); omega)) (bnd e1 (bnd g2 (cnd_f rfl (bnd (congrArg some w1) (bnd g3 (cnd_f rfl (bnd f1 (cnd_f rfl (bnd g4 (cnd_f rfl (bnd (congrArg some w2) (bnd hf rfl))))))))))))
  exact bnd g1 (cnd_f rfl (bndL (cnd_f n256 (cnd_f (decide_eq_false (by show ¬ (S:Int)<256; omega)) (bnd hmt rfl))) rfl))
theorem gfin_ok {t:T_Tok} (ht:okTk t) {out:List Int} (ho:okT t (out.length:Int)=true) {B:List Int} {P bl:Int} {most:Nat} (h:out.length+tl t≤most) (hm:most≤5000):gfin t (T_grow_stream.mk B P out (most:Int) bl)=some (0,T_grow_stream.mk B P (exT out t) (most:Int) bl):=by
 unfold gfin exT tl at *
 by_cases h0:t.Len=0
 ·simp only [if_pos h0] at h ⊢
  have hb:=ht.1
  obtain ⟨x,hx⟩:∃ x:Nat,t.Byte=(x:Int):=⟨t.Byte.toNat,by omega⟩
  rw [hx]
  exact glit_ok (by omega) h hm
 ·simp only [if_neg h0] at h ⊢
  rcases ht.2 with h1 | ⟨h1,h2,h3,h4⟩
  ·exact absurd h1 h0
  obtain ⟨L,hL⟩:∃ L:Nat,t.Len=(L:Int):=⟨t.Len.toNat,by omega⟩
  obtain ⟨D,hD⟩:∃ D:Nat,t.Dist=(D:Int):=⟨t.Dist.toNat,by omega⟩
  have hDo:D≤out.length:=by
   unfold okT at ho
   have:=of_decide_eq_true ho
   omega
  rw [hL] at h ⊢
  rw [hD]
  simp only [Int.toNat_natCast] at h ⊢
  exact grep_ok (by omega) hDo h hm
theorem gfin_no {t:T_Tok} (ht:okTk t) {out:List Int} (ho:okT t (out.length:Int)=true) {B:List Int} {P bl:Int} {most:Nat} (h:most<out.length+tl t) (hm:out.length≤5000):gfin t (T_grow_stream.mk B P out (most:Int) bl)=some (2,T_grow_stream.mk B P out (most:Int) bl):=by
 unfold gfin tl at *
 by_cases h0:t.Len=0
 ·simp only [if_pos h0] at h ⊢
  have hb:=ht.1
  obtain ⟨x,hx⟩:∃ x:Nat,t.Byte=(x:Int):=⟨t.Byte.toNat,by omega⟩
  rw [hx]
  exact glit_no h hm
 ·simp only [if_neg h0] at h ⊢
  rcases ht.2 with h1 | ⟨h1,h2,h3,h4⟩
  ·exact absurd h1 h0
  obtain ⟨L,hL⟩:∃ L:Nat,t.Len=(L:Int):=⟨t.Len.toNat,by omega⟩
  obtain ⟨D,hD⟩:∃ D:Nat,t.Dist=(D:Int):=⟨t.Dist.toNat,by omega⟩
  have hDo:D≤out.length:=by
   unfold okT at ho
   have:=of_decide_eq_true ho
   omega
  rw [hL] at h ⊢
  rw [hD]
  simp only [Int.toNat_natCast] at h ⊢
  exact grep_no hDo h (by omega)
theorem gtx_end {m d:List Nat} (hm:Cd m) {B:List Int} (hB:isB B) (hbl:B.length≤10000) (h0:m.getD 256 0≠0) {out:List Int} {P:Nat} {most bl:Int} (hP:P+m.getD 256 0≤8 * B.length) (hs:Sp [syP m 256] P B) :
  gtS (ints m) (ints d) (B,(P:Int),out,most,bl)=some (.inr (.inr (0,T_grow_stream.mk B ((P+m.getD 256 0:Nat):Int) out most bl))):=by
 unfold gtS
 exact bnd (gsym hm hB hbl h0 hP hs) (cnd_f rfl (bndR (cnd_t rfl rfl) rfl))
theorem gtok_ok {m d:List Nat} (hm:Cd m) (hd:Cd d) {B:List Int} (hB:isB B) (hbl:B.length≤10000) (he:m.getD 256 0≠0) {most N:Nat} {bl:Int} (hm2:most≤5000) (hN:N≤most):∀ (l:List T_Tok) (out:List Int) (P fuel:Nat),(∀ t∈l,okTk t∧usedC m d t)→chkF l out.length=some N→P+wid (tksP m d l++[syP m 256])≤8 * B.length→Sp (tksP m d l++[syP m 256]) P B→l.length<fuel →
  loopF (gtS (ints m) (ints d)) fuel (B,(P:Int),out,(most:Int),bl)=some (.inr (0,T_grow_stream.mk B ((P+wid (tksP m d l++[syP m 256]):Nat):Int) (exF l out) (most:Int) bl))
 | [],out,P,fuel,ho,hc,hP,hs,hf=>by
  obtain ⟨fu,rfl⟩:∃ fu,fuel=fu+1:=⟨fuel-1,by omega⟩
  have e:wid (tksP m d []++[syP m 256])=m.getD 256 0:=by simp [tksP,wid,syP]
  rw [e] at hP ⊢
  exact loop_exit (gtx_end hm hB hbl he hP hs)
 | t::l,out,P,fuel,ho,hc,hP,hs,hf=>by
  obtain ⟨fu,rfl⟩:∃ fu,fuel=fu+1:=⟨fuel-1,by omega⟩
  have e:tksP m d (t::l)++[syP m 256]=tkP m d t++(tksP m d l++[syP m 256]):=by simp [tksP]
  rw [e] at hP hs ⊢
  rw [wid_app] at hP ⊢
  obtain ⟨hs1,hs2⟩:=(Sp_app _ _ _ _).1 hs
  unfold chkF at hc
  split at hc
  ·rename_i hk
   have hge:=chkF_ge l _ N hc
   have hx:=exT_len (b:=out) hk
   have h1:=gtx hm hd hB hbl (ho t List.mem_cons_self).1 (ho t List.mem_cons_self).2 (P:=P) (by omega) hs1 (gfin_ok (ho t List.mem_cons_self).1 hk (bl:=bl) (most:=most) (by omega) hm2)
   have ih:=gtok_ok (bl:=bl) hm hd hB hbl he hm2 hN l (exT out t) (P+wid (tkP m d t)) fu (fun x hx=>ho x (List.mem_cons_of_mem _ hx)) (by rw [hx]; exact hc) (by omega) hs2 (by simp only [List.length_cons] at hf; omega)
   rw [Nat.add_assoc] at ih
   exact (loop_next h1).trans ih
  ·cases hc
theorem gtok_no {m d:List Nat} (hm:Cd m) (hd:Cd d) {B:List Int} (hB:isB B) (hbl:B.length≤10000) {most N:Nat} {bl:Int} (hm2:most≤5000) (hN:most<N):∀ (l:List T_Tok) (out:List Int) (P fuel:Nat),(∀ t∈l,okTk t∧usedC m d t)→chkF l out.length=some N→out.length≤most→P+wid (tksP m d l)≤8 * B.length→Sp (tksP m d l) P B→l.length<fuel →
  ∃ s,loopF (gtS (ints m) (ints d)) fuel (B,(P:Int),out,(most:Int),bl)=some (.inr (2,s))
 | [],out,P,fuel,ho,hc,hom,hP,hs,hf=>by
  cases hc
  omega
 | t::l,out,P,fuel,ho,hc,hom,hP,hs,hf=>by
  obtain ⟨fu,rfl⟩:∃ fu,fuel=fu+1:=⟨fuel-1,by omega⟩
  have e:tksP m d (t::l)=tkP m d t++tksP m d l:=by simp [tksP]
  rw [e] at hP hs
  rw [wid_app] at hP
  obtain ⟨hs1,hs2⟩:=(Sp_app _ _ _ _).1 hs
  unfold chkF at hc
  split at hc
  ·rename_i hk
   have hx:=exT_len (b:=out) hk
   by_cases hr:out.length+tl t≤most
   ·have h1:=gtx hm hd hB hbl (ho t List.mem_cons_self).1 (ho t List.mem_cons_self).2 (P:=P) (by omega) hs1 (gfin_ok (ho t List.mem_cons_self).1 hk (bl:=bl) (most:=most) (by omega) hm2)
    obtain ⟨s,ih⟩:=gtok_no (bl:=bl) hm hd hB hbl hm2 hN l (exT out t) (P+wid (tkP m d t)) fu (fun x hx=>ho x (List.mem_cons_of_mem _ hx)) (by rw [hx]; exact hc) (by omega) (by omega) hs2 (by simp only [List.length_cons] at hf; omega)
    exact ⟨s,(loop_next h1).trans ih⟩
   ·have h1:=gtx hm hd hB hbl (ho t List.mem_cons_self).1 (ho t List.mem_cons_self).2 (P:=P) (by omega) hs1 (gfin_no (ho t List.mem_cons_self).1 hk (bl:=bl) (most:=most) (by omega) (by omega))
    exact ⟨_,loop_exit h1⟩
  ·cases hc
theorem gtext_ok {m d:List Nat} (hm:Cd m) (hd:Cd d) {B:List Int} (hB:isB B) (hbl:B.length≤10000) (he:m.getD 256 0≠0) {most N:Nat} {bl:Int} (hm2:most≤5000) (hN:N≤most) {l:List T_Tok} {out:List Int} {P:Nat} (hl:l.length≤5000) (ho:∀ t∈l,okTk t∧usedC m d t) (hc:chkF l out.length=some N) (hP:P+wid (tksP m d l++[syP m 256])≤8 * B.length) (hs:Sp (tksP m d l++[syP m 256]) P B) :
  grow_stream_tokens (T_grow_stream.mk B (P:Int) out (most:Int) bl) (ints m) (ints d)=some (0,T_grow_stream.mk B ((P+wid (tksP m d l++[syP m 256]):Nat):Int) (exF l out) (most:Int) bl):=by
 unfold grow_stream_tokens
 exact bndR (gtok_ok hm hd hB hbl he hm2 hN l out P BIG ho hc hP hs (by simp only [BIG]; omega)) rfl
theorem gtext_no {m d:List Nat} (hm:Cd m) (hd:Cd d) {B:List Int} (hB:isB B) (hbl:B.length≤10000) {most N:Nat} {bl:Int} (hm2:most≤5000) (hN:most<N) {l:List T_Tok} {out:List Int} {P:Nat} (hl:l.length≤5000) (ho:∀ t∈l,okTk t∧usedC m d t) (hc:chkF l out.length=some N) (hom:out.length≤most) (hP:P+wid (tksP m d l++[syP m 256])≤8 * B.length) (hs:Sp (tksP m d l++[syP m 256]) P B) :
  ∃ s,grow_stream_tokens (T_grow_stream.mk B (P:Int) out (most:Int) bl) (ints m) (ints d)=some (2,s):=by
 rw [wid_app] at hP
 obtain ⟨s,h⟩:=gtok_no hm hd hB hbl hm2 hN l out P BIG ho hc hom (bl:=bl) (by omega) ((Sp_app _ _ _ _).1 hs).1 (by simp only [BIG]; omega)
 refine ⟨s,?_⟩
 unfold grow_stream_tokens
 exact bndR h rfl
def gdS:(((List Int)×Int×(List Int)×Int×Int×Bool))→Option (((List Int)×Int×(List Int)×Int×Int×Bool)⊕(((List Int)×Int×(List Int)×Int×Int)⊕((Option T_grow_stream)×Int))):=(fun ((s18,s19,s20,s21,s22,s23):(List Int)×Int×(List Int)×Int×Int×Bool) =>
     cond ((!s23))
      ((grow_stream_block (T_grow_stream.mk s18 s19 s20 s21 s22)).bind fun v7 =>
      cond ((v7.2.1 != 0))
       (some (.inr (.inr ((none,v7.2.1)))))
       ((some (IntKind.i64.wrap (v7.2.2.blocks+1))).bind fun v9 =>
       some (.inl (v7.2.2.b,v7.2.2.at_,v7.2.2.out,v7.2.2.most,v9,v7.1))))
      (some (.inr (.inl (s18,s19,s20,s21,s22)))))
theorem u64_nn (n:Int):0≤IntKind.u64.wrap n:=by
 simp only [IntKind.wrap,IntKind.bits,IntKind.signed]
 have e:(2:Int) ^ 64=18446744073709551616:=by decide
 simp only [e,Bool.false_and,Bool.false_eq_true,if_false]
 omega
theorem mod07 (x:Int) (n:Nat) (h:0<n) (hn:n<1000000000):∃ (A r:Nat),IntKind.u64.wrap x=(A:Int)∧remO (A:Int) (n:Int)=some (r:Int)∧r<n∧IntKind.i64.wrap (r:Int)=(r:Int):=by
 obtain ⟨A,hA⟩:∃ A:Nat,IntKind.u64.wrap x=(A:Int):=⟨(IntKind.u64.wrap x).toNat,by have:=u64_nn x; omega⟩
 have hlt:=Nat.mod_lt A h
 exact ⟨A,A % n,hA,rem_nat A n h,hlt,wrapN _ (by omega)⟩
theorem obn1 {E R:Type} {f:E→Option R} {n r:Option R} (h:n=r):obS none f n=r:=h
theorem wakes7:wherrylaw07_wakes=some true:=by kernel_rfl
theorem ghead {B:List Int} (hB:isB B) (hbl:B.length≤10000) {f k P:Nat} (hf:f<2) (hk:k<4) (hP:P+3≤8 * B.length) (hs:Sp [(f,1),(k,2)] P B) {out:List Int} {most bl:Int} :
  grow_stream_number (T_grow_stream.mk B (P:Int) out most bl) 1=some ((f:Int),0,T_grow_stream.mk B ((P+1:Nat):Int) out most bl)∧grow_stream_number (T_grow_stream.mk B ((P+1:Nat):Int) out most bl) 2=some ((k:Int),0,T_grow_stream.mk B ((P+3:Nat):Int) out most bl):=by
 obtain ⟨s1,s2,_⟩:=hs
 exact ⟨gnum (n:=1) hB hbl (by omega) (by omega) (by omega) s1,gnum (P:=P+1) (n:=2) (v:=k) hB hbl (by omega) (by omega) (by omega) s2⟩
theorem gblk1 {B:List Int} (hB:isB B) (hbl:B.length≤10000) {f P:Nat} (hf:f<2) (hP:P+3≤8 * B.length) (hs:Sp [(f,1),(1,2)] P B) {out:List Int} {most bl e:Int} {s:T_grow_stream} (h:grow_stream_tokens (T_grow_stream.mk B ((P+3:Nat):Int) out most bl) (ints mL) (ints mD)=some (e,s)) :
  grow_stream_block (T_grow_stream.mk B (P:Int) out most bl)=some (((f:Int)==1),e,T_grow_stream.mk s.b s.at_ s.out s.most s.blocks):=by
 obtain ⟨g1,g2⟩:=ghead (out:=out) (most:=most) (bl:=bl) hB hbl hf (k:=1) (by omega) hP hs
 unfold grow_stream_block
 exact bnd g1 (cnd_f rfl (bnd g2 (cnd_f rfl (bndL (bndL (cnd_f rfl (cnd_t rfl (bnd fixed_ints (bnd h rfl)))) rfl) rfl))))
theorem gfixed {b:List Int} (hb:∀ n∈b,0≤n∧n<256) (hl:b.length≤4096) {B:List Int} (hB:isB B) (hbl:B.length≤10000) {P most:Nat} {bl:Int} (hm2:most≤5000) {out:List Int} (hc:chkF (toksS b) out.length=some (out.length+b.length)) (hx:exF (toksS b) out=out++b) (ho:out.length≤most) (hs:Sp (fxP (toksS b)) P B) (hP:P+wid (fxP (toksS b))≤8 * B.length) :
  (out.length+b.length≤most→grow_stream_block (T_grow_stream.mk B (P:Int) out (most:Int) bl)=some (true,0,T_grow_stream.mk B ((P+wid (fxP (toksS b)):Nat):Int) (out++b) (most:Int) bl)) ∧
  (most<out.length+b.length→∃ s,grow_stream_block (T_grow_stream.mk B (P:Int) out (most:Int) bl)=some (true,2,s)):=by
 unfold fxP at hs hP ⊢
 obtain ⟨h1,h2⟩:=(Sp_app _ _ _ _).1 hs
 have hwid:wid [(1,1),(1,2)]=3:=rfl
 rw [wid_app,hwid] at hP ⊢
 rw [hwid] at h2
 have hok:∀ t∈toksS b,okTk t∧usedC mL mD t:=fun t ht=>⟨toksS_ok hb t ht,fix_usedC (toksS_ok hb t ht)⟩
 refine ⟨fun hr => ?_,fun hr => ?_⟩
 ·have ht:=gtext_ok cd_mL cd_mD hB hbl (by decide) (bl:=bl) hm2 hr (l:=toksS b) (P:=P+3) (tl_5000 hl) hok hc (by omega) h2
  rw [hx] at ht
  rw [← Nat.add_assoc]
  exact gblk1 hB hbl (f:=1) (by omega) (by omega) h1 ht
 ·obtain ⟨s,ht⟩:=gtext_no cd_mL cd_mD hB hbl (bl:=bl) hm2 hr (l:=toksS b) (P:=P+3) (tl_5000 hl) hok hc ho (by omega) h2
  exact ⟨_,gblk1 hB hbl (f:=1) (by omega) (by omega) h1 ht⟩
theorem gend_no {B:List Int} (hbl:B.length≤10000) {P:Nat} (h2:P+8≤8 * B.length) {out:List Int} {most bl:Int} :
  grow_stream_end (T_grow_stream.mk B (P:Int) out most bl)=some (3,T_grow_stream.mk B (P:Int) out most bl):=by
 have w8:IntKind.i64.wrap (8 * ((B.length:Nat):Int))=((8 * B.length:Nat):Int):=by rw [wrap_i64 (by omega) (by omega)]; omega
 have wB:IntKind.i64.wrap (((8 * B.length:Nat):Int)-(P:Int))=((8 * B.length-P:Nat):Int):=wrS' (by omega) (by omega)
 unfold grow_stream_end
 exact bnd (congrArg some w8) (bnd (congrArg some wB) (cnd_t (decide_eq_true (by omega)) rfl))
theorem gd_last {B out o2:List Int} {P P2 most:Int} {k:Nat} (hk:k≤10000) (h:grow_stream_block (T_grow_stream.mk B P out most (k:Int))=some (true,0,T_grow_stream.mk B P2 o2 most (k:Int))) (fuel:Nat) :
  loopF gdS (fuel+2) (B,P,out,most,(k:Int),false)=some (.inl (B,P2,o2,most,((k+1:Nat):Int))) :=
 (loop_next (s':=(B,P2,o2,most,((k+1:Nat):Int),true)) (by unfold gdS; exact cnd_t rfl (bnd h (cnd_f rfl (bnd (congrArg some (wrap_succ (n:=k) (by omega))) rfl))))).trans (loop_exit (by unfold gdS; exact cnd_f rfl rfl))
theorem gread_fin {B out:List Int} {P:Int} {most k e:Int} {s:T_grow_stream} (hm:0≤most) (hm2:most≤4096) (hbl:B.length≤5000) (h:loopF gdS BIG (B,0,[],most,0,false)=some (.inl (B,P,out,most,k))) (he:grow_stream_end (T_grow_stream.mk B P out most k)=some (e,s)):grow_read_sh B most=some (some s,e):=by
 unfold grow_read_sh
 exact bndL (s:=false) (cnd_f (decide_eq_false (by omega)) (by rw [decide_eq_false (show ¬ (4096:Int)<most by omega)])) (cnd_f rfl (cnd_f (decide_eq_false (by omega)) (bndL h (bnd he rfl))))
theorem gread_bad {B:List Int} {most e:Int} (hm:0≤most) (hm2:most≤4096) (hbl:B.length≤5000) (h:loopF gdS BIG (B,0,[],most,0,false)=some (.inr (none,e))):grow_read_sh B most=some (none,e):=by
 unfold grow_read_sh
 exact bndL (s:=false) (cnd_f (decide_eq_false (by omega)) (by rw [decide_eq_false (show ¬ (4096:Int)<most by omega)])) (cnd_f rfl (cnd_f (decide_eq_false (by omega)) (bndR h rfl)))
theorem gd_bad {B out:List Int} {P most bl e:Int} {l:Bool} {s:T_grow_stream} (he:(e != 0)=true) (h:grow_stream_block (T_grow_stream.mk B P out most bl)=some (l,e,s)) (fuel:Nat):loopF gdS (fuel+1) (B,P,out,most,bl,false)=some (.inr (none,e)) :=
 loop_exit (by unfold gdS; exact cnd_t rfl (bnd h (cnd_t he rfl)))
theorem ggrow_none {B:List Int} {most e:Int} (he:(e != 0)=true) (h:grow_read_sh B most=some (none,e)):grow_Grow B most=some ([],e):=by
 unfold grow_Grow
 exact bnd h (obn1 (cnd_t he rfl))
theorem ggrow_bad {B:List Int} {most e:Int} {s:T_grow_stream} (he:(e != 0)=true) (h:grow_read_sh B most=some (some s,e)):grow_Grow B most=some ([],e):=by
 unfold grow_Grow
 exact bnd h (obs1 (cnd_t he rfl))
theorem bitC_left (A C:List Int) {q:Nat} (h:q<8 * A.length):bitC (A++C) q=bitC A q:=by
 unfold bitC
 rw [List.getD_eq_getElem?_getD,List.getD_eq_getElem?_getD,List.getElem?_append_left (by omega)]
theorem Sp_left (A C:List Int) {ps:List (Nat×Nat)} {N:Nat} (hN:N+wid ps≤8 * A.length) (h:Sp ps N A):Sp ps N (A++C):=Sp_keep ps N A (A++C) (fun q hq=>bitC_left A C (by omega)) h
/-! What is cut short. -/
theorem wrap_u64n {n:Int} (h0:0≤n) (h1:n<18446744073709551616):IntKind.u64.wrap n=n:=by
 simp only [IntKind.wrap,IntKind.bits,IntKind.signed]
 have e:(2:Int) ^ 64=18446744073709551616:=by decide
 simp only [e,Bool.false_and,Bool.false_eq_true,if_false]
 omega
theorem read_cut {m:List Nat} (hl:m.length≤300) (hm:∀ x∈m,x≤15) (hf:forms m=true) {B:List Int} (hB:isB B) (hbl:B.length≤10000) {j:Nat} (hj:j<m.length) (h0:m[j]≠0) (P:Nat) (hP0:P≤8 * B.length) (hP:8 * B.length<P+m[j])
  (hbits:∀ i,i<m[j]→P+i<8 * B.length→bitC B (P+i)=(code m j).testBit (m[j]-1-i)):canon_Read (ints m) B (P:Int)=some (0,0,3):=by
 have hwl:=forms_ws hf
 have hck:=check_ints m (by omega)
 rw [if_pos ⟨hl,hm⟩,if_pos hf] at hck
 have l16:lnO 16 (ints (fl m 16))=some (ints (fl m 16)):=by simp [lnO,ints_len,fl_len]
 have l16t:lnO 16 (ints (tal m))=some (ints (tal m)):=by simp [lnO,ints_len,tal_len]
 have l0:lnO 16 (List.replicate 16 (0:Int))=some (List.replicate 16 (0:Int)):=by decide
 have w8:IntKind.i64.wrap (8 * (B.length:Int))=((8 * B.length:Nat):Int):=by rw [wrap_i64 (by omega) (by omega)]; simp
 have xj:=hm _ (List.getElem_mem hj)
 have hcl:=code_lt hwl hm hj h0
 have hend:∀ (f n:Nat) (c:Int),n≤15→8 * B.length≤P+n-1→loopF (readS (ints m) B (ints (tal m)) (ints (fl m 16))) (f+1) (((P+n-1:Nat):Int),c,(n:Int))=some (.inl ()):=fun f n c hn hq=>by
  refine loop_exit ?_
  unfold readS
  have d15:decide ((n:Int)≤15)=true:=decide_eq_true (by omega)
  have hgo:decide ((((P+n-1:Nat):Int))<((8 * B.length:Nat):Int))=false:=decide_eq_false (by omega)
  exact bndL (s:=false) (cnd_t d15 (bnd (x:=((8 * B.length:Nat):Int)) (by rw [w8]) (by rw [hgo]))) (cnd_f rfl rfl)
 have key:∀ (k fuel n:Nat),m[j]-n=k→1≤n→n≤m[j]→k<fuel →
   loopF (readS (ints m) B (ints (tal m)) (ints (fl m 16))) fuel (((P+n-1:Nat):Int),((code m j / 2 ^ (m[j]-(n-1)):Nat):Int),(n:Int))=some (.inl ()):=by
  intro k
  induction k with
  | zero =>
   intro fuel n hk h1 hn hfu
   obtain ⟨f,rfl⟩:∃ f,fuel=f+1:=⟨fuel-1,by omega⟩
   exact hend f n _ (by omega) (by omega)
  | succ k ih =>
   intro fuel n hk h1 hn hfu
   obtain ⟨f,rfl⟩:∃ f,fuel=f+1:=⟨fuel-1,by omega⟩
   by_cases hcut:8 * B.length≤P+n-1
   ·exact hend f n _ (by omega) hcut
   have h16:n<16:=by omega
   have h15:n≤15:=by omega
   have hpq:(P+n-1) / 8<B.length:=by omega
   have hx:=hB _ (List.getElem_mem hpq)
   obtain ⟨x,hxe⟩:∃ x:Nat,B[(P+n-1) / 8]=(x:Int):=⟨B[(P+n-1) / 8].toNat,by omega⟩
   have hx256:x<256:=by omega
   have q8:=quo_nat (P+n-1) 8 (by omega) (by omega)
   have r8:=rem_nat (P+n-1) 8 (by omega)
   rw [show ((8:Nat):Int)=8 from rfl] at q8 r8
   have hr8:(P+n-1) % 8<8:=Nat.mod_lt _ (by omega)
   have hsh:=shr_nat .u8 x ((P+n-1) % 8) (by simp only [IntKind.bits]; omega)
   have hdv:x / 2 ^ ((P+n-1) % 8)<256:=Nat.lt_of_le_of_lt (Nat.div_le_self _ _) hx256
   have hand:=and1_u8 _ hdv
   have hb:=hbits (n-1) (by omega) (by omega)
   have hbx:bitC B (P+(n-1))=x.testBit ((P+n-1) % 8):=by
    rw [show P+(n-1)=P+n-1 by omega]
    simp [bitC,List.getD_eq_getElem?_getD,hpq,hxe]
   rw [hbx,Nat.testBit_eq_decide_div_mod_eq,Nat.testBit_eq_decide_div_mod_eq,show m[j]-1-(n-1)=m[j]-n by omega] at hb
   have hy:x / 2 ^ ((P+n-1) % 8) % 2=code m j / 2 ^ (m[j]-n) % 2:=by
    have a1:x / 2 ^ ((P+n-1) % 8) % 2<2:=Nat.mod_lt _ (by omega)
    have a2:code m j / 2 ^ (m[j]-n) % 2<2:=Nat.mod_lt _ (by omega)
    rcases Nat.lt_or_ge (x / 2 ^ ((P+n-1) % 8) % 2) 1 with h | h
    ·have e1:¬ x / 2 ^ ((P+n-1) % 8) % 2=1:=by omega
     rw [decide_eq_false e1] at hb
     have:=of_decide_eq_false hb.symm
     omega
    ·have e1:x / 2 ^ ((P+n-1) % 8) % 2=1:=by omega
     rw [decide_eq_true e1] at hb
     have:=of_decide_eq_true hb.symm
     omega
   have hc2:2 * (code m j / 2 ^ (m[j]-(n-1)))+code m j / 2 ^ (m[j]-n) % 2=code m j / 2 ^ (m[j]-n):=by
    rw [show m[j]-(n-1)=(m[j]-n)+1 by omega,Nat.pow_succ,← Nat.div_div_eq_div_mul]
    omega
   have hcs:code m j / 2 ^ (m[j]-(n-1))≤32768:=Nat.le_trans (Nat.div_le_self _ _) (by have:=pow_le15 xj; omega)
   have hcs2:code m j / 2 ^ (m[j]-n)≤32768:=Nat.le_trans (Nat.div_le_self _ _) (by have:=pow_le15 xj; omega)
   have hpre:=code_pre hm hj h0 h1 (by omega)
   have hr:=ih f (n+1) (by omega) (by omega) (by omega) (by omega)
   rw [show n+1-1=n by omega] at hr
   rw [hy] at hand
   have hyl:code m j / 2 ^ (m[j]-n) % 2<2:=Nat.mod_lt _ (by omega)
   generalize code m j / 2 ^ (m[j]-(n-1))=c at *
   have hor:=or_bit c (code m j / 2 ^ (m[j]-n) % 2) (by omega) hyl
   rw [hc2] at hor
   have sh1:=shl_nat c 1 (by omega) (by omega)
   rw [Nat.pow_one,Nat.mul_comm c 2,show ((1:Nat):Int)=1 from rfl] at sh1
   generalize hCd:code m j / 2 ^ (m[j]-n)=C at *
   have wy:IntKind.i64.wrap ((C % 2:Nat):Int)=((C % 2:Nat):Int):=wrap_i64 (by omega) (by omega)
   have w1:IntKind.i64.wrap (((P+n-1:Nat):Int)+1)=((P+(n+1)-1:Nat):Int):=by rw [wrap_i64 (by omega) (by omega)]; omega
   have w2:IntKind.i64.wrap ((n:Int)+1)=((n+1:Nat):Int):=by rw [wrap_i64 (by omega) (by omega)]; simp
   have hfl:n<(fl m 16).length:=by rw [fl_len]; exact h16
   have hfg:(fl m 16)[n]=fst m n:=by simp [fl,h16]
   have hg1:getO (ints (fl m 16)) n=some ((fst m n:Nat):Int):=by rw [ints_get hfl,hfg]
   have hg2:=tal_get m h16 (by omega)
   have hle:=fst_le hwl h1 h15
   have hp2:=pow_le15 h15
   have w3:IntKind.i64.wrap (((fst m n:Nat):Int)+((m.count n:Nat):Int))=((fst m n+m.count n:Nat):Int):=by rw [wrap_i64 (by omega) (by omega)]; simp
   have hgo:decide ((((P+n-1:Nat):Int))<((8 * B.length:Nat):Int))=true:=by simp; omega
   have d15:decide ((n:Int)≤15)=true:=by simp; omega
   refine (loop_next ?_).trans hr
   unfold readS
   exact bndL (s:=true) (cnd_t d15 (bnd (x:=((8 * B.length:Nat):Int)) (by rw [w8]) (by rw [hgo]))) (cnd_t rfl (bnd sh1 (bnd q8 (bnd (ixO_of hpq) (bnd (x:=(x:Int)) (by rw [getO_of hpq,hxe]) (bnd r8 (bnd hsh (bnd (x:=((C % 2:Nat):Int)) (by rw [hand])
     (bnd (x:=((C % 2:Nat):Int)) (by rw [wy]) (bnd (x:=(C:Int)) (by rw [hor]) (bnd (x:=((P+(n+1)-1:Nat):Int)) (by rw [w1]) (bnd (ixO_of h16) (bnd hg1 (bnd (ixO_of h16) (bnd hg2 (bnd (x:=((fst m n+m.count n:Nat):Int)) (by rw [w3]) (cnd_f (by simp; omega)
     (bnd (x:=((n+1:Nat):Int)) (by rw [w2]) rfl))))))))))))))))))
 have hk:=key (m[j]-1) BIG 1 rfl (by omega) (by omega) (by unfold BIG; omega)
 rw [show P+1-1=P by omega,Nat.sub_self,Nat.sub_zero,Nat.div_eq_of_lt (by omega)] at hk
 unfold canon_Read
 refine bnd hck (cnd_f rfl (bndL (s:=false) (cnd_f (by simp) (bnd (x:=((8 * B.length:Nat):Int)) (by rw [w8]) ?_)) (cnd_f rfl (bnd (count_eq m hm (by omega)) (bnd l0 (bnd l16t (bnd l16t (bnd (firsts_eq m (by omega) hwl) (bnd l0 (bnd l16 (bndL hk rfl)))))))))))
 rw [decide_eq_false (by omega)]
theorem gsym_cut {m:List Nat} (h:Cd m) {B X:List Int} (hB:isB B) (hbl:B.length≤10000) (hX:∀ q,q<8 * B.length→bitC B q=bitC X q) {j:Nat} (h0:m.getD j 0≠0) {P:Nat} (hP0:P≤8 * B.length) (hP:8 * B.length<P+m.getD j 0) (hs:Sp [syP m j] P X) {out:List Int} {most bl:Int} :
  grow_stream_symbol (T_grow_stream.mk B (P:Int) out most bl) (ints m)=some (0,3,T_grow_stream.mk B (P:Int) out most bl):=by
 have hj:=lt_gD h0
 have e:=gD_at hj
 have hbb:=sym_bits hj hs
 rw [e] at h0 hP
 unfold grow_stream_symbol
 exact bnd (read_cut h.len h.le h.fm hB hbl hj h0 P hP0 hP (fun i hi hq=>by rw [hX _ hq]; exact hbb i hi)) (cnd_t rfl rfl)
theorem Sp_tr {B X:List Int} (hX:∀ q,q<8 * B.length→bitC B q=bitC X q) {ps:List (Nat×Nat)} {N:Nat} (h:N+wid ps≤8 * B.length) (hs:Sp ps N X):Sp ps N B:=Sp_keep ps N X B (fun q hq=>hX q (by omega)) hs
theorem wid1 (p:Nat×Nat):wid [p]=p.2:=by simp [wid]
theorem gtx_cut {m d:List Nat} (hm:Cd m) (hd:Cd d) {B X:List Int} (hB:isB B) (hbl:B.length≤10000) (hX:∀ q,q<8 * B.length→bitC B q=bitC X q) {t:T_Tok} (ht:okTk t) (hu:usedC m d t) {out:List Int} {P:Nat} {most bl:Int} (hP0:P≤8 * B.length) (hP:8 * B.length<P+wid (tkP m d t)) (hs:Sp (tkP m d t) P X) :
  ∃ s,gtS (ints m) (ints d) (B,(P:Int),out,most,bl)=some (.inr (.inr (3,s))):=by
 unfold tkP usedC at *
 unfold gtS
 by_cases h0:t.Len=0
 ·simp only [if_pos h0] at hP hs hu
  rw [wid_cons,show wid ([]:List (Nat×Nat))=0 from rfl] at hP
  simp only [syP] at hP
  exact ⟨_,bnd (gsym_cut hm hB hbl hX hu hP0 (by omega) hs) (cnd_t rfl rfl)⟩
 ·simp only [if_neg h0] at hP hs hu
  rcases ht.2 with h1 | ⟨h1,h2,h3,h4⟩
  ·exact absurd h1 h0
  obtain ⟨L,hL⟩:∃ L:Nat,t.Len=(L:Int):=⟨t.Len.toNat,by omega⟩
  obtain ⟨D,hD⟩:∃ D:Nat,t.Dist=(D:Int):=⟨t.Dist.toNat,by omega⟩
  have hLn:t.Len.toNat=L:=by omega
  have hDn:t.Dist.toNat=D:=by omega
  rw [hLn,hDn] at hP hs hu
  obtain ⟨l1,l2,l3,l4,l5⟩:=ln_ok (n:=L) (by omega) (by omega)
  obtain ⟨d1,d2,d3,d4⟩:=ds_ok (n:=D) (by omega) (by omega)
  obtain ⟨e1,e2⟩:=glnr (n:=L) (by omega) (by omega)
  obtain ⟨f1,f2⟩:=gdsr (n:=D) (by omega) (by omega)
  simp only [wid_cons,show wid ([]:List (Nat×Nat))=0 from rfl] at hP
  obtain ⟨s1,s2,s3,s4,_⟩:=hs
  simp only [syP] at hP s1 s2 s3 s4
  generalize hS:(lnN L).1=S at *
  generalize hE:(lnN L).2.1=E at *
  generalize hV:(lnN L).2.2=V at *
  generalize hS':(dsN D).1=S' at *
  generalize hE':(dsN D).2.1=E' at *
  generalize hV':(dsN D).2.2=V' at *
  by_cases c1:8 * B.length<P+m.getD S 0
  ·exact ⟨_,bnd (gsym_cut (j:=S) hm hB hbl hX hu.1 hP0 c1 ⟨s1,trivial⟩) (cnd_t rfl rfl)⟩
  have g1:=gsym (out:=out) (most:=most) (bl:=bl) hm hB hbl (j:=S) hu.1 (P:=P) (by omega) (Sp_tr hX (by rw [wid1]; simp only [syP]; omega) ⟨s1,trivial⟩)
  have n256:((S:Int)==256)=false:=beq_eq_false_iff_ne.2 (by omega)
  have w1:IntKind.i64.wrap (((L-V:Nat):Int)+(V:Int))=((L:Nat):Int):=by rw [wrap_i64 (by omega) (by omega)]; omega
  suffices hmt:∃ s,grow_stream_match (T_grow_stream.mk B ((P+m.getD S 0:Nat):Int) out most bl) (S:Int) (ints d)=some (3,s) by
   obtain ⟨s,hmt⟩:=hmt
   exact ⟨_,bnd g1 (cnd_f rfl (bndL (cnd_f n256 (cnd_f (decide_eq_false (by show ¬ (S:Int)<256; omega)) (bnd hmt rfl))) (cnd_t rfl rfl)))⟩
  have h285:decide ((285:Int)<(S:Int))=false:=decide_eq_false (by omega)
  unfold grow_stream_match
  by_cases c2:8 * B.length<P+m.getD S 0+E
  ·exact ⟨_,cnd_f h285 (bnd e1 (bnd (gnum_cut hbl (by omega) (by omega) c2) (cnd_t rfl rfl)))⟩
  have g2:=gnum_sp (out:=out) (most:=most) (bl:=bl) hB hbl (P:=P+m.getD S 0) (n:=E) (v:=V) (by omega) (by omega) l5 (Sp_tr hX (by rw [wid1]; omega) ⟨s2,trivial⟩)
  by_cases c3:8 * B.length<P+m.getD S 0+E+d.getD S' 0
  ·exact ⟨_,cnd_f h285 (bnd e1 (bnd g2 (cnd_f rfl (bnd (congrArg some w1) (bnd (gsym_cut (j:=S') hd hB hbl hX hu.2 (by omega) c3 ⟨s3,trivial⟩) (cnd_t rfl rfl))))))⟩
  have g3:=gsym (out:=out) (most:=most) (bl:=bl) hd hB hbl (j:=S') hu.2 (P:=P+m.getD S 0+E) (by omega) (Sp_tr hX (by rw [wid1]; simp only [syP]; omega) ⟨s3,trivial⟩)
  exact ⟨_,cnd_f h285 (bnd e1 (bnd g2 (cnd_f rfl (bnd (congrArg some w1) (bnd g3 (cnd_f rfl (bnd f1 (cnd_f rfl (bnd (gnum_cut hbl (by omega) (by omega) (by omega)) (cnd_t rfl rfl))))))))))⟩
theorem gtok_cut {m d:List Nat} (hm:Cd m) (hd:Cd d) {B X:List Int} (hB:isB B) (hbl:B.length≤10000) (hX:∀ q,q<8 * B.length→bitC B q=bitC X q) (he:m.getD 256 0≠0) {most N:Nat} {bl:Int} (hm2:most≤5000) (hN:N≤most):∀ (l:List T_Tok) (out:List Int) (P fuel:Nat),(∀ t∈l,okTk t∧usedC m d t)→chkF l out.length=some N→P≤8 * B.length→8 * B.length<P+wid (tksP m d l++[syP m 256])→Sp (tksP m d l++[syP m 256]) P X→l.length<fuel →
  ∃ s,loopF (gtS (ints m) (ints d)) fuel (B,(P:Int),out,(most:Int),bl)=some (.inr (3,s))
 | [],out,P,fuel,ho,hc,hP0,hP,hs,hf=>by
  obtain ⟨fu,rfl⟩:∃ fu,fuel=fu+1:=⟨fuel-1,by omega⟩
  have e:wid (tksP m d []++[syP m 256])=m.getD 256 0:=by simp [tksP,wid,syP]
  rw [e] at hP
  exact ⟨_,loop_exit (by unfold gtS; exact bnd (gsym_cut hm hB hbl hX he hP0 hP hs) (cnd_t rfl rfl))⟩
 | t::l,out,P,fuel,ho,hc,hP0,hP,hs,hf=>by
  obtain ⟨fu,rfl⟩:∃ fu,fuel=fu+1:=⟨fuel-1,by omega⟩
  have e:tksP m d (t::l)++[syP m 256]=tkP m d t++(tksP m d l++[syP m 256]):=by simp [tksP]
  rw [e] at hP hs
  rw [wid_app] at hP
  obtain ⟨hs1,hs2⟩:=(Sp_app _ _ _ _).1 hs
  unfold chkF at hc
  split at hc
  ·rename_i hk
   have hge:=chkF_ge l _ N hc
   have hx:=exT_len (b:=out) hk
   by_cases hcut:8 * B.length<P+wid (tkP m d t)
   ·obtain ⟨s,h1⟩:=gtx_cut (out:=out) (most:=(most:Int)) (bl:=bl) hm hd hB hbl hX (ho t List.mem_cons_self).1 (ho t List.mem_cons_self).2 hP0 hcut hs1
    exact ⟨s,loop_exit h1⟩
   ·have h1:=gtx hm hd hB hbl (ho t List.mem_cons_self).1 (ho t List.mem_cons_self).2 (P:=P) (by omega) (Sp_tr hX (by omega) hs1) (gfin_ok (ho t List.mem_cons_self).1 hk (bl:=bl) (most:=most) (by omega) hm2)
    obtain ⟨s,ih⟩:=gtok_cut (bl:=bl) hm hd hB hbl hX he hm2 hN l (exT out t) (P+wid (tkP m d t)) fu (fun x hx=>ho x (List.mem_cons_of_mem _ hx)) (by rw [hx]; exact hc) (by omega) (by omega) hs2 (by simp only [List.length_cons] at hf; omega)
    exact ⟨s,(loop_next h1).trans ih⟩
  ·cases hc
theorem wid_tk16 {m d:List Nat} (hm:∀ x∈m,x≤15) (hd:∀ x∈d,x≤15) {t:T_Tok} (h:okTk t):wid (tkP m d t)≤16 * tl t:=by
 have h48:=wid_tk hm hd h
 unfold tl
 by_cases h0:t.Len=0
 ·rw [if_pos h0]
  unfold tkP
  rw [if_pos h0,wid1]
  simp only [syP]
  have:m.getD t.Byte.toNat 0≤15:=by
   rw [List.getD_eq_getElem?_getD]
   cases hj:m[t.Byte.toNat]? with
   | none=>simp
   | some y=>simpa using hm y (List.mem_of_getElem? hj)
  omega
 ·rw [if_neg h0]
  rcases h.2 with h1 | ⟨h1,h2,h3,h4⟩
  ·exact absurd h1 h0
  ·omega
theorem wid_tks16 {m d:List Nat} (hm:∀ x∈m,x≤15) (hd:∀ x∈d,x≤15):∀ (l:List T_Tok) (n N:Nat),(∀ t∈l,okTk t)→chkF l n=some N→wid (tksP m d l)+16 * n≤16 * N
 | [],n,N,ho,hc=>by
  cases hc
  simp [tksP,wid]
 | t::l,n,N,ho,hc=>by
  unfold chkF at hc
  split at hc
  ·have ih:=wid_tks16 hm hd l _ N (fun x hx=>ho x (List.mem_cons_of_mem _ hx)) hc
   have hge:=chkF_ge l _ N hc
   have h1:=wid_tk16 hm hd (ho t List.mem_cons_self)
   have e:tksP m d (t::l)=tkP m d t++tksP m d l:=by simp [tksP]
   rw [e,wid_app]
   omega
  ·cases hc
theorem gcut {b:List Int} (hb:∀ n∈b,0≤n∧n<256) (hl:b.length≤4096) {B X:List Int} (hB:isB B) (hbl:B.length≤5000) (hX:∀ q,q<8 * B.length→bitC B q=bitC X q) (hs:Sp (fxP (toksS b)) 0 X) (hP:8 * B.length<wid (fxP (toksS b))):grow_Grow B 4096=some ([],3):=by
 have eB:BIG=(BIG-1)+1:=by simp only [BIG]
 unfold fxP at hs hP
 obtain ⟨h1,h2⟩:=(Sp_app _ _ _ _).1 hs
 have hwid:wid [(1,1),(1,2)]=3:=rfl
 rw [wid_app,hwid] at hP
 rw [hwid] at h2
 have hok:∀ t∈toksS b,okTk t∧usedC mL mD t:=fun t ht=>⟨toksS_ok hb t ht,fix_usedC (toksS_ok hb t ht)⟩
 suffices hk:∃ l s,grow_stream_block (T_grow_stream.mk B ((0:Nat):Int) [] ((4096:Nat):Int) 0)=some (l,3,s) by
  obtain ⟨l,s,hk⟩:=hk
  have hl1:=gd_bad (e:=3) rfl hk (BIG-1)
  rw [← eB] at hl1
  exact ggrow_none rfl (gread_bad (by omega) (by omega) hbl hl1)
 by_cases h0:B.length=0
 ·refine ⟨false,T_grow_stream.mk B ((0:Nat):Int) [] ((4096:Nat):Int) 0,?_⟩
  unfold grow_stream_block
  exact bnd (gnum_cut (n:=1) (by omega) (by omega) (by omega) (by omega)) (cnd_t rfl rfl)
 ·obtain ⟨s,ht⟩:=gtok_cut (bl:=0) cd_mL cd_mD hB (by omega) hX (by decide) (most:=4096) (by omega) hl (toksS b) [] 3 BIG hok (chk_toksS b) (by omega) (by omega) h2 (by have:=tl_5000 hl; simp only [BIG]; omega)
  have ht2:grow_stream_tokens (T_grow_stream.mk B ((0+3:Nat):Int) [] ((4096:Nat):Int) 0) (ints mL) (ints mD)=some (3,s):=by
   unfold grow_stream_tokens
   exact bndR ht rfl
  exact ⟨_,_,gblk1 hB (by omega) (f:=1) (P:=0) (by omega) (by omega) (Sp_tr hX (by rw [hwid]; omega) h1) ht2⟩
theorem gmore {b:List Int} (hb:∀ n∈b,0≤n∧n<256) (hl:b.length≤4096) {X:List Int} (hB:isB X) (hbl:X.length<5000) (hs:Sp (fxP (toksS b)) 0 X) (hP:wid (fxP (toksS b))≤8 * X.length) {c:Int} (hc:0≤c∧c<256):grow_Grow (X++[c]) 4096=some ([],3):=by
 have eB:BIG=(BIG-2)+2:=by simp only [BIG]
 have hlen:(X++[c]).length=X.length+1:=by simp
 have hBy:isB (X++[c]):=fun x hx=>(List.mem_append.1 hx).elim (hB x) (fun h=>by rw [List.mem_singleton.1 h]; exact hc)
 obtain ⟨k1,_⟩:=gfixed hb hl hBy (by omega) (P:=0) (most:=4096) (bl:=((0:Nat):Int)) (by omega) (out:=[]) (by rw [List.length_nil,Nat.zero_add]; exact chk_toksS b) (by rw [List.nil_append]; exact ex_toksS b) (by simp) (Sp_left X [c] (by omega) hs) (by omega)
 have hl1:=gd_last (by omega) (k1 (by rw [List.length_nil]; omega)) (BIG-2)
 rw [← eB] at hl1
 exact ggrow_bad rfl (gread_fin (by omega) (by omega) (by omega) hl1 (gend_no (by omega) (by omega)))
theorem growCut_true (b:List Int) (cut more:Int) (hw:wfL (wfI .u8) b) (hc:wfI .u8 more):wherrylaw07_GrowCut b cut more=some true:=by
 have hb:=bys hw
 have hc2:0≤more∧more<256:=by
  unfold wfI at hc
  have h1:IntKind.u8.min=0:=by decide
  have h2:IntKind.u8.max=255:=by decide
  simp [Lit.wf,h1,h2] at hc
  omega
 unfold wherrylaw07_GrowCut
 by_cases h15:1500<b.length
 ·exact cnd_t (decide_eq_true (by omega)) rfl
 obtain ⟨f,f1,_,f3⟩:=fixed_is hb (by omega)
 have hg:=f3.good
 have hlen:=hg.len
 have hsp:=f3.sp
 have hw16:=wid_tks16 cd_mL.le cd_mD.le (toksS b) 0 b.length (toksS_ok hb) (chk_toksS b)
 have hwd:wid (fxP (toksS b))=3+(wid (tksP mL mD (toksS b))+7):=by
  unfold fxP
  rw [wid_app,wid_app,show wid [(1,1),(1,2)]=3 from rfl,show wid [syP mL 256]=7 from by kernel_rfl]
 have h0:((f.b.length:Int)==0)=false:=beq_eq_false_iff_ne.2 (by omega)
 obtain ⟨A,r,hA,hr,hrl,hw2⟩:=mod07 cut f.b.length (by omega) (by omega)
 have hu:IntKind.u64.wrap (f.b.length:Int)=(f.b.length:Int):=wrap_u64n (by omega) (by omega)
 have hsl:sliO f.b 0 (r:Int)=some (f.b.take r):=by
  have:=sli_nat f.b (a:=0) (b:=r) (by omega) (by omega)
  rw [show (((0:Nat):Int))=0 from rfl] at this
  rw [this]
  simp
 have htl:(f.b.take r).length=r:=by rw [List.length_take]; omega
 have hBt:isB (f.b.take r):=fun x hx=>hg.bytes x (List.mem_of_mem_take hx)
 have q1:=gcut hb (by omega) hBt (by omega) (X:=f.b) (fun q hq=>by
  have:=bitC_left (f.b.take r) (f.b.drop r) hq
  rw [List.take_append_drop] at this
  exact this.symm) hsp (by omega)
 have q2:=gmore hb (by omega) hg.bytes (by omega) hsp (by omega) hc2
 have hap:appO 1 f.b [more]=some (f.b++[more]):=by
  unfold appO
  rw [if_pos (by simp only [List.length_cons,List.length_nil]; omega)]
 have htw:wherrykeep_Twin f.b=some f.b:=by
  unfold wherrykeep_Twin
  have h1:appO 1 ([]:List Int) f.b=some ([]++f.b):=by
   unfold appO
   rw [if_pos (by simp only [List.length_nil]; omega)]
  exact bnd h1 rfl
 exact cnd_f (decide_eq_false (by omega)) (bnd f1 (bndL (s:=false) (cnd_f rfl (by rw [h0])) (cnd_f rfl (bnd (congrArg some hA) (bnd (congrArg some hu) (bnd hr (bnd (congrArg some hw2) (bnd hsl (bnd q1 (bnd htw (bnd hap (bnd q2
  (bndL (s:=true) (cnd_t rfl (cnd_t rfl (bnd rfl (cnd_t rfl (bnd wakes7 rfl))))) rfl)))))))))))))
end Go.Abs.Sh
