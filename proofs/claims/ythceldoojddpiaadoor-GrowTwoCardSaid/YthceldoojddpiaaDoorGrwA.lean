import Derived.Test.YthceldoojddpiaaDoorLawM
import Derived.Test.YthceldoojddpiaaDoorLoopM
import Derived.Test.YthceldoojddpiaaDoorKeepM
import Derived.KernelRfl
namespace Go.Abs.Sh
set_option linter.unusedVariables false
set_option linter.unusedSimpArgs false
set_option maxRecDepth 10000
theorem wrap_u8' (n:Int):IntKind.u8.wrap n=n % 256:=by
 simp only [IntKind.wrap,IntKind.bits,IntKind.signed]
 have e:(2:Int) ^ 8=256:=by decide
 simp [e]
theorem ofInt8 (a:Nat) (ha:a<256):(BitVec.ofInt 8 (a:Int)).toNat=a:=by
 rw [BitVec.ofInt_natCast,BitVec.toNat_ofNat]; exact Nat.mod_eq_of_lt (by omega)
theorem ofInt64 (a:Nat) (ha:a<9223372036854775808):(BitVec.ofInt 64 (a:Int)).toNat=a:=by
 rw [BitVec.ofInt_natCast,BitVec.toNat_ofNat]; exact Nat.mod_eq_of_lt (by omega)
theorem and1_u8 (a:Nat) (ha:a<256):bits .and .u8 (a:Int) 1=((a % 2:Nat):Int):=by
 show IntKind.u8.wrap ((BitVec.ofInt 8 (a:Int) &&& BitVec.ofInt 8 ((1:Nat):Int)).toNat:Int)=_
 rw [BitVec.toNat_and,ofInt8 a ha,ofInt8 1 (by omega),wrap_u8',Nat.and_one_is_mod]; omega
theorem shr_nat (k:IntKind) (a m:Nat) (hm:m≤k.bits):shrO k (a:Int) (m:Int)=some ((a / 2 ^ m:Nat):Int):=by
 simp only [shrO]
 rw [if_pos (by omega),Int.toNat_natCast,Nat.min_eq_left hm]
 have:(0:Int)≤2 ^ m:=Int.pow_nonneg (by omega)
 rw [Int.fdiv_eq_ediv_of_nonneg _ this]
 congr 1
def ints (m:List Nat):List Int:=m.map fun n:Nat=>(n:Int)
theorem ints_len (m:List Nat):(ints m).length=m.length:=by simp [ints]
theorem ints_get {m:List Nat} {i:Nat} (h:i<m.length):getO (ints m) i=some ((m[i]:Nat):Int):=by simp [getO,ints,h]
theorem ints_set (m:List Nat) (i v:Nat) (h:i<m.length):setO (ints m) i (v:Int)=some (ints (m.set i v)):=by
 simp only [setO,ints,List.length_map]
 rw [if_pos h,List.map_set]
theorem ints_nats {l:List Int} (h:∀ n∈l,0≤n):ints (l.map Int.toNat)=l:=by
 simp only [ints,List.map_map]
 conv=>rhs; rw [← List.map_id l]
 exact List.map_congr_left fun x hx=>by have:=h x hx; simp; omega
def tal (m:List Nat):List Nat:=(List.range 16).map fun n=>if n=0 then 0 else m.count n
theorem tal_len (m:List Nat):(tal m).length=16:=by simp [tal]
theorem tal_at (m:List Nat) {n:Nat} (h:n<(tal m).length):(tal m)[n]=if n=0 then 0 else m.count n:=by simp [tal]
theorem tal_get (m:List Nat) {n:Nat} (h:n<16) (h0:0<n):getO (ints (tal m)) n=some ((m.count n:Nat):Int):=by
 have hl:n<(tal m).length:=by rw [tal_len]; exact h
 rw [ints_get hl,tal_at]; rw [if_neg (by omega)]
theorem tal_snoc (m:List Nat) (x:Nat) (hx:x≤15) (h0:0<x):tal (m++[x])=(tal m).set x (m.count x+1):=by
 apply List.ext_getElem
 ·simp [tal]
 ·intro i h1 h2
  have hi:i<16:=by rw [tal_len] at h1; exact h1
  rw [List.getElem_set,tal_at]
  by_cases hix:x=i
  ·subst hix; rw [if_neg (by omega),if_pos rfl,List.count_append]; simp
  ·rw [if_neg hix,tal_at,List.count_append]
   have:List.count i [x]=0:=by simp [List.count_cons,hix]
   rw [this]; rfl
theorem tal_snoc0 (m:List Nat):tal (m++[0])=tal m:=by
 apply List.ext_getElem
 ·simp [tal]
 ·intro i h1 h2
  rw [tal_at,tal_at,List.count_append]
  by_cases h:i=0
  ·simp [h]
  ·have:List.count i [0]=0:=by simp [List.count_cons]; omega
   rw [this]; rfl
theorem valid_eq (l:List Int):canon_valid l=some (decide (l.length≤300∧∀ n∈l,0≤n∧n≤15)):=by
 unfold canon_valid
 by_cases l1:300<l.length
 ·refine cnd_t (by simp; omega) ?_
  rw [decide_eq_false (by omega)]
 refine cnd_f (by simp; omega) ?_
 have key:∀ (k fuel i:Nat),l.length-i=k→i≤l.length→k<fuel →
   loopF (S:=(Int)) (O:=(Unit)⊕Bool) (fun (s18:Int) =>
    cond ((decide (s18<(l.length:Int))))
     ((ixO s18 l.length).bind fun v3 =>
     (getO l v3).bind fun v4 =>
     bindS (S:=Bool) (A:=((Int)⊕((Unit)⊕Bool)))
      (cond ((decide (v4<0)))
       (some (.inl true))
       (some (.inl ((decide (15<v4))))))
      (fun (s32:Bool) =>
       cond (s32)
        (some (.inr (.inr (false))))
        ((some (IntKind.i64.wrap (s18+1))).bind fun v10 =>
        some (.inl v10))) some)
     (some (.inr (.inl ())))) fuel (i:Int)=some (if ∀ n∈l.drop i,0≤n∧n≤15 then .inl () else .inr false):=by
  intro k
  induction k with
  | zero =>
   intro fuel i hk hi hf
   obtain ⟨f,rfl⟩:∃ f,fuel=f+1:=⟨fuel-1,by omega⟩
   have:i=l.length:=by omega
   subst this
   refine loop_exit (cnd_f (by simp) ?_)
   rw [if_pos (by simp)]
  | succ k ih =>
   intro fuel i hk hi hf
   obtain ⟨f,rfl⟩:∃ f,fuel=f+1:=⟨fuel-1,by omega⟩
   have hlt:i<l.length:=by omega
   have hw:IntKind.i64.wrap ((i:Int)+1)=((i+1:Nat):Int):=by rw [wrap_i64 (by omega) (by omega)]; simp
   have hdr:l.drop i=l[i]::l.drop (i+1):=List.drop_eq_getElem_cons hlt
   by_cases hv:0≤l[i]∧l[i]≤15
   ·refine (loop_next (cnd_t (by simp; omega) (bnd (ixO_of hlt) (bnd (getO_of hlt) (bndL (s:=false) (cnd_f (by simp; omega) (by rw [decide_eq_false (by omega)])) (cnd_f rfl (bnd (x:=((i+1:Nat):Int)) (by rw [hw]) rfl))))))).trans ?_
    rw [ih f (i+1) (by omega) (by omega) (by omega),hdr]
    simp only [List.mem_cons,forall_eq_or_imp,hv,true_and,and_self]
   ·refine loop_exit (cnd_t (by simp; omega) (bnd (ixO_of hlt) (bnd (getO_of hlt) (bndL (s:=true) ?_ (cnd_t rfl ?_)))))
    ·by_cases h0:l[i]<0
     ·exact cnd_t (by simp [h0]) rfl
     ·exact cnd_f (by simp; omega) (by rw [decide_eq_true (by omega)])
    ·rw [hdr,if_neg (fun h=>hv (h l[i] (List.mem_cons_self)))]
 have:=key l.length BIG 0 (by omega) (Nat.zero_le _) (by unfold BIG; omega)
 rw [List.drop_zero] at this
 by_cases hv:∀ n∈l,0≤n∧n≤15
 ·rw [if_pos hv] at this
  refine bndL (s:=()) this ?_
  rw [decide_eq_true ⟨by omega,hv⟩]
 ·rw [if_neg hv] at this
  refine bndR (a:=false) this ?_
  rw [decide_eq_false (fun h=>hv h.2)]
theorem count_eq (m:List Nat) (hm:∀ x∈m,x≤15) (hl:m.length≤1000):canon_count (ints m)=some (ints (tal m)):=by
 unfold canon_count
 have key:∀ (k fuel i:Nat),m.length-i=k→i≤m.length→k<fuel →
  loopF (S:=((List Int)×Int)) (O:=((List Int))⊕(List Int)) (fun ((s25,s26):(List Int)×Int) =>
   cond ((decide (s26<((ints m).length:Int))))
    (bindS (S:=(List Int)) (A:=(((List Int)×Int)⊕(((List Int))⊕(List Int))))
     ((ixO s26 (ints m).length).bind fun v2 =>
     (getO (ints m) v2).bind fun v3 =>
     cond ((decide (0<v3)))
      ((ixO v3 16).bind fun v5 =>
      (getO s25 v5).bind fun v6 =>
      (some (IntKind.i64.wrap (v6+1))).bind fun v7 =>
      (ixO v3 16).bind fun v8 =>
      (setO s25 v8 v7).bind fun v9 =>
      some (.inl v9))
      (some (.inl s25)))
     (fun (s43:(List Int)) =>
      (some (IntKind.i64.wrap (s26+1))).bind fun v15 =>
      some (.inl (s43,v15))) some)
    (some (.inr (.inl s25)))) fuel (ints (tal (m.take i)),(i:Int))=some (.inl (ints (tal m))):=by
  intro k
  induction k with
  | zero =>
   intro fuel i hk hi hf
   obtain ⟨f,rfl⟩:∃ f,fuel=f+1:=⟨fuel-1,by omega⟩
   have:i=m.length:=by omega
   subst this
   refine loop_exit (cnd_f (by simp [ints_len]) ?_)
   rw [List.take_length]
  | succ k ih =>
   intro fuel i hk hi hf
   obtain ⟨f,rfl⟩:∃ f,fuel=f+1:=⟨fuel-1,by omega⟩
   have hlt:i<m.length:=by omega
   have hlt':i<(ints m).length:=by rw [ints_len]; exact hlt
   have hw:IntKind.i64.wrap ((i:Int)+1)=((i+1:Nat):Int):=by rw [wrap_i64 (by omega) (by omega)]; simp
   have hx:=hm m[i] (List.getElem_mem hlt)
   have htk:m.take (i+1)=m.take i++[m[i]]:=by rw [List.take_add_one]; simp [hlt]
   have ih':=ih f (i+1) (by omega) (by omega) (by omega)
   refine (loop_next (s':=(ints (tal (m.take (i+1))),((i+1:Nat):Int))) (cnd_t (by simp; omega) (bndL (s:=ints (tal (m.take (i+1)))) (bnd (ixO_of hlt') (bnd (ints_get hlt) ?_)) (bnd (x:=((i+1:Nat):Int)) (by rw [hw]) rfl)))).trans ih'
   by_cases h0:0<m[i]
   ·have hc:(m.take i).count m[i]≤m.length:=Nat.le_trans (List.count_le_length) (by simp; omega)
    have hw2:IntKind.i64.wrap ((((m.take i).count m[i]:Nat):Int)+1)=(((m.take i).count m[i]+1:Nat):Int):=by rw [wrap_i64 (by omega) (by omega)]; simp
    have h16:m[i]<16:=by omega
    refine cnd_t (by simp; omega) (bnd (ixO_of h16) (bnd (tal_get _ h16 h0) (bnd (x:=(((m.take i).count m[i]+1:Nat):Int)) (by rw [hw2]) (bnd (ixO_of h16) (bnd (ints_set _ _ _ (by rw [tal_len]; exact h16)) ?_)))))
    rw [htk,tal_snoc _ _ hx h0]
   ·refine cnd_f (by simp; omega) ?_
    have:m[i]=0:=by omega
    rw [htk,this,tal_snoc0]
 have h0:ints (tal (m.take 0))=List.replicate 16 (0:Int):=by rw [List.take_zero]; decide
 have:=key m.length BIG 0 (by omega) (Nat.zero_le _) (by unfold BIG; omega)
 rw [h0] at this
 have l16:lnO 16 (ints (tal m))=some (ints (tal m)):=by simp [lnO,ints_len,tal_len]
 have l0:lnO 16 (List.replicate 16 (0:Int))=some (List.replicate 16 (0:Int)):=by decide
 exact bndL this (bnd l16 (bnd l0 (bnd l16 (bnd l16 rfl))))
def ws (m:List Nat):Nat→Nat
 | 0=>0
 | k+1=>ws m k+m.count (k+1) * 2 ^ (15-(k+1))
theorem ws_mono (m:List Nat) {a b:Nat} (h:a≤b):ws m a≤ws m b:=by
 induction b with
 | zero =>
  have:a=0:=by omega
  subst this; exact Nat.le_refl _
 | succ b ih =>
  rcases Nat.lt_or_ge a (b+1) with h1 | h1
  ·exact Nat.le_trans (ih (by omega)) (Nat.le_add_right _ _)
  ·have:a=b+1:=by omega
   subst this; exact Nat.le_refl _
theorem ws_le (m:List Nat) (k:Nat):ws m k≤k * (m.length * 32768):=by
 induction k with
 | zero=>simp [ws]
 | succ k ih =>
  have h1:m.count (k+1)≤m.length:=List.count_le_length
  have h2:2 ^ (15-(k+1))≤2 ^ 15:=Nat.pow_le_pow_right (by omega) (by omega)
  have h3:=Nat.mul_le_mul h1 h2
  have e:(2:Nat) ^ 15=32768:=by decide
  rw [e] at h3
  rw [ws,Nat.add_mul]
  omega
theorem shl_nat (a k:Nat) (hk:k≤64) (h:a * 2 ^ k<9223372036854775808):shlO .i64 (a:Int) (k:Int)=some ((a * 2 ^ k:Nat):Int):=by
 simp only [shlO,IntKind.bits]
 rw [if_pos (by omega),Int.toNat_natCast,Nat.min_eq_left hk]
 have e:(a:Int) * 2 ^ k=((a * 2 ^ k:Nat):Int):=by push_cast; rfl
 rw [e]
 generalize a * 2 ^ k=y at *
 rw [wrap_i64 (by omega) (by omega)]
theorem weight_eq (m:List Nat) (hl:m.length≤1000):canon_tally_weight (ints (tal m))=some ((ws m 15:Nat):Int):=by
 unfold canon_tally_weight
 have l16:lnO 16 (ints (tal m))=some (ints (tal m)):=by simp [lnO,ints_len,tal_len]
 have key:∀ (k fuel i w:Nat),16-i=k→i≤16→k<fuel→w=ws m (i-1) →
  loopF (S:=(Int×Int)) (O:=(Int)⊕Int) (fun ((s12,s13):Int×Int) =>
   cond ((decide (s13<16)))
    ((ixO s13 16).bind fun v3 =>
    (getO (ints (tal m)) v3).bind fun v4 =>
    (some (IntKind.i64.wrap (15-s13))).bind fun v5 =>
    (shlO .i64 v4 v5).bind fun v6 =>
    (some (IntKind.i64.wrap (s12+v6))).bind fun v7 =>
    (some (IntKind.i64.wrap (s13+1))).bind fun v8 =>
    some (.inl (v7,v8)))
    (some (.inr (.inl s12)))) fuel ((w:Int),(i:Int))=some (.inl ((ws m 15:Nat):Int)):=by
  intro k
  induction k with
  | zero =>
   intro fuel i w hk hi hf hw
   obtain ⟨f,rfl⟩:∃ f,fuel=f+1:=⟨fuel-1,by omega⟩
   have:i=16:=by omega
   subst this
   subst hw
   exact loop_exit (cnd_f (by simp) rfl)
  | succ k ih =>
   intro fuel i w hk hi hf hw
   obtain ⟨f,rfl⟩:∃ f,fuel=f+1:=⟨fuel-1,by omega⟩
   have h16:i<16:=by omega
   have hti:i<(tal m).length:=by rw [tal_len]; exact h16
   have w1:IntKind.i64.wrap (15-(i:Int))=((15-i:Nat):Int):=by rw [wrap_i64 (by omega) (by omega)]; omega
   have w2:IntKind.i64.wrap ((i:Int)+1)=((i+1:Nat):Int):=by rw [wrap_i64 (by omega) (by omega)]; simp
   have hc:(tal m)[i]≤m.length:=by
    rw [tal_at]; split
    ·omega
    ·exact List.count_le_length
   have h2:2 ^ (15-i)≤2 ^ 15:=Nat.pow_le_pow_right (by omega) (by omega)
   have h3:=Nat.mul_le_mul hc h2
   have e:(2:Nat) ^ 15=32768:=by decide
   rw [e] at h3
   have h4:m.length * 32768≤1000 * 32768:=Nat.mul_le_mul_right _ hl
   have hwl:=ws_le m (i-1)
   have hwl2:(i-1) * (m.length * 32768)≤16 * (1000 * 32768):=Nat.mul_le_mul (by omega) h4
   have hs:w+(tal m)[i] * 2 ^ (15-i)=ws m (i+1-1):=by
    rw [hw,tal_at]
    cases i with
    | zero=>simp [ws]
    | succ i=>rw [if_neg (by omega)]; simp [ws]
   have hsh:=shl_nat (tal m)[i] (15-i) (by omega) (by omega)
   have w3:IntKind.i64.wrap ((w:Int)+(((tal m)[i] * 2 ^ (15-i):Nat):Int))=((ws m (i+1-1):Nat):Int):=by
    rw [← hs]
    generalize (tal m)[i] * 2 ^ (15-i)=y at *
    rw [wrap_i64 (by omega) (by omega)]; simp
   refine (loop_next (cnd_t (by simp; omega) (bnd (ixO_of h16) (bnd (ints_get hti) (bnd (x:=((15-i:Nat):Int)) (by rw [w1]) (bnd hsh (bnd (x:=((ws m (i+1-1):Nat):Int)) (by rw [w3]) (bnd (x:=((i+1:Nat):Int)) (by rw [w2]) rfl)))))))).trans ?_
   exact ih f (i+1) _ (by omega) (by omega) (by omega) rfl
 exact bnd l16 (bndL (key 16 BIG 0 0 rfl (by omega) (by unfold BIG; omega) rfl) rfl)
def forms (m:List Nat):Bool:=decide (ints (tal m)=List.replicate 16 0)||decide (ints (tal m)=0::1::List.replicate 14 0)||decide (ws m 15=32768)
theorem forms_eq (m:List Nat) (hl:m.length≤1000):canon_forms (ints (tal m))=some (forms m):=by
 unfold canon_forms
 have l16:lnO 16 (ints (tal m))=some (ints (tal m)):=by simp [lnO,ints_len,tal_len]
 have l0:lnO 16 (List.replicate 16 (0:Int))=some (List.replicate 16 (0:Int)):=by decide
 refine bnd l0 (bnd rfl ?_)
 have e1:([(0:Int),(0:Int),(0:Int),(0:Int),(0:Int),(0:Int),(0:Int),(0:Int),(0:Int),(0:Int),(0:Int),(0:Int),(0:Int),(0:Int),(0:Int),(0:Int)]:List Int)=List.replicate 16 0:=rfl
 have e2:([(0:Int),1,(0:Int),(0:Int),(0:Int),(0:Int),(0:Int),(0:Int),(0:Int),(0:Int),(0:Int),(0:Int),(0:Int),(0:Int),(0:Int),(0:Int)]:List Int)=0::1::List.replicate 14 0:=rfl
 refine bndL (s:=forms m) (bnd l16 (bnd l16 (bnd rfl ?_))) rfl
 rw [e1]
 by_cases h1:ints (tal m)=List.replicate 16 0
 ·exact cnd_t (by rw [h1]; rfl) (by rw [forms,decide_eq_true h1]; rfl)
 refine cnd_f (by rw [beq_eq_false_iff_ne]; exact h1) (bnd l16 (bnd rfl (bnd l16 (bnd rfl ?_))))
 rw [e2]
 by_cases h2:ints (tal m)=0::1::List.replicate 14 0
 ·exact cnd_t (by rw [h2]; rfl) (by rw [forms,decide_eq_true h2]; simp)
 refine cnd_f (by rw [beq_eq_false_iff_ne]; exact h2) (bnd l16 (bnd (weight_eq m hl) ?_))
 rw [forms,decide_eq_false h1,decide_eq_false h2]
 by_cases h3:ws m 15=32768
 ·simp [h3]
 ·have:((ws m 15:Nat):Int)≠32768:=by omega
  simp [h3,this]
theorem forms_ws {m:List Nat} (h:forms m=true):ws m 15≤32768:=by
 simp only [forms,Bool.or_eq_true,decide_eq_true_eq] at h
 have count_of:∀ (t:List Int),ints (tal m)=t→∀ n,0<n→n<16→t[n]? = some ((m.count n:Nat):Int):=by
  intro t ht n h0 h16
  have:=tal_get m h16 h0
  rw [ht] at this
  exact this
 rcases h with (h | h) | h
 ·have hz:∀ k,k≤15→ws m k=0:=by
   intro k
   induction k with
   | zero=>intro _; rfl
   | succ k ih =>
    intro hk
    have:=count_of _ h (k+1) (by omega) (by omega)
    rw [List.getElem?_replicate,if_pos (by omega)] at this
    have hc:m.count (k+1)=0:=by simp at this; omega
    rw [ws,ih (by omega),hc]; simp
  rw [hz 15 (by omega)]; omega
 ·have hz:∀ k,k≤14→ws m (k+1)=16384:=by
   intro k
   induction k with
   | zero =>
    intro _
    have:=count_of _ h 1 (by omega) (by omega)
    have hc:m.count 1=1:=by simp at this; omega
    simp [ws,hc]
   | succ k ih =>
    intro hk
    have:=count_of _ h (k+1+1) (by omega) (by omega)
    simp only [List.getElem?_cons_succ,List.getElem?_replicate] at this
    rw [if_pos (by omega)] at this
    have hc:m.count (k+1+1)=0:=by simp at this; omega
    rw [ws,ih (by omega),hc]; simp
  rw [hz 14 (by omega)]; omega
 ·omega
theorem check_ints (m:List Nat) (hl:m.length≤1000):canon_Check (ints m)=some (if m.length≤300∧(∀ x∈m,x≤15) then (if forms m then 0 else 4) else 1):=by
 unfold canon_Check
 refine bnd (valid_eq _) ?_
 have hiff:((ints m).length≤300∧∀ n∈ints m,0≤n∧n≤15)↔(m.length≤300∧∀ x∈m,x≤15):=by
  rw [ints_len]
  constructor
  ·rintro ⟨h1,h2⟩
   exact ⟨h1,fun x hx=>by have:=(h2 (x:Int) (List.mem_map.2 ⟨x,hx,rfl⟩)).2; omega⟩
  ·rintro ⟨h1,h2⟩
   refine ⟨h1,fun n hn => ?_⟩
   obtain ⟨x,hx,rfl⟩:=List.mem_map.1 hn
   have:=h2 x hx; omega
 by_cases hv:m.length≤300∧(∀ x∈m,x≤15)
 ·rw [decide_eq_true (hiff.2 hv),if_pos hv]
  refine cnd_f rfl (bnd (count_eq m hv.2 hl) (bnd (forms_eq m hl) ?_))
  cases forms m <;> rfl
 ·rw [decide_eq_false (fun h=>hv (hiff.1 h)),if_neg hv]
  rfl
def fst (m:List Nat):Nat→Nat
 | 0=>0
 | 1=>0
 | n+2=>2 * (fst m (n+1)+m.count (n+1))
theorem fst_ws (m:List Nat):∀ n,n≤14→fst m (n+1) * 2 ^ (14-n)=ws m n
 | 0,_=>by simp [fst,ws]
 | n+1,h=>by
  have ih:=fst_ws m n (by omega)
  have e:14-n=(14-(n+1))+1:=by omega
  rw [show fst m (n+1+1)=2 * (fst m (n+1)+m.count (n+1)) from rfl,ws,← ih,show 15-(n+1)=(14-(n+1))+1 by omega,e,Nat.pow_succ]
  generalize 2 ^ (14-(n+1))=p
  rw [Nat.mul_add,Nat.add_mul]
  congr 1 <;> ac_rfl
theorem pow_split {n:Nat} (h:n≤15):2 ^ n * 2 ^ (15-n)=32768:=by
 rw [← Nat.pow_add,show n+(15-n)=15 by omega]
theorem fst_step (m:List Nat) {n:Nat} (h0:1≤n) (h:n≤15):fst m n * 2 ^ (15-n)=ws m (n-1):=by
 have:=fst_ws m (n-1) (by omega)
 rwa [show n-1+1=n by omega,show 14-(n-1)=15-n by omega] at this
theorem ws_step (m:List Nat) {n:Nat} (h0:1≤n) (h:n≤15):(fst m n+m.count n) * 2 ^ (15-n)=ws m n:=by
 rw [Nat.add_mul,fst_step m h0 h]
 obtain ⟨k,rfl⟩:∃ k,n=k+1:=⟨n-1,by omega⟩
 rfl
theorem fst_le {m:List Nat} (hw:ws m 15≤32768) {n:Nat} (h0:1≤n) (h:n≤15):fst m n+m.count n≤2 ^ n:=by
 have h1:=ws_step m h0 h
 have h2:=ws_mono m h
 have hp:0<2 ^ (15-n):=Nat.pow_pos (by omega)
 refine Nat.le_of_mul_le_mul_right ?_ hp
 rw [h1,pow_split h]
 omega
theorem pow_le15 {n:Nat} (h:n≤15):2 ^ n≤32768:=Nat.pow_le_pow_right (show 0<2 by omega) h
theorem fst_small {m:List Nat} (hw:ws m 15≤32768) {n:Nat} (h:n≤15):fst m n≤32768:=by
 rcases Nat.eq_zero_or_pos n with h0 | h0
 ·subst h0; simp [fst]
 ·have:=fst_le hw h0 h
  have:=pow_le15 h
  omega
def fl (m:List Nat) (i:Nat):List Nat:=(List.range 16).map fun n=>if n<i then fst m n else 0
theorem fl_len (m:List Nat) (i:Nat):(fl m i).length=16:=by simp [fl]
theorem fl_set (m:List Nat) (i:Nat) (h:i<16):(fl m i).set i (fst m i)=fl m (i+1):=by
 apply List.ext_getElem
 ·simp [fl]
 ·intro j h1 h2
  rw [List.getElem_set]
  simp only [fl,List.getElem_map,List.getElem_range]
  by_cases hij:i=j
  ·subst hij; simp
  ·rw [if_neg hij]
   by_cases hj:j<i
   ·rw [if_pos hj,if_pos (by omega)]
   ·rw [if_neg hj,if_neg (by omega)]
theorem firsts_eq (m:List Nat) (hl:m.length≤1000) (hw:ws m 15≤32768):canon_firsts (ints (tal m))=some (ints (fl m 16)):=by
 unfold canon_firsts
 have key:∀ (k fuel i:Nat),16-i=k→i≤16→2≤i→k<fuel →
  loopF (S:=((List Int)×Int)) (O:=((List Int))⊕(List Int)) (fun ((s16,s17):(List Int)×Int) =>
   cond ((decide (s17≤15)))
    ((some (IntKind.i64.wrap (s17-1))).bind fun v2 =>
    (ixO v2 16).bind fun v3 =>
    (getO s16 v3).bind fun v4 =>
    (some (IntKind.i64.wrap (s17-1))).bind fun v5 =>
    (ixO v5 16).bind fun v6 =>
    (getO (ints (tal m)) v6).bind fun v7 =>
    (some (IntKind.i64.wrap (v4+v7))).bind fun v8 =>
    (some (IntKind.i64.wrap (2 * v8))).bind fun v9 =>
    (ixO s17 16).bind fun v10 =>
    (setO s16 v10 v9).bind fun v11 =>
    (some (IntKind.i64.wrap (s17+1))).bind fun v12 =>
    some (.inl (v11,v12)))
    (some (.inr (.inl s16)))) fuel (ints (fl m i),(i:Int))=some (.inl (ints (fl m 16))):=by
  intro k
  induction k with
  | zero =>
   intro fuel i hk hi h2 hf
   obtain ⟨f,rfl⟩:∃ f,fuel=f+1:=⟨fuel-1,by omega⟩
   have:i=16:=by omega
   subst this
   exact loop_exit (cnd_f (by simp) rfl)
  | succ k ih =>
   intro fuel i hk hi h2 hf
   obtain ⟨f,rfl⟩:∃ f,fuel=f+1:=⟨fuel-1,by omega⟩
   have h16:i<16:=by omega
   have w1:IntKind.i64.wrap ((i:Int)-1)=((i-1:Nat):Int):=by rw [wrap_i64 (by omega) (by omega)]; omega
   have w2:IntKind.i64.wrap ((i:Int)+1)=((i+1:Nat):Int):=by rw [wrap_i64 (by omega) (by omega)]; simp
   have hx:i-1<16:=by omega
   have hfl:i-1<(fl m i).length:=by rw [fl_len]; exact hx
   have hg:(fl m i)[i-1]=fst m (i-1):=by simp [fl]; omega
   have hb:=fst_le hw (n:=i-1) (by omega) (by omega)
   have hb2:=pow_le15 (n:=i-1) (by omega)
   have w3:IntKind.i64.wrap (((fst m (i-1):Nat):Int)+((m.count (i-1):Nat):Int))=((fst m (i-1)+m.count (i-1):Nat):Int):=by rw [wrap_i64 (by omega) (by omega)]; simp
   have hstep:fst m i=2 * (fst m (i-1)+m.count (i-1)):=by
    obtain ⟨j,rfl⟩:∃ j,i=j+2:=⟨i-2,by omega⟩
    rfl
   have w4:IntKind.i64.wrap (2 * ((fst m (i-1)+m.count (i-1):Nat):Int))=((fst m i:Nat):Int):=by rw [hstep,wrap_i64 (by omega) (by omega)]; simp
   have hset:=ints_set (fl m i) i (fst m i) (by rw [fl_len]; exact h16)
   rw [fl_set m i h16] at hset
   refine (loop_next (cnd_t (by simp; omega) (bnd (x:=((i-1:Nat):Int)) (by rw [w1]) (bnd (ixO_of hx) (bnd (x:=((fst m (i-1):Nat):Int)) (by rw [ints_get hfl,hg]) (bnd (x:=((i-1:Nat):Int)) (by rw [w1]) (bnd (ixO_of hx) (bnd (tal_get m hx (by omega))
    (bnd (x:=((fst m (i-1)+m.count (i-1):Nat):Int)) (by rw [w3]) (bnd (x:=((fst m i:Nat):Int)) (by rw [w4]) (bnd (ixO_of h16) (bnd hset (bnd (x:=((i+1:Nat):Int)) (by rw [w2]) rfl))))))))))))).trans ?_
   exact ih f (i+1) (by omega) (by omega) (by omega) (by omega)
 have h0:ints (fl m 2)=List.replicate 16 (0:Int):=by
  have:fl m 2=List.replicate 16 0:=by
   apply List.ext_getElem
   ·simp [fl]
   ·intro j h1 h2
    simp only [fl,List.getElem_map,List.getElem_range,List.getElem_replicate]
    split
    ·rename_i h
     have:j=0∨j=1:=by omega
     rcases this with rfl | rfl <;> rfl
    ·rfl
  rw [this]; decide
 have hk:=key 14 BIG 2 rfl (by omega) (by omega) (by unfold BIG; omega)
 rw [h0] at hk
 have l16:lnO 16 (ints (fl m 16))=some (ints (fl m 16)):=by simp [lnO,ints_len,fl_len]
 have l0:lnO 16 (List.replicate 16 (0:Int))=some (List.replicate 16 (0:Int)):=by decide
 exact bndL hk (bnd l16 (bnd l0 (bnd l16 (bnd l16 rfl))))
def code (m:List Nat) (j:Nat):Nat:=if m.getD j 0=0 then 0 else fst m (m.getD j 0)+(m.take j).count (m.getD j 0)
def codes (m:List Nat):List Nat:=(List.range m.length).map (code m)
def nx (m:List Nat) (i:Nat):List Nat:=(List.range 16).map fun n=>if n=0 then 0 else fst m n+(m.take i).count n
def cd (m:List Nat) (i:Nat):List Nat:=(List.range m.length).map fun j=>if j<i then code m j else 0
theorem nx_len (m:List Nat) (i:Nat):(nx m i).length=16:=by simp [nx]
theorem cd_len (m:List Nat) (i:Nat):(cd m i).length=m.length:=by simp [cd]
theorem nx_set (m:List Nat) (i:Nat) (h:i<m.length) (hx:m[i]≤15) (h0:0<m[i]):(nx m i).set m[i] (fst m m[i]+(m.take i).count m[i]+1)=nx m (i+1):=by
 have htk:m.take (i+1)=m.take i++[m[i]]:=by rw [List.take_add_one]; simp [h]
 apply List.ext_getElem
 ·simp [nx]
 ·intro j h1 h2
  rw [List.getElem_set]
  simp only [nx,List.getElem_map,List.getElem_range,htk,List.count_append]
  by_cases hij:m[i]=j
  ·rw [if_pos hij,if_neg (by omega),hij]; simp [hij]; omega
  ·rw [if_neg hij]
   have:List.count j [m[i]]=0:=by simp [List.count_cons,hij]
   rw [this]; rfl
theorem nx_zero (m:List Nat) (i:Nat) (h:i<m.length) (h0:m[i]=0):nx m (i+1)=nx m i:=by
 have htk:m.take (i+1)=m.take i++[m[i]]:=by rw [List.take_add_one]; simp [h]
 apply List.ext_getElem
 ·simp [nx]
 ·intro j h1 h2
  simp only [nx,List.getElem_map,List.getElem_range,htk,List.count_append]
  by_cases hj:j=0
  ·simp [hj]
  ·have:List.count j [m[i]]=0:=by simp [List.count_cons,h0]; omega
   rw [this]; rfl
theorem cd_set (m:List Nat) (i:Nat) (h:i<m.length):(cd m i).set i (code m i)=cd m (i+1):=by
 apply List.ext_getElem
 ·simp [cd]
 ·intro j h1 h2
  rw [List.getElem_set]
  simp only [cd,List.getElem_map,List.getElem_range]
  by_cases hij:i=j
  ·subst hij; simp
  ·rw [if_neg hij]
   by_cases hj:j<i
   ·rw [if_pos hj,if_pos (by omega)]
   ·rw [if_neg hj,if_neg (by omega)]
theorem cd_zero (m:List Nat) (i:Nat) (h:i<m.length) (h0:m[i]=0):cd m (i+1)=cd m i:=by
 apply List.ext_getElem
 ·simp [cd]
 ·intro j h1 h2
  simp only [cd,List.getElem_map,List.getElem_range]
  by_cases hij:j=i
  ·subst hij
   have:code m j=0:=by simp [code,List.getD_eq_getElem?_getD,h,h0]
   simp [this]
  ·by_cases hj:j<i
   ·rw [if_pos hj,if_pos (by omega)]
   ·rw [if_neg hj,if_neg (by omega)]
theorem codes_eq (m:List Nat) (hl:m.length≤300) (hm:∀ x∈m,x≤15) (hf:forms m=true):canon_Codes (ints m)=some (ints (codes m),0):=by
 have hw:=forms_ws hf
 unfold canon_Codes
 have hck:=check_ints m (by omega)
 rw [if_pos ⟨hl,hm⟩,if_pos hf] at hck
 have l16:lnO 16 (ints (fl m 16))=some (ints (fl m 16)):=by simp [lnO,ints_len,fl_len]
 have l0:lnO 16 (List.replicate 16 (0:Int))=some (List.replicate 16 (0:Int)):=by decide
 have hmk:mkO 8 ((ints m).length:Int) (0:Int)=some (ints (cd m 0)):=by
  simp only [mkO]
  rw [if_pos ⟨by omega,by rw [ints_len]; omega⟩,ints_len]
  congr 1
  apply List.ext_getElem
  ·simp [ints,cd]
  ·intro j h1 h2; simp [ints,cd]
 have hn0:nx m 0=fl m 16:=by
  apply List.ext_getElem
  ·simp [nx,fl]
  ·intro j h1 h2
   have hj:j<16:=by rw [nx_len] at h1; exact h1
   simp only [nx,fl,List.getElem_map,List.getElem_range,List.take_zero,List.count_nil,Nat.add_zero,hj,if_true]
   split
   ·rename_i h; subst h; rfl
   ·rfl
 refine bnd hck (cnd_f rfl (bnd (count_eq m hm (by omega)) (bnd (firsts_eq m (by omega) hw) (bnd l0 (bnd l16 (bnd hmk ?_))))))
 have key:∀ (k fuel i:Nat),m.length-i=k→i≤m.length→k<fuel →
   loopF (S:=((List Int)×(List Int)×Int)) (O:=((List Int))⊕((List Int)×Int)) (fun ((s39,s40,s41):(List Int)×(List Int)×Int) =>
    cond ((decide (s41<((ints m).length:Int))))
     (bindS (S:=(List Int)×(List Int)) (A:=(((List Int)×(List Int)×Int)⊕(((List Int))⊕((List Int)×Int))))
      ((ixO s41 (ints m).length).bind fun v9 =>
      (getO (ints m) v9).bind fun v10 =>
      cond ((decide (0<v10)))
       ((ixO v10 16).bind fun v12 =>
       (getO s39 v12).bind fun v13 =>
       (ixO s41 s40.length).bind fun v14 =>
       (some (s40.set v14 v13)).bind fun v15 =>
       (ixO v10 16).bind fun v16 =>
       (getO s39 v16).bind fun v17 =>
       (some (IntKind.i64.wrap (v17+1))).bind fun v18 =>
       (ixO v10 16).bind fun v19 =>
       (setO s39 v19 v18).bind fun v20 =>
       some (.inl (v20,v15)))
       (some (.inl (s39,s40))))
      (fun ((s59,s60):(List Int)×(List Int)) =>
       (some (IntKind.i64.wrap (s41+1))).bind fun v27 =>
       some (.inl (s59,s60,v27))) some)
     (some (.inr (.inl s40)))) fuel (ints (nx m i),ints (cd m i),(i:Int))=some (.inl (ints (cd m m.length))):=by
  intro k
  induction k with
  | zero =>
   intro fuel i hk hi hf
   obtain ⟨f,rfl⟩:∃ f,fuel=f+1:=⟨fuel-1,by omega⟩
   have:i=m.length:=by omega
   subst this
   exact loop_exit (cnd_f (by simp [ints_len]) rfl)
  | succ k ih =>
   intro fuel i hk hi hf
   obtain ⟨f,rfl⟩:∃ f,fuel=f+1:=⟨fuel-1,by omega⟩
   have hlt:i<m.length:=by omega
   have hlt':i<(ints m).length:=by rw [ints_len]; exact hlt
   have hw1:IntKind.i64.wrap ((i:Int)+1)=((i+1:Nat):Int):=by rw [wrap_i64 (by omega) (by omega)]; simp
   have hx:=hm m[i] (List.getElem_mem hlt)
   refine (loop_next (s':=(ints (nx m (i+1)),ints (cd m (i+1)),((i+1:Nat):Int))) (cnd_t (by simp; omega) (bndL (s:=(ints (nx m (i+1)),ints (cd m (i+1)))) (bnd (ixO_of hlt') (bnd (ints_get hlt) ?_)) (bnd (x:=((i+1:Nat):Int)) (by rw [hw1]) rfl)))).trans (ih f (i+1) (by omega) (by omega) (by omega))
   by_cases h0:0<m[i]
   ·have h16:m[i]<16:=by omega
    have hnl:m[i]<(nx m i).length:=by rw [nx_len]; exact h16
    have hng:(nx m i)[m[i]]=fst m m[i]+(m.take i).count m[i]:=by simp [nx]; omega
    have hcode:code m i=fst m m[i]+(m.take i).count m[i]:=by
     have:m.getD i 0=m[i]:=by simp [List.getD_eq_getElem?_getD,hlt]
     rw [code,this,if_neg (by omega)]
    have hc:(m.take i).count m[i]≤m.length:=Nat.le_trans List.count_le_length (by simp; omega)
    have hfs:=fst_small hw hx
    have w5:IntKind.i64.wrap (((fst m m[i]+(m.take i).count m[i]:Nat):Int)+1)=((fst m m[i]+(m.take i).count m[i]+1:Nat):Int):=by rw [wrap_i64 (by omega) (by omega)]; simp
    have hg:getO (ints (nx m i)) m[i]=some ((fst m m[i]+(m.take i).count m[i]:Nat):Int):=by rw [ints_get hnl,hng]
    have hcl:i<(ints (cd m i)).length:=by rw [ints_len,cd_len]; exact hlt
    have hset:=ints_set (nx m i) m[i] (fst m m[i]+(m.take i).count m[i]+1) hnl
    rw [nx_set m i hlt hx h0] at hset
    have hcs:(ints (cd m i)).set i (((fst m m[i]+(m.take i).count m[i]:Nat)):Int)=ints (cd m (i+1)):=by
     rw [← cd_set m i hlt,hcode,ints,ints,List.map_set]
    refine cnd_t (by simp; omega) (bnd (ixO_of h16) (bnd hg (bnd (ixO_of hcl) (bnd (x:=ints (cd m (i+1))) (by rw [hcs]) (bnd (ixO_of h16) (bnd hg (bnd (x:=((fst m m[i]+(m.take i).count m[i]+1:Nat):Int)) (by rw [w5]) (bnd (ixO_of h16) (bnd hset rfl)))))))))
   ·have hz:m[i]=0:=by omega
    refine cnd_f (by simp; omega) ?_
    rw [nx_zero m i hlt hz,cd_zero m i hlt hz]
 have hk:=key m.length BIG 0 (by omega) (Nat.zero_le _) (by unfold BIG; omega)
 rw [hn0] at hk
 have he:cd m m.length=codes m:=by
  apply List.ext_getElem
  ·simp [cd,codes]
  ·intro j h1 h2
   have:j<m.length:=by rw [cd_len] at h1; exact h1
   simp [cd,codes,this]
 rw [he] at hk
 exact bndL hk rfl
theorem getD_of {m:List Nat} {i:Nat} (h:i<m.length):m.getD i 0=m[i]:=by simp [List.getD_eq_getElem?_getD,h]
theorem code_of {m:List Nat} {i:Nat} (h:i<m.length) (h0:m[i]≠0):code m i=fst m m[i]+(m.take i).count m[i]:=by
 rw [code,getD_of h,if_neg h0]
theorem count_take_lt {m:List Nat} {i:Nat} (h:i<m.length):(m.take i).count m[i]+1≤m.count m[i]:=by
 have h1:m.count m[i]=(m.take i).count m[i]+(m.drop i).count m[i]:=by
  rw [← List.count_append,List.take_append_drop]
 have h2:m.drop i=m[i]::m.drop (i+1):=List.drop_eq_getElem_cons h
 rw [h1,h2,List.count_cons]
 simp
theorem code_lt {m:List Nat} (hw:ws m 15≤32768) (hm:∀ x∈m,x≤15) {i:Nat} (h:i<m.length) (h0:m[i]≠0):code m i+1≤2 ^ m[i]:=by
 have h1:=fst_le hw (n:=m[i]) (by omega) (hm _ (List.getElem_mem h))
 have h2:=count_take_lt h
 rw [code_of h h0]; omega
theorem code_same {m:List Nat} {i k:Nat} (hi:i<m.length) (hk:k<m.length) (h0:m[i]≠0) (he:m[i]=m[k]) (hlt:i<k):code m i<code m k:=by
 rw [code_of hi h0,code_of hk (by omega),← he]
 have h1:m.take k=m.take i++(m.drop i).take (k-i):=by
  rw [← List.take_add,Nat.add_sub_cancel' (by omega)]
 have h2:m.drop i=m[i]::m.drop (i+1):=List.drop_eq_getElem_cons hi
 have h3:(m.drop i).take (k-i)=m[i]::(m.drop (i+1)).take (k-i-1):=by
  rw [h2,show k-i=(k-i-1)+1 by omega]; rfl
 rw [h1,h3,List.count_append,List.count_cons]
 simp
theorem take_snoc {m:List Nat} {i:Nat} (h:i<m.length):m.take (i+1)=m.take i++[m[i]]:=by rw [List.take_add_one]; simp [h]
def turnS:((Int×Int×Int))→Option ((Int×Int×Int)⊕((Int)⊕(Int×Int))):=(fun ((s14,s15,s16):Int×Int×Int) =>
  cond ((decide (0<s14)))
   ((shlO .u32 s15 1).bind fun v5 =>
   (some (bits .and .u32 s16 1)).bind fun v6 =>
   (some (bits .or .u32 v5 v6)).bind fun v7 =>
   (shrO .u32 s16 1).bind fun v8 =>
   (some (IntKind.i64.wrap (s14-1))).bind fun v9 =>
   some (.inl (v9,v7,v8)))
   (some (.inr (.inl s15))))
def isB (l:List Int):Prop:=∀ n∈l,0≤n∧n<256
def bitC (l:List Int) (q:Nat):Bool:=(l.getD (q / 8) 0).toNat.testBit (q % 8)
structure Good (B:List Int) (N:Nat):Prop where
 len:B.length=(N+7) / 8
 bytes:isB B
 zero:∀ q,N≤q→bitC B q=false
theorem wrap_u32c {n:Int} (h0:0≤n) (h1:n<4294967296):IntKind.u32.wrap n=n:=by
 simp only [IntKind.wrap,IntKind.bits,IntKind.signed]
 have e:(2:Int) ^ 32=4294967296:=by decide
 simp only [e,Bool.false_and,Bool.false_eq_true,if_false]
 omega
theorem ofInt32 (a:Nat) (ha:a<4294967296):(BitVec.ofInt 32 (a:Int)).toNat=a:=by
 rw [BitVec.ofInt_natCast,BitVec.toNat_ofNat]; exact Nat.mod_eq_of_lt (by omega)
theorem and1_u32 (a:Nat) (ha:a<4294967296):bits .and .u32 (a:Int) 1=((a % 2:Nat):Int):=by
 show IntKind.u32.wrap ((BitVec.ofInt 32 (a:Int) &&& BitVec.ofInt 32 ((1:Nat):Int)).toNat:Int)=_
 rw [BitVec.toNat_and,ofInt32 a ha,ofInt32 1 (by omega),Nat.and_one_is_mod,wrap_u32c (by omega) (by omega)]
theorem or_u32 (c x:Nat) (hc:c<1000000000) (hx:x<2):bits .or .u32 ((2 * c:Nat):Int) (x:Int)=((2 * c+x:Nat):Int):=by
 have h:=Nat.shiftLeft_add_eq_or_of_lt (a:=c) (b:=x) (i:=1) (by omega)
 rw [Nat.shiftLeft_eq,Nat.pow_one,Nat.mul_comm] at h
 show IntKind.u32.wrap ((BitVec.ofInt 32 ((2 * c:Nat):Int) ||| BitVec.ofInt 32 (x:Int)).toNat:Int)=_
 rw [BitVec.toNat_or,ofInt32 _ (by omega),ofInt32 _ (by omega),← h,wrap_u32c (by omega) (by omega)]
theorem shl_u32 (a k:Nat) (hk:k≤32) (h:a * 2 ^ k<4294967296):shlO .u32 (a:Int) (k:Int)=some ((a * 2 ^ k:Nat):Int):=by
 simp only [shlO,IntKind.bits]
 rw [if_pos (by omega),Int.toNat_natCast,Nat.min_eq_left hk]
 have e:(a:Int) * 2 ^ k=((a * 2 ^ k:Nat):Int):=by push_cast; rfl
 rw [e]
 generalize a * 2 ^ k=y at *
 rw [wrap_u32c (by omega) (by omega)]
theorem or_u8 (a b:Nat) (ha:a<256) (hb:b<256):bits .or .u8 (a:Int) (b:Int)=((a ||| b:Nat):Int):=by
 have hx:a ||| b<2 ^ 8:=Nat.or_lt_two_pow (by omega) (by omega)
 show IntKind.u8.wrap ((BitVec.ofInt 8 (a:Int) ||| BitVec.ofInt 8 (b:Int)).toNat:Int)=_
 rw [BitVec.toNat_or,ofInt8 a ha,ofInt8 b hb,wrap_u8']; omega
theorem fits_eq (v n:Nat) (hn:n≤24) (hv:v<2 ^ n):bits_fits (v:Int) (n:Int)=some true:=by
 have hp:2 ^ n≤2 ^ 24:=Nat.pow_le_pow_right (by omega) hn
 have e:(2:Nat) ^ 24=16777216:=by decide
 have sh:=shl_nat 1 n (by omega) (by omega)
 rw [Nat.one_mul] at sh
 unfold bits_fits
 refine bndL (s:=true) (cnd_t (by simp) (cnd_t (by simp; omega) (cnd_t (by simp) (bnd sh ?_)))) rfl
 rw [decide_eq_true (by omega)]
theorem turn_loop (v n:Nat) (hn:n≤24) (hv:v<2 ^ n):∀ (k fuel t r:Nat),n-t=k→t≤n→k<fuel→r<2 ^ t→(∀ i,i<t→r.testBit i=v.testBit (t-1-i)) →
  ∃ r':Nat,loopF turnS fuel (((n-t:Nat):Int),(r:Int),((v / 2 ^ t:Nat):Int))=some (.inl (r':Int))∧r'<2 ^ n∧∀ i,i<n→r'.testBit i=v.testBit (n-1-i):=by
 have hp:2 ^ n≤2 ^ 24:=Nat.pow_le_pow_right (by omega) hn
 have e24:(2:Nat) ^ 24=16777216:=by decide
 intro k
 induction k with
 | zero =>
  intro fuel t r hk ht hf hr hb
  obtain ⟨f,rfl⟩:∃ f,fuel=f+1:=⟨fuel-1,by omega⟩
  have:t=n:=by omega
  subst this
  refine ⟨r,loop_exit ?_,hr,hb⟩
  unfold turnS
  exact cnd_f (by simp) rfl
 | succ k ih =>
  intro fuel t r hk ht hf hr hb
  obtain ⟨f,rfl⟩:∃ f,fuel=f+1:=⟨fuel-1,by omega⟩
  have hp2:2 ^ t≤2 ^ 24:=Nat.pow_le_pow_right (by omega) (by omega)
  have hvt:v / 2 ^ t<4294967296:=Nat.lt_of_le_of_lt (Nat.div_le_self _ _) (by omega)
  have sh:=shl_u32 r 1 (by omega) (by omega)
  rw [Nat.pow_one,Nat.mul_comm,show ((1:Nat):Int)=1 from rfl] at sh
  have hy:v / 2 ^ t % 2<2:=Nat.mod_lt _ (by omega)
  have hor:=or_u32 r (v / 2 ^ t % 2) (by omega) hy
  have hsr:=shr_nat .u32 (v / 2 ^ t) 1 (by decide)
  rw [Nat.pow_one,Nat.div_div_eq_div_mul,← Nat.pow_succ,show ((1:Nat):Int)=1 from rfl] at hsr
  have w:IntKind.i64.wrap (((n-t:Nat):Int)-1)=((n-(t+1):Nat):Int):=by rw [wrap_i64 (by omega) (by omega)]; omega
  have hand:=and1_u32 _ hvt
  have hbit:∀ i,i<t+1→(2 * r+v / 2 ^ t % 2).testBit i=v.testBit (t+1-1-i):=by
   intro i hi
   have h1:2 * r+v / 2 ^ t % 2=2 ^ 1 * r+v / 2 ^ t % 2:=by rw [Nat.pow_one]
   rw [h1,Nat.testBit_two_pow_mul_add _ (by omega)]
   by_cases h0:i<1
   ·have:i=0:=by omega
    subst this
    rw [if_pos h0,Nat.testBit_eq_decide_div_mod_eq (x:=v)]
    simp [Nat.testBit_zero]
   ·rw [if_neg h0,hb (i-1) (by omega)]
    congr 1; omega
  have hr2:2 * r+v / 2 ^ t % 2<2 ^ (t+1):=by rw [Nat.pow_succ]; omega
  obtain ⟨r',h1,h2,h3⟩:=ih f (t+1) (2 * r+v / 2 ^ t % 2) (by omega) (by omega) (by omega) hr2 hbit
  refine ⟨r',(loop_next ?_).trans h1,h2,h3⟩
  unfold turnS
  exact cnd_t (by simp; omega) (bnd sh (bnd (x:=((v / 2 ^ t % 2:Nat):Int)) (by rw [hand]) (bnd (x:=((2 * r+v / 2 ^ t % 2:Nat):Int)) (by rw [hor]) (bnd hsr (bnd (x:=((n-(t+1):Nat):Int)) (by rw [w]) rfl)))))
theorem turn_eq (v n:Nat) (hn:n≤24) (hv:v<2 ^ n):∃ r:Nat,bits_Turn (v:Int) (n:Int)=some ((r:Int),0)∧r<2 ^ n∧∀ i,i<n→r.testBit i=v.testBit (n-1-i):=by
 have hp:2 ^ n≤2 ^ 24:=Nat.pow_le_pow_right (by omega) hn
 have e24:(2:Nat) ^ 24=16777216:=by decide
 obtain ⟨r,h1,h2,h3⟩:=turn_loop v n hn hv n BIG 0 0 (by omega) (Nat.zero_le _) (by unfold BIG; omega) (by simp) (by omega)
 rw [Nat.sub_zero,Nat.pow_zero,Nat.div_one] at h1
 refine ⟨r,?_,h2,h3⟩
 unfold bits_Turn
 have w1:IntKind.u32.wrap (v:Int)=(v:Int):=wrap_u32c (by omega) (by omega)
 have w2:IntKind.i64.wrap (r:Int)=(r:Int):=wrap_i64 (by omega) (by omega)
 exact bnd (fits_eq v n hn hv) (cnd_f rfl (bnd (x:=(v:Int)) (by rw [w1]) (bndL h1 (bnd (x:=(r:Int)) (by rw [w2]) rfl))))
theorem bitC_set (s:List Int) (j q:Nat) (x:Int) (hj:j<s.length):bitC (s.set j x) q=if q / 8=j then x.toNat.testBit (q % 8) else bitC s q:=by
 simp only [bitC,List.getD_eq_getElem?_getD,List.getElem?_set]
 by_cases h:j=q / 8
 ·subst h; simp [hj]
 ·rw [if_neg h,if_neg (fun e=>h e.symm)]
theorem code_pre {m:List Nat} (hm:∀ x∈m,x≤15) {j:Nat} (hj:j<m.length) (h0:m[j]≠0) {n:Nat} (h1:1≤n) (hn:n<m[j]):fst m n+m.count n≤code m j / 2 ^ (m[j]-n):=by
 have xj:=hm _ (List.getElem_mem hj)
 have a1:=ws_step m h1 (show n≤15 by omega)
 have a2:=fst_step m (n:=m[j]) (by omega) xj
 have a3:=ws_mono m (a:=n) (b:=m[j]-1) (by omega)
 have e2:2 ^ (15-n)=2 ^ (m[j]-n) * 2 ^ (15-m[j]):=by rw [← Nat.pow_add]; congr 1; omega
 rw [e2,← Nat.mul_assoc] at a1
 have h3:(fst m n+m.count n) * 2 ^ (m[j]-n)≤fst m m[j]:=by
  refine Nat.le_of_mul_le_mul_right ?_ (Nat.pow_pos (show 0<2 by omega) (n:=15-m[j]))
  omega
 refine (Nat.le_div_iff_mul_le (Nat.pow_pos (by omega))).2 ?_
 rw [code_of hj h0]
 omega
theorem shr_u32n (a k:Nat) (hk:k≤32):shrO .u32 (a:Int) (k:Int)=some ((a / 2 ^ k:Nat):Int):=shr_nat .u32 a k hk
theorem wrapS {n:Nat} (h:n<4611686018427387904):IntKind.i64.wrap ((n:Int)+1)=((n+1:Nat):Int):=by rw [wrap_i64 (by omega) (by omega)]; omega
theorem wrapN (n:Nat) (h:n<4611686018427387904):IntKind.i64.wrap (n:Int)=(n:Int):=wrap_i64 (by omega) (by omega)
def Sp:List (Nat×Nat)→Nat→List Int→Prop
 | [],_,_=>True
 | p::ps,N,B=>(∀ t,t<p.2→bitC B (N+t)=p.1.testBit t)∧Sp ps (N+p.2) B
def wid (ps:List (Nat×Nat)):Nat:=(ps.map (·.2)).sum
/-! How far two places of a text are alike. -/
def pre:List Int→List Int→Nat
 | x::xs,y::ys=>if x=y then pre xs ys+1 else 0
 | _,_=>0
theorem pre_le:∀ a c:List Int,pre a c≤a.length∧pre a c≤c.length
 | [],_=>by simp [pre]
 | _::_,[]=>by simp [pre]
 | x::xs,y::ys=>by
  have:=pre_le xs ys
  unfold pre
  split <;> simp <;> omega
theorem pre_get:∀ (a c:List Int) (k:Nat),k<pre a c→a[k]? = c[k]?
 | [],_,k,h=>by simp [pre] at h
 | _::_,[],k,h=>by simp [pre] at h
 | x::xs,y::ys,k,h=>by
  unfold pre at h
  split at h
  ·rename_i e
   subst e
   cases k with
   | zero=>rfl
   | succ k=>simpa using pre_get xs ys k (by omega)
  ·omega
theorem pre_ge:∀ (a c:List Int) (k:Nat),k≤a.length→k≤c.length→(∀ j,j<k→a[j]? = c[j]?)→k≤pre a c
 | [],_,k,h,_,_=>by simp at h; omega
 | _::_,[],k,_,h,_=>by simp at h; omega
 | x::xs,y::ys,k,h1,h2,h=>by
  cases k with
  | zero=>omega
  | succ k =>
   have h0:=h 0 (by omega)
   simp only [List.getElem?_cons_zero,Option.some.injEq] at h0
   have:=pre_ge xs ys k (by simpa using h1) (by simpa using h2) fun j hj=>by simpa using h (j+1) (by omega)
   unfold pre
   rw [if_pos h0]
   omega
theorem pre_stop:∀ (a c:List Int),pre a c<a.length→pre a c<c.length→a[pre a c]? ≠ c[pre a c]?
 | [],_,h,_=>by simp at h
 | _::_,[],_,h=>by simp at h
 | x::xs,y::ys,h1,h2=>by
  unfold pre at h1 h2 ⊢
  split
  ·rename_i e
   rw [if_pos e] at h1 h2
   simpa using pre_stop xs ys (by simpa using h1) (by simpa using h2)
  ·rename_i e
   simpa using e
def cmL (b:List Int) (p at_:Nat):Nat:=min 258 (pre (b.drop p) (b.drop at_))
theorem cm_le (b:List Int) {p at_:Nat}:cmL b p at_≤258∧cmL b p at_≤b.length-at_:=by
 have:=(pre_le (b.drop p) (b.drop at_)).2
 rw [List.length_drop] at this
 unfold cmL
 omega
theorem cm_get {b:List Int} {p at_ k:Nat} (h:k<cmL b p at_):b[p+k]? = b[at_+k]? := by
 have:=pre_get (b.drop p) (b.drop at_) k (by unfold cmL at h; omega)
 simpa using this
theorem cm_ge {b:List Int} {p at_ k:Nat} (h:k≤258) (hp:p≤at_) (hk:at_+k≤b.length) (hj:∀ j,j<k→b[p+j]? = b[at_+j]?):k≤cmL b p at_:=by
 have:=pre_ge (b.drop p) (b.drop at_) k (by rw [List.length_drop]; omega) (by rw [List.length_drop]; omega) fun j hj2=>by simpa using hj j hj2
 unfold cmL
 omega
theorem cm_stop {b:List Int} {p at_:Nat} (hp:p≤at_) (h:cmL b p at_<258) (h2:at_+cmL b p at_<b.length):b[p+cmL b p at_]? ≠ b[at_+cmL b p at_]? := by
 have hl:=(pre_le (b.drop p) (b.drop at_)).1
 have e:cmL b p at_=pre (b.drop p) (b.drop at_):=by unfold cmL at h ⊢; omega
 rw [e] at h2 ⊢
 have:=pre_stop (b.drop p) (b.drop at_) (by rw [List.length_drop]; omega) (by rw [List.length_drop]; omega)
 simpa using this
def key (b:List Int) (p:Nat):List Int:=(b.drop p).take 3
theorem key_len (b:List Int) (p:Nat):(key b p).length=min 3 (b.length-p):=by unfold key; simp
theorem key_get (b:List Int) (p j:Nat) (h:j<3):(key b p)[j]? = b[p+j]? := by
 unfold key
 rw [List.getElem?_take,if_pos h,List.getElem?_drop]
theorem cm_key {b:List Int} {p at_:Nat} (hp:p≤at_) (h3:at_+3≤b.length):key b p=key b at_↔3≤cmL b p at_:=by
 constructor
 ·intro h
  refine cm_ge (by omega) hp h3 fun j hj => ?_
  rw [← key_get b p j hj,← key_get b at_ j hj,h]
 ·intro h
  apply List.ext_getElem?
  intro j
  by_cases hj:j<3
  ·rw [key_get b p j hj,key_get b at_ j hj]
   exact cm_get (by omega)
  ·rw [List.getElem?_eq_none (by rw [key_len]; omega),List.getElem?_eq_none (by rw [key_len]; omega)]
/-! The best piece. -/
def upd1 (s:Nat×Nat) (o m:Nat):Nat×Nat:=if s.1<m then (m,o) else s
def bestN (b:List Int) (at_:Nat):Nat→Nat×Nat
 | 0=>(0,0)
 | k+1=>upd1 (bestN b at_ k) (k+1) (cmL b (at_-(k+1)) at_)
def clp (s:Nat×Nat):Nat×Nat:=if s.1<3 then (0,0) else s
def bestS (b:List Int) (at_:Nat):Nat×Nat:=clp (bestN b at_ (min at_ 2048))
theorem bestN_le (b:List Int) (at_:Nat):∀ k,(bestN b at_ k).1≤258∧(bestN b at_ k).1≤b.length-at_∧(bestN b at_ k).2≤k
 | 0=>by simp [bestN]
 | k+1=>by
  have h:=bestN_le b at_ k
  have h2:=cm_le b (p:=at_-(k+1)) (at_:=at_)
  unfold bestN upd1
  split
  ·exact ⟨h2.1,h2.2,Nat.le_refl _⟩
  ·exact ⟨h.1,h.2.1,by omega⟩
theorem bestN_ge (b:List Int) (at_:Nat):∀ k o,1≤o→o≤k→cmL b (at_-o) at_≤(bestN b at_ k).1
 | 0,o,h1,h2=>by omega
 | k+1,o,h1,h2=>by
  unfold bestN upd1
  by_cases e:o=k+1
  ·subst e
   split
   ·exact Nat.le_refl _
   ·omega
  ·have:=bestN_ge b at_ k o h1 (by omega)
   split
   ·show _≤cmL b (at_-(k+1)) at_
    omega
   ·exact this
theorem bestN_is (b:List Int) (at_:Nat):∀ k,(bestN b at_ k=(0,0))∨(1≤(bestN b at_ k).2∧(bestN b at_ k).1=cmL b (at_-(bestN b at_ k).2) at_∧∀ o,1≤o→o<(bestN b at_ k).2→cmL b (at_-o) at_<(bestN b at_ k).1)
 | 0 => .inl rfl
 | k+1=>by
  have h:=bestN_is b at_ k
  have hg:=bestN_ge b at_ k
  unfold bestN upd1
  split
  ·rename_i hlt
   refine .inr ⟨by simp,rfl,fun o h1 h2 => ?_⟩
   have:=hg o h1 (by simp at h2; omega)
   simp only
   omega
  ·exact h
theorem clp_low {s:Nat×Nat} {o m:Nat} (h:m<3):clp (upd1 s o m)=clp s:=by
 unfold clp upd1
 by_cases h1:s.1<m
 ·rw [if_pos h1,if_pos h,if_pos (by omega)]
 ·rw [if_neg h1]
theorem clp_high {s:Nat×Nat} {o m:Nat} (h:3≤m):clp (upd1 s o m)=if (clp s).1<m then (m,o) else clp s:=by
 unfold clp upd1
 by_cases h1:s.1<m
 ·rw [if_pos h1,if_neg (by omega)]
  by_cases h3:s.1<3
  ·rw [if_pos h3,if_pos (by show 0<m; omega)]
  ·rw [if_neg h3,if_pos h1]
 ·rw [if_neg h1,if_neg (by omega),if_neg (by omega)]
theorem best_skip {b:List Int} {at_:Nat}:∀ (d k:Nat),(∀ o,k<o→o≤k+d→cmL b (at_-o) at_<3)→clp (bestN b at_ (k+d))=clp (bestN b at_ k)
 | 0,k,_=>rfl
 | d+1,k,h=>by
  show clp (upd1 (bestN b at_ (k+d)) (k+d+1) (cmL b (at_-(k+d+1)) at_))=_
  rw [clp_low (h (k+d+1) (by omega) (by omega))]
  exact best_skip d k fun o h1 h2=>h o h1 (by omega)
theorem best_full {b:List Int} {at_:Nat}:∀ (d k:Nat),(bestN b at_ k).1=258→bestN b at_ (k+d)=bestN b at_ k
 | 0,k,_=>rfl
 | d+1,k,h=>by
  have e:=best_full d k h
  show upd1 (bestN b at_ (k+d)) (k+d+1) (cmL b (at_-(k+d+1)) at_)=_
  unfold upd1
  have:=(cm_le b (p:=at_-(k+d+1)) (at_:=at_)).1
  rw [e,if_neg (by omega)]
def cmS (x:T_match_index) (p at_ v2:Int):((Int))→Option ((Int)⊕((Int)⊕(Int×T_match_index))):=(fun (s21:Int) =>
 bindS (S:=Bool) (A:=((Int)⊕((Int)⊕(Int×T_match_index))))
  (cond ((decide (s21<v2)))
   ((some (IntKind.i64.wrap (p+s21))).bind fun v3 =>
   (ixO v3 x.b.length).bind fun v4 =>
   (getO x.b v4).bind fun v5 =>
   (some (IntKind.i64.wrap (at_+s21))).bind fun v6 =>
   (ixO v6 x.b.length).bind fun v7 =>
   (getO x.b v7).bind fun v8 =>
   some (.inl (v5==v8)))
   (some (.inl false)))
  (fun (s34:Bool) =>
   cond (s34)
    ((some (IntKind.i64.wrap (s21+1))).bind fun v14 =>
    some (.inl v14))
    (some (.inr (.inl s21)))) some)
/-! What is known of the places gone by. -/
def prv (b:List Int) (f:Nat) (k:List Int):Nat→Nat
 | 0=>0
 | p+1=>if f≤p∧key b p=k then p+1 else prv b f k p
theorem prv_le (b:List Int) (f:Nat) (k:List Int):∀ p,prv b f k p≤p
 | 0=>Nat.le_refl _
 | p+1=>by
  have:=prv_le b f k p
  unfold prv
  split <;> omega
theorem prv_is (b:List Int) (f:Nat) (k:List Int):∀ p q,prv b f k p=q+1→f≤q∧q<p∧key b q=k
 | 0,q,h=>by simp [prv] at h
 | p+1,q,h=>by
  unfold prv at h
  split at h
  ·rename_i hc
   obtain rfl:p=q:=by omega
   exact ⟨hc.1,by omega,hc.2⟩
  ·obtain ⟨h1,h2,h3⟩:=prv_is b f k p q h
   exact ⟨h1,by omega,h3⟩
theorem prv_no (b:List Int) (f:Nat) (k:List Int):∀ p q,prv b f k p≤q→q<p→f≤q→key b q≠k
 | 0,q,_,h,_=>by omega
 | p+1,q,h1,h2,h3=>by
  unfold prv at h1
  split at h1
  ·omega
  ·rename_i hc
   by_cases e:q=p
   ·subst e
    exact fun hk=>hc ⟨h3,hk⟩
   ·exact prv_no b f k p q h1 (by omega) h3
theorem prv_skip {b:List Int} {f p:Nat} {k:List Int} (h:key b p≠k):prv b f k (p+1)=prv b f k p:=by
 conv=>lhs; unfold prv
 rw [if_neg fun hc=>h hc.2]
theorem prv_hit {b:List Int} {f p:Nat} (h:f≤p):prv b f (key b p) (p+1)=p+1:=by
 unfold prv
 rw [if_pos ⟨h,rfl⟩]
structure Ixd (b:List Int) (f cur:Nat) (x:T_match_index):Prop where
 hb:x.b=b
 hf:x.from_=(f:Int)
 la:∀ k:List Int,k.length=3→(x.last.lookup k).getD 0=((prv b f k cur:Nat):Int)
 bk:∀ p,f≤p→p<cur→p+3≤b.length→x.back[p-f]? = some ((prv b f (key b p) p:Nat):Int)
 bl:x.back.length=min cur (b.length-2)-f
 ll:x.last.length≤cur
theorem ln_of {A:Type} {n:Nat} {l:List A} (h:l.length=n):lnO n l=some l:=by unfold lnO; rw [if_pos h]
theorem prv_f (b:List Int) (f:Nat) (k:List Int):prv b f k f=0:=by
 cases h:prv b f k f with
 | zero=>rfl
 | succ q=>have:=prv_is b f k f q h; omega
theorem ix_new (b:List Int) (f:Nat):Ixd b f f (T_match_index.mk b [] [] (f:Int)) :=
 ⟨rfl,rfl,fun k _=>by rw [prv_f]; rfl,fun p h1 h2=>by omega,by simp; omega,Nat.zero_le _⟩
theorem key_byB {b:List Int} (hb:∀ n∈b,0≤n∧n<256) (p:Nat):byB (key b p)=true:=by
 unfold byB
 rw [List.all_eq_true]
 intro x hx
 have:=hb x (List.mem_of_mem_drop (List.mem_of_mem_take hx))
 simpa using this
theorem start_eq {b:List Int} {f cur at_:Nat} {x:T_match_index} (h:Ixd b f cur x) (hl:b.length≤5000) (ha:at_≤b.length) :
  match_index_startAt x (at_:Int)=some (if b.length<at_+3 then ([0,0,0],false,x) else (key b at_,true,x)):=by
 unfold match_index_startAt
 have hw:IntKind.i64.wrap ((at_:Int)+3)=((at_+3:Nat):Int):=by rw [wrap_i64 (by omega) (by omega)]; simp
 rw [h.hb]
 refine bnd (congrArg some hw) ?_
 by_cases hc:b.length<at_+3
 ·rw [if_pos hc]
  exact cnd_t (decide_eq_true (by omega)) (bnd (ln_of rfl) (bnd (ln_of rfl) (bnd (ln_of rfl) rfl)))
 ·rw [if_neg hc]
  have hk3:(key b at_).length=3:=by rw [key_len]; omega
  have hs:=sli_nat b (a:=at_) (b:=at_+3) (by omega) (by omega)
  have e:(b.drop at_).take (at_+3-at_)=key b at_:=by unfold key; rw [Nat.add_sub_cancel_left]
  rw [e] at hs
  have har:arrO 3 (key b at_)=some (key b at_):=by
   unfold arrO
   rw [if_pos (by omega),List.take_of_length_le (by omega)]
  exact cnd_f (decide_eq_false (by omega)) (bnd (congrArg some hw) (bnd hs (bnd har (bnd (ln_of rfl) (bnd (ln_of hk3) (bnd (ln_of hk3) rfl))))))
theorem getO_q {A:Type} {l:List A} {i:Nat} (h:i<l.length):∃ v,getO l i=some v∧l[i]? = some v:=⟨l[i],getO_of h,List.getElem?_eq_getElem h⟩
theorem common_eq {b:List Int} {p at_:Nat} {x:T_match_index} (hxb:x.b=b) (hl:b.length≤5000) (hp:p<at_) (h3:at_+3≤b.length) (hk:key b p=key b at_) :
  match_index_common x (p:Int) (at_:Int)=some (((cmL b p at_:Nat):Int),x):=by
 have hm:=(cm_key (by omega) h3).1 hk
 have hle:=cm_le b (p:=p) (at_:=at_)
 unfold match_index_common
 rw [hxb]
 have hw:IntKind.i64.wrap ((b.length:Int)-(at_:Int))=((b.length-at_:Nat):Int):=by rw [wrap_i64 (by omega) (by omega)]; omega
 have hv2:(if ((b.length-at_:Nat):Int)<258 then ((b.length-at_:Nat):Int) else 258)=((min 258 (b.length-at_):Nat):Int):=by
  by_cases h:b.length-at_<258
  ·rw [if_pos (by omega)]; omega
  ·rw [if_neg (by omega)]; omega
 refine bnd (congrArg some hw) (bnd (congrArg some hv2) (bndL (s:=((cmL b p at_:Nat):Int)) ?_ rfl))
 have hgo:∀ i:Nat,i<min 258 (b.length-at_)→∃ u v:Int,b[p+i]? = some u∧b[at_+i]? = some v∧((cond ((decide ((i:Int)<((min 258 (b.length-at_):Nat):Int))))
     ((some (IntKind.i64.wrap ((p:Int)+(i:Int)))).bind fun v3 =>
     (ixO v3 b.length).bind fun v4 =>
     (getO b v4).bind fun v5 =>
     (some (IntKind.i64.wrap ((at_:Int)+(i:Int)))).bind fun v6 =>
     (ixO v6 b.length).bind fun v7 =>
     (getO b v7).bind fun v8 =>
     some (.inl (v5==v8)))
     (some (.inl false)):Option (Bool⊕(Int⊕(Int⊕(Int×T_match_index)))))=some (.inl (u==v))):=by
  intro i hi
  obtain ⟨u,hu,hu2⟩:=getO_q (l:=b) (i:=p+i) (by omega)
  obtain ⟨v,hv,hv2⟩:=getO_q (l:=b) (i:=at_+i) (by omega)
  refine ⟨u,v,hu2,hv2,cnd_t (decide_eq_true (by omega)) (bnd (x:=((p+i:Nat):Int)) (by rw [wrap_i64 (by omega) (by omega)]; simp) (bnd (ixO_of (by omega)) (bnd hu (bnd (x:=((at_+i:Nat):Int)) (by rw [wrap_i64 (by omega) (by omega)]; simp) (bnd (ixO_of (by omega)) (bnd hv rfl))))))⟩
 rw [show (3:Int)=((3:Nat):Int) from rfl]
 have hlp:=loop_from (f:=cmS { x with b:=b } (p:Int) (at_:Int) ((min 258 (b.length-at_):Nat):Int)) (s:=((3:Nat):Int)) (o := .inl ((cmL b p at_:Nat):Int)) (fun i=>((3+i:Nat):Int)) (cmL b p at_-3) BIG rfl (by simp only [BIG]; omega) (fun i hi=>by
   obtain ⟨u,v,hu,hv,he⟩:=hgo (3+i) (by omega)
   have:=cm_get (b:=b) (p:=p) (at_:=at_) (k:=3+i) (by omega)
   rw [hu,hv] at this
   obtain rfl:=Option.some.inj this
   rw [beq_self_eq_true] at he
   exact bndL he (cnd_t rfl (bnd (congrArg some (wrap_succ (n:=3+i) (by omega))) rfl)))
  (by
   have e3:3+(cmL b p at_-3)=cmL b p at_:=by omega
   rw [e3]
   by_cases hend:cmL b p at_<min 258 (b.length-at_)
   ·obtain ⟨u,v,hu,hv,he⟩:=hgo (cmL b p at_) hend
    have:=cm_stop (b:=b) (p:=p) (at_:=at_) (by omega) (by omega) (by omega)
    rw [hu,hv] at this
    have hne:(u==v)=false:=beq_eq_false_iff_ne.2 fun h=>this (by rw [h])
    rw [hne] at he
    exact bndL he (cnd_f rfl rfl)
   ·exact bndL (s:=false) (cnd_f (decide_eq_false (by omega)) rfl) (cnd_f rfl rfl))
 exact hlp
theorem add_eq {b:List Int} {f cur:Nat} {x:T_match_index} (h:Ixd b f cur x) (hb:∀ n∈b,0≤n∧n<256) (hl:b.length≤5000) (hc:cur<b.length) (hfc:f≤cur):∃ y,match_index_add x (cur:Int)=some y∧Ixd b f (cur+1) y:=by
 have hs:=start_eq h hl (Nat.le_of_lt hc)
 unfold match_index_add
 by_cases h3:b.length<cur+3
 ·rw [if_pos h3] at hs
  refine ⟨x,bnd hs (bnd (ln_of rfl) (bnd (ln_of rfl) (cnd_t rfl rfl))),h.hb,h.hf,fun k hk => ?_,fun p h1 h2 h4 => ?_,?_,Nat.le_succ_of_le h.ll⟩
  ·rw [prv_skip (fun e=>by have:=congrArg List.length e; rw [key_len] at this; omega)]
   exact h.la k hk
  ·exact h.bk p h1 (by omega) h4
  ·rw [h.bl]; omega
 ·rw [if_neg h3] at hs
  have hk3:(key b cur).length=3:=by rw [key_len]; omega
  have hla:=h.la _ hk3
  have hbl:x.back.length=cur-f:=by rw [h.bl]; omega
  have hg:mgetO 3 x.last (key b cur)=some ((prv b f (key b cur) cur:Nat):Int):=by
   unfold mgetO
   rw [if_pos ⟨hk3,key_byB hb cur⟩,hla]
  have hap:appO 8 x.back [((prv b f (key b cur) cur:Nat):Int)]=some (x.back++[((prv b f (key b cur) cur:Nat):Int)]):=app_of (by simp only [List.length_cons,List.length_nil]; omega) (by simp only [List.length_cons,List.length_nil]; omega)
  have hll:=h.ll
  have hp:mputO 3 x.last (key b cur) ((cur+1:Nat):Int)=some ((key b cur,((cur+1:Nat):Int))::x.last):=by
   unfold mputO
   rw [if_pos ⟨⟨hk3,key_byB hb cur⟩,by omega,by omega,by omega⟩]
  refine ⟨T_match_index.mk x.b ((key b cur,((cur+1:Nat):Int))::x.last) (x.back++[((prv b f (key b cur) cur:Nat):Int)]) x.from_,bnd hs (bnd (ln_of rfl) (bnd (ln_of hk3) (cnd_f rfl (bnd (ln_of hk3) (bnd hg (bnd hap (bnd (ln_of hk3) (bnd (congrArg some (wrap_succ (n:=cur) (by omega))) (bnd hp rfl))))))))),h.hb,h.hf,fun k hk => ?_,fun p h1 h2 h4 => ?_,?_,?_⟩
  ·show (((key b cur,((cur+1:Nat):Int))::x.last).lookup k).getD 0=_
   rw [List.lookup_cons]
   by_cases e:k=key b cur
   ·subst e
    rw [beq_self_eq_true,prv_hit hfc]
    rfl
   ·have:(k==key b cur)=false:=beq_eq_false_iff_ne.2 e
    rw [this,prv_skip (fun h=>e h.symm)]
    exact h.la k hk
  ·show (x.back++[((prv b f (key b cur) cur:Nat):Int)])[p-f]? = _
   by_cases e:p=cur
   ·subst e
    rw [List.getElem?_append_right (by omega),hbl]
    simp
   ·rw [List.getElem?_append_left (by omega)]
    exact h.bk p h1 (by omega) h4
  ·show (x.back++[_]).length=_
   rw [List.length_append,hbl,List.length_cons,List.length_nil]; omega
  ·show x.last.length+1≤cur+1
   omega
def beS (at_:Int):(((List Int)×(List ((List Int)×Int))×(List Int)×Int×Int×Int×Int))→Option (((List Int)×(List ((List Int)×Int))×(List Int)×Int×Int×Int×Int)⊕(((List Int)×(List ((List Int)×Int))×(List Int)×Int×Int×Int)⊕(((List Int)×(List ((List Int)×Int))×(List Int)×Int×Int×Int)⊕(Int×Int×T_match_index)))):=(fun ((s159,s160,s161,s162,s163,s164,s165):(List Int)×(List ((List Int)×Int))×(List Int)×Int×Int×Int×Int) =>
   bindS (S:=Bool) (A:=(((List Int)×(List ((List Int)×Int))×(List Int)×Int×Int×Int×Int)⊕(((List Int)×(List ((List Int)×Int))×(List Int)×Int×Int×Int)⊕(((List Int)×(List ((List Int)×Int))×(List Int)×Int×Int×Int)⊕(Int×Int×T_match_index)))))
    (cond ((decide (s162≤s165)))
     ((some (IntKind.i64.wrap (at_-s165))).bind fun v8 =>
     some (.inl ((decide (v8≤2048)))))
     (some (.inl false)))
    (fun (s195:Bool) =>
     cond (s195)
      (bindS (S:=Int×Int×(List Int)×(List ((List Int)×Int))×(List Int)×Int) (A:=(((List Int)×(List ((List Int)×Int))×(List Int)×Int×Int×Int×Int)⊕(((List Int)×(List ((List Int)×Int))×(List Int)×Int×Int×Int)⊕(((List Int)×(List ((List Int)×Int))×(List Int)×Int×Int×Int)⊕(Int×Int×T_match_index)))))
       ((match_index_common (T_match_index.mk s159 s160 s161 s162) s165 at_).bind fun v14 =>
       cond ((decide (s163<v14.1)))
        ((some (IntKind.i64.wrap (at_-s165))).bind fun v16 =>
        some (.inl (v14.1,v16,v14.2.b,v14.2.last,v14.2.back,v14.2.from_)))
        (some (.inl (s163,s164,v14.2.b,v14.2.last,v14.2.back,v14.2.from_))))
       (fun ((s201,s202,s203,s204,s205,s206):Int×Int×(List Int)×(List ((List Int)×Int))×(List Int)×Int) =>
        cond ((s201==258))
         (some (.inr (.inl (s203,s204,s205,s206,s201,s202))))
         ((some (IntKind.i64.wrap (s165-s206))).bind fun v28 =>
         (ixO v28 s205.length).bind fun v29 =>
         (getO s205 v29).bind fun v30 =>
         (some (IntKind.i64.wrap (v30-1))).bind fun v31 =>
         some (.inl (s203,s204,s205,s206,s201,s202,v31)))) some)
      (some (.inr (.inl (s159,s160,s161,s162,s163,s164))))) some)
theorem best_loop {b:List Int} {f at_:Nat} {x:T_match_index} (h:Ixd b f at_ x) (hl:b.length≤5000) (h3:at_+3≤b.length) (hf:f≤at_-min at_ 2048) :
  ∀ (q fuel:Nat),q≤at_→at_-q≤min at_ 2048→q<fuel→(clp (bestN b at_ (at_-q))).1<258 →
   loopF (beS (at_:Int)) fuel (b,x.last,x.back,(f:Int),(((clp (bestN b at_ (at_-q))).1:Nat):Int),(((clp (bestN b at_ (at_-q))).2:Nat):Int),((prv b f (key b at_) q:Nat):Int)-1) =
    some (.inl (b,x.last,x.back,(f:Int),(((bestS b at_).1:Nat):Int),(((bestS b at_).2:Nat):Int))):=by
 intro q
 induction q using Nat.strongRecOn with
 | _ q ih =>
 intro fuel hq hq2 hfu h258
 obtain ⟨fu,rfl⟩:∃ fu,fuel=fu+1:=⟨fuel-1,by omega⟩
 obtain ⟨s,hs⟩:∃ s,s=clp (bestN b at_ (at_-q)):=⟨_,rfl⟩
 have hnear:∀ o,at_-q<o→o≤min at_ 2048→prv b f (key b at_) q≤at_-o→cmL b (at_-o) at_<3:=by
  intro o h1 h2 h4
  have hno:=prv_no b f (key b at_) q (at_-o) h4 (by omega) (by omega)
  apply Classical.byContradiction
  intro hc
  exact hno ((cm_key (by omega) h3).2 (by omega))
 have hend:(∀ o,at_-q<o→o≤min at_ 2048→prv b f (key b at_) q≤at_-o)→s=bestS b at_:=by
  intro hall
  have:=best_skip (b:=b) (at_:=at_) (min at_ 2048-(at_-q)) (at_-q) fun o h1 h2=>hnear o h1 (by omega) (hall o h1 (by omega))
  rw [show at_-q+(min at_ 2048-(at_-q))=min at_ 2048 by omega] at this
  unfold bestS
  rw [this,hs]
 rw [← hs] at h258 ⊢
 cases hc:prv b f (key b at_) q with
 | zero =>
  have:=hend fun o h1 h2=>by rw [hc]; omega
  rw [this]
  exact loop_exit (bndL (s:=false) (cnd_f (decide_eq_false (by omega)) rfl) (cnd_f rfl rfl))
 | succ r =>
  obtain ⟨hr1,hr2,hr3⟩:=prv_is b f (key b at_) q r hc
  have hp:((r+1:Nat):Int)-1=(r:Int):=by omega
  rw [hp]
  have hw:IntKind.i64.wrap ((at_:Int)-(r:Int))=((at_-r:Nat):Int):=by rw [wrap_i64 (by omega) (by omega)]; omega
  have hd1:decide ((f:Int)≤(r:Int))=true:=decide_eq_true (by omega)
  by_cases h20:at_-r≤2048
  case neg =>
   have:=hend fun o h1 h2=>by rw [hc]; omega
   rw [this]
   exact loop_exit (bndL (s:=false) (cnd_t hd1 (bnd (congrArg some hw) (by rw [decide_eq_false (by omega)]))) (cnd_f rfl rfl))
  have hcm:=common_eq (x:=T_match_index.mk b x.last x.back (f:Int)) rfl hl (by omega:r<at_) h3 hr3
  have hm3:=(cm_key (by omega) h3).1 hr3
  have hm8:=(cm_le b (p:=r) (at_:=at_)).1
  have hsk:=best_skip (b:=b) (at_:=at_) (at_-r-1-(at_-q)) (at_-q) fun o h1 h2=>hnear o h1 (by omega) (by rw [hc]; omega)
  rw [show at_-q+(at_-r-1-(at_-q))=at_-r-1 by omega,← hs] at hsk
  have hup:clp (bestN b at_ (at_-r))=if s.1<cmL b r at_ then (cmL b r at_,at_-r) else s:=by
   have e:bestN b at_ (at_-r)=upd1 (bestN b at_ (at_-r-1)) (at_-r) (cmL b r at_):=by
    have e1:at_-r=(at_-r-1)+1:=by omega
    have e2:at_-(at_-r-1+1)=r:=by omega
    conv=>lhs; rw [e1]
    show upd1 (bestN b at_ (at_-r-1)) (at_-r-1+1) (cmL b (at_-(at_-r-1+1)) at_)=_
    rw [e2,← e1]
   rw [e,clp_high hm3,hsk]
  have hfirst:(cond ((decide ((f:Int)≤(r:Int)))) ((some (IntKind.i64.wrap ((at_:Int)-(r:Int)))).bind fun v8=>some (.inl ((decide (v8≤2048))))) (some (.inl false)):Option (Bool⊕(((List Int)×(List ((List Int)×Int))×(List Int)×Int×Int×Int×Int)⊕(((List Int)×(List ((List Int)×Int))×(List Int)×Int×Int×Int)⊕(((List Int)×(List ((List Int)×Int))×(List Int)×Int×Int×Int)⊕(Int×Int×T_match_index))))))=some (.inl true) :=
   cnd_t hd1 (bnd (congrArg some hw) (by rw [decide_eq_true (by omega)]))
  obtain ⟨u,hu⟩:∃ u,u=clp (bestN b at_ (at_-r)):=⟨_,rfl⟩
  have hsecond:((match_index_common (T_match_index.mk b x.last x.back (f:Int)) (r:Int) (at_:Int)).bind fun v14 =>
         cond ((decide (((s.1:Nat):Int)<v14.1)))
          ((some (IntKind.i64.wrap ((at_:Int)-(r:Int)))).bind fun v16 =>
          some (.inl (v14.1,v16,v14.2.b,v14.2.last,v14.2.back,v14.2.from_)))
          (some (.inl (((s.1:Nat):Int),((s.2:Nat):Int),v14.2.b,v14.2.last,v14.2.back,v14.2.from_))):Option ((Int×Int×(List Int)×(List ((List Int)×Int))×(List Int)×Int)⊕(((List Int)×(List ((List Int)×Int))×(List Int)×Int×Int×Int×Int)⊕(((List Int)×(List ((List Int)×Int))×(List Int)×Int×Int×Int)⊕(((List Int)×(List ((List Int)×Int))×(List Int)×Int×Int×Int)⊕(Int×Int×T_match_index))))))=some (.inl (((u.1:Nat):Int),((u.2:Nat):Int),b,x.last,x.back,(f:Int))):=by
   refine bnd hcm ?_
   by_cases hlt:s.1<cmL b r at_
   ·rw [if_pos hlt] at hup
    rw [hu,hup]
    exact cnd_t (decide_eq_true (by show ((s.1:Nat):Int)<((cmL b r at_:Nat):Int); omega)) (bnd (congrArg some hw) rfl)
   ·rw [if_neg hlt] at hup
    rw [hu,hup]
    exact cnd_f (decide_eq_false (by show ¬ ((s.1:Nat):Int)<((cmL b r at_:Nat):Int); omega)) rfl
  by_cases hfull:u.1=258
  ·have hb:(bestN b at_ (at_-r)).1=258:=by
    rw [hu] at hfull
    unfold clp at hfull
    split at hfull
    ·simp at hfull
    ·exact hfull
   have hbf:=best_full (min at_ 2048-(at_-r)) (at_-r) hb
   rw [show at_-r+(min at_ 2048-(at_-r))=min at_ 2048 by omega] at hbf
   have hS:u=bestS b at_:=by rw [hu]; unfold bestS; rw [hbf]
   rw [← hS]
   exact loop_exit (bndL hfirst (cnd_t rfl (bndL hsecond (cnd_t (beq_iff_eq.2 (by omega)) rfl))))
  ·have hlt258:u.1<258:=by
    have:u.1≤258:=by
     rw [hu]
     unfold clp
     split
     ·simp
     ·exact (bestN_le b at_ _).1
    omega
   have hbk:=h.bk r hr1 (by omega) (by omega)
   rw [hr3] at hbk
   have hbl:=h.bl
   have hpl:=prv_le b f (key b at_) r
   have hgo:getO x.back (r-f)=some ((prv b f (key b at_) r:Nat):Int):=hbk
   have hix:ixO ((r-f:Nat):Int) x.back.length=some (r-f):=ixO_of (by rw [hbl]; omega)
   have hw2:IntKind.i64.wrap ((r:Int)-(f:Int))=((r-f:Nat):Int):=by rw [wrap_i64 (by omega) (by omega)]; omega
   have hw3:IntKind.i64.wrap (((prv b f (key b at_) r:Nat):Int)-1)=((prv b f (key b at_) r:Nat):Int)-1:=wrap_i64 (by omega) (by omega)
   refine (loop_next (bndL hfirst (cnd_t rfl (bndL hsecond (cnd_f (beq_eq_false_iff_ne.2 (by omega)) (bnd (congrArg some hw2) (bnd hix (bnd hgo (bnd (congrArg some hw3) rfl))))))))).trans ?_
   have:=ih r hr2 fu (by omega) (by omega) (by omega) (by rw [← hu]; exact hlt258)
   rw [← hu] at this
   exact this
theorem best_eq {b:List Int} {f at_:Nat} {x:T_match_index} (h:Ixd b f at_ x) (hb:∀ n∈b,0≤n∧n<256) (hl:b.length≤5000) (ha:at_<b.length) (hf:f≤at_-min at_ 2048) :
  match_index_best x (at_:Int)=some (((bestS b at_).1:Int),((bestS b at_).2:Int),x):=by
 have hs:=start_eq h hl (Nat.le_of_lt ha)
 unfold match_index_best
 by_cases h3:b.length<at_+3
 ·rw [if_pos h3] at hs
  have h0:bestS b at_=(0,0):=by
   unfold bestS clp
   rw [if_pos (by have:=(bestN_le b at_ (min at_ 2048)).2.1; omega)]
  rw [h0]
  exact bnd hs (bnd (ln_of rfl) (bnd (ln_of rfl) (cnd_t rfl rfl)))
 ·rw [if_neg h3] at hs
  have hk3:(key b at_).length=3:=by rw [key_len]; omega
  have hla:=h.la _ hk3
  have hg:mgetO 3 x.last (key b at_)=some ((prv b f (key b at_) at_:Nat):Int):=by
   unfold mgetO
   rw [if_pos ⟨hk3,key_byB hb at_⟩,hla]
  have hpl:=prv_le b f (key b at_) at_
  have hw3:IntKind.i64.wrap (((prv b f (key b at_) at_:Nat):Int)-1)=((prv b f (key b at_) at_:Nat):Int)-1:=wrap_i64 (by omega) (by omega)
  have hlp:=best_loop h hl (by omega) hf at_ BIG (Nat.le_refl _) (by omega) (by simp only [BIG]; omega) (by rw [Nat.sub_self]; show (clp (0,0)).1<258; decide)
  rw [Nat.sub_self] at hlp
  have hxb:=h.hb
  have hxf:=h.hf
  refine bnd hs (bnd (ln_of rfl) (bnd (ln_of hk3) (cnd_f rfl (bndL (s:=(b,x.last,x.back,(f:Int),(((bestS b at_).1:Nat):Int),(((bestS b at_).2:Nat):Int))) (bnd (ln_of hk3) (bnd hg (bnd (congrArg some hw3) (bndL (s:=(b,x.last,x.back,(f:Int),(((bestS b at_).1:Nat):Int),(((bestS b at_).2:Nat):Int))) ?_ rfl)))) ?_))))
  ·show loopF (beS (at_:Int)) BIG (x.b,x.last,x.back,x.from_,0,0,_)=_
   rw [hxb,hxf]
   exact hlp
  ·show some (_,_,T_match_index.mk b x.last x.back (f:Int))=_
   rw [← hxf,← hxb]
def tkS (b:List Int):(((List T_Tok)×(List Int)×(List ((List Int)×Int))×(List Int)×Int×Int))→Option (((List T_Tok)×(List Int)×(List ((List Int)×Int))×(List Int)×Int×Int)⊕(((List T_Tok))⊕((List T_Tok)×Int))):=(fun ((s88,s89,s90,s91,s92,s93):(List T_Tok)×(List Int)×(List ((List Int)×Int))×(List Int)×Int×Int) =>
   cond ((decide (s93<(b.length:Int))))
    ((match_index_best (T_match_index.mk s89 s90 s91 s92) s93).bind fun v6 =>
    bindS (S:=Int×Int) (A:=(((List T_Tok)×(List Int)×(List ((List Int)×Int))×(List Int)×Int×Int)⊕(((List T_Tok))⊕((List T_Tok)×Int))))
     (cond ((v6.1==0))
      ((ixO s93 b.length).bind fun v8 =>
      (getO b v8).bind fun v9 =>
      some (.inl (v9,1)))
      (some (.inl (0,v6.1))))
     (fun ((s138,s139):Int×Int) =>
      (appO 24 s88 [(T_Tok.mk s138 v6.1 v6.2.1)]).bind fun v16 =>
      bindS (S:=((List Int)×(List ((List Int)×Int))×(List Int)×Int×Int)) (A:=(((List T_Tok)×(List Int)×(List ((List Int)×Int))×(List Int)×Int×Int)⊕(((List T_Tok))⊕((List T_Tok)×Int))))
       (loopF (S:=((List Int)×(List ((List Int)×Int))×(List Int)×Int×Int×Int)) (O:=((List Int)×(List ((List Int)×Int))×(List Int)×Int×Int)⊕(((List T_Tok)×(List Int)×(List ((List Int)×Int))×(List Int)×Int×Int)⊕(((List T_Tok))⊕((List T_Tok)×Int)))) (fun ((s152,s153,s154,s155,s156,s157):(List Int)×(List ((List Int)×Int))×(List Int)×Int×Int×Int) =>
        cond ((decide (0<s157)))
         ((match_index_add (T_match_index.mk s152 s153 s154 s155) s156).bind fun v18 =>
         (some (IntKind.i64.wrap (s156+1))).bind fun v19 =>
         (some (IntKind.i64.wrap (s157-1))).bind fun v20 =>
         some (.inl (v18.b,v18.last,v18.back,v18.from_,v19,v20)))
         (some (.inr (.inl (s152,s153,s154,s155,s156)))))
        BIG (v6.2.2.b,v6.2.2.last,v6.2.2.back,v6.2.2.from_,s93,s139))
       (fun ((s159,s160,s161,s162,s163):(List Int)×(List ((List Int)×Int))×(List Int)×Int×Int) =>
        some (.inl (v16,s159,s160,s161,s162,s163))) some) some)
    (some (.inr (.inl s88))))
def taS:(((List Int)×(List ((List Int)×Int))×(List Int)×Int×Int×Int))→Option (((List Int)×(List ((List Int)×Int))×(List Int)×Int×Int×Int)⊕(((List Int)×(List ((List Int)×Int))×(List Int)×Int×Int)⊕(((List T_Tok)×(List Int)×(List ((List Int)×Int))×(List Int)×Int×Int)⊕(((List T_Tok))⊕((List T_Tok)×Int))))):=(fun ((s152,s153,s154,s155,s156,s157):(List Int)×(List ((List Int)×Int))×(List Int)×Int×Int×Int) =>
        cond ((decide (0<s157)))
         ((match_index_add (T_match_index.mk s152 s153 s154 s155) s156).bind fun v18 =>
         (some (IntKind.i64.wrap (s156+1))).bind fun v19 =>
         (some (IntKind.i64.wrap (s157-1))).bind fun v20 =>
         some (.inl (v18.b,v18.last,v18.back,v18.from_,v19,v20)))
         (some (.inr (.inl (s152,s153,s154,s155,s156)))))
theorem bestS_cases (b:List Int) (at_:Nat):bestS b at_=(0,0)∨(3≤(bestS b at_).1∧(bestS b at_).1≤258∧at_+(bestS b at_).1≤b.length∧1≤(bestS b at_).2∧(bestS b at_).2≤min at_ 2048∧cmL b (at_-(bestS b at_).2) at_=(bestS b at_).1):=by
 have h1:=bestN_le b at_ (min at_ 2048)
 have h2:=bestN_is b at_ (min at_ 2048)
 unfold bestS clp
 by_cases h:(bestN b at_ (min at_ 2048)).1<3
 ·rw [if_pos h]; exact .inl rfl
 ·rw [if_neg h]
  rcases h2 with h2 | ⟨h3,h4,h5⟩
  ·rw [h2] at h; exact absurd (by decide) h
  ·exact .inr ⟨by omega,h1.1,by omega,h3,h1.2.2,h4.symm⟩
def toks (b:List Int):Nat→Nat→List T_Tok
 | 0,_=>[]
 | k+1,at_=>if at_<b.length then (if (bestS b at_).1=0 then ⟨b.getD at_ 0,0,0⟩::toks b k (at_+1) else ⟨0,((bestS b at_).1:Int),((bestS b at_).2:Int)⟩::toks b k (at_+(bestS b at_).1)) else []
def toksS (b:List Int):List T_Tok:=toks b b.length 0
theorem toks_end {b:List Int} {at_:Nat} (h:b.length≤at_):∀ k,toks b k at_=[]
 | 0=>rfl
 | k+1=>by unfold toks; rw [if_neg (by omega)]
theorem toks_len (b:List Int):∀ k at_,(toks b k at_).length≤b.length-at_
 | 0,_=>Nat.zero_le _
 | k+1,at_=>by
  unfold toks
  split
  ·split
   ·have:=toks_len b k (at_+1)
    simp only [List.length_cons]; omega
   ·have:=toks_len b k (at_+(bestS b at_).1)
    simp only [List.length_cons]; omega
  ·simp
theorem ta_loop {b:List Int} (hb:∀ n∈b,0≤n∧n<256) (hl:b.length≤5000):∀ (n cur fuel:Nat) (x:T_match_index),Ixd b 0 cur x→cur+n≤b.length→n<fuel →
  ∃ y,Ixd b 0 (cur+n) y∧loopF taS fuel (x.b,x.last,x.back,x.from_,(cur:Int),(n:Int))=some (.inl (y.b,y.last,y.back,y.from_,((cur+n:Nat):Int)))
 | 0,cur,fuel,x,h,hc,hf=>by
  obtain ⟨fu,rfl⟩:∃ fu,fuel=fu+1:=⟨fuel-1,by omega⟩
  exact ⟨x,h,loop_exit (show taS (x.b,x.last,x.back,x.from_,(cur:Int),((0:Nat):Int))=some (.inr (.inl (x.b,x.last,x.back,x.from_,(cur:Int)))) from rfl)⟩
 | n+1,cur,fuel,x,h,hc,hf=>by
  obtain ⟨fu,rfl⟩:∃ fu,fuel=fu+1:=⟨fuel-1,by omega⟩
  obtain ⟨y,hy,hi⟩:=add_eq h hb hl (by omega) (Nat.zero_le _)
  obtain ⟨z,hz,hlp⟩:=ta_loop hb hl n (cur+1) fu y hi (by omega) (by omega)
  refine ⟨z,by rw [show cur+(n+1)=cur+1+n by omega]; exact hz,?_⟩
  have hw:IntKind.i64.wrap (((n+1:Nat):Int)-1)=(n:Int):=by rw [wrap_i64 (by omega) (by omega)]; omega
  have hstep:taS (x.b,x.last,x.back,x.from_,(cur:Int),((n+1:Nat):Int))=some (.inl (y.b,y.last,y.back,y.from_,((cur+1:Nat):Int),(n:Int))) :=
   cnd_t (decide_eq_true (by omega)) (bnd hy (bnd (congrArg some (wrap_succ (n:=cur) (by omega))) (bnd (congrArg some hw) rfl)))
  rw [show ((cur+(n+1):Nat):Int)=((cur+1+n:Nat):Int) by omega]
  exact (loop_next hstep).trans hlp
theorem tk_loop {b:List Int} (hb:∀ n∈b,0≤n∧n<256) (hl:b.length≤5000):∀ (k at_ fuel:Nat) (l:List T_Tok) (x:T_match_index),Ixd b 0 at_ x→at_≤b.length→b.length-at_≤k→k<fuel→l.length≤at_ →
  loopF (tkS b) fuel (l,x.b,x.last,x.back,x.from_,(at_:Int))=some (.inl (l++toks b k at_))
 | 0,at_,fuel,l,x,h,ha,hk,hf,hll=>by
  obtain ⟨fu,rfl⟩:∃ fu,fuel=fu+1:=⟨fuel-1,by omega⟩
  rw [toks,List.append_nil]
  exact loop_exit (cnd_f (decide_eq_false (by omega)) rfl)
 | k+1,at_,fuel,l,x,h,ha,hk,hf,hll=>by
  obtain ⟨fu,rfl⟩:∃ fu,fuel=fu+1:=⟨fuel-1,by omega⟩
  by_cases he:at_<b.length
  case neg =>
   rw [toks_end (by omega),List.append_nil]
   exact loop_exit (cnd_f (decide_eq_false (by omega)) rfl)
  have hbe:=best_eq h hb hl he (by omega)
  have hg:getO b at_=some (b.getD at_ 0):=by
   rw [List.getD_eq_getElem?_getD,List.getElem?_eq_getElem he,Option.getD_some]; exact getO_of he
  unfold toks
  rw [if_pos he]
  have hap:∀ t:T_Tok,appO 24 l [t]=some (l++[t]):=fun t=>app_of (by simp only [List.length_cons,List.length_nil]; omega) (by simp only [List.length_cons,List.length_nil]; omega)
  rcases bestS_cases b at_ with h0 | ⟨c1,c2,c3,c4,c5,c6⟩
  ·rw [h0] at hbe ⊢
   rw [if_pos rfl]
   obtain ⟨y,hy,hlp⟩:=ta_loop hb hl 1 at_ BIG x h (by omega) (by simp only [BIG]; omega)
   have hn:=tk_loop hb hl k (at_+1) fu (l++[⟨b.getD at_ 0,0,0⟩]) y hy (by omega) (by omega) (by omega) (by simp; omega)
   rw [List.append_assoc] at hn
   exact (loop_next (cnd_t (decide_eq_true (by omega)) (bnd hbe (bndL (s:=(b.getD at_ 0,1)) (cnd_t rfl (bnd (ixO_of he) (bnd hg rfl))) (bnd (hap _) (bndL hlp rfl)))))).trans hn
  ·rw [if_neg (by omega)]
   obtain ⟨y,hy,hlp⟩:=ta_loop hb hl (bestS b at_).1 at_ BIG x h (by omega) (by simp only [BIG]; omega)
   have hn:=tk_loop hb hl k (at_+(bestS b at_).1) fu (l++[⟨0,((bestS b at_).1:Int),((bestS b at_).2:Int)⟩]) y hy (by omega) (by omega) (by omega) (by simp; omega)
   rw [List.append_assoc] at hn
   exact (loop_next (cnd_t (decide_eq_true (by omega)) (bnd hbe (bndL (s:=(0,((bestS b at_).1:Int))) (cnd_f (beq_eq_false_iff_ne.2 (by show (((bestS b at_).1:Nat):Int)≠0; omega)) rfl) (bnd (hap _) (bndL hlp rfl)))))).trans hn
theorem tokens_eq {b:List Int} (hb:∀ n∈b,0≤n∧n<256) (hl:b.length≤4096):match_Tokens b=some (toksS b,0):=by
 unfold match_Tokens
 have hlp:=tk_loop hb (by omega) b.length 0 BIG [] (T_match_index.mk b [] [] 0) (ix_new b 0) (Nat.zero_le _) (by omega) (by simp only [BIG]; omega) (Nat.zero_le _)
 refine cnd_f (decide_eq_false (by omega)) (bnd (x:=some (T_match_index.mk b [] [] 0)) rfl ?_)
 show bindS _ _ _=_
 exact bndL hlp rfl
def mcS (l:List T_Tok):((Int×Int))→Option ((Int×Int)⊕((Int)⊕Int)):=(fun ((s115,s116):Int×Int) =>
 cond ((decide (s116<(l.length:Int))))
  (bindS (S:=Int) (A:=((Int×Int)⊕((Int)⊕Int)))
   ((ixO s116 l.length).bind fun v2 =>
   (getO l v2).bind fun v3 =>
   bindS (S:=Int) (A:=(Int⊕((Int×Int)⊕((Int)⊕Int))))
    (bindS (S:=Bool) (A:=(Int⊕(Int⊕((Int×Int)⊕((Int)⊕Int)))))
     (cond ((v3.Len==0))
      (some (.inl (v3.Dist==0)))
      (some (.inl false)))
     (fun (s220:Bool) =>
      cond (s220)
       ((some (IntKind.i64.wrap (s115+1))).bind fun v9 =>
       some (.inl v9))
       (bindS (S:=Bool) (A:=(Int⊕(Int⊕((Int×Int)⊕((Int)⊕Int)))))
        ((match_validMatch v3).bind fun v10 =>
        cond (v10)
         (some (.inl ((decide (v3.Dist≤s115)))))
         (some (.inl false)))
        (fun (s225:Bool) =>
         cond (s225)
          ((some (IntKind.i64.wrap (s115+v3.Len))).bind fun v16 =>
          some (.inl v16))
          (some (.inr (.inr (.inr (.inr (1))))))) some)) some)
    (fun (s216:Int) =>
     some (.inl s216)) some)
   (fun (s202:Int) =>
    (some (IntKind.i64.wrap (s116+1))).bind fun v59 =>
    some (.inl (s202,v59))) some)
  (some (.inr (.inl s115))))
/-! Rows of tokens: what is right,and what they stand for. -/
def okT (t:T_Tok) (n:Int):Bool:=decide ((t.Len=0∧t.Dist=0)∨((t.Byte=0∧3≤t.Len∧t.Len≤258∧1≤t.Dist∧t.Dist≤2048)∧t.Dist≤n))
def tl (t:T_Tok):Nat:=if t.Len=0 then 1 else t.Len.toNat
def chkF:List T_Tok→Nat→Option Nat
 | [],n=>some n
 | t::l,n=>if okT t n=true then chkF l (n+tl t) else none
def cpy (d:Nat):List Int→Nat→List Int
 | b,0=>b
 | b,k+1=>cpy d (b++[b.getD (b.length-d) 0]) k
def exT (b:List Int) (t:T_Tok):List Int:=if t.Len=0 then b++[t.Byte] else cpy t.Dist.toNat b t.Len.toNat
def exF:List T_Tok→List Int→List Int
 | [],b=>b
 | t::l,b=>exF l (exT b t)
theorem tl_le {t:T_Tok} {n:Int} (h:okT t n=true):1≤tl t∧tl t≤258:=by
 unfold okT at h
 rw [decide_eq_true_eq] at h
 unfold tl
 split <;> omega
def vT (t:T_Tok):Bool:=decide (t.Byte=0∧3≤t.Len∧t.Len≤258∧1≤t.Dist∧t.Dist≤2048)
theorem mvalid_eq (t:T_Tok):match_validMatch t=some (vT t):=by
 unfold match_validMatch
 by_cases h1:t.Byte=0
 case neg =>
  have e:vT t=false:=decide_eq_false fun h=>h1 h.1
  rw [e]
  exact bndL (s:=false) (cnd_f (beq_eq_false_iff_ne.2 h1) rfl) rfl
 by_cases h2:3≤t.Len
 case neg =>
  have e:vT t=false:=decide_eq_false fun h=>h2 h.2.1
  rw [e]
  exact bndL (s:=false) (cnd_t (beq_iff_eq.2 h1) (cnd_f (decide_eq_false h2) rfl)) rfl
 by_cases h3:t.Len≤258
 case neg =>
  have e:vT t=false:=decide_eq_false fun h=>h3 h.2.2.1
  rw [e]
  exact bndL (s:=false) (cnd_t (beq_iff_eq.2 h1) (cnd_t (decide_eq_true h2) (cnd_f (decide_eq_false h3) rfl))) rfl
 by_cases h4:1≤t.Dist
 case neg =>
  have e:vT t=false:=decide_eq_false fun h=>h4 h.2.2.2.1
  rw [e]
  exact bndL (s:=false) (cnd_t (beq_iff_eq.2 h1) (cnd_t (decide_eq_true h2) (cnd_t (decide_eq_true h3) (cnd_f (decide_eq_false h4) rfl)))) rfl
 have e:vT t=decide (t.Dist≤2048):=decide_eq_decide.2 ⟨fun h=>h.2.2.2.2,fun h=>⟨h1,h2,h3,h4,h⟩⟩
 rw [e]
 exact bndL (s:=decide (t.Dist≤2048)) (cnd_t (beq_iff_eq.2 h1) (cnd_t (decide_eq_true h2) (cnd_t (decide_eq_true h3) (cnd_t (decide_eq_true h4) rfl)))) rfl
theorem mc_step (l:List T_Tok) {i:Nat} {n:Nat} (hi:i<l.length) (hil:i<1000000000) (hn:n≤1000000000000):mcS l ((n:Int),(i:Int))=some (if okT l[i] n=true then .inl (((n+tl l[i]:Nat):Int),((i+1:Nat):Int)) else .inr (.inr 1)):=by
 have hg:=getO_of hi
 generalize l[i]=t at hg
 have hw1:IntKind.i64.wrap ((n:Int)+1)=((n+1:Nat):Int):=wrap_succ (by omega)
 have hwi:IntKind.i64.wrap ((i:Int)+1)=((i+1:Nat):Int):=wrap_succ (by omega)
 by_cases hz:t.Len=0∧t.Dist=0
 ·have ho:okT t n=true:=by unfold okT; rw [decide_eq_true_eq]; exact .inl hz
  rw [if_pos ho]
  have htl:tl t=1:=by unfold tl; rw [if_pos hz.1]
  rw [htl]
  exact cnd_t (decide_eq_true (by omega)) (bndL (s:=((n+1:Nat):Int)) (bnd (ixO_of hi) (bnd hg (bndL (s:=((n+1:Nat):Int)) (bndL (s:=true) (cnd_t (beq_iff_eq.2 hz.1) (by rw [beq_iff_eq.2 hz.2])) (cnd_t rfl (bnd (congrArg some hw1) rfl))) rfl))) (bnd (congrArg some hwi) rfl))
 ·have hfirst:∀ {A:Type},(cond ((t.Len==0)) (some (.inl (t.Dist==0))) (some (.inl false)):Option (Bool⊕A))=some (.inl false):=by
   intro A
   by_cases h:t.Len=0
   ·exact cnd_t (beq_iff_eq.2 h) (by rw [beq_eq_false_iff_ne.2 fun e=>hz ⟨h,e⟩])
   ·exact cnd_f (beq_eq_false_iff_ne.2 h) rfl
  by_cases hv:t.Byte=0∧3≤t.Len∧t.Len≤258∧1≤t.Dist∧t.Dist≤2048
  ·have hve:=mvalid_eq t
   rw [show vT t=true from decide_eq_true hv] at hve
   by_cases hd:t.Dist≤(n:Int)
   ·have ho:okT t n=true:=by unfold okT; rw [decide_eq_true_eq]; exact .inr ⟨hv,hd⟩
    rw [if_pos ho]
    have hw:IntKind.i64.wrap ((n:Int)+t.Len)=((n+tl t:Nat):Int):=by
     unfold tl
     rw [if_neg (by omega),wrap_i64 (by omega) (by omega)]; omega
    exact cnd_t (decide_eq_true (by omega)) (bndL (s:=((n+tl t:Nat):Int)) (bnd (ixO_of hi) (bnd hg (bndL (s:=((n+tl t:Nat):Int)) (bndL hfirst (cnd_f rfl (bndL (s:=true) (bnd hve (cnd_t rfl (by rw [decide_eq_true hd]))) (cnd_t rfl (bnd (congrArg some hw) rfl))))) rfl))) (bnd (congrArg some hwi) rfl))
   ·have ho:¬ okT t n=true:=by unfold okT; rw [decide_eq_true_eq]; rintro (h | h); exact hz h; exact hd h.2
    rw [if_neg ho]
    exact cnd_t (decide_eq_true (by omega)) (bndR (a := .inr (.inr 1)) (bnd (ixO_of hi) (bnd hg (bndR (a := .inr (.inr (.inr 1))) (bndL hfirst (cnd_f rfl (bndL (s:=false) (bnd hve (cnd_t rfl (by rw [decide_eq_false hd]))) (cnd_f rfl rfl)))) rfl))) rfl)
  ·have hve:=mvalid_eq t
   rw [show vT t=false from decide_eq_false hv] at hve
   have ho:¬ okT t n=true:=by unfold okT; rw [decide_eq_true_eq]; rintro (h | h); exact hz h; exact hv h.1
   rw [if_neg ho]
   exact cnd_t (decide_eq_true (by omega)) (bndR (a := .inr (.inr 1)) (bnd (ixO_of hi) (bnd hg (bndR (a := .inr (.inr (.inr 1))) (bndL hfirst (cnd_f rfl (bndL (s:=false) (bnd hve (cnd_f rfl rfl)) (cnd_f rfl rfl)))) rfl))) rfl)
theorem mc_loop (l:List T_Tok) (hl:l.length≤1000000):∀ (k i fuel n:Nat),i+k=l.length→k<fuel→n≤258 * i→loopF (mcS l) fuel ((n:Int),(i:Int))=some (match chkF (l.drop i) n with | some m => .inl (m:Int) | none => .inr 1)
 | 0,i,fuel,n,hk,hf,hn=>by
  obtain ⟨fu,rfl⟩:∃ fu,fuel=fu+1:=⟨fuel-1,by omega⟩
  rw [List.drop_of_length_le (by omega)]
  exact loop_exit (cnd_f (decide_eq_false (by omega)) rfl)
 | k+1,i,fuel,n,hk,hf,hn=>by
  obtain ⟨fu,rfl⟩:∃ fu,fuel=fu+1:=⟨fuel-1,by omega⟩
  have hi:i<l.length:=by omega
  have hs:=mc_step l hi (by omega) (by omega:n≤1000000000000)
  rw [List.drop_eq_getElem_cons hi]
  simp only [chkF]
  by_cases ho:okT l[i] n=true
  ·rw [if_pos ho] at hs ⊢
   have:=tl_le ho
   exact (loop_next hs).trans (mc_loop l hl k (i+1) fu (n+tl l[i]) (by omega) (by omega) (by omega))
  ·rw [if_neg ho] at hs ⊢
   exact loop_exit hs
def ckE (l:List T_Tok):Int:=match chkF l 0 with | some n=>if 4096<n then 2 else 0 | none=>1
theorem check_eq {l:List T_Tok} (hl:l.length≤1000000):match_Check l=some (ckE l):=by
 have h:=mc_loop l hl l.length 0 BIG 0 (by omega) (by simp only [BIG]; omega) (by omega)
 rw [List.drop_zero] at h
 unfold match_Check ckE
 cases hc:chkF l 0 with
 | none =>
  rw [hc] at h
  exact bndR h rfl
 | some n =>
  rw [hc] at h
  refine bndL h ?_
  by_cases h4:4096<n
  ·simp only [if_pos h4]; exact cnd_t (decide_eq_true (by omega)) rfl
  ·simp only [if_neg h4]; exact cnd_f (decide_eq_false (by omega)) rfl
theorem cpy_len (d:Nat):∀ (b:List Int) (k:Nat),(cpy d b k).length=b.length+k
 | b,0=>rfl
 | b,k+1=>by
  unfold cpy
  rw [cpy_len d _ k]
  simp; omega
theorem exT_len {b:List Int} {t:T_Tok} {n:Int} (h:okT t n=true):(exT b t).length=b.length+tl t:=by
 unfold okT at h
 rw [decide_eq_true_eq] at h
 unfold exT tl
 split
 ·simp
 ·rw [cpy_len]
/-! A text's own tokens. -/
theorem chk_toks (b:List Int) (m:Nat):∀ (k at_:Nat),b.length-at_≤k→at_≤b.length→chkF (toks b k at_) (m+at_)=some (m+b.length)
 | 0,at_,hk,ha=>by
  obtain rfl:at_=b.length:=by omega
  rfl
 | k+1,at_,hk,ha=>by
  unfold toks
  split
  ·rename_i he
   rcases bestS_cases b at_ with h0 | ⟨c1,c2,c3,c4,c5,c6⟩
   ·rw [h0,if_pos rfl]
    simp only [chkF]
    have ho:okT ⟨b.getD at_ 0,0,0⟩ ((m+at_:Nat):Int)=true:=by unfold okT; rw [decide_eq_true_eq]; exact .inl ⟨rfl,rfl⟩
    rw [if_pos ho]
    exact chk_toks b m k (at_+1) (by omega) (by omega)
   ·rw [if_neg (by omega)]
    simp only [chkF]
    have ho:okT ⟨0,((bestS b at_).1:Int),((bestS b at_).2:Int)⟩ ((m+at_:Nat):Int)=true:=by
     unfold okT; rw [decide_eq_true_eq]
     exact .inr ⟨⟨rfl,by show (3:Int)≤((bestS b at_).1:Int); omega,by show ((bestS b at_).1:Int)≤258; omega,by show (1:Int)≤((bestS b at_).2:Int); omega,by show ((bestS b at_).2:Int)≤2048; omega⟩,by show ((bestS b at_).2:Int)≤((m+at_:Nat):Int); omega⟩
    rw [if_pos ho]
    have htl:tl ⟨0,((bestS b at_).1:Int),((bestS b at_).2:Int)⟩=(bestS b at_).1:=by unfold tl; rw [if_neg (by show ¬ ((bestS b at_).1:Int)=0; omega)]; simp
    rw [htl,Nat.add_assoc]
    exact chk_toks b m k (at_+(bestS b at_).1) (by omega) (by omega)
  ·simp only [chkF]
   rw [show at_=b.length by omega]
theorem cpy_take {b:List Int} (a:List Int) {d:Nat}:∀ (k at_:Nat),1≤d→d≤at_→at_+k≤b.length→(∀ j,j<k→b[at_-d+j]? = b[at_+j]?)→cpy d (a++b.take at_) k=a++b.take (at_+k)
 | 0,at_,_,_,_,_=>rfl
 | k+1,at_,h1,h2,h3,h=>by
  have hlt:at_<b.length:=by omega
  have e:(a++b.take at_).getD ((a++b.take at_).length-d) 0=b[at_]:=by
   have hl:(a++b.take at_).length-d=a.length+(at_-d):=by simp; omega
   rw [hl,List.getD_eq_getElem?_getD,List.getElem?_append_right (by omega),Nat.add_sub_cancel_left,List.getElem?_take,if_pos (by omega)]
   have:=h 0 (by omega)
   rw [Nat.add_zero,Nat.add_zero] at this
   rw [this,List.getElem?_eq_getElem hlt,Option.getD_some]
  unfold cpy
  rw [e,List.append_assoc,← List.take_succ_eq_append_getElem hlt]
  have:=cpy_take (b:=b) a (d:=d) k (at_+1) h1 (by omega) (by omega) fun j hj=>by
   have:=h (j+1) (by omega)
   rwa [show at_+1-d+j=at_-d+(j+1) by omega,show at_+1+j=at_+(j+1) by omega]
  rw [this,show at_+1+k=at_+(k+1) by omega]
theorem ex_toks (b a:List Int):∀ (k at_:Nat),b.length-at_≤k→at_≤b.length→exF (toks b k at_) (a++b.take at_)=a++b
 | 0,at_,hk,ha=>by
  obtain rfl:at_=b.length:=by omega
  simp [toks,exF]
 | k+1,at_,hk,ha=>by
  unfold toks
  split
  ·rename_i he
   rcases bestS_cases b at_ with h0 | ⟨c1,c2,c3,c4,c5,c6⟩
   ·rw [h0,if_pos rfl]
    simp only [exF]
    have hx:exT (a++b.take at_) ⟨b.getD at_ 0,0,0⟩=a++b.take (at_+1):=by
     unfold exT
     rw [if_pos rfl,List.append_assoc,List.take_succ_eq_append_getElem he,List.getD_eq_getElem?_getD,List.getElem?_eq_getElem he,Option.getD_some]
    rw [hx]
    exact ex_toks b a k (at_+1) (by omega) (by omega)
   ·rw [if_neg (by omega)]
    simp only [exF]
    have hx:exT (a++b.take at_) ⟨0,((bestS b at_).1:Int),((bestS b at_).2:Int)⟩=a++b.take (at_+(bestS b at_).1):=by
     unfold exT
     rw [if_neg (by show ¬ ((bestS b at_).1:Int)=0; omega)]
     simp only [Int.toNat_natCast]
     refine cpy_take a _ _ c4 (by omega) c3 fun j hj=>cm_get (by omega)
    rw [hx]
    exact ex_toks b a k (at_+(bestS b at_).1) (by omega) (by omega)
  ·rw [show at_=b.length by omega]
   simp [exF]
theorem bys {l:List Int} (h:wfL (wfI .u8) l):∀ n∈l,0≤n∧n<256:=by
 intro x hx
 have:=h.2 x hx
 unfold wfI at this
 have h1:IntKind.u8.min=0:=by decide
 have h2:IntKind.u8.max=255:=by decide
 simp [Lit.wf,h1,h2] at this
 omega
theorem toksS_len (b:List Int):(toksS b).length≤b.length:=by
 have:=toks_len b b.length 0
 unfold toksS; omega
theorem chk_toksS (b:List Int):chkF (toksS b) 0=some b.length:=by
 have:=chk_toks b 0 b.length 0 (by omega) (by omega)
 simpa [toksS] using this
theorem ex_toksS (b:List Int):exF (toksS b) []=b:=by
 have:=ex_toks b [] b.length 0 (by omega) (by omega)
 simpa [toksS] using this
theorem inl_ofB {A:Type} {a b:Bool} (h:a=b):(some (.inl a):Option (Bool⊕A))=some (.inl b):=by rw [h]
def okW (w:List Int):Prop:=w.length≤300∧∀ i,i<w.length→0≤w.getD i 0∧w.getD i 0≤1048576
theorem getD_at {l:List Int} {i:Nat} (h:i<l.length):l[i]=l.getD i 0:=by simp [h]
theorem getO_D {l:List Int} {i:Nat} (h:i<l.length):getO l i=some (l.getD i 0):=by simp [getO,h]
theorem validW_eq (w:List Int):(okW w→tree_validWeights w=some true)∧(¬ okW w→tree_validWeights w=some false):=by
 have main:w.length≤300→∀ b:Bool,(b=true↔∀ i,i<w.length→0≤w.getD i 0∧w.getD i 0≤1048576)→tree_validWeights w=some b:=by
  intro hl b hb
  unfold tree_validWeights
  refine cnd_f (decide_eq_false (by omega)) ?_
  have hgo:∀ i,i<w.length→decide (0≤w.getD i 0∧w.getD i 0≤1048576)=true→_:=fun i hi hp=>hp
  cases b with
  | true =>
   have h:=hb.1 rfl
   refine bndL (s:=()) ?_ rfl
   refine (loop_all (fun i=>decide (0≤w.getD i 0∧w.getD i 0≤1048576)) w.length false (by unfold BIG; omega) ?_ ?_ ?_).trans (by rw [if_pos (fun i hi=>decide_eq_true (h i hi))])
   ·intro i hi hp
    have hp:=of_decide_eq_true hp
    exact cnd_t (by simp; omega) (bnd (ixO_of hi) (bnd (getO_D hi) (bndL (s:=false) (cnd_f (decide_eq_false (by omega)) (by rw [decide_eq_false (by omega)])) (cnd_f rfl (bnd (x:=((i+1:Nat):Int)) (by rw [wrap_succ (by omega)]) rfl)))))
   ·intro i hi hp
    exact absurd (h i hi) (of_decide_eq_false hp)
   ·exact cnd_f (by simp) rfl
  | false =>
   refine bndR (a:=false) ?_ rfl
   refine (loop_all (fun i=>decide (0≤w.getD i 0∧w.getD i 0≤1048576)) w.length false (by unfold BIG; omega) ?_ ?_ ?_).trans (by rw [if_neg (fun h=>by have:=hb.2 (fun i hi=>of_decide_eq_true (h i hi)); cases this)])
   ·intro i hi hp
    have hp:=of_decide_eq_true hp
    exact cnd_t (by simp; omega) (bnd (ixO_of hi) (bnd (getO_D hi) (bndL (s:=false) (cnd_f (decide_eq_false (by omega)) (by rw [decide_eq_false (by omega)])) (cnd_f rfl (bnd (x:=((i+1:Nat):Int)) (by rw [wrap_succ (by omega)]) rfl)))))
   ·intro i hi hp
    have hp:=of_decide_eq_false hp
    refine cnd_t (by simp; omega) (bnd (ixO_of hi) (bnd (getO_D hi) (bndL (s:=true) ?_ (cnd_t rfl rfl))))
    by_cases h0:w.getD i 0<0
    ·exact cnd_t (decide_eq_true h0) rfl
    ·exact cnd_f (decide_eq_false h0) (by rw [decide_eq_true (by omega)])
   ·exact cnd_f (by simp) rfl
 by_cases hl:w.length≤300
 ·exact ⟨fun h=>main hl true ⟨fun _=>h.2,fun _=>rfl⟩,fun h=>main hl false ⟨fun e=>(by cases e),fun e=>absurd ⟨hl,e⟩ h⟩⟩
 ·refine ⟨fun h=>absurd h.1 hl,fun _ => ?_⟩
  unfold tree_validWeights
  exact cnd_t (decide_eq_true (by omega)) rfl
def posN (w:List Int):Nat→List Int
 | 0=>[]
 | n+1=>if 0<w.getD n 0 then posN w n++[(n:Int)] else posN w n
def pos (w:List Int):List Int:=posN w w.length
theorem posN_len (w:List Int):∀ n,(posN w n).length≤n
 | 0=>Nat.le_refl _
 | n+1=>by
  have:=posN_len w n
  rw [posN]
  split
  ·simp; omega
  ·omega
theorem posN_lt (w:List Int):∀ n x,x∈posN w n→0≤x∧x<(n:Int)∧0<w.getD x.toNat 0
 | 0,x,h=>by cases h
 | n+1,x,h=>by
  rw [posN] at h
  split at h
  ·rename_i hp
   rcases List.mem_append.1 h with h | h
   ·have:=posN_lt w n x h; omega
   ·obtain rfl:=List.mem_singleton.1 h
    refine ⟨by omega,by omega,by simpa using hp⟩
  ·have:=posN_lt w n x h; omega
theorem posN_mem (w:List Int):∀ n i,i<n→0<w.getD i 0→(i:Int)∈posN w n
 | 0,i,h,_=>by omega
 | n+1,i,h,hp=>by
  rw [posN]
  by_cases e:i=n
  ·subst e; rw [if_pos hp]; simp
  ·have:=posN_mem w n i (by omega) hp
   split
   ·exact List.mem_append_left _ this
   ·exact this
theorem posN_asc (w:List Int):∀ n,(posN w n).Pairwise (· < ·)
 | 0=>List.Pairwise.nil
 | n+1=>by
  rw [posN]
  split
  ·refine List.pairwise_append.2 ⟨posN_asc w n,by simp,fun a ha b hb => ?_⟩
   obtain rfl:=List.mem_singleton.1 hb
   exact (posN_lt w n a ha).2.1
  ·exact posN_asc w n
theorem positive_eq (w:List Int) (hl:w.length≤300):tree_positive w=some (pos w):=by
 unfold tree_positive
 refine bndL (s:=pos w) ?_ rfl
 refine loop_from (fun i=>(posN w i,(i:Int))) w.length BIG rfl (by unfold BIG; omega) (fun i hi => ?_) (cnd_f (by simp) rfl)
 refine cnd_t (by simp; omega) ?_
 by_cases hp:0<w.getD i 0
 ·have:=posN_len w i
  exact bndL (s:=posN w (i+1)) (bnd (ixO_of hi) (bnd (getO_D hi) (cnd_t (decide_eq_true hp) (bnd (app_of (by simp; omega) (by simp; omega)) (by rw [posN,if_pos hp]))))) (bnd (x:=((i+1:Nat):Int)) (by rw [wrap_succ (by omega)]) rfl)
 ·exact bndL (s:=posN w (i+1)) (bnd (ixO_of hi) (bnd (getO_D hi) (cnd_f (decide_eq_false hp) (by rw [posN,if_neg hp])))) (bnd (x:=((i+1:Nat):Int)) (by rw [wrap_succ (by omega)]) rfl)
def okL (w:List Int) (limit:Int):Prop:=(if (pos w).length≤19 then 5 else 9)≤limit∧limit≤15
theorem validL_eq (w:List Int) (limit:Int) (hl:w.length≤300):(okL w limit→tree_validLimit w limit=some true)∧(¬ okL w limit→tree_validLimit w limit=some false):=by
 have hb:∀ b:Bool,(b=true↔okL w limit)→tree_validLimit w limit=some b:=by
  intro b hb
  unfold tree_validLimit
  refine bndL (s:=if (pos w).length≤19 then 5 else 9) (bnd (positive_eq w hl) ?_) ?_
  ·by_cases h:(pos w).length≤19
   ·exact cnd_t (decide_eq_true (by omega)) (by rw [if_pos h])
   ·exact cnd_f (decide_eq_false (by omega)) (by rw [if_neg h])
  ·refine bndL (s:=b) ?_ rfl
   unfold okL at hb
   by_cases h1:(if (pos w).length≤19 then 5 else 9)≤limit
   ·refine cnd_t (decide_eq_true h1) ?_
    congr 2
    cases b with
    | true=>exact decide_eq_true (hb.1 rfl).2
    | false=>exact decide_eq_false fun h=>by have:=hb.2 ⟨h1,h⟩; cases this
   ·refine cnd_f (decide_eq_false h1) ?_
    cases b with
    | true=>exact absurd (hb.1 rfl).1 h1
    | false=>rfl
 exact ⟨fun h=>hb true ⟨fun _=>h,fun _=>rfl⟩,fun h=>hb false ⟨fun e=>(by cases e),fun e=>absurd e h⟩⟩
abbrev zw (W P:List Int):List T_tree_node:=List.zipWith T_tree_node.mk W P
theorem zw_len {W P:List Int} (h:W.length=P.length):(zw W P).length=W.length:=by simp [zw,h]
theorem zw_get {W P:List Int} (h:W.length=P.length) {k:Nat} (hk:k<W.length):getO (zw W P) k=some ⟨W.getD k 0,P.getD k 0⟩:=by
 simp [getO,zw,List.getElem?_zipWith,hk,show k<P.length by omega]
theorem zw_set {W P:List Int} (h:W.length=P.length) {k:Nat} (hk:k<W.length) (x:Int):(zw W P).set k ⟨W.getD k 0,x⟩=zw W (P.set k x):=by
 apply List.ext_getElem?
 intro j
 simp only [zw,List.getElem?_set,List.getElem?_zipWith,List.length_zipWith]
 by_cases e:k=j
 ·subst e
  simp [hk,show k<P.length by omega]
  omega
 ·simp [e]
theorem zw_app {W P:List Int} (h:W.length=P.length) (x y:Int):zw W P++[⟨x,y⟩]=zw (W++[x]) (P++[y]):=by
 simp [zw,List.zipWith_append h]
structure MS where
 W:List Int
 P:List Int
 lf:Nat
 mg:Nat
 C:List Nat
def lst (n:Nat) (W:List Int) (lf mg:Nat):Nat×Nat×Nat:=if lf<n∧(mg=W.length∨W.getD lf 0≤W.getD mg 0) then (lf,lf+1,mg) else (mg,lf,mg+1)
def mstep (n:Nat) (s:MS):MS :=
 let a:=lst n s.W s.lf s.mg
 let b:=lst n s.W a.2.1 a.2.2
 ⟨s.W++[s.W.getD a.1 0+s.W.getD b.1 0],(s.P.set a.1 (s.W.length:Int)).set b.1 (s.W.length:Int)++[0],b.2.1,b.2.2,s.C++[a.1,b.1]⟩
def mst (W0:List Int):Nat→MS
 | 0=>⟨W0,List.replicate W0.length 0,0,W0.length,[]⟩
 | i+1=>mstep W0.length (mst W0 i)
structure Pick (n:Nat) (W:List Int) (lf mg:Nat) (r:Nat×Nat×Nat):Prop where
 way:(r.1=lf∧r.2.1=lf+1∧r.2.2=mg∧lf<n)∨(r.1=mg∧r.2.1=lf∧r.2.2=mg+1∧mg<W.length)
 min:∀ u,(lf≤u∧u<n)∨(mg≤u∧u<W.length)→W.getD r.1 0≤W.getD u 0
theorem lst_pick {n:Nat} {W:List Int} {lf mg:Nat} (hl:lf≤n) (hm:mg≤W.length) (h:lf<n∨mg<W.length) (hs:∀ p q,p≤q→q<n→W.getD p 0≤W.getD q 0) (ho:∀ p q,mg≤p→p≤q→q<W.length→W.getD p 0≤W.getD q 0):Pick n W lf mg (lst n W lf mg):=by
 unfold lst
 split
 ·rename_i hc
  refine ⟨.inl ⟨rfl,rfl,rfl,hc.1⟩,fun u hu => ?_⟩
  rcases hu with hu | hu
  ·exact hs _ _ hu.1 hu.2
  ·rcases hc.2 with h1 | h1
   ·omega
   ·exact Int.le_trans h1 (ho _ _ (Nat.le_refl _) hu.1 hu.2)
 ·rename_i hc
  have hmg:mg<W.length:=by
   rcases h with h | h
   ·rcases Nat.lt_or_ge mg W.length with h1 | h1
    ·exact h1
    ·exact absurd ⟨h,.inl (by omega)⟩ hc
   ·exact h
  refine ⟨.inr ⟨rfl,rfl,rfl,hmg⟩,fun u hu => ?_⟩
  rcases hu with hu | hu
  ·have h1:¬ (W.getD lf 0≤W.getD mg 0):=fun h1=>hc ⟨by omega,.inr h1⟩
   have h2:=hs lf u hu.1 hu.2
   simp only
   omega
  ·exact ho _ _ (Nat.le_refl _) hu.1 hu.2
def left (n:Nat) (W:List Int) (lf mg:Nat):Int:=((W.take n).drop lf).sum+(W.drop mg).sum
theorem left_pick {n:Nat} {W:List Int} {lf mg:Nat} {r:Nat×Nat×Nat} (hn:n≤W.length) (h:Pick n W lf mg r):left n W lf mg=W.getD r.1 0+left n W r.2.1 r.2.2:=by
 unfold left
 rcases h.way with ⟨h1,h2,h3,h4⟩ | ⟨h1,h2,h3,h4⟩
 ·rw [h1,h2,h3,List.drop_eq_getElem_cons (show lf<(W.take n).length by simp; omega),List.sum_cons]
  simp [show lf<W.length by omega]
  omega
 ·rw [h1,h2,h3,List.drop_eq_getElem_cons h4,List.sum_cons]
  simp [h4]
  omega
theorem left_app {n:Nat} {W:List Int} {lf mg:Nat} (x:Int) (hn:n≤W.length) (hm:mg≤W.length):left n (W++[x]) lf mg=left n W lf mg+x:=by
 unfold left
 rw [List.take_append_of_le_length hn,List.drop_append_of_le_length hm,List.sum_append]
 simp
 omega
theorem sum_ge {l:List Int} (h:∀ x∈l,0≤x):0≤l.sum:=by
 induction l with
 | nil=>simp
 | cons x l ih =>
  rw [List.sum_cons]
  have:=h x (by simp)
  have:=ih fun y hy=>h y (by simp [hy])
  omega
theorem getD_app_l {l m:List Int} {k:Nat} (h:k<l.length):(l++m).getD k 0=l.getD k 0:=by
 simp only [List.getD_eq_getElem?_getD,List.getElem?_append_left h]
theorem getD_app_n {l:List Int} {x:Int}:(l++[x]).getD l.length 0=x:=by simp
theorem getN_app_l {l m:List Nat} {k:Nat} (h:k<l.length):(l++m).getD k 0=l.getD k 0:=by
 simp only [List.getD_eq_getElem?_getD,List.getElem?_append_left h]
structure Inv (W0:List Int) (i:Nat) (s:MS):Prop where
 wl:s.W.length=W0.length+i
 pl:s.P.length=W0.length+i
 lf:s.lf≤W0.length
 mg1:W0.length≤s.mg
 mg2:s.mg≤W0.length+(i-1)
 cnt:s.lf+s.mg=2 * i+W0.length
 cl:s.C.length=2 * i
 par:∀ j,j<2 * i→s.P.getD (s.C.getD j 0) 0=((W0.length+j / 2:Nat):Int)
 clt:∀ j,j<2 * i→s.C.getD j 0<W0.length+j / 2
 mem:∀ k,k∈s.C↔k<s.lf∨(W0.length≤k∧k<s.mg)
 nd:s.C.Nodup
 leaf:∀ k,k<W0.length→s.W.getD k 0=W0.getD k 0
 new:∀ q,q<i→s.W.getD (W0.length+q) 0=s.W.getD (s.C.getD (2 * q) 0) 0+s.W.getD (s.C.getD (2 * q+1) 0) 0
 asc:∀ j j',j≤j'→j'<2 * i→s.W.getD (s.C.getD j 0) 0≤s.W.getD (s.C.getD j' 0) 0
 low:∀ j u,j<2 * i→(s.lf≤u∧u<W0.length)∨(s.mg≤u∧u<W0.length+i)→s.W.getD (s.C.getD j 0) 0≤s.W.getD u 0
 mono:∀ p q,W0.length≤p→p≤q→q<W0.length+i→s.W.getD p 0≤s.W.getD q 0
 pos:∀ k,k<W0.length+i→1≤s.W.getD k 0
 tot:left W0.length s.W s.lf s.mg=W0.sum
 le:∀ k,k<W0.length+i→s.W.getD k 0≤W0.sum
theorem le_sum {l:List Int} (h:∀ x∈l,0≤x) {x:Int} (hx:x∈l):x≤l.sum:=by
 induction l with
 | nil=>cases hx
 | cons y l ih =>
  rw [List.sum_cons]
  have h1:=h y (by simp)
  have h2:=sum_ge (l:=l) fun z hz=>h z (by simp [hz])
  rcases List.mem_cons.1 hx with rfl | hx
  ·omega
  ·have:=ih (fun z hz=>h z (by simp [hz])) hx; omega
theorem mem_getD {l:List Int} {x:Int} (h:x∈l):∃ k,k<l.length∧x=l.getD k 0:=by
 obtain ⟨k,hk,rfl⟩:=List.getElem_of_mem h
 exact ⟨k,hk,getD_at hk⟩
theorem inv_zero {W0:List Int} (hp:∀ k,k<W0.length→1≤W0.getD k 0):Inv W0 0 (mst W0 0) where
 wl:=rfl
 pl:=by simp [mst]
 lf:=Nat.zero_le _
 mg1:=Nat.le_refl _
 mg2:=Nat.le_refl _
 cnt:=by simp [mst]
 cl:=rfl
 par:=fun j h=>by omega
 clt:=fun j h=>by omega
 mem:=fun k=>by simp [mst]
 nd:=List.nodup_nil
 leaf:=fun _ _=>rfl
 new:=fun q h=>by omega
 asc:=fun j j' _ h=>by omega
 low:=fun j u h=>by omega
 mono:=fun p q h1 h2 h3=>by omega
 pos:=fun k h=>hp k h
 tot:=by simp [left,mst]
 le:=fun k h=>by
  refine le_sum (fun x hx => ?_) (x:=W0.getD k 0) ?_
  ·obtain ⟨j,hj,rfl⟩:=mem_getD hx
   have:=hp j hj; omega
  ·have h:k<W0.length:=h
   rw [← getD_at h]; exact List.getElem_mem _
theorem getD_set_ne {l:List Int} {a k:Nat} {x:Int} (h:a≠k):(l.set a x).getD k 0=l.getD k 0:=by
 simp [List.getD_eq_getElem?_getD,List.getElem?_set,h]
theorem getD_set_eq {l:List Int} {a:Nat} {x:Int} (h:a<l.length):(l.set a x).getD a 0=x:=by
 simp [List.getD_eq_getElem?_getD,h]
theorem getN_two {C:List Nat} {a b m:Nat} (hc:C.length=m):(C++[a,b]).getD m 0=a∧(C++[a,b]).getD (m+1) 0=b:=by
 subst hc
 simp [List.getD_eq_getElem?_getD,List.getElem?_append_right]
theorem mem_C {C:List Nat} {j:Nat} (h:j<C.length):C.getD j 0∈C:=by
 simp [List.getD_eq_getElem?_getD,h]
theorem inv_step {W0:List Int} {i:Nat} {s:MS} (hs:∀ p q,p≤q→q<W0.length→W0.getD p 0≤W0.getD q 0) (hi:i+1<W0.length) (v:Inv W0 i s):Inv W0 (i+1) (mstep W0.length s):=by
 obtain ⟨wl,pl,lf,mg1,mg2,cnt,cl,par,clt,mem,nd,leaf,new,asc,low,mono,pos,tot,le⟩:=v
 have hsW:∀ p q,p≤q→q<W0.length→s.W.getD p 0≤s.W.getD q 0:=fun p q h1 h2=>by rw [leaf p (by omega),leaf q h2]; exact hs p q h1 h2
 have hmW:∀ p q,s.mg≤p→p≤q→q<s.W.length→s.W.getD p 0≤s.W.getD q 0:=fun p q h1 h2 h3=>mono p q (by omega) h2 (by omega)
 obtain ⟨a,l1,m1,ea⟩:∃ a l1 m1,lst W0.length s.W s.lf s.mg=(a,l1,m1):=⟨_,_,_,rfl⟩
 have pa:=lst_pick (n:=W0.length) (W:=s.W) lf (show s.mg≤s.W.length by omega) (by omega) hsW hmW
 rw [ea] at pa
 have wa:=pa.way
 simp only at wa
 obtain ⟨b,l2,m2,eb⟩:∃ b l2 m2,lst W0.length s.W l1 m1=(b,l2,m2):=⟨_,_,_,rfl⟩
 have pb:=lst_pick (n:=W0.length) (W:=s.W) (lf:=l1) (mg:=m1) (by omega) (by omega) (by omega) hsW (fun p q h1 h2 h3=>hmW p q (by omega) h2 h3)
 rw [eb] at pb
 have wb:=pb.way
 simp only at wb
 have hst:mstep W0.length s=⟨s.W++[s.W.getD a 0+s.W.getD b 0],(s.P.set a (s.W.length:Int)).set b (s.W.length:Int)++[0],l2,m2,s.C++[a,b]⟩:=by
  unfold mstep
  rw [ea]
  simp only
  rw [eb]
 have haL:a<W0.length+i:=by omega
 have hbL:b<W0.length+i:=by omega
 have hab:a≠b:=by omega
 have ha1:s.W.getD a 0≤s.W.getD b 0:=pa.min b (by omega)
 have haU:∀ j,j<2 * i→s.W.getD (s.C.getD j 0) 0≤s.W.getD a 0:=fun j hj=>low j a hj (by omega)
 have hbU:∀ j,j<2 * i→s.W.getD (s.C.getD j 0) 0≤s.W.getD b 0:=fun j hj=>low j b hj (by omega)
 have hpa:=pos a haL
 have hpb:=pos b hbL
 have hCa:∀ j,j<2 * i→s.C.getD j 0≠a:=fun j hj e=>by
  have:=(mem (s.C.getD j 0)).1 (mem_C (by omega)); omega
 have hCb:∀ j,j<2 * i→s.C.getD j 0≠b:=fun j hj e=>by
  have:=(mem (s.C.getD j 0)).1 (mem_C (by omega)); omega
 have hCl:∀ j,j<2 * i→s.C.getD j 0<W0.length+i:=fun j hj=>by have:=clt j hj; omega
 have gW:∀ k,k<W0.length+i→(s.W++[s.W.getD a 0+s.W.getD b 0]).getD k 0=s.W.getD k 0:=fun k hk=>getD_app_l (by omega)
 have gWn:(s.W++[s.W.getD a 0+s.W.getD b 0]).getD (W0.length+i) 0=s.W.getD a 0+s.W.getD b 0:=by rw [← wl]; exact getD_app_n
 have gC:∀ j,j<2 * i→(s.C++[a,b]).getD j 0=s.C.getD j 0:=fun j hj=>getN_app_l (by omega)
 have gC2:=getN_two (C:=s.C) (a:=a) (b:=b) cl
 have hlast:∀ q,q<i→s.W.getD (W0.length+q) 0≤s.W.getD a 0+s.W.getD b 0:=fun q hq=>by
  have h1:=new q hq
  have h2:=haU (2 * q) (by omega)
  have h3:=hbU (2 * q+1) (by omega)
  omega
 have htA:=left_pick (n:=W0.length) (W:=s.W) (by omega) pa
 have htB:=left_pick (n:=W0.length) (W:=s.W) (by omega) pb
 simp only at htA htB
 have hnn:0≤left W0.length s.W l2 m2:=by
  unfold left
  have h1:0≤((s.W.take W0.length).drop l2).sum:=sum_ge fun x hx=>by
   obtain ⟨k,hk,rfl⟩:=mem_getD (List.mem_of_mem_take (List.mem_of_mem_drop hx))
   have:=pos k (by omega); omega
  have h2:0≤(s.W.drop m2).sum:=sum_ge fun x hx=>by
   obtain ⟨k,hk,rfl⟩:=mem_getD (List.mem_of_mem_drop hx)
   have:=pos k (by omega); omega
  omega
 rw [hst]
 refine ⟨by simp; omega,by simp; omega,by simp only; omega,by simp only; omega,by simp only; omega,by simp only; omega,by simp; omega,?_,?_,?_,?_,?_,?_,?_,?_,?_,?_,?_,?_⟩
 ·intro j hj
  simp only
  by_cases h1:j<2 * i
  ·have h2:=hCl j h1
   rw [gC j h1,getD_app_l (by simp only [List.length_set]; omega),getD_set_ne (Ne.symm (hCb j h1)),getD_set_ne (Ne.symm (hCa j h1))]
   exact par j h1
  ·by_cases h2:j=2 * i
   ·subst h2
    rw [gC2.1,getD_app_l (by simp only [List.length_set]; omega),getD_set_ne (Ne.symm hab),getD_set_eq (by omega)]
    omega
   ·obtain rfl:j=2 * i+1:=by omega
    rw [gC2.2,getD_app_l (by simp only [List.length_set]; omega),getD_set_eq (by simp; omega)]
    omega
 ·intro j hj
  simp only
  by_cases h1:j<2 * i
  ·rw [gC j h1]; exact clt j h1
  ·by_cases h2:j=2 * i
   ·subst h2; rw [gC2.1]; omega
   ·obtain rfl:j=2 * i+1:=by omega
    rw [gC2.2]; omega
 ·intro k
  simp only [List.mem_append,List.mem_cons,List.not_mem_nil,or_false]
  rw [mem k]
  omega
 ·simp only
  rw [List.nodup_append]
  refine ⟨nd,by simp [hab],fun x hx y hy => ?_⟩
  have h1:=(mem x).1 hx
  simp only [List.mem_cons,List.not_mem_nil,or_false] at hy
  omega
 ·intro k hk
  simp only
  rw [gW k (by omega)]; exact leaf k hk
 ·intro q hq
  simp only
  by_cases h1:q<i
  ·rw [gW _ (by omega),gC _ (by omega),gC _ (by omega),gW _ (hCl _ (by omega)),gW _ (hCl _ (by omega))]
   exact new q h1
  ·obtain rfl:q=i:=by omega
   rw [gWn,gC2.1,gC2.2,gW _ haL,gW _ hbL]
 ·intro j j' hjj hj'
  simp only
  by_cases h1:j'<2 * i
  ·rw [gC _ (by omega),gC _ h1,gW _ (hCl _ (by omega)),gW _ (hCl _ h1)]
   exact asc j j' hjj h1
  ·by_cases h2:j'=2 * i
   ·subst h2
    rw [gC2.1,gW _ haL]
    by_cases h3:j<2 * i
    ·rw [gC _ h3,gW _ (hCl _ h3)]; exact haU j h3
    ·obtain rfl:j=2 * i:=by omega
     rw [gC2.1,gW _ haL]; exact Int.le_refl _
   ·obtain rfl:j'=2 * i+1:=by omega
    rw [gC2.2,gW _ hbL]
    by_cases h3:j<2 * i
    ·rw [gC _ h3,gW _ (hCl _ h3)]; exact hbU j h3
    ·by_cases h4:j=2 * i
     ·subst h4; rw [gC2.1,gW _ haL]; exact ha1
     ·obtain rfl:j=2 * i+1:=by omega
      rw [gC2.2,gW _ hbL]; exact Int.le_refl _
 ·intro j u hj hu
  simp only at hu ⊢
  have hmax:∀ j,j<2 * (i+1)→(s.W++[s.W.getD a 0+s.W.getD b 0]).getD ((s.C++[a,b]).getD j 0) 0≤s.W.getD b 0:=by
   intro j hj
   by_cases h1:j<2 * i
   ·rw [gC _ h1,gW _ (hCl _ h1)]; exact hbU j h1
   ·by_cases h2:j=2 * i
    ·subst h2; rw [gC2.1,gW _ haL]; exact ha1
    ·obtain rfl:j=2 * i+1:=by omega
     rw [gC2.2,gW _ hbL]; exact Int.le_refl _
  refine Int.le_trans (hmax j hj) ?_
  by_cases h1:u=W0.length+i
  ·subst h1; rw [gWn]; omega
  ·rw [gW u (by omega)]
   exact pb.min u (by omega)
 ·intro p q h1 h2 h3
  simp only
  by_cases h4:q<W0.length+i
  ·rw [gW p (by omega),gW q h4]; exact mono p q h1 h2 h4
  ·obtain rfl:q=W0.length+i:=by omega
   rw [gWn]
   by_cases h5:p=W0.length+i
   ·subst h5; rw [gWn]; exact Int.le_refl _
   ·rw [gW p (by omega)]
    have:=hlast (p-W0.length) (by omega)
    rw [show W0.length+(p-W0.length)=p by omega] at this
    exact this
 ·intro k hk
  simp only
  by_cases h1:k<W0.length+i
  ·rw [gW k h1]; exact pos k h1
  ·obtain rfl:k=W0.length+i:=by omega
   rw [gWn]; omega
 ·simp only
  rw [left_app _ (by omega) (by omega)]
  omega
 ·intro k hk
  simp only
  by_cases h1:k<W0.length+i
  ·rw [gW k h1]; exact le k h1
  ·obtain rfl:k=W0.length+i:=by omega
   rw [gWn]; omega
theorem inv_all {W0:List Int} (hs:∀ p q,p≤q→q<W0.length→W0.getD p 0≤W0.getD q 0) (hp:∀ k,k<W0.length→1≤W0.getD k 0):∀ i,i<W0.length∨i=0→Inv W0 i (mst W0 i)
 | 0,_=>inv_zero hp
 | i+1,h=>inv_step hs (by omega) (inv_all hs hp i (by omega))
theorem wrap_pred {n:Nat} (h:n<4611686018427387904):IntKind.i64.wrap (((n+1:Nat):Int)-1)=(n:Int):=by rw [wrap_i64 (by omega) (by omega)]; omega
theorem clo_eq {W P:List Int} (h:W.length=P.length) {n lf mg:Nat} (hn:n≤W.length) (hl:lf≤n) (hm:mg≤W.length) (h0:lf<n∨mg<W.length) (hb:W.length≤1000000) :
  tree_merge_1_clo (lf:Int) (n:Int) (mg:Int) (zw W P)=some (((lst n W lf mg).1:Int),((lst n W lf mg).2.1:Int),(n:Int),((lst n W lf mg).2.2:Int),zw W P):=by
 have hz:=zw_len h
 have fin:∀ c:Bool,(c=true↔(lf<n∧(mg=W.length∨W.getD lf 0≤W.getD mg 0))) →
   cond c ((some (IntKind.i64.wrap ((lf:Int)+1))).bind fun v10=>(some (IntKind.i64.wrap (v10-1))).bind fun v11=>some ((v11,v10,(n:Int),(mg:Int),zw W P)))
    ((some (IntKind.i64.wrap ((mg:Int)+1))).bind fun v12=>(some (IntKind.i64.wrap (v12-1))).bind fun v13=>some ((v13,(lf:Int),(n:Int),v12,zw W P)))=some (((lst n W lf mg).1:Int),((lst n W lf mg).2.1:Int),(n:Int),((lst n W lf mg).2.2:Int),zw W P):=by
  intro c hc
  unfold lst
  cases c with
  | true =>
   rw [if_pos (hc.1 rfl)]
   exact cnd_t rfl (bnd (x:=((lf+1:Nat):Int)) (by rw [wrap_succ (by omega)]) (bnd (x:=(lf:Int)) (by rw [wrap_pred (by omega)]) rfl))
  | false =>
   rw [if_neg fun e=>by have:=hc.2 e; cases this]
   exact cnd_f rfl (bnd (x:=((mg+1:Nat):Int)) (by rw [wrap_succ (by omega)]) (bnd (x:=(mg:Int)) (by rw [wrap_pred (by omega)]) rfl))
 unfold tree_merge_1_clo
 by_cases h1:lf<n
 ·by_cases h2:mg=W.length
  ·exact bndL (s:=true) (cnd_t (decide_eq_true (by omega)) (cnd_t (by rw [hz,h2]; simp) rfl)) (fin true ⟨fun _=>⟨h1,.inl h2⟩,fun _=>rfl⟩)
  ·refine bndL (s:=decide (W.getD lf 0≤W.getD mg 0)) (cnd_t (decide_eq_true (by omega)) (cnd_f (by rw [hz]; simp; omega) (bnd (ixO_of (by rw [hz]; omega)) (bnd (zw_get h (by omega)) (bnd (ixO_of (by rw [hz]; omega)) (bnd (zw_get h (by omega)) rfl)))))) (fin _ ⟨fun e=>⟨h1,.inr (of_decide_eq_true e)⟩,fun e=>decide_eq_true ?_⟩)
   rcases e.2 with e | e
   ·exact absurd e h2
   ·exact e
 ·exact bndL (s:=false) (cnd_f (decide_eq_false (by omega)) rfl) (fin false ⟨fun e=>(by cases e),fun e=>absurd e.1 h1⟩)
theorem merge_eq {W0:List Int} (hs:∀ p q,p≤q→q<W0.length→W0.getD p 0≤W0.getD q 0) (hp:∀ k,k<W0.length→1≤W0.getD k 0) (h2:2≤W0.length) (h3:W0.length≤300) (ht:W0.sum≤1099511627776) :
  tree_merge (zw W0 (List.replicate W0.length 0))=some (zw (mst W0 (W0.length-1)).W (mst W0 (W0.length-1)).P):=by
 unfold tree_merge
 have hzl:(zw W0 (List.replicate W0.length 0)).length=W0.length:=zw_len (by simp)
 refine bndL (s:=zw (mst W0 (W0.length-1)).W (mst W0 (W0.length-1)).P) ?_ rfl
 refine loop_from (fun i=>(zw (mst W0 i).W (mst W0 i).P,(W0.length:Int),((mst W0 i).lf:Int),((mst W0 i).mg:Int))) (W0.length-1) BIG ?_ (by unfold BIG; omega) (fun i hi => ?_) ?_
 ·simp only [mst]
  rw [hzl]
  rfl
 ·obtain ⟨v,v'⟩:Inv W0 i (mst W0 i)∧Inv W0 (i+1) (mst W0 (i+1)):=⟨inv_all hs hp i (by omega),inv_all hs hp (i+1) (by omega)⟩
  have hst:mst W0 (i+1)=mstep W0.length (mst W0 i):=rfl
  generalize mst W0 i=s at *
  generalize mst W0 (i+1)=s' at *
  obtain ⟨wl,pl,lf,mg1,mg2,cnt,cl,par,clt,mem,nd,leaf,new,asc,low,mono,pos,tot,le⟩:=v
  have hWP:s.W.length=s.P.length:=by omega
  have hsW:∀ p q,p≤q→q<W0.length→s.W.getD p 0≤s.W.getD q 0:=fun p q h1 h2=>by rw [leaf p (by omega),leaf q h2]; exact hs p q h1 h2
  have hmW:∀ p q,s.mg≤p→p≤q→q<s.W.length→s.W.getD p 0≤s.W.getD q 0:=fun p q h1 h2 h3=>mono p q (by omega) h2 (by omega)
  have c1:=clo_eq (W:=s.W) (P:=s.P) hWP (n:=W0.length) (lf:=s.lf) (mg:=s.mg) (by omega) lf (by omega) (by omega) (by omega)
  obtain ⟨a,l1,m1,ea⟩:∃ a l1 m1,lst W0.length s.W s.lf s.mg=(a,l1,m1):=⟨_,_,_,rfl⟩
  have pa:=lst_pick (n:=W0.length) (W:=s.W) lf (show s.mg≤s.W.length by omega) (by omega) hsW hmW
  rw [ea] at pa c1
  have wa:=pa.way
  simp only at wa c1
  have c2:=clo_eq (W:=s.W) (P:=s.P) hWP (n:=W0.length) (lf:=l1) (mg:=m1) (by omega) (by omega) (by omega) (by omega) (by omega)
  obtain ⟨b,l2,m2,eb⟩:∃ b l2 m2,lst W0.length s.W l1 m1=(b,l2,m2):=⟨_,_,_,rfl⟩
  have pb:=lst_pick (n:=W0.length) (W:=s.W) (lf:=l1) (mg:=m1) (by omega) (by omega) (by omega) hsW (fun p q h1 h2 h3=>hmW p q (by omega) h2 h3)
  rw [eb] at pb c2
  have wb:=pb.way
  simp only at wb c2
  have hs':s'=⟨s.W++[s.W.getD a 0+s.W.getD b 0],(s.P.set a (s.W.length:Int)).set b (s.W.length:Int)++[0],l2,m2,s.C++[a,b]⟩:=by
   rw [hst]
   unfold mstep
   rw [ea]
   simp only
   rw [eb]
  have haL:a<s.W.length:=by omega
  have hbL:b<s.W.length:=by omega
  have hsum:IntKind.i64.wrap (s.W.getD a 0+s.W.getD b 0)=s.W.getD a 0+s.W.getD b 0:=by
   have h4:=pos a (by omega)
   have h5:=pos b (by omega)
   have h6:=v'.le (W0.length+i) (by omega)
   have h7:=le a (by omega)
   have h8:=le b (by omega)
   exact wrap_i64 (by omega) (by omega)
  have hl1:(s.P.set a (s.W.length:Int)).length=s.W.length:=by simp; omega
  have hl2:((s.P.set a (s.W.length:Int)).set b (s.W.length:Int)).length=s.W.length:=by simp; omega
  have hz0:=zw_len hWP
  refine bnd (x:=((2 * W0.length:Nat):Int)) (by rw [wrap_i64 (by omega) (by omega)]; simp) (bnd (x:=((2 * W0.length-1:Nat):Int)) (by rw [wrap_i64 (by omega) (by omega)]; congr 1; omega) (cnd_t (decide_eq_true (by rw [hz0]; omega)) (bnd c1 (bnd c2 ?_))))
  refine bnd (ixO_of (by simp only; rw [hz0]; exact haL)) (bnd (zw_get hWP haL) (bnd (x:=zw s.W (s.P.set a (s.W.length:Int))) (by simp only; rw [hz0,zw_set hWP haL]) ?_))
  have hz1:=zw_len (W:=s.W) (P:=s.P.set a (s.W.length:Int)) hl1.symm
  refine bnd (ixO_of (by simp only; rw [hz0]; exact hbL)) (bnd (zw_get hl1.symm hbL) (bnd (x:=zw s.W ((s.P.set a (s.W.length:Int)).set b (s.W.length:Int))) (by simp only; rw [hz0,zw_set hl1.symm hbL]) ?_))
  have hz2:=zw_len (W:=s.W) (P:=(s.P.set a (s.W.length:Int)).set b (s.W.length:Int)) hl2.symm
  refine bnd (ixO_of (by rw [hz2]; exact haL)) (bnd (zw_get hl2.symm haL) (bnd (ixO_of (by rw [hz2]; exact hbL)) (bnd (zw_get hl2.symm hbL) (bnd (x:=s.W.getD a 0+s.W.getD b 0) (by simp only; rw [hsum]) ?_))))
  refine bnd (app_of (by rw [hz2]; simp; omega) (by rw [hz2]; simp; omega)) ?_
  rw [hs',zw_app hl2.symm]
 ·have v:=inv_all hs hp (W0.length-1) (by omega)
  have hz:=zw_len (W:=(mst W0 (W0.length-1)).W) (P:=(mst W0 (W0.length-1)).P) (by rw [v.wl,v.pl])
  exact bnd (x:=((2 * W0.length:Nat):Int)) (by rw [wrap_i64 (by omega) (by omega)]; simp) (bnd (x:=((2 * W0.length-1:Nat):Int)) (by rw [wrap_i64 (by omega) (by omega)]; congr 1; omega) (cnd_f (decide_eq_false (by rw [hz,v.wl]; omega)) rfl))
def dst (P:List Int) (L:Nat):Nat→List Int
 | 0=>List.replicate L 0
 | j+1=>(dst P L j).set (L-2-j) ((dst P L j).getD (P.getD (L-2-j) 0).toNat 0+1)
theorem dst_len (P:List Int) (L:Nat):∀ j,(dst P L j).length=L
 | 0=>by simp [dst]
 | j+1=>by rw [dst,List.length_set]; exact dst_len P L j
def okP (P:List Int) (L:Nat):Prop:=∀ k,k+1<L→(k:Int)<P.getD k 0∧P.getD k 0<(L:Int)
theorem dst_above (P:List Int) (L:Nat):∀ j k,j+1≤L→L-1-j≤k→∀ j',j≤j'→j'+1≤L→(dst P L j').getD k 0=(dst P L j).getD k 0:=by
 intro j k h1 h2 j' h3 h4
 obtain ⟨d,rfl⟩:∃ d,j'=j+d:=⟨j'-j,by omega⟩
 induction d with
 | zero=>rfl
 | succ d ih =>
  rw [← Nat.add_assoc,dst,getD_set_ne (by omega)]
  exact ih (by omega) (by omega)
theorem dst_eq {P:List Int} {L:Nat} (hP:okP P L) (k:Nat) (hk:k+1<L):(dst P L (L-1)).getD k 0=(dst P L (L-1)).getD (P.getD k 0).toNat 0+1:=by
 have h:=hP k hk
 have h1:(dst P L (L-1)).getD k 0=(dst P L (L-1-k)).getD k 0:=dst_above P L (L-1-k) k (by omega) (by omega) (L-1) (by omega) (by omega)
 obtain ⟨j,hj⟩:∃ j,L-1-k=j+1:=⟨L-2-k,by omega⟩
 rw [h1,hj,dst,show L-2-j=k by omega,getD_set_eq (by rw [dst_len]; omega)]
 rw [dst_above P L j (P.getD k 0).toNat (by omega) (by omega) (L-1) (by omega) (by omega)]
theorem dst_root (P:List Int) {L:Nat} (hL:0<L):(dst P L (L-1)).getD (L-1) 0=0:=by
 rw [dst_above P L 0 (L-1) (by omega) (by omega) (L-1) (by omega) (by omega)]
 simp only [dst,List.getD_eq_getElem?_getD,List.getElem?_replicate]
 split <;> rfl
theorem dst_bound (P:List Int) (L:Nat):∀ j k,0≤(dst P L j).getD k 0∧(dst P L j).getD k 0≤(j:Int)
 | 0,k=>by
  simp only [dst,List.getD_eq_getElem?_getD,List.getElem?_replicate]
  split <;> simp
 | j+1,k=>by
  rw [dst]
  have ih:=dst_bound P L j
  by_cases e:L-2-j=k
  ·subst e
   by_cases h:L-2-j<(dst P L j).length
   ·rw [getD_set_eq h]
    have:=ih (P.getD (L-2-j) 0).toNat
    omega
   ·have:((dst P L j).set (L-2-j) ((dst P L j).getD (P.getD (L-2-j) 0).toNat 0+1)).getD (L-2-j) 0=0:=by
     simp only [List.getD_eq_getElem?_getD,List.getElem?_set]
     simp [h]
    omega
  ·rw [getD_set_ne e]
   have:=ih k
   omega
def place (z u D:List Int):Nat→List Int
 | 0=>z
 | i+1=>(place z u D i).set (u.getD i 0).toNat (D.getD i 0)
theorem place_len (z u D:List Int):∀ i,(place z u D i).length=z.length
 | 0=>rfl
 | i+1=>by rw [place,List.length_set]; exact place_len z u D i
def srt (w:List Int):List Int:=sortBy w (pos w)
def wts (w:List Int):List Int:=(srt w).map fun x=>w.getD x.toNat 0
def coreD (W0:List Int):List Int:=dst (mst W0 (W0.length-1)).P (2 * W0.length-1) (2 * W0.length-2)
def dep (w:List Int):List Int :=
 if (pos w).length=0 then List.replicate w.length 0
 else if (pos w).length=1 then (List.replicate w.length 0).set ((pos w).getD 0 0).toNat 1
 else place (List.replicate w.length 0) (srt w) (coreD (wts w)) (srt w).length
theorem srt_perm (w:List Int):(srt w).Perm (pos w):=sortBy_perm w (pos w)
theorem srt_len (w:List Int):(srt w).length=(pos w).length:=(srt_perm w).length_eq
theorem wts_len (w:List Int):(wts w).length=(pos w).length:=by rw [wts,List.length_map,srt_len]
theorem srt_mem {w:List Int} {i:Nat} (h:i<(srt w).length):0≤(srt w).getD i 0∧(srt w).getD i 0<(w.length:Int)∧0<w.getD ((srt w).getD i 0).toNat 0:=by
 have h1:(srt w).getD i 0∈srt w:=by rw [← getD_at h]; exact List.getElem_mem _
 have:=posN_lt w w.length _ ((srt_perm w).mem_iff.1 h1)
 exact this
theorem wts_at {w:List Int} {i:Nat} (h:i<(srt w).length):(wts w).getD i 0=w.getD ((srt w).getD i 0).toNat 0:=by
 simp [wts,List.getD_eq_getElem?_getD,h]
theorem wts_pos {w:List Int} {i:Nat} (h:i<(wts w).length):1≤(wts w).getD i 0:=by
 rw [wts_len,← srt_len] at h
 rw [wts_at h]
 have:=srt_mem h
 omega
theorem wts_asc {w:List Int}:∀ p q,p≤q→q<(wts w).length→(wts w).getD p 0≤(wts w).getD q 0:=by
 intro p q h1 h2
 rw [wts_len,← srt_len] at h2
 rw [wts_at (by omega),wts_at h2]
 rcases Nat.lt_or_eq_of_le h1 with h3 | h3
 ·have h4:=(List.pairwise_iff_getElem.1 (sortBy_pw w (pos w))) p q (by show p<(srt w).length; omega) h2 h3
  rw [leB_iff] at h4
  have e1:(sortBy w (pos w))[p]'(by show p<(srt w).length; omega)=(srt w).getD p 0:=getD_at (l:=srt w) (by omega)
  have e2:(sortBy w (pos w))[q]'h2=(srt w).getD q 0:=getD_at (l:=srt w) h2
  rw [e1,e2] at h4
  omega
 ·subst h3; exact Int.le_refl _
theorem sum_le_of {l:List Int} {B:Int} (h:∀ x∈l,x≤B):l.sum≤B * (l.length:Int):=by
 induction l with
 | nil=>simp
 | cons x l ih =>
  have h1:=h x (by simp)
  have h2:=ih fun y hy=>h y (by simp [hy])
  rw [List.sum_cons,List.length_cons]
  have:B * ((l.length+1:Nat):Int)=B * (l.length:Int)+B:=by rw [Int.natCast_add,Int.mul_add]; simp
  omega
theorem wts_le {w:List Int} (hw:okW w):∀ x∈wts w,x≤1048576:=by
 intro x hx
 obtain ⟨k,hk,rfl⟩:=mem_getD hx
 rw [wts_len,← srt_len] at hk
 rw [wts_at hk]
 have h1:=srt_mem hk
 have:=hw.2 ((srt w).getD k 0).toNat (by omega)
 omega
theorem pos_len (w:List Int):(pos w).length≤w.length:=posN_len w w.length
theorem wts_sum {w:List Int} (hw:okW w):(wts w).sum≤314572800:=by
 have h1:=sum_le_of (wts_le hw)
 have h2:=pos_len w
 have h3:=hw.1
 rw [wts_len] at h1
 omega
theorem sort_eq {w:List Int} (hw:okW w) (h0:0<(pos w).length):slices_SortStable w (pos w)=some (srt w):=by
 have h2:=pos_len w
 have h3:=hw.1
 have:sortOk w (pos w)=true:=by
  simp only [sortOk,Bool.and_eq_true,decide_eq_true_eq,List.all_eq_true]
  refine ⟨⟨⟨⟨⟨h0,by omega⟩,by omega⟩,fun x hx => ?_⟩,fun y hy => ?_⟩,?_⟩
  ·have:=posN_lt w w.length x hx; omega
  ·obtain ⟨k,hk,rfl⟩:=mem_getD hy
   have:=hw.2 k hk; omega
  ·exact (posN_asc w w.length).imp fun h=>Int.le_of_lt h
 unfold slices_SortStable
 rw [if_pos this]
 rfl
theorem inv_wts {w:List Int} (h2:2≤(pos w).length):Inv (wts w) ((wts w).length-1) (mst (wts w) ((wts w).length-1)) :=
 inv_all wts_asc (fun k hk=>wts_pos hk) _ (by rw [wts_len]; omega)
theorem inv_okP {W0:List Int} {s:MS} (h2:2≤W0.length) (v:Inv W0 (W0.length-1) s):okP s.P (2 * W0.length-1):=by
 intro k hk
 have hm:k∈s.C:=(v.mem k).2 (by have:=v.cnt; have:=v.mg2; have:=v.lf; omega)
 obtain ⟨j,hj,rfl⟩:=List.getElem_of_mem hm
 have e:s.C[j]=s.C.getD j 0:=by simp [hj]
 rw [v.cl] at hj
 rw [e,v.par j hj]
 have:=v.clt j hj
 omega
theorem take_succ_app {l:List Int} {i:Nat} (h:i<l.length):l.take (i+1)=l.take i++[l.getD i 0]:=by
 rw [List.take_add_one,List.getElem?_eq_getElem h,← getD_at h]; rfl
theorem rep_succ_app (i:Nat):List.replicate (i+1) (0:Int)=List.replicate i 0++[0]:=by
 rw [List.replicate_succ']
theorem depths_eq {w:List Int} (hw:okW w):tree_depths w=some (dep w):=by
 have hl:=hw.1
 have hpl:=pos_len w
 unfold tree_depths
 refine bnd (x:=List.replicate w.length (0:Int)) (by unfold mkO; rw [if_pos (by omega)]; simp) (bnd (positive_eq w hl) ?_)
 by_cases h0:(pos w).length=0
 ·exact cnd_t (by simp [h0]) (by rw [dep,if_pos h0])
 refine cnd_f (by simp; intro e; apply h0; rw [e]; rfl) ?_
 by_cases h1:(pos w).length=1
 ·have hm:(pos w).getD 0 0∈pos w:=by rw [← getD_at (by omega)]; exact List.getElem_mem _
  have hx:=posN_lt w w.length _ hm
  refine cnd_t (by simp [h1]) (bnd (ixO_of (i:=0) (by omega)) (bnd (getO_D (by omega)) (bnd (x:=((pos w).getD 0 0).toNat) (by unfold ixO; rw [if_pos (by simp only [List.length_replicate]; omega)]) (bnd rfl ?_))))
  rw [dep,if_neg h0,if_pos h1]
 refine cnd_f (by simp; omega) ?_
 have h2:2≤(pos w).length:=by omega
 have hsl:=srt_len w
 have hwl:=wts_len w
 have hWs:=wts_sum hw
 refine bnd (sort_eq hw (by omega)) (bnd (x:=((2 * (pos w).length:Nat):Int)) (by rw [hsl,wrap_i64 (by omega) (by omega)]; simp) (bnd (x:=()) (by unfold mkcO; rw [if_pos (by omega)]) ?_))
 refine bndL (s:=zw (wts w) (List.replicate (wts w).length 0)) ?_ ?_
 ·refine loop_from (fun i=>(zw ((wts w).take i) (List.replicate i 0),(i:Int))) (srt w).length BIG rfl (by unfold BIG; omega) (fun i hi => ?_) (cnd_f (by simp) ?_)
  ·have hx:=srt_mem hi
   have hti:((wts w).take i).length=i:=by rw [List.length_take]; omega
   refine cnd_t (by simp; omega) (bnd (ixO_of hi) (bnd (getO_D hi) (bnd (x:=((srt w).getD i 0).toNat) (by unfold ixO; rw [if_pos (by omega)]) (bnd (getO_D (by omega)) (bnd (app_of (by rw [zw_len (by simp; omega)]; simp; omega) (by rw [zw_len (by simp; omega)]; simp; omega)) (bnd (x:=((i+1:Nat):Int)) (by rw [wrap_succ (by omega)]) ?_))))))
   rw [zw_app (by simp; omega),take_succ_app (by omega),rep_succ_app,wts_at hi]
  ·rw [hsl,← hwl,List.take_length]
 have hmg:=merge_eq (W0:=wts w) wts_asc (fun k hk=>wts_pos hk) (by omega) (by omega) (by omega)
 refine bnd hmg ?_
 have v:=inv_wts h2
 have hP:=inv_okP (by omega) v
 have hz:=zw_len (W:=(mst (wts w) ((wts w).length-1)).W) (P:=(mst (wts w) ((wts w).length-1)).P) (by rw [v.wl,v.pl])
 have hwL:=v.wl
 have hpL:=v.pl
 obtain ⟨L,hL⟩:∃ L,L=2 * (wts w).length-1:=⟨_,rfl⟩
 have hzL:(zw (mst (wts w) ((wts w).length-1)).W (mst (wts w) ((wts w).length-1)).P).length=L:=by omega
 have hcd:dep w=place (List.replicate w.length 0) (srt w) (dst (mst (wts w) ((wts w).length-1)).P L (L-1)) (srt w).length:=by
  rw [dep,if_neg h0,if_neg h1,coreD,hL]
  rfl
 rw [hcd]
 rw [← hL] at hP
 generalize (mst (wts w) ((wts w).length-1)).P=P at *
 generalize (mst (wts w) ((wts w).length-1)).W=W at *
 refine bnd (x:=List.replicate L (0:Int)) (by unfold mkO; rw [hzL,if_pos (by omega)]; simp) (bnd (x:=((L:Int)-2)) (by rw [hzL,wrap_i64 (by omega) (by omega)]) ?_)
 refine bndL (s:=dst P L (L-1)) ?_ ?_
 ·refine loop_from (fun j=>(dst P L j,(L:Int)-2-(j:Int))) (L-1) BIG (by simp [dst]) (by unfold BIG; omega) (fun j hj => ?_) (cnd_f (decide_eq_false (by omega)) rfl)
  have hk:=hP (L-2-j) (by omega)
  have hb:=dst_bound P L j (P.getD (L-2-j) 0).toNat
  have hdl:=dst_len P L j
  have ek:(L:Int)-2-(j:Int)=((L-2-j:Nat):Int):=by omega
  simp only
  rw [ek]
  refine cnd_t (decide_eq_true (by omega)) (bnd (ixO_of (by rw [hzL]; omega)) (bnd (zw_get (by omega) (by omega)) (bnd (x:=(P.getD (L-2-j) 0).toNat) (by unfold ixO; rw [if_pos (by rw [hdl]; simp only; omega)]) (bnd (getO_D (by omega)) (bnd (x:=(dst P L j).getD (P.getD (L-2-j) 0).toNat 0+1) (by rw [wrap_i64 (by omega) (by omega)]) (bnd (ixO_of (by omega)) (bnd rfl (bnd (x:=(L:Int)-2-((j+1:Nat):Int)) (by rw [wrap_i64 (by omega) (by omega)]; congr 1; omega) ?_))))))))
  rfl
 refine bndL (s:=place (List.replicate w.length 0) (srt w) (dst P L (L-1)) (srt w).length) ?_ rfl
 have hdl:=dst_len P L (L-1)
 refine loop_from (fun i=>(place (List.replicate w.length 0) (srt w) (dst P L (L-1)) i,(i:Int))) (srt w).length BIG rfl (by unfold BIG; omega) (fun i hi => ?_) (cnd_f (by simp) rfl)
 have hx:=srt_mem hi
 have hpll:=place_len (List.replicate w.length 0) (srt w) (dst P L (L-1)) i
 rw [List.length_replicate] at hpll
 exact cnd_t (by simp; omega) (bnd (ixO_of hi) (bnd (getO_D hi) (bnd (ixO_of (by omega)) (bnd (getO_D (by omega)) (bnd (x:=((srt w).getD i 0).toNat) (by unfold ixO; rw [if_pos (by omega)]) (bnd rfl (bnd (x:=((i+1:Nat):Int)) (by rw [wrap_succ (by omega)]) rfl)))))))
/-! what stands where -/
theorem place_at {z u D:List Int} (hd:∀ a b,a<u.length→b<u.length→(u.getD a 0).toNat=(u.getD b 0).toNat→a=b) (hz:∀ a,a<u.length→(u.getD a 0).toNat<z.length):∀ i,i≤u.length→∀ k,k<i→(place z u D i).getD (u.getD k 0).toNat 0=D.getD k 0
 | 0,_,k,h=>by omega
 | i+1,hi,k,h=>by
  rw [place]
  by_cases e:k=i
  ·subst e; exact getD_set_eq (by rw [place_len]; exact hz k (by omega))
  ·rw [getD_set_ne (fun h2=>e (hd k i (by omega) (by omega) h2.symm))]
   exact place_at hd hz i (by omega) k (by omega)
theorem place_out {z u D:List Int} {x:Nat}:∀ i,(∀ k,k<i→(u.getD k 0).toNat≠x)→(place z u D i).getD x 0=z.getD x 0
 | 0,_=>rfl
 | i+1,h=>by
  rw [place,getD_set_ne (h i (by omega))]
  exact place_out i fun k hk=>h k (by omega)
theorem srt_dist {w:List Int} {a b:Nat} (ha:a<(srt w).length) (hb:b<(srt w).length) (h:((srt w).getD a 0).toNat=((srt w).getD b 0).toNat):a=b:=by
 have h1:=srt_mem ha
 have h2:=srt_mem hb
 have hn:(srt w).Nodup:=(srt_perm w).nodup_iff.2 ((posN_asc w w.length).imp fun h=>by omega)
 have e:(srt w)[a]=(srt w)[b]:=by rw [getD_at ha,getD_at hb]; omega
 have hp:=List.pairwise_iff_getElem.1 hn
 rcases Nat.lt_trichotomy a b with h3 | h3 | h3
 ·exact absurd e (hp a b ha hb h3)
 ·exact h3
 ·exact absurd e.symm (hp b a hb ha h3)
theorem dep_len (w:List Int):(dep w).length=w.length:=by
 unfold dep
 split
 ·simp
 ·split
  ·simp
  ·rw [place_len]; simp
theorem rep_getD (n k:Nat):(List.replicate n (0:Int)).getD k 0=0:=by
 simp only [List.getD_eq_getElem?_getD,List.getElem?_replicate]; split <;> rfl
theorem dep_srt {w:List Int} (h2:2≤(pos w).length) {k:Nat} (hk:k<(pos w).length):(dep w).getD ((srt w).getD k 0).toNat 0=(coreD (wts w)).getD k 0:=by
 rw [dep,if_neg (by omega),if_neg (by omega)]
 refine place_at (fun a b ha hb h=>srt_dist ha hb h) (fun a ha => ?_) _ (Nat.le_refl _) k (by rw [srt_len]; exact hk)
 have:=srt_mem ha
 simp only [List.length_replicate]; omega
theorem dep_zero {w:List Int} {i:Nat} (h:¬ 0<w.getD i 0):(dep w).getD i 0=0:=by
 unfold dep
 split
 ·exact rep_getD _ _
 ·split
  ·rename_i h1
   have hm:(pos w).getD 0 0∈pos w:=by rw [← getD_at (by omega)]; exact List.getElem_mem _
   have:=posN_lt w w.length _ hm
   rw [getD_set_ne (fun e=>by rw [e] at this; omega)]
   exact rep_getD _ _
  ·rw [place_out _ (fun k hk e=>by have:=srt_mem hk; rw [e] at this; omega)]
   exact rep_getD _ _
theorem dep_one {w:List Int} (h1:(pos w).length=1) {i:Nat} (hi:i<w.length) (h:0<w.getD i 0):(dep w).getD i 0=1:=by
 have hm:=posN_mem w w.length i hi h
 have he:(pos w).getD 0 0=(i:Int):=by
  obtain ⟨x,hx⟩:=List.length_eq_one_iff.1 h1
  have hm:(i:Int)∈pos w:=hm
  rw [hx] at hm ⊢
  simp at hm
  simp [hm]
 rw [dep,if_neg (by omega),if_pos h1,he,Int.toNat_natCast,getD_set_eq (by simp; omega)]
theorem srt_find {w:List Int} {i:Nat} (hi:i<w.length) (h:0<w.getD i 0):∃ k,k<(pos w).length∧(srt w).getD k 0=(i:Int):=by
 have hm:=(srt_perm w).mem_iff.2 (posN_mem w w.length i hi h)
 obtain ⟨k,hk,e⟩:=mem_getD hm
 exact ⟨k,by rw [← srt_len]; exact hk,e.symm⟩
/-! halved -/
def hv (w:List Int):List Int:=w.map fun x=>(x+1) / 2
def hvN (w:List Int):Nat→List Int
 | 0=>w
 | j+1=>hv (hvN w j)
theorem hv_len (w:List Int):(hv w).length=w.length:=by simp [hv]
theorem hv_at (w:List Int) (i:Nat):(hv w).getD i 0=if i<w.length then (w.getD i 0+1) / 2 else 0:=by
 by_cases h:i<w.length
 ·simp [hv,List.getD_eq_getElem?_getD,h]
 ·simp [hv,List.getD_eq_getElem?_getD,h]
theorem posN_congr {w v:List Int}:∀ n,(∀ i,i<n→(0<w.getD i 0↔0<v.getD i 0))→posN w n=posN v n
 | 0,_=>rfl
 | n+1,h=>by
  have ih:=posN_congr n fun i hi=>h i (by omega)
  have h1:=h n (by omega)
  rw [posN,posN,ih]
  by_cases h2:0<w.getD n 0
  ·rw [if_pos h2,if_pos (h1.1 h2)]
  ·rw [if_neg h2,if_neg (fun e=>h2 (h1.2 e))]
theorem hv_pos {w:List Int} (hw:okW w):pos (hv w)=pos w:=by
 unfold pos
 rw [hv_len]
 refine posN_congr _ fun i hi => ?_
 rw [hv_at,if_pos hi]
 have:=hw.2 i hi
 omega
theorem hv_ok {w:List Int} (hw:okW w):okW (hv w):=by
 refine ⟨by rw [hv_len]; exact hw.1,fun i hi => ?_⟩
 rw [hv_len] at hi
 rw [hv_at,if_pos hi]
 have:=hw.2 i hi
 omega
theorem hvN_ok {w:List Int} (hw:okW w):∀ j,okW (hvN w j)
 | 0=>hw
 | j+1=>hv_ok (hvN_ok hw j)
theorem hvN_len (w:List Int):∀ j,(hvN w j).length=w.length
 | 0=>rfl
 | j+1=>by rw [hvN,hv_len]; exact hvN_len w j
theorem hvN_pos {w:List Int} (hw:okW w):∀ j,pos (hvN w j)=pos w
 | 0=>rfl
 | j+1=>by rw [hvN,hv_pos (hvN_ok hw j)]; exact hvN_pos hw j
theorem hvN_le {w:List Int} (hw:okW w):∀ j,j≤20→∀ i,i<w.length→(hvN w j).getD i 0≤((2 ^ (20-j):Nat):Int)
 | 0,_,i,hi=>by have:=hw.2 i hi; simpa [hvN] using this.2
 | j+1,hj,i,hi=>by
  have ih:=hvN_le hw j (by omega) i hi
  rw [hvN,hv_at,if_pos (by rw [hvN_len]; exact hi)]
  have e:2 ^ (20-j)=2 * 2 ^ (20-(j+1)):=by rw [show 20-j=(20-(j+1))+1 by omega,Nat.pow_succ]; omega
  rw [e] at ih
  omega
/-! all weights the same -/
theorem ones_mst {W0:List Int} (hs:∀ k,k<W0.length→W0.getD k 0=1):∀ i,i<W0.length∨i=0→(mst W0 i).lf=min (2 * i) W0.length∧(mst W0 i).mg=W0.length+(2 * i-W0.length)∧∀ j,j<2 * i→(mst W0 i).C.getD j 0=j
 | 0,_=>⟨by simp [mst],by simp [mst],fun j h=>by omega⟩
 | i+1,h=>by
  have hs1:∀ p q,p≤q→q<W0.length→W0.getD p 0≤W0.getD q 0:=fun p q h1 h2=>by rw [hs p (by omega),hs q h2]; omega
  have v:=inv_all hs1 (fun k hk=>by rw [hs k hk]; omega) i (by omega)
  obtain ⟨e1,e2,e3⟩:=ones_mst hs i (by omega)
  obtain ⟨s,hse⟩:∃ s,s=mst W0 i:=⟨_,rfl⟩
  rw [← hse] at v e1 e2 e3
  have key:∀ lf mg,lf+mg=s.lf+s.mg∨lf+mg=s.lf+s.mg+1→lf=min (lf+mg-W0.length) W0.length→W0.length≤mg→(lst W0.length s.W lf mg).1=lf+mg-W0.length∧(lst W0.length s.W lf mg).2.1+(lst W0.length s.W lf mg).2.2=lf+mg+1∧(lst W0.length s.W lf mg).2.1=min (lf+mg+1-W0.length) W0.length∧W0.length≤(lst W0.length s.W lf mg).2.2:=by
   intro lf mg h1 h2 h3
   have h4:=v.cnt
   have h5:=v.wl
   unfold lst
   by_cases hc:lf<W0.length
   ·have hcond:lf<W0.length∧(mg=s.W.length∨s.W.getD lf 0≤s.W.getD mg 0):=by
     refine ⟨hc,?_⟩
     rcases Nat.lt_or_ge mg s.W.length with h6 | h6
     ·right
      rw [v.leaf lf hc,hs lf hc]
      exact v.pos mg (by omega)
     ·left
      have:=v.mg2
      omega
    rw [if_pos hcond]
    refine ⟨?_,?_,?_,?_⟩ <;> (try simp only) <;> omega
   ·rw [if_neg (fun e=>hc e.1)]
    refine ⟨?_,?_,?_,?_⟩ <;> (try simp only) <;> omega
  have k1:=key s.lf s.mg (.inl rfl) (by have:=v.cnt; omega) v.mg1
  have k2:=key (lst W0.length s.W s.lf s.mg).2.1 (lst W0.length s.W s.lf s.mg).2.2 (.inr (by omega)) (by rw [k1.2.2.1]; omega) k1.2.2.2
  have hcn:=v.cnt
  have hcl:=v.cl
  have g2:=getN_two (C:=s.C) (a:=(lst W0.length s.W s.lf s.mg).1) (b:=(lst W0.length s.W (lst W0.length s.W s.lf s.mg).2.1 (lst W0.length s.W s.lf s.mg).2.2).1) hcl
  rw [mst,← hse]
  unfold mstep
  simp only
  refine ⟨by omega,by omega,fun j hj => ?_⟩
  by_cases h1:j<2 * i
  ·rw [getN_app_l (by omega)]; exact e3 j h1
  ·by_cases h2:j=2 * i
   ·subst h2; rw [g2.1]; omega
   ·obtain rfl:j=2 * i+1:=by omega
    rw [g2.2]; omega
theorem ones_P {W0:List Int} (hs:∀ k,k<W0.length→W0.getD k 0=1) (h2:2≤W0.length) (k:Nat) (hk:k<2 * W0.length-2):(mst W0 (W0.length-1)).P.getD k 0=((W0.length+k / 2:Nat):Int):=by
 have hs1:∀ p q,p≤q→q<W0.length→W0.getD p 0≤W0.getD q 0:=fun p q h1 h2=>by rw [hs p (by omega),hs q h2]; omega
 have v:=inv_all hs1 (fun k hk=>by rw [hs k hk]; omega) (W0.length-1) (by omega)
 have e:=(ones_mst hs (W0.length-1) (by omega)).2.2 k (by omega)
 have:=v.par k (by omega)
 rw [e] at this
 exact this
theorem ones_depth {W0:List Int} (hs:∀ k,k<W0.length→W0.getD k 0=1) (h2:2≤W0.length):∀ t r:Nat,r+1<2 ^ (t+1)→r≤2 * W0.length-2→(coreD W0).getD (2 * W0.length-2-r) 0≤(t:Int):=by
 have hs1:∀ p q,p≤q→q<W0.length→W0.getD p 0≤W0.getD q 0:=fun p q h1 h2=>by rw [hs p (by omega),hs q h2]; omega
 have v:=inv_all hs1 (fun k hk=>by rw [hs k hk]; omega) (W0.length-1) (by omega)
 have hP:=inv_okP h2 v
 have hroot:(coreD W0).getD (2 * W0.length-2) 0=0:=by
  have:=dst_root (mst W0 (W0.length-1)).P (L:=2 * W0.length-1) (by omega)
  rw [show 2 * W0.length-1-1=2 * W0.length-2 by omega] at this
  exact this
 intro t
 induction t with
 | zero =>
  intro r h1 h3
  obtain rfl:r=0:=by omega
  rw [Nat.sub_zero,hroot]; exact Int.le_refl _
 | succ t ih =>
  intro r h1 h3
  by_cases h0:r=0
  ·subst h0; rw [Nat.sub_zero,hroot]; omega
  have e:=dst_eq hP (2 * W0.length-2-r) (by omega)
  rw [show 2 * W0.length-1-1=2 * W0.length-2 by omega] at e
  rw [ones_P hs h2 _ (by omega),Int.toNat_natCast] at e
  have hp:2 ^ (t+1+1)=2 * 2 ^ (t+1):=by rw [Nat.pow_succ]; omega
  have:=ih ((r-1) / 2) (by omega) (by omega)
  rw [show 2 * W0.length-2-(r-1) / 2=W0.length+(2 * W0.length-2-r) / 2 by omega] at this
  unfold coreD at *
  omega
def fits (w:List Int) (limit:Int):Prop:=∀ i,i<w.length→(dep w).getD i 0≤limit
theorem ones_fits {w:List Int} {limit:Int} (hw:okW w) (hL:okL w limit) (h1:∀ i,i<w.length→w.getD i 0≤1):fits w limit:=by
 intro i hi
 unfold okL at hL
 have hlim:5≤limit:=by
  have:=hL.1
  split at this <;> omega
 by_cases hp:0<w.getD i 0
 ·by_cases h2:2≤(pos w).length
  ·obtain ⟨k,hk,e⟩:=srt_find hi hp
   have hd:=dep_srt h2 hk
   rw [e,Int.toNat_natCast] at hd
   rw [hd]
   have hwl:=wts_len w
   have hone:∀ k,k<(wts w).length→(wts w).getD k 0=1:=by
    intro k hk
    have h3:=wts_pos hk
    rw [hwl,← srt_len] at hk
    rw [wts_at hk] at h3 ⊢
    have h4:=srt_mem hk
    have:=h1 ((srt w).getD k 0).toNat (by omega)
    omega
   have hpl:=pos_len w
   have hw1:=hw.1
   have hod:=fun t r=>ones_depth hone (by omega) t r
   have er:k=2 * (wts w).length-2-(2 * (wts w).length-2-k):=by omega
   rw [er]
   by_cases h19:(pos w).length≤19
   ·rw [if_pos h19] at hL
    have:=hod 5 (2 * (wts w).length-2-k) (by simp only [Nat.reduceAdd,Nat.reducePow]; omega) (by omega)
    omega
   ·rw [if_neg h19] at hL
    have:=hod 9 (2 * (wts w).length-2-k) (by simp only [Nat.reduceAdd,Nat.reducePow]; omega) (by omega)
    omega
  ·have hc:(pos w).length=1:=by
    have:=posN_mem w w.length i hi hp
    have:0<(pos w).length:=List.length_pos_of_mem this
    omega
   rw [dep_one hc hi hp]; omega
 ·rw [dep_zero hp]; omega
theorem contains_eq (l:List Int) (limit:Int) (hl:l.length≤1000):((∀ i,i<l.length→l.getD i 0≤limit)→slices_ContainsFunc_int_int_of_tree_Lengths_1 l limit=some false)∧(¬ (∀ i,i<l.length→l.getD i 0≤limit)→slices_ContainsFunc_int_int_of_tree_Lengths_1 l limit=some true):=by
 have go:∀ i,i<l.length→l.getD i 0≤limit→∀ {O:Type},(cond ((decide ((i:Int)<(l.length:Int))))
    ((ixO (i:Int) l.length).bind fun v2 =>
    (getO l v2).bind fun v3 =>
    (tree_Lengths_1_cap v3 limit).bind fun v4 =>
    cond (v4)
     (some (.inr (.inr ((i:Int)))))
     ((some (IntKind.i64.wrap ((i:Int)+1))).bind fun v6 =>
     some (.inl v6)))
    (some (.inr (.inl ()))))=(some (.inl ((i+1:Nat):Int)):Option (Int⊕(Unit⊕Int))):=by
  intro i hi hle O
  exact cnd_t (by simp; omega) (bnd (ixO_of hi) (bnd (getO_D hi) (bnd (x:=false) (by unfold tree_Lengths_1_cap; rw [decide_eq_false (by omega)]) (cnd_f rfl (bnd (x:=((i+1:Nat):Int)) (by rw [wrap_succ (by omega)]) rfl)))))
 constructor
 ·intro h
  unfold slices_ContainsFunc_int_int_of_tree_Lengths_1
  refine bnd (x := -1) ?_ (by simp)
  unfold slices_IndexFunc_int_int_of_tree_Lengths_1
  refine bndL (s:=()) ?_ rfl
  exact loop_from (fun i=>(i:Int)) l.length BIG rfl (by unfold BIG; omega) (fun i hi=>go i hi (h i hi) (O:=Unit)) (cnd_f (by simp) rfl)
 ·intro h
  rcases first_fail (fun i=>decide (l.getD i 0≤limit)) l.length with h1 | ⟨k,hk,h1,h2⟩
  ·exact absurd (fun i hi=>of_decide_eq_true (h1 i hi)) h
  have h2:=of_decide_eq_false h2
  unfold slices_ContainsFunc_int_int_of_tree_Lengths_1
  refine bnd (x:=(k:Int)) ?_ (by simp)
  unfold slices_IndexFunc_int_int_of_tree_Lengths_1
  refine bndR (a:=(k:Int)) ?_ rfl
  refine loop_from (fun i=>(i:Int)) k BIG rfl (by unfold BIG; omega) (fun i hi=>go i (by omega) (of_decide_eq_true (h1 i hi)) (O:=Unit)) ?_
  exact cnd_t (by simp; omega) (bnd (ixO_of hk) (bnd (getO_D hk) (bnd (x:=true) (by unfold tree_Lengths_1_cap; rw [decide_eq_true (by omega)]) (cnd_t rfl rfl))))
def hvP (w:List Int):Nat→List Int
 | 0=>w
 | i+1=>(hvP w i).set i (((hvP w i).getD i 0+1) / 2)
theorem hvP_len (w:List Int):∀ i,(hvP w i).length=w.length
 | 0=>rfl
 | i+1=>by rw [hvP,List.length_set]; exact hvP_len w i
theorem hvP_at (w:List Int):∀ i k,i≤w.length→(hvP w i).getD k 0=if k<i then (w.getD k 0+1) / 2 else w.getD k 0
 | 0,k,_=>by simp [hvP]
 | i+1,k,h=>by
  rw [hvP]
  by_cases e:i=k
  ·subst e
   rw [getD_set_eq (by rw [hvP_len]; omega),hvP_at w i i (by omega),if_neg (by omega),if_pos (by omega)]
  ·rw [getD_set_ne e,hvP_at w i k (by omega)]
   by_cases h1:k<i
   ·rw [if_pos h1,if_pos (by omega)]
   ·rw [if_neg h1,if_neg (by omega)]
theorem hvP_all (w:List Int):hvP w w.length=hv w:=by
 apply List.ext_getElem
 ·rw [hvP_len,hv_len]
 ·intro i h1 h2
  rw [getD_at h1,getD_at h2,hvP_at w _ _ (Nat.le_refl _),hv_at]
  rw [hvP_len] at h1
  rw [if_pos h1,if_pos h1]
theorem quo_two {x:Int} (h0:0≤x) (h1:x<4611686018427387904):quoO .i64 x 2=some (x / 2):=by
 unfold quoO
 rw [if_neg (by omega),Int.tdiv_eq_ediv_of_nonneg h0,wrap_i64 (by omega) (by omega)]
theorem fits_first {w:List Int} {limit:Int} (hw:okW w) (hL:okL w limit):∃ J,J≤20∧(∀ j,j<J→¬ fits (hvN w j) limit)∧fits (hvN w J) limit:=by
 have h20:fits (hvN w 20) limit:=by
  refine ones_fits (hvN_ok hw 20) ?_ fun i hi => ?_
  ·unfold okL at hL ⊢
   rw [hvN_pos hw]; exact hL
  ·rw [hvN_len] at hi
   simpa using hvN_le hw 20 (Nat.le_refl _) i hi
 have:∀ n,(∃ J,J<n∧(∀ j,j<J→¬ fits (hvN w j) limit)∧fits (hvN w J) limit)∨∀ j,j<n→¬ fits (hvN w j) limit:=by
  intro n
  induction n with
  | zero=>exact .inr fun j h=>by omega
  | succ n ih =>
   rcases ih with ⟨J,h1,h2⟩ | h
   ·exact .inl ⟨J,by omega,h2⟩
   ·by_cases hf:fits (hvN w n) limit
    ·exact .inl ⟨n,by omega,h,hf⟩
    ·refine .inr fun j hj => ?_
     by_cases e:j=n
     ·subst e; exact hf
     ·exact h j (by omega)
 rcases this 21 with ⟨J,h1,h2⟩ | h
 ·exact ⟨J,by omega,h2⟩
 ·exact absurd h20 (h 20 (by omega))
theorem clone03 (w:List Int) (h:w.length≤300):slices_Clone_int_int w=some w:=by
 unfold slices_Clone_int_int
 rw [if_pos (by omega)]
theorem lengths_at {w:List Int} {limit:Int} (hw:okW w) (hL:okL w limit) {J:Nat} (hJ:J≤20) (hno:∀ j,j<J→¬ fits (hvN w j) limit) (hyes:fits (hvN w J) limit):tree_Lengths w limit=some (dep (hvN w J),0):=by
 unfold tree_Lengths
 refine bndL (s:=false) (bnd ((validW_eq w).1 hw) (cnd_f rfl (bnd ((validL_eq w limit hw.1).1 hL) rfl))) (cnd_f rfl (bnd (clone03 w hw.1) ?_))
 refine bndR (a:=(dep (hvN w J),0)) ?_ rfl
 have hdl:=fun j=>dep_len (hvN w j)
 have hll:=hvN_len w
 have hw1:=hw.1
 refine loop_from (fun j=>hvN w j) J BIG rfl (by unfold BIG; omega) (fun j hj => ?_) ?_
 ·have hok:=hvN_ok hw j
  have hc:=(contains_eq (dep (hvN w j)) limit (by rw [hdl,hll]; omega)).2 (fun h=>hno j hj (fun i hi=>h i (by rw [hdl]; exact hi)))
  refine bnd (depths_eq hok) (bnd hc (cnd_f rfl ?_))
  refine bndL (s:=hv (hvN w j)) ?_ rfl
  rw [← hvP_all]
  refine loop_from (fun i=>(hvP (hvN w j) i,(i:Int))) (hvN w j).length BIG rfl (by rw [hll]; unfold BIG; omega) (fun i hi => ?_) (cnd_f (by simp) rfl)
  have hpl:=hvP_len (hvN w j) i
  have ha:=hvP_at (hvN w j) i i (by omega)
  rw [if_neg (by omega)] at ha
  have hb:=hok.2 i hi
  rw [hll] at hi
  exact cnd_t (by simp only [hll]; simp; omega) (bnd (ixO_of (by rw [hpl,hll]; exact hi)) (bnd (getO_D (by rw [hpl,hll]; exact hi)) (bnd (x:=(hvP (hvN w j) i).getD i 0+1) (by rw [wrap_i64 (by omega) (by omega)]) (bnd (quo_two (by omega) (by omega)) (bnd (ixO_of (by rw [hpl,hll]; exact hi)) (bnd rfl (bnd (x:=((i+1:Nat):Int)) (by rw [wrap_succ (by omega)]) rfl)))))))
 ·have hc:=(contains_eq (dep (hvN w J)) limit (by rw [hdl,hll]; omega)).1 (fun i hi=>hyes i (by rw [hdl] at hi; exact hi))
  exact bnd (depths_eq (hvN_ok hw J)) (bnd hc (cnd_t rfl rfl))
theorem lengths_eq {w:List Int} {limit:Int} (hw:okW w) (hL:okL w limit):∃ J,J≤20∧(∀ j,j<J→¬ fits (hvN w j) limit)∧fits (hvN w J) limit∧tree_Lengths w limit=some (dep (hvN w J),0):=by
 obtain ⟨J,h0,h1,h2⟩:=fits_first hw hL
 exact ⟨J,h0,h1,h2,lengths_at hw hL h0 h1 h2⟩
section
variable {W0:List Int} (h2:2≤W0.length) (v:Inv W0 (W0.length-1) (mst W0 (W0.length-1)))
include h2 v
theorem core_eq (k:Nat) (hk:k<2 * W0.length-2):(coreD W0).getD k 0=(coreD W0).getD ((mst W0 (W0.length-1)).P.getD k 0).toNat 0+1:=by
 have:=dst_eq (inv_okP h2 v) k (by omega)
 rw [show 2 * W0.length-1-1=2 * W0.length-2 by omega] at this
 exact this
end
section
variable {W0:List Int} (h2:2≤W0.length) (v:Inv W0 (W0.length-1) (mst W0 (W0.length-1)))
include h2 v
theorem core_root:(coreD W0).getD (2 * W0.length-2) 0=0:=by
 have _:=v.wl
 have:=dst_root (mst W0 (W0.length-1)).P (L:=2 * W0.length-1) (by omega)
 rw [show 2 * W0.length-1-1=2 * W0.length-2 by omega] at this
 exact this
end
section
variable {W0:List Int} (h2:2≤W0.length) (v:Inv W0 (W0.length-1) (mst W0 (W0.length-1)))
include h2 v
theorem taken {k:Nat} (hk:k<2 * W0.length-2):∃ j,j<2 * W0.length-2∧(mst W0 (W0.length-1)).C.getD j 0=k∧((mst W0 (W0.length-1)).P.getD k 0).toNat=W0.length+j / 2:=by
 have hm:k∈(mst W0 (W0.length-1)).C:=(v.mem k).2 (by have:=v.cnt; have:=v.mg2; have:=v.lf; omega)
 obtain ⟨j,hj,e⟩:=List.getElem_of_mem hm
 have e:(mst W0 (W0.length-1)).C.getD j 0=k:=by rw [← e]; simp [hj]
 rw [v.cl] at hj
 refine ⟨j,by omega,e,?_⟩
 have:=v.par j hj
 rw [e] at this
 rw [this,Int.toNat_natCast]
end
def sumN (f:Nat→Nat):Nat→Nat
 | 0=>0
 | n+1=>sumN f n+f n
theorem sumN_congr {f g:Nat→Nat}:∀ n,(∀ i,i<n→f i=g i)→sumN f n=sumN g n
 | 0,_=>rfl
 | n+1,h=>by rw [sumN,sumN,sumN_congr n fun i hi=>h i (by omega),h n (by omega)]
theorem sumN_add (f:Nat→Nat) (a:Nat):∀ b,sumN f (a+b)=sumN f a+sumN (fun i=>f (a+i)) b
 | 0=>rfl
 | b+1=>by rw [← Nat.add_assoc,sumN,sumN_add f a b,sumN]; omega
theorem sumN_list (f:Nat→Nat) (l:List Nat):∀ n,n≤l.length→sumN (fun j=>f (l.getD j 0)) n=((l.take n).map f).sum
 | 0,_=>rfl
 | n+1,h=>by
  rw [sumN,sumN_list f l n (by omega),List.take_add_one,List.map_append,List.sum_append]
  have:n<l.length:=by omega
  simp [this]
theorem sumN_range (f:Nat→Nat):∀ n,sumN f n=((List.range n).map f).sum
 | 0=>rfl
 | n+1=>by rw [sumN,sumN_range f n,List.range_succ,List.map_append,List.sum_append]; simp
theorem nsum_perm {l m:List Nat} (h:l.Perm m):l.sum=m.sum:=by
 induction h with
 | nil=>rfl
 | cons x _ ih=>rw [List.sum_cons,List.sum_cons,ih]
 | swap x y l=>simp only [List.sum_cons]; omega
 | trans _ _ ih1 ih2=>exact ih1.trans ih2
section
variable {W0:List Int} (h2:2≤W0.length) (v:Inv W0 (W0.length-1) (mst W0 (W0.length-1)))
include h2 v
theorem core_le {d:Int} (hd:∀ k,k<W0.length→(coreD W0).getD k 0≤d):∀ k,k<2 * W0.length-1→(coreD W0).getD k 0≤d:=by
 intro k
 induction k using Nat.strongRecOn with
 | ind k ih =>
  intro hk
  by_cases h:k<W0.length
  ·exact hd k h
  ·obtain ⟨q,rfl⟩:∃ q,k=W0.length+q:=⟨k-W0.length,by omega⟩
   have hc:=v.clt (2 * q) (by omega)
   have hp:=v.par (2 * q) (by omega)
   have e:=core_eq h2 v ((mst W0 (W0.length-1)).C.getD (2 * q) 0) (by omega)
   rw [hp,Int.toNat_natCast,show W0.length+2 * q / 2=W0.length+q by omega] at e
   have:=ih ((mst W0 (W0.length-1)).C.getD (2 * q) 0) (by omega) (by omega)
   omega
end
def kx (D:List Int) (k:Nat):Nat:=2 ^ (15-(D.getD k 0).toNat)
theorem kraft {W0:List Int} (h2:2≤W0.length) (v:Inv W0 (W0.length-1) (mst W0 (W0.length-1))) (hd:∀ k,k<W0.length→(coreD W0).getD k 0≤15):sumN (kx (coreD W0)) W0.length=32768:=by
 have hle:=core_le h2 v hd
 have hnn:∀ k,0≤(coreD W0).getD k 0:=fun k=>(dst_bound _ _ _ k).1
 have hX:∀ k,k<2 * W0.length-2→kx (coreD W0) ((mst W0 (W0.length-1)).P.getD k 0).toNat=2 * kx (coreD W0) k:=by
  intro k hk
  have e:=core_eq h2 v k hk
  have h3:=hle k (by omega)
  have h4:=hnn ((mst W0 (W0.length-1)).P.getD k 0).toNat
  unfold kx
  rw [show 15-((coreD W0).getD ((mst W0 (W0.length-1)).P.getD k 0).toNat 0).toNat=(15-((coreD W0).getD k 0).toNat)+1 by omega,Nat.pow_succ]
  omega
 have hC:∀ j,j<2 * (W0.length-1)→(mst W0 (W0.length-1)).C.getD j 0<2 * W0.length-2:=fun j hj=>by have:=v.clt j hj; omega
 have hXC:∀ j,j<2 * (W0.length-1)→kx (coreD W0) (W0.length+j / 2)=2 * kx (coreD W0) ((mst W0 (W0.length-1)).C.getD j 0):=by
  intro j hj
  have:=hX _ (hC j hj)
  rw [v.par j hj,Int.toNat_natCast] at this
  exact this
 have s1:∀ m,m≤W0.length-1→sumN (fun j=>kx (coreD W0) ((mst W0 (W0.length-1)).C.getD j 0)) (2 * m)=sumN (fun q=>kx (coreD W0) (W0.length+q)) m:=by
  intro m
  induction m with
  | zero=>intro _; rfl
  | succ m ih =>
   intro hm
   have e1:=hXC (2 * m) (by omega)
   have e2:=hXC (2 * m+1) (by omega)
   rw [show 2 * m / 2=m by omega] at e1
   rw [show (2 * m+1) / 2=m by omega] at e2
   rw [show 2 * (m+1)=2 * m+1+1 by omega,sumN,sumN,ih (by omega),sumN]
   omega
 have s2:sumN (fun j=>kx (coreD W0) ((mst W0 (W0.length-1)).C.getD j 0)) (2 * (W0.length-1))=sumN (kx (coreD W0)) (2 * (W0.length-1)):=by
  rw [sumN_list _ _ _ (by rw [v.cl]; exact Nat.le_refl _),← v.cl,List.take_length,sumN_range]
  refine nsum_perm (List.Perm.map _ ((List.perm_ext_iff_of_nodup v.nd List.nodup_range).2 fun k => ?_))
  rw [v.mem k,List.mem_range,v.cl]
  have:=v.cnt; have:=v.mg2; have:=v.lf
  omega
 have s3:=s1 (W0.length-1) (Nat.le_refl _)
 rw [s2,show 2 * (W0.length-1)=W0.length+(W0.length-2) by omega,sumN_add,show W0.length-1=(W0.length-2)+1 by omega,sumN] at s3
 have hroot:kx (coreD W0) (W0.length+(W0.length-2))=32768:=by
  unfold kx
  rw [show W0.length+(W0.length-2)=2 * W0.length-2 by omega,core_root h2 v]
  rfl
 omega
/-! what lengths weigh -/
def g1 (x:Int):Nat:=if 0<x then 2 ^ (15-x.toNat) else 0
def wsum (l:List Int):Nat:=(l.map g1).sum
theorem wsum_set {l:List Int} {a:Nat} {y:Int} (ha:a<l.length) (h0:l.getD a 0=0):wsum (l.set a y)=wsum l+g1 y:=by
 induction l generalizing a with
 | nil=>simp at ha
 | cons x l ih =>
  cases a with
  | zero =>
   have:x=0:=by simpa using h0
   subst this
   simp [wsum,g1]
   omega
  | succ a =>
   have:=ih (a:=a) (by simpa using ha) (by simpa using h0)
   simp only [wsum,List.set_cons_succ,List.map_cons,List.sum_cons] at *
   omega
theorem wsum_zero:∀ n,wsum (List.replicate n 0)=0
 | 0=>rfl
 | n+1=>by
  have:=wsum_zero n
  simp only [wsum,List.replicate_succ,List.map_cons,List.sum_cons] at *
  simp [g1,this]
theorem wsum_place {n:Nat} {u D:List Int} (hd:∀ a b,a<u.length→b<u.length→(u.getD a 0).toNat=(u.getD b 0).toNat→a=b) (hz:∀ a,a<u.length→(u.getD a 0).toNat<n):∀ i,i≤u.length→wsum (place (List.replicate n 0) u D i)=sumN (fun k=>g1 (D.getD k 0)) i
 | 0,_=>by rw [place,wsum_zero]; rfl
 | i+1,h=>by
  rw [place,wsum_set (by rw [place_len,List.length_replicate]; exact hz i (by omega)),wsum_place hd hz i (by omega),sumN]
  rw [place_out _ (fun k hk e=>by have:=hd k i (by omega) (by omega) e; omega)]
  exact rep_getD _ _
theorem ws_cons (x:Nat) (m:List Nat):∀ k,ws (x::m) k=ws m k+(if 0<x∧x≤k then 2 ^ (15-x) else 0)
 | 0=>by simp [ws]; omega
 | k+1=>by
  rw [ws,ws_cons x m k,ws,List.count_cons,Nat.add_mul]
  by_cases h:x=k+1
  ·subst h
   rw [if_neg (by omega),if_pos (show 0<k+1∧k+1≤k+1 by omega)]
   simp
   omega
  ·rw [if_neg (show ¬ (x==k+1)=true by simpa using h)]
   by_cases h3:0<x∧x≤k
   ·rw [if_pos h3,if_pos (by omega)]; omega
   ·rw [if_neg h3,if_neg (by omega)]; omega
theorem ws_wsum:∀ l:List Int,(∀ x∈l,x≤15)→ws (l.map Int.toNat) 15=wsum l
 | [],_=>by decide
 | x::l,h=>by
  rw [List.map_cons,ws_cons,ws_wsum l fun y hy=>h y (by simp [hy])]
  have hx:=h x (by simp)
  simp only [wsum,List.map_cons,List.sum_cons,g1]
  by_cases h0:0<x
  ·rw [if_pos (by omega),if_pos h0]; omega
  ·rw [if_neg (by omega),if_neg h0]; omega
theorem dep_nn {w:List Int}:∀ i,0≤(dep w).getD i 0:=by
 intro i
 by_cases hi:i<w.length
 ·by_cases hp:0<w.getD i 0
  ·by_cases h2:2≤(pos w).length
   ·obtain ⟨k,hk,e⟩:=srt_find hi hp
    have hd:=dep_srt h2 hk
    rw [e,Int.toNat_natCast] at hd
    rw [hd]
    exact (dst_bound _ _ _ k).1
   ·have hc:(pos w).length=1:=by
     have:0<(pos w).length:=List.length_pos_of_mem (posN_mem w w.length i hi hp)
     omega
    rw [dep_one hc hi hp]; omega
  ·rw [dep_zero hp]; omega
 ·have hl:=dep_len w
  simp only [List.getD_eq_getElem?_getD,List.getElem?_eq_none (show (dep w).length≤i by omega)]
  simp
theorem core_pos {w:List Int} (h2:2≤(pos w).length) {k:Nat} (hk:k<(pos w).length):1≤(coreD (wts w)).getD k 0:=by
 have hwl:=wts_len w
 have e:=core_eq (by omega) (inv_wts h2) k (by omega)
 have:0≤(coreD (wts w)).getD ((mst (wts w) ((wts w).length-1)).P.getD k 0).toNat 0:=(dst_bound _ _ _ _).1
 omega
theorem fits_core {w:List Int} {limit:Int} (h2:2≤(pos w).length) (hf:fits w limit) {k:Nat} (hk:k<(pos w).length):(coreD (wts w)).getD k 0≤limit:=by
 rw [← dep_srt h2 hk]
 have:=srt_mem (w:=w) (i:=k) (by rw [srt_len]; exact hk)
 exact hf _ (by omega)
theorem dep_check {w:List Int} {limit:Int} (hw:okW w) (hf:fits w limit) (hl:limit≤15):canon_Check (dep w)=some 0:=by
 have hdl:=dep_len w
 have h15:∀ x∈dep w,0≤x∧x≤15:=by
  intro x hx
  obtain ⟨k,hk,rfl⟩:=mem_getD hx
  have:=hf k (by omega)
  have:=dep_nn (w:=w) k
  omega
 have he:ints ((dep w).map Int.toNat)=dep w:=ints_nats fun x hx=>(h15 x hx).1
 have hw1:=hw.1
 have hc:=check_ints ((dep w).map Int.toNat) (by rw [List.length_map]; omega)
 rw [he] at hc
 rw [hc,if_pos ⟨by rw [List.length_map]; omega,fun x hx=>by
  obtain ⟨y,hy,rfl⟩:=List.mem_map.1 hx
  have:=h15 y hy; omega⟩]
 have hforms:forms ((dep w).map Int.toNat)=true:=by
  unfold forms
  by_cases h2:2≤(pos w).length
  ·have hk:=kraft (W0:=wts w) (by rw [wts_len]; exact h2) (inv_wts h2) (fun k hk=>by
    have:=fits_core h2 hf (k:=k) (by rw [wts_len] at hk; exact hk)
    omega)
   have:ws ((dep w).map Int.toNat) 15=32768:=by
    rw [ws_wsum _ fun x hx=>(h15 x hx).2,dep,if_neg (by omega),if_neg (by omega)]
    rw [wsum_place (fun a b ha hb h=>srt_dist ha hb h) (fun a ha=>by have:=srt_mem ha; omega) _ (Nat.le_refl _),srt_len,← hk,wts_len]
    refine sumN_congr _ fun k hk => ?_
    have:=core_pos h2 hk
    unfold g1 kx
    rw [if_pos (by omega)]
   simp [this]
  ·by_cases h1:(pos w).length=1
   ·have:ws ((dep w).map Int.toNat) 15=16384:=by
     have hm:(pos w).getD 0 0∈pos w:=by rw [← getD_at (by omega)]; exact List.getElem_mem _
     have hx:=posN_lt w w.length _ hm
     rw [ws_wsum _ fun x hx=>(h15 x hx).2,dep,if_neg (by omega),if_pos h1,wsum_set (by simp only [List.length_replicate]; omega) (rep_getD _ _),wsum_zero]
     decide
    -- one length of 1
    have ht:ints (tal ((dep w).map Int.toNat))=0::1::List.replicate 14 0:=by
     have hd1:∀ x∈dep w,x=0∨x=1:=by
      intro x hx
      obtain ⟨k,hk,rfl⟩:=mem_getD hx
      by_cases hp:0<w.getD k 0
      ·exact .inr (dep_one h1 (by omega) hp)
      ·exact .inl (dep_zero hp)
     have hcnt:∀ n,2≤n→((dep w).map Int.toNat).count n=0:=by
      intro n hn
      rw [List.count_eq_zero]
      intro hmem
      obtain ⟨y,hy,e⟩:=List.mem_map.1 hmem
      have:=hd1 y hy
      omega
     have hone:((dep w).map Int.toNat).count 1=1:=by
      have hz:∀ k,ws ((dep w).map Int.toNat) (k+1)=((dep w).map Int.toNat).count 1 * 16384:=by
       intro k
       induction k with
       | zero=>simp [ws]
       | succ k ih=>rw [ws,ih,hcnt (k+1+1) (by omega)]; omega
      have h14:=hz 14
      rw [show 14+1=15 from rfl,this] at h14
      omega
     apply List.ext_getElem
     ·simp [ints_len,tal_len]
     ·intro i q1 q2
      have hi:i<16:=by simpa [ints_len,tal_len] using q1
      have ht:=tal_at ((dep w).map Int.toNat) (n:=i) (by rw [tal_len]; exact hi)
      simp only [ints,List.getElem_map]
      rw [ht]
      match i,hi with
      | 0,_=>rfl
      | 1,_=>rw [if_neg (by omega),hone]; rfl
      | i+2,hi =>
       rw [if_neg (by omega),hcnt (i+2) (by omega)]
       simp only [List.getElem_cons_succ,List.getElem_replicate]
       rfl
    simp [ht]
   ·have ht:ints (tal ((dep w).map Int.toNat))=List.replicate 16 0:=by
     have h0:(pos w).length=0:=by omega
     have hd:dep w=List.replicate w.length 0:=by rw [dep,if_pos h0]
     rw [hd,List.map_replicate]
     apply List.ext_getElem
     ·simp [ints_len,tal_len]
     ·intro i q1 q2
      have hi:i<16:=by simpa [ints_len,tal_len] using q1
      have ht:=tal_at (List.replicate w.length (Int.toNat 0)) (n:=i) (by rw [tal_len]; exact hi)
      simp only [ints,List.getElem_map]
      rw [ht,List.getElem_replicate]
      by_cases h:i=0
      ·rw [if_pos h]; rfl
      ·rw [if_neg h,List.count_replicate,if_neg (by simp; omega)]; rfl
    simp [ht]
 rw [hforms]
 rfl
theorem dep_pos {w:List Int} {i:Nat} (hi:i<w.length) (h:0<w.getD i 0):0<(dep w).getD i 0:=by
 by_cases h2:2≤(pos w).length
 ·obtain ⟨k,hk,e⟩:=srt_find hi h
  have d:=dep_srt h2 hk
  rw [e,Int.toNat_natCast] at d
  have:=core_pos h2 hk
  omega
 ·have hc:(pos w).length=1:=by
   have:0<(pos w).length:=List.length_pos_of_mem (posN_mem w w.length i hi h)
   omega
  rw [dep_one hc hi h]; omega
theorem hvN_iff {w:List Int} (hw:okW w):∀ j i,i<w.length→(0<(hvN w j).getD i 0↔0<w.getD i 0)
 | 0,i,_=>Iff.rfl
 | j+1,i,hi=>by
  rw [← hvN_iff hw j i hi,hvN,hv_at,if_pos (by rw [hvN_len]; exact hi)]
  have:=(hvN_ok hw j).2 i (by rw [hvN_len]; exact hi)
  omega
def wpS:(((List Int)×Int×Int×Int))→Option (((List Int)×Int×Int×Int)⊕(((List Int)×Int)⊕T_shrink_writer)):=(fun ((s35,s36,s37,s38):(List Int)×Int×Int×Int) =>
 cond ((decide (0<s37)))
  ((remO s36 8).bind fun v3 =>
  bindS (S:=(List Int)) (A:=(((List Int)×Int×Int×Int)⊕(((List Int)×Int)⊕T_shrink_writer)))
   (cond ((v3==0))
    ((appO 1 s35 [0]).bind fun v5 =>
    some (.inl v5))
    (some (.inl s35)))
   (fun (s56:(List Int)) =>
    (some (IntKind.i64.wrap (8-v3))).bind fun v11 =>
    (some (if s37<v11 then s37 else v11)).bind fun v12 =>
    (some (IntKind.i64.wrap ((s56.length:Int)-1))).bind fun v13 =>
    (ixO v13 s56.length).bind fun v14 =>
    (getO s56 v14).bind fun v15 =>
    (shlO .u32 s38 v3).bind fun v16 =>
    (some (IntKind.u8.wrap v16)).bind fun v17 =>
    (some (bits .or .u8 v15 v17)).bind fun v18 =>
    (ixO v13 s56.length).bind fun v19 =>
    (some (s56.set v19 v18)).bind fun v20 =>
    (shrO .u32 s38 v12).bind fun v21 =>
    (some (IntKind.i64.wrap (s36+v12))).bind fun v22 =>
    (some (IntKind.i64.wrap (s37-v12))).bind fun v23 =>
    some (.inl (v20,v22,v23,v21))) some)
  (some (.inr (.inl (s35,s36)))))
theorem wrA' (a b:Nat) (h:a+b<4611686018427387904):IntKind.i64.wrap ((a:Int)+(b:Int))=((a+b:Nat):Int):=by rw [wrap_i64 (by omega) (by omega)]; omega
theorem wrS' {a b:Nat} (h:b≤a) (ha:a<4611686018427387904):IntKind.i64.wrap ((a:Int)-(b:Int))=((a-b:Nat):Int):=by rw [wrap_i64 (by omega) (by omega)]; omega
theorem bitC_app0 (B:List Int) (q:Nat):bitC (B++[0]) q=bitC B q:=by
 simp only [bitC,List.getD_eq_getElem?_getD,List.getElem?_append]
 by_cases h:q / 8<B.length
 ·rw [if_pos h]
 ·rw [if_neg h,List.getElem?_eq_none (Nat.le_of_not_lt h)]
  by_cases h2:q / 8-B.length=0
  ·rw [h2]; simp
  ·rw [List.getElem?_eq_none (by simp; omega)]
structure Room (B:List Int) (N:Nat):Prop where
 len:B.length=N / 8+1
 bytes:isB B
 zero:∀ q,N≤q→bitC B q=false
theorem room_of {B:List Int} {N:Nat} (h:Good B N):Room (if N % 8=0 then B++[0] else B) N:=by
 by_cases h8:N % 8=0
 ·rw [if_pos h8]
  refine ⟨by rw [List.length_append,h.len]; simp; omega,fun n hn => ?_,fun q hq=>by rw [bitC_app0]; exact h.zero q hq⟩
  rcases List.mem_append.1 hn with k | k
  ·exact h.bytes n k
  ·rw [List.mem_singleton.1 k]; omega
 ·rw [if_neg h8]
  exact ⟨by rw [h.len]; omega,h.bytes,h.zero⟩
theorem put_core {B:List Int} {N r p:Nat} (h:Room B N) (hp:0<p) (hp8:N % 8+p≤8) (hr:N % 8+p<8→r<2 ^ p) {x:Nat} (hx:B.getD (N / 8) 0=(x:Int)) :
  Good (B.set (N / 8) ((x ||| (r * 2 ^ (N % 8) % 256):Nat):Int)) (N+p)∧(∀ q,q<N→bitC (B.set (N / 8) ((x ||| (r * 2 ^ (N % 8) % 256):Nat):Int)) q=bitC B q) ∧
   ∀ i,i<p→bitC (B.set (N / 8) ((x ||| (r * 2 ^ (N % 8) % 256):Nat):Int)) (N+i)=r.testBit i:=by
 have hlt:N / 8<B.length:=by rw [h.len]; omega
 have hx8:x<256:=by
  have:=h.bytes _ (List.getElem_mem hlt)
  rw [List.getD_eq_getElem?_getD,List.getElem?_eq_getElem hlt,Option.getD_some] at hx
  omega
 have hm:r * 2 ^ (N % 8) % 256<2 ^ 8:=Nat.mod_lt _ (by decide)
 have hor:x ||| (r * 2 ^ (N % 8) % 256)<2 ^ 8:=Nat.or_lt_two_pow hx8 hm
 have hb:∀ q,bitC (B.set (N / 8) ((x ||| (r * 2 ^ (N % 8) % 256):Nat):Int)) q=(bitC B q||(decide (q / 8=N / 8)&&(decide (N % 8≤q % 8)&&r.testBit (q % 8-N % 8)))):=fun q=>by
  rw [bitC_set _ _ _ _ hlt]
  by_cases hq:q / 8=N / 8
  ·have hbx:bitC B q=x.testBit (q % 8):=by
    unfold bitC
    rw [hq,hx,Int.toNat_natCast]
   have h8:q % 8<8:=Nat.mod_lt _ (by omega)
   rw [if_pos hq,Int.toNat_natCast,Nat.testBit_or,hbx,decide_eq_true hq,Bool.true_and,show (256:Nat)=2 ^ 8 from rfl,Nat.testBit_mod_two_pow,decide_eq_true h8,Bool.true_and,Nat.mul_comm,Nat.testBit_two_pow_mul]
  ·rw [if_neg hq,decide_eq_false hq]; simp
 refine ⟨⟨by rw [List.length_set,h.len]; omega,fun n hn => ?_,fun q hq => ?_⟩,fun q hq => ?_,fun i hi => ?_⟩
 ·rcases List.mem_or_eq_of_mem_set hn with k | k
  ·exact h.bytes n k
  ·rw [k]
   have:(2:Nat) ^ 8=256:=by decide
   omega
 ·rw [hb q,h.zero q (by omega)]
  by_cases hq8:q / 8=N / 8
  ·have hpl:N % 8+p<8:=by omega
   have:r.testBit (q % 8-N % 8)=false:=Nat.testBit_lt_two_pow (Nat.lt_of_lt_of_le (hr hpl) (Nat.pow_le_pow_right (by omega) (by omega)))
   rw [this]; simp
  ·rw [decide_eq_false hq8]; simp
 ·rw [hb q]
  by_cases hq8:q / 8=N / 8
  ·rw [decide_eq_false (show ¬ N % 8≤q % 8 by omega)]; simp
  ·rw [decide_eq_false hq8]; simp
 ·rw [hb (N+i),h.zero (N+i) (by omega)]
  have e1:(N+i) / 8=N / 8:=by omega
  have e2:(N+i) % 8=N % 8+i:=by omega
  rw [decide_eq_true e1,e2,decide_eq_true (by omega),show N % 8+i-N % 8=i by omega]; simp
theorem wp_step {B:List Int} {N n r:Nat} (h:Good B N) (hn:0<n) (hn2:n≤24) (hr:r<2 ^ n) (hN:N+n≤1000000) :
  ∃ B',wpS (B,(N:Int),(n:Int),(r:Int))=some (.inl (B',((N+min (8-N % 8) n:Nat):Int),((n-min (8-N % 8) n:Nat):Int),((r / 2 ^ min (8-N % 8) n:Nat):Int))) ∧
   Good B' (N+min (8-N % 8) n)∧(∀ q,q<N→bitC B' q=bitC B q)∧∀ i,i<min (8-N % 8) n→bitC B' (N+i)=r.testBit i:=by
 obtain ⟨p,hp⟩:∃ p,p=min (8-N % 8) n:=⟨_,rfl⟩
 rw [← hp]
 have hu:N % 8<8:=Nat.mod_lt _ (by omega)
 have hR:=room_of h
 obtain ⟨B1,hB1⟩:∃ B1,B1=if N % 8=0 then B++[0] else B:=⟨_,rfl⟩
 rw [← hB1] at hR
 have hlt:N / 8<B1.length:=by rw [hR.len]; omega
 have hB:=h.len
 have hx:=hR.bytes _ (List.getElem_mem hlt)
 obtain ⟨x,hxe⟩:∃ x:Nat,B1[N / 8]=(x:Int):=⟨B1[N / 8].toNat,by omega⟩
 have hxd:B1.getD (N / 8) 0=(x:Int):=by rw [List.getD_eq_getElem?_getD,List.getElem?_eq_getElem hlt,Option.getD_some,hxe]
 have hp24:(2:Nat) ^ n≤2 ^ 24:=Nat.pow_le_pow_right (by omega) hn2
 have hpu:(2:Nat) ^ (N % 8)≤2 ^ 7:=Nat.pow_le_pow_right (by omega) (by omega)
 have e24:(2:Nat) ^ 24=16777216:=by decide
 have e7:(2:Nat) ^ 7=128:=by decide
 have hmul:r * 2 ^ (N % 8)≤16777215 * 128:=Nat.mul_le_mul (by omega) (by omega)
 have hm8:r * 2 ^ (N % 8) % 256<256:=Nat.mod_lt _ (by omega)
 obtain ⟨c1,c2,c3⟩:=put_core (r:=r) (p:=p) hR (by omega) (by omega) (fun h8=>by
  have:p=n:=by omega
  rw [this]; exact hr) hxd
 have w8:IntKind.u8.wrap ((r * 2 ^ (N % 8):Nat):Int)=((r * 2 ^ (N % 8) % 256:Nat):Int):=by rw [wrap_u8']; rfl
 have hB1b:∀ q,bitC B1 q=bitC B q:=fun q=>by
  rw [hB1]
  by_cases h8:N % 8=0
  ·rw [if_pos h8,bitC_app0]
  ·rw [if_neg h8]
 refine ⟨B1.set (N / 8) ((x ||| (r * 2 ^ (N % 8) % 256):Nat):Int),?_,c1,fun q hq=>(c2 q hq).trans (hB1b q),c3⟩
 have hmin:(if (n:Int)<((8-N % 8:Nat):Int) then (n:Int) else ((8-N % 8:Nat):Int))=((p:Nat):Int):=by
  rw [hp]
  by_cases hc:n<8-N % 8
  ·rw [if_pos (by omega),Nat.min_eq_right (by omega)]
  ·rw [if_neg (by omega),Nat.min_eq_left (by omega)]
 have hlast:IntKind.i64.wrap ((B1.length:Int)-1)=((N / 8:Nat):Int):=by rw [hR.len,wrap_i64 (by omega) (by omega)]; omega
 have hg:getO B1 (N / 8)=some (x:Int):=by rw [getO_of hlt,hxe]
 refine cnd_t (decide_eq_true (by omega)) (bnd (rem_nat N 8 (by omega)) (bndL (s:=B1) ?_ (bnd (congrArg some (wrS' (a:=8) (b:=N % 8) (by omega) (by omega))) (bnd (congrArg some hmin) (bnd (congrArg some hlast) (bnd (ixO_of hlt) (bnd hg (bnd (shl_u32 r (N % 8) (by omega) (by omega)) (bnd (congrArg some w8) (bnd (congrArg some (or_u8 x _ (by omega) hm8)) (bnd (ixO_of hlt) (bnd rfl (bnd (shr_nat .u32 r p (by show p≤32; omega)) (bnd (congrArg some (wrA' N p (by omega))) (bnd (congrArg some (wrS' (a:=n) (b:=p) (by omega) (by omega))) rfl))))))))))))))) 
 by_cases h8:N % 8=0
 ·rw [hB1,if_pos h8]
  exact cnd_t (by rw [h8]; rfl) (bnd (app_of (m:=[(0:Int)]) (by simp; omega) (by simp; omega)) rfl)
 ·rw [hB1,if_neg h8]
  exact cnd_f (beq_eq_false_iff_ne.2 (by omega)) rfl
theorem wp_loop:∀ (k fuel:Nat) (B:List Int) (N n r:Nat),n≤k→k<fuel→Good B N→n≤24→r<2 ^ n→N+n≤1000000 →
  ∃ B',loopF wpS fuel (B,(N:Int),(n:Int),(r:Int))=some (.inl (B',((N+n:Nat):Int)))∧Good B' (N+n)∧(∀ q,q<N→bitC B' q=bitC B q)∧∀ i,i<n→bitC B' (N+i)=r.testBit i
 | k,fuel,B,N,0,r,hk,hf,hG,hn,hr,hN=>by
  obtain ⟨fu,rfl⟩:∃ fu,fuel=fu+1:=⟨fuel-1,by omega⟩
  exact ⟨B,loop_exit rfl,hG,fun _ _=>rfl,fun i hi=>by omega⟩
 | 0,fuel,B,N,n+1,r,hk,hf,hG,hn,hr,hN=>by omega
 | k+1,fuel,B,N,n+1,r,hk,hf,hG,hn,hr,hN=>by
  obtain ⟨fu,rfl⟩:∃ fu,fuel=fu+1:=⟨fuel-1,by omega⟩
  have hu:N % 8<8:=Nat.mod_lt _ (by omega)
  obtain ⟨B1,b1,b2,b3,b4⟩:=wp_step hG (by omega) hn hr (by omega)
  obtain ⟨p,hp⟩:∃ p,p=min (8-N % 8) (n+1):=⟨_,rfl⟩
  rw [← hp] at b1 b2 b4
  have hr':r / 2 ^ p<2 ^ (n+1-p):=by
   rw [Nat.div_lt_iff_lt_mul (Nat.two_pow_pos p),← Nat.pow_add]
   rwa [show n+1-p+p=n+1 by omega]
  obtain ⟨B2,c1,c2,c3,c4⟩:=wp_loop k fu B1 (N+p) (n+1-p) (r / 2 ^ p) (by omega) (by omega) b2 (by omega) hr' (by omega)
  have e:N+p+(n+1-p)=N+(n+1):=by omega
  rw [e] at c1 c2
  refine ⟨B2,(loop_next b1).trans c1,c2,fun q hq=>(c3 q (by omega)).trans (b3 q hq),fun i hi => ?_⟩
  by_cases hip:i<p
  ·exact (c3 (N+i) (by omega)).trans (b4 i hip)
  ·have:=c4 (i-p) (by omega)
   rw [show N+p+(i-p)=N+i by omega,Nat.testBit_div_two_pow,show i-p+p=i by omega] at this
   exact this
theorem u32_small {v:Nat} (h:v<4294967296):IntKind.u32.wrap (v:Int)=(v:Int):=wrap_u32c (by omega) (by omega)
theorem Sp_app:∀ (a b:List (Nat×Nat)) (N:Nat) (B:List Int),Sp (a++b) N B↔Sp a N B∧Sp b (N+wid a) B
 | [],b,N,B=>by simp [Sp,wid]
 | p::a,b,N,B=>by
  simp only [List.cons_append,Sp,Sp_app a b,wid,List.map_cons,List.sum_cons,Nat.add_assoc,and_assoc]
theorem Sp_keep:∀ (a:List (Nat×Nat)) (N:Nat) (B B':List Int),(∀ q,q<N+wid a→bitC B' q=bitC B q)→Sp a N B→Sp a N B'
 | [],N,B,B',_,_=>trivial
 | p::a,N,B,B',h,hs=>by
  have hw:wid (p::a)=p.2+wid a:=by simp [wid]
  rw [hw] at h
  exact ⟨fun t ht=>(h (N+t) (by omega)).trans (hs.1 t ht),Sp_keep a (N+p.2) B B' (fun q hq=>h q (by omega)) hs.2⟩
theorem wid_app (a b:List (Nat×Nat)):wid (a++b)=wid a+wid b:=by simp [wid]
structure WP (w:T_shrink_writer) (ps:List (Nat×Nat)):Prop where
 n:w.n=((wid ps:Nat):Int)
 good:Good w.b (wid ps)
 sp:Sp ps 0 w.b
theorem WP.put {w:T_shrink_writer} {ps:List (Nat×Nat)} (h:WP w ps) (v n:Nat) (hn:n≤24) (hv:v<2 ^ n) (hN:wid ps+n≤1000000) :
  ∃ w',shrink_writer_put w (v:Int) (n:Int)=some w'∧WP w' (ps++[(v,n)]):=by
 have hp24:(2:Nat) ^ n≤2 ^ 24:=Nat.pow_le_pow_right (by omega) hn
 have e24:(2:Nat) ^ 24=16777216:=by decide
 obtain ⟨B',b1,b2,b3,b4⟩:=wp_loop n BIG w.b (wid ps) n v (by omega) (by simp only [BIG]; omega) h.good hn hv hN
 have hw:wid (ps++[(v,n)])=wid ps+n:=by simp [wid]
 refine ⟨⟨B',((wid ps+n:Nat):Int)⟩,?_,⟨by rw [hw],by rw [hw]; exact b2,(Sp_app _ _ _ _).2 ⟨Sp_keep ps 0 w.b B' (fun q hq=>b3 q (by omega)) h.sp,fun t ht => ?_,trivial⟩⟩⟩
 ·unfold shrink_writer_put
  rw [h.n]
  exact bnd (congrArg some (u32_small (by omega))) (bndL b1 rfl)
 ·rw [Nat.zero_add]; exact b4 t ht
theorem WP.puts {w:T_shrink_writer} {ps:List (Nat×Nat)} {v n:Int} (h:WP w ps) (vn nn:Nat) (e1:v=(vn:Int)) (e2:n=(nn:Int)) (hn:nn≤24) (hv:vn<2 ^ nn) (hN:wid ps+nn≤1000000) :
  ∃ w',shrink_writer_put w v n=some w'∧WP w' (ps++[(vn,nn)]):=by subst e1 e2; exact h.put vn nn hn hv hN
/-! The other way about. -/
def rv (v:Nat):Nat→Nat
 | 0=>0
 | n+1=>2 * rv v n+v / 2 ^ n % 2
theorem rv_lt (v:Nat):∀ n,rv v n<2 ^ n
 | 0=>by simp [rv]
 | n+1=>by
  have:=rv_lt v n
  have:=Nat.mod_lt (v / 2 ^ n) (show 0<2 by omega)
  rw [rv,Nat.pow_succ]
  omega
theorem rv_bit (v:Nat):∀ n i,i<n→(rv v n).testBit i=v.testBit (n-1-i)
 | 0,i,h=>by omega
 | n+1,i,h=>by
  rw [rv]
  have hb:=Nat.mod_lt (v / 2 ^ n) (show 0<2 by omega)
  cases i with
  | zero =>
   have h1:(2 * rv v n+v / 2 ^ n % 2) % 2=v / 2 ^ n % 2:=by omega
   rw [Nat.testBit_zero,h1,show n+1-1-0=n by omega,Nat.testBit_eq_decide_div_mod_eq]
  | succ i =>
   rw [Nat.testBit_succ,show (2 * rv v n+v / 2 ^ n % 2) / 2=rv v n by omega,rv_bit v n i (by omega)]
   congr 1; omega
theorem turn_rv (v n:Nat) (hn:n≤24) (hv:v<2 ^ n):bits_Turn (v:Int) (n:Int)=some (((rv v n:Nat):Int),0):=by
 obtain ⟨r,h1,h2,h3⟩:=turn_eq v n hn hv
 rw [h1]
 have:r=rv v n:=by
  refine Nat.eq_of_testBit_eq fun i => ?_
  by_cases hi:i<n
  ·rw [h3 i hi,rv_bit v n i hi]
  ·rw [Nat.testBit_lt_two_pow (Nat.lt_of_lt_of_le h2 (Nat.pow_le_pow_right (by omega) (by omega))),Nat.testBit_lt_two_pow (Nat.lt_of_lt_of_le (rv_lt v n) (Nat.pow_le_pow_right (by omega) (by omega)))]
 rw [this]
structure Cd (m:List Nat):Prop where
 len:m.length≤300
 le:∀ x∈m,x≤15
 fm:forms m=true
def cdT (m:List Nat):T_shrink_code:=⟨ints m,ints (codes m)⟩
theorem newCode_eq {m:List Nat} (h:Cd m):shrink_newCode_ro (ints m)=some (cdT m):=by
 unfold shrink_newCode_ro
 exact bnd (codes_eq m h.len h.le h.fm) rfl
def syP (m:List Nat) (j:Nat):Nat×Nat:=(rv (code m j) (m.getD j 0),m.getD j 0)
theorem code_fit {m:List Nat} (h:Cd m) {j:Nat} (hj:j<m.length):code m j<2 ^ m.getD j 0∧m.getD j 0≤15:=by
 have e:m.getD j 0=m[j]:=by simp [List.getD_eq_getElem?_getD,hj]
 refine ⟨?_,by rw [e]; exact h.le _ (List.getElem_mem hj)⟩
 by_cases h0:m[j]=0
 ·have:code m j=0:=by unfold code; rw [e,if_pos h0]
  rw [this]; exact Nat.two_pow_pos _
 ·rw [e]; exact code_lt (forms_ws h.fm) h.le hj h0
theorem WP.sym {w:T_shrink_writer} {ps:List (Nat×Nat)} (h:WP w ps) {m:List Nat} (hm:Cd m) {j:Nat} (hj:j<m.length) (hN:wid ps+15≤1000000) :
  ∃ w',shrink_writer_putSym w (cdT m) (j:Int)=some w'∧WP w' (ps++[syP m j]):=by
 obtain ⟨f1,f2⟩:=code_fit hm hj
 obtain ⟨w',p1,p2⟩:=h.put (rv (code m j) (m.getD j 0)) (m.getD j 0) (by omega) (rv_lt _ _) (by omega)
 have e:m.getD j 0=m[j]:=by simp [List.getD_eq_getElem?_getD,hj]
 have hcl:j<(codes m).length:=by simp [codes,hj]
 have g1:getO (ints (codes m)) j=some ((code m j:Nat):Int):=by rw [ints_get hcl]; simp [codes]
 have g2:getO (ints m) j=some ((m.getD j 0:Nat):Int):=by rw [ints_get hj,e]
 have i1:ixO (j:Int) (ints (codes m)).length=some j:=ixO_of (by rw [ints_len]; exact hcl)
 have i2:ixO (j:Int) (ints m).length=some j:=ixO_of (by rw [ints_len]; exact hj)
 refine ⟨w',?_,p2⟩
 unfold shrink_writer_putSym cdT
 exact bnd i1 (bnd g1 (bnd i2 (bnd g2 (bnd (turn_rv _ _ (by omega) f1) (bnd i2 (bnd g2 (bnd p1 rfl)))))))
def ptS (l:List T_Tok) (lits dists:T_shrink_code):(((List Int)×Int×Int))→Option (((List Int)×Int×Int)⊕(((List Int)×Int)⊕T_shrink_writer)):=(fun ((s31,s32,s33):(List Int)×Int×Int) =>
 cond ((decide (s33<(l.length:Int))))
  (bindS (S:=(List Int)×Int) (A:=(((List Int)×Int×Int)⊕(((List Int)×Int)⊕T_shrink_writer)))
   ((ixO s33 l.length).bind fun v2 =>
   (getO l v2).bind fun v3 =>
   cond ((v3.Len==0))
    ((some (IntKind.i64.wrap v3.Byte)).bind fun v5 =>
    (shrink_writer_putSym (T_shrink_writer.mk s31 s32) lits v5).bind fun v6 =>
    some (.inl (v6.b,v6.n)))
    ((sym_Len v3.Len).bind fun v7 =>
    (shrink_writer_putSym (T_shrink_writer.mk s31 s32) lits v7.1).bind fun v8 =>
    (shrink_writer_put v8 v7.2.2.1 v7.2.1).bind fun v9 =>
    (sym_Dist v3.Dist).bind fun v10 =>
    (shrink_writer_putSym v9 dists v10.1).bind fun v11 =>
    (shrink_writer_put v11 v10.2.2.1 v10.2.1).bind fun v12 =>
    some (.inl (v12.b,v12.n))))
   (fun ((s52,s53):(List Int)×Int) =>
    (some (IntKind.i64.wrap (s33+1))).bind fun v19 =>
    some (.inl (s52,s53,v19))) some)
  (some (.inr (.inl (s31,s32)))))
def stS (b:List Int):(((List Int)×Int×Int))→Option (((List Int)×Int×Int)⊕(((List Int)×Int)⊕(Option T_shrink_writer))):=(fun ((s18,s19,s20):(List Int)×Int×Int) =>
  cond ((decide (s20<(b.length:Int))))
   ((ixO s20 b.length).bind fun v9 =>
   (getO b v9).bind fun v10 =>
   (some (IntKind.i64.wrap v10)).bind fun v11 =>
   (shrink_writer_put (T_shrink_writer.mk s18 s19) v11 8).bind fun v12 =>
   (some (IntKind.i64.wrap (s20+1))).bind fun v13 =>
   some (.inl (v12.b,v12.n,v13)))
   (some (.inr (.inl (s18,s19)))))
def lnN (n:Nat):Nat×Nat×Nat:=match sym_Len (n:Int) with
 | some (s,k,v,_)=>(s.toNat,k.toNat,v.toNat)
 | none=>(0,0,0)
def dsN (n:Nat):Nat×Nat×Nat:=match sym_Dist (n:Int) with
 | some (s,k,v,_)=>(s.toNat,k.toNat,v.toNat)
 | none=>(0,0,0)
def lnOk (n:Nat):Bool:=decide (sym_Len (n:Int)=some (((lnN n).1:Int),((lnN n).2.1:Int),((lnN n).2.2:Int),0)∧257≤(lnN n).1∧(lnN n).1≤285∧(lnN n).2.1≤5∧(lnN n).2.2<2 ^ (lnN n).2.1)
def dsOk (n:Nat):Bool:=decide (sym_Dist (n:Int)=some (((dsN n).1:Int),((dsN n).2.1:Int),((dsN n).2.2:Int),0)∧(dsN n).1≤29∧(dsN n).2.1≤13∧(dsN n).2.2<2 ^ (dsN n).2.1)
theorem ln_all:(List.range 256).all (fun i=>lnOk (3+i))=true:=by kernel_rfl
theorem ds_all:(List.range 2048).all (fun i=>dsOk (1+i))=true:=by kernel_rfl
theorem ln_ok {n:Nat} (h:3≤n) (h2:n≤258):sym_Len (n:Int)=some (((lnN n).1:Int),((lnN n).2.1:Int),((lnN n).2.2:Int),0)∧257≤(lnN n).1∧(lnN n).1≤285∧(lnN n).2.1≤5∧(lnN n).2.2<2 ^ (lnN n).2.1:=by
 have:=List.all_eq_true.1 ln_all (n-3) (List.mem_range.2 (by omega))
 rw [show 3+(n-3)=n by omega] at this
 exact of_decide_eq_true this
theorem ds_ok {n:Nat} (h:1≤n) (h2:n≤2048):sym_Dist (n:Int)=some (((dsN n).1:Int),((dsN n).2.1:Int),((dsN n).2.2:Int),0)∧(dsN n).1≤29∧(dsN n).2.1≤13∧(dsN n).2.2<2 ^ (dsN n).2.1:=by
 have:=List.all_eq_true.1 ds_all (n-1) (List.mem_range.2 (by omega))
 rw [show 1+(n-1)=n by omega] at this
 exact of_decide_eq_true this
def tkP (m d:List Nat) (t:T_Tok):List (Nat×Nat) :=
 if t.Len=0 then [syP m t.Byte.toNat]
 else [syP m (lnN t.Len.toNat).1,((lnN t.Len.toNat).2.2,(lnN t.Len.toNat).2.1),syP d (dsN t.Dist.toNat).1,((dsN t.Dist.toNat).2.2,(dsN t.Dist.toNat).2.1)]
def tksP (m d:List Nat) (l:List T_Tok):List (Nat×Nat):=(l.map (tkP m d)).flatten
def okTk (t:T_Tok):Prop:=(0≤t.Byte∧t.Byte<256)∧(t.Len=0∨(3≤t.Len∧t.Len≤258∧1≤t.Dist∧t.Dist≤2048))
theorem wid_tk {m d:List Nat} (hm:∀ x∈m,x≤15) (hd:∀ x∈d,x≤15) {t:T_Tok} (h:okTk t):wid (tkP m d t)≤48:=by
 have le:∀ (m:List Nat),(∀ x∈m,x≤15)→∀ j,m.getD j 0≤15:=fun m hm j=>by
  rw [List.getD_eq_getElem?_getD]
  cases hj:m[j]? with
  | none=>simp
  | some x=>simpa using hm x (List.mem_of_getElem? hj)
 unfold tkP
 by_cases h0:t.Len=0
 ·rw [if_pos h0]
  have:=le m hm t.Byte.toNat
  simp only [wid,syP,List.map_cons,List.map_nil,List.sum_cons,List.sum_nil]; omega
 ·rw [if_neg h0]
  rcases h.2 with h1 | ⟨h1,h2,h3,h4⟩
  ·exact absurd h1 h0
  ·obtain ⟨_,_,_,k1,_⟩:=ln_ok (n:=t.Len.toNat) (by omega) (by omega)
   obtain ⟨_,_,k2,_⟩:=ds_ok (n:=t.Dist.toNat) (by omega) (by omega)
   have a1:=le m hm (lnN t.Len.toNat).1
   have a2:=le d hd (dsN t.Dist.toNat).1
   simp only [wid,syP,List.map_cons,List.map_nil,List.sum_cons,List.sum_nil]
   omega
theorem wid_tks {m d:List Nat} (hm:∀ x∈m,x≤15) (hd:∀ x∈d,x≤15):∀ {l:List T_Tok},(∀ t∈l,okTk t)→wid (tksP m d l)≤48 * l.length
 | [],_=>by simp [tksP,wid]
 | t::l,h=>by
  have h1:=wid_tk hm hd (h t List.mem_cons_self)
  have h2:=wid_tks hm hd (l:=l) fun x hx=>h x (List.mem_cons_of_mem _ hx)
  have e:tksP m d (t::l)=tkP m d t++tksP m d l:=by simp [tksP]
  rw [e,wid_app,List.length_cons]; omega
theorem pt_step {m d:List Nat} (hm:Cd m) (hd:Cd d) (hml:286≤m.length) (hdl:30≤d.length) {l:List T_Tok} {i:Nat} (hi:i<l.length) (hil:l.length≤5000) (ht:okTk l[i]) {w:T_shrink_writer} {ps:List (Nat×Nat)} (h:WP w ps) (hN:wid ps+48≤900000) :
  ∃ w',ptS l (cdT m) (cdT d) (w.b,w.n,(i:Int))=some (.inl (w'.b,w'.n,((i+1:Nat):Int)))∧WP w' (ps++tkP m d l[i]):=by
 have hg:=getO_of hi
 have hw:=wrap_succ (n:=i) (by omega)
 unfold tkP
 by_cases h0:l[i].Len=0
 ·rw [if_pos h0]
  obtain ⟨w',p1,p2⟩:=h.sym hm (j:=l[i].Byte.toNat) (by have:=ht.1; omega) (by omega)
  rw [show ((l[i].Byte.toNat:Nat):Int)=l[i].Byte by have:=ht.1; omega] at p1
  have hwb:IntKind.i64.wrap l[i].Byte=l[i].Byte:=wrap_i64 (by have:=ht.1; omega) (by have:=ht.1; omega)
  exact ⟨w',cnd_t (decide_eq_true (by omega)) (bndL (bnd (ixO_of hi) (bnd hg (cnd_t (beq_iff_eq.2 h0) (bnd (congrArg some hwb) (bnd p1 rfl))))) (bnd (congrArg some hw) rfl)),p2⟩
 ·rw [if_neg h0]
  rcases ht.2 with h1 | ⟨h1,h2,h3,h4⟩
  ·exact absurd h1 h0
  obtain ⟨l1,l2,l3,l4,l5⟩:=ln_ok (n:=l[i].Len.toNat) (by omega) (by omega)
  obtain ⟨d1,d2,d3,d4⟩:=ds_ok (n:=l[i].Dist.toNat) (by omega) (by omega)
  rw [show ((l[i].Len.toNat:Nat):Int)=l[i].Len by omega] at l1
  rw [show ((l[i].Dist.toNat:Nat):Int)=l[i].Dist by omega] at d1
  obtain ⟨w1,p1,q1⟩:=h.sym hm (j:=(lnN l[i].Len.toNat).1) (by omega) (by omega)
  have c1:=(code_fit hm (j:=(lnN l[i].Len.toNat).1) (by omega)).2
  have s1:wid (ps++[syP m (lnN l[i].Len.toNat).1])≤wid ps+15:=by rw [wid_app]; simp only [wid,syP,List.map_cons,List.map_nil,List.sum_cons,List.sum_nil]; omega
  obtain ⟨w2,p2,q2⟩:=q1.put (lnN l[i].Len.toNat).2.2 (lnN l[i].Len.toNat).2.1 (by omega) l5 (by omega)
  have s2:wid (ps++[syP m (lnN l[i].Len.toNat).1]++[((lnN l[i].Len.toNat).2.2,(lnN l[i].Len.toNat).2.1)])≤wid ps+20:=by rw [wid_app _ [((lnN l[i].Len.toNat).2.2,(lnN l[i].Len.toNat).2.1)]]; simp only [wid,List.map_cons,List.map_nil,List.sum_cons,List.sum_nil] at s1 ⊢; omega
  obtain ⟨w3,p3,q3⟩:=q2.sym hd (j:=(dsN l[i].Dist.toNat).1) (by omega) (by omega)
  have c3:=(code_fit hd (j:=(dsN l[i].Dist.toNat).1) (by omega)).2
  have s3:wid (ps++[syP m (lnN l[i].Len.toNat).1]++[((lnN l[i].Len.toNat).2.2,(lnN l[i].Len.toNat).2.1)]++[syP d (dsN l[i].Dist.toNat).1])≤wid ps+35:=by rw [wid_app _ [syP d _]]; simp only [wid,syP,List.map_cons,List.map_nil,List.sum_cons,List.sum_nil] at s2 ⊢; omega
  obtain ⟨w4,p4,q4⟩:=q3.put (dsN l[i].Dist.toNat).2.2 (dsN l[i].Dist.toNat).2.1 (by omega) d4 (by omega)
  refine ⟨w4,cnd_t (decide_eq_true (by omega)) (bndL (bnd (ixO_of hi) (bnd hg (cnd_f (beq_eq_false_iff_ne.2 h0) (bnd l1 (bnd p1 (bnd p2 (bnd d1 (bnd p3 (bnd p4 rfl))))))))) (bnd (congrArg some hw) rfl)),?_⟩
  simpa [List.append_assoc] using q4
theorem pt_loop {m d:List Nat} (hm:Cd m) (hd:Cd d) (hml:286≤m.length) (hdl:30≤d.length) {l:List T_Tok} (hil:l.length≤5000) (ht:∀ t∈l,okTk t):∀ (k i fuel:Nat) (w:T_shrink_writer) (ps:List (Nat×Nat)),i+k=l.length→k<fuel→WP w ps→wid ps+48 * k≤900000 →
  ∃ w',loopF (ptS l (cdT m) (cdT d)) fuel (w.b,w.n,(i:Int))=some (.inl (w'.b,w'.n))∧WP w' (ps++tksP m d (l.drop i))
 | 0,i,fuel,w,ps,hk,hf,h,hN=>by
  obtain ⟨fu,rfl⟩:∃ fu,fuel=fu+1:=⟨fuel-1,by omega⟩
  rw [List.drop_eq_nil_of_le (by omega)]
  exact ⟨w,loop_exit (cnd_f (decide_eq_false (by omega)) rfl),by simpa [tksP] using h⟩
 | k+1,i,fuel,w,ps,hk,hf,h,hN=>by
  obtain ⟨fu,rfl⟩:∃ fu,fuel=fu+1:=⟨fuel-1,by omega⟩
  have hi:i<l.length:=by omega
  have hti:=ht _ (List.getElem_mem hi)
  obtain ⟨w1,p1,q1⟩:=pt_step hm hd hml hdl hi hil hti h (by omega)
  have hwk:=wid_tk hm.le hd.le hti
  obtain ⟨w2,p2,q2⟩:=pt_loop hm hd hml hdl hil ht k (i+1) fu w1 (ps++tkP m d l[i]) (by omega) (by omega) q1 (by rw [wid_app]; omega)
  refine ⟨w2,(loop_next p1).trans p2,?_⟩
  rw [List.drop_eq_getElem_cons hi]
  have e:tksP m d (l[i]::l.drop (i+1))=tkP m d l[i]++tksP m d (l.drop (i+1)):=rfl
  rw [e,← List.append_assoc]; exact q2
theorem putTokens_eq {m d:List Nat} (hm:Cd m) (hd:Cd d) (hml:286≤m.length) (hdl:30≤d.length) {l:List T_Tok} (hil:l.length≤5000) (ht:∀ t∈l,okTk t) {w:T_shrink_writer} {ps:List (Nat×Nat)} (h:WP w ps) (hN:wid ps≤600000) :
  ∃ w',shrink_writer_putTokens w l (cdT m) (cdT d)=some w'∧WP w' (ps++(tksP m d l++[syP m 256])):=by
 obtain ⟨w1,p1,q1⟩:=pt_loop hm hd hml hdl hil ht l.length 0 BIG w ps (by omega) (by simp only [BIG]; omega) h (by omega)
 rw [List.drop_zero] at q1
 have hb:=wid_tks hm.le hd.le ht
 obtain ⟨w2,p2,q2⟩:=q1.sym hm (j:=256) (by omega) (by rw [wid_app]; omega)
 refine ⟨w2,?_,by rw [← List.append_assoc]; exact q2⟩
 unfold shrink_writer_putTokens
 exact bndL p1 (bnd p2 rfl)
theorem wp_nil:WP ⟨[],0⟩ []:=⟨rfl,⟨rfl,fun n hn=>(by cases hn),fun q _=>by simp [bitC]⟩,trivial⟩
theorem newBlock_eq (k:Nat) (hk:k<4):∃ w,shrink_newBlock (k:Int)=some (some w)∧WP w [(1,1),(k,2)]:=by
 obtain ⟨w1,p1,q1⟩:=wp_nil.put 1 1 (by omega) (by omega) (by simp [wid])
 obtain ⟨w2,p2,q2⟩:=q1.put k 2 (by omega) (by omega) (by simp [wid])
 refine ⟨w2,?_,q2⟩
 unfold shrink_newBlock
 exact bnd p1 (bnd p2 rfl)
theorem obs1 {E R:Type} {x:E} {f:E→Option R} {n r:Option R} (h:f x=r):obS (some x) f n=r:=h
/-! The fixed code. -/
def mL:List Nat:=List.replicate 144 8++(List.replicate 112 9++(List.replicate 24 7++List.replicate 8 8))
def mD:List Nat:=List.replicate 32 5
theorem fixed_ints:sym_Fixed=some (ints mL,ints mD):=by kernel_rfl
theorem cd_mL:Cd mL:=⟨of_decide_eq_true (by kernel_rfl),of_decide_eq_true (by kernel_rfl),by kernel_rfl⟩
theorem cd_mD:Cd mD:=⟨of_decide_eq_true (by kernel_rfl),of_decide_eq_true (by kernel_rfl),by kernel_rfl⟩
theorem fixedBlock_eq {l:List T_Tok} (hl:l.length≤5000) (ht:∀ t∈l,okTk t):∃ w,shrink_fixedBlock l=some (some w)∧WP w ([(1,1),(1,2)]++(tksP mL mD l++[syP mL 256])):=by
 obtain ⟨w1,p1,q1⟩:=newBlock_eq 1 (by omega)
 obtain ⟨w2,p2,q2⟩:=putTokens_eq cd_mL cd_mD (by decide) (by decide) hl ht q1 (by simp [wid])
 refine ⟨w2,?_,q2⟩
 unfold shrink_fixedBlock
 exact bnd p1 (obs1 (bnd fixed_ints (bnd (newCode_eq cd_mL) (bnd (newCode_eq cd_mD) (bnd p2 rfl)))))
/-! The stored block. -/
def stP (b:List Int):List (Nat×Nat):=b.map fun x=>(x.toNat,8)
theorem wid_st (b:List Int):wid (stP b)=8 * b.length:=by
 induction b with
 | nil=>rfl
 | cons x b ih =>
  have:wid (stP (x::b))=8+wid (stP b):=by simp [wid,stP]
  rw [this,ih,List.length_cons]; omega
theorem st_loop {b:List Int} (hb:∀ n∈b,0≤n∧n<256) (hl:b.length≤5000):∀ (k i fuel:Nat) (w:T_shrink_writer) (ps:List (Nat×Nat)),i+k=b.length→k<fuel→WP w ps→wid ps+8 * k≤900000 →
  ∃ w',loopF (stS b) fuel (w.b,w.n,(i:Int))=some (.inl (w'.b,w'.n))∧WP w' (ps++stP (b.drop i))
 | 0,i,fuel,w,ps,hk,hf,h,hN=>by
  obtain ⟨fu,rfl⟩:∃ fu,fuel=fu+1:=⟨fuel-1,by omega⟩
  rw [List.drop_eq_nil_of_le (by omega)]
  exact ⟨w,loop_exit (cnd_f (decide_eq_false (by omega)) rfl),by simpa [stP] using h⟩
 | k+1,i,fuel,w,ps,hk,hf,h,hN=>by
  obtain ⟨fu,rfl⟩:∃ fu,fuel=fu+1:=⟨fuel-1,by omega⟩
  have hi:i<b.length:=by omega
  have hx:=hb _ (List.getElem_mem hi)
  obtain ⟨w1,p1,q1⟩:=h.puts (v:=b[i]) (n:=8) b[i].toNat 8 (by omega) rfl (by omega) (by omega) (by omega)
  obtain ⟨w2,p2,q2⟩:=st_loop hb hl k (i+1) fu w1 (ps++[(b[i].toNat,8)]) (by omega) (by omega) q1 (by rw [wid_app]; simp [wid]; simp [wid] at hN; omega)
  refine ⟨w2,(loop_next (cnd_t (decide_eq_true (by omega)) (bnd (ixO_of hi) (bnd (getO_of hi) (bnd (congrArg some (wrap_i64 (by omega) (by omega))) (bnd p1 (bnd (congrArg some (wrap_succ (n:=i) (by omega))) rfl))))))).trans p2,?_⟩
  rw [List.drop_eq_getElem_cons hi]
  have e:stP (b[i]::b.drop (i+1))=[(b[i].toNat,8)]++stP (b.drop (i+1)):=rfl
  rw [e,← List.append_assoc]; exact q2
theorem xor16 (n:Nat) (h:n<65536):bits .xor .i64 (n:Int) 65535=((65535-n:Nat):Int):=by
 have e:(BitVec.ofInt 64 (n:Int) ^^^ BitVec.ofInt 64 65535).toNat=65535-n:=by
  rw [BitVec.toNat_xor,show (65535:Int)=((65535:Nat):Int) from rfl,BitVec.ofInt_natCast,BitVec.ofInt_natCast,BitVec.toNat_ofNat,BitVec.toNat_ofNat,Nat.mod_eq_of_lt (by omega),Nat.mod_eq_of_lt (by omega)]
  refine Nat.eq_of_testBit_eq fun i => ?_
  rw [Nat.testBit_xor]
  have h1:=Nat.testBit_two_pow_sub_succ (x:=n) (n:=16) (by omega) i
  rw [show 2 ^ 16-(n+1)=65535-n by omega] at h1
  have h2:(65535:Nat).testBit i=decide (i<16):=by rw [show (65535:Nat)=2 ^ 16-1 from rfl,Nat.testBit_two_pow_sub_one]
  rw [h1,h2]
  by_cases hi:i<16
  ·simp [hi]
  ·have:n.testBit i=false:=Nat.testBit_lt_two_pow (Nat.lt_of_lt_of_le h (show (65536:Nat)≤2 ^ i from Nat.pow_le_pow_right (show 0<2 by omega) (show 16≤i by omega)))
   simp [hi,this]
 show IntKind.i64.wrap ((BitVec.ofInt 64 (n:Int) ^^^ BitVec.ofInt 64 65535).toNat:Int)=_
 rw [e]
 exact wrap_i64 (by omega) (by omega)
theorem wp_byte {w:T_shrink_writer} {ps:List (Nat×Nat)} (h:WP w ps):WP ⟨w.b,((8 * w.b.length:Nat):Int)⟩ (ps++[(0,8 * w.b.length-wid ps)]):=by
 have hl:=h.good.len
 have hw:wid (ps++[(0,8 * w.b.length-wid ps)])=8 * w.b.length:=by rw [wid_app]; simp [wid]; simp [wid] at hl; omega
 exact ⟨by rw [hw],by rw [hw]; exact ⟨by show w.b.length=_; omega,h.good.bytes,fun q hq=>h.good.zero q (by omega)⟩,(Sp_app _ _ _ _).2 ⟨h.sp,fun t ht=>by rw [Nat.zero_testBit]; exact h.good.zero _ (by omega),trivial⟩⟩
theorem storedBlock_eq {b:List Int} (hb:∀ n∈b,0≤n∧n<256) (hl:b.length≤5000):∃ w,shrink_storedBlock b=some (some w)∧WP w ([(1,1),(0,2),(0,5),(b.length,16),(65535-b.length,16)]++stP b):=by
 obtain ⟨w1,p1,q1⟩:=newBlock_eq 0 (by omega)
 have l1:w1.b.length=1:=by rw [q1.good.len]; simp [wid]
 have q1':=wp_byte q1
 rw [l1,show wid [(1,1),(0,2)]=3 from rfl] at q1'
 obtain ⟨w2,p2,q2⟩:=q1'.puts (v:=(b.length:Int)) (n:=16) b.length 16 rfl rfl (by omega) (by omega) (by simp [wid])
 obtain ⟨w3,p3,q3⟩:=q2.puts (v:=((65535-b.length:Nat):Int)) (n:=16) (65535-b.length) 16 rfl rfl (by omega) (by omega) (by simp [wid])
 obtain ⟨w4,p4,q4⟩:=st_loop hb hl b.length 0 BIG w3 _ (by omega) (by simp only [BIG]; omega) q3 (by simp [wid]; omega)
 refine ⟨w4,?_,by rw [List.drop_zero] at q4; simpa using q4⟩
 unfold shrink_storedBlock
 refine bnd p1 (obs1 ?_)
 have hw8:IntKind.i64.wrap (8 * (w1.b.length:Int))=((8 * 1:Nat):Int):=by rw [l1]; exact wrap_i64 (by omega) (by omega)
 exact bnd (congrArg some hw8) (bnd p2 (bnd (congrArg some (xor16 b.length (by omega))) (bnd p3 (bndL p4 rfl))))
/-! Tokens of a text. -/
theorem toksS_ok {b:List Int} (hb:∀ n∈b,0≤n∧n<256):∀ t∈toksS b,okTk t:=by
 have key:∀ (k at_:Nat),∀ t∈toks b k at_,okTk t:=by
  intro k
  induction k with
  | zero=>intro at_ t ht; simp [toks] at ht
  | succ k ih =>
   intro at_ t ht
   unfold toks at ht
   split at ht
   ·rename_i hlt
    split at ht
    ·rcases List.mem_cons.1 ht with rfl | h
     ·have:=hb _ (List.getElem_mem hlt)
      exact ⟨by rw [List.getD_eq_getElem?_getD,List.getElem?_eq_getElem hlt,Option.getD_some]; exact this,.inl rfl⟩
     ·exact ih _ t h
    ·rename_i h0
     rcases List.mem_cons.1 ht with rfl | h
     ·rcases bestS_cases b at_ with hc | ⟨c1,c2,c3,c4,c5,c6⟩
      ·rw [hc] at h0; exact absurd rfl h0
      ·exact ⟨⟨Int.le_refl 0,show (0:Int)<256 by decide⟩,.inr ⟨by show (3:Int)≤((bestS b at_).1:Int); omega,by show ((bestS b at_).1:Int)≤258; omega,by show (1:Int)≤((bestS b at_).2:Int); omega,by show ((bestS b at_).2:Int)≤2048; omega⟩⟩
     ·exact ih _ t h
   ·simp at ht
 intro t ht
 exact key _ _ t ht
def fxP (l:List T_Tok):List (Nat×Nat):=[(1,1),(1,2)]++(tksP mL mD l++[syP mL 256])
def stQ (b:List Int):List (Nat×Nat):=[(1,1),(0,2),(0,5),(b.length,16),(65535-b.length,16)]++stP b
theorem tl_5000 {b:List Int} (hl:b.length≤4096):(toksS b).length≤5000:=by
 have:=toksS_len b
 omega
theorem fixed_is {b:List Int} (hb:∀ n∈b,0≤n∧n<256) (hl:b.length≤4096):∃ w,shrink_Fixed b=some (w.b,0)∧shrink_fixedBlock (toksS b)=some (some w)∧WP w (fxP (toksS b)):=by
 obtain ⟨w,p,q⟩:=fixedBlock_eq (tl_5000 hl) (toksS_ok hb)
 refine ⟨w,?_,p,q⟩
 unfold shrink_Fixed
 exact bnd (tokens_eq hb hl) (cnd_f rfl (bnd p rfl))
theorem check_toks {b:List Int} (hl:b.length≤4096):match_Check (toksS b)=some 0:=by
 have:=toksS_len b
 rw [check_eq (by omega)]
 unfold ckE
 rw [chk_toksS b]
 show some (if 4096<b.length then (2:Int) else 0)=some 0
 rw [if_neg (by omega)]
def wtS (l:List T_Tok):(((List Int)×(List Int)×Int))→Option (((List Int)×(List Int)×Int)⊕(((List Int)×(List Int))⊕((List Int)×(List Int)×Int))):=(fun ((s46,s47,s48):(List Int)×(List Int)×Int) =>
  cond ((decide (s48<(l.length:Int))))
   (bindS (S:=(List Int)×(List Int)) (A:=(((List Int)×(List Int)×Int)⊕(((List Int)×(List Int))⊕((List Int)×(List Int)×Int))))
    ((ixO s48 l.length).bind fun v8 =>
    (getO l v8).bind fun v9 =>
    cond ((v9.Len==0))
     ((ixO v9.Byte s46.length).bind fun v11 =>
     (getO s46 v11).bind fun v12 =>
     (some (IntKind.i64.wrap (v12+1))).bind fun v13 =>
     (ixO v9.Byte s46.length).bind fun v14 =>
     (some (s46.set v14 v13)).bind fun v15 =>
     some (.inl (v15,s47)))
     ((sym_Len v9.Len).bind fun v16 =>
     (sym_Dist v9.Dist).bind fun v17 =>
     (ixO v16.1 s46.length).bind fun v18 =>
     (getO s46 v18).bind fun v19 =>
     (some (IntKind.i64.wrap (v19+1))).bind fun v20 =>
     (ixO v16.1 s46.length).bind fun v21 =>
     (some (s46.set v21 v20)).bind fun v22 =>
     (ixO v17.1 s47.length).bind fun v23 =>
     (getO s47 v23).bind fun v24 =>
     (some (IntKind.i64.wrap (v24+1))).bind fun v25 =>
     (ixO v17.1 s47.length).bind fun v26 =>
     (some (s47.set v26 v25)).bind fun v27 =>
     some (.inl (v22,v27))))
    (fun ((s67,s68):(List Int)×(List Int)) =>
     (some (IntKind.i64.wrap (s48+1))).bind fun v34 =>
     some (.inl (s67,s68,v34))) some)
   (some (.inr (.inl (s46,s47)))))
/-! Weights. -/
def inc (a:List Nat) (s:Nat):List Nat:=a.set s (a.getD s 0+1)
theorem inc_len (a:List Nat) (s:Nat):(inc a s).length=a.length:=by simp [inc]
theorem inc_at {a:List Nat} {s j:Nat} (hs:s<a.length):(inc a s).getD j 0=if j=s then a.getD j 0+1 else a.getD j 0:=by
 simp only [inc,List.getD_eq_getElem?_getD,List.getElem?_set]
 by_cases h:s=j
 ·subst h; simp [hs]
 ·rw [if_neg h,if_neg (fun e=>h e.symm)]
theorem inc_le {a:List Nat} {s c:Nat} (h:∀ x∈a,x≤c):∀ x∈inc a s,x≤c+1:=by
 intro x hx
 rcases List.mem_or_eq_of_mem_set hx with k | k
 ·have:=h x k; omega
 ·rw [k]
  have:a.getD s 0≤c:=by
   rw [List.getD_eq_getElem?_getD]
   cases hj:a[s]? with
   | none=>simp
   | some y=>simpa using h y (List.mem_of_getElem? hj)
  omega
theorem inc_ix {a:List Nat} {s:Nat} {x:Int} (hx:x=(s:Int)) (hs:s<a.length):ixO x (ints a).length=some s∧getO (ints a) s=some ((a.getD s 0:Nat):Int):=by
 subst hx
 refine ⟨ixO_of (by rw [ints_len]; exact hs),?_⟩
 rw [ints_get hs,List.getD_eq_getElem?_getD,List.getElem?_eq_getElem hs,Option.getD_some]
theorem set_ints (a:List Nat) (s v:Nat):(ints a).set s (v:Int)=ints (a.set s v):=by
 simp [ints,List.map_set]
def wtA (x:List Nat×List Nat) (t:T_Tok):List Nat×List Nat :=
 if t.Len=0 then (inc x.1 t.Byte.toNat,x.2) else (inc x.1 (lnN t.Len.toNat).1,inc x.2 (dsN t.Dist.toNat).1)
def wts0:List Nat×List Nat:=((List.replicate 286 0).set 256 1,List.replicate 30 0)
def wtN (l:List T_Tok):List Nat×List Nat:=l.foldl wtA wts0
structure WtI (x:List Nat×List Nat) (c:Nat):Prop where
 la:x.1.length=286
 ld:x.2.length=30
 ba:∀ y∈x.1,y≤c
 bd:∀ y∈x.2,y≤c
theorem wtI_step {x:List Nat×List Nat} {c:Nat} (h:WtI x c) (t:T_Tok):WtI (wtA x t) (c+1):=by
 unfold wtA
 split
 ·exact ⟨by rw [inc_len]; exact h.la,h.ld,inc_le h.ba,fun y hy=>Nat.le_succ_of_le (h.bd y hy)⟩
 ·exact ⟨by rw [inc_len]; exact h.la,by rw [inc_len]; exact h.ld,inc_le h.ba,inc_le h.bd⟩
theorem wtI_fold:∀ (l:List T_Tok) (x:List Nat×List Nat) (c:Nat),WtI x c→WtI (l.foldl wtA x) (c+l.length)
 | [],x,c,h=>h
 | t::l,x,c,h=>by
  have:=wtI_fold l (wtA x t) (c+1) (wtI_step h t)
  rw [List.length_cons,show c+(l.length+1)=c+1+l.length by omega]
  exact this
theorem wtI0:WtI wts0 1:=⟨by simp [wts0],by simp [wts0],of_decide_eq_true (by kernel_rfl),of_decide_eq_true (by kernel_rfl)⟩
theorem wt_step {l:List T_Tok} {i:Nat} (hi:i<l.length) (hil:l.length≤5000) (ht:okTk l[i]) {x:List Nat×List Nat} {c:Nat} (h:WtI x c) (hc:c≤1000000) :
  wtS l (ints x.1,ints x.2,(i:Int))=some (.inl (ints (wtA x l[i]).1,ints (wtA x l[i]).2,((i+1:Nat):Int))):=by
 have hg:=getO_of hi
 have hw:=wrap_succ (n:=i) (by omega)
 have hgd:∀ (a:List Nat) (s:Nat),(∀ y∈a,y≤c)→a.getD s 0≤c:=fun a s ha=>by
  rw [List.getD_eq_getElem?_getD]
  cases hj:a[s]? with
  | none=>simp
  | some y=>simpa using ha y (List.mem_of_getElem? hj)
 unfold wtA
 by_cases h0:l[i].Len=0
 ·rw [if_pos h0]
  have hs:l[i].Byte.toNat<x.1.length:=by rw [h.la]; have:=ht.1; omega
  obtain ⟨i1,i2⟩:=inc_ix (a:=x.1) (x:=l[i].Byte) (s:=l[i].Byte.toNat) (by have:=ht.1; omega) hs
  have:=hgd x.1 l[i].Byte.toNat h.ba
  exact cnd_t (decide_eq_true (by omega)) (bndL (s:=(ints (inc x.1 l[i].Byte.toNat),ints x.2)) (bnd (ixO_of hi) (bnd hg (cnd_t (beq_iff_eq.2 h0) (bnd i1 (bnd i2 (bnd (congrArg some (wrap_succ (n:=x.1.getD l[i].Byte.toNat 0) (by omega))) (bnd i1 (bnd (congrArg some (set_ints x.1 l[i].Byte.toNat _)) rfl)))))))) (bnd (congrArg some hw) rfl))
 ·rw [if_neg h0]
  rcases ht.2 with h1 | ⟨h1,h2,h3,h4⟩
  ·exact absurd h1 h0
  obtain ⟨l1,l2,l3,l4,l5⟩:=ln_ok (n:=l[i].Len.toNat) (by omega) (by omega)
  obtain ⟨d1,d2,d3,d4⟩:=ds_ok (n:=l[i].Dist.toNat) (by omega) (by omega)
  rw [show ((l[i].Len.toNat:Nat):Int)=l[i].Len by omega] at l1
  rw [show ((l[i].Dist.toNat:Nat):Int)=l[i].Dist by omega] at d1
  obtain ⟨i1,i2⟩:=inc_ix (a:=x.1) (s:=(lnN l[i].Len.toNat).1) rfl (by rw [h.la]; omega)
  obtain ⟨j1,j2⟩:=inc_ix (a:=x.2) (s:=(dsN l[i].Dist.toNat).1) rfl (by rw [h.ld]; omega)
  have q1:=hgd x.1 (lnN l[i].Len.toNat).1 h.ba
  have q2:=hgd x.2 (dsN l[i].Dist.toNat).1 h.bd
  exact cnd_t (decide_eq_true (by omega)) (bndL (s:=(ints (inc x.1 (lnN l[i].Len.toNat).1),ints (inc x.2 (dsN l[i].Dist.toNat).1))) (bnd (ixO_of hi) (bnd hg (cnd_f (beq_eq_false_iff_ne.2 h0) (bnd l1 (bnd d1 (bnd i1 (bnd i2 (bnd (congrArg some (wrap_succ (n:=x.1.getD (lnN l[i].Len.toNat).1 0) (by omega))) (bnd i1 (bnd (congrArg some (set_ints x.1 _ _)) (bnd j1 (bnd j2 (bnd (congrArg some (wrap_succ (n:=x.2.getD (dsN l[i].Dist.toNat).1 0) (by omega))) (bnd j1 (bnd (congrArg some (set_ints x.2 _ _)) rfl))))))))))))))) (bnd (congrArg some hw) rfl))
theorem wt_loop {l:List T_Tok} (hil:l.length≤5000) (ht:∀ t∈l,okTk t):∀ (k i fuel:Nat) (x:List Nat×List Nat) (c:Nat),i+k=l.length→k<fuel→WtI x c→c+k≤900000 →
  loopF (wtS l) fuel (ints x.1,ints x.2,(i:Int))=some (.inl (ints ((l.drop i).foldl wtA x).1,ints ((l.drop i).foldl wtA x).2))
 | 0,i,fuel,x,c,hk,hf,h,hc=>by
  obtain ⟨fu,rfl⟩:∃ fu,fuel=fu+1:=⟨fuel-1,by omega⟩
  rw [List.drop_eq_nil_of_le (by omega)]
  exact loop_exit (cnd_f (decide_eq_false (by omega)) rfl)
 | k+1,i,fuel,x,c,hk,hf,h,hc=>by
  obtain ⟨fu,rfl⟩:∃ fu,fuel=fu+1:=⟨fuel-1,by omega⟩
  have hi:i<l.length:=by omega
  rw [List.drop_eq_getElem_cons hi,List.foldl_cons]
  exact (loop_next (wt_step hi hil (ht _ (List.getElem_mem hi)) h (by omega))).trans (wt_loop hil ht k (i+1) fu (wtA x l[i]) (c+1) (by omega) (by omega) (wtI_step h _) (by omega))
theorem weights_eq {l:List T_Tok} (hil:l.length≤5000) (ht:∀ t∈l,okTk t) (hck:match_Check l=some 0):sym_Weights l=some (ints (wtN l).1,ints (wtN l).2,0):=by
 have m1:mkO 8 286 (0:Int)=some (List.replicate 286 0):=by kernel_rfl
 have m2:mkO 8 30 (0:Int)=some (List.replicate 30 0):=by kernel_rfl
 have hx:ixO 256 (List.replicate 286 (0:Int)).length=some 256:=by rw [List.length_replicate]; rfl
 have e1:(List.replicate 286 (0:Int)).set 256 1=ints wts0.1:=by kernel_rfl
 have e2:List.replicate 30 (0:Int)=ints wts0.2:=by kernel_rfl
 have hlp:=wt_loop hil ht l.length 0 BIG wts0 1 (by omega) (by simp only [BIG]; omega) wtI0 (by omega)
 rw [List.drop_zero,← e1,← e2] at hlp
 unfold sym_Weights
 exact bnd hck (cnd_f rfl (bnd m1 (bnd m2 (bnd hx (bnd rfl (bndL hlp rfl))))))
theorem wts_I (l:List T_Tok):WtI (wtN l) (1+l.length):=wtI_fold l wts0 1 wtI0
/-! What only grows. -/
theorem inc_mono (a:List Nat) (s j:Nat):a.getD j 0≤(inc a s).getD j 0:=by
 by_cases hs:s<a.length
 ·rw [inc_at hs]; split <;> omega
 ·rw [inc,List.set_eq_of_length_le (by omega)]; exact Nat.le_refl _
theorem wtA_mono (x:List Nat×List Nat) (t:T_Tok) (j:Nat):x.1.getD j 0≤(wtA x t).1.getD j 0∧x.2.getD j 0≤(wtA x t).2.getD j 0:=by
 unfold wtA
 split
 ·exact ⟨inc_mono _ _ _,Nat.le_refl _⟩
 ·exact ⟨inc_mono _ _ _,inc_mono _ _ _⟩
theorem fold_mono:∀ (l:List T_Tok) (x:List Nat×List Nat) (j:Nat),x.1.getD j 0≤(l.foldl wtA x).1.getD j 0∧x.2.getD j 0≤(l.foldl wtA x).2.getD j 0
 | [],x,j=>⟨Nat.le_refl _,Nat.le_refl _⟩
 | t::l,x,j=>by
  have h1:=wtA_mono x t j
  have h2:=fold_mono l (wtA x t) j
  exact ⟨Nat.le_trans h1.1 h2.1,Nat.le_trans h1.2 h2.2⟩
def used (x:List Nat×List Nat) (t:T_Tok):Prop:=if t.Len=0 then 0<x.1.getD t.Byte.toNat 0 else 0<x.1.getD (lnN t.Len.toNat).1 0∧0<x.2.getD (dsN t.Dist.toNat).1 0
theorem used_step {x:List Nat×List Nat} {c:Nat} (h:WtI x c) {t:T_Tok} (ht:okTk t):used (wtA x t) t:=by
 unfold used wtA
 by_cases h0:t.Len=0
 ·rw [if_pos h0,if_pos h0,inc_at (by rw [h.la]; have:=ht.1; omega),if_pos rfl]; omega
 ·rw [if_neg h0,if_neg h0]
  rcases ht.2 with h1 | ⟨h1,h2,h3,h4⟩
  ·exact absurd h1 h0
  obtain ⟨l1,l2,l3,l4,l5⟩:=ln_ok (n:=t.Len.toNat) (by omega) (by omega)
  obtain ⟨d1,d2,d3,d4⟩:=ds_ok (n:=t.Dist.toNat) (by omega) (by omega)
  rw [inc_at (by rw [h.la]; omega),if_pos rfl,inc_at (by rw [h.ld]; omega),if_pos rfl]
  omega
theorem used_mono {x y:List Nat×List Nat} (h:∀ j,x.1.getD j 0≤y.1.getD j 0∧x.2.getD j 0≤y.2.getD j 0) {t:T_Tok} (hu:used x t):used y t:=by
 unfold used at *
 split
 ·rename_i h0
  rw [if_pos h0] at hu
  exact Nat.lt_of_lt_of_le hu (h _).1
 ·rename_i h0
  rw [if_neg h0] at hu
  exact ⟨Nat.lt_of_lt_of_le hu.1 (h _).1,Nat.lt_of_lt_of_le hu.2 (h _).2⟩
theorem used_fold:∀ (l:List T_Tok) (x:List Nat×List Nat) (c:Nat),WtI x c→(∀ t∈l,okTk t)→∀ t∈l,used (l.foldl wtA x) t
 | t0::l,x,c,h,ho,t,ht=>by
  rw [List.foldl_cons]
  rcases List.mem_cons.1 ht with rfl | hm
  ·exact used_mono (fold_mono l (wtA x t)) (used_step h (ho t List.mem_cons_self))
  ·exact used_fold l (wtA x t0) (c+1) (wtI_step h t0) (fun y hy=>ho y (List.mem_cons_of_mem _ hy)) t hm
theorem ints_D (w:List Nat) (j:Nat):(ints w).getD j 0=((w.getD j 0:Nat):Int):=by
 simp only [ints,List.getD_eq_getElem?_getD,List.getElem?_map]
 cases w[j]? <;> simp
def trS (l:List Int) (least:Int):((Int))→Option ((Int)⊕((Int)⊕(List Int))):=(fun (s46:Int) =>
 bindS (S:=Bool) (A:=((Int)⊕((Int)⊕(List Int))))
  (cond ((decide (least<s46)))
   ((some (IntKind.i64.wrap (s46-1))).bind fun v1 =>
   (ixO v1 l.length).bind fun v2 =>
   (getO l v2).bind fun v3 =>
   some (.inl (v3==0)))
   (some (.inl false)))
  (fun (s59:Bool) =>
   cond (s59)
    ((some (IntKind.i64.wrap (s46-1))).bind fun v9 =>
    some (.inl v9))
    (some (.inr (.inl s46)))) some)
/-! Trees. -/
def trN (w:List Nat) (lim:Nat):List Nat:=match tree_Lengths (ints w) (lim:Int) with
 | some (m,_)=>m.map Int.toNat
 | none=>[]
theorem tree_cd {w:List Nat} {lim:Nat} (hl:w.length≤300) (hb:∀ x∈w,x≤1000000) (hL:okL (ints w) (lim:Int)) :
  tree_Lengths (ints w) (lim:Int)=some (ints (trN w lim),0)∧Cd (trN w lim)∧(trN w lim).length=w.length∧(∀ j,j<w.length→(0<(trN w lim).getD j 0↔0<w.getD j 0))∧∀ x∈trN w lim,x≤lim:=by
 have hok:okW (ints w):=⟨by rw [ints_len]; exact hl,fun i hi=>by
  rw [ints_len] at hi
  rw [ints_D,List.getD_eq_getElem?_getD,List.getElem?_eq_getElem hi,Option.getD_some]
  have:=hb _ (List.getElem_mem hi)
  omega⟩
 obtain ⟨J,hJ,hno,hyes,hle⟩:=lengths_eq hok hL
 have hlim:(lim:Int)≤15:=hL.2
 have hwJ:=hvN_ok hok J
 have hchk:=dep_check hwJ hyes hlim
 have hdl:(dep (hvN (ints w) J)).length=w.length:=by rw [dep_len,hvN_len,ints_len]
 have hdp:∀ j,j<w.length→(0<(dep (hvN (ints w) J)).getD j 0↔0<w.getD j 0):=by
  intro j hj
  have h1:=hvN_iff hok J j (by rw [ints_len]; exact hj)
  rw [ints_D] at h1
  rw [show (0<w.getD j 0↔0<(hvN (ints w) J).getD j 0) from ⟨fun h=>h1.2 (by omega),fun h=>by have:=h1.1 h; omega⟩]
  constructor
  ·intro h
   by_cases hz:0<(hvN (ints w) J).getD j 0
   ·exact hz
   ·rw [dep_zero hz] at h; omega
  ·exact fun h=>dep_pos (by rw [hvN_len,ints_len]; exact hj) h
 have hdf:∀ j,j<w.length→(dep (hvN (ints w) J)).getD j 0≤(lim:Int):=fun j hj=>hyes j (by rw [hvN_len,ints_len]; exact hj)
 have etr:trN w lim=(dep (hvN (ints w) J)).map Int.toNat:=by unfold trN; rw [hle]
 have h15:∀ x∈dep (hvN (ints w) J),0≤x:=fun x hx=>by
  obtain ⟨k,hk,rfl⟩:=mem_getD hx
  exact dep_nn (w:=hvN (ints w) J) k
 have hd:ints (trN w lim)=dep (hvN (ints w) J):=by rw [etr]; exact ints_nats h15
 have hln:(trN w lim).length=w.length:=by rw [etr,List.length_map,hdl]
 have hle2:∀ x∈trN w lim,x≤lim:=fun x hx=>by
  obtain ⟨k,hk,rfl⟩:=List.getElem_of_mem hx
  have h1:=hdf k (by omega)
  rw [← hd,ints_D,List.getD_eq_getElem?_getD,List.getElem?_eq_getElem hk,Option.getD_some] at h1
  omega
 rw [← hd] at hchk hdp hle
 refine ⟨hle,⟨by omega,fun x hx=>by have:=hle2 x hx; omega,?_⟩,hln,fun j hj => ?_,hle2⟩
 ·rw [check_ints _ (by omega)] at hchk
  have h2:=Option.some.inj hchk
  split at h2
  ·split at h2
   ·assumption
   ·cases h2
  ·cases h2
 ·have:=hdp j hj
  rw [ints_D] at this
  exact ⟨fun h=>this.1 (by omega),fun h=>by have:=this.2 h; omega⟩
/-! Without the noughts at the end. -/
def trm (l:List Nat) (least:Nat):Nat→Nat
 | 0=>0
 | s+1=>if least<s+1∧l.getD s 0=0 then trm l least s else s+1
theorem trm_le (l:List Nat) (least:Nat):∀ s,trm l least s≤s
 | 0=>Nat.le_refl _
 | s+1=>by
  unfold trm
  split
  ·have:=trm_le l least s; omega
  ·exact Nat.le_refl _
theorem trm_ge (l:List Nat) (least:Nat):∀ s,least≤s→least≤trm l least s
 | 0,h=>h
 | s+1,h=>by
  unfold trm
  split
  ·rename_i hc; exact trm_ge l least s (by omega)
  ·exact h
theorem trm_zero (l:List Nat) (least:Nat):∀ s j,trm l least s≤j→j<s→l.getD j 0=0
 | 0,j,_,h=>by omega
 | s+1,j,h1,h2=>by
  unfold trm at h1
  split at h1
  ·rename_i hc
   by_cases hj:j=s
   ·rw [hj]; exact hc.2
   ·exact trm_zero l least s j h1 (by omega)
  ·omega
theorem tr_loop {l:List Nat} (hl:l.length≤1000) (least:Nat):∀ (s fuel:Nat),s≤l.length→s<fuel→loopF (trS (ints l) (least:Int)) fuel (s:Int)=some (.inl ((trm l least s:Nat):Int))
 | 0,fuel,hs,hf=>by
  obtain ⟨fu,rfl⟩:∃ fu,fuel=fu+1:=⟨fuel-1,by omega⟩
  exact loop_exit (bndL (s:=false) (cnd_f (decide_eq_false (by omega)) rfl) (cnd_f rfl rfl))
 | s+1,fuel,hs,hf=>by
  obtain ⟨fu,rfl⟩:∃ fu,fuel=fu+1:=⟨fuel-1,by omega⟩
  have hw:IntKind.i64.wrap (((s+1:Nat):Int)-1)=((s:Nat):Int):=by rw [wrap_i64 (by omega) (by omega)]; omega
  obtain ⟨i1,i2⟩:=inc_ix (a:=l) (s:=s) rfl (by omega)
  unfold trm
  by_cases h1:least<s+1
  ·by_cases h2:l.getD s 0=0
   ·rw [if_pos ⟨h1,h2⟩]
    exact (loop_next (bndL (s:=true) (cnd_t (decide_eq_true (by omega)) (bnd (congrArg some hw) (bnd i1 (bnd i2 (by rw [h2]; rfl))))) (cnd_t rfl (bnd (congrArg some hw) rfl)))).trans (tr_loop hl least s fu (by omega) (by omega))
   ·rw [if_neg (fun h=>h2 h.2)]
    have hne:(((l.getD s 0:Nat):Int)==0)=false:=beq_eq_false_iff_ne.2 (by omega)
    exact loop_exit (bndL (s:=false) (cnd_t (decide_eq_true (by omega)) (bnd (congrArg some hw) (bnd i1 (bnd i2 (by rw [hne]))))) (cnd_f rfl rfl))
  ·rw [if_neg (fun h=>h1 h.1)]
   exact loop_exit (bndL (s:=false) (cnd_f (decide_eq_false (by omega)) rfl) (cnd_f rfl rfl))
def tmN (l:List Nat) (least:Nat):List Nat:=l.take (trm l least l.length)
theorem trim_eq {l:List Nat} (hl:l.length≤1000) (least:Nat):shrink_trim_ro (ints l) (least:Int)=some (ints (tmN l least)):=by
 have hlp:loopF (trS (ints l) (least:Int)) BIG ((ints l).length:Int)=some (.inl ((trm l least l.length:Nat):Int)):=by rw [ints_len]; exact tr_loop hl least l.length BIG (Nat.le_refl _) (by simp only [BIG]; omega)
 have hle:=trm_le l least l.length
 unfold shrink_trim_ro
 refine bndL hlp (bnd (x:=ints (tmN l least)) ?_ rfl)
 have:=sli_nat (ints l) (a:=0) (b:=trm l least l.length) (by omega) (by rw [ints_len]; exact hle)
 rw [show ((0:Nat):Int)=0 from rfl] at this
 rw [this,List.drop_zero,Nat.sub_zero]
 simp [ints,tmN,List.map_take]
def rsS (lengths:List Int) (at_ v2:Int):((Int))→Option ((Int)⊕((Int)⊕(Int×Int×Int))):=(fun (s19:Int) =>
 bindS (S:=Bool) (A:=((Int)⊕((Int)⊕(Int×Int×Int))))
  ((some (IntKind.i64.wrap (at_+s19))).bind fun v3 =>
  cond ((decide (v3<(lengths.length:Int))))
   ((some (IntKind.i64.wrap (at_+s19))).bind fun v4 =>
   (ixO v4 lengths.length).bind fun v5 =>
   (getO lengths v5).bind fun v6 =>
   some (.inl (v6==v2)))
   (some (.inl false)))
  (fun (s32:Bool) =>
   cond (s32)
    ((some (IntKind.i64.wrap (s19+1))).bind fun v12 =>
    some (.inl v12))
    (some (.inr (.inl s19)))) some)
def rw0S (lengths:List Int):((Int))→Option ((Int)⊕((Unit)⊕((List Int)×(List Int)×Int))):=(fun (s18:Int) =>
  cond ((decide (s18<(lengths.length:Int))))
   ((ixO s18 lengths.length).bind fun v3 =>
   (getO lengths v3).bind fun v4 =>
   bindS (S:=Bool) (A:=((Int)⊕((Unit)⊕((List Int)×(List Int)×Int))))
    (cond ((decide (v4<0)))
     (some (.inl true))
     (some (.inl ((decide (15<v4))))))
    (fun (s32:Bool) =>
     cond (s32)
      (some (.inr (.inr (([],[],1)))))
      ((some (IntKind.i64.wrap (s18+1))).bind fun v10 =>
      some (.inl v10))) some)
   (some (.inr (.inl ()))))
def rw1S (lengths:List Int):(((List Int)×(List Int)×Int))→Option (((List Int)×(List Int)×Int)⊕(((List Int)×(List Int))⊕((List Int)×(List Int)×Int))):=(fun ((s46,s47,s48):(List Int)×(List Int)×Int) =>
    cond ((decide (s48<(lengths.length:Int))))
     ((shrink_rowStep lengths s48).bind fun v38 =>
     (appO 8 s46 [v38.1]).bind fun v39 =>
     (appO 8 s47 [v38.2.1]).bind fun v40 =>
     (some (IntKind.i64.wrap (s48+v38.2.2))).bind fun v41 =>
     some (.inl (v39,v40,v41)))
     (some (.inr (.inl (s46,s47)))))
def rn (x:Int):List Int→Nat
 | []=>0
 | y::l=>if y=x then rn x l+1 else 0
theorem rn_le (x:Int):∀ l,rn x l≤l.length
 | []=>Nat.le_refl _
 | y::l=>by
  unfold rn
  have:=rn_le x l
  split
  ·simp; omega
  ·simp
theorem rn_at (x:Int):∀ (l:List Int) (j:Nat),j<rn x l→l[j]? = some x
 | [],j,h=>by simp [rn] at h
 | y::l,j,h=>by
  unfold rn at h
  split at h
  ·rename_i e
   subst e
   cases j with
   | zero=>simp
   | succ j=>simpa using rn_at y l j (by omega)
  ·omega
theorem rn_stop (x:Int):∀ (l:List Int),rn x l<l.length→l[rn x l]? ≠ some x
 | [],h=>by simp at h
 | y::l,h=>by
  unfold rn at h ⊢
  split
  ·rename_i e
   rw [if_pos e] at h
   simpa using rn_stop x l (by simpa using h)
  ·rename_i e
   simpa using e
def runL (l:List Int) (i:Nat):Nat:=rn (l.getD i 0) (l.drop i)
theorem getDa {l:List Int} {i:Nat} (h:i<l.length):l.getD i 0=l[i]:=by simp [List.getD_eq_getElem?_getD,h]
theorem run_pos {l:List Int} {i:Nat} (h:i<l.length):1≤runL l i:=by
 unfold runL
 rw [List.drop_eq_getElem_cons h,getDa h]
 unfold rn
 rw [if_pos rfl]
 omega
theorem run_le (l:List Int) (i:Nat):runL l i≤l.length-i:=by
 have:=rn_le (l.getD i 0) (l.drop i)
 rwa [List.length_drop] at this
theorem run_at {l:List Int} {i j:Nat} (h:j<runL l i):l[i+j]? = some (l.getD i 0):=by
 have:=rn_at (l.getD i 0) (l.drop i) j h
 rwa [List.getElem?_drop] at this
theorem run_stop {l:List Int} {i:Nat} (h:i+runL l i<l.length):l[i+runL l i]? ≠ some (l.getD i 0):=by
 have:=rn_stop (l.getD i 0) (l.drop i) (by rw [List.length_drop]; unfold runL at h; omega)
 rwa [List.getElem?_drop] at this
def stpR (x:Int) (pv:Bool) (r:Nat):Int×Nat×Nat :=
 if x=0∧11≤r then (18,min r 138-11,min r 138) else if x=0∧3≤r then (17,r-3,r) else if x≠0∧3≤r∧pv=true then (16,min r 6-3,min r 6) else (x,0,1)
def prvR (l:List Int) (i:Nat):Bool:=decide (0<i∧l.getD (i-1) 0=l.getD i 0)
def stpL (l:List Int) (i:Nat):Int×Nat×Nat:=stpR (l.getD i 0) (prvR l i) (runL l i)
def rowF (l:List Int):Nat→Nat→List (Int×Nat)
 | 0,_=>[]
 | k+1,i=>if i<l.length then ((stpL l i).1,(stpL l i).2.1)::rowF l k (i+(stpL l i).2.2) else []
theorem stp_cnt {l:List Int} {i:Nat} (h:i<l.length):1≤(stpL l i).2.2∧(stpL l i).2.2≤runL l i∧(stpL l i).2.2≤138∧(stpL l i).2.1≤127:=by
 have:=run_pos h
 unfold stpL stpR
 split
 ·simp; omega
 ·split
  ·simp; omega
  ·split
   ·simp; omega
   ·simp; omega
theorem at_of {l:List Int} {k:Nat} {x:Int} (h:l[k]? = some x):∃ hk:k<l.length,l[k]=x:=by
 rw [List.getElem?_eq_some_iff] at h; exact h
theorem wrA (a b:Nat) (h:a+b<4611686018427387904):IntKind.i64.wrap ((a:Int)+(b:Int))=((a+b:Nat):Int):=by rw [wrap_i64 (by omega) (by omega)]; omega
theorem wrS {a b:Nat} (h:b≤a) (ha:a<4611686018427387904):IntKind.i64.wrap ((a:Int)-(b:Int))=((a-b:Nat):Int):=by rw [wrap_i64 (by omega) (by omega)]; omega
theorem rs_loop {l:List Int} (hl:l.length≤400) {i:Nat} (hi:i<l.length):loopF (rsS l (i:Int) (l.getD i 0)) BIG 1=some (.inl ((runL l i:Nat):Int)):=by
 have hp:=run_pos hi
 have hle:=run_le l i
 refine loop_from (fun k=>((k+1:Nat):Int)) (runL l i-1) BIG rfl (by simp only [BIG]; omega) (fun k hk => ?_) ?_
 ·obtain ⟨h1,h2⟩:=at_of (run_at (l:=l) (i:=i) (j:=k+1) (by omega))
  exact bndL (bnd (congrArg some (wrA i (k+1) (by omega))) (cnd_t (decide_eq_true (by omega)) (bnd (congrArg some (wrA i (k+1) (by omega))) (bnd (ixO_of h1) (bnd (getO_of h1) rfl))))) (cnd_t (by rw [h2]; exact beq_self_eq_true _) (bnd (congrArg some (wrap_succ (n:=k+1) (by omega))) rfl))
 ·show rsS l (i:Int) (l.getD i 0) ((runL l i-1+1:Nat):Int)=_
  rw [show runL l i-1+1=runL l i by omega]
  by_cases hk:i+runL l i<l.length
  ·have hs:=run_stop hk
   rw [List.getElem?_eq_getElem hk] at hs
   exact bndL (bnd (congrArg some (wrA i (runL l i) (by omega))) (cnd_t (decide_eq_true (by omega)) (bnd (congrArg some (wrA i (runL l i) (by omega))) (bnd (ixO_of hk) (bnd (getO_of hk) rfl))))) (cnd_f (beq_eq_false_iff_ne.2 fun e=>hs (by rw [e])) rfl)
  ·exact bndL (bnd (congrArg some (wrA i (runL l i) (by omega))) (cnd_f (decide_eq_false (by omega)) rfl)) (cnd_f rfl rfl)
theorem inl_of {A B:Type} {a b:A} (h:a=b):(some (.inl a):Option (A⊕B))=some (.inl b):=by rw [h]
theorem step_eq {l:List Int} (hl:l.length≤400) {i:Nat} (hi:i<l.length):shrink_rowStep l (i:Int)=some ((stpL l i).1,(((stpL l i).2.1:Nat):Int),(((stpL l i).2.2:Nat):Int)):=by
 have hp:=run_pos hi
 have hle:=run_le l i
 have hg:=getO_of hi
 rw [← getDa hi] at hg
 unfold shrink_rowStep
 refine bnd (ixO_of hi) (bnd hg (bndL (rs_loop hl hi) ?_))
 simp only [stpL]
 generalize hx:l.getD i 0=x at *
 generalize hr:runL l i=r at *
 unfold stpR
 by_cases h1:x=0∧11≤r
 ·rw [if_pos h1]
  obtain ⟨rfl,h1⟩:=h1
  have e1:(if (138:Int)<(r:Int) then (138:Int) else (r:Int))=((min r 138:Nat):Int):=by
   by_cases h:138<r
   ·rw [if_pos (by omega)]; omega
   ·rw [if_neg (by omega)]; omega
  exact bndL (cnd_t rfl rfl) (cnd_t (decide_eq_true (by omega)) (bnd (congrArg some e1) (bnd (congrArg some (wrS (a:=min r 138) (b:=11) (by omega) (by omega))) rfl)))
 ·rw [if_neg h1]
  refine bndL (s:=false) ?_ (cnd_f rfl ?_)
  ·by_cases hx0:x=0
   ·exact cnd_t (by rw [hx0]; rfl) (inl_of (decide_eq_false (fun h=>h1 ⟨hx0,by omega⟩)))
   ·exact cnd_f (beq_eq_false_iff_ne.2 hx0) rfl
  by_cases h2:x=0∧3≤r
  ·rw [if_pos h2]
   obtain ⟨rfl,h2⟩:=h2
   exact bndL (cnd_t rfl rfl) (cnd_t (decide_eq_true (by omega)) (bnd (congrArg some (wrS (a:=r) (b:=3) (by omega) (by omega))) rfl))
  ·rw [if_neg h2]
   refine bndL (s:=false) ?_ (cnd_f rfl ?_)
   ·by_cases hx0:x=0
    ·exact cnd_t (by rw [hx0]; rfl) (inl_of (decide_eq_false (fun h=>h2 ⟨hx0,by omega⟩)))
    ·exact cnd_f (beq_eq_false_iff_ne.2 hx0) rfl
   by_cases h3:x≠0∧3≤r∧prvR l i=true
   ·rw [if_pos h3]
    obtain ⟨h31,h32,h33⟩:=h3
    have hpv:=of_decide_eq_true h33
    have hi1:i-1<l.length:=by omega
    have hg1:=getO_of hi1
    rw [← getDa hi1,hpv.2,hx] at hg1
    have e1:(if (6:Int)<(r:Int) then (6:Int) else (r:Int))=((min r 6:Nat):Int):=by
     by_cases h:6<r
     ·rw [if_pos (by omega)]; omega
     ·rw [if_neg (by omega)]; omega
    exact bndL (cnd_t (bne_iff_ne.2 h31) (cnd_t (decide_eq_true (by omega)) (cnd_t (decide_eq_true (by omega)) (bnd (congrArg some (wrS (a:=i) (b:=1) (by omega) (by omega))) (bnd (ixO_of hi1) (bnd hg1 rfl)))))) (cnd_t (beq_self_eq_true _) (bnd (congrArg some e1) (bnd (congrArg some (wrS (a:=min r 6) (b:=3) (by omega) (by omega))) rfl)))
   ·rw [if_neg h3]
    refine bndL (s:=false) ?_ (cnd_f rfl rfl)
    by_cases hx0:x=0
    ·exact cnd_f (by rw [hx0]; rfl) rfl
    ·by_cases hr3:3≤r
     ·by_cases hi0:0<i
      ·have hi1:i-1<l.length:=by omega
       have hg1:=getO_of hi1
       rw [← getDa hi1] at hg1
       exact cnd_t (bne_iff_ne.2 hx0) (cnd_t (decide_eq_true (by omega)) (cnd_t (decide_eq_true (by omega)) (bnd (congrArg some (wrS (a:=i) (b:=1) (by omega) (by omega))) (bnd (ixO_of hi1) (bnd hg1 (inl_of (beq_eq_false_iff_ne.2 fun e=>h3 ⟨hx0,hr3,decide_eq_true ⟨hi0,by rw [e,hx]⟩⟩)))))))
      ·exact cnd_t (bne_iff_ne.2 hx0) (cnd_t (decide_eq_true (by omega)) (cnd_f (decide_eq_false (by omega)) rfl))
     ·exact cnd_t (bne_iff_ne.2 hx0) (cnd_f (decide_eq_false (by omega)) rfl)
def okR (l:List Int):Prop:=l.length≤320∧∀ n∈l,0≤n∧n≤15
instance okRDec (l:List Int):Decidable (okR l):=by unfold okR; infer_instance
theorem rowF_len (l:List Int):∀ (k i:Nat),(rowF l k i).length≤k
 | 0,_=>Nat.le_refl _
 | k+1,i=>by
  unfold rowF
  split
  ·simp only [List.length_cons]
   have:=rowF_len l k (i+(stpL l i).2.2)
   omega
  ·simp
def sy (p:List (Int×Nat)):List Int:=p.map fun x=>x.1
def mo (p:List (Int×Nat)):List Int:=p.map fun x=>((x.2:Nat):Int)
theorem rw1_loop {l:List Int} (hl:l.length≤400):∀ (k i fuel:Nat) (p:List (Int×Nat)),i≤l.length→l.length-i≤k→k<fuel→p.length≤i→loopF (rw1S l) fuel (sy p,mo p,(i:Int))=some (.inl (sy (p++rowF l k i),mo (p++rowF l k i)))
 | k,i,fuel,p,hi,hk,hf,hp=>by
  obtain ⟨fu,rfl⟩:∃ fu,fuel=fu+1:=⟨fuel-1,by omega⟩
  by_cases hlt:i<l.length
  ·obtain ⟨k,rfl⟩:∃ k',k=k'+1:=⟨k-1,by omega⟩
   obtain ⟨c1,c2,c3,c4⟩:=stp_cnt hlt
   have hle:=run_le l i
   have ih:=rw1_loop hl k (i+(stpL l i).2.2) fu (p++[((stpL l i).1,(stpL l i).2.1)]) (by omega) (by omega) (by omega) (by simp; omega)
   have e0:p++rowF l (k+1) i=(p++[((stpL l i).1,(stpL l i).2.1)])++rowF l k (i+(stpL l i).2.2):=by
    rw [rowF,if_pos hlt]; simp
   rw [e0]
   refine (loop_next (cnd_t (decide_eq_true (by omega)) (bnd (step_eq hl hlt) (bnd (app_of (m:=[(stpL l i).1]) ?_ ?_) (bnd (app_of (m:=[(((stpL l i).2.1:Nat):Int)]) ?_ ?_) (bnd (congrArg some (wrA i (stpL l i).2.2 (by omega))) rfl)))))).trans ?_
   ·simp [sy]; omega
   ·simp [sy]; omega
   ·simp [mo]; omega
   ·simp [mo]; omega
   ·rw [← ih]
    simp [sy,mo]
  ·have e:rowF l k i=[]:=by
    cases k with
    | zero=>rfl
    | succ k=>rw [rowF,if_neg hlt]
   rw [e,List.append_nil]
   exact loop_exit (cnd_f (decide_eq_false (by omega)) rfl)
def rowL (l:List Int):List (Int×Nat):=rowF l l.length 0
theorem row_eq {l:List Int} (hl:l.length≤400):shrink_Row l=some (if okR l then (sy (rowL l),mo (rowL l),0) else ([],[],1)):=by
 unfold shrink_Row
 by_cases h3:l.length≤320
 ·refine cnd_f (decide_eq_false (by omega)) ?_
  have hv:loopF (rw0S l) BIG 0=some (if ∀ i,i<l.length→decide (0≤l.getD i 0∧l.getD i 0≤15)=true then .inl () else .inr ([],[],1)):=by
   refine loop_all (fun i=>decide (0≤l.getD i 0∧l.getD i 0≤15)) l.length _ (by simp only [BIG]; omega) (fun i hi hp => ?_) (fun i hi hp => ?_) (cnd_f (decide_eq_false (by omega)) rfl)
   ·have hp:=of_decide_eq_true hp
    have hg:=getO_of hi
    rw [← getDa hi] at hg
    exact cnd_t (decide_eq_true (by omega)) (bnd (ixO_of hi) (bnd hg (bndL (cnd_f (decide_eq_false (by omega)) (inl_of (decide_eq_false (by omega)))) (cnd_f rfl (bnd (congrArg some (wrap_succ (n:=i) (by omega))) rfl)))))
   ·have hp:=of_decide_eq_false hp
    have hg:=getO_of hi
    rw [← getDa hi] at hg
    refine cnd_t (decide_eq_true (by omega)) (bnd (ixO_of hi) (bnd hg (bndL (s:=true) ?_ (cnd_t rfl rfl))))
    by_cases h0:l.getD i 0<0
    ·exact cnd_t (decide_eq_true h0) rfl
    ·exact cnd_f (decide_eq_false h0) (inl_of (decide_eq_true (by omega)))
  have hq:(∀ i,i<l.length→decide (0≤l.getD i 0∧l.getD i 0≤15)=true)↔okR l:=by
   constructor
   ·intro h
    refine ⟨h3,fun n hn => ?_⟩
    obtain ⟨i,hi,rfl⟩:=List.getElem_of_mem hn
    have:=of_decide_eq_true (h i hi)
    rwa [getDa hi] at this
   ·intro h i hi
    rw [getDa hi]
    exact decide_eq_true (h.2 _ (List.getElem_mem hi))
  by_cases ho:okR l
  ·rw [if_pos (hq.2 ho)] at hv
   rw [if_pos ho]
   refine bndL hv ?_
   have hlp:=rw1_loop hl l.length 0 BIG [] (by omega) (by omega) (by simp only [BIG]; omega) (by simp)
   exact bndL hlp rfl
  ·rw [if_neg (fun h=>ho (hq.1 h))] at hv
   rw [if_neg ho]
   exact bndR hv rfl
 ·rw [if_neg (fun h=>h3 h.1)]
  exact cnd_t (decide_eq_true (by omega)) rfl
def pl0 (sL:List Int):(((List Int)×Int))→Option (((List Int)×Int)⊕(((List Int))⊕T_shrink_writer)):=(fun ((s17,s18):(List Int)×Int) =>
 cond ((decide (s18<(sL.length:Int))))
  ((ixO s18 sL.length).bind fun v6 =>
  (getO sL v6).bind fun v7 =>
  (ixO v7 s17.length).bind fun v8 =>
  (getO s17 v8).bind fun v9 =>
  (some (IntKind.i64.wrap (v9+1))).bind fun v10 =>
  (ixO v7 s17.length).bind fun v11 =>
  (some (s17.set v11 v10)).bind fun v12 =>
  (some (IntKind.i64.wrap (s18+1))).bind fun v13 =>
  some (.inl (v12,v13)))
  (some (.inr (.inl s17))))
def pl1 (lL:List Int):(((List Int)×Int))→Option (((List Int)×Int)⊕(((List Int))⊕T_shrink_writer)):=(fun ((s41,s42):(List Int)×Int) =>
   cond ((decide (s42<19)))
    ((ixO s42 19).bind fun v31 =>
    (getO shrink_rowOrder v31).bind fun v32 =>
    (ixO v32 lL.length).bind fun v33 =>
    (getO lL v33).bind fun v34 =>
    (ixO s42 s41.length).bind fun v35 =>
    (some (s41.set v35 v34)).bind fun v36 =>
    (some (IntKind.i64.wrap (s42+1))).bind fun v37 =>
    some (.inl (v36,v37)))
    (some (.inr (.inl s41))))
def pl2 (v52:List Int):(((List Int)×Int×Int))→Option (((List Int)×Int×Int)⊕(((List Int)×Int)⊕T_shrink_writer)):=(fun ((s68,s69,s70):(List Int)×Int×Int) =>
     cond ((decide (s70<(v52.length:Int))))
      ((ixO s70 v52.length).bind fun v60 =>
      (getO v52 v60).bind fun v61 =>
      (shrink_writer_put (T_shrink_writer.mk s68 s69) v61 3).bind fun v62 =>
      (some (IntKind.i64.wrap (s70+1))).bind fun v63 =>
      some (.inl (v62.b,v62.n,v63)))
      (some (.inr (.inl (s68,s69)))))
def pl3 (sL mL:List Int) (v81:T_shrink_code):(((List Int)×Int×Int))→Option (((List Int)×Int×Int)⊕(((List Int)×Int)⊕T_shrink_writer)):=(fun ((s95,s96,s97):(List Int)×Int×Int) =>
       cond ((decide (s97<(sL.length:Int))))
        ((ixO s97 sL.length).bind fun v83 =>
        (getO sL v83).bind fun v84 =>
        (shrink_writer_putSym (T_shrink_writer.mk s95 s96) v81 v84).bind fun v85 =>
        (ixO s97 mL.length).bind fun v86 =>
        (getO mL v86).bind fun v87 =>
        (shrink_rowMore v84).bind fun v88 =>
        (shrink_writer_put v85 v87 v88).bind fun v89 =>
        (some (IntKind.i64.wrap (s97+1))).bind fun v90 =>
        some (.inl (v89.b,v89.n,v90)))
        (some (.inr (.inl (s95,s96)))))
def rwm (s:Nat):Nat:=if s=16 then 2 else if s=17 then 3 else if s=18 then 7 else 0
theorem rwm_le (s:Nat):rwm s≤7:=by
 unfold rwm
 split
 ·omega
 ·split
  ·omega
  ·split <;> omega
theorem rowMore_eq (s:Nat):shrink_rowMore (s:Int)=some ((rwm s:Nat):Int):=by
 unfold shrink_rowMore rwm
 by_cases h1:s=16
 ·subst h1; rfl
 rw [if_neg h1]
 refine cnd_f (beq_eq_false_iff_ne.2 (by omega)) ?_
 by_cases h2:s=17
 ·subst h2; rfl
 rw [if_neg h2]
 refine cnd_f (beq_eq_false_iff_ne.2 (by omega)) ?_
 by_cases h3:s=18
 ·subst h3; rfl
 rw [if_neg h3]
 exact cnd_f (beq_eq_false_iff_ne.2 (by omega)) rfl
def rowN (l:List Nat):List (Nat×Nat):=(rowL (ints l)).map fun p=>(p.1.toNat,p.2)
def okRow (p:Int×Nat):Prop:=0≤p.1∧p.1≤18∧p.2<2 ^ rwm p.1.toNat
theorem stp_row {l:List Int} (hv:∀ n∈l,0≤n∧n≤15) {i:Nat} (hi:i<l.length):okRow ((stpL l i).1,(stpL l i).2.1):=by
 have hx:=hv _ (List.getElem_mem hi)
 rw [← getDa hi] at hx
 have hp:=run_pos hi
 unfold stpL stpR
 by_cases h1:l.getD i 0=0∧11≤runL l i
 ·rw [if_pos h1]
  refine ⟨show (0:Int)≤18 by decide,show (18:Int)≤18 by decide,?_⟩
  show min (runL l i) 138-11<2 ^ 7
  have e:(2:Nat) ^ 7=128:=by decide
  omega
 ·rw [if_neg h1]
  by_cases h2:l.getD i 0=0∧3≤runL l i
  ·rw [if_pos h2]
   refine ⟨show (0:Int)≤17 by decide,show (17:Int)≤18 by decide,?_⟩
   show runL l i-3<2 ^ 3
   have e:(2:Nat) ^ 3=8:=by decide
   omega
  ·rw [if_neg h2]
   by_cases h3:l.getD i 0≠0∧3≤runL l i∧prvR l i=true
   ·rw [if_pos h3]
    refine ⟨show (0:Int)≤16 by decide,show (16:Int)≤18 by decide,?_⟩
    show min (runL l i) 6-3<2 ^ 2
    have e:(2:Nat) ^ 2=4:=by decide
    omega
   ·rw [if_neg h3]
    exact ⟨hx.1,by show l.getD i 0≤18; omega,Nat.two_pow_pos _⟩
theorem rowF_ok {l:List Int} (hv:∀ n∈l,0≤n∧n≤15):∀ k i,∀ p∈rowF l k i,okRow p
 | 0,i,p,h=>by simp [rowF] at h
 | k+1,i,p,h=>by
  unfold rowF at h
  split at h
  ·rename_i hi
   rcases List.mem_cons.1 h with rfl | h
   ·exact stp_row hv hi
   ·exact rowF_ok hv k _ p h
  ·simp at h
theorem ints_ok {l:List Nat} (h:∀ x∈l,x≤15):∀ n∈ints l,0≤n∧n≤15:=fun n hn=>by
 obtain ⟨x,hx,rfl⟩:=List.mem_map.1 hn
 have:=h x hx
 omega
theorem rowN_ok {l:List Nat} (h:∀ x∈l,x≤15):∀ p∈rowN l,p.1≤18∧p.2<2 ^ rwm p.1:=fun p hp=>by
 obtain ⟨q,hq,rfl⟩:=List.mem_map.1 hp
 obtain ⟨k1,k2,k3⟩:=rowF_ok (ints_ok h) _ _ q hq
 exact ⟨by show q.1.toNat≤18; omega,k3⟩
theorem rowN_len (l:List Nat):(rowN l).length≤l.length:=by
 rw [rowN,List.length_map]
 have:=rowF_len (ints l) (ints l).length 0
 have e:=ints_len l
 unfold rowL
 omega
def sN (R:List (Nat×Nat)):List Nat:=R.map fun p=>p.1
def mN (R:List (Nat×Nat)):List Nat:=R.map fun p=>p.2
theorem row_ints {l:List Nat} (h:∀ x∈l,x≤15) (hl:l.length≤320):shrink_Row (ints l)=some (ints (sN (rowN l)),ints (mN (rowN l)),0):=by
 rw [row_eq (by rw [ints_len]; omega),if_pos ⟨by rw [ints_len]; exact hl,ints_ok h⟩]
 have e1:sy (rowL (ints l))=ints (sN (rowN l)):=by
  simp only [sy,ints,sN,rowN,List.map_map]
  refine List.map_congr_left fun p hp => ?_
  have:=(rowF_ok (ints_ok h) _ _ p hp).1
  simp only [Function.comp]
  omega
 have e2:mo (rowL (ints l))=ints (mN (rowN l)):=by
  simp only [mo,ints,mN,rowN,List.map_map]
  rfl
 rw [e1,e2]
def rwW (s:List Nat):List Nat:=s.foldl inc (List.replicate 19 0)
theorem incs_I:∀ (s a:List Nat) (c:Nat),a.length=19→(∀ x∈a,x≤c)→(s.foldl inc a).length=19∧∀ x∈s.foldl inc a,x≤c+s.length
 | [],a,c,h1,h2=>⟨h1,h2⟩
 | t::s,a,c,h1,h2=>by
  have:=incs_I s (inc a t) (c+1) (by rw [inc_len]; exact h1) (inc_le h2)
  rw [List.foldl_cons,List.length_cons,show c+(s.length+1)=c+1+s.length by omega]
  exact this
theorem rwW_I (s:List Nat):(rwW s).length=19∧∀ x∈rwW s,x≤s.length:=by
 have:=incs_I s (List.replicate 19 0) 0 (by simp) (fun x hx=>by rw [List.mem_replicate] at hx; omega)
 rw [Nat.zero_add] at this
 exact this
theorem incs_used:∀ (s a:List Nat),a.length=19→(∀ x∈s,x≤18)→∀ x∈s,0<(s.foldl inc a).getD x 0
 | t::s,a,h1,h2,x,hx=>by
  rw [List.foldl_cons]
  have mono:∀ (s a:List Nat) (j:Nat),a.getD j 0≤(s.foldl inc a).getD j 0:=by
   intro s
   induction s with
   | nil=>intro a j; exact Nat.le_refl _
   | cons y s ih=>intro a j; exact Nat.le_trans (inc_mono a y j) (ih (inc a y) j)
  rcases List.mem_cons.1 hx with rfl | hm
  ·refine Nat.lt_of_lt_of_le ?_ (mono s (inc a x) x)
   rw [inc_at (by rw [h1]; have:=h2 x List.mem_cons_self; omega),if_pos rfl]; omega
  ·exact incs_used s (inc a t) (by rw [inc_len]; exact h1) (fun y hy=>h2 y (List.mem_cons_of_mem _ hy)) x hm
theorem pl0_loop {s:List Nat} (hs:∀ x∈s,x≤18) (hl:s.length≤5000):∀ (k i fuel:Nat) (a:List Nat) (c:Nat),i+k=s.length→k<fuel→a.length=19→(∀ x∈a,x≤c)→c+k≤900000 →
  loopF (pl0 (ints s)) fuel (ints a,(i:Int))=some (.inl (ints ((s.drop i).foldl inc a)))
 | 0,i,fuel,a,c,hk,hf,h1,h2,hc=>by
  obtain ⟨fu,rfl⟩:∃ fu,fuel=fu+1:=⟨fuel-1,by omega⟩
  rw [List.drop_eq_nil_of_le (by omega)]
  exact loop_exit (cnd_f (decide_eq_false (by rw [ints_len]; omega)) rfl)
 | k+1,i,fuel,a,c,hk,hf,h1,h2,hc=>by
  obtain ⟨fu,rfl⟩:∃ fu,fuel=fu+1:=⟨fuel-1,by omega⟩
  have hi:i<s.length:=by omega
  have h18:=hs _ (List.getElem_mem hi)
  obtain ⟨i1,i2⟩:=inc_ix (a:=a) (s:=s[i]) rfl (by omega)
  have hb:a.getD s[i] 0≤c:=by
   rw [List.getD_eq_getElem?_getD,List.getElem?_eq_getElem (show s[i]<a.length by omega),Option.getD_some]
   exact h2 _ (List.getElem_mem _)
  rw [List.drop_eq_getElem_cons hi,List.foldl_cons]
  exact (loop_next (cnd_t (decide_eq_true (by rw [ints_len]; omega)) (bnd (ixO_of (by rw [ints_len]; exact hi)) (bnd (ints_get hi) (bnd i1 (bnd i2 (bnd (congrArg some (wrap_succ (n:=a.getD s[i] 0) (by omega))) (bnd i1 (bnd (congrArg some (set_ints a _ _)) (bnd (congrArg some (wrap_succ (n:=i) (by omega))) rfl)))))))))).trans
   (pl0_loop hs hl k (i+1) fu (inc a s[i]) (c+1) (by omega) (by omega) (by rw [inc_len]; exact h1) (inc_le h2) (by omega))
def ordN:List Nat:=[16,17,18,0,8,7,9,6,10,5,11,4,12,3,13,2,14,1,15]
theorem ord_eq:shrink_rowOrder=ints ordN:=by kernel_rfl
theorem ord_le:∀ x∈ordN,x≤18:=by decide
def ordL (m:List Nat):List Nat:=ordN.map fun s=>m.getD s 0
theorem pl1_loop {m:List Nat} (hm:m.length=19):∀ (k i fuel:Nat),i+k=19→k<fuel →
  loopF (pl1 (ints m)) fuel (ints ((ordL m).take i++List.replicate k 0),(i:Int))=some (.inl (ints (ordL m)))
 | 0,i,fuel,hk,hf=>by
  obtain ⟨fu,rfl⟩:∃ fu,fuel=fu+1:=⟨fuel-1,by omega⟩
  have:(ordL m).length=19:=by simp [ordL,ordN]
  rw [List.replicate_zero,List.append_nil,List.take_of_length_le (by omega)]
  exact loop_exit (cnd_f (decide_eq_false (by omega)) rfl)
 | k+1,i,fuel,hk,hf=>by
  obtain ⟨fu,rfl⟩:∃ fu,fuel=fu+1:=⟨fuel-1,by omega⟩
  have lo:ordN.length=19:=rfl
  have hlo:(ordL m).length=19:=by rw [ordL,List.length_map,lo]
  have hi:i<ordN.length:=by omega
  have hil:i<(ordL m).length:=by omega
  have hx:=ord_le _ (List.getElem_mem hi)
  have hl:((ordL m).take i++List.replicate (k+1) 0).length=19:=by rw [List.length_append,List.length_take,List.length_replicate]; omega
  obtain ⟨i1,i2⟩:=inc_ix (a:=m) (s:=ordN[i]) rfl (by omega)
  have hset:((ordL m).take i++List.replicate (k+1) 0).set i (m.getD ordN[i] 0)=(ordL m).take (i+1)++List.replicate k 0:=by
   rw [List.set_append_right _ _ (by rw [List.length_take]; omega),List.length_take,Nat.min_eq_left (by omega),Nat.sub_self,List.replicate_succ,List.set_cons_zero,List.take_add_one,List.getElem?_eq_getElem hil,List.append_assoc]
   simp [ordL]
   rfl
  exact (loop_next (cnd_t (decide_eq_true (by omega)) (bnd (ixO_of (by omega)) (bnd (x:=((ordN[i]:Nat):Int)) (by rw [ord_eq]; exact ints_get hi) (bnd i1 (bnd i2 (bnd (ixO_of (by rw [ints_len]; omega)) (bnd (congrArg some ((set_ints _ i _).trans (congrArg ints hset))) (bnd (congrArg some (wrap_succ (n:=i) (by omega))) rfl))))))))).trans (pl1_loop hm k (i+1) fu (by omega) (by omega))
def nP (n:Nat) (l:List Nat):List (Nat×Nat):=l.map fun x=>(x,n)
theorem wid_nP (n:Nat) (l:List Nat):wid (nP n l)=n * l.length:=by
 induction l with
 | nil=>rfl
 | cons x l ih =>
  have:wid (nP n (x::l))=n+wid (nP n l):=by simp [wid,nP]
  rw [this,ih,List.length_cons,Nat.mul_succ]; omega
theorem pl2_loop {o:List Nat} (ho:∀ x∈o,x<8) (hl:o.length≤100):∀ (k i fuel:Nat) (w:T_shrink_writer) (ps:List (Nat×Nat)),i+k=o.length→k<fuel→WP w ps→wid ps+3 * k≤900000 →
  ∃ w',loopF (pl2 (ints o)) fuel (w.b,w.n,(i:Int))=some (.inl (w'.b,w'.n))∧WP w' (ps++nP 3 (o.drop i))
 | 0,i,fuel,w,ps,hk,hf,h,hN=>by
  obtain ⟨fu,rfl⟩:∃ fu,fuel=fu+1:=⟨fuel-1,by omega⟩
  rw [List.drop_eq_nil_of_le (by omega)]
  exact ⟨w,loop_exit (cnd_f (decide_eq_false (by rw [ints_len]; omega)) rfl),by simpa [nP] using h⟩
 | k+1,i,fuel,w,ps,hk,hf,h,hN=>by
  obtain ⟨fu,rfl⟩:∃ fu,fuel=fu+1:=⟨fuel-1,by omega⟩
  have hi:i<o.length:=by omega
  have hx:=ho _ (List.getElem_mem hi)
  obtain ⟨w1,p1,q1⟩:=h.puts (v:=((o[i]:Nat):Int)) (n:=3) o[i] 3 rfl rfl (by omega) (by omega) (by omega)
  obtain ⟨w2,p2,q2⟩:=pl2_loop ho hl k (i+1) fu w1 (ps++[(o[i],3)]) (by omega) (by omega) q1 (by rw [wid_app]; simp only [wid,List.map_cons,List.map_nil,List.sum_cons,List.sum_nil] at hN ⊢; omega)
  refine ⟨w2,(loop_next (cnd_t (decide_eq_true (by rw [ints_len]; omega)) (bnd (ixO_of (by rw [ints_len]; exact hi)) (bnd (ints_get hi) (bnd p1 (bnd (congrArg some (wrap_succ (n:=i) (by omega))) rfl)))))).trans p2,?_⟩
  rw [List.drop_eq_getElem_cons hi]
  have e:nP 3 (o[i]::o.drop (i+1))=[(o[i],3)]++nP 3 (o.drop (i+1)):=rfl
  rw [e,← List.append_assoc]; exact q2
def rwP (m:List Nat) (R:List (Nat×Nat)):List (Nat×Nat):=(R.map fun p=>[syP m p.1,(p.2,rwm p.1)]).flatten
theorem wid_rw {m:List Nat} (hm:∀ x∈m,x≤15):∀ R:List (Nat×Nat),wid (rwP m R)≤22 * R.length
 | []=>by simp [rwP,wid]
 | p::R=>by
  have h1:=wid_rw hm R
  have e:rwP m (p::R)=[syP m p.1,(p.2,rwm p.1)]++rwP m R:=rfl
  have h2:=rwm_le p.1
  have h3:m.getD p.1 0≤15:=by
   rw [List.getD_eq_getElem?_getD]
   cases hj:m[p.1]? with
   | none=>simp
   | some x=>simpa using hm x (List.mem_of_getElem? hj)
  rw [e,wid_app,List.length_cons]
  simp only [wid,syP,List.map_cons,List.map_nil,List.sum_cons,List.sum_nil] at h1 ⊢
  omega
theorem pl3_loop {m:List Nat} (hm:Cd m) (hml:m.length=19) {R:List (Nat×Nat)} (hR:∀ p∈R,p.1≤18∧p.2<2 ^ rwm p.1) (hl:R.length≤400):∀ (k i fuel:Nat) (w:T_shrink_writer) (ps:List (Nat×Nat)),i+k=R.length→k<fuel→WP w ps→wid ps+22 * k≤900000 →
  ∃ w',loopF (pl3 (ints (sN R)) (ints (mN R)) (cdT m)) fuel (w.b,w.n,(i:Int))=some (.inl (w'.b,w'.n))∧WP w' (ps++rwP m (R.drop i))
 | 0,i,fuel,w,ps,hk,hf,h,hN=>by
  obtain ⟨fu,rfl⟩:∃ fu,fuel=fu+1:=⟨fuel-1,by omega⟩
  rw [List.drop_eq_nil_of_le (by omega)]
  exact ⟨w,loop_exit (cnd_f (decide_eq_false (by rw [ints_len,sN,List.length_map]; omega)) rfl),by simpa [rwP] using h⟩
 | k+1,i,fuel,w,ps,hk,hf,h,hN=>by
  obtain ⟨fu,rfl⟩:∃ fu,fuel=fu+1:=⟨fuel-1,by omega⟩
  have hi:i<R.length:=by omega
  have hx:=hR _ (List.getElem_mem hi)
  have hs:i<(sN R).length:=by rw [sN,List.length_map]; exact hi
  have hmm:i<(mN R).length:=by rw [mN,List.length_map]; exact hi
  have g1:getO (ints (sN R)) i=some ((R[i].1:Nat):Int):=by rw [ints_get hs]; simp [sN]
  have g2:getO (ints (mN R)) i=some ((R[i].2:Nat):Int):=by rw [ints_get hmm]; simp [mN]
  obtain ⟨w1,p1,q1⟩:=h.sym hm (j:=R[i].1) (by omega) (by omega)
  have c1:=(code_fit hm (j:=R[i].1) (by omega)).2
  have c2:=rwm_le R[i].1
  have s1:wid (ps++[syP m R[i].1])≤wid ps+15:=by rw [wid_app]; simp only [wid,syP,List.map_cons,List.map_nil,List.sum_cons,List.sum_nil]; omega
  obtain ⟨w2,p2,q2⟩:=q1.put R[i].2 (rwm R[i].1) (by omega) hx.2 (by omega)
  have s2:wid (ps++[syP m R[i].1]++[(R[i].2,rwm R[i].1)])≤wid ps+22:=by rw [wid_app _ [(R[i].2,rwm R[i].1)]]; simp only [wid,List.map_cons,List.map_nil,List.sum_cons,List.sum_nil] at s1 ⊢; omega
  obtain ⟨w3,p3,q3⟩:=pl3_loop hm hml hR hl k (i+1) fu w2 _ (by omega) (by omega) q2 (by omega)
  refine ⟨w3,(loop_next (cnd_t (decide_eq_true (by rw [ints_len]; omega)) (bnd (ixO_of (by rw [ints_len]; exact hs)) (bnd g1 (bnd p1 (bnd (ixO_of (by rw [ints_len]; exact hmm)) (bnd g2 (bnd (rowMore_eq _) (bnd p2 (bnd (congrArg some (wrap_succ (n:=i) (by omega))) rfl)))))))))).trans p3,?_⟩
  rw [List.drop_eq_getElem_cons hi]
  have e:rwP m (R[i]::R.drop (i+1))=[syP m R[i].1]++([(R[i].2,rwm R[i].1)]++rwP m (R.drop (i+1))):=rfl
  rw [e,← List.append_assoc,← List.append_assoc]; exact q3
def rwC (l:List Nat):List Nat:=trN (rwW (sN (rowN l))) 7
theorem okL7 {w:List Nat} (h:w.length≤19):okL (ints w) ((7:Nat):Int):=by
 have:=pos_len (ints w)
 rw [ints_len] at this
 unfold okL
 rw [if_pos (by omega)]
 omega
theorem okL15 (w:List Nat):okL (ints w) ((15:Nat):Int):=by
 unfold okL
 split <;> omega
theorem rwC_cd {l:List Nat} (hl:l.length≤320):tree_Lengths (ints (rwW (sN (rowN l)))) ((7:Nat):Int)=some (ints (rwC l),0)∧Cd (rwC l)∧(rwC l).length=19∧(∀ j,j<19→(0<(rwC l).getD j 0↔0<(rwW (sN (rowN l))).getD j 0))∧∀ x∈rwC l,x≤7:=by
 obtain ⟨h1,h2⟩:=rwW_I (sN (rowN l))
 have hrl:=rowN_len l
 have:=tree_cd (w:=rwW (sN (rowN l))) (lim:=7) (by omega) (fun x hx=>by have:=h2 x hx; rw [sN,List.length_map] at this; omega) (okL7 (by omega))
 rw [h1] at this
 exact this
def odL (l:List Nat):List Nat:=tmN (ordL (rwC l)) 4
theorem odL_len (l:List Nat):4≤(odL l).length∧(odL l).length≤19:=by
 have hlo:(ordL (rwC l)).length=19:=by simp [ordL,ordN]
 have h1:=trm_le (ordL (rwC l)) 4 19
 have h2:=trm_ge (ordL (rwC l)) 4 19 (by omega)
 unfold odL tmN
 rw [List.length_take,hlo]
 omega
def hdP (ml md:List Nat):List (Nat×Nat) :=
 [(ml.length-257,5),(md.length-1,5),((odL (ml++md)).length-4,4)]++(nP 3 (odL (ml++md))++rwP (rwC (ml++md)) (rowN (ml++md)))
theorem wid_hd {ml md:List Nat} (hl:ml.length+md.length≤320):wid (hdP ml md)≤8000:=by
 obtain ⟨_,c2,_⟩:=rwC_cd (l:=ml++md) (by simp; omega)
 have h1:=wid_rw c2.le (rowN (ml++md))
 have h2:=rowN_len (ml++md)
 have h3:=odL_len (ml++md)
 unfold hdP
 rw [wid_app,wid_app,wid_nP]
 simp only [wid,List.map_cons,List.map_nil,List.sum_cons,List.sum_nil] at h1 ⊢
 rw [List.length_append] at h2
 omega
theorem putLengths_eq {ml md:List Nat} (h1:∀ x∈ml,x≤15) (h2:∀ x∈md,x≤15) (l1:257≤ml.length) (l2:ml.length≤286) (l3:1≤md.length) (l4:md.length≤30) {w:T_shrink_writer} {ps:List (Nat×Nat)} (h:WP w ps) (hN:wid ps≤100) :
  ∃ w',shrink_writer_putLengths w (ints ml) (ints md)=some w'∧WP w' (ps++hdP ml md):=by
 have hL:∀ x∈ml++md,x≤15:=fun x hx=>(List.mem_append.1 hx).elim (h1 x) (h2 x)
 have hll:(ml++md).length≤320:=by rw [List.length_append]; omega
 obtain ⟨c1,c2,c3,c4,c5⟩:=rwC_cd (l:=ml++md) hll
 have hrn:=rowN_len (ml++md)
 have hrok:=rowN_ok hL
 have a1:appO 8 ([]:List Int) (ints ml)=some (ints ml):=app_of (l:=([]:List Int)) (by simp [ints]; omega) (by simp [ints]; omega)
 have a2:appO 8 (ints ml) (ints md)=some (ints (ml++md)):=by rw [app_of (by simp [ints]; omega) (by simp [ints]; omega)]; simp [ints]
 have m1:mkO 8 19 (0:Int)=some (ints (List.replicate 19 0)):=by kernel_rfl
 have k0:=pl0_loop (s:=sN (rowN (ml++md))) (fun x hx=>by
  obtain ⟨p,hp,rfl⟩:=List.mem_map.1 hx
  exact (hrok p hp).1) (by rw [sN,List.length_map]; omega) (sN (rowN (ml++md))).length 0 BIG (List.replicate 19 0) 0 (by omega) (by rw [sN,List.length_map]; simp only [BIG]; omega) (by simp) (fun x hx=>by rw [List.mem_replicate] at hx; omega) (by rw [sN,List.length_map]; omega)
 rw [List.drop_zero] at k0
 have k1:=pl1_loop (m:=rwC (ml++md)) c3 19 0 BIG rfl (by simp only [BIG]; omega)
 rw [List.take_zero,List.nil_append] at k1
 have hol:(ordL (rwC (ml++md))).length=19:=by simp [ordL,ordN]
 have k2:=trim_eq (l:=ordL (rwC (ml++md))) (by omega) 4
 obtain ⟨o1,o2⟩:=odL_len (ml++md)
 have ho:∀ x∈odL (ml++md),x<8:=fun x hx=>by
  have:=List.mem_of_mem_take hx
  obtain ⟨s,hs,rfl⟩:=List.mem_map.1 this
  have:(rwC (ml++md)).getD s 0≤7:=by
   rw [List.getD_eq_getElem?_getD]
   cases hj:(rwC (ml++md))[s]? with
   | none=>simp
   | some y=>simpa using c5 y (List.mem_of_getElem? hj)
  omega
 obtain ⟨w1,p1,q1⟩:=h.puts (v:=((ml.length-257:Nat):Int)) (n:=5) (ml.length-257) 5 rfl rfl (by omega) (by omega) (by omega)
 have s1:wid (ps++[(ml.length-257,5)])=wid ps+5:=by rw [wid_app]; rfl
 obtain ⟨w2,p2,q2⟩:=q1.puts (v:=((md.length-1:Nat):Int)) (n:=5) (md.length-1) 5 rfl rfl (by omega) (by omega) (by omega)
 have s2:wid (ps++[(ml.length-257,5)]++[(md.length-1,5)])=wid ps+10:=by rw [wid_app,s1]; rfl
 obtain ⟨w3,p3,q3⟩:=q2.puts (v:=(((odL (ml++md)).length-4:Nat):Int)) (n:=4) ((odL (ml++md)).length-4) 4 rfl rfl (by omega) (by omega) (by omega)
 have s3:wid (ps++[(ml.length-257,5)]++[(md.length-1,5)]++[((odL (ml++md)).length-4,4)])=wid ps+14:=by rw [wid_app,s2]; rfl
 obtain ⟨w4,p4,q4⟩:=pl2_loop ho (by omega) (odL (ml++md)).length 0 BIG w3 _ (by omega) (by simp only [BIG]; omega) q3 (by omega)
 rw [List.drop_zero] at q4
 have s4:wid (ps++[(ml.length-257,5)]++[(md.length-1,5)]++[((odL (ml++md)).length-4,4)]++nP 3 (odL (ml++md)))≤wid ps+14+57:=by rw [wid_app,s3,wid_nP]; omega
 obtain ⟨w5,p5,q5⟩:=pl3_loop c2 c3 hrok (by omega) (rowN (ml++md)).length 0 BIG w4 _ (by omega) (by simp only [BIG]; omega) q4 (by omega)
 rw [List.drop_zero] at q5
 refine ⟨w5,?_,by unfold hdP; simpa only [List.append_assoc,List.cons_append,List.nil_append] using q5⟩
 unfold shrink_writer_putLengths
 have e1:IntKind.i64.wrap (((ints ml).length:Int)-257)=((ml.length-257:Nat):Int):=by rw [ints_len,wrap_i64 (by omega) (by omega)]; omega
 have e2:IntKind.i64.wrap (((ints md).length:Int)-1)=((md.length-1:Nat):Int):=by rw [ints_len,wrap_i64 (by omega) (by omega)]; omega
 have e3:IntKind.i64.wrap (((ints (odL (ml++md))).length:Int)-4)=(((odL (ml++md)).length-4:Nat):Int):=by rw [ints_len,wrap_i64 (by omega) (by omega)]; omega
 exact bnd a1 (bnd a2 (bnd (row_ints hL hll) (bnd m1 (bndL k0 (bnd c1 (bnd m1 (bndL k1 (bnd k2 (bnd (congrArg some e1) (bnd p1 (bnd (congrArg some e2) (bnd p2 (bnd (congrArg some e3) (bnd p3 (bndL p4 (bnd (newCode_eq c2) (bndL p5 rfl)))))))))))))))))
/-! The dynamic block. -/
def dyL (l:List T_Tok):List Nat:=trN (wtN l).1 15
def dyD (l:List T_Tok):List Nat:=trN (wtN l).2 15
def dynP (l:List T_Tok):List (Nat×Nat) :=
 [(1,1),(2,2)]++(hdP (tmN (dyL l) 257) (tmN (dyD l) 1)++(tksP (dyL l) (dyD l) l++[syP (dyL l) 256]))
theorem dyL_cd {l:List T_Tok} (hl:l.length≤5000):tree_Lengths (ints (wtN l).1) ((15:Nat):Int)=some (ints (dyL l),0)∧Cd (dyL l)∧(dyL l).length=286∧(∀ j,j<286→(0<(dyL l).getD j 0↔0<(wtN l).1.getD j 0))∧∀ x∈dyL l,x≤15:=by
 have hI:=wts_I l
 have:=tree_cd (w:=(wtN l).1) (lim:=15) (by rw [hI.la]; omega) (fun x hx=>by have:=hI.ba x hx; omega) (okL15 _)
 rw [hI.la] at this
 exact this
theorem dyD_cd {l:List T_Tok} (hl:l.length≤5000):tree_Lengths (ints (wtN l).2) ((15:Nat):Int)=some (ints (dyD l),0)∧Cd (dyD l)∧(dyD l).length=30∧(∀ j,j<30→(0<(dyD l).getD j 0↔0<(wtN l).2.getD j 0))∧∀ x∈dyD l,x≤15:=by
 have hI:=wts_I l
 have:=tree_cd (w:=(wtN l).2) (lim:=15) (by rw [hI.ld]; omega) (fun x hx=>by have:=hI.bd x hx; omega) (okL15 _)
 rw [hI.ld] at this
 exact this
theorem tmN_len {l:List Nat} {least:Nat} (h:least≤l.length):least≤(tmN l least).length∧(tmN l least).length≤l.length:=by
 have h1:=trm_le l least l.length
 have h2:=trm_ge l least l.length h
 unfold tmN
 rw [List.length_take]
 omega
theorem dynamicBlock_eq {l:List T_Tok} (hl:l.length≤5000) (ht:∀ t∈l,okTk t) (hck:match_Check l=some 0):∃ w,shrink_dynamicBlock l=some (some w)∧WP w (dynP l):=by
 obtain ⟨a1,a2,a3,a4,a5⟩:=dyL_cd hl
 obtain ⟨b1,b2,b3,b4,b5⟩:=dyD_cd hl
 obtain ⟨t1,t2⟩:=tmN_len (l:=dyL l) (least:=257) (by omega)
 obtain ⟨t3,t4⟩:=tmN_len (l:=dyD l) (least:=1) (by omega)
 obtain ⟨w1,p1,q1⟩:=newBlock_eq 2 (by omega)
 obtain ⟨w2,p2,q2⟩:=putLengths_eq (ml:=tmN (dyL l) 257) (md:=tmN (dyD l) 1) (fun x hx=>a5 x (List.mem_of_mem_take hx)) (fun x hx=>b5 x (List.mem_of_mem_take hx)) t1 (by omega) t3 (by omega) q1 (by simp [wid])
 have hw:=wid_hd (ml:=tmN (dyL l) 257) (md:=tmN (dyD l) 1) (by omega)
 obtain ⟨w3,p3,q3⟩:=putTokens_eq a2 b2 (by omega) (by omega) hl ht q2 (by rw [wid_app]; simp only [wid,List.map_cons,List.map_nil,List.sum_cons,List.sum_nil] at hw ⊢; omega)
 refine ⟨w3,?_,by unfold dynP; simpa only [List.append_assoc,List.cons_append,List.nil_append] using q3⟩
 unfold shrink_dynamicBlock
 exact bnd (weights_eq hl ht hck) (bnd a1 (bnd b1 (bnd p1 (obs1 (bnd (trim_eq (by omega) 257) (bnd (trim_eq (by omega) 1) (bnd p2 (bnd (newCode_eq a2) (bnd (newCode_eq b2) (bnd p3 rfl))))))))))
theorem wid_stQ (b:List Int):wid (stQ b)=40+8 * b.length:=by
 unfold stQ
 rw [wid_app,wid_st]; rfl
theorem take_run {l:List Int} {i n:Nat} (hi:i≤l.length) (h:n≤runL l i):l.take i++List.replicate n (l.getD i 0)=l.take (i+n):=by
 have hle:=run_le l i
 apply List.ext_getElem?
 intro j
 rw [List.getElem?_append,List.getElem?_replicate,List.length_take]
 simp only [List.getElem?_take]
 by_cases h1:j<min i l.length
 ·rw [if_pos h1,if_pos (by omega),if_pos (by omega)]
 ·rw [if_neg h1]
  by_cases h2:j<i+n
  ·have hn:0<runL l i:=by
    by_cases hz:i<l.length
    ·exact run_pos hz
    ·omega
   rw [if_pos (by omega),if_pos h2]
   have:=run_at (l:=l) (i:=i) (j:=j-i) (by omega)
   rw [show i+(j-i)=j by omega] at this
   exact this.symm
  ·rw [if_neg (by omega),if_neg h2]
theorem stp_back {l:List Int} (hv:∀ n∈l,0≤n∧n≤15) {i:Nat} (hi:i<l.length):((stpL l i).1=18∧l.getD i 0=0∧(stpL l i).2.2=11+(stpL l i).2.1)∨((stpL l i).1=17∧l.getD i 0=0∧(stpL l i).2.2=3+(stpL l i).2.1) ∨
  ((stpL l i).1=16∧0<i∧l.getD (i-1) 0=l.getD i 0∧(stpL l i).2.2=3+(stpL l i).2.1)∨((stpL l i).1=l.getD i 0∧0≤l.getD i 0∧l.getD i 0≤15∧(stpL l i).2=(0,1)):=by
 have hx:=hv _ (List.getElem_mem hi)
 rw [← getDa hi] at hx
 have hp:=run_pos hi
 unfold stpL stpR
 by_cases h1:l.getD i 0=0∧11≤runL l i
 ·rw [if_pos h1]; exact .inl ⟨rfl,h1.1,by simp only; omega⟩
 ·rw [if_neg h1]
  by_cases h2:l.getD i 0=0∧3≤runL l i
  ·rw [if_pos h2]; exact .inr (.inl ⟨rfl,h2.1,by simp only; omega⟩)
  ·rw [if_neg h2]
   by_cases h3:l.getD i 0≠0∧3≤runL l i∧prvR l i=true
   ·rw [if_pos h3]
    have:=of_decide_eq_true h3.2.2
    exact .inr (.inr (.inl ⟨rfl,this.1,this.2,by simp only; omega⟩))
   ·rw [if_neg h3]; exact .inr (.inr (.inr ⟨rfl,hx.1,hx.2,rfl⟩))
def usedC (m d:List Nat) (t:T_Tok):Prop:=if t.Len=0 then m.getD t.Byte.toNat 0≠0 else m.getD (lnN t.Len.toNat).1 0≠0∧d.getD (dsN t.Dist.toNat).1 0≠0
theorem wid_cons (p:Nat×Nat) (l:List (Nat×Nat)):wid (p::l)=p.2+wid l:=by simp [wid]
theorem lt_gD {m:List Nat} {j:Nat} (h:m.getD j 0≠0):j<m.length:=by
 rcases Nat.lt_or_ge j m.length with h1 | h1
 ·exact h1
 ·rw [List.getD_eq_getElem?_getD,List.getElem?_eq_none h1] at h; exact absurd rfl h
theorem chkF_ge:∀ (l:List T_Tok) (n N:Nat),chkF l n=some N→n≤N
 | [],n,N,h=>by cases h; exact Nat.le_refl _
 | t::l,n,N,h=>by
  unfold chkF at h
  split at h
  ·have:=chkF_ge l _ N h; omega
  ·cases h
theorem fix_used:(List.range 286).all (fun j=>decide (mL.getD j 0≠0))=true∧(List.range 30).all (fun j=>decide (mD.getD j 0≠0))=true:=by constructor <;> kernel_rfl
theorem fix_usedC {t:T_Tok} (h:okTk t):usedC mL mD t:=by
 unfold usedC
 have a1:∀ j,j<286→mL.getD j 0≠0:=fun j hj=>of_decide_eq_true (List.all_eq_true.1 fix_used.1 j (List.mem_range.2 hj))
 have a2:∀ j,j<30→mD.getD j 0≠0:=fun j hj=>of_decide_eq_true (List.all_eq_true.1 fix_used.2 j (List.mem_range.2 hj))
 split
 ·exact a1 _ (by have:=h.1; omega)
 ·rename_i h0
  rcases h.2 with h1 | ⟨h1,h2,h3,h4⟩
  ·exact absurd h1 h0
  obtain ⟨l1,l2,l3,l4,l5⟩:=ln_ok (n:=t.Len.toNat) (by omega) (by omega)
  obtain ⟨d1,d2,d3,d4⟩:=ds_ok (n:=t.Dist.toNat) (by omega) (by omega)
  exact ⟨a1 _ (by omega),a2 _ (by omega)⟩
/-! Noughts at the end of the lengths change no code. -/
def zs (m:List Nat) (z:Nat):List Nat:=m++List.replicate z 0
theorem zs_cnt {n:Nat} (h:n≠0) (m:List Nat) (z:Nat):(zs m z).count n=m.count n:=by
 rw [zs,List.count_append,List.count_replicate,if_neg (by simpa using fun e=>h e.symm),Nat.add_zero]
theorem zs_get (m:List Nat) (z j:Nat):(zs m z).getD j 0=m.getD j 0:=by
 rw [zs,List.getD_eq_getElem?_getD,List.getD_eq_getElem?_getD]
 by_cases h:j<m.length
 ·rw [List.getElem?_append_left h]
 ·rw [List.getElem?_append_right (by omega),List.getElem?_eq_none (l:=m) (by omega),List.getElem?_replicate]
  split <;> rfl
theorem zs_fst (m:List Nat) (z:Nat):∀ n,fst (zs m z) n=fst m n
 | 0=>rfl
 | 1=>rfl
 | n+2=>by
  show 2 * (fst (zs m z) (n+1)+(zs m z).count (n+1))=2 * (fst m (n+1)+m.count (n+1))
  rw [zs_fst m z (n+1),zs_cnt (by omega)]
theorem zs_ws (m:List Nat) (z:Nat):∀ n,ws (zs m z) n=ws m n
 | 0=>rfl
 | n+1=>by
  show ws (zs m z) n+(zs m z).count (n+1) * _=ws m n+m.count (n+1) * _
  rw [zs_ws m z n,zs_cnt (by omega)]
theorem zs_tal (m:List Nat) (z:Nat):tal (zs m z)=tal m:=by
 unfold tal
 refine List.map_congr_left fun n _ => ?_
 by_cases h:n=0
 ·rw [if_pos h,if_pos h]
 ·rw [if_neg h,if_neg h,zs_cnt h]
theorem zs_forms (m:List Nat) (z:Nat):forms (zs m z)=forms m:=by unfold forms; rw [zs_tal,zs_ws]
theorem zs_code (m:List Nat) (z j:Nat):code (zs m z) j=code m j:=by
 unfold code
 rw [zs_get,zs_fst]
 by_cases h:m.getD j 0=0
 ·rw [if_pos h,if_pos h]
 ·rw [if_neg h,if_neg h]
  have hj:=lt_gD h
  rw [zs,List.take_append_of_le_length (by omega)]
theorem zs_syP (m:List Nat) (z j:Nat):syP (zs m z) j=syP m j:=by unfold syP; rw [zs_code,zs_get]
theorem zs_Cd {m:List Nat} {z:Nat} (h:Cd (zs m z)):Cd m:=by
 refine ⟨?_,fun x hx=>h.le x (List.mem_append.2 (.inl hx)),by rw [← zs_forms m z]; exact h.fm⟩
 have:=h.len
 rw [zs,List.length_append] at this
 omega
theorem zs_tkP (m d:List Nat) (y z:Nat) (t:T_Tok):tkP (zs m y) (zs d z) t=tkP m d t:=by
 unfold tkP
 simp only [zs_syP]
theorem zs_tksP (m d:List Nat) (y z:Nat) (l:List T_Tok):tksP (zs m y) (zs d z) l=tksP m d l:=by
 unfold tksP
 rw [List.map_congr_left fun t _=>zs_tkP m d y z t]
theorem tm_zs (l:List Nat) (least:Nat):zs (tmN l least) (l.length-(tmN l least).length)=l:=by
 have h1:=trm_le l least l.length
 have hl:(tmN l least).length=trm l least l.length:=by unfold tmN; rw [List.length_take]; omega
 unfold zs
 apply List.ext_getElem
 ·rw [List.length_append,List.length_replicate]; omega
 ·intro j ha hb
  by_cases h:j<(tmN l least).length
  ·rw [List.getElem_append_left h]
   exact List.getElem_take
  ·rw [List.getElem_append_right (by omega),List.getElem_replicate]
   have:=trm_zero l least l.length j (by omega) hb
   rw [List.getD_eq_getElem?_getD,List.getElem?_eq_getElem hb] at this
   exact this.symm
theorem tm_get (l:List Nat) (least j:Nat):(tmN l least).getD j 0=l.getD j 0:=by
 conv=>rhs; rw [← tm_zs l least]
 rw [zs_get]
theorem tm_Cd {l:List Nat} (least:Nat) (h:Cd l):Cd (tmN l least):=zs_Cd (z:=l.length-(tmN l least).length) (by rw [tm_zs]; exact h)
theorem tm_syP (l:List Nat) (least j:Nat):syP (tmN l least) j=syP l j:=by
 conv=>rhs; rw [← tm_zs l least]
 rw [zs_syP]
theorem tm_tksP (m d:List Nat) (a b:Nat) (l:List T_Tok):tksP (tmN m a) (tmN d b) l=tksP m d l:=by
 conv=>rhs; rw [← tm_zs m a,← tm_zs d b]
 rw [zs_tksP]
/-! The row's code,laid in the order. -/
def pls (m:List Nat) (i:Nat):List Nat:=(List.range 19).map fun s=>if ordN.idxOf s<i then m.getD s 0 else 0
theorem pls_len (m:List Nat) (i:Nat):(pls m i).length=19:=by simp [pls]
theorem ord_idx:∀ s,s<19→∀ i,i<19→(ordN.getD i 0=s↔ordN.idxOf s=i):=by decide
theorem ord_lt:∀ s,s<19→ordN.idxOf s<19:=by decide
theorem ord_lt2:∀ i,i<19→ordN.getD i 0<19:=by decide
theorem pls_step (m:List Nat) {i:Nat} (h:i<19):(pls m i).set (ordN.getD i 0) (m.getD (ordN.getD i 0) 0)=pls m (i+1):=by
 apply List.ext_getElem
 ·rw [List.length_set,pls_len,pls_len]
 ·intro s ha hb
  rw [pls_len] at hb
  have hi:=ord_idx s hb i h
  rw [List.getElem_set]
  by_cases e:ordN.getD i 0=s
  ·rw [if_pos e]
   have:=hi.1 e
   simp only [pls,List.getElem_map,List.getElem_range]
   rw [if_pos (by omega),e]
  ·rw [if_neg e]
   have:ordN.idxOf s≠i:=fun h=>e (hi.2 h)
   simp only [pls,List.getElem_map,List.getElem_range]
   by_cases h2:ordN.idxOf s<i
   ·rw [if_pos h2,if_pos (by omega)]
   ·rw [if_neg h2,if_neg (by omega)]
theorem pls_zero (m:List Nat):pls m 0=List.replicate 19 0:=by
 apply List.ext_getElem
 ·rw [pls_len,List.length_replicate]
 ·intro s ha hb
  rw [List.getElem_replicate]
  simp only [pls,List.getElem_map,List.getElem_range]
  rw [if_neg (by omega)]
theorem pls_full {m:List Nat} (hm:m.length=19) {k:Nat} (hk:∀ j,k≤j→j<19→m.getD (ordN.getD j 0) 0=0):pls m k=m:=by
 apply List.ext_getElem
 ·rw [pls_len,hm]
 ·intro s ha hb
  rw [pls_len] at ha
  have e:m.getD s 0=m[s]:=by rw [List.getD_eq_getElem?_getD,List.getElem?_eq_getElem hb]; rfl
  simp only [pls,List.getElem_map,List.getElem_range]
  by_cases h2:ordN.idxOf s<k
  ·rw [if_pos h2,e]
  ·rw [if_neg h2,← e]
   have h3:=ord_lt s ha
   have:=hk (ordN.idxOf s) (by omega) h3
   rw [(ord_idx s ha _ h3).2 rfl] at this
   exact this.symm
theorem ordL_get (m:List Nat) {j:Nat} (h:j<19):(ordL m).getD j 0=m.getD (ordN.getD j 0) 0:=by
 have hl:j<ordN.length:=h
 rw [ordL,List.getD_eq_getElem?_getD,List.getElem?_map,List.getElem?_eq_getElem hl,List.getD_eq_getElem?_getD (l:=ordN),List.getElem?_eq_getElem hl]
 rfl
theorem odL_get (l:List Nat) {j:Nat} (h:j<(odL l).length):(odL l).getD j 0=(rwC l).getD (ordN.getD j 0) 0:=by
 have:=(odL_len l).2
 unfold odL at h ⊢
 rw [tm_get,ordL_get _ (by unfold odL at this; omega)]
theorem odL_full {l:List Nat} (hl:l.length≤320):pls (rwC l) (odL l).length=rwC l:=by
 obtain ⟨_,_,c3,_⟩:=rwC_cd hl
 refine pls_full c3 fun j h1 h2 => ?_
 have:=trm_zero (ordL (rwC l)) 4 (ordL (rwC l)).length j (by
  have:=trm_le (ordL (rwC l)) 4 (ordL (rwC l)).length
  unfold odL tmN at h1
  rw [List.length_take] at h1
  omega) (by simp [ordL,ordN]; exact h2)
 rw [ordL_get _ h2] at this
 exact this
theorem row_used {l:List Nat} (h:∀ x∈l,x≤15) (hl:l.length≤320):∀ p∈rowN l,(rwC l).getD p.1 0≠0:=fun p hp=>by
 obtain ⟨_,_,c3,c4,_⟩:=rwC_cd hl
 have h18:=(rowN_ok h p hp).1
 have:=(c4 p.1 (by omega)).2 (incs_used (sN (rowN l)) (List.replicate 19 0) (by simp) (fun x hx=>by
  obtain ⟨q,hq,rfl⟩:=List.mem_map.1 hx
  exact (rowN_ok h q hq).1) p.1 (List.mem_map.2 ⟨p,hp,rfl⟩))
 omega
theorem ints_setL (m:List Nat) (i v:Nat):(ints m).set i (v:Int)=ints (m.set i v):=by
 simp [ints,List.map_set]
def rwn (R:List (Int×Nat)):List (Nat×Nat):=R.map fun p=>(p.1.toNat,p.2)
/-! A block of its own code. -/
theorem rwn_row (L:List Nat):rwn (rowF (ints L) L.length 0)=rowN L:=by
 unfold rowN rowL rwn
 rw [ints_len]
theorem od_lt8 {L:List Nat} (hl:L.length≤320):∀ x∈odL L,x<8:=fun x hx=>by
 obtain ⟨_,_,_,_,c5⟩:=rwC_cd hl
 have:=List.mem_of_mem_take hx
 obtain ⟨s,hs,rfl⟩:=List.mem_map.1 this
 have:(rwC L).getD s 0≤7:=by
  rw [List.getD_eq_getElem?_getD]
  cases hj:(rwC L)[s]? with
  | none=>simp
  | some y=>simpa using c5 y (List.mem_of_getElem? hj)
 omega
theorem dyn_used {l:List T_Tok} (hl:l.length≤5000) (ht:∀ t∈l,okTk t):∀ t∈l,usedC (tmN (dyL l) 257) (tmN (dyD l) 1) t:=fun t hm=>by
 obtain ⟨_,_,_,a4,_⟩:=dyL_cd hl
 obtain ⟨_,_,_,b4,_⟩:=dyD_cd hl
 have hu:=used_fold l wts0 1 wtI0 ht t hm
 have hk:=ht t hm
 unfold used at hu
 unfold usedC
 simp only [tm_get]
 by_cases h0:t.Len=0
 ·rw [if_pos h0] at hu ⊢
  have:=(a4 t.Byte.toNat (by have:=hk.1; omega)).2 hu
  omega
 ·rw [if_neg h0] at hu ⊢
  rcases hk.2 with h1 | ⟨h1,h2,h3,h4⟩
  ·exact absurd h1 h0
  obtain ⟨_,l2,l3,_⟩:=ln_ok (n:=t.Len.toNat) (by omega) (by omega)
  obtain ⟨_,d2,_⟩:=ds_ok (n:=t.Dist.toNat) (by omega) (by omega)
  have e1:=(a4 _ (by omega)).2 hu.1
  have e2:=(b4 _ (by omega)).2 hu.2
  exact ⟨by omega,by omega⟩
theorem or_bit (c x:Nat) (hc:c<1000000) (hx:x<2):bits .or .i64 ((2 * c:Nat):Int) (x:Int)=((2 * c+x:Nat):Int):=by
 have h:=Nat.shiftLeft_add_eq_or_of_lt (a:=c) (b:=x) (i:=1) (by omega)
 rw [Nat.shiftLeft_eq,Nat.pow_one,Nat.mul_comm] at h
 show IntKind.i64.wrap ((BitVec.ofInt 64 ((2 * c:Nat):Int) ||| BitVec.ofInt 64 (x:Int)).toNat:Int)=_
 rw [BitVec.toNat_or,ofInt64 _ (by omega),ofInt64 _ (by omega),← h,wrap_i64 (by omega) (by omega)]
theorem nth_eq (m:List Nat) (n q:Nat) (hl:m.length≤1000) (hq:q<m.count n):∃ j,∃ h:j<m.length,m[j]=n∧(m.take j).count n=q∧canon_nth (ints m) (n:Int) (q:Int)=some (j:Int):=by
 have hcl:m.count n≤m.length:=List.count_le_length
 have key:∀ (k fuel i:Nat),m.length-i=k→i≤m.length→k<fuel→(m.take i).count n≤q →
  ∃ j,∃ h:j<m.length,m[j]=n∧(m.take j).count n=q∧loopF (S:=(Int×Int)) (O:=(Unit)⊕Int) (fun ((s25,s26):Int×Int) =>
   cond ((decide (s26<((ints m).length:Int))))
    (bindS (S:=Int) (A:=((Int×Int)⊕((Unit)⊕Int)))
     ((ixO s26 (ints m).length).bind fun v2 =>
     (getO (ints m) v2).bind fun v3 =>
     cond ((v3 != (n:Int)))
      (some (.inl s25))
      (cond ((s25==0))
       (some (.inr (.inr (.inr (s26)))))
       ((some (IntKind.i64.wrap (s25-1))).bind fun v6 =>
       some (.inl v6))))
     (fun (s45:Int) =>
      (some (IntKind.i64.wrap (s26+1))).bind fun v13 =>
      some (.inl (s45,v13))) some)
    (some (.inr (.inl ())))) fuel (((q-(m.take i).count n:Nat):Int),(i:Int))=some (.inr (j:Int)):=by
  intro k
  induction k with
  | zero =>
   intro fuel i hk hi hf hc
   have:i=m.length:=by omega
   subst this
   rw [List.take_length] at hc
   omega
  | succ k ih =>
   intro fuel i hk hi hf hc
   obtain ⟨f,rfl⟩:∃ f,fuel=f+1:=⟨fuel-1,by omega⟩
   have hlt:i<m.length:=by omega
   have hlt':i<(ints m).length:=by rw [ints_len]; exact hlt
   have hw:IntKind.i64.wrap ((i:Int)+1)=((i+1:Nat):Int):=by rw [wrap_i64 (by omega) (by omega)]; simp
   by_cases h1:m[i]=n
   ·by_cases h2:(m.take i).count n=q
    ·refine ⟨i,hlt,h1,h2,loop_exit (cnd_t (by simp; omega) (bndR (a := .inr (.inr (i:Int))) (bnd (ixO_of hlt') (bnd (ints_get hlt) (cnd_f (by simp [h1]) (cnd_t (by rw [h2]; simp) rfl)))) rfl))⟩
    ·have hcnt:(m.take (i+1)).count n=(m.take i).count n+1:=by rw [take_snoc hlt,List.count_append,h1]; simp
     obtain ⟨j,hj,e1,e2,hr⟩:=ih f (i+1) (by omega) (by omega) (by omega) (by omega)
     have w3:IntKind.i64.wrap (((q-(m.take i).count n:Nat):Int)-1)=((q-(m.take (i+1)).count n:Nat):Int):=by rw [hcnt,wrap_i64 (by omega) (by omega)]; omega
     refine ⟨j,hj,e1,e2,(loop_next (cnd_t (by simp; omega) (bndL (s:=((q-(m.take (i+1)).count n:Nat):Int)) (bnd (ixO_of hlt') (bnd (ints_get hlt) (cnd_f (by simp [h1]) (cnd_f ?_ (bnd (x:=((q-(m.take (i+1)).count n:Nat):Int)) (by rw [w3]) rfl))))) (bnd (x:=((i+1:Nat):Int)) (by rw [hw]) rfl)))).trans hr⟩
     rw [beq_eq_false_iff_ne]; omega
   ·have hcnt:(m.take (i+1)).count n=(m.take i).count n:=by
     rw [take_snoc hlt,List.count_append]
     have:List.count n [m[i]]=0:=by simp [List.count_cons,h1]
     rw [this]; rfl
    obtain ⟨j,hj,e1,e2,hr⟩:=ih f (i+1) (by omega) (by omega) (by omega) (by omega)
    rw [hcnt] at hr
    refine ⟨j,hj,e1,e2,(loop_next (cnd_t (by simp; omega) (bndL (s:=((q-(m.take i).count n:Nat):Int)) (bnd (ixO_of hlt') (bnd (ints_get hlt) (cnd_t ?_ rfl))) (bnd (x:=((i+1:Nat):Int)) (by rw [hw]) rfl)))).trans hr⟩
    simp only [bne_iff_ne,ne_eq]; omega
 obtain ⟨j,hj,e1,e2,hr⟩:=key m.length BIG 0 (by omega) (Nat.zero_le _) (by unfold BIG; omega) (by simp)
 rw [List.take_zero,List.count_nil,Nat.sub_zero] at hr
 refine ⟨j,hj,e1,e2,?_⟩
 unfold canon_nth
 exact bndR (a:=(j:Int)) hr rfl
theorem bytesFor_eq (N:Nat) (h:N≤100000):bits_bytesFor (N:Int)=some (((N+7) / 8:Nat):Int):=by
 unfold bits_bytesFor
 have w:IntKind.i64.wrap ((N:Int)+7)=((N+7:Nat):Int):=by rw [wrap_i64 (by omega) (by omega)]; simp
 have q:=quo_nat (N+7) 8 (by omega) (by omega)
 rw [show ((8:Nat):Int)=8 from rfl] at q
 exact bnd (x:=((N+7:Nat):Int)) (by rw [w]) (bnd q rfl)
def readS (lengths b v9 v13:List Int):((Int×Int×Int))→Option ((Int×Int×Int)⊕((Unit)⊕(Int×Int×Int))):=(fun ((s52,s53,s54):Int×Int×Int) =>
     bindS (S:=Bool) (A:=((Int×Int×Int)⊕((Unit)⊕(Int×Int×Int))))
      (cond ((decide (s54≤15)))
       ((some (IntKind.i64.wrap (8 * (b.length:Int)))).bind fun v16 =>
       some (.inl ((decide (s52<v16)))))
       (some (.inl false)))
      (fun (s67:Bool) =>
       cond (s67)
        ((shlO .i64 s53 1).bind fun v22 =>
        (quoO .i64 s52 8).bind fun v23 =>
        (ixO v23 b.length).bind fun v24 =>
        (getO b v24).bind fun v25 =>
        (remO s52 8).bind fun v26 =>
        (shrO .u8 v25 v26).bind fun v27 =>
        (some (bits .and .u8 v27 1)).bind fun v28 =>
        (some (IntKind.i64.wrap v28)).bind fun v29 =>
        (some (bits .or .i64 v22 v29)).bind fun v30 =>
        (some (IntKind.i64.wrap (s52+1))).bind fun v31 =>
        (ixO s54 16).bind fun v32 =>
        (getO v13 v32).bind fun v33 =>
        (ixO s54 16).bind fun v34 =>
        (getO v9 v34).bind fun v35 =>
        (some (IntKind.i64.wrap (v33+v35))).bind fun v36 =>
        cond ((decide (v30<v36)))
         ((ixO s54 16).bind fun v38 =>
         (getO v13 v38).bind fun v39 =>
         (some (IntKind.i64.wrap (v30-v39))).bind fun v40 =>
         (canon_nth lengths s54 v40).bind fun v41 =>
         some (.inr (.inr ((v41,v31,0)))))
         ((some (IntKind.i64.wrap (s54+1))).bind fun v42 =>
         some (.inl (v31,v30,v42))))
        (some (.inr (.inl ())))) some)
theorem read_code {m:List Nat} (hl:m.length≤300) (hm:∀ x∈m,x≤15) (hf:forms m=true) {B:List Int} (hB:isB B) (hbl:B.length≤10000) {j:Nat} (hj:j<m.length) (h0:m[j]≠0) (P:Nat) (hP:P+m[j]≤8 * B.length)
  (hbits:∀ i,i<m[j]→bitC B (P+i)=(code m j).testBit (m[j]-1-i)):canon_Read (ints m) B (P:Int)=some ((j:Int),((P+m[j]:Nat):Int),0):=by
 have hwl:=forms_ws hf
 have hck:=check_ints m (by omega)
 rw [if_pos ⟨hl,hm⟩,if_pos hf] at hck
 have l16:lnO 16 (ints (fl m 16))=some (ints (fl m 16)):=by simp [lnO,ints_len,fl_len]
 have l16t:lnO 16 (ints (tal m))=some (ints (tal m)):=by simp [lnO,ints_len,tal_len]
 have l0:lnO 16 (List.replicate 16 (0:Int))=some (List.replicate 16 (0:Int)):=by decide
 have w8:IntKind.i64.wrap (8 * (B.length:Int))=((8 * B.length:Nat):Int):=by rw [wrap_i64 (by omega) (by omega)]; simp
 have xj:=hm _ (List.getElem_mem hj)
 have hcl:=code_lt hwl hm hj h0
 have key:∀ (k fuel n:Nat),m[j]-n=k→1≤n→n≤m[j]→k<fuel →
   loopF (readS (ints m) B (ints (tal m)) (ints (fl m 16))) fuel (((P+n-1:Nat):Int),((code m j / 2 ^ (m[j]-(n-1)):Nat):Int),(n:Int))=some (.inr ((j:Int),((P+m[j]:Nat):Int),0)):=by
  intro k
  induction k with
  | zero =>
   intro fuel n hk h1 hn hfu
   have hne:n=m[j]:=by omega
   obtain ⟨f,rfl⟩:∃ f,fuel=f+1:=⟨fuel-1,by omega⟩
   have h16:n<16:=by omega
   have h15:n≤15:=by omega
   have hpq:(P+n-1) / 8<B.length:=by omega
   have hx:=hB _ (List.getElem_mem hpq)
   obtain ⟨x,hxe⟩:∃ x:Nat,B[(P+n-1) / 8]=(x:Int):=⟨B[(P+n-1) / 8].toNat,by omega⟩
   have hx256:x<256:=by omega
   have q8:=quo_nat (P+n-1) 8 (by omega) (by omega)
   have r8:=rem_nat (P+n-1) 8 (by omega)
   rw [show ((8:Nat):Int)=8 from rfl] at q8 r8
   have hr8:(P+n-1) % 8<8:=Nat.mod_lt _ (by omega)
   have hsh:=shr_nat .u8 x ((P+n-1) % 8) (by simp only [IntKind.bits]; omega)
   have hdv:x / 2 ^ ((P+n-1) % 8)<256:=Nat.lt_of_le_of_lt (Nat.div_le_self _ _) hx256
   have hand:=and1_u8 _ hdv
   have hb:=hbits (n-1) (by omega)
   have hbx:bitC B (P+(n-1))=x.testBit ((P+n-1) % 8):=by
    rw [show P+(n-1)=P+n-1 by omega]
    simp [bitC,List.getD_eq_getElem?_getD,hpq,hxe]
   rw [hbx,Nat.testBit_eq_decide_div_mod_eq,Nat.testBit_eq_decide_div_mod_eq,show m[j]-1-(n-1)=m[j]-n by omega] at hb
   have hy:x / 2 ^ ((P+n-1) % 8) % 2=code m j / 2 ^ (m[j]-n) % 2:=by
    have a1:x / 2 ^ ((P+n-1) % 8) % 2<2:=Nat.mod_lt _ (by omega)
    have a2:code m j / 2 ^ (m[j]-n) % 2<2:=Nat.mod_lt _ (by omega)
    rcases Nat.lt_or_ge (x / 2 ^ ((P+n-1) % 8) % 2) 1 with h | h
    ·have e1:¬ x / 2 ^ ((P+n-1) % 8) % 2=1:=by omega
     rw [decide_eq_false e1] at hb
     have:=of_decide_eq_false hb.symm
     omega
    ·have e1:x / 2 ^ ((P+n-1) % 8) % 2=1:=by omega
     rw [decide_eq_true e1] at hb
     have:=of_decide_eq_true hb.symm
     omega
   have hc2:2 * (code m j / 2 ^ (m[j]-(n-1)))+code m j / 2 ^ (m[j]-n) % 2=code m j / 2 ^ (m[j]-n):=by
    rw [show m[j]-(n-1)=(m[j]-n)+1 by omega,Nat.pow_succ,← Nat.div_div_eq_div_mul]
    omega
   have hcs:code m j / 2 ^ (m[j]-(n-1))≤32768:=Nat.le_trans (Nat.div_le_self _ _) (by have:=pow_le15 xj; omega)
   have hcs2:code m j / 2 ^ (m[j]-n)≤32768:=Nat.le_trans (Nat.div_le_self _ _) (by have:=pow_le15 xj; omega)
   rw [hy] at hand
   have hyl:code m j / 2 ^ (m[j]-n) % 2<2:=Nat.mod_lt _ (by omega)
   generalize code m j / 2 ^ (m[j]-(n-1))=c at *
   have hor:=or_bit c (code m j / 2 ^ (m[j]-n) % 2) (by omega) hyl
   rw [hc2] at hor
   have sh1:=shl_nat c 1 (by omega) (by omega)
   rw [Nat.pow_one,Nat.mul_comm c 2,show ((1:Nat):Int)=1 from rfl] at sh1
   generalize hCd:code m j / 2 ^ (m[j]-n)=C at *
   have wy:IntKind.i64.wrap ((C % 2:Nat):Int)=((C % 2:Nat):Int):=wrap_i64 (by omega) (by omega)
   have w1:IntKind.i64.wrap (((P+n-1:Nat):Int)+1)=((P+m[j]:Nat):Int):=by rw [wrap_i64 (by omega) (by omega)]; omega
   have hfl:n<(fl m 16).length:=by rw [fl_len]; exact h16
   have hfg:(fl m 16)[n]=fst m n:=by simp [fl,h16]
   have hg1:getO (ints (fl m 16)) n=some ((fst m n:Nat):Int):=by rw [ints_get hfl,hfg]
   have hg2:=tal_get m h16 (by omega)
   have hle:=fst_le hwl h1 h15
   have hp2:=pow_le15 h15
   have w3:IntKind.i64.wrap (((fst m n:Nat):Int)+((m.count n:Nat):Int))=((fst m n+m.count n:Nat):Int):=by rw [wrap_i64 (by omega) (by omega)]; simp
   have hgo:decide ((((P+n-1:Nat):Int))<((8 * B.length:Nat):Int))=true:=by simp; omega
   have d15:decide ((n:Int)≤15)=true:=by simp; omega
   have hC:C=code m j:=by rw [← hCd,hne,Nat.sub_self,Nat.pow_zero,Nat.div_one]
   have hct:=count_take_lt hj
   have hcode:=code_of hj h0
   rw [← hne] at hct hcode
   obtain ⟨j',hj',e1,e2,hnth⟩:=nth_eq m n (C-fst m n) (by omega) (by omega)
   have hjj:j'=j:=by
    have hc':=code_of hj' (by omega)
    rw [e1] at hc'
    rcases Nat.lt_trichotomy j' j with h | h | h
    ·have:=code_same hj' hj (by omega) (by omega) h; omega
    ·exact h
    ·have:=code_same hj hj' h0 (by omega) h; omega
   rw [hjj] at hnth
   have w4:IntKind.i64.wrap ((C:Int)-((fst m n:Nat):Int))=((C-fst m n:Nat):Int):=by rw [wrap_i64 (by omega) (by omega)]; omega
   refine loop_exit ?_
   unfold readS
   exact bndL (s:=true) (cnd_t d15 (bnd (x:=((8 * B.length:Nat):Int)) (by rw [w8]) (by rw [hgo]))) (cnd_t rfl (bnd sh1 (bnd q8 (bnd (ixO_of hpq) (bnd (x:=(x:Int)) (by rw [getO_of hpq,hxe]) (bnd r8 (bnd hsh (bnd (x:=((C % 2:Nat):Int)) (by rw [hand])
     (bnd (x:=((C % 2:Nat):Int)) (by rw [wy]) (bnd (x:=(C:Int)) (by rw [hor]) (bnd (x:=((P+m[j]:Nat):Int)) (by rw [w1]) (bnd (ixO_of h16) (bnd hg1 (bnd (ixO_of h16) (bnd hg2 (bnd (x:=((fst m n+m.count n:Nat):Int)) (by rw [w3]) (cnd_t (by simp; omega)
     (bnd (ixO_of h16) (bnd hg1 (bnd (x:=((C-fst m n:Nat):Int)) (by rw [w4]) (bnd hnth rfl)))))))))))))))))))))
  | succ k ih =>
   intro fuel n hk h1 hn hfu
   obtain ⟨f,rfl⟩:∃ f,fuel=f+1:=⟨fuel-1,by omega⟩
   have h16:n<16:=by omega
   have h15:n≤15:=by omega
   have hpq:(P+n-1) / 8<B.length:=by omega
   have hx:=hB _ (List.getElem_mem hpq)
   obtain ⟨x,hxe⟩:∃ x:Nat,B[(P+n-1) / 8]=(x:Int):=⟨B[(P+n-1) / 8].toNat,by omega⟩
   have hx256:x<256:=by omega
   have q8:=quo_nat (P+n-1) 8 (by omega) (by omega)
   have r8:=rem_nat (P+n-1) 8 (by omega)
   rw [show ((8:Nat):Int)=8 from rfl] at q8 r8
   have hr8:(P+n-1) % 8<8:=Nat.mod_lt _ (by omega)
   have hsh:=shr_nat .u8 x ((P+n-1) % 8) (by simp only [IntKind.bits]; omega)
   have hdv:x / 2 ^ ((P+n-1) % 8)<256:=Nat.lt_of_le_of_lt (Nat.div_le_self _ _) hx256
   have hand:=and1_u8 _ hdv
   have hb:=hbits (n-1) (by omega)
   have hbx:bitC B (P+(n-1))=x.testBit ((P+n-1) % 8):=by
    rw [show P+(n-1)=P+n-1 by omega]
    simp [bitC,List.getD_eq_getElem?_getD,hpq,hxe]
   rw [hbx,Nat.testBit_eq_decide_div_mod_eq,Nat.testBit_eq_decide_div_mod_eq,show m[j]-1-(n-1)=m[j]-n by omega] at hb
   have hy:x / 2 ^ ((P+n-1) % 8) % 2=code m j / 2 ^ (m[j]-n) % 2:=by
    have a1:x / 2 ^ ((P+n-1) % 8) % 2<2:=Nat.mod_lt _ (by omega)
    have a2:code m j / 2 ^ (m[j]-n) % 2<2:=Nat.mod_lt _ (by omega)
    rcases Nat.lt_or_ge (x / 2 ^ ((P+n-1) % 8) % 2) 1 with h | h
    ·have e1:¬ x / 2 ^ ((P+n-1) % 8) % 2=1:=by omega
     rw [decide_eq_false e1] at hb
     have:=of_decide_eq_false hb.symm
     omega
    ·have e1:x / 2 ^ ((P+n-1) % 8) % 2=1:=by omega
     rw [decide_eq_true e1] at hb
     have:=of_decide_eq_true hb.symm
     omega
   have hc2:2 * (code m j / 2 ^ (m[j]-(n-1)))+code m j / 2 ^ (m[j]-n) % 2=code m j / 2 ^ (m[j]-n):=by
    rw [show m[j]-(n-1)=(m[j]-n)+1 by omega,Nat.pow_succ,← Nat.div_div_eq_div_mul]
    omega
   have hcs:code m j / 2 ^ (m[j]-(n-1))≤32768:=Nat.le_trans (Nat.div_le_self _ _) (by have:=pow_le15 xj; omega)
   have hcs2:code m j / 2 ^ (m[j]-n)≤32768:=Nat.le_trans (Nat.div_le_self _ _) (by have:=pow_le15 xj; omega)
   have hpre:=code_pre hm hj h0 h1 (by omega)
   have hr:=ih f (n+1) (by omega) (by omega) (by omega) (by omega)
   rw [show n+1-1=n by omega] at hr
   rw [hy] at hand
   have hyl:code m j / 2 ^ (m[j]-n) % 2<2:=Nat.mod_lt _ (by omega)
   generalize code m j / 2 ^ (m[j]-(n-1))=c at *
   have hor:=or_bit c (code m j / 2 ^ (m[j]-n) % 2) (by omega) hyl
   rw [hc2] at hor
   have sh1:=shl_nat c 1 (by omega) (by omega)
   rw [Nat.pow_one,Nat.mul_comm c 2,show ((1:Nat):Int)=1 from rfl] at sh1
   generalize hCd:code m j / 2 ^ (m[j]-n)=C at *
   have wy:IntKind.i64.wrap ((C % 2:Nat):Int)=((C % 2:Nat):Int):=wrap_i64 (by omega) (by omega)
   have w1:IntKind.i64.wrap (((P+n-1:Nat):Int)+1)=((P+(n+1)-1:Nat):Int):=by rw [wrap_i64 (by omega) (by omega)]; omega
   have w2:IntKind.i64.wrap ((n:Int)+1)=((n+1:Nat):Int):=by rw [wrap_i64 (by omega) (by omega)]; simp
   have hfl:n<(fl m 16).length:=by rw [fl_len]; exact h16
   have hfg:(fl m 16)[n]=fst m n:=by simp [fl,h16]
   have hg1:getO (ints (fl m 16)) n=some ((fst m n:Nat):Int):=by rw [ints_get hfl,hfg]
   have hg2:=tal_get m h16 (by omega)
   have hle:=fst_le hwl h1 h15
   have hp2:=pow_le15 h15
   have w3:IntKind.i64.wrap (((fst m n:Nat):Int)+((m.count n:Nat):Int))=((fst m n+m.count n:Nat):Int):=by rw [wrap_i64 (by omega) (by omega)]; simp
   have hgo:decide ((((P+n-1:Nat):Int))<((8 * B.length:Nat):Int))=true:=by simp; omega
   have d15:decide ((n:Int)≤15)=true:=by simp; omega
   refine (loop_next ?_).trans hr
   unfold readS
   exact bndL (s:=true) (cnd_t d15 (bnd (x:=((8 * B.length:Nat):Int)) (by rw [w8]) (by rw [hgo]))) (cnd_t rfl (bnd sh1 (bnd q8 (bnd (ixO_of hpq) (bnd (x:=(x:Int)) (by rw [getO_of hpq,hxe]) (bnd r8 (bnd hsh (bnd (x:=((C % 2:Nat):Int)) (by rw [hand])
     (bnd (x:=((C % 2:Nat):Int)) (by rw [wy]) (bnd (x:=(C:Int)) (by rw [hor]) (bnd (x:=((P+(n+1)-1:Nat):Int)) (by rw [w1]) (bnd (ixO_of h16) (bnd hg1 (bnd (ixO_of h16) (bnd hg2 (bnd (x:=((fst m n+m.count n:Nat):Int)) (by rw [w3]) (cnd_f (by simp; omega)
     (bnd (x:=((n+1:Nat):Int)) (by rw [w2]) rfl))))))))))))))))))
 have hk:=key (m[j]-1) BIG 1 rfl (by omega) (by omega) (by unfold BIG; omega)
 rw [show P+1-1=P by omega,Nat.sub_self,Nat.sub_zero,Nat.div_eq_of_lt (by omega)] at hk
 unfold canon_Read
 refine bnd hck (cnd_f rfl (bndL (s:=false) (cnd_f (by simp) (bnd (x:=((8 * B.length:Nat):Int)) (by rw [w8]) ?_)) (cnd_f rfl (bnd (count_eq m hm (by omega)) (bnd l0 (bnd l16t (bnd l16t (bnd (firsts_eq m (by omega) hwl) (bnd l0 (bnd l16 (bndR (a:=((j:Int),((P+m[j]:Nat):Int),0)) hk rfl)))))))))))
 rw [decide_eq_false (by omega)]
def bgS (b:List Int) (at_ n v10:Int):((Int×Int))→Option ((Int×Int)⊕((Int)⊕(Int×Int×Int))):=(fun ((s25,s26):Int×Int) =>
     (some (IntKind.i64.wrap (at_+n))).bind fun v11 =>
     (bits_bytesFor v11).bind fun v12 =>
     cond ((decide (s26<v12)))
      ((ixO s26 b.length).bind fun v14 =>
      (getO b v14).bind fun v15 =>
      (some (IntKind.u32.wrap v15)).bind fun v16 =>
      (some (IntKind.i64.wrap (s26-v10))).bind fun v17 =>
      (some (IntKind.i64.wrap (8 * v17))).bind fun v18 =>
      (shlO .u32 v16 v18).bind fun v19 =>
      (some (bits .or .u32 s25 v19)).bind fun v20 =>
      (some (IntKind.i64.wrap (s26+1))).bind fun v21 =>
      some (.inl (v20,v21)))
      (some (.inr (.inl s25))))
theorem or_u32n (a b:Nat) (ha:a<4294967296) (hb:b<4294967296):bits .or .u32 (a:Int) (b:Int)=((a ||| b:Nat):Int):=by
 have hx:a ||| b<2 ^ 32:=Nat.or_lt_two_pow (by omega) (by omega)
 show IntKind.u32.wrap ((BitVec.ofInt 32 (a:Int) ||| BitVec.ofInt 32 (b:Int)).toNat:Int)=_
 rw [BitVec.toNat_or,ofInt32 a ha,ofInt32 b hb,wrap_u32c (by omega) (by omega)]
theorem and_u32n (a b:Nat) (ha:a<4294967296) (hb:b<4294967296):bits .and .u32 (a:Int) (b:Int)=((a &&& b:Nat):Int):=by
 have hx:a &&& b<2 ^ 32:=Nat.and_lt_two_pow a (by omega)
 show IntKind.u32.wrap ((BitVec.ofInt 32 (a:Int) &&& BitVec.ofInt 32 (b:Int)).toNat:Int)=_
 rw [BitVec.toNat_and,ofInt32 a ha,ofInt32 b hb,wrap_u32c (by omega) (by omega)]
theorem get_eq {b:List Int} (hb:isB b) (hbl:b.length≤10000) (p n:Nat) (hn:n≤24) (hp:p+n≤8 * b.length) :
  ∃ v:Nat,bits_Get b (p:Int) (n:Int)=some ((v:Int),((p+n:Nat):Int),0)∧v<2 ^ n∧∀ i,i<n→v.testBit i=bitC b (p+i):=by
 have w8:some (IntKind.i64.wrap (8 * (b.length:Int)))=some ((8 * b.length:Nat):Int):=by rw [wrap_i64 (by omega) (by omega)]; simp
 have wn:some (IntKind.i64.wrap ((p:Int)+(n:Int)))=some ((p+n:Nat):Int):=by rw [wrap_i64 (by omega) (by omega)]; simp
 have hbf:=bytesFor_eq (p+n) (by omega)
 have key:∀ (k i acc fuel:Nat),i+k=(p+n+7) / 8→p / 8≤i→k<fuel→acc<2 ^ (8 * (i-p / 8))→(∀ t,t<8 * (i-p / 8)→acc.testBit t=bitC b (8 * (p / 8)+t)) →
   ∃ r:Nat,loopF (bgS b (p:Int) (n:Int) ((p / 8:Nat):Int)) fuel ((acc:Int),(i:Int))=some (.inl (r:Int))∧r<4294967296∧∀ t,t<8 * ((p+n+7) / 8-p / 8)→r.testBit t=bitC b (8 * (p / 8)+t):=by
  intro k
  induction k with
  | zero =>
   intro i acc fuel hi hpi hf ha hbit
   obtain ⟨fu,rfl⟩:∃ fu,fuel=fu+1:=⟨fuel-1,by omega⟩
   obtain rfl:i=(p+n+7) / 8:=by omega
   refine ⟨acc,loop_exit (by unfold bgS; exact bnd wn (bnd hbf (cnd_f (decide_eq_false (by omega)) rfl))),?_,hbit⟩
   have:2 ^ (8 * ((p+n+7) / 8-p / 8))≤2 ^ 32:=Nat.pow_le_pow_right (by omega) (by omega)
   omega
  | succ k ih =>
   intro i acc fuel hi hpi hf ha hbit
   obtain ⟨fu,rfl⟩:∃ fu,fuel=fu+1:=⟨fuel-1,by omega⟩
   have hib:i<b.length:=by omega
   obtain ⟨x,hx,hx2⟩:∃ x:Nat,b[i]=(x:Int)∧x<256:=⟨b[i].toNat,by have:=hb _ (List.getElem_mem hib); omega,by have:=hb _ (List.getElem_mem hib); omega⟩
   have hg:getO b i=some (x:Int):=by rw [← hx]; simp [getO,hib]
   have w0:IntKind.u32.wrap (x:Int)=(x:Int):=wrap_u32c (by omega) (by omega)
   have w1:some (IntKind.i64.wrap ((i:Int)-((p / 8:Nat):Int)))=some ((i-p / 8:Nat):Int):=by rw [wrap_i64 (by omega) (by omega)]; congr 1; omega
   have w2:some (IntKind.i64.wrap (8 * ((i-p / 8:Nat):Int)))=some ((8 * (i-p / 8):Nat):Int):=by rw [wrap_i64 (by omega) (by omega)]; simp
   have hm:i-p / 8≤3:=by omega
   have hpw:2 ^ (8 * (i-p / 8))≤2 ^ 24:=Nat.pow_le_pow_right (by omega) (by omega)
   have e24:(2:Nat) ^ 24=16777216:=by decide
   have hxs:x * 2 ^ (8 * (i-p / 8))<4294967296:=by
    have:=Nat.mul_le_mul_left x hpw
    omega
   have hsh:=shl_u32 x (8 * (i-p / 8)) (by omega) hxs
   have hor:=or_u32n acc (x * 2 ^ (8 * (i-p / 8))) (by omega) hxs
   have hlt:acc ||| x * 2 ^ (8 * (i-p / 8))<2 ^ (8 * (i+1-p / 8)):=by
    refine Nat.or_lt_two_pow (Nat.lt_of_lt_of_le ha (Nat.pow_le_pow_right (by omega) (by omega))) ?_
    rw [show 8 * (i+1-p / 8)=8+8 * (i-p / 8) by omega,Nat.pow_add]
    exact Nat.mul_lt_mul_of_pos_right (by omega) (Nat.two_pow_pos _)
   obtain ⟨r,r1,r2,r3⟩:=ih (i+1) (acc ||| x * 2 ^ (8 * (i-p / 8))) fu (by omega) (by omega) (by omega) hlt (fun t ht=>by
    rw [Nat.testBit_or,Nat.mul_comm,Nat.testBit_two_pow_mul]
    by_cases h:t<8 * (i-p / 8)
    ·rw [hbit t h,decide_eq_false (by omega)]; simp
    ·have h0:acc.testBit t=false:=Nat.testBit_lt_two_pow (Nat.lt_of_lt_of_le ha (Nat.pow_le_pow_right (by omega) (by omega)))
     rw [h0,decide_eq_true (by omega:t≥8 * (i-p / 8))]
     simp only [bitC,Bool.true_and,Bool.false_or]
     have e1:(8 * (p / 8)+t) / 8=i:=by omega
     have e2:(8 * (p / 8)+t) % 8=t-8 * (i-p / 8):=by omega
     rw [e1,e2,List.getD_eq_getElem?_getD,List.getElem?_eq_getElem hib,Option.getD_some,hx]
     rfl)
   refine ⟨r,(loop_next (by unfold bgS; exact bnd wn (bnd hbf (cnd_t (decide_eq_true (by omega)) (bnd (ixO_of hib) (bnd hg (bnd (congrArg some w0) (bnd w1 (bnd w2 (bnd hsh (bnd (congrArg some hor) (bnd (congrArg some (wrapS (n:=i) (by omega))) rfl)))))))))))).trans r1,r2,r3⟩
 obtain ⟨acc,hacc,hac2,hac3⟩:=key ((p+n+7) / 8-p / 8) (p / 8) 0 BIG (by omega) (Nat.le_refl _) (by simp only [BIG]; omega) (by simp) (by intro t ht; omega)
 have e1:shlO .u32 1 (n:Int)=some ((1 * 2 ^ n:Nat):Int):=shl_u32 1 n (by omega) (by have:2 ^ n≤2 ^ 24:=Nat.pow_le_pow_right (by omega) hn; omega)
 rw [Nat.one_mul] at e1
 have hpn:2 ^ n≤2 ^ 24:=Nat.pow_le_pow_right (by omega) hn
 have hp0:=Nat.two_pow_pos n
 have e24:(2:Nat) ^ 24=16777216:=by decide
 have e2:IntKind.u32.wrap (((2 ^ n:Nat):Int)-1)=((2 ^ n-1:Nat):Int):=by rw [wrap_u32c (by omega) (by omega)]; omega
 have e3:=shr_u32n acc (p % 8) (by omega)
 have hsm:acc / 2 ^ (p % 8)<4294967296:=Nat.lt_of_le_of_lt (Nat.div_le_self _ _) hac2
 have e4:=and_u32n (acc / 2 ^ (p % 8)) (2 ^ n-1) hsm (by omega)
 rw [Nat.and_two_pow_sub_one_eq_mod] at e4
 have hv:acc / 2 ^ (p % 8) % 2 ^ n<2 ^ n:=Nat.mod_lt _ hp0
 refine ⟨acc / 2 ^ (p % 8) % 2 ^ n,?_,hv,fun i hi => ?_⟩
 ·unfold bits_Get
  exact bndL (s:=false) (cnd_f (decide_eq_false (by omega)) (cnd_f (decide_eq_false (by omega)) (cnd_f (decide_eq_false (by omega)) (bnd w8 (by rw [decide_eq_false (by omega)]))))) (cnd_f rfl (bnd wn (bnd w8 (cnd_f (decide_eq_false (by omega)) (bnd (quo_nat p 8 (by omega) (by omega)) (bndL hacc (bnd e1 (bnd (congrArg some e2) (bnd (rem_nat p 8 (by omega)) (bnd e3 (bnd (congrArg some e4) (bnd (congrArg some (wrapN _ (by omega))) (bnd wn rfl)))))))))))))
 ·rw [Nat.testBit_mod_two_pow,decide_eq_true hi,Bool.true_and,Nat.testBit_div_two_pow,hac3 _ (by omega)]
  congr 1
  omega
end Go.Abs.Sh
