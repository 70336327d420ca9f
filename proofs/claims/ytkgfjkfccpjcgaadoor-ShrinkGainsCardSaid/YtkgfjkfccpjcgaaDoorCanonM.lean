import Derived.Test.YtkgfjkfccpjcgaaDoorLawM
namespace Go.Abs.Sh
set_option linter.unusedVariables false
set_option linter.unusedSimpArgs false
def ints (m:List Nat):List Int:=m.map fun n:Nat=>(n:Int)
theorem ints_len (m:List Nat):(ints m).length=m.length:=by simp [ints]
theorem ints_get {m:List Nat} {i:Nat} (h:i<m.length):getO (ints m) i=some ((m[i]:Nat):Int):=by simp [getO,ints,h]
theorem ints_set (m:List Nat) (i v:Nat) (h:i<m.length):setO (ints m) i (v:Int)=some (ints (m.set i v)):=by
 simp only [setO,ints,List.length_map]
 rw [if_pos h,List.map_set]
theorem ints_nats {l:List Int} (h:∀ n∈l,0≤n):ints (l.map Int.toNat)=l:=by
 simp only [ints,List.map_map]
 conv=>rhs; rw [← List.map_id l]
 exact List.map_congr_left fun x hx=>by have:=h x hx; simp; omega
def tal (m:List Nat):List Nat:=(List.range 16).map fun n=>if n=0 then 0 else m.count n
theorem tal_len (m:List Nat):(tal m).length=16:=by simp [tal]
theorem tal_at (m:List Nat) {n:Nat} (h:n<(tal m).length):(tal m)[n]=if n=0 then 0 else m.count n:=by simp [tal]
theorem tal_get (m:List Nat) {n:Nat} (h:n<16) (h0:0<n):getO (ints (tal m)) n=some ((m.count n:Nat):Int):=by
 have hl:n<(tal m).length:=by rw [tal_len]; exact h
 rw [ints_get hl,tal_at]; rw [if_neg (by omega)]
theorem tal_snoc (m:List Nat) (x:Nat) (hx:x≤15) (h0:0<x):tal (m++[x])=(tal m).set x (m.count x+1):=by
 apply List.ext_getElem
 ·simp [tal]
 ·intro i h1 h2
  have hi:i<16:=by rw [tal_len] at h1; exact h1
  rw [List.getElem_set,tal_at]
  by_cases hix:x=i
  ·subst hix; rw [if_neg (by omega),if_pos rfl,List.count_append]; simp
  ·rw [if_neg hix,tal_at,List.count_append]
   have:List.count i [x]=0:=by simp [List.count_cons,hix]
   rw [this]; rfl
theorem tal_snoc0 (m:List Nat):tal (m++[0])=tal m:=by
 apply List.ext_getElem
 ·simp [tal]
 ·intro i h1 h2
  rw [tal_at,tal_at,List.count_append]
  by_cases h:i=0
  ·simp [h]
  ·have:List.count i [0]=0:=by simp [List.count_cons]; omega
   rw [this]; rfl
theorem valid_eq (l:List Int):canon_valid l=some (decide (l.length≤300∧∀ n∈l,0≤n∧n≤15)):=by
 unfold canon_valid
 by_cases l1:300<l.length
 ·refine cnd_t (by simp; omega) ?_
  rw [decide_eq_false (by omega)]
 refine cnd_f (by simp; omega) ?_
 have key:∀ (k fuel i:Nat),l.length-i=k→i≤l.length→k<fuel →
   loopF (S:=(Int)) (O:=(Unit)⊕Bool) (fun (s18:Int) =>
    cond ((decide (s18<(l.length:Int))))
     ((ixO s18 l.length).bind fun v3 =>
     (getO l v3).bind fun v4 =>
     bindS (S:=Bool) (A:=((Int)⊕((Unit)⊕Bool)))
      (cond ((decide (v4<0)))
       (some (.inl true))
       (some (.inl ((decide (15<v4))))))
      (fun (s32:Bool) =>
       cond (s32)
        (some (.inr (.inr (false))))
        ((some (IntKind.i64.wrap (s18+1))).bind fun v10 =>
        some (.inl v10))) some)
     (some (.inr (.inl ())))) fuel (i:Int)=some (if ∀ n∈l.drop i,0≤n∧n≤15 then .inl () else .inr false):=by
  intro k
  induction k with
  | zero =>
   intro fuel i hk hi hf
   obtain ⟨f,rfl⟩:∃ f,fuel=f+1:=⟨fuel-1,by omega⟩
   have:i=l.length:=by omega
   subst this
   refine loop_exit (cnd_f (by simp) ?_)
   rw [if_pos (by simp)]
  | succ k ih =>
   intro fuel i hk hi hf
   obtain ⟨f,rfl⟩:∃ f,fuel=f+1:=⟨fuel-1,by omega⟩
   have hlt:i<l.length:=by omega
   have hw:IntKind.i64.wrap ((i:Int)+1)=((i+1:Nat):Int):=by rw [wrap_i64 (by omega) (by omega)]; simp
   have hdr:l.drop i=l[i]::l.drop (i+1):=List.drop_eq_getElem_cons hlt
   by_cases hv:0≤l[i]∧l[i]≤15
   ·refine (loop_next (cnd_t (by simp; omega) (bnd (ixO_of hlt) (bnd (getO_of hlt) (bndL (s:=false) (cnd_f (by simp; omega) (by rw [decide_eq_false (by omega)])) (cnd_f rfl (bnd (x:=((i+1:Nat):Int)) (by rw [hw]) rfl))))))).trans ?_
    rw [ih f (i+1) (by omega) (by omega) (by omega),hdr]
    simp only [List.mem_cons,forall_eq_or_imp,hv,true_and,and_self]
   ·refine loop_exit (cnd_t (by simp; omega) (bnd (ixO_of hlt) (bnd (getO_of hlt) (bndL (s:=true) ?_ (cnd_t rfl ?_)))))
    ·by_cases h0:l[i]<0
     ·exact cnd_t (by simp [h0]) rfl
     ·exact cnd_f (by simp; omega) (by rw [decide_eq_true (by omega)])
    ·rw [hdr,if_neg (fun h=>hv (h l[i] (List.mem_cons_self)))]
 have:=key l.length BIG 0 (by omega) (Nat.zero_le _) (by unfold BIG; omega)
 rw [List.drop_zero] at this
 by_cases hv:∀ n∈l,0≤n∧n≤15
 ·rw [if_pos hv] at this
  refine bndL (s:=()) this ?_
  rw [decide_eq_true ⟨by omega,hv⟩]
 ·rw [if_neg hv] at this
  refine bndR (a:=false) this ?_
  rw [decide_eq_false (fun h=>hv h.2)]
theorem count_eq (m:List Nat) (hm:∀ x∈m,x≤15) (hl:m.length≤1000):canon_count (ints m)=some (ints (tal m)):=by
 unfold canon_count
 have key:∀ (k fuel i:Nat),m.length-i=k→i≤m.length→k<fuel →
  loopF (S:=((List Int)×Int)) (O:=((List Int))⊕(List Int)) (fun ((s25,s26):(List Int)×Int) =>
   cond ((decide (s26<((ints m).length:Int))))
    (bindS (S:=(List Int)) (A:=(((List Int)×Int)⊕(((List Int))⊕(List Int))))
     ((ixO s26 (ints m).length).bind fun v2 =>
     (getO (ints m) v2).bind fun v3 =>
     cond ((decide (0<v3)))
      ((ixO v3 16).bind fun v5 =>
      (getO s25 v5).bind fun v6 =>
      (some (IntKind.i64.wrap (v6+1))).bind fun v7 =>
      (ixO v3 16).bind fun v8 =>
      (setO s25 v8 v7).bind fun v9 =>
      some (.inl v9))
      (some (.inl s25)))
     (fun (s43:(List Int)) =>
      (some (IntKind.i64.wrap (s26+1))).bind fun v15 =>
      some (.inl (s43,v15))) some)
    (some (.inr (.inl s25)))) fuel (ints (tal (m.take i)),(i:Int))=some (.inl (ints (tal m))):=by
  intro k
  induction k with
  | zero =>
   intro fuel i hk hi hf
   obtain ⟨f,rfl⟩:∃ f,fuel=f+1:=⟨fuel-1,by omega⟩
   have:i=m.length:=by omega
   subst this
   refine loop_exit (cnd_f (by simp [ints_len]) ?_)
   rw [List.take_length]
  | succ k ih =>
   intro fuel i hk hi hf
   obtain ⟨f,rfl⟩:∃ f,fuel=f+1:=⟨fuel-1,by omega⟩
   have hlt:i<m.length:=by omega
   have hlt':i<(ints m).length:=by rw [ints_len]; exact hlt
   have hw:IntKind.i64.wrap ((i:Int)+1)=((i+1:Nat):Int):=by rw [wrap_i64 (by omega) (by omega)]; simp
   have hx:=hm m[i] (List.getElem_mem hlt)
   have htk:m.take (i+1)=m.take i++[m[i]]:=by rw [List.take_add_one]; simp [hlt]
   have ih':=ih f (i+1) (by omega) (by omega) (by omega)
   refine (loop_next (s':=(ints (tal (m.take (i+1))),((i+1:Nat):Int))) (cnd_t (by simp; omega) (bndL (s:=ints (tal (m.take (i+1)))) (bnd (ixO_of hlt') (bnd (ints_get hlt) ?_)) (bnd (x:=((i+1:Nat):Int)) (by rw [hw]) rfl)))).trans ih'
   by_cases h0:0<m[i]
   ·have hc:(m.take i).count m[i]≤m.length:=Nat.le_trans (List.count_le_length) (by simp; omega)
    have hw2:IntKind.i64.wrap ((((m.take i).count m[i]:Nat):Int)+1)=(((m.take i).count m[i]+1:Nat):Int):=by rw [wrap_i64 (by omega) (by omega)]; simp
    have h16:m[i]<16:=by omega
    refine cnd_t (by simp; omega) (bnd (ixO_of h16) (bnd (tal_get _ h16 h0) (bnd (x:=(((m.take i).count m[i]+1:Nat):Int)) (by rw [hw2]) (bnd (ixO_of h16) (bnd (ints_set _ _ _ (by rw [tal_len]; exact h16)) ?_)))))
    rw [htk,tal_snoc _ _ hx h0]
   ·refine cnd_f (by simp; omega) ?_
    have:m[i]=0:=by omega
    rw [htk,this,tal_snoc0]
 have h0:ints (tal (m.take 0))=List.replicate 16 (0:Int):=by rw [List.take_zero]; decide
 have:=key m.length BIG 0 (by omega) (Nat.zero_le _) (by unfold BIG; omega)
 rw [h0] at this
 have l16:lnO 16 (ints (tal m))=some (ints (tal m)):=by simp [lnO,ints_len,tal_len]
 have l0:lnO 16 (List.replicate 16 (0:Int))=some (List.replicate 16 (0:Int)):=by decide
 exact bndL this (bnd l16 (bnd l0 (bnd l16 (bnd l16 rfl))))
def ws (m:List Nat):Nat→Nat
 | 0=>0
 | k+1=>ws m k+m.count (k+1) * 2 ^ (15-(k+1))
theorem ws_mono (m:List Nat) {a b:Nat} (h:a≤b):ws m a≤ws m b:=by
 induction b with
 | zero =>
  have:a=0:=by omega
  subst this; exact Nat.le_refl _
 | succ b ih =>
  rcases Nat.lt_or_ge a (b+1) with h1 | h1
  ·exact Nat.le_trans (ih (by omega)) (Nat.le_add_right _ _)
  ·have:a=b+1:=by omega
   subst this; exact Nat.le_refl _
theorem ws_le (m:List Nat) (k:Nat):ws m k≤k * (m.length * 32768):=by
 induction k with
 | zero=>simp [ws]
 | succ k ih =>
  have h1:m.count (k+1)≤m.length:=List.count_le_length
  have h2:2 ^ (15-(k+1))≤2 ^ 15:=Nat.pow_le_pow_right (by omega) (by omega)
  have h3:=Nat.mul_le_mul h1 h2
  have e:(2:Nat) ^ 15=32768:=by decide
  rw [e] at h3
  rw [ws,Nat.add_mul]
  omega
theorem shl_nat (a k:Nat) (hk:k≤64) (h:a * 2 ^ k<9223372036854775808):shlO .i64 (a:Int) (k:Int)=some ((a * 2 ^ k:Nat):Int):=by
 simp only [shlO,IntKind.bits]
 rw [if_pos (by omega),Int.toNat_natCast,Nat.min_eq_left hk]
 have e:(a:Int) * 2 ^ k=((a * 2 ^ k:Nat):Int):=by push_cast; rfl
 rw [e]
 generalize a * 2 ^ k=y at *
 rw [wrap_i64 (by omega) (by omega)]
theorem weight_eq (m:List Nat) (hl:m.length≤1000):canon_tally_weight (ints (tal m))=some ((ws m 15:Nat):Int):=by
 unfold canon_tally_weight
 have l16:lnO 16 (ints (tal m))=some (ints (tal m)):=by simp [lnO,ints_len,tal_len]
 have key:∀ (k fuel i w:Nat),16-i=k→i≤16→k<fuel→w=ws m (i-1) →
  loopF (S:=(Int×Int)) (O:=(Int)⊕Int) (fun ((s12,s13):Int×Int) =>
   cond ((decide (s13<16)))
    ((ixO s13 16).bind fun v3 =>
    (getO (ints (tal m)) v3).bind fun v4 =>
    (some (IntKind.i64.wrap (15-s13))).bind fun v5 =>
    (shlO .i64 v4 v5).bind fun v6 =>
    (some (IntKind.i64.wrap (s12+v6))).bind fun v7 =>
    (some (IntKind.i64.wrap (s13+1))).bind fun v8 =>
    some (.inl (v7,v8)))
    (some (.inr (.inl s12)))) fuel ((w:Int),(i:Int))=some (.inl ((ws m 15:Nat):Int)):=by
  intro k
  induction k with
  | zero =>
   intro fuel i w hk hi hf hw
   obtain ⟨f,rfl⟩:∃ f,fuel=f+1:=⟨fuel-1,by omega⟩
   have:i=16:=by omega
   subst this
   subst hw
   exact loop_exit (cnd_f (by simp) rfl)
  | succ k ih =>
   intro fuel i w hk hi hf hw
   obtain ⟨f,rfl⟩:∃ f,fuel=f+1:=⟨fuel-1,by omega⟩
   have h16:i<16:=by omega
   have hti:i<(tal m).length:=by rw [tal_len]; exact h16
   have w1:IntKind.i64.wrap (15-(i:Int))=((15-i:Nat):Int):=by rw [wrap_i64 (by omega) (by omega)]; omega
   have w2:IntKind.i64.wrap ((i:Int)+1)=((i+1:Nat):Int):=by rw [wrap_i64 (by omega) (by omega)]; simp
   have hc:(tal m)[i]≤m.length:=by
    rw [tal_at]; split
    ·omega
    ·exact List.count_le_length
   have h2:2 ^ (15-i)≤2 ^ 15:=Nat.pow_le_pow_right (by omega) (by omega)
   have h3:=Nat.mul_le_mul hc h2
   have e:(2:Nat) ^ 15=32768:=by decide
   rw [e] at h3
   have h4:m.length * 32768≤1000 * 32768:=Nat.mul_le_mul_right _ hl
   have hwl:=ws_le m (i-1)
   have hwl2:(i-1) * (m.length * 32768)≤16 * (1000 * 32768):=Nat.mul_le_mul (by omega) h4
   have hs:w+(tal m)[i] * 2 ^ (15-i)=ws m (i+1-1):=by
    rw [hw,tal_at]
    cases i with
    | zero=>simp [ws]
    | succ i=>rw [if_neg (by omega)]; simp [ws]
   have hsh:=shl_nat (tal m)[i] (15-i) (by omega) (by omega)
   have w3:IntKind.i64.wrap ((w:Int)+(((tal m)[i] * 2 ^ (15-i):Nat):Int))=((ws m (i+1-1):Nat):Int):=by
    rw [← hs]
    generalize (tal m)[i] * 2 ^ (15-i)=y at *
    rw [wrap_i64 (by omega) (by omega)]; simp
   refine (loop_next (cnd_t (by simp; omega) (bnd (ixO_of h16) (bnd (ints_get hti) (bnd (x:=((15-i:Nat):Int)) (by rw [w1]) (bnd hsh (bnd (x:=((ws m (i+1-1):Nat):Int)) (by rw [w3]) (bnd (x:=((i+1:Nat):Int)) (by rw [w2]) rfl)))))))).trans ?_
   exact ih f (i+1) _ (by omega) (by omega) (by omega) rfl
 exact bnd l16 (bndL (key 16 BIG 0 0 rfl (by omega) (by unfold BIG; omega) rfl) rfl)
def forms (m:List Nat):Bool:=decide (ints (tal m)=List.replicate 16 0)||decide (ints (tal m)=0::1::List.replicate 14 0)||decide (ws m 15=32768)
theorem forms_eq (m:List Nat) (hl:m.length≤1000):canon_forms (ints (tal m))=some (forms m):=by
 unfold canon_forms
 have l16:lnO 16 (ints (tal m))=some (ints (tal m)):=by simp [lnO,ints_len,tal_len]
 have l0:lnO 16 (List.replicate 16 (0:Int))=some (List.replicate 16 (0:Int)):=by decide
 refine bnd l0 (bnd rfl ?_)
 have e1:([(0:Int),(0:Int),(0:Int),(0:Int),(0:Int),(0:Int),(0:Int),(0:Int),(0:Int),(0:Int),(0:Int),(0:Int),(0:Int),(0:Int),(0:Int),(0:Int)]:List Int)=List.replicate 16 0:=rfl
 have e2:([(0:Int),1,(0:Int),(0:Int),(0:Int),(0:Int),(0:Int),(0:Int),(0:Int),(0:Int),(0:Int),(0:Int),(0:Int),(0:Int),(0:Int),(0:Int)]:List Int)=0::1::List.replicate 14 0:=rfl
 refine bndL (s:=forms m) (bnd l16 (bnd l16 (bnd rfl ?_))) rfl
 rw [e1]
 by_cases h1:ints (tal m)=List.replicate 16 0
 ·exact cnd_t (by rw [h1]; rfl) (by rw [forms,decide_eq_true h1]; rfl)
 refine cnd_f (by rw [beq_eq_false_iff_ne]; exact h1) (bnd l16 (bnd rfl (bnd l16 (bnd rfl ?_))))
 rw [e2]
 by_cases h2:ints (tal m)=0::1::List.replicate 14 0
 ·exact cnd_t (by rw [h2]; rfl) (by rw [forms,decide_eq_true h2]; simp)
 refine cnd_f (by rw [beq_eq_false_iff_ne]; exact h2) (bnd l16 (bnd (weight_eq m hl) ?_))
 rw [forms,decide_eq_false h1,decide_eq_false h2]
 by_cases h3:ws m 15=32768
 ·simp [h3]
 ·have:((ws m 15:Nat):Int)≠32768:=by omega
  simp [h3,this]
theorem forms_ws {m:List Nat} (h:forms m=true):ws m 15≤32768:=by
 simp only [forms,Bool.or_eq_true,decide_eq_true_eq] at h
 have count_of:∀ (t:List Int),ints (tal m)=t→∀ n,0<n→n<16→t[n]? = some ((m.count n:Nat):Int):=by
  intro t ht n h0 h16
  have:=tal_get m h16 h0
  rw [ht] at this
  exact this
 rcases h with (h | h) | h
 ·have hz:∀ k,k≤15→ws m k=0:=by
   intro k
   induction k with
   | zero=>intro _; rfl
   | succ k ih =>
    intro hk
    have:=count_of _ h (k+1) (by omega) (by omega)
    rw [List.getElem?_replicate,if_pos (by omega)] at this
    have hc:m.count (k+1)=0:=by simp at this; omega
    rw [ws,ih (by omega),hc]; simp
  rw [hz 15 (by omega)]; omega
 ·have hz:∀ k,k≤14→ws m (k+1)=16384:=by
   intro k
   induction k with
   | zero =>
    intro _
    have:=count_of _ h 1 (by omega) (by omega)
    have hc:m.count 1=1:=by simp at this; omega
    simp [ws,hc]
   | succ k ih =>
    intro hk
    have:=count_of _ h (k+1+1) (by omega) (by omega)
    simp only [List.getElem?_cons_succ,List.getElem?_replicate] at this
    rw [if_pos (by omega)] at this
    have hc:m.count (k+1+1)=0:=by simp at this; omega
    rw [ws,ih (by omega),hc]; simp
  rw [hz 14 (by omega)]; omega
 ·omega
theorem check_ints (m:List Nat) (hl:m.length≤1000):canon_Check (ints m)=some (if m.length≤300∧(∀ x∈m,x≤15) then (if forms m then 0 else 4) else 1):=by
 unfold canon_Check
 refine bnd (valid_eq _) ?_
 have hiff:((ints m).length≤300∧∀ n∈ints m,0≤n∧n≤15)↔(m.length≤300∧∀ x∈m,x≤15):=by
  rw [ints_len]
  constructor
  ·rintro ⟨h1,h2⟩
   exact ⟨h1,fun x hx=>by have:=(h2 (x:Int) (List.mem_map.2 ⟨x,hx,rfl⟩)).2; omega⟩
  ·rintro ⟨h1,h2⟩
   refine ⟨h1,fun n hn => ?_⟩
   obtain ⟨x,hx,rfl⟩:=List.mem_map.1 hn
   have:=h2 x hx; omega
 by_cases hv:m.length≤300∧(∀ x∈m,x≤15)
 ·rw [decide_eq_true (hiff.2 hv),if_pos hv]
  refine cnd_f rfl (bnd (count_eq m hv.2 hl) (bnd (forms_eq m hl) ?_))
  cases forms m <;> rfl
 ·rw [decide_eq_false (fun h=>hv (hiff.1 h)),if_neg hv]
  rfl
def fst (m:List Nat):Nat→Nat
 | 0=>0
 | 1=>0
 | n+2=>2 * (fst m (n+1)+m.count (n+1))
theorem fst_ws (m:List Nat):∀ n,n≤14→fst m (n+1) * 2 ^ (14-n)=ws m n
 | 0,_=>by simp [fst,ws]
 | n+1,h=>by
  have ih:=fst_ws m n (by omega)
  have e:14-n=(14-(n+1))+1:=by omega
  rw [show fst m (n+1+1)=2 * (fst m (n+1)+m.count (n+1)) from rfl,ws,← ih,show 15-(n+1)=(14-(n+1))+1 by omega,e,Nat.pow_succ]
  generalize 2 ^ (14-(n+1))=p
  rw [Nat.mul_add,Nat.add_mul]
  congr 1 <;> ac_rfl
end Go.Abs.Sh
