import Derived.Test.YtglabbpbianmnaaGreatDoorBunF
import Derived.Lib.Atoi
namespace Go.Abs.Sh
set_option linter.unusedVariables false
set_option linter.unusedSimpArgs false
set_option maxRecDepth 100000
def dgB (c:Int):Bool:=decide (48≤c)&&decide (c≤57)
theorem eqL (s t:ByteArray):(s.toList==t.toList)=decide (sbytes s=sbytes t):=by
 rw [toList_beq]
 exact decide_eq_decide.2 str_eq_iff
theorem all_iff_false {l:List Int} {p:Int→Bool} (h:¬ ∀ i,i<l.length→p (l.getD i 0)=true):l.all p=false:=by
 cases e:l.all p with
 | false=>rfl
 | true=>exact absurd ((all_iff_get l p).1 e) h
/-! Numbers,params. -/
theorem dig_val {b:UInt8} (h:48≤b.toNat∧b.toNat≤57):Lib.digitVal b=some (b.toNat-48):=by
 unfold Lib.digitVal; rw [if_pos h]
theorem numLoop (s:ByteArray) (hs:s.size<4611686018427387904):(loopF (S:=(Int)) (O:=(Unit)⊕(Int×Bool)) (fun (s24:Int) =>
      cond ((decide (s24<(s.size:Int))))
       (bindS (S:=Bool) (A:=((Int)⊕((Unit)⊕(Int×Bool))))
        ((chrO s s24).bind fun v9 =>
        cond ((decide (v9<48)))
         (some (.inl true))
         ((chrO s s24).bind fun v10 =>
         some (.inl ((decide (57<v10))))))
        (fun (s38:Bool) =>
         cond (s38)
          (some (.inr (.inr ((0,false)))))
          ((some (IntKind.i64.wrap (s24+1))).bind fun v16 =>
          some (.inl v16))) some)
       (some (.inr (.inl ()))))
      BIG 0)=some (if (sbytes s).all dgB=true then .inl () else .inr (0,false)):=by
 have hstep:∀ i:Nat,i<s.size→((chrO s (i:Int)).bind fun v9 =>
        cond ((decide (v9<48)))
         (some (.inl true))
         ((chrO s (i:Int)).bind fun v10 =>
         some (.inl ((decide (57<v10))))):Option (Bool⊕((Int)⊕((Unit)⊕(Int×Bool)))))=some (.inl (!dgB ((sbytes s).getD i 0))):=by
  intro i hi
  have hc:=chrD hi
  refine bnd hc ?_
  unfold dgB
  by_cases h1:(sbytes s).getD i 0<48
  ·rw [decide_eq_true h1,decide_eq_false (p:=48≤(sbytes s).getD i 0) (by omega)]; rfl
  ·rw [decide_eq_false h1,decide_eq_true (p:=48≤(sbytes s).getD i 0) (by omega)]
   refine bnd hc ?_
   by_cases h2:(sbytes s).getD i 0≤57
   ·rw [decide_eq_true h2,decide_eq_false (by omega)]; rfl
   ·rw [decide_eq_false h2,decide_eq_true (by omega)]; rfl
 have hloop:=loop_all (R:=Int×Bool) (f:=fun (s24:Int) =>
      cond ((decide (s24<(s.size:Int))))
       (bindS (S:=Bool) (A:=((Int)⊕((Unit)⊕(Int×Bool))))
        ((chrO s s24).bind fun v9 =>
        cond ((decide (v9<48)))
         (some (.inl true))
         ((chrO s s24).bind fun v10 =>
         some (.inl ((decide (57<v10))))))
        (fun (s38:Bool) =>
         cond (s38)
          (some (.inr (.inr ((0,false)))))
          ((some (IntKind.i64.wrap (s24+1))).bind fun v16 =>
          some (.inl v16))) some)
       (some (.inr (.inl ())))) (fun i=>dgB ((sbytes s).getD i 0)) s.size (0,false) (fuel:=BIG) (by simp only [BIG]; omega)
  (fun i hi hp=>by
   replace hp:dgB ((sbytes s).getD i 0)=true:=hp
   have:=hstep i hi
   rw [hp] at this
   exact cnd_t (decide_eq_true (by omega)) (bndL this (cnd_f rfl (bnd (some_wrap (by omega) (by omega)) rfl))))
  (fun i hi hp=>by
   replace hp:dgB ((sbytes s).getD i 0)=false:=hp
   have:=hstep i hi
   rw [hp] at this
   exact cnd_t (decide_eq_true (by omega)) (bndL this (cnd_t rfl rfl)))
  (cnd_f (decide_eq_false (by omega)) rfl)
 rw [hloop]
 congr 1
 by_cases h:∀ i,i<s.size→dgB ((sbytes s).getD i 0)=true
 ·rw [if_pos h,if_pos ((all_iff_get _ _).2 (by rw [sbytes_len]; exact h))]
 ·rw [if_neg h,if_neg (by rw [all_iff_false (by rw [sbytes_len]; exact h)]; simp)]
/-! What a row of digits spells. -/
def valF:Nat→List Int→Nat
 | acc,[]=>acc
 | acc,c::l=>valF (acc * 10+(c-48).toNat) l
theorem dec_val:∀ (l:List UInt8) (acc:Nat),(∀ b∈l,48≤b.toNat∧b.toNat≤57)→Lib.decFrom acc l=some (valF acc (l.map fun b=>((b.toNat:Nat):Int)))
 | [],acc,_=>rfl
 | b::r,acc,h=>by
  have hb:=h b List.mem_cons_self
  unfold Lib.decFrom
  rw [dig_val hb]
  show Lib.decFrom (acc * 10+(b.toNat-48)) r=_
  rw [dec_val r _ fun x hx=>h x (List.mem_cons_of_mem _ hx)]
  have e:(((b.toNat:Nat):Int)-48).toNat=b.toNat-48:=by omega
  simp only [List.map_cons,valF,e]
theorem atoi_val (s:ByteArray) (h0:sbytes s≠[]) (h:(sbytes s).all dgB=true) (hs:s.size≤18):strconv_Atoi s=some (((valF 0 (sbytes s):Nat):Int),()):=by
 unfold strconv_Atoi
 rw [if_pos hs]
 have hb:∀ b∈s.data.toList,48≤b.toNat∧b.toNat≤57:=by
  intro b hb
  have:((b.toNat:Nat):Int)∈sbytes s:=by
   unfold sbytes
   exact List.mem_map.2 ⟨b,hb,rfl⟩
  have:=List.all_eq_true.1 h _ this
  simp only [dgB,Bool.and_eq_true,decide_eq_true_eq] at this
  omega
 have hv:=dec_val s.data.toList 0 hb
 have hsb:sbytes s=s.data.toList.map fun b=>((b.toNat:Nat):Int):=rfl
 rw [← hsb] at hv
 cases hl:s.data.toList with
 | nil=>exact absurd (by unfold sbytes; rw [hl]; rfl) h0
 | cons b r =>
  rw [hl] at hb hv
  have hbb:=hb b List.mem_cons_self
  have h45:(b==45)=false:=beq_eq_false_iff_ne.2 fun e=>by rw [e] at hbb; exact absurd hbb.1 (by decide)
  have h43:(b==43)=false:=beq_eq_false_iff_ne.2 fun e=>by rw [e] at hbb; exact absurd hbb.1 (by decide)
  have he:Lib.atoi (b::r)=some ((valF 0 (sbytes s):Nat):Int):=by
   unfold Lib.atoi
   simp only [h45,h43,Bool.false_eq_true,if_false,Lib.decNat,List.isEmpty_cons,hv]
   rfl
  rw [he]
  rfl
theorem val_dgA:∀ (k n:Nat) (acc:List Int),n<10 ^ (k+1)→valF 0 (dgA k n acc)=valF n acc
 | 0,n,acc,hn=>by
  show valF (0 * 10+(48+(n:Int)-48).toNat) acc=_
  congr 1; omega
 | k+1,n,acc,hn=>by
  unfold dgA
  by_cases h9:n≤9
  ·rw [if_pos h9]
   show valF (0 * 10+(48+(n:Int)-48).toNat) acc=_
   congr 1; omega
  ·rw [if_neg h9,val_dgA k _ _ (by rw [Nat.pow_succ] at hn; omega)]
   show valF (n / 10 * 10+(48+((n % 10:Nat):Int)-48).toNat) acc=_
   congr 1; omega
theorem dgA_head:∀ (k n:Nat) (acc:List Int),1≤n→n<10 ^ (k+1)→∃ c t,dgA k n acc=c::t∧49≤c
 | 0,n,acc,h1,hn=>⟨48+(n:Int),acc,rfl,by omega⟩
 | k+1,n,acc,h1,hn=>by
  unfold dgA
  by_cases h9:n≤9
  ·rw [if_pos h9]; exact ⟨_,_,rfl,by omega⟩
  ·rw [if_neg h9]; exact dgA_head k _ _ (by omega) (by rw [Nat.pow_succ] at hn; omega)
theorem dgA_zero:∀ (k:Nat) (acc:List Int),dgA k 0 acc=48::acc
 | 0,_=>rfl
 | k+1,acc=>by unfold dgA; rw [if_pos (by omega)]; rfl
theorem dgA_len:∀ (k j n:Nat) (acc:List Int),n<10 ^ (j+1)→j≤k→(dgA k n acc).length≤acc.length+j+1
 | 0,j,n,acc,_,_=>by show acc.length+1≤acc.length+j+1; omega
 | k+1,j,n,acc,hn,hj=>by
  unfold dgA
  by_cases h9:n≤9
  ·rw [if_pos h9]; simp only [List.length_cons]; omega
  ·rw [if_neg h9]
   cases j with
   | zero=>exact absurd (show n<10 from hn) (by omega)
   | succ j =>
    have:=dgA_len k j (n / 10) ((48+((n % 10:Nat):Int))::acc) (by rw [Nat.pow_succ] at hn; omega) (by omega)
    simp only [List.length_cons] at this
    omega
def numT (l:List Int):Bool := !l.isEmpty&&(decide (l.length≤10)&&(!(l.head? == some 48&&decide (l≠[48]))&&l.all dgB))
theorem numT_eq (s:ByteArray):∃ n,number_Parse s 10=some (n,numT (sbytes s))∧(numT (sbytes s)=true→n=((valF 0 (sbytes s):Nat):Int)):=by
 unfold number_Parse numT
 have hE:=isE s
 cases he:(sbytes s).isEmpty with
 | true=>exact ⟨0,bndL (s:=true) (cnd_t (by rw [hE,he]) rfl) (cnd_t rfl rfl),fun h=>by cases h⟩
 | false =>
  rw [he] at hE
  by_cases hl:(sbytes s).length≤10
  ·rw [decide_eq_true hl]
   rw [sbytes_len] at hl
   have hne:sbytes s≠[]:=by intro h; rw [h] at he; cases he
   have h0:0<s.size:=by
    rw [← sbytes_len]; exact List.length_pos_iff.2 hne
   have hc:=chrD h0
   have hh:=head_getD hne
   have hz:((s.toList==(⟨#[48]⟩:ByteArray).toList))=decide (sbytes s=[48]):=by rw [eqL]; rfl
   have hcond:∀ (Z:Option (Bool⊕(Int×Bool))),Z=((chrO s 0).bind fun v2 =>
    cond ((v2==48))
     (some (.inl ((!(s.toList==(⟨#[48]⟩:ByteArray).toList)))))
     (some (.inl false)))→Z=some (.inl ((sbytes s).head? == some 48&&decide (sbytes s≠[48]))):=by
    intro Z hZ
    rw [hZ]
    refine bnd hc ?_
    rw [hh,hz]
    by_cases h48:(sbytes s).getD 0 0=48
    ·rw [h48]
     by_cases h1:sbytes s=[48]
     ·simp [h1]
     ·simp [h1]
    ·have e1:((sbytes s).getD 0 0==48)=false:=beq_eq_false_iff_ne.2 h48
     rw [e1]
     have e2:(some ((sbytes s).getD 0 0)==some (48:Int))=false:=beq_eq_false_iff_ne.2 fun h=>h48 (Option.some.inj h)
     rw [e2]; rfl
   have hfirst:=hcond _ rfl
   cases hq:((sbytes s).head? == some 48&&decide (sbytes s≠[48])) with
   | true =>
    rw [hq] at hfirst
    exact ⟨0,bndL (s:=true) (cnd_f hE (bnd (x:=10) rfl (cnd_f (decide_eq_false (by omega)) hfirst))) (cnd_t rfl rfl),fun h=>by cases h⟩
   | false =>
    rw [hq] at hfirst
    cases hd:(sbytes s).all dgB with
    | true =>
     have hr:=atoi_val s hne hd (by omega)
     have hlp:=numLoop s (by omega)
     rw [hd,if_pos rfl] at hlp
     exact ⟨_,bndL (s:=false) (cnd_f hE (bnd (x:=10) rfl (cnd_f (decide_eq_false (by omega)) hfirst))) (cnd_f rfl (bndL hlp (bnd hr rfl))),fun _=>rfl⟩
    | false =>
     have hlp:=numLoop s (by omega)
     rw [hd,if_neg (by simp)] at hlp
     exact ⟨0,bndL (s:=false) (cnd_f hE (bnd (x:=10) rfl (cnd_f (decide_eq_false (by omega)) hfirst))) (cnd_f rfl (bndR hlp rfl)),fun h=>by cases h⟩
  ·rw [decide_eq_false hl]
   rw [sbytes_len] at hl
   exact ⟨0,bndL (s:=true) (cnd_f hE (bnd (x:=10) rfl (cnd_t (decide_eq_true (by omega)) rfl))) (cnd_t rfl rfl),fun h=>by cases h⟩
theorem dgA_dig {n:Nat} (h:n<10 ^ 18):∀ x∈dgA 20 n [],dig1 x:=by
 obtain ⟨t,h1,h2,h3,h4⟩:=dgA_ok 20 n [] (by omega)
 rw [h1,List.append_nil]
 exact h2
theorem num_dgA {n:Nat} (h:n<10 ^ 10):number_Parse (bstr (dgA 20 n [])) 10=some ((n:Int),true):=by
 obtain ⟨hb,_⟩:=dg_byt (n:=n) (by omega)
 have hd:=dgA_dig (n:=n) (by omega)
 obtain ⟨t,h1,h2,h3,h4⟩:=dgA_ok 20 n [] (by omega)
 rw [List.append_nil] at h1
 have hl:=dgA_len 20 9 n [] (by omega) (by omega)
 obtain ⟨m,hm,hv⟩:=numT_eq (bstr (dgA 20 n []))
 rw [sbytes_bstr hb] at hm hv
 have hT:numT (dgA 20 n [])=true:=by
  unfold numT
  have e1:(dgA 20 n []).isEmpty=false:=by
   cases he:dgA 20 n [] with
   | nil=>rw [← h1,he] at h3; exact absurd h3 (by simp)
   | cons=>rfl
  have e2:(dgA 20 n []).all dgB=true:=by
   rw [List.all_eq_true]
   intro x hx
   have:=hd x hx
   unfold dig1 at this
   simp only [dgB,Bool.and_eq_true,decide_eq_true_eq]
   exact this
  rw [e1,e2,decide_eq_true (by simpa using hl)]
  by_cases hn:n=0
  ·subst hn
   rw [dgA_zero]; rfl
  ·obtain ⟨c,r,hc,hc2⟩:=dgA_head 20 n [] (by omega) (by omega)
   rw [hc]
   have:(some c==some (48:Int))=false:=beq_eq_false_iff_ne.2 fun h=>by have:=Option.some.inj h; omega
   simp only [List.head?_cons,this]
   rfl
 rw [hT] at hm
 rw [hm,hv hT,val_dgA 20 n [] (by omega)]
 rfl
end Go.Abs.Sh
