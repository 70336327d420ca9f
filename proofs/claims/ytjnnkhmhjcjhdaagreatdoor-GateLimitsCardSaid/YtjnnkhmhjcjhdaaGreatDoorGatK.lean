import Derived.Test.YtjnnkhmhjcjhdaaGreatDoorGatI
namespace Go.Abs.Sh
set_option linter.unusedVariables false
set_option linter.unusedSimpArgs false
set_option maxRecDepth 100000
def OA:List Int:=[82,67,80,84,32,84,79,58,60,114,64,98,62]
theorem Me:(List.range 12).all (fun k=>decide (dz (SG 0 1 (gL k) []) (cH OA)=some (SG 0 1 (gL (k+1)) [tz (if k<8 then 250 else 452)]))&&(decide (kf (gL k)=some true)&&decide (ir (gL k) (gL k)=some true)))=true:=by kernel_rfl
theorem Gj {k:Nat} (h:k<12):dz (SG 0 1 (gL k) []) (cH OA)=some (SG 0 1 (gL (k+1)) [tz (if k<8 then 250 else 452)])∧kf (gL k)=some true∧ir (gL k) (gL k)=some true:=by
 have:=List.all_eq_true.1 Me k (List.mem_range.2 h)
 simpa only [Bool.and_eq_true,decide_eq_true_eq] using this
theorem Oe (k:Nat):(gL k).Phase≠4:=by show (if k=0 then (2:Int) else 3)≠4; split <;> decide
theorem Ok (k:Nat):(gL k).To.length<100000:=by show (List.replicate (min k 8) Jk).length<_; rw [List.length_replicate]; omega
theorem KH {k:Nat} (h:k<12):im JN 0 1 (gL k) [82,67,80,84,32,84,79,58,60,114,64,98,62,13,10]=some (gL (k+1),[tz (if k<8 then 250 else 452)],0):=by
 obtain ⟨h1,h2,_⟩:=Gj h
 exact CC (r:=(gL (k+1),[tz (if k<8 then 250 else 452)])) (lf (i:=0) (t:=1) OA (Oe k) rfl rfl h1 rfl) (Oe k) rfl (by decide) (by decide) (.inl rfl) (by decide) h2 (by decide) (Ok k) ⟨Ok (k+1),Nat.lt_of_lt_of_le (Nat.lt_succ_self _) (Nat.le_of_ble_eq_true rfl)⟩
/-! One more recipient,at any domain. -/
def qU:List Int:=[82,67,80,84,32,84,79,58,60,114,64]
abbrev pD (d:ByteArray):bu:=bu.mk false (⟨#[114]⟩:ByteArray) d
theorem Jj {c:Int} (h:MN c=true):Fp c=true∧c≠62∧c≠13∧c≠10:=by
 unfold MN at h
 unfold Fp
 simp only [Bool.or_eq_true,beq_iff_eq] at h
 have:45≤c∧c≤122∧c≠62:=by
  rcases h with h | h
  ·by_cases h1:45≤c∧c≤122
   ·refine ⟨h1.1,h1.2,fun e => ?_⟩
    subst e; revert h; decide
   ·exfalso
    unfold wU at h
    simp only [Bool.or_eq_true,Bool.and_eq_true,decide_eq_true_eq,beq_iff_eq,HJ,Hv,NZ] at h
    omega
  ·subst h; decide
 refine ⟨?_,by omega,by omega,by omega⟩
 simp only [Bool.and_eq_true,decide_eq_true_eq]; omega
theorem Ds {d:ByteArray} (h:pL (br d)=true) (hs:d.size≤200):jr (cH (qU++(br d++[62])))=some (dA.mk 3 e0 (pD d) [],0)∧xc (pD d)=true∧Ob (qU++(br d++[62])):=by
 have hp:xc (pD d)=true:=by
  unfold xc
  simp only [cond_false]
  rw [h]; rfl
 have hall:∀ x∈br d,MN x=true:=fun x hx=>List.all_eq_true.1 (JX h) x hx
 have e:qU++(br d++[62])=oK 3++HX (pD d):=rfl
 have hb:mU (qU++(br d++[62])):=kD (zw qU rfl) (kD (dN d) (by decide))
 have hbox:tT 3 (HX (pD d))=some ⟨3,e0,pD d,[]⟩:=by
  have ei:lC 62 (HX (pD d))=some (3+d.size):=by
   have:=vm (c:=62) (p:=60::114::64::br d) (r:=[]) (fun hx=>by
    simp only [List.mem_cons] at hx
    rcases hx with hx | hx | hx | hx
    ·omega
    ·omega
    ·omega
    ·exact (Jj (hall _ hx)).2.1 rfl)
   have hl:(60::114::64::br d).length=3+d.size:=by simp only [List.length_cons,cv]; omega
   rw [hl] at this
   exact this
  have hlen:(HX (pD d)).length=3+d.size+1:=by
   show (60::114::64::(br d++[62])).length=_
   simp only [List.length_cons,List.length_append,List.length_nil,cv]; omega
  unfold tT
  rw [ei]
  simp only
  rw [List.take_of_length_le (by omega),List.drop_eq_nil_of_le (by omega),JS _ hp]
  rfl
 obtain ⟨h1,h2,h3⟩:=JE (k:=3) (.inr rfl) hbox
 refine ⟨?_,hp,?_⟩
 ·rw [Gr,cy hb,e]
  unfold uc
  rw [if_neg,h3,if_neg (by decide),h2]
  rw [h1,← e]
  rintro (hx | hx | hx)
  ·have:(qU++(br d++[62])).length=11+(d.size+1):=by rw [List.length_append,List.length_append,cv]; rfl
   omega
  ·have:(qU++(br d++[62])).all Fp=true:=by
    rw [List.all_append,List.all_append]
    have e2:(br d).all Fp=true:=List.all_eq_true.2 fun x hx=>(Jj (hall x hx)).1
    rw [e2]; rfl
   rw [this] at hx; cases hx
  ·exact absurd hx (by decide)
 ·intro x hx
  rcases List.mem_append.1 hx with hx | hx
  ·exact Mr qU rfl x hx
  ·rcases List.mem_append.1 hx with hx | hx
   ·exact (Jj (hall x hx)).2.2
   ·rw [List.mem_singleton.1 hx]; decide
theorem Lw:nr (⟨#[97]⟩:ByteArray)=(⟨#[97]⟩:ByteArray)∧nr (⟨#[98]⟩:ByteArray)=(⟨#[98]⟩:ByteArray):=⟨by kernel_rfl,by kernel_rfl⟩
abbrev gT (k:Nat) (d:ByteArray):cq:=cq.mk 3 (⟨#[104]⟩:ByteArray) zN (List.replicate (min k 8) Jk++[pD d]) false [] (⟨#[]⟩:ByteArray) false
theorem Km {k:Nat} (hk:k<8) {d:ByteArray} (h:pL (br d)=true) (hs:d.size≤200) (b:Bool) (hb:b=decide (nr d=(⟨#[97]⟩:ByteArray)∨nr d=(⟨#[98]⟩:ByteArray))) :
  dz (SG 0 1 (gL k) []) (cH (qU++(br d++[62])))=some (SG 0 1 (cond b (gT k d) (gL k)) [tz (cond b 250 550)]):=by
 obtain ⟨hp,hpat,_⟩:=Ds h hs
 have hat:∀ e:ByteArray,e.size<10→nr e=e→qX (pD d) e=some (decide (nr d=e)):=fun e he hl=>by
  rw [Nm (pD d) e ⟨by show (1:Nat)<_; decide,by show d.size<_; omega⟩ (by omega)]
  unfold Mh
  rw [hpat,hl]; rfl
 have ha:=hat (⟨#[97]⟩:ByteArray) (by decide) Lw.1
 have hb2:=hat (⟨#[98]⟩:ByteArray) (by decide) Lw.2
 have hr:iN (SG 0 1 (gL k) []) (dA.mk 3 e0 (pD d) [])=some (cond b 250 550,SG 0 1 (cond b (gT k d) (gL k)) []):=by
  unfold iN
  have hlt:(List.replicate (min k 8) Jk).length=k:=by rw [List.length_replicate]; omega
  refine cW (s:=false) ?_ (bY rfl (bY (decide_eq_false (by show ¬ (8:Int)≤((List.replicate (min k 8) Jk).length:Nat); omega)) ?_))
  ·by_cases h0:k=0
   ·subst h0; rfl
   ·have e3:(gL k).Phase=3:=if_neg h0
    show cond ((gL k).Phase != 2) (some (Sum.inl ((gL k).Phase != 3))) (some (Sum.inl false))=_
    rw [e3]; rfl
  ·refine cW (s := !b) (cJ ha ?_) ?_
   ·by_cases h1:nr d=(⟨#[97]⟩:ByteArray)
    ·rw [decide_eq_true h1]
     refine bY rfl ?_
     rw [hb,decide_eq_true (.inl h1)]; rfl
    ·rw [decide_eq_false h1]
     refine cx rfl (cJ hb2 ?_)
     rw [hb]
     congr 3
     rw [Bool.eq_iff_iff,decide_eq_true_eq,decide_eq_true_eq]
     exact ⟨.inr,fun e=>e.resolve_left h1⟩
   ·cases b
    ·exact cx rfl rfl
    ·refine bY rfl (cJ (ua (k:=40) (l:=List.replicate (min k 8) Jk) (m:=[pD d]) (by rw [hlt]; show (k+1) * 40≤_; omega) (by rw [hlt]; show k+1≤_; omega)) (cW (s:=false) (cJ (x:=((⟨#[]⟩:ByteArray),false)) ?_ (bY (by kernel_rfl) rfl)) rfl))
     unfold lJ
     exact cW (s:=()) (jd (fun _=>0) 0 _ rfl (by decide) (fun i hi=>absurd hi (Nat.not_lt_zero i)) (bY rfl rfl)) rfl
 have hne:(cond b 250 550:Int)≠334:=by cases b <;> decide
 have hc:eI (SG 0 1 (gL k) []) (dA.mk 3 e0 (pD d) [])=some (SG 0 1 (cond b (gT k d) (gL k)) [tz (cond b 250 550)]):=by
  unfold eI
  exact cW (s:=tG 0 1 (cond b (gT k d) (gL k),[tz (cond b 250 550)])) (bY rfl (bY rfl (bY rfl (bY rfl (bY rfl (bY rfl (cx rfl (cJ hr (cJ (zB (g:=cond b (gT k d) (gL k)) (o:=[]) hne (by decide)) rfl))))))))) rfl
 have h6:((gL k).Phase==6)=false:=by show ((if k=0 then (2:Int) else 3)==6)=false; split <;> rfl
 have h5:((gL k).Phase==5)=false:=by show ((if k=0 then (2:Int) else 3)==5)=false; split <;> rfl
 unfold dz
 exact cW (s:=tG 0 1 (cond b (gT k d) (gL k),[tz (cond b 250 550)])) (bY h6 (bY h5 (cJ hp (bY rfl (cJ hc rfl))))) rfl
theorem Kk {k:Nat} (hk:k<8) {d:ByteArray} (h:pL (br d)=true) (hs:d.size≤200) (b:Bool) (hb:b=decide (nr d=(⟨#[97]⟩:ByteArray)∨nr d=(⟨#[98]⟩:ByteArray))) :
  im JN 0 1 (gL k) ((qU++(br d++[62]))++[13,10])=some (cond b (gT k d) (gL k),[tz (cond b 250 550)],0):=by
 obtain ⟨_,_,hcl⟩:=Ds h hs
 have hby:mU (qU++(br d++[62])):=kD (zw qU rfl) (kD (dN d) (by decide))
 have hl:(qU++(br d++[62])).length=11+(d.size+1):=by rw [List.length_append,List.length_append,cv]; rfl
 have f:=Cc (i:=0) (t:=1) (g:=gL k) (o:=[]) (Oe k) rfl hby hcl (by omega) (Km hk h hs b hb) (by cases b <;> rfl)
 have hl2:((qU++(br d++[62]))++[13,10]).length<1000000:=by rw [List.length_append,hl]; show 11+(d.size+1)+2<1000000; omega
 have hT:(cond b (gT k d) (gL k)).To.length<100000:=by
  cases b
  ·exact Ok k
  ·show (List.replicate (min k 8) Jk++[pD d]).length<_
   rw [List.length_append,List.length_replicate]; show min k 8+1<_; omega
 exact CC (r:=(cond b (gT k d) (gL k),[tz (cond b 250 550)])) f (Oe k) rfl (by decide) (by decide) (.inl rfl) (by decide) (Gj (by omega)).2.1 hl2 (Ok k) ⟨hT,by cases b <;> exact Nat.lt_of_lt_of_le (Nat.lt_succ_self _) (Nat.le_of_ble_eq_true rfl)⟩
end Go.Abs.Sh
