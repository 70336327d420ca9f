import Derived.Test.YtglabbpbianmnaaGreatDoorBunO
namespace Go.Abs.Sh
set_option linter.unusedVariables false
set_option linter.unusedSimpArgs false
set_option maxRecDepth 100000
theorem all_getD {A:Type} (d:A) (p:A→Bool):∀ (l:List A),(∀ i,i<l.length→p (l.getD i d)=true)↔l.all p=true:=by
 intro l
 rw [List.all_eq_true]
 constructor
 ·intro h x hx
  obtain ⟨i,hi,rfl⟩:=List.getElem_of_mem hx
  have:=h i hi
  rwa [List.getD_eq_getElem?_getD,List.getElem?_eq_getElem hi,Option.getD_some] at this
 ·intro h i hi
  rw [List.getD_eq_getElem?_getD,List.getElem?_eq_getElem hi,Option.getD_some]
  exact h _ (List.getElem_mem hi)
theorem getOD {A:Type} {l:List A} {i:Nat} (d:A) (h:i<l.length):getO l i=some (l.getD i d):=by
 rw [List.getD_eq_getElem?_getD,List.getElem?_eq_getElem h,Option.getD_some]; exact getO_of h
theorem memD {A:Type} {l:List A} {i:Nat} (d:A) (h:i<l.length):l.getD i d∈l:=by
 rw [List.getD_eq_getElem?_getD,List.getElem?_eq_getElem h,Option.getD_some]; exact List.getElem_mem h
def rcB (p:T_Path):Bool:=patB p && !p.Null
def envB (m:T_Mail):Bool:=patB m.From&&(decide (1≤m.To.length∧m.To.length≤8)&&m.To.all rcB)
theorem env_exact {m:T_Mail} (h:LM m):envelope_Valid m=some (envB m):=by
 obtain ⟨hs1,hs2,hs3,hs4⟩:=lm_small h
 unfold envelope_Valid envB
 cases hF:patB m.From
 ·exact bndL (s:=true) (bnd (check_eq _ hs1) (cnd_t (by rw [hF]; rfl) rfl)) (cnd_t rfl rfl)
 by_cases h1:1≤m.To.length∧m.To.length≤8
 case neg =>
  rw [decide_eq_false h1]
  refine bndL (s:=true) (bnd (check_eq _ hs1) (cnd_f (by rw [hF]; rfl) ?_)) (cnd_t rfl rfl)
  by_cases h2:m.To.length<1
  ·exact cnd_t (decide_eq_true (by omega)) rfl
  ·exact cnd_f (decide_eq_false (by omega)) (inl_of (decide_eq_true (by omega)))
 rw [decide_eq_true h1]
 have hstep:∀ i:Nat,i<m.To.length→((path_Check (m.To.getD i noP)).bind fun v10=>cond ((v10 != 0)) (some (.inl true)) (some (.inl (m.To.getD i noP).Null)):Option (Bool⊕(Int⊕(Unit⊕Bool))))=some (.inl (!rcB (m.To.getD i noP))):=by
  intro i hi
  refine bnd (check_eq _ (hs2 _ (memD noP hi))) ?_
  unfold rcB
  cases patB (m.To.getD i noP)
  ·rfl
  ·exact cnd_f rfl (inl_of (by simp))
 have hloop:=loop_all (f:=evS m) (R:=Bool) (fun i=>rcB (m.To.getD i noP)) m.To.length false (fuel:=BIG) (by simp only [BIG]; omega)
  (fun i hi hp=>by
   replace hp:rcB (m.To.getD i noP)=true:=hp
   have:=hstep i hi
   rw [hp] at this
   exact cnd_t (decide_eq_true (by omega)) (bnd (ixO_of hi) (bnd (getOD noP hi) (bndL this (cnd_f rfl (bnd (congrArg some (wrap_succ (n:=i) (by omega))) rfl))))))
  (fun i hi hp=>by
   replace hp:rcB (m.To.getD i noP)=false:=hp
   have:=hstep i hi
   rw [hp] at this
   exact cnd_t (decide_eq_true (by omega)) (bnd (ixO_of hi) (bnd (getOD noP hi) (bndL this (cnd_t rfl rfl)))))
  (cnd_f (decide_eq_false (by omega)) rfl)
 refine bndL (s:=false) (bnd (check_eq _ hs1) (cnd_f (by rw [hF]; rfl) (cnd_f (decide_eq_false (by omega)) (inl_of (decide_eq_false (by omega)))))) (cnd_f rfl ?_)
 by_cases ha:m.To.all rcB=true
 ·rw [if_pos ((all_getD noP rcB m.To).2 ha)] at hloop
  rw [ha]
  exact bndL hloop rfl
 ·rw [if_neg fun h=>ha ((all_getD noP rcB m.To).1 h)] at hloop
  rw [Bool.eq_false_iff.2 ha]
  exact bndR hloop rfl
def bodB (b:List Int):Bool:=decide (dots_Check b=some 0)
def maiB (m:T_Mail):Bool:=envB m&&(decide (m.Body.length≤4096)&&bodB m.Body)
theorem vm_exact {m:T_Mail} (h:LM m) (hb:byt m.Body):bundle_validMail m=some (maiB m):=by
 have hl:=(lm_small h).2.2.1
 unfold bundle_validMail maiB
 have he:=env_exact h
 generalize envB m=x at he ⊢
 cases x
 ·exact bndL (s:=false) (bnd he (cnd_f rfl rfl)) rfl
 by_cases h4:m.Body.length≤4096
 ·rw [decide_eq_true h4]
  unfold bodB
  rcases check_any hb (by omega) with hd | ⟨ls,a,c,d⟩
  ·exact bndL (s:=false) (bnd he (cnd_t rfl (cnd_t (decide_eq_true (by omega)) (bnd hd rfl)))) (by rw [hd]; rfl)
  ·have hd:dots_Check m.Body=some 0:=by rw [d]; exact check_ok a c (by rw [← jn_len,← d]; omega)
   exact bndL (s:=true) (bnd he (cnd_t rfl (cnd_t (decide_eq_true (by omega)) (bnd hd rfl)))) (by rw [hd]; rfl)
 ·rw [decide_eq_false h4]
  exact bndL (s:=false) (bnd he (cnd_t rfl (cnd_f (decide_eq_false (by omega)) rfl))) rfl
def plnB (m:T_Mail):Bool:=maiB m&&(!m.Quiet&&(decide (m.Helo=e0)&&decide (m.At=0)))
def bunB (b:T_Bundle):Bool:=decide ((b.Origin=0∨b.Origin=1)∧1≤b.Number∧b.Number≤65535)&&(decide (1≤b.Mails.length∧b.Mails.length≤4)&&b.Mails.all plnB)
def zM17:T_Mail:=T_Mail.mk noP [] [] false e0 0
theorem chk_exact {b:T_Bundle} (hm:∀ m∈b.Mails,LM m∧byt m.Body) (hl:b.Mails.length≤20):bundle_Check b=some (cond (bunB b) 0 5):=by
 unfold bundle_Check bunB
 have first:∀ {A:Type},(cond (b.Origin != 0) (cond (b.Origin != 1) (some (.inl true)) (cond (decide (b.Number<1)) (some (.inl true)) (some (.inl (decide (65535<b.Number)))))) (cond (decide (b.Number<1)) (some (.inl true)) (some (.inl (decide (65535<b.Number))))):Option (Bool⊕A))=some (.inl (!decide ((b.Origin=0∨b.Origin=1)∧1≤b.Number∧b.Number≤65535))):=by
  intro A
  have tail:(cond (decide (b.Number<1)) (some (.inl true)) (some (.inl (decide (65535<b.Number)))):Option (Bool⊕A))=some (.inl (!decide (1≤b.Number∧b.Number≤65535))):=by
   by_cases h:b.Number<1
   ·rw [decide_eq_false (p:=1≤b.Number∧b.Number≤65535) (by omega)]; exact cnd_t (decide_eq_true h) rfl
   ·refine cnd_f (decide_eq_false h) (inl_of ?_)
    by_cases h2:b.Number≤65535
    ·rw [decide_eq_true (p:=1≤b.Number∧b.Number≤65535) (by omega),decide_eq_false (by omega)]; rfl
    ·rw [decide_eq_false (p:=1≤b.Number∧b.Number≤65535) (by omega),decide_eq_true (by omega)]; rfl
  by_cases o:b.Origin=0∨b.Origin=1
  ·have e:decide ((b.Origin=0∨b.Origin=1)∧1≤b.Number∧b.Number≤65535)=decide (1≤b.Number∧b.Number≤65535):=decide_eq_decide.2 ⟨fun h=>h.2,fun h=>⟨o,h⟩⟩
   rw [e]
   rcases o with o | o
   ·exact cnd_f (by rw [o]; rfl) tail
   ·exact cnd_t (by rw [o]; rfl) (cnd_f (by rw [o]; rfl) tail)
  ·have o0:b.Origin≠0:=fun h=>o (.inl h)
   have o1:b.Origin≠1:=fun h=>o (.inr h)
   rw [decide_eq_false (p:=(b.Origin=0∨b.Origin=1)∧1≤b.Number∧b.Number≤65535) fun h=>o h.1]
   exact cnd_t (by simpa using o0) (cnd_t (by simpa using o1) rfl)
 by_cases nn:(b.Origin=0∨b.Origin=1)∧1≤b.Number∧b.Number≤65535
 case neg =>
  have f1:=first (A:=Int)
  rw [decide_eq_false nn] at f1 ⊢
  exact bndL f1 (cnd_t rfl rfl)
 have f1:=first (A:=Int)
 rw [decide_eq_true nn] at f1 ⊢
 refine bndL f1 (cnd_f rfl ?_)
 by_cases ml:1≤b.Mails.length∧b.Mails.length≤4
 case neg =>
  rw [decide_eq_false ml]
  refine bndL (s:=true) ?_ (cnd_t rfl rfl)
  by_cases h:b.Mails.length<1
  ·exact cnd_t (decide_eq_true (by omega)) rfl
  ·exact cnd_f (decide_eq_false (by omega)) (inl_of (decide_eq_true (by omega)))
 rw [decide_eq_true ml]
 refine bndL (s:=false) (cnd_f (decide_eq_false (by omega)) (inl_of (decide_eq_false (by omega)))) (cnd_f rfl ?_)
 have hstep:∀ i:Nat,i<b.Mails.length→((bundle_validMail (b.Mails.getD i zM17)).bind fun v14=>cond ((!v14)) (some (.inl true)) (cond ((b.Mails.getD i zM17).Quiet) (some (.inl true)) (cond ((!((b.Mails.getD i zM17).Helo.toList==(⟨#[]⟩:ByteArray).toList))) (some (.inl true)) (some (.inl ((b.Mails.getD i zM17).At != 0))))):Option (Bool⊕(Int⊕(Unit⊕Int))))=some (.inl (!plnB (b.Mails.getD i zM17))):=by
  intro i hi
  obtain ⟨h3,h4⟩:=hm _ (memD zM17 hi)
  refine bnd (vm_exact h3 h4) ?_
  unfold plnB
  cases maiB (b.Mails.getD i zM17)
  ·rfl
  cases (b.Mails.getD i zM17).Quiet
  case true=>rfl
  refine cnd_f rfl (cnd_f rfl ?_)
  rw [toList_beq]
  by_cases hh:(b.Mails.getD i zM17).Helo=e0
  ·have hh2:(b.Mails.getD i zM17).Helo=({ data := #[] }:ByteArray):=hh
   rw [decide_eq_true hh,decide_eq_true hh2]
   refine cnd_f rfl (inl_of ?_)
   by_cases ha:(b.Mails.getD i zM17).At=0
   ·rw [decide_eq_true ha,ha]; rfl
   ·rw [decide_eq_false ha,bne_iff_ne.2 ha]; rfl
  ·have hh2:¬ (b.Mails.getD i zM17).Helo=({ data := #[] }:ByteArray):=hh
   rw [decide_eq_false hh,decide_eq_false hh2]
   exact cnd_t rfl rfl
 have hloop:=loop_all (f:=bcS b) (R:=Int) (fun i=>plnB (b.Mails.getD i zM17)) b.Mails.length 5 (fuel:=BIG) (by simp only [BIG]; omega)
  (fun i hi hp=>by
   replace hp:plnB (b.Mails.getD i zM17)=true:=hp
   have:=hstep i hi
   rw [hp] at this
   exact cnd_t (decide_eq_true (by omega)) (bnd (ixO_of hi) (bnd (getOD zM17 hi) (bndL this (cnd_f rfl (bnd (congrArg some (wrap_succ (n:=i) (by omega))) rfl))))))
  (fun i hi hp=>by
   replace hp:plnB (b.Mails.getD i zM17)=false:=hp
   have:=hstep i hi
   rw [hp] at this
   exact cnd_t (decide_eq_true (by omega)) (bnd (ixO_of hi) (bnd (getOD zM17 hi) (bndL this (cnd_t rfl rfl)))))
  (cnd_f (decide_eq_false (by omega)) rfl)
 by_cases ha:b.Mails.all plnB=true
 ·rw [if_pos ((all_getD zM17 plnB b.Mails).2 ha)] at hloop
  rw [ha]
  exact bndL hloop rfl
 ·rw [if_neg fun h=>ha ((all_getD zM17 plnB b.Mails).1 h)] at hloop
  rw [Bool.eq_false_iff.2 ha]
  exact bndR hloop rfl
theorem pm_of {m:T_Mail} (hb:byt m.Body) (h:plnB m=true):Pm m∧(∀ p∈m.To,p.Null=false)∧1≤m.To.length:=by
 simp only [plnB,maiB,envB,Bool.and_eq_true,decide_eq_true_eq,Bool.not_eq_true',List.all_eq_true,rcB] at h
 obtain ⟨⟨⟨h1,h2,h3⟩,h4,h5⟩,h6,h7,h8⟩:=h
 have hbd:∃ ls,(∀ l∈ls,cln l)∧(∀ l∈ls,byt l)∧m.Body=jn ls:=by
  rcases check_any hb (by omega) with hd | hd
  ·unfold bodB at h5
   rw [hd] at h5
   exact absurd h5 (by decide)
  ·exact hd
 exact ⟨⟨h1,fun p hp=>(h3 p hp).1,h2.2,hbd,h4,h6,h7,h8⟩,fun p hp=>(h3 p hp).2,h2.1⟩
end Go.Abs.Sh
