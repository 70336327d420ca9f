import Derived.Test.YtglabbpbianmnaaGreatDoorBunD
namespace Go.Abs.Sh
set_option linter.unusedVariables false
set_option linter.unusedSimpArgs false
set_option maxRecDepth 10000
def evS (m:T_Mail):Int→Option (Int⊕(Unit⊕Bool)):=(fun (s24:Int) =>
      cond ((decide (s24<(m.To.length:Int))))
       ((ixO s24 m.To.length).bind fun v8 =>
       (getO m.To v8).bind fun v9 =>
       bindS (S:=Bool) (A:=((Int)⊕((Unit)⊕Bool)))
        ((path_Check v9).bind fun v10 =>
        cond ((v10 != 0))
         (some (.inl true))
         (some (.inl v9.Null)))
        (fun (s38:Bool) =>
         cond (s38)
          (some (.inr (.inr (false))))
          ((some (IntKind.i64.wrap (s24+1))).bind fun v16 =>
          some (.inl v16))) some)
       (some (.inr (.inl ()))))
theorem inl_of {A:Type} {a b:Bool} (h:a=b):(some (.inl a):Option (Bool⊕A))=some (.inl b):=by rw [h]
theorem env_eq {m:T_Mail} (h:LM m):∃ c,envelope_Valid m=some c∧(c=true→patB m.From=true∧∀ p∈m.To,patB p=true):=by
 obtain ⟨hs1,hs2,hs3,hs4⟩:=lm_small h
 unfold envelope_Valid
 cases hF:patB m.From
 ·exact ⟨false,bndL (s:=true) (bnd (check_eq _ hs1) (cnd_t (by rw [hF]; rfl) rfl)) (cnd_t rfl rfl),fun h=>by cases h⟩
 by_cases h1:m.To.length<1
 ·exact ⟨false,bndL (s:=true) (bnd (check_eq _ hs1) (cnd_f (by rw [hF]; rfl) (cnd_t (decide_eq_true (by omega)) rfl))) (cnd_t rfl rfl),fun h=>by cases h⟩
 by_cases h8:8<m.To.length
 ·exact ⟨false,bndL (s:=true) (bnd (check_eq _ hs1) (cnd_f (by rw [hF]; rfl) (cnd_f (decide_eq_false (by omega)) (inl_of (decide_eq_true (by omega)))))) (cnd_t rfl rfl),fun h=>by cases h⟩
 have step:∀ (i:Nat) (hi:i<m.To.length),(patB m.To[i] && !m.To[i].Null)=true→evS m (i:Int)=some (.inl ((i+1:Nat):Int)):=by
  intro i hi hp
  rw [Bool.and_eq_true] at hp
  exact cnd_t (decide_eq_true (by omega)) (bnd (ixO_of hi) (bnd (by simp [getO,hi]:getO m.To i=some m.To[i]) (bndL (s:=false) (bnd (check_eq _ (hs2 _ (List.getElem_mem hi))) (cnd_f (by rw [hp.1]; rfl) (inl_of (by simpa using hp.2)))) (cnd_f rfl (bnd (congrArg some (wrap_succ (n:=i) (by omega))) rfl)))))
 rcases first_fail (fun i=>decide (∀ hi:i<m.To.length,(patB m.To[i] && !m.To[i].Null)=true)) m.To.length with ha | ⟨k,hk,hb,hno⟩
 ·refine ⟨true,bndL (s:=false) (bnd (check_eq _ hs1) (cnd_f (by rw [hF]; rfl) (cnd_f (decide_eq_false (by omega)) (inl_of (decide_eq_false (by omega)))))) (cnd_f rfl (bndL (s:=()) (loop_from (f:=evS m) (fun i=>((i:Nat):Int)) m.To.length BIG rfl (by simp only [BIG]; omega) (fun i hi=>step i hi (of_decide_eq_true (ha i hi) hi)) (cnd_f (decide_eq_false (by omega)) rfl)) rfl)),fun _=>⟨rfl,fun p hp => ?_⟩⟩
  obtain ⟨i,hi,rfl⟩:=List.getElem_of_mem hp
  have:=of_decide_eq_true (ha i hi) hi
  rw [Bool.and_eq_true] at this
  exact this.1
 ·have hn:¬ (patB m.To[k] && !m.To[k].Null)=true:=fun h=>by
   have:=of_decide_eq_false hno
   exact this fun _=>h
  refine ⟨false,bndL (s:=false) (bnd (check_eq _ hs1) (cnd_f (by rw [hF]; rfl) (cnd_f (decide_eq_false (by omega)) (inl_of (decide_eq_false (by omega)))))) (cnd_f rfl (bndR (a:=false) (loop_from (f:=evS m) (fun i=>((i:Nat):Int)) k BIG rfl (by simp only [BIG]; omega) (fun i hi=>step i (by omega) (of_decide_eq_true (hb i hi) (by omega))) ?_) rfl)),fun h=>by cases h⟩
  refine cnd_t (decide_eq_true (by omega)) (bnd (ixO_of hk) (bnd (by simp [getO,hk]:getO m.To k=some m.To[k]) (bndL (s:=true) (bnd (check_eq _ (hs2 _ (List.getElem_mem hk))) ?_) (cnd_t rfl rfl))))
  cases hp:patB m.To[k]
  ·exact cnd_t rfl rfl
  ·refine cnd_f rfl (inl_of ?_)
   rw [hp] at hn
   cases hu:m.To[k].Null
   ·rw [hu] at hn; exact absurd rfl hn
   ·rfl
theorem vm_eq {m:T_Mail} (h:LM m) (hb:byt m.Body):∃ c,bundle_validMail m=some c∧(c=true→Vm m):=by
 obtain ⟨e,he,hev⟩:=env_eq h
 have hl:=(lm_small h).2.2.1
 unfold bundle_validMail
 cases e
 ·exact ⟨false,bndL (s:=false) (bnd he (cnd_f rfl rfl)) rfl,fun h=>by cases h⟩
 by_cases h4:m.Body.length≤4096
 ·rcases check_any hb (by omega) with hd | ⟨ls,a,c,d⟩
  ·exact ⟨false,bndL (s:=false) (bnd he (cnd_t rfl (cnd_t (decide_eq_true (by omega)) (bnd hd rfl)))) rfl,fun h=>by cases h⟩
  ·have hd:dots_Check m.Body=some 0:=by rw [d]; exact check_ok a c (by rw [← jn_len,← d]; omega)
   exact ⟨true,bndL (s:=true) (bnd he (cnd_t rfl (cnd_t (decide_eq_true (by omega)) (bnd hd rfl)))) rfl,fun _=>⟨h,(hev rfl).1,(hev rfl).2,ls,a,c,d⟩⟩
 ·exact ⟨false,bndL (s:=false) (bnd he (cnd_t rfl (cnd_f (decide_eq_false (by omega)) rfl))) rfl,fun h=>by cases h⟩
end Go.Abs.Sh
