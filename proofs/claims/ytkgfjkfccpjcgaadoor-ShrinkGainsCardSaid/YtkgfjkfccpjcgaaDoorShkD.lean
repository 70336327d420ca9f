import Derived.Test.YtkgfjkfccpjcgaaDoorShkC
import Derived.Test.YtkgfjkfccpjcgaaDoorTrxS
import Derived.KernelRfl
namespace Go.Abs.Sh
set_option linter.unusedVariables false
set_option linter.unusedSimpArgs false
set_option maxRecDepth 100000
def trS (l:List Int) (least:Int):((Int))→Option ((Int)⊕((Int)⊕(List Int))):=(fun (s46:Int) =>
 bindS (S:=Bool) (A:=((Int)⊕((Int)⊕(List Int))))
  (cond ((decide (least<s46)))
   ((some (IntKind.i64.wrap (s46-1))).bind fun v1 =>
   (ixO v1 l.length).bind fun v2 =>
   (getO l v2).bind fun v3 =>
   some (.inl (v3==0)))
   (some (.inl false)))
  (fun (s59:Bool) =>
   cond (s59)
    ((some (IntKind.i64.wrap (s46-1))).bind fun v9 =>
    some (.inl v9))
    (some (.inr (.inl s46)))) some)
/-! Trees. -/
def trN (w:List Nat) (lim:Nat):List Nat:=match tree_Lengths (ints w) (lim:Int) with
 | some (m,_)=>m.map Int.toNat
 | none=>[]
theorem tree_cd {w:List Nat} {lim:Nat} (hl:w.length≤300) (hb:∀ x∈w,x≤1000000) (hL:okL (ints w) (lim:Int)) :
  tree_Lengths (ints w) (lim:Int)=some (ints (trN w lim),0)∧Cd (trN w lim)∧(trN w lim).length=w.length∧(∀ j,j<w.length→(0<(trN w lim).getD j 0↔0<w.getD j 0))∧∀ x∈trN w lim,x≤lim:=by
 have hok:okW (ints w):=⟨by rw [ints_len]; exact hl,fun i hi=>by
  rw [ints_len] at hi
  rw [ints_D,List.getD_eq_getElem?_getD,List.getElem?_eq_getElem hi,Option.getD_some]
  have:=hb _ (List.getElem_mem hi)
  omega⟩
 obtain ⟨J,hJ,hno,hyes,hle⟩:=lengths_eq hok hL
 have hlim:(lim:Int)≤15:=hL.2
 have hwJ:=hvN_ok hok J
 have hchk:=dep_check hwJ hyes hlim
 have hdl:(dep (hvN (ints w) J)).length=w.length:=by rw [dep_len,hvN_len,ints_len]
 have hdp:∀ j,j<w.length→(0<(dep (hvN (ints w) J)).getD j 0↔0<w.getD j 0):=by
  intro j hj
  have h1:=hvN_iff hok J j (by rw [ints_len]; exact hj)
  rw [ints_D] at h1
  rw [show (0<w.getD j 0↔0<(hvN (ints w) J).getD j 0) from ⟨fun h=>h1.2 (by omega),fun h=>by have:=h1.1 h; omega⟩]
  constructor
  ·intro h
   by_cases hz:0<(hvN (ints w) J).getD j 0
   ·exact hz
   ·rw [dep_zero hz] at h; omega
  ·exact fun h=>dep_pos (by rw [hvN_len,ints_len]; exact hj) h
 have hdf:∀ j,j<w.length→(dep (hvN (ints w) J)).getD j 0≤(lim:Int):=fun j hj=>hyes j (by rw [hvN_len,ints_len]; exact hj)
 have etr:trN w lim=(dep (hvN (ints w) J)).map Int.toNat:=by unfold trN; rw [hle]
 have h15:∀ x∈dep (hvN (ints w) J),0≤x:=fun x hx=>by
  obtain ⟨k,hk,rfl⟩:=mem_getD hx
  exact dep_nn (w:=hvN (ints w) J) k
 have hd:ints (trN w lim)=dep (hvN (ints w) J):=by rw [etr]; exact ints_nats h15
 have hln:(trN w lim).length=w.length:=by rw [etr,List.length_map,hdl]
 have hle2:∀ x∈trN w lim,x≤lim:=fun x hx=>by
  obtain ⟨k,hk,rfl⟩:=List.getElem_of_mem hx
  have h1:=hdf k (by omega)
  rw [← hd,ints_D,List.getD_eq_getElem?_getD,List.getElem?_eq_getElem hk,Option.getD_some] at h1
  omega
 rw [← hd] at hchk hdp hle
 refine ⟨hle,⟨by omega,fun x hx=>by have:=hle2 x hx; omega,?_⟩,hln,fun j hj => ?_,hle2⟩
 ·rw [check_ints _ (by omega)] at hchk
  have h2:=Option.some.inj hchk
  split at h2
  ·split at h2
   ·assumption
   ·cases h2
  ·cases h2
 ·have:=hdp j hj
  rw [ints_D] at this
  exact ⟨fun h=>this.1 (by omega),fun h=>by have:=this.2 h; omega⟩
/-! Without the noughts at the end. -/
def trm (l:List Nat) (least:Nat):Nat→Nat
 | 0=>0
 | s+1=>if least<s+1∧l.getD s 0=0 then trm l least s else s+1
theorem trm_le (l:List Nat) (least:Nat):∀ s,trm l least s≤s
 | 0=>Nat.le_refl _
 | s+1=>by
  unfold trm
  split
  ·have:=trm_le l least s; omega
  ·exact Nat.le_refl _
theorem trm_ge (l:List Nat) (least:Nat):∀ s,least≤s→least≤trm l least s
 | 0,h=>h
 | s+1,h=>by
  unfold trm
  split
  ·rename_i hc; exact trm_ge l least s (by omega)
  ·exact h
theorem trm_zero (l:List Nat) (least:Nat):∀ s j,trm l least s≤j→j<s→l.getD j 0=0
 | 0,j,_,h=>by omega
 | s+1,j,h1,h2=>by
  unfold trm at h1
  split at h1
  ·rename_i hc
   by_cases hj:j=s
   ·rw [hj]; exact hc.2
   ·exact trm_zero l least s j h1 (by omega)
  ·omega
theorem tr_loop {l:List Nat} (hl:l.length≤1000) (least:Nat):∀ (s fuel:Nat),s≤l.length→s<fuel→loopF (trS (ints l) (least:Int)) fuel (s:Int)=some (.inl ((trm l least s:Nat):Int))
 | 0,fuel,hs,hf=>by
  obtain ⟨fu,rfl⟩:∃ fu,fuel=fu+1:=⟨fuel-1,by omega⟩
  exact loop_exit (bndL (s:=false) (cnd_f (decide_eq_false (by omega)) rfl) (cnd_f rfl rfl))
 | s+1,fuel,hs,hf=>by
  obtain ⟨fu,rfl⟩:∃ fu,fuel=fu+1:=⟨fuel-1,by omega⟩
  have hw:IntKind.i64.wrap (((s+1:Nat):Int)-1)=((s:Nat):Int):=by rw [wrap_i64 (by omega) (by omega)]; omega
  obtain ⟨i1,i2⟩:=inc_ix (a:=l) (s:=s) rfl (by omega)
  unfold trm
  by_cases h1:least<s+1
  ·by_cases h2:l.getD s 0=0
   ·rw [if_pos ⟨h1,h2⟩]
    exact (loop_next (bndL (s:=true) (cnd_t (decide_eq_true (by omega)) (bnd (congrArg some hw) (bnd i1 (bnd i2 (by rw [h2]; rfl))))) (cnd_t rfl (bnd (congrArg some hw) rfl)))).trans (tr_loop hl least s fu (by omega) (by omega))
   ·rw [if_neg (fun h=>h2 h.2)]
    have hne:(((l.getD s 0:Nat):Int)==0)=false:=beq_eq_false_iff_ne.2 (by omega)
    exact loop_exit (bndL (s:=false) (cnd_t (decide_eq_true (by omega)) (bnd (congrArg some hw) (bnd i1 (bnd i2 (by rw [hne]))))) (cnd_f rfl rfl))
  ·rw [if_neg (fun h=>h1 h.1)]
   exact loop_exit (bndL (s:=false) (cnd_f (decide_eq_false (by omega)) rfl) (cnd_f rfl rfl))
def tmN (l:List Nat) (least:Nat):List Nat:=l.take (trm l least l.length)
theorem trim_eq {l:List Nat} (hl:l.length≤1000) (least:Nat):shrink_trim_ro (ints l) (least:Int)=some (ints (tmN l least)):=by
 have hlp:loopF (trS (ints l) (least:Int)) BIG ((ints l).length:Int)=some (.inl ((trm l least l.length:Nat):Int)):=by rw [ints_len]; exact tr_loop hl least l.length BIG (Nat.le_refl _) (by simp only [BIG]; omega)
 have hle:=trm_le l least l.length
 unfold shrink_trim_ro
 refine bndL hlp (bnd (x:=ints (tmN l least)) ?_ rfl)
 have:=sli_nat (ints l) (a:=0) (b:=trm l least l.length) (by omega) (by rw [ints_len]; exact hle)
 rw [show ((0:Nat):Int)=0 from rfl] at this
 rw [this,List.drop_zero,Nat.sub_zero]
 simp [ints,tmN,List.map_take]
end Go.Abs.Sh
