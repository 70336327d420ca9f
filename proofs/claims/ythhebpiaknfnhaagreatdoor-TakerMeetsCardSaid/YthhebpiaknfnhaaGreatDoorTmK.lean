import Derived.Test.YthhebpiaknfnhaaGreatDoorTmP
import Derived.KernelRfl
namespace Go.Abs.Sh
set_option linter.unusedVariables false
set_option linter.unusedSimpArgs false
set_option maxRecDepth 10000
theorem hello_check {num tot:Int} (h1:1≤num) (h2:num≤65535) (h3:0≤tot) (h4:tot≤5000):frame_Check (T_Frame.mk 1 num tot 0 [])=some 0:=by
 unfold frame_Check
 refine bndL (s:=true) (cnd_t (decide_eq_true h3) (inl_of (decide_eq_true h4))) (bndL (s:=true) rfl (bndL (s:=true) (bndL (s:=true) (bndL (s:=true) rfl (cnd_t rfl rfl)) rfl) ?_))
 exact bndL (s:=false) (cnd_f rfl (cnd_f (decide_eq_false (by dsimp only; omega)) (inl_of (decide_eq_false (by dsimp only; omega))))) (cnd_f rfl rfl)
def farI (s:T_Spool) (num:Int):Int:=if s.Of=num then (s.Part.length:Int) else 0
theorem far_eq (s:T_Spool) (num:Int):taker_Far s num=some (farI s num):=by
 unfold taker_Far farI
 by_cases h:s.Of=num
 ·rw [if_pos h]; exact cnd_f (by rw [h]; simp) rfl
 ·rw [if_neg h]; exact cnd_t (by simpa using h) rfl
theorem hear_hello (s:T_Spool) (t:T_Take) {num tot:Int} (h1:1≤num) (h2:num≤65535) (h3:0≤tot) (h4:tot≤5000) (hn:num ∉ s.Done) (hl:s.Done.length<1000000) :
  taker_Hear_sh s t (T_Frame.mk 1 num tot 0 [])=some (if tot=0∨tot<farI s num then (T_Take.mk false 0 0,[],[],11) else (T_Take.mk true num tot,[],[T_Frame.mk 2 num (farI s num) 0 []],0)):=by
 unfold taker_Hear_sh
 refine bnd (hello_check h1 h2 h3 h4) (cnd_f rfl ?_)
 have hh:taker_hear_sh s t (T_Frame.mk 1 num tot 0 [])=some (if tot=0∨tot<farI s num then (T_taker_result.mk (T_Take.mk false 0 0) [] [],11) else (T_taker_result.mk (T_Take.mk true num tot) [] [T_Frame.mk 2 num (farI s num) 0 []],0)):=by
  unfold taker_hear_sh
  refine bndL (s:=false) rfl (cnd_f rfl (bnd (contains_eq _ _ (by omega)) (cnd_f (decide_eq_false hn) (cnd_t rfl (bnd (far_eq s num) ?_)))))
  by_cases h0:tot=0
  ·rw [if_pos (.inl h0)]
   exact bnd (x:=(T_taker_result.mk (T_Take.mk false 0 0) [] [],11)) (bndL (s:=true) (cnd_t (beq_iff_eq.2 h0) rfl) (cnd_t rfl rfl)) rfl
  ·by_cases hlt:tot<farI s num
   ·rw [if_pos (.inr hlt)]
    exact bnd (x:=(T_taker_result.mk (T_Take.mk false 0 0) [] [],11)) (bndL (s:=true) (cnd_f (beq_eq_false_iff_ne.2 h0) (inl_of (decide_eq_true hlt))) (cnd_t rfl rfl)) rfl
   ·rw [if_neg (fun h=>h.elim h0 hlt)]
    exact bnd (x:=(T_taker_result.mk (T_Take.mk true num tot) [] [T_Frame.mk 2 num (farI s num) 0 []],0)) (bndL (s:=false) (cnd_f (beq_eq_false_iff_ne.2 h0) (inl_of (decide_eq_false hlt))) (cnd_f rfl (bnd rfl rfl))) rfl
 refine bnd hh ?_
 by_cases hc:tot=0∨tot<farI s num
 ·rw [if_pos hc,if_pos hc]; exact cnd_t rfl rfl
 ·rw [if_neg hc,if_neg hc]; exact cnd_f rfl rfl
theorem ack_eq (num:Int) (k:Nat):taker_ack num (k:Int)=some (T_Frame.mk 4 num 0 ((k % 8:Nat):Int) []):=by
 unfold taker_ack
 exact bnd (rem_nat k 8 (by omega)) rfl
end Go.Abs.Sh
