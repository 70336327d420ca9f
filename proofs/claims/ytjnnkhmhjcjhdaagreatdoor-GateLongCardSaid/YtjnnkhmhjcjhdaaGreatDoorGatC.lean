import Derived.Test.YtjnnkhmhjcjhdaaGreatDoorGatB
namespace Go.Abs.Sh
set_option linter.unusedVariables false
set_option linter.unusedSimpArgs false
set_option maxRecDepth 100000
theorem u8_ofC {c:Int} (h:wfI .u8 c):0≤c∧c<256:=by
 simp only [wfI,Lit.wf,IntKind.min,IntKind.max,IntKind.signed,IntKind.bits] at h
 have h2:0≤c∧c≤255:=by simpa using h
 omega
theorem gateLong_true (n c:Int) (hc:wfI .u8 c):wherrylaw23_GateLong n c=some true:=by
 have hb:=u8_ofC hc
 unfold wherrylaw23_GateLong
 obtain ⟨_,q,hq,hr⟩:=u64_n n 1200 (by decide) (by decide)
 refine bnd rfl (bnd hr (bnd (some_wrap (by omega) (by omega)) ?_))
 by_cases h13:c=13
 ·exact bndL (s:=true) (cnd_t (beq_iff_eq.2 h13) rfl) (cnd_t rfl rfl)
 by_cases h10:c=10
 ·exact bndL (s:=true) (cnd_f (beq_eq_false_iff_ne.2 h13) (by rw [beq_iff_eq.2 h10])) (cnd_t rfl rfl)
 refine bndL (s:=false) (cnd_f (beq_eq_false_iff_ne.2 h13) (by rw [beq_eq_false_iff_ne.2 h10])) (cnd_f rfl ?_)
 refine bndL (s:=List.replicate q c) (loop_from (fun i=>(List.replicate i c,(i:Int))) q _ rfl (by simp only [BIG]; omega) (fun i hi => ?_) (cnd_f (decide_eq_false (by omega)) rfl)) ?_
 ·refine cnd_t (decide_eq_true (by omega)) (bnd (app_of (k:=1) (l:=List.replicate i c) (m:=[c]) (by simp; omega) (by simp; omega)) (bnd (some_wrap (by omega) (by omega)) ?_))
  show some (Sum.inl (List.replicate i c++[c],(i:Int)+1))=some (Sum.inl (List.replicate (i+1) c,((i+1:Nat):Int)))
  rw [List.replicate_succ']; rfl
 refine bnd (x:=cfG) rfl (bnd (x:=g0G) rfl (bnd (long_feed hb h13 h10 q hq) ?_))
 have l1:((List.replicate (q / 513) (rpG 500)).length:Int)=((q / 513:Nat):Int):=by rw [List.length_replicate]
 have l2:((List.replicate (q % 513) c).length:Int)=((q % 513:Nat):Int):=by rw [List.length_replicate]
 have hm:q % 513<513:=Nat.mod_lt _ (by decide)
 have hd:q / 513<1200:=Nat.lt_of_le_of_lt (Nat.div_le_self _ _) hq
 refine bndL (s:=false) (cnd_f rfl (bnd (quo_nat q 513 (by decide) (by omega)) (cnd_f (by rw [bne_eq_false_iff_eq]; exact l1) (bnd (rem_nat q 513 (by decide)) ?_)))) (cnd_f rfl ?_)
 ·show some (Sum.inl (((List.replicate (q % 513) c).length:Int) != ((q % 513:Nat):Int)))=some (Sum.inl false)
  rw [l2,bne_self_eq_false]
 refine bndL (s:=()) (loop_from (fun i=>(i:Int)) (q / 513) _ rfl (by simp only [BIG]; omega) (fun i hi => ?_) (cnd_f (decide_eq_false (by show ¬ ((q / 513:Nat):Int)<((List.replicate (q / 513) (rpG 500)).length:Int); omega)) rfl)) ?_
 ·have hi':i<(List.replicate (q / 513) (rpG 500)).length:=by rw [List.length_replicate]; exact hi
  refine cnd_t (decide_eq_true (by show (i:Int)<((List.replicate (q / 513) (rpG 500)).length:Int); omega)) (bnd (ixO_of hi') (bnd (getO_of hi') (cnd_f ?_ (bnd (some_wrap (by omega) (by omega)) rfl))))
  rw [List.getElem_replicate]; rfl
 by_cases h5:q % 513=512
 ·exact cnd_t (beq_iff_eq.2 (by show ((List.replicate (q % 513) c).length:Int)=512; omega)) (bnd wakes23 rfl)
 ·exact cnd_f (beq_eq_false_iff_ne.2 (by show ((List.replicate (q % 513) c).length:Int)≠512; omega)) (bnd (x:=cfG) rfl (bnd (end_feed hb h13 h10 (q % 513) (by omega)) (bndL (s:=true) (cnd_t rfl (cnd_t rfl (bnd (x:=1) rfl (bnd (x:=rpG 250) rfl (cnd_t rfl (bnd wakes23 rfl)))))) rfl)))
end Go.Abs.Sh
