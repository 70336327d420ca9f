import Derived.Test.YtckpeedhchjjnaaGreatDoorBH
namespace Go.Abs
set_option linter.unusedVariables false
inductive Wr (cs:List AV) (vs:List Value):List AV→List Value→Prop
 | n:Wr cs vs cs vs
 | s {cs':List AV} {vs':List Value} {k:Nat} {y v:Value} (h:Wr cs vs cs' vs') (hk:cs'[k]? = some (.v y)):Wr cs vs (cs'.set k (.v v)) (vs'.set k v)
theorem Wr.P {cs cs':List AV} {vs vs':List Value} (h:Wr cs vs cs' vs') {g:Gh} {V:bF→Value} {w:World} {o:List Nat} (hr:Rs g V w cs vs o):Rs g V w cs' vs' o:=by
 induction h with
 | n=>exact hr
 | @s cs' vs' k y v h hk ih =>
  have hi:k<cs'.length:=by
   rcases Nat.lt_or_ge k cs'.length with h | h
   ·exact h
   ·rw [List.getElem?_eq_none h] at hk; cases hk
  have hl:=aZ ih;obtain ⟨oa,om,oc,rfl,hA,hR,hC⟩:=ke k ih hi;have hg:cs'.getD k .any = .v y:=by rw [List.getD_eq_getElem?_getD,hk]; rfl
  rw [hg] at hR;simp only [R] at hR;obtain ⟨_,rfl⟩:=hR;refine nI k hi (by rw [List.length_set]; exact hl) (by rw [List.take_set_of_le (aq _)]; exact hA) ?_ (by rw [List.drop_set_of_lt (Nat.lt_succ_self _)]; exact hC);simp only [R];refine ⟨?_,trivial⟩;rw [List.getD_eq_getElem?_getD,List.getElem?_set_self (by rw [hl]; exact hi)];rfl
section
variable {P:Program} {Q:Exit→Act→World→Prop} {g0:Gh} {rnd:Option Nat}
variable {ty:TypeId} {pos:String} {aft:Array Edge} {gd:Option (Nat×Bool)}
end
section
variable {P:Program} {ty:TypeId} {pos:String} {aft:Array Edge} {gd:Option (Nat×Bool)}
theorem gJ (N:List aJ) (t d:Nat) {T:TypeId} {i k:Nat} {fs:Array Field} {f:Field} {td:TypeDesc} (cs:List AV) (av:AV) (hT:P.underlying T=some (.struct fs)) (hf:fs[k]? = some f) (ht:P.underlying f.type=some td) (ha:dn td=false) (hfi:f.offset=i) (hi:cs.getD i .any=av) (hlt:i<cs.length) (hcl:eh [.slot d] av=true) (hcs:cW [.slot d] (cs.set i .any)=true) (hdt:d≠t) (hnb:dM av=true) :
  bh P ⟨some d,.field T (.tmp t) k,ty,pos,aft,gd⟩ N [(t,.agg cs)] [(t,.agg (cs.set i .any)),(d,av)] [.slot d]:=by
 refine bh.core fun g V oN oT a w hd hp => ?_;have hT:=hp.esT;simp only [Es] at hT;obtain ⟨ob,o2,rfl,⟨hR,_⟩,rfl⟩:=hT;simp only [R] at hR;obtain ⟨xs,hx,hrs⟩:=hR;have hlen:=aZ hrs;obtain ⟨o1,o3,hperm,h1,h3⟩:=fu i hrs hlt;rw [hi] at h1;have hix:i<xs.length:=by omega
 have hrun:(execOp a.eval ⟨some d,.field T (.tmp t) k,ty,pos,aft,gd⟩).run P w = .ok (.value (xs.getD i undef)) w:=by
  have h4:a.eval (.tmp t) = .agg xs.toArray:=by simp only [Act.eval,← hp.val]; exact hx
  have h3:xs[i]? = some (xs.getD i undef):=by rw [List.getElem?_eq_getElem hix]; simp [List.getD,hix]
  subst hfi;generalize xs.getD f.offset undef=y at h3 ⊢;simp [execOp,h4,Instr.field,run_underlying hT,hf,asAgg,part,qQ ht,ha,h3]
 refine (Yl.val hrun).mono ?_;rintro y w' ⟨rfl,rfl⟩;have hlt2:d<g.n:=hd d rfl;have hnd:(o1++o3).Nodup:=hperm.nodup_iff.1 (by have:=(List.nodup_append.1 hp.nodup).2.1; simpa using this);have hmem:∀ b,b∈o3++o1→b∈ob:=fun b hb=>hperm.mem_iff.2 (by simp at hb ⊢; exact hb.symm);refine ⟨g,ck V d _,o3++o1,g.le_refl,fun b hb => .inl hb,fun b hb=>hp.imm b (.inl hb),dq.refl _ _,fun l hl=>bY hl,fun u=>cU hp.val hp.size hlt2 u,?_,(List.perm_append_comm.nodup_iff).1 hnd,?_⟩
 ·have hVt:ck V d (xs.getD i undef) (.slot t)=V (.slot t):=by simp only [ck]; rw [if_neg fun e=>hdt e.symm]
  refine ⟨o3,o1,rfl,⟨?_,trivial⟩,o1,[],by simp,⟨?_,?_⟩,rfl⟩
  ·show R g _ _ (.agg _) (ck V d _ (.slot t)) o3;rw [hVt];simp only [R];exact ⟨xs,hx,cq (W:=[.slot d]) (fun _ h=>h) (fun _ h=>h) (fun l hl=>bY hl) _ _ _ hcs (fun _ _=>rfl) h3⟩
  ·show R g _ _ av (ck V d _ (.slot d)) o1;rw [cC];exact fy (W:=[.slot d]) (fun _ h=>h) (fun _ h=>h) (fun l hl=>bY hl) av _ o1 hcl (fun _ _=>rfl) h1
  ·cases av <;> first | trivial | (simp [dM] at hnb)
 ·intro b hb;have:=hp.own b (by simp [hmem b hb]);exact ⟨.inl (by simp [hmem b hb]),this.1,this.2⟩
end
end Go.Abs
