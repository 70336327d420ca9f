import Derived.Test.YtkgfjkfccpjcgaaDoorBH
namespace Go.Abs
set_option linter.unusedVariables false
inductive Wr (cs:List AV) (vs:List Value):List AV→List Value→Prop
 | n:Wr cs vs cs vs
 | s {cs':List AV} {vs':List Value} {k:Nat} {y v:Value} (h:Wr cs vs cs' vs') (hk:cs'[k]? = some (.v y)):Wr cs vs (cs'.set k (.v v)) (vs'.set k v)
theorem Wr.P {cs cs':List AV} {vs vs':List Value} (h:Wr cs vs cs' vs') {g:Gh} {V:bH→Value} {w:World} {o:List Nat} (hr:Rs g V w cs vs o):Rs g V w cs' vs' o:=by
 induction h with
 | n=>exact hr
 | @s cs' vs' k y v h hk ih =>
  have hi:k<cs'.length:=by
   rcases Nat.lt_or_ge k cs'.length with h | h
   ·exact h
   ·rw [List.getElem?_eq_none h] at hk; cases hk
  have hl:=aU ih
  obtain ⟨oa,om,oc,rfl,hA,hR,hC⟩:=kA k ih hi
  have hg:cs'.getD k .any = .v y:=by rw [List.getD_eq_getElem?_getD,hk]; rfl
  rw [hg] at hR
  simp only [R] at hR
  obtain ⟨_,rfl⟩:=hR
  refine oS k hi (by rw [List.length_set]; exact hl) (by rw [List.take_set_of_le (Nat.le_refl _)]; exact hA) ?_ (by rw [List.drop_set_of_lt (Nat.lt_succ_self _)]; exact hC)
  simp only [R]
  refine ⟨?_,trivial⟩
  rw [List.getD_eq_getElem?_getD,List.getElem?_set_self (by rw [hl]; exact hi)]
  rfl
section
variable {P:Program} {Q:Exit→Act→World→Prop} {g0:Gh} {rnd:Option Nat}
variable {ty:TypeId} {pos:String} {aft:Array Edge} {gd:Option (Nat×Bool)}
end
theorem Dt {g:Gh} {V:bH→Value} {w:World}:∀ (xs:List Value),Rs g V w (List.replicate xs.length .any) xs []
 | []=>by simp [Rs]
 | x::xs=>by
  simp only [List.length_cons,List.replicate_succ,Rs]
  exact ⟨x,xs,[],[],rfl,rfl,by simp [R],Dt xs⟩
section
variable {P:Program} {ty:TypeId} {pos:String} {aft:Array Edge} {gd:Option (Nat×Bool)}
theorem eD (N:List aJ) (d t:Nat) {T T':TypeId} {td:TypeDesc} (x:Operand) {cs ds:List AV} (hT:P.underlying T=some td) (ha:cY td=true) (hs:(P.info? T).map (·.size)=some cs.length) (hx:bj (N++[(t,.box T' cs)]) x = .ptr t 0) (hcl:dz [.slot d] cs=true) (hdt:d≠t) (hds:List.replicate cs.length .any=ds) :
  bm P ⟨some d,.load T x,ty,pos,aft,gd⟩ N [(t,.box T' cs)] [(t,.box T' ds),(d,.agg cs)] [.slot d]:=by
 subst hds
 refine bm.core fun g V oN oT a w hd hp => ?_
 have hT':=hp.esT
 simp only [Es] at hT'
 obtain ⟨ob,o2,rfl,⟨hR,htie⟩,rfl⟩:=hT'
 have hax:=bM hp.val (aZ.2 ⟨oN,_,rfl,hp.esN,hp.esT⟩) x
 rw [hx] at hax
 simp only [R] at hax hR
 obtain ⟨b,xs,os,h1,rfl,hh,hrs⟩:=hR
 obtain ⟨b2,h2,h3,_⟩:=hax
 rw [h1] at h2; cases h2
 have hlen:=aU hrs
 have hload:=fo (P:=P) (w:=w) (a:=⟨b,0,none⟩) (xs:=xs) hT ha hs hlen (fun j v hj=>by rw [dv,cell_of_row w b _ _ T' (0,0) hh]; simpa using hj)
 have hrun:(execOp a.eval ⟨some d,.load T x,ty,pos,aft,gd⟩).run P w = .ok (.value (.agg xs.toArray)) w:=by simp [execOp,Instr.loadAt,h3,Instr.sureAddr,hload]
 refine (Yl.val hrun).mono ?_
 rintro y w' ⟨rfl,rfl⟩
 have hlt:d<g.n:=hd d rfl
 have hVt:cI V d (.agg xs.toArray) (.slot t)=V (.slot t):=by simp only [cI]; rw [if_neg fun e=>hdt e.symm]
 refine ⟨g,cI V d (.agg xs.toArray),[b]++os,g.le_refl,fun b hb => .inl hb,fun b hb=>hp.imm b (.inl hb),ep.refl _ _,fun l hl=>cB hl,fun u=>dK hp.val hp.size hlt u,?_,?_,?_⟩
 ·refine ⟨[b],os,rfl,⟨?_,?_⟩,os,[],by simp,⟨?_,trivial⟩,rfl⟩
  ·show R g _ _ (.box T' _) (cI V d _ (.slot t)) _
   rw [hVt]
   simp only [R]
   exact ⟨b,xs,[],h1,rfl,hh,hlen ▸ Dt xs⟩
  ·intro b' hb' j hj
   rw [hVt] at hb'
   exact htie b' hb' j (by simpa using hj)
  ·show R g _ _ (.agg cs) (cI V d _ (.slot d)) os
   rw [de]
   simp only [R]
   exact ⟨xs,rfl,cQ (W:=[.slot d]) (fun _ h=>h) (fun _ h=>h) (fun l hl=>cB hl) _ _ _ hcl (fun _ _=>rfl) hrs⟩
 ·have:=(List.nodup_append.1 hp.nodup).2.1
  simpa using this
 ·intro c hc
  have hc:c∈b::os:=by simpa using hc
  have:=hp.own c (by simp at hc ⊢; exact .inr hc)
  exact ⟨.inl (by simpa using hc),this.1,this.2⟩
theorem jW (N:List aJ) (t d:Nat) {T:TypeId} {i k:Nat} {fs:Array Field} {f:Field} {td:TypeDesc} (cs:List AV) (av:AV) (hT:P.underlying T=some (.struct fs)) (hf:fs[k]? = some f) (ht:P.underlying f.type=some td) (ha:cY td=false) (hfi:f.offset=i) (hi:cs.getD i .any=av) (hlt:i<cs.length) (hcl:eO [.slot d] av=true) (hcs:dz [.slot d] (cs.set i .any)=true) (hdt:d≠t) (hnb:eu av=true) :
  bm P ⟨some d,.field T (.tmp t) k,ty,pos,aft,gd⟩ N [(t,.agg cs)] [(t,.agg (cs.set i .any)),(d,av)] [.slot d]:=by
 refine bm.core fun g V oN oT a w hd hp => ?_
 have hT:=hp.esT
 simp only [Es] at hT
 obtain ⟨ob,o2,rfl,⟨hR,_⟩,rfl⟩:=hT
 simp only [R] at hR
 obtain ⟨xs,hx,hrs⟩:=hR
 have hlen:=aU hrs
 obtain ⟨o1,o3,hperm,h1,h3⟩:=im i hrs hlt
 rw [hi] at h1
 have hix:i<xs.length:=by omega
 have hrun:(execOp a.eval ⟨some d,.field T (.tmp t) k,ty,pos,aft,gd⟩).run P w = .ok (.value (xs.getD i undef)) w:=by
  have h4:a.eval (.tmp t) = .agg xs.toArray:=by simp only [Act.eval,← hp.val]; exact hx
  have h3:xs[i]? = some (xs.getD i undef):=by rw [List.getElem?_eq_getElem hix]; simp [List.getD,hix]
  subst hfi
  generalize xs.getD f.offset undef=y at h3 ⊢
  simp [execOp,h4,Instr.field,run_underlying hT,hf,asAgg,part,mu ht,ha,h3]
 refine (Yl.val hrun).mono ?_
 rintro y w' ⟨rfl,rfl⟩
 have hlt2:d<g.n:=hd d rfl
 have hnd:(o1++o3).Nodup:=hperm.nodup_iff.1 (by have:=(List.nodup_append.1 hp.nodup).2.1; simpa using this)
 have hmem:∀ b,b∈o3++o1→b∈ob:=fun b hb=>hperm.mem_iff.2 (by simp at hb ⊢; exact hb.symm)
 refine ⟨g,cI V d _,o3++o1,g.le_refl,fun b hb => .inl hb,fun b hb=>hp.imm b (.inl hb),ep.refl _ _,fun l hl=>cB hl,fun u=>dK hp.val hp.size hlt2 u,?_,(List.perm_append_comm.nodup_iff).1 hnd,?_⟩
 ·have hVt:cI V d (xs.getD i undef) (.slot t)=V (.slot t):=by simp only [cI]; rw [if_neg fun e=>hdt e.symm]
  refine ⟨o3,o1,rfl,⟨?_,trivial⟩,o1,[],by simp,⟨?_,?_⟩,rfl⟩
  ·show R g _ _ (.agg _) (cI V d _ (.slot t)) o3
   rw [hVt]
   simp only [R]
   exact ⟨xs,hx,cQ (W:=[.slot d]) (fun _ h=>h) (fun _ h=>h) (fun l hl=>cB hl) _ _ _ hcs (fun _ _=>rfl) h3⟩
  ·show R g _ _ av (cI V d _ (.slot d)) o1
   rw [de]
   exact fE (W:=[.slot d]) (fun _ h=>h) (fun _ h=>h) (fun l hl=>cB hl) av _ o1 hcl (fun _ _=>rfl) h1
  ·cases av <;> first | trivial | (simp [eu] at hnb)
 ·intro b hb
  have:=hp.own b (by simp [hmem b hb])
  exact ⟨.inl (by simp [hmem b hb]),this.1,this.2⟩
end
end Go.Abs
