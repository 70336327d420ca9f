import Derived.Test.YthceldoojddpiaaDoorAN
namespace Go.Abs
set_option linter.unusedVariables false
section
variable {P:Program} {ty:TypeId} {pos:String} {aft:Array Edge} {gd:Option (Nat×Bool)}
theorem op_nilCheck_ob (N:List Ent) (d t n:Nat) {T:TypeId} {p:Bool} {cs cs':List AV} {W:List Loc} (hpt:p=true) (hcs:cs=cs') (hn:cs'.length=n) (hdt:d≠t) (hcl:clrs (.slot d::cellsW t 0 n) cs'=true) (hW : .slot d::cellsW t 0 n=W) :
  LOp P ⟨some d,.nilCheck (.tmp t),ty,pos,aft,gd⟩ N [(t,.obox p T cs)] [(t,.box T cs'),(d,.ptr t 0)] W:=by
 subst hpt hcs hW hn
 refine LOp.core fun g V oN oT a w hd hp => ?_
 have hT:=hp.esT
 simp only [Es] at hT
 obtain ⟨o1,o2,rfl,⟨hR,_⟩,rfl⟩:=hT
 dsimp only at hR
 simp only [R] at hR
 obtain ⟨b,xs,os,hx,rfl,hh,hrs⟩:=hR.1 trivial
 have hl:=Rs_length hrs
 have hev:a.eval (.tmp t) = .pointer (some ⟨b,0,none⟩):=by rw [← hx,hp.val]; rfl
 have hr:(execOp a.eval ⟨some d,.nilCheck (.tmp t),ty,pos,aft,gd⟩).run P w = .ok (.value (.pointer (some ⟨b,0,none⟩))) w:=by
  simp [execOp,hev]
 refine (Yl.val hr).mono ?_
 rintro y w' ⟨rfl,rfl⟩
 have hlt:d<g.n:=hd d rfl
 have hV':∀ l,hit (.slot d::cellsW t 0 cs.length) l=false→setC (setV V d (.pointer (some ⟨b,0,none⟩))) t 0 xs l=V l:=by
  intro l hl'
  have h1:hit [.slot d] l=false:=by
   simp only [hit,List.any_cons,List.any_nil,Bool.or_false,Bool.or_eq_false_iff] at hl' ⊢
   exact hl'.1
  have h2:hit (cellsW t 0 xs.length) l=false:=by
   rw [hl]
   simp only [hit,List.any_cons,Bool.or_eq_false_iff] at hl' ⊢
   exact hl'.2
  rw [setC_hit h2,setV_hit h1]
 have hslot:∀ u,setC (setV V d (.pointer (some ⟨b,0,none⟩))) t 0 xs (.slot u)=setV V d (.pointer (some ⟨b,0,none⟩)) (.slot u):=fun u=>rfl
 have hVt:setV V d (.pointer (some ⟨b,0,none⟩)) (.slot t)=V (.slot t):=by simp only [setV]; rw [if_neg fun e=>hdt e.symm]
 refine ⟨g,setC (setV V d (.pointer (some ⟨b,0,none⟩))) t 0 xs,b::os,g.le_refl,fun c hc => .inl hc,fun c hc=>hp.imm c (.inl hc),Chg.refl _ _,hV',fun u=>by rw [hslot]; exact setV_val hp.val hp.size hlt u,?_,?_,?_⟩
 ·refine ⟨b::os,[],by simp,⟨?_,?_⟩,[],[],rfl,⟨?_,trivial⟩,rfl⟩
  ·show R g _ _ (.box T cs) (setC _ t 0 xs (.slot t)) _
   rw [hslot,hVt]
   simp only [R]
   exact ⟨b,xs,os,hx,rfl,hh,Rs_stab (W := .slot d::cellsW t 0 cs.length) (fun _ h=>h) (fun _ h=>h) hV' cs xs os hcl (fun _ _=>rfl) hrs⟩
  ·intro b' hb' i hi
   rw [hslot,hVt,hx] at hb'
   cases hb'
   rw [cell_of_row _ b i _ T (0,0) hh]
   simp only [List.getElem?_toArray,setC,true_and,Nat.zero_le,Nat.zero_add,Nat.sub_zero]
   have:i<xs.length:=by rw [hl]; exact hi
   rw [if_pos this]
   simp [List.getD_eq_getElem?_getD,List.getElem?_eq_getElem this]
  ·show R g _ _ (.ptr t 0) (setC _ t 0 xs (.slot d)) _
   rw [hslot,setV_slot]
   simp only [R]
   exact ⟨b,by rw [hslot,hVt]; exact hx,rfl,trivial⟩
 ·have:=(List.nodup_append.1 hp.nodup).2.1
  simpa using this
 ·intro c hc
  have h4:=hp.own c (by simp at hc ⊢; exact .inr hc)
  exact ⟨.inl (by simpa using hc),h4.1,h4.2⟩
theorem op_assign_cell (N:List Ent) (d t i:Nat) {x:Operand} {T' e:TypeId} {z:Nat} {xs:List Value} {cs cs':List AV} (hx:dupOp N x = .same (.cell t i)) (hc:cs.getD i .any = .fl (.own e) z xs) (hic:i<cs.length) (hcs:cs.set i .any=cs') (hdt:d≠t) (hcl:clrs [.slot d] cs'=true) :
  LOp P ⟨some d,.assign x,ty,pos,aft,gd⟩ N [(t,.box T' cs)] [(t,.box T' cs'),(d,.fl (.own e) z xs)] [.slot d]:=by
 subst hcs
 refine LOp.core fun g V oN oT a w hd hp => ?_
 have hT':=hp.esT
 simp only [Es] at hT'
 obtain ⟨ob,o2,rfl,hER,rfl⟩:=hT'
 obtain ⟨hR,htie⟩:=hER
 have hax:=dupOp_R hp.val hp.esN x
 rw [hx] at hax
 simp only [R] at hax hR
 obtain ⟨b,cur,os,hpt,rfl,hh,hrs⟩:=hR
 dsimp only at htie
 obtain ⟨o1,o3,hperm,hRi,hrest⟩:=Rs_setAny i hrs hic
 rw [hc] at hRi
 have hlen:=Rs_length hrs
 have hcell:=htie b hpt i hic
 rw [cell_of_row w b i _ T' (0,0) hh] at hcell
 have hil:i<cur.length:=by omega
 have hVc:V (.cell t i)=cur.getD i undef:=by
  simp only [List.getElem?_toArray,List.getElem?_eq_getElem hil,Option.some.injEq] at hcell
  rw [← hcell]; simp [hil]
 rw [← hVc] at hRi
 have hr:(execOp a.eval ⟨some d,.assign x,ty,pos,aft,gd⟩).run P w = .ok (.value (V (.cell t i))) w:=by
  simp [execOp,pure,hax.1]
 refine (Yl.val hr).mono ?_
 rintro y w' ⟨rfl,rfl⟩
 have hlt:d<g.n:=hd d rfl
 have hdtl:∀ l,hit [.slot d] l=false→setV V d (V (.cell t i)) l=V l:=fun l hl=>setV_hit hl
 have hnd2:(b::os).Nodup:=by have:=(List.nodup_append.1 hp.nodup).2.1; simpa using this
 have hnd3:(b::(o1++o3)).Nodup:=((hperm.cons b).nodup_iff).1 hnd2
 have hlts:∀ c,c∈b::os→c<w'.heap.size∧¬ g.imm c:=fun c hc'=>hp.own c (by simp at hc' ⊢; exact .inr hc')
 have hin:∀ c,c∈(b::o3)++o1→c∈b::os:=by
  intro c hc'
  rcases List.mem_append.1 hc' with h | h
  ·rcases List.mem_cons.1 h with h | h
   ·simp [h]
   ·have:=hperm.mem_iff.2 (List.mem_append.2 (.inr h)); simp [this]
  ·have:=hperm.mem_iff.2 (List.mem_append.2 (.inl h)); simp [this]
 have hVt:setV V d (V (.cell t i)) (.slot t)=V (.slot t):=by simp only [setV]; rw [if_neg fun e=>hdt e.symm]
 refine ⟨g,setV V d (V (.cell t i)),(b::o3)++o1,g.le_refl,fun c hc => .inl hc,fun c hc=>hp.imm c (.inl hc),Chg.refl _ _,hdtl,fun u=>setV_val hp.val hp.size hlt u,?_,?_,?_⟩
 ·refine ⟨b::o3,o1,rfl,⟨?_,?_⟩,o1,[],by simp,⟨?_,trivial⟩,rfl⟩
  ·show R g _ _ (.box T' _) (setV V d _ (.slot t)) _
   rw [hVt]
   simp only [R]
   exact ⟨b,cur,o3,hpt,rfl,hh,Rs_stab (W:=[.slot d]) (fun _ h=>h) (fun _ h=>h) hdtl _ _ _ hcl (fun _ _=>rfl) hrest⟩
  ·intro b' hb' j hj
   rw [hVt] at hb'
   exact htie b' hb' j (by simpa using hj)
  ·show R g _ _ (.fl (.own e) z xs) (setV V d _ (.slot d)) _
   rw [setV_slot]
   exact R_closed (g:=g) (g':=g) (fun _ h=>h) _ _ _ rfl (.inl fun _ h=>h) hRi
 ·have h1:(o1++(b::o3)).Nodup:=(List.perm_middle.nodup_iff).2 hnd3
  exact (List.perm_append_comm.nodup_iff).1 h1
 ·intro c hc'
  have h4:=hlts c (hin c hc')
  exact ⟨.inl (by simpa using hin c hc'),h4.1,h4.2⟩
end
end Go.Abs
