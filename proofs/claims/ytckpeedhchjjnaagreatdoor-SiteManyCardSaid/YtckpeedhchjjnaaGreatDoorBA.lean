import Derived.Test.YtckpeedhchjjnaaGreatDoorC1
set_option linter.unusedVariables false
namespace Go.Abs
section
variable {P:Program}
def Ga (P:Program) (o:Oper) (N T G1 G2:List aJ) (W:List bF):Prop :=
 ∀ (g:Gh) (F:List aJ) (a:Act) (w:World) (K:Act→World→Prop) (Q:Exit→Act→World→Prop),(∀ d,o.dst=some d→d<g.n) →
  eX g (N++(T++F)) a w→(∀ e∈N++F,bX W e=true) →
  (∀ g' a' w',g.le g'→(eX g' (N++(G1++F)) a' w'∨eX g' (N++(G2++F)) a' w')→K a' w')→∀ r,o.wpIn (FW r) 0 P a w K Q
theorem Ga.core {o:Oper} {N T G1 G2:List aJ} {W:List bF}
  (h:∀ (g:Gh) (V:bF→Value) (oN oT:List Nat) (a:Act) (w:World),(∀ d,o.dst=some d→d<g.n)→FT g V N T oN oT a w →
   Yl P o a w fun x w'=>vY g V G1 W oT o.dst a w x w'∨vY g V G2 W oT o.dst a w x w'):Ga P o N T G1 G2 W:=by
 intro g F a w K Q hd hs hc hk;obtain ⟨V,ow,hst,hes⟩:=hs;obtain ⟨oN,oR,rfl,hN,hR⟩:=aT.1 hes;obtain ⟨oT,oF,rfl,hT,hF⟩:=aT.1 hR;have hnd:=hst.nodup;have hnd1:(oN++oT).Nodup:=by rw [← ar] at hnd; exact (ag.1 hnd).1
 have hpre:FT g V N T oN oT a w:=⟨hst.val,hst.size,hst.imm,fun b hb=>by
  have:=hst.own b (by simp at hb ⊢; rcases hb with h | h <;> simp [h])
  exact ⟨this.1,this.2.2⟩,fun b hb=>(hst.own b (by simp at hb ⊢; rcases hb with h | h <;> simp [h])).2.1,hnd1,hN,hT,hst.chg.size⟩
 have fin:∀ (G:List aJ) (x:Value) (w':World),vY g V G W oT o.dst a w x w'→∃ g',g.le g'∧eX g' (N++(G++F)) (a.put o.dst x) w':=by
  rintro G x w' ⟨g',V',oG,hle,hnew,himm,hchg,hV,hval,hG,hGn,hGo⟩;have hIM:∀ b,g.Im b→g'.Im b:=fun b hb=>by rw [hle.Im]; exact hb
  have hnF:∀ b,b∈oN∨b∈oF→b ∉ oT:=by
   intro b hb hT;rcases hb with hb | hb
   ·exact (ag.1 hnd1).2.2 b hb b hT rfl
   ·have h1:=(ag.1 hnd).2.1;exact (ag.1 h1).2.2 b hT b hb rfl
  have hownlt:∀ b,b∈oN∨b∈oT∨b∈oF→b<w.heap.size∧(g.w0.heap.size≤b∨b∈g.io)∧¬ g.imm b:=fun b hb=>hst.own b (by simpa using hb);have himmT:∀ b,g.imm b→b ∉ oT:=fun b hb hT=>(hownlt b (.inr (.inl hT))).2.2 hb
  have hNstab:Es g' V' w' N oN:=dI hle.Imm hIM hV N oN (fun e he=>hc e (by simp [he])) (fun b hb=>by
   rcases hb with hb | hb
   ·exact hchg.block b (hownlt b (.inl hb)).1 (hnF b (.inl hb))
   ·exact hchg.block b (hst.imm b hb) (himmT b hb)) hN
  have hFstab:Es g' V' w' F oF:=dI hle.Imm hIM hV F oF (fun e he=>hc e (by simp [he])) (fun b hb=>by
   rcases hb with hb | hb
   ·exact hchg.block b (hownlt b (.inr (.inr hb))).1 (hnF b (.inr hb))
   ·exact hchg.block b (hst.imm b hb) (himmT b hb)) hF
  refine ⟨g',hle,V',oN++(oG++oF),⟨hval,?_,?_,?_,?_,?_,?_,?_,?_⟩,aT.2 ⟨oN,_,rfl,hNstab,aT.2 ⟨oG,oF,rfl,hG,hFstab⟩⟩⟩
  ·rw [hle.n,← hst.size]; unfold Act.put; split <;> simp
  ·rw [hle.ds]; unfold Act.put; split <;> exact hst.defers
  ·rw [hle.ds]; exact hst.dnd
  ·intro D hD;rw [hle.ds] at hD;obtain ⟨h1,h2,h3,h4⟩:=hst.marks D hD;have hlt:D<w.heap.size:=(Array.getElem?_eq_some_iff.1 h1).1;refine ⟨(hchg.block D hlt (fun hT=>h2 (by simp [hT]))).trans h1,fun hm => ?_,by rw [hle.w0]; exact h3,fun hi => ?_⟩
   ·rcases ak.1 hm with hm | hm
    ·exact h2 (by simp [hm])
    ·rcases ak.1 hm with hm | hm
     ·rcases (hGo D hm).1 with h5 | h5
      ·exact h2 (by simp [h5])
      ·omega
     ·exact h2 (by simp [hm])
   ·rcases hi with hi | hi
    ·rcases hnew D hi with h5 | h5 | h5
     ·exact h4 (.inl h5)
     ·exact h2 (by simp [h5])
     ·omega
    ·rw [hle.Im] at hi; exact h4 (.inr hi)
  ·have h1:=ag.1 hnd;have h2:=ag.1 h1.2.1;refine ag.2 ⟨h1.1,ag.2 ⟨hGn,h2.2.1,?_⟩,?_⟩
   ·intro b hb c hc e;subst e;rcases (hGo b hb).1 with h3 | h3
    ·exact h2.2.2 b h3 b hc rfl
    ·have:=(hownlt b (.inr (.inr hc))).1; omega
   ·intro b hb c hc e;subst e;rcases ak.1 hc with hc | hc
    ·rcases (hGo b hc).1 with h3 | h3
     ·exact h1.2.2 b hb b (by simp [h3]) rfl
     ·have:=(hownlt b (.inl hb)).1; omega
    ·exact h1.2.2 b hb b (by simp [hc]) rfl
  ·intro b hb;rw [hle.w0,hle.io]
   have hold:b∈oN∨b∈oF→b<w'.heap.size∧(g.w0.heap.size≤b∨b∈g.io)∧¬ g'.imm b:=by
    intro hb';have h1:=hownlt b (hb'.imp id .inr);refine ⟨am h1.1 hchg.size,h1.2.1,fun hi => ?_⟩;rcases hi with hi | hi
    ·rcases hnew b hi with h2 | h2 | h2
     ·exact h1.2.2 (.inl h2)
     ·exact hnF b hb' h2
     ·omega
    ·rw [hle.Im] at hi; exact h1.2.2 (.inr hi)
   rcases ak.1 hb with hb | hb
   ·exact hold (.inl hb)
   ·rcases ak.1 hb with hb | hb
    ·obtain ⟨h1,h2,h3⟩:=hGo b hb;refine ⟨h2,?_,h3⟩;rcases h1 with h1 | h1
     ·exact (hownlt b (.inr (.inl h1))).2.1
     ·exact .inl (bD hst.chg.size h1)
    ·exact hold (.inr hb)
  ·intro b hb;rcases hb with hb | hb
   ·exact himm b hb
   ·rw [hle.Im] at hb; exact am (hst.imm b (.inr hb)) hchg.size
  ·rw [hle.w0,hle.io];refine hst.chg.trans' hchg ?_;intro b hb;rcases (hownlt b (.inr (.inl hb))).2.1 with h1 | h1
   ·exact .inr h1
   ·exact .inl h1
 refine fun r=>h g V oN oT a w hd hpre K Q ?_ r;rintro x w' (hp | hp)
 ·obtain ⟨g',h1,h2⟩:=fin _ x w' hp;exact hk g' _ w' h1 (.inl h2)
 ·obtain ⟨g',h1,h2⟩:=fin _ x w' hp;exact hk g' _ w' h1 (.inr h2)
section
variable {ty:TypeId} {pos:String} {aft:Array Edge} {gd:Option (Nat×Bool)}
end
end
section
variable {P:Program} {Q:Exit→Act→World→Prop} {g0:Gh} {rnd:Option Nat} {ops:Array Oper}
theorem Gt {o:Oper} {l:List Oper} {es T M G1 G2:List aJ} {W:List bF} (hgd:o.guard=none) (h:Ga P o M T G1 G2 W) (hp:es.Perm (T++M)) (hc:M.all (bX W)=true)
  (k1:RT rnd P ops Q g0 l (G1++M)) (k2:RT rnd P ops Q g0 l (G2++M)):RT rnd P ops Q g0 (o::l) es:=by
 intro i g a w hl hd hg hs;rw [List.length_cons,List.range'_succ,wpOpsIn_cons];have ho:ops[i]? = some o:=by simpa using hl 0 o rfl
 unfold wpOpIn;rw [ho];simp only [Region.wanted,hgd,if_true];refine h g [] a w _ Q (fun d hd'=>by rw [hg.n]; exact hd i d (by simp [ho,hd'])) ?_ ?_ ?_ rnd
 ·refine hs.perm ?_;rw [List.append_nil];exact hp.trans List.perm_append_comm
 ·intro e he;rw [List.append_nil] at he;exact List.all_eq_true.1 hc e he
 ·intro g' a' w' hle hs';rw [List.append_nil,List.append_nil] at hs';have hl':∀ j o',l[j]? = some o'→ops[i+1+j]? = some o':=fun j o' hj=>by rw [show i+1+j=i+(j+1) by omega]; exact hl (j+1) o' (by simpa using hj)
  rcases hs' with hs' | hs'
  ·exact k1 (i+1) g' a' w' hl' hd (hg.trans hle) (hs'.perm List.perm_append_comm)
  ·exact k2 (i+1) g' a' w' hl' hd (hg.trans hle) (hs'.perm List.perm_append_comm)
theorem y2 {o:Oper} {l0 l:List Oper} {y:Code} {t z:Nat} {e:TypeId} {xs:List Value} {es M:List aJ} (es':List aJ) (d n:Nat) (zs:List Value) (h:Ga P o M [(t,.fl (.own e) z xs)] [(d,.fl (.own e) z zs),(t,.cut (.slot d) n)] [(d,.fl (.own e) z zs),(t,.fl (.own e) z xs)] [.slot d])
  (k1:HT rnd P Q g0 y es'→RT rnd P ops (Exit.then (y.wpIn (FW rnd) 0 P Q) Q) g0 l ((d,.fl (.own e) z zs)::(t,.cut (.slot d) n)::M)) (k2:HT rnd P Q g0 y es'→RT rnd P ops (Exit.then (y.wpIn (FW rnd) 0 P Q) Q) g0 l ((d,.fl (.own e) z zs)::(t,.fl (.own e) z xs)::M))
  (k:HT rnd P Q g0 y es') (hl:l0=o::l:=by rfl) (hgd:o.guard=none:=by rfl) (ht:Tk t es (.fl (.own e) z xs) M:=by exact Gn) (hc:M.all (bX [.slot d])=true:=by kernel_rfl):RT rnd P ops (Exit.then (y.wpIn (FW rnd) 0 P Q) Q) g0 l0 es:=by subst hl;exact Gt hgd h (ht.perm.trans (List.Perm.refl _)) hc (k1 k) (k2 k)
end
end Go.Abs
