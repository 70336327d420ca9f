import Derived.Test.YtckpeedhchjjnaaGreatDoorAR
import Derived.Test.YtckpeedhchjjnaaGreatDoorAR
set_option linter.unusedVariables false
namespace Go.Abs
open Go.RowKit
def Ei (a b c:Nat×Int×Value):Nat→Nat×Int×Value
 | 0=>a
 | 1=>if b.2.1<a.2.1 then b else a
 | _=>if c.2.1<(if b.2.1<a.2.1 then b else a).2.1 then c else (if b.2.1<a.2.1 then b else a)
theorem JE {a b c x:Nat×Int×Value} (h:x=Ei a b c 0) (k:b.2.1<x.2.1):b=Ei a b c 1:=by subst h;exact (if_pos k).symm
theorem Hl {a b c x:Nat×Int×Value} (h:x=Ei a b c 0) (k:¬ b.2.1<x.2.1):x=Ei a b c 1:=by subst h;exact (if_neg k).symm
theorem Jr {a b c x:Nat×Int×Value} (h:x=Ei a b c 1) (k:c.2.1<x.2.1):c=Ei a b c 2:=by subst h;exact (if_pos k).symm
theorem Ii {a b c x:Nat×Int×Value} (h:x=Ei a b c 1) (k:¬ c.2.1<x.2.1):x=Ei a b c 2:=by subst h;exact (if_neg k).symm
theorem qY (w:World) (q:Nat):dq [] w (w.drewN q):=⟨rfl,rfl,rfl,aq _,fun _ _ _=>rfl⟩
def zH (P:Program) (fT fS fF fD f:FuncId):Prop :=
 ∀ (w:World) (b:Value) (er n2 n3 n4:Int) (K1:Value→World→Prop) (K2:Value→Nat→World→Prop) (K3:Value→Nat→Nat→World→Prop) (K4:Value→Nat→Nat→Nat→Value→Value→Value→World→Prop)
  (vY:Ending→World→Prop)
  (hP1:Hid (er≠0→∀ l w1 w',K1 l w1→dq [] w1 w'→vY (.returned (.tuple #[.slice none 0 0,.int .i64 er])) w'))
  (hP0:Hid (er=0→∀ l p2 p3 p4 c2 c3 c4 w4 w',K4 l p2 p3 p4 c2 c3 c4 w4→dq [] w4 w'→vY (.returned (.tuple #[(Ei (p2,n2,c2) (p3,n3,c3) (p4,n4,c4) 2).2.2,.int .i64 0])) w'))
  (hT:Calls P fT #[b] w fun e w1=>∃ l,e = .returned (.tuple #[l,.int .i64 er])∧K1 l w1)
  (hS:er=0→∀ l w1,K1 l w1→Calls P fS #[b] w1 fun e w2=>∃ p2,e = .returned (.pointer (some ⟨p2,0,none⟩))∧K2 l p2 w2)
  (hF:er=0→∀ l p2 w2,K2 l p2 w2→Calls P fF #[l] w2 fun e w3=>∃ p3,e = .returned (.pointer (some ⟨p3,0,none⟩))∧K3 l p2 p3 w3)
  (hD:er=0→∀ l p2 p3 w3,K3 l p2 p3 w3→Calls P fD #[l] w3 fun e w4=>∃ p4 c2 c3 c4,e = .returned (.pointer (some ⟨p4,0,none⟩))∧K4 l p2 p3 p4 c2 c3 c4 w4)
  (hK:∀ l p2 p3 p4 c2 c3 c4 w4,K4 l p2 p3 p4 c2 c3 c4 w4→p2<w4.heap.size∧p3<w4.heap.size∧p4<w4.heap.size ∧
   w4.cell? ⟨p2,0,none⟩=some c2∧w4.cell? ⟨p3,0,none⟩=some c3∧w4.cell? ⟨p4,0,none⟩=some c4∧w4.cell? ⟨p2,1,none⟩=some (.int .i64 n2)∧w4.cell? ⟨p3,1,none⟩=some (.int .i64 n3)∧w4.cell? ⟨p4,1,none⟩=some (.int .i64 n4)),
  Calls P f #[b] w vY
structure Du (Imm0:Nat→Prop) (w0:World) (I:Nat→Prop) (w:World):Prop where
 base:∀ b,Imm0 b→b<w0.heap.size
 old:∀ b,Imm0 b→I b
 new:∀ b,I b→Imm0 b∨(w0.heap.size≤b∧b<w.heap.size)
 chg:dq [] w0 w
theorem Du.lt {Imm0 I:Nat→Prop} {w0 w:World} (h:Du Imm0 w0 I w) {b:Nat} (hb:I b):b<w.heap.size:=by
 rcases h.new b hb with k | k
 ·exact am (h.base b k) h.chg.size
 ·exact k.2
def Has (w0:World) (I:Nat→Prop) (w:World) (av:AV) (x:Value):Prop :=
 ∃ o,R (cz w0 I (fun _=>False)) V0 w av x o∧o.Nodup∧∀ b∈o,w0.heap.size≤b∧b<w.heap.size∧¬ I b
theorem Has.step {w0 w1 w2:World} {I I':Nat→Prop} {av:AV} {x:Value} (h:Has w0 I w1 av x) (hc:eh [] av=true) (hI:∀ b,I b→I' b) (hn:∀ b,I' b→I b∨w1.heap.size≤b) (hl:∀ b,I b→b<w1.heap.size) (hw:dq [] w1 w2):Has w0 I' w2 av x:=by
 obtain ⟨o,hR,hd,hf⟩:=h;refine ⟨o,?_,hd,fun b hb=>⟨(hf b hb).1,am (hf b hb).2.1 hw.size,fun hb' => ?_⟩⟩
 ·refine fy (g:=cz w0 I (fun _=>False)) (g':=cz w0 I' (fun _=>False)) (W:=[]) hI (fun _ h=>h) (fun _ _=>rfl) av x o hc (fun b hb=>hw.block b ?_ (by simp)) hR;rcases hb with hb | hb | hb
  ·exact (hf b hb).2.1
  ·exact hl b hb
  ·exact hb.elim
 ·rcases hn b hb' with k | k
  ·exact (hf b hb).2.2 k
  ·have:=(hf b hb).2.1;omega
theorem nj {P:Program} {gl:List (Nat×List Value)} {f:FuncId} {a res:AV} (hf:fJ P gl f [a] res) {Imm Im I:Nat→Prop} {w w1:World} {x:Value} (hs:Du Imm w I w1) (hM:∀ b,Im b→b<w.heap.size)
  (hG:EZ gl (fun b=>Imm b∨Im b) w) (hx:R (cz w1 I (fun b=>b<w1.heap.size)) V0 w1 a x []) (hcl:bq res=true) (hsh:eW res=true) :
  Calls P f #[x] w1 fun e w2=>∃ y I',e = .returned y∧Du Imm w I' w2∧(∀ b,I b→I' b)∧(∀ b,I' b→I b∨w1.heap.size≤b)∧dq [] w1 w2∧Has w I' w2 res y:=by
 have h:=hf I (fun b=>b<w1.heap.size) w1 [x] (fun b hb=>hb.elim hs.lt id) (fun p hp=>by
  obtain ⟨h1,h2⟩:=hG p hp
  have hlt:p.1<w.heap.size:=h1.elim (hs.base _) (hM _)
  refine ⟨.inr (am hlt hs.chg.size),fun j => ?_⟩
  rw [World.cell?_of_block (w:=w)]
  ·exact h2 j
  ·exact hs.chg.block _ hlt (by simp)) ?_
 ·refine h.mono ?_;rintro e w2 ⟨y,rfl,hchg,I',o,k1,k2,k3,k4,k5⟩;have hsz:=hs.chg.size;refine ⟨y,I',rfl,⟨hs.base,fun b hb=>k1 b (hs.old b hb),fun b hb => ?_,hs.chg.trans hchg⟩,k1,fun b hb => ?_,hchg,o,?_,k4,fun b hb=>⟨bD hsz (k5 b hb).1,(k5 b hb).2.1,(k5 b hb).2.2⟩⟩
  ·rcases k2 b hb with k | k
   ·rcases hs.new b k with k | k
    ·exact .inl k
    ·exact .inr ⟨k.1,am k.2 hchg.size⟩
   ·exact .inr ⟨by omega,k.2⟩
  ·rcases k2 b hb with k | k
   ·exact .inl k
   ·exact .inr k.1
  ·exact bV (g:=cz w1 I' _) (g':=cz w I' _) (fun _ h=>h) res y o hcl (.inr hsh) k3
 ·simp only [Rs];exact ⟨x,[],[],[],rfl,rfl,hx,rfl,rfl⟩
theorem zJ {w0 w:World} {I:Nat→Prop} {T e:TypeId} {b:List Value} {n:Int} {y:Value} (h:Has w0 I w (.obox true T [.fl (.own e) 1 b,.v (.int .i64 n)]) y) :
  ∃ p c,y = .pointer (some ⟨p,0,none⟩)∧p<w.heap.size∧w.heap[p]? = some (.cells #[c,.int .i64 n] T (0,0))∧Has w0 I w (.fl (.own e) 1 b) c:=by
 obtain ⟨o,hR,hd,hf⟩:=h;simp only [R] at hR;obtain ⟨p,xs,os,rfl,rfl,hb,hs⟩:=hR.1 trivial;simp only [Rs,R] at hs;obtain ⟨c,xs',o1,o2,rfl,rfl,hc,x2,xs2,o3,o4,rfl,rfl,⟨rfl,rfl⟩,rfl,rfl⟩:=hs;refine ⟨p,c,rfl,(hf p (by simp)).2.1,hb,o1,?_,?_,fun b hb=>hf b (by simp [hb])⟩
 ·simp only [R]; exact hc
 ·have:=(bI.1 hd).2;simpa using this
theorem qL {w:World} {p:Nat} {cs:Array Value} {T:TypeId} {fz:Nat×Nat} (h:w.heap[p]? = some (.cells cs T fz)) (i:Nat):w.cell? ⟨p,i,none⟩=cs[i]? := by exact cell_of_row w p i cs T fz h
theorem vL {w w':World} (h:dq [] w w') {p:Nat} (hp:p<w.heap.size):w'.heap[p]? = w.heap[p]? := h.block p hp (by simp)
theorem sP {Imm Im I:Nat→Prop} {w w4 w':World} {e:TypeId} {b:List Value} {c:Value} {er:Int} (hs:Du Imm w I w4) (hc:Has w I w4 (.fl (.own e) 1 b) c) (h:dq [] w4 w') :
  GM Imm Im w (.tup [.fl (.own e) 1 b,.v (.int .i64 er)]) (.returned (.tuple #[c,.int .i64 er])) w':=by
 obtain ⟨o,hR,hd,hf⟩:=hc.step (I':=I) rfl (fun _ h=>h) (fun _ h => .inl h) (fun _ h=>hs.lt h) h;refine ⟨_,rfl,hs.chg.trans h,I,o,hs.old,fun b hb => ?_,?_,hd,hf⟩
 ·rcases hs.new b hb with k | k
  ·exact .inl k
  ·exact .inr ⟨k.1,am k.2 h.size⟩
 ·simp only [R,Rs];simp only [R] at hR;exact ⟨[c,.int .i64 er],rfl,c,_,o,[],rfl,by simp,hR,_,_,[],[],rfl,rfl,⟨rfl,rfl⟩,rfl,rfl⟩
theorem Ig {P:Program} {gl:List (Nat×List Value)} {fT fS fF fD f:FuncId} {T1 TW e:TypeId} {z:Nat} {bs ts b2 b3 b4:List Value} {n2 n3 n4:Int} (hW:zH P fT fS fF fD f)
  (hT:fJ P gl fT [.fl .shr 1 bs] (.tup [.fl (.own T1) z ts,.v (.int .i64 0)])) (hS:fJ P gl fS [.fl .shr 1 bs] (.obox true TW [.fl (.own e) 1 b2,.v (.int .i64 n2)]))
  (hF:fJ P gl fF [.fl .shr z ts] (.obox true TW [.fl (.own e) 1 b3,.v (.int .i64 n3)])) (hD:fJ P gl fD [.fl .shr z ts] (.obox true TW [.fl (.own e) 1 b4,.v (.int .i64 n4)])) :
  fJ P gl f [.fl .shr 1 bs] (.tup [.fl (.own e) 1 (if n4<(if n3<n2 then n3 else n2) then b4 else if n3<n2 then b3 else b2),.v (.int .i64 0)]):=by
 intro Imm Im w xs himm hG hR;simp only [Rs] at hR;obtain ⟨x,xs',o1,o2,rfl,ho,hx,rfl,rfl⟩:=hR;rw [bn] at ho;subst ho;have hM:∀ b,Im b→b<w.heap.size:=fun b hb=>himm b (.inr hb);have hs0:Du Imm w Imm w:=⟨fun b hb=>himm b (.inl hb),fun _ h=>h,fun _ h => .inl h,dq.refl _ _⟩
 have hxa:∀ I w1,Du Imm w I w1→R (cz w1 I (fun b=>b<w1.heap.size)) V0 w1 (.fl .shr 1 bs) x []:=fun I w1 hs =>
  fy (g:=cz w Imm Im) (g':=cz w1 I (fun b=>b<w1.heap.size)) (W:=[]) hs.old (fun b hb=>am (hM b hb) hs.chg.size) (fun _ _=>rfl) (.fl .shr 1 bs) x [] rfl (fun b hb=>hs.chg.block b (by
   rcases hb with hb | hb
   ·cases hb
   ·exact himm b hb) (by simp)) hx
 have hla:∀ I w1 l,Has w I w1 (.fl (.own T1) z ts) l→R (cz w1 I (fun b=>b<w1.heap.size)) V0 w1 (.fl .shr z ts) l []:=fun I w1 l ⟨o,h1,h2,h3⟩ =>
  yF (oN:=o) (g:=cz w I (fun _=>False)) (g':=cz w1 I (fun b=>b<w1.heap.size)) (V':=V0) rfl (fun b hb=>by
   rcases hb with hb | hb
   ·exact hb.elim
   ·exact (h3 b hb).2.1) (fun b hb=>hb) h1
 refine hW w x 0 n2 n3 n4
  (fun l w1=>∃ I,Du Imm w I w1∧Has w I w1 (.fl (.own T1) z ts) l)
  (fun l p2 w2=>∃ I c2,Du Imm w I w2∧Has w I w2 (.fl (.own T1) z ts) l∧p2<w2.heap.size∧w2.heap[p2]? = some (.cells #[c2,.int .i64 n2] TW (0,0))∧Has w I w2 (.fl (.own e) 1 b2) c2)
  (fun l p2 p3 w3=>∃ I c2 c3,Du Imm w I w3∧Has w I w3 (.fl (.own T1) z ts) l∧p2<w3.heap.size∧w3.heap[p2]? = some (.cells #[c2,.int .i64 n2] TW (0,0))∧Has w I w3 (.fl (.own e) 1 b2) c2∧p3<w3.heap.size∧w3.heap[p3]? = some (.cells #[c3,.int .i64 n3] TW (0,0))∧Has w I w3 (.fl (.own e) 1 b3) c3)
  (fun l p2 p3 p4 c2 c3 c4 w4=>∃ I,Du Imm w I w4∧p2<w4.heap.size∧w4.heap[p2]? = some (.cells #[c2,.int .i64 n2] TW (0,0))∧Has w I w4 (.fl (.own e) 1 b2) c2∧p3<w4.heap.size∧w4.heap[p3]? = some (.cells #[c3,.int .i64 n3] TW (0,0))∧Has w I w4 (.fl (.own e) 1 b3) c3∧p4<w4.heap.size∧w4.heap[p4]? = some (.cells #[c4,.int .i64 n4] TW (0,0))∧Has w I w4 (.fl (.own e) 1 b4) c4)
  _ (fun h=>absurd rfl h) ?_ ?_ ?_ ?_ ?_ ?_
 ·rintro _ l p2 p3 p4 c2 c3 c4 w4 w' ⟨I,hs,_,_,h2,_,_,h3,_,_,h4⟩ hch;simp only [Ei];by_cases h32:n3<n2
  ·simp only [if_pos h32];by_cases h4':n4<n3
   ·simp only [if_pos h4']; exact sP hs h4 hch
   ·simp only [if_neg h4']; exact sP hs h3 hch
  ·simp only [if_neg h32];by_cases h4':n4<n2
   ·simp only [if_pos h4']; exact sP hs h4 hch
   ·simp only [if_neg h4']; exact sP hs h2 hch
 ·refine (nj hT hs0 hM hG (hxa _ _ hs0) rfl rfl).mono ?_;rintro e1 w1 ⟨y,I,rfl,hs,hi,hn,hch,o,hR,hd,hf⟩;simp only [R,Rs] at hR;obtain ⟨xs,rfl,l,xs',o1,o2,rfl,rfl,hl,x2,xs2,o3,o4,rfl,rfl,⟨rfl,rfl⟩,rfl,rfl⟩:=hR;refine ⟨l,rfl,I,hs,o1,?_,by simpa using hd,fun b hb=>hf b (by simp [hb])⟩;simp only [R]; exact hl
 ·rintro _ l w1 ⟨I,hs,hl⟩;refine (nj hS hs hM hG (hxa _ _ hs) rfl rfl).mono ?_;rintro e1 w2 ⟨y,I',rfl,hs',hi,hn,hch,hy⟩;obtain ⟨p,c,rfl,hp,hb,hc⟩:=zJ hy;exact ⟨p,rfl,I',c,hs',hl.step rfl hi hn (fun b hb=>hs.lt hb) hch,hp,hb,hc⟩
 ·rintro _ l p2 w2 ⟨I,c2,hs,hl,hp2,hb2,hc2⟩;refine (nj hF hs hM hG (hla _ _ _ hl) rfl rfl).mono ?_;rintro e1 w3 ⟨y,I',rfl,hs',hi,hn,hch,hy⟩;obtain ⟨p,c,rfl,hp,hb,hc⟩:=zJ hy;exact ⟨p,rfl,I',c2,c,hs',hl.step rfl hi hn (fun b hb=>hs.lt hb) hch,am hp2 hch.size,by rw [vL hch hp2]; exact hb2,hc2.step rfl hi hn (fun b hb=>hs.lt hb) hch,hp,hb,hc⟩
 ·rintro _ l p2 p3 w3 ⟨I,c2,c3,hs,hl,hp2,hb2,hc2,hp3,hb3,hc3⟩;refine (nj hD hs hM hG (hla _ _ _ hl) rfl rfl).mono ?_;rintro e1 w4 ⟨y,I',rfl,hs',hi,hn,hch,hy⟩;obtain ⟨p,c,rfl,hp,hb,hc⟩:=zJ hy;exact ⟨p,c2,c3,c,rfl,I',hs',am hp2 hch.size,by rw [vL hch hp2]; exact hb2,hc2.step rfl hi hn (fun b hb=>hs.lt hb) hch,am hp3 hch.size,by rw [vL hch hp3]; exact hb3,hc3.step rfl hi hn (fun b hb=>hs.lt hb) hch,hp,hb,hc⟩
 ·rintro l p2 p3 p4 c2 c3 c4 w4 ⟨I,hs,hp2,hb2,h2,hp3,hb3,h3,hp4,hb4,h4⟩;exact ⟨hp2,hp3,hp4,qL hb2 0,qL hb3 0,qL hb4 0,qL hb2 1,qL hb3 1,qL hb4 1⟩
theorem FS {P:Program} {gl:List (Nat×List Value)} {fT fS fF fD f:FuncId} {T1 e:TypeId} {z:Nat} {bs ts:List Value} {er:Int} (hW:zH P fT fS fF fD f) (he:er≠0)
  (hT:fJ P gl fT [.fl .shr 1 bs] (.tup [.fl (.own T1) z ts,.v (.int .i64 er)])):fJ P gl f [.fl .shr 1 bs] (.tup [.fl (.own e) 1 [],.v (.int .i64 er)]):=by
 intro Imm Im w xs himm hG hR;simp only [Rs] at hR;obtain ⟨x,xs',o1,o2,rfl,ho,hx,rfl,rfl⟩:=hR;rw [bn] at ho;subst ho;have hM:∀ b,Im b→b<w.heap.size:=fun b hb=>himm b (.inr hb);have hs0:Du Imm w Imm w:=⟨fun b hb=>himm b (.inl hb),fun _ h=>h,fun _ h => .inl h,dq.refl _ _⟩;refine hW w x er 0 0 0 (fun l w1=>∃ I,Du Imm w I w1) (fun _ _ _=>True) (fun _ _ _ _=>True) (fun _ _ _ _ _ _ _ _=>False) _ ?_ (fun h=>absurd h he) ?_ (fun h=>absurd h he) (fun h=>absurd h he) (fun h=>absurd h he) (fun _ _ _ _ _ _ _ _ h=>h.elim)
 ·rintro _ l w1 w' ⟨I,hs⟩ hch;refine sP hs ⟨[],?_,List.nodup_nil,by simp⟩ hch;exact fj e 1 _ _ _ _ _ (by simp [R])
 ·refine (nj hT hs0 hM hG ?_ rfl rfl).mono ?_
  ·exact fy (g:=cz w Imm Im) (g':=cz w Imm (fun b=>b<w.heap.size)) (W:=[]) (fun _ h=>h) hM (fun _ _=>rfl) (.fl .shr 1 bs) x [] rfl (fun b hb=>rfl) hx
  ·rintro e1 w1 ⟨y,I,rfl,hs,hi,hn,hch,o,hR,hd,hf⟩;simp only [R,Rs] at hR;obtain ⟨xs,rfl,l,xs',o1,o2,rfl,rfl,hl,x2,xs2,o3,o4,rfl,rfl,⟨rfl,rfl⟩,rfl,rfl⟩:=hR;exact ⟨l,rfl,I,hs⟩
end Go.Abs
