import Derived.Test.YtkgfjkfccpjcgaaDoorAR
import Derived.Test.YtkgfjkfccpjcgaaDoorAR
set_option linter.unusedVariables false
namespace Go.Abs
open Go.RowKit
def CS (a b c:Nat×Int×Value):Nat→Nat×Int×Value
 | 0=>a
 | 1=>if b.2.1<a.2.1 then b else a
 | _=>if c.2.1<(if b.2.1<a.2.1 then b else a).2.1 then c else (if b.2.1<a.2.1 then b else a)
theorem Jr {a b c x:Nat×Int×Value} (h:x=CS a b c 0) (k:b.2.1<x.2.1):b=CS a b c 1:=by
 subst h
 exact (if_pos k).symm
theorem IG {a b c x:Nat×Int×Value} (h:x=CS a b c 0) (k:¬ b.2.1<x.2.1):x=CS a b c 1:=by
 subst h
 exact (if_neg k).symm
theorem Jb {a b c x:Nat×Int×Value} (h:x=CS a b c 1) (k:c.2.1<x.2.1):c=CS a b c 2:=by
 subst h
 exact (if_pos k).symm
theorem If {a b c x:Nat×Int×Value} (h:x=CS a b c 1) (k:¬ c.2.1<x.2.1):x=CS a b c 2:=by
 subst h
 exact (if_neg k).symm
theorem mB (w:World) (q:Nat):ep [] w (w.drewN q):=⟨rfl,rfl,rfl,Nat.le_refl _,fun _ _ _=>rfl⟩
def ua (P:Program) (fT fS fF fD f:FuncId):Prop :=
 ∀ (w:World) (b:Value) (er n2 n3 n4:Int) (K1:Value→World→Prop) (K2:Value→Nat→World→Prop) (K3:Value→Nat→Nat→World→Prop) (K4:Value→Nat→Nat→Nat→Value→Value→Value→World→Prop)
  (BZ:Ending→World→Prop)
  (hP1:Hid (er≠0→∀ l w1 w',K1 l w1→ep [] w1 w'→BZ (.returned (.tuple #[.slice none 0 0,.int .i64 er])) w'))
  (hP0:Hid (er=0→∀ l p2 p3 p4 c2 c3 c4 w4 w',K4 l p2 p3 p4 c2 c3 c4 w4→ep [] w4 w'→BZ (.returned (.tuple #[(CS (p2,n2,c2) (p3,n3,c3) (p4,n4,c4) 2).2.2,.int .i64 0])) w'))
  (hT:Calls P fT #[b] w fun e w1=>∃ l,e = .returned (.tuple #[l,.int .i64 er])∧K1 l w1)
  (hS:er=0→∀ l w1,K1 l w1→Calls P fS #[b] w1 fun e w2=>∃ p2,e = .returned (.pointer (some ⟨p2,0,none⟩))∧K2 l p2 w2)
  (hF:er=0→∀ l p2 w2,K2 l p2 w2→Calls P fF #[l] w2 fun e w3=>∃ p3,e = .returned (.pointer (some ⟨p3,0,none⟩))∧K3 l p2 p3 w3)
  (hD:er=0→∀ l p2 p3 w3,K3 l p2 p3 w3→Calls P fD #[l] w3 fun e w4=>∃ p4 c2 c3 c4,e = .returned (.pointer (some ⟨p4,0,none⟩))∧K4 l p2 p3 p4 c2 c3 c4 w4)
  (hK:∀ l p2 p3 p4 c2 c3 c4 w4,K4 l p2 p3 p4 c2 c3 c4 w4→p2<w4.heap.size∧p3<w4.heap.size∧p4<w4.heap.size ∧
   w4.cell? ⟨p2,0,none⟩=some c2∧w4.cell? ⟨p3,0,none⟩=some c3∧w4.cell? ⟨p4,0,none⟩=some c4∧w4.cell? ⟨p2,1,none⟩=some (.int .i64 n2)∧w4.cell? ⟨p3,1,none⟩=some (.int .i64 n3)∧w4.cell? ⟨p4,1,none⟩=some (.int .i64 n4)),
  Calls P f #[b] w BZ
structure BD (Imm0:Nat→Prop) (w0:World) (I:Nat→Prop) (w:World):Prop where
 base:∀ b,Imm0 b→b<w0.heap.size
 old:∀ b,Imm0 b→I b
 new:∀ b,I b→Imm0 b∨(w0.heap.size≤b∧b<w.heap.size)
 chg:ep [] w0 w
theorem BD.lt {Imm0 I:Nat→Prop} {w0 w:World} (h:BD Imm0 w0 I w) {b:Nat} (hb:I b):b<w.heap.size:=by
 rcases h.new b hb with k | k
 ·exact Nat.lt_of_lt_of_le (h.base b k) h.chg.size
 ·exact k.2
def xi (w0:World) (I:Nat→Prop) (w:World) (av:AV) (x:Value):Prop :=
 ∃ o,R (dy w0 I (fun _=>False)) V0 w av x o∧o.Nodup∧∀ b∈o,w0.heap.size≤b∧b<w.heap.size∧¬ I b
theorem xi.step {w0 w1 w2:World} {I I':Nat→Prop} {av:AV} {x:Value} (h:xi w0 I w1 av x) (hc:eO [] av=true) (hI:∀ b,I b→I' b) (hn:∀ b,I' b→I b∨w1.heap.size≤b) (hl:∀ b,I b→b<w1.heap.size) (hw:ep [] w1 w2):xi w0 I' w2 av x:=by
 obtain ⟨o,hR,hd,hf⟩:=h
 refine ⟨o,?_,hd,fun b hb=>⟨(hf b hb).1,Nat.lt_of_lt_of_le (hf b hb).2.1 hw.size,fun hb' => ?_⟩⟩
 ·refine fE (g:=dy w0 I (fun _=>False)) (g':=dy w0 I' (fun _=>False)) (W:=[]) hI (fun _ h=>h) (fun _ _=>rfl) av x o hc (fun b hb=>hw.block b ?_ (by simp)) hR
  rcases hb with hb | hb | hb
  ·exact (hf b hb).2.1
  ·exact hl b hb
  ·exact hb.elim
 ·rcases hn b hb' with k | k
  ·exact (hf b hb).2.2 k
  ·have:=(hf b hb).2.1
   omega
theorem kE {P:Program} {gl:List (Nat×List Value)} {f:FuncId} {a res:AV} (hf:pp P gl f [a] res) {Imm Im I:Nat→Prop} {w w1:World} {x:Value} (hs:BD Imm w I w1) (hM:∀ b,Im b→b<w.heap.size)
  (hG:Gx gl (fun b=>Imm b∨Im b) w) (hx:R (dy w1 I (fun b=>b<w1.heap.size)) V0 w1 a x []) (hcl:br res=true) (hsh:fw res=true) :
  Calls P f #[x] w1 fun e w2=>∃ y I',e = .returned y∧BD Imm w I' w2∧(∀ b,I b→I' b)∧(∀ b,I' b→I b∨w1.heap.size≤b)∧ep [] w1 w2∧xi w I' w2 res y:=by
 have h:=hf I (fun b=>b<w1.heap.size) w1 [x] (fun b hb=>hb.elim hs.lt id) (fun p hp=>by
  obtain ⟨h1,h2⟩:=hG p hp
  have hlt:p.1<w.heap.size:=h1.elim (hs.base _) (hM _)
  refine ⟨.inr (Nat.lt_of_lt_of_le hlt hs.chg.size),fun j => ?_⟩
  rw [World.cell?_of_block (w:=w)]
  ·exact h2 j
  ·exact hs.chg.block _ hlt (by simp)) ?_
 ·refine h.mono ?_
  rintro e w2 ⟨y,rfl,hchg,I',o,k1,k2,k3,k4,k5⟩
  have hsz:=hs.chg.size
  refine ⟨y,I',rfl,⟨hs.base,fun b hb=>k1 b (hs.old b hb),fun b hb => ?_,hs.chg.trans hchg⟩,k1,fun b hb => ?_,hchg,o,?_,k4,fun b hb=>⟨Nat.le_trans hsz (k5 b hb).1,(k5 b hb).2.1,(k5 b hb).2.2⟩⟩
  ·rcases k2 b hb with k | k
   ·rcases hs.new b k with k | k
    ·exact .inl k
    ·exact .inr ⟨k.1,Nat.lt_of_lt_of_le k.2 hchg.size⟩
   ·exact .inr ⟨by omega,k.2⟩
  ·rcases k2 b hb with k | k
   ·exact .inl k
   ·exact .inr k.1
  ·exact cF (g:=dy w1 I' _) (g':=dy w I' _) (fun _ h=>h) res y o hcl (.inr hsh) k3
 ·simp only [Rs]
  exact ⟨x,[],[],[],rfl,rfl,hx,rfl,rfl⟩
theorem uq {w0 w:World} {I:Nat→Prop} {T e:TypeId} {b:List Value} {n:Int} {y:Value} (h:xi w0 I w (.obox true T [.fl (.own e) 1 b,.v (.int .i64 n)]) y) :
  ∃ p c,y = .pointer (some ⟨p,0,none⟩)∧p<w.heap.size∧w.heap[p]? = some (.cells #[c,.int .i64 n] T (0,0))∧xi w0 I w (.fl (.own e) 1 b) c:=by
 obtain ⟨o,hR,hd,hf⟩:=h
 simp only [R] at hR
 obtain ⟨p,xs,os,rfl,rfl,hb,hs⟩:=hR.1 trivial
 simp only [Rs,R] at hs
 obtain ⟨c,xs',o1,o2,rfl,rfl,hc,x2,xs2,o3,o4,rfl,rfl,⟨rfl,rfl⟩,rfl,rfl⟩:=hs
 refine ⟨p,c,rfl,(hf p (by simp)).2.1,hb,o1,?_,?_,fun b hb=>hf b (by simp [hb])⟩
 ·simp only [R]; exact hc
 ·have:=(List.nodup_cons.1 hd).2
  simpa using this
theorem mK {w:World} {p:Nat} {cs:Array Value} {T:TypeId} {fz:Nat×Nat} (h:w.heap[p]? = some (.cells cs T fz)) (i:Nat):w.cell? ⟨p,i,none⟩=cs[i]? := by
 exact cell_of_row w p i cs T fz h
theorem rH {w w':World} (h:ep [] w w') {p:Nat} (hp:p<w.heap.size):w'.heap[p]? = w.heap[p]? := h.block p hp (by simp)
theorem pg {Imm Im I:Nat→Prop} {w w4 w':World} {e:TypeId} {b:List Value} {c:Value} {er:Int} (hs:BD Imm w I w4) (hc:xi w I w4 (.fl (.own e) 1 b) c) (h:ep [] w4 w') :
  IR Imm Im w (.tup [.fl (.own e) 1 b,.v (.int .i64 er)]) (.returned (.tuple #[c,.int .i64 er])) w':=by
 obtain ⟨o,hR,hd,hf⟩:=hc.step (I':=I) rfl (fun _ h=>h) (fun _ h => .inl h) (fun _ h=>hs.lt h) h
 refine ⟨_,rfl,hs.chg.trans h,I,o,hs.old,fun b hb => ?_,?_,hd,hf⟩
 ·rcases hs.new b hb with k | k
  ·exact .inl k
  ·exact .inr ⟨k.1,Nat.lt_of_lt_of_le k.2 h.size⟩
 ·simp only [R,Rs]
  simp only [R] at hR
  exact ⟨[c,.int .i64 er],rfl,c,_,o,[],rfl,by simp,hR,_,_,[],[],rfl,rfl,⟨rfl,rfl⟩,rfl,rfl⟩
theorem HW {P:Program} {gl:List (Nat×List Value)} {fT fS fF fD f:FuncId} {T1 TW e:TypeId} {z:Nat} {bs ts b2 b3 b4:List Value} {n2 n3 n4:Int} (hW:ua P fT fS fF fD f)
  (hT:pp P gl fT [.fl .shr 1 bs] (.tup [.fl (.own T1) z ts,.v (.int .i64 0)])) (hS:pp P gl fS [.fl .shr 1 bs] (.obox true TW [.fl (.own e) 1 b2,.v (.int .i64 n2)]))
  (hF:pp P gl fF [.fl .shr z ts] (.obox true TW [.fl (.own e) 1 b3,.v (.int .i64 n3)])) (hD:pp P gl fD [.fl .shr z ts] (.obox true TW [.fl (.own e) 1 b4,.v (.int .i64 n4)])) :
  pp P gl f [.fl .shr 1 bs] (.tup [.fl (.own e) 1 (if n4<(if n3<n2 then n3 else n2) then b4 else if n3<n2 then b3 else b2),.v (.int .i64 0)]):=by
 intro Imm Im w xs himm hG hR
 simp only [Rs] at hR
 obtain ⟨x,xs',o1,o2,rfl,ho,hx,rfl,rfl⟩:=hR
 rw [List.append_nil] at ho
 subst ho
 have hM:∀ b,Im b→b<w.heap.size:=fun b hb=>himm b (.inr hb)
 have hs0:BD Imm w Imm w:=⟨fun b hb=>himm b (.inl hb),fun _ h=>h,fun _ h => .inl h,ep.refl _ _⟩
 have hxa:∀ I w1,BD Imm w I w1→R (dy w1 I (fun b=>b<w1.heap.size)) V0 w1 (.fl .shr 1 bs) x []:=fun I w1 hs =>
  fE (g:=dy w Imm Im) (g':=dy w1 I (fun b=>b<w1.heap.size)) (W:=[]) hs.old (fun b hb=>Nat.lt_of_lt_of_le (hM b hb) hs.chg.size) (fun _ _=>rfl) (.fl .shr 1 bs) x [] rfl (fun b hb=>hs.chg.block b (by
   rcases hb with hb | hb
   ·cases hb
   ·exact himm b hb) (by simp)) hx
 have hla:∀ I w1 l,xi w I w1 (.fl (.own T1) z ts) l→R (dy w1 I (fun b=>b<w1.heap.size)) V0 w1 (.fl .shr z ts) l []:=fun I w1 l ⟨o,h1,h2,h3⟩ =>
  ux (oN:=o) (g:=dy w I (fun _=>False)) (g':=dy w1 I (fun b=>b<w1.heap.size)) (V':=V0) rfl (fun b hb=>by
   rcases hb with hb | hb
   ·exact hb.elim
   ·exact (h3 b hb).2.1) (fun b hb=>hb) h1
 refine hW w x 0 n2 n3 n4
  (fun l w1=>∃ I,BD Imm w I w1∧xi w I w1 (.fl (.own T1) z ts) l)
  (fun l p2 w2=>∃ I c2,BD Imm w I w2∧xi w I w2 (.fl (.own T1) z ts) l∧p2<w2.heap.size∧w2.heap[p2]? = some (.cells #[c2,.int .i64 n2] TW (0,0))∧xi w I w2 (.fl (.own e) 1 b2) c2)
  (fun l p2 p3 w3=>∃ I c2 c3,BD Imm w I w3∧xi w I w3 (.fl (.own T1) z ts) l∧p2<w3.heap.size∧w3.heap[p2]? = some (.cells #[c2,.int .i64 n2] TW (0,0))∧xi w I w3 (.fl (.own e) 1 b2) c2∧p3<w3.heap.size∧w3.heap[p3]? = some (.cells #[c3,.int .i64 n3] TW (0,0))∧xi w I w3 (.fl (.own e) 1 b3) c3)
  (fun l p2 p3 p4 c2 c3 c4 w4=>∃ I,BD Imm w I w4∧p2<w4.heap.size∧w4.heap[p2]? = some (.cells #[c2,.int .i64 n2] TW (0,0))∧xi w I w4 (.fl (.own e) 1 b2) c2∧p3<w4.heap.size∧w4.heap[p3]? = some (.cells #[c3,.int .i64 n3] TW (0,0))∧xi w I w4 (.fl (.own e) 1 b3) c3∧p4<w4.heap.size∧w4.heap[p4]? = some (.cells #[c4,.int .i64 n4] TW (0,0))∧xi w I w4 (.fl (.own e) 1 b4) c4)
  _ (fun h=>absurd rfl h) ?_ ?_ ?_ ?_ ?_ ?_
 ·rintro _ l p2 p3 p4 c2 c3 c4 w4 w' ⟨I,hs,_,_,h2,_,_,h3,_,_,h4⟩ hch
  simp only [CS]
  by_cases h32:n3<n2
  ·simp only [if_pos h32]
   by_cases h4':n4<n3
   ·simp only [if_pos h4']; exact pg hs h4 hch
   ·simp only [if_neg h4']; exact pg hs h3 hch
  ·simp only [if_neg h32]
   by_cases h4':n4<n2
   ·simp only [if_pos h4']; exact pg hs h4 hch
   ·simp only [if_neg h4']; exact pg hs h2 hch
 ·refine (kE hT hs0 hM hG (hxa _ _ hs0) rfl rfl).mono ?_
  rintro e1 w1 ⟨y,I,rfl,hs,hi,hn,hch,o,hR,hd,hf⟩
  simp only [R,Rs] at hR
  obtain ⟨xs,rfl,l,xs',o1,o2,rfl,rfl,hl,x2,xs2,o3,o4,rfl,rfl,⟨rfl,rfl⟩,rfl,rfl⟩:=hR
  refine ⟨l,rfl,I,hs,o1,?_,by simpa using hd,fun b hb=>hf b (by simp [hb])⟩
  simp only [R]; exact hl
 ·rintro _ l w1 ⟨I,hs,hl⟩
  refine (kE hS hs hM hG (hxa _ _ hs) rfl rfl).mono ?_
  rintro e1 w2 ⟨y,I',rfl,hs',hi,hn,hch,hy⟩
  obtain ⟨p,c,rfl,hp,hb,hc⟩:=uq hy
  exact ⟨p,rfl,I',c,hs',hl.step rfl hi hn (fun b hb=>hs.lt hb) hch,hp,hb,hc⟩
 ·rintro _ l p2 w2 ⟨I,c2,hs,hl,hp2,hb2,hc2⟩
  refine (kE hF hs hM hG (hla _ _ _ hl) rfl rfl).mono ?_
  rintro e1 w3 ⟨y,I',rfl,hs',hi,hn,hch,hy⟩
  obtain ⟨p,c,rfl,hp,hb,hc⟩:=uq hy
  exact ⟨p,rfl,I',c2,c,hs',hl.step rfl hi hn (fun b hb=>hs.lt hb) hch,Nat.lt_of_lt_of_le hp2 hch.size,by rw [rH hch hp2]; exact hb2,hc2.step rfl hi hn (fun b hb=>hs.lt hb) hch,hp,hb,hc⟩
 ·rintro _ l p2 p3 w3 ⟨I,c2,c3,hs,hl,hp2,hb2,hc2,hp3,hb3,hc3⟩
  refine (kE hD hs hM hG (hla _ _ _ hl) rfl rfl).mono ?_
  rintro e1 w4 ⟨y,I',rfl,hs',hi,hn,hch,hy⟩
  obtain ⟨p,c,rfl,hp,hb,hc⟩:=uq hy
  exact ⟨p,c2,c3,c,rfl,I',hs',Nat.lt_of_lt_of_le hp2 hch.size,by rw [rH hch hp2]; exact hb2,hc2.step rfl hi hn (fun b hb=>hs.lt hb) hch,Nat.lt_of_lt_of_le hp3 hch.size,by rw [rH hch hp3]; exact hb3,hc3.step rfl hi hn (fun b hb=>hs.lt hb) hch,hp,hb,hc⟩
 ·rintro l p2 p3 p4 c2 c3 c4 w4 ⟨I,hs,hp2,hb2,h2,hp3,hb3,h3,hp4,hb4,h4⟩
  exact ⟨hp2,hp3,hp4,mK hb2 0,mK hb3 0,mK hb4 0,mK hb2 1,mK hb3 1,mK hb4 1⟩
theorem EK {P:Program} {gl:List (Nat×List Value)} {fT fS fF fD f:FuncId} {T1 e:TypeId} {z:Nat} {bs ts:List Value} {er:Int} (hW:ua P fT fS fF fD f) (he:er≠0)
  (hT:pp P gl fT [.fl .shr 1 bs] (.tup [.fl (.own T1) z ts,.v (.int .i64 er)])):pp P gl f [.fl .shr 1 bs] (.tup [.fl (.own e) 1 [],.v (.int .i64 er)]):=by
 intro Imm Im w xs himm hG hR
 simp only [Rs] at hR
 obtain ⟨x,xs',o1,o2,rfl,ho,hx,rfl,rfl⟩:=hR
 rw [List.append_nil] at ho
 subst ho
 have hM:∀ b,Im b→b<w.heap.size:=fun b hb=>himm b (.inr hb)
 have hs0:BD Imm w Imm w:=⟨fun b hb=>himm b (.inl hb),fun _ h=>h,fun _ h => .inl h,ep.refl _ _⟩
 refine hW w x er 0 0 0 (fun l w1=>∃ I,BD Imm w I w1) (fun _ _ _=>True) (fun _ _ _ _=>True) (fun _ _ _ _ _ _ _ _=>False) _ ?_ (fun h=>absurd h he) ?_ (fun h=>absurd h he) (fun h=>absurd h he) (fun h=>absurd h he) (fun _ _ _ _ _ _ _ _ h=>h.elim)
 ·rintro _ l w1 w' ⟨I,hs⟩ hch
  refine pg hs ⟨[],?_,List.nodup_nil,by simp⟩ hch
  exact bV e 1 _ _ _ _ _ (by simp [R])
 ·refine (kE hT hs0 hM hG ?_ rfl rfl).mono ?_
  ·exact fE (g:=dy w Imm Im) (g':=dy w Imm (fun b=>b<w.heap.size)) (W:=[]) (fun _ h=>h) hM (fun _ _=>rfl) (.fl .shr 1 bs) x [] rfl (fun b hb=>rfl) hx
  ·rintro e1 w1 ⟨y,I,rfl,hs,hi,hn,hch,o,hR,hd,hf⟩
   simp only [R,Rs] at hR
   obtain ⟨xs,rfl,l,xs',o1,o2,rfl,rfl,hl,x2,xs2,o3,o4,rfl,rfl,⟨rfl,rfl⟩,rfl,rfl⟩:=hR
   exact ⟨l,rfl,I,hs⟩
end Go.Abs
