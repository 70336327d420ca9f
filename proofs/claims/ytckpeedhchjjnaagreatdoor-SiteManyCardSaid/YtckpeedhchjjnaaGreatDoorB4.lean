import Derived.Test.YtckpeedhchjjnaaGreatDoorAN
namespace Go.Abs
namespace Sh
def el (l:List Int):Option (List Int):=if l.length * 8≤140737488355328 then some l else none
end Sh
theorem ud {P:Program} {f:Nat} {T:TypeId}
  (c0:∀ (n c:Nat) (w:World),Calls P f #[.slice none n c] w fun e w'=>e = .returned (.slice none 0 0)∧w'=w)
  (c1:∀ (b off n c:Nat) (zs:List Int) (w:World),n≤zs.length→n * 8≤140737488355328→(∀ j,j<zs.length→w.cell? ⟨b,off+j,none⟩=some (.int .i64 (zs.getD j 0))) →
   Calls P f #[.slice (some ⟨b,off,none⟩) n c] w fun e w'=>∃ v',e = .returned v'∧w'.ownsRow w.heap.size T 1 v' n ((zs.take n).map (Value.int .i64))∧v' ≠ .slice none 0 0∧RowKit.Below w.heap.size w w')
  (c2:∀ (a:Addr) (c:Nat) (w:World),Calls P f #[.slice (some a) 0 c] w fun e w'=>∃ v',e = .returned v'∧w'.ownsRow w.heap.size T 1 v' 0 []∧v' ≠ .slice none 0 0∧RowKit.Below w.heap.size w w')
  (l r:List Int) (h:Sh.el l=some r):bA P f [.fl .shr 1 (List.map (Value.int .i64) l)] (.fl (.own T) 1 (List.map (Value.int .i64) r)):=by
 unfold Sh.el at h;split at h
 case isFalse=>cases h
 rename_i hc
 cases h
 intro Imm Im w xs himm hR;obtain ⟨x,rfl,hx⟩:=FX hR;simp only [R] at hx;obtain ⟨a,n,c,⟨rfl,hnc⟩,hl,_,hrd,_⟩:=hx;have hn:l.length=n:=by simpa using hl
 subst hn
 have fin:∀ (v':Value) (w':World),w'.ownsRow w.heap.size T 1 v' l.length (l.map (Value.int .i64))→RowKit.Below w.heap.size w w'→GM Imm Im w (.fl (.own T) 1 (List.map (Value.int .i64) l)) (.returned v') w':=by
  intro v' w' ho hb
  have hown:w'.ownsRow 0 T 1 v' l.length (l.map (Value.int .i64)):=by obtain ⟨h1,h2⟩:=ho;refine ⟨h1,h2.imp id ?_⟩;rintro ⟨g,cap,cur,e1,e2,e3⟩;exact ⟨g,cap,cur,e1,Nat.zero_le _,e3⟩
  refine ⟨_,rfl,⟨hb.os,hb.tape,hb.output,hb.size,fun k hk _=>hb.block k hk⟩,Imm,v'.ownBlock.toList,fun _ h=>h,fun _ h => .inl h,fw hown (fun u hu=>by
   obtain ⟨y,_,rfl⟩:=List.mem_map.1 hu
   rfl),by cases v'.ownBlock <;> simp,?_⟩
  intro b hbm;rcases ho.2 with ⟨rfl,_⟩ | ⟨g,cap,cur,rfl,e2,e3,_⟩
  ·simp [Value.ownBlock] at hbm
  ·simp [Value.ownBlock] at hbm;subst hbm;have hlt:b<w'.heap.size:=(Array.getElem?_eq_some_iff.1 e3).1;exact ⟨e2,hlt,fun hi=>by have:=himm b (.inl hi); omega⟩
 by_cases hne:l=[]
 ·subst hne
  cases a with
  | none =>
   refine (c0 _ c w).mono ?_;rintro e w' ⟨rfl,rfl⟩;exact fin _ _ ⟨rfl,.inl ⟨rfl,rfl⟩⟩ (RowKit.Below.refl _ _)
  | some a =>
   refine (c2 a c w).mono ?_;rintro e w' ⟨v',rfl,h1,_,h2⟩;exact fin _ _ h1 h2
 ·obtain ⟨⟨bk,o,sp⟩,rfl,hcell⟩:=hrd (by simpa using hne);have hpos:0<l.length:=List.length_pos_iff.2 hne
  have h0:w.cell? ⟨bk,o,sp⟩=some (.int .i64 l[0]):=by have:=hcell 0 (.int .i64 l[0]) (by simp [hpos]);simpa only [Addr.add,if_true] using this
  have hsp:sp=none:=by
   unfold World.cell? at h0;split at h0
   ·split at h0
    ·cases h0
    ·rename_i hs; cases sp <;> simp_all
   ·cases h0
  subst hsp;refine (c1 bk o l.length c l w (aq _) hc (fun j hj => ?_)).mono ?_
  ·have:=hcell j (.int .i64 l[j]) (by simp [hj]);rw [List.getD_eq_getElem?_getD,List.getElem?_eq_getElem hj];simp only [Addr.add] at this;by_cases hj0:j=0
   ·subst hj0; exact this
   ·rw [if_neg hj0] at this; exact this
  ·rintro e w' ⟨v',rfl,h1,_,h2⟩;rw [List.take_length] at h1;exact fin _ _ h1 h2
end Go.Abs
