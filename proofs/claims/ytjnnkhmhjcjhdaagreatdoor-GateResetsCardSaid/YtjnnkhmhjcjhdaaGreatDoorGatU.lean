import Derived.Test.YtjnnkhmhjcjhdaaGreatDoorLineM
import Derived.KernelRfl
namespace Go.Abs.Sh
set_option linter.unusedVariables false
set_option linter.unusedSimpArgs false
set_option maxRecDepth 10000
/-! One step of a block. -/
def OI (i:Nat) (q r t:Int):Int×Nat :=
 if i / 16=0 then (bits .or .u32 (bits .and .u32 q r) (bits .and .u32 (bits .xor .u32 4294967295 q) t),i)
 else if i / 16=1 then (bits .or .u32 (bits .and .u32 q t) (bits .andNot .u32 r t),(5 * i+1) % 16)
 else if i / 16=2 then (bits .xor .u32 (bits .xor .u32 q r) t,(3 * i+5) % 16)
 else (bits .xor .u32 r (bits .or .u32 q (bits .xor .u32 4294967295 t)),7 * i % 16)
theorem Tr (i:Nat) (hi:i<64) (q r t:Int):(OI i q r t).2<16:=by
 unfold OI
 split
 ·show i<16; omega
 ·split
  ·show (5 * i+1) % 16<16; omega
  ·split
   ·show (3 * i+5) % 16<16; omega
   ·show 7 * i % 16<16; omega
theorem Di (a b:Nat):((a:Int)==(b:Int))=decide (a=b):=by
 by_cases h:a=b <;> simp [h]; omega
theorem Sq (i:Nat) (hi:i<64) (q r t:Int):sC (i:Int) q r t=some ((OI i q r t).1,((OI i q r t).2:Int)):=by
 unfold sC OI
 refine dR (OH i 16 (by decide) (by omega)) ?_
 have e0:(((i / 16:Nat):Int)==0)=decide (i / 16=0):=Di _ 0
 have e1:(((i / 16:Nat):Int)==1)=decide (i / 16=1):=Di _ 1
 have e2:(((i / 16:Nat):Int)==2)=decide (i / 16=2):=Di _ 2
 rw [e0,e1,e2]
 by_cases h0:i / 16=0
 ·simp only [h0,decide_true,if_true,cond_true,Option.bind_some]
 ·simp only [h0,decide_false,if_false,cond_false]
  by_cases h1:i / 16=1
  ·simp only [h1,decide_true,if_true,cond_true]
   refine dR rfl (dR rfl (dR rfl (dR (dS (by omega) (by omega)) (dR (dS (by omega) (by omega)) ?_))))
   have:=uA (5 * i+1) 16 (by decide)
   refine dR (by simpa using this) rfl
  ·simp only [h1,decide_false,if_false,cond_false]
   by_cases h2:i / 16=2
   ·simp only [h2,decide_true,if_true,cond_true]
    refine dR rfl (dR rfl (dR (dS (by omega) (by omega)) (dR (dS (by omega) (by omega)) ?_)))
    have:=uA (3 * i+5) 16 (by decide)
    refine dR (by simpa using this) rfl
   ·simp only [h2,decide_false,if_false,cond_false]
    refine dR rfl (dR rfl (dR rfl (dR (dS (by omega) (by omega)) ?_)))
    have:=uA (7 * i) 16 (by decide)
    refine dR (by simpa using this) rfl
/-! The words of a block. -/
def jY (b:List Int):Nat→List Int
 | 0=>List.replicate 16 0
 | i+1=>(jY b i).set (i / 4) (bits .or .u32 ((jY b i).getD (i / 4) 0) (IntKind.u32.wrap (IntKind.u32.wrap (b.getD i 0) * 2 ^ (8 * (i % 4)))))
theorem tR (b:List Int):∀ i,(jY b i).length=16
 | 0=>rfl
 | i+1=>by simp only [jY,List.length_set,tR b i]
theorem iC {A:Type} {l:List A} {i:Nat} (d:A) (h:i<l.length):ga l i=some (l.getD i d):=by
 simp [ga,List.getD,h]
theorem Ni {A:Type} {l:List A} {i:Nat} (x:A) (h:i<l.length):Ie l i x=some (l.set i x):=by simp [Ie,h]
theorem As (k:IntKind) (a:Int) (m:Nat) (hm:m≤k.bits):vB k a (m:Int)=some (k.wrap (a * 2 ^ m)):=by
 simp only [vB]
 rw [if_pos (by omega)]
 simp only [Int.toNat_natCast,Nat.min_eq_left hm]
theorem Df (k:IntKind) (a:Int) (m:Nat) (hm:m≤k.bits):uJ k a (m:Int)=some (a.fdiv (2 ^ m)):=by
 simp only [uJ]
 rw [if_pos (by omega)]
 simp only [Int.toNat_natCast,Nat.min_eq_left hm]
theorem FG (a b:Nat) (c:Int) (hc:c=b) (hb:0<b) (ha:a<9223372036854775808):DE .i64 (a:Int) c=some ((a / b:Nat):Int):=by subst hc; exact OH a b hb ha
theorem Gw (a b:Nat) (c:Int) (hc:c=b) (hb:0<b):uI (a:Int) c=some ((a % b:Nat):Int):=by subst hc; exact uA a b hb
theorem iJ {A:Type} {l:List A} {n:Nat} (h:l.length=n):rX n l=some l:=by simp [rX,h]
/-! The turns. -/
def CJ (i:Nat):Nat:=[7,12,17,22,5,9,14,20,4,11,16,23,6,10,15,21].getD (i / 16 * 4+i % 4) 0
theorem Oj (j:Nat) (hj:j<16):ga ng j=some (([7,12,17,22,5,9,14,20,4,11,16,23,6,10,15,21].getD j 0:Nat):Int):=by
 revert j; decide
theorem OZ (i:Nat) (hi:i<64):CJ i≤32:=by
 revert i; decide
def Qs (w:List Int) (i:Nat) (x:Int×Int×Int×Int):Int×Int×Int×Int :=
 let z:=IntKind.u32.wrap ((OI i x.2.1 x.2.2.1 x.2.2.2).1+IntKind.u32.wrap (IntKind.u32.wrap (x.1+iK.getD i 0)+w.getD (OI i x.2.1 x.2.2.1 x.2.2.2).2 0))
 (x.2.2.2,IntKind.u32.wrap (x.2.1+bits .or .u32 (IntKind.u32.wrap (z * 2 ^ CJ i)) (z.fdiv (2 ^ (32-CJ i)))),x.2.1,x.2.2.1)
def ox (w:List Int) (x:Int×Int×Int×Int):Nat→Int×Int×Int×Int
 | 0=>x
 | i+1=>Qs w i (ox w x i)
def Wd (s:List Int) (x:Int×Int×Int×Int):List Int :=
 [IntKind.u32.wrap (s.getD 0 0+x.1),IntKind.u32.wrap (s.getD 1 0+x.2.1),IntKind.u32.wrap (s.getD 2 0+x.2.2.1),IntKind.u32.wrap (s.getD 3 0+x.2.2.2)]
def JJ (s b:List Int):List Int:=Wd s (ox (jY b 64) (s.getD 0 0,s.getD 1 0,s.getD 2 0,s.getD 3 0) 64)
theorem Mm (s b:List Int) (hs:s.length=4) (hb:b.length=64):jZ s b=some (JJ s b):=by
 unfold jZ
 refine iz (s:=jY b 64) (fU (fun i=>(jY b i,(i:Int))) 64 _ rfl (by decide) (fun i hi => ?_) ?_) ?_
 ·refine fm (decide_eq_true (by rw [hb]; omega)) ?_
  refine dR (gz (by omega)) (dR (iC 0 (by omega)) (dR (FG i 4 4 rfl (by decide) (by omega)) (dR (gz (by omega)) (dR (iC 0 (by rw [tR]; omega)) (dR rfl (dR (Gw i 4 4 rfl (by decide)) ?_))))))
  refine dR (dS (by omega) (by omega)) ?_
  have e:(8:Int) * ((i % 4:Nat):Int)=((8 * (i % 4):Nat):Int):=by omega
  rw [e]
  refine dR (As .u32 _ _ (by simp only [IntKind.bits]; omega)) (dR rfl (dR (gz (by omega)) (dR (Ni _ (by rw [tR]; omega)) (dR (dS (by omega) (by omega)) ?_))))
  simp only [jY]
  rfl
 ·refine eG (decide_eq_false (by rw [hb]; omega)) rfl
 ·refine dR (gz (i:=0) (by decide)) (dR (iC 0 (by omega)) (dR (gz (i:=1) (by decide)) (dR (iC 0 (by omega)) (dR (gz (i:=2) (by decide)) (dR (iC 0 (by omega)) (dR (gz (i:=3) (by decide)) (dR (iC 0 (by omega)) ?_)))))))
  refine iz (s:=ox (jY b 64) (s.getD 0 0,s.getD 1 0,s.getD 2 0,s.getD 3 0) 64) (fU (fun i=>((ox (jY b 64) (s.getD 0 0,s.getD 1 0,s.getD 2 0,s.getD 3 0) i).1,(ox (jY b 64) (s.getD 0 0,s.getD 1 0,s.getD 2 0,s.getD 3 0) i).2.1,(ox (jY b 64) (s.getD 0 0,s.getD 1 0,s.getD 2 0,s.getD 3 0) i).2.2.1,(ox (jY b 64) (s.getD 0 0,s.getD 1 0,s.getD 2 0,s.getD 3 0) i).2.2.2,(i:Int))) 64 _ rfl (by decide) (fun i hi => ?_) ?_) ?_
  ·generalize hx:ox (jY b 64) (s.getD 0 0,s.getD 1 0,s.getD 2 0,s.getD 3 0) i=x
   have hx1:ox (jY b 64) (s.getD 0 0,s.getD 1 0,s.getD 2 0,s.getD 3 0) (i+1)=Qs (jY b 64) i x:=by rw [← hx]; rfl
   rw [hx1]
   obtain ⟨p,q,r,t⟩:=x
   refine fm (decide_eq_true (by omega)) ?_
   refine dR (gz (by omega)) (dR (iC 0 (show i<64 from hi)) (dR (Sq i hi q r t) (dR rfl ?_)))
   have hk:=Tr i hi q r t
   refine dR (gz hk) (dR (iC 0 (by rw [tR]; exact hk)) (dR rfl (dR rfl (dR (FG i 16 16 rfl (by decide) (by omega)) (dR (Gw i 4 4 rfl (by decide)) (dR (gz (by omega)) (dR (gz (by omega)) ?_)))))))
   have hj:0+i / 16 * 4+i % 4 * 1=i / 16 * 4+i % 4:=by omega
   rw [hj]
   have ht:ga ng (i / 16 * 4+i % 4)=some ((CJ i:Nat):Int):=Oj _ (by omega)
   have hle:=OZ i hi
   refine dR ht (dR (As .u32 _ _ (by simpa [IntKind.bits] using hle)) (dR (dS (by omega) (by omega)) ?_))
   have e:(32:Int)-((CJ i:Nat):Int)=((32-CJ i:Nat):Int):=by omega
   rw [e]
   refine dR (Df .u32 _ _ (by simp only [IntKind.bits]; omega)) (dR rfl (dR rfl (dR (dS (by omega) (by omega)) ?_)))
   rfl
  ·exact eG (by decide) rfl
  ·refine dR (gz (i:=0) (by decide)) (dR (iC 0 (by omega)) (dR rfl (dR (gz (i:=1) (by decide)) (dR (iC 0 (by omega)) (dR rfl (dR (gz (i:=2) (by decide)) (dR (iC 0 (by omega)) (dR rfl (dR (gz (i:=3) (by decide)) (dR (iC 0 (by omega)) (dR rfl ?_)))))))))))
   exact dR (iJ rfl) (dR (iJ rfl) (dR (iJ rfl) rfl))
/-! The last blocks. -/
def um (n:Nat):List Int:=(List.range 8).map fun i=>IntKind.u8.wrap ((IntKind.u64.wrap ((n:Int) * 2 ^ 3)).fdiv (2 ^ (8 * i)))
def tj (m:Nat):Nat:=if 55<m then 128 else 64
def Dg (rest:List Int) (n:Nat):List Int:=rest++128::List.replicate (tj rest.length-rest.length-9) 0++um n
theorem Rw (rest:List Int) (n:Nat) (h:rest.length<64):(Dg rest n).length=tj rest.length:=by
 simp only [Dg,tj,um,List.length_append,List.length_cons,List.length_replicate,List.length_map,List.length_range]
 split <;> omega
theorem Av (k:Nat) (l:List Int) (h:l.length≤k):uz (List.replicate k (0:Int)) l=l++List.replicate (k-l.length) 0:=by
 unfold uz
 rw [List.length_replicate,Nat.min_eq_left h,List.take_length,List.drop_replicate]
theorem vI (n:Nat) (h:n<18446744073709551616):IntKind.u64.wrap (n:Int)=(n:Int):=by
 have e:IntKind.u64.wrap (n:Int)=(n:Int) % 18446744073709551616:=by
  simp only [IntKind.wrap,IntKind.bits,IntKind.signed]
  have e:(2:Int) ^ 64=18446744073709551616:=by decide
  simp only [e,Bool.false_and,Bool.false_eq_true,if_false]
 rw [e]; omega
theorem Jx {A:Type} (a:List A) (x y:A) (r:List A) (i:Nat) (h:i=a.length):(a++x::r).set i y=a++y::r:=by
 subst h; rw [List.set_append_right _ _ (Nat.le_refl _)]; simp
theorem PG (rest:List Int) (n:Nat) (h:rest.length<64) (hn:n<1000000000):pM rest (n:Int)=some (Dg rest n):=by
 unfold pM
 refine iz (s:=((tj rest.length:Nat):Int)) ?_ ?_
 ·refine dR (dS (by omega) (by omega)) (dR (dS (by omega) (by omega)) ?_)
  by_cases h1:55<rest.length
  ·refine fm (decide_eq_true (by omega)) ?_
   simp only [tj,if_pos h1]; rfl
  ·refine eG (decide_eq_false (by omega)) ?_
   simp only [tj,if_neg h1]; rfl
 generalize hm:tj rest.length=m
 have hm1:rest.length+9≤m∧m≤128:=by rw [← hm]; unfold tj; split <;> omega
 have hmk:Vn 1 (m:Int) (0:Int)=some (List.replicate m 0):=by
  unfold Vn
  rw [if_pos (by simp only [Int.toNat_natCast]; omega),Int.toNat_natCast]
 refine dR hmk (dR rfl ?_)
 rw [Av m rest (by omega)]
 refine dR (gz (by simp only [List.length_append,List.length_replicate]; omega)) (dR rfl (dR rfl (dR (As .u64 _ 3 (by decide)) ?_)))
 rw [vI n (by omega)]
 obtain ⟨z,hz⟩:∃ z,m-rest.length=z+9:=⟨m-rest.length-9,by omega⟩
 have hset:(rest++List.replicate (m-rest.length) (0:Int)).set rest.length 128=rest++128::List.replicate (z+8) 0:=by
  rw [hz,List.replicate_succ]
  exact Jx rest 0 128 _ _ rfl
 rw [hset]
 refine iz (s:=Dg rest n) (fU (fun i=>(rest++128::List.replicate z 0++((um n).take i++List.replicate (8-i) 0),(i:Int))) 8 _ ?_ (by decide) (fun i hi => ?_) ?_) ?_
 ·simp only [List.take_zero,List.nil_append,Nat.sub_zero,List.append_assoc,List.cons_append,List.replicate_append_replicate]
  rfl
 ·have hl8:(um n).length=8:=rfl
  refine fm (decide_eq_true (by omega)) ?_
  refine dR (dS (by omega) (by omega)) (dR (dS (by omega) (by omega)) (dR (dS (by omega) (by omega)) ?_))
  have e:(8:Int) * (i:Int)=((8 * i:Nat):Int):=by omega
  rw [e]
  refine dR (Df .u64 _ _ (by simp only [IntKind.bits]; omega)) (dR rfl ?_)
  have e2:(m:Int)-8+(i:Int)=((m-8+i:Nat):Int):=by omega
  rw [e2]
  refine dR (gz (by simp only [List.length_append,List.length_cons,List.length_replicate,List.length_take,hl8]; omega)) (dR rfl (dR (dS (by omega) (by omega)) ?_))
  obtain ⟨q,hq⟩:∃ q,8-i=q+1:=⟨8-i-1,by omega⟩
  have hq':8-(i+1)=q:=by omega
  rw [hq,hq',List.replicate_succ]
  have ht:(um n).take (i+1)=(um n).take i++[IntKind.u8.wrap ((IntKind.u64.wrap ((n:Int) * 2 ^ 3)).fdiv (2 ^ (8 * i)))]:=by
   rw [List.take_add_one]
   congr 1
   simp only [um,List.getElem?_map,List.getElem?_range hi,Option.map_some,Option.toList_some]
  rw [ht]
  have:=Jx (rest++128::List.replicate z 0++(um n).take i) (0:Int) (IntKind.u8.wrap ((IntKind.u64.wrap ((n:Int) * 2 ^ 3)).fdiv (2 ^ (8 * i)))) (List.replicate q 0) (m-8+i) (by
   simp only [List.length_append,List.length_cons,List.length_replicate,List.length_take,hl8]; omega)
  simp only [List.append_assoc,List.cons_append,List.nil_append] at this ⊢
  rw [this]
  rfl
 ·refine eG (by decide) ?_
  have:(um n).take 8=um n:=rfl
  rw [this]
  simp only [Nat.sub_self,List.replicate_zero,List.append_nil,Dg]
  have:tj rest.length-rest.length-9=z:=by omega
  rw [this]
 ·rfl
/-! A row,block by block. -/
def sR (s l:List Int):Nat→List Int
 | 0=>s
 | i+1=>JJ (sR s l i) ((l.drop (64 * i)).take 64)
theorem pI (s l:List Int) (hs:s.length=4):∀ i,(sR s l i).length=4
 | 0=>hs
 | i+1=>rfl
def ur:List Int:=[1732584193,4023233417,2562383102,271733878]
def EK (s:List Int):List Int:=(List.range 16).map fun i=>IntKind.u8.wrap ((s.getD (i / 4) 0).fdiv (2 ^ (8 * (i % 4))))
theorem Mf (s:List Int):(EK s).length=16:=rfl
def Gk (b:List Int):List Int :=
 EK (sR (sR ur b (b.length / 64)) (Dg (b.drop (b.length / 64 * 64)) b.length) (tj (b.length % 64) / 64))
theorem rk (b:List Int):(Gk b).length=16:=rfl
theorem LR (s:List Int) (hs:s.length=4) {A:Type} {f:List Int×Int→Option ((List Int×Int)⊕(List Int⊕A))}
  (hf:∀ (l:List Int) (i:Nat),i<16→l.length=16→f (l,(i:Int))=some (.inl (l.set i (IntKind.u8.wrap ((s.getD (i / 4) 0).fdiv (2 ^ (8 * (i % 4))))),((i+1:Nat):Int)))) (he:∀ l,f (l,16)=some (.inr (.inl l))) :
  fN f qB (List.replicate 16 0,0)=some (.inl (EK s)):=by
 refine fU (fun i=>((EK s).take i++List.replicate (16-i) 0,(i:Int))) 16 _ rfl (by decide) (fun i hi => ?_) ?_
 ·have hl:((EK s).take i).length=i:=by rw [List.length_take,Mf]; omega
  rw [hf _ i hi (by rw [List.length_append,hl,List.length_replicate]; omega)]
  obtain ⟨q,hq⟩:∃ q,16-i=q+1:=⟨16-i-1,by omega⟩
  have hq':16-(i+1)=q:=by omega
  rw [hq,hq',List.replicate_succ,Jx _ _ _ _ i hl.symm]
  have ht:(EK s).take (i+1)=(EK s).take i++[IntKind.u8.wrap ((s.getD (i / 4) 0).fdiv (2 ^ (8 * (i % 4))))]:=by
   rw [List.take_add_one]
   congr 1
   simp only [EK,List.getElem?_map,List.getElem?_range hi,Option.map_some,Option.toList_some]
  rw [ht,List.append_assoc]
  rfl
 ·rw [show ((EK s).take 16++List.replicate (16-16) (0:Int))=EK s from by rw [List.take_of_length_le (by rw [Mf]; decide)]; simp]
  exact he _
theorem Nc (b:List Int) (hb:b.length<100000000):ql b=some (Gk b):=by
 unfold ql
 refine dR (iJ rfl) (dR (iJ rfl) (dR (FG _ 64 64 rfl (by decide) (by omega)) (dR (dS (by omega) (by omega)) ?_)))
 have e:((b.length / 64:Nat):Int) * 64=((b.length / 64 * 64:Nat):Int):=by omega
 rw [e]
 have hdm:=Nat.div_add_mod b.length 64
 refine iz (s:=sR ur b (b.length / 64)) (fU (fun i=>(sR ur b i,((64 * i:Nat):Int))) (b.length / 64) _ rfl (by simp only [qB]; omega) (fun i hi => ?_) ?_) ?_
 ·refine fm (decide_eq_true (by omega)) ?_
  refine dR (iJ (pI _ _ rfl i)) (dR (dS (by omega) (by omega)) ?_)
  have e:((64 * i:Nat):Int)+64=((64 * i+64:Nat):Int):=by omega
  rw [e]
  refine dR (Cu b (by omega) (by omega)) ?_
  rw [show 64 * i+64-64 * i=64 by omega]
  refine dR (Mm _ _ (pI _ _ rfl i) (by simp only [List.length_take,List.length_drop]; omega)) (dR (iJ (pI _ _ rfl i)) (dR (iJ rfl) (dR (dS (by omega) (by omega)) ?_)))
  rw [show 64 * (i+1)=64 * i+64 by omega]
  simp only [sR]
 ·exact eG (decide_eq_false (by omega)) rfl
 have hsl:vh b ((b.length / 64 * 64:Nat):Int) (b.length:Int)=some (b.drop (b.length / 64 * 64)):=by
  rw [Cu b (by omega) (Nat.le_refl _),List.take_of_length_le (by rw [List.length_drop]; omega)]
 refine dR hsl ?_
 have hrl:(b.drop (b.length / 64 * 64)).length=b.length % 64:=by rw [List.length_drop]; omega
 have hlt:b.length % 64<64:=Nat.mod_lt _ (by decide)
 refine dR (PG _ b.length (by omega) (by omega)) ?_
 generalize hs1:sR ur b (b.length / 64)=s1
 have hs1l:s1.length=4:=by rw [← hs1]; exact pI _ _ rfl _
 have hpl:=Rw (b.drop (b.length / 64 * 64)) b.length (by omega)
 rw [hrl] at hpl
 have hp2:tj (b.length % 64)=tj (b.length % 64) / 64 * 64∧tj (b.length % 64)≤128:=by unfold tj; split <;> decide
 refine iz (s:=sR s1 (Dg (b.drop (b.length / 64 * 64)) b.length) (tj (b.length % 64) / 64)) (fU (fun i=>(sR s1 (Dg (b.drop (b.length / 64 * 64)) b.length) i,Dg (b.drop (b.length / 64 * 64)) b.length,((64 * i:Nat):Int))) (tj (b.length % 64) / 64) _ rfl (by simp only [qB]; omega) (fun i hi => ?_) ?_) ?_
 ·refine fm (decide_eq_true (by rw [hpl]; omega)) ?_
  refine dR (iJ (pI _ _ hs1l i)) (dR (dS (by omega) (by omega)) ?_)
  have e:((64 * i:Nat):Int)+64=((64 * i+64:Nat):Int):=by omega
  rw [e]
  refine dR (Cu _ (by omega) (by omega)) ?_
  rw [show 64 * i+64-64 * i=64 by omega]
  refine dR (Mm _ _ (pI _ _ hs1l i) (by simp only [List.length_take,List.length_drop,hpl]; omega)) (dR (iJ (pI _ _ hs1l i)) (dR (iJ rfl) (dR (dS (by omega) (by omega)) ?_)))
  rw [show 64 * (i+1)=64 * i+64 by omega]
  simp only [sR]
 ·exact eG (decide_eq_false (by rw [hpl]; omega)) rfl
 have hs2l:=pI s1 (Dg (b.drop (b.length / 64 * 64)) b.length) hs1l (tj (b.length % 64) / 64)
 unfold Gk
 rw [hs1]
 generalize sR s1 (Dg (b.drop (b.length / 64 * 64)) b.length) (tj (b.length % 64) / 64)=s2 at hs2l
 refine iz (LR s2 hs2l (fun l i hi hl => ?_) (fun l=>eG (by decide) rfl)) ?_
 ·refine fm (decide_eq_true (by omega)) ?_
  refine dR (FG i 4 4 rfl (by decide) (by omega)) (dR (gz (by omega)) (dR (iC 0 (by omega)) (dR (Gw i 4 4 rfl (by decide)) (dR (dS (by omega) (by omega)) ?_))))
  have e:(8:Int) * ((i % 4:Nat):Int)=((8 * (i % 4):Nat):Int):=by omega
  rw [e]
  refine dR (Df .u32 _ _ (by simp only [IntKind.bits]; omega)) (dR rfl (dR (gz hi) (dR (Ni _ (by omega)) (dR (dS (by omega) (by omega)) rfl))))
 ·exact dR (iJ rfl) (dR (iJ rfl) (dR (iJ rfl) (dR (iJ rfl) rfl)))
def Bz (key:List Int):List Int:=if 64<key.length then uz (List.replicate 64 0) (Gk key) else uz (List.replicate 64 0) key
theorem LW (k:Nat) (l:List Int) (h:l.length≤k):(uz (List.replicate k (0:Int)) l).length=k:=by
 rw [Av k l h]; simp only [List.length_append,List.length_replicate]; omega
theorem Mk (key:List Int):(Bz key).length=64:=by
 unfold Bz
 split
 ·exact LW _ _ (by rw [rk]; decide)
 ·exact LW _ _ (by omega)
def Gb (k text:List Int):List Int :=
 Gk (k.map (fun x=>bits .xor .u8 x 92)++Gk (k.map (fun x=>bits .xor .u8 x 54)++text))
theorem PF (k t:List Int):(Gb k t).length=16:=rfl
theorem Qo (key text:List Int) (hk:key.length<1000000) (ht:text.length<1000000):rM key text=some (Gb (Bz key) text):=by
 unfold rM
 refine iz (s:=Bz key) ?_ ?_
 ·unfold Bz
  by_cases h:64<key.length
  ·refine fm (decide_eq_true (by omega)) ?_
   rw [if_pos h]
   exact dR (Nc key (by omega)) (dR (iJ rfl) (dR (iJ rfl) (dR (iJ rfl) (dR (iJ rfl) rfl))))
  ·refine eG (decide_eq_false (by omega)) ?_
   rw [if_neg h]
   exact dR (iJ rfl) rfl
 ·have hkl:=Mk key
  generalize Bz key=k at hkl
  refine dR (dS (by omega) (by omega)) (dR (x:=()) (by unfold QX; rw [if_pos (by omega)]) (dR (x:=()) rfl (dR (iJ hkl) ?_)))
  refine iz (s:=(k.map (fun x=>bits .xor .u8 x 54),k.map (fun x=>bits .xor .u8 x 92))) (fU (fun i=>((k.take i).map (fun x=>bits .xor .u8 x 54),(k.take i).map (fun x=>bits .xor .u8 x 92),(i:Int))) 64 _ rfl (by decide) (fun i hi => ?_) ?_) ?_
  ·refine fm (decide_eq_true (by omega)) ?_
   have hg:k[i]? = some (k.getD i 0):=iC 0 (by omega)
   refine dR (gz hi) (dR hg (dR rfl ?_))
   refine dR (nu (by simp only [List.length_map,List.length_take,List.length_cons,List.length_nil]; omega) (by simp only [List.length_map,List.length_take,List.length_cons,List.length_nil]; omega)) (dR rfl (dR (nu (by simp only [List.length_map,List.length_take,List.length_cons,List.length_nil]; omega) (by simp only [List.length_map,List.length_take,List.length_cons,List.length_nil]; omega)) (dR (dS (by omega) (by omega)) ?_)))
   rw [List.take_add_one,hg]
   simp only [Option.toList_some,List.map_append,List.map_cons,List.map_nil]
   rfl
  ·refine eG (by decide) ?_
   rw [List.take_of_length_le (by omega)]
  ·refine dR (nu (by simp only [List.length_map]; omega) (by simp only [List.length_map]; omega)) (dR (Nc _ (by simp only [List.length_append,List.length_map]; omega)) (dR (iJ rfl) (dR (iJ rfl) (dR (iJ rfl) ?_))))
   refine dR (nu (by simp only [List.length_map,rk]; omega) (by simp only [List.length_map,rk]; omega)) (dR (Nc _ (by simp only [List.length_append,List.length_map,rk]; omega)) (dR (iJ rfl) (dR (iJ rfl) (dR (iJ rfl) ?_))))
   rfl
theorem Jz (l:List Int) (h:l.length≤1000000):ku l=some l:=by
 unfold ku
 exact dR (nu (by simp only [List.length_nil]; omega) (by simp only [List.length_nil]; omega)) rfl
theorem GI (n:Int):IntKind.u32.wrap n=n % 4294967296:=by
 simp only [IntKind.wrap,IntKind.bits,IntKind.signed]
 have e:(2:Int) ^ 32=4294967296:=by decide
 simp only [e,Bool.false_and,Bool.false_eq_true,if_false]
theorem OY (x:BitVec 32):IntKind.u32.wrap (x.toNat:Int)=(x.toNat:Int):=by
 rw [GI]; have:=x.isLt; omega
theorem QE (x:BitVec 32):BitVec.ofInt 32 (x.toNat:Int)=x:=by
 rw [BitVec.ofInt_natCast,BitVec.ofNat_toNat,BitVec.setWidth_eq]
theorem XH (y:Int):bits .or .u32 0 (IntKind.u32.wrap y)=IntKind.u32.wrap y:=by
 show IntKind.u32.wrap ((BitVec.ofInt 32 0 ||| BitVec.ofInt 32 (IntKind.u32.wrap y)).toNat:Int)=_
 have h0:BitVec.ofInt 32 0=0#32:=by decide
 rw [h0,BitVec.zero_or,OY,GI]
 obtain ⟨m,hm⟩:∃ m:Nat,y % 4294967296=(m:Int):=⟨(y % 4294967296).toNat,by omega⟩
 rw [hm,BitVec.ofInt_natCast,BitVec.toNat_ofNat]
 omega
theorem Ug (r t:Int):bits .andNot .u32 r t=bits .and .u32 (bits .xor .u32 4294967295 t) r:=by
 show IntKind.u32.wrap ((BitVec.ofInt 32 r &&& ~~~ BitVec.ofInt 32 t).toNat:Int)=IntKind.u32.wrap ((BitVec.ofInt 32 (IntKind.u32.wrap ((BitVec.ofInt 32 4294967295 ^^^ BitVec.ofInt 32 t).toNat:Int)) &&& BitVec.ofInt 32 r).toNat:Int)
 rw [OY (BitVec.ofInt 32 4294967295 ^^^ BitVec.ofInt 32 t),QE]
 generalize BitVec.ofInt 32 r=x
 generalize BitVec.ofInt 32 t=y
 congr 2
 have h1:BitVec.ofInt 32 4294967295=BitVec.allOnes 32:=by decide
 rw [h1]
 congr 1
 rw [BitVec.allOnes_xor,BitVec.and_comm]
/-! The words. -/
def Cd (b:List Int) (g:Nat):Nat→Int
 | 0=>0
 | k+1=>if k<4 then bits .or .u32 (Cd b g k) (IntKind.u32.wrap (IntKind.u32.wrap (b.getD (4 * g+k) 0) * 2 ^ (8 * k))) else Cd b g k
theorem Gp (b:List Int) (g:Nat) (hg:g<16):∀ n,n≤64→(jY b n).getD g 0=Cd b g (n-4 * g)
 | 0,_=>by
  rw [Nat.zero_sub]
  simp only [jY,Cd,List.getD,List.getElem?_replicate,if_pos hg,Option.getD_some]
 | n+1,h=>by
  have ih:=Gp b g hg n (by omega)
  simp only [jY]
  have hl:=tR b n
  by_cases e:n / 4=g
  ·have hset:((jY b n).set (n / 4) (bits .or .u32 ((jY b n).getD (n / 4) 0) (IntKind.u32.wrap (IntKind.u32.wrap (b.getD n 0) * 2 ^ (8 * (n % 4)))))).getD g 0=bits .or .u32 ((jY b n).getD g 0) (IntKind.u32.wrap (IntKind.u32.wrap (b.getD n 0) * 2 ^ (8 * (n % 4)))):=by
    rw [e,List.getD,List.getElem?_set_self (by omega)]; rfl
   rw [hset,ih]
   have h1:n+1-4 * g=n % 4+1:=by omega
   have h2:n-4 * g=n % 4:=by omega
   rw [h1,h2]
   simp only [Cd]
   rw [if_pos (by omega),show 4 * g+n % 4=n by omega]
  ·have hset:((jY b n).set (n / 4) (bits .or .u32 ((jY b n).getD (n / 4) 0) (IntKind.u32.wrap (IntKind.u32.wrap (b.getD n 0) * 2 ^ (8 * (n % 4)))))).getD g 0=(jY b n).getD g 0:=by
    rw [List.getD,List.getElem?_set_ne e]; rfl
   rw [hset,ih]
   by_cases h3:n<4 * g
   ·rw [show n+1-4 * g=0 by omega,show n-4 * g=0 by omega]
   ·obtain ⟨k,hk⟩:∃ k,n-4 * g=k:=⟨_,rfl⟩
    rw [show n+1-4 * g=k+1 by omega,hk]
    simp only [Cd]
    rw [if_neg (by omega)]
theorem vL (x:List Int) (a i:Nat) (hi:i<64):((x.drop a).take 64).getD i 0=x.getD (a+i) 0:=by
 simp only [List.getD,List.getElem?_take,List.getElem?_drop,if_pos hi]
theorem SI (x:List Int) (a g:Nat) (hg:g<16) (ha:a+64≤x.length) (hx:x.length<1000000000) :
  mO x ((a+4 * g:Nat):Int)=some ((jY ((x.drop a).take 64) 64).getD g 0):=by
 unfold mO
 refine dR (gz (by omega)) (dR (iC 0 (by omega)) (dR rfl (dR (dS (by omega) (by omega)) ?_)))
 have e1:((a+4 * g:Nat):Int)+1=((a+4 * g+1:Nat):Int):=by omega
 have e2:((a+4 * g:Nat):Int)+2=((a+4 * g+2:Nat):Int):=by omega
 have e3:((a+4 * g:Nat):Int)+3=((a+4 * g+3:Nat):Int):=by omega
 rw [e1,e2,e3]
 refine dR (gz (by omega)) (dR (iC 0 (by omega)) (dR rfl (dR (As .u32 _ 8 (by decide)) (dR rfl (dR (dS (by omega) (by omega)) ?_)))))
 refine dR (gz (by omega)) (dR (iC 0 (by omega)) (dR rfl (dR (As .u32 _ 16 (by decide)) (dR rfl (dR (dS (by omega) (by omega)) ?_)))))
 refine dR (gz (by omega)) (dR (iC 0 (by omega)) (dR rfl (dR (As .u32 _ 24 (by decide)) (dR rfl ?_))))
 rw [Gp _ g hg 64 (Nat.le_refl _)]
 have hp:∀ b:List Int,∀ k,Cd b g (4+k)=bits .or .u32 (bits .or .u32 (bits .or .u32 (IntKind.u32.wrap (b.getD (4 * g) 0)) (IntKind.u32.wrap (IntKind.u32.wrap (b.getD (4 * g+1) 0) * 2 ^ 8))) (IntKind.u32.wrap (IntKind.u32.wrap (b.getD (4 * g+2) 0) * 2 ^ 16))) (IntKind.u32.wrap (IntKind.u32.wrap (b.getD (4 * g+3) 0) * 2 ^ 24)):=by
  intro b k
  induction k with
  | zero =>
   simp only [Cd,Nat.reduceLT,if_true,Nat.mul_zero,Int.pow_zero,Int.mul_one,Nat.add_zero,Nat.mul_one,Nat.reduceMul]
   rw [XH]
   have:IntKind.u32.wrap (IntKind.u32.wrap (b.getD (4 * g) 0))=IntKind.u32.wrap (b.getD (4 * g) 0):=by rw [GI,GI]; omega
   rw [this]
  | succ k ih =>
   rw [show 4+(k+1)=(4+k)+1 by omega]
   simp only [Cd]
   rw [if_neg (by omega),ih]
 rw [show 64-4 * g=4+(60-4 * g) by omega,hp,vL x a (4 * g) (by omega),vL x a (4 * g+1) (by omega),vL x a (4 * g+2) (by omega),vL x a (4 * g+3) (by omega)]
 rfl
theorem Rm (i:Nat) (hi:i<64):lF (i:Int)=some ((CJ i:Nat):Int):=by
 unfold lF
 refine dR (FG i 16 16 rfl (by decide) (by omega)) (dR (dS (by omega) (by omega)) (dR (Gw i 4 4 rfl (by decide)) (dR (dS (by omega) (by omega)) ?_)))
 have e:((i / 16:Nat):Int) * 4+((i % 4:Nat):Int)=((i / 16 * 4+i % 4:Nat):Int):=by omega
 rw [e]
 refine dR (gz (by simp only [List.length_cons,List.length_nil]; omega)) (dR (Oj _ (by omega)) rfl)
/-! A block of the page. -/
def JT (b:List Int):List Int:=b++128::List.replicate (tj (b.length % 64)-b.length % 64-9) 0++um b.length
theorem Qt (b:List Int):(JT b).length=64 * (b.length / 64+tj (b.length % 64) / 64):=by
 have hlt:b.length % 64<64:=Nat.mod_lt _ (by decide)
 have hdm:=Nat.div_add_mod b.length 64
 simp only [JT,um,List.length_append,List.length_cons,List.length_replicate,List.length_map,List.length_range]
 unfold tj
 split <;> omega
theorem RD (b:List Int):JT b=b.take (b.length / 64 * 64)++Dg (b.drop (b.length / 64 * 64)) b.length:=by
 have hrl:(b.drop (b.length / 64 * 64)).length=b.length % 64:=by rw [List.length_drop]; omega
 simp only [JT,Dg,hrl]
 rw [← List.append_assoc,← List.append_assoc,List.take_append_drop]
theorem JY (s l1 l2:List Int):∀ k,64 * k≤l1.length→sR s (l1++l2) k=sR s l1 k
 | 0,_=>rfl
 | k+1,h=>by
  simp only [sR]
  rw [JY s l1 l2 k (by omega),List.drop_append_of_le_length (by omega),List.take_append_of_le_length (by rw [List.length_drop]; omega)]
theorem KK (s l1 l2:List Int) (k:Nat) (h:l1.length=64 * k):∀ j,sR s (l1++l2) (k+j)=sR (sR s (l1++l2) k) l2 j
 | 0=>rfl
 | j+1=>by
  rw [← Nat.add_assoc]
  simp only [sR]
  rw [KK s l1 l2 k h j,List.drop_append,List.drop_of_length_le (by omega),List.nil_append,h,show 64 * (k+j)-64 * k=64 * j by omega]
theorem QY (b:List Int):Gk b=EK (sR ur (JT b) (b.length / 64+tj (b.length % 64) / 64)):=by
 have h1:(b.take (b.length / 64 * 64)).length=64 * (b.length / 64):=by rw [List.length_take]; omega
 rw [RD,KK _ _ _ _ h1,JY _ _ _ _ (by omega)]
 unfold Gk
 congr 2
 have:=JY ur (b.take (b.length / 64 * 64)) (b.drop (b.length / 64 * 64)) (b.length / 64) (by omega)
 rw [List.take_append_drop] at this
 exact this
theorem TQ:nY=some iK:=rfl
theorem VV (a w k f:Int):IntKind.u32.wrap (IntKind.u32.wrap (IntKind.u32.wrap (f+a)+k)+w)=IntKind.u32.wrap (f+IntKind.u32.wrap (IntKind.u32.wrap (a+k)+w)):=by
 simp only [GI]; omega
theorem WJ (s:List Int) (hs:s.length=4) (a b c d:Int):(((s.set 0 a).set 1 b).set 2 c).set 3 d=[a,b,c,d]:=by
 match s,hs with
 | [x,y,z,t],_=>rfl
theorem Ks (b:List Int) (hb:b.length<1000000):kv b=some (Gk b):=by
 unfold kv
 have hlt:b.length % 64<64:=Nat.mod_lt _ (by decide)
 have hdm:=Nat.div_add_mod b.length 64
 have hp:tj (b.length % 64)=if 55<b.length % 64 then 128 else 64:=rfl
 obtain ⟨z,hz⟩:∃ z,tj (b.length % 64)-b.length % 64-9=z:=⟨_,rfl⟩
 refine dR (Jz b (by omega)) (dR (nu (by simp only [List.length_cons,List.length_nil]; omega) (by simp only [List.length_cons,List.length_nil]; omega)) ?_)
 refine iz (s:=b++128::List.replicate z 0) (fU (fun i=>b++128::List.replicate i 0) z _ rfl (by simp only [qB]; split at hp <;> omega) (fun i hi => ?_) ?_) ?_
 ·have hl:(b++128::List.replicate i (0:Int)).length=b.length+1+i:=by simp; omega
  rw [hl]
  refine dR (Gw _ 64 64 rfl (by decide)) (fm ?_ ?_)
  ·rw [bne_iff_ne]; split at hp <;> omega
  ·refine dR (nu (by rw [hl]; simp only [List.length_cons,List.length_nil]; split at hp <;> omega) (by rw [hl]; simp only [List.length_cons,List.length_nil]; split at hp <;> omega)) ?_
   rw [List.append_assoc,List.cons_append,← List.replicate_succ']
 ·have hl:(b++128::List.replicate z (0:Int)).length=b.length+1+z:=by simp; omega
  rw [hl]
  refine dR (Gw _ 64 64 rfl (by decide)) (eG ?_ rfl)
  rw [bne_eq_false_iff_eq]; split at hp <;> omega
 have hxe:JT b=b++128::List.replicate z 0++um b.length:=by simp only [JT,hz]
 have hxl:=Qt b
 have hzle:z≤64:=by split at hp <;> omega
 refine iz (s:=JT b) (fU (fun i=>(b++128::List.replicate z 0++(um b.length).take i,(i:Int))) 8 _ (by simp) (by decide) (fun i hi => ?_) ?_) ?_
 ·refine fm (decide_eq_true (by omega)) ?_
  have e8:(8:Int) * (b.length:Int)=((8 * b.length:Nat):Int):=by omega
  have e8':(8:Int) * (i:Int)=((8 * i:Nat):Int):=by omega
  refine dR (dS (by omega) (by omega)) ?_
  rw [e8,vI _ (by omega)]
  refine dR rfl (dR (dS (by omega) (by omega)) ?_)
  rw [e8',vI _ (by omega)]
  refine dR rfl (dR (Df .u64 _ _ (by simp only [IntKind.bits]; omega)) (dR rfl ?_))
  have hl:(b++128::List.replicate z 0++(um b.length).take i).length≤b.length+100:=by
   have h8:((um b.length).take i).length≤8:=by rw [List.length_take]; simp only [um,List.length_map,List.length_range]; omega
   simp only [List.length_append,List.length_cons,List.length_replicate]
   omega
  refine dR (nu (by simp only [List.length_cons,List.length_nil]; omega) (by simp only [List.length_cons,List.length_nil]; omega)) (dR (dS (by omega) (by omega)) ?_)
  have ht:(um b.length).take (i+1)=(um b.length).take i++[IntKind.u8.wrap ((IntKind.u64.wrap ((b.length:Int) * 2 ^ 3)).fdiv (2 ^ (8 * i)))]:=by
   rw [List.take_add_one]
   congr 1
   simp only [um,List.getElem?_map,List.getElem?_range hi,Option.map_some,Option.toList_some]
  have e3:(b.length:Int) * 2 ^ 3=((8 * b.length:Nat):Int):=by omega
  rw [ht,← List.append_assoc,e3,vI _ (by omega)]
  rfl
 ·refine eG (by decide) ?_
  have:(um b.length).take 8=um b.length:=rfl
  rw [this,← hxe]
 refine dR TQ ?_
 generalize hm:b.length / 64+tj (b.length % 64) / 64=m at hxl
 have hml:m≤100000:=by split at hp <;> omega
 have hsr:=QY b
 rw [hm] at hsr
 rw [hsr]
 generalize JT b=x at hxl
 refine iz (s:=sR ur x m) (fU (fun i=>(sR ur x i,((64 * i:Nat):Int))) m _ rfl (by simp only [qB]; omega) (fun i hi => ?_) ?_) ?_
 ·have hsl:=pI ur x rfl i
  have hstep:sR ur x (i+1)=JJ (sR ur x i) ((x.drop (64 * i)).take 64):=rfl
  rw [hstep]
  generalize sR ur x i=s at hsl
  refine fm (decide_eq_true (by rw [hxl]; omega)) ?_
  refine dR (gz (i:=0) (by omega)) (dR (iC 0 (by omega)) (dR (gz (i:=1) (by omega)) (dR (iC 0 (by omega)) (dR (gz (i:=2) (by omega)) (dR (iC 0 (by omega)) (dR (gz (i:=3) (by omega)) (dR (iC 0 (by omega)) ?_)))))))
  generalize hW:jY ((x.drop (64 * i)).take 64) 64=W
  refine iz (s:=ox W (s.getD 0 0,s.getD 1 0,s.getD 2 0,s.getD 3 0) 64) (fU (fun j=>((ox W (s.getD 0 0,s.getD 1 0,s.getD 2 0,s.getD 3 0) j).1,(ox W (s.getD 0 0,s.getD 1 0,s.getD 2 0,s.getD 3 0) j).2.1,(ox W (s.getD 0 0,s.getD 1 0,s.getD 2 0,s.getD 3 0) j).2.2.1,(ox W (s.getD 0 0,s.getD 1 0,s.getD 2 0,s.getD 3 0) j).2.2.2,(j:Int))) 64 _ rfl (by decide) (fun j hj => ?_) ?_) ?_
  ·have hx1:ox W (s.getD 0 0,s.getD 1 0,s.getD 2 0,s.getD 3 0) (j+1)=Qs W j (ox W (s.getD 0 0,s.getD 1 0,s.getD 2 0,s.getD 3 0) j):=rfl
   rw [hx1]
   generalize ox W (s.getD 0 0,s.getD 1 0,s.getD 2 0,s.getD 3 0) j=y
   obtain ⟨p,q,r,t⟩:=y
   refine fm (decide_eq_true (by omega)) ?_
   refine iz (s:=((OI j q r t).1,((OI j q r t).2:Int))) ?_ ?_
   ·refine dR (FG j 16 16 rfl (by decide) (by omega)) ?_
    refine iz (s:=((OI j q r t).1,((OI j q r t).2:Int))) ?_ rfl
    have e0:(((j / 16:Nat):Int)==0)=decide (j / 16=0):=Di _ 0
    have e1:(((j / 16:Nat):Int)==1)=decide (j / 16=1):=Di _ 1
    have e2:(((j / 16:Nat):Int)==2)=decide (j / 16=2):=Di _ 2
    unfold OI
    rw [e0,e1,e2]
    by_cases h0:j / 16=0
    ·simp only [h0,decide_true,if_true,cond_true,Option.bind_some]
    ·simp only [h0,decide_false,if_false,cond_false]
     by_cases h1:j / 16=1
     ·simp only [h1,decide_true,if_true,cond_true]
      rw [Ug,show bits .and .u32 q t=bits .and .u32 t q from by show IntKind.u32.wrap _=IntKind.u32.wrap _; rw [BitVec.and_comm]]
      refine dR rfl (dR rfl (dR rfl (dR rfl (dR (dS (by omega) (by omega)) (dR (dS (by omega) (by omega)) ?_)))))
      have:=uA (5 * j+1) 16 (by decide)
      refine dR (by simpa using this) rfl
     ·simp only [h1,decide_false,if_false,cond_false]
      by_cases h2:j / 16=2
      ·simp only [h2,decide_true,if_true,cond_true]
       refine dR rfl (dR rfl (dR (dS (by omega) (by omega)) (dR (dS (by omega) (by omega)) ?_)))
       have:=uA (3 * j+5) 16 (by decide)
       refine dR (by simpa using this) rfl
      ·simp only [h2,decide_false,if_false,cond_false]
       refine dR rfl (dR rfl (dR rfl (dR (dS (by omega) (by omega)) ?_)))
       have:=uA (7 * j) 16 (by decide)
       refine dR (by simpa using this) rfl
   ·have hk:=Tr j hj q r t
    refine dR rfl (dR (gz (show j<iK.length from hj)) (dR (iC 0 (show j<iK.length from hj)) (dR rfl (dR (dS (by omega) (by omega)) (dR (dS (by omega) (by omega)) ?_)))))
    have ea:((64 * i:Nat):Int)+4 * ((OI j q r t).2:Int)=((64 * i+4 * (OI j q r t).2:Nat):Int):=by omega
    rw [ea]
    refine dR (SI x (64 * i) _ hk (by rw [hxl]; omega) (by rw [hxl]; omega)) ?_
    rw [hW]
    have hle:=OZ j hj
    refine dR rfl (dR (Rm j hj) (dR (As .u32 _ _ (by simpa [IntKind.bits] using hle)) ?_))
    have e:(32:Int)-((CJ j:Nat):Int)=((32-CJ j:Nat):Int):=by omega
    rw [e,vI _ (by omega)]
    refine dR rfl (dR (Df .u32 _ _ (by simp only [IntKind.bits]; omega)) (dR rfl (dR rfl (dR (dS (by omega) (by omega)) ?_))))
    rw [VV]
    rfl
  ·exact eG (by decide) rfl
  ·have h0:∀ (l:List Int) (k:Nat),l.length=4→k<4→lL ((k:Nat):Int) l.length=some k:=fun l k hl hk=>gz (by omega)
   refine dR (h0 s 0 hsl (by decide)) (dR (iC 0 (by omega)) (dR rfl (dR (h0 s 1 hsl (by decide)) (dR (iC 0 (by omega)) (dR rfl (dR (h0 s 2 hsl (by decide)) (dR (iC 0 (by omega)) (dR rfl (dR (h0 s 3 hsl (by decide)) (dR (iC 0 (by omega)) (dR rfl ?_)))))))))))
   refine dR (h0 s 0 hsl (by decide)) (dR rfl (dR (h0 _ 1 (by simpa using hsl) (by decide)) (dR rfl (dR (h0 _ 2 (by simpa using hsl) (by decide)) (dR rfl (dR (h0 _ 3 (by simpa using hsl) (by decide)) (dR rfl (dR (dS (by omega) (by omega)) ?_))))))))
   rw [WJ s hsl]
   simp only [JJ,hW]
   rfl
 ·exact eG (decide_eq_false (by rw [hxl]; omega)) rfl
 have hs2l:=pI ur x rfl m
 generalize sR ur x m=s2 at hs2l
 refine iz (LR s2 hs2l (fun l i hi hl => ?_) (fun l=>eG (by decide) rfl)) ?_
 ·refine fm (decide_eq_true (by omega)) ?_
  refine dR (FG i 4 4 rfl (by decide) (by omega)) (dR (gz (by omega)) (dR (iC 0 (by omega)) (dR (Gw i 4 4 rfl (by decide)) (dR (dS (by omega) (by omega)) ?_))))
  have e:(8:Int) * ((i % 4:Nat):Int)=((8 * (i % 4):Nat):Int):=by omega
  rw [e,vI _ (by omega)]
  refine dR rfl (dR (Df .u32 _ _ (by simp only [IntKind.bits]; omega)) (dR rfl (dR (gz hi) (dR (Ni _ (by omega)) (dR (dS (by omega) (by omega)) rfl)))))
 ·exact dR (iJ rfl) (dR (iJ rfl) (dR (iJ rfl) (dR (iJ rfl) rfl)))
theorem PD (key text:List Int) (hk:key.length<10000) (ht:text.length<10000):lZ key text=some (Gb (Bz key) text):=by
 unfold lZ
 refine dR (Jz key (by omega)) ?_
 refine iz (s:=if 64<key.length then Gk key else key) ?_ ?_
 ·by_cases h:64<key.length
  ·refine fm (decide_eq_true (by omega)) ?_
   rw [if_pos h]
   exact dR (Ks key (by omega)) (dR (iJ rfl) (dR (iJ rfl) (dR (iJ rfl) (dR (Jz _ (by rw [rk]; decide)) rfl))))
  ·refine eG (decide_eq_false (by omega)) ?_
   rw [if_neg h]
 obtain ⟨k0,hk0⟩:∃ k0,(if 64<key.length then Gk key else key)=k0:=⟨_,rfl⟩
 have hk0l:k0.length≤64:=by
  rw [← hk0]; split
  ·rw [rk]; decide
  ·omega
 have hkd:Bz key=k0++List.replicate (64-k0.length) 0:=by
  rw [← Av 64 k0 hk0l,← hk0]
  unfold Bz
  split <;> rfl
 rw [hk0]
 refine iz (s:=Bz key) (fU (fun i=>k0++List.replicate i 0) (64-k0.length) _ (by simp) (by simp only [qB]; omega) (fun i hi => ?_) ?_) ?_
 ·have hl:(k0++List.replicate i (0:Int)).length=k0.length+i:=by simp
  refine fm (decide_eq_true (by rw [hl]; omega)) ?_
  refine dR (nu (by rw [hl]; simp only [List.length_cons,List.length_nil]; omega) (by rw [hl]; simp only [List.length_cons,List.length_nil]; omega)) ?_
  rw [List.append_assoc,← List.replicate_succ']
 ·have hl:(k0++List.replicate (64-k0.length) (0:Int)).length=64:=by simp; omega
  refine eG (decide_eq_false (by rw [hl]; decide)) ?_
  rw [hkd]
 have hkl:=Mk key
 generalize Bz key=k at hkl
 refine iz (s:=(k.map (fun x=>bits .xor .u8 x 54),k.map (fun x=>bits .xor .u8 x 92))) (fU (fun i=>((k.take i).map (fun x=>bits .xor .u8 x 54),(k.take i).map (fun x=>bits .xor .u8 x 92),(i:Int))) 64 _ rfl (by decide) (fun i hi => ?_) ?_) ?_
 ·refine fm (decide_eq_true (by omega)) ?_
  have hg:k[i]? = some (k.getD i 0):=iC 0 (by omega)
  refine dR (gz (by omega)) (dR hg (dR rfl ?_))
  refine dR (nu (by simp only [List.length_map,List.length_take,List.length_cons,List.length_nil]; omega) (by simp only [List.length_map,List.length_take,List.length_cons,List.length_nil]; omega)) (dR (gz (by omega)) (dR hg (dR rfl (dR (nu (by simp only [List.length_map,List.length_take,List.length_cons,List.length_nil]; omega) (by simp only [List.length_map,List.length_take,List.length_cons,List.length_nil]; omega)) (dR (dS (by omega) (by omega)) ?_)))))
  rw [List.take_add_one,hg]
  simp only [Option.toList_some,List.map_append,List.map_cons,List.map_nil]
  rfl
 ·refine eG (by decide) ?_
  rw [List.take_of_length_le (by omega)]
 ·refine dR (nu (by simp only [List.length_map]; omega) (by simp only [List.length_map]; omega)) (dR (Ks _ (by simp only [List.length_append,List.length_map]; omega)) (dR (iJ rfl) (dR (iJ rfl) (dR (iJ rfl) ?_))))
  refine dR (nu (by simp only [List.length_map,rk]; omega) (by simp only [List.length_map,rk]; omega)) (dR (Ks _ (by simp only [List.length_append,List.length_map,rk]; omega)) (dR (iJ rfl) (dR (iJ rfl) (dR (iJ rfl) ?_))))
  rfl
def cI (n:Nat):Int:=(n:Int)
def UQ:ByteArray:=⟨#[65,66,67,68,69,70,71,72,73,74,75,76,77,78,79,80,81,82,83,84,85,86,87,88,89,90,97,98,99,100,101,102,103,104,105,106,107,108,109,110,111,112,113,114,115,116,117,118,119,120,121,122,48,49,50,51,52,53,54,55,56,57,43,47]⟩
def XG:List Nat:=UQ.data.toList.map UInt8.toNat
def sg (v:Nat):Nat:=XG.getD v 0
theorem Tf (v:Nat) (h:v<64):sg v<256∧sg v≠61:=by
 have:∀ v,v<64→sg v<256∧sg v≠61:=by decide+kernel
 exact this v h
theorem TZ (v:Nat) (h:v<64):qy UQ (v:Int)=some (cI (sg v)):=by
 have:∀ v:Nat,v<64→qy UQ (v:Int)=some (cI (sg v)):=by decide+kernel
 exact this v h
def gv (p:List Nat):Nat:=p.getD 0 0 * 65536+p.getD 1 0 * 256+p.getD 2 0
def zF (g:Nat):List Nat:=[sg (g / 262144 % 64),sg (g / 4096 % 64),sg (g / 64 % 64),sg (g % 64)]
def Ft (p:List Nat):List Nat:=(zF (gv p)).take (p.length+1)++List.replicate (3-p.length) 61
def mP:List Nat→List Nat
 | a::b::c::r=>Ft [a,b,c]++mP r
 | []=>[]
 | p=>Ft p
theorem FP:∀ (k:Nat) (p r:List Nat),p.length=3 * k→mP (p++r)=mP p++mP r
 | 0,p,r,h=>by
  obtain rfl:=List.eq_nil_of_length_eq_zero (by omega:p.length=0)
  rfl
 | k+1,p,r,h=>by
  match p,h with
  | a::b::c::q,h =>
   have:=FP k q r (by simp only [List.length_cons] at h; omega)
   simp only [List.cons_append,mP,this,List.append_assoc]
theorem Ll (p:List Nat) (h0:0<p.length) (h:p.length≤3):mP p=Ft p:=by
 match p,h0,h with
 | [a],_,_=>rfl
 | [a,b],_,_=>rfl
 | [a,b,c],_,_=>rw [mP]; simp [mP]
theorem Co (p:List Nat) (h:p.length≤3):(Ft p).length=4:=by
 simp only [Ft,List.length_append,List.length_take,List.length_replicate,zF,List.length_cons,List.length_nil]; omega
theorem Sd (g:Nat):∀ x∈zF g,x<256:=by
 intro x hx
 simp only [zF,List.mem_cons,List.not_mem_nil,or_false] at hx
 rcases hx with rfl | rfl | rfl | rfl <;> exact (Tf _ (Nat.mod_lt _ (by decide))).1
theorem KF (p:List Nat):∀ x∈Ft p,x<256:=by
 intro x hx
 rcases List.mem_append.1 hx with h | h
 ·exact Sd _ x (List.mem_of_mem_take h)
 ·rw [(List.mem_replicate.1 h).2]; decide
theorem Fs:∀ (k:Nat) (p:List Nat),p.length≤k→∀ x∈mP p,x<256
 | 0,p,h=>by
  obtain rfl:=List.eq_nil_of_length_eq_zero (by omega:p.length=0)
  intro x hx; cases hx
 | k+1,p,h=>by
  match p,h with
  | [],_=>intro x hx; cases hx
  | [a],_=>exact KF [a]
  | [a,b],_=>exact KF [a,b]
  | a::b::c::r,h =>
   intro x hx
   rcases List.mem_append.1 hx with h1 | h1
   ·exact KF _ x h1
   ·exact Fs k r (by simp only [List.length_cons] at h; omega) x h1
theorem BC:∀ (k:Nat) (p:List Nat),p.length≤k→(mP p).length=(p.length+2) / 3 * 4
 | 0,p,h=>by
  obtain rfl:=List.eq_nil_of_length_eq_zero (by omega:p.length=0)
  rfl
 | k+1,p,h=>by
  match p,h with
  | [],_=>rfl
  | [a],_=>rw [show mP [a]=Ft [a] from rfl,Co [a] (by simp)]; simp
  | [a,b],_=>rw [show mP [a,b]=Ft [a,b] from rfl,Co [a,b] (by simp)]; simp
  | a::b::c::r,h =>
   have:=BC k r (by simp only [List.length_cons] at h; omega)
   simp only [mP,List.length_append,Co [a,b,c] (by simp),this,List.length_cons]
   omega
/-! Bits. -/
theorem UW (n:Int):IntKind.u32.wrap n=n % 4294967296:=by
 simp only [IntKind.wrap,IntKind.bits,IntKind.signed]
 have e:(2:Int) ^ 32=4294967296:=by decide
 simp only [e,Bool.false_and,Bool.false_eq_true,if_false]
theorem Fc (n:Nat) (h:n<4294967296):IntKind.u32.wrap (n:Int)=(n:Int):=by rw [UW]; omega
theorem CO (a:Nat) (ha:a<4294967296):(BitVec.ofInt 32 (a:Int)).toNat=a:=by
 rw [BitVec.ofInt_natCast,BitVec.toNat_ofNat]; omega
theorem UB (a b:Nat) (ha:a<4294967296) (hb:b<4294967296):bits .or .u32 (a:Int) (b:Int)=((a ||| b:Nat):Int):=by
 show IntKind.u32.wrap ((BitVec.ofInt 32 (a:Int) ||| BitVec.ofInt 32 (b:Int)).toNat:Int)=_
 have:a ||| b<2 ^ 32:=Nat.or_lt_two_pow (by omega) (by omega)
 rw [BitVec.toNat_or,CO a ha,CO b hb,Fc _ (by omega)]
theorem Vs (a:Nat) (ha:a<4294967296):bits .and .u32 (a:Int) 63=((a % 64:Nat):Int):=by
 show IntKind.u32.wrap ((BitVec.ofInt 32 (a:Int) &&& BitVec.ofInt 32 ((63:Nat):Int)).toNat:Int)=_
 rw [BitVec.toNat_and,CO a ha,CO 63 (by omega),show (63:Nat)=2 ^ 6-1 from rfl,Nat.and_two_pow_sub_one_eq_mod,Fc _ (by omega)]
theorem SS (a m:Nat) (hm:m≤32) (h:a * 2 ^ m<4294967296):vB .u32 (a:Int) (m:Int)=some ((a * 2 ^ m:Nat):Int):=by
 simp only [vB]
 rw [if_pos (by omega),Int.toNat_natCast,Nat.min_eq_left (by simpa [IntKind.bits] using hm)]
 have e:(a:Int) * 2 ^ m=((a * 2 ^ m:Nat):Int):=by simp
 rw [e,Fc _ h]
theorem MB (k:IntKind) (a m:Nat) (hm:m≤k.bits):uJ k (a:Int) (m:Int)=some ((a / 2 ^ m:Nat):Int):=by
 simp only [uJ]
 rw [if_pos (by omega),Int.toNat_natCast,Nat.min_eq_left hm]
 have e:(2:Int) ^ m=((2 ^ m:Nat):Int):=by simp
 rw [e,Int.fdiv_eq_ediv_of_nonneg _ (Int.natCast_nonneg _)]
 rfl
theorem Qp (a b k:Nat) (h:b<2 ^ k):2 ^ k * a ||| b=2 ^ k * a+b:=(Nat.two_pow_add_eq_or_of_lt h a).symm
theorem TD (p:List Nat) (hp:∀ x∈p,x<256):gv p<16777216:=by
 have hd:∀ i,p.getD i 0<256:=by
  intro i
  by_cases h:i<p.length
  ·rw [List.getD_eq_getElem?_getD,List.getElem?_eq_getElem h]; exact hp _ (List.getElem_mem h)
  ·rw [List.getD_eq_getElem?_getD,List.getElem?_eq_none (by omega)]; decide
 have h0:=hd 0; have h1:=hd 1; have h2:=hd 2
 unfold gv; omega
theorem PC {p:List Nat} {i j:Nat}:(p.take i).getD j 0=if j<i then p.getD j 0 else 0:=by
 simp only [List.getD_eq_getElem?_getD,List.getElem?_take]
 split <;> rfl
theorem SC (p:List Nat) (hp:∀ x∈p,x<256) (h3:p.length≤3) (i:Nat) (hi:i<p.length):bits .or .u32 (gv (p.take i):Int) ((p.getD i 0 * 2 ^ (16-8 * i):Nat):Int)=(gv (p.take (i+1)):Int):=by
 have hd:∀ i,p.getD i 0<256:=by
  intro i
  by_cases h:i<p.length
  ·rw [List.getD_eq_getElem?_getD,List.getElem?_eq_getElem h]; exact hp _ (List.getElem_mem h)
  ·rw [List.getD_eq_getElem?_getD,List.getElem?_eq_none (by omega)]; decide
 have h0:=hd 0; have h1:=hd 1; have h2:=hd 2
 have hi3:i=0∨i=1∨i=2:=by omega
 simp only [gv,PC]
 rcases hi3 with rfl | rfl | rfl
 ·simp only [Nat.lt_irrefl,if_false,Nat.not_lt_zero,Nat.zero_mul,Nat.zero_add,Nat.lt_add_one,if_true,Nat.mul_zero,Nat.sub_zero,Nat.add_zero]
  rw [UB _ _ (by decide) (by omega),Nat.zero_or]
  rw [if_neg (by decide),Nat.add_zero]
 ·simp only [Nat.lt_irrefl,if_false,if_true,Nat.zero_mul,Nat.add_zero,Nat.one_lt_two,Nat.zero_lt_one,Nat.reduceAdd,Nat.reduceMul,Nat.reduceSub,Nat.reducePow,Nat.reduceLT]
  rw [UB _ _ (by omega) (by omega)]
  have:=Qp (p.getD 0 0) (p.getD 1 0 * 256) 16 (by omega)
  have e:p.getD 0 0 * 65536=2 ^ 16 * p.getD 0 0:=by omega
  rw [e,this]
 ·simp only [Nat.lt_irrefl,if_false,if_true,Nat.add_zero,Nat.reduceAdd,Nat.reduceMul,Nat.reduceSub,Nat.reducePow,Nat.reduceLT]
  rw [UB _ _ (by omega) (by omega)]
  have:=Qp (p.getD 0 0 * 256+p.getD 1 0) (p.getD 2 0 * 1) 8 (by omega)
  have e:p.getD 0 0 * 65536+p.getD 1 0 * 256=2 ^ 8 * (p.getD 0 0 * 256+p.getD 1 0):=by omega
  rw [e,this]; congr 1; omega
theorem ME (B:List Nat) {i:Nat} (h:i<B.length):ga (B.map cI) i=some (cI (B.getD i 0)):=by
 simp [ga,List.getD,h]
theorem RV (l m:List Int) (h:l.length+m.length≤1000000):je 1 l m=some (l++m):=nu (by omega) (by omega)
theorem VW:strings_Repeat (⟨#[61]⟩:ByteArray) ((0:Nat):Int)=some (lz (List.replicate 0 61)):=by kernel_rfl
theorem Wp:strings_Repeat (⟨#[61]⟩:ByteArray) ((1:Nat):Int)=some (lz (List.replicate 1 61)):=by kernel_rfl
theorem Wy:strings_Repeat (⟨#[61]⟩:ByteArray) ((2:Nat):Int)=some (lz (List.replicate 2 61)):=by kernel_rfl
theorem Wn:strings_Repeat (⟨#[61]⟩:ByteArray) ((3:Nat):Int)=some (lz (List.replicate 3 61)):=by kernel_rfl
theorem Uh (k:Nat) (hk:k≤3):strings_Repeat (⟨#[61]⟩:ByteArray) (k:Int)=some (lz (List.replicate k 61)):=by
 have h:k=0∨k=1∨k=2∨k=3:=by omega
 rcases h with rfl | rfl | rfl | rfl
 ·exact VW
 ·exact Wp
 ·exact Wy
 ·exact Wn
theorem Nq (k:Nat):ed (lz (List.replicate k 61))=List.replicate k 61:=qH (fun x hx=>by rw [(List.mem_replicate.1 hx).2]; decide)
theorem Ka (B:List Nat) (h:∀ x∈B,x<256):BA (B.map cI):=by
 intro x hx
 obtain ⟨n,hn,rfl⟩:=List.mem_map.1 hx
 have:=h n hn
 simp only [cI]; omega
theorem NV {l:List Int} (h:BA l):Nn l=some (lz l):=by
 unfold Nn
 rw [if_pos (List.all_eq_true.2 fun x hx=>by have:=h x hx; simpa using this)]
def tx (l:List Nat):ByteArray:=lz (l.map cI)
theorem xf {l:List Nat} (h:∀ x∈l,x<256):ed (tx l)=l.map cI:=qH (Ka l h)
theorem Qj (g i:Nat) (hi:i<4) (hg:g<16777216):sg (g / 2 ^ (18-6 * i) % 64)=(zF g).getD i 0:=by
 have h:i=0∨i=1∨i=2∨i=3:=by omega
 rcases h with rfl | rfl | rfl | rfl <;> simp [zF]
theorem LX (B:List Nat) (hB:∀ x∈B,x<256) (hl:B.length≤100000):kR (B.map cI)=some (tx (mP B)):=by
 have hin:∀ n,n≤B.length→∀ x∈B.take n,x<256:=fun n _ x hx=>hB x (List.mem_of_mem_take hx)
 have hlen:(B.map cI).length=B.length:=List.length_map _
 obtain ⟨m,hm⟩:∃ m,(B.length+2) / 3=m:=⟨_,rfl⟩
 unfold kR
 refine iz (s:=(mP B).map cI) (fU (fun i=>((mP (B.take (3 * i))).map cI,((3 * i:Nat):Int))) m _ (by simp [mP]) (by simp only [qB]; omega) (fun i hi => ?_) ?_) ?_
 ·refine fm (decide_eq_true (by rw [hlen]; omega)) ?_
  have hacc:((mP (B.take (3 * i))).map cI).length≤200000:=by
   rw [List.length_map,BC _ _ (Nat.le_refl _),List.length_take]; omega
  obtain ⟨p,hp⟩:∃ p,(B.drop (3 * i)).take 3=p:=⟨_,rfl⟩
  obtain ⟨n,hn⟩:∃ n,p.length=n:=⟨_,rfl⟩
  have hn1:n=min 3 (B.length-3 * i):=by rw [← hn,← hp,List.length_take,List.length_drop]
  have hp0:0<n∧n≤3:=by omega
  have hpb:∀ x∈p,x<256:=fun x hx=>hB x (by rw [← hp] at hx; exact List.mem_of_mem_drop (List.mem_of_mem_take hx))
  have hnext:mP (B.take (3 * (i+1)))=mP (B.take (3 * i))++Ft p:=by
   have e:B.take (3 * (i+1))=B.take (3 * i)++p:=by
    rw [← hp,show 3 * (i+1)=3 * i+3 by omega,List.take_add]
   rw [e,FP i _ _ (by rw [List.length_take]; omega),Ll p (by omega) (by omega)]
  refine dR (dS (by rw [hlen]; omega) (by rw [hlen]; omega)) ?_
  have hv3:(if ((B.map cI).length:Int)-((3 * i:Nat):Int)<3 then ((B.map cI).length:Int)-((3 * i:Nat):Int) else 3)=(n:Int):=by
   rw [hlen]; split <;> omega
  rw [hv3]
  refine dR rfl (dR (dS (by omega) (by omega)) ?_)
  have e1:((3 * i:Nat):Int)+(n:Int)=((3 * i+n:Nat):Int):=by omega
  rw [e1]
  have hsl:vh (B.map cI) ((3 * i:Nat):Int) ((3 * i+n:Nat):Int)=some (p.map cI):=by
   rw [Cu _ (by omega) (by rw [hlen]; omega),← List.map_drop,← List.map_take,← hp]
   congr 2
   rw [show 3 * i+n-3 * i=n by omega,hn1]
   apply List.ext_getElem?
   intro j
   simp only [List.getElem?_take,List.getElem?_drop]
   split <;> split <;> first | rfl | omega | (rw [List.getElem?_eq_none (by omega)])
  refine dR hsl ?_
  refine iz (s:=(gv p:Int)) (fU (fun j=>((gv (p.take j):Int),(j:Int))) n _ (by simp [gv]) (by simp only [qB]; omega) (fun j hj => ?_) ?_) ?_
  ·have hpl:(p.map cI).length=n:=by rw [List.length_map,hn]
   have hxb:p.getD j 0<256:=by
    rw [List.getD_eq_getElem?_getD,List.getElem?_eq_getElem (by omega:j<p.length)]; exact hpb _ (List.getElem_mem _)
   refine fm (decide_eq_true (by rw [hpl]; omega)) ?_
   refine dR (gz (by rw [hpl]; omega)) (dR (ME p (by omega)) (dR rfl (dR (dS (by omega) (by omega)) (dR (dS (by omega) (by omega)) ?_))))
   have e2:(16:Int)-8 * (j:Int)=((16-8 * j:Nat):Int):=by omega
   have e3:IntKind.u32.wrap (cI (p.getD j 0))=((p.getD j 0:Nat):Int):=Fc _ (by omega)
   rw [e2,e3]
   have h16:p.getD j 0 * 2 ^ (16-8 * j)<4294967296:=by
    have:2 ^ (16-8 * j)≤2 ^ 16:=Nat.pow_le_pow_right (by decide) (by omega)
    calc p.getD j 0 * 2 ^ (16-8 * j)≤255 * 2 ^ 16:=Nat.mul_le_mul (by omega) this
     _<4294967296:=by decide
   refine dR (SS _ _ (by omega) h16) (dR rfl ?_)
   rw [SC p hpb (by omega) j (by omega)]
   exact dR (dS (by omega) (by omega)) rfl
  ·refine eG (decide_eq_false (by rw [List.length_map,hn]; omega)) ?_
   rw [List.take_of_length_le (by omega)]
  have hg:=TD p hpb
  refine dR (dS (by omega) (by omega)) ?_
  have e4:(n:Int)+1=((n+1:Nat):Int):=by omega
  rw [e4]
  refine iz (s:=(mP (B.take (3 * i))).map cI++((zF (gv p)).take (n+1)).map cI) (fU (fun j=>((mP (B.take (3 * i))).map cI++((zF (gv p)).take j).map cI,(j:Int))) (n+1) _ (by simp) (by simp only [qB]; omega) (fun j hj => ?_) ?_) ?_
  ·refine fm (decide_eq_true (by omega)) ?_
   refine dR (dS (by omega) (by omega)) (dR (dS (by omega) (by omega)) ?_)
   have e5:(18:Int)-6 * (j:Int)=((18-6 * j:Nat):Int):=by omega
   rw [e5]
   have hq:gv p / 2 ^ (18-6 * j)<4294967296:=Nat.lt_of_le_of_lt (Nat.div_le_self _ _) (by omega)
   refine dR (MB .u32 _ _ (by simp only [IntKind.bits]; omega)) (dR rfl ?_)
   rw [Vs _ hq]
   refine dR (TZ _ (Nat.mod_lt _ (by decide))) ?_
   rw [Qj _ j (by omega) hg]
   refine dR (RV _ _ (by simp only [List.length_append,List.length_map,List.length_take,List.length_cons,List.length_nil] at hacc ⊢; omega)) (dR (dS (by omega) (by omega)) ?_)
   have ht:(zF (gv p)).take (j+1)=(zF (gv p)).take j++[(zF (gv p)).getD j 0]:=by
    have hj4:j<(zF (gv p)).length:=by simp only [zF,List.length_cons,List.length_nil]; omega
    rw [List.take_add_one,List.getElem?_eq_getElem hj4,List.getD_eq_getElem?_getD,List.getElem?_eq_getElem hj4]; rfl
   rw [ht,List.map_append,← List.append_assoc]
   rfl
  ·exact eG (decide_eq_false (by omega)) rfl
  refine dR (dS (by omega) (by omega)) ?_
  have e6:(3:Int)-(n:Int)=((3-n:Nat):Int):=by omega
  rw [e6]
  refine dR (Uh _ (by omega)) ?_
  rw [Nq]
  refine dR (RV _ _ (by simp only [List.length_append,List.length_map,List.length_take,List.length_replicate] at hacc ⊢; omega)) (dR (dS (by omega) (by omega)) ?_)
  rw [hnext,List.map_append,List.append_assoc]
  have e7:(Ft p).map cI=((zF (gv p)).take (n+1)).map cI++List.replicate (3-n) 61:=by
   rw [Ft,List.map_append,hn,List.map_replicate]; rfl
  rw [e7]
  congr 4
 ·refine eG (decide_eq_false (by rw [hlen]; omega)) ?_
  rw [List.take_of_length_le (by omega)]
 ·refine dR (NV (Ka _ (Fs _ _ (Nat.le_refl _)))) rfl
theorem Uk (n:Nat):IntKind.u8.wrap (n:Int)=((n % 256:Nat):Int):=by
 simp only [IntKind.wrap,IntKind.bits,IntKind.signed]
 have e:(2:Int) ^ 8=256:=by decide
 simp only [e,Bool.false_and,Bool.false_eq_true,if_false]
 omega
theorem Kf (l:List Nat):(tx l).size=l.length:=by rw [tx,Jl,List.length_map]
/-! Two digits for each byte. -/
def Vt:ByteArray:=⟨#[48,49,50,51,52,53,54,55,56,57,97,98,99,100,101,102]⟩
def hx (v:Nat):Nat:=(Vt.data.toList.map UInt8.toNat).getD v 0
theorem Ry (v:Nat) (h:v<16):qy Vt (v:Int)=some (cI (hx v)):=by
 have:∀ v:Nat,v<16→qy Vt (v:Int)=some (cI (hx v)):=by decide+kernel
 exact this v h
theorem Nx (v:Nat) (h:v<16):hx v<256∧True:=by
 have:∀ v:Nat,v<16→hx v<256∧True:=by decide+kernel
 exact this v h
def uS:List Nat→List Nat
 | []=>[]
 | x::r=>hx (x / 16)::hx (x % 16)::uS r
theorem Hq:∀ p r:List Nat,uS (p++r)=uS p++uS r
 | [],r=>rfl
 | x::p,r=>by simp only [List.cons_append,uS,Hq p r]
theorem vA:∀ p:List Nat,(uS p).length=2 * p.length
 | []=>rfl
 | x::p=>by simp only [uS,List.length_cons,vA p]; omega
theorem za:∀ p:List Nat,(∀ x∈p,x<256)→∀ x∈uS p,x<256
 | [],_=>by intro x hx; cases hx
 | y::p,h=>by
  intro x hx1
  have hy:=h y (by simp)
  simp only [uS,List.mem_cons] at hx1
  rcases hx1 with rfl | rfl | hx1
  ·exact (Nx _ (by omega)).1
  ·exact (Nx _ (Nat.mod_lt _ (by decide))).1
  ·exact za p (fun x hx=>h x (by simp [hx])) x hx1
theorem Ga (a:Nat) (ha:a<256):bits .and .u8 (a:Int) 15=((a % 16:Nat):Int):=by
 show IntKind.u8.wrap ((BitVec.ofInt 8 (a:Int) &&& BitVec.ofInt 8 ((15:Nat):Int)).toNat:Int)=_
 have h:∀ n:Nat,n<256→(BitVec.ofInt 8 (n:Int)).toNat=n:=fun n hn=>by
  rw [BitVec.ofInt_natCast,BitVec.toNat_ofNat]; omega
 rw [BitVec.toNat_and,h a ha,h 15 (by omega),show (15:Nat)=2 ^ 4-1 from rfl,Nat.and_two_pow_sub_one_eq_mod,Uk]
 congr 1
 have:=Nat.mod_lt a (show 0<2 ^ 4 by decide)
 omega
theorem TU (B:List Nat) (hB:∀ x∈B,x<256) (hl:B.length≤100000):xl (B.map cI)=some (tx (uS B)):=by
 unfold xl
 have hlen:(B.map cI).length=B.length:=List.length_map _
 refine iz (s:=(uS B).map cI) (fU (fun i=>((uS (B.take i)).map cI,(i:Int))) B.length _ rfl (by simp only [qB]; omega) (fun i hi => ?_) ?_) ?_
 ·refine fm (decide_eq_true (by rw [hlen]; omega)) ?_
  have hx:B.getD i 0<256:=by
   rw [List.getD_eq_getElem?_getD,List.getElem?_eq_getElem hi]; exact hB _ (List.getElem_mem _)
  have hacc:((uS (B.take i)).map cI).length≤200000:=by rw [List.length_map,vA,List.length_take]; omega
  refine dR (gz (by rw [hlen]; omega)) (dR (ME B hi) (dR (MB .u8 _ 4 (by decide)) (dR (Ry _ (by omega)) (dR (RV _ _ (by simp only [List.length_cons,List.length_nil]; omega)) (dR rfl ?_)))))
  rw [show cI (B.getD i 0)=((B.getD i 0:Nat):Int) from rfl,Ga _ hx]
  refine dR (Ry _ (Nat.mod_lt _ (by decide))) (dR (RV _ _ (by simp only [List.length_append,List.length_cons,List.length_nil]; omega)) (dR (dS (by omega) (by omega)) ?_))
  have ht:B.take (i+1)=B.take i++[B.getD i 0]:=by
   rw [List.take_add_one,List.getElem?_eq_getElem hi,List.getD_eq_getElem?_getD,List.getElem?_eq_getElem hi]; rfl
  rw [ht,Hq,List.map_append,List.append_assoc]
  rfl
 ·refine eG (decide_eq_false (by rw [hlen]; omega)) ?_
  rw [List.take_length]
 ·exact dR (NV (Ka _ (za B hB))) rfl
theorem Qr (n:Int):0≤IntKind.u8.wrap n∧IntKind.u8.wrap n<256:=by
 simp only [IntKind.wrap,IntKind.bits,IntKind.signed]
 have e:(2:Int) ^ 8=256:=by decide
 simp only [e,Bool.false_and,Bool.false_eq_true,if_false]
 omega
theorem SA (s:List Int):BA (EK s):=by
 intro x hx
 obtain ⟨i,_,rfl⟩:=List.mem_map.1 hx
 exact Qr _
def Hd (k t:List Int):List Nat:=(Gb (Bz k) t).map Int.toNat
theorem Oh (k t:List Int):Gb (Bz k) t=(Hd k t).map cI∧(∀ x∈Hd k t,x<256)∧(Hd k t).length=16:=by
 have hb:BA (Gb (Bz k) t):=SA _
 refine ⟨?_,?_,by simp [Hd,PF]⟩
 ·unfold Hd
  rw [List.map_map]
  conv=>lhs; rw [← List.map_id (Gb (Bz k) t)]
  refine List.map_congr_left fun x hx => ?_
  have:=hb x hx
  simp only [Function.comp,cI,id]; omega
 ·intro x hx
  obtain ⟨y,hy,rfl⟩:=List.mem_map.1 hx
  have:=hb y hy; omega
def KJ (U:List Nat) (k t:List Int):List Nat:=U++[32]++uS (Hd k t)
theorem JV {U:List Nat} (hU:∀ x∈U,x<256) (k t:List Int):∀ x∈KJ U k t,x<256:=by
 intro x hx
 rcases List.mem_append.1 hx with h | h
 ·rcases List.mem_append.1 h with h | h
  ·exact hU x h
  ·simp only [List.mem_cons,List.not_mem_nil,or_false] at h; omega
 ·exact za _ (Oh k t).2.1 x h
theorem FJ (U:List Nat) (k t:List Int):(KJ U k t).length=U.length+33:=by
 simp only [KJ,List.length_append,List.length_cons,List.length_nil,vA,(Oh k t).2.2]
theorem By {l m:List Nat} (hl:∀ x∈l,x<256) (hm:∀ x∈m,x<256) (h:l.length+m.length≤1000000):pA (tx l) (tx m)=some (tx (l++m)):=by
 rw [Nu (by rw [Kf,Kf]; omega),xf hl,xf hm,tx,List.map_append]
theorem Pu (U:List Nat) (hU:∀ x∈U,x<256) (hl:U.length≤10000) (k t:ByteArray) (hk:k.size<10000) (ht:t.size<10000):sM (tx U) k t=some (tx (mP (KJ U (ed k) (ed t)))):=by
 unfold sM
 obtain ⟨h1,h2,h3⟩:=Oh (ed k) (ed t)
 have h32:∀ x∈[32],x<256:=by intro x hx; simp only [List.mem_cons,List.not_mem_nil,or_false] at hx; omega
 refine dR rfl (dR rfl (dR (Qo _ _ (by rw [lp]; omega) (by rw [lp]; omega)) (dR (iJ rfl) (dR (iJ rfl) ?_))))
 refine dR (show pA (tx U) (tx [32])=some (tx (U++[32])) from By hU h32 (by simp only [List.length_cons,List.length_nil]; omega)) (dR (iJ rfl) ?_)
 rw [h1]
 refine dR (TU _ h2 (by omega)) ?_
 have hU32:∀ x∈U++[32],x<256:=by
  intro x hx
  rcases List.mem_append.1 hx with h | h
  ·exact hU x h
  ·exact h32 x h
 refine dR (By hU32 (za _ h2) (by simp only [List.length_append,List.length_cons,List.length_nil,vA]; omega)) (dR rfl ?_)
 have hb:=JV hU (ed k) (ed t)
 rw [show U++[32]++uS (Hd (ed k) (ed t))=KJ U (ed k) (ed t) from rfl,xf hb]
 exact dR (LX _ hb (by rw [FJ]; omega)) rfl
theorem PW (U:List Nat) (hU:∀ x∈U,x<256) (hl:U.length≤10000) (k t line:ByteArray) (hk:k.size<10000) (ht:t.size<10000):qL (tx U) k t line=some (decide (line=tx (mP (KJ U (ed k) (ed t))))):=by
 unfold qL
 refine dR (Pu U hU hl k t hk ht) ?_
 rw [GC]
theorem MS (n:Nat) (h:n<9223372036854775808):IntKind.i64.wrap (n:Int)=(n:Int):=Mz n h
theorem Cp (a:Nat) (ha:a<9223372036854775808):(BitVec.ofInt 64 (a:Int)).toNat=a:=by
 rw [BitVec.ofInt_natCast,BitVec.toNat_ofNat]; omega
theorem Wb (a b:Nat) (ha:a<4294967296) (hb:b<4294967296):bits .or .i64 (a:Int) (b:Int)=((a ||| b:Nat):Int):=by
 show IntKind.i64.wrap ((BitVec.ofInt 64 (a:Int) ||| BitVec.ofInt 64 (b:Int)).toNat:Int)=_
 have:a ||| b<2 ^ 32:=Nat.or_lt_two_pow (by omega) (by omega)
 rw [BitVec.toNat_or,Cp a (by omega),Cp b (by omega),MS _ (by omega)]
theorem Vb (a:Nat) (ha:a<4294967296):bits .and .i64 (a:Int) 63=((a % 64:Nat):Int):=by
 show IntKind.i64.wrap ((BitVec.ofInt 64 (a:Int) &&& BitVec.ofInt 64 ((63:Nat):Int)).toNat:Int)=_
 rw [BitVec.toNat_and,Cp a (by omega),Cp 63 (by omega),show (63:Nat)=2 ^ 6-1 from rfl,Nat.and_two_pow_sub_one_eq_mod,MS _ (by omega)]
theorem RL (a m:Nat) (hm:m≤64) (h:a * 2 ^ m<9223372036854775808):vB .i64 (a:Int) (m:Int)=some ((a * 2 ^ m:Nat):Int):=by
 simp only [vB]
 rw [if_pos (by omega),Int.toNat_natCast,Nat.min_eq_left (by simpa [IntKind.bits] using hm)]
 have e:(a:Int) * 2 ^ m=((a * 2 ^ m:Nat):Int):=by simp
 rw [e,MS _ h]
theorem Ux (v:Nat) (h:v<64):tw UQ (v:Int) ((v:Int)+1)=some (tx [sg v]):=by
 have:∀ v:Nat,v<64→tw UQ (v:Int) ((v:Int)+1)=some (tx [sg v]):=by decide+kernel
 exact this v h
theorem SP (p:List Nat) (h0:0<p.length) (h3:p.length≤3) (j:Nat) (hj:j<4):(Ft p)[j]? = some (if j≤p.length then (zF (gv p)).getD j 0 else 61):=by
 have hj4:j=0∨j=1∨j=2∨j=3:=by omega
 match p,h0,h3 with
 | [a],_,_=>rcases hj4 with rfl | rfl | rfl | rfl <;> rfl
 | [a,b],_,_=>rcases hj4 with rfl | rfl | rfl | rfl <;> rfl
 | [a,b,c],_,_=>rcases hj4 with rfl | rfl | rfl | rfl <;> rfl
def lv (p:List Nat):Nat→Nat
 | 0=>0
 | j+1=>lv p j * 256+p.getD j 0
theorem Tw (p:List Nat) (hp:∀ x∈p,x<256):∀ j,lv p j<256 ^ j
 | 0=>by simp [lv]
 | j+1=>by
  have h1:=Tw p hp j
  have h2:p.getD j 0<256:=by
   by_cases h:j<p.length
   ·rw [List.getD_eq_getElem?_getD,List.getElem?_eq_getElem h]; exact hp _ (List.getElem_mem h)
   ·rw [List.getD_eq_getElem?_getD,List.getElem?_eq_none (by omega)]; decide
  simp only [lv,Nat.pow_succ]; omega
theorem Vo (p:List Nat):lv p 3=gv p:=by simp only [lv,gv]; omega
theorem RQ (B:List Nat) (hB:∀ x∈B,x<256) (hl:B.length≤100000):lr (B.map cI)=some (tx (mP B)):=by
 have hlen:(B.map cI).length=B.length:=List.length_map _
 obtain ⟨m,hm⟩:∃ m,(B.length+2) / 3=m:=⟨_,rfl⟩
 unfold lr
 refine iz (s:=tx (mP B)) (fU (fun i=>(tx (mP (B.take (3 * i))),((3 * i:Nat):Int))) m _ rfl (by simp only [qB]; omega) (fun i hi => ?_) ?_) rfl
 ·refine fm (decide_eq_true (by rw [hlen]; omega)) ?_
  have hacc:(mP (B.take (3 * i))).length≤200000:=by
   rw [BC _ _ (Nat.le_refl _),List.length_take]; omega
  have haccb:∀ x∈mP (B.take (3 * i)),x<256:=Fs _ _ (Nat.le_refl _)
  obtain ⟨p,hp⟩:∃ p,(B.drop (3 * i)).take 3=p:=⟨_,rfl⟩
  obtain ⟨n,hn⟩:∃ n,p.length=n:=⟨_,rfl⟩
  have hn1:n=min 3 (B.length-3 * i):=by rw [← hn,← hp,List.length_take,List.length_drop]
  have hp0:0<n∧n≤3:=by omega
  have hpb:∀ x∈p,x<256:=fun x hx=>hB x (by rw [← hp] at hx; exact List.mem_of_mem_drop (List.mem_of_mem_take hx))
  have hpj:∀ j,p.getD j 0<256:=by
   intro j
   by_cases h:j<p.length
   ·rw [List.getD_eq_getElem?_getD,List.getElem?_eq_getElem h]; exact hpb _ (List.getElem_mem h)
   ·rw [List.getD_eq_getElem?_getD,List.getElem?_eq_none (by omega)]; decide
  have hnext:mP (B.take (3 * (i+1)))=mP (B.take (3 * i))++Ft p:=by
   have e:B.take (3 * (i+1))=B.take (3 * i)++p:=by
    rw [← hp,show 3 * (i+1)=3 * i+3 by omega,List.take_add]
   rw [e,FP i _ _ (by rw [List.length_take]; omega),Ll p (by omega) (by omega)]
  refine dR (dS (by rw [hlen]; omega) (by rw [hlen]; omega)) ?_
  have hv3:(if ((B.map cI).length:Int)-((3 * i:Nat):Int)<3 then ((B.map cI).length:Int)-((3 * i:Nat):Int) else 3)=(n:Int):=by
   rw [hlen]; split <;> omega
  rw [hv3]
  refine dR rfl ?_
  refine iz (s:=((gv p:Nat):Int)) (fU (fun j=>((lv p j:Int),(j:Int))) 3 _ rfl (by decide) (fun j hj => ?_) ?_) ?_
  ·have hlv:=Tw p hpb j
   have hlv2:lv p j<65536:=Nat.lt_of_lt_of_le hlv (by calc 256 ^ j≤256 ^ 2:=Nat.pow_le_pow_right (by decide) (by omega)
                                 _≤65536:=by decide)
   have hpj':=hpj j
   refine fm (decide_eq_true (by omega)) ?_
   refine iz (s:=((lv p (j+1):Nat):Int)) ?_ (dR (dS (by omega) (by omega)) rfl)
   refine dR (RL _ 8 (by decide) (by omega)) ?_
   by_cases h:j<n
   ·refine fm (decide_eq_true (by omega)) ?_
    have e1:((3 * i:Nat):Int)+(j:Int)=((3 * i+j:Nat):Int):=by omega
    refine dR (dS (by omega) (by omega)) ?_
    rw [e1]
    have hbj:B.getD (3 * i+j) 0=p.getD j 0:=by
     rw [← hp]
     simp only [List.getD_eq_getElem?_getD,List.getElem?_take,List.getElem?_drop]
     rw [if_pos (by omega)]
    refine dR (gz (by rw [hlen]; omega)) (dR (ME B (by omega)) ?_)
    rw [hbj]
    refine dR (dS (by simp only [cI]; omega) (by simp only [cI]; omega)) (dR rfl ?_)
    rw [show cI (p.getD j 0)=((p.getD j 0:Nat):Int) from rfl,Wb _ _ (by omega) (by omega)]
    have:=Qp (lv p j) (p.getD j 0) 8 (by omega)
    rw [show lv p j * 2 ^ 8=2 ^ 8 * lv p j by omega,this]
    simp only [lv]
    congr 3
    try omega
   ·refine eG (decide_eq_false (by omega)) ?_
    have:p.getD j 0=0:=by rw [List.getD_eq_getElem?_getD,List.getElem?_eq_none (by omega)]; rfl
    simp only [lv,this,Nat.add_zero]
  ·refine eG (by decide) ?_
   rw [Vo]
  have hg:=TD p hpb
  rw [hnext]
  refine iz (s:=tx (mP (B.take (3 * i))++Ft p)) (fU (fun j=>(tx (mP (B.take (3 * i))++(Ft p).take j),(j:Int))) 4 _ (by simp) (by decide) (fun j hj => ?_) ?_) ?_
  ·have hgl:=Co p (by omega)
   have hgb:=KF p
   have hab:∀ x∈mP (B.take (3 * i))++(Ft p).take j,x<256:=by
    intro x hx
    rcases List.mem_append.1 hx with h | h
    ·exact haccb x h
    ·exact hgb x (List.mem_of_mem_take h)
   have hget:=SP p (by omega) (by omega) j hj
   have hcat:∀ c:Nat,c<256→(Ft p)[j]? = some c→pA (tx (mP (B.take (3 * i))++(Ft p).take j)) (tx [c])=some (tx (mP (B.take (3 * i))++(Ft p).take (j+1))):=by
    intro c hc hcg
    rw [By hab (by intro x hx; simp only [List.mem_cons,List.not_mem_nil,or_false] at hx; omega) (by simp only [List.length_append,List.length_take,List.length_cons,List.length_nil]; omega),List.take_add_one,hcg,List.append_assoc]
    rfl
   refine fm (decide_eq_true (by omega)) ?_
   refine iz (s:=tx (mP (B.take (3 * i))++(Ft p).take (j+1))) ?_ (dR (dS (by omega) (by omega)) rfl)
   by_cases h:j≤n
   ·refine fm (decide_eq_true (by omega)) ?_
    refine dR (dS (by omega) (by omega)) (dR (dS (by omega) (by omega)) ?_)
    have e5:(18:Int)-6 * (j:Int)=((18-6 * j:Nat):Int):=by omega
    rw [e5,vI _ (by omega)]
    have hq:gv p / 2 ^ (18-6 * j)<4294967296:=Nat.lt_of_le_of_lt (Nat.div_le_self _ _) (by omega)
    refine dR rfl (dR (MB .i64 _ _ (by simp only [IntKind.bits]; omega)) (dR rfl ?_))
    rw [Vb _ hq]
    have hlt:gv p / 2 ^ (18-6 * j) % 64<64:=Nat.mod_lt _ (by decide)
    refine dR (show nX=some UQ from rfl) (dR (dS (by omega) (by omega)) (dR (Ux _ hlt) ?_))
    refine dR (hcat _ (Tf _ hlt).1 ?_) rfl
    rw [hget,hn,if_pos h,Qj _ j hj hg]
   ·refine eG (decide_eq_false (by omega)) ?_
    refine dR (hcat 61 (by decide) ?_) rfl
    rw [hget,hn,if_neg h]
  ·refine eG (by decide) ?_
   rw [show (Ft p).take 4=Ft p from List.take_of_length_le (by rw [Co p (by omega)]; decide)]
  ·refine dR (dS (by omega) (by omega)) ?_
   congr 4
 ·refine eG (decide_eq_false (by rw [hlen]; omega)) ?_
  rw [List.take_of_length_le (by omega)]
/-! The page's digits. -/
theorem Rb (v:Nat) (h:v<16):tw Vt (v:Int) (IntKind.u8.wrap ((v:Int)+1))=some (tx [hx v]):=by
 have:∀ v:Nat,v<16→tw Vt (v:Int) (IntKind.u8.wrap ((v:Int)+1))=some (tx [hx v]):=by decide+kernel
 exact this v h
theorem So (B:List Nat) (hB:∀ x∈B,x<256) (hl:B.length≤100000):nF (B.map cI)=some (tx (uS B)):=by
 unfold nF
 have hlen:(B.map cI).length=B.length:=List.length_map _
 refine iz (s:=tx (uS B)) (fU (fun i=>(tx (uS (B.take i)),(i:Int))) B.length _ rfl (by simp only [qB]; omega) (fun i hi => ?_) ?_) rfl
 ·refine fm (decide_eq_true (by rw [hlen]; omega)) ?_
  have hx1:B.getD i 0<256:=by
   rw [List.getD_eq_getElem?_getD,List.getElem?_eq_getElem hi]; exact hB _ (List.getElem_mem _)
  have hacc:(uS (B.take i)).length≤200000:=by rw [vA,List.length_take]; omega
  have hab:∀ x∈uS (B.take i),x<256:=za _ (fun x hx=>hB x (List.mem_of_mem_take hx))
  have hix:lL ((i:Nat):Int) (B.map cI).length=some i:=gz (by rw [hlen]; omega)
  have h1:∀ v:Nat,v<16→∀ x∈[hx v],x<256:=fun v hv x hx=>by
   simp only [List.mem_cons,List.not_mem_nil,or_false] at hx; rw [hx]; exact (Nx v hv).1
  refine dR hix (dR (ME B hi) (dR (MB .u8 _ 4 (by decide)) (dR hix (dR (ME B hi) (dR (MB .u8 _ 4 (by decide)) (dR rfl ?_))))))
  refine dR (Rb _ (by omega)) (dR (By hab (h1 _ (by omega)) (by simp only [List.length_cons,List.length_nil]; omega)) (dR hix (dR (ME B hi) ?_)))
  rw [show cI (B.getD i 0)=((B.getD i 0:Nat):Int) from rfl,Ga _ hx1]
  refine dR rfl (dR hix (dR (ME B hi) ?_))
  rw [show cI (B.getD i 0)=((B.getD i 0:Nat):Int) from rfl,Ga _ hx1]
  have hm:B.getD i 0 % 16<16:=Nat.mod_lt _ (by decide)
  refine dR rfl (dR rfl (dR (Rb _ hm) (dR (By (fun x hx => ?_) (h1 _ hm) (by simp only [List.length_append,List.length_cons,List.length_nil]; omega)) (dR (dS (by omega) (by omega)) ?_))))
  ·rcases List.mem_append.1 hx with h | h
   ·exact hab x h
   ·exact h1 _ (by omega) x h
  ·have ht:B.take (i+1)=B.take i++[B.getD i 0]:=by
    rw [List.take_add_one,List.getElem?_eq_getElem hi,List.getD_eq_getElem?_getD,List.getElem?_eq_getElem hi]; rfl
   rw [ht,Hq,List.append_assoc]
   rfl
 ·refine eG (decide_eq_false (by rw [hlen]; omega)) ?_
  rw [List.take_length]
theorem NF (U:List Nat) (hU:∀ x∈U,x<256) (hl:U.length≤5000) (k t:ByteArray) (hk:k.size<5000) (ht:t.size<5000):jW (tx U) k t=some (tx (mP (KJ U (ed k) (ed t)))):=by
 unfold jW
 obtain ⟨h1,h2,h3⟩:=Oh (ed k) (ed t)
 have h32:∀ x∈[32],x<256:=by intro x hx; simp only [List.mem_cons,List.not_mem_nil,or_false] at hx; omega
 refine dR rfl (dR rfl (dR (PD _ _ (by rw [lp]; omega) (by rw [lp]; omega)) (dR (iJ rfl) (dR (iJ rfl) ?_))))
 refine dR (show pA (tx U) (tx [32])=some (tx (U++[32])) from By hU h32 (by simp only [List.length_cons,List.length_nil]; omega)) (dR (iJ rfl) ?_)
 rw [h1]
 refine dR (So _ h2 (by omega)) ?_
 have hU32:∀ x∈U++[32],x<256:=by
  intro x hx
  rcases List.mem_append.1 hx with h | h
  ·exact hU x h
  ·exact h32 x h
 refine dR (By hU32 (za _ h2) (by simp only [List.length_append,List.length_cons,List.length_nil,vA]; omega)) (dR rfl ?_)
 have hb:=JV hU (ed k) (ed t)
 rw [show U++[32]++uS (Hd (ed k) (ed t))=KJ U (ed k) (ed t) from rfl,xf hb]
 exact dR (RQ _ hb (by rw [FJ]; omega)) rfl
theorem Vx (z:Int) (n:Nat) (h0:0<n) (hn:n<1000000):IntKind.u64.wrap (n:Int)=(n:Int)∧∃ q:Nat,q<n∧uI (IntKind.u64.wrap z) (n:Int)=some (q:Int):=by
 have h:∀ z:Int,IntKind.u64.wrap z=((z % 18446744073709551616).toNat:Int):=by
  intro z
  simp only [IntKind.wrap,IntKind.bits,IntKind.signed]
  have e:(2:Int) ^ 64=18446744073709551616:=by decide
  simp only [e,Bool.false_and,Bool.false_eq_true,if_false]
  omega
 refine ⟨by rw [h]; omega,?_⟩
 rw [h]
 exact ⟨_,Nat.mod_lt _ h0,uA _ n h0⟩
end Go.Abs.Sh
