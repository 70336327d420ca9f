import Derived.Test.YtjnnkhmhjcjhdaaGreatDoorGatS
set_option linter.unusedVariables false
set_option linter.unusedSimpArgs false
set_option linter.unusedSectionVars false
namespace Go.Abs.Sh
set_option linter.unusedVariables false
set_option linter.unusedSimpArgs false
set_option maxRecDepth 10000
def yz (i:Nat) (q r t:Int):Int×Nat :=
 if i / 16=0 then (bits .or .u32 (bits .and .u32 q r) (bits .and .u32 (bits .xor .u32 4294967295 q) t),i)
 else if i / 16=1 then (bits .or .u32 (bits .and .u32 q t) (bits .andNot .u32 r t),(5 * i+1) % 16)
 else if i / 16=2 then (bits .xor .u32 (bits .xor .u32 q r) t,(3 * i+5) % 16)
 else (bits .xor .u32 r (bits .or .u32 q (bits .xor .u32 4294967295 t)),7 * i % 16)
theorem EA (i:Nat) (hi:i<64) (q r t:Int):(yz i q r t).2<16:=by
 unfold yz
 split
 ·show i<16; omega
 ·split
  ·show (5 * i+1) % 16<16; omega
  ·split
   ·show (3 * i+5) % 16<16; omega
   ·show 7 * i % 16<16; omega
theorem qe (a b:Nat):((a:Int)==(b:Int))=decide (a=b):=by
 by_cases h:a=b <;> simp [h]; omega
theorem Dg (i:Nat) (hi:i<64) (q r t:Int):je (i:Int) q r t=some ((yz i q r t).1,((yz i q r t).2:Int)):=by
 unfold je yz
 refine aB (zE i 16 (by decide) (by omega)) ?_
 have e0:(((i / 16:Nat):Int)==0)=decide (i / 16=0):=qe _ 0
 have e1:(((i / 16:Nat):Int)==1)=decide (i / 16=1):=qe _ 1
 have e2:(((i / 16:Nat):Int)==2)=decide (i / 16=2):=qe _ 2
 rw [e0,e1,e2]
 by_cases h0:i / 16=0
 ·simp only [h0,decide_true,if_true,cond_true,Option.bind_some]
 ·simp only [h0,decide_false,if_false,cond_false]
  by_cases h1:i / 16=1
  ·simp only [h1,decide_true,if_true,cond_true]
   refine aB rfl (aB rfl (aB rfl (aB (aF (by omega) (by omega)) (aB (aF (by omega) (by omega)) ?_))))
   have:=ko (5 * i+1) 16 (by decide)
   refine aB (by simpa using this) rfl
  ·simp only [h1,decide_false,if_false,cond_false]
   by_cases h2:i / 16=2
   ·simp only [h2,decide_true,if_true,cond_true]
    refine aB rfl (aB rfl (aB (aF (by omega) (by omega)) (aB (aF (by omega) (by omega)) ?_)))
    have:=ko (3 * i+5) 16 (by decide)
    refine aB (by simpa using this) rfl
   ·simp only [h2,decide_false,if_false,cond_false]
    refine aB rfl (aB rfl (aB rfl (aB (aF (by omega) (by omega)) ?_)))
    have:=ko (7 * i) 16 (by decide)
    refine aB (by simpa using this) rfl
def df (b:List Int):Nat→List Int
 | 0=>List.replicate 16 0
 | i+1=>(df b i).set (i / 4) (bits .or .u32 ((df b i).getD (i / 4) 0) (IntKind.u32.wrap (IntKind.u32.wrap (b.getD i 0) * 2 ^ (8 * (i % 4)))))
theorem jS (b:List Int):∀ i,(df b i).length=16
 | 0=>rfl
 | i+1=>by simp only [df,List.length_set,jS b i]
theorem cf {A:Type} {l:List A} {i:Nat} (d:A) (h:i<l.length):bF l i=some (l.getD i d):=by
 simp [bF,List.getD,h]
theorem xV {A:Type} {l:List A} {i:Nat} (x:A) (h:i<l.length):tF l i x=some (l.set i x):=by simp [tF,h]
theorem pc (k:IntKind) (a:Int) (m:Nat) (hm:m≤k.bits):lu k a (m:Int)=some (k.wrap (a * 2 ^ m)):=by
 simp only [lu]
 rw [if_pos (by omega)]
 simp only [Int.toNat_natCast,Nat.min_eq_left hm]
theorem qo (k:IntKind) (a:Int) (m:Nat) (hm:m≤k.bits):kF k a (m:Int)=some (a.fdiv (2 ^ m)):=by
 simp only [kF]
 rw [if_pos (by omega)]
 simp only [Int.toNat_natCast,Nat.min_eq_left hm]
theorem sU (a b:Nat) (c:Int) (hc:c=b) (hb:0<b) (ha:a<9223372036854775808):qd .i64 (a:Int) c=some ((a / b:Nat):Int):=by subst hc; exact zE a b hb ha
theorem sK (a b:Nat) (c:Int) (hc:c=b) (hb:0<b):kC (a:Int) c=some ((a % b:Nat):Int):=by subst hc; exact ko a b hb
theorem ci {A:Type} {l:List A} {n:Nat} (h:l.length=n):iG n l=some l:=by simp [iG,h]
def pj (i:Nat):Nat:=[7,12,17,22,5,9,14,20,4,11,16,23,6,10,15,21].getD (i / 16 * 4+i % 4) 0
theorem yE (j:Nat) (hj:j<16):bF eK j=some (([7,12,17,22,5,9,14,20,4,11,16,23,6,10,15,21].getD j 0:Nat):Int):=by
 revert j; decide
theorem yC (i:Nat) (hi:i<64):pj i≤32:=by
 revert i; decide
def Bj (w:List Int) (i:Nat) (x:Int×Int×Int×Int):Int×Int×Int×Int :=
 let z:=IntKind.u32.wrap ((yz i x.2.1 x.2.2.1 x.2.2.2).1+IntKind.u32.wrap (IntKind.u32.wrap (x.1+cj.getD i 0)+w.getD (yz i x.2.1 x.2.2.1 x.2.2.2).2 0))
 (x.2.2.2,IntKind.u32.wrap (x.2.1+bits .or .u32 (IntKind.u32.wrap (z * 2 ^ pj i)) (z.fdiv (2 ^ (32-pj i)))),x.2.1,x.2.2.1)
def fx (w:List Int) (x:Int×Int×Int×Int):Nat→Int×Int×Int×Int
 | 0=>x
 | i+1=>Bj w i (fx w x i)
def Is (s:List Int) (x:Int×Int×Int×Int):List Int :=
 [IntKind.u32.wrap (s.getD 0 0+x.1),IntKind.u32.wrap (s.getD 1 0+x.2.1),IntKind.u32.wrap (s.getD 2 0+x.2.2.1),IntKind.u32.wrap (s.getD 3 0+x.2.2.2)]
def uG (s b:List Int):List Int:=Is s (fx (df b 64) (s.getD 0 0,s.getD 1 0,s.getD 2 0,s.getD 3 0) 64)
theorem vC (s b:List Int) (hs:s.length=4) (hb:b.length=64):di s b=some (uG s b):=by
 unfold di
 refine bo (s:=df b 64) (bD (fun i=>(df b i,(i:Int))) 64 _ rfl (by decide) (fun i hi => ?_) ?_) ?_
 ·refine aQ (decide_eq_true (by rw [hb]; omega)) ?_
  refine aB (bN (by omega)) (aB (cf 0 (by omega)) (aB (sU i 4 4 rfl (by decide) (by omega)) (aB (bN (by omega)) (aB (cf 0 (by rw [jS]; omega)) (aB rfl (aB (sK i 4 4 rfl (by decide)) ?_))))))
  refine aB (aF (by omega) (by omega)) ?_
  have e:(8:Int) * ((i % 4:Nat):Int)=((8 * (i % 4):Nat):Int):=by omega
  rw [e]
  refine aB (pc .u32 _ _ (by simp only [IntKind.bits]; omega)) (aB rfl (aB (bN (by omega)) (aB (xV _ (by rw [jS]; omega)) (aB (aF (by omega) (by omega)) ?_))))
  simp only [df]
  rfl
 ·refine aG (decide_eq_false (by rw [hb]; omega)) rfl
 ·refine aB (bN (i:=0) (by decide)) (aB (cf 0 (by omega)) (aB (bN (i:=1) (by decide)) (aB (cf 0 (by omega)) (aB (bN (i:=2) (by decide)) (aB (cf 0 (by omega)) (aB (bN (i:=3) (by decide)) (aB (cf 0 (by omega)) ?_)))))))
  refine bo (s:=fx (df b 64) (s.getD 0 0,s.getD 1 0,s.getD 2 0,s.getD 3 0) 64) (bD (fun i=>((fx (df b 64) (s.getD 0 0,s.getD 1 0,s.getD 2 0,s.getD 3 0) i).1,(fx (df b 64) (s.getD 0 0,s.getD 1 0,s.getD 2 0,s.getD 3 0) i).2.1,(fx (df b 64) (s.getD 0 0,s.getD 1 0,s.getD 2 0,s.getD 3 0) i).2.2.1,(fx (df b 64) (s.getD 0 0,s.getD 1 0,s.getD 2 0,s.getD 3 0) i).2.2.2,(i:Int))) 64 _ rfl (by decide) (fun i hi => ?_) ?_) ?_
  ·generalize hx:fx (df b 64) (s.getD 0 0,s.getD 1 0,s.getD 2 0,s.getD 3 0) i=x
   have hx1:fx (df b 64) (s.getD 0 0,s.getD 1 0,s.getD 2 0,s.getD 3 0) (i+1)=Bj (df b 64) i x:=by rw [← hx]; rfl
   rw [hx1]
   obtain ⟨p,q,r,t⟩:=x
   refine aQ (decide_eq_true (by omega)) ?_
   refine aB (bN (by omega)) (aB (cf 0 (show i<64 from hi)) (aB (Dg i hi q r t) (aB rfl ?_)))
   have hk:=EA i hi q r t
   refine aB (bN hk) (aB (cf 0 (by rw [jS]; exact hk)) (aB rfl (aB rfl (aB (sU i 16 16 rfl (by decide) (by omega)) (aB (sK i 4 4 rfl (by decide)) (aB (bN (by omega)) (aB (bN (by omega)) ?_)))))))
   have hj:0+i / 16 * 4+i % 4 * 1=i / 16 * 4+i % 4:=by omega
   rw [hj]
   have ht:bF eK (i / 16 * 4+i % 4)=some ((pj i:Nat):Int):=yE _ (by omega)
   have hle:=yC i hi
   refine aB ht (aB (pc .u32 _ _ (by simpa [IntKind.bits] using hle)) (aB (aF (by omega) (by omega)) ?_))
   have e:(32:Int)-((pj i:Nat):Int)=((32-pj i:Nat):Int):=by omega
   rw [e]
   refine aB (qo .u32 _ _ (by simp only [IntKind.bits]; omega)) (aB rfl (aB rfl (aB (aF (by omega) (by omega)) ?_)))
   rfl
  ·exact aG (by decide) rfl
  ·refine aB (bN (i:=0) (by decide)) (aB (cf 0 (by omega)) (aB rfl (aB (bN (i:=1) (by decide)) (aB (cf 0 (by omega)) (aB rfl (aB (bN (i:=2) (by decide)) (aB (cf 0 (by omega)) (aB rfl (aB (bN (i:=3) (by decide)) (aB (cf 0 (by omega)) (aB rfl ?_)))))))))))
   exact aB (ci rfl) (aB (ci rfl) (aB (ci rfl) rfl))
def ke (n:Nat):List Int:=(List.range 8).map fun i=>IntKind.u8.wrap ((IntKind.u64.wrap ((n:Int) * 2 ^ 3)).fdiv (2 ^ (8 * i)))
def jq (m:Nat):Nat:=if 55<m then 128 else 64
def qv (rest:List Int) (n:Nat):List Int:=rest++128::List.replicate (jq rest.length-rest.length-9) 0++ke n
theorem Bu (rest:List Int) (n:Nat) (h:rest.length<64):(qv rest n).length=jq rest.length:=by
 simp only [qv,jq,ke,List.length_append,List.length_cons,List.length_replicate,List.length_map,List.length_range]
 split <;> omega
theorem ov (k:Nat) (l:List Int) (h:l.length≤k):kv (List.replicate k (0:Int)) l=l++List.replicate (k-l.length) 0:=by
 unfold kv
 rw [List.length_replicate,Nat.min_eq_left h,List.take_length,List.drop_replicate]
theorem lD (n:Nat) (h:n<18446744073709551616):IntKind.u64.wrap (n:Int)=(n:Int):=by
 have e:IntKind.u64.wrap (n:Int)=(n:Int) % 18446744073709551616:=by
  simp only [IntKind.wrap,IntKind.bits,IntKind.signed]
  have e:(2:Int) ^ 64=18446744073709551616:=by decide
  simp only [e,Bool.false_and,Bool.false_eq_true,if_false]
 rw [e]; omega
theorem up {A:Type} (a:List A) (x y:A) (r:List A) (i:Nat) (h:i=a.length):(a++x::r).set i y=a++y::r:=by
 subst h; rw [List.set_append_right _ _ (Nat.le_refl _)]; simp
theorem Af (rest:List Int) (n:Nat) (h:rest.length<64) (hn:n<1000000000):ga rest (n:Int)=some (qv rest n):=by
 unfold ga
 refine bo (s:=((jq rest.length:Nat):Int)) ?_ ?_
 ·refine aB (aF (by omega) (by omega)) (aB (aF (by omega) (by omega)) ?_)
  by_cases h1:55<rest.length
  ·refine aQ (decide_eq_true (by omega)) ?_
   simp only [jq,if_pos h1]; rfl
  ·refine aG (decide_eq_false (by omega)) ?_
   simp only [jq,if_neg h1]; rfl
 generalize hm:jq rest.length=m
 have hm1:rest.length+9≤m∧m≤128:=by rw [← hm]; unfold jq; split <;> omega
 have hmk:GH 1 (m:Int) (0:Int)=some (List.replicate m 0):=by
  unfold GH
  rw [if_pos (by simp only [Int.toNat_natCast]; omega),Int.toNat_natCast]
 refine aB hmk (aB rfl ?_)
 rw [ov m rest (by omega)]
 refine aB (bN (by simp only [List.length_append,List.length_replicate]; omega)) (aB rfl (aB rfl (aB (pc .u64 _ 3 (by decide)) ?_)))
 rw [lD n (by omega)]
 obtain ⟨z,hz⟩:∃ z,m-rest.length=z+9:=⟨m-rest.length-9,by omega⟩
 have hset:(rest++List.replicate (m-rest.length) (0:Int)).set rest.length 128=rest++128::List.replicate (z+8) 0:=by
  rw [hz,List.replicate_succ]
  exact up rest 0 128 _ _ rfl
 rw [hset]
 refine bo (s:=qv rest n) (bD (fun i=>(rest++128::List.replicate z 0++((ke n).take i++List.replicate (8-i) 0),(i:Int))) 8 _ ?_ (by decide) (fun i hi => ?_) ?_) ?_
 ·simp only [List.take_zero,List.nil_append,Nat.sub_zero,List.append_assoc,List.cons_append,List.replicate_append_replicate]
  rfl
 ·have hl8:(ke n).length=8:=rfl
  refine aQ (decide_eq_true (by omega)) ?_
  refine aB (aF (by omega) (by omega)) (aB (aF (by omega) (by omega)) (aB (aF (by omega) (by omega)) ?_))
  have e:(8:Int) * (i:Int)=((8 * i:Nat):Int):=by omega
  rw [e]
  refine aB (qo .u64 _ _ (by simp only [IntKind.bits]; omega)) (aB rfl ?_)
  have e2:(m:Int)-8+(i:Int)=((m-8+i:Nat):Int):=by omega
  rw [e2]
  refine aB (bN (by simp only [List.length_append,List.length_cons,List.length_replicate,List.length_take,hl8]; omega)) (aB rfl (aB (aF (by omega) (by omega)) ?_))
  obtain ⟨q,hq⟩:∃ q,8-i=q+1:=⟨8-i-1,by omega⟩
  have hq':8-(i+1)=q:=by omega
  rw [hq,hq',List.replicate_succ]
  have ht:(ke n).take (i+1)=(ke n).take i++[IntKind.u8.wrap ((IntKind.u64.wrap ((n:Int) * 2 ^ 3)).fdiv (2 ^ (8 * i)))]:=by
   rw [List.take_add_one]
   congr 1
   simp only [ke,List.getElem?_map,List.getElem?_range hi,Option.map_some,Option.toList_some]
  rw [ht]
  have:=up (rest++128::List.replicate z 0++(ke n).take i) (0:Int) (IntKind.u8.wrap ((IntKind.u64.wrap ((n:Int) * 2 ^ 3)).fdiv (2 ^ (8 * i)))) (List.replicate q 0) (m-8+i) (by
   simp only [List.length_append,List.length_cons,List.length_replicate,List.length_take,hl8]; omega)
  simp only [List.append_assoc,List.cons_append,List.nil_append] at this ⊢
  rw [this]
  rfl
 ·refine aG (by decide) ?_
  have:(ke n).take 8=ke n:=rfl
  rw [this]
  simp only [Nat.sub_self,List.replicate_zero,List.append_nil,qv]
  have:jq rest.length-rest.length-9=z:=by omega
  rw [this]
 ·rfl
def ji (s l:List Int):Nat→List Int
 | 0=>s
 | i+1=>uG (ji s l i) ((l.drop (64 * i)).take 64)
theorem gm (s l:List Int) (hs:s.length=4):∀ i,(ji s l i).length=4
 | 0=>hs
 | i+1=>rfl
def km:List Int:=[1732584193,4023233417,2562383102,271733878]
def qU (s:List Int):List Int:=(List.range 16).map fun i=>IntKind.u8.wrap ((s.getD (i / 4) 0).fdiv (2 ^ (8 * (i % 4))))
theorem wJ (s:List Int):(qU s).length=16:=rfl
def sP (b:List Int):List Int :=
 qU (ji (ji km b (b.length / 64)) (qv (b.drop (b.length / 64 * 64)) b.length) (jq (b.length % 64) / 64))
theorem hZ (b:List Int):(sP b).length=16:=rfl
theorem wu (s:List Int) (hs:s.length=4) {A:Type} {f:List Int×Int→Option ((List Int×Int)⊕(List Int⊕A))}
  (hf:∀ (l:List Int) (i:Nat),i<16→l.length=16→f (l,(i:Int))=some (.inl (l.set i (IntKind.u8.wrap ((s.getD (i / 4) 0).fdiv (2 ^ (8 * (i % 4))))),((i+1:Nat):Int)))) (he:∀ l,f (l,16)=some (.inr (.inl l))) :
  bB f el (List.replicate 16 0,0)=some (.inl (qU s)):=by
 refine bD (fun i=>((qU s).take i++List.replicate (16-i) 0,(i:Int))) 16 _ rfl (by decide) (fun i hi => ?_) ?_
 ·have hl:((qU s).take i).length=i:=by rw [List.length_take,wJ]; omega
  rw [hf _ i hi (by rw [List.length_append,hl,List.length_replicate]; omega)]
  obtain ⟨q,hq⟩:∃ q,16-i=q+1:=⟨16-i-1,by omega⟩
  have hq':16-(i+1)=q:=by omega
  rw [hq,hq',List.replicate_succ,up _ _ _ _ i hl.symm]
  have ht:(qU s).take (i+1)=(qU s).take i++[IntKind.u8.wrap ((s.getD (i / 4) 0).fdiv (2 ^ (8 * (i % 4))))]:=by
   rw [List.take_add_one]
   congr 1
   simp only [qU,List.getElem?_map,List.getElem?_range hi,Option.map_some,Option.toList_some]
  rw [ht,List.append_assoc]
  rfl
 ·rw [show ((qU s).take 16++List.replicate (16-16) (0:Int))=qU s from by rw [List.take_of_length_le (by rw [wJ]; decide)]; simp]
  exact he _
theorem xy (b:List Int) (hb:b.length<100000000):gH b=some (sP b):=by
 unfold gH
 refine aB (ci rfl) (aB (ci rfl) (aB (sU _ 64 64 rfl (by decide) (by omega)) (aB (aF (by omega) (by omega)) ?_)))
 have e:((b.length / 64:Nat):Int) * 64=((b.length / 64 * 64:Nat):Int):=by omega
 rw [e]
 have hdm:=Nat.div_add_mod b.length 64
 refine bo (s:=ji km b (b.length / 64)) (bD (fun i=>(ji km b i,((64 * i:Nat):Int))) (b.length / 64) _ rfl (by simp only [el]; omega) (fun i hi => ?_) ?_) ?_
 ·refine aQ (decide_eq_true (by omega)) ?_
  refine aB (ci (gm _ _ rfl i)) (aB (aF (by omega) (by omega)) ?_)
  have e:((64 * i:Nat):Int)+64=((64 * i+64:Nat):Int):=by omega
  rw [e]
  refine aB (ru b (by omega) (by omega)) ?_
  rw [show 64 * i+64-64 * i=64 by omega]
  refine aB (vC _ _ (gm _ _ rfl i) (by simp only [List.length_take,List.length_drop]; omega)) (aB (ci (gm _ _ rfl i)) (aB (ci rfl) (aB (aF (by omega) (by omega)) ?_)))
  rw [show 64 * (i+1)=64 * i+64 by omega]
  simp only [ji]
 ·exact aG (decide_eq_false (by omega)) rfl
 have hsl:kN b ((b.length / 64 * 64:Nat):Int) (b.length:Int)=some (b.drop (b.length / 64 * 64)):=by
  rw [ru b (by omega) (Nat.le_refl _),List.take_of_length_le (by rw [List.length_drop]; omega)]
 refine aB hsl ?_
 have hrl:(b.drop (b.length / 64 * 64)).length=b.length % 64:=by rw [List.length_drop]; omega
 have hlt:b.length % 64<64:=Nat.mod_lt _ (by decide)
 refine aB (Af _ b.length (by omega) (by omega)) ?_
 generalize hs1:ji km b (b.length / 64)=s1
 have hs1l:s1.length=4:=by rw [← hs1]; exact gm _ _ rfl _
 have hpl:=Bu (b.drop (b.length / 64 * 64)) b.length (by omega)
 rw [hrl] at hpl
 have hp2:jq (b.length % 64)=jq (b.length % 64) / 64 * 64∧jq (b.length % 64)≤128:=by unfold jq; split <;> decide
 refine bo (s:=ji s1 (qv (b.drop (b.length / 64 * 64)) b.length) (jq (b.length % 64) / 64)) (bD (fun i=>(ji s1 (qv (b.drop (b.length / 64 * 64)) b.length) i,qv (b.drop (b.length / 64 * 64)) b.length,((64 * i:Nat):Int))) (jq (b.length % 64) / 64) _ rfl (by simp only [el]; omega) (fun i hi => ?_) ?_) ?_
 ·refine aQ (decide_eq_true (by rw [hpl]; omega)) ?_
  refine aB (ci (gm _ _ hs1l i)) (aB (aF (by omega) (by omega)) ?_)
  have e:((64 * i:Nat):Int)+64=((64 * i+64:Nat):Int):=by omega
  rw [e]
  refine aB (ru _ (by omega) (by omega)) ?_
  rw [show 64 * i+64-64 * i=64 by omega]
  refine aB (vC _ _ (gm _ _ hs1l i) (by simp only [List.length_take,List.length_drop,hpl]; omega)) (aB (ci (gm _ _ hs1l i)) (aB (ci rfl) (aB (aF (by omega) (by omega)) ?_)))
  rw [show 64 * (i+1)=64 * i+64 by omega]
  simp only [ji]
 ·exact aG (decide_eq_false (by rw [hpl]; omega)) rfl
 have hs2l:=gm s1 (qv (b.drop (b.length / 64 * 64)) b.length) hs1l (jq (b.length % 64) / 64)
 unfold sP
 rw [hs1]
 generalize ji s1 (qv (b.drop (b.length / 64 * 64)) b.length) (jq (b.length % 64) / 64)=s2 at hs2l
 refine bo (wu s2 hs2l (fun l i hi hl => ?_) (fun l=>aG (by decide) rfl)) ?_
 ·refine aQ (decide_eq_true (by omega)) ?_
  refine aB (sU i 4 4 rfl (by decide) (by omega)) (aB (bN (by omega)) (aB (cf 0 (by omega)) (aB (sK i 4 4 rfl (by decide)) (aB (aF (by omega) (by omega)) ?_))))
  have e:(8:Int) * ((i % 4:Nat):Int)=((8 * (i % 4):Nat):Int):=by omega
  rw [e]
  refine aB (qo .u32 _ _ (by simp only [IntKind.bits]; omega)) (aB rfl (aB (bN hi) (aB (xV _ (by omega)) (aB (aF (by omega) (by omega)) rfl))))
 ·exact aB (ci rfl) (aB (ci rfl) (aB (ci rfl) (aB (ci rfl) rfl)))
def oM (key:List Int):List Int:=if 64<key.length then kv (List.replicate 64 0) (sP key) else kv (List.replicate 64 0) key
theorem wD (k:Nat) (l:List Int) (h:l.length≤k):(kv (List.replicate k (0:Int)) l).length=k:=by
 rw [ov k l h]; simp only [List.length_append,List.length_replicate]; omega
theorem ww (key:List Int):(oM key).length=64:=by
 unfold oM
 split
 ·exact wD _ _ (by rw [hZ]; decide)
 ·exact wD _ _ (by omega)
def sC (k text:List Int):List Int :=
 sP (k.map (fun x=>bits .xor .u8 x 92)++sP (k.map (fun x=>bits .xor .u8 x 54)++text))
theorem zQ (k t:List Int):(sC k t).length=16:=rfl
theorem BX (key text:List Int) (hk:key.length<1000000) (ht:text.length<1000000):ii key text=some (sC (oM key) text):=by
 unfold ii
 refine bo (s:=oM key) ?_ ?_
 ·unfold oM
  by_cases h:64<key.length
  ·refine aQ (decide_eq_true (by omega)) ?_
   rw [if_pos h]
   exact aB (xy key (by omega)) (aB (ci rfl) (aB (ci rfl) (aB (ci rfl) (aB (ci rfl) rfl))))
  ·refine aG (decide_eq_false (by omega)) ?_
   rw [if_neg h]
   exact aB (ci rfl) rfl
 ·have hkl:=ww key
  generalize oM key=k at hkl
  refine aB (aF (by omega) (by omega)) (aB (x:=()) (by unfold Cl; rw [if_pos (by omega)]) (aB (x:=()) rfl (aB (ci hkl) ?_)))
  refine bo (s:=(k.map (fun x=>bits .xor .u8 x 54),k.map (fun x=>bits .xor .u8 x 92))) (bD (fun i=>((k.take i).map (fun x=>bits .xor .u8 x 54),(k.take i).map (fun x=>bits .xor .u8 x 92),(i:Int))) 64 _ rfl (by decide) (fun i hi => ?_) ?_) ?_
  ·refine aQ (decide_eq_true (by omega)) ?_
   have hg:k[i]? = some (k.getD i 0):=cf 0 (by omega)
   refine aB (bN hi) (aB hg (aB rfl ?_))
   refine aB (dS (by simp only [List.length_map,List.length_take,List.length_cons,List.length_nil]; omega) (by simp only [List.length_map,List.length_take,List.length_cons,List.length_nil]; omega)) (aB rfl (aB (dS (by simp only [List.length_map,List.length_take,List.length_cons,List.length_nil]; omega) (by simp only [List.length_map,List.length_take,List.length_cons,List.length_nil]; omega)) (aB (aF (by omega) (by omega)) ?_)))
   rw [List.take_add_one,hg]
   simp only [Option.toList_some,List.map_append,List.map_cons,List.map_nil]
   rfl
  ·refine aG (by decide) ?_
   rw [List.take_of_length_le (by omega)]
  ·refine aB (dS (by simp only [List.length_map]; omega) (by simp only [List.length_map]; omega)) (aB (xy _ (by simp only [List.length_append,List.length_map]; omega)) (aB (ci rfl) (aB (ci rfl) (aB (ci rfl) ?_))))
   refine aB (dS (by simp only [List.length_map,hZ]; omega) (by simp only [List.length_map,hZ]; omega)) (aB (xy _ (by simp only [List.length_append,List.length_map,hZ]; omega)) (aB (ci rfl) (aB (ci rfl) (aB (ci rfl) ?_))))
   rfl
theorem vj (l:List Int) (h:l.length≤1000000):dr l=some l:=by
 unfold dr
 exact aB (dS (by simp only [List.length_nil]; omega) (by simp only [List.length_nil]; omega)) rfl
theorem rR (n:Int):IntKind.u32.wrap n=n % 4294967296:=by
 simp only [IntKind.wrap,IntKind.bits,IntKind.signed]
 have e:(2:Int) ^ 32=4294967296:=by decide
 simp only [e,Bool.false_and,Bool.false_eq_true,if_false]
theorem zb (x:BitVec 32):IntKind.u32.wrap (x.toNat:Int)=(x.toNat:Int):=by
 rw [rR]; have:=x.isLt; omega
theorem BE (x:BitVec 32):BitVec.ofInt 32 (x.toNat:Int)=x:=by
 rw [BitVec.ofInt_natCast,BitVec.ofNat_toNat,BitVec.setWidth_eq]
theorem IS (y:Int):bits .or .u32 0 (IntKind.u32.wrap y)=IntKind.u32.wrap y:=by
 show IntKind.u32.wrap ((BitVec.ofInt 32 0 ||| BitVec.ofInt 32 (IntKind.u32.wrap y)).toNat:Int)=_
 have h0:BitVec.ofInt 32 0=0#32:=by decide
 rw [h0,BitVec.zero_or,zb,rR]
 obtain ⟨m,hm⟩:∃ m:Nat,y % 4294967296=(m:Int):=⟨(y % 4294967296).toNat,by omega⟩
 rw [hm,BitVec.ofInt_natCast,BitVec.toNat_ofNat]
 omega
theorem Fg (r t:Int):bits .andNot .u32 r t=bits .and .u32 (bits .xor .u32 4294967295 t) r:=by
 show IntKind.u32.wrap ((BitVec.ofInt 32 r &&& ~~~ BitVec.ofInt 32 t).toNat:Int)=IntKind.u32.wrap ((BitVec.ofInt 32 (IntKind.u32.wrap ((BitVec.ofInt 32 4294967295 ^^^ BitVec.ofInt 32 t).toNat:Int)) &&& BitVec.ofInt 32 r).toNat:Int)
 rw [zb (BitVec.ofInt 32 4294967295 ^^^ BitVec.ofInt 32 t),BE]
 generalize BitVec.ofInt 32 r=x
 generalize BitVec.ofInt 32 t=y
 congr 2
 have h1:BitVec.ofInt 32 4294967295=BitVec.allOnes 32:=by decide
 rw [h1]
 congr 1
 rw [BitVec.allOnes_xor,BitVec.and_comm]
def pI (b:List Int) (g:Nat):Nat→Int
 | 0=>0
 | k+1=>if k<4 then bits .or .u32 (pI b g k) (IntKind.u32.wrap (IntKind.u32.wrap (b.getD (4 * g+k) 0) * 2 ^ (8 * k))) else pI b g k
theorem sW (b:List Int) (g:Nat) (hg:g<16):∀ n,n≤64→(df b n).getD g 0=pI b g (n-4 * g)
 | 0,_=>by
  rw [Nat.zero_sub]
  simp only [df,pI,List.getD,List.getElem?_replicate,if_pos hg,Option.getD_some]
 | n+1,h=>by
  have ih:=sW b g hg n (by omega)
  simp only [df]
  have hl:=jS b n
  by_cases e:n / 4=g
  ·have hset:((df b n).set (n / 4) (bits .or .u32 ((df b n).getD (n / 4) 0) (IntKind.u32.wrap (IntKind.u32.wrap (b.getD n 0) * 2 ^ (8 * (n % 4)))))).getD g 0=bits .or .u32 ((df b n).getD g 0) (IntKind.u32.wrap (IntKind.u32.wrap (b.getD n 0) * 2 ^ (8 * (n % 4)))):=by
    rw [e,List.getD,List.getElem?_set_self (by omega)]; rfl
   rw [hset,ih]
   have h1:n+1-4 * g=n % 4+1:=by omega
   have h2:n-4 * g=n % 4:=by omega
   rw [h1,h2]
   simp only [pI]
   rw [if_pos (by omega),show 4 * g+n % 4=n by omega]
  ·have hset:((df b n).set (n / 4) (bits .or .u32 ((df b n).getD (n / 4) 0) (IntKind.u32.wrap (IntKind.u32.wrap (b.getD n 0) * 2 ^ (8 * (n % 4)))))).getD g 0=(df b n).getD g 0:=by
    rw [List.getD,List.getElem?_set_ne e]; rfl
   rw [hset,ih]
   by_cases h3:n<4 * g
   ·rw [show n+1-4 * g=0 by omega,show n-4 * g=0 by omega]
   ·obtain ⟨k,hk⟩:∃ k,n-4 * g=k:=⟨_,rfl⟩
    rw [show n+1-4 * g=k+1 by omega,hk]
    simp only [pI]
    rw [if_neg (by omega)]
theorem lJ (x:List Int) (a i:Nat) (hi:i<64):((x.drop a).take 64).getD i 0=x.getD (a+i) 0:=by
 simp only [List.getD,List.getElem?_take,List.getElem?_drop,if_pos hi]
theorem Dx (x:List Int) (a g:Nat) (hg:g<16) (ha:a+64≤x.length) (hx:x.length<1000000000) :
  eD x ((a+4 * g:Nat):Int)=some ((df ((x.drop a).take 64) 64).getD g 0):=by
 unfold eD
 refine aB (bN (by omega)) (aB (cf 0 (by omega)) (aB rfl (aB (aF (by omega) (by omega)) ?_)))
 have e1:((a+4 * g:Nat):Int)+1=((a+4 * g+1:Nat):Int):=by omega
 have e2:((a+4 * g:Nat):Int)+2=((a+4 * g+2:Nat):Int):=by omega
 have e3:((a+4 * g:Nat):Int)+3=((a+4 * g+3:Nat):Int):=by omega
 rw [e1,e2,e3]
 refine aB (bN (by omega)) (aB (cf 0 (by omega)) (aB rfl (aB (pc .u32 _ 8 (by decide)) (aB rfl (aB (aF (by omega) (by omega)) ?_)))))
 refine aB (bN (by omega)) (aB (cf 0 (by omega)) (aB rfl (aB (pc .u32 _ 16 (by decide)) (aB rfl (aB (aF (by omega) (by omega)) ?_)))))
 refine aB (bN (by omega)) (aB (cf 0 (by omega)) (aB rfl (aB (pc .u32 _ 24 (by decide)) (aB rfl ?_))))
 rw [sW _ g hg 64 (Nat.le_refl _)]
 have hp:∀ b:List Int,∀ k,pI b g (4+k)=bits .or .u32 (bits .or .u32 (bits .or .u32 (IntKind.u32.wrap (b.getD (4 * g) 0)) (IntKind.u32.wrap (IntKind.u32.wrap (b.getD (4 * g+1) 0) * 2 ^ 8))) (IntKind.u32.wrap (IntKind.u32.wrap (b.getD (4 * g+2) 0) * 2 ^ 16))) (IntKind.u32.wrap (IntKind.u32.wrap (b.getD (4 * g+3) 0) * 2 ^ 24)):=by
  intro b k
  induction k with
  | zero =>
   simp only [pI,Nat.reduceLT,if_true,Nat.mul_zero,Int.pow_zero,Int.mul_one,Nat.add_zero,Nat.mul_one,Nat.reduceMul]
   rw [IS]
   have:IntKind.u32.wrap (IntKind.u32.wrap (b.getD (4 * g) 0))=IntKind.u32.wrap (b.getD (4 * g) 0):=by rw [rR,rR]; omega
   rw [this]
  | succ k ih =>
   rw [show 4+(k+1)=(4+k)+1 by omega]
   simp only [pI]
   rw [if_neg (by omega),ih]
 rw [show 64-4 * g=4+(60-4 * g) by omega,hp,lJ x a (4 * g) (by omega),lJ x a (4 * g+1) (by omega),lJ x a (4 * g+2) (by omega),lJ x a (4 * g+3) (by omega)]
 rfl
theorem Cy (i:Nat) (hi:i<64):dV (i:Int)=some ((pj i:Nat):Int):=by
 unfold dV
 refine aB (sU i 16 16 rfl (by decide) (by omega)) (aB (aF (by omega) (by omega)) (aB (sK i 4 4 rfl (by decide)) (aB (aF (by omega) (by omega)) ?_)))
 have e:((i / 16:Nat):Int) * 4+((i % 4:Nat):Int)=((i / 16 * 4+i % 4:Nat):Int):=by omega
 rw [e]
 refine aB (bN (by simp only [List.length_cons,List.length_nil]; omega)) (aB (yE _ (by omega)) rfl)
def uA (b:List Int):List Int:=b++128::List.replicate (jq (b.length % 64)-b.length % 64-9) 0++ke b.length
theorem BU (b:List Int):(uA b).length=64 * (b.length / 64+jq (b.length % 64) / 64):=by
 have hlt:b.length % 64<64:=Nat.mod_lt _ (by decide)
 have hdm:=Nat.div_add_mod b.length 64
 simp only [uA,ke,List.length_append,List.length_cons,List.length_replicate,List.length_map,List.length_range]
 unfold jq
 split <;> omega
theorem DV (b:List Int):uA b=b.take (b.length / 64 * 64)++qv (b.drop (b.length / 64 * 64)) b.length:=by
 have hrl:(b.drop (b.length / 64 * 64)).length=b.length % 64:=by rw [List.length_drop]; omega
 simp only [uA,qv,hrl]
 rw [← List.append_assoc,← List.append_assoc,List.take_append_drop]
theorem vm (s l1 l2:List Int):∀ k,64 * k≤l1.length→ji s (l1++l2) k=ji s l1 k
 | 0,_=>rfl
 | k+1,h=>by
  simp only [ji]
  rw [vm s l1 l2 k (by omega),List.drop_append_of_le_length (by omega),List.take_append_of_le_length (by rw [List.length_drop]; omega)]
theorem wv (s l1 l2:List Int) (k:Nat) (h:l1.length=64 * k):∀ j,ji s (l1++l2) (k+j)=ji (ji s (l1++l2) k) l2 j
 | 0=>rfl
 | j+1=>by
  rw [← Nat.add_assoc]
  simp only [ji]
  rw [wv s l1 l2 k h j,List.drop_append,List.drop_of_length_le (by omega),List.nil_append,h,show 64 * (k+j)-64 * k=64 * j by omega]
theorem Bt (b:List Int):sP b=qU (ji km (uA b) (b.length / 64+jq (b.length % 64) / 64)):=by
 have h1:(b.take (b.length / 64 * 64)).length=64 * (b.length / 64):=by rw [List.length_take]; omega
 rw [DV,wv _ _ _ _ h1,vm _ _ _ _ (by omega)]
 unfold sP
 congr 2
 have:=vm km (b.take (b.length / 64 * 64)) (b.drop (b.length / 64 * 64)) (b.length / 64) (by omega)
 rw [List.take_append_drop] at this
 exact this
theorem Ft:fp=some cj:=rfl
theorem HK (a w k f:Int):IntKind.u32.wrap (IntKind.u32.wrap (IntKind.u32.wrap (f+a)+k)+w)=IntKind.u32.wrap (f+IntKind.u32.wrap (IntKind.u32.wrap (a+k)+w)):=by
 simp only [rR]; omega
theorem Il (s:List Int) (hs:s.length=4) (a b c d:Int):(((s.set 0 a).set 1 b).set 2 c).set 3 d=[a,b,c,d]:=by
 match s,hs with
 | [x,y,z,t],_=>rfl
theorem uO (b:List Int) (hb:b.length<1000000):du b=some (sP b):=by
 unfold du
 have hlt:b.length % 64<64:=Nat.mod_lt _ (by decide)
 have hdm:=Nat.div_add_mod b.length 64
 have hp:jq (b.length % 64)=if 55<b.length % 64 then 128 else 64:=rfl
 obtain ⟨z,hz⟩:∃ z,jq (b.length % 64)-b.length % 64-9=z:=⟨_,rfl⟩
 refine aB (vj b (by omega)) (aB (dS (by simp only [List.length_cons,List.length_nil]; omega) (by simp only [List.length_cons,List.length_nil]; omega)) ?_)
 refine bo (s:=b++128::List.replicate z 0) (bD (fun i=>b++128::List.replicate i 0) z _ rfl (by simp only [el]; split at hp <;> omega) (fun i hi => ?_) ?_) ?_
 ·have hl:(b++128::List.replicate i (0:Int)).length=b.length+1+i:=by simp; omega
  rw [hl]
  refine aB (sK _ 64 64 rfl (by decide)) (aQ ?_ ?_)
  ·rw [bne_iff_ne]; split at hp <;> omega
  ·refine aB (dS (by rw [hl]; simp only [List.length_cons,List.length_nil]; split at hp <;> omega) (by rw [hl]; simp only [List.length_cons,List.length_nil]; split at hp <;> omega)) ?_
   rw [List.append_assoc,List.cons_append,← List.replicate_succ']
 ·have hl:(b++128::List.replicate z (0:Int)).length=b.length+1+z:=by simp; omega
  rw [hl]
  refine aB (sK _ 64 64 rfl (by decide)) (aG ?_ rfl)
  rw [bne_eq_false_iff_eq]; split at hp <;> omega
 have hxe:uA b=b++128::List.replicate z 0++ke b.length:=by simp only [uA,hz]
 have hxl:=BU b
 have hzle:z≤64:=by split at hp <;> omega
 refine bo (s:=uA b) (bD (fun i=>(b++128::List.replicate z 0++(ke b.length).take i,(i:Int))) 8 _ (by simp) (by decide) (fun i hi => ?_) ?_) ?_
 ·refine aQ (decide_eq_true (by omega)) ?_
  have e8:(8:Int) * (b.length:Int)=((8 * b.length:Nat):Int):=by omega
  have e8':(8:Int) * (i:Int)=((8 * i:Nat):Int):=by omega
  refine aB (aF (by omega) (by omega)) ?_
  rw [e8,lD _ (by omega)]
  refine aB rfl (aB (aF (by omega) (by omega)) ?_)
  rw [e8',lD _ (by omega)]
  refine aB rfl (aB (qo .u64 _ _ (by simp only [IntKind.bits]; omega)) (aB rfl ?_))
  have hl:(b++128::List.replicate z 0++(ke b.length).take i).length≤b.length+100:=by
   have h8:((ke b.length).take i).length≤8:=by rw [List.length_take]; simp only [ke,List.length_map,List.length_range]; omega
   simp only [List.length_append,List.length_cons,List.length_replicate]
   omega
  refine aB (dS (by simp only [List.length_cons,List.length_nil]; omega) (by simp only [List.length_cons,List.length_nil]; omega)) (aB (aF (by omega) (by omega)) ?_)
  have ht:(ke b.length).take (i+1)=(ke b.length).take i++[IntKind.u8.wrap ((IntKind.u64.wrap ((b.length:Int) * 2 ^ 3)).fdiv (2 ^ (8 * i)))]:=by
   rw [List.take_add_one]
   congr 1
   simp only [ke,List.getElem?_map,List.getElem?_range hi,Option.map_some,Option.toList_some]
  have e3:(b.length:Int) * 2 ^ 3=((8 * b.length:Nat):Int):=by omega
  rw [ht,← List.append_assoc,e3,lD _ (by omega)]
  rfl
 ·refine aG (by decide) ?_
  have:(ke b.length).take 8=ke b.length:=rfl
  rw [this,← hxe]
 refine aB Ft ?_
 generalize hm:b.length / 64+jq (b.length % 64) / 64=m at hxl
 have hml:m≤100000:=by split at hp <;> omega
 have hsr:=Bt b
 rw [hm] at hsr
 rw [hsr]
 generalize uA b=x at hxl
 refine bo (s:=ji km x m) (bD (fun i=>(ji km x i,((64 * i:Nat):Int))) m _ rfl (by simp only [el]; omega) (fun i hi => ?_) ?_) ?_
 ·have hsl:=gm km x rfl i
  have hstep:ji km x (i+1)=uG (ji km x i) ((x.drop (64 * i)).take 64):=rfl
  rw [hstep]
  generalize ji km x i=s at hsl
  refine aQ (decide_eq_true (by rw [hxl]; omega)) ?_
  refine aB (bN (i:=0) (by omega)) (aB (cf 0 (by omega)) (aB (bN (i:=1) (by omega)) (aB (cf 0 (by omega)) (aB (bN (i:=2) (by omega)) (aB (cf 0 (by omega)) (aB (bN (i:=3) (by omega)) (aB (cf 0 (by omega)) ?_)))))))
  generalize hW:df ((x.drop (64 * i)).take 64) 64=W
  refine bo (s:=fx W (s.getD 0 0,s.getD 1 0,s.getD 2 0,s.getD 3 0) 64) (bD (fun j=>((fx W (s.getD 0 0,s.getD 1 0,s.getD 2 0,s.getD 3 0) j).1,(fx W (s.getD 0 0,s.getD 1 0,s.getD 2 0,s.getD 3 0) j).2.1,(fx W (s.getD 0 0,s.getD 1 0,s.getD 2 0,s.getD 3 0) j).2.2.1,(fx W (s.getD 0 0,s.getD 1 0,s.getD 2 0,s.getD 3 0) j).2.2.2,(j:Int))) 64 _ rfl (by decide) (fun j hj => ?_) ?_) ?_
  ·have hx1:fx W (s.getD 0 0,s.getD 1 0,s.getD 2 0,s.getD 3 0) (j+1)=Bj W j (fx W (s.getD 0 0,s.getD 1 0,s.getD 2 0,s.getD 3 0) j):=rfl
   rw [hx1]
   generalize fx W (s.getD 0 0,s.getD 1 0,s.getD 2 0,s.getD 3 0) j=y
   obtain ⟨p,q,r,t⟩:=y
   refine aQ (decide_eq_true (by omega)) ?_
   refine bo (s:=((yz j q r t).1,((yz j q r t).2:Int))) ?_ ?_
   ·refine aB (sU j 16 16 rfl (by decide) (by omega)) ?_
    refine bo (s:=((yz j q r t).1,((yz j q r t).2:Int))) ?_ rfl
    have e0:(((j / 16:Nat):Int)==0)=decide (j / 16=0):=qe _ 0
    have e1:(((j / 16:Nat):Int)==1)=decide (j / 16=1):=qe _ 1
    have e2:(((j / 16:Nat):Int)==2)=decide (j / 16=2):=qe _ 2
    unfold yz
    rw [e0,e1,e2]
    by_cases h0:j / 16=0
    ·simp only [h0,decide_true,if_true,cond_true,Option.bind_some]
    ·simp only [h0,decide_false,if_false,cond_false]
     by_cases h1:j / 16=1
     ·simp only [h1,decide_true,if_true,cond_true]
      rw [Fg,show bits .and .u32 q t=bits .and .u32 t q from by show IntKind.u32.wrap _=IntKind.u32.wrap _; rw [BitVec.and_comm]]
      refine aB rfl (aB rfl (aB rfl (aB rfl (aB (aF (by omega) (by omega)) (aB (aF (by omega) (by omega)) ?_)))))
      have:=ko (5 * j+1) 16 (by decide)
      refine aB (by simpa using this) rfl
     ·simp only [h1,decide_false,if_false,cond_false]
      by_cases h2:j / 16=2
      ·simp only [h2,decide_true,if_true,cond_true]
       refine aB rfl (aB rfl (aB (aF (by omega) (by omega)) (aB (aF (by omega) (by omega)) ?_)))
       have:=ko (3 * j+5) 16 (by decide)
       refine aB (by simpa using this) rfl
      ·simp only [h2,decide_false,if_false,cond_false]
       refine aB rfl (aB rfl (aB rfl (aB (aF (by omega) (by omega)) ?_)))
       have:=ko (7 * j) 16 (by decide)
       refine aB (by simpa using this) rfl
   ·have hk:=EA j hj q r t
    refine aB rfl (aB (bN (show j<cj.length from hj)) (aB (cf 0 (show j<cj.length from hj)) (aB rfl (aB (aF (by omega) (by omega)) (aB (aF (by omega) (by omega)) ?_)))))
    have ea:((64 * i:Nat):Int)+4 * ((yz j q r t).2:Int)=((64 * i+4 * (yz j q r t).2:Nat):Int):=by omega
    rw [ea]
    refine aB (Dx x (64 * i) _ hk (by rw [hxl]; omega) (by rw [hxl]; omega)) ?_
    rw [hW]
    have hle:=yC j hj
    refine aB rfl (aB (Cy j hj) (aB (pc .u32 _ _ (by simpa [IntKind.bits] using hle)) ?_))
    have e:(32:Int)-((pj j:Nat):Int)=((32-pj j:Nat):Int):=by omega
    rw [e,lD _ (by omega)]
    refine aB rfl (aB (qo .u32 _ _ (by simp only [IntKind.bits]; omega)) (aB rfl (aB rfl (aB (aF (by omega) (by omega)) ?_))))
    rw [HK]
    rfl
  ·exact aG (by decide) rfl
  ·have h0:∀ (l:List Int) (k:Nat),l.length=4→k<4→dE ((k:Nat):Int) l.length=some k:=fun l k hl hk=>bN (by omega)
   refine aB (h0 s 0 hsl (by decide)) (aB (cf 0 (by omega)) (aB rfl (aB (h0 s 1 hsl (by decide)) (aB (cf 0 (by omega)) (aB rfl (aB (h0 s 2 hsl (by decide)) (aB (cf 0 (by omega)) (aB rfl (aB (h0 s 3 hsl (by decide)) (aB (cf 0 (by omega)) (aB rfl ?_)))))))))))
   refine aB (h0 s 0 hsl (by decide)) (aB rfl (aB (h0 _ 1 (by simpa using hsl) (by decide)) (aB rfl (aB (h0 _ 2 (by simpa using hsl) (by decide)) (aB rfl (aB (h0 _ 3 (by simpa using hsl) (by decide)) (aB rfl (aB (aF (by omega) (by omega)) ?_))))))))
   rw [Il s hsl]
   simp only [uG,hW]
   rfl
 ·exact aG (decide_eq_false (by rw [hxl]; omega)) rfl
 have hs2l:=gm km x rfl m
 generalize ji km x m=s2 at hs2l
 refine bo (wu s2 hs2l (fun l i hi hl => ?_) (fun l=>aG (by decide) rfl)) ?_
 ·refine aQ (decide_eq_true (by omega)) ?_
  refine aB (sU i 4 4 rfl (by decide) (by omega)) (aB (bN (by omega)) (aB (cf 0 (by omega)) (aB (sK i 4 4 rfl (by decide)) (aB (aF (by omega) (by omega)) ?_))))
  have e:(8:Int) * ((i % 4:Nat):Int)=((8 * (i % 4):Nat):Int):=by omega
  rw [e,lD _ (by omega)]
  refine aB rfl (aB (qo .u32 _ _ (by simp only [IntKind.bits]; omega)) (aB rfl (aB (bN hi) (aB (xV _ (by omega)) (aB (aF (by omega) (by omega)) rfl)))))
 ·exact aB (ci rfl) (aB (ci rfl) (aB (ci rfl) (aB (ci rfl) rfl)))
theorem zM (key text:List Int) (hk:key.length<10000) (ht:text.length<10000):eb key text=some (sC (oM key) text):=by
 unfold eb
 refine aB (vj key (by omega)) ?_
 refine bo (s:=if 64<key.length then sP key else key) ?_ ?_
 ·by_cases h:64<key.length
  ·refine aQ (decide_eq_true (by omega)) ?_
   rw [if_pos h]
   exact aB (uO key (by omega)) (aB (ci rfl) (aB (ci rfl) (aB (ci rfl) (aB (vj _ (by rw [hZ]; decide)) rfl))))
  ·refine aG (decide_eq_false (by omega)) ?_
   rw [if_neg h]
 obtain ⟨k0,hk0⟩:∃ k0,(if 64<key.length then sP key else key)=k0:=⟨_,rfl⟩
 have hk0l:k0.length≤64:=by
  rw [← hk0]; split
  ·rw [hZ]; decide
  ·omega
 have hkd:oM key=k0++List.replicate (64-k0.length) 0:=by
  rw [← ov 64 k0 hk0l,← hk0]
  unfold oM
  split <;> rfl
 rw [hk0]
 refine bo (s:=oM key) (bD (fun i=>k0++List.replicate i 0) (64-k0.length) _ (by simp) (by simp only [el]; omega) (fun i hi => ?_) ?_) ?_
 ·have hl:(k0++List.replicate i (0:Int)).length=k0.length+i:=by simp
  refine aQ (decide_eq_true (by rw [hl]; omega)) ?_
  refine aB (dS (by rw [hl]; simp only [List.length_cons,List.length_nil]; omega) (by rw [hl]; simp only [List.length_cons,List.length_nil]; omega)) ?_
  rw [List.append_assoc,← List.replicate_succ']
 ·have hl:(k0++List.replicate (64-k0.length) (0:Int)).length=64:=by simp; omega
  refine aG (decide_eq_false (by rw [hl]; decide)) ?_
  rw [hkd]
 have hkl:=ww key
 generalize oM key=k at hkl
 refine bo (s:=(k.map (fun x=>bits .xor .u8 x 54),k.map (fun x=>bits .xor .u8 x 92))) (bD (fun i=>((k.take i).map (fun x=>bits .xor .u8 x 54),(k.take i).map (fun x=>bits .xor .u8 x 92),(i:Int))) 64 _ rfl (by decide) (fun i hi => ?_) ?_) ?_
 ·refine aQ (decide_eq_true (by omega)) ?_
  have hg:k[i]? = some (k.getD i 0):=cf 0 (by omega)
  refine aB (bN (by omega)) (aB hg (aB rfl ?_))
  refine aB (dS (by simp only [List.length_map,List.length_take,List.length_cons,List.length_nil]; omega) (by simp only [List.length_map,List.length_take,List.length_cons,List.length_nil]; omega)) (aB (bN (by omega)) (aB hg (aB rfl (aB (dS (by simp only [List.length_map,List.length_take,List.length_cons,List.length_nil]; omega) (by simp only [List.length_map,List.length_take,List.length_cons,List.length_nil]; omega)) (aB (aF (by omega) (by omega)) ?_)))))
  rw [List.take_add_one,hg]
  simp only [Option.toList_some,List.map_append,List.map_cons,List.map_nil]
  rfl
 ·refine aG (by decide) ?_
  rw [List.take_of_length_le (by omega)]
 ·refine aB (dS (by simp only [List.length_map]; omega) (by simp only [List.length_map]; omega)) (aB (uO _ (by simp only [List.length_append,List.length_map]; omega)) (aB (ci rfl) (aB (ci rfl) (aB (ci rfl) ?_))))
  refine aB (dS (by simp only [List.length_map,hZ]; omega) (by simp only [List.length_map,hZ]; omega)) (aB (uO _ (by simp only [List.length_append,List.length_map,hZ]; omega)) (aB (ci rfl) (aB (ci rfl) (aB (ci rfl) ?_))))
  rfl
def cI (n:Nat):Int:=(n:Int)
def FK:JH:=⟨#[65,66,67,68,69,70,71,72,73,74,75,76,77,78,79,80,81,82,83,84,85,86,87,88,89,90,97,98,99,100,101,102,103,104,105,106,107,108,109,110,111,112,113,114,115,116,117,118,119,120,121,122,48,49,50,51,52,53,54,55,56,57,43,47]⟩
def IU:List Nat:=FK.data.toList.map UInt8.toNat
def sg (v:Nat):Nat:=IU.getD v 0
theorem Eg (v:Nat) (h:v<64):sg v<256∧sg v≠61:=by
 have:∀ v,v<64→sg v<256∧sg v≠61:=by decide+kernel
 exact this v h
theorem Fx (v:Nat) (h:v<64):cm FK (v:Int)=some (cI (sg v)):=by
 have:∀ v:Nat,v<64→cm FK (v:Int)=some (cI (sg v)):=by decide+kernel
 exact this v h
def gv (p:List Nat):Nat:=p.getD 0 0 * 65536+p.getD 1 0 * 256+p.getD 2 0
def oO (g:Nat):List Nat:=[sg (g / 262144 % 64),sg (g / 4096 % 64),sg (g / 64 % 64),sg (g % 64)]
def ta (p:List Nat):List Nat:=(oO (gv p)).take (p.length+1)++List.replicate (3-p.length) 61
def eN:List Nat→List Nat
 | a::b::c::r=>ta [a,b,c]++eN r
 | []=>[]
 | p=>ta p
theorem sf:∀ (k:Nat) (p r:List Nat),p.length=3 * k→eN (p++r)=eN p++eN r
 | 0,p,r,h=>by
  obtain rfl:=List.eq_nil_of_length_eq_zero (by omega:p.length=0)
  rfl
 | k+1,p,r,h=>by
  match p,h with
  | a::b::c::q,h =>
   have:=sf k q r (by simp only [List.length_cons] at h; omega)
   simp only [List.cons_append,eN,this,List.append_assoc]
theorem vB (p:List Nat) (h0:0<p.length) (h:p.length≤3):eN p=ta p:=by
 match p,h0,h with
 | [a],_,_=>rfl
 | [a,b],_,_=>rfl
 | [a,b,c],_,_=>rw [eN]; simp [eN]
theorem pP (p:List Nat) (h:p.length≤3):(ta p).length=4:=by
 simp only [ta,List.length_append,List.length_take,List.length_replicate,oO,List.length_cons,List.length_nil]; omega
theorem Dn (g:Nat):∀ x∈oO g,x<256:=by
 intro x hx
 simp only [oO,List.mem_cons,List.not_mem_nil,or_false] at hx
 rcases hx with rfl | rfl | rfl | rfl <;> exact (Eg _ (Nat.mod_lt _ (by decide))).1
theorem va (p:List Nat):∀ x∈ta p,x<256:=by
 intro x hx
 rcases List.mem_append.1 hx with h | h
 ·exact Dn _ x (List.mem_of_mem_take h)
 ·rw [(List.mem_replicate.1 h).2]; decide
theorem ve:∀ (k:Nat) (p:List Nat),p.length≤k→∀ x∈eN p,x<256
 | 0,p,h=>by
  obtain rfl:=List.eq_nil_of_length_eq_zero (by omega:p.length=0)
  intro x hx; cases hx
 | k+1,p,h=>by
  match p,h with
  | [],_=>intro x hx; cases hx
  | [a],_=>exact va [a]
  | [a,b],_=>exact va [a,b]
  | a::b::c::r,h =>
   intro x hx
   rcases List.mem_append.1 hx with h1 | h1
   ·exact va _ x h1
   ·exact ve k r (by simp only [List.length_cons] at h; omega) x h1
theorem sc:∀ (k:Nat) (p:List Nat),p.length≤k→(eN p).length=(p.length+2) / 3 * 4
 | 0,p,h=>by
  obtain rfl:=List.eq_nil_of_length_eq_zero (by omega:p.length=0)
  rfl
 | k+1,p,h=>by
  match p,h with
  | [],_=>rfl
  | [a],_=>rw [show eN [a]=ta [a] from rfl,pP [a] (by simp)]; simp
  | [a,b],_=>rw [show eN [a,b]=ta [a,b] from rfl,pP [a,b] (by simp)]; simp
  | a::b::c::r,h =>
   have:=sc k r (by simp only [List.length_cons] at h; omega)
   simp only [eN,List.length_append,pP [a,b,c] (by simp),this,List.length_cons]
   omega
theorem GS (n:Int):IntKind.u32.wrap n=n % 4294967296:=by
 simp only [IntKind.wrap,IntKind.bits,IntKind.signed]
 have e:(2:Int) ^ 32=4294967296:=by decide
 simp only [e,Bool.false_and,Bool.false_eq_true,if_false]
theorem rn (n:Nat) (h:n<4294967296):IntKind.u32.wrap (n:Int)=(n:Int):=by rw [GS]; omega
theorem pw (a:Nat) (ha:a<4294967296):(BitVec.ofInt 32 (a:Int)).toNat=a:=by
 rw [BitVec.ofInt_natCast,BitVec.toNat_ofNat]; omega
theorem EL (a b:Nat) (ha:a<4294967296) (hb:b<4294967296):bits .or .u32 (a:Int) (b:Int)=((a ||| b:Nat):Int):=by
 show IntKind.u32.wrap ((BitVec.ofInt 32 (a:Int) ||| BitVec.ofInt 32 (b:Int)).toNat:Int)=_
 have:a ||| b<2 ^ 32:=Nat.or_lt_two_pow (by omega) (by omega)
 rw [BitVec.toNat_or,pw a ha,pw b hb,rn _ (by omega)]
theorem Gq (a:Nat) (ha:a<4294967296):bits .and .u32 (a:Int) 63=((a % 64:Nat):Int):=by
 show IntKind.u32.wrap ((BitVec.ofInt 32 (a:Int) &&& BitVec.ofInt 32 ((63:Nat):Int)).toNat:Int)=_
 rw [BitVec.toNat_and,pw a ha,pw 63 (by omega),show (63:Nat)=2 ^ 6-1 from rfl,Nat.and_two_pow_sub_one_eq_mod,rn _ (by omega)]
theorem Db (a m:Nat) (hm:m≤32) (h:a * 2 ^ m<4294967296):lu .u32 (a:Int) (m:Int)=some ((a * 2 ^ m:Nat):Int):=by
 simp only [lu]
 rw [if_pos (by omega),Int.toNat_natCast,Nat.min_eq_left (by simpa [IntKind.bits] using hm)]
 have e:(a:Int) * 2 ^ m=((a * 2 ^ m:Nat):Int):=by simp
 rw [e,rn _ h]
theorem wR (k:IntKind) (a m:Nat) (hm:m≤k.bits):kF k (a:Int) (m:Int)=some ((a / 2 ^ m:Nat):Int):=by
 simp only [kF]
 rw [if_pos (by omega),Int.toNat_natCast,Nat.min_eq_left hm]
 have e:(2:Int) ^ m=((2 ^ m:Nat):Int):=by simp
 rw [e,Int.fdiv_eq_ediv_of_nonneg _ (Int.natCast_nonneg _)]
 rfl
theorem BL (a b k:Nat) (h:b<2 ^ k):2 ^ k * a ||| b=2 ^ k * a+b:=(Nat.two_pow_add_eq_or_of_lt h a).symm
theorem Ee (p:List Nat) (hp:∀ x∈p,x<256):gv p<16777216:=by
 have hd:∀ i,p.getD i 0<256:=by
  intro i
  by_cases h:i<p.length
  ·rw [List.getD_eq_getElem?_getD,List.getElem?_eq_getElem h]; exact hp _ (List.getElem_mem h)
  ·rw [List.getD_eq_getElem?_getD,List.getElem?_eq_none (by omega)]; decide
 have h0:=hd 0; have h1:=hd 1; have h2:=hd 2
 unfold gv; omega
theorem zT {p:List Nat} {i j:Nat}:(p.take i).getD j 0=if j<i then p.getD j 0 else 0:=by
 simp only [List.getD_eq_getElem?_getD,List.getElem?_take]
 split <;> rfl
theorem CU (p:List Nat) (hp:∀ x∈p,x<256) (h3:p.length≤3) (i:Nat) (hi:i<p.length):bits .or .u32 (gv (p.take i):Int) ((p.getD i 0 * 2 ^ (16-8 * i):Nat):Int)=(gv (p.take (i+1)):Int):=by
 have hd:∀ i,p.getD i 0<256:=by
  intro i
  by_cases h:i<p.length
  ·rw [List.getD_eq_getElem?_getD,List.getElem?_eq_getElem h]; exact hp _ (List.getElem_mem h)
  ·rw [List.getD_eq_getElem?_getD,List.getElem?_eq_none (by omega)]; decide
 have h0:=hd 0; have h1:=hd 1; have h2:=hd 2
 have hi3:i=0∨i=1∨i=2:=by omega
 simp only [gv,zT]
 rcases hi3 with rfl | rfl | rfl
 ·simp only [Nat.lt_irrefl,if_false,Nat.not_lt_zero,Nat.zero_mul,Nat.zero_add,Nat.lt_add_one,if_true,Nat.mul_zero,Nat.sub_zero,Nat.add_zero]
  rw [EL _ _ (by decide) (by omega),Nat.zero_or]
  rw [if_neg (by decide),Nat.add_zero]
 ·simp only [Nat.lt_irrefl,if_false,if_true,Nat.zero_mul,Nat.add_zero,Nat.one_lt_two,Nat.zero_lt_one,Nat.reduceAdd,Nat.reduceMul,Nat.reduceSub,Nat.reducePow,Nat.reduceLT]
  rw [EL _ _ (by omega) (by omega)]
  have:=BL (p.getD 0 0) (p.getD 1 0 * 256) 16 (by omega)
  have e:p.getD 0 0 * 65536=2 ^ 16 * p.getD 0 0:=by omega
  rw [e,this]
 ·simp only [Nat.lt_irrefl,if_false,if_true,Nat.add_zero,Nat.reduceAdd,Nat.reduceMul,Nat.reduceSub,Nat.reducePow,Nat.reduceLT]
  rw [EL _ _ (by omega) (by omega)]
  have:=BL (p.getD 0 0 * 256+p.getD 1 0) (p.getD 2 0 * 1) 8 (by omega)
  have e:p.getD 0 0 * 65536+p.getD 1 0 * 256=2 ^ 8 * (p.getD 0 0 * 256+p.getD 1 0):=by omega
  rw [e,this]; congr 1; omega
theorem xg (B:List Nat) {i:Nat} (h:i<B.length):bF (B.map cI) i=some (cI (B.getD i 0)):=by
 simp [bF,List.getD,h]
theorem Dz (l m:List Int) (h:l.length+m.length≤1000000):cr 1 l m=some (l++m):=dS (by omega) (by omega)
theorem HB:strings_Repeat (⟨#[61]⟩:JH) ((0:Nat):Int)=some (bC (List.replicate 0 61)):=by kernel_rfl
theorem Iw:strings_Repeat (⟨#[61]⟩:JH) ((1:Nat):Int)=some (bC (List.replicate 1 61)):=by kernel_rfl
theorem Ht:strings_Repeat (⟨#[61]⟩:JH) ((2:Nat):Int)=some (bC (List.replicate 2 61)):=by kernel_rfl
theorem HU:strings_Repeat (⟨#[61]⟩:JH) ((3:Nat):Int)=some (bC (List.replicate 3 61)):=by kernel_rfl
theorem FD (k:Nat) (hk:k≤3):strings_Repeat (⟨#[61]⟩:JH) (k:Int)=some (bC (List.replicate k 61)):=by
 have h:k=0∨k=1∨k=2∨k=3:=by omega
 rcases h with rfl | rfl | rfl | rfl
 ·exact HB
 ·exact Iw
 ·exact Ht
 ·exact HU
theorem xe (k:Nat):ak (bC (List.replicate k 61))=List.replicate k 61:=bR (fun x hx=>by rw [(List.mem_replicate.1 hx).2]; decide)
theorem uu (B:List Nat) (h:∀ x∈B,x<256):kb (B.map cI):=by
 intro x hx
 obtain ⟨n,hn,rfl⟩:=List.mem_map.1 hx
 have:=h n hn
 simp only [cI]; omega
theorem yM {l:List Int} (h:kb l):xB l=some (bC l):=by
 unfold xB
 rw [if_pos (List.all_eq_true.2 fun x hx=>by have:=h x hx; simpa using this)]
def tx (l:List Nat):JH:=bC (l.map cI)
theorem px {l:List Nat} (h:∀ x∈l,x<256):ak (tx l)=l.map cI:=bR (uu l h)
theorem BT (g i:Nat) (hi:i<4) (hg:g<16777216):sg (g / 2 ^ (18-6 * i) % 64)=(oO g).getD i 0:=by
 have h:i=0∨i=1∨i=2∨i=3:=by omega
 rcases h with rfl | rfl | rfl | rfl <;> simp [oO]
theorem vI (B:List Nat) (hB:∀ x∈B,x<256) (hl:B.length≤100000):dF (B.map cI)=some (tx (eN B)):=by
 have hin:∀ n,n≤B.length→∀ x∈B.take n,x<256:=fun n _ x hx=>hB x (List.mem_of_mem_take hx)
 have hlen:(B.map cI).length=B.length:=List.length_map _
 obtain ⟨m,hm⟩:∃ m,(B.length+2) / 3=m:=⟨_,rfl⟩
 unfold dF
 refine bo (s:=(eN B).map cI) (bD (fun i=>((eN (B.take (3 * i))).map cI,((3 * i:Nat):Int))) m _ (by simp [eN]) (by simp only [el]; omega) (fun i hi => ?_) ?_) ?_
 ·refine aQ (decide_eq_true (by rw [hlen]; omega)) ?_
  have hacc:((eN (B.take (3 * i))).map cI).length≤200000:=by
   rw [List.length_map,sc _ _ (Nat.le_refl _),List.length_take]; omega
  obtain ⟨p,hp⟩:∃ p,(B.drop (3 * i)).take 3=p:=⟨_,rfl⟩
  obtain ⟨n,hn⟩:∃ n,p.length=n:=⟨_,rfl⟩
  have hn1:n=min 3 (B.length-3 * i):=by rw [← hn,← hp,List.length_take,List.length_drop]
  have hp0:0<n∧n≤3:=by omega
  have hpb:∀ x∈p,x<256:=fun x hx=>hB x (by rw [← hp] at hx; exact List.mem_of_mem_drop (List.mem_of_mem_take hx))
  have hnext:eN (B.take (3 * (i+1)))=eN (B.take (3 * i))++ta p:=by
   have e:B.take (3 * (i+1))=B.take (3 * i)++p:=by
    rw [← hp,show 3 * (i+1)=3 * i+3 by omega,List.take_add]
   rw [e,sf i _ _ (by rw [List.length_take]; omega),vB p (by omega) (by omega)]
  refine aB (aF (by rw [hlen]; omega) (by rw [hlen]; omega)) ?_
  have hv3:(if ((B.map cI).length:Int)-((3 * i:Nat):Int)<3 then ((B.map cI).length:Int)-((3 * i:Nat):Int) else 3)=(n:Int):=by
   rw [hlen]; split <;> omega
  rw [hv3]
  refine aB rfl (aB (aF (by omega) (by omega)) ?_)
  have e1:((3 * i:Nat):Int)+(n:Int)=((3 * i+n:Nat):Int):=by omega
  rw [e1]
  have hsl:kN (B.map cI) ((3 * i:Nat):Int) ((3 * i+n:Nat):Int)=some (p.map cI):=by
   rw [ru _ (by omega) (by rw [hlen]; omega),← List.map_drop,← List.map_take,← hp]
   congr 2
   rw [show 3 * i+n-3 * i=n by omega,hn1]
   apply List.ext_getElem?
   intro j
   simp only [List.getElem?_take,List.getElem?_drop]
   split <;> split <;> first | rfl | omega | (rw [List.getElem?_eq_none (by omega)])
  refine aB hsl ?_
  refine bo (s:=(gv p:Int)) (bD (fun j=>((gv (p.take j):Int),(j:Int))) n _ (by simp [gv]) (by simp only [el]; omega) (fun j hj => ?_) ?_) ?_
  ·have hpl:(p.map cI).length=n:=by rw [List.length_map,hn]
   have hxb:p.getD j 0<256:=by
    rw [List.getD_eq_getElem?_getD,List.getElem?_eq_getElem (by omega:j<p.length)]; exact hpb _ (List.getElem_mem _)
   refine aQ (decide_eq_true (by rw [hpl]; omega)) ?_
   refine aB (bN (by rw [hpl]; omega)) (aB (xg p (by omega)) (aB rfl (aB (aF (by omega) (by omega)) (aB (aF (by omega) (by omega)) ?_))))
   have e2:(16:Int)-8 * (j:Int)=((16-8 * j:Nat):Int):=by omega
   have e3:IntKind.u32.wrap (cI (p.getD j 0))=((p.getD j 0:Nat):Int):=rn _ (by omega)
   rw [e2,e3]
   have h16:p.getD j 0 * 2 ^ (16-8 * j)<4294967296:=by
    have:2 ^ (16-8 * j)≤2 ^ 16:=Nat.pow_le_pow_right (by decide) (by omega)
    calc p.getD j 0 * 2 ^ (16-8 * j)≤255 * 2 ^ 16:=Nat.mul_le_mul (by omega) this
     _<4294967296:=by decide
   refine aB (Db _ _ (by omega) h16) (aB rfl ?_)
   rw [CU p hpb (by omega) j (by omega)]
   exact aB (aF (by omega) (by omega)) rfl
  ·refine aG (decide_eq_false (by rw [List.length_map,hn]; omega)) ?_
   rw [List.take_of_length_le (by omega)]
  have hg:=Ee p hpb
  refine aB (aF (by omega) (by omega)) ?_
  have e4:(n:Int)+1=((n+1:Nat):Int):=by omega
  rw [e4]
  refine bo (s:=(eN (B.take (3 * i))).map cI++((oO (gv p)).take (n+1)).map cI) (bD (fun j=>((eN (B.take (3 * i))).map cI++((oO (gv p)).take j).map cI,(j:Int))) (n+1) _ (by simp) (by simp only [el]; omega) (fun j hj => ?_) ?_) ?_
  ·refine aQ (decide_eq_true (by omega)) ?_
   refine aB (aF (by omega) (by omega)) (aB (aF (by omega) (by omega)) ?_)
   have e5:(18:Int)-6 * (j:Int)=((18-6 * j:Nat):Int):=by omega
   rw [e5]
   have hq:gv p / 2 ^ (18-6 * j)<4294967296:=Nat.lt_of_le_of_lt (Nat.div_le_self _ _) (by omega)
   refine aB (wR .u32 _ _ (by simp only [IntKind.bits]; omega)) (aB rfl ?_)
   rw [Gq _ hq]
   refine aB (Fx _ (Nat.mod_lt _ (by decide))) ?_
   rw [BT _ j (by omega) hg]
   refine aB (Dz _ _ (by simp only [List.length_append,List.length_map,List.length_take,List.length_cons,List.length_nil] at hacc ⊢; omega)) (aB (aF (by omega) (by omega)) ?_)
   have ht:(oO (gv p)).take (j+1)=(oO (gv p)).take j++[(oO (gv p)).getD j 0]:=by
    have hj4:j<(oO (gv p)).length:=by simp only [oO,List.length_cons,List.length_nil]; omega
    rw [List.take_add_one,List.getElem?_eq_getElem hj4,List.getD_eq_getElem?_getD,List.getElem?_eq_getElem hj4]; rfl
   rw [ht,List.map_append,← List.append_assoc]
   rfl
  ·exact aG (decide_eq_false (by omega)) rfl
  refine aB (aF (by omega) (by omega)) ?_
  have e6:(3:Int)-(n:Int)=((3-n:Nat):Int):=by omega
  rw [e6]
  refine aB (FD _ (by omega)) ?_
  rw [xe]
  refine aB (Dz _ _ (by simp only [List.length_append,List.length_map,List.length_take,List.length_replicate] at hacc ⊢; omega)) (aB (aF (by omega) (by omega)) ?_)
  rw [hnext,List.map_append,List.append_assoc]
  have e7:(ta p).map cI=((oO (gv p)).take (n+1)).map cI++List.replicate (3-n) 61:=by
   rw [ta,List.map_append,hn,List.map_replicate]; rfl
  rw [e7]
  congr 4
 ·refine aG (decide_eq_false (by rw [hlen]; omega)) ?_
  rw [List.take_of_length_le (by omega)]
 ·refine aB (yM (uu _ (ve _ _ (Nat.le_refl _)))) rfl
theorem Fa (n:Nat):IntKind.u8.wrap (n:Int)=((n % 256:Nat):Int):=by
 simp only [IntKind.wrap,IntKind.bits,IntKind.signed]
 have e:(2:Int) ^ 8=256:=by decide
 simp only [e,Bool.false_and,Bool.false_eq_true,if_false]
 omega
theorem yT (l:List Nat):(tx l).size=l.length:=by rw [tx,dH,List.length_map]
def FX:JH:=⟨#[48,49,50,51,52,53,54,55,56,57,97,98,99,100,101,102]⟩
def hx (v:Nat):Nat:=(FX.data.toList.map UInt8.toNat).getD v 0
theorem Bp (v:Nat) (h:v<16):cm FX (v:Int)=some (cI (hx v)):=by
 have:∀ v:Nat,v<16→cm FX (v:Int)=some (cI (hx v)):=by decide+kernel
 exact this v h
theorem xE (v:Nat) (h:v<16):hx v<256∧True:=by
 have:∀ v:Nat,v<16→hx v<256∧True:=by decide+kernel
 exact this v h
def kK:List Nat→List Nat
 | []=>[]
 | x::r=>hx (x / 16)::hx (x % 16)::kK r
theorem rN:∀ p r:List Nat,kK (p++r)=kK p++kK r
 | [],r=>rfl
 | x::p,r=>by simp only [List.cons_append,kK,rN p r]
theorem kL:∀ p:List Nat,(kK p).length=2 * p.length
 | []=>rfl
 | x::p=>by simp only [kK,List.length_cons,kL p]; omega
theorem nA:∀ p:List Nat,(∀ x∈p,x<256)→∀ x∈kK p,x<256
 | [],_=>by intro x hx; cases hx
 | y::p,h=>by
  intro x hx1
  have hy:=h y (by simp)
  simp only [kK,List.mem_cons] at hx1
  rcases hx1 with rfl | rfl | hx1
  ·exact (xE _ (by omega)).1
  ·exact (xE _ (Nat.mod_lt _ (by decide))).1
  ·exact nA p (fun x hx=>h x (by simp [hx])) x hx1
theorem si (a:Nat) (ha:a<256):bits .and .u8 (a:Int) 15=((a % 16:Nat):Int):=by
 show IntKind.u8.wrap ((BitVec.ofInt 8 (a:Int) &&& BitVec.ofInt 8 ((15:Nat):Int)).toNat:Int)=_
 have h:∀ n:Nat,n<256→(BitVec.ofInt 8 (n:Int)).toNat=n:=fun n hn=>by
  rw [BitVec.ofInt_natCast,BitVec.toNat_ofNat]; omega
 rw [BitVec.toNat_and,h a ha,h 15 (by omega),show (15:Nat)=2 ^ 4-1 from rfl,Nat.and_two_pow_sub_one_eq_mod,Fa]
 congr 1
 have:=Nat.mod_lt a (show 0<2 ^ 4 by decide)
 omega
theorem EO (B:List Nat) (hB:∀ x∈B,x<256) (hl:B.length≤100000):mJ (B.map cI)=some (tx (kK B)):=by
 unfold mJ
 have hlen:(B.map cI).length=B.length:=List.length_map _
 refine bo (s:=(kK B).map cI) (bD (fun i=>((kK (B.take i)).map cI,(i:Int))) B.length _ rfl (by simp only [el]; omega) (fun i hi => ?_) ?_) ?_
 ·refine aQ (decide_eq_true (by rw [hlen]; omega)) ?_
  have hx:B.getD i 0<256:=by
   rw [List.getD_eq_getElem?_getD,List.getElem?_eq_getElem hi]; exact hB _ (List.getElem_mem _)
  have hacc:((kK (B.take i)).map cI).length≤200000:=by rw [List.length_map,kL,List.length_take]; omega
  refine aB (bN (by rw [hlen]; omega)) (aB (xg B hi) (aB (wR .u8 _ 4 (by decide)) (aB (Bp _ (by omega)) (aB (Dz _ _ (by simp only [List.length_cons,List.length_nil]; omega)) (aB rfl ?_)))))
  rw [show cI (B.getD i 0)=((B.getD i 0:Nat):Int) from rfl,si _ hx]
  refine aB (Bp _ (Nat.mod_lt _ (by decide))) (aB (Dz _ _ (by simp only [List.length_append,List.length_cons,List.length_nil]; omega)) (aB (aF (by omega) (by omega)) ?_))
  have ht:B.take (i+1)=B.take i++[B.getD i 0]:=by
   rw [List.take_add_one,List.getElem?_eq_getElem hi,List.getD_eq_getElem?_getD,List.getElem?_eq_getElem hi]; rfl
  rw [ht,rN,List.map_append,List.append_assoc]
  rfl
 ·refine aG (decide_eq_false (by rw [hlen]; omega)) ?_
  rw [List.take_length]
 ·exact aB (yM (uu _ (nA B hB))) rfl
theorem Cu (n:Int):0≤IntKind.u8.wrap n∧IntKind.u8.wrap n<256:=by
 simp only [IntKind.wrap,IntKind.bits,IntKind.signed]
 have e:(2:Int) ^ 8=256:=by decide
 simp only [e,Bool.false_and,Bool.false_eq_true,if_false]
 omega
theorem CG (s:List Int):kb (qU s):=by
 intro x hx
 obtain ⟨i,_,rfl⟩:=List.mem_map.1 hx
 exact Cu _
def Hd (k t:List Int):List Nat:=(sC (oM k) t).map Int.toNat
theorem yL (k t:List Int):sC (oM k) t=(Hd k t).map cI∧(∀ x∈Hd k t,x<256)∧(Hd k t).length=16:=by
 have hb:kb (sC (oM k) t):=CG _
 refine ⟨?_,?_,by simp [Hd,zQ]⟩
 ·unfold Hd
  rw [List.map_map]
  conv=>lhs; rw [← List.map_id (sC (oM k) t)]
  refine List.map_congr_left fun x hx => ?_
  have:=hb x hx
  simp only [Function.comp,cI,id]; omega
 ·intro x hx
  obtain ⟨y,hy,rfl⟩:=List.mem_map.1 hx
  have:=hb y hy; omega
def uQ (U:List Nat) (k t:List Int):List Nat:=U++[32]++kK (Hd k t)
theorem zk {U:List Nat} (hU:∀ x∈U,x<256) (k t:List Int):∀ x∈uQ U k t,x<256:=by
 intro x hx
 rcases List.mem_append.1 hx with h | h
 ·rcases List.mem_append.1 h with h | h
  ·exact hU x h
  ·simp only [List.mem_cons,List.not_mem_nil,or_false] at h; omega
 ·exact nA _ (yL k t).2.1 x h
theorem xb (U:List Nat) (k t:List Int):(uQ U k t).length=U.length+33:=by
 simp only [uQ,List.length_append,List.length_cons,List.length_nil,kL,(yL k t).2.2]
theorem oW {l m:List Nat} (hl:∀ x∈l,x<256) (hm:∀ x∈m,x<256) (h:l.length+m.length≤1000000):fh (tx l) (tx m)=some (tx (l++m)):=by
 rw [pa (by rw [yT,yT]; omega),px hl,px hm,tx,List.map_append]
theorem Ao (U:List Nat) (hU:∀ x∈U,x<256) (hl:U.length≤10000) (k t:JH) (hk:k.size<10000) (ht:t.size<10000):ja (tx U) k t=some (tx (eN (uQ U (ak k) (ak t)))):=by
 unfold ja
 obtain ⟨h1,h2,h3⟩:=yL (ak k) (ak t)
 have h32:∀ x∈[32],x<256:=by intro x hx; simp only [List.mem_cons,List.not_mem_nil,or_false] at hx; omega
 refine aB rfl (aB rfl (aB (BX _ _ (by rw [aS]; omega) (by rw [aS]; omega)) (aB (ci rfl) (aB (ci rfl) ?_))))
 refine aB (show fh (tx U) (tx [32])=some (tx (U++[32])) from oW hU h32 (by simp only [List.length_cons,List.length_nil]; omega)) (aB (ci rfl) ?_)
 rw [h1]
 refine aB (EO _ h2 (by omega)) ?_
 have hU32:∀ x∈U++[32],x<256:=by
  intro x hx
  rcases List.mem_append.1 hx with h | h
  ·exact hU x h
  ·exact h32 x h
 refine aB (oW hU32 (nA _ h2) (by simp only [List.length_append,List.length_cons,List.length_nil,kL]; omega)) (aB rfl ?_)
 have hb:=zk hU (ak k) (ak t)
 rw [show U++[32]++kK (Hd (ak k) (ak t))=uQ U (ak k) (ak t) from rfl,px hb]
 exact aB (vI _ hb (by rw [xb]; omega)) rfl
theorem Aw (U:List Nat) (hU:∀ x∈U,x<256) (hl:U.length≤10000) (k t line:JH) (hk:k.size<10000) (ht:t.size<10000):gP (tx U) k t line=some (decide (line=tx (eN (uQ U (ak k) (ak t))))):=by
 unfold gP
 refine aB (Ao U hU hl k t hk ht) ?_
 rw [iP]
theorem xn (n:Nat) (h:n<9223372036854775808):IntKind.i64.wrap (n:Int)=(n:Int):=vS n h
theorem pL (a:Nat) (ha:a<9223372036854775808):(BitVec.ofInt 64 (a:Int)).toNat=a:=by
 rw [BitVec.ofInt_natCast,BitVec.toNat_ofNat]; omega
theorem HH (a b:Nat) (ha:a<4294967296) (hb:b<4294967296):bits .or .i64 (a:Int) (b:Int)=((a ||| b:Nat):Int):=by
 show IntKind.i64.wrap ((BitVec.ofInt 64 (a:Int) ||| BitVec.ofInt 64 (b:Int)).toNat:Int)=_
 have:a ||| b<2 ^ 32:=Nat.or_lt_two_pow (by omega) (by omega)
 rw [BitVec.toNat_or,pL a (by omega),pL b (by omega),xn _ (by omega)]
theorem GI (a:Nat) (ha:a<4294967296):bits .and .i64 (a:Int) 63=((a % 64:Nat):Int):=by
 show IntKind.i64.wrap ((BitVec.ofInt 64 (a:Int) &&& BitVec.ofInt 64 ((63:Nat):Int)).toNat:Int)=_
 rw [BitVec.toNat_and,pL a (by omega),pL 63 (by omega),show (63:Nat)=2 ^ 6-1 from rfl,Nat.and_two_pow_sub_one_eq_mod,xn _ (by omega)]
theorem DP (a m:Nat) (hm:m≤64) (h:a * 2 ^ m<9223372036854775808):lu .i64 (a:Int) (m:Int)=some ((a * 2 ^ m:Nat):Int):=by
 simp only [lu]
 rw [if_pos (by omega),Int.toNat_natCast,Nat.min_eq_left (by simpa [IntKind.bits] using hm)]
 have e:(a:Int) * 2 ^ m=((a * 2 ^ m:Nat):Int):=by simp
 rw [e,xn _ h]
theorem EX (v:Nat) (h:v<64):fZ FK (v:Int) ((v:Int)+1)=some (tx [sg v]):=by
 have:∀ v:Nat,v<64→fZ FK (v:Int) ((v:Int)+1)=some (tx [sg v]):=by decide+kernel
 exact this v h
theorem CP (p:List Nat) (h0:0<p.length) (h3:p.length≤3) (j:Nat) (hj:j<4):(ta p)[j]? = some (if j≤p.length then (oO (gv p)).getD j 0 else 61):=by
 have hj4:j=0∨j=1∨j=2∨j=3:=by omega
 match p,h0,h3 with
 | [a],_,_=>rcases hj4 with rfl | rfl | rfl | rfl <;> rfl
 | [a,b],_,_=>rcases hj4 with rfl | rfl | rfl | rfl <;> rfl
 | [a,b,c],_,_=>rcases hj4 with rfl | rfl | rfl | rfl <;> rfl
def lv (p:List Nat):Nat→Nat
 | 0=>0
 | j+1=>lv p j * 256+p.getD j 0
theorem EE (p:List Nat) (hp:∀ x∈p,x<256):∀ j,lv p j<256 ^ j
 | 0=>by simp [lv]
 | j+1=>by
  have h1:=EE p hp j
  have h2:p.getD j 0<256:=by
   by_cases h:j<p.length
   ·rw [List.getD_eq_getElem?_getD,List.getElem?_eq_getElem h]; exact hp _ (List.getElem_mem h)
   ·rw [List.getD_eq_getElem?_getD,List.getElem?_eq_none (by omega)]; decide
  simp only [lv,Nat.pow_succ]; omega
theorem Gy (p:List Nat):lv p 3=gv p:=by simp only [lv,gv]; omega
theorem DI (B:List Nat) (hB:∀ x∈B,x<256) (hl:B.length≤100000):dK (B.map cI)=some (tx (eN B)):=by
 have hlen:(B.map cI).length=B.length:=List.length_map _
 obtain ⟨m,hm⟩:∃ m,(B.length+2) / 3=m:=⟨_,rfl⟩
 unfold dK
 refine bo (s:=tx (eN B)) (bD (fun i=>(tx (eN (B.take (3 * i))),((3 * i:Nat):Int))) m _ rfl (by simp only [el]; omega) (fun i hi => ?_) ?_) rfl
 ·refine aQ (decide_eq_true (by rw [hlen]; omega)) ?_
  have hacc:(eN (B.take (3 * i))).length≤200000:=by
   rw [sc _ _ (Nat.le_refl _),List.length_take]; omega
  have haccb:∀ x∈eN (B.take (3 * i)),x<256:=ve _ _ (Nat.le_refl _)
  obtain ⟨p,hp⟩:∃ p,(B.drop (3 * i)).take 3=p:=⟨_,rfl⟩
  obtain ⟨n,hn⟩:∃ n,p.length=n:=⟨_,rfl⟩
  have hn1:n=min 3 (B.length-3 * i):=by rw [← hn,← hp,List.length_take,List.length_drop]
  have hp0:0<n∧n≤3:=by omega
  have hpb:∀ x∈p,x<256:=fun x hx=>hB x (by rw [← hp] at hx; exact List.mem_of_mem_drop (List.mem_of_mem_take hx))
  have hpj:∀ j,p.getD j 0<256:=by
   intro j
   by_cases h:j<p.length
   ·rw [List.getD_eq_getElem?_getD,List.getElem?_eq_getElem h]; exact hpb _ (List.getElem_mem h)
   ·rw [List.getD_eq_getElem?_getD,List.getElem?_eq_none (by omega)]; decide
  have hnext:eN (B.take (3 * (i+1)))=eN (B.take (3 * i))++ta p:=by
   have e:B.take (3 * (i+1))=B.take (3 * i)++p:=by
    rw [← hp,show 3 * (i+1)=3 * i+3 by omega,List.take_add]
   rw [e,sf i _ _ (by rw [List.length_take]; omega),vB p (by omega) (by omega)]
  refine aB (aF (by rw [hlen]; omega) (by rw [hlen]; omega)) ?_
  have hv3:(if ((B.map cI).length:Int)-((3 * i:Nat):Int)<3 then ((B.map cI).length:Int)-((3 * i:Nat):Int) else 3)=(n:Int):=by
   rw [hlen]; split <;> omega
  rw [hv3]
  refine aB rfl ?_
  refine bo (s:=((gv p:Nat):Int)) (bD (fun j=>((lv p j:Int),(j:Int))) 3 _ rfl (by decide) (fun j hj => ?_) ?_) ?_
  ·have hlv:=EE p hpb j
   have hlv2:lv p j<65536:=Nat.lt_of_lt_of_le hlv (by calc 256 ^ j≤256 ^ 2:=Nat.pow_le_pow_right (by decide) (by omega)
      _≤65536:=by decide)
   have hpj':=hpj j
   refine aQ (decide_eq_true (by omega)) ?_
   refine bo (s:=((lv p (j+1):Nat):Int)) ?_ (aB (aF (by omega) (by omega)) rfl)
   refine aB (DP _ 8 (by decide) (by omega)) ?_
   by_cases h:j<n
   ·refine aQ (decide_eq_true (by omega)) ?_
    have e1:((3 * i:Nat):Int)+(j:Int)=((3 * i+j:Nat):Int):=by omega
    refine aB (aF (by omega) (by omega)) ?_
    rw [e1]
    have hbj:B.getD (3 * i+j) 0=p.getD j 0:=by
     rw [← hp]
     simp only [List.getD_eq_getElem?_getD,List.getElem?_take,List.getElem?_drop]
     rw [if_pos (by omega)]
    refine aB (bN (by rw [hlen]; omega)) (aB (xg B (by omega)) ?_)
    rw [hbj]
    refine aB (aF (by simp only [cI]; omega) (by simp only [cI]; omega)) (aB rfl ?_)
    rw [show cI (p.getD j 0)=((p.getD j 0:Nat):Int) from rfl,HH _ _ (by omega) (by omega)]
    have:=BL (lv p j) (p.getD j 0) 8 (by omega)
    rw [show lv p j * 2 ^ 8=2 ^ 8 * lv p j by omega,this]
    simp only [lv]
    congr 3
    try omega
   ·refine aG (decide_eq_false (by omega)) ?_
    have:p.getD j 0=0:=by rw [List.getD_eq_getElem?_getD,List.getElem?_eq_none (by omega)]; rfl
    simp only [lv,this,Nat.add_zero]
  ·refine aG (by decide) ?_
   rw [Gy]
  have hg:=Ee p hpb
  rw [hnext]
  refine bo (s:=tx (eN (B.take (3 * i))++ta p)) (bD (fun j=>(tx (eN (B.take (3 * i))++(ta p).take j),(j:Int))) 4 _ (by simp) (by decide) (fun j hj => ?_) ?_) ?_
  ·have hgl:=pP p (by omega)
   have hgb:=va p
   have hab:∀ x∈eN (B.take (3 * i))++(ta p).take j,x<256:=by
    intro x hx
    rcases List.mem_append.1 hx with h | h
    ·exact haccb x h
    ·exact hgb x (List.mem_of_mem_take h)
   have hget:=CP p (by omega) (by omega) j hj
   have hcat:∀ c:Nat,c<256→(ta p)[j]? = some c→fh (tx (eN (B.take (3 * i))++(ta p).take j)) (tx [c])=some (tx (eN (B.take (3 * i))++(ta p).take (j+1))):=by
    intro c hc hcg
    rw [oW hab (by intro x hx; simp only [List.mem_cons,List.not_mem_nil,or_false] at hx; omega) (by simp only [List.length_append,List.length_take,List.length_cons,List.length_nil]; omega),List.take_add_one,hcg,List.append_assoc]
    rfl
   refine aQ (decide_eq_true (by omega)) ?_
   refine bo (s:=tx (eN (B.take (3 * i))++(ta p).take (j+1))) ?_ (aB (aF (by omega) (by omega)) rfl)
   by_cases h:j≤n
   ·refine aQ (decide_eq_true (by omega)) ?_
    refine aB (aF (by omega) (by omega)) (aB (aF (by omega) (by omega)) ?_)
    have e5:(18:Int)-6 * (j:Int)=((18-6 * j:Nat):Int):=by omega
    rw [e5,lD _ (by omega)]
    have hq:gv p / 2 ^ (18-6 * j)<4294967296:=Nat.lt_of_le_of_lt (Nat.div_le_self _ _) (by omega)
    refine aB rfl (aB (wR .i64 _ _ (by simp only [IntKind.bits]; omega)) (aB rfl ?_))
    rw [GI _ hq]
    have hlt:gv p / 2 ^ (18-6 * j) % 64<64:=Nat.mod_lt _ (by decide)
    refine aB (show fj=some FK from rfl) (aB (aF (by omega) (by omega)) (aB (EX _ hlt) ?_))
    refine aB (hcat _ (Eg _ hlt).1 ?_) rfl
    rw [hget,hn,if_pos h,BT _ j hj hg]
   ·refine aG (decide_eq_false (by omega)) ?_
    refine aB (hcat 61 (by decide) ?_) rfl
    rw [hget,hn,if_neg h]
  ·refine aG (by decide) ?_
   rw [show (ta p).take 4=ta p from List.take_of_length_le (by rw [pP p (by omega)]; decide)]
  ·refine aB (aF (by omega) (by omega)) ?_
   congr 4
 ·refine aG (decide_eq_false (by rw [hlen]; omega)) ?_
  rw [List.take_of_length_le (by omega)]
theorem Cb (v:Nat) (h:v<16):fZ FX (v:Int) (IntKind.u8.wrap ((v:Int)+1))=some (tx [hx v]):=by
 have:∀ v:Nat,v<16→fZ FX (v:Int) (IntKind.u8.wrap ((v:Int)+1))=some (tx [hx v]):=by decide+kernel
 exact this v h
theorem DG (B:List Nat) (hB:∀ x∈B,x<256) (hl:B.length≤100000):eS (B.map cI)=some (tx (kK B)):=by
 unfold eS
 have hlen:(B.map cI).length=B.length:=List.length_map _
 refine bo (s:=tx (kK B)) (bD (fun i=>(tx (kK (B.take i)),(i:Int))) B.length _ rfl (by simp only [el]; omega) (fun i hi => ?_) ?_) rfl
 ·refine aQ (decide_eq_true (by rw [hlen]; omega)) ?_
  have hx1:B.getD i 0<256:=by
   rw [List.getD_eq_getElem?_getD,List.getElem?_eq_getElem hi]; exact hB _ (List.getElem_mem _)
  have hacc:(kK (B.take i)).length≤200000:=by rw [kL,List.length_take]; omega
  have hab:∀ x∈kK (B.take i),x<256:=nA _ (fun x hx=>hB x (List.mem_of_mem_take hx))
  have hix:dE ((i:Nat):Int) (B.map cI).length=some i:=bN (by rw [hlen]; omega)
  have h1:∀ v:Nat,v<16→∀ x∈[hx v],x<256:=fun v hv x hx=>by
   simp only [List.mem_cons,List.not_mem_nil,or_false] at hx; rw [hx]; exact (xE v hv).1
  refine aB hix (aB (xg B hi) (aB (wR .u8 _ 4 (by decide)) (aB hix (aB (xg B hi) (aB (wR .u8 _ 4 (by decide)) (aB rfl ?_))))))
  refine aB (Cb _ (by omega)) (aB (oW hab (h1 _ (by omega)) (by simp only [List.length_cons,List.length_nil]; omega)) (aB hix (aB (xg B hi) ?_)))
  rw [show cI (B.getD i 0)=((B.getD i 0:Nat):Int) from rfl,si _ hx1]
  refine aB rfl (aB hix (aB (xg B hi) ?_))
  rw [show cI (B.getD i 0)=((B.getD i 0:Nat):Int) from rfl,si _ hx1]
  have hm:B.getD i 0 % 16<16:=Nat.mod_lt _ (by decide)
  refine aB rfl (aB rfl (aB (Cb _ hm) (aB (oW (fun x hx => ?_) (h1 _ hm) (by simp only [List.length_append,List.length_cons,List.length_nil]; omega)) (aB (aF (by omega) (by omega)) ?_))))
  ·rcases List.mem_append.1 hx with h | h
   ·exact hab x h
   ·exact h1 _ (by omega) x h
  ·have ht:B.take (i+1)=B.take i++[B.getD i 0]:=by
    rw [List.take_add_one,List.getElem?_eq_getElem hi,List.getD_eq_getElem?_getD,List.getElem?_eq_getElem hi]; rfl
   rw [ht,rN,List.append_assoc]
   rfl
 ·refine aG (decide_eq_false (by rw [hlen]; omega)) ?_
  rw [List.take_length]
theorem xG (U:List Nat) (hU:∀ x∈U,x<256) (hl:U.length≤5000) (k t:JH) (hk:k.size<5000) (ht:t.size<5000):dc (tx U) k t=some (tx (eN (uQ U (ak k) (ak t)))):=by
 unfold dc
 obtain ⟨h1,h2,h3⟩:=yL (ak k) (ak t)
 have h32:∀ x∈[32],x<256:=by intro x hx; simp only [List.mem_cons,List.not_mem_nil,or_false] at hx; omega
 refine aB rfl (aB rfl (aB (zM _ _ (by rw [aS]; omega) (by rw [aS]; omega)) (aB (ci rfl) (aB (ci rfl) ?_))))
 refine aB (show fh (tx U) (tx [32])=some (tx (U++[32])) from oW hU h32 (by simp only [List.length_cons,List.length_nil]; omega)) (aB (ci rfl) ?_)
 rw [h1]
 refine aB (DG _ h2 (by omega)) ?_
 have hU32:∀ x∈U++[32],x<256:=by
  intro x hx
  rcases List.mem_append.1 hx with h | h
  ·exact hU x h
  ·exact h32 x h
 refine aB (oW hU32 (nA _ h2) (by simp only [List.length_append,List.length_cons,List.length_nil,kL]; omega)) (aB rfl ?_)
 have hb:=zk hU (ak k) (ak t)
 rw [show U++[32]++kK (Hd (ak k) (ak t))=uQ U (ak k) (ak t) from rfl,px hb]
 exact aB (DI _ hb (by rw [xb]; omega)) rfl
set_option maxRecDepth 100000
def rX (x:JH):aA:=aA.mk (cC.mk 334 [x]) false (bf.mk zP [] [] false (⟨#[]⟩:JH) 0) false
def Am (ch:JH):JH:=tx (eN (uQ [117] (ak (⟨#[115]⟩:JH)) (ak ch)))
theorem GF:∀ x∈[117],x<256:=by decide
theorem CO {ch:JH} (h:ch.size≤100):dc (⟨#[117]⟩:JH) (⟨#[115]⟩:JH) ch=some (Am ch) :=
 xG [117] GF (by decide) (⟨#[115]⟩:JH) ch (by decide) (by omega)
theorem CY {ch:JH} (h:ch.size≤100) (line:JH):gP (⟨#[117]⟩:JH) (⟨#[115]⟩:JH) ch line=some (decide (line=Am ch)) :=
 Aw [117] GF (by decide) (⟨#[115]⟩:JH) ch line (by decide) (by omega)
theorem EK {ch:JH} (h:ch.size≤100):∃ x,dF (ak ch)=some x:=by
 have e:ak ch=((ak ch).map Int.toNat).map cI:=by
  rw [List.map_map]
  conv=>lhs; rw [← List.map_id (ak ch)]
  refine List.map_congr_left fun x hx => ?_
  have:=bM ch x hx
  simp only [Function.comp,cI,id]; omega
 have h2:=vI ((ak ch).map Int.toNat) (fun x hx=>by
  obtain ⟨y,hy,rfl⟩:=List.mem_map.1 hx
  have:=bM ch y hy; omega) (by rw [List.length_map,aS]; omega)
 rw [← e] at h2
 exact ⟨_,h2⟩
theorem Fb {i t:Int} {g:aI} {o:List aA} {x:JH} (h:dF (ak g.Jd)=some x) (ho:o.length<100000):aT (SG i t g o) 334=some (SG i t g (o++[rX x])):=by
 unfold aT
 refine aB (x:=(rX x).JC) ?_ (aB (dS (by simp; omega) (by simp; omega)) rfl)
 unfold cg
 exact bo (s:=x) (aQ rfl (aB rfl (aB h rfl))) rfl
abbrev qW (g:aI) (k:Int) (p:Bool):aI:=aI.mk k g.Jm g.Ji g.To g.JB g.Jc g.Jd p
def GY:List Int:=[65,85,84,72,32,67,82,65,77,45,77,68,53]
theorem Cd:eR (bC GY)=some (br.mk 10 (⟨#[]⟩:JH) zP [],0):=by kernel_rfl
theorem Aa {i t:Int} {g:aI} {o:List aA} {x:JH} (h1:g.Jz=1) (hp:g.JA=false) (h:dF (ak g.Jd)=some x) (ho:o.length<100000) :
  bc (SG i t g o) (bC GY)=some (SG i t (qW g 5 false) (o++[rX x])):=by
 have ha:ej (SG i t g o)=some (334,SG i t (qW g 5 false) o):=by
  unfold ej
  refine bo (s:=false) (aG (by show (g.Jz != 1)=false; rw [h1]; rfl) (by show some (Sum.inl g.JA)=_; rw [hp])) (aG rfl ?_)
  show some (334,SG i t (qW g 5 g.JA) o)=_
  rw [hp]
 have hc:bK (SG i t g o) (br.mk 10 (⟨#[]⟩:JH) zP [])=some (SG i t (qW g 5 false) (o++[rX x])):=by
  unfold bK
  exact bo (s:=tG i t (qW g 5 false,o++[rX x])) (aG rfl (aG rfl (aG rfl (aG rfl (aG rfl (aG rfl (aG rfl (aG rfl (aG rfl (aQ rfl (aB ha (aB (Fb (g:=qW g 5 false) h ho) rfl)))))))))))) rfl
 unfold bc
 exact bo (s:=tG i t (qW g 5 false,o++[rX x])) (aG (by show (g.Jz==6)=false; rw [h1]; rfl) (aG (by show (g.Jz==5)=false; rw [h1]; rfl) (aB Cd (aG rfl (aB hc rfl))))) rfl
theorem BJ {i t:Int} {g:aI} {o:List aA} {s:JH} (h5:g.Jz=5) (hp:g.JA=false) (hs:g.Jd.size≤100) (b:Bool) (hb:b=decide (s=Am g.Jd)) (ho:o.length<100000) :
  bc (SG i t g o) s=some (SG i t (qW g 1 b) (o++[qK (cond b 235 535)])):=by
 have hv:=CY hs s
 rw [← hb] at hv
 have hpr:dP (SG i t g o) s=some (SG i t (qW g 1 b) (o++[qK (cond b 235 535)])):=by
  unfold dP
  refine aB hv ?_
  cases b
  ·have:=sJ (i:=i) (t:=t) (g:=qW g 1 g.JA) (o:=o) (code:=535) (by decide) ho
   rw [hp] at this
   refine aQ rfl (aB (x:=SG i t (qW g 1 false) (o++[qK 535])) ?_ rfl)
   show aT (SG i t (qW g 1 g.JA) o) 535=_
   rw [hp]; exact this
  ·exact aG rfl (aB (sJ (i:=i) (t:=t) (g:=qW g 1 true) (o:=o) (code:=235) (by decide) ho) rfl)
 unfold bc
 exact bo (s:=tG i t (qW g 1 b,o++[qK (cond b 235 535)])) (aG (by show (g.Jz==6)=false; rw [h5]; rfl) (aQ (by show (g.Jz==5)=true; rw [h5]; rfl) (aB hpr rfl))) rfl
theorem xT (s:JH) (h:s.size≤100):∃ b,dD s 32=some b:=by
 unfold dD
 have hs:=bM s
 let p:Nat→Bool:=fun i=>decide (32≤(ak s).getD i 0)&&decide ((ak s).getD i 0≤126)
 have hc:∀ i,i<s.size→cm s (i:Int)=some ((ak s).getD i 0):=fun i hi=>by
  rw [oU hi]; congr 1
  rw [List.getD_eq_getElem?_getD,List.getElem?_eq_getElem (by rw [aS]; exact hi)]; rfl
 have hloop:=mN (R:=Bool) (f:=fun (s17:Int) =>
   cond ((decide (s17<(s.size:Int))))
    (aE (S:=Bool) (A:=((Int)⊕((Unit)⊕Bool)))
     ((cm s s17).bind fun v2 =>
     cond ((decide (v2<32)))
      (some (.inl true))
      ((cm s s17).bind fun v3 =>
      some (.inl ((decide (126<v3))))))
     (fun (s31:Bool) =>
      cond (s31)
       (some (.inr (.inr (false))))
       ((some (IntKind.i64.wrap (s17+1))).bind fun v9 =>
       some (.inl v9))) some)
    (some (.inr (.inl ())))) p s.size false (fuel:=el) (by simp only [el]; omega)
  (fun i hi hp=>by
   have h1:=hc i hi
   simp only [p,Bool.and_eq_true,decide_eq_true_eq] at hp
   refine aQ (decide_eq_true (by omega)) (bo (s:=false) (aB h1 (aG (decide_eq_false (by omega)) (aB h1 (by rw [decide_eq_false (by omega)])))) (aG rfl (aB (aF (by omega) (by omega)) rfl))))
  (fun i hi hp=>by
   have h1:=hc i hi
   simp only [p,Bool.and_eq_false_iff,decide_eq_false_iff_not] at hp
   refine aQ (decide_eq_true (by omega)) (bo (s:=true) (aB h1 ?_) rfl)
   by_cases h:(ak s).getD i 0<32
   ·exact aQ (decide_eq_true h) rfl
   ·exact aG (decide_eq_false h) (aB h1 (by rw [decide_eq_true (by omega)])))
  (aG (decide_eq_false (by omega)) rfl)
 by_cases h:∀ i,i<s.size→p i=true
 ·rw [if_pos h] at hloop
  exact ⟨true,bo hloop rfl⟩
 ·rw [if_neg h] at hloop
  exact ⟨false,xC hloop rfl⟩
theorem tP {ch:JH} (h:ch.size≤100):∃ b,dD ch 32=some b∧∀ g:aI,0≤g.Jz→g.Jz≤6→g.Jd=ch→fC g=some b:=by
 obtain ⟨b,hb⟩:=xT ch h
 refine ⟨b,hb,fun g h0 h6 hc => ?_⟩
 subst hc
 unfold fC
 exact bo (s:=b) (aQ (decide_eq_true h0) (aQ (decide_eq_true h6) (aQ (decide_eq_true (by omega)) (aB hb rfl)))) rfl
set_option maxRecDepth 10000
def kM (c:Int):List Int→Option Nat
 | []=>none
 | x::l=>if x=c then some 0 else (kM c l).map (· + 1)
theorem qy {c:Int}:∀ {l:List Int},kM c l=none↔c ∉ l
 | []=>by simp [kM]
 | x::l=>by
  have ih:=qy (c:=c) (l:=l)
  unfold kM
  by_cases h:x=c
  ·simp [h]
  ·rw [if_neg h]
   simp only [Option.map_eq_none_iff,ih,List.mem_cons,not_or]
   exact ⟨fun h2=>⟨fun e=>h e.symm,h2⟩,fun h2=>h2.2⟩
theorem qh {c:Int}:∀ {l:List Int} {e:Nat},kM c l=some e→e+1≤l.length∧l=l.take e++c::l.drop (e+1)∧c ∉ l.take e
 | [],e,h=>by simp [kM] at h
 | x::l,e,h=>by
  unfold kM at h
  split at h
  ·rename_i hx
   cases h; subst hx; simp
  ·rename_i hx
   cases hi:kM c l with
   | none=>simp [hi] at h
   | some k =>
    simp [hi] at h
    subst h
    obtain ⟨h1,h2,h3⟩:=qh hi
    refine ⟨by simp; omega,?_,?_⟩
    ·simp only [List.take_succ_cons,List.cons_append,List.drop_succ_cons]
     rw [← h2]
    ·simp only [List.take_succ_cons,List.mem_cons,not_or]
     exact ⟨fun e=>hx e.symm,h3⟩
theorem wa {c:Int}:∀ {p r:List Int},c ∉ p→kM c (p++c::r)=some p.length
 | [],r,_=>by simp [kM]
 | x::p,r,h=>by
  simp only [List.mem_cons,not_or] at h
  rw [List.cons_append]
  unfold kM
  rw [if_neg (fun e=>h.1 e.symm),wa h.2]
  simp
theorem ph {n:Nat} (hn:n<256):∀ (l:List UInt8),Lib.indexByte l (UInt8.ofNat n)=match kM (n:Int) (l.map fun b=>(b.toNat:Int)) with | none => -1 | some e=>(e:Int)
 | []=>rfl
 | b::l=>by
  have ih:=ph hn l
  unfold Lib.indexByte
  rw [List.map_cons]
  unfold kM
  have hb:(b==UInt8.ofNat n)=decide ((b.toNat:Int)=(n:Int)):=by
   rw [Bool.eq_iff_iff,decide_eq_true_eq,beq_iff_eq]
   constructor
   ·rintro rfl; simp; omega
   ·intro h
    apply UInt8.toNat_inj.1
    simp; omega
  rw [hb]
  by_cases h:(b.toNat:Int)=(n:Int)
  ·rw [if_pos (decide_eq_true h),if_pos h]; rfl
  ·rw [if_neg (by simpa using h),if_neg h,ih]
   cases kM (n:Int) (l.map fun b=>(b.toNat:Int)) with
   | none=>rfl
   | some k =>
    have:((k:Int) == -1)=false:=beq_eq_false_iff_ne.2 (by omega)
    simp only [this,Bool.false_eq_true,if_false,Option.map_some]
    rfl
theorem sV {n:Nat} (hn:n<256) (s:JH):cG s ⟨#[UInt8.ofNat n]⟩=some (match kM (n:Int) (ak s) with | none => -1 | some e=>(e:Int)):=by
 unfold cG
 have:=ph hn s.data.toList
 simp only [this]
 rfl
def lO (c:Int):List Int→List (List Int)
 | []=>[[]]
 | x::l=>if x=c then []::lO c l else match lO c l with
  | []=>[[x]]
  | p::ps=>(x::p)::ps
theorem rH (c:Int):∀ l,lO c l≠[]
 | []=>by simp [lO]
 | x::l=>by
  unfold lO
  split
  ·simp
  ·split <;> simp
theorem yr {c:Int}:∀ {l:List Int},c ∉ l→lO c l=[l]
 | [],_=>rfl
 | x::l,h=>by
  simp only [List.mem_cons,not_or] at h
  unfold lO
  rw [if_neg (fun e=>h.1 e.symm),yr h.2]
theorem yh {c:Int}:∀ {p r:List Int},c ∉ p→lO c (p++c::r)=p::lO c r
 | [],r,_=>by simp [lO]
 | x::p,r,h=>by
  simp only [List.mem_cons,not_or] at h
  rw [List.cons_append]
  conv=>lhs; unfold lO
  rw [if_neg (fun e=>h.1 e.symm),yh h.2]
def xh {X S O:Type} (step:X→S→Option (S⊕O)):List X→S→Option (S⊕O)
 | [],s=>some (.inl s)
 | x::l,s=>match step x s with
  | none=>none
  | some (.inl s')=>xh step l s'
  | some (.inr o)=>some (.inr o)
def xu (c:Int) (s:JH):List JH:=(lO c (ak s)).map bC
theorem lm {n:Int} (h0 : -9223372036854775808≤n) (h1:n<9223372036854775808):some (IntKind.i64.wrap n)=some n:=by rw [pR h0 h1]
theorem vA {S O:Type} (n:Nat) (hn:n<256) (step:JH→S→Option (S⊕O)) (s:JH) (st:S) (hs:s.size<4611686018427387904) (r:S⊕O) (hr:xh step (xu (n:Int) s) st=some r) :
  iR (S:=S) (O:=O) (fun Y st=>bV Y ⟨#[UInt8.ofNat n]⟩ s 0 st) step st=some r:=by
 unfold iR bV
 refine aG rfl ?_
 have key:∀ (k:Nat) (s:JH) (st:S) (fuel:Nat),s.size=k→k<4611686018427387904→k<fuel→xh step (xu (n:Int) s) st=some r →
   aE (S:=(JH×(S⊕O))) (A:=S⊕O)
    (bB (S:=(JH×(S⊕O))) (O:=(JH×(S⊕O))⊕(S⊕O)) (fun ((s37,s38):JH×(S⊕O)) =>
     (cG s37 ⟨#[UInt8.ofNat n]⟩).bind fun v25 =>
     cond ((decide (v25<0)))
      (some (.inr (.inl (s37,s38))))
      ((some (IntKind.i64.wrap (v25+0))).bind fun v27 =>
      (fZ s37 0 v27).bind fun v28 =>
      (jU step v28 s38).bind fun v29 =>
      cond ((!v29.2))
       (some (.inr (.inr (v29.1))))
       ((some (IntKind.i64.wrap (v25+((⟨#[UInt8.ofNat n]⟩:JH).size:Int)))).bind fun v31 =>
       (fZ s37 v31 (s37.size:Int)).bind fun v32 =>
       some (.inl (v32,v29.1)))))
     fuel (s,.inl st))
    (fun ((s41,s42):JH×(S⊕O)) =>
     (jU step s41 s42).bind fun v51 =>
     some (v51.1)) some=some r:=by
  intro k
  induction k using Nat.strongRecOn with
  | _ k ih =>
   intro s st fuel hk hb hf hr
   obtain ⟨f,rfl⟩:∃ f,fuel=f+1:=⟨fuel-1,by omega⟩
   cases hi:kM (n:Int) (ak s) with
   | none =>
    rw [iS (o := .inl (s,.inl st)) (by
     refine aB (sV hn s) ?_
     rw [hi]
     exact aQ rfl rfl)]
    have h1:xu (n:Int) s=[s]:=by
     unfold xu
     rw [yr (qy.1 hi)]
     simp [jh]
    rw [h1] at hr
    simp only [xh] at hr
    show ((jU step s (.inl st)).bind fun v51=>some (v51.1))=some r
    simp only [jU]
    cases hst:step s st with
    | none=>rw [hst] at hr; cases hr
    | some u =>
     rw [hst] at hr
     cases u with
     | inl s'=>simpa using hr
     | inr o=>simpa using hr
   | some e =>
    obtain ⟨h1,h2,h3⟩:=qh hi
    rw [aS] at h1
    have h4:xu (n:Int) s=bC ((ak s).take e)::xu (n:Int) (bC ((ak s).drop (e+1))):=by
     unfold xu
     rw [bR (vD (bM s) _)]
     conv=>lhs; rw [h2]
     rw [yh h3,List.map_cons]
    rw [h4] at hr
    simp only [xh] at hr
    have e1:fZ s 0 (e:Int)=some (bC ((ak s).take e)):=by
     have:=sv (s:=s) (a:=0) (b:=e) (by omega) (by omega)
     simpa using this
    have e2:fZ s ((e:Int)+1) (s.size:Int)=some (bC ((ak s).drop (e+1))):=by
     have:=sv (s:=s) (a:=e+1) (b:=s.size) (by omega) (by omega)
     rw [List.take_of_length_le (by simp [aS])] at this
     simpa using this
    have w1:some (IntKind.i64.wrap ((e:Int)+0))=some (e:Int):=by rw [lm (by omega) (by omega)]; simp
    have w2:some (IntKind.i64.wrap ((e:Int)+((⟨#[UInt8.ofNat n]⟩:JH).size:Int)))=some ((e:Int)+1):=by
     show some (IntKind.i64.wrap ((e:Int)+1))=_
     rw [lm (by omega) (by omega)]
    have hsz:(bC ((ak s).drop (e+1))).size=s.size-(e+1):=by rw [dH,List.length_drop,aS]
    cases hst:step (bC ((ak s).take e)) st with
    | none=>rw [hst] at hr; cases hr
    | some u =>
     rw [hst] at hr
     cases u with
     | inl s' =>
      rw [kU (s':=(bC ((ak s).drop (e+1)),.inl s')) (by
       refine aB (sV hn s) ?_
       rw [hi]
       refine aG (decide_eq_false (by show ¬ ((e:Int)<0); omega)) (aB w1 (aB e1 (aB (x:=(.inl s',true)) (by simp [jU,hst]) (aG rfl (aB w2 (aB e2 rfl))))))
       )]
      exact ih _ (by rw [hsz]; omega) _ s' f rfl (by omega) (by omega) hr
     | inr o =>
      rw [iS (o := .inr (.inr o)) (by
       refine aB (sV hn s) ?_
       rw [hi]
       exact aG (decide_eq_false (by show ¬ ((e:Int)<0); omega)) (aB w1 (aB e1 (aB (x:=(.inr o,false)) (by simp [jU,hst]) (aQ rfl rfl))))
       )]
      exact hr
 exact key _ s st el rfl hs (by unfold el; omega) hr
def HL (c:Int):Bool:=decide (48≤c)&&decide (c≤57)||(decide (65≤c)&&decide (c≤90)||decide (97≤c)&&decide (c≤122))
def xl (c:Int):Bool:=HL c||c==45
def sY (l:List Int):Bool := !l.isEmpty&&(decide (l.length≤63)&&(l.head? != some 45&&(l.getLast? != some 45&&l.all xl)))
def ox (l:List Int):Bool:=decide (l.length≤255)&&(lO 46 l).all sY
theorem DC (p:Int→Bool) (h:(List.range 256).all (fun k=>p (k:Int))=true) {c:Int} (hc:0≤c∧c<256):p c=true:=by
 have:=List.all_eq_true.1 h c.toNat (List.mem_range.2 (by omega))
 rwa [Int.toNat_of_nonneg hc.1] at this
theorem xW:(List.range 256).all (fun k=>decide (fO ((k:Nat):Int)=some (xl ((k:Nat):Int))))=true:=by kernel_rfl
theorem Fp {c:Int} (hc:0≤c∧c<256):fO c=some (xl c):=by
 simpa using DC (fun c=>decide (fO c=some (xl c))) xW hc
theorem vP (l:List Int) (p:Int→Bool):l.all p=true↔∀ i,i<l.length→p (l.getD i 0)=true:=by
 rw [List.all_eq_true]
 constructor
 ·intro h i hi
  rw [List.getD_eq_getElem?_getD,List.getElem?_eq_getElem hi]
  exact h _ (List.getElem_mem hi)
 ·intro h x hx
  obtain ⟨i,hi,rfl⟩:=List.getElem_of_mem hx
  have:=h i hi
  rw [List.getD_eq_getElem?_getD,List.getElem?_eq_getElem hi] at this
  exact this
theorem xP {s:JH} {i:Nat} (h:i<s.size):cm s (i:Int)=some ((ak s).getD i 0):=by
 rw [oU h,List.getD_eq_getElem?_getD,List.getElem?_eq_getElem (by rw [aS]; exact h)]; rfl
theorem uj (s:JH) {i:Nat} (h:i<s.size):0≤(ak s).getD i 0∧(ak s).getD i 0<256:=by
 rw [List.getD_eq_getElem?_getD,List.getElem?_eq_getElem (by rw [aS]; exact h)]
 exact bM s _ (List.getElem_mem _)
theorem BG {g:Int→Option Bool} {p:Int→Bool} (s:JH) (hs:s.size<4611686018427387904) (hg:∀ c,0≤c∧c<256→g c=some (p c)) :
  aE (S:=(Unit)) (A:=Bool)
  (bB (S:=(Int)) (O:=(Unit)⊕Bool) (fun (s9:Int) =>
   cond ((decide (s9<(s.size:Int))))
    ((cm s s9).bind fun v2 =>
    (g v2).bind fun v3 =>
    cond ((!v3))
     (some (.inr (.inr (false))))
     ((some (IntKind.i64.wrap (s9+1))).bind fun v5 =>
     some (.inl v5)))
    (some (.inr (.inl ()))))
   el 0)
  (fun (():Unit) =>
   some (true)) some=some ((ak s).all p):=by
 have hl:=mN (R:=Bool) (f:=fun (s9:Int) =>
   cond ((decide (s9<(s.size:Int))))
    ((cm s s9).bind fun v2 =>
    (g v2).bind fun v3 =>
    cond ((!v3))
     (some (.inr (.inr (false))))
     ((some (IntKind.i64.wrap (s9+1))).bind fun v5 =>
     some (.inl v5)))
    (some (.inr (.inl ())))) (fun i=>p ((ak s).getD i 0)) s.size false (fuel:=el) (by unfold el; omega)
  (fun i hi hp=>aQ (decide_eq_true (by omega)) (aB (xP hi) (aB (hg _ (uj s hi)) (aG (by simp only [hp]; rfl) (aB (by rw [kW (by omega)]) rfl)))))
  (fun i hi hp=>aQ (decide_eq_true (by omega)) (aB (xP hi) (aB (hg _ (uj s hi)) (aQ (by simp only [hp]; rfl) rfl))))
  (aG (decide_eq_false (by omega)) rfl)
 rw [hl]
 have hiff:=vP (ak s) p
 rw [aS] at hiff
 by_cases hall:∀ i,i<s.size→p ((ak s).getD i 0)=true
 ·rw [if_pos hall,hiff.2 hall]; rfl
 ·rw [if_neg hall]
  cases hq:(ak s).all p
  ·rfl
  ·exact absurd (hiff.1 hq) hall
theorem IV (s:JH):(s.toList==(⟨#[]⟩:JH).toList)=(ak s).isEmpty:=by
 rw [iP,Bool.eq_iff_iff,decide_eq_true_eq,xt]
 simp [ak]
theorem ui {l:List Int} (h:l≠[]):l.getLast? = some (l.getD (l.length-1) 0):=by
 have:0<l.length:=List.length_pos_iff.2 h
 rw [List.getLast?_eq_getElem?,List.getD_eq_getElem?_getD,List.getElem?_eq_getElem (by omega)]
 rfl
theorem tQ {l:List Int} (h:l≠[]):l.head? = some (l.getD 0 0):=by
 cases l with
 | nil=>exact absurd rfl h
 | cons x l=>rfl
theorem BQ (s:JH) (hs:s.size<4611686018427387904):jZ s=some (sY (ak s)):=by
 unfold jZ sY
 rw [IV]
 cases he:(ak s).isEmpty
 ·have hne:ak s≠[]:=by intro e; rw [e] at he; cases he
  have hpos:0<s.size:=by rw [← aS]; exact List.length_pos_iff.2 hne
  rw [ui hne,tQ hne,aS]
  by_cases h1:s.size≤63
  ·have d1:decide ((s.size:Int)≤63)=true:=decide_eq_true (by omega)
   have c0:=xP (s:=s) (i:=0) hpos
   have c1:=xP (s:=s) (i:=s.size-1) (by omega)
   have e1:((s.size-1:Nat):Int)=(s.size:Int)-1:=by omega
   rw [e1] at c1
   by_cases h2:(ak s).getD 0 0=45
   ·refine bo (s:=false) (aQ rfl (aQ d1 (aB c0 (aG (by rw [h2]; rfl) rfl)))) ?_
    rw [h2]; simp
   ·by_cases h3:(ak s).getD (s.size-1) 0=45
    ·refine bo (s:=false) (aQ rfl (aQ d1 (aB c0 (aQ (by simpa using h2) (aB (lm (by omega) (by omega)) (aB c1 (aG (by rw [h3]; rfl) rfl))))))) ?_
     rw [h3]; simp
    ·refine bo (s:=(ak s).all xl) (aQ rfl (aQ d1 (aB c0 (aQ (by simpa using h2) (aB (lm (by omega) (by omega)) (aB c1 (aQ (by simpa using h3) (aB (BG s hs fun c hc=>Fp hc) rfl)))))))) ?_
     have x2:(some ((ak s).getD 0 0) != some 45)=true:=by simpa using h2
     have x3:(some ((ak s).getD (s.size-1) 0) != some 45)=true:=by simpa using h3
     rw [x2,x3,decide_eq_true h1]; rfl
  ·refine bo (s:=false) (aQ rfl (aG (decide_eq_false (by omega)) rfl)) ?_
   rw [decide_eq_false h1]; rfl
 ·exact bo (s:=false) (aG rfl rfl) rfl
theorem Ab {f:JH→Option Bool} {P:List Int→Bool} (s:JH) (hs:s.size<4611686018427387904) (hf:∀ x,x.size≤s.size→f x=some (P (ak x))) :
  (dI s (⟨#[46]⟩:JH)).bind (fun v1 =>
  aE (S:=(Unit)) (A:=(Unit))
  (iR (S:=(Unit)) (O:=(Unit)) (fun Y st=>Sh.bV Y v1.1 v1.2.1 v1.2.2 st) (fun (x:JH) (():Unit) =>
   (f x).bind fun v2 =>
   cond ((!v2))
    (some (.inr ()))
    (some (.inl ())))
   ())
  (fun (():Unit) =>
   some (true))
  (fun (():Unit) =>
   some (false)))=some ((lO 46 (ak s)).all P):=by
 refine aB (x:=(⟨#[46]⟩,s,0)) rfl ?_
 have hle:∀ (c:Int) (l:List Int),∀ p∈lO c l,p.length≤l.length:=by
  intro c l
  induction l with
  | nil=>intro p hp; simp [lO] at hp; simp [hp]
  | cons x l ih =>
   intro p hp
   unfold lO at hp
   split at hp
   ·simp only [List.mem_cons] at hp
    rcases hp with rfl | hp
    ·simp
    ·have:=ih p hp; simp; omega
   ·split at hp
    ·simp at hp; subst hp; simp
    ·rename_i q qs e
     simp only [List.mem_cons] at hp
     rcases hp with rfl | hp
     ·have:=ih q (by rw [e]; simp); simp; omega
     ·have:=ih p (by rw [e]; simp [hp]); simp; omega
 have hby:∀ (c:Int) (l:List Int),kb l→∀ p∈lO c l,kb p:=by
  intro c l
  induction l with
  | nil=>intro _ p hp; simp [lO] at hp; subst hp; intro x hx; cases hx
  | cons x l ih =>
   intro hb p hp
   have hb':kb l:=fun y hy=>hb y (by simp [hy])
   unfold lO at hp
   split at hp
   ·simp only [List.mem_cons] at hp
    rcases hp with rfl | hp
    ·intro x hx; cases hx
    ·exact ih hb' p hp
   ·split at hp
    ·simp at hp; subst hp; intro y hy; simp at hy; subst hy; exact hb _ (by simp)
    ·rename_i q qs e
     simp only [List.mem_cons] at hp
     rcases hp with rfl | hp
     ·intro y hy
      simp only [List.mem_cons] at hy
      rcases hy with rfl | hy
      ·exact hb _ (by simp)
      ·exact ih hb' q (by rw [e]; simp) y hy
     ·exact ih hb' p (by rw [e]; simp [hp])
 have hfol:∀ l:List (List Int),(∀ p∈l,kb p∧p.length≤s.size)→xh (fun (x:JH) (():Unit) =>
   (f x).bind fun v2 =>
   cond ((!v2))
    (some (.inr ()))
    (some (.inl ()))) (l.map bC) ()=some (if l.all P then .inl () else .inr ()):=by
  intro l
  induction l with
  | nil=>intro _; rfl
  | cons p l ih =>
   intro h
   have hp:=h p (by simp)
   have e1:=hf (bC p) (by rw [dH]; exact hp.2)
   rw [bR hp.1] at e1
   rw [List.map_cons]
   unfold xh
   simp only [e1,Option.bind_some]
   cases hP:P p
   ·simp [hP]
   ·simp only [Bool.not_true,cond_false,List.all_cons,hP,Bool.true_and]
    exact ih fun q hq=>h q (by simp [hq])
 have:=vA 46 (by omega) (fun (x:JH) (():Unit) =>
   (f x).bind fun v2 =>
   cond ((!v2))
    (some (.inr ()))
    (some (.inl ()))) s () hs _ (hfol (lO 46 (ak s)) fun p hp=>⟨hby _ _ (bM s) p hp,by have:=hle _ _ p hp; rwa [aS] at this⟩)
 change aE (iR (fun Y st=>bV Y ⟨#[UInt8.ofNat 46]⟩ s 0 st) _ ()) _ _=_
 rw [this]
 cases hq:(lO 46 (ak s)).all P
 ·rfl
 ·rfl
theorem FG (s:JH) (hs:s.size<4611686018427387904):cw s=some (ox (ak s)):=by
 unfold cw ox
 rw [aS]
 by_cases h:s.size≤255
 ·refine bo (s:=(lO 46 (ak s)).all sY) (aQ (decide_eq_true (by omega)) (aB (x:=(lO 46 (ak s)).all sY) ?_ rfl)) (by rw [decide_eq_true h]; rfl)
  exact Ab s hs fun x hx=>BQ x (by omega)
 ·exact bo (s:=false) (aG (decide_eq_false (by omega)) rfl) (by rw [decide_eq_false h]; rfl)
theorem Be {n:Nat} (hn:n<256) (s:JH) (hs:s.size<4611686018427387904):dC s ⟨#[UInt8.ofNat n]⟩=some (match kM (n:Int) (ak s) with
  | some e=>(bC ((ak s).take e),bC ((ak s).drop (e+1)),true)
  | none=>(s,(⟨#[]⟩:JH),false)):=by
 unfold dC dl
 cases hi:kM (n:Int) (ak s) with
 | none =>
  refine aB (x:=(s,(⟨#[]⟩:JH),false)) (aB (sV hn s) ?_) rfl
  rw [hi]
  exact aG rfl rfl
 | some e =>
  obtain ⟨h1,_,_⟩:=qh hi
  rw [aS] at h1
  have e1:fZ s 0 (e:Int)=some (bC ((ak s).take e)):=by
   have:=sv (s:=s) (a:=0) (b:=e) (by omega) (by omega)
   simpa using this
  have e2:fZ s ((e:Int)+1) (s.size:Int)=some (bC ((ak s).drop (e+1))):=by
   have:=sv (s:=s) (a:=e+1) (b:=s.size) (by omega) (by omega)
   rw [List.take_of_length_le (by simp [aS])] at this
   simpa using this
  have w2:some (IntKind.i64.wrap ((e:Int)+((⟨#[UInt8.ofNat n]⟩:JH).size:Int)))=some ((e:Int)+1):=by
   show some (IntKind.i64.wrap ((e:Int)+1))=_
   rw [lm (by omega) (by omega)]
  refine aB (x:=(bC ((ak s).take e),bC ((ak s).drop (e+1)),true)) (aB (sV hn s) ?_) rfl
  rw [hi]
  exact aQ (decide_eq_true (by show (0:Int)≤(e:Int); omega)) (aB e1 (aB w2 (aB e2 rfl)))
def e0:JH:=⟨#[]⟩
theorem EJ (n lo hi:Int):dp n lo hi=some (decide (lo≤n)&&decide (n≤hi)):=by
 unfold dp
 cases decide (lo≤n) <;> rfl
def Bn (c:Int):Bool:=decide (97≤c)&&decide (c≤122)||decide (65≤c)&&decide (c≤90)
def BS (c:Int):Bool:=decide (48≤c)&&decide (c≤57)
theorem DO (c:Int):cv c=some (Bn c):=by
 unfold cv Bn
 cases decide (97≤c) <;> cases decide (c≤122) <;> cases decide (65≤c) <;> cases decide (c≤90) <;> rfl
theorem Fj (c:Int):cJ c=some (BS c):=by
 unfold cJ BS
 cases decide (48≤c) <;> rfl
theorem Gj (c:Int):xl c=(Bn c||(BS c||c==45)):=by
 unfold xl HL Bn BS
 cases decide (97≤c) <;> cases decide (c≤122) <;> cases decide (65≤c) <;> cases decide (c≤90) <;> cases decide (48≤c) <;> cases decide (c≤57) <;> simp
def vl (l:List Int):Bool:=decide (1≤l.length)&&(decide (l.length≤63)&&(l.getD 0 0 != 45&&l.getD (l.length-1) 0 != 45))
theorem ux (l:List Int):sY l=(vl l&&l.all xl):=by
 unfold sY vl
 cases l with
 | nil=>rfl
 | cons x r =>
  rw [ui (by simp),tQ (by simp)]
  have:decide (1≤(x::r).length)=true:=by simp
  rw [this]
  simp only [List.isEmpty_cons,Bool.not_false,Bool.true_and]
  have e1:(some ((x::r).getD 0 0) != some 45)=((x::r).getD 0 0 != 45):=by rw [Bool.eq_iff_iff]; simp
  have e2:(some ((x::r).getD ((x::r).length-1) 0) != some 45)=((x::r).getD ((x::r).length-1) 0 != 45):=by rw [Bool.eq_iff_iff]; simp
  rw [e1,e2]
  simp only [Bool.and_assoc]
def tu:List Int→List Int→Bool
 | cur,[]=>vl cur
 | cur,x::r=>if x=46 then vl cur&&tu [] r else xl x&&tu (cur++[x]) r
theorem rY:∀ (l cur:List Int),cur.all xl=true→tu cur l=match lO 46 l with
  | []=>true
  | a::ps=>sY (cur++a)&&ps.all sY
 | [],cur,h=>by simp [tu,lO,ux,h]
 | x::r,cur,h=>by
  have hne:=rH 46 r
  unfold tu lO
  by_cases hx:x=46
  ·rw [if_pos hx,if_pos hx,rY r [] rfl]
   cases hs:lO 46 r with
   | nil=>exact absurd hs hne
   | cons a ps=>simp [ux,h]
  ·rw [if_neg hx,if_neg hx]
   cases hs:lO 46 r with
   | nil=>exact absurd hs hne
   | cons a ps =>
    cases hl:xl x
    ·simp [ux,hl]
    ·have:=rY r (cur++[x]) (by simp [h,hl])
     rw [this,hs]
     simp
theorem GQ (l:List Int):(lO 46 l).all sY=tu [] l:=by
 rw [rY l [] rfl]
 cases hs:lO 46 l with
 | nil=>exact absurd hs (rH 46 l)
 | cons a ps=>simp
def pq (s:JH):Int×Int→Option ((Int×Int)⊕(Unit⊕Bool)):=(fun ((s88,s89):Int×Int) =>
 cond ((decide (s89≤(s.size:Int))))
  (aE (S:=Int) (A:=((Int×Int)⊕((Unit)⊕Bool)))
   (aE (S:=Bool) (A:=(Int⊕((Int×Int)⊕((Unit)⊕Bool))))
    (cond ((decide (s89<(s.size:Int))))
     ((cm s s89).bind fun v4 =>
     some (.inl (v4 != 46)))
     (some (.inl false)))
    (fun (s151:Bool) =>
     cond (s151)
      (aE (S:=Bool) (A:=(Int⊕((Int×Int)⊕((Unit)⊕Bool))))
       ((cm s s89).bind fun v10 =>
       (cv v10).bind fun v11 =>
       cond ((!v11))
        ((cm s s89).bind fun v12 =>
        (cJ v12).bind fun v13 =>
        cond ((!v13))
         ((cm s s89).bind fun v14 =>
         some (.inl (v14 != 45)))
         (some (.inl false)))
        (some (.inl false)))
       (fun (s156:Bool) =>
        cond (s156)
         (some (.inr (.inr (.inr (false)))))
         (some (.inl s88))) some)
      (aE (S:=Bool) (A:=(Int⊕((Int×Int)⊕((Unit)⊕Bool))))
       ((some (IntKind.i64.wrap (s89-s88))).bind fun v20 =>
       (dp v20 1 63).bind fun v21 =>
       cond ((!v21))
        (some (.inl true))
        ((cm s s88).bind fun v22 =>
        cond ((v22==45))
         (some (.inl true))
         ((some (IntKind.i64.wrap (s89-1))).bind fun v23 =>
         (cm s v23).bind fun v24 =>
         some (.inl (v24==45)))))
       (fun (s161:Bool) =>
        cond (s161)
         (some (.inr (.inr (.inr (false)))))
         ((some (IntKind.i64.wrap (s89+1))).bind fun v30 =>
         some (.inl v30))) some)) some)
   (fun (s147:Int) =>
    (some (IntKind.i64.wrap (s89+1))).bind fun v50 =>
    some (.inl (s147,v50))) some)
  (some (.inr (.inl ()))))
theorem GC {R:Type} (s:JH) (f i:Nat) (cur:List Int) (hi:i≤s.size) (hs:s.size<4611686018427387904) (hl:f+cur.length=i) (hc:∀ j,j<cur.length→(ak s).getD (f+j) 0=cur.getD j 0) (A:Option (R⊕((Int×Int)⊕(Unit⊕Bool)))) (B:Option (R⊕((Int×Int)⊕(Unit⊕Bool)))) :
  (aE (S:=Bool) (A:=(R⊕((Int×Int)⊕((Unit)⊕Bool))))
     ((some (IntKind.i64.wrap ((i:Int)-(f:Int)))).bind fun v20 =>
     (dp v20 1 63).bind fun v21 =>
     cond ((!v21))
      (some (.inl true))
      ((cm s (f:Int)).bind fun v22 =>
      cond ((v22==45))
       (some (.inl true))
       ((some (IntKind.i64.wrap ((i:Int)-1))).bind fun v23 =>
       (cm s v23).bind fun v24 =>
       some (.inl (v24==45)))))
     (fun (s161:Bool) =>
      cond (s161) A B) some)=cond (vl cur) B A:=by
 have w:some (IntKind.i64.wrap ((i:Int)-(f:Int)))=some (cur.length:Int):=by rw [lm (by omega) (by omega)]; congr 1; omega
 have hin:=EJ (cur.length:Int) 1 63
 unfold vl
 by_cases h1:1≤cur.length
 ·by_cases h2:cur.length≤63
  ·rw [decide_eq_true (by omega),decide_eq_true (by omega)] at hin
   rw [decide_eq_true h1,decide_eq_true h2]
   have c0:=xP (s:=s) (i:=f) (by omega)
   have e0:=hc 0 (by omega)
   rw [Nat.add_zero] at e0
   rw [e0] at c0
   have c1:=xP (s:=s) (i:=i-1) (by omega)
   have e1:=hc (cur.length-1) (by omega)
   rw [show f+(cur.length-1)=i-1 by omega] at e1
   rw [e1,show ((i-1:Nat):Int)=(i:Int)-1 by omega] at c1
   by_cases h3:cur.getD 0 0=45
   ·refine bo (s:=true) (aB w (aB hin (aG rfl (aB c0 (aQ (by rw [h3]; rfl) rfl))))) ?_
    rw [h3]; rfl
   ·have x3:(cur.getD 0 0==45)=false:=by simpa using h3
    have y3:(cur.getD 0 0 != 45)=true:=by simpa using h3
    refine bo (s:=(cur.getD (cur.length-1) 0==45)) (aB w (aB hin (aG rfl (aB c0 (aG x3 (aB (lm (by omega) (by omega)) (aB c1 rfl))))))) ?_
    rw [y3]
    unfold bne
    cases (cur.getD (cur.length-1) 0==45) <;> rfl
  ·rw [decide_eq_true (by omega),decide_eq_false (by omega)] at hin
   rw [decide_eq_true h1,decide_eq_false h2]
   exact bo (s:=true) (aB w (aB hin rfl)) rfl
 ·rw [decide_eq_false (by omega)] at hin
  rw [decide_eq_false h1]
  exact bo (s:=true) (aB w (aB hin rfl)) rfl
theorem qc (s:JH) (hs:s.size<4611686018427387904):∀ (rest cur:List Int) (f i fuel:Nat),f+cur.length=i→(ak s).drop i=rest→i≤s.size→(∀ j,j<cur.length→(ak s).getD (f+j) 0=cur.getD j 0)→rest.length+1<fuel →
  bB (pq s) fuel ((f:Int),(i:Int))=some (if tu cur rest=true then .inl () else .inr false)
 | [],cur,f,i,fuel,hl,hd,hi,hc,hf=>by
  have hi2:i=s.size:=by
   have:=congrArg List.length hd
   rw [List.length_drop,aS] at this
   simp at this; omega
  obtain ⟨k,rfl⟩:∃ k,fuel=k+1+1:=⟨fuel-2,by simp at hf; omega⟩
  have hr:=GC (R:=Int) s f i cur hi hs hl hc (some (.inr (.inr (.inr false)))) ((some (IntKind.i64.wrap ((i:Int)+1))).bind fun v30=>some (.inl v30))
  have w:some (IntKind.i64.wrap ((i:Int)+1))=some ((i+1:Nat):Int):=by rw [kW (by omega)]
  have hd0:tu cur []=vl cur:=rfl
  rw [hd0]
  cases hlab:vl cur
  ·rw [hlab,cond_false] at hr
   rw [iS (o := .inr false)]
   ·rfl
   ·unfold pq
    exact aQ (decide_eq_true (by omega)) (xC (a := .inr (.inr false)) (bo (s:=false) (aG (decide_eq_false (by omega)) rfl) (aG rfl hr)) rfl)
  ·rw [hlab,cond_true] at hr
   rw [kU (s':=(((i+1:Nat):Int),((i+1:Nat):Int))),iS (o := .inl ())]
   ·rfl
   ·unfold pq
    exact aG (decide_eq_false (by omega)) rfl
   ·unfold pq
    exact aQ (decide_eq_true (by omega)) (bo (s:=((i+1:Nat):Int)) (bo (s:=false) (aG (decide_eq_false (by omega)) rfl) (aG rfl (hr.trans (aB w rfl)))) (aB w rfl))
 | x::rest,cur,f,i,fuel,hl,hd,hi,hc,hf=>by
  have hlt:i<s.size:=by
   have:=congrArg List.length hd
   rw [List.length_drop,aS] at this
   simp at this; omega
  have hx:(ak s).getD i 0=x:=by
   have:=congrArg List.head? hd
   rw [List.head?_drop] at this
   rw [List.getD_eq_getElem?_getD,this]; rfl
  have hd2:(ak s).drop (i+1)=rest:=by
   rw [← List.drop_drop,hd]; rfl
  obtain ⟨k,rfl⟩:∃ k,fuel=k+1:=⟨fuel-1,by omega⟩
  have hchr:=xP hlt
  rw [hx] at hchr
  have w:some (IntKind.i64.wrap ((i:Int)+1))=some ((i+1:Nat):Int):=by rw [kW (by omega)]
  have lt:decide ((i:Int)≤(s.size:Int))=true:=decide_eq_true (by omega)
  have lt2:decide ((i:Int)<(s.size:Int))=true:=decide_eq_true (by omega)
  unfold tu
  by_cases h46:x=46
  ·rw [if_pos h46]
   have hr:=GC (R:=Int) s f i cur hi hs hl hc (some (.inr (.inr (.inr false)))) ((some (IntKind.i64.wrap ((i:Int)+1))).bind fun v30=>some (.inl v30))
   cases hlab:vl cur
   ·rw [hlab,cond_false] at hr
    rw [iS (o := .inr false)]
    ·rfl
    ·unfold pq
     exact aQ lt (xC (a := .inr (.inr false)) (bo (s:=false) (aQ lt2 (aB hchr (by rw [h46]; rfl))) (aG rfl hr)) rfl)
   ·rw [hlab,cond_true] at hr
    rw [kU (s':=(((i+1:Nat):Int),((i+1:Nat):Int)))]
    ·rw [Bool.true_and]
     exact qc s hs rest [] (i+1) (i+1) k (by simp) hd2 (by omega) (by simp) (by simp at hf; omega)
    ·unfold pq
     exact aQ lt (bo (s:=((i+1:Nat):Int)) (bo (s:=false) (aQ lt2 (aB hchr (by rw [h46]; rfl))) (aG rfl (hr.trans (aB w rfl)))) (aB w rfl))
  ·rw [if_neg h46]
   have hx46:(x != 46)=true:=by simpa using h46
   have hlb:=Gj x
   have hin:((cm s (i:Int)).bind fun v10 =>
       (cv v10).bind fun v11 =>
       cond ((!v11))
        ((cm s (i:Int)).bind fun v12 =>
        (cJ v12).bind fun v13 =>
        cond ((!v13))
         ((cm s (i:Int)).bind fun v14 =>
         some (Sum.inl (β:=(Int⊕((Int×Int)⊕((Unit)⊕Bool)))) (v14 != 45)))
         (some (.inl false)))
        (some (.inl false)))=some (.inl (!xl x)):=by
    rw [hlb]
    refine aB hchr (aB (DO x) ?_)
    cases Bn x
    ·refine aQ rfl (aB hchr (aB (Fj x) ?_))
     cases BS x
     ·exact aQ rfl (aB hchr rfl)
     ·rfl
    ·rfl
   cases hl1:xl x
   ·rw [hl1] at hin
    rw [iS (o := .inr false)]
    ·rfl
    ·unfold pq
     exact aQ lt (xC (a := .inr (.inr false)) (bo (s:=true) (aQ lt2 (aB hchr (by rw [hx46]))) (aQ rfl (bo (s:=true) hin rfl))) rfl)
   ·rw [hl1] at hin
    rw [kU (s':=((f:Int),((i+1:Nat):Int)))]
    ·rw [Bool.true_and]
     refine qc s hs rest (cur++[x]) f (i+1) k (by simp; omega) hd2 (by omega) (fun j hj => ?_) (by simp at hf; omega)
     simp at hj
     by_cases hj2:j<cur.length
     ·rw [hc j hj2,List.getD_eq_getElem?_getD,List.getD_eq_getElem?_getD,List.getElem?_append_left hj2]
     ·have hj3:j=cur.length:=by omega
      subst hj3
      rw [hl,hx]
      simp
    ·unfold pq
     exact aQ lt (bo (s:=(f:Int)) (bo (s:=true) (aQ lt2 (aB hchr (by rw [hx46]))) (aQ rfl (bo (s:=false) hin rfl))) (aB w rfl))
theorem CE (s:JH):dL s=some (ox (ak s)):=by
 unfold dL ox
 rw [aS]
 have hin:=EJ (s.size:Int) 1 255
 by_cases h:1≤s.size∧s.size≤255
 ·rw [decide_eq_true (by omega),decide_eq_true (by omega)] at hin
  refine aB hin (aG rfl ?_)
  rw [decide_eq_true h.2,Bool.true_and,GQ]
  have:=qc s (by omega) (ak s) [] 0 0 el rfl rfl (by omega) (by simp) (by rw [aS]; unfold el; omega)
  change aE (bB (pq s) el ((0:Nat),(0:Nat))) _ _=_
  rw [this]
  cases tu [] (ak s) <;> rfl
 ·have hn:(decide ((1:Int)≤(s.size:Int))&&decide ((s.size:Int)≤255))=false:=by
   by_cases h1:1≤s.size
   ·rw [decide_eq_true (by omega),decide_eq_false (by omega)]; rfl
   ·rw [decide_eq_false (by omega)]; rfl
  rw [hn] at hin
  refine aB hin (aQ rfl ?_)
  by_cases h1:1≤s.size
  ·rw [decide_eq_false (by omega)]; rfl
  ·have:ak s=[]:=List.eq_nil_of_length_eq_zero (by rw [aS]; omega)
   rw [this]
   simp [lO,sY]
def jO (c:Int):Int:=if 65≤c∧c≤90 then c+32 else c
def DM (l:List Int):List Int:=l.map jO
def tD (s:JH):JH:=bC (DM (ak s))
theorem DU {A:Type} (f:A→A) (l:List A) (i:Nat) (h:i<l.length):((l.take i).map f++l.drop i).set i (f l[i])=(l.take (i+1)).map f++l.drop (i+1):=by
 rw [List.set_append_right _ _ (by simp; omega)]
 have hl:((l.take i).map f).length=i:=by simp; omega
 rw [hl,Nat.sub_self,List.drop_eq_getElem_cons h,List.set_cons_zero,List.take_add_one,List.getElem?_eq_getElem h]
 simp only [Option.toList_some,List.map_append,List.map_cons,List.map_nil,List.append_assoc,List.cons_append,List.nil_append]
theorem CX {A:Type} (f:A→A) (l:List A) (i:Nat) (h:i<l.length):bF ((l.take i).map f++l.drop i) i=some l[i]:=by
 unfold bF
 rw [List.getElem?_append_right (by simp; omega)]
 have hl:((l.take i).map f).length=i:=by simp; omega
 rw [hl,Nat.sub_self,List.drop_eq_getElem_cons h]
 rfl
theorem yg (s:JH) (hs:s.size<4611686018427387904):dJ s=some (tD s):=by
 unfold dJ
 refine aB rfl ?_
 have hlen:(ak s).length=s.size:=aS s
 refine bo (s:=DM (ak s)) ?_ rfl
 refine bD (fun i=>(((ak s).take i).map jO++(ak s).drop i,(i:Int))) s.size el (by simp) (by unfold el; omega) (fun i hi => ?_) ?_
 ·have hi':i<(ak s).length:=by omega
  have hb:=bM s _ (List.getElem_mem hi')
  have hll:(((ak s).take i).map jO++(ak s).drop i).length=(ak s).length:=by simp; omega
  have gt:=CX jO (ak s) i hi'
  have st:=DU jO (ak s) i hi'
  have ix:dE (i:Int) (((ak s).take i).map jO++(ak s).drop i).length=some i:=bN (by omega)
  have w:some (IntKind.i64.wrap ((i:Int)+1))=some ((i+1:Nat):Int):=by rw [kW (by omega)]
  refine aQ (decide_eq_true (by omega)) ?_
  by_cases h1:65≤(ak s)[i]∧(ak s)[i]≤90
  ·have e:jO (ak s)[i]=(ak s)[i]+32:=by unfold jO; rw [if_pos h1]
   rw [e] at st
   refine bo (s:=((ak s).take (i+1)).map jO++(ak s).drop (i+1)) (aB ix (aB gt (bo (s:=true) (aQ (decide_eq_true h1.1) (by rw [decide_eq_true h1.2])) (aQ rfl (aB (by rw [za (by omega) (by omega)]) (aB ix (aB (by rw [st]) rfl))))))) (aB w rfl)
  ·have e:jO (ak s)[i]=(ak s)[i]:=by unfold jO; rw [if_neg h1]
   have st2:((ak s).take i).map jO++(ak s).drop i=((ak s).take (i+1)).map jO++(ak s).drop (i+1):=by
    rw [List.take_add_one,List.getElem?_eq_getElem hi',List.drop_eq_getElem_cons hi']
    simp only [Option.toList_some,List.map_append,List.map_cons,List.map_nil,List.append_assoc,List.cons_append,List.nil_append,e]
   refine bo (s:=((ak s).take (i+1)).map jO++(ak s).drop (i+1)) (aB ix (aB gt (bo (s:=false) ?_ (aG rfl (by rw [st2]))))) (aB w rfl)
   by_cases h2:65≤(ak s)[i]
   ·exact aQ (decide_eq_true h2) (by rw [decide_eq_false fun h3=>h1 ⟨h2,h3⟩])
   ·exact aG (decide_eq_false h2) rfl
 ·refine aG (decide_eq_false (by omega)) ?_
  rw [← hlen]
  simp [DM]
theorem zf {P:List Int→Bool} {c:Int} (Q:Int→Bool) (hQ:Q c=true) (hPQ:∀ l,P l=true→l.all Q=true):∀ l,(lO c l).all P=true→l.all Q=true
 | [],_=>rfl
 | x::r,h=>by
  have hne:=rH c r
  unfold lO at h
  by_cases hx:x=c
  ·rw [if_pos hx] at h
   simp only [List.all_cons,Bool.and_eq_true] at h
   rw [List.all_cons,hx,hQ,zf Q hQ hPQ r h.2]; rfl
  ·rw [if_neg hx] at h
   cases hs:lO c r with
   | nil=>exact absurd hs hne
   | cons a ps =>
    rw [hs] at h
    simp only [List.all_cons,Bool.and_eq_true] at h
    have h1:=hPQ _ h.1
    simp only [List.all_cons,Bool.and_eq_true] at h1
    have key:∀ (r:List Int) (a:List Int) (ps:List (List Int)),lO c r=a::ps→a.all Q=true→ps.all P=true→r.all Q=true:=by
     intro r
     induction r with
     | nil=>intros; rfl
     | cons y r ih =>
      intro a ps e ha hps
      unfold lO at e
      by_cases hy:y=c
      ·rw [if_pos hy] at e
       cases e
       cases hs2:lO c r with
       | nil=>exact absurd hs2 (rH c r)
       | cons b qs =>
        rw [hs2] at hps
        simp only [List.all_cons,Bool.and_eq_true] at hps
        rw [List.all_cons,hy,hQ,ih b qs hs2 (hPQ _ hps.1) hps.2]; rfl
      ·rw [if_neg hy] at e
       cases hs2:lO c r with
       | nil=>exact absurd hs2 (rH c r)
       | cons b qs =>
        rw [hs2] at e
        cases e
        simp only [List.all_cons,Bool.and_eq_true] at ha
        rw [List.all_cons,ha.1,ih b ps hs2 ha.2 hps]; rfl
    rw [List.all_cons,h1.1,key r a ps hs h1.2 h.2]; rfl
def FQ (c:Int):Bool:=xl c||c==46
theorem CH {l:List Int} (h:ox l=true):l.all FQ=true:=by
 unfold ox at h
 rw [Bool.and_eq_true] at h
 refine zf FQ (by decide) (fun p hp => ?_) l h.2
 rw [ux,Bool.and_eq_true] at hp
 rw [List.all_eq_true] at *
 intro x hx
 unfold FQ
 rw [hp.2 x hx]; rfl
theorem vN (s:JH) (hs:s.size<140737488355328):dG s=some (tD s):=by
 unfold dG
 have hlen:(ak s).length=s.size:=aS s
 refine bo (s:=DM (ak s)) ?_ rfl
 refine bD (fun i=>(((ak s).take i).map jO,(i:Int))) s.size el (by simp) (by unfold el; omega) (fun i hi => ?_) ?_
 ·have hi':i<(ak s).length:=by omega
  have hb:=bM s _ (List.getElem_mem hi')
  have hc:=oU hi
  have w:some (IntKind.i64.wrap ((i:Int)+1))=some ((i+1:Nat):Int):=by rw [kW (by omega)]
  have ap:cr 1 (((ak s).take i).map jO) [jO (ak s)[i]]=some (((ak s).take (i+1)).map jO):=by
   rw [dS (by simp; omega) (by simp; omega),List.take_add_one,List.getElem?_eq_getElem hi']
   simp only [Option.toList_some,List.map_append,List.map_cons,List.map_nil]
  refine aQ (decide_eq_true (by omega)) (aB hc (bo (s:=jO (ak s)[i]) ?_ (aB ap (aB w rfl))))
  by_cases h1:65≤(ak s)[i]∧(ak s)[i]≤90
  ·have e:jO (ak s)[i]=(ak s)[i]+32:=by unfold jO; rw [if_pos h1]
   exact bo (s:=true) (aQ (decide_eq_true h1.1) (by rw [decide_eq_true h1.2])) (aQ rfl (aB (by rw [za (by omega) (by omega)]) (by rw [e])))
  ·have e:jO (ak s)[i]=(ak s)[i]:=by unfold jO; rw [if_neg h1]
   refine bo (s:=false) ?_ (aG rfl (by rw [e]))
   by_cases h2:65≤(ak s)[i]
   ·exact aQ (decide_eq_true h2) (by rw [decide_eq_false fun h3=>h1 ⟨h2,h3⟩])
   ·exact aG (decide_eq_false h2) rfl
 ·refine aG (decide_eq_false (by omega)) ?_
  rw [List.take_of_length_le (by omega)]; rfl
def vo (x:Int):Bool:=decide (32≤x)&&decide (x≤126)
def iu:ah:=ah.mk false (⟨#[]⟩:JH) (⟨#[]⟩:JH)
theorem Cs (l:List Int) (hb:kb l) (hl:l.length≤1000):fv (bC l)=some (l.all vo):=by
 unfold fv
 have hs:(bC l).size=l.length:=dH l
 rw [hs]
 have hloop:=mN (R:=Bool) (f:=fun (s17:Int) =>
   cond ((decide (s17<(l.length:Int))))
    (aE (S:=Bool) (A:=((Int)⊕((Unit)⊕Bool)))
     ((cm (bC l) s17).bind fun v2 =>
     cond ((decide (v2<32)))
      (some (.inl true))
      ((cm (bC l) s17).bind fun v3 =>
      some (.inl ((decide (126<v3))))))
     (fun (s31:Bool) =>
      cond (s31)
       (some (.inr (.inr (false))))
       ((some (IntKind.i64.wrap (s17+1))).bind fun v9 =>
       some (.inl v9))) some)
    (some (.inr (.inl ())))) (fun i=>vo (l.getD i 0)) l.length false (fuel:=el) (by simp only [el]; omega)
  (fun i hi hp=>by
   have hc:cm (bC l) (i:Int)=some (l.getD i 0):=by
    have:=oU (s:=bC l) (i:=i) (by rw [hs]; exact hi)
    rw [this]; congr 1
    have e:=bR hb
    have:(ak (bC l))[i]? = some (l.getD i 0):=by rw [e,List.getElem?_eq_getElem hi,List.getD_eq_getElem?_getD,List.getElem?_eq_getElem hi]; rfl
    rw [List.getElem?_eq_getElem (by rw [e]; exact hi)] at this
    exact Option.some.inj this
   simp only [vo,Bool.and_eq_true,decide_eq_true_eq] at hp
   refine aQ (decide_eq_true (by omega)) (bo (s:=false) (aB hc (aG (decide_eq_false (by omega)) (aB hc (by rw [decide_eq_false (by omega)])))) (aG rfl (aB (aF (by omega) (by omega)) rfl))))
  (fun i hi hp=>by
   have hc:cm (bC l) (i:Int)=some (l.getD i 0):=by
    have:=oU (s:=bC l) (i:=i) (by rw [hs]; exact hi)
    rw [this]; congr 1
    have e:=bR hb
    have:(ak (bC l))[i]? = some (l.getD i 0):=by rw [e,List.getElem?_eq_getElem hi,List.getD_eq_getElem?_getD,List.getElem?_eq_getElem hi]; rfl
    rw [List.getElem?_eq_getElem (by rw [e]; exact hi)] at this
    exact Option.some.inj this
   simp only [vo,Bool.and_eq_false_iff,decide_eq_false_iff_not] at hp
   refine aQ (decide_eq_true (by omega)) (bo (s:=true) (aB hc ?_) rfl)
   by_cases h:l.getD i 0<32
   ·exact aQ (decide_eq_true h) rfl
   ·exact aG (decide_eq_false h) (aB hc (by rw [decide_eq_true (by omega)])))
  (aG (decide_eq_false (by omega)) rfl)
 by_cases h:∀ i,i<l.length→vo (l.getD i 0)=true
 ·rw [if_pos h] at hloop
  have ha:l.all vo=true:=List.all_eq_true.2 fun x hx=>by
   obtain ⟨i,hi,rfl⟩:=List.mem_iff_getElem.1 hx
   have:=h i hi
   rwa [List.getD_eq_getElem?_getD,List.getElem?_eq_getElem hi] at this
  rw [ha]
  exact bo hloop rfl
 ·rw [if_neg h] at hloop
  have ha:l.all vo=false:=by
   cases e:l.all vo with
   | false=>rfl
   | true =>
    exfalso
    refine h fun i hi => ?_
    rw [List.getD_eq_getElem?_getD,List.getElem?_eq_getElem hi]
    exact List.all_eq_true.1 e _ (List.getElem_mem hi)
  rw [ha]
  exact xC hloop rfl
structure la (w:List Int) (kd:Int):Prop where
 len:w.length=4
 pr:w.all vo=true
 no:(32:Int) ∉ w
 kind:(dJ (bC w)).bind (fun _=>fI (bC w))=some kd
 auth:dO (bC (w++[32])) (⟨#[65,85,84,72,32]⟩:JH)=some false
theorem Bl {l:List Int} (h:l.all vo=true):kb l:=fun x hx=>by
 have:=List.all_eq_true.1 h x hx
 simp only [vo,Bool.and_eq_true,decide_eq_true_eq] at this
 omega
theorem rI {w L:List Int} {kd:Int} (hw:la w kd) (hL:kb L):kb (w++32::L):=by
 intro x hx
 rcases List.mem_append.1 hx with h | h
 ·exact Bl hw.pr x h
 ·rcases List.mem_cons.1 h with rfl | h
  ·omega
  ·exact hL x h
theorem rJ {w L:List Int} {kd:Int} (hw:la w kd) (hL:kb L) (hl:L.length≤500):dC (bC (w++32::L)) (⟨#[32]⟩:JH)=some (bC w,bC L,true):=by
 have hlen:=hw.len
 have:=Be (n:=32) (by decide) (bC (w++32::L)) (by rw [dH]; simp; omega)
 rw [bR (rI hw hL)] at this
 have hi:kM ((32:Nat):Int) (w++32::L)=some w.length:=wa hw.no
 rw [hi] at this
 have e1:(w++32::L).take w.length=w:=by simp
 have e2:(w++32::L).drop (w.length+1)=L:=by
  rw [← List.drop_drop]; simp
 simp only [e1,e2] at this
 exact this
theorem xD {w:List Int} {kd:Int} (hw:la w kd):dC (bC w) (⟨#[32]⟩:JH)=some (bC w,(⟨#[]⟩:JH),false):=by
 have hlen:=hw.len
 have:=Be (n:=32) (by decide) (bC w) (by rw [dH]; omega)
 rw [bR (Bl hw.pr)] at this
 have hn:kM ((32:Nat):Int) w=none:=qy.2 hw.no
 rw [hn] at this
 exact this
theorem qi {w L:List Int} {kd:Int} (hw:la w kd) (hL:kb L) (hl:L.length≤500):fI (bC (w++32::L))=some kd:=by
 have h1:=hw.kind
 obtain ⟨f,hf,h2⟩:=bind_some h1
 rw [← h2]
 unfold fI
 rw [rJ hw hL hl,xD hw]
 rfl
theorem Ag {w L:List Int} {kd:Int} (hw:la w kd) (hL:kb L) (hl:L.length≤500):dz (bC (w++32::L))=some false:=by
 have hlen:=hw.len
 unfold dz
 have hsz:(bC (w++32::L)).size=L.length+5:=by rw [dH]; simp; omega
 have hc:fL (bC (w++32::L)) (⟨#[65,85,84,72,32]⟩:JH)=some ((⟨#[]⟩:JH),false):=by
  unfold fL
  have h5:((⟨#[65,85,84,72,32]⟩:JH).size:Int)=((5:Nat):Int):=rfl
  rw [h5,hsz]
  have hs:=sv (s:=bC (w++32::L)) (a:=0) (b:=5) (by omega) (by omega)
  rw [bR (rI hw hL)] at hs
  have e:((w++32::L).drop 0).take (5-0)=w++[32]:=by
   rw [List.drop_zero,List.take_append,List.take_of_length_le (by omega),hlen]; rfl
  rw [e] at hs
  refine bo (s:=true) (aG (decide_eq_false (by omega)) (aB hs (aB hw.auth rfl))) (aQ rfl rfl)
 refine aB hc (bo (s:=true) (aQ rfl rfl) (aQ rfl rfl))
theorem xj {w L:List Int} {kd:Int} (hw:la w kd) (hL:kb L) (hl:L.length≤500) (hkd:kd≠0) (r:Bool)
  (hcmd:dA (bC (w++32::L))=some (br.mk kd (bC L) iu [],r)) :
  eR (bC (w++32::L))=some (if L.all vo=true then (if r=true then (br.mk kd (bC L) iu [],0) else (br.mk 0 (⟨#[]⟩:JH) iu [],501)) else (br.mk 0 (⟨#[]⟩:JH) iu [],500)):=by
 have hlen:=hw.len
 have hsz:(bC (w++32::L)).size=L.length+5:=by rw [dH]; simp; omega
 have hp:=Cs (w++32::L) (rI hw hL) (by simp; omega)
 have ha:(w++32::L).all vo=L.all vo:=by
  rw [List.all_append,hw.pr,List.all_cons]; rfl
 rw [ha] at hp
 unfold eR
 cases hpr:L.all vo with
 | false =>
  rw [hpr] at hp
  rw [if_neg (by simp)]
  exact bo (s:=true) (aG (decide_eq_false (by rw [hsz]; omega)) (aB hp (aQ rfl rfl))) (aQ rfl rfl)
 | true =>
  rw [hpr] at hp
  rw [if_pos rfl]
  refine bo (s:=false) (aG (decide_eq_false (by rw [hsz]; omega)) (aB hp (aG rfl (aB (qi hw hL hl) ?_)))) (aG rfl ?_)
  ·rw [beq_eq_false_iff_ne.2 hkd]
  ·refine aB (Ag hw hL hl) (aG rfl (aB hcmd ?_))
   cases r with
   | false=>exact aQ rfl rfl
   | true=>exact aG rfl rfl
theorem Bw:la [69,84,82,78] 9:=⟨rfl,by decide,by decide,by kernel_rfl,by kernel_rfl⟩
theorem Cf:la [65,84,82,78] 11:=⟨rfl,by decide,by decide,by kernel_rfl,by kernel_rfl⟩
theorem BB {L:List Int} (hL:kb L) (hl:L.length≤500):cw (bC L)=some (ox L):=by
 rw [FG _ (by rw [dH]; omega),bR hL]
theorem DE {L:List Int} (hL:kb L) (hl:L.length≤500):dA (bC ([69,84,82,78]++32::L))=some (br.mk 9 (bC L) iu [],ox L):=by
 unfold dA
 refine aB (rJ Bw hL hl) (aB (qi Bw hL hl) ?_)
 refine bo (s:=false) (aG rfl rfl) (aG rfl ?_)
 exact bo (s:=true) (aG rfl rfl) (aQ rfl (aB (BB hL hl) rfl))
theorem CF {L:List Int} (hL:kb L) (hl:L.length≤500):dA (bC ([65,84,82,78]++32::L))=some (br.mk 11 (bC L) iu [],ox L):=by
 unfold dA
 refine aB (rJ Cf hL hl) (aB (qi Cf hL hl) ?_)
 refine bo (s:=false) (aG rfl rfl) (aG rfl ?_)
 refine bo (s:=false) (aG rfl rfl) (aG rfl (aG rfl (aQ rfl ?_)))
 exact bo (s:=ox L) (aG rfl (aB (BB hL hl) rfl)) rfl
set_option maxRecDepth 100000
theorem If (s:JH) (h:s.size≤100):ce s=some false∨(ce s=some true∧dD s 32=some true):=by
 have hs:=bM s
 let p:Nat→Bool:=fun i=>decide (32≤(ak s).getD i 0)&&decide ((ak s).getD i 0≤126)
 have hc:∀ i,i<s.size→cm s (i:Int)=some ((ak s).getD i 0)∧0≤(ak s).getD i 0∧(ak s).getD i 0<256:=fun i hi=>by
  have hi':i<(ak s).length:=by rw [aS]; exact hi
  have e:(ak s).getD i 0=(ak s)[i]:=by rw [List.getD_eq_getElem?_getD,List.getElem?_eq_getElem hi']; rfl
  rw [e]
  exact ⟨oU hi,hs _ (List.getElem_mem hi')⟩
 have hin:cL (s.size:Int) 0 100=some true:=by
  unfold cL
  exact bo (s:=true) (aQ (decide_eq_true (by omega)) (by rw [decide_eq_true (by omega)])) rfl
 have hv:ce s=some (if ∀ i,i<s.size→p i=true then true else false):=by
  unfold ce ez
  have hloop:=mN (R:=Bool) (f:=fun (s12:Int) =>
    cond ((decide (s12<(s.size:Int))))
     ((cm s s12).bind fun v4 =>
     (some (IntKind.i64.wrap v4)).bind fun v5 =>
     (cL v5 32 126).bind fun v6 =>
     cond ((!v6))
      (some (.inr (.inr (false))))
      ((some (IntKind.i64.wrap (s12+1))).bind fun v8 =>
      some (.inl v8)))
     (some (.inr (.inl ())))) p s.size false (fuel:=el) (by simp only [el]; omega)
   (fun i hi hp=>by
    obtain ⟨h1,h2,h3⟩:=hc i hi
    simp only [p,Bool.and_eq_true,decide_eq_true_eq] at hp
    refine aQ (decide_eq_true (by omega)) (aB h1 (aB (aF (by omega) (by omega)) (aB (x:=true) ?_ (aG rfl (aB (aF (by omega) (by omega)) rfl)))))
    unfold cL
    exact bo (s:=true) (aQ (decide_eq_true hp.1) (by rw [decide_eq_true hp.2])) rfl)
   (fun i hi hp=>by
    obtain ⟨h1,h2,h3⟩:=hc i hi
    simp only [p,Bool.and_eq_false_iff,decide_eq_false_iff_not] at hp
    refine aQ (decide_eq_true (by omega)) (aB h1 (aB (aF (by omega) (by omega)) (aB (x:=false) ?_ (aQ rfl rfl))))
    unfold cL
    by_cases h:32≤(ak s).getD i 0
    ·exact bo (s:=false) (aQ (decide_eq_true h) (by rw [decide_eq_false (by omega)])) rfl
    ·exact bo (s:=false) (aG (decide_eq_false h) rfl) rfl)
   (aG (decide_eq_false (by omega)) rfl)
  by_cases h:∀ i,i<s.size→p i=true
  ·rw [if_pos h] at hloop ⊢
   exact aB (aB hin (aG rfl (bo hloop rfl))) rfl
  ·rw [if_neg h] at hloop ⊢
   exact aB (aB hin (aG rfl (xC hloop rfl))) rfl
 by_cases hall:∀ i,i<s.size→p i=true
 ·rw [if_pos hall] at hv
  refine .inr ⟨hv,?_⟩
  unfold dD
  refine bo (s:=()) (bD (fun i=>(i:Int)) s.size _ rfl (by simp only [el]; omega) (fun i hi => ?_) (aG (decide_eq_false (by omega)) rfl)) rfl
  have hp:=hall i hi
  obtain ⟨h1,h2,h3⟩:=hc i hi
  simp only [p,Bool.and_eq_true,decide_eq_true_eq] at hp
  exact aQ (decide_eq_true (by omega)) (bo (s:=false) (aB h1 (aG (decide_eq_false (by omega)) (aB h1 (by rw [decide_eq_false (by omega)])))) (aG rfl (aB (aF (by omega) (by omega)) rfl)))
 ·rw [if_neg hall] at hv
  exact .inl hv
def pO (code:Int):aA:=aA.mk (qK code).JC false (bf.mk zP [] [] false (⟨#[]⟩:JH) 0) (code==250)
theorem CA {i t:Int} {g:aI} {o:List aA} {code:Int} (hc:code≠334) (ho:o.length<100000):cB (SG i t g o) code=some (SG i t g (o++[pO code])):=by
 have h:=sJ (i:=i) (t:=t) (g:=g) (o:=o) hc ho
 unfold aT at h
 obtain ⟨r,hr,h2⟩:=bind_some h
 have e:r=(qK code).JC:=by
  obtain ⟨m,hm,h3⟩:=bind_some h2
  have h4:m=o++[aA.mk r false (bf.mk zP [] [] false (⟨#[]⟩:JH) 0) false]:=Option.some.inj (hm.symm.trans (dS (by simp; omega) (by simp; omega)))
  have h5:m=o++[qK code]:=congrArg (fun s:aa=>s.out) (Option.some.inj h3)
  have h6:=h4.symm.trans h5
  have h7:=(List.append_inj_right h6 rfl)
  exact congrArg aA.JC (List.cons.inj h7).1
 subst e
 unfold cB
 exact aB hr (aB (dS (by simp; omega) (by simp; omega)) rfl)
theorem EF {c:Int} (h:FQ c=true):vo c=true∧c≠13∧c≠10:=by
 unfold FQ at h
 unfold vo
 simp only [Bool.or_eq_true,beq_iff_eq] at h
 have:45≤c∧c≤122:=by
  rcases h with h | h
  ·by_cases h1:45≤c∧c≤122
   ·exact h1
   ·exfalso
    unfold xl at h
    simp only [Bool.or_eq_true,Bool.and_eq_true,decide_eq_true_eq,beq_iff_eq,HL] at h
    omega
  ·subst h; decide
 refine ⟨?_,by omega,by omega⟩
 simp only [Bool.and_eq_true,decide_eq_true_eq]; omega
def pH (i:Int):JH:=if i=0 then (⟨#[98]⟩:JH) else (⟨#[97]⟩:JH)
theorem yZ (i:Int):tD (pH i)=pH i∧(pH i).size<10:=by
 unfold pH
 split
 ·exact ⟨by kernel_rfl,by decide⟩
 ·exact ⟨by kernel_rfl,by decide⟩
theorem yR {i:Int} (hi:i=0∨i=1):∃ k,some (IntKind.i64.wrap (1-i))=some ((k:Nat):Int)∧k<2∧bF [(⟨#[97]⟩:JH),(⟨#[98]⟩:JH)] k=some (pH i):=by
 rcases hi with rfl | rfl
 ·exact ⟨1,rfl,by decide,rfl⟩
 ·exact ⟨0,rfl,by decide,rfl⟩
theorem wC {i t:Int} (hi:i=0∨i=1) {g:aI} {o:List aA} {d:JH} (hs:d.size≤200):cy (SG i t g o) d=some (decide (tD d=pH i),SG i t g o):=by
 obtain ⟨k,h1,h2,h3⟩:=yR hi
 obtain ⟨h4,h5⟩:=yZ i
 unfold cy
 refine aB h1 (aB (bN h2) (aB h3 (aB (x:=decide (tD d=pH i)) ?_ rfl)))
 unfold fA
 refine aB (yg d (by omega)) (aB (yg (pH i) (by omega)) ?_)
 rw [h4,iP]
section
variable {d:JH} (hd:ox (ak d)=true) (hs:d.size≤200)
include hd hs
theorem nC:(ak d).all vo=true∧Fi (ak d)∧(d.toList==(⟨#[]⟩:JH).toList)=false:=by
 have hall:∀ x∈ak d,FQ x=true:=fun x hx=>List.all_eq_true.1 (CH hd) x hx
 refine ⟨List.all_eq_true.2 fun x hx=>(EF (hall x hx)).1,fun x hx=>(EF (hall x hx)).2,?_⟩
 rw [iP]
 refine decide_eq_false fun e => ?_
 subst e
 revert hd; decide
theorem yF {w:List Int} {kd:Int} (hw:la w kd) (hk:kd≠0) (hcmd:dA (bC (w++32::ak d))=some (br.mk kd (bC (ak d)) iu [],ox (ak d))):eR (bC (w++32::ak d))=some (br.mk kd d iu [],0):=by
 have hl:(ak d).length≤500:=by rw [aS]; omega
 rw [xj hw (bM d) hl hk _ hcmd,if_pos (nC hd hs).1,if_pos hd,jh]
theorem BW:eR (bC ([69,84,82,78]++32::ak d))=some (br.mk 9 d iu [],0) :=
 yF hd hs Bw (by decide) (DE (bM d) (by rw [aS]; omega))
theorem Cn:eR (bC ([65,84,82,78]++32::ak d))=some (br.mk 11 d iu [],0) :=
 yF hd hs Cf (by decide) (CF (bM d) (by rw [aS]; omega))
theorem zJ {i t:Int} (hi:i=0∨i=1) {g:aI} {o:List aA} (h1:g.Jz=1) (ho:o.length<100000) (b:Bool) (hb:b=decide (tD d=pH i)) :
  bc (SG i t g o) (bC ([69,84,82,78]++32::ak d))=some (SG i t g (o++[pO (cond b 250 459)])):=by
 have he:dX (SG i t g o) (br.mk 9 d iu [])=some (cond b 250 459,SG i t g o):=by
  unfold dX
  refine aG (by show (g.Jz != 1)=false; rw [h1]; rfl) (aB (wC hi hs) ?_)
  rw [← hb]
  cases b
  ·exact aQ rfl rfl
  ·exact aG rfl rfl
 have hc:bK (SG i t g o) (br.mk 9 d iu [])=some (SG i t g (o++[pO (cond b 250 459)])):=by
  have hne:(cond b 250 459:Int)≠334:=by cases b <;> decide
  unfold bK
  exact bo (s:=tG i t (g,o++[pO (cond b 250 459)])) (aG rfl (aG rfl (aG rfl (aG rfl (aG rfl (aG rfl (aG rfl (aG rfl (aQ rfl (aB he (aB (CA (g:=g) hne ho) rfl))))))))))) rfl
 unfold bc
 exact bo (s:=tG i t (g,o++[pO (cond b 250 459)])) (aG (by show (g.Jz==6)=false; rw [h1]; rfl) (aG (by show (g.Jz==5)=false; rw [h1]; rfl) (aB (BW hd hs) (aG rfl (aB hc rfl))))) rfl
theorem Ac {i t:Int} (hi:i=0∨i=1) {g:aI} {o:List aA} (h1:g.Jz=1) (ho:o.length<100000) (b p:Bool) (hp:g.JA=p) (hb:b=decide (tD d=pH i)) :
  bc (SG i t g o) (bC ([65,84,82,78]++32::ak d))=some (SG i t (qW g (cond p (cond b 6 1) 1) p) (o++[pO (cond p (cond b 250 450) 530)])):=by
 have he:ef (SG i t g o) (br.mk 11 d iu [])=some (cond p (cond b 250 450) 530,SG i t (qW g (cond p (cond b 6 1) 1) p) o):=by
  unfold ef
  refine aG (by show (g.Jz != 1)=false; rw [h1]; rfl) ?_
  have eg:qW g 1 p=g:=by rw [← h1,← hp]
  cases p
  ·refine aQ (by show (!g.JA)=true; rw [hp]; rfl) ?_
   show some ((530:Int),SG i t g o)=some (530,SG i t (qW g 1 false) o)
   rw [eg]
  ·refine aG (by show (!g.JA)=false; rw [hp]; rfl) ?_
   refine bo (s:=(g.Jz,g.Jm,g.Ji.Ju,g.Ji.Jq,g.Ji.Jf,g.To,g.JB,g.Jc,g.Jd,g.JA,(⟨#[97]⟩:JH),(⟨#[98]⟩:JH),9,(⟨#[117]⟩:JH),(⟨#[115]⟩:JH),9000,false,i,t,o,!b)) (aQ (by show (!(d.toList==(⟨#[]⟩:JH).toList))=true; rw [(nC hd hs).2.2]; rfl) (aB (wC hi hs) ?_)) ?_
   ·rw [← hb]; rfl
   ·cases b
    ·refine aQ rfl ?_
     show some ((450:Int),SG i t g o)=some (450,SG i t (qW g 1 true) o)
     rw [eg]
    ·refine aG rfl ?_
     show some ((250:Int),SG i t (qW g 6 g.JA) o)=some (250,SG i t (qW g 6 true) o)
     rw [hp]
 have hc:bK (SG i t g o) (br.mk 11 d iu [])=some (SG i t (qW g (cond p (cond b 6 1) 1) p) (o++[pO (cond p (cond b 250 450) 530)])):=by
  have hne:(cond p (cond b 250 450) 530:Int)≠334:=by cases p <;> cases b <;> decide
  unfold bK
  exact bo (s:=tG i t (qW g (cond p (cond b 6 1) 1) p,o++[pO (cond p (cond b 250 450) 530)])) (aG rfl (aG rfl (aG rfl (aG rfl (aG rfl (aG rfl (aG rfl (aG rfl (aG rfl (aG rfl (aQ rfl (aB he (aB (CA (g:=qW g (cond p (cond b 6 1) 1) p) hne ho) rfl))))))))))))) rfl
 unfold bc
 exact bo (s:=tG i t (qW g (cond p (cond b 6 1) 1) p,o++[pO (cond p (cond b 250 450) 530)])) (aG (by show (g.Jz==6)=false; rw [h1]; rfl) (aG (by show (g.Jz==5)=false; rw [h1]; rfl) (aB (Cn hd hs) (aG rfl (aB hc rfl))))) rfl
end
set_option maxRecDepth 100000
theorem Er {n:Nat} (h:Nat.ble (n+1) 100000=true):n<100000:=Nat.le_of_ble_eq_true h
theorem IJ {n:Nat} (h:Nat.ble (n+1) 1000000=true):n<1000000:=Nat.le_of_ble_eq_true h
abbrev gA (k:Int) (ch:JH) (p:Bool):aI:=aI.mk k (⟨#[104]⟩:JH) zP [] false [] ch p
abbrev Gs (ch:JH):aI:=aI.mk 0 (⟨#[]⟩:JH) zP [] false [] ch false
theorem w1 (i:Int) (ch:JH):bc (SG i 5 (Gs ch) []) (bC [69,72,76,79,32,104])=some (SG i 5 (gA 1 ch false) [qK 250]):=by kernel_rfl
theorem w2 (i:Int) (ch:JH):bc (SG i 5 (gA 1 ch false) [qK 250]) (bC [65,84,82,78])=some (SG i 5 (gA 1 ch false) [qK 250,pO 530]):=by kernel_rfl
def qZ:List Int:=[69,72,76,79,32,104,13,10,65,84,82,78,13,10,65,85,84,72,32,67,82,65,77,45,77,68,53,13,10]
def tt:List Int:=[13,10,65,84,82,78,32]
def vF:List Int:=[69,72,76,79,32,104,13,10,69,84,82,78,32]
theorem eP (A D:List Int):(((qZ++A)++tt)++D)++[13,10]=[69,72,76,79,32,104]++[13,10]++([65,84,82,78]++[13,10]++(GY++[13,10]++(A++[13,10]++(([65,84,82,78]++32::D)++[13,10])))):=by
 rw [List.append_assoc,List.append_assoc,List.append_assoc,List.append_assoc A]; rfl
theorem eE (D:List Int):(vF++D)++[13,10]=[69,72,76,79,32,104]++[13,10]++(([69,84,82,78]++32::D)++[13,10]):=by
 rw [List.append_assoc]; rfl
section
variable {i:Int} (hi:i=0∨i=1) {ch d:JH} (hs:ch.size≤100) (hv:dD ch 32=some true) (hd:ox (ak d)=true) (hz:d.size≤200) (b:Bool) (hb:b=decide (tD d=pH i))
include hi hs hv hd hz hb
theorem xI {a:JH} (ha:Fi (ak a)) (haz:a.size≤300) (p:Bool) (hp:p=decide (a=Am ch)) :
  ∃ x,eZ Dq i 5 (Gs ch) ((((qZ++ak a)++tt)++ak d)++[13,10])=some (gA (cond p (cond b 6 1) 1) ch p,[qK 250,pO 530,rX x,qK (cond p 235 535),pO (cond p (cond b 250 450) 530)],0):=by
 obtain ⟨x,hx⟩:=EK hs
 obtain ⟨q,hq,hval⟩:=tP hs
 obtain rfl:q=true:=Option.some.inj (hq.symm.trans hv)
 obtain ⟨hd1,hd2,_⟩:=nC hd hz
 have f1:=lf (i:=i) (t:=5) [69,72,76,79,32,104] GV rfl rfl (w1 i ch) rfl
 have f2:=lf (i:=i) (t:=5) [65,84,82,78] Hb rfl rfl (w2 i ch) rfl
 have f3:=lf (i:=i) (t:=5) GY Hb rfl rfl (Aa (g:=gA 1 ch false) (o:=[qK 250,pO 530]) rfl rfl hx (Er rfl)) rfl
 have h4:=BJ (i:=i) (t:=5) (g:=gA 5 ch false) (o:=[qK 250,pO 530,rX x]) (s:=bC (ak a)) rfl rfl hs p (by rw [jh]; exact hp) (Er rfl)
 have f4:=rA (i:=i) (t:=5) (L:=ak a) (g:=gA 5 ch false) (by decide:(5:Int)≠4) rfl (bM _) ha (by rw [aS]; omega) h4 rfl
 have h5:=Ac hd hz (t:=5) hi (g:=gA 1 ch p) (o:=[qK 250,pO 530,rX x,qK (cond p 235 535)]) rfl (Er rfl) b p rfl hb
 have hL:kb ([65,84,82,78]++32::ak d):=gr (nN _ rfl) (gr (l:=[32]) (nN _ rfl) (bM d))
 have hC:Fi ([65,84,82,78]++32::ak d):=fun y hy=>by
  rcases List.mem_append.1 hy with hy | hy
  ·exact EV [65,84,82,78] rfl y hy
  ·rcases List.mem_cons.1 hy with rfl | hy
   ·decide
   ·exact hd2 y hy
 have hlen:([65,84,82,78]++32::ak d).length=5+d.size:=by have:=aS d; simp only [List.length_append,List.length_cons,List.length_nil]; omega
 have f5:=rA (i:=i) (t:=5) (L:=[65,84,82,78]++32::ak d) (g:=gA 1 ch p) Hb rfl hL hC (by omega) h5 rfl
 have hl:((((qZ++ak a)++tt)++ak d)++[13,10]).length<1000000:=by
  rw [List.length_append,List.length_append,List.length_append,List.length_append,aS,aS]; show 29+a.size+7+d.size+2<1000000; omega
 refine ⟨x,?_⟩
 have hf:=f1.app (f2.app (f3.app (f4.app f5)))
 rw [← eP] at hf
 exact yU (r:=(gA (cond p (cond b 6 1) 1) ch p,[qK 250,pO 530,rX x,qK (cond p 235 535),pO (cond p (cond b 250 450) 530)])) hf GV rfl (by decide) (by decide) hi (by decide) (hval _ (Int.natCast_nonneg _) (Int.ofNat_le.2 (Nat.le_of_ble_eq_true rfl)) rfl) hl (Er rfl) ⟨Er rfl,IJ rfl⟩
theorem zL:eZ Dq i 5 (Gs ch) ((vF++ak d)++[13,10])=some (gA 1 ch false,[qK 250,pO (cond b 250 459)],0):=by
 obtain ⟨q,hq,hval⟩:=tP hs
 obtain rfl:q=true:=Option.some.inj (hq.symm.trans hv)
 obtain ⟨hd1,hd2,_⟩:=nC hd hz
 have f1:=lf (i:=i) (t:=5) [69,72,76,79,32,104] GV rfl rfl (w1 i ch) rfl
 have h5:=zJ hd hz (t:=5) hi (g:=gA 1 ch false) (o:=[qK 250]) rfl (Er rfl) b hb
 have hL:kb ([69,84,82,78]++32::ak d):=gr (nN _ rfl) (gr (l:=[32]) (nN _ rfl) (bM d))
 have hC:Fi ([69,84,82,78]++32::ak d):=fun y hy=>by
  rcases List.mem_append.1 hy with hy | hy
  ·exact EV [69,84,82,78] rfl y hy
  ·rcases List.mem_cons.1 hy with rfl | hy
   ·decide
   ·exact hd2 y hy
 have hlen:([69,84,82,78]++32::ak d).length=5+d.size:=by have:=aS d; simp only [List.length_append,List.length_cons,List.length_nil]; omega
 have f5:=rA (i:=i) (t:=5) (L:=[69,84,82,78]++32::ak d) (g:=gA 1 ch false) Hb rfl hL hC (by omega) h5 rfl
 have hl:((vF++ak d)++[13,10]).length<1000000:=by
  rw [List.length_append,List.length_append,aS]; show 13+d.size+2<1000000; omega
 have hf:=f1.app f5
 rw [← eE] at hf
 exact yU (r:=(gA 1 ch false,[qK 250,pO (cond b 250 459)])) hf GV rfl (by decide) (by decide) hi (by decide) (hval _ (Int.natCast_nonneg _) (Int.ofNat_le.2 (Nat.le_of_ble_eq_true rfl)) rfl) hl (Er rfl) ⟨Er rfl,IJ rfl⟩
end
set_option maxRecDepth 100000
theorem Cq (a:JH) (hs:a.size≤300) :
  ∃ r,bB (S:=(Int)) (O:=(Unit)⊕Bool) (fun (s24:Int) =>
     cond ((decide (s24<(a.size:Int))))
      (aE (S:=Bool) (A:=((Int)⊕((Unit)⊕Bool)))
       ((cm a s24).bind fun v9 =>
       cond ((v9==13))
        (some (.inl true))
        ((cm a s24).bind fun v10 =>
        some (.inl (v10==10))))
       (fun (s38:Bool) =>
        cond (s38)
         (some (.inr (.inr (true))))
         ((some (IntKind.i64.wrap (s24+1))).bind fun v16 =>
         some (.inl v16))) some)
      (some (.inr (.inl ())))) el 0=some r∧(r = .inr true∨(r = .inl ()∧Fi (ak a))):=by
 let p:Nat→Bool:=fun i => !((ak a).getD i 0==13||(ak a).getD i 0==10)
 have hc:∀ i,i<a.size→cm a (i:Int)=some ((ak a).getD i 0):=fun i hi=>by
  rw [oU hi,List.getD_eq_getElem?_getD,List.getElem?_eq_getElem (by rw [aS]; exact hi)]; rfl
 have hloop:=mN (R:=Bool) (f:=(fun (s24:Int) =>
     cond ((decide (s24<(a.size:Int))))
      (aE (S:=Bool) (A:=((Int)⊕((Unit)⊕Bool)))
       ((cm a s24).bind fun v9 =>
       cond ((v9==13))
        (some (.inl true))
        ((cm a s24).bind fun v10 =>
        some (.inl (v10==10))))
       (fun (s38:Bool) =>
        cond (s38)
         (some (.inr (.inr (true))))
         ((some (IntKind.i64.wrap (s24+1))).bind fun v16 =>
         some (.inl v16))) some)
      (some (.inr (.inl ()))))) p a.size true (fuel:=el) (by simp only [el]; omega)
  (fun i hi hp=>by
   simp only [p,Bool.not_eq_true',Bool.or_eq_false_iff] at hp
   exact aQ (decide_eq_true (by omega)) (bo (s:=false) (aB (hc i hi) (aG hp.1 (aB (hc i hi) (by rw [hp.2])))) (aG rfl (aB (aF (by omega) (by omega)) rfl))))
  (fun i hi hp=>by
   simp only [p,Bool.not_eq_false',Bool.or_eq_true] at hp
   refine aQ (decide_eq_true (by omega)) (bo (s:=true) (aB (hc i hi) ?_) rfl)
   cases h13:(ak a).getD i 0==13
   ·exact aG rfl (aB (hc i hi) (by rw [hp.resolve_left (by rw [h13]; decide)]))
   ·exact aQ rfl rfl)
  (aG (decide_eq_false (by omega)) rfl)
 by_cases h:∀ i,i<a.size→p i=true
 ·rw [if_pos h] at hloop
  refine ⟨_,hloop,.inr ⟨rfl,fun x hx => ?_⟩⟩
  obtain ⟨i,hi,rfl⟩:=List.getElem_of_mem hx
  have:=h i (by rw [aS] at hi; exact hi)
  simp only [p,Bool.not_eq_true',Bool.or_eq_false_iff,beq_eq_false_iff_ne] at this
  rw [List.getD_eq_getElem?_getD,List.getElem?_eq_getElem hi] at this
  exact this
 ·rw [if_neg h] at hloop
  exact ⟨_,hloop,.inl rfl⟩
theorem ri (i:Int) (ch a d:JH):dB i ch a d=some true:=by
 unfold dB
 by_cases h1:100<(ch.size:Int)
 ·exact bo (s:=true) (aQ (decide_eq_true h1) rfl) (aQ rfl rfl)
 by_cases h2:300<(a.size:Int)
 ·exact bo (s:=true) (aG (decide_eq_false h1) (aQ (decide_eq_true h2) rfl)) (aQ rfl rfl)
 by_cases h3:200<(d.size:Int)
 ·exact bo (s:=true) (aG (decide_eq_false h1) (aG (decide_eq_false h2) (aQ (decide_eq_true h3) rfl))) (aQ rfl rfl)
 have hs:ch.size≤100:=by omega
 have ha:a.size≤300:=by omega
 have hz:d.size≤200:=by omega
 rcases If ch hs with hc | ⟨hc,hv⟩
 ·exact bo (s:=true) (aG (decide_eq_false h1) (aG (decide_eq_false h2) (aG (decide_eq_false h3) (aB hc (aQ rfl rfl))))) (aQ rfl rfl)
 refine bo (s := !ox (ak d)) (aG (decide_eq_false h1) (aG (decide_eq_false h2) (aG (decide_eq_false h3) (aB hc (aG rfl (aB (CE d) rfl)))))) ?_
 cases hd:ox (ak d) with
 | false=>exact aQ rfl rfl
 | true =>
 refine aG rfl ?_
 obtain ⟨_,hl,rfl | ⟨rfl,hcl⟩⟩:=Cq a ha
 ·exact xC (a:=true) hl rfl
 refine bo (s:=()) hl ?_
 obtain ⟨_,q,hq,hr⟩:=GR i 2 (by decide) (by decide)
 have hi:(q:Int)=0∨(q:Int)=1:=by omega
 obtain ⟨k,k1,k2,k3⟩:=yR hi
 obtain ⟨o1,o2⟩:=yZ (q:Int)
 obtain ⟨b,hb⟩:∃ b,b=decide (tD d=pH (q:Int)):=⟨_,rfl⟩
 obtain ⟨p,hp⟩:∃ p,p=decide (a=Am ch):=⟨_,rfl⟩
 obtain ⟨x,hf⟩:=xI hi hs hv hd hz b hb hcl ha p hp
 have hf2:=zL hi hs hv hd hz b hb
 have hra:=CO hs
 generalize Am ch=A at hra hp
 have c1:=pa (s:=(⟨#[69,72,76,79,32,104,13,10,65,84,82,78,13,10,65,85,84,72,32,67,82,65,77,45,77,68,53,13,10]⟩:JH)) (t:=a) (by show 29+a.size≤_; omega)
 have s1:ak (⟨#[69,72,76,79,32,104,13,10,65,84,82,78,13,10,65,85,84,72,32,67,82,65,77,45,77,68,53,13,10]⟩:JH)=qZ:=rfl
 rw [s1] at c1
 have b1:kb (qZ++ak a):=gr (nN _ rfl) (bM _)
 have c2:=pa (s:=bC (qZ++ak a)) (t:=(⟨#[13,10,65,84,82,78,32]⟩:JH)) (by rw [dH,List.length_append,aS]; show 29+a.size+7≤_; omega)
 have s2:ak (⟨#[13,10,65,84,82,78,32]⟩:JH)=tt:=rfl
 rw [bR b1,s2] at c2
 have b2:kb ((qZ++ak a)++tt):=gr b1 (nN _ rfl)
 have c3:=pa (s:=bC ((qZ++ak a)++tt)) (t:=d) (by rw [dH,List.length_append,List.length_append,aS]; show 29+a.size+7+d.size≤_; omega)
 rw [bR b2] at c3
 have b3:kb (((qZ++ak a)++tt)++ak d):=gr b2 (bM _)
 have c4:=pa (s:=bC (((qZ++ak a)++tt)++ak d)) (t:=(⟨#[13,10]⟩:JH)) (by rw [dH,List.length_append,List.length_append,List.length_append,aS,aS]; show 29+a.size+7+d.size+2≤_; omega)
 have s4:ak (⟨#[13,10]⟩:JH)=[13,10]:=rfl
 rw [bR b3,s4] at c4
 have c5:ak (bC ((((qZ++ak a)++tt)++ak d)++[13,10]))=(((qZ++ak a)++tt)++ak d)++[13,10]:=bR (gr b3 (nN _ rfl))
 have e1:=pa (s:=(⟨#[69,72,76,79,32,104,13,10,69,84,82,78,32]⟩:JH)) (t:=d) (by show 13+d.size≤_; omega)
 have t1:ak (⟨#[69,72,76,79,32,104,13,10,69,84,82,78,32]⟩:JH)=vF:=rfl
 rw [t1] at e1
 have b4:kb (vF++ak d):=gr (nN _ rfl) (bM _)
 have e2:=pa (s:=bC (vF++ak d)) (t:=(⟨#[13,10]⟩:JH)) (by rw [dH,List.length_append,aS]; show 13+d.size+2≤_; omega)
 rw [bR b4,s4] at e2
 have e3:ak (bC ((vF++ak d)++[13,10]))=(vF++ak d)++[13,10]:=bR (gr b4 (nN _ rfl))
 refine aB rfl (aB hr (aB (aF (by omega) (by omega)) (aB hra (aB (x:=Dq) rfl (aB k1 (aB (bN k2) (aB k3 (aB (x:=Dq) rfl (aB (x:=Gs ch) rfl (aB c1 (aB c2 (aB c3 (aB c4 (aB (congrArg some c5) (aB hf (aB (x:=Dq) rfl (aB (x:=Gs ch) rfl (aB e1 (aB e2 (aB (congrArg some e3) (aB hf2 ?_)))))))))))))))))))))
 refine bo (s:=false) (aG rfl (aG rfl (aG rfl (aG rfl (aB (x:=1) rfl (aB (x:=pO 530) rfl (aG rfl (aB (x:=1) rfl (aB (x:=pO 530) rfl (aG rfl (aB (x:=2) rfl (aB (x:=rX x) rfl rfl)))))))))))) (aG rfl (aB (vN d (by omega)) (aB (vN (pH (q:Int)) (by omega)) ?_)))
 rw [o1]
 have hAA:(a.toList==A.toList)=p:=by rw [iP,hp]
 have hDD:((tD d).toList==(pH (q:Int)).toList)=b:=by rw [iP,hb]
 rw [hAA,hDD]
 refine bo (s:=(cond p 235 535,cond p (cond b 250 450) 530)) ?_ (bo (s:=cond b 250 459) ?_ (bo (s:=true) (aB (x:=3) rfl (aB (x:=qK (cond p 235 535)) rfl (aQ (beq_self_eq_true _) (aB (x:=4) rfl (aB (x:=pO (cond p (cond b 250 450) 530)) rfl (aQ (beq_self_eq_true _) (aB (x:=4) rfl (aB (x:=pO (cond p (cond b 250 450) 530)) rfl ?_)))))))) rfl))
 ·cases p <;> cases b <;> rfl
 ·cases b <;> rfl
 ·cases p
  ·exact aG rfl (aB rfl (aQ rfl (aB (x:=1) rfl (aB (x:=pO (cond b 250 459)) rfl (aQ (beq_self_eq_true _) (aB (x:=1) rfl (aB (x:=pO (cond b 250 459)) rfl (by cases b <;> exact aB rfl (aQ rfl (aB uZ rfl))))))))))
  ·refine aQ rfl ?_
   cases b
   ·exact aB rfl (aQ rfl (aB (x:=1) rfl (aB (x:=pO 459) rfl (aQ rfl (aB (x:=1) rfl (aB (x:=pO 459) rfl (aB rfl (aQ rfl (aB uZ rfl)))))))))
   ·exact aB rfl (aQ rfl (aB (x:=1) rfl (aB (x:=pO 250) rfl (aQ rfl (aB (x:=1) rfl (aB (x:=pO 250) rfl (aB rfl (aQ rfl (aB uZ rfl)))))))))
end Go.Abs.Sh
