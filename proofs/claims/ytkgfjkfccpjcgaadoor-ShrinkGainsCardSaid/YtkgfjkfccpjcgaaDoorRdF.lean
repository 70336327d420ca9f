import Derived.Test.YtkgfjkfccpjcgaaDoorShkP
import Derived.KernelRfl
import Derived.Test.YtkgfjkfccpjcgaaDoorShkD
import Derived.Test.YtkgfjkfccpjcgaaDoorShkH
namespace Go.Abs.Sh
set_option linter.unusedVariables false
set_option linter.unusedSimpArgs false
set_option maxRecDepth 10000
theorem wrap_u64n {n:Int} (h0:0≤n) (h1:n<18446744073709551616):IntKind.u64.wrap n=n:=by
 simp only [IntKind.wrap,IntKind.bits,IntKind.signed]
 have e:(2:Int) ^ 64=18446744073709551616:=by decide
 simp only [e,Bool.false_and,Bool.false_eq_true,if_false]
 omega
def b2n (b:Bool):Nat:=if b then 1 else 0
theorem bitC_val {B:List Int} (hB:isB B) {q:Nat} (hq:q / 8<B.length):B[q / 8].toNat / 2 ^ (q % 8) % 2=b2n (bitC B q):=by
 have:bitC B q=B[q / 8].toNat.testBit (q % 8):=by simp [bitC,List.getD_eq_getElem?_getD,hq]
 rw [this,b2n,Nat.testBit_eq_decide_div_mod_eq]
 have:=Nat.mod_two_eq_zero_or_one (B[q / 8].toNat / 2 ^ (q % 8))
 rcases this with h | h <;> simp [h]
theorem bit_eqb {B:List Int} (hB:isB B) (hl:B.length≤10000) {q:Nat} (hq:q<8 * B.length):wherryref01_bit B (q:Int)=some ((b2n (bitC B q):Nat):Int):=by
 unfold wherryref01_bit
 have q8:=quo_nat q 8 (by omega) (by omega)
 have r8:=rem_nat q 8 (by omega)
 rw [show ((8:Nat):Int)=8 from rfl] at q8 r8
 have hlt:q / 8<B.length:=by omega
 have hx:=hB _ (List.getElem_mem hlt)
 have hv:=bitC_val hB hlt
 obtain ⟨x,hxe⟩:∃ x:Nat,B[q / 8]=(x:Int):=⟨B[q / 8].toNat,by omega⟩
 rw [hxe,Int.toNat_natCast] at hv
 have hm:q % 8<8:=Nat.mod_lt _ (by omega)
 have sh:=shr_nat .u8 x (q % 8) (by simp only [IntKind.bits]; omega)
 have hle:x / 2 ^ (q % 8)≤x:=Nat.div_le_self _ _
 generalize hy:x / 2 ^ (q % 8)=y at *
 have w1:IntKind.u64.wrap ((q % 8:Nat):Int)=((q % 8:Nat):Int):=wrap_u64n (by omega) (by omega)
 have w2:IntKind.i64.wrap (y:Int)=(y:Int):=wrap_i64 (by omega) (by omega)
 have a1:=and1_i64 y (by omega)
 exact bnd q8 (bnd (ixO_of hlt) (bnd (x:=(x:Int)) (by rw [getO_of hlt,hxe]) (bnd r8 (bnd (x:=((q % 8:Nat):Int)) (by rw [w1]) (bnd sh (bnd (x:=(y:Int)) (by rw [w2]) (bnd (x:=((b2n (bitC B q):Nat):Int)) (by rw [a1,hv]) rfl)))))))
def rgetS (b:List Int) (at_ n:Int):((Int×Int))→Option ((Int×Int)⊕((Int)⊕(Int×Int×Int))):=(fun ((s22,s23):Int×Int) =>
     cond ((decide (s23<n)))
      ((some (IntKind.i64.wrap (at_+s23))).bind fun v13 =>
      (wherryref01_bit b v13).bind fun v14 =>
      (some (IntKind.u64.wrap s23)).bind fun v15 =>
      (shlO .i64 v14 v15).bind fun v16 =>
      (some (bits .or .i64 s22 v16)).bind fun v17 =>
      (some (IntKind.i64.wrap (s23+1))).bind fun v18 =>
      some (.inl (v17,v18)))
      (some (.inr (.inl s22))))
theorem or_i64n (a b:Nat) (ha:a<4294967296) (hb:b<4294967296):bits .or .i64 (a:Int) (b:Int)=((a ||| b:Nat):Int):=by
 have hx:a ||| b<2 ^ 32:=Nat.or_lt_two_pow (by omega) (by omega)
 show IntKind.i64.wrap ((BitVec.ofInt 64 (a:Int) ||| BitVec.ofInt 64 (b:Int)).toNat:Int)=_
 rw [BitVec.toNat_or,ofInt64 a (by omega),ofInt64 b (by omega),wrap_i64 (by omega) (by omega)]
theorem b2n_lt (b:Bool):b2n b<2:=by cases b <;> decide
theorem b2n_shift (b:Bool) (m j:Nat):(b2n b * 2 ^ m).testBit j=(decide (j=m)&&b):=by
 rw [Nat.mul_comm,Nat.testBit_two_pow_mul]
 cases b
 ·simp [b2n]
 ·by_cases h:j=m
  ·subst h; simp [b2n]
  ·by_cases h2:m≤j
   ·have:(1:Nat).testBit (j-m)=false:=Nat.testBit_lt_two_pow (Nat.lt_of_lt_of_le (show 1<2 ^ 1 by decide) (Nat.pow_le_pow_right (by omega) (by omega)))
    simp [b2n,this,h]
   ·simp [h,h2]
theorem rget_loop (b:List Int) (hb:isB b) (hl:b.length≤10000) (at_ n:Nat) (hn:n≤24) (hat:at_+n≤8 * b.length):∀ (k fuel i v:Nat),n-i=k→i≤n→k<fuel→v<2 ^ i→(∀ q,v.testBit q=(decide (q<i)&&bitC b (at_+q))) →
  ∃ v':Nat,loopF (rgetS b (at_:Int) (n:Int)) fuel ((v:Int),(i:Int))=some (.inl (v':Int))∧v'<2 ^ n∧∀ q,v'.testBit q=(decide (q<n)&&bitC b (at_+q)):=by
 intro k
 induction k with
 | zero =>
  intro fuel i v hk hi hf hv hbits
  obtain ⟨f,rfl⟩:∃ f,fuel=f+1:=⟨fuel-1,by omega⟩
  have e:i=n:=by omega
  subst e
  refine ⟨v,loop_exit ?_,hv,hbits⟩
  unfold rgetS
  exact cnd_f (by simp) rfl
 | succ k ih =>
  intro fuel i v hk hi hf hv hbits
  obtain ⟨f,rfl⟩:∃ f,fuel=f+1:=⟨fuel-1,by omega⟩
  have w:IntKind.i64.wrap ((at_:Int)+(i:Int))=((at_+i:Nat):Int):=by rw [wrap_i64 (by omega) (by omega)]; simp
  have hbt:=bit_eqb hb (by omega) (show at_+i<8 * b.length by omega)
  have wi:IntKind.u64.wrap (i:Int)=(i:Int):=wrap_u64n (by omega) (by omega)
  have hp:2 ^ i≤2 ^ 24:=Nat.pow_le_pow_right (by omega) (by omega)
  have e24:(2:Nat) ^ 24=16777216:=by decide
  have hb2:=b2n_lt (bitC b (at_+i))
  have hle:b2n (bitC b (at_+i)) * 2 ^ i≤1 * 16777216:=Nat.mul_le_mul (by omega) (by omega)
  have shl:=shl_nat (b2n (bitC b (at_+i))) i (by omega) (by omega)
  have hor:=or_i64n v (b2n (bitC b (at_+i)) * 2 ^ i) (by omega) (by omega)
  have w1:IntKind.i64.wrap ((i:Int)+1)=((i+1:Nat):Int):=by rw [wrap_i64 (by omega) (by omega)]; simp
  have hbit2:∀ q,(v ||| b2n (bitC b (at_+i)) * 2 ^ i).testBit q=(decide (q<i+1)&&bitC b (at_+q)):=by
   intro q
   rw [Nat.testBit_or,hbits,b2n_shift]
   by_cases c1:q<i
   ·have c2:q<i+1:=by omega
    have c3:q≠i:=by omega
    simp [c1,c2,c3]
   ·by_cases c3:q=i
    ·subst c3; simp
    ·have c2:¬ q<i+1:=by omega
     simp [c1,c2,c3]
  obtain ⟨v',h3,h4,h5⟩:=ih f (i+1) _ (by omega) (by omega) (by omega) (Nat.lt_pow_two_of_testBit _ fun q hq=>by
   rw [hbit2]
   have:¬ q<i+1:=by omega
   simp [this]) hbit2
  refine ⟨v',(loop_next ?_).trans h3,h4,h5⟩
  unfold rgetS
  exact cnd_t (by simp; omega) (bnd (x:=((at_+i:Nat):Int)) (by rw [w]) (bnd hbt (bnd (x:=(i:Int)) (by rw [wi]) (bnd shl (bnd (x:=((v ||| b2n (bitC b (at_+i)) * 2 ^ i:Nat):Int)) (by rw [hor]) (bnd (x:=((i+1:Nat):Int)) (by rw [w1]) rfl))))))
theorem codes_len (m:List Nat):(codes m).length=m.length:=by simp [codes]
theorem codes_get (m:List Nat) {j:Nat} (h:j<m.length):getO (ints (codes m)) j=some ((code m j:Nat):Int):=by
 rw [ints_get (by rw [codes_len]; exact h)]
 simp [codes]
theorem search_eq (m:List Nat) (hl:m.length≤300) (n c P:Nat) (v:Int) (hv:IntKind.i64.wrap ((P:Int)+(n:Int))=v) :
  ∀ (k fuel i:Nat),m.length-i=k→i≤m.length→k<fuel →
   ((∀ j,i≤j→∀ h:j<m.length,m[j]=n→code m j≠c) →
   loopF (S:=(Int)) (O:=(Unit)⊕((Int×Int)⊕((Unit)⊕(Int×Int)))) (fun (s154:Int) =>
        cond ((decide (s154<((ints m).length:Int))))
         (bindS (S:=Bool) (A:=((Int)⊕((Unit)⊕((Int×Int)⊕((Unit)⊕(Int×Int))))))
          ((ixO s154 (ints m).length).bind fun v14 =>
          (getO (ints m) v14).bind fun v15 =>
          cond ((v15==(n:Int)))
           ((ixO s154 (ints (codes m)).length).bind fun v16 =>
           (getO (ints (codes m)) v16).bind fun v17 =>
           some (.inl (v17==(c:Int))))
           (some (.inl false)))
          (fun (s168:Bool) =>
           cond (s168)
            ((some (IntKind.i64.wrap ((P:Int)+(n:Int)))).bind fun v23 =>
            some (.inr (.inr (.inr (.inr ((s154,v23)))))))
            ((some (IntKind.i64.wrap (s154+1))).bind fun v24 =>
            some (.inl v24))) some)
         (some (.inr (.inl ())))) fuel (i:Int)=some (.inl ())) ∧
   (∀ j,i≤j→∀ h:j<m.length,m[j]=n→code m j=c→(∀ j',i≤j'→j'<j→∀ h':j'<m.length,m[j']=n→code m j'≠c) →
   loopF (S:=(Int)) (O:=(Unit)⊕((Int×Int)⊕((Unit)⊕(Int×Int)))) (fun (s154:Int) =>
        cond ((decide (s154<((ints m).length:Int))))
         (bindS (S:=Bool) (A:=((Int)⊕((Unit)⊕((Int×Int)⊕((Unit)⊕(Int×Int))))))
          ((ixO s154 (ints m).length).bind fun v14 =>
          (getO (ints m) v14).bind fun v15 =>
          cond ((v15==(n:Int)))
           ((ixO s154 (ints (codes m)).length).bind fun v16 =>
           (getO (ints (codes m)) v16).bind fun v17 =>
           some (.inl (v17==(c:Int))))
           (some (.inl false)))
          (fun (s168:Bool) =>
           cond (s168)
            ((some (IntKind.i64.wrap ((P:Int)+(n:Int)))).bind fun v23 =>
            some (.inr (.inr (.inr (.inr ((s154,v23)))))))
            ((some (IntKind.i64.wrap (s154+1))).bind fun v24 =>
            some (.inl v24))) some)
         (some (.inr (.inl ())))) fuel (i:Int)=some (.inr (.inr (.inr ((j:Int),v))))):=by
 intro k
 induction k with
 | zero =>
  intro fuel i hk hi hf
  obtain ⟨f,rfl⟩:∃ f,fuel=f+1:=⟨fuel-1,by omega⟩
  have:i=m.length:=by omega
  subst this
  exact ⟨fun _=>loop_exit (cnd_f (by simp [ints_len]) rfl),fun j h1 h2=>by omega⟩
 | succ k ih =>
  intro fuel i hk hi hf
  obtain ⟨f,rfl⟩:∃ f,fuel=f+1:=⟨fuel-1,by omega⟩
  have hlt:i<m.length:=by omega
  have hlt':i<(ints m).length:=by rw [ints_len]; exact hlt
  have hltc:i<(ints (codes m)).length:=by rw [ints_len,codes_len]; exact hlt
  have hw:IntKind.i64.wrap ((i:Int)+1)=((i+1:Nat):Int):=by rw [wrap_i64 (by omega) (by omega)]; simp
  have hd:decide ((i:Int)<((ints m).length:Int))=true:=by simp; omega
  obtain ⟨ih1,ih2⟩:=ih f (i+1) (by omega) (by omega) (by omega)
  by_cases hit:m[i]=n∧code m i=c
  ·refine ⟨fun h=>absurd hit.2 (h i (Nat.le_refl _) hlt hit.1),fun j hij hj e1 e2 hno => ?_⟩
   have:j=i:=by
    refine Classical.byContradiction fun hne => ?_
    exact hno i (Nat.le_refl _) (by omega) hlt hit.1 hit.2
   subst this
   exact loop_exit (cnd_t hd (bndL (s:=true) (bnd (ixO_of hlt') (bnd (ints_get hlt) (cnd_t (by simp [hit.1]) (bnd (ixO_of hltc) (bnd (codes_get m hlt) (by rw [hit.2]; simp)))))) (cnd_t rfl (bnd (x:=v) (by rw [hv]) rfl))))
  ·have hgo:∀ {r},r=loopF (S:=(Int)) (O:=(Unit)⊕((Int×Int)⊕((Unit)⊕(Int×Int)))) (fun (s154:Int) =>
        cond ((decide (s154<((ints m).length:Int))))
         (bindS (S:=Bool) (A:=((Int)⊕((Unit)⊕((Int×Int)⊕((Unit)⊕(Int×Int))))))
          ((ixO s154 (ints m).length).bind fun v14 =>
          (getO (ints m) v14).bind fun v15 =>
          cond ((v15==(n:Int)))
           ((ixO s154 (ints (codes m)).length).bind fun v16 =>
           (getO (ints (codes m)) v16).bind fun v17 =>
           some (.inl (v17==(c:Int))))
           (some (.inl false)))
          (fun (s168:Bool) =>
           cond (s168)
            ((some (IntKind.i64.wrap ((P:Int)+(n:Int)))).bind fun v23 =>
            some (.inr (.inr (.inr (.inr ((s154,v23)))))))
            ((some (IntKind.i64.wrap (s154+1))).bind fun v24 =>
            some (.inl v24))) some)
         (some (.inr (.inl ())))) f ((i+1:Nat):Int)→loopF (S:=(Int)) (O:=(Unit)⊕((Int×Int)⊕((Unit)⊕(Int×Int)))) (fun (s154:Int) =>
        cond ((decide (s154<((ints m).length:Int))))
         (bindS (S:=Bool) (A:=((Int)⊕((Unit)⊕((Int×Int)⊕((Unit)⊕(Int×Int))))))
          ((ixO s154 (ints m).length).bind fun v14 =>
          (getO (ints m) v14).bind fun v15 =>
          cond ((v15==(n:Int)))
           ((ixO s154 (ints (codes m)).length).bind fun v16 =>
           (getO (ints (codes m)) v16).bind fun v17 =>
           some (.inl (v17==(c:Int))))
           (some (.inl false)))
          (fun (s168:Bool) =>
           cond (s168)
            ((some (IntKind.i64.wrap ((P:Int)+(n:Int)))).bind fun v23 =>
            some (.inr (.inr (.inr (.inr ((s154,v23)))))))
            ((some (IntKind.i64.wrap (s154+1))).bind fun v24 =>
            some (.inl v24))) some)
         (some (.inr (.inl ())))) (f+1) (i:Int)=r:=by
    intro r hr
    subst hr
    refine loop_next (cnd_t hd (bndL (s:=false) (bnd (ixO_of hlt') (bnd (ints_get hlt) ?_)) (cnd_f rfl (bnd (x:=((i+1:Nat):Int)) (by rw [hw]) rfl))))
    by_cases h1:m[i]=n
    ·have h2:code m i≠c:=fun h=>hit ⟨h1,h⟩
     refine cnd_t (by simp [h1]) (bnd (ixO_of hltc) (bnd (codes_get m hlt) ?_))
     have:(((code m i:Nat):Int)==(c:Int))=false:=by rw [beq_eq_false_iff_ne]; omega
     rw [this]
    ·exact cnd_f (by rw [beq_eq_false_iff_ne]; omega) rfl
   refine ⟨fun h=>hgo (ih1 fun j hj=>h j (by omega)).symm,fun j hij hj e1 e2 hno => ?_⟩
   have hne:j≠i:=fun h=>by subst h; exact hit ⟨e1,e2⟩
   exact hgo (ih2 j (by omega) hj e1 e2 fun j' h1 h2=>hno j' (by omega) h2).symm
end Go.Abs.Sh

namespace Go.Abs.Sh
set_option linter.unusedVariables false
set_option linter.unusedSimpArgs false
set_option maxRecDepth 100000
def rdS (l c b:List Int) (at_:Int):(Int×Int)→Option ((Int×Int)⊕((Unit)⊕(Int×Int))):=(fun ((s91,s92):Int×Int) =>
   bindS (S:=Bool) (A:=((Int×Int)⊕((Unit)⊕(Int×Int))))
    (cond ((decide (s92≤15)))
     ((some (IntKind.i64.wrap (at_+s92))).bind fun v1 =>
     (some (IntKind.i64.wrap (8 * (b.length:Int)))).bind fun v2 =>
     some (.inl ((decide (v1≤v2)))))
     (some (.inl false)))
    (fun (s136:Bool) =>
     cond (s136)
      ((some (IntKind.i64.wrap (2 * s91))).bind fun v8 =>
      (some (IntKind.i64.wrap (at_+s92))).bind fun v9 =>
      (some (IntKind.i64.wrap (v9-1))).bind fun v10 =>
      (wherryref01_bit b v10).bind fun v11 =>
      (some (IntKind.i64.wrap (v8+v11))).bind fun v12 =>
      bindS (S:=(Unit)) (A:=((Int×Int)⊕((Unit)⊕(Int×Int))))
       (loopF (S:=(Int)) (O:=(Unit)⊕((Int×Int)⊕((Unit)⊕(Int×Int)))) (fun (s154:Int) =>
        cond ((decide (s154<(l.length:Int))))
         (bindS (S:=Bool) (A:=((Int)⊕((Unit)⊕((Int×Int)⊕((Unit)⊕(Int×Int))))))
          ((ixO s154 l.length).bind fun v14 =>
          (getO l v14).bind fun v15 =>
          cond ((v15==s92))
           ((ixO s154 c.length).bind fun v16 =>
           (getO c v16).bind fun v17 =>
           some (.inl (v17==v12)))
           (some (.inl false)))
          (fun (s168:Bool) =>
           cond (s168)
            ((some (IntKind.i64.wrap (at_+s92))).bind fun v23 =>
            some (.inr (.inr (.inr (.inr ((s154,v23)))))))
            ((some (IntKind.i64.wrap (s154+1))).bind fun v24 =>
            some (.inl v24))) some)
         (some (.inr (.inl ()))))
        BIG 0)
       (fun (():Unit) =>
        (some (IntKind.i64.wrap (s92+1))).bind fun v51 =>
        some (.inl (v12,v51))) some)
      (some (.inr (.inl ())))) some)
/-! The page's reading of bits. -/
theorem rget_eq {B:List Int} (hB:isB B) (hl:B.length≤10000) {P n v:Nat} (hn:n≤24) (hP:P+n≤8 * B.length) (hv:v<2 ^ n) (hb:∀ t,t<n→bitC B (P+t)=v.testBit t) :
  wherryref01_Get B (P:Int) (n:Int)=some ((v:Int),((P+n:Nat):Int),0):=by
 obtain ⟨v',h1,h2,h3⟩:=rget_loop B hB hl P n hn hP n BIG 0 0 rfl (Nat.zero_le _) (by simp only [BIG]; omega) (by decide) (fun q=>by simp)
 have e:v'=v:=by
  apply Nat.eq_of_testBit_eq
  intro q
  rw [h3]
  by_cases hq:q<n
  ·rw [decide_eq_true hq,Bool.true_and,hb q hq]
  ·rw [decide_eq_false hq,Bool.false_and,Nat.testBit_lt_two_pow (Nat.lt_of_lt_of_le hv (Nat.pow_le_pow_right (by omega) (by omega)))]
 subst e
 have w8:IntKind.i64.wrap (8 * ((B.length:Nat):Int))=((8 * B.length:Nat):Int):=by rw [wrap_i64 (by omega) (by omega)]; omega
 have wB:IntKind.i64.wrap (((8 * B.length:Nat):Int)-(P:Int))=((8 * B.length-P:Nat):Int):=wrS' (by omega) (by omega)
 have hin:∀ n lo hi:Int,wherryref01_in n lo hi=some (decide (lo≤n)&&decide (n≤hi)):=by
  intro n lo hi
  unfold wherryref01_in
  by_cases h:lo≤n
  ·exact bndL (s:=decide (n≤hi)) (cnd_t (decide_eq_true h) rfl) (by rw [decide_eq_true h,Bool.true_and])
  ·exact bndL (s:=false) (cnd_f (decide_eq_false h) rfl) (by rw [decide_eq_false h,Bool.false_and])
 unfold wherryref01_Get
 refine bndL (s:=false) (bnd (hin _ _ _) (cnd_f ?_ (bnd (congrArg some w8) (bnd (hin _ _ _) ?_)))) (cnd_f rfl (bnd (congrArg some w8) (bnd (congrArg some wB) (cnd_f (decide_eq_false (by omega)) (bndL h1 (bnd (congrArg some (wrA' P n (by omega))) rfl))))))
 ·rw [decide_eq_true (show (0:Int)≤(n:Int) by omega),decide_eq_true (show (n:Int)≤24 by omega)]; rfl
 ·rw [decide_eq_true (show (0:Int)≤(P:Int) by omega),decide_eq_true (show (P:Int)≤((8 * B.length:Nat):Int) by omega)]; rfl
theorem code_cnt {m:List Nat} {i n:Nat} (hi:i<m.length) (h0:n≠0) (he:m[i]=n):code m i<fst m n+m.count n:=by
 unfold code
 rw [List.getD_eq_getElem?_getD,List.getElem?_eq_getElem hi,Option.getD_some,he,if_neg h0]
 have h1:(m.take (i+1)).count n≤m.count n:=(List.take_sublist _ _).count_le _
 rw [take_snoc hi,List.count_append,he,List.count_singleton_self] at h1
 omega
theorem rread_loop {m:List Nat} (hl:m.length≤300) (hm:∀ x∈m,x≤15) {B:List Int} (hB:isB B) (hbl:B.length≤10000) {j:Nat} (hj:j<m.length) (h0:m[j]≠0) {P:Nat} (hP:P+m[j]≤8 * B.length) (hc:code m j<2 ^ m[j])
  (hb:∀ t,t<m[j]→bitC B (P+t)=(code m j).testBit (m[j]-1-t)):∀ (k n fuel:Nat),n+k=m[j]→1≤n→k<fuel →
  loopF (rdS (ints m) (ints (codes m)) B (P:Int)) fuel (((code m j / 2 ^ (m[j]-n+1):Nat):Int),(n:Int))=some (.inr ((j:Int),((P+m[j]:Nat):Int)))
 | k,n,fuel,hk,h1,hf=>by
  obtain ⟨fu,rfl⟩:∃ fu,fuel=fu+1:=⟨fuel-1,by omega⟩
  have hL:=hm _ (List.getElem_mem hj)
  have w8:IntKind.i64.wrap (8 * ((B.length:Nat):Int))=((8 * B.length:Nat):Int):=by rw [wrap_i64 (by omega) (by omega)]; omega
  have wP:IntKind.i64.wrap ((P:Int)+(n:Int))=((P+n:Nat):Int):=wrA' P n (by omega)
  have wQ:IntKind.i64.wrap (((P+n:Nat):Int)-1)=((P+(n-1):Nat):Int):=by rw [wrap_i64 (by omega) (by omega)]; omega
  have hle:∀ q,code m j / 2 ^ q≤32768:=fun q=>by
   have a1:=Nat.div_le_self (code m j) (2 ^ q)
   have a2:2 ^ m[j]≤2 ^ 15:=Nat.pow_le_pow_right (by omega) hL
   have a3:(2:Nat) ^ 15=32768:=by decide
   omega
  have hc2:code m j / 2 ^ (m[j]-n+1)=code m j / 2 ^ (m[j]-n) / 2:=by rw [Nat.pow_succ,Nat.div_div_eq_div_mul]
  have hbit:=bit_eqb hB hbl (q:=P+(n-1)) (by omega)
  rw [hb (n-1) (by omega),show m[j]-1-(n-1)=m[j]-n by omega] at hbit
  have hbv:b2n ((code m j).testBit (m[j]-n))=code m j / 2 ^ (m[j]-n) % 2:=by
   rw [b2n,Nat.testBit_eq_decide_div_mod_eq]
   have:=Nat.mod_two_eq_zero_or_one (code m j / 2 ^ (m[j]-n))
   rcases this with h | h <;> simp [h]
  rw [hbv] at hbit
  generalize hC:code m j / 2 ^ (m[j]-n)=C at *
  have hCle:=hle (m[j]-n)
  rw [hC] at hCle
  have w2:IntKind.i64.wrap (2 * ((C / 2:Nat):Int))=((2 * (C / 2):Nat):Int):=by rw [wrap_i64 (by omega) (by omega)]; omega
  have w3:IntKind.i64.wrap (((2 * (C / 2):Nat):Int)+((C % 2:Nat):Int))=((C:Nat):Int):=by rw [wrap_i64 (by omega) (by omega)]; omega
  have hsr:=search_eq m hl n C P ((P+n:Nat):Int) wP m.length BIG 0 (by omega) (by omega) (by simp only [BIG]; omega)
  rw [hc2]
  by_cases hn:n=m[j]
  ·have hC2:C=code m j:=by rw [← hC,hn,Nat.sub_self,Nat.pow_zero,Nat.div_one]
   have hs:=hsr.2 j (Nat.zero_le _) hj hn.symm hC2.symm (fun j' _ h2 h3 h4 he=>by
    have:=code_same h3 hj (by rw [h4]; omega) (by rw [h4,hn]) h2
    omega)
   rw [show ((0:Nat):Int)=0 from rfl] at hs
   refine loop_exit (bndL (s:=true) (cnd_t (decide_eq_true (by omega)) (bnd (congrArg some wP) (bnd (congrArg some w8) (by rw [decide_eq_true (by omega)])))) (cnd_t rfl (bnd (congrArg some w2) (bnd (congrArg some wP) (bnd (congrArg some wQ) (bnd hbit (bnd (congrArg some w3) ?_)))))))
   rw [hs,hn]
   rfl
  ·have hs:=hsr.1 (fun i _ hi he hci=>by
    have a1:=code_pre hm hj h0 (n:=n) h1 (by omega)
    have a2:=code_cnt hi (by omega) he
    omega)
   rw [show ((0:Nat):Int)=0 from rfl] at hs
   have ih:=rread_loop hl hm hB hbl hj h0 hP hc hb (k-1) (n+1) fu (by omega) (by omega) (by omega)
   rw [show m[j]-(n+1)+1=m[j]-n by omega,hC] at ih
   exact (loop_next (bndL (s:=true) (cnd_t (decide_eq_true (by omega)) (bnd (congrArg some wP) (bnd (congrArg some w8) (by rw [decide_eq_true (by omega)])))) (cnd_t rfl (bnd (congrArg some w2) (bnd (congrArg some wP) (bnd (congrArg some wQ) (bnd hbit (bnd (congrArg some w3) (bndL hs (bnd (congrArg some (wrap_succ (n:=n) (by omega))) rfl)))))))))).trans ih
termination_by k=>k
theorem rread_eq {m:List Nat} (h:Cd m) {B:List Int} (hB:isB B) (hbl:B.length≤10000) {j:Nat} (hj:j<m.length) (h0:m.getD j 0≠0) {P:Nat} (hP:P+m.getD j 0≤8 * B.length) (hs:Sp [syP m j] P B) :
  wherryref01_read (ints m) (ints (codes m)) B (P:Int)=some ((j:Int),((P+m.getD j 0:Nat):Int)):=by
 have e:m.getD j 0=m[j]:=by rw [List.getD_eq_getElem?_getD,List.getElem?_eq_getElem hj,Option.getD_some]
 have hf:=code_fit h hj
 have hb:=hs.1
 simp only [syP] at hb
 rw [e] at h0 hP hb hf
 rw [e]
 unfold wherryref01_read
 have:=rread_loop h.len h.le hB hbl hj h0 hP hf.1 (fun t ht=>by rw [hb t ht,rv_bit _ _ _ ht]) (m[j]-1) 1 BIG (by omega) (by omega) (by have:=hf.2; simp only [BIG]; omega)
 have hz:code m j / 2 ^ (m[j]-1+1)=0:=by rw [show m[j]-1+1=m[j] by omega]; exact Nat.div_eq_of_lt hf.1
 rw [hz] at this
 exact bndR this rfl
end Go.Abs.Sh

namespace Go.Abs.Sh
set_option linter.unusedVariables false
set_option linter.unusedSimpArgs false
set_option maxRecDepth 100000
def txS (l d:List Int):(((List Int)×Int×Int×(List Int)×Int×(List Int)×(List Int)))→Option (((List Int)×Int×Int×(List Int)×Int×(List Int)×(List Int))⊕(((List Int)×Int×Int×(List Int)×Int)⊕T_wherryref01_reader)):=(fun ((s185,s186,s187,s188,s189,s190,s191):(List Int)×Int×Int×(List Int)×Int×(List Int)×(List Int)) =>
 cond ((s187==0))
  (bindS (S:=(List Int)×Int×Int×(List Int)×Int) (A:=(((List Int)×Int×Int×(List Int)×Int×(List Int)×(List Int))⊕(((List Int)×Int×Int×(List Int)×Int)⊕T_wherryref01_reader)))
   ((wherryref01_reader_sym (T_wherryref01_reader.mk s185 s186 s187 s188 s189) l s190).bind fun v4 =>
   bindS (S:=Bool) (A:=(((List Int)×Int×Int×(List Int)×Int)⊕(((List Int)×Int×Int×(List Int)×Int×(List Int)×(List Int))⊕(((List Int)×Int×Int×(List Int)×Int)⊕T_wherryref01_reader))))
    (cond ((v4.2.bad != 0))
     (some (.inl true))
     (some (.inl (v4.1==256))))
    (fun (s323:Bool) =>
     cond (s323)
      (some (.inr (.inr (.inr (v4.2)))))
      (cond ((decide (v4.1<256)))
       ((wherryref01_reader_room v4.2 1).bind fun v11 =>
       cond (v11.1)
        ((some (IntKind.u8.wrap v4.1)).bind fun v13 =>
        (appO 1 v11.2.out [v13]).bind fun v14 =>
        some (.inl (v11.2.b,v11.2.at_,v11.2.bad,v14,v11.2.most)))
        (some (.inl (v11.2.b,v11.2.at_,v11.2.bad,v11.2.out,v11.2.most))))
       (cond ((decide (285<v4.1)))
        ((wherryref01_reader_none v4.2).bind fun v16 =>
        some (.inr (.inr (.inr (v16)))))
        ((wherryref01_LenOf v4.1).bind fun v17 =>
        (wherryref01_reader_get v4.2 v17.2.1).bind fun v18 =>
        (some (IntKind.i64.wrap (v17.1+v18.1))).bind fun v19 =>
        (wherryref01_reader_sym v18.2 d s191).bind fun v20 =>
        bindS (S:=Bool) (A:=(((List Int)×Int×Int×(List Int)×Int)⊕(((List Int)×Int×Int×(List Int)×Int×(List Int)×(List Int))⊕(((List Int)×Int×Int×(List Int)×Int)⊕T_wherryref01_reader))))
         (cond ((v20.2.bad != 0))
          (some (.inl true))
          (some (.inl ((decide (29<v20.1))))))
         (fun (s331:Bool) =>
          cond (s331)
           ((wherryref01_reader_none v20.2).bind fun v26 =>
           some (.inr (.inr (.inr (v26)))))
           ((wherryref01_DistOf v20.1).bind fun v27 =>
           (wherryref01_reader_get v20.2 v27.2.1).bind fun v28 =>
           (some (IntKind.i64.wrap (v27.1+v28.1))).bind fun v29 =>
           bindS (S:=Bool) (A:=(((List Int)×Int×Int×(List Int)×Int)⊕(((List Int)×Int×Int×(List Int)×Int×(List Int)×(List Int))⊕(((List Int)×Int×Int×(List Int)×Int)⊕T_wherryref01_reader))))
            (cond ((v28.2.bad != 0))
             (some (.inl true))
             (some (.inl ((decide ((v28.2.out.length:Int)<v29))))))
            (fun (s336:Bool) =>
             cond (s336)
              ((wherryref01_reader_none v28.2).bind fun v35 =>
              some (.inr (.inr (.inr (v35)))))
              ((wherryref01_reader_room v28.2 v19).bind fun v36 =>
              cond (v36.1)
               (bindS (S:=((List Int))) (A:=(((List Int)×Int×Int×(List Int)×Int)⊕(((List Int)×Int×Int×(List Int)×Int×(List Int)×(List Int))⊕(((List Int)×Int×Int×(List Int)×Int)⊕T_wherryref01_reader))))
                (loopF (S:=((List Int)×Int)) (O:=((List Int))⊕(((List Int)×Int×Int×(List Int)×Int)⊕(((List Int)×Int×Int×(List Int)×Int×(List Int)×(List Int))⊕(((List Int)×Int×Int×(List Int)×Int)⊕T_wherryref01_reader)))) (fun ((s346,s347):(List Int)×Int) =>
                 cond ((decide (s347<v19)))
                  ((some (IntKind.i64.wrap ((s346.length:Int)-v29))).bind fun v39 =>
                  (ixO v39 s346.length).bind fun v40 =>
                  (getO s346 v40).bind fun v41 =>
                  (appO 1 s346 [v41]).bind fun v42 =>
                  (some (IntKind.i64.wrap (s347+1))).bind fun v43 =>
                  some (.inl (v42,v43)))
                  (some (.inr (.inl s346))))
                 BIG (v36.2.out,0))
                (fun (s349:(List Int)) =>
                 some (.inl (v36.2.b,v36.2.at_,v36.2.bad,s349,v36.2.most))) some)
               (some (.inl (v36.2.b,v36.2.at_,v36.2.bad,v36.2.out,v36.2.most))))) some)) some)))) some)
   (fun ((s315,s316,s317,s318,s319):(List Int)×Int×Int×(List Int)×Int) =>
    some (.inl (s315,s316,s317,s318,s319,s190,s191))) some)
  (some (.inr (.inl (s185,s186,s187,s188,s189)))))
def cpS (v19 v29:Int):(((List Int)×Int))→Option (((List Int)×Int)⊕(((List Int))⊕(((List Int)×Int×Int×(List Int)×Int)⊕(((List Int)×Int×Int×(List Int)×Int×(List Int)×(List Int))⊕(((List Int)×Int×Int×(List Int)×Int)⊕T_wherryref01_reader))))):=(fun ((s346,s347):(List Int)×Int) =>
                 cond ((decide (s347<v19)))
                  ((some (IntKind.i64.wrap ((s346.length:Int)-v29))).bind fun v39 =>
                  (ixO v39 s346.length).bind fun v40 =>
                  (getO s346 v40).bind fun v41 =>
                  (appO 1 s346 [v41]).bind fun v42 =>
                  (some (IntKind.i64.wrap (s347+1))).bind fun v43 =>
                  some (.inl (v42,v43)))
                  (some (.inr (.inl s346))))
/-! The page's reader. -/
theorem get_rd {B:List Int} (hB:isB B) (hl:B.length≤10000) {P n v:Nat} (hn:n≤24) (hP:P+n≤8 * B.length) (hv:v<2 ^ n) (hb:∀ t,t<n→bitC B (P+t)=v.testBit t) {out:List Int} {most:Int} :
  wherryref01_reader_get (T_wherryref01_reader.mk B (P:Int) 0 out most) (n:Int)=some ((v:Int),T_wherryref01_reader.mk B ((P+n:Nat):Int) 0 out most):=by
 have w8:IntKind.i64.wrap (8 * ((B.length:Nat):Int))=((8 * B.length:Nat):Int):=by rw [wrap_i64 (by omega) (by omega)]; omega
 have wB:IntKind.i64.wrap (((8 * B.length:Nat):Int)-(P:Int))=((8 * B.length-P:Nat):Int):=wrS' (by omega) (by omega)
 unfold wherryref01_reader_get
 exact bndL (s:=false) (cnd_f rfl (bnd (congrArg some w8) (bnd (congrArg some wB) (by rw [decide_eq_false (by omega)])))) (cnd_f rfl (bnd (rget_eq hB hl hn hP hv hb) rfl))
theorem sp_one {p:Nat×Nat} {N:Nat} {B:List Int} (h:Sp [p] N B):∀ t,t<p.2→bitC B (N+t)=p.1.testBit t:=h.1
theorem get_sp {B:List Int} (hB:isB B) (hl:B.length≤10000) {P n v:Nat} (hn:n≤24) (hP:P+n≤8 * B.length) (hv:v<2 ^ n) (hb:Sp [(v,n)] P B) {out:List Int} {most:Int} :
  wherryref01_reader_get (T_wherryref01_reader.mk B (P:Int) 0 out most) (n:Int)=some ((v:Int),T_wherryref01_reader.mk B ((P+n:Nat):Int) 0 out most):=get_rd hB hl hn hP hv (sp_one hb)
theorem sym_rd {m:List Nat} (h:Cd m) {B:List Int} (hB:isB B) (hbl:B.length≤10000) {j:Nat} (hj:j<m.length) (h0:m.getD j 0≠0) {P:Nat} (hP:P+m.getD j 0≤8 * B.length) (hs:Sp [syP m j] P B) {out:List Int} {most:Int} :
  wherryref01_reader_sym (T_wherryref01_reader.mk B (P:Int) 0 out most) (ints m) (ints (codes m))=some ((j:Int),T_wherryref01_reader.mk B ((P+m.getD j 0:Nat):Int) 0 out most):=by
 unfold wherryref01_reader_sym
 exact cnd_f rfl (bnd (rread_eq h hB hbl hj h0 hP hs) (cnd_f (decide_eq_false (by omega)) rfl))
theorem room_rd {B out:List Int} {P:Int} {k most:Nat} (h:out.length+k≤most) (hm:most≤100000):wherryref01_reader_room (T_wherryref01_reader.mk B P 0 out (most:Int)) (k:Int)=some (true,T_wherryref01_reader.mk B P 0 out (most:Int)):=by
 unfold wherryref01_reader_room
 exact bndL (s:=0) (bndL (s:=false) (cnd_t rfl (bnd (congrArg some (wrA' out.length k (by omega))) (by rw [decide_eq_false (show ¬ ((most:Int)<((out.length+k:Nat):Int)) by omega)]))) (cnd_f rfl rfl)) rfl
theorem cp_loop {d:Nat} (hd:1≤d):∀ (k i fuel N:Nat) (b:List Int),i+k=N→k<fuel→d≤b.length→b.length+k≤100000∧N≤100000→loopF (cpS (N:Int) (d:Int)) fuel (b,(i:Int))=some (.inl (cpy d b k))
 | 0,i,fuel,N,b,hk,hf,hb,hl=>by
  obtain ⟨fu,rfl⟩:∃ fu,fuel=fu+1:=⟨fuel-1,by omega⟩
  exact loop_exit (cnd_f (decide_eq_false (by omega)) rfl)
 | k+1,i,fuel,N,b,hk,hf,hb,hl=>by
  obtain ⟨fu,rfl⟩:∃ fu,fuel=fu+1:=⟨fuel-1,by omega⟩
  have hlt:b.length-d<b.length:=by omega
  have hap:appO 1 b [b.getD (b.length-d) 0]=some (b++[b.getD (b.length-d) 0]):=by
   unfold appO
   rw [if_pos (by simp only [List.length_cons,List.length_nil]; omega)]
  have hg:getO b (b.length-d)=some (b.getD (b.length-d) 0):=by
   rw [getO_of hlt,List.getD_eq_getElem?_getD,List.getElem?_eq_getElem hlt,Option.getD_some]
  rw [cpy]
  exact (loop_next (cnd_t (decide_eq_true (by omega)) (bnd (congrArg some (wrS' hb (by omega))) (bnd (ixO_of hlt) (bnd hg (bnd hap (bnd (congrArg some (wrap_succ (n:=i) (by omega))) rfl))))))).trans
   (cp_loop hd k (i+1) fu N _ (by omega) (by omega) (by rw [List.length_append]; omega) ⟨by rw [List.length_append,List.length_cons,List.length_nil]; omega,hl.2⟩)
def lnR (n:Nat):Bool:=decide (wherryref01_LenOf ((lnN n).1:Int)=some (((n-(lnN n).2.2:Nat):Int),((lnN n).2.1:Int),0)∧(lnN n).2.2≤n)
def dsR (n:Nat):Bool:=decide (wherryref01_DistOf ((dsN n).1:Int)=some (((n-(dsN n).2.2:Nat):Int),((dsN n).2.1:Int),0)∧(dsN n).2.2≤n)
theorem lnr_all:(List.range 256).all (fun i=>lnR (3+i))=true:=by kernel_rfl
theorem dsr_all:(List.range 2048).all (fun i=>dsR (1+i))=true:=by kernel_rfl
theorem lnr {n:Nat} (h:3≤n) (h2:n≤258):wherryref01_LenOf ((lnN n).1:Int)=some (((n-(lnN n).2.2:Nat):Int),((lnN n).2.1:Int),0)∧(lnN n).2.2≤n:=by
 have:=List.all_eq_true.1 lnr_all (n-3) (List.mem_range.2 (by omega))
 rw [show 3+(n-3)=n by omega] at this
 exact of_decide_eq_true this
theorem dsr {n:Nat} (h:1≤n) (h2:n≤2048):wherryref01_DistOf ((dsN n).1:Int)=some (((n-(dsN n).2.2:Nat):Int),((dsN n).2.1:Int),0)∧(dsN n).2.2≤n:=by
 have:=List.all_eq_true.1 dsr_all (n-1) (List.mem_range.2 (by omega))
 rw [show 1+(n-1)=n by omega] at this
 exact of_decide_eq_true this
def usedC (m d:List Nat) (t:T_Tok):Prop:=if t.Len=0 then m.getD t.Byte.toNat 0≠0 else m.getD (lnN t.Len.toNat).1 0≠0∧d.getD (dsN t.Dist.toNat).1 0≠0
theorem wid_cons (p:Nat×Nat) (l:List (Nat×Nat)):wid (p::l)=p.2+wid l:=by simp [wid]
theorem lt_gD {m:List Nat} {j:Nat} (h:m.getD j 0≠0):j<m.length:=by
 rcases Nat.lt_or_ge j m.length with h1 | h1
 ·exact h1
 ·rw [List.getD_eq_getElem?_getD,List.getElem?_eq_none h1] at h; exact absurd rfl h
theorem tx_step {m d:List Nat} (hm:Cd m) (hd:Cd d) {B:List Int} (hB:isB B) (hbl:B.length≤10000) {t:T_Tok} (ht:okTk t) (hu:usedC m d t) {out:List Int} (ho:okT t (out.length:Int)=true) {P most:Nat} (hP:P+wid (tkP m d t)≤8 * B.length) (hs:Sp (tkP m d t) P B) (hmo:out.length+tl t≤most) (hm2:most≤5000) :
  txS (ints m) (ints d) (B,(P:Int),0,out,(most:Int),ints (codes m),ints (codes d))=some (.inl (B,((P+wid (tkP m d t):Nat):Int),0,exT out t,(most:Int),ints (codes m),ints (codes d))):=by
 unfold tkP usedC exT tl at *
 unfold txS
 by_cases h0:t.Len=0
 ·simp only [if_pos h0] at hP hs hu hmo ⊢
  have hb:=ht.1
  obtain ⟨x,hx⟩:∃ x:Nat,t.Byte=(x:Int):=⟨t.Byte.toNat,by omega⟩
  rw [hx,Int.toNat_natCast] at hP hs hu ⊢
  rw [wid_cons,show wid ([]:List (Nat×Nat))=0 from rfl] at hP ⊢
  simp only [syP] at hP ⊢
  have h1:=sym_rd (out:=out) (most:=(most:Int)) hm hB hbl (j:=x) (lt_gD hu) hu (P:=P) (by omega) hs
  have hap:appO 1 out [(x:Int)]=some (out++[(x:Int)]):=by
   unfold appO
   rw [if_pos (by simp only [List.length_cons,List.length_nil]; omega)]
  have hw:IntKind.u8.wrap (x:Int)=(x:Int):=by
   simp only [IntKind.wrap,IntKind.bits,IntKind.signed]
   have e:(2:Int) ^ 8=256:=by decide
   simp only [e,Bool.false_and,Bool.false_eq_true,if_false]
   omega
  rw [Nat.add_zero]
  exact cnd_t rfl (bndL (s:=(B,((P+m.getD x 0:Nat):Int),0,out++[(x:Int)],(most:Int))) (bnd h1 (bndL (s:=false) (cnd_f rfl (by rw [show (((x:Int),T_wherryref01_reader.mk B ((P+m.getD x 0:Nat):Int) 0 out (most:Int)).1==256)=false from beq_eq_false_iff_ne.2 (by show (x:Int)≠256; omega)])) (cnd_f rfl (cnd_t (decide_eq_true (by show (x:Int)<256; omega)) (bnd (room_rd (k:=1) hmo (by omega)) (cnd_t rfl (bnd (congrArg some hw) (bnd hap rfl)))))))) rfl)
 ·simp only [if_neg h0] at hP hs hu hmo ⊢
  rcases ht.2 with h1 | ⟨h1,h2,h3,h4⟩
  ·exact absurd h1 h0
  obtain ⟨L,hL⟩:∃ L:Nat,t.Len=(L:Int):=⟨t.Len.toNat,by omega⟩
  obtain ⟨D,hD⟩:∃ D:Nat,t.Dist=(D:Int):=⟨t.Dist.toNat,by omega⟩
  have hDo:D≤out.length:=by
   unfold okT at ho
   have:=of_decide_eq_true ho
   omega
  have hLn:t.Len.toNat=L:=by omega
  have hDn:t.Dist.toNat=D:=by omega
  rw [hLn,hDn] at hP hs hu ⊢
  rw [hLn] at hmo
  obtain ⟨l1,l2,l3,l4,l5⟩:=ln_ok (n:=L) (by omega) (by omega)
  obtain ⟨d1,d2,d3,d4⟩:=ds_ok (n:=D) (by omega) (by omega)
  obtain ⟨e1,e2⟩:=lnr (n:=L) (by omega) (by omega)
  obtain ⟨f1,f2⟩:=dsr (n:=D) (by omega) (by omega)
  simp only [wid_cons,show wid ([]:List (Nat×Nat))=0 from rfl] at hP ⊢
  obtain ⟨s1,s2,s3,s4,_⟩:=hs
  simp only [syP] at hP s1 s2 s3 s4 ⊢
  generalize hS:(lnN L).1=S at *
  generalize hE:(lnN L).2.1=E at *
  generalize hV:(lnN L).2.2=V at *
  generalize hS':(dsN D).1=S' at *
  generalize hE':(dsN D).2.1=E' at *
  generalize hV':(dsN D).2.2=V' at *
  have g1:=sym_rd (out:=out) (most:=(most:Int)) hm hB hbl (j:=S) (lt_gD hu.1) hu.1 (P:=P) (by omega) ⟨s1,trivial⟩
  have g2:=get_sp (out:=out) (most:=(most:Int)) hB hbl (P:=P+m.getD S 0) (n:=E) (v:=V) (by omega) (by omega) l5 ⟨s2,trivial⟩
  have g3:=sym_rd (out:=out) (most:=(most:Int)) hd hB hbl (j:=S') (lt_gD hu.2) hu.2 (P:=P+m.getD S 0+E) (by omega) ⟨s3,trivial⟩
  have g4:=get_sp (out:=out) (most:=(most:Int)) hB hbl (P:=P+m.getD S 0+E+d.getD S' 0) (n:=E') (v:=V') (by omega) (by omega) d4 ⟨s4,trivial⟩
  have w1:IntKind.i64.wrap (((L-V:Nat):Int)+(V:Int))=((L:Nat):Int):=by rw [wrap_i64 (by omega) (by omega)]; omega
  have w2:IntKind.i64.wrap (((D-V':Nat):Int)+(V':Int))=((D:Nat):Int):=by rw [wrap_i64 (by omega) (by omega)]; omega
  have hcp:=cp_loop (d:=D) (by omega) L 0 BIG L out (by omega) (by simp only [BIG]; omega) hDo ⟨by omega,by omega⟩
  have hro:=room_rd (B:=B) (P:=((P+m.getD S 0+E+d.getD S' 0+E':Nat):Int)) (out:=out) (k:=L) (most:=most) hmo (by omega)
  have ne1:((((S:Nat):Int),T_wherryref01_reader.mk B ((P+m.getD S 0:Nat):Int) 0 out (most:Int)).1==256)=false:=beq_eq_false_iff_ne.2 (by show (S:Int)≠256; omega)
  rw [show P+(m.getD S 0+(E+(d.getD S' 0+(E'+0))))=P+m.getD S 0+E+d.getD S' 0+E' by omega]
  refine cnd_t rfl (bndL (s:=(B,((P+m.getD S 0+E+d.getD S' 0+E':Nat):Int),0,cpy D out L,(most:Int))) (bnd g1 (bndL (s:=false) (cnd_f rfl (by rw [ne1])) (cnd_f rfl (cnd_f (decide_eq_false (by show ¬ (S:Int)<256; omega)) (cnd_f (decide_eq_false (by show ¬ (285:Int)<(S:Int); omega)) ?_))))) rfl)
  refine bnd e1 (bnd g2 (bnd (congrArg some w1) (bnd g3 (bndL (s:=false) (cnd_f rfl ?_) (cnd_f rfl (bnd f1 (bnd g4 (bnd (congrArg some w2) (bndL (s:=false) (cnd_f rfl ?_) (cnd_f rfl (bnd hro (cnd_t rfl (bndL hcp rfl)))))))))))))
  ·rw [decide_eq_false (by show ¬ (29:Int)<(S':Int); omega)]
  ·rw [decide_eq_false (by show ¬ (out.length:Int)<(D:Int); omega)]
end Go.Abs.Sh

namespace Go.Abs.Sh
set_option linter.unusedVariables false
set_option linter.unusedSimpArgs false
set_option maxRecDepth 100000
theorem chkF_ge:∀ (l:List T_Tok) (n N:Nat),chkF l n=some N→n≤N
 | [],n,N,h=>by cases h; exact Nat.le_refl _
 | t::l,n,N,h=>by
  unfold chkF at h
  split at h
  ·have:=chkF_ge l _ N h; omega
  ·cases h
theorem tx_end {m d:List Nat} (hm:Cd m) {B:List Int} (hB:isB B) (hbl:B.length≤10000) (h0:m.getD 256 0≠0) {out:List Int} {P:Nat} {most:Int} (hP:P+m.getD 256 0≤8 * B.length) (hs:Sp [syP m 256] P B) {cd:List Int} :
  txS (ints m) (ints d) (B,(P:Int),0,out,most,ints (codes m),cd)=some (.inr (.inr (T_wherryref01_reader.mk B ((P+m.getD 256 0:Nat):Int) 0 out most))):=by
 unfold txS
 have h1:=sym_rd (out:=out) (most:=most) hm hB hbl (j:=256) (lt_gD h0) h0 hP hs
 exact cnd_t rfl (bndR (bnd h1 (bndL (s:=true) (cnd_f rfl rfl) (cnd_t rfl rfl))) rfl)
theorem tx_loop {m d:List Nat} (hm:Cd m) (hd:Cd d) {B:List Int} (hB:isB B) (hbl:B.length≤10000) (he:m.getD 256 0≠0) {most N:Nat} (hm2:most≤5000) (hN:N≤most):∀ (l:List T_Tok) (out:List Int) (P fuel:Nat),(∀ t∈l,okTk t∧usedC m d t)→chkF l out.length=some N→P+wid (tksP m d l++[syP m 256])≤8 * B.length→Sp (tksP m d l++[syP m 256]) P B→l.length<fuel →
  loopF (txS (ints m) (ints d)) fuel (B,(P:Int),0,out,(most:Int),ints (codes m),ints (codes d))=some (.inr (T_wherryref01_reader.mk B ((P+wid (tksP m d l++[syP m 256]):Nat):Int) 0 (exF l out) (most:Int)))
 | [],out,P,fuel,ho,hc,hP,hs,hf=>by
  obtain ⟨fu,rfl⟩:∃ fu,fuel=fu+1:=⟨fuel-1,by omega⟩
  have e:wid (tksP m d []++[syP m 256])=m.getD 256 0:=by simp [tksP,wid,syP]
  rw [e] at hP ⊢
  exact loop_exit (tx_end hm hB hbl he hP hs)
 | t::l,out,P,fuel,ho,hc,hP,hs,hf=>by
  obtain ⟨fu,rfl⟩:∃ fu,fuel=fu+1:=⟨fuel-1,by omega⟩
  have e:tksP m d (t::l)++[syP m 256]=tkP m d t++(tksP m d l++[syP m 256]):=by simp [tksP]
  rw [e] at hP hs ⊢
  rw [wid_app] at hP ⊢
  obtain ⟨hs1,hs2⟩:=(Sp_app _ _ _ _).1 hs
  unfold chkF at hc
  split at hc
  ·rename_i hk
   have hge:=chkF_ge l _ N hc
   have hx:=exT_len (b:=out) hk
   have h1:=tx_step hm hd hB hbl (ho t List.mem_cons_self).1 (ho t List.mem_cons_self).2 hk (P:=P) (most:=most) (by omega) hs1 (by omega) hm2
   have ih:=tx_loop hm hd hB hbl he hm2 hN l (exT out t) (P+wid (tkP m d t)) fu (fun x hx=>ho x (List.mem_cons_of_mem _ hx)) (by rw [hx]; exact hc) (by omega) hs2 (by simp only [List.length_cons] at hf; omega)
   rw [Nat.add_assoc] at ih
   exact (loop_next h1).trans ih
  ·cases hc
theorem text_rd {m d:List Nat} (hm:Cd m) (hd:Cd d) {B:List Int} (hB:isB B) (hbl:B.length≤10000) (he:m.getD 256 0≠0) {most N:Nat} (hm2:most≤5000) (hN:N≤most) {l:List T_Tok} {out:List Int} {P:Nat} (hl:l.length≤5000) (ho:∀ t∈l,okTk t∧usedC m d t) (hc:chkF l out.length=some N) (hP:P+wid (tksP m d l++[syP m 256])≤8 * B.length) (hs:Sp (tksP m d l++[syP m 256]) P B) :
  wherryref01_reader_text (T_wherryref01_reader.mk B (P:Int) 0 out (most:Int)) (ints m) (ints d)=some (T_wherryref01_reader.mk B ((P+wid (tksP m d l++[syP m 256]):Nat):Int) 0 (exF l out) (most:Int)):=by
 unfold wherryref01_reader_text
 exact bnd (refCodes_eq m hm.len hm.le hm.fm) (bnd (refCodes_eq d hd.len hd.le hd.fm) (bndR (tx_loop hm hd hB hbl he hm2 hN l out P BIG ho hc hP hs (by simp only [BIG]; omega)) rfl))
theorem fix_used:(List.range 286).all (fun j=>decide (mL.getD j 0≠0))=true∧(List.range 30).all (fun j=>decide (mD.getD j 0≠0))=true:=by constructor <;> kernel_rfl
theorem fix_usedC {t:T_Tok} (h:okTk t):usedC mL mD t:=by
 unfold usedC
 have a1:∀ j,j<286→mL.getD j 0≠0:=fun j hj=>of_decide_eq_true (List.all_eq_true.1 fix_used.1 j (List.mem_range.2 hj))
 have a2:∀ j,j<30→mD.getD j 0≠0:=fun j hj=>of_decide_eq_true (List.all_eq_true.1 fix_used.2 j (List.mem_range.2 hj))
 split
 ·exact a1 _ (by have:=h.1; omega)
 ·rename_i h0
  rcases h.2 with h1 | ⟨h1,h2,h3,h4⟩
  ·exact absurd h1 h0
  obtain ⟨l1,l2,l3,l4,l5⟩:=ln_ok (n:=t.Len.toNat) (by omega) (by omega)
  obtain ⟨d1,d2,d3,d4⟩:=ds_ok (n:=t.Dist.toNat) (by omega) (by omega)
  exact ⟨a1 _ (by omega),a2 _ (by omega)⟩
end Go.Abs.Sh

namespace Go.Abs.Sh
set_option linter.unusedVariables false
set_option linter.unusedSimpArgs false
set_option maxRecDepth 100000
def g0S:(((List Int)×Int×Int×(List Int)×Int×Int×Int))→Option (((List Int)×Int×Int×(List Int)×Int×Int×Int)⊕(((List Int)×Int×Int×(List Int)×Int×Int)⊕((List Int)×Int×Int))):=(fun ((s110,s111,s112,s113,s114,s115,s116):(List Int)×Int×Int×(List Int)×Int×Int×Int) =>
 bindS (S:=Bool) (A:=(((List Int)×Int×Int×(List Int)×Int×Int×Int)⊕(((List Int)×Int×Int×(List Int)×Int×Int)⊕((List Int)×Int×Int))))
  (cond ((s116==0))
   (some (.inl (s112==0)))
   (some (.inl false)))
  (fun (s176:Bool) =>
   cond (s176)
    (bindS (S:=(List Int)×Int×Int×(List Int)×Int×Int×Int) (A:=(((List Int)×Int×Int×(List Int)×Int×Int×Int)⊕(((List Int)×Int×Int×(List Int)×Int×Int)⊕((List Int)×Int×Int))))
     ((wherryref01_reader_get (T_wherryref01_reader.mk s110 s111 s112 s113 s114) 1).bind fun v6 =>
     (some (IntKind.i64.wrap (s115+1))).bind fun v7 =>
     (wherryref01_reader_get v6.2 2).bind fun v8 =>
     bindS (S:=(List Int)×Int×Int×(List Int)×Int) (A:=(((List Int)×Int×Int×(List Int)×Int×Int×Int)⊕(((List Int)×Int×Int×(List Int)×Int×Int×Int)⊕(((List Int)×Int×Int×(List Int)×Int×Int)⊕((List Int)×Int×Int)))))
      (cond ((v8.1==0))
       (cond ((v8.2.bad==0))
        ((wherryref01_reader_stored v8.2).bind fun v11 =>
        some (.inl (v11.b,v11.at_,v11.bad,v11.out,v11.most)))
        (some (.inl (v8.2.b,v8.2.at_,v8.2.bad,v8.2.out,v8.2.most))))
       (cond ((v8.1==1))
        ((wherryref01_Fixed ).bind fun v13 =>
        (wherryref01_reader_text v8.2 v13.1 v13.2).bind fun v14 =>
        some (.inl (v14.b,v14.at_,v14.bad,v14.out,v14.most)))
        (cond ((v8.1==2))
         ((wherryref01_reader_dynamic v8.2).bind fun v16 =>
         some (.inl (v16.b,v16.at_,v16.bad,v16.out,v16.most)))
         ((wherryref01_reader_none v8.2).bind fun v17 =>
         some (.inl (v17.b,v17.at_,v17.bad,v17.out,v17.most))))))
      (fun ((s211,s212,s213,s214,s215):(List Int)×Int×Int×(List Int)×Int) =>
       some (.inl (s211,s212,s213,s214,s215,v6.1,v7))) some)
     (fun ((s197,s198,s199,s200,s201,s202,s203):(List Int)×Int×Int×(List Int)×Int×Int×Int) =>
      some (.inl (s197,s198,s199,s200,s201,s203,s202))) some)
    (some (.inr (.inl (s110,s111,s112,s113,s114,s115))))) some)
def g1S:(((List Int)×Int×Int×(List Int)×Int))→Option (((List Int)×Int×Int×(List Int)×Int)⊕(((List Int)×Int×Int×(List Int)×Int)⊕((List Int)×Int×Int))):=(fun ((s261,s262,s263,s264,s265):(List Int)×Int×Int×(List Int)×Int) =>
   bindS (S:=Bool) (A:=(((List Int)×Int×Int×(List Int)×Int)⊕(((List Int)×Int×Int×(List Int)×Int)⊕((List Int)×Int×Int))))
    (cond ((s263==0))
     ((remO s262 8).bind fun v223 =>
     some (.inl (v223 != 0)))
     (some (.inl false)))
    (fun (s292:Bool) =>
     cond (s292)
      (bindS (S:=(List Int)×Int×Int×(List Int)×Int) (A:=(((List Int)×Int×Int×(List Int)×Int)⊕(((List Int)×Int×Int×(List Int)×Int)⊕((List Int)×Int×Int))))
       ((wherryref01_reader_get (T_wherryref01_reader.mk s261 s262 s263 s264 s265) 1).bind fun v229 =>
       cond ((v229.1 != 0))
        ((wherryref01_reader_none v229.2).bind fun v231 =>
        some (.inl (v231.b,v231.at_,v231.bad,v231.out,v231.most)))
        (some (.inl (v229.2.b,v229.2.at_,v229.2.bad,v229.2.out,v229.2.most))))
       (fun ((s298,s299,s300,s301,s302):(List Int)×Int×Int×(List Int)×Int) =>
        some (.inl (s298,s299,s300,s301,s302))) some)
      (some (.inr (.inl (s261,s262,s263,s264,s265))))) some)
/-! A whole stream of one block. -/
theorem fill_loop {B:List Int} (hB:isB B) (hbl:B.length≤10000) {out:List Int} {most:Int}:∀ (k P fuel:Nat),P+k=8 * B.length→k<8→k<fuel→(∀ q,P≤q→bitC B q=false) →
  loopF g1S fuel (B,(P:Int),0,out,most)=some (.inl (B,((8 * B.length:Nat):Int),0,out,most))
 | 0,P,fuel,hk,h8,hf,hz=>by
  obtain ⟨fu,rfl⟩:∃ fu,fuel=fu+1:=⟨fuel-1,by omega⟩
  have hr:=rem_nat P 8 (by omega)
  rw [show ((8:Nat):Int)=8 from rfl,show P % 8=0 by omega] at hr
  have:P=8 * B.length:=by omega
  rw [← this]
  refine loop_exit ?_
  unfold g1S
  exact bndL (s:=false) (cnd_t rfl (bnd hr rfl)) (cnd_f rfl rfl)
 | k+1,P,fuel,hk,h8,hf,hz=>by
  obtain ⟨fu,rfl⟩:∃ fu,fuel=fu+1:=⟨fuel-1,by omega⟩
  have hr:=rem_nat P 8 (by omega)
  rw [show ((8:Nat):Int)=8 from rfl] at hr
  have hg:=get_rd (out:=out) (most:=most) hB hbl (P:=P) (n:=1) (v:=0) (by omega) (by omega) (by omega) (fun t ht=>by rw [hz _ (by omega),Nat.zero_testBit])
  have ih:=fill_loop hB hbl (out:=out) (most:=most) k (P+1) fu (by omega) (by omega) (by omega) (fun q hq=>hz q (by omega))
  have hne:((((P % 8:Nat):Int)) != 0)=true:=by rw [bne,beq_eq_false_iff_ne.2 (by omega)]; rfl
  refine (loop_next (s':=(B,((P+1:Nat):Int),0,out,most)) ?_).trans ih
  unfold g1S
  exact bndL (s:=true) (cnd_t rfl (bnd hr (congrArg (fun x=>some (Sum.inl x)) hne))) (cnd_t rfl (bndL (s:=(B,((P+1:Nat):Int),0,out,most)) (bnd hg (cnd_f rfl rfl)) rfl))
theorem grow_tail {B:List Int} (hB:isB B) (hbl:B.length≤10000) {out:List Int} {most:Int} {N:Nat} (hlen:B.length=(N+7) / 8) (hz:∀ q,N≤q→bitC B q=false) (h:loopF g0S BIG (B,0,0,[],most,0,0)=some (.inl (B,(N:Int),0,out,most,1))) :
  wherryref01_Grow B most=some (out,1,0):=by
 have w8:IntKind.i64.wrap (8 * ((B.length:Nat):Int))=((8 * B.length:Nat):Int):=by rw [wrap_i64 (by omega) (by omega)]; omega
 have hf:=fill_loop hB hbl (out:=out) (most:=most) (8 * B.length-N) N BIG (by omega) (by omega) (by simp only [BIG]; omega) hz
 unfold wherryref01_Grow
 refine bndL h (bndL hf (bndL (s:=(B,((8 * B.length:Nat):Int),0,out,most)) (bndL (s:=false) (cnd_t rfl (bnd (congrArg some w8) ?_)) (cnd_f rfl rfl)) (cnd_f rfl rfl)))
 show some (Sum.inl ((((8 * B.length:Nat):Int)) != ((8 * B.length:Nat):Int)))=some (Sum.inl false)
 rw [bne_self_eq_false]
theorem g0_exit {B out:List Int} {P most:Int} {n:Int} {fuel:Nat}:loopF g0S (fuel+1) (B,P,0,out,most,n,1)=some (.inl (B,P,0,out,most,n)) :=
 loop_exit (by unfold g0S; exact bndL (s:=false) (cnd_f rfl rfl) (cnd_f rfl rfl))
theorem head_rd {B:List Int} (hB:isB B) (hbl:B.length≤10000) {k:Nat} (hk:k<4) (hl:3≤8 * B.length) (hs:Sp [(1,1),(k,2)] 0 B) {out:List Int} {most:Int} :
  wherryref01_reader_get (T_wherryref01_reader.mk B 0 0 out most) 1=some (1,T_wherryref01_reader.mk B ((1:Nat):Int) 0 out most)∧wherryref01_reader_get (T_wherryref01_reader.mk B ((1:Nat):Int) 0 out most) 2=some ((k:Int),T_wherryref01_reader.mk B ((3:Nat):Int) 0 out most):=by
 obtain ⟨s1,s2,_⟩:=hs
 exact ⟨get_rd (P:=0) (n:=1) (v:=1) hB hbl (by omega) (by omega) (by omega) s1,get_rd (P:=1) (n:=2) (v:=k) hB hbl (by omega) (by omega) (by omega) s2⟩
theorem grow_fixed {b:List Int} (hb:∀ n∈b,0≤n∧n<256) (hl:b.length≤4096) {w:T_shrink_writer} (hw:WP w (fxP (toksS b))) (hbl:w.b.length≤10000) {most:Nat} (hm:b.length≤most) (hm2:most≤5000):wherryref01_Grow w.b (most:Int)=some (b,1,0):=by
 have hg:=hw.good
 have hle:=toksS_len b
 have hsp:=hw.sp
 unfold fxP at hg hsp
 obtain ⟨h1,h2⟩:=(Sp_app _ _ _ _).1 hsp
 have hwid:wid [(1,1),(1,2)]=3:=rfl
 rw [hwid,Nat.zero_add] at h2
 have hW:wid ([(1,1),(1,2)]++(tksP mL mD (toksS b)++[syP mL 256]))=3+wid (tksP mL mD (toksS b)++[syP mL 256]):=by rw [wid_app,hwid]
 rw [hW] at hg
 have hlen:=hg.len
 have ht:=text_rd (out:=[]) cd_mL cd_mD hg.bytes hbl (by decide) hm2 hm (l:=toksS b) (P:=3) (by omega) (fun t ht=>⟨toksS_ok hb t ht,fix_usedC (toksS_ok hb t ht)⟩) (chk_toksS b) (by omega) h2
 rw [ex_toksS] at ht
 obtain ⟨r1,r2⟩:=head_rd (out:=[]) (most:=(most:Int)) hg.bytes hbl (k:=1) (by omega) (by omega) h1
 have hfx:wherryref01_Fixed=some (ints mL,ints mD):=by kernel_rfl
 refine grow_tail hg.bytes hbl hlen hg.zero ?_
 rw [show BIG=(BIG-2+1)+1 by simp only [BIG]]
 refine (loop_next (s':=(w.b,((3+wid (tksP mL mD (toksS b)++[syP mL 256]):Nat):Int),0,b,(most:Int),1,1)) ?_).trans g0_exit
 unfold g0S
 exact bndL (s:=true) (cnd_t rfl rfl) (cnd_t rfl (bndL (s:=(w.b,((3+wid (tksP mL mD (toksS b)++[syP mL 256]):Nat):Int),0,b,(most:Int),1,1)) (bnd r1 (bnd rfl (bnd r2 (bndL (s:=(w.b,((3+wid (tksP mL mD (toksS b)++[syP mL 256]):Nat):Int),0,b,(most:Int))) (cnd_f rfl (cnd_t rfl (bnd hfx (bnd ht rfl)))) rfl)))) rfl))
end Go.Abs.Sh

namespace Go.Abs.Sh
set_option linter.unusedVariables false
set_option linter.unusedSimpArgs false
set_option maxRecDepth 100000
def st0:(((List Int)×Int×Int×(List Int)×Int))→Option (((List Int)×Int×Int×(List Int)×Int)⊕(((List Int)×Int×Int×(List Int)×Int)⊕T_wherryref01_reader)):=(fun ((s39,s40,s41,s42,s43):(List Int)×Int×Int×(List Int)×Int) =>
 bindS (S:=Bool) (A:=(((List Int)×Int×Int×(List Int)×Int)⊕(((List Int)×Int×Int×(List Int)×Int)⊕T_wherryref01_reader)))
  (cond ((s41==0))
   ((remO s40 8).bind fun v1 =>
   some (.inl (v1 != 0)))
   (some (.inl false)))
  (fun (s70:Bool) =>
   cond (s70)
    (bindS (S:=(List Int)×Int×Int×(List Int)×Int) (A:=(((List Int)×Int×Int×(List Int)×Int)⊕(((List Int)×Int×Int×(List Int)×Int)⊕T_wherryref01_reader)))
     ((wherryref01_reader_get (T_wherryref01_reader.mk s39 s40 s41 s42 s43) 1).bind fun v7 =>
     cond ((v7.1 != 0))
      ((wherryref01_reader_none v7.2).bind fun v9 =>
      some (.inl (v9.b,v9.at_,v9.bad,v9.out,v9.most)))
      (some (.inl (v7.2.b,v7.2.at_,v7.2.bad,v7.2.out,v7.2.most))))
     (fun ((s76,s77,s78,s79,s80):(List Int)×Int×Int×(List Int)×Int) =>
      some (.inl (s76,s77,s78,s79,s80))) some)
    (some (.inr (.inl (s39,s40,s41,s42,s43))))) some)
def st1 (v85:Int×T_wherryref01_reader):(((List Int)×Int×Int×(List Int)×Int×Int))→Option (((List Int)×Int×Int×(List Int)×Int×Int)⊕(((List Int)×Int×Int×(List Int)×Int)⊕T_wherryref01_reader)):=(fun ((s184,s185,s186,s187,s188,s189):(List Int)×Int×Int×(List Int)×Int×Int) =>
     bindS (S:=Bool) (A:=(((List Int)×Int×Int×(List Int)×Int×Int)⊕(((List Int)×Int×Int×(List Int)×Int)⊕T_wherryref01_reader)))
      (cond ((decide (s189<v85.1)))
       (some (.inl (s186==0)))
       (some (.inl false)))
      (fun (s234:Bool) =>
       cond (s234)
        (bindS (S:=(List Int)×(List Int)×Int×Int×Int) (A:=(((List Int)×Int×Int×(List Int)×Int×Int)⊕(((List Int)×Int×Int×(List Int)×Int)⊕T_wherryref01_reader)))
         ((wherryref01_reader_get (T_wherryref01_reader.mk s184 s185 s186 s187 s188) 8).bind fun v112 =>
         bindS (S:=(List Int)×Int×Int×(List Int)×Int×Bool) (A:=(((List Int)×(List Int)×Int×Int×Int)⊕(((List Int)×Int×Int×(List Int)×Int×Int)⊕(((List Int)×Int×Int×(List Int)×Int)⊕T_wherryref01_reader))))
          (cond ((v112.2.bad==0))
           ((wherryref01_reader_room v112.2 1).bind fun v113 =>
           some (.inl (v113.2.b,v113.2.at_,v113.2.bad,v113.2.out,v113.2.most,v113.1)))
           (some (.inl (v112.2.b,v112.2.at_,v112.2.bad,v112.2.out,v112.2.most,false))))
          (fun ((s257,s258,s259,s260,s261,s262):(List Int)×Int×Int×(List Int)×Int×Bool) =>
           cond (s262)
            ((some (IntKind.u8.wrap v112.1)).bind fun v124 =>
            (appO 1 s260 [v124]).bind fun v125 =>
            some (.inl (v125,s257,s258,s259,s261)))
            (some (.inl (s260,s257,s258,s259,s261)))) some)
         (fun ((s249,s250,s251,s252,s253):(List Int)×(List Int)×Int×Int×Int) =>
          (some (IntKind.i64.wrap (s189+1))).bind fun v144 =>
          some (.inl (s250,s251,s252,s249,s253,v144))) some)
        (some (.inr (.inl (s184,s185,s186,s187,s188))))) some)
theorem pad_loop {B:List Int} (hB:isB B) (hbl:B.length≤10000) {out:List Int} {most:Int} {Q:Nat} (hQ:Q % 8=0) (hQ2:Q≤8 * B.length):∀ (k P fuel:Nat),P+k=Q→k<8→k<fuel→(∀ q,P≤q→q<Q→bitC B q=false) →
  loopF st0 fuel (B,(P:Int),0,out,most)=some (.inl (B,(Q:Int),0,out,most))
 | 0,P,fuel,hk,h8,hf,hz=>by
  obtain ⟨fu,rfl⟩:∃ fu,fuel=fu+1:=⟨fuel-1,by omega⟩
  have hr:=rem_nat P 8 (by omega)
  rw [show ((8:Nat):Int)=8 from rfl,show P % 8=0 by omega] at hr
  have:P=Q:=by omega
  rw [← this]
  refine loop_exit ?_
  unfold st0
  exact bndL (s:=false) (cnd_t rfl (bnd hr rfl)) (cnd_f rfl rfl)
 | k+1,P,fuel,hk,h8,hf,hz=>by
  obtain ⟨fu,rfl⟩:∃ fu,fuel=fu+1:=⟨fuel-1,by omega⟩
  have hr:=rem_nat P 8 (by omega)
  rw [show ((8:Nat):Int)=8 from rfl] at hr
  have hg:=get_rd (out:=out) (most:=most) hB hbl (P:=P) (n:=1) (v:=0) (by omega) (by omega) (by omega) (fun t ht=>by rw [hz _ (by omega) (by omega),Nat.zero_testBit])
  have ih:=pad_loop hB hbl (out:=out) (most:=most) hQ hQ2 k (P+1) fu (by omega) (by omega) (by omega) (fun q hq=>hz q (by omega))
  have hne:((((P % 8:Nat):Int)) != 0)=true:=by rw [bne,beq_eq_false_iff_ne.2 (by omega)]; rfl
  refine (loop_next (s':=(B,((P+1:Nat):Int),0,out,most)) ?_).trans ih
  unfold st0
  exact bndL (s:=true) (cnd_t rfl (bnd hr (congrArg (fun x=>some (Sum.inl x)) hne))) (cnd_t rfl (bndL (s:=(B,((P+1:Nat):Int),0,out,most)) (bnd hg (cnd_f rfl rfl)) rfl))
theorem byte_loop {B:List Int} (hB:isB B) (hbl:B.length≤10000) {most N:Nat} (hm2:most≤5000) {x:T_wherryref01_reader}:∀ (l:List Int) (i P fuel:Nat) (out:List Int),(∀ n∈l,0≤n∧n<256)→i+l.length=N→N≤10000→l.length<fuel→Sp (stP l) P B→P+8 * l.length≤8 * B.length→out.length+l.length≤most →
  loopF (st1 ((N:Int),x)) fuel (B,(P:Int),0,out,(most:Int),(i:Int))=some (.inl (B,((P+8 * l.length:Nat):Int),0,out++l,(most:Int)))
 | [],i,P,fuel,out,hb,hi,hN,hf,hs,hP,ho=>by
  obtain ⟨fu,rfl⟩:∃ fu,fuel=fu+1:=⟨fuel-1,by omega⟩
  rw [List.append_nil,List.length_nil,Nat.mul_zero,Nat.add_zero]
  simp only [List.length_nil] at hi
  refine loop_exit ?_
  unfold st1
  exact bndL (s:=false) (cnd_f (decide_eq_false (by show ¬ (i:Int)<(N:Int); omega)) rfl) (cnd_f rfl rfl)
 | c::l,i,P,fuel,out,hb,hi,hN,hf,hs,hP,ho=>by
  obtain ⟨fu,rfl⟩:∃ fu,fuel=fu+1:=⟨fuel-1,by omega⟩
  have hc:=hb c List.mem_cons_self
  obtain ⟨v,hv⟩:∃ v:Nat,c=(v:Int):=⟨c.toNat,by omega⟩
  have e:stP (c::l)=[(v,8)]++stP l:=by simp [stP,hv]
  rw [e] at hs
  obtain ⟨s1,s2⟩:=(Sp_app _ _ _ _).1 hs
  rw [show wid [(v,8)]=8 from by simp [wid]] at s2
  simp only [List.length_cons] at hi hf hP ho
  have hg:=get_sp (out:=out) (most:=(most:Int)) hB hbl (P:=P) (n:=8) (v:=v) (by omega) (by omega) (by omega) s1
  have hro:=room_rd (B:=B) (P:=((P+8:Nat):Int)) (out:=out) (k:=1) (most:=most) (by omega) (by omega)
  have hap:appO 1 out [(v:Int)]=some (out++[(v:Int)]):=by
   unfold appO
   rw [if_pos (by simp only [List.length_cons,List.length_nil]; omega)]
  have hw:IntKind.u8.wrap (v:Int)=(v:Int):=by
   simp only [IntKind.wrap,IntKind.bits,IntKind.signed]
   have e:(2:Int) ^ 8=256:=by decide
   simp only [e,Bool.false_and,Bool.false_eq_true,if_false]
   omega
  have ih:=byte_loop hB hbl hm2 (x:=x) l (i+1) (P+8) fu (out++[(v:Int)]) (fun n hn=>hb n (List.mem_cons_of_mem _ hn)) (by omega) hN (by omega) s2 (by omega) (by rw [List.length_append,List.length_cons,List.length_nil]; omega)
  rw [List.length_cons,show P+8 * (l.length+1)=P+8+8 * l.length by omega,hv,show out++(v:Int)::l=out++[(v:Int)]++l by simp]
  refine (loop_next (s':=(B,((P+8:Nat):Int),0,out++[(v:Int)],(most:Int),((i+1:Nat):Int))) ?_).trans ih
  unfold st1
  exact bndL (s:=true) (cnd_t (decide_eq_true (by show (i:Int)<(N:Int); omega)) rfl) (cnd_t rfl (bndL (s:=(out++[(v:Int)],B,((P+8:Nat):Int),0,(most:Int))) (bnd hg (bndL (s:=(B,((P+8:Nat):Int),0,out,(most:Int),true)) (cnd_t rfl (bnd hro rfl)) (cnd_t rfl (bnd (congrArg some hw) (bnd hap rfl))))) (bnd (congrArg some (wrap_succ (n:=i) (by omega))) rfl)))
theorem stored_rd {b:List Int} (hb:∀ n∈b,0≤n∧n<256) (hl:b.length≤4096) {B:List Int} (hB:isB B) (hbl:B.length≤10000) {most:Nat} (hm:b.length≤most) (hm2:most≤5000) (hs:Sp ([(0,5),(b.length,16),(65535-b.length,16)]++stP b) 3 B) (hlen:40+8 * b.length≤8 * B.length) :
  wherryref01_reader_stored (T_wherryref01_reader.mk B ((3:Nat):Int) 0 [] (most:Int))=some (T_wherryref01_reader.mk B ((40+8 * b.length:Nat):Int) 0 b (most:Int)):=by
 obtain ⟨s1,s2⟩:=(Sp_app _ _ _ _).1 hs
 obtain ⟨a1,a2,a3,_⟩:=s1
 rw [show wid [(0,5),(b.length,16),(65535-b.length,16)]=37 from by simp [wid]] at s2
 have e16:(2:Nat) ^ 16=65536:=by decide
 have hp:=pad_loop hB hbl (out:=[]) (most:=(most:Int)) (Q:=8) (by omega) (by omega) 5 3 BIG (by omega) (by omega) (by simp only [BIG]; omega) (fun q h1 h2=>by
  have:=a1 (q-3) (by show q-3<5; omega)
  rw [show 3+(q-3)=q by omega,Nat.zero_testBit] at this
  exact this)
 have g1:=get_rd (out:=[]) (most:=(most:Int)) hB hbl (P:=8) (n:=16) (v:=b.length) (by omega) (by omega) (by omega) a2
 have g2:=get_rd (out:=[]) (most:=(most:Int)) hB hbl (P:=24) (n:=16) (v:=65535-b.length) (by omega) (by omega) (by omega) a3
 have hw:IntKind.i64.wrap ((b.length:Int)+((65535-b.length:Nat):Int))=65535:=by rw [wrap_i64 (by omega) (by omega)]; omega
 have hby:=byte_loop hB hbl hm2 (N:=b.length) (x:=T_wherryref01_reader.mk B ((24:Nat):Int) 0 [] (most:Int)) b 0 40 BIG [] hb (by omega) (by omega) (by simp only [BIG]; omega) s2 (by omega) (by simpa using hm)
 unfold wherryref01_reader_stored
 exact bndL hp (bnd g1 (bndL (s:=(B,((40:Nat):Int),0,[],(most:Int))) (bnd g2 (bndL (s:=false) (cnd_t rfl (bnd (congrArg some hw) rfl)) (cnd_f rfl rfl))) (bndL hby rfl)))
theorem grow_stored {b:List Int} (hb:∀ n∈b,0≤n∧n<256) (hl:b.length≤4096) {w:T_shrink_writer} (hw:WP w (stQ b)) (hbl:w.b.length≤10000) {most:Nat} (hm:b.length≤most) (hm2:most≤5000):wherryref01_Grow w.b (most:Int)=some (b,1,0):=by
 have hg:=hw.good
 have hsp:=hw.sp
 have e:stQ b=[(1,1),(0,2)]++([(0,5),(b.length,16),(65535-b.length,16)]++stP b):=by simp [stQ]
 have hW:wid (stQ b)=40+8 * b.length:=by
  rw [e,wid_app,wid_app,wid_st]
  simp [wid]
  omega
 rw [hW] at hg
 rw [e] at hsp
 obtain ⟨h1,h2⟩:=(Sp_app _ _ _ _).1 hsp
 rw [show wid [(1,1),(0,2)]=3 from rfl,Nat.zero_add] at h2
 have hlen:=hg.len
 obtain ⟨r1,r2⟩:=head_rd (out:=[]) (most:=(most:Int)) hg.bytes hbl (k:=0) (by omega) (by omega) h1
 have hst:=stored_rd hb hl hg.bytes hbl hm hm2 h2 (by omega)
 refine grow_tail hg.bytes hbl hlen hg.zero ?_
 rw [show BIG=(BIG-2+1)+1 by simp only [BIG]]
 refine (loop_next (s':=(w.b,((40+8 * b.length:Nat):Int),0,b,(most:Int),1,1)) ?_).trans g0_exit
 unfold g0S
 exact bndL (s:=true) (cnd_t rfl rfl) (cnd_t rfl (bndL (s:=(w.b,((40+8 * b.length:Nat):Int),0,b,(most:Int),1,1)) (bnd r1 (bnd rfl (bnd r2 (bndL (s:=(w.b,((40+8 * b.length:Nat):Int),0,b,(most:Int))) (cnd_t rfl (cnd_t rfl (bnd hst rfl))) rfl)))) rfl))
end Go.Abs.Sh
