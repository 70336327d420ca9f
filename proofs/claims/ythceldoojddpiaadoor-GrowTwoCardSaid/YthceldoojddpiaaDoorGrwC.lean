import Derived.Test.YthceldoojddpiaaDoorGrwB
import Derived.KernelRfl
namespace Go.Abs.Sh
set_option linter.unusedVariables false
set_option linter.unusedSimpArgs false
set_option maxRecDepth 100000
def gsS (n:Int):(((List Int)×Int×(List Int)×Int×Int×Int))→Option (((List Int)×Int×(List Int)×Int×Int×Int)⊕(((List Int)×Int×(List Int)×Int×Int)⊕(Int×T_grow_stream))):=(fun ((s24,s25,s26,s27,s28,s29):(List Int)×Int×(List Int)×Int×Int×Int) =>
     cond ((decide (s29<n)))
      ((grow_stream_number (T_grow_stream.mk s24 s25 s26 s27 s28) 8).bind fun v10 =>
      cond ((v10.2.1 != 0))
       (some (.inr (.inr ((v10.2.1,v10.2.2)))))
       ((grow_stream_literal v10.2.2 v10.1).bind fun v12 =>
       cond ((v12.1 != 0))
        (some (.inr (.inr ((v12.1,v12.2)))))
        ((some (IntKind.i64.wrap (s29+1))).bind fun v14 =>
        some (.inl (v12.2.b,v12.2.at_,v12.2.out,v12.2.most,v12.2.blocks,v14)))))
      (some (.inr (.inl (s24,s25,s26,s27,s28)))))
def glS (v4:Int):(((List Int)×Int×(List Int)×Int×Int×(List Int)×Int))→Option (((List Int)×Int×(List Int)×Int×Int×(List Int)×Int)⊕(((List Int)×Int×(List Int)×Int×Int×(List Int))⊕((List Int)×Int×T_grow_stream))):=(fun ((s22,s23,s24,s25,s26,s27,s28):(List Int)×Int×(List Int)×Int×Int×(List Int)×Int) =>
  cond ((decide (s28<v4)))
   ((ixO s28 19).bind fun v6 =>
   (getO grow_rowOrder (0+v6 * 1)).bind fun v7 =>
   (grow_stream_number (T_grow_stream.mk s22 s23 s24 s25 s26) 3).bind fun v8 =>
   (ixO v7 s27.length).bind fun v9 =>
   (some (s27.set v9 v8.1)).bind fun v10 =>
   cond ((v8.2.1 != 0))
    (some (.inr (.inr (([],v8.2.1,v8.2.2)))))
    ((some (IntKind.i64.wrap (s28+1))).bind fun v12 =>
    some (.inl (v8.2.2.b,v8.2.2.at_,v8.2.2.out,v8.2.2.most,v8.2.2.blocks,v10,v12))))
   (some (.inr (.inl (s22,s23,s24,s25,s26,s27)))))
def grS (code:List Int) (n:Int):(((List Int)×Int×(List Int)×Int×Int×(List Int)))→Option (((List Int)×Int×(List Int)×Int×Int×(List Int))⊕(((List Int)×Int×(List Int)×Int×Int×(List Int))⊕((List Int)×Int×T_grow_stream))):=(fun ((s123,s124,s125,s126,s127,s128):(List Int)×Int×(List Int)×Int×Int×(List Int)) =>
 cond ((decide ((s128.length:Int)<n)))
  ((grow_stream_symbol (T_grow_stream.mk s123 s124 s125 s126 s127) code).bind fun v2 =>
  cond ((v2.2.1 != 0))
   (some (.inr (.inr (([],v2.2.1,v2.2.2)))))
   (bindS (S:=Int×Int×Int) (A:=(((List Int)×Int×(List Int)×Int×Int×(List Int))⊕(((List Int)×Int×(List Int)×Int×Int×(List Int))⊕((List Int)×Int×T_grow_stream))))
    (bindS (S:=Int×Int×Int) (A:=((Int×Int×Int)⊕(((List Int)×Int×(List Int)×Int×Int×(List Int))⊕(((List Int)×Int×(List Int)×Int×Int×(List Int))⊕((List Int)×Int×T_grow_stream)))))
     (cond ((v2.1==16))
      (cond (((s128.length:Int)==0))
       (some (.inr (.inr (.inr (.inr (([],3,v2.2.2)))))))
       ((some (IntKind.i64.wrap ((s128.length:Int)-1))).bind fun v6 =>
       (ixO v6 s128.length).bind fun v72 =>
       (getO s128 v72).bind fun v73 =>
       some (.inl (v73,3,2))))
      (cond ((v2.1==17))
       (some (.inl (0,3,3)))
       (cond ((v2.1==18))
        (some (.inl (0,11,7)))
        (some (.inl (v2.1,1,0))))))
     (fun ((s220,s221,s222):Int×Int×Int) =>
      some (.inl (s220,s221,s222))) some)
    (fun ((s210,s211,s212):Int×Int×Int) =>
     (grow_stream_number v2.2.2 s212).bind fun v39 =>
     cond ((v39.2.1 != 0))
      (some (.inr (.inr (([],v39.2.1,v39.2.2)))))
      ((some (IntKind.i64.wrap (s211+v39.1))).bind fun v41 =>
      (some (IntKind.i64.wrap (n-(s128.length:Int)))).bind fun v42 =>
      cond ((decide (v42<v41)))
       (some (.inr (.inr (([],3,v39.2.2)))))
       ((some (IntKind.i64.wrap (s211+v39.1))).bind fun v44 =>
       bindS (S:=((List Int))) (A:=(((List Int)×Int×(List Int)×Int×Int×(List Int))⊕(((List Int)×Int×(List Int)×Int×Int×(List Int))⊕((List Int)×Int×T_grow_stream))))
        (loopF (S:=((List Int)×Int)) (O:=((List Int))⊕(((List Int)×Int×(List Int)×Int×Int×(List Int))⊕(((List Int)×Int×(List Int)×Int×Int×(List Int))⊕((List Int)×Int×T_grow_stream)))) (fun ((s236,s237):(List Int)×Int) =>
         cond ((decide (s237<v44)))
          ((appO 8 s236 [s210]).bind fun v46 =>
          (some (IntKind.i64.wrap (s237+1))).bind fun v47 =>
          some (.inl (v46,v47)))
          (some (.inr (.inl s236))))
         BIG (s128,0))
        (fun (s239:(List Int)) =>
         some (.inl (v39.2.2.b,v39.2.2.at_,v39.2.2.out,v39.2.2.most,v39.2.2.blocks,s239))) some))) some))
  (some (.inr (.inl (s123,s124,s125,s126,s127,s128)))))
def gqS (v44 s210:Int):(((List Int)×Int))→Option (((List Int)×Int)⊕(((List Int))⊕(((List Int)×Int×(List Int)×Int×Int×(List Int))⊕(((List Int)×Int×(List Int)×Int×Int×(List Int))⊕((List Int)×Int×T_grow_stream))))):=(fun ((s236,s237):(List Int)×Int) =>
         cond ((decide (s237<v44)))
          ((appO 8 s236 [s210]).bind fun v46 =>
          (some (IntKind.i64.wrap (s237+1))).bind fun v47 =>
          some (.inl (v46,v47)))
          (some (.inr (.inl s236))))
def gdS:(((List Int)×Int×(List Int)×Int×Int×Bool))→Option (((List Int)×Int×(List Int)×Int×Int×Bool)⊕(((List Int)×Int×(List Int)×Int×Int)⊕((Option T_grow_stream)×Int))):=(fun ((s18,s19,s20,s21,s22,s23):(List Int)×Int×(List Int)×Int×Int×Bool) =>
     cond ((!s23))
      ((grow_stream_block (T_grow_stream.mk s18 s19 s20 s21 s22)).bind fun v7 =>
      cond ((v7.2.1 != 0))
       (some (.inr (.inr ((none,v7.2.1)))))
       ((some (IntKind.i64.wrap (v7.2.2.blocks+1))).bind fun v9 =>
       some (.inl (v7.2.2.b,v7.2.2.at_,v7.2.2.out,v7.2.2.most,v9,v7.1))))
      (some (.inr (.inl (s18,s19,s20,s21,s22)))))
/-! The program's reader of blocks. -/
theorem gpad {B:List Int} (hB:isB B) (hbl:B.length≤10000) {P Q:Nat} (hQ:Q % 8=0) (h1:P≤Q) (h2:Q<P+8) (hQ2:Q≤8 * B.length) (hz:∀ q,P≤q→q<Q→bitC B q=false) {out:List Int} {most bl:Int} :
  grow_stream_pad (T_grow_stream.mk B (P:Int) out most bl)=some (0,T_grow_stream.mk B (Q:Int) out most bl):=by
 have r1:=rem_nat P 8 (by omega)
 rw [show ((8:Nat):Int)=8 from rfl] at r1
 have w1:IntKind.i64.wrap (8-((P % 8:Nat):Int))=((8-P % 8:Nat):Int):=by rw [wrap_i64 (by omega) (by omega)]; omega
 have r2:=rem_nat (8-P % 8) 8 (by omega)
 rw [show ((8:Nat):Int)=8 from rfl] at r2
 have hn:P+(8-P % 8) % 8=Q:=by omega
 have g:=gnum hB hbl (P:=P) (n:=(8-P % 8) % 8) (v:=0) (out:=out) (most:=most) (bl:=bl) (by omega) (by omega) (Nat.two_pow_pos _) (fun t ht=>by rw [hz _ (by omega) (by omega),Nat.zero_testBit])
 rw [hn] at g
 unfold grow_stream_pad
 exact bnd r1 (bnd (congrArg some w1) (bnd r2 (bnd g (cnd_f rfl (cnd_f rfl rfl)))))
theorem xorc (n:Nat) (h:n<65536):bits .xor .i64 (n:Int) ((65535-n:Nat):Int)=65535:=by
 have e:(BitVec.ofInt 64 (n:Int) ^^^ BitVec.ofInt 64 ((65535-n:Nat):Int)).toNat=65535:=by
  rw [BitVec.toNat_xor,BitVec.ofInt_natCast,BitVec.ofInt_natCast,BitVec.toNat_ofNat,BitVec.toNat_ofNat,Nat.mod_eq_of_lt (by omega),Nat.mod_eq_of_lt (by omega)]
  refine Nat.eq_of_testBit_eq fun i => ?_
  rw [Nat.testBit_xor]
  have h1:=Nat.testBit_two_pow_sub_succ (x:=n) (n:=16) (by omega) i
  rw [show 2 ^ 16-(n+1)=65535-n by omega] at h1
  have h2:(65535:Nat).testBit i=decide (i<16):=by rw [show (65535:Nat)=2 ^ 16-1 from rfl,Nat.testBit_two_pow_sub_one]
  rw [h1,h2]
  by_cases hi:i<16
  ·cases hb:n.testBit i <;> simp [hi]
  ·have:n.testBit i=false:=Nat.testBit_lt_two_pow (Nat.lt_of_lt_of_le h (show (65536:Nat)≤2 ^ i from Nat.pow_le_pow_right (show 0<2 by omega) (show 16≤i by omega)))
   simp [hi,this]
 show IntKind.i64.wrap ((BitVec.ofInt 64 (n:Int) ^^^ BitVec.ofInt 64 ((65535-n:Nat):Int)).toNat:Int)=_
 rw [e]
 exact wrap_i64 (by omega) (by omega)
theorem gst_loop {B:List Int} (hB:isB B) (hbl:B.length≤10000) {most N:Nat} {bl:Int} (hm2:most≤5000):∀ (l:List Int) (i P fuel:Nat) (out:List Int),(∀ n∈l,0≤n∧n<256)→i+l.length=N→N≤10000→l.length<fuel→Sp (stP l) P B→P+8 * l.length≤8 * B.length→out.length+l.length≤most →
  loopF (gsS (N:Int)) fuel (B,(P:Int),out,(most:Int),bl,(i:Int))=some (.inl (B,((P+8 * l.length:Nat):Int),out++l,(most:Int),bl))
 | [],i,P,fuel,out,hb,hi,hN,hf,hs,hP,ho=>by
  obtain ⟨fu,rfl⟩:∃ fu,fuel=fu+1:=⟨fuel-1,by omega⟩
  rw [List.append_nil,List.length_nil,Nat.mul_zero,Nat.add_zero]
  simp only [List.length_nil] at hi
  exact loop_exit (cnd_f (decide_eq_false (by omega)) rfl)
 | c::l,i,P,fuel,out,hb,hi,hN,hf,hs,hP,ho=>by
  obtain ⟨fu,rfl⟩:∃ fu,fuel=fu+1:=⟨fuel-1,by omega⟩
  have hc:=hb c List.mem_cons_self
  obtain ⟨v,hv⟩:∃ v:Nat,c=(v:Int):=⟨c.toNat,by omega⟩
  have e:stP (c::l)=[(v,8)]++stP l:=by simp [stP,hv]
  rw [e] at hs
  obtain ⟨s1,s2⟩:=(Sp_app _ _ _ _).1 hs
  rw [show wid [(v,8)]=8 from by simp [wid]] at s2
  simp only [List.length_cons] at hi hf hP ho
  have hg:=gnum_sp (out:=out) (most:=(most:Int)) (bl:=bl) hB hbl (P:=P) (n:=8) (v:=v) (by omega) (by omega) (by omega) s1
  have hl:=glit_ok (B:=B) (P:=((P+8:Nat):Int)) (bl:=bl) (out:=out) (A:=v) (most:=most) (by omega) (by omega) hm2
  have ih:=gst_loop hB hbl (bl:=bl) hm2 l (i+1) (P+8) fu (out++[(v:Int)]) (fun n hn=>hb n (List.mem_cons_of_mem _ hn)) (by omega) hN (by omega) s2 (by omega) (by rw [List.length_append,List.length_cons,List.length_nil]; omega)
  rw [List.length_cons,show P+8 * (l.length+1)=P+8+8 * l.length by omega,hv,show out++(v:Int)::l=out++[(v:Int)]++l by simp]
  exact (loop_next (cnd_t (decide_eq_true (by omega)) (bnd hg (cnd_f rfl (bnd hl (cnd_f rfl (bnd (congrArg some (wrap_succ (n:=i) (by omega))) rfl))))))).trans ih
theorem gst_no {B:List Int} (hB:isB B) (hbl:B.length≤10000) {most N:Nat} {bl:Int} (hm2:most≤5000):∀ (l:List Int) (i P fuel:Nat) (out:List Int),(∀ n∈l,0≤n∧n<256)→i+l.length=N→N≤10000→l.length<fuel→Sp (stP l) P B→P+8 * l.length≤8 * B.length→most<out.length+l.length→out.length≤most →
  ∃ s,loopF (gsS (N:Int)) fuel (B,(P:Int),out,(most:Int),bl,(i:Int))=some (.inr (2,s))
 | [],i,P,fuel,out,hb,hi,hN,hf,hs,hP,ho,ho2=>by
  simp only [List.length_nil] at ho; omega
 | c::l,i,P,fuel,out,hb,hi,hN,hf,hs,hP,ho,ho2=>by
  obtain ⟨fu,rfl⟩:∃ fu,fuel=fu+1:=⟨fuel-1,by omega⟩
  have hc:=hb c List.mem_cons_self
  obtain ⟨v,hv⟩:∃ v:Nat,c=(v:Int):=⟨c.toNat,by omega⟩
  have e:stP (c::l)=[(v,8)]++stP l:=by simp [stP,hv]
  rw [e] at hs
  obtain ⟨s1,s2⟩:=(Sp_app _ _ _ _).1 hs
  rw [show wid [(v,8)]=8 from by simp [wid]] at s2
  simp only [List.length_cons] at hi hf hP ho
  have hg:=gnum_sp (out:=out) (most:=(most:Int)) (bl:=bl) hB hbl (P:=P) (n:=8) (v:=v) (by omega) (by omega) (by omega) s1
  by_cases hr:out.length+1≤most
  ·have hl:=glit_ok (B:=B) (P:=((P+8:Nat):Int)) (bl:=bl) (out:=out) (A:=v) (most:=most) (by omega) hr hm2
   obtain ⟨s,ih⟩:=gst_no hB hbl (bl:=bl) hm2 l (i+1) (P+8) fu (out++[(v:Int)]) (fun n hn=>hb n (List.mem_cons_of_mem _ hn)) (by omega) hN (by omega) s2 (by omega) (by rw [List.length_append,List.length_cons,List.length_nil]; omega) (by rw [List.length_append,List.length_cons,List.length_nil]; omega)
   exact ⟨s,(loop_next (cnd_t (decide_eq_true (by omega)) (bnd hg (cnd_f rfl (bnd hl (cnd_f rfl (bnd (congrArg some (wrap_succ (n:=i) (by omega))) rfl))))))).trans ih⟩
  ·have hl:=glit_no (B:=B) (P:=((P+8:Nat):Int)) (bl:=bl) (out:=out) (A:=v) (most:=most) (by omega) (by omega)
   exact ⟨_,loop_exit (cnd_t (decide_eq_true (by omega)) (bnd hg (cnd_f rfl (bnd hl (cnd_t rfl rfl)))))⟩
theorem gstored {b:List Int} (hb:∀ n∈b,0≤n∧n<256) (hl:b.length≤4096) {B:List Int} (hB:isB B) (hbl:B.length≤10000) {most P0:Nat} {bl:Int} {out:List Int} (h0:P0 % 8=0) (hm2:most≤5000) (hs:Sp ([(0,5),(b.length,16),(65535-b.length,16)]++stP b) (P0+3) B) (hlen:P0+40+8 * b.length≤8 * B.length) (hm:out.length≤most) :
  (out.length+b.length≤most→grow_stream_stored (T_grow_stream.mk B ((P0+3:Nat):Int) out (most:Int) bl)=some (0,T_grow_stream.mk B ((P0+40+8 * b.length:Nat):Int) (out++b) (most:Int) bl)) ∧
  (most<out.length+b.length→∃ s,grow_stream_stored (T_grow_stream.mk B ((P0+3:Nat):Int) out (most:Int) bl)=some (2,s)):=by
 obtain ⟨s1,s2⟩:=(Sp_app _ _ _ _).1 hs
 obtain ⟨a1,a2,a3,_⟩:=s1
 rw [show wid [(0,5),(b.length,16),(65535-b.length,16)]=37 from by simp [wid]] at s2
 simp only at a1 a2 a3
 have e16:(2:Nat) ^ 16=65536:=by decide
 have hp:=gpad hB hbl (out:=out) (most:=(most:Int)) (bl:=bl) (P:=P0+3) (Q:=P0+8) (by omega) (by omega) (by omega) (by omega) (fun q h1 h2=>by
  have:=a1 (q-(P0+3)) (by omega)
  rw [show P0+3+(q-(P0+3))=q by omega,Nat.zero_testBit] at this
  exact this)
 have g1:=gnum (out:=out) (most:=(most:Int)) (bl:=bl) hB hbl (P:=P0+8) (n:=16) (v:=b.length) (by omega) (by omega) (by omega) a2
 have g2:=gnum (out:=out) (most:=(most:Int)) (bl:=bl) hB hbl (P:=P0+24) (n:=16) (v:=65535-b.length) (by omega) (by omega) (by omega) a3
 have hx:=xorc b.length (by omega)
 unfold grow_stream_stored
 refine ⟨fun hr => ?_,fun hr => ?_⟩
 ·have hby:=gst_loop hB hbl (bl:=bl) hm2 (N:=b.length) b 0 (P0+40) BIG out hb (by omega) (by omega) (by simp only [BIG]; omega) s2 (by omega) hr
  exact bnd hp (cnd_f rfl (bnd g1 (cnd_f rfl (bnd g2 (cnd_f rfl (bnd (congrArg some hx) (cnd_f rfl (bndL hby rfl))))))))
 ·obtain ⟨s,hby⟩:=gst_no hB hbl (bl:=bl) hm2 (N:=b.length) b 0 (P0+40) BIG out hb (by omega) (by omega) (by simp only [BIG]; omega) s2 (by omega) hr hm
  exact ⟨s,bnd hp (cnd_f rfl (bnd g1 (cnd_f rfl (bnd g2 (cnd_f rfl (bnd (congrArg some hx) (cnd_f rfl (bndR hby rfl))))))))⟩
/-! The row's code,the row. -/
theorem gord_eq:grow_rowOrder=ints ordN:=by kernel_rfl
theorem gl_loop {m:List Nat} {od:List Nat} (hod:od.length≤19) (ho:∀ j,j<od.length→od.getD j 0=m.getD (ordN.getD j 0) 0) (hb:∀ x∈od,x<8) {B:List Int} (hB:isB B) (hbl:B.length≤10000) {out:List Int} {most bl:Int}:∀ (k i P fuel:Nat),i+k=od.length→k<fuel→Sp (nP 3 (od.drop i)) P B→P+3 * k≤8 * B.length →
  loopF (glS (od.length:Int)) fuel (B,(P:Int),out,most,bl,ints (pls m i),(i:Int))=some (.inl (B,((P+3 * k:Nat):Int),out,most,bl,ints (pls m od.length)))
 | 0,i,P,fuel,hk,hf,hs,hP=>by
  obtain ⟨fu,rfl⟩:∃ fu,fuel=fu+1:=⟨fuel-1,by omega⟩
  rw [show od.length=i by omega]
  exact loop_exit (cnd_f (decide_eq_false (by omega)) rfl)
 | k+1,i,P,fuel,hk,hf,hs,hP=>by
  obtain ⟨fu,rfl⟩:∃ fu,fuel=fu+1:=⟨fuel-1,by omega⟩
  have hi:i<od.length:=by omega
  rw [List.drop_eq_getElem_cons hi] at hs
  obtain ⟨s1,s2⟩:=(Sp_app [(od[i],3)] (nP 3 (od.drop (i+1))) P B).1 hs
  rw [show wid [(od[i],3)]=3 from rfl] at s2
  have hx:=hb _ (List.getElem_mem hi)
  have hg:=gnum_sp (out:=out) (most:=most) (bl:=bl) hB hbl (P:=P) (n:=3) (v:=od[i]) (by omega) (by omega) (by omega) s1
  have ih:=gl_loop hod ho hb hB hbl (out:=out) (most:=most) (bl:=bl) k (i+1) (P+3) fu (by omega) (by omega) s2 (by omega)
  have hio:i<ordN.length:=show i<19 by omega
  have hgo:getO grow_rowOrder (0+i * 1)=some ((ordN.getD i 0:Nat):Int):=by
   rw [Nat.zero_add,Nat.mul_one,gord_eq,ints_get hio,List.getD_eq_getElem?_getD,List.getElem?_eq_getElem hio]; rfl
  have h19:=ord_lt2 i (by omega)
  have hset:(ints (pls m i)).set (ordN.getD i 0) ((od[i]:Nat):Int)=ints (pls m (i+1)):=by
   have e:od[i]=m.getD (ordN.getD i 0) 0:=by rw [← ho i hi,List.getD_eq_getElem?_getD,List.getElem?_eq_getElem hi]; rfl
   rw [ints_setL,← pls_step m (by omega),e]
  rw [show P+3 * (k+1)=P+3+3 * k by omega]
  exact (loop_next (cnd_t (decide_eq_true (by omega)) (bnd (ixO_of (show i<19 by omega)) (bnd hgo (bnd hg (bnd (ixO_of (by rw [ints_len,pls_len]; exact h19)) (bnd (congrArg some hset) (cnd_f rfl (bnd (congrArg some (wrap_succ (n:=i) (by omega))) rfl))))))))).trans ih
theorem gq_loop (x:Int) {n:Nat} (hn:n≤400):∀ (k i fuel:Nat) (s:List Int),i+k=n→k<fuel→s.length+k≤400→loopF (gqS (n:Int) x) fuel (s,(i:Int))=some (.inl (s++List.replicate k x))
 | 0,i,fuel,s,hk,hf,hs=>by
  obtain ⟨fu,rfl⟩:∃ fu,fuel=fu+1:=⟨fuel-1,by omega⟩
  rw [List.replicate_zero,List.append_nil]
  exact loop_exit (cnd_f (decide_eq_false (by omega)) rfl)
 | k+1,i,fuel,s,hk,hf,hs=>by
  obtain ⟨fu,rfl⟩:∃ fu,fuel=fu+1:=⟨fuel-1,by omega⟩
  have ih:=gq_loop x hn k (i+1) fu (s++[x]) (by omega) (by omega) (by simp; omega)
  rw [List.replicate_succ,List.append_cons]
  exact (loop_next (cnd_t (decide_eq_true (by omega)) (bnd (app_of (m:=[x]) (by simp; omega) (by simp; omega)) (bnd (congrArg some (wrap_succ (n:=i) (by omega))) rfl)))).trans ih
theorem grw_loop {L:List Nat} (hv:∀ x∈L,x≤15) (hl:L.length≤320) {m:List Nat} (hm:Cd m) {B:List Int} (hB:isB B) (hbl:B.length≤10000) {out:List Int} {most bl:Int}:∀ (k i P fuel:Nat),i≤L.length→L.length-i≤k→k<fuel→(∀ p∈rwn (rowF (ints L) k i),m.getD p.1 0≠0)→Sp (rwP m (rwn (rowF (ints L) k i))) P B→P+wid (rwP m (rwn (rowF (ints L) k i)))≤8 * B.length →
  loopF (grS (ints m) ((L.length:Nat):Int)) fuel (B,(P:Int),out,most,bl,(ints L).take i)=some (.inl (B,((P+wid (rwP m (rwn (rowF (ints L) k i))):Nat):Int),out,most,bl,ints L))
 | k,i,P,fuel,hi,hk,hf,hu,hs,hP=>by
  obtain ⟨fu,rfl⟩:∃ fu,fuel=fu+1:=⟨fuel-1,by omega⟩
  have hLl:(ints L).length=L.length:=ints_len L
  have hlen:((ints L).take i).length=i:=by rw [List.length_take]; omega
  by_cases hlt:i<L.length
  ·obtain ⟨k,rfl⟩:∃ k',k=k'+1:=⟨k-1,by omega⟩
   have hlt2:i<(ints L).length:=by omega
   rw [rowF,if_pos hlt2] at hu hs hP ⊢
   obtain ⟨c1,c2,c3,c4⟩:=stp_cnt hlt2
   obtain ⟨o1,o2,o3⟩:=stp_row (ints_ok hv) hlt2
   have hle:=run_le (ints L) i
   have hsb:=stp_back (ints_ok hv) hlt2
   generalize hst:stpL (ints L) i=st at *
   obtain ⟨sy_,mo_,ct_⟩:=st
   simp only at c1 c2 c3 c4 o1 o2 o3 hsb hu hs hP ⊢
   obtain ⟨s,rfl⟩:∃ s:Nat,sy_=(s:Int):=⟨sy_.toNat,by omega⟩
   rw [Int.toNat_natCast] at o3
   have er:rwP m (rwn (((s:Int),mo_)::rowF (ints L) k (i+ct_)))=[syP m s]++([(mo_,rwm s)]++rwP m (rwn (rowF (ints L) k (i+ct_)))):=rfl
   rw [er] at hs hP ⊢
   obtain ⟨s1,s23⟩:=(Sp_app _ _ _ _).1 hs
   obtain ⟨s2,s3⟩:=(Sp_app _ _ _ _).1 s23
   rw [wid_app,wid_app] at hP ⊢
   have w1:wid [syP m s]=m.getD s 0:=by simp [wid,syP]
   have w2:wid [(mo_,rwm s)]=rwm s:=by simp [wid]
   rw [w1] at hP s2 s3 ⊢
   rw [w2] at hP s3 ⊢
   have hus:m.getD s 0≠0:=hu (s,mo_) List.mem_cons_self
   have g1:=gsym (out:=out) (most:=most) (bl:=bl) hm hB hbl (j:=s) hus (P:=P) (by omega) s1
   have ih:=grw_loop hv hl hm hB hbl (out:=out) (most:=most) (bl:=bl) k (i+ct_) (P+m.getD s 0+rwm s) fu (by omega) (by omega) (by omega) (fun p hp=>hu p (List.mem_cons_of_mem _ hp)) s3 (by omega)
   rw [show P+(m.getD s 0+(rwm s+wid (rwP m (rwn (rowF (ints L) k (i+ct_))))))=P+m.getD s 0+rwm s+wid (rwP m (rwn (rowF (ints L) k (i+ct_)))) by omega]
   have key:loopF (gqS ((ct_:Nat):Int) ((ints L).getD i 0)) BIG ((ints L).take i,0)=some (.inl ((ints L).take (i+ct_))):=by
    have:=gq_loop ((ints L).getD i 0) (n:=ct_) (by omega) ct_ 0 BIG ((ints L).take i) (by omega) (by simp only [BIG]; omega) (by rw [hlen]; omega)
    rw [show ((0:Nat):Int)=0 from rfl] at this
    rw [this,take_run (by omega) c2]
   refine (loop_next (s':=(B,((P+m.getD s 0+rwm s:Nat):Int),out,most,bl,(ints L).take (i+ct_))) ?_).trans ih
   have hc:decide ((((ints L).take i).length:Int)<((L.length:Nat):Int))=true:=decide_eq_true (by omega)
   have wn:IntKind.i64.wrap (((L.length:Nat):Int)-(((ints L).take i).length:Int))=((L.length-i:Nat):Int):=by rw [hlen]; exact wrS (a:=L.length) (b:=i) (by omega) (by omega)
   have g2:=gnum_sp (out:=out) (most:=most) (bl:=bl) hB hbl (P:=P+m.getD s 0) (n:=rwm s) (v:=mo_) (by have:=rwm_le s; omega) (by omega) o3 s2
   have tail:∀ (v least:Int),v=(ints L).getD i 0→IntKind.i64.wrap (least+(mo_:Int))=((ct_:Nat):Int) →
     (grow_stream_number (T_grow_stream.mk B ((P+m.getD s 0:Nat):Int) out most bl) ((rwm s:Nat):Int)).bind (fun v39 =>
       cond ((v39.2.1 != 0))
        (some (.inr (.inr (([],v39.2.1,v39.2.2)))))
        ((some (IntKind.i64.wrap (least+v39.1))).bind fun v41 =>
        (some (IntKind.i64.wrap (((L.length:Nat):Int)-(((ints L).take i).length:Int)))).bind fun v42 =>
        cond ((decide (v42<v41)))
         (some (.inr (.inr (([],3,v39.2.2)))))
         ((some (IntKind.i64.wrap (least+v39.1))).bind fun v44 =>
         bindS (S:=((List Int))) (A:=(((List Int)×Int×(List Int)×Int×Int×(List Int))⊕(((List Int)×Int×(List Int)×Int×Int×(List Int))⊕((List Int)×Int×T_grow_stream))))
          (loopF (gqS v44 v) BIG ((ints L).take i,0))
          (fun (s239:(List Int)) =>
           some (.inl (v39.2.2.b,v39.2.2.at_,v39.2.2.out,v39.2.2.most,v39.2.2.blocks,s239))) some)))=some (.inl (B,((P+m.getD s 0+rwm s:Nat):Int),out,most,bl,(ints L).take (i+ct_))):=fun v least h1 h2=>by
    subst h1
    exact bnd g2 (cnd_f rfl (bnd (congrArg some h2) (bnd (congrArg some wn) (cnd_f (decide_eq_false (by omega)) (bnd (congrArg some h2) (bndL key rfl))))))
   unfold grS
   refine cnd_t hc (bnd g1 (cnd_f rfl ?_))
   rcases hsb with ⟨q1,q2,q3⟩ | ⟨q1,q2,q3⟩ | ⟨q1,q0,q2,q3⟩ | ⟨q1,q2,q3,q4⟩
   ·obtain rfl:s=18:=by omega
    exact bndL (s:=(0,11,7)) (bndL (s:=(0,11,7)) (cnd_f rfl (cnd_f rfl (cnd_t rfl rfl))) rfl) (tail 0 11 q2.symm (by rw [q3]; exact wrA 11 mo_ (by omega)))
   ·obtain rfl:s=17:=by omega
    exact bndL (s:=(0,3,3)) (bndL (s:=(0,3,3)) (cnd_f rfl (cnd_t rfl rfl)) rfl) (tail 0 3 q2.symm (by rw [q3]; exact wrA 3 mo_ (by omega)))
   ·obtain rfl:s=16:=by omega
    have hi1:i-1<((ints L).take i).length:=by omega
    have hg1:getO ((ints L).take i) (i-1)=some ((ints L).getD i 0):=by
     rw [getO_of hi1,← q2,getDa (show i-1<(ints L).length by omega),List.getElem_take]
    have hw:IntKind.i64.wrap ((((ints L).take i).length:Int)-1)=((i-1:Nat):Int):=by rw [hlen]; exact wrS (a:=i) (b:=1) (by omega) (by omega)
    exact bndL (s:=((ints L).getD i 0,3,2)) (bndL (s:=((ints L).getD i 0,3,2)) (cnd_t rfl (cnd_f (beq_eq_false_iff_ne.2 (by omega)) (bnd (congrArg some hw) (bnd (ixO_of hi1) (bnd hg1 rfl))))) rfl) (tail _ 3 rfl (by rw [q3]; exact wrA 3 mo_ (by omega)))
   ·have n16:((s:Int)==16)=false:=beq_eq_false_iff_ne.2 (by omega)
    have n17:((s:Int)==17)=false:=beq_eq_false_iff_ne.2 (by omega)
    have n18:((s:Int)==18)=false:=beq_eq_false_iff_ne.2 (by omega)
    have hr0:rwm s=0:=by
     unfold rwm
     rw [if_neg (by omega),if_neg (by omega),if_neg (by omega)]
    have hct:ct_=1:=congrArg Prod.snd q4
    have hmo:mo_=0:=congrArg Prod.fst q4
    have tl:=tail (s:Int) 1 q1 (by rw [hct,hmo]; rfl)
    rw [hr0] at tl ⊢
    exact bndL (s:=((s:Int),1,0)) (bndL (s:=((s:Int),1,0)) (cnd_f n16 (cnd_f n17 (cnd_f n18 rfl))) rfl) tl
  ·have e:rowF (ints L) k i=[]:=by
    cases k with
    | zero=>rfl
    | succ k=>rw [rowF,if_neg (by omega)]
   rw [e,List.take_of_length_le (by omega)]
   exact loop_exit (cnd_f (decide_eq_false (by omega)) rfl)
theorem gdyn {ml md:List Nat} (hm:Cd ml) (hd:Cd md) (l1:257≤ml.length) (l2:ml.length≤286) (l3:1≤md.length) (l4:md.length≤30) (he:ml.getD 256 0≠0) {B:List Int} (hB:isB B) (hbl:B.length≤10000) {P:Nat} {out:List Int} {most bl:Int}
  (hP:P+wid (hdP ml md)≤8 * B.length) (hs:Sp (hdP ml md) P B) {e:Int} {s:T_grow_stream}
  (ht:grow_stream_tokens (T_grow_stream.mk B ((P+wid (hdP ml md):Nat):Int) out most bl) (ints ml) (ints md)=some (e,s)) :
  grow_stream_dynamic (T_grow_stream.mk B (P:Int) out most bl)=some (e,s):=by
 have hL:∀ x∈ml++md,x≤15:=fun x hx=>(List.mem_append.1 hx).elim (hm.le x) (hd.le x)
 have hll:(ml++md).length≤320:=by rw [List.length_append]; omega
 have hLl:(ml++md).length=ml.length+md.length:=List.length_append
 unfold hdP at hs hP ht
 generalize hLd:ml++md=L at *
 obtain ⟨c1,c2,c3,c4,c5⟩:=rwC_cd hll
 obtain ⟨o1,o2⟩:=odL_len L
 obtain ⟨a,b⟩:=(Sp_app _ _ _ _).1 hs
 obtain ⟨b1,b2⟩:=(Sp_app _ _ _ _).1 b
 obtain ⟨a1,a2,a3,_⟩:=a
 simp only at a1 a2 a3
 have w14:wid [(ml.length-257,5),(md.length-1,5),((odL L).length-4,4)]=14:=rfl
 have wnp:=wid_nP 3 (odL L)
 rw [wid_app,wid_app,w14,wnp] at hP ht
 rw [w14,wnp] at b2
 rw [w14] at b1
 have p4:(2:Nat) ^ 4=16:=by decide
 have p5:(2:Nat) ^ 5=32:=by decide
 have g1:=gnum (out:=out) (most:=most) (bl:=bl) hB hbl (P:=P) (n:=5) (v:=ml.length-257) (by omega) (by omega) (by omega) a1
 have g2:=gnum (out:=out) (most:=most) (bl:=bl) hB hbl (P:=P+5) (n:=5) (v:=md.length-1) (by omega) (by omega) (by omega) a2
 have g3:=gnum (out:=out) (most:=most) (bl:=bl) hB hbl (P:=P+5+5) (n:=4) (v:=(odL L).length-4) (by omega) (by omega) (by omega) a3
 have e1:IntKind.i64.wrap (((ml.length-257:Nat):Int)+257)=((ml.length:Nat):Int):=by rw [wrap_i64 (by omega) (by omega)]; omega
 have e2:IntKind.i64.wrap (((md.length-1:Nat):Int)+1)=((md.length:Nat):Int):=by rw [wrap_i64 (by omega) (by omega)]; omega
 have e3:IntKind.i64.wrap ((((odL L).length-4:Nat):Int)+4)=(((odL L).length:Nat):Int):=by rw [wrap_i64 (by omega) (by omega)]; omega
 have e4:IntKind.i64.wrap (((ml.length:Nat):Int)+((md.length:Nat):Int))=((L.length:Nat):Int):=by rw [wrap_i64 (by omega) (by omega)]; omega
 have m1:mkO 8 19 (0:Int)=some (ints (pls (rwC L) 0)):=by rw [pls_zero]; kernel_rfl
 have q0:=gl_loop (m:=rwC L) (od:=odL L) o2 (fun j hj=>odL_get L hj) (od_lt8 hll) hB hbl (out:=out) (most:=most) (bl:=bl) (odL L).length 0 (P+5+5+4) BIG (by omega) (by simp only [BIG]; omega) b1 (by omega)
 rw [odL_full hll] at q0
 have hck:∀ {m:List Nat},Cd m→canon_Check (ints m)=some 0:=fun {m} h=>by
  rw [check_ints m (by have:=h.len; omega),if_pos ⟨h.len,h.le⟩,if_pos h.fm]
 have q1:=grw_loop hL hll c2 hB hbl (out:=out) (most:=most) (bl:=bl) L.length 0 (P+14+3 * (odL L).length) BIG (by omega) (by omega) (by simp only [BIG]; omega) (by rw [rwn_row]; exact row_used hL hll) (by rw [rwn_row]; exact b2) (by rw [rwn_row]; omega)
 rw [rwn_row,List.take_zero] at q1
 have hrl:grow_stream_rowLengths (T_grow_stream.mk B ((P+5+5:Nat):Int) out most bl)=some (ints (rwC L),0,T_grow_stream.mk B ((P+14+3 * (odL L).length:Nat):Int) out most bl):=by
  unfold grow_stream_rowLengths
  rw [show P+14+3 * (odL L).length=P+5+5+4+3 * (odL L).length by omega]
  exact bnd g3 (cnd_f rfl (bnd m1 (bnd (congrArg some e3) (bndL q0 (bnd (hck c2) (cnd_f rfl rfl))))))
 have hrw:grow_stream_row (T_grow_stream.mk B ((P+14+3 * (odL L).length:Nat):Int) out most bl) (ints (rwC L)) ((L.length:Nat):Int)=some (ints L,0,T_grow_stream.mk B ((P+14+3 * (odL L).length+wid (rwP (rwC L) (rowN L)):Nat):Int) out most bl):=by
  unfold grow_stream_row
  exact bndL q1 rfl
 have sl1:sliO (ints L) 0 ((ml.length:Nat):Int)=some (ints ml):=by
  have:=sli_nat (ints L) (a:=0) (b:=ml.length) (by omega) (by rw [ints_len]; omega)
  rw [show (((0:Nat):Int))=0 from rfl] at this
  rw [this,← hLd]
  simp [ints]
 have sl2:sliO (ints L) ((ml.length:Nat):Int) (((ints L).length:Nat):Int)=some (ints md):=by
  rw [sli_nat (ints L) (by rw [ints_len]; omega) (Nat.le_refl _),← hLd]
  simp [ints]
  exact List.take_of_length_le (by rw [List.length_map]; exact Nat.le_refl _)
 have g256:getO (ints L) 256=some ((ml.getD 256 0:Nat):Int):=by
  rw [ints_get (show 256<L.length by omega),List.getD_eq_getElem?_getD,List.getElem?_eq_getElem (show 256<ml.length by omega)]
  simp only [← hLd,List.getElem_append_left (show 256<ml.length by omega),Option.getD_some]
 have h256:((((ml.getD 256 0:Nat):Int))==0)=false:=beq_eq_false_iff_ne.2 (by omega)
 have hq:(ixO (256:Int) (ints L).length)=some 256:=ixO_of (i:=256) (n:=(ints L).length) (by rw [ints_len]; omega)
 rw [show P+(14+(3 * (odL L).length+wid (rwP (rwC L) (rowN L))))=P+14+3 * (odL L).length+wid (rwP (rwC L) (rowN L)) by omega] at ht
 unfold grow_stream_dynamic
 refine bnd g1 (cnd_f rfl (bnd g2 (cnd_f rfl (bnd (congrArg some e1) (bnd (congrArg some e2) ?_)))))
 refine bndL (s:=false) (cnd_f (decide_eq_false (by omega)) (by rw [decide_eq_false (show ¬ (30:Int)<((md.length:Nat):Int) by omega)])) (cnd_f rfl (bnd hrl (cnd_f rfl (bnd (congrArg some e4) (bnd hrw (cnd_f rfl ?_))))))
 refine bndL (s:=false) (bnd sl1 (bnd (hck hm) (cnd_f rfl (bnd sl2 (bnd (hck hd) (cnd_f rfl (bnd hq (bnd g256 (by rw [h256]))))))))) ?_
 exact cnd_f rfl (bnd sl1 (bnd sl2 (bnd ht rfl)))
end Go.Abs.Sh
