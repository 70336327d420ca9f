import Derived.Test.YthceldoojddpiaaDoorGrwA
import Derived.KernelRfl
namespace Go.Abs.Sh
set_option linter.unusedVariables false
set_option linter.unusedSimpArgs false
set_option maxRecDepth 100000
def gpS (dist n:Int):(((List Int)×Int))→Option (((List Int)×Int)⊕(((List Int))⊕(Int×T_grow_stream))):=(fun ((s13,s14):(List Int)×Int) =>
   cond ((decide (s14<n)))
    ((some (IntKind.i64.wrap ((s13.length:Int)-dist))).bind fun v5 =>
    (ixO v5 s13.length).bind fun v6 =>
    (getO s13 v6).bind fun v7 =>
    (appO 1 s13 [v7]).bind fun v8 =>
    (some (IntKind.i64.wrap (s14+1))).bind fun v9 =>
    some (.inl (v8,v9)))
    (some (.inr (.inl s13))))
def gtS (lits dists:List Int):(((List Int)×Int×(List Int)×Int×Int))→Option (((List Int)×Int×(List Int)×Int×Int)⊕((Unit)⊕(Int×T_grow_stream))):=(fun ((s39,s40,s41,s42,s43):(List Int)×Int×(List Int)×Int×Int) =>
 (grow_stream_symbol (T_grow_stream.mk s39 s40 s41 s42 s43) lits).bind fun v1 =>
 cond ((v1.2.1 != 0))
  (some (.inr (.inr ((v1.2.1,v1.2.2)))))
  (bindS (S:=(List Int)×Int×(List Int)×Int×Int×Int) (A:=(((List Int)×Int×(List Int)×Int×Int)⊕((Unit)⊕(Int×T_grow_stream))))
   (cond ((v1.1==256))
    (some (.inr (.inr (.inr ((0,v1.2.2))))))
    (cond ((decide (v1.1<256)))
     ((grow_stream_literal v1.2.2 v1.1).bind fun v5 =>
     some (.inl (v5.2.b,v5.2.at_,v5.2.out,v5.2.most,v5.2.blocks,v5.1)))
     ((grow_stream_match v1.2.2 v1.1 dists).bind fun v6 =>
     some (.inl (v6.2.b,v6.2.at_,v6.2.out,v6.2.most,v6.2.blocks,v6.1)))))
   (fun ((s68,s69,s70,s71,s72,s73):(List Int)×Int×(List Int)×Int×Int×Int) =>
    cond ((s73 != 0))
     (some (.inr (.inr ((s73,(T_grow_stream.mk s68 s69 s70 s71 s72))))))
     (some (.inl (s68,s69,s70,s71,s72)))) some))
/-! The program's reader of bits. -/
theorem gnum {B:List Int} (hB:isB B) (hl:B.length≤10000) {P n v:Nat} (hn:n≤24) (hP:P+n≤8 * B.length) (hv:v<2 ^ n) (hb:∀ t,t<n→bitC B (P+t)=v.testBit t) {out:List Int} {most bl:Int} :
  grow_stream_number (T_grow_stream.mk B (P:Int) out most bl) (n:Int)=some ((v:Int),0,T_grow_stream.mk B ((P+n:Nat):Int) out most bl):=by
 obtain ⟨v',h1,h2,h3⟩:=get_eq hB hl P n hn hP
 have e:v'=v:=by
  apply Nat.eq_of_testBit_eq
  intro q
  by_cases hq:q<n
  ·rw [h3 q hq,hb q hq]
  ·have hle:2 ^ n≤2 ^ q:=Nat.pow_le_pow_right (by omega) (by omega)
   rw [Nat.testBit_lt_two_pow (Nat.lt_of_lt_of_le hv hle),Nat.testBit_lt_two_pow (Nat.lt_of_lt_of_le h2 hle)]
 subst e
 unfold grow_stream_number
 exact bnd h1 (cnd_f rfl rfl)
theorem gnum_sp {B:List Int} (hB:isB B) (hl:B.length≤10000) {P n v:Nat} (hn:n≤24) (hP:P+n≤8 * B.length) (hv:v<2 ^ n) (hb:Sp [(v,n)] P B) {out:List Int} {most bl:Int} :
  grow_stream_number (T_grow_stream.mk B (P:Int) out most bl) (n:Int)=some ((v:Int),0,T_grow_stream.mk B ((P+n:Nat):Int) out most bl):=gnum hB hl hn hP hv hb.1
theorem gD_at {m:List Nat} {j:Nat} (hj:j<m.length):m.getD j 0=m[j]:=by rw [List.getD_eq_getElem?_getD,List.getElem?_eq_getElem hj,Option.getD_some]
theorem sym_bits {m:List Nat} {j P:Nat} {B:List Int} (hj:j<m.length) (hs:Sp [syP m j] P B):∀ i,i<m[j]→bitC B (P+i)=(code m j).testBit (m[j]-1-i):=fun i hi=>by
 have hb:=hs.1
 simp only [syP] at hb
 rw [gD_at hj] at hb
 rw [hb i hi,rv_bit _ _ _ hi]
theorem gsym {m:List Nat} (h:Cd m) {B:List Int} (hB:isB B) (hbl:B.length≤10000) {j:Nat} (h0:m.getD j 0≠0) {P:Nat} (hP:P+m.getD j 0≤8 * B.length) (hs:Sp [syP m j] P B) {out:List Int} {most bl:Int} :
  grow_stream_symbol (T_grow_stream.mk B (P:Int) out most bl) (ints m)=some ((j:Int),0,T_grow_stream.mk B ((P+m.getD j 0:Nat):Int) out most bl):=by
 have hj:=lt_gD h0
 have e:=gD_at hj
 have hbb:=sym_bits hj hs
 rw [e] at h0 hP ⊢
 unfold grow_stream_symbol
 exact bnd (read_code h.len h.le h.fm hB hbl hj h0 P hP hbb) (cnd_f rfl rfl)
theorem glit_ok {B out:List Int} {P bl:Int} {A most:Nat} (hA:A<256) (h:out.length+1≤most) (hm:most≤5000):grow_stream_literal (T_grow_stream.mk B P out (most:Int) bl) (A:Int)=some (0,T_grow_stream.mk B P (out++[(A:Int)]) (most:Int) bl):=by
 unfold grow_stream_literal
 have hw:IntKind.u8.wrap (A:Int)=(A:Int):=by
  simp only [IntKind.wrap,IntKind.bits,IntKind.signed]
  have e:(2:Int) ^ 8=256:=by decide
  simp only [e,Bool.false_and,Bool.false_eq_true,if_false]
  omega
 have hap:appO 1 out [(A:Int)]=some (out++[(A:Int)]):=by
  unfold appO
  rw [if_pos (by simp only [List.length_cons,List.length_nil]; omega)]
 exact bnd (congrArg some (wrapS (n:=out.length) (by omega))) (cnd_f (decide_eq_false (by show ¬ (most:Int)<((out.length+1:Nat):Int); omega)) (bnd (congrArg some hw) (bnd hap rfl)))
theorem glit_no {B out:List Int} {P bl:Int} {A most:Nat} (h:most<out.length+1) (hm:out.length≤5000):grow_stream_literal (T_grow_stream.mk B P out (most:Int) bl) (A:Int)=some (2,T_grow_stream.mk B P out (most:Int) bl):=by
 unfold grow_stream_literal
 exact bnd (congrArg some (wrapS (n:=out.length) (by omega))) (cnd_t (decide_eq_true (by show (most:Int)<((out.length+1:Nat):Int); omega)) rfl)
theorem gp_loop {d:Nat} (hd:1≤d):∀ (k i fuel N:Nat) (b:List Int),i+k=N→k<fuel→d≤b.length→b.length+k≤100000∧N≤100000→loopF (gpS (d:Int) (N:Int)) fuel (b,(i:Int))=some (.inl (cpy d b k))
 | 0,i,fuel,N,b,hk,hf,hb,hl=>by
  obtain ⟨fu,rfl⟩:∃ fu,fuel=fu+1:=⟨fuel-1,by omega⟩
  exact loop_exit (cnd_f (decide_eq_false (by omega)) rfl)
 | k+1,i,fuel,N,b,hk,hf,hb,hl=>by
  obtain ⟨fu,rfl⟩:∃ fu,fuel=fu+1:=⟨fuel-1,by omega⟩
  have hlt:b.length-d<b.length:=by omega
  have hap:appO 1 b [b.getD (b.length-d) 0]=some (b++[b.getD (b.length-d) 0]):=by
   unfold appO
   rw [if_pos (by simp only [List.length_cons,List.length_nil]; omega)]
  have hg:getO b (b.length-d)=some (b.getD (b.length-d) 0):=by
   rw [getO_of hlt,List.getD_eq_getElem?_getD,List.getElem?_eq_getElem hlt,Option.getD_some]
  rw [cpy]
  exact (loop_next (cnd_t (decide_eq_true (by omega)) (bnd (congrArg some (wrS' hb (by omega))) (bnd (ixO_of hlt) (bnd hg (bnd hap (bnd (congrArg some (wrap_succ (n:=i) (by omega))) rfl))))))).trans
   (gp_loop hd k (i+1) fu N _ (by omega) (by omega) (by rw [List.length_append]; omega) ⟨by rw [List.length_append,List.length_cons,List.length_nil]; omega,hl.2⟩)
theorem grep_ok {B out:List Int} {P bl:Int} {L D most:Nat} (hD:1≤D) (hDo:D≤out.length) (h:out.length+L≤most) (hm:most≤5000):grow_stream_repeat (T_grow_stream.mk B P out (most:Int) bl) (L:Int) (D:Int)=some (0,T_grow_stream.mk B P (cpy D out L) (most:Int) bl):=by
 unfold grow_stream_repeat
 exact cnd_f (decide_eq_false (by show ¬ (out.length:Int)<(D:Int); omega)) (bnd (congrArg some (wrA' out.length L (by omega))) (cnd_f (decide_eq_false (by show ¬ (most:Int)<((out.length+L:Nat):Int); omega)) (bndL (gp_loop hD L 0 BIG L out (by omega) (by simp only [BIG]; omega) hDo ⟨by omega,by omega⟩) rfl)))
theorem grep_no {B out:List Int} {P bl:Int} {L D most:Nat} (hDo:D≤out.length) (h:most<out.length+L) (hm:out.length+L≤100000):grow_stream_repeat (T_grow_stream.mk B P out (most:Int) bl) (L:Int) (D:Int)=some (2,T_grow_stream.mk B P out (most:Int) bl):=by
 unfold grow_stream_repeat
 exact cnd_f (decide_eq_false (by show ¬ (out.length:Int)<(D:Int); omega)) (bnd (congrArg some (wrA' out.length L (by omega))) (cnd_t (decide_eq_true (by show (most:Int)<((out.length+L:Nat):Int); omega)) rfl))
def glnR (n:Nat):Bool:=decide (sym_LenOf ((lnN n).1:Int)=some (((n-(lnN n).2.2:Nat):Int),((lnN n).2.1:Int),0)∧(lnN n).2.2≤n)
def gdsR (n:Nat):Bool:=decide (sym_DistOf ((dsN n).1:Int)=some (((n-(dsN n).2.2:Nat):Int),((dsN n).2.1:Int),0)∧(dsN n).2.2≤n)
theorem glnr_all:(List.range 256).all (fun i=>glnR (3+i))=true:=by kernel_rfl
theorem gdsr_all:(List.range 2048).all (fun i=>gdsR (1+i))=true:=by kernel_rfl
theorem glnr {n:Nat} (h:3≤n) (h2:n≤258):sym_LenOf ((lnN n).1:Int)=some (((n-(lnN n).2.2:Nat):Int),((lnN n).2.1:Int),0)∧(lnN n).2.2≤n:=by
 have:=List.all_eq_true.1 glnr_all (n-3) (List.mem_range.2 (by omega))
 rw [show 3+(n-3)=n by omega] at this
 exact of_decide_eq_true this
theorem gdsr {n:Nat} (h:1≤n) (h2:n≤2048):sym_DistOf ((dsN n).1:Int)=some (((n-(dsN n).2.2:Nat):Int),((dsN n).2.1:Int),0)∧(dsN n).2.2≤n:=by
 have:=List.all_eq_true.1 gdsr_all (n-1) (List.mem_range.2 (by omega))
 rw [show 1+(n-1)=n by omega] at this
 exact of_decide_eq_true this
def gfin (t:T_Tok) (s:T_grow_stream):Option (Int×T_grow_stream):=if t.Len=0 then grow_stream_literal s t.Byte else grow_stream_repeat s t.Len t.Dist
theorem gtx {m d:List Nat} (hm:Cd m) (hd:Cd d) {B:List Int} (hB:isB B) (hbl:B.length≤10000) {t:T_Tok} (ht:okTk t) (hu:usedC m d t) {out:List Int} {P:Nat} {most bl:Int} (hP:P+wid (tkP m d t)≤8 * B.length) (hs:Sp (tkP m d t) P B) {e:Int} {s:T_grow_stream} (hf:gfin t (T_grow_stream.mk B ((P+wid (tkP m d t):Nat):Int) out most bl)=some (e,s)) :
  gtS (ints m) (ints d) (B,(P:Int),out,most,bl)=cond (e != 0) (some (.inr (.inr (e,T_grow_stream.mk s.b s.at_ s.out s.most s.blocks)))) (some (.inl (s.b,s.at_,s.out,s.most,s.blocks))):=by
 unfold tkP usedC gfin at *
 unfold gtS
 by_cases h0:t.Len=0
 ·simp only [if_pos h0] at hP hs hu hf
  have hb:=ht.1
  obtain ⟨x,hx⟩:∃ x:Nat,t.Byte=(x:Int):=⟨t.Byte.toNat,by omega⟩
  rw [hx,Int.toNat_natCast] at hP hs hu hf
  rw [wid_cons,show wid ([]:List (Nat×Nat))=0 from rfl] at hP hf
  simp only [syP] at hP hf
  rw [Nat.add_zero] at hf
  have h1:=gsym (out:=out) (most:=most) (bl:=bl) hm hB hbl (j:=x) hu (P:=P) (by omega) hs
  have n256:((x:Int)==256)=false:=beq_eq_false_iff_ne.2 (by omega)
  exact bnd h1 (cnd_f rfl (bndL (cnd_f n256 (cnd_t (decide_eq_true (by show (x:Int)<256; omega)) (bnd hf rfl))) rfl))
 ·simp only [if_neg h0] at hP hs hu hf
  rcases ht.2 with h1 | ⟨h1,h2,h3,h4⟩
  ·exact absurd h1 h0
  obtain ⟨L,hL⟩:∃ L:Nat,t.Len=(L:Int):=⟨t.Len.toNat,by omega⟩
  obtain ⟨D,hD⟩:∃ D:Nat,t.Dist=(D:Int):=⟨t.Dist.toNat,by omega⟩
  have hLn:t.Len.toNat=L:=by omega
  have hDn:t.Dist.toNat=D:=by omega
  rw [hLn,hDn] at hP hs hu hf
  rw [hL,hD] at hf
  obtain ⟨l1,l2,l3,l4,l5⟩:=ln_ok (n:=L) (by omega) (by omega)
  obtain ⟨d1,d2,d3,d4⟩:=ds_ok (n:=D) (by omega) (by omega)
  obtain ⟨e1,e2⟩:=glnr (n:=L) (by omega) (by omega)
  obtain ⟨f1,f2⟩:=gdsr (n:=D) (by omega) (by omega)
  simp only [wid_cons,show wid ([]:List (Nat×Nat))=0 from rfl] at hP hf
  obtain ⟨s1,s2,s3,s4,_⟩:=hs
  simp only [syP] at hP hf s1 s2 s3 s4
  generalize hS:(lnN L).1=S at *
  generalize hE:(lnN L).2.1=E at *
  generalize hV:(lnN L).2.2=V at *
  generalize hS':(dsN D).1=S' at *
  generalize hE':(dsN D).2.1=E' at *
  generalize hV':(dsN D).2.2=V' at *
  have g1:=gsym (out:=out) (most:=most) (bl:=bl) hm hB hbl (j:=S) hu.1 (P:=P) (by omega) ⟨s1,trivial⟩
  have g2:=gnum_sp (out:=out) (most:=most) (bl:=bl) hB hbl (P:=P+m.getD S 0) (n:=E) (v:=V) (by omega) (by omega) l5 ⟨s2,trivial⟩
  have g3:=gsym (out:=out) (most:=most) (bl:=bl) hd hB hbl (j:=S') hu.2 (P:=P+m.getD S 0+E) (by omega) ⟨s3,trivial⟩
  have g4:=gnum_sp (out:=out) (most:=most) (bl:=bl) hB hbl (P:=P+m.getD S 0+E+d.getD S' 0) (n:=E') (v:=V') (by omega) (by omega) d4 ⟨s4,trivial⟩
  have w1:IntKind.i64.wrap (((L-V:Nat):Int)+(V:Int))=((L:Nat):Int):=by rw [wrap_i64 (by omega) (by omega)]; omega
  have w2:IntKind.i64.wrap (((D-V':Nat):Int)+(V':Int))=((D:Nat):Int):=by rw [wrap_i64 (by omega) (by omega)]; omega
  rw [show P+(m.getD S 0+(E+(d.getD S' 0+(E'+0))))=P+m.getD S 0+E+d.getD S' 0+E' by omega] at hf
  have n256:((S:Int)==256)=false:=beq_eq_false_iff_ne.2 (by omega)
  have hmt:grow_stream_match (T_grow_stream.mk B ((P+m.getD S 0:Nat):Int) out most bl) (S:Int) (ints d)=some (e,s):=by
   unfold grow_stream_match
   exact cnd_f (decide_eq_false (by show ¬ (285:Int)<(S:Int); omega)) (bnd e1 (bnd g2 (cnd_f rfl (bnd (congrArg some w1) (bnd g3 (cnd_f rfl (bnd f1 (cnd_f rfl (bnd g4 (cnd_f rfl (bnd (congrArg some w2) (bnd hf rfl))))))))))))
  exact bnd g1 (cnd_f rfl (bndL (cnd_f n256 (cnd_f (decide_eq_false (by show ¬ (S:Int)<256; omega)) (bnd hmt rfl))) rfl))
theorem gfin_ok {t:T_Tok} (ht:okTk t) {out:List Int} (ho:okT t (out.length:Int)=true) {B:List Int} {P bl:Int} {most:Nat} (h:out.length+tl t≤most) (hm:most≤5000):gfin t (T_grow_stream.mk B P out (most:Int) bl)=some (0,T_grow_stream.mk B P (exT out t) (most:Int) bl):=by
 unfold gfin exT tl at *
 by_cases h0:t.Len=0
 ·simp only [if_pos h0] at h ⊢
  have hb:=ht.1
  obtain ⟨x,hx⟩:∃ x:Nat,t.Byte=(x:Int):=⟨t.Byte.toNat,by omega⟩
  rw [hx]
  exact glit_ok (by omega) h hm
 ·simp only [if_neg h0] at h ⊢
  rcases ht.2 with h1 | ⟨h1,h2,h3,h4⟩
  ·exact absurd h1 h0
  obtain ⟨L,hL⟩:∃ L:Nat,t.Len=(L:Int):=⟨t.Len.toNat,by omega⟩
  obtain ⟨D,hD⟩:∃ D:Nat,t.Dist=(D:Int):=⟨t.Dist.toNat,by omega⟩
  have hDo:D≤out.length:=by
   unfold okT at ho
   have:=of_decide_eq_true ho
   omega
  rw [hL] at h ⊢
  rw [hD]
  simp only [Int.toNat_natCast] at h ⊢
  exact grep_ok (by omega) hDo h hm
theorem gfin_no {t:T_Tok} (ht:okTk t) {out:List Int} (ho:okT t (out.length:Int)=true) {B:List Int} {P bl:Int} {most:Nat} (h:most<out.length+tl t) (hm:out.length≤5000):gfin t (T_grow_stream.mk B P out (most:Int) bl)=some (2,T_grow_stream.mk B P out (most:Int) bl):=by
 unfold gfin tl at *
 by_cases h0:t.Len=0
 ·simp only [if_pos h0] at h ⊢
  have hb:=ht.1
  obtain ⟨x,hx⟩:∃ x:Nat,t.Byte=(x:Int):=⟨t.Byte.toNat,by omega⟩
  rw [hx]
  exact glit_no h hm
 ·simp only [if_neg h0] at h ⊢
  rcases ht.2 with h1 | ⟨h1,h2,h3,h4⟩
  ·exact absurd h1 h0
  obtain ⟨L,hL⟩:∃ L:Nat,t.Len=(L:Int):=⟨t.Len.toNat,by omega⟩
  obtain ⟨D,hD⟩:∃ D:Nat,t.Dist=(D:Int):=⟨t.Dist.toNat,by omega⟩
  have hDo:D≤out.length:=by
   unfold okT at ho
   have:=of_decide_eq_true ho
   omega
  rw [hL] at h ⊢
  rw [hD]
  simp only [Int.toNat_natCast] at h ⊢
  exact grep_no hDo h (by omega)
theorem gtx_end {m d:List Nat} (hm:Cd m) {B:List Int} (hB:isB B) (hbl:B.length≤10000) (h0:m.getD 256 0≠0) {out:List Int} {P:Nat} {most bl:Int} (hP:P+m.getD 256 0≤8 * B.length) (hs:Sp [syP m 256] P B) :
  gtS (ints m) (ints d) (B,(P:Int),out,most,bl)=some (.inr (.inr (0,T_grow_stream.mk B ((P+m.getD 256 0:Nat):Int) out most bl))):=by
 unfold gtS
 exact bnd (gsym hm hB hbl h0 hP hs) (cnd_f rfl (bndR (cnd_t rfl rfl) rfl))
theorem gtok_ok {m d:List Nat} (hm:Cd m) (hd:Cd d) {B:List Int} (hB:isB B) (hbl:B.length≤10000) (he:m.getD 256 0≠0) {most N:Nat} {bl:Int} (hm2:most≤5000) (hN:N≤most):∀ (l:List T_Tok) (out:List Int) (P fuel:Nat),(∀ t∈l,okTk t∧usedC m d t)→chkF l out.length=some N→P+wid (tksP m d l++[syP m 256])≤8 * B.length→Sp (tksP m d l++[syP m 256]) P B→l.length<fuel →
  loopF (gtS (ints m) (ints d)) fuel (B,(P:Int),out,(most:Int),bl)=some (.inr (0,T_grow_stream.mk B ((P+wid (tksP m d l++[syP m 256]):Nat):Int) (exF l out) (most:Int) bl))
 | [],out,P,fuel,ho,hc,hP,hs,hf=>by
  obtain ⟨fu,rfl⟩:∃ fu,fuel=fu+1:=⟨fuel-1,by omega⟩
  have e:wid (tksP m d []++[syP m 256])=m.getD 256 0:=by simp [tksP,wid,syP]
  rw [e] at hP ⊢
  exact loop_exit (gtx_end hm hB hbl he hP hs)
 | t::l,out,P,fuel,ho,hc,hP,hs,hf=>by
  obtain ⟨fu,rfl⟩:∃ fu,fuel=fu+1:=⟨fuel-1,by omega⟩
  have e:tksP m d (t::l)++[syP m 256]=tkP m d t++(tksP m d l++[syP m 256]):=by simp [tksP]
  rw [e] at hP hs ⊢
  rw [wid_app] at hP ⊢
  obtain ⟨hs1,hs2⟩:=(Sp_app _ _ _ _).1 hs
  unfold chkF at hc
  split at hc
  ·rename_i hk
   have hge:=chkF_ge l _ N hc
   have hx:=exT_len (b:=out) hk
   have h1:=gtx hm hd hB hbl (ho t List.mem_cons_self).1 (ho t List.mem_cons_self).2 (P:=P) (by omega) hs1 (gfin_ok (ho t List.mem_cons_self).1 hk (bl:=bl) (most:=most) (by omega) hm2)
   have ih:=gtok_ok (bl:=bl) hm hd hB hbl he hm2 hN l (exT out t) (P+wid (tkP m d t)) fu (fun x hx=>ho x (List.mem_cons_of_mem _ hx)) (by rw [hx]; exact hc) (by omega) hs2 (by simp only [List.length_cons] at hf; omega)
   rw [Nat.add_assoc] at ih
   exact (loop_next h1).trans ih
  ·cases hc
theorem gtok_no {m d:List Nat} (hm:Cd m) (hd:Cd d) {B:List Int} (hB:isB B) (hbl:B.length≤10000) {most N:Nat} {bl:Int} (hm2:most≤5000) (hN:most<N):∀ (l:List T_Tok) (out:List Int) (P fuel:Nat),(∀ t∈l,okTk t∧usedC m d t)→chkF l out.length=some N→out.length≤most→P+wid (tksP m d l)≤8 * B.length→Sp (tksP m d l) P B→l.length<fuel →
  ∃ s,loopF (gtS (ints m) (ints d)) fuel (B,(P:Int),out,(most:Int),bl)=some (.inr (2,s))
 | [],out,P,fuel,ho,hc,hom,hP,hs,hf=>by
  cases hc
  omega
 | t::l,out,P,fuel,ho,hc,hom,hP,hs,hf=>by
  obtain ⟨fu,rfl⟩:∃ fu,fuel=fu+1:=⟨fuel-1,by omega⟩
  have e:tksP m d (t::l)=tkP m d t++tksP m d l:=by simp [tksP]
  rw [e] at hP hs
  rw [wid_app] at hP
  obtain ⟨hs1,hs2⟩:=(Sp_app _ _ _ _).1 hs
  unfold chkF at hc
  split at hc
  ·rename_i hk
   have hx:=exT_len (b:=out) hk
   by_cases hr:out.length+tl t≤most
   ·have h1:=gtx hm hd hB hbl (ho t List.mem_cons_self).1 (ho t List.mem_cons_self).2 (P:=P) (by omega) hs1 (gfin_ok (ho t List.mem_cons_self).1 hk (bl:=bl) (most:=most) (by omega) hm2)
    obtain ⟨s,ih⟩:=gtok_no (bl:=bl) hm hd hB hbl hm2 hN l (exT out t) (P+wid (tkP m d t)) fu (fun x hx=>ho x (List.mem_cons_of_mem _ hx)) (by rw [hx]; exact hc) (by omega) (by omega) hs2 (by simp only [List.length_cons] at hf; omega)
    exact ⟨s,(loop_next h1).trans ih⟩
   ·have h1:=gtx hm hd hB hbl (ho t List.mem_cons_self).1 (ho t List.mem_cons_self).2 (P:=P) (by omega) hs1 (gfin_no (ho t List.mem_cons_self).1 hk (bl:=bl) (most:=most) (by omega) (by omega))
    exact ⟨_,loop_exit h1⟩
  ·cases hc
theorem gtext_ok {m d:List Nat} (hm:Cd m) (hd:Cd d) {B:List Int} (hB:isB B) (hbl:B.length≤10000) (he:m.getD 256 0≠0) {most N:Nat} {bl:Int} (hm2:most≤5000) (hN:N≤most) {l:List T_Tok} {out:List Int} {P:Nat} (hl:l.length≤5000) (ho:∀ t∈l,okTk t∧usedC m d t) (hc:chkF l out.length=some N) (hP:P+wid (tksP m d l++[syP m 256])≤8 * B.length) (hs:Sp (tksP m d l++[syP m 256]) P B) :
  grow_stream_tokens (T_grow_stream.mk B (P:Int) out (most:Int) bl) (ints m) (ints d)=some (0,T_grow_stream.mk B ((P+wid (tksP m d l++[syP m 256]):Nat):Int) (exF l out) (most:Int) bl):=by
 unfold grow_stream_tokens
 exact bndR (gtok_ok hm hd hB hbl he hm2 hN l out P BIG ho hc hP hs (by simp only [BIG]; omega)) rfl
theorem gtext_no {m d:List Nat} (hm:Cd m) (hd:Cd d) {B:List Int} (hB:isB B) (hbl:B.length≤10000) {most N:Nat} {bl:Int} (hm2:most≤5000) (hN:most<N) {l:List T_Tok} {out:List Int} {P:Nat} (hl:l.length≤5000) (ho:∀ t∈l,okTk t∧usedC m d t) (hc:chkF l out.length=some N) (hom:out.length≤most) (hP:P+wid (tksP m d l++[syP m 256])≤8 * B.length) (hs:Sp (tksP m d l++[syP m 256]) P B) :
  ∃ s,grow_stream_tokens (T_grow_stream.mk B (P:Int) out (most:Int) bl) (ints m) (ints d)=some (2,s):=by
 rw [wid_app] at hP
 obtain ⟨s,h⟩:=gtok_no hm hd hB hbl hm2 hN l out P BIG ho hc hom (bl:=bl) (by omega) ((Sp_app _ _ _ _).1 hs).1 (by simp only [BIG]; omega)
 refine ⟨s,?_⟩
 unfold grow_stream_tokens
 exact bndR h rfl
end Go.Abs.Sh
