import Derived.Test.YtkgfjkfccpjcgaaDoorShkP
import Derived.Test.YtkgfjkfccpjcgaaDoorMatS
import Derived.KernelRfl
namespace Go.Abs.Sh
set_option linter.unusedVariables false
set_option linter.unusedSimpArgs false
set_option maxRecDepth 100000
def ptS (l:List T_Tok) (lits dists:T_shrink_code):(((List Int)×Int×Int))→Option (((List Int)×Int×Int)⊕(((List Int)×Int)⊕T_shrink_writer)):=(fun ((s31,s32,s33):(List Int)×Int×Int) =>
 cond ((decide (s33<(l.length:Int))))
  (bindS (S:=(List Int)×Int) (A:=(((List Int)×Int×Int)⊕(((List Int)×Int)⊕T_shrink_writer)))
   ((ixO s33 l.length).bind fun v2 =>
   (getO l v2).bind fun v3 =>
   cond ((v3.Len==0))
    ((some (IntKind.i64.wrap v3.Byte)).bind fun v5 =>
    (shrink_writer_putSym (T_shrink_writer.mk s31 s32) lits v5).bind fun v6 =>
    some (.inl (v6.b,v6.n)))
    ((sym_Len v3.Len).bind fun v7 =>
    (shrink_writer_putSym (T_shrink_writer.mk s31 s32) lits v7.1).bind fun v8 =>
    (shrink_writer_put v8 v7.2.2.1 v7.2.1).bind fun v9 =>
    (sym_Dist v3.Dist).bind fun v10 =>
    (shrink_writer_putSym v9 dists v10.1).bind fun v11 =>
    (shrink_writer_put v11 v10.2.2.1 v10.2.1).bind fun v12 =>
    some (.inl (v12.b,v12.n))))
   (fun ((s52,s53):(List Int)×Int) =>
    (some (IntKind.i64.wrap (s33+1))).bind fun v19 =>
    some (.inl (s52,s53,v19))) some)
  (some (.inr (.inl (s31,s32)))))
def stS (b:List Int):(((List Int)×Int×Int))→Option (((List Int)×Int×Int)⊕(((List Int)×Int)⊕(Option T_shrink_writer))):=(fun ((s18,s19,s20):(List Int)×Int×Int) =>
  cond ((decide (s20<(b.length:Int))))
   ((ixO s20 b.length).bind fun v9 =>
   (getO b v9).bind fun v10 =>
   (some (IntKind.i64.wrap v10)).bind fun v11 =>
   (shrink_writer_put (T_shrink_writer.mk s18 s19) v11 8).bind fun v12 =>
   (some (IntKind.i64.wrap (s20+1))).bind fun v13 =>
   some (.inl (v12.b,v12.n,v13)))
   (some (.inr (.inl (s18,s19)))))
def lnN (n:Nat):Nat×Nat×Nat:=match sym_Len (n:Int) with
 | some (s,k,v,_)=>(s.toNat,k.toNat,v.toNat)
 | none=>(0,0,0)
def dsN (n:Nat):Nat×Nat×Nat:=match sym_Dist (n:Int) with
 | some (s,k,v,_)=>(s.toNat,k.toNat,v.toNat)
 | none=>(0,0,0)
def lnOk (n:Nat):Bool:=decide (sym_Len (n:Int)=some (((lnN n).1:Int),((lnN n).2.1:Int),((lnN n).2.2:Int),0)∧257≤(lnN n).1∧(lnN n).1≤285∧(lnN n).2.1≤5∧(lnN n).2.2<2 ^ (lnN n).2.1)
def dsOk (n:Nat):Bool:=decide (sym_Dist (n:Int)=some (((dsN n).1:Int),((dsN n).2.1:Int),((dsN n).2.2:Int),0)∧(dsN n).1≤29∧(dsN n).2.1≤13∧(dsN n).2.2<2 ^ (dsN n).2.1)
theorem ln_all:(List.range 256).all (fun i=>lnOk (3+i))=true:=by kernel_rfl
theorem ds_all:(List.range 2048).all (fun i=>dsOk (1+i))=true:=by kernel_rfl
theorem ln_ok {n:Nat} (h:3≤n) (h2:n≤258):sym_Len (n:Int)=some (((lnN n).1:Int),((lnN n).2.1:Int),((lnN n).2.2:Int),0)∧257≤(lnN n).1∧(lnN n).1≤285∧(lnN n).2.1≤5∧(lnN n).2.2<2 ^ (lnN n).2.1:=by
 have:=List.all_eq_true.1 ln_all (n-3) (List.mem_range.2 (by omega))
 rw [show 3+(n-3)=n by omega] at this
 exact of_decide_eq_true this
theorem ds_ok {n:Nat} (h:1≤n) (h2:n≤2048):sym_Dist (n:Int)=some (((dsN n).1:Int),((dsN n).2.1:Int),((dsN n).2.2:Int),0)∧(dsN n).1≤29∧(dsN n).2.1≤13∧(dsN n).2.2<2 ^ (dsN n).2.1:=by
 have:=List.all_eq_true.1 ds_all (n-1) (List.mem_range.2 (by omega))
 rw [show 1+(n-1)=n by omega] at this
 exact of_decide_eq_true this
def tkP (m d:List Nat) (t:T_Tok):List (Nat×Nat) :=
 if t.Len=0 then [syP m t.Byte.toNat]
 else [syP m (lnN t.Len.toNat).1,((lnN t.Len.toNat).2.2,(lnN t.Len.toNat).2.1),syP d (dsN t.Dist.toNat).1,((dsN t.Dist.toNat).2.2,(dsN t.Dist.toNat).2.1)]
def tksP (m d:List Nat) (l:List T_Tok):List (Nat×Nat):=(l.map (tkP m d)).flatten
def okTk (t:T_Tok):Prop:=(0≤t.Byte∧t.Byte<256)∧(t.Len=0∨(3≤t.Len∧t.Len≤258∧1≤t.Dist∧t.Dist≤2048))
theorem wid_tk {m d:List Nat} (hm:∀ x∈m,x≤15) (hd:∀ x∈d,x≤15) {t:T_Tok} (h:okTk t):wid (tkP m d t)≤48:=by
 have le:∀ (m:List Nat),(∀ x∈m,x≤15)→∀ j,m.getD j 0≤15:=fun m hm j=>by
  rw [List.getD_eq_getElem?_getD]
  cases hj:m[j]? with
  | none=>simp
  | some x=>simpa using hm x (List.mem_of_getElem? hj)
 unfold tkP
 by_cases h0:t.Len=0
 ·rw [if_pos h0]
  have:=le m hm t.Byte.toNat
  simp only [wid,syP,List.map_cons,List.map_nil,List.sum_cons,List.sum_nil]; omega
 ·rw [if_neg h0]
  rcases h.2 with h1 | ⟨h1,h2,h3,h4⟩
  ·exact absurd h1 h0
  ·obtain ⟨_,_,_,k1,_⟩:=ln_ok (n:=t.Len.toNat) (by omega) (by omega)
   obtain ⟨_,_,k2,_⟩:=ds_ok (n:=t.Dist.toNat) (by omega) (by omega)
   have a1:=le m hm (lnN t.Len.toNat).1
   have a2:=le d hd (dsN t.Dist.toNat).1
   simp only [wid,syP,List.map_cons,List.map_nil,List.sum_cons,List.sum_nil]
   omega
theorem wid_tks {m d:List Nat} (hm:∀ x∈m,x≤15) (hd:∀ x∈d,x≤15):∀ {l:List T_Tok},(∀ t∈l,okTk t)→wid (tksP m d l)≤48 * l.length
 | [],_=>by simp [tksP,wid]
 | t::l,h=>by
  have h1:=wid_tk hm hd (h t List.mem_cons_self)
  have h2:=wid_tks hm hd (l:=l) fun x hx=>h x (List.mem_cons_of_mem _ hx)
  have e:tksP m d (t::l)=tkP m d t++tksP m d l:=by simp [tksP]
  rw [e,wid_app,List.length_cons]; omega
theorem pt_step {m d:List Nat} (hm:Cd m) (hd:Cd d) (hml:286≤m.length) (hdl:30≤d.length) {l:List T_Tok} {i:Nat} (hi:i<l.length) (hil:l.length≤5000) (ht:okTk l[i]) {w:T_shrink_writer} {ps:List (Nat×Nat)} (h:WP w ps) (hN:wid ps+48≤900000) :
  ∃ w',ptS l (cdT m) (cdT d) (w.b,w.n,(i:Int))=some (.inl (w'.b,w'.n,((i+1:Nat):Int)))∧WP w' (ps++tkP m d l[i]):=by
 have hg:=getO_of hi
 have hw:=wrap_succ (n:=i) (by omega)
 unfold tkP
 by_cases h0:l[i].Len=0
 ·rw [if_pos h0]
  obtain ⟨w',p1,p2⟩:=h.sym hm (j:=l[i].Byte.toNat) (by have:=ht.1; omega) (by omega)
  rw [show ((l[i].Byte.toNat:Nat):Int)=l[i].Byte by have:=ht.1; omega] at p1
  have hwb:IntKind.i64.wrap l[i].Byte=l[i].Byte:=wrap_i64 (by have:=ht.1; omega) (by have:=ht.1; omega)
  exact ⟨w',cnd_t (decide_eq_true (by omega)) (bndL (bnd (ixO_of hi) (bnd hg (cnd_t (beq_iff_eq.2 h0) (bnd (congrArg some hwb) (bnd p1 rfl))))) (bnd (congrArg some hw) rfl)),p2⟩
 ·rw [if_neg h0]
  rcases ht.2 with h1 | ⟨h1,h2,h3,h4⟩
  ·exact absurd h1 h0
  obtain ⟨l1,l2,l3,l4,l5⟩:=ln_ok (n:=l[i].Len.toNat) (by omega) (by omega)
  obtain ⟨d1,d2,d3,d4⟩:=ds_ok (n:=l[i].Dist.toNat) (by omega) (by omega)
  rw [show ((l[i].Len.toNat:Nat):Int)=l[i].Len by omega] at l1
  rw [show ((l[i].Dist.toNat:Nat):Int)=l[i].Dist by omega] at d1
  obtain ⟨w1,p1,q1⟩:=h.sym hm (j:=(lnN l[i].Len.toNat).1) (by omega) (by omega)
  have c1:=(code_fit hm (j:=(lnN l[i].Len.toNat).1) (by omega)).2
  have s1:wid (ps++[syP m (lnN l[i].Len.toNat).1])≤wid ps+15:=by rw [wid_app]; simp only [wid,syP,List.map_cons,List.map_nil,List.sum_cons,List.sum_nil]; omega
  obtain ⟨w2,p2,q2⟩:=q1.put (lnN l[i].Len.toNat).2.2 (lnN l[i].Len.toNat).2.1 (by omega) l5 (by omega)
  have s2:wid (ps++[syP m (lnN l[i].Len.toNat).1]++[((lnN l[i].Len.toNat).2.2,(lnN l[i].Len.toNat).2.1)])≤wid ps+20:=by rw [wid_app _ [((lnN l[i].Len.toNat).2.2,(lnN l[i].Len.toNat).2.1)]]; simp only [wid,List.map_cons,List.map_nil,List.sum_cons,List.sum_nil] at s1 ⊢; omega
  obtain ⟨w3,p3,q3⟩:=q2.sym hd (j:=(dsN l[i].Dist.toNat).1) (by omega) (by omega)
  have c3:=(code_fit hd (j:=(dsN l[i].Dist.toNat).1) (by omega)).2
  have s3:wid (ps++[syP m (lnN l[i].Len.toNat).1]++[((lnN l[i].Len.toNat).2.2,(lnN l[i].Len.toNat).2.1)]++[syP d (dsN l[i].Dist.toNat).1])≤wid ps+35:=by rw [wid_app _ [syP d _]]; simp only [wid,syP,List.map_cons,List.map_nil,List.sum_cons,List.sum_nil] at s2 ⊢; omega
  obtain ⟨w4,p4,q4⟩:=q3.put (dsN l[i].Dist.toNat).2.2 (dsN l[i].Dist.toNat).2.1 (by omega) d4 (by omega)
  refine ⟨w4,cnd_t (decide_eq_true (by omega)) (bndL (bnd (ixO_of hi) (bnd hg (cnd_f (beq_eq_false_iff_ne.2 h0) (bnd l1 (bnd p1 (bnd p2 (bnd d1 (bnd p3 (bnd p4 rfl))))))))) (bnd (congrArg some hw) rfl)),?_⟩
  simpa [List.append_assoc] using q4
theorem pt_loop {m d:List Nat} (hm:Cd m) (hd:Cd d) (hml:286≤m.length) (hdl:30≤d.length) {l:List T_Tok} (hil:l.length≤5000) (ht:∀ t∈l,okTk t):∀ (k i fuel:Nat) (w:T_shrink_writer) (ps:List (Nat×Nat)),i+k=l.length→k<fuel→WP w ps→wid ps+48 * k≤900000 →
  ∃ w',loopF (ptS l (cdT m) (cdT d)) fuel (w.b,w.n,(i:Int))=some (.inl (w'.b,w'.n))∧WP w' (ps++tksP m d (l.drop i))
 | 0,i,fuel,w,ps,hk,hf,h,hN=>by
  obtain ⟨fu,rfl⟩:∃ fu,fuel=fu+1:=⟨fuel-1,by omega⟩
  rw [List.drop_eq_nil_of_le (by omega)]
  exact ⟨w,loop_exit (cnd_f (decide_eq_false (by omega)) rfl),by simpa [tksP] using h⟩
 | k+1,i,fuel,w,ps,hk,hf,h,hN=>by
  obtain ⟨fu,rfl⟩:∃ fu,fuel=fu+1:=⟨fuel-1,by omega⟩
  have hi:i<l.length:=by omega
  have hti:=ht _ (List.getElem_mem hi)
  obtain ⟨w1,p1,q1⟩:=pt_step hm hd hml hdl hi hil hti h (by omega)
  have hwk:=wid_tk hm.le hd.le hti
  obtain ⟨w2,p2,q2⟩:=pt_loop hm hd hml hdl hil ht k (i+1) fu w1 (ps++tkP m d l[i]) (by omega) (by omega) q1 (by rw [wid_app]; omega)
  refine ⟨w2,(loop_next p1).trans p2,?_⟩
  rw [List.drop_eq_getElem_cons hi]
  have e:tksP m d (l[i]::l.drop (i+1))=tkP m d l[i]++tksP m d (l.drop (i+1)):=rfl
  rw [e,← List.append_assoc]; exact q2
theorem putTokens_eq {m d:List Nat} (hm:Cd m) (hd:Cd d) (hml:286≤m.length) (hdl:30≤d.length) {l:List T_Tok} (hil:l.length≤5000) (ht:∀ t∈l,okTk t) {w:T_shrink_writer} {ps:List (Nat×Nat)} (h:WP w ps) (hN:wid ps≤600000) :
  ∃ w',shrink_writer_putTokens w l (cdT m) (cdT d)=some w'∧WP w' (ps++(tksP m d l++[syP m 256])):=by
 obtain ⟨w1,p1,q1⟩:=pt_loop hm hd hml hdl hil ht l.length 0 BIG w ps (by omega) (by simp only [BIG]; omega) h (by omega)
 rw [List.drop_zero] at q1
 have hb:=wid_tks hm.le hd.le ht
 obtain ⟨w2,p2,q2⟩:=q1.sym hm (j:=256) (by omega) (by rw [wid_app]; omega)
 refine ⟨w2,?_,by rw [← List.append_assoc]; exact q2⟩
 unfold shrink_writer_putTokens
 exact bndL p1 (bnd p2 rfl)
theorem wp_nil:WP ⟨[],0⟩ []:=⟨rfl,⟨rfl,fun n hn=>(by cases hn),fun q _=>by simp [bitC]⟩,trivial⟩
theorem newBlock_eq (k:Nat) (hk:k<4):∃ w,shrink_newBlock (k:Int)=some (some w)∧WP w [(1,1),(k,2)]:=by
 obtain ⟨w1,p1,q1⟩:=wp_nil.put 1 1 (by omega) (by omega) (by simp [wid])
 obtain ⟨w2,p2,q2⟩:=q1.put k 2 (by omega) (by omega) (by simp [wid])
 refine ⟨w2,?_,q2⟩
 unfold shrink_newBlock
 exact bnd p1 (bnd p2 rfl)
theorem obs1 {E R:Type} {x:E} {f:E→Option R} {n r:Option R} (h:f x=r):obS (some x) f n=r:=h
/-! The fixed code. -/
def mL:List Nat:=List.replicate 144 8++(List.replicate 112 9++(List.replicate 24 7++List.replicate 8 8))
def mD:List Nat:=List.replicate 32 5
theorem fixed_ints:sym_Fixed=some (ints mL,ints mD):=by kernel_rfl
theorem cd_mL:Cd mL:=⟨of_decide_eq_true (by kernel_rfl),of_decide_eq_true (by kernel_rfl),by kernel_rfl⟩
theorem cd_mD:Cd mD:=⟨of_decide_eq_true (by kernel_rfl),of_decide_eq_true (by kernel_rfl),by kernel_rfl⟩
theorem fixedBlock_eq {l:List T_Tok} (hl:l.length≤5000) (ht:∀ t∈l,okTk t):∃ w,shrink_fixedBlock l=some (some w)∧WP w ([(1,1),(1,2)]++(tksP mL mD l++[syP mL 256])):=by
 obtain ⟨w1,p1,q1⟩:=newBlock_eq 1 (by omega)
 obtain ⟨w2,p2,q2⟩:=putTokens_eq cd_mL cd_mD (by decide) (by decide) hl ht q1 (by simp [wid])
 refine ⟨w2,?_,q2⟩
 unfold shrink_fixedBlock
 exact bnd p1 (obs1 (bnd fixed_ints (bnd (newCode_eq cd_mL) (bnd (newCode_eq cd_mD) (bnd p2 rfl)))))
/-! The stored block. -/
def stP (b:List Int):List (Nat×Nat):=b.map fun x=>(x.toNat,8)
theorem wid_st (b:List Int):wid (stP b)=8 * b.length:=by
 induction b with
 | nil=>rfl
 | cons x b ih =>
  have:wid (stP (x::b))=8+wid (stP b):=by simp [wid,stP]
  rw [this,ih,List.length_cons]; omega
theorem st_loop {b:List Int} (hb:∀ n∈b,0≤n∧n<256) (hl:b.length≤5000):∀ (k i fuel:Nat) (w:T_shrink_writer) (ps:List (Nat×Nat)),i+k=b.length→k<fuel→WP w ps→wid ps+8 * k≤900000 →
  ∃ w',loopF (stS b) fuel (w.b,w.n,(i:Int))=some (.inl (w'.b,w'.n))∧WP w' (ps++stP (b.drop i))
 | 0,i,fuel,w,ps,hk,hf,h,hN=>by
  obtain ⟨fu,rfl⟩:∃ fu,fuel=fu+1:=⟨fuel-1,by omega⟩
  rw [List.drop_eq_nil_of_le (by omega)]
  exact ⟨w,loop_exit (cnd_f (decide_eq_false (by omega)) rfl),by simpa [stP] using h⟩
 | k+1,i,fuel,w,ps,hk,hf,h,hN=>by
  obtain ⟨fu,rfl⟩:∃ fu,fuel=fu+1:=⟨fuel-1,by omega⟩
  have hi:i<b.length:=by omega
  have hx:=hb _ (List.getElem_mem hi)
  obtain ⟨w1,p1,q1⟩:=h.puts (v:=b[i]) (n:=8) b[i].toNat 8 (by omega) rfl (by omega) (by omega) (by omega)
  obtain ⟨w2,p2,q2⟩:=st_loop hb hl k (i+1) fu w1 (ps++[(b[i].toNat,8)]) (by omega) (by omega) q1 (by rw [wid_app]; simp [wid]; simp [wid] at hN; omega)
  refine ⟨w2,(loop_next (cnd_t (decide_eq_true (by omega)) (bnd (ixO_of hi) (bnd (getO_of hi) (bnd (congrArg some (wrap_i64 (by omega) (by omega))) (bnd p1 (bnd (congrArg some (wrap_succ (n:=i) (by omega))) rfl))))))).trans p2,?_⟩
  rw [List.drop_eq_getElem_cons hi]
  have e:stP (b[i]::b.drop (i+1))=[(b[i].toNat,8)]++stP (b.drop (i+1)):=rfl
  rw [e,← List.append_assoc]; exact q2
theorem xor16 (n:Nat) (h:n<65536):bits .xor .i64 (n:Int) 65535=((65535-n:Nat):Int):=by
 have e:(BitVec.ofInt 64 (n:Int) ^^^ BitVec.ofInt 64 65535).toNat=65535-n:=by
  rw [BitVec.toNat_xor,show (65535:Int)=((65535:Nat):Int) from rfl,BitVec.ofInt_natCast,BitVec.ofInt_natCast,BitVec.toNat_ofNat,BitVec.toNat_ofNat,Nat.mod_eq_of_lt (by omega),Nat.mod_eq_of_lt (by omega)]
  refine Nat.eq_of_testBit_eq fun i => ?_
  rw [Nat.testBit_xor]
  have h1:=Nat.testBit_two_pow_sub_succ (x:=n) (n:=16) (by omega) i
  rw [show 2 ^ 16-(n+1)=65535-n by omega] at h1
  have h2:(65535:Nat).testBit i=decide (i<16):=by rw [show (65535:Nat)=2 ^ 16-1 from rfl,Nat.testBit_two_pow_sub_one]
  rw [h1,h2]
  by_cases hi:i<16
  ·simp [hi]
  ·have:n.testBit i=false:=Nat.testBit_lt_two_pow (Nat.lt_of_lt_of_le h (show (65536:Nat)≤2 ^ i from Nat.pow_le_pow_right (show 0<2 by omega) (show 16≤i by omega)))
   simp [hi,this]
 show IntKind.i64.wrap ((BitVec.ofInt 64 (n:Int) ^^^ BitVec.ofInt 64 65535).toNat:Int)=_
 rw [e]
 exact wrap_i64 (by omega) (by omega)
theorem wp_byte {w:T_shrink_writer} {ps:List (Nat×Nat)} (h:WP w ps):WP ⟨w.b,((8 * w.b.length:Nat):Int)⟩ (ps++[(0,8 * w.b.length-wid ps)]):=by
 have hl:=h.good.len
 have hw:wid (ps++[(0,8 * w.b.length-wid ps)])=8 * w.b.length:=by rw [wid_app]; simp [wid]; simp [wid] at hl; omega
 exact ⟨by rw [hw],by rw [hw]; exact ⟨by show w.b.length=_; omega,h.good.bytes,fun q hq=>h.good.zero q (by omega)⟩,(Sp_app _ _ _ _).2 ⟨h.sp,fun t ht=>by rw [Nat.zero_testBit]; exact h.good.zero _ (by omega),trivial⟩⟩
theorem storedBlock_eq {b:List Int} (hb:∀ n∈b,0≤n∧n<256) (hl:b.length≤5000):∃ w,shrink_storedBlock b=some (some w)∧WP w ([(1,1),(0,2),(0,5),(b.length,16),(65535-b.length,16)]++stP b):=by
 obtain ⟨w1,p1,q1⟩:=newBlock_eq 0 (by omega)
 have l1:w1.b.length=1:=by rw [q1.good.len]; simp [wid]
 have q1':=wp_byte q1
 rw [l1,show wid [(1,1),(0,2)]=3 from rfl] at q1'
 obtain ⟨w2,p2,q2⟩:=q1'.puts (v:=(b.length:Int)) (n:=16) b.length 16 rfl rfl (by omega) (by omega) (by simp [wid])
 obtain ⟨w3,p3,q3⟩:=q2.puts (v:=((65535-b.length:Nat):Int)) (n:=16) (65535-b.length) 16 rfl rfl (by omega) (by omega) (by simp [wid])
 obtain ⟨w4,p4,q4⟩:=st_loop hb hl b.length 0 BIG w3 _ (by omega) (by simp only [BIG]; omega) q3 (by simp [wid]; omega)
 refine ⟨w4,?_,by rw [List.drop_zero] at q4; simpa using q4⟩
 unfold shrink_storedBlock
 refine bnd p1 (obs1 ?_)
 have hw8:IntKind.i64.wrap (8 * (w1.b.length:Int))=((8 * 1:Nat):Int):=by rw [l1]; exact wrap_i64 (by omega) (by omega)
 exact bnd (congrArg some hw8) (bnd p2 (bnd (congrArg some (xor16 b.length (by omega))) (bnd p3 (bndL p4 rfl))))
/-! Tokens of a text. -/
theorem toksS_ok {b:List Int} (hb:∀ n∈b,0≤n∧n<256):∀ t∈toksS b,okTk t:=by
 have key:∀ (k at_:Nat),∀ t∈toks b k at_,okTk t:=by
  intro k
  induction k with
  | zero=>intro at_ t ht; simp [toks] at ht
  | succ k ih =>
   intro at_ t ht
   unfold toks at ht
   split at ht
   ·rename_i hlt
    split at ht
    ·rcases List.mem_cons.1 ht with rfl | h
     ·have:=hb _ (List.getElem_mem hlt)
      exact ⟨by rw [List.getD_eq_getElem?_getD,List.getElem?_eq_getElem hlt,Option.getD_some]; exact this,.inl rfl⟩
     ·exact ih _ t h
    ·rename_i h0
     rcases List.mem_cons.1 ht with rfl | h
     ·rcases bestS_cases b at_ with hc | ⟨c1,c2,c3,c4,c5,c6⟩
      ·rw [hc] at h0; exact absurd rfl h0
      ·exact ⟨⟨Int.le_refl 0,show (0:Int)<256 by decide⟩,.inr ⟨by show (3:Int)≤((bestS b at_).1:Int); omega,by show ((bestS b at_).1:Int)≤258; omega,by show (1:Int)≤((bestS b at_).2:Int); omega,by show ((bestS b at_).2:Int)≤2048; omega⟩⟩
     ·exact ih _ t h
   ·simp at ht
 intro t ht
 exact key _ _ t ht
end Go.Abs.Sh
