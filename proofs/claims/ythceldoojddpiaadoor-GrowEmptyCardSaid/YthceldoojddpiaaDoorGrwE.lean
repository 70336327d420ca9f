import Derived.Test.YthceldoojddpiaaDoorGrwD
import Derived.KernelRfl
namespace Go.Abs.Sh
set_option linter.unusedVariables false
set_option linter.unusedSimpArgs false
set_option maxRecDepth 100000
def geS (v4:Int):(((List Int)×Int))→Option (((List Int)×Int)⊕(((List Int))⊕Bool)):=(fun ((s13,s14):(List Int)×Int) =>
   cond ((decide (s14<v4)))
    ((appO 1 s13 [0,0,0,255,255]).bind fun v8 =>
    (some (IntKind.i64.wrap (s14+1))).bind fun v9 =>
    some (.inl (v8,v9)))
    (some (.inr (.inl s13))))
/-! Empty blocks ahead. -/
def e5:List Int:=[0,0,0,255,255]
def emp:Nat→List Int
 | 0=>[]
 | n+1=>emp n++e5
theorem emp_len:∀ n,(emp n).length=5 * n
 | 0=>rfl
 | n+1=>by rw [emp,List.length_append,emp_len n,show e5.length=5 from rfl]; omega
theorem bitC_right (A C:List Int) (q:Nat):bitC (A++C) (8 * A.length+q)=bitC C q:=by
 unfold bitC
 rw [show (8 * A.length+q) / 8=A.length+q / 8 by omega,show (8 * A.length+q) % 8=q % 8 by omega,List.getD_eq_getElem?_getD,List.getD_eq_getElem?_getD,List.getElem?_append_right (by omega),show A.length+q / 8-A.length=q / 8 by omega]
theorem bitC_left (A C:List Int) {q:Nat} (h:q<8 * A.length):bitC (A++C) q=bitC A q:=by
 unfold bitC
 rw [List.getD_eq_getElem?_getD,List.getD_eq_getElem?_getD,List.getElem?_append_left (by omega)]
theorem Sp_right (A C:List Int):∀ (ps:List (Nat×Nat)) (N:Nat),Sp ps N C→Sp ps (8 * A.length+N) (A++C)
 | [],N,h=>trivial
 | p::ps,N,h=>⟨fun t ht=>by rw [Nat.add_assoc,bitC_right]; exact h.1 t ht,by rw [Nat.add_assoc]; exact Sp_right A C ps (N+p.2) h.2⟩
theorem Sp_left (A C:List Int) {ps:List (Nat×Nat)} {N:Nat} (hN:N+wid ps≤8 * A.length) (h:Sp ps N A):Sp ps N (A++C):=Sp_keep ps N A (A++C) (fun q hq=>bitC_left A C (by omega)) h
def eP:List (Nat×Nat):=[(0,1),(0,2)]++([(0,5),(([]:List Int).length,16),(65535-([]:List Int).length,16)]++stP [])
theorem e5_sp:Sp eP 0 e5:=by
 refine ⟨?_,?_,?_,?_,?_,trivial⟩
 ·exact (by decide:∀ t,t<1→bitC e5 (0+t)=(0:Nat).testBit t)
 ·exact (by decide:∀ t,t<2→bitC e5 (0+1+t)=(0:Nat).testBit t)
 ·exact (by decide:∀ t,t<5→bitC e5 (0+1+2+t)=(0:Nat).testBit t)
 ·exact (by decide:∀ t,t<16→bitC e5 (0+1+2+5+t)=(0:Nat).testBit t)
 ·exact (by decide:∀ t,t<16→bitC e5 (0+1+2+5+16+t)=(65535:Nat).testBit t)
theorem emp_sp:∀ (n i:Nat) (D:List Int),i<n→Sp eP (40 * i) (emp n++D)
 | n+1,i,D,h=>by
  rw [emp,List.append_assoc]
  by_cases hi:i<n
  ·exact emp_sp n i (e5++D) hi
  ·have e:40 * i=8 * (emp n).length+0:=by rw [emp_len]; omega
   rw [e]
   exact Sp_right _ _ _ _ (Sp_left e5 D (by decide) e5_sp)
theorem emp_bytes:∀ n,isB (emp n)
 | 0=>fun x hx=>(by cases hx)
 | n+1=>fun x hx=>(List.mem_append.1 hx).elim (emp_bytes n x) (fun h=>by
  have:∀ x∈e5,(0:Int)≤x∧x<256:=by decide
  exact this x h)
theorem emp_loop {N:Nat} (hN:N≤20):∀ (k i fuel:Nat),i+k=N→k<fuel→loopF (geS (N:Int)) fuel (emp i,(i:Int))=some (.inl (emp N))
 | 0,i,fuel,hk,hf=>by
  obtain ⟨fu,rfl⟩:∃ fu,fuel=fu+1:=⟨fuel-1,by omega⟩
  obtain rfl:i=N:=by omega
  exact loop_exit (cnd_f (decide_eq_false (by omega)) rfl)
 | k+1,i,fuel,hk,hf=>by
  obtain ⟨fu,rfl⟩:∃ fu,fuel=fu+1:=⟨fuel-1,by omega⟩
  have hap:appO 1 (emp i) [0,0,0,255,255]=some (emp (i+1)):=by
   unfold appO
   rw [if_pos (by rw [emp_len]; simp only [List.length_cons,List.length_nil]; omega)]
   rfl
  exact (loop_next (cnd_t (decide_eq_true (by omega)) (bnd hap (bnd (congrArg some (wrap_succ (n:=i) (by omega))) rfl)))).trans (emp_loop hN k (i+1) fu (by omega) (by omega))
theorem gemp {N:Nat} (hN:N≤20) {D:List Int} (hD:isB D) (hl:D.length≤5000) {r:((List Int)×Int×(List Int)×Int×Int)⊕((Option T_grow_stream)×Int)} {f2:Nat} (h:loopF gdS f2 (emp N++D,((40 * N:Nat):Int),[],4096,(N:Int),false)=some r):∀ (k i:Nat),i+k=N→loopF gdS (f2+k) (emp N++D,((40 * i:Nat):Int),[],4096,(i:Int),false)=some r
 | 0,i,hk=>by
  obtain rfl:i=N:=by omega
  exact h
 | k+1,i,hk=>by
  have hlen:(emp N++D).length=5 * N+D.length:=by rw [List.length_append,emp_len]
  have hBy:isB (emp N++D):=fun x hx=>(List.mem_append.1 hx).elim (emp_bytes N x) (hD x)
  obtain ⟨k1,_⟩:=gstor (b:=[]) (fun n hn=>(by cases hn)) (by simp) hBy (by omega) (f:=0) (P:=40 * i) (most:=4096) (by omega) (bl:=(i:Int)) (by omega) (by omega) (out:=[]) (by simp) (emp_sp N i D (by omega)) (by simp only [List.length_nil]; omega)
  have k1:=k1 (by simp)
  rw [List.length_nil,Nat.mul_zero,Nat.add_zero,List.append_nil,show 40 * i+40=40 * (i+1) by omega] at k1
  have ih:=gemp hN hD hl h k (i+1) (by omega)
  refine (loop_next (n:=f2+k) (step:=gdS) (s':=(emp N++D,((40 * (i+1):Nat):Int),[],4096,((i+1:Nat):Int),false)) ?_).trans ih
  unfold gdS
  exact cnd_t rfl (bnd k1 (cnd_f rfl (bnd (congrArg some (wrap_succ (n:=i) (by omega))) rfl)))
theorem growEmpty_true (b:List Int) (n:Int) (hw:wfL (wfI .u8) b):wherrylaw07_GrowEmpty b n=some true:=by
 have hb:=bys hw
 unfold wherrylaw07_GrowEmpty
 by_cases h15:1500<b.length
 ·exact cnd_t (decide_eq_true (by omega)) rfl
 obtain ⟨w,ps,h1,h2,h3,h4⟩:=shr_is hb (by omega)
 have hg:=h2.good
 have hlen:=hg.len
 rw [wid_stQ] at h4
 obtain ⟨A,N,hA,hr,hN,hw2⟩:=mod07 n 20 (by omega) (by omega)
 rw [show ((20:Nat):Int)=20 from rfl] at hr
 have hlB:(emp N++w.b).length=5 * N+w.b.length:=by rw [List.length_append,emp_len]
 have hBy:isB (emp N++w.b):=fun x hx=>(List.mem_append.1 hx).elim (emp_bytes N x) (hg.bytes x)
 have hsp:=Sp_right (emp N) w.b ps 0 h2.sp
 rw [emp_len,show 8 * (5 * N)+0=40 * N by omega] at hsp
 obtain ⟨k1,_⟩:=gshr hb (by omega) h3 hBy (by omega) (P:=40 * N) (by omega) (bl:=((N:Nat):Int)) (most:=4096) (by omega) (out:=[]) (by rw [List.length_nil,Nat.zero_add]; exact chk_toksS b) (by rw [List.nil_append]; exact ex_toksS b) (by simp) hsp (by omega)
 have k1:=k1 (by rw [List.length_nil]; omega)
 rw [List.nil_append] at k1
 have hl1:=gd_last (by omega) k1 (BIG-N-2)
 have hl2:=gemp (by omega) hg.bytes (by omega) hl1 N 0 (by omega)
 rw [show BIG-N-2+2+N=BIG by simp only [BIG]; omega] at hl2
 have hz:∀ q,40 * N+wid ps≤q→bitC (emp N++w.b) q=false:=fun q hq=>by
  have e:q=8 * (emp N).length+(q-40 * N):=by rw [emp_len]; omega
  rw [e,bitC_right]
  exact hg.zero _ (by omega)
 have hrd:=gread_fin (by omega) (by omega) (by omega) hl2 (gend hBy (by omega) (by omega) (by omega) hz)
 have q1:=ggrow_ok hrd
 have q2:=gblocks_ok hrd
 have hap:appO 1 (emp N) w.b=some (emp N++w.b):=by
  unfold appO
  rw [if_pos (by rw [emp_len]; omega)]
 have he:(((N+1:Nat):Int)==((N+1:Nat):Int))=true:=beq_iff_eq.2 rfl
 exact cnd_f (decide_eq_false (by omega)) (bnd (congrArg some hA) (bnd hr (bnd (congrArg some hw2) (bnd h1 (cnd_f rfl (bndL (emp_loop (by omega) N 0 BIG (by omega) (by simp only [BIG]; omega)) (bnd hap (bnd q1 (bnd q2
  (bndL (s:=true) (cnd_t rfl (cnd_t rfl (bnd (congrArg some (wrap_succ (n:=N) (by omega))) (cnd_t he (bnd (gkeep (a:=b) (by omega)) (cnd_t rfl (bnd wakes7 rfl))))))) rfl))))))))))
end Go.Abs.Sh
