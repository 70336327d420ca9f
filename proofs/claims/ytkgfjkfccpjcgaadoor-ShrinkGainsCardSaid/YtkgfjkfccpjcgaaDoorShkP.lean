import Derived.Test.YtkgfjkfccpjcgaaDoorCanS
import Derived.KernelRfl
namespace Go.Abs.Sh
set_option linter.unusedVariables false
set_option linter.unusedSimpArgs false
set_option maxRecDepth 10000
def wpS:(((List Int)×Int×Int×Int))→Option (((List Int)×Int×Int×Int)⊕(((List Int)×Int)⊕T_shrink_writer)):=(fun ((s35,s36,s37,s38):(List Int)×Int×Int×Int) =>
 cond ((decide (0<s37)))
  ((remO s36 8).bind fun v3 =>
  bindS (S:=(List Int)) (A:=(((List Int)×Int×Int×Int)⊕(((List Int)×Int)⊕T_shrink_writer)))
   (cond ((v3==0))
    ((appO 1 s35 [0]).bind fun v5 =>
    some (.inl v5))
    (some (.inl s35)))
   (fun (s56:(List Int)) =>
    (some (IntKind.i64.wrap (8-v3))).bind fun v11 =>
    (some (if s37<v11 then s37 else v11)).bind fun v12 =>
    (some (IntKind.i64.wrap ((s56.length:Int)-1))).bind fun v13 =>
    (ixO v13 s56.length).bind fun v14 =>
    (getO s56 v14).bind fun v15 =>
    (shlO .u32 s38 v3).bind fun v16 =>
    (some (IntKind.u8.wrap v16)).bind fun v17 =>
    (some (bits .or .u8 v15 v17)).bind fun v18 =>
    (ixO v13 s56.length).bind fun v19 =>
    (some (s56.set v19 v18)).bind fun v20 =>
    (shrO .u32 s38 v12).bind fun v21 =>
    (some (IntKind.i64.wrap (s36+v12))).bind fun v22 =>
    (some (IntKind.i64.wrap (s37-v12))).bind fun v23 =>
    some (.inl (v20,v22,v23,v21))) some)
  (some (.inr (.inl (s35,s36)))))
theorem wrA' (a b:Nat) (h:a+b<4611686018427387904):IntKind.i64.wrap ((a:Int)+(b:Int))=((a+b:Nat):Int):=by rw [wrap_i64 (by omega) (by omega)]; omega
theorem wrS' {a b:Nat} (h:b≤a) (ha:a<4611686018427387904):IntKind.i64.wrap ((a:Int)-(b:Int))=((a-b:Nat):Int):=by rw [wrap_i64 (by omega) (by omega)]; omega
theorem bitC_app0 (B:List Int) (q:Nat):bitC (B++[0]) q=bitC B q:=by
 simp only [bitC,List.getD_eq_getElem?_getD,List.getElem?_append]
 by_cases h:q / 8<B.length
 ·rw [if_pos h]
 ·rw [if_neg h,List.getElem?_eq_none (Nat.le_of_not_lt h)]
  by_cases h2:q / 8-B.length=0
  ·rw [h2]; simp
  ·rw [List.getElem?_eq_none (by simp; omega)]
structure Room (B:List Int) (N:Nat):Prop where
 len:B.length=N / 8+1
 bytes:isB B
 zero:∀ q,N≤q→bitC B q=false
theorem room_of {B:List Int} {N:Nat} (h:Good B N):Room (if N % 8=0 then B++[0] else B) N:=by
 by_cases h8:N % 8=0
 ·rw [if_pos h8]
  refine ⟨by rw [List.length_append,h.len]; simp; omega,fun n hn => ?_,fun q hq=>by rw [bitC_app0]; exact h.zero q hq⟩
  rcases List.mem_append.1 hn with k | k
  ·exact h.bytes n k
  ·rw [List.mem_singleton.1 k]; omega
 ·rw [if_neg h8]
  exact ⟨by rw [h.len]; omega,h.bytes,h.zero⟩
theorem put_core {B:List Int} {N r p:Nat} (h:Room B N) (hp:0<p) (hp8:N % 8+p≤8) (hr:N % 8+p<8→r<2 ^ p) {x:Nat} (hx:B.getD (N / 8) 0=(x:Int)) :
  Good (B.set (N / 8) ((x ||| (r * 2 ^ (N % 8) % 256):Nat):Int)) (N+p)∧(∀ q,q<N→bitC (B.set (N / 8) ((x ||| (r * 2 ^ (N % 8) % 256):Nat):Int)) q=bitC B q) ∧
   ∀ i,i<p→bitC (B.set (N / 8) ((x ||| (r * 2 ^ (N % 8) % 256):Nat):Int)) (N+i)=r.testBit i:=by
 have hlt:N / 8<B.length:=by rw [h.len]; omega
 have hx8:x<256:=by
  have:=h.bytes _ (List.getElem_mem hlt)
  rw [List.getD_eq_getElem?_getD,List.getElem?_eq_getElem hlt,Option.getD_some] at hx
  omega
 have hm:r * 2 ^ (N % 8) % 256<2 ^ 8:=Nat.mod_lt _ (by decide)
 have hor:x ||| (r * 2 ^ (N % 8) % 256)<2 ^ 8:=Nat.or_lt_two_pow hx8 hm
 have hb:∀ q,bitC (B.set (N / 8) ((x ||| (r * 2 ^ (N % 8) % 256):Nat):Int)) q=(bitC B q||(decide (q / 8=N / 8)&&(decide (N % 8≤q % 8)&&r.testBit (q % 8-N % 8)))):=fun q=>by
  rw [bitC_set _ _ _ _ hlt]
  by_cases hq:q / 8=N / 8
  ·have hbx:bitC B q=x.testBit (q % 8):=by
    unfold bitC
    rw [hq,hx,Int.toNat_natCast]
   have h8:q % 8<8:=Nat.mod_lt _ (by omega)
   rw [if_pos hq,Int.toNat_natCast,Nat.testBit_or,hbx,decide_eq_true hq,Bool.true_and,show (256:Nat)=2 ^ 8 from rfl,Nat.testBit_mod_two_pow,decide_eq_true h8,Bool.true_and,Nat.mul_comm,Nat.testBit_two_pow_mul]
  ·rw [if_neg hq,decide_eq_false hq]; simp
 refine ⟨⟨by rw [List.length_set,h.len]; omega,fun n hn => ?_,fun q hq => ?_⟩,fun q hq => ?_,fun i hi => ?_⟩
 ·rcases List.mem_or_eq_of_mem_set hn with k | k
  ·exact h.bytes n k
  ·rw [k]
   have:(2:Nat) ^ 8=256:=by decide
   omega
 ·rw [hb q,h.zero q (by omega)]
  by_cases hq8:q / 8=N / 8
  ·have hpl:N % 8+p<8:=by omega
   have:r.testBit (q % 8-N % 8)=false:=Nat.testBit_lt_two_pow (Nat.lt_of_lt_of_le (hr hpl) (Nat.pow_le_pow_right (by omega) (by omega)))
   rw [this]; simp
  ·rw [decide_eq_false hq8]; simp
 ·rw [hb q]
  by_cases hq8:q / 8=N / 8
  ·rw [decide_eq_false (show ¬ N % 8≤q % 8 by omega)]; simp
  ·rw [decide_eq_false hq8]; simp
 ·rw [hb (N+i),h.zero (N+i) (by omega)]
  have e1:(N+i) / 8=N / 8:=by omega
  have e2:(N+i) % 8=N % 8+i:=by omega
  rw [decide_eq_true e1,e2,decide_eq_true (by omega),show N % 8+i-N % 8=i by omega]; simp
theorem wp_step {B:List Int} {N n r:Nat} (h:Good B N) (hn:0<n) (hn2:n≤24) (hr:r<2 ^ n) (hN:N+n≤1000000) :
  ∃ B',wpS (B,(N:Int),(n:Int),(r:Int))=some (.inl (B',((N+min (8-N % 8) n:Nat):Int),((n-min (8-N % 8) n:Nat):Int),((r / 2 ^ min (8-N % 8) n:Nat):Int))) ∧
   Good B' (N+min (8-N % 8) n)∧(∀ q,q<N→bitC B' q=bitC B q)∧∀ i,i<min (8-N % 8) n→bitC B' (N+i)=r.testBit i:=by
 obtain ⟨p,hp⟩:∃ p,p=min (8-N % 8) n:=⟨_,rfl⟩
 rw [← hp]
 have hu:N % 8<8:=Nat.mod_lt _ (by omega)
 have hR:=room_of h
 obtain ⟨B1,hB1⟩:∃ B1,B1=if N % 8=0 then B++[0] else B:=⟨_,rfl⟩
 rw [← hB1] at hR
 have hlt:N / 8<B1.length:=by rw [hR.len]; omega
 have hB:=h.len
 have hx:=hR.bytes _ (List.getElem_mem hlt)
 obtain ⟨x,hxe⟩:∃ x:Nat,B1[N / 8]=(x:Int):=⟨B1[N / 8].toNat,by omega⟩
 have hxd:B1.getD (N / 8) 0=(x:Int):=by rw [List.getD_eq_getElem?_getD,List.getElem?_eq_getElem hlt,Option.getD_some,hxe]
 have hp24:(2:Nat) ^ n≤2 ^ 24:=Nat.pow_le_pow_right (by omega) hn2
 have hpu:(2:Nat) ^ (N % 8)≤2 ^ 7:=Nat.pow_le_pow_right (by omega) (by omega)
 have e24:(2:Nat) ^ 24=16777216:=by decide
 have e7:(2:Nat) ^ 7=128:=by decide
 have hmul:r * 2 ^ (N % 8)≤16777215 * 128:=Nat.mul_le_mul (by omega) (by omega)
 have hm8:r * 2 ^ (N % 8) % 256<256:=Nat.mod_lt _ (by omega)
 obtain ⟨c1,c2,c3⟩:=put_core (r:=r) (p:=p) hR (by omega) (by omega) (fun h8=>by
  have:p=n:=by omega
  rw [this]; exact hr) hxd
 have w8:IntKind.u8.wrap ((r * 2 ^ (N % 8):Nat):Int)=((r * 2 ^ (N % 8) % 256:Nat):Int):=by rw [wrap_u8']; rfl
 have hB1b:∀ q,bitC B1 q=bitC B q:=fun q=>by
  rw [hB1]
  by_cases h8:N % 8=0
  ·rw [if_pos h8,bitC_app0]
  ·rw [if_neg h8]
 refine ⟨B1.set (N / 8) ((x ||| (r * 2 ^ (N % 8) % 256):Nat):Int),?_,c1,fun q hq=>(c2 q hq).trans (hB1b q),c3⟩
 have hmin:(if (n:Int)<((8-N % 8:Nat):Int) then (n:Int) else ((8-N % 8:Nat):Int))=((p:Nat):Int):=by
  rw [hp]
  by_cases hc:n<8-N % 8
  ·rw [if_pos (by omega),Nat.min_eq_right (by omega)]
  ·rw [if_neg (by omega),Nat.min_eq_left (by omega)]
 have hlast:IntKind.i64.wrap ((B1.length:Int)-1)=((N / 8:Nat):Int):=by rw [hR.len,wrap_i64 (by omega) (by omega)]; omega
 have hg:getO B1 (N / 8)=some (x:Int):=by rw [getO_of hlt,hxe]
 refine cnd_t (decide_eq_true (by omega)) (bnd (rem_nat N 8 (by omega)) (bndL (s:=B1) ?_ (bnd (congrArg some (wrS' (a:=8) (b:=N % 8) (by omega) (by omega))) (bnd (congrArg some hmin) (bnd (congrArg some hlast) (bnd (ixO_of hlt) (bnd hg (bnd (shl_u32 r (N % 8) (by omega) (by omega)) (bnd (congrArg some w8) (bnd (congrArg some (or_u8 x _ (by omega) hm8)) (bnd (ixO_of hlt) (bnd rfl (bnd (shr_nat .u32 r p (by show p≤32; omega)) (bnd (congrArg some (wrA' N p (by omega))) (bnd (congrArg some (wrS' (a:=n) (b:=p) (by omega) (by omega))) rfl))))))))))))))) 
 by_cases h8:N % 8=0
 ·rw [hB1,if_pos h8]
  exact cnd_t (by rw [h8]; rfl) (bnd (app_of (m:=[(0:Int)]) (by simp; omega) (by simp; omega)) rfl)
 ·rw [hB1,if_neg h8]
  exact cnd_f (beq_eq_false_iff_ne.2 (by omega)) rfl
theorem wp_loop:∀ (k fuel:Nat) (B:List Int) (N n r:Nat),n≤k→k<fuel→Good B N→n≤24→r<2 ^ n→N+n≤1000000 →
  ∃ B',loopF wpS fuel (B,(N:Int),(n:Int),(r:Int))=some (.inl (B',((N+n:Nat):Int)))∧Good B' (N+n)∧(∀ q,q<N→bitC B' q=bitC B q)∧∀ i,i<n→bitC B' (N+i)=r.testBit i
 | k,fuel,B,N,0,r,hk,hf,hG,hn,hr,hN=>by
  obtain ⟨fu,rfl⟩:∃ fu,fuel=fu+1:=⟨fuel-1,by omega⟩
  exact ⟨B,loop_exit rfl,hG,fun _ _=>rfl,fun i hi=>by omega⟩
 | 0,fuel,B,N,n+1,r,hk,hf,hG,hn,hr,hN=>by omega
 | k+1,fuel,B,N,n+1,r,hk,hf,hG,hn,hr,hN=>by
  obtain ⟨fu,rfl⟩:∃ fu,fuel=fu+1:=⟨fuel-1,by omega⟩
  have hu:N % 8<8:=Nat.mod_lt _ (by omega)
  obtain ⟨B1,b1,b2,b3,b4⟩:=wp_step hG (by omega) hn hr (by omega)
  obtain ⟨p,hp⟩:∃ p,p=min (8-N % 8) (n+1):=⟨_,rfl⟩
  rw [← hp] at b1 b2 b4
  have hr':r / 2 ^ p<2 ^ (n+1-p):=by
   rw [Nat.div_lt_iff_lt_mul (Nat.two_pow_pos p),← Nat.pow_add]
   rwa [show n+1-p+p=n+1 by omega]
  obtain ⟨B2,c1,c2,c3,c4⟩:=wp_loop k fu B1 (N+p) (n+1-p) (r / 2 ^ p) (by omega) (by omega) b2 (by omega) hr' (by omega)
  have e:N+p+(n+1-p)=N+(n+1):=by omega
  rw [e] at c1 c2
  refine ⟨B2,(loop_next b1).trans c1,c2,fun q hq=>(c3 q (by omega)).trans (b3 q hq),fun i hi => ?_⟩
  by_cases hip:i<p
  ·exact (c3 (N+i) (by omega)).trans (b4 i hip)
  ·have:=c4 (i-p) (by omega)
   rw [show N+p+(i-p)=N+i by omega,Nat.testBit_div_two_pow,show i-p+p=i by omega] at this
   exact this
theorem u32_small {v:Nat} (h:v<4294967296):IntKind.u32.wrap (v:Int)=(v:Int):=wrap_u32c (by omega) (by omega)
theorem Sp_app:∀ (a b:List (Nat×Nat)) (N:Nat) (B:List Int),Sp (a++b) N B↔Sp a N B∧Sp b (N+wid a) B
 | [],b,N,B=>by simp [Sp,wid]
 | p::a,b,N,B=>by
  simp only [List.cons_append,Sp,Sp_app a b,wid,List.map_cons,List.sum_cons,Nat.add_assoc,and_assoc]
theorem Sp_keep:∀ (a:List (Nat×Nat)) (N:Nat) (B B':List Int),(∀ q,q<N+wid a→bitC B' q=bitC B q)→Sp a N B→Sp a N B'
 | [],N,B,B',_,_=>trivial
 | p::a,N,B,B',h,hs=>by
  have hw:wid (p::a)=p.2+wid a:=by simp [wid]
  rw [hw] at h
  exact ⟨fun t ht=>(h (N+t) (by omega)).trans (hs.1 t ht),Sp_keep a (N+p.2) B B' (fun q hq=>h q (by omega)) hs.2⟩
theorem wid_app (a b:List (Nat×Nat)):wid (a++b)=wid a+wid b:=by simp [wid]
structure WP (w:T_shrink_writer) (ps:List (Nat×Nat)):Prop where
 n:w.n=((wid ps:Nat):Int)
 good:Good w.b (wid ps)
 sp:Sp ps 0 w.b
theorem WP.put {w:T_shrink_writer} {ps:List (Nat×Nat)} (h:WP w ps) (v n:Nat) (hn:n≤24) (hv:v<2 ^ n) (hN:wid ps+n≤1000000) :
  ∃ w',shrink_writer_put w (v:Int) (n:Int)=some w'∧WP w' (ps++[(v,n)]):=by
 have hp24:(2:Nat) ^ n≤2 ^ 24:=Nat.pow_le_pow_right (by omega) hn
 have e24:(2:Nat) ^ 24=16777216:=by decide
 obtain ⟨B',b1,b2,b3,b4⟩:=wp_loop n BIG w.b (wid ps) n v (by omega) (by simp only [BIG]; omega) h.good hn hv hN
 have hw:wid (ps++[(v,n)])=wid ps+n:=by simp [wid]
 refine ⟨⟨B',((wid ps+n:Nat):Int)⟩,?_,⟨by rw [hw],by rw [hw]; exact b2,(Sp_app _ _ _ _).2 ⟨Sp_keep ps 0 w.b B' (fun q hq=>b3 q (by omega)) h.sp,fun t ht => ?_,trivial⟩⟩⟩
 ·unfold shrink_writer_put
  rw [h.n]
  exact bnd (congrArg some (u32_small (by omega))) (bndL b1 rfl)
 ·rw [Nat.zero_add]; exact b4 t ht
theorem WP.puts {w:T_shrink_writer} {ps:List (Nat×Nat)} {v n:Int} (h:WP w ps) (vn nn:Nat) (e1:v=(vn:Int)) (e2:n=(nn:Int)) (hn:nn≤24) (hv:vn<2 ^ nn) (hN:wid ps+nn≤1000000) :
  ∃ w',shrink_writer_put w v n=some w'∧WP w' (ps++[(vn,nn)]):=by subst e1 e2; exact h.put vn nn hn hv hN
/-! The other way about. -/
def rv (v:Nat):Nat→Nat
 | 0=>0
 | n+1=>2 * rv v n+v / 2 ^ n % 2
theorem rv_lt (v:Nat):∀ n,rv v n<2 ^ n
 | 0=>by simp [rv]
 | n+1=>by
  have:=rv_lt v n
  have:=Nat.mod_lt (v / 2 ^ n) (show 0<2 by omega)
  rw [rv,Nat.pow_succ]
  omega
theorem rv_bit (v:Nat):∀ n i,i<n→(rv v n).testBit i=v.testBit (n-1-i)
 | 0,i,h=>by omega
 | n+1,i,h=>by
  rw [rv]
  have hb:=Nat.mod_lt (v / 2 ^ n) (show 0<2 by omega)
  cases i with
  | zero =>
   have h1:(2 * rv v n+v / 2 ^ n % 2) % 2=v / 2 ^ n % 2:=by omega
   rw [Nat.testBit_zero,h1,show n+1-1-0=n by omega,Nat.testBit_eq_decide_div_mod_eq]
  | succ i =>
   rw [Nat.testBit_succ,show (2 * rv v n+v / 2 ^ n % 2) / 2=rv v n by omega,rv_bit v n i (by omega)]
   congr 1; omega
theorem turn_rv (v n:Nat) (hn:n≤24) (hv:v<2 ^ n):bits_Turn (v:Int) (n:Int)=some (((rv v n:Nat):Int),0):=by
 obtain ⟨r,h1,h2,h3⟩:=turn_eq v n hn hv
 rw [h1]
 have:r=rv v n:=by
  refine Nat.eq_of_testBit_eq fun i => ?_
  by_cases hi:i<n
  ·rw [h3 i hi,rv_bit v n i hi]
  ·rw [Nat.testBit_lt_two_pow (Nat.lt_of_lt_of_le h2 (Nat.pow_le_pow_right (by omega) (by omega))),Nat.testBit_lt_two_pow (Nat.lt_of_lt_of_le (rv_lt v n) (Nat.pow_le_pow_right (by omega) (by omega)))]
 rw [this]
structure Cd (m:List Nat):Prop where
 len:m.length≤300
 le:∀ x∈m,x≤15
 fm:forms m=true
def cdT (m:List Nat):T_shrink_code:=⟨ints m,ints (codes m)⟩
theorem newCode_eq {m:List Nat} (h:Cd m):shrink_newCode_ro (ints m)=some (cdT m):=by
 unfold shrink_newCode_ro
 exact bnd (codes_eq m h.len h.le h.fm) rfl
def syP (m:List Nat) (j:Nat):Nat×Nat:=(rv (code m j) (m.getD j 0),m.getD j 0)
theorem code_fit {m:List Nat} (h:Cd m) {j:Nat} (hj:j<m.length):code m j<2 ^ m.getD j 0∧m.getD j 0≤15:=by
 have e:m.getD j 0=m[j]:=by simp [List.getD_eq_getElem?_getD,hj]
 refine ⟨?_,by rw [e]; exact h.le _ (List.getElem_mem hj)⟩
 by_cases h0:m[j]=0
 ·have:code m j=0:=by unfold code; rw [e,if_pos h0]
  rw [this]; exact Nat.two_pow_pos _
 ·rw [e]; exact code_lt (forms_ws h.fm) h.le hj h0
theorem WP.sym {w:T_shrink_writer} {ps:List (Nat×Nat)} (h:WP w ps) {m:List Nat} (hm:Cd m) {j:Nat} (hj:j<m.length) (hN:wid ps+15≤1000000) :
  ∃ w',shrink_writer_putSym w (cdT m) (j:Int)=some w'∧WP w' (ps++[syP m j]):=by
 obtain ⟨f1,f2⟩:=code_fit hm hj
 obtain ⟨w',p1,p2⟩:=h.put (rv (code m j) (m.getD j 0)) (m.getD j 0) (by omega) (rv_lt _ _) (by omega)
 have e:m.getD j 0=m[j]:=by simp [List.getD_eq_getElem?_getD,hj]
 have hcl:j<(codes m).length:=by simp [codes,hj]
 have g1:getO (ints (codes m)) j=some ((code m j:Nat):Int):=by rw [ints_get hcl]; simp [codes]
 have g2:getO (ints m) j=some ((m.getD j 0:Nat):Int):=by rw [ints_get hj,e]
 have i1:ixO (j:Int) (ints (codes m)).length=some j:=ixO_of (by rw [ints_len]; exact hcl)
 have i2:ixO (j:Int) (ints m).length=some j:=ixO_of (by rw [ints_len]; exact hj)
 refine ⟨w',?_,p2⟩
 unfold shrink_writer_putSym cdT
 exact bnd i1 (bnd g1 (bnd i2 (bnd g2 (bnd (turn_rv _ _ (by omega) f1) (bnd i2 (bnd g2 (bnd p1 rfl)))))))
end Go.Abs.Sh
