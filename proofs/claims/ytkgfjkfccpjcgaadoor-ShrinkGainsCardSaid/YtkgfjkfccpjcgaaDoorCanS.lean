import Derived.Test.YtkgfjkfccpjcgaaDoorCanonM
import Derived.Test.YtkgfjkfccpjcgaaDoorBitX
import Derived.Test.YtkgfjkfccpjcgaaDoorKeepM
import Derived.KernelRfl
namespace Go.Abs.Sh
set_option linter.unusedVariables false
set_option linter.unusedSimpArgs false
set_option maxRecDepth 10000
theorem pow_split {n:Nat} (h:n≤15):2 ^ n * 2 ^ (15-n)=32768:=by
 rw [← Nat.pow_add,show n+(15-n)=15 by omega]
theorem fst_step (m:List Nat) {n:Nat} (h0:1≤n) (h:n≤15):fst m n * 2 ^ (15-n)=ws m (n-1):=by
 have:=fst_ws m (n-1) (by omega)
 rwa [show n-1+1=n by omega,show 14-(n-1)=15-n by omega] at this
theorem ws_step (m:List Nat) {n:Nat} (h0:1≤n) (h:n≤15):(fst m n+m.count n) * 2 ^ (15-n)=ws m n:=by
 rw [Nat.add_mul,fst_step m h0 h]
 obtain ⟨k,rfl⟩:∃ k,n=k+1:=⟨n-1,by omega⟩
 rfl
theorem fst_le {m:List Nat} (hw:ws m 15≤32768) {n:Nat} (h0:1≤n) (h:n≤15):fst m n+m.count n≤2 ^ n:=by
 have h1:=ws_step m h0 h
 have h2:=ws_mono m h
 have hp:0<2 ^ (15-n):=Nat.pow_pos (by omega)
 refine Nat.le_of_mul_le_mul_right ?_ hp
 rw [h1,pow_split h]
 omega
theorem pow_le15 {n:Nat} (h:n≤15):2 ^ n≤32768:=Nat.pow_le_pow_right (show 0<2 by omega) h
theorem fst_small {m:List Nat} (hw:ws m 15≤32768) {n:Nat} (h:n≤15):fst m n≤32768:=by
 rcases Nat.eq_zero_or_pos n with h0 | h0
 ·subst h0; simp [fst]
 ·have:=fst_le hw h0 h
  have:=pow_le15 h
  omega
def fl (m:List Nat) (i:Nat):List Nat:=(List.range 16).map fun n=>if n<i then fst m n else 0
theorem fl_len (m:List Nat) (i:Nat):(fl m i).length=16:=by simp [fl]
theorem fl_set (m:List Nat) (i:Nat) (h:i<16):(fl m i).set i (fst m i)=fl m (i+1):=by
 apply List.ext_getElem
 ·simp [fl]
 ·intro j h1 h2
  rw [List.getElem_set]
  simp only [fl,List.getElem_map,List.getElem_range]
  by_cases hij:i=j
  ·subst hij; simp
  ·rw [if_neg hij]
   by_cases hj:j<i
   ·rw [if_pos hj,if_pos (by omega)]
   ·rw [if_neg hj,if_neg (by omega)]
theorem firsts_eq (m:List Nat) (hl:m.length≤1000) (hw:ws m 15≤32768):canon_firsts (ints (tal m))=some (ints (fl m 16)):=by
 unfold canon_firsts
 have key:∀ (k fuel i:Nat),16-i=k→i≤16→2≤i→k<fuel →
  loopF (S:=((List Int)×Int)) (O:=((List Int))⊕(List Int)) (fun ((s16,s17):(List Int)×Int) =>
   cond ((decide (s17≤15)))
    ((some (IntKind.i64.wrap (s17-1))).bind fun v2 =>
    (ixO v2 16).bind fun v3 =>
    (getO s16 v3).bind fun v4 =>
    (some (IntKind.i64.wrap (s17-1))).bind fun v5 =>
    (ixO v5 16).bind fun v6 =>
    (getO (ints (tal m)) v6).bind fun v7 =>
    (some (IntKind.i64.wrap (v4+v7))).bind fun v8 =>
    (some (IntKind.i64.wrap (2 * v8))).bind fun v9 =>
    (ixO s17 16).bind fun v10 =>
    (setO s16 v10 v9).bind fun v11 =>
    (some (IntKind.i64.wrap (s17+1))).bind fun v12 =>
    some (.inl (v11,v12)))
    (some (.inr (.inl s16)))) fuel (ints (fl m i),(i:Int))=some (.inl (ints (fl m 16))):=by
  intro k
  induction k with
  | zero =>
   intro fuel i hk hi h2 hf
   obtain ⟨f,rfl⟩:∃ f,fuel=f+1:=⟨fuel-1,by omega⟩
   have:i=16:=by omega
   subst this
   exact loop_exit (cnd_f (by simp) rfl)
  | succ k ih =>
   intro fuel i hk hi h2 hf
   obtain ⟨f,rfl⟩:∃ f,fuel=f+1:=⟨fuel-1,by omega⟩
   have h16:i<16:=by omega
   have w1:IntKind.i64.wrap ((i:Int)-1)=((i-1:Nat):Int):=by rw [wrap_i64 (by omega) (by omega)]; omega
   have w2:IntKind.i64.wrap ((i:Int)+1)=((i+1:Nat):Int):=by rw [wrap_i64 (by omega) (by omega)]; simp
   have hx:i-1<16:=by omega
   have hfl:i-1<(fl m i).length:=by rw [fl_len]; exact hx
   have hg:(fl m i)[i-1]=fst m (i-1):=by simp [fl]; omega
   have hb:=fst_le hw (n:=i-1) (by omega) (by omega)
   have hb2:=pow_le15 (n:=i-1) (by omega)
   have w3:IntKind.i64.wrap (((fst m (i-1):Nat):Int)+((m.count (i-1):Nat):Int))=((fst m (i-1)+m.count (i-1):Nat):Int):=by rw [wrap_i64 (by omega) (by omega)]; simp
   have hstep:fst m i=2 * (fst m (i-1)+m.count (i-1)):=by
    obtain ⟨j,rfl⟩:∃ j,i=j+2:=⟨i-2,by omega⟩
    rfl
   have w4:IntKind.i64.wrap (2 * ((fst m (i-1)+m.count (i-1):Nat):Int))=((fst m i:Nat):Int):=by rw [hstep,wrap_i64 (by omega) (by omega)]; simp
   have hset:=ints_set (fl m i) i (fst m i) (by rw [fl_len]; exact h16)
   rw [fl_set m i h16] at hset
   refine (loop_next (cnd_t (by simp; omega) (bnd (x:=((i-1:Nat):Int)) (by rw [w1]) (bnd (ixO_of hx) (bnd (x:=((fst m (i-1):Nat):Int)) (by rw [ints_get hfl,hg]) (bnd (x:=((i-1:Nat):Int)) (by rw [w1]) (bnd (ixO_of hx) (bnd (tal_get m hx (by omega))
    (bnd (x:=((fst m (i-1)+m.count (i-1):Nat):Int)) (by rw [w3]) (bnd (x:=((fst m i:Nat):Int)) (by rw [w4]) (bnd (ixO_of h16) (bnd hset (bnd (x:=((i+1:Nat):Int)) (by rw [w2]) rfl))))))))))))).trans ?_
   exact ih f (i+1) (by omega) (by omega) (by omega) (by omega)
 have h0:ints (fl m 2)=List.replicate 16 (0:Int):=by
  have:fl m 2=List.replicate 16 0:=by
   apply List.ext_getElem
   ·simp [fl]
   ·intro j h1 h2
    simp only [fl,List.getElem_map,List.getElem_range,List.getElem_replicate]
    split
    ·rename_i h
     have:j=0∨j=1:=by omega
     rcases this with rfl | rfl <;> rfl
    ·rfl
  rw [this]; decide
 have hk:=key 14 BIG 2 rfl (by omega) (by omega) (by unfold BIG; omega)
 rw [h0] at hk
 have l16:lnO 16 (ints (fl m 16))=some (ints (fl m 16)):=by simp [lnO,ints_len,fl_len]
 have l0:lnO 16 (List.replicate 16 (0:Int))=some (List.replicate 16 (0:Int)):=by decide
 exact bndL hk (bnd l16 (bnd l0 (bnd l16 (bnd l16 rfl))))
def code (m:List Nat) (j:Nat):Nat:=if m.getD j 0=0 then 0 else fst m (m.getD j 0)+(m.take j).count (m.getD j 0)
def codes (m:List Nat):List Nat:=(List.range m.length).map (code m)
def nx (m:List Nat) (i:Nat):List Nat:=(List.range 16).map fun n=>if n=0 then 0 else fst m n+(m.take i).count n
def cd (m:List Nat) (i:Nat):List Nat:=(List.range m.length).map fun j=>if j<i then code m j else 0
theorem nx_len (m:List Nat) (i:Nat):(nx m i).length=16:=by simp [nx]
theorem cd_len (m:List Nat) (i:Nat):(cd m i).length=m.length:=by simp [cd]
theorem nx_set (m:List Nat) (i:Nat) (h:i<m.length) (hx:m[i]≤15) (h0:0<m[i]):(nx m i).set m[i] (fst m m[i]+(m.take i).count m[i]+1)=nx m (i+1):=by
 have htk:m.take (i+1)=m.take i++[m[i]]:=by rw [List.take_add_one]; simp [h]
 apply List.ext_getElem
 ·simp [nx]
 ·intro j h1 h2
  rw [List.getElem_set]
  simp only [nx,List.getElem_map,List.getElem_range,htk,List.count_append]
  by_cases hij:m[i]=j
  ·rw [if_pos hij,if_neg (by omega),hij]; simp [hij]; omega
  ·rw [if_neg hij]
   have:List.count j [m[i]]=0:=by simp [List.count_cons,hij]
   rw [this]; rfl
theorem nx_zero (m:List Nat) (i:Nat) (h:i<m.length) (h0:m[i]=0):nx m (i+1)=nx m i:=by
 have htk:m.take (i+1)=m.take i++[m[i]]:=by rw [List.take_add_one]; simp [h]
 apply List.ext_getElem
 ·simp [nx]
 ·intro j h1 h2
  simp only [nx,List.getElem_map,List.getElem_range,htk,List.count_append]
  by_cases hj:j=0
  ·simp [hj]
  ·have:List.count j [m[i]]=0:=by simp [List.count_cons,h0]; omega
   rw [this]; rfl
theorem cd_set (m:List Nat) (i:Nat) (h:i<m.length):(cd m i).set i (code m i)=cd m (i+1):=by
 apply List.ext_getElem
 ·simp [cd]
 ·intro j h1 h2
  rw [List.getElem_set]
  simp only [cd,List.getElem_map,List.getElem_range]
  by_cases hij:i=j
  ·subst hij; simp
  ·rw [if_neg hij]
   by_cases hj:j<i
   ·rw [if_pos hj,if_pos (by omega)]
   ·rw [if_neg hj,if_neg (by omega)]
theorem cd_zero (m:List Nat) (i:Nat) (h:i<m.length) (h0:m[i]=0):cd m (i+1)=cd m i:=by
 apply List.ext_getElem
 ·simp [cd]
 ·intro j h1 h2
  simp only [cd,List.getElem_map,List.getElem_range]
  by_cases hij:j=i
  ·subst hij
   have:code m j=0:=by simp [code,List.getD_eq_getElem?_getD,h,h0]
   simp [this]
  ·by_cases hj:j<i
   ·rw [if_pos hj,if_pos (by omega)]
   ·rw [if_neg hj,if_neg (by omega)]
theorem codes_eq (m:List Nat) (hl:m.length≤300) (hm:∀ x∈m,x≤15) (hf:forms m=true):canon_Codes (ints m)=some (ints (codes m),0):=by
 have hw:=forms_ws hf
 unfold canon_Codes
 have hck:=check_ints m (by omega)
 rw [if_pos ⟨hl,hm⟩,if_pos hf] at hck
 have l16:lnO 16 (ints (fl m 16))=some (ints (fl m 16)):=by simp [lnO,ints_len,fl_len]
 have l0:lnO 16 (List.replicate 16 (0:Int))=some (List.replicate 16 (0:Int)):=by decide
 have hmk:mkO 8 ((ints m).length:Int) (0:Int)=some (ints (cd m 0)):=by
  simp only [mkO]
  rw [if_pos ⟨by omega,by rw [ints_len]; omega⟩,ints_len]
  congr 1
  apply List.ext_getElem
  ·simp [ints,cd]
  ·intro j h1 h2; simp [ints,cd]
 have hn0:nx m 0=fl m 16:=by
  apply List.ext_getElem
  ·simp [nx,fl]
  ·intro j h1 h2
   have hj:j<16:=by rw [nx_len] at h1; exact h1
   simp only [nx,fl,List.getElem_map,List.getElem_range,List.take_zero,List.count_nil,Nat.add_zero,hj,if_true]
   split
   ·rename_i h; subst h; rfl
   ·rfl
 refine bnd hck (cnd_f rfl (bnd (count_eq m hm (by omega)) (bnd (firsts_eq m (by omega) hw) (bnd l0 (bnd l16 (bnd hmk ?_))))))
 have key:∀ (k fuel i:Nat),m.length-i=k→i≤m.length→k<fuel →
   loopF (S:=((List Int)×(List Int)×Int)) (O:=((List Int))⊕((List Int)×Int)) (fun ((s39,s40,s41):(List Int)×(List Int)×Int) =>
    cond ((decide (s41<((ints m).length:Int))))
     (bindS (S:=(List Int)×(List Int)) (A:=(((List Int)×(List Int)×Int)⊕(((List Int))⊕((List Int)×Int))))
      ((ixO s41 (ints m).length).bind fun v9 =>
      (getO (ints m) v9).bind fun v10 =>
      cond ((decide (0<v10)))
       ((ixO v10 16).bind fun v12 =>
       (getO s39 v12).bind fun v13 =>
       (ixO s41 s40.length).bind fun v14 =>
       (some (s40.set v14 v13)).bind fun v15 =>
       (ixO v10 16).bind fun v16 =>
       (getO s39 v16).bind fun v17 =>
       (some (IntKind.i64.wrap (v17+1))).bind fun v18 =>
       (ixO v10 16).bind fun v19 =>
       (setO s39 v19 v18).bind fun v20 =>
       some (.inl (v20,v15)))
       (some (.inl (s39,s40))))
      (fun ((s59,s60):(List Int)×(List Int)) =>
       (some (IntKind.i64.wrap (s41+1))).bind fun v27 =>
       some (.inl (s59,s60,v27))) some)
     (some (.inr (.inl s40)))) fuel (ints (nx m i),ints (cd m i),(i:Int))=some (.inl (ints (cd m m.length))):=by
  intro k
  induction k with
  | zero =>
   intro fuel i hk hi hf
   obtain ⟨f,rfl⟩:∃ f,fuel=f+1:=⟨fuel-1,by omega⟩
   have:i=m.length:=by omega
   subst this
   exact loop_exit (cnd_f (by simp [ints_len]) rfl)
  | succ k ih =>
   intro fuel i hk hi hf
   obtain ⟨f,rfl⟩:∃ f,fuel=f+1:=⟨fuel-1,by omega⟩
   have hlt:i<m.length:=by omega
   have hlt':i<(ints m).length:=by rw [ints_len]; exact hlt
   have hw1:IntKind.i64.wrap ((i:Int)+1)=((i+1:Nat):Int):=by rw [wrap_i64 (by omega) (by omega)]; simp
   have hx:=hm m[i] (List.getElem_mem hlt)
   refine (loop_next (s':=(ints (nx m (i+1)),ints (cd m (i+1)),((i+1:Nat):Int))) (cnd_t (by simp; omega) (bndL (s:=(ints (nx m (i+1)),ints (cd m (i+1)))) (bnd (ixO_of hlt') (bnd (ints_get hlt) ?_)) (bnd (x:=((i+1:Nat):Int)) (by rw [hw1]) rfl)))).trans (ih f (i+1) (by omega) (by omega) (by omega))
   by_cases h0:0<m[i]
   ·have h16:m[i]<16:=by omega
    have hnl:m[i]<(nx m i).length:=by rw [nx_len]; exact h16
    have hng:(nx m i)[m[i]]=fst m m[i]+(m.take i).count m[i]:=by simp [nx]; omega
    have hcode:code m i=fst m m[i]+(m.take i).count m[i]:=by
     have:m.getD i 0=m[i]:=by simp [List.getD_eq_getElem?_getD,hlt]
     rw [code,this,if_neg (by omega)]
    have hc:(m.take i).count m[i]≤m.length:=Nat.le_trans List.count_le_length (by simp; omega)
    have hfs:=fst_small hw hx
    have w5:IntKind.i64.wrap (((fst m m[i]+(m.take i).count m[i]:Nat):Int)+1)=((fst m m[i]+(m.take i).count m[i]+1:Nat):Int):=by rw [wrap_i64 (by omega) (by omega)]; simp
    have hg:getO (ints (nx m i)) m[i]=some ((fst m m[i]+(m.take i).count m[i]:Nat):Int):=by rw [ints_get hnl,hng]
    have hcl:i<(ints (cd m i)).length:=by rw [ints_len,cd_len]; exact hlt
    have hset:=ints_set (nx m i) m[i] (fst m m[i]+(m.take i).count m[i]+1) hnl
    rw [nx_set m i hlt hx h0] at hset
    have hcs:(ints (cd m i)).set i (((fst m m[i]+(m.take i).count m[i]:Nat)):Int)=ints (cd m (i+1)):=by
     rw [← cd_set m i hlt,hcode,ints,ints,List.map_set]
    refine cnd_t (by simp; omega) (bnd (ixO_of h16) (bnd hg (bnd (ixO_of hcl) (bnd (x:=ints (cd m (i+1))) (by rw [hcs]) (bnd (ixO_of h16) (bnd hg (bnd (x:=((fst m m[i]+(m.take i).count m[i]+1:Nat):Int)) (by rw [w5]) (bnd (ixO_of h16) (bnd hset rfl)))))))))
   ·have hz:m[i]=0:=by omega
    refine cnd_f (by simp; omega) ?_
    rw [nx_zero m i hlt hz,cd_zero m i hlt hz]
 have hk:=key m.length BIG 0 (by omega) (Nat.zero_le _) (by unfold BIG; omega)
 rw [hn0] at hk
 have he:cd m m.length=codes m:=by
  apply List.ext_getElem
  ·simp [cd,codes]
  ·intro j h1 h2
   have:j<m.length:=by rw [cd_len] at h1; exact h1
   simp [cd,codes,this]
 rw [he] at hk
 exact bndL hk rfl
theorem wrap_u64c {n:Int} (h0:0≤n) (h1:n<18446744073709551616):IntKind.u64.wrap n=n:=by
 simp only [IntKind.wrap,IntKind.bits,IntKind.signed]
 have e:(2:Int) ^ 64=18446744073709551616:=by decide
 simp only [e,Bool.false_and,Bool.false_eq_true,if_false]
 omega
theorem getD_of {m:List Nat} {i:Nat} (h:i<m.length):m.getD i 0=m[i]:=by simp [List.getD_eq_getElem?_getD,h]
theorem code_of {m:List Nat} {i:Nat} (h:i<m.length) (h0:m[i]≠0):code m i=fst m m[i]+(m.take i).count m[i]:=by
 rw [code,getD_of h,if_neg h0]
theorem count_take_lt {m:List Nat} {i:Nat} (h:i<m.length):(m.take i).count m[i]+1≤m.count m[i]:=by
 have h1:m.count m[i]=(m.take i).count m[i]+(m.drop i).count m[i]:=by
  rw [← List.count_append,List.take_append_drop]
 have h2:m.drop i=m[i]::m.drop (i+1):=List.drop_eq_getElem_cons h
 rw [h1,h2,List.count_cons]
 simp
theorem code_lt {m:List Nat} (hw:ws m 15≤32768) (hm:∀ x∈m,x≤15) {i:Nat} (h:i<m.length) (h0:m[i]≠0):code m i+1≤2 ^ m[i]:=by
 have h1:=fst_le hw (n:=m[i]) (by omega) (hm _ (List.getElem_mem h))
 have h2:=count_take_lt h
 rw [code_of h h0]; omega
theorem code_same {m:List Nat} {i k:Nat} (hi:i<m.length) (hk:k<m.length) (h0:m[i]≠0) (he:m[i]=m[k]) (hlt:i<k):code m i<code m k:=by
 rw [code_of hi h0,code_of hk (by omega),← he]
 have h1:m.take k=m.take i++(m.drop i).take (k-i):=by
  rw [← List.take_add,Nat.add_sub_cancel' (by omega)]
 have h2:m.drop i=m[i]::m.drop (i+1):=List.drop_eq_getElem_cons hi
 have h3:(m.drop i).take (k-i)=m[i]::(m.drop (i+1)).take (k-i-1):=by
  rw [h2,show k-i=(k-i-1)+1 by omega]; rfl
 rw [h1,h3,List.count_append,List.count_cons]
 simp
def valid (l:List Int):Prop:=l.length≤300∧∀ n∈l,0≤n∧n≤15
instance validDec (l:List Int):Decidable (valid l):=by unfold valid; infer_instance
theorem ws_snoc (m:List Nat) (x:Nat) (h1:1≤x) (h15:x≤15):∀ k,ws (m++[x]) k=ws m k+if x≤k then 2 ^ (15-x) else 0
 | 0=>by rw [if_neg (by omega)]; rfl
 | k+1=>by
  rw [ws,ws,ws_snoc m x h1 h15 k,List.count_append]
  by_cases h:x=k+1
  ·subst h
   rw [if_neg (by omega),if_pos (by omega)]
   simp [Nat.add_mul]; omega
  ·have:List.count (k+1) [x]=0:=by simp [List.count_cons,h]
   rw [this,Nat.add_zero]
   by_cases h2:x≤k
   ·rw [if_pos h2,if_pos (by omega)]; omega
   ·rw [if_neg h2,if_neg (by omega)]; omega
theorem in_eqc (n lo hi:Int):wherryref01_in n lo hi=some (decide (lo≤n)&&decide (n≤hi)):=by
 unfold wherryref01_in
 cases h:decide (lo≤n) <;> rfl
theorem right_eq (l:List Int) (hl:l.length≤1000):wherryref01_RightLengths l=some (decide (valid l)):=by
 unfold wherryref01_RightLengths
 by_cases l1:300<l.length
 ·refine cnd_t (by simp; omega) ?_
  rw [decide_eq_false (fun h=>by have:=h.1; omega)]
 refine cnd_f (by simp; omega) ?_
 have key:∀ (k fuel i:Nat),l.length-i=k→i≤l.length→k<fuel →
   loopF (S:=(Int)) (O:=(Unit)⊕Bool) (fun (s11:Int) =>
    cond ((decide (s11<(l.length:Int))))
     ((ixO s11 l.length).bind fun v3 =>
     (getO l v3).bind fun v4 =>
     (wherryref01_in v4 0 15).bind fun v5 =>
     cond ((!v5))
      (some (.inr (.inr (false))))
      ((some (IntKind.i64.wrap (s11+1))).bind fun v7 =>
      some (.inl v7)))
     (some (.inr (.inl ())))) fuel (i:Int)=some (if ∀ n∈l.drop i,0≤n∧n≤15 then .inl () else .inr false):=by
  intro k
  induction k with
  | zero =>
   intro fuel i hk hi hf
   obtain ⟨f,rfl⟩:∃ f,fuel=f+1:=⟨fuel-1,by omega⟩
   have:i=l.length:=by omega
   subst this
   refine loop_exit (cnd_f (by simp) ?_)
   rw [if_pos (by simp)]
  | succ k ih =>
   intro fuel i hk hi hf
   obtain ⟨f,rfl⟩:∃ f,fuel=f+1:=⟨fuel-1,by omega⟩
   have hlt:i<l.length:=by omega
   have hw:IntKind.i64.wrap ((i:Int)+1)=((i+1:Nat):Int):=by rw [wrap_i64 (by omega) (by omega)]; simp
   have hdr:l.drop i=l[i]::l.drop (i+1):=List.drop_eq_getElem_cons hlt
   by_cases hv:0≤l[i]∧l[i]≤15
   ·refine (loop_next (cnd_t (by simp; omega) (bnd (ixO_of hlt) (bnd (getO_of hlt) (bnd (in_eqc _ _ _) (cnd_f (by simp [hv]) (bnd (x:=((i+1:Nat):Int)) (by rw [hw]) rfl))))))).trans ?_
    rw [ih f (i+1) (by omega) (by omega) (by omega),hdr]
    simp only [List.mem_cons,forall_eq_or_imp,hv,true_and,and_self]
   ·refine loop_exit (cnd_t (by simp; omega) (bnd (ixO_of hlt) (bnd (getO_of hlt) (bnd (in_eqc _ _ _) (cnd_t ?_ ?_)))))
    ·by_cases h0:0≤l[i]
     ·have:¬ l[i]≤15:=fun h=>hv ⟨h0,h⟩
      simp [this]
     ·simp [h0]
    ·rw [hdr,if_neg (fun h=>hv (h l[i] (List.mem_cons_self)))]
 have:=key l.length BIG 0 (by omega) (Nat.zero_le _) (by unfold BIG; omega)
 rw [List.drop_zero] at this
 by_cases hv:∀ n∈l,0≤n∧n≤15
 ·rw [if_pos hv] at this
  refine bndL (s:=()) this ?_
  rw [decide_eq_true (show valid l from ⟨by omega,hv⟩)]
 ·rw [if_neg hv] at this
  refine bndR (a:=false) this ?_
  rw [decide_eq_false (fun h=>hv h.2)]
theorem take_snoc {m:List Nat} {i:Nat} (h:i<m.length):m.take (i+1)=m.take i++[m[i]]:=by rw [List.take_add_one]; simp [h]
theorem ws_snoc0 (m:List Nat):∀ k,ws (m++[0]) k=ws m k
 | 0=>rfl
 | k+1=>by
  rw [ws,ws,ws_snoc0 m k,List.count_append]
  have:List.count (k+1) [0]=0:=by simp [List.count_cons]
  rw [this,Nat.add_zero]
theorem ws_nil:∀ k,ws [] k=0
 | 0=>rfl
 | k+1=>by rw [ws,ws_nil k]; simp
theorem refWeigh_eq (m:List Nat) (hl:m.length≤300) (hm:∀ x∈m,x≤15):wherryref01_Weigh (ints m)=some ((ws m 15:Nat):Int):=by
 unfold wherryref01_Weigh
 have hv:valid (ints m):=by
  refine ⟨by rw [ints_len]; exact hl,fun n hn => ?_⟩
  obtain ⟨x,hx,rfl⟩:=List.mem_map.1 hn
  have:=hm x hx; omega
 refine bnd (right_eq _ (by rw [ints_len]; omega)) (cnd_f (by rw [decide_eq_true hv]; rfl) ?_)
 have hbig:∀ i,ws (m.take i) 15≤15 * (300 * 32768):=by
  intro i
  refine Nat.le_trans (ws_le _ 15) (Nat.mul_le_mul_left _ (Nat.mul_le_mul_right _ ?_))
  simp; omega
 have key:∀ (k fuel i:Nat),m.length-i=k→i≤m.length→k<fuel →
   loopF (S:=(Int×Int)) (O:=(Int)⊕Int) (fun ((s28,s29):Int×Int) =>
    cond ((decide (s29<((ints m).length:Int))))
     (bindS (S:=Int) (A:=((Int×Int)⊕((Int)⊕Int)))
      ((ixO s29 (ints m).length).bind fun v4 =>
      (getO (ints m) v4).bind fun v5 =>
      cond ((decide (0<v5)))
       ((ixO s29 (ints m).length).bind fun v7 =>
       (getO (ints m) v7).bind fun v8 =>
       (some (IntKind.i64.wrap (15-v8))).bind fun v9 =>
       (some (IntKind.u64.wrap v9)).bind fun v10 =>
       (shlO .i64 1 v10).bind fun v11 =>
       (some (IntKind.i64.wrap (s28+v11))).bind fun v12 =>
       some (.inl v12))
       (some (.inl s28)))
      (fun (s46:Int) =>
       (some (IntKind.i64.wrap (s29+1))).bind fun v18 =>
       some (.inl (s46,v18))) some)
     (some (.inr (.inl s28)))) fuel (((ws (m.take i) 15:Nat):Int),(i:Int))=some (.inl ((ws m 15:Nat):Int)):=by
  intro k
  induction k with
  | zero =>
   intro fuel i hk hi hf
   obtain ⟨f,rfl⟩:∃ f,fuel=f+1:=⟨fuel-1,by omega⟩
   have:i=m.length:=by omega
   subst this
   refine loop_exit (cnd_f (by simp [ints_len]) ?_)
   rw [List.take_length]
  | succ k ih =>
   intro fuel i hk hi hf
   obtain ⟨f,rfl⟩:∃ f,fuel=f+1:=⟨fuel-1,by omega⟩
   have hlt:i<m.length:=by omega
   have hlt':i<(ints m).length:=by rw [ints_len]; exact hlt
   have hw:IntKind.i64.wrap ((i:Int)+1)=((i+1:Nat):Int):=by rw [wrap_i64 (by omega) (by omega)]; simp
   have hx:=hm m[i] (List.getElem_mem hlt)
   have hb1:=hbig i
   have hb2:=hbig (i+1)
   refine (loop_next (s':=(((ws (m.take (i+1)) 15:Nat):Int),((i+1:Nat):Int))) (cnd_t (by simp; omega) (bndL (s:=((ws (m.take (i+1)) 15:Nat):Int)) (bnd (ixO_of hlt') (bnd (ints_get hlt) ?_)) (bnd (x:=((i+1:Nat):Int)) (by rw [hw]) rfl)))).trans (ih f (i+1) (by omega) (by omega) (by omega))
   by_cases h0:0<m[i]
   ·have v1:IntKind.i64.wrap (15-((m[i]:Nat):Int))=((15-m[i]:Nat):Int):=by rw [wrap_i64 (by omega) (by omega)]; omega
    have u1:IntKind.u64.wrap ((15-m[i]:Nat):Int)=((15-m[i]:Nat):Int):=wrap_u64c (by omega) (by omega)
    have hp:=pow_le15 (n:=15-m[i]) (by omega)
    have sh:=shl_nat 1 (15-m[i]) (by omega) (by omega)
    rw [Nat.one_mul] at sh
    have hs:ws (m.take (i+1)) 15=ws (m.take i) 15+2 ^ (15-m[i]):=by
     rw [take_snoc hlt,ws_snoc _ _ h0 hx,if_pos hx]
    have w3:IntKind.i64.wrap (((ws (m.take i) 15:Nat):Int)+((2 ^ (15-m[i]):Nat):Int))=((ws (m.take (i+1)) 15:Nat):Int):=by
     rw [hs]
     generalize 2 ^ (15-m[i])=y at *
     rw [wrap_i64 (by omega) (by omega)]; simp
    exact cnd_t (by simp; omega) (bnd (ixO_of hlt') (bnd (ints_get hlt) (bnd (x:=((15-m[i]:Nat):Int)) (by rw [v1]) (bnd (x:=((15-m[i]:Nat):Int)) (by rw [u1]) (bnd sh (bnd (x:=((ws (m.take (i+1)) 15:Nat):Int)) (by rw [w3]) rfl))))))
   ·have hz:m[i]=0:=by omega
    refine cnd_f (by simp; omega) ?_
    rw [take_snoc hlt,hz,ws_snoc0]
 have:=key m.length BIG 0 (by omega) (Nat.zero_le _) (by unfold BIG; omega)
 rw [List.take_zero,ws_nil] at this
 exact bndL this rfl
def nz (m:List Nat):Nat:=m.countP (fun x=>decide (0<x))
def lastz:List Nat→Nat→Nat
 | [],d=>d
 | x::l,d=>lastz l (if 0<x then x else d)
theorem lastz_snoc:∀ (m:List Nat) (x d:Nat),lastz (m++[x]) d=if 0<x then x else lastz m d
 | [],x,d=>rfl
 | y::m,x,d=>by simp only [List.cons_append,lastz,lastz_snoc m]
theorem nz_zero {m:List Nat}:nz m=0↔∀ x∈m,x=0:=by
 unfold nz
 rw [List.countP_eq_zero]
 constructor
 ·intro h x hx
  have:=h x hx
  simpa using this
 ·intro h x hx
  have:=h x hx
  simp [this]
theorem tal_zero {m:List Nat} (hm:∀ x∈m,x≤15):ints (tal m)=List.replicate 16 0↔nz m=0:=by
 rw [nz_zero]
 constructor
 ·intro h x hx
  refine Classical.byContradiction fun hx0 => ?_
  have h15:=hm x hx
  have:=tal_get m (n:=x) (by omega) (by omega)
  rw [h] at this
  simp only [getO,List.getElem?_replicate] at this
  rw [if_pos (by omega)] at this
  have hc:m.count x=0:=by simp at this; omega
  exact absurd (List.count_pos_iff.2 hx) (by omega)
 ·intro h
  have e:tal m=List.replicate 16 0:=by
   apply List.ext_getElem
   ·simp [tal]
   ·intro i h1 h2
    rw [tal_at,List.getElem_replicate]
    split
    ·rfl
    ·refine List.count_eq_zero.2 fun hi => ?_
     have:=h i hi; omega
  rw [e]; decide
theorem nz_count (m:List Nat):∀ (hm:∀ x∈m,x=0∨x=1),nz m=m.count 1:=by
 intro hm
 unfold nz
 rw [List.count]
 refine List.countP_congr fun x hx => ?_
 rcases hm x hx with h | h <;> simp [h]
theorem lastz_one:∀ (m:List Nat) (d:Nat),(∀ x∈m,x=0∨x=1)→lastz m d=if m.count 1=0 then d else 1
 | [],d,_=>by simp [lastz]
 | x::m,d,h=>by
  rw [lastz,lastz_one m _ (fun y hy=>h y (by simp [hy]))]
  rcases h x (by simp) with hx | hx
  ·subst hx; simp [List.count_cons]
  ·subst hx
   rw [List.count_cons]
   simp
theorem lastz_mem:∀ (m:List Nat) (d:Nat),nz m=1→∀ x∈m,x=0∨x=lastz m d
 | [],d,h,x,hx=>by cases hx
 | y::m,d,h,x,hx=>by
  rw [lastz]
  unfold nz at h
  rw [List.countP_cons] at h
  by_cases hy:0<y
  ·have hd:decide (0<y)=true:=by simp [hy]
   rw [hd] at h
   simp only [if_true] at h
   have h0:nz m=0:=by unfold nz; omega
   have hz:=nz_zero.1 h0
   rw [if_pos hy]
   have hl:lastz m y=y:=by
    rw [lastz_one m y (fun z hz' => .inl (hz z hz'))]
    have:m.count 1=0:=List.count_eq_zero.2 fun h1=>by have:=hz 1 h1; omega
    rw [if_pos this]
   rcases List.mem_cons.1 hx with rfl | hx
   ·exact .inr hl.symm
   ·exact .inl (hz x hx)
  ·have hd:decide (0<y)=false:=by simp; omega
   rw [hd] at h
   rw [if_neg hy]
   rcases List.mem_cons.1 hx with rfl | hx
   ·exact .inl (by omega)
   ·exact lastz_mem m d (by simpa [nz] using h) x hx
theorem tal_lone {m:List Nat} (hm:∀ x∈m,x≤15):ints (tal m)=0::1::List.replicate 14 0↔nz m=1∧lastz m 0=1:=by
 constructor
 ·intro h
  have hc:∀ n,0<n→n<16→m.count n=if n=1 then 1 else 0:=by
   intro n h0 h16
   have:=tal_get m h16 h0
   rw [h] at this
   simp only [getO] at this
   by_cases h1:n=1
   ·subst h1; simp at this; simp; omega
   ·obtain ⟨k,rfl⟩:∃ k,n=k+2:=⟨n-2,by omega⟩
    simp only [List.getElem?_cons_succ,List.getElem?_replicate] at this
    rw [if_pos (by omega)] at this
    simp at this
    rw [if_neg h1]; omega
  have h01:∀ x∈m,x=0∨x=1:=by
   intro x hx
   by_cases h0:x=0
   ·exact .inl h0
   ·have:=hc x (by omega) (by have:=hm x hx; omega)
    have hp:=List.count_pos_iff.2 hx
    by_cases h1:x=1
    ·exact .inr h1
    ·rw [if_neg h1] at this; omega
  have h1:=hc 1 (by omega) (by omega)
  rw [if_pos rfl] at h1
  refine ⟨(nz_count m h01).trans h1,?_⟩
  rw [lastz_one m 0 h01,if_neg (by omega)]
 ·rintro ⟨h1,h2⟩
  have h01:∀ x∈m,x=0∨x=1:=by
   intro x hx
   have:=lastz_mem m 0 h1 x hx
   rwa [h2] at this
  have hc1:m.count 1=1:=(nz_count m h01).symm.trans h1
  have e:tal m=0::1::List.replicate 14 0:=by
   apply List.ext_getElem
   ·simp [tal]
   ·intro i hi1 hi2
    rw [tal_at]
    rcases i with _ | _ | i
    ·rfl
    ·simp [hc1]
    ·simp only [List.getElem_cons_succ,List.getElem_replicate]
     rw [if_neg (by omega)]
     refine List.count_eq_zero.2 fun hi => ?_
     have:=h01 _ hi; omega
  rw [e]; decide
theorem makes_eq (m:List Nat) (hl:m.length≤300) (hm:∀ x∈m,x≤15):wherryref01_makes (ints m)=some (forms m):=by
 unfold wherryref01_makes
 have key:∀ (k fuel i:Nat),m.length-i=k→i≤m.length→k<fuel →
  loopF (S:=(Int×Int×Int)) (O:=(Int×Int)⊕Bool) (fun ((s26,s27,s28):Int×Int×Int) =>
   cond ((decide (s28<((ints m).length:Int))))
    (bindS (S:=Int×Int) (A:=((Int×Int×Int)⊕((Int×Int)⊕Bool)))
     ((ixO s28 (ints m).length).bind fun v2 =>
     (getO (ints m) v2).bind fun v3 =>
     cond ((decide (0<v3)))
      ((some (IntKind.i64.wrap (s26+1))).bind fun v5 =>
      (ixO s28 (ints m).length).bind fun v6 =>
      (getO (ints m) v6).bind fun v7 =>
      some (.inl (v5,v7)))
      (some (.inl (s26,s27))))
     (fun ((s47,s48):Int×Int) =>
      (some (IntKind.i64.wrap (s28+1))).bind fun v14 =>
      some (.inl (s47,s48,v14))) some)
    (some (.inr (.inl (s26,s27))))) fuel (((nz (m.take i):Nat):Int),((lastz (m.take i) 0:Nat):Int),(i:Int))=some (.inl (((nz m:Nat):Int),((lastz m 0:Nat):Int))):=by
  intro k
  induction k with
  | zero =>
   intro fuel i hk hi hf
   obtain ⟨f,rfl⟩:∃ f,fuel=f+1:=⟨fuel-1,by omega⟩
   have:i=m.length:=by omega
   subst this
   refine loop_exit (cnd_f (by simp [ints_len]) ?_)
   rw [List.take_length]
  | succ k ih =>
   intro fuel i hk hi hf
   obtain ⟨f,rfl⟩:∃ f,fuel=f+1:=⟨fuel-1,by omega⟩
   have hlt:i<m.length:=by omega
   have hlt':i<(ints m).length:=by rw [ints_len]; exact hlt
   have hw:IntKind.i64.wrap ((i:Int)+1)=((i+1:Nat):Int):=by rw [wrap_i64 (by omega) (by omega)]; simp
   have hn:nz (m.take i)≤300:=Nat.le_trans (List.countP_le_length) (by simp; omega)
   have hns:nz (m.take (i+1))=nz (m.take i)+if 0<m[i] then 1 else 0:=by
    rw [take_snoc hlt,nz,List.countP_append]
    simp [nz,List.countP_cons]
   have hls:lastz (m.take (i+1)) 0=if 0<m[i] then m[i] else lastz (m.take i) 0:=by rw [take_snoc hlt,lastz_snoc]
   refine (loop_next (s':=(((nz (m.take (i+1)):Nat):Int),((lastz (m.take (i+1)) 0:Nat):Int),((i+1:Nat):Int))) (cnd_t (by simp; omega) (bndL (s:=(((nz (m.take (i+1)):Nat):Int),((lastz (m.take (i+1)) 0:Nat):Int))) (bnd (ixO_of hlt') (bnd (ints_get hlt) ?_)) (bnd (x:=((i+1:Nat):Int)) (by rw [hw]) rfl)))).trans (ih f (i+1) (by omega) (by omega) (by omega))
   by_cases h0:0<m[i]
   ·have w3:IntKind.i64.wrap (((nz (m.take i):Nat):Int)+1)=((nz (m.take (i+1)):Nat):Int):=by rw [hns,if_pos h0,wrap_i64 (by omega) (by omega)]; simp
    refine cnd_t (by simp; omega) (bnd (x:=((nz (m.take (i+1)):Nat):Int)) (by rw [w3]) (bnd (ixO_of hlt') (bnd (ints_get hlt) ?_)))
    rw [hls,if_pos h0]
   ·refine cnd_f (by simp; omega) ?_
    rw [hns,hls,if_neg h0,if_neg h0]
    rfl
 have:=key m.length BIG 0 (by omega) (Nat.zero_le _) (by unfold BIG; omega)
 rw [List.take_zero] at this
 refine bndL this ?_
 have hwg:=refWeigh_eq m hl hm
 have z1:=tal_zero hm
 have z2:=tal_lone hm
 have ew:(((ws m 15:Nat):Int)==32768)=decide (ws m 15=32768):=by
  by_cases h:ws m 15=32768
  ·simp [h]
  ·have:((ws m 15:Nat):Int)≠32768:=by omega
   simp [h,this]
 refine bndL (s:=forms m) ?_ rfl
 by_cases h0:nz m=0
 ·refine cnd_t (by simp [h0]) ?_
  rw [forms,decide_eq_true (z1.2 h0)]; rfl
 refine cnd_f (by simp; omega) ?_
 rw [forms,decide_eq_false (fun h=>h0 (z1.1 h))]
 by_cases h1:nz m=1
 ·refine cnd_t (by simp [h1]) ?_
  by_cases h2:lastz m 0=1
  ·refine cnd_t (by simp [h2]) ?_
   rw [decide_eq_true (z2.2 ⟨h1,h2⟩)]; simp
  ·refine cnd_f (by simp; omega) (bnd hwg ?_)
   rw [decide_eq_false (fun h=>h2 (z2.1 h).2),ew]; simp
 ·refine cnd_f (by simp; omega) (bnd hwg ?_)
  rw [decide_eq_false (fun h=>h1 (z2.1 h).1),ew]; simp
def endOf (m:List Nat):Nat→Nat
 | 0=>0
 | k+1=>fst m (k+1)+m.count (k+1)
theorem fst_end (m:List Nat) {n:Nat} (h:1≤n):fst m n=2 * endOf m (n-1):=by
 rcases n with _ | _ | n
 ·omega
 ·rfl
 ·rfl
def oc (m:List Nat) (n i:Nat):List Nat:=(List.range m.length).map fun j=>if m.getD j 0=0 then 0 else if m.getD j 0<n then code m j else if m.getD j 0=n∧j<i then code m j else 0
theorem oc_len (m:List Nat) (n i:Nat):(oc m n i).length=m.length:=by simp [oc]
theorem oc_set (m:List Nat) (n i:Nat) (h:i<m.length) (hn:m[i]=n) (h0:0<n):(oc m n i).set i (code m i)=oc m n (i+1):=by
 apply List.ext_getElem
 ·simp [oc]
 ·intro j h1 h2
  rw [List.getElem_set]
  simp only [oc,List.getElem_map,List.getElem_range]
  by_cases hij:i=j
  ·subst hij
   have hd:m.getD i 0=n:=by rw [getD_of h]; exact hn
   rw [if_pos rfl,hd,if_neg (by omega),if_neg (by omega),if_pos ⟨rfl,by omega⟩]
  ·rw [if_neg hij]
   by_cases hz:m.getD j 0=0
   ·rw [if_pos hz,if_pos hz]
   ·rw [if_neg hz,if_neg hz]
    by_cases hlt:m.getD j 0<n
    ·rw [if_pos hlt,if_pos hlt]
    ·rw [if_neg hlt,if_neg hlt]
     by_cases hj:m.getD j 0=n∧j<i
     ·rw [if_pos hj,if_pos ⟨hj.1,by omega⟩]
     ·rw [if_neg hj,if_neg (fun h=>hj ⟨h.1,by omega⟩)]
theorem oc_skip (m:List Nat) (n i:Nat) (h:i<m.length) (hn:m[i]≠n):oc m n (i+1)=oc m n i:=by
 refine List.map_congr_left fun j hj => ?_
 by_cases hz:m.getD j 0=0
 ·rw [if_pos hz,if_pos hz]
 ·rw [if_neg hz,if_neg hz]
  by_cases hlt:m.getD j 0<n
  ·rw [if_pos hlt,if_pos hlt]
  ·rw [if_neg hlt,if_neg hlt]
   by_cases hj2:m.getD j 0=n∧j<i
   ·rw [if_pos hj2,if_pos ⟨hj2.1,by omega⟩]
   ·rw [if_neg hj2,if_neg]
    rintro ⟨h1,h2⟩
    by_cases hji:j=i
    ·subst hji; rw [getD_of h] at h1; exact hn h1
    ·exact hj2 ⟨h1,by omega⟩
theorem oc_next (m:List Nat) (n:Nat):oc m n m.length=oc m (n+1) 0:=by
 refine List.map_congr_left fun j hj => ?_
 have hjl:=List.mem_range.1 hj
 by_cases hz:m.getD j 0=0
 ·rw [if_pos hz,if_pos hz]
 ·rw [if_neg hz,if_neg hz]
  by_cases hlt:m.getD j 0<n
  ·rw [if_pos hlt,if_pos (by omega)]
  ·rw [if_neg hlt]
   by_cases he:m.getD j 0=n
   ·rw [if_pos ⟨he,hjl⟩,if_pos (by omega)]
   ·rw [if_neg (fun h=>he h.1),if_neg (by omega),if_neg (fun h=>by omega)]
theorem oc_all (m:List Nat) (hm:∀ x∈m,x≤15):oc m 16 0=codes m:=by
 refine List.map_congr_left fun j hj => ?_
 have hjl:=List.mem_range.1 hj
 have:=hm _ (List.getElem_mem hjl)
 by_cases hz:m.getD j 0=0
 ·rw [if_pos hz,code,if_pos hz]
 ·rw [if_neg hz,if_pos (by rw [getD_of hjl]; omega)]
theorem oc_none (m:List Nat):oc m 1 0=List.replicate m.length 0:=by
 apply List.ext_getElem
 ·simp [oc]
 ·intro j h1 h2
  simp only [oc,List.getElem_map,List.getElem_range,List.getElem_replicate]
  by_cases hz:m.getD j 0=0
  ·rw [if_pos hz]
  ·rw [if_neg hz,if_neg (by omega),if_neg (fun h=>by omega)]
theorem refCodes_eq (m:List Nat) (hl:m.length≤300) (hm:∀ x∈m,x≤15) (hf:forms m=true):wherryref01_codes (ints m)=some (ints (codes m)):=by
 have hw:=forms_ws hf
 unfold wherryref01_codes
 have hmk:mkO 8 ((ints m).length:Int) (0:Int)=some (ints (oc m 1 0)):=by
  simp only [mkO]
  rw [if_pos ⟨by omega,by rw [ints_len]; omega⟩,ints_len,oc_none,ints,List.map_replicate]; rfl
 have inner:∀ n:Nat,1≤n→n≤15→∀ (k fuel i:Nat),m.length-i=k→i≤m.length→k<fuel →
     loopF (S:=((List Int)×Int×Int)) (O:=((List Int)×Int)⊕(((List Int)×Int×Int)⊕(((List Int))⊕(List Int)))) (fun ((s184,s185,s186):(List Int)×Int×Int) =>
      cond ((decide (s186<((ints m).length:Int))))
       (bindS (S:=(List Int)×Int) (A:=(((List Int)×Int×Int)⊕(((List Int)×Int)⊕(((List Int)×Int×Int)⊕(((List Int))⊕(List Int))))))
        ((ixO s186 (ints m).length).bind fun v5 =>
        (getO (ints m) v5).bind fun v6 =>
        cond ((v6==(n:Int)))
         ((ixO s186 s184.length).bind fun v8 =>
         (some (s184.set v8 s185)).bind fun v9 =>
         (some (IntKind.i64.wrap (s185+1))).bind fun v10 =>
         some (.inl (v9,v10)))
         (some (.inl (s184,s185))))
        (fun ((s205,s206):(List Int)×Int) =>
         (some (IntKind.i64.wrap (s186+1))).bind fun v17 =>
         some (.inl (s205,s206,v17))) some)
       (some (.inr (.inl (s184,s185))))) fuel (ints (oc m n i),((fst m n+(m.take i).count n:Nat):Int),(i:Int))=some (.inl (ints (oc m n m.length),((fst m n+m.count n:Nat):Int))):=by
  intro n hn1 hn15 k
  induction k with
  | zero =>
   intro fuel i hk hi hf
   obtain ⟨f,rfl⟩:∃ f,fuel=f+1:=⟨fuel-1,by omega⟩
   have:i=m.length:=by omega
   subst this
   refine loop_exit (cnd_f (by simp [ints_len]) ?_)
   rw [List.take_length]
  | succ k ih =>
   intro fuel i hk hi hf
   obtain ⟨f,rfl⟩:∃ f,fuel=f+1:=⟨fuel-1,by omega⟩
   have hlt:i<m.length:=by omega
   have hlt':i<(ints m).length:=by rw [ints_len]; exact hlt
   have hw1:IntKind.i64.wrap ((i:Int)+1)=((i+1:Nat):Int):=by rw [wrap_i64 (by omega) (by omega)]; simp
   have hle:=fst_le hw hn1 hn15
   have hp:=pow_le15 hn15
   refine (loop_next (s':=(ints (oc m n (i+1)),((fst m n+(m.take (i+1)).count n:Nat):Int),((i+1:Nat):Int))) (cnd_t (by simp; omega) (bndL (s:=(ints (oc m n (i+1)),((fst m n+(m.take (i+1)).count n:Nat):Int))) (bnd (ixO_of hlt') (bnd (ints_get hlt) ?_)) (bnd (x:=((i+1:Nat):Int)) (by rw [hw1]) rfl)))).trans (ih f (i+1) (by omega) (by omega) (by omega))
   by_cases he:m[i]=n
   ·have hc:=count_take_lt hlt
    rw [he] at hc
    have hcode:code m i=fst m n+(m.take i).count n:=by rw [code_of hlt (by omega),he]
    have hcl:i<(ints (oc m n i)).length:=by rw [ints_len,oc_len]; exact hlt
    have hset:(ints (oc m n i)).set i ((fst m n+(m.take i).count n:Nat):Int)=ints (oc m n (i+1)):=by
     rw [← oc_set m n i hlt he (by omega),hcode,ints,ints,List.map_set]
    have hcnt:(m.take (i+1)).count n=(m.take i).count n+1:=by rw [take_snoc hlt,List.count_append,he]; simp
    have w3:IntKind.i64.wrap (((fst m n+(m.take i).count n:Nat):Int)+1)=((fst m n+(m.take (i+1)).count n:Nat):Int):=by rw [hcnt,wrap_i64 (by omega) (by omega)]; simp; omega
    exact cnd_t (by simp [he]) (bnd (ixO_of hcl) (bnd (x:=ints (oc m n (i+1))) (by rw [hset]) (bnd (x:=((fst m n+(m.take (i+1)).count n:Nat):Int)) (by rw [w3]) rfl)))
   ·have hcnt:(m.take (i+1)).count n=(m.take i).count n:=by
     rw [take_snoc hlt,List.count_append]
     have:List.count n [m[i]]=0:=by simp [List.count_cons,he]
     rw [this]; rfl
    refine cnd_f (by rw [beq_eq_false_iff_ne]; omega) ?_
    rw [oc_skip m n i hlt he,hcnt]
 have outer:∀ (k fuel n:Nat),16-n=k→1≤n→n≤16→k<fuel →
   loopF (S:=((List Int)×Int×Int)) (O:=((List Int))⊕(List Int)) (fun ((s107,s108,s109):(List Int)×Int×Int) =>
   cond ((decide (s109≤15)))
    ((some (IntKind.i64.wrap (2 * s108))).bind fun v3 =>
    bindS (S:=((List Int)×Int)) (A:=(((List Int)×Int×Int)⊕(((List Int))⊕(List Int))))
     (loopF (S:=((List Int)×Int×Int)) (O:=((List Int)×Int)⊕(((List Int)×Int×Int)⊕(((List Int))⊕(List Int)))) (fun ((s184,s185,s186):(List Int)×Int×Int) =>
      cond ((decide (s186<((ints m).length:Int))))
       (bindS (S:=(List Int)×Int) (A:=(((List Int)×Int×Int)⊕(((List Int)×Int)⊕(((List Int)×Int×Int)⊕(((List Int))⊕(List Int))))))
        ((ixO s186 (ints m).length).bind fun v5 =>
        (getO (ints m) v5).bind fun v6 =>
        cond ((v6==s109))
         ((ixO s186 s184.length).bind fun v8 =>
         (some (s184.set v8 s185)).bind fun v9 =>
         (some (IntKind.i64.wrap (s185+1))).bind fun v10 =>
         some (.inl (v9,v10)))
         (some (.inl (s184,s185))))
        (fun ((s205,s206):(List Int)×Int) =>
         (some (IntKind.i64.wrap (s186+1))).bind fun v17 =>
         some (.inl (s205,s206,v17))) some)
       (some (.inr (.inl (s184,s185)))))
      BIG (s107,v3,0))
     (fun ((s195,s196):(List Int)×Int) =>
      (some (IntKind.i64.wrap (s109+1))).bind fun v56 =>
      some (.inl (s195,s196,v56))) some)
    (some (.inr (.inl s107)))) fuel (ints (oc m n 0),((endOf m (n-1):Nat):Int),(n:Int))=some (.inl (ints (codes m))):=by
  intro k
  induction k with
  | zero =>
   intro fuel n hk h1 hi hf
   obtain ⟨f,rfl⟩:∃ f,fuel=f+1:=⟨fuel-1,by omega⟩
   have:n=16:=by omega
   subst this
   refine loop_exit (cnd_f (by simp) ?_)
   rw [oc_all m hm]
  | succ k ih =>
   intro fuel n hk h1 hi hf
   obtain ⟨f,rfl⟩:∃ f,fuel=f+1:=⟨fuel-1,by omega⟩
   have h15:n≤15:=by omega
   have hle:=fst_le hw h1 h15
   have hp:=pow_le15 h15
   have he:=fst_end m h1
   have w2:IntKind.i64.wrap (2 * ((endOf m (n-1):Nat):Int))=((fst m n:Nat):Int):=by rw [he,wrap_i64 (by omega) (by omega)]; simp
   have hw1:IntKind.i64.wrap ((n:Int)+1)=((n+1:Nat):Int):=by rw [wrap_i64 (by omega) (by omega)]; simp
   have hin:=inner n h1 h15 m.length BIG 0 (by omega) (Nat.zero_le _) (by unfold BIG; omega)
   rw [List.take_zero,List.count_nil,Nat.add_zero] at hin
   have hend:endOf m (n+1-1)=fst m n+m.count n:=by
    obtain ⟨q,rfl⟩:∃ q,n=q+1:=⟨n-1,by omega⟩
    rfl
   refine (loop_next (s':=(ints (oc m (n+1) 0),((endOf m (n+1-1):Nat):Int),((n+1:Nat):Int))) (cnd_t (by simp; omega) (bnd (x:=((fst m n:Nat):Int)) (by rw [w2]) (bndL hin ?_)))).trans (ih f (n+1) (by omega) (by omega) (by omega) (by omega))
   rw [oc_next,hend]
   exact bnd (x:=((n+1:Nat):Int)) (by rw [hw1]) rfl
 exact bnd hmk (bndL (outer 15 BIG 1 rfl (by omega) (by omega) (by unfold BIG; omega)) rfl)
def turnS:((Int×Int×Int))→Option ((Int×Int×Int)⊕((Int)⊕(Int×Int))):=(fun ((s14,s15,s16):Int×Int×Int) =>
  cond ((decide (0<s14)))
   ((shlO .u32 s15 1).bind fun v5 =>
   (some (bits .and .u32 s16 1)).bind fun v6 =>
   (some (bits .or .u32 v5 v6)).bind fun v7 =>
   (shrO .u32 s16 1).bind fun v8 =>
   (some (IntKind.i64.wrap (s14-1))).bind fun v9 =>
   some (.inl (v9,v7,v8)))
   (some (.inr (.inl s15))))
def isB (l:List Int):Prop:=∀ n∈l,0≤n∧n<256
def bitC (l:List Int) (q:Nat):Bool:=(l.getD (q / 8) 0).toNat.testBit (q % 8)
structure Good (B:List Int) (N:Nat):Prop where
 len:B.length=(N+7) / 8
 bytes:isB B
 zero:∀ q,N≤q→bitC B q=false
theorem wrap_u32c {n:Int} (h0:0≤n) (h1:n<4294967296):IntKind.u32.wrap n=n:=by
 simp only [IntKind.wrap,IntKind.bits,IntKind.signed]
 have e:(2:Int) ^ 32=4294967296:=by decide
 simp only [e,Bool.false_and,Bool.false_eq_true,if_false]
 omega
theorem ofInt32 (a:Nat) (ha:a<4294967296):(BitVec.ofInt 32 (a:Int)).toNat=a:=by
 rw [BitVec.ofInt_natCast,BitVec.toNat_ofNat]; exact Nat.mod_eq_of_lt (by omega)
theorem and1_u32 (a:Nat) (ha:a<4294967296):bits .and .u32 (a:Int) 1=((a % 2:Nat):Int):=by
 show IntKind.u32.wrap ((BitVec.ofInt 32 (a:Int) &&& BitVec.ofInt 32 ((1:Nat):Int)).toNat:Int)=_
 rw [BitVec.toNat_and,ofInt32 a ha,ofInt32 1 (by omega),Nat.and_one_is_mod,wrap_u32c (by omega) (by omega)]
theorem or_u32 (c x:Nat) (hc:c<1000000000) (hx:x<2):bits .or .u32 ((2 * c:Nat):Int) (x:Int)=((2 * c+x:Nat):Int):=by
 have h:=Nat.shiftLeft_add_eq_or_of_lt (a:=c) (b:=x) (i:=1) (by omega)
 rw [Nat.shiftLeft_eq,Nat.pow_one,Nat.mul_comm] at h
 show IntKind.u32.wrap ((BitVec.ofInt 32 ((2 * c:Nat):Int) ||| BitVec.ofInt 32 (x:Int)).toNat:Int)=_
 rw [BitVec.toNat_or,ofInt32 _ (by omega),ofInt32 _ (by omega),← h,wrap_u32c (by omega) (by omega)]
theorem shl_u32 (a k:Nat) (hk:k≤32) (h:a * 2 ^ k<4294967296):shlO .u32 (a:Int) (k:Int)=some ((a * 2 ^ k:Nat):Int):=by
 simp only [shlO,IntKind.bits]
 rw [if_pos (by omega),Int.toNat_natCast,Nat.min_eq_left hk]
 have e:(a:Int) * 2 ^ k=((a * 2 ^ k:Nat):Int):=by push_cast; rfl
 rw [e]
 generalize a * 2 ^ k=y at *
 rw [wrap_u32c (by omega) (by omega)]
theorem or_u8 (a b:Nat) (ha:a<256) (hb:b<256):bits .or .u8 (a:Int) (b:Int)=((a ||| b:Nat):Int):=by
 have hx:a ||| b<2 ^ 8:=Nat.or_lt_two_pow (by omega) (by omega)
 show IntKind.u8.wrap ((BitVec.ofInt 8 (a:Int) ||| BitVec.ofInt 8 (b:Int)).toNat:Int)=_
 rw [BitVec.toNat_or,ofInt8 a ha,ofInt8 b hb,wrap_u8']; omega
theorem fits_eq (v n:Nat) (hn:n≤24) (hv:v<2 ^ n):bits_fits (v:Int) (n:Int)=some true:=by
 have hp:2 ^ n≤2 ^ 24:=Nat.pow_le_pow_right (by omega) hn
 have e:(2:Nat) ^ 24=16777216:=by decide
 have sh:=shl_nat 1 n (by omega) (by omega)
 rw [Nat.one_mul] at sh
 unfold bits_fits
 refine bndL (s:=true) (cnd_t (by simp) (cnd_t (by simp; omega) (cnd_t (by simp) (bnd sh ?_)))) rfl
 rw [decide_eq_true (by omega)]
theorem turn_loop (v n:Nat) (hn:n≤24) (hv:v<2 ^ n):∀ (k fuel t r:Nat),n-t=k→t≤n→k<fuel→r<2 ^ t→(∀ i,i<t→r.testBit i=v.testBit (t-1-i)) →
  ∃ r':Nat,loopF turnS fuel (((n-t:Nat):Int),(r:Int),((v / 2 ^ t:Nat):Int))=some (.inl (r':Int))∧r'<2 ^ n∧∀ i,i<n→r'.testBit i=v.testBit (n-1-i):=by
 have hp:2 ^ n≤2 ^ 24:=Nat.pow_le_pow_right (by omega) hn
 have e24:(2:Nat) ^ 24=16777216:=by decide
 intro k
 induction k with
 | zero =>
  intro fuel t r hk ht hf hr hb
  obtain ⟨f,rfl⟩:∃ f,fuel=f+1:=⟨fuel-1,by omega⟩
  have:t=n:=by omega
  subst this
  refine ⟨r,loop_exit ?_,hr,hb⟩
  unfold turnS
  exact cnd_f (by simp) rfl
 | succ k ih =>
  intro fuel t r hk ht hf hr hb
  obtain ⟨f,rfl⟩:∃ f,fuel=f+1:=⟨fuel-1,by omega⟩
  have hp2:2 ^ t≤2 ^ 24:=Nat.pow_le_pow_right (by omega) (by omega)
  have hvt:v / 2 ^ t<4294967296:=Nat.lt_of_le_of_lt (Nat.div_le_self _ _) (by omega)
  have sh:=shl_u32 r 1 (by omega) (by omega)
  rw [Nat.pow_one,Nat.mul_comm,show ((1:Nat):Int)=1 from rfl] at sh
  have hy:v / 2 ^ t % 2<2:=Nat.mod_lt _ (by omega)
  have hor:=or_u32 r (v / 2 ^ t % 2) (by omega) hy
  have hsr:=shr_nat .u32 (v / 2 ^ t) 1 (by decide)
  rw [Nat.pow_one,Nat.div_div_eq_div_mul,← Nat.pow_succ,show ((1:Nat):Int)=1 from rfl] at hsr
  have w:IntKind.i64.wrap (((n-t:Nat):Int)-1)=((n-(t+1):Nat):Int):=by rw [wrap_i64 (by omega) (by omega)]; omega
  have hand:=and1_u32 _ hvt
  have hbit:∀ i,i<t+1→(2 * r+v / 2 ^ t % 2).testBit i=v.testBit (t+1-1-i):=by
   intro i hi
   have h1:2 * r+v / 2 ^ t % 2=2 ^ 1 * r+v / 2 ^ t % 2:=by rw [Nat.pow_one]
   rw [h1,Nat.testBit_two_pow_mul_add _ (by omega)]
   by_cases h0:i<1
   ·have:i=0:=by omega
    subst this
    rw [if_pos h0,Nat.testBit_eq_decide_div_mod_eq (x:=v)]
    simp [Nat.testBit_zero]
   ·rw [if_neg h0,hb (i-1) (by omega)]
    congr 1; omega
  have hr2:2 * r+v / 2 ^ t % 2<2 ^ (t+1):=by rw [Nat.pow_succ]; omega
  obtain ⟨r',h1,h2,h3⟩:=ih f (t+1) (2 * r+v / 2 ^ t % 2) (by omega) (by omega) (by omega) hr2 hbit
  refine ⟨r',(loop_next ?_).trans h1,h2,h3⟩
  unfold turnS
  exact cnd_t (by simp; omega) (bnd sh (bnd (x:=((v / 2 ^ t % 2:Nat):Int)) (by rw [hand]) (bnd (x:=((2 * r+v / 2 ^ t % 2:Nat):Int)) (by rw [hor]) (bnd hsr (bnd (x:=((n-(t+1):Nat):Int)) (by rw [w]) rfl)))))
theorem turn_eq (v n:Nat) (hn:n≤24) (hv:v<2 ^ n):∃ r:Nat,bits_Turn (v:Int) (n:Int)=some ((r:Int),0)∧r<2 ^ n∧∀ i,i<n→r.testBit i=v.testBit (n-1-i):=by
 have hp:2 ^ n≤2 ^ 24:=Nat.pow_le_pow_right (by omega) hn
 have e24:(2:Nat) ^ 24=16777216:=by decide
 obtain ⟨r,h1,h2,h3⟩:=turn_loop v n hn hv n BIG 0 0 (by omega) (Nat.zero_le _) (by unfold BIG; omega) (by simp) (by omega)
 rw [Nat.sub_zero,Nat.pow_zero,Nat.div_one] at h1
 refine ⟨r,?_,h2,h3⟩
 unfold bits_Turn
 have w1:IntKind.u32.wrap (v:Int)=(v:Int):=wrap_u32c (by omega) (by omega)
 have w2:IntKind.i64.wrap (r:Int)=(r:Int):=wrap_i64 (by omega) (by omega)
 exact bnd (fits_eq v n hn hv) (cnd_f rfl (bnd (x:=(v:Int)) (by rw [w1]) (bndL h1 (bnd (x:=(r:Int)) (by rw [w2]) rfl))))
theorem bitC_set (s:List Int) (j q:Nat) (x:Int) (hj:j<s.length):bitC (s.set j x) q=if q / 8=j then x.toNat.testBit (q % 8) else bitC s q:=by
 simp only [bitC,List.getD_eq_getElem?_getD,List.getElem?_set]
 by_cases h:j=q / 8
 ·subst h; simp [hj]
 ·rw [if_neg h,if_neg (fun e=>h e.symm)]
theorem code_pre {m:List Nat} (hm:∀ x∈m,x≤15) {j:Nat} (hj:j<m.length) (h0:m[j]≠0) {n:Nat} (h1:1≤n) (hn:n<m[j]):fst m n+m.count n≤code m j / 2 ^ (m[j]-n):=by
 have xj:=hm _ (List.getElem_mem hj)
 have a1:=ws_step m h1 (show n≤15 by omega)
 have a2:=fst_step m (n:=m[j]) (by omega) xj
 have a3:=ws_mono m (a:=n) (b:=m[j]-1) (by omega)
 have e2:2 ^ (15-n)=2 ^ (m[j]-n) * 2 ^ (15-m[j]):=by rw [← Nat.pow_add]; congr 1; omega
 rw [e2,← Nat.mul_assoc] at a1
 have h3:(fst m n+m.count n) * 2 ^ (m[j]-n)≤fst m m[j]:=by
  refine Nat.le_of_mul_le_mul_right ?_ (Nat.pow_pos (show 0<2 by omega) (n:=15-m[j]))
  omega
 refine (Nat.le_div_iff_mul_le (Nat.pow_pos (by omega))).2 ?_
 rw [code_of hj h0]
 omega
def Sp:List (Nat×Nat)→Nat→List Int→Prop
 | [],_,_=>True
 | p::ps,N,B=>(∀ t,t<p.2→bitC B (N+t)=p.1.testBit t)∧Sp ps (N+p.2) B
def wid (ps:List (Nat×Nat)):Nat:=(ps.map (·.2)).sum
end Go.Abs.Sh
