import Derived.Test.YtkgfjkfccpjcgaaDoorShkD
import Derived.Test.YtkgfjkfccpjcgaaDoorShkR
import Derived.KernelRfl
namespace Go.Abs.Sh
set_option linter.unusedVariables false
set_option linter.unusedSimpArgs false
set_option maxRecDepth 100000
def pl0 (sL:List Int):(((List Int)×Int))→Option (((List Int)×Int)⊕(((List Int))⊕T_shrink_writer)):=(fun ((s17,s18):(List Int)×Int) =>
 cond ((decide (s18<(sL.length:Int))))
  ((ixO s18 sL.length).bind fun v6 =>
  (getO sL v6).bind fun v7 =>
  (ixO v7 s17.length).bind fun v8 =>
  (getO s17 v8).bind fun v9 =>
  (some (IntKind.i64.wrap (v9+1))).bind fun v10 =>
  (ixO v7 s17.length).bind fun v11 =>
  (some (s17.set v11 v10)).bind fun v12 =>
  (some (IntKind.i64.wrap (s18+1))).bind fun v13 =>
  some (.inl (v12,v13)))
  (some (.inr (.inl s17))))
def pl1 (lL:List Int):(((List Int)×Int))→Option (((List Int)×Int)⊕(((List Int))⊕T_shrink_writer)):=(fun ((s41,s42):(List Int)×Int) =>
   cond ((decide (s42<19)))
    ((ixO s42 19).bind fun v31 =>
    (getO shrink_rowOrder v31).bind fun v32 =>
    (ixO v32 lL.length).bind fun v33 =>
    (getO lL v33).bind fun v34 =>
    (ixO s42 s41.length).bind fun v35 =>
    (some (s41.set v35 v34)).bind fun v36 =>
    (some (IntKind.i64.wrap (s42+1))).bind fun v37 =>
    some (.inl (v36,v37)))
    (some (.inr (.inl s41))))
def pl2 (v52:List Int):(((List Int)×Int×Int))→Option (((List Int)×Int×Int)⊕(((List Int)×Int)⊕T_shrink_writer)):=(fun ((s68,s69,s70):(List Int)×Int×Int) =>
     cond ((decide (s70<(v52.length:Int))))
      ((ixO s70 v52.length).bind fun v60 =>
      (getO v52 v60).bind fun v61 =>
      (shrink_writer_put (T_shrink_writer.mk s68 s69) v61 3).bind fun v62 =>
      (some (IntKind.i64.wrap (s70+1))).bind fun v63 =>
      some (.inl (v62.b,v62.n,v63)))
      (some (.inr (.inl (s68,s69)))))
def pl3 (sL mL:List Int) (v81:T_shrink_code):(((List Int)×Int×Int))→Option (((List Int)×Int×Int)⊕(((List Int)×Int)⊕T_shrink_writer)):=(fun ((s95,s96,s97):(List Int)×Int×Int) =>
       cond ((decide (s97<(sL.length:Int))))
        ((ixO s97 sL.length).bind fun v83 =>
        (getO sL v83).bind fun v84 =>
        (shrink_writer_putSym (T_shrink_writer.mk s95 s96) v81 v84).bind fun v85 =>
        (ixO s97 mL.length).bind fun v86 =>
        (getO mL v86).bind fun v87 =>
        (shrink_rowMore v84).bind fun v88 =>
        (shrink_writer_put v85 v87 v88).bind fun v89 =>
        (some (IntKind.i64.wrap (s97+1))).bind fun v90 =>
        some (.inl (v89.b,v89.n,v90)))
        (some (.inr (.inl (s95,s96)))))
def rwm (s:Nat):Nat:=if s=16 then 2 else if s=17 then 3 else if s=18 then 7 else 0
theorem rwm_le (s:Nat):rwm s≤7:=by
 unfold rwm
 split
 ·omega
 ·split
  ·omega
  ·split <;> omega
theorem rowMore_eq (s:Nat):shrink_rowMore (s:Int)=some ((rwm s:Nat):Int):=by
 unfold shrink_rowMore rwm
 by_cases h1:s=16
 ·subst h1; rfl
 rw [if_neg h1]
 refine cnd_f (beq_eq_false_iff_ne.2 (by omega)) ?_
 by_cases h2:s=17
 ·subst h2; rfl
 rw [if_neg h2]
 refine cnd_f (beq_eq_false_iff_ne.2 (by omega)) ?_
 by_cases h3:s=18
 ·subst h3; rfl
 rw [if_neg h3]
 exact cnd_f (beq_eq_false_iff_ne.2 (by omega)) rfl
def rowN (l:List Nat):List (Nat×Nat):=(rowL (ints l)).map fun p=>(p.1.toNat,p.2)
def okRow (p:Int×Nat):Prop:=0≤p.1∧p.1≤18∧p.2<2 ^ rwm p.1.toNat
theorem stp_row {l:List Int} (hv:∀ n∈l,0≤n∧n≤15) {i:Nat} (hi:i<l.length):okRow ((stpL l i).1,(stpL l i).2.1):=by
 have hx:=hv _ (List.getElem_mem hi)
 rw [← getDa hi] at hx
 have hp:=run_pos hi
 unfold stpL stpR
 by_cases h1:l.getD i 0=0∧11≤runL l i
 ·rw [if_pos h1]
  refine ⟨show (0:Int)≤18 by decide,show (18:Int)≤18 by decide,?_⟩
  show min (runL l i) 138-11<2 ^ 7
  have e:(2:Nat) ^ 7=128:=by decide
  omega
 ·rw [if_neg h1]
  by_cases h2:l.getD i 0=0∧3≤runL l i
  ·rw [if_pos h2]
   refine ⟨show (0:Int)≤17 by decide,show (17:Int)≤18 by decide,?_⟩
   show runL l i-3<2 ^ 3
   have e:(2:Nat) ^ 3=8:=by decide
   omega
  ·rw [if_neg h2]
   by_cases h3:l.getD i 0≠0∧3≤runL l i∧prvR l i=true
   ·rw [if_pos h3]
    refine ⟨show (0:Int)≤16 by decide,show (16:Int)≤18 by decide,?_⟩
    show min (runL l i) 6-3<2 ^ 2
    have e:(2:Nat) ^ 2=4:=by decide
    omega
   ·rw [if_neg h3]
    exact ⟨hx.1,by show l.getD i 0≤18; omega,Nat.two_pow_pos _⟩
theorem rowF_ok {l:List Int} (hv:∀ n∈l,0≤n∧n≤15):∀ k i,∀ p∈rowF l k i,okRow p
 | 0,i,p,h=>by simp [rowF] at h
 | k+1,i,p,h=>by
  unfold rowF at h
  split at h
  ·rename_i hi
   rcases List.mem_cons.1 h with rfl | h
   ·exact stp_row hv hi
   ·exact rowF_ok hv k _ p h
  ·simp at h
theorem ints_ok {l:List Nat} (h:∀ x∈l,x≤15):∀ n∈ints l,0≤n∧n≤15:=fun n hn=>by
 obtain ⟨x,hx,rfl⟩:=List.mem_map.1 hn
 have:=h x hx
 omega
theorem rowN_ok {l:List Nat} (h:∀ x∈l,x≤15):∀ p∈rowN l,p.1≤18∧p.2<2 ^ rwm p.1:=fun p hp=>by
 obtain ⟨q,hq,rfl⟩:=List.mem_map.1 hp
 obtain ⟨k1,k2,k3⟩:=rowF_ok (ints_ok h) _ _ q hq
 exact ⟨by show q.1.toNat≤18; omega,k3⟩
theorem rowN_len (l:List Nat):(rowN l).length≤l.length:=by
 rw [rowN,List.length_map]
 have:=rowF_len (ints l) (ints l).length 0
 have e:=ints_len l
 unfold rowL
 omega
def sN (R:List (Nat×Nat)):List Nat:=R.map fun p=>p.1
def mN (R:List (Nat×Nat)):List Nat:=R.map fun p=>p.2
theorem row_ints {l:List Nat} (h:∀ x∈l,x≤15) (hl:l.length≤320):shrink_Row (ints l)=some (ints (sN (rowN l)),ints (mN (rowN l)),0):=by
 rw [row_eq (by rw [ints_len]; omega),if_pos ⟨by rw [ints_len]; exact hl,ints_ok h⟩]
 have e1:sy (rowL (ints l))=ints (sN (rowN l)):=by
  simp only [sy,ints,sN,rowN,List.map_map]
  refine List.map_congr_left fun p hp => ?_
  have:=(rowF_ok (ints_ok h) _ _ p hp).1
  simp only [Function.comp]
  omega
 have e2:mo (rowL (ints l))=ints (mN (rowN l)):=by
  simp only [mo,ints,mN,rowN,List.map_map]
  rfl
 rw [e1,e2]
def rwW (s:List Nat):List Nat:=s.foldl inc (List.replicate 19 0)
theorem incs_I:∀ (s a:List Nat) (c:Nat),a.length=19→(∀ x∈a,x≤c)→(s.foldl inc a).length=19∧∀ x∈s.foldl inc a,x≤c+s.length
 | [],a,c,h1,h2=>⟨h1,h2⟩
 | t::s,a,c,h1,h2=>by
  have:=incs_I s (inc a t) (c+1) (by rw [inc_len]; exact h1) (inc_le h2)
  rw [List.foldl_cons,List.length_cons,show c+(s.length+1)=c+1+s.length by omega]
  exact this
theorem rwW_I (s:List Nat):(rwW s).length=19∧∀ x∈rwW s,x≤s.length:=by
 have:=incs_I s (List.replicate 19 0) 0 (by simp) (fun x hx=>by rw [List.mem_replicate] at hx; omega)
 rw [Nat.zero_add] at this
 exact this
theorem incs_used:∀ (s a:List Nat),a.length=19→(∀ x∈s,x≤18)→∀ x∈s,0<(s.foldl inc a).getD x 0
 | t::s,a,h1,h2,x,hx=>by
  rw [List.foldl_cons]
  have mono:∀ (s a:List Nat) (j:Nat),a.getD j 0≤(s.foldl inc a).getD j 0:=by
   intro s
   induction s with
   | nil=>intro a j; exact Nat.le_refl _
   | cons y s ih=>intro a j; exact Nat.le_trans (inc_mono a y j) (ih (inc a y) j)
  rcases List.mem_cons.1 hx with rfl | hm
  ·refine Nat.lt_of_lt_of_le ?_ (mono s (inc a x) x)
   rw [inc_at (by rw [h1]; have:=h2 x List.mem_cons_self; omega),if_pos rfl]; omega
  ·exact incs_used s (inc a t) (by rw [inc_len]; exact h1) (fun y hy=>h2 y (List.mem_cons_of_mem _ hy)) x hm
theorem pl0_loop {s:List Nat} (hs:∀ x∈s,x≤18) (hl:s.length≤5000):∀ (k i fuel:Nat) (a:List Nat) (c:Nat),i+k=s.length→k<fuel→a.length=19→(∀ x∈a,x≤c)→c+k≤900000 →
  loopF (pl0 (ints s)) fuel (ints a,(i:Int))=some (.inl (ints ((s.drop i).foldl inc a)))
 | 0,i,fuel,a,c,hk,hf,h1,h2,hc=>by
  obtain ⟨fu,rfl⟩:∃ fu,fuel=fu+1:=⟨fuel-1,by omega⟩
  rw [List.drop_eq_nil_of_le (by omega)]
  exact loop_exit (cnd_f (decide_eq_false (by rw [ints_len]; omega)) rfl)
 | k+1,i,fuel,a,c,hk,hf,h1,h2,hc=>by
  obtain ⟨fu,rfl⟩:∃ fu,fuel=fu+1:=⟨fuel-1,by omega⟩
  have hi:i<s.length:=by omega
  have h18:=hs _ (List.getElem_mem hi)
  obtain ⟨i1,i2⟩:=inc_ix (a:=a) (s:=s[i]) rfl (by omega)
  have hb:a.getD s[i] 0≤c:=by
   rw [List.getD_eq_getElem?_getD,List.getElem?_eq_getElem (show s[i]<a.length by omega),Option.getD_some]
   exact h2 _ (List.getElem_mem _)
  rw [List.drop_eq_getElem_cons hi,List.foldl_cons]
  exact (loop_next (cnd_t (decide_eq_true (by rw [ints_len]; omega)) (bnd (ixO_of (by rw [ints_len]; exact hi)) (bnd (ints_get hi) (bnd i1 (bnd i2 (bnd (congrArg some (wrap_succ (n:=a.getD s[i] 0) (by omega))) (bnd i1 (bnd (congrArg some (set_ints a _ _)) (bnd (congrArg some (wrap_succ (n:=i) (by omega))) rfl)))))))))).trans
   (pl0_loop hs hl k (i+1) fu (inc a s[i]) (c+1) (by omega) (by omega) (by rw [inc_len]; exact h1) (inc_le h2) (by omega))
def ordN:List Nat:=[16,17,18,0,8,7,9,6,10,5,11,4,12,3,13,2,14,1,15]
theorem ord_eq:shrink_rowOrder=ints ordN:=by kernel_rfl
theorem ord_le:∀ x∈ordN,x≤18:=by decide
def ordL (m:List Nat):List Nat:=ordN.map fun s=>m.getD s 0
theorem pl1_loop {m:List Nat} (hm:m.length=19):∀ (k i fuel:Nat),i+k=19→k<fuel →
  loopF (pl1 (ints m)) fuel (ints ((ordL m).take i++List.replicate k 0),(i:Int))=some (.inl (ints (ordL m)))
 | 0,i,fuel,hk,hf=>by
  obtain ⟨fu,rfl⟩:∃ fu,fuel=fu+1:=⟨fuel-1,by omega⟩
  have:(ordL m).length=19:=by simp [ordL,ordN]
  rw [List.replicate_zero,List.append_nil,List.take_of_length_le (by omega)]
  exact loop_exit (cnd_f (decide_eq_false (by omega)) rfl)
 | k+1,i,fuel,hk,hf=>by
  obtain ⟨fu,rfl⟩:∃ fu,fuel=fu+1:=⟨fuel-1,by omega⟩
  have lo:ordN.length=19:=rfl
  have hlo:(ordL m).length=19:=by rw [ordL,List.length_map,lo]
  have hi:i<ordN.length:=by omega
  have hil:i<(ordL m).length:=by omega
  have hx:=ord_le _ (List.getElem_mem hi)
  have hl:((ordL m).take i++List.replicate (k+1) 0).length=19:=by rw [List.length_append,List.length_take,List.length_replicate]; omega
  obtain ⟨i1,i2⟩:=inc_ix (a:=m) (s:=ordN[i]) rfl (by omega)
  have hset:((ordL m).take i++List.replicate (k+1) 0).set i (m.getD ordN[i] 0)=(ordL m).take (i+1)++List.replicate k 0:=by
   rw [List.set_append_right _ _ (by rw [List.length_take]; omega),List.length_take,Nat.min_eq_left (by omega),Nat.sub_self,List.replicate_succ,List.set_cons_zero,List.take_add_one,List.getElem?_eq_getElem hil,List.append_assoc]
   simp [ordL]
   rfl
  exact (loop_next (cnd_t (decide_eq_true (by omega)) (bnd (ixO_of (by omega)) (bnd (x:=((ordN[i]:Nat):Int)) (by rw [ord_eq]; exact ints_get hi) (bnd i1 (bnd i2 (bnd (ixO_of (by rw [ints_len]; omega)) (bnd (congrArg some ((set_ints _ i _).trans (congrArg ints hset))) (bnd (congrArg some (wrap_succ (n:=i) (by omega))) rfl))))))))).trans (pl1_loop hm k (i+1) fu (by omega) (by omega))
def nP (n:Nat) (l:List Nat):List (Nat×Nat):=l.map fun x=>(x,n)
theorem wid_nP (n:Nat) (l:List Nat):wid (nP n l)=n * l.length:=by
 induction l with
 | nil=>rfl
 | cons x l ih =>
  have:wid (nP n (x::l))=n+wid (nP n l):=by simp [wid,nP]
  rw [this,ih,List.length_cons,Nat.mul_succ]; omega
theorem pl2_loop {o:List Nat} (ho:∀ x∈o,x<8) (hl:o.length≤100):∀ (k i fuel:Nat) (w:T_shrink_writer) (ps:List (Nat×Nat)),i+k=o.length→k<fuel→WP w ps→wid ps+3 * k≤900000 →
  ∃ w',loopF (pl2 (ints o)) fuel (w.b,w.n,(i:Int))=some (.inl (w'.b,w'.n))∧WP w' (ps++nP 3 (o.drop i))
 | 0,i,fuel,w,ps,hk,hf,h,hN=>by
  obtain ⟨fu,rfl⟩:∃ fu,fuel=fu+1:=⟨fuel-1,by omega⟩
  rw [List.drop_eq_nil_of_le (by omega)]
  exact ⟨w,loop_exit (cnd_f (decide_eq_false (by rw [ints_len]; omega)) rfl),by simpa [nP] using h⟩
 | k+1,i,fuel,w,ps,hk,hf,h,hN=>by
  obtain ⟨fu,rfl⟩:∃ fu,fuel=fu+1:=⟨fuel-1,by omega⟩
  have hi:i<o.length:=by omega
  have hx:=ho _ (List.getElem_mem hi)
  obtain ⟨w1,p1,q1⟩:=h.puts (v:=((o[i]:Nat):Int)) (n:=3) o[i] 3 rfl rfl (by omega) (by omega) (by omega)
  obtain ⟨w2,p2,q2⟩:=pl2_loop ho hl k (i+1) fu w1 (ps++[(o[i],3)]) (by omega) (by omega) q1 (by rw [wid_app]; simp only [wid,List.map_cons,List.map_nil,List.sum_cons,List.sum_nil] at hN ⊢; omega)
  refine ⟨w2,(loop_next (cnd_t (decide_eq_true (by rw [ints_len]; omega)) (bnd (ixO_of (by rw [ints_len]; exact hi)) (bnd (ints_get hi) (bnd p1 (bnd (congrArg some (wrap_succ (n:=i) (by omega))) rfl)))))).trans p2,?_⟩
  rw [List.drop_eq_getElem_cons hi]
  have e:nP 3 (o[i]::o.drop (i+1))=[(o[i],3)]++nP 3 (o.drop (i+1)):=rfl
  rw [e,← List.append_assoc]; exact q2
def rwP (m:List Nat) (R:List (Nat×Nat)):List (Nat×Nat):=(R.map fun p=>[syP m p.1,(p.2,rwm p.1)]).flatten
theorem wid_rw {m:List Nat} (hm:∀ x∈m,x≤15):∀ R:List (Nat×Nat),wid (rwP m R)≤22 * R.length
 | []=>by simp [rwP,wid]
 | p::R=>by
  have h1:=wid_rw hm R
  have e:rwP m (p::R)=[syP m p.1,(p.2,rwm p.1)]++rwP m R:=rfl
  have h2:=rwm_le p.1
  have h3:m.getD p.1 0≤15:=by
   rw [List.getD_eq_getElem?_getD]
   cases hj:m[p.1]? with
   | none=>simp
   | some x=>simpa using hm x (List.mem_of_getElem? hj)
  rw [e,wid_app,List.length_cons]
  simp only [wid,syP,List.map_cons,List.map_nil,List.sum_cons,List.sum_nil] at h1 ⊢
  omega
theorem pl3_loop {m:List Nat} (hm:Cd m) (hml:m.length=19) {R:List (Nat×Nat)} (hR:∀ p∈R,p.1≤18∧p.2<2 ^ rwm p.1) (hl:R.length≤400):∀ (k i fuel:Nat) (w:T_shrink_writer) (ps:List (Nat×Nat)),i+k=R.length→k<fuel→WP w ps→wid ps+22 * k≤900000 →
  ∃ w',loopF (pl3 (ints (sN R)) (ints (mN R)) (cdT m)) fuel (w.b,w.n,(i:Int))=some (.inl (w'.b,w'.n))∧WP w' (ps++rwP m (R.drop i))
 | 0,i,fuel,w,ps,hk,hf,h,hN=>by
  obtain ⟨fu,rfl⟩:∃ fu,fuel=fu+1:=⟨fuel-1,by omega⟩
  rw [List.drop_eq_nil_of_le (by omega)]
  exact ⟨w,loop_exit (cnd_f (decide_eq_false (by rw [ints_len,sN,List.length_map]; omega)) rfl),by simpa [rwP] using h⟩
 | k+1,i,fuel,w,ps,hk,hf,h,hN=>by
  obtain ⟨fu,rfl⟩:∃ fu,fuel=fu+1:=⟨fuel-1,by omega⟩
  have hi:i<R.length:=by omega
  have hx:=hR _ (List.getElem_mem hi)
  have hs:i<(sN R).length:=by rw [sN,List.length_map]; exact hi
  have hmm:i<(mN R).length:=by rw [mN,List.length_map]; exact hi
  have g1:getO (ints (sN R)) i=some ((R[i].1:Nat):Int):=by rw [ints_get hs]; simp [sN]
  have g2:getO (ints (mN R)) i=some ((R[i].2:Nat):Int):=by rw [ints_get hmm]; simp [mN]
  obtain ⟨w1,p1,q1⟩:=h.sym hm (j:=R[i].1) (by omega) (by omega)
  have c1:=(code_fit hm (j:=R[i].1) (by omega)).2
  have c2:=rwm_le R[i].1
  have s1:wid (ps++[syP m R[i].1])≤wid ps+15:=by rw [wid_app]; simp only [wid,syP,List.map_cons,List.map_nil,List.sum_cons,List.sum_nil]; omega
  obtain ⟨w2,p2,q2⟩:=q1.put R[i].2 (rwm R[i].1) (by omega) hx.2 (by omega)
  have s2:wid (ps++[syP m R[i].1]++[(R[i].2,rwm R[i].1)])≤wid ps+22:=by rw [wid_app _ [(R[i].2,rwm R[i].1)]]; simp only [wid,List.map_cons,List.map_nil,List.sum_cons,List.sum_nil] at s1 ⊢; omega
  obtain ⟨w3,p3,q3⟩:=pl3_loop hm hml hR hl k (i+1) fu w2 _ (by omega) (by omega) q2 (by omega)
  refine ⟨w3,(loop_next (cnd_t (decide_eq_true (by rw [ints_len]; omega)) (bnd (ixO_of (by rw [ints_len]; exact hs)) (bnd g1 (bnd p1 (bnd (ixO_of (by rw [ints_len]; exact hmm)) (bnd g2 (bnd (rowMore_eq _) (bnd p2 (bnd (congrArg some (wrap_succ (n:=i) (by omega))) rfl)))))))))).trans p3,?_⟩
  rw [List.drop_eq_getElem_cons hi]
  have e:rwP m (R[i]::R.drop (i+1))=[syP m R[i].1]++([(R[i].2,rwm R[i].1)]++rwP m (R.drop (i+1))):=rfl
  rw [e,← List.append_assoc,← List.append_assoc]; exact q3
def rwC (l:List Nat):List Nat:=trN (rwW (sN (rowN l))) 7
theorem okL7 {w:List Nat} (h:w.length≤19):okL (ints w) ((7:Nat):Int):=by
 have:=pos_len (ints w)
 rw [ints_len] at this
 unfold okL
 rw [if_pos (by omega)]
 omega
theorem okL15 (w:List Nat):okL (ints w) ((15:Nat):Int):=by
 unfold okL
 split <;> omega
theorem rwC_cd {l:List Nat} (hl:l.length≤320):tree_Lengths (ints (rwW (sN (rowN l)))) ((7:Nat):Int)=some (ints (rwC l),0)∧Cd (rwC l)∧(rwC l).length=19∧(∀ j,j<19→(0<(rwC l).getD j 0↔0<(rwW (sN (rowN l))).getD j 0))∧∀ x∈rwC l,x≤7:=by
 obtain ⟨h1,h2⟩:=rwW_I (sN (rowN l))
 have hrl:=rowN_len l
 have:=tree_cd (w:=rwW (sN (rowN l))) (lim:=7) (by omega) (fun x hx=>by have:=h2 x hx; rw [sN,List.length_map] at this; omega) (okL7 (by omega))
 rw [h1] at this
 exact this
def odL (l:List Nat):List Nat:=tmN (ordL (rwC l)) 4
theorem odL_len (l:List Nat):4≤(odL l).length∧(odL l).length≤19:=by
 have hlo:(ordL (rwC l)).length=19:=by simp [ordL,ordN]
 have h1:=trm_le (ordL (rwC l)) 4 19
 have h2:=trm_ge (ordL (rwC l)) 4 19 (by omega)
 unfold odL tmN
 rw [List.length_take,hlo]
 omega
def hdP (ml md:List Nat):List (Nat×Nat) :=
 [(ml.length-257,5),(md.length-1,5),((odL (ml++md)).length-4,4)]++(nP 3 (odL (ml++md))++rwP (rwC (ml++md)) (rowN (ml++md)))
theorem wid_hd {ml md:List Nat} (hl:ml.length+md.length≤320):wid (hdP ml md)≤8000:=by
 obtain ⟨_,c2,_⟩:=rwC_cd (l:=ml++md) (by simp; omega)
 have h1:=wid_rw c2.le (rowN (ml++md))
 have h2:=rowN_len (ml++md)
 have h3:=odL_len (ml++md)
 unfold hdP
 rw [wid_app,wid_app,wid_nP]
 simp only [wid,List.map_cons,List.map_nil,List.sum_cons,List.sum_nil] at h1 ⊢
 rw [List.length_append] at h2
 omega
theorem putLengths_eq {ml md:List Nat} (h1:∀ x∈ml,x≤15) (h2:∀ x∈md,x≤15) (l1:257≤ml.length) (l2:ml.length≤286) (l3:1≤md.length) (l4:md.length≤30) {w:T_shrink_writer} {ps:List (Nat×Nat)} (h:WP w ps) (hN:wid ps≤100) :
  ∃ w',shrink_writer_putLengths w (ints ml) (ints md)=some w'∧WP w' (ps++hdP ml md):=by
 have hL:∀ x∈ml++md,x≤15:=fun x hx=>(List.mem_append.1 hx).elim (h1 x) (h2 x)
 have hll:(ml++md).length≤320:=by rw [List.length_append]; omega
 obtain ⟨c1,c2,c3,c4,c5⟩:=rwC_cd (l:=ml++md) hll
 have hrn:=rowN_len (ml++md)
 have hrok:=rowN_ok hL
 have a1:appO 8 ([]:List Int) (ints ml)=some (ints ml):=app_of (l:=([]:List Int)) (by simp [ints]; omega) (by simp [ints]; omega)
 have a2:appO 8 (ints ml) (ints md)=some (ints (ml++md)):=by rw [app_of (by simp [ints]; omega) (by simp [ints]; omega)]; simp [ints]
 have m1:mkO 8 19 (0:Int)=some (ints (List.replicate 19 0)):=by kernel_rfl
 have k0:=pl0_loop (s:=sN (rowN (ml++md))) (fun x hx=>by
  obtain ⟨p,hp,rfl⟩:=List.mem_map.1 hx
  exact (hrok p hp).1) (by rw [sN,List.length_map]; omega) (sN (rowN (ml++md))).length 0 BIG (List.replicate 19 0) 0 (by omega) (by rw [sN,List.length_map]; simp only [BIG]; omega) (by simp) (fun x hx=>by rw [List.mem_replicate] at hx; omega) (by rw [sN,List.length_map]; omega)
 rw [List.drop_zero] at k0
 have k1:=pl1_loop (m:=rwC (ml++md)) c3 19 0 BIG rfl (by simp only [BIG]; omega)
 rw [List.take_zero,List.nil_append] at k1
 have hol:(ordL (rwC (ml++md))).length=19:=by simp [ordL,ordN]
 have k2:=trim_eq (l:=ordL (rwC (ml++md))) (by omega) 4
 obtain ⟨o1,o2⟩:=odL_len (ml++md)
 have ho:∀ x∈odL (ml++md),x<8:=fun x hx=>by
  have:=List.mem_of_mem_take hx
  obtain ⟨s,hs,rfl⟩:=List.mem_map.1 this
  have:(rwC (ml++md)).getD s 0≤7:=by
   rw [List.getD_eq_getElem?_getD]
   cases hj:(rwC (ml++md))[s]? with
   | none=>simp
   | some y=>simpa using c5 y (List.mem_of_getElem? hj)
  omega
 obtain ⟨w1,p1,q1⟩:=h.puts (v:=((ml.length-257:Nat):Int)) (n:=5) (ml.length-257) 5 rfl rfl (by omega) (by omega) (by omega)
 have s1:wid (ps++[(ml.length-257,5)])=wid ps+5:=by rw [wid_app]; rfl
 obtain ⟨w2,p2,q2⟩:=q1.puts (v:=((md.length-1:Nat):Int)) (n:=5) (md.length-1) 5 rfl rfl (by omega) (by omega) (by omega)
 have s2:wid (ps++[(ml.length-257,5)]++[(md.length-1,5)])=wid ps+10:=by rw [wid_app,s1]; rfl
 obtain ⟨w3,p3,q3⟩:=q2.puts (v:=(((odL (ml++md)).length-4:Nat):Int)) (n:=4) ((odL (ml++md)).length-4) 4 rfl rfl (by omega) (by omega) (by omega)
 have s3:wid (ps++[(ml.length-257,5)]++[(md.length-1,5)]++[((odL (ml++md)).length-4,4)])=wid ps+14:=by rw [wid_app,s2]; rfl
 obtain ⟨w4,p4,q4⟩:=pl2_loop ho (by omega) (odL (ml++md)).length 0 BIG w3 _ (by omega) (by simp only [BIG]; omega) q3 (by omega)
 rw [List.drop_zero] at q4
 have s4:wid (ps++[(ml.length-257,5)]++[(md.length-1,5)]++[((odL (ml++md)).length-4,4)]++nP 3 (odL (ml++md)))≤wid ps+14+57:=by rw [wid_app,s3,wid_nP]; omega
 obtain ⟨w5,p5,q5⟩:=pl3_loop c2 c3 hrok (by omega) (rowN (ml++md)).length 0 BIG w4 _ (by omega) (by simp only [BIG]; omega) q4 (by omega)
 rw [List.drop_zero] at q5
 refine ⟨w5,?_,by unfold hdP; simpa only [List.append_assoc,List.cons_append,List.nil_append] using q5⟩
 unfold shrink_writer_putLengths
 have e1:IntKind.i64.wrap (((ints ml).length:Int)-257)=((ml.length-257:Nat):Int):=by rw [ints_len,wrap_i64 (by omega) (by omega)]; omega
 have e2:IntKind.i64.wrap (((ints md).length:Int)-1)=((md.length-1:Nat):Int):=by rw [ints_len,wrap_i64 (by omega) (by omega)]; omega
 have e3:IntKind.i64.wrap (((ints (odL (ml++md))).length:Int)-4)=(((odL (ml++md)).length-4:Nat):Int):=by rw [ints_len,wrap_i64 (by omega) (by omega)]; omega
 exact bnd a1 (bnd a2 (bnd (row_ints hL hll) (bnd m1 (bndL k0 (bnd c1 (bnd m1 (bndL k1 (bnd k2 (bnd (congrArg some e1) (bnd p1 (bnd (congrArg some e2) (bnd p2 (bnd (congrArg some e3) (bnd p3 (bndL p4 (bnd (newCode_eq c2) (bndL p5 rfl)))))))))))))))))
/-! The dynamic block. -/
def dyL (l:List T_Tok):List Nat:=trN (wtN l).1 15
def dyD (l:List T_Tok):List Nat:=trN (wtN l).2 15
def dynP (l:List T_Tok):List (Nat×Nat) :=
 [(1,1),(2,2)]++(hdP (tmN (dyL l) 257) (tmN (dyD l) 1)++(tksP (dyL l) (dyD l) l++[syP (dyL l) 256]))
theorem dyL_cd {l:List T_Tok} (hl:l.length≤5000):tree_Lengths (ints (wtN l).1) ((15:Nat):Int)=some (ints (dyL l),0)∧Cd (dyL l)∧(dyL l).length=286∧(∀ j,j<286→(0<(dyL l).getD j 0↔0<(wtN l).1.getD j 0))∧∀ x∈dyL l,x≤15:=by
 have hI:=wts_I l
 have:=tree_cd (w:=(wtN l).1) (lim:=15) (by rw [hI.la]; omega) (fun x hx=>by have:=hI.ba x hx; omega) (okL15 _)
 rw [hI.la] at this
 exact this
theorem dyD_cd {l:List T_Tok} (hl:l.length≤5000):tree_Lengths (ints (wtN l).2) ((15:Nat):Int)=some (ints (dyD l),0)∧Cd (dyD l)∧(dyD l).length=30∧(∀ j,j<30→(0<(dyD l).getD j 0↔0<(wtN l).2.getD j 0))∧∀ x∈dyD l,x≤15:=by
 have hI:=wts_I l
 have:=tree_cd (w:=(wtN l).2) (lim:=15) (by rw [hI.ld]; omega) (fun x hx=>by have:=hI.bd x hx; omega) (okL15 _)
 rw [hI.ld] at this
 exact this
theorem tmN_len {l:List Nat} {least:Nat} (h:least≤l.length):least≤(tmN l least).length∧(tmN l least).length≤l.length:=by
 have h1:=trm_le l least l.length
 have h2:=trm_ge l least l.length h
 unfold tmN
 rw [List.length_take]
 omega
theorem dynamicBlock_eq {l:List T_Tok} (hl:l.length≤5000) (ht:∀ t∈l,okTk t) (hck:match_Check l=some 0):∃ w,shrink_dynamicBlock l=some (some w)∧WP w (dynP l):=by
 obtain ⟨a1,a2,a3,a4,a5⟩:=dyL_cd hl
 obtain ⟨b1,b2,b3,b4,b5⟩:=dyD_cd hl
 obtain ⟨t1,t2⟩:=tmN_len (l:=dyL l) (least:=257) (by omega)
 obtain ⟨t3,t4⟩:=tmN_len (l:=dyD l) (least:=1) (by omega)
 obtain ⟨w1,p1,q1⟩:=newBlock_eq 2 (by omega)
 obtain ⟨w2,p2,q2⟩:=putLengths_eq (ml:=tmN (dyL l) 257) (md:=tmN (dyD l) 1) (fun x hx=>a5 x (List.mem_of_mem_take hx)) (fun x hx=>b5 x (List.mem_of_mem_take hx)) t1 (by omega) t3 (by omega) q1 (by simp [wid])
 have hw:=wid_hd (ml:=tmN (dyL l) 257) (md:=tmN (dyD l) 1) (by omega)
 obtain ⟨w3,p3,q3⟩:=putTokens_eq a2 b2 (by omega) (by omega) hl ht q2 (by rw [wid_app]; simp only [wid,List.map_cons,List.map_nil,List.sum_cons,List.sum_nil] at hw ⊢; omega)
 refine ⟨w3,?_,by unfold dynP; simpa only [List.append_assoc,List.cons_append,List.nil_append] using q3⟩
 unfold shrink_dynamicBlock
 exact bnd (weights_eq hl ht hck) (bnd a1 (bnd b1 (bnd p1 (obs1 (bnd (trim_eq (by omega) 257) (bnd (trim_eq (by omega) 1) (bnd p2 (bnd (newCode_eq a2) (bnd (newCode_eq b2) (bnd p3 rfl))))))))))
end Go.Abs.Sh
