import Derived.Test.YtkgfjkfccpjcgaaDoorRdF
import Derived.Test.YtkgfjkfccpjcgaaDoorShkE
import Derived.KernelRfl
import Derived.Test.YtkgfjkfccpjcgaaDoorShkS
import Derived.Test.YtkgfjkfccpjcgaaDoorShkF
namespace Go.Abs.Sh
set_option linter.unusedVariables false
set_option linter.unusedSimpArgs false
set_option maxRecDepth 100000
/-! Noughts at the end of the lengths change no code. -/
def zs (m:List Nat) (z:Nat):List Nat:=m++List.replicate z 0
theorem zs_cnt {n:Nat} (h:n≠0) (m:List Nat) (z:Nat):(zs m z).count n=m.count n:=by
 rw [zs,List.count_append,List.count_replicate,if_neg (by simpa using fun e=>h e.symm),Nat.add_zero]
theorem zs_get (m:List Nat) (z j:Nat):(zs m z).getD j 0=m.getD j 0:=by
 rw [zs,List.getD_eq_getElem?_getD,List.getD_eq_getElem?_getD]
 by_cases h:j<m.length
 ·rw [List.getElem?_append_left h]
 ·rw [List.getElem?_append_right (by omega),List.getElem?_eq_none (l:=m) (by omega),List.getElem?_replicate]
  split <;> rfl
theorem zs_fst (m:List Nat) (z:Nat):∀ n,fst (zs m z) n=fst m n
 | 0=>rfl
 | 1=>rfl
 | n+2=>by
  show 2 * (fst (zs m z) (n+1)+(zs m z).count (n+1))=2 * (fst m (n+1)+m.count (n+1))
  rw [zs_fst m z (n+1),zs_cnt (by omega)]
theorem zs_ws (m:List Nat) (z:Nat):∀ n,ws (zs m z) n=ws m n
 | 0=>rfl
 | n+1=>by
  show ws (zs m z) n+(zs m z).count (n+1) * _=ws m n+m.count (n+1) * _
  rw [zs_ws m z n,zs_cnt (by omega)]
theorem zs_tal (m:List Nat) (z:Nat):tal (zs m z)=tal m:=by
 unfold tal
 refine List.map_congr_left fun n _ => ?_
 by_cases h:n=0
 ·rw [if_pos h,if_pos h]
 ·rw [if_neg h,if_neg h,zs_cnt h]
theorem zs_forms (m:List Nat) (z:Nat):forms (zs m z)=forms m:=by unfold forms; rw [zs_tal,zs_ws]
theorem zs_code (m:List Nat) (z j:Nat):code (zs m z) j=code m j:=by
 unfold code
 rw [zs_get,zs_fst]
 by_cases h:m.getD j 0=0
 ·rw [if_pos h,if_pos h]
 ·rw [if_neg h,if_neg h]
  have hj:=lt_gD h
  rw [zs,List.take_append_of_le_length (by omega)]
theorem zs_syP (m:List Nat) (z j:Nat):syP (zs m z) j=syP m j:=by unfold syP; rw [zs_code,zs_get]
theorem zs_Cd {m:List Nat} {z:Nat} (h:Cd (zs m z)):Cd m:=by
 refine ⟨?_,fun x hx=>h.le x (List.mem_append.2 (.inl hx)),by rw [← zs_forms m z]; exact h.fm⟩
 have:=h.len
 rw [zs,List.length_append] at this
 omega
theorem zs_tkP (m d:List Nat) (y z:Nat) (t:T_Tok):tkP (zs m y) (zs d z) t=tkP m d t:=by
 unfold tkP
 simp only [zs_syP]
theorem zs_tksP (m d:List Nat) (y z:Nat) (l:List T_Tok):tksP (zs m y) (zs d z) l=tksP m d l:=by
 unfold tksP
 rw [List.map_congr_left fun t _=>zs_tkP m d y z t]
theorem tm_zs (l:List Nat) (least:Nat):zs (tmN l least) (l.length-(tmN l least).length)=l:=by
 have h1:=trm_le l least l.length
 have hl:(tmN l least).length=trm l least l.length:=by unfold tmN; rw [List.length_take]; omega
 unfold zs
 apply List.ext_getElem
 ·rw [List.length_append,List.length_replicate]; omega
 ·intro j ha hb
  by_cases h:j<(tmN l least).length
  ·rw [List.getElem_append_left h]
   exact List.getElem_take
  ·rw [List.getElem_append_right (by omega),List.getElem_replicate]
   have:=trm_zero l least l.length j (by omega) hb
   rw [List.getD_eq_getElem?_getD,List.getElem?_eq_getElem hb] at this
   exact this.symm
theorem tm_get (l:List Nat) (least j:Nat):(tmN l least).getD j 0=l.getD j 0:=by
 conv=>rhs; rw [← tm_zs l least]
 rw [zs_get]
theorem tm_Cd {l:List Nat} (least:Nat) (h:Cd l):Cd (tmN l least):=zs_Cd (z:=l.length-(tmN l least).length) (by rw [tm_zs]; exact h)
theorem tm_syP (l:List Nat) (least j:Nat):syP (tmN l least) j=syP l j:=by
 conv=>rhs; rw [← tm_zs l least]
 rw [zs_syP]
theorem tm_tksP (m d:List Nat) (a b:Nat) (l:List T_Tok):tksP (tmN m a) (tmN d b) l=tksP m d l:=by
 conv=>rhs; rw [← tm_zs m a,← tm_zs d b]
 rw [zs_tksP]
/-! The row's code,laid in the order. -/
def pls (m:List Nat) (i:Nat):List Nat:=(List.range 19).map fun s=>if ordN.idxOf s<i then m.getD s 0 else 0
theorem pls_len (m:List Nat) (i:Nat):(pls m i).length=19:=by simp [pls]
theorem ord_idx:∀ s,s<19→∀ i,i<19→(ordN.getD i 0=s↔ordN.idxOf s=i):=by decide
theorem ord_lt:∀ s,s<19→ordN.idxOf s<19:=by decide
theorem ord_lt2:∀ i,i<19→ordN.getD i 0<19:=by decide
theorem pls_step (m:List Nat) {i:Nat} (h:i<19):(pls m i).set (ordN.getD i 0) (m.getD (ordN.getD i 0) 0)=pls m (i+1):=by
 apply List.ext_getElem
 ·rw [List.length_set,pls_len,pls_len]
 ·intro s ha hb
  rw [pls_len] at hb
  have hi:=ord_idx s hb i h
  rw [List.getElem_set]
  by_cases e:ordN.getD i 0=s
  ·rw [if_pos e]
   have:=hi.1 e
   simp only [pls,List.getElem_map,List.getElem_range]
   rw [if_pos (by omega),e]
  ·rw [if_neg e]
   have:ordN.idxOf s≠i:=fun h=>e (hi.2 h)
   simp only [pls,List.getElem_map,List.getElem_range]
   by_cases h2:ordN.idxOf s<i
   ·rw [if_pos h2,if_pos (by omega)]
   ·rw [if_neg h2,if_neg (by omega)]
theorem pls_zero (m:List Nat):pls m 0=List.replicate 19 0:=by
 apply List.ext_getElem
 ·rw [pls_len,List.length_replicate]
 ·intro s ha hb
  rw [List.getElem_replicate]
  simp only [pls,List.getElem_map,List.getElem_range]
  rw [if_neg (by omega)]
theorem pls_full {m:List Nat} (hm:m.length=19) {k:Nat} (hk:∀ j,k≤j→j<19→m.getD (ordN.getD j 0) 0=0):pls m k=m:=by
 apply List.ext_getElem
 ·rw [pls_len,hm]
 ·intro s ha hb
  rw [pls_len] at ha
  have e:m.getD s 0=m[s]:=by rw [List.getD_eq_getElem?_getD,List.getElem?_eq_getElem hb]; rfl
  simp only [pls,List.getElem_map,List.getElem_range]
  by_cases h2:ordN.idxOf s<k
  ·rw [if_pos h2,e]
  ·rw [if_neg h2,← e]
   have h3:=ord_lt s ha
   have:=hk (ordN.idxOf s) (by omega) h3
   rw [(ord_idx s ha _ h3).2 rfl] at this
   exact this.symm
theorem ordL_get (m:List Nat) {j:Nat} (h:j<19):(ordL m).getD j 0=m.getD (ordN.getD j 0) 0:=by
 have hl:j<ordN.length:=h
 rw [ordL,List.getD_eq_getElem?_getD,List.getElem?_map,List.getElem?_eq_getElem hl,List.getD_eq_getElem?_getD (l:=ordN),List.getElem?_eq_getElem hl]
 rfl
theorem odL_get (l:List Nat) {j:Nat} (h:j<(odL l).length):(odL l).getD j 0=(rwC l).getD (ordN.getD j 0) 0:=by
 have:=(odL_len l).2
 unfold odL at h ⊢
 rw [tm_get,ordL_get _ (by unfold odL at this; omega)]
theorem odL_full {l:List Nat} (hl:l.length≤320):pls (rwC l) (odL l).length=rwC l:=by
 obtain ⟨_,_,c3,_⟩:=rwC_cd hl
 refine pls_full c3 fun j h1 h2 => ?_
 have:=trm_zero (ordL (rwC l)) 4 (ordL (rwC l)).length j (by
  have:=trm_le (ordL (rwC l)) 4 (ordL (rwC l)).length
  unfold odL tmN at h1
  rw [List.length_take] at h1
  omega) (by simp [ordL,ordN]; exact h2)
 rw [ordL_get _ h2] at this
 exact this
theorem row_used {l:List Nat} (h:∀ x∈l,x≤15) (hl:l.length≤320):∀ p∈rowN l,(rwC l).getD p.1 0≠0:=fun p hp=>by
 obtain ⟨_,_,c3,c4,_⟩:=rwC_cd hl
 have h18:=(rowN_ok h p hp).1
 have:=(c4 p.1 (by omega)).2 (incs_used (sN (rowN l)) (List.replicate 19 0) (by simp) (fun x hx=>by
  obtain ⟨q,hq,rfl⟩:=List.mem_map.1 hx
  exact (rowN_ok h q hq).1) p.1 (List.mem_map.2 ⟨p,hp,rfl⟩))
 omega
end Go.Abs.Sh

namespace Go.Abs.Sh
set_option linter.unusedVariables false
set_option linter.unusedSimpArgs false
set_option maxRecDepth 100000
def dn0S (v6:Int) (v27:List Int):(((List Int)×Int×Int×(List Int)×Int×(List Int)×Int))→Option (((List Int)×Int×Int×(List Int)×Int×(List Int)×Int)⊕(((List Int)×Int×Int×(List Int)×Int×(List Int))⊕T_wherryref01_reader)):=(fun ((s51,s52,s53,s54,s55,s56,s57):(List Int)×Int×Int×(List Int)×Int×(List Int)×Int) =>
   bindS (S:=Bool) (A:=(((List Int)×Int×Int×(List Int)×Int×(List Int)×Int)⊕(((List Int)×Int×Int×(List Int)×Int×(List Int))⊕T_wherryref01_reader)))
    (cond ((decide (s57<v6)))
     (some (.inl (s53==0)))
     (some (.inl false)))
    (fun (s75:Bool) =>
     cond (s75)
      ((ixO s57 v27.length).bind fun v33 =>
      (getO v27 v33).bind fun v34 =>
      (wherryref01_reader_get (T_wherryref01_reader.mk s51 s52 s53 s54 s55) 3).bind fun v35 =>
      (ixO v34 s56.length).bind fun v36 =>
      (some (s56.set v36 v35.1)).bind fun v37 =>
      (some (IntKind.i64.wrap (s57+1))).bind fun v38 =>
      some (.inl (v35.2.b,v35.2.at_,v35.2.bad,v35.2.out,v35.2.most,v37,v38)))
      (some (.inr (.inl (s51,s52,s53,s54,s55,s56))))) some)
def dn1S (v2 v4:Int):(((List Int)×Int×Int×(List Int)×Int×(List Int)×(List Int)×(List Int)))→Option (((List Int)×Int×Int×(List Int)×Int×(List Int)×(List Int)×(List Int))⊕(((List Int)×Int×Int×(List Int)×Int×(List Int))⊕T_wherryref01_reader)):=(fun ((s274,s275,s276,s277,s278,s279,s280,s281):(List Int)×Int×Int×(List Int)×Int×(List Int)×(List Int)×(List Int)) =>
        bindS (S:=Bool) (A:=(((List Int)×Int×Int×(List Int)×Int×(List Int)×(List Int)×(List Int))⊕(((List Int)×Int×Int×(List Int)×Int×(List Int))⊕T_wherryref01_reader)))
         ((some (IntKind.i64.wrap (v2+v4))).bind fun v88 =>
         cond ((decide ((s281.length:Int)<v88)))
          (some (.inl (s276==0)))
          (some (.inl false)))
         (fun (s376:Bool) =>
          cond (s376)
           ((wherryref01_reader_sym (T_wherryref01_reader.mk s274 s275 s276 s277 s278) s279 s280).bind fun v94 =>
           bindS (S:=(List Int)×Int×Int×(List Int)×Int×Int×Int) (A:=(((List Int)×Int×Int×(List Int)×Int×(List Int)×(List Int)×(List Int))⊕(((List Int)×Int×Int×(List Int)×Int×(List Int))⊕T_wherryref01_reader)))
            (bindS (S:=(List Int)×Int×Int×(List Int)×Int×Int×Int) (A:=(((List Int)×Int×Int×(List Int)×Int×Int×Int)⊕(((List Int)×Int×Int×(List Int)×Int×(List Int)×(List Int)×(List Int))⊕(((List Int)×Int×Int×(List Int)×Int×(List Int))⊕T_wherryref01_reader))))
             (cond ((v94.1==16))
              (cond (((s281.length:Int)==0))
               ((wherryref01_reader_none v94.2).bind fun v97 =>
               some (.inr (.inr (.inr (.inr (v97))))))
               ((some (IntKind.i64.wrap ((s281.length:Int)-1))).bind fun v98 =>
               (ixO v98 s281.length).bind fun v195 =>
               (getO s281 v195).bind fun v196 =>
               (wherryref01_reader_get v94.2 2).bind fun v197 =>
               (some (IntKind.i64.wrap (3+v197.1))).bind fun v198 =>
               some (.inl (v197.2.b,v197.2.at_,v197.2.bad,v197.2.out,v197.2.most,v196,v198))))
              (cond ((v94.1==17))
               ((wherryref01_reader_get v94.2 3).bind fun v100 =>
               (some (IntKind.i64.wrap (3+v100.1))).bind fun v101 =>
               some (.inl (v100.2.b,v100.2.at_,v100.2.bad,v100.2.out,v100.2.most,0,v101)))
               (cond ((v94.1==18))
                ((wherryref01_reader_get v94.2 7).bind fun v103 =>
                (some (IntKind.i64.wrap (11+v103.1))).bind fun v104 =>
                some (.inl (v103.2.b,v103.2.at_,v103.2.bad,v103.2.out,v103.2.most,0,v104)))
                (some (.inl (v94.2.b,v94.2.at_,v94.2.bad,v94.2.out,v94.2.most,v94.1,1))))))
             (fun ((s413,s414,s415,s416,s417,s418,s419):(List Int)×Int×Int×(List Int)×Int×Int×Int) =>
              some (.inl (s413,s414,s415,s416,s417,s418,s419))) some)
            (fun ((s399,s400,s401,s402,s403,s404,s405):(List Int)×Int×Int×(List Int)×Int×Int×Int) =>
             bindS (S:=((List Int))) (A:=(((List Int)×Int×Int×(List Int)×Int×(List Int)×(List Int)×(List Int))⊕(((List Int)×Int×Int×(List Int)×Int×(List Int))⊕T_wherryref01_reader)))
              (loopF (S:=((List Int)×Int)) (O:=((List Int))⊕(((List Int)×Int×Int×(List Int)×Int×(List Int)×(List Int)×(List Int))⊕(((List Int)×Int×Int×(List Int)×Int×(List Int))⊕T_wherryref01_reader))) (fun ((s439,s440):(List Int)×Int) =>
               bindS (S:=Bool) (A:=(((List Int)×Int)⊕(((List Int))⊕(((List Int)×Int×Int×(List Int)×Int×(List Int)×(List Int)×(List Int))⊕(((List Int)×Int×Int×(List Int)×Int×(List Int))⊕T_wherryref01_reader)))))
                (cond ((decide (0<s440)))
                 (some (.inl (s401==0)))
                 (some (.inl false)))
                (fun (s453:Bool) =>
                 cond (s453)
                  ((appO 8 s439 [s404]).bind fun v152 =>
                  (some (IntKind.i64.wrap (s440-1))).bind fun v153 =>
                  some (.inl (v152,v153)))
                  (some (.inr (.inl s439)))) some)
               BIG (s281,s405))
              (fun (s446:(List Int)) =>
               some (.inl (s399,s400,s401,s402,s403,s279,s280,s446))) some) some)
           (some (.inr (.inl (s274,s275,s276,s277,s278,s281))))) some)
def dn2S (s401 s404:Int):(((List Int)×Int))→Option (((List Int)×Int)⊕(((List Int))⊕(((List Int)×Int×Int×(List Int)×Int×(List Int)×(List Int)×(List Int))⊕(((List Int)×Int×Int×(List Int)×Int×(List Int))⊕T_wherryref01_reader)))):=(fun ((s439,s440):(List Int)×Int) =>
               bindS (S:=Bool) (A:=(((List Int)×Int)⊕(((List Int))⊕(((List Int)×Int×Int×(List Int)×Int×(List Int)×(List Int)×(List Int))⊕(((List Int)×Int×Int×(List Int)×Int×(List Int))⊕T_wherryref01_reader)))))
                (cond ((decide (0<s440)))
                 (some (.inl (s401==0)))
                 (some (.inl false)))
                (fun (s453:Bool) =>
                 cond (s453)
                  ((appO 8 s439 [s404]).bind fun v152 =>
                  (some (IntKind.i64.wrap (s440-1))).bind fun v153 =>
                  some (.inl (v152,v153)))
                  (some (.inr (.inl s439)))) some)
/-! The row's code is read in its order. -/
theorem rord_eq:wherryref01_order=some (ints ordN):=by kernel_rfl
theorem ints_setL (m:List Nat) (i v:Nat):(ints m).set i (v:Int)=ints (m.set i v):=by
 simp [ints,List.map_set]
theorem ord_loop {m:List Nat} {od:List Nat} (hod:od.length≤19) (ho:∀ j,j<od.length→od.getD j 0=m.getD (ordN.getD j 0) 0) (hb:∀ x∈od,x<8) {B:List Int} (hB:isB B) (hbl:B.length≤10000) {out:List Int} {most:Int}:∀ (k i P fuel:Nat),i+k=od.length→k<fuel→Sp (nP 3 (od.drop i)) P B→P+3 * k≤8 * B.length →
  loopF (dn0S (od.length:Int) (ints ordN)) fuel (B,(P:Int),0,out,most,ints (pls m i),(i:Int))=some (.inl (B,((P+3 * k:Nat):Int),0,out,most,ints (pls m od.length)))
 | 0,i,P,fuel,hk,hf,hs,hP=>by
  obtain ⟨fu,rfl⟩:∃ fu,fuel=fu+1:=⟨fuel-1,by omega⟩
  rw [show od.length=i by omega]
  refine loop_exit ?_
  unfold dn0S
  exact bndL (s:=false) (cnd_f (decide_eq_false (by omega)) rfl) (cnd_f rfl rfl)
 | k+1,i,P,fuel,hk,hf,hs,hP=>by
  obtain ⟨fu,rfl⟩:∃ fu,fuel=fu+1:=⟨fuel-1,by omega⟩
  have hi:i<od.length:=by omega
  rw [List.drop_eq_getElem_cons hi] at hs
  obtain ⟨s1,s2⟩:=(Sp_app [(od[i],3)] (nP 3 (od.drop (i+1))) P B).1 hs
  rw [show wid [(od[i],3)]=3 from rfl] at s2
  have hx:=hb _ (List.getElem_mem hi)
  have hg:=get_sp (out:=out) (most:=most) hB hbl (P:=P) (n:=3) (v:=od[i]) (by omega) (by omega) (by omega) s1
  have ih:=ord_loop hod ho hb hB hbl (out:=out) (most:=most) k (i+1) (P+3) fu (by omega) (by omega) s2 (by omega)
  have hio:i<ordN.length:=show i<19 by omega
  have hgo:getO (ints ordN) i=some ((ordN.getD i 0:Nat):Int):=by
   rw [ints_get hio,List.getD_eq_getElem?_getD,List.getElem?_eq_getElem hio]; rfl
  have h19:=ord_lt2 i (by omega)
  have hset:(ints (pls m i)).set (ordN.getD i 0) ((od[i]:Nat):Int)=ints (pls m (i+1)):=by
   have e:od[i]=m.getD (ordN.getD i 0) 0:=by rw [← ho i hi,List.getD_eq_getElem?_getD,List.getElem?_eq_getElem hi]; rfl
   rw [ints_setL,← pls_step m (by omega),e]
  rw [show P+3 * (k+1)=P+3+3 * k by omega]
  refine (loop_next (s':=(B,((P+3:Nat):Int),0,out,most,ints (pls m (i+1)),((i+1:Nat):Int))) ?_).trans ih
  unfold dn0S
  exact bndL (s:=true) (cnd_t (decide_eq_true (by omega)) rfl) (cnd_t rfl (bnd (ixO_of (by rw [ints_len]; exact hio)) (bnd hgo (bnd hg (bnd (ixO_of (by rw [ints_len,pls_len]; exact h19)) (bnd (congrArg some hset) (bnd (congrArg some (wrap_succ (n:=i) (by omega))) rfl)))))))
/-! The row is read. -/
theorem pop_loop (x:Int):∀ (k fuel:Nat) (s:List Int),k<fuel→s.length+k≤400→loopF (dn2S 0 x) fuel (s,(k:Int))=some (.inl (s++List.replicate k x))
 | 0,fuel,s,hf,hs=>by
  obtain ⟨fu,rfl⟩:∃ fu,fuel=fu+1:=⟨fuel-1,by omega⟩
  rw [List.replicate_zero,List.append_nil]
  exact loop_exit rfl
 | k+1,fuel,s,hf,hs=>by
  obtain ⟨fu,rfl⟩:∃ fu,fuel=fu+1:=⟨fuel-1,by omega⟩
  have ih:=pop_loop x k fu (s++[x]) (by omega) (by simp; omega)
  rw [List.replicate_succ,List.append_cons]
  exact (loop_next (bndL (s:=true) (cnd_t (decide_eq_true (by omega)) rfl) (cnd_t rfl (bnd (app_of (m:=[x]) (by simp; omega) (by simp; omega)) (bnd (congrArg some (wrS (a:=k+1) (b:=1) (by omega) (by omega))) rfl))))).trans ih
def rwn (R:List (Int×Nat)):List (Nat×Nat):=R.map fun p=>(p.1.toNat,p.2)
theorem rrow_loop {L:List Nat} (hv:∀ x∈L,x≤15) (hl:L.length≤320) {v2 v4:Int} (h24:IntKind.i64.wrap (v2+v4)=((L.length:Nat):Int)) {m:List Nat} (hm:Cd m) {B:List Int} (hB:isB B) (hbl:B.length≤10000) {out:List Int} {most:Int}:∀ (k i P fuel:Nat),i≤L.length→L.length-i≤k→k<fuel→(∀ p∈rwn (rowF (ints L) k i),m.getD p.1 0≠0)→Sp (rwP m (rwn (rowF (ints L) k i))) P B→P+wid (rwP m (rwn (rowF (ints L) k i)))≤8 * B.length →
  loopF (dn1S v2 v4) fuel (B,(P:Int),0,out,most,ints m,ints (codes m),(ints L).take i)=some (.inl (B,((P+wid (rwP m (rwn (rowF (ints L) k i))):Nat):Int),0,out,most,ints L))
 | k,i,P,fuel,hi,hk,hf,hu,hs,hP=>by
  obtain ⟨fu,rfl⟩:∃ fu,fuel=fu+1:=⟨fuel-1,by omega⟩
  have hLl:(ints L).length=L.length:=ints_len L
  have hlen:((ints L).take i).length=i:=by rw [List.length_take]; omega
  by_cases hlt:i<L.length
  ·obtain ⟨k,rfl⟩:∃ k',k=k'+1:=⟨k-1,by omega⟩
   have hlt2:i<(ints L).length:=by omega
   rw [rowF,if_pos hlt2] at hu hs hP ⊢
   obtain ⟨c1,c2,c3,c4⟩:=stp_cnt hlt2
   obtain ⟨o1,o2,o3⟩:=stp_row (ints_ok hv) hlt2
   have hle:=run_le (ints L) i
   have hsb:=stp_back (ints_ok hv) hlt2
   generalize hst:stpL (ints L) i=st at *
   obtain ⟨sy_,mo_,ct_⟩:=st
   simp only at c1 c2 c3 c4 o1 o2 o3 hsb hu hs hP ⊢
   obtain ⟨s,rfl⟩:∃ s:Nat,sy_=(s:Int):=⟨sy_.toNat,by omega⟩
   rw [Int.toNat_natCast] at o3
   have er:rwP m (rwn (((s:Int),mo_)::rowF (ints L) k (i+ct_)))=[syP m s]++([(mo_,rwm s)]++rwP m (rwn (rowF (ints L) k (i+ct_)))):=rfl
   rw [er] at hs hP ⊢
   obtain ⟨s1,s23⟩:=(Sp_app _ _ _ _).1 hs
   obtain ⟨s2,s3⟩:=(Sp_app _ _ _ _).1 s23
   rw [wid_app,wid_app] at hP ⊢
   have w1:wid [syP m s]=m.getD s 0:=by simp [wid,syP]
   have w2:wid [(mo_,rwm s)]=rwm s:=by simp [wid]
   rw [w1] at hP s2 s3 ⊢
   rw [w2] at hP s3 ⊢
   have hus:m.getD s 0≠0:=hu (s,mo_) List.mem_cons_self
   have g1:=sym_rd (out:=out) (most:=most) hm hB hbl (j:=s) (lt_gD hus) hus (P:=P) (by omega) s1
   have ih:=rrow_loop hv hl h24 hm hB hbl (out:=out) (most:=most) k (i+ct_) (P+m.getD s 0+rwm s) fu (by omega) (by omega) (by omega) (fun p hp=>hu p (List.mem_cons_of_mem _ hp)) s3 (by omega)
   rw [show P+(m.getD s 0+(rwm s+wid (rwP m (rwn (rowF (ints L) k (i+ct_))))))=P+m.getD s 0+rwm s+wid (rwP m (rwn (rowF (ints L) k (i+ct_)))) by omega]
   have key:loopF (dn2S 0 ((ints L).getD i 0)) BIG ((ints L).take i,((ct_:Nat):Int))=some (.inl ((ints L).take (i+ct_))):=by
    rw [pop_loop _ ct_ BIG ((ints L).take i) (by simp only [BIG]; omega) (by rw [hlen]; omega),take_run (by omega) c2]
   refine (loop_next (s':=(B,((P+m.getD s 0+rwm s:Nat):Int),0,out,most,ints m,ints (codes m),(ints L).take (i+ct_))) ?_).trans ih
   have hc:decide ((((ints L).take i).length:Int)<((L.length:Nat):Int))=true:=decide_eq_true (by omega)
   unfold dn1S
   have tail:∀ (v n:Int),v=(ints L).getD i 0→n=((ct_:Nat):Int)→loopF (dn2S 0 v) BIG ((ints L).take i,n)=some (.inl ((ints L).take (i+ct_))):=fun v n h1 h2=>by subst h1 h2; exact key
   rcases hsb with ⟨q1,q2,q3⟩ | ⟨q1,q2,q3⟩ | ⟨q1,q0,q2,q3⟩ | ⟨q1,q2,q3,q4⟩
   ·obtain rfl:s=18:=by omega
    have g2:=get_sp (out:=out) (most:=most) hB hbl (P:=P+m.getD 18 0) (n:=7) (v:=mo_) (by omega) (by have:=show rwm 18=7 from rfl; omega) o3 s2
    exact bndL (s:=true) (bnd (congrArg some h24) (cnd_t hc rfl)) (cnd_t rfl (bnd g1 (bndL (s:=(B,((P+m.getD 18 0+7:Nat):Int),0,out,most,0,((11+mo_:Nat):Int))) (bndL (s:=(B,((P+m.getD 18 0+7:Nat):Int),0,out,most,0,((11+mo_:Nat):Int))) (cnd_f rfl (cnd_f rfl (cnd_t rfl (bnd g2 (bnd (congrArg some (wrA 11 mo_ (by omega))) rfl))))) rfl) (bndL (tail 0 _ q2.symm (by rw [q3])) rfl))))
   ·obtain rfl:s=17:=by omega
    have g2:=get_sp (out:=out) (most:=most) hB hbl (P:=P+m.getD 17 0) (n:=3) (v:=mo_) (by omega) (by have:=show rwm 17=3 from rfl; omega) o3 s2
    exact bndL (s:=true) (bnd (congrArg some h24) (cnd_t hc rfl)) (cnd_t rfl (bnd g1 (bndL (s:=(B,((P+m.getD 17 0+3:Nat):Int),0,out,most,0,((3+mo_:Nat):Int))) (bndL (s:=(B,((P+m.getD 17 0+3:Nat):Int),0,out,most,0,((3+mo_:Nat):Int))) (cnd_f rfl (cnd_t rfl (bnd g2 (bnd (congrArg some (wrA 3 mo_ (by omega))) rfl)))) rfl) (bndL (tail 0 _ q2.symm (by rw [q3])) rfl))))
   ·obtain rfl:s=16:=by omega
    have g2:=get_sp (out:=out) (most:=most) hB hbl (P:=P+m.getD 16 0) (n:=2) (v:=mo_) (by omega) (by have:=show rwm 16=2 from rfl; omega) o3 s2
    have hi1:i-1<((ints L).take i).length:=by omega
    have hg1:getO ((ints L).take i) (i-1)=some ((ints L).getD i 0):=by
     rw [getO_of hi1,← q2,getDa (show i-1<(ints L).length by omega),List.getElem_take]
    have hw:IntKind.i64.wrap ((((ints L).take i).length:Int)-1)=((i-1:Nat):Int):=by rw [hlen]; exact wrS (a:=i) (b:=1) (by omega) (by omega)
    exact bndL (s:=true) (bnd (congrArg some h24) (cnd_t hc rfl)) (cnd_t rfl (bnd g1 (bndL (s:=(B,((P+m.getD 16 0+2:Nat):Int),0,out,most,(ints L).getD i 0,((3+mo_:Nat):Int))) (bndL (s:=(B,((P+m.getD 16 0+2:Nat):Int),0,out,most,(ints L).getD i 0,((3+mo_:Nat):Int))) (cnd_t rfl (cnd_f (beq_eq_false_iff_ne.2 (by omega)) (bnd (congrArg some hw) (bnd (ixO_of hi1) (bnd hg1 (bnd g2 (bnd (congrArg some (wrA 3 mo_ (by omega))) rfl))))))) rfl) (bndL (tail _ _ rfl (by rw [q3])) rfl))))
   ·have n16:((s:Int)==16)=false:=beq_eq_false_iff_ne.2 (by omega)
    have n17:((s:Int)==17)=false:=beq_eq_false_iff_ne.2 (by omega)
    have n18:((s:Int)==18)=false:=beq_eq_false_iff_ne.2 (by omega)
    have hr0:rwm s=0:=by
     unfold rwm
     rw [if_neg (by omega),if_neg (by omega),if_neg (by omega)]
    have hct:ct_=1:=congrArg Prod.snd q4
    rw [hr0,Nat.add_zero]
    exact bndL (s:=true) (bnd (congrArg some h24) (cnd_t hc rfl)) (cnd_t rfl (bnd g1 (bndL (s:=(B,((P+m.getD s 0:Nat):Int),0,out,most,(s:Int),1)) (bndL (s:=(B,((P+m.getD s 0:Nat):Int),0,out,most,(s:Int),1)) (cnd_f n16 (cnd_f n17 (cnd_f n18 rfl))) rfl) (bndL (tail _ _ q1 (by rw [hct]; rfl)) rfl))))
  ·have e:rowF (ints L) k i=[]:=by
    cases k with
    | zero=>rfl
    | succ k=>rw [rowF,if_neg (by omega)]
   rw [e,List.take_of_length_le (by omega)]
   refine loop_exit ?_
   unfold dn1S
   exact bndL (s:=false) (bnd (congrArg some h24) (cnd_f (decide_eq_false (by omega)) rfl)) (cnd_f rfl rfl)
end Go.Abs.Sh

namespace Go.Abs.Sh
set_option linter.unusedVariables false
set_option linter.unusedSimpArgs false
set_option maxRecDepth 100000
/-! A block of its own code. -/
theorem rwn_row (L:List Nat):rwn (rowF (ints L) L.length 0)=rowN L:=by
 unfold rowN rowL rwn
 rw [ints_len]
theorem od_lt8 {L:List Nat} (hl:L.length≤320):∀ x∈odL L,x<8:=fun x hx=>by
 obtain ⟨_,_,_,_,c5⟩:=rwC_cd hl
 have:=List.mem_of_mem_take hx
 obtain ⟨s,hs,rfl⟩:=List.mem_map.1 this
 have:(rwC L).getD s 0≤7:=by
  rw [List.getD_eq_getElem?_getD]
  cases hj:(rwC L)[s]? with
  | none=>simp
  | some y=>simpa using c5 y (List.mem_of_getElem? hj)
 omega
theorem pow4:(2:Nat) ^ 4=16:=by decide
theorem pow5:(2:Nat) ^ 5=32:=by decide
theorem dyn_rd {ml md:List Nat} (hm:Cd ml) (hd:Cd md) (l1:257≤ml.length) (l2:ml.length≤286) (l3:1≤md.length) (l4:md.length≤30) (he:ml.getD 256 0≠0) {B:List Int} (hB:isB B) (hbl:B.length≤10000) {most N:Nat} (hm2:most≤5000) (hN:N≤most) {l:List T_Tok} (hl:l.length≤5000) (ho:∀ t∈l,okTk t∧usedC ml md t) (hc:chkF l 0=some N)
  (hP:3+wid (hdP ml md++(tksP ml md l++[syP ml 256]))≤8 * B.length) (hs:Sp (hdP ml md++(tksP ml md l++[syP ml 256])) 3 B) :
  wherryref01_reader_dynamic (T_wherryref01_reader.mk B ((3:Nat):Int) 0 [] (most:Int))=some (T_wherryref01_reader.mk B ((3+wid (hdP ml md++(tksP ml md l++[syP ml 256])):Nat):Int) 0 (exF l []) (most:Int)):=by
 have hL:∀ x∈ml++md,x≤15:=fun x hx=>(List.mem_append.1 hx).elim (hm.le x) (hd.le x)
 have hll:(ml++md).length≤320:=by rw [List.length_append]; omega
 have hLl:(ml++md).length=ml.length+md.length:=List.length_append
 obtain ⟨s1,s2⟩:=(Sp_app _ _ _ _).1 hs
 rw [wid_app] at hP ⊢
 unfold hdP at s1 s2 hP ⊢
 generalize hLd:ml++md=L at *
 obtain ⟨c1,c2,c3,c4,c5⟩:=rwC_cd hll
 obtain ⟨o1,o2⟩:=odL_len L
 obtain ⟨a,b⟩:=(Sp_app _ _ _ _).1 s1
 obtain ⟨b1,b2⟩:=(Sp_app _ _ _ _).1 b
 obtain ⟨a1,a2,a3,_⟩:=a
 simp only at a1 a2 a3
 have w14:wid [(ml.length-257,5),(md.length-1,5),((odL L).length-4,4)]=14:=rfl
 have wnp:=wid_nP 3 (odL L)
 rw [wid_app,wid_app,w14,wnp] at hP s2 ⊢
 rw [w14,wnp] at b2
 rw [w14] at b1
 have p4:=pow4
 have p5:=pow5
 have g1:=get_rd (out:=[]) (most:=(most:Int)) hB hbl (P:=3) (n:=5) (v:=ml.length-257) (by omega) (by omega) (by omega) a1
 have g2:=get_rd (out:=[]) (most:=(most:Int)) hB hbl (P:=8) (n:=5) (v:=md.length-1) (by omega) (by omega) (by omega) a2
 have g3:=get_rd (out:=[]) (most:=(most:Int)) hB hbl (P:=13) (n:=4) (v:=(odL L).length-4) (by omega) (by omega) (by omega) a3
 have e1:IntKind.i64.wrap (((ml.length-257:Nat):Int)+257)=((ml.length:Nat):Int):=by rw [wrap_i64 (by omega) (by omega)]; omega
 have e2:IntKind.i64.wrap (((md.length-1:Nat):Int)+1)=((md.length:Nat):Int):=by rw [wrap_i64 (by omega) (by omega)]; omega
 have e3:IntKind.i64.wrap ((((odL L).length-4:Nat):Int)+4)=(((odL L).length:Nat):Int):=by rw [wrap_i64 (by omega) (by omega)]; omega
 have e4:IntKind.i64.wrap (((ml.length:Nat):Int)+((md.length:Nat):Int))=((L.length:Nat):Int):=by rw [wrap_i64 (by omega) (by omega)]; omega
 have m1:mkO 8 19 (0:Int)=some (ints (pls (rwC L) 0)):=by rw [pls_zero]; kernel_rfl
 have q0:=ord_loop (m:=rwC L) (od:=odL L) o2 (fun j hj=>odL_get L hj) (od_lt8 hll) hB hbl (out:=[]) (most:=(most:Int)) (odL L).length 0 17 BIG (by omega) (by simp only [BIG]; omega) b1 (by omega)
 rw [odL_full hll] at q0
 have hmk:=makes_eq (rwC L) c2.len c2.le
 rw [c2.fm] at hmk
 have hcd:=refCodes_eq (rwC L) c2.len c2.le c2.fm
 have q1:=rrow_loop hL hll e4 c2 hB hbl (out:=[]) (most:=(most:Int)) L.length 0 (17+3 * (odL L).length) BIG (by omega) (by omega) (by simp only [BIG]; omega) (by rw [rwn_row]; exact row_used hL hll) (by rw [rwn_row]; exact b2) (by rw [rwn_row]; omega)
 rw [rwn_row,List.take_zero] at q1
 have sl1:sliO (ints L) 0 ((ml.length:Nat):Int)=some (ints ml):=by
  have:=sli_nat (ints L) (a:=0) (b:=ml.length) (by omega) (by rw [ints_len]; omega)
  rw [show (((0:Nat):Int))=0 from rfl] at this
  rw [this,← hLd]
  simp [ints]
 have sl2:sliO (ints L) ((ml.length:Nat):Int) (((ints L).length:Nat):Int)=some (ints md):=by
  rw [sli_nat (ints L) (by rw [ints_len]; omega) (Nat.le_refl _),← hLd]
  simp [ints]
  exact List.take_of_length_le (by rw [List.length_map]; exact Nat.le_refl _)
 have mk1:=makes_eq ml hm.len hm.le
 rw [hm.fm] at mk1
 have mk2:=makes_eq md hd.len hd.le
 rw [hd.fm] at mk2
 have g256:getO (ints L) 256=some ((ml.getD 256 0:Nat):Int):=by
  rw [ints_get (show 256<L.length by omega),List.getD_eq_getElem?_getD,List.getElem?_eq_getElem (show 256<ml.length by omega)]
  simp only [← hLd,List.getElem_append_left (show 256<ml.length by omega),Option.getD_some]
 have hne:(((L.length:Nat):Int) != ((L.length:Nat):Int))=false:=by rw [bne,beq_self_eq_true]; rfl
 have hlb:((((ints L).length:Nat):Int) != ((L.length:Nat):Int))=false:=by rw [ints_len]; exact hne
 have h256:((((ml.getD 256 0:Nat):Int))==0)=false:=beq_eq_false_iff_ne.2 (by omega)
 have ht:=text_rd (out:=[]) hm hd hB hbl he hm2 hN (l:=l) (P:=17+3 * (odL L).length+wid (rwP (rwC L) (rowN L))) hl ho hc (by omega) (by rw [show 17+3 * (odL L).length+wid (rwP (rwC L) (rowN L))=3+(14+(3 * (odL L).length+wid (rwP (rwC L) (rowN L)))) by omega]; exact s2)
 rw [show 3+(14+(3 * (odL L).length+wid (rwP (rwC L) (rowN L)))+wid (tksP ml md l++[syP ml 256]))=17+3 * (odL L).length+wid (rwP (rwC L) (rowN L))+wid (tksP ml md l++[syP ml 256]) by omega]
 unfold wherryref01_reader_dynamic
 refine bnd g1 (bnd (congrArg some e1) (bnd g2 (bnd (congrArg some e2) (bnd g3 (bnd (congrArg some e3) ?_)))))
 refine bndL (s:=(B,((17:Nat):Int),0,[],(most:Int))) (bndL (s:=false) (cnd_t rfl (cnd_f (decide_eq_false (by omega)) (inlB (decide_eq_false (by omega))))) (cnd_f rfl rfl)) ?_
 refine bnd m1 (bnd rord_eq (bndL q0 ?_))
 refine bndL (s:=false) (cnd_f rfl (bnd hmk rfl)) (cnd_f rfl (bnd hcd (bndL q1 ?_)))
 have hq:(ixO (256:Int) (ints L).length)=some 256:=by
  have:=ixO_of (i:=256) (n:=(ints L).length) (by rw [ints_len]; omega)
  exact this
 refine bndL (s:=false) (cnd_f rfl (bnd (congrArg some e4) (cnd_f hlb (bnd sl1 (bnd mk1 (cnd_f rfl (bnd sl2 (bnd mk2 (cnd_f rfl (bnd hq (bnd g256 (inlB h256)))))))))))) ?_
 exact cnd_f rfl (bnd sl1 (bnd sl2 (bnd ht rfl)))
end Go.Abs.Sh

namespace Go.Abs.Sh
set_option linter.unusedVariables false
set_option linter.unusedSimpArgs false
set_option maxRecDepth 100000
theorem dyn_used {l:List T_Tok} (hl:l.length≤5000) (ht:∀ t∈l,okTk t):∀ t∈l,usedC (tmN (dyL l) 257) (tmN (dyD l) 1) t:=fun t hm=>by
 obtain ⟨_,_,_,a4,_⟩:=dyL_cd hl
 obtain ⟨_,_,_,b4,_⟩:=dyD_cd hl
 have hu:=used_fold l wts0 1 wtI0 ht t hm
 have hk:=ht t hm
 unfold used at hu
 unfold usedC
 simp only [tm_get]
 by_cases h0:t.Len=0
 ·rw [if_pos h0] at hu ⊢
  have:=(a4 t.Byte.toNat (by have:=hk.1; omega)).2 hu
  omega
 ·rw [if_neg h0] at hu ⊢
  rcases hk.2 with h1 | ⟨h1,h2,h3,h4⟩
  ·exact absurd h1 h0
  obtain ⟨_,l2,l3,_⟩:=ln_ok (n:=t.Len.toNat) (by omega) (by omega)
  obtain ⟨_,d2,_⟩:=ds_ok (n:=t.Dist.toNat) (by omega) (by omega)
  have e1:=(a4 _ (by omega)).2 hu.1
  have e2:=(b4 _ (by omega)).2 hu.2
  exact ⟨by omega,by omega⟩
theorem grow_dynamic {b:List Int} (hb:∀ n∈b,0≤n∧n<256) (hl:b.length≤4096) {w:T_shrink_writer} (hw:WP w (dynP (toksS b))) (hbl:w.b.length≤10000) {most:Nat} (hm:b.length≤most) (hm2:most≤5000):wherryref01_Grow w.b (most:Int)=some (b,1,0):=by
 have hg:=hw.good
 have hle:=toksS_len b
 have hll:(toksS b).length≤5000:=by omega
 have hsp:=hw.sp
 obtain ⟨_,a2,a3,a4,_⟩:=dyL_cd hll
 obtain ⟨_,b2,b3,b4,_⟩:=dyD_cd hll
 obtain ⟨t1,t2⟩:=tmN_len (l:=dyL (toksS b)) (least:=257) (by omega)
 obtain ⟨t3,t4⟩:=tmN_len (l:=dyD (toksS b)) (least:=1) (by omega)
 unfold dynP at hg hsp
 rw [← tm_tksP (dyL (toksS b)) (dyD (toksS b)) 257 1,← tm_syP (dyL (toksS b)) 257 256] at hg hsp
 have h256:(tmN (dyL (toksS b)) 257).getD 256 0≠0:=by
  rw [tm_get]
  have:=(a4 256 (by omega)).2 (used_end (toksS b))
  omega
 have hus:=dyn_used hll (toksS_ok hb)
 have cm:=tm_Cd 257 a2
 have cd':=tm_Cd 1 b2
 generalize tmN (dyL (toksS b)) 257=ml at *
 generalize tmN (dyD (toksS b)) 1=md at *
 obtain ⟨h1,h2⟩:=(Sp_app _ _ _ _).1 hsp
 have hwid:wid [(1,1),(2,2)]=3:=rfl
 rw [hwid,Nat.zero_add] at h2
 rw [wid_app,hwid] at hg
 have hlen:=hg.len
 obtain ⟨r1,r2⟩:=head_rd (out:=[]) (most:=(most:Int)) hg.bytes hbl (k:=2) (by omega) (by omega) h1
 have ht:=dyn_rd cm cd' t1 (by omega) t3 (by omega) h256 hg.bytes hbl hm2 hm (l:=toksS b) hll (fun t ht=>⟨toksS_ok hb t ht,hus t ht⟩) (chk_toksS b) (by omega) h2
 rw [ex_toksS] at ht
 refine grow_tail hg.bytes hbl hlen hg.zero ?_
 rw [show BIG=(BIG-2+1)+1 by simp only [BIG]]
 generalize wid (hdP ml md++(tksP ml md (toksS b)++[syP ml 256]))=W at *
 refine (loop_next (s':=(w.b,((3+W:Nat):Int),0,b,(most:Int),1,1)) ?_).trans g0_exit
 unfold g0S
 exact bndL (s:=true) (cnd_t rfl rfl) (cnd_t rfl (bndL (s:=(w.b,((3+W:Nat):Int),0,b,(most:Int),1,1)) (bnd r1 (bnd rfl (bnd r2 (bndL (s:=(w.b,((3+W:Nat):Int),0,b,(most:Int))) (cnd_f rfl (cnd_f rfl (cnd_t rfl (bnd ht rfl)))) rfl)))) rfl))
end Go.Abs.Sh

namespace Go.Abs.Sh
set_option linter.unusedVariables false
set_option linter.unusedSimpArgs false
set_option maxRecDepth 100000
theorem fx_len {b:List Int} (hb:∀ n∈b,0≤n∧n<256) (hl:b.length≤1200) {w:T_shrink_writer} (h:WP w (fxP (toksS b))):w.b.length≤10000:=by
 have h1:=toksS_len b
 have h2:=wid_tks cd_mL.le cd_mD.le (toksS_ok hb)
 have h3:=h.good.len
 unfold fxP at h3
 have h4:wid [(1,1),(1,2)]=3:=rfl
 have h5:wid [syP mL 256]=7:=by kernel_rfl
 rw [wid_app,wid_app,h4,h5] at h3
 omega
theorem grow_shrink {b:List Int} (hb:∀ n∈b,0≤n∧n<256) (hl:b.length≤4096):∃ w:T_shrink_writer,shrink_Shrink b=some (w.b,0)∧w.b.length≤b.length+5∧wherryref01_Grow w.b 4096=some (b,1,0):=by
 obtain ⟨w,ps,h1,h2,h3,h4,_,_⟩:=shrink_is hb hl
 have hlen:=h2.good.len
 rw [wid_stQ] at h4
 have e:((4096:Nat):Int)=4096:=rfl
 refine ⟨w,h1,by omega,?_⟩
 rcases h3 with rfl | rfl | rfl
 ·exact grow_stored hb hl h2 (by omega) (most:=4096) hl (by omega)
 ·exact grow_fixed hb hl h2 (by omega) (most:=4096) hl (by omega)
 ·exact grow_dynamic hb hl h2 (by omega) (most:=4096) hl (by omega)
end Go.Abs.Sh

namespace Go.Abs.Sh
set_option linter.unusedVariables false
set_option linter.unusedSimpArgs false
set_option maxRecDepth 100000
/-! A text of one byte over and over. -/
theorem litW {c:Int} (h:0≤c∧c<256):wid (tkP mL mD ⟨c,0,0⟩)≤9:=by
 have:(List.range 256).all (fun i=>decide (mL.getD i 0≤9))=true:=by kernel_rfl
 have:=of_decide_eq_true (List.all_eq_true.1 this c.toNat (List.mem_range.2 (by omega)))
 have e:wid (tkP mL mD ⟨c,0,0⟩)=mL.getD c.toNat 0:=by
  unfold tkP
  rw [if_pos rfl]
  simp [wid,syP]
 omega
theorem tks_cons (m d:List Nat) (t:T_Tok) (l:List T_Tok):wid (tksP m d (t::l))=wid (tkP m d t)+wid (tksP m d l):=by
 rw [← wid_app]; rfl
theorem wid_nil (m d:List Nat):wid (tksP m d [])=0:=rfl
theorem len_mono {x y:T_shrink_writer} {p q:List (Nat×Nat)} (hx:WP x p) (hy:WP y q) (h:wid p≤wid q):¬ ((y.b.length:Nat):Int)<((x.b.length:Nat):Int):=by
 have h1:=hx.good.len
 have h2:=hy.good.len
 omega
end Go.Abs.Sh

namespace Go.Abs.Sh
set_option linter.unusedVariables false
set_option linter.unusedSimpArgs false
set_option maxRecDepth 100000
/-! A text twice over. -/
theorem cm_app {b:List Int} {p at_:Nat} (hp:p≤at_) (h:at_≤b.length) (e:List Int):cmL b p at_=min (cmL (b++e) p at_) (b.length-at_):=by
 have l1:=cm_le b (p:=p) (at_:=at_)
 have l2:=cm_le (b++e) (p:=p) (at_:=at_)
 have hl:(b++e).length=b.length+e.length:=List.length_append
 have g1:=cm_ge (b:=b++e) (p:=p) (at_:=at_) (k:=cmL b p at_) l1.1 hp (by omega) fun j hj=>by
  rw [List.getElem?_append_left (by omega),List.getElem?_append_left (by omega)]
  exact cm_get hj
 have g2:=cm_ge (b:=b) (p:=p) (at_:=at_) (k:=min (cmL (b++e) p at_) (b.length-at_)) (by omega) hp (by omega) fun j hj=>by
  have:=cm_get (b:=b++e) (p:=p) (at_:=at_) (k:=j) (by omega)
  rw [List.getElem?_append_left (by omega),List.getElem?_append_left (by omega)] at this
  exact this
 omega
theorem bestN_app {b e:List Int} {at_:Nat} (h:at_≤b.length):∀ k,k≤at_→(bestN (b++e) at_ k).1≤b.length-at_→bestN b at_ k=bestN (b++e) at_ k
 | 0,_,_=>rfl
 | k+1,hk,hle=>by
  have hg:=bestN_ge (b++e) at_ (k+1) (k+1) (by omega) (by omega)
  have hm:(bestN (b++e) at_ k).1≤(bestN (b++e) at_ (k+1)).1:=by
   show _≤(upd1 (bestN (b++e) at_ k) (k+1) (cmL (b++e) (at_-(k+1)) at_)).1
   unfold upd1
   split
   ·rename_i h1; exact Nat.le_of_lt h1
   ·exact Nat.le_refl _
  have ih:=bestN_app (e:=e) h k (by omega) (by omega)
  have hc:=cm_app (p:=at_-(k+1)) (by omega) h e
  show upd1 (bestN b at_ k) (k+1) (cmL b (at_-(k+1)) at_)=upd1 (bestN (b++e) at_ k) (k+1) (cmL (b++e) (at_-(k+1)) at_)
  rw [ih,hc,Nat.min_eq_left (by omega)]
theorem bestN_over {b e:List Int} {at_:Nat} (h:at_≤b.length) {k:Nat} (hk:k≤at_) (hlt:b.length-at_<(bestN (b++e) at_ k).1):(bestN b at_ k).1=b.length-at_:=by
 have h1:=bestN_le b at_ k
 rcases bestN_is (b++e) at_ k with h2 | ⟨h2,h3,_⟩
 ·rw [h2] at hlt; simp at hlt
 ·have h4:=(bestN_le (b++e) at_ k).2.2
  have hg:=bestN_ge b at_ k (bestN (b++e) at_ k).2 h2 h4
  rw [cm_app (p:=at_-(bestN (b++e) at_ k).2) (by omega) h e,← h3] at hg
  omega
theorem toks_lit {b:List Int} {k at_:Nat} (h:at_<b.length) (e:bestS b at_=(0,0)):toks b (k+1) at_=⟨b.getD at_ 0,0,0⟩::toks b k (at_+1):=by
 conv=>lhs; unfold toks
 rw [if_pos h,e,if_pos rfl]
theorem toks_mat {b:List Int} {k at_:Nat} (h:at_<b.length) (e:(bestS b at_).1≠0):toks b (k+1) at_=⟨0,((bestS b at_).1:Int),((bestS b at_).2:Int)⟩::toks b k (at_+(bestS b at_).1):=by
 conv=>lhs; unfold toks
 rw [if_pos h,if_neg e]
theorem mW_all:(List.range 29).all (fun i=>decide (mL.getD (257+i) 0≤8))=true:=by kernel_rfl
theorem dW_all:(List.range 30).all (fun i=>decide (mD.getD i 0≤5))=true:=by kernel_rfl
theorem matW {L D:Nat} (h1:3≤L) (h2:L≤258) (h3:1≤D) (h4:D≤2048):wid (tkP mL mD ⟨0,(L:Int),(D:Int)⟩)≤31:=by
 obtain ⟨_,l2,l3,l4,_⟩:=ln_ok h1 h2
 obtain ⟨_,d2,d3,_⟩:=ds_ok h3 h4
 have a:=of_decide_eq_true (List.all_eq_true.1 mW_all ((lnN L).1-257) (List.mem_range.2 (by omega)))
 have b:=of_decide_eq_true (List.all_eq_true.1 dW_all (dsN D).1 (List.mem_range.2 (by omega)))
 rw [show 257+((lnN L).1-257)=(lnN L).1 by omega] at a
 unfold tkP
 rw [if_neg (by show ¬ ((L:Nat):Int)=0; omega)]
 simp only [Int.toNat_natCast,wid,syP,List.map_cons,List.map_nil,List.sum_cons,List.sum_nil]
 omega
theorem twice_best {b:List Int} {at_:Nat} (h1:b.length≤at_) (h2:at_<b.length+b.length) (hn:b.length≤2048):min 258 (b.length+b.length-at_)≤(bestN (b++b) at_ (min at_ 2048)).1:=by
 have hl:(b++b).length=b.length+b.length:=List.length_append
 have hg:=bestN_ge (b++b) at_ (min at_ 2048) b.length (by omega) (by omega)
 have hc:=cm_ge (b:=b++b) (p:=at_-b.length) (at_:=at_) (k:=min 258 (b.length+b.length-at_)) (by omega) (by omega) (by omega) fun j hj=>by
  rw [List.getElem?_append_left (by omega),List.getElem?_append_right (by omega),show at_+j-b.length=at_-b.length+j by omega]
 omega
theorem second_wid {b:List Int} (hb:∀ n∈b,0≤n∧n<256) (hn:b.length≤2048):∀ (k at_:Nat),b.length≤at_→at_≤b.length+b.length →
  wid (tksP mL mD (toks (b++b) k at_))≤31 * ((b.length+b.length-at_+257) / 258)+(if b.length+b.length-at_<3 then 9 * (b.length+b.length-at_) else 18)
 | 0,at_,_,_=>by rw [show toks (b++b) 0 at_=[] from rfl,wid_nil]; omega
 | k+1,at_,h1,h2=>by
  have hl:(b++b).length=b.length+b.length:=List.length_append
  by_cases hlt:at_<(b++b).length
  ·have ht:=twice_best h1 (by omega) hn
   have hle:=(bestN_le (b++b) at_ (min at_ 2048)).2.1
   have hcs:=bestS_cases (b++b) at_
   by_cases h3:b.length+b.length-at_<3
   ·have hz:bestS (b++b) at_=(0,0):=by
     unfold bestS clp
     rw [if_pos (by omega)]
    rw [toks_lit hlt hz,tks_cons,if_pos h3]
    have ih:=second_wid hb hn k (at_+1) (by omega) (by omega)
    rw [if_pos (by omega)] at ih
    have hx:0≤(b++b).getD at_ 0∧(b++b).getD at_ 0<256:=by
     rw [List.getD_eq_getElem?_getD,List.getElem?_eq_getElem hlt,Option.getD_some]
     rcases List.mem_append.1 (List.getElem_mem hlt) with h | h
     ·exact hb _ h
     ·exact hb _ h
    have:=litW hx
    have hd:(b.length+b.length-(at_+1)+257) / 258≤(b.length+b.length-at_+257) / 258:=Nat.div_le_div_right (by omega)
    omega
   ·rw [if_neg h3]
    rcases hcs with hz | ⟨c1,c2,c3,c4,c5,_⟩
    ·unfold bestS clp at hz
     split at hz
     ·omega
     ·rw [hz] at ht; simp at ht; omega
    ·have hbs:(bestS (b++b) at_).1=min 258 (b.length+b.length-at_):=by
      have:(bestS (b++b) at_).1=(bestN (b++b) at_ (min at_ 2048)).1:=by
       unfold bestS clp at c1 ⊢
       split
       ·rename_i h; rw [if_pos h] at c1; simp at c1
       ·rfl
      omega
     rw [toks_mat hlt (by omega),tks_cons]
     have hw:=matW c1 c2 c4 (by omega:(bestS (b++b) at_).2≤2048)
     have ih:=second_wid hb hn k (at_+(bestS (b++b) at_).1) (by omega) (by omega)
     by_cases h258:258≤b.length+b.length-at_
     ·rw [show (b.length+b.length-at_+257) / 258=(b.length+b.length-(at_+(bestS (b++b) at_).1)+257) / 258+1 by omega]
      split at ih <;> omega
     ·rw [show b.length+b.length-(at_+(bestS (b++b) at_).1)=0 by omega] at ih
      simp at ih
      have:1≤(b.length+b.length-at_+257) / 258:=by omega
      omega
  ·rw [toks_end (by omega),wid_nil]; omega
theorem first_wid {b:List Int} (hb:∀ n∈b,0≤n∧n<256) (hn:b.length≤2048):∀ (k k' at_:Nat),at_≤b.length→b.length-at_≤k → 
  wid (tksP mL mD (toks (b++b) k' at_))≤wid (tksP mL mD (toks b k at_))+(31+31 * ((b.length+257) / 258)+18)
 | k,0,at_,h1,h2=>by rw [show toks (b++b) 0 at_=[] from rfl,wid_nil]; omega
 | k,k'+1,at_,h1,h2=>by
  have hl:(b++b).length=b.length+b.length:=List.length_append
  by_cases he:at_=b.length
  ·have:=second_wid hb hn (k'+1) at_ (by omega) (by omega)
   rw [show b.length+b.length-at_=b.length by omega] at this
   split at this <;> omega
  ·obtain ⟨k,rfl⟩:∃ j,k=j+1:=⟨k-1,by omega⟩
   have hmm:min at_ 2048≤at_:=by omega
   have hgd:(b++b).getD at_ 0=b.getD at_ 0:=by
    rw [List.getD_eq_getElem?_getD,List.getElem?_append_left (by omega),List.getD_eq_getElem?_getD]
   have lit:bestS (b++b) at_=(0,0)→bestS b at_=(0,0)→wid (tksP mL mD (toks (b++b) (k'+1) at_))≤wid (tksP mL mD (toks b (k+1) at_))+(31+31 * ((b.length+257) / 258)+18):=fun e1 e2=>by
    have ih:=first_wid hb hn k k' (at_+1) (by omega) (by omega)
    rw [toks_lit (by omega) e1,toks_lit (by omega) e2,hgd,tks_cons,tks_cons]
    omega
   by_cases ho:(bestN (b++b) at_ (min at_ 2048)).1≤b.length-at_
   ·have e:bestS b at_=bestS (b++b) at_:=by
     unfold bestS
     rw [bestN_app h1 _ hmm ho]
    rcases bestS_cases b at_ with hz | ⟨c1,c2,c3,c4,c5,_⟩
    ·exact lit (e ▸ hz) hz
    ·have ih:=first_wid hb hn k k' (at_+(bestS b at_).1) (by omega) (by omega)
     rw [toks_mat (b:=b++b) (by omega) (by rw [← e]; omega),toks_mat (b:=b) (by omega) (by omega),← e,tks_cons,tks_cons]
     omega
   ·have hov:=bestN_over (e:=b) h1 hmm (by omega)
    by_cases h3:(bestN (b++b) at_ (min at_ 2048)).1<3
    ·refine lit ?_ ?_
     ·unfold bestS clp
      rw [if_pos h3]
     ·unfold bestS clp
      rw [if_pos (by omega)]
    ·have e:bestS (b++b) at_=bestN (b++b) at_ (min at_ 2048):=by
      unfold bestS clp
      rw [if_neg h3]
     rcases bestS_cases (b++b) at_ with hz | ⟨c1,c2,c3,c4,c5,_⟩
     ·rw [← e,hz] at h3; simp at h3
     ·have hw:=matW c1 c2 c4 (by omega:(bestS (b++b) at_).2≤2048)
      have hs:=second_wid hb hn k' (at_+(bestS (b++b) at_).1) (by rw [e] at *; omega) (by omega)
      rw [toks_mat (b:=b++b) (by omega) (by omega),tks_cons]
      have hd:(b.length+b.length-(at_+(bestS (b++b) at_).1)+257) / 258≤(b.length+257) / 258:=Nat.div_le_div_right (by rw [e] at *; omega)
      split at hs <;> omega
end Go.Abs.Sh

namespace Go.Abs.Sh
set_option linter.unusedVariables false
set_option linter.unusedSimpArgs false
set_option maxRecDepth 100000
theorem twice_wid {b:List Int} (hb:∀ n∈b,0≤n∧n<256) (hn:b.length≤2048):wid (fxP (toksS (b++b)))≤wid (fxP (toksS b))+(31 * (b.length / 258)+80):=by
 have h:=first_wid hb hn b.length (b++b).length 0 (by omega) (by omega)
 have h4:wid [(1,1),(1,2)]=3:=rfl
 have h5:wid [syP mL 256]=7:=by kernel_rfl
 unfold fxP toksS
 rw [wid_app,wid_app,wid_app,wid_app,h4,h5]
 have:(b.length+257) / 258≤b.length / 258+1:=by omega
 omega
theorem shrinkGains_true (b:List Int) (hw:wfL (wfI .u8) b):wherrylaw06_ShrinkGains b=some true:=by
 have hb:=bys hw
 unfold wherrylaw06_ShrinkGains
 by_cases h6:600<b.length
 ·exact cnd_t (decide_eq_true (by omega)) rfl
 have hl:(b++b).length=b.length+b.length:=List.length_append
 have hbb:∀ n∈b++b,0≤n∧n<256:=fun n hn=>(List.mem_append.1 hn).elim (hb n) (hb n)
 have t1:wherrykeep_Twin b=some b:=by
  unfold wherrykeep_Twin
  exact bnd (app_of (l:=([]:List Int)) (m:=b) (by simp; omega) (by simp; omega)) rfl
 have t2:appO 1 b b=some (b++b):=app_of (by omega) (by omega)
 obtain ⟨f,f1,_,f3⟩:=fixed_is hb (by omega)
 obtain ⟨g,g1,_,g3⟩:=fixed_is hbb (by omega)
 obtain ⟨w,ps,w1,w2,_,_,w5,_⟩:=shrink_is hbb (by omega)
 obtain ⟨x,x1,_,x3⟩:=grow_shrink hbb (by omega)
 have hxw:x.b=w.b:=by rw [x1] at w1; exact (Prod.mk.inj (Option.some.inj w1)).1
 rw [hxw] at x1 x3
 have l1:=f3.good.len
 have l2:=g3.good.len
 have hm:=len_mono w2 g3 w5
 have htw:=twice_wid hb (by omega)
 have hq:quoO .i64 (b.length:Int) 258=some ((b.length / 258:Nat):Int):=quo_nat b.length 258 (by omega) (by omega)
 have e1:IntKind.i64.wrap (((b.length / 258:Nat):Int)+3)=((b.length / 258+3:Nat):Int):=by rw [wrap_i64 (by omega) (by omega)]; omega
 have e2:IntKind.i64.wrap (4 * ((b.length / 258+3:Nat):Int))=((4 * (b.length / 258+3):Nat):Int):=by rw [wrap_i64 (by omega) (by omega)]; omega
 have hfl:f.b.length≤10000:=fx_len hb (by omega) f3
 have e3:IntKind.i64.wrap (((f.b.length:Nat):Int)+((4 * (b.length / 258+3):Nat):Int))=((f.b.length+4 * (b.length / 258+3):Nat):Int):=by rw [wrap_i64 (by omega) (by omega)]; omega
 have kb:=keepB (a:=b++b) (by omega)
 refine cnd_f (decide_eq_false (by omega)) (bnd t1 (bnd t2 (bnd f1 (bnd g1 (bnd x1 (bnd x3 (bndL (s:=true) ?_ rfl)))))))
 exact cnd_t rfl (cnd_t rfl (cnd_t rfl (cnd_t rfl (bnd hq (bnd (congrArg some e1) (bnd (congrArg some e2) (bnd (congrArg some e3) (cnd_t (decide_eq_true (by show ((g.b.length:Nat):Int)≤_; omega)) (cnd_t (decide_eq_true (by show ((w.b.length:Nat):Int)≤((g.b.length:Nat):Int); omega)) (bnd kb (cnd_t rfl (bnd wakes6 rfl))))))))))))
end Go.Abs.Sh
