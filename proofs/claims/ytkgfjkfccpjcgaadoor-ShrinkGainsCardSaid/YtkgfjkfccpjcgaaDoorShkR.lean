import Derived.Test.YtkgfjkfccpjcgaaDoorLoopM
import Derived.Test.YtkgfjkfccpjcgaaDoorKeepM
namespace Go.Abs.Sh
set_option linter.unusedVariables false
set_option linter.unusedSimpArgs false
set_option maxRecDepth 10000
def rsS (lengths:List Int) (at_ v2:Int):((Int))→Option ((Int)⊕((Int)⊕(Int×Int×Int))):=(fun (s19:Int) =>
 bindS (S:=Bool) (A:=((Int)⊕((Int)⊕(Int×Int×Int))))
  ((some (IntKind.i64.wrap (at_+s19))).bind fun v3 =>
  cond ((decide (v3<(lengths.length:Int))))
   ((some (IntKind.i64.wrap (at_+s19))).bind fun v4 =>
   (ixO v4 lengths.length).bind fun v5 =>
   (getO lengths v5).bind fun v6 =>
   some (.inl (v6==v2)))
   (some (.inl false)))
  (fun (s32:Bool) =>
   cond (s32)
    ((some (IntKind.i64.wrap (s19+1))).bind fun v12 =>
    some (.inl v12))
    (some (.inr (.inl s19)))) some)
def rw0S (lengths:List Int):((Int))→Option ((Int)⊕((Unit)⊕((List Int)×(List Int)×Int))):=(fun (s18:Int) =>
  cond ((decide (s18<(lengths.length:Int))))
   ((ixO s18 lengths.length).bind fun v3 =>
   (getO lengths v3).bind fun v4 =>
   bindS (S:=Bool) (A:=((Int)⊕((Unit)⊕((List Int)×(List Int)×Int))))
    (cond ((decide (v4<0)))
     (some (.inl true))
     (some (.inl ((decide (15<v4))))))
    (fun (s32:Bool) =>
     cond (s32)
      (some (.inr (.inr (([],[],1)))))
      ((some (IntKind.i64.wrap (s18+1))).bind fun v10 =>
      some (.inl v10))) some)
   (some (.inr (.inl ()))))
def rw1S (lengths:List Int):(((List Int)×(List Int)×Int))→Option (((List Int)×(List Int)×Int)⊕(((List Int)×(List Int))⊕((List Int)×(List Int)×Int))):=(fun ((s46,s47,s48):(List Int)×(List Int)×Int) =>
    cond ((decide (s48<(lengths.length:Int))))
     ((shrink_rowStep lengths s48).bind fun v38 =>
     (appO 8 s46 [v38.1]).bind fun v39 =>
     (appO 8 s47 [v38.2.1]).bind fun v40 =>
     (some (IntKind.i64.wrap (s48+v38.2.2))).bind fun v41 =>
     some (.inl (v39,v40,v41)))
     (some (.inr (.inl (s46,s47)))))
def rn (x:Int):List Int→Nat
 | []=>0
 | y::l=>if y=x then rn x l+1 else 0
theorem rn_le (x:Int):∀ l,rn x l≤l.length
 | []=>Nat.le_refl _
 | y::l=>by
  unfold rn
  have:=rn_le x l
  split
  ·simp; omega
  ·simp
theorem rn_at (x:Int):∀ (l:List Int) (j:Nat),j<rn x l→l[j]? = some x
 | [],j,h=>by simp [rn] at h
 | y::l,j,h=>by
  unfold rn at h
  split at h
  ·rename_i e
   subst e
   cases j with
   | zero=>simp
   | succ j=>simpa using rn_at y l j (by omega)
  ·omega
theorem rn_stop (x:Int):∀ (l:List Int),rn x l<l.length→l[rn x l]? ≠ some x
 | [],h=>by simp at h
 | y::l,h=>by
  unfold rn at h ⊢
  split
  ·rename_i e
   rw [if_pos e] at h
   simpa using rn_stop x l (by simpa using h)
  ·rename_i e
   simpa using e
def runL (l:List Int) (i:Nat):Nat:=rn (l.getD i 0) (l.drop i)
theorem getDa {l:List Int} {i:Nat} (h:i<l.length):l.getD i 0=l[i]:=by simp [List.getD_eq_getElem?_getD,h]
theorem run_pos {l:List Int} {i:Nat} (h:i<l.length):1≤runL l i:=by
 unfold runL
 rw [List.drop_eq_getElem_cons h,getDa h]
 unfold rn
 rw [if_pos rfl]
 omega
theorem run_le (l:List Int) (i:Nat):runL l i≤l.length-i:=by
 have:=rn_le (l.getD i 0) (l.drop i)
 rwa [List.length_drop] at this
theorem run_at {l:List Int} {i j:Nat} (h:j<runL l i):l[i+j]? = some (l.getD i 0):=by
 have:=rn_at (l.getD i 0) (l.drop i) j h
 rwa [List.getElem?_drop] at this
theorem run_stop {l:List Int} {i:Nat} (h:i+runL l i<l.length):l[i+runL l i]? ≠ some (l.getD i 0):=by
 have:=rn_stop (l.getD i 0) (l.drop i) (by rw [List.length_drop]; unfold runL at h; omega)
 rwa [List.getElem?_drop] at this
def stpR (x:Int) (pv:Bool) (r:Nat):Int×Nat×Nat :=
 if x=0∧11≤r then (18,min r 138-11,min r 138) else if x=0∧3≤r then (17,r-3,r) else if x≠0∧3≤r∧pv=true then (16,min r 6-3,min r 6) else (x,0,1)
def prvR (l:List Int) (i:Nat):Bool:=decide (0<i∧l.getD (i-1) 0=l.getD i 0)
def stpL (l:List Int) (i:Nat):Int×Nat×Nat:=stpR (l.getD i 0) (prvR l i) (runL l i)
def rowF (l:List Int):Nat→Nat→List (Int×Nat)
 | 0,_=>[]
 | k+1,i=>if i<l.length then ((stpL l i).1,(stpL l i).2.1)::rowF l k (i+(stpL l i).2.2) else []
theorem stp_cnt {l:List Int} {i:Nat} (h:i<l.length):1≤(stpL l i).2.2∧(stpL l i).2.2≤runL l i∧(stpL l i).2.2≤138∧(stpL l i).2.1≤127:=by
 have:=run_pos h
 unfold stpL stpR
 split
 ·simp; omega
 ·split
  ·simp; omega
  ·split
   ·simp; omega
   ·simp; omega
theorem at_of {l:List Int} {k:Nat} {x:Int} (h:l[k]? = some x):∃ hk:k<l.length,l[k]=x:=by
 rw [List.getElem?_eq_some_iff] at h; exact h
theorem wrA (a b:Nat) (h:a+b<4611686018427387904):IntKind.i64.wrap ((a:Int)+(b:Int))=((a+b:Nat):Int):=by rw [wrap_i64 (by omega) (by omega)]; omega
theorem wrS {a b:Nat} (h:b≤a) (ha:a<4611686018427387904):IntKind.i64.wrap ((a:Int)-(b:Int))=((a-b:Nat):Int):=by rw [wrap_i64 (by omega) (by omega)]; omega
theorem rs_loop {l:List Int} (hl:l.length≤400) {i:Nat} (hi:i<l.length):loopF (rsS l (i:Int) (l.getD i 0)) BIG 1=some (.inl ((runL l i:Nat):Int)):=by
 have hp:=run_pos hi
 have hle:=run_le l i
 refine loop_from (fun k=>((k+1:Nat):Int)) (runL l i-1) BIG rfl (by simp only [BIG]; omega) (fun k hk => ?_) ?_
 ·obtain ⟨h1,h2⟩:=at_of (run_at (l:=l) (i:=i) (j:=k+1) (by omega))
  exact bndL (bnd (congrArg some (wrA i (k+1) (by omega))) (cnd_t (decide_eq_true (by omega)) (bnd (congrArg some (wrA i (k+1) (by omega))) (bnd (ixO_of h1) (bnd (getO_of h1) rfl))))) (cnd_t (by rw [h2]; exact beq_self_eq_true _) (bnd (congrArg some (wrap_succ (n:=k+1) (by omega))) rfl))
 ·show rsS l (i:Int) (l.getD i 0) ((runL l i-1+1:Nat):Int)=_
  rw [show runL l i-1+1=runL l i by omega]
  by_cases hk:i+runL l i<l.length
  ·have hs:=run_stop hk
   rw [List.getElem?_eq_getElem hk] at hs
   exact bndL (bnd (congrArg some (wrA i (runL l i) (by omega))) (cnd_t (decide_eq_true (by omega)) (bnd (congrArg some (wrA i (runL l i) (by omega))) (bnd (ixO_of hk) (bnd (getO_of hk) rfl))))) (cnd_f (beq_eq_false_iff_ne.2 fun e=>hs (by rw [e])) rfl)
  ·exact bndL (bnd (congrArg some (wrA i (runL l i) (by omega))) (cnd_f (decide_eq_false (by omega)) rfl)) (cnd_f rfl rfl)
theorem inl_of {A B:Type} {a b:A} (h:a=b):(some (.inl a):Option (A⊕B))=some (.inl b):=by rw [h]
theorem step_eq {l:List Int} (hl:l.length≤400) {i:Nat} (hi:i<l.length):shrink_rowStep l (i:Int)=some ((stpL l i).1,(((stpL l i).2.1:Nat):Int),(((stpL l i).2.2:Nat):Int)):=by
 have hp:=run_pos hi
 have hle:=run_le l i
 have hg:=getO_of hi
 rw [← getDa hi] at hg
 unfold shrink_rowStep
 refine bnd (ixO_of hi) (bnd hg (bndL (rs_loop hl hi) ?_))
 simp only [stpL]
 generalize hx:l.getD i 0=x at *
 generalize hr:runL l i=r at *
 unfold stpR
 by_cases h1:x=0∧11≤r
 ·rw [if_pos h1]
  obtain ⟨rfl,h1⟩:=h1
  have e1:(if (138:Int)<(r:Int) then (138:Int) else (r:Int))=((min r 138:Nat):Int):=by
   by_cases h:138<r
   ·rw [if_pos (by omega)]; omega
   ·rw [if_neg (by omega)]; omega
  exact bndL (cnd_t rfl rfl) (cnd_t (decide_eq_true (by omega)) (bnd (congrArg some e1) (bnd (congrArg some (wrS (a:=min r 138) (b:=11) (by omega) (by omega))) rfl)))
 ·rw [if_neg h1]
  refine bndL (s:=false) ?_ (cnd_f rfl ?_)
  ·by_cases hx0:x=0
   ·exact cnd_t (by rw [hx0]; rfl) (inl_of (decide_eq_false (fun h=>h1 ⟨hx0,by omega⟩)))
   ·exact cnd_f (beq_eq_false_iff_ne.2 hx0) rfl
  by_cases h2:x=0∧3≤r
  ·rw [if_pos h2]
   obtain ⟨rfl,h2⟩:=h2
   exact bndL (cnd_t rfl rfl) (cnd_t (decide_eq_true (by omega)) (bnd (congrArg some (wrS (a:=r) (b:=3) (by omega) (by omega))) rfl))
  ·rw [if_neg h2]
   refine bndL (s:=false) ?_ (cnd_f rfl ?_)
   ·by_cases hx0:x=0
    ·exact cnd_t (by rw [hx0]; rfl) (inl_of (decide_eq_false (fun h=>h2 ⟨hx0,by omega⟩)))
    ·exact cnd_f (beq_eq_false_iff_ne.2 hx0) rfl
   by_cases h3:x≠0∧3≤r∧prvR l i=true
   ·rw [if_pos h3]
    obtain ⟨h31,h32,h33⟩:=h3
    have hpv:=of_decide_eq_true h33
    have hi1:i-1<l.length:=by omega
    have hg1:=getO_of hi1
    rw [← getDa hi1,hpv.2,hx] at hg1
    have e1:(if (6:Int)<(r:Int) then (6:Int) else (r:Int))=((min r 6:Nat):Int):=by
     by_cases h:6<r
     ·rw [if_pos (by omega)]; omega
     ·rw [if_neg (by omega)]; omega
    exact bndL (cnd_t (bne_iff_ne.2 h31) (cnd_t (decide_eq_true (by omega)) (cnd_t (decide_eq_true (by omega)) (bnd (congrArg some (wrS (a:=i) (b:=1) (by omega) (by omega))) (bnd (ixO_of hi1) (bnd hg1 rfl)))))) (cnd_t (beq_self_eq_true _) (bnd (congrArg some e1) (bnd (congrArg some (wrS (a:=min r 6) (b:=3) (by omega) (by omega))) rfl)))
   ·rw [if_neg h3]
    refine bndL (s:=false) ?_ (cnd_f rfl rfl)
    by_cases hx0:x=0
    ·exact cnd_f (by rw [hx0]; rfl) rfl
    ·by_cases hr3:3≤r
     ·by_cases hi0:0<i
      ·have hi1:i-1<l.length:=by omega
       have hg1:=getO_of hi1
       rw [← getDa hi1] at hg1
       exact cnd_t (bne_iff_ne.2 hx0) (cnd_t (decide_eq_true (by omega)) (cnd_t (decide_eq_true (by omega)) (bnd (congrArg some (wrS (a:=i) (b:=1) (by omega) (by omega))) (bnd (ixO_of hi1) (bnd hg1 (inl_of (beq_eq_false_iff_ne.2 fun e=>h3 ⟨hx0,hr3,decide_eq_true ⟨hi0,by rw [e,hx]⟩⟩)))))))
      ·exact cnd_t (bne_iff_ne.2 hx0) (cnd_t (decide_eq_true (by omega)) (cnd_f (decide_eq_false (by omega)) rfl))
     ·exact cnd_t (bne_iff_ne.2 hx0) (cnd_f (decide_eq_false (by omega)) rfl)
def okR (l:List Int):Prop:=l.length≤320∧∀ n∈l,0≤n∧n≤15
instance okRDec (l:List Int):Decidable (okR l):=by unfold okR; infer_instance
theorem rowF_len (l:List Int):∀ (k i:Nat),(rowF l k i).length≤k
 | 0,_=>Nat.le_refl _
 | k+1,i=>by
  unfold rowF
  split
  ·simp only [List.length_cons]
   have:=rowF_len l k (i+(stpL l i).2.2)
   omega
  ·simp
def sy (p:List (Int×Nat)):List Int:=p.map fun x=>x.1
def mo (p:List (Int×Nat)):List Int:=p.map fun x=>((x.2:Nat):Int)
theorem rw1_loop {l:List Int} (hl:l.length≤400):∀ (k i fuel:Nat) (p:List (Int×Nat)),i≤l.length→l.length-i≤k→k<fuel→p.length≤i→loopF (rw1S l) fuel (sy p,mo p,(i:Int))=some (.inl (sy (p++rowF l k i),mo (p++rowF l k i)))
 | k,i,fuel,p,hi,hk,hf,hp=>by
  obtain ⟨fu,rfl⟩:∃ fu,fuel=fu+1:=⟨fuel-1,by omega⟩
  by_cases hlt:i<l.length
  ·obtain ⟨k,rfl⟩:∃ k',k=k'+1:=⟨k-1,by omega⟩
   obtain ⟨c1,c2,c3,c4⟩:=stp_cnt hlt
   have hle:=run_le l i
   have ih:=rw1_loop hl k (i+(stpL l i).2.2) fu (p++[((stpL l i).1,(stpL l i).2.1)]) (by omega) (by omega) (by omega) (by simp; omega)
   have e0:p++rowF l (k+1) i=(p++[((stpL l i).1,(stpL l i).2.1)])++rowF l k (i+(stpL l i).2.2):=by
    rw [rowF,if_pos hlt]; simp
   rw [e0]
   refine (loop_next (cnd_t (decide_eq_true (by omega)) (bnd (step_eq hl hlt) (bnd (app_of (m:=[(stpL l i).1]) ?_ ?_) (bnd (app_of (m:=[(((stpL l i).2.1:Nat):Int)]) ?_ ?_) (bnd (congrArg some (wrA i (stpL l i).2.2 (by omega))) rfl)))))).trans ?_
   ·simp [sy]; omega
   ·simp [sy]; omega
   ·simp [mo]; omega
   ·simp [mo]; omega
   ·rw [← ih]
    simp [sy,mo]
  ·have e:rowF l k i=[]:=by
    cases k with
    | zero=>rfl
    | succ k=>rw [rowF,if_neg hlt]
   rw [e,List.append_nil]
   exact loop_exit (cnd_f (decide_eq_false (by omega)) rfl)
def rowL (l:List Int):List (Int×Nat):=rowF l l.length 0
theorem row_eq {l:List Int} (hl:l.length≤400):shrink_Row l=some (if okR l then (sy (rowL l),mo (rowL l),0) else ([],[],1)):=by
 unfold shrink_Row
 by_cases h3:l.length≤320
 ·refine cnd_f (decide_eq_false (by omega)) ?_
  have hv:loopF (rw0S l) BIG 0=some (if ∀ i,i<l.length→decide (0≤l.getD i 0∧l.getD i 0≤15)=true then .inl () else .inr ([],[],1)):=by
   refine loop_all (fun i=>decide (0≤l.getD i 0∧l.getD i 0≤15)) l.length _ (by simp only [BIG]; omega) (fun i hi hp => ?_) (fun i hi hp => ?_) (cnd_f (decide_eq_false (by omega)) rfl)
   ·have hp:=of_decide_eq_true hp
    have hg:=getO_of hi
    rw [← getDa hi] at hg
    exact cnd_t (decide_eq_true (by omega)) (bnd (ixO_of hi) (bnd hg (bndL (cnd_f (decide_eq_false (by omega)) (inl_of (decide_eq_false (by omega)))) (cnd_f rfl (bnd (congrArg some (wrap_succ (n:=i) (by omega))) rfl)))))
   ·have hp:=of_decide_eq_false hp
    have hg:=getO_of hi
    rw [← getDa hi] at hg
    refine cnd_t (decide_eq_true (by omega)) (bnd (ixO_of hi) (bnd hg (bndL (s:=true) ?_ (cnd_t rfl rfl))))
    by_cases h0:l.getD i 0<0
    ·exact cnd_t (decide_eq_true h0) rfl
    ·exact cnd_f (decide_eq_false h0) (inl_of (decide_eq_true (by omega)))
  have hq:(∀ i,i<l.length→decide (0≤l.getD i 0∧l.getD i 0≤15)=true)↔okR l:=by
   constructor
   ·intro h
    refine ⟨h3,fun n hn => ?_⟩
    obtain ⟨i,hi,rfl⟩:=List.getElem_of_mem hn
    have:=of_decide_eq_true (h i hi)
    rwa [getDa hi] at this
   ·intro h i hi
    rw [getDa hi]
    exact decide_eq_true (h.2 _ (List.getElem_mem hi))
  by_cases ho:okR l
  ·rw [if_pos (hq.2 ho)] at hv
   rw [if_pos ho]
   refine bndL hv ?_
   have hlp:=rw1_loop hl l.length 0 BIG [] (by omega) (by omega) (by simp only [BIG]; omega) (by simp)
   exact bndL hlp rfl
  ·rw [if_neg (fun h=>ho (hq.1 h))] at hv
   rw [if_neg ho]
   exact bndR hv rfl
 ·rw [if_neg (fun h=>h3 h.1)]
  exact cnd_t (decide_eq_true (by omega)) rfl
end Go.Abs.Sh
