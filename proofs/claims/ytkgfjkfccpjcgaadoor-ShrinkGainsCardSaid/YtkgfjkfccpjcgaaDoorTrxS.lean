import Derived.Test.YtkgfjkfccpjcgaaDoorLoopM
import Derived.Test.YtkgfjkfccpjcgaaDoorCanonM
import Derived.KernelRfl
namespace Go.Abs.Sh
set_option linter.unusedVariables false
set_option linter.unusedSimpArgs false
set_option maxRecDepth 10000
def okW (w:List Int):Prop:=w.length≤300∧∀ i,i<w.length→0≤w.getD i 0∧w.getD i 0≤1048576
theorem getD_at {l:List Int} {i:Nat} (h:i<l.length):l[i]=l.getD i 0:=by simp [h]
theorem getO_D {l:List Int} {i:Nat} (h:i<l.length):getO l i=some (l.getD i 0):=by simp [getO,h]
theorem validW_eq (w:List Int):(okW w→tree_validWeights w=some true)∧(¬ okW w→tree_validWeights w=some false):=by
 have main:w.length≤300→∀ b:Bool,(b=true↔∀ i,i<w.length→0≤w.getD i 0∧w.getD i 0≤1048576)→tree_validWeights w=some b:=by
  intro hl b hb
  unfold tree_validWeights
  refine cnd_f (decide_eq_false (by omega)) ?_
  have hgo:∀ i,i<w.length→decide (0≤w.getD i 0∧w.getD i 0≤1048576)=true→_:=fun i hi hp=>hp
  cases b with
  | true =>
   have h:=hb.1 rfl
   refine bndL (s:=()) ?_ rfl
   refine (loop_all (fun i=>decide (0≤w.getD i 0∧w.getD i 0≤1048576)) w.length false (by unfold BIG; omega) ?_ ?_ ?_).trans (by rw [if_pos (fun i hi=>decide_eq_true (h i hi))])
   ·intro i hi hp
    have hp:=of_decide_eq_true hp
    exact cnd_t (by simp; omega) (bnd (ixO_of hi) (bnd (getO_D hi) (bndL (s:=false) (cnd_f (decide_eq_false (by omega)) (by rw [decide_eq_false (by omega)])) (cnd_f rfl (bnd (x:=((i+1:Nat):Int)) (by rw [wrap_succ (by omega)]) rfl)))))
   ·intro i hi hp
    exact absurd (h i hi) (of_decide_eq_false hp)
   ·exact cnd_f (by simp) rfl
  | false =>
   refine bndR (a:=false) ?_ rfl
   refine (loop_all (fun i=>decide (0≤w.getD i 0∧w.getD i 0≤1048576)) w.length false (by unfold BIG; omega) ?_ ?_ ?_).trans (by rw [if_neg (fun h=>by have:=hb.2 (fun i hi=>of_decide_eq_true (h i hi)); cases this)])
   ·intro i hi hp
    have hp:=of_decide_eq_true hp
    exact cnd_t (by simp; omega) (bnd (ixO_of hi) (bnd (getO_D hi) (bndL (s:=false) (cnd_f (decide_eq_false (by omega)) (by rw [decide_eq_false (by omega)])) (cnd_f rfl (bnd (x:=((i+1:Nat):Int)) (by rw [wrap_succ (by omega)]) rfl)))))
   ·intro i hi hp
    have hp:=of_decide_eq_false hp
    refine cnd_t (by simp; omega) (bnd (ixO_of hi) (bnd (getO_D hi) (bndL (s:=true) ?_ (cnd_t rfl rfl))))
    by_cases h0:w.getD i 0<0
    ·exact cnd_t (decide_eq_true h0) rfl
    ·exact cnd_f (decide_eq_false h0) (by rw [decide_eq_true (by omega)])
   ·exact cnd_f (by simp) rfl
 by_cases hl:w.length≤300
 ·exact ⟨fun h=>main hl true ⟨fun _=>h.2,fun _=>rfl⟩,fun h=>main hl false ⟨fun e=>(by cases e),fun e=>absurd ⟨hl,e⟩ h⟩⟩
 ·refine ⟨fun h=>absurd h.1 hl,fun _ => ?_⟩
  unfold tree_validWeights
  exact cnd_t (decide_eq_true (by omega)) rfl
def posN (w:List Int):Nat→List Int
 | 0=>[]
 | n+1=>if 0<w.getD n 0 then posN w n++[(n:Int)] else posN w n
def pos (w:List Int):List Int:=posN w w.length
theorem posN_len (w:List Int):∀ n,(posN w n).length≤n
 | 0=>Nat.le_refl _
 | n+1=>by
  have:=posN_len w n
  rw [posN]
  split
  ·simp; omega
  ·omega
theorem posN_lt (w:List Int):∀ n x,x∈posN w n→0≤x∧x<(n:Int)∧0<w.getD x.toNat 0
 | 0,x,h=>by cases h
 | n+1,x,h=>by
  rw [posN] at h
  split at h
  ·rename_i hp
   rcases List.mem_append.1 h with h | h
   ·have:=posN_lt w n x h; omega
   ·obtain rfl:=List.mem_singleton.1 h
    refine ⟨by omega,by omega,by simpa using hp⟩
  ·have:=posN_lt w n x h; omega
theorem posN_mem (w:List Int):∀ n i,i<n→0<w.getD i 0→(i:Int)∈posN w n
 | 0,i,h,_=>by omega
 | n+1,i,h,hp=>by
  rw [posN]
  by_cases e:i=n
  ·subst e; rw [if_pos hp]; simp
  ·have:=posN_mem w n i (by omega) hp
   split
   ·exact List.mem_append_left _ this
   ·exact this
theorem posN_asc (w:List Int):∀ n,(posN w n).Pairwise (· < ·)
 | 0=>List.Pairwise.nil
 | n+1=>by
  rw [posN]
  split
  ·refine List.pairwise_append.2 ⟨posN_asc w n,by simp,fun a ha b hb => ?_⟩
   obtain rfl:=List.mem_singleton.1 hb
   exact (posN_lt w n a ha).2.1
  ·exact posN_asc w n
theorem positive_eq (w:List Int) (hl:w.length≤300):tree_positive w=some (pos w):=by
 unfold tree_positive
 refine bndL (s:=pos w) ?_ rfl
 refine loop_from (fun i=>(posN w i,(i:Int))) w.length BIG rfl (by unfold BIG; omega) (fun i hi => ?_) (cnd_f (by simp) rfl)
 refine cnd_t (by simp; omega) ?_
 by_cases hp:0<w.getD i 0
 ·have:=posN_len w i
  exact bndL (s:=posN w (i+1)) (bnd (ixO_of hi) (bnd (getO_D hi) (cnd_t (decide_eq_true hp) (bnd (app_of (by simp; omega) (by simp; omega)) (by rw [posN,if_pos hp]))))) (bnd (x:=((i+1:Nat):Int)) (by rw [wrap_succ (by omega)]) rfl)
 ·exact bndL (s:=posN w (i+1)) (bnd (ixO_of hi) (bnd (getO_D hi) (cnd_f (decide_eq_false hp) (by rw [posN,if_neg hp])))) (bnd (x:=((i+1:Nat):Int)) (by rw [wrap_succ (by omega)]) rfl)
def okL (w:List Int) (limit:Int):Prop:=(if (pos w).length≤19 then 5 else 9)≤limit∧limit≤15
theorem validL_eq (w:List Int) (limit:Int) (hl:w.length≤300):(okL w limit→tree_validLimit w limit=some true)∧(¬ okL w limit→tree_validLimit w limit=some false):=by
 have hb:∀ b:Bool,(b=true↔okL w limit)→tree_validLimit w limit=some b:=by
  intro b hb
  unfold tree_validLimit
  refine bndL (s:=if (pos w).length≤19 then 5 else 9) (bnd (positive_eq w hl) ?_) ?_
  ·by_cases h:(pos w).length≤19
   ·exact cnd_t (decide_eq_true (by omega)) (by rw [if_pos h])
   ·exact cnd_f (decide_eq_false (by omega)) (by rw [if_neg h])
  ·refine bndL (s:=b) ?_ rfl
   unfold okL at hb
   by_cases h1:(if (pos w).length≤19 then 5 else 9)≤limit
   ·refine cnd_t (decide_eq_true h1) ?_
    congr 2
    cases b with
    | true=>exact decide_eq_true (hb.1 rfl).2
    | false=>exact decide_eq_false fun h=>by have:=hb.2 ⟨h1,h⟩; cases this
   ·refine cnd_f (decide_eq_false h1) ?_
    cases b with
    | true=>exact absurd (hb.1 rfl).1 h1
    | false=>rfl
 exact ⟨fun h=>hb true ⟨fun _=>h,fun _=>rfl⟩,fun h=>hb false ⟨fun e=>(by cases e),fun e=>absurd e h⟩⟩
abbrev zw (W P:List Int):List T_tree_node:=List.zipWith T_tree_node.mk W P
theorem zw_len {W P:List Int} (h:W.length=P.length):(zw W P).length=W.length:=by simp [zw,h]
theorem zw_get {W P:List Int} (h:W.length=P.length) {k:Nat} (hk:k<W.length):getO (zw W P) k=some ⟨W.getD k 0,P.getD k 0⟩:=by
 simp [getO,zw,List.getElem?_zipWith,hk,show k<P.length by omega]
theorem zw_set {W P:List Int} (h:W.length=P.length) {k:Nat} (hk:k<W.length) (x:Int):(zw W P).set k ⟨W.getD k 0,x⟩=zw W (P.set k x):=by
 apply List.ext_getElem?
 intro j
 simp only [zw,List.getElem?_set,List.getElem?_zipWith,List.length_zipWith]
 by_cases e:k=j
 ·subst e
  simp [hk,show k<P.length by omega]
  omega
 ·simp [e]
theorem zw_app {W P:List Int} (h:W.length=P.length) (x y:Int):zw W P++[⟨x,y⟩]=zw (W++[x]) (P++[y]):=by
 simp [zw,List.zipWith_append h]
structure MS where
 W:List Int
 P:List Int
 lf:Nat
 mg:Nat
 C:List Nat
def lst (n:Nat) (W:List Int) (lf mg:Nat):Nat×Nat×Nat:=if lf<n∧(mg=W.length∨W.getD lf 0≤W.getD mg 0) then (lf,lf+1,mg) else (mg,lf,mg+1)
def mstep (n:Nat) (s:MS):MS :=
 let a:=lst n s.W s.lf s.mg
 let b:=lst n s.W a.2.1 a.2.2
 ⟨s.W++[s.W.getD a.1 0+s.W.getD b.1 0],(s.P.set a.1 (s.W.length:Int)).set b.1 (s.W.length:Int)++[0],b.2.1,b.2.2,s.C++[a.1,b.1]⟩
def mst (W0:List Int):Nat→MS
 | 0=>⟨W0,List.replicate W0.length 0,0,W0.length,[]⟩
 | i+1=>mstep W0.length (mst W0 i)
structure Pick (n:Nat) (W:List Int) (lf mg:Nat) (r:Nat×Nat×Nat):Prop where
 way:(r.1=lf∧r.2.1=lf+1∧r.2.2=mg∧lf<n)∨(r.1=mg∧r.2.1=lf∧r.2.2=mg+1∧mg<W.length)
 min:∀ u,(lf≤u∧u<n)∨(mg≤u∧u<W.length)→W.getD r.1 0≤W.getD u 0
theorem lst_pick {n:Nat} {W:List Int} {lf mg:Nat} (hl:lf≤n) (hm:mg≤W.length) (h:lf<n∨mg<W.length) (hs:∀ p q,p≤q→q<n→W.getD p 0≤W.getD q 0) (ho:∀ p q,mg≤p→p≤q→q<W.length→W.getD p 0≤W.getD q 0):Pick n W lf mg (lst n W lf mg):=by
 unfold lst
 split
 ·rename_i hc
  refine ⟨.inl ⟨rfl,rfl,rfl,hc.1⟩,fun u hu => ?_⟩
  rcases hu with hu | hu
  ·exact hs _ _ hu.1 hu.2
  ·rcases hc.2 with h1 | h1
   ·omega
   ·exact Int.le_trans h1 (ho _ _ (Nat.le_refl _) hu.1 hu.2)
 ·rename_i hc
  have hmg:mg<W.length:=by
   rcases h with h | h
   ·rcases Nat.lt_or_ge mg W.length with h1 | h1
    ·exact h1
    ·exact absurd ⟨h,.inl (by omega)⟩ hc
   ·exact h
  refine ⟨.inr ⟨rfl,rfl,rfl,hmg⟩,fun u hu => ?_⟩
  rcases hu with hu | hu
  ·have h1:¬ (W.getD lf 0≤W.getD mg 0):=fun h1=>hc ⟨by omega,.inr h1⟩
   have h2:=hs lf u hu.1 hu.2
   simp only
   omega
  ·exact ho _ _ (Nat.le_refl _) hu.1 hu.2
def left (n:Nat) (W:List Int) (lf mg:Nat):Int:=((W.take n).drop lf).sum+(W.drop mg).sum
theorem left_pick {n:Nat} {W:List Int} {lf mg:Nat} {r:Nat×Nat×Nat} (hn:n≤W.length) (h:Pick n W lf mg r):left n W lf mg=W.getD r.1 0+left n W r.2.1 r.2.2:=by
 unfold left
 rcases h.way with ⟨h1,h2,h3,h4⟩ | ⟨h1,h2,h3,h4⟩
 ·rw [h1,h2,h3,List.drop_eq_getElem_cons (show lf<(W.take n).length by simp; omega),List.sum_cons]
  simp [show lf<W.length by omega]
  omega
 ·rw [h1,h2,h3,List.drop_eq_getElem_cons h4,List.sum_cons]
  simp [h4]
  omega
theorem left_app {n:Nat} {W:List Int} {lf mg:Nat} (x:Int) (hn:n≤W.length) (hm:mg≤W.length):left n (W++[x]) lf mg=left n W lf mg+x:=by
 unfold left
 rw [List.take_append_of_le_length hn,List.drop_append_of_le_length hm,List.sum_append]
 simp
 omega
theorem sum_ge {l:List Int} (h:∀ x∈l,0≤x):0≤l.sum:=by
 induction l with
 | nil=>simp
 | cons x l ih =>
  rw [List.sum_cons]
  have:=h x (by simp)
  have:=ih fun y hy=>h y (by simp [hy])
  omega
theorem getD_app_l {l m:List Int} {k:Nat} (h:k<l.length):(l++m).getD k 0=l.getD k 0:=by
 simp only [List.getD_eq_getElem?_getD,List.getElem?_append_left h]
theorem getD_app_n {l:List Int} {x:Int}:(l++[x]).getD l.length 0=x:=by simp
theorem getN_app_l {l m:List Nat} {k:Nat} (h:k<l.length):(l++m).getD k 0=l.getD k 0:=by
 simp only [List.getD_eq_getElem?_getD,List.getElem?_append_left h]
structure Inv (W0:List Int) (i:Nat) (s:MS):Prop where
 wl:s.W.length=W0.length+i
 pl:s.P.length=W0.length+i
 lf:s.lf≤W0.length
 mg1:W0.length≤s.mg
 mg2:s.mg≤W0.length+(i-1)
 cnt:s.lf+s.mg=2 * i+W0.length
 cl:s.C.length=2 * i
 par:∀ j,j<2 * i→s.P.getD (s.C.getD j 0) 0=((W0.length+j / 2:Nat):Int)
 clt:∀ j,j<2 * i→s.C.getD j 0<W0.length+j / 2
 mem:∀ k,k∈s.C↔k<s.lf∨(W0.length≤k∧k<s.mg)
 nd:s.C.Nodup
 leaf:∀ k,k<W0.length→s.W.getD k 0=W0.getD k 0
 new:∀ q,q<i→s.W.getD (W0.length+q) 0=s.W.getD (s.C.getD (2 * q) 0) 0+s.W.getD (s.C.getD (2 * q+1) 0) 0
 asc:∀ j j',j≤j'→j'<2 * i→s.W.getD (s.C.getD j 0) 0≤s.W.getD (s.C.getD j' 0) 0
 low:∀ j u,j<2 * i→(s.lf≤u∧u<W0.length)∨(s.mg≤u∧u<W0.length+i)→s.W.getD (s.C.getD j 0) 0≤s.W.getD u 0
 mono:∀ p q,W0.length≤p→p≤q→q<W0.length+i→s.W.getD p 0≤s.W.getD q 0
 pos:∀ k,k<W0.length+i→1≤s.W.getD k 0
 tot:left W0.length s.W s.lf s.mg=W0.sum
 le:∀ k,k<W0.length+i→s.W.getD k 0≤W0.sum
theorem le_sum {l:List Int} (h:∀ x∈l,0≤x) {x:Int} (hx:x∈l):x≤l.sum:=by
 induction l with
 | nil=>cases hx
 | cons y l ih =>
  rw [List.sum_cons]
  have h1:=h y (by simp)
  have h2:=sum_ge (l:=l) fun z hz=>h z (by simp [hz])
  rcases List.mem_cons.1 hx with rfl | hx
  ·omega
  ·have:=ih (fun z hz=>h z (by simp [hz])) hx; omega
theorem mem_getD {l:List Int} {x:Int} (h:x∈l):∃ k,k<l.length∧x=l.getD k 0:=by
 obtain ⟨k,hk,rfl⟩:=List.getElem_of_mem h
 exact ⟨k,hk,getD_at hk⟩
theorem inv_zero {W0:List Int} (hp:∀ k,k<W0.length→1≤W0.getD k 0):Inv W0 0 (mst W0 0) where
 wl:=rfl
 pl:=by simp [mst]
 lf:=Nat.zero_le _
 mg1:=Nat.le_refl _
 mg2:=Nat.le_refl _
 cnt:=by simp [mst]
 cl:=rfl
 par:=fun j h=>by omega
 clt:=fun j h=>by omega
 mem:=fun k=>by simp [mst]
 nd:=List.nodup_nil
 leaf:=fun _ _=>rfl
 new:=fun q h=>by omega
 asc:=fun j j' _ h=>by omega
 low:=fun j u h=>by omega
 mono:=fun p q h1 h2 h3=>by omega
 pos:=fun k h=>hp k h
 tot:=by simp [left,mst]
 le:=fun k h=>by
  refine le_sum (fun x hx => ?_) (x:=W0.getD k 0) ?_
  ·obtain ⟨j,hj,rfl⟩:=mem_getD hx
   have:=hp j hj; omega
  ·have h:k<W0.length:=h
   rw [← getD_at h]; exact List.getElem_mem _
theorem getD_set_ne {l:List Int} {a k:Nat} {x:Int} (h:a≠k):(l.set a x).getD k 0=l.getD k 0:=by
 simp [List.getD_eq_getElem?_getD,List.getElem?_set,h]
theorem getD_set_eq {l:List Int} {a:Nat} {x:Int} (h:a<l.length):(l.set a x).getD a 0=x:=by
 simp [List.getD_eq_getElem?_getD,h]
theorem getN_two {C:List Nat} {a b m:Nat} (hc:C.length=m):(C++[a,b]).getD m 0=a∧(C++[a,b]).getD (m+1) 0=b:=by
 subst hc
 simp [List.getD_eq_getElem?_getD,List.getElem?_append_right]
theorem mem_C {C:List Nat} {j:Nat} (h:j<C.length):C.getD j 0∈C:=by
 simp [List.getD_eq_getElem?_getD,h]
theorem inv_step {W0:List Int} {i:Nat} {s:MS} (hs:∀ p q,p≤q→q<W0.length→W0.getD p 0≤W0.getD q 0) (hi:i+1<W0.length) (v:Inv W0 i s):Inv W0 (i+1) (mstep W0.length s):=by
 obtain ⟨wl,pl,lf,mg1,mg2,cnt,cl,par,clt,mem,nd,leaf,new,asc,low,mono,pos,tot,le⟩:=v
 have hsW:∀ p q,p≤q→q<W0.length→s.W.getD p 0≤s.W.getD q 0:=fun p q h1 h2=>by rw [leaf p (by omega),leaf q h2]; exact hs p q h1 h2
 have hmW:∀ p q,s.mg≤p→p≤q→q<s.W.length→s.W.getD p 0≤s.W.getD q 0:=fun p q h1 h2 h3=>mono p q (by omega) h2 (by omega)
 obtain ⟨a,l1,m1,ea⟩:∃ a l1 m1,lst W0.length s.W s.lf s.mg=(a,l1,m1):=⟨_,_,_,rfl⟩
 have pa:=lst_pick (n:=W0.length) (W:=s.W) lf (show s.mg≤s.W.length by omega) (by omega) hsW hmW
 rw [ea] at pa
 have wa:=pa.way
 simp only at wa
 obtain ⟨b,l2,m2,eb⟩:∃ b l2 m2,lst W0.length s.W l1 m1=(b,l2,m2):=⟨_,_,_,rfl⟩
 have pb:=lst_pick (n:=W0.length) (W:=s.W) (lf:=l1) (mg:=m1) (by omega) (by omega) (by omega) hsW (fun p q h1 h2 h3=>hmW p q (by omega) h2 h3)
 rw [eb] at pb
 have wb:=pb.way
 simp only at wb
 have hst:mstep W0.length s=⟨s.W++[s.W.getD a 0+s.W.getD b 0],(s.P.set a (s.W.length:Int)).set b (s.W.length:Int)++[0],l2,m2,s.C++[a,b]⟩:=by
  unfold mstep
  rw [ea]
  simp only
  rw [eb]
 have haL:a<W0.length+i:=by omega
 have hbL:b<W0.length+i:=by omega
 have hab:a≠b:=by omega
 have ha1:s.W.getD a 0≤s.W.getD b 0:=pa.min b (by omega)
 have haU:∀ j,j<2 * i→s.W.getD (s.C.getD j 0) 0≤s.W.getD a 0:=fun j hj=>low j a hj (by omega)
 have hbU:∀ j,j<2 * i→s.W.getD (s.C.getD j 0) 0≤s.W.getD b 0:=fun j hj=>low j b hj (by omega)
 have hpa:=pos a haL
 have hpb:=pos b hbL
 have hCa:∀ j,j<2 * i→s.C.getD j 0≠a:=fun j hj e=>by
  have:=(mem (s.C.getD j 0)).1 (mem_C (by omega)); omega
 have hCb:∀ j,j<2 * i→s.C.getD j 0≠b:=fun j hj e=>by
  have:=(mem (s.C.getD j 0)).1 (mem_C (by omega)); omega
 have hCl:∀ j,j<2 * i→s.C.getD j 0<W0.length+i:=fun j hj=>by have:=clt j hj; omega
 have gW:∀ k,k<W0.length+i→(s.W++[s.W.getD a 0+s.W.getD b 0]).getD k 0=s.W.getD k 0:=fun k hk=>getD_app_l (by omega)
 have gWn:(s.W++[s.W.getD a 0+s.W.getD b 0]).getD (W0.length+i) 0=s.W.getD a 0+s.W.getD b 0:=by rw [← wl]; exact getD_app_n
 have gC:∀ j,j<2 * i→(s.C++[a,b]).getD j 0=s.C.getD j 0:=fun j hj=>getN_app_l (by omega)
 have gC2:=getN_two (C:=s.C) (a:=a) (b:=b) cl
 have hlast:∀ q,q<i→s.W.getD (W0.length+q) 0≤s.W.getD a 0+s.W.getD b 0:=fun q hq=>by
  have h1:=new q hq
  have h2:=haU (2 * q) (by omega)
  have h3:=hbU (2 * q+1) (by omega)
  omega
 have htA:=left_pick (n:=W0.length) (W:=s.W) (by omega) pa
 have htB:=left_pick (n:=W0.length) (W:=s.W) (by omega) pb
 simp only at htA htB
 have hnn:0≤left W0.length s.W l2 m2:=by
  unfold left
  have h1:0≤((s.W.take W0.length).drop l2).sum:=sum_ge fun x hx=>by
   obtain ⟨k,hk,rfl⟩:=mem_getD (List.mem_of_mem_take (List.mem_of_mem_drop hx))
   have:=pos k (by omega); omega
  have h2:0≤(s.W.drop m2).sum:=sum_ge fun x hx=>by
   obtain ⟨k,hk,rfl⟩:=mem_getD (List.mem_of_mem_drop hx)
   have:=pos k (by omega); omega
  omega
 rw [hst]
 refine ⟨by simp; omega,by simp; omega,by simp only; omega,by simp only; omega,by simp only; omega,by simp only; omega,by simp; omega,?_,?_,?_,?_,?_,?_,?_,?_,?_,?_,?_,?_⟩
 ·intro j hj
  simp only
  by_cases h1:j<2 * i
  ·have h2:=hCl j h1
   rw [gC j h1,getD_app_l (by simp only [List.length_set]; omega),getD_set_ne (Ne.symm (hCb j h1)),getD_set_ne (Ne.symm (hCa j h1))]
   exact par j h1
  ·by_cases h2:j=2 * i
   ·subst h2
    rw [gC2.1,getD_app_l (by simp only [List.length_set]; omega),getD_set_ne (Ne.symm hab),getD_set_eq (by omega)]
    omega
   ·obtain rfl:j=2 * i+1:=by omega
    rw [gC2.2,getD_app_l (by simp only [List.length_set]; omega),getD_set_eq (by simp; omega)]
    omega
 ·intro j hj
  simp only
  by_cases h1:j<2 * i
  ·rw [gC j h1]; exact clt j h1
  ·by_cases h2:j=2 * i
   ·subst h2; rw [gC2.1]; omega
   ·obtain rfl:j=2 * i+1:=by omega
    rw [gC2.2]; omega
 ·intro k
  simp only [List.mem_append,List.mem_cons,List.not_mem_nil,or_false]
  rw [mem k]
  omega
 ·simp only
  rw [List.nodup_append]
  refine ⟨nd,by simp [hab],fun x hx y hy => ?_⟩
  have h1:=(mem x).1 hx
  simp only [List.mem_cons,List.not_mem_nil,or_false] at hy
  omega
 ·intro k hk
  simp only
  rw [gW k (by omega)]; exact leaf k hk
 ·intro q hq
  simp only
  by_cases h1:q<i
  ·rw [gW _ (by omega),gC _ (by omega),gC _ (by omega),gW _ (hCl _ (by omega)),gW _ (hCl _ (by omega))]
   exact new q h1
  ·obtain rfl:q=i:=by omega
   rw [gWn,gC2.1,gC2.2,gW _ haL,gW _ hbL]
 ·intro j j' hjj hj'
  simp only
  by_cases h1:j'<2 * i
  ·rw [gC _ (by omega),gC _ h1,gW _ (hCl _ (by omega)),gW _ (hCl _ h1)]
   exact asc j j' hjj h1
  ·by_cases h2:j'=2 * i
   ·subst h2
    rw [gC2.1,gW _ haL]
    by_cases h3:j<2 * i
    ·rw [gC _ h3,gW _ (hCl _ h3)]; exact haU j h3
    ·obtain rfl:j=2 * i:=by omega
     rw [gC2.1,gW _ haL]; exact Int.le_refl _
   ·obtain rfl:j'=2 * i+1:=by omega
    rw [gC2.2,gW _ hbL]
    by_cases h3:j<2 * i
    ·rw [gC _ h3,gW _ (hCl _ h3)]; exact hbU j h3
    ·by_cases h4:j=2 * i
     ·subst h4; rw [gC2.1,gW _ haL]; exact ha1
     ·obtain rfl:j=2 * i+1:=by omega
      rw [gC2.2,gW _ hbL]; exact Int.le_refl _
 ·intro j u hj hu
  simp only at hu ⊢
  have hmax:∀ j,j<2 * (i+1)→(s.W++[s.W.getD a 0+s.W.getD b 0]).getD ((s.C++[a,b]).getD j 0) 0≤s.W.getD b 0:=by
   intro j hj
   by_cases h1:j<2 * i
   ·rw [gC _ h1,gW _ (hCl _ h1)]; exact hbU j h1
   ·by_cases h2:j=2 * i
    ·subst h2; rw [gC2.1,gW _ haL]; exact ha1
    ·obtain rfl:j=2 * i+1:=by omega
     rw [gC2.2,gW _ hbL]; exact Int.le_refl _
  refine Int.le_trans (hmax j hj) ?_
  by_cases h1:u=W0.length+i
  ·subst h1; rw [gWn]; omega
  ·rw [gW u (by omega)]
   exact pb.min u (by omega)
 ·intro p q h1 h2 h3
  simp only
  by_cases h4:q<W0.length+i
  ·rw [gW p (by omega),gW q h4]; exact mono p q h1 h2 h4
  ·obtain rfl:q=W0.length+i:=by omega
   rw [gWn]
   by_cases h5:p=W0.length+i
   ·subst h5; rw [gWn]; exact Int.le_refl _
   ·rw [gW p (by omega)]
    have:=hlast (p-W0.length) (by omega)
    rw [show W0.length+(p-W0.length)=p by omega] at this
    exact this
 ·intro k hk
  simp only
  by_cases h1:k<W0.length+i
  ·rw [gW k h1]; exact pos k h1
  ·obtain rfl:k=W0.length+i:=by omega
   rw [gWn]; omega
 ·simp only
  rw [left_app _ (by omega) (by omega)]
  omega
 ·intro k hk
  simp only
  by_cases h1:k<W0.length+i
  ·rw [gW k h1]; exact le k h1
  ·obtain rfl:k=W0.length+i:=by omega
   rw [gWn]; omega
theorem inv_all {W0:List Int} (hs:∀ p q,p≤q→q<W0.length→W0.getD p 0≤W0.getD q 0) (hp:∀ k,k<W0.length→1≤W0.getD k 0):∀ i,i<W0.length∨i=0→Inv W0 i (mst W0 i)
 | 0,_=>inv_zero hp
 | i+1,h=>inv_step hs (by omega) (inv_all hs hp i (by omega))
theorem wrap_pred {n:Nat} (h:n<4611686018427387904):IntKind.i64.wrap (((n+1:Nat):Int)-1)=(n:Int):=by rw [wrap_i64 (by omega) (by omega)]; omega
theorem clo_eq {W P:List Int} (h:W.length=P.length) {n lf mg:Nat} (hn:n≤W.length) (hl:lf≤n) (hm:mg≤W.length) (h0:lf<n∨mg<W.length) (hb:W.length≤1000000) :
  tree_merge_1_clo (lf:Int) (n:Int) (mg:Int) (zw W P)=some (((lst n W lf mg).1:Int),((lst n W lf mg).2.1:Int),(n:Int),((lst n W lf mg).2.2:Int),zw W P):=by
 have hz:=zw_len h
 have fin:∀ c:Bool,(c=true↔(lf<n∧(mg=W.length∨W.getD lf 0≤W.getD mg 0))) →
   cond c ((some (IntKind.i64.wrap ((lf:Int)+1))).bind fun v10=>(some (IntKind.i64.wrap (v10-1))).bind fun v11=>some ((v11,v10,(n:Int),(mg:Int),zw W P)))
    ((some (IntKind.i64.wrap ((mg:Int)+1))).bind fun v12=>(some (IntKind.i64.wrap (v12-1))).bind fun v13=>some ((v13,(lf:Int),(n:Int),v12,zw W P)))=some (((lst n W lf mg).1:Int),((lst n W lf mg).2.1:Int),(n:Int),((lst n W lf mg).2.2:Int),zw W P):=by
  intro c hc
  unfold lst
  cases c with
  | true =>
   rw [if_pos (hc.1 rfl)]
   exact cnd_t rfl (bnd (x:=((lf+1:Nat):Int)) (by rw [wrap_succ (by omega)]) (bnd (x:=(lf:Int)) (by rw [wrap_pred (by omega)]) rfl))
  | false =>
   rw [if_neg fun e=>by have:=hc.2 e; cases this]
   exact cnd_f rfl (bnd (x:=((mg+1:Nat):Int)) (by rw [wrap_succ (by omega)]) (bnd (x:=(mg:Int)) (by rw [wrap_pred (by omega)]) rfl))
 unfold tree_merge_1_clo
 by_cases h1:lf<n
 ·by_cases h2:mg=W.length
  ·exact bndL (s:=true) (cnd_t (decide_eq_true (by omega)) (cnd_t (by rw [hz,h2]; simp) rfl)) (fin true ⟨fun _=>⟨h1,.inl h2⟩,fun _=>rfl⟩)
  ·refine bndL (s:=decide (W.getD lf 0≤W.getD mg 0)) (cnd_t (decide_eq_true (by omega)) (cnd_f (by rw [hz]; simp; omega) (bnd (ixO_of (by rw [hz]; omega)) (bnd (zw_get h (by omega)) (bnd (ixO_of (by rw [hz]; omega)) (bnd (zw_get h (by omega)) rfl)))))) (fin _ ⟨fun e=>⟨h1,.inr (of_decide_eq_true e)⟩,fun e=>decide_eq_true ?_⟩)
   rcases e.2 with e | e
   ·exact absurd e h2
   ·exact e
 ·exact bndL (s:=false) (cnd_f (decide_eq_false (by omega)) rfl) (fin false ⟨fun e=>(by cases e),fun e=>absurd e.1 h1⟩)
theorem merge_eq {W0:List Int} (hs:∀ p q,p≤q→q<W0.length→W0.getD p 0≤W0.getD q 0) (hp:∀ k,k<W0.length→1≤W0.getD k 0) (h2:2≤W0.length) (h3:W0.length≤300) (ht:W0.sum≤1099511627776) :
  tree_merge (zw W0 (List.replicate W0.length 0))=some (zw (mst W0 (W0.length-1)).W (mst W0 (W0.length-1)).P):=by
 unfold tree_merge
 have hzl:(zw W0 (List.replicate W0.length 0)).length=W0.length:=zw_len (by simp)
 refine bndL (s:=zw (mst W0 (W0.length-1)).W (mst W0 (W0.length-1)).P) ?_ rfl
 refine loop_from (fun i=>(zw (mst W0 i).W (mst W0 i).P,(W0.length:Int),((mst W0 i).lf:Int),((mst W0 i).mg:Int))) (W0.length-1) BIG ?_ (by unfold BIG; omega) (fun i hi => ?_) ?_
 ·simp only [mst]
  rw [hzl]
  rfl
 ·obtain ⟨v,v'⟩:Inv W0 i (mst W0 i)∧Inv W0 (i+1) (mst W0 (i+1)):=⟨inv_all hs hp i (by omega),inv_all hs hp (i+1) (by omega)⟩
  have hst:mst W0 (i+1)=mstep W0.length (mst W0 i):=rfl
  generalize mst W0 i=s at *
  generalize mst W0 (i+1)=s' at *
  obtain ⟨wl,pl,lf,mg1,mg2,cnt,cl,par,clt,mem,nd,leaf,new,asc,low,mono,pos,tot,le⟩:=v
  have hWP:s.W.length=s.P.length:=by omega
  have hsW:∀ p q,p≤q→q<W0.length→s.W.getD p 0≤s.W.getD q 0:=fun p q h1 h2=>by rw [leaf p (by omega),leaf q h2]; exact hs p q h1 h2
  have hmW:∀ p q,s.mg≤p→p≤q→q<s.W.length→s.W.getD p 0≤s.W.getD q 0:=fun p q h1 h2 h3=>mono p q (by omega) h2 (by omega)
  have c1:=clo_eq (W:=s.W) (P:=s.P) hWP (n:=W0.length) (lf:=s.lf) (mg:=s.mg) (by omega) lf (by omega) (by omega) (by omega)
  obtain ⟨a,l1,m1,ea⟩:∃ a l1 m1,lst W0.length s.W s.lf s.mg=(a,l1,m1):=⟨_,_,_,rfl⟩
  have pa:=lst_pick (n:=W0.length) (W:=s.W) lf (show s.mg≤s.W.length by omega) (by omega) hsW hmW
  rw [ea] at pa c1
  have wa:=pa.way
  simp only at wa c1
  have c2:=clo_eq (W:=s.W) (P:=s.P) hWP (n:=W0.length) (lf:=l1) (mg:=m1) (by omega) (by omega) (by omega) (by omega) (by omega)
  obtain ⟨b,l2,m2,eb⟩:∃ b l2 m2,lst W0.length s.W l1 m1=(b,l2,m2):=⟨_,_,_,rfl⟩
  have pb:=lst_pick (n:=W0.length) (W:=s.W) (lf:=l1) (mg:=m1) (by omega) (by omega) (by omega) hsW (fun p q h1 h2 h3=>hmW p q (by omega) h2 h3)
  rw [eb] at pb c2
  have wb:=pb.way
  simp only at wb c2
  have hs':s'=⟨s.W++[s.W.getD a 0+s.W.getD b 0],(s.P.set a (s.W.length:Int)).set b (s.W.length:Int)++[0],l2,m2,s.C++[a,b]⟩:=by
   rw [hst]
   unfold mstep
   rw [ea]
   simp only
   rw [eb]
  have haL:a<s.W.length:=by omega
  have hbL:b<s.W.length:=by omega
  have hsum:IntKind.i64.wrap (s.W.getD a 0+s.W.getD b 0)=s.W.getD a 0+s.W.getD b 0:=by
   have h4:=pos a (by omega)
   have h5:=pos b (by omega)
   have h6:=v'.le (W0.length+i) (by omega)
   have h7:=le a (by omega)
   have h8:=le b (by omega)
   exact wrap_i64 (by omega) (by omega)
  have hl1:(s.P.set a (s.W.length:Int)).length=s.W.length:=by simp; omega
  have hl2:((s.P.set a (s.W.length:Int)).set b (s.W.length:Int)).length=s.W.length:=by simp; omega
  have hz0:=zw_len hWP
  refine bnd (x:=((2 * W0.length:Nat):Int)) (by rw [wrap_i64 (by omega) (by omega)]; simp) (bnd (x:=((2 * W0.length-1:Nat):Int)) (by rw [wrap_i64 (by omega) (by omega)]; congr 1; omega) (cnd_t (decide_eq_true (by rw [hz0]; omega)) (bnd c1 (bnd c2 ?_))))
  refine bnd (ixO_of (by simp only; rw [hz0]; exact haL)) (bnd (zw_get hWP haL) (bnd (x:=zw s.W (s.P.set a (s.W.length:Int))) (by simp only; rw [hz0,zw_set hWP haL]) ?_))
  have hz1:=zw_len (W:=s.W) (P:=s.P.set a (s.W.length:Int)) hl1.symm
  refine bnd (ixO_of (by simp only; rw [hz0]; exact hbL)) (bnd (zw_get hl1.symm hbL) (bnd (x:=zw s.W ((s.P.set a (s.W.length:Int)).set b (s.W.length:Int))) (by simp only; rw [hz0,zw_set hl1.symm hbL]) ?_))
  have hz2:=zw_len (W:=s.W) (P:=(s.P.set a (s.W.length:Int)).set b (s.W.length:Int)) hl2.symm
  refine bnd (ixO_of (by rw [hz2]; exact haL)) (bnd (zw_get hl2.symm haL) (bnd (ixO_of (by rw [hz2]; exact hbL)) (bnd (zw_get hl2.symm hbL) (bnd (x:=s.W.getD a 0+s.W.getD b 0) (by simp only; rw [hsum]) ?_))))
  refine bnd (app_of (by rw [hz2]; simp; omega) (by rw [hz2]; simp; omega)) ?_
  rw [hs',zw_app hl2.symm]
 ·have v:=inv_all hs hp (W0.length-1) (by omega)
  have hz:=zw_len (W:=(mst W0 (W0.length-1)).W) (P:=(mst W0 (W0.length-1)).P) (by rw [v.wl,v.pl])
  exact bnd (x:=((2 * W0.length:Nat):Int)) (by rw [wrap_i64 (by omega) (by omega)]; simp) (bnd (x:=((2 * W0.length-1:Nat):Int)) (by rw [wrap_i64 (by omega) (by omega)]; congr 1; omega) (cnd_f (decide_eq_false (by rw [hz,v.wl]; omega)) rfl))
def dst (P:List Int) (L:Nat):Nat→List Int
 | 0=>List.replicate L 0
 | j+1=>(dst P L j).set (L-2-j) ((dst P L j).getD (P.getD (L-2-j) 0).toNat 0+1)
theorem dst_len (P:List Int) (L:Nat):∀ j,(dst P L j).length=L
 | 0=>by simp [dst]
 | j+1=>by rw [dst,List.length_set]; exact dst_len P L j
def okP (P:List Int) (L:Nat):Prop:=∀ k,k+1<L→(k:Int)<P.getD k 0∧P.getD k 0<(L:Int)
theorem dst_above (P:List Int) (L:Nat):∀ j k,j+1≤L→L-1-j≤k→∀ j',j≤j'→j'+1≤L→(dst P L j').getD k 0=(dst P L j).getD k 0:=by
 intro j k h1 h2 j' h3 h4
 obtain ⟨d,rfl⟩:∃ d,j'=j+d:=⟨j'-j,by omega⟩
 induction d with
 | zero=>rfl
 | succ d ih =>
  rw [← Nat.add_assoc,dst,getD_set_ne (by omega)]
  exact ih (by omega) (by omega)
theorem dst_eq {P:List Int} {L:Nat} (hP:okP P L) (k:Nat) (hk:k+1<L):(dst P L (L-1)).getD k 0=(dst P L (L-1)).getD (P.getD k 0).toNat 0+1:=by
 have h:=hP k hk
 have h1:(dst P L (L-1)).getD k 0=(dst P L (L-1-k)).getD k 0:=dst_above P L (L-1-k) k (by omega) (by omega) (L-1) (by omega) (by omega)
 obtain ⟨j,hj⟩:∃ j,L-1-k=j+1:=⟨L-2-k,by omega⟩
 rw [h1,hj,dst,show L-2-j=k by omega,getD_set_eq (by rw [dst_len]; omega)]
 rw [dst_above P L j (P.getD k 0).toNat (by omega) (by omega) (L-1) (by omega) (by omega)]
theorem dst_root (P:List Int) {L:Nat} (hL:0<L):(dst P L (L-1)).getD (L-1) 0=0:=by
 rw [dst_above P L 0 (L-1) (by omega) (by omega) (L-1) (by omega) (by omega)]
 simp only [dst,List.getD_eq_getElem?_getD,List.getElem?_replicate]
 split <;> rfl
theorem dst_bound (P:List Int) (L:Nat):∀ j k,0≤(dst P L j).getD k 0∧(dst P L j).getD k 0≤(j:Int)
 | 0,k=>by
  simp only [dst,List.getD_eq_getElem?_getD,List.getElem?_replicate]
  split <;> simp
 | j+1,k=>by
  rw [dst]
  have ih:=dst_bound P L j
  by_cases e:L-2-j=k
  ·subst e
   by_cases h:L-2-j<(dst P L j).length
   ·rw [getD_set_eq h]
    have:=ih (P.getD (L-2-j) 0).toNat
    omega
   ·have:((dst P L j).set (L-2-j) ((dst P L j).getD (P.getD (L-2-j) 0).toNat 0+1)).getD (L-2-j) 0=0:=by
     simp only [List.getD_eq_getElem?_getD,List.getElem?_set]
     simp [h]
    omega
  ·rw [getD_set_ne e]
   have:=ih k
   omega
def place (z u D:List Int):Nat→List Int
 | 0=>z
 | i+1=>(place z u D i).set (u.getD i 0).toNat (D.getD i 0)
theorem place_len (z u D:List Int):∀ i,(place z u D i).length=z.length
 | 0=>rfl
 | i+1=>by rw [place,List.length_set]; exact place_len z u D i
def srt (w:List Int):List Int:=sortBy w (pos w)
def wts (w:List Int):List Int:=(srt w).map fun x=>w.getD x.toNat 0
def coreD (W0:List Int):List Int:=dst (mst W0 (W0.length-1)).P (2 * W0.length-1) (2 * W0.length-2)
def dep (w:List Int):List Int :=
 if (pos w).length=0 then List.replicate w.length 0
 else if (pos w).length=1 then (List.replicate w.length 0).set ((pos w).getD 0 0).toNat 1
 else place (List.replicate w.length 0) (srt w) (coreD (wts w)) (srt w).length
theorem srt_perm (w:List Int):(srt w).Perm (pos w):=sortBy_perm w (pos w)
theorem srt_len (w:List Int):(srt w).length=(pos w).length:=(srt_perm w).length_eq
theorem wts_len (w:List Int):(wts w).length=(pos w).length:=by rw [wts,List.length_map,srt_len]
theorem srt_mem {w:List Int} {i:Nat} (h:i<(srt w).length):0≤(srt w).getD i 0∧(srt w).getD i 0<(w.length:Int)∧0<w.getD ((srt w).getD i 0).toNat 0:=by
 have h1:(srt w).getD i 0∈srt w:=by rw [← getD_at h]; exact List.getElem_mem _
 have:=posN_lt w w.length _ ((srt_perm w).mem_iff.1 h1)
 exact this
theorem wts_at {w:List Int} {i:Nat} (h:i<(srt w).length):(wts w).getD i 0=w.getD ((srt w).getD i 0).toNat 0:=by
 simp [wts,List.getD_eq_getElem?_getD,h]
theorem wts_pos {w:List Int} {i:Nat} (h:i<(wts w).length):1≤(wts w).getD i 0:=by
 rw [wts_len,← srt_len] at h
 rw [wts_at h]
 have:=srt_mem h
 omega
theorem wts_asc {w:List Int}:∀ p q,p≤q→q<(wts w).length→(wts w).getD p 0≤(wts w).getD q 0:=by
 intro p q h1 h2
 rw [wts_len,← srt_len] at h2
 rw [wts_at (by omega),wts_at h2]
 rcases Nat.lt_or_eq_of_le h1 with h3 | h3
 ·have h4:=(List.pairwise_iff_getElem.1 (sortBy_pw w (pos w))) p q (by show p<(srt w).length; omega) h2 h3
  rw [leB_iff] at h4
  have e1:(sortBy w (pos w))[p]'(by show p<(srt w).length; omega)=(srt w).getD p 0:=getD_at (l:=srt w) (by omega)
  have e2:(sortBy w (pos w))[q]'h2=(srt w).getD q 0:=getD_at (l:=srt w) h2
  rw [e1,e2] at h4
  omega
 ·subst h3; exact Int.le_refl _
theorem sum_le_of {l:List Int} {B:Int} (h:∀ x∈l,x≤B):l.sum≤B * (l.length:Int):=by
 induction l with
 | nil=>simp
 | cons x l ih =>
  have h1:=h x (by simp)
  have h2:=ih fun y hy=>h y (by simp [hy])
  rw [List.sum_cons,List.length_cons]
  have:B * ((l.length+1:Nat):Int)=B * (l.length:Int)+B:=by rw [Int.natCast_add,Int.mul_add]; simp
  omega
theorem wts_le {w:List Int} (hw:okW w):∀ x∈wts w,x≤1048576:=by
 intro x hx
 obtain ⟨k,hk,rfl⟩:=mem_getD hx
 rw [wts_len,← srt_len] at hk
 rw [wts_at hk]
 have h1:=srt_mem hk
 have:=hw.2 ((srt w).getD k 0).toNat (by omega)
 omega
theorem pos_len (w:List Int):(pos w).length≤w.length:=posN_len w w.length
theorem wts_sum {w:List Int} (hw:okW w):(wts w).sum≤314572800:=by
 have h1:=sum_le_of (wts_le hw)
 have h2:=pos_len w
 have h3:=hw.1
 rw [wts_len] at h1
 omega
theorem sort_eq {w:List Int} (hw:okW w) (h0:0<(pos w).length):slices_SortStable w (pos w)=some (srt w):=by
 have h2:=pos_len w
 have h3:=hw.1
 have:sortOk w (pos w)=true:=by
  simp only [sortOk,Bool.and_eq_true,decide_eq_true_eq,List.all_eq_true]
  refine ⟨⟨⟨⟨⟨h0,by omega⟩,by omega⟩,fun x hx => ?_⟩,fun y hy => ?_⟩,?_⟩
  ·have:=posN_lt w w.length x hx; omega
  ·obtain ⟨k,hk,rfl⟩:=mem_getD hy
   have:=hw.2 k hk; omega
  ·exact (posN_asc w w.length).imp fun h=>Int.le_of_lt h
 unfold slices_SortStable
 rw [if_pos this]
 rfl
theorem inv_wts {w:List Int} (h2:2≤(pos w).length):Inv (wts w) ((wts w).length-1) (mst (wts w) ((wts w).length-1)) :=
 inv_all wts_asc (fun k hk=>wts_pos hk) _ (by rw [wts_len]; omega)
theorem inv_okP {W0:List Int} {s:MS} (h2:2≤W0.length) (v:Inv W0 (W0.length-1) s):okP s.P (2 * W0.length-1):=by
 intro k hk
 have hm:k∈s.C:=(v.mem k).2 (by have:=v.cnt; have:=v.mg2; have:=v.lf; omega)
 obtain ⟨j,hj,rfl⟩:=List.getElem_of_mem hm
 have e:s.C[j]=s.C.getD j 0:=by simp [hj]
 rw [v.cl] at hj
 rw [e,v.par j hj]
 have:=v.clt j hj
 omega
theorem take_succ_app {l:List Int} {i:Nat} (h:i<l.length):l.take (i+1)=l.take i++[l.getD i 0]:=by
 rw [List.take_add_one,List.getElem?_eq_getElem h,← getD_at h]; rfl
theorem rep_succ_app (i:Nat):List.replicate (i+1) (0:Int)=List.replicate i 0++[0]:=by
 rw [List.replicate_succ']
theorem depths_eq {w:List Int} (hw:okW w):tree_depths w=some (dep w):=by
 have hl:=hw.1
 have hpl:=pos_len w
 unfold tree_depths
 refine bnd (x:=List.replicate w.length (0:Int)) (by unfold mkO; rw [if_pos (by omega)]; simp) (bnd (positive_eq w hl) ?_)
 by_cases h0:(pos w).length=0
 ·exact cnd_t (by simp [h0]) (by rw [dep,if_pos h0])
 refine cnd_f (by simp; intro e; apply h0; rw [e]; rfl) ?_
 by_cases h1:(pos w).length=1
 ·have hm:(pos w).getD 0 0∈pos w:=by rw [← getD_at (by omega)]; exact List.getElem_mem _
  have hx:=posN_lt w w.length _ hm
  refine cnd_t (by simp [h1]) (bnd (ixO_of (i:=0) (by omega)) (bnd (getO_D (by omega)) (bnd (x:=((pos w).getD 0 0).toNat) (by unfold ixO; rw [if_pos (by simp only [List.length_replicate]; omega)]) (bnd rfl ?_))))
  rw [dep,if_neg h0,if_pos h1]
 refine cnd_f (by simp; omega) ?_
 have h2:2≤(pos w).length:=by omega
 have hsl:=srt_len w
 have hwl:=wts_len w
 have hWs:=wts_sum hw
 refine bnd (sort_eq hw (by omega)) (bnd (x:=((2 * (pos w).length:Nat):Int)) (by rw [hsl,wrap_i64 (by omega) (by omega)]; simp) (bnd (x:=()) (by unfold mkcO; rw [if_pos (by omega)]) ?_))
 refine bndL (s:=zw (wts w) (List.replicate (wts w).length 0)) ?_ ?_
 ·refine loop_from (fun i=>(zw ((wts w).take i) (List.replicate i 0),(i:Int))) (srt w).length BIG rfl (by unfold BIG; omega) (fun i hi => ?_) (cnd_f (by simp) ?_)
  ·have hx:=srt_mem hi
   have hti:((wts w).take i).length=i:=by rw [List.length_take]; omega
   refine cnd_t (by simp; omega) (bnd (ixO_of hi) (bnd (getO_D hi) (bnd (x:=((srt w).getD i 0).toNat) (by unfold ixO; rw [if_pos (by omega)]) (bnd (getO_D (by omega)) (bnd (app_of (by rw [zw_len (by simp; omega)]; simp; omega) (by rw [zw_len (by simp; omega)]; simp; omega)) (bnd (x:=((i+1:Nat):Int)) (by rw [wrap_succ (by omega)]) ?_))))))
   rw [zw_app (by simp; omega),take_succ_app (by omega),rep_succ_app,wts_at hi]
  ·rw [hsl,← hwl,List.take_length]
 have hmg:=merge_eq (W0:=wts w) wts_asc (fun k hk=>wts_pos hk) (by omega) (by omega) (by omega)
 refine bnd hmg ?_
 have v:=inv_wts h2
 have hP:=inv_okP (by omega) v
 have hz:=zw_len (W:=(mst (wts w) ((wts w).length-1)).W) (P:=(mst (wts w) ((wts w).length-1)).P) (by rw [v.wl,v.pl])
 have hwL:=v.wl
 have hpL:=v.pl
 obtain ⟨L,hL⟩:∃ L,L=2 * (wts w).length-1:=⟨_,rfl⟩
 have hzL:(zw (mst (wts w) ((wts w).length-1)).W (mst (wts w) ((wts w).length-1)).P).length=L:=by omega
 have hcd:dep w=place (List.replicate w.length 0) (srt w) (dst (mst (wts w) ((wts w).length-1)).P L (L-1)) (srt w).length:=by
  rw [dep,if_neg h0,if_neg h1,coreD,hL]
  rfl
 rw [hcd]
 rw [← hL] at hP
 generalize (mst (wts w) ((wts w).length-1)).P=P at *
 generalize (mst (wts w) ((wts w).length-1)).W=W at *
 refine bnd (x:=List.replicate L (0:Int)) (by unfold mkO; rw [hzL,if_pos (by omega)]; simp) (bnd (x:=((L:Int)-2)) (by rw [hzL,wrap_i64 (by omega) (by omega)]) ?_)
 refine bndL (s:=dst P L (L-1)) ?_ ?_
 ·refine loop_from (fun j=>(dst P L j,(L:Int)-2-(j:Int))) (L-1) BIG (by simp [dst]) (by unfold BIG; omega) (fun j hj => ?_) (cnd_f (decide_eq_false (by omega)) rfl)
  have hk:=hP (L-2-j) (by omega)
  have hb:=dst_bound P L j (P.getD (L-2-j) 0).toNat
  have hdl:=dst_len P L j
  have ek:(L:Int)-2-(j:Int)=((L-2-j:Nat):Int):=by omega
  simp only
  rw [ek]
  refine cnd_t (decide_eq_true (by omega)) (bnd (ixO_of (by rw [hzL]; omega)) (bnd (zw_get (by omega) (by omega)) (bnd (x:=(P.getD (L-2-j) 0).toNat) (by unfold ixO; rw [if_pos (by rw [hdl]; simp only; omega)]) (bnd (getO_D (by omega)) (bnd (x:=(dst P L j).getD (P.getD (L-2-j) 0).toNat 0+1) (by rw [wrap_i64 (by omega) (by omega)]) (bnd (ixO_of (by omega)) (bnd rfl (bnd (x:=(L:Int)-2-((j+1:Nat):Int)) (by rw [wrap_i64 (by omega) (by omega)]; congr 1; omega) ?_))))))))
  rfl
 refine bndL (s:=place (List.replicate w.length 0) (srt w) (dst P L (L-1)) (srt w).length) ?_ rfl
 have hdl:=dst_len P L (L-1)
 refine loop_from (fun i=>(place (List.replicate w.length 0) (srt w) (dst P L (L-1)) i,(i:Int))) (srt w).length BIG rfl (by unfold BIG; omega) (fun i hi => ?_) (cnd_f (by simp) rfl)
 have hx:=srt_mem hi
 have hpll:=place_len (List.replicate w.length 0) (srt w) (dst P L (L-1)) i
 rw [List.length_replicate] at hpll
 exact cnd_t (by simp; omega) (bnd (ixO_of hi) (bnd (getO_D hi) (bnd (ixO_of (by omega)) (bnd (getO_D (by omega)) (bnd (x:=((srt w).getD i 0).toNat) (by unfold ixO; rw [if_pos (by omega)]) (bnd rfl (bnd (x:=((i+1:Nat):Int)) (by rw [wrap_succ (by omega)]) rfl)))))))
/-! what stands where -/
theorem place_at {z u D:List Int} (hd:∀ a b,a<u.length→b<u.length→(u.getD a 0).toNat=(u.getD b 0).toNat→a=b) (hz:∀ a,a<u.length→(u.getD a 0).toNat<z.length):∀ i,i≤u.length→∀ k,k<i→(place z u D i).getD (u.getD k 0).toNat 0=D.getD k 0
 | 0,_,k,h=>by omega
 | i+1,hi,k,h=>by
  rw [place]
  by_cases e:k=i
  ·subst e; exact getD_set_eq (by rw [place_len]; exact hz k (by omega))
  ·rw [getD_set_ne (fun h2=>e (hd k i (by omega) (by omega) h2.symm))]
   exact place_at hd hz i (by omega) k (by omega)
theorem place_out {z u D:List Int} {x:Nat}:∀ i,(∀ k,k<i→(u.getD k 0).toNat≠x)→(place z u D i).getD x 0=z.getD x 0
 | 0,_=>rfl
 | i+1,h=>by
  rw [place,getD_set_ne (h i (by omega))]
  exact place_out i fun k hk=>h k (by omega)
theorem srt_dist {w:List Int} {a b:Nat} (ha:a<(srt w).length) (hb:b<(srt w).length) (h:((srt w).getD a 0).toNat=((srt w).getD b 0).toNat):a=b:=by
 have h1:=srt_mem ha
 have h2:=srt_mem hb
 have hn:(srt w).Nodup:=(srt_perm w).nodup_iff.2 ((posN_asc w w.length).imp fun h=>by omega)
 have e:(srt w)[a]=(srt w)[b]:=by rw [getD_at ha,getD_at hb]; omega
 have hp:=List.pairwise_iff_getElem.1 hn
 rcases Nat.lt_trichotomy a b with h3 | h3 | h3
 ·exact absurd e (hp a b ha hb h3)
 ·exact h3
 ·exact absurd e.symm (hp b a hb ha h3)
theorem dep_len (w:List Int):(dep w).length=w.length:=by
 unfold dep
 split
 ·simp
 ·split
  ·simp
  ·rw [place_len]; simp
theorem rep_getD (n k:Nat):(List.replicate n (0:Int)).getD k 0=0:=by
 simp only [List.getD_eq_getElem?_getD,List.getElem?_replicate]; split <;> rfl
theorem dep_srt {w:List Int} (h2:2≤(pos w).length) {k:Nat} (hk:k<(pos w).length):(dep w).getD ((srt w).getD k 0).toNat 0=(coreD (wts w)).getD k 0:=by
 rw [dep,if_neg (by omega),if_neg (by omega)]
 refine place_at (fun a b ha hb h=>srt_dist ha hb h) (fun a ha => ?_) _ (Nat.le_refl _) k (by rw [srt_len]; exact hk)
 have:=srt_mem ha
 simp only [List.length_replicate]; omega
theorem dep_zero {w:List Int} {i:Nat} (h:¬ 0<w.getD i 0):(dep w).getD i 0=0:=by
 unfold dep
 split
 ·exact rep_getD _ _
 ·split
  ·rename_i h1
   have hm:(pos w).getD 0 0∈pos w:=by rw [← getD_at (by omega)]; exact List.getElem_mem _
   have:=posN_lt w w.length _ hm
   rw [getD_set_ne (fun e=>by rw [e] at this; omega)]
   exact rep_getD _ _
  ·rw [place_out _ (fun k hk e=>by have:=srt_mem hk; rw [e] at this; omega)]
   exact rep_getD _ _
theorem dep_one {w:List Int} (h1:(pos w).length=1) {i:Nat} (hi:i<w.length) (h:0<w.getD i 0):(dep w).getD i 0=1:=by
 have hm:=posN_mem w w.length i hi h
 have he:(pos w).getD 0 0=(i:Int):=by
  obtain ⟨x,hx⟩:=List.length_eq_one_iff.1 h1
  have hm:(i:Int)∈pos w:=hm
  rw [hx] at hm ⊢
  simp at hm
  simp [hm]
 rw [dep,if_neg (by omega),if_pos h1,he,Int.toNat_natCast,getD_set_eq (by simp; omega)]
theorem srt_find {w:List Int} {i:Nat} (hi:i<w.length) (h:0<w.getD i 0):∃ k,k<(pos w).length∧(srt w).getD k 0=(i:Int):=by
 have hm:=(srt_perm w).mem_iff.2 (posN_mem w w.length i hi h)
 obtain ⟨k,hk,e⟩:=mem_getD hm
 exact ⟨k,by rw [← srt_len]; exact hk,e.symm⟩
/-! halved -/
def hv (w:List Int):List Int:=w.map fun x=>(x+1) / 2
def hvN (w:List Int):Nat→List Int
 | 0=>w
 | j+1=>hv (hvN w j)
theorem hv_len (w:List Int):(hv w).length=w.length:=by simp [hv]
theorem hv_at (w:List Int) (i:Nat):(hv w).getD i 0=if i<w.length then (w.getD i 0+1) / 2 else 0:=by
 by_cases h:i<w.length
 ·simp [hv,List.getD_eq_getElem?_getD,h]
 ·simp [hv,List.getD_eq_getElem?_getD,h]
theorem posN_congr {w v:List Int}:∀ n,(∀ i,i<n→(0<w.getD i 0↔0<v.getD i 0))→posN w n=posN v n
 | 0,_=>rfl
 | n+1,h=>by
  have ih:=posN_congr n fun i hi=>h i (by omega)
  have h1:=h n (by omega)
  rw [posN,posN,ih]
  by_cases h2:0<w.getD n 0
  ·rw [if_pos h2,if_pos (h1.1 h2)]
  ·rw [if_neg h2,if_neg (fun e=>h2 (h1.2 e))]
theorem hv_pos {w:List Int} (hw:okW w):pos (hv w)=pos w:=by
 unfold pos
 rw [hv_len]
 refine posN_congr _ fun i hi => ?_
 rw [hv_at,if_pos hi]
 have:=hw.2 i hi
 omega
theorem hv_ok {w:List Int} (hw:okW w):okW (hv w):=by
 refine ⟨by rw [hv_len]; exact hw.1,fun i hi => ?_⟩
 rw [hv_len] at hi
 rw [hv_at,if_pos hi]
 have:=hw.2 i hi
 omega
theorem hvN_ok {w:List Int} (hw:okW w):∀ j,okW (hvN w j)
 | 0=>hw
 | j+1=>hv_ok (hvN_ok hw j)
theorem hvN_len (w:List Int):∀ j,(hvN w j).length=w.length
 | 0=>rfl
 | j+1=>by rw [hvN,hv_len]; exact hvN_len w j
theorem hvN_pos {w:List Int} (hw:okW w):∀ j,pos (hvN w j)=pos w
 | 0=>rfl
 | j+1=>by rw [hvN,hv_pos (hvN_ok hw j)]; exact hvN_pos hw j
theorem hvN_le {w:List Int} (hw:okW w):∀ j,j≤20→∀ i,i<w.length→(hvN w j).getD i 0≤((2 ^ (20-j):Nat):Int)
 | 0,_,i,hi=>by have:=hw.2 i hi; simpa [hvN] using this.2
 | j+1,hj,i,hi=>by
  have ih:=hvN_le hw j (by omega) i hi
  rw [hvN,hv_at,if_pos (by rw [hvN_len]; exact hi)]
  have e:2 ^ (20-j)=2 * 2 ^ (20-(j+1)):=by rw [show 20-j=(20-(j+1))+1 by omega,Nat.pow_succ]; omega
  rw [e] at ih
  omega
/-! all weights the same -/
theorem ones_mst {W0:List Int} (hs:∀ k,k<W0.length→W0.getD k 0=1):∀ i,i<W0.length∨i=0→(mst W0 i).lf=min (2 * i) W0.length∧(mst W0 i).mg=W0.length+(2 * i-W0.length)∧∀ j,j<2 * i→(mst W0 i).C.getD j 0=j
 | 0,_=>⟨by simp [mst],by simp [mst],fun j h=>by omega⟩
 | i+1,h=>by
  have hs1:∀ p q,p≤q→q<W0.length→W0.getD p 0≤W0.getD q 0:=fun p q h1 h2=>by rw [hs p (by omega),hs q h2]; omega
  have v:=inv_all hs1 (fun k hk=>by rw [hs k hk]; omega) i (by omega)
  obtain ⟨e1,e2,e3⟩:=ones_mst hs i (by omega)
  obtain ⟨s,hse⟩:∃ s,s=mst W0 i:=⟨_,rfl⟩
  rw [← hse] at v e1 e2 e3
  have key:∀ lf mg,lf+mg=s.lf+s.mg∨lf+mg=s.lf+s.mg+1→lf=min (lf+mg-W0.length) W0.length→W0.length≤mg→(lst W0.length s.W lf mg).1=lf+mg-W0.length∧(lst W0.length s.W lf mg).2.1+(lst W0.length s.W lf mg).2.2=lf+mg+1∧(lst W0.length s.W lf mg).2.1=min (lf+mg+1-W0.length) W0.length∧W0.length≤(lst W0.length s.W lf mg).2.2:=by
   intro lf mg h1 h2 h3
   have h4:=v.cnt
   have h5:=v.wl
   unfold lst
   by_cases hc:lf<W0.length
   ·have hcond:lf<W0.length∧(mg=s.W.length∨s.W.getD lf 0≤s.W.getD mg 0):=by
     refine ⟨hc,?_⟩
     rcases Nat.lt_or_ge mg s.W.length with h6 | h6
     ·right
      rw [v.leaf lf hc,hs lf hc]
      exact v.pos mg (by omega)
     ·left
      have:=v.mg2
      omega
    rw [if_pos hcond]
    refine ⟨?_,?_,?_,?_⟩ <;> (try simp only) <;> omega
   ·rw [if_neg (fun e=>hc e.1)]
    refine ⟨?_,?_,?_,?_⟩ <;> (try simp only) <;> omega
  have k1:=key s.lf s.mg (.inl rfl) (by have:=v.cnt; omega) v.mg1
  have k2:=key (lst W0.length s.W s.lf s.mg).2.1 (lst W0.length s.W s.lf s.mg).2.2 (.inr (by omega)) (by rw [k1.2.2.1]; omega) k1.2.2.2
  have hcn:=v.cnt
  have hcl:=v.cl
  have g2:=getN_two (C:=s.C) (a:=(lst W0.length s.W s.lf s.mg).1) (b:=(lst W0.length s.W (lst W0.length s.W s.lf s.mg).2.1 (lst W0.length s.W s.lf s.mg).2.2).1) hcl
  rw [mst,← hse]
  unfold mstep
  simp only
  refine ⟨by omega,by omega,fun j hj => ?_⟩
  by_cases h1:j<2 * i
  ·rw [getN_app_l (by omega)]; exact e3 j h1
  ·by_cases h2:j=2 * i
   ·subst h2; rw [g2.1]; omega
   ·obtain rfl:j=2 * i+1:=by omega
    rw [g2.2]; omega
theorem ones_P {W0:List Int} (hs:∀ k,k<W0.length→W0.getD k 0=1) (h2:2≤W0.length) (k:Nat) (hk:k<2 * W0.length-2):(mst W0 (W0.length-1)).P.getD k 0=((W0.length+k / 2:Nat):Int):=by
 have hs1:∀ p q,p≤q→q<W0.length→W0.getD p 0≤W0.getD q 0:=fun p q h1 h2=>by rw [hs p (by omega),hs q h2]; omega
 have v:=inv_all hs1 (fun k hk=>by rw [hs k hk]; omega) (W0.length-1) (by omega)
 have e:=(ones_mst hs (W0.length-1) (by omega)).2.2 k (by omega)
 have:=v.par k (by omega)
 rw [e] at this
 exact this
theorem ones_depth {W0:List Int} (hs:∀ k,k<W0.length→W0.getD k 0=1) (h2:2≤W0.length):∀ t r:Nat,r+1<2 ^ (t+1)→r≤2 * W0.length-2→(coreD W0).getD (2 * W0.length-2-r) 0≤(t:Int):=by
 have hs1:∀ p q,p≤q→q<W0.length→W0.getD p 0≤W0.getD q 0:=fun p q h1 h2=>by rw [hs p (by omega),hs q h2]; omega
 have v:=inv_all hs1 (fun k hk=>by rw [hs k hk]; omega) (W0.length-1) (by omega)
 have hP:=inv_okP h2 v
 have hroot:(coreD W0).getD (2 * W0.length-2) 0=0:=by
  have:=dst_root (mst W0 (W0.length-1)).P (L:=2 * W0.length-1) (by omega)
  rw [show 2 * W0.length-1-1=2 * W0.length-2 by omega] at this
  exact this
 intro t
 induction t with
 | zero =>
  intro r h1 h3
  obtain rfl:r=0:=by omega
  rw [Nat.sub_zero,hroot]; exact Int.le_refl _
 | succ t ih =>
  intro r h1 h3
  by_cases h0:r=0
  ·subst h0; rw [Nat.sub_zero,hroot]; omega
  have e:=dst_eq hP (2 * W0.length-2-r) (by omega)
  rw [show 2 * W0.length-1-1=2 * W0.length-2 by omega] at e
  rw [ones_P hs h2 _ (by omega),Int.toNat_natCast] at e
  have hp:2 ^ (t+1+1)=2 * 2 ^ (t+1):=by rw [Nat.pow_succ]; omega
  have:=ih ((r-1) / 2) (by omega) (by omega)
  rw [show 2 * W0.length-2-(r-1) / 2=W0.length+(2 * W0.length-2-r) / 2 by omega] at this
  unfold coreD at *
  omega
def fits (w:List Int) (limit:Int):Prop:=∀ i,i<w.length→(dep w).getD i 0≤limit
theorem ones_fits {w:List Int} {limit:Int} (hw:okW w) (hL:okL w limit) (h1:∀ i,i<w.length→w.getD i 0≤1):fits w limit:=by
 intro i hi
 unfold okL at hL
 have hlim:5≤limit:=by
  have:=hL.1
  split at this <;> omega
 by_cases hp:0<w.getD i 0
 ·by_cases h2:2≤(pos w).length
  ·obtain ⟨k,hk,e⟩:=srt_find hi hp
   have hd:=dep_srt h2 hk
   rw [e,Int.toNat_natCast] at hd
   rw [hd]
   have hwl:=wts_len w
   have hone:∀ k,k<(wts w).length→(wts w).getD k 0=1:=by
    intro k hk
    have h3:=wts_pos hk
    rw [hwl,← srt_len] at hk
    rw [wts_at hk] at h3 ⊢
    have h4:=srt_mem hk
    have:=h1 ((srt w).getD k 0).toNat (by omega)
    omega
   have hpl:=pos_len w
   have hw1:=hw.1
   have hod:=fun t r=>ones_depth hone (by omega) t r
   have er:k=2 * (wts w).length-2-(2 * (wts w).length-2-k):=by omega
   rw [er]
   by_cases h19:(pos w).length≤19
   ·rw [if_pos h19] at hL
    have:=hod 5 (2 * (wts w).length-2-k) (by simp only [Nat.reduceAdd,Nat.reducePow]; omega) (by omega)
    omega
   ·rw [if_neg h19] at hL
    have:=hod 9 (2 * (wts w).length-2-k) (by simp only [Nat.reduceAdd,Nat.reducePow]; omega) (by omega)
    omega
  ·have hc:(pos w).length=1:=by
    have:=posN_mem w w.length i hi hp
    have:0<(pos w).length:=List.length_pos_of_mem this
    omega
   rw [dep_one hc hi hp]; omega
 ·rw [dep_zero hp]; omega
theorem contains_eq (l:List Int) (limit:Int) (hl:l.length≤1000):((∀ i,i<l.length→l.getD i 0≤limit)→slices_ContainsFunc_int_int_of_tree_Lengths_1 l limit=some false)∧(¬ (∀ i,i<l.length→l.getD i 0≤limit)→slices_ContainsFunc_int_int_of_tree_Lengths_1 l limit=some true):=by
 have go:∀ i,i<l.length→l.getD i 0≤limit→∀ {O:Type},(cond ((decide ((i:Int)<(l.length:Int))))
    ((ixO (i:Int) l.length).bind fun v2 =>
    (getO l v2).bind fun v3 =>
    (tree_Lengths_1_cap v3 limit).bind fun v4 =>
    cond (v4)
     (some (.inr (.inr ((i:Int)))))
     ((some (IntKind.i64.wrap ((i:Int)+1))).bind fun v6 =>
     some (.inl v6)))
    (some (.inr (.inl ()))))=(some (.inl ((i+1:Nat):Int)):Option (Int⊕(Unit⊕Int))):=by
  intro i hi hle O
  exact cnd_t (by simp; omega) (bnd (ixO_of hi) (bnd (getO_D hi) (bnd (x:=false) (by unfold tree_Lengths_1_cap; rw [decide_eq_false (by omega)]) (cnd_f rfl (bnd (x:=((i+1:Nat):Int)) (by rw [wrap_succ (by omega)]) rfl)))))
 constructor
 ·intro h
  unfold slices_ContainsFunc_int_int_of_tree_Lengths_1
  refine bnd (x := -1) ?_ (by simp)
  unfold slices_IndexFunc_int_int_of_tree_Lengths_1
  refine bndL (s:=()) ?_ rfl
  exact loop_from (fun i=>(i:Int)) l.length BIG rfl (by unfold BIG; omega) (fun i hi=>go i hi (h i hi) (O:=Unit)) (cnd_f (by simp) rfl)
 ·intro h
  rcases first_fail (fun i=>decide (l.getD i 0≤limit)) l.length with h1 | ⟨k,hk,h1,h2⟩
  ·exact absurd (fun i hi=>of_decide_eq_true (h1 i hi)) h
  have h2:=of_decide_eq_false h2
  unfold slices_ContainsFunc_int_int_of_tree_Lengths_1
  refine bnd (x:=(k:Int)) ?_ (by simp)
  unfold slices_IndexFunc_int_int_of_tree_Lengths_1
  refine bndR (a:=(k:Int)) ?_ rfl
  refine loop_from (fun i=>(i:Int)) k BIG rfl (by unfold BIG; omega) (fun i hi=>go i (by omega) (of_decide_eq_true (h1 i hi)) (O:=Unit)) ?_
  exact cnd_t (by simp; omega) (bnd (ixO_of hk) (bnd (getO_D hk) (bnd (x:=true) (by unfold tree_Lengths_1_cap; rw [decide_eq_true (by omega)]) (cnd_t rfl rfl))))
def hvP (w:List Int):Nat→List Int
 | 0=>w
 | i+1=>(hvP w i).set i (((hvP w i).getD i 0+1) / 2)
theorem hvP_len (w:List Int):∀ i,(hvP w i).length=w.length
 | 0=>rfl
 | i+1=>by rw [hvP,List.length_set]; exact hvP_len w i
theorem hvP_at (w:List Int):∀ i k,i≤w.length→(hvP w i).getD k 0=if k<i then (w.getD k 0+1) / 2 else w.getD k 0
 | 0,k,_=>by simp [hvP]
 | i+1,k,h=>by
  rw [hvP]
  by_cases e:i=k
  ·subst e
   rw [getD_set_eq (by rw [hvP_len]; omega),hvP_at w i i (by omega),if_neg (by omega),if_pos (by omega)]
  ·rw [getD_set_ne e,hvP_at w i k (by omega)]
   by_cases h1:k<i
   ·rw [if_pos h1,if_pos (by omega)]
   ·rw [if_neg h1,if_neg (by omega)]
theorem hvP_all (w:List Int):hvP w w.length=hv w:=by
 apply List.ext_getElem
 ·rw [hvP_len,hv_len]
 ·intro i h1 h2
  rw [getD_at h1,getD_at h2,hvP_at w _ _ (Nat.le_refl _),hv_at]
  rw [hvP_len] at h1
  rw [if_pos h1,if_pos h1]
theorem quo_two {x:Int} (h0:0≤x) (h1:x<4611686018427387904):quoO .i64 x 2=some (x / 2):=by
 unfold quoO
 rw [if_neg (by omega),Int.tdiv_eq_ediv_of_nonneg h0,wrap_i64 (by omega) (by omega)]
theorem fits_first {w:List Int} {limit:Int} (hw:okW w) (hL:okL w limit):∃ J,J≤20∧(∀ j,j<J→¬ fits (hvN w j) limit)∧fits (hvN w J) limit:=by
 have h20:fits (hvN w 20) limit:=by
  refine ones_fits (hvN_ok hw 20) ?_ fun i hi => ?_
  ·unfold okL at hL ⊢
   rw [hvN_pos hw]; exact hL
  ·rw [hvN_len] at hi
   simpa using hvN_le hw 20 (Nat.le_refl _) i hi
 have:∀ n,(∃ J,J<n∧(∀ j,j<J→¬ fits (hvN w j) limit)∧fits (hvN w J) limit)∨∀ j,j<n→¬ fits (hvN w j) limit:=by
  intro n
  induction n with
  | zero=>exact .inr fun j h=>by omega
  | succ n ih =>
   rcases ih with ⟨J,h1,h2⟩ | h
   ·exact .inl ⟨J,by omega,h2⟩
   ·by_cases hf:fits (hvN w n) limit
    ·exact .inl ⟨n,by omega,h,hf⟩
    ·refine .inr fun j hj => ?_
     by_cases e:j=n
     ·subst e; exact hf
     ·exact h j (by omega)
 rcases this 21 with ⟨J,h1,h2⟩ | h
 ·exact ⟨J,by omega,h2⟩
 ·exact absurd h20 (h 20 (by omega))
theorem clone03 (w:List Int) (h:w.length≤300):slices_Clone_int_int w=some w:=by
 unfold slices_Clone_int_int
 rw [if_pos (by omega)]
theorem lengths_at {w:List Int} {limit:Int} (hw:okW w) (hL:okL w limit) {J:Nat} (hJ:J≤20) (hno:∀ j,j<J→¬ fits (hvN w j) limit) (hyes:fits (hvN w J) limit):tree_Lengths w limit=some (dep (hvN w J),0):=by
 unfold tree_Lengths
 refine bndL (s:=false) (bnd ((validW_eq w).1 hw) (cnd_f rfl (bnd ((validL_eq w limit hw.1).1 hL) rfl))) (cnd_f rfl (bnd (clone03 w hw.1) ?_))
 refine bndR (a:=(dep (hvN w J),0)) ?_ rfl
 have hdl:=fun j=>dep_len (hvN w j)
 have hll:=hvN_len w
 have hw1:=hw.1
 refine loop_from (fun j=>hvN w j) J BIG rfl (by unfold BIG; omega) (fun j hj => ?_) ?_
 ·have hok:=hvN_ok hw j
  have hc:=(contains_eq (dep (hvN w j)) limit (by rw [hdl,hll]; omega)).2 (fun h=>hno j hj (fun i hi=>h i (by rw [hdl]; exact hi)))
  refine bnd (depths_eq hok) (bnd hc (cnd_f rfl ?_))
  refine bndL (s:=hv (hvN w j)) ?_ rfl
  rw [← hvP_all]
  refine loop_from (fun i=>(hvP (hvN w j) i,(i:Int))) (hvN w j).length BIG rfl (by rw [hll]; unfold BIG; omega) (fun i hi => ?_) (cnd_f (by simp) rfl)
  have hpl:=hvP_len (hvN w j) i
  have ha:=hvP_at (hvN w j) i i (by omega)
  rw [if_neg (by omega)] at ha
  have hb:=hok.2 i hi
  rw [hll] at hi
  exact cnd_t (by simp only [hll]; simp; omega) (bnd (ixO_of (by rw [hpl,hll]; exact hi)) (bnd (getO_D (by rw [hpl,hll]; exact hi)) (bnd (x:=(hvP (hvN w j) i).getD i 0+1) (by rw [wrap_i64 (by omega) (by omega)]) (bnd (quo_two (by omega) (by omega)) (bnd (ixO_of (by rw [hpl,hll]; exact hi)) (bnd rfl (bnd (x:=((i+1:Nat):Int)) (by rw [wrap_succ (by omega)]) rfl)))))))
 ·have hc:=(contains_eq (dep (hvN w J)) limit (by rw [hdl,hll]; omega)).1 (fun i hi=>hyes i (by rw [hdl] at hi; exact hi))
  exact bnd (depths_eq (hvN_ok hw J)) (bnd hc (cnd_t rfl rfl))
theorem lengths_eq {w:List Int} {limit:Int} (hw:okW w) (hL:okL w limit):∃ J,J≤20∧(∀ j,j<J→¬ fits (hvN w j) limit)∧fits (hvN w J) limit∧tree_Lengths w limit=some (dep (hvN w J),0):=by
 obtain ⟨J,h0,h1,h2⟩:=fits_first hw hL
 exact ⟨J,h0,h1,h2,lengths_at hw hL h0 h1 h2⟩
/-! how deep -/
section
variable {W0:List Int} (h2:2≤W0.length) (v:Inv W0 (W0.length-1) (mst W0 (W0.length-1)))
include h2 v
theorem core_eq (k:Nat) (hk:k<2 * W0.length-2):(coreD W0).getD k 0=(coreD W0).getD ((mst W0 (W0.length-1)).P.getD k 0).toNat 0+1:=by
 have:=dst_eq (inv_okP h2 v) k (by omega)
 rw [show 2 * W0.length-1-1=2 * W0.length-2 by omega] at this
 exact this
end
section
variable {W0:List Int} (h2:2≤W0.length) (v:Inv W0 (W0.length-1) (mst W0 (W0.length-1)))
include h2 v
theorem core_root:(coreD W0).getD (2 * W0.length-2) 0=0:=by
 have _:=v.wl
 have:=dst_root (mst W0 (W0.length-1)).P (L:=2 * W0.length-1) (by omega)
 rw [show 2 * W0.length-1-1=2 * W0.length-2 by omega] at this
 exact this
end
section
variable {W0:List Int} (h2:2≤W0.length) (v:Inv W0 (W0.length-1) (mst W0 (W0.length-1)))
include h2 v
theorem taken {k:Nat} (hk:k<2 * W0.length-2):∃ j,j<2 * W0.length-2∧(mst W0 (W0.length-1)).C.getD j 0=k∧((mst W0 (W0.length-1)).P.getD k 0).toNat=W0.length+j / 2:=by
 have hm:k∈(mst W0 (W0.length-1)).C:=(v.mem k).2 (by have:=v.cnt; have:=v.mg2; have:=v.lf; omega)
 obtain ⟨j,hj,e⟩:=List.getElem_of_mem hm
 have e:(mst W0 (W0.length-1)).C.getD j 0=k:=by rw [← e]; simp [hj]
 rw [v.cl] at hj
 refine ⟨j,by omega,e,?_⟩
 have:=v.par j hj
 rw [e] at this
 rw [this,Int.toNat_natCast]
end
section
variable {W0:List Int} (h2:2≤W0.length) (v:Inv W0 (W0.length-1) (mst W0 (W0.length-1)))
include h2 v
end
section
variable {W0:List Int} (h2:2≤W0.length) (v:Inv W0 (W0.length-1) (mst W0 (W0.length-1)))
include h2 v
end
section
variable {W0:List Int} (h2:2≤W0.length) (v:Inv W0 (W0.length-1) (mst W0 (W0.length-1)))
include h2 v
end
def sumN (f:Nat→Nat):Nat→Nat
 | 0=>0
 | n+1=>sumN f n+f n
theorem sumN_congr {f g:Nat→Nat}:∀ n,(∀ i,i<n→f i=g i)→sumN f n=sumN g n
 | 0,_=>rfl
 | n+1,h=>by rw [sumN,sumN,sumN_congr n fun i hi=>h i (by omega),h n (by omega)]
theorem sumN_add (f:Nat→Nat) (a:Nat):∀ b,sumN f (a+b)=sumN f a+sumN (fun i=>f (a+i)) b
 | 0=>rfl
 | b+1=>by rw [← Nat.add_assoc,sumN,sumN_add f a b,sumN]; omega
theorem sumN_list (f:Nat→Nat) (l:List Nat):∀ n,n≤l.length→sumN (fun j=>f (l.getD j 0)) n=((l.take n).map f).sum
 | 0,_=>rfl
 | n+1,h=>by
  rw [sumN,sumN_list f l n (by omega),List.take_add_one,List.map_append,List.sum_append]
  have:n<l.length:=by omega
  simp [this]
theorem sumN_range (f:Nat→Nat):∀ n,sumN f n=((List.range n).map f).sum
 | 0=>rfl
 | n+1=>by rw [sumN,sumN_range f n,List.range_succ,List.map_append,List.sum_append]; simp
theorem nsum_perm {l m:List Nat} (h:l.Perm m):l.sum=m.sum:=by
 induction h with
 | nil=>rfl
 | cons x _ ih=>rw [List.sum_cons,List.sum_cons,ih]
 | swap x y l=>simp only [List.sum_cons]; omega
 | trans _ _ ih1 ih2=>exact ih1.trans ih2
section
variable {W0:List Int} (h2:2≤W0.length) (v:Inv W0 (W0.length-1) (mst W0 (W0.length-1)))
include h2 v
theorem core_le {d:Int} (hd:∀ k,k<W0.length→(coreD W0).getD k 0≤d):∀ k,k<2 * W0.length-1→(coreD W0).getD k 0≤d:=by
 intro k
 induction k using Nat.strongRecOn with
 | ind k ih =>
  intro hk
  by_cases h:k<W0.length
  ·exact hd k h
  ·obtain ⟨q,rfl⟩:∃ q,k=W0.length+q:=⟨k-W0.length,by omega⟩
   have hc:=v.clt (2 * q) (by omega)
   have hp:=v.par (2 * q) (by omega)
   have e:=core_eq h2 v ((mst W0 (W0.length-1)).C.getD (2 * q) 0) (by omega)
   rw [hp,Int.toNat_natCast,show W0.length+2 * q / 2=W0.length+q by omega] at e
   have:=ih ((mst W0 (W0.length-1)).C.getD (2 * q) 0) (by omega) (by omega)
   omega
end
def kx (D:List Int) (k:Nat):Nat:=2 ^ (15-(D.getD k 0).toNat)
theorem kraft {W0:List Int} (h2:2≤W0.length) (v:Inv W0 (W0.length-1) (mst W0 (W0.length-1))) (hd:∀ k,k<W0.length→(coreD W0).getD k 0≤15):sumN (kx (coreD W0)) W0.length=32768:=by
 have hle:=core_le h2 v hd
 have hnn:∀ k,0≤(coreD W0).getD k 0:=fun k=>(dst_bound _ _ _ k).1
 have hX:∀ k,k<2 * W0.length-2→kx (coreD W0) ((mst W0 (W0.length-1)).P.getD k 0).toNat=2 * kx (coreD W0) k:=by
  intro k hk
  have e:=core_eq h2 v k hk
  have h3:=hle k (by omega)
  have h4:=hnn ((mst W0 (W0.length-1)).P.getD k 0).toNat
  unfold kx
  rw [show 15-((coreD W0).getD ((mst W0 (W0.length-1)).P.getD k 0).toNat 0).toNat=(15-((coreD W0).getD k 0).toNat)+1 by omega,Nat.pow_succ]
  omega
 have hC:∀ j,j<2 * (W0.length-1)→(mst W0 (W0.length-1)).C.getD j 0<2 * W0.length-2:=fun j hj=>by have:=v.clt j hj; omega
 have hXC:∀ j,j<2 * (W0.length-1)→kx (coreD W0) (W0.length+j / 2)=2 * kx (coreD W0) ((mst W0 (W0.length-1)).C.getD j 0):=by
  intro j hj
  have:=hX _ (hC j hj)
  rw [v.par j hj,Int.toNat_natCast] at this
  exact this
 have s1:∀ m,m≤W0.length-1→sumN (fun j=>kx (coreD W0) ((mst W0 (W0.length-1)).C.getD j 0)) (2 * m)=sumN (fun q=>kx (coreD W0) (W0.length+q)) m:=by
  intro m
  induction m with
  | zero=>intro _; rfl
  | succ m ih =>
   intro hm
   have e1:=hXC (2 * m) (by omega)
   have e2:=hXC (2 * m+1) (by omega)
   rw [show 2 * m / 2=m by omega] at e1
   rw [show (2 * m+1) / 2=m by omega] at e2
   rw [show 2 * (m+1)=2 * m+1+1 by omega,sumN,sumN,ih (by omega),sumN]
   omega
 have s2:sumN (fun j=>kx (coreD W0) ((mst W0 (W0.length-1)).C.getD j 0)) (2 * (W0.length-1))=sumN (kx (coreD W0)) (2 * (W0.length-1)):=by
  rw [sumN_list _ _ _ (by rw [v.cl]; exact Nat.le_refl _),← v.cl,List.take_length,sumN_range]
  refine nsum_perm (List.Perm.map _ ((List.perm_ext_iff_of_nodup v.nd List.nodup_range).2 fun k => ?_))
  rw [v.mem k,List.mem_range,v.cl]
  have:=v.cnt; have:=v.mg2; have:=v.lf
  omega
 have s3:=s1 (W0.length-1) (Nat.le_refl _)
 rw [s2,show 2 * (W0.length-1)=W0.length+(W0.length-2) by omega,sumN_add,show W0.length-1=(W0.length-2)+1 by omega,sumN] at s3
 have hroot:kx (coreD W0) (W0.length+(W0.length-2))=32768:=by
  unfold kx
  rw [show W0.length+(W0.length-2)=2 * W0.length-2 by omega,core_root h2 v]
  rfl
 omega
/-! what lengths weigh -/
def g1 (x:Int):Nat:=if 0<x then 2 ^ (15-x.toNat) else 0
def wsum (l:List Int):Nat:=(l.map g1).sum
theorem wsum_set {l:List Int} {a:Nat} {y:Int} (ha:a<l.length) (h0:l.getD a 0=0):wsum (l.set a y)=wsum l+g1 y:=by
 induction l generalizing a with
 | nil=>simp at ha
 | cons x l ih =>
  cases a with
  | zero =>
   have:x=0:=by simpa using h0
   subst this
   simp [wsum,g1]
   omega
  | succ a =>
   have:=ih (a:=a) (by simpa using ha) (by simpa using h0)
   simp only [wsum,List.set_cons_succ,List.map_cons,List.sum_cons] at *
   omega
theorem wsum_zero:∀ n,wsum (List.replicate n 0)=0
 | 0=>rfl
 | n+1=>by
  have:=wsum_zero n
  simp only [wsum,List.replicate_succ,List.map_cons,List.sum_cons] at *
  simp [g1,this]
theorem wsum_place {n:Nat} {u D:List Int} (hd:∀ a b,a<u.length→b<u.length→(u.getD a 0).toNat=(u.getD b 0).toNat→a=b) (hz:∀ a,a<u.length→(u.getD a 0).toNat<n):∀ i,i≤u.length→wsum (place (List.replicate n 0) u D i)=sumN (fun k=>g1 (D.getD k 0)) i
 | 0,_=>by rw [place,wsum_zero]; rfl
 | i+1,h=>by
  rw [place,wsum_set (by rw [place_len,List.length_replicate]; exact hz i (by omega)),wsum_place hd hz i (by omega),sumN]
  rw [place_out _ (fun k hk e=>by have:=hd k i (by omega) (by omega) e; omega)]
  exact rep_getD _ _
theorem ws_cons (x:Nat) (m:List Nat):∀ k,ws (x::m) k=ws m k+(if 0<x∧x≤k then 2 ^ (15-x) else 0)
 | 0=>by simp [ws]; omega
 | k+1=>by
  rw [ws,ws_cons x m k,ws,List.count_cons,Nat.add_mul]
  by_cases h:x=k+1
  ·subst h
   rw [if_neg (by omega),if_pos (show 0<k+1∧k+1≤k+1 by omega)]
   simp
   omega
  ·rw [if_neg (show ¬ (x==k+1)=true by simpa using h)]
   by_cases h3:0<x∧x≤k
   ·rw [if_pos h3,if_pos (by omega)]; omega
   ·rw [if_neg h3,if_neg (by omega)]; omega
theorem ws_wsum:∀ l:List Int,(∀ x∈l,x≤15)→ws (l.map Int.toNat) 15=wsum l
 | [],_=>by decide
 | x::l,h=>by
  rw [List.map_cons,ws_cons,ws_wsum l fun y hy=>h y (by simp [hy])]
  have hx:=h x (by simp)
  simp only [wsum,List.map_cons,List.sum_cons,g1]
  by_cases h0:0<x
  ·rw [if_pos (by omega),if_pos h0]; omega
  ·rw [if_neg (by omega),if_neg h0]; omega
theorem dep_nn {w:List Int}:∀ i,0≤(dep w).getD i 0:=by
 intro i
 by_cases hi:i<w.length
 ·by_cases hp:0<w.getD i 0
  ·by_cases h2:2≤(pos w).length
   ·obtain ⟨k,hk,e⟩:=srt_find hi hp
    have hd:=dep_srt h2 hk
    rw [e,Int.toNat_natCast] at hd
    rw [hd]
    exact (dst_bound _ _ _ k).1
   ·have hc:(pos w).length=1:=by
     have:0<(pos w).length:=List.length_pos_of_mem (posN_mem w w.length i hi hp)
     omega
    rw [dep_one hc hi hp]; omega
  ·rw [dep_zero hp]; omega
 ·have hl:=dep_len w
  simp only [List.getD_eq_getElem?_getD,List.getElem?_eq_none (show (dep w).length≤i by omega)]
  simp
theorem core_pos {w:List Int} (h2:2≤(pos w).length) {k:Nat} (hk:k<(pos w).length):1≤(coreD (wts w)).getD k 0:=by
 have hwl:=wts_len w
 have e:=core_eq (by omega) (inv_wts h2) k (by omega)
 have:0≤(coreD (wts w)).getD ((mst (wts w) ((wts w).length-1)).P.getD k 0).toNat 0:=(dst_bound _ _ _ _).1
 omega
theorem fits_core {w:List Int} {limit:Int} (h2:2≤(pos w).length) (hf:fits w limit) {k:Nat} (hk:k<(pos w).length):(coreD (wts w)).getD k 0≤limit:=by
 rw [← dep_srt h2 hk]
 have:=srt_mem (w:=w) (i:=k) (by rw [srt_len]; exact hk)
 exact hf _ (by omega)
theorem dep_check {w:List Int} {limit:Int} (hw:okW w) (hf:fits w limit) (hl:limit≤15):canon_Check (dep w)=some 0:=by
 have hdl:=dep_len w
 have h15:∀ x∈dep w,0≤x∧x≤15:=by
  intro x hx
  obtain ⟨k,hk,rfl⟩:=mem_getD hx
  have:=hf k (by omega)
  have:=dep_nn (w:=w) k
  omega
 have he:ints ((dep w).map Int.toNat)=dep w:=ints_nats fun x hx=>(h15 x hx).1
 have hw1:=hw.1
 have hc:=check_ints ((dep w).map Int.toNat) (by rw [List.length_map]; omega)
 rw [he] at hc
 rw [hc,if_pos ⟨by rw [List.length_map]; omega,fun x hx=>by
  obtain ⟨y,hy,rfl⟩:=List.mem_map.1 hx
  have:=h15 y hy; omega⟩]
 have hforms:forms ((dep w).map Int.toNat)=true:=by
  unfold forms
  by_cases h2:2≤(pos w).length
  ·have hk:=kraft (W0:=wts w) (by rw [wts_len]; exact h2) (inv_wts h2) (fun k hk=>by
    have:=fits_core h2 hf (k:=k) (by rw [wts_len] at hk; exact hk)
    omega)
   have:ws ((dep w).map Int.toNat) 15=32768:=by
    rw [ws_wsum _ fun x hx=>(h15 x hx).2,dep,if_neg (by omega),if_neg (by omega)]
    rw [wsum_place (fun a b ha hb h=>srt_dist ha hb h) (fun a ha=>by have:=srt_mem ha; omega) _ (Nat.le_refl _),srt_len,← hk,wts_len]
    refine sumN_congr _ fun k hk => ?_
    have:=core_pos h2 hk
    unfold g1 kx
    rw [if_pos (by omega)]
   simp [this]
  ·by_cases h1:(pos w).length=1
   ·have:ws ((dep w).map Int.toNat) 15=16384:=by
     have hm:(pos w).getD 0 0∈pos w:=by rw [← getD_at (by omega)]; exact List.getElem_mem _
     have hx:=posN_lt w w.length _ hm
     rw [ws_wsum _ fun x hx=>(h15 x hx).2,dep,if_neg (by omega),if_pos h1,wsum_set (by simp only [List.length_replicate]; omega) (rep_getD _ _),wsum_zero]
     decide
    -- one length of 1
    have ht:ints (tal ((dep w).map Int.toNat))=0::1::List.replicate 14 0:=by
     have hd1:∀ x∈dep w,x=0∨x=1:=by
      intro x hx
      obtain ⟨k,hk,rfl⟩:=mem_getD hx
      by_cases hp:0<w.getD k 0
      ·exact .inr (dep_one h1 (by omega) hp)
      ·exact .inl (dep_zero hp)
     have hcnt:∀ n,2≤n→((dep w).map Int.toNat).count n=0:=by
      intro n hn
      rw [List.count_eq_zero]
      intro hmem
      obtain ⟨y,hy,e⟩:=List.mem_map.1 hmem
      have:=hd1 y hy
      omega
     have hone:((dep w).map Int.toNat).count 1=1:=by
      have hz:∀ k,ws ((dep w).map Int.toNat) (k+1)=((dep w).map Int.toNat).count 1 * 16384:=by
       intro k
       induction k with
       | zero=>simp [ws]
       | succ k ih=>rw [ws,ih,hcnt (k+1+1) (by omega)]; omega
      have h14:=hz 14
      rw [show 14+1=15 from rfl,this] at h14
      omega
     apply List.ext_getElem
     ·simp [ints_len,tal_len]
     ·intro i q1 q2
      have hi:i<16:=by simpa [ints_len,tal_len] using q1
      have ht:=tal_at ((dep w).map Int.toNat) (n:=i) (by rw [tal_len]; exact hi)
      simp only [ints,List.getElem_map]
      rw [ht]
      match i,hi with
      | 0,_=>rfl
      | 1,_=>rw [if_neg (by omega),hone]; rfl
      | i+2,hi =>
       rw [if_neg (by omega),hcnt (i+2) (by omega)]
       simp only [List.getElem_cons_succ,List.getElem_replicate]
       rfl
    simp [ht]
   ·have ht:ints (tal ((dep w).map Int.toNat))=List.replicate 16 0:=by
     have h0:(pos w).length=0:=by omega
     have hd:dep w=List.replicate w.length 0:=by rw [dep,if_pos h0]
     rw [hd,List.map_replicate]
     apply List.ext_getElem
     ·simp [ints_len,tal_len]
     ·intro i q1 q2
      have hi:i<16:=by simpa [ints_len,tal_len] using q1
      have ht:=tal_at (List.replicate w.length (Int.toNat 0)) (n:=i) (by rw [tal_len]; exact hi)
      simp only [ints,List.getElem_map]
      rw [ht,List.getElem_replicate]
      by_cases h:i=0
      ·rw [if_pos h]; rfl
      ·rw [if_neg h,List.count_replicate,if_neg (by simp; omega)]; rfl
    simp [ht]
 rw [hforms]
 rfl
theorem dep_pos {w:List Int} {i:Nat} (hi:i<w.length) (h:0<w.getD i 0):0<(dep w).getD i 0:=by
 by_cases h2:2≤(pos w).length
 ·obtain ⟨k,hk,e⟩:=srt_find hi h
  have d:=dep_srt h2 hk
  rw [e,Int.toNat_natCast] at d
  have:=core_pos h2 hk
  omega
 ·have hc:(pos w).length=1:=by
   have:0<(pos w).length:=List.length_pos_of_mem (posN_mem w w.length i hi h)
   omega
  rw [dep_one hc hi h]; omega
theorem hvN_iff {w:List Int} (hw:okW w):∀ j i,i<w.length→(0<(hvN w j).getD i 0↔0<w.getD i 0)
 | 0,i,_=>Iff.rfl
 | j+1,i,hi=>by
  rw [← hvN_iff hw j i hi,hvN,hv_at,if_pos (by rw [hvN_len]; exact hi)]
  have:=(hvN_ok hw j).2 i (by rw [hvN_len]; exact hi)
  omega
end Go.Abs.Sh
